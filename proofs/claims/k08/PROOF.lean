import PyProof.Rows.All
import Wide.All
import OpenK.AllK
import Wide.FinOn
import Lean
import PyProof.EqAt
import PyProof.EqKinds
import PyProof.TupleCall
import PyProof.NeKinds
import PyProof.FactsAll.range_2
import PyProof.FactsAll.tuple_2
import PyProof.FactsAll.tuple
import PySem.Challenge.RW_starsieve_k08_what_is_a_book
set_option Elab.async false
set_option maxRecDepth 100000
noncomputable section
set_option Elab.async false
set_option linter.all false
set_option maxRecDepth 100000
namespace L2
open PySem PySem.Spec PyProof.Rows
abbrev Key:=Sum Int Str
def uJ:Key→Value→Bool
 |.inl k,v=>Value.isInt k v
 |.inr x,v=>Value.isStrOf x v
def Jy(w:World):Key→Int
 |.inl k=>hashInt k
 |.inr x=>hashStr w x
theorem dN:∀{k:Key}{v:Value},uJ k v=true→(∃i t,k=Sum.inl i∧v=Value.int i t)∨(∃x t,k=Sum.inr x∧v=Value.str x t)
 |.inl i,v,h=>by
  obtain ⟨t,e⟩:=Value.isInt_shape (k:=i) (v:=v) h
  exact .inl ⟨i,t,rfl,e⟩
 |.inr x,v,h=>by
  obtain ⟨t,e⟩:=Value.isStrOf_shape (x:=x) (v:=v) h
  exact .inr ⟨x,t,rfl,e⟩
theorem JB(a b:Int):decide ((Sum.inl a:Key)=Sum.inl b)=(a==b):=by
 by_cases e:a=b
 ·subst e;simp
 ·have h:¬(Sum.inl a:Key)=Sum.inl b:=fun q=>e (Sum.inl.inj q)
  rw[decide_eq_false h]
  exact (beq_eq_false_iff_ne.mpr e).symm
theorem JC(a b:Str):decide ((Sum.inr a:Key)=Sum.inr b)=decide (a=b):=by
 by_cases e:a=b
 ·subst e;simp
 ·have h:¬(Sum.inr a:Key)=Sum.inr b:=fun q=>e (Sum.inr.inj q)
  rw[decide_eq_false h,decide_eq_false e]
theorem JD(a:Int)(b:Str):decide ((Sum.inl a:Key)=Sum.inr b)=false:=decide_eq_false (fun q=>nomatch q)
theorem JF(a:Str)(b:Int):decide ((Sum.inr a:Key)=Sum.inl b)=false:=decide_eq_false (fun q=>nomatch q)
def pU(prog:Program)(w:World):PySem.KeyKind prog w Key where
 is:=uJ
 hash:=Jy w
 inj:=fun v a b ha hb=>by
  rcases dN ha with ⟨i,t,rfl,rfl⟩ |⟨x,t,rfl,rfl⟩
  ·rcases dN hb with ⟨j,u,rfl,e⟩ |⟨y,u,rfl,e⟩
   ·injection e with e1 _;rw[e1]
   ·exact nomatch e
  ·rcases dN hb with ⟨j,u,rfl,e⟩ |⟨y,u,rfl,e⟩
   ·exact nomatch e
   ·injection e with e1 _;rw[e1]
 byValue:=fun k v h=>by
  rcases dN h with ⟨i,t,rfl,rfl⟩ |⟨x,t,rfl,rfl⟩ <;> rfl
 pyHash:=fun hv h=>by
  rcases dN hv with ⟨i,t,rfl,rfl⟩ |⟨x,t,rfl,rfl⟩
  ·exact wpAny_pyHash_int h
  ·exact wpAny_pyHash_str h
 eqBool:=fun hu hv h=>by
  rcases dN hu with ⟨i,t,rfl,rfl⟩ |⟨x,t,rfl,rfl⟩
  ·rcases dN hv with ⟨j,u,rfl,rfl⟩ |⟨y,u,rfl,rfl⟩
   ·rw[JB]at h;exact wpAny_eqBool_int h
   ·rw[JD]at h;exact SeqAt.EqAt.int_str i t y u _ _ _ _ h
  ·rcases dN hv with ⟨j,u,rfl,rfl⟩ |⟨y,u,rfl,rfl⟩
   ·rw[JF]at h;exact SeqAt.EqAt.str_int x t j u _ _ _ _ h
   ·rw[JC]at h;exact wpAny_eqBool_str h
 «strs»:=fun k x t v h=>by
  rcases dN h with ⟨i,u,rfl,e⟩ |⟨y,u,rfl,e⟩
  ·exact nomatch e
  ·injection e with e1 _
   subst e1
   cases v <;> rfl
end L2
namespace L2
open PySem PySem.Spec PyProof.Rows
inductive V where
 |non |bl (b:Bool) |int (i:Int) |str (x:Str) |byt (b:Array UInt8) |flt (b:UInt64) |ref (a:Addr) |ty (n:String)
 deriving DecidableEq
def RelV:V→Value→Prop
 |.non,u=>u=Value.none
 |.bl b,u=>u=Value.bool b
 |.int i,u=>∃t,u=Value.int i t
 |.str x,u=>∃t,u=Value.str x t
 |.byt b,u=>∃t,u=Value.bytes b t
 |.flt b,u=>∃t,u=Value.float b t
 |.ref a,u=>u=Value.ref a
 |.ty n,u=>u=Value.type n
abbrev Vals:List V→List Value→Prop:=Paired RelV
theorem Vals.length{xs:List V}{us:List Value}(r:Vals xs us):xs.length=us.length:=Paired.length r
theorem Vals.get:∀{xs:List V}{us:List Value}{i:Nat}{x:V},Vals xs us→xs[i]?=some x→∃u,us[i]?=some u∧RelV x u
 |_,_,_,_,.nil,e=>by simp at e
 |_,_,0,_,.cons r _,e=>by simp at e;subst e;exact ⟨_,rfl,r⟩
 |_,_,i+1,x,.cons _ t,e=>by
  obtain ⟨u,h1,h2⟩:=Vals.get (i:=i) (x:=x) t (by simpa using e)
  exact ⟨u,by simpa using h1,h2⟩
theorem Vals.set{x:V}{u:Value}(r:RelV x u):∀{xs:List V}{us:List Value}(i:Nat),Vals xs us→Vals (xs.set i x) (us.set i u)
 |_,_,_,.nil=>.nil
 |_,_,0,.cons _ t=>.cons r t
 |_,_,i+1,.cons q t=>.cons q (Vals.set r i t)
theorem Vals.append:∀{xs ys:List V}{us ws:List Value},Vals xs us→Vals ys ws→Vals (xs++ys) (us++ws)
 |_,_,_,_,.nil,s=>s
 |_,_,_,_,.cons r t,s=>.cons r (Vals.append t s)
theorem Vals.take:∀{xs:List V}{us:List Value}(n:Nat),Vals xs us→Vals (xs.take n) (us.take n)
 |_,_,0,_=>.nil
 |_,_,_+1,.nil=>.nil
 |_,_,n+1,.cons r t=>.cons r (Vals.take n t)
theorem Vals.drop:∀{xs:List V}{us:List Value}(n:Nat),Vals xs us→Vals (xs.drop n) (us.drop n)
 |_,_,0,r=>r
 |_,_,_+1,.nil=>.nil
 |_,_,n+1,.cons _ t=>Vals.drop n t
def pW:Option V→Option Value→Prop
 |some v,some u=>RelV v u
 |none,none=>True
 |_,_=>False
def KV{κ:Type}:List (κ×V)→List (κ×Value)→Prop:=Paired fun (p:κ×V) (q:κ×Value)=>p.1=q.1∧RelV p.2 q.2
def kV:Key→V
 |.inl i=>.int i
 |.inr x=>.str x
inductive HO where
 |lst (xs:List V)
 |tup (xs:List V)
 |dK (kvs:List (Key×V)) |dT (kvs:List (List Key×V))
 |set (S:Int→Bool) (n:Nat)
 |ins (C dx:Addr) (fs:List (Str×V))
 |own (x:Addr)
 |xd (fs:List (Str×V))
 |met (f x:Addr)
 |rng (lo hi:Int)
 |frz (o:Obj) (u:HO)
 |tbl (ps:Array Value)
 |ext (φ:Heap→Prop)
abbrev Hp:=Addr→Option HO
def upd(H:Hp)(a:Addr)(o:HO):Hp:=fun b=>if b=a then some o else H b
theorem cT{H:Hp}{a:Addr}{o:HO}:upd H a o a=some o:=by unfold upd;rw[if_pos rfl]
theorem aC{H:Hp}{a b:Addr}{o:HO}(h:b≠a):upd H a o b=H b:=by unfold upd;rw[if_neg h]
theorem uK{H:Hp}{a b:Addr}{o u:HO}(h:H a=some o)(h':H b=some u)(d:o≠u):a≠b:=by
 intro e;subst e;rw[h]at h';exact d (Option.some.inj h')
theorem aU{H:Hp}{a b:Addr}{o:HO}(h:H a=some o)(h':H b=none):a≠b:=by
 intro e;subst e;rw[h]at h';cases h'
section
variable (P:Program) (w:World)
def ObjOk(H:Hp)(h:Heap)(a:Addr):HO→Prop
 |.lst xs=>xs.length≤sizeLine∧∃(its:List Value) (n:Nat),Vals xs its∧h.get? a=some { cls:=.type "list",data:=.seq its.toArray n }
 |.tup xs=>xs.length≤sizeLine∧∃its:List Value,Vals xs its∧IsTup h a its.toArray
 |.dK kvs=>kvs.length≤sizeLine∧(a==sysModules)=false∧∃vs,KV kvs vs∧h.DictOf (pU P w) a vs
 |.dT kvs=>kvs.length≤sizeLine∧(a==sysModules)=false∧∃xs:List (List Key×Addr×Value),
   Paired (fun (p:List Key×V) (q:List Key×Addr×Value)=>p.1=q.1∧H q.2.1=some (.tup (p.1.map kV))∧RelV p.2 q.2.2) kvs xs∧
   ∃o es ep,h.get? a=some o∧o.ExactDict∧o.data=.dict es ep∧es.toList=xs.map (entryOfKey (tupleKind (pU P w)))∧(xs.map (·.1)).Nodup
 |.set S n=>h.SetOf (intKind P w) a S n
 |.ins C dx fs=>H dx=some (.own a)∧fs.length≤1000∧dx≠a∧h.get? a=some (PySem.W.instObj C dx)∧
   ∃mA,h.Ns1 dx mA∧(∀f,pW (fs.lookup f) (mA f))∧PySem.Within mA (fs.map (·.1))
 |.own _=>∃o,h.get? a=some o
 |.xd fs=>∃mA,h.Ns1 a mA∧∀f,pW (fs.lookup f) (mA f)
 |.rng lo hi=>∃t u v,h.get? a=some { cls:=.type "range",data:=.fields #[.int lo t,.int hi u,.int 1 v] }
 |.frz o u=>h.get? a=some o∧ObjOk H h a u
 |.tbl ps=>h.get? a=some { cls:=.none,data:=.fields ps }
 |.met f x=>h.get? a=some (PySem.W.methodObj (.ref f) (.ref x))
 |.ext φ=>φ h∧(∃o,h.get? a=some o)∧∀h1 h2:Heap,φ h1→(∀o,h1.get? a=some o→h2.get? a=some o)→φ h2
def HOk(H:Hp)(h:Heap):Prop:=∀a o,H a=some o→ObjOk P w H h a o
end
section
variable {P:Program} {w:World} {H H':Hp} {h h':Heap} {a:Addr} {o:HO}
theorem ObjOk.lt(x:ObjOk P w H h a o):a < h.objs.size:=by
 cases o with
 |lst xs=>obtain ⟨_,_,_,_,e⟩:=x;exact Heap.lt_size e
 |tup xs=>obtain ⟨_,_,_,p⟩:=x;exact p.lt
 |dK kvs=>obtain ⟨_,_,_,_,o,_,_,e,_⟩:=x;exact Heap.lt_size e
 |dT kvs=>obtain ⟨_,_,_,_,o,_,_,e,_⟩:=x;exact Heap.lt_size e
 |set S n=>obtain ⟨o,_,_,_,e,_⟩:=x;exact Heap.lt_size e
 |ins C dx fs=>obtain ⟨_,_,_,e,_⟩:=x;exact Heap.lt_size e
 |own y=>obtain ⟨_,e⟩:=x;exact Heap.lt_size e
 |xd fs=>obtain ⟨_,⟨_,_,_,e,_⟩,_⟩:=x;exact Heap.lt_size e
 |rng lo hi=>obtain ⟨_,_,_,e⟩:=x;exact Heap.lt_size e
 |frz ob u=>obtain ⟨e,_⟩:=x;exact Heap.lt_size e
 |tbl ps=>exact Heap.lt_size (show h.get? a=some _ from x)
 |met f y=>exact Heap.lt_size (show h.get? a=some _ from x)
 |ext φ=>obtain ⟨_,⟨_,e⟩,_⟩:=x;exact Heap.lt_size e
theorem Paired.mapP{α β:Type}{F G:α→β→Prop}:∀{l₁:List α}{l₂:List β},Paired F l₁ l₂→(∀a b,F a b→G a b)→Paired G l₁ l₂
 |_,_,.nil,_=>.nil
 |_,_,.cons r t,f=>.cons (f _ _ r) (Paired.mapP t f)
theorem ObjOk.stay(x:ObjOk P w H h a o)(k:∀b u,(b=a∨H b=some (.own a))→h.get? b=some u→h'.get? b=some u)
  (ho:∀b,H b=some (.own a)→H' b=some (.own a)) (ht:∀b xs,H b=some (.tup xs)→H' b=some (.tup xs)):ObjOk P w H' h' a o:=by
 induction o with
 |lst xs=>obtain ⟨z,its,n,r,e⟩:=x;exact ⟨z,its,n,r,k _ _ (.inl rfl) e⟩
 |tup xs=>obtain ⟨z,its,r,ob,e,c⟩:=x;exact ⟨z,its,r,ob,k _ _ (.inl rfl) e,c⟩
 |dK kvs=>obtain ⟨z,y,vs,r,ob,es,ep,e,c⟩:=x;exact ⟨z,y,vs,r,ob,es,ep,k _ _ (.inl rfl) e,c⟩
 |dT kvs=>
  obtain ⟨z,y,xs,r,ob,es,ep,e,c⟩:=x
  exact ⟨z,y,xs,Paired.mapP r fun p q z=>⟨z.1,ht _ _ z.2.1,z.2.2⟩,ob,es,ep,k _ _ (.inl rfl) e,c⟩
 |set S n=>obtain ⟨ob,es,ep,t,e,c⟩:=x;exact ⟨ob,es,ep,t,k _ _ (.inl rfl) e,c⟩
 |ins C dx fs=>
  obtain ⟨d,z,ne,e,mA,⟨od,es,ep,e2,c⟩,r⟩:=x
  exact ⟨ho _ d,z,ne,k _ _ (.inl rfl) e,mA,⟨od,es,ep,k _ _ (.inr d) e2,c⟩,r⟩
 |own y=>obtain ⟨ob,e⟩:=x;exact ⟨ob,k _ _ (.inl rfl) e⟩
 |xd fs=>obtain ⟨mA,⟨od,es,ep,e,c⟩,r⟩:=x;exact ⟨mA,⟨od,es,ep,k _ _ (.inl rfl) e,c⟩,r⟩
 |rng lo hi=>obtain ⟨t,u,v,e⟩:=x;exact ⟨t,u,v,k _ _ (.inl rfl) e⟩
 |frz ob u ih=>obtain ⟨e,q⟩:=x;exact ⟨k _ _ (.inl rfl) e,ih q⟩
 |tbl ps=>
  have e:h.get? a=some { cls:=.none,data:=.fields ps }:=x
  show h'.get? a=some { cls:=.none,data:=.fields ps }
  exact k a _ (.inl rfl) e
 |met f y=>
  have e:h.get? a=some (PySem.W.methodObj (.ref f) (.ref y)):=x
  show h'.get? a=some (PySem.W.methodObj (.ref f) (.ref y))
  exact k a _ (.inl rfl) e
 |ext φ=>obtain ⟨p,⟨o,e⟩,st⟩:=x;exact ⟨st _ _ p fun o q=>k _ _ (.inl rfl) q,⟨o,k _ _ (.inl rfl) e⟩,st⟩
theorem HOk.lt(x:HOk P w H h)(e:H a=some o):a < h.objs.size:=(x a o e).lt
theorem HOk.fresh(x:HOk P w H h)(e:h.objs.size≤a):H a=none:=by
 cases q:H a with
 |none=>rfl
 |some u=>exact absurd (Nat.lt_of_lt_of_le (x.lt q) e) (Nat.lt_irrefl _)
theorem HOk.kept(x:HOk P w H h)(k:∀b u,h.get? b=some u→h'.get? b=some u):HOk P w H h':=fun a o e=>
 (x a o e).stay (fun b u _ q=>k b u q) (fun _ q=>q) fun _ _ q=>q
theorem HOk.laid(x:HOk P w H h)(k:∀b u,h.get? b=some u→h'.get? b=some u)(hp:h.objs.size≤a)(new:ObjOk P w (upd H a o) h' a o):HOk P w (upd H a o) h':=fun b u e=>by
 have hn:=x.fresh hp
 by_cases hb:b=a
 ·subst hb;rw[cT]at e;cases e;exact new
 ·rw[aC hb]at e
  exact (x b u e).stay (fun c v _ q=>k c v q) (fun c q=>by rw[aC (aU q hn)];exact q) fun c xs q=>by rw[aC (aU q hn)];exact q
end
def Rd(H:Hp)(a:Addr)(u:HO):Prop:=H a=some u∨∃o,H a=some (.frz o u)
theorem Rd.ok{P:Program}{w:World}{H:Hp}{h:Heap}{a:Addr}{u:HO}(r:Rd H a u)(x:HOk P w H h):ObjOk P w H h a u:=by
 rcases r with r |⟨o,r⟩
 ·exact x a u r
 ·obtain ⟨_,q⟩:=x a _ r
  exact q
def Mut:Option HO→Prop
 |some (.lst _)=>True
 |some (.dK _)=>True
 |some (.dT _)=>True
 |some (.set _ _)=>True
 |some (.ins _ _ _)=>True
 |some (.ext _)=>True
 |_=>False
section
variable {P:Program} {w:World} {H:Hp} {h h':Heap} {x e:Addr} {o':HO}
theorem HOk.write(ok:HOk P w H h)(mu:Mut (H x))(he:e=x∨H e=some (.own x))(k:∀b u,b≠e→h.get? b=some u→h'.get? b=some u)(heo:∃u,h'.get? e=some u)
  (new:ObjOk P w (upd H x o') h' x o'):HOk P w (upd H x o') h':=fun b u q=>by
 have nown:∀c y,H c=some (.own y)→c≠x:=fun c y r z=>by subst z;rw[r]at mu;exact mu
 have ntup:∀c xs,H c=some (.tup xs)→c≠x:=fun c xs r z=>by subst z;rw[r]at mu;exact mu
 by_cases hb:b=x
 ·subst hb;rw[cT]at q;cases q;exact new
 ·rw[aC hb]at q
  by_cases hbe:b=e
  ·have q':H b=some (.own x):=by
    rcases he with z |z
    ·exact absurd (hbe.trans z) hb
    ·rw[hbe];exact z
   rw[q]at q';cases q'
   obtain ⟨v,hv⟩:=heo
   exact ⟨v,by rw[hbe];exact hv⟩
  ·refine (ok b u q).stay (fun c v hc r=>k c v ?_ r) (fun c r=>by rw[aC (nown c b r)];exact r) fun c xs r=>by rw[aC (ntup c xs r)];exact r
   rcases hc with rfl |hc
   ·exact hbe
   ·rintro rfl
    rcases he with z |z
    ·exact nown c b hc z
    ·rw[hc]at z;cases z;exact hb rfl
end
structure Un(fs ex:List Addr)(H H':Hp)(h h':Heap):Prop where
 keep:∀b o,h.get? b=some o→H b=none→b∉fs→b∉ex→h'.get? b=some o
 slot:∀b o,h.get? b=some o→H b=none→b∈fs→b∉ex→∃sl,h'.get? b=some { o with slots:=sl }
 free:∀b o,h.get? b=some o→H b=none→b∉ex→H' b=none
 there:∀b o,h.get? b=some o→b∉ex→∃o',h'.get? b=some o'
 tups:∀b xs,H b=some (.tup xs)→H' b=some (.tup xs)
 frzs:∀b o u,H b=some (.frz o u)→H' b=some (.frz o u)
 tbls:∀b ps,H b=some (.tbl ps)→∃more,H' b=some (.tbl (ps++more))
section
variable {fs fs' ex ex':List Addr} {H H1 H2:Hp} {h h1 h2 h':Heap} {a x e:Addr} {o:HO}
theorem Un.any(u:Un fs ex H H1 h h1){b:Addr}{ob:Obj}(q:h.get? b=some ob)(n:H b=none)(hx:b∉ex):∃sl,h1.get? b=some { ob with slots:=sl }:=by
 by_cases hb:b∈fs
 ·exact u.slot b ob q n hb hx
 ·exact ⟨ob.slots,u.keep b ob q n hb hx⟩
theorem Un.kept(k:∀b u,h.get? b=some u→h'.get? b=some u):Un fs ex H H h h':=
 ⟨fun b ob q _ _ _=>k b ob q,fun b ob q _ _ _=>⟨ob.slots,k b ob q⟩,fun _ _ _ n _=>n,fun b ob q _=>⟨ob,k b ob q⟩,fun _ _ q=>q,fun _ _ _ q=>q,fun _ ps q=>⟨#[],by rw[q];simp⟩⟩
theorem Un.refl:Un fs ex H H h h:=Un.kept fun _ _ q=>q
theorem Un.laid(k:∀b u,h.get? b=some u→h'.get? b=some u)(hp:h.objs.size≤a)(hn:H a=none):Un fs ex H (upd H a o) h h' where
 keep:=fun b u q _ _ _=>k b u q
 slot:=fun b u q _ _ _=>⟨u.slots,k b u q⟩
 free:=fun b u q n _=>by rw[aC (Nat.ne_of_lt (Nat.lt_of_lt_of_le (Heap.lt_size q) hp))];exact n
 there:=fun b u q _=>⟨u,k b u q⟩
 tups:=fun b xs q=>by rw[aC (aU q hn)];exact q
 frzs:=fun b u xs q=>by rw[aC (aU q hn)];exact q
 tbls:=fun b ps q=>⟨#[],by rw[aC (aU q hn),q];simp⟩
theorem Un.write(mu:Mut (H x))(he:e=x∨H e=some (.own x))(k:∀b u,b≠e→h.get? b=some u→h'.get? b=some u)(heo:∃u,h'.get? e=some u):Un fs ex H (upd H x o) h h':=by
 have hx:∀b,H b=none→b≠x:=fun b n z=>by subst z;rw[n]at mu;exact mu
 have hb:∀b,H b=none→b≠e:=fun b n z=>by
  subst z
  rcases he with r |r
  ·exact hx b n r
  ·rw[n]at r;cases r
 have hm:∀b u,H b=some u→¬Mut (some u)→b≠x:=fun b u q nm z=>by subst z;rw[q]at mu;exact nm mu
 refine ⟨fun b u q n _ _=>k b u (hb b n) q,fun b u q n _ _=>⟨u.slots,k b u (hb b n) q⟩,fun b u q n _=>by rw[aC (hx b n)];exact n,fun b u q _=>?_,
  fun b xs q=>by rw[aC (hm b _ q fun z=>z)];exact q,fun b u xs q=>by rw[aC (hm b _ q fun z=>z)];exact q,fun b ps q=>⟨#[],by rw[aC (hm b _ q fun z=>z),q];simp⟩⟩
 by_cases hbe:b=e
 ·subst hbe;exact heo
 ·exact ⟨u,k b u hbe q⟩
end
def trk(h:Heap)(H:Hp):List Addr:=(List.range h.objs.size).filter fun a=>(H a).isSome
def dO(h:Heap)(H:Hp):Heap:=PySem.W.hideAll h (trk h H)
theorem JG(h:Heap)(H:Hp):(dO h H).objs.size=h.objs.size:=PySem.W.hideAll_size _ _
theorem JH{h:Heap}{H:Hp}{b:Addr}{o:Obj}(e:h.get? b=some o)(n:H b=none):(dO h H).get? b=some o:=
 PySem.W.hideAll_get _ e fun hm=>by
  have q:(H b).isSome=true:=(List.mem_filter.mp hm).2
  rw[n]at q;simp at q
theorem JK{h:Heap}{H:Hp}{b:Addr}{o:Obj}(e:(dO h H).get? b=some o):h.get? b=some o∧H b=none:=by
 have e':h.get? b=some o:=PySem.W.of_hideAll (trk h H) e
 refine ⟨e',?_⟩
 cases q:H b with
 |none=>rfl
 |some x=>
  have hm:b∈trk h H:=List.mem_filter.mpr ⟨List.mem_range.mpr (Heap.lt_size e'),by simp[q]⟩
  have z:(dO h H).get? b=none:=PySem.W.hideAll_none (trk h H) hm
  rw[z]at e;cases e
def JL(g h:Heap)(L:Addr):List (Addr×Obj):=(List.range h.objs.size).filterMap fun a=>if a=L∨(g.get? a).isSome=true then none else (h.get? a).map fun o=>(a,o)
def rest(g h:Heap)(L d:Addr):List (Addr×Obj):=(JL g h L).filter fun p=>decide (p.1≠d)
end L2
namespace L2
open PySem PySem.Spec PyProof.Rows
structure Mod(K:PySem.W.Frag)(mg:Str→Option Value)(base:Heap):Prop where
 kin:K.In base
 glob:base.Ns mainGlobals mg
 blt:∃mb,base.Ns builtinsNs mb∧∀x:Str,x≠"__name__"→mb x=bootBuiltins x
 nolimit:base.NoLimit
structure Cx where
 prog:Program
 w:World
 K:PySem.W.Frag
 mg:Str→Option Value
 base:Heap
 A:Around
 N:List Str
 s₀:Shared
 H₀:Hp
 env:Env
 outer:List Env
 stack:List Env
 ex:List Addr
 fn:Str→Bool
 calm:Bool
 pn:List (Addr×Obj)
 xe:Value→Shared→Prop
def frs(l:List Env):List Addr:=l.filterMap (·.frame)
abbrev Cx.fs(X:Cx):List Addr:=frs X.outer
def Vis(sc:Scope)(x:Str):Prop:=sc.names.lookup x=some .local∨sc.names.lookup x=some .cell∨sc.names.lookup x=some .free
def Loc(sc:Scope)(x:Str):Prop:=sc.names.lookup x=some .local∨sc.names.lookup x=some .cell
def Look(env:Env)(h:Heap)(m:Str→Option Value)(x:Str)(u:Value):Prop:=
 (env.kindOf x=some .local∧m x=some u)∨((env.kindOf x=some .cell∨env.kindOf x=some .free)∧∃c,env.cells.lookup x=some c∧h.IsCell c (some u))
structure Cx.Ok(X:Cx):Prop where
 mod:Mod X.K X.mg X.base
 kind:X.env.scope.kind=.function
 glob:X.env.globals=mainGlobals
 blt:X.env.builtins=builtinsNs
 above:X.s₀.heap.objs.size≤X.env.locals
 inj:∀x y c,X.env.cells.lookup x=some c→X.env.cells.lookup y=some c→x=y
 has:∀x,(X.env.kindOf x=some .cell∨X.env.kindOf x=some .free)→∃c,X.env.cells.lookup x=some c
 cab:∀x c,X.fn x=true→X.env.cells.lookup x=some c→X.s₀.heap.objs.size≤c
 hd:X.calm=true→X.A.handled=none
 frames:X.A.frames=some X.stack
 stk:X.stack=X.outer∨(X.stack=X.env::X.outer∧X.env.frame=some X.env.locals)
 exf:∀b∈X.ex,b≠X.env.locals∧∀x c,X.env.cells.lookup x=some c→c≠b
 bs:∀b o,X.base.get? b=some o→X.s₀.heap.get? b=some o∧X.H₀ b=none
 bsz:X.base.objs.size≤X.s₀.heap.objs.size
 noex:∀b o,X.base.get? b=some o→b∉X.ex
 exfs:∀b∈X.ex,b∉X.fs
 funs:X.s₀.heap.FunFrames X.base X.outer
 frf:∀b∈X.fs,X.H₀ b=none
structure Inv(X:Cx)(pins:List (Addr×Obj))(σ:List (Option V))(H:Hp)(s:Shared):Prop where
 ok:X.Ok
 os:s.os=X.s₀.os
 bare:AllBare s.gens
 base:Un X.fs X.ex X.H₀ H X.s₀.heap s.heap
 loc:∃m,s.heap.Ns X.env.locals m∧∀(i:Nat)(x:Str)(v:V),X.N[i]?=some x→σ[i]?=some (some v)→Vis X.env.scope x→∃u,RelV v u∧Look X.env s.heap m x u
 cell:∀x c,X.env.cells.lookup x=some c→∃v,s.heap.IsCell c v
 free:H X.env.locals=none
 freeC:∀x c,X.env.cells.lookup x=some c→H c=none
 pin:∀p∈X.pn++pins,s.heap.get? p.1=some p.2∧H p.1=none∧p.1≠X.env.locals∧p.1∉X.fs∧∀v,p.2.data≠.cell v
 hok:HOk X.prog X.w H s.heap
 len:σ.length=X.N.length
section
variable {X:Cx} {pins:List (Addr×Obj)} {σ:List (Option V)} {H H':Hp} {s:Shared} {h':Heap}
theorem Cx.Ok.nofr(ok:X.Ok){b:Addr}{o:Obj}(e:X.base.get? b=some o):b∉X.fs:=fun hb=>by
 have:=(ok.funs.mem hb).1
 rw[e]at this;cases this
theorem Inv.bs(I:Inv X pins σ H s):∀b o,X.base.get? b=some o→s.heap.get? b=some o∧H b=none:=fun b o e=>
 ⟨I.base.keep b o (I.ok.bs b o e).1 (I.ok.bs b o e).2 (I.ok.nofr e) (I.ok.noex b o e),I.base.free b o (I.ok.bs b o e).1 (I.ok.bs b o e).2 (I.ok.noex b o e)⟩
theorem Inv.bk(I:Inv X pins σ H s):∀b o,X.base.get? b=some o→s.heap.get? b=some o:=fun b o e=>(I.bs b o e).1
theorem Inv.mod(I:Inv X pins σ H s):Mod X.K X.mg X.base:=I.ok.mod
theorem Inv.kIn(I:Inv X pins σ H s):X.K.In s.heap:=I.ok.mod.kin.keeps I.bk
theorem Inv.lt(I:Inv X pins σ H s):X.env.locals < s.heap.objs.size:=let ⟨_,hn,_⟩:=I.loc;hn.lt
theorem Inv.sz(I:Inv X pins σ H s):X.s₀.heap.objs.size≤s.heap.objs.size:=Nat.le_trans I.ok.above (Nat.le_of_lt I.lt)
theorem Inv.nofs(I:Inv X pins σ H s){a:Addr}(h:s.heap.objs.size≤a):a∉X.fs:=fun hb=>by
 obtain ⟨_,o,ho,_⟩:=I.ok.funs.mem hb
 exact absurd (Nat.lt_of_lt_of_le (Heap.lt_size ho) (Nat.le_trans I.sz h)) (Nat.lt_irrefl _)
theorem Inv.cne(I:Inv X pins σ H s):∀x c,X.env.cells.lookup x=some c→c≠X.env.locals:=fun x c e z=>by
 obtain ⟨v,o,ho,hd⟩:=I.cell x c e
 obtain ⟨m,⟨o',es,ep,ho',hd',_⟩,_⟩:=I.loc
 rw[z,ho']at ho;cases ho;rw[hd']at hd;cases hd
theorem Inv.funs(I:Inv X pins σ H s):s.heap.FunFrames X.base X.outer:=by
 have all:∀(l:List Env),(∀b∈frs l,b∈X.fs)→X.s₀.heap.FunFrames X.base l→s.heap.FunFrames X.base l:=by
  intro l
  induction l with
  |nil=>intro _ _;trivial
  |cons env r ih=>
   intro hs hl
   obtain ⟨hk,⟨L,o,hf,hn,ho,hd⟩,hr⟩:=hl
   have hL:L∈X.fs:=hs L (by unfold frs;rw[List.filterMap_cons,hf];exact List.mem_cons_self)
   obtain ⟨sl,e⟩:=I.base.slot L o ho (I.ok.frf L hL) hL fun z=>I.ok.exfs L z hL
   exact ⟨hk,⟨L,_,hf,hn,e,hd⟩,ih (fun b hb=>hs b (by unfold frs;rw[List.filterMap_cons,hf];exact List.mem_cons_of_mem _ hb)) hr⟩
 exact all X.outer (fun _ hb=>hb) I.ok.funs
theorem Inv.stack(I:Inv X pins σ H s):s.heap.FunFrames X.base X.stack:=by
 rcases I.ok.stk with e |⟨e,hf⟩
 ·rw[e];exact I.funs
 ·rw[e]
  obtain ⟨m,hn,_⟩:=I.loc
  refine .cons (by rw[I.ok.kind];decide) hf hn ?_ I.funs
  exact Heap.get?_none_of_le (Nat.le_trans I.ok.bsz I.ok.above)
theorem Inv.stkSub(I:Inv X pins σ H s):∀b∈frs X.stack,b∈X.env.locals::X.fs:=fun b hb=>by
 rcases I.ok.stk with e |⟨e,hf⟩
 ·rw[e]at hb;exact List.mem_cons_of_mem _ hb
 ·rw[e]at hb
  unfold frs at hb
  rw[List.filterMap_cons,hf]at hb
  exact hb
theorem Inv.stkFree(I:Inv X pins σ H s):∀b∈frs X.stack,H b=none:=fun b hb=>by
 rcases List.mem_cons.mp (I.stkSub b hb) with e |hb
 ·rw[e];exact I.free
 ·obtain ⟨_,o,ho,_⟩:=I.ok.funs.mem hb
  exact I.base.free b o ho (I.ok.frf b hb) fun z=>I.ok.exfs b z hb
theorem Inv.step{g':Array GenState}{t':Nat}{d':Drawn}{ch:List Addr}(I:Inv X pins σ H s)
  (hch:∀b∈ch,(b∈X.ex∨X.s₀.heap.objs.size≤b)∧b≠X.env.locals∧(∀x c,X.env.cells.lookup x=some c→c≠b)∧∀p∈X.pn++pins,p.1≠b)
  (keep:∀b o,b≠X.env.locals→b∉X.fs→b∉ch→s.heap.get? b=some o→H b=none→h'.get? b=some o)
  (slot:∀b o,b≠X.env.locals→b∈X.fs→b∉ch→s.heap.get? b=some o→H b=none→∃sl,h'.get? b=some { o with slots:=sl }) (free:∀b o,b∉ch→s.heap.get? b=some o→H b=none→H' b=none)
  (there:∀b o,b∉ch→s.heap.get? b=some o→∃o',h'.get? b=some o')
  (tups:∀b xs,H b=some (.tup xs)→H' b=some (.tup xs)) (frzs:∀b o u,H b=some (.frz o u)→H' b=some (.frz o u)) (tbls:∀b ps,H b=some (.tbl ps)→∃more,H' b=some (.tbl (ps++more)))
  (ns:∀m,s.heap.Ns X.env.locals m→h'.Ns X.env.locals m) (hok:HOk X.prog X.w H' h') (hg:AllBare g'):
  Inv X pins σ H' { s with heap:=h',gens:=g',drawn:=d',toks:=t' }:=by
 have neL:∀b o,X.s₀.heap.get? b=some o→b≠X.env.locals:=fun b o e=>Nat.ne_of_lt (Nat.lt_of_lt_of_le (Heap.lt_size e) I.ok.above)
 have neC:∀b o,X.s₀.heap.get? b=some o→b∉X.ex→b∉ch:=fun b o e hx hb=>by
  rcases (hch b hb).1 with z |z
  ·exact hx z
  ·exact absurd (Nat.lt_of_lt_of_le (Heap.lt_size e) z) (Nat.lt_irrefl _)
 have cellK:∀x c,X.env.cells.lookup x=some c→∀v,s.heap.IsCell c v→h'.IsCell c v:=fun x c e v ⟨o,ho,hd⟩=>by
  have nch:c∉ch:=fun z=>(hch c z).2.2.1 x c e rfl
  by_cases hc:c∈X.fs
  ·obtain ⟨sl,q⟩:=slot c o (I.cne x c e) hc nch ho (I.freeC x c e)
   exact ⟨_,q,hd⟩
  ·exact ⟨o,keep c o (I.cne x c e) hc nch ho (I.freeC x c e),hd⟩
 refine ⟨I.ok,I.os,hg,⟨fun b o e n hb hx=>?_,fun b o e n hb hx=>?_,fun b o e n hx=>?_,fun b o e hx=>?_,fun b xs e=>tups b xs (I.base.tups b xs e),fun b o xs e=>frzs b o xs (I.base.frzs b o xs e),fun b ps e=>?_⟩,?_,fun x c e=>?_,?_,fun x c e=>?_,fun p hp=>?_,hok,I.len⟩
 ·exact keep b o (neL b o e) hb (neC b o e hx) (I.base.keep b o e n hb hx) (I.base.free b o e n hx)
 ·obtain ⟨sl,e1⟩:=I.base.slot b o e n hb hx
  obtain ⟨sl',e2⟩:=slot b _ (neL b o e) hb (neC b o e hx) e1 (I.base.free b o e n hx)
  exact ⟨sl',e2⟩
 ·obtain ⟨o',e1⟩:=I.base.there b o e hx
  exact free b o' (neC b o e hx) e1 (I.base.free b o e n hx)
 ·obtain ⟨o',e1⟩:=I.base.there b o e hx
  exact there b o' (neC b o e hx) e1
 ·obtain ⟨m1,e1⟩:=I.base.tbls b ps e
  obtain ⟨m2,e2⟩:=tbls b _ e1
  exact ⟨m1++m2,by rw[e2,Array.append_assoc]⟩
 ·obtain ⟨m,hn,hl⟩:=I.loc
  refine ⟨m,ns m hn,fun i x v e1 e2 e3=>?_⟩
  obtain ⟨u,r,l⟩:=hl i x v e1 e2 e3
  refine ⟨u,r,?_⟩
  rcases l with l |⟨k,c,e,z⟩
  ·exact .inl l
  ·exact .inr ⟨k,c,e,cellK x c e _ z⟩
 ·obtain ⟨v,z⟩:=I.cell x c e
  exact ⟨v,cellK x c e v z⟩
 ·obtain ⟨m,⟨o,_,_,ho,_⟩,_⟩:=I.loc
  exact free _ o (fun z=>(hch _ z).2.1 rfl) ho I.free
 ·obtain ⟨v,o,ho,hd⟩:=I.cell x c e
  exact free c o (fun z=>(hch c z).2.2.1 x c e rfl) ho (I.freeC x c e)
 ·obtain ⟨e,n,ne,nf,d⟩:=I.pin p hp
  have nch:p.1∉ch:=fun z=>(hch p.1 z).2.2.2 p hp rfl
  exact ⟨keep p.1 p.2 ne nf nch e n,free p.1 p.2 nch e n,ne,nf,d⟩
theorem Inv.un{t':Nat}(I:Inv X pins σ H s)(u:Un X.fs [] H H' s.heap h')(hok:HOk X.prog X.w H' h'):Inv X pins σ H' { s with heap:=h',toks:=t' }:=by
 obtain ⟨m,⟨o,es,ep,ho,r⟩,_⟩:=id I.loc
 obtain ⟨sl,hL⟩:=u.any ho I.free (by simp)
 exact I.step (g':=s.gens) (d':=s.drawn) (ch:=[]) (fun _ z=>nomatch z) (fun b o _ hb _ e n=>u.keep b o e n hb (by simp)) (fun b o _ hb _ e n=>u.slot b o e n hb (by simp)) (fun b o _ e n=>u.free b o e n (by simp)) (fun b o _ e=>u.there b o e (by simp)) u.tups u.frzs u.tbls (fun m' hm=>by
  obtain ⟨o',es',ep',ho',r'⟩:=hm
  rw[ho]at ho';cases ho'
  exact ⟨_,es',ep',hL,r'⟩) hok I.bare
theorem Inv.call{g':Array GenState}{t':Nat}{d':Drawn}{ch:List Addr}(I:Inv X pins σ H s)(u:Un (frs X.stack) ch H H' s.heap h')(hok:HOk X.prog X.w H' h')(hg:AllBare g')
  (hch:∀b∈ch,(b∈X.ex∨X.s₀.heap.objs.size≤b)∧b≠X.env.locals∧(∀x c,X.env.cells.lookup x=some c→c≠b)∧∀p∈X.pn++pins,p.1≠b):
  Inv X pins σ H' { s with heap:=h',gens:=g',drawn:=d',toks:=t' }:=by
 obtain ⟨m,⟨o,es,ep,ho,r⟩,_⟩:=id I.loc
 obtain ⟨sl,hL⟩:=u.any ho I.free fun z=>(hch _ z).2.1 rfl
 exact I.step (ch:=ch) hch (fun b o hL hb hc e n=>u.keep b o e n (fun z=>(List.mem_cons.mp (I.stkSub b z)).elim hL hb) hc) (fun b o _ _ hc e n=>u.any e n hc) (fun b o hc e n=>u.free b o e n hc) (fun b o hc e=>u.there b o e hc) u.tups u.frzs u.tbls (fun m' hm=>by
  obtain ⟨o',es',ep',ho',r'⟩:=hm
  rw[ho]at ho';cases ho'
  exact ⟨_,es',ep',hL,r'⟩) hok hg
theorem Inv.turned{t':Nat}{it:Addr}(I:Inv X pins σ H s)(k:∀b o,b≠it→s.heap.get? b=some o→h'.get? b=some o)(hn:H it=none)(hL:it≠X.env.locals)
  (h1:it∈X.ex∨X.s₀.heap.objs.size≤it) (h2:∀x c,X.env.cells.lookup x=some c→c≠it) (h3:∀p∈X.pn++pins,p.1≠it):Inv X pins σ H { s with heap:=h',toks:=t' }:=by
 have nit:∀b u,H b=some u→b≠it:=fun b u e z=>by rw[z,hn]at e;cases e
 refine I.step (g':=s.gens) (d':=s.drawn) (ch:=[it]) (fun b hb=>?_) (fun b o _ _ hc e _=>k b o (fun z=>hc (by simp[z])) e) (fun b o _ _ hc e _=>⟨o.slots,k b o (fun z=>hc (by simp[z])) e⟩) (fun _ _ _ _ n=>n)
  (fun b o hc e=>⟨o,k b o (fun z=>hc (by simp[z])) e⟩) (fun _ _ e=>e) (fun _ _ _ e=>e) (fun b ps e=>⟨#[],by rw[e];simp⟩) (fun m hm=>?_) (fun b u e=>?_) I.bare
 ·have e:b=it:=by simpa using hb
  subst e
  exact ⟨h1,hL,h2,h3⟩
 ·obtain ⟨o,es,ep,ho,r⟩:=hm
  exact ⟨o,es,ep,k _ o (Ne.symm hL) ho,r⟩
 ·refine (I.hok b u e).stay (fun c v hc q=>k c v ?_ q) (fun _ q=>q) fun _ _ q=>q
  rcases hc with z |z
  ·rw[z];exact nit b u e
  ·exact nit c _ z
theorem Inv.tok(I:Inv X pins σ H s)(t:Nat):Inv X pins σ H { s with toks:=t }:=I.un (h':=s.heap) (t':=t) Un.refl I.hok
theorem Inv.kept{t':Nat}(I:Inv X pins σ H s)(k:∀b u,s.heap.get? b=some u→h'.get? b=some u):Inv X pins σ H { s with heap:=h',toks:=t' }:=I.un (Un.kept k) (I.hok.kept k)
theorem Inv.laid{a:Addr}{o:HO}{t':Nat}(I:Inv X pins σ H s)(k:∀b u,s.heap.get? b=some u→h'.get? b=some u)(hp:s.heap.objs.size≤a)(new:ObjOk X.prog X.w (upd H a o) h' a o):
  Inv X pins σ (upd H a o) { s with heap:=h',toks:=t' }:=I.un (Un.laid k hp (I.hok.fresh hp)) (I.hok.laid k hp new)
theorem Inv.write{x e:Addr}{o:HO}{t':Nat}(I:Inv X pins σ H s)(mu:Mut (H x))(he:e=x∨H e=some (.own x))(k:∀b u,b≠e→s.heap.get? b=some u→h'.get? b=some u)(heo:∃u,h'.get? e=some u)
  (new:ObjOk X.prog X.w (upd H x o) h' x o):Inv X pins σ (upd H x o) { s with heap:=h',toks:=t' }:=I.un (Un.write mu he k heo) (I.hok.write mu he k heo new)
theorem Inv.pins_of{pins':List (Addr×Obj)}(I:Inv X pins σ H s)(h:∀p∈pins',s.heap.get? p.1=some p.2∧H p.1=none∧p.1≠X.env.locals∧p.1∉X.fs∧∀v,p.2.data≠.cell v):Inv X pins' σ H s:=
 ⟨I.ok,I.os,I.bare,I.base,I.loc,I.cell,I.free,I.freeC,fun p hp=>(List.mem_append.mp hp).elim (fun z=>I.pin p (List.mem_append_left _ z)) (h p),I.hok,I.len⟩
theorem pX{N:List Str}(hN:N.Nodup){i j:Nat}{x:Str}(a:N[i]?=some x)(b:N[j]?=some x):i=j:=by
 obtain ⟨h1,e1⟩:=List.getElem?_eq_some_iff.mp a
 obtain ⟨h2,e2⟩:=List.getElem?_eq_some_iff.mp b
 exact (List.getElem_inj hN).mp (e1.trans e2.symm)
theorem JM{M:Model}{A:Around}{E:Value→Shared→Prop}{i:Nat}{x:Str}{v:V}{u:Value}{Q:Unit→Shared→Prop}(I:Inv X pins σ H s)(hN:X.N.Nodup)(hi:X.N[i]?=some x)(hx:Loc X.env.scope x)(r:RelV v u)
  (h:∀s',Inv X pins (σ.set i (some v)) H s'→(∃a,Heap.SameBut a s.heap s'.heap∧(a=X.env.locals∨X.env.cells.lookup x=some a))→Q () s') (hf:X.fn x=true∨X.env.scope.names.lookup x=some .local:=by first |exact .inl rfl |exact .inr rfl |assumption):wpAny M A (storeName X.env x u) Q E s:=by
 obtain ⟨m,hn,hl⟩:=id I.loc
 have hcls:(X.env.scope.kind==.class||(X.env.scope.kind==.module&&X.env.locals != X.env.globals))=false:=by rw[I.ok.kind];rfl
 have hiσ:i < σ.length:=by rw[I.len];exact (List.getElem?_eq_some_iff.mp hi).1
 have cne:=I.cne
 have tracked:∀{a:Addr}{h':Heap},(∃o,s.heap.get? a=some o∧H a=none)→Heap.SameBut a s.heap h'→HOk X.prog X.w H h':=fun {a h'} ha hs b ob e=>by
  obtain ⟨_,_,hfree⟩:=ha
  refine (I.hok b ob e).stay (fun c w' hc q=>(hs.2 c ?_).trans q) (fun _ q=>q) fun _ _ q=>q
  rintro rfl
  rcases hc with rfl |hc
  ·rw[hfree]at e;cases e
  ·rw[hfree]at hc;cases hc
 rcases hx with hk |hk
 ·refine wpAny_storeName_local hk hn (fun h' hn' hs=>?_) hcls
  obtain ⟨oL,_,_,hoL,_⟩:=id hn
  refine h _ ⟨I.ok,I.os,I.bare,⟨fun b o e n hb hx=>?_,fun b o e n hb hx=>?_,I.base.free,fun b o e hx=>?_,I.base.tups,I.base.frzs,I.base.tbls⟩,⟨_,hn',fun j y v' e1 e2 e3=>?_⟩,fun y c e=>?_,I.free,I.freeC,fun p hp=>?_,tracked ⟨oL,hoL,I.free⟩ hs,by simpa using I.len⟩ ⟨_,hs,.inl rfl⟩
  ·exact (hs.2 b (Nat.ne_of_lt (Nat.lt_of_lt_of_le (Heap.lt_size e) I.ok.above))).trans (I.base.keep b o e n hb hx)
  ·obtain ⟨sl,e1⟩:=I.base.slot b o e n hb hx
   exact ⟨sl,(hs.2 b (Nat.ne_of_lt (Nat.lt_of_lt_of_le (Heap.lt_size e) I.ok.above))).trans e1⟩
  ·obtain ⟨o',e1⟩:=I.base.there b o e hx
   exact ⟨o',(hs.2 b (Nat.ne_of_lt (Nat.lt_of_lt_of_le (Heap.lt_size e) I.ok.above))).trans e1⟩
  ·by_cases hj:j=i
   ·subst hj
    rw[hi]at e1;cases e1
    rw[List.getElem?_set_self hiσ]at e2
    cases e2
    exact ⟨u,r,.inl ⟨hk,by simp⟩⟩
   ·rw[List.getElem?_set_ne (Ne.symm hj)]at e2
    obtain ⟨u',r',q⟩:=hl j y v' e1 e2 e3
    refine ⟨u',r',?_⟩
    rcases q with ⟨k,e⟩ |⟨k,c,e,z⟩
    ·refine .inl ⟨k,?_⟩
     have:y≠x:=fun e=>hj (pX hN e1 (e ▸ hi))
     simp[this,e]
    ·exact .inr ⟨k,c,e,z.sameBut hs (cne y c e)⟩
  ·obtain ⟨w',z⟩:=I.cell y c e
   exact ⟨w',z.sameBut hs (cne y c e)⟩
  ·obtain ⟨e,n,ne,nf,d⟩:=I.pin p hp
   exact ⟨(hs.2 p.1 ne).trans e,n,ne,nf,d⟩
 ·have hfn:X.fn x=true:=by
   rcases hf with z |z
   ·exact z
   ·rw[z]at hk;cases hk
  obtain ⟨c,hc⟩:=I.ok.has x (.inl hk)
  obtain ⟨w',z⟩:=I.cell x c hc
  refine wpAny_storeName_cell I.ok.kind hk hc z (fun h' hc' hs=>?_)
  obtain ⟨oc,hoc,hocd⟩:=id z
  refine h { s with heap:=h' } ⟨I.ok,I.os,I.bare,⟨fun b o e n hb hx=>?_,fun b o e n hb hx=>?_,I.base.free,fun b o e hx=>?_,I.base.tups,I.base.frzs,I.base.tbls⟩,⟨m,hn.sameBut hs (Ne.symm (cne x c hc)),fun j y v' e1 e2 e3=>?_⟩,fun y c' e=>?_,I.free,I.freeC,fun p hp=>?_,tracked ⟨oc,hoc,I.freeC x c hc⟩ hs,by simpa using I.len⟩ ⟨c,hs,.inr hc⟩
  ·exact (hs.2 b (Nat.ne_of_lt (Nat.lt_of_lt_of_le (Heap.lt_size e) (I.ok.cab x c hfn hc)))).trans (I.base.keep b o e n hb hx)
  ·obtain ⟨sl,e1⟩:=I.base.slot b o e n hb hx
   exact ⟨sl,(hs.2 b (Nat.ne_of_lt (Nat.lt_of_lt_of_le (Heap.lt_size e) (I.ok.cab x c hfn hc)))).trans e1⟩
  ·obtain ⟨o',e1⟩:=I.base.there b o e hx
   exact ⟨o',(hs.2 b (Nat.ne_of_lt (Nat.lt_of_lt_of_le (Heap.lt_size e) (I.ok.cab x c hfn hc)))).trans e1⟩
  ·by_cases hj:j=i
   ·subst hj
    rw[hi]at e1;cases e1
    rw[List.getElem?_set_self hiσ]at e2
    cases e2
    exact ⟨u,r,.inr ⟨.inl hk,c,hc,hc'⟩⟩
   ·rw[List.getElem?_set_ne (Ne.symm hj)]at e2
    obtain ⟨u',r',q⟩:=hl j y v' e1 e2 e3
    refine ⟨u',r',?_⟩
    rcases q with q |⟨k,c',e,z'⟩
    ·exact .inl q
    ·refine .inr ⟨k,c',e,z'.sameBut hs ?_⟩
     rintro rfl
     exact hj (pX hN e1 (I.ok.inj _ _ _ e hc ▸ hi))
  ·by_cases hcc:c'=c
   ·subst hcc;exact ⟨_,hc'⟩
   ·obtain ⟨w2,z2⟩:=I.cell y c' e
    exact ⟨w2,z2.sameBut hs hcc⟩
  ·obtain ⟨e,n,ne,nf,d⟩:=I.pin p hp
   refine ⟨(hs.2 p.1 ?_).trans e,n,ne,nf,d⟩
   intro q
   rw[q,hoc]at e
   have q':oc=p.2:=Option.some.inj e
   exact d w' (by rw[←q'];exact hocd)
theorem iI{M:Model}{A:Around}{E:Value→Shared→Prop}{i:Nat}{x:Str}{v:V}{u:Value}{Q:Unit→Shared→Prop}(I:Inv X pins σ H s)(hN:X.N.Nodup)(hi:X.N[i]?=some x)(hx:Loc X.env.scope x)(r:RelV v u)
  (h:∀s',Inv X pins (σ.set i (some v)) H s'→Q () s') (hf:X.fn x=true∨X.env.scope.names.lookup x=some .local:=by first |exact .inl rfl |exact .inr rfl |assumption):wpAny M A (storeName X.env x u) Q E s:=
 JM I hN hi hx r (fun s' I' _=>h s' I') hf
theorem Inv.call'{s':Shared}{ch:List Addr}(I:Inv X pins σ H s)(ho:s'.os=s.os)(u:Un (frs X.stack) ch H H' s.heap s'.heap)(hok:HOk X.prog X.w H' s'.heap)(hg:AllBare s'.gens)
  (hch:∀b∈ch,(b∈X.ex∨X.s₀.heap.objs.size≤b)∧b≠X.env.locals∧(∀x c,X.env.cells.lookup x=some c→c≠b)∧∀p∈X.pn++pins,p.1≠b):Inv X pins σ H' s':=by
 obtain ⟨h',g',d',t',o'⟩:=s'
 have e:o'=s.os:=ho
 subst e
 exact I.call (g':=g') (t':=t') (d':=d') u hok hg hch
end
abbrev XK:=Value→Option Addr→Hp→Prop
abbrev St:=List (Option V)
abbrev VK:=V→Hp→Prop
abbrev TE:=St→Hp→VK→Prop
abbrev TT:=St→Hp→(Bool→Hp→Prop)→Prop
abbrev TA:=St→Hp→(List V→Hp→Prop)→Prop
structure Ends where
 nx:St→Hp→Prop
 rt:VK
 bk:St→Hp→Prop:=fun _ _=>False
 ct:St→Hp→Prop:=fun _ _=>False
abbrev TS:=Ends→St→Hp→Prop
def EP(X:Cx)(pins:List (Addr×Obj))(σ:St)(Q:VK)(u:Value)(s':Shared):Prop:=∃v H',Inv X pins σ H' s'∧RelV v u∧Q v H'
def TP(X:Cx)(pins:List (Addr×Obj))(σ:St)(Q:Bool→Hp→Prop)(b:Bool)(s':Shared):Prop:=∃H',Inv X pins σ H' s'∧Q b H'
def AP(X:Cx)(pins:List (Addr×Obj))(σ:St)(Q:List V→Hp→Prop)(us:List Value)(s':Shared):Prop:=∃vs H',Inv X pins σ H' s'∧Vals vs us∧Q vs H'
def SP(X:Cx)(pins:List (Addr×Obj))(D:Ends)(f:Flow)(s':Shared):Prop:=
 match f with
 |.next=>∃σ' H',Inv X pins σ' H' s'∧D.nx σ' H'
 |.brk=>∃σ' H',Inv X pins σ' H' s'∧D.bk σ' H'
 |.cont=>∃σ' H',Inv X pins σ' H' s'∧D.ct σ' H'
 |.ret u=>∃v σ' H',Inv X pins σ' H' s'∧RelV v u∧D.rt v H'
def PE(X:Cx)(e:Expr)(t:TE):Prop:=
 ∀(pins:List (Addr×Obj))(s:Shared)(σ:St)(H:Hp)(Q:VK),Inv X pins σ H s→t σ H Q→wpAny (model X.prog X.w) X.A (eval e X.env) (EP X pins σ Q) X.xe s
def PT(X:Cx)(e:Expr)(t:TT):Prop:=
 ∀(pins:List (Addr×Obj))(s:Shared)(σ:St)(H:Hp)(Q:Bool→Hp→Prop),Inv X pins σ H s→t σ H Q→wpAny (model X.prog X.w) X.A (isTrue e X.env (eval e X.env)) (TP X pins σ Q) X.xe s
def PW(X:Cx)(e:Expr)(t:TT):Prop:=
 ∀(whole:Sem Value)(pins:List (Addr×Obj))(s:Shared)(σ:St)(H:Hp)(Q:Bool→Hp→Prop),Inv X pins σ H s→t σ H Q→wpAny (model X.prog X.w) X.A (isTrue e X.env whole) (TP X pins σ Q) X.xe s
theorem PW.pt{X:Cx}{e:Expr}{t:TT}(h:PW X e t):PT X e t:=h _
def PA(X:Cx)(es:List Expr)(t:TA):Prop:=
 ∀(pos:Pos)(pins:List (Addr×Obj))(s:Shared)(σ:St)(H:Hp)(Q:List V→Hp→Prop),Inv X pins σ H s→t σ H Q→wpAny (model X.prog X.w) X.A (spliced (backTo pos (starEach es X.env))) (AP X pins σ Q) X.xe s
def PS(X:Cx)(st:Stmt)(t:TS):Prop:=
 ∀(pins:List (Addr×Obj))(s:Shared)(σ:St)(H:Hp)(D:Ends),Inv X pins σ H s→t D σ H→wpAny (model X.prog X.w) X.A (exec st X.env) (SP X pins D) X.xe s
def PSs(X:Cx)(st:List Stmt)(t:TS):Prop:=
 ∀(pins:List (Addr×Obj))(s:Shared)(σ:St)(H:Hp)(D:Ends),Inv X pins σ H s→t D σ H→wpAny (model X.prog X.w) X.A (execs st X.env) (SP X pins D) X.xe s
theorem thn{α:Type}{t:Sem α}{Q Q':α→Shared→Prop}{M:Model}{A:Around}{E:Value→Shared→Prop}{s:Shared}(h:wpAny M A t Q E s)(hQ:∀a s,Q a s→Q' a s):wpAny M A t Q' E s:=wpAny_mono h hQ fun _ _ x=>x
end L2
namespace L2
open PySem PySem.Spec PyProof.Rows
section
variable {X:Cx}
theorem bin{a b:Expr}{ta tb:TE}(ha:PE X a ta)(hb:PE X b tb){pins:List (Addr×Obj)}{s:Shared}{σ:St}{H:Hp}{R:V→V→Hp→Prop}(I:Inv X pins σ H s)(h:ta σ H fun x H1=>tb σ H1 fun y H2=>R x y H2)
  {α:Type} {Q:α→Shared→Prop} {f:Value→Value→Sem α}
  (hf:∀v u s2 x y H2,Inv X pins σ H2 s2→RelV x v→RelV y u→R x y H2→wpAny (model X.prog X.w) X.A (f v u) Q X.xe s2):
  wpAny (model X.prog X.w) X.A (eval a X.env) (fun v s₁=>wpAny (model X.prog X.w) X.A (eval b X.env) (fun u s₂=>wpAny (model X.prog X.w) X.A (f v u) Q X.xe s₂) X.xe s₁) X.xe s:=by
 refine thn (ha pins s σ H _ I h) fun v s1 ⟨x,H1,I1,r1,q1⟩=>?_
 refine thn (hb pins s1 σ H1 _ I1 q1) fun u s2 ⟨y,H2,I2,r2,q2⟩=>?_
 exact hf v u s2 x y H2 I2 r1 r2 q2
def JN(i:Nat):TE:=fun σ H Q=>∃v,σ[i]?=some (some v)∧Q v H
def tC(v:V):TE:=fun _ H Q=>Q v H
theorem uL {i:Nat} {x:Str} {pos:Pos} (hN:X.N[i]?=some x) (hv:Vis X.env.scope x) (hd:(x==("__debug__":Str))=false:=by decide) (hcd:(x==("__classdict__":Str))=false:=by decide):PE X (.Name x pos) (JN i):=by
 intro pins s σ H Q I h
 obtain ⟨v,e,h⟩:=h
 obtain ⟨m,hn,hl⟩:=I.loc
 obtain ⟨u,r,l⟩:=hl i x v hN e hv
 have fin:EP X pins σ Q u s:=⟨v,H,I,r,h⟩
 rcases l with ⟨hk,hm⟩ |⟨hk,c,hc,hcell⟩
 ·exact wpAny_Name (wpAny_loadName_local I.ok.kind hk hn hm fin) hd
 ·rcases hk with hk |hk
  ·exact wpAny_Name (wpAny_loadName_cell I.ok.kind hk hc hcell fin) hd
  ·exact wpAny_Name (wpAny_loadName_free I.ok.kind hk hc hcell fin hcd) hd
theorem JP{i j pos}:PE X (.Constant (.int i) j pos) (tC (.int i)):=fun _ _ _ H _ I h=>wpAny_Constant_int ⟨.int i,H,I.tok _,⟨_,rfl⟩,h⟩
theorem uM{b j pos}:PE X (.Constant (.bool b) j pos) (tC (.bl b)):=fun _ _ _ H _ I h=>Constant_bool ⟨.bl b,H,I,rfl,h⟩
theorem JQ{j pos}:PE X (.Constant .none j pos) (tC .non):=fun _ _ _ H _ I h=>Constant_none ⟨.non,H,I,rfl,h⟩
theorem uN{x j pos}:PE X (.Constant (.str x) j pos) (tC (.str x)):=fun _ _ _ H _ I h=>Calls.Constant_str ⟨.str x,H,I.tok _,⟨_,rfl⟩,h⟩
def Gl(X:Cx)(x:Str):Prop:=X.env.kindOf x=some .globalImplicit
theorem fK{E:Value→Shared→Prop}{pins:List (Addr×Obj)}{s:Shared}{σ:St}{H:Hp}{x:Str}{u:Value}{pos:Pos}{Q:Value→Shared→Prop}(I:Inv X pins σ H s)(hg:Gl X x)(hm:X.mg x=some u)(h:Q u s)
  (hd:(x==("__debug__":Str))=false:=by decide):wpAny (model X.prog X.w) X.A (eval (.Name x pos) X.env) Q E s:=
 Calls.Name_function_global I.ok.kind hg (Calls.loadGlobal_global (by rw[I.ok.glob];exact I.mod.glob.keeps I.bk) hm h) hd
theorem gr{E:Value→Shared→Prop}{pins:List (Addr×Obj)}{s:Shared}{σ:St}{H:Hp}{x:Str}{u:Value}{pos:Pos}{Q:Value→Shared→Prop}(I:Inv X pins σ H s)(hg:Gl X x)(hm:X.mg x=none)(hv:bootBuiltins x=some u)(h:Q u s)
  (hn:x≠"__name__":=by decide) (hd:(x==("__debug__":Str))=false:=by decide):wpAny (model X.prog X.w) X.A (eval (.Name x pos) X.env) Q E s:=by
 obtain ⟨mb,h1,h2⟩:=I.mod.blt
 exact Calls.Name_function_global I.ok.kind hg (Calls.loadGlobal_builtin (by rw[I.ok.glob];exact I.mod.glob.keeps I.bk) hm (by rw[I.ok.blt];exact h1.keeps I.bk) ((h2 x hn).trans hv) h) hd
theorem JR {x:Str} {v:V} {u:Value} {pos:Pos} (hg:Gl X x) (hm:X.mg x=some u) (r:RelV v u) (hd:(x==("__debug__":Str))=false:=by decide):PE X (.Name x pos) (tC v):=
 fun _ _ _ H _ I h=>fK I hg hm ⟨v,H,I,r,h⟩ hd
theorem JS {x:Str} {v:V} {u:Value} {pos:Pos} (hg:Gl X x) (hm:X.mg x=none) (hv:bootBuiltins x=some u) (r:RelV v u) (hn:x≠"__name__":=by decide) (hd:(x==("__debug__":Str))=false:=by decide):PE X (.Name x pos) (tC v):=
 fun _ _ _ H _ I h=>gr I hg hm hv ⟨v,H,I,r,h⟩ hn hd
variable {a b:Expr} {ta tb:TE} {pos:Pos}
variable {tA tB':TT} {rest:List Expr}
def JT(t u:TT):TT:=fun σ H Q=>t σ H fun c H1=>if c=true then u σ H1 Q else Q false H1
def tOr(t u:TT):TT:=fun σ H Q=>t σ H fun c H1=>if c=true then Q true H1 else u σ H1 Q
def JV(t:TT):TT:=fun σ H Q=>t σ H fun c H1=>Q (!c) H1
theorem JW(ha:PT X a tA):PW X (.BoolOp .And [a] pos) tA:=by
 intro wh pins s σ H Q I h
 refine isTrue_and (thn (ha pins s σ H Q I h) fun c s1 e=>?_)
 cases c with
 |true=>exact isTrue_and_nil e
 |false=>exact e
theorem JX(ha:PT X a tA):PW X (.BoolOp .Or [a] pos) tA:=by
 intro wh pins s σ H Q I h
 refine isTrue_or (thn (ha pins s σ H Q I h) fun c s1 e=>?_)
 cases c with
 |false=>exact isTrue_or_nil e
 |true=>exact e
theorem JZ(ha:PT X a tA)(hb:PW X (.BoolOp .And (b::rest) pos) tB'):PW X (.BoolOp .And (a::b::rest) pos) (JT tA tB'):=by
 intro wh pins s σ H Q I h
 refine isTrue_and (thn (ha pins s σ H _ I h) fun c s1 ⟨H1,I1,q1⟩=>?_)
 cases c with
 |true=>exact hb wh pins s1 σ H1 Q I1 q1
 |false=>exact ⟨H1,I1,q1⟩
theorem J0(ha:PT X a tA)(hb:PW X (.BoolOp .Or (b::rest) pos) tB'):PW X (.BoolOp .Or (a::b::rest) pos) (tOr tA tB'):=by
 intro wh pins s σ H Q I h
 refine isTrue_or (thn (ha pins s σ H _ I h) fun c s1 ⟨H1,I1,q1⟩=>?_)
 cases c with
 |true=>exact ⟨H1,I1,q1⟩
 |false=>exact hb wh pins s1 σ H1 Q I1 q1
theorem J1(ha:PT X a tA):PT X (.UnaryOp .Not a pos) (JV tA):=by
 intro pins s σ H Q I h
 exact isTrue_not (ha pins s σ H (fun c H1=>Q (!c) H1) I h)
def J2(ta tb:TE):TE:=fun σ H Q=>ta σ H fun x H1=>∃c,x=.bl c∧if c=true then tb σ H1 Q else Q (.bl false) H1
def J7(ta tb:TE):TE:=fun σ H Q=>ta σ H fun x H1=>∃c,x=.bl c∧if c=true then Q (.bl true) H1 else tb σ H1 Q
theorem J8{op}{t:TE}(h:PE X a t):PE X (.BoolOp op [a] pos) t:=fun pins s σ H Q I hw=>BoolOp_one (h pins s σ H Q I hw)
theorem J9(ha:PE X a ta)(hb:PE X (.BoolOp .And (b::rest) pos) tb):PE X (.BoolOp .And (a::b::rest) pos) (J2 ta tb):=by
 intro pins s σ H Q I h
 refine BoolOp_and (thn (ha pins s σ H _ I h) fun v s1 ⟨x,H1,I1,r1,q1⟩=>?_)
 obtain ⟨c,rfl,q1⟩:=q1
 cases r1
 refine wpAny_truthy_bool ?_
 cases c with
 |true=>exact hb pins s1 σ H1 Q I1 q1
 |false=>exact ⟨.bl false,H1,I1,rfl,q1⟩
theorem Ka(ha:PE X a ta)(hb:PE X (.BoolOp .Or (b::rest) pos) tb):PE X (.BoolOp .Or (a::b::rest) pos) (J7 ta tb):=by
 intro pins s σ H Q I h
 refine BoolOp_or (thn (ha pins s σ H _ I h) fun v s1 ⟨x,H1,I1,r1,q1⟩=>?_)
 obtain ⟨c,rfl,q1⟩:=q1
 cases r1
 refine wpAny_truthy_bool ?_
 cases c with
 |false=>exact hb pins s1 σ H1 Q I1 q1
 |true=>exact ⟨.bl true,H1,I1,rfl,q1⟩
end
end L2
namespace L2
open PySem PySem.Spec PyProof.Rows
def SqL(K:PySem.W.Frag)(H:Hp)(a:Addr)(xs:List V):Prop:=
 Rd H a (.lst xs)∨
  ∃(o:Obj) (its:Array Value) (n:Nat),K.lookup a=some o∧o.cls=.type "list"∧o.dict=none∧o.data=.seq its n∧its.size≤sizeLine∧Vals xs its.toList
def SqT(K:PySem.W.Frag)(H:Hp)(a:Addr)(xs:List V):Prop:=
 Rd H a (.tup xs)∨
  ∃(o:Obj) (its:Array Value) (n:Nat),K.lookup a=some o∧o.cls=.type "tuple"∧o.data=.seq its n∧its.size≤sizeLine∧Vals xs its.toList
def Kc:Value→Option V
 |.none=>some .non
 |.bool b=>some (.bl b)
 |.int i _=>some (.int i)
 |.str x _=>some (.str x)
 |.bytes b _=>some (.byt b)
 |.float b _=>some (.flt b)
 |.ref a=>some (.ref a)
 |.type n=>some (.ty n)
 |_=>none
theorem RelV.abs{x:V}{u:Value}(r:RelV x u):Kc u=some x:=by
 cases x with
 |non=>cases r;rfl
 |bl _=>cases r;rfl
 |int _=>obtain ⟨t,rfl⟩:=r;rfl
 |str _=>obtain ⟨t,rfl⟩:=r;rfl
 |byt _=>obtain ⟨t,rfl⟩:=r;rfl
 |flt _=>obtain ⟨t,rfl⟩:=r;rfl
 |ref _=>cases r;rfl
 |ty _=>cases r;rfl
theorem RelV.inj{x y:V}{u:Value}(r:RelV x u)(q:RelV y u):x=y:=Option.some.inj (r.abs.symm.trans q.abs)
theorem Vals.inj:∀{xs ys:List V}{us:List Value},Vals xs us→Vals ys us→xs=ys
 |_,_,_,.nil,.nil=>rfl
 |_,_,_,.cons r t,.cons r' t'=>by rw[r.inj r',Vals.inj t t']
section
variable {X:Cx} {pins:List (Addr×Obj)} {σ:St} {H:Hp} {s:Shared} {a:Addr} {xs ys:List V}
theorem SqL.of{K:PySem.W.Frag}(h:H a=some (.lst xs)):SqL K H a xs:=.inl (.inl h)
theorem SqT.of{K:PySem.W.Frag}(h:H a=some (.tup xs)):SqT K H a xs:=.inl (.inl h)
theorem Inv.list(I:Inv X pins σ H s)(h:SqL X.K H a xs):∃its:List Value,Vals xs its∧PlainL s.heap a its.toArray∧xs.length≤sizeLine:=by
 rcases h with h |⟨o,its,n,hk,hc,hd,hs,hz,r⟩
 ·obtain ⟨z,its,n,r,e⟩:=h.ok I.hok
  exact ⟨its,r,⟨_,n,e,rfl,rfl,rfl⟩,z⟩
 ·refine ⟨its.toList,r,⟨o,n,I.kIn a o hk,hc,hd,by simpa using hs⟩,?_⟩
  have e:=r.length
  simp only[Array.length_toList]at e
  omega
theorem Inv.tuple(I:Inv X pins σ H s)(h:SqT X.K H a xs):∃its:List Value,Vals xs its∧IsTup s.heap a its.toArray∧xs.length≤sizeLine:=by
 rcases h with h |⟨o,its,n,hk,hc,hs,hz,r⟩
 ·obtain ⟨z,its,r,p⟩:=h.ok I.hok
  exact ⟨its,r,p,z⟩
 ·refine ⟨its.toList,r,⟨o,I.kIn a o hk,hc,n,by simpa using hs⟩,?_⟩
  have e:=r.length
  simp only[Array.length_toList]at e
  omega
theorem Inv.list_inj(I:Inv X pins σ H s)(h:SqL X.K H a xs)(h':SqL X.K H a ys):xs=ys:=by
 obtain ⟨its,r,⟨o,n,e,_,_,d⟩,_⟩:=I.list h
 obtain ⟨its',r',⟨o',n',e',_,_,d'⟩,_⟩:=I.list h'
 rw[e]at e';cases e'
 rw[d]at d'
 injection d' with d1 _
 have:its=its':=by simpa using congrArg Array.toList d1
 subst this
 exact r.inj r'
theorem Inv.tuple_inj(I:Inv X pins σ H s)(h:SqT X.K H a xs)(h':SqT X.K H a ys):xs=ys:=by
 obtain ⟨its,r,⟨o,e,_,n,d⟩,_⟩:=I.tuple h
 obtain ⟨its',r',⟨o',e',_,n',d'⟩,_⟩:=I.tuple h'
 rw[e]at e';cases e'
 rw[d]at d'
 injection d' with d1 _
 have:its=its':=by simpa using congrArg Array.toList d1
 subst this
 exact r.inj r'
end
abbrev Cx.wish(X:Cx)(E:Value→Shared→Prop):Cx:={ X with xe:=E }
abbrev Cx.nox(X:Cx):Cx:=X.wish fun _ _=>False
theorem Cx.Ok.wish{X:Cx}(ok:X.Ok)(E:Value→Shared→Prop):(X.wish E).Ok:=
 ⟨ok.mod,ok.kind,ok.glob,ok.blt,ok.above,ok.inj,ok.has,ok.cab,ok.hd,ok.frames,ok.stk,ok.exf,ok.bs,ok.bsz,ok.noex,ok.exfs,ok.funs,ok.frf⟩
theorem Cx.Ok.unwish{X:Cx}{E:Value→Shared→Prop}(ok:(X.wish E).Ok):X.Ok:=
 ⟨ok.mod,ok.kind,ok.glob,ok.blt,ok.above,ok.inj,ok.has,ok.cab,ok.hd,ok.frames,ok.stk,ok.exf,ok.bs,ok.bsz,ok.noex,ok.exfs,ok.funs,ok.frf⟩
section
variable {X:Cx} {pins:List (Addr×Obj)} {σ:St} {H:Hp} {s:Shared} {E:Value→Shared→Prop}
theorem Inv.wish(I:Inv X pins σ H s)(E:Value→Shared→Prop):Inv (X.wish E) pins σ H s:=⟨I.ok.wish E,I.os,I.bare,I.base,I.loc,I.cell,I.free,I.freeC,I.pin,I.hok,I.len⟩
theorem Inv.unwish(I:Inv (X.wish E) pins σ H s):Inv X pins σ H s:=⟨I.ok.unwish,I.os,I.bare,I.base,I.loc,I.cell,I.free,I.freeC,I.pin,I.hok,I.len⟩
theorem SP.unwish{D:Ends}{f:Flow}{s':Shared}(h:SP (X.wish E) pins D f s'):SP X pins D f s':=by
 cases f with
 |next=>obtain ⟨σ',H',I,q⟩:=h;exact ⟨σ',H',I.unwish,q⟩
 |brk=>obtain ⟨σ',H',I,q⟩:=h;exact ⟨σ',H',I.unwish,q⟩
 |cont=>obtain ⟨σ',H',I,q⟩:=h;exact ⟨σ',H',I.unwish,q⟩
 |ret u=>obtain ⟨v,σ',H',I,r,q⟩:=h;exact ⟨v,σ',H',I.unwish,r,q⟩
theorem PSs.nox{st:List Stmt}{t:TS}(h:PSs X.nox st t):PSs X st t:=fun pins s σ H D I hw=>
 wpAny_mono (h pins s σ H D (I.wish _) hw) (fun _ _ q=>q.unwish) fun _ _ z=>False.elim z
end
section
variable {X:Cx} {st:Stmt} {rest:List Stmt} {t u:TS} {e:Expr} {te:TE} {pos:Pos}
def uO:TS:=fun D σ H=>D.nx σ H
def Kd(t u:TS):TS:=fun D σ H=>t { D with nx:=u D } σ H
theorem Ke:PSs X [] uO:=fun _ _ σ H _ I h=>wpAny_execs_nil ⟨σ,H,I,h⟩
theorem Kf(h1:PS X st t)(h2:PSs X rest u):PSs X (st::rest) (Kd t u):=by
 intro pins s σ H D I h
 refine wpAny_execs_cons (thn (h1 pins s σ H { D with nx:=u D } I h) fun f s1 q=>?_)
 cases f with
 |next=>
  obtain ⟨σ',H',I',q⟩:=q
  exact h2 pins s1 σ' H' D I' q
 |ret v=>exact q
 |brk=>exact q
 |cont=>exact q
theorem uP(h1:PS X st t):PSs X [st] t:=by
 intro pins s σ H D I h
 refine wpAny_execs_cons (thn (h1 pins s σ H D I h) fun f s1 q=>?_)
 cases f with
 |next=>exact wpAny_execs_nil q
 |ret v=>exact q
 |brk=>exact q
 |cont=>exact q
def Kg:TS:=fun D σ H=>D.bk σ H
def Kh:TS:=fun D σ H=>D.ct σ H
theorem Kl:PS X (.Pass pos) uO:=fun _ _ σ H _ I h=>wpAny_Pass ⟨σ,H,I,h⟩
theorem Km:PS X (.Break pos) Kg:=fun _ _ σ H _ I h=>wpAny_Break ⟨σ,H,I,h⟩
theorem Ko:PS X (.Continue pos) Kh:=fun _ _ σ H _ I h=>wpAny_Continue ⟨σ,H,I,h⟩
theorem Inv.quiet{pins:List (Addr×Obj)}{σ:St}{H:Hp}{s:Shared}(I:Inv X pins σ H s):interactive X.env=false:=by simp[interactive,I.ok.kind]
def Kp(te:TE):TS:=fun D σ H=>te σ H fun _ H1=>D.nx σ H1
theorem Kq(he:PE X e te)(hs:swapsWith e none pos.line X.env=pure false:=by rfl):PS X (.Expr e pos) (Kp te):=by
 intro pins s σ H D I h
 exact wpAny_Expr_any (thn (he pins s σ H _ I h) fun v s1 ⟨x,H1,I1,r1,q1⟩=>⟨σ,H1,I1,q1⟩) I.quiet hs
def Kr(te:TE):TS:=fun D σ H=>te σ H D.rt
theorem Ks(he:PE X e te):PS X (.Return (some e) pos) (Kr te):=by
 intro pins s σ H D I h
 exact wpAny_Return_some (thn (he pins s σ H _ I h) fun v s1 ⟨x,H1,I1,r1,q1⟩=>⟨x,σ,H1,I1,r1,q1⟩)
def Ku:TS:=fun D _ H=>D.rt .non H
theorem Kv:PS X (.Return none pos) Ku:=fun _ _ σ H _ I h=>wpAny_Return_none ⟨.non,σ,H,I,rfl,h⟩
def Kw(c:TT)(t u:TS):TS:=fun D σ H=>c σ H fun b H1=>if b=true then t D σ H1 else u D σ H1
theorem Ky{c:Expr}{a b:List Stmt}{tc:TT}(hc:PT X c tc)(ha:PSs X a t)(hb:PSs X b u):PS X (.If c a b pos) (Kw tc t u):=by
 intro pins s σ H D I h
 refine wpAny_If (thn (hc pins s σ H _ I h) fun d s1 ⟨H1,I1,q1⟩=>?_)
 cases d with
 |true=>exact ha pins s1 σ H1 D I1 q1
 |false=>exact hb pins s1 σ H1 D I1 q1
def Kz:TS:=fun _ _ _=>False
theorem KC:PS X st Kz:=fun _ _ _ _ _ _ h=>h.elim
end
abbrev TG:=V→St→Hp→(St→Hp→Prop)→Prop
abbrev TGs:=List V→St→Hp→(St→Hp→Prop)→Prop
def PG(X:Cx)(target:Expr)(t:TG):Prop:=
 ∀(pins:List (Addr×Obj))(s:Shared)(σ:St)(H:Hp)(v:V)(u:Value)(Q:St→Hp→Prop),Inv X pins σ H s→RelV v u→t v σ H Q→
  wpAny (model X.prog X.w) X.A (assign target X.env u) (fun _ s'=>∃σ' H',Inv X pins σ' H' s'∧Q σ' H') X.xe s
def PGs(X:Cx)(ts:List Expr)(t:TGs):Prop:=
 ∀(pins:List (Addr×Obj))(s:Shared)(σ:St)(H:Hp)(vs:List V)(us:List Value)(Q:St→Hp→Prop),Inv X pins σ H s→Vals vs us→t vs σ H Q→
  wpAny (model X.prog X.w) X.A (assignInOrder ((assignEach ts X.env).map (·.2)) us) (fun _ s'=>∃σ' H',Inv X pins σ' H' s'∧Q σ' H') X.xe s
abbrev pY:=V→V→V→Hp→(Hp→Prop)→Prop
def pZ(X:Cx)(t:pY):Prop:=
 ∀(pins:List (Addr×Obj))(s:Shared)(σ:St)(H:Hp)(o i v:V)(ov iv u:Value)(Q:Hp→Prop),Inv X pins σ H s→RelV o ov→RelV i iv→RelV v u→t o i v H Q→
  wpAny (model X.prog X.w) X.A (setItem ov iv u) (fun _ s'=>∃H',Inv X pins σ H' s'∧Q H') X.xe s
section
variable {X:Cx} {pos:Pos}
def kJ(i:Nat):TG:=fun v σ H Q=>Q (σ.set i (some v)) H
theorem KD{i:Nat}{x:Str}(hN:X.N.Nodup)(hi:X.N[i]?=some x)(hx:Loc X.env.scope x)(hf:X.fn x=true∨X.env.scope.names.lookup x=some .local:=by first |exact .inl rfl |exact .inr rfl |assumption):PG X (.Name x pos) (kJ i):=by
 intro pins s σ H v u Q I r h
 exact wpAny_assign_Name (iI I hN hi hx r (fun s' I'=>⟨_,H,I',h⟩) hf)
def KH:TGs:=fun vs σ H Q=>vs=[]∧Q σ H
def KJ(t:TG)(u:TGs):TGs:=fun vs σ H Q=>∃v r,vs=v::r∧t v σ H fun σ' H'=>u r σ' H' Q
theorem KN:PGs X [] KH:=by
 intro pins s σ H vs us Q I r h
 obtain ⟨e,h⟩:=h
 subst e
 cases r
 exact assignInOrder_nil ⟨σ,H,I,h⟩
theorem KQ{e:Expr}{es:List Expr}{t:TG}{u:TGs}(h1:PG X e t)(h2:PGs X es u)
  (hs:(assignEach (e::es) X.env).map (·.2)=assign e X.env::(assignEach es X.env).map (·.2):=by rfl):PGs X (e::es) (KJ t u):=by
 intro pins s σ H vs us Q I r h
 obtain ⟨v,vr,e1,h⟩:=h
 subst e1
 cases r with
 |cons r rr=>
  rw[hs]
  refine assignInOrder_cons (thn (h1 pins s σ H _ _ _ I r h) fun _ s1 ⟨σ1,H1,I1,q1⟩=>?_)
  exact h2 pins s1 σ1 H1 _ _ Q I1 rr q1
def KR(K:PySem.W.Frag)(n:Nat)(t:TGs):TG:=fun v σ H Q=>∃a xs,v=.ref a∧SqT K H a xs∧xs.length=n∧t xs σ H Q
theorem KY{es:List Expr}{k:Nat}{t:TGs}{n:Nat}(hc:X.calm=true)(h:PGs X es t)
  (hn:(assignEach es X.env).length=n:=by rfl) (hst:(assignEach es X.env).findIdx? (·.1)=none:=by rfl):PG X (.Tuple es k pos) (KR X.K n t):=by
 intro pins s σ H v u Q I r hw
 obtain ⟨a,xs,e1,hq,hl,hw⟩:=hw
 subst e1
 cases r
 obtain ⟨its,rv,ht,hz⟩:=I.tuple hq
 refine assign_Tuple_tuple (I.ok.hd hc) ht (by simp[hn,←hl,rv.length]) hst fun h' hx=>?_
 have I1:Inv X pins σ H { s with heap:=h' }:=I.kept (t':=s.toks) fun b o e=>hx b o (Nat.ne_of_lt (Heap.lt_size e)) e
 exact h pins _ σ H xs _ Q I1 (by simpa using rv) hw
def KZ(to ti:TE)(t:pY):TG:=fun v σ H Q=>to σ H fun o H1=>ti σ H1 fun i H2=>t o i v H2 fun H3=>Q σ H3
theorem K1{o i:Expr}{to ti:TE}{t:pY}(ho:PE X o to)(hi:PE X i ti)(hs:pZ X t)
  (ha:∀v,assign (.Subscript o i pos) X.env v=(do
   let ov ←holding [v] (eval o X.env)
   let iv ←holding [v,ov] (eval i X.env)
   standAt pos
   holding [v,ov,iv] (setItem ov iv v)
   release [v,ov,iv] []):=by intro _;rfl):PG X (.Subscript o i pos) (KZ to ti t):=by
 intro pins s σ H v u Q I r h
 rw[ha]
 refine wpAny_bind (wpAny_holding (thn (ho pins s σ H _ I h) fun ov s1 ⟨x,H1,I1,r1,q1⟩=>?_))
 refine wpAny_bind (wpAny_holding (thn (hi pins s1 σ H1 _ I1 q1) fun iv s2 ⟨y,H2,I2,r2,q2⟩=>?_))
 refine wpAny_bind (wpAny_standAt (wpAny_bind (wpAny_holding (thn (hs pins s2 σ H2 x y v ov iv u _ I2 r1 r2 r q2) fun _ s3 ⟨H3,I3,q3⟩=>?_))))
 exact wpAny_release ⟨σ,H3,I3,q3⟩
def kO(te:TE)(g:TG):TS:=fun D σ H=>te σ H fun x H1=>g x σ H1 D.nx
theorem uQ{tg e:Expr}{te:TE}{g:TG}(he:PE X e te)(hg:PG X tg g)(hs:swapsWithSole [tg] e pos.line X.env=pure false:=by rfl)(hw:swappedStores [tg] e X.env=pure none:=by rfl)
  (h1:(assignEach [tg] X.env).map (·.2)=[assign tg X.env]:=by rfl):PS X (.Assign [tg] e pos) (kO te g):=by
 intro pins s σ H D I h
 refine wpAny_Assign_stores (thn (he pins s σ H _ I h) fun v s1 ⟨x,H1,I1,r1,q1⟩=>?_) hs hw
 rw[h1]
 exact thn (hg pins s1 σ H1 x v _ I1 r1 q1) fun _ s2 q=>q
theorem kW{i:Nat}{x:Str}{e:Expr}{te:TE}{pos':Pos}(hN:X.N.Nodup)(hi:X.N[i]?=some x)(hx:Loc X.env.scope x)(he:PE X e te)(hs:swapsWith e (some (.Name x pos')) pos.line X.env=pure false:=by rfl)(hf:X.fn x=true∨X.env.scope.names.lookup x=some .local:=by first |exact .inl rfl |exact .inr rfl |assumption):
  PS X (.Assign [.Name x pos'] e pos) (kO te (kJ i)):=by
 intro pins s σ H D I h
 refine wpAny_Assign_Name (thn (he pins s σ H _ I h) fun v s1 ⟨y,H1,I1,r1,q1⟩=>?_) hs
 exact iI I1 hN hi hx r1 (fun s2 I2=>⟨_,H1,I2,q1⟩) hf
end
section
variable {X:Cx} {pos:Pos}
end
structure It where
 go:Nat→Hp→Prop
 yld:Nat→Hp→V→Hp→Prop
 stop:Nat→Hp→Prop
def dj(X:Cx)(pins:List (Addr×Obj))(H:Hp)(b:Addr):Prop:=
 H b=none∧b≠X.env.locals∧b∉X.fs∧(b∈X.ex∨X.s₀.heap.objs.size≤b)∧(∀x c,X.env.cells.lookup x=some c→c≠b)∧∀p∈X.pn++pins,p.1≠b
theorem Inv.fpOk{X:Cx}{pins:List (Addr×Obj)}{σ:St}{H H':Hp}{s:Shared}{b:Addr}(I:Inv X pins σ H s)(hb:s.heap.objs.size≤b)(hn:H' b=none):dj X pins H' b:=by
 refine ⟨hn,Nat.ne_of_gt (Nat.lt_of_lt_of_le I.lt hb),I.nofs hb,.inr (Nat.le_trans I.sz hb),fun x c e z=>?_,fun p hp z=>?_⟩
 ·obtain ⟨v,q⟩:=I.cell x c e
  exact absurd (Nat.lt_of_lt_of_le q.lt (by rw[z];exact hb)) (Nat.lt_irrefl _)
 ·exact absurd (Nat.lt_of_lt_of_le (Heap.lt_size (I.pin p hp).1) (by rw[z];exact hb)) (Nat.lt_irrefl _)
structure Turn(P:Program)(w:World)(K:PySem.W.Frag)(tg:Expr)(J:It)(fp:List Addr)(it:Addr)(tn:Nat→Heap→Prop):Prop where
 mem:it∈fp
 obj:∀i h,tn i h→∀b∈fp,∃o,h.get? b=some o∧∀v,o.data≠.cell v
 keep:∀i h h',tn i h→(∀b∈fp,∀o,h.get? b=some o→h'.get? b=some o)→tn i h'
 item:∀(X:Cx),X.prog=P→X.w=w→X.K=K→X.calm=true→∀(i:Nat)(pins:List (Addr×Obj))(s:Shared)(σ:St)(H:Hp)(E:Value→Shared→Prop),Inv X pins σ H s→(∀b∈fp,dj X pins H b)→tn i s.heap→J.go i H→
  wpAny (model P w) X.A (pyNext (.ref it)) (fun r s1=>∃u,r=some u∧
   wpAny (model P w) X.A (letOwnedTupleGo tg (.ref it) u) (fun _ s2=>∃x H',Inv X pins σ H' s2∧RelV x u∧J.yld i H x H'∧tn (i+1) s2.heap∧∀b∈fp,H' b=none) E s1) E s
 done:∀(X:Cx),X.prog=P→X.w=w→X.K=K→X.calm=true→∀(i:Nat)(pins:List (Addr×Obj))(s:Shared)(σ:St)(H:Hp)(E:Value→Shared→Prop),Inv X pins σ H s→(∀b∈fp,dj X pins H b)→tn i s.heap→J.stop i H→
  wpAny (model P w) X.A (pyNext (.ref it)) (fun r s1=>r=none∧Inv X pins σ H s1) E s
 self:∀(A:Around)(i:Nat)(s:Shared)(Q:Value→Shared→Prop)(E:Value→Shared→Prop),tn i s.heap→Q (.ref it) s→wpAny (model P w) A (pyIter (.ref it)) Q E s
abbrev TI:=St→Hp→(It→Hp→Prop)→Prop
def PIE(X:Cx)(pins:List (Addr×Obj))(σ:St)(tg:Expr)(R:It→Hp→Prop)(itv:Value)(s2:Shared):Prop:=
 ∃(it:Addr)(fp:List Addr)(tn:Nat→Heap→Prop)(J:It)(H':Hp),itv=.ref it∧Inv X pins σ H' s2∧Turn X.prog X.w X.K tg J fp it tn∧tn 0 s2.heap∧(∀b∈fp,dj X pins H' b)∧R J H'
def PI(X:Cx)(tg iter:Expr)(wi:TI):Prop:=
 ∀(pins:List (Addr×Obj))(s:Shared)(σ:St)(H:Hp)(R:It→Hp→Prop),Inv X pins σ H s→wi σ H R→
  wpAny (model X.prog X.w) X.A (eval iter X.env) (fun v s1=>wpAny (model X.prog X.w) X.A (pyIter v) (PIE X pins σ tg R) X.xe s1) X.xe s
theorem kY{M:Model}{A:Around}{E:Value→Shared→Prop}{s:Shared}{tg:Expr}{it:Addr}{u:Value}{o:Obj}{n:String}{vs:Array Value}{Q:Unit→Shared→Prop}(ho:s.heap.get? it=some o)(hc:o.cls=.type n)(hd:o.data=.fields vs)
  (hn:["enumerate","zip","dict_itemiterator","dict_reverseitemiterator","odict_iterator","itertools.zip_longest","itertools.pairwise"].contains n=false) (hQ:Q () s):wpAny M A (letOwnedTupleGo tg (.ref it) u) Q E s:=by
 unfold letOwnedTupleGo
 cases tg <;> first
  |exact wpAny_pure hQ
  | (cases u <;> first
    |exact wpAny_pure hQ
    | (refine wpAny_bind (wpAny_load ho ?_)
       rw[hc,hd]
       show wpAny M A (if (["enumerate","zip","dict_itemiterator","dict_reverseitemiterator","odict_iterator","itertools.zip_longest","itertools.pairwise"].contains n&&vs[0]?==some (rawInt _))=true then _ else _) Q E s
       rw[if_neg (by intro h;rw[hn,Bool.false_and]at h;cases h)]
       exact wpAny_pure hQ))
def Itl(K:PySem.W.Frag)(a:Addr):It:=
 ⟨fun i H=>∃xs x,SqL K H a xs∧xs[i]?=some x,fun i H x H'=>H'=H∧∀xs,SqL K H a xs→xs[i]?=some x,fun i H=>∃xs,SqL K H a xs∧xs.length≤i⟩
def Itt(K:PySem.W.Frag)(a:Addr):It:=
 ⟨fun i H=>∃xs x,SqT K H a xs∧xs[i]?=some x,fun i H x H'=>H'=H∧∀xs,SqT K H a xs→xs[i]?=some x,fun i H=>∃xs,SqT K H a xs∧xs.length≤i⟩
def Itr(lo:Int)(n:Nat):It:=⟨fun i _=>i < n,fun i H x H'=>H'=H∧x=.int (lo+i),fun i _=>n≤i⟩
theorem uR{P:Program}{w:World}{K:PySem.W.Frag}{tg:Expr}(a it:Addr):Turn P w K tg (Itl K a) [it] it (fun i h=>h.IsListIter it a i) where
 mem:=by simp
 obj:=fun i h st b hb=>by
  have e:b=it:=by simpa using hb
  subst e
  obtain ⟨o,e,c,d⟩:=st
  exact ⟨o,e,fun v z=>by rw[d]at z;cases z⟩
 keep:=fun i h h' st k=>st.at fun o e=>k it (by simp) o e
 item:=by
  intro X hP hw hK hc i pins s σ H E I hf st hg
  subst hP hw hK
  obtain ⟨xs,x,hq,hx⟩:=hg
  obtain ⟨its,rv,p,hz⟩:=I.list hq
  obtain ⟨u,hu,ru⟩:=rv.get hx
  obtain ⟨f0,f1,f2,f3,f4,f5⟩:=hf it (by simp)
  refine wpAny_pyNext_list_item st p.isList (x:=u) (by simpa using hu) fun h' st' sb=>?_
  have I1:Inv X pins σ H { s with heap:=h' }:=I.turned (t':=s.toks) (fun b o hb e=>(sb.2 b hb).trans e) f0 f1 f3 f4 f5
  obtain ⟨o,e,c,d⟩:=id st'
  exact ⟨u,rfl,kY (s:={ s with heap:=h' }) e c d (by decide) ⟨x,H,I1,ru,⟨rfl,fun ys hy=>by rw[I.list_inj hy hq];exact hx⟩,st',fun b hb=>(hf b hb).1⟩⟩
 done:=by
  intro X hP hw hK hc i pins s σ H E I hf st hg
  subst hP hw hK
  obtain ⟨xs,hq,hx⟩:=hg
  obtain ⟨its,rv,p,hz⟩:=I.list hq
  obtain ⟨f0,f1,f2,f3,f4,f5⟩:=hf it (by simp)
  have hl:=rv.length
  exact wpAny_pyNext_list_end (I.ok.hd hc) st p.isList (by simp;omega) fun h' eb=>⟨rfl,I.turned (t':=s.toks) (fun b o hb e=>eb b o hb e) f0 f1 f3 f4 f5⟩
 self:=fun _ _ _ _ _ st h=>wpAny_pyIter_listiter st h
theorem uT{P:Program}{w:World}{K:PySem.W.Frag}{tg:Expr}(a it:Addr):Turn P w K tg (Itt K a) [it] it (fun i h=>h.IsTupleIter it a i) where
 mem:=by simp
 obj:=fun i h st b hb=>by
  have e:b=it:=by simpa using hb
  subst e
  obtain ⟨o,e,c,d⟩:=st
  exact ⟨o,e,fun v z=>by rw[d]at z;cases z⟩
 keep:=fun i h h' st k=>st.at fun o e=>k it (by simp) o e
 item:=by
  intro X hP hw hK hc i pins s σ H E I hf st hg
  subst hP hw hK
  obtain ⟨xs,x,hq,hx⟩:=hg
  obtain ⟨its,rv,p,hz⟩:=I.tuple hq
  obtain ⟨u,hu,ru⟩:=rv.get hx
  obtain ⟨f0,f1,f2,f3,f4,f5⟩:=hf it (by simp)
  refine wpAny_pyNext_tuple_item st (show s.heap.IsTuple a its.toArray from p) (x:=u) (by simpa using hu) fun h' st' sb=>?_
  have I1:Inv X pins σ H { s with heap:=h' }:=I.turned (t':=s.toks) (fun b o hb e=>(sb.2 b hb).trans e) f0 f1 f3 f4 f5
  obtain ⟨o,e,c,d⟩:=id st'
  exact ⟨u,rfl,kY (s:={ s with heap:=h' }) e c d (by decide) ⟨x,H,I1,ru,⟨rfl,fun ys hy=>by rw[I.tuple_inj hy hq];exact hx⟩,st',fun b hb=>(hf b hb).1⟩⟩
 done:=by
  intro X hP hw hK hc i pins s σ H E I hf st hg
  subst hP hw hK
  obtain ⟨xs,hq,hx⟩:=hg
  obtain ⟨its,rv,p,hz⟩:=I.tuple hq
  obtain ⟨f0,f1,f2,f3,f4,f5⟩:=hf it (by simp)
  have hl:=rv.length
  exact wpAny_pyNext_tuple_end (I.ok.hd hc) st (show s.heap.IsTuple a its.toArray from p) (by simp;omega) fun h' eb=>⟨rfl,I.turned (t':=s.toks) (fun b o hb e=>eb b o hb e) f0 f1 f3 f4 f5⟩
 self:=fun _ _ _ _ _ st h=>wpAny_pyIter_tupleiter st h
theorem K5{P:Program}{w:World}{K:PySem.W.Frag}{tg:Expr}(it:Addr)(lo:Int)(n:Nat):Turn P w K tg (Itr lo n) [it] it (fun i h=>IsRangeIter h it (lo+(i:Nat) * 1) ((n:Int) - (i:Nat)) 1) where
 mem:=by simp
 obj:=fun i h st b hb=>by
  have e:b=it:=by simpa using hb
  subst e
  exact ⟨_,st,fun v z=>by
   have z':Data.fields _=Data.cell v:=z
   cases z'⟩
 keep:=fun i h h' st k=>k it (by simp) _ st
 item:=by
  intro X hP hw hK hc i pins s σ H E I hf st hg
  subst hP hw hK
  obtain ⟨f0,f1,f2,f3,f4,f5⟩:=hf it (by simp)
  have W:=Walks.range (prog:=X.prog) (w:=X.w) (I.ok.hd hc) it lo 1 n
  refine W.item i s _ _ hg st fun v h' tk hv st' kk=>?_
  obtain ⟨t,rfl⟩:=hv
  have I1:Inv X pins σ H { s with heap:=h',toks:=tk }:=I.turned (fun b o hb e=>kk b o (by simpa using hb) e) f0 f1 f3 f4 f5
  refine ⟨_,rfl,kY (s:={ s with heap:=h',toks:=tk }) (n:="range_iterator") st' rfl rfl (by decide) ⟨.int (lo+i),H,I1,⟨t,?_⟩,⟨rfl,rfl⟩,st',fun b hb=>(hf b hb).1⟩⟩
  rw[Int.mul_one]
 done:=by
  intro X hP hw hK hc i pins s σ H E I hf st hg
  subst hP hw hK
  obtain ⟨f0,f1,f2,f3,f4,f5⟩:=hf it (by simp)
  exact wpAny_pyNext_range_end (I.ok.hd hc) st (by have:n≤i:=hg;omega) fun h' eb=>⟨rfl,I.turned (t':=s.toks) (fun b o hb e=>eb b o hb e) f0 f1 f3 f4 f5⟩
 self:=fun _ _ _ _ _ st h=>wpAny_pyIter_rangeiter st h
end L2
namespace L2
open PySem PySem.Spec PyProof.Rows
section
variable {X:Cx} {tg:Expr}
theorem K6{pins:List (Addr×Obj)}{σ:St}{H:Hp}{s:Shared}{R:It→Hp→Prop}{E:Value→Shared→Prop}{lo hi:Int}{t u v:Tok}{tk:Nat}(I:Inv X pins σ H s)(h1:-(2 ^ 62)≤lo)(h2:lo < 2 ^ 62)(h3:-(2 ^ 62)≤hi)(h4:hi < 2 ^ 62)
  (q:R (Itr lo (hi - lo).toNat) H):wpAny (model X.prog X.w) X.A (pyIter (.ref s.heap.objs.size)) (PIE X pins σ tg R) E { s with heap:=s.heap.push { cls:=.type "range",data:=.fields #[.int lo t,.int hi u,.int 1 v] },toks:=tk }:=by
 refine wpAny_pyIter_range (IsRange.new ..) (small_one h1 h2 h3 h4) ?_
 have I1:Inv X pins σ H { s with heap:=s.heap.push { cls:=.type "range",data:=.fields #[.int lo t,.int hi u,.int 1 v] },toks:=tk }:=I.kept fun b o e=>Heap.get?_push_of_some _ e
 refine ⟨(s.heap.push { cls:=.type "range",data:=.fields #[.int lo t,.int hi u,.int 1 v] }).objs.size,[(s.heap.push { cls:=.type "range",data:=.fields #[.int lo t,.int hi u,.int 1 v] }).objs.size],_,_,H,rfl,
  I1.kept (t':=tk) fun b o e=>Heap.get?_push_of_some _ e,K5 _ lo (hi - lo).toNat,?_,fun b hb=>?_,q⟩
 ·have e1:lo+((0:Nat):Int) * 1=lo:=by simp
  have e2:(((hi - lo).toNat:Nat):Int) - ((0:Nat):Int)=Builtin.Range.rangeSize lo hi 1:=by rw[rangeSize_one];split <;> omega
  show IsRangeIter _ _ (lo+((0:Nat):Int) * 1) ((((hi - lo).toNat:Nat):Int) - ((0:Nat):Int)) 1
  rw[e1,e2]
  exact Heap.get?_push_size _ rfl
 ·have e:b=(s.heap.push { cls:=.type "range",data:=.fields #[.int lo t,.int hi u,.int 1 v] }).objs.size:=by simpa using hb
  subst e
  exact I1.fpOk (Nat.le_refl _) (I1.hok.fresh (Nat.le_refl _))
def K7(ta:TA):TI:=fun σ H R=>ta σ H fun vs H1=>∃j:Int,vs=[.int j]∧-(2 ^ 62)≤j∧j < 2 ^ 62∧R (Itr 0 j.toNat) H1
theorem K8 {a:Expr} {ta:TA} {p pos:Pos} (hg:Gl X "range") (hm:X.mg "range"=none) (ha:PA X [a] ta) (hs:starEach [a] X.env=[(false,eval a X.env)]:=by rfl):PI X tg (.Call (.Name "range" p) [a] [] pos) (K7 ta):=by
 intro pins s σ H R I h
 refine Call_ (gr I hg hm boot_range (PyProof.Rows.callWith_type1 (thn (ha pos pins s σ H _ I h) fun us s1 ⟨vs,H1,I1,r1,q1⟩=>?_) hs rfl))
 obtain ⟨j,e,q1,q2,q⟩:=q1
 subst e
 cases r1 with
 |cons r rr=>
  cases rr
  obtain ⟨t,rfl⟩:=r
  exact call_range_1 (K6 I1 (by omega) (by omega) q1 q2 (by simpa using q))
def K9(wi:TI)(g:TG)(tb:TS):TS:=fun D σ H=>wi σ H fun J H1=>∃W:Nat→Nat→St→Hp→Prop,(∃m,W 0 m σ H1)∧∀i m σ H,W i m σ H→
 (J.stop i H∧D.nx σ H)∨(J.go i H∧∃N:St→Hp→Prop,(∀σ' H',N σ' H'→∃m',m' < m∧W (i+1) m' σ' H')∧∀x H',J.yld i H x H'→g x σ H' fun σ2 H2=>tb { D with nx:=N,ct:=N,bk:=D.nx } σ2 H2)
def iJ(fp:List Addr)(h:Heap):List (Addr×Obj):=fp.filterMap fun b=>(h.get? b).map fun o=>(b,o)
theorem kZ{fp:List Addr}{h:Heap}{b:Addr}{o:Obj}(hb:b∈fp)(e:h.get? b=some o):(b,o)∈iJ fp h:=List.mem_filterMap.mpr ⟨b,hb,by rw[e];rfl⟩
theorem La{fp:List Addr}{h:Heap}{p:Addr×Obj}(hp:p∈iJ fp h):p.1∈fp∧h.get? p.1=some p.2:=by
 obtain ⟨b,hb,e⟩:=List.mem_filterMap.mp hp
 cases q:h.get? b with
 |none=>rw[q]at e;cases e
 |some o=>
  rw[q]at e
  have e':(b,o)=p:=Option.some.inj e
  subst e'
  exact ⟨hb,q⟩
theorem Inv.pinned{pins:List (Addr×Obj)}{σ:St}{H:Hp}{s:Shared}{fp:List Addr}(I:Inv X pins σ H s)(hf:∀b∈fp,dj X pins H b)(ho:∀b∈fp,∃o,s.heap.get? b=some o∧∀v,o.data≠.cell v):Inv X (pins++iJ fp s.heap) σ H s:=
 I.pins_of fun p hp=>(List.mem_append.mp hp).elim (fun z=>I.pin p (List.mem_append_right _ z)) fun z=>by
  obtain ⟨hb,e⟩:=La z
  obtain ⟨f0,f1,f2,_⟩:=hf p.1 hb
  obtain ⟨o,e',d⟩:=ho p.1 hb
  rw[e]at e';cases e'
  exact ⟨e,f0,f1,f2,d⟩
theorem Inv.unpinned{pins pl:List (Addr×Obj)}{σ:St}{H:Hp}{s:Shared}(I:Inv X (pins++pl) σ H s):Inv X pins σ H s:=I.pins_of fun p hp=>I.pin p (List.mem_append_right _ (List.mem_append_left _ hp))
theorem Lb{iter:Expr}{body:List Stmt}{wi:TI}{g:TG}{tb:TS}{pos:Pos}(hp:PassesOwn (model X.prog X.w) X.A X.env X.xe)(hc:X.calm=true)(hi:PI X tg iter wi)(hg:PG X tg g)(hb:PSs X body tb)
  (hs:∀x,foldedSetIterable iter X.env x=pure x:=by intro _;rfl):PS X (.For tg iter body [] pos) (K9 wi g tb):=by
 intro pins s σ H D I h
 refine wpAny_For (thn (hi pins s σ H _ I h) fun v s1 h1=>thn h1 fun itv s2 h2=>?_) hs
 obtain ⟨it,fp,tn,J,H2,e,I2,T,st2,f2,W,⟨m0,w0⟩,turn⟩:=h2
 subst e
 -- what stays true of the iterator's objects through the loop
 have stat:∀{H':Hp},(∀b∈fp,H' b=none)→∀b∈fp,dj X pins H' b:=fun hn b hb=>⟨hn b hb,(f2 b hb).2⟩
 refine codeAny_forLoop_any (fun n s'=>∃i σ' H',Inv X pins σ' H' s'∧tn i s'.heap∧(∀b∈fp,H' b=none)∧W i n σ' H') ?_ m0 ⟨0,σ,H2,I2,st2,fun b hb=>(f2 b hb).1,w0⟩
 rintro n s3 ⟨i,σ3,H3,I3,st3,fr3,w3⟩
 rcases turn i n σ3 H3 w3 with ⟨stop,qn⟩ |⟨go,N,hN,step⟩
 ·refine wpAny_passesOwn hp (thn (T.done X rfl rfl rfl hc i pins s3 σ3 H3 X.xe I3 (stat fr3) st3 stop) fun r s4 ⟨hr,I4⟩=>?_)
  subst hr
  exact wpAny_execs_nil ⟨σ3,H3,I4,qn⟩
 ·refine wpAny_passesOwn hp (thn (T.item X rfl rfl rfl hc i pins s3 σ3 H3 X.xe I3 (stat fr3) st3 go) fun r s4 ⟨u,hr,h4⟩=>?_)
  subst hr
  refine wpAny_passesOwn hp (thn h4 fun _ s5 ⟨x,H5,I5,r5,y5,st5,fr5⟩=>?_)
  have I5':=I5.pinned (stat fr5) (T.obj _ _ st5)
  refine wpAny_passesOwn hp (thn (hg _ s5 σ3 H5 x u _ I5' r5 (step x H5 y5)) fun _ s6 ⟨σ6,H6,I6,q6⟩=>?_)
  refine wpAny_passesOwn hp (thn (hb _ s6 σ6 H6 _ I6 q6) fun f s7 q7=>?_)
  have again:∀{σ7:St}{H7:Hp},Inv X (pins++iJ fp s5.heap) σ7 H7 s7→N σ7 H7→∃m,m < n∧∃i σ' H',Inv X pins σ' H' s7∧tn i s7.heap∧(∀b∈fp,H' b=none)∧W i m σ' H':=fun {σ7 H7} I7 n7=>by
   obtain ⟨m',hm,w7⟩:=hN σ7 H7 n7
   refine ⟨m',hm,i+1,σ7,H7,I7.unpinned,T.keep _ _ _ st5 fun b hb o e=>(I7.pin (b,o) (List.mem_append_right _ (List.mem_append_right _ (kZ hb e)))).1,fun b hb=>?_,w7⟩
   obtain ⟨o,e,d⟩:=T.obj _ _ st5 b hb
   exact (I7.pin (b,o) (List.mem_append_right _ (List.mem_append_right _ (kZ hb e)))).2.1
  cases f with
  |next=>obtain ⟨σ7,H7,I7,n7⟩:=q7;exact again I7 n7
  |cont=>obtain ⟨σ7,H7,I7,n7⟩:=q7;exact again I7 n7
  |brk=>obtain ⟨σ7,H7,I7,q7⟩:=q7;exact ⟨σ7,H7,I7.unpinned,q7⟩
  |ret v=>obtain ⟨x7,σ7,H7,I7,r7,q7⟩:=q7;exact ⟨x7,σ7,H7,I7.unpinned,r7,q7⟩
end
end L2
namespace L2
open PySem PySem.Spec PyProof.Rows
abbrev R2:=V→V→Hp→VK→Prop
def OpR(X:Cx)(f:Value→Value→Sem Value)(r:R2):Prop:=
 ∀(pins:List (Addr×Obj))(s:Shared)(σ:St)(H:Hp)(x y:V)(v u:Value)(Q:VK),Inv X pins σ H s→RelV x v→RelV y u→r x y H Q→
  wpAny (model X.prog X.w) X.A (f v u) (EP X pins σ Q) X.xe s
def UnR(X:Cx)(f:Value→Sem Value)(r:V→Hp→VK→Prop):Prop:=
 ∀(pins:List (Addr×Obj))(s:Shared)(σ:St)(H:Hp)(x:V)(v:Value)(Q:VK),Inv X pins σ H s→RelV x v→r x H Q→
  wpAny (model X.prog X.w) X.A (f v) (EP X pins σ Q) X.xe s
def bF(X:Cx)(f:Value)(r:List V→Hp→VK→Prop):Prop:=
 ∀(pins:List (Addr×Obj))(s:Shared)(σ:St)(H:Hp)(xs:List V)(us:List Value)(Q:VK),Inv X pins σ H s→Vals xs us→r xs H Q→
  wpAny (model X.prog X.w) X.A (call f us) (EP X pins σ Q) X.xe s
def Ld(X:Cx)(r:V→Hp→(Bool→Hp→Prop)→Prop):Prop:=
 ∀(pins:List (Addr×Obj))(s:Shared)(σ:St)(H:Hp)(x:V)(v:Value)(Q:Bool→Hp→Prop),Inv X pins σ H s→RelV x v→r x H Q→
  wpAny (model X.prog X.w) X.A (truthy v) (TP X pins σ Q) X.xe s
def tOp(r:R2)(ta tb:TE):TE:=fun σ H Q=>ta σ H fun x H1=>tb σ H1 fun y H2=>r x y H2 Q
def tUn(r:V→Hp→VK→Prop)(ta:TE):TE:=fun σ H Q=>ta σ H fun x H1=>r x H1 Q
def rI(C:Int→Int→Prop)(g:Int→Int→V):R2:=fun x y H Q=>∃i j,x=.int i∧y=.int j∧C i j∧Q (g i j) H
def rI0(g:Int→Int→V):R2:=fun x y H Q=>∃i j,x=.int i∧y=.int j∧Q (g i j) H
def rU(g:Int→V):V→Hp→VK→Prop:=fun x H Q=>∃i,x=.int i∧Q (g i) H
section
variable {X:Cx} {a b c:Expr} {ta tb tc:TE} {pos:Pos}
theorem p6(ha:PE X a ta)(hb:PE X b tb){pins:List (Addr×Obj)}{s:Shared}{σ:St}{H:Hp}{R:V→V→Hp→Prop}(I:Inv X pins σ H s)
  (h:ta σ H fun x H1=>tb σ H1 fun y H2=>R x y H2) {Q:Value→Shared→Prop} {f:Value→Value→Sem Value}
  (hf:∀v u s2 x y H2,Inv X pins σ H2 s2→RelV x v→RelV y u→R x y H2→wpAny (model X.prog X.w) X.A (f v u) Q X.xe s2):
  wpAny (model X.prog X.w) X.A (eval a X.env) (fun v s₁=>wpAny (model X.prog X.w) X.A (eval b X.env) (fun u s₂=>wpAny (model X.prog X.w) X.A (f v u) Q X.xe s₂) X.xe s₁) X.xe s:=by
 refine thn (ha pins s σ H _ I h) fun v s1 ⟨x,H1,I1,r1,q1⟩=>?_
 refine thn (hb pins s1 σ H1 _ I1 q1) fun u s2 ⟨y,H2,I2,r2,q2⟩=>?_
 exact hf v u s2 x y H2 I2 r1 r2 q2
theorem Lg{op:Operator}{r:R2}(ho:OpR X (binaryOp op) r)(ha:PE X a ta)(hb:PE X b tb):PE X (.BinOp a op b pos) (tOp r ta tb):=by
 intro pins s σ H Q I h
 exact wpAny_BinOp (p6 ha hb I h fun v u s2 x y H2 I2 rx ry q=>ho pins s2 σ H2 x y v u Q I2 rx ry q)
theorem Lh{op:UnaryOp}{r:V→Hp→VK→Prop}(ho:UnR X (unaryOp op) r)(ha:PE X a ta):PE X (.UnaryOp op a pos) (tUn r ta):=by
 intro pins s σ H Q I h
 exact UnaryOp_ (thn (ha pins s σ H _ I h) fun v s1 ⟨x,H1,I1,r1,q1⟩=>ho pins s1 σ H1 x v Q I1 r1 q1)
theorem opI{f:Value→Value→Sem Value}{C:Int→Int→Prop}{g:Int→Int→Int}
  (rule:∀(i j:Int)(t u:Tok)(s:Shared)(Q:Value→Shared→Prop)(E:Value→Shared→Prop),C i j→Q (.int (g i j) s.toks) { s with toks:=s.toks+1 }→wpAny (model X.prog X.w) X.A (f (.int i t) (.int j u)) Q E s):
  OpR X f (rI C fun i j=>.int (g i j)):=by
 intro pins s σ H x y v u Q I rx ry h
 obtain ⟨i,j,rfl,rfl,hc,q⟩:=h
 obtain ⟨t,rfl⟩:=rx
 obtain ⟨t',rfl⟩:=ry
 exact rule i j t t' s _ _ hc ⟨.int (g i j),H,I.tok _,⟨_,rfl⟩,q⟩
theorem uU{f:Value→Value→Sem Value}{g:Int→Int→Int}
  (rule:∀(i j:Int)(t u:Tok)(s:Shared)(Q:Value→Shared→Prop)(E:Value→Shared→Prop),Q (.int (g i j) s.toks) { s with toks:=s.toks+1 }→wpAny (model X.prog X.w) X.A (f (.int i t) (.int j u)) Q E s):
  OpR X f (rI0 fun i j=>.int (g i j)):=by
 intro pins s σ H x y v u Q I rx ry h
 obtain ⟨i,j,rfl,rfl,q⟩:=h
 obtain ⟨t,rfl⟩:=rx
 obtain ⟨t',rfl⟩:=ry
 exact rule i j t t' s _ _ ⟨.int (g i j),H,I.tok _,⟨_,rfl⟩,q⟩
def lg(i j:Int):Prop:=0≤j∧j≤1000000∧i.natAbs < 2 ^ 64
def CMul(i j:Int):Prop:=(-(2 ^ 64) < i∧i < 2 ^ 64)∨(-(2 ^ 64) < j∧j < 2 ^ 64)
theorem CMul.ok{i j:Int}(h:CMul i j):IntMulOk i j:=by
 rcases h with ⟨h1,h2⟩ |⟨h1,h2⟩
 ·exact .of_left (intBits_le_64 h1 h2)
 ·exact .of_right (intBits_le_64 h1 h2)
theorem Li:OpR X (binaryOp .Add) (rI0 fun i j=>.int (i+j)):=uU fun _ _ _ _ _ _ _ q=>add_int q
theorem Lj:OpR X (binaryOp .Sub) (rI0 fun i j=>.int (i - j)):=uU fun _ _ _ _ _ _ _ q=>sub_int q
theorem Lk:OpR X (binaryOp .Mult) (rI CMul fun i j=>.int (i * j)):=opI fun _ _ _ _ _ _ _ hc q=>mul_int q hc.ok
theorem Ln:OpR X (binaryOp .Mod) (rI (fun _ j=>0 < j) fun i j=>.int (i % j)):=opI fun i j _ _ _ _ _ hc q=>by
 have h1:(0:Int) < j:=hc
 exact mod_int' (by omega) (by rw[Int.fmod_eq_emod_of_nonneg i (by omega)];exact q)
theorem Lp:OpR X (binaryOp .Pow) (rI lg fun i j=>.int (i ^ j.toNat)):=opI fun _ _ _ _ _ _ _ hc q=>pow_int_small hc.1 hc.2.1 hc.2.2 q
theorem unI{f:Value→Sem Value}{g:Int→Int}
  (rule:∀(i:Int)(t:Tok)(s:Shared)(Q:Value→Shared→Prop)(E:Value→Shared→Prop),Q (.int (g i) s.toks) { s with toks:=s.toks+1 }→wpAny (model X.prog X.w) X.A (f (.int i t)) Q E s):
  UnR X f (rU fun i=>.int (g i)):=by
 intro pins s σ H x v Q I rx h
 obtain ⟨i,rfl,q⟩:=h
 obtain ⟨t,rfl⟩:=rx
 exact rule i t s _ _ ⟨.int (g i),H,I.tok _,⟨_,rfl⟩,q⟩
theorem Lq:UnR X (unaryOp .USub) (rU fun i=>.int (-i)):=unI fun _ _ _ _ _ q=>neg_int q
end
section
variable {X:Cx} {a b c:Expr} {ta tb tc:TE} {pos:Pos}
theorem uV{pins:List (Addr×Obj)}{σ:St}{H:Hp}{s:Shared}{Q:VK}{k k':Bool}(I:Inv X pins σ H s)(q:Q (.bl k) H)(e:k=k'):EP X pins σ Q (.bool k') s:=by
 subst e
 exact ⟨.bl k,H,I,rfl,q⟩
theorem Lr:OpR X (compareOp .Is) (fun x y H Q=>y=.non∧Q (.bl (decide (x=.non))) H):=by
 intro pins s σ H x y v u Q I rx ry h
 obtain ⟨rfl,q⟩:=h
 cases ry
 refine is_none_gen (uV I q ?_)
 cases x <;> first
  | (cases rx;rfl)
  | (obtain ⟨t,rfl⟩:=rx;rfl)
theorem Ls:OpR X (compareOp .IsNot) (fun x y H Q=>y=.non∧Q (.bl (!decide (x=.non))) H):=by
 intro pins s σ H x y v u Q I rx ry h
 obtain ⟨rfl,q⟩:=h
 cases ry
 refine isnot_none_gen (uV I q ?_)
 cases x <;> first
  | (cases rx;rfl)
  | (obtain ⟨t,rfl⟩:=rx;rfl)
theorem Lw{op:CmpOp}{r:R2}(ho:OpR X (compareOp op) r)(ha:PE X a ta)(hb:PE X b tb)(hm:behindInMarks op b=false):PE X (.Compare a [op] [b] pos) (tOp r ta tb):=by
 intro pins s σ H Q I h
 exact wpAny_Compare1 (p6 ha hb I h fun v u s2 x y H2 I2 rx ry q=>ho pins s2 σ H2 x y v u Q I2 rx ry q) hm
def uW(t:TE):TT:=fun σ H Q=>t σ H fun x H'=>∃k,x=.bl k∧Q k H'
theorem Lx{op:CmpOp}{r:R2}(ho:OpR X (compareOp op) r)(ha:PE X a ta)(hb:PE X b tb)(hm:behindInMarks op b=false):PT X (.Compare a [op] [b] pos) (uW (tOp r ta tb)):=by
 intro pins s σ H Q I h
 refine wpAny_isTrue_Compare1 (thn (ha pins s σ H _ I h) fun v s1 ⟨x,H1,I1,r1,q1⟩=>thn (hb pins s1 σ H1 _ I1 q1) fun u s2 ⟨y,H2,I2,r2,q2⟩=>
  thn (ho pins s2 σ H2 x y v u _ I2 r1 r2 q2) fun c s3 ⟨z,H3,I3,r3,k,e,q3⟩=>?_) hm
 subst e
 cases r3
 exact wpAny_truthy_bool ⟨H3,I3,q3⟩
def p7(r r':R2)(ta tb tc:TE):TE:=fun σ H Q=>ta σ H fun x H1=>tb σ H1 fun y H2=>r x y H2 fun z H3=>∃k,z=.bl k∧
 (if k=true then tc σ H3 fun w' H4=>r' y w' H4 Q else Q (.bl false) H3)
theorem Ly{op op':CmpOp}{r r':R2}(ho:OpR X (compareOp op) r)(ho':OpR X (compareOp op') r')(ha:PE X a ta)(hb:PE X b tb)(hc:PE X c tc)
  (hm:lastMarks [op,op'] [b,c]=false:=by with_unfolding_all rfl):PE X (.Compare a [op,op'] [b,c] pos) (p7 r r' ta tb tc):=by
 intro pins s σ H Q I h
 refine Compare_chain (thn (ha pins s σ H _ I h) fun v s1 ⟨x,H1,I1,r1,q1⟩=>chain_link (thn (hb pins s1 σ H1 _ I1 q1) fun u s2 ⟨y,H2,I2,r2,q2⟩=>
  thn (ho pins s2 σ H2 x y v u _ I2 r1 r2 q2) fun d s3 ⟨z,H3,I3,r3,k,e,q3⟩=>?_)) hm
 subst e
 cases r3
 refine wpAny_truthy_bool ?_
 cases k with
 |false=>exact ite_ff ⟨.bl false,H3,I3,rfl,q3⟩
 |true=>exact ite_tt (chain_last (thn (hc pins s3 σ H3 _ I3 q3) fun w' s4 ⟨z',H4,I4,r4,q4⟩=>ho' pins s4 σ H4 y z' u w' Q I4 r2 r4 q4))
theorem Lz{op op':CmpOp}{r r':R2}(ho:OpR X (compareOp op) r)(ho':OpR X (compareOp op') r')(ha:PE X a ta)(hb:PE X b tb)(hc:PE X c tc)
  (hm:lastMarks [op,op'] [b,c]=false:=by with_unfolding_all rfl):PT X (.Compare a [op,op'] [b,c] pos) (uW (p7 r r' ta tb tc)):=by
 intro pins s σ H Q I h
 refine isTrue_chain (thn (ha pins s σ H _ I h) fun v s1 ⟨x,H1,I1,r1,q1⟩=>test_link (thn (hb pins s1 σ H1 _ I1 q1) fun u s2 ⟨y,H2,I2,r2,q2⟩=>
  thn (ho pins s2 σ H2 x y v u _ I2 r1 r2 q2) fun d s3 ⟨z,H3,I3,r3,k,e,q3⟩=>?_)) hm
 subst e
 cases r3
 refine wpAny_truthy_bool ?_
 cases k with
 |false=>
  obtain ⟨k',e',q'⟩:=q3
  cases e'
  exact ite_ff ⟨H3,I3,q'⟩
 |true=>
  refine ite_tt (test_last (thn (hc pins s3 σ H3 _ I3 q3) fun w' s4 ⟨z',H4,I4,r4,q4⟩=>thn (ho' pins s4 σ H4 y z' u w' _ I4 r2 r4 q4) fun d' s5 ⟨z2,H5,I5,r5,k2,e2,q5⟩=>?_))
  subst e2
  cases r5
  exact wpAny_truthy_bool ⟨H5,I5,q5⟩
def lq(K:PySem.W.Frag)(x:V)(H:Hp)(k:Bool):Prop:=
 match x with
 |.non=>k=false
 |.bl b=>k=b
 |.int i=>k=(i != 0)
 |.str y=>y.length≤sizeLine∧k=((y.length:Int) != 0)
 |.byt y=>y.size≤sizeLine∧k=((y.size:Int) != 0)
 |.ref p=>(∃xs,SqL K H p xs∧k=!xs.isEmpty)∨(∃xs,SqT K H p xs∧k=!xs.isEmpty)∨∃kvs,H p=some (.dK kvs)∧k=!kvs.isEmpty
 |_=>False
theorem LC{κ:Type}{kvs:List (κ×V)}{vs:List (κ×Value)}(r:KV kvs vs):(!vs.isEmpty)=!kvs.isEmpty:=by
 cases r <;> rfl
theorem uX{xs:List V}{its:List Value}(r:Vals xs its):(!its.toArray.isEmpty)=!xs.isEmpty:=by
 cases r <;> simp
theorem fL:(sizeLine:Nat) < 2 ^ 63:=by rw[sizeLine_eq];decide
theorem uY:Ld X (fun x H Q=>∃k,lq X.K x H k∧Q k H):=by
 intro pins s σ H x v Q I rx h
 obtain ⟨k,e,q⟩:=h
 have hl:=fL
 have hs:sizeLine=16777216:=sizeLine_eq
 cases x with
 |non=>
  cases rx
  have e':k=false:=e
  subst e'
  exact truthy_none ⟨H,I,q⟩
 |bl b=>
  cases rx
  have e':k=b:=e
  subst e'
  exact wpAny_truthy_bool ⟨H,I,q⟩
 |int i=>
  obtain ⟨t,rfl⟩:=rx
  have e':k=(i != 0):=e
  subst e'
  exact PySem.P.truthy_int ⟨H,I,q⟩
 |str y=>
  obtain ⟨t,rfl⟩:=rx
  obtain ⟨hy,e'⟩:y.length≤sizeLine∧k=((y.length:Int) != 0):=e
  subst e'
  exact PySem.P.truthy_str (by omega) ⟨H,I.tok _,q⟩
 |byt y=>
  obtain ⟨t,rfl⟩:=rx
  obtain ⟨hy,e'⟩:y.size≤sizeLine∧k=((y.size:Int) != 0):=e
  subst e'
  exact PySem.W.truthy_bytes (by omega) ⟨H,I.tok _,q⟩
 |ref p=>
  cases rx
  have e':(∃xs,SqL X.K H p xs∧k=!xs.isEmpty)∨(∃xs,SqT X.K H p xs∧k=!xs.isEmpty)∨∃kvs,H p=some (.dK kvs)∧k=!kvs.isEmpty:=e
  rcases e' with ⟨xs,hx,e'⟩ |⟨xs,hx,e'⟩ |⟨kvs,hx,e'⟩
  ·subst e'
   obtain ⟨its,r,pl,hz⟩:=I.list hx
   have hlen:=r.length
   exact wpAny_truthy_list pl.isList (by simp only[List.size_toArray];omega) ⟨H,I.tok _,by rw[uX r];exact q⟩
  ·subst e'
   obtain ⟨its,r,pl,hz⟩:=I.tuple hx
   have hlen:=r.length
   exact truthy_tuple pl (by simp only[List.size_toArray];omega) ⟨H,I.tok _,by rw[uX r];exact q⟩
  ·subst e'
   obtain ⟨hz,hS,vs,r,m⟩:kvs.length≤sizeLine∧(p==sysModules)=false∧∃vs,KV kvs vs∧s.heap.DictOf (pU X.prog X.w) p vs:=I.hok p _ hx
   have hlen:kvs.length=vs.length:=Paired.length r
   exact wpAny_truthy_dict hS m (by omega) ⟨H,I.tok _,by rw[LC r];exact q⟩
 |_=>exact (show False from e).elim
theorem LK(ha:PE X a ta)(he:∀whole,isTrue a X.env whole=(do let v ←whole;standAt a.pos;holding [v] (truthy v))):
  PT X a (fun σ H Q=>ta σ H fun x H'=>∃k,lq X.K x H' k∧Q k H'):=by
 intro pins s σ H Q I h
 exact isTrue_plain (thn (ha pins s σ H _ I h) fun v s1 ⟨x,H1,I1,r1,q1⟩=>uY pins s1 σ H1 x v Q I1 r1 q1) (he _)
theorem LQ:OpR X (binaryOp .Add) (fun x y H Q=>∃i j,x=.str i∧y=.str j∧i.length+j.length≤sizeLine∧Q (.str (i++j)) H):=by
 intro pins s σ H x y v u Q I rx ry h
 obtain ⟨i,j,rfl,rfl,hz,q⟩:=h
 obtain ⟨t,rfl⟩:=rx
 obtain ⟨t',rfl⟩:=ry
 exact add_str (fun t' tk=>⟨.str (i++j),H,I.tok _,⟨_,rfl⟩,q⟩) hz
theorem vals1{x:V}{us:List Value}(r:Vals [x] us):∃u,us=[u]∧RelV x u:=by
 cases r with
 |cons r1 r2=>cases r2;exact ⟨_,rfl,r1⟩
theorem vals2{x y:V}{us:List Value}(r:Vals [x,y] us):∃u w',us=[u,w']∧RelV x u∧RelV y w':=by
 cases r with
 |cons r1 r2=>
  cases r2 with
  |cons r3 r4=>cases r4;exact ⟨_,_,rfl,r1,r3⟩
theorem uZ:bF X (.type "int") (fun xs H Q=>(∃i,xs=[.int i]∧Q (.int i) H)∨∃k,xs=[.bl k]∧Q (.int (if k then 1 else 0)) H):=by
 intro pins s σ H xs us Q I r h
 rcases h with ⟨i,rfl,q⟩ |⟨k,rfl,q⟩
 ·obtain ⟨u,rfl,t,rfl⟩:=vals1 r
  exact call_int_int ⟨.int i,H,I,⟨_,rfl⟩,q⟩
 ·obtain ⟨u,rfl,r1⟩:=vals1 r
  cases r1
  exact call_int_bool ⟨.int (if k then 1 else 0),H,I.tok _,⟨_,rfl⟩,q⟩
end
end L2
namespace L2
open PySem PySem.Spec PyProof.Rows
structure ObjM(h:Heap)(x dx C:Addr)(mA:Str→Option Value):Prop where
 obj:h.get? x=some (PySem.W.instObj C dx)
 ns:h.Ns1 dx mA
 ne:dx≠x
theorem LR{h:Heap}{dx:Addr}{mA:Str→Option Value}(n:h.Ns1 dx mA):∃od,h.get? dx=some od∧∀name,PySem.W.lookIn name od=some (mA name):=by
 obtain ⟨o,es,ep,ho,hd,hk,_,hm⟩:=n
 refine ⟨o,ho,fun name=>?_⟩
 have e:=hm name
 unfold nsFind findBy at e
 rw[←Array.find?_toList]at e
 unfold PySem.W.lookIn
 rw[hd]
 dsimp only
 split
 ·rename_i y q
  rw[q]at e
  exact congrArg some e
 ·rename_i q
  rw[q]at e
  have a:es.toList.any (·.refKey)=false:=by
   rw[List.any_eq_false]
   intro y hy
   obtain ⟨z,t,hkey⟩:=hk y (Array.mem_toList_iff.mp hy)
   simp[DictEntry.refKey,hkey]
  have a':¬es.toList.any (·.refKey)=true:=by rw[a];exact Bool.false_ne_true
  rw[if_neg a']
  exact congrArg some e
theorem ObjM.look{h:Heap}{x dx C:Addr}{mA:Str→Option Value}(I:ObjM h x dx C mA):∃od,PySem.W.InstAt h x (PySem.W.instObj C dx) C (some od)∧∀name,PySem.W.lookIn name od=some (mA name):=
 let ⟨od,ho,hl⟩:=LR I.ns
 ⟨od,⟨I.obj,rfl,rfl,ho⟩,hl⟩
section
variable {prog:Program} {w:World} {A:Around} {E:Value→Shared→Prop} {s:Shared} {K:PySem.W.Frag} {x dx C f:Addr} {mA:Str→Option Value} {name:Str} {v:Value}
end
section
variable {P:Program} {w:World} {H H':Hp} {h h':Heap} {a C dx:Addr} {fs fs':List (Str×V)}
theorem Ma(hok:HOk P w H h)(e:H a=some (.ins C dx fs)):∃mA,ObjM h a dx C mA∧(∀f,pW (fs.lookup f) (mA f))∧PySem.Within mA (fs.map (·.1))∧fs.length≤1000∧H dx=some (.own a):=by
 obtain ⟨d,z,ne,ob,mA,n,r,q⟩:=(show ObjOk P w H h a (.ins C dx fs) from hok a _ e)
 exact ⟨mA,⟨ob,n,ne⟩,r,q,z,d⟩
end
structure Cls(K:PySem.W.Frag)(C:Addr):Prop where
 pg:PySem.W.plainGet K C Str.empty=true
 hd:PySem.W.hasDictIn K C=true
 po:PySem.W.plainOver K C=true
 sa:PySem.W.findIn K (.ref C) "__setattr__"=some (some (.builtin "object.__setattr__"))
theorem Cls.get{K:PySem.W.Frag}{C:Addr}(c:Cls K C)(f:Str):PySem.W.plainGet K C f=true:=c.pg
section
variable {X:Cx} {pins:List (Addr×Obj)} {σ:St} {H:Hp} {s:Shared} {a C dx:Addr} {fs:List (Str×V)} {f:Str} {v:V} {A:Around} {E:Value→Shared→Prop}
end
section
variable {X:Cx} {o e value:Expr} {f:Str} {pos pos' tpos:Pos} {ta tv:TE}
end
section
variable {X:Cx} {pins:List (Addr×Obj)} {σ:St} {H:Hp} {s:Shared} {A:Around} {E:Value→Shared→Prop} {Q:Value→Shared→Prop} {c:Value} {b:Bool}
inductive TyOf (K:PySem.W.Frag) (H:Hp):V→Value→Prop where
 |non:TyOf K H .non (.type "NoneType")
 |bl (x:Bool):TyOf K H (.bl x) (.type "bool")
 |int (i:Int):TyOf K H (.int i) (.type "int")
 |str (x:Str):TyOf K H (.str x) (.type "str")
 |flt (x:UInt64):TyOf K H (.flt x) (.type "float")
 |lst {a:Addr} {xs:List V} (e:H a=some (.lst xs)):TyOf K H (.ref a) (.type "list")
 |frz {a:Addr} {o:Obj} {xs:List V} (e:H a=some (.frz o (.lst xs))):TyOf K H (.ref a) (.type "list")
 |tup {a:Addr} {xs:List V} (e:H a=some (.tup xs)):TyOf K H (.ref a) (.type "tuple")
 |dK {a:Addr} {kvs:List (Key×V)} (e:H a=some (.dK kvs)):TyOf K H (.ref a) (.type "dict")
 |dT {a:Addr} {kvs:List (List Key×V)} (e:H a=some (.dT kvs)):TyOf K H (.ref a) (.type "dict")
 |ins {a C dx:Addr} {fs:List (Str×V)} (e:H a=some (.ins C dx fs)) (cl:Cls K C) (ha:PySem.W.findIn K (.ref C) "__class__"=some (some (.builtin "object.__class__")))
   (hn:PySem.W.specialIn K (.builtin "object.__class__") "__get__"=some (some (.builtin "getset_descriptor.__get__"))) (htk:PySem.W.takesIn K (.builtin "object.__class__")=some true)
   (hm:PySem.W.mroIn K C (.type "object")=some true):TyOf K H (.ref a) (.ref C)
theorem Mg{x:V}{u t:Value}(I:Inv X pins σ H s)(rx:RelV x u)(ty:TyOf X.K H x t)(e:PySem.W.kitOne X.K t c=some b)(h:∀tk,Q (.bool b) { s with toks:=tk }):
  wpAny (model X.prog X.w) A (call (.builtin "isinstance") [u,c]) Q E s:=by
 cases ty with
 |non=>cases (show u=Value.none from rx);exact PySem.W.kia_one PySem.W.kitx_none I.kIn True.intro e (fun z=>nomatch z) h
 |bl y=>cases (show u=Value.bool y from rx);exact PySem.W.kia_one PySem.W.kitx_bool I.kIn True.intro e (fun z=>nomatch z) h
 |int i=>obtain ⟨t,q⟩:=(show ∃t,u=Value.int i t from rx);cases q;exact PySem.W.kia_one PySem.W.kitx_int I.kIn True.intro e (fun z=>nomatch z) h
 |str y=>obtain ⟨t,q⟩:=(show ∃t,u=Value.str y t from rx);cases q;exact PySem.W.kia_one PySem.W.kitx_str I.kIn True.intro e (fun z=>nomatch z) h
 |flt y=>obtain ⟨t,q⟩:=(show ∃t,u=Value.float y t from rx);cases q;exact PySem.W.kia_one PySem.W.kitx_float I.kIn True.intro e (fun z=>nomatch z) h
 | @lst a xs ea=>
  cases (show u=Value.ref a from rx)
  obtain ⟨_,_,n,_,h1⟩:=(show ObjOk X.prog X.w H s.heap a (.lst xs) from I.hok a _ ea)
  exact PySem.W.kia_one PySem.W.kitx_list I.kIn ⟨_,h1,rfl⟩ e (fun z=>nomatch z) h
 | @frz a ob xs ea=>
  cases (show u=Value.ref a from rx)
  obtain ⟨_,_,_,n,_,h1⟩:=(show ObjOk X.prog X.w H s.heap a (.frz ob (.lst xs)) from I.hok a _ ea)
  exact PySem.W.kia_one PySem.W.kitx_list I.kIn ⟨_,h1,rfl⟩ e (fun z=>nomatch z) h
 | @tup a xs ea=>
  cases (show u=Value.ref a from rx)
  obtain ⟨_,_,_,p⟩:=(show ObjOk X.prog X.w H s.heap a (.tup xs) from I.hok a _ ea)
  obtain ⟨o,h1,h2,_⟩:=p
  exact PySem.W.kia_one PySem.W.kitx_tuple I.kIn ⟨o,h1,h2⟩ e (fun z=>nomatch z) h
 | @dK a kvs ea=>
  cases (show u=Value.ref a from rx)
  obtain ⟨_,_,vs,_,p⟩:=(show ObjOk X.prog X.w H s.heap a (.dK kvs) from I.hok a _ ea)
  obtain ⟨o,es,ep,h1,h2,_⟩:=p
  exact PySem.W.kia_one PySem.W.kitx_dict I.kIn ⟨o,h1,h2.1⟩ e (fun z=>nomatch z) h
 | @dT a kvs ea=>
  cases (show u=Value.ref a from rx)
  obtain ⟨_,_,xs,_,o,es,ep,h1,h2,_⟩:=(show ObjOk X.prog X.w H s.heap a (.dT kvs) from I.hok a _ ea)
  exact PySem.W.kia_one PySem.W.kitx_dict I.kIn ⟨o,h1,h2.1⟩ e (fun z=>nomatch z) h
 | @ins a C dx fs ea cl ha hn htk hm=>
  cases (show u=Value.ref a from rx)
  obtain ⟨mA,O,_⟩:=Ma I.hok ea
  obtain ⟨od,J,_⟩:=O.look
  exact PySem.W.kia_one (PySem.W.kitx_own (cl.get _) cl.hd ha hn htk hm) I.kIn J e (fun z=>nomatch z) h
end
end L2
namespace L2
open PySem PySem.Spec PyProof.Rows
structure Room(k:Nat)(A:Around):Prop where
 hd:A.handled=none
 dp:A.depth+3 * k+5 < recursionLimit
 un:A.units+16 * k+200 < cLine
theorem Room.mono{j k:Nat}{A:Around}(r:Room k A)(h:j≤k):Room j A:=⟨r.hd,by have:=r.dp;omega,by have:=r.un;omega⟩
theorem Room.deeper{k:Nat}{A:Around}(r:Room (k+1) A)(env:Env):Room k (A.deeper env):=
 ⟨r.hd,by have:=r.dp;show A.depth+1+3 * k+5 < _;omega,by have:=r.un;show A.units+3+16 * k+200 < _;omega⟩
theorem Room.depth{k:Nat}{A:Around}(r:Room k A):A.depth < recursionLimit:=by have:=r.dp;omega
def Mh:TA:=fun _ H Q=>Q [] H
def Mi(ta:TE)(tr:TA):TA:=fun σ H Q=>ta σ H fun x H1=>tr σ H1 fun xs H2=>Q (x::xs) H2
section
variable {X:Cx} {e:Expr} {es:List Expr} {te:TE} {t:TA} {pos:Pos}
theorem iK:PA X [] Mh:=fun _ _ _ _ H Q I h=>Calls.spliced_nil ⟨[],H,I,.nil,h⟩
theorem gw(ha:PE X e te)(hr:PA X es t)(hs:starEach (e::es) X.env=(false,eval e X.env)::starEach es X.env:=by rfl):PA X (e::es) (Mi te t):=by
 intro pos pins s σ H Q I h
 rw[hs]
 show wpAny _ _ (spliced ((false,eval e X.env)::backTo pos (starEach es X.env))) _ _ s
 refine Calls.spliced_cons (thn (ha pins s σ H _ I h) fun u s1 ⟨x,H1,I1,r1,q1⟩=>?_)
 exact thn (hr pos pins s1 σ H1 _ I1 q1) fun us s2 ⟨xs,H2,I2,r2,q2⟩=>⟨x::xs,H2,I2,.cons r1 r2,q2⟩
def Mj(t:TA):TE:=fun σ H Q=>t σ H fun xs H1=>xs.length≤sizeLine∧∀p,H1 p=none→Q (.ref p) (upd H1 p (.tup xs))
def Ml(t:TA):TE:=fun σ H Q=>t σ H fun xs H1=>xs.length≤sizeLine∧∀p,H1 p=none→Q (.ref p) (upd H1 p (.lst xs))
theorem Mm{x1}(h:PA X es t):PE X (.Tuple es x1 pos) (Mj t):=by
 intro pins s σ H Q I hq
 refine wpAny_Tuple_spliced (thn (h pos pins s σ H _ I hq) fun us s1 ⟨xs,H1,I1,r,z,q⟩=>⟨by rw[←r.length];exact z,?_⟩)
 have hf:H1 s1.heap.objs.size=none:=I1.hok.fresh (Nat.le_refl _)
 refine ⟨.ref s1.heap.objs.size,upd H1 s1.heap.objs.size (.tup xs),I1.laid (t':=s1.toks) (fun b u e=>Heap.get?_push_of_some _ e) (Nat.le_refl _) ?_,rfl,q _ hf⟩
 exact ⟨z,us,r,⟨_,Heap.get?_push_size _ rfl,rfl,_,rfl⟩⟩
theorem Mp(h:PA X es t):PE X (.List es pos) (Ml t):=by
 intro pins s σ H Q I hq
 refine wpAny_List_spliced (thn (h pos pins s σ H _ I hq) fun us s1 ⟨xs,H1,I1,r,z,q⟩=>⟨by rw[←r.length];exact z,?_⟩)
 have hf:H1 s1.heap.objs.size=none:=I1.hok.fresh (Nat.le_refl _)
 refine ⟨.ref s1.heap.objs.size,upd H1 s1.heap.objs.size (.lst xs),I1.laid (t':=s1.toks) (fun b u e=>Heap.get?_push_of_some _ e) (Nat.le_refl _) ?_,rfl,q _ hf⟩
 exact ⟨z,us,0,r,Heap.get?_push_size _ rfl⟩
end
abbrev Sp:=List V→Hp→VK→XK→Prop
abbrev CXT:=List Env→Hp→Shared→XK→Value→Shared→Prop
structure Env0(P:Program)(w:World)(K:PySem.W.Frag)(mg:Str→Option Value)(base:Heap)(A:Around)(outer:List Env)(s:Shared)(H:Hp):Prop where
 frames:A.frames=some outer
 mod:Mod K mg base
 bs:∀b o,base.get? b=some o→s.heap.get? b=some o∧H b=none
 bsz:base.objs.size≤s.heap.objs.size
 funs:s.heap.FunFrames base outer
 frf:∀b∈frs outer,H b=none
 hok:HOk P w H s.heap
 bare:AllBare s.gens
def CE(outer:List Env)(P:Program)(w:World)(H:Hp)(s:Shared)(Q:VK)(u:Value)(s':Shared):Prop:=
 ∃v H',s'.os=s.os∧AllBare s'.gens∧Un (frs outer) [] H H' s.heap s'.heap∧HOk P w H' s'.heap∧RelV v u∧Q v H'
def CR(CX:CXT)(outer:List Env)(P:Program)(w:World)(H:Hp)(s:Shared)(Q:VK)(E:XK)(r:Result)(s':Shared):Prop:=
 match r with
 |.ok (.ret u)=>CE outer P w H s Q u s'
 |.ok _=>False
 |.error e=>CX outer H s E e s'
structure FnOk(P:Program)(w:World)(K:PySem.W.Frag)(mg:Str→Option Value)(base:Heap)(CX:CXT)(k:Nat)(f:Addr)(fd:FuncData)(ps:List Str)(sp:Sp):Prop where
 len:∀vs H Q E,sp vs H Q E→vs.length=ps.length
 run:∀(A:Around)(outer:List Env)(s:Shared)(H:Hp)(args:Args)(us:List Value)(vs:List V)(Q:VK)(E:XK),Room k A→Env0 P w K mg base A outer s H→BindsTo s fd args (ps.zip us)→Vals vs us→sp vs H Q E→
  codeAny (model P w) A (.call (.ref f) args) (CR CX outer P w H s Q E) s
theorem FnOk.mono{P:Program}{w:World}{K:PySem.W.Frag}{mg:Str→Option Value}{base:Heap}{CX:CXT}{j k:Nat}{f:Addr}{fd:FuncData}{ps:List Str}{sp:Sp}(F:FnOk P w K mg base CX j f fd ps sp)(h:j≤k):
  FnOk P w K mg base CX k f fd ps sp:=⟨F.len,fun A outer s H args us vs Q E hr=>F.run A outer s H args us vs Q E (hr.mono h)⟩
section
variable {X:Cx} {pins:List (Addr×Obj)} {σ:St} {H:Hp} {s s':Shared}
theorem Inv.env0(I:Inv X pins σ H s):Env0 X.prog X.w X.K X.mg X.base X.A X.stack s H:=
 ⟨I.ok.frames,I.ok.mod,I.bs,Nat.le_trans I.ok.bsz I.sz,I.stack,I.stkFree,I.hok,I.bare⟩
theorem Inv.after{Q:VK}{u:Value}(I:Inv X pins σ H s)(h:CE X.stack X.prog X.w H s Q u s'):EP X pins σ Q u s':=by
 obtain ⟨v,H',os,bare,un,hok,r,q⟩:=h
 obtain ⟨hh,g,d,t,os'⟩:=s'
 obtain rfl:os'=s.os:=os
 exact ⟨v,H',I.call (h':=hh) (g':=g) (d':=d) (t':=t) (ch:=[]) un hok bare (fun b z=>absurd z (by simp)),r,q⟩
end
def Mq(sp:Sp)(dvs:List V)(E:XK)(t:TA):TE:=fun σ H Q=>t σ H fun vs H1=>sp (vs++dvs) H1 Q E
def Binds(K:PySem.W.Frag)(fd:FuncData)(ps:List Str)(ds:List Value):Prop:=
 ∀(s:Shared)(us:List Value),K.In s.heap→(us++ds).length=ps.length→BindsTo s fd ⟨us,[]⟩ (ps.zip (us++ds))
theorem Binds.all{K:PySem.W.Frag}{fd:FuncData}{ps:List Str}(h:∀us:List Value,us.length=ps.length→bindArgs fd ⟨us,[]⟩=pure (ps.zip us)):Binds K fd ps []:=fun s us _ hl=>by
 rw[List.append_nil]at hl ⊢
 exact .of_eq (h us hl)
def gA(CX:CXT)(X:Cx)(E:XK):Prop:=∀(pins:List (Addr×Obj))(σ:St)(H:Hp)(s:Shared)(e:Value)(s':Shared),Inv X pins σ H s→CX X.stack H s E e s'→X.xe e s'
section
variable {X:Cx} {CX:CXT} {k:Nat} {f C:Addr} {fd:FuncData} {ps:List Str} {sp:Sp} {dvs:List V} {ds:List Value} {E:XK} {x m:Str} {p pos apos:Pos} {e o:Expr} {es:List Expr} {ta:TE} {t:TA}
theorem Mr{pins:List (Addr×Obj)}{σ:St}{H:Hp}{s:Shared}{Q:VK}{us:List Value}{vs:List V}(F:FnOk X.prog X.w X.K X.mg X.base CX k f fd ps sp)(hr:Room k X.A)(hb:Binds X.K fd ps ds)(hd:Vals dvs ds)(hx:gA CX X E)
  (I:Inv X pins σ H s) (r:Vals vs us) (h:sp (vs++dvs) H Q E):wpAny (model X.prog X.w) X.A (call (.ref f) us) (EP X pins σ Q) X.xe s:=by
 have r2:Vals (vs++dvs) (us++ds):=r.append hd
 have hl:(us++ds).length=ps.length:=by rw[←r2.length];exact F.len _ _ _ _ h
 refine wpAny_call (codeAny_mono (F.run X.A X.stack s H ⟨us,[]⟩ (us++ds) (vs++dvs) Q E hr I.env0 (hb s us I.kIn hl) r2 h) fun r s' hq=>?_)
 cases r with
 |error e=>exact hx pins σ H s e s' I hq
 |ok fl=>
  cases fl with
  |ret u=>exact I.after hq
  |next=>exact False.elim hq
  |brk=>exact False.elim hq
  |cont=>exact False.elim hq
theorem Ms(F:FnOk X.prog X.w X.K X.mg X.base CX k f fd ps sp)(hr:Room k X.A)(hg:Gl X x)(hm:X.mg x=some (.ref f))(hk:PySem.W.keepIn X.K (.ref f)=true)(hb:Binds X.K fd ps ds)(hd:Vals dvs ds)(hx:gA CX X E)
  (ha:PA X (e::es) t) (hdb:(x==("__debug__":Str))=false:=by decide) (he:starEach (e::es) X.env=(false,eval e X.env)::starEach es X.env:=by rfl) (hpl:(backTo pos (starEach es X.env)).any (·.1)=false:=by rfl):
  PE X (.Call (.Name x p) (e::es) [] pos) (Mq sp dvs E t):=by
 intro pins s σ H Q I h
 refine wpAny_Call_Name_kw (fK I hg hm ?_ hdb)
 refine PySem.W.callWith_K (h₀:=X.base) I.ok.mod.kin hk (thn (ha pos pins s σ H _ I h) fun us s1 ⟨vs,H1,I1,r,q⟩=>⟨I1.kIn,?_⟩) he hpl
 exact Mr F hr hb hd hx I1 r q
end
section
variable {X:Cx} {CX:CXT} {k:Nat} {f C:Addr} {fd:FuncData} {ps ks:List Str} {sp:Sp} {E:XK} {x m:Str} {p pos apos kpos:Pos} {e o:Expr} {es:List Expr} {kws:List Keyword} {te ta:TE} {t tk:TA} {nm:Option Str}
variable {g:List Value→List Value→List Value} {gV:List V→List V→List V}
end
structure FnScope(N P:List Str)(sc:Scope):Prop where
 kind:sc.kind=.function
 co:sc.isCoroutine=false
 gen:sc.isGenerator=false
 nd:N.Nodup
 pre:N.take P.length=P
 par:∀x∈P,sc.names.lookup x=some .local∨sc.names.lookup x=some .cell
 nofree:∀y∈sc.names,y.2≠.free
theorem u5{kindOf:Str→Option NameKind}{x:Str}:∀{binds:List (Str×Value)}{m:Str→Option Value},(∀v,(x,v)∉binds)→bindL kindOf binds m x=m x
 |[],_,_=>rfl
 | (n,v)::r,m,h=>by
  unfold bindL
  rw[u5 fun w hw=>h w (List.mem_cons_of_mem _ hw)]
  split
  ·have:x≠n:=by rintro rfl;exact h v List.mem_cons_self
   simp[this]
  ·rfl
theorem u6{kindOf:Str→Option NameKind}{x:Str}:∀{binds:List (Str×Value)}{m:Str→Option Value},(∀v,(x,v)∉binds)→bindC kindOf binds m x=m x
 |[],_,_=>rfl
 | (n,v)::r,m,h=>by
  unfold bindC
  rw[u6 fun w hw=>h w (List.mem_cons_of_mem _ hw)]
  split
  ·rfl
  ·have:x≠n:=by rintro rfl;exact h v List.mem_cons_self
   simp[this]
theorem u9{kindOf:Str→Option NameKind}{x:Str}{v:Value}:∀{P:List Str}{vs:List Value}{i:Nat}{m:Str→Option Value},P.Nodup→P[i]?=some x→vs[i]?=some v→kindOf x=some .local→
  bindL kindOf (P.zip vs) m x=some v
 |[],_,_,_,_,h,_,_=>by simp at h
 |_::_,[],_,_,_,_,h,_=>by simp at h
 |p::P,w::vs,0,m,nd,h1,h2,hk=>by
  simp at h1 h2;subst h1;subst h2
  show bindL kindOf ((p,w)::P.zip vs) m p=_
  unfold bindL
  rw[u5 fun v hv=>(List.nodup_cons.mp nd).1 (List.of_mem_zip hv).1,if_pos hk]
  simp
 |p::P,w::vs,i+1,m,nd,h1,h2,hk=>by
  show bindL kindOf ((p,w)::P.zip vs) m x=_
  unfold bindL
  exact u9 (i:=i) (List.nodup_cons.mp nd).2 (by simpa using h1) (by simpa using h2) hk
theorem vd{kindOf:Str→Option NameKind}{x:Str}{v:Value}:∀{P:List Str}{vs:List Value}{i:Nat}{m:Str→Option Value},P.Nodup→P[i]?=some x→vs[i]?=some v→kindOf x≠some .local→
  bindC kindOf (P.zip vs) m x=some v
 |[],_,_,_,_,h,_,_=>by simp at h
 |_::_,[],_,_,_,_,h,_=>by simp at h
 |p::P,w::vs,0,m,nd,h1,h2,hk=>by
  simp at h1 h2;subst h1;subst h2
  show bindC kindOf ((p,w)::P.zip vs) m p=_
  unfold bindC
  rw[u6 fun v hv=>(List.nodup_cons.mp nd).1 (List.of_mem_zip hv).1,if_neg hk]
  simp
 |p::P,w::vs,i+1,m,nd,h1,h2,hk=>by
  show bindC kindOf ((p,w)::P.zip vs) m x=_
  unfold bindC
  exact vd (i:=i) (List.nodup_cons.mp nd).2 (by simpa using h1) (by simpa using h2) hk
def start(N:List Str)(vs:List V):St:=vs.map some++List.replicate (N.length - vs.length) none
def dm(CX:CXT)(P:Program)(w:World)(K:PySem.W.Frag)(mg:Str→Option Value)(base:Heap)(N:List Str)(qual:Str)(scope:Scope)(f:Addr)(cd:Value)(A:Around)(outer:List Env)(s:Shared)(H:Hp)(E:XK):Cx where
 prog:=P
 w:=w
 K:=K
 mg:=mg
 base:=base
 A:=A.deeper (envOfC qual scope s.heap.objs.size f cd)
 N:=N
 s₀:=s
 H₀:=H
 env:=envOfC qual scope s.heap.objs.size f cd
 outer:=outer
 stack:=envOfC qual scope s.heap.objs.size f cd::outer
 ex:=[]
 calm:=true
 fn:=fun _=>true
 pn:=[]
 xe:=fun e s'=>wpAny (model P w) (A.deeper (envOfC qual scope s.heap.objs.size f cd)) (leaving (envOfC qual scope s.heap.objs.size f cd) e) (fun _ s''=>CX outer H s E e s'') (fun e' s''=>CX outer H s E e' s'') s'
theorem vf{sc:Scope}{n:Nat}{x:Str}(h:sc.names.lookup x=some .cell):∃c,(cellsFrom n sc.names []).lookup x=some c:=by
 have q:=PySem.W.cellsFrom_some sc.names n [] (.inl h)
 exact Option.isSome_iff_exists.mp q
theorem Mt{CX:CXT}{P:Program}{w:World}{K:PySem.W.Frag}{mg:Str→Option Value}{base:Heap}{N ps:List Str}{qual:Str}{scope:Scope}{f:Addr}{cd:Value}{A:Around}{outer:List Env}{s s1:Shared}{H:Hp}{E:XK}{us:List Value}{vs:List V}
  (S:FnScope N ps scope) (hd:A.handled=none) (e0:Env0 P w K mg base A outer s H) (hl:vs.length=ps.length) (r:Vals vs us)
  (x:InCallC s s.heap.objs.size (bindL (envOfC qual scope s.heap.objs.size f cd).kindOf (ps.zip us) fun _=>none) (cellsFrom (s.heap.objs.size+1) scope.names []) (bindC (envOfC qual scope s.heap.objs.size f cd).kindOf (ps.zip us) fun _=>none) s1):
  Inv (dm CX P w K mg base N qual scope f cd A outer s H E) [] (start N vs) H s1:=by
 have hpl:ps.length≤N.length:=by have:=congrArg List.length S.pre;rw[List.length_take]at this;omega
 obtain ⟨h1,tk,rfl,hk⟩:=x.done
 have noA:∀b:Addr,b∉(dm CX P w K mg base N qual scope f cd A outer s H E).ex:=fun b z=>absurd (show b∈([]:List Addr) from z) (by simp)
 refine ⟨⟨e0.mod,S.kind,rfl,rfl,Nat.le_refl _,fun y z c h1 h2=>?_,fun y hy=>?_,fun y c _ h=>?_,fun _=>hd,Around.frames_deeper e0.frames,.inr ⟨rfl,rfl⟩,fun b z=>absurd z (noA b),e0.bs,e0.bsz,fun b _ _=>noA b,fun b z=>absurd z (noA b),e0.funs,e0.frf⟩,
  rfl,e0.bare,Un.kept hk,⟨_,x.toInCall.ns,fun i y v h1 h2 h3=>?_⟩,fun y c h=>⟨_,x.cell y c h⟩,e0.hok.fresh (Nat.le_refl _),fun y c h=>?_,fun p hp=>absurd (show p∈([]:List (Addr×Obj)) from hp) (by simp),e0.hok.kept hk,?_⟩
 ·exact name_of_addr x.apart (PySem.mem_of_lookup h1) (PySem.mem_of_lookup h2)
 ·have hy:scope.names.lookup y=some .cell∨scope.names.lookup y=some .free:=hy
  rcases hy with hy |hy
  ·exact vf hy
  ·exact absurd rfl (S.nofree _ (PySem.mem_of_lookup hy))
 ·exact Nat.le_of_lt (x.above y c (PySem.mem_of_lookup h))
 ·have hi:i < vs.length:=by
   unfold start at h2
   by_cases hi:i < vs.length
   ·exact hi
   ·rw[List.getElem?_append_right (by simpa using hi)]at h2
    rw[List.getElem?_replicate]at h2
    split at h2 <;> cases h2
  have ha:vs[i]?=some v:=by
   unfold start at h2
   rw[List.getElem?_append_left (by simpa using hi),List.getElem?_map]at h2
   cases e:vs[i]? with
   |none=>rw[e]at h2;cases h2
   |some a=>rw[e]at h2;cases h2;rfl
  obtain ⟨u,hu,rv⟩:=r.get ha
  have hp:ps[i]?=some y:=by
   rw[←S.pre,List.getElem?_take_of_lt (by omega)];exact h1
  have ndP:ps.Nodup:=by rw[←S.pre];exact S.nd.sublist (List.take_sublist _ _)
  refine ⟨u,rv,?_⟩
  rcases S.par y (List.mem_of_getElem? hp) with k |k
  ·exact .inl ⟨k,u9 ndP hp hu k⟩
  ·obtain ⟨c,e⟩:=vf (n:=s.heap.objs.size+1) k
   refine .inr ⟨.inl k,c,e,?_⟩
   have q:=x.cell y c e
   rw[vd ndP hp hu (by show scope.names.lookup y≠_;rw[k];decide)]at q
   exact q
 ·exact e0.hok.fresh (Nat.le_of_lt (x.above y c (PySem.mem_of_lookup h)))
 ·unfold start
  show _=N.length
  rw[List.length_append,List.length_map,List.length_replicate]
  omega
theorem Mu{CX:CXT}{P:Program}{w:World}{K:PySem.W.Frag}{mg:Str→Option Value}{base:Heap}{k:Nat}{f:Addr}{name qual:Str}{params:Arguments}{body:List Stmt}{scope:Scope}{dV kV doc pm cdv ct oc:Value}{an od:Option Addr}
  {osl:Array (Option Value)} {N ps:List Str} {sp:Sp} (lk:K.lookup f=some ⟨oc,od,.func (PySem.W.fnOf name qual params body scope dV kV doc pm an cdv ct),osl⟩) (hcd:PySem.W.codeIn K cdv qual=true) (S:FnScope N ps scope)
  (len:∀vs H Q E,sp vs H Q E→vs.length=ps.length)
  (hbody:∀(A:Around)(outer:List Env)(s:Shared)(H:Hp)(vs:List V)(Q:VK)(E:XK),Room k (A.deeper (envOfC qual scope s.heap.objs.size f cdv))→sp vs H Q E→
   ∃t,PSs (dm CX P w K mg base N qual scope f cdv A outer s H E) body t∧t { nx:=fun _ H'=>Q .non H',rt:=Q } (start N vs) H):
  FnOk P w K mg base CX (k+1) f (PySem.W.fnOf name qual params body scope dV kV doc pm an cdv ct) ps sp:=by
 refine ⟨len,fun A outer s H args us vs Q E hr e0 hb r hsp=>?_⟩
 have hl:=len _ _ _ _ hsp
 have KX:K.In s.heap:=e0.mod.kin.keeps fun b o e=>(e0.bs b o e).1
 have lim:s.heap.NoLimit:=e0.mod.nolimit.keeps fun b o e=>(e0.bs b o e).1
 have hkind:∀y∈ps.zip us,scope.names.lookup y.1=some .local∨(scope.names.lookup y.1=some .cell∧((cellsFrom (s.heap.objs.size+1) scope.names []).lookup y.1).isSome=true):=fun ⟨n,v⟩ hy=>by
  rcases S.par n (List.of_mem_zip hy).1 with q |q
  ·exact .inl q
  ·exact .inr ⟨q,PySem.W.cellsFrom_some _ _ _ (.inl q)⟩
 refine codeAny_call_function hr.depth (KX _ _ lk) rfl S.co S.gen rfl (PySem.W.codeRec_of KX hcd) (hb _ _ _ _ ?_)
 refine wpAny_newFunctionEnv_cells S.kind hkind fun env he s1 x=>?_
 subst he
 refine ⟨lim.keeps x.toInCall.keep,codeAny_func ?_⟩
 obtain ⟨t,ht,hq⟩:=hbody A outer s H vs Q E (hr.deeper _) hsp
 have I:Inv (dm CX P w K mg base N qual scope f cdv A outer s H E) [] (start N vs) H s1:=Mt S hr.hd e0 hl r x
 refine wpAny_mono (ht [] s1 (start N vs) H _ I hq) (fun fl s' hs=>?_) fun e s' hs=>hs
 have fin:∀{σ':St}{H':Hp}{v:V}{u:Value},Inv (dm CX P w K mg base N qual scope f cdv A outer s H E) [] σ' H' s'→RelV v u→Q v H'→CE outer P w H s Q u s':=
  fun {σ' H' v u} J rv q=>⟨v,H',J.os,J.bare,J.base,J.hok,rv,q⟩
 cases fl with
 |ret u=>
  obtain ⟨v,σ',H',J,rv,q⟩:=hs
  exact fin J rv q
 |next=>
  obtain ⟨σ',H',J,q⟩:=hs
  exact fin (v:=V.non) (u:=Value.none) J rfl q
 |brk=>
  obtain ⟨_,_,_,q⟩:=hs
  exact False.elim q
 |cont=>
  obtain ⟨_,_,_,q⟩:=hs
  exact False.elim q
end L2
namespace L2
open PySem PySem.Spec PyProof.Rows
section
variable {X:Cx} {x:Str} {p pos:Pos} {e:Expr} {es:List Expr} {t:TA} {id T:String} {r:List V→Hp→VK→Prop}
def tCB(r:List V→Hp→VK→Prop)(t:TA):TE:=fun σ H Q=>t σ H fun vs H1=>r vs H1 Q
theorem p8 (hc:bF X (.builtin id) r) (hg:Gl X x) (hm:X.mg x=none) (hv:bootBuiltins x=some (.builtin id)) (ha:PA X (e::es) t) (hn:x≠"__name__":=by decide) (hdb:(x==("__debug__":Str))=false:=by decide)
  (he:starEach (e::es) X.env=(false,eval e X.env)::starEach es X.env:=by rfl) (hpl:(backTo pos (starEach es X.env)).any (·.1)=false:=by rfl):PE X (.Call (.Name x p) (e::es) [] pos) (tCB r t):=by
 intro pins s σ H Q I h
 refine wpAny_Call_Name_kw (gr I hg hm hv ?_ hn hdb)
 exact PyProof.Rows.callWith_builtin1 (thn (ha pos pins s σ H _ I h) fun us s1 ⟨vs,H1,I1,r1,q1⟩=>hc pins s1 σ H1 vs us Q I1 r1 q1) he hpl
theorem lr (hc:bF X (.type T) r) (hg:Gl X x) (hm:X.mg x=none) (hv:bootBuiltins x=some (.type T)) (ha:PA X (e::es) t) (hn:x≠"__name__":=by decide) (hdb:(x==("__debug__":Str))=false:=by decide)
  (he:starEach (e::es) X.env=(false,eval e X.env)::starEach es X.env:=by rfl) (hpl:(backTo pos (starEach es X.env)).any (·.1)=false:=by rfl):PE X (.Call (.Name x p) (e::es) [] pos) (tCB r t):=by
 intro pins s σ H Q I h
 refine wpAny_Call_Name_kw (gr I hg hm hv ?_ hn hdb)
 exact PyProof.Rows.callWith_type1 (thn (ha pos pins s σ H _ I h) fun us s1 ⟨vs,H1,I1,r1,q1⟩=>hc pins s1 σ H1 vs us Q I1 r1 q1) he hpl
end
end L2
namespace HT
open PySem PyProof.Rows
section
open PySem.SeqAt
open PySem.AutoSeq1 (wpAny_loadPart')
open PySem.MeetsSeq PySem.MeetsSeq2 PySem.MeetsSeq3
end
section
variable {prog:Program} {w:World} {A:Around} {E:Value→Shared→Prop} {s:Shared}
theorem Mv{t b:Addr}{vs ws:List Value}{Q:Value→Shared→Prop}(ht:IsTup s.heap t vs.toArray)(hb:IsTup s.heap b ws.toArray)(hv:vs≠[])
  (h1:ws=[]→Q (.ref t) s) (h2:ws≠[]→Q (.ref s.heap.objs.size) { s with heap:=s.heap.push { cls:=.type "tuple",data:=.seq (vs++ws).toArray } })
  (hsz:vs.length+ws.length≤sizeLine):wpAny (model prog w) A (binaryOp .Add (.ref t) (.ref b)) Q E s:=by
 obtain ⟨⟨cls,dd,data,sl⟩,ho,hc,n,hd⟩:=id ht
 obtain ⟨⟨cls2,dd2,data2,sl2⟩,ho2,hc2,n2,hd2⟩:=id hb
 simp only at hc hd hc2 hd2
 subst hc hd hc2 hd2
 have e:vs.toArray++ws.toArray=(vs++ws).toArray:=by simp
 by_cases hw:ws=[]
 ·exact concat_meets ⟨_,ho,rfl⟩ ⟨_,ho2,rfl⟩ noFill_tuple_add seq_tuple_add PySem.F.slot_tuple_add PySem.F.entry_tuple_add (PySem.F.args_tuple_add_2 _ _)
   (tuple_addW1 t b vs.toArray ws.toArray n n2 dd dd2 sl sl2 (by simpa using hv) (by simp[hw])) ⟨ho,ho2,h1 hw⟩
 ·refine concat_meets ⟨_,ho,rfl⟩ ⟨_,ho2,rfl⟩ noFill_tuple_add seq_tuple_add PySem.F.slot_tuple_add PySem.F.entry_tuple_add (PySem.F.args_tuple_add_2 _ _)
   (tuple_addW2 t b vs.toArray ws.toArray n n2 dd dd2 sl sl2 (by simpa using hv) (by simpa using hw) (by rw[List.size_toArray,List.size_toArray];exact hsz)) ⟨ho,ho2,?_⟩
  rw[e]
  exact h2 hw
def sIx(n d:Nat):Option Int→Nat
 |none=>d
 |some v=>if v < 0 then (v+(n:Int)).toNat else min v.toNat n
theorem vg(n d k:Nat):sIx n d (some (k:Int))=min k n:=by
 show (if (k:Int) < 0 then ((k:Int)+(n:Int)).toNat else min (k:Int).toNat n)=min k n
 rw[if_neg (by omega),Int.toNat_natCast]
theorem vh(n d:Nat)(hd:d≤n)(o:Option Int):sIx n d o≤n:=by
 cases o with
 |none=>exact hd
 |some v=>
  show (if v < 0 then (v+(n:Int)).toNat else min v.toNat n)≤n
  by_cases hv:v < 0
  ·rw[if_pos hv];omega
  ·rw[if_neg hv];exact Nat.min_le_right _ _
theorem vm(v:Int)(n d:Nat):(if v < 0 then max (v+(n:Int)) 0 else min v (n:Int))=((sIx n d (some v):Nat):Int):=by
 show (if v < 0 then max (v+(n:Int)) 0 else min v (n:Int))=(((if v < 0 then (v+(n:Int)).toNat else min v.toNat n):Nat):Int)
 by_cases hv:v < 0
 ·simp only[if_pos hv];omega
 ·simp only[if_neg hv];omega
theorem Mw(lo hi:Option Int)(n:Nat):Builtin.Slice.sliceAdjust lo hi 1 (n:Int)=(((sIx n 0 lo:Nat):Int),((sIx n n hi:Nat):Int)):=by
 have h1:¬((1:Int) < 0):=by omega
 unfold Builtin.Slice.sliceAdjust
 simp only[h1,if_false]
 refine Prod.ext ?_ ?_
 ·cases lo with
  |none=>rfl
  |some v=>exact vm v n 0
 ·cases hi with
  |none=>rfl
  |some v=>exact vm v n n
theorem Mx(i j:Nat):Builtin.Slice.slicePlaces (i:Int) (j:Int) 1=j - i:=by
 unfold Builtin.Slice.slicePlaces
 have h1:(1:Int) > 0:=by omega
 simp only[h1,if_true,Int.ediv_one]
 split <;> omega
theorem vo{v:Value}{o:Option Int}{Q:Option Int→Shared→Prop}(p:IsPart v o)(h:Q o s):wpAny (model prog w) A (Builtin.Slice.slicePartIndex v) Q E s:=by
 cases p with
 |none=>exact slicePart_none h
 |int i t=>exact slicePart_int h
theorem vp{sl:Addr}{vl vu:Value}{lo hi:Option Int}{n:Nat}{Q:Int×Int×Nat→Shared→Prop}(hs:s.heap.IsSliceOf sl vl vu .none)(pl:IsPart vl lo)(pu:IsPart vu hi)
  (h:Q (((sIx n 0 lo:Nat):Int),1,sIx n n hi - sIx n 0 lo) s):wpAny (model prog w) A (Builtin.Slice.sliceApplied (.ref sl) (pure (n:Int))) Q E s:=by
 obtain ⟨os,hos,hcs,hds⟩:=id hs
 unfold Builtin.Slice.sliceApplied Builtin.Slice.sliceFields
 refine wpAny_bind (wpAny_bind (wpAny_field hos hds (x:=vl) rfl (wpAny_bind (wpAny_field hos hds (x:=vu) rfl (wpAny_bind (wpAny_field hos hds (x:=.none) rfl (wpAny_pure ?_)))))))
 refine wpAny_bind (slicePart_none ?_)
 show wpAny _ _ (if ((1:Int)==0)=true then _ else _) _ _ s
 rw[if_neg (by decide)]
 refine wpAny_bind (vo pl (wpAny_bind (vo pu (wpAny_bind (wpAny_pure ?_)))))
 show wpAny _ _ (match Builtin.Slice.sliceAdjust lo hi 1 (n:Int) with | (lo,hi)=>pure (lo,(1:Int),Builtin.Slice.slicePlaces lo hi 1)) _ _ s
 rw[Mw lo hi n]
 show wpAny _ _ (pure (((sIx n 0 lo:Nat):Int),(1:Int),Builtin.Slice.slicePlaces ((sIx n 0 lo:Nat):Int) ((sIx n n hi:Nat):Int) 1)) _ _ s
 rw[Mx]
 exact wpAny_pure h
theorem My(xs:Array Value)(i k:Nat):((List.range k).filterMap fun (m:Nat)=>xs[((i:Int)+(m:Int) * 1).toNat]?).toArray=((xs.toList.drop i).take k).toArray:=by
 have e:(fun (m:Nat)=>xs[((i:Int)+(m:Int) * 1).toNat]?)=fun m=>xs[i+m]?:=by
  funext m
  have:((i:Int)+(m:Int) * 1).toNat=i+m:=by omega
  rw[this]
 rw[e]
 have:=pick_run xs i k
 rw[List.filterMap_map]at this
 have e2:((fun x=>xs[x]?)∘fun x=>i+x)=fun m=>xs[i+m]?:=rfl
 rw[e2]at this
 rw[this]
theorem Mz{t sl:Addr}{items:Array Value}{vl vu:Value}{lo hi:Option Int}{Q:Value→Shared→Prop}(ht:IsTup s.heap t items)(hs:s.heap.IsSliceOf sl vl vu .none)(pl:IsPart vl lo)(pu:IsPart vu hi)
  (hw:¬(sIx items.size 0 lo=0∧sIx items.size items.size hi=items.size))
  (h:Q (.ref s.heap.objs.size) { s with heap:=s.heap.push { cls:=.type "tuple",data:=.seq ((items.toList.drop (sIx items.size 0 lo)).take (sIx items.size items.size hi - sIx items.size 0 lo)).toArray } })
  (hsz:items.size≤sizeLine):wpAny (model prog w) A (getItem (.ref t) (.ref sl)) Q E s:=by
 have htake:sizeOk (.seq ((items.toList.drop (sIx items.size 0 lo)).take (sIx items.size items.size hi - sIx items.size 0 lo)).toArray):=by
  show ((items.toList.drop (sIx items.size 0 lo)).take (sIx items.size items.size hi - sIx items.size 0 lo)).toArray.size≤sizeLine
  rw[List.size_toArray,List.length_take,List.length_drop,Array.length_toList]
  omega
 have hj:sIx items.size items.size hi≤items.size:=vh _ _ (Nat.le_refl _) hi
 obtain ⟨os,hos,hcs,hds⟩:=id hs
 have hTs:s.TypeIs (.ref sl) "slice":=⟨os,hos,hcs⟩
 unfold getItem
 try with_reducible refine wpAny_holding ?_
 first |refine wpAny_bind (wpAny_pure ?_) |skip
 refine wpAny_bind (wpAny_sequenceKey ht.typeIs (by decide) ?_)
 refine wpAny_bind (wpAny_callSpecial?_slot (name:=Str.ofString "__getitem__") ht.typeIs PyProof.Rows.slot_tuple_getitem
  (wpAny_call_entry PyProof.Rows.slot_tuple_getitem ht.typeIs entry_tuple_getitem ?_ (args_tuple_getitem _ _)))
 show wpAny _ _ (Builtin.Tuple.tupleItemsOf (.ref t) >>= _) _ _ s
 refine wpAny_bind (tupleItemsOf_ ht ?_)
 refine wpAny_bind (wpAny_typeOf hTs ?_)
 rw[if_pos (by decide)]
 refine wpAny_bind (vp hs pl pu ?_)
 have hno:¬((((sIx items.size 0 lo:Nat):Int)==0&&(1:Int)==1&&(sIx items.size items.size hi - sIx items.size 0 lo)==items.size)=true):=by
  intro q
  rw[Bool.and_eq_true,Bool.and_eq_true]at q
  have q1:((sIx items.size 0 lo:Nat):Int)=0:=eq_of_beq q.1.1
  have q2:sIx items.size items.size hi - sIx items.size 0 lo=items.size:=eq_of_beq q.2
  exact hw ⟨by omega,by omega⟩
 show wpAny _ _ (if (((sIx items.size 0 lo:Nat):Int)==0&&(1:Int)==1&&(sIx items.size items.size hi - sIx items.size 0 lo)==items.size)=true then _ else _) _ _ s
 rw[if_neg hno,My]
 first
  |exact wpAny_bind (m:=Builtin.Tuple.tupleExact _) (wpAny_newObj_type (wpAny_pure ⟨_,rfl,wpAny_pure h⟩) htake)
  |exact wpAny_bind (m:=Builtin.Tuple.tupleExact _) (wpAny_newObj_type (wpAny_bind (wpAny_pure (wpAny_pure ⟨_,rfl,wpAny_pure h⟩))) htake)
  |exact wpAny_bind (wpAny_bind (m:=Builtin.Tuple.tupleExact _) (wpAny_newObj_type (wpAny_pure (wpAny_pure ⟨_,rfl,wpAny_pure h⟩)) htake))
  |exact wpAny_bind (wpAny_bind (m:=Builtin.Tuple.tupleExact _) (wpAny_newObj_type (wpAny_pure ⟨_,rfl,wpAny_pure h⟩) htake))
end
end HT
namespace L2
open PySem PySem.Spec PyProof.Rows
abbrev TO:=St→Hp→(Option Int→Hp→Prop)→Prop
def PO(X:Cx)(e:Option Expr)(t:TO):Prop:=
 ∀(pins:List (Addr×Obj))(s:Shared)(σ:St)(H:Hp)(Q:Option Int→Hp→Prop),Inv X pins σ H s→t σ H Q→
  wpAny (model X.prog X.w) X.A (evalPart e X.env) (fun u s'=>∃o H',Inv X pins σ H' s'∧IsPart u o∧Q o H') X.xe s
def MF:TO:=fun _ H Q=>Q none H
def MJ(t:TE):TO:=fun σ H Q=>t σ H fun x H1=>∃i,x=.int i∧Q (some i) H1
section
variable {X:Cx} {e:Expr} {te:TE} {lo hi:Option Expr} {tl th:TO} {pos p2:Pos}
theorem MK:PO X none MF:=by
 intro pins s σ H Q I h
 rw[evalPart_none]
 exact wpAny_pure ⟨none,H,I,.none,h⟩
theorem MN(h:PE X e te):PO X (some e) (MJ te):=by
 intro pins s σ H Q I hw
 rw[evalPart_some]
 refine thn (h pins s σ H _ I hw) fun u s1 ⟨x,H1,I1,r1,q1⟩=>?_
 obtain ⟨i,rfl,q⟩:=q1
 obtain ⟨t,rfl⟩:=r1
 exact ⟨some i,H1,I1,.int i t,q⟩
def SlR(X:Cx)(r:V→Option Int→Option Int→Hp→VK→Prop):Prop:=
 ∀(pins:List (Addr×Obj))(s:Shared)(σ:St)(H:Hp)(x:V)(v vl vu:Value)(lo hi:Option Int)(sl:Addr)(Q:VK),Inv X pins σ H s→RelV x v→s.heap.IsSliceOf sl vl vu .none→IsPart vl lo→IsPart vu hi→r x lo hi H Q→
  ∃T id,typeLookup (.type T) "__getitem__"=pure (some (.builtin id))∧s.TypeIs v T∧wpAny (model X.prog X.w) X.A (getItem v (.ref sl)) (EP X pins σ Q) X.xe s
def tSl(r:V→Option Int→Option Int→Hp→VK→Prop)(te:TE)(tl th:TO):TE:=fun σ H Q=>te σ H fun x H1=>tl σ H1 fun l H2=>th σ H2 fun u H3=>r x l u H3 Q
theorem MP{r:V→Option Int→Option Int→Hp→VK→Prop}(hr:SlR X r)(he:PE X e te)(hl:PO X lo tl)(hu:PO X hi th):PE X (.Subscript e (.Slice lo hi none p2) pos) (tSl r te tl th):=by
 intro pins s σ H Q I h
 refine Subscript_ (thn (he pins s σ H _ I h) fun v s1 ⟨x,H1,I1,r1,q1⟩=>?_)
 refine wpAny_Slice (thn (hl pins s1 σ H1 _ I1 q1) fun vl s2 ⟨l,H2,I2,pl,q2⟩=>thn (hu pins s2 σ H2 _ I2 q2) fun vu s3 ⟨u,H3,I3,pu,q3⟩=>?_)
 rw[evalPart_none]
 refine wpAny_pure ?_
 have I4:Inv X pins σ H3 { s3 with heap:=s3.heap.push { cls:=.type "slice",data:=.fields #[vl,vu,.none] } }:=I3.kept (t':=s3.toks) fun b ob q=>Heap.get?_push_of_some _ q
 obtain ⟨T,id,hT,ht,hg⟩:=hr pins { s3 with heap:=s3.heap.push { cls:=.type "slice",data:=.fields #[vl,vu,.none] } } σ H3 x v vl vu l u s3.heap.objs.size Q I4 r1 (Heap.IsSliceOf.new ..) pl pu q3
 show wpAny (model X.prog X.w) X.A (subscriptTail e (.Slice lo hi none p2) v (.ref s3.heap.objs.size)) (EP X pins σ Q) X.xe { s3 with heap:=s3.heap.push { cls:=.type "slice",data:=.fields #[vl,vu,.none] } }
 exact tail_any (ops:=[.ref s3.heap.objs.size,v]) ht hT hg (by with_unfolding_all rfl)
def cU(xs:List V)(lo hi:Option Int):List V:=(xs.drop (HT.sIx xs.length 0 lo)).take (HT.sIx xs.length xs.length hi - HT.sIx xs.length 0 lo)
theorem vq(xs:List V)(lo hi:Option Int):(cU xs lo hi).length≤xs.length:=by
 unfold cU
 rw[List.length_take,List.length_drop]
 omega
def MT(K:PySem.W.Frag):V→Option Int→Option Int→Hp→VK→Prop:=fun x lo hi H Q=>∃a xs,x=.ref a∧SqT K H a xs∧
 ¬(HT.sIx xs.length 0 lo=0∧HT.sIx xs.length xs.length hi=xs.length)∧∀p,H p=none→Q (.ref p) (upd H p (.tup (cU xs lo hi)))
theorem M3:SlR X (MT X.K):=by
 intro pins s σ H x v vl vu lo hi sl Q I rx hs pl pu h
 obtain ⟨a,xs,rfl,hx,hw,q⟩:=h
 cases rx
 obtain ⟨its,r,ht,hz⟩:=I.tuple hx
 have hlen:its.toArray.size=xs.length:=by rw[List.size_toArray];exact r.length.symm
 refine ⟨"tuple",_,PyProof.Rows.slot_tuple_getitem.lookup,ht.typeIs,?_⟩
 refine HT.Mz ht hs pl pu (by rw[hlen];exact hw) ?_ (by rw[hlen];exact hz)
 rw[hlen]
 refine ⟨.ref s.heap.objs.size,_,I.laid (t':=s.toks) (o:=.tup (cU xs lo hi)) (fun b ob q=>Heap.get?_push_of_some _ q) (Nat.le_refl _) ?_,rfl,q _ (I.hok.fresh (Nat.le_refl _))⟩
 exact ⟨Nat.le_trans (vq xs lo hi) hz,_,(r.drop (HT.sIx xs.length 0 lo)).take (HT.sIx xs.length xs.length hi - HT.sIx xs.length 0 lo),IsTup.new _ _⟩
def M4(K:PySem.W.Frag):R2:=fun x y H Q=>∃a b xs ys,x=.ref a∧y=.ref b∧SqT K H a xs∧SqT K H b ys∧xs≠[]∧xs.length+ys.length≤sizeLine∧
 (ys=[]→Q (.ref a) H)∧(ys≠[]→∀p,H p=none→Q (.ref p) (upd H p (.tup (xs++ys))))
theorem Vals.nil_iff{xs:List V}{us:List Value}(r:Vals xs us):us=[]↔xs=[]:=by
 cases r with
 |nil=>simp
 |cons _ _=>simp
theorem M5:OpR X (binaryOp .Add) (M4 X.K):=by
 intro pins s σ H x y v u Q I rx ry h
 obtain ⟨a,b,xs,ys,rfl,rfl,ha,hb,hx,hz,q1,q2⟩:=h
 cases rx
 cases ry
 obtain ⟨its,r1,p1,_⟩:=I.tuple ha
 obtain ⟨its2,r2,p2,_⟩:=I.tuple hb
 refine HT.Mv p1 p2 (fun z=>hx (r1.nil_iff.mp z)) (fun z=>⟨.ref a,H,I,rfl,q1 (r2.nil_iff.mp z)⟩) (fun z=>?_) (by rw[←r1.length,←r2.length];exact hz)
 refine ⟨.ref s.heap.objs.size,_,I.laid (t':=s.toks) (o:=.tup (xs++ys)) (fun b ob q=>Heap.get?_push_of_some _ q) (Nat.le_refl _) ?_,rfl,q2 (fun w=>z (r2.nil_iff.mpr w)) _ (I.hok.fresh (Nat.le_refl _))⟩
 exact ⟨by rw[List.length_append];exact hz,_,r1.append r2,IsTup.new _ _⟩
end
end L2
namespace L2
open PySem PySem.Spec PyProof.Rows
def ixN(n:Nat)(i:Int):Option Nat:=if 0≤i then (if i < n then some i.toNat else none) else if -(n:Int)≤i then some (i+n).toNat else none
def atI{α:Type}(xs:List α)(i:Int):Option α:=(ixN xs.length i).bind fun j=>xs[j]?
theorem vy{n:Nat}{i:Int}{j:Nat}(h:ixN n i=some j):seqIndex? i n=some j∧j < n∧-(n:Int)≤i∧i < n:=by
 unfold ixN at h
 by_cases h0:0≤i
 ·rw[if_pos h0]at h
  by_cases h1:i < n
  ·rw[if_pos h1]at h
   have e:i.toNat=j:=Option.some.inj h
   exact ⟨by rw[seqIndex_of h0 h1,e],by omega,by omega,h1⟩
  ·rw[if_neg h1]at h;cases h
 ·rw[if_neg h0]at h
  by_cases h1:-(n:Int)≤i
  ·rw[if_pos h1]at h
   have e:(i+n).toNat=j:=Option.some.inj h
   exact ⟨by rw[seqIndex_neg (by omega) h1,e],by omega,h1,by omega⟩
  ·rw[if_neg h1]at h;cases h
theorem qb{α:Type}{xs:List α}{i:Int}{v:α}(h:atI xs i=some v):∃j,seqIndex? i xs.length=some j∧xs[j]?=some v∧j < xs.length∧-(xs.length:Int)≤i∧i < xs.length:=by
 unfold atI at h
 cases e:ixN xs.length i with
 |none=>rw[e]at h;cases h
 |some j=>
  rw[e]at h
  obtain ⟨h1,h2,h3,h4⟩:=vy e
  exact ⟨j,h1,h,h2,h3,h4⟩
theorem dq{α:Type}{xs:List α}{j:Nat}{v:α}(h:xs[j]?=some v):atI xs (j:Int)=some v:=by
 have hj:j < xs.length:=(List.getElem?_eq_some_iff.mp h).1
 have e:ixN xs.length (j:Int)=some j:=by
  unfold ixN
  rw[if_pos (by omega),if_pos (by omega)];simp
 unfold atI;rw[e];exact h
theorem vz{α:Type}(xs:List α)(v:α):atI (xs++[v]) (-1)=some v:=by
 have hl:(xs++[v]).length=xs.length+1:=by simp
 have e:ixN (xs++[v]).length (-1)=some xs.length:=by
  unfold ixN
  rw[hl,if_neg (by decide),if_pos (by omega)]
  congr 1
  omega
 unfold atI
 rw[e]
 show (xs++[v])[xs.length]?=some v
 simp
def vA(b:Expr):Prop:=∀o i,subscripted b false o i=operate [o,i] (getItem o i)
def IxR(X:Cx)(r:R2):Prop:=
 ∀(value slice:Expr)(pins:List (Addr×Obj))(s:Shared)(σ:St)(H:Hp)(x y:V)(v u:Value)(Q:VK),Inv X pins σ H s→RelV x v→RelV y u→r x y H Q→
  subscripted slice false v u=operate [v,u] (getItem v u)→wpAny (model X.prog X.w) X.A (subscriptTail value slice v u) (EP X pins σ Q) X.xe s
def MtR(X:Cx)(id:String)(r:V→List V→Hp→VK→Prop):Prop:=
 ∀(pins:List (Addr×Obj))(s:Shared)(σ:St)(H:Hp)(x:V)(xs:List V)(v:Value)(us:List Value)(Q:VK),Inv X pins σ H s→RelV x v→Vals xs us→r x xs H Q→
  wpAny (model X.prog X.w) X.A (call (.builtin id) (v::us)) (EP X pins σ Q) X.xe s
section
variable {X:Cx} {a b:Expr} {ta tb:TE} {pos:Pos}
theorem M6{r:R2}(hr:IxR X r)(ha:PE X a ta)(hb:PE X b tb)(hs:vA b):PE X (.Subscript a b pos) (tOp r ta tb):=by
 intro pins s σ H Q I h
 exact Subscript_ (p6 ha hb I h fun v u s2 x y H2 I2 rx ry q=>hr a b pins s2 σ H2 x y v u Q I2 rx ry q (hs _ _))
def M7(K:PySem.W.Frag):R2:=fun x y H Q=>∃p xs i v,x=.ref p∧y=.int i∧SqL K H p xs∧atI xs i=some v∧Q v H
def M8(K:PySem.W.Frag):R2:=fun x y H Q=>∃p xs i v,x=.ref p∧y=.int i∧SqT K H p xs∧atI xs i=some v∧Q v H
def M9:R2:=fun x y H Q=>∃z i c,x=.str z∧y=.int i∧z.length≤sizeLine∧atI z.cps.toList i=some c∧Q (.str ⟨#[c]⟩) H
theorem Nb:IxR X (M7 X.K):=by
 intro value slice pins s σ H x y v u Q I rx ry h hs
 obtain ⟨p,xs,i,z,rfl,rfl,hq,he,q⟩:=h
 cases rx
 obtain ⟨t,rfl⟩:=ry
 obtain ⟨its,r,pl,hz⟩:=I.list hq
 obtain ⟨j,h1,h2,h3,h4,h5⟩:=qb he
 obtain ⟨w,ew,rw'⟩:=r.get h2
 have hl:=r.length
 have hn:=fL
 have fin:EP X pins σ Q w s:=⟨z,H,I,rw',q⟩
 by_cases h0:0≤i
 ·have hj:i.toNat=j:=by
   rw[seqIndex_of h0 h5]at h1
   exact Option.some.inj h1
  exact item_listR pl.isList h0 (by omega) (by rw[hj];simpa using ew) fin hs
 ·have hj:(i+(its.toArray.size:Int)).toNat=j:=by
   rw[seqIndex_neg (by omega) h4]at h1
   rw[List.size_toArray,←hl]
   exact Option.some.inj h1
  exact subscriptTail_builtinR (x:=w) pl.isList.typeIs slot_list_getitem.lookup
   (wpAny_getItem_list_neg (Q:=fun r s'=>r=w∧EP X pins σ Q r s') pl.isList (by omega) (by rw[List.size_toArray] <;> omega) (by omega) (by rw[hj];simpa using ew) ⟨rfl,fin⟩) hs
theorem Nf:IxR X (M8 X.K):=by
 intro value slice pins s σ H x y v u Q I rx ry h hs
 obtain ⟨p,xs,i,z,rfl,rfl,hq,he,q⟩:=h
 cases rx
 obtain ⟨t,rfl⟩:=ry
 obtain ⟨its,r,pl,hz⟩:=I.tuple hq
 obtain ⟨j,h1,h2,h3,h4,h5⟩:=qb he
 obtain ⟨w,ew,rw'⟩:=r.get h2
 have hl:=r.length
 have hn:=fL
 have fin:EP X pins σ Q w s:=⟨z,H,I,rw',q⟩
 exact subscriptTail_builtinR (x:=w) pl.typeIs slot_tuple_getitem.lookup
  (getItem_tuple (j:=j) (Q:=fun r s'=>r=w∧EP X pins σ Q r s') pl (by omega) (by omega) (by rw[List.size_toArray,←hl];exact h1) (by simpa using ew) ⟨rfl,fin⟩) hs
theorem Ng:IxR X M9:=by
 intro value slice pins s σ H x y v u Q I rx ry h hs
 obtain ⟨z,i,c,rfl,rfl,hz,he,q⟩:=h
 obtain ⟨t,rfl⟩:=rx
 obtain ⟨t',rfl⟩:=ry
 obtain ⟨j,h1,h2,h3,h4,h5⟩:=qb he
 have hl:z.cps.toList.length=z.length:=by simp[Str.length]
 rw[hl]at h1 h4 h5
 have hn:=fL
 exact tail_any (typeIs_str s z t) slot_str_getitem.lookup (getItem_str (c:=c) (by
  have e1:decide (i < -(2 ^ 63:Int))=false:=decide_eq_false (by omega)
  have e2:decide (i≥2 ^ 63)=false:=decide_eq_false (by omega)
  rw[e1,e2,Bool.or_false]) (by rw[h1];simpa using h2) ⟨.str ⟨#[c]⟩,H,I.tok _,⟨_,rfl⟩,q⟩) hs
theorem Nh (its:List Value) (n j:Nat) (u:Value):Obj.mapSeq (·.setIfInBounds j u) { cls:=.type "list",data:=.seq its.toArray n }={ cls:=.type "list",data:=.seq (its.set j u).toArray n }:=by
 simp[Obj.mapSeq]
theorem Inv.lst{pins:List (Addr×Obj)}{σ:St}{H:Hp}{s:Shared}{p:Addr}{xs:List V}(I:Inv X pins σ H s)(h:H p=some (.lst xs)):
  ∃(its:List Value) (n:Nat),Vals xs its∧s.heap.get? p=some { cls:=.type "list",data:=.seq its.toArray n }∧xs.length≤sizeLine:=by
 obtain ⟨z,its,n,r,e⟩:=I.hok p _ h
 exact ⟨its,n,r,e,z⟩
theorem Inv.lstUpd{pins:List (Addr×Obj)}{σ:St}{H:Hp}{s:Shared}{p:Addr}{xs ys:List V}{its its':List Value}{n n':Nat}{f:Obj→Obj}(I:Inv X pins σ H s)(h:H p=some (.lst xs))
  (ho:s.heap.get? p=some { cls:=.type "list",data:=.seq its.toArray n }) (hf:f { cls:=.type "list",data:=.seq its.toArray n }={ cls:=.type "list",data:=.seq its'.toArray n' }) (r:Vals ys its') (hz:ys.length≤sizeLine) (t:Nat):
  Inv X pins σ (upd H p (.lst ys)) { s with heap:=s.heap.update p f,toks:=t }:=by
 have e:(s.heap.update p f).get? p=some { cls:=.type "list",data:=.seq its'.toArray n' }:=by
  rw[Heap.get?_update_self f ho (by rw[hf] <;> rfl),hf]
 refine I.write (x:=p) (e:=p) (by rw[h];trivial) (.inl rfl) (fun b u hb q=>(Heap.get?_update_other _ _ (Ne.symm hb)).trans q) ⟨_,e⟩ ?_
 exact ⟨hz,its',n',r,e⟩
def Ni:V→V→V→Hp→(Hp→Prop)→Prop:=fun o i v H Q=>∃p xs k j,o=.ref p∧i=.int k∧H p=some (.lst xs)∧ixN xs.length k=some j∧Q (upd H p (.lst (xs.set j v)))
theorem set_list:pZ X Ni:=by
 intro pins s σ H o i v ov iv u Q I ro ri rv h
 obtain ⟨p,xs,k,j,rfl,rfl,hp,hj,q⟩:=h
 cases ro
 obtain ⟨t,rfl⟩:=ri
 obtain ⟨its,n,r,ho,hz⟩:=I.lst hp
 obtain ⟨h1,h2,h3,h4⟩:=vy hj
 have hl:=r.length
 have hn:=fL
 have I':Inv X pins σ (upd H p (.lst (xs.set j v))) { s with heap:=s.heap.update p (Obj.mapSeq (·.setIfInBounds j u)) }:=
  I.lstUpd hp ho (Nh its n j u) (r.set rv j) (by rw[List.length_set];exact hz) s.toks
 by_cases h0:0≤k
 ·have hk:k.toNat=j:=by
   rw[seqIndex_of h0 h4]at h1
   exact Option.some.inj h1
  exact PySem.W.ki_setAt ho h0 (by omega) (by rw[List.size_toArray,←hl];exact h4) (by rw[hk];exact ⟨_,I',q⟩)
 ·have hk:(k+(its.toArray.size:Int)).toNat=j:=by
   rw[seqIndex_neg (by omega) h3]at h1
   rw[List.size_toArray,←hl]
   exact Option.some.inj h1
  exact PySem.W.ki_setBack ho (by omega) (by rw[List.size_toArray,←hl];exact h3) (by omega) (by rw[hk];exact ⟨_,I',q⟩)
theorem vB(lo hi:Option Int)(n:Nat):(sliceBounds lo hi none n).1=((HT.sIx n 0 lo:Nat):Int)∧(sliceBounds lo hi none n).2.1=((HT.sIx n n hi:Nat):Int)∧(sliceBounds lo hi none n).2.2=1:=by
 refine ⟨?_,?_,rfl⟩
 ·cases lo with
  |none=>simp[sliceBounds,HT.sIx]
  |some i=>
   simp only[sliceBounds,HT.sIx,Option.getD_none,show (1:Int) > 0 by decide,if_true]
   by_cases h:i < 0
   ·simp only[h,if_true] <;> omega
   ·simp only[h,if_false] <;> omega
 ·cases hi with
  |none=>simp[sliceBounds,HT.sIx]
  |some i=>
   simp only[sliceBounds,HT.sIx,Option.getD_none,show (1:Int) > 0 by decide,if_true]
   by_cases h:i < 0
   ·simp only[h,if_true] <;> omega
   ·simp only[h,if_false] <;> omega
theorem Nj(its:List Value)(lo hi:Option Int):slicePick its.toArray lo hi none=((its.drop (HT.sIx its.length 0 lo)).take (HT.sIx its.length its.length hi - HT.sIx its.length 0 lo)).toArray:=by
 obtain ⟨h1,h2,h3⟩:=vB lo hi its.toArray.size
 unfold slicePick
 rw[h1,h2,h3]
 simp only[sliceRange_one,pick_run,List.size_toArray] <;> rfl
def Nk(K:PySem.W.Frag):V→Option Int→Option Int→Hp→VK→Prop:=fun x lo hi H Q=>∃a xs,x=.ref a∧SqL K H a xs∧∀p,H p=none→Q (.ref p) (upd H p (.lst (cU xs lo hi)))
theorem vC:SlR X (Nk X.K):=by
 intro pins s σ H x v vl vu lo hi sl Q I rx hs pl pu h
 obtain ⟨a,xs,rfl,hx,q⟩:=h
 cases rx
 obtain ⟨its,r,ht,hz⟩:=I.list hx
 have hlen:=r.length
 refine ⟨"list",_,slot_list_getitem.lookup,ht.isList.typeIs,?_⟩
 refine wpAny_getItem_list_slice ht.isList hs pl pu .none (by simp) ?_ (by rw[List.size_toArray] <;> omega)
 rw[Nj,←hlen]
 refine ⟨.ref s.heap.objs.size,_,I.laid (t':=s.toks) (o:=.lst (cU xs lo hi)) (fun b ob q=>Heap.get?_push_of_some _ q) (Nat.le_refl _) ?_,rfl,q _ (I.hok.fresh (Nat.le_refl _))⟩
 exact ⟨Nat.le_trans (vq xs lo hi) hz,_,0,(r.drop (HT.sIx xs.length 0 lo)).take (HT.sIx xs.length xs.length hi - HT.sIx xs.length 0 lo),Heap.get?_push_size _ rfl⟩
theorem vD:bF X (.builtin "len") (fun xs H Q=>∃p ys,xs=[.ref p]∧(SqL X.K H p ys∨SqT X.K H p ys)∧Q (.int ys.length) H):=by
 intro pins s σ H xs us Q I r h
 obtain ⟨p,ys,rfl,hq,q⟩:=h
 obtain ⟨u,rfl,rx⟩:=vals1 r
 cases rx
 have hn:=fL
 rcases hq with hq |hq
 ·obtain ⟨its,r',pl,hz⟩:=I.list hq
  have hlen:=r'.length
  exact Calls.call_len_list pl.isList (by simp only[List.size_toArray] <;> omega) ⟨.int ys.length,H,I.tok _,⟨s.toks+1,by rw[List.size_toArray,hlen]⟩,q⟩
 ·obtain ⟨its,r',pl,hz⟩:=I.tuple hq
  have hlen:=r'.length
  exact len_tuple pl (by simp only[List.size_toArray] <;> omega) ⟨.int ys.length,H,I.tok _,⟨s.toks+1,by rw[List.size_toArray,hlen]⟩,q⟩
theorem Nm:bF X (.builtin "len") (fun xs H Q=>∃z,xs=[.str z]∧z.length≤sizeLine∧Q (.int z.length) H):=by
 intro pins s σ H xs us Q I r h
 obtain ⟨z,rfl,hz,q⟩:=h
 obtain ⟨u,rfl,t,rfl⟩:=vals1 r
 have hn:=fL
 exact len_str (by omega) ⟨.int z.length,H,I.tok _,⟨_,rfl⟩,q⟩
theorem vG:bF X (.type "list") (fun xs H Q=>∃p ys,xs=[.ref p]∧(SqL X.K H p ys∨SqT X.K H p ys)∧∀l,H l=none→Q (.ref l) (upd H l (.lst ys))):=by
 intro pins s σ H xs us Q I r h
 obtain ⟨p,ys,rfl,hq,q⟩:=h
 obtain ⟨u,rfl,rx⟩:=vals1 r
 cases rx
 have fin:∀(its:List Value),Vals ys its→ys.length≤sizeLine→∀(h':Heap)(c':Nat),(∀b o',s.heap.get? b=some o'→h'.get? b=some o')→
   h'.get? s.heap.objs.size=some { cls:=.type "list",dict:=none,data:=.seq its.toArray c',slots:=#[] }→EP X pins σ Q (.ref s.heap.objs.size) { s with heap:=h' }:=fun its r' hz h' c' kp e=>
  ⟨.ref s.heap.objs.size,_,I.laid (t':=s.toks) kp (Nat.le_refl _) (show ObjOk X.prog X.w _ h' _ (.lst ys) from ⟨hz,its,c',r',e⟩),rfl,q _ (I.hok.fresh (Nat.le_refl _))⟩
 rcases hq with hq |hq
 ·obtain ⟨its,r',pl,hz⟩:=I.list hq
  have hlen:=r'.length
  obtain ⟨o,ho,hc,n,hd⟩:=pl.isList
  exact call_list_seq p (.inl rfl) ho hc hd (fun h' c' kp e=>fin its r' hz h' c' kp e) (by simp only[List.size_toArray] <;> omega)
 ·obtain ⟨its,r',pl,hz⟩:=I.tuple hq
  have hlen:=r'.length
  obtain ⟨o,ho,hc,n,hd⟩:=pl
  exact call_list_seq p (.inr rfl) ho hc hd (fun h' c' kp e=>fin its r' hz h' c' kp e) (by simp only[List.size_toArray] <;> omega)
theorem vH:bF X (.type "tuple") (fun xs H Q=>∃p ys,xs=[.ref p]∧((SqL X.K H p ys∧∀l,H l=none→Q (.ref l) (upd H l (.tup ys)))∨(SqT X.K H p ys∧Q (.ref p) H))):=by
 intro pins s σ H xs us Q I r h
 obtain ⟨p,ys,rfl,h⟩:=h
 obtain ⟨u,rfl,rx⟩:=vals1 r
 cases rx
 rcases h with ⟨hq,q⟩ |⟨hq,q⟩
 ·obtain ⟨its,r',pl,hz⟩:=I.list hq
  have hlen:=r'.length
  refine call_tuple_list pl.isList (fun h' kp=>?_) (by simp only[List.size_toArray] <;> omega)
  have I1:Inv X pins σ H { s with heap:=h' }:=I.kept (t':=s.toks) kp
  have I2:Inv X pins σ (upd H h'.objs.size (.tup ys)) { s with heap:=h'.push { cls:=.type "tuple",data:=.seq its.toArray } }:=
   I1.laid (t':=s.toks) (fun b o e=>Heap.get?_push_of_some _ e) (Nat.le_refl _) (show ObjOk X.prog X.w _ _ _ (.tup ys) from ⟨hz,its,r',IsTup.new _ _⟩)
  exact ⟨.ref h'.objs.size,_,I2,rfl,q _ (I1.hok.fresh (Nat.le_refl _))⟩
 ·obtain ⟨its,r',pl,hz⟩:=I.tuple hq
  exact call_tuple_same pl ⟨.ref p,H,I,rfl,q⟩
def tyV(K:PySem.W.Frag)(T:String)(x:V)(H:Hp):Prop:=match x with
 |.str _=>T="str"
 |.int _=>T="int"
 |.ref p=>(T="list"∧∃xs,SqL K H p xs)∨(T="tuple"∧∃o,K.lookup p=some o∧o.cls=.type "tuple"∧o.dict=none)∨
   (T="dict"∧((∃kvs,H p=some (.dK kvs))∨∃kvs,H p=some (.dT kvs)))∨(T="set"∧∃S n,H p=some (.set S n))
 |_=>False
theorem Np{pins:List (Addr×Obj)}{σ:St}{H:Hp}{s:Shared}{T:String}{x:V}{v:Value}(I:Inv X pins σ H s)(r:RelV x v)(ty:tyV X.K T x H):
  s.TypeIs v T∧∀a,v=.ref a→∃ob,s.heap.get? a=some ob∧ob.dict=none:=by
 cases x with
 |str z=>
  obtain ⟨t,rfl⟩:=r
  cases (show T="str" from ty)
  exact ⟨typeIs_str s z t,fun _ e=>nomatch e⟩
 |int i=>
  obtain ⟨t,rfl⟩:=r
  cases (show T="int" from ty)
  exact ⟨typeIs_int s i t,fun _ e=>nomatch e⟩
 |ref p=>
  cases r
  rcases ty with ⟨rfl,xs,hq⟩ |⟨rfl,o,hk,hc,hd⟩ |⟨rfl,hk⟩ |⟨rfl,S,n,hk⟩
  ·obtain ⟨its,_,pl,_⟩:=I.list hq
   refine ⟨pl.isList.typeIs,fun a e=>?_⟩
   cases e
   obtain ⟨o,n,e,c,hd,_⟩:=pl
   exact ⟨o,e,hd⟩
  ·refine ⟨⟨o,I.kIn p o hk,hc⟩,fun a e=>?_⟩
   cases e
   exact ⟨o,I.kIn _ o hk,hd⟩
  ·have z:∃o,s.heap.get? p=some o∧o.ExactDict:=by
    rcases hk with ⟨kvs,hk⟩ |⟨kvs,hk⟩
    ·obtain ⟨_,_,_,_,o,_,_,e,ex,_⟩:=I.hok p _ hk
     exact ⟨o,e,ex⟩
    ·obtain ⟨_,_,_,_,o,_,_,e,ex,_⟩:=I.hok p _ hk
     exact ⟨o,e,ex⟩
   obtain ⟨o,e,ex⟩:=z
   refine ⟨⟨o,e,ex.1⟩,fun a e2=>?_⟩
   cases e2
   exact ⟨o,e,ex.2.1⟩
  ·obtain ⟨o,_,_,_,e,ex,_⟩:=I.hok p _ hk
   refine ⟨⟨o,e,ex.1⟩,fun a e2=>?_⟩
   cases e2
   exact ⟨o,e,ex.2.1⟩
 |_=>exact False.elim ty
def tBM(K:PySem.W.Frag)(T:String)(r:V→List V→Hp→VK→Prop)(to:TE)(t:TA):TE:=fun σ H Q=>to σ H fun x H1=>tyV K T x H1∧t σ H1 fun xs H2=>r x xs H2 Q
variable {o e:Expr} {es:List Expr} {to:TE} {t:TA} {name:Str} {apos cpos:Pos} {T id:String} {r:V→List V→Hp→VK→Prop}
theorem gB (pa:PlainAttrs T) (slot:Slot T name id) (hty:typeOf (.builtin id)=pure (.type "method_descriptor")) (hm:MtR X id r) (ho:PE X o to) (ha:PA X (e::es) t)
  (hbase:attributeBase o name X.env (eval o X.env)=eval o X.env:=by rfl)
  (hfew:((backTo cpos (starEach (e::es) X.env)).all (fun x=>!x.1)&&(backToKw cpos (keywordEach [] X.env)).all (fun x=>x.1.isSome)
  &&decide ((e::es).length+([]:List Keyword).length+(if ([]:List Keyword).isEmpty then 0 else 1) < 30))=true:=by rfl)
  (hline:(apos.endLine==cpos.line)=true:=by rfl) (hs:starEach (e::es) X.env=(false,eval e X.env)::starEach es X.env:=by rfl) (hplain:(backTo cpos (starEach es X.env)).any (·.1)=false:=by rfl):
  PE X (.Call (.Attribute o name apos) (e::es) [] cpos) (tBM X.K T r to t):=by
 intro pins s σ H Q I h
 refine wpAny_Call_method_late hbase hfew hline rfl (thn (ho pins s σ H _ I h) fun v s1 ⟨x,H1,I1,r1,ty,q1⟩=>?_)
 obtain ⟨h1,h2⟩:=Np I1 r1 ty
 refine ⟨T,id,pa,slot,hty,h1,h2,?_⟩
 have hA:=ha cpos pins s1 σ H1 _ I1 q1
 rw[hs]at hA ⊢
 refine Calls.callWith_builtin (by show (false||(backTo cpos (starEach es X.env)).any (·.1))=false;rw[hplain] <;> rfl) (Calls.evalArgs_plain ?_)
 exact thn hA fun us s2 ⟨vs,H2,I2,r2,q2⟩=>hm pins s2 σ H2 x vs v us Q I2 r1 r2 q2
end
end L2
namespace L2
open PySem PySem.Spec PyProof.Rows
def MtM(X:Cx)(id:String)(r:V→List V→Hp→VK→Prop):Prop:=
 ∀(pins:List (Addr×Obj))(s:Shared)(σ:St)(H:Hp)(x:V)(xs:List V)(v:Value)(us:List Value)(Q:VK),Inv X pins σ H s→RelV x v→Vals xs us→r x xs H Q→
  wpAny (model X.prog X.w) X.A (call (.builtin id) (v::us)) (EP X pins σ Q) X.xe s
theorem Vals.one:∀{x:V}{us:List Value},Vals [x] us→∃u,us=[u]∧RelV x u
 |_,_,.cons r .nil=>⟨_,rfl,r⟩
theorem Vals.rep{xs:List V}{us:List Value}(h:Vals xs us):∀k:Nat,Vals (List.replicate k xs).flatten (List.replicate k us).flatten
 |0=>.nil
 |k+1=>by
  rw[List.replicate_succ,List.replicate_succ,List.flatten_cons,List.flatten_cons]
  exact Vals.append h (Vals.rep h k)
theorem foldl_rep(its:List Value):∀(k:Nat)(acc:List Value),
  List.foldl (fun x1 x2=>x1++x2) acc.toArray (List.replicate k its.toArray)=(acc++(List.replicate k its).flatten).toArray
 |0,acc=>by simp
 |k+1,acc=>by
  have e:acc.toArray++its.toArray=(acc++its).toArray:=by simp
  have e2:(acc++its)++(List.replicate k its).flatten=acc++(List.replicate (k+1) its).flatten:=by
   rw[List.replicate_succ,List.flatten_cons,List.append_assoc]
  rw[←e2,←foldl_rep its k (acc++its),←e,List.replicate_succ,List.foldl_cons]
section
variable {X:Cx} {pins:List (Addr×Obj)} {σ:St} {H:Hp} {s:Shared} {l b:Addr} {xs ys zs:List V}
theorem Inv.lset{its its':List Value}{n:Nat}{f:Array Value→Array Value}{t':Nat}(I:Inv X pins σ H s)(hH:H l=some (.lst xs))
  (e:s.heap.get? l=some { cls:=.type "list",data:=.seq its.toArray n }) (hf:f its.toArray=its'.toArray) (hv:Vals ys its') (hz:ys.length≤sizeLine):
  Inv X pins σ (upd H l (.lst ys)) { s with heap:=s.heap.update l (Obj.mapSeq f),toks:=t' }:=by
 have q:=PySem.IsL.update e f
 rw[hf]at q
 refine I.write (x:=l) (e:=l) (by rw[hH];exact trivial) (.inl rfl) (fun b' u hb hu=>(Heap.get?_update_other s.heap (Obj.mapSeq f) (Ne.symm hb)).trans hu) ⟨_,q⟩ ?_
 exact ⟨hz,its',_,hv,q⟩
theorem Inv.lnew{its:List Value}{t':Nat}(I:Inv X pins σ H s)(hv:Vals ys its)(hz:ys.length≤sizeLine):
  Inv X pins σ (upd H s.heap.objs.size (.lst ys)) { s with heap:=s.heap.push { cls:=.type "list",data:=.seq its.toArray },toks:=t' }:=
 I.laid (fun _ _ q=>Heap.get?_push_of_some _ q) (Nat.le_refl _) ⟨hz,its,0,hv,Heap.get?_push_size _ rfl⟩
theorem Inv.fresh(I:Inv X pins σ H s):H s.heap.objs.size=none:=I.hok.fresh (Nat.le_refl _)
theorem Inv.lstM (I:Inv X pins σ H s) (hH:H l=some (.lst xs)):xs.length≤sizeLine∧∃(its:List Value) (n:Nat),Vals xs its∧xs.length=its.length∧s.heap.get? l=some { cls:=.type "list",data:=.seq its.toArray n }:=by
 obtain ⟨z,its,n,r,e⟩:=I.hok l _ hH
 exact ⟨z,its,n,r,r.length,e⟩
theorem Nq{n:Nat}(h:n≤sizeLine):Builtin.List.listTooLong n=false:=by
 unfold Builtin.List.listTooLong
 exact decide_eq_false (by omega)
end
section
variable {X:Cx}
def Nr:V→List V→Hp→VK→Prop:=fun x vs H Q=>∃l xs y,x=.ref l∧vs=[y]∧H l=some (.lst xs)∧xs.length < sizeLine∧Q .non (upd H l (.lst (xs++[y])))
theorem Nt:MtM X "list.append" Nr:=by
 intro pins s σ H x vs v us Q I rx rv h
 obtain ⟨l,xs,y,rfl,rfl,hH,hz,q⟩:=h
 cases rx
 obtain ⟨u,rfl,ru⟩:=rv.one
 obtain ⟨z,its,n,r,hl,e⟩:=I.lstM hH
 refine call_meets F.slot_list_append ⟨_,e,rfl⟩ F.entry_list_append (F.args_list_append_2 _ _) (PySem.list_append l its.toArray n u (by rw[List.size_toArray];omega)) ⟨e,?_⟩
 refine ⟨.non,_,I.lset (its':=its++[u]) hH e (by simp) (r.append (.cons ru .nil)) ?_,rfl,q⟩
 rw[List.length_append,List.length_singleton]
 omega
def Nu:V→List V→Hp→VK→Prop:=fun x vs H Q=>∃l b xs zs,x=.ref l∧vs=[.ref b]∧H l=some (.lst xs)∧H b=some (.lst zs)∧xs.length+zs.length≤sizeLine∧Q .non (upd H l (.lst (xs++zs)))
theorem Nv:MtM X "list.extend" Nu:=by
 intro pins s σ H x vs v us Q I rx rv h
 obtain ⟨l,b,xs,zs,rfl,rfl,hH,hB,hz,q⟩:=h
 cases rx
 obtain ⟨u,rfl,ru⟩:=rv.one
 cases ru
 obtain ⟨z,its,n,r,hl,e⟩:=I.lstM hH
 obtain ⟨z2,its2,n2,r2,hl2,e2⟩:=I.lstM hB
 have hsz:its.toArray.size+its2.toArray.size≤sizeLine:=by rw[List.size_toArray,List.size_toArray];omega
 have hlong:¬(!its.toArray.isEmpty&&Builtin.List.listTooLong (its.toArray.size+its2.toArray.size))=true:=by
  rw[Nq hsz,Bool.and_false]
  exact Bool.false_ne_true
 refine call_meets F.slot_list_extend ⟨_,e,rfl⟩ F.entry_list_extend (F.args_list_extend_2 _ _)
  (AutoSeq1.list_extend_list_list_0 l its.toArray n b its2.toArray n2 hlong (by rw[List.size_toArray];omega) (by omega)) ⟨e,e2,?_⟩
 refine ⟨.non,_,I.lset (its':=its++its2) hH e (by simp) (r.append r2) ?_,rfl,q⟩
 rw[List.length_append]
 omega
theorem len_rep{α:Type}(xs:List α)(k:Nat):(List.replicate k xs).flatten.length=k * xs.length:=by
 induction k with
 |zero=>simp
 |succ k ih=>rw[List.replicate_succ,List.flatten_cons,List.length_append,ih,Nat.succ_mul,Nat.add_comm]
end
section
variable {prog:Program} {w:World} {A:Around} {E:Value→Shared→Prop} {s:Shared}
end
section
variable {X:Cx}
end
end L2
namespace Att
open PySem PySem.W PySem.Calls PyProof.Rows
theorem Nx{P:Params}{h:Heap}:∀(ns:List Int)(vs:List Value),WellAll P h vs (ns.map WData.int)→IntsAre vs ns:=by
 intro ns
 induction ns with
 |nil=>
  intro vs w
  rw[List.map_nil]at w
  cases w
  exact .nil
 |cons n ns ih=>
  intro vs w
  rw[List.map_cons]at w
  cases w with
  |cons a b=>
   cases a
   exact .cons _ _ (ih _ b)
theorem Ny{l:OpenLaw}{n:Nat}(hn:l.most=some n){P:Params}{h:Heap}{args:List WData}{vals:List Value}
  (hpre:l.row.toRowW.claim.pre args=true) (hwl:WellAll P h vals args):
  ∃a vs ns,vals=[Value.ref a]∧args=[WData.list (ns.map WData.int)]∧h.get? a=some { cls:=.type "list",data:=.seq vs.toArray }∧IntsAre vs ns∧ns.length≤n:=by
 have hsh:WShape.hasAll [] args [.list .int]=true:=(pre_splitW hpre).1
 have hc:l.pre.holds [] { args:=args }=true:=(pre_splitW hpre).2
 obtain ⟨d,r,rfl,h1,h2⟩:=hasAllW_cons hsh
 obtain rfl:=hasAllW_nil h2
 obtain ⟨xs,rfl,h3⟩:=hasW_list h1
 obtain ⟨ns,rfl⟩:=items_int h3
 have hlen:ns.length≤n:=by
  unfold OpenLaw.pre at hc
  have h4:(WTm.not (.lt (.lit (.int (n:Int))) (.len (.arg 0)))).holds [] { args:=[.list (ns.map .int)] }=true:=by
   have h4:=(holds_andW hc).1
   rw[hn]at h4
   exact h4
  have h5:=condW_of h4 (w_not (w_lt w_lit (w_len_list (w_arg rfl))))
  rw[List.length_map]at h5
  refine Nat.le_of_not_lt fun q=>?_
  have q':(n:Int) < ((ns.length:Nat):Int):=by omega
  first
   | (rw[decide_eq_true q']at h5;exact absurd h5 (by decide))
   | (simp at h5;omega)
 cases hwl with
 |cons w1 w2=>
  cases w2
  cases w1 with
  |list ho hall=>exact ⟨_,_,ns,rfl,rfl,ho,Nx ns _ hall,hlen⟩
theorem Nz(l:OpenLaw)(args:List WData):l.row.toRowW.claim.post args (.bool true) args=true:=
 postW_of (r:=l.row.toRowW) (X:=(true==true))
  (show WShape.has [] (.bool true) .bool=true by first |rfl |decide |simp[WShape.has,WShape.arms,WShape.armsAll])
  (show (WTm.eq .res (.lit (.bool true))).value [] { args:=args,res:=some (.bool true),after:=args }=some (.bool (true==true)) from w_eq_bool (w_res rfl) w_lit) rfl
theorem attach_call{l:OpenLaw}{n:Nat}{q:Program}{loose:List Str}{XP:(Str→Option Value)→Heap→Prop}{YP:World→Heap→Prop}{d:DefRec}
  (hn:l.most=some n) (hdf:d.params.defaults=[])
  (call:∀(w:World)(s₀ s₁:Shared)(mg mb:Str→Option Value)(fa:Addr)(o:Obj)(pm cd doc:Value)(a:Addr)(vs:List Value)(ns:List Int),
   Ground q loose [] XP w s₀ mg mb s₁.heap→YP w s₁.heap→
   s₁.heap.get? fa=some o→o.data=.func (docDef d.name d.params d.body d.scope pm cd doc)→s₁.heap.CodeRec cd d.name→mg d.name=some (.ref fa)→
   s₁.heap.get? a=some { cls:=.type "list",data:=.seq vs.toArray }→IntsAre vs ns→ns.length≤n→s₁.gens=#[]→
   codeAny (model l.prog w) callerA (.call (.ref fa) ⟨[.ref a],[]⟩) (fun r s'=>r=.ok (.ret (.bool true))∧OldK s₁.heap s'.heap∧s'.os=s₁.os∧AllBare s'.gens) s₁):
  WalkO q loose XP YP l.row.toRowW d [] (fun f vs=>PySem.call f vs):=by
 intro w s₀ s₁ mg mb G Y fa o pm cd doc dV kV ho hd hcd hD hmg hg args vals as hpre hlay hrd hwl hlo
 obtain rfl:dV=.none:=Dflts.none hD hdf
 obtain rfl:kV=.none:=Dflts.noKw hD
 obtain ⟨a,vs,ns,rfl,rfl,hobj,hints,hlen⟩:=Ny hn hpre hwl
 refine enter_call (codeAny_mono (call w s₀ s₁ mg mb fa o pm cd doc a vs ns G Y ho (fd_plain hd) hcd hmg hobj hints hlen hg) fun r s' hq=>?_)
 obtain ⟨rfl,h2,h3,h4⟩:=hq
 exact ⟨.inl ⟨.bool true,.bool true,[],rfl,fun _=>rfl,.bool true,Nz l _,fun _=>⟨List.Pairwise.nil,fun _ hm=>(nomatch hm)⟩⟩,h2,h3,h4⟩
section
variable {prog:Program} {w:World} {A:Around} {E:Value→Shared→Prop} {s:Shared} {K:Frag}
end
end Att
namespace L2
open PySem PySem.Spec PyProof.Rows
theorem vI:∀{vs:List Value}{ns:List Int},IntsAre vs ns→Vals (ns.map V.int) vs
 |_,_,.nil=>.nil
 |_,_,.cons n t h=>.cons ⟨t,rfl⟩ (vI h)
def Only(H:Hp):Prop:=∀b,H b=none∨∃o xs,H b=some (.frz o (.lst xs))
theorem NB{P:Program}{w:World}{K:PySem.W.Frag}{mg mb:Str→Option Value}{CX:CXT}{k:Nat}{fa a:Addr}{fd:FuncData}{x:Str}{sp:Sp}{s₁:Shared}{vs:List Value}{ns:List Int}
  (KX:K.In s₁.heap) (hns:s₁.heap.Ns mainGlobals mg) (hb:s₁.heap.Ns builtinsNs mb) (hbb:∀x:Str,x≠"__name__"→mb x=bootBuiltins x) (hlim:s₁.heap.NoLimit) (hg:s₁.gens=#[])
  (ha:s₁.heap.get? a=some { cls:=.type "list",data:=.seq vs.toArray }) (hi:IntsAre vs ns) (hl:ns.length≤sizeLine) (hr:Room k callerA)
  (F:∀base:Heap,K.In base→base.Ns mainGlobals mg→FnOk P w K mg base CX k fa fd [x] sp) (hbind:∀(s:Shared)(u:Value),BindsTo s fd ⟨[u],[]⟩ [(x,u)])
  (hsp:∀H:Hp,Only H→SqL K H a (ns.map V.int)→sp [.ref a] H (fun v _=>v=.bl true) fun _ _ _=>False)
  (hCX:∀H e s',CX [] H s₁ (fun _ _ _=>False) e s'→False):
  codeAny (model P w) callerA (.call (.ref fa) ⟨[.ref a],[]⟩) (fun r s'=>r=.ok (.ret (.bool true))∧OldK s₁.heap s'.heap∧s'.os=s₁.os∧AllBare s'.gens) s₁:=by
 have rv:=vI hi
 have lenV:=hi.length
 -- from an abstract heap in which nothing but the script may be tracked
 have core:∀H:Hp,Only H→SqL K H a (ns.map V.int)→HOk P w H s₁.heap→(∀b,H b≠none→b=a)→(H a≠none→K.lookup a=none)→
   codeAny (model P w) callerA (.call (.ref fa) ⟨[.ref a],[]⟩) (fun r s'=>r=.ok (.ret (.bool true))∧OldK s₁.heap s'.heap∧s'.os=s₁.os∧AllBare s'.gens) s₁:=by
  intro H hO hS hok hA hK
  have base_of:∀{b:Addr}{o:Obj},s₁.heap.get? b=some o→H b=none→(dO s₁.heap H).get? b=some o:=fun e n=>JH e n
  have noA:∀{b:Addr}{o:Obj}{es:Array DictEntry}{ep:Nat},s₁.heap.get? b=some o→o.data=.dict es ep→H b=none:=fun {b o es ep} e d=>by
   cases q:H b with
   |none=>rfl
   |some u=>
    have e':b=a:=hA b (by rw[q];simp)
    subst e'
    rw[ha]at e;cases e
    have d':Data.seq vs.toArray _=Data.dict es ep:=d
    cases d'
  have nsK:∀{b:Addr}{m:Str→Option Value},s₁.heap.Ns b m→(dO s₁.heap H).Ns b m:=fun {b m} ⟨o,es,ep,e,d,r⟩=>⟨o,es,ep,base_of e (noA e d),d,r⟩
  have hKb:K.In (dO s₁.heap H):=fun b o e=>base_of (KX b o e) (by
   cases q:H b with
   |none=>rfl
   |some u=>
    have e':b=a:=hA b (by rw[q];simp)
    subst e'
    rw[hK (by rw[q];simp)]at e;cases e)
  have hM:Mod K mg (dO s₁.heap H):=⟨hKb,nsK hns,⟨mb,nsK hb,hbb⟩,let ⟨mc,h1,h2⟩:=hlim;⟨mc,nsK h1,h2⟩⟩
  have e0:Env0 P w K mg (dO s₁.heap H) callerA [] s₁ H:=⟨rfl,hM,fun b o e=>JK e,Nat.le_of_eq (JG _ _),trivial,fun b hb=>absurd (show b∈([]:List Addr) from hb) (by simp),hok,.of_eq hg⟩
  refine codeAny_mono ((F _ hKb (nsK hns)).run callerA [] s₁ H ⟨[.ref a],[]⟩ [.ref a] [.ref a] _ _ hr e0 (hbind s₁ (.ref a)) (.cons rfl .nil) (hsp H hO hS)) fun r s' h=>?_
  cases r with
  |error e=>exact (hCX H e s' h).elim
  |ok fl=>
   cases fl with
   |next=>exact False.elim h
   |brk=>exact False.elim h
   |cont=>exact False.elim h
   |ret u=>
    obtain ⟨v,H',os,bare,un,hok',r',q⟩:=h
    have q':v=.bl true:=q
    subst q'
    obtain rfl:u=Value.bool true:=r'
    refine ⟨rfl,OldK.of_keep fun b o e=>?_,os,bare⟩
    cases q:H b with
    |none=>exact un.keep b o e q (by intro z;exact absurd (show b∈([]:List Addr) from z) (by simp)) (by simp)
    |some u=>
     rcases hO b with z |⟨ob,xs,z⟩
     ·rw[q]at z;cases z
     ·have z2:=un.frzs b ob _ z
      obtain ⟨e1,_⟩:=hok b _ z
      obtain ⟨e2,_⟩:=hok' b _ z2
      rw[e]at e1;cases e1
      exact e2
 cases hk:K.lookup a with
 |some o=>
  -- the script is one of the module's own objects
  have e:=KX a o hk
  rw[ha]at e
  cases e
  refine core (fun _=>none) (fun _=>.inl rfl) (.inr ⟨_,vs.toArray,_,hk,rfl,rfl,rfl,by rw[List.size_toArray,lenV];exact hl,by simpa using rv⟩) (fun b u z=>by have z':(none:Option HO)=some u:=z;cases z') (fun b z=>absurd rfl z) fun z=>absurd rfl z
 |none=>
  refine core (fun b=>if b=a then some (.frz { cls:=.type "list",data:=.seq vs.toArray } (.lst (ns.map V.int))) else none) (fun b=>?_) (.inl (.inr ⟨{ cls:=.type "list",data:=.seq vs.toArray },if_pos rfl⟩)) (fun b u z=>?_) (fun b z=>?_) fun _=>hk
  ·by_cases hb:b=a
   ·exact .inr ⟨_,_,if_pos hb⟩
   ·exact .inl (if_neg hb)
  ·by_cases hb:b=a
   ·have z':=(if_pos hb).symm.trans z
    cases z'
    subst hb
    exact ⟨ha,by rw[List.length_map];exact hl,vs,_,rv,ha⟩
   ·have z':=(if_neg hb).symm.trans z
    cases z'
  ·by_cases hb:b=a
   ·exact hb
   ·exact absurd (if_neg hb) z
end L2
namespace L2
open PySem PySem.Spec PyProof.Rows
theorem NK{l:PySem.W.OpenLaw}{n k:Nat}{q:Program}{loose:List Str}{XP:(Str→Option Value)→Heap→Prop}{YP:World→Heap→Prop}{d:DefRec}{K:Params→PySem.W.Frag}{CX:World→CXT}{sp:World→Sp}{x:Str}
  (hn:l.most=some n) (hn2:n≤sizeLine) (hdf:d.params.defaults=[]) (hr:Room k callerA)
  (hY:∀(w:World)(h:Heap),YP w h→(K w.params).In h)
  (F:∀(w:World)(mg:Str→Option Value)(fa:Addr)(h:Heap),(K w.params).In h→h.Ns mainGlobals mg→mg d.name=some (.ref fa)→
   ∃fd:FuncData,(∀(s:Shared)(u:Value),BindsTo s fd ⟨[u],[]⟩ [(x,u)])∧
    ∀base:Heap,(K w.params).In base→base.Ns mainGlobals mg→FnOk l.prog w (K w.params) mg base (CX w) k fa fd [x] (sp w))
  (hsp:∀(w:World)(H:Hp)(a:Addr)(ns:List Int),ns.length≤n→Only H→SqL (K w.params) H a (ns.map V.int)→sp w [.ref a] H (fun v _=>v=.bl true) fun _ _ _=>False)
  (hCX:∀(w:World)(H:Hp)(s:Shared)(e:Value)(s':Shared),CX w [] H s (fun _ _ _=>False) e s'→False):
  PySem.W.WalkO q loose XP YP l.row.toRowW d [] (fun f vs=>PySem.call f vs):=by
 refine Att.attach_call hn hdf fun w s₀ s₁ mg mb fa o pm cd doc a vs ns G Y ho hd hcd hmg hobj hints hlen hg=>?_
 have KX:=hY w _ Y
 obtain ⟨fd,hb,hF⟩:=F w mg fa _ KX G.T.g hmg
 exact NB KX G.T.g G.T.b G.T.builtins G.T.nolimit hg hobj hints (Nat.le_trans hlen hn2) hr hF hb (fun H hO hS=>hsp w H a ns hlen hO hS) fun H e s'=>hCX w H s₁ e s'
end L2
namespace L2
open PySem PySem.Spec PyProof.Rows
def iM(s:Stmt):Arguments:=match s with
 |.FunctionDef _ a _ _ _ _ _ _ _ _=>a
 |_=>{ posonlyargs:=[],args:=[],vararg:=none,kwonlyargs:=[],kw_defaults:=[],kwarg:=none,defaults:=[] }
def aG(s:Stmt):List Stmt:=match s with
 |.FunctionDef _ _ b _ _ _ _ _ _ _=>b
 |_=>[]
def au(s:Stmt):Scope:=match s with
 |.FunctionDef _ _ _ _ _ _ sc _ _ _=>sc
 |_=>{ kind:=.function,names:=[],isGenerator:=false,isCoroutine:=false }
structure Fun(K:PySem.W.Frag)(x qual:Str)(st:Stmt)(f:Addr)(fd:FuncData):Prop where
 ex:∃(oc:Value)(od:Option Addr)(kV doc pm:Value)(an:Option Addr)(cdv ct:Value)(osl:Array (Option Value)),
  fd=PySem.W.fnOf x qual (iM st) (aG st) (au st) .none kV doc pm an cdv ct∧K.lookup f=some ⟨oc,od,.func fd,osl⟩∧PySem.W.codeIn K cdv qual=true
 kp:PySem.W.keepIn K (.ref f)=true
section
variable {P:Program} {w:World} {K:PySem.W.Frag} {mg:Str→Option Value} {base:Heap}
theorem Fun.binds{x qual:Str}{st:Stmt}{f:Addr}{fd:FuncData}{ps:List Str}(F:Fun K x qual st f fd)
  (h:∀(kV doc pm:Value)(an:Option Addr)(cdv ct:Value)(us:List Value),us.length=ps.length→bindArgs (PySem.W.fnOf x qual (iM st) (aG st) (au st) .none kV doc pm an cdv ct) ⟨us,[]⟩=pure (ps.zip us)):Binds K fd ps []:=by
 obtain ⟨oc,od,kV,doc,pm,an,cdv,ct,osl,rfl,lk,hcd⟩:=F.ex
 exact .all (h kV doc pm an cdv ct)
theorem NQ{x qual:Str}{st:Stmt}{f:Addr}{oc:Value}{od an:Option Addr}{osl:Array (Option Value)}{kV doc pm cdv ct:Value}(l:K.lookup f=some ⟨oc,od,.func (PySem.W.fnOf x qual (iM st) (aG st) (au st) .none kV doc pm an cdv ct),osl⟩)
  (c:PySem.W.codeIn K cdv qual=true) (k:PySem.W.keepIn K (.ref f)=true):Fun K x qual st f (PySem.W.fnOf x qual (iM st) (aG st) (au st) .none kV doc pm an cdv ct):=⟨⟨oc,od,kV,doc,pm,an,cdv,ct,osl,rfl,l,c⟩,k⟩
end
section
variable {X:Cx}
end
end L2
set_option maxHeartbeats 4000000
set_option bootstrap.genMatcherCode false
set_option genSizeOf false
set_option genSizeOfSpec false
namespace L2
open PySem PySem.Spec PyProof.Rows
section
variable {X:Cx} {pins:List (Addr×Obj)} {σ:St} {H:Hp} {s:Shared} {h':Heap}
theorem Inv.turnedL{t':Nat}{ch:List Addr}(I:Inv X pins σ H s)(hf:∀b∈ch,dj X pins H b)(k:∀b o,b∉ch→s.heap.get? b=some o→h'.get? b=some o):
  Inv X pins σ H { s with heap:=h',toks:=t' }:=by
 have nit:∀b u,H b=some u→b∉ch:=fun b u e z=>by
  have q:=(hf b z).1
  rw[q]at e;cases e
 refine I.step (g':=s.gens) (d':=s.drawn) (ch:=ch) (fun b hb=>?_) (fun b o _ _ hc e _=>k b o hc e) (fun b o _ _ hc e _=>⟨o.slots,k b o hc e⟩) (fun _ _ _ _ n=>n)
  (fun b o hc e=>⟨o,k b o hc e⟩) (fun _ _ e=>e) (fun _ _ _ e=>e) (fun b ps e=>⟨#[],by rw[e];simp⟩) (fun m hm=>?_) (fun b u e=>?_) I.bare
 ·obtain ⟨_,f1,_,f3,f4,f5⟩:=hf b hb
  exact ⟨f3,f1,f4,f5⟩
 ·obtain ⟨o,es,ep,ho,r⟩:=hm
  exact ⟨o,es,ep,k _ o (fun z=>(hf _ z).2.1 rfl) ho,r⟩
 ·refine (I.hok b u e).stay (fun c v hc q=>k c v ?_ q) (fun _ q=>q) fun _ _ q=>q
  rcases hc with z |z
  ·rw[z];exact nit b u e
  ·exact nit c _ z
theorem Inv.track{T:Addr}{o:HO}(I:Inv X pins σ H s)(hT:dj X pins H T)(new:ObjOk X.prog X.w (upd H T o) s.heap T o):Inv X pins σ (upd H T o) s:=by
 have hn:=hT.1
 have hok:HOk X.prog X.w (upd H T o) s.heap:=fun b u e=>by
  by_cases hb:b=T
  ·subst hb;rw[cT]at e;cases e;exact new
  ·rw[aC hb]at e
   exact (I.hok b u e).stay (fun c v _ q=>q) (fun c q=>by rw[aC (aU q hn)];exact q) fun c xs q=>by rw[aC (aU q hn)];exact q
 obtain ⟨hp,g,d,tk,os⟩:=s
 refine I.step (h':=hp) (g':=g) (d':=d) (t':=tk) (ch:=[T]) (fun b hb=>?_) (fun b o _ _ _ e _=>e) (fun b o _ _ _ e _=>⟨o.slots,e⟩) (fun b u hc _ n=>?_)
  (fun b o _ e=>⟨o,e⟩) (fun b xs e=>by rw[aC (aU e hn)];exact e) (fun b u v e=>by rw[aC (aU e hn)];exact e) (fun b ps e=>⟨#[],by rw[aC (aU e hn),e];simp⟩) (fun m hm=>hm) hok I.bare
 ·have e:b=T:=by simpa using hb
  subst e
  obtain ⟨_,f1,_,f3,f4,f5⟩:=hT
  exact ⟨f3,f1,f4,f5⟩
 ·rw[aC (by simpa using hc)];exact n
end
def Its(x:Str):It:=⟨fun i _=>i < x.cps.size,fun i H v H'=>H'=H∧∃c,x.cps[i]?=some c∧v=.str ⟨#[c]⟩,fun i _=>i=x.cps.size⟩
theorem vJ{prog:Program}{w:World}{A:Around}(hh:A.handled=none)(I:Addr)(x:Str)(t:Tok):
  Walks prog w A I [I] [I] x.cps.size (SignAt x) (fun i h=>h.IsStrIter I (strIterType x) x t i):=by
 unfold strIterType
 split
 ·exact Walks.strAscii hh I x t
 ·exact Walks.strWide hh I x t
theorem qd{P:Program}{w:World}{K:PySem.W.Frag}{tg:Expr}(it:Addr)(x:Str)(t:Tok):Turn P w K tg (Its x) [it] it (fun i h=>h.IsStrIter it (strIterType x) x t i) where
 mem:=by simp
 obj:=fun i h st b hb=>by
  have e:b=it:=by simpa using hb
  subst e
  obtain ⟨o,e,c,d⟩:=st
  exact ⟨o,e,fun v z=>by rw[d]at z;cases z⟩
 keep:=fun i h h' st k=>let ⟨o,ho,r⟩:=st;⟨o,k it (by simp) o ho,r⟩
 item:=by
  intro X hP hw hK hc i pins s σ H E I hf st hg
  subst hP hw hK
  obtain ⟨f0,f1,f2,f3,f4,f5⟩:=hf it (by simp)
  have W:=vJ (prog:=X.prog) (w:=X.w) (I.ok.hd hc) it x t
  refine W.item i s _ _ hg st fun v h' tk hv st' kk=>?_
  obtain ⟨c,u,e,rfl⟩:=hv
  have I1:Inv X pins σ H { s with heap:=h',toks:=tk }:=I.turned (fun b o hb e=>kk b o (by simpa using hb) e) f0 f1 f3 f4 f5
  obtain ⟨o,eo,cc,d⟩:=id st'
  exact ⟨_,rfl,kY (s:={ s with heap:=h',toks:=tk }) (n:=strIterType x) eo cc d (by unfold strIterType;split <;> decide) ⟨.str ⟨#[c]⟩,H,I1,⟨u,rfl⟩,⟨rfl,c,e,rfl⟩,st',fun b hb=>(hf b hb).1⟩⟩
 done:=by
  intro X hP hw hK hc i pins s σ H E I hf st hg
  subst hP hw hK
  obtain ⟨f0,f1,f2,f3,f4,f5⟩:=hf it (by simp)
  have W:=vJ (prog:=X.prog) (w:=X.w) (I.ok.hd hc) it x t
  have hg':i=x.cps.size:=hg
  subst hg'
  exact W.done s _ _ st fun h' tk kk=>⟨rfl,I.turned (fun b o hb e=>kk b o (by simpa using hb) e) f0 f1 f3 f4 f5⟩
 self:=fun A i s Q E st h=>by
  unfold strIterType at st
  split at st
  ·exact wpAny_pyIter_striter_ascii st h
  ·exact wpAny_pyIter_striter_wide st h
end L2
namespace L2
open PySem PySem.Spec PyProof.Rows
def bO(env:Env):List (Str×NameKind)→List (Str×Addr)→List (Str×Addr)
 |[],cs=>cs
 | (n,k)::r,cs=>bO env r (if (k==.free)=true then (match env.cells.lookup n with |some c=>(n,c)::cs |none=>cs) else cs)
theorem vK{env:Env}:∀{l:List (Str×NameKind)}{cs:List (Str×Addr)},(∀x c,cs.lookup x=some c→env.cells.lookup x=some c)→∀x c,(bO env l cs).lookup x=some c→env.cells.lookup x=some c
 |[],_,h,x,c,e=>h x c e
 | (n,k)::r,cs,h,x,c,e=>by
  refine vK (l:=r) (cs:=_) ?_ x c e
  intro y d q
  by_cases hk:(k==NameKind.free)=true
  ·rw[if_pos hk]at q
   cases hn:env.cells.lookup n with
   |none=>rw[hn]at q;exact h y d q
   |some c'=>
    rw[hn]at q
    simp only[List.lookup_cons]at q
    cases hy:y==n with
    |true=>
     rw[hy]at q
     have e1:y=n:=eq_of_beq hy
     rw[e1,hn];exact q
    |false=>rw[hy]at q;exact h y d q
  ·rw[if_neg hk]at q;exact h y d q
theorem vL{env:Env}{x:Str}:∀{l:List (Str×NameKind)}{cs:List (Str×Addr)},(cs.lookup x).isSome=true→((bO env l cs).lookup x).isSome=true
 |[],_,h=>h
 | (n,k)::r,cs,h=>by
  refine vL (l:=r) (cs:=_) ?_
  by_cases hk:(k==NameKind.free)=true
  ·rw[if_pos hk]
   cases hn:env.cells.lookup n with
   |none=>exact h
   |some c'=>
    simp only[List.lookup_cons]
    cases hy:x==n with
    |true=>rfl
    |false=>exact h
  ·rw[if_neg hk];exact h
theorem vM{env:Env}{x:Str}(hx:(env.cells.lookup x).isSome=true):∀{l:List (Str×NameKind)}{cs:List (Str×Addr)},(x,NameKind.free)∈l→((bO env l cs).lookup x).isSome=true
 | (n,k)::r,cs,h=>by
  rcases List.mem_cons.mp h with e |h
  ·cases e
   refine vL (l:=r) (cs:=_) ?_
   rw[if_pos (show (NameKind.free==NameKind.free)=true by decide)]
   obtain ⟨c,hc⟩:=Option.isSome_iff_exists.mp hx
   rw[hc]
   simp
  ·exact vM hx (l:=r) h
theorem vN{scope:Scope}{env:Env}(h:∀y∈scope.names,y.2=NameKind.free→(env.cells.lookup y.1).isSome=true):closureFor scope env=pure (bO env scope.names []):=by
 simp only[closureFor]
 generalize ([]:List (Str×Addr))=cs
 generalize scope.names=l at h
 induction l generalizing cs with
 |nil=>rfl
 |cons y r ih=>
  obtain ⟨n,k⟩:=y
  have ih':=fun cs=>ih cs fun y hy=>h y (List.mem_cons_of_mem _ hy)
  rw[List.forIn_cons]
  by_cases hk:(k==NameKind.free)=true
  ·have hk':k=NameKind.free:=eq_of_beq hk
   obtain ⟨c,hc⟩:=Option.isSome_iff_exists.mp (h (n,k) List.mem_cons_self hk')
   have e1:bO env ((n,k)::r) cs=bO env r ((n,c)::cs):=by
    rw[bO,if_pos hk]
    show bO env r (match env.cells.lookup n with |some c=>(n,c)::cs |none=>cs)=_
    have hc':env.cells.lookup n=some c:=hc
    rw[hc']
   have e2:cellOf env n=pure c:=by
    unfold cellOf
    have hc':env.cells.lookup n=some c:=hc
    rw[hc']
   rw[e1,←ih' ((n,c)::cs)]
   simp only[hk,if_true,e2]
   rfl
  ·have e1:bO env ((n,k)::r) cs=bO env r cs:=by rw[bO,if_neg hk]
   rw[e1,←ih' cs]
   simp only[hk,if_false]
   rfl
theorem qe{env:Env}{x:Str}:∀{names:List (Str×NameKind)},
  (names.map fun (n,k)=>if (k==NameKind.free&&env.scope.kind==.function&&env.kindOf n==some .cell) then (n,NameKind.cell) else (n,k)).lookup x=
   (names.lookup x).map fun k=>if (k==NameKind.free&&env.scope.kind==.function&&env.kindOf x==some .cell)=true then NameKind.cell else k
 |[]=>rfl
 | (n,k)::r=>by
  have ih:=@qe env x r
  rw[List.map_cons]
  have hh:∀(c:Prop)[Decidable c],(if c then (n,NameKind.cell) else (n,k))=(n,if c then NameKind.cell else k):=fun c _=>by split <;> rfl
  show List.lookup x ((if (k==NameKind.free&&env.scope.kind==.function&&env.kindOf n==some .cell)=true then (n,NameKind.cell) else (n,k))::_)=_
  rw[hh]
  simp only[List.lookup_cons]
  cases hx:x==n with
  |true=>
   have e1:x=n:=eq_of_beq hx
   subst e1
   rfl
  |false=>exact ih
abbrev Cx.comp(X:Cx)(N':List Str)(scope:Scope)(cl:List (Str×Addr))(C:Addr)(s₁:Shared)(H₁:Hp)(fp:List Addr)(pn:List (Addr×Obj)):Cx where
 prog:=X.prog
 w:=X.w
 K:=X.K
 mg:=X.mg
 base:=X.base
 A:=X.A
 N:=N'
 s₀:=s₁
 H₀:=H₁
 env:=compEnvC scope cl C X.env
 outer:=X.stack
 stack:=X.stack
 ex:=fp
 fn:=fun _=>false
 calm:=X.calm
 pn:=pn
 xe:=fun _ _=>False
def PIf(X:Cx)(ifs:List Expr)(t:TT):Prop:=
 ∀(pins:List (Addr×Obj))(s:Shared)(σ:St)(H:Hp)(Q:Bool→Hp→Prop),Inv X pins σ H s→t σ H Q→
  wpAny (model X.prog X.w) X.A (forIn ifs true fun c r=>if r=true then do let ok ←isTrue c X.env (eval c X.env);pure (ForInStep.yield ok) else pure (ForInStep.yield r)) (TP X pins σ Q) X.xe s
def NT:TT:=fun _ H Q=>Q true H
theorem NZ{X:Cx}:PIf X [] NT:=fun _ _ _ H _ I h=>wpAny_tests_nil ⟨H,I,h⟩
theorem N5{X:Cx}{c:Expr}{t:TT}(h:PT X c t):PIf X [c] t:=fun pins s σ H Q I q=>wpAny_tests_one (h pins s σ H Q I q)
def cV(cap:List (Option Nat))(σ:St):St:=cap.map fun o=>match o with |none=>none |some j=>(σ[j]?).join
def Caps(X:Cx)(scope:Scope):List Str→List (Option Nat)→Prop
 |[],[]=>True
 |_::N',none::cap=>Caps X scope N' cap
 |x::N',some j::cap=>(X.N[j]?=some x∧scope.names.lookup x=some NameKind.free)∧Caps X scope N' cap
 |_,_=>False
theorem Caps.len{X:Cx}{scope:Scope}:∀{N':List Str}{cap:List (Option Nat)},Caps X scope N' cap→cap.length=N'.length
 |[],[],_=>rfl
 |_::N',none::cap,h=>by
  have:=Caps.len (N':=N') (cap:=cap) h
  simp[this]
 |_::N',some _::cap,h=>by
  have:=Caps.len (N':=N') (cap:=cap) h.2
  simp[this]
 |[],_::_,h=>False.elim h
 |_::_,[],h=>False.elim h
theorem Caps.at{X:Cx}{scope:Scope}:∀{N':List Str}{cap:List (Option Nat)}{i:Nat}{x:Str}{v:V}{σ:St},Caps X scope N' cap→N'[i]?=some x→(cV cap σ)[i]?=some (some v)→
  ∃j:Nat,X.N[j]?=some x∧scope.names.lookup x=some NameKind.free∧σ[j]?=some (some v)
 |[],[],i,x,v,σ,_,e,_=>by simp at e
 |y::N',none::cap,0,x,v,σ,h,e,q=>by simp[cV]at q
 |y::N',some j::cap,0,x,v,σ,h,e,q=>by
  have e1:y=x:=by simpa using e
  subst e1
  have q1:(σ[j]?).join=some v:=by simpa [cV] using q
  refine ⟨j,h.1.1,h.1.2,?_⟩
  cases z:σ[j]? with
  |none=>rw[z]at q1;cases q1
  |some o=>rw[z]at q1;exact congrArg some q1
 |y::N',none::cap,i+1,x,v,σ,h,e,q=>Caps.at (N':=N') (cap:=cap) (i:=i) h (by simpa using e) (by simpa [cV] using q)
 |y::N',some _::cap,i+1,x,v,σ,h,e,q=>Caps.at (N':=N') (cap:=cap) (i:=i) h.2 (by simpa using e) (by simpa [cV] using q)
 |[],_::_,_,_,_,_,h,_,_=>False.elim h
 |_::_,[],_,_,_,_,h,_,_=>False.elim h
def vO(X:Cx)(N':List Str)(scope:Scope)(tg:Expr)(ifs:List Expr)(elt:Expr)(J:It)(σ0:St)(H1:Hp)(Q:VK):Prop:=
 ∃W:Nat→Nat→List V→St→Hp→Prop,(∃m,W 0 m [] σ0 H1)∧∀i m ys σ' H',W i m ys σ' H'→
  (J.stop i H'∧ys.length≤sizeLine∧∀D,H' D=none→Q (.ref D) (upd H' D (.lst ys)))∨
  (J.go i H'∧ys.length < sizeLine∧∀cl C s₁ H₁ fp pn,∃g tt te,PG (X.comp N' scope cl C s₁ H₁ fp pn) tg g∧PIf (X.comp N' scope cl C s₁ H₁ fp pn) ifs tt∧PE (X.comp N' scope cl C s₁ H₁ fp pn) elt te∧
   ∀x H2,J.yld i H' x H2→g x σ' H2 fun σ3 H3=>tt σ3 H3 fun b H4=>if b=true then te σ3 H4 fun y H5=>∃m',m' < m∧W (i+1) m' (ys++[y]) σ3 H5 else ∃m',m' < m∧W (i+1) m' ys σ3 H4)
def qg(X:Cx)(N':List Str)(scope:Scope)(tg:Expr)(ifs:List Expr)(elt:Expr)(wi:TI)(cap:List (Option Nat)):TE:=fun σ H Q=>wi σ H fun J H1=>vO X N' scope tg ifs elt J (cV cap σ) H1 Q
section
variable {prog:Program} {w:World} {A:Around} {R:Result→Shared→Prop} {s:Shared}
theorem N6{elt target iter:Expr}{ifs:List Expr}{scope:Scope}{pos:Pos}{it acc:Value}{env:Env}(I:Nat→Shared→Prop)
  (turn:∀n s,I n s→wpAny (model prog w) A (pyNext it) (fun r s₁=>match r with
   |none=>R (.ok .next) s₁
   |some v=>wpAny (model prog w) A (letOwnedTupleGo target it v) (fun _ s₁'=>wpAny (model prog w) A (assign target env v) (fun _ s₂=>
     wpAny (model prog w) A (forIn ifs true fun c r=>if r=true then do let ok ←isTrue c env (eval c env);pure (ForInStep.yield ok) else pure (ForInStep.yield r)) (fun ok s₃=>
      if ok=true then wpAny (model prog w) A (eval elt env) (fun x s₄=>
       wpAny (model prog w) A (call (.builtin "list.append") [acc,x]) (fun _ s₅=>∃m,m < n∧I m s₅) (fun _ _=>False) s₄) (fun _ _=>False) s₃
      else ∃m,m < n∧I m s₃) (fun _ _=>False) s₂) (fun _ _=>False) s₁') (fun _ _=>False) s₁) (fun _ _=>False) s)
  (n:Nat) (h:I n s):codeAny (model prog w) A (.compLoop (.ListComp elt [⟨target,iter,ifs,0⟩] scope pos) 0 it acc env) R s:=by
 refine codeAny_loop rfl I (fun n s hI=>?_) n h
 show wpAny _ A ((compTurn (.ListComp elt [⟨target,iter,ifs,0⟩] scope pos) 0 it acc env).onRaise (fun x=>do noteFrame x env;theTreesLotGoes x)) _ _ s
 refine wpAny_noted ?_
 rw[compTurn_list]
 refine wpAny_bind (wpAny_standAt (wpAny_bind (wpAny_mono (turn n s hI) (fun r s₁ h₁=>?_) fun _ _ h'=>False.elim h')))
 cases r with
 |none=>exact wpAny_pure h₁
 |some v=>
  refine wpAny_bind (wpAny_mono h₁ (fun _ s₁' h₁'=>?_) fun _ _ h'=>False.elim h')
  refine wpAny_bind (wpAny_mono h₁' (fun _ s₂ h₂=>wpAny_bind (wpAny_mono h₂ (fun ok s₃ h₃=>?_) fun _ _ h'=>False.elim h')) fun _ _ h'=>False.elim h')
  cases ok with
  |false=>exact wpAny_pure ⟨rfl,h₃⟩
  |true=>
   exact wpAny_bind (wpAny_bind (wpAny_mono h₃ (fun x s₄ h₄=>wpAny_bind (wpAny_mono h₄ (fun _ s₅ h₅=>wpAny_pure (wpAny_pure ⟨rfl,h₅⟩)) fun _ _ h'=>False.elim h')) fun _ _ h'=>False.elim h'))
end
end L2
namespace L2
open PySem PySem.Spec PyProof.Rows
abbrev tx(l:List Nat):Str:=⟨l.toArray⟩
theorem bY(l:List Nat):(tx l).length=l.length:=by simp[Str.length]
theorem qi(a b:List Nat):tx a++tx b=tx (a++b):=by
 show (⟨a.toArray++b.toArray⟩:Str)=⟨(a++b).toArray⟩
 simp
theorem vP{a b:List Nat}(h:tx a=tx b):a=b:=by
 have:=congrArg (fun x:Str=>x.cps.toList) h
 simpa using this
theorem vQ(x:Str):x=tx x.cps.toList:=by cases x;simp
section
variable {X:Cx}
theorem vR:∀{ys:List Str}{us:List Value},Vals (ys.map V.str) us→StrsAre us ys
 |[],us,r=>by
  rw[List.map_nil]at r
  cases r
  exact .nil
 |y::ys,us,r=>by
  rw[List.map_cons]at r
  cases r with
  |cons r1 r2=>
   obtain ⟨t,e⟩:=r1
   subst e
   exact .cons y t (vR r2)
def rJoin(K:PySem.W.Frag):V→List V→Hp→VK→Prop:=fun x vs H Q=>∃z p ys,x=.str z∧vs=[.ref p]∧SqL K H p (ys.map V.str)∧(ys.map (·.length)).sum+ys.length * z.length≤16777216∧Q (.str (Str.join z ys)) H
theorem N7:MtR X "str.join" (rJoin X.K):=by
 intro pins s σ H x xs v us Q I rx rs h
 obtain ⟨z,p,ys,rfl,rfl,hq,hb,q⟩:=h
 obtain ⟨t,rfl⟩:=rx
 obtain ⟨u,rfl,ru⟩:=vals1 rs
 cases ru
 obtain ⟨its,rv,pl,hz⟩:=I.list hq
 refine join_list pl.isList (by simpa using vR rv) hb fun t' k=>⟨.str _,H,I.tok _,⟨_,rfl⟩,?_⟩
 have e:Txt.join z ys=Str.join z ys:=StrLaws.glued_eq_join z ys
 rw[e]
 exact q
def N8(K:PySem.W.Frag):List V→Hp→VK→Prop:=fun xs H Q=>∃x n t b,xs=[x,.ty n]∧TyOf K H x t∧PySem.W.kitOne K t (.type n)=some b∧Q (.bl b) H
theorem Oa:bF X (.builtin "isinstance") (N8 X.K):=by
 intro pins s σ H xs us Q I r h
 obtain ⟨x,n,t,b,rfl,ty,e,q⟩:=h
 obtain ⟨u,w',rfl,rx,ry⟩:=vals2 r
 cases ry
 exact Mg I rx ty e fun tk=>⟨.bl b,H,I.tok _,rfl,q⟩
theorem Ob:bootBuiltins "bool"=some (.type "bool"):=by decide +kernel
theorem vU:bootBuiltins "int"=some (.type "int"):=by decide +kernel
theorem vV:bootBuiltins "str"=some (.type "str"):=by decide +kernel
theorem vW:bootBuiltins "list"=some (.type "list"):=by decide +kernel
theorem Oc:bootBuiltins "isinstance"=some (.builtin "isinstance"):=by decide +kernel
theorem Od {x:Str} {T:String} {pos:Pos} (hg:Gl X x) (hm:X.mg x=none) (hv:bootBuiltins x=some (.type T)) (hn:x≠"__name__":=by decide) (hd:(x==("__debug__":Str))=false:=by decide):PE X (.Name x pos) (tC (.ty T)):=
 JS hg hm hv (v:=.ty T) rfl hn hd
theorem Oe:OpR X (binaryOp .Mult) (fun x y H Q=>∃i n,x=.str i∧y=.int n∧MulOk i n∧Q (.str (Txt.mul i n)) H):=by
 intro pins s σ H x y v u Q I rx ry h
 obtain ⟨i,n,rfl,rfl,hok,q⟩:=h
 obtain ⟨t,rfl⟩:=rx
 obtain ⟨t',rfl⟩:=ry
 exact SB.mul hok fun t' k=>⟨.str _,H,I.tok _,⟨_,rfl⟩,q⟩
end
end L2
namespace L2
open PySem PySem.Spec PyProof.Rows
section
variable {X:Cx}
end
end L2
namespace L2
open PySem PySem.Spec PyProof.Rows
open Builtin Builtin.Str
theorem Og{prog:Program}{w:World}{A:Around}(hh:A.handled=none)(it:Addr)(x:Str)(t:Tok):
  Draws prog w A it [it] x.cps.size (fun i v=>∃c u,x.cps[i]?=some c∧v=.str ⟨#[c]⟩ u) (fun i h=>h.IsStrIter it (strIterType x) x t i):=by
 unfold strIterType
 split
 ·exact Draws.strAscii hh it x t
 ·exact Draws.strWide hh it x t
structure ZApart(z TI TO i1 i2:Addr):Prop where
 TIz:TI≠z
 TOz:TO≠z
 i1z:i1≠z
 i2z:i2≠z
 TITO:TI≠TO
 TIi1:TI≠i1
 TIi2:TI≠i2
 TOi1:TO≠i1
 TOi2:TO≠i2
 i12:i1≠i2
section
variable {prog:Program} {w:World} {A:Around} {E:Value→Shared→Prop} {s:Shared}
end
section
variable {prog:Program} {w:World} {A:Around} {E:Value→Shared→Prop} {s:Shared}
end
end L2
namespace L2
open PySem PySem.Spec PyProof.Rows
section
variable {X:Cx}
theorem vX:∀{bs:List Bool}{us:List Value}{i:Nat}{v:Value},Vals (bs.map V.bl) us→us[i]?=some v→∃b,bs[i]?=some b∧v=.bool b
 |[],us,i,v,r,e=>by
  rw[List.map_nil]at r
  cases r
  simp at e
 |b::bs,us,i,v,r,e=>by
  rw[List.map_cons]at r
  cases r with
  |cons r1 r2=>
   cases i with
   |zero=>
    cases (show _=Value.bool b from r1)
    exact ⟨b,rfl,by simpa using e.symm⟩
   |succ i=>exact vX (i:=i) r2 (by simpa using e)
theorem Oh:bootBuiltins "all"=some (.builtin "all"):=by decide +kernel
theorem Oi:bootBuiltins "zip"=some (.type "zip"):=by decide +kernel
theorem all_range(bs:List Bool)(n:Nat)(hn:n=bs.length):((List.range n).all fun i=>(bs[i]?).getD true)=bs.all id:=by
 subst hn
 rw[Bool.eq_iff_iff,List.all_eq_true,List.all_eq_true]
 constructor
 ·intro h b hb
  obtain ⟨i,hi,e⟩:=List.mem_iff_getElem.mp hb
  have:=h i (List.mem_range.mpr hi)
  rw[List.getElem?_eq_getElem hi,e]at this
  simpa using this
 ·intro h i hi
  have hi':=List.mem_range.mp hi
  rw[List.getElem?_eq_getElem hi']
  simpa using h _ (List.getElem_mem hi')
theorem Oj (hc:X.calm=true):bF X (.builtin "all") (fun xs H Q=>∃(p:Addr) (bs:List Bool),xs=[.ref p]∧SqL X.K H p (bs.map V.bl)∧Q (.bl (bs.all id)) H):=by
 intro pins s σ H xs us Q I r h
 obtain ⟨p,bs,rfl,hq,q⟩:=h
 obtain ⟨u,rfl,ru⟩:=vals1 r
 cases ru
 obtain ⟨its,rv,pl,hz⟩:=I.list hq
 have hl:=pl.isList
 have hlt:p < s.heap.objs.size:=by obtain ⟨_,e,_⟩:=hl;exact Heap.lt_size e
 refine call_all_walk (wpAny_pyIter_list hl ?_)
 refine ⟨s.heap.objs.size,[s.heap.objs.size,p],[s.heap.objs.size],its.toArray.size,_,_,fun i=>(bs[i]?).getD true,rfl,Walks.list (A:=X.A.in1) (I.ok.hd hc) _ p (Nat.ne_of_lt hlt) its.toArray,
  ⟨⟨_,Heap.get?_push_size _ rfl,rfl,rfl⟩,hl.push _⟩,fun i v s' Q' E' hP hQ=>?_,fun h' tk hk=>?_⟩
 ·obtain ⟨b,e,rfl⟩:=vX rv (i:=i) (v:=v) (by simpa using hP)
  simp only[e,Option.getD_some]at hQ
  exact wpAny_truthy_bool hQ
 ·have e:=all_range bs its.toArray.size (by rw[List.size_toArray,←rv.length,List.length_map])
  rw[e]
  exact ⟨.bl _,H,I.kept (fun b o q=>hk b o (fun hm=>by rw[List.mem_singleton.mp hm]at q;exact Nat.lt_irrefl _ (Heap.lt_size q)) (Heap.get?_push_of_some _ q)),rfl,q⟩
theorem Ol:OpR X (compareOp .Is) (fun x y H Q=>∃i j,x=.bl i∧y=.bl j∧Q (.bl (i==j)) H):=by
 intro pins s σ H x y v u Q I rx ry h
 obtain ⟨i,j,rfl,rfl,q⟩:=h
 cases rx
 cases ry
 exact is_bool ⟨.bl _,H,I,rfl,q⟩
theorem Om:bF X (.type "int") (fun xs H Q=>∃z n,xs=[.str z]∧PySem.intText? z=some n∧z.length≤640∧Q (.int n) H):=by
 intro pins s σ H xs us Q I r h
 obtain ⟨z,n,rfl,hn,hl,q⟩:=h
 obtain ⟨u,rfl,t,rfl⟩:=vals1 r
 exact PySem.W.KIN.call_text hn hl ⟨.int n,H,I.tok _,⟨_,rfl⟩,q⟩
def Oo:V→Option Int→Option Int→Hp→VK→Prop:=fun x lo hi H Q=>∃z,x=.str z∧z.length≤sizeLine∧Q (.str (Txt.slice z lo hi)) H
theorem Oq:SlR X Oo:=by
 intro pins s σ H x v vl vu lo hi sl Q I rx hs pl pu h
 obtain ⟨z,rfl,hz,q⟩:=h
 obtain ⟨t,rfl⟩:=rx
 refine ⟨"str",_,slot_str_getitem.lookup,typeIs_str _ _ _,?_⟩
 obtain ⟨l,el,e1⟩:∃l:Option (Int×Tok),vl=partValue l∧l.map (·.1)=lo:=by
  cases pl with
  |none=>exact ⟨none,rfl,rfl⟩
  |int i t=>exact ⟨some (i,t),rfl,rfl⟩
 obtain ⟨u,eu,e2⟩:∃u:Option (Int×Tok),vu=partValue u∧u.map (·.1)=hi:=by
  cases pu with
  |none=>exact ⟨none,rfl,rfl⟩
  |int i t=>exact ⟨some (i,t),rfl,rfl⟩
 subst el eu e1 e2
 refine wpAny_getItem_str_slice (l:=l) (u:=u) (st:=none) hs rfl ?_
 unfold sliceMade
 unfold Txt.slice at q
 show (if ((1:Int)==1&&(slicePicked z l u none).length==z.length)=true then Made.val (.str z t) else Made.str ⟨((slicePicked z l u none).filterMap (z.cps[·]?)).toArray⟩).post _ _
 have ep:slicePicked z l u none=Builtin.Str.strSliceIndices (l.map (·.1)) (u.map (·.1)) 1 z.length:=rfl
 rw[ep]
 by_cases hc:((1:Int)==1&&(Builtin.Str.strSliceIndices (l.map (·.1)) (u.map (·.1)) 1 z.length).length==z.length)=true
 ·rw[if_pos hc]at q ⊢
  exact ⟨.str z,H,I,⟨t,rfl⟩,q⟩
 ·rw[if_neg hc]at q ⊢
  refine ⟨?_,⟨.str _,H,I.tok _,⟨_,rfl⟩,q⟩⟩
  show (List.filterMap _ _).toArray.size≤sizeLine
  rw[List.size_toArray]
  have h1:=sliceIndices_le (l.map (·.1)) (u.map (·.1)) z.length
  have h2:=List.length_filterMap_le (fun x=>z.cps[x]?) (Builtin.Str.strSliceIndices (l.map (·.1)) (u.map (·.1)) 1 z.length)
  omega
end
section
variable {X:Cx} {st:Stmt} {rest:List Stmt} {t u:TS} {e:Expr} {te:TE} {pos:Pos}
end
end L2
namespace L2
open PySem PySem.Spec PyProof.Rows
theorem vY{X:Cx}{elt tg iter:Expr}{ifs:List Expr}{scope:Scope}{pos:Pos}{wi:TI}{pins:List (Addr×Obj)}{s:Shared}{σ:St}{H:Hp}{Q:VK}{RR:Value→Addr→Result→Shared→Prop}(N':List Str)(cap:List (Option Nat))(hc:X.calm=true)(hi:PI X tg iter wi)(hcap:Caps X scope N' cap)
  (hcell:scope.names.all (fun y=>y.2 != NameKind.cell)=true)
  (hfr:scope.names.all (fun y=>y.2 != NameKind.free||(X.env.kindOf y.1==some NameKind.cell||X.env.kindOf y.1==some NameKind.free))=true)
  (hkind:scope.kind=.function) (I:Inv X pins σ H s) (h:qg X N' scope tg ifs elt wi cap σ H Q)
  (fin:∀(D C:Addr)(H':Hp)(s4:Shared)(m:Str→Option Value),Inv X pins σ H' s4→Q (.ref D) H'→s4.heap.Ns C m→dj X pins H' C→RR (.ref D) C (.ok .next) s4):
  wpAny (model X.prog X.w) X.A (eval iter X.env) (fun x s₁=>wpAny (model X.prog X.w) X.A (pyIter x) (fun it s₂=>wpAny (model X.prog X.w) X.A (newList []) (fun acc s₃=>
   wpAny (model X.prog X.w) X.A (newFunctionEnv scope X.env.globals (bO X.env scope.names []) [] X.env.qual none .none (some X.env)) (fun cenv s₄=>
    codeAny (model X.prog X.w) X.A (.compStart (.ListComp elt [⟨tg,iter,ifs,0⟩] scope pos) 0 it acc { cenv with scope:=relabel scope X.env }) (RR acc cenv.locals) s₄) X.xe s₃) X.xe s₂) X.xe s₁) X.xe s:=by
 have hcell':∀y∈scope.names,y.2≠NameKind.cell:=fun y hy=>by
  have:=List.all_eq_true.mp hcell y hy
  simpa using this
 have hfr':∀y∈scope.names,y.2=NameKind.free→(X.env.kindOf y.1=some NameKind.cell∨X.env.kindOf y.1=some NameKind.free):=fun y hy hl=>by
  have:=List.all_eq_true.mp hfr y hy
  simpa [hl] using this
 have hcs:∀y∈scope.names,y.2=NameKind.free→(X.env.cells.lookup y.1).isSome=true:=fun y hy hl=>by
  obtain ⟨c,e⟩:=I.ok.has y.1 (hfr' y hy hl)
  rw[e];rfl
 have clsub:∀x c,(bO X.env scope.names []).lookup x=some c→X.env.cells.lookup x=some c:=vK (fun x c e=>by simp at e)
 have clhas:∀x,scope.names.lookup x=some NameKind.free→∃c,(bO X.env scope.names []).lookup x=some c:=fun x e=>by
  have hm:=PySem.mem_of_lookup e
  exact Option.isSome_iff_exists.mp (vM (hcs _ hm rfl) hm)
 have rel:∀x,(relabel scope X.env).names.lookup x=(scope.names.lookup x).map fun k=>if (k==NameKind.free&&X.env.scope.kind==.function&&X.env.kindOf x==some .cell)=true then NameKind.cell else k:=fun x=>qe
 have relfree:∀x,((relabel scope X.env).names.lookup x=some NameKind.cell∨(relabel scope X.env).names.lookup x=some NameKind.free)→scope.names.lookup x=some NameKind.free:=fun x e=>by
  rw[rel x]at e
  cases z:scope.names.lookup x with
  |none=>rw[z]at e;rcases e with e |e <;> cases e
  |some k=>
   have nk:=hcell' _ (PySem.mem_of_lookup z)
   rw[z]at e
   cases k with
   |free=>rfl
   |cell=>exact absurd rfl nk
   | «local»=>rcases e with e |e <;> simp[show (NameKind.«local»==NameKind.free)=false by decide]at e
   |globalExplicit=>rcases e with e |e <;> simp[show (NameKind.globalExplicit==NameKind.free)=false by decide]at e
   |globalImplicit=>rcases e with e |e <;> simp[show (NameKind.globalImplicit==NameKind.free)=false by decide]at e
 generalize hcl:bO X.env scope.names []=cl at clsub clhas
 refine thn (hi pins s σ H _ I h) fun xv s0 h0=>thn h0 fun itv s2 h2=>?_
 obtain ⟨it,fp,tn,J,H2,e,I2,T,st2,f2,W,⟨m0,w0⟩,turn⟩:=h2
 subst e
 refine wpAny_newObj_type (wpAny_newFunctionEnv hcell' (by intro y hy;simp at hy) (fun h₁ hns₁ hsb₁=>?_) hkind)
 dsimp only at hns₁ hsb₁ ⊢
 generalize hH2:s2.heap.push { cls:=.type "list",dict:=none,data:=.seq ([]:List Value).toArray }=HP at hns₁ hsb₁ ⊢
 have hC:HP.objs.size=s2.heap.objs.size+1:=by rw[←hH2,Heap.size_push]
 have hDC:s2.heap.objs.size≠HP.objs.size:=by rw[hC];exact Nat.ne_of_lt (Nat.lt_succ_self _)
 have below:∀b,b < s2.heap.objs.size→b≠HP.objs.size∧b≠s2.heap.objs.size:=fun b hb=>⟨by rw[hC];exact Nat.ne_of_lt (Nat.lt_succ_of_lt hb),Nat.ne_of_lt hb⟩
 have old:∀b o,s2.heap.get? b=some o→h₁.get? b=some o:=fun b o e=>hsb₁.extBut b o (below b (Heap.lt_size e)).1 (Heap.get?_push_of_some _ (hH2 ▸ Heap.get?_push_of_some _ e))
 have hacc:h₁.get? s2.heap.objs.size=some { cls:=.type "list",data:=.seq ([]:List Value).toArray 0 }:=hsb₁.extBut _ _ hDC (Heap.get?_push_of_some _ (hH2 ▸ Heap.get?_push_size _ rfl))
 have hst₁:tn 0 h₁:=T.keep _ _ _ st2 fun b _ o e=>old b o e
 have fplt:∀b∈fp,b < s2.heap.objs.size:=fun b hb=>by
  obtain ⟨o,e,_⟩:=T.obj _ _ st2 b hb
  exact Heap.lt_size e
 have fslt:∀b∈frs X.stack,b < s2.heap.objs.size:=fun b hb=>by
  obtain ⟨_,o,e,_⟩:=I2.stack.mem hb
  exact Heap.lt_size e
 have celllt:∀x c,cl.lookup x=some c→c < s2.heap.objs.size:=fun x c e=>by
  obtain ⟨v,q⟩:=I2.cell x c (clsub x c e)
  exact q.lt
 have hDf:H2 s2.heap.objs.size=none:=I2.hok.fresh (Nat.le_refl _)
 have hCf:H2 HP.objs.size=none:=I2.hok.fresh (by rw[hC];exact Nat.le_succ _)
 have nofs:∀b∈fp,b∉frs X.stack:=fun b hb z=>by
  obtain ⟨_,f1,f2',_⟩:=f2 b hb
  rcases List.mem_cons.mp (I2.stkSub b z) with e |e
  ·exact f1 e
  ·exact f2' e
 have ok':(X.comp N' scope cl HP.objs.size s2 H2 fp (X.pn++pins)).Ok:=
  ⟨I2.ok.mod,hkind,I2.ok.glob,I2.ok.blt,(by show s2.heap.objs.size≤HP.objs.size;rw[hC];exact Nat.le_succ _),
   fun x y c e1 e2=>I2.ok.inj x y c (clsub x c e1) (clsub y c e2),fun x hx=>clhas x (relfree x hx),fun x c hf _=>(by cases hf),I2.ok.hd,I2.ok.frames,.inl rfl,
   fun b hb=>⟨(below b (fplt b hb)).1,fun x c e=>(f2 b hb).2.2.2.2.1 x c (clsub x c e)⟩,I2.bs,Nat.le_trans I2.ok.bsz I2.sz,
   fun b o e hb=>(by
    rcases (f2 b hb).2.2.2.1 with z |z
    ·exact I2.ok.noex b o e z
    ·exact absurd (Nat.lt_of_lt_of_le (Heap.lt_size e) (Nat.le_trans I2.ok.bsz z)) (Nat.lt_irrefl _)),
   nofs,I2.stack,I2.stkFree⟩
 have pnOk:∀p∈X.pn++pins,p.1 < s2.heap.objs.size∧p.1∉frs X.stack:=fun p hp=>by
  obtain ⟨e,_,n1,n2,_⟩:=I2.pin p hp
  refine ⟨Heap.lt_size e,fun z=>?_⟩
  rcases List.mem_cons.mp (I2.stkSub _ z) with e |e
  ·exact n1 e
  ·exact n2 e
 have I0:∀t,Inv (X.comp N' scope cl HP.objs.size s2 H2 fp (X.pn++pins)) [(s2.heap.objs.size,{ cls:=.type "list",data:=.seq ([]:List Value).toArray 0 })] (cV cap σ) H2 { s2 with heap:=h₁,toks:=t }:=fun t=>
  ⟨ok',rfl,I2.bare,Un.kept old,⟨_,hns₁,fun i x v e1 e2 _=>by
    obtain ⟨j,nj,fr,sj⟩:=hcap.at e1 e2
    obtain ⟨m,_,hl⟩:=I2.loc
    have hk:=hfr' (x,NameKind.free) (PySem.mem_of_lookup fr) rfl
    obtain ⟨u,r,l⟩:=hl j x v nj sj (by rcases hk with hk |hk;exact .inr (.inl hk);exact .inr (.inr hk))
    refine ⟨u,r,.inr ⟨?_,?_⟩⟩
    ·show (relabel scope X.env).names.lookup x=some .cell∨(relabel scope X.env).names.lookup x=some .free
     rw[rel x,fr,Option.map_some]
     by_cases hh:(NameKind.free==NameKind.free&&X.env.scope.kind==ScopeKind.function&&X.env.kindOf x==some NameKind.cell)=true
     ·exact .inl (by rw[if_pos hh])
     ·exact .inr (by rw[if_neg hh])
    ·obtain ⟨c,ec⟩:=clhas x fr
     have ec':=clsub x c ec
     rcases l with ⟨k1,_⟩ |⟨_,c',e',q⟩
     ·rcases hk with hk |hk <;> (rw[hk]at k1;cases k1)
     ·have ecc:X.env.cells.lookup x=some c:=ec'
      rw[e']at ecc
      cases ecc
      obtain ⟨o,ho,hd⟩:=q
      exact ⟨_,ec,o,old _ _ ho,hd⟩⟩,
   fun x c e=>(by obtain ⟨v,o,ho,hd⟩:=I2.cell x c (clsub x c e);exact ⟨v,o,old _ _ ho,hd⟩),hCf,fun x c e=>I2.freeC x c (clsub x c e),
   fun p hp=>by
    rcases List.mem_append.mp hp with z |z
    ·obtain ⟨e,n0,_,_,d⟩:=I2.pin p z
     exact ⟨old _ _ e,n0,(below _ (pnOk p z).1).1,(pnOk p z).2,d⟩
    ·have e:p=_:=List.mem_singleton.mp z
     subst e
     exact ⟨hacc,hDf,hDC,fun z=>absurd (fslt _ z) (Nat.lt_irrefl _),fun v z=>by have z':Data.seq _ _=Data.cell v:=z;cases z'⟩,
   I2.hok.kept old,by show (cV cap σ).length=N'.length;unfold cV;rw[List.length_map];exact hcap.len⟩
 have fpok:∀{H':Hp}{o:Obj},(∀b∈fp,H' b=none)→∀b∈fp,dj (X.comp N' scope cl HP.objs.size s2 H2 fp (X.pn++pins)) [(s2.heap.objs.size,o)] H' b:=fun hn b hb=>
  ⟨hn b hb,(below b (fplt b hb)).1,nofs b hb,.inl hb,fun x c e=>(f2 b hb).2.2.2.2.1 x c (clsub x c e),fun p hp=>by
   rcases List.mem_append.mp hp with z |z
   ·exact (f2 b hb).2.2.2.2.2 p z
   ·have e:p=_:=List.mem_singleton.mp z
    subst e
    exact Ne.symm (below b (fplt b hb)).2⟩
 have loop:∀s₃:Shared,s₃={ s2 with heap:=h₁,toks:=s2.toks+([]:List (Str×Value)).length }→
   codeAny (model X.prog X.w) X.A (.compLoop (.ListComp elt [⟨tg,iter,ifs,0⟩] scope pos) 0 (.ref it) (.ref s2.heap.objs.size) (compEnvC scope cl HP.objs.size X.env))
    (RR (.ref s2.heap.objs.size) HP.objs.size) s₃:=by
  rintro s₃ rfl
  refine N6
   (fun k s'=>∃(i:Nat) (ys:List V) (its:List Value) (n:Nat) (σ':St) (H':Hp),Inv (X.comp N' scope cl HP.objs.size s2 H2 fp (X.pn++pins)) [(s2.heap.objs.size,{ cls:=.type "list",data:=.seq its.toArray n })] σ' H' s'∧Vals ys its∧
    tn i s'.heap∧(∀b∈fp,H' b=none)∧W i k ys σ' H') ?_ m0 ⟨0,[],[],0,_,H2,I0 _,.nil,hst₁,fun b hb=>(f2 b hb).1,w0⟩
  rintro k s3 ⟨i,ys,its,n,σ3,H3,I3,rv3,st3,fr3,w3⟩
  rcases turn i k ys σ3 H3 w3 with ⟨stop,hz,qn⟩ |⟨go,hz,step⟩
  ·refine thn (T.done (X.comp N' scope cl HP.objs.size s2 H2 fp (X.pn++pins)) rfl rfl rfl hc i _ s3 σ3 H3 _ I3 (fpok fr3) st3 stop) fun r s4 ⟨hr,I4⟩=>?_
   subst hr
   obtain ⟨m,hn,_⟩:=I4.loc
   obtain ⟨pD,nD,_,_,_⟩:=I4.pin (s2.heap.objs.size,{ cls:=.type "list",data:=.seq its.toArray n }) (List.mem_append_right _ (List.mem_singleton.mpr rfl))
   have nC:H3 HP.objs.size=none:=I4.free
   have u:Un (frs X.stack) fp H2 H3 s2.heap s4.heap:=I4.base
   refine fin s2.heap.objs.size HP.objs.size (upd H3 s2.heap.objs.size (.lst ys)) s4 m ?_ (qn _ nD) hn ?_
   ·refine I2.call' (s':=s4) (ch:=fp) I4.os ?_ ?_ I4.bare fun b hb=>⟨(f2 b hb).2.2.2.1,(f2 b hb).2.1,(f2 b hb).2.2.2.2.1,(f2 b hb).2.2.2.2.2⟩
    ·refine ⟨fun b o e n0 hb hx=>u.keep b o e n0 hb hx,fun b o e n0 hb hx=>u.slot b o e n0 hb hx,fun b o e n0 hx=>?_,fun b o e hx=>u.there b o e hx,fun b xs e=>?_,fun b o v e=>?_,fun b ps e=>?_⟩
     ·rw[aC (below b (Heap.lt_size e)).2]
      exact u.free b o e n0 hx
     ·rw[aC (aU e hDf)]
      exact u.tups b xs e
     ·rw[aC (aU e hDf)]
      exact u.frzs b o v e
     ·rw[aC (aU e hDf)]
      exact u.tbls b ps e
    ·intro b o e
     by_cases hb:b=s2.heap.objs.size
     ·subst hb
      rw[cT]at e
      cases e
      exact ⟨hz,its,n,rv3,pD⟩
     ·rw[aC hb]at e
      exact (I4.hok b o e).stay (fun c v _ q=>q) (fun c q=>by rw[aC (aU q nD)];exact q) fun c xs q=>by rw[aC (aU q nD)];exact q
   ·have hle:s2.heap.objs.size≤HP.objs.size:=by rw[hC];exact Nat.le_succ _
    exact I2.fpOk hle (by rw[aC (Ne.symm hDC)];exact nC)
  ·refine thn (T.item (X.comp N' scope cl HP.objs.size s2 H2 fp (X.pn++pins)) rfl rfl rfl hc i _ s3 σ3 H3 _ I3 (fpok fr3) st3 go) fun r s4 ⟨u,hr,h4⟩=>?_
   subst hr
   refine thn h4 fun _ s5 ⟨x,H5,I5,r5,y5,st5,fr5⟩=>?_
   obtain ⟨g,tt,te,hg,ht,he,body⟩:=step cl HP.objs.size s2 H2 fp (X.pn++pins)
   have I5':=I5.pinned (fpok fr5) (T.obj _ _ st5)
   have tail:∀{σ7:St}{H7:Hp}{s7:Shared}{po:Obj},Inv (X.comp N' scope cl HP.objs.size s2 H2 fp (X.pn++pins)) ([(s2.heap.objs.size,po)]++iJ fp s5.heap) σ7 H7 s7→tn (i+1) s7.heap∧∀b∈fp,H7 b=none:=fun {σ7 H7 s7 po} I7=>by
    refine ⟨T.keep _ _ _ st5 fun b hb o e=>(I7.pin (b,o) (List.mem_append_right _ (List.mem_append_right _ (kZ hb e)))).1,fun b hb=>?_⟩
    obtain ⟨o,e,d⟩:=T.obj _ _ st5 b hb
    exact (I7.pin (b,o) (List.mem_append_right _ (List.mem_append_right _ (kZ hb e)))).2.1
   refine thn (hg _ s5 σ3 H5 x u _ I5' r5 (body x H5 y5)) fun _ s6 ⟨σ6,H6,I6,q6⟩=>?_
   refine thn (ht _ s6 σ6 H6 _ I6 q6) fun ok s7 ⟨H7,I7,q7⟩=>?_
   cases ok with
   |false=>
    obtain ⟨m',hm,w7⟩:=q7
    obtain ⟨t7,n7⟩:=tail I7
    exact ⟨m',hm,i+1,ys,its,n,σ6,H7,I7.unpinned,rv3,t7,n7,w7⟩
   |true=>
    refine thn (he _ s7 σ6 H7 _ I7 q7) fun v s8 ⟨y,H8,I8,r8,m',hm,w8⟩=>?_
    obtain ⟨t8,n8⟩:=tail I8
    obtain ⟨pD,nD,_,_,_⟩:=I8.pin (s2.heap.objs.size,{ cls:=.type "list",data:=.seq its.toArray n }) (List.mem_append_right _ (List.mem_append_left _ (List.mem_singleton.mpr rfl)))
    have hl:=rv3.length
    refine append_at (hsz:=by rw[List.size_toArray];omega) pD fun h9 hs9 hD9=>?_
    have I8a:Inv (X.comp N' scope cl HP.objs.size s2 H2 fp (X.pn++pins)) [] σ6 H8 s8:=I8.pins_of fun p hp=>nomatch hp
    have I9:Inv (X.comp N' scope cl HP.objs.size s2 H2 fp (X.pn++pins)) [] σ6 H8 { s8 with heap:=h9 }:=I8a.turned (t':=s8.toks) (it:=s2.heap.objs.size) (fun b o hb e=>hs9.extBut b o hb e) nD hDC (.inr (Nat.le_refl _))
     (fun x c e z=>absurd (celllt x c e) (by rw[z];exact Nat.lt_irrefl _)) (fun p hp z=>by
      rcases List.mem_append.mp hp with hp |hp
      ·exact absurd (pnOk p hp).1 (by rw[z];exact Nat.lt_irrefl _)
      ·exact nomatch hp)
    have hD9':h9.get? s2.heap.objs.size=some { cls:=.type "list",data:=.seq (its++[v]).toArray (n+1) }:=by
     rw[hD9,List.push_toArray]
    refine ⟨m',hm,i+1,ys++[y],its++[v],n+1,σ6,H8,I9.pins_of fun p hp=>?_,rv3.append (.cons r8 .nil),T.keep _ _ _ t8 fun b hb o e=>hs9.extBut b o (below b (fplt b hb)).2 e,n8,w8⟩
    have e:p=_:=List.mem_singleton.mp hp
    subst e
    exact ⟨hD9',nD,hDC,fun z=>absurd (fslt _ z) (Nat.lt_irrefl _),fun v z=>by have z':Data.seq _ _=Data.cell v:=z;cases z'⟩
 exact codeAny_compStart_list (loop _ rfl) (T.self X.A 0 _ _ _ hst₁ (loop _ rfl))
theorem Ot{X:Cx}{elt tg iter:Expr}{ifs:List Expr}{scope:Scope}{pos:Pos}{wi:TI}(N':List Str)(cap:List (Option Nat))(hc:X.calm=true)(hi:PI X tg iter wi)(hcap:Caps X scope N' cap)
  (hcell:scope.names.all (fun y=>y.2 != NameKind.cell)=true) (hnames:scope.names.all (fun y=>y.2 != NameKind.local||scope.names.lookup y.1==some NameKind.local)=true)
  (hfr:scope.names.all (fun y=>y.2 != NameKind.free||(X.env.kindOf y.1==some NameKind.cell||X.env.kindOf y.1==some NameKind.free))=true)
  (hkind:scope.kind=.function) (hs:∀x,foldedSetIterable iter X.env x=pure x):
  PE X (.ListComp elt [⟨tg,iter,ifs,0⟩] scope pos) (qg X N' scope tg ifs elt wi cap):=by
 intro pins s σ H Q I h
 have hnames':∀y∈scope.names,y.2=NameKind.local→scope.names.lookup y.1=some NameKind.local:=fun y hy hl=>by
  have:=List.all_eq_true.mp hnames y hy
  simpa [hl] using this
 have hcs:∀y∈scope.names,y.2=NameKind.free→(X.env.cells.lookup y.1).isSome=true:=fun y hy hl=>by
  have:=List.all_eq_true.mp hfr y hy
  obtain ⟨c,e⟩:=I.ok.has y.1 (by simpa [hl] using this)
  rw[e];rfl
 rw[eval_ListComp]
 refine wpAny_comprehension_free (use:=none) (Q:=EP X pins σ Q) rfl hs (vN hcs) hkind hnames'
  (vY (RR:=fun acc C=>compPost (model X.prog X.w) X.A X.xe none (EP X pins σ Q) acc C) N' cap hc hi hcap hcell hfr hkind I h fun L C H' s4 m I4 q hn fC=>?_)
 obtain ⟨f0,f1,f2,f3,f4,f5⟩:=fC
 exact ⟨m,hn,fun h' hs'=>⟨.ref L,H',I4.turned (t':=s4.toks) (it:=C) (fun b o hb e=>hs'.extBut b o hb e) f0 f1 f3 f4 f5,rfl,q⟩⟩
theorem Ou{X:Cx}{elt tg iter:Expr}{ifs:List Expr}{scope:Scope}{pos py spos:Pos}{wi:TI}{i:Nat}{y:Str}(hN:X.N.Nodup)(hiy:X.N[i]?=some y)(hy:Loc X.env.scope y)(N':List Str)(cap:List (Option Nat))(hc:X.calm=true)(hi:PI X tg iter wi)(hcap:Caps X scope N' cap)
  (hcell:scope.names.all (fun y=>y.2 != NameKind.cell)=true:=by rfl) (hnames:scope.names.all (fun y=>y.2 != NameKind.local||scope.names.lookup y.1==some NameKind.local)=true:=by rfl)
  (hfr:scope.names.all (fun y=>y.2 != NameKind.free||(X.env.kindOf y.1==some NameKind.cell||X.env.kindOf y.1==some NameKind.free))=true:=by rfl)
  (hkind:scope.kind=.function:=by rfl) (hs:∀x,foldedSetIterable iter X.env x=pure x:=by intro _;rfl)
  (hsw:swapsWith (.ListComp elt [⟨tg,iter,ifs,0⟩] scope pos) (some (.Name y py)) spos.line X.env=pure true:=by rfl)
  (hf:X.fn y=true∨X.env.scope.names.lookup y=some .local:=by first |exact .inl rfl |exact .inr rfl |assumption):
  PS X (.Assign [.Name y py] (.ListComp elt [⟨tg,iter,ifs,0⟩] scope pos) spos) (kO (qg X N' scope tg ifs elt wi cap) (kJ i)):=by
 intro pins s σ H D I h
 have hnames':∀y∈scope.names,y.2=NameKind.local→scope.names.lookup y.1=some NameKind.local:=fun y hy hl=>by
  have:=List.all_eq_true.mp hnames y hy
  simpa [hl] using this
 have hcs:∀y∈scope.names,y.2=NameKind.free→(X.env.cells.lookup y.1).isSome=true:=fun y hy hl=>by
  have:=List.all_eq_true.mp hfr y hy
  obtain ⟨c,e⟩:=I.ok.has y.1 (by simpa [hl] using this)
  rw[e];rfl
 rw[exec_Assign_Name_used _ _ _ _ hsw]
 refine wpAny_bind (wpAny_standAt (wpAny_bind ?_))
 show wpAny _ X.A (do let _ ←comprehension (.ListComp elt [⟨tg,iter,ifs,0⟩] scope pos) scope X.env _ (newList []) false (eval iter X.env) (some (assign (.Name y py) X.env))) _ _ s
 refine wpAny_bind (wpAny_mono (wpAny_comprehension_free (use:=some (assign (.Name y py) X.env)) (Q:=fun _ s'=>SP X pins D .next s') rfl hs (vN hcs) hkind hnames'
  (vY (RR:=fun acc C=>compPost (model X.prog X.w) X.A X.xe (some (assign (.Name y py) X.env)) (fun _ s'=>SP X pins D .next s') acc C) N' cap hc hi hcap hcell hfr hkind I h fun L C H' s4 m I4 q hn fC=>?_)) (fun _ s' hq=>wpAny_pure (wpAny_pure hq)) fun _ _ e=>e)
 obtain ⟨oC,es,ep,eC,rC⟩:=id hn
 obtain ⟨f0,f1,f2,f3,f4,f5⟩:=fC
 have ncell:∀v,oC.data≠.cell v:=fun v z=>by rw[rC.1]at z;cases z
 have I5:Inv X (pins++[(C,oC)]) σ H' s4:=I4.pins_of fun p hp=>by
  rcases List.mem_append.mp hp with z |z
  ·exact I4.pin p (List.mem_append_right _ z)
  ·have e:p=_:=List.mem_singleton.mp z
   subst e
   exact ⟨eC,f0,f1,f2,ncell⟩
 refine wpAny_assign_Name (iI I5 hN hiy hy (v:=.ref L) (u:=.ref L) rfl (fun s5 I6=>?_) hf)
 have eC5:s5.heap.get? C=some oC:=(I6.pin (C,oC) (List.mem_append_right _ (List.mem_append_right _ (List.mem_singleton.mpr rfl)))).1
 have I7:Inv X pins (σ.set i (some (.ref L))) H' s5:=I6.pins_of fun p hp=>I6.pin p (List.mem_append_right _ (List.mem_append_left _ hp))
 refine ⟨m,⟨oC,es,ep,eC5,rC⟩,fun h'' hs''=>?_⟩
 exact ⟨_,H',I7.turned (t':=s5.toks) (it:=C) (fun b o hb e=>hs''.extBut b o hb e) f0 f1 f3 f4 f5,q⟩
end L2
namespace L2
open PySem PySem.Spec PyProof.Rows
section
variable {X:Cx}
theorem Ov:OpR X (compareOp .IsNot) (fun x y H Q=>∃i j,x=.bl i∧y=.bl j∧Q (.bl (i != j)) H):=by
 intro pins s σ H x y v u Q I rx ry h
 obtain ⟨i,j,rfl,rfl,q⟩:=h
 cases rx
 cases ry
 exact isnot_bool ⟨.bl _,H,I,rfl,q⟩
end
end L2
namespace L2
open PySem PySem.Spec PyProof.Rows
def noStar:Expr→Bool
 |.Starred ..=>false
 |_=>true
theorem bQ(e:Expr)(es:List Expr)(env:Env)(h:noStar e=true):starEach (e::es) env=(false,eval e env)::starEach es env:=by
 cases e <;> first |rfl |cases h
end L2
namespace L2
open PySem PySem.Spec PyProof.Rows
end L2
namespace L2
open PySem PySem.Spec PyProof.Rows
section
variable {prog:Program} {w:World} {A:Around} {E:Value→Shared→Prop} {s:Shared}
end
section
variable {X:Cx} {tg:Expr}
end
end L2
namespace L2
open PySem PySem.Spec PyProof.Rows
variable {X:Cx} {e st:Expr} {te ts:TE} {p2 pos:Pos}
end L2
namespace L2
open PySem PySem.Spec PyProof.Rows
def holes(h:Heap)(l:List Addr):Heap:={ h with objs:=h.objs.mapIdx fun i o=>if l.contains i then { o with data:=.freed } else o }
theorem vZ{h:Heap}{l:List Addr}{b:Addr}:(holes h l).get? b=if l.contains b then none else h.get? b:=by
 unfold holes Heap.get?
 simp only[Array.getElem?_mapIdx]
 cases hb:h.objs[b]? with
 |none=>simp
 |some o=>
  cases hc:l.contains b with
  |true=>simp[hc]
  |false=>simp[hc]
theorem eO{h:Heap}{l:List Addr}{b:Addr}(hb:b∈l):(holes h l).get? b=none:=by
 rw[vZ,List.contains_iff_mem.mpr hb];rfl
theorem qj{h:Heap}{l:List Addr}{b:Addr}(hb:b∉l):(holes h l).get? b=h.get? b:=by
 rw[vZ]
 cases hc:l.contains b with
 |true=>exact absurd (List.contains_iff_mem.mp hc) hb
 |false=>rfl
theorem lu{h:Heap}{l:List Addr}:(holes h l).StaysIn h:=fun b o e=>by
 by_cases hb:b∈l
 ·rw[eO hb]at e;cases e
 ·rw[qj hb]at e;exact e
theorem ObjOk.at{P:Program}{w:World}{H:Hp}{h:Heap}{a:Addr}{o:HO}(x:ObjOk P w H h a o):∃u,h.get? a=some u:=by
 cases o with
 |lst xs=>obtain ⟨_,_,_,_,e⟩:=x;exact ⟨_,e⟩
 |tup xs=>obtain ⟨_,_,_,o,e,_⟩:=x;exact ⟨_,e⟩
 |dK kvs=>obtain ⟨_,_,_,_,o,_,_,e,_⟩:=x;exact ⟨_,e⟩
 |dT kvs=>obtain ⟨_,_,_,_,o,_,_,e,_⟩:=x;exact ⟨_,e⟩
 |set S n=>obtain ⟨o,_,_,_,e,_⟩:=x;exact ⟨_,e⟩
 |ins C dx fs=>obtain ⟨_,_,_,e,_⟩:=x;exact ⟨_,e⟩
 |own y=>exact x
 |xd fs=>obtain ⟨_,⟨_,_,_,e,_⟩,_⟩:=x;exact ⟨_,e⟩
 |rng lo hi=>obtain ⟨_,_,_,e⟩:=x;exact ⟨_,e⟩
 |frz ob u=>obtain ⟨e,_⟩:=x;exact ⟨_,e⟩
 |tbl ps=>exact ⟨_,(show h.get? a=some _ from x)⟩
 |met f y=>exact ⟨_,(show h.get? a=some _ from x)⟩
 |ext φ=>obtain ⟨_,e,_⟩:=x;exact e
theorem HOk.gone{P:Program}{w:World}{H:Hp}{h:Heap}{a:Addr}(x:HOk P w H h)(e:h.get? a=none):H a=none:=by
 cases q:H a with
 |none=>rfl
 |some u=>obtain ⟨o,ho⟩:=(x a u q).at;rw[ho]at e;cases e
theorem ql{h base:Heap}:∀{l:List Env},h.FunFrames base l→∀b∈frs l,∃o,h.get? b=some o∧∀vs,o.data≠.fields vs
 |[],_,b,hb=>by cases hb
 |env::l,hf,b,hb=>by
  unfold Heap.FunFrames at hf
  obtain ⟨_,⟨L,o,e1,_,e3,e4⟩,hr⟩:=hf
  unfold frs at hb
  rw[List.filterMap_cons,e1]at hb
  rcases List.mem_cons.mp hb with rfl |hb
  ·exact ⟨o,e3,e4⟩
  ·exact ql hr b hb
theorem iQ{h base:Heap}{x:List Addr}:∀{l:List Env},h.FunFrames base l→(∀b∈frs l,b∈x)→h.FunFrames (holes h x) l
 |[],_,_=>by unfold Heap.FunFrames;trivial
 |env::l,hf,hx=>by
  unfold Heap.FunFrames at hf ⊢
  obtain ⟨h1,⟨L,o,e1,_,e3,e4⟩,hr⟩:=hf
  have hL:L∈frs (env::l):=by unfold frs;rw[List.filterMap_cons,e1];exact List.mem_cons_self
  refine ⟨h1,⟨L,o,e1,eO (hx L hL),e3,e4⟩,iQ hr fun b hb=>hx b ?_⟩
  unfold frs at hb ⊢
  rw[List.filterMap_cons,e1]
  exact List.mem_cons_of_mem _ hb
theorem qm{h base:Heap}{env:Env}{l:List Env}(hf:h.FunFrames base (env::l)):∃L,env.frame=some L:=by
 unfold Heap.FunFrames at hf
 obtain ⟨_,⟨L,o,e1,_⟩,_⟩:=hf
 exact ⟨L,e1⟩
def Tr(h0:Heap)(H:Hp)(h:Heap)(a:Addr)(c:Value):Prop:=
 ∃oe vs T oT ts,h.get? a=some oe∧oe.cls=c∧oe.data=.fields vs∧vs[1]?=some (.ref T)∧T≠a∧h.get? T=some oT∧oT.data=.fields ts∧ts[3]?=some .none∧
  h0.get? a=none∧h0.get? T=none∧H a=none∧H T=none
def CX1(P:Program)(w:World):CXT:=fun outer H s E e s'=>
 ∃(a:Addr)(c:Value)(H':Hp),e=.ref a∧s'.os=s.os∧AllBare s'.gens∧Un (frs outer) [] H H' s.heap s'.heap∧HOk P w H' s'.heap∧Tr s.heap H' s'.heap a c∧E c none H'
theorem v6{P:Program}{w:World}{fs st:List Addr}{H0 H:Hp}{h0 h h':Heap}{l:List Env}{a:Addr}{xs:List Addr}{c:Value}(un:Un fs [] H0 H h0 h)(hok:HOk P w H h)
  (up:∀b∈fs,b∈st) (old:∀b o,h0.get? b=some o→b∉fs→b∉st) (fr:∀b∈st,H b=none∧∃o,h.get? b=some o∧∀vs,o.data≠.fields vs)
  (ha:h0.get? a=none) (hHa:H a=none) (hxs:∀x∈xs,h0.get? x=none∧H x=none)
  (L:(holes h (st++a::xs)).Left l a c h h'):Un fs [] H0 H h0 h'∧HOk P w H h'∧Tr h0 H h' a c:=by
 obtain ⟨stay,_,tr,slots⟩:=L
 have old:∀b o,h0.get? b=some o→b∉fs→b∉st++a::xs:=by
  intro b o hb hf hin
  rcases List.mem_append.mp hin with hin |hin
  ·exact old b o hb hf hin
  ·rcases List.mem_cons.mp hin with e |e
   ·rw[e,ha]at hb;cases hb
   ·rw[(hxs b e).1]at hb;cases hb
 have kept:∀b o,h.get? b=some o→b∉st++a::xs→h'.get? b=some o:=fun b o e hn=>stay b o (by rw[qj hn];exact e)
 have trk:∀b o,H b=some o→b∉st++a::xs:=by
  intro b o hb hin
  rcases List.mem_append.mp hin with hin |hin
  ·rw[(fr b hin).1]at hb;cases hb
  ·rcases List.mem_cons.mp hin with e |e
   ·rw[e,hHa]at hb;cases hb
   ·rw[(hxs b e).2]at hb;cases hb
 have noex:∀b:Addr,b∉([]:List Addr):=fun b hb=>by cases hb
 have frd:∀b∈st,∀o,h.get? b=some o→∀vs,o.data≠.fields vs:=by
  intro b hb o ho vs
  obtain ⟨_,o',e1,e2⟩:=fr b hb
  rw[e1]at ho
  cases ho
  exact e2 vs
 refine ⟨⟨?_,?_,?_,?_,un.tups,un.frzs,un.tbls⟩,?_,?_⟩
 ·intro b o hb hn hf _
  exact kept b o (un.keep b o hb hn hf (noex b)) (old b o hb hf)
 ·intro b o hb hn hf _
  obtain ⟨sl,e⟩:=un.slot b o hb hn hf (noex b)
  obtain ⟨sl',e'⟩:=slots b _ e (frd b (up b hf) _ e)
  exact ⟨sl',e'⟩
 ·intro b o hb hn _
  exact un.free b o hb hn (noex b)
 ·intro b o hb _
  obtain ⟨o',e⟩:=un.there b o hb (noex b)
  by_cases hin:b∈st++a::xs
  ·rcases List.mem_append.mp hin with h1 |h1
   ·obtain ⟨sl',e'⟩:=slots b _ e (frd b h1 _ e)
    exact ⟨_,e'⟩
   ·rcases List.mem_cons.mp h1 with e2 |e2
    ·rw[e2,ha]at hb;cases hb
    ·rw[(hxs b e2).1]at hb;cases hb
  ·exact ⟨_,kept b o' e hin⟩
 ·intro b o hb
  refine (hok b o hb).stay (fun b' u hb' e=>kept b' u e ?_) (fun _ z=>z) fun _ _ z=>z
  rcases hb' with rfl |hb'
  ·exact trk _ _ hb
  ·exact trk _ _ hb'
 ·obtain ⟨oe,vs,T,oT,ts,t1,t2,t3,t4,t5,t6,t7,t8,t9⟩:=tr
  have hT:T∈xs∨h.get? T=none:=by
   by_cases hin:T∈st++a::xs
   ·rcases List.mem_append.mp hin with h1 |h1
    ·exfalso
     obtain ⟨_,o,e1,e2⟩:=fr T h1
     obtain ⟨sl,e3⟩:=slots T o e1 e2
     rw[e3]at t7
     cases t7
     exact e2 ts t8
    ·rcases List.mem_cons.mp h1 with e2 |e2
     ·exact absurd e2 t6
     ·exact .inl e2
   ·rw[qj hin]at t5
    exact .inr t5
  refine ⟨oe,vs,T,oT,ts,t1,t2,t3,t4,t6,t7,t8,t9,ha,?_,hHa,?_⟩
  ·rcases hT with h1 |h1
   ·exact (hxs T h1).1
   ·cases e:h0.get? T with
    |none=>rfl
    |some o=>obtain ⟨o',e'⟩:=un.there T o e (noex T);rw[e']at h1;cases h1
  ·rcases hT with h1 |h1
   ·exact (hxs T h1).2
   ·exact hok.gone h1
section
variable {X:Cx} {pins:List (Addr×Obj)} {σ:St} {H:Hp} {s:Shared}
theorem v7(J:Inv X pins σ H s)(hst:X.stack=X.env::X.outer)(hex:X.ex=[]){a:Addr}{xs:List Addr}{c:Value}{E:XK}
  (ha:X.s₀.heap.get? a=none) (hHa:H a=none) (hxs:∀x∈xs,X.s₀.heap.get? x=none∧H x=none)
  {h':Heap} (L:(holes s.heap (frs X.stack++a::xs)).Left (X.env::X.outer) a c s.heap h') (q:E c none H):
  CX1 X.prog X.w X.outer X.H₀ X.s₀ E (.ref a) { s with heap:=h' }:=by
 have sub:=J.stkSub
 have hb0:=J.base
 rw[hex]at hb0
 have up:∀b∈X.fs,b∈frs X.stack:=by
  intro b hb
  rw[hst]
  unfold Cx.fs at hb
  unfold frs at hb ⊢
  rw[List.filterMap_cons]
  split
  ·exact hb
  ·exact List.mem_cons_of_mem _ hb
 have old:∀b o,X.s₀.heap.get? b=some o→b∉X.fs→b∉frs X.stack:=by
  intro b o hb hf hin
  rcases List.mem_cons.mp (sub b hin) with e |e
  ·have h1:=Heap.lt_size hb
   have h2:=J.ok.above
   rw[e]at h1
   exact absurd h1 (Nat.not_lt.mpr h2)
  ·exact hf e
 obtain ⟨u,k,t⟩:=v6 hb0 J.hok up old (fun b hb=>⟨J.stkFree b hb,ql J.stack b hb⟩) ha hHa hxs L
 exact ⟨a,c,H,rfl,J.os,J.bare,u,k,t,q⟩
theorem Ow(J:Inv X pins σ H s)(hst:X.stack=X.env::X.outer)(hex:X.ex=[]){a:Addr}{c:Value}{E:XK}(t:Tr X.s₀.heap H s.heap a c)(q:E c none H){E':Value→Shared→Prop}:
  wpAny (model X.prog X.w) X.A (leaving X.env (.ref a)) (fun _ s''=>CX1 X.prog X.w X.outer X.H₀ X.s₀ E (.ref a) s'') E' s:=by
 obtain ⟨oe,vs,T,oT,ts,t1,t2,t3,t4,t6,t7,t8,t9,n1,n2,n3,n4⟩:=t
 have hfr:=J.stack
 rw[hst]at hfr
 obtain ⟨L,hL⟩:=qm hfr
 have sub:∀b∈frs (X.env::X.outer),b∈frs X.stack++a::[T]:=fun b hb=>by rw[hst];exact List.mem_append_left _ hb
 refine wpAny_leaving_next (base:=holes s.heap (frs X.stack++a::[T])) (cls:=c) (by rw[J.ok.frames,hst]) (iQ hfr sub) hL ?_ lu (eO (by simp)) fun h' hl=>?_
 ·exact ⟨oe,vs,T,oT,ts,t1,t2,t3,t4,eO (by simp),t6,t7,t8,t9⟩
 ·exact v7 J hst hex n1 n3 (fun x hx=>by rw[List.mem_singleton.mp hx];exact ⟨n2,n4⟩) hl q
theorem Oz{h':Heap}(I:Inv X pins σ H s)(hst:X.stack=X.env::X.outer)(hex:X.ex=[]){a:Addr}{c:Value}{args:List Value}{E:XK}(m:s.heap.MadeExcOf h' a c args)(q:E c none H){E':Value→Shared→Prop}:
  wpAny (model X.prog X.w) X.A (leaving X.env (.ref a)) (fun _ s''=>CX1 X.prog X.w X.outer X.H₀ X.s₀ E (.ref a) s'') E' { s with heap:=h' }:=by
 have J:Inv X pins σ H { s with heap:=h' }:=I.kept (t':=s.toks) m.keeps
 have hfr:=J.stack
 rw[hst]at hfr
 obtain ⟨L,hL⟩:=qm hfr
 have sub:∀b∈frs (X.env::X.outer),b∈frs X.stack++a::[]:=fun b hb=>by rw[hst];exact List.mem_append_left _ hb
 obtain ⟨t,e,_,_⟩:=m.there
 have n1:X.s₀.heap.get? a=none:=by
  cases e:X.s₀.heap.get? a with
  |none=>rfl
  |some o=>
   obtain ⟨o',e'⟩:=I.base.there a o e (by rw[hex];simp)
   rw[m.new]at e';cases e'
 refine wpAny_leaving_first (base:=holes h' (frs X.stack++a::[])) (by rw[J.ok.frames,hst]) (iQ hfr sub) hL e lu (eO (by simp)) rfl rfl fun h'' hl=>?_
 exact v7 J hst hex n1 (I.hok.gone m.new) (fun x hx=>by cases hx) hl q
theorem OD{E:XK}(hst:X.stack=X.env::X.outer)(hex:X.ex=[])(hxe:∀e s',wpAny (model X.prog X.w) X.A (leaving X.env e) (fun _ s''=>CX1 X.prog X.w X.outer X.H₀ X.s₀ E e s'') (fun e' s''=>CX1 X.prog X.w X.outer X.H₀ X.s₀ E e' s'') s'→X.xe e s'):
  gA (CX1 X.prog X.w) X E:=by
 intro pins σ H s e s' I h
 obtain ⟨a,c,H',rfl,ho,hg,un,hok,tr,q⟩:=h
 have J:Inv X pins σ H' s':=I.call' (ch:=[]) ho un hok hg (fun b z=>absurd z (by simp))
 refine hxe _ _ (Ow J hst hex ?_ q)
 obtain ⟨oe,vs,T,oT,ts,t1,t2,t3,t4,t6,t7,t8,t9,n1,n2,n3,n4⟩:=tr
 have old:∀b,s.heap.get? b=none→X.s₀.heap.get? b=none:=fun b hb=>by
  cases e:X.s₀.heap.get? b with
  |none=>rfl
  |some o=>
   obtain ⟨o',e'⟩:=I.base.there b o e (by rw[hex];simp)
   rw[hb]at e';cases e'
 exact ⟨oe,vs,T,oT,ts,t1,t2,t3,t4,t6,t7,t8,t9,old a n1,old T n2,n3,n4⟩
theorem v8{P:Program}{w:World}(Y:Cx):gA (CX1 P w) Y fun _ _ _=>False:=fun _ _ _ _ _ _ _ h=>by
 obtain ⟨_,_,_,_,_,_,_,_,_,q⟩:=h
 exact q.elim
end
end L2
namespace L2
open PySem PySem.Spec PyProof.Rows
abbrev veM:List Value:=[.type "ValueError",.type "Exception",.type "BaseException",.type "object"]
def qp:List Value→Bool
 |[.type a,.type b,.type c,.type d]=>a=="ValueError"&&b=="Exception"&&c=="BaseException"&&d=="object"
 |_=>false
theorem OJ{l:List Value}(h:qp l=true):l=veM:=by
 unfold qp at h
 split at h
 ·simp only[Bool.and_eq_true,beq_iff_eq]at h
  obtain ⟨⟨⟨rfl,rfl⟩,rfl⟩,rfl⟩:=h
  rfl
 ·cases h
def v9:Value→Bool
 |.str _ _=>true
 |_=>false
def nsB(K:PySem.W.Frag)(N:Addr):Bool:=match K.lookup N with
 |some ⟨_,_,.dict es _,_⟩=>es.toList.all (fun e=>v9 e.key)&&quietNames.all fun n=>(nsFind es n).isNone
 |_=>false
theorem wg{K:PySem.W.Frag}{N:Addr}{h:Heap}(KX:K.In h)(b:nsB K N=true):∃m,h.Ns N m∧∀n∈quietNames,m n=none:=by
 unfold nsB at b
 split at b
 ·rename_i c d es ep sl e
  rw[Bool.and_eq_true,List.all_eq_true,List.all_eq_true]at b
  refine ⟨nsFind es,⟨_,es,ep,KX _ _ e,rfl,fun x hx=>?_,fun _=>rfl⟩,fun n hn=>by simpa using b.2 n hn⟩
  have:=b.1 x (Array.mem_toList_iff.mpr hx)
  unfold v9 at this
  split at this
  ·rename_i y t e;exact ⟨_,_,e⟩
  ·cases this
 ·cases b
def wj(K:PySem.W.Frag)(A:Addr):Bool:=match K.lookup A with
 |some ⟨_,_,.cls cd,_⟩=>nsB K cd.ns
 |_=>false
def lw(K:PySem.W.Frag):List Value→Bool
 |[]=>false
 |v::tl=>(match v with |.ref A=>wj K A&&lw K tl |_=>qp (v::tl))
theorem wk{K:PySem.W.Frag}{h:Heap}(KX:K.In h):∀{l:List Value},lw K l=true→OwnTailQ h veM l
 |[],b=>by cases b
 |v::tl,b=>by
  unfold lw at b
  split at b
  ·rename_i A
   rw[Bool.and_eq_true]at b
   have b1:=b.1
   unfold wj at b1
   split at b1
   ·rename_i c d cd sl e
    obtain ⟨m,hm,hq⟩:=wg KX b1
    exact .own (KX _ _ e) hm hq (wk KX b.2)
   ·cases b1
  ·rw[OJ b];exact .base
def isRef(C:Addr):Value→Bool
 |.ref a=>a==C
 |_=>false
def isNew:Option Value→Bool
 |some (.builtin s)=>s=="ValueError.__new__"
 |_=>false
def wu:Value→Bool
 |.type s=>s=="type"
 |_=>false
def fM(K:PySem.W.Frag)(C:Addr):Bool:=match K.lookup C with
 |some ⟨ty,_,.cls cd,⟨[_,_,_,_,k,_]⟩⟩=>wu ty&&isNew k&&nsB K cd.ns&&!cd.hasDel&&(match cd.mro with |v::tl=>isRef C v&&lw K tl |[]=>false)
 |_=>false
theorem O1 {K:PySem.W.Frag} {C:Addr} {h:Heap} {mg:Str→Option Value} {x:Str} (KX:K.In h) (b:fM K C=true) (hm:mg x=some (.ref C)):OwnClsQ x C veM "ValueError.__new__" mg h:=by
 unfold fM at b
 split at b
 ·rename_i ty dd cd k0 k1 k2 k3 k k5 e
  simp only[Bool.and_eq_true]at b
  obtain ⟨⟨⟨⟨b1,b2⟩,b3⟩,b5⟩,b4⟩:=b
  obtain ⟨m,hns,hq⟩:=wg KX b3
  have e1:ty=.type "type":=by
   unfold wu at b1
   split at b1
   ·rw[beq_iff_eq]at b1;rw[b1]
   ·cases b1
  have e2:k=some (.builtin "ValueError.__new__"):=by
   unfold isNew at b2
   split at b2
   ·rw[beq_iff_eq]at b2;rw[b2]
   ·cases b2
  obtain ⟨nm,bs,mro,ns,q,hd,sn,sub,ab,col,del⟩:=cd
  dsimp only at b4 hns b5
  have e4:del=false:=by simpa using b5
  subst e4
  split at b4
  ·rename_i v tl
   rw[Bool.and_eq_true]at b4
   have e3:v=.ref C:=by
    have:=b4.1
    unfold isRef at this
    split at this
    ·rw[beq_iff_eq]at this;rw[this]
    ·cases this
   subst e1 e2 e3
   exact ⟨hm,tl,ns,nm,q,bs,hd,sn,sub,ab,col,dd,k0,k1,k2,k3,k5,m,KX _ _ e,hns,hq,wk KX b4.2⟩
  ·cases b4
 ·cases b
theorem O2{h:Heap}{bmB bm:List Value}(t:OwnTail h bmB bm){v:Value}(hv:bmB.contains v=true):bm.contains v=true:=by
 induction t with
 |base=>exact hv
 |own _ _ _ _ ih=>rw[List.contains_cons,ih,Bool.or_true]
theorem wy{h h':Heap}(k:∀b o,h.get? b=some o→h'.get? b=some o){N:Addr}{m:Str→Option Value}(n:h.Ns N m):h'.Ns N m:=by
 obtain ⟨o,es,ep,e,r⟩:=n
 exact ⟨o,es,ep,k _ _ e,r⟩
theorem O3{h h':Heap}(k:∀b o,h.get? b=some o→h'.get? b=some o){bmB bm:List Value}(t:OwnTail h bmB bm):OwnTail h' bmB bm:=by
 induction t with
 |base=>exact .base
 |own e n i _ ih=>exact .own (k _ _ e) (wy k n) i ih
section
variable {X:Cx}
abbrev TJ:=St→Hp→(Hp→Prop)→Prop
def PJ(X:Cx)(es:List Expr)(t:TJ)(n:Nat):Prop:=∀(pins:List (Addr×Obj))(s:Shared)(σ:St)(H:Hp)(Q:Hp→Prop)(out:Str),Inv X pins σ H s→out.length+n≤100000→t σ H Q→
 wpAny (model X.prog X.w) X.A (joinParts out (evalEach es X.env)) (EP X pins σ fun v H'=>(∃x,v=.str x)∧Q H') X.xe s
theorem O4:PJ X [] (fun _ H Q=>Q H) 0:=fun pins s σ H Q out I hl q=>by
 refine joinParts_nil ⟨.str out,H,I.tok _,⟨_,rfl⟩,⟨_,rfl⟩,q⟩ ?_
 have:sizeLine≥100000:=by decide
 omega
theorem lz(x y:Str):(x++y).length=x.length+y.length:=by
 show (x.cps++y.cps).size=_
 rw[Array.size_append];rfl
theorem O5{y:Str}{k:Nat}{p:Pos}{es:List Expr}{t:TJ}{n:Nat}(h:PJ X es t n):PJ X (.Constant (.str y) k p::es) t (y.length+n):=fun pins s σ H Q out I hl q=>by
 have hz:sizeLine≥100000:=by decide
 refine joinParts_consE (joinParts_cons (Calls.Constant_str ?_))
 dsimp only
 refine ⟨by rw[lz];omega,h pins _ σ H Q _ (I.tok _) (by rw[lz];omega) q⟩
theorem digits_le:∀n:Fin 100,(Str.ofString (toString (n.val:Int))).length≤3:=by decide +kernel
theorem O6{e:Expr}{te:TE}{p:Pos}{es:List Expr}{t:TJ}{n:Nat}(he:PE X e te)(h:PJ X es t n):PJ X (.FormattedValue e (-1) none p::es) (fun σ H Q=>te σ H fun v H1=>(∃m:Nat,v=.int m∧m < 100)∧t σ H1 Q) (3+n):=fun pins s σ H Q out I hl q=>by
 have hz:sizeLine≥100000:=by decide
 refine joinParts_consE (joinParts_cons (FormattedValue_plain (thn (he pins s σ H _ I q) fun v s1 hy=>?_)))
 obtain ⟨x,H1,I1,r1,⟨m,rfl,hm⟩,q1⟩:=hy
 obtain ⟨tk,rfl⟩:=r1
 have hd:(Str.ofString (toString (m:Int))).length≤3:=digits_le ⟨m,hm⟩
 refine formatField_int_small ?_ ?_
 ·have:(m:Int).natAbs=m:=Int.natAbs_natCast m
  rw[this]
  exact Nat.lt_of_le_of_lt (Nat.log2_le_self m) (by omega)
 ·dsimp only
  exact ⟨by rw[lz];omega,h pins _ σ H1 Q _ ((I1.tok _)) (by rw[lz];omega) q1⟩
theorem O7{v1 v2:Expr}{es:List Expr}{t:TJ}{n:Nat}{pos:Pos}(h:PJ X (v1::v2::es) t n)(hn:n≤100000):PE X (.JoinedStr (v1::v2::es) pos) (fun σ H Q=>t σ H fun H1=>∀x,Q (.str x) H1):=fun pins s σ H Q I q=>by
 refine JoinedStr_many ?_
 refine wpAny_mono (h pins s σ H _ Str.empty I (by show 0+n≤_;omega) q) (fun v s1 hy=>?_) fun _ _ z=>z
 obtain ⟨x,H1,I1,r1,⟨y,rfl⟩,q1⟩:=hy
 exact ⟨_,H1,I1,r1,q1 y⟩
def Throws(X:Cx)(E:XK):Prop:=∀(pins:List (Addr×Obj))(σ:St)(H:Hp)(s:Shared)(h':Heap)(a:Addr)(c:Value)(args:List Value),Inv X pins σ H s→s.heap.MadeExcOf h' a c args→E c none H→X.xe (.ref a) { s with heap:=h' }
theorem O8{E:XK}(hst:X.stack=X.env::X.outer)(hex:X.ex=[])(hxe:∀e s',wpAny (model X.prog X.w) X.A (leaving X.env e) (fun _ s''=>CX1 X.prog X.w X.outer X.H₀ X.s₀ E e s'') (fun e' s''=>CX1 X.prog X.w X.outer X.H₀ X.s₀ E e' s'') s'→X.xe e s'):Throws X E:=
 fun _ _ _ _ _ _ _ _ I m q=>hxe _ _ (Oz I hst hex m q)
theorem wz{x:Str}{C:Addr}{np cpos pos:Pos}{e:Expr}{es:List Expr}{ta:TA}{E:XK}(hc:X.calm=true)(hg:Gl X x)(hm:X.mg x=some (.ref C))(hb:fM X.K C=true)(hE:Throws X E)(ha:PA X (e::es) ta)
  (hdb:(x==("__debug__":Str))=false:=by decide) (he:starEach (e::es) X.env=(false,eval e X.env)::starEach es X.env:=by rfl) (hpl:(backTo cpos (starEach es X.env)).any (·.1)=false:=by rfl):
  PS X (.Raise (some (.Call (.Name x np) (e::es) [] cpos)) none pos) (fun _ σ H=>ta σ H fun vs H1=>vs.length≤sizeLine∧E (.ref C) none H1):=by
 intro pins s σ H D I h
 have kb:=I.ok.mod.kin
 obtain ⟨bm,N,nm,q,bs,hd,sn,sub,ab,col,dd,k0,k1,k2,k3,k5,mN,b1,b2,b3,b4⟩:=(O1 kb hb hm:OwnClsQ x C veM "ValueError.__new__" X.mg X.base).own.obj
 refine wpAny_Raise_call_subT (nm:=nm) (q:=q) (N:=N) (bs:=bs) (hdct:=hd) (sn:=sn) (sub:=sub) (ab:=ab) (col:=col) (dd:=dd) (k0:=k0) (k1:=k1) (k2:=k2) (k3:=k3) (k5:=k5) (F.excBase_ValueError) (O2 b4 (by decide)) (I.ok.hd hc) ?_ b3 (fK I hg hm ⟨rfl,?_⟩ hdb)
 ·rw[he]
  exact hpl
 ·have hsp:=ha cpos pins s σ H _ I h
  rw[he]at hsp ⊢
  refine Calls.evalArgs_plain (wpAny_mono hsp (fun vs s2 hy=>?_) fun _ _ z=>z)
  obtain ⟨ws,H2,I2,r2,hl,q2⟩:=hy
  refine ⟨rfl,by rw[←r2.length];exact hl,I2.bk _ _ b1,wy I2.bk b2,O3 I2.bk b4,fun h' a m=>hE pins σ H2 s2 h' a _ _ I2 m q2⟩
end
end L2
namespace L2
open PySem PySem.Spec PyProof.Rows
section
variable {X:Cx}
abbrev Cx.marked(X:Cx)(a:Addr)(E:Value→Shared→Prop):Cx:={ X with A:=X.A.mark (some (.ref a)),calm:=false,xe:=E }
theorem Cx.Ok.marked{X:Cx}(ok:X.Ok)(a:Addr)(E:Value→Shared→Prop):(X.marked a E).Ok:=
 ⟨ok.mod,ok.kind,ok.glob,ok.blt,ok.above,ok.inj,ok.has,ok.cab,fun h=>(by cases h),ok.frames,ok.stk,ok.exf,ok.bs,ok.bsz,ok.noex,ok.exfs,ok.funs,ok.frf⟩
variable {pins:List (Addr×Obj)} {σ:St} {H:Hp} {s:Shared}
theorem Inv.marked(I:Inv X pins σ H s)(a:Addr)(E:Value→Shared→Prop):Inv (X.marked a E) pins σ H s:=⟨I.ok.marked a E,I.os,I.bare,I.base,I.loc,I.cell,I.free,I.freeC,I.pin,I.hok,I.len⟩
theorem Inv.unmarked{a:Addr}{E:Value→Shared→Prop}(I:Inv (X.marked a E) pins σ H s)(ok:X.Ok):Inv X pins σ H s:=⟨ok,I.os,I.bare,I.base,I.loc,I.cell,I.free,I.freeC,I.pin,I.hok,I.len⟩
theorem SP.unmarked{a:Addr}{E:Value→Shared→Prop}{D:Ends}{f:Flow}{s':Shared}(ok:X.Ok)(h:SP (X.marked a E) pins D f s'):SP X pins D f s':=by
 cases f with
 |next=>obtain ⟨σ',H',I,q⟩:=h;exact ⟨σ',H',I.unmarked ok,q⟩
 |brk=>obtain ⟨σ',H',I,q⟩:=h;exact ⟨σ',H',I.unmarked ok,q⟩
 |cont=>obtain ⟨σ',H',I,q⟩:=h;exact ⟨σ',H',I.unmarked ok,q⟩
 |ret u=>obtain ⟨v,σ',H',I,r,q⟩:=h;exact ⟨v,σ',H',I.unmarked ok,r,q⟩
structure Caught(X:Cx)(H:Hp)(s:Shared)(H':Hp)(a:Addr)(c:Value)(s':Shared):Prop where
 os:s'.os=s.os
 bare:AllBare s'.gens
 un:Un (frs X.stack) [] H H' s.heap s'.heap
 hok:HOk X.prog X.w H' s'.heap
 tr:Tr s.heap H' s'.heap a c
variable {H':Hp} {a:Addr} {c:Value} {s':Shared}
theorem Caught.inv(K:Caught X H s H' a c s')(I:Inv X pins σ H s):Inv X pins σ H' s':=I.call' (ch:=[]) K.os K.un K.hok K.bare (fun b z=>absurd z (by simp))
theorem Caught.left(K:Caught X H s H' a c s')(I:Inv X pins σ H s){T:Addr}{h':Heap}{l:List Env}(hT:s.heap.get? T=none∧H' T=none)(L:(holes s'.heap (frs X.stack++a::[T])).Left l a c s'.heap h'):Caught X H s H' a c { s' with heap:=h' }:=by
 have J:=K.inv I
 obtain ⟨_,_,_,_,_,_,_,_,_,_,_,_,_,n1,_,n3,_⟩:=K.tr
 obtain ⟨u,k,t⟩:=v6 K.un K.hok (fun b hb=>hb) (fun b o _ hn=>hn) (fun b hb=>⟨J.stkFree b hb,ql J.stack b hb⟩) n1 n3 (fun x hx=>by rw[List.mem_singleton.mp hx];exact hT) L
 exact ⟨K.os,K.bare,u,k,t⟩
theorem Caught.note(K:Caught X H s H' a c s')(I:Inv X pins σ H s)(hst:X.stack=X.env::X.outer){Q:Shared→Prop}{E1 E2:Value→Shared→Prop}(hQ:∀h2,Caught X H s H' a c { s' with heap:=h2 }→Q { s' with heap:=h2 }):
  wpAny (model X.prog X.w) X.A (noteFrame (.ref a) X.env) (fun _ s2=>wpAny (model X.prog X.w) X.A (setFlight (.ref a) none) (fun _ s3=>Q s3) E1 s2) E2 s':=by
 have J:=K.inv I
 obtain ⟨oe,vs,T,oT,ts,t1,t2,t3,t4,t6,t7,t8,t9,n1,n2,n3,n4⟩:=K.tr
 have hfr:=J.stack
 rw[hst]at hfr
 obtain ⟨L,hL⟩:=qm hfr
 have sub:∀b∈frs (X.env::X.outer),b∈frs X.stack++a::[T]:=fun b hb=>by rw[hst];exact List.mem_append_left _ hb
 obtain ⟨a0,h0⟩:∃a0,vs[0]?=some a0:=by
  obtain ⟨hi,_⟩:=Array.getElem?_eq_some_iff.mp t4
  exact ⟨vs[0],Array.getElem?_eq_getElem (by omega)⟩
 refine wpAny_noteFrame_onW (base:=holes s'.heap (frs X.stack++a::[T])) (cls:=c) (a0:=a0) (by rw[J.ok.frames,hst]) (iQ hfr sub) hL ?_ lu (eO (by simp)) fun h1 hn=>?_
 ·exact ⟨oe,vs,T,oT,ts,t1,⟨t2,h0⟩,t3,t4,eO (by simp),t6,t7,t8,t9⟩
 ·obtain ⟨m1,m2,m3,m4⟩:=hn
  refine wpAny_setFlight_noneW m1 m2 m3 fun h2 p1 p2 p3 p4=>?_
  refine hQ h2 (K.left I ⟨n2,n4⟩ (l:=X.env::X.outer) ⟨p1,p2,?_,fun b o e d=>?_⟩)
  ·obtain ⟨oe,vs,T,oT,ts,t1,⟨t2,_⟩,r⟩:=p3
   exact ⟨oe,vs,T,oT,ts,t1,t2,r⟩
  ·obtain ⟨sl,e'⟩:=m4 b o e d
   exact ⟨sl,p4 b _ e' d⟩
theorem Caught.flight(K:Caught X H s H' a c s')(I:Inv X pins σ H s){A:Around}{Q:Shared→Prop}{E1:Value→Shared→Prop}(hQ:∀h2,Caught X H s H' a c { s' with heap:=h2 }→Q { s' with heap:=h2 }):
  wpAny (model X.prog X.w) A (setFlight (.ref a) none) (fun _ s3=>Q s3) E1 s':=by
 have J:=K.inv I
 obtain ⟨oe,vs,T,oT,ts,t1,t2,t3,t4,t6,t7,t8,t9,n1,n2,n3,n4⟩:=K.tr
 obtain ⟨a0,h0⟩:∃a0,vs[0]?=some a0:=by
  obtain ⟨hi,_⟩:=Array.getElem?_eq_some_iff.mp t4
  exact ⟨vs[0],Array.getElem?_eq_getElem (by omega)⟩
 refine wpAny_setFlight_noneW (base:=holes s'.heap (frs X.stack++a::[T])) (l:=X.stack) (cls:=c) (a0:=a0) (fl:=.none) lu (iQ J.stack fun b hb=>List.mem_append_left _ hb) ?_ fun h2 p1 p2 p3 p4=>?_
 ·exact ⟨oe,vs,T,oT,ts,t1,⟨t2,h0⟩,t3,t4,eO (by simp),t6,t7,t8,t9⟩
 ·refine hQ h2 (K.left I ⟨n2,n4⟩ (l:=X.stack) ⟨p1,p2,?_,fun b o e d=>⟨o.slots,p4 b o e d⟩⟩)
  obtain ⟨oe,vs,T,oT,ts,t1,⟨t2,_⟩,r⟩:=p3
  exact ⟨oe,vs,T,oT,ts,t1,t2,r⟩
end
end L2
namespace L2
open PySem PySem.Spec PyProof.Rows
open Builtin Builtin.ObjectAttr Builtin.Getset_descriptor
open PySem.W (findIn mroIn clsIn typeIn Looks InstAt looks_findIn looks_mroIn looks_typeIn)
def wA(K:PySem.W.Frag)(D:Addr):Bool:=
 findIn K (.ref D) "__class__"==some (some (.builtin "object.__class__"))&&findIn K (.ref D) "__getattribute__"==some (some (.builtin "BaseException.__getattribute__"))&&findIn K (.ref D) "__getattr__"==some none &&
  mroIn K D (.type "object")==some true&&mroIn K D (.type "BaseException")==some true&&(clsIn K D).isSome
section
variable {prog:Program} {w:World} {A:Around} {E:Value→Shared→Prop} {h:Heap} {g:Array GenState} {d:Drawn} {t:Nat} {os:OsState} {a:Addr} {o:Obj} {K:PySem.W.Frag} {D:Addr}
end
end L2
namespace L2
open PySem PySem.Spec PyProof.Rows
open PySem.W (findIn mroIn clsIn typeIn Looks looks_findIn looks_mroIn looks_typeIn)
section
variable {X:Cx}
def XO(H:Hp)(a c:Addr):Prop:=∃o y,H a=some (.frz o (.own y))∧o.cls=.ref c
def valOf:V→Value
 |.ref a=>.ref a
 |.ty n=>.type n
 |_=>.none
end
section
variable {M:Model} {A:Around} {E:Value→Shared→Prop} {h:Heap} {g:Array GenState} {d:Drawn} {t:Nat} {os:OsState} {e:Addr} {oe:Obj} {K:PySem.W.Frag} {D C:Addr}
theorem wB {Q:Bool→Shared→Prop} (X:K.In h) (he:h.get? e=some oe) (hcls:oe.cls=.ref D) (hC:typeIn K (.ref C)=some (.type "type")) (hk:(clsIn K C).isSome=true) (hB:mroIn K C (.type "BaseException")=some true) (hm:mroIn K D (.ref C)=some true)
  (hq:Q true ⟨h,g,d,t,os⟩):wpAny M A (excMatches (.ref e) (.ref C)) Q E ⟨h,g,d,t,os⟩:=by
 have f:=tc_notTuple
 have L0:=looks_typeIn (M:=M) X hC
 have L1:=looks_mroIn (M:=M) X hB
 have L2:=looks_mroIn (M:=M) X hm
 unfold clsIn at hk
 split at hk
 ·rename_i c' d' cd' sl' ho
  have hoC:=X _ _ ho
  unfold excMatches
  have hC2:(K.lookup C).map (·.cls)=some (.type "type"):=hC
  rw[ho]at hC2
  have ec:c'=.type "type":=by simpa using hC2
  subst ec
  repeat (first | (with_reducible refine wpAny_loadPart_at he ?_;rw[hcls]) |with_reducible refine wpAny_loadPart_at hoC ?_ |with_reducible refine L1.at ?_ |with_reducible refine L2.at ?_ |wp_step)
  exact hq
 ·cases hk
end
section
variable {X:Cx} {pins:List (Addr×Obj)} {σ:St} {H:Hp} {s:Shared}
theorem Inv.tell(I:Inv X pins σ H s){a:Addr}{o:Obj}{vs:Array Value}(h0:X.s₀.heap.get? a=none)(hH:H a=none)(ho:s.heap.get? a=some o)(hd:o.data=.fields vs)(hp:∀p∈X.pn++pins,p.1≠a):
  Inv X pins σ (upd H a (.frz o (.own a))) s:=by
 have nl:X.env.locals≠a:=by
  intro e
  obtain ⟨m,⟨o',es,ep,e1,e2,_⟩,_⟩:=I.loc
  rw[e,ho]at e1
  cases e1
  rw[hd]at e2
  cases e2
 have nc:∀x c,X.env.cells.lookup x=some c→c≠a:=by
  intro x c hc e
  obtain ⟨v,o',e1,e2⟩:=I.cell x c hc
  rw[e,ho]at e1
  cases e1
  rw[hd]at e2
  cases e2
 refine ⟨I.ok,I.os,I.bare,⟨I.base.keep,I.base.slot,fun b u q n hx=>?_,I.base.there,fun b xs q=>?_,fun b u v q=>?_,fun b ps q=>?_⟩,I.loc,I.cell,by rw[aC nl];exact I.free,fun x c e=>by rw[aC (nc x c e)];exact I.freeC x c e,fun p hpp=>?_,fun b u q=>?_,I.len⟩
 ·rw[aC (fun e=>by rw[e,h0]at q;cases q)];exact I.base.free b u q n hx
 ·have q':=I.base.tups b xs q
  rw[aC (aU q' hH)];exact q'
 ·have q':=I.base.frzs b u v q
  rw[aC (aU q' hH)];exact q'
 ·obtain ⟨m,q'⟩:=I.base.tbls b ps q
  exact ⟨m,by rw[aC (aU q' hH)];exact q'⟩
 ·obtain ⟨p1,p2,p3⟩:=I.pin p hpp
  exact ⟨p1,by rw[aC (hp p hpp)];exact p2,p3⟩
 ·by_cases hb:b=a
  ·subst hb
   rw[cT]at q
   cases q
   exact ⟨ho,o,ho⟩
  ·rw[aC hb]at q
   exact (I.hok b u q).stay (fun _ _ _ z=>z) (fun c z=>by rw[aC (aU z hH)];exact z) fun c xs z=>by rw[aC (aU z hH)];exact z
end
section
variable {X:Cx}
abbrev TX:=(St→Hp→Prop)→(Value→St→Hp→Prop)→St→Hp→Prop
def XP(X:Cx)(pins:List (Addr×Obj))(ex:Value→St→Hp→Prop)(σ:St)(e:Value)(s1:Shared):Prop:=∃a c H1 s0 H',e=.ref a∧Inv X pins σ H1 s0∧Caught X H1 s0 H' a c s1∧ex c σ H'
def NP(X:Cx)(pins:List (Addr×Obj))(nx:St→Hp→Prop)(f:Flow)(s1:Shared):Prop:=f=.next∧∃σ' H',Inv X pins σ' H' s1∧nx σ' H'
def PXs(X:Cx)(sts:List Stmt)(t:TX):Prop:=
 ∀(pins:List (Addr×Obj))(s:Shared)(σ:St)(H:Hp)(nx:St→Hp→Prop)(ex:Value→St→Hp→Prop)(E':Value→Shared→Prop),Inv X pins σ H s→PassesOwn (model X.prog X.w) X.A X.env E'→(∀e s1,XP X pins ex σ e s1→E' e s1)→t nx ex σ H→
  wpAny (model X.prog X.w) X.A (execs sts X.env) (NP X pins nx) E' s
theorem O9{k:Nat}{f:Addr}{fd:FuncData}{ps:List Str}{sp:Sp}{x:Str}{p cpos p0:Pos}{e:Expr}{es:List Expr}{ta:TA}
  (F:FnOk X.prog X.w X.K X.mg X.base (CX1 X.prog X.w) k f fd ps sp) (hr:Room k X.A) (hg:Gl X x) (hm:X.mg x=some (.ref f)) (hk:PySem.W.keepIn X.K (.ref f)=true) (hbd:Binds X.K fd ps [])
  (ha:∀E':Value→Shared→Prop,PassesOwn (model X.prog X.w) X.A X.env E'→PA (X.wish E') (e::es) ta)
  (hs:swapsWith (.Call (.Name x p) (e::es) [] cpos) none p0.line X.env=pure false)
  (hdb:(x==("__debug__":Str))=false:=by decide) (he:starEach (e::es) X.env=(false,eval e X.env)::starEach es X.env:=by rfl) (hpl:(backTo cpos (starEach es X.env)).any (·.1)=false:=by rfl):
  PXs X [.Expr (.Call (.Name x p) (e::es) [] cpos) p0] (fun nx ex σ H=>ta σ H fun vs H1=>sp vs H1 (fun _ H2=>nx σ H2) (fun c _ H2=>ex c σ H2)):=by
 intro pins s σ H nx ex E' I hpo hE h
 refine wpAny_execs_cons (wpAny_Expr_any (wpAny_Call_Name_kw (fK (X:=X.wish E') (I.wish E') hg hm ?_ hdb)) I.quiet hs)
 refine PySem.W.callWith_K (h₀:=X.base) I.ok.mod.kin hk (thn (ha _ hpo cpos pins s σ H _ (I.wish _) h) fun us s1 hy=>?_) he hpl
 obtain ⟨vs,H1,I1,r,q⟩:=hy
 have I1:=I1.unwish
 refine ⟨I1.kIn,?_⟩
 have hl:us.length=ps.length:=by rw[←r.length];exact F.len _ _ _ _ q
 have hb2:=hbd s1 us I1.kIn (by rw[List.append_nil];exact hl)
 rw[List.append_nil]at hb2
 refine wpAny_call (codeAny_mono (F.run X.A X.stack s1 H1 ⟨us,[]⟩ us vs _ _ hr I1.env0 hb2 r q) fun rr s2 hq=>?_)
 cases rr with
 |error ev=>
  obtain ⟨a,c,H2,rfl,ho,hgn,un,hok,tr,qn⟩:=hq
  exact hE _ _ ⟨a,c,H1,s1,H2,rfl,I1,⟨ho,hgn,un,hok,tr⟩,qn⟩
 |ok fl=>
  cases fl with
  |ret u=>
   obtain ⟨v,H2,I2,r2,q2⟩:=I1.after hq
   exact wpAny_execs_nil ⟨rfl,σ,H2,I2,q2⟩
  |next=>exact False.elim hq
  |brk=>exact False.elim hq
  |cont=>exact False.elim hq
theorem Pa{k:Nat}{f:Addr}{fd:FuncData}{ps:List Str}{sp:Sp}{x y:Str}{i:Nat}{p cpos p0 p2:Pos}{e:Expr}{es:List Expr}{ta:TA}
  (F:FnOk X.prog X.w X.K X.mg X.base (CX1 X.prog X.w) k f fd ps sp) (hr:Room k X.A) (hg:Gl X x) (hm:X.mg x=some (.ref f)) (hk:PySem.W.keepIn X.K (.ref f)=true) (hbd:Binds X.K fd ps [])
  (hN:X.N.Nodup) (hi:X.N[i]?=some y) (hx:Loc X.env.scope y) (hf:X.fn y=true∨X.env.scope.names.lookup y=some .local)
  (ha:∀E':Value→Shared→Prop,PassesOwn (model X.prog X.w) X.A X.env E'→PA (X.wish E') (e::es) ta)
  (hs:swapsWith (.Call (.Name x p) (e::es) [] cpos) (some (.Name y p2)) p0.line X.env=pure false)
  (hdb:(x==("__debug__":Str))=false:=by decide) (he:starEach (e::es) X.env=(false,eval e X.env)::starEach es X.env:=by rfl) (hpl:(backTo cpos (starEach es X.env)).any (·.1)=false:=by rfl):
  PXs X [.Assign [.Name y p2] (.Call (.Name x p) (e::es) [] cpos) p0] (fun nx ex σ H=>ta σ H fun vs H1=>sp vs H1 (fun v H2=>nx (σ.set i (some v)) H2) (fun c _ H2=>ex c σ H2)):=by
 intro pins s σ H nx ex E' I hpo hE h
 refine wpAny_execs_cons (wpAny_Assign_Name (wpAny_Call_Name_kw (fK (X:=X.wish E') (I.wish E') hg hm ?_ hdb)) hs)
 refine PySem.W.callWith_K (h₀:=X.base) I.ok.mod.kin hk (thn (ha _ hpo cpos pins s σ H _ (I.wish _) h) fun us s1 hy=>?_) he hpl
 obtain ⟨vs,H1,I1,r,q⟩:=hy
 have I1:=I1.unwish
 refine ⟨I1.kIn,?_⟩
 have hl:us.length=ps.length:=by rw[←r.length];exact F.len _ _ _ _ q
 have hb2:=hbd s1 us I1.kIn (by rw[List.append_nil];exact hl)
 rw[List.append_nil]at hb2
 refine wpAny_call (codeAny_mono (F.run X.A X.stack s1 H1 ⟨us,[]⟩ us vs _ _ hr I1.env0 hb2 r q) fun rr s2 hq=>?_)
 cases rr with
 |error ev=>
  obtain ⟨a,c,H2,rfl,ho,hgn,un,hok,tr,qn⟩:=hq
  exact hE _ _ ⟨a,c,H1,s1,H2,rfl,I1,⟨ho,hgn,un,hok,tr⟩,qn⟩
 |ok fl=>
  cases fl with
  |ret u=>
   obtain ⟨v,H2,I2,r2,q2⟩:=I1.after hq
   exact iI I2 hN hi hx r2 (fun s3 I3=>wpAny_execs_nil ⟨rfl,_,H2,I3,q2⟩) hf
  |next=>exact False.elim hq
  |brk=>exact False.elim hq
  |cont=>exact False.elim hq
theorem Pb{c:Expr}{a b:List Stmt}{pos:Pos}{tc:TT}{ta tb:TX}(hc:∀E':Value→Shared→Prop,PassesOwn (model X.prog X.w) X.A X.env E'→PT (X.wish E') c tc)(ha:PXs X a ta)(hb:PXs X b tb):
  PXs X [.If c a b pos] (fun nx ex σ H=>tc σ H fun d H1=>if d=true then ta nx ex σ H1 else tb nx ex σ H1):=by
 intro pins s σ H nx ex E' I hpo hE h
 refine wpAny_execs_cons (wpAny_If (thn (hc E' hpo pins s σ H _ (I.wish _) h) fun d s1 ⟨H1,I1,q1⟩=>?_))
 have I1:=I1.unwish
 have fin:∀f s2,NP X pins nx f s2→(match f with |.next=>wpAny (model X.prog X.w) X.A (execs [] X.env) (NP X pins nx) E' s2 |f=>NP X pins nx f s2):=by
  rintro f s2 ⟨rfl,q⟩
  exact wpAny_execs_nil ⟨rfl,q⟩
 cases d with
 |true=>exact thn (ha pins s1 σ H1 nx ex E' I1 hpo hE q1) fin
 |false=>exact thn (hb pins s1 σ H1 nx ex E' I1 hpo hE q1) fin
theorem Pg{prog:Program}{w:World}{A:Around}{E:Value→Shared→Prop}{s:Shared}{env:Env}{K:PySem.W.Frag}{e C D:Addr}{t:Expr}{b₀:Stmt}{suite:List Stmt}{pos:Pos}{rest:List ExceptHandler}{Q:Flow→Shared→Prop}
  (hC:typeIn K (.ref C)=some (.type "type")) (hk:(clsIn K C).isSome=true) (hB:mroIn K C (.type "BaseException")=some true) (hm:mroIn K D (.ref C)=some true)
  (h:wpAny (model prog w) (A.mark (some (.ref e))) (eval t env) (fun c s₁=>c=.ref C∧K.In s₁.heap∧(∃oe,s₁.heap.get? e=some oe∧oe.cls=.ref D)∧
   wpAny (model prog w) (A.mark (some (.ref e))) (setFlight (.ref e) none) (fun _ s₂=>wpAny (model prog w) (A.mark (some (.ref e))) (execs (b₀::suite) env) Q (notedBy (model prog w) (A.mark (some (.ref e))) env (cameBackBy (model prog w) A env E)) s₂) (notedBy (model prog w) (A.mark (some (.ref e))) env (cameBackBy (model prog w) A env E)) s₁) (notedBy (model prog w) (A.mark (some (.ref e))) env (cameBackBy (model prog w) A env E)) s):
  wpAny (model prog w) A (handleBy (.ref e) env (.ExceptHandler (some t) none (b₀::suite) pos::rest)) Q E s:=by
 refine wpAny_handleBy_cons (codeAny_handlers_test (wpAny_mono h (fun c s₁ h₁=>?_) fun _ _ y=>y)) (by intro q;cases q)
 obtain ⟨rfl,O,⟨oe,he,hcls⟩,hkk⟩:=h₁
 obtain ⟨hh,g,d,tk,os⟩:=s₁
 exact wB O he hcls hC hk hB hm (codeAny_handlers_suite hkk)
theorem Ph{prog:Program}{w:World}{A:Around}{E:Value→Shared→Prop}{s:Shared}{env:Env}{K:PySem.W.Frag}{e C D:Addr}{t:Expr}{n:Str}{b₀:Stmt}{suite:List Stmt}{pos:Pos}{rest:List ExceptHandler}{Q:Flow→Shared→Prop}
  (hC:typeIn K (.ref C)=some (.type "type")) (hk:(clsIn K C).isSome=true) (hB:mroIn K C (.type "BaseException")=some true) (hm:mroIn K D (.ref C)=some true)
  (h:wpAny (model prog w) (A.mark (some (.ref e))) (eval t env) (fun c s₁=>c=.ref C∧K.In s₁.heap∧(∃oe,s₁.heap.get? e=some oe∧oe.cls=.ref D)∧
   wpAny (model prog w) (A.mark (some (.ref e))) (setFlight (.ref e) none) (fun _ s₂=>
     wpAny (model prog w) (A.mark (some (.ref e))) (storeName env n (.ref e)) (fun _ s₃=>
      wpAny (model prog w) (A.mark (some (.ref e))) (execs (b₀::suite) env)
       (fun f s₄=>wpAny (model prog w) A (do bindName env n .none;unbindBehindTheSuite env n pos) (fun _ s₅=>Q f s₅) E s₄)
       (AsSuiteRaised (model prog w) (A.mark (some (.ref e))) env n pos (notedBy (model prog w) (A.mark (some (.ref e))) env (cameBackBy (model prog w) A env E))) s₃) (notedBy (model prog w) (A.mark (some (.ref e))) env (cameBackBy (model prog w) A env E)) s₂) (notedBy (model prog w) (A.mark (some (.ref e))) env (cameBackBy (model prog w) A env E)) s₁) (notedBy (model prog w) (A.mark (some (.ref e))) env (cameBackBy (model prog w) A env E)) s):
  wpAny (model prog w) A (handleBy (.ref e) env (.ExceptHandler (some t) (some n) (b₀::suite) pos::rest)) Q E s:=by
 refine wpAny_handleBy_cons (codeAny_handlers_test (wpAny_mono h (fun c s₁ h₁=>?_) fun _ _ y=>y)) (by intro q;cases q)
 obtain ⟨rfl,O,⟨oe,he,hcls⟩,hkk⟩:=h₁
 obtain ⟨hh,g,d,tk,os⟩:=s₁
 exact wB O he hcls hC hk hB hm (codeAny_handlers_suite_as hkk)
structure Cat(K:PySem.W.Frag)(C:Addr):Prop where
 t:typeIn K (.ref C)=some (.type "type")
 c:(clsIn K C).isSome=true
 b:mroIn K C (.type "BaseException")=some true
def lA (K:PySem.W.Frag) (C:Addr):Bool:=typeIn K (.ref C)==some (.type "type")&&(clsIn K C).isSome&&mroIn K C (.type "BaseException")==some true
theorem Pj{K:PySem.W.Frag}{C:Addr}(h:lA K C=true):Cat K C:=by
 unfold lA at h
 rw[Bool.and_eq_true,Bool.and_eq_true,beq_iff_eq,beq_iff_eq]at h
 exact ⟨h.1.1,h.1.2,h.2⟩
theorem Pk{C:Addr}{cx y:Str}{i:Nat}{b:Bool}{j:Nat}{p1 p2 p3 p4 p5 pos:Pos}{body:List Stmt}{t:TX}(hb:PXs X body t)(hst:X.stack=X.env::X.outer)
  (hcg:Gl X cx) (hcm:X.mg cx=some (.ref C)) (hcb:Cat X.K C) (hN:X.N.Nodup) (hi:X.N[i]?=some y) (hx:Loc X.env.scope y) (hf:X.fn y=true∨X.env.scope.names.lookup y=some .local)
  (hs2:swapsWith (.Constant (.bool b) j p3) (some (.Name y p2)) p4.line X.env=pure false:=by rfl) (hdc:(cx==("__debug__":Str))=false:=by decide):
  PS X (.Try body [.ExceptHandler (some (.Name cx p1)) none [.Assign [.Name y p2] (.Constant (.bool b) j p3) p4] p5] [] [] pos)
   (fun D σ H=>t D.nx (fun c σ' H2=>∃d,c=.ref d∧mroIn X.K d (.ref C)=some true∧D.nx (σ'.set i (some (.bl b))) H2) σ H):=by
 intro pins s σ H D I h
 refine wpAny_Try_except (wpAny_mono (hb pins s σ H _ _ _ I PassesOwn.looking (fun e s1 q=>?_) h) (fun f s1 q=>?_) fun _ _ q=>q)
 ·obtain ⟨a,c,H1,s0,H2,rfl,I1,K,d,rfl,hm,qn⟩:=q
  refine K.note I1 hst fun h3 K3=>Pg (K:=X.K) (C:=C) (D:=d) hcb.t hcb.c hcb.b hm ?_
  have J3:=K3.inv I1
  have hcl:∃oe,h3.get? a=some oe∧oe.cls=.ref d:=by
   obtain ⟨oe,_,_,_,_,t1,t2,_⟩:=K3.tr
   exact ⟨oe,t1,t2⟩
  refine fK (X:=X.marked a X.xe) (J3.marked a X.xe) hcg hcm ⟨rfl,J3.kIn,hcl,?_⟩ hdc
  refine K3.flight I1 fun h4 K4=>?_
  have J4:=K4.inv I1
  exact wpAny_mono (uP (kW (X:=X.marked a _) hN hi hx uM hs2 hf) pins _ σ H2 D (J4.marked a _) qn) (fun f s5 z=>z.unmarked J4.ok) fun _ _ z=>z
 ·obtain ⟨rfl,σ',H',I',q'⟩:=q
  exact wpAny_execs_nil ⟨σ',H',I',q'⟩
theorem Pn{M:Model}{A:Around}{E:Value→Shared→Prop}{pins:List (Addr×Obj)}{σ:St}{H:Hp}{s:Shared}{i:Nat}{x:Str}{pos:Pos}{Q:Unit→Shared→Prop}(I:Inv X pins σ H s)(hN:X.N.Nodup)(hi:X.N[i]?=some x)(hk:X.env.kindOf x=some .local)
  (h:∀s',Inv X pins (σ.set i none) H s'→Q () s'):wpAny M A (do bindName X.env x .none;unbindBehindTheSuite X.env x pos) Q E s:=by
 obtain ⟨m,hn,hl⟩:=id I.loc
 have hcls:(X.env.scope.kind==.class||(X.env.scope.kind==.module&&X.env.locals != X.env.globals))=false:=by rw[I.ok.kind];rfl
 have hiσ:i < σ.length:=by rw[I.len];exact (List.getElem?_eq_some_iff.mp hi).1
 have cne:=I.cne
 have tracked:∀{a:Addr}{h':Heap},(∃o,s.heap.get? a=some o∧H a=none)→Heap.SameBut a s.heap h'→HOk X.prog X.w H h':=fun {a h'} ha hs b ob e=>by
  obtain ⟨_,_,hfree⟩:=ha
  refine (I.hok b ob e).stay (fun c w' hc q=>(hs.2 c ?_).trans q) (fun _ q=>q) fun _ _ q=>q
  rintro rfl
  rcases hc with rfl |hc
  ·rw[hfree]at e;cases e
  ·rw[hfree]at hc;cases hc
 refine wpAny_nameGoes_keeps hk hn hcls fun h' v hn' hs=>?_
 obtain ⟨oL,_,_,hoL,_⟩:=id hn
 refine h _ ⟨I.ok,I.os,I.bare,⟨fun b o e n hb hx=>?_,fun b o e n hb hx=>?_,I.base.free,fun b o e hx=>?_,I.base.tups,I.base.frzs,I.base.tbls⟩,⟨_,hn',fun j y v' e1 e2 e3=>?_⟩,fun y c e=>?_,I.free,I.freeC,fun p hp=>?_,tracked ⟨oL,hoL,I.free⟩ hs,by simpa using I.len⟩
 ·exact (hs.2 b (Nat.ne_of_lt (Nat.lt_of_lt_of_le (Heap.lt_size e) I.ok.above))).trans (I.base.keep b o e n hb hx)
 ·obtain ⟨sl,e1⟩:=I.base.slot b o e n hb hx
  exact ⟨sl,(hs.2 b (Nat.ne_of_lt (Nat.lt_of_lt_of_le (Heap.lt_size e) I.ok.above))).trans e1⟩
 ·obtain ⟨o',e1⟩:=I.base.there b o e hx
  exact ⟨o',(hs.2 b (Nat.ne_of_lt (Nat.lt_of_lt_of_le (Heap.lt_size e) I.ok.above))).trans e1⟩
 ·by_cases hj:j=i
  ·subst hj
   rw[List.getElem?_set_self hiσ]at e2
   cases e2
  ·rw[List.getElem?_set_ne (Ne.symm hj)]at e2
   obtain ⟨u',r',q⟩:=hl j y v' e1 e2 e3
   refine ⟨u',r',?_⟩
   rcases q with ⟨k,e⟩ |⟨k,c,e,z⟩
   ·refine .inl ⟨k,?_⟩
    have:y≠x:=fun e=>hj (pX hN e1 (e ▸ hi))
    simp[this,e]
   ·exact .inr ⟨k,c,e,z.sameBut hs (cne y c e)⟩
 ·obtain ⟨w',z⟩:=I.cell y c e
  exact ⟨w',z.sameBut hs (cne y c e)⟩
 ·obtain ⟨e,n,ne,nf,d⟩:=I.pin p hp
  exact ⟨(hs.2 p.1 ne).trans e,n,ne,nf,d⟩
theorem Pq{C:Addr}{cx y n:Str}{i jn:Nat}{p1 p2 p3 p4 p5 pos:Pos}{body:List Stmt}{t:TX}(hb:PXs X body t)(hst:X.stack=X.env::X.outer)(hex:X.ex=[])
  (hcg:Gl X cx) (hcm:X.mg cx=some (.ref C)) (hcb:Cat X.K C) (hN:X.N.Nodup) (hi:X.N[i]?=some y) (hx:Loc X.env.scope y) (hf:X.fn y=true∨X.env.scope.names.lookup y=some .local)
  (hj:X.N[jn]?=some n) (hnk:X.env.kindOf n=some .local) (hnl:X.env.scope.names.lookup n=some .local) (hnd:(n==("__debug__":Str))=false) (hnc:(n==("__classdict__":Str))=false)
  (hs2:swapsWith (.Name n p3) (some (.Name y p2)) p4.line X.env=pure false) (hdc:(cx==("__debug__":Str))=false:=by decide):
  PS X (.Try body [.ExceptHandler (some (.Name cx p1)) (some n) [.Assign [.Name y p2] (.Name n p3) p4] p5] [] [] pos)
   (fun D σ H=>t D.nx (fun c σ' H2=>∃d,c=.ref d∧mroIn X.K d (.ref C)=some true∧∀a o,H2 a=none→o.cls=.ref d→D.nx (((σ'.set jn (some (.ref a))).set i (some (.ref a))).set jn none) (upd H2 a (.frz o (.own a)))) σ H):=by
 intro pins s σ H D I h
 refine wpAny_Try_except (wpAny_mono (hb pins s σ H _ _ _ I PassesOwn.looking (fun e s1 q=>?_) h) (fun f s1 q=>?_) fun _ _ q=>q)
 ·obtain ⟨a,c,H1,s0,H2,rfl,I1,K,d,rfl,hm,qn⟩:=q
  refine K.note I1 hst fun h3 K3=>Ph (K:=X.K) (C:=C) (D:=d) hcb.t hcb.c hcb.b hm ?_
  have J3:=K3.inv I1
  have hcl:∃oe,h3.get? a=some oe∧oe.cls=.ref d:=by
   obtain ⟨oe,_,_,_,_,t1,t2,_⟩:=K3.tr
   exact ⟨oe,t1,t2⟩
  refine fK (X:=X.marked a X.xe) (J3.marked a X.xe) hcg hcm ⟨rfl,J3.kIn,hcl,?_⟩ hdc
  refine K3.flight I1 fun h4 K4=>?_
  have J4:=K4.inv I1
  obtain ⟨oe,vs,T,oT,ts,t1,t2,t3,t4,t6,t7,t8,t9,n1,n2,n3,n4⟩:=K4.tr
  have n0:X.s₀.heap.get? a=none:=by
   cases e:X.s₀.heap.get? a with
   |none=>rfl
   |some o=>
    obtain ⟨o',e'⟩:=I1.base.there a o e (by rw[hex];simp)
    rw[n1]at e';cases e'
  have J5:=J4.tell n0 n3 t1 t3 (fun p hp e=>by
   obtain ⟨e1,_⟩:=I1.pin p hp
   rw[e,n1]at e1;cases e1)
  have q5:=qn a oe n3 t2
  refine iI (X:=X.marked a X.xe) (J5.marked a X.xe) hN hj (.inl hnl) (v:=.ref a) rfl (fun s6 J6=>?_) (.inr hnl)
  have J6':Inv X pins (σ.set jn (some (.ref a))) (upd H2 a (.frz oe (.own a))) s6:=J6.unmarked J4.ok
  have hl6:jn < σ.length:=by rw[I1.len];exact (List.getElem?_eq_some_iff.mp hj).1
  refine wpAny_mono (uP (kW (X:=X.marked a _) hN hi hx (uL (i:=jn) hj (.inl hnl) hnd hnc) hs2 hf) pins s6 _ _ { nx:=fun σ' H'=>D.nx (σ'.set jn none) H',rt:=fun _ _=>False,bk:=fun _ _=>False,ct:=fun _ _=>False } (J6'.marked a _) ⟨.ref a,List.getElem?_set_self hl6,q5⟩) (fun f s7 z=>?_) fun _ _ z=>z
  have z':=z.unmarked (X:=X) J4.ok
  cases f with
  |next=>
   obtain ⟨σ7,H7,I7,q7⟩:=z'
   exact Pn I7 hN hj hnk fun s8 I8=>⟨_,H7,I8,q7⟩
  |brk=>obtain ⟨_,_,_,q⟩:=z';exact q.elim
  |cont=>obtain ⟨_,_,_,q⟩:=z';exact q.elim
  |ret u=>obtain ⟨_,_,_,_,_,q⟩:=z';exact q.elim
 ·obtain ⟨rfl,σ',H',I',q'⟩:=q
  exact wpAny_execs_nil ⟨σ',H',I',q'⟩
end
end L2
namespace L2
open PySem PySem.SeqAt PySem.Spec PyProof.Rows
section
variable {X:Cx}
theorem qt:∀{bs:List Bool}{us:List Value},Vals (bs.map V.bl) us→us=bs.map Value.bool
 |[],us,r=>by cases r;rfl
 |b::bs,us,r=>by
  cases r with
  |cons r1 r2=>
   have e:_=Value.bool b:=r1
   rw[e,qt r2];rfl
theorem wC(k:Bool){bs:List Bool}:∀y,y∈(bs.map Value.bool)→∀(A:Around)(s:Shared),EqAt A s y (.bool k) (isBoolOf k y):=by
 intro y hy A s
 obtain ⟨b,_,rfl⟩:=List.mem_map.mp hy
 exact EqAt.bool_bool b k
theorem Pr(k:Bool)(bs:List Bool):(bs.map Value.bool).countP (isBoolOf k)=bs.count k:=by
 induction bs with
 |nil=>rfl
 |cons b bs ih=>
  rw[List.map_cons,List.countP_cons,ih,List.count_cons]
  rfl
def Pu(K:PySem.W.Frag):V→List V→Hp→VK→Prop:=fun x vs H Q=>∃(p:Addr)(bs:List Bool),x=.ref p∧vs=[.bl true]∧SqL K H p (bs.map V.bl)∧Q (.int (bs.count true:Nat)) H
theorem Px:MtR X "list.count" (Pu X.K):=by
 intro pins s σ H x xs v us Q I rx rs h
 obtain ⟨p,bs,rfl,rfl,hq,q⟩:=h
 cases rx
 obtain ⟨u,rfl,ru⟩:=vals1 rs
 cases ru
 obtain ⟨its,rv,⟨o,n,ho,hc,hd,hdd⟩,hz⟩:=I.list hq
 obtain ⟨cls,dd,data,sl⟩:=o
 simp only at hc hd hdd
 subst hc hd hdd
 have e:=qt rv
 subst e
 refine call_meets PySem.F.slot_list_count ⟨_,ho,rfl⟩ PySem.F.entry_list_count (PySem.F.args_list_count_2 _ _) (list_countAt p _ n _ sl (.bool true) (isBoolOf true)) ⟨ho,fun y hy=>wC true y (by simpa using hy) _ _,?_⟩
 refine ⟨.int _,H,I.tok _,⟨_,rfl⟩,?_⟩
 rw[show ((bs.map Value.bool).toArray).toList=bs.map Value.bool from rfl,Pr]
 exact q
def Py(K:PySem.W.Frag):V→List V→Hp→VK→Prop:=fun x vs H Q=>∃(p:Addr)(bs:List Bool),x=.ref p∧vs=[.bl true]∧SqL K H p (bs.map V.bl)∧true∈bs∧Q (.int (bs.idxOf true:Nat)) H
theorem wD(bs:List Bool)(j:Nat)(h:j < (bs.map Value.bool).length)(h':j < bs.length):isBoolOf true (bs.map Value.bool)[j]=(bs[j]==true):=by
 rw[List.getElem_map];rfl
theorem Pz:MtR X "list.index" (Py X.K):=by
 intro pins s σ H x xs v us Q I rx rs h
 obtain ⟨p,bs,rfl,rfl,hq,hin,q⟩:=h
 cases rx
 obtain ⟨u,rfl,ru⟩:=vals1 rs
 cases ru
 obtain ⟨its,rv,⟨o,n,ho,hc,hd,hdd⟩,hz⟩:=I.list hq
 obtain ⟨cls,dd,data,sl⟩:=o
 simp only at hc hd hdd
 subst hc hd hdd
 have e:=qt rv
 subst e
 have hj:bs.idxOf true < bs.length:=List.idxOf_lt_length_iff.mpr hin
 have hz':bs.length≤sizeLine:=by rw[List.length_map]at hz;exact hz
 have hs:sizeLine < 2 ^ 63 - 1:=by decide
 refine call_meets PySem.F.slot_list_index ⟨_,ho,rfl⟩ PySem.F.entry_list_index (PySem.F.args_list_index_2 _ _) (list_indexAt p _ n _ sl (.bool true) (isBoolOf true) (bs.idxOf true) (by simpa using hj) (by omega) ?_ ?_) ⟨ho,fun y hy=>wC true y (by simpa using hy) _ _,?_⟩
 ·have h3:bs.idxOf true < (bs.map Value.bool).length:=by rw[List.length_map];exact hj
  show isBoolOf true ((bs.map Value.bool)[bs.idxOf true]'h3)=true
  rw[wD bs _ h3 hj]
  simpa using List.getElem_idxOf hj
 ·intro j hjs hlt
  have h2:j < bs.length:=by omega
  have h3:j < (bs.map Value.bool).length:=by rw[List.length_map];exact h2
  show isBoolOf true ((bs.map Value.bool)[j]'h3)=false
  rw[wD bs j h3 h2]
  have h4:j < bs.findIdx (·==true):=hlt
  simpa using List.not_of_lt_findIdx h4
 ·exact ⟨.int _,H,I.tok _,⟨_,rfl⟩,q⟩
end
end L2
namespace L2
open PySem PySem.Spec PyProof.Rows
section
variable {X:Cx}
theorem PK:OpR X (binaryOp .FloorDiv) (rI (fun _ j=>0 < j∧j < 1152921504606846976) fun i j=>.int (i / j)):=opI fun i j _ _ _ _ _ hc q=>by
 have h1:(0:Int) < j:=hc.1
 have h2:j < 1152921504606846976:=hc.2
 refine floordiv_int (by omega) (by rw[Int.fdiv_eq_ediv_of_nonneg i (by omega)];exact q) (.inl (PyProof.noPylong_of_log2 ?_))
 have:j.natAbs.log2 < 60:=(Nat.log2_lt (by omega)).mpr (by show j.natAbs < 1152921504606846976;omega)
 omega
def qu(m:Nat):Str:=Str.ofString (toString (m:Int))
theorem PL{m:Nat}(h:m < 100):(m:Int).natAbs.log2 < 1920:=by
 have:(m:Int).natAbs=m:=Int.natAbs_natCast m
 rw[this]
 exact Nat.lt_of_le_of_lt (Nat.log2_le_self m) (by omega)
theorem PN:bF X (.type "str") (fun xs H Q=>∃m:Nat,xs=[.int m]∧m < 100∧Q (.str (qu m)) H):=by
 intro pins s σ H xs us Q I r h
 obtain ⟨m,rfl,hm,q⟩:=h
 obtain ⟨u,rfl,ru⟩:=vals1 r
 obtain ⟨t,rfl⟩:=ru
 exact PySem.P.str_of_int (PL hm) ⟨.str _,H,I.tok _,⟨_,rfl⟩,q⟩
end
end L2
namespace HT
open PySem PySem.Spec PyProof.Rows Builtin
theorem PP:fillsNumberSlot (.type "tuple") "mul"=pure false:=
 PySem.fillsNumberSlot_seq (id:="tuple.__mul__") (r:=some (.builtin "tuple.__rmul__")) PySem.F.slot_tuple_mul.lookup (by decide +kernel) PySem.F.slot_tuple_rmul.lookup (by decide +kernel)
theorem PQ:seqRepeat? (.type "tuple")=pure (some (.builtin "tuple.__mul__")):=by
 unfold seqRepeat?
 rw[PySem.seqSlot_of (T:="tuple") (name:="__mul__") (id:="tuple.__mul__") PySem.F.slot_tuple_mul.lookup (by decide +kernel),PySem.seqSlot_of (T:="tuple") (name:="__rmul__") (id:="tuple.__rmul__") PySem.F.slot_tuple_rmul.lookup (by decide +kernel)]
 rfl
theorem P0(a:Int)(t:Tok)(l:Addr)(items:Array Value)(n:Nat)(dd:Option Addr)(sl:Array (Option Value)):
  Meets (Builtin.«int.__rmul__» ⟨[.int a t,.ref l],[]⟩) (fun _ R s=>s.heap.get? l=some { cls:=.type "tuple",dict:=dd,data:=.seq items n,slots:=sl }∧R (.ok (.ret Value.notImplemented)) s):=
 .of_wp fun prog w A R s h=>by obtain ⟨hp,g,d,tk,os⟩:=s;obtain ⟨hl,h⟩:=h;wp_walk;exact ⟨_,rfl,h⟩
theorem Qa(l:Addr)(items:Array Value)(n:Nat)(dd:Option Addr)(sl:Array (Option Value))(k:Int)(t:Tok)(h2:2≤k)(hk:k≤1000)(hne:items.isEmpty=false)(hz:items.size * k.toNat≤sizeLine)(hz2:(List.foldl (fun x1 x2=>x1++x2) #[] (List.replicate k.toNat items)).size≤sizeLine):
  Meets (Builtin.«tuple.__mul__» ⟨[.ref l,.int k t],[]⟩) (fun _ R s=>s.heap.get? l=some { cls:=.type "tuple",dict:=dd,data:=.seq items n,slots:=sl }∧
   R (.ok (.ret (.ref s.heap.objs.size))) { s with heap:=s.heap.push { cls:=.type "tuple",data:=.seq ((List.replicate k.toNat items).foldl (· ++ ·) #[]) } }):=
 .of_wp fun prog w A R s h=>by
  obtain ⟨hp,g,d,tk,os⟩:=s
  obtain ⟨hl,h⟩:=h
  have a1:(decide (k < -(2 ^ 63))||decide (k≥2 ^ 63))=false:=by rw[decide_eq_false (by omega),decide_eq_false (by omega)];rfl
  have a2:(items.isEmpty||k==1)=false:=by rw[hne,Bool.false_or,beq_eq_false_iff_ne];omega
  have a3:(decide (k≤0)||items.isEmpty)=false:=by rw[decide_eq_false (by omega),hne];rfl
  have hs:(items.size:Int) * k=((items.size * k.toNat:Nat):Int):=by rw[Int.natCast_mul,Int.toNat_of_nonneg (by omega)]
  have hsl:sizeLine≤1152921504606846975:=by decide
  have a4:¬((items.size:Int) * k > (2 ^ 63 - 1) / 8):=by rw[hs];omega
  have a5:¬(Tuple.tupleTooMany ((items.size:Int) * k)=true):=by
   unfold Tuple.tupleTooMany
   rw[decide_eq_true_iff,hs]
   omega
  wp_walk
  rw[if_neg (by rw[a1];exact Bool.false_ne_true)]
  wp_walk
  rw[if_neg (by rw[a2];exact Bool.false_ne_true)]
  dsimp only
  rw[if_neg (by rw[a3];exact Bool.false_ne_true),if_neg a4,if_neg a5]
  unfold Tuple.tupleExact
  wp_walk
  exact ⟨_,rfl,h⟩
end HT
namespace L2
open PySem PySem.Spec PyProof.Rows
section
variable {X:Cx}
def Qc(K:PySem.W.Frag):R2:=fun x y H Q=>∃(l:Addr)(k:Int)(xs:List V),x=.ref l∧y=.int k∧SqT K H l xs∧xs≠[]∧2≤k∧k≤1000∧xs.length * k.toNat≤sizeLine∧∀p,H p=none→Q (.ref p) (upd H p (.tup (List.replicate k.toNat xs).flatten))
theorem Qd:OpR X (binaryOp .Mult) (Qc X.K):=by
 intro pins s σ H x y v u Q I rx ry h
 obtain ⟨l,k,xs,rfl,rfl,hT,hne,h2,hk,hz,q⟩:=h
 cases rx
 obtain ⟨t,rfl⟩:=ry
 obtain ⟨its,r,pt,_⟩:=I.tuple hT
 obtain ⟨⟨cls,dd,data,sl⟩,ho,hc,n,hd⟩:=id pt
 simp only at hc hd
 subst hc hd
 have hl:=r.length
 have hz':its.toArray.size * k.toNat≤sizeLine:=by rw[List.size_toArray,←hl];exact hz
 have he:its.toArray.isEmpty=false:=by
  cases its with
  |nil=>exact absurd (List.length_eq_zero_iff.mp hl) hne
  |cons _ _=>rfl
 have hnew:List.foldl (fun x1 x2=>x1++x2) #[] (List.replicate k.toNat its.toArray)=(List.replicate k.toNat its).flatten.toArray:=by
  have:=foldl_rep its k.toNat []
  rw[List.nil_append]at this
  exact this
 refine wpAny_binaryOp_repeat_ref (T:="tuple") (U:="int") (by decide) ⟨_,ho,rfl⟩ (fun s'=>typeIs_int s' k t) HT.PP F.fills_int_mul F.slot_int_rmul HT.PQ F.slot_int_index.lookup
  (call_meets F.slot_int_rmul (typeIs_int s k t) F.entry_int_rmul (F.args_int_rmul_2 _ _) (HT.P0 k t l its.toArray n dd sl)
   ⟨ho,rfl,⟨_,ho,rfl⟩,call_meets PySem.F.slot_tuple_mul ⟨_,ho,rfl⟩ PySem.F.entry_tuple_mul (PySem.F.args_tuple_mul_2 _ _) (HT.Qa l its.toArray n dd sl k t h2 hk he hz' (by rw[hnew,List.size_toArray,len_rep,Nat.mul_comm,←hl];exact hz)) ⟨ho,?_⟩⟩)
 rw[hnew]
 refine ⟨.ref s.heap.objs.size,_,I.laid (t':=s.toks) (o:=.tup (List.replicate k.toNat xs).flatten) (fun b ob q=>Heap.get?_push_of_some _ q) (Nat.le_refl _) ?_,rfl,q _ (I.hok.fresh (Nat.le_refl _))⟩
 exact ⟨by rw[len_rep,Nat.mul_comm];exact hz,_,r.rep k.toNat,IsTup.new _ _⟩
end
end L2
namespace RF
open PySem PySem.Spec PyProof.Rows L2
inductive D where
 |non |bl (b:Bool) |int (i:Int) |str (l:List Nat) |tup (xs:List D) |lst (xs:List D) |ref (a:Addr) |scr (ns:List Int) |exn (C:String)
 deriving Inhabited
inductive DO where
 |lst (xs:List D)
 deriving Inhabited
abbrev DH:=Addr→Option DO
def aR(G:DH)(a:Addr)(o:DO):DH:=fun b=>if b=a then some o else G b
def fO(G:DH)(a:Addr):DH:=fun b=>if b=a then none else G b
theorem bG{G:DH}{a:Addr}{o:DO}:aR G a o a=some o:=if_pos rfl
theorem cJ{G:DH}{a b:Addr}{o:DO}(h:b≠a):aR G a o b=G b:=if_neg h
theorem qw{G:DH}{a:Addr}:fO G a a=none:=if_pos rfl
theorem wF{G:DH}{a b:Addr}(h:b≠a):fO G a b=G b:=if_neg h
theorem Qe{G:DH}{a:Addr}{o u:DO}:aR (aR G a o) a u=aR G a u:=by
 funext b;unfold aR;split <;> rfl
theorem wG{G:DH}{a:Addr}{o:DO}(h:G a=none):fO (aR G a o) a=G:=by
 funext b;unfold aR fO;split
 ·rename_i e;rw[e,h]
 ·rename_i e;exact if_neg e
theorem wH{G:DH}{a b:Addr}{o:DO}(h:G a=some o)(h':G b=none):a≠b:=by
 intro e;subst e;rw[h]at h';cases h'
abbrev sz:Nat:=1000000
abbrev FZ:=Addr→Prop
def FzL(H:Hp)(F:FZ)(a:Addr)(vs:List V):Prop:=F a∧H a=some (.lst vs)
theorem FzL.sq{K:PySem.W.Frag}{H:Hp}{F:FZ}{a:Addr}{vs:List V}(h:FzL H F a vs):SqL K H a vs:=.inl (.inl h.2)
structure TpT(K:PySem.W.Frag)(H:Hp)(a:Addr)(vs:List V):Prop where
 it:H a=some (.tup vs)
theorem TpT.sq{K:PySem.W.Frag}{H:Hp}{a:Addr}{vs:List V}(h:TpT K H a vs):SqT K H a vs:=.inl (.inl h.it)
def ScL(K:PySem.W.Frag)(H:Hp)(a:Addr)(vs:List V):Prop:=
 (∃o,H a=some (.frz o (.lst vs)))∨
  ∃(o:Obj) (its:Array Value) (n:Nat),K.lookup a=some o∧o.cls=.type "list"∧o.dict=none∧o.data=.seq its n∧its.size≤sizeLine∧Vals vs its.toList
theorem ScL.sq{K:PySem.W.Frag}{H:Hp}{a:Addr}{vs:List V}(h:ScL K H a vs):SqL K H a vs:=by
 rcases h with ⟨o,h⟩ |h
 ·exact .inl (.inr ⟨o,h⟩)
 ·exact .inr h
mutual
def Rep(K:PySem.W.Frag)(H:Hp)(F:FZ):D→V→Prop
 |.non,v=>v=.non
 |.bl b,v=>v=.bl b
 |.int i,v=>v=.int i
 |.str l,v=>v=.str (tx l)∧l.length≤sz
 |.tup ds,v=>∃a vs,v=.ref a∧TpT K H a vs∧Reps K H F ds vs
 |.lst ds,v=>∃a vs,v=.ref a∧FzL H F a vs∧Reps K H F ds vs
 |.ref a,v=>v=.ref a
 |.scr ns,v=>∃a,v=.ref a∧ScL K H a (ns.map V.int)
 |.exn C,v=>∃a c,v=.ref a∧XO H a c∧PySem.W.nsIn K mainGlobals (Str.ofString C)=some (some (.ref c))
def Reps(K:PySem.W.Frag)(H:Hp)(F:FZ):List D→List V→Prop
 |[],vs=>vs=[]
 |d::ds,vs=>∃v r,vs=v::r∧Rep K H F d v∧Reps K H F ds r
end
structure Ext(H:Hp)(F:FZ)(H':Hp)(F':FZ):Prop where
 sub:∀a,F a→F' a
 keep:∀a,F a→H' a=H a
 tups:∀a xs,H a=some (.tup xs)→H' a=some (.tup xs)
 frzs:∀a o u,H a=some (.frz o u)→H' a=some (.frz o u)
theorem Ext.refl(H:Hp)(F:FZ):Ext H F H F:=⟨fun _ h=>h,fun _ _=>rfl,fun _ _ h=>h,fun _ _ _ h=>h⟩
theorem Ext.trans{H H1 H2:Hp}{F F1 F2:FZ}(a:Ext H F H1 F1)(b:Ext H1 F1 H2 F2):Ext H F H2 F2:=
 ⟨fun c h=>b.sub c (a.sub c h),fun c h=>(b.keep c (a.sub c h)).trans (a.keep c h),fun c xs h=>b.tups c xs (a.tups c xs h),fun c o u h=>b.frzs c o u (a.frzs c o u h)⟩
section
variable {K:PySem.W.Frag} {H H':Hp} {F F':FZ}
theorem TpT.ext{a:Addr}{vs:List V}(x:Ext H F H' F')(h:TpT K H a vs):TpT K H' a vs:=⟨x.tups _ _ h.it⟩
theorem FzL.ext{a:Addr}{vs:List V}(x:Ext H F H' F')(h:FzL H F a vs):FzL H' F' a vs:=⟨x.sub _ h.1,(x.keep _ h.1).trans h.2⟩
theorem ScL.ext{a:Addr}{vs:List V}(x:Ext H F H' F')(h:ScL K H a vs):ScL K H' a vs:=by
 rcases h with ⟨o,h⟩ |h
 ·exact .inl ⟨o,x.frzs _ _ _ h⟩
 ·exact .inr h
mutual
theorem Rep.ext(x:Ext H F H' F'):∀{d:D}{v:V},Rep K H F d v→Rep K H' F' d v
 |.non,_,h=>h
 |.bl _,_,h=>h
 |.int _,_,h=>h
 |.str _,_,h=>h
 |.tup _,_,⟨a,vs,e,q,r⟩=>⟨a,vs,e,TpT.ext x q,Reps.ext x r⟩
 |.lst _,_,⟨a,vs,e,q,r⟩=>⟨a,vs,e,FzL.ext x q,Reps.ext x r⟩
 |.ref _,_,h=>h
 |.scr _,_,⟨a,e,q⟩=>⟨a,e,ScL.ext x q⟩
 |.exn _,_,⟨a,c,e,⟨o,y,q,hc⟩,n⟩=>⟨a,c,e,⟨o,y,x.frzs _ _ _ q,hc⟩,n⟩
theorem Reps.ext(x:Ext H F H' F'):∀{ds:List D}{vs:List V},Reps K H F ds vs→Reps K H' F' ds vs
 |[],_,h=>h
 |_::_,_,⟨v,r,e,h,t⟩=>⟨v,r,e,Rep.ext x h,Reps.ext x t⟩
end
theorem Reps.nil:Reps K H F [] []:=rfl
theorem Reps.cons{d:D}{v:V}{ds:List D}{vs:List V}(h:Rep K H F d v)(t:Reps K H F ds vs):Reps K H F (d::ds) (v::vs):=⟨v,vs,rfl,h,t⟩
theorem Reps.length:∀{ds:List D}{vs:List V},Reps K H F ds vs→ds.length=vs.length
 |[],_,h=>by cases h;rfl
 |_::_,_,⟨v,r,e,_,t⟩=>by subst e;simp[Reps.length t]
theorem Reps.append:∀{ds es:List D}{vs us:List V},Reps K H F ds vs→Reps K H F es us→Reps K H F (ds++es) (vs++us)
 |[],_,_,_,h,t=>by cases h;exact t
 |_::_,_,_,_,⟨v,r,e,h,t⟩,t'=>by subst e;exact ⟨v,_,rfl,h,Reps.append t t'⟩
theorem Reps.get:∀{ds:List D}{vs:List V}{i:Nat}{d:D},Reps K H F ds vs→ds[i]?=some d→∃v,vs[i]?=some v∧Rep K H F d v
 |[],_,_,_,_,e=>by simp at e
 |_::_,_,0,_,⟨v,r,e,h,t⟩,q=>by subst e;simp at q;subst q;exact ⟨v,rfl,h⟩
 |_::_,_,i+1,d,⟨v,r,e,h,t⟩,q=>by
  subst e
  obtain ⟨u,h1,h2⟩:=Reps.get (i:=i) (d:=d) t (by simpa using q)
  exact ⟨u,by simpa using h1,h2⟩
theorem Reps.set{d:D}{v:V}(r:Rep K H F d v):∀{ds:List D}{vs:List V}(i:Nat),Reps K H F ds vs→Reps K H F (ds.set i d) (vs.set i v)
 |[],_,_,h=>by cases h;exact rfl
 |_::_,_,0,⟨v',r',e,h,t⟩=>by subst e;exact ⟨_,_,rfl,r,t⟩
 |_::_,_,i+1,⟨v',r',e,h,t⟩=>by subst e;exact ⟨_,_,rfl,h,Reps.set r i t⟩
theorem Reps.take:∀{ds:List D}{vs:List V}(n:Nat),Reps K H F ds vs→Reps K H F (ds.take n) (vs.take n)
 |_,_,0,_=>rfl
 |[],_,_+1,h=>by cases h;exact rfl
 |_::_,_,n+1,⟨v',r',e,h,t⟩=>by subst e;exact ⟨_,_,rfl,h,Reps.take n t⟩
theorem Reps.drop:∀{ds:List D}{vs:List V}(n:Nat),Reps K H F ds vs→Reps K H F (ds.drop n) (vs.drop n)
 |_,_,0,h=>h
 |[],_,_+1,h=>by cases h;exact rfl
 |_::_,_,n+1,⟨v',r',e,h,t⟩=>by subst e;exact Reps.drop n t
theorem Reps.cut{ds:List D}{vs:List V}(h:Reps K H F ds vs)(lo hi:Option Int):
  Reps K H F ((ds.drop (HT.sIx ds.length 0 lo)).take (HT.sIx ds.length ds.length hi - HT.sIx ds.length 0 lo)) (cU vs lo hi):=by
 unfold cU
 rw[←h.length]
 exact (h.drop _).take _
theorem Reps.rep{ds:List D}{vs:List V}(h:Reps K H F ds vs):∀k:Nat,Reps K H F (List.replicate k ds).flatten (List.replicate k vs).flatten
 |0=>rfl
 |k+1=>by
  rw[List.replicate_succ,List.replicate_succ,List.flatten_cons,List.flatten_cons]
  exact Reps.append h (Reps.rep h k)
end
def Qf(K:PySem.W.Frag)(H:Hp)(F:FZ)(a:Addr):DO→Prop
 |.lst ds=>∃vs,H a=some (.lst vs)∧Reps K H F ds vs
structure R(K:PySem.W.Frag)(H:Hp)(F:FZ)(G:DH):Prop where
 fz:∀a,F a→G a=none∧∃vs,H a=some (.lst vs)
 ob:∀a o,G a=some o→Qf K H F a o
section
variable {K:PySem.W.Frag} {H:Hp} {F:FZ} {G:DH} {p:Addr} {vs:List V} {ds:List D}
theorem R.lst(r:R K H F G)(h:G p=some (.lst ds)):∃vs,H p=some (.lst vs)∧Reps K H F ds vs:=r.ob p _ h
theorem R.free(r:R K H F G)(h:H p=none):G p=none:=by
 cases e:G p with
 |none=>rfl
 |some o=>
  cases o with
  |lst ds=>obtain ⟨vs,q,_⟩:=r.lst e;rw[h]at q;cases q
theorem R.notF(r:R K H F G)(h:H p=none):¬F p:=fun f=>by
 obtain ⟨_,vs,q⟩:=r.fz p f;rw[h]at q;cases q
theorem cW{o:HO}(r:R K H F G)(h:H p=none):Ext H F (upd H p o) F:=
 ⟨fun _ f=>f,fun a f=>aC fun e=>r.notF h (by rw[←e];exact f),fun a xs q=>by rw[aC (aU q h)];exact q,fun a ob u q=>by rw[aC (aU q h)];exact q⟩
theorem R.new{o:HO}(r:R K H F G)(h:H p=none):R K (upd H p o) F G:=by
 have x:Ext H F (upd H p o) F:=cW r h
 refine ⟨fun a f=>⟨(r.fz a f).1,?_⟩,fun a u e=>?_⟩
 ·obtain ⟨_,vs,q⟩:=r.fz a f
  exact ⟨vs,by rw[x.keep a f];exact q⟩
 ·cases u with
  |lst ds=>
   obtain ⟨vs,q,t⟩:=r.lst e
   exact ⟨vs,by rw[aC (aU q h)];exact q,Reps.ext x t⟩
theorem R.newL(r:R K H F G)(h:H p=none)(t:Reps K H F ds vs):R K (upd H p (.lst vs)) F (aR G p (.lst ds)):=by
 have x:Ext H F (upd H p (.lst vs)) F:=cW r h
 have r':R K (upd H p (.lst vs)) F G:=r.new h
 refine ⟨fun a f=>⟨?_,(r'.fz a f).2⟩,fun a u e=>?_⟩
 ·rw[cJ fun e=>r.notF h (by rw[←e];exact f)];exact (r.fz a f).1
 ·by_cases ha:a=p
  ·subst ha
   rw[bG]at e;cases e
   exact ⟨vs,cT,Reps.ext x t⟩
  ·rw[cJ ha]at e
   exact r'.ob a u e
theorem qx(r:R K H F G)(h:H p=none):Ext H F (upd H p (.lst vs)) (fun a=>F a∨a=p):=
 ⟨fun _ f=>.inl f,(cW r h).keep,(cW r h).tups,(cW r h).frzs⟩
theorem R.newF(r:R K H F G)(h:H p=none):R K (upd H p (.lst vs)) (fun a=>F a∨a=p) G:=by
 have x:Ext H F (upd H p (.lst vs)) (fun a=>F a∨a=p):=qx r h
 refine ⟨fun a f=>?_,fun a u e=>?_⟩
 ·rcases f with f |f
  ·obtain ⟨g,vs',q⟩:=r.fz a f
   exact ⟨g,vs',by rw[x.keep a f];exact q⟩
  ·subst f
   exact ⟨r.free h,vs,cT⟩
 ·cases u with
  |lst ds=>
   obtain ⟨vs',q,t⟩:=r.lst e
   exact ⟨vs',by rw[aC (aU q h)];exact q,Reps.ext x t⟩
theorem Qg(r:R K H F G)(h:H p=none)(t:Reps K H F ds vs):Rep K (upd H p (.lst vs)) (fun a=>F a∨a=p) (.lst ds) (.ref p):=
 ⟨p,vs,rfl,⟨.inr rfl,cT⟩,Reps.ext (qx r h) t⟩
theorem qy(r:R K H F G)(h:H p=none)(t:Reps K H F ds vs):Rep K (upd H p (.tup vs)) F (.tup ds) (.ref p):=
 ⟨p,vs,rfl,⟨cT⟩,Reps.ext (cW r h) t⟩
theorem iR{ds0:List D}{o:HO}(r:R K H F G)(h:G p=some (.lst ds0)):Ext H F (upd H p o) F:=by
 obtain ⟨vs0,q,_⟩:=r.lst h
 refine ⟨fun _ f=>f,fun a f=>aC fun e=>?_,fun a xs z=>?_,fun a ob u z=>?_⟩
 ·subst e;rw[(r.fz a f).1]at h;cases h
 ·rw[aC (uK z q (by intro w;cases w))];exact z
 ·rw[aC (uK z q (by intro w;cases w))];exact z
theorem R.write{ds0:List D}(r:R K H F G)(h:G p=some (.lst ds0))(t:Reps K H F ds vs):R K (upd H p (.lst vs)) F (aR G p (.lst ds)):=by
 have x:Ext H F (upd H p (.lst vs)) F:=iR r h
 refine ⟨fun a f=>⟨?_,?_⟩,fun a u e=>?_⟩
 ·rw[cJ fun e=>by subst e;rw[(r.fz a f).1]at h;cases h];exact (r.fz a f).1
 ·obtain ⟨_,vs',q⟩:=r.fz a f
  exact ⟨vs',by rw[x.keep a f];exact q⟩
 ·by_cases ha:a=p
  ·subst ha
   rw[bG]at e;cases e
   exact ⟨vs,cT,Reps.ext x t⟩
  ·rw[cJ ha]at e
   cases u with
   |lst ds'=>
    obtain ⟨vs',q,t'⟩:=r.lst e
    exact ⟨vs',by rw[aC ha];exact q,Reps.ext x t'⟩
theorem qz:Ext H F H (fun a=>F a∨a=p):=⟨fun _ f=>.inl f,fun _ _=>rfl,fun _ _ h=>h,fun _ _ _ h=>h⟩
theorem R.frz(r:R K H F G)(h:G p=some (.lst ds)):R K H (fun a=>F a∨a=p) (fO G p):=by
 have x:Ext H F H (fun a=>F a∨a=p):=qz
 refine ⟨fun a f=>?_,fun a u e=>?_⟩
 ·rcases f with f |f
  ·obtain ⟨g,vs',q⟩:=r.fz a f
   refine ⟨?_,vs',q⟩
   by_cases ha:a=p
   ·rw[ha];exact qw
   ·rw[wF ha];exact g
  ·subst f
   obtain ⟨vs,q,_⟩:=r.lst h
   exact ⟨qw,vs,q⟩
 ·by_cases ha:a=p
  ·rw[ha,qw]at e;cases e
  ·rw[wF ha]at e
   cases u with
   |lst ds'=>
    obtain ⟨vs',q,t'⟩:=r.lst e
    exact ⟨vs',q,Reps.ext x t'⟩
theorem Qh(r:R K H F G)(h:G p=some (.lst ds)):Rep K H (fun a=>F a∨a=p) (.lst ds) (.ref p):=by
 obtain ⟨vs,q,t⟩:=r.lst h
 exact ⟨p,vs,rfl,⟨.inr rfl,q⟩,Reps.ext qz t⟩
end
def view(G:DH):D→D
 |.ref p=>match G p with |some (.lst ds)=>.lst ds |none=>.ref p
 |d=>d
theorem Rep.list{K:PySem.W.Frag}{H:Hp}{F:FZ}{G:DH}{d:D}{v:V}{ds:List D}(r:R K H F G)(h:Rep K H F d v)(e:view G d=.lst ds):∃a vs,v=.ref a∧SqL K H a vs∧Reps K H F ds vs:=by
 cases d with
 |lst xs=>
  have e':D.lst xs=.lst ds:=e
  cases e'
  obtain ⟨a,vs,e1,q,t⟩:=h
  exact ⟨a,vs,e1,q.sq,t⟩
 |ref p=>
  have hv:v=.ref p:=h
  unfold view at e
  cases g:G p with
  |none=>simp only[g]at e;cases e
  |some o=>
   cases o with
   |lst xs=>
    simp only[g]at e
    cases e
    obtain ⟨vs,q,t⟩:=r.lst g
    exact ⟨p,vs,hv,.inl (.inl q),t⟩
 |_=>cases (show _=D.lst ds from e)
theorem du{G:DH}{d:D}{ds:List D}(e:view G d=.tup ds):d=.tup ds:=by
 cases d with
 |ref p=>
  unfold view at e
  cases g:G p with
  |none=>simp only[g]at e;cases e
  |some o=>cases o;simp only[g]at e;cases e
 |_=>exact e
theorem dw{G:DH}{d:D}{l:List Nat}(e:view G d=.str l):d=.str l:=by
 cases d with
 |ref p=>
  unfold view at e
  cases g:G p with
  |none=>simp only[g]at e;cases e
  |some o=>cases o;simp only[g]at e;cases e
 |_=>exact e
theorem cL{G:DH}{d:D}{l:Int}(e:view G d=.int l):d=.int l:=by
 cases d with
 |ref p=>
  unfold view at e
  cases g:G p with
  |none=>simp only[g]at e;cases e
  |some o=>cases o;simp only[g]at e;cases e
 |_=>exact e
theorem qC{G:DH}{d:D}{l:Bool}(e:view G d=.bl l):d=.bl l:=by
 cases d with
 |ref p=>
  unfold view at e
  cases g:G p with
  |none=>simp only[g]at e;cases e
  |some o=>cases o;simp only[g]at e;cases e
 |_=>exact e
theorem wI{G:DH}{d:D}(e:view G d=.non):d=.non:=by
 cases d with
 |ref p=>
  unfold view at e
  cases g:G p with
  |none=>simp only[g]at e;cases e
  |some o=>cases o;simp only[g]at e;cases e
 |_=>exact e
abbrev aa:=List (Option D)
def EnvR(K:PySem.W.Frag)(H:Hp)(F:FZ):aa→L2.St→Prop
 |[],σ=>σ=[]
 |o::ρ,σ=>∃u τ,σ=u::τ∧(∀d,o=some d→∃v,u=some v∧Rep K H F d v)∧EnvR K H F ρ τ
section
variable {K:PySem.W.Frag} {H H':Hp} {F F':FZ}
theorem EnvR.ext(x:Ext H F H' F'):∀{ρ:aa}{σ:L2.St},EnvR K H F ρ σ→EnvR K H' F' ρ σ
 |[],_,h=>h
 |_::_,_,⟨u,τ,e,h,t⟩=>⟨u,τ,e,fun d q=>by obtain ⟨v,e1,r⟩:=h d q;exact ⟨v,e1,Rep.ext x r⟩,EnvR.ext x t⟩
theorem EnvR.get:∀{ρ:aa}{σ:L2.St}{i:Nat}{d:D},EnvR K H F ρ σ→ρ[i]?=some (some d)→∃v,σ[i]?=some (some v)∧Rep K H F d v
 |[],_,_,_,_,e=>by simp at e
 |_::_,_,0,d,⟨u,τ,e,h,t⟩,q=>by
  subst e
  obtain ⟨v,e1,r⟩:=h d (by simpa using q)
  exact ⟨v,by simp[e1],r⟩
 |_::_,_,i+1,d,⟨u,τ,e,h,t⟩,q=>by
  subst e
  obtain ⟨v,e1,r⟩:=EnvR.get (i:=i) (d:=d) t (by simpa using q)
  exact ⟨v,by simpa using e1,r⟩
theorem EnvR.set{d:D}{v:V}(r:Rep K H F d v):∀{ρ:aa}{σ:L2.St}(i:Nat),EnvR K H F ρ σ→EnvR K H F (ρ.set i (some d)) (σ.set i (some v))
 |[],_,_,h=>by cases h;exact rfl
 |_::_,_,0,⟨u,τ,e,h,t⟩=>by subst e;exact ⟨_,_,rfl,fun d' q=>⟨v,rfl,by cases q;exact r⟩,t⟩
 |_::_,_,i+1,⟨u,τ,e,h,t⟩=>by subst e;exact ⟨_,_,rfl,h,EnvR.set r i t⟩
theorem EnvR.unset:∀{ρ:aa}{σ:L2.St}(i:Nat),EnvR K H F ρ σ→EnvR K H F (ρ.set i Option.none) (σ.set i Option.none)
 |[],_,_,h=>by cases h;exact rfl
 |_::_,_,0,⟨u,τ,e,h,t⟩=>by subst e;exact ⟨_,_,rfl,fun d' q=>(nomatch q),t⟩
 |_::_,_,i+1,⟨u,τ,e,h,t⟩=>by subst e;exact ⟨_,_,rfl,h,EnvR.unset i t⟩
theorem EnvR.none:∀(n:Nat),EnvR K H F (List.replicate n Option.none) (List.replicate n Option.none)
 |0=>rfl
 |n+1=>⟨_,_,rfl,fun d q=>(nomatch q),EnvR.none n⟩
theorem EnvR.start:∀{ds:List D}{vs:List V}(n:Nat),Reps K H F ds vs→EnvR K H F (ds.map some++List.replicate n Option.none) (vs.map some++List.replicate n Option.none)
 |[],_,n,h=>by cases h;exact EnvR.none n
 |d::ds,_,n,⟨v,r,e,h,t⟩=>by
  subst e
  exact ⟨_,_,rfl,fun d' q=>⟨v,rfl,by cases q;exact h⟩,EnvR.start n t⟩
theorem EnvR.cap{ρ:aa}{σ:L2.St}(h:EnvR K H F ρ σ):∀(cap:List (Option Nat)),EnvR K H F (cap.map fun o=>match o with |Option.none=>Option.none |some j=>(ρ[j]?).join) (cV cap σ)
 |[]=>rfl
 |Option.none::cap=>⟨_,_,rfl,fun d q=>(nomatch q),EnvR.cap h cap⟩
 |some j::cap=>by
  refine ⟨_,_,rfl,fun d q=>?_,EnvR.cap h cap⟩
  have q':(ρ[j]?).join=some d:=q
  have z:ρ[j]?=some (some d):=by
   cases e:ρ[j]? with
   |none=>rw[e]at q';cases q'
   |some o=>rw[e]at q';exact congrArg some q'
  obtain ⟨v,e1,r⟩:=h.get z
  exact ⟨v,by show (σ[j]?).join=some v;rw[e1];rfl,r⟩
end
end RF
namespace RF
open PySem L2
mutual
def deq:D→D→Bool
 |.non,.non=>true
 |.bl a,.bl b=>a==b
 |.bl a,.int b=>(if a then 1 else 0)==b
 |.int a,.bl b=>a==(if b then 1 else 0)
 |.int a,.int b=>a==b
 |.str a,.str b=>a==b
 |.tup a,.tup b=>bh a b
 |.lst a,.lst b=>bh a b
 |_,_=>false
def bh:List D→List D→Bool
 |[],[]=>true
 |a::as,b::bs=>deq a b&&bh as bs
 |_,_=>false
end
mutual
/-- no tracked object within -/
def nr:D→Bool
 |.tup a=>nrs a
 |.lst a=>nrs a
 |.ref _=>false
 |.scr _=>false
 |.exn _=>false
 |_=>true
def nrs:List D→Bool
 |[]=>true
 |a::as=>nr a&&nrs as
end
mutual
def dpt:D→Nat
 |.tup a=>aO a+1
 |.lst a=>aO a+1
 |_=>0
def aO:List D→Nat
 |[]=>0
 |a::as=>max (dpt a) (aO as)
end
def truth:D→Option Bool
 |.non=>some false
 |.bl b=>some b
 |.int i=>some (i != 0)
 |.str l=>some (!l.isEmpty)
 |.tup l=>some (!l.isEmpty)
 |.lst l=>some (!l.isEmpty)
 |_=>none
def cut{α:Type}(xs:List α)(lo hi:Option Int):List α:=(xs.drop (HT.sIx xs.length 0 lo)).take (HT.sIx xs.length xs.length hi - HT.sIx xs.length 0 lo)
def reps{α:Type}(xs:List α)(n:Nat):List α:=(List.replicate n xs).flatten
def mk(fz:Bool)(xs:List D)(G:DH)(k:D→DH→Prop):Prop:=
 match fz with
 |true=>k (.lst xs) G
 |false=>∀p,G p=none→k (.ref p) (aR G p (.lst xs))
def gC(fz:Bool)(a b:D)(G:DH)(k:D→DH→Prop):Prop:=
 match a with
 |.int i=>(match b with |.int j=>k (.int (i+j)) G |_=>False)
 |.str x=>(match b with |.str y=>x.length+y.length≤sz∧k (.str (x++y)) G |_=>False)
 |.lst x=>(match b with |.lst y=>x.length+y.length≤sz∧mk fz (x++y) G k |_=>False)
 |.tup x=>(match b with |.tup y=>x.length+y.length≤sz∧k (.tup (x++y)) G |_=>False)
 |_=>False
def eQ(a b:D)(p:Int→Int→Prop):Prop:=
 match a with
 |.int i=>(match b with |.int j=>p i j |_=>False)
 |_=>False
def gD(a b:D)(G:DH)(k:D→DH→Prop):Prop:=
 match b with
 |.int n=>(match a with |.int i=>CMul i n∧k (.int (i * n)) G |.str x=>0≤n∧n≤1000∧x.length * n.toNat≤sz∧k (.str (reps x n.toNat)) G |.tup x=>2≤n∧n≤1000∧x≠[]∧x.length * n.toNat≤sz∧k (.tup (reps x n.toNat)) G |_=>False)
 |_=>False
def bR(op:Operator)(fz:Bool)(a b:D)(G:DH)(k:D→DH→Prop):Prop:=
 match op with
 |.Add=>gC fz a b G k
 |.Sub=>eQ a b fun i j=>k (.int (i - j)) G
 |.Mult=>gD a b G k
 |.FloorDiv=>eQ a b fun i j=>(0 < j∧j < 1152921504606846976)∧k (.int (i / j)) G
 |.Mod=>eQ a b fun i j=>0 < j∧k (.int (i % j)) G
 |.Pow=>eQ a b fun i j=>lg i j∧k (.int (i ^ j.toNat)) G
 |_=>False
def isIn(x:D)(ys:List D):Bool:=ys.any fun y=>deq y x
def wJ(a b:D):Prop:=nr a=true∧nr b=true∧min (dpt a) (dpt b)≤60
def inG(a:D)(l:List D):Prop:=nr a=true∧nrs l=true∧aO l≤60
def gF(a b:D)(k:Bool→Prop):Prop:=
 match a,b with
 |.int i,.int j=>k (decide (i < j))
 |.str i,.str j=>k (decide (i < j))
 |_,_=>False
def gG(a b:D)(k:Bool→Prop):Prop:=
 match a,b with
 |.int i,.int j=>k (decide (i≤j))
 |.str i,.str j=>k (!decide (j < i))
 |_,_=>False
def gH(a b:D)(k:Bool→Prop):Prop:=
 match a,b with
 |.int i,.int j=>k (decide (j < i))
 |_,_=>False
def gJ(a b:D)(k:Bool→Prop):Prop:=
 match a,b with
 |.int i,.int j=>k (decide (j≤i))
 |_,_=>False
def gK(a:D):Bool:=match a with |.non=>true |_=>false
def gM(a b:D)(k:Bool→Prop):Prop:=
 match b with
 |.non=>k (gK a)
 |.bl b=>(match a with |.bl a=>k (a==b) |_=>False)
 |_=>False
def gO(a b:D)(k:Bool→Prop):Prop:=
 match b with
 |.non=>k (!gK a)
 |.bl b=>(match a with |.bl a=>k (a != b) |_=>False)
 |_=>False
def dR(a b:D)(k:Bool→Prop):Prop:=
 match b with
 |.str l=>(match a with |.str [c]=>k (l.contains c) |_=>False)
 |.lst l=>inG a l∧k (isIn a l)
 |.tup l=>inG a l∧k (isIn a l)
 |_=>False
def aP(op:CmpOp)(a b:D)(k:Bool→Prop):Prop:=
 match op with
 |.Eq=>wJ a b∧k (deq a b)
 |.NotEq=>wJ a b∧k (!deq a b)
 |.Lt=>gF a b k
 |.LtE=>gG a b k
 |.Gt=>gH a b k
 |.GtE=>gJ a b k
 |.Is=>gM a b k
 |.IsNot=>gO a b k
 |.In=>dR a b k
 |.NotIn=>dR a b fun c=>k (!c)
def bZ(a i:D)(k:D→Prop):Prop:=
 match a,i with
 |.lst ds,.int i=>match atI ds i with |some d=>k d |none=>False
 |.tup ds,.int i=>match atI ds i with |some d=>k d |none=>False
 |.str l,.int i=>match atI l i with |some c=>k (.str [c]) |none=>False
 |_,_=>False
def cX(fz:Bool)(a:D)(lo hi:Option Int)(G:DH)(k:D→DH→Prop):Prop:=
 match a with
 |.lst ds=>mk fz (cut ds lo hi) G k
 |.scr ns=>mk fz ((cut ns lo hi).map .int) G k
 |.tup ds=>k (.tup (cut ds lo hi)) G
 |.str l=>k (.str (cut l lo hi)) G
 |_=>False
def gP(fz:Bool)(a y:D)(G:DH)(k:D→DH→Prop):Prop:=
 match a with
 |.lst ds=>y=.int (-1)∧mk fz ds.reverse G k
 |_=>False
def bools:List D→Option (List Bool)
 |[]=>some []
 |.bl b::r=>match bools r with |some s=>some (b::s) |none=>none
 |_=>none
def fP:List D→Option (List Int)
 |[]=>some []
 |.int b::r=>match fP r with |some s=>some (b::s) |none=>none
 |_=>none
def bH:List D→Option (List (List Nat))
 |[]=>some []
 |.str b::r=>match bH r with |some s=>some (b::s) |none=>none
 |_=>none
def cY(s:List Nat):List (List Nat)→List Nat
 |[]=>[]
 |[x]=>x
 |x::y::r=>x++s++cY s (y::r)
inductive Bf where
 |len |all |int |tuple |sum |min |max |str
inductive Lf where
 |list |sorted
inductive Mf where
 |join |append |extend |insert |count |index
def qD(as:List D)(k:D→Prop):Prop:=
 match as with
 |[.lst ds]=>k (.int ds.length)
 |[.tup ds]=>k (.int ds.length)
 |[.str l]=>k (.int l.length)
 |_=>False
def lB(as:List D)(k:D→Prop):Prop:=
 match as with
 |[.lst ds]=>match bools ds with |some bs=>k (.bl (bs.all id)) |none=>False
 |_=>False
def lC(as:List D)(k:D→Prop):Prop:=
 match as with
 |[.bl b]=>k (.int (if b then 1 else 0))
 |[.int i]=>k (.int i)
 |[.str l]=>match PySem.intText? (tx l) with |some n=>l.length≤640∧k (.int n) |none=>False
 |_=>False
def qF(as:List D)(k:D→Prop):Prop:=
 match as with
 |[.lst ds]=>k (.tup ds)
 |[.tup ds]=>k (.tup ds)
 |_=>False
def qG(as:List D)(k:D→Prop):Prop:=
 match as with
 |[.lst ds]=>match fP ds with |some ns=>k (.int ns.sum) |none=>False
 |_=>False
def wK(as:List D)(k:D→Prop):Prop:=
 match as with
 |[.lst ds]=>match fP ds with
  |some ns=>ns≠[]∧∀m,m∈ns→(∀a,a∈ns→m≤a)→k (.int m)
  |none=>match bH ds with
   |some ls=>∀m,m∈ls→(∀a,a∈ls→¬a < m)→k (.str m)
   |none=>False
 |_=>False
def wL(as:List D)(k:D→Prop):Prop:=
 match as with
 |[.int a,.int b]=>k (.int (if b > a then b else a))
 |_=>False
def dU(m:Nat):List Nat:=(qu m).cps.toList
def qH(as:List D)(k:D→Prop):Prop:=
 match as with
 |[.int i]=>(0≤i∧i < 100)∧k (.str (dU i.toNat))
 |_=>False
def opB:Bf→List D→(D→Prop)→Prop
 |.len=>qD
 |.all=>lB
 |.int=>lC
 |.tuple=>qF
 |.sum=>qG
 |.min=>wK
 |.max=>wL
 |.str=>qH
def qI(as:List D)(k:List D→Prop):Prop:=
 match as with
 |[.lst ds]=>k ds
 |[.tup ds]=>k ds
 |[.str l]=>k (l.map fun c=>.str [c])
 |_=>False
def qJ(as:List D)(k:List D→Prop):Prop:=
 match as with
 |[.lst ds]=>match bH ds with |some ls=>ls.length < 64∧∀ls':List (List Nat),ls'.Perm ls→PyProof.Rows.sortedS (ls'.map tx)=true→k (ls'.map D.str) |none=>False
 |_=>False
def cB:Lf→List D→(List D→Prop)→Prop
 |.list=>qI
 |.sorted=>qJ
def isT(t:String)(d:D):Option Bool:=
 match d with
 |.non=>some false
 |.bl _=>some (t=="bool"||t=="int")
 |.int _=>some (t=="int")
 |.str _=>some (t=="str")
 |.tup _=>some (t=="tuple")
 |.lst _=>some (t=="list")
 |_=>none
def dW (t:String):Bool:=t=="bool"||t=="int"||t=="str"||t=="tuple"||t=="list"
def lD(o:D)(as:List D)(G:DH)(k:D→DH→Prop):Prop:=
 match o,as with
 |.str s,[.lst ds]=>match bH ds with |some ls=>((ls.map (·.length)).sum+ls.length * s.length≤sz)∧k (.str (cY s ls)) G |none=>False
 |_,_=>False
def lE(o:D)(as:List D)(G:DH)(k:D→DH→Prop):Prop:=
 match o,as with
 |.ref p,[x]=>match G p with |some (.lst ds)=>ds.length < sz∧k .non (aR G p (.lst (ds++[x]))) |none=>False
 |_,_=>False
def lF(o:D)(as:List D)(G:DH)(k:D→DH→Prop):Prop:=
 match o,as with
 |.ref p,[.lst xs]=>match G p with |some (.lst ds)=>ds.length+xs.length < sz∧k .non (aR G p (.lst (ds++xs))) |none=>False
 |_,_=>False
def lG(o:D)(as:List D)(G:DH)(k:D→DH→Prop):Prop:=
 match o,as with
 |.ref p,[.int i,x]=>match G p with |some (.lst ds)=>ds.length < sz∧0≤i∧i≤1000000∧k .non (aR G p (.lst (ds.take i.toNat++x::ds.drop i.toNat))) |none=>False
 |_,_=>False
def lH(o:D)(as:List D)(G:DH)(k:D→DH→Prop):Prop:=
 match o,as with
 |.lst ds,[.bl true]=>match bools ds with |some bs=>k (.int (bs.count true:Nat)) G |none=>False
 |_,_=>False
def lJ(o:D)(as:List D)(G:DH)(k:D→DH→Prop):Prop:=
 match o,as with
 |.lst ds,[.bl true]=>match bools ds with |some bs=>true∈bs∧k (.int (bs.idxOf true:Nat)) G |none=>False
 |_,_=>False
def qK:D→Prop
 |.lst _=>True
 |_=>False
def recv(m:Mf)(o:D)(G:DH):Prop:=
 match m,o with
 |.join,.str _=>True
 |.append,.ref p=>match G p with |some (.lst _)=>True |none=>False
 |.extend,.ref p=>match G p with |some (.lst _)=>True |none=>False
 |.insert,.ref p=>match G p with |some (.lst _)=>True |none=>False
 |.count,o=>qK (view G o)
 |.index,o=>qK (view G o)
 |_,_=>False
def opM:Mf→D→List D→DH→(D→DH→Prop)→Prop
 |.join,o,as,G,k=>lD o (as.map (view G)) G k
 |.append,o,as,G,k=>lE o as G k
 |.extend,o,as,G,k=>lF o (as.map (view G)) G k
 |.insert,o,as,G,k=>lG o as G k
 |.count,o,as,G,k=>lH (view G o) as G k
 |.index,o,as,G,k=>lJ (view G o) as G k
def dX (C C':String):Bool:=C==C'||C'=="SieveError"||C'=="ValueError"
mutual
inductive Tg where
 |nm (i:Nat)
 |tp (ts:Tgs)
inductive Tgs where
 |nil
 |cons (t:Tg) (r:Tgs)
end
mutual
inductive Ex where
 |var (i:Nat)
 |cst (d:D)
 |glb (x:String) (d:D)
 |bin (op:Operator) (fz:Bool) (a b:Ex)
 |neg (a:Ex)
 |cmp (op:CmpOp) (a b:Ex)
 |chn (op op':CmpOp) (a b c:Ex)
 |not (a:Ex)
 |boo (isAnd:Bool) (e:Ex) (es:Exs)
 |ife (c:Tx) (a b:Ex)
 |tup (es:Exs)
 |lst (fz:Bool) (es:Exs)
 |idx (a i:Ex)
 |slc (fz:Bool) (a:Ex) (lo hi:Ox)
 |rvs (fz:Bool) (a s:Ex)
 |call (f:String) (es:Exs)
 |bcl (f:Bf) (es:Exs)
 |lcl (fz:Bool) (f:Lf) (es:Exs)
 |isi (a:Ex) (t:String)
 |isx (a:Ex) (C:String) (xs:List String)
 |fst (es:Exs)
 |mth (m:Mf) (o:Ex) (es:Exs)
 |comp (fz:Bool) (elt:Ex) (tg:Tg) (it:It') (cond:Tx) (N:List String) (cap:List (Option Nat))
 |frz (a:Ex)
inductive Exs where
 |nil
 |cons (e:Ex) (es:Exs)
/-- a test -/
inductive Tx where
 |val (e:Ex)
 |not (t:Tx)
 |boo (isAnd:Bool) (t:Tx) (ts:Txs)
 |yes
inductive Txs where
 |nil
 |cons (t:Tx) (ts:Txs)
/-- a bound of a slice -/
inductive Ox where
 |no
 |ob (e:Ex)
/-- what a loop walks -/
inductive It' where
 |seq (e:Ex)
 |rng (a:Ex)
 |rng2 (a b:Ex)
 |rev (a:Ex)
 |dwn (a b c:Ex)
 |enm (e:Ex)
 |zip (a b:Ex)
end
inductive Tb where
 |call (f:String) (es:Exs)
 |asg (i:Nat) (f:String) (es:Exs)
 |ite (c:Tx) (a b:Tb)
inductive Hd where
 |flag (i:Nat) (b:Bool)
 |bind (n i:Nat)
mutual
inductive Sx where
 |exp (e:Ex)
 |asg (t:Tg) (e:Ex)
 |set (o i e:Ex)
 |aug (i:Nat) (op:Operator) (e:Ex)
 |augs (o i:Ex) (op:Operator) (e:Ex)
 |ret (e:Ex)
 |rtn
 |ite (c:Tx) (a b:Sxs)
 |for_ (t:Tg) (it:It') (body:Sxs)
 |whl (c:Tx) (body:Sxs)
 |pas
 |brk
 |cnt
 |nev
 |rse (C:String) (es:Exs)
 |tryc (f:String) (es:Exs) (C:String) (i:Nat) (b:Bool)
 |tryx (b:Tb) (C:String) (h:Hd) (xs:List String)
inductive Sxs where
 |nil
 |cons (s:Sx) (r:Sxs)
end
structure Xn where
 cls:String
 fld:D
structure Spec where
 A:Type
 pre:List D→DH→A→Prop
 post:A→D→DH→Prop
 exc:A→Xn→DH→Prop
abbrev EK:=Xn→DH→Prop
def Spec.t(S:Spec)(ds:List D)(G:DH)(Q:D→DH→Prop)(E:EK):Prop:=
 ∃a,S.pre ds G a∧(∀d G',S.post a d G'→Q d G')∧∀x G',S.exc a x G'→E x G'
theorem Spec.mono{S:Spec}{ds:List D}{G:DH}{Q Q':D→DH→Prop}{E E':EK}(h:S.t ds G Q E)(hq:∀d G',Q d G'→Q' d G')(he:∀x G',E x G'→E' x G'):S.t ds G Q' E':=by
 obtain ⟨a,h1,h2,h3⟩:=h
 exact ⟨a,h1,fun d G' q=>hq _ _ (h2 d G' q),fun x G' q=>he _ _ (h3 x G' q)⟩
abbrev aj:=String→Spec
mutual
def aQ:Tg→D→aa→DH→(aa→Prop)→Prop
 |.nm i,d,ρ,_,k=>k (ρ.set i (some d))
 |.tp ts,d,ρ,G,k=>match d with |.tup ds=>bj ts ds ρ G k |.lst ds=>bj ts ds ρ G k |_=>False
def bj:Tgs→List D→aa→DH→(aa→Prop)→Prop
 |.nil,ds,ρ,_,k=>match ds with |[]=>k ρ |_=>False
 |.cons t r,ds,ρ,G,k=>match ds with |d::ds=>aQ t d ρ G (fun ρ'=>bj r ds ρ' G k) |[]=>False
end
abbrev Hld:=List (Addr×List D)
def held:Hld→DH→Prop
 |[],_=>True
 | (a,ds)::r,G=>G a=some (.lst ds)∧held r G
def compLoop(step:D→aa→DH→(Option D→aa→DH→Prop)→Prop)(g:Hld):List D→List D→aa→DH→(List D→DH→Prop)→Prop
 |[],acc,_,G,k=>held g G∧acc.length≤sz∧k acc G
 |d::ds,acc,ρ,G,k=>held g G∧acc.length < sz∧step d ρ G (fun o ρ' G'=>match o with |some y=>compLoop step g ds (acc++[y]) ρ' G' k |none=>compLoop step g ds acc ρ' G' k)
def cM:Nat→List D→List D
 |_,[]=>[]
 |i,d::ds=>.tup [.int i,d]::cM (i+1) ds
def bI:List D→List D→List D
 |a::as,b::bs=>.tup [a,b]::bI as bs
 |_,_=>[]
def itemsOf(G:DH):D→Option (List D×Hld)
 |.lst ds=>some (ds,[])
 |.tup ds=>some (ds,[])
 |.str l=>some (l.map fun c=>.str [c],[])
 |.ref p=>match G p with |some (.lst ds)=>some (ds,[(p,ds)]) |none=>none
 |_=>none
def bK(lo:Int)(n:Nat):List D:=(List.range n).map fun i=>.int (lo+(i:Nat))
def lK(lo:Int)(n:Nat):List D:=(List.range n).map fun i=>.int (lo - (i:Nat))
def noE:EK:=fun _ _=>False
mutual
def wpE(Φ:aj):Ex→EK→aa→DH→(D→DH→Prop)→Prop
 |.var i,_,ρ,G,k=>match ρ[i]? with |some (some d)=>k d G |_=>False
 |.cst d,_,_,G,k=>k d G
 |.glb _ d,_,_,G,k=>k d G
 |.bin op fz a b,E,ρ,G,k=>wpE Φ a E ρ G fun x G1=>wpE Φ b E ρ G1 fun y G2=>bR op fz (view G2 x) (view G2 y) G2 k
 |.neg a,E,ρ,G,k=>wpE Φ a E ρ G fun x G1=>match x with |.int i=>k (.int (-i)) G1 |_=>False
 |.cmp op a b,E,ρ,G,k=>wpE Φ a E ρ G fun x G1=>wpE Φ b E ρ G1 fun y G2=>aP op (view G2 x) (view G2 y) fun c=>k (.bl c) G2
 |.chn op op' a b c,E,ρ,G,k=>wpE Φ a E ρ G fun x G1=>wpE Φ b E ρ G1 fun y G2=>aP op (view G2 x) (view G2 y) fun t=>
   match t with
   |true=>wpE Φ c E ρ G2 fun z G3=>aP op' (view G3 y) (view G3 z) fun t'=>k (.bl t') G3
   |false=>k (.bl false) G2
 |.not a,E,ρ,G,k=>wpE Φ a E ρ G fun x G1=>match truth (view G1 x) with |some b=>k (.bl (!b)) G1 |none=>False
 |.boo isAnd e es,E,ρ,G,k=>wpE Φ e E ρ G fun d G1=>match d with |.bl b=>wpB Φ es isAnd b E ρ G1 (fun c G2=>k (.bl c) G2) |_=>False
 |.ife c a b,E,ρ,G,k=>wpT Φ c E ρ G fun t G1=>match t with |true=>wpE Φ a E ρ G1 k |false=>wpE Φ b E ρ G1 k
 |.tup es,E,ρ,G,k=>aL Φ es E ρ G fun ds G1=>ds.length≤sz∧k (.tup ds) G1
 |.lst fz es,E,ρ,G,k=>aL Φ es E ρ G fun ds G1=>ds.length≤sz∧mk fz ds G1 k
 |.idx a i,E,ρ,G,k=>wpE Φ a E ρ G fun x G1=>wpE Φ i E ρ G1 fun y G2=>bZ (view G2 x) y fun d=>k d G2
 |.slc fz a lo hi,E,ρ,G,k=>wpE Φ a E ρ G fun x G1=>wpO Φ lo E ρ G1 fun l G2=>wpO Φ hi E ρ G2 fun h G3=>cX fz (view G3 x) l h G3 k
 |.rvs fz a s,E,ρ,G,k=>wpE Φ a E ρ G fun x G1=>wpE Φ s E ρ G1 fun y G2=>gP fz (view G2 x) y G2 k
 |.call f es,E,ρ,G,k=>aL Φ es E ρ G fun ds G1=>(Φ f).t ds G1 k E
 |.bcl f es,E,ρ,G,k=>aL Φ es E ρ G fun ds G1=>opB f (ds.map (view G1)) fun d=>k d G1
 |.lcl fz f es,E,ρ,G,k=>aL Φ es E ρ G fun ds G1=>cB f (ds.map (view G1)) fun xs=>mk fz xs G1 k
 |.isi a t,E,ρ,G,k=>wpE Φ a E ρ G fun x G1=>match isT t (view G1 x) with |some b=>k (.bl b) G1 |none=>False
 |.isx a C xs,E,ρ,G,k=>wpE Φ a E ρ G fun x G1=>match x with |.exn c=>xs.contains c=true∧k (.bl (dX c C)) G1 |_=>False
 |.fst es,E,ρ,G,k=>wpF Φ es E ρ G fun l G1=>l.length≤sz∧k (.str l) G1
 |.mth m o es,E,ρ,G,k=>wpE Φ o E ρ G fun x G1=>recv m x G1∧aL Φ es E ρ G1 fun ds G2=>opM m x ds G2 k
 |.comp fz elt tg it cond _ cap,E,ρ,G,k=>wpI Φ it E ρ G fun items g G1=>
   compLoop (fun d ρ' G' k'=>aQ tg d ρ' G' fun ρ1=>wpT Φ cond noE ρ1 G' fun b G2=>match b with |true=>wpE Φ elt noE ρ1 G2 fun y G3=>k' (some y) ρ1 G3 |false=>k' none ρ1 G2)
    g items [] (cap.map fun o=>match o with |none=>none |some j=>(ρ[j]?).join) G1 fun ds G2=>mk fz ds G2 k
 |.frz a,E,ρ,G,k=>wpE Φ a E ρ G fun x G1=>match x with |.ref p=>(match G1 p with |some (.lst ds)=>k (.lst ds) (fO G1 p) |none=>False) |d=>k d G1
/-- a test -/
def wpT(Φ:aj):Tx→EK→aa→DH→(Bool→DH→Prop)→Prop
 |.not a,E,ρ,G,k=>wpT Φ a E ρ G fun b G1=>k (!b) G1
 |.boo isAnd e es,E,ρ,G,k=>wpT Φ e E ρ G fun b G1=>dY Φ es isAnd b E ρ G1 k
 |.yes,_,_,G,k=>k true G
 |.val x,E,ρ,G,k=>wpE Φ x E ρ G fun d G1=>match truth (view G1 d) with |some b=>k b G1 |none=>False
def wpF(Φ:aj):Exs→EK→aa→DH→(List Nat→DH→Prop)→Prop
 |.nil,_,_,G,k=>k [] G
 |.cons e es,E,ρ,G,k=>wpE Φ e E ρ G fun d G1=>match d with
  |.str l=>l.length≤1000∧wpF Φ es E ρ G1 fun x G2=>k (l++x) G2
  |.int i=>(0≤i∧i < 100)∧wpF Φ es E ρ G1 fun x G2=>k (dU i.toNat++x) G2
  |_=>False
def aL(Φ:aj):Exs→EK→aa→DH→(List D→DH→Prop)→Prop
 |.nil,_,_,G,k=>k [] G
 |.cons e es,E,ρ,G,k=>wpE Φ e E ρ G fun d G1=>aL Φ es E ρ G1 fun ds G2=>k (d::ds) G2
/-- and,or as values:truths alone;b:the one ahead -/
def wpB(Φ:aj):Exs→Bool→Bool→EK→aa→DH→(Bool→DH→Prop)→Prop
 |.nil,_,b,_,_,G,k=>k b G
 |.cons e es,isAnd,b,E,ρ,G,k=>match isAnd,b with
  |true,false=>k false G
  |false,true=>k true G
  |_,_=>wpE Φ e E ρ G fun d G1=>match d with |.bl b'=>wpB Φ es isAnd b' E ρ G1 k |_=>False
def dY(Φ:aj):Txs→Bool→Bool→EK→aa→DH→(Bool→DH→Prop)→Prop
 |.nil,_,b,_,_,G,k=>k b G
 |.cons e es,isAnd,b,E,ρ,G,k=>match isAnd,b with
  |true,false=>k false G
  |false,true=>k true G
  |_,_=>wpT Φ e E ρ G fun b' G1=>dY Φ es isAnd b' E ρ G1 k
/-- a bound of a slice -/
def wpO(Φ:aj):Ox→EK→aa→DH→(Option Int→DH→Prop)→Prop
 |.no,_,_,G,k=>k none G
 |.ob x,E,ρ,G,k=>wpE Φ x E ρ G fun d G1=>match d with |.int i=>k (some i) G1 |_=>False
def wpI(Φ:aj):It'→EK→aa→DH→(List D→Hld→DH→Prop)→Prop
 |.seq e,E,ρ,G,k=>wpE Φ e E ρ G fun d G1=>match itemsOf G1 d with |some ds=>k ds.1 ds.2 G1 |none=>False
 |.rng a,E,ρ,G,k=>wpE Φ a E ρ G fun d G1=>match d with |.int n=>(-(2 ^ 62)≤n∧n < 2 ^ 62)∧k (bK 0 n.toNat) [] G1 |_=>False
 |.rng2 a b,E,ρ,G,k=>wpE Φ a E ρ G fun x G1=>wpE Φ b E ρ G1 fun y G2=>match x,y with
  |.int m,.int n=>(-(2 ^ 62)≤m∧m < 2 ^ 62∧-(2 ^ 62)≤n∧n < 2 ^ 62)∧k (bK m (n - m).toNat) [] G2
  |_,_=>False
 |.rev a,E,ρ,G,k=>wpE Φ a E ρ G fun d G1=>match d with |.int n=>(-(2 ^ 62)≤n∧n < 2 ^ 62)∧k (lK ((n.toNat:Int) - 1) n.toNat) [] G1 |_=>False
 |.dwn a b c,E,ρ,G,k=>wpE Φ a E ρ G fun x G1=>wpE Φ b E ρ G1 fun y G2=>wpE Φ c E ρ G2 fun z G3=>match x,y,z with
  |.int m,.int n,.int s=>(s=-1∧-(2 ^ 62)≤m∧m < 2 ^ 62∧-(2 ^ 62)≤n∧n < 2 ^ 62)∧k (lK m (m - n).toNat) [] G3
  |_,_,_=>False
 |.enm e,E,ρ,G,k=>wpE Φ e E ρ G fun d G1=>match itemsOf G1 d with |some ds=>k (cM 0 ds.1) ds.2 G1 |none=>False
 |.zip a b,E,ρ,G,k=>wpE Φ a E ρ G fun x G1=>wpE Φ b E ρ G1 fun y G2=>match itemsOf G2 x,itemsOf G2 y with |some ds,some es=>k (bI ds.1 es.1) (ds.2++es.2) G2 |_,_=>False
end
structure En where
 nx:aa→DH→Prop
 rt:D→DH→Prop
 bk:aa→DH→Prop
 ct:aa→DH→Prop
def forLoop(step:D→aa→DH→(aa→DH→Prop)→Prop)(g:Hld):List D→aa→DH→(aa→DH→Prop)→Prop
 |[],ρ,G,k=>held g G∧k ρ G
 |d::ds,ρ,G,k=>held g G∧step d ρ G fun ρ' G'=>forLoop step g ds ρ' G' k
def whileLoop(test:aa→DH→(Bool→DH→Prop)→Prop)(body:aa→DH→(aa→DH→Prop)→Prop):Nat→aa→DH→(aa→DH→Prop)→Prop
 |0,_,_,_=>False
 |n+1,ρ,G,k=>test ρ G fun b G1=>match b with |true=>body ρ G1 fun ρ' G'=>whileLoop test body n ρ' G' k |false=>k ρ G1
def cZ(o i x:D)(G:DH)(k:DH→Prop):Prop:=
 match o,i with
 |.ref p,.int i=>match G p with |some (.lst ds)=>(match ixN ds.length i with |some j=>k (aR G p (.lst (ds.set j x))) |none=>False) |none=>False
 |_,_=>False
def dz(op:Operator)(a b:D)(k:D→Prop):Prop:=
 match op,a,b with
 |.Add,.int i,.int j=>k (.int (i+j))
 |.Add,.str x,.str y=>x.length+y.length≤sz∧k (.str (x++y))
 |.Sub,.int i,.int j=>k (.int (i - j))
 |_,_,_=>False
def qL:D→Bool
 |.int i=>decide (0≤i)&&decide (i < 100)
 |_=>false
def wpM(Φ:aj):Exs→EK→aa→DH→(DH→Prop)→Prop
 |.nil,_,_,G,k=>k G
 |.cons e es,E,ρ,G,k=>wpE Φ e E ρ G fun d G1=>qL d=true∧wpM Φ es E ρ G1 k
def wpX(Φ:aj):Tb→aa→DH→(aa→DH→Prop)→(Xn→aa→DH→Prop)→Prop
 |.call f es,ρ,G,nx,ex=>aL Φ es noE ρ G fun ds G1=>(Φ f).t ds G1 (fun _ G2=>nx ρ G2) fun x G2=>ex x ρ G2
 |.asg i f es,ρ,G,nx,ex=>aL Φ es noE ρ G fun ds G1=>(Φ f).t ds G1 (fun d G2=>nx (ρ.set i (some d)) G2) fun x G2=>ex x ρ G2
 |.ite c a b,ρ,G,nx,ex=>wpT Φ c noE ρ G fun t G1=>match t with |true=>wpX Φ a ρ G1 nx ex |false=>wpX Φ b ρ G1 nx ex
def caught(h:Hd)(C:String)(ρ:aa):aa:=match h with
 |.flag i b=>ρ.set i (some (.bl b))
 |.bind n i=>((ρ.set n (some (.exn C))).set i (some (.exn C))).set n none
mutual
def wpS(Φ:aj):Sx→EK→aa→DH→En→Prop
 |.exp e,E,ρ,G,D=>wpE Φ e E ρ G fun _ G1=>D.nx ρ G1
 |.asg t e,E,ρ,G,D=>wpE Φ e E ρ G fun d G1=>aQ t d ρ G1 fun ρ'=>D.nx ρ' G1
 |.set o i e,E,ρ,G,D=>wpE Φ e E ρ G fun x G1=>wpE Φ o E ρ G1 fun a G2=>wpE Φ i E ρ G2 fun y G3=>cZ a y x G3 fun G4=>D.nx ρ G4
 |.aug i op e,E,ρ,G,D=>match ρ[i]? with
  |some (some a)=>wpE Φ e E ρ G fun b G1=>dz op a b fun c=>D.nx (ρ.set i (some c)) G1
  |_=>False
 |.augs o i op e,E,ρ,G,D=>wpE Φ o E ρ G fun a G1=>wpE Φ i E ρ G1 fun y G2=>bZ (view G2 a) y fun old=>wpE Φ e E ρ G2 fun b G3=>dz op old b fun c=>cZ a y c G3 fun G4=>D.nx ρ G4
 |.ret e,E,ρ,G,D=>wpE Φ e E ρ G D.rt
 |.rtn,_,_,G,D=>D.rt .non G
 |.ite c a b,E,ρ,G,D=>wpT Φ c E ρ G fun t G1=>match t with |true=>aq Φ a E ρ G1 D |false=>aq Φ b E ρ G1 D
 |.for_ t it body,E,ρ,G,D=>wpI Φ it E ρ G fun items g G1=>
   forLoop (fun d ρ' G' k=>aQ t d ρ' G' fun ρ1=>aq Φ body E ρ1 G' { D with nx:=k,ct:=k,bk:=D.nx }) g items ρ G1 D.nx
 |.whl c body,E,ρ,G,D=>∃n,whileLoop (fun ρ' G' k=>wpT Φ c E ρ' G' k) (fun ρ' G' k=>aq Φ body E ρ' G' { D with nx:=k,ct:=k,bk:=D.nx }) n ρ G D.nx
 |.pas,_,ρ,G,D=>D.nx ρ G
 |.brk,_,ρ,G,D=>D.bk ρ G
 |.cnt,_,ρ,G,D=>D.ct ρ G
 |.nev,_,_,_,_=>False
 |.rse C es,E,ρ,G,_=>wpM Φ es E ρ G fun G1=>E ⟨C,.non⟩ G1
 |.tryc f es C i b,_,ρ,G,D=>aL Φ es noE ρ G fun ds G1=>(Φ f).t ds G1 (fun _ G2=>D.nx ρ G2) fun x G2=>x.cls=C∧x.fld=.non∧D.nx (ρ.set i (some (.bl b))) G2
 |.tryx b C h xs,_,ρ,G,D=>wpX Φ b ρ G D.nx fun x ρ' G'=>x.fld=.non∧xs.contains x.cls=true∧dX x.cls C=true∧D.nx (caught h x.cls ρ') G'
def aq(Φ:aj):Sxs→EK→aa→DH→En→Prop
 |.nil,_,ρ,G,D=>D.nx ρ G
 |.cons s r,E,ρ,G,D=>wpS Φ s E ρ G { D with nx:=fun ρ' G'=>aq Φ r E ρ' G' D }
end
theorem lL{Φ:aj}{a}{E}{ρ}{G}{k}:wpT Φ (.not a) E ρ G k=(wpT Φ a E ρ G fun b G1=>k (!b) G1):=rfl
theorem lM{Φ:aj}{isAnd}{e}{es}{E}{ρ}{G}{k}:wpT Φ (.boo isAnd e es) E ρ G k=(wpT Φ e E ρ G fun b G1=>dY Φ es isAnd b E ρ G1 k):=rfl
theorem lN{Φ:aj}{E}{ρ}{G}{k}:wpT Φ .yes E ρ G k=(k true G):=rfl
theorem lO{Φ:aj}{x}{E}{ρ}{G}{k}:wpT Φ (.val x) E ρ G k=(wpE Φ x E ρ G fun d G1=>match truth (view G1 d) with |some b=>k b G1 |none=>False):=rfl
theorem fQ{Φ:aj}{E}{ρ}{G}{k}:aL Φ .nil E ρ G k=(k [] G):=rfl
theorem eU{Φ:aj}{e}{es}{E}{ρ}{G}{k}:aL Φ (.cons e es) E ρ G k=(wpE Φ e E ρ G fun d G1=>aL Φ es E ρ G1 fun ds G2=>k (d::ds) G2):=rfl
theorem lQ{Φ:aj}{isAnd:Bool}{b:Bool}{E}{ρ}{G}{k}:wpB Φ .nil isAnd b E ρ G k=(k b G):=rfl
theorem iT{Φ:aj}{e}{es}{isAnd:Bool}{b:Bool}{E}{ρ}{G}{k}:wpB Φ (.cons e es) isAnd b E ρ G k=(match isAnd,b with
  |true,false=>k false G
  |false,true=>k true G
  |_,_=>wpE Φ e E ρ G fun d G1=>match d with |.bl b'=>wpB Φ es isAnd b' E ρ G1 k |_=>False):=rfl
theorem lR{Φ:aj}{isAnd:Bool}{b:Bool}{E}{ρ}{G}{k}:dY Φ .nil isAnd b E ρ G k=(k b G):=rfl
theorem iU{Φ:aj}{e}{es}{isAnd:Bool}{b:Bool}{E}{ρ}{G}{k}:dY Φ (.cons e es) isAnd b E ρ G k=(match isAnd,b with
  |true,false=>k false G
  |false,true=>k true G
  |_,_=>wpT Φ e E ρ G fun b' G1=>dY Φ es isAnd b' E ρ G1 k):=rfl
theorem lU{Φ:aj}{E}{ρ}{G}{k}:wpO Φ .no E ρ G k=(k none G):=rfl
theorem lV{Φ:aj}{x}{E}{ρ}{G}{k}:wpO Φ (.ob x) E ρ G k=(wpE Φ x E ρ G fun d G1=>match d with |.int i=>k (some i) G1 |_=>False):=rfl
theorem lW{Φ:aj}{e}{E}{ρ}{G}{k}:wpI Φ (.seq e) E ρ G k=(wpE Φ e E ρ G fun d G1=>match itemsOf G1 d with |some ds=>k ds.1 ds.2 G1 |none=>False):=rfl
theorem lX{Φ:aj}{a}{E}{ρ}{G}{k}:wpI Φ (.rng a) E ρ G k=(wpE Φ a E ρ G fun d G1=>match d with |.int n=>(-(2 ^ 62)≤n∧n < 2 ^ 62)∧k (bK 0 n.toNat) [] G1 |_=>False):=rfl
theorem qM{Φ:aj}{a}{b}{E}{ρ}{G}{k}:wpI Φ (.rng2 a b) E ρ G k=(wpE Φ a E ρ G fun x G1=>wpE Φ b E ρ G1 fun y G2=>match x,y with
  |.int m,.int n=>(-(2 ^ 62)≤m∧m < 2 ^ 62∧-(2 ^ 62)≤n∧n < 2 ^ 62)∧k (bK m (n - m).toNat) [] G2
  |_,_=>False):=rfl
theorem qN{Φ:aj}{a}{E}{ρ}{G}{k}:wpI Φ (.rev a) E ρ G k=(wpE Φ a E ρ G fun d G1=>match d with |.int n=>(-(2 ^ 62)≤n∧n < 2 ^ 62)∧k (lK ((n.toNat:Int) - 1) n.toNat) [] G1 |_=>False):=rfl
theorem qO{Φ:aj}{a}{b}{c}{E}{ρ}{G}{k}:wpI Φ (.dwn a b c) E ρ G k=(wpE Φ a E ρ G fun x G1=>wpE Φ b E ρ G1 fun y G2=>wpE Φ c E ρ G2 fun z G3=>match x,y,z with
  |.int m,.int n,.int s=>(s=-1∧-(2 ^ 62)≤m∧m < 2 ^ 62∧-(2 ^ 62)≤n∧n < 2 ^ 62)∧k (lK m (m - n).toNat) [] G3
  |_,_,_=>False):=rfl
theorem lY{Φ:aj}{e}{E}{ρ}{G}{k}:wpI Φ (.enm e) E ρ G k=(wpE Φ e E ρ G fun d G1=>match itemsOf G1 d with |some ds=>k (cM 0 ds.1) ds.2 G1 |none=>False):=rfl
theorem lZ{Φ:aj}{a}{b}{E}{ρ}{G}{k}:wpI Φ (.zip a b) E ρ G k=(wpE Φ a E ρ G fun x G1=>wpE Φ b E ρ G1 fun y G2=>match itemsOf G2 x,itemsOf G2 y with |some ds,some es=>k (bI ds.1 es.1) (ds.2++es.2) G2 |_,_=>False):=rfl
theorem gQ{Φ:aj}{E}{ρ}{G}{D}:aq Φ .nil E ρ G D=(D.nx ρ G):=rfl
theorem gR{Φ:aj}{s}{r}{E}{ρ}{G}{D}:aq Φ (.cons s r) E ρ G D=(wpS Φ s E ρ G { D with nx:=fun ρ' G'=>aq Φ r E ρ' G' D }):=rfl
theorem mj{Φ:aj}{i E ρ G k}:wpE Φ (.var i) E ρ G k=(match ρ[i]? with |some (some d)=>k d G |_=>False):=rfl
theorem fU{Φ:aj}{d E ρ G k}:wpE Φ (.cst d) E ρ G k=(k d G):=rfl
theorem mq{Φ:aj}{u0 d E ρ G k}:wpE Φ (.glb u0 d) E ρ G k=(k d G):=rfl
theorem my{Φ:aj}{op fz a b E ρ G k}:wpE Φ (.bin op fz a b) E ρ G k=(wpE Φ a E ρ G fun x G1=>wpE Φ b E ρ G1 fun y G2=>bR op fz (view G2 x) (view G2 y) G2 k):=rfl
theorem mz{Φ:aj}{a E ρ G k}:wpE Φ (.neg a) E ρ G k=(wpE Φ a E ρ G fun x G1=>match x with |.int i=>k (.int (-i)) G1 |_=>False):=rfl
theorem mC{Φ:aj}{op a b E ρ G k}:wpE Φ (.cmp op a b) E ρ G k=(wpE Φ a E ρ G fun x G1=>wpE Φ b E ρ G1 fun y G2=>aP op (view G2 x) (view G2 y) fun c=>k (.bl c) G2):=rfl
theorem mD{Φ:aj}{op op' a b c E ρ G k}:wpE Φ (.chn op op' a b c) E ρ G k=(wpE Φ a E ρ G fun x G1=>wpE Φ b E ρ G1 fun y G2=>aP op (view G2 x) (view G2 y) fun t=>
   match t with
   |true=>wpE Φ c E ρ G2 fun z G3=>aP op' (view G3 y) (view G3 z) fun t'=>k (.bl t') G3
   |false=>k (.bl false) G2):=rfl
theorem mF{Φ:aj}{a E ρ G k}:wpE Φ (.not a) E ρ G k=(wpE Φ a E ρ G fun x G1=>match truth (view G1 x) with |some b=>k (.bl (!b)) G1 |none=>False):=rfl
theorem mG{Φ:aj}{isAnd e es E ρ G k}:wpE Φ (.boo isAnd e es) E ρ G k=(wpE Φ e E ρ G fun d G1=>match d with |.bl b=>wpB Φ es isAnd b E ρ G1 (fun c G2=>k (.bl c) G2) |_=>False):=rfl
theorem qP{Φ:aj}{c a b E ρ G k}:wpE Φ (.ife c a b) E ρ G k=(wpT Φ c E ρ G fun t G1=>match t with |true=>wpE Φ a E ρ G1 k |false=>wpE Φ b E ρ G1 k):=rfl
theorem mH{Φ:aj}{es E ρ G k}:wpE Φ (.tup es) E ρ G k=(aL Φ es E ρ G fun ds G1=>ds.length≤sz∧k (.tup ds) G1):=rfl
theorem mJ{Φ:aj}{fz es E ρ G k}:wpE Φ (.lst fz es) E ρ G k=(aL Φ es E ρ G fun ds G1=>ds.length≤sz∧mk fz ds G1 k):=rfl
theorem mK{Φ:aj}{a i E ρ G k}:wpE Φ (.idx a i) E ρ G k=(wpE Φ a E ρ G fun x G1=>wpE Φ i E ρ G1 fun y G2=>bZ (view G2 x) y fun d=>k d G2):=rfl
theorem qQ{Φ:aj}{fz a s E ρ G k}:wpE Φ (.rvs fz a s) E ρ G k=(wpE Φ a E ρ G fun x G1=>wpE Φ s E ρ G1 fun y G2=>gP fz (view G2 x) y G2 k):=rfl
theorem mL{Φ:aj}{fz a lo hi E ρ G k}:wpE Φ (.slc fz a lo hi) E ρ G k=(wpE Φ a E ρ G fun x G1=>wpO Φ lo E ρ G1 fun l G2=>wpO Φ hi E ρ G2 fun h G3=>cX fz (view G3 x) l h G3 k):=rfl
theorem mO{Φ:aj}{f es E ρ G k}:wpE Φ (.call f es) E ρ G k=(aL Φ es E ρ G fun ds G1=>(Φ f).t ds G1 k E):=rfl
theorem mQ{Φ:aj}{f es E ρ G k}:wpE Φ (.bcl f es) E ρ G k=(aL Φ es E ρ G fun ds G1=>opB f (ds.map (view G1)) fun d=>k d G1):=rfl
theorem mR{Φ:aj}{fz f es E ρ G k}:wpE Φ (.lcl fz f es) E ρ G k=(aL Φ es E ρ G fun ds G1=>cB f (ds.map (view G1)) fun xs=>mk fz xs G1 k):=rfl
theorem mU{Φ:aj}{a t E ρ G k}:wpE Φ (.isi a t) E ρ G k=(wpE Φ a E ρ G fun x G1=>match isT t (view G1 x) with |some b=>k (.bl b) G1 |none=>False):=rfl
theorem qR{Φ:aj}{a C xs E ρ G k}:wpE Φ (.isx a C xs) E ρ G k=(wpE Φ a E ρ G fun x G1=>match x with |.exn c=>xs.contains c=true∧k (.bl (dX c C)) G1 |_=>False):=rfl
theorem qT{Φ:aj}{es E ρ G k}:wpE Φ (.fst es) E ρ G k=(wpF Φ es E ρ G fun l G1=>l.length≤sz∧k (.str l) G1):=rfl
theorem qU{Φ:aj}{E ρ G k}:wpF Φ .nil E ρ G k=k [] G:=rfl
theorem qW{Φ:aj}{e es E ρ G k}:wpF Φ (.cons e es) E ρ G k=(wpE Φ e E ρ G fun d G1=>match d with
  |.str l=>l.length≤1000∧wpF Φ es E ρ G1 fun x G2=>k (l++x) G2
  |.int i=>(0≤i∧i < 100)∧wpF Φ es E ρ G1 fun x G2=>k (dU i.toNat++x) G2
  |_=>False):=rfl
theorem dZ{Φ:aj}{m o es E ρ G k}:wpE Φ (.mth m o es) E ρ G k=(wpE Φ o E ρ G fun x G1=>recv m x G1∧aL Φ es E ρ G1 fun ds G2=>opM m x ds G2 k):=rfl
theorem mV{Φ:aj}{a E ρ G k}:wpE Φ (.frz a) E ρ G k=(wpE Φ a E ρ G fun x G1=>match x with |.ref p=>(match G1 p with |some (.lst ds)=>k (.lst ds) (fO G1 p) |none=>False) |d=>k d G1):=rfl
theorem mW{Φ:aj}{e E ρ G D}:wpS Φ (.exp e) E ρ G D=(wpE Φ e E ρ G fun _ G1=>D.nx ρ G1):=rfl
theorem gU{Φ:aj}{t e E ρ G D}:wpS Φ (.asg t e) E ρ G D=(wpE Φ e E ρ G fun d G1=>aQ t d ρ G1 fun ρ'=>D.nx ρ' G1):=rfl
theorem mX{Φ:aj}{o i e E ρ G D}:wpS Φ (.set o i e) E ρ G D=(wpE Φ e E ρ G fun x G1=>wpE Φ o E ρ G1 fun a G2=>wpE Φ i E ρ G2 fun y G3=>cZ a y x G3 fun G4=>D.nx ρ G4):=rfl
theorem qX{Φ:aj}{i op e E ρ G D}:wpS Φ (.aug i op e) E ρ G D=(match ρ[i]? with
  |some (some a)=>wpE Φ e E ρ G fun b G1=>dz op a b fun c=>D.nx (ρ.set i (some c)) G1
  |_=>False):=rfl
theorem qY{Φ:aj}{o i op e E ρ G D}:wpS Φ (.augs o i op e) E ρ G D=(wpE Φ o E ρ G fun a G1=>wpE Φ i E ρ G1 fun y G2=>bZ (view G2 a) y fun old=>wpE Φ e E ρ G2 fun b G3=>dz op old b fun c=>cZ a y c G3 fun G4=>D.nx ρ G4):=rfl
theorem mY{Φ:aj}{e E ρ G D}:wpS Φ (.ret e) E ρ G D=(wpE Φ e E ρ G D.rt):=rfl
theorem mZ{Φ:aj}{E ρ G D}:wpS Φ .rtn E ρ G D=(D.rt .non G):=rfl
theorem m5{Φ:aj}{c a b E ρ G D}:wpS Φ (.ite c a b) E ρ G D=(wpT Φ c E ρ G fun t G1=>match t with |true=>aq Φ a E ρ G1 D |false=>aq Φ b E ρ G1 D):=rfl
theorem m6{Φ:aj}{E ρ G D}:wpS Φ .pas E ρ G D=(D.nx ρ G):=rfl
theorem m7{Φ:aj}{E ρ G D}:wpS Φ .brk E ρ G D=(D.bk ρ G):=rfl
theorem m8{Φ:aj}{E ρ G D}:wpS Φ .cnt E ρ G D=(D.ct ρ G):=rfl
theorem iV{Φ:aj}{C es E ρ G D}:wpS Φ (.rse C es) E ρ G D=(wpM Φ es E ρ G fun G1=>E ⟨C,.non⟩ G1):=rfl
theorem qZ{Φ:aj}{E ρ G k}:wpM Φ .nil E ρ G k=k G:=rfl
theorem m9{Φ:aj}{e es E ρ G k}:wpM Φ (.cons e es) E ρ G k=(wpE Φ e E ρ G fun d G1=>qL d=true∧wpM Φ es E ρ G1 k):=rfl
theorem q8{Φ:aj}{f es C i b E ρ G D}:wpS Φ (.tryc f es C i b) E ρ G D=(aL Φ es noE ρ G fun ds G1=>(Φ f).t ds G1 (fun _ G2=>D.nx ρ G2) fun x G2=>x.cls=C∧x.fld=.non∧D.nx (ρ.set i (some (.bl b))) G2):=rfl
theorem iW{Φ:aj}{b C h xs E ρ G D}:wpS Φ (.tryx b C h xs) E ρ G D=(wpX Φ b ρ G D.nx fun x ρ' G'=>x.fld=.non∧xs.contains x.cls=true∧dX x.cls C=true∧D.nx (caught h x.cls ρ') G'):=rfl
theorem ni{Φ:aj}{f es ρ G nx ex}:wpX Φ (.call f es) ρ G nx ex=(aL Φ es noE ρ G fun ds G1=>(Φ f).t ds G1 (fun _ G2=>nx ρ G2) fun x G2=>ex x ρ G2):=rfl
theorem nq{Φ:aj}{i f es ρ G nx ex}:wpX Φ (.asg i f es) ρ G nx ex=(aL Φ es noE ρ G fun ds G1=>(Φ f).t ds G1 (fun d G2=>nx (ρ.set i (some d)) G2) fun x G2=>ex x ρ G2):=rfl
theorem nu{Φ:aj}{c a b ρ G nx ex}:wpX Φ (.ite c a b) ρ G nx ex=(wpT Φ c noE ρ G fun t G1=>match t with |true=>wpX Φ a ρ G1 nx ex |false=>wpX Φ b ρ G1 nx ex):=rfl
theorem nA{Φ:aj}{E ρ G D}:wpS Φ .nev E ρ G D=(False):=rfl
theorem q9{Φ:aj}{fz elt tg it cond N cap E ρ G k}:wpE Φ (.comp fz elt tg it cond N cap) E ρ G k=(wpI Φ it E ρ G fun items g G1=>
   compLoop (fun d ρ' G' k'=>aQ tg d ρ' G' fun ρ1=>wpT Φ cond noE ρ1 G' fun b G2=>match b with |true=>wpE Φ elt noE ρ1 G2 fun y G3=>k' (some y) ρ1 G3 |false=>k' none ρ1 G2)
    g items [] (cap.map fun o=>match o with |none=>none |some j=>(ρ[j]?).join) G1 fun ds G2=>mk fz ds G2 k):=rfl
theorem wM{Φ:aj}{t it body E ρ G D}:wpS Φ (.for_ t it body) E ρ G D=(wpI Φ it E ρ G fun items g G1=>
   forLoop (fun d ρ' G' k=>aQ t d ρ' G' fun ρ1=>aq Φ body E ρ1 G' { D with nx:=k,ct:=k,bk:=D.nx }) g items ρ G1 D.nx):=rfl
theorem Qi{Φ:aj}{c body E ρ G D}:wpS Φ (.whl c body) E ρ G D=(∃n,whileLoop (fun ρ' G' k=>wpT Φ c E ρ' G' k) (fun ρ' G' k=>aq Φ body E ρ' G' { D with nx:=k,ct:=k,bk:=D.nx }) n ρ G D.nx):=rfl
end RF
namespace RF
open PySem L2
section
variable {k k':D→DH→Prop} {G:DH}
theorem dB{fz:Bool}{xs:List D}(h:∀d G',k d G'→k' d G')(q:mk fz xs G k):mk fz xs G k':=by
 cases fz with
 |true=>exact h _ _ q
 |false=>exact fun p hp=>h _ _ (q p hp)
theorem wN{a b:D}{p:Int→Int→Prop}(h:eQ a b p):∃i j,a=.int i∧b=.int j∧p i j:=by
 cases a with
 |int i=>cases b with
  |int j=>exact ⟨i,j,rfl,rfl,h⟩
  |_=>exact h.elim
 |_=>exact h.elim
theorem nF{a b:D}{p q:Int→Int→Prop}(h:∀i j,p i j→q i j)(z:eQ a b p):eQ a b q:=by
 obtain ⟨i,j,rfl,rfl,z⟩:=wN z
 exact h i j z
theorem wO{op:Operator}{fz:Bool}{a b:D}(h:∀d G',k d G'→k' d G')(q:bR op fz a b G k):bR op fz a b G k':=by
 cases op with
 |Add=>
  have q:gC fz a b G k:=q
  show gC fz a b G k'
  unfold gC at q ⊢
  cases a with
  |int i=>cases b <;> first |exact h _ _ q |exact q
  |str i=>cases b <;> first |exact ⟨q.1,h _ _ q.2⟩ |exact q
  |lst i=>cases b <;> first |exact ⟨q.1,dB h q.2⟩ |exact q
  |tup i=>cases b <;> first |exact ⟨q.1,h _ _ q.2⟩ |exact q
  |_=>exact q
 |Sub=>exact nF (fun _ _ z=>h _ _ z) q
 |Mult=>
  have q:gD a b G k:=q
  show gD a b G k'
  unfold gD at q ⊢
  cases b with
  |int n=>cases a <;> first |exact ⟨q.1,h _ _ q.2⟩ |exact ⟨q.1,q.2.1,q.2.2.1,h _ _ q.2.2.2⟩ |exact ⟨q.1,q.2.1,q.2.2.1,q.2.2.2.1,h _ _ q.2.2.2.2⟩ |exact q
  |_=>exact q
 |FloorDiv=>exact nF (fun _ _ z=>⟨z.1,h _ _ z.2⟩) q
 |Mod=>exact nF (fun _ _ z=>⟨z.1,h _ _ z.2⟩) q
 |Pow=>exact nF (fun _ _ z=>⟨z.1,h _ _ z.2⟩) q
 |_=>exact q
theorem wQ{a b:D}{k k':Bool→Prop}(h:∀c,k c→k' c)(q:dR a b k):dR a b k':=by
 unfold dR at q ⊢
 split at q
 ·split at q
  ·exact h _ q
  ·exact q
 ·exact ⟨q.1,h _ q.2⟩
 ·exact ⟨q.1,h _ q.2⟩
 ·exact q
theorem fV{op:CmpOp}{a b:D}{k k':Bool→Prop}(h:∀c,k c→k' c)(q:aP op a b k):aP op a b k':=by
 cases op with
 |Eq=>exact ⟨q.1,h _ q.2⟩
 |NotEq=>exact ⟨q.1,h _ q.2⟩
 |Lt=>have q:gF a b k:=q;show gF a b k';unfold gF at q ⊢;split at q <;> first |exact h _ q |exact q
 |LtE=>have q:gG a b k:=q;show gG a b k';unfold gG at q ⊢;split at q <;> first |exact h _ q |exact q
 |Gt=>have q:gH a b k:=q;show gH a b k';unfold gH at q ⊢;split at q <;> first |exact h _ q |exact q
 |GtE=>have q:gJ a b k:=q;show gJ a b k';unfold gJ at q ⊢;split at q <;> first |exact h _ q |exact q
 |Is=>
  have q:gM a b k:=q
  show gM a b k'
  unfold gM at q ⊢
  split at q
  ·exact h _ q
  ·split at q
   ·exact h _ q
   ·exact q
  ·exact q
 |IsNot=>
  have q:gO a b k:=q
  show gO a b k'
  unfold gO at q ⊢
  split at q
  ·exact h _ q
  ·split at q
   ·exact h _ q
   ·exact q
  ·exact q
 |In=>exact wQ h q
 |NotIn=>exact wQ (fun c=>h _) q
theorem rm{a i:D}{k k':D→Prop}(h:∀c,k c→k' c)(q:bZ a i k):bZ a i k':=by
 unfold bZ at q ⊢
 split at q
 ·split at q
  ·exact h _ q
  ·exact q
 ·split at q
  ·exact h _ q
  ·exact q
 ·split at q
  ·exact h _ q
  ·exact q
 ·exact q
theorem wR{fz:Bool}{a:D}{lo hi:Option Int}(h:∀d G',k d G'→k' d G')(q:cX fz a lo hi G k):cX fz a lo hi G k':=by
 unfold cX at q ⊢
 split at q <;> first
  |exact dB h q
  |exact h _ _ q
  |exact q.elim
theorem Qj{fz:Bool}{a y:D}(h:∀d G',k d G'→k' d G')(q:gP fz a y G k):gP fz a y G k':=by
 unfold gP at q ⊢
 split at q
 ·exact ⟨q.1,dB h q.2⟩
 ·exact q.elim
theorem wU{f:Bf}{as:List D}{k k':D→Prop}(h:∀c,k c→k' c)(q:opB f as k):opB f as k':=by
 cases f with
 |len=>simp only[opB,qD]at q ⊢;split at q <;> first |exact h _ q |exact q.elim
 |all=>
  simp only[opB,lB]at q ⊢
  split at q
  ·split at q
   ·exact h _ q
   ·exact q
  ·exact q
 |int=>
  simp only[opB,lC]at q ⊢
  split at q
  ·exact h _ q
  ·exact h _ q
  ·split at q
   ·exact ⟨q.1,h _ q.2⟩
   ·exact q
  ·exact q
 |tuple=>simp only[opB,qF]at q ⊢;split at q <;> first |exact h _ q |exact q.elim
 |sum=>
  simp only[opB,qG]at q ⊢
  split at q
  ·split at q
   ·exact h _ q
   ·exact q
  ·exact q
 |min=>
  simp only[opB,wK]at q ⊢
  split at q
  ·split at q
   ·exact ⟨q.1,fun m h1 h2=>h _ (q.2 m h1 h2)⟩
   ·split at q
    ·exact fun m h1 h2=>h _ (q m h1 h2)
    ·exact q
  ·exact q
 |max=>simp only[opB,wL]at q ⊢;split at q <;> first |exact h _ q |exact q.elim
 |str=>
  simp only[opB,qH]at q ⊢
  split at q
  ·exact ⟨q.1,h _ q.2⟩
  ·exact q
theorem wV{f:Lf}{as:List D}{k k':List D→Prop}(h:∀c,k c→k' c)(q:cB f as k):cB f as k':=by
 cases f with
 |list=>simp only[cB,qI]at q ⊢;split at q <;> first |exact h _ q |exact q.elim
 |sorted=>
  simp only[cB,qJ]at q ⊢
  split at q
  ·split at q
   ·exact ⟨q.1,fun ls p z=>h _ (q.2 ls p z)⟩
   ·exact q
  ·exact q
theorem fW{m:Mf}{o:D}{as:List D}(h:∀d G',k d G'→k' d G')(q:opM m o as G k):opM m o as G k':=by
 cases m with
 |join=>
  simp only[opM,lD]at q ⊢
  split at q
  ·split at q
   ·exact ⟨q.1,h _ _ q.2⟩
   ·exact q
  ·exact q
 |append=>
  simp only[opM,lE]at q ⊢
  split at q
  ·split at q
   ·exact ⟨q.1,h _ _ q.2⟩
   ·exact q
  ·exact q
 |extend=>
  simp only[opM,lF]at q ⊢
  split at q
  ·split at q
   ·exact ⟨q.1,h _ _ q.2⟩
   ·exact q
  ·exact q
 |insert=>
  simp only[opM,lG]at q ⊢
  split at q
  ·split at q
   ·exact ⟨q.1,q.2.1,q.2.2.1,h _ _ q.2.2.2⟩
   ·exact q
  ·exact q
 |count=>
  simp only[opM,lH]at q ⊢
  split at q
  ·split at q
   ·exact h _ _ q
   ·exact q
  ·exact q
 |index=>
  simp only[opM,lJ]at q ⊢
  split at q
  ·split at q
   ·exact ⟨q.1,h _ _ q.2⟩
   ·exact q
  ·exact q
theorem rn{o i x:D}{k k':DH→Prop}(h:∀G',k G'→k' G')(q:cZ o i x G k):cZ o i x G k':=by
 unfold cZ at q ⊢
 split at q
 ·split at q
  ·split at q
   ·exact h _ q
   ·exact q
  ·exact q
 ·exact q
theorem wW{op:Operator}{a b:D}{k k':D→Prop}(h:∀c,k c→k' c)(q:dz op a b k):dz op a b k':=by
 unfold dz at q ⊢
 split at q <;> first
  |exact h _ q
  |exact ⟨q.1,h _ q.2⟩
  |exact q.elim
mutual
theorem d7{k k':aa→Prop}(h:∀ρ,k ρ→k' ρ):∀(t:Tg){d:D}{ρ:aa},aQ t d ρ G k→aQ t d ρ G k'
 |.nm i,d,ρ,q=>h _ q
 |.tp ts,d,ρ,q=>by
  unfold aQ at q ⊢
  split at q
  ·exact rz h ts q
  ·exact rz h ts q
  ·exact q
theorem rz{k k':aa→Prop}(h:∀ρ,k ρ→k' ρ):∀(ts:Tgs){ds:List D}{ρ:aa},bj ts ds ρ G k→bj ts ds ρ G k'
 |.nil,ds,ρ,q=>by
  unfold bj at q ⊢
  split at q
  ·exact h _ q
  ·exact q
 |.cons t r,ds,ρ,q=>by
  unfold bj at q ⊢
  split at q
  ·exact d7 (fun ρ' q'=>rz h r q') t q
  ·exact q
end
theorem nG{step step':D→aa→DH→(Option D→aa→DH→Prop)→Prop}(hs:∀d ρ G (k k':Option D→aa→DH→Prop),(∀o ρ' G',k o ρ' G'→k' o ρ' G')→step d ρ G k→step' d ρ G k')
  {g:Hld} {k k':List D→DH→Prop} (h:∀ds G',k ds G'→k' ds G'):∀(ds acc:List D)(ρ:aa)(G:DH),compLoop step g ds acc ρ G k→compLoop step' g ds acc ρ G k'
 |[],acc,ρ,G,q=>⟨q.1,q.2.1,h _ _ q.2.2⟩
 |d::ds,acc,ρ,G,q=>by
  refine ⟨q.1,q.2.1,hs d ρ G _ _ (fun o ρ' G' z=>?_) q.2.2⟩
  cases o with
  |some y=>exact nG hs h ds (acc++[y]) ρ' G' z
  |none=>exact nG hs h ds acc ρ' G' z
theorem wX{step step':D→aa→DH→(aa→DH→Prop)→Prop}(hs:∀d ρ G (k k':aa→DH→Prop),(∀ρ' G',k ρ' G'→k' ρ' G')→step d ρ G k→step' d ρ G k')
  {g:Hld} {k k':aa→DH→Prop} (h:∀ρ G',k ρ G'→k' ρ G'):∀(ds:List D)(ρ:aa)(G:DH),forLoop step g ds ρ G k→forLoop step' g ds ρ G k'
 |[],ρ,G,q=>⟨q.1,h _ _ q.2⟩
 |d::ds,ρ,G,q=>⟨q.1,hs d ρ G _ _ (fun ρ' G' z=>wX hs h ds ρ' G' z) q.2⟩
theorem wY{test test':aa→DH→(Bool→DH→Prop)→Prop}{body body':aa→DH→(aa→DH→Prop)→Prop}
  (ht:∀ρ G (k k':Bool→DH→Prop),(∀b G',k b G'→k' b G')→test ρ G k→test' ρ G k') (hb:∀ρ G (k k':aa→DH→Prop),(∀ρ' G',k ρ' G'→k' ρ' G')→body ρ G k→body' ρ G k')
  {k k':aa→DH→Prop} (h:∀ρ G',k ρ G'→k' ρ G'):∀(n:Nat)(ρ:aa)(G:DH),whileLoop test body n ρ G k→whileLoop test' body' n ρ G k'
 |0,ρ,G,q=>q
 |n+1,ρ,G,q=>ht ρ G _ _ (fun b G' z=>by
   cases b with
   |true=>exact hb ρ G' _ _ (fun ρ' G'' z'=>wY ht hb h n ρ' G'' z') z
   |false=>exact h _ _ z) q
end
section
variable {Φ:aj} {G:DH}
mutual
theorem aA{E:EK}{ρ:aa}:∀(x:Ex){G:DH}{k k':D→DH→Prop},(∀d G',k d G'→k' d G')→wpE Φ x E ρ G k→wpE Φ x E ρ G k'
 |.var i,G,k,k',h,q=>by
  rw[mj]at q ⊢
  split at q
  ·exact h _ _ q
  ·exact q
 |.cst d,G,k,k',h,q=>by rw[fU]at q ⊢;exact h _ _ q
 |.glb x d,G,k,k',h,q=>by rw[mq]at q ⊢;exact h _ _ q
 |.bin op fz a b,G,k,k',h,q=>by
  rw[my]at q ⊢
  exact aA a (fun _ _ q=>aA b (fun _ _ q=>wO h q) q) q
 |.neg a,G,k,k',h,q=>by
  rw[mz]at q ⊢
  refine aA a (fun x _ q=>?_) q
  split at q
  ·exact h _ _ q
  ·exact q
 |.cmp op a b,G,k,k',h,q=>by
  rw[mC]at q ⊢
  exact aA a (fun _ _ q=>aA b (fun _ _ q=>fV (fun _ q=>h _ _ q) q) q) q
 |.chn op op' a b c,G,k,k',h,q=>by
  rw[mD]at q ⊢
  refine aA a (fun _ _ q=>aA b (fun _ _ q=>fV (fun t q=>?_) q) q) q
  cases t with
  |true=>exact aA c (fun _ _ q=>fV (fun _ q=>h _ _ q) q) q
  |false=>exact h _ _ q
 |.not a,G,k,k',h,q=>by
  rw[mF]at q ⊢
  refine aA a (fun x _ q=>?_) q
  split at q
  ·exact h _ _ q
  ·exact q
 |.boo isAnd e es,G,k,k',h,q=>by
  rw[mG]at q ⊢
  refine aA e (fun x _ q=>?_) q
  split at q
  ·exact nH es (fun _ _ q=>h _ _ q) q
  ·exact q
 |.ife c a b,G,k,k',h,q=>by
  rw[qP]at q ⊢
  refine cC c (fun t _ q=>?_) q
  cases t with
  |true=>exact aA a h q
  |false=>exact aA b h q
 |.tup es,G,k,k',h,q=>by
  rw[mH]at q ⊢
  exact cN es (fun _ _ q=>⟨q.1,h _ _ q.2⟩) q
 |.lst fz es,G,k,k',h,q=>by
  rw[mJ]at q ⊢
  exact cN es (fun _ _ q=>⟨q.1,dB h q.2⟩) q
 |.idx a i,G,k,k',h,q=>by
  rw[mK]at q ⊢
  exact aA a (fun _ _ q=>aA i (fun _ _ q=>rm (fun _ q=>h _ _ q) q) q) q
 |.slc fz a lo hi,G,k,k',h,q=>by
  rw[mL]at q ⊢
  exact aA a (fun _ _ q=>rB lo (fun _ _ q=>rB hi (fun _ _ q=>wR h q) q) q) q
 |.rvs fz a s,G,k,k',h,q=>by
  rw[qQ]at q ⊢
  exact aA a (fun _ _ q=>aA s (fun _ _ q=>Qj h q) q) q
 |.call f es,G,k,k',h,q=>by
  rw[mO]at q ⊢
  exact cN es (fun _ _ q=>Spec.mono q h fun _ _ z=>z) q
 |.bcl f es,G,k,k',h,q=>by
  rw[mQ]at q ⊢
  exact cN es (fun _ _ q=>wU (fun _ q=>h _ _ q) q) q
 |.lcl fz f es,G,k,k',h,q=>by
  rw[mR]at q ⊢
  exact cN es (fun _ _ q=>wV (fun _ q=>dB h q) q) q
 |.isi a t,G,k,k',h,q=>by
  rw[mU]at q ⊢
  refine aA a (fun x _ q=>?_) q
  split at q
  ·exact h _ _ q
  ·exact q
 |.isx a C xs,G,k,k',h,q=>by
  rw[qR]at q ⊢
  refine aA a (fun x _ q=>?_) q
  split at q
  ·exact ⟨q.1,h _ _ q.2⟩
  ·exact q
 |.fst es,G,k,k',h,q=>by
  rw[qT]at q ⊢
  exact rA es (fun _ _ q=>⟨q.1,h _ _ q.2⟩) q
 |.mth m o es,G,k,k',h,q=>by
  rw[dZ]at q ⊢
  exact aA o (fun _ _ q=>⟨q.1,cN es (fun _ _ q=>fW h q) q.2⟩) q
 |.comp fz elt tg it cond N cap,G,k,k',h,q=>by
  rw[q9]at q ⊢
  refine iY it (fun items g G1 q=>?_) q
  refine nG ?_ (fun ds G2 z=>dB h z) items [] _ G1 q
  intro d ρ' G' k k' hk z
  refine d7 (fun ρ1 z=>?_) tg z
  refine cC cond (fun b G2 z=>?_) z
  cases b with
  |true=>exact aA elt (fun y G3 z=>hk _ _ _ z) z
  |false=>exact hk _ _ _ z
 |.frz a,G,k,k',h,q=>by
  rw[mV]at q ⊢
  refine aA a (fun x G1 q=>?_) q
  split at q
  ·split at q
   ·exact h _ _ q
   ·exact q
  ·exact h _ _ q
theorem cC{E:EK}{ρ:aa}:∀(x:Tx){G:DH}{k k':Bool→DH→Prop},(∀d G',k d G'→k' d G')→wpT Φ x E ρ G k→wpT Φ x E ρ G k'
 |.not a,G,k,k',h,q=>by rw[lL]at q ⊢;exact cC a (fun _ _ q=>h _ _ q) q
 |.boo isAnd e es,G,k,k',h,q=>by rw[lM]at q ⊢;exact cC e (fun _ _ q=>nJ es h q) q
 |.yes,G,k,k',h,q=>by rw[lN]at q ⊢;exact h _ _ q
 |.val a,G,k,k',h,q=>by
  rw[lO]at q ⊢
  refine aA a (fun x _ q=>?_) q
  split at q
  ·exact h _ _ q
  ·exact q
theorem rA{E:EK}{ρ:aa}:∀(x:Exs){G:DH}{k k':List Nat→DH→Prop},(∀d G',k d G'→k' d G')→wpF Φ x E ρ G k→wpF Φ x E ρ G k'
 |.nil,G,k,k',h,q=>by rw[qU]at q ⊢;exact h _ _ q
 |.cons e es,G,k,k',h,q=>by
  rw[qW]at q ⊢
  refine aA e (fun d _ q=>?_) q
  split at q
  ·exact ⟨q.1,rA es (fun _ _ q=>h _ _ q) q.2⟩
  ·exact ⟨q.1,rA es (fun _ _ q=>h _ _ q) q.2⟩
  ·exact q
theorem cN{E:EK}{ρ:aa}:∀(x:Exs){G:DH}{k k':List D→DH→Prop},(∀d G',k d G'→k' d G')→aL Φ x E ρ G k→aL Φ x E ρ G k'
 |.nil,G,k,k',h,q=>by rw[fQ]at q ⊢;exact h _ _ q
 |.cons e es,G,k,k',h,q=>by rw[eU]at q ⊢;exact aA e (fun _ _ q=>cN es (fun _ _ q=>h _ _ q) q) q
theorem nH{E:EK}{ρ:aa}:∀(x:Exs){isAnd b:Bool}{G:DH}{k k':Bool→DH→Prop},(∀d G',k d G'→k' d G')→wpB Φ x isAnd b E ρ G k→wpB Φ x isAnd b E ρ G k'
 |.nil,_,_,G,k,k',h,q=>by rw[lQ]at q ⊢;exact h _ _ q
 |.cons e es,isAnd,b,G,k,k',h,q=>by
  rw[iT]at q ⊢
  cases isAnd <;> cases b <;> first
   |exact h _ _ q
   | (refine aA e (fun d _ q=>?_) q
      split at q
      ·exact nH es h q
      ·exact q)
theorem nJ{E:EK}{ρ:aa}:∀(x:Txs){isAnd b:Bool}{G:DH}{k k':Bool→DH→Prop},(∀d G',k d G'→k' d G')→dY Φ x isAnd b E ρ G k→dY Φ x isAnd b E ρ G k'
 |.nil,_,_,G,k,k',h,q=>by rw[lR]at q ⊢;exact h _ _ q
 |.cons e es,isAnd,b,G,k,k',h,q=>by
  rw[iU]at q ⊢
  cases isAnd <;> cases b <;> first
   |exact h _ _ q
   |exact cC e (fun d _ q=>nJ es h q) q
theorem rB{E:EK}{ρ:aa}:∀(x:Ox){G:DH}{k k':Option Int→DH→Prop},(∀d G',k d G'→k' d G')→wpO Φ x E ρ G k→wpO Φ x E ρ G k'
 |.no,G,k,k',h,q=>by rw[lU]at q ⊢;exact h _ _ q
 |.ob a,G,k,k',h,q=>by
  rw[lV]at q ⊢
  refine aA a (fun x _ q=>?_) q
  split at q
  ·exact h _ _ q
  ·exact q
theorem iY{E:EK}{ρ:aa}:∀(x:It'){G:DH}{k k':List D→Hld→DH→Prop},(∀d g G',k d g G'→k' d g G')→wpI Φ x E ρ G k→wpI Φ x E ρ G k'
 |.seq a,G,k,k',h,q=>by
  rw[lW]at q ⊢
  refine aA a (fun x _ q=>?_) q
  split at q
  ·exact h _ _ _ q
  ·exact q
 |.rng a,G,k,k',h,q=>by
  rw[lX]at q ⊢
  refine aA a (fun x _ q=>?_) q
  split at q
  ·exact ⟨q.1,h _ _ _ q.2⟩
  ·exact q
 |.rev a,G,k,k',h,q=>by
  rw[qN]at q ⊢
  refine aA a (fun x _ q=>?_) q
  split at q
  ·exact ⟨q.1,h _ _ _ q.2⟩
  ·exact q
 |.dwn a b d,G,k,k',h,q=>by
  rw[qO]at q ⊢
  refine aA a (fun x _ q=>aA b (fun y _ q=>aA d (fun z _ q=>?_) q) q) q
  split at q
  ·exact ⟨q.1,h _ _ _ q.2⟩
  ·exact q
 |.rng2 a b,G,k,k',h,q=>by
  rw[qM]at q ⊢
  refine aA a (fun x _ q=>aA b (fun y _ q=>?_) q) q
  split at q
  ·exact ⟨q.1,h _ _ _ q.2⟩
  ·exact q
 |.enm a,G,k,k',h,q=>by
  rw[lY]at q ⊢
  refine aA a (fun x _ q=>?_) q
  split at q
  ·exact h _ _ _ q
  ·exact q
 |.zip a b,G,k,k',h,q=>by
  rw[lZ]at q ⊢
  refine aA a (fun x _ q=>aA b (fun y _ q=>?_) q) q
  split at q
  ·exact h _ _ _ q
  ·exact q
end
structure En.Le(D D':En):Prop where
 nx:∀ρ G,D.nx ρ G→D'.nx ρ G
 rt:∀d G,D.rt d G→D'.rt d G
 bk:∀ρ G,D.bk ρ G→D'.bk ρ G
 ct:∀ρ G,D.ct ρ G→D'.ct ρ G
theorem gW:∀(b:Tb){ρ:aa}{G:DH}{nx nx':aa→DH→Prop}{ex ex':Xn→aa→DH→Prop},(∀ρ G,nx ρ G→nx' ρ G)→(∀x ρ G,ex x ρ G→ex' x ρ G)→wpX Φ b ρ G nx ex→wpX Φ b ρ G nx' ex'
 |.call f es,ρ,G,nx,nx',ex,ex',h,h',q=>by rw[ni]at q ⊢;exact cN es (fun _ _ q=>Spec.mono q (fun _ _ z=>h _ _ z) fun _ _ z=>h' _ _ _ z) q
 |.asg i f es,ρ,G,nx,nx',ex,ex',h,h',q=>by rw[nq]at q ⊢;exact cN es (fun _ _ q=>Spec.mono q (fun _ _ z=>h _ _ z) fun _ _ z=>h' _ _ _ z) q
 |.ite c a b,ρ,G,nx,nx',ex,ex',h,h',q=>by
  rw[nu]at q ⊢
  refine cC c (fun t _ q=>?_) q
  cases t with
  |true=>exact gW a h h' q
  |false=>exact gW b h h' q
mutual
theorem wpS_mono{E:EK}:∀(x:Sx){ρ:aa}{G:DH}{D D':En},D.Le D'→wpS Φ x E ρ G D→wpS Φ x E ρ G D'
 |.exp e,ρ,G,D,D',h,q=>by rw[mW]at q ⊢;exact aA e (fun _ _ q=>h.nx _ _ q) q
 |.asg t e,ρ,G,D,D',h,q=>by rw[gU]at q ⊢;exact aA e (fun _ _ q=>d7 (fun _ q=>h.nx _ _ q) t q) q
 |.set o i e,ρ,G,D,D',h,q=>by rw[mX]at q ⊢;exact aA e (fun _ _ q=>aA o (fun _ _ q=>aA i (fun _ _ q=>rn (fun _ q=>h.nx _ _ q) q) q) q) q
 |.aug i op e,ρ,G,D,D',h,q=>by
  rw[qX]at q ⊢
  split at q
  ·exact aA e (fun _ _ q=>wW (fun _ q=>h.nx _ _ q) q) q
  ·exact q
 |.augs o i op e,ρ,G,D,D',h,q=>by
  rw[qY]at q ⊢
  exact aA o (fun _ _ q=>aA i (fun _ _ q=>rm (fun _ q=>aA e (fun _ _ q=>wW (fun _ q=>rn (fun _ q=>h.nx _ _ q) q) q) q) q) q) q
 |.ret e,ρ,G,D,D',h,q=>by rw[mY]at q ⊢;exact aA e (fun _ _ q=>h.rt _ _ q) q
 |.rtn,ρ,G,D,D',h,q=>by rw[mZ]at q ⊢;exact h.rt _ _ q
 |.ite c a b,ρ,G,D,D',h,q=>by
  rw[m5]at q ⊢
  refine cC c (fun t _ q=>?_) q
  cases t with
  |true=>exact cO a h q
  |false=>exact cO b h q
 |.for_ t it body,ρ,G,D,D',h,q=>by
  rw[wM]at q ⊢
  exact iY it (fun items g G1 q=>wX (fun d ρ' G' k k' hk z=>d7 (fun ρ1 z=>cO body (D:={ D with nx:=k,ct:=k,bk:=D.nx }) (D':={ D' with nx:=k',ct:=k',bk:=D'.nx }) ⟨hk,h.rt,h.nx,hk⟩ z) t z) h.nx items ρ G1 q) q
 |.whl c body,ρ,G,D,D',h,q=>by
  rw[Qi]at q ⊢
  obtain ⟨n,q⟩:=q
  refine ⟨n,?_⟩
  refine wY ?_ ?_ h.nx n ρ G q
  ·exact fun ρ' G' k k' hk z=>cC c hk z
  ·exact fun ρ' G' k k' hk z=>cO body (D:={ D with nx:=k,ct:=k,bk:=D.nx }) (D':={ D' with nx:=k',ct:=k',bk:=D'.nx }) ⟨hk,h.rt,h.nx,hk⟩ z
 |.pas,ρ,G,D,D',h,q=>by rw[m6]at q ⊢;exact h.nx _ _ q
 |.brk,ρ,G,D,D',h,q=>by rw[m7]at q ⊢;exact h.bk _ _ q
 |.cnt,ρ,G,D,D',h,q=>by rw[m8]at q ⊢;exact h.ct _ _ q
 |.nev,ρ,G,D,D',h,q=>by rw[nA]at q;exact q.elim
 |.rse C es,ρ,G,D,D',h,q=>by rw[iV]at q ⊢;exact q
 |.tryc f es C i b,ρ,G,D,D',h,q=>by rw[q8]at q ⊢;exact cN es (fun _ _ q=>Spec.mono q (fun _ _ z=>h.nx _ _ z) fun _ _ z=>⟨z.1,z.2.1,h.nx _ _ z.2.2⟩) q
 |.tryx b C hd xs,ρ,G,D,D',h,q=>by rw[iW]at q ⊢;exact gW b (fun _ _ z=>h.nx _ _ z) (fun _ _ _ z=>⟨z.1,z.2.1,z.2.2.1,h.nx _ _ z.2.2.2⟩) q
theorem cO{E:EK}:∀(x:Sxs){ρ:aa}{G:DH}{D D':En},D.Le D'→aq Φ x E ρ G D→aq Φ x E ρ G D'
 |.nil,ρ,G,D,D',h,q=>by rw[gQ]at q ⊢;exact h.nx _ _ q
 |.cons s r,ρ,G,D,D',h,q=>by rw[gR]at q ⊢;exact wpS_mono s (D:={ D with nx:=fun ρ' G'=>aq Φ r E ρ' G' D }) (D':={ D' with nx:=fun ρ' G'=>aq Φ r E ρ' G' D' }) ⟨fun _ _ z=>cO r h z,h.rt,h.bk,h.ct⟩ q
end
end
end RF
namespace RF
open PySem PySem.Spec PyProof.Rows L2
def PV(K:PySem.W.Frag)(H:Hp)(F:FZ)(Q:VK):D→DH→Prop:=fun d G'=>∀H' F' v,Ext H F H' F'→R K H' F' G'→Rep K H' F' d v→Q v H'
def PB(K:PySem.W.Frag)(H:Hp)(F:FZ)(Q:Bool→Hp→Prop):Bool→DH→Prop:=fun b G'=>∀H' F',Ext H F H' F'→R K H' F' G'→Q b H'
def PLs(K:PySem.W.Frag)(H:Hp)(F:FZ)(Q:List V→Hp→Prop):List D→DH→Prop:=fun ds G'=>∀H' F' vs,Ext H F H' F'→R K H' F' G'→Reps K H' F' ds vs→Q vs H'
section
variable {K:PySem.W.Frag} {H:Hp} {F:FZ} {G:DH} {Q:VK}
theorem PV.now{d:D}{v:V}(h:PV K H F Q d G)(r:R K H F G)(q:Rep K H F d v):Q v H:=h H F v (Ext.refl H F) r q
theorem eV{fz:Bool}{ds:List D}{vs:List V}(h:mk fz ds G (PV K H F Q))(r:R K H F G)(t:Reps K H F ds vs)(p:Addr)(hp:H p=none):Q (.ref p) (upd H p (.lst vs)):=by
 cases fz with
 |true=>exact h _ _ _ (qx r hp) (r.newF hp) (Qg r hp t)
 |false=>exact h p (r.free hp) _ _ _ (cW r hp) (r.newL hp t) rfl
theorem iZ{ds:List D}{vs:List V}(h:PV K H F Q (.tup ds) G)(r:R K H F G)(t:Reps K H F ds vs)(p:Addr)(hp:H p=none):Q (.ref p) (upd H p (.tup vs)):=
 h _ _ _ (cW r hp) (r.new hp) (qy r hp t)
end
theorem szl:sz≤sizeLine:=by rw[sizeLine_eq];decide
theorem cP{n:Nat}(h:n≤sz):n≤sizeLine:=Nat.le_trans h szl
def rB2(K:PySem.W.Frag)(f:D→D→DH→(D→DH→Prop)→Prop):R2:=fun x y H Q=>∃F G a b,R K H F G∧Rep K H F a x∧Rep K H F b y∧f (view G a) (view G b) G (PV K H F Q)
section
variable {X:Cx}
theorem Qk:OpR X (binaryOp .Add) (fun x y H Q=>∃a b xs ys,x=.ref a∧y=.ref b∧SqL X.K H a xs∧SqL X.K H b ys∧xs.length+ys.length≤sizeLine∧∀p,H p=none→Q (.ref p) (upd H p (.lst (xs++ys)))):=by
 intro pins s σ H x y v u Q I rx ry h
 obtain ⟨a,b,xs,ys,rfl,rfl,ha,hb,hz,q⟩:=h
 cases rx
 cases ry
 obtain ⟨its,r1,p1,_⟩:=I.list ha
 obtain ⟨its2,r2,p2,_⟩:=I.list hb
 obtain ⟨⟨cls,dd,data,sl⟩,ho,hc,n,hd⟩:=p1.isList
 obtain ⟨⟨cls2,dd2,data2,sl2⟩,ho2,hc2,n2,hd2⟩:=p2.isList
 simp only at hc hd hc2 hd2
 subst hc hd hc2 hd2
 have e:its.toArray++its2.toArray=(its++its2).toArray:=by simp
 refine concat_meets ⟨_,ho,rfl⟩ ⟨_,ho2,rfl⟩ noFill_list_add seq_list_add PySem.F.slot_list_add PySem.F.entry_list_add (PySem.F.args_list_add_2 _ _)
  (list_addW a b its.toArray its2.toArray n n2 dd dd2 sl sl2 (by rw[List.size_toArray,List.size_toArray,←r1.length,←r2.length];exact hz)) ⟨ho,ho2,?_⟩
 rw[e]
 exact ⟨.ref _,_,I.lnew (t':=s.toks) (r1.append r2) (by rw[List.length_append];exact hz),rfl,q _ I.fresh⟩
theorem Ql:OpR X (binaryOp .Add) (fun x y H Q=>∃a b ys,x=.ref a∧y=.ref b∧SqT X.K H a []∧SqT X.K H b ys∧Q (.ref b) H):=by
 intro pins s σ H x y v u Q I rx ry h
 obtain ⟨a,b,ys,rfl,rfl,ha,hb,q⟩:=h
 cases rx
 cases ry
 obtain ⟨its,r1,p1,_⟩:=I.tuple ha
 obtain ⟨its2,r2,p2,_⟩:=I.tuple hb
 obtain ⟨⟨cls,dd,data,sl⟩,ho,hc,n,hd⟩:=id p1
 obtain ⟨⟨cls2,dd2,data2,sl2⟩,ho2,hc2,n2,hd2⟩:=id p2
 simp only at hc hd hc2 hd2
 subst hc hd hc2 hd2
 cases r1
 exact concat_meets ⟨_,ho,rfl⟩ ⟨_,ho2,rfl⟩ noFill_tuple_add seq_tuple_add PySem.F.slot_tuple_add PySem.F.entry_tuple_add (PySem.F.args_tuple_add_2 _ _)
   (tuple_addW0 a b _ its2.toArray n n2 dd dd2 sl sl2 (by simp)) ⟨ho,ho2,⟨.ref b,H,I,rfl,q⟩⟩
theorem rD{K:PySem.W.Frag}{H:Hp}{F:FZ}{ds:List D}{vs:List V}(t:Reps K H F ds vs):ds=[]↔vs=[]:=by
 have:=t.length
 constructor
 ·intro e;subst e;exact List.length_eq_zero_iff.mp this.symm
 ·intro e;subst e;exact List.length_eq_zero_iff.mp this
theorem Qm{x:Str}{n:Nat}(h1:n≤1000)(h:x.length * n≤sz):MulOk x (n:Int):=by
 have h2:((x.length * n:Nat):Int)≤((1000000:Nat):Int):=Int.ofNat_le.mpr h
 rw[Int.natCast_mul]at h2
 refine ⟨?_,?_,?_⟩
 ·rw[decide_eq_false (by omega),decide_eq_false (by omega)];rfl
 ·intro hn _ hh
  have hp:(0:Int) < n:=by omega
  have h3:(x.length:Int)≤(2 ^ 63 - 1) / n:=(Int.le_ediv_iff_mul_le hp).mpr (Int.le_trans h2 (by decide))
  exact absurd hh (Int.not_lt.mpr h3)
 ·intro _ _
  unfold Builtin.Str.tooLong
  rw[sizeLine_eq,Int.toNat_natCast]
  exact decide_eq_false (by have:sz=1000000:=rfl;omega)
theorem wZ(l:List Nat):∀(n:Nat)(acc:List Nat),(List.replicate n l.toArray).foldl (· ++ ·) acc.toArray=(acc++reps l n).toArray
 |0,acc=>by simp[reps]
 |n+1,acc=>by
  rw[List.replicate_succ,List.foldl_cons]
  have e:acc.toArray++l.toArray=(acc++l).toArray:=by simp
  rw[e,wZ l n (acc++l)]
  unfold reps
  rw[List.replicate_succ,List.flatten_cons,List.append_assoc]
theorem Qn(n:Nat):reps ([]:List Nat) n=[]:=by
 unfold reps
 induction n with
 |zero=>rfl
 |succ n ih=>rw[List.replicate_succ,List.flatten_cons,ih];rfl
theorem Qo{α:Type}(l:List α)(n:Nat):(reps l n).length=n * l.length:=len_rep l n
theorem Qp(l:List Nat)(n:Nat):Txt.mul (tx l) (n:Int)=tx (reps l n):=by
 unfold Txt.mul
 by_cases h:(n:Int) < 1
 ·rw[if_pos h]
  have:n=0:=by omega
  subst this
  rfl
 ·rw[if_neg h]
  by_cases h2:((n:Int)==1||(tx l).length==0)=true
  ·rw[if_pos h2]
   rw[Bool.or_eq_true]at h2
   rcases h2 with h2 |h2
   ·have:n=1:=by have:=eq_of_beq h2;omega
    subst this
    simp[reps]
   ·have h3:=eq_of_beq h2
    rw[bY]at h3
    have:l=[]:=List.length_eq_zero_iff.mp h3
    subst this
    rw[Qn]
  ·rw[if_neg h2]
   have e:=wZ l n []
   rw[List.nil_append]at e
   exact congrArg Str.mk (by simpa using e)
theorem Qq(op:Operator)(fz:Bool):OpR X (binaryOp op) (rB2 X.K (bR op fz)):=by
 intro pins s σ H x y v u Q I rx ry h
 obtain ⟨F,G,a,b,r,ra,rb,h⟩:=h
 generalize ea:view G a=va at h
 generalize eb:view G b=vb at h
 have twoI:∀{p:Int→Int→Prop},eQ va vb p→∃i j,x=.int i∧y=.int j∧p i j:=fun {p} h=>by
  obtain ⟨i,j,rfl,rfl,h⟩:=wN h
  cases cL ea;cases cL eb
  exact ⟨i,j,ra,rb,h⟩
 cases op with
 |Add=>
  have h:gC fz va vb G _:=h
  unfold gC at h
  cases va with
  |int _=>cases vb with
   |int _=>
    cases cL ea;cases cL eb
    have ha:x=.int _:=ra
    have hb:y=.int _:=rb
    subst ha;subst hb
    exact Li pins s σ H _ _ v u Q I rx ry ⟨_,_,rfl,rfl,h.now r rfl⟩
   |_=>exact h.elim
  |str _=>cases vb with
   |str _=>
    cases dw ea;cases dw eb
    obtain ⟨ha,la⟩:=ra
    obtain ⟨hb,lb⟩:=rb
    subst ha;subst hb
    refine LQ pins s σ H _ _ v u Q I rx ry ⟨_,_,rfl,rfl,?_,?_⟩
    ·rw[bY,bY];exact cP h.1
    ·rw[qi];exact h.2.now r ⟨rfl,by rw[List.length_append];exact h.1⟩
   |_=>exact h.elim
  |lst _=>cases vb with
   |lst _=>
    obtain ⟨p,vs,rfl,q1,t1⟩:=Rep.list r ra ea
    obtain ⟨p',vs',rfl,q2,t2⟩:=Rep.list r rb eb
    exact Qk pins s σ H _ _ v u Q I rx ry ⟨p,p',vs,vs',rfl,rfl,q1,q2,by rw[←t1.length,←t2.length];exact cP h.1,eV h.2 r (t1.append t2)⟩
   |_=>exact h.elim
  |tup xs=>cases vb with
   |tup ys=>
    cases du ea;cases du eb
    obtain ⟨p,vs,rfl,q1,t1⟩:=id ra
    obtain ⟨p',vs',rfl,q2,t2⟩:=id rb
    by_cases hx:vs=[]
    ·subst hx
     have:xs=[]:=(rD t1).mpr rfl
     subst this
     exact Ql pins s σ H _ _ v u Q I rx ry ⟨p,p',vs',rfl,rfl,q1.sq,q2.sq,h.2.now r rb⟩
    ·refine M5 pins s σ H _ _ v u Q I rx ry ⟨p,p',vs,vs',rfl,rfl,q1.sq,q2.sq,hx,by rw[←t1.length,←t2.length];exact cP h.1,fun e=>?_,fun _=>iZ h.2 r (t1.append t2)⟩
     subst e
     have:ys=[]:=(rD t2).mpr rfl
     subst this
     have h2:=h.2
     rw[List.append_nil]at h2
     exact h2.now r ra
   |_=>exact h.elim
  |_=>exact h.elim
 |Sub=>
  obtain ⟨i,j,rfl,rfl,h⟩:=twoI h
  exact Lj pins s σ H _ _ v u Q I rx ry ⟨_,_,rfl,rfl,h.now r rfl⟩
 |Mult=>
  have h:gD va vb G _:=h
  unfold gD at h
  cases vb with
  |int _=>cases va with
   |int _=>
    cases cL ea;cases cL eb
    have ha:x=.int _:=ra
    have hb:y=.int _:=rb
    subst ha;subst hb
    exact Lk pins s σ H _ _ v u Q I rx ry ⟨_,_,rfl,rfl,h.1,h.2.now r rfl⟩
   |str _=>
    cases dw ea;cases cL eb
    obtain ⟨ha,la⟩:=ra
    have hb:y=.int _:=rb
    subst ha;subst hb
    obtain ⟨h0,h1,h2,h3⟩:=h
    obtain ⟨n,rfl⟩:=Int.eq_ofNat_of_zero_le h0
    rw[Int.toNat_natCast]at h2 h3
    refine Oe pins s σ H _ _ v u Q I rx ry ⟨_,_,rfl,rfl,Qm (by omega) (by rw[bY];exact h2),?_⟩
    rw[Qp]
    exact h3.now r ⟨rfl,by rw[Qo,Nat.mul_comm];exact h2⟩
   |tup _=>
    cases du ea;cases cL eb
    obtain ⟨p,vs,rfl,q1,t1⟩:=ra
    have hb:y=.int _:=rb
    subst hb
    obtain ⟨h0,h1,h2,h3,h4⟩:=h
    refine Qd pins s σ H _ _ v u Q I rx ry ⟨p,_,vs,rfl,rfl,q1.sq,fun e=>h2 ((rD t1).mpr e),h0,h1,by rw[←t1.length];exact cP h3,?_⟩
    exact iZ h4 r (t1.rep _)
   |_=>exact h.elim
  |_=>exact h.elim
 |FloorDiv=>
  obtain ⟨i,j,rfl,rfl,h⟩:=twoI h
  exact PK pins s σ H _ _ v u Q I rx ry ⟨_,_,rfl,rfl,h.1,h.2.now r rfl⟩
 |Mod=>
  obtain ⟨i,j,rfl,rfl,h⟩:=twoI h
  exact Ln pins s σ H _ _ v u Q I rx ry ⟨_,_,rfl,rfl,h.1,h.2.now r rfl⟩
 |Pow=>
  obtain ⟨i,j,rfl,rfl,h⟩:=twoI h
  exact Lp pins s σ H _ _ v u Q I rx ry ⟨_,_,rfl,rfl,h.1,h.2.now r rfl⟩
 |_=>exact h.elim
end
end RF
namespace RF
open PySem PySem.Spec PyProof.Rows L2
mutual
theorem rE:∀{d:D},nr d=true→deq d d=true
 |.non,_=>rfl
 |.bl b,_=>by simp[deq]
 |.int i,_=>by simp[deq]
 |.str l,_=>by simp[deq]
 |.tup xs,h=>by rw[deq];exact rF (by rw[nr]at h;exact h)
 |.lst xs,h=>by rw[deq];exact rF (by rw[nr]at h;exact h)
 |.ref a,h=>by rw[nr]at h;cases h
 |.scr a,h=>by rw[nr]at h;cases h
 |.exn a,h=>by rw[nr]at h;cases h
theorem rF:∀{ds:List D},nrs ds=true→bh ds ds=true
 |[],_=>rfl
 |d::ds,h=>by
  rw[nrs,Bool.and_eq_true]at h
  rw[bh,rE h.1,rF h.2];rfl
end
theorem nM:∀(xs ys:List D),bh xs ys=((List.range (min xs.length ys.length)).all (fun j=>deq (xs.getD j .non) (ys.getD j .non))&&xs.length==ys.length)
 |[],[]=>rfl
 |[],y::ys=>by simp[bh]
 |x::xs,[]=>by simp[bh]
 |x::xs,y::ys=>by
  have e:min (x::xs).length (y::ys).length=(min xs.length ys.length)+1:=by simp only[List.length_cons];omega
  rw[bh,nM xs ys,e,List.range_succ_eq_map,List.all_cons,List.all_map]
  simp only[List.getD_cons_zero,List.length_cons,Bool.and_assoc]
  congr 1
  congr 1
  rw[Bool.eq_iff_iff];simp
theorem Qs{xs ys:List D}(h:xs.length≠ys.length):bh xs ys=false:=by
 rw[nM]
 rw[show (xs.length==ys.length)=false from beq_eq_false_iff_ne.mpr h,Bool.and_false]
theorem jb:∀{xs:List D}{i:Nat},nrs xs=true→nr (xs.getD i .non)=true
 |[],_,_=>rfl
 |x::xs,0,h=>by rw[nrs,Bool.and_eq_true]at h;exact h.1
 |x::xs,i+1,h=>by rw[nrs,Bool.and_eq_true]at h;rw[List.getD_cons_succ];exact jb h.2
theorem jc:∀{xs:List D}{i:Nat},dpt (xs.getD i .non)≤aO xs
 |[],_=>Nat.zero_le _
 |x::xs,0=>by rw[aO,List.getD_cons_zero];omega
 |x::xs,i+1=>by rw[aO,List.getD_cons_succ];have:=@jc xs i;omega
section
variable {X:Cx} {pins:List (Addr×Obj)} {σ:L2.St} {H:Hp} {s:Shared} {F:FZ}
mutual
theorem nO(I:Inv X pins σ H s):∀{d d':D}{v:V},nr d=true→nr d'=true→Rep X.K H F d v→Rep X.K H F d' v→d=d'
 |.non,d',v,_,n',h,h'=>by
  have h:v=.non:=h
  subst h
  cases d' with
  |non=>rfl
  |bl _=>simp only[Rep]at h';cases h'
  |int _=>simp only[Rep]at h';cases h'
  |ref _=>simp only[Rep]at h';cases h'
  |scr _=>rw[nr]at n';cases n'
  |exn _=>rw[nr]at n';cases n'
  |str _=>simp only[Rep]at h';obtain ⟨e,_⟩:=h';cases e
  |tup _=>simp only[Rep]at h';obtain ⟨_,_,e,_⟩:=h';cases e
  |lst _=>simp only[Rep]at h';obtain ⟨_,_,e,_⟩:=h';cases e
 |.bl b,d',v,_,n',h,h'=>by
  have h:v=.bl b:=h
  subst h
  cases d' with
  |non=>simp only[Rep]at h';cases h'
  |bl _=>simp only[Rep]at h';cases h';rfl
  |int _=>simp only[Rep]at h';cases h'
  |ref _=>simp only[Rep]at h';cases h'
  |scr _=>rw[nr]at n';cases n'
  |exn _=>rw[nr]at n';cases n'
  |str _=>simp only[Rep]at h';obtain ⟨e,_⟩:=h';cases e
  |tup _=>simp only[Rep]at h';obtain ⟨_,_,e,_⟩:=h';cases e
  |lst _=>simp only[Rep]at h';obtain ⟨_,_,e,_⟩:=h';cases e
 |.int b,d',v,_,n',h,h'=>by
  have h:v=.int b:=h
  subst h
  cases d' with
  |non=>simp only[Rep]at h';cases h'
  |bl _=>simp only[Rep]at h';cases h'
  |int _=>simp only[Rep]at h';cases h';rfl
  |ref _=>simp only[Rep]at h';cases h'
  |scr _=>rw[nr]at n';cases n'
  |exn _=>rw[nr]at n';cases n'
  |str _=>simp only[Rep]at h';obtain ⟨e,_⟩:=h';cases e
  |tup _=>simp only[Rep]at h';obtain ⟨_,_,e,_⟩:=h';cases e
  |lst _=>simp only[Rep]at h';obtain ⟨_,_,e,_⟩:=h';cases e
 |.str l,d',v,_,n',h,h'=>by
  obtain ⟨h,_⟩:=h
  subst h
  cases d' with
  |str l'=>
   obtain ⟨e,_⟩:=h'
   injection e with e
   rw[vP e]
  |non=>simp only[Rep]at h';cases h'
  |bl _=>simp only[Rep]at h';cases h'
  |int _=>simp only[Rep]at h';cases h'
  |ref _=>simp only[Rep]at h';cases h'
  |scr _=>rw[nr]at n';cases n'
  |exn _=>rw[nr]at n';cases n'
  |tup _=>simp only[Rep]at h';obtain ⟨_,_,e,_⟩:=h';cases e
  |lst _=>simp only[Rep]at h';obtain ⟨_,_,e,_⟩:=h';cases e
 |.tup xs,d',v,n,n',h,h'=>by
  obtain ⟨a,vs,e,q,t⟩:=h
  subst e
  cases d' with
  |tup ys=>
   obtain ⟨a',vs',e,q',t'⟩:=h'
   injection e with e
   subst e
   have:=I.tuple_inj q.sq q'.sq
   subst this
   rw[nr]at n n'
   rw[rG I n n' t t']
  |lst ys=>
   obtain ⟨a',vs',e,q',t'⟩:=h'
   injection e with e
   subst e
   obtain ⟨its,_,⟨o,e1,c1,_⟩,_⟩:=I.tuple q.sq
   obtain ⟨its',_,⟨o',n',e2,c2,_⟩,_⟩:=I.list q'.sq
   rw[e1]at e2;cases e2
   rw[c1]at c2;exact absurd c2 (by decide +kernel)
  |ref _=>rw[nr]at n';cases n'
  |scr _=>rw[nr]at n';cases n'
  |exn _=>rw[nr]at n';cases n'
  |str _=>simp only[Rep]at h';obtain ⟨e,_⟩:=h';cases e
  |non=>simp only[Rep]at h';cases h'
  |bl _=>simp only[Rep]at h';cases h'
  |int _=>simp only[Rep]at h';cases h'
 |.lst xs,d',v,n,n',h,h'=>by
  obtain ⟨a,vs,e,q,t⟩:=h
  subst e
  cases d' with
  |lst ys=>
   obtain ⟨a',vs',e,q',t'⟩:=h'
   injection e with e
   subst e
   have:=I.list_inj q.sq q'.sq
   subst this
   rw[nr]at n n'
   rw[rG I n n' t t']
  |tup ys=>
   obtain ⟨a',vs',e,q',t'⟩:=h'
   injection e with e
   subst e
   obtain ⟨its,_,⟨o,e1,c1,_⟩,_⟩:=I.tuple q'.sq
   obtain ⟨its',_,⟨o',n',e2,c2,_⟩,_⟩:=I.list q.sq
   rw[e1]at e2;cases e2
   rw[c1]at c2;exact absurd c2 (by decide +kernel)
  |ref _=>rw[nr]at n';cases n'
  |scr _=>rw[nr]at n';cases n'
  |exn _=>rw[nr]at n';cases n'
  |str _=>simp only[Rep]at h';obtain ⟨e,_⟩:=h';cases e
  |non=>simp only[Rep]at h';cases h'
  |bl _=>simp only[Rep]at h';cases h'
  |int _=>simp only[Rep]at h';cases h'
 |.ref a,d',v,n,_,_,_=>by rw[nr]at n;cases n
 |.scr a,d',v,n,_,_,_=>by rw[nr]at n;cases n
 |.exn a,d',v,n,_,_,_=>by rw[nr]at n;cases n
theorem rG(I:Inv X pins σ H s):∀{ds ds':List D}{vs:List V},nrs ds=true→nrs ds'=true→Reps X.K H F ds vs→Reps X.K H F ds' vs→ds=ds'
 |[],[],_,_,_,_,_=>rfl
 |[],_::_,_,_,_,h,⟨v,r,e,_⟩=>by have h:_=[]:=h;rw[h]at e;cases e
 |_::_,[],_,_,_,⟨v,r,e,_⟩,h=>by have h:_=[]:=h;rw[h]at e;cases e
 |d::ds,d'::ds',_,n,n',⟨v,r,e,h,t⟩,⟨v',r',e',h',t'⟩=>by
  subst e
  injection e' with e1 e2
  subst e1;subst e2
  rw[nrs,Bool.and_eq_true]at n n'
  rw[nO I n.1 n'.1 h h',rG I n.2 n'.2 t t']
end
theorem nP{I:Inv X pins σ H s}{ds:List D}{vs:List V}{its:List Value}(t:Reps X.K H F ds vs)(r:Vals vs its)(j:Nat)(h:j < its.length):∃v,Rep X.K H F (ds.getD j .non) v∧RelV v its[j]:=by
 have hl:j < ds.length:=by rw[t.length,r.length];exact h
 have e1:ds[j]?=some (ds.getD j .non):=by rw[List.getD_eq_getElem?_getD,List.getElem?_eq_getElem hl];rfl
 obtain ⟨v,e2,r2⟩:=t.get e1
 obtain ⟨u,e3,r3⟩:=r.get e2
 rw[List.getElem?_eq_getElem h]at e3
 cases e3
 exact ⟨v,r2,r3⟩
theorem Qt(a b:List Nat):(tx a==tx b)=(a==b):=by
 rw[Bool.eq_iff_iff,beq_iff_eq,beq_iff_eq]
 exact ⟨fun h=>vP h,fun h=>by rw[h]⟩
theorem Qu(I:Inv X pins σ H s){n:Nat}{A:Around}{xs ys:List D}{a a':Addr}{vs vs':List V}{its its':List Value}
  (ih:∀m,m < n→∀(A:Around)(d d':D)(v v':V)(u u':Value),A.units+m < cLine→min (dpt d) (dpt d')≤m→nr d=true→nr d'=true→Rep X.K H F d v→Rep X.K H F d' v'→RelV v u→RelV v' u'→
   SeqAt.RcAt A s u u' (deq d d')∧SeqAt.EqAt A s u u' (deq d d')∧SeqAt.RcNeAt A s u u' (!deq d d'))
  (hu:A.units+n < cLine) (hd:min (dpt (.tup xs)) (dpt (.tup ys))≤n) (n1:nr (.tup xs)=true) (n2:nr (.tup ys)=true) (h:Rep X.K H F (.tup xs) (.ref a)) (h':Rep X.K H F (.tup ys) (.ref a'))
  (pt:s.heap.IsTuple a its.toArray) (pt':s.heap.IsTuple a' its'.toArray) (rv:Vals vs its) (rv':Vals vs' its') (tt:Reps X.K H F xs vs) (tt':Reps X.K H F ys vs'):
  SeqAt.RcAt A s (.ref a) (.ref a') (deq (.tup xs) (.tup ys))∧SeqAt.EqAt A s (.ref a) (.ref a') (deq (.tup xs) (.tup ys))∧SeqAt.RcNeAt A s (.ref a) (.ref a') (!deq (.tup xs) (.tup ys)):=by
 have hd':min (aO xs+1) (aO ys+1)≤n:=by rw[dpt,dpt]at hd;exact hd
 have hn1:nrs xs=true:=by rw[nr]at n1;exact n1
 have hn2:nrs ys=true:=by rw[nr]at n2;exact n2
 have l1:its.toArray.size=xs.length:=by rw[List.size_toArray,←rv.length,tt.length]
 have l2:its'.toArray.size=ys.length:=by rw[List.size_toArray,←rv'.length,tt'.length]
 have he:∀j (h1:j < its.toArray.size) (h2:j < its'.toArray.size),SeqAt.EqAt A.in1 s its.toArray[j] its'.toArray[j] (deq (xs.getD j .non) (ys.getD j .non)):=by
  intro j h1 h2
  obtain ⟨w1,q1,q2⟩:=nP (I:=I) tt rv j (by simpa using h1)
  obtain ⟨w2,q3,q4⟩:=nP (I:=I) tt' rv' j (by simpa using h2)
  have d1:=@jc xs j
  have d2:=@jc ys j
  exact (ih (n - 1) (by omega) A.in1 _ _ w1 w2 _ _ (by show A.units+1+(n - 1) < cLine;omega) (by omega) (jb hn1) (jb hn2) q1 q3 (by simpa using q2) (by simpa using q4)).2.1
 have e:deq (.tup xs) (.tup ys)=((List.range (min its.toArray.size its'.toArray.size)).all (fun j=>deq (xs.getD j .non) (ys.getD j .non))&&its.toArray.size==its'.toArray.size):=by
  rw[deq,nM,l1,l2]
 have rc:SeqAt.RcAt A s (.ref a) (.ref a') (deq (.tup xs) (.tup ys)):=by rw[e];exact .tuples pt pt' (by omega) he
 refine ⟨rc,?_,by rw[e];exact .tuples pt pt' (by omega) he⟩
 by_cases z:a=a'
 ·subst z
  have:=nO I n1 n2 h h'
  rw[←this,rE n1]
  exact .same _
 ·exact .of_refs z rc
theorem Qv(I:Inv X pins σ H s){n:Nat}{A:Around}{xs ys:List D}{a a':Addr}{vs vs':List V}{its its':List Value}
  (ih:∀m,m < n→∀(A:Around)(d d':D)(v v':V)(u u':Value),A.units+m < cLine→min (dpt d) (dpt d')≤m→nr d=true→nr d'=true→Rep X.K H F d v→Rep X.K H F d' v'→RelV v u→RelV v' u'→
   SeqAt.RcAt A s u u' (deq d d')∧SeqAt.EqAt A s u u' (deq d d')∧SeqAt.RcNeAt A s u u' (!deq d d'))
  (hu:A.units+n < cLine) (hd:min (dpt (.lst xs)) (dpt (.lst ys))≤n) (n1:nr (.lst xs)=true) (n2:nr (.lst ys)=true) (h:a=a'→xs=ys)
  (pt:s.heap.IsList a its.toArray) (pt':s.heap.IsList a' its'.toArray) (rv:Vals vs its) (rv':Vals vs' its') (tt:Reps X.K H F xs vs) (tt':Reps X.K H F ys vs'):
  SeqAt.RcAt A s (.ref a) (.ref a') (deq (.lst xs) (.lst ys))∧SeqAt.EqAt A s (.ref a) (.ref a') (deq (.lst xs) (.lst ys))∧SeqAt.RcNeAt A s (.ref a) (.ref a') (!deq (.lst xs) (.lst ys)):=by
 have hd':min (aO xs+1) (aO ys+1)≤n:=by rw[dpt,dpt]at hd;exact hd
 have hn1:nrs xs=true:=by rw[nr]at n1;exact n1
 have hn2:nrs ys=true:=by rw[nr]at n2;exact n2
 have l1:its.toArray.size=xs.length:=by rw[List.size_toArray,←rv.length,tt.length]
 have l2:its'.toArray.size=ys.length:=by rw[List.size_toArray,←rv'.length,tt'.length]
 have eqs:∀(rc:SeqAt.RcAt A s (.ref a) (.ref a') (deq (.lst xs) (.lst ys))),SeqAt.EqAt A s (.ref a) (.ref a') (deq (.lst xs) (.lst ys)):=fun rc=>by
  by_cases z:a=a'
  ·have:=h z
   subst z
   subst this
   rw[rE n1]
   exact .same _
  ·exact .of_refs z rc
 by_cases hl:xs.length=ys.length
 ·have he:∀j (h1:j < its.toArray.size) (h2:j < its'.toArray.size),SeqAt.EqAt A.in1 s its.toArray[j] its'.toArray[j] (deq (xs.getD j .non) (ys.getD j .non)):=by
   intro j h1 h2
   obtain ⟨w1,q1,q2⟩:=nP (I:=I) tt rv j (by simpa using h1)
   obtain ⟨w2,q3,q4⟩:=nP (I:=I) tt' rv' j (by simpa using h2)
   have d1:=@jc xs j
   have d2:=@jc ys j
   exact (ih (n - 1) (by omega) A.in1 _ _ w1 w2 _ _ (by show A.units+1+(n - 1) < cLine;omega) (by omega) (jb hn1) (jb hn2) q1 q3 (by simpa using q2) (by simpa using q4)).2.1
  have e:deq (.lst xs) (.lst ys)=(List.range its.toArray.size).all (fun j=>deq (xs.getD j .non) (ys.getD j .non)):=by
   rw[deq,nM,l1,hl,Nat.min_self]
   simp
  have rc:SeqAt.RcAt A s (.ref a) (.ref a') (deq (.lst xs) (.lst ys)):=by rw[e];exact .lists pt pt' (by rw[l1,l2];exact hl) (by omega) he
  exact ⟨rc,eqs rc,by rw[e];exact .lists pt pt' (by rw[l1,l2];exact hl) (by omega) he⟩
 ·have e:deq (.lst xs) (.lst ys)=false:=by rw[deq];exact Qs hl
  have hne:(its.toArray.size != its'.toArray.size)=true:=by rw[l1,l2];simpa using hl
  have rc:SeqAt.RcAt A s (.ref a) (.ref a') (deq (.lst xs) (.lst ys)):=by rw[e];exact .lists_lengths pt pt' hne (by omega)
  exact ⟨rc,eqs rc,by rw[e];exact .lists_lengths pt pt' hne (by omega)⟩
theorem rH(I:Inv X pins σ H s):∀(n:Nat)(A:Around)(d d':D)(v v':V)(u u':Value),A.units+n < cLine→min (dpt d) (dpt d')≤n→nr d=true→nr d'=true→Rep X.K H F d v→Rep X.K H F d' v'→RelV v u→RelV v' u'→
  SeqAt.RcAt A s u u' (deq d d')∧SeqAt.EqAt A s u u' (deq d d')∧SeqAt.RcNeAt A s u u' (!deq d d'):=by
 intro n
 induction n using Nat.strongRecOn with
 |_ n ih=>
  intro A d d' v v' u u' hu hd n1 n2 h h' r r'
  have hu0:A.units < cLine:=by omega
  cases d with
  |ref a=>rw[nr]at n1;cases n1
  |scr a=>rw[nr]at n1;cases n1
  |exn a=>rw[nr]at n1;cases n1
  |non=>
   have hv:v=.non:=h
   subst hv
   have hr:u=Value.none:=r
   subst hr
   cases d' with
   |ref a=>rw[nr]at n2;cases n2
   |scr a=>rw[nr]at n2;cases n2
   |exn a=>rw[nr]at n2;cases n2
   |non=>
    have hv:v'=.non:=h'
    subst hv
    have hr:u'=Value.none:=r'
    subst hr
    exact ⟨.none_none,.same _,.none_none⟩
   |bl b'=>
    have hv:v'=.bl b':=h'
    subst hv
    have hr:u'=Value.bool b':=r'
    subst hr
    exact ⟨.none_bool b',.none_bool b',.none_bool b'⟩
   |int i'=>
    have hv:v'=.int i':=h'
    subst hv
    obtain ⟨t',hr⟩:∃t',u'=Value.int i' t':=r'
    subst hr
    exact ⟨.none_int i' t',.none_int i' t',.none_int i' t'⟩
   |str l'=>
    obtain ⟨hv,_⟩:=h'
    subst hv
    obtain ⟨t',hr⟩:∃t',u'=Value.str (tx l') t':=r'
    subst hr
    exact ⟨.none_str (tx l') t',.none_str (tx l') t',.none_str (tx l') t'⟩
   |tup ys=>
    obtain ⟨a',vs',hv,q',tt'⟩:=id h'
    subst hv
    have hr:u'=Value.ref a':=r'
    subst hr
    obtain ⟨its',rv',pt',_⟩:=I.tuple q'.sq
    have pt':s.heap.IsTuple a' its'.toArray:=pt'
    exact ⟨.none_tuple pt' hu0,.none_tuple pt' hu0,.none_tuple pt' hu0⟩
   |lst ys=>
    obtain ⟨a',vs',hv,q',tt'⟩:=id h'
    subst hv
    have hr:u'=Value.ref a':=r'
    subst hr
    obtain ⟨its',rv',pl',_⟩:=I.list q'.sq
    have pt':s.heap.IsList a' its'.toArray:=pl'.isList
    exact ⟨.none_list pt' hu0,.none_list pt' hu0,.none_list pt' hu0⟩
  |bl b=>
   have hv:v=.bl b:=h
   subst hv
   have hr:u=Value.bool b:=r
   subst hr
   cases d' with
   |ref a=>rw[nr]at n2;cases n2
   |scr a=>rw[nr]at n2;cases n2
   |exn a=>rw[nr]at n2;cases n2
   |non=>
    have hv:v'=.non:=h'
    subst hv
    have hr:u'=Value.none:=r'
    subst hr
    exact ⟨.bool_none b,.bool_none b,.bool_none b⟩
   |bl b'=>
    have hv:v'=.bl b':=h'
    subst hv
    have hr:u'=Value.bool b':=r'
    subst hr
    exact ⟨.bool_bool b b',.bool_bool b b',.bool_bool b b'⟩
   |int i'=>
    have hv:v'=.int i':=h'
    subst hv
    obtain ⟨t',hr⟩:∃t',u'=Value.int i' t':=r'
    subst hr
    exact ⟨.bool_int b i' t',.bool_int b i' t',.bool_int b i' t'⟩
   |str l'=>
    obtain ⟨hv,_⟩:=h'
    subst hv
    obtain ⟨t',hr⟩:∃t',u'=Value.str (tx l') t':=r'
    subst hr
    exact ⟨.bool_str b (tx l') t',.bool_str b (tx l') t',.bool_str b (tx l') t'⟩
   |tup ys=>
    obtain ⟨a',vs',hv,q',tt'⟩:=id h'
    subst hv
    have hr:u'=Value.ref a':=r'
    subst hr
    obtain ⟨its',rv',pt',_⟩:=I.tuple q'.sq
    have pt':s.heap.IsTuple a' its'.toArray:=pt'
    exact ⟨.bool_tuple b pt' hu0,.bool_tuple b pt' hu0,.bool_tuple b pt' hu0⟩
   |lst ys=>
    obtain ⟨a',vs',hv,q',tt'⟩:=id h'
    subst hv
    have hr:u'=Value.ref a':=r'
    subst hr
    obtain ⟨its',rv',pl',_⟩:=I.list q'.sq
    have pt':s.heap.IsList a' its'.toArray:=pl'.isList
    exact ⟨.bool_list b pt' hu0,.bool_list b pt' hu0,.bool_list b pt' hu0⟩
  |int i=>
   have hv:v=.int i:=h
   subst hv
   obtain ⟨t,hr⟩:∃t,u=Value.int i t:=r
   subst hr
   cases d' with
   |ref a=>rw[nr]at n2;cases n2
   |scr a=>rw[nr]at n2;cases n2
   |exn a=>rw[nr]at n2;cases n2
   |non=>
    have hv:v'=.non:=h'
    subst hv
    have hr:u'=Value.none:=r'
    subst hr
    exact ⟨.int_none i t,.int_none i t,.int_none i t⟩
   |bl b'=>
    have hv:v'=.bl b':=h'
    subst hv
    have hr:u'=Value.bool b':=r'
    subst hr
    exact ⟨.int_bool i t b',.int_bool i t b',.int_bool i t b'⟩
   |int i'=>
    have hv:v'=.int i':=h'
    subst hv
    obtain ⟨t',hr⟩:∃t',u'=Value.int i' t':=r'
    subst hr
    exact ⟨.int_int i t i' t',.int_int i t i' t',.int_int i t i' t'⟩
   |str l'=>
    obtain ⟨hv,_⟩:=h'
    subst hv
    obtain ⟨t',hr⟩:∃t',u'=Value.str (tx l') t':=r'
    subst hr
    exact ⟨.int_str i t (tx l') t',.int_str i t (tx l') t',.int_str i t (tx l') t'⟩
   |tup ys=>
    obtain ⟨a',vs',hv,q',tt'⟩:=id h'
    subst hv
    have hr:u'=Value.ref a':=r'
    subst hr
    obtain ⟨its',rv',pt',_⟩:=I.tuple q'.sq
    have pt':s.heap.IsTuple a' its'.toArray:=pt'
    exact ⟨.int_tuple i t pt' hu0,.int_tuple i t pt' hu0,.int_tuple i t pt' hu0⟩
   |lst ys=>
    obtain ⟨a',vs',hv,q',tt'⟩:=id h'
    subst hv
    have hr:u'=Value.ref a':=r'
    subst hr
    obtain ⟨its',rv',pl',_⟩:=I.list q'.sq
    have pt':s.heap.IsList a' its'.toArray:=pl'.isList
    exact ⟨.int_list i t pt' hu0,.int_list i t pt' hu0,.int_list i t pt' hu0⟩
  |str l=>
   obtain ⟨hv,_⟩:=h
   subst hv
   obtain ⟨t,hr⟩:∃t,u=Value.str (tx l) t:=r
   subst hr
   cases d' with
   |ref a=>rw[nr]at n2;cases n2
   |scr a=>rw[nr]at n2;cases n2
   |exn a=>rw[nr]at n2;cases n2
   |non=>
    have hv:v'=.non:=h'
    subst hv
    have hr:u'=Value.none:=r'
    subst hr
    exact ⟨.str_none (tx l) t,.str_none (tx l) t,.str_none (tx l) t⟩
   |bl b'=>
    have hv:v'=.bl b':=h'
    subst hv
    have hr:u'=Value.bool b':=r'
    subst hr
    exact ⟨.str_bool (tx l) t b',.str_bool (tx l) t b',.str_bool (tx l) t b'⟩
   |int i'=>
    have hv:v'=.int i':=h'
    subst hv
    obtain ⟨t',hr⟩:∃t',u'=Value.int i' t':=r'
    subst hr
    exact ⟨.str_int (tx l) t i' t',.str_int (tx l) t i' t',.str_int (tx l) t i' t'⟩
   |str l'=>
    obtain ⟨hv,_⟩:=h'
    subst hv
    obtain ⟨t',hr⟩:∃t',u'=Value.str (tx l') t':=r'
    subst hr
    rw[deq,←Qt]
    exact ⟨.str_str (tx l) t (tx l') t',.str_str (tx l) t (tx l') t',.str_str (tx l) t (tx l') t'⟩
   |tup ys=>
    obtain ⟨a',vs',hv,q',tt'⟩:=id h'
    subst hv
    have hr:u'=Value.ref a':=r'
    subst hr
    obtain ⟨its',rv',pt',_⟩:=I.tuple q'.sq
    have pt':s.heap.IsTuple a' its'.toArray:=pt'
    exact ⟨.str_tuple (tx l) t pt' hu0,.str_tuple (tx l) t pt' hu0,.str_tuple (tx l) t pt' hu0⟩
   |lst ys=>
    obtain ⟨a',vs',hv,q',tt'⟩:=id h'
    subst hv
    have hr:u'=Value.ref a':=r'
    subst hr
    obtain ⟨its',rv',pl',_⟩:=I.list q'.sq
    have pt':s.heap.IsList a' its'.toArray:=pl'.isList
    exact ⟨.str_list (tx l) t pt' hu0,.str_list (tx l) t pt' hu0,.str_list (tx l) t pt' hu0⟩
  |tup xs=>
   obtain ⟨a,vs,hv,q,tt⟩:=id h
   subst hv
   have hr:u=Value.ref a:=r
   subst hr
   obtain ⟨its,rv,pt,_⟩:=I.tuple q.sq
   have pt:s.heap.IsTuple a its.toArray:=pt
   cases d' with
   |ref a=>rw[nr]at n2;cases n2
   |scr a=>rw[nr]at n2;cases n2
   |exn a=>rw[nr]at n2;cases n2
   |non=>
    have hv:v'=.non:=h'
    subst hv
    have hr:u'=Value.none:=r'
    subst hr
    exact ⟨.tuple_none pt hu0,.tuple_none pt hu0,.tuple_none pt hu0⟩
   |bl b'=>
    have hv:v'=.bl b':=h'
    subst hv
    have hr:u'=Value.bool b':=r'
    subst hr
    exact ⟨.tuple_bool b' pt hu0,.tuple_bool b' pt hu0,.tuple_bool b' pt hu0⟩
   |int i'=>
    have hv:v'=.int i':=h'
    subst hv
    obtain ⟨t',hr⟩:∃t',u'=Value.int i' t':=r'
    subst hr
    exact ⟨.tuple_int i' t' pt hu0,.tuple_int i' t' pt hu0,.tuple_int i' t' pt hu0⟩
   |str l'=>
    obtain ⟨hv,_⟩:=h'
    subst hv
    obtain ⟨t',hr⟩:∃t',u'=Value.str (tx l') t':=r'
    subst hr
    exact ⟨.tuple_str (tx l') t' pt hu0,.tuple_str (tx l') t' pt hu0,.tuple_str (tx l') t' pt hu0⟩
   |tup ys=>
    obtain ⟨a',vs',hv,q',tt'⟩:=id h'
    subst hv
    have hr:u'=Value.ref a':=r'
    subst hr
    obtain ⟨its',rv',pt',_⟩:=I.tuple q'.sq
    have pt':s.heap.IsTuple a' its'.toArray:=pt'
    exact Qu I ih hu hd n1 n2 h h' pt pt' rv rv' tt tt'
   |lst ys=>
    obtain ⟨a',vs',hv,q',tt'⟩:=id h'
    subst hv
    have hr:u'=Value.ref a':=r'
    subst hr
    obtain ⟨its',rv',pl',_⟩:=I.list q'.sq
    have pt':s.heap.IsList a' its'.toArray:=pl'.isList
    exact ⟨.tuple_list pt pt' hu0,.tuple_list pt pt' hu0,.tuple_list pt pt' hu0⟩
  |lst xs=>
   obtain ⟨a,vs,hv,q,tt⟩:=id h
   subst hv
   have hr:u=Value.ref a:=r
   subst hr
   obtain ⟨its,rv,pl,_⟩:=I.list q.sq
   have pt:s.heap.IsList a its.toArray:=pl.isList
   cases d' with
   |ref a=>rw[nr]at n2;cases n2
   |scr a=>rw[nr]at n2;cases n2
   |exn a=>rw[nr]at n2;cases n2
   |non=>
    have hv:v'=.non:=h'
    subst hv
    have hr:u'=Value.none:=r'
    subst hr
    exact ⟨.list_none pt hu0,.list_none pt hu0,.list_none pt hu0⟩
   |bl b'=>
    have hv:v'=.bl b':=h'
    subst hv
    have hr:u'=Value.bool b':=r'
    subst hr
    exact ⟨.list_bool b' pt hu0,.list_bool b' pt hu0,.list_bool b' pt hu0⟩
   |int i'=>
    have hv:v'=.int i':=h'
    subst hv
    obtain ⟨t',hr⟩:∃t',u'=Value.int i' t':=r'
    subst hr
    exact ⟨.list_int i' t' pt hu0,.list_int i' t' pt hu0,.list_int i' t' pt hu0⟩
   |str l'=>
    obtain ⟨hv,_⟩:=h'
    subst hv
    obtain ⟨t',hr⟩:∃t',u'=Value.str (tx l') t':=r'
    subst hr
    exact ⟨.list_str (tx l') t' pt hu0,.list_str (tx l') t' pt hu0,.list_str (tx l') t' pt hu0⟩
   |tup ys=>
    obtain ⟨a',vs',hv,q',tt'⟩:=id h'
    subst hv
    have hr:u'=Value.ref a':=r'
    subst hr
    obtain ⟨its',rv',pt',_⟩:=I.tuple q'.sq
    have pt':s.heap.IsTuple a' its'.toArray:=pt'
    exact ⟨.list_tuple pt pt' hu0,.list_tuple pt pt' hu0,.list_tuple pt pt' hu0⟩
   |lst ys=>
    obtain ⟨a',vs',hv,q',tt'⟩:=id h'
    subst hv
    have hr:u'=Value.ref a':=r'
    subst hr
    obtain ⟨its',rv',pl',_⟩:=I.list q'.sq
    have pt':s.heap.IsList a' its'.toArray:=pl'.isList
    exact Qv I ih hu hd n1 n2 (fun z=>by subst z;have e:=nO I n1 n2 h h';injection e) pt pt' rv rv' tt tt'
end
def FA(F:FZ)(G:DH):FZ:=fun a=>F a∨∃o,G a=some o
theorem w5{H:Hp}{F:FZ}{G:DH}:Ext H F H (FA F G):=⟨fun _ f=>.inl f,fun _ _=>rfl,fun _ _ h=>h,fun _ _ _ h=>h⟩
theorem nQ{K:PySem.W.Frag}{H:Hp}{F:FZ}{G:DH}{d:D}{v:V}(r:R K H F G)(h:Rep K H F d v):Rep K H (FA F G) (view G d) v:=by
 cases d with
 |ref p=>
  have hv:v=.ref p:=h
  cases g:G p with
  |none=>
   have e:view G (.ref p)=.ref p:=by simp only[view,g]
   rw[e];exact hv
  |some o=>
   cases o with
   |lst ds=>
    have e:view G (.ref p)=.lst ds:=by simp only[view,g]
    rw[e]
    obtain ⟨vs,q,t⟩:=r.lst g
    exact ⟨p,vs,hv,⟨.inr ⟨_,g⟩,q⟩,Reps.ext w5 t⟩
 |_=>exact Rep.ext w5 h
def rC2(K:PySem.W.Frag)(f:D→D→(Bool→Prop)→Prop):R2:=fun x y H Q=>∃F G a b,R K H F G∧Rep K H F a x∧Rep K H F b y∧f (view G a) (view G b) (fun c=>PV K H F Q (.bl c) G)
section
variable {X:Cx}
theorem xf(c:Nat)(l:List Nat):(!(Builtin.Str.occurrences (tx l) (tx [c]) 0 (tx l).length 1).isEmpty)=l.contains c:=by
 have:=StrLaws.found_one (tx l) c
 rw[this,Bool.eq_iff_iff]
 simp
theorem Qw{pins:List (Addr×Obj)}{σ:L2.St}{H:Hp}{s:Shared}{F:FZ}(I:Inv X pins σ H s){A:Around}{x:D}{v:V}{u:Value}(hu:A.units+64 < cLine)(hx:nr x=true)(rx:Rep X.K H F x v)(ru:RelV v u):
  ∀{ds:List D}{vs:List V}{us:List Value},nrs ds=true→aO ds≤60→Reps X.K H F ds vs→Vals vs us→∃e:Value→Bool,(∀y∈us,SeqAt.EqAt A s y u (e y))∧us.any e=isIn x ds:=by
 intro ds vs us hn hd t r
 let P:Value→D→Prop:=fun y d=>nr d=true∧∃v,Rep X.K H F d v∧RelV v y
 have one:∀y d d',P y d→P y d'→d=d':=fun y d d' ⟨n,v,q,z⟩ ⟨n',v',q',z'⟩=>by
  have e:=z.inj z'
  subst e
  exact nO I n n' q q'
 have ⟨f,hf⟩:∃f:Value→D,∀y d,P y d→f y=d:=by
  refine ⟨fun y=>Classical.epsilon (P y),fun y d h=>?_⟩
  exact one y _ _ (Classical.epsilon_spec ⟨d,h⟩) h
 refine ⟨fun y=>deq (f y) x,?_,?_⟩
 ·skip
  have key:∀{ds:List D}{vs:List V}{us:List Value},nrs ds=true→aO ds≤60→Reps X.K H F ds vs→Vals vs us→∀y∈us,SeqAt.EqAt A s y u (deq (f y) x):=by
   intro ds
   induction ds with
   |nil=>
    intro vs us _ _ t r y hy
    have t:vs=[]:=t
    subst t
    cases r
    cases hy
   |cons d ds ih=>
    intro vs us hn hd t r y hy
    obtain ⟨v1,r1,e,h1,t1⟩:=t
    subst e
    rw[nrs,Bool.and_eq_true]at hn
    rw[aO]at hd
    cases r with
    |cons p q=>
     rcases List.mem_cons.mp hy with e |hy
     ·subst e
      rw[hf _ d ⟨hn.1,_,h1,p⟩]
      exact (rH I 60 A d x v1 v _ u (by omega) (by omega) hn.1 hx h1 rx p ru).2.1
     ·exact ih hn.2 (by omega) t1 q y hy
  exact key hn hd t r
 ·have key:∀{ds:List D}{vs:List V}{us:List Value},nrs ds=true→Reps X.K H F ds vs→Vals vs us→us.any (fun y=>deq (f y) x)=isIn x ds:=by
   intro ds
   induction ds with
   |nil=>
    intro vs us _ t r
    have t:vs=[]:=t
    subst t
    cases r
    rfl
   |cons d ds ih=>
    intro vs us hn t r
    obtain ⟨v1,r1,e,h1,t1⟩:=t
    subst e
    rw[nrs,Bool.and_eq_true]at hn
    cases r with
    |cons p q=>
     rw[List.any_cons,hf _ d ⟨hn.1,_,h1,p⟩,ih hn.2 t1 q]
     rfl
  exact key hn t r
theorem gY(op:CmpOp)(hu:X.A.units+100 < cLine):OpR X (compareOp op) (rC2 X.K (aP op)):=by
 intro pins s σ H x y v u Q I rx ry h
 obtain ⟨F,G,a,b,r,ra,rb,h⟩:=h
 have ra':=nQ r ra
 have rb':=nQ r rb
 generalize ea:view G a=va at h ra'
 generalize eb:view G b=vb at h rb'
 have fin:∀c:Bool,PV X.K H F Q (.bl c) G→EP X pins σ Q (.bool c) s:=fun c q=>⟨.bl c,H,I,rfl,q.now r rfl⟩
 have hin:∀(l:List D)(k:Bool→Prop),(nr va=true∧nrs l=true∧aO l≤60)→∀{vs:List V}{us:List Value},Reps X.K H (FA F G) l vs→Vals vs us→
   ∃e:Value→Bool,(∀z∈us,SeqAt.EqAt X.A.in1 s z v (e z))∧us.any e=isIn va l:=fun l k hh {vs us} t rv=>
  Qw I (A:=X.A.in1) (by show X.A.units+1+64 < cLine;omega) hh.1 ra' rx hh.2.1 hh.2.2 t rv
 cases op with
 |Eq=>
  obtain ⟨⟨n1,n2,n3⟩,q⟩:=h
  exact (rH I 60 X.A _ _ x y v u (by omega) n3 n1 n2 ra' rb' rx ry).1 _ _ _ _ (fin _ q)
 |NotEq=>
  obtain ⟨⟨n1,n2,n3⟩,q⟩:=h
  exact (rH I 60 X.A _ _ x y v u (by omega) n3 n1 n2 ra' rb' rx ry).2.2 _ _ _ _ (fin _ q)
 |Lt=>
  have h:gF va vb (fun c=>PV X.K H F Q (.bl c) G):=h
  unfold gF at h
  split at h
  ·have e1:x=.int _:=ra'
   have e2:y=.int _:=rb'
   subst e1;subst e2
   obtain ⟨t,rfl⟩:=rx
   obtain ⟨t',rfl⟩:=ry
   exact lt_int (fin _ h)
  ·obtain ⟨e1,_⟩:=ra'
   obtain ⟨e2,_⟩:=rb'
   subst e1;subst e2
   obtain ⟨t,rfl⟩:=rx
   obtain ⟨t',rfl⟩:=ry
   exact lt_str (fin _ h)
  ·exact h.elim
 |LtE=>
  have h:gG va vb (fun c=>PV X.K H F Q (.bl c) G):=h
  unfold gG at h
  split at h
  ·have e1:x=.int _:=ra'
   have e2:y=.int _:=rb'
   subst e1;subst e2
   obtain ⟨t,rfl⟩:=rx
   obtain ⟨t',rfl⟩:=ry
   exact le_int (fin _ h)
  ·obtain ⟨e1,_⟩:=ra'
   obtain ⟨e2,_⟩:=rb'
   subst e1;subst e2
   obtain ⟨t,rfl⟩:=rx
   obtain ⟨t',rfl⟩:=ry
   exact PySem.P.le_str (fin _ h)
  ·exact h.elim
 |Gt=>
  have h:gH va vb (fun c=>PV X.K H F Q (.bl c) G):=h
  unfold gH at h
  split at h
  ·have e1:x=.int _:=ra'
   have e2:y=.int _:=rb'
   subst e1;subst e2
   obtain ⟨t,rfl⟩:=rx
   obtain ⟨t',rfl⟩:=ry
   exact gt_int (fin _ h)
  ·exact h.elim
 |GtE=>
  have h:gJ va vb (fun c=>PV X.K H F Q (.bl c) G):=h
  unfold gJ at h
  split at h
  ·have e1:x=.int _:=ra'
   have e2:y=.int _:=rb'
   subst e1;subst e2
   obtain ⟨t,rfl⟩:=rx
   obtain ⟨t',rfl⟩:=ry
   exact ge_int (fin _ h)
  ·exact h.elim
 |Is=>
  have h:gM va vb (fun c=>PV X.K H F Q (.bl c) G):=h
  unfold gM at h
  split at h
  ·have e2:y=.non:=rb'
   subst e2
   have q:∀c,(c=decide (x=.non))→PV X.K H F Q (.bl c) G→wpAny (model X.prog X.w) X.A (compareOp .Is v u) (EP X pins σ Q) X.xe s:=fun c e q=>
    Lr pins s σ H _ _ v u Q I rx ry ⟨rfl,by rw[←e];exact q.now r rfl⟩
   refine q _ ?_ h
   have:gK va=decide (x=.non):=by
    cases va with
    |non=>have e1:x=.non:=ra';subst e1;rfl
    |bl _=>have e1:x=.bl _:=ra';subst e1;rfl
    |int _=>have e1:x=.int _:=ra';subst e1;rfl
    |str _=>obtain ⟨e1,_⟩:=ra';subst e1;rfl
    |tup _=>obtain ⟨_,_,e1,_⟩:=ra';subst e1;rfl
    |lst _=>obtain ⟨_,_,e1,_⟩:=ra';subst e1;rfl
    |ref _=>have e1:x=.ref _:=ra';subst e1;rfl
    |scr _=>obtain ⟨_,e1,_⟩:=ra';subst e1;rfl
    |exn _=>obtain ⟨_,_,e1,_⟩:=ra';subst e1;rfl
   rw[this]
  ·split at h
   ·have e1:x=.bl _:=ra'
    have e2:y=.bl _:=rb'
    subst e1;subst e2
    exact Ol pins s σ H _ _ v u Q I rx ry ⟨_,_,rfl,rfl,h.now r rfl⟩
   ·exact h.elim
  ·exact h.elim
 |IsNot=>
  have h:gO va vb (fun c=>PV X.K H F Q (.bl c) G):=h
  unfold gO at h
  split at h
  ·have e2:y=.non:=rb'
   subst e2
   have q:∀c,(c=!decide (x=.non))→PV X.K H F Q (.bl c) G→wpAny (model X.prog X.w) X.A (compareOp .IsNot v u) (EP X pins σ Q) X.xe s:=fun c e q=>
    Ls pins s σ H _ _ v u Q I rx ry ⟨rfl,by rw[←e];exact q.now r rfl⟩
   refine q _ ?_ h
   have:gK va=decide (x=.non):=by
    cases va with
    |non=>have e1:x=.non:=ra';subst e1;rfl
    |bl _=>have e1:x=.bl _:=ra';subst e1;rfl
    |int _=>have e1:x=.int _:=ra';subst e1;rfl
    |str _=>obtain ⟨e1,_⟩:=ra';subst e1;rfl
    |tup _=>obtain ⟨_,_,e1,_⟩:=ra';subst e1;rfl
    |lst _=>obtain ⟨_,_,e1,_⟩:=ra';subst e1;rfl
    |ref _=>have e1:x=.ref _:=ra';subst e1;rfl
    |scr _=>obtain ⟨_,e1,_⟩:=ra';subst e1;rfl
    |exn _=>obtain ⟨_,_,e1,_⟩:=ra';subst e1;rfl
   rw[this]
  ·split at h
   ·have e1:x=.bl _:=ra'
    have e2:y=.bl _:=rb'
    subst e1;subst e2
    exact Ov pins s σ H _ _ v u Q I rx ry ⟨_,_,rfl,rfl,h.now r rfl⟩
   ·exact h.elim
  ·exact h.elim
 |In=>
  have h:dR va vb (fun c=>PV X.K H F Q (.bl c) G):=h
  unfold dR at h
  split at h
  ·split at h
   ·obtain ⟨e1,_⟩:=ra'
    obtain ⟨e2,_⟩:=rb'
    subst e1;subst e2
    obtain ⟨t,rfl⟩:=rx
    obtain ⟨t',rfl⟩:=ry
    exact in_str (by rw[xf];exact fin _ h)
   ·exact h.elim
  ·obtain ⟨hh,q⟩:=h
   obtain ⟨p,vs,e2,q2,t⟩:=rb'
   subst e2
   cases ry
   obtain ⟨its,rv,pl,hz⟩:=I.list q2.sq
   obtain ⟨e,he,hany⟩:=hin _ (fun _=>True) hh t rv
   refine SeqAt.in_listAt e pl.isList (fun w hw=>he w (by simpa using hw)) ?_
   rw[show its.toArray.any e=its.any e by simp,hany]
   exact fin _ q
  ·obtain ⟨hh,q⟩:=h
   obtain ⟨p,vs,e2,q2,t⟩:=rb'
   subst e2
   cases ry
   obtain ⟨its,rv,pl,hz⟩:=I.tuple q2.sq
   obtain ⟨e,he,hany⟩:=hin _ (fun _=>True) hh t rv
   refine SeqAt.in_tupleAt e pl (fun w hw=>he w (by simpa using hw)) ?_
   rw[show its.toArray.any e=its.any e by simp,hany]
   exact fin _ q
  ·exact h.elim
 |NotIn=>
  have h:dR va vb (fun c=>PV X.K H F Q (.bl (!c)) G):=h
  unfold dR at h
  split at h
  ·split at h
   ·obtain ⟨e1,_⟩:=ra'
    obtain ⟨e2,_⟩:=rb'
    subst e1;subst e2
    obtain ⟨t,rfl⟩:=rx
    obtain ⟨t',rfl⟩:=ry
    exact notIn_str (by rw[xf];exact fin _ h)
   ·exact h.elim
  ·obtain ⟨hh,q⟩:=h
   obtain ⟨p,vs,e2,q2,t⟩:=rb'
   subst e2
   cases ry
   obtain ⟨its,rv,pl,hz⟩:=I.list q2.sq
   obtain ⟨e,he,hany⟩:=hin _ (fun _=>True) hh t rv
   refine SeqAt.notIn_listAt e pl.isList (fun w hw=>he w (by simpa using hw)) ?_
   rw[show its.toArray.any e=its.any e by simp,hany]
   exact fin _ q
  ·obtain ⟨hh,q⟩:=h
   obtain ⟨p,vs,e2,q2,t⟩:=rb'
   subst e2
   cases ry
   obtain ⟨its,rv,pl,hz⟩:=I.tuple q2.sq
   obtain ⟨e,he,hany⟩:=hin _ (fun _=>True) hh t rv
   refine SeqAt.notIn_tupleAt e pl (fun w hw=>he w (by simpa using hw)) ?_
   rw[show its.toArray.any e=its.any e by simp,hany]
   exact fin _ q
  ·exact h.elim
end
end RF
namespace RF
open PySem PySem.Spec PyProof.Rows L2
section
variable {X:Cx}
def Qx(K:PySem.W.Frag):R2:=fun x y H Q=>∃F G a b,R K H F G∧Rep K H F a x∧Rep K H F b y∧bZ (view G a) b (fun d=>PV K H F Q d G)
theorem xg{K:PySem.W.Frag}{H:Hp}{F:FZ}{ds:List D}{vs:List V}{i:Int}{d:D}(t:Reps K H F ds vs)(h:atI ds i=some d):∃v,atI vs i=some v∧Rep K H F d v:=by
 unfold atI at h ⊢
 rw[←t.length]
 cases e:ixN ds.length i with
 |none=>rw[e]at h;cases h
 |some j=>
  rw[e]at h
  obtain ⟨v,e1,r⟩:=t.get (show ds[j]?=some d from h)
  exact ⟨v,e1,r⟩
theorem Qy:IxR X (Qx X.K):=by
 intro value slice pins s σ H x y v u Q I rx ry h hs
 obtain ⟨F,G,a,b,r,ra,rb,h⟩:=h
 generalize ea:view G a=va at h
 unfold bZ at h
 split at h
 ·obtain ⟨p,vs,e,q,t⟩:=Rep.list r ra ea
  subst e
  have e2:y=.int _:=rb
  subst e2
  split at h
  ·rename_i d hd
   obtain ⟨w,hw,rw'⟩:=xg t hd
   exact Nb value slice pins s σ H _ _ v u Q I rx ry ⟨p,vs,_,w,rfl,rfl,q,hw,h.now r rw'⟩ hs
  ·exact h.elim
 ·cases du ea
  obtain ⟨p,vs,e,q,t⟩:=ra
  subst e
  have e2:y=.int _:=rb
  subst e2
  split at h
  ·rename_i d hd
   obtain ⟨w,hw,rw'⟩:=xg t hd
   exact Nf value slice pins s σ H _ _ v u Q I rx ry ⟨p,vs,_,w,rfl,rfl,q.sq,hw,h.now r rw'⟩ hs
  ·exact h.elim
 ·cases dw ea
  obtain ⟨e,hl⟩:=ra
  subst e
  have e2:y=.int _:=rb
  subst e2
  split at h
  ·rename_i c hc
   exact Ng value slice pins s σ H _ _ v u Q I rx ry ⟨_,_,c,rfl,rfl,by rw[bY];exact cP hl,hc,h.now r ⟨rfl,by show 1≤sz;decide⟩⟩ hs
  ·exact h.elim
 ·exact h.elim
theorem Qz(l:List Nat)(lo hi:Option Int):Txt.slice (tx l) lo hi=tx (cut l lo hi):=by
 have e:Builtin.Str.strSliceIndices lo hi 1 (tx l).length=sliceRange (sliceBounds lo hi none (tx l).length).1 (sliceBounds lo hi none (tx l).length).2.1 1:=by
  unfold Builtin.Str.strSliceIndices sliceBounds
  cases lo <;> cases hi <;> rfl
 obtain ⟨h1,h2,h3⟩:=vB lo hi (tx l).length
 rw[h1,h2,sliceRange_one]at e
 have e2:((Builtin.Str.strSliceIndices lo hi 1 (tx l).length).filterMap ((tx l).cps[·]?))=cut l lo hi:=by
  rw[e,pick_run]
  unfold cut
  rw[bY]
 unfold Txt.slice
 split
 ·rename_i hh
  rw[Bool.and_eq_true]at hh
  have hl:=eq_of_beq hh.2
  rw[e,List.length_map,List.length_range,bY]at hl
  have b1:HT.sIx l.length l.length hi≤l.length:=HT.vh _ _ (Nat.le_refl _) hi
  unfold cut
  by_cases hz:l=[]
  ·subst hz;simp
  ·have hp:0 < l.length:=List.length_pos_iff.mpr hz
   have e3:HT.sIx l.length 0 lo=0:=by omega
   have e4:HT.sIx l.length l.length hi=l.length:=by omega
   rw[e3,e4]
   simp
 ·rw[e2]
theorem QB{α:Type}(xs:List α)(lo hi:Option Int):(cut xs lo hi).length≤xs.length:=by
 unfold cut
 rw[List.length_take,List.length_drop]
 omega
theorem QC{prog:Program}{w:World}{A:Around}{E:Value→Shared→Prop}{s:Shared}{t sl:Addr}{items:Array Value}{vl vu:Value}{lo hi:Option Int}{Q:Value→Shared→Prop}(ht:IsTup s.heap t items)(hs:s.heap.IsSliceOf sl vl vu .none)(pl:IsPart vl lo)(pu:IsPart vu hi)
  (hw:HT.sIx items.size 0 lo=0∧HT.sIx items.size items.size hi=items.size) (h:Q (.ref t) s):wpAny (model prog w) A (getItem (.ref t) (.ref sl)) Q E s:=by
 obtain ⟨os,hos,hcs,hds⟩:=id hs
 have hTs:s.TypeIs (.ref sl) "slice":=⟨os,hos,hcs⟩
 unfold getItem
 try with_reducible refine wpAny_holding ?_
 first |refine wpAny_bind (wpAny_pure ?_) |skip
 refine wpAny_bind (wpAny_sequenceKey ht.typeIs (by decide) ?_)
 refine wpAny_bind (wpAny_callSpecial?_slot (name:=Str.ofString "__getitem__") ht.typeIs PyProof.Rows.slot_tuple_getitem
  (wpAny_call_entry PyProof.Rows.slot_tuple_getitem ht.typeIs entry_tuple_getitem ?_ (args_tuple_getitem _ _)))
 show wpAny _ _ (Builtin.Tuple.tupleItemsOf (.ref t) >>= _) _ _ s
 refine wpAny_bind (tupleItemsOf_ ht ?_)
 refine wpAny_bind (wpAny_typeOf hTs ?_)
 rw[if_pos (by decide)]
 refine wpAny_bind (HT.vp hs pl pu ?_)
 have hyes:(((HT.sIx items.size 0 lo:Nat):Int)==0&&(1:Int)==1&&(HT.sIx items.size items.size hi - HT.sIx items.size 0 lo)==items.size)=true:=by
  rw[hw.1,hw.2];simp
 show wpAny _ _ (if (((HT.sIx items.size 0 lo:Nat):Int)==0&&(1:Int)==1&&(HT.sIx items.size items.size hi - HT.sIx items.size 0 lo)==items.size)=true then _ else _) _ _ s
 rw[if_pos hyes]
 refine wpAny_bind (m:=Builtin.Tuple.tupleIsExact _) (wpAny_bind (wpAny_typeOf ht.typeIs (wpAny_pure ?_)))
 rw[if_pos (by decide)]
 exact wpAny_bind (wpAny_rule (wpAny_pure ⟨_,rfl,wpAny_pure h⟩))
theorem QD:SlR X (fun x lo hi H Q=>∃a xs,x=.ref a∧SqT X.K H a xs∧(HT.sIx xs.length 0 lo=0∧HT.sIx xs.length xs.length hi=xs.length)∧Q (.ref a) H):=by
 intro pins s σ H x v vl vu lo hi sl Q I rx hs pl pu h
 obtain ⟨a,xs,rfl,hx,hw,q⟩:=h
 cases rx
 obtain ⟨its,r,ht,hz⟩:=I.tuple hx
 have hlen:its.toArray.size=xs.length:=by rw[List.size_toArray];exact r.length.symm
 exact ⟨"tuple",_,PyProof.Rows.slot_tuple_getitem.lookup,ht.typeIs,QC ht hs pl pu (by rw[hlen];exact hw) ⟨.ref a,H,I,rfl,q⟩⟩
theorem xj{K:PySem.W.Frag}{H:Hp}{F:FZ}:∀ns:List Int,Reps K H F (ns.map D.int) (ns.map V.int)
 |[]=>rfl
 |n::ns=>⟨_,_,rfl,rfl,xj ns⟩
def QF(K:PySem.W.Frag)(fz:Bool):V→Option Int→Option Int→Hp→VK→Prop:=fun x lo hi H Q=>∃F G a,R K H F G∧Rep K H F a x∧cX fz (view G a) lo hi G (PV K H F Q)
theorem xm{K:PySem.W.Frag}{H:Hp}{F:FZ}{ds:List D}{vs:List V}(t:Reps K H F ds vs)(lo hi:Option Int):Reps K H F (cut ds lo hi) (cU vs lo hi):=t.cut lo hi
theorem QG(fz:Bool):SlR X (QF X.K fz):=by
 intro pins s σ H x v vl vu lo hi sl Q I rx hs pl pu h
 obtain ⟨F,G,a,r,ra,h⟩:=h
 generalize ea:view G a=va at h
 unfold cX at h
 split at h
 ·obtain ⟨p,vs,e,q,t⟩:=Rep.list r ra ea
  subst e
  exact vC pins s σ H _ v vl vu lo hi sl Q I rx hs pl pu ⟨p,vs,rfl,q,eV h r (xm t lo hi)⟩
 ·rename_i ns
  have ea':a=.scr ns:=by
   cases a with
   |ref p=>
    unfold view at ea
    cases g:G p with
    |none=>simp only[g]at ea;cases ea
    |some o=>cases o;simp only[g]at ea;cases ea
   |_=>exact ea
  subst ea'
  obtain ⟨p,e,q⟩:=ra
  subst e
  refine vC pins s σ H _ v vl vu lo hi sl Q I rx hs pl pu ⟨p,_,rfl,q.sq,eV h r ?_⟩
  have e2:cU (ns.map V.int) lo hi=(cut ns lo hi).map V.int:=by
   unfold cU cut
   rw[List.length_map,List.map_take,List.map_drop]
  rw[e2]
  exact xj (cut ns lo hi)
 ·cases du ea
  obtain ⟨p,vs,e,q,t⟩:=id ra
  subst e
  by_cases hw:HT.sIx vs.length 0 lo=0∧HT.sIx vs.length vs.length hi=vs.length
  ·refine QD pins s σ H _ v vl vu lo hi sl Q I rx hs pl pu ⟨p,vs,rfl,q.sq,hw,?_⟩
   refine h.now r ?_
   rename_i ds
   have:cut ds lo hi=ds:=by
    unfold cut
    rw[t.length,hw.1,hw.2]
    simp[←t.length]
   rw[this]
   exact ra
  ·exact M3 pins s σ H _ v vl vu lo hi sl Q I rx hs pl pu ⟨p,vs,rfl,q.sq,hw,iZ h r (xm t lo hi)⟩
 ·cases dw ea
  obtain ⟨e,hl⟩:=ra
  subst e
  refine Oq pins s σ H _ v vl vu lo hi sl Q I rx hs pl pu ⟨_,rfl,by rw[bY];exact cP hl,?_⟩
  rw[Qz]
  exact h.now r ⟨rfl,Nat.le_trans (QB _ _ _) hl⟩
 ·exact h.elim
theorem xq{K:PySem.W.Frag}{H:Hp}{F:FZ}{G:DH}{d:D}{v:V}{b:Bool}(r:R K H F G)(h:Rep K H F d v)(e:truth (view G d)=some b):lq K v H b:=by
 have h':=nQ r h
 generalize view G d=w at e h'
 cases w with
 |non=>have e1:v=.non:=h';subst e1;simp only[truth,Option.some.injEq]at e;exact e.symm
 |bl x=>have e1:v=.bl x:=h';subst e1;simp only[truth,Option.some.injEq]at e;exact e.symm
 |int i=>have e1:v=.int i:=h';subst e1;simp only[truth,Option.some.injEq]at e;exact e.symm
 |str l=>
  obtain ⟨e1,hl⟩:=h'
  subst e1
  simp only[truth,Option.some.injEq]at e
  refine ⟨by rw[bY];exact cP hl,?_⟩
  rw[bY,←e]
  cases l with
  |nil=>rfl
  |cons c l=>simp;omega
 |tup l=>
  obtain ⟨a,vs,e1,q,t⟩:=h'
  subst e1
  simp only[truth,Option.some.injEq]at e
  refine .inr (.inl ⟨vs,q.sq,?_⟩)
  rw[←e]
  cases l with
  |nil=>have t:vs=[]:=t;subst t;rfl
  |cons c l=>obtain ⟨_,_,e2,_⟩:=t;subst e2;rfl
 |lst l=>
  obtain ⟨a,vs,e1,q,t⟩:=h'
  subst e1
  simp only[truth,Option.some.injEq]at e
  refine .inl ⟨vs,q.sq,?_⟩
  rw[←e]
  cases l with
  |nil=>have t:vs=[]:=t;subst t;rfl
  |cons c l=>obtain ⟨_,_,e2,_⟩:=t;subst e2;rfl
 |ref a=>simp[truth]at e
 |scr a=>simp[truth]at e
 |exn a=>simp[truth]at e
theorem nR{K:PySem.W.Frag}{H:Hp}{F:FZ}:∀{ds:List D}{vs:List V}{bs:List Bool},bools ds=some bs→Reps K H F ds vs→vs=bs.map V.bl
 |[],_,bs,e,h=>by
  simp only[bools,Option.some.injEq]at e
  subst e
  exact h
 |d::ds,_,bs,e,⟨v,w,e1,h,t⟩=>by
  cases d with
  |bl b=>
   simp only[bools]at e
   cases q:bools ds with
   |none=>rw[q]at e;cases e
   |some s=>
    rw[q]at e
    cases e
    have hv:v=.bl b:=h
    rw[e1,hv,nR q t];rfl
  |_=>simp[bools]at e
theorem bw{K:PySem.W.Frag}{H:Hp}{F:FZ}{d:D}{vs:List V}(t:Reps K H F [d] vs):∃v,vs=[v]∧Rep K H F d v:=by
 obtain ⟨v,r,e,h,t⟩:=t
 have t:r=[]:=t
 subst t
 exact ⟨v,e,h⟩
def gZ(K:PySem.W.Frag)(f:Bf):List V→Hp→VK→Prop:=fun vs H Q=>∃F G ds,R K H F G∧Reps K H F ds vs∧opB f (ds.map (view G)) (fun d=>PV K H F Q d G)
theorem map_one{G:DH}{ds:List D}{x:D}(h:ds.map (view G)=[x]):∃d,ds=[d]∧view G d=x:=by
 match ds,h with
 |[d],h=>exact ⟨d,rfl,by simpa using h⟩
theorem QH:bF X (.builtin "len") (gZ X.K .len):=by
 intro pins s σ H xs us Q I rs h
 obtain ⟨F,G,ds,r,t,h⟩:=h
 generalize ea:ds.map (view G)=va at h
 simp only[opB,qD]at h
 split at h
 ·obtain ⟨d,rfl,ev⟩:=map_one ea
  obtain ⟨v,rfl,rv⟩:=bw t
  obtain ⟨a,vs,e,q,t'⟩:=Rep.list r rv ev
  subst e
  exact vD pins s σ H _ us Q I rs ⟨a,vs,rfl,.inl q,by rw[←t'.length];exact h.now r rfl⟩
 ·obtain ⟨d,rfl,ev⟩:=map_one ea
  obtain ⟨v,rfl,rv⟩:=bw t
  cases du ev
  obtain ⟨a,vs,e,q,t'⟩:=rv
  subst e
  exact vD pins s σ H _ us Q I rs ⟨a,vs,rfl,.inr q.sq,by rw[←t'.length];exact h.now r rfl⟩
 ·obtain ⟨d,rfl,ev⟩:=map_one ea
  obtain ⟨v,rfl,rv⟩:=bw t
  cases dw ev
  obtain ⟨e,hl⟩:=rv
  subst e
  exact Nm pins s σ H _ us Q I rs ⟨_,rfl,by rw[bY];exact cP hl,by rw[bY];exact h.now r rfl⟩
 ·exact h.elim
theorem QJ (hc:X.calm=true):bF X (.builtin "all") (gZ X.K .all):=by
 intro pins s σ H xs us Q I rs h
 obtain ⟨F,G,ds,r,t,h⟩:=h
 generalize ea:ds.map (view G)=va at h
 simp only[opB,lB]at h
 split at h
 ·obtain ⟨d,rfl,ev⟩:=map_one ea
  obtain ⟨v,rfl,rv⟩:=bw t
  obtain ⟨a,vs,e,q,t'⟩:=Rep.list r rv ev
  subst e
  split at h
  ·rename_i bs hb
   have e2:=nR hb t'
   subst e2
   exact Oj hc pins s σ H _ us Q I rs ⟨a,bs,rfl,q,h.now r rfl⟩
  ·exact h.elim
 ·exact h.elim
theorem QK:bF X (.type "int") (gZ X.K .int):=by
 intro pins s σ H xs us Q I rs h
 obtain ⟨F,G,ds,r,t,h⟩:=h
 generalize ea:ds.map (view G)=va at h
 simp only[opB,lC]at h
 split at h
 ·obtain ⟨d,rfl,ev⟩:=map_one ea
  obtain ⟨v,rfl,rv⟩:=bw t
  cases qC ev
  have e:v=.bl _:=rv
  subst e
  exact uZ pins s σ H _ us Q I rs (.inr ⟨_,rfl,h.now r rfl⟩)
 ·obtain ⟨d,rfl,ev⟩:=map_one ea
  obtain ⟨v,rfl,rv⟩:=bw t
  cases cL ev
  have e:v=.int _:=rv
  subst e
  exact uZ pins s σ H _ us Q I rs (.inl ⟨_,rfl,h.now r rfl⟩)
 ·obtain ⟨d,rfl,ev⟩:=map_one ea
  obtain ⟨v,rfl,rv⟩:=bw t
  cases dw ev
  obtain ⟨e,hl⟩:=rv
  subst e
  split at h
  ·rename_i n hn
   exact Om pins s σ H _ us Q I rs ⟨_,n,rfl,hn,by rw[bY];exact h.1,h.2.now r rfl⟩
  ·exact h.elim
 ·exact h.elim
theorem QL:bF X (.type "tuple") (gZ X.K .tuple):=by
 intro pins s σ H xs us Q I rs h
 obtain ⟨F,G,ds,r,t,h⟩:=h
 generalize ea:ds.map (view G)=va at h
 simp only[opB,qF]at h
 split at h
 ·obtain ⟨d,rfl,ev⟩:=map_one ea
  obtain ⟨v,rfl,rv⟩:=bw t
  obtain ⟨a,vs,e,q,t'⟩:=Rep.list r rv ev
  subst e
  exact vH pins s σ H _ us Q I rs ⟨a,vs,rfl,.inl ⟨q,iZ h r t'⟩⟩
 ·obtain ⟨d,rfl,ev⟩:=map_one ea
  obtain ⟨v,rfl,rv⟩:=bw t
  cases du ev
  obtain ⟨a,vs,e,q,t'⟩:=id rv
  subst e
  exact vH pins s σ H _ us Q I rs ⟨a,vs,rfl,.inr ⟨q.sq,h.now r rv⟩⟩
 ·exact h.elim
def xr(K:PySem.W.Frag)(fz:Bool)(f:Lf):List V→Hp→VK→Prop:=fun vs H Q=>∃F G ds,R K H F G∧Reps K H F ds vs∧cB f (ds.map (view G)) (fun xs=>mk fz xs G (PV K H F Q))
theorem QM(l:List Nat):∀(us:List Value),us.length=l.length→(∀(j:Nat)(v:Value),us[j]?=some v→∃(c:Nat)(u:Tok),l[j]?=some c∧v=Value.str ⟨#[c]⟩ u)→Vals (l.map fun c=>V.str (tx [c])) us:=by
 induction l with
 |nil=>intro us h _;cases us with |nil=>exact .nil |cons _ _=>cases h
 |cons c l ih=>
  intro us h q
  cases us with
  |nil=>cases h
  |cons u us=>
   obtain ⟨c',t,e1,e2⟩:=q 0 u (by simp)
   have e1:c=c':=by simpa using e1
   subst e1
   exact .cons ⟨t,e2⟩ (ih us (by simpa using h) fun j v hv=>by simpa using q (j+1) v (by simpa using hv))
theorem QQ (hc:X.calm=true):bF X (.type "list") (fun xs H Q=>∃l:List Nat,xs=[.str (tx l)]∧l.length≤sizeLine∧∀p,H p=none→Q (.ref p) (upd H p (.lst (l.map fun c=>V.str (tx [c]))))):=by
 intro pins s σ H xs us Q I r h
 obtain ⟨l,rfl,hz,q⟩:=h
 obtain ⟨u,rfl,t,rfl⟩:=vals1 r
 have hz':(tx l).cps.size≤sizeLine:=by simpa using hz
 refine call_list_str (hn:=hz') (I.ok.hd hc) (tx l) t fun h' tk acc' c' kp e hi=>?_
 have hv:Vals (l.map fun c=>V.str (tx [c])) acc'.toList:=by
  refine QM l _ ?_ fun j v hv=>?_
  ·rw[Array.length_toList,hi.1];simp
  ·obtain ⟨c,u,e1,e2⟩:=hi.2 j v (by rw[←Array.getElem?_toList];exact hv)
   exact ⟨c,u,by simpa using e1,e2⟩
 exact ⟨.ref s.heap.objs.size,_,I.laid (t':=tk) kp (Nat.le_refl _) (show ObjOk X.prog X.w _ h' _ (.lst _) from ⟨by rw[List.length_map];exact hz,acc'.toList,c',hv,by rw[Array.toArray_toList];exact e⟩),rfl,q _ (I.hok.fresh (Nat.le_refl _))⟩
theorem rJ{K:PySem.W.Frag}{H:Hp}{F:FZ}:∀l:List Nat,Reps K H F (l.map fun c=>D.str [c]) (l.map fun c=>V.str (tx [c]))
 |[]=>rfl
 |c::l=>⟨_,_,rfl,⟨rfl,by show 1≤sz;decide⟩,rJ l⟩
theorem QR (hc:X.calm=true) (fz:Bool):bF X (.type "list") (xr X.K fz .list):=by
 intro pins s σ H xs us Q I rs h
 obtain ⟨F,G,ds,r,t,h⟩:=h
 generalize ea:ds.map (view G)=va at h
 simp only[cB,qI]at h
 split at h
 ·obtain ⟨d,rfl,ev⟩:=map_one ea
  obtain ⟨v,rfl,rv⟩:=bw t
  obtain ⟨a,vs,e,q,t'⟩:=Rep.list r rv ev
  subst e
  exact vG pins s σ H _ us Q I rs ⟨a,vs,rfl,.inl q,eV h r t'⟩
 ·obtain ⟨d,rfl,ev⟩:=map_one ea
  obtain ⟨v,rfl,rv⟩:=bw t
  cases du ev
  obtain ⟨a,vs,e,q,t'⟩:=id rv
  subst e
  exact vG pins s σ H _ us Q I rs ⟨a,vs,rfl,.inr q.sq,eV h r t'⟩
 ·obtain ⟨d,rfl,ev⟩:=map_one ea
  obtain ⟨v,rfl,rv⟩:=bw t
  cases dw ev
  obtain ⟨e,hl⟩:=rv
  subst e
  exact QQ hc pins s σ H _ us Q I rs ⟨_,rfl,cP hl,eV h r (rJ _)⟩
 ·exact h.elim
theorem xu{K:PySem.W.Frag}{H:Hp}{F:FZ}:∀{ds:List D}{vs:List V}{ls:List (List Nat)},bH ds=some ls→Reps K H F ds vs→vs=(ls.map tx).map V.str
 |[],_,bs,e,h=>by
  simp only[bH,Option.some.injEq]at e
  subst e
  exact h
 |d::ds,_,bs,e,⟨v,w,e1,h,t⟩=>by
  cases d with
  |str b=>
   simp only[bH]at e
   cases q:bH ds with
   |none=>rw[q]at e;cases e
   |some s=>
    rw[q]at e
    cases e
    obtain ⟨hv,_⟩:=h
    rw[e1,hv,xu q t];rfl
  |_=>simp[bH]at e
section
variable {prog:Program} {w:World} {A:Around} {E:Value→Shared→Prop} {s:Shared} {l:Addr}
end
theorem Zn{ds:List D}{ls:List (List Nat)}(h0:fP ds=none)(h1:bH ds=some ls):ls≠[]:=by
 rintro rfl
 cases ds with
 |nil=>simp[fP]at h0
 |cons x y=>cases x <;> simp only[bH]at h1 <;> first | (cases h1;done) | (cases hd:bH y <;> rw[hd]at h1 <;> cases h1)
theorem QS:bF X (.type "str") (gZ X.K .str):=by
 intro pins s σ H xs us Q I r h
 obtain ⟨F,G,ds,rr,t,h⟩:=h
 generalize ea:ds.map (view G)=va at h
 simp only[opB,qH]at h
 split at h
 ·rename_i i
  obtain ⟨d',rfl,ev⟩:=map_one ea
  obtain ⟨v',rfl,rv⟩:=bw t
  have e1:=cL ev
  subst e1
  have e2:v'=.int i:=rv
  subst e2
  obtain ⟨⟨h0,h1⟩,h2⟩:=h
  have hm:(i.toNat:Int)=i:=Int.toNat_of_nonneg h0
  have hl:(dU i.toNat).length≤3:=by
   have:=digits_le ⟨i.toNat,by omega⟩
   unfold dU
   rw[Array.length_toList]
   exact this
  have hs:=h2.now rr (v:=.str (tx (dU i.toNat))) ⟨rfl,by have hz:sz=1000000:=rfl;omega⟩
  have ht:tx (dU i.toNat)=qu i.toNat:=(vQ _).symm
  rw[ht]at hs
  exact PN pins s σ H _ us Q I r ⟨i.toNat,by rw[hm],by omega,hs⟩
 ·exact h.elim
def c7:D→Option String
 |.non=>some "NoneType"
 |.bl _=>some "bool"
 |.int _=>some "int"
 |.str _=>some "str"
 |.tup _=>some "tuple"
 |.lst _=>some "list"
 |_=>none
theorem QT{K:PySem.W.Frag}{H:Hp}{F:FZ}{G:DH}{d:D}{v:V}{T:String}(r:R K H F G)(h:Rep K H F d v)(e:c7 (view G d)=some T):TyOf K H v (.type T):=by
 have h':=nQ r h
 generalize view G d=w at e h'
 cases w with
 |non=>have e1:v=.non:=h';subst e1;simp only[c7,Option.some.injEq]at e;subst e;exact .non
 |bl x=>have e1:v=.bl x:=h';subst e1;simp only[c7,Option.some.injEq]at e;subst e;exact .bl x
 |int i=>have e1:v=.int i:=h';subst e1;simp only[c7,Option.some.injEq]at e;subst e;exact .int i
 |str l=>obtain ⟨e1,hl⟩:=h';subst e1;simp only[c7,Option.some.injEq]at e;subst e;exact .str _
 |tup l=>obtain ⟨a,vs,e1,q,t⟩:=h';subst e1;simp only[c7,Option.some.injEq]at e;subst e;exact .tup q.it
 |lst l=>obtain ⟨a,vs,e1,q,t⟩:=h';subst e1;simp only[c7,Option.some.injEq]at e;subst e;exact .lst q.2
 |ref a=>simp[c7]at e
 |scr a=>simp[c7]at e
 |exn a=>simp[c7]at e
def QV (K:PySem.W.Frag):Prop:=∀T t:String,T∈["NoneType","bool","int","str","tuple","list"]→dW t=true→PySem.W.kitOne K (.type T) (.type t)=some (T==t||(T=="bool"&&t=="int"))
theorem QW{K:PySem.W.Frag}:QV K:=by
 intro T t hT ht
 simp only[List.mem_cons,List.not_mem_nil,or_false]at hT
 simp only[dW,Bool.or_eq_true,beq_iff_eq]at ht
 rcases hT with rfl |rfl |rfl |rfl |rfl |rfl <;> rcases ht with (((rfl |rfl) |rfl) |rfl) |rfl <;> (with_unfolding_all rfl)
theorem QX {d:D} {t:String} {b:Bool} (e:isT t d=some b):∃T,c7 d=some T∧T∈["NoneType","bool","int","str","tuple","list"]∧(dW t=true→b=(T==t||(T=="bool"&&t=="int"))):=by
 have comm:∀a b:String,(a==b)=(b==a):=fun a b=>by rw[Bool.eq_iff_iff,beq_iff_eq,beq_iff_eq];exact ⟨Eq.symm,Eq.symm⟩
 cases d with
 |non=>
  refine ⟨"NoneType",rfl,by simp,fun ht=>?_⟩
  simp only[isT,Option.some.injEq]at e
  simp only[dW,Bool.or_eq_true,beq_iff_eq]at ht
  subst e
  rcases ht with (((rfl |rfl) |rfl) |rfl) |rfl <;> rfl
 |bl _=>
  refine ⟨"bool",rfl,by simp,fun ht=>?_⟩
  simp only[isT,Option.some.injEq]at e
  rw[←e,comm t "bool"];rfl
 |int _=>
  refine ⟨"int",rfl,by simp,fun ht=>?_⟩
  simp only[isT,Option.some.injEq]at e
  rw[←e,comm t "int"];simp
 |str _=>
  refine ⟨"str",rfl,by simp,fun ht=>?_⟩
  simp only[isT,Option.some.injEq]at e
  rw[←e,comm t "str"];simp
 |tup _=>
  refine ⟨"tuple",rfl,by simp,fun ht=>?_⟩
  simp only[isT,Option.some.injEq]at e
  rw[←e,comm t "tuple"];simp
 |lst _=>
  refine ⟨"list",rfl,by simp,fun ht=>?_⟩
  simp only[isT,Option.some.injEq]at e
  rw[←e,comm t "list"];simp
 |ref a=>simp[isT]at e
 |scr a=>simp[isT]at e
 |exn a=>simp[isT]at e
theorem xF(s:List Nat):∀ls:List (List Nat),Str.join (tx s) (ls.map tx)=tx (cY s ls)
 |[]=>rfl
 |[x]=>rfl
 |x::y::r=>by
  have ih:=xF s (y::r)
  show tx x++tx s++Str.join (tx s) ((y::r).map tx)=_
  rw[ih,qi,qi];rfl
theorem xG(s:List Nat):∀ls:List (List Nat),(cY s ls).length≤(ls.map (·.length)).sum+ls.length * s.length
 |[]=>by simp[cY]
 |[x]=>by simp[cY]
 |x::y::r=>by
  have ih:=xG s (y::r)
  simp only[cY,List.length_append,List.map_cons,List.sum_cons,List.length_cons]at ih ⊢
  have:(r.length+1+1) * s.length=(r.length+1) * s.length+s.length:=by rw[Nat.succ_mul]
  omega
def g8(K:PySem.W.Frag)(m:Mf):V→List V→Hp→VK→Prop:=fun x vs H Q=>∃F G d ds,R K H F G∧Rep K H F d x∧Reps K H F ds vs∧opM m d ds G (PV K H F Q)
theorem QZ:MtR X "str.join" (g8 X.K .join):=by
 intro pins s σ H x xs v us Q I rx rs h
 obtain ⟨F,G,d,ds,r,rd,t,h⟩:=h
 simp only[opM]at h
 generalize ea:ds.map (view G)=va at h
 simp only[lD]at h
 split at h
 ·obtain ⟨d',rfl,ev⟩:=map_one ea
  obtain ⟨v',rfl,rv⟩:=bw t
  obtain ⟨a,vs,e,q,t'⟩:=Rep.list r rv ev
  subst e
  obtain ⟨e1,hl⟩:=rd
  subst e1
  split at h
  ·rename_i ls hls
   have e2:=xu hls t'
   subst e2
   refine N7 pins s σ H _ _ v us Q I rx rs ⟨_,a,_,rfl,rfl,q,?_,?_⟩
   ·have hz:=h.1
    rw[List.map_map,List.length_map,bY,show (fun x:Str=>x.length)∘tx=fun l=>l.length from funext bY]
    have:sz=1000000:=rfl
    omega
   ·rw[xF]
    exact h.2.now r ⟨rfl,Nat.le_trans (xG _ _) h.1⟩
  ·exact h.elim
 ·exact h.elim
theorem Q0:MtM X "list.append" (g8 X.K .append):=by
 intro pins s σ H x xs v us Q I rx rs h
 obtain ⟨F,G,d,ds,r,rd,t,h⟩:=h
 simp only[opM,lE]at h
 split at h
 ·obtain ⟨v',rfl,rv⟩:=bw t
  have e1:x=.ref _:=rd
  subst e1
  split at h
  ·rename_i ds0 hg
   obtain ⟨vs,q,t'⟩:=r.lst hg
   refine Nt pins s σ H _ _ v us Q I rx rs ⟨_,vs,v',rfl,rfl,q,?_,?_⟩
   ·rw[←t'.length];exact Nat.lt_of_lt_of_le h.1 szl
   ·exact h.2 _ _ _ (iR r hg) (r.write hg (t'.append (Reps.cons rv Reps.nil))) rfl
  ·exact h.elim
 ·exact h.elim
theorem Q3:MtR X "list.count" (g8 X.K .count):=by
 intro pins s σ H x xs v us Q I rx rs h
 obtain ⟨F,G,d,ds,r,rd,t,h⟩:=h
 simp only[opM]at h
 generalize ea:view G d=va at h
 simp only[lH]at h
 split at h
 ·obtain ⟨a,vs,e,q,t'⟩:=Rep.list r rd ea
  subst e
  obtain ⟨v',rfl,rv⟩:=bw t
  have e2:v'=.bl true:=rv
  subst e2
  split at h
  ·rename_i bs hbs
   have e3:=nR hbs t'
   subst e3
   exact Px pins s σ H _ _ v us Q I rx rs ⟨a,bs,rfl,rfl,q,h.now r rfl⟩
  ·exact h.elim
 ·exact h.elim
theorem Q4:MtR X "list.index" (g8 X.K .index):=by
 intro pins s σ H x xs v us Q I rx rs h
 obtain ⟨F,G,d,ds,r,rd,t,h⟩:=h
 simp only[opM]at h
 generalize ea:view G d=va at h
 simp only[lJ]at h
 split at h
 ·obtain ⟨a,vs,e,q,t'⟩:=Rep.list r rd ea
  subst e
  obtain ⟨v',rfl,rv⟩:=bw t
  have e2:v'=.bl true:=rv
  subst e2
  split at h
  ·rename_i bs hbs
   have e3:=nR hbs t'
   subst e3
   exact Pz pins s σ H _ _ v us Q I rx rs ⟨a,bs,rfl,rfl,q,h.1,h.2.now r rfl⟩
  ·exact h.elim
 ·exact h.elim
def Q5:V→List V→Hp→VK→Prop:=fun x vs H Q=>∃(l:Addr)(xs:List V)(i:Int)(y:V),x=.ref l∧vs=[.int i,y]∧H l=some (.lst xs)∧xs.length < sizeLine∧0≤i∧i≤1000000∧Q .non (upd H l (.lst (xs.take i.toNat++y::xs.drop i.toNat)))
theorem Q6{its:List Value}{i:Int}{u:Value}(h:0≤i):(its.toArray.extract 0 (if i < 0 then (i+(its.toArray.size:Int)).toNat else min i.toNat its.toArray.size)).push u++its.toArray.extract (if i < 0 then (i+(its.toArray.size:Int)).toNat else min i.toNat its.toArray.size)=(its.take i.toNat++u::its.drop i.toNat).toArray:=by
 rw[if_neg (by omega),PySem.W.kl_ins_eq,List.size_toArray]
 by_cases hc:i.toNat≤its.length
 ·rw[Nat.min_eq_left hc]
 ·rw[Nat.min_eq_right (by omega),List.take_of_length_le (Nat.le_refl _),List.drop_of_length_le (Nat.le_refl _),List.take_of_length_le (by omega),List.drop_of_length_le (by omega)]
theorem Q7{i:Int}(h0:0≤i)(h1:i≤1000000):¬(!Builtin.List.listFitsIndex i)=true:=by
 have:Builtin.List.listFitsIndex i=true:=by
  unfold Builtin.List.listFitsIndex
  rw[Bool.and_eq_true]
  exact ⟨decide_eq_true (by omega),decide_eq_true (by omega)⟩
 rw[this];decide
theorem Q8:MtM X "list.insert" Q5:=by
 intro pins s σ H x vs v us Q I rx rv h
 obtain ⟨l,xs,i,y,rfl,rfl,hH,hz,h0,h1,q⟩:=h
 cases rx
 cases rv with
 |cons r1 rv=>
  obtain ⟨t,rfl⟩:=r1
  obtain ⟨u,rfl,ru⟩:=L2.Vals.one rv
  obtain ⟨z,its,m,r,hl,e⟩:=I.lstM hH
  refine call_meets PySem.F.slot_list_insert ⟨_,e,rfl⟩ PySem.F.entry_list_insert (PySem.F.args_list_insert_3 _ _ _) (PySem.AutoSeq1.list_insert_list_int_val_1 l its.toArray m i t u (Q7 h0 h1) (by rw[List.size_toArray];omega)) ⟨e,?_⟩
  refine ⟨.non,_,I.lset (its':=its.take i.toNat++u::its.drop i.toNat) hH e (Q6 h0) ((r.take _).append (.cons ru (r.drop _))) ?_,rfl,q⟩
  rw[List.length_append,List.length_cons,List.length_take,List.length_drop];omega
theorem Q9:MtM X "list.insert" (g8 X.K .insert):=by
 intro pins s σ H x xs v us Q I rx rs h
 obtain ⟨F,G,d,ds,r,rd,t,h⟩:=h
 simp only[opM,lG]at h
 split at h
 ·rename_i i y
  obtain ⟨v1,r1,rfl,rv1,t⟩:=t
  obtain ⟨v',rfl,rv⟩:=bw t
  have e1:x=.ref _:=rd
  subst e1
  have e2:v1=.int i:=rv1
  subst e2
  split at h
  ·rename_i ds0 hg
   obtain ⟨h1,h2,h3,h4⟩:=h
   obtain ⟨vs,q,t'⟩:=r.lst hg
   refine Q8 pins s σ H _ _ v us Q I rx rs ⟨_,vs,i,v',rfl,rfl,q,?_,h2,h3,?_⟩
   ·rw[←t'.length];exact Nat.lt_of_lt_of_le h1 szl
   ·exact h4 _ _ _ (iR r hg) (r.write hg ((t'.take _).append (Reps.cons rv (t'.drop _)))) rfl
  ·exact h.elim
 ·exact h.elim
theorem Ra{K:PySem.W.Frag}{H:Hp}{F:FZ}{G:DH}{d:D}{v:V}{ds:List D}(r:R K H F G)(h:Rep K H F d v)(e:view G d=.lst ds):∃a vs,v=.ref a∧H a=some (.lst vs)∧Reps K H F ds vs:=by
 cases d with
 |lst xs=>
  have e':D.lst xs=.lst ds:=e
  cases e'
  obtain ⟨a,vs,e1,q,t⟩:=h
  exact ⟨a,vs,e1,q.2,t⟩
 |ref p=>
  have hv:v=.ref p:=h
  unfold view at e
  cases g:G p with
  |none=>simp only[g]at e;cases e
  |some o=>
   cases o with
   |lst xs=>
    simp only[g]at e
    cases e
    obtain ⟨vs,q,t⟩:=r.lst g
    exact ⟨p,vs,hv,q,t⟩
 |_=>cases (show _=D.lst ds from e)
theorem Rb:MtM X "list.extend" (g8 X.K .extend):=by
 intro pins s σ H x xs v us Q I rx rs h
 obtain ⟨F,G,d,ds,r,rd,t,h⟩:=h
 simp only[opM]at h
 generalize ea:ds.map (view G)=va at h
 simp only[lF]at h
 split at h
 ·obtain ⟨d',rfl,ev⟩:=map_one ea
  obtain ⟨v',rfl,rv⟩:=bw t
  obtain ⟨b,vs2,e2,q2,t2⟩:=Ra r rv ev
  subst e2
  have e1:x=.ref _:=rd
  subst e1
  split at h
  ·rename_i ds0 hg
   obtain ⟨vs,q,t'⟩:=r.lst hg
   refine Nv pins s σ H _ _ v us Q I rx rs ⟨_,b,vs,vs2,rfl,rfl,q,q2,?_,?_⟩
   ·rw[←t'.length,←t2.length];exact Nat.le_of_lt (Nat.lt_of_lt_of_le h.1 szl)
   ·exact h.2 _ _ _ (iR r hg) (r.write hg (t'.append t2)) rfl
  ·exact h.elim
 ·exact h.elim
theorem Rc:pZ X (fun o i x H Q=>∃F G a b c,R X.K H F G∧Rep X.K H F a o∧Rep X.K H F b i∧Rep X.K H F c x∧cZ a b c G (fun G'=>∀H' F',Ext H F H' F'→R X.K H' F' G'→Q H')):=by
 intro pins s σ H o i v ov iv u Q I ro ri rv h
 obtain ⟨F,G,a,b,c,r,ra,rb,rc,h⟩:=h
 unfold cZ at h
 split at h
 ·have e1:o=.ref _:=ra
  have e2:i=.int _:=rb
  subst e1;subst e2
  split at h
  ·rename_i ds hg
   obtain ⟨vs,q,t⟩:=r.lst hg
   split at h
   ·rename_i j hj
    refine set_list pins s σ H _ _ v ov iv u Q I ro ri rv ⟨_,vs,_,j,rfl,rfl,q,by rw[←t.length];exact hj,?_⟩
    exact h _ _ (iR r hg) (r.write hg (t.set rc j))
   ·exact h.elim
  ·exact h.elim
 ·exact h.elim
end
end RF
namespace RF
open PySem PySem.Spec PyProof.Rows L2
inductive SK where
 |lst (a:Addr) |tup (a:Addr) |str (x:Str) (t:Tok)
def SK.val:SK→Value
 |.lst a=>.ref a
 |.tup a=>.ref a
 |.str x t=>.str x t
def SK.cls:SK→String
 |.lst _=>"list_iterator"
 |.tup _=>"tuple_iterator"
 |.str x _=>strIterType x
def SK.obj(k:SK):Obj:={ cls:=.type k.cls,data:=.fields #[k.val,.int 0 0] }
def SK.pos(k:SK)(it:Addr)(i:Nat)(h:Heap):Prop:=∃o,h.get? it=some o∧o.cls=.type k.cls∧o.data=.fields #[k.val,.int i 0]
def SK.Sat(H:Hp)(vs:List V):SK→Prop
 |.lst a=>H a=some (.lst vs)
 |.tup a=>H a=some (.tup vs)
 |.str x _=>vs=x.cps.toList.map fun c=>V.str ⟨#[c]⟩
def SK.No(e:Addr):SK→Prop
 |.lst a=>a≠e
 |.tup a=>a≠e
 |.str _ _=>True
theorem SK.Sat.no{H:Hp}{vs:List V}{k:SK}{e:Addr}(h:k.Sat H vs)(he:H e=none):k.No e:=by
 cases k with
 |lst a=>exact aU (show H a=some _ from h) he
 |tup a=>exact aU (show H a=some _ from h) he
 |str x t=>trivial
def SK.On(its:Array Value)(h:Heap):SK→Prop
 |.lst a=>h.IsList a its
 |.tup a=>h.IsTuple a its
 |.str _ _=>True
theorem SK.On.keeps{its:Array Value}{h h':Heap}{k:SK}(x:k.On its h)(kk:∀b o,k.val=.ref b→h.get? b=some o→h'.get? b=some o):k.On its h':=by
 cases k with
 |lst a=>obtain ⟨o,e,r⟩:=x;exact ⟨o,kk a o rfl e,r⟩
 |tup a=>obtain ⟨o,e,r⟩:=x;exact ⟨o,kk a o rfl e,r⟩
 |str _ _=>trivial
section
variable {prog:Program} {w:World} {A:Around} {E:Value→Shared→Prop} {s:Shared}
theorem SK.iter{k:SK}{its:Array Value}{Q:Value→Shared→Prop}(h:k.On its s.heap)(q:Q (.ref s.heap.objs.size) { s with heap:=s.heap.push k.obj }):wpAny (model prog w) A (pyIter k.val) Q E s:=by
 cases k with
 |lst a=>exact wpAny_pyIter_list h q
 |tup a=>exact wpAny_pyIter_tuple h q
 |str x t=>exact wpAny_pyIter_strU q
theorem SK.pos0{k:SK}{h:Heap}:k.pos h.objs.size 0 (h.push k.obj):=⟨_,Heap.get?_push_size _ rfl,rfl,rfl⟩
theorem SK.pos.keep{k:SK}{it:Addr}{i:Nat}{h h':Heap}(x:k.pos it i h)(kk:∀o,h.get? it=some o→h'.get? it=some o):k.pos it i h':=let ⟨o,e,r⟩:=x;⟨o,kk o e,r⟩
theorem Rf{it t:Addr}{i:Nat}{items}{x:Value}{Q:Value→Shared→Prop}(hit:s.heap.IsTupleIter it t i)
  (ht:s.heap.IsTuple t items) (hx:items[i]?=some x)
  (hQ:∀h',h'.IsTupleIter it t (i+1)→Heap.SameBut it s.heap h'→Q x { s with heap:=h' }):
  wpAny (model prog w) A (Builtin.SmallTypes.nextOf (.ref it)) Q E s:=by
 obtain ⟨o,ho,hc,hd⟩:=id hit
 obtain ⟨ol,hol,_,nl,hdl⟩:=ht
 unfold Builtin.SmallTypes.nextOf
 refine wpAny_bind (wpAny_callSpecial?_slot (name:=Str.ofString "__next__") hit.typeIs F.slot_tuple_iterator_next
  (wpAny_call_entry F.slot_tuple_iterator_next hit.typeIs F.entry_tuple_iterator_next ?_ (F.args_tuple_iterator_next_1 _)))
 show wpAny _ _ (field (.ref it) 0 >>= _) _ _ s
 refine wpAny_bind (wpAny_field ho hd (x:=.ref t) rfl ?_)
 show wpAny _ _ (if (Value.ref t==Value.none)=true then _ else _) _ _ s
 rw[if_neg (show ¬((Value.ref t==Value.none)=true) from Bool.false_ne_true)]
 show wpAny _ _ (field (.ref it) 1 >>= _) _ _ s
 refine wpAny_bind (wpAny_field ho hd (x:=.int i 0) rfl ?_)
 show wpAny _ _ (seqItems? (.ref t) >>= _) _ _ s
 refine wpAny_bind (wpAny_seqItems hol hdl ?_)
 simp only[Int.toNat_natCast,hx]
 refine wpAny_bind (wpAny_setField ho hd (by simp) (wpAny_pure ⟨x,rfl,wpAny_pure (hQ _ ?_ (Heap.SameBut.update ..))⟩))
 exact ⟨_,Heap.get?_update_self _ ho (Obj.isFreed_of_fields (Obj.data_mapFields hd _)),(Obj.cls_mapFields ..).trans hc,by
  rw[Obj.data_mapFields hd];simp[rawInt]⟩
theorem Rg{it t:Addr}{i:Nat}{items}{Q:Value→Shared→Prop}(hh:A.handled=none)
  (hit:s.heap.IsTupleIter it t i) (ht:s.heap.IsTuple t items) (hx:items[i]?=none)
  (hE:∀h' e,Heap.ExtBut it s.heap h'→(∃o,h'.get? e=some o∧o.cls=.type "StopIteration")→E (.ref e) { s with heap:=h' }):
  wpAny (model prog w) A (Builtin.SmallTypes.nextOf (.ref it)) Q E s:=by
 obtain ⟨o,ho,hc,hd⟩:=id hit
 obtain ⟨ol,hol,_,nl,hdl⟩:=ht
 unfold Builtin.SmallTypes.nextOf
 refine wpAny_bind (wpAny_callSpecial?_slot (name:=Str.ofString "__next__") hit.typeIs F.slot_tuple_iterator_next
  (wpAny_call_entry F.slot_tuple_iterator_next hit.typeIs F.entry_tuple_iterator_next ?_ (F.args_tuple_iterator_next_1 _)))
 show wpAny _ _ (field (.ref it) 0 >>= _) _ _ s
 refine wpAny_bind (wpAny_field ho hd (x:=.ref t) rfl ?_)
 show wpAny _ _ (if (Value.ref t==Value.none)=true then _ else _) _ _ s
 rw[if_neg (show ¬((Value.ref t==Value.none)=true) from Bool.false_ne_true)]
 show wpAny _ _ (field (.ref it) 1 >>= _) _ _ s
 refine wpAny_bind (wpAny_field ho hd (x:=.int i 0) rfl ?_)
 show wpAny _ _ (seqItems? (.ref t) >>= _) _ _ s
 refine wpAny_bind (wpAny_seqItems hol hdl ?_)
 simp only[Int.toNat_natCast,hx]
 refine wpAny_bind (wpAny_rule (wpAny_bind (wpAny_setField ho hd (by simp) ?_)))
 show wpAny _ _ (newExc (.type "StopIteration") [] >>= _) _ _ _
 refine wpAny_bind ?_
 simp only[newExc,newTuple]
 refine wpAny_bind (wpAny_newObj_type ?_ (by size_fits))
 refine wpAny_bind (m:=firstArgMember _ _) (wpAny_of_eq (a:=Value.none) (by first |rfl | (simp only[firstArgMember];rfl)) ?_)
 refine wpAny_newObj_type ?_ (by size_fits)
 simp only[raiseNew]
 refine wpAny_bind (wpAny_handled ?_)
 first |rw[show A.in1.handled=none from hh] |rw[hh]
 refine wpAny_bind (wpAny_pure (wpAny_throw ?_))
 exact hE _ _ (((Heap.SameBut.update ..).extBut.push _).push _) ⟨_,Heap.get?_push_size _ rfl,rfl⟩
theorem Rh(hh:A.handled=none)(it l:Addr)(hne:l≠it)(items:Array Value):
  Draws prog w A it [it,l] items.size (fun i v=>items[i]?=some v) (fun i h=>h.IsTupleIter it l i∧h.IsTuple l items) where
 live:=fun _ _ st=>let ⟨o,ho,_⟩:=st.1;⟨o,ho⟩
 frame:=fun _ _ _ st hk=>⟨let ⟨o,e,r⟩:=st.1;⟨o,hk it (by simp) o e,r⟩,let ⟨o,e,r⟩:=st.2;⟨o,hk l (by simp) o e,r⟩⟩
 item:=fun i s Q E hi st hQ=>by
  refine Rf st.1 st.2 (x:=items[i]) (by simp[hi]) fun h' hit' hs'=>?_
  exact hQ _ h' s.toks (by simp[hi]) ⟨hit',let ⟨o,e,r⟩:=st.2;⟨o,hs'.extBut l o hne e,r⟩⟩ hs'
 done:=fun s Q E st hE=>Rg hh st.1 st.2 (by simp) hE
end
structure Drawn(P:Program)(w:World)(A:Around)(k:SK)(it:Addr)(i:Nat)(vs:List V)(h:Heap)(fp:List Addr)(Pd:Nat→Value→Prop)(S:Nat→Heap→Prop):Prop where
 D:Draws P w A it fp vs.length Pd S
 st:S i h
 val:∀j v,Pd j v→∃x,vs[j]?=some x∧RelV x v
 pos:∀j h,S j h→k.pos it j h
 fp:∀b∈fp,b=it∨k.val=.ref b
theorem drawn{X:Cx}{pins:List (Addr×Obj)}{σ:L2.St}{H:Hp}{s:Shared}{A:Around}(hh:A.handled=none)(I:Inv X pins σ H s){k:SK}{it:Addr}{i:Nat}{vs:List V}(sat:k.Sat H vs)(hit:H it=none)(p:k.pos it i s.heap):
  ∃fp Pd S,Drawn X.prog X.w A k it i vs s.heap fp Pd S:=by
 cases k with
 |lst a=>
  have sat:H a=some (.lst vs):=sat
  obtain ⟨its,r,pl,_⟩:=I.list (SqL.of sat)
  refine ⟨[it,a],fun j v=>its.toArray[j]?=some v,fun j h=>h.IsListIter it a j∧h.IsList a its.toArray,?_,⟨p,pl.isList⟩,?_,fun j h st=>st.1,?_⟩
  ·have D:=Draws.list (prog:=X.prog) (w:=X.w) hh it a (aU sat hit) its.toArray
   rw[List.size_toArray,←r.length]at D
   exact D
  ·intro j v e
   have e:its.toArray[j]?=some v:=e
   have hj:j < vs.length:=by
    rw[r.length]
    have:=(Array.getElem?_eq_some_iff.mp e).1
    simpa using this
   obtain ⟨u,e2,r2⟩:=r.get (show vs[j]?=some vs[j] by simp[hj])
   refine ⟨vs[j],by simp[hj],?_⟩
   have:its[j]?=some v:=by simpa using e
   rw[this]at e2;cases e2
   exact r2
  ·intro b hb
   have hb:b=it∨b=a:=by simpa using hb
   rcases hb with e |e
   ·exact .inl e
   ·exact .inr (by rw[e];rfl)
 |tup a=>
  have sat:H a=some (.tup vs):=sat
  obtain ⟨its,r,pl,_⟩:=I.tuple (SqT.of sat)
  refine ⟨[it,a],fun j v=>its.toArray[j]?=some v,fun j h=>h.IsTupleIter it a j∧h.IsTuple a its.toArray,?_,⟨p,pl⟩,?_,fun j h st=>st.1,?_⟩
  ·have D:=Rh (prog:=X.prog) (w:=X.w) hh it a (aU sat hit) its.toArray
   rw[List.size_toArray,←r.length]at D
   exact D
  ·intro j v e
   have e:its.toArray[j]?=some v:=e
   have hj:j < vs.length:=by
    rw[r.length]
    have:=(Array.getElem?_eq_some_iff.mp e).1
    simpa using this
   obtain ⟨u,e2,r2⟩:=r.get (show vs[j]?=some vs[j] by simp[hj])
   refine ⟨vs[j],by simp[hj],?_⟩
   have:its[j]?=some v:=by simpa using e
   rw[this]at e2;cases e2
   exact r2
  ·intro b hb
   have hb:b=it∨b=a:=by simpa using hb
   rcases hb with e |e
   ·exact .inl e
   ·exact .inr (by rw[e];rfl)
 |str x t=>
  have sat:vs=x.cps.toList.map fun c=>V.str ⟨#[c]⟩:=sat
  refine ⟨[it],fun i v=>∃c u,x.cps[i]?=some c∧v=.str ⟨#[c]⟩ u,fun i h=>h.IsStrIter it (strIterType x) x t i,?_,p,?_,fun j h st=>st,?_⟩
  ·have D:=Og (prog:=X.prog) (w:=X.w) hh it x t
   have e:x.cps.size=vs.length:=by rw[sat,List.length_map,Array.length_toList]
   rw[e]at D
   exact D
  ·rintro j v ⟨c,u,e1,e2⟩
   refine ⟨V.str ⟨#[c]⟩,?_,u,e2⟩
   rw[sat,List.getElem?_map,Array.getElem?_toList,e1];rfl
  ·intro b hb
   exact .inl (by simpa using hb)
def Jk(k:SK):It:=⟨fun i H=>∃vs,k.Sat H vs∧i < vs.length,fun i H x H'=>H'=H∧∀vs,k.Sat H vs→vs[i]?=some x,fun i H=>∃vs,k.Sat H vs∧vs.length=i⟩
def Je(k:SK):It:=⟨fun i H=>∃vs,k.Sat H vs∧i < vs.length,fun i H x H'=>∃T y,H T=none∧x=.ref T∧H'=upd H T (.tup [.int i,y])∧∀vs,k.Sat H vs→vs[i]?=some y,fun i H=>∃vs,k.Sat H vs∧vs.length=i⟩
theorem rK{H:Hp}{k:SK}{vs ws:List V}(h:k.Sat H vs)(h':k.Sat H ws):vs=ws:=by
 cases k with
 |lst a=>have e:=(show H a=some _ from h).symm.trans h';cases e;rfl
 |tup a=>have e:=(show H a=some _ from h).symm.trans h';cases e;rfl
 |str x t=>exact (show vs=_ from h).trans (show ws=_ from h').symm
theorem Ri{P:Program}{w:World}{K:PySem.W.Frag}{elts:List Expr}{x1:Nat}{pos:Pos}(k:SK)(e it:Addr)(hne:e≠it):
  Turn P w K (.Tuple elts x1 pos) (Je k) [e,it] e (fun i h=>(∃old,IsEnum h e it i old)∧k.pos it i h) where
 mem:=by simp
 obj:=fun i h st b hb=>by
  obtain ⟨⟨old,he⟩,o,ho,c,d⟩:=st
  have hb:b=e∨b=it:=by simpa using hb
  rcases hb with rfl |rfl
  ·exact ⟨_,he,fun v z=>by have z':Data.fields _=Data.cell v:=z;cases z'⟩
  ·exact ⟨o,ho,fun v z=>by rw[d]at z;cases z⟩
 keep:=fun i h h' st kk=>⟨let ⟨old,he⟩:=st.1;⟨old,kk e (by simp) _ he⟩,st.2.keep fun o ho=>kk it (by simp) o ho⟩
 item:=by
  intro X hP hw hK hc i pins s σ H E I hf st hg
  subst hP hw hK
  obtain ⟨vs,sat,hi⟩:=hg
  obtain ⟨⟨old,he⟩,hit⟩:=st
  have hfe:=hf e (by simp)
  have hfi:=hf it (by simp)
  obtain ⟨fp,Pd,S,Dr⟩:=drawn (A:=X.A.in1) (I.ok.hd hc) I sat hfi.1 hit
  have helt:e < s.heap.objs.size:=Heap.lt_size he
  have hef:e∉fp:=fun hb=>by
   rcases Dr.fp e hb with z |z
   ·exact hne z
   ·have:=sat.no hfe.1
    cases k with
    |lst a=>cases z;exact this rfl
    |tup a=>cases z;exact this rfl
    |str _ _=>cases z
  refine wpAny_pyNext_enum_itemD Dr.D he Dr.st hi hne hef fun u h1 tk hu heo hit1 ht1 hz1 hk1=>?_
  obtain ⟨x,hx,ru⟩:=Dr.val _ _ hu
  refine ⟨_,rfl,?_⟩
  refine wpAny_letOwnedTupleGo_enum heo fun h2 he2 hs2=>?_
  have hs2':Heap.SameBut e h1 h2:=hs2
  have hn:H s.heap.objs.size=none:=I.hok.fresh (Nat.le_refl _)
  have k2:∀b o,b∉[e,it]→s.heap.get? b=some o→h2.get? b=some o:=fun b o hb q=>by
   have hb':b≠e∧b≠it:=by simpa using hb
   exact hs2'.extBut b o hb'.1 (hk1 b o hb'.1 hb'.2 q)
  have I2:Inv X pins σ H { s with heap:=h2,toks:=tk+1 }:=I.turnedL hf k2
  have ht2:h2.get? s.heap.objs.size=some { cls:=.type "tuple",data:=.seq #[.int i tk,u] }:=hs2'.extBut _ _ (Nat.ne_of_gt helt) ht1
  have ob:ObjOk X.prog X.w (upd H s.heap.objs.size (.tup [.int i,x])) h2 s.heap.objs.size (.tup [.int i,x]):=
   ⟨by rw[sizeLine_eq];simp,[.int i tk,u],.cons ⟨_,rfl⟩ (.cons ru .nil),⟨_,ht2,rfl,_,rfl⟩⟩
  have I3:=I2.track (I.fpOk (Nat.le_refl _) hn) ob
  have nee:s.heap.objs.size≠e:=Nat.ne_of_gt helt
  have nei:s.heap.objs.size≠it:=by
   obtain ⟨o,ho,_⟩:=hit
   exact Nat.ne_of_gt (Heap.lt_size ho)
  refine ⟨.ref s.heap.objs.size,_,I3,rfl,⟨s.heap.objs.size,x,hn,rfl,rfl,fun ys hy=>by rw[rK hy sat];exact hx⟩,⟨⟨u,?_⟩,?_⟩,fun b hb=>?_⟩
  ·show IsEnum h2 e it (((i+1:Nat)):Int) u
   rw[show (((i+1:Nat):Int))=(i:Int)+1 by omega]
   exact he2
  ·exact (Dr.pos _ _ hit1).keep fun o ho=>hs2'.extBut _ _ (Ne.symm hne) ho
  ·have hb':b=e∨b=it:=by simpa using hb
   rw[aC (by rcases hb' with rfl |rfl;exact Ne.symm nee;exact Ne.symm nei)]
   exact (hf b hb).1
 done:=by
  intro X hP hw hK hc i pins s σ H E I hf st hg
  subst hP hw hK
  obtain ⟨vs,sat,hi⟩:=hg
  subst hi
  obtain ⟨⟨old,he⟩,hit⟩:=st
  have hfi:=hf it (by simp)
  obtain ⟨fp,Pd,S,Dr⟩:=drawn (A:=X.A.in1) (I.ok.hd hc) I sat hfi.1 hit
  refine wpAny_pyNext_enum_endD Dr.D he Dr.st fun h' eb=>⟨rfl,I.turnedL (t':=s.toks) hf fun b o hb q=>?_⟩
  have hb':b≠e∧b≠it:=by simpa using hb
  exact eb b o hb'.2 q
 self:=fun A i s Q E st h=>by
  obtain ⟨⟨old,he⟩,_⟩:=st
  exact wpAny_pyIter_enum he h
theorem Rj{P:Program}{w:World}{K:PySem.W.Frag}{tg:Expr}(k:SK)(it:Addr):Turn P w K tg (Jk k) [it] it (fun i h=>k.pos it i h) where
 mem:=by simp
 obj:=fun i h st b hb=>by
  have e:b=it:=by simpa using hb
  subst e
  obtain ⟨o,e,c,d⟩:=st
  exact ⟨o,e,fun v z=>by rw[d]at z;cases z⟩
 keep:=fun i h h' st kk=>st.keep fun o e=>kk it (by simp) o e
 item:=by
  intro X hP hw hK hc i pins s σ H E I hf st hg
  obtain ⟨vs,sat,hi⟩:=hg
  have hfi:=hf it (by simp)
  cases k with
  |lst a=>
   have sat':H a=some (.lst vs):=sat
   refine wpAny_mono ((uR (tg:=tg) a it).item X hP hw hK hc i pins s σ H E I hf st ⟨vs,vs[i],SqL.of sat',by simp[hi]⟩) ?_ (fun _ _ e=>e)
   rintro r s1 ⟨u,hr,h1⟩
   refine ⟨u,hr,wpAny_mono h1 ?_ (fun _ _ e=>e)⟩
   rintro _ s2 ⟨x,H',I',rx,⟨e1,e2⟩,st',fr⟩
   exact ⟨x,H',I',rx,⟨e1,fun ws hw'=>e2 ws (SqL.of (show H a=some (.lst ws) from hw'))⟩,st',fr⟩
  |tup a=>
   have sat':H a=some (.tup vs):=sat
   refine wpAny_mono ((uT (tg:=tg) a it).item X hP hw hK hc i pins s σ H E I hf st ⟨vs,vs[i],SqT.of sat',by simp[hi]⟩) ?_ (fun _ _ e=>e)
   rintro r s1 ⟨u,hr,h1⟩
   refine ⟨u,hr,wpAny_mono h1 ?_ (fun _ _ e=>e)⟩
   rintro _ s2 ⟨x,H',I',rx,⟨e1,e2⟩,st',fr⟩
   exact ⟨x,H',I',rx,⟨e1,fun ws hw'=>e2 ws (SqT.of (show H a=some (.tup ws) from hw'))⟩,st',fr⟩
  |str y t=>
   have sat':vs=y.cps.toList.map fun c=>V.str ⟨#[c]⟩:=sat
   have hlen:vs.length=y.cps.size:=by rw[sat',List.length_map,Array.length_toList]
   refine wpAny_mono ((qd (tg:=tg) it y t).item X hP hw hK hc i pins s σ H E I hf st (show i < y.cps.size by omega)) ?_ (fun _ _ e=>e)
   rintro r s1 ⟨u,hr,h1⟩
   refine ⟨u,hr,wpAny_mono h1 ?_ (fun _ _ e=>e)⟩
   rintro _ s2 ⟨x,H',I',rx,⟨e1,c,e2,e3⟩,st',fr⟩
   refine ⟨x,H',I',rx,⟨e1,fun ws hw'=>?_⟩,st',fr⟩
   have hw':ws=y.cps.toList.map fun c=>V.str ⟨#[c]⟩:=hw'
   rw[hw',e3,List.getElem?_map,Array.getElem?_toList,e2];rfl
 done:=by
  intro X hP hw hK hc i pins s σ H E I hf st hg
  obtain ⟨vs,sat,hi⟩:=hg
  cases k with
  |lst a=>exact (uR (tg:=tg) a it).done X hP hw hK hc i pins s σ H E I hf st ⟨vs,SqL.of (show H a=some (.lst vs) from sat),by omega⟩
  |tup a=>exact (uT (tg:=tg) a it).done X hP hw hK hc i pins s σ H E I hf st ⟨vs,SqT.of (show H a=some (.tup vs) from sat),by omega⟩
  |str y t=>
   have sat':vs=y.cps.toList.map fun c=>V.str ⟨#[c]⟩:=sat
   have hlen:vs.length=y.cps.size:=by rw[sat',List.length_map,Array.length_toList]
   exact (qd (tg:=tg) it y t).done X hP hw hK hc i pins s σ H E I hf st (show i=y.cps.size by omega)
 self:=fun A i s Q E st h=>by
  cases k with
  |lst a=>exact wpAny_pyIter_listiter st h
  |tup a=>exact wpAny_pyIter_tupleiter st h
  |str y t=>exact (qd (K:=K) (tg:=tg) it y t).self A i s Q E st h
end RF
namespace RF
open PySem PySem.Spec PyProof.Rows L2
open Builtin Builtin.Str
section
variable {prog:Program} {w:World} {A:Around} {E:Value→Shared→Prop} {s:Shared}
theorem Rk{z TI TO i1 i2:Addr}{k n1 n2:Nat}{fp1 fp2:List Addr}{P1 P2:Nat→Value→Prop}{S1 S2:Nat→Heap→Prop}{a b:Value}{Q:Value→Shared→Prop}(D:ZApart z TI TO i1 i2)
  (D1:Draws prog w A i1 fp1 n1 P1 S1) (D2:Draws prog w A i2 fp2 n2 P2 S2) (f1:∀c∈fp1,c≠z∧c≠TO∧c≠i2) (f2:∀c∈fp2,c≠z∧c≠TO∧c≠i1)
  (hz:IsZip s.heap z TI TO .none) (hTI:IsPair s.heap TI (.ref i1) (.ref i2)) (hTO:IsPair s.heap TO a b)
  (h1:S1 k s.heap) (h2:S2 k s.heap) (hx:k < n1) (hy:k < n2)
  (hQ:∀h' tk c d,P1 k c→P2 k d→IsZip h' z TI TO (rawInt s.heap.objs.size)→IsPair h' TO c d→S1 (k+1) h'→S2 (k+1) h'→
   IsPair h' s.heap.objs.size c d→h'.objs.size=s.heap.objs.size+1→
   (∀c o,c≠z→c≠TO→c≠i1→c≠i2→s.heap.get? c=some o→h'.get? c=some o)→Q (.ref s.heap.objs.size) { s with heap:=h',toks:=tk }):
  wpAny (model prog w) A (Builtin.«zip.__next__» ⟨[.ref z],[]⟩) (fun fin s'=>∃v,fin=.done (.ret v)∧Q v s') E s:=by
 have e1:∀{h h':Heap}{c:Addr}{j:Nat},S1 j h→Heap.ExtBut c h h'→(∀b∈fp1,b≠c)→S1 j h':=fun q e n=>D1.frame _ _ _ q fun b hb o y=>e b o (n b hb) y
 have e2:∀{h h':Heap}{c:Addr}{j:Nat},S2 j h→Heap.ExtBut c h h'→(∀b∈fp2,b≠c)→S2 j h':=fun q e n=>D2.frame _ _ _ q fun b hb o y=>e b o (n b hb) y
 have z1:∀b∈fp1,b≠z:=fun b hb=>(f1 b hb).1
 have t1:∀b∈fp1,b≠TO:=fun b hb=>(f1 b hb).2.1
 have j1:∀b∈fp1,b≠i2:=fun b hb=>(f1 b hb).2.2
 have z2:∀b∈fp2,b≠z:=fun b hb=>(f2 b hb).1
 have t2:∀b∈fp2,b≠TO:=fun b hb=>(f2 b hb).2.1
 have j2:∀b∈fp2,b≠i1:=fun b hb=>(f2 b hb).2.2
 show wpAny _ _ (field (.ref z) 2 >>= _) _ _ _
 refine wpAny_bind (wpAny_field hz rfl (x:=.bool false) rfl ?_)
 show wpAny _ _ (field (.ref z) 3 >>= _) _ _ _
 refine wpAny_bind (wpAny_field hz rfl (x:=.ref TI) rfl ?_)
 refine wpAny_bind (wpAny_seqItems hTI rfl ?_)
 show wpAny _ _ (Builtin.SmallTypes.ownedTupleIsFree (.ref z) >>= _) _ _ _
 refine wpAny_bind ?_
 unfold Builtin.SmallTypes.ownedTupleIsFree
 refine wpAny_bind (wpAny_field hz rfl (x:=.none) rfl (wpAny_pure ?_))
 simp only[if_true]
 refine wpAny_bind (wpAny_rule ?_)
 refine wpAny_bind (wpAny_field hz rfl (x:=.ref TO) rfl ?_)
 refine wpAny_bind (wpAny_setField_rec hz (by simp) fun h₁ hz₁ hs₁=>?_)
 replace hz₁:IsZip h₁ z TI TO .ellipsis:=hz₁
 replace hs₁:Heap.SameBut z s.heap h₁:=hs₁
 refine wpAny_bind ?_
 simp only[List.zipIdx_cons,List.zipIdx_nil,List.forIn_cons,List.forIn_nil]
 refine wpAny_bind (wpAny_bind (wpAny_onRaise ?_))
 show wpAny _ _ (Builtin.SmallTypes.nextOf (.ref i1) >>= _) _ _ _
 refine wpAny_bind (D1.item k _ _ _ hx (e1 h1 hs₁.extBut z1) fun c h₂ tk₂ hc h1₂ hs₂=>wpAny_pure ?_)
 replace hs₂:Heap.SameBut i1 h₁ h₂:=hs₂
 have hTO₂:IsPair h₂ TO a b:=hs₂.extBut _ _ D.TOi1 (hs₁.extBut _ _ D.TOz hTO)
 refine wpAny_bind (wpAny_seqItems hTO₂ rfl ?_)
 refine wpAny_bind (wpAny_updateSeq_pair hTO₂ fun h₃ hTO₃ hs₃=>?_)
 replace hTO₃:IsPair h₃ TO c b:=hTO₃
 replace hs₃:Heap.SameBut TO h₂ h₃:=hs₃
 refine wpAny_bind (wpAny_letGo (wpAny_pure ?_))
 refine wpAny_bind (wpAny_bind (wpAny_onRaise ?_))
 show wpAny _ _ (Builtin.SmallTypes.nextOf (.ref i2) >>= _) _ _ _
 refine wpAny_bind (D2.item k _ _ _ hy (e2 (e2 (e2 h2 hs₁.extBut z2) hs₂.extBut j2) hs₃.extBut t2) fun d h₄ tk₄ hd h2₄ hs₄=>wpAny_pure ?_)
 replace hs₄:Heap.SameBut i2 h₃ h₄:=hs₄
 have hTO₄:IsPair h₄ TO c b:=hs₄.extBut _ _ D.TOi2 hTO₃
 refine wpAny_bind (wpAny_seqItems hTO₄ rfl ?_)
 refine wpAny_bind (wpAny_updateSeq_pair hTO₄ fun h₅ hTO₅ hs₅=>?_)
 replace hTO₅:IsPair h₅ TO c d:=hTO₅
 replace hs₅:Heap.SameBut TO h₄ h₅:=hs₅
 refine wpAny_bind (wpAny_letGo (wpAny_pure (wpAny_pure ?_)))
 refine wpAny_bind (wpAny_seqItems hTO₅ rfl ?_)
 refine wpAny_bind (wpAny_newTuple ?_)
 have hsz:h₅.objs.size=s.heap.objs.size:=by rw[hs₅.1,hs₄.1,hs₃.1,hs₂.1,hs₁.1]
 have hz₅:IsZip h₅ z TI TO .ellipsis:=hs₅.extBut _ _ D.TOz.symm (hs₄.extBut _ _ D.i2z.symm (hs₃.extBut _ _ D.TOz.symm (hs₂.extBut _ _ D.i1z.symm hz₁)))
 have hk₅:∀c o,c≠z→c≠TO→c≠i1→c≠i2→s.heap.get? c=some o→h₅.get? c=some o:=fun c o c1 c2 c3 c4 e=>
  hs₅.extBut _ _ c2 (hs₄.extBut _ _ c4 (hs₃.extBut _ _ c2 (hs₂.extBut _ _ c3 (hs₁.extBut _ _ c1 e))))
 have h1₅:S1 (k+1) h₅:=e1 (e1 (e1 h1₂ hs₃.extBut t1) hs₄.extBut j1) hs₅.extBut t1
 have h2₅:S2 (k+1) h₅:=e2 h2₄ hs₅.extBut t2
 have hzlt:z < h₅.objs.size:=Heap.lt_size hz₅
 show wpAny _ _ (Builtin.SmallTypes.ownedTupleHandOut (.ref z) (.ref h₅.objs.size) >>= _) _ _ _
 refine wpAny_bind ?_
 unfold Builtin.SmallTypes.ownedTupleHandOut
 have hz₆:IsZip (h₅.push { cls:=.type "tuple",data:=.seq #[c,d] }) z TI TO .ellipsis:=Heap.get?_push_of_some _ hz₅
 refine wpAny_bind (wpAny_setField_rec hz₆ (by simp) fun h₇ hz₇ hs₇=>?_)
 replace hz₇:IsZip h₇ z TI TO (rawInt h₅.objs.size):=hz₇
 refine wpAny_setField_rec hz₇ (by simp) fun h₈ hz₈ hs₈=>?_
 replace hz₈:IsZip h₈ z TI TO (rawInt h₅.objs.size):=hz₈
 have up:∀c o,c≠z→h₅.get? c=some o→h₈.get? c=some o:=fun c o c1 e=>hs₈.extBut _ _ c1 (hs₇.extBut _ _ c1 (Heap.get?_push_of_some _ e))
 have hT₈:IsPair h₈ h₅.objs.size c d:=hs₈.extBut _ _ (Nat.ne_of_gt hzlt) (hs₇.extBut _ _ (Nat.ne_of_gt hzlt) (Heap.get?_push_size _ rfl))
 have hz8:h₈.objs.size=h₅.objs.size+1:=by rw[hs₈.1,hs₇.1,Heap.size_push]
 rw[hsz]at hz₈ hT₈ hz8
 refine wpAny_pure ⟨_,rfl,?_⟩
 show Q (.ref h₅.objs.size) _
 rw[hsz]
 exact hQ h₈ tk₄ c d hc hd hz₈ (up _ _ D.TOz hTO₅) (D1.frame _ _ _ h1₅ fun b hb o y=>up b o (z1 b hb) y) (D2.frame _ _ _ h2₅ fun b hb o y=>up b o (z2 b hb) y) hT₈ hz8 fun c o c1 c2 c3 c4 e=>up c o c1 (hk₅ c o c1 c2 c3 c4 e)
theorem Rm{z TI TO i1 i2:Addr}{n1:Nat}{fp1:List Addr}{P1:Nat→Value→Prop}{S1:Nat→Heap→Prop}{a b:Value}{Q:Fin→Shared→Prop}(D:ZApart z TI TO i1 i2)
  (D1:Draws prog w A i1 fp1 n1 P1 S1) (f1:∀c∈fp1,c≠z)
  (hz:IsZip s.heap z TI TO .none) (hTI:IsPair s.heap TI (.ref i1) (.ref i2)) (hTO:IsPair s.heap TO a b) (h1:S1 n1 s.heap)
  (hE:∀h' e,(∀c o,c≠z→c≠TO→c≠i1→c≠i2→s.heap.get? c=some o→h'.get? c=some o)→(∃o,h'.get? e=some o∧o.cls=.type "StopIteration")→E (.ref e) { s with heap:=h' }):
  wpAny (model prog w) A (Builtin.«zip.__next__» ⟨[.ref z],[]⟩) Q E s:=by
 show wpAny _ _ (field (.ref z) 2 >>= _) _ _ _
 refine wpAny_bind (wpAny_field hz rfl (x:=.bool false) rfl ?_)
 show wpAny _ _ (field (.ref z) 3 >>= _) _ _ _
 refine wpAny_bind (wpAny_field hz rfl (x:=.ref TI) rfl ?_)
 refine wpAny_bind (wpAny_seqItems hTI rfl ?_)
 show wpAny _ _ (Builtin.SmallTypes.ownedTupleIsFree (.ref z) >>= _) _ _ _
 refine wpAny_bind ?_
 unfold Builtin.SmallTypes.ownedTupleIsFree
 refine wpAny_bind (wpAny_field hz rfl (x:=.none) rfl (wpAny_pure ?_))
 simp only[if_true]
 refine wpAny_bind (wpAny_rule ?_)
 refine wpAny_bind (wpAny_field hz rfl (x:=.ref TO) rfl ?_)
 refine wpAny_bind (wpAny_setField_rec hz (by simp) fun h₁ hz₁ hs₁=>?_)
 replace hz₁:IsZip h₁ z TI TO .ellipsis:=hz₁
 replace hs₁:Heap.SameBut z s.heap h₁:=hs₁
 refine wpAny_bind ?_
 simp only[List.zipIdx_cons,List.zipIdx_nil,List.forIn_cons,List.forIn_nil]
 refine wpAny_bind (wpAny_bind (wpAny_onRaise ?_))
 show wpAny _ _ (Builtin.SmallTypes.nextOf (.ref i1) >>= _) _ _ _
 refine wpAny_bind (D1.done _ _ _ (D1.frame _ _ _ h1 fun b hb o y=>hs₁.extBut b o (f1 b hb) y) fun h₂ e hs₂ he=>?_)
 obtain ⟨oe,hoe,hce⟩:=he
 have hz₂:IsZip h₂ z TI TO .ellipsis:=hs₂ _ _ D.i1z.symm hz₁
 have hez:e≠z:=fun x=>by subst x;rw[hz₂]at hoe;cases hoe;simp at hce
 refine wpAny_setField_rec hz₂ (by simp) fun h₃ _ hs₃=>hE h₃ e (fun c o c1 _ c3 _ x=>hs₃.extBut _ _ c1 (hs₂ _ _ c3 (hs₁.extBut _ _ c1 x))) ⟨oe,hs₃.extBut _ _ hez hoe,hce⟩
theorem Rn{z TI TO i1 i2:Addr}{k n1 n2:Nat}{fp1 fp2:List Addr}{P1 P2:Nat→Value→Prop}{S1 S2:Nat→Heap→Prop}{a b:Value}{Q:Fin→Shared→Prop}(D:ZApart z TI TO i1 i2)
  (D1:Draws prog w A i1 fp1 n1 P1 S1) (D2:Draws prog w A i2 fp2 n2 P2 S2) (f1:∀c∈fp1,c≠z∧c≠TO∧c≠i2) (f2:∀c∈fp2,c≠z∧c≠TO∧c≠i1)
  (hz:IsZip s.heap z TI TO .none) (hTI:IsPair s.heap TI (.ref i1) (.ref i2)) (hTO:IsPair s.heap TO a b) (h1:S1 k s.heap) (h2:S2 k s.heap) (hx:k < n1) (hy:k=n2)
  (hE:∀h' tk e,(∀c o,c≠z→c≠TO→c≠i1→c≠i2→s.heap.get? c=some o→h'.get? c=some o)→(∃o,h'.get? e=some o∧o.cls=.type "StopIteration")→E (.ref e) { s with heap:=h',toks:=tk }):
  wpAny (model prog w) A (Builtin.«zip.__next__» ⟨[.ref z],[]⟩) Q E s:=by
 have e1:∀{h h':Heap}{c:Addr}{j:Nat},S1 j h→Heap.ExtBut c h h'→(∀b∈fp1,b≠c)→S1 j h':=fun q e n=>D1.frame _ _ _ q fun b hb o y=>e b o (n b hb) y
 have e2:∀{h h':Heap}{c:Addr}{j:Nat},S2 j h→Heap.ExtBut c h h'→(∀b∈fp2,b≠c)→S2 j h':=fun q e n=>D2.frame _ _ _ q fun b hb o y=>e b o (n b hb) y
 have z1:∀b∈fp1,b≠z:=fun b hb=>(f1 b hb).1
 have z2:∀b∈fp2,b≠z:=fun b hb=>(f2 b hb).1
 have t2:∀b∈fp2,b≠TO:=fun b hb=>(f2 b hb).2.1
 have j2:∀b∈fp2,b≠i1:=fun b hb=>(f2 b hb).2.2
 show wpAny _ _ (field (.ref z) 2 >>= _) _ _ _
 refine wpAny_bind (wpAny_field hz rfl (x:=.bool false) rfl ?_)
 show wpAny _ _ (field (.ref z) 3 >>= _) _ _ _
 refine wpAny_bind (wpAny_field hz rfl (x:=.ref TI) rfl ?_)
 refine wpAny_bind (wpAny_seqItems hTI rfl ?_)
 show wpAny _ _ (Builtin.SmallTypes.ownedTupleIsFree (.ref z) >>= _) _ _ _
 refine wpAny_bind ?_
 unfold Builtin.SmallTypes.ownedTupleIsFree
 refine wpAny_bind (wpAny_field hz rfl (x:=.none) rfl (wpAny_pure ?_))
 simp only[if_true]
 refine wpAny_bind (wpAny_rule ?_)
 refine wpAny_bind (wpAny_field hz rfl (x:=.ref TO) rfl ?_)
 refine wpAny_bind (wpAny_setField_rec hz (by simp) fun h₁ hz₁ hs₁=>?_)
 replace hz₁:IsZip h₁ z TI TO .ellipsis:=hz₁
 replace hs₁:Heap.SameBut z s.heap h₁:=hs₁
 refine wpAny_bind ?_
 simp only[List.zipIdx_cons,List.zipIdx_nil,List.forIn_cons,List.forIn_nil]
 refine wpAny_bind (wpAny_bind (wpAny_onRaise ?_))
 show wpAny _ _ (Builtin.SmallTypes.nextOf (.ref i1) >>= _) _ _ _
 refine wpAny_bind (D1.item k _ _ _ hx (e1 h1 hs₁.extBut z1) fun c h₂ tk₂ hc h1₂ hs₂=>wpAny_pure ?_)
 replace hs₂:Heap.SameBut i1 h₁ h₂:=hs₂
 have hTO₂:IsPair h₂ TO a b:=hs₂.extBut _ _ D.TOi1 (hs₁.extBut _ _ D.TOz hTO)
 refine wpAny_bind (wpAny_seqItems hTO₂ rfl ?_)
 refine wpAny_bind (wpAny_updateSeq_pair hTO₂ fun h₃ hTO₃ hs₃=>?_)
 replace hs₃:Heap.SameBut TO h₂ h₃:=hs₃
 refine wpAny_bind (wpAny_letGo (wpAny_pure ?_))
 refine wpAny_bind (wpAny_bind (wpAny_onRaise ?_))
 show wpAny _ _ (Builtin.SmallTypes.nextOf (.ref i2) >>= _) _ _ _
 subst hy
 refine wpAny_bind (D2.done _ _ _ (e2 (e2 (e2 h2 hs₁.extBut z2) hs₂.extBut j2) hs₃.extBut t2) fun h₄ e hs₄ he=>?_)
 obtain ⟨oe,hoe,hce⟩:=he
 have hz₄:IsZip h₄ z TI TO .ellipsis:=hs₄ _ _ D.i2z.symm (hs₃.extBut _ _ D.TOz.symm (hs₂.extBut _ _ D.i1z.symm hz₁))
 have hez:e≠z:=fun x=>by subst x;rw[hz₄]at hoe;cases hoe;simp at hce
 refine wpAny_setField_rec hz₄ (by simp) fun h₅ _ hs₅=>hE h₅ tk₂ e (fun c o c1 c2 c3 c4 x=>hs₅.extBut _ _ c1 (hs₄ _ _ c4 (hs₃.extBut _ _ c2 (hs₂.extBut _ _ c3 (hs₁.extBut _ _ c1 x))))) ⟨oe,hs₅.extBut _ _ hez hoe,hce⟩
end
def Jz(k l:SK):It:=⟨fun i H=>∃vs ws,k.Sat H vs∧l.Sat H ws∧i < vs.length∧i < ws.length,
 fun i H x H'=>∃T y z,H T=none∧x=.ref T∧H'=upd H T (.tup [y,z])∧(∀vs,k.Sat H vs→vs[i]?=some y)∧(∀ws,l.Sat H ws→ws[i]?=some z),
 fun i H=>∃vs ws,k.Sat H vs∧l.Sat H ws∧(vs.length=i∧i≤ws.length∨i < vs.length∧ws.length=i)⟩
theorem Ro{P:Program}{w:World}{K:PySem.W.Frag}{elts:List Expr}{x1:Nat}{pos:Pos}(k l:SK)(z TI TO i1 i2:Addr)(D:ZApart z TI TO i1 i2):
  Turn P w K (.Tuple elts x1 pos) (Jz k l) [z,TI,TO,i1,i2] z
   (fun i h=>IsZip h z TI TO .none∧IsPair h TI (.ref i1) (.ref i2)∧(∃a b,IsPair h TO a b)∧k.pos i1 i h∧l.pos i2 i h) where
 mem:=by simp
 obj:=fun i h st b hb=>by
  obtain ⟨hz,hTI,⟨a,c,hTO⟩,⟨o1,e1,_,d1⟩,⟨o2,e2,_,d2⟩⟩:=st
  have hb':b=z∨b=TI∨b=TO∨b=i1∨b=i2:=by simpa using hb
  rcases hb' with rfl |rfl |rfl |rfl |rfl
  ·exact ⟨_,hz,fun v q=>by have q':Data.fields _=Data.cell v:=q;cases q'⟩
  ·exact ⟨_,hTI,fun v q=>by have q':Data.seq _ _=Data.cell v:=q;cases q'⟩
  ·exact ⟨_,hTO,fun v q=>by have q':Data.seq _ _=Data.cell v:=q;cases q'⟩
  ·exact ⟨o1,e1,fun v q=>by rw[d1]at q;cases q⟩
  ·exact ⟨o2,e2,fun v q=>by rw[d2]at q;cases q⟩
 keep:=fun i h h' st kk=>by
  obtain ⟨hz,hTI,⟨a,c,hTO⟩,p1,p2⟩:=st
  exact ⟨kk z (by simp) _ hz,kk TI (by simp) _ hTI,⟨a,c,kk TO (by simp) _ hTO⟩,p1.keep fun o e=>kk i1 (by simp) o e,p2.keep fun o e=>kk i2 (by simp) o e⟩
 item:=by
  intro X hP hw hK hc i pins s σ H E I hf st hg
  subst hP hw hK
  obtain ⟨vs,ws,sat1,sat2,l1,l2⟩:=hg
  obtain ⟨hz,hTI,⟨a,b,hTO⟩,h1,h2⟩:=st
  have hT:s.TypeIs (.ref z) "zip":=⟨_,hz,rfl⟩
  have fz:=hf z (by simp)
  have fTO:=hf TO (by simp)
  have fi1:=hf i1 (by simp)
  have fi2:=hf i2 (by simp)
  obtain ⟨fp1,P1,S1,Dr1⟩:=drawn (A:=X.A.in1) (I.ok.hd hc) I sat1 fi1.1 h1
  obtain ⟨fp2,P2,S2,Dr2⟩:=drawn (A:=X.A.in1) (I.ok.hd hc) I sat2 fi2.1 h2
  have no1:∀e,H e=none→e≠i1→∀c∈fp1,c≠e:=fun e he hei c hc z=>by
   rcases Dr1.fp c hc with q |q
   ·exact hei (z.symm.trans q)
   ·have:=sat1.no he
    cases k with
    |lst a=>injection q with q;exact this (q.trans z)
    |tup a=>injection q with q;exact this (q.trans z)
    |str _ _=>cases q
  have no2:∀e,H e=none→e≠i2→∀c∈fp2,c≠e:=fun e he hei c hc z=>by
   rcases Dr2.fp c hc with q |q
   ·exact hei (z.symm.trans q)
   ·have:=sat2.no he
    cases l with
    |lst a=>injection q with q;exact this (q.trans z)
    |tup a=>injection q with q;exact this (q.trans z)
    |str _ _=>cases q
  have f1:∀c∈fp1,c≠z∧c≠TO∧c≠i2:=fun c hc=>⟨no1 z fz.1 D.i1z.symm c hc,no1 TO fTO.1 D.TOi1 c hc,no1 i2 fi2.1 D.i12.symm c hc⟩
  have f2:∀c∈fp2,c≠z∧c≠TO∧c≠i1:=fun c hc=>⟨no2 z fz.1 D.i2z.symm c hc,no2 TO fTO.1 D.TOi2 c hc,no2 i1 fi1.1 D.i12 c hc⟩
  have ltz:z < s.heap.objs.size:=Heap.lt_size hz
  have ltTI:TI < s.heap.objs.size:=Heap.lt_size hTI
  have ltTO:TO < s.heap.objs.size:=Heap.lt_size hTO
  have lti1:i1 < s.heap.objs.size:=by obtain ⟨_,e,_⟩:=h1;exact Heap.lt_size e
  have lti2:i2 < s.heap.objs.size:=by obtain ⟨_,e,_⟩:=h2;exact Heap.lt_size e
  unfold pyNext
  refine wpAny_bind (wpAny_attempt (wpAny_callSpecial?_slot (name:=Str.ofString "__next__") hT F.slot_zip_next
   (wpAny_call_entry F.slot_zip_next hT F.entry_zip_next (Rk D Dr1.D Dr2.D f1 f2 hz hTI hTO Dr1.st Dr2.st l1 l2 fun h' tk c d pc pd a1 a2 a3 a4 a5 a6 hk=>wpAny_pure ?_) (F.args_zip_next_1 _))))
  obtain ⟨y,hy,ry⟩:=Dr1.val _ _ pc
  obtain ⟨y',hy',ry'⟩:=Dr2.val _ _ pd
  refine ⟨_,rfl,?_⟩
  refine wpAny_letOwnedTupleGo_zip a1 fun h2' hz2 hs2=>?_
  have hs2':Heap.SameBut z h' h2':=hs2
  have hn:H s.heap.objs.size=none:=I.hok.fresh (Nat.le_refl _)
  have k2:∀b o,b∉[z,TI,TO,i1,i2]→s.heap.get? b=some o→h2'.get? b=some o:=fun b o hb q=>by
   have hb':b≠z∧b≠TI∧b≠TO∧b≠i1∧b≠i2:=by simpa using hb
   exact hs2'.extBut b o hb'.1 (hk b o hb'.1 hb'.2.2.1 hb'.2.2.2.1 hb'.2.2.2.2 q)
  have I2:Inv X pins σ H { s with heap:=h2',toks:=tk }:=I.turnedL hf k2
  have ht2:h2'.get? s.heap.objs.size=some { cls:=.type "tuple",data:=.seq #[c,d] }:=hs2'.extBut _ _ (Nat.ne_of_gt ltz) a5
  have ob:ObjOk X.prog X.w (upd H s.heap.objs.size (.tup [y,y'])) h2' s.heap.objs.size (.tup [y,y']):=
   ⟨by rw[sizeLine_eq];simp,[c,d],.cons ry (.cons ry' .nil),⟨_,ht2,rfl,_,rfl⟩⟩
  have I3:=I2.track (I.fpOk (Nat.le_refl _) hn) ob
  refine ⟨.ref s.heap.objs.size,_,I3,rfl,⟨s.heap.objs.size,y,y',hn,rfl,rfl,fun us hu=>by rw[rK hu sat1];exact hy,fun us hu=>by rw[rK hu sat2];exact hy'⟩,
   ⟨hz2,hs2'.extBut _ _ D.TIz (hk _ _ D.TIz D.TITO D.TIi1 D.TIi2 hTI),⟨_,_,hs2'.extBut _ _ D.TOz a2⟩,(Dr1.pos _ _ a3).keep fun o e=>hs2'.extBut _ _ D.i1z e,(Dr2.pos _ _ a4).keep fun o e=>hs2'.extBut _ _ D.i2z e⟩,fun b hb=>?_⟩
  have hb':b=z∨b=TI∨b=TO∨b=i1∨b=i2:=by simpa using hb
  rw[aC (by rcases hb' with rfl |rfl |rfl |rfl |rfl <;> exact Nat.ne_of_lt ‹_›)]
  exact (hf b hb).1
 done:=by
  intro X hP hw hK hc i pins s σ H E I hf st hg
  subst hP hw hK
  obtain ⟨vs,ws,sat1,sat2,hend⟩:=hg
  obtain ⟨hz,hTI,⟨a,b,hTO⟩,h1,h2⟩:=st
  have hT:s.TypeIs (.ref z) "zip":=⟨_,hz,rfl⟩
  have fz:=hf z (by simp)
  have fTO:=hf TO (by simp)
  have fi1:=hf i1 (by simp)
  have fi2:=hf i2 (by simp)
  obtain ⟨fp1,P1,S1,Dr1⟩:=drawn (A:=X.A.in1) (I.ok.hd hc) I sat1 fi1.1 h1
  obtain ⟨fp2,P2,S2,Dr2⟩:=drawn (A:=X.A.in1) (I.ok.hd hc) I sat2 fi2.1 h2
  have no1:∀e,H e=none→e≠i1→∀c∈fp1,c≠e:=fun e he hei c hc z=>by
   rcases Dr1.fp c hc with q |q
   ·exact hei (z.symm.trans q)
   ·have:=sat1.no he
    cases k with
    |lst a=>injection q with q;exact this (q.trans z)
    |tup a=>injection q with q;exact this (q.trans z)
    |str _ _=>cases q
  have no2:∀e,H e=none→e≠i2→∀c∈fp2,c≠e:=fun e he hei c hc z=>by
   rcases Dr2.fp c hc with q |q
   ·exact hei (z.symm.trans q)
   ·have:=sat2.no he
    cases l with
    |lst a=>injection q with q;exact this (q.trans z)
    |tup a=>injection q with q;exact this (q.trans z)
    |str _ _=>cases q
  have f1:∀c∈fp1,c≠z∧c≠TO∧c≠i2:=fun c hc=>⟨no1 z fz.1 D.i1z.symm c hc,no1 TO fTO.1 D.TOi1 c hc,no1 i2 fi2.1 D.i12.symm c hc⟩
  have f2:∀c∈fp2,c≠z∧c≠TO∧c≠i1:=fun c hc=>⟨no2 z fz.1 D.i2z.symm c hc,no2 TO fTO.1 D.TOi2 c hc,no2 i1 fi1.1 D.i12 c hc⟩
  have fin:∀(h':Heap)(tk:Nat)(e:Addr),(∀c o,c≠z→c≠TO→c≠i1→c≠i2→s.heap.get? c=some o→h'.get? c=some o)→Inv X pins σ H { s with heap:=h',toks:=tk }:=fun h' tk e hk=>I.turnedL (t':=tk) hf fun b o hb q=>by
   have hb':b≠z∧b≠TI∧b≠TO∧b≠i1∧b≠i2:=by simpa using hb
   exact hk b o hb'.1 hb'.2.2.1 hb'.2.2.2.1 hb'.2.2.2.2 q
  unfold pyNext
  refine wpAny_bind (wpAny_attempt (wpAny_callSpecial?_slot (name:=Str.ofString "__next__") hT F.slot_zip_next
   (wpAny_call_entry F.slot_zip_next hT F.entry_zip_next ?_ (F.args_zip_next_1 _))))
  rcases hend with ⟨e1,_⟩ |⟨e1,e2⟩
  ·subst e1
   refine Rm D Dr1.D (fun c hc=>(f1 c hc).1) hz hTI hTO Dr1.st fun h' e hk he=>?_
   obtain ⟨o,ho,hc'⟩:=he
   refine wpAny_bind (wpAny_isInstance (T:="StopIteration") (b:=true) ⟨o,ho,hc'⟩ isSubtype_stop ?_)
   exact wpAny_pure ⟨rfl,fin h' s.toks e hk⟩
  ·refine Rn D Dr1.D Dr2.D f1 f2 hz hTI hTO Dr1.st Dr2.st e1 e2.symm fun h' tk e hk he=>?_
   obtain ⟨o,ho,hc'⟩:=he
   refine wpAny_bind (wpAny_isInstance (T:="StopIteration") (b:=true) ⟨o,ho,hc'⟩ isSubtype_stop ?_)
   exact wpAny_pure ⟨rfl,fin h' tk e hk⟩
 self:=fun A i s Q E st h=>wpAny_pyIter_zip st.1 h
end RF
namespace RF
open PySem PySem.Spec PyProof.Rows L2
open Sem (wp)
open AutoSeq1 (wpAny_loadPart')
set_option maxRecDepth 100000
set_option maxHeartbeats 1000000 in
theorem Rp(l:Addr)(items:Array Value)(n:Nat)(dct:Option Addr)(sl:Array (Option Value)):
  Meets (Builtin.«enumerate.__new__» ⟨[.type "enumerate",.ref l],[]⟩) (fun _ R s=>s.heap.get? l=some { cls:=.type "tuple",dict:=dct,data:=.seq items n,slots:=sl }∧
   R (.ok (.ret (.ref (s.heap.push { cls:=.type "tuple_iterator",data:=.fields #[.ref l,.int 0 0] }).objs.size)))
    { s with heap:=(s.heap.push { cls:=.type "tuple_iterator",data:=.fields #[.ref l,.int 0 0] }).push { cls:=.type "enumerate",data:=.fields #[.none,.bool false,.ref s.heap.objs.size,rawInt 0,.none,.none] } }):=
 .of_wp fun prog w A R s h=>by
  obtain ⟨hp,g,d,tk,os⟩:=s;obtain ⟨hl,h⟩:=h
  have hsub:=sub_enumerate
  have hL:Heap.IsTuple (Shared.heap ⟨hp,g,d,tk,os⟩) l items:=⟨_,hl,rfl,n,rfl⟩
  wp_walk using wpAny_loadPart' hl
  refine wpAny_stack_any fun st=>wpAny_pure ?_
  split
  ·rename_i c _ _ _ _ _
   cases (c==Value.type "enumerate")
   ·wp_walk using wpAny_loadPart' hl,wpAny_pyIter_tuple hL
    exact ⟨_,rfl,h⟩
   ·wp_walk using wpAny_loadPart' hl,wpAny_pyIter_tuple hL
    exact ⟨_,rfl,h⟩
  ·wp_walk using wpAny_loadPart' hl,wpAny_pyIter_tuple hL
   exact ⟨_,rfl,h⟩
abbrev nT(h:Heap)(k:SK):Heap:=h.push k.obj
abbrev nU(h:Heap)(k l:SK):Heap:=(nT h k).push l.obj
abbrev nW (h:Heap) (k l:SK):Heap:=(nU h k l).push { cls:=.type "tuple",data:=.seq #[.ref h.objs.size,.ref (nT h k).objs.size] }
abbrev nY (h:Heap) (k l:SK):Heap:=(nW h k l).push { cls:=.type "tuple",data:=.seq #[.none,.none] }
abbrev fX (h:Heap) (k l:SK):Heap:=(nY h k l).push { cls:=.type "zip",data:=.fields #[.none,.bool false,.bool false,.ref (nU h k l).objs.size,.ref (nW h k l).objs.size] }
theorem Rq(k l:SK)(xs ys:Array Value):
  Meets (Builtin.«zip.__new__» ⟨[.type "zip",k.val,l.val],[]⟩) (fun _ R s=>k.On xs s.heap∧l.On ys s.heap∧R (.ok (.ret (.ref (nY s.heap k l).objs.size))) { s with heap:=fX s.heap k l }):=
 .of_wp fun prog w A R s h=>by
  obtain ⟨hp,g,d,tk,os⟩:=s
  obtain ⟨h1,h2,h⟩:=h
  have hsub:=sub_zip
  have h1':k.On xs (Shared.heap ⟨hp,g,d,tk,os⟩):=h1
  have h2':l.On ys (Shared.heap ⟨hp.push k.obj,g,d,tk,os⟩):=SK.On.keeps h2 fun b o _ e=>Heap.get?_push_of_some _ e
  wp_walk using SK.iter h1',SK.iter h2'
  exact ⟨_,rfl,h⟩
section
variable {prog:Program} {w:World} {A:Around} {E:Value→Shared→Prop} {s:Shared}
theorem Rt{k l:SK}{xs ys:Array Value}{Q:Value→Shared→Prop}(h1:k.On xs s.heap)(h2:l.On ys s.heap)
  (h:∀h',IsZip h' (s.heap.objs.size+4) (s.heap.objs.size+2) (s.heap.objs.size+3) .none→IsPair h' (s.heap.objs.size+2) (.ref s.heap.objs.size) (.ref (s.heap.objs.size+1))→
   IsPair h' (s.heap.objs.size+3) .none .none→k.pos s.heap.objs.size 0 h'→l.pos (s.heap.objs.size+1) 0 h'→h'.objs.size=s.heap.objs.size+5→
   (∀c o,s.heap.get? c=some o→h'.get? c=some o)→Q (.ref (s.heap.objs.size+4)) { s with heap:=h' }):
  wpAny (model prog w) A (call (.type "zip") [k.val,l.val]) Q E s:=by
 refine callType_new F.called_zip (by decide) (F.typeCall_zip_2 _ _) (F.newCall_zip_2 _ _) (fun obj=>F.args_object_init_3 obj _ _) F.entry_zip_new
  (Rq k l xs ys) ⟨h1,h2,?_⟩
 have z1:(nT s.heap k).objs.size=s.heap.objs.size+1:=Heap.size_push ..
 have z2:(nU s.heap k l).objs.size=s.heap.objs.size+2:=by rw[Heap.size_push,z1]
 have z3:(nW s.heap k l).objs.size=s.heap.objs.size+3:=by rw[Heap.size_push,z2]
 have z4:(nY s.heap k l).objs.size=s.heap.objs.size+4:=by rw[Heap.size_push,z3]
 have z5:(fX s.heap k l).objs.size=s.heap.objs.size+5:=by rw[Heap.size_push,z4]
 have g5:(fX s.heap k l).get? (nY s.heap k l).objs.size=some _:=Heap.get?_push_size _ rfl
 have g4:(fX s.heap k l).get? (nW s.heap k l).objs.size=some _:=Heap.get?_push_of_some _ (Heap.get?_push_size _ rfl)
 have g3:(fX s.heap k l).get? (nU s.heap k l).objs.size=some _:=Heap.get?_push_of_some _ (Heap.get?_push_of_some _ (Heap.get?_push_size _ rfl))
 have g2:(fX s.heap k l).get? (nT s.heap k).objs.size=some _:=Heap.get?_push_of_some _ (Heap.get?_push_of_some _ (Heap.get?_push_of_some _ (Heap.get?_push_size _ rfl)))
 have g1:(fX s.heap k l).get? s.heap.objs.size=some _:=Heap.get?_push_of_some _ (Heap.get?_push_of_some _ (Heap.get?_push_of_some _ (Heap.get?_push_of_some _ (Heap.get?_push_size _ rfl))))
 show _∧_
 rw[z2,z3,z4]at g5
 rw[z1,z2]at g3
 rw[z3]at g4
 rw[z1]at g2
 rw[z4]
 exact ⟨⟨_,g5,rfl⟩,h _ g5 g3 g4 ⟨_,g1,rfl,rfl⟩ ⟨_,g2,rfl,rfl⟩ z5 fun c o x=>
  Heap.get?_push_of_some _ (Heap.get?_push_of_some _ (Heap.get?_push_of_some _ (Heap.get?_push_of_some _ (Heap.get?_push_of_some _ x))))⟩
theorem Ru{l:Addr}{items:Array Value}{Q:Value→Shared→Prop}(hL:s.heap.IsTuple l items)
  (h:∀h',IsEnum h' (s.heap.objs.size+1) s.heap.objs.size 0 .none→h'.IsTupleIter s.heap.objs.size l 0→h'.objs.size=s.heap.objs.size+2→
   (∀b o,s.heap.get? b=some o→h'.get? b=some o)→Q (.ref (s.heap.objs.size+1)) { s with heap:=h' }):
  wpAny (model prog w) A (call (.type "enumerate") [.ref l]) Q E s:=by
 obtain ⟨⟨c,dct,dt,sl⟩,hl,hc,n,hd⟩:=hL
 replace hc:c=.type "tuple":=hc
 replace hd:dt=.seq items n:=hd
 subst hc hd
 refine callType_new F.called_enumerate (by decide) (F.typeCall_enumerate_1 _) (F.newCall_enumerate_1 _) (fun obj=>F.args_object_init_2 obj _) F.entry_enumerate_new
  (Rp l items n dct sl) ⟨hl,?_⟩
 have hz:(s.heap.push { cls:=.type "tuple_iterator",data:=.fields #[.ref l,.int 0 0] }).objs.size=s.heap.objs.size+1:=Heap.size_push ..
 show _∧_
 rw[hz]
 have he:IsEnum ((s.heap.push { cls:=.type "tuple_iterator",data:=.fields #[.ref l,.int 0 0] }).push
   { cls:=.type "enumerate",data:=.fields #[.none,.bool false,.ref s.heap.objs.size,rawInt 0,.none,.none] }) (s.heap.objs.size+1) s.heap.objs.size 0 .none:=by
  have:=Heap.get?_push_size (s.heap.push { cls:=.type "tuple_iterator",data:=.fields #[.ref l,.int 0 0] })
   (o:={ cls:=.type "enumerate",data:=.fields #[.none,.bool false,.ref s.heap.objs.size,rawInt 0,.none,.none] }) rfl
  rw[hz]at this;exact this
 refine ⟨⟨_,he,rfl⟩,h _ he ⟨_,Heap.get?_push_of_some _ (Heap.get?_push_size _ rfl),rfl,rfl⟩ (by rw[Heap.size_push,hz]) fun b o x=>Heap.get?_push_of_some _ (Heap.get?_push_of_some _ x)⟩
theorem Rv{k:SK}{xs:Array Value}{Q:Value→Shared→Prop}(h1:k.On xs s.heap)
  (h:∀h',IsEnum h' (s.heap.objs.size+1) s.heap.objs.size 0 .none→k.pos s.heap.objs.size 0 h'→h'.objs.size=s.heap.objs.size+2→
   (∀b o,s.heap.get? b=some o→h'.get? b=some o)→Q (.ref (s.heap.objs.size+1)) { s with heap:=h' }):
  wpAny (model prog w) A (call (.type "enumerate") [k.val]) Q E s:=by
 cases k with
 |lst a=>exact call_enumerate_list h1 h
 |tup a=>exact Ru h1 h
 |str x t=>exact call_enumerate_str h
end
end RF
namespace RF
open PySem PySem.Spec L2
structure CT where
 N:List Str
 kd:List (Str×NameKind)
 fn:Bool
 fs:List (String×Nat)
 bt:List String
 cn:List (String×D)
 xs:List (String×Bool):=[]
def fY:Option NameKind→Bool
 |some .local=>true
 |some .cell=>true
 |some .free=>true
 |_=>false
def CT.sto(c:CT)(x:Str):Bool:=c.kd.lookup x==some .local||(c.fn&&c.kd.lookup x==some .cell)
def okN (x:Str):Bool:=!(x==("__debug__":Str))&&!(x==("__classdict__":Str))&&!(x==("__name__":Str))
def CT.glo(c:CT)(x:Str):Bool:=c.kd.lookup x==some .globalImplicit&&okN x
def sEq:D→D→Bool
 |.non,.non=>true
 |.bl a,.bl b=>a==b
 |.int a,.int b=>a==b
 |.str a,.str b=>a==b
 |_,_=>false
theorem Rw{a b:D}(h:sEq a b=true):a=b:=by
 cases a <;> cases b <;> simp_all [sEq]
def nZ(d:D)(k:Const):Bool:=
 match d,k with
 |.non,.none=>true
 |.bl a,.bool b=>a==b
 |.int a,.int b=>a==b
 |.str a,.str b=>a==b.cps.toList&&decide (a.length≤sz)
 |_,_=>false
def Bf.name:Bf→String
 |.len=>"len"
 |.all=>"all"
 |.int=>"int"
 |.tuple=>"tuple"
 |.sum=>"sum"
 |.min=>"min"
 |.max=>"max"
 |.str=>"str"
def rM:Bf→Bool
 |.sum=>false
 |.min=>false
 |.max=>false
 |.str=>true
 |_=>true
def rN:Lf→Bool
 |.sorted=>false
 |_=>true
def Lf.name:Lf→String
 |.list=>"list"
 |.sorted=>"sorted"
def Mf.name:Mf→String
 |.join=>"join"
 |.append=>"append"
 |.extend=>"extend"
 |.insert=>"insert"
 |.count=>"count"
 |.index=>"index"
def n6:Expr→Bool
 |.Call (.Name _ _) [] [] _=>true
 |_=>false
def cD:Expr→Bool
 |.ListComp ..=>true
 |.SetComp ..=>true
 |.DictComp ..=>true
 |_=>false
def fZ:Expr→Bool
 |.UnaryOp .Not _ _=>false
 |.BoolOp ..=>false
 |.IfExp ..=>false
 |.Compare ..=>false
 |_=>true
def eX(N:List Str)(scope:Scope):List Str→List (Option Nat)→Bool
 |[],[]=>true
 |_::N',none::cap=>eX N scope N' cap
 |x::N',some j::cap=>(N[j]?==some x)&&(scope.names.lookup x==some NameKind.free)&&eX N scope N' cap
 |_,_=>false
def ie(c:CT)(scope:Scope):Bool:=
 scope.names.all (fun y=>y.2 != NameKind.cell)&&scope.names.all (fun y=>y.2 != NameKind.local||scope.names.lookup y.1==some NameKind.local) &&
 scope.names.all (fun y=>y.2 != NameKind.free||(c.kd.lookup y.1==some NameKind.cell||c.kd.lookup y.1==some NameKind.free))&&decide (scope.kind=.function)&&decide (c.kd=c.kd)
def CT.comp(c:CT)(N:List Str)(scope:Scope):CT:={ N:=N,kd:=scope.names,fn:=false,fs:=c.fs,bt:=c.bt,cn:=c.cn }
def dC:List Str→Bool
 |[]=>true
 |x::r=>!r.contains x&&dC r
def asName(e:Expr):Option { t:Str×Pos // e=.Name t.1 t.2 }:=match e with
 |.Name a0 a1=>some ⟨(a0,a1),rfl⟩
 |_=>none
def oh(e:Expr):Option { t:Const×Nat×Pos // e=.Constant t.1 t.2.1 t.2.2 }:=match e with
 |.Constant a0 a1 a2=>some ⟨(a0,a1,a2),rfl⟩
 |_=>none
def xH(e:Expr):Option { t:Expr×Operator×Expr×Pos // e=.BinOp t.1 t.2.1 t.2.2.1 t.2.2.2 }:=match e with
 |.BinOp a0 a1 a2 a3=>some ⟨(a0,a1,a2,a3),rfl⟩
 |_=>none
def ig(e:Expr):Option { t:UnaryOp×Expr×Pos // e=.UnaryOp t.1 t.2.1 t.2.2 }:=match e with
 |.UnaryOp a0 a1 a2=>some ⟨(a0,a1,a2),rfl⟩
 |_=>none
def jd(e:Expr):Option { t:Expr×List CmpOp×List Expr×Pos // e=.Compare t.1 t.2.1 t.2.2.1 t.2.2.2 }:=match e with
 |.Compare a0 a1 a2 a3=>some ⟨(a0,a1,a2,a3),rfl⟩
 |_=>none
def ou(e:Expr):Option { t:BoolOp×List Expr×Pos // e=.BoolOp t.1 t.2.1 t.2.2 }:=match e with
 |.BoolOp a0 a1 a2=>some ⟨(a0,a1,a2),rfl⟩
 |_=>none
def Zo(e:Expr):Option { t:Expr×Expr×Expr×Pos // e=.IfExp t.1 t.2.1 t.2.2.1 t.2.2.2 }:=match e with
 |.IfExp a0 a1 a2 a3=>some ⟨(a0,a1,a2,a3),rfl⟩
 |_=>none
def eY(e:Expr):Option { t:List Expr×Nat×Pos // e=.Tuple t.1 t.2.1 t.2.2 }:=match e with
 |.Tuple a0 a1 a2=>some ⟨(a0,a1,a2),rfl⟩
 |_=>none
def asList(e:Expr):Option { t:List Expr×Pos // e=.List t.1 t.2 }:=match e with
 |.List a0 a1=>some ⟨(a0,a1),rfl⟩
 |_=>none
def ik(e:Expr):Option { t:Expr×Expr×Pos // e=.Subscript t.1 t.2.1 t.2.2 }:=match e with
 |.Subscript a0 a1 a2=>some ⟨(a0,a1,a2),rfl⟩
 |_=>none
def xJ(e:Expr):Option { t:Option Expr×Option Expr×Option Expr×Pos // e=.Slice t.1 t.2.1 t.2.2.1 t.2.2.2 }:=match e with
 |.Slice a0 a1 a2 a3=>some ⟨(a0,a1,a2,a3),rfl⟩
 |_=>none
def rO(e:Expr):Option { t:Expr×List Expr×List Keyword×Pos // e=.Call t.1 t.2.1 t.2.2.1 t.2.2.2 }:=match e with
 |.Call a0 a1 a2 a3=>some ⟨(a0,a1,a2,a3),rfl⟩
 |_=>none
def xK(e:Expr):Option { t:Expr×Str×Pos // e=.Attribute t.1 t.2.1 t.2.2 }:=match e with
 |.Attribute a0 a1 a2=>some ⟨(a0,a1,a2),rfl⟩
 |_=>none
def xM(e:Expr):Option { t:Expr×List Comprehension×Scope×Pos // e=.ListComp t.1 t.2.1 t.2.2.1 t.2.2.2 }:=match e with
 |.ListComp a0 a1 a2 a3=>some ⟨(a0,a1,a2,a3),rfl⟩
 |_=>none
def oA(e:Stmt):Option { t:Expr×Pos // e=.Expr t.1 t.2 }:=match e with
 |.Expr a0 a1=>some ⟨(a0,a1),rfl⟩
 |_=>none
def eZ(e:Stmt):Option { t:List Expr×Expr×Pos // e=.Assign t.1 t.2.1 t.2.2 }:=match e with
 |.Assign a0 a1 a2=>some ⟨(a0,a1,a2),rfl⟩
 |_=>none
def Zq(e:Stmt):Option { t:Expr×Operator×Expr×Pos // e=.AugAssign t.1 t.2.1 t.2.2.1 t.2.2.2 }:=match e with
 |.AugAssign a0 a1 a2 a3=>some ⟨(a0,a1,a2,a3),rfl⟩
 |_=>none
def xN(e:Stmt):Option { t:Option Expr×Option Expr×Pos // e=.Raise t.1 t.2.1 t.2.2 }:=match e with
 |.Raise a0 a1 a2=>some ⟨(a0,a1,a2),rfl⟩
 |_=>none
def xO(e:Stmt):Option { t:List Stmt×List ExceptHandler×List Stmt×List Stmt×Pos // e=.Try t.1 t.2.1 t.2.2.1 t.2.2.2.1 t.2.2.2.2 }:=match e with
 |.Try a0 a1 a2 a3 a4=>some ⟨(a0,a1,a2,a3,a4),rfl⟩
 |_=>none
def xP(e:ExceptHandler):Option { t:Option Expr×Option Str×List Stmt×Pos // e=.ExceptHandler t.1 t.2.1 t.2.2.1 t.2.2.2 }:=match e with
 |.ExceptHandler a0 a1 a2 a3=>some ⟨(a0,a1,a2,a3),rfl⟩
def rP(e:Expr):Option { t:Expr×Int×Option Expr×Pos // e=.FormattedValue t.1 t.2.1 t.2.2.1 t.2.2.2 }:=match e with
 |.FormattedValue a0 a1 a2 a3=>some ⟨(a0,a1,a2,a3),rfl⟩
 |_=>none
def Rx(e:Expr):Option { t:List Expr×Pos // e=.JoinedStr t.1 t.2 }:=match e with
 |.JoinedStr a0 a1=>some ⟨(a0,a1),rfl⟩
 |_=>none
def Ry(k:Const):Option { x:Str // k=.str x }:=match k with
 |.str x=>some ⟨x,rfl⟩
 |_=>none
def Zr(b:Bool)(k:Const):Bool:=match k with
 |.bool c=>c==b
 |_=>false
def oE(e:Stmt):Option { t:Option Expr×Pos // e=.Return t.1 t.2 }:=match e with
 |.Return a0 a1=>some ⟨(a0,a1),rfl⟩
 |_=>none
def oF(e:Stmt):Option { t:Expr×List Stmt×List Stmt×Pos // e=.If t.1 t.2.1 t.2.2.1 t.2.2.2 }:=match e with
 |.If a0 a1 a2 a3=>some ⟨(a0,a1,a2,a3),rfl⟩
 |_=>none
def xQ(e:Stmt):Option { t:Expr×Expr×List Stmt×List Stmt×Pos // e=.For t.1 t.2.1 t.2.2.1 t.2.2.2.1 t.2.2.2.2 }:=match e with
 |.For a0 a1 a2 a3 a4=>some ⟨(a0,a1,a2,a3,a4),rfl⟩
 |_=>none
def Zt(e:Stmt):Option { t:Expr×List Stmt×List Stmt×Pos // e=.While t.1 t.2.1 t.2.2.1 t.2.2.2 }:=match e with
 |.While a0 a1 a2 a3=>some ⟨(a0,a1,a2,a3),rfl⟩
 |_=>none
def xR(e:Stmt):Option { t:Pos // e=.Pass t }:=match e with
 |.Pass a0=>some ⟨a0,rfl⟩
 |_=>none
def xT(e:Stmt):Option { t:Pos // e=.Break t }:=match e with
 |.Break a0=>some ⟨a0,rfl⟩
 |_=>none
def xU(e:Stmt):Option { t:Pos // e=.Continue t }:=match e with
 |.Continue a0=>some ⟨a0,rfl⟩
 |_=>none
def one{α:Type}:List α→Option α
 |[a]=>some a
 |_=>none
def three{α:Type}:List α→Option (α×α×α)
 |[x,y,z]=>some (x,y,z)
 |_=>none
theorem Zu{α:Type}{l:List α}{v:α×α×α}(h:three l=some v):l=[v.1,v.2.1,v.2.2]:=by
 unfold three at h
 split at h
 ·cases h;rfl
 ·cases h
def two{α:Type}:List α→Option (α×α)
 |[a,b]=>some (a,b)
 |_=>none
def hdT{α:Type}:List α→Option (α×List α)
 |a::r=>some (a,r)
 |[]=>none
theorem bT{α:Type}{l:List α}{a:α}(h:one l=some a):l=[a]:=by
 cases l with
 |nil=>cases h
 |cons x r=>cases r with
  |nil=>cases h;rfl
  |cons _ _=>cases h
theorem oG{α:Type}{l:List α}{a:α×α}(h:two l=some a):l=[a.1,a.2]:=by
 cases l with
 |nil=>cases h
 |cons x r=>cases r with
  |nil=>cases h
  |cons y r=>cases r with
   |nil=>cases h;rfl
   |cons _ _=>cases h
theorem xV{α:Type}{l:List α}{a:α×List α}(h:hdT l=some a):l=a.1::a.2:=by
 cases l with
 |nil=>cases h
 |cons x r=>cases h;rfl
theorem aM{α:Type}{o:Option α}{p:α→Bool}(h:o.any p=true):∃t,o=some t∧p t=true:=by
 cases o with
 |none=>cases h
 |some t=>exact ⟨t,rfl,h⟩
def rQ:UnaryOp→Bool
 |.USub=>true
 |_=>false
def je:UnaryOp→Bool
 |.Not=>true
 |_=>false
theorem Rz{o:UnaryOp}(h:rQ o=true):o=.USub:=by cases o <;> first |rfl |cases h
theorem xW{o:UnaryOp}(h:je o=true):o=.Not:=by cases o <;> first |rfl |cases h
def bx(e:Expr):Option (Str×Pos×List Expr×Pos):=(rO e).bind fun t=>(asName t.1.1).bind fun n=>match t.1.2.2.1 with |[]=>some (n.1.1,n.1.2,t.1.2.1,t.1.2.2.2) |_::_=>none
def ao{α:Type}{q:α→Prop}(o:Option { t:α // q t })(P:α→Bool):Bool:=match o with |some t=>P t.1 |none=>false
theorem aF{α:Type}{q:α→Prop}{o:Option { t:α // q t }}{P:α→Bool}(h:ao o P=true):∃t,q t∧P t=true:=by
 cases o with
 |none=>cases h
 |some t=>exact ⟨t.1,t.2,h⟩
theorem xX{α β:Type}{o:Option α}{f:α→Option β}{b:β}(h:o.bind f=some b):∃t,o=some t∧f t=some b:=by
 cases o with
 |none=>cases h
 |some t=>exact ⟨t,rfl,h⟩
theorem dD{e:Expr}{t:Str×Pos×List Expr×Pos}(h:bx e=some t):e=.Call (.Name t.1 t.2.1) t.2.2.1 [] t.2.2.2:=by
 obtain ⟨⟨⟨f,as,ks,p⟩,hu⟩,_,h⟩:=xX h
 obtain ⟨⟨⟨x,p'⟩,hn⟩,_,h⟩:=xX h
 dsimp only at h hn hu
 cases ks with
 |nil=>cases h;rw[hu,hn]
 |cons _ _=>cases h
def jf(e:Expr):Bool:=(jd e).isSome
def xY:Ex→Bool
 |.frz _=>false
 |_=>true
def rR:Tx→Bool
 |.yes=>true
 |_=>false
mutual
def bU(c:CT):Tg→Expr→Bool
 |.nm i,e=>ao (asName e) fun t=>(c.N[i]?==some t.1)&&c.sto t.1
 |.tp ts,e=>ao (eY e) fun t=>bL c ts t.1
def bL(c:CT):Tgs→List Expr→Bool
 |.nil,es=>es.isEmpty
 |.cons t r,es=>match es with
  |e::es=>bU c t e&&bL c r es
  |[]=>false
end
def rT(e:Expr):Bool:=ao (oh e) fun t=>ao (Ry t.1) fun x=>decide (x.length≤1000)
def unF(e:Expr):Expr:=match rP e with |some t=>t.1.1 |none=>e
def RB:Ex→Bool
 |.cst (.str _)=>true
 |_=>false
def RC:Exs→List Expr→Bool
 |.cons x xs,p::ps=>(match rP p with |some t=>decide (t.1.2.1=-1)&&t.1.2.2.1.isNone |none=>RB x)&&RC xs ps
 |.nil,ps=>ps.isEmpty
 |_,[]=>false
mutual
def ak(c:CT):Ex→Expr→Bool
 |.var i,e=>ao (asName e) fun t=>(c.N[i]?==some t.1)&&fY (c.kd.lookup t.1)&&okN t.1
 |.cst d,e=>ao (oh e) fun t=>nZ d t.1
 |.glb x d,e=>ao (asName e) fun t=>t.1==Str.ofString x&&c.glo t.1&&c.cn.any (fun p=>p.1==x&&sEq p.2 d)
 |.bin op _ a b,e=>ao (xH e) fun t=>t.2.1==op&&ak c a t.1&&ak c b t.2.2.1
 |.neg a,e=>ao (ig e) fun t=>rQ t.1&&ak c a t.2.1
 |.cmp op a b,e=>ao (jd e) fun t=>(one t.2.1).any fun o=>(one t.2.2.1).any fun r=>o==op&&ak c a t.1&&ak c b r
 |.chn op op' a b d,e=>ao (jd e) fun t=>(two t.2.1).any fun o=>(two t.2.2.1).any fun r=>o.1==op&&o.2==op'&&ak c a t.1&&ak c b r.1&&ak c d r.2
 |.not a,e=>ao (ig e) fun t=>je t.1&&ak c a t.2.1
 |.boo isAnd x es,e=>ao (ou e) fun t=>(hdT t.2.1).any fun v=>t.1==(if isAnd then .And else .Or)&&ak c x v.1&&aB c es v.2
 |.ife _ _ _,_=>false
 |.tup es,e=>ao (eY e) fun t=>aB c es t.1
 |.lst _ es,e=>ao (asList e) fun t=>aB c es t.1
 |.idx a i,e=>ao (ik e) fun t=>ak c a t.1&&ak c i t.2.1
 |.slc _ a lo hi,e=>ao (ik e) fun t=>ao (xJ t.2.1) fun s=>s.2.2.1.isNone&&(ak c a t.1&&d8 c lo s.1&&d8 c hi s.2.1)
 |.rvs _ _ _,_=>false
 |.call f es,e=>(bx e).any fun t=>t.1==Str.ofString f&&c.glo t.1&&(c.fs.any fun p=>p.1==f&&p.2==t.2.2.1.length)&&!t.2.2.1.isEmpty&&aB c es t.2.2.1
 |.bcl f es,e=>(bx e).any fun t=>t.1==Str.ofString f.name&&rM f&&c.glo t.1&&c.bt.contains f.name&&!t.2.2.1.isEmpty&&aB c es t.2.2.1
 |.lcl _ f es,e=>(bx e).any fun t=>t.1==Str.ofString f.name&&rN f&&c.glo t.1&&c.bt.contains f.name&&!t.2.2.1.isEmpty&&aB c es t.2.2.1
 |.isi a t,e=>(bx e).any fun u=>(two u.2.2.1).any fun v=>ao (asName v.2) fun y=>u.1==Str.ofString "isinstance"&&c.glo u.1&&c.bt.contains "isinstance"&&ak c a v.1&&y.1==Str.ofString t&&c.glo y.1&&c.bt.contains t&&dW t
 |.isx _ _ _,_=>false
 |.fst _,_=>false
 |.mth m o es,e=>ao (rO e) fun t=>ao (xK t.1) fun v=>t.2.2.1.isEmpty&&(v.2.1==Str.ofString m.name&&ak c o v.1&&!n6 v.1&&(v.2.2.endLine==t.2.2.2.line)&&decide (t.2.1.length < 29)&&!t.2.1.isEmpty&&aB c es t.2.1)
 |.comp _ elt tg it cond N cap,e=>ao (xM e) fun t=>(one t.2.1).any fun g=>decide (g.is_async=0)&&bC c it g.target g.iter&&eX c.N t.2.2.1 (N.map Str.ofString) cap&&ie c t.2.2.1&&dC (N.map Str.ofString) &&
    bU (c.comp (N.map Str.ofString) t.2.2.1) tg g.target&&((rR cond&&g.ifs.isEmpty)||(one g.ifs).any fun f=>bc (c.comp (N.map Str.ofString) t.2.2.1) cond f)&&ak (c.comp (N.map Str.ofString) t.2.2.1) elt t.1
 |.frz a,e=>ak c a e
def bc(c:CT):Tx→Expr→Bool
 |.val x,e=>(fZ e||jf e)&&ak c x e&&xY x
 |.not t,e=>ao (ig e) fun u=>je u.1&&bc c t u.2.1
 |.boo isAnd t ts,e=>ao (ou e) fun u=>(hdT u.2.1).any fun v=>u.1==(if isAnd then .And else .Or)&&bc c t v.1&&gb c ts v.2
 |.yes,_=>false
def gb(c:CT):Txs→List Expr→Bool
 |.nil,es=>es.isEmpty
 |.cons t r,es=>match es with
  |e::es=>bc c t e&&gb c r es
  |[]=>false
def aB(c:CT):Exs→List Expr→Bool
 |.nil,es=>es.isEmpty
 |.cons t r,es=>match es with
  |e::es=>ak c t e&&aB c r es
  |[]=>false
def d8(c:CT):Ox→Option Expr→Bool
 |.no,e=>e.isNone
 |.ob x,e=>match e with
  |some e=>ak c x e
  |none=>false
def bC(c:CT):It'→Expr→Expr→Bool
 |.seq x,_,e=>ak c x e
 |.rng a,_,e=>(bx e).any fun t=>(one t.2.2.1).any fun v=>t.1==Str.ofString "range"&&c.glo t.1&&c.bt.contains "range"&&ak c a v
 |.rng2 _ _,_,_=>false
 |.rev _,_,_=>false
 |.dwn _ _ _,_,_=>false
 |.enm a,tg,e=>ao (eY tg) fun _=>(bx e).any fun t=>(one t.2.2.1).any fun v=>t.1==Str.ofString "enumerate"&&c.glo t.1&&c.bt.contains "enumerate"&&ak c a v
 |.zip a b,tg,e=>ao (eY tg) fun _=>(bx e).any fun t=>(two t.2.2.1).any fun v=>t.1==Str.ofString "zip"&&c.glo t.1&&c.bt.contains "zip"&&ak c a v.1&&ak c b v.2
end
def jg(c:CT)(cond:Tx)(ifs:List Expr):Bool:=(rR cond&&ifs.isEmpty)||(one ifs).any fun f=>bc c cond f
def xZ:Ex→Bool
 |.comp ..=>true
 |_=>false
def yc:Expr→Bool
 |.Tuple ..=>true
 |_=>false
def rW(g:Tg)(x:Ex)(e:Expr):Bool:=match g with |.nm _=>!cD e||xZ x |.tp _=>!yc e&&!cD e
def jh(c:CT):Exs→List Expr→Bool
 |es,[]=>(match es with |.nil=>true |_=>false)
 |es,p::ps=>match rT p with
  |true=>jh c es ps
  |false=>(match es with |.cons x r=>(ao (rP p) fun t=>decide (t.2.1=-1)&&t.2.2.1.isNone&&ak c x t.1)&&jh c r ps |.nil=>false)
def oH(c:CT)(es:Exs)(e:Expr):Bool:=(match es with |.nil=>rT e |_=>false)||ao (Rx e) fun t=>decide (2≤t.1.length)&&decide (t.1.length≤50)&&jh c es t.1
def cF(c:CT):Tb→List Stmt→Bool
 |.call f es,sts=>(one sts).any fun s0=>ao (oA s0) fun e0=>(bx e0.1).any fun u=>(u.1==Str.ofString f&&c.glo u.1&&(c.fs.any fun p=>p.1==f&&p.2==u.2.2.1.length)&&!u.2.2.1.isEmpty&&aB c es u.2.2.1)
 |.asg i f es,sts=>(one sts).any fun s0=>ao (eZ s0) fun a=>(one a.1).any fun tg=>ao (asName tg) fun y=>(bx a.2.1).any fun u=>(c.N[i]?==some y.1&&c.sto y.1&&okN y.1)&&(u.1==Str.ofString f&&c.glo u.1&&(c.fs.any fun p=>p.1==f&&p.2==u.2.2.1.length)&&!u.2.2.1.isEmpty&&aB c es u.2.2.1)
 |.ite t a b,sts=>(one sts).any fun s0=>ao (oF s0) fun u=>bc c t u.1&&cF c a u.2.1&&cF c b u.2.2.1
def rY(b:Bool):Const→Bool
 |.bool x=>x==b
 |_=>false
def oJ(c:CT)(h:Hd)(nm:Option Str)(y:Str)(e:Expr):Bool:=(match h with
 |.flag i b=>nm.isNone&&(c.N[i]?==some y)&&ao (oh e) fun k=>rY b k.1
 |.bind n i=>nm.any fun x=>(c.N[i]?==some y)&&(c.N[n]?==some x)&&(c.kd.lookup x==some .local)&&okN x&&ao (asName e) fun z=>z.1==x)&&c.sto y&&okN y
mutual
def aV(c:CT):Sx→Stmt→Bool
 |.exp x,st=>ao (oA st) fun t=>!cD t.1&&ak c x t.1
 |.asg g x,st=>ao (eZ st) fun t=>(one t.1).any fun tg=>bU c g tg&&ak c x t.2.1&&rW g x t.2.1
 |.set o i x,st=>ao (eZ st) fun t=>(one t.1).any fun tg=>ao (ik tg) fun u=>ak c o u.1&&ak c i u.2.1&&ak c x t.2.1&&!cD t.2.1
 |.aug _ _ _,_=>false
 |.augs _ _ _ _,_=>false
 |.ret x,st=>ao (oE st) fun t=>t.1.any fun e=>ak c x e
 |.rtn,st=>ao (oE st) fun t=>t.1.isNone
 |.ite t a b,st=>ao (oF st) fun u=>bc c t u.1&&aD c a u.2.1&&aD c b u.2.2.1
 |.for_ g it b,st=>ao (xQ st) fun t=>t.2.2.2.1.isEmpty&&(bU c g t.1&&bC c it t.1 t.2.1&&aD c b t.2.2.1)
 |.whl _ _,_=>false
 |.pas,st=>(xR st).isSome
 |.brk,st=>(xT st).isSome
 |.cnt,st=>(xU st).isSome
 |.nev,_=>true
 |.rse C es,st=>ao (xN st) fun t=>t.2.1.isNone&&t.1.any fun e=>(bx e).any fun u=>u.1==Str.ofString C&&c.glo u.1&&c.xs.contains (C,true)&&(one u.2.2.1).any fun m=>oH c es m
 |.tryc _ _ _ _ _,_=>false
 |.tryx b C h xs,st=>ao (xO st) fun t=>t.2.2.1.isEmpty&&t.2.2.2.1.isEmpty&&cF c b t.1&&(xs.all fun x=>c.xs.contains (x,true))&&!(C=="ValueError")&&(one t.2.1).any fun hd=>ao (xP hd) fun w=>w.1.any fun te=>ao (asName te) fun n=>(n.1==Str.ofString C&&c.glo n.1&&c.xs.contains (C,false))&&(one w.2.2.1).any fun s1=>ao (eZ s1) fun a=>(one a.1).any fun tg=>ao (asName tg) fun y=>oJ c h w.2.1 y.1 a.2.1
def aD(c:CT):Sxs→List Stmt→Bool
 |.nil,es=>es.isEmpty
 |.cons t r,es=>match es with
  |e::es=>aV c t e&&aD c r es
  |[]=>false
end
theorem rZ{c:CT}{i:Nat}{e:Expr}(h:bU c (.nm i) e=true):∃x p,e=.Name x p∧((c.N[i]?==some x)&&c.sto x)=true:=by
 have h:(ao (asName e) fun t=>(c.N[i]?==some t.1)&&c.sto t.1)=true:=h
 obtain ⟨t,ht,h⟩:=aF h
 exact ⟨_,_,ht,h⟩
theorem sr{c:CT}{ts:Tgs}{e:Expr}(h:bU c (.tp ts) e=true):∃es k p,e=.Tuple es k p∧(bL c ts es)=true:=by
 have h:(ao (eY e) fun t=>bL c ts t.1)=true:=h
 obtain ⟨t,ht,h⟩:=aF h
 exact ⟨_,_,_,ht,h⟩
theorem yd{c:CT}{i:Nat}{e:Expr}(h:ak c (.var i) e=true):∃x p,e=.Name x p∧((c.N[i]?==some x)&&fY (c.kd.lookup x)&&okN x)=true:=by
 have h:(ao (asName e) fun t=>(c.N[i]?==some t.1)&&fY (c.kd.lookup t.1)&&okN t.1)=true:=h
 obtain ⟨t,ht,h⟩:=aF h
 exact ⟨_,_,ht,h⟩
theorem ye{c:CT}{d:D}{e:Expr}(h:ak c (.cst d) e=true):∃k n p,e=.Constant k n p∧(nZ d k)=true:=by
 have h:(ao (oh e) fun t=>nZ d t.1)=true:=h
 obtain ⟨t,ht,h⟩:=aF h
 exact ⟨_,_,_,ht,h⟩
theorem yf{c:CT}{x:String}{d:D}{e:Expr}(h:ak c (.glb x d) e=true):∃y p,e=.Name y p∧(y==Str.ofString x&&c.glo y&&c.cn.any (fun p=>p.1==x&&sEq p.2 d))=true:=by
 have h:(ao (asName e) fun t=>t.1==Str.ofString x&&c.glo t.1&&c.cn.any (fun p=>p.1==x&&sEq p.2 d))=true:=h
 obtain ⟨t,ht,h⟩:=aF h
 exact ⟨_,_,ht,h⟩
theorem yg{c:CT}{op:Operator}{fz:Bool}{a b:Ex}{e:Expr}(h:ak c (.bin op fz a b) e=true):∃l o r p,e=.BinOp l o r p∧(o==op&&ak c a l&&ak c b r)=true:=by
 have h:(ao (xH e) fun t=>t.2.1==op&&ak c a t.1&&ak c b t.2.2.1)=true:=h
 obtain ⟨t,ht,h⟩:=aF h
 exact ⟨_,_,_,_,ht,h⟩
theorem yh{c:CT}{a:Ex}{e:Expr}(h:ak c (.neg a) e=true):∃x p,e=.UnaryOp .USub x p∧(ak c a x)=true:=by
 have h:(ao (ig e) fun t=>rQ t.1&&ak c a t.2.1)=true:=h
 obtain ⟨t,ht,h⟩:=aF h
 rw[Bool.and_eq_true]at h
 exact ⟨_,_,by rw[ht,Rz h.1],h.2⟩
theorem yj{c:CT}{a:Ex}{e:Expr}(h:ak c (.not a) e=true):∃x p,e=.UnaryOp .Not x p∧(ak c a x)=true:=by
 have h:(ao (ig e) fun t=>je t.1&&ak c a t.2.1)=true:=h
 obtain ⟨t,ht,h⟩:=aF h
 rw[Bool.and_eq_true]at h
 exact ⟨_,_,by rw[ht,xW h.1],h.2⟩
theorem yl{c:CT}{op:CmpOp}{a b:Ex}{e:Expr}(h:ak c (.cmp op a b) e=true):∃l o r p,e=.Compare l [o] [r] p∧(o==op&&ak c a l&&ak c b r)=true:=by
 have h:(ao (jd e) fun t=>(one t.2.1).any fun o=>(one t.2.2.1).any fun r=>o==op&&ak c a t.1&&ak c b r)=true:=h
 obtain ⟨t,ht,h⟩:=aF h
 obtain ⟨o,ho,h⟩:=aM h
 obtain ⟨r,hr,h⟩:=aM h
 exact ⟨_,_,_,_,by rw[ht,bT ho,bT hr],h⟩
theorem ym{c:CT}{op op':CmpOp}{a b d:Ex}{e:Expr}(h:ak c (.chn op op' a b d) e=true):∃l o o' m r p,e=.Compare l [o,o'] [m,r] p∧(o==op&&o'==op'&&ak c a l&&ak c b m&&ak c d r)=true:=by
 have h:(ao (jd e) fun t=>(two t.2.1).any fun o=>(two t.2.2.1).any fun r=>o.1==op&&o.2==op'&&ak c a t.1&&ak c b r.1&&ak c d r.2)=true:=h
 obtain ⟨t,ht,h⟩:=aF h
 obtain ⟨o,ho,h⟩:=aM h
 obtain ⟨r,hr,h⟩:=aM h
 exact ⟨_,_,_,_,_,_,by rw[ht,oG ho,oG hr],h⟩
theorem yo{c:CT}{isAnd:Bool}{x:Ex}{es:Exs}{e:Expr}(h:ak c (.boo isAnd x es) e=true):∃op v vs p,e=.BoolOp op (v::vs) p∧(op==(if isAnd then .And else .Or)&&ak c x v&&aB c es vs)=true:=by
 have h:(ao (ou e) fun t=>(hdT t.2.1).any fun v=>t.1==(if isAnd then .And else .Or)&&ak c x v.1&&aB c es v.2)=true:=h
 obtain ⟨t,ht,h⟩:=aF h
 obtain ⟨v,hv,h⟩:=aM h
 exact ⟨_,_,_,_,by rw[ht,xV hv],h⟩
theorem yp{c:CT}{es:Exs}{e:Expr}(h:ak c (.tup es) e=true):∃vs k p,e=.Tuple vs k p∧(aB c es vs)=true:=by
 have h:(ao (eY e) fun t=>aB c es t.1)=true:=h
 obtain ⟨t,ht,h⟩:=aF h
 exact ⟨_,_,_,ht,h⟩
theorem yq{c:CT}{fz:Bool}{es:Exs}{e:Expr}(h:ak c (.lst fz es) e=true):∃vs p,e=.List vs p∧(aB c es vs)=true:=by
 have h:(ao (asList e) fun t=>aB c es t.1)=true:=h
 obtain ⟨t,ht,h⟩:=aF h
 exact ⟨_,_,ht,h⟩
theorem yr{c:CT}{a i:Ex}{e:Expr}(h:ak c (.idx a i) e=true):∃v s p,e=.Subscript v s p∧(ak c a v&&ak c i s)=true:=by
 have h:(ao (ik e) fun t=>ak c a t.1&&ak c i t.2.1)=true:=h
 obtain ⟨t,ht,h⟩:=aF h
 exact ⟨_,_,_,ht,h⟩
theorem yt{c:CT}{fz:Bool}{a:Ex}{lo hi:Ox}{e:Expr}(h:ak c (.slc fz a lo hi) e=true):∃v l u p' p,e=.Subscript v (.Slice l u none p') p∧(ak c a v&&d8 c lo l&&d8 c hi u)=true:=by
 have h:(ao (ik e) fun t=>ao (xJ t.2.1) fun s=>s.2.2.1.isNone&&(ak c a t.1&&d8 c lo s.1&&d8 c hi s.2.1))=true:=h
 obtain ⟨t,ht,h⟩:=aF h
 obtain ⟨s,hs,h⟩:=aF h
 rw[Bool.and_eq_true,Option.isNone_iff_eq_none]at h
 exact ⟨_,_,_,_,_,by rw[ht,hs,h.1],h.2⟩
theorem yu{c:CT}{f:String}{es:Exs}{e:Expr}(h:ak c (.call f es) e=true):∃x p args pos,e=.Call (.Name x p) args [] pos∧(x==Str.ofString f&&c.glo x&&(c.fs.any fun p=>p.1==f&&p.2==args.length)&&!args.isEmpty&&aB c es args)=true:=by
 have h:((bx e).any fun t=>t.1==Str.ofString f&&c.glo t.1&&(c.fs.any fun p=>p.1==f&&p.2==t.2.2.1.length)&&!t.2.2.1.isEmpty&&aB c es t.2.2.1)=true:=h
 obtain ⟨t,ht,h⟩:=aM h
 exact ⟨_,_,_,_,dD ht,h⟩
theorem yw{c:CT}{f:Bf}{es:Exs}{e:Expr}(h:ak c (.bcl f es) e=true):∃x p args pos,e=.Call (.Name x p) args [] pos∧(x==Str.ofString f.name&&rM f&&c.glo x&&c.bt.contains f.name&&!args.isEmpty&&aB c es args)=true:=by
 have h:((bx e).any fun t=>t.1==Str.ofString f.name&&rM f&&c.glo t.1&&c.bt.contains f.name&&!t.2.2.1.isEmpty&&aB c es t.2.2.1)=true:=h
 obtain ⟨t,ht,h⟩:=aM h
 exact ⟨_,_,_,_,dD ht,h⟩
theorem yx{c:CT}{fz:Bool}{f:Lf}{es:Exs}{e:Expr}(h:ak c (.lcl fz f es) e=true):∃x p args pos,e=.Call (.Name x p) args [] pos∧(x==Str.ofString f.name&&rN f&&c.glo x&&c.bt.contains f.name&&!args.isEmpty&&aB c es args)=true:=by
 have h:((bx e).any fun t=>t.1==Str.ofString f.name&&rN f&&c.glo t.1&&c.bt.contains f.name&&!t.2.2.1.isEmpty&&aB c es t.2.2.1)=true:=h
 obtain ⟨t,ht,h⟩:=aM h
 exact ⟨_,_,_,_,dD ht,h⟩
theorem yz {c:CT} {a:Ex} {t:String} {e:Expr} (h:ak c (.isi a t) e=true):∃x p v y p' pos,e=.Call (.Name x p) [v,.Name y p'] [] pos∧(x==Str.ofString "isinstance"&&c.glo x&&c.bt.contains "isinstance"&&ak c a v&&y==Str.ofString t&&c.glo y&&c.bt.contains t&&dW t)=true:=by
 have h:((bx e).any fun u=>(two u.2.2.1).any fun v=>ao (asName v.2) fun y=>u.1==Str.ofString "isinstance"&&c.glo u.1&&c.bt.contains "isinstance"&&ak c a v.1&&y.1==Str.ofString t&&c.glo y.1&&c.bt.contains t&&dW t)=true:=h
 obtain ⟨u,hu,h⟩:=aM h
 obtain ⟨v,hv,h⟩:=aM h
 obtain ⟨y,hy,h⟩:=aF h
 exact ⟨_,_,_,_,_,_,by rw[dD hu,oG hv,hy],h⟩
theorem yC{c:CT}{m:Mf}{o:Ex}{es:Exs}{e:Expr}(h:ak c (.mth m o es) e=true):∃v x apos args cpos,e=.Call (.Attribute v x apos) args [] cpos∧(x==Str.ofString m.name&&ak c o v&&!n6 v&&(apos.endLine==cpos.line)&&decide (args.length < 29)&&!args.isEmpty&&aB c es args)=true:=by
 have h:(ao (rO e) fun t=>ao (xK t.1) fun v=>t.2.2.1.isEmpty&&(v.2.1==Str.ofString m.name&&ak c o v.1&&!n6 v.1&&(v.2.2.endLine==t.2.2.2.line)&&decide (t.2.1.length < 29)&&!t.2.1.isEmpty&&aB c es t.2.1))=true:=h
 obtain ⟨t,ht,h⟩:=aF h
 obtain ⟨v,hv,h⟩:=aF h
 rw[Bool.and_eq_true,List.isEmpty_iff]at h
 exact ⟨_,_,_,_,_,by rw[ht,hv,h.1],h.2⟩
theorem yD{c:CT}{fz:Bool}{elt:Ex}{tg:Tg}{it:It'}{cond:Tx}{N:List String}{cap:List (Option Nat)}{e:Expr}(h:ak c (.comp fz elt tg it cond N cap) e=true):∃elt' tg' iter ifs as scope pos,e=.ListComp elt' [⟨tg',iter,ifs,as⟩] scope pos∧(decide (as=0)&&bC c it tg' iter&&eX c.N scope (N.map Str.ofString) cap&&ie c scope&&dC (N.map Str.ofString)&&bU (c.comp (N.map Str.ofString) scope) tg tg'&&jg (c.comp (N.map Str.ofString) scope) cond ifs&&ak (c.comp (N.map Str.ofString) scope) elt elt')=true:=by
 have h:(ao (xM e) fun t=>(one t.2.1).any fun g=>decide (g.is_async=0)&&bC c it g.target g.iter&&eX c.N t.2.2.1 (N.map Str.ofString) cap&&ie c t.2.2.1&&dC (N.map Str.ofString)&&bU (c.comp (N.map Str.ofString) t.2.2.1) tg g.target&&((rR cond&&g.ifs.isEmpty)||(one g.ifs).any fun f=>bc (c.comp (N.map Str.ofString) t.2.2.1) cond f)&&ak (c.comp (N.map Str.ofString) t.2.2.1) elt t.1)=true:=h
 obtain ⟨t,ht,h⟩:=aF h
 obtain ⟨⟨tg',iter,ifs,as⟩,hg,h⟩:=aM h
 exact ⟨t.1,tg',iter,ifs,as,t.2.2.1,t.2.2.2,(ht).trans (by rw[bT hg]),h⟩
theorem RD{c:CT}{t:Tx}{e:Expr}(h:bc c (.not t) e=true):∃x p,e=.UnaryOp .Not x p∧(bc c t x)=true:=by
 have h:(ao (ig e) fun u=>je u.1&&bc c t u.2.1)=true:=h
 obtain ⟨u,ht,h⟩:=aF h
 rw[Bool.and_eq_true]at h
 exact ⟨_,_,by rw[ht,xW h.1],h.2⟩
theorem RG{c:CT}{isAnd:Bool}{x:Tx}{es:Txs}{e:Expr}(h:bc c (.boo isAnd x es) e=true):∃op v vs p,e=.BoolOp op (v::vs) p∧(op==(if isAnd then .And else .Or)&&bc c x v&&gb c es vs)=true:=by
 have h:(ao (ou e) fun u=>(hdT u.2.1).any fun v=>u.1==(if isAnd then .And else .Or)&&bc c x v.1&&gb c es v.2)=true:=h
 obtain ⟨t,ht,h⟩:=aF h
 obtain ⟨v,hv,h⟩:=aM h
 exact ⟨_,_,_,_,by rw[ht,xV hv],h⟩
theorem yE {c:CT} {a:Ex} {tg e:Expr} (h:bC c (.rng a) tg e=true):∃x p v pos,e=.Call (.Name x p) [v] [] pos∧(x==Str.ofString "range"&&c.glo x&&c.bt.contains "range"&&ak c a v)=true:=by
 have h:((bx e).any fun t=>(one t.2.2.1).any fun v=>t.1==Str.ofString "range"&&c.glo t.1&&c.bt.contains "range"&&ak c a v)=true:=h
 obtain ⟨t,ht,h⟩:=aM h
 obtain ⟨v,hv,h⟩:=aM h
 exact ⟨_,_,_,_,by rw[dD ht,bT hv],h⟩
theorem yF {c:CT} {a:Ex} {tg e:Expr} (h:bC c (.enm a) tg e=true):∃ts k p0 x p v pos,tg=.Tuple ts k p0∧e=.Call (.Name x p) [v] [] pos∧(x==Str.ofString "enumerate"&&c.glo x&&c.bt.contains "enumerate"&&ak c a v)=true:=by
 have h:(ao (eY tg) fun _=>(bx e).any fun t=>(one t.2.2.1).any fun v=>t.1==Str.ofString "enumerate"&&c.glo t.1&&c.bt.contains "enumerate"&&ak c a v)=true:=h
 obtain ⟨g,hg,h⟩:=aF h
 obtain ⟨t,ht,h⟩:=aM h
 obtain ⟨v,hv,h⟩:=aM h
 exact ⟨_,_,_,_,_,_,_,hg,by rw[dD ht,bT hv],h⟩
theorem yG {c:CT} {a b:Ex} {tg e:Expr} (h:bC c (.zip a b) tg e=true):∃ts k p0 x p v v' pos,tg=.Tuple ts k p0∧e=.Call (.Name x p) [v,v'] [] pos∧(x==Str.ofString "zip"&&c.glo x&&c.bt.contains "zip"&&ak c a v&&ak c b v')=true:=by
 have h:(ao (eY tg) fun _=>(bx e).any fun t=>(two t.2.2.1).any fun v=>t.1==Str.ofString "zip"&&c.glo t.1&&c.bt.contains "zip"&&ak c a v.1&&ak c b v.2)=true:=h
 obtain ⟨g,hg,h⟩:=aF h
 obtain ⟨t,ht,h⟩:=aM h
 obtain ⟨v,hv,h⟩:=aM h
 exact ⟨_,_,_,_,_,_,_,_,hg,by rw[dD ht,oG hv],h⟩
theorem RJ{c:CT}{x:Ex}{st:Stmt}(h:aV c (.exp x) st=true):∃e pos,st=.Expr e pos∧(!cD e&&ak c x e)=true:=by
 have h:(ao (oA st) fun t=>!cD t.1&&ak c x t.1)=true:=h
 obtain ⟨t,ht,h⟩:=aF h
 exact ⟨_,_,ht,h⟩
theorem yH{c:CT}{g:Tg}{x:Ex}{st:Stmt}(h:aV c (.asg g x) st=true):∃tg e pos,st=.Assign [tg] e pos∧(bU c g tg&&ak c x e&&rW g x e)=true:=by
 have h:(ao (eZ st) fun t=>(one t.1).any fun tg=>bU c g tg&&ak c x t.2.1&&rW g x t.2.1)=true:=h
 obtain ⟨t,ht,h⟩:=aF h
 obtain ⟨g,hg,h⟩:=aM h
 exact ⟨_,_,_,by rw[ht,bT hg],h⟩
theorem RK{c:CT}{o i x:Ex}{st:Stmt}(h:aV c (.set o i x) st=true):∃o' i' tpos e pos,st=.Assign [.Subscript o' i' tpos] e pos∧(ak c o o'&&ak c i i'&&ak c x e&&!cD e)=true:=by
 have h:(ao (eZ st) fun t=>(one t.1).any fun tg=>ao (ik tg) fun u=>ak c o u.1&&ak c i u.2.1&&ak c x t.2.1&&!cD t.2.1)=true:=h
 obtain ⟨t,ht,h⟩:=aF h
 obtain ⟨g,hg,h⟩:=aM h
 obtain ⟨u,hu,h⟩:=aF h
 exact ⟨_,_,_,_,_,by rw[ht,bT hg,hu],h⟩
theorem RL{c:CT}{C:String}{es:Exs}{st:Stmt}(h:aV c (.rse C es) st=true):∃x np m cpos pos,st=.Raise (some (.Call (.Name x np) [m] [] cpos)) none pos∧(x==Str.ofString C&&c.glo x&&c.xs.contains (C,true)&&oH c es m)=true:=by
 have h:(ao (xN st) fun t=>t.2.1.isNone&&t.1.any fun e=>(bx e).any fun u=>u.1==Str.ofString C&&c.glo u.1&&c.xs.contains (C,true)&&(one u.2.2.1).any fun m=>oH c es m)=true:=h
 obtain ⟨t,ht,h⟩:=aF h
 rw[Bool.and_eq_true,Option.isNone_iff_eq_none]at h
 obtain ⟨e,he,h2⟩:=aM h.2
 obtain ⟨u,hu,h3⟩:=aM h2
 rw[Bool.and_eq_true]at h3
 obtain ⟨m,hm,h4⟩:=aM h3.2
 exact ⟨_,_,m,_,_,by rw[ht,h.1,he,dD hu,bT hm],by rw[Bool.and_eq_true];exact ⟨h3.1,h4⟩⟩
theorem RM{b:Bool}{k:Const}(h:rY b k=true):k=.bool b:=by
 cases k <;> first | (cases h;done) |skip
 rw[show rY b (.bool _)=(_==b) from rfl,beq_iff_eq]at h
 rw[h]
theorem RN{c:CT}{b:Tb}{C:String}{h:Hd}{xs:List String}{st:Stmt}(hh:aV c (.tryx b C h xs) st=true):
  ∃body cx p1 nm y p2 e p4 p5 pos,st=.Try body [.ExceptHandler (some (.Name cx p1)) nm [.Assign [.Name y p2] e p4] p5] [] [] pos∧
   cF c b body=true∧(xs.all fun x=>c.xs.contains (x,true))=true∧(C=="ValueError")=false∧(cx==Str.ofString C&&c.glo cx&&c.xs.contains (C,false))=true∧oJ c h nm y e=true:=by
 have hh:(ao (xO st) fun t=>t.2.2.1.isEmpty&&t.2.2.2.1.isEmpty&&cF c b t.1&&(xs.all fun x=>c.xs.contains (x,true))&&!(C=="ValueError")&&(one t.2.1).any fun hd=>ao (xP hd) fun w=>w.1.any fun te=>ao (asName te) fun n=>(n.1==Str.ofString C&&c.glo n.1&&c.xs.contains (C,false))&&(one w.2.2.1).any fun s1=>ao (eZ s1) fun a=>(one a.1).any fun tg=>ao (asName tg) fun y=>oJ c h w.2.1 y.1 a.2.1)=true:=hh
 obtain ⟨t,ht,h1⟩:=aF hh
 simp only[Bool.and_eq_true,List.isEmpty_iff,Bool.not_eq_true']at h1
 obtain ⟨⟨⟨⟨⟨e1,e2⟩,hx⟩,ha⟩,hv⟩,h2⟩:=h1
 obtain ⟨hd,hhd,h3⟩:=aM h2
 obtain ⟨w,hw,h3⟩:=aF h3
 obtain ⟨te,hte,h4⟩:=aM h3
 obtain ⟨n,hn',h4⟩:=aF h4
 simp only[Bool.and_eq_true]at h4
 obtain ⟨s1,hs1,h5⟩:=aM h4.2
 obtain ⟨a,ha',h5⟩:=aF h5
 obtain ⟨tg,htg,h5⟩:=aM h5
 obtain ⟨y,hy,h5⟩:=aF h5
 exact ⟨_,_,_,_,_,_,_,_,_,_,by rw[ht,e1,e2,bT hhd,hw,hte,hn',bT hs1,ha',bT htg,hy],hx,ha,hv,by simp only[Bool.and_eq_true];exact h4.1,h5⟩
theorem RP{c:CT}{f:String}{es:Exs}{sts:List Stmt}(h:cF c (.call f es) sts=true):∃x p args cpos p0,sts=[.Expr (.Call (.Name x p) args [] cpos) p0]∧
   (x==Str.ofString f&&c.glo x&&(c.fs.any fun p=>p.1==f&&p.2==args.length)&&!args.isEmpty&&aB c es args)=true:=by
 have h:((one sts).any fun s0=>ao (oA s0) fun e0=>(bx e0.1).any fun u=>(u.1==Str.ofString f&&c.glo u.1&&(c.fs.any fun p=>p.1==f&&p.2==u.2.2.1.length)&&!u.2.2.1.isEmpty&&aB c es u.2.2.1))=true:=h
 obtain ⟨s0,hs0,h⟩:=aM h
 obtain ⟨e0,he0,h⟩:=aF h
 obtain ⟨u,hu,h⟩:=aM h
 exact ⟨_,_,_,_,_,by rw[bT hs0,he0,dD hu],h⟩
theorem RQ{c:CT}{i:Nat}{f:String}{es:Exs}{sts:List Stmt}(h:cF c (.asg i f es) sts=true):∃y p2 x p args cpos p0,sts=[.Assign [.Name y p2] (.Call (.Name x p) args [] cpos) p0]∧(c.N[i]?==some y&&c.sto y&&okN y)=true∧
   (x==Str.ofString f&&c.glo x&&(c.fs.any fun p=>p.1==f&&p.2==args.length)&&!args.isEmpty&&aB c es args)=true:=by
 have h:((one sts).any fun s0=>ao (eZ s0) fun a=>(one a.1).any fun tg=>ao (asName tg) fun y=>(bx a.2.1).any fun u=>(c.N[i]?==some y.1&&c.sto y.1&&okN y.1)&&(u.1==Str.ofString f&&c.glo u.1&&(c.fs.any fun p=>p.1==f&&p.2==u.2.2.1.length)&&!u.2.2.1.isEmpty&&aB c es u.2.2.1))=true:=h
 obtain ⟨s0,hs0,h⟩:=aM h
 obtain ⟨a,ha,h⟩:=aF h
 obtain ⟨tg,htg,h⟩:=aM h
 obtain ⟨y,hy,h⟩:=aF h
 obtain ⟨u,hu,h⟩:=aM h
 rw[Bool.and_eq_true]at h
 exact ⟨_,_,_,_,_,_,_,by rw[bT hs0,ha,bT htg,hy,dD hu],h.1,h.2⟩
theorem RT{c:CT}{t:Tx}{a b:Tb}{sts:List Stmt}(h:cF c (.ite t a b) sts=true):∃e x y pos,sts=[.If e x y pos]∧bc c t e=true∧cF c a x=true∧cF c b y=true:=by
 have h:((one sts).any fun s0=>ao (oF s0) fun u=>bc c t u.1&&cF c a u.2.1&&cF c b u.2.2.1)=true:=h
 obtain ⟨s0,hs0,h⟩:=aM h
 obtain ⟨u,hu,h⟩:=aF h
 rw[Bool.and_eq_true,Bool.and_eq_true]at h
 exact ⟨_,_,_,_,by rw[bT hs0,hu],h.1.1,h.1.2,h.2⟩
theorem RV{c:CT}{x:Ex}{st:Stmt}(h:aV c (.ret x) st=true):∃e pos,st=.Return (some e) pos∧(ak c x e)=true:=by
 have h:(ao (oE st) fun t=>t.1.any fun e=>ak c x e)=true:=h
 obtain ⟨t,ht,h⟩:=aF h
 obtain ⟨e,he,h⟩:=aM h
 exact ⟨_,_,by rw[ht,he],h⟩
theorem RW{c:CT}{st:Stmt}(h:aV c .rtn st=true):∃pos,st=.Return none pos∧(true)=true:=by
 have h:(ao (oE st) fun t=>t.1.isNone)=true:=h
 obtain ⟨t,ht,h⟩:=aF h
 rw[Option.isNone_iff_eq_none]at h
 exact ⟨_,by rw[ht,h],rfl⟩
theorem RX{c:CT}{t:Tx}{a b:Sxs}{st:Stmt}(h:aV c (.ite t a b) st=true):∃t' a' b' pos,st=.If t' a' b' pos∧(bc c t t'&&aD c a a'&&aD c b b')=true:=by
 have h:(ao (oF st) fun u=>bc c t u.1&&aD c a u.2.1&&aD c b u.2.2.1)=true:=h
 obtain ⟨u,ht,h⟩:=aF h
 exact ⟨_,_,_,_,ht,h⟩
theorem RZ{c:CT}{g:Tg}{it:It'}{b:Sxs}{st:Stmt}(h:aV c (.for_ g it b) st=true):∃tg iter body pos,st=.For tg iter body [] pos∧(bU c g tg&&bC c it tg iter&&aD c b body)=true:=by
 have h:(ao (xQ st) fun t=>t.2.2.2.1.isEmpty&&(bU c g t.1&&bC c it t.1 t.2.1&&aD c b t.2.2.1))=true:=h
 obtain ⟨t,ht,h⟩:=aF h
 rw[Bool.and_eq_true,List.isEmpty_iff]at h
 exact ⟨_,_,_,_,by rw[ht,h.1],h.2⟩
theorem R0{c:CT}{st:Stmt}(h:aV c .pas st=true):∃pos,st=.Pass pos∧(true)=true:=by
 obtain ⟨⟨t,ht⟩,_⟩:=Option.isSome_iff_exists.mp (show (xR st).isSome=true from h)
 exact ⟨t,ht,rfl⟩
theorem R1{c:CT}{st:Stmt}(h:aV c .brk st=true):∃pos,st=.Break pos∧(true)=true:=by
 obtain ⟨⟨t,ht⟩,_⟩:=Option.isSome_iff_exists.mp (show (xT st).isSome=true from h)
 exact ⟨t,ht,rfl⟩
theorem R3{c:CT}{st:Stmt}(h:aV c .cnt st=true):∃pos,st=.Continue pos∧(true)=true:=by
 obtain ⟨⟨t,ht⟩,_⟩:=Option.isSome_iff_exists.mp (show (xU st).isSome=true from h)
 exact ⟨t,ht,rfl⟩
def ji:Expr→Bool
 |.Starred ..=>false
 |.Set ..=>false
 |.Slice ..=>false
 |_=>true
theorem bA{c:CT}:∀(x:Ex){e:Expr},ak c x e=true→ji e=true
 |.frz a,e,h=>bA a (show ak c a e=true from h)
 |.var _,e,h=>by obtain ⟨_,_,rfl,_⟩:=yd h;rfl
 |.cst _,e,h=>by obtain ⟨_,_,_,rfl,_⟩:=ye h;rfl
 |.glb _ _,e,h=>by obtain ⟨_,_,rfl,_⟩:=yf h;rfl
 |.bin _ _ _ _,e,h=>by obtain ⟨_,_,_,_,rfl,_⟩:=yg h;rfl
 |.neg _,e,h=>by obtain ⟨_,_,rfl,_⟩:=yh h;rfl
 |.cmp _ _ _,e,h=>by obtain ⟨_,_,_,_,rfl,_⟩:=yl h;rfl
 |.chn _ _ _ _ _,e,h=>by obtain ⟨_,_,_,_,_,_,rfl,_⟩:=ym h;rfl
 |.not _,e,h=>by obtain ⟨_,_,rfl,_⟩:=yj h;rfl
 |.boo _ _ _,e,h=>by obtain ⟨_,_,_,_,rfl,_⟩:=yo h;rfl
 |.ife _ _ _,_,h=>nomatch (show false=true from h)
 |.tup _,e,h=>by obtain ⟨_,_,_,rfl,_⟩:=yp h;rfl
 |.lst _ _,e,h=>by obtain ⟨_,_,rfl,_⟩:=yq h;rfl
 |.idx _ _,e,h=>by obtain ⟨_,_,_,rfl,_⟩:=yr h;rfl
 |.slc _ _ _ _,e,h=>by obtain ⟨_,_,_,_,_,rfl,_⟩:=yt h;rfl
 |.rvs _ _ _,_,h=>nomatch (show false=true from h)
 |.call _ _,e,h=>by obtain ⟨_,_,_,_,rfl,_⟩:=yu h;rfl
 |.bcl _ _,e,h=>by obtain ⟨_,_,_,_,rfl,_⟩:=yw h;rfl
 |.lcl _ _ _,e,h=>by obtain ⟨_,_,_,_,rfl,_⟩:=yx h;rfl
 |.isi _ _,e,h=>by obtain ⟨_,_,_,_,_,_,rfl,_⟩:=yz h;rfl
 |.fst _,_,h=>nomatch (show false=true from h)
 |.isx _ _ _,_,h=>nomatch (show false=true from h)
 |.mth _ _ _,e,h=>by obtain ⟨_,_,_,_,_,rfl,_⟩:=yC h;rfl
 |.comp _ _ _ _ _ _ _,e,h=>by obtain ⟨_,_,_,_,_,_,_,rfl,_⟩:=yD h;rfl
theorem cg{e:Expr}(h:ji e=true):noStar e=true:=by cases e <;> first |rfl |exact nomatch (show false=true from h)
theorem yI{e:Expr}(h:ji e=true)(op:CmpOp):behindInMarks op e=false:=by cases e <;> first |rfl |exact nomatch (show false=true from h)
theorem R4{e:Expr}(h:ji e=true)(env:Env)(x:Value):foldedSetIterable e env x=pure x:=by cases e <;> first |rfl |exact nomatch (show false=true from h)
theorem R5{e:Expr}(h:ji e=true):vA e:=by
 intro o i
 cases e <;> first |rfl |exact nomatch (show false=true from h)
theorem R6{e:Expr}(h:fZ e=true)(env:Env)(whole:Sem Value):isTrue e env whole=(do let v ←whole;standAt e.pos;holding [v] (truthy v)):=by
 cases e with
 |UnaryOp op x p=>cases op <;> first |rfl |exact nomatch (show false=true from h)
 |_=>first |rfl |exact nomatch (show false=true from h)
end RF
namespace RF
open PySem PySem.Spec PyProof.Rows L2
def XV(K:PySem.W.Frag)(H:Hp)(F:FZ)(x:Xn)(cv:Value)(od:Option Addr):Prop:=
 ∃C,cv=.ref C∧PySem.W.nsIn K mainGlobals (Str.ofString x.cls)=some (some (.ref C))∧
  match x.fld with
  |.non=>True
  |d=>∃a f v,od=some a∧H a=some (.xd [(f,v)])∧Rep K H F d v
def XR(K:PySem.W.Frag)(H:Hp)(F:FZ)(x:Xn)(EX:XK):Prop:=∀cv od,XV K H F x cv od→EX cv od H
def PX(K:PySem.W.Frag)(H:Hp)(F:FZ)(EX:XK):EK:=fun x G'=>∀H' F',Ext H F H' F'→R K H' F' G'→XR K H' F' x EX
theorem el{α β γ:Type}{p q r s:α→β→γ→Prop}{C:Prop}(h:∃x y z,p x y z∧q x y z∧r x y z∧s x y z)(k:∀x y z,p x y z→q x y z→r x y z→s x y z→C):C:=by
 obtain ⟨x,y,z,h1,h2,h3,h4⟩:=h
 exact k x y z h1 h2 h3 h4
def lift(K:PySem.W.Frag)(n:Nat)(S:RF.Spec):Sp:=fun vs H Q EX=>vs.length=n∧∃F G ds,R K H F G∧Reps K H F ds vs∧S.t ds G (PV K H F Q) (PX K H F EX)
def CV(K:PySem.W.Frag)(mg:Str→Option Value)(C':String)(cv:V):Prop:=
 (∃a,cv=.ref a∧mg (Str.ofString C')=some (.ref a)∧lA K a=true)∨(C'="ValueError"∧cv=.ty "ValueError"∧mg (Str.ofString C')=none)
def XI(K:PySem.W.Frag)(C C':String)(cv:V):Prop:=
 ∃c,PySem.W.nsIn K mainGlobals (Str.ofString C)=some (some (.ref c))∧wA K c=true∧PySem.W.mroIn K c (valOf cv)=some (dX C C')∧(dX C C'=false→(Value.ref c==valOf cv)=false)
structure Bs where
 H:Hp
 F:FZ
structure Stat(Φ:aj)(CX:CXT)(k:Nat)(c:CT)(E:EK)(B:Bs)(X:Cx):Prop where
 N:X.N=c.N
 nd:X.N.Nodup
 calm:X.calm=true
 own:PassesOwn (model X.prog X.w) X.A X.env X.xe
 kd:X.env.kindOf=fun x=>X.env.scope.names.lookup x
 vis:∀x,fY (c.kd.lookup x)=true→Vis X.env.scope x
 cel:∀x,(c.kd.lookup x=some .cell∨c.kd.lookup x=some .free)→(X.env.kindOf x=some .cell∨X.env.kindOf x=some .free)
 glo:∀x,c.kd.lookup x=some .globalImplicit→Gl X x
 sto:∀x,c.sto x=true→Loc X.env.scope x∧(X.fn x=true∨X.env.scope.names.lookup x=some .local)
 room:Room k X.A
 call:∀f n,(f,n)∈c.fs→∃fa fd ps,FnOk X.prog X.w X.K X.mg X.base CX k fa fd ps (lift X.K n (Φ f))∧PySem.W.keepIn X.K (.ref fa)=true∧Binds X.K fd ps []∧X.mg (Str.ofString f)=some (.ref fa)
 blt:∀f,f∈c.bt→X.mg (Str.ofString f)=none
 con:∀x d,(x,d)∈c.cn→∃u v,X.mg (Str.ofString x)=some u∧RelV v u∧∀H F,Rep X.K H F d v
 exc:∃EX,gA CX X EX∧Throws X EX∧∀x G' H' F',E x G'→Ext B.H B.F H' F'→R X.K H' F' G'→XR X.K H' F' x EX
 nox:∀(Y:Cx),gA CX Y fun _ _ _=>False
 xcl:∀C,c.xs.contains (C,true)=true→∃a,X.mg (Str.ofString C)=some (.ref a)∧fM X.K a=true∧PySem.W.nsIn X.K mainGlobals (Str.ofString C)=some (some (.ref a))
 loc:∀x,c.kd.lookup x=some .local→X.env.scope.names.lookup x=some .local
 xis:∀C',c.xs.contains (C',false)=true→∃cv,CV X.K X.mg C' cv∧∀C,c.xs.contains (C,true)=true→XI X.K C C' cv
 trc:c.xs≠[]→CX=CX1 X.prog X.w∧X.stack=X.env::X.outer∧X.ex=[]
def tE(K:PySem.W.Frag)(B:Bs)(w:aa→DH→(D→DH→Prop)→Prop):TE:=fun σ H Q=>∃ρ F G,Ext B.H B.F H F∧EnvR K H F ρ σ∧R K H F G∧w ρ G (PV K H F Q)
def tB'(K:PySem.W.Frag)(B:Bs)(w:aa→DH→(Bool→DH→Prop)→Prop):TT:=fun σ H Q=>∃ρ F G,Ext B.H B.F H F∧EnvR K H F ρ σ∧R K H F G∧w ρ G (PB K H F Q)
def tL(K:PySem.W.Frag)(B:Bs)(w:aa→DH→(List D→DH→Prop)→Prop):TA:=fun σ H Q=>∃ρ F G,Ext B.H B.F H F∧EnvR K H F ρ σ∧R K H F G∧w ρ G (PLs K H F Q)
def POp(K:PySem.W.Frag)(H:Hp)(F:FZ)(Q:Option Int→Hp→Prop):Option Int→DH→Prop:=fun b G'=>∀H' F',Ext H F H' F'→R K H' F' G'→Q b H'
def yJ(K:PySem.W.Frag)(B:Bs)(w:aa→DH→(Option Int→DH→Prop)→Prop):TO:=fun σ H Q=>∃ρ F G,Ext B.H B.F H F∧EnvR K H F ρ σ∧R K H F G∧w ρ G (POp K H F Q)
theorem peI{X:Cx}{e:Expr}{t t':TE}(h:PE X e t)(i:∀σ H Q,t' σ H Q→t σ H Q):PE X e t':=fun pins s σ H Q I q=>h pins s σ H Q I (i σ H Q q)
theorem ptI{X:Cx}{e:Expr}{t t':TT}(h:PT X e t)(i:∀σ H Q,t' σ H Q→t σ H Q):PT X e t':=fun pins s σ H Q I q=>h pins s σ H Q I (i σ H Q q)
theorem pwI{X:Cx}{e:Expr}{t t':TT}(h:PW X e t)(i:∀σ H Q,t' σ H Q→t σ H Q):PW X e t':=fun wh pins s σ H Q I q=>h wh pins s σ H Q I (i σ H Q q)
theorem paI{X:Cx}{e:List Expr}{t t':TA}(h:PA X e t)(i:∀σ H Q,t' σ H Q→t σ H Q):PA X e t':=fun pos pins s σ H Q I q=>h pos pins s σ H Q I (i σ H Q q)
section
variable {Φ:aj} {CX:CXT} {k:Nat} {c:CT} {E:EK} {B:Bs} {X:Cx}
theorem aH{K:PySem.W.Frag}{x:Ex}{σ:L2.St}{H:Hp}{F:FZ}{G:DH}{ρ:aa}{W:D→DH→Prop}{Q:VK}(e0:Ext B.H B.F H F)(he:EnvR K H F ρ σ)(r:R K H F G)(hw:wpE Φ x E ρ G W)
  (h:∀d G1 H1 F1 v,W d G1→Ext B.H B.F H1 F1→Ext H F H1 F1→EnvR K H1 F1 ρ σ→R K H1 F1 G1→Rep K H1 F1 d v→Q v H1):tE K B (wpE Φ x E) σ H Q:=
 ⟨ρ,F,G,e0,he,r,aA x (fun d G1 q H1 F1 v x1 r1 rv=>h d G1 H1 F1 v q (e0.trans x1) x1 (he.ext x1) r1 rv) hw⟩
theorem bV{K:PySem.W.Frag}{x:Exs}{σ:L2.St}{H:Hp}{F:FZ}{G:DH}{ρ:aa}{W:List D→DH→Prop}{Q:List V→Hp→Prop}(e0:Ext B.H B.F H F)(he:EnvR K H F ρ σ)(r:R K H F G)(hw:aL Φ x E ρ G W)
  (h:∀d G1 H1 F1 v,W d G1→Ext B.H B.F H1 F1→Ext H F H1 F1→EnvR K H1 F1 ρ σ→R K H1 F1 G1→Reps K H1 F1 d v→Q v H1):tL K B (aL Φ x E) σ H Q:=
 ⟨ρ,F,G,e0,he,r,cN x (fun d G1 q H1 F1 v x1 r1 rv=>h d G1 H1 F1 v q (e0.trans x1) x1 (he.ext x1) r1 rv) hw⟩
theorem il{K:PySem.W.Frag}{x:Tx}{σ:L2.St}{H:Hp}{F:FZ}{G:DH}{ρ:aa}{W:Bool→DH→Prop}{Q:Bool→Hp→Prop}(e0:Ext B.H B.F H F)(he:EnvR K H F ρ σ)(r:R K H F G)(hw:wpT Φ x E ρ G W)
  (h:∀d G1 H1 F1,W d G1→Ext B.H B.F H1 F1→Ext H F H1 F1→EnvR K H1 F1 ρ σ→R K H1 F1 G1→Q d H1):tB' K B (wpT Φ x E) σ H Q:=
 ⟨ρ,F,G,e0,he,r,cC x (fun d G1 q H1 F1 x1 r1=>h d G1 H1 F1 q (e0.trans x1) x1 (he.ext x1) r1) hw⟩
theorem yK{K:PySem.W.Frag}{x:Ox}{σ:L2.St}{H:Hp}{F:FZ}{G:DH}{ρ:aa}{W:Option Int→DH→Prop}{Q:Option Int→Hp→Prop}(e0:Ext B.H B.F H F)(he:EnvR K H F ρ σ)(r:R K H F G)(hw:wpO Φ x E ρ G W)
  (h:∀d G1 H1 F1,W d G1→Ext B.H B.F H1 F1→Ext H F H1 F1→EnvR K H1 F1 ρ σ→R K H1 F1 G1→Q d H1):yJ K B (wpO Φ x E) σ H Q:=
 ⟨ρ,F,G,e0,he,r,rB x (fun d G1 q H1 F1 x1 r1=>h d G1 H1 F1 q (e0.trans x1) x1 (he.ext x1) r1) hw⟩
theorem PV.later{K:PySem.W.Frag}{H H1:Hp}{F F1:FZ}{Q:VK}{d:D}{G:DH}(h:PV K H F Q d G)(x:Ext H F H1 F1):PV K H1 F1 Q d G:=fun H' F' v x1=>h H' F' v (x.trans x1)
theorem PB.later{K:PySem.W.Frag}{H H1:Hp}{F F1:FZ}{Q:Bool→Hp→Prop}{d:Bool}{G:DH}(h:PB K H F Q d G)(x:Ext H F H1 F1):PB K H1 F1 Q d G:=fun H' F' x1=>h H' F' (x.trans x1)
theorem PB.now{K:PySem.W.Frag}{H:Hp}{F:FZ}{Q:Bool→Hp→Prop}{d:Bool}{G:DH}(h:PB K H F Q d G)(r:R K H F G):Q d H:=h H F (Ext.refl H F) r
theorem ir(S:Stat Φ CX k c E B X):X.A.units+100 < cLine:=by have:=S.room.un;omega
theorem bB {x:Str} (h:okN x=true):(x==("__debug__":Str))=false:=by
 unfold okN at h
 cases e:x==("__debug__":Str) with
 |false=>rfl
 |true=>rw[e]at h;simp at h
theorem yL {x:Str} (h:okN x=true):(x==("__classdict__":Str))=false:=by
 unfold okN at h
 cases e:x==("__classdict__":Str) with
 |false=>rfl
 |true=>rw[e]at h;simp at h
theorem dF {x:Str} (h:okN x=true):x≠"__name__":=by
 unfold okN at h
 intro e
 rw[beq_iff_eq.mpr e]at h
 simp at h
theorem cG{x:Str}(h:c.glo x=true):c.kd.lookup x=some .globalImplicit∧okN x=true:=by
 unfold CT.glo at h
 rw[Bool.and_eq_true,beq_iff_eq]at h
 exact h
theorem R7(S:Stat Φ CX k c E B X){i:Nat}{e:Expr}(h:ak c (.var i) e=true):PE X e (tE X.K B (wpE Φ (.var i) E)):=by
 replace h:=yd h
 obtain ⟨x,pos,rfl,h⟩:=h
 ·rw[Bool.and_eq_true,Bool.and_eq_true,beq_iff_eq]at h
  refine peI (uL (i:=i) (by rw[S.N];exact h.1.1) (S.vis x h.1.2) (bB h.2) (yL h.2)) fun σ H Q q=>?_
  obtain ⟨ρ,F,G,_,he,r,hw⟩:=q
  rw[mj]at hw
  split at hw
  ·rename_i d hd
   obtain ⟨v,e1,rv⟩:=he.get hd
   exact ⟨v,e1,hw.now r rv⟩
  ·exact hw.elim
theorem R8(S:Stat Φ CX k c E B X){d:D}{e:Expr}(h:ak c (.cst d) e=true):PE X e (tE X.K B (wpE Φ (.cst d) E)):=by
 replace h:=ye h
 obtain ⟨kk,_,_,rfl,h⟩:=h
 ·unfold nZ at h
  split at h
  ·exact peI JQ fun σ H Q hq=>el hq fun ρ F G _ he r hw=>by rw[fU]at hw;exact hw.now r rfl
  ·rw[beq_iff_eq]at h
   subst h
   exact peI uM fun σ H Q hq=>el hq fun ρ F G _ he r hw=>by rw[fU]at hw;exact hw.now r rfl
  ·rw[beq_iff_eq]at h
   subst h
   exact peI JP fun σ H Q hq=>el hq fun ρ F G _ he r hw=>by rw[fU]at hw;exact hw.now r rfl
  ·rename_i l b
   rw[Bool.and_eq_true,beq_iff_eq,decide_eq_true_iff]at h
   refine peI uN fun σ H Q hq=>el hq fun ρ F G _ he r hw=>?_
   rw[fU]at hw
   refine hw.now r ⟨?_,h.2⟩
   rw[h.1,←vQ]
  ·cases h
theorem R9(S:Stat Φ CX k c E B X){x:String}{d:D}{e:Expr}(h:ak c (.glb x d) e=true):PE X e (tE X.K B (wpE Φ (.glb x d) E)):=by
 replace h:=yf h
 obtain ⟨y,pos,rfl,h⟩:=h
 ·rw[Bool.and_eq_true,Bool.and_eq_true,beq_iff_eq,List.any_eq_true]at h
  obtain ⟨⟨e1,h1⟩,⟨x',d'⟩,hm,h2⟩:=h
  rw[Bool.and_eq_true,beq_iff_eq]at h2
  obtain ⟨e2,e3⟩:=h2
  have e3:=Rw e3
  simp only at e2 e3
  subst e1 e2 e3
  obtain ⟨g1,g2⟩:=cG h1
  obtain ⟨u,v,hu,ru,hr⟩:=S.con _ _ hm
  exact peI (JR (S.glo _ g1) hu ru (bB g2)) fun σ H Q hq=>el hq fun ρ F G _ he r hw=>by rw[mq]at hw;exact hw.now r (hr H F)
theorem Sd(S:Stat Φ CX k c E B X){op:Operator}{fz:Bool}{a b:Ex}(iha:∀{e},ak c a e=true→PE X e (tE X.K B (wpE Φ a E)))(ihb:∀{e},ak c b e=true→PE X e (tE X.K B (wpE Φ b E))){e:Expr}
  (h:ak c (.bin op fz a b) e=true):PE X e (tE X.K B (wpE Φ (.bin op fz a b) E)):=by
 replace h:=yg h
 obtain ⟨l,o,r,pos,rfl,h⟩:=h
 ·rw[Bool.and_eq_true,Bool.and_eq_true,beq_iff_eq]at h
  obtain ⟨⟨e1,h1⟩,h2⟩:=h
  subst e1
  refine peI (Lg (Qq _ fz) (iha h1) (ihb h2)) fun σ H Q hq=>el hq fun ρ F G e0 he r hw=>?_
  rw[my]at hw
  refine aH e0 he r hw fun x G1 H1 F1 v q e1 x1 he1 r1 rv=>aH e1 he1 r1 q fun y G2 H2 F2 u q e2 x2 he2 r2 ru=>?_
  exact ⟨F2,G2,x,y,r2,Rep.ext x2 rv,ru,wO (fun d G' z=>PV.later z (x1.trans x2)) q⟩
theorem Sg(S:Stat Φ CX k c E B X){a:Ex}(iha:∀{e},ak c a e=true→PE X e (tE X.K B (wpE Φ a E))){e:Expr}(h:ak c (.neg a) e=true):PE X e (tE X.K B (wpE Φ (.neg a) E)):=by
 replace h:=yh h
 obtain ⟨_,_,rfl,h⟩:=h
 ·refine peI (Lh Lq (iha h)) fun σ H Q hq=>el hq fun ρ F G e0 he r hw=>?_
  rw[mz]at hw
  refine aH e0 he r hw fun x G1 H1 F1 v q e1 x1 he1 r1 rv=>?_
  split at q
  ·have e2:v=.int _:=rv
   subst e2
   exact ⟨_,rfl,q _ _ _ x1 r1 rfl⟩
  ·exact q.elim
theorem yM(S:Stat Φ CX k c E B X){op:CmpOp}{a b:Ex}(iha:∀{e},ak c a e=true→PE X e (tE X.K B (wpE Φ a E)))(ihb:∀{e},ak c b e=true→PE X e (tE X.K B (wpE Φ b E))){e:Expr}
  (h:ak c (.cmp op a b) e=true):PE X e (tE X.K B (wpE Φ (.cmp op a b) E))∧PT X e (tB' X.K B (wpT Φ (.val (.cmp op a b)) E)):=by
 replace h:=yl h
 obtain ⟨l,o,r,pos,rfl,h⟩:=h
 ·rw[Bool.and_eq_true,Bool.and_eq_true,beq_iff_eq]at h
  obtain ⟨⟨e1,h1⟩,h2⟩:=h
  subst e1
  have hm:=yI (bA b h2) o
  refine ⟨peI (Lw (gY _ (ir S)) (iha h1) (ihb h2) hm) fun σ H Q hq=>el hq fun ρ F G e0 he r hw=>?_,ptI (Lx (gY _ (ir S)) (iha h1) (ihb h2) hm) fun σ H Q hq=>el hq fun ρ F G e0 he r hw=>?_⟩
  ·rw[mC]at hw
   refine aH e0 he r hw fun x G1 H1 F1 v q e1 x1 he1 r1 rv=>aH e1 he1 r1 q fun y G2 H2 F2 u q e2 x2 he2 r2 ru=>?_
   exact ⟨F2,G2,x,y,r2,Rep.ext x2 rv,ru,fV (fun d z=>PV.later z (x1.trans x2)) q⟩
  ·rw[wpT,wpE]at hw
   refine aH e0 he r hw fun x G1 H1 F1 v q e1 x1 he1 r1 rv=>aH e1 he1 r1 q fun y G2 H2 F2 u q e2 x2 he2 r2 ru=>?_
   refine ⟨F2,G2,x,y,r2,Rep.ext x2 rv,ru,fV (fun d z=>?_) q⟩
   intro H' F' v' x' r' rv'
   have e3:v'=.bl d:=rv'
   exact ⟨d,e3,z H' F' ((x1.trans x2).trans x') r'⟩
theorem yN(S:Stat Φ CX k c E B X){op op':CmpOp}{a b d:Ex}(iha:∀{e},ak c a e=true→PE X e (tE X.K B (wpE Φ a E)))(ihb:∀{e},ak c b e=true→PE X e (tE X.K B (wpE Φ b E)))(ihd:∀{e},ak c d e=true→PE X e (tE X.K B (wpE Φ d E))){e:Expr}
  (h:ak c (.chn op op' a b d) e=true):PE X e (tE X.K B (wpE Φ (.chn op op' a b d) E))∧PT X e (tB' X.K B (wpT Φ (.val (.chn op op' a b d)) E)):=by
 replace h:=ym h
 obtain ⟨l,o,o',m,r,pos,rfl,h⟩:=h
 ·simp only[Bool.and_eq_true,beq_iff_eq]at h
  obtain ⟨⟨⟨⟨e1,e2⟩,h1⟩,h2⟩,h3⟩:=h
  subst e1 e2
  have hm:lastMarks [o,o'] [m,r]=false:=yI (bA d h3) o'
  have go:∀{σ H Q ρ F G}{W:Bool→DH→Prop},Ext B.H B.F H F→EnvR X.K H F ρ σ→R X.K H F G→
    wpE Φ a E ρ G (fun x G1=>wpE Φ b E ρ G1 fun y G2=>aP o (view G2 x) (view G2 y) fun t=>match t with |true=>wpE Φ d E ρ G2 fun z G3=>aP o' (view G3 y) (view G3 z) fun t'=>W t' G3 |false=>W false G2)→
    (∀t G' H' F',W t G'→Ext H F H' F'→R X.K H' F' G'→Q (.bl t) H')→
    p7 (rC2 X.K (aP o)) (rC2 X.K (aP o')) (tE X.K B (wpE Φ a E)) (tE X.K B (wpE Φ b E)) (tE X.K B (wpE Φ d E)) σ H Q:=by
   intro σ H Q ρ F G W e0 he r hw fin
   refine aH e0 he r hw fun x G1 H1 F1 v q e1 x1 he1 r1 rv=>aH e1 he1 r1 q fun y G2 H2 F2 u q e2 x2 he2 r2 ru=>?_
   refine ⟨F2,G2,x,y,r2,Rep.ext x2 rv,ru,fV (fun t q=>?_) q⟩
   intro H3 F3 v3 x3 r3 rv3
   have e3:v3=.bl t:=rv3
   refine ⟨t,e3,?_⟩
   cases t with
   |true=>
    rw[if_pos rfl]
    refine aH (e2.trans x3) (he2.ext x3) r3 q fun z G4 H4 F4 v4 q e4 x4 he4 r4 rv4=>?_
    refine ⟨F4,G4,y,z,r4,Rep.ext (x3.trans x4) ru,rv4,fV (fun t' q=>?_) q⟩
    intro H5 F5 v5 x5 r5 rv5
    have e5:v5=.bl t':=rv5
    subst e5
    exact fin _ _ _ _ q ((((x1.trans x2).trans x3).trans x4).trans x5) r5
   |false=>
    rw[if_neg Bool.false_ne_true]
    exact fin _ _ _ _ q ((x1.trans x2).trans x3) r3
  refine ⟨peI (Ly (gY _ (ir S)) (gY _ (ir S)) (iha h1) (ihb h2) (ihd h3) hm) fun σ H Q hq=>el hq fun ρ F G e0 he r hw=>?_,ptI (Lz (gY _ (ir S)) (gY _ (ir S)) (iha h1) (ihb h2) (ihd h3) hm) fun σ H Q hq=>el hq fun ρ F G e0 he r hw=>?_⟩
  ·rw[mD]at hw
   exact go (W:=fun t G'=>PV X.K H F Q (.bl t) G') e0 he r hw fun t G' H' F' z x' r'=>z H' F' _ x' r' rfl
  ·rw[wpT,wpE]at hw
   refine go (W:=fun t G'=>PB X.K H F Q t G') e0 he r hw fun t G' H' F' z x' r'=>⟨t,rfl,z H' F' x' r'⟩
end
end RF
namespace RF
open PySem PySem.Spec PyProof.Rows L2
section
variable {Φ:aj} {CX:CXT} {k:Nat} {c:CT} {E:EK} {B:Bs} {X:Cx}
abbrev OkE(Φ:aj)(c:CT)(E:EK)(B:Bs)(X:Cx)(x:Ex):Prop:=∀{e:Expr},ak c x e=true→PE X e (tE X.K B (wpE Φ x E))
abbrev fj(Φ:aj)(c:CT)(E:EK)(B:Bs)(X:Cx)(x:Exs):Prop:=∀{es:List Expr},aB c x es=true→PA X es (tL X.K B (aL Φ x E))
abbrev OkT(Φ:aj)(c:CT)(E:EK)(B:Bs)(X:Cx)(x:Tx):Prop:=∀{e:Expr},bc c x e=true→PT X e (tB' X.K B (wpT Φ x E))
theorem Sh(S:Stat Φ CX k c E B X){a:Ex}(iha:OkE Φ c E B X a){e:Expr}(h:ak c (.not a) e=true):PE X e (tE X.K B (wpE Φ (.not a) E)):=by
 replace h:=yj h
 obtain ⟨_,_,rfl,h⟩:=h
 ·intro pins s σ H Q I q
  obtain ⟨ρ,F,G,e0,he,r,hw⟩:=q
  rw[mF]at hw
  have q':tE X.K B (wpE Φ a E) σ H (fun x H1=>∃b,lq X.K x H1 b∧Q (.bl (!b)) H1):=aH e0 he r hw fun x G1 H1 F1 v q e1 x1 he1 r1 rv=>by
   split at q
   ·rename_i b hb
    exact ⟨b,xq r1 rv hb,q _ _ _ x1 r1 rfl⟩
   ·exact q.elim
  refine UnaryOp_ (thn (iha h pins s σ H _ I q') fun v s1 ⟨x,H1,I1,r1,b,tb,q1⟩=>?_)
  refine not_of (thn (uY pins s1 σ H1 x v (fun b' H'=>Q (.bl (!b')) H') I1 r1 ⟨b,tb,q1⟩) fun b' s2 ⟨H2,I2,q2⟩=>?_)
  exact ⟨.bl (!b'),H2,I2,rfl,q2⟩
theorem su{es:List Expr}(h:aB c .nil es=true):PA X es (tL X.K B (aL Φ .nil E)):=by
 unfold aB at h
 cases es with
 |nil=>exact paI iK fun σ H Q hq=>el hq fun ρ F G e0 he r hw=>by rw[fQ]at hw;exact hw H F [] (Ext.refl _ _) r rfl
 |cons _ _=>cases h
theorem oK{x:Ex}{xs:Exs}(ih:OkE Φ c E B X x)(ihs:fj Φ c E B X xs){es:List Expr}(h:aB c (.cons x xs) es=true):PA X es (tL X.K B (aL Φ (.cons x xs) E)):=by
 unfold aB at h
 split at h
 ·rename_i e es
  rw[Bool.and_eq_true]at h
  refine paI (gw (ih h.1) (ihs h.2) (bQ e es X.env (cg (bA x h.1)))) fun σ H Q hq=>el hq fun ρ F G e0 he r hw=>?_
  rw[eU]at hw
  refine aH e0 he r hw fun d G1 H1 F1 v q e1 x1 he1 r1 rv=>bV e1 he1 r1 q fun ds G2 H2 F2 vs q e2 x2 he2 r2 rvs=>?_
  exact q H2 F2 _ (x1.trans x2) r2 ⟨v,vs,rfl,Rep.ext x2 rv,rvs⟩
 ·cases h
theorem Sq(S:Stat Φ CX k c E B X){es:Exs}(ih:fj Φ c E B X es){e:Expr}(h:ak c (.tup es) e=true):PE X e (tE X.K B (wpE Φ (.tup es) E)):=by
 replace h:=yp h
 obtain ⟨_,_,_,rfl,h⟩:=h
 ·refine peI (Mm (ih h)) fun σ H Q hq=>el hq fun ρ F G e0 he r hw=>?_
  rw[mH]at hw
  refine bV e0 he r hw fun ds G1 H1 F1 vs q e1 x1 he1 r1 rvs=>⟨by rw[←rvs.length];exact cP q.1,iZ (PV.later q.2 x1) r1 rvs⟩
theorem Ss(S:Stat Φ CX k c E B X){fz:Bool}{es:Exs}(ih:fj Φ c E B X es){e:Expr}(h:ak c (.lst fz es) e=true):PE X e (tE X.K B (wpE Φ (.lst fz es) E)):=by
 replace h:=yq h
 obtain ⟨_,_,rfl,h⟩:=h
 ·refine peI (Mp (ih h)) fun σ H Q hq=>el hq fun ρ F G e0 he r hw=>?_
  rw[mJ]at hw
  refine bV e0 he r hw fun ds G1 H1 F1 vs q e1 x1 he1 r1 rvs=>⟨by rw[←rvs.length];exact cP q.1,eV (dB (fun d G' z=>PV.later z x1) q.2) r1 rvs⟩
theorem Su(S:Stat Φ CX k c E B X){a i:Ex}(iha:OkE Φ c E B X a)(ihi:OkE Φ c E B X i){e:Expr}(h:ak c (.idx a i) e=true):PE X e (tE X.K B (wpE Φ (.idx a i) E)):=by
 replace h:=yr h
 obtain ⟨_,_,_,rfl,h⟩:=h
 ·rw[Bool.and_eq_true]at h
  refine peI (M6 Qy (iha h.1) (ihi h.2) (R5 (bA i h.2))) fun σ H Q hq=>el hq fun ρ F G e0 he r hw=>?_
  rw[mK]at hw
  refine aH e0 he r hw fun x G1 H1 F1 v q e1 x1 he1 r1 rv=>aH e1 he1 r1 q fun y G2 H2 F2 u q e2 x2 he2 r2 ru=>?_
  exact ⟨F2,G2,x,y,r2,Rep.ext x2 rv,ru,rm (fun d z=>PV.later z (x1.trans x2)) q⟩
theorem yO{lo:Ox}(ih:∀x,lo=.ob x→OkE Φ c E B X x){l:Option Expr}(h:d8 c lo l=true):PO X l (yJ X.K B (wpO Φ lo E)):=by
 cases lo with
 |no=>
  unfold d8 at h
  cases l with
  |none=>
   intro pins s σ H Q I q
   refine MK pins s σ H Q I ?_
   obtain ⟨ρ,F,G,e0,he,r,hw⟩:=q
   rw[lU]at hw
   exact hw H F (Ext.refl _ _) r
  |some _=>cases h
 |ob x=>
  unfold d8 at h
  split at h
  ·intro pins s σ H Q I q
   refine MN (ih x rfl h) pins s σ H Q I ?_
   obtain ⟨ρ,F,G,e0,he,r,hw⟩:=q
   rw[lV]at hw
   refine aH e0 he r hw fun d G1 H1 F1 v q e1 x1 he1 r1 rv=>?_
   split at q
   ·have e2:v=.int _:=rv
    exact ⟨_,e2,q H1 F1 x1 r1⟩
   ·exact q.elim
  ·cases h
theorem Sv(S:Stat Φ CX k c E B X){fz:Bool}{a:Ex}{lo hi:Ox}(iha:OkE Φ c E B X a)(ihl:∀x,lo=.ob x→OkE Φ c E B X x)(ihh:∀x,hi=.ob x→OkE Φ c E B X x){e:Expr}(h:ak c (.slc fz a lo hi) e=true):
  PE X e (tE X.K B (wpE Φ (.slc fz a lo hi) E)):=by
 replace h:=yt h
 obtain ⟨_,_,_,_,_,rfl,h⟩:=h
 ·rw[Bool.and_eq_true,Bool.and_eq_true]at h
  refine peI (MP (QG fz) (iha h.1.1) (yO ihl h.1.2) (yO ihh h.2)) fun σ H Q hq=>el hq fun ρ F G e0 he r hw=>?_
  rw[mL]at hw
  refine aH e0 he r hw fun x G1 H1 F1 v q e1 x1 he1 r1 rv=>yK e1 he1 r1 q fun l G2 H2 F2 q e2 x2 he2 r2=>yK e2 he2 r2 q fun u G3 H3 F3 q e3 x3 he3 r3=>?_
  exact ⟨F3,G3,x,r3,Rep.ext (x2.trans x3) rv,wR (fun d G' z=>PV.later z ((x1.trans x2).trans x3)) q⟩
theorem Sw(S:Stat Φ CX k c E B X){fz:Bool}{a s:Ex}(iha:OkE Φ c E B X a)(ihs:OkE Φ c E B X s){e:Expr}(h:ak c (.rvs fz a s) e=true):PE X e (tE X.K B (wpE Φ (.rvs fz a s) E)):=nomatch (show false=true from h)
theorem Sy(S:Stat Φ CX k c E B X){a:Ex}(iha:OkE Φ c E B X a){e:Expr}(h:ak c (.frz a) e=true):PE X e (tE X.K B (wpE Φ (.frz a) E)):=by
 have h:ak c a e=true:=h
 refine peI (iha h) fun σ H Q hq=>el hq fun ρ F G e0 he r hw=>?_
 rw[mV]at hw
 refine aH e0 he r hw fun x G1 H1 F1 v q e1 x1 he1 r1 rv=>?_
 split at q
 ·rename_i p
  have e2:v=.ref p:=rv
  subst e2
  split at q
  ·rename_i ds hg
   exact q _ _ _ (x1.trans qz) (r1.frz hg) (Qh r1 hg)
  ·exact q.elim
 ·exact q _ _ _ x1 r1 rv
theorem iu{es:List Expr}{xs:Exs}(h:aB c xs es=true)(env:Env)(pos:Pos):(backTo pos (starEach es env)).any (·.1)=false:=by
 induction es generalizing xs with
 |nil=>rfl
 |cons e es ih=>
  cases xs with
  |nil=>unfold aB at h;cases h
  |cons x xs=>
   unfold aB at h
   rw[Bool.and_eq_true]at h
   rw[bQ e es env (cg (bA x h.1))]
   show (false||(backTo pos (starEach es env)).any (·.1))=false
   rw[ih h.2];rfl
theorem gf{e:Expr}{es:List Expr}{xs:Exs}(h:aB c xs (e::es)=true):∃x xs',xs=.cons x xs'∧ak c x e=true∧aB c xs' es=true:=by
 cases xs with
 |nil=>unfold aB at h;cases h
 |cons x xs'=>
  unfold aB at h
  rw[Bool.and_eq_true]at h
  exact ⟨x,xs',rfl,h.1,h.2⟩
theorem oM{ρ:aa}:∀(xs:Exs){es:List Expr}{G:DH}{Q:List D→DH→Prop},aB c xs es=true→aL Φ xs E ρ G Q→aL Φ xs E ρ G (fun ds G'=>ds.length=es.length∧Q ds G')
 |.nil,es,G,Q,h,q=>by
  unfold aB at h
  rw[fQ]at q ⊢
  cases es with
  |nil=>exact ⟨rfl,q⟩
  |cons _ _=>cases h
 |.cons x xs,es,G,Q,h,q=>by
  unfold aB at h
  split at h
  ·rename_i e es
   rw[Bool.and_eq_true]at h
   rw[eU]at q ⊢
   refine aA x (fun d G1 q=>cN xs (fun ds G2 z=>?_) (oM xs h.2 q)) q
   exact ⟨by simp[z.1],z.2⟩
  ·cases h
theorem SJ(S:Stat Φ CX k c E B X){f:String}{xs:Exs}(ih:fj Φ c E B X xs){e:Expr}(h:ak c (.call f xs) e=true):PE X e (tE X.K B (wpE Φ (.call f xs) E)):=by
 replace h:=yu h
 obtain ⟨x,p,args,pos,rfl,h⟩:=h
 ·simp only[Bool.and_eq_true,beq_iff_eq,List.any_eq_true]at h
  obtain ⟨⟨⟨⟨e1,h1⟩,⟨f',n⟩,hm,e2,e3⟩,h2⟩,h3⟩:=h
  simp only at e2 e3
  subst e1 e2 e3
  obtain ⟨g1,g2⟩:=cG h1
  obtain ⟨fa,fd,ps,F0,hk,hb,hmg⟩:=S.call _ _ hm
  obtain ⟨EX,hpass,_,hEX⟩:=S.exc
  cases args with
  |nil=>cases h2
  |cons e es=>
   obtain ⟨x0,xs',rfl,c1,c2⟩:=gf h3
   refine peI (Ms F0 S.room (S.glo _ g1) hmg hk hb .nil hpass (ih h3) (bB g2) (bQ e es X.env (cg (bA x0 c1))) (iu c2 X.env pos)) fun σ H Q hq=>el hq fun ρ F G e0 he r hw=>?_
   rw[mO]at hw
   refine bV e0 he r (oM _ h3 hw) fun ds G1 H1 F1 vs q e1 x1 he1 r1 rvs=>?_
   rw[List.append_nil]
   refine ⟨by rw[←rvs.length];exact q.1,F1,G1,ds,r1,rvs,Spec.mono q.2 (fun d G' z=>PV.later z x1) fun x G' z H' F' x' r'=>?_⟩
   exact hEX x G' H' F' z (e1.trans x') r'
theorem SM(S:Stat Φ CX k c E B X){f:Bf}{xs:Exs}(ih:fj Φ c E B X xs){e:Expr}(h:ak c (.bcl f xs) e=true):PE X e (tE X.K B (wpE Φ (.bcl f xs) E)):=by
 replace h:=yw h
 obtain ⟨x,p,args,pos,rfl,h⟩:=h
 ·simp only[Bool.and_eq_true,beq_iff_eq]at h
  obtain ⟨⟨⟨⟨⟨e1,hok⟩,h1⟩,hm⟩,h2⟩,h3⟩:=h
  subst e1
  obtain ⟨g1,g2⟩:=cG h1
  have hmg:=S.blt _ (List.contains_iff_mem.mp hm)
  cases args with
  |nil=>cases h2
  |cons e es=>
   obtain ⟨x0,xs',rfl,c1,c2⟩:=gf h3
   have hs:=bQ e es X.env (cg (bA x0 c1))
   have ha:=iu c2 X.env pos
   have go:∀σ H Q,tE X.K B (wpE Φ (.bcl f (.cons x0 xs')) E) σ H Q→tCB (gZ X.K f) (tL X.K B (aL Φ (.cons x0 xs') E)) σ H Q:=fun σ H Q hq=>el hq fun ρ F G e0 he r hw=>by
    rw[mQ]at hw
    refine bV e0 he r hw fun ds G1 H1 F1 vs q e1 x1 he1 r1 rvs=>?_
    exact ⟨F1,G1,ds,r1,rvs,wU (fun d z=>PV.later z x1) q⟩
   cases f with
   |len=>exact peI (p8 QH (S.glo _ g1) hmg PySem.boot_len (ih h3) (dF g2) (bB g2) hs ha) go
   |all=>exact peI (p8 (QJ S.calm) (S.glo _ g1) hmg Oh (ih h3) (dF g2) (bB g2) hs ha) go
   |int=>exact peI (lr QK (S.glo _ g1) hmg vU (ih h3) (dF g2) (bB g2) hs ha) go
   |tuple=>exact peI (lr QL (S.glo _ g1) hmg (by decide +kernel) (ih h3) (dF g2) (bB g2) hs ha) go
   |sum=>cases hok
   |min=>cases hok
   |max=>cases hok
   |str=>exact peI (lr QS (S.glo _ g1) hmg vV (ih h3) (dF g2) (bB g2) hs ha) go
theorem SN(S:Stat Φ CX k c E B X){fz:Bool}{f:Lf}{xs:Exs}(ih:fj Φ c E B X xs){e:Expr}(h:ak c (.lcl fz f xs) e=true):PE X e (tE X.K B (wpE Φ (.lcl fz f xs) E)):=by
 replace h:=yx h
 obtain ⟨x,p,args,pos,rfl,h⟩:=h
 ·simp only[Bool.and_eq_true,beq_iff_eq]at h
  obtain ⟨⟨⟨⟨⟨e1,hok⟩,h1⟩,hm⟩,h2⟩,h3⟩:=h
  subst e1
  obtain ⟨g1,g2⟩:=cG h1
  have hmg:=S.blt _ (List.contains_iff_mem.mp hm)
  cases args with
  |nil=>cases h2
  |cons e es=>
   obtain ⟨x0,xs',rfl,c1,c2⟩:=gf h3
   have hs:=bQ e es X.env (cg (bA x0 c1))
   have ha:=iu c2 X.env pos
   have go:∀σ H Q,tE X.K B (wpE Φ (.lcl fz f (.cons x0 xs')) E) σ H Q→tCB (xr X.K fz f) (tL X.K B (aL Φ (.cons x0 xs') E)) σ H Q:=fun σ H Q hq=>el hq fun ρ F G e0 he r hw=>by
    rw[mR]at hw
    refine bV e0 he r hw fun ds G1 H1 F1 vs q e1 x1 he1 r1 rvs=>?_
    exact ⟨F1,G1,ds,r1,rvs,wV (fun d z=>dB (fun d G' z=>PV.later z x1) z) q⟩
   cases f with
   |list=>exact peI (lr (QR S.calm fz) (S.glo _ g1) hmg vW (ih h3) (dF g2) (bB g2) hs ha) go
   |sorted=>cases hok
theorem SQ{t:String}(h:dW t=true):bootBuiltins (Str.ofString t)=some (.type t):=by
 simp only[dW,Bool.or_eq_true,beq_iff_eq]at h
 rcases h with (((rfl |rfl) |rfl) |rfl) |rfl
 ·exact Ob
 ·exact vU
 ·exact vV
 ·decide +kernel
 ·exact vW
theorem SX(S:Stat Φ CX k c E B X){a:Ex}{t:String}(iha:OkE Φ c E B X a){e:Expr}(h:ak c (.isi a t) e=true):PE X e (tE X.K B (wpE Φ (.isi a t) E)):=by
 replace h:=yz h
 obtain ⟨x,p,v,y,p2,pos,rfl,h⟩:=h
 ·simp only[Bool.and_eq_true,beq_iff_eq]at h
  obtain ⟨⟨⟨⟨⟨⟨⟨e1,h1⟩,hm1⟩,h2⟩,e2⟩,h3⟩,hm2⟩,h4⟩:=h
  subst e1 e2
  obtain ⟨g1,g2⟩:=cG h1
  obtain ⟨g3,g4⟩:=cG h3
  have hmg:=S.blt _ (List.contains_iff_mem.mp hm1)
  have hmt:=S.blt _ (List.contains_iff_mem.mp hm2)
  have hty:PE X (.Name (Str.ofString t) p2) (tC (.ty t)):=Od (S.glo _ g3) hmt (SQ h4) (dF g4) (bB g4)
  have sv:=cg (bA a h2)
  refine peI (p8 Oa (S.glo _ g1) hmg Oc (gw (iha h2) (gw hty iK (bQ _ _ _ rfl)) (bQ _ _ _ sv)) (dF g2) (bB g2) (bQ _ _ _ sv) rfl) fun σ H Q hq=>el hq fun ρ F G e0 he r hw=>?_
  rw[mU]at hw
  refine aH e0 he r hw fun d G1 H1 F1 v q e1 x1 he1 r1 rv=>?_
  split at q
  ·rename_i b hb
   obtain ⟨T,hk,hT,hb'⟩:=QX hb
   refine ⟨v,t,.type T,b,rfl,QT r1 rv hk,?_,q _ _ _ x1 r1 rfl⟩
   rw[QW T t hT h4,hb' h4]
  ·exact q.elim
theorem S5(S:Stat Φ CX k c E B X){a:Ex}{C:String}{xs:List String}(iha:OkE Φ c E B X a){e:Expr}(h:ak c (.isx a C xs) e=true):PE X e (tE X.K B (wpE Φ (.isx a C xs) E)):=nomatch (show false=true from h)
theorem S6{v:Expr}(h:(!n6 v)=true)(name:Str)(env:Env):attributeBase v name env (eval v env)=eval v env:=by
 cases v with
 |Call f args kw pos=>
  cases f with
  |Name id p=>
   cases args with
   |nil=>
    cases kw with
    |nil=>cases h
    |cons _ _=>rfl
   |cons _ _=>rfl
  |_=>rfl
 |_=>rfl
theorem all_plain{es:List Expr}{xs:Exs}(h:aB c xs es=true)(env:Env)(pos:Pos):(backTo pos (starEach es env)).all (fun x=>!x.1)=true:=by
 induction es generalizing xs with
 |nil=>rfl
 |cons e es ih=>
  obtain ⟨x0,xs',rfl,c1,c2⟩:=gf h
  rw[bQ e es env (cg (bA x0 c1))]
  show (!false&&(backTo pos (starEach es env)).all (fun x=>!x.1))=true
  rw[ih c2];rfl
theorem S7(S:Stat Φ CX k c E B X){m:Mf}{o:Ex}{xs:Exs}(iho:OkE Φ c E B X o)(ih:fj Φ c E B X xs){e:Expr}(h:ak c (.mth m o xs) e=true):PE X e (tE X.K B (wpE Φ (.mth m o xs) E)):=by
 replace h:=yC h
 obtain ⟨v,x,apos,args,cpos,rfl,h⟩:=h
 ·simp only[Bool.and_eq_true,beq_iff_eq,decide_eq_true_iff]at h
  obtain ⟨⟨⟨⟨⟨⟨e1,h1⟩,hb⟩,hl⟩,hn⟩,h2⟩,h3⟩:=h
  subst e1
  cases args with
  |nil=>cases h2
  |cons e es=>
   obtain ⟨x0,xs',rfl,c1,c2⟩:=gf h3
   have hs:=bQ e es X.env (cg (bA x0 c1))
   have ha:=iu c2 X.env cpos
   have hbase:=S6 hb (Str.ofString m.name) X.env
   have hfew:((backTo cpos (starEach (e::es) X.env)).all (fun x=>!x.1)&&(backToKw cpos (keywordEach [] X.env)).all (fun x=>x.1.isSome)
    &&decide ((e::es).length+([]:List Keyword).length+(if ([]:List Keyword).isEmpty then 0 else 1) < 30))=true:=by
    rw[all_plain h3 X.env cpos]
    have:(e::es).length+([]:List Keyword).length+(if ([]:List Keyword).isEmpty then 0 else 1) < 30:=by
     have e0:(if ([]:List Keyword).isEmpty=true then 0 else 1)=0:=rfl
     rw[e0];show (e::es).length+0+0 < 30;omega
    rw[decide_eq_true this];rfl
   have hline:(apos.endLine==cpos.line)=true:=by rw[beq_iff_eq];exact hl
   have lst:∀{d:D} {u:V} {G1:DH} {H1:Hp} {F1:FZ},(match d with |.ref p=>(match G1 p with |some (.lst _)=>True |none=>False) |_=>False)→R X.K H1 F1 G1→Rep X.K H1 F1 d u→tyV X.K "list" u H1:=fun {d u G1 H1 F1} q r1 ru=>by
    split at q
    ·rename_i p
     split at q
     ·rename_i ds hg
      obtain ⟨vs,hv,_⟩:=r1.lst hg
      have e2:u=.ref p:=ru
      subst e2
      exact .inl ⟨rfl,vs,SqL.of hv⟩
     ·exact q.elim
    ·exact q.elim
   have lstV:∀{d:D} {u:V} {G1:DH} {H1:Hp} {F1:FZ},qK (view G1 d)→R X.K H1 F1 G1→Rep X.K H1 F1 d u→tyV X.K "list" u H1:=fun {d u G1 H1 F1} q r1 ru=>by
    generalize hv:view G1 d=w at q
    cases w with
    |lst ds=>
     obtain ⟨a,vs,rfl,sq,_⟩:=Rep.list r1 ru hv
     exact .inl ⟨rfl,vs,sq⟩
    |_=>exact (show False from q).elim
   cases m with
   |join=>
    refine peI (gB PySem.F.plainAttrs_str PySem.F.slot_str_join PySem.F.type_str_join QZ (iho h1) (ih h3) hbase hfew hline hs ha) fun σ H Q hq=>el hq fun ρ F G e0 he r hw=>?_
    rw[dZ]at hw
    refine aH e0 he r hw fun d G1 H1 F1 u q e1 x1 he1 r1 ru=>⟨?_,bV e1 he1 r1 q.2 fun ds G2 H2 F2 vs q e2 x2 he2 r2 rvs=>?_⟩
    ·have q1:=q.1
     cases d with
     |str l=>obtain ⟨e2,_⟩:=ru;subst e2;exact rfl
     |_=>exact (show False from q1).elim
    ·exact ⟨F2,G2,d,ds,r2,Rep.ext x2 ru,rvs,fW (fun d G' z=>PV.later z (x1.trans x2)) q⟩
   |append=>
    refine peI (gB PySem.F.plainAttrs_list PySem.F.slot_list_append PySem.F.type_list_append Q0 (iho h1) (ih h3) hbase hfew hline hs ha) fun σ H Q hq=>el hq fun ρ F G e0 he r hw=>?_
    rw[dZ]at hw
    refine aH e0 he r hw fun d G1 H1 F1 u q e1 x1 he1 r1 ru=>⟨?_,bV e1 he1 r1 q.2 fun ds G2 H2 F2 vs q e2 x2 he2 r2 rvs=>?_⟩
    ·refine lst (d:=d) (G1:=G1) ?_ r1 ru
     have q1:=q.1
     cases d <;> first |exact q1 |exact (show False from q1).elim
    ·exact ⟨F2,G2,d,ds,r2,Rep.ext x2 ru,rvs,fW (fun d G' z=>PV.later z (x1.trans x2)) q⟩
   |extend=>
    refine peI (gB PySem.F.plainAttrs_list PySem.F.slot_list_extend PySem.F.type_list_extend Rb (iho h1) (ih h3) hbase hfew hline hs ha) fun σ H Q hq=>el hq fun ρ F G e0 he r hw=>?_
    rw[dZ]at hw
    refine aH e0 he r hw fun d G1 H1 F1 u q e1 x1 he1 r1 ru=>⟨?_,bV e1 he1 r1 q.2 fun ds G2 H2 F2 vs q e2 x2 he2 r2 rvs=>?_⟩
    ·refine lst (d:=d) (G1:=G1) ?_ r1 ru
     have q1:=q.1
     cases d <;> first |exact q1 |exact (show False from q1).elim
    ·exact ⟨F2,G2,d,ds,r2,Rep.ext x2 ru,rvs,fW (fun d G' z=>PV.later z (x1.trans x2)) q⟩
   |insert=>
    refine peI (gB PySem.F.plainAttrs_list PySem.F.slot_list_insert PySem.F.type_list_insert Q9 (iho h1) (ih h3) hbase hfew hline hs ha) fun σ H Q hq=>el hq fun ρ F G e0 he r hw=>?_
    rw[dZ]at hw
    refine aH e0 he r hw fun d G1 H1 F1 u q e1 x1 he1 r1 ru=>⟨?_,bV e1 he1 r1 q.2 fun ds G2 H2 F2 vs q e2 x2 he2 r2 rvs=>?_⟩
    ·refine lst (d:=d) (G1:=G1) ?_ r1 ru
     have q1:=q.1
     cases d <;> first |exact q1 |exact (show False from q1).elim
    ·exact ⟨F2,G2,d,ds,r2,Rep.ext x2 ru,rvs,fW (fun d G' z=>PV.later z (x1.trans x2)) q⟩
   |count=>
    refine peI (gB PySem.F.plainAttrs_list PySem.F.slot_list_count PySem.F.type_list_count Q3 (iho h1) (ih h3) hbase hfew hline hs ha) fun σ H Q hq=>el hq fun ρ F G e0 he r hw=>?_
    rw[dZ]at hw
    refine aH e0 he r hw fun d G1 H1 F1 u q e1 x1 he1 r1 ru=>⟨lstV q.1 r1 ru,bV e1 he1 r1 q.2 fun ds G2 H2 F2 vs q e2 x2 he2 r2 rvs=>?_⟩
    exact ⟨F2,G2,d,ds,r2,Rep.ext x2 ru,rvs,fW (fun d G' z=>PV.later z (x1.trans x2)) q⟩
   |index=>
    refine peI (gB PySem.F.plainAttrs_list PySem.F.slot_list_index PySem.F.type_list_index Q4 (iho h1) (ih h3) hbase hfew hline hs ha) fun σ H Q hq=>el hq fun ρ F G e0 he r hw=>?_
    rw[dZ]at hw
    refine aH e0 he r hw fun d G1 H1 F1 u q e1 x1 he1 r1 ru=>⟨lstV q.1 r1 ru,bV e1 he1 r1 q.2 fun ds G2 H2 F2 vs q e2 x2 he2 r2 rvs=>?_⟩
    exact ⟨F2,G2,d,ds,r2,Rep.ext x2 ru,rvs,fW (fun d G' z=>PV.later z (x1.trans x2)) q⟩
end
end RF
namespace RF
open PySem PySem.Spec PyProof.Rows L2
section
variable {Φ:aj} {CX:CXT} {k:Nat} {c:CT} {E:EK} {B:Bs} {X:Cx}
def EachE(Φ:aj)(c:CT)(E:EK)(B:Bs)(X:Cx):Exs→Prop
 |.nil=>True
 |.cons e es=>OkE Φ c E B X e∧EachE Φ c E B X es
def oN(Φ:aj)(c:CT)(E:EK)(B:Bs)(X:Cx):Txs→Prop
 |.nil=>True
 |.cons e es=>OkT Φ c E B X e∧oN Φ c E B X es
theorem S8(S:Stat Φ CX k c E B X){es:Exs}(ih:EachE Φ c E B X es){e:Expr}(h:ak c (.fst es) e=true):PE X e (tE X.K B (wpE Φ (.fst es) E)):=nomatch (show false=true from h)
theorem EachE.oks:∀{xs:Exs},EachE Φ c E B X xs→fj Φ c E B X xs
 |.nil,_=>by intro h;exact su h
 |.cons x xs,hh=>by intro h;exact oK hh.1 (EachE.oks hh.2) h
def oO(Φ:aj)(E:EK)(isAnd:Bool)(x:Ex)(xs:Exs):aa→DH→(D→DH→Prop)→Prop:=fun ρ G kk=>wpE Φ x E ρ G fun d G1=>match d with |.bl b=>wpB Φ xs isAnd b E ρ G1 (fun c G2=>kk (.bl c) G2) |_=>False
theorem yP{isAnd:Bool}{pos:Pos}:∀(xs:Exs){x:Ex},OkE Φ c E B X x→EachE Φ c E B X xs→∀{v:Expr}{vs:List Expr},ak c x v=true→aB c xs vs=true→
  PE X (.BoolOp (if isAnd then .And else .Or) (v::vs) pos) (tE X.K B (oO Φ E isAnd x xs))
 |.nil,x,ih,_,v,vs,h1,h2=>by
  unfold aB at h2
  cases vs with
  |nil=>
   refine peI (J8 (ih h1)) fun σ H Q hq=>el hq fun ρ F G e0 he r hw=>?_
   unfold oO at hw
   refine aH e0 he r hw fun d G1 H1 F1 u q e1 x1 he1 r1 ru=>?_
   split at q
   ·rw[lQ]at q
    exact q _ _ _ x1 r1 ru
   ·exact q.elim
  |cons _ _=>cases h2
 |.cons y ys,x,ih,hh,v,vs,h1,h2=>by
  unfold aB at h2
  split at h2
  ·rename_i w ws
   rw[Bool.and_eq_true]at h2
   have rest:=yP (isAnd:=isAnd) (pos:=pos) ys hh.1 hh.2 h2.1 h2.2
   cases isAnd with
   |true=>
    refine peI (J9 (ih h1) rest) fun σ H Q hq=>el hq fun ρ F G e0 he r hw=>?_
    unfold oO at hw
    refine aH e0 he r hw fun d G1 H1 F1 u q e1 x1 he1 r1 ru=>?_
    split at q
    ·rename_i b
     refine ⟨b,ru,?_⟩
     rw[iT]at q
     cases b with
     |true=>
      rw[if_pos rfl]
      exact ⟨ρ,F1,G1,e1,he1,r1,aA y (fun d G' z=>by
       cases d <;> first |exact (show False from z).elim |exact nH ys (fun c G2 z=>PV.later z x1) z) q⟩
     |false=>
      rw[if_neg Bool.false_ne_true]
      exact q _ _ _ x1 r1 rfl
    ·exact q.elim
   |false=>
    refine peI (Ka (ih h1) rest) fun σ H Q hq=>el hq fun ρ F G e0 he r hw=>?_
    unfold oO at hw
    refine aH e0 he r hw fun d G1 H1 F1 u q e1 x1 he1 r1 ru=>?_
    split at q
    ·rename_i b
     refine ⟨b,ru,?_⟩
     rw[iT]at q
     cases b with
     |false=>
      rw[if_neg Bool.false_ne_true]
      exact ⟨ρ,F1,G1,e1,he1,r1,aA y (fun d G' z=>by
       cases d <;> first |exact (show False from z).elim |exact nH ys (fun c G2 z=>PV.later z x1) z) q⟩
     |true=>
      rw[if_pos rfl]
      exact q _ _ _ x1 r1 rfl
    ·exact q.elim
  ·cases h2
theorem S9{isAnd:Bool}{x:Ex}{xs:Exs}(ih:OkE Φ c E B X x)(hh:EachE Φ c E B X xs){e:Expr}(h:ak c (.boo isAnd x xs) e=true):PE X e (tE X.K B (wpE Φ (.boo isAnd x xs) E)):=by
 replace h:=yo h
 obtain ⟨_,_,_,_,rfl,h⟩:=h
 ·simp only[Bool.and_eq_true,beq_iff_eq]at h
  obtain ⟨⟨e1,h1⟩,h2⟩:=h
  subst e1
  refine peI (yP xs ih hh h1 h2) fun σ H Q hq=>el hq fun ρ F G e0 he r hw=>⟨ρ,F,G,e0,he,r,?_⟩
  rw[mG]at hw
  exact hw
theorem Tc{t:Tx}{a b:Ex}(iht:OkT Φ c E B X t)(iha:OkE Φ c E B X a)(ihb:OkE Φ c E B X b){e:Expr}(h:ak c (.ife t a b) e=true):PE X e (tE X.K B (wpE Φ (.ife t a b) E)):=nomatch (show false=true from h)
theorem Td{x:Ex}(ih:OkE Φ c E B X x){e:Expr}(hp:fZ e=true)(h:ak c x e=true):PT X e (tB' X.K B (wpT Φ (.val x) E)):=by
 refine ptI (LK (ih h) (R6 hp X.env)) fun σ H Q hq=>el hq fun ρ F G e0 he r hw=>?_
 rw[lO]at hw
 refine aH e0 he r hw fun d G1 H1 F1 u q e1 x1 he1 r1 ru=>?_
 split at q
 ·rename_i b hb
  exact ⟨b,xq r1 ru hb,q _ _ x1 r1⟩
 ·exact q.elim
theorem Te{t:Tx}(ih:OkT Φ c E B X t){e:Expr}(h:bc c (.not t) e=true):PT X e (tB' X.K B (wpT Φ (.not t) E)):=by
 replace h:=RD h
 obtain ⟨_,_,rfl,h⟩:=h
 ·refine ptI (J1 (ih h)) fun σ H Q hq=>el hq fun ρ F G e0 he r hw=>?_
  rw[lL]at hw
  exact il e0 he r hw fun b G1 H1 F1 q e1 x1 he1 r1=>q _ _ x1 r1
def jj(Φ:aj)(E:EK)(isAnd:Bool)(x:Tx)(xs:Txs):aa→DH→(Bool→DH→Prop)→Prop:=fun ρ G kk=>wpT Φ x E ρ G fun b G1=>dY Φ xs isAnd b E ρ G1 kk
theorem yQ{isAnd:Bool}{pos:Pos}:∀(xs:Txs){x:Tx},OkT Φ c E B X x→oN Φ c E B X xs→∀{v:Expr}{vs:List Expr},bc c x v=true→gb c xs vs=true→
  PW X (.BoolOp (if isAnd then .And else .Or) (v::vs) pos) (tB' X.K B (jj Φ E isAnd x xs))
 |.nil,x,ih,_,v,vs,h1,h2=>by
  unfold gb at h2
  cases vs with
  |nil=>
   have go:∀σ H Q,tB' X.K B (jj Φ E isAnd x .nil) σ H Q→tB' X.K B (wpT Φ x E) σ H Q:=fun σ H Q hq=>el hq fun ρ F G e0 he r hw=>by
    unfold jj at hw
    refine ⟨ρ,F,G,e0,he,r,cC x (fun b G1 q=>?_) hw⟩
    rw[lR]at q
    exact q
   cases isAnd with
   |true=>exact pwI (JW (ih h1)) go
   |false=>exact pwI (JX (ih h1)) go
  |cons _ _=>cases h2
 |.cons y ys,x,ih,hh,v,vs,h1,h2=>by
  unfold gb at h2
  split at h2
  ·rename_i w ws
   rw[Bool.and_eq_true]at h2
   have rest:=yQ (isAnd:=isAnd) (pos:=pos) ys hh.1 hh.2 h2.1 h2.2
   cases isAnd with
   |true=>
    refine pwI (JZ (ih h1) rest) fun σ H Q hq=>el hq fun ρ F G e0 he r hw=>?_
    unfold jj at hw
    refine il e0 he r hw fun b G1 H1 F1 q e1 x1 he1 r1=>?_
    rw[iU]at q
    cases b with
    |true=>
     rw[if_pos rfl]
     exact ⟨ρ,F1,G1,e1,he1,r1,cC y (fun b' G' z=>nJ ys (fun c G2 z=>PB.later z x1) z) q⟩
    |false=>
     rw[if_neg Bool.false_ne_true]
     exact q _ _ x1 r1
   |false=>
    refine pwI (J0 (ih h1) rest) fun σ H Q hq=>el hq fun ρ F G e0 he r hw=>?_
    unfold jj at hw
    refine il e0 he r hw fun b G1 H1 F1 q e1 x1 he1 r1=>?_
    rw[iU]at q
    cases b with
    |false=>
     rw[if_neg Bool.false_ne_true]
     exact ⟨ρ,F1,G1,e1,he1,r1,cC y (fun b' G' z=>nJ ys (fun c G2 z=>PB.later z x1) z) q⟩
    |true=>
     rw[if_pos rfl]
     exact q _ _ x1 r1
  ·cases h2
theorem Tf{isAnd:Bool}{x:Tx}{xs:Txs}(ih:OkT Φ c E B X x)(hh:oN Φ c E B X xs){e:Expr}(h:bc c (.boo isAnd x xs) e=true):PT X e (tB' X.K B (wpT Φ (.boo isAnd x xs) E)):=by
 replace h:=RG h
 obtain ⟨_,_,_,_,rfl,h⟩:=h
 ·simp only[Bool.and_eq_true,beq_iff_eq]at h
  obtain ⟨⟨e1,h1⟩,h2⟩:=h
  subst e1
  refine ptI (PW.pt (yQ xs ih hh h1 h2)) fun σ H Q hq=>el hq fun ρ F G e0 he r hw=>⟨ρ,F,G,e0,he,r,?_⟩
  rw[lM]at hw
  exact hw
def tG(K:PySem.W.Frag)(B:Bs)(t:Tg):TG:=fun v σ H Q=>∃ρ F G d,Ext B.H B.F H F∧EnvR K H F ρ σ∧R K H F G∧Rep K H F d v∧aQ t d ρ G (fun ρ'=>∀σ',EnvR K H F ρ' σ'→Q σ' H)
def tGs(K:PySem.W.Frag)(B:Bs)(t:Tgs):TGs:=fun vs σ H Q=>∃ρ F G ds,Ext B.H B.F H F∧EnvR K H F ρ σ∧R K H F G∧Reps K H F ds vs∧bj t ds ρ G (fun ρ'=>∀σ',EnvR K H F ρ' σ'→Q σ' H)
theorem oR:∀{ts:Tgs}{es:List Expr}{env:Env},bL c ts es=true→(assignEach es env).length=es.length∧(assignEach es env).findIdx? (·.1)=none∧(assignEach es env).map (·.2)=es.map fun e=>assign e env
 |.nil,[],env,_=>⟨rfl,rfl,rfl⟩
 |.nil,_::_,env,h=>by unfold bL at h;cases h
 |.cons t r,[],env,h=>by unfold bL at h;cases h
 |.cons t r,e::es,env,h=>by
  unfold bL at h
  rw[Bool.and_eq_true]at h
  obtain ⟨h1,h2,h3⟩:=oR (env:=env) h.2
  have hs:assignEach (e::es) env=(false,assign e env)::assignEach es env:=by
   cases t with
   |nm i=>
    have h':=h.1
    obtain ⟨_,_,rfl,_⟩:=rZ h'
    rfl
   |tp ts=>
    have h':=h.1
    obtain ⟨_,_,_,rfl,_⟩:=sr h'
    rfl
  rw[hs]
  refine ⟨by simp[h1],?_,by simp[h3]⟩
  rw[List.findIdx?_cons]
  simp[h2]
section
variable {prog:Program} {w:World} {A:Around} {E:Value→Shared→Prop} {s:Shared}
theorem yR{it t:Addr}{items:Array Value}(hne:t≠it):∀(n i:Nat)(s:Shared)(Q:List Value→Shared→Prop),s.heap.IsListIter it t i→s.heap.IsList t items→i+n≤items.size→
  (∀h',h'.IsListIter it t (i+n)→Heap.SameBut it s.heap h'→Q ((items.toList.drop i).take n) { s with heap:=h' })→wpAny (model prog w) A (draw (.ref it) n) Q E s
 |0,i,s,Q,hit,_,_,hQ=>by
  show wpAny _ _ (pure []) Q E s
  exact wpAny_pure (by simpa using hQ s.heap hit (Heap.SameBut.refl ..))
 |n+1,i,s,Q,hit,ht,hle,hQ=>by
  have hlt:i < items.size:=by omega
  show wpAny _ _ (pyNext (.ref it) >>= _) Q E s
  refine wpAny_bind (wpAny_pyNext_list_item hit ht (x:=items[i]) (by simp[hlt]) fun h₁ hit₁ hs₁=>?_)
  refine wpAny_bind (wpAny_holding (yR hne n (i+1) _ _ hit₁ (ht.extBut hs₁.extBut hne) (by omega) fun h₂ hit₂ hs₂=>wpAny_pure ?_))
  have hd:items.toList.drop i=items[i]::items.toList.drop (i+1):=by simp[List.drop_eq_getElem_cons,hlt]
  have:=hQ h₂ (by rw[show i+(n+1)=i+1+n by omega];exact hit₂) (hs₁.trans hs₂)
  rw[hd,List.take_succ_cons]at this
  exact this
theorem Th{t:Addr}{items:Array Value}{Q:List Value→Shared→Prop}(hh:A.handled=none)(ht:s.heap.IsList t items)
  (hQ:∀h',Heap.ExtBut s.heap.objs.size s.heap h'→Q items.toList { s with heap:=h' }):wpAny (model prog w) A (unpackItems (.ref t) items.size none) Q E s:=by
 have hlt:t≠s.heap.objs.size:=by obtain ⟨o,ho,_⟩:=ht;exact Nat.ne_of_lt (Heap.lt_size ho)
 unfold unpackItems
 refine wpAny_bind ?_
 unfold notIterableAtAll
 refine wpAny_bind (wpAny_specialOf ht.typeIs PySem.F.slot_list_iter.lookup ?_)
 refine wpAny_pure ?_
 simp only[Bool.false_eq_true,if_false]
 refine wpAny_bind (wpAny_holding (wpAny_pyIter_list ht ?_))
 refine wpAny_bind (wpAny_holding (yR hlt items.size 0 _ _ ⟨_,Heap.get?_push_size _ rfl,rfl,rfl⟩ (ht.push _) (by omega) fun h₁ hit₁ hs₁=>?_))
 have hall:List.take items.size (List.drop 0 items.toList)=items.toList:=by
  rw[List.drop_zero];exact List.take_of_length_le (by simp)
 rw[hall]
 rw[if_neg (by simp)]
 have ht₁:h₁.IsList t items:=(ht.push _).extBut hs₁.extBut hlt
 refine wpAny_bind (wpAny_holding (wpAny_pyNext_list_end hh hit₁ ht₁ (by simp) fun h₂ he₂=>?_))
 simp only[Option.isSome_none,Bool.false_eq_true,if_false]
 refine wpAny_pure (hQ h₂ fun b o hb e=>he₂ b o hb (hs₁.extBut b o hb (Heap.get?_push_of_some _ e)))
theorem Ti{env:Env}{elts:List Expr}{x1}{pos:Pos}{t:Addr}{items:Array Value}{Q:Unit→Shared→Prop}(hh:A.handled=none)(ht:s.heap.IsList t items)
  (hn:(assignEach elts env).length=items.size) (hstar:(assignEach elts env).findIdx? (·.1)=none)
  (h:∀h',Heap.ExtBut s.heap.objs.size s.heap h'→wpAny (model prog w) A (assignInOrder ((assignEach elts env).map (·.2)) items.toList) Q E { s with heap:=h' }):
  wpAny (model prog w) A (assign (.Tuple elts x1 pos) env (.ref t)) Q E s:=by
 rw[assign_Tuple]
 refine wpAny_bind (wpAny_standAt ?_)
 unfold unpack
 rw[hn,hstar]
 exact wpAny_bind (wpAny_holding (Th hh ht h))
end
section
variable {X:Cx} {pos:Pos}
def Tj(K:PySem.W.Frag)(n:Nat)(t:TGs):TG:=fun v σ H Q=>∃a xs,v=.ref a∧SqL K H a xs∧xs.length=n∧t xs σ H Q
theorem Tn{es:List Expr}{k:Nat}{t:TGs}{n:Nat}(hc:X.calm=true)(h:PGs X es t)
  (hn:(assignEach es X.env).length=n:=by rfl) (hst:(assignEach es X.env).findIdx? (·.1)=none:=by rfl):PG X (.Tuple es k pos) (Tj X.K n t):=by
 intro pins s σ H v u Q I r hw
 obtain ⟨a,xs,e1,hq,hl,hw⟩:=hw
 subst e1
 cases r
 obtain ⟨its,rv,pl,hz⟩:=I.list hq
 refine Ti (I.ok.hd hc) pl.isList (by simp[hn,←hl,rv.length]) hst fun h' hx=>?_
 have I1:Inv X pins σ H { s with heap:=h' }:=I.kept (t':=s.toks) fun b o e=>hx b o (Nat.ne_of_lt (Heap.lt_size e)) e
 exact h pins _ σ H xs _ Q I1 (by simpa using rv) hw
end
mutual
theorem oU(S:Stat Φ CX k c E B X):∀(t:Tg){e:Expr},bU c t e=true→PG X e (tG X.K B t)
 |.nm i,e,h=>by
  replace h:=rZ h
  obtain ⟨x,pos,rfl,h⟩:=h
  ·skip
   rw[Bool.and_eq_true,beq_iff_eq]at h
   obtain ⟨l,f⟩:=S.sto x h.2
   intro pins s σ H v u Q I rv q
   refine KD (i:=i) S.nd (by rw[S.N];exact h.1) l f pins s σ H v u Q I rv ?_
   obtain ⟨ρ,F,G,d,e0,he,r,rd,hw⟩:=q
   unfold aQ at hw
   exact hw _ (he.set rd i)
 |.tp ts,e,h=>by
  replace h:=sr h
  obtain ⟨es,kk,pos,rfl,h⟩:=h
  ·skip
   obtain ⟨h1,h2,h3⟩:=oR (env:=X.env) h
   intro pins s σ H v u Q I rv q
   obtain ⟨ρ,F,G,d,e0,he,r,rd,hw⟩:=q
   unfold aQ at hw
   split at hw
   ·rename_i ds
    refine KY (n:=es.length) S.calm (sy S ts h) h1 h2 pins s σ H v u Q I rv ?_
    obtain ⟨a,vs,e1,q,t⟩:=rd
    refine ⟨a,vs,e1,q.sq,?_,ρ,F,G,ds,e0,he,r,t,hw⟩
    rw[←t.length]
    exact sE ts h hw
   ·rename_i ds
    refine Tn (n:=es.length) S.calm (sy S ts h) h1 h2 pins s σ H v u Q I rv ?_
    obtain ⟨a,vs,e1,q,t⟩:=rd
    refine ⟨a,vs,e1,q.sq,?_,ρ,F,G,ds,e0,he,r,t,hw⟩
    rw[←t.length]
    exact sE ts h hw
   ·exact hw.elim
theorem sy(S:Stat Φ CX k c E B X):∀(ts:Tgs){es:List Expr},bL c ts es=true→PGs X es (tGs X.K B ts)
 |.nil,es,h=>by
  unfold bL at h
  cases es with
  |nil=>
   intro pins s σ H vs us Q I rv q
   refine KN pins s σ H vs us Q I rv ?_
   obtain ⟨ρ,F,G,ds,e0,he,r,rd,hw⟩:=q
   unfold bj at hw
   split at hw
   ·exact ⟨rd,hw _ he⟩
   ·exact hw.elim
  |cons _ _=>cases h
 |.cons t r,es,h=>by
  unfold bL at h
  split at h
  ·rename_i e es
   rw[Bool.and_eq_true]at h
   intro pins s σ H vs us Q I rv q
   have hs:(assignEach (e::es) X.env).map (·.2)=assign e X.env::(assignEach es X.env).map (·.2):=by
    have hh:bL c (.cons t r) (e::es)=true:=by unfold bL;show (bU c t e&&bL c r es)=true;rw[h.1,h.2];rfl
    rw[(oR (env:=X.env) hh).2.2,(oR (env:=X.env) h.2).2.2];rfl
   refine KQ (oU S t h.1) (sy S r h.2) hs pins s σ H vs us Q I rv ?_
   obtain ⟨ρ,F,G,ds,e0,he,rr,rd,hw⟩:=q
   unfold bj at hw
   split at hw
   ·rename_i d ds
    obtain ⟨v,vs',e1,rd1,rds⟩:=rd
    refine ⟨v,vs',e1,ρ,F,G,d,e0,he,rr,rd1,d7 (fun ρ' z σ' he'=>?_) t hw⟩
    exact ⟨ρ',F,G,ds,e0,he',rr,rds,z⟩
   ·exact hw.elim
  ·cases h
theorem sE{G:DH}:∀(ts:Tgs){es:List Expr}{ds:List D}{ρ:aa}{Q:aa→Prop},bL c ts es=true→bj ts ds ρ G Q→ds.length=es.length
 |.nil,es,ds,ρ,Q,h,q=>by
  unfold bL at h
  unfold bj at q
  split at q
  ·cases es with
   |nil=>rfl
   |cons _ _=>cases h
  ·exact q.elim
 |.cons t r,es,ds,ρ,Q,h,q=>by
  unfold bL at h
  split at h
  ·rw[Bool.and_eq_true]at h
   unfold bj at q
   split at q
   ·rename_i d ds
    have:∃ρ',bj r ds ρ' G Q:=yS t q
    obtain ⟨ρ',q'⟩:=this
    have:=sE r h.2 q'
    simp[this]
   ·exact q.elim
  ·cases h
theorem yS{G:DH}:∀(t:Tg){d:D}{ρ:aa}{Q:aa→Prop},aQ t d ρ G Q→∃ρ',Q ρ'
 |.nm i,d,ρ,Q,q=>⟨_,q⟩
 |.tp ts,d,ρ,Q,q=>by
  unfold aQ at q
  split at q
  ·exact sG ts q
  ·exact sG ts q
  ·exact q.elim
theorem sG{G:DH}:∀(ts:Tgs){ds:List D}{ρ:aa}{Q:aa→Prop},bj ts ds ρ G Q→∃ρ',Q ρ'
 |.nil,ds,ρ,Q,q=>by
  unfold bj at q
  split at q
  ·exact ⟨_,q⟩
  ·exact q.elim
 |.cons t r,ds,ρ,Q,q=>by
  unfold bj at q
  split at q
  ·obtain ⟨ρ',q'⟩:=yS t q
   exact sG r q'
  ·exact q.elim
end
end
end RF
namespace RF
open PySem PySem.Spec PyProof.Rows L2
structure WalkJ(K:PySem.W.Frag)(H:Hp)(F:FZ)(items:List D)(g:Hld)(J:It):Prop where
 go:∀H' F' G i,Ext H F H' F'→R K H' F' G→held g G→i < items.length→J.go i H'
 stop:∀H' F' G,Ext H F H' F'→R K H' F' G→held g G→J.stop items.length H'
 yld:∀H' F' i x H'' d G,Ext H F H' F'→R K H' F' G→held g G→items[i]?=some d→J.yld i H' x H''→Ext H' F' H'' F'∧R K H'' F' G∧Rep K H'' F' d x
section
variable {K:PySem.W.Frag} {H:Hp} {F:FZ}
structure Src(K:PySem.W.Frag)(H:Hp)(F:FZ)(u:Value)(ds:List D)(g:Hld)(k:SK):Prop where
 val:k.val=u
 sat:∀H' F' G,Ext H F H' F'→R K H' F' G→held g G→∃vs,k.Sat H' vs∧Reps K H' F' ds vs
theorem oV{d:D}{v:V}{u:Value}{G:DH}{ds:List D×Hld}(h:Rep K H F d v)(r:RelV v u)(e:itemsOf G d=some ds):∃k,Src K H F u ds.1 ds.2 k:=by
 cases d with
 |lst xs=>
  simp only[itemsOf,Option.some.injEq]at e
  subst e
  obtain ⟨a,vs,e1,q,t⟩:=h
  subst e1
  have hu:u=Value.ref a:=r
  subst hu
  exact ⟨.lst a,rfl,fun H' F' G' x _ _=>⟨vs,(FzL.ext x q).2,Reps.ext x t⟩⟩
 |tup xs=>
  simp only[itemsOf,Option.some.injEq]at e
  subst e
  obtain ⟨a,vs,e1,q,t⟩:=h
  subst e1
  have hu:u=Value.ref a:=r
  subst hu
  exact ⟨.tup a,rfl,fun H' F' G' x _ _=>⟨vs,(TpT.ext (K:=K) x q).it,Reps.ext x t⟩⟩
 |str l=>
  simp only[itemsOf,Option.some.injEq]at e
  subst e
  obtain ⟨e1,hl⟩:=h
  subst e1
  obtain ⟨t,hu⟩:∃t,u=Value.str (tx l) t:=r
  subst hu
  exact ⟨.str (tx l) t,rfl,fun H' F' G' x _ _=>⟨_,rfl,by simpa using rJ l⟩⟩
 |ref p=>
  simp only[itemsOf]at e
  split at e
  ·rename_i xs hg
   simp only[Option.some.injEq]at e
   subst e
   have e1:v=.ref p:=h
   subst e1
   have hu:u=Value.ref p:=r
   subst hu
   exact ⟨.lst p,rfl,fun H' F' G' x r' hh=>r'.lst hh.1⟩
  ·cases e
 |_=>cases e
theorem oW{G:DH}{d:D}{ds:List D×Hld}(e:itemsOf G d=some ds):held ds.2 G:=by
 cases d with
 |ref p=>
  simp only[itemsOf]at e
  split at e
  ·rename_i xs hg
   simp only[Option.some.injEq]at e
   subst e
   exact ⟨hg,trivial⟩
  ·cases e
 |_=>simp only[itemsOf]at e;first | (cases e;done) | (simp only[Option.some.injEq]at e;subst e;exact trivial)
theorem Tp{u:Value}{ds:List D}{g:Hld}{k:SK}(s:Src K H F u ds g k):WalkJ K H F ds g (Jk k) where
 go:=fun H' F' G i x r hh hi=>by
  obtain ⟨vs,h1,h2⟩:=s.sat H' F' G x r hh
  exact ⟨vs,h1,by rw[←h2.length];exact hi⟩
 stop:=fun H' F' G x r hh=>by
  obtain ⟨vs,h1,h2⟩:=s.sat H' F' G x r hh
  exact ⟨vs,h1,h2.length.symm⟩
 yld:=fun H' F' i v H'' d G x r hh hd y=>by
  obtain ⟨e,hv⟩:=y
  subst e
  obtain ⟨vs,h1,h2⟩:=s.sat _ F' G x r hh
  obtain ⟨w,e1,rw'⟩:=h2.get hd
  have e2:=hv vs h1
  rw[e1]at e2;cases e2
  exact ⟨Ext.refl _ _,r,rw'⟩
theorem sH:∀(n:Nat)(ds:List D),(cM n ds).length=ds.length
 |_,[]=>rfl
 |n,d::ds=>by simp[cM,sH (n+1) ds]
theorem sI:∀(n:Nat)(ds:List D)(i:Nat),(cM n ds)[i]?=(ds[i]?).map fun d=>.tup [.int ((n+i:Nat):Int),d]
 |_,[],_=>by simp[cM]
 |n,d::ds,0=>by simp[cM]
 |n,d::ds,i+1=>by
  simp only[cM,List.getElem?_cons_succ]
  rw[sI (n+1) ds i]
  congr 1
  funext d
  rw[show n+1+i=n+(i+1) by omega]
theorem oX:∀(as bs:List D),(bI as bs).length=min as.length bs.length
 |[],bs=>by simp[bI]
 |a::as,[]=>by simp[bI]
 |a::as,b::bs=>by simp[bI,oX as bs]
theorem sJ:∀(as bs:List D)(i:Nat)(d:D),(bI as bs)[i]?=some d→∃a b,as[i]?=some a∧bs[i]?=some b∧d=.tup [a,b]
 |[],bs,i,d,h=>by simp[bI]at h
 |a::as,[],i,d,h=>by simp[bI]at h
 |a::as,b::bs,0,d,h=>by simp[bI]at h;exact ⟨a,b,rfl,rfl,h.symm⟩
 |a::as,b::bs,i+1,d,h=>by
  simp only[bI,List.getElem?_cons_succ]at h
  obtain ⟨x,y,h1,h2,h3⟩:=sJ as bs i d h
  exact ⟨x,y,by simpa using h1,by simpa using h2,h3⟩
theorem Tq{u:Value}{ds:List D}{g:Hld}{k:SK}(s:Src K H F u ds g k):WalkJ K H F (cM 0 ds) g (Je k) where
 go:=fun H' F' G i x r hh hi=>by
  obtain ⟨vs,h1,h2⟩:=s.sat H' F' G x r hh
  exact ⟨vs,h1,by rw[←h2.length,←sH 0];exact hi⟩
 stop:=fun H' F' G x r hh=>by
  obtain ⟨vs,h1,h2⟩:=s.sat H' F' G x r hh
  exact ⟨vs,h1,by rw[sH];exact h2.length.symm⟩
 yld:=fun H' F' i v H'' d G x r hh hd y=>by
  obtain ⟨vs,h1,h2⟩:=s.sat H' F' G x r hh
  obtain ⟨T,y,hT,e1,e2,hv⟩:=y
  subst e1 e2
  rw[sI]at hd
  obtain ⟨d',hd',e3⟩:=Option.map_eq_some_iff.mp hd
  subst e3
  obtain ⟨w,e1,rw'⟩:=h2.get hd'
  have e2:=hv vs h1
  rw[e1]at e2;cases e2
  refine ⟨cW r hT,r.new hT,?_⟩
  rw[Nat.zero_add]
  exact qy r hT (Reps.cons rfl (Reps.cons rw' Reps.nil))
theorem iw{g g':Hld}{G:DH}:held (g++g') G→held g G∧held g' G:=by
 induction g with
 |nil=>exact fun h=>⟨trivial,h⟩
 |cons p r ih=>
  intro h
  obtain ⟨h1,h2⟩:=ih h.2
  exact ⟨⟨h.1,h1⟩,h2⟩
theorem Tt{u u':Value}{ds es:List D}{g g':Hld}{k l:SK}(s:Src K H F u ds g k)(s':Src K H F u' es g' l):WalkJ K H F (bI ds es) (g++g') (Jz k l) where
 go:=fun H' F' G i x r hh hi=>by
  obtain ⟨vs,h1,h2⟩:=s.sat H' F' G x r (iw hh).1
  obtain ⟨ws,h3,h4⟩:=s'.sat H' F' G x r (iw hh).2
  rw[oX]at hi
  exact ⟨vs,ws,h1,h3,by rw[←h2.length];omega,by rw[←h4.length];omega⟩
 stop:=fun H' F' G x r hh=>by
  obtain ⟨vs,h1,h2⟩:=s.sat H' F' G x r (iw hh).1
  obtain ⟨ws,h3,h4⟩:=s'.sat H' F' G x r (iw hh).2
  exact ⟨vs,ws,h1,h3,by rw[oX,←h2.length,←h4.length];omega⟩
 yld:=fun H' F' i v H'' d G x r hh hd y=>by
  obtain ⟨T,y,z,hT,e1,e2,hv,hz⟩:=y
  subst e1 e2
  obtain ⟨a,b,ha,hb,e3⟩:=sJ _ _ _ _ hd
  subst e3
  obtain ⟨vs,h1,h2⟩:=s.sat H' F' G x r (iw hh).1
  obtain ⟨ws,h3,h4⟩:=s'.sat H' F' G x r (iw hh).2
  obtain ⟨w,e1,rw'⟩:=h2.get ha
  obtain ⟨w2,e3,rw2⟩:=h4.get hb
  have e2:=hv vs h1
  have e4:=hz ws h3
  rw[e1]at e2;cases e2
  rw[e3]at e4;cases e4
  exact ⟨cW r hT,r.new hT,qy r hT (Reps.cons rw' (Reps.cons rw2 Reps.nil))⟩
theorem Tu(lo:Int)(n:Nat):WalkJ K H F (bK lo n) [] (Itr lo n) where
 go:=fun H' F' G i x _ _ hi=>by show i < n;simpa [bK] using hi
 stop:=fun H' F' G x _ _=>by show n≤(bK lo n).length;simp[bK]
 yld:=fun H' F' i v H'' d G x r _ hd y=>by
  obtain ⟨e1,e2⟩:=y
  subst e1 e2
  refine ⟨Ext.refl _ _,r,?_⟩
  unfold bK at hd
  rw[List.getElem?_map]at hd
  obtain ⟨j,hj,e3⟩:=Option.map_eq_some_iff.mp hd
  have:j=i:=by
   have:=List.getElem?_eq_some_iff.mp hj
   obtain ⟨h1,h2⟩:=this
   simpa using h2.symm
  subst this
  subst e3
  rfl
end
def tI(K:PySem.W.Frag)(B:Bs)(w:aa→DH→(List D→Hld→DH→Prop)→Prop):TI:=fun σ H Rr=>∃ρ F G,Ext B.H B.F H F∧EnvR K H F ρ σ∧R K H F G∧
 w ρ G (fun items g G'=>∀H' F' J,Ext H F H' F'→R K H' F' G'→WalkJ K H' F' items g J→Rr J H')
section
variable {Φ:aj} {CX:CXT} {k:Nat} {c:CT} {E:EK} {B:Bs} {X:Cx}
theorem oY{pins:List (Addr×Obj)}{σ:L2.St}{H:Hp}{s:Shared}(I:Inv X pins σ H s){kk:SK}{vs:List V}(h:kk.Sat H vs):∃its:Array Value,kk.On its s.heap:=by
 cases kk with
 |lst a=>obtain ⟨its,_,pl,_⟩:=I.list (SqL.of (show H a=some _ from h));exact ⟨its.toArray,pl.isList⟩
 |tup a=>obtain ⟨its,_,pl,_⟩:=I.tuple (SqT.of (show H a=some _ from h));exact ⟨its.toArray,pl⟩
 |str x t=>exact ⟨#[],trivial⟩
theorem Tv{x:Ex}(ih:OkE Φ c E B X x){tg e:Expr}(h:ak c x e=true):PI X tg e (tI X.K B (wpI Φ (.seq x) E)):=by
 intro pins s σ H Rr I q
 obtain ⟨ρ,F,G,e0,he,r,hw⟩:=q
 rw[lW]at hw
 have q':tE X.K B (wpE Φ x E) σ H (fun v H1=>∃F1 G1 d items,R X.K H1 F1 G1∧Rep X.K H1 F1 d v∧itemsOf G1 d=some items∧∀J,WalkJ X.K H1 F1 items.1 items.2 J→Rr J H1):=
  aH e0 he r hw fun d G1 H1 F1 u q e1 x1 he1 r1 ru=>by
   split at q
   ·rename_i ds hd
    exact ⟨F1,G1,d,ds,r1,ru,hd,fun J w=>q H1 F1 J x1 r1 w⟩
   ·exact q.elim
 refine thn (ih h pins s σ H _ I q') fun u s1 ⟨v,H1,I1,rv,F1,G1,d,items,r1,rd,hd,q1⟩=>?_
 obtain ⟨kk,src⟩:=oV rd rv hd
 obtain ⟨vs,sat,_⟩:=src.sat H1 F1 G1 (Ext.refl _ _) r1 (oW hd)
 obtain ⟨its,on⟩:=oY I1 sat
 rw[←src.val]
 refine SK.iter on ?_
 refine ⟨s1.heap.objs.size,[s1.heap.objs.size],_,_,H1,rfl,I1.kept (t':=s1.toks) fun b o e=>Heap.get?_push_of_some _ e,Rj kk _,SK.pos0,fun b hb=>?_,q1 _ (Tp src)⟩
 have e:b=s1.heap.objs.size:=by simpa using hb
 subst e
 exact I1.fpOk (Nat.le_refl _) (I1.hok.fresh (Nat.le_refl _))
theorem Tw(S:Stat Φ CX k c E B X){a:Ex}(ih:OkE Φ c E B X a){tg e:Expr}(h:bC c (.rng a) tg e=true):PI X tg e (tI X.K B (wpI Φ (.rng a) E)):=by
 replace h:=yE h
 obtain ⟨_,_,_,_,rfl,h⟩:=h
 ·simp only[Bool.and_eq_true,beq_iff_eq]at h
  obtain ⟨⟨⟨e1,h1⟩,hm⟩,h2⟩:=h
  subst e1
  obtain ⟨g1,g2⟩:=cG h1
  have hmg:=S.blt _ (List.contains_iff_mem.mp hm)
  have hs:=bQ _ [] X.env (cg (bA a h2))
  intro pins s σ H Rr I q
  refine K8 (S.glo _ g1) hmg (gw (ih h2) iK hs) hs pins s σ H Rr I ?_
  obtain ⟨ρ,F,G,e0,he,r,hw⟩:=q
  rw[lX]at hw
  refine aH e0 he r hw fun d G1 H1 F1 u q e1 x1 he1 r1 ru=>?_
  split at q
  ·rename_i n
   have e2:u=.int n:=ru
   subst e2
   exact ⟨n,rfl,q.1.1,q.1.2,q.2 H1 F1 _ x1 r1 (Tu 0 n.toNat)⟩
  ·exact q.elim
theorem Tz(S:Stat Φ CX k c E B X){a:Ex}(ih:OkE Φ c E B X a){tg e:Expr}(h:bC c (.rev a) tg e=true):PI X tg e (tI X.K B (wpI Φ (.rev a) E)):=nomatch (show false=true from h)
theorem TF(S:Stat Φ CX k c E B X){a b d:Ex}(iha:OkE Φ c E B X a)(ihb:OkE Φ c E B X b)(ihd:OkE Φ c E B X d){tg e:Expr}(h:bC c (.dwn a b d) tg e=true):PI X tg e (tI X.K B (wpI Φ (.dwn a b d) E)):=nomatch (show false=true from h)
theorem TQ(S:Stat Φ CX k c E B X){a b:Ex}(iha:OkE Φ c E B X a)(ihb:OkE Φ c E B X b){tg e:Expr}(h:bC c (.rng2 a b) tg e=true):PI X tg e (tI X.K B (wpI Φ (.rng2 a b) E)):=nomatch (show false=true from h)
theorem TV(S:Stat Φ CX k c E B X){a:Ex}(ih:OkE Φ c E B X a){tg e:Expr}(h:bC c (.enm a) tg e=true):PI X tg e (tI X.K B (wpI Φ (.enm a) E)):=by
 replace h:=yF h
 obtain ⟨_,_,_,_,_,_,_,rfl,rfl,h⟩:=h
 ·skip
  ·simp only[Bool.and_eq_true,beq_iff_eq]at h
   obtain ⟨⟨⟨e1,h1⟩,hm⟩,h2⟩:=h
   subst e1
   obtain ⟨g1,g2⟩:=cG h1
   have hmg:=S.blt _ (List.contains_iff_mem.mp hm)
   have hs:=bQ _ [] X.env (cg (bA a h2))
   intro pins s σ H Rr I q
   obtain ⟨ρ,F,G,e0,he,r,hw⟩:=q
   rw[lY]at hw
   have q':tL X.K B (aL Φ (.cons a .nil) E) σ H (fun vs H1=>∃v F1 G1 d items,vs=[v]∧R X.K H1 F1 G1∧Rep X.K H1 F1 d v∧itemsOf G1 d=some items∧∀J,WalkJ X.K H1 F1 (cM 0 items.1) items.2 J→Rr J H1):=by
    refine bV (W:=fun ds G1=>∃d items,ds=[d]∧itemsOf G1 d=some items∧∀H' F' J,Ext H F H' F'→R X.K H' F' G1→WalkJ X.K H' F' (cM 0 items.1) items.2 J→Rr J H') e0 he r ?_ fun ds G1 H1 F1 vs q e1 x1 he1 r1 rvs=>?_
    ·rw[eU]
     refine aA a (fun d G1 q=>?_) hw
     rw[fQ]
     split at q
     ·rename_i items hd
      exact ⟨d,items,rfl,hd,q⟩
     ·exact q.elim
    ·obtain ⟨d,items,e2,hd,q⟩:=q
     subst e2
     obtain ⟨v,e3,rv⟩:=bw rvs
     exact ⟨v,F1,G1,d,items,e3,r1,rv,hd,fun J w=>q H1 F1 J x1 r1 w⟩
   refine Call_ (gr I (S.glo _ g1) hmg (u:=.type "enumerate") boot_enumerate (PyProof.Rows.callWith_type1 (thn (oK ih (fun h=>su h) (c:=c) (es:=[_]) (by unfold aB;show (ak c a _&&true)=true;rw[h2];rfl) _ pins s σ H _ I q') fun us s1 ⟨vs,H1,I1,r1v,q1⟩=>?_) hs rfl) (dF g2) (bB g2))
   obtain ⟨v,F1,G1,d,items,e1,r1,rd,hd,q1⟩:=q1
   subst e1
   obtain ⟨u,rfl,ru⟩:=vals1 r1v
   obtain ⟨kk,src⟩:=oV rd ru hd
   obtain ⟨vs,sat,_⟩:=src.sat H1 F1 G1 (Ext.refl _ _) r1 (oW hd)
   obtain ⟨its,on⟩:=oY I1 sat
   rw[←src.val]
   refine Rv on fun h' hen hit hsz hk=>?_
   refine wpAny_pyIter_enum hen ?_
   have n1:H1 s1.heap.objs.size=none:=I1.hok.fresh (Nat.le_refl _)
   have n2:H1 (s1.heap.objs.size+1)=none:=I1.hok.fresh (Nat.le_succ _)
   refine ⟨s1.heap.objs.size+1,[s1.heap.objs.size+1,s1.heap.objs.size],_,_,H1,rfl,I1.kept (t':=s1.toks) hk,Ri kk _ _ (Nat.succ_ne_self _),⟨⟨_,hen⟩,hit⟩,fun b hb=>?_,q1 _ (Tq src)⟩
   have hb':b=s1.heap.objs.size+1∨b=s1.heap.objs.size:=by simpa using hb
   rcases hb' with rfl |rfl
   ·exact I1.fpOk (Nat.le_succ _) n2
   ·exact I1.fpOk (Nat.le_refl _) n1
theorem zap(n:Nat):ZApart (n+4) (n+2) (n+3) n (n+1):=
 ⟨(by omega:(n+2:Nat)≠n+4),(by omega:(n+3:Nat)≠n+4),(by omega:(n:Nat)≠n+4),(by omega:(n+1:Nat)≠n+4),(by omega:(n+2:Nat)≠n+3),(by omega:(n+2:Nat)≠n),(by omega:(n+2:Nat)≠n+1),(by omega:(n+3:Nat)≠n),(by omega:(n+3:Nat)≠n+1),(by omega:(n:Nat)≠n+1)⟩
theorem TY(S:Stat Φ CX k c E B X){a b:Ex}(iha:OkE Φ c E B X a)(ihb:OkE Φ c E B X b){tg e:Expr}(h:bC c (.zip a b) tg e=true):PI X tg e (tI X.K B (wpI Φ (.zip a b) E)):=by
 replace h:=yG h
 obtain ⟨_,_,_,_,_,v,v',pos,rfl,rfl,h⟩:=h
 ·skip
  ·simp only[Bool.and_eq_true,beq_iff_eq]at h
   obtain ⟨⟨⟨⟨e1,h1⟩,hm⟩,h2⟩,h3⟩:=h
   subst e1
   obtain ⟨g1,g2⟩:=cG h1
   have hmg:=S.blt _ (List.contains_iff_mem.mp hm)
   have hs2:=bQ v' [] X.env (cg (bA b h3))
   have hs:=bQ v [v'] X.env (cg (bA a h2))
   intro pins s σ H Rr I q
   obtain ⟨ρ,F,G,e0,he,r,hw⟩:=q
   rw[lZ]at hw
   have hA:aB c (.cons a (.cons b .nil)) [v,v']=true:=by
    unfold aB aB aB;show (ak c a v&&(ak c b v'&&true))=true;rw[h2,h3];rfl
   have q':tL X.K B (aL Φ (.cons a (.cons b .nil)) E) σ H (fun vs H1=>∃v v' F1 G1 d d' items items',vs=[v,v']∧R X.K H1 F1 G1∧Rep X.K H1 F1 d v∧Rep X.K H1 F1 d' v'∧itemsOf G1 d=some items∧itemsOf G1 d'=some items'∧∀J,WalkJ X.K H1 F1 (bI items.1 items'.1) (items.2++items'.2) J→Rr J H1):=by
    refine bV (W:=fun ds G1=>∃d d' items items',ds=[d,d']∧itemsOf G1 d=some items∧itemsOf G1 d'=some items'∧∀H' F' J,Ext H F H' F'→R X.K H' F' G1→WalkJ X.K H' F' (bI items.1 items'.1) (items.2++items'.2) J→Rr J H') e0 he r ?_ fun ds G1 H1 F1 vs q e1 x1 he1 r1 rvs=>?_
    ·rw[eU]
     refine aA a (fun d G1 q=>?_) hw
     rw[eU]
     refine aA b (fun d' G2 q=>?_) q
     rw[fQ]
     split at q
     ·rename_i items items' hd hd'
      exact ⟨d,d',items,items',rfl,hd,hd',q⟩
     ·exact q.elim
    ·obtain ⟨d,d',items,items',e2,hd,hd',q⟩:=q
     subst e2
     obtain ⟨w1,r2,e3,rw1,t2⟩:=rvs
     obtain ⟨w2,e4,rw2⟩:=bw t2
     subst e4
     exact ⟨w1,w2,F1,G1,d,d',items,items',e3,r1,rw1,rw2,hd,hd',fun J w=>q H1 F1 J x1 r1 w⟩
   refine Call_ (gr I (S.glo _ g1) hmg (u:=.type "zip") Oi (PyProof.Rows.callWith_type1 (thn (oK iha (fun h=>oK ihb (fun h=>su h) h) (c:=c) (es:=[v,v']) hA _ pins s σ H _ I q') fun us s1 ⟨vs,H1,I1,r1v,q1⟩=>?_) hs (by rw[hs2];rfl)) (dF g2) (bB g2))
   obtain ⟨w1,w2,F1,G1,d,d',items,items',e1,r1,rd,rd',hd,hd',q1⟩:=q1
   subst e1
   obtain ⟨u,u',rfl,ru,ru'⟩:=vals2 r1v
   obtain ⟨kk,src⟩:=oV rd ru hd
   obtain ⟨ll,src'⟩:=oV rd' ru' hd'
   obtain ⟨vs,sat,_⟩:=src.sat H1 F1 G1 (Ext.refl _ _) r1 (oW hd)
   obtain ⟨ws,sat',_⟩:=src'.sat H1 F1 G1 (Ext.refl _ _) r1 (oW hd')
   obtain ⟨its,on⟩:=oY I1 sat
   obtain ⟨its',on'⟩:=oY I1 sat'
   rw[←src.val,←src'.val]
   refine Rt on on' fun h' hz hTI hTO p1 p2 hsz hk=>?_
   refine wpAny_pyIter_zip hz ?_
   have fr:∀j,H1 (s1.heap.objs.size+j)=none:=fun j=>I1.hok.fresh (Nat.le_add_right _ _)
   refine ⟨s1.heap.objs.size+4,[s1.heap.objs.size+4,s1.heap.objs.size+2,s1.heap.objs.size+3,s1.heap.objs.size,s1.heap.objs.size+1],_,_,H1,rfl,I1.kept (t':=s1.toks) hk,
    Ro kk ll (s1.heap.objs.size+4) (s1.heap.objs.size+2) (s1.heap.objs.size+3) s1.heap.objs.size (s1.heap.objs.size+1) (zap s1.heap.objs.size),⟨hz,hTI,⟨_,_,hTO⟩,p1,p2⟩,fun b hb=>?_,q1 _ (Tt src src')⟩
   have hb':b=s1.heap.objs.size+4∨b=s1.heap.objs.size+2∨b=s1.heap.objs.size+3∨b=s1.heap.objs.size∨b=s1.heap.objs.size+1:=by simpa using hb
   rcases hb' with rfl |rfl |rfl |rfl |rfl
   ·exact I1.fpOk (Nat.le_add_right _ _) (fr 4)
   ·exact I1.fpOk (Nat.le_add_right _ _) (fr 2)
   ·exact I1.fpOk (Nat.le_add_right _ _) (fr 3)
   ·exact I1.fpOk (Nat.le_refl _) (fr 0)
   ·exact I1.fpOk (Nat.le_add_right _ _) (fr 1)
end
end RF
namespace RF
open PySem PySem.Spec PyProof.Rows L2
section
variable {Φ:aj} {CX:CXT} {k:Nat} {c:CT} {E:EK} {B:Bs} {X:Cx}
theorem sO:∀{l:List Str},dC l=true→l.Nodup
 |[],_=>List.nodup_nil
 |x::r,h=>by
  unfold dC at h
  rw[Bool.and_eq_true]at h
  refine List.nodup_cons.mpr ⟨fun hm=>?_,sO h.2⟩
  have:=h.1
  rw[List.contains_iff_mem.mpr hm]at this
  cases this
theorem oZ{N:List Str}{scope:Scope}:∀{N':List Str}{cap:List (Option Nat)},X.N=N→eX N scope N' cap=true→Caps X scope N' cap
 |[],[],_,_=>trivial
 |_::N',none::cap,e,h=>oZ (N':=N') (cap:=cap) e h
 |x::N',some j::cap,e,h=>by
  unfold eX at h
  simp only[Bool.and_eq_true,beq_iff_eq]at h
  exact ⟨⟨by rw[e];exact h.1.1,h.1.2⟩,oZ (N':=N') (cap:=cap) e h.2⟩
 |[],_::_,_,h=>by cases h
 |_::_,[],_,h=>by cases h
theorem jk{scope:Scope}{env:Env}(x:Str):(relabel scope env).names.lookup x=(scope.names.lookup x).map fun kk=>if (kk==NameKind.free&&env.scope.kind==.function&&env.kindOf x==some .cell)=true then NameKind.cell else kk:=qe
theorem Stat.comp(S:Stat Φ CX k c E B X){N':List Str}{scope:Scope}(hn:dC N'=true)(cl:List (Str×Addr))(C:Addr)(s₁:Shared)(H₁:Hp)(fp:List Addr)(pn:List (Addr×Obj)):
  Stat Φ CX k (c.comp N' scope) noE B (X.comp N' scope cl C s₁ H₁ fp pn) where
 N:=rfl
 nd:=sO hn
 calm:=S.calm
 own:=PassesOwn.never
 kd:=rfl
 vis:=fun x h=>by
  have h:fY (scope.names.lookup x)=true:=h
  show (relabel scope X.env).names.lookup x=_∨(relabel scope X.env).names.lookup x=_∨(relabel scope X.env).names.lookup x=_
  rw[jk]
  cases e:scope.names.lookup x with
  |none=>rw[e]at h;cases h
  |some kk=>
   rw[e]at h
   cases kk with
   | «local»=>exact .inl (by simp[show (NameKind.«local»==NameKind.free)=false by decide])
   |cell=>exact .inr (.inl (by simp[show (NameKind.cell==NameKind.free)=false by decide]))
   |free=>
    by_cases q:(NameKind.free==NameKind.free&&X.env.scope.kind==ScopeKind.function&&X.env.kindOf x==some NameKind.cell)=true
    ·exact .inr (.inl (by simp only[Option.map_some,if_pos q]))
    ·exact .inr (.inr (by simp only[Option.map_some,if_neg q]))
   |globalExplicit=>cases h
   |globalImplicit=>cases h
 cel:=fun x h=>by
  have h:scope.names.lookup x=some .cell∨scope.names.lookup x=some .free:=h
  show (relabel scope X.env).names.lookup x=_∨(relabel scope X.env).names.lookup x=_
  rw[jk]
  rcases h with h |h
  ·exact .inl (by rw[h];simp[show (NameKind.cell==NameKind.free)=false by decide])
  ·rw[h]
   by_cases q:(NameKind.free==NameKind.free&&X.env.scope.kind==ScopeKind.function&&X.env.kindOf x==some NameKind.cell)=true
   ·exact .inl (by simp only[Option.map_some,if_pos q])
   ·exact .inr (by simp only[Option.map_some,if_neg q])
 glo:=fun x h=>by
  have h:scope.names.lookup x=some .globalImplicit:=h
  show (relabel scope X.env).names.lookup x=_
  rw[jk,h]
  simp[show (NameKind.globalImplicit==NameKind.free)=false by decide]
 sto:=fun x h=>by
  have h:(scope.names.lookup x==some .local||(false&&scope.names.lookup x==some .cell))=true:=h
  rw[Bool.false_and,Bool.or_false,beq_iff_eq]at h
  have e:(relabel scope X.env).names.lookup x=some .local:=by rw[jk,h];simp[show (NameKind.«local»==NameKind.free)=false by decide]
  exact ⟨.inl e,.inr e⟩
 room:=S.room
 call:=S.call
 blt:=S.blt
 con:=S.con
 exc:=⟨_,S.nox _,fun _ _ _ _ _ _ _ _ _ _ q=>q.elim,fun x G' H' F' h=>h.elim⟩
 nox:=S.nox
 xcl:=fun C h=>nomatch (show false=true from h)
 loc:=fun x h=>by show (relabel scope X.env).names.lookup x=_;rw[jk,show scope.names.lookup x=some .local from h];simp[show (NameKind.«local»==NameKind.free)=false by decide]
 xis:=fun C h=>nomatch (show false=true from h)
 trc:=fun h=>absurd rfl h
theorem T3(S:Stat Φ CX k c E B X){t:Tx}(ih:OkT Φ c E B X t){ifs:List Expr}(h:jg c t ifs=true):PIf X ifs (tB' X.K B (wpT Φ t E)):=by
 unfold jg at h
 rw[Bool.or_eq_true]at h
 rcases h with h |h
 ·rw[Bool.and_eq_true,List.isEmpty_iff]at h
  obtain ⟨hy,rfl⟩:=h
  cases t with
  |yes=>
   intro pins s σ H Q I q
   refine NZ pins s σ H Q I ?_
   obtain ⟨ρ,F,G,e0,he,r,hw⟩:=q
   rw[lN]at hw
   exact hw.now r
  |_=>cases hy
 ·obtain ⟨e,he,h⟩:=aM h
  rw[bT he]
  exact N5 (ih h)
theorem yU(S:Stat Φ CX k c E B X){fz:Bool}{elt:Ex}{tg:Tg}{it:It'}{cond:Tx}{N':List Str}{cap:List (Option Nat)}{scope:Scope}{elt' tg':Expr}{ifs:List Expr}(hn:dC N'=true)
  (ihe:∀{X':Cx},Stat Φ CX k (c.comp N' scope) noE B X'→OkE Φ (c.comp N' scope) noE B X' elt) (iht:∀{X':Cx},Stat Φ CX k (c.comp N' scope) noE B X'→OkT Φ (c.comp N' scope) noE B X' cond)
  (hg:bU (c.comp N' scope) tg tg'=true) (hi:jg (c.comp N' scope) cond ifs=true) (he:ak (c.comp N' scope) elt elt'=true)
  {σ:L2.St} {H:Hp} {Q:VK} {ρ:aa} {F:FZ} {G:DH} (e0:Ext B.H B.F H F) (henv:EnvR X.K H F ρ σ) (r:R X.K H F G)
  (hw:wpI Φ it E ρ G fun items g G1=>
   compLoop (fun d ρ' G' k'=>aQ tg d ρ' G' fun ρ1=>wpT Φ cond noE ρ1 G' fun b G2=>match b with |true=>wpE Φ elt noE ρ1 G2 fun y G3=>k' (some y) ρ1 G3 |false=>k' none ρ1 G2)
    g items [] (cap.map fun o=>match o with |none=>none |some j=>(ρ[j]?).join) G1 fun ds G2=>mk fz ds G2 (PV X.K H F Q)):
  tI X.K B (wpI Φ it E) σ H (fun J H1=>vO X N' scope tg' ifs elt' J (cV cap σ) H1 Q):=by
 refine ⟨ρ,F,G,e0,henv,r,iY it (fun items g G1 q H1 F1 J x1 r1 W=>?_) hw⟩
 let step:D→aa→DH→(Option D→aa→DH→Prop)→Prop:=fun d ρ' G' k'=>aQ tg d ρ' G' fun ρ1=>wpT Φ cond noE ρ1 G' fun b G2=>match b with |true=>wpE Φ elt noE ρ1 G2 fun y G3=>k' (some y) ρ1 G3 |false=>k' none ρ1 G2
 let fin:List D→DH→Prop:=fun ds G2=>mk fz ds G2 (PV X.K H F Q)
 refine ⟨fun i m ys σ' H'=>m=items.length - i∧i≤items.length∧∃ρ' F' G' acc,Ext B.H B.F H' F'∧Ext H1 F1 H' F'∧EnvR X.K H' F' ρ' σ'∧R X.K H' F' G'∧Reps X.K H' F' acc ys∧compLoop step g (items.drop i) acc ρ' G' fin,
  ⟨items.length,by simp,Nat.zero_le _,_,F1,G1,[],e0.trans x1,Ext.refl _ _,(henv.ext x1).cap cap,r1,rfl,q⟩,?_⟩
 rintro i m ys σ' H' ⟨rfl,hle,ρ',F',G',acc,eB,e1,he',r',ra,hl⟩
 by_cases hlt:i < items.length
 ·have hd:items.drop i=items[i]::items.drop (i+1):=List.drop_eq_getElem_cons hlt
  rw[hd]at hl
  obtain ⟨hh,hz,hl⟩:=hl
  refine .inr ⟨W.go H' F' G' i e1 r' hh hlt,by rw[←ra.length];exact Nat.lt_of_lt_of_le hz szl,fun cl C s₁ H₁ fp pn=>?_⟩
  have S':=S.comp (scope:=scope) hn cl C s₁ H₁ fp pn
  refine ⟨_,_,_,oU S' tg hg,T3 S' (iht S') hi,ihe S' he,fun x H2 hy=>?_⟩
  obtain ⟨xy,ry,rx⟩:=W.yld H' F' i x H2 items[i] G' e1 r' hh (by simp[hlt]) hy
  refine ⟨ρ',F',G',items[i],eB.trans xy,he'.ext xy,ry,rx,d7 (fun ρ1 z σ1 hσ1=>?_) tg hl⟩
  refine il (eB.trans xy) hσ1 ry z fun b G2 H3 F3 z e3 x3 he3 r3=>?_
  cases b with
  |true=>
   rw[if_pos rfl]
   refine aH e3 he3 r3 z fun y G4 H4 F4 v z e4 x4 he4 r4 rv=>?_
   exact ⟨items.length - (i+1),by omega,rfl,hlt,ρ1,F4,G4,acc++[y],e4,e1.trans (xy.trans (x3.trans x4)),he4,r4,(Reps.ext (xy.trans (x3.trans x4)) ra).append (Reps.cons rv Reps.nil),z⟩
  |false=>
   rw[if_neg Bool.false_ne_true]
   exact ⟨items.length - (i+1),by omega,rfl,hlt,ρ1,F3,G2,acc,e3,e1.trans (xy.trans x3),he3,r3,Reps.ext (xy.trans x3) ra,z⟩
 ·have hi':i=items.length:=by omega
  subst hi'
  rw[List.drop_length]at hl
  obtain ⟨hh,hz,hl⟩:=hl
  refine .inl ⟨W.stop H' F' G' e1 r' hh,by rw[←ra.length];exact cP hz,fun p hp=>?_⟩
  exact eV (dB (fun d G' z=>PV.later z (x1.trans e1)) hl) r' ra p hp
structure CompC(c:CT)(elt:Ex)(tg:Tg)(it:It')(cond:Tx)(N':List Str)(cap:List (Option Nat))(elt' tg' iter:Expr)(ifs:List Expr)(scope:Scope):Prop where
 it:bC c it tg' iter=true
 cap:eX c.N scope N' cap=true
 sc:ie c scope=true
 nd:dC N'=true
 tg:bU (c.comp N' scope) tg tg'=true
 cd:jg (c.comp N' scope) cond ifs=true
 el:ak (c.comp N' scope) elt elt'=true
theorem yV(S:Stat Φ CX k c E B X){scope:Scope}(h:ie c scope=true):scope.names.all (fun y=>y.2 != NameKind.cell)=true∧scope.names.all (fun y=>y.2 != NameKind.local||scope.names.lookup y.1==some NameKind.local)=true∧
  scope.names.all (fun y=>y.2 != NameKind.free||(X.env.kindOf y.1==some NameKind.cell||X.env.kindOf y.1==some NameKind.free))=true∧scope.kind=.function:=by
 unfold ie at h
 simp only[Bool.and_eq_true,decide_eq_true_iff]at h
 obtain ⟨⟨⟨⟨h1,h2⟩,h3⟩,h4⟩,_⟩:=h
 refine ⟨h1,h2,?_,h4⟩
 rw[List.all_eq_true]at h3 ⊢
 intro y hy
 have:=h3 y hy
 rw[Bool.or_eq_true,Bool.or_eq_true,beq_iff_eq,beq_iff_eq]at this
 rw[Bool.or_eq_true,Bool.or_eq_true,beq_iff_eq,beq_iff_eq]
 rcases this with q |q
 ·exact .inl q
 ·exact .inr (S.cel y.1 q)
theorem yW{fz:Bool}{elt:Ex}{tg:Tg}{it:It'}{cond:Tx}{N:List String}{cap:List (Option Nat)}{e:Expr}(h:ak c (.comp fz elt tg it cond N cap) e=true):
  ∃elt' tg' iter ifs scope pos,e=.ListComp elt' [⟨tg',iter,ifs,0⟩] scope pos∧CompC c elt tg it cond (N.map Str.ofString) cap elt' tg' iter ifs scope:=by
 replace h:=yD h
 obtain ⟨_,_,_,_,_,_,_,rfl,h⟩:=h
 simp only[Bool.and_eq_true,decide_eq_true_iff]at h
 obtain ⟨⟨⟨⟨⟨⟨⟨h1,h2⟩,h3⟩,h4⟩,h5⟩,h6⟩,h7⟩,h8⟩:=h
 subst h1
 exact ⟨_,_,_,_,_,_,rfl,h2,h3,h4,h5,h6,h7,h8⟩
theorem sS{it:It'}{tg' iter:Expr}(h:bC c it tg' iter=true)(env:Env)(x:Value):foldedSetIterable iter env x=pure x:=by
 cases it with
 |seq y=>exact R4 (bA y (show ak c y iter=true from h)) env x
 |rng a=>obtain ⟨_,_,_,_,rfl,_⟩:=yE h;rfl
 |rng2 _ _=>exact nomatch (show false=true from h)
 |rev _=>exact nomatch (show false=true from h)
 |dwn _ _ _=>exact nomatch (show false=true from h)
 |enm a=>obtain ⟨_,_,_,_,_,_,_,_,rfl,_⟩:=yF h;rfl
 |zip a b=>obtain ⟨_,_,_,_,_,_,_,_,_,rfl,_⟩:=yG h;rfl
theorem T4(S:Stat Φ CX k c E B X){fz:Bool}{elt:Ex}{tg:Tg}{it:It'}{cond:Tx}{N:List String}{cap:List (Option Nat)}
  (ihe:∀{c':CT}{X':Cx},Stat Φ CX k c' noE B X'→OkE Φ c' noE B X' elt) (iht:∀{c':CT}{X':Cx},Stat Φ CX k c' noE B X'→OkT Φ c' noE B X' cond)
  (ihi:∀{tg' iter:Expr},bC c it tg' iter=true→PI X tg' iter (tI X.K B (wpI Φ it E))) {e:Expr} (h:ak c (.comp fz elt tg it cond N cap) e=true):
  PE X e (tE X.K B (wpE Φ (.comp fz elt tg it cond N cap) E)):=by
 obtain ⟨elt',tg',iter,ifs,scope,pos,rfl,C⟩:=yW h
 obtain ⟨s1,s2,s3,s4⟩:=yV S C.sc
 refine peI (Ot (N.map Str.ofString) cap S.calm (ihi C.it) (oZ S.N C.cap) s1 s2 s3 s4 (sS C.it X.env)) fun σ H Q hq=>el hq fun ρ F G e0 he r hw=>?_
 rw[q9]at hw
 exact yU S C.nd (fun S'=>ihe S') (fun S'=>iht S') C.tg C.cd C.el e0 he r hw
theorem bz{x:Ex}(ih:OkE Φ c E B X x)(hn:∀l os rs pos,ak c x (.Compare l os rs pos)=true→False){e:Expr}(h:bc c (.val x) e=true):PT X e (tB' X.K B (wpT Φ (.val x) E)):=by
 have h:((fZ e||jf e)&&ak c x e&&xY x)=true:=h
 simp only[Bool.and_eq_true,Bool.or_eq_true]at h
 obtain ⟨⟨h1,h2⟩,h3⟩:=h
 rcases h1 with h1 |h1
 ·exact Td ih h1 h2
 ·obtain ⟨⟨t,ht⟩,_⟩:=Option.isSome_iff_exists.mp h1
  rw[ht]at h2
  exact (hn _ _ _ _ h2).elim
end
mutual
theorem az{Φ:aj}{CX:CXT}{k:Nat}{B:Bs}:∀(x:Ex){c:CT}{E:EK}{X:Cx},Stat Φ CX k c E B X→OkE Φ c E B X x
 |.var i,c,E,X,S=>by intro h;exact R7 S h
 |.cst d,c,E,X,S=>by intro h;exact R8 S h
 |.glb x d,c,E,X,S=>by intro h;exact R9 S h
 |.bin op fz a b,c,E,X,S=>by intro h;exact Sd S (az a S) (az b S) h
 |.neg a,c,E,X,S=>by intro h;exact Sg S (az a S) h
 |.cmp op a b,c,E,X,S=>by intro h;exact (yM S (az a S) (az b S) h).1
 |.chn op op' a b d,c,E,X,S=>by intro h;exact (yN S (az a S) (az b S) (az d S) h).1
 |.not a,c,E,X,S=>by intro h;exact Sh S (az a S) h
 |.boo isAnd e es,c,E,X,S=>by intro h;exact S9 (az e S) (dg es S) h
 |.ife t a b,c,E,X,S=>by intro h;exact Tc (fu t S) (az a S) (az b S) h
 |.tup es,c,E,X,S=>by intro h;exact Sq S (EachE.oks (dg es S)) h
 |.lst fz es,c,E,X,S=>by intro h;exact Ss S (EachE.oks (dg es S)) h
 |.idx a i,c,E,X,S=>by intro h;exact Su S (az a S) (az i S) h
 |.slc fz a lo hi,c,E,X,S=>by intro h;exact Sv S (az a S) (yZ lo S) (yZ hi S) h
 |.rvs fz a s,c,E,X,S=>by intro h;exact Sw S (az a S) (az s S) h
 |.call f es,c,E,X,S=>by intro h;exact SJ S (EachE.oks (dg es S)) h
 |.bcl f es,c,E,X,S=>by intro h;exact SM S (EachE.oks (dg es S)) h
 |.lcl fz f es,c,E,X,S=>by intro h;exact SN S (EachE.oks (dg es S)) h
 |.isi a t,c,E,X,S=>by intro h;exact SX S (az a S) h
 |.isx a C xs,c,E,X,S=>by intro h;exact S5 S (az a S) h
 |.fst es,c,E,X,S=>by intro h;exact S8 S (dg es S) h
 |.mth m o es,c,E,X,S=>by intro h;exact S7 S (az o S) (EachE.oks (dg es S)) h
 |.comp fz elt tg it cond N cap,c,E,X,S=>by intro h;exact T4 S (fun S'=>az elt S') (fun S'=>fu cond S') (sU it S) h
 |.frz a,c,E,X,S=>by intro h;exact Sy S (az a S) h
theorem dg{Φ:aj}{CX:CXT}{k:Nat}{B:Bs}:∀(x:Exs){c:CT}{E:EK}{X:Cx},Stat Φ CX k c E B X→EachE Φ c E B X x
 |.nil,_,_,_,_=>trivial
 |.cons e es,c,E,X,S=>⟨az e S,dg es S⟩
theorem fu{Φ:aj}{CX:CXT}{k:Nat}{B:Bs}:∀(x:Tx){c:CT}{E:EK}{X:Cx},Stat Φ CX k c E B X→OkT Φ c E B X x
 |.not t,c,E,X,S=>by intro h;exact Te (fu t S) h
 |.boo isAnd t ts,c,E,X,S=>by intro h;exact Tf (fu t S) (yX ts S) h
 |.yes,c,E,X,S=>by intro h;exact nomatch (show false=true from h)
 |.val (.cmp op a b),c,E,X,S=>by
  intro h
  have h:((fZ _||jf _)&&ak c (.cmp op a b) _&&true)=true:=h
  simp only[Bool.and_eq_true]at h
  exact (yM S (az a S) (az b S) h.1.2).2
 |.val (.chn op op' a b d),c,E,X,S=>by
  intro h
  have h:((fZ _||jf _)&&ak c (.chn op op' a b d) _&&true)=true:=h
  simp only[Bool.and_eq_true]at h
  exact (yN S (az a S) (az b S) (az d S) h.1.2).2
 |.val (.frz a),c,E,X,S=>by
  intro h
  have h:((fZ _||jf _)&&ak c (.frz a) _&&false)=true:=h
  rw[Bool.and_false]at h;cases h
 |.val (.var i),c,E,X,S=>by intro h;exact bz (az (.var i) S) (fun _ _ _ _ h=>nomatch (show false=true from h)) h
 |.val (.cst d),c,E,X,S=>by intro h;exact bz (az (.cst d) S) (fun _ _ _ _ h=>nomatch (show false=true from h)) h
 |.val (.glb x d),c,E,X,S=>by intro h;exact bz (az (.glb x d) S) (fun _ _ _ _ h=>nomatch (show false=true from h)) h
 |.val (.bin op fz a b),c,E,X,S=>by intro h;exact bz (az (.bin op fz a b) S) (fun _ _ _ _ h=>nomatch (show false=true from h)) h
 |.val (.neg a),c,E,X,S=>by intro h;exact bz (az (.neg a) S) (fun _ _ _ _ h=>nomatch (show false=true from h)) h
 |.val (.not a),c,E,X,S=>by intro h;exact bz (az (.not a) S) (fun _ _ _ _ h=>nomatch (show false=true from h)) h
 |.val (.boo isAnd e es),c,E,X,S=>by intro h;exact bz (az (.boo isAnd e es) S) (fun _ _ _ _ h=>nomatch (show false=true from h)) h
 |.val (.ife t a b),c,E,X,S=>by intro h;exact bz (az (.ife t a b) S) (fun _ _ _ _ h=>nomatch (show false=true from h)) h
 |.val (.tup es),c,E,X,S=>by intro h;exact bz (az (.tup es) S) (fun _ _ _ _ h=>nomatch (show false=true from h)) h
 |.val (.lst fz es),c,E,X,S=>by intro h;exact bz (az (.lst fz es) S) (fun _ _ _ _ h=>nomatch (show false=true from h)) h
 |.val (.idx a i),c,E,X,S=>by intro h;exact bz (az (.idx a i) S) (fun _ _ _ _ h=>nomatch (show false=true from h)) h
 |.val (.slc fz a lo hi),c,E,X,S=>by intro h;exact bz (az (.slc fz a lo hi) S) (fun _ _ _ _ h=>nomatch (show false=true from h)) h
 |.val (.rvs fz a s),c,E,X,S=>by intro h;exact bz (az (.rvs fz a s) S) (fun _ _ _ _ h=>nomatch (show false=true from h)) h
 |.val (.call f es),c,E,X,S=>by intro h;exact bz (az (.call f es) S) (fun _ _ _ _ h=>nomatch (show false=true from h)) h
 |.val (.bcl f es),c,E,X,S=>by intro h;exact bz (az (.bcl f es) S) (fun _ _ _ _ h=>nomatch (show false=true from h)) h
 |.val (.lcl fz f es),c,E,X,S=>by intro h;exact bz (az (.lcl fz f es) S) (fun _ _ _ _ h=>nomatch (show false=true from h)) h
 |.val (.isx a C xs),c,E,X,S=>by intro h;exact bz (az (.isx a C xs) S) (fun _ _ _ _ h=>nomatch (show false=true from h)) h
 |.val (.fst es),c,E,X,S=>by intro h;exact bz (az (.fst es) S) (fun _ _ _ _ h=>nomatch (show false=true from h)) h
 |.val (.isi a t),c,E,X,S=>by intro h;exact bz (az (.isi a t) S) (fun _ _ _ _ h=>nomatch (show false=true from h)) h
 |.val (.mth m o es),c,E,X,S=>by intro h;exact bz (az (.mth m o es) S) (fun _ _ _ _ h=>nomatch (show false=true from h)) h
 |.val (.comp fz elt tg it cond N cap),c,E,X,S=>by intro h;exact bz (az (.comp fz elt tg it cond N cap) S) (fun _ _ _ _ h=>nomatch (show false=true from h)) h
theorem yX{Φ:aj}{CX:CXT}{k:Nat}{B:Bs}:∀(x:Txs){c:CT}{E:EK}{X:Cx},Stat Φ CX k c E B X→oN Φ c E B X x
 |.nil,_,_,_,_=>trivial
 |.cons e es,c,E,X,S=>⟨fu e S,yX es S⟩
theorem yZ{Φ:aj}{CX:CXT}{k:Nat}{B:Bs}:∀(x:Ox){c:CT}{E:EK}{X:Cx},Stat Φ CX k c E B X→∀y,x=.ob y→OkE Φ c E B X y
 |.no,c,E,X,S,y,e=>by cases e
 |.ob z,c,E,X,S,y,e=>by injection e with e;subst e;exact az z S
theorem sU{Φ:aj}{CX:CXT}{k:Nat}{B:Bs}:∀(x:It'){c:CT}{E:EK}{X:Cx},Stat Φ CX k c E B X→∀{tg e:Expr},bC c x tg e=true→PI X tg e (tI X.K B (wpI Φ x E))
 |.seq y,c,E,X,S,tg,e,h=>Tv (az y S) (show ak c y e=true from h)
 |.rng a,c,E,X,S,tg,e,h=>Tw S (az a S) h
 |.rng2 a b,c,E,X,S,tg,e,h=>TQ S (az a S) (az b S) h
 |.rev a,c,E,X,S,tg,e,h=>Tz S (az a S) h
 |.dwn a b d,c,E,X,S,tg,e,h=>TF S (az a S) (az b S) (az d S) h
 |.enm a,c,E,X,S,tg,e,h=>TV S (az a S) h
 |.zip a b,c,E,X,S,tg,e,h=>TY S (az a S) (az b S) h
end
end RF
namespace RF
open PySem PySem.Spec PyProof.Rows L2
def EnD(K:PySem.W.Frag)(H:Hp)(F:FZ)(D:Ends):En where
 nx:=fun ρ G'=>∀H' F' σ',Ext H F H' F'→EnvR K H' F' ρ σ'→R K H' F' G'→D.nx σ' H'
 rt:=PV K H F D.rt
 bk:=fun ρ G'=>∀H' F' σ',Ext H F H' F'→EnvR K H' F' ρ σ'→R K H' F' G'→D.bk σ' H'
 ct:=fun ρ G'=>∀H' F' σ',Ext H F H' F'→EnvR K H' F' ρ σ'→R K H' F' G'→D.ct σ' H'
theorem EnD.later{K:PySem.W.Frag}{H H1:Hp}{F F1:FZ}{D:Ends}(x:Ext H F H1 F1):(EnD K H F D).Le (EnD K H1 F1 D):=
 ⟨fun _ _ h H' F' σ' x1=>h H' F' σ' (x.trans x1),fun _ _ h=>PV.later h x,fun _ _ h H' F' σ' x1=>h H' F' σ' (x.trans x1),fun _ _ h H' F' σ' x1=>h H' F' σ' (x.trans x1)⟩
def tS(K:PySem.W.Frag)(B:Bs)(w:aa→DH→En→Prop):TS:=fun D σ H=>∃ρ F G,Ext B.H B.F H F∧EnvR K H F ρ σ∧R K H F G∧w ρ G (EnD K H F D)
theorem psI{X:Cx}{st:Stmt}{t t':TS}(h:PS X st t)(i:∀D σ H,t' D σ H→t D σ H):PS X st t':=fun pins s σ H D I q=>h pins s σ H D I (i D σ H q)
theorem za{X:Cx}{st:List Stmt}{t t':TS}(h:PSs X st t)(i:∀D σ H,t' D σ H→t D σ H):PSs X st t':=fun pins s σ H D I q=>h pins s σ H D I (i D σ H q)
theorem sV{e:Expr}(h:cD e=false)(t:Option Expr)(n:Nat)(env:Env):swapsWith e t n env=pure false:=by
 cases e <;> first |rfl |exact nomatch (show true=false from h)
theorem zb{e:Expr}(h:cD e=false)(t:Expr)(n:Nat)(env:Env):swapsWithSole [t] e n env=pure false:=sV h _ _ _
section
variable {Φ:aj} {CX:CXT} {k:Nat} {c:CT} {E:EK} {B:Bs} {X:Cx}
abbrev OkS(Φ:aj)(c:CT)(E:EK)(B:Bs)(X:Cx)(x:Sx):Prop:=∀{st:Stmt},aV c x st=true→PS X st (tS X.K B (wpS Φ x E))
abbrev iy(Φ:aj)(c:CT)(E:EK)(B:Bs)(X:Cx)(x:Sxs):Prop:=∀{st:List Stmt},aD c x st=true→PSs X st (tS X.K B (aq Φ x E))
theorem T5(S:Stat Φ CX k c E B X){x:Ex}{st:Stmt}(h:aV c (.exp x) st=true):PS X st (tS X.K B (wpS Φ (.exp x) E)):=by
 replace h:=RJ h
 obtain ⟨_,_,rfl,h⟩:=h
 ·rw[Bool.and_eq_true]at h
  refine psI (Kq (az x S h.2) (sV (by simpa using h.1) _ _ _)) fun D σ H hq=>el hq fun ρ F G e0 he r hw=>?_
  rw[mW]at hw
  exact aH e0 he r hw fun d G1 H1 F1 v q e1 x1 he1 r1 rv=>q _ _ _ x1 he1 r1
theorem T6(S:Stat Φ CX k c E B X){i:Nat}{x:Ex}{st:Stmt}(h:aV c (.asg (.nm i) x) st=true):PS X st (tS X.K B (wpS Φ (.asg (.nm i) x) E)):=by
 replace h:=yH h
 obtain ⟨tg,e,pos,rfl,h⟩:=h
 ·simp only[Bool.and_eq_true]at h
  obtain ⟨⟨h1,h2⟩,h3⟩:=h
  have h3:(!cD e||xZ x)=true:=h3
  replace h1:=rZ h1
  obtain ⟨y,py,rfl,h1⟩:=h1
  ·rw[Bool.and_eq_true,beq_iff_eq]at h1
   obtain ⟨l,f⟩:=S.sto y h1.2
   have hi:X.N[i]?=some y:=by rw[S.N];exact h1.1
   have go:∀(D:Ends)(σ:L2.St)(H:Hp),tS X.K B (wpS Φ (.asg (.nm i) x) E) D σ H→kO (tE X.K B (wpE Φ x E)) (kJ i) D σ H:=fun D σ H hq=>el hq fun ρ F G e0 he r hw=>by
    rw[gU]at hw
    refine aH e0 he r hw fun d G1 H1 F1 v q e1 x1 he1 r1 rv=>?_
    unfold aQ at q
    exact q _ _ _ x1 (he1.set rv i) r1
   cases hc:cD e with
   |false=>exact psI (kW S.nd hi l (az x S h2) (sV hc _ _ _) f) go
   |true=>
    rw[hc,Bool.not_true,Bool.false_or]at h3
    cases x with
    |comp fz elt tg it cond N cap=>
     obtain ⟨elt',tg',iter,ifs,scope,pos',rfl,C⟩:=yW h2
     obtain ⟨s1,s2,s3,s4⟩:=yV S C.sc
     have hb:∃b:Bool,swapsWith (.ListComp elt' [⟨tg',iter,ifs,0⟩] scope pos') (some (.Name y py)) pos.line X.env=pure b:=⟨_,rfl⟩
     obtain ⟨b,hb⟩:=hb
     cases b with
     |false=>exact psI (kW S.nd hi l (az _ S h2) hb f) go
     |true=>
      refine psI (Ou S.nd hi l (N.map Str.ofString) cap S.calm (sU it S C.it) (oZ S.N C.cap) s1 s2 s3 s4 (sS C.it X.env) hb f) fun D σ H hq=>el hq fun ρ F G e0 he r hw=>?_
      rw[gU]at hw
      rw[q9]at hw
      refine yU (fz:=fz) (Q:=fun v H1=>D.nx (σ.set i (some v)) H1) S C.nd (fun S'=>az elt S') (fun S'=>fu cond S') C.tg C.cd C.el e0 he r (iY it (fun items g G1 q=>?_) hw)
      refine nG (fun d ρ' G' k1 k2 hk z=>d7 (fun ρ1 z=>cC cond (fun b G2 z=>by
       cases b with
       |true=>exact aA elt (fun y G3 z=>hk _ _ _ z) z
       |false=>exact hk _ _ _ z) z) tg z) ?_ _ _ _ _ q
      ·intro ds G2 q
       refine dB (fun d G3 q=>?_) q
       intro H1 F1 v x1 r1 rv
       unfold aQ at q
       exact q _ _ _ x1 ((he.ext x1).set rv i) r1
    |_=>cases h3
theorem T7(S:Stat Φ CX k c E B X){ts:Tgs}{x:Ex}{st:Stmt}(h:aV c (.asg (.tp ts) x) st=true):PS X st (tS X.K B (wpS Φ (.asg (.tp ts) x) E)):=by
 replace h:=yH h
 obtain ⟨tg,e,pos,rfl,h⟩:=h
 ·rw[Bool.and_eq_true,Bool.and_eq_true]at h
  have h34:(!yc e&&!cD e)=true:=h.2
  obtain ⟨h1,h2⟩:=h.1
  rw[Bool.and_eq_true,Bool.not_eq_true',Bool.not_eq_true']at h34
  obtain ⟨h3,h4⟩:=h34
  have hg:=oU S (.tp ts) h1
  replace h1:=sr h1
  obtain ⟨_,_,_,rfl,h1⟩:=h1
  ·refine psI (uQ (az x S h2) hg (zb h4 _ _ _) ?_ rfl) fun D σ H hq=>el hq fun ρ F G e0 he r hw=>?_
   ·cases e <;> first |rfl |exact nomatch (show true=false from h3)
   ·rw[gU]at hw
    refine aH e0 he r hw fun d G1 H1 F1 v q e1 x1 he1 r1 rv=>?_
    exact ⟨ρ,F1,G1,d,e1,he1,r1,rv,d7 (fun ρ' z σ' hσ=>z H1 F1 σ' x1 hσ r1) (.tp ts) q⟩
theorem T8(S:Stat Φ CX k c E B X){o i x:Ex}{st:Stmt}(h:aV c (.set o i x) st=true):PS X st (tS X.K B (wpS Φ (.set o i x) E)):=by
 replace h:=RK h
 obtain ⟨o',i',tpos,e,pos,rfl,h⟩:=h
 ·simp only[Bool.and_eq_true,Bool.not_eq_true']at h
  obtain ⟨⟨⟨h1,h2⟩,h3⟩,h4⟩:=h
  have hi:=bA i h2
  refine psI (uQ (az x S h3) (K1 (az o S h1) (az i S h2) Rc ?_) (zb h4 _ _ _) ?_ rfl) fun D σ H hq=>el hq fun ρ F G e0 he r hw=>?_
  ·intro v
   cases i' <;> first |rfl |exact nomatch (show false=true from hi)
  ·cases e <;> rfl
  ·rw[mX]at hw
   refine aH e0 he r hw fun d G1 H1 F1 v q e1 x1 he1 r1 rv=>?_
   refine aH e1 he1 r1 q fun a G2 H2 F2 w q e2 x2 he2 r2 rw'=>?_
   refine aH e2 he2 r2 q fun y G3 H3 F3 u q e3 x3 he3 r3 ru=>?_
   refine ⟨F3,G3,a,y,d,r3,rw'.ext x3,ru,rv.ext (x2.trans x3),rn (fun G4 q=>?_) q⟩
   intro H4 F4 x4 r4
   exact q _ _ _ (x1.trans (x2.trans (x3.trans x4))) (he3.ext x4) r4
theorem T9(S:Stat Φ CX k c E B X){i:Nat}{op:Operator}{x:Ex}{st:Stmt}(h:aV c (.aug i op x) st=true):PS X st (tS X.K B (wpS Φ (.aug i op x) E)):=nomatch (show false=true from h)
theorem Ua(S:Stat Φ CX k c E B X){o i:Ex}{op:Operator}{x:Ex}{st:Stmt}(h:aV c (.augs o i op x) st=true):PS X st (tS X.K B (wpS Φ (.augs o i op x) E)):=nomatch (show false=true from h)
theorem Ub(S:Stat Φ CX k c E B X){x:Ex}{st:Stmt}(h:aV c (.ret x) st=true):PS X st (tS X.K B (wpS Φ (.ret x) E)):=by
 replace h:=RV h
 obtain ⟨_,_,rfl,h⟩:=h
 ·refine psI (Ks (az x S h)) fun D σ H hq=>el hq fun ρ F G e0 he r hw=>?_
  rw[mY]at hw
  exact ⟨ρ,F,G,e0,he,r,hw⟩
theorem Uc{st:Stmt}(h:aV c .rtn st=true):PS X st (tS X.K B (wpS Φ .rtn E)):=by
 replace h:=RW h
 obtain ⟨_,rfl,h⟩:=h
 ·refine psI Kv fun D σ H hq=>el hq fun ρ F G e0 he r hw=>?_
  rw[mZ]at hw
  exact hw.now r rfl
theorem Ud(S:Stat Φ CX k c E B X){t:Tx}{a b:Sxs}(iha:iy Φ c E B X a)(ihb:iy Φ c E B X b){st:Stmt}(h:aV c (.ite t a b) st=true):PS X st (tS X.K B (wpS Φ (.ite t a b) E)):=by
 replace h:=RX h
 obtain ⟨_,_,_,_,rfl,h⟩:=h
 ·simp only[Bool.and_eq_true]at h
  obtain ⟨⟨h1,h2⟩,h3⟩:=h
  refine psI (Ky (fu t S h1) (iha h2) (ihb h3)) fun D σ H hq=>el hq fun ρ F G e0 he r hw=>?_
  rw[m5]at hw
  refine il e0 he r hw fun b' G1 H1 F1 q e1 x1 he1 r1=>?_
  cases b' with
  |true=>
   rw[if_pos rfl]
   exact ⟨ρ,F1,G1,e1,he1,r1,cO a (EnD.later x1) q⟩
  |false=>
   rw[if_neg Bool.false_ne_true]
   exact ⟨ρ,F1,G1,e1,he1,r1,cO b (EnD.later x1) q⟩
theorem Ue(S:Stat Φ CX k c E B X){t:Tg}{it:It'}{b:Sxs}(ihb:iy Φ c E B X b){st:Stmt}(h:aV c (.for_ t it b) st=true):PS X st (tS X.K B (wpS Φ (.for_ t it b) E)):=by
 replace h:=RZ h
 obtain ⟨tg,iter,body,pos,rfl,h⟩:=h
 ·simp only[Bool.and_eq_true]at h
  obtain ⟨⟨h1,h2⟩,h3⟩:=h
  refine psI (Lb S.own S.calm (sU it S h2) (oU S t h1) (ihb h3) (sS h2 X.env)) fun D σ H hq=>el hq fun ρ F G e0 he r hw=>?_
  rw[wM]at hw
  refine ⟨ρ,F,G,e0,he,r,iY it (fun items g G1 q H1 F1 J x1 r1 W=>?_) hw⟩
  let step:RF.D→aa→DH→(aa→DH→Prop)→Prop:=fun d ρ' G' k=>aQ t d ρ' G' fun ρ1=>aq Φ b E ρ1 G' { EnD X.K H F D with nx:=k,ct:=k,bk:=(EnD X.K H F D).nx }
  let P:Nat→L2.St→Hp→Prop:=fun i σ' H'=>∃ρ' F' G',Ext B.H B.F H' F'∧Ext H1 F1 H' F'∧EnvR X.K H' F' ρ' σ'∧R X.K H' F' G'∧forLoop step g (items.drop i) ρ' G' (EnD X.K H F D).nx
  refine ⟨fun i m σ' H'=>m=items.length - i∧i≤items.length∧P i σ' H',⟨items.length,by simp,Nat.zero_le _,ρ,F1,G1,e0.trans x1,Ext.refl _ _,he.ext x1,r1,q⟩,?_⟩
  rintro i m σ' H' ⟨rfl,hle,ρ',F',G',eB,e1,he',r',hl⟩
  by_cases hlt:i < items.length
  ·have hd:items.drop i=items[i]::items.drop (i+1):=List.drop_eq_getElem_cons hlt
   rw[hd]at hl
   obtain ⟨hh,hl⟩:=hl
   refine .inr ⟨W.go H' F' G' i e1 r' hh hlt,P (i+1),fun σ2 H2 p=>⟨items.length - (i+1),by omega,rfl,hlt,p⟩,fun x H2 hy=>?_⟩
   obtain ⟨xy,ry,rx⟩:=W.yld H' F' i x H2 items[i] G' e1 r' hh (by simp[hlt]) hy
   refine ⟨ρ',F',G',items[i],eB.trans xy,he'.ext xy,ry,rx,d7 (fun ρ1 z σ1 hσ1=>?_) t hl⟩
   refine ⟨ρ1,F',G',eB.trans xy,hσ1,ry,cO b (D:={ EnD X.K H F D with nx:=fun ρ' G'=>forLoop step g (items.drop (i+1)) ρ' G' (EnD X.K H F D).nx,ct:=fun ρ' G'=>forLoop step g (items.drop (i+1)) ρ' G' (EnD X.K H F D).nx,bk:=(EnD X.K H F D).nx }) ⟨fun ρ2 G2 z H3 F3 σ3 x3 he3 r3=>?_,fun d G2 z=>PV.later z (x1.trans (e1.trans xy)),fun ρ2 G2 z H3 F3 σ3 x3=>z H3 F3 σ3 (x1.trans (e1.trans (xy.trans x3))),fun ρ2 G2 z H3 F3 σ3 x3 he3 r3=>?_⟩ z⟩
   ·exact ⟨ρ2,F3,G2,eB.trans (xy.trans x3),e1.trans (xy.trans x3),he3,r3,z⟩
   ·exact ⟨ρ2,F3,G2,eB.trans (xy.trans x3),e1.trans (xy.trans x3),he3,r3,z⟩
  ·have hi':i=items.length:=by omega
   subst hi'
   rw[List.drop_length]at hl
   exact .inl ⟨W.stop H' F' G' e1 r' hl.1,hl.2 _ _ _ (x1.trans e1) he' r'⟩
theorem Ug(S:Stat Φ CX k c E B X){t:Tx}{b:Sxs}(ihb:iy Φ c E B X b){st:Stmt}(h:aV c (.whl t b) st=true):PS X st (tS X.K B (wpS Φ (.whl t b) E)):=nomatch (show false=true from h)
def tJ(K:PySem.W.Frag)(B:Bs)(w:aa→DH→(DH→Prop)→Prop):TJ:=fun σ H Q=>∃ρ F G,Ext B.H B.F H F∧EnvR K H F ρ σ∧R K H F G∧w ρ G fun G'=>∀H' F',Ext H F H' F'→R K H' F' G'→Q H'
theorem pjI{X:Cx}{ps:List Expr}{t t':TJ}{n:Nat}(h:PJ X ps t n)(i:∀σ H Q,t' σ H Q→t σ H Q):PJ X ps t' n:=fun pins s σ H Q out I hl q=>h pins s σ H Q out I hl (i σ H Q q)
theorem sW{E:EK}{ρ:aa}:∀(es:Exs){G:DH}{k k':DH→Prop},(∀G',k G'→k' G')→wpM Φ es E ρ G k→wpM Φ es E ρ G k'
 |.nil,G,k,k',h,q=>h G q
 |.cons e es,G,k,k',h,q=>by
  rw[m9]at q ⊢
  exact aA e (fun d G1 q=>⟨q.1,sW es h q.2⟩) q
theorem zc{p:Expr}(h:rT p=true):∃y k pos,p=.Constant (.str y) k pos∧y.length≤1000:=by
 obtain ⟨t,ht,h⟩:=aF h
 obtain ⟨x,hx,h⟩:=aF h
 exact ⟨x,_,_,by rw[ht,hx],of_decide_eq_true h⟩
theorem sX(S:Stat Φ CX k c E B X):∀(ps:List Expr){es:Exs},jh c es ps=true→∃n,n≤1000 * ps.length∧PJ X ps (tJ X.K B (wpM Φ es E)) n
 |[],es,h=>by
  cases es with
  |nil=>exact ⟨0,Nat.zero_le _,pjI O4 fun σ H Q hq=>el hq fun ρ F G e0 he r hw=>hw H F (Ext.refl _ _) r⟩
  |cons _ _=>exact nomatch (show false=true from h)
 |p::ps,es,h=>by
  unfold jh at h
  split at h
  ·rename_i hm
   obtain ⟨y,kk,pos,rfl,hy⟩:=zc hm
   obtain ⟨n,hn,hp⟩:=sX S ps h
   exact ⟨y.length+n,by rw[List.length_cons];omega,O5 hp⟩
  ·split at h
   ·rename_i x rr
    rw[Bool.and_eq_true]at h
    obtain ⟨t,ht,h1⟩:=aF h.1
    rw[Bool.and_eq_true,Bool.and_eq_true,Option.isNone_iff_eq_none,decide_eq_true_iff]at h1
    obtain ⟨n,hn,hp⟩:=sX S ps h.2
    refine ⟨3+n,by rw[List.length_cons];omega,?_⟩
    rw[ht,h1.1.1,h1.1.2]
    refine pjI (O6 (az x S h1.2) hp) fun σ H Q hq=>el hq fun ρ F G e0 he r hw=>?_
    rw[m9]at hw
    refine aH e0 he r hw fun d G1 H1 F1 v q e1 x1 he1 r1 rv=>?_
    obtain ⟨q1,q2⟩:=q
    unfold qL at q1
    split at q1
    ·rename_i i
     rw[Bool.and_eq_true,decide_eq_true_iff,decide_eq_true_iff]at q1
     have e2:v=.int i:=rv
     refine ⟨⟨i.toNat,by rw[e2];congr 1;omega,by omega⟩,ρ,F1,G1,e1,he1,r1,sW rr (fun G' z H' F' x' r'=>z H' F' (x1.trans x') r') q2⟩
    ·cases q1
   ·cases h
theorem Uh(S:Stat Φ CX k c E B X){C:String}{es:Exs}{st:Stmt}(h:aV c (.rse C es) st=true):PS X st (tS X.K B (wpS Φ (.rse C es) E)):=by
 replace h:=RL h
 obtain ⟨x,np,m,cpos,pos,rfl,h⟩:=h
 simp only[Bool.and_eq_true,beq_iff_eq]at h
 obtain ⟨⟨⟨e1,h1⟩,h2⟩,h3⟩:=h
 subst e1
 obtain ⟨g1,g2⟩:=cG h1
 obtain ⟨a,hm,hb,hn⟩:=S.xcl C h2
 obtain ⟨EX,_,hth,hEX⟩:=S.exc
 unfold oH at h3
 rw[Bool.or_eq_true]at h3
 rcases h3 with h3 |h3
 ·cases es with
  |cons _ _=>cases h3
  |nil=>
   obtain ⟨y,kk,p,rfl,hy⟩:=zc h3
   refine psI (wz S.calm (S.glo _ g1) hm hb hth (gw uN iK rfl) (bB g2) rfl rfl) fun D σ H hq=>el hq fun ρ F G e0 he r hw=>?_
   rw[iV,qZ]at hw
   exact ⟨show 1≤sizeLine by decide,hEX ⟨C,.non⟩ G H F hw e0 r (.ref a) none ⟨a,rfl,hn,trivial⟩⟩
 ·obtain ⟨t,ht,h3⟩:=aF h3
  rw[Bool.and_eq_true,Bool.and_eq_true,decide_eq_true_iff,decide_eq_true_iff]at h3
  obtain ⟨n,hn',hp⟩:=sX S t.1 h3.2
  rcases hps:t.1 with _ |⟨v1,_ |⟨v2,r⟩⟩
  ·rw[hps]at h3;simp at h3
  ·rw[hps]at h3;simp at h3
  ·rw[hps]at hp
   subst ht
   rw[hps]at *
   refine psI (wz S.calm (S.glo _ g1) hm hb hth (gw (O7 hp (by omega)) iK rfl) (bB g2) rfl rfl) fun D σ H hq=>el hq fun ρ F G e0 he r hw=>?_
   rw[iV]at hw
   refine ⟨ρ,F,G,e0,he,r,sW es (fun G1 q H1 F1 x1 r1 y=>⟨show 1≤sizeLine by decide,?_⟩) hw⟩
   exact hEX ⟨C,.non⟩ G1 H1 F1 q (e0.trans x1) r1 (.ref a) none ⟨a,rfl,hn,trivial⟩
theorem Stat.wish(S:Stat Φ CX k c E B X)(E':Value→Shared→Prop)(ho:PassesOwn (model X.prog X.w) X.A X.env E'):Stat Φ CX k c noE B (X.wish E'):=
 ⟨S.N,S.nd,S.calm,ho,S.kd,S.vis,S.cel,S.glo,S.sto,S.room,S.call,S.blt,S.con,⟨_,S.nox _,fun _ _ _ _ _ _ _ _ _ _ q=>q.elim,fun x G' H' F' h=>h.elim⟩,S.nox,S.xcl,S.loc,S.xis,S.trc⟩
theorem Ui(S:Stat Φ CX k c E B X){f:String}{es:Exs}{C:String}{i:Nat}{b:Bool}{st:Stmt}(h:aV c (.tryc f es C i b) st=true):PS X st (tS X.K B (wpS Φ (.tryc f es C i b) E)):=nomatch (show false=true from h)
def PNx(K:PySem.W.Frag)(H:Hp)(F:FZ)(nx:L2.St→Hp→Prop):aa→DH→Prop:=fun ρ' G'=>∀H' F' σ',Ext H F H' F'→EnvR K H' F' ρ' σ'→R K H' F' G'→nx σ' H'
def PEx(K:PySem.W.Frag)(H:Hp)(F:FZ)(ex:Value→L2.St→Hp→Prop):Xn→aa→DH→Prop:=fun x ρ' G'=>∀H' F' σ' cv od,Ext H F H' F'→EnvR K H' F' ρ' σ'→R K H' F' G'→XV K H' F' x cv od→ex cv σ' H'
def tXX(K:PySem.W.Frag)(B:Bs)(w:aa→DH→(aa→DH→Prop)→(Xn→aa→DH→Prop)→Prop):TX:=fun nx ex σ H=>∃ρ F G,Ext B.H B.F H F∧EnvR K H F ρ σ∧R K H F G∧w ρ G (PNx K H F nx) (PEx K H F ex)
theorem pxI{X:Cx}{sts:List Stmt}{t t':TX}(h:PXs X sts t)(i:∀nx ex σ H,t' nx ex σ H→t nx ex σ H):PXs X sts t':=fun pins s σ H nx ex E' I ho hE q=>h pins s σ H nx ex E' I ho hE (i nx ex σ H q)
theorem o5{B:Bs}{c:CT}{E:EK}{X:Cx}(S:Stat Φ (CX1 X.prog X.w) k c E B X):∀(b:Tb){sts:List Stmt},cF c b sts=true→PXs X sts (tXX X.K B (wpX Φ b))
 |.call f es,sts,h=>by
  obtain ⟨x,p,args,cpos,p0,rfl,h1⟩:=RP h
  simp only[Bool.and_eq_true,beq_iff_eq,List.any_eq_true]at h1
  obtain ⟨⟨⟨⟨e1,h1⟩,⟨f',n⟩,hm,e2,e3⟩,h4⟩,h5⟩:=h1
  simp only at e2 e3
  subst e1 e2 e3
  obtain ⟨g1,g2⟩:=cG h1
  obtain ⟨fa,fd,ps,F0,hk,hb,hmg⟩:=S.call _ _ hm
  cases args with
  |nil=>cases h4
  |cons e0 es0=>
   obtain ⟨x0,xs',rfl,c1,c2⟩:=gf h5
   refine pxI (O9 (ta:=tL X.K B (aL Φ (.cons x0 xs') noE)) F0 S.room (S.glo _ g1) hmg hk hb (fun E' ho=>EachE.oks (dg (.cons x0 xs') (S.wish E' ho)) h5) rfl (bB g2) (bQ e0 es0 X.env (cg (bA x0 c1))) (iu c2 X.env cpos)) fun nx ex σ H hq=>el hq fun ρ F G eB he r hw=>?_
   rw[ni]at hw
   refine bV eB he r (oM _ h5 hw) fun ds G1 H1 F1 vs q e1 x1 he1 r1 rvs=>?_
   exact ⟨by rw[←rvs.length];exact q.1,F1,G1,ds,r1,rvs,Spec.mono q.2 (fun d G2 z H2 F2 v x2 r2 _=>z H2 F2 σ (x1.trans x2) (he1.ext x2) r2) fun xn G2 z H2 F2 x2 r2 cv od hv=>z H2 F2 σ cv od (x1.trans x2) (he1.ext x2) r2 hv⟩
 |.asg i f es,sts,h=>by
  obtain ⟨y,p2,x,p,args,cpos,p0,rfl,h0,h1⟩:=RQ h
  simp only[Bool.and_eq_true,beq_iff_eq,List.any_eq_true]at h0 h1
  obtain ⟨⟨hi,hs⟩,hok⟩:=h0
  obtain ⟨⟨⟨⟨e1,h1⟩,⟨f',n⟩,hm,e2,e3⟩,h4⟩,h5⟩:=h1
  simp only at e2 e3
  subst e1 e2 e3
  obtain ⟨g1,g2⟩:=cG h1
  obtain ⟨fa,fd,ps,F0,hk,hb,hmg⟩:=S.call _ _ hm
  obtain ⟨hloc,hfn⟩:=S.sto _ hs
  cases args with
  |nil=>cases h4
  |cons e0 es0=>
   obtain ⟨x0,xs',rfl,c1,c2⟩:=gf h5
   refine pxI (Pa (i:=i) (ta:=tL X.K B (aL Φ (.cons x0 xs') noE)) F0 S.room (S.glo _ g1) hmg hk hb S.nd (by rw[S.N];exact hi) hloc hfn (fun E' ho=>EachE.oks (dg (.cons x0 xs') (S.wish E' ho)) h5) rfl (bB g2) (bQ e0 es0 X.env (cg (bA x0 c1))) (iu c2 X.env cpos)) fun nx ex σ H hq=>el hq fun ρ F G eB he r hw=>?_
   rw[nq]at hw
   refine bV eB he r (oM _ h5 hw) fun ds G1 H1 F1 vs q e1 x1 he1 r1 rvs=>?_
   exact ⟨by rw[←rvs.length];exact q.1,F1,G1,ds,r1,rvs,Spec.mono q.2 (fun d G2 z H2 F2 v x2 r2 rv=>z H2 F2 _ (x1.trans x2) (EnvR.set rv i (he1.ext x2)) r2) fun xn G2 z H2 F2 x2 r2 cv od hv=>z H2 F2 σ cv od (x1.trans x2) (he1.ext x2) r2 hv⟩
 |.ite t a b,sts,h=>by
  obtain ⟨e,xa,xb,pos,rfl,h1,h2,h3⟩:=RT h
  refine pxI (Pb (tc:=tB' X.K B (wpT Φ t noE)) (fun E' ho=>fu t (S.wish E' ho) h1) (o5 S a h2) (o5 S b h3)) fun nx ex σ H hq=>el hq fun ρ F G eB he r hw=>?_
  rw[nu]at hw
  refine il eB he r hw fun d G1 H1 F1 q e1 x1 he1 r1=>?_
  have later:∀(z:Tb),wpX Φ z ρ G1 (PNx X.K H F nx) (PEx X.K H F ex)→tXX X.K B (wpX Φ z) nx ex σ H1:=fun z q=>⟨ρ,F1,G1,e1,he1,r1,gW z (fun _ _ w H2 F2 σ2 x2=>w H2 F2 σ2 (x1.trans x2)) (fun _ _ _ w H2 F2 σ2 cv od x2=>w H2 F2 σ2 cv od (x1.trans x2)) q⟩
  cases d with
  |true=>exact later a q
  |false=>exact later b q
theorem Uj(S:Stat Φ CX k c E B X){b:Tb}{C:String}{hd:Hd}{xs:List String}{st:Stmt}(h:aV c (.tryx b C hd xs) st=true):PS X st (tS X.K B (wpS Φ (.tryx b C hd xs) E)):=by
 obtain ⟨body,cx,p1,nm,y,p2,e,p4,p5,pos,rfl,h1,h2,h3,h4,h5⟩:=RN h
 simp only[Bool.and_eq_true,beq_iff_eq]at h4
 obtain ⟨⟨ec,hc⟩,hcx⟩:=h4
 subst ec
 obtain ⟨g3,g4⟩:=cG hc
 have hne:c.xs≠[]:=fun e=>by rw[e]at hcx;cases hcx
 obtain ⟨ecx,hst,hex⟩:=S.trc hne
 subst ecx
 obtain ⟨cv,hcv,hall⟩:=S.xis C hcx
 have hcat:∃a,cv=.ref a∧X.mg (Str.ofString C)=some (.ref a)∧Cat X.K a:=by
  rcases hcv with ⟨a,e,hm,hb⟩ |⟨e,_,_⟩
  ·exact ⟨a,e,hm,Pj hb⟩
  ·rw[e]at h3;cases h3
 obtain ⟨a,rfl,ham,hca⟩:=hcat
 unfold oJ at h5
 rw[Bool.and_eq_true,Bool.and_eq_true]at h5
 obtain ⟨⟨h5,hsy⟩,hoy⟩:=h5
 obtain ⟨hloc,hfn⟩:=S.sto _ hsy
 have cls:∀{x:Xn}{H':Hp}{F':FZ}{cv:Value}{od:Option Addr},xs.contains x.cls=true→dX x.cls C=true→XV X.K H' F' x cv od→∃d,cv=.ref d∧PySem.W.mroIn X.K d (.ref a)=some true∧PySem.W.nsIn X.K mainGlobals (Str.ofString x.cls)=some (some (.ref d)):=by
  intro x H' F' cv od hx hs hv
  obtain ⟨d,rfl,hn,_⟩:=hv
  obtain ⟨c1,k1,_,k4,_⟩:=hall x.cls (List.all_eq_true.mp h2 _ (List.contains_iff_mem.mp hx))
  rw[k1]at hn
  have ed:c1=d:=by simpa using hn
  subst ed
  rw[hs]at k4
  exact ⟨c1,rfl,k4,k1⟩
 cases hd with
 |flag i v=>
  simp only[Bool.and_eq_true,beq_iff_eq,Option.isNone_iff_eq_none]at h5
  obtain ⟨⟨rfl,hi⟩,h6⟩:=h5
  obtain ⟨kk,hk,h6⟩:=aF h6
  have ek:=RM h6
  subst hk
  rw[ek]
  refine psI (Pk (o5 S b h1) hst (S.glo _ g3) ham hca S.nd (by rw[S.N];exact hi) hloc hfn rfl (bB g4)) fun D σ H hq=>el hq fun ρ F G eB he r hw=>?_
  rw[iW]at hw
  refine ⟨ρ,F,G,eB,he,r,gW b (fun ρ' G' z H' F' σ' x' he' r'=>z H' F' σ' x' he' r') (fun x ρ' G' z H' F' σ' cv od x' he' r' hv=>?_) hw⟩
  obtain ⟨z1,z2,z3,z4⟩:=z
  obtain ⟨d,e1,e2,_⟩:=cls z2 z3 hv
  exact ⟨d,e1,e2,z4 H' F' _ x' (EnvR.set (d:=.bl v) (v:=.bl v) (show V.bl v=.bl v from rfl) i he') r'⟩
 |bind n i=>
  obtain ⟨nn,hnn,h6⟩:=aM h5
  simp only[Bool.and_eq_true,beq_iff_eq]at h6
  obtain ⟨⟨⟨⟨hi,hj⟩,hkd⟩,hon⟩,h7⟩:=h6
  obtain ⟨zz,hz,h8⟩:=aF h7
  rw[beq_iff_eq]at h8
  rw[h8]at hz
  subst hz hnn
  have hnl:X.env.scope.names.lookup nn=some .local:=S.loc nn hkd
  refine psI (Pq (jn:=n) (o5 S b h1) hst hex (S.glo _ g3) ham hca S.nd (by rw[S.N];exact hi) hloc hfn (by rw[S.N];exact hj) (by rw[S.kd];exact hnl) hnl (bB hon) (yL hon) rfl (bB g4)) fun D σ H hq=>el hq fun ρ F G eB he r hw=>?_
  rw[iW]at hw
  refine ⟨ρ,F,G,eB,he,r,gW b (fun ρ' G' z H' F' σ' x' he' r'=>z H' F' σ' x' he' r') (fun x ρ' G' z H' F' σ' cv od x' he' r' hv=>?_) hw⟩
  obtain ⟨z1,z2,z3,z4⟩:=z
  obtain ⟨d,e1,e2,e3⟩:=cls z2 z3 hv
  refine ⟨d,e1,e2,fun a0 o0 hn0 hc0=>?_⟩
  have xx:Ext H' F' (upd H' a0 (.frz o0 (.own a0))) F':=cW r' hn0
  have rr:R X.K (upd H' a0 (.frz o0 (.own a0))) F' G':=r'.new hn0
  have rx:Rep X.K (upd H' a0 (.frz o0 (.own a0))) F' (.exn x.cls) (.ref a0):=⟨a0,d,rfl,⟨o0,a0,cT,hc0⟩,e3⟩
  exact z4 _ F' _ (x'.trans xx) (EnvR.unset n (EnvR.set rx i (EnvR.set rx n (he'.ext xx)))) rr
theorem Uk{st:List Stmt}(h:aD c .nil st=true):PSs X st (tS X.K B (aq Φ .nil E)):=by
 unfold aD at h
 cases st with
 |nil=>exact za Ke fun D σ H hq=>el hq fun ρ F G e0 he r hw=>by rw[gQ]at hw;exact hw _ _ _ (Ext.refl _ _) he r
 |cons _ _=>cases h
theorem Ul{x:Sx}{xs:Sxs}(ih:OkS Φ c E B X x)(ihs:iy Φ c E B X xs){st:List Stmt}(h:aD c (.cons x xs) st=true):PSs X st (tS X.K B (aq Φ (.cons x xs) E)):=by
 unfold aD at h
 split at h
 ·rw[Bool.and_eq_true]at h
  refine za (Kf (ih h.1) (ihs h.2)) fun D σ H hq=>el hq fun ρ F G e0 he r hw=>?_
  rw[gR]at hw
  refine ⟨ρ,F,G,e0,he,r,wpS_mono x (D:={ EnD X.K H F D with nx:=fun ρ' G'=>aq Φ xs E ρ' G' (EnD X.K H F D) }) ⟨fun ρ1 G1 q H1 F1 σ1 x1 he1 r1=>?_,fun _ _ z=>z,fun _ _ z=>z,fun _ _ z=>z⟩ hw⟩
  exact ⟨ρ1,F1,G1,e0.trans x1,he1,r1,cO xs (EnD.later x1) q⟩
 ·cases h
end
mutual
theorem Um{Φ:aj}{CX:CXT}{k:Nat}{B:Bs}{c:CT}{E:EK}{X:Cx}(S:Stat Φ CX k c E B X):∀(x:Sx),OkS Φ c E B X x
 |.exp e=>by intro h;exact T5 S h
 |.asg (.nm i) e=>by intro h;exact T6 S h
 |.asg (.tp ts) e=>by intro h;exact T7 S h
 |.set o i e=>by intro h;exact T8 S h
 |.aug i op e=>by intro h;exact T9 S h
 |.augs o i op e=>by intro h;exact Ua S h
 |.ret e=>by intro h;exact Ub S h
 |.rtn=>by intro h;exact Uc h
 |.ite t a b=>by intro h;exact Ud S (gh S a) (gh S b) h
 |.for_ t it b=>by intro h;exact Ue S (gh S b) h
 |.whl t b=>by intro h;exact Ug S (gh S b) h
 |.pas=>by
  intro h
  obtain ⟨_,rfl,_⟩:=R0 h
  exact psI Kl fun D σ H hq=>el hq fun ρ F G e0 he r hw=>by rw[m6]at hw;exact hw _ _ _ (Ext.refl _ _) he r
 |.brk=>by
  intro h
  obtain ⟨_,rfl,_⟩:=R1 h
  exact psI Km fun D σ H hq=>el hq fun ρ F G e0 he r hw=>by rw[m7]at hw;exact hw _ _ _ (Ext.refl _ _) he r
 |.cnt=>by
  intro h
  obtain ⟨_,rfl,_⟩:=R3 h
  exact psI Ko fun D σ H hq=>el hq fun ρ F G e0 he r hw=>by rw[m8]at hw;exact hw _ _ _ (Ext.refl _ _) he r
 |.rse C es=>by intro h;exact Uh S h
 |.tryc f es C i b=>by intro h;exact Ui S h
 |.tryx b C h xs=>by intro hh;exact Uj S hh
 |.nev=>by
  intro h
  exact psI KC fun D σ H hq=>el hq fun ρ F G e0 he r hw=>by rw[nA]at hw;exact hw.elim
theorem gh{Φ:aj}{CX:CXT}{k:Nat}{B:Bs}{c:CT}{E:EK}{X:Cx}(S:Stat Φ CX k c E B X):∀(x:Sxs),iy Φ c E B X x
 |.nil=>by intro h;exact Uk h
 |.cons s r=>by intro h;exact Ul (Um S s) (gh S r) h
end
end RF
namespace L2
open PySem PySem.Spec PyProof.Rows
theorem Fun.okX{P:Program}{w:World}{K:PySem.W.Frag}{mg:Str→Option Value}{base:Heap}{CX:CXT}{x qual:Str}{st:Stmt}{f:Addr}{fd:FuncData}{N ps:List Str}{k:Nat}{sp:Sp}(F:Fun K x qual st f fd)(S:FnScope N ps (au st))(len:∀vs H Q E,sp vs H Q E→vs.length=ps.length)
  (hbody:∀(cdv:Value)(A:Around)(outer:List Env)(s:Shared)(H:Hp)(vs:List V)(Q:VK)(E:XK),Room k (A.deeper (envOfC qual (au st) s.heap.objs.size f cdv))→sp vs H Q E→
   ∃t,PSs (dm CX P w K mg base N qual (au st) f cdv A outer s H E) (aG st) t∧t { nx:=fun _ H'=>Q .non H',rt:=Q } (start N vs) H):FnOk P w K mg base CX (k+1) f fd ps sp:=by
 obtain ⟨oc,od,kV,doc,pm,an,cdv,ct,osl,rfl,lk,hcd⟩:=F.ex
 exact Mu lk hcd S len fun A outer s H vs Q E hr hsp=>hbody cdv A outer s H vs Q E hr hsp
end L2
namespace RF
open PySem PySem.Spec PyProof.Rows L2
def fnB(N ps:List Str)(sc:Scope):Bool:=
 decide (sc.kind=.function)&&!sc.isCoroutine&&!sc.isGenerator&&dC N&&(N.take ps.length==ps)&&ps.all (fun x=>sc.names.lookup x==some .local||sc.names.lookup x==some .cell)&&sc.names.all (fun y=>y.2 != .free)
theorem sY{N ps:List Str}{sc:Scope}(h:fnB N ps sc=true):FnScope N ps sc:=by
 unfold fnB at h
 simp only[Bool.and_eq_true,Bool.not_eq_true',decide_eq_true_iff,beq_iff_eq,List.all_eq_true,Bool.or_eq_true,bne_iff_ne]at h
 obtain ⟨⟨⟨⟨⟨⟨h1,h2⟩,h3⟩,h4⟩,h5⟩,h6⟩,h7⟩:=h
 exact ⟨h1,h2,h3,sO h4,h5,h6,fun y hy=>h7 y hy⟩
structure Bse(Φ:aj)(P:Program)(w:World)(K:PySem.W.Frag)(mg:Str→Option Value)(base:Heap)(CX:CXT)(k:Nat)(fs:List (String×Nat))(bt:List String)(cn:List (String×D))(xs:List (String×Bool)):Prop where
 call:∀f n,(f,n)∈fs→∃fa fd ps,FnOk P w K mg base CX k fa fd ps (lift K n (Φ f))∧PySem.W.keepIn K (.ref fa)=true∧Binds K fd ps []∧mg (Str.ofString f)=some (.ref fa)
 blt:∀f,f∈bt→mg (Str.ofString f)=none
 con:∀x d,(x,d)∈cn→∃u v,mg (Str.ofString x)=some u∧RelV v u∧∀H F,Rep K H F d v
 xcl:∀C,xs.contains (C,true)=true→∃a,mg (Str.ofString C)=some (.ref a)∧fM K a=true∧PySem.W.nsIn K mainGlobals (Str.ofString C)=some (some (.ref a))
 xis:∀C',xs.contains (C',false)=true→∃cv,CV K mg C' cv∧∀C,xs.contains (C,true)=true→XI K C C' cv
def aJ(N:List Str)(sc:Scope)(fs:List (String×Nat))(bt:List String)(cn:List (String×D))(xs:List (String×Bool)):CT:={ N:=N,kd:=sc.names,fn:=true,fs:=fs,bt:=bt,cn:=cn,xs:=xs }
section
variable {Φ:aj} {P:Program} {w:World} {K:PySem.W.Frag} {mg:Str→Option Value} {base:Heap} {k:Nat} {fs:List (String×Nat)} {bt:List String} {cn:List (String×D)} {xs:List (String×Bool)}
theorem zf{N ps:List Str}{sc:Scope}{qual:Str}{f:Addr}{cdv:Value}{A:Around}{outer:List Env}{s:Shared}{H:Hp}{EX:XK}{B:Bs}(T:Bse Φ P w K mg base (CX1 P w) k fs bt cn xs)(hs:fnB N ps sc=true)
  (hr:Room k (A.deeper (envOfC qual sc s.heap.objs.size f cdv))):Stat Φ (CX1 P w) k (aJ N sc fs bt cn xs) noE B (dm (CX1 P w) P w K mg base N qual sc f cdv A outer s H EX).nox where
 N:=rfl
 nd:=(sY hs).nd
 calm:=rfl
 own:=PassesOwn.never
 kd:=rfl
 vis:=fun x h=>by
  have h:fY (sc.names.lookup x)=true:=h
  show sc.names.lookup x=_∨sc.names.lookup x=_∨sc.names.lookup x=_
  unfold fY at h
  split at h <;> first | (cases h;done) |simp_all
 cel:=fun x h=>h
 glo:=fun x h=>h
 sto:=fun x h=>by
  have h:(sc.names.lookup x==some .local||(true&&sc.names.lookup x==some .cell))=true:=h
  rw[Bool.true_and,Bool.or_eq_true,beq_iff_eq,beq_iff_eq]at h
  exact ⟨h,.inl rfl⟩
 room:=hr
 call:=T.call
 blt:=T.blt
 con:=T.con
 exc:=⟨_,v8 _,fun _ _ _ _ _ _ _ _ _ _ q=>q.elim,fun _ _ _ _ h=>h.elim⟩
 nox:=fun Y=>v8 Y
 xcl:=T.xcl
 loc:=fun x h=>h
 xis:=T.xis
 trc:=fun _=>⟨rfl,rfl,rfl⟩
theorem Uo{N ps:List Str}{sc:Scope}{qual:Str}{f:Addr}{cdv:Value}{A:Around}{outer:List Env}{s:Shared}{H:Hp}{EX:XK}{B:Bs}{E:EK}(T:Bse Φ P w K mg base (CX1 P w) k fs bt cn xs)(hs:fnB N ps sc=true)
  (hr:Room k (A.deeper (envOfC qual sc s.heap.objs.size f cdv))) (hE:∀x G' H' F',E x G'→Ext B.H B.F H' F'→R K H' F' G'→XR K H' F' x EX):Stat Φ (CX1 P w) k (aJ N sc fs bt cn xs) E B (dm (CX1 P w) P w K mg base N qual sc f cdv A outer s H EX):=
 have S:=zf (EX:=EX) (B:=B) (qual:=qual) (f:=f) (cdv:=cdv) (A:=A) (outer:=outer) (s:=s) (H:=H) T hs hr
 ⟨S.N,S.nd,S.calm,PassesOwn.leaving,S.kd,S.vis,S.cel,S.glo,S.sto,S.room,S.call,S.blt,S.con,⟨EX,OD rfl rfl fun _ _ h=>h,O8 rfl rfl fun _ _ h=>h,hE⟩,S.nox,S.xcl,S.loc,S.xis,fun _=>⟨rfl,rfl,rfl⟩⟩
theorem Up{outer:List Env}{H:Hp}{s s':Shared}{e:Value}(h:CX1 P w outer H s (fun _ _ _=>False) e s'):False:=by
 obtain ⟨_,_,_,_,_,_,_,_,_,q⟩:=h
 exact q
def ends(Q:D→DH→Prop):En:={ nx:=fun _ G=>Q .non G,rt:=Q,bk:=fun _ _=>False,ct:=fun _ _=>False }
def env0(ds:List D)(n:Nat):aa:=ds.map some++List.replicate n none
theorem Uq{x qual:Str}{st:Stmt}{f:Addr}{fd:FuncData}(Fu:Fun K x qual st f fd)(T:Bse Φ P w K mg base (CX1 P w) k fs bt cn xs){N ps:List Str}{body:Sxs}(S:RF.Spec)(n m:Nat)(hs:fnB N ps (au st)=true)
  (hc:aD (aJ N (au st) fs bt cn xs) body (aG st)=true) (hn:ps.length=n) (hm:N.length=n+m)
  (hw:∀ds G a,ds.length=n→S.pre ds G a→aq Φ body (S.exc a) (env0 ds m) G (ends (S.post a))):FnOk P w K mg base (CX1 P w) (k+1) f fd ps (lift K n S):=by
 refine Fu.okX (sY hs) (fun vs H Q E h=>by rw[hn];exact h.1) fun cdv A outer s H vs Q EX hr hsp=>?_
 obtain ⟨hl,F,G,ds,r,rs,a,h1,h2,h3⟩:=hsp
 have St:Stat Φ (CX1 P w) k (aJ N (au st) fs bt cn xs) (S.exc a) ⟨H,F⟩ (dm (CX1 P w) P w K mg base N qual (au st) f cdv A outer s H EX):=Uo T hs hr fun x G' H' F' hx e r'=>h3 x G' hx H' F' e r'
 refine ⟨_,gh St body hc,?_⟩
 refine ⟨env0 ds m,F,G,Ext.refl _ _,?_,r,cO body (D:=ends (S.post a)) ⟨fun ρ G' q=>?_,fun d G' q=>h2 d G' q,fun _ _ q=>False.elim q,fun _ _ q=>False.elim q⟩ (hw ds G a (by rw[rs.length];exact hl) h1)⟩
 ·unfold L2.start
  rw[show N.length - vs.length=m by omega]
  exact EnvR.start m rs
 ·intro H' F' σ' x1 _ r1
  exact h2 .non G' q H' F' .non x1 r1 rfl
theorem sZ{x qual:Str}{st:Stmt}{f:Addr}{fd:FuncData}(Fu:Fun K x qual st f fd)(T:Bse Φ P w K mg base (CX1 P w) k fs bt cn xs){N ps:List Str}{body:Sxs}(S:RF.Spec)(n m:Nat)(hs:fnB N ps (au st)=true)
  (hc:aD (aJ N (au st) fs bt cn xs) body (aG st)=true) (hn:ps.length=n) (hm:N.length=n+m)
  (hw:∀ds G a,ds.length=n→S.pre ds G a→aq Φ body noE (env0 ds m) G (ends (S.post a))):FnOk P w K mg base (CX1 P w) (k+1) f fd ps (lift K n S):=by
 refine Fu.okX (sY hs) (fun vs H Q E h=>by rw[hn];exact h.1) fun cdv A outer s H vs Q EX hr hsp=>?_
 obtain ⟨hl,F,G,ds,r,rs,a,h1,h2,h3⟩:=hsp
 have St:Stat Φ (CX1 P w) k (aJ N (au st) fs bt cn xs) noE ⟨H,F⟩ (dm (CX1 P w) P w K mg base N qual (au st) f cdv A outer s H EX).nox:=zf T hs hr
 refine ⟨_,(gh St body hc).nox,?_⟩
 refine ⟨env0 ds m,F,G,Ext.refl _ _,?_,r,cO body (D:=ends (S.post a)) ⟨fun ρ G' q=>?_,fun d G' q=>h2 d G' q,fun _ _ q=>False.elim q,fun _ _ q=>False.elim q⟩ (hw ds G a (by rw[rs.length];exact hl) h1)⟩
 ·unfold L2.start
  rw[show N.length - vs.length=m by omega]
  exact EnvR.start m rs
 ·intro H' F' σ' x1 _ r1
  exact h2 .non G' q H' F' .non x1 r1 rfl
end
end RF
namespace RF
open PySem L2
def bf(pre:List D→DH→Prop)(post:List D→DH→D→DH→Prop):RF.Spec where
 A:=List D×DH
 pre:=fun ds G a=>a=(ds,G)∧pre ds G
 post:=fun a d G'=>post a.1 a.2 d G'
 exc:=fun _ _ _=>False
theorem bD{pre:List D→DH→Prop}{post:List D→DH→D→DH→Prop}{ds:List D}{G:DH}{k:D→DH→Prop}{E:EK}(h:pre ds G)(hk:∀d G',post ds G d G'→k d G'):(bf pre post).t ds G k E:=
 ⟨(ds,G),⟨rfl,h⟩,hk,fun _ _ z=>z.elim⟩
theorem bM{Φ:aj}{body:Sxs}{m n:Nat}{pre:List D→DH→Prop}{post:List D→DH→D→DH→Prop}(h:∀ds G,pre ds G→aq Φ body noE (env0 ds m) G (ends (post ds G))):
  ∀ds G a,ds.length=n→(bf pre post).pre ds G a→aq Φ body noE (env0 ds m) G (ends ((bf pre post).post a)):=by
 rintro ds G a _ ⟨rfl,h1⟩
 exact h ds G h1
def aN(f:List D→Option D):RF.Spec:=bf (fun ds _=>(f ds).isSome=true) (fun ds G d G'=>G'=G∧f ds=some d)
theorem cj{f:List D→Option D}{ds:List D}{d:D}{G:DH}{k:D→DH→Prop}{E:EK}(h:f ds=some d)(hk:k d G):(aN f).t ds G k E:=
 bD (by rw[h];rfl) fun d' G' ⟨e1,e2⟩=>by rw[h]at e2;cases e2;rw[e1];exact hk
theorem dG{Φ:aj}{body:Sxs}{m n:Nat}{f:List D→Option D}(h:∀ds G d,f ds=some d→aq Φ body noE (env0 ds m) G (ends fun d' G'=>G'=G∧d'=d)):
  ∀ds G a,ds.length=n→(aN f).pre ds G a→aq Φ body noE (env0 ds m) G (ends ((aN f).post a)):=by
 refine bM fun ds G hf=>?_
 obtain ⟨d,e⟩:=Option.isSome_iff_exists.mp hf
 refine cO body (D:=ends fun d' G'=>G'=G∧d'=d) ⟨fun ρ G' q=>?_,fun d' G' q=>?_,fun _ _ q=>q,fun _ _ q=>q⟩ (h ds G d e)
 ·exact ⟨q.1,by rw[e];exact congrArg some q.2.symm⟩
 ·exact ⟨q.1,by rw[e];exact congrArg some q.2.symm⟩
theorem Ur{step:D→aa→DH→(aa→DH→Prop)→Prop}{g:Hld}{items:List D}{ρ:aa}{G:DH}{k:aa→DH→Prop}(P:Nat→aa→DH→Prop)(h0:P 0 ρ G)(hh:∀i ρ G,P i ρ G→held g G)
  (hs:∀i d ρ G,items[i]?=some d→P i ρ G→∀kk:aa→DH→Prop,(∀ρ' G',P (i+1) ρ' G'→kk ρ' G')→step d ρ G kk) (he:∀ρ G,P items.length ρ G→k ρ G):forLoop step g items ρ G k:=by
 have go:∀(l:List D)(i:Nat)(ρ:aa)(G:DH),items.drop i=l→i≤items.length→P i ρ G→forLoop step g l ρ G k:=by
  intro l
  induction l with
  |nil=>
   intro i ρ G e hi p
   have:i=items.length:=by
    have:=congrArg List.length e
    rw[List.length_drop]at this
    simp at this
    omega
   subst this
   exact ⟨hh _ _ _ p,he _ _ p⟩
  |cons d l ih=>
   intro i ρ G e hi p
   have hl:i < items.length:=by
    by_cases h:i < items.length
    ·exact h
    ·rw[List.drop_eq_nil_of_le (by omega)]at e;cases e
   rw[List.drop_eq_getElem_cons hl]at e
   injection e with e1 e2
   refine ⟨hh _ _ _ p,hs i d ρ G (by rw[List.getElem?_eq_getElem hl,e1]) p _ fun ρ' G' p'=>ih (i+1) ρ' G' e2 hl p'⟩
 exact go _ 0 ρ G (by simp) (Nat.zero_le _) h0
theorem zg{step:D→aa→DH→(Option D→aa→DH→Prop)→Prop}{g:Hld}{items acc:List D}{ρ:aa}{G:DH}{k:List D→DH→Prop}(P:Nat→List D→aa→DH→Prop)(h0:P 0 acc ρ G)(hh:∀i acc ρ G,P i acc ρ G→held g G)
  (hl:acc.length+items.length≤sz)
  (hs:∀i d acc ρ G,items[i]?=some d→P i acc ρ G→∀kk:Option D→aa→DH→Prop,(∀o ρ' G',P (i+1) (acc++o.toList) ρ' G'→kk o ρ' G')→step d ρ G kk) (he:∀acc ρ G,P items.length acc ρ G→k acc G):compLoop step g items acc ρ G k:=by
 have go:∀(l:List D)(i:Nat)(acc:List D)(ρ:aa)(G:DH),items.drop i=l→i≤items.length→acc.length+l.length≤sz→P i acc ρ G→compLoop step g l acc ρ G k:=by
  intro l
  induction l with
  |nil=>
   intro i acc ρ G e hi ha p
   have:i=items.length:=by
    have:=congrArg List.length e
    rw[List.length_drop]at this
    simp at this
    omega
   subst this
   exact ⟨hh _ _ _ _ p,by simpa using ha,he _ _ _ p⟩
  |cons d l ih=>
   intro i acc ρ G e hi ha p
   have hl:i < items.length:=by
    by_cases h:i < items.length
    ·exact h
    ·rw[List.drop_eq_nil_of_le (by omega)]at e;cases e
   rw[List.drop_eq_getElem_cons hl]at e
   injection e with e1 e2
   have ha':acc.length+(l.length+1)≤sz:=ha
   refine ⟨hh _ _ _ _ p,by omega,hs i d acc ρ G (by rw[List.getElem?_eq_getElem hl,e1]) p _ fun o ρ' G' p'=>?_⟩
   cases o with
   |some y=>exact ih (i+1) (acc++[y]) ρ' G' e2 hl (by rw[List.length_append];simp;omega) p'
   |none=>exact ih (i+1) acc ρ' G' e2 hl (by omega) (by simpa using p')
 exact go _ 0 acc ρ G (by simp) (Nat.zero_le _) hl h0
theorem zj{step:D→aa→DH→(Option D→aa→DH→Prop)→Prop}{items:List D}{ρ:aa}{G:DH}{k:List D→DH→Prop}(g:Hld)(f:D→Option D)(I:aa→Prop)(h0:I ρ)(hg:held g G)(hl:items.length≤sz)
  (hs:∀d ρ,d∈items→I ρ→∀kk:Option D→aa→DH→Prop,(∀ρ',I ρ'→kk (f d) ρ' G)→step d ρ G kk) (he:k (items.filterMap f) G):compLoop step g items [] ρ G k:=by
 refine zg (fun i acc ρ' G'=>I ρ'∧G'=G∧acc=(items.take i).filterMap f) ⟨h0,rfl,rfl⟩ (fun i acc ρ' G' p=>by rw[p.2.1];exact hg) (by simpa using hl) ?_ ?_
 ·rintro i d acc ρ' G' hd ⟨p1,rfl,rfl⟩ kk hk
  refine hs d ρ' (List.mem_of_getElem? hd) p1 kk fun ρ2 i2=>hk _ _ _ ⟨i2,rfl,?_⟩
  rw[List.take_add_one,hd,List.filterMap_append]
  congr 1
 ·rintro acc ρ' G' ⟨_,rfl,rfl⟩
  rw[List.take_length]
  exact he
theorem Us{step:D→aa→DH→(Option D→aa→DH→Prop)→Prop}{items:List D}{ρ:aa}{G:DH}{k:List D→DH→Prop}(g:Hld)(f:D→D)(I:aa→Prop)(h0:I ρ)(hg:held g G)(hl:items.length≤sz)
  (hs:∀d ρ,d∈items→I ρ→∀kk:Option D→aa→DH→Prop,(∀ρ',I ρ'→kk (some (f d)) ρ' G)→step d ρ G kk) (he:k (items.map f) G):compLoop step g items [] ρ G k:=
 zj g (fun d=>some (f d)) I h0 hg hl hs (by rw[←List.filterMap_eq_map]at he;exact he)
theorem o6{α:Type}(f:α→Bool):∀l:List α,bools (l.map fun x=>D.bl (f x))=some (l.map f)
 |[]=>rfl
 |x::l=>by simp[bools,o6 f l]
theorem strs_map{α:Type}(f:α→List Nat):∀l:List α,bH (l.map fun x=>D.str (f x))=some (l.map f)
 |[]=>rfl
 |x::l=>by simp[bH,strs_map f l]
theorem zm:∀l:List (List Nat),cY [] l=l.flatten
 |[]=>rfl
 |[x]=>by simp[cY]
 |x::y::r=>by simp[cY,zm (y::r)]
def Sa(G G':DH):Prop:=∀b o,G b=some o→G' b=some o
def Sb(p:Addr)(G G':DH):Prop:=∀b o,G b=some o→b≠p→G' b=some o
theorem Sb.refl(p:Addr)(G:DH):Sb p G G:=fun _ _ h _=>h
theorem Sa.trans{G G1 G2:DH}(a:Sa G G1)(b:Sa G1 G2):Sa G G2:=fun c o h=>b c o (a c o h)
theorem Sb.trans{p:Addr}{G G1 G2:DH}(a:Sb p G G1)(b:Sb p G1 G2):Sb p G G2:=fun c o h n=>b c o (a c o h n) n
theorem Sa.sb{p:Addr}{G G':DH}(a:Sa G G'):Sb p G G':=fun c o h _=>a c o h
theorem Sa.new{G:DH}{p:Addr}{o:DO}(h:G p=none):Sa G (aR G p o):=fun b u e=>by rw[cJ (wH e h)];exact e
theorem Sb.upd{G:DH}{p:Addr}{o:DO}:Sb p G (aR G p o):=fun b u e n=>by rw[cJ n];exact e
end RF
namespace RF
open PySem L2
theorem zp{α:Type}{a:α}{l:List α}:atI (a::l) 0=some a:=dq (j:=0) rfl
theorem zq{α:Type}{a b:α}{l:List α}:atI (a::b::l) 1=some b:=dq (j:=1) rfl
theorem zr{α:Type}{a b c:α}{l:List α}:atI (a::b::c::l) 2=some c:=dq (j:=2) rfl
theorem zu{α:Type}{a b c d:α}{l:List α}:atI (a::b::c::d::l) 3=some d:=dq (j:=3) rfl
theorem Ut{n j:Nat}(h:j < n):ixN n (j:Int)=some j:=by unfold ixN;rw[if_pos (by omega),if_pos (by omega)];simp
theorem zx{n:Nat}:ixN (n+1) 0=some 0:=by unfold ixN;rw[if_pos (by omega),if_pos (by omega)];rfl
theorem zy{n:Nat}:ixN (n+2) 1=some 1:=by unfold ixN;rw[if_pos (by omega),if_pos (by omega)];rfl
theorem zA{n:Nat}:ixN (n+3) 2=some 2:=by unfold ixN;rw[if_pos (by omega),if_pos (by omega)];rfl
end RF
namespace RF
open PySem L2
theorem Uu{α:Type}{xs:List α}{i:Int}(h0:0≤i)(h1:i < xs.length):∃a,atI xs i=some a∧a∈xs:=by
 obtain ⟨n,rfl⟩:=Int.eq_ofNat_of_zero_le h0
 have hn:n < xs.length:=by omega
 exact ⟨xs[n],dq (by simp[hn]),List.getElem_mem _⟩
theorem fB{α:Type}(xs:List α)(lo hi:Option Int):(cut xs lo hi).length≤xs.length:=by
 unfold cut
 rw[List.length_take,List.length_drop]
 omega
theorem Uv{l:List D}:bh l []=l.isEmpty:=by cases l <;> rfl
theorem zB{α:Type}(l:List α)(n:Nat):cut l none (some (n:Int))=l.take n:=by
 unfold cut
 rw[show HT.sIx l.length 0 none=0 from rfl,HT.vg,List.drop_zero,Nat.sub_zero]
 by_cases h:n≤l.length
 ·rw[Nat.min_eq_left h]
 ·rw[Nat.min_eq_right (by omega),List.take_of_length_le (Nat.le_refl _),List.take_of_length_le (by omega)]
theorem zE{α:Type}(l:List α)(n:Nat):cut l (some (n:Int)) none=l.drop n:=by
 unfold cut
 rw[show HT.sIx l.length l.length none=l.length from rfl,HT.vg]
 by_cases h:n≤l.length
 ·rw[Nat.min_eq_left h,List.take_of_length_le (by rw[List.length_drop];exact Nat.le_refl _)]
 ·rw[Nat.min_eq_right (by omega),Nat.sub_self,List.take_zero,List.drop_eq_nil_of_le (by omega)]
theorem Uw{α:Type}(l:List α)(n:Nat):cut l (some ((n:Int)+1)) none=l.drop (n+1):=zE l (n+1)
theorem jl:∀{l:List D},(∀d∈l,nr d=true)→nrs l=true
 |[],_=>rfl
 |a::l,h=>by rw[nrs,h a List.mem_cons_self,jl fun d hd=>h d (List.mem_cons_of_mem _ hd)];rfl
end RF
namespace RF
end RF
namespace RF
open PySem L2
section
variable {G:DH} {k:D→DH→Prop} {fz:Bool} {kb:Bool→Prop} {kd:D→Prop} {p:Addr}
theorem zF{i j:Int}:bR .Add fz (.int i) (.int j) G k=k (.int (i+j)) G:=rfl
theorem zG{x y:List Nat}:bR .Add fz (.str x) (.str y) G k=(x.length+y.length≤sz∧k (.str (x++y)) G):=rfl
theorem zH{x y:List D}:bR .Add fz (.lst x) (.lst y) G k=(x.length+y.length≤sz∧mk fz (x++y) G k):=rfl
theorem zJ{x y:List D}:bR .Add fz (.tup x) (.tup y) G k=(x.length+y.length≤sz∧k (.tup (x++y)) G):=rfl
theorem zK{i j:Int}:bR .Sub fz (.int i) (.int j) G k=k (.int (i - j)) G:=rfl
theorem zL{i j:Int}:bR .Mult fz (.int i) (.int j) G k=(CMul i j∧k (.int (i * j)) G):=rfl
theorem zM{x:List D}{n:Int}:bR .Mult fz (.tup x) (.int n) G k=(2≤n∧n≤1000∧x≠[]∧x.length * n.toNat≤sz∧k (.tup (reps x n.toNat)) G):=rfl
theorem zN{x:List Nat}{n:Int}:bR .Mult fz (.str x) (.int n) G k=(0≤n∧n≤1000∧x.length * n.toNat≤sz∧k (.str (reps x n.toNat)) G):=rfl
theorem zO{i j:Int}:bR .FloorDiv fz (.int i) (.int j) G k=((0 < j∧j < 1152921504606846976)∧k (.int (i / j)) G):=rfl
theorem zP{i j:Int}:bR .Mod fz (.int i) (.int j) G k=(0 < j∧k (.int (i % j)) G):=rfl
theorem zQ{i j:Int}:bR .Pow fz (.int i) (.int j) G k=(lg i j∧k (.int (i ^ j.toNat)) G):=rfl
def d9:D→Bool
 |.non=>true
 |_=>false
theorem zR{a b:D}:aP .Eq a b kb=((nr a=true∧nr b=true∧min (dpt a) (dpt b)≤60)∧kb (deq a b)):=rfl
theorem zT{a b:D}:aP .NotEq a b kb=((nr a=true∧nr b=true∧min (dpt a) (dpt b)≤60)∧kb (!deq a b)):=rfl
theorem zU{i j:Int}:aP .Lt (.int i) (.int j) kb=kb (decide (i < j)):=rfl
theorem zV{i j:Int}:aP .LtE (.int i) (.int j) kb=kb (decide (i≤j)):=rfl
theorem zW{i j:Int}:aP .Gt (.int i) (.int j) kb=kb (decide (j < i)):=rfl
theorem zX{i j:Int}:aP .GtE (.int i) (.int j) kb=kb (decide (j≤i)):=rfl
theorem zY{i j:List Nat}:aP .Lt (.str i) (.str j) kb=kb (decide (i < j)):=rfl
theorem zZ{i j:List Nat}:aP .LtE (.str i) (.str j) kb=kb (!decide (j < i)):=rfl
theorem z6{a:D}:aP .Is a .non kb=kb (d9 a):=by cases a <;> rfl
theorem z7{a:D}:aP .IsNot a .non kb=kb (!d9 a):=by cases a <;> rfl
theorem z8{a b:Bool}:aP .Is (.bl a) (.bl b) kb=kb (a==b):=rfl
theorem z9{a b:Bool}:aP .IsNot (.bl a) (.bl b) kb=kb (a != b):=rfl
theorem Aa{c:Nat}{l:List Nat}:aP .In (.str [c]) (.str l) kb=kb (l.contains c):=rfl
theorem Ab{c:Nat}{l:List Nat}:aP .NotIn (.str [c]) (.str l) kb=kb (!l.contains c):=rfl
theorem Ac{a:D}{l:List D}:aP .In a (.lst l) kb=((nr a=true∧nrs l=true∧aO l≤60)∧kb (isIn a l)):=rfl
theorem Ad{a:D}{l:List D}:aP .In a (.tup l) kb=((nr a=true∧nrs l=true∧aO l≤60)∧kb (isIn a l)):=rfl
theorem Ae{a:D}{l:List D}:aP .NotIn a (.lst l) kb=((nr a=true∧nrs l=true∧aO l≤60)∧kb (!isIn a l)):=rfl
theorem Af{a:D}{l:List D}:aP .NotIn a (.tup l) kb=((nr a=true∧nrs l=true∧aO l≤60)∧kb (!isIn a l)):=rfl
theorem Ag{i:Int}:d9 (.int i)=false:=rfl
theorem Ah{i:Bool}:d9 (.bl i)=false:=rfl
theorem Ai{i:List Nat}:d9 (.str i)=false:=rfl
theorem Aj{i:List D}:d9 (.tup i)=false:=rfl
theorem Ak{i:List D}:d9 (.lst i)=false:=rfl
theorem Al{i:Addr}:d9 (.ref i)=false:=rfl
theorem Am:d9 .non=true:=rfl
def aW{α:Type}(o:Option α)(k:α→Prop):Prop:=match o with |some a=>k a |none=>False
theorem An{α:Type}{a:α}{k:α→Prop}:aW (some a) k=k a:=rfl
theorem fD{α:Type}{o:Option α}{a:α}{k:α→Prop}(e:o=some a)(h:k a):aW o k:=by rw[e];exact h
theorem eE{α:Type}{xs:List α}{i:Int}{k:α→Prop}(h0:0≤i)(h1:i < xs.length)(h:∀a,a∈xs→k a):aW (atI xs i) k:=by
 obtain ⟨a,e,m⟩:=Uu h0 h1
 exact fD e (h a m)
theorem Ao{ds:List D}{i:Int}:bZ (.lst ds) (.int i) kd=aW (atI ds i) kd:=by unfold bZ aW;(try dsimp only) <;> (cases atI ds i <;> rfl)
theorem Aq{ds:List D}{i:Int}:bZ (.tup ds) (.int i) kd=aW (atI ds i) kd:=by unfold bZ aW;(try dsimp only) <;> (cases atI ds i <;> rfl)
theorem Ar{l:List Nat}{i:Int}:bZ (.str l) (.int i) kd=aW (atI l i) (fun c=>kd (.str [c])):=by unfold bZ aW;(try dsimp only) <;> (cases atI l i <;> rfl)
theorem Av{ds:List D}{lo hi:Option Int}:cX fz (.lst ds) lo hi G k=mk fz (cut ds lo hi) G k:=rfl
theorem Aw{ds:List D}{y:D}:gP fz (.lst ds) y G k=(y=.int (-1)∧mk fz ds.reverse G k):=rfl
theorem Ax{ds:List Int}{lo hi:Option Int}:cX fz (.scr ds) lo hi G k=mk fz ((cut ds lo hi).map .int) G k:=rfl
theorem Ay{ds:List D}{lo hi:Option Int}:cX fz (.tup ds) lo hi G k=k (.tup (cut ds lo hi)) G:=rfl
theorem Az{ds:List Nat}{lo hi:Option Int}:cX fz (.str ds) lo hi G k=k (.str (cut ds lo hi)) G:=rfl
theorem Ba{ds:List D}:opB .len [.lst ds] kd=kd (.int ds.length):=rfl
theorem Bb{ds:List D}:opB .len [.tup ds] kd=kd (.int ds.length):=rfl
theorem Bc{ds:List Nat}:opB .len [.str ds] kd=kd (.int ds.length):=rfl
theorem Bd{ds:List D}:opB .all [.lst ds] kd=aW (bools ds) (fun bs=>kd (.bl (bs.all id))):=by unfold opB lB aW;(try dsimp only) <;> (cases bools ds <;> rfl)
theorem Be{b:Bool}:opB .int [.bl b] kd=kd (.int (if b then 1 else 0)):=rfl
theorem Bg{b:Int}:opB .int [.int b] kd=kd (.int b):=rfl
theorem Bh{l:List Nat}:opB .int [.str l] kd=aW (PySem.intText? (tx l)) (fun n=>l.length≤640∧kd (.int n)):=by unfold opB lC aW;(try dsimp only) <;> (cases PySem.intText? (tx l) <;> rfl)
theorem Bj{ds:List D}:opB .sum [.lst ds] kd=aW (fP ds) (fun ns=>kd (.int ns.sum)):=by unfold opB qG aW;(try dsimp only) <;> (cases fP ds <;> rfl)
theorem Bk{a:Int}:opB .str [.int a] kd=((0≤a∧a < 100)∧kd (.str (dU a.toNat))):=rfl
theorem Bl{a b:Int}:opB .max [.int a,.int b] kd=kd (.int (if b > a then b else a)):=rfl
theorem Bm{ds:List D}{kl:List D→Prop}:cB .sorted [.lst ds] kl=aW (bH ds) (fun ls=>ls.length < 64∧∀ls':List (List Nat),ls'.Perm ls→PyProof.Rows.sortedS (ls'.map tx)=true→kl (ls'.map D.str)):=by unfold cB qJ aW;(try dsimp only) <;> (cases bH ds <;> rfl)
theorem Bo{ds:List D}:opB .tuple [.lst ds] kd=kd (.tup ds):=rfl
theorem Bp{ds:List D}:opB .tuple [.tup ds] kd=kd (.tup ds):=rfl
theorem Bq{ds:List D}{kl:List D→Prop}:cB .list [.lst ds] kl=kl ds:=rfl
theorem Br{ds:List D}{kl:List D→Prop}:cB .list [.tup ds] kl=kl ds:=rfl
theorem Bt{l:List Nat}{kl:List D→Prop}:cB .list [.str l] kl=kl (l.map fun c=>.str [c]):=rfl
theorem Bu{s:List Nat}{ds:List D}:opM .join (.str s) [.lst ds] G k=aW (bH ds) (fun ls=>((ls.map (·.length)).sum+ls.length * s.length≤sz)∧k (.str (cY s ls)) G):=by unfold opM lD aW;(simp only[List.map_cons,List.map_nil,view]) <;> (cases bH ds <;> rfl)
def trk(G:DH)(p:Addr)(k:List D→Prop):Prop:=match G p with |some (.lst ds)=>k ds |none=>False
theorem dh{ds:List D}{k:List D→Prop}(e:G p=some (.lst ds)):trk G p k=k ds:=by unfold trk;rw[e]
theorem Bv{x:D}:opM .append (.ref p) [x] G k=trk G p (fun ds=>ds.length < sz∧k .non (aR G p (.lst (ds++[x])))):=by unfold opM lE trk;(try dsimp only) <;> (cases G p <;> first |rfl | (rename_i o;cases o;rfl))
theorem Bw{x:D}{i:Int}:opM .insert (.ref p) [.int i,x] G k=trk G p (fun ds=>ds.length < sz∧0≤i∧i≤1000000∧k .non (aR G p (.lst (ds.take i.toNat++x::ds.drop i.toNat)))):=by unfold opM lG trk;(try dsimp only) <;> (cases G p <;> first |rfl | (rename_i o;cases o;rfl))
theorem Bx:recv .insert (.ref p) G=trk G p (fun _=>True):=by unfold recv trk;(try dsimp only) <;> (cases G p <;> first |rfl | (rename_i o;cases o;rfl))
theorem By{xs:List D}:opM .extend (.ref p) [.lst xs] G k=trk G p (fun ds=>ds.length+xs.length < sz∧k .non (aR G p (.lst (ds++xs)))):=by unfold opM lF trk;(simp only[List.map_cons,List.map_nil,view]) <;> (cases G p <;> first |rfl | (rename_i o;cases o;rfl))
theorem BJ{ds:List D}:opM .count (.lst ds) [.bl true] G k=aW (bools ds) (fun bs=>k (.int (bs.count true:Nat)) G):=by unfold opM lH aW;(try dsimp only[view]) <;> (cases bools ds <;> rfl)
theorem BK{ds:List D}:opM .index (.lst ds) [.bl true] G k=aW (bools ds) (fun bs=>true∈bs∧k (.int (bs.idxOf true:Nat)) G):=by unfold opM lJ aW;(try dsimp only[view]) <;> (cases bools ds <;> rfl)
theorem BL{ds:List D}:recv .count (.lst ds) G=True:=rfl
theorem BP{ds:List D}:recv .index (.lst ds) G=True:=rfl
theorem BR{s:List Nat}:recv .join (.str s) G=True:=rfl
theorem BV:recv .append (.ref p) G=trk G p (fun _=>True):=by unfold recv trk;(try dsimp only) <;> (cases G p <;> first |rfl | (rename_i o;cases o;rfl))
theorem BW:recv .extend (.ref p) G=trk G p (fun _=>True):=by unfold recv trk;(try dsimp only) <;> (cases G p <;> first |rfl | (rename_i o;cases o;rfl))
theorem BX{i:Int}{x:D}{kg:DH→Prop}:cZ (.ref p) (.int i) x G kg=trk G p (fun ds=>aW (ixN ds.length i) (fun j=>kg (aR G p (.lst (ds.set j x))))):=by
 unfold cZ trk aW
 (try dsimp only) <;> (cases G p <;> first |rfl | (rename_i o;cases o;(try dsimp only) <;> (rename_i ds;cases ixN ds.length i <;> rfl)))
theorem BZ{i j:Int}:dz .Add (.int i) (.int j) kd=kd (.int (i+j)):=rfl
theorem Ca{x y:List Nat}:dz .Add (.str x) (.str y) kd=(x.length+y.length≤sz∧kd (.str (x++y))):=rfl
theorem Cd{i j:Int}:dz .Sub (.int i) (.int j) kd=kd (.int (i - j)):=rfl
theorem Ce{xs:List D}:mk true xs G k=k (.lst xs) G:=rfl
theorem Cg{xs:List D}:mk false xs G k=∀p,G p=none→k (.ref p) (aR G p (.lst xs)):=rfl
theorem Ci:view G .non=.non:=rfl
theorem Cj{b:Bool}:view G (.bl b)=.bl b:=rfl
theorem Ck{b:Int}:view G (.int b)=.int b:=rfl
theorem Cm{b:List Nat}:view G (.str b)=.str b:=rfl
theorem Cp{b:List D}:view G (.tup b)=.tup b:=rfl
theorem Cq{b:List D}:view G (.lst b)=.lst b:=rfl
theorem Cr{b:String}:view G (.exn b)=.exn b:=rfl
theorem Cu{b:List Int}:view G (.scr b)=.scr b:=rfl
theorem bW{ds:List D}(e:G p=some (.lst ds)):view G (.ref p)=.lst ds:=by unfold view;dsimp only;rw[e]
theorem Cv:truth .non=some false:=rfl
theorem Cw{b:Bool}:truth (.bl b)=some b:=rfl
theorem Cy{i:Int}:truth (.int i)=some (i != 0):=rfl
theorem Cz{l:List Nat}:truth (.str l)=some (!l.isEmpty):=rfl
theorem CG{l:List D}:truth (.tup l)=some (!l.isEmpty):=rfl
theorem CJ{l:List D}:truth (.lst l)=some (!l.isEmpty):=rfl
theorem CK{l:List D}:itemsOf G (.lst l)=some (l,[]):=rfl
theorem CN{l:List D}:itemsOf G (.tup l)=some (l,[]):=rfl
theorem CP{l:List Nat}:itemsOf G (.str l)=some (l.map fun c=>.str [c],[]):=rfl
theorem fG{ds:List D}(e:G p=some (.lst ds)):itemsOf G (.ref p)=some (ds,[(p,ds)]):=by unfold itemsOf;dsimp only;rw[e]
theorem CQ{t:String}:isT t .non=some false:=rfl
theorem CW {t:String} {b:Bool}:isT t (.bl b)=some (t=="bool"||t=="int"):=rfl
theorem CZ {t:String} {b:Int}:isT t (.int b)=some (t=="int"):=rfl
theorem Dc {t:String} {b:List Nat}:isT t (.str b)=some (t=="str"):=rfl
theorem is_tup {t:String} {b:List D}:isT t (.tup b)=some (t=="tuple"):=rfl
theorem Dd {t:String} {b:List D}:isT t (.lst b)=some (t=="list"):=rfl
theorem De{i:Nat}{d:D}{ρ:aa}{kr:aa→Prop}:aQ (.nm i) d ρ G kr=kr (ρ.set i (some d)):=rfl
theorem Df{ts:Tgs}{ds:List D}{ρ:aa}{kr:aa→Prop}:aQ (.tp ts) (.lst ds) ρ G kr=bj ts ds ρ G kr:=rfl
theorem Dg{ts:Tgs}{ds:List D}{ρ:aa}{kr:aa→Prop}:aQ (.tp ts) (.tup ds) ρ G kr=bj ts ds ρ G kr:=rfl
theorem Dh{ρ:aa}{kr:aa→Prop}:bj .nil [] ρ G kr=kr ρ:=rfl
theorem Di{t:Tg}{r:Tgs}{d:D}{ds:List D}{ρ:aa}{kr:aa→Prop}:bj (.cons t r) (d::ds) ρ G kr=aQ t d ρ G (fun ρ'=>bj r ds ρ' G kr):=rfl
theorem Dj:deq .non .non=true:=rfl
theorem Dk  {y:Bool}:deq .non (.bl y)=false:=rfl
theorem Dl  {y:Int}:deq .non (.int y)=false:=rfl
theorem Dm  {y:List Nat}:deq .non (.str y)=false:=rfl
theorem Dn  {y:List D}:deq .non (.tup y)=false:=rfl
theorem Do  {y:List D}:deq .non (.lst y)=false:=rfl
theorem Dp{x:Bool} :deq (.bl x) .non=false:=rfl
theorem Dq{x:Bool}{y:Bool}:deq (.bl x) (.bl y)=(x==y):=by rw[deq]
theorem Ds{x:Bool}{y:List Nat}:deq (.bl x) (.str y)=false:=rfl
theorem Dt{x:Bool}{y:List D}:deq (.bl x) (.tup y)=false:=rfl
theorem Du{x:Bool}{y:List D}:deq (.bl x) (.lst y)=false:=rfl
theorem Dv{x:Int} :deq (.int x) .non=false:=rfl
theorem Dw{x:Int}{y:Int}:deq (.int x) (.int y)=(x==y):=by rw[deq]
theorem Dy{x:Int}{y:List Nat}:deq (.int x) (.str y)=false:=rfl
theorem Dz{x:Int}{y:List D}:deq (.int x) (.tup y)=false:=rfl
theorem DG{x:Int}{y:List D}:deq (.int x) (.lst y)=false:=rfl
theorem DK{x:List Nat} :deq (.str x) .non=false:=rfl
theorem DN{x:List Nat}{y:Bool}:deq (.str x) (.bl y)=false:=rfl
theorem DP{x:List Nat}{y:Int}:deq (.str x) (.int y)=false:=rfl
theorem DQ{x:List Nat}{y:List Nat}:deq (.str x) (.str y)=(x==y):=by rw[deq]
theorem DR{x:List Nat}{y:List D}:deq (.str x) (.tup y)=false:=rfl
theorem DW{x:List Nat}{y:List D}:deq (.str x) (.lst y)=false:=rfl
theorem DX{x:List D} :deq (.tup x) .non=false:=rfl
theorem DY{x:List D}{y:Bool}:deq (.tup x) (.bl y)=false:=rfl
theorem Ea{x:List D}{y:Int}:deq (.tup x) (.int y)=false:=rfl
theorem Eb{x:List D}{y:List Nat}:deq (.tup x) (.str y)=false:=rfl
theorem Ec{x:List D}{y:List D}:deq (.tup x) (.tup y)=bh x y:=by rw[deq]
theorem Ed{x:List D}{y:List D}:deq (.tup x) (.lst y)=false:=rfl
theorem Ef{x:List D} :deq (.lst x) .non=false:=rfl
theorem Eg{x:List D}{y:Bool}:deq (.lst x) (.bl y)=false:=rfl
theorem Eh{x:List D}{y:Int}:deq (.lst x) (.int y)=false:=rfl
theorem Ei{x:List D}{y:List Nat}:deq (.lst x) (.str y)=false:=rfl
theorem Ej{x:List D}{y:List D}:deq (.lst x) (.tup y)=false:=rfl
theorem Ek{x:List D}{y:List D}:deq (.lst x) (.lst y)=bh x y:=by rw[deq]
theorem El:bh [] []=true:=rfl
theorem Em{a b:D}{as bs:List D}:bh (a::as) (b::bs)=(deq a b&&bh as bs):=by rw[bh]
theorem Eo{b:D}{bs:List D}:bh [] (b::bs)=false:=rfl
theorem Ep{b:D}{bs:List D}:bh (b::bs) []=false:=rfl
theorem Er :nr .non=true:=rfl
theorem Es :dpt .non=0:=rfl
theorem Et{x:Bool}:nr (.bl x)=true:=rfl
theorem Eu{x:Bool}:dpt (.bl x)=0:=rfl
theorem Ew{x:Int}:nr (.int x)=true:=rfl
theorem Ey{x:Int}:dpt (.int x)=0:=rfl
theorem Ez{x:List Nat}:nr (.str x)=true:=rfl
theorem EY{x:List Nat}:dpt (.str x)=0:=rfl
theorem Fb{x:List D}:nr (.tup x)=nrs x:=by rw[nr]
theorem Fd{x:List D}:dpt (.tup x)=aO x+1:=by rw[dpt]
theorem Fe{x:List D}:nr (.lst x)=nrs x:=by rw[nr]
theorem Ff{x:List D}:dpt (.lst x)=aO x+1:=by rw[dpt]
theorem Fg:nrs []=true:=rfl
theorem Fi{a:D}{l:List D}:nrs (a::l)=(nr a&&nrs l):=by rw[nrs]
theorem Fj:aO []=0:=rfl
theorem Fl{a:D}{l:List D}:aO (a::l)=max (dpt a) (aO l):=by rw[aO]
end
theorem seq{Φ:aj}{s:Sx}{r:Sxs}{E:EK}{ρ:aa}{G:DH}{D:En}(h:∀M:aa→DH→Prop,(∀ρ' G',aq Φ r E ρ' G' D→M ρ' G')→wpS Φ s E ρ G { D with nx:=M }):aq Φ (.cons s r) E ρ G D:=by
 rw[gR]
 exact h _ fun _ _ x=>x
theorem last{Φ:aj}{s:Sx}{E:EK}{ρ:aa}{G:DH}{D:En}(h:wpS Φ s E ρ G D):aq Φ (.cons s .nil) E ρ G D:=by
 rw[gR]
 exact wpS_mono s (D:=D) (D':={ D with nx:=fun ρ' G'=>aq Φ .nil E ρ' G' D }) ⟨fun ρ' G' q=>(show aq Φ .nil E ρ' G' D from by rw[gQ];exact q),fun _ _ q=>q,fun _ _ q=>q,fun _ _ q=>q⟩ h
theorem done{Φ:aj}{E:EK}{ρ:aa}{G:DH}{D:En}(h:D.nx ρ G):aq Φ .nil E ρ G D:=by
 rw[gQ]
 exact h
end RF
namespace RF
open PySem L2
section
variable {Φ:aj} {E:EK} {ρ:aa} {G:DH}
def ForG(Φ:aj)(t:Tg)(body:Sxs)(E:EK)(D:En)(items:List RF.D)(g:Hld)(ρ:aa)(G:DH):Prop:=
 forLoop (fun d ρ' G' k=>aQ t d ρ' G' fun ρ1=>aq Φ body E ρ1 G' { D with nx:=k,ct:=k,bk:=D.nx }) g items ρ G D.nx
theorem Fp{t:Tg}{it:It'}{body:Sxs}{D:En}:wpS Φ (.for_ t it body) E ρ G D=wpI Φ it E ρ G fun items g G1=>ForG Φ t body E D items g ρ G1:=rfl
theorem ForG.inv{t:Tg}{body:Sxs}{D:En}{items:List RF.D}{g:Hld}(P:Nat→aa→DH→Prop)(h0:P 0 ρ G)(hh:∀i ρ G,P i ρ G→held g G)
  (hs:∀i d ρ G,items[i]?=some d→P i ρ G→∀kk:aa→DH→Prop,(∀ρ' G',P (i+1) ρ' G'→kk ρ' G')→aQ t d ρ G fun ρ1=>aq Φ body E ρ1 G { D with nx:=kk,ct:=kk,bk:=D.nx })
  (he:∀ρ G,P items.length ρ G→D.nx ρ G):ForG Φ t body E D items g ρ G:=Ur P h0 hh hs he
def CompG(Φ:aj)(elt:Ex)(tg:Tg)(cond:Tx)(items:List D)(g:Hld)(ρ:aa)(G:DH)(k:List D→DH→Prop):Prop:=
 compLoop (fun d ρ' G' k'=>aQ tg d ρ' G' fun ρ1=>wpT Φ cond noE ρ1 G' fun b G2=>match b with |true=>wpE Φ elt noE ρ1 G2 fun y G3=>k' (some y) ρ1 G3 |false=>k' none ρ1 G2) g items [] ρ G k
def iz(cap:List (Option Nat))(ρ:aa):aa:=cap.map fun o=>match o with |none=>none |some j=>(ρ[j]?).join
theorem Fq{ρ:aa}:iz [] ρ=[]:=rfl
theorem Ft{cap:List (Option Nat)}{ρ:aa}:iz (none::cap) ρ=none::iz cap ρ:=rfl
theorem Fv{cap:List (Option Nat)}{ρ:aa}{j:Nat}:iz (some j::cap) ρ=(ρ[j]?).join::iz cap ρ:=rfl
theorem Fw{fz:Bool}{elt:Ex}{tg:Tg}{it:It'}{cond:Tx}{N:List String}{cap:List (Option Nat)}{k:D→DH→Prop}:
  wpE Φ (.comp fz elt tg it cond N cap) E ρ G k=wpI Φ it E ρ G fun items g G1=>CompG Φ elt tg cond items g (iz cap ρ) G1 fun ds G2=>mk fz ds G2 k:=rfl
theorem CompG.inv{elt:Ex}{tg:Tg}{cond:Tx}{items:List D}{g:Hld}{k:List D→DH→Prop}(P:Nat→List D→aa→DH→Prop)(h0:P 0 [] ρ G)(hh:∀i acc ρ G,P i acc ρ G→held g G)(hl:items.length≤sz)
  (hs:∀i d acc ρ G,items[i]?=some d→P i acc ρ G→∀kk:Option D→aa→DH→Prop,(∀o ρ' G',P (i+1) (acc++o.toList) ρ' G'→kk o ρ' G')→
   aQ tg d ρ G fun ρ1=>wpT Φ cond noE ρ1 G fun b G2=>match b with |true=>wpE Φ elt noE ρ1 G2 fun y G3=>kk (some y) ρ1 G3 |false=>kk none ρ1 G2)
  (he:∀acc ρ G,P items.length acc ρ G→k acc G):CompG Φ elt tg cond items g ρ G k:=zg P h0 hh (by simpa using hl) hs he
theorem CompG.pure{elt:Ex}{tg:Tg}{cond:Tx}{items:List D}{g:Hld}{k:List D→DH→Prop}(f:D→Option D)(I:aa→Prop)(h0:I ρ)(hg:held g G)(hl:items.length≤sz)
  (hs:∀d ρ,d∈items→I ρ→∀kk:Option D→aa→DH→Prop,(∀ρ',I ρ'→kk (f d) ρ' G)→aQ tg d ρ G fun ρ1=>wpT Φ cond noE ρ1 G fun b G2=>match b with |true=>wpE Φ elt noE ρ1 G2 fun y G3=>kk (some y) ρ1 G3 |false=>kk none ρ1 G2)
  (he:k (items.filterMap f) G):CompG Φ elt tg cond items g ρ G k:=zj g f I h0 hg hl hs he
theorem CompG.map{elt:Ex}{tg:Tg}{cond:Tx}{items:List D}{g:Hld}{k:List D→DH→Prop}(f:D→D)(I:aa→Prop)(h0:I ρ)(hg:held g G)(hl:items.length≤sz)
  (hs:∀d ρ,d∈items→I ρ→∀kk:Option D→aa→DH→Prop,(∀ρ',I ρ'→kk (some (f d)) ρ' G)→aQ tg d ρ G fun ρ1=>wpT Φ cond noE ρ1 G fun b G2=>match b with |true=>wpE Φ elt noE ρ1 G2 fun y G3=>kk (some y) ρ1 G3 |false=>kk none ρ1 G2)
  (he:k (items.map f) G):CompG Φ elt tg cond items g ρ G k:=Us g f I h0 hg hl hs he
def Ux(Φ:aj)(c:Tx)(body:Sxs)(E:EK)(D:En)(n:Nat)(ρ:aa)(G:DH):Prop:=
 whileLoop (fun ρ' G' k=>wpT Φ c E ρ' G' k) (fun ρ' G' k=>aq Φ body E ρ' G' { D with nx:=k,ct:=k,bk:=D.nx }) n ρ G D.nx
theorem Fx{c:Tx}{body:Sxs}{D:En}:wpS Φ (.whl c body) E ρ G D=∃n,Ux Φ c body E D n ρ G:=rfl
end
end RF
namespace RF
open PySem PySem.Spec PyProof.Rows L2
theorem len0{α:Type}{l:List α}(h:l.length=0):l=[]:=List.length_eq_zero_iff.mp h
theorem tu{α:Type}{n:Nat}{l:List α}(h:l.length=n+1):∃a r,l=a::r∧r.length=n:=by
 cases l with
 |nil=>cases h
 |cons a r=>exact ⟨a,r,rfl,Nat.succ.inj h⟩
theorem cQ{α:Type}{l:List α}(h:l.length=1):∃a,l=[a]:=by
 obtain ⟨a,r,rfl,h2⟩:=tu h;cases len0 h2;exact ⟨a,rfl⟩
theorem b7{α:Type}{l:List α}(h:l.length=2):∃a b,l=[a,b]:=by
 obtain ⟨a,r,rfl,h2⟩:=tu h;obtain ⟨b,rfl⟩:=cQ h2;exact ⟨a,b,rfl⟩
theorem o7{α:Type}{l:List α}(h:l.length=3):∃a b c,l=[a,b,c]:=by
 obtain ⟨a,r,rfl,h2⟩:=tu h;obtain ⟨b,c,rfl⟩:=b7 h2;exact ⟨a,b,c,rfl⟩
structure Fo(Φ:aj)(P:Program)(w:World)(K:PySem.W.Frag)(mg:Str→Option Value)(base:Heap)(k:Nat)(f:String)(n:Nat):Prop where
 ex:∃fa fd ps,FnOk P w K mg base (CX1 P w) k fa fd ps (lift K n (Φ f))∧PySem.W.keepIn K (.ref fa)=true∧Binds K fd ps []∧mg (Str.ofString f)=some (.ref fa)
section
variable {Φ:aj} {P:Program} {w:World} {K:PySem.W.Frag} {mg:Str→Option Value} {base:Heap} {k:Nat} {xs:List (String×Bool)}
def AllF(Φ:aj)(P:Program)(w:World)(K:PySem.W.Frag)(mg:Str→Option Value)(base:Heap)(k:Nat):List (String×Nat)→Prop
 |[]=>True
 | (f,n)::r=>Fo Φ P w K mg base k f n∧AllF Φ P w K mg base k r
def AllB(mg:Str→Option Value):List String→Prop
 |[]=>True
 |f::r=>mg (Str.ofString f)=none∧AllB mg r
def AllC(K:PySem.W.Frag)(mg:Str→Option Value):List (String×D)→Prop
 |[]=>True
 | (x,d)::r=>(∃u v,mg (Str.ofString x)=some u∧RelV v u∧∀H F,Rep K H F d v)∧AllC K mg r
theorem AllF.get:∀{fs:List (String×Nat)}{f:String}{n:Nat},AllF Φ P w K mg base k fs→(f,n)∈fs→Fo Φ P w K mg base k f n
 | (f',n')::r,f,n,h,m=>by
  rcases List.mem_cons.mp m with e |m
  ·cases e;exact h.1
  ·exact AllF.get h.2 m
theorem AllB.get:∀{fs:List String}{f:String},AllB mg fs→f∈fs→mg (Str.ofString f)=none
 |f'::r,f,h,m=>by
  rcases List.mem_cons.mp m with e |m
  ·cases e;exact h.1
  ·exact AllB.get h.2 m
theorem AllC.get:∀{fs:List (String×D)}{x:String}{d:D},AllC K mg fs→(x,d)∈fs→∃u v,mg (Str.ofString x)=some u∧RelV v u∧∀H F,Rep K H F d v
 | (f',n')::r,f,n,h,m=>by
  rcases List.mem_cons.mp m with e |m
  ·cases e;exact h.1
  ·exact AllC.get h.2 m
def cvB(K:PySem.W.Frag)(C':String):Option V:=match PySem.W.nsIn K mainGlobals (Str.ofString C') with
 |some (some (.ref a))=>if lA K a then some (.ref a) else none
 |some none=>if C'=="ValueError" then some (.ty "ValueError") else none
 |_=>none
def xiB(K:PySem.W.Frag)(C C':String)(cv:V):Bool:=match PySem.W.nsIn K mainGlobals (Str.ofString C) with
 |some (some (.ref c))=>wA K c&&PySem.W.mroIn K c (valOf cv)==some (dX C C')&&(dX C C'||!(Value.ref c==valOf cv))
 |_=>false
def tB(K:PySem.W.Frag)(C:String):Bool:=match PySem.W.nsIn K mainGlobals (Str.ofString C) with
 |some (some (.ref c))=>fM K c
 |_=>false
def xsB(K:PySem.W.Frag)(xs:List (String×Bool)):Bool:=xs.all fun p=>match p.2 with
 |true=>tB K p.1
 |false=>(cvB K p.1).any fun cv=>xs.all fun q=>!q.2||xiB K q.1 p.1 cv
theorem Uy{h:Heap}(X:K.In h)(Gh:h.Ns mainGlobals mg){xs:List (String×Bool)}(e:xsB K xs=true)(C:String)(hC:xs.contains (C,true)=true):∃a,mg (Str.ofString C)=some (.ref a)∧fM K a=true∧PySem.W.nsIn K mainGlobals (Str.ofString C)=some (some (.ref a)):=by
 have e1:tB K C=true:=List.all_eq_true.mp e _ (List.contains_iff_mem.mp hC)
 unfold tB at e1
 split at e1
 ·rename_i a hn
  exact ⟨a,PySem.W.mg_of X Gh hn,e1,hn⟩
 ·cases e1
theorem Uz{h:Heap}(X:K.In h)(Gh:h.Ns mainGlobals mg){xs:List (String×Bool)}(e:xsB K xs=true)(C':String)(hC:xs.contains (C',false)=true):∃cv,CV K mg C' cv∧∀C,xs.contains (C,true)=true→XI K C C' cv:=by
 have e1:((cvB K C').any fun cv=>xs.all fun q=>!q.2||xiB K q.1 C' cv)=true:=List.all_eq_true.mp e _ (List.contains_iff_mem.mp hC)
 obtain ⟨cv,hcv,h2⟩:=aM e1
 refine ⟨cv,?_,fun C hC=>?_⟩
 ·unfold cvB at hcv
  split at hcv
  ·rename_i a hn
   split at hcv
   ·rename_i hb
    cases hcv
    exact .inl ⟨a,rfl,PySem.W.mg_of X Gh hn,hb⟩
   ·cases hcv
  ·rename_i hn
   split at hcv
   ·rename_i hb
    cases hcv
    exact .inr ⟨beq_iff_eq.mp hb,rfl,PySem.W.mg_none_of X Gh hn⟩
   ·cases hcv
  ·cases hcv
 ·have e3:(!true||xiB K C C' cv)=true:=List.all_eq_true.mp h2 _ (List.contains_iff_mem.mp hC)
  have e3:xiB K C C' cv=true:=e3
  unfold xiB at e3
  split at e3
  ·rename_i c hn
   rw[Bool.and_eq_true,Bool.and_eq_true,beq_iff_eq]at e3
   refine ⟨c,hn,e3.1.1,e3.1.2,fun hs=>?_⟩
   have:=e3.2
   rw[hs,Bool.false_or,Bool.not_eq_true']at this
   exact this
  ·cases e3
theorem bse{h:Heap}{fs:List (String×Nat)}{bt:List String}{cn:List (String×D)}(h1:AllF Φ P w K mg base k fs)(h2:AllB mg bt)(h3:AllC K mg cn)(X:K.In h)(Gh:h.Ns mainGlobals mg)(e:xsB K xs=true):Bse Φ P w K mg base (CX1 P w) k fs bt cn xs:=
 ⟨fun _ _ m=>(h1.get m).ex,fun _ m=>h2.get m,fun _ _ m=>h3.get m,Uy X Gh e,Uz X Gh e⟩
theorem tD{x:String}{i:Int}{t:Tok}(h:mg (Str.ofString x)=some (.int i t)):∃u v,mg (Str.ofString x)=some u∧RelV v u∧∀H F,Rep K H F (.int i) v:=⟨_,.int i,h,⟨t,rfl⟩,fun _ _=>rfl⟩
theorem UG{x:String}{l:List Nat}{s:Str}{t:Tok}(h:mg (Str.ofString x)=some (.str s t))(e:s=tx l)(hl:l.length≤sz):∃u v,mg (Str.ofString x)=some u∧RelV v u∧∀H F,Rep K H F (.str l) v:=⟨_,.str s,h,⟨t,rfl⟩,fun _ _=>⟨by rw[e],hl⟩⟩
theorem UJ{n:Nat}{S:RF.Spec}{fa:Addr}{fd:FuncData}{ps:List Str}(h:∀ds G a,¬S.pre ds G a):FnOk P w K mg base (CX1 P w) k fa fd ps (lift K n S):=
 ⟨fun _ _ _ _ ⟨_,_,_,_,_,_,a,hp,_⟩=>absurd hp (h _ _ a),fun _ _ _ _ _ _ _ _ _ _ _ _ _ ⟨_,_,_,_,_,_,a,hp,_⟩=>absurd hp (h _ _ a)⟩
end
section
variable {Φ:aj} {P:Program} {w:World} {K:PySem.W.Frag} {mg:Str→Option Value} {base:Heap} {k j n:Nat} {fs:List (String×Nat)} {bt:List String} {cn:List (String×D)} {xs:List (String×Bool)} {x:String} {S:RF.Spec} {fa:Addr} {fd:FuncData} {ps:List Str}
theorem Bse.add(B:Bse Φ P w K mg base (CX1 P w) k fs bt cn xs)(e:Φ x=S)(o:FnOk P w K mg base (CX1 P w) (k+j) fa fd ps (lift K n S))(h2:PySem.W.keepIn K (.ref fa)=true)(h3:Binds K fd ps [])(h4:mg (Str.ofString x)=some (.ref fa)):Bse Φ P w K mg base (CX1 P w) (k+j) ((x,n)::fs) bt cn xs:=by
 refine ⟨fun f m hm=>?_,B.blt,B.con,B.xcl,B.xis⟩
 rcases List.mem_cons.mp hm with e' |hm
 ·cases e';exact ⟨fa,fd,ps,by rw[e];exact o,h2,h3,h4⟩
 ·obtain ⟨fa,fd,ps,h1,h⟩:=B.call f m hm
  exact ⟨fa,fd,ps,h1.mono (Nat.le_add_right _ _),h⟩
theorem Bse.step{qual:Str}{st:Stmt}{N:List Str}{body:Sxs}(B:Bse Φ P w K mg base (CX1 P w) k fs bt cn xs)(F:Fun K (Str.ofString x) qual st fa fd)(h3:Binds K fd ps [])(h4:mg (Str.ofString x)=some (.ref fa))(e:Φ x=S)(m:Nat)
  (hs:fnB N ps (au st)=true) (hc:aD (aJ N (au st) fs bt cn xs) body (aG st)=true) (hn:ps.length=n) (hm:N.length=n+m)
  (hw:∀ds G a,ds.length=n→S.pre ds G a→aq Φ body noE (env0 ds m) G (ends (S.post a))):Bse Φ P w K mg base (CX1 P w) (k+1) ((x,n)::fs) bt cn xs:=
 B.add e (sZ F B S n m hs hc hn hm hw) F.kp h3 h4
theorem Bse.stepX{qual:Str}{st:Stmt}{N:List Str}{body:Sxs}(B:Bse Φ P w K mg base (CX1 P w) k fs bt cn xs)(F:Fun K (Str.ofString x) qual st fa fd)(h3:Binds K fd ps [])(h4:mg (Str.ofString x)=some (.ref fa))(e:Φ x=S)(m:Nat)
  (hs:fnB N ps (au st)=true) (hc:aD (aJ N (au st) fs bt cn xs) body (aG st)=true) (hn:ps.length=n) (hm:N.length=n+m)
  (hw:∀ds G a,ds.length=n→S.pre ds G a→aq Φ body (S.exc a) (env0 ds m) G (ends (S.post a))):Bse Φ P w K mg base (CX1 P w) (k+1) ((x,n)::fs) bt cn xs:=
 B.add e (Uq F B S n m hs hc hn hm hw) F.kp h3 h4
def o8(Φ:aj)(x:String)(S:RF.Spec):aj:=fun f=>if f=x then S else Φ f
theorem Bse.self(B:Bse Φ P w K mg base (CX1 P w) k fs bt cn xs)(hx:(fs.map (·.1)).contains x=false)(o:FnOk P w K mg base (CX1 P w) (k+j) fa fd ps (lift K n S))(h2:PySem.W.keepIn K (.ref fa)=true)(h3:Binds K fd ps [])(h4:mg (Str.ofString x)=some (.ref fa)):Bse (o8 Φ x S) P w K mg base (CX1 P w) (k+j) ((x,n)::fs) bt cn xs:=by
 refine ⟨fun f m hm=>?_,B.blt,B.con,B.xcl,B.xis⟩
 rcases List.mem_cons.mp hm with e' |hm'
 ·cases e';exact ⟨fa,fd,ps,by unfold o8;rw[if_pos rfl];exact o,h2,h3,h4⟩
 ·obtain ⟨fa,fd,ps,h1,h⟩:=B.call f m hm'
  have hf:f≠x:=by
   rintro rfl
   rw[←Bool.not_eq_true,List.contains_iff_mem]at hx
   exact hx (List.mem_map.mpr ⟨(f,m),hm',rfl⟩)
  exact ⟨fa,fd,ps,by unfold o8;rw[if_neg hf];exact h1.mono (Nat.le_add_right _ _),h⟩
end
theorem UL{S:RF.Spec}(hS:∀(ns:List Int)(G:DH),ns.length≤63→∃a,S.pre [.scr ns] G a∧(∀d G',S.post a d G'→d=.bl true)∧∀x G',¬S.exc a x G')(K:PySem.W.Frag)(H:Hp)(a:Addr)(ns:List Int)(hl:ns.length≤63)(hO:Only H)(hs:SqL K H a (ns.map V.int)):
  lift K 1 S [.ref a] H (fun v _=>v=.bl true) fun _ _ _=>False:=by
 obtain ⟨b,h1,h2,h3⟩:=hS ns (fun _=>none) hl
 refine ⟨rfl,fun _=>False,fun _=>none,[.scr ns],⟨fun _ f=>f.elim,fun _ _ e=>by cases e⟩,⟨.ref a,[],rfl,⟨a,rfl,?_⟩,rfl⟩,b,h1,fun d G' q H' F' v _ _ rv=>?_,fun x G' q=>absurd q (h3 x G')⟩
 ·rcases hs with (h |h) |h
  ·exfalso
   rcases hO a with z |⟨o,u,z⟩
   ·rw[z]at h;cases h
   ·rw[z]at h;cases h
  ·exact .inl h
  ·exact .inr h
 ·rw[h2 d G' q]at rv
  exact rv
theorem UT{pre:List D→DH→Prop}(h:∀(ns:List Int)(G:DH),ns.length≤63→pre [.scr ns] G):∀(ns:List Int)(G:DH),ns.length≤63→∃a,(bf pre (fun _ _ d _=>d=.bl true)).pre [.scr ns] G a∧(∀d G',(bf pre (fun _ _ d _=>d=.bl true)).post a d G'→d=.bl true)∧∀x G',¬(bf pre (fun _ _ d _=>d=.bl true)).exc a x G':=
 fun ns G hl=>⟨([.scr ns],G),⟨rfl,h ns G hl⟩,fun _ _ q=>q,fun _ _ z=>z⟩
def ghS{A:Type}(pre:A→List D→DH→Prop)(post:A→DH→D→DH→Prop):RF.Spec where
 A:=A×DH
 pre:=fun ds G a=>a.2=G∧pre a.1 ds G
 post:=fun a d G'=>post a.1 a.2 d G'
 exc:=fun _ _ _=>False
theorem o9{A:Type}{pre:A→List D→DH→Prop}{post:A→DH→D→DH→Prop}{ds:List D}{G:DH}{k:D→DH→Prop}{E:EK}(a:A)(h:pre a ds G)(hk:∀d G',post a G d G'→k d G'):(ghS pre post).t ds G k E:=
 ⟨(a,G),⟨rfl,h⟩,hk,fun _ _ z=>z.elim⟩
theorem ph{A:Type}{Φ:aj}{body:Sxs}{m n:Nat}{pre:A→List D→DH→Prop}{post:A→DH→D→DH→Prop}(h:∀a ds G,pre a ds G→aq Φ body noE (env0 ds m) G (ends (post a G))):
  ∀ds G a,ds.length=n→(ghS pre post).pre ds G a→aq Φ body noE (env0 ds m) G (ends ((ghS pre post).post a)):=by
 rintro ds G ⟨a,G0⟩ _ ⟨rfl,h1⟩
 exact h a ds _ h1
def pq{A:Type}(args:A→List D)(ok:A→Prop)(val:A→D):RF.Spec:=ghS (fun a ds _=>ds=args a∧ok a) (fun a G d G'=>G'=G∧d=val a)
theorem UV{A:Type}{args:A→List D}{ok:A→Prop}{val:A→D}{ds:List D}{G:DH}{k:D→DH→Prop}{E:EK}(a:A)(e:ds=args a)(h:ok a)(hk:k (val a) G):(pq args ok val).t ds G k E:=
 o9 a ⟨e,h⟩ fun d G' ⟨e1,e2⟩=>by subst e1 e2;exact hk
theorem UW{A:Type}{Φ:aj}{body:Sxs}{m n:Nat}{args:A→List D}{ok:A→Prop}{val:A→D}(h:∀a G,ok a→aq Φ body noE (env0 (args a) m) G (ends fun d G'=>G'=G∧d=val a)):
  ∀ds G a,ds.length=n→(pq args ok val).pre ds G a→aq Φ body noE (env0 ds m) G (ends ((pq args ok val).post a)):=
 ph fun a ds G ⟨e,h1⟩=>by subst e;exact h a G h1
end RF
namespace RF
open PySem L2
theorem Fy:type_of% (And.intro @mW (And.intro @gU (And.intro @mX (And.intro @qX (And.intro @qY (And.intro @mY (And.intro @mZ (And.intro @m5 (And.intro @m6 (And.intro @m7 (And.intro @m8 (And.intro (And.intro @nA (And.intro @iV (And.intro @q8 (And.intro @iW (And.intro @ni (And.intro @nq (And.intro @nu (And.intro (And.intro @qR (And.intro @qT (And.intro @qU @qW))) (And.intro @qZ @m9))))))))) (And.intro @Fp (And.intro @Fx (And.intro (And.intro @mj (And.intro @lL (And.intro @lM (And.intro @lN (And.intro @lO (And.intro @fQ (And.intro @eU (And.intro @lQ (And.intro @iT (And.intro @lR (And.intro @iU (And.intro @lU (And.intro @lV (And.intro @lW (And.intro @lX (And.intro @qM (And.intro @qN (And.intro @qO (And.intro @lY @lZ))))))))))))))))))) (And.intro @fU (And.intro @mq (And.intro @my (And.intro @mz (And.intro @mC (And.intro @mD (And.intro @mF (And.intro @mG (And.intro @qP (And.intro @mH (And.intro @mJ (And.intro @mK (And.intro (And.intro @mL @qQ) (And.intro @mO (And.intro @mQ (And.intro @mR (And.intro @mU (And.intro @dZ (And.intro @mV (And.intro @Fw (And.intro @zF (And.intro @zG (And.intro @zH (And.intro @zJ (And.intro @zK (And.intro @zL (And.intro (And.intro @zN @zM) (And.intro @zO (And.intro @zP (And.intro @zQ (And.intro @zR (And.intro @zT (And.intro @zU (And.intro @zV (And.intro @zW (And.intro @zX (And.intro @zY (And.intro @zZ (And.intro @z6 (And.intro @z7 (And.intro @z8 (And.intro @z9 (And.intro @Aa (And.intro @Ab (And.intro @Ac (And.intro @Ad (And.intro @Ae (And.intro @Af (And.intro @Ag (And.intro @Ah (And.intro @Ai (And.intro @Aj (And.intro @Ak (And.intro @Al (And.intro @Am (And.intro @Ao (And.intro @Aq (And.intro @Ar (And.intro @Av (And.intro (And.intro @Ax @Aw) (And.intro @Ay (And.intro @Az (And.intro @Ba (And.intro @Bb (And.intro @Bc (And.intro @Bd (And.intro @Be (And.intro @Bg (And.intro @Bh (And.intro @Bj (And.intro @Bm (And.intro (And.intro @Bo (And.intro @Bl @Bk)) (And.intro @Bp (And.intro @Bq (And.intro @Br (And.intro @Bt (And.intro (And.intro @Bu (And.intro @BJ (And.intro @BK (And.intro @BL (And.intro @BP @Cr))))) (And.intro @Bv (And.intro (And.intro @By (And.intro @Bw @Bx)) (And.intro @BR (And.intro @BV (And.intro @BW (And.intro @BX (And.intro @BZ (And.intro @Ca (And.intro @Cd (And.intro @Ce (And.intro @Cg (And.intro @Ci (And.intro @Cj (And.intro @Ck (And.intro @Cm (And.intro @Cp (And.intro @Cq (And.intro @Cu (And.intro @Cv (And.intro @Cw (And.intro @Cy (And.intro @Cz (And.intro @CG (And.intro @CJ (And.intro @CK (And.intro @CN (And.intro @CP (And.intro @CQ (And.intro @CW (And.intro @CZ (And.intro @Dc (And.intro @is_tup (And.intro @Dd (And.intro @De (And.intro (And.intro @Dg @Df) (And.intro @Dh (And.intro @Di (@An)))))))))))))))))))))))))))))))))))))))))))))))))))))))))))))))))))))))))))))))))))))))))))))))))))))))))))))))))))))))))))))))))):=And.intro @mW (And.intro @gU (And.intro @mX (And.intro @qX (And.intro @qY (And.intro @mY (And.intro @mZ (And.intro @m5 (And.intro @m6 (And.intro @m7 (And.intro @m8 (And.intro (And.intro @nA (And.intro @iV (And.intro @q8 (And.intro @iW (And.intro @ni (And.intro @nq (And.intro @nu (And.intro (And.intro @qR (And.intro @qT (And.intro @qU @qW))) (And.intro @qZ @m9))))))))) (And.intro @Fp (And.intro @Fx (And.intro (And.intro @mj (And.intro @lL (And.intro @lM (And.intro @lN (And.intro @lO (And.intro @fQ (And.intro @eU (And.intro @lQ (And.intro @iT (And.intro @lR (And.intro @iU (And.intro @lU (And.intro @lV (And.intro @lW (And.intro @lX (And.intro @qM (And.intro @qN (And.intro @qO (And.intro @lY @lZ))))))))))))))))))) (And.intro @fU (And.intro @mq (And.intro @my (And.intro @mz (And.intro @mC (And.intro @mD (And.intro @mF (And.intro @mG (And.intro @qP (And.intro @mH (And.intro @mJ (And.intro @mK (And.intro (And.intro @mL @qQ) (And.intro @mO (And.intro @mQ (And.intro @mR (And.intro @mU (And.intro @dZ (And.intro @mV (And.intro @Fw (And.intro @zF (And.intro @zG (And.intro @zH (And.intro @zJ (And.intro @zK (And.intro @zL (And.intro (And.intro @zN @zM) (And.intro @zO (And.intro @zP (And.intro @zQ (And.intro @zR (And.intro @zT (And.intro @zU (And.intro @zV (And.intro @zW (And.intro @zX (And.intro @zY (And.intro @zZ (And.intro @z6 (And.intro @z7 (And.intro @z8 (And.intro @z9 (And.intro @Aa (And.intro @Ab (And.intro @Ac (And.intro @Ad (And.intro @Ae (And.intro @Af (And.intro @Ag (And.intro @Ah (And.intro @Ai (And.intro @Aj (And.intro @Ak (And.intro @Al (And.intro @Am (And.intro @Ao (And.intro @Aq (And.intro @Ar (And.intro @Av (And.intro (And.intro @Ax @Aw) (And.intro @Ay (And.intro @Az (And.intro @Ba (And.intro @Bb (And.intro @Bc (And.intro @Bd (And.intro @Be (And.intro @Bg (And.intro @Bh (And.intro @Bj (And.intro @Bm (And.intro (And.intro @Bo (And.intro @Bl @Bk)) (And.intro @Bp (And.intro @Bq (And.intro @Br (And.intro @Bt (And.intro (And.intro @Bu (And.intro @BJ (And.intro @BK (And.intro @BL (And.intro @BP @Cr))))) (And.intro @Bv (And.intro (And.intro @By (And.intro @Bw @Bx)) (And.intro @BR (And.intro @BV (And.intro @BW (And.intro @BX (And.intro @BZ (And.intro @Ca (And.intro @Cd (And.intro @Ce (And.intro @Cg (And.intro @Ci (And.intro @Cj (And.intro @Ck (And.intro @Cm (And.intro @Cp (And.intro @Cq (And.intro @Cu (And.intro @Cv (And.intro @Cw (And.intro @Cy (And.intro @Cz (And.intro @CG (And.intro @CJ (And.intro @CK (And.intro @CN (And.intro @CP (And.intro @CQ (And.intro @CW (And.intro @CZ (And.intro @Dc (And.intro @is_tup (And.intro @Dd (And.intro @De (And.intro (And.intro @Dg @Df) (And.intro @Dh (And.intro @Di (@An)))))))))))))))))))))))))))))))))))))))))))))))))))))))))))))))))))))))))))))))))))))))))))))))))))))))))))))))))))))))))))))))))
theorem U0:type_of% (And.intro @gQ @gR):=And.intro @gQ @gR
theorem Fz:type_of% (And.intro @Fq (And.intro @Ft (And.intro @Fv (And.intro @Option.join_some.{0} (And.intro @List.map_cons.{0,0} (And.intro @List.map_nil.{0,0} (And.intro @List.cons_append.{0} (And.intro @List.nil_append.{0} (And.intro @List.replicate_succ.{0} (And.intro @List.replicate_zero.{0} (And.intro @List.getElem?_cons_zero.{0} (And.intro @List.getElem?_cons_succ.{0} (And.intro @List.set_cons_zero.{0} (And.intro @List.set_cons_succ.{0} (And.intro @List.length_cons.{0} (And.intro @List.length_nil.{0} (And.intro @zp (And.intro @zq (And.intro @zr (And.intro @zu (And.intro @zx (And.intro @zy (And.intro @zA (And.intro @true_and (And.intro @and_true (And.intro @Nat.min_self (And.intro @Nat.zero_min (And.intro @Nat.min_zero (And.intro @Nat.zero_le (And.intro @Bool.or_false (And.intro @Bool.or_true (And.intro @Bool.false_or (And.intro @Bool.true_or (And.intro @Bool.not_true (And.intro @Bool.not_false (And.intro @Dj (And.intro @Dk (And.intro @Dl (And.intro @Dm (And.intro @Dn (And.intro @Do (And.intro @Dp (And.intro @Dq (And.intro @Ds (And.intro @Dt (And.intro @Du (And.intro @Dv (And.intro @Dw (And.intro @Dy (And.intro @Dz (And.intro @DG (And.intro @DK (And.intro @DN (And.intro @DP (And.intro @DQ (And.intro @DR (And.intro @DW (And.intro @DX (And.intro @DY (And.intro @Ea (And.intro @Eb (And.intro @Ec (And.intro @Ed (And.intro @Ef (And.intro @Eg (And.intro @Eh (And.intro @Ei (And.intro @Ej (And.intro @Ek (And.intro @El (And.intro @Em (And.intro @Eo (And.intro @Ep (And.intro @Er (And.intro @Es (And.intro @Et (And.intro @Eu (And.intro @Ew (And.intro @Ey (And.intro @Ez (And.intro @EY (And.intro @Fb (And.intro @Fd (And.intro @Fe (And.intro @Ff (And.intro @Fg (And.intro @Fi (And.intro @Fj (@Fl))))))))))))))))))))))))))))))))))))))))))))))))))))))))))))))))))))))))))))))))))))))))):=And.intro @Fq (And.intro @Ft (And.intro @Fv (And.intro @Option.join_some.{0} (And.intro @List.map_cons.{0,0} (And.intro @List.map_nil.{0,0} (And.intro @List.cons_append.{0} (And.intro @List.nil_append.{0} (And.intro @List.replicate_succ.{0} (And.intro @List.replicate_zero.{0} (And.intro @List.getElem?_cons_zero.{0} (And.intro @List.getElem?_cons_succ.{0} (And.intro @List.set_cons_zero.{0} (And.intro @List.set_cons_succ.{0} (And.intro @List.length_cons.{0} (And.intro @List.length_nil.{0} (And.intro @zp (And.intro @zq (And.intro @zr (And.intro @zu (And.intro @zx (And.intro @zy (And.intro @zA (And.intro @true_and (And.intro @and_true (And.intro @Nat.min_self (And.intro @Nat.zero_min (And.intro @Nat.min_zero (And.intro @Nat.zero_le (And.intro @Bool.or_false (And.intro @Bool.or_true (And.intro @Bool.false_or (And.intro @Bool.true_or (And.intro @Bool.not_true (And.intro @Bool.not_false (And.intro @Dj (And.intro @Dk (And.intro @Dl (And.intro @Dm (And.intro @Dn (And.intro @Do (And.intro @Dp (And.intro @Dq (And.intro @Ds (And.intro @Dt (And.intro @Du (And.intro @Dv (And.intro @Dw (And.intro @Dy (And.intro @Dz (And.intro @DG (And.intro @DK (And.intro @DN (And.intro @DP (And.intro @DQ (And.intro @DR (And.intro @DW (And.intro @DX (And.intro @DY (And.intro @Ea (And.intro @Eb (And.intro @Ec (And.intro @Ed (And.intro @Ef (And.intro @Eg (And.intro @Eh (And.intro @Ei (And.intro @Ej (And.intro @Ek (And.intro @El (And.intro @Em (And.intro @Eo (And.intro @Ep (And.intro @Er (And.intro @Es (And.intro @Et (And.intro @Eu (And.intro @Ew (And.intro @Ey (And.intro @Ez (And.intro @EY (And.intro @Fb (And.intro @Fd (And.intro @Fe (And.intro @Ff (And.intro @Fg (And.intro @Fi (And.intro @Fj (@Fl))))))))))))))))))))))))))))))))))))))))))))))))))))))))))))))))))))))))))))))))))))))))
end RF
namespace RF
open PySem L2
def jm:Sxs:=(.cons (.ret (.boo true (.isi (.var 0) "int") (.cons (.not (.isi (.var 0) "bool")) .nil))) .nil)
def jo:Sxs:=(.cons (.ret (.boo true (.call "is_whole" (.cons (.var 0) .nil)) (.cons (.chn .LtE .LtE (.cst (.int 1)) (.var 0) (.glb "WIDEST" (.int 6))) .nil))) .nil)
def iB:Sxs:=(.cons (.ite (.boo false (.not (.val (.isi (.var 2) "str"))) (.cons (.val (.cmp .NotEq (.bcl .len (.cons (.var 2) .nil)) (.var 1))) .nil)) (.cons (.ret (.cst (.bl false))) .nil) .nil) (.cons (.ret (.bcl .all (.cons (.comp true (.cmp .In (.var 0) (.var 1)) (.nm 0) (.seq (.var 2)) .yes ["sign","signs"] [none,some 0]) .nil))) .nil))
def jq:Sxs:=(.cons (.ret (.call "is_text_of" (.cons (.cst (.str [48,49,42])) (.cons (.var 0) (.cons (.var 1) .nil))))) .nil)
def iC:Sxs:=(.cons (.ite (.boo false (.not (.val (.isi (.var 0) "str"))) (.cons (.not (.val (.chn .LtE .LtE (.cst (.int 1)) (.bcl .len (.cons (.var 0) .nil)) (.glb "LONGEST_DEED" (.int 8))))) .nil)) (.cons (.ret (.cst (.bl false))) .nil) .nil) (.cons (.ret (.bcl .all (.cons (.comp true (.cmp .In (.var 0) (.glb "LETTERS" (.str [97,98,99,100,101,102,103,104,105,106,107,108,109,110,111,112,113,114,115,116,117,118,119,120,121,122]))) (.nm 0) (.seq (.var 0)) .yes ["sign"] [none]) .nil))) .nil))
def eF:Sxs:=(.cons (.ite (.boo false (.not (.val (.isi (.var 1) "tuple"))) (.cons (.val (.cmp .NotEq (.bcl .len (.cons (.var 1) .nil)) (.cst (.int 2)))) .nil)) (.cons (.ret (.cst (.bl false))) .nil) .nil) (.cons (.ret (.boo true (.call "is_form" (.cons (.var 0) (.cons (.idx (.var 1) (.cst (.int 0))) .nil))) (.cons (.call "is_deed" (.cons (.idx (.var 1) (.cst (.int 1))) .nil)) .nil))) .nil))
def eG:Sxs:=(.cons (.ite (.boo false (.not (.val (.isi (.var 0) "tuple"))) (.cons (.val (.cmp .NotEq (.bcl .len (.cons (.var 0) .nil)) (.cst (.int 2)))) .nil)) (.cons (.ret (.cst (.bl false))) .nil) .nil) (.cons (.asg (.tp (.cons (.nm 1) (.cons (.nm 2) .nil))) (.var 0)) (.cons (.ite (.boo false (.not (.val (.call "is_width" (.cons (.var 1) .nil)))) (.cons (.not (.val (.isi (.var 2) "tuple"))) (.cons (.val (.cmp .Gt (.bcl .len (.cons (.var 2) .nil)) (.glb "MOST_ROWS" (.int 12)))) .nil))) (.cons (.ret (.cst (.bl false))) .nil) .nil) (.cons (.ret (.bcl .all (.cons (.comp true (.call "is_row" (.cons (.var 1) (.cons (.var 0) .nil))) (.nm 0) (.seq (.var 2)) .yes ["row","width"] [none,some 1]) .nil))) .nil))))
def gj:Sxs:=(.cons (.ite (.not (.val (.call "is_book" (.cons (.var 0) .nil)))) (.cons (.rse "NoBook" .nil) .nil) .nil) .nil)
def tH:Sxs:=(.cons (.ite (.val (.cmp .GtE (.var 0) (.bin .Pow true (.cst (.int 10)) (.cst (.int 18))))) (.cons (.ret (.var 0)) .nil) .nil) (.cons (.asg (.nm 2) (.bin .Mod true (.bin .Add true (.bin .Add true (.bin .Mult true (.bin .Mod true (.var 0) (.cst (.int 1000000007))) (.cst (.int 69069))) (.bin .Mult true (.var 1) (.cst (.int 40503)))) (.cst (.int 977))) (.cst (.int 2147483629)))) (.cons (.asg (.nm 3) (.bin .Mod true (.bin .Add true (.bin .Add true (.bin .Mult true (.var 2) (.var 2)) (.bin .Mult true (.var 1) (.cst (.int 7919)))) (.bin .Mod true (.var 0) (.cst (.int 65537)))) (.cst (.int 2147483587)))) (.cons (.asg (.nm 4) (.bin .Mod true (.bin .Add true (.bin .Add true (.bin .Mult true (.var 3) (.var 3)) (.bin .Mult true (.var 2) (.cst (.int 31)))) (.cst (.int 5))) (.cst (.int 2147483563)))) (.cons (.ret (.bin .Add true (.bin .Mult true (.bin .Add true (.bin .Mult true (.var 2) (.cst (.int 2147483659))) (.var 3)) (.cst (.int 2147483693))) (.var 4))) .nil)))))
def tM:Sxs:=(.cons (.ite (.val (.cmp .Lt (.idx (.var 0) (.cst (.int 2))) (.var 1))) (.cons (.asg (.nm 2) (.idx (.var 0) (.cst (.int 1)))) (.cons (.asg (.nm 3) (.cst (.int 0))) (.cons (.ite (.val (.cmp .Lt (.var 2) (.bcl .len (.cons (.idx (.var 0) (.cst (.int 0))) .nil)))) (.cons (.asg (.nm 3) (.idx (.idx (.var 0) (.cst (.int 0))) (.var 2))) .nil) (.cons (.ite (.val (.cmp .Gt (.bcl .len (.cons (.idx (.var 0) (.cst (.int 0))) .nil)) (.cst (.int 0)))) (.cons (.asg (.nm 3) (.bin .Mod true (.idx (.idx (.var 0) (.cst (.int 0))) (.bin .Mod true (.bin .Add true (.bin .Mult true (.var 2) (.cst (.int 5))) (.cst (.int 3))) (.bcl .len (.cons (.idx (.var 0) (.cst (.int 0))) .nil)))) (.bin .Add true (.bin .Pow true (.cst (.int 10)) (.cst (.int 17))) (.var 2)))) .nil) .nil) .nil)) (.cons (.set (.var 0) (.cst (.int 1)) (.bin .Add true (.var 2) (.cst (.int 1)))) (.cons (.set (.var 0) (.cst (.int 2)) (.call "_law_spread" (.cons (.var 3) (.cons (.var 2) .nil)))) .nil))))) .nil) (.cons (.asg (.nm 4) (.bin .Mod true (.idx (.var 0) (.cst (.int 2))) (.var 1))) (.cons (.set (.var 0) (.cst (.int 2)) (.bin .FloorDiv true (.idx (.var 0) (.cst (.int 2))) (.var 1))) (.cons (.ret (.var 4)) .nil))))
def tO:Sxs:=(.cons (.asg (.nm 2) (.cst (.str [32,33,34,35,36,38,39,40,41,42,43,44,45,46,47,48,49,50,51,52,53,54,55,56,57,58,59,60,61,62,63,64,65,66,67,68,69,70,71,72,73,74,75,76,77,78,79,80,81,82,83,84,85,86,87,88,89,90,91,92,93,94,95,96]))) (.cons (.asg (.nm 2) (.bin .Add true (.var 2) (.cst (.str [97,98,99,100,101,102,103,104,105,106,107,108,109,110,111,112,113,114,115,116,117,118,119,120,121,122,123,124,125,126,9,10])))) (.cons (.asg (.nm 3) (.comp true (.var 0) (.nm 0) (.seq (.var 2)) (.val (.cmp .NotIn (.var 0) (.var 1))) ["sign","others"] [none,some 1])) (.cons (.ret (.idx (.var 3) (.call "_law_take" (.cons (.var 0) (.cons (.bcl .len (.cons (.var 3) .nil)) .nil))))) .nil))))
def tQ:Sxs:=(.cons (.ret (.call "_law_sign_but" (.cons (.var 0) (.cons (.cst (.str [])) .nil)))) .nil)
def tR:Sxs:=(.cons (.asg (.nm 2) (.call "_law_take" (.cons (.var 0) (.cons (.bin .Add true (.bcl .len (.cons (.var 1) .nil)) (.cst (.int 1))) .nil)))) (.cons (.ret (.bin .Add true (.bin .Add true (.slc true (.var 1) .no (.ob (.var 2))) (.call "_law_any_sign" (.cons (.var 0) .nil))) (.slc true (.var 1) (.ob (.bin .Add true (.var 2) (.call "_law_take" (.cons (.var 0) (.cons (.cst (.int 2)) .nil))))) .no))) .nil))
def tU:Sxs:=(.cons (.asg (.nm 1) (.lcl false .list (.cons (.slc true (.var 0) .no (.ob (.cst (.int 12)))) .nil))) (.cons (.for_ (.tp (.cons (.nm 2) (.cons (.nm 3) .nil))) (.enm (.slc true (.var 0) (.ob (.cst (.int 12))) (.ob (.cst (.int 63))))) (.cons (.set (.var 1) (.bin .Mod true (.var 2) (.cst (.int 12))) (.bin .Add true (.idx (.var 1) (.bin .Mod true (.var 2) (.cst (.int 12)))) (.var 3))) .nil)) (.cons (.ret (.lst false (.cons (.frz (.var 1)) (.cons (.cst (.int 0)) (.cons (.cst (.int 0)) .nil))))) .nil)))
def tV:Sxs:=(.cons (.set (.var 0) (.cst (.int 2)) (.cst (.int 0))) (.cons (.ret (.var 0)) .nil))
def tW:Sxs:=(.cons (.ret (.mth .join (.cst (.str [])) (.cons (.comp true (.idx (.var 1) (.call "_law_take" (.cons (.var 2) (.cons (.bcl .len (.cons (.var 1) .nil)) .nil)))) (.nm 0) (.rng (.var 1)) .yes ["at","signs","pen"] [none,some 2,some 0]) .nil))) .nil)
def tX:Sxs:=(.cons (.ret (.call "_law_signs" (.cons (.var 0) (.cons (.var 1) (.cons (.idx (.lst true (.cons (.cst (.str [48,49,42])) (.cons (.cst (.str [48,49,42,42])) (.cons (.cst (.str [48,49,42,42,42,42])) (.cons (.cst (.str [48,42])) (.cons (.cst (.str [48,49])) .nil)))))) (.call "_law_take" (.cons (.var 0) (.cons (.cst (.int 5)) .nil)))) .nil))))) .nil)
def tY:Sxs:=(.cons (.asg (.nm 2) (.cst (.str []))) (.cons (.for_ (.nm 3) (.seq (.var 1)) (.cons (.ite (.boo true (.val (.cmp .Eq (.var 3) (.cst (.str [42])))) (.cons (.val (.cmp .Eq (.call "_law_take" (.cons (.var 0) (.cons (.cst (.int 2)) .nil))) (.cst (.int 0)))) .nil)) (.cons (.asg (.nm 3) (.idx (.cst (.str [48,49])) (.call "_law_take" (.cons (.var 0) (.cons (.cst (.int 2)) .nil))))) .nil) .nil) (.cons (.asg (.nm 2) (.bin .Add true (.var 2) (.var 3))) .nil))) (.cons (.ret (.var 2)) .nil)))
def tZ:Sxs:=(.cons (.asg (.nm 2) (.cst (.str []))) (.cons (.for_ (.nm 3) (.seq (.var 1)) (.cons (.ite (.val (.cmp .Eq (.call "_law_take" (.cons (.var 0) (.cons (.cst (.int 3)) .nil))) (.cst (.int 0)))) (.cons (.asg (.nm 3) (.cst (.str [42]))) .nil) .nil) (.cons (.asg (.nm 2) (.bin .Add true (.var 2) (.var 3))) .nil))) (.cons (.ret (.var 2)) .nil)))
def uc:Sxs:=(.cons (.asg (.nm 3) (.call "_law_take" (.cons (.var 0) (.cons (.cst (.int 7)) .nil)))) (.cons (.ite (.boo false (.val (.cmp .Eq (.var 2) (.lst true .nil))) (.cons (.val (.cmp .Lt (.var 3) (.cst (.int 2)))) .nil)) (.cons (.ret (.call "_law_form" (.cons (.var 0) (.cons (.var 1) .nil)))) .nil) .nil) (.cons (.asg (.nm 4) (.idx (.var 2) (.call "_law_take" (.cons (.var 0) (.cons (.bcl .len (.cons (.var 2) .nil)) .nil))))) (.cons (.ite (.val (.cmp .Eq (.var 3) (.cst (.int 2)))) (.cons (.ret (.var 4)) .nil) .nil) (.cons (.ite (.val (.cmp .Lt (.var 3) (.cst (.int 5)))) (.cons (.asg (.nm 5) (.call "_law_take" (.cons (.var 0) (.cons (.var 1) .nil)))) (.cons (.ret (.bin .Add true (.bin .Add true (.slc true (.var 4) .no (.ob (.var 5))) (.idx (.cst (.str [48,49,42])) (.call "_law_take" (.cons (.var 0) (.cons (.cst (.int 3)) .nil))))) (.slc true (.var 4) (.ob (.bin .Add true (.var 5) (.cst (.int 1)))) .no))) .nil)) .nil) (.cons (.ite (.val (.cmp .Eq (.var 3) (.cst (.int 5)))) (.cons (.ret (.call "_law_within" (.cons (.var 0) (.cons (.var 4) .nil)))) .nil) .nil) (.cons (.ret (.call "_law_wider" (.cons (.var 0) (.cons (.var 4) .nil)))) .nil)))))))
def ud:Sxs:=(.cons (.asg (.nm 2) (.lst true (.cons (.cst (.str [97])) (.cons (.cst (.str [103,111])) (.cons (.cst (.str [115,116,97,121])) (.cons (.cst (.str [97,98,99,100,101,102,103,104])) (.cons (.cst (.str [110,111,110,101])) (.cons (.cst (.str [121,101,115])) (.cons (.cst (.str [105,110])) (.cons (.cst (.str [111,117,116])) (.cons (.cst (.str [107,101,101,112])) (.cons (.cst (.str [119,111,114,100])) (.cons (.cst (.str [122,122])) .nil))))))))))))) (.cons (.asg (.nm 3) (.call "_law_take" (.cons (.var 0) (.cons (.cst (.int 11)) .nil)))) (.cons (.asg (.nm 4) (.comp true (.idx (.var 1) (.bin .Mod true (.bin .Add true (.var 2) (.bin .Mult true (.cst (.int 3)) (.var 0))) (.cst (.int 11)))) (.nm 0) (.rng (.bin .Add true (.cst (.int 1)) (.call "_law_take" (.cons (.var 0) (.cons (.var 1) .nil))))) .yes ["k","some","turn"] [none,some 2,some 3])) (.cons (.ite (.val (.cmp .Eq (.call "_law_take" (.cons (.var 0) (.cons (.cst (.int 3)) .nil))) (.cst (.int 0)))) (.cons (.asg (.nm 5) (.cst (.str [97,98,99,100,101,102,103,104,105,106,107,108,109,110,111,112,113,114,115,116,117,118,119,120,121,122]))) (.cons (.asg (.nm 4) (.comp true (.call "_law_signs" (.cons (.var 1) (.cons (.bin .Add true (.cst (.int 1)) (.call "_law_take" (.cons (.var 1) (.cons (.cst (.int 8)) .nil)))) (.cons (.var 2) .nil)))) (.nm 0) (.seq (.var 4)) .yes ["one","pen","letters"] [none,some 0,some 5])) .nil)) .nil) (.cons (.ret (.var 4)) .nil)))))
def ue:Sxs:=(.cons (.asg (.nm 3) (.bin .Add true (.cst (.int 1)) (.call "_law_take" (.cons (.var 0) (.cons (.var 1) .nil))))) (.cons (.asg (.nm 4) (.call "_law_deeds_of" (.cons (.var 0) (.cons (.cst (.int 3)) .nil)))) (.cons (.asg (.nm 5) (.lst false .nil)) (.cons (.asg (.nm 6) (.lst false .nil)) (.cons (.for_ (.nm 7) (.rng (.call "_law_take" (.cons (.var 0) (.cons (.bin .Add true (.var 2) (.cst (.int 1))) .nil)))) (.cons (.exp (.mth .append (.var 5) (.cons (.call "_law_form_like" (.cons (.var 0) (.cons (.var 3) (.cons (.var 5) .nil)))) .nil))) (.cons (.exp (.mth .append (.var 6) (.cons (.tup (.cons (.idx (.var 5) (.neg (.cst (.int 1)))) (.cons (.idx (.var 4) (.call "_law_take" (.cons (.var 0) (.cons (.bcl .len (.cons (.var 4) .nil)) .nil)))) .nil))) .nil))) .nil))) (.cons (.ret (.tup (.cons (.var 3) (.cons (.bcl .tuple (.cons (.var 6) .nil)) .nil)))) .nil))))))
def FJ:Sxs:=(.cons (.ret (.boo true (.isi (.var 0) "int") (.cons (.not (.isi (.var 0) "bool")) .nil))) .nil)
def di:Sxs:=(.cons (.ite (.val (.cmp .Is (.var 1) (.cst .non))) (.cons (.ret (.cmp .Is (.var 0) (.cst .non))) .nil) .nil) (.cons (.ite (.boo false (.val (.isi (.var 1) "bool")) (.cons (.val (.isi (.var 0) "bool")) .nil)) (.cons (.ret (.boo true (.isi (.var 1) "bool") (.cons (.isi (.var 0) "bool") (.cons (.cmp .Eq (.var 0) (.var 1)) .nil)))) .nil) .nil) (.cons (.ite (.val (.isi (.var 1) "int")) (.cons (.ret (.boo true (.isi (.var 0) "int") (.cons (.cmp .Eq (.var 0) (.var 1)) .nil))) .nil) .nil) (.cons (.ite (.val (.isi (.var 1) "str")) (.cons (.ret (.boo true (.isi (.var 0) "str") (.cons (.cmp .Eq (.var 0) (.var 1)) .nil))) .nil) .nil) (.cons (.ite (.boo false (.val (.cmp .NotEq (.isi (.var 1) "tuple") (.isi (.var 0) "tuple"))) (.cons (.val (.cmp .NotEq (.isi (.var 1) "list") (.isi (.var 0) "list"))) .nil)) (.cons (.ret (.cst (.bl false))) .nil) .nil) (.cons (.ite (.val (.cmp .NotEq (.bcl .len (.cons (.var 0) .nil)) (.bcl .len (.cons (.var 1) .nil)))) (.cons (.ret (.cst (.bl false))) .nil) .nil) (.cons (.ret (.cmp .NotIn (.cst (.bl false)) (.comp true (.call "_law_same" (.cons (.var 0) (.cons (.var 1) .nil))) (.tp (.cons (.nm 0) (.cons (.nm 1) .nil))) (.zip (.var 0) (.var 1)) .yes ["one","other"] [none,none]))) .nil)))))))
def eH:Sxs:=(.cons (.ite (.boo false (.not (.val (.isi (.var 1) "tuple"))) (.cons (.val (.cmp .NotEq (.bcl .len (.cons (.var 1) .nil)) (.cst (.int 2)))) (.cons (.not (.val (.isi (.idx (.var 1) (.cst (.int 0))) "str"))) (.cons (.not (.val (.isi (.idx (.var 1) (.cst (.int 1))) "str"))) .nil)))) (.cons (.ret (.cst (.bl false))) .nil) .nil) (.cons (.ite (.boo false (.val (.cmp .NotEq (.bcl .len (.cons (.idx (.var 1) (.cst (.int 0))) .nil)) (.var 0))) (.cons (.val (.cmp .NotEq (.comp true (.var 0) (.nm 0) (.seq (.idx (.var 1) (.cst (.int 0)))) (.val (.cmp .NotIn (.var 0) (.cst (.str [48,49,42])))) ["sign"] [none]) (.lst true .nil))) .nil)) (.cons (.ret (.cst (.bl false))) .nil) .nil) (.cons (.ret (.boo true (.chn .LtE .LtE (.cst (.int 1)) (.bcl .len (.cons (.idx (.var 1) (.cst (.int 1))) .nil)) (.cst (.int 8))) (.cons (.cmp .Eq (.comp true (.var 0) (.nm 0) (.seq (.idx (.var 1) (.cst (.int 1)))) (.not (.val (.chn .LtE .LtE (.cst (.str [97])) (.var 0) (.cst (.str [122]))))) ["sign"] [none]) (.lst true .nil)) .nil))) .nil)))
def fH:Sxs:=(.cons (.ite (.boo false (.not (.val (.isi (.var 0) "tuple"))) (.cons (.val (.cmp .NotEq (.bcl .len (.cons (.var 0) .nil)) (.cst (.int 2)))) (.cons (.not (.val (.isi (.idx (.var 0) (.cst (.int 1))) "tuple"))) .nil))) (.cons (.ret (.cst (.bl false))) .nil) .nil) (.cons (.ite (.boo false (.not (.val (.call "_law_is_whole" (.cons (.idx (.var 0) (.cst (.int 0))) .nil)))) (.cons (.not (.val (.chn .LtE .LtE (.cst (.int 1)) (.idx (.var 0) (.cst (.int 0))) (.cst (.int 6))))) (.cons (.val (.cmp .Gt (.bcl .len (.cons (.idx (.var 0) (.cst (.int 1))) .nil)) (.cst (.int 12)))) .nil))) (.cons (.ret (.cst (.bl false))) .nil) .nil) (.cons (.ret (.cmp .NotIn (.cst (.bl false)) (.comp true (.call "_law_is_row" (.cons (.idx (.var 1) (.cst (.int 0))) (.cons (.var 0) .nil))) (.nm 0) (.seq (.idx (.var 0) (.cst (.int 1)))) .yes ["row","thing"] [none,some 0]))) .nil)))
def uf:Sxs:=(.cons (.asg (.tp (.cons (.nm 2) (.cons (.nm 3) .nil))) (.var 1)) (.cons (.asg (.nm 4) (.lst true (.cons (.cst (.str [])) (.cons (.cst (.str [97,98,99,100,101,102,103,104,105])) (.cons (.cst (.str [65])) (.cons (.cst (.str [97,32,98])) (.cons (.cst (.str [97,49])) (.cons (.call "_law_signed" (.cons (.var 0) (.cons (.var 3) .nil))) (.cons (.call "_law_signed" (.cons (.var 0) (.cons (.var 3) .nil))) (.cons (.cst .non) (.cons (.cst (.int 7)) (.cons (.lst true (.cons (.cst (.str [97])) .nil)) (.cons (.cst (.str [122])) (.cons (.cst (.bl true)) .nil)))))))))))))) (.cons (.asg (.nm 5) (.lst true (.cons (.cst (.str [])) (.cons (.bin .Add true (.var 2) (.cst (.str [48]))) (.cons (.slc true (.var 2) (.ob (.cst (.int 1))) .no) (.cons (.bin .Add true (.slc true (.var 2) .no (.ob (.neg (.cst (.int 1))))) (.cst (.str [50]))) (.cons (.call "_law_signed" (.cons (.var 0) (.cons (.var 2) .nil))) (.cons (.cst .non) (.cons (.lcl true .list (.cons (.var 2) .nil)) (.cons (.cst (.int 0)) (.cons (.bin .Add true (.slc true (.var 2) .no (.ob (.neg (.cst (.int 1))))) (.cst (.str [10]))) .nil))))))))))) (.cons (.asg (.nm 6) (.lst true (.cons (.tup (.cons (.var 2) (.cons (.idx (.var 4) (.call "_law_take" (.cons (.var 0) (.cons (.cst (.int 12)) .nil)))) .nil))) (.cons (.tup (.cons (.idx (.var 5) (.call "_law_take" (.cons (.var 0) (.cons (.cst (.int 9)) .nil)))) (.cons (.var 3) .nil))) (.cons (.bin .Add true (.var 1) (.tup (.cons (.cst (.str [97])) .nil))) (.cons (.tup (.cons (.var 2) .nil)) (.cons (.lcl true .list (.cons (.var 1) .nil)) .nil))))))) (.cons (.ret (.idx (.bin .Add true (.var 6) (.lst true (.cons (.cst .non) (.cons (.tup .nil) (.cons (.var 2) (.cons (.tup (.cons (.var 3) (.cons (.var 2) .nil))) (.cons (.tup (.cons (.var 1) .nil)) (.cons (.cst (.int 5)) .nil)))))))) (.call "_law_take" (.cons (.var 0) (.cons (.cst (.int 11)) .nil))))) .nil)))))
def ug:Sxs:=(.cons (.asg (.tp (.cons (.nm 2) (.cons (.nm 3) .nil))) (.var 1)) (.cons (.asg (.nm 4) (.call "_law_take" (.cons (.var 0) (.cons (.bin .Add true (.bcl .len (.cons (.var 3) .nil)) (.cst (.int 1))) .nil)))) (.cons (.asg (.nm 5) (.idx (.bin .Add true (.var 3) (.tup (.cons (.tup (.cons (.bin .Mult true (.cst (.str [42])) (.var 2)) (.cons (.cst (.str [97])) .nil))) .nil))) (.var 4))) (.cons (.asg (.nm 6) (.call "_law_odd_row" (.cons (.var 0) (.cons (.var 5) .nil)))) (.cons (.asg (.nm 7) (.bin .Add true (.bin .Add true (.slc true (.var 3) .no (.ob (.var 4))) (.tup (.cons (.var 6) .nil))) (.slc true (.var 3) (.ob (.bin .Add true (.var 4) (.cst (.int 1)))) .no))) (.cons (.asg (.nm 8) (.lst true (.cons (.cst (.int 0)) (.cons (.cst (.int 7)) (.cons (.neg (.cst (.int 1))) (.cons (.cst (.bl true)) (.cons (.cst .non) (.cons (.bcl .str (.cons (.var 2) .nil)) (.cons (.bin .Add true (.var 2) (.cst (.int 1))) (.cons (.bin .Sub true (.var 2) (.cst (.int 1))) (.cons (.bin .Pow true (.cst (.int 10)) (.cst (.int 20))) (.cons (.lst true (.cons (.var 2) .nil)) .nil)))))))))))) (.cons (.asg (.nm 9) (.lst true (.cons (.tup (.cons (.var 2) (.cons (.var 7) .nil))) (.cons (.tup (.cons (.var 2) (.cons (.var 7) .nil))) (.cons (.tup (.cons (.var 2) (.cons (.bin .Add true (.bin .Add true (.slc true (.var 3) .no (.ob (.var 4))) (.tup (.cons (.var 6) .nil))) (.slc true (.var 3) (.ob (.var 4)) .no)) .nil))) (.cons (.tup (.cons (.idx (.var 8) (.call "_law_take" (.cons (.var 0) (.cons (.cst (.int 10)) .nil)))) (.cons (.var 3) .nil))) .nil)))))) (.cons (.asg (.nm 9) (.bin .Add true (.var 9) (.lst true (.cons (.tup (.cons (.var 2) (.cons (.lcl true .list (.cons (.var 3) .nil)) .nil))) (.cons (.tup (.cons (.var 2) (.cons (.bin .Mult true (.tup (.cons (.var 5) .nil)) (.cst (.int 12))) .nil))) (.cons (.tup (.cons (.var 2) (.cons (.bin .Mult true (.tup (.cons (.var 5) .nil)) (.cst (.int 13))) .nil))) (.cons (.tup (.cons (.var 2) .nil)) (.cons (.tup (.cons (.var 2) (.cons (.var 3) (.cons (.var 3) .nil)))) .nil)))))))) (.cons (.ret (.idx (.bin .Add true (.var 9) (.lst true (.cons (.lst true (.cons (.var 2) (.cons (.var 3) .nil))) (.cons (.tup (.cons (.var 3) (.cons (.var 2) .nil))) (.cons (.var 3) (.cons (.cst .non) (.cons (.tup .nil) (.cons (.var 2) (.cons (.tup (.cons (.var 2) (.cons (.cst .non) .nil))) .nil))))))))) (.call "_law_take" (.cons (.var 0) (.cons (.cst (.int 16)) .nil))))) .nil)))))))))
def uh:Sxs:=(.cons (.asg (.nm 1) (.call "_law_is_book" (.cons (.var 0) .nil))) (.cons (.asg (.nm 2) (.cst (.bl false))) (.cons (.asg (.nm 3) (.cst (.int 0))) (.cons (.tryx (.asg 3 "need_book" (.cons (.var 0) .nil)) "NoBook" (.flag 2 true) ["NoBook"]) (.cons (.ret (.boo true (.call "_law_same" (.cons (.call "is_book" (.cons (.var 0) .nil)) (.cons (.var 1) .nil))) (.cons (.cmp .NotEq (.var 2) (.var 1)) (.cons (.boo false (.var 2) (.cons (.cmp .Is (.var 3) (.cst .non)) .nil)) .nil)))) .nil)))))
def ul:Sxs:=(.cons (.asg (.nm 1) (.call "_law_open" (.cons (.var 0) .nil))) (.cons (.for_ (.nm 2) (.rng (.cst (.int 6))) (.cons (.asg (.nm 3) (.call "_law_book" (.cons (.call "_law_anew" (.cons (.var 1) .nil)) (.cons (.cst (.int 6)) (.cons (.idx (.lst true (.cons (.cst (.int 6)) (.cons (.cst (.int 12)) .nil))) (.bin .Mod true (.var 2) (.cst (.int 2)))) .nil))))) (.cons (.ite (.boo false (.val (.cmp .IsNot (.call "is_book" (.cons (.var 3) .nil)) (.cst (.bl true)))) (.cons (.not (.val (.call "_law_right" (.cons (.var 3) .nil)))) .nil)) (.cons (.ret (.cst (.bl false))) .nil) .nil) (.cons (.for_ (.nm 4) (.rng (.cst (.int 6))) (.cons (.ite (.not (.val (.call "_law_right" (.cons (.call "_law_odd_book" (.cons (.var 1) (.cons (.var 3) .nil))) .nil)))) (.cons (.ret (.cst (.bl false))) .nil) .nil) .nil)) .nil)))) (.cons (.ret (.boo true (.call "_law_right" (.cons (.tup (.cons (.cst (.int 1)) (.cons (.tup .nil) .nil))) .nil)) (.cons (.call "_law_right" (.cons (.tup (.cons (.cst (.int 6)) (.cons (.tup (.cons (.tup (.cons (.bin .Mult true (.cst (.str [42])) (.cst (.int 6))) (.cons (.cst (.str [97])) .nil))) .nil)) .nil))) .nil)) .nil))) .nil)))
end RF
local macro_rules | `(tactic| simp_arith [$l,*] $[$c:location]?) => `(tactic| simp -implicitDefEqProofs only [↓RF.U0, ↓RF.Fy, RF.Fz, RF.env0, RF.ends, String.reduceBEq, $l,*] $[$c:location]?)
local macro_rules | `(tactic| simp_arith! [$l,*] $[$c:location]?) => `(tactic| simp -implicitDefEqProofs only [↓RF.Fy, RF.Fz, RF.env0, RF.ends, String.reduceBEq, $l,*] $[$c:location]?)
local macro_rules | `(tactic| simp_all_arith [$l,*]) => `(tactic| simp -implicitDefEqProofs only [RF.env0, RF.ends, List.map_cons, List.map_nil, List.cons_append, List.nil_append, List.replicate_succ, List.replicate_zero, $l,*])
namespace RF
open PySem L2
theorem gk{i j:Int}(h:-(2 ^ 64) < j∧j < 2 ^ 64):CMul i j:=.inr h
theorem um{i j:Int}(h:-(2 ^ 64) < i∧i < 2 ^ 64):CMul i j:=.inl h
theorem uo{j:Int}(h:0≤j∧j≤1000):lg 10 j:=⟨h.1,by omega,by decide⟩
def pA:RF.Spec:=bf (fun ds _=>∃c k:Int,ds=[.int c,.int k]∧0≤k) (fun _ G d G'=>G'=G∧∃r:Int,d=.int r∧0≤r)
theorem U3(Φ:aj)(ds:List D)(G:DH)(h:∃c k:Int,ds=[.int c,.int k]∧0≤k):aq Φ tH noE (env0 ds 3) G (ends fun d G'=>G'=G∧∃r:Int,d=.int r∧0≤r):=by
 obtain ⟨c,k,rfl,hk⟩:=h
 simp_arith[tH]
 refine ⟨uo (by decide),?_⟩
 cases hc:decide (10 ^ Int.toNat 18≤c) with
 |true=>
  refine ⟨c,rfl,?_⟩
  have:=of_decide_eq_true hc
  have h2:(0:Int)≤(10:Int) ^ (18:Int).toNat:=by decide
  exact Int.le_trans h2 this
 |false=>
  generalize hone:(c % 1000000007 * 69069+k * 40503+977) % 2147483629=one
  have o1:0≤one:=by rw[←hone];exact Int.emod_nonneg _ (by decide)
  have o2:one < 2147483629:=by rw[←hone];exact Int.emod_lt_of_pos _ (by decide)
  generalize htwo:(one * one+k * 7919+c % 65537) % 2147483587=two
  have t1:0≤two:=by rw[←htwo];exact Int.emod_nonneg _ (by decide)
  have t2:two < 2147483587:=by rw[←htwo];exact Int.emod_lt_of_pos _ (by decide)
  generalize hthree:(two * two+one * 31+5) % 2147483563=three
  have h1:0≤three:=by rw[←hthree];exact Int.emod_nonneg _ (by decide)
  clear hone htwo hthree
  refine ⟨by decide,gk (by decide),gk (by decide),by decide,um (by omega),gk (by decide),by decide,by decide,um (by omega),gk (by decide),by decide,gk (by decide),gk (by decide),_,rfl,?_⟩
  omega
def Pen(G:DH)(p:Addr):Prop:=∃(ns:List Int)(k st:Int),G p=some (.lst [.lst (ns.map D.int),.int k,.int st])∧0≤k∧0≤st
theorem Pen.sa{G G':DH}{p:Addr}(h:Pen G p)(s:Sa G G'):Pen G' p:=by
 obtain ⟨ns,k,st,e,h1⟩:=h
 exact ⟨ns,k,st,s _ _ e,h1⟩
theorem Pen.ne{G:DH}{p q:Addr}(h:Pen G p)(e:G q=none):p≠q:=by
 obtain ⟨ns,k,st,e1,h1⟩:=h
 exact wH e1 e
theorem Pen.sb{G G':DH}{p q:Addr}(h:Pen G p)(s:Sb q G G')(n:p≠q):Pen G' p:=by
 obtain ⟨ns,k,st,e,h1⟩:=h
 exact ⟨ns,k,st,s _ _ e n,h1⟩
def pB:RF.Spec:=bf (fun ds G=>∃p,ds=[.ref p]∧Pen G p) (fun ds G d G'=>∃p,ds=[.ref p]∧d=.ref p∧Pen G' p∧Sb p G G')
theorem U4(Φ:aj)(ds:List D)(G:DH)(h:∃p,ds=[.ref p]∧Pen G p):aq Φ tV noE (env0 ds 0) G (ends fun d G'=>∃p,ds=[.ref p]∧d=.ref p∧Pen G' p∧Sb p G G'):=by
 obtain ⟨p,rfl,ns,k,st,e,h1,h2⟩:=h
 simp_arith[tV,dh e]
 exact ⟨p,rfl,rfl,⟨ns,k,0,bG,h1,by decide⟩,Sb.upd⟩
def cu:RF.Spec:=bf (fun ds G=>∃p,∃m:Int,ds=[.ref p,.int m]∧Pen G p∧0 < m∧m < 1152921504606846976) (fun ds G d G'=>∃p,∃m r:Int,ds=[.ref p,.int m]∧d=.int r∧0≤r∧r < m∧Pen G' p∧Sb p G G')
theorem U5 (Φ:aj) (hΦ:Φ "_law_spread"=pA) (ds:List D) (G:DH) (h:∃p,∃m:Int,ds=[.ref p,.int m]∧Pen G p∧0 < m∧m < 1152921504606846976):
  aq Φ tM noE (env0 ds 3) G (ends fun d G'=>∃p,∃m r:Int,ds=[.ref p,.int m]∧d=.int r∧0≤r∧r < m∧Pen G' p∧Sb p G G'):=by
 obtain ⟨p,m,rfl,⟨ns,k,st,e,h1,h2⟩,h3,h4⟩:=h
 simp_all_arith[tM]
 refine seq fun M hM=>?_
 have fin:∀(ρ2 ρ3 ρ4:Option D)(G1:DH)(k1 s1:Int),0≤k1→0≤s1→G1 p=some (.lst [.lst (ns.map D.int),.int k1,.int s1])→Sb p G G1→M [some (.ref p),some (.int m),ρ2,ρ3,ρ4] G1:=by
  intro ρ2 ρ3 ρ4 G1 k1 s1 q1 q2 e1 sb
  refine hM _ _ ?_
  simp_arith[bW e1,dh e1]
  refine ⟨h3,⟨h3,h4⟩,p,m,_,rfl,rfl,Int.emod_nonneg _ (by omega),Int.emod_lt_of_pos _ h3,⟨ns,k1,_,bG,q1,?_⟩,sb.trans Sb.upd⟩
  exact Int.ediv_nonneg q2 (by omega)
 simp_arith[bW e,dh e,hΦ]
 have draw:∀c:Int,pA.t [.int c,.int k] (aR G p (.lst [.lst (ns.map D.int),.int (k+1),.int st])) (fun x G1=>trk G1 p fun ds=>aW (ixN ds.length 2) fun j=>M [some (.ref p),some (.int m),some (.int k),some (.int c),none] (aR G1 p (.lst (ds.set j x)))) noE:=by
  intro c
  refine bD ⟨c,k,rfl,h1⟩ fun d G' hx=>?_
  obtain ⟨e1,r,e2,hr⟩:=hx
  subst e1 e2
  simp_arith[dh bG]
  refine fin _ _ _ _ (k+1) r (by omega) hr bG (Sb.trans Sb.upd Sb.upd)
 cases hc:decide (st < m) with
 |false=>exact fin _ _ _ _ k st h1 h2 e (Sb.refl _ _)
 |true=>
  cases hk:decide (k < ((ns.map D.int).length:Int)) with
  |true=>
   have hk:=of_decide_eq_true hk
   rw[List.length_map]at hk
   refine fD (a:=.int ns[k.toNat]) ?_ ?_
   ·obtain ⟨n,rfl⟩:=Int.eq_ofNat_of_zero_le h1
    exact dq (by simp at hk ⊢)
   ·exact draw _
  |false=>
   cases hz:decide (0 < ((ns.map D.int).length:Int)) with
   |false=>exact draw 0
   |true=>
    have hz:=of_decide_eq_true hz
    have j1:0≤(k * 5+3) % ((ns.map D.int).length:Int):=Int.emod_nonneg _ (by omega)
    have j2:(k * 5+3) % ((ns.map D.int).length:Int) < ((ns.map D.int).length:Int):=Int.emod_lt_of_pos _ hz
    obtain ⟨j,hj⟩:=Int.eq_ofNat_of_zero_le j1
    rw[hj]at j2
    have j3:j < ns.length:=by rw[List.length_map]at j2;omega
    refine ⟨gk (by decide),hz,fD (a:=.int ns[j]) ?_ ⟨uo (by decide),?_⟩⟩
    ·rw[hj];exact dq (by simp[j3])
    ·simp_arith[dh e]
     refine ⟨?_,draw _⟩
     have:(0:Int) < 10 ^ Int.toNat 17:=by decide
     omega
def jr:RF.Spec:=bf (fun ds G=>∃p,∃n:Nat,∃cs:List Nat,ds=[.ref p,.int n,.str cs]∧Pen G p∧n≤1000∧cs≠[]∧cs.length≤1000)
 (fun ds G d G'=>∃p,∃n:Nat,∃cs l:List Nat,ds=[.ref p,.int n,.str cs]∧d=.str l∧l.length=n∧(∀c∈l,c∈cs)∧Pen G' p∧Sb p G G')
theorem U6(l:List Nat):((l.map fun c=>[c]).map (·.length)).sum=l.length:=by
 induction l with
 |nil=>rfl
 |cons a l ih=>simp at ih ⊢;omega
theorem U7(l:List Nat):(l.map fun c=>[c]).flatten=l:=by
 induction l with
 |nil=>rfl
 |cons a l ih=>simp at ih ⊢;exact ih
theorem U8 (Φ:aj) (hΦ:Φ "_law_take"=cu) (ds:List D) (G:DH) (h:∃p,∃n:Nat,∃cs:List Nat,ds=[.ref p,.int n,.str cs]∧Pen G p∧n≤1000∧cs≠[]∧cs.length≤1000):
  aq Φ tW noE (env0 ds 0) G (ends fun d G'=>∃p,∃n:Nat,∃cs l:List Nat,ds=[.ref p,.int n,.str cs]∧d=.str l∧l.length=n∧(∀c∈l,c∈cs)∧Pen G' p∧Sb p G G'):=by
 obtain ⟨p,n,cs,rfl,hp,hn,hc,hl⟩:=h
 have hc1:0 < cs.length:=List.length_pos_iff.mpr hc
 simp_arith[tW,hΦ]
 refine ⟨by omega,CompG.inv (P:=fun i acc ρ G'=>(∃o,ρ=[o,some (.str cs),some (.ref p)])∧Pen G' p∧Sb p G G'∧∃l:List Nat,acc=l.map (fun c=>D.str [c])∧l.length=i∧∀c∈l,c∈cs) (h0:=⟨⟨_,rfl⟩,hp,Sb.refl _ _,[],rfl,rfl,by simp⟩) (hh:=fun _ _ _ _ _=>trivial) (hl:=by simp[bK];have hsz:sz=1000000:=rfl;omega) (hs:=?_) (he:=?_)⟩
 ·rintro i d acc ρ G' hd ⟨⟨o,rfl⟩,hp',sb,l,rfl,hl',hm⟩ kk hk
  simp_arith[hΦ]
  refine bD ⟨p,_,rfl,hp',by omega,by omega⟩ fun d' G2 hx=>?_
  obtain ⟨p2,m2,r,e1,e2,r0,r1,pp2,sb2⟩:=hx
  cases e1
  subst e2
  obtain ⟨j,rfl⟩:=Int.eq_ofNat_of_zero_le r0
  have hj:j < cs.length:=by omega
  simp_arith[ends]
  refine fD (a:=cs[j]) (dq (by simp[hj])) (hk _ _ _ ⟨⟨_,rfl⟩,pp2,sb.trans sb2,l++[cs[j]],by simp,by simp[hl'],?_⟩)
  intro c hc
  rcases List.mem_append.mp hc with h |h
  ·exact hm c h
  ·rw[List.mem_singleton.mp h];exact List.getElem_mem _
 ·rintro acc ρ G' ⟨_,hp',sb,l,rfl,hl',hm⟩
  simp_arith[strs_map]
  have hl2:l.length=n:=by rw[hl'];simp[bK]
  refine ⟨?_,p,n,cs,l,rfl,?_,hl2,hm,hp',sb⟩
  ·rw[U6];simp;have hsz:sz=1000000:=rfl;omega
  ·rw[zm,U7]
def isF(c:Nat):Prop:=c=48∨c=49∨c=42
def uq:RF.Spec:=bf (fun ds G=>∃p,∃n:Nat,ds=[.ref p,.int n]∧Pen G p∧n≤1000) (fun ds G d G'=>∃p,∃n:Nat,∃l:List Nat,ds=[.ref p,.int n]∧d=.str l∧l.length=n∧(∀c∈l,isF c)∧Pen G' p∧Sb p G G')
theorem U9 (Φ:aj) (h1:Φ "_law_take"=cu) (h2:Φ "_law_signs"=jr) (ds:List D) (G:DH) (h:∃p,∃n:Nat,ds=[.ref p,.int n]∧Pen G p∧n≤1000):
  aq Φ tX noE (env0 ds 0) G (ends fun d G'=>∃p,∃n:Nat,∃l:List Nat,ds=[.ref p,.int n]∧d=.str l∧l.length=n∧(∀c∈l,isF c)∧Pen G' p∧Sb p G G'):=by
 obtain ⟨p,n,rfl,hp,hn⟩:=h
 simp_arith[tX,h1,h2]
 refine ⟨by decide,bD ⟨p,_,rfl,hp,by decide,by decide⟩ fun d' G2 ⟨p2,m2,r,e1,e2,r0,r1,pp2,sb2⟩=>?_⟩
 cases e1
 subst e2
 obtain ⟨j,rfl⟩:=Int.eq_ofNat_of_zero_le r0
 simp_arith[ends]
 have:∃cs:List Nat,atI [D.str [48,49,42],D.str [48,49,42,42],D.str [48,49,42,42,42,42],D.str [48,42],D.str [48,49]] ((j:Nat):Int)=some (.str cs)∧cs≠[]∧cs.length≤1000∧∀c∈cs,isF c:=by
  have hj:j=0∨j=1∨j=2∨j=3∨j=4:=by omega
  rcases hj with rfl |rfl |rfl |rfl |rfl <;> exact ⟨_,rfl,by decide,by decide,by simp[isF]⟩
 obtain ⟨cs,e,c1,c2,c3⟩:=this
 refine fD e (bD ⟨p,n,cs,rfl,pp2,hn,c1,c2⟩ fun d G3 ⟨p3,n3,cs3,l,e1,e2,q1,q2,q3,q4⟩=>?_)
 cases e1
 exact ⟨p,n,l,rfl,e2,q1,fun c hc=>c3 c (q2 c hc),q3,sb2.trans q4⟩
def ur:RF.Spec:=bf (fun ds _=>∃ns:List Int,ds=[.scr ns]∧ns.length≤63) (fun _ G d G'=>∃p,d=.ref p∧G p=none∧Pen G' p∧Sa G G')
theorem Va(Φ:aj)(ds:List D)(G:DH)(h:∃ns:List Int,ds=[.scr ns]∧ns.length≤63):aq Φ tU noE (env0 ds 3) G (ends fun d G'=>∃p,d=.ref p∧G p=none∧Pen G' p∧Sa G G'):=by
 obtain ⟨ns,rfl,hl⟩:=h
 simp_all_arith[tU]
 refine seq fun M hM=>?_
 simp_arith[ends]
 intro c hc
 refine hM _ _ ?_
 refine seq fun M hM=>?_
 simp_arith[ends]
 refine ForG.inv (fun i ρ G'=>∃(o2 o3:Option D)(xs:List Int),ρ=[some (.scr ns),some (.ref c),o2,o3]∧G'=aR G c (.lst (xs.map D.int))∧(12≤xs.length∨cut ns (some 12) (some 63)=[])) ⟨_,_,cut ns none (some 12),rfl,rfl,?_⟩ (fun _ _ _ _=>trivial) ?_ ?_
 ·by_cases h12:12≤ns.length
  ·left
   simp[cut,HT.sIx]
   omega
  ·right
   simp[cut,HT.sIx]
   omega
 ·rintro i d ρ G' hd ⟨o2,o3,xs,rfl,rfl,hx⟩ kk hk
  rw[sI]at hd
  obtain ⟨d',hd',e3⟩:=Option.map_eq_some_iff.mp hd
  subst e3
  rw[List.getElem?_map]at hd'
  obtain ⟨x,hx',e4⟩:=Option.map_eq_some_iff.mp hd'
  subst e4
  have h12:12≤xs.length:=by
   rcases hx with h |h
   ·exact h
   ·rw[h]at hx';simp at hx'
  obtain ⟨j,hj⟩:=Int.eq_ofNat_of_zero_le (Int.emod_nonneg ((0+i:Nat):Int) (by decide:(12:Int)≠0))
  have hj12:j < 12:=by
   have:=Int.emod_lt_of_pos ((0+i:Nat):Int) (by decide:(0:Int) < 12)
   omega
  have hjx:j < xs.length:=by omega
  simp_arith[hj,bW bG,dh bG]
  refine ⟨by decide,fD (a:=.int xs[j]) (dq (by simp[hjx])) ?_⟩
  simp_arith[hj,bW bG,dh bG,List.length_map,Ut hjx]
  refine ⟨by decide,hk _ _ ⟨_,_,xs.set j (xs[j]+x),rfl,?_,by simp[h12]⟩⟩
  rw[Qe,List.map_set]
 ·rintro ρ G' ⟨o2,o3,xs,rfl,rfl,hx⟩
  refine hM _ _ ?_
  simp_arith[bG]
  refine ⟨by have hsz:sz=1000000:=rfl;omega,fun p hp=>⟨p,rfl,?_,⟨xs,0,0,bG,by decide,by decide⟩,?_⟩⟩
  ·rw[wG hc]at hp;exact hp
  ·rw[wG hc]at hp ⊢;exact Sa.new hp
def jt:RF.Spec:=bf (fun ds _=>∃ns:List Int,ds=[.scr ns]∧ns.length≤63) (fun _ _ d _=>d=.bl true)
end RF
namespace RF
open PySem L2
def whole:D→Bool
 |.int _=>true
 |_=>false
def dH:List D→Option D
 |[x]=>if nr x then some (.bl (whole x)) else none
 |_=>none
theorem FN(Φ:aj)(ds:List D)(G:DH)(d:D)(h:dH ds=some d):aq Φ jm noE (env0 ds 0) G (ends fun d' G'=>G'=G∧d'=d):=by
 unfold dH at h
 split at h
 ·rename_i x
  split at h
  ·rename_i hx
   cases h
   cases x <;> first | (simp[nr]at hx;done) | (simp_arith[jm,whole];try simp)
  ·cases h
 ·cases h
theorem Vb(Φ:aj)(ds:List D)(G:DH)(d:D)(h:dH ds=some d):aq Φ FJ noE (env0 ds 0) G (ends fun d' G'=>G'=G∧d'=d):=FN Φ ds G d h
def pC:D→Bool
 |.int i=>decide (1≤i)&&decide (i≤6)
 |_=>false
def ju:List D→Option D
 |[x]=>if nr x then some (.bl (pC x)) else none
 |_=>none
theorem Vc (Φ:aj) (h1:Φ "is_whole"=aN dH) (ds:List D) (G:DH) (d:D) (h:ju ds=some d):aq Φ jo noE (env0 ds 0) G (ends fun d' G'=>G'=G∧d'=d):=by
 unfold ju at h
 split at h
 ·rename_i x
  split at h
  ·rename_i hx
   cases h
   have hf:dH [x]=some (.bl (whole x)):=if_pos hx
   simp_arith[jo,h1]
   refine cj hf ?_
   cases x <;> first | (simp[nr]at hx;done) | (simp_arith[whole,pC];first | (simp;done) |skip)
   rename_i i
   cases hi:decide (1≤i) with
   |true=>simp
   |false=>simp
  ·cases h
 ·cases h
def isText(s:List Nat)(w:Int):D→Bool
 |.str l=>decide ((l.length:Int)=w)&&l.all (fun c=>s.contains c)
 |_=>false
def szd:D→Bool
 |.str l=>decide (l.length≤100000)
 |_=>true
def fText:List D→Option D
 |[.str s,.int w,x]=>if nr x&&szd x then some (.bl (isText s w x)) else none
 |_=>none
theorem all_map{l:List Nat}{f:Nat→Bool}:((l.map f).all id)=l.all f:=by
 induction l with
 |nil=>rfl
 |cons a l ih=>simp[ih]
theorem Vd(Φ:aj)(ds:List D)(G:DH)(d:D)(h:fText ds=some d):aq Φ iB noE (env0 ds 0) G (ends fun d' G'=>G'=G∧d'=d):=by
 unfold fText at h
 split at h
 ·rename_i s w x
  split at h
  ·rename_i hx
   cases h
   rw[Bool.and_eq_true]at hx
   cases x with
   |str l=>
    have hl:l.length≤100000:=by simpa [szd] using hx.2
    simp_arith[iB,isText]
    by_cases hw:(l.length:Int)=w
    ·have hb:(((l.length:Int)==w):Bool)=true:=by simp[hw]
     simp_arith[hb]
     refine CompG.map (f:=fun d=>match d with |.str [c]=>.bl (s.contains c) |_=>.non) (I:=fun ρ=>∃o,ρ=[o,some (.str s)]) ⟨_,rfl⟩ trivial (by simp;have hsz:sz=1000000:=rfl;omega) ?_ ?_
     ·rintro d ρ hd ⟨o,rfl⟩ kk hk
      obtain ⟨c,_,rfl⟩:=List.mem_map.mp hd
      simp_arith[ends]
      exact hk _ ⟨_,rfl⟩
     ·rw[List.map_map]
      simp_arith[Function.comp_def,o6,all_map]
      simp only[decide_eq_true hw,Bool.true_and,and_self]
    ·have hb:(((l.length:Int)==w):Bool)=false:=by simp[hw]
     simp_arith[hb]
     simp[hw]
   |ref p=>simp[nr]at hx
   |scr p=>simp[nr]at hx
   |exn p=>simp[nr]at hx
   |_=>simp_arith[iB,isText];try simp
  ·cases h
 ·cases h
def jw:List D→Option D
 |[.int w,x]=>if nr x&&szd x then some (.bl (isText [48,49,42] w x)) else none
 |_=>none
theorem Ve (Φ:aj) (h1:Φ "is_text_of"=aN fText) (ds:List D) (G:DH) (d:D) (h:jw ds=some d):aq Φ jq noE (env0 ds 0) G (ends fun d' G'=>G'=G∧d'=d):=by
 unfold jw at h
 split at h
 ·rename_i w x
  split at h
  ·rename_i hx
   cases h
   simp_arith[jq,h1]
   exact cj (d:=.bl (isText [48,49,42] w x)) (if_pos hx) ⟨rfl,rfl⟩
  ·cases h
 ·cases h
end RF
namespace RF
open PySem L2
mutual
/-- no list within that is too long -/
def gm:D→Bool
 |.tup l=>decide (l.length≤100000)&&iD l
 |.lst l=>decide (l.length≤100000)&&iD l
 |_=>true
def iD:List D→Bool
 |[]=>true
 |a::as=>gm a&&iD as
end
theorem pF:∀{l:List D}{d:D},nrs l=true→d∈l→nr d=true
 |a::as,d,h,m=>by
  rw[nrs,Bool.and_eq_true]at h
  rcases List.mem_cons.mp m with e |m
  ·rw[e];exact h.1
  ·exact pF h.2 m
theorem FP:∀{l:List D}{d:D},iD l=true→d∈l→gm d=true
 |a::as,d,h,m=>by
  rw[iD,Bool.and_eq_true]at h
  rcases List.mem_cons.mp m with e |m
  ·rw[e];exact h.1
  ·exact FP h.2 m
theorem FQ:∀{l:List D}{d:D},d∈l→dpt d≤aO l
 |a::as,d,m=>by
  rw[aO]
  rcases List.mem_cons.mp m with e |m
  ·rw[e];exact Nat.le_max_left _ _
  ·exact Nat.le_trans (FQ m) (Nat.le_max_right _ _)
theorem jx{n:Nat}:isIn (.bl false) (List.replicate n (.bl true))=false:=by
 induction n with
 |zero=>rfl
 |succ n ih=>simp only[isIn,List.replicate_succ,List.any_cons,deq]at ih ⊢;rw[ih];rfl
theorem jy{n:Nat}{b:Bool}:nrs (List.replicate n (.bl b))=true:=by
 induction n with
 |zero=>rfl
 |succ n ih=>rw[List.replicate_succ,nrs,ih];rfl
theorem jz{n:Nat}{b:Bool}:aO (List.replicate n (.bl b))=0:=by
 induction n with
 |zero=>rfl
 |succ n ih=>rw[List.replicate_succ,aO,ih];rfl
theorem Vf:∀(l:List D)(i:Nat)(d:D),(bI l l)[i]?=some d→∃a,a∈l∧d=.tup [a,a]
 |l,i,d,h=>by
  obtain ⟨a,b,h1,h2,rfl⟩:=sJ l l i d h
  rw[h1]at h2;cases h2
  exact ⟨a,List.mem_of_getElem? h1,rfl⟩
def FT(n:Nat)(ds:List D)(G:DH):Prop:=∃x y v,ds=[x,y]∧view G x=v∧view G y=v∧nr v=true∧dpt v < n∧gm v=true
def cH(n:Nat):RF.Spec:=bf (FT n) (fun _ G d G'=>G'=G∧d=.bl true)
theorem Vg{n:Nat}{x y v:D}{G:DH}{k:D→DH→Prop}{E:EK}(hx:view G x=v)(hy:view G y=v)(h1:nr v=true)(h2:dpt v < n)(h3:gm v=true)(hk:k (.bl true) G):(cH n).t [x,y] G k E:=
 bD ⟨x,y,v,rfl,hx,hy,h1,h2,h3⟩ fun d G' ⟨e1,e2⟩=>by subst e1 e2;exact hk
theorem FW{x:D}{G:DH}(h1:nr x=true):view G x=x:=by cases x <;> first |rfl | (simp[nr]at h1)
theorem Ga{n:Nat}{x:D}{G:DH}{k:D→DH→Prop}{E:EK}(h1:nr x=true)(h2:dpt x < n)(h3:gm x=true)(hk:k (.bl true) G):(cH n).t [x,x] G k E:=
 Vg (FW h1) (FW h1) h1 h2 h3 hk
theorem Gb{n:Nat}[NeZero n]{b:Bool}{G:DH}{k:D→DH→Prop}{E:EK}(hk:k (.bl true) G):(cH n).t [.bl b,.bl b] G k E:=Ga rfl (Nat.pos_of_ne_zero (NeZero.ne n)) rfl hk
theorem jA (Φ:aj) (n:Nat) (h1:Φ "_law_same"=cH n) {l:List D} {G:DH} {g:Hld} {k:List D→DH→Prop} (hg:held g G) (hn:nrs l=true) (hd:aO l < n) (hs:iD l=true) (hl:l.length≤100000)
  (he:k (List.replicate (bI l l).length (.bl true)) G):
  CompG Φ (Ex.call "_law_same" (Exs.cons (Ex.var 0) (Exs.cons (Ex.var 1) Exs.nil))) (Tg.tp (Tgs.cons (Tg.nm 0) (Tgs.cons (Tg.nm 1) Tgs.nil))) Tx.yes (bI l l) g [none,none] G k:=by
 refine CompG.inv (P:=fun i acc ρ G'=>(∃o1 o2,ρ=[o1,o2])∧G'=G∧acc=List.replicate i (.bl true)) ⟨⟨_,_,rfl⟩,rfl,rfl⟩ (fun _ _ _ _ p=>by rw[p.2.1];exact hg) (by rw[oX];have hsz:sz=1000000:=rfl;omega) ?_ ?_
 ·rintro i d acc ρ G' hd' ⟨⟨o1,o2,rfl⟩,rfl,rfl⟩ kk hk
  obtain ⟨a,ha,rfl⟩:=Vf l i d hd'
  simp_arith[h1]
  refine Ga (pF hn ha) (Nat.lt_of_le_of_lt (FQ ha) hd) (FP hs ha) (hk _ _ _ ⟨⟨_,_,rfl⟩,rfl,?_⟩)
  simp[List.replicate_succ']
 ·rintro acc ρ G' ⟨_,rfl,rfl⟩
  exact he
theorem ut{G:DH}{x:D}{l:List D}(hv:view G x=.lst l):x=.lst l∨∃p,x=.ref p∧G p=some (.lst l):=by
 cases x with
 |lst l'=>cases hv;exact .inl rfl
 |ref p=>
  refine .inr ⟨p,rfl,?_⟩
  unfold view at hv
  cases g:G p with
  |none=>simp only[g]at hv;cases hv
  |some o=>cases o;simp only[g]at hv;cases hv;rfl
 |_=>cases hv
theorem Vh (Φ:aj) (n:Nat) (h1:Φ "_law_same"=cH n) (ds:List D) (G:DH) (h:FT (n+1) ds G):aq Φ di noE (env0 ds 0) G (ends fun d G'=>G'=G∧d=.bl true):=by
 obtain ⟨x,y,v,rfl,hx,hy,hn,hd,hs⟩:=h
 cases v with
 |non=>cases wI hx;cases wI hy;simp_arith[di]
 |bl b=>cases qC hx;cases qC hy;simp_arith[di];simp
 |int i=>cases cL hx;cases cL hy;simp_arith[di];simp
 |str l=>cases dw hx;cases dw hy;simp_arith[di];simp
 |ref p=>simp[nr]at hn
 |scr p=>simp[nr]at hn
 |exn p=>simp[nr]at hn
 |tup l=>
  cases du hx
  cases du hy
  rw[nr]at hn
  rw[dpt]at hd
  rw[gm,Bool.and_eq_true,decide_eq_true_iff]at hs
  simp_arith[di]
  simp_arith[bne_self_eq_false,BEq.rfl]
  refine jA Φ n h1 (by first |trivial | (unfold held;simp)) hn (by omega) hs.2 hs.1 ?_
  rw[jx,jy,jz]
  simp
 |lst l=>
  rw[nr]at hn
  rw[dpt]at hd
  rw[gm,Bool.and_eq_true,decide_eq_true_iff]at hs
  rcases ut hx with rfl |⟨p,rfl,ex⟩
  ·rcases ut hy with rfl |⟨q,rfl,ey⟩
   ·simp_arith[di]
    simp_arith[bne_self_eq_false,BEq.rfl]
    refine jA Φ n h1 (by trivial) hn (by omega) hs.2 hs.1 ?_
    rw[jx,jy,jz]
    simp
   ·simp_arith[di,bW ey,fG ey]
    simp_arith[bne_self_eq_false,BEq.rfl,bW ey,fG ey]
    refine jA Φ n h1 (by exact ⟨ey,trivial⟩) hn (by omega) hs.2 hs.1 ?_
    rw[jx,jy,jz]
    simp
  ·rcases ut hy with rfl |⟨q,rfl,ey⟩
   ·simp_arith[di,bW ex,fG ex]
    simp_arith[bne_self_eq_false,BEq.rfl,bW ex,fG ex]
    refine jA Φ n h1 (by exact ⟨ex,trivial⟩) hn (by omega) hs.2 hs.1 ?_
    rw[jx,jy,jz]
    simp
   ·simp_arith[di,bW ex,fG ex,bW ey,fG ey]
    simp_arith[bne_self_eq_false,BEq.rfl,bW ex,fG ex,bW ey,fG ey]
    refine jA Φ n h1 (by exact ⟨ex,ey,trivial⟩) hn (by omega) hs.2 hs.1 ?_
    rw[jx,jy,jz]
    simp
theorem Vi(ds:List D)(G:DH)(a:(cH 0).A):¬(cH 0).pre ds G a:=fun ⟨_,_,_,_,_,_,_,_,h,_⟩=>by omega
end RF
namespace RF
open PySem L2
def okF(w:Nat)(l:List Nat):Prop:=l.length=w∧∀c∈l,isF c
theorem okF.app{w v:Nat}{l m:List Nat}(h:okF w l)(h':okF v m):okF (w+v) (l++m):=⟨by rw[List.length_append,h.1,h'.1],fun c hc=>(List.mem_append.mp hc).elim (h.2 c) (h'.2 c)⟩
theorem okF.one{c:Nat}(h:isF c):okF 1 [c]:=⟨rfl,fun d hd=>by rw[List.mem_singleton.mp hd];exact h⟩
theorem bu{p:Addr}{m:Int}{G:DH}{k:D→DH→Prop}{E:EK}(hp:Pen G p)(h1:0 < m)(h2:m < 1152921504606846976)(hk:∀(r:Nat)(G':DH),(r:Int) < m→Pen G' p→Sb p G G'→k (.int r) G'):cu.t [.ref p,.int m] G k E:=by
 refine bD ⟨p,m,rfl,hp,h1,h2⟩ fun d G' hx=>?_
 obtain ⟨p2,m2,r,e1,e2,r0,r1,hp',sb⟩:=hx
 cases e1
 subst e2
 obtain ⟨n,rfl⟩:=Int.eq_ofNat_of_zero_le r0
 exact hk n G' r1 hp' sb
theorem Vj{n:Nat}(h:(n:Int) < 2):∃c,atI [48,49] (n:Int)=some c∧isF c:=by
 have:n=0∨n=1:=by omega
 rcases this with rfl |rfl
 ·exact ⟨48,rfl,.inl rfl⟩
 ·exact ⟨49,rfl,.inr (.inl rfl)⟩
theorem Vk{n:Nat}(h:(n:Int) < 3):∃c,atI [48,49,42] (n:Int)=some c∧isF c:=by
 have:n=0∨n=1∨n=2:=by omega
 rcases this with rfl |rfl |rfl
 ·exact ⟨48,rfl,.inl rfl⟩
 ·exact ⟨49,rfl,.inr (.inl rfl)⟩
 ·exact ⟨42,rfl,.inr (.inr rfl)⟩
def uv(ds:List D)(G:DH):Prop:=∃p l,ds=[.ref p,.str l]∧Pen G p∧(∀c∈l,isF c)∧l.length≤1000
def uw(ds:List D)(G:DH)(d:D)(G':DH):Prop:=∃p l m,ds=[.ref p,.str l]∧d=.str m∧okF l.length m∧Pen G' p∧Sb p G G'
def gn:RF.Spec:=bf uv uw
theorem Gd{p:Addr}{l:List Nat}{G:DH}{k:D→DH→Prop}{E:EK}(hp:Pen G p)(hl:∀c∈l,isF c)(h2:l.length≤1000)(hk:∀(m:List Nat)(G':DH),okF l.length m→Pen G' p→Sb p G G'→k (.str m) G'):gn.t [.ref p,.str l] G k E:=by
 refine bD ⟨p,l,rfl,hp,hl,h2⟩ fun d G' hx=>?_
 obtain ⟨p2,l2,m,e1,e2,h,hp',sb⟩:=hx
 cases e1
 subst e2
 exact hk m G' h hp' sb
theorem Vl (Φ:aj) (h1:Φ "_law_take"=cu) (ds:List D) (G:DH) (h:uv ds G):aq Φ tY noE (env0 ds 2) G (ends (uw ds G)):=by
 obtain ⟨p,l,rfl,hp,hl,hl2⟩:=h
 simp_all_arith[tY]
 refine seq fun M hM=>?_
 simp_arith[ends]
 refine hM _ _ (seq fun M hM=>?_)
 simp_arith![ends]
 refine ForG.inv (P:=fun i ρ G'=>(∃o m,ρ=[some (.ref p),some (.str l),some (.str m),o]∧okF i m)∧Pen G' p∧Sb p G G') ⟨⟨_,_,rfl,rfl,by simp⟩,hp,Sb.refl _ _⟩ (fun _ _ _ _=>trivial) ?_ ?_
 ·rintro i d ρ G2 hd ⟨⟨o,m,rfl,hm⟩,hp2,sb2⟩ kk hk
  rw[List.getElem?_map]at hd
  obtain ⟨c,hc,rfl⟩:=Option.map_eq_some_iff.mp hd
  have hi:i < l.length:=(List.getElem?_eq_some_iff.mp hc).1
  have fc:=hl c (List.mem_of_getElem? hc)
  have l1:=hm.1
  simp_arith![ends]
  refine seq fun M hM=>?_
  have fin:∀(c:Nat)(G3:DH),isF c→Pen G3 p→Sb p G2 G3→M [some (.ref p),some (.str l),some (.str m),some (.str [c])] G3:=by
   intro c G3 fc hp3 sb3
   refine hM _ _ (last ?_)
   simp_arith[ends]
   exact ⟨by have hsz:sz=1000000:=rfl;omega,hk _ _ ⟨⟨_,_,rfl,hm.app (okF.one fc)⟩,hp3,sb2.trans sb3⟩⟩
  simp_arith[h1]
  cases ht:([c]==[42]) with
  |false=>exact fin c G2 fc hp2 (Sb.refl _ _)
  |true=>
   refine bu hp2 (by decide) (by decide) fun r G3 hr hp3 sb3=>?_
   simp_arith[ends]
   cases hr0:((r:Int)==0) with
   |false=>exact fin c G3 fc hp3 sb3
   |true=>
    refine bu hp3 (by decide) (by decide) fun r' G4 hr' hp4 sb4=>?_
    obtain ⟨c',e,fc'⟩:=Vj hr'
    simp_arith[e]
    exact fin c' G4 fc' hp4 (sb3.trans sb4)
 ·rintro ρ G2 ⟨⟨o,m,rfl,hm⟩,hp2,sb2⟩
  refine hM _ _ ?_
  simp_arith[ends]
  exact ⟨p,l,m,rfl,rfl,by simpa using hm,hp2,sb2⟩
theorem Vm (Φ:aj) (h1:Φ "_law_take"=cu) (ds:List D) (G:DH) (h:uv ds G):aq Φ tZ noE (env0 ds 2) G (ends (uw ds G)):=by
 obtain ⟨p,l,rfl,hp,hl,hl2⟩:=h
 simp_all_arith[tZ]
 refine seq fun M hM=>?_
 simp_arith[ends]
 refine hM _ _ (seq fun M hM=>?_)
 simp_arith![ends]
 refine ForG.inv (P:=fun i ρ G'=>(∃o m,ρ=[some (.ref p),some (.str l),some (.str m),o]∧okF i m)∧Pen G' p∧Sb p G G') ⟨⟨_,_,rfl,rfl,by simp⟩,hp,Sb.refl _ _⟩ (fun _ _ _ _=>trivial) ?_ ?_
 ·rintro i d ρ G2 hd ⟨⟨o,m,rfl,hm⟩,hp2,sb2⟩ kk hk
  rw[List.getElem?_map]at hd
  obtain ⟨c,hc,rfl⟩:=Option.map_eq_some_iff.mp hd
  have hi:i < l.length:=(List.getElem?_eq_some_iff.mp hc).1
  have fc:=hl c (List.mem_of_getElem? hc)
  have l1:=hm.1
  simp_arith![ends]
  refine seq fun M hM=>?_
  have fin:∀(c:Nat)(G3:DH),isF c→Pen G3 p→Sb p G2 G3→M [some (.ref p),some (.str l),some (.str m),some (.str [c])] G3:=by
   intro c G3 fc hp3 sb3
   refine hM _ _ (last ?_)
   simp_arith[ends]
   exact ⟨by have hsz:sz=1000000:=rfl;omega,hk _ _ ⟨⟨_,_,rfl,hm.app (okF.one fc)⟩,hp3,sb2.trans sb3⟩⟩
  simp_arith[h1]
  refine bu hp2 (by decide) (by decide) fun r G3 hr hp3 sb3=>?_
  simp_arith[ends]
  cases hr0:((r:Int)==0) with
  |false=>exact fin c G3 fc hp3 sb3
  |true=>exact fin 42 G3 (.inr (.inr rfl)) hp3 sb3
 ·rintro ρ G2 ⟨⟨o,m,rfl,hm⟩,hp2,sb2⟩
  refine hM _ _ ?_
  simp_arith[ends]
  exact ⟨p,l,m,rfl,rfl,by simpa using hm,hp2,sb2⟩
theorem Ge{G G':DH}{p:Addr}{x:D}{fs:List (List Nat)}(hv:view G x=.lst (fs.map D.str))(hp:Pen G p)(sb:Sb p G G'):view G' x=.lst (fs.map D.str):=by
 cases x with
 |ref q=>
  unfold view at hv
  dsimp only at hv
  cases g:G q with
  |none=>rw[g]at hv;cases hv
  |some o=>
   cases o with
   |lst ds=>
    rw[g]at hv
    have e:ds=fs.map D.str:=by simpa using hv
    have hn:q≠p:=by
     rintro rfl
     obtain ⟨ns,k,st,e1,_⟩:=hp
     rw[g,e]at e1
     cases fs with
     |nil=>simp at e1
     |cons a r=>simp at e1
    rw[bW (sb q _ g hn),e]
 |lst l=>exact hv
 |_=>cases hv
def Gf(ds:List D)(G:DH):Prop:=∃p,∃w:Nat,∃x,∃fs:List (List Nat),ds=[.ref p,.int w,x]∧Pen G p∧0 < w∧w≤1000∧view G x=.lst (fs.map D.str)∧fs.length≤1000∧∀f∈fs,okF w f
def ux(ds:List D)(G:DH)(d:D)(G':DH):Prop:=∃p,∃w:Nat,∃x m,ds=[.ref p,.int w,x]∧d=.str m∧okF w m∧Pen G' p∧Sb p G G'
def pG:RF.Spec:=bf Gf ux
theorem Vn{p:Addr}{w:Nat}{x:D}{fs:List (List Nat)}{G:DH}{k:D→DH→Prop}{E:EK}(hp:Pen G p)(h1:0 < w)(h2:w≤1000)(hv:view G x=.lst (fs.map D.str))(h3:fs.length≤1000)(h4:∀f∈fs,okF w f)
  (hk:∀(m:List Nat)(G':DH),okF w m→Pen G' p→Sb p G G'→k (.str m) G'):pG.t [.ref p,.int w,x] G k E:=by
 refine bD ⟨p,w,x,fs,rfl,hp,h1,h2,hv,h3,h4⟩ fun d G' hx=>?_
 obtain ⟨p2,w2,x2,m,e1,e2,h,hp',sb⟩:=hx
 simp only[List.cons.injEq,D.ref.injEq,D.int.injEq,Int.ofNat_inj,and_true]at e1
 obtain ⟨rfl,rfl,rfl⟩:=e1
 subst e2
 exact hk m G' h hp' sb
theorem Vo(fs:List (List Nat)):nrs (fs.map D.str)=true:=by
 induction fs with
 |nil=>rfl
 |cons a l ih=>rw[List.map_cons,nrs,ih];rfl
theorem Vp(fs:List (List Nat)):aO (fs.map D.str)=0:=by
 induction fs with
 |nil=>rfl
 |cons a l ih=>rw[List.map_cons,aO,ih];rfl
theorem Vq{w n:Nat}{l:List Nat}{c:Nat}(h:okF w l)(hn:n < w)(fc:isF c):okF w (cut l none (some (n:Int))++[c]++cut l (some ((n:Int)+1)) none):=by
 have h1:=h.1
 rw[zB,Uw]
 refine ⟨?_,fun d hd=>?_⟩
 ·simp;omega
 ·rcases List.mem_append.mp hd with hd |hd
  ·rcases List.mem_append.mp hd with hd |hd
   ·exact h.2 d (List.mem_of_mem_take hd)
   ·rw[List.mem_singleton.mp hd];exact fc
  ·exact h.2 d (List.mem_of_mem_drop hd)
theorem Vr (Φ:aj) (h1:Φ "_law_take"=cu) (h2:Φ "_law_form"=uq) (h3:Φ "_law_within"=gn) (h4:Φ "_law_wider"=gn) (ds:List D) (G:DH) (h:Gf ds G):aq Φ uc noE (env0 ds 3) G (ends (ux ds G)):=by
 obtain ⟨p,w,x,fs,rfl,hp,w1,w2,hv,hf,hfs⟩:=h
 simp_all_arith[uc]
 refine seq fun M hM=>?_
 simp_arith[h1]
 refine bu hp (by decide) (by decide) fun kd G2 hkd hp2 sb2=>?_
 have hv2:=Ge hv hp sb2
 refine hM _ _ (seq fun M hM=>?_)
 have drawn:∀(ρ:aa) (G3:DH),Pen G3 p→Sb p G G3→aq Φ (.cons (.ret (.call "_law_form" (.cons (.var 0) (.cons (.var 1) .nil)))) .nil) noE (some (.ref p)::some (.int w)::ρ) G3 { nx:=M,rt:=ux [.ref p,.int w,x] G,bk:=fun _ _=>False,ct:=fun _ _=>False }:=by
  intro ρ G3 hp3 sb3
  simp_arith[h2]
  refine bD ⟨p,w,rfl,hp3,w2⟩ fun d G4 hx=>?_
  obtain ⟨p4,n4,l,e1,e2,l1,l2,hp4,sb4⟩:=hx
  simp only[List.cons.injEq,D.ref.injEq,D.int.injEq,Int.ofNat_inj,and_true]at e1
  obtain ⟨rfl,rfl⟩:=e1
  exact ⟨p,w,x,l,rfl,e2,⟨l1,l2⟩,hp4,sb3.trans sb4⟩
 simp_arith![hv2,Uv,Vp,Vo]
 refine ⟨by decide,?_⟩
 cases he:(fs.map D.str).isEmpty with
 |true=>exact drawn _ _ hp2 sb2
 |false=>
  have hlen:0 < fs.length:=by
   cases fs with
   |nil=>simp at he
   |cons a r=>simp
  simp_arith![ends]
  cases hk2:decide ((kd:Int) < 2) with
  |true=>exact drawn _ _ hp2 sb2
  |false=>
   simp_arith[ends]
   refine hM _ _ (seq fun M hM=>?_)
   simp_arith[h1,hv2,List.length_map]
   refine bu hp2 (by omega) (by omega) fun r G3 hr hp3 sb3=>?_
   have hv3:=Ge hv2 hp2 sb3
   simp_arith[hv3]
   have hr':r < fs.length:=by omega
   refine fD (a:=.str fs[r]) (dq (by simp[hr'])) ?_
   have fok:=hfs fs[r] (List.getElem_mem _)
   generalize fs[r]=f at fok
   refine hM _ _ (seq fun M hM=>?_)
   have sb':=sb2.trans sb3
   simp_arith[ends]
   cases hk3:((kd:Int)==2) with
   |true=>exact ⟨p,w,x,f,rfl,rfl,fok,hp3,sb'⟩
   |false=>
    refine hM _ _ (seq fun M hM=>?_)
    simp_arith![ends]
    cases hk5:decide ((kd:Int) < 5) with
    |true=>
     simp_arith[h1]
     refine bu hp3 (by omega) (by omega) fun at' G4 hat hp4 sb4=>?_
     refine bu hp4 (by decide) (by decide) fun s G5 hs hp5 sb5=>?_
     obtain ⟨c,e,fc⟩:=Vk hs
     have c1:=fB f none (some (at':Int))
     have c2:=fB f (some ((at':Int)+1)) none
     have f1:=fok.1
     simp_arith[e,List.length_append]
     exact ⟨by have hsz:sz=1000000:=rfl;omega,by have hsz:sz=1000000:=rfl;omega,p,w,x,_,rfl,rfl,Vq fok (by omega) fc,hp5,sb'.trans (sb4.trans sb5)⟩
    |false=>
     simp_arith[ends]
     refine hM _ _ (seq fun M hM=>?_)
     have f1:=fok.1
     simp_arith[h3]
     cases hk6:((kd:Int)==5) with
     |true=>
      refine Gd hp3 fok.2 (by omega) fun m G4 hm hp4 sb4=>?_
      rw[f1]at hm
      exact ⟨p,w,x,m,rfl,rfl,hm,hp4,sb'.trans sb4⟩
     |false=>
      refine hM _ _ ?_
      simp_arith[h4]
      refine Gd hp3 fok.2 (by omega) fun m G4 hm hp4 sb4=>?_
      rw[f1]at hm
      exact ⟨p,w,x,m,rfl,rfl,hm,hp4,sb'.trans sb4⟩
end RF
namespace RF
open PySem L2
def okD(l:List Nat):Prop:=1≤l.length∧l.length≤8∧∀c∈l,97≤c∧c≤122
theorem Vs{p:Addr}{n:Nat}{cs:List Nat}{G:DH}{k:D→DH→Prop}{E:EK}(hp:Pen G p)(hn:n≤1000)(h1:cs≠[])(h2:cs.length≤1000)(hk:∀(l:List Nat)(G':DH),l.length=n→(∀c∈l,c∈cs)→Pen G' p→Sb p G G'→k (.str l) G'):jr.t [.ref p,.int n,.str cs] G k E:=by
 refine bD ⟨p,n,cs,rfl,hp,hn,h1,h2⟩ fun d G' hx=>?_
 obtain ⟨p2,n2,cs2,l,e1,e2,l1,l2,hp',sb⟩:=hx
 simp only[List.cons.injEq,D.ref.injEq,D.int.injEq,D.str.injEq,Int.ofNat_inj,and_true]at e1
 obtain ⟨rfl,rfl,rfl⟩:=e1
 subst e2
 exact hk l G' l1 l2 hp' sb
def Gg(ds:List D)(G:DH):Prop:=∃p,∃m:Int,ds=[.ref p,.int m]∧Pen G p∧0 < m∧m≤100
def Gi(ds:List D)(G:DH)(d:D)(G':DH):Prop:=∃p,∃m:Int,∃xs:List (List Nat),ds=[.ref p,.int m]∧d=.lst (xs.map D.str)∧0 < xs.length∧xs.length≤100∧(∀x∈xs,okD x)∧Pen G' p∧Sb p G G'
def pH:RF.Spec:=bf Gg Gi
def uy:List (List Nat):=[[97],[103,111],[115,116,97,121],[97,98,99,100,101,102,103,104],[110,111,110,101],[121,101,115],[105,110],[111,117,116],[107,101,101,112],[119,111,114,100],[122,122]]
theorem Vt:∀x∈uy,okD x:=by
 have h:∀x∈uy,1≤x.length∧x.length≤8∧∀c∈x,97≤c∧c≤122:=by decide
 exact h
theorem Gj{c:Nat}(h:c∈[97,98,99,100,101,102,103,104,105,106,107,108,109,110,111,112,113,114,115,116,117,118,119,120,121,122]):97≤c∧c≤122:=by
 have:∀c∈[97,98,99,100,101,102,103,104,105,106,107,108,109,110,111,112,113,114,115,116,117,118,119,120,121,122],97≤c∧c≤122:=by decide
 exact this c h
theorem Vu (Φ:aj) (h1:Φ "_law_take"=cu) (h2:Φ "_law_signs"=jr) (ds:List D) (G:DH) (h:Gg ds G):aq Φ ud noE (env0 ds 4) G (ends (Gi ds G)):=by
 obtain ⟨p,m,rfl,hp,m1,m2⟩:=h
 simp_all_arith[ud]
 refine seq fun M hM=>?_
 simp_arith[ends]
 refine ⟨by decide,hM _ _ ?_⟩
 refine (fun tail=>tail uy rfl Vt) (?_:∀xs:List (List Nat),xs.length=11→(∀x∈xs,okD x)→aq Φ _ noE [some (.ref p),some (.int m),some (.lst (xs.map D.str)),none,none,none] G _)
 intro xs x1 x2
 refine seq fun M hM=>?_
 simp_arith[h1]
 refine bu hp (by decide) (by decide) fun t G2 ht hp2 sb2=>?_
 refine hM _ _ (seq fun M hM=>?_)
 simp_arith[h1]
 refine bu hp2 (by omega) (by omega) fun r G3 hr hp3 sb3=>?_
 simp_arith[ends]
 refine ⟨by omega,?_⟩
 refine CompG.inv (P:=fun i acc ρ G'=>(∃o,ρ=[o,some (.lst (xs.map D.str)),some (.int t)])∧G'=G3∧∃ys:List (List Nat),acc=ys.map D.str∧ys.length=i∧∀y∈ys,okD y) ⟨⟨_,rfl⟩,rfl,[],rfl,rfl,by simp⟩ (fun _ _ _ _ _=>trivial) (by simp[bK];have hsz:sz=1000000:=rfl;omega) ?_ ?_
 ·rintro i d acc ρ G' hd ⟨⟨o,rfl⟩,rfl,ys,rfl,y1,y2⟩ kk hk
  unfold bK at hd
  rw[List.getElem?_map]at hd
  obtain ⟨j,hj,rfl⟩:=Option.map_eq_some_iff.mp hd
  simp_arith[ends]
  have q0:0≤((t:Int)+3 * (0+(j:Int))) % 11:=Int.emod_nonneg _ (by decide)
  have q1:((t:Int)+3 * (0+(j:Int))) % 11 < 11:=Int.emod_lt_of_pos _ (by decide)
  refine ⟨um (by decide),by decide,eE q0 (by rw[List.length_map,x1];exact q1) fun a ha=>?_⟩
  obtain ⟨x,hx,rfl⟩:=List.mem_map.mp ha
  refine hk _ _ _ ⟨⟨_,rfl⟩,rfl,ys++[x],by simp,by simp[y1],fun y hy=>?_⟩
  rcases List.mem_append.mp hy with h |h
  ·exact y2 y h
  ·rw[List.mem_singleton.mp h];exact x2 x hx
 ·rintro acc ρ G' ⟨_,rfl,ys,rfl,y1,y2⟩
  have hy:ys.length=r+1:=by rw[y1];simp[bK];omega
  refine hM _ _ (seq fun M hM=>?_)
  simp_arith[h1]
  refine bu hp3 (by decide) (by decide) fun q G4 hq hp4 sb4=>?_
  have sb':=sb2.trans (sb3.trans sb4)
  simp_arith[ends]
  cases hq0:((q:Int)==0) with
  |false=>
   refine hM _ _ ?_
   simp_arith[ends]
   exact ⟨p,m,ys,rfl,rfl,by omega,by omega,y2,hp4,sb'⟩
  |true=>
   simp_arith[ends]
   refine CompG.inv (P:=fun i acc ρ G'=>(∃o,ρ=[o,some (.ref p),some (.str [97,98,99,100,101,102,103,104,105,106,107,108,109,110,111,112,113,114,115,116,117,118,119,120,121,122])])∧Pen G' p∧Sb p G G'∧∃zs:List (List Nat),acc=zs.map D.str∧zs.length=i∧∀z∈zs,okD z) ⟨⟨_,rfl⟩,hp4,sb',[],rfl,rfl,by simp⟩ (fun _ _ _ _ _=>trivial) (by simp;have hsz:sz=1000000:=rfl;omega) ?_ ?_
   ·rintro i d acc ρ G' hd ⟨⟨o,rfl⟩,hp5,sb5,zs,rfl,z1,z2⟩ kk hk
    simp_arith[h1,h2]
    refine bu hp5 (by decide) (by decide) fun n G6 hn hp6 sb6=>?_
    simp_arith[ends]
    rw[show (1:Int)+(n:Int)=((n+1:Nat):Int) by omega]
    refine Vs hp6 (by omega) (by simp) (by simp) fun l G7 l1 l2 hp7 sb7=>?_
    refine hk _ _ _ ⟨⟨_,rfl⟩,hp7,sb5.trans (sb6.trans sb7),zs++[l],by simp,by simp[z1],fun z hz=>?_⟩
    rcases List.mem_append.mp hz with h |h
    ·exact z2 z h
    ·rw[List.mem_singleton.mp h];exact ⟨by omega,by omega,fun c hc=>Gj (l2 c hc)⟩
   ·rintro acc ρ G' ⟨_,hp5,sb5,zs,rfl,z1,z2⟩
    rw[List.length_map]at z1
    refine hM _ _ ?_
    simp_arith[ends]
    exact ⟨p,m,zs,rfl,rfl,by omega,by omega,z2,hp5,sb5⟩
abbrev Row:=List Nat×List Nat
def aX(r:Row):D:=.tup [.str r.1,.str r.2]
def bJ(w:Nat)(rs:List Row):D:=.tup [.int w,.tup (rs.map aX)]
structure okB(w:Nat)(rs:List Row):Prop where
 w1:1≤w
 w6:w≤6
 len:rs.length≤12
 form:∀r∈rs,okF w r.1
 deed:∀r∈rs,okD r.2
def Gk(ds:List D)(G:DH):Prop:=∃p,∃w m:Nat,ds=[.ref p,.int w,.int m]∧Pen G p∧1≤w∧w≤6∧m≤12
def Gm(ds:List D)(G:DH)(d:D)(G':DH):Prop:=∃p,∃w m v:Nat,∃rs:List Row,ds=[.ref p,.int w,.int m]∧d=bJ v rs∧okB v rs∧v≤w∧rs.length≤m∧Pen G' p∧Sb p G G'
def pI:RF.Spec:=bf Gk Gm
theorem Vv{p:Addr}{w m:Nat}{G:DH}{k:D→DH→Prop}{E:EK}(hp:Pen G p)(h1:1≤w)(h2:w≤6)(h3:m≤12)(hk:∀(v:Nat)(rs:List Row)(G':DH),okB v rs→v≤w→rs.length≤m→Pen G' p→Sb p G G'→k (bJ v rs) G'):pI.t [.ref p,.int w,.int m] G k E:=by
 refine bD ⟨p,w,m,rfl,hp,h1,h2,h3⟩ fun d G' hx=>?_
 obtain ⟨p2,w2,m2,v,rs,e1,e2,o,q1,q2,hp',sb⟩:=hx
 simp only[List.cons.injEq,D.ref.injEq,D.int.injEq,Int.ofNat_inj,and_true]at e1
 obtain ⟨rfl,rfl,rfl⟩:=e1
 subst e2
 exact hk v rs G' o q1 q2 hp' sb
theorem Vw{p:Addr}{m:Int}{G:DH}{k:D→DH→Prop}{E:EK}(hp:Pen G p)(h1:0 < m)(h2:m≤100)(hk:∀(xs:List (List Nat))(G':DH),0 < xs.length→xs.length≤100→(∀x∈xs,okD x)→Pen G' p→Sb p G G'→k (.lst (xs.map D.str)) G'):pH.t [.ref p,.int m] G k E:=by
 refine bD ⟨p,m,rfl,hp,h1,h2⟩ fun d G' hx=>?_
 obtain ⟨p2,m2,xs,e1,e2,q1,q2,q3,hp',sb⟩:=hx
 cases e1
 subst e2
 exact hk xs G' q1 q2 q3 hp' sb
theorem vz{α:Type}{l:List α}{a:α}:atI (l++[a]) (-1)=some a:=by
 unfold atI ixN
 rw[if_neg (by decide),if_pos (by simp;omega),List.length_append,List.length_singleton,show (-1+((l.length+1:Nat):Int)).toNat=l.length by omega]
 simp
theorem Vx (Φ:aj) (h1:Φ "_law_take"=cu) (h2:Φ "_law_deeds_of"=pH) (h3:Φ "_law_form_like"=pG) (ds:List D) (G:DH) (h:Gk ds G):aq Φ ue noE (env0 ds 5) G (ends (Gm ds G)):=by
 obtain ⟨p,w,m,rfl,hp,w1,w2,m1⟩:=h
 simp_all_arith[ue]
 refine seq fun M hM=>?_
 simp_arith[h1]
 refine bu hp (by omega) (by omega) fun n G2 hn hp2 sb2=>?_
 simp_arith[ends]
 rw[show (1:Int)+(n:Int)=((n+1:Nat):Int) by omega]
 refine hM _ _ (seq fun M hM=>?_)
 simp_arith[h2]
 refine Vw hp2 (by decide) (by decide) fun xs G3 x1 x2 x3 hp3 sb3=>?_
 refine hM _ _ (seq fun M hM=>?_)
 simp_arith[ends]
 refine fun q hq=>hM _ _ (seq fun M hM=>?_)
 simp_arith[ends]
 refine fun s hs=>hM _ _ (seq fun M hM=>?_)
 have hqs:q≠s:=by
  rintro rfl
  rw[bG]at hs;cases hs
 have hs3:G3 s=none:=by rw[cJ (Ne.symm hqs)]at hs;exact hs
 have npq:p≠q:=hp3.ne hq
 have nps:p≠s:=hp3.ne hs3
 have sa4:Sa G3 (aR (aR G3 q (.lst [])) s (.lst [])):=(Sa.new hq).trans (Sa.new hs)
 have hp4:=hp3.sa sa4
 simp_arith![h1]
 refine bu hp4 (by omega) (by omega) fun r G5 hr hp5 sb5=>?_
 simp_arith![ends]
 refine ⟨by omega,?_⟩
 refine ForG.inv (P:=fun i ρ G'=>(∃o,ρ=[some (.ref p),some (.int w),some (.int m),some (.int ((n+1:Nat):Int)),some (.lst (xs.map D.str)),some (.ref q),some (.ref s),o])∧Pen G' p∧Sb p G G'∧
   ∃rs:List Row,G' q=some (.lst ((rs.map (·.1)).map D.str))∧G' s=some (.lst (rs.map aX))∧rs.length=i∧(∀r∈rs,okF (n+1) r.1)∧∀r∈rs,okD r.2) ⟨⟨_,rfl⟩,hp5,sb2.trans (sb3.trans (sa4.sb.trans sb5)),[],?_,?_,rfl,by simp,by simp⟩ (fun _ _ _ _=>trivial) ?_ ?_
 ·exact sb5 q _ (by rw[cJ hqs];exact bG) (Ne.symm npq)
 ·exact sb5 s _ bG (Ne.symm nps)
 ·rintro i d ρ G' hd ⟨⟨o,rfl⟩,hp6,sb6,rs,g1,g2,r1,r2,r3⟩ kk hk
  have hi:i < r:=by
   have:=(List.getElem?_eq_some_iff.mp hd).1
   simpa [bK] using this
  simp_arith![ends]
  refine seq fun M hM=>?_
  simp_arith[h3,dh g1]
  refine Vn (fs:=rs.map (·.1)) hp6 (by omega) (by omega) (bW g1) (by simp;omega) (fun f hf=>?_) fun f G7 hf hp7 sb7=>?_
  ·obtain ⟨r',hr',rfl⟩:=List.mem_map.mp hf
   exact r2 r' hr'
  have g1':=sb7 q _ g1 (Ne.symm npq)
  have g2':=sb7 s _ g2 (Ne.symm nps)
  simp_arith[dh g1']
  refine ⟨by simp;have hsz:sz=1000000:=rfl;omega,hM _ _ (last ?_)⟩
  have e2:aR G7 q (.lst ((rs.map (·.1)).map D.str++[.str f])) s=some (.lst (rs.map aX)):=by rw[cJ (Ne.symm hqs)];exact g2'
  have hp8:Pen (aR G7 q (.lst ((rs.map (·.1)).map D.str++[.str f]))) p:=hp7.sb Sb.upd npq
  simp_arith[h1,dh e2,bW bG,vz,List.length_map]
  refine bu hp8 (by omega) (by omega) fun t G9 ht hp9 sb9=>?_
  have e1':=sb9 q _ bG (Ne.symm npq)
  have e2':=sb9 s _ e2 (Ne.symm nps)
  simp_arith[dh e2']
  refine eE (by omega) (by simp;omega) fun x hx=>?_
  obtain ⟨dd,hdd,rfl⟩:=List.mem_map.mp hx
  refine ⟨by decide,by simp;have hsz:sz=1000000:=rfl;omega,hk _ _ ⟨⟨_,rfl⟩,hp9.sb Sb.upd nps,?_,rs++[(f,dd)],?_,?_,by simp[r1],?_,?_⟩⟩
  ·intro b ob hb nb
   by_cases hbs:b=s
   ·subst hbs
    exfalso
    have z:=sb2 b _ hb nb
    have z:=sb3 b _ z nb
    rw[hs3]at z;cases z
   ·by_cases hbq:b=q
    ·subst hbq
     exfalso
     have z:=sb2 b _ hb nb
     have z:=sb3 b _ z nb
     rw[hq]at z;cases z
    ·rw[cJ hbs]
     exact sb9 b _ (by rw[cJ hbq];exact sb7 b _ (sb6 b _ hb nb) nb) nb
  ·rw[cJ hqs,e1'];simp
  ·rw[bG];simp[aX]
  ·intro r' hr'
   rcases List.mem_append.mp hr' with h |h
   ·exact r2 r' h
   ·rw[List.mem_singleton.mp h];exact hf
  ·intro r' hr'
   rcases List.mem_append.mp hr' with h |h
   ·exact r3 r' h
   ·rw[List.mem_singleton.mp h];exact x3 dd hdd
 ·rintro ρ G' ⟨⟨o,rfl⟩,hp6,sb6,rs,g1,g2,r1,r2,r3⟩
  have hl:rs.length=r:=by rw[r1];simp[bK]
  refine hM _ _ ?_
  simp_arith[bW g2]
  exact ⟨by decide,p,w,m,n+1,rs,rfl,rfl,⟨by omega,by omega,by omega,r2,r3⟩,by omega,by omega,hp6,sb6⟩
end RF
namespace RF
open PySem L2
end RF
namespace RF
open PySem L2
def orX(S:RF.Spec)(P:List D→String→Prop):RF.Spec where
 A:=S.A ⊕ (String×DH)
 pre:=fun ds G a=>match a with |.inl a=>S.pre ds G a |.inr c=>c.2=G∧P ds c.1
 post:=fun a d G'=>match a with |.inl a=>S.post a d G' |.inr _=>False
 exc:=fun a x G'=>match a with |.inl a=>S.exc a x G' |.inr c=>x=⟨c.1,.non⟩∧G'=c.2
theorem Vy{S:RF.Spec}{P:List D→String→Prop}{ds:List D}{G:DH}{k:D→DH→Prop}{E:EK}(h:S.t ds G k E):(orX S P).t ds G k E:=by
 obtain ⟨a,h1,h2,h3⟩:=h
 exact ⟨.inl a,h1,h2,h3⟩
theorem Vz{S:RF.Spec}{P:List D→String→Prop}{ds:List D}{G:DH}{k:D→DH→Prop}{E:EK}{C:String}(h:P ds C)(hE:E ⟨C,.non⟩ G):(orX S P).t ds G k E:=
 ⟨.inr (C,G),⟨rfl,h⟩,fun _ _ q=>q.elim,fun x G' ⟨e1,e2⟩=>by subst e1 e2;exact hE⟩
theorem VB{Φ:aj}{body:Sxs}{m n:Nat}{S:RF.Spec}{P:List D→String→Prop}(hS:S.exc=fun _ _ _=>False)(h1:∀ds G a,ds.length=n→S.pre ds G a→aq Φ body noE (env0 ds m) G (ends (S.post a)))
  (h2:∀ds G C,P ds C→aq Φ body (fun x G'=>x=⟨C,.non⟩∧G'=G) (env0 ds m) G (ends fun _ _=>False)):∀ds G a,ds.length=n→(orX S P).pre ds G a→aq Φ body ((orX S P).exc a) (env0 ds m) G (ends ((orX S P).post a)):=by
 rintro ds G (a |c) hl h
 ·have e:(orX S P).exc (.inl a)=noE:=by show S.exc a=noE;rw[hS];rfl
  rw[e]
  exact h1 ds G a hl h
 ·obtain ⟨e,hp⟩:=h
  subst e
  exact h2 ds c.2 c.1 hp
mutual
def szA:D→Bool
 |.str l=>decide (l.length≤100000)
 |.tup l=>decide (l.length≤100000)&&cI l
 |.lst l=>decide (l.length≤100000)&&cI l
 |_=>true
def cI:List D→Bool
 |[]=>true
 |a::as=>szA a&&cI as
end
theorem Gn{x:D}(h:szA x=true):szd x=true:=by
 cases x <;> first |rfl | (rw[szA]at h;exact h)
theorem uz:∀{l:List D}{d:D},cI l=true→d∈l→szA d=true
 |a::as,d,h,m=>by
  rw[cI,Bool.and_eq_true]at h
  rcases List.mem_cons.mp m with e |m
  ·rw[e];exact h.1
  ·exact uz h.2 m
theorem pJ:∀{l:List D},(∀d∈l,szA d=true)→cI l=true
 |[],_=>rfl
 |a::l,h=>by rw[cI,h a List.mem_cons_self,pJ fun d hd=>h d (List.mem_cons_of_mem _ hd)];rfl
def letters:List Nat:=[97,98,99,100,101,102,103,104,105,106,107,108,109,110,111,112,113,114,115,116,117,118,119,120,121,122]
theorem VD:∀c:Fin 123,97≤c.1→letters.contains c.1=true:=by decide
theorem uA{c:Nat}:letters.contains c=true↔97≤c∧c≤122:=
 ⟨fun h=>Gj (List.contains_iff_mem.mp h),fun ⟨h1,h2⟩=>VD ⟨c,Nat.lt_succ_of_le h2⟩ h1⟩
def eN:D→Bool
 |.str l=>decide (1≤l.length)&&decide (l.length≤8)&&l.all (fun c=>letters.contains c)
 |_=>false
def jB:List D→Option D
 |[x]=>if nr x&&szd x then some (.bl (eN x)) else none
 |_=>none
theorem VF(Φ:aj)(ds:List D)(G:DH)(d:D)(h:jB ds=some d):aq Φ iC noE (env0 ds 0) G (ends fun d' G'=>G'=G∧d'=d):=by
 unfold jB at h
 split at h
 ·rename_i x
  split at h
  ·rename_i hx
   cases h
   rw[Bool.and_eq_true]at hx
   cases x with
   |str l=>
    have hl:l.length≤100000:=by simpa [szd] using hx.2
    simp_arith[iC,eN]
    by_cases hw:1≤l.length
    ·have hb:decide ((1:Int)≤(l.length:Int))=true:=decide_eq_true (by omega)
     simp_arith[hb]
     by_cases hw8:l.length≤8
     ·have hb8:decide ((l.length:Int)≤8)=true:=decide_eq_true (by omega)
      simp_arith[hb8]
      refine CompG.map (f:=fun d=>match d with |.str [c]=>.bl (letters.contains c) |_=>.non) (I:=fun ρ=>∃o,ρ=[o]) ⟨_,rfl⟩ trivial (by simp;have hsz:sz=1000000:=rfl;omega) ?_ ?_
      ·rintro d ρ hd ⟨o,rfl⟩ kk hk
       obtain ⟨c,_,rfl⟩:=List.mem_map.mp hd
       simp_arith[ends]
       exact hk _ ⟨_,rfl⟩
      ·rw[List.map_map]
       simp_arith[Function.comp_def,o6,all_map]
       simp only[decide_eq_true hw,decide_eq_true hw8,Bool.true_and,and_self]
     ·have hb8:decide ((l.length:Int)≤8)=false:=decide_eq_false (by omega)
      simp_arith[hb8]
      simp only[decide_eq_false hw8,Bool.and_false,Bool.false_and]
    ·have hb:decide ((1:Int)≤(l.length:Int))=false:=decide_eq_false (by omega)
     simp_arith[hb]
     simp only[decide_eq_false hw,Bool.false_and]
   |ref p=>simp[nr]at hx
   |scr p=>simp[nr]at hx
   |exn p=>simp[nr]at hx
   |_=>simp_arith[iC,eN];try simp
  ·cases h
 ·cases h
def aY(w:Int):D→Bool
 |.tup [a,b]=>isText [48,49,42] w a&&eN b
 |_=>false
def dI:List D→Option D
 |[.int w,x]=>if nr x&&szA x then some (.bl (aY w x)) else none
 |_=>none
theorem VG (Φ:aj) (h1:Φ "is_form"=aN jw) (h2:Φ "is_deed"=aN jB) (ds:List D) (G:DH) (d:D) (h:dI ds=some d):aq Φ eF noE (env0 ds 0) G (ends fun d' G'=>G'=G∧d'=d):=by
 unfold dI at h
 split at h
 ·rename_i w x
  split at h
  ·rename_i hx
   cases h
   rw[Bool.and_eq_true]at hx
   cases x with
   |tup l=>
    match l,hx with
    |[],_=>simp_arith[eF,aY];try simp
    |[a],_=>simp_arith[eF,aY];try simp
    |[a,b],hx=>
     simp only[nr,nrs,szA,cI,Bool.and_true,Bool.and_eq_true]at hx
     obtain ⟨⟨n1,n2⟩,_,s1,s2⟩:=hx
     have g1:(nr a&&szd a)=true:=by rw[n1,Gn s1];rfl
     have g2:(nr b&&szd b)=true:=by rw[n2,Gn s2];rfl
     simp_arith[eF,h1,h2]
     simp_arith[show ((0+1+1:Nat):Int)=2 from rfl,BEq.rfl]
     refine cj (if_pos g1) ?_
     simp_arith[ends]
     cases ht:isText [48,49,42] w a with
     |false=>simp[aY,ht]
     |true=>
      refine cj (if_pos g2) ?_
      simp_arith[ends]
      simp[aY,ht]
    |a::b::c::r,_=>
     have hb:((((r.length+1+1+1:Nat):Int)==2):Bool)=false:=by
      rw[beq_eq_false_iff_ne];omega
     simp_arith[eF,aY,hb]
   |ref p=>simp[nr]at hx
   |scr p=>simp[nr]at hx
   |exn p=>simp[nr]at hx
   |_=>simp_arith[eF,aY];try simp
  ·cases h
 ·cases h
def aZ:D→Bool
 |.tup [.int w,.tup rows]=>decide (1≤w)&&decide (w≤6)&&decide (rows.length≤12)&&rows.all (aY w)
 |_=>false
def cz:List D→Option D
 |[x]=>if nr x&&szA x then some (.bl (aZ x)) else none
 |_=>none
theorem VH (Φ:aj) (h1:Φ "is_width"=aN ju) (h2:Φ "is_row"=aN dI) (ds:List D) (G:DH) (d:D) (h:cz ds=some d):aq Φ eG noE (env0 ds 2) G (ends fun d' G'=>G'=G∧d'=d):=by
 unfold cz at h
 split at h
 ·rename_i x
  split at h
  ·rename_i hx
   cases h
   rw[Bool.and_eq_true]at hx
   cases x with
   |tup l=>
    match l,hx with
    |[],_=>simp_arith[eG,aZ];try simp
    |[a],_=>simp_arith[eG,aZ];try simp
    |[a,b],hx=>
     simp only[nr,nrs,szA,cI,Bool.and_true,Bool.and_eq_true]at hx
     obtain ⟨⟨n1,n2⟩,_,s1,s2⟩:=hx
     simp_all_arith[eG]
     refine seq fun M hM=>?_
     simp_arith[ends]
     simp_arith[show ((0+1+1:Nat):Int)=2 from rfl,BEq.rfl]
     refine hM _ _ (seq fun M hM=>?_)
     simp_arith[ends]
     refine hM _ _ (seq fun M hM=>?_)
     simp_arith[h1]
     refine cj (if_pos n1) ?_
     simp_arith[ends]
     cases hw:pC a with
     |false=>
      have:aZ (.tup [a,b])=false:=by
       cases a with
       |int i=>
        have hw:(decide (1≤i)&&decide (i≤6))=false:=hw
        cases b <;> simp only[aZ]
        rw[hw];simp
       |_=>rfl
      rw[this]
      simp_arith[ends]
     |true=>
      cases a with
      |int w=>
       have hw':decide (1≤w)=true∧decide (w≤6)=true:=by unfold pC at hw;simpa using hw
       cases b with
       |tup rows=>
        simp_arith[ends]
        simp only[nr,szA,Bool.and_eq_true,decide_eq_true_iff]at n2 s2
        by_cases hr:rows.length≤12
        ·have hd:decide ((12:Int) < (rows.length:Int))=false:=decide_eq_false (by omega)
         simp_arith[hd]
         refine hM _ _ ?_
         simp_arith[ends]
         refine CompG.map (f:=fun d=>.bl (aY w d)) (I:=fun ρ=>∃o,ρ=[o,some (.int w)]) ⟨_,rfl⟩ trivial (by have hsz:sz=1000000:=rfl;omega) ?_ ?_
         ·rintro d ρ hd ⟨o,rfl⟩ kk hk
          simp_arith[h2]
          refine cj (if_pos (by rw[pF n2 hd,uz s2.2 hd];rfl)) ?_
          exact hk _ ⟨_,rfl⟩
         ·simp_arith[o6]
          simp only[aZ,hw'.1,hw'.2,decide_eq_true hr,Bool.true_and,List.all_map,Function.comp_def,id_eq]
        ·have hd:decide ((12:Int) < (rows.length:Int))=true:=decide_eq_true (by omega)
         simp_arith[hd,aZ,decide_eq_false hr,Bool.and_false,Bool.false_and]
       |ref p=>simp[nr]at n2
       |scr p=>simp[nr]at n2
       |exn p=>simp[nr]at n2
       |_=>simp_arith[aZ];try simp
      |_=>cases hw
    |a::b::c::r,_=>
     have hb:((((r.length+1+1+1:Nat):Int)==2):Bool)=false:=by
      rw[beq_eq_false_iff_ne];omega
     simp_arith[eG,aZ,hb]
   |ref p=>simp[nr]at hx
   |scr p=>simp[nr]at hx
   |exn p=>simp[nr]at hx
   |_=>simp_arith[eG,aZ];try simp
  ·cases h
 ·cases h
theorem VJ{w:Nat}{l:List Nat}(h:okF w l):isText [48,49,42] (w:Int) (.str l)=true:=by
 unfold isText
 rw[Bool.and_eq_true]
 refine ⟨decide_eq_true (by rw[h.1]),List.all_eq_true.mpr fun c hc=>?_⟩
 rcases h.2 c hc with rfl |rfl |rfl <;> rfl
theorem VL{l:List Nat}(h:okD l):eN (.str l)=true:=by
 unfold eN
 rw[Bool.and_eq_true,Bool.and_eq_true]
 exact ⟨⟨decide_eq_true h.1,decide_eq_true h.2.1⟩,List.all_eq_true.mpr fun c hc=>uA.mpr (h.2.2 c hc)⟩
theorem VM{w:Nat}{r:Row}(h1:okF w r.1)(h2:okD r.2):aY (w:Int) (aX r)=true:=by
 show (isText [48,49,42] (w:Int) (.str r.1)&&eN (.str r.2))=true
 rw[VJ h1,VL h2];rfl
theorem Gp{w:Nat}{rs:List Row}(h:okB w rs):aZ (bJ w rs)=true:=by
 unfold bJ aZ
 simp only[Bool.and_eq_true,decide_eq_true_iff,List.length_map,List.all_map,List.all_eq_true]
 have:=h.w1
 have:=h.w6
 refine ⟨⟨⟨by omega,by omega⟩,h.len⟩,fun r hr=>VM (h.form r hr) (h.deed r hr)⟩
theorem VN(rs:List Row):nrs (rs.map aX)=true:=jl fun d hd=>by obtain ⟨r,_,rfl⟩:=List.mem_map.mp hd;rfl
theorem Gq(w:Nat)(rs:List Row):nr (bJ w rs)=true:=by unfold bJ;simp only[nr,nrs,VN,Bool.and_true]
theorem Gr{w:Nat}{rs:List Row}(h:okB w rs):szA (bJ w rs)=true:=by
 unfold bJ
 simp only[szA,cI,Bool.and_true,Bool.true_and,Bool.and_eq_true,decide_eq_true_iff,List.length_map]
 have hlen:=h.len
 have hw:=h.w6
 refine ⟨by simp,by omega,pJ fun d hd=>?_⟩
 obtain ⟨r,hr,rfl⟩:=List.mem_map.mp hd
 have h1:=(h.form r hr).1
 have h2:=(h.deed r hr).2.1
 unfold aX
 simp only[szA,cI,Bool.and_true,Bool.and_eq_true,decide_eq_true_iff]
 exact ⟨by simp,by omega,by omega⟩
def VP:RF.Spec:=bf (fun ds _=>∃w rs,ds=[bJ w rs]∧okB w rs) (fun _ G d G'=>G'=G∧d=.non)
def Gs(x:D):Prop:=nr x=true∧szA x=true∧aZ x=false
def Gu (ds:List D) (C:String):Prop:=C="NoBook"∧∃x,ds=[x]∧Gs x
def jC:RF.Spec:=orX VP Gu
theorem VR{w:Nat}{rs:List Row}{G:DH}{k:D→DH→Prop}{E:EK}(h:okB w rs)(hk:k .non G):jC.t [bJ w rs] G k E:=Vy (bD ⟨w,rs,rfl,h⟩ fun d G' ⟨e1,e2⟩=>by subst e1 e2;exact hk)
theorem VV {x:D} {G:DH} {k:D→DH→Prop} {E:EK} (h:Gs x) (hE:E ⟨"NoBook",.non⟩ G):jC.t [x] G k E:=Vz ⟨rfl,x,rfl,h⟩ hE
theorem V0 (Φ:aj) (h1:Φ "is_book"=aN cz) (ds:List D) (G:DH) (h:∃w rs,ds=[bJ w rs]∧okB w rs):aq Φ gj noE (env0 ds 0) G (ends fun d G'=>G'=G∧d=.non):=by
 obtain ⟨w,rs,rfl,hb⟩:=h
 simp_arith[gj,h1]
 refine cj (d:=.bl true) (by rw[←Gp hb];exact if_pos (by rw[Gq,Gr hb];rfl)) ?_
 simp_arith[ends]
theorem V1 (Φ:aj) (h1:Φ "is_book"=aN cz) (ds:List D) (G:DH) (C:String) (h:Gu ds C):aq Φ gj (fun x G'=>x=⟨C,.non⟩∧G'=G) (env0 ds 0) G (ends fun _ _=>False):=by
 obtain ⟨rfl,x,rfl,hx,hz,hn⟩:=h
 simp_arith[gj,h1]
 refine cj (d:=.bl false) (by rw[←hn];exact if_pos (by rw[hx,hz];rfl)) ?_
 simp_arith[and_self]
end RF
namespace RF
open PySem L2
theorem V2(c:Nat)(n:Nat):reps [c] n=List.replicate n c:=by
 unfold reps
 induction n with
 |zero=>rfl
 |succ n ih=>rw[List.replicate_succ,List.flatten_cons,ih,List.replicate_succ];rfl
theorem V3{p:Addr}{G:DH}{k:D→DH→Prop}{E:EK}(hp:Pen G p)(hk:∀G',Pen G' p→Sb p G G'→k (.ref p) G'):pB.t [.ref p] G k E:=
 bD ⟨p,rfl,hp⟩ fun d G' hx=>by obtain ⟨p2,e1,e2,hp',sb⟩:=hx;cases e1;subst e2;exact hk G' hp' sb
end RF
namespace RF
open PySem L2
def uB:RF.Spec:=bf (fun ds G=>∃p,ds=[.ref p,.str []]∧Pen G p) (fun ds G d G'=>∃p c,ds=[.ref p,.str []]∧d=.str [c]∧Pen G' p∧Sb p G G')
theorem V4 (Φ:aj) (h1:Φ "_law_take"=cu) (ds:List D) (G:DH) (h:∃p,ds=[.ref p,.str []]∧Pen G p):
  aq Φ tO noE (env0 ds 2) G (ends fun d G'=>∃p c,ds=[.ref p,.str []]∧d=.str [c]∧Pen G' p∧Sb p G G'):=by
 obtain ⟨p,rfl,hp⟩:=h
 simp_all_arith[tO]
 refine seq fun M hM=>?_
 simp_arith[ends]
 refine hM _ _ (seq fun M hM=>?_)
 simp_arith[ends]
 refine ⟨by decide,hM _ _ ?_⟩
 refine (fun tail=>tail _ (by decide) (by decide)) (?_:∀l:List Nat,l≠[]→l.length≤1000→aq Φ _ noE [some (.ref p),some (.str []),some (.str l),none] G _)
 intro l l1 l2
 have l3:0 < l.length:=List.length_pos_iff.mpr l1
 refine seq fun M hM=>?_
 simp_arith[ends]
 refine CompG.map (f:=fun d=>d) (I:=fun ρ=>∃o,ρ=[o,some (.str [])]) ⟨_,rfl⟩ trivial (by simp;have hsz:sz=1000000:=rfl;omega) ?_ ?_
 ·rintro d ρ hd ⟨o,rfl⟩ kk hk
  obtain ⟨c,_,rfl⟩:=List.mem_map.mp hd
  simp_arith[List.contains_nil]
  exact hk _ ⟨_,rfl⟩
 ·refine hM _ _ ?_
  simp_arith[h1,List.map_id',List.length_map]
  refine bD ⟨p,_,rfl,hp,by omega,by omega⟩ fun d' G2 ⟨p2,m2,r,e1,e2,r0,r1,pp2,sb2⟩=>?_
  cases e1
  subst e2
  simp_arith[ends]
  refine eE r0 (by simpa using r1) fun a ha=>?_
  obtain ⟨c,_,rfl⟩:=List.mem_map.mp ha
  exact ⟨p,c,rfl,rfl,pp2,sb2⟩
def uC:RF.Spec:=bf (fun ds G=>∃p,ds=[.ref p]∧Pen G p) (fun ds G d G'=>∃p c,ds=[.ref p]∧d=.str [c]∧Pen G' p∧Sb p G G')
theorem V5 (Φ:aj) (h1:Φ "_law_sign_but"=uB) (ds:List D) (G:DH) (h:∃p,ds=[.ref p]∧Pen G p):
  aq Φ tQ noE (env0 ds 0) G (ends fun d G'=>∃p c,ds=[.ref p]∧d=.str [c]∧Pen G' p∧Sb p G G'):=by
 obtain ⟨p,rfl,hp⟩:=h
 simp_arith[tQ,h1]
 refine bD ⟨p,rfl,hp⟩ fun d' G2 ⟨p2,c,e1,e2,pp2,sb2⟩=>?_
 cases e1
 subst e2
 exact ⟨p,c,rfl,rfl,pp2,sb2⟩
end RF
namespace RF
open PySem L2
def aK(d:D):Prop:=nr d=true∧szA d=true
def pK:RF.Spec:=ghS (A:=Addr×List Nat) (fun a ds G=>ds=[.ref a.1,.str a.2]∧Pen G a.1∧a.2.length≤100) (fun a G d G'=>∃l,d=.str l∧l.length≤a.2.length+1∧Pen G' a.1∧Sb a.1 G G')
theorem uD{p:Addr}{l:List Nat}{G:DH}{k:D→DH→Prop}{E:EK}(hp:Pen G p)(hl:l.length≤100)(hk:∀l' G',l'.length≤101→Pen G' p→Sb p G G'→k (.str l') G'):pK.t [.ref p,.str l] G k E:=
 o9 (p,l) ⟨rfl,hp,hl⟩ fun d G' hx=>by
  obtain ⟨l',rfl,h1,h2,h3⟩:=hx
  dsimp only at h1 h2 h3
  exact hk l' G' (by omega) h2 h3
theorem V6 (Φ:aj) (h1:Φ "_law_take"=cu) (h2:Φ "_law_any_sign"=uC) (a:Addr×List Nat) (ds:List D) (G:DH) (h:ds=[.ref a.1,.str a.2]∧Pen G a.1∧a.2.length≤100):
  aq Φ tR noE (env0 ds 1) G (ends fun d G'=>∃l,d=.str l∧l.length≤a.2.length+1∧Pen G' a.1∧Sb a.1 G G'):=by
 obtain ⟨p,l⟩:=a
 obtain ⟨rfl,hp,hl⟩:=h
 dsimp only at hp hl ⊢
 simp_all_arith[tR]
 refine seq fun M hM=>?_
 simp_arith[h1]
 refine bu hp (by omega) (by omega) fun r G1 hr hp1 sb1=>hM _ _ (last ?_)
 simp_arith[h1,h2]
 refine bD ⟨p,rfl,hp1⟩ fun d2 G2 hx=>?_
 obtain ⟨p2,c,e1,rfl,hp2,sb2⟩:=hx
 cases e1
 have c1:(cut l none (some (r:Int))).length≤r:=by rw[zB,List.length_take];omega
 simp_arith[List.length_append]
 refine ⟨by have:=fB l none (some (r:Int));have hsz:sz=1000000:=rfl;omega,?_⟩
 refine bu hp2 (by decide) (by decide) fun q G3 hq hp3 sb3=>?_
 have c2:(cut l (some ((r:Int)+(q:Int))) none).length≤l.length - r:=by
  have:=zE l (r+q)
  rw[show ((r+q:Nat):Int)=(r:Int)+(q:Int) from by omega]at this
  rw[this,List.length_drop];omega
 simp_arith[List.length_append]
 refine ⟨by have hsz:sz=1000000:=rfl;omega,_,rfl,?_,hp3,sb1.trans (sb2.trans sb3)⟩
 simp only[List.length_append,List.length_cons,List.length_nil]
 omega
theorem V7{c a:Nat}:(!decide ([c] < [a]))=decide (a≤c):=by
 have e:([c] < [a])↔c < a:=by
  constructor
  ·intro z
   cases z with
   |rel z=>exact z
   |cons z=>cases z
  ·intro z
   exact List.Lex.rel z
 by_cases h:a≤c
 ·rw[decide_eq_true h,decide_eq_false (by rw[e];omega)];rfl
 ·rw[decide_eq_false h,decide_eq_true (e.mpr (by omega))];rfl
theorem V8{l:List Nat}{f:Nat→Bool}:(l.filterMap fun c=>if f c then none else some (D.str [c]))=[]↔l.all f=true:=by
 induction l with
 |nil=>simp
 |cons a l ih=>
  rw[List.filterMap_cons,List.all_cons,Bool.and_eq_true,←ih]
  cases h:f a <;> simp[h]
theorem Gv{l:List Nat}{f:Nat→Bool}:nrs (l.filterMap fun c=>if f c then none else some (D.str [c]))=true:=by
 induction l with
 |nil=>rfl
 |cons a l ih=>
  rw[List.filterMap_cons]
  cases h:f a
  ·simp only[if_neg Bool.false_ne_true];rw[nrs,ih];rfl
  ·simp only[if_pos];exact ih
theorem Gw{l:List Nat}{f:Nat→Bool}:bh (l.filterMap fun c=>if f c then none else some (D.str [c])) []=l.all f:=by
 rw[Bool.eq_iff_iff,←V8]
 cases l.filterMap fun c=>if f c then none else some (D.str [c]) with
 |nil=>simp[bh]
 |cons a b=>simp[bh]
theorem V9(Φ:aj)(ds:List D)(G:DH)(d:D)(h:dI ds=some d):aq Φ eH noE (env0 ds 0) G (ends fun d' G'=>G'=G∧d'=d):=by
 unfold dI at h
 split at h
 ·rename_i w x
  split at h
  ·rename_i hx
   cases h
   rw[Bool.and_eq_true]at hx
   cases x with
   |tup l=>
    match l,hx with
    |[],_=>simp_arith[eH,aY];try simp
    |[a],_=>simp_arith[eH,aY];try simp
    |[a,b],hx=>
     simp only[nr,nrs,szA,cI,Bool.and_true,Bool.and_eq_true]at hx
     obtain ⟨⟨n1,n2⟩,_,s1,s2⟩:=hx
     have e2:((((0+1+1:Nat):Int)==2):Bool)=true:=by decide
     have other:∀e:Bool,aY w (.tup [a,b])=e→aY w (.tup [a,b])=e:=fun _ h=>h
     cases a with
     |str f=>
      cases b with
      |str g=>
       have hf:f.length≤100000:=by simpa [szA] using s1
       have hg:g.length≤100000:=by simpa [szA] using s2
       simp_all_arith[eH]
       refine seq fun M hM=>?_
       simp_arith[e2]
       refine hM _ _ (seq fun M hM=>?_)
       have er:aY w (.tup [.str f,.str g])=(decide ((f.length:Int)=w)&&f.all (fun c=>[48,49,42].contains c)&&(decide (1≤g.length)&&decide (g.length≤8)&&g.all (fun c=>letters.contains c))):=rfl
       rw[er]
       by_cases hw:(f.length:Int)=w
       ·have hb:(((f.length:Int)==w):Bool)=true:=by simp[hw]
        simp_arith[hb]
        refine CompG.pure (f:=fun d=>match d with |.str [c]=>if [48,49,42].contains c then none else some (.str [c]) |_=>none) (I:=fun ρ=>∃o,ρ=[o]) ⟨_,rfl⟩ trivial (by simp;have hsz:sz=1000000:=rfl;omega) ?_ ?_
        ·rintro d ρ hd ⟨o,rfl⟩ kk hk
         obtain ⟨c,_,rfl⟩:=List.mem_map.mp hd
         have:=hk [some (.str [c])] ⟨_,rfl⟩
         simp_arith[ends]
         cases hc:[48,49,42].contains c <;> simp_arith[hc]at this ⊢ <;> exact this
        ·rw[List.filterMap_map]
         simp_arith[Function.comp_def,Gw]
         refine ⟨⟨Gv,by simp⟩,?_⟩
         cases hall:f.all (fun c=>[48,49,42].contains c) with
         |false=>simp_arith[ends];simp
         |true=>
          simp_arith[decide_eq_true hw,Bool.true_and]
          refine hM _ _ (last ?_)
          simp_arith[ends]
          by_cases hg1:1≤g.length
          ·have hb1:decide ((1:Int)≤(g.length:Int))=true:=decide_eq_true (by omega)
           simp_arith[hb1]
           by_cases hg8:g.length≤8
           ·have hb8:decide ((g.length:Int)≤8)=true:=decide_eq_true (by omega)
            simp_arith[hb8]
            refine CompG.pure (f:=fun d=>match d with |.str [c]=>if letters.contains c then none else some (.str [c]) |_=>none) (I:=fun ρ=>∃o,ρ=[o]) ⟨_,rfl⟩ trivial (by simp;have hsz:sz=1000000:=rfl;omega) ?_ ?_
            ·rintro d ρ hd ⟨o,rfl⟩ kk hk
             obtain ⟨c,_,rfl⟩:=List.mem_map.mp hd
             have:=hk [some (.str [c])] ⟨_,rfl⟩
             have hlt:letters.contains c=(decide (97≤c)&&decide (c≤122)):=by
              rw[Bool.eq_iff_iff,uA,Bool.and_eq_true,decide_eq_true_iff,decide_eq_true_iff]
             simp only[hlt]at this
             simp_arith[V7]
             cases h97:decide (97≤c) <;> simp_arith[h97,Bool.true_and,Bool.false_and]at this ⊢
             ·exact this
             ·cases h122:decide (c≤122) <;> simp_arith[h122]at this ⊢ <;> exact this
            ·rw[List.filterMap_map]
             simp_arith[Function.comp_def,Gw]
             refine ⟨⟨Gv,by simp⟩,?_⟩
             simp only[er,hall,decide_eq_true hw,decide_eq_true hg1,decide_eq_true hg8,Bool.true_and,and_self]
           ·have hb8:decide ((g.length:Int)≤8)=false:=decide_eq_false (by omega)
            simp_arith[hb8,er,decide_eq_false hg8,Bool.and_false,Bool.false_and,and_self]
          ·have hb1:decide ((1:Int)≤(g.length:Int))=false:=decide_eq_false (by omega)
           simp_arith[hb1,er,decide_eq_false hg1,Bool.false_and,Bool.and_false,and_self]
       ·have hb:(((f.length:Int)==w):Bool)=false:=by simp[hw]
        simp_arith[hb,decide_eq_false hw,Bool.false_and,and_self]
      |ref p=>simp[nr]at n2
      |scr p=>simp[nr]at n2
      |exn p=>simp[nr]at n2
      |_=>simp_arith[eH,e2,aY,eN,Bool.and_false];try simp
     |ref p=>simp[nr]at n1
     |scr p=>simp[nr]at n1
     |exn p=>simp[nr]at n1
     |_=>simp_arith[eH,e2,aY,isText,Bool.false_and];try simp
    |a::b::c::r,_=>
     have hb:((((r.length+1+1+1:Nat):Int)==2):Bool)=false:=by
      rw[beq_eq_false_iff_ne];omega
     simp_arith[eH,aY,hb]
   |ref p=>simp[nr]at hx
   |scr p=>simp[nr]at hx
   |exn p=>simp[nr]at hx
   |_=>simp_arith[eH,aY];try simp
  ·cases h
 ·cases h
theorem isIn_false{α:Type}(f:α→Bool)(l:List α):isIn (.bl false) (l.map fun a=>D.bl (f a))=!l.all f:=by
 unfold isIn
 rw[List.any_map]
 induction l with
 |nil=>rfl
 |cons a l ih=>
  rw[List.any_cons,List.all_cons,Bool.not_and,←ih]
  congr 1
  show deq (D.bl (f a)) (D.bl false)=!f a
  cases f a <;> simp[deq]
theorem Gx{α:Type}(f:α→Bool):∀l:List α,aO (l.map fun a=>D.bl (f a))≤0
 |[]=>Nat.le_refl _
 |a::l=>by
  have:=Gx f l
  simp only[List.map_cons,aO,dpt]
  omega
theorem Wa (Φ:aj) (h1:Φ "_law_is_whole"=aN dH) (h2:Φ "_law_is_row"=aN dI) (ds:List D) (G:DH) (d:D) (h:cz ds=some d):aq Φ fH noE (env0 ds 0) G (ends fun d' G'=>G'=G∧d'=d):=by
 unfold cz at h
 split at h
 ·rename_i x
  split at h
  ·rename_i hx
   cases h
   rw[Bool.and_eq_true]at hx
   cases x with
   |tup l=>
    match l,hx with
    |[],_=>simp_arith[fH,aZ];try simp
    |[a],_=>simp_arith[fH,aZ];try simp
    |[a,b],hx=>
     simp only[nr,nrs,szA,cI,Bool.and_true,Bool.and_eq_true]at hx
     obtain ⟨⟨n1,n2⟩,_,s1,s2⟩:=hx
     have e2:((((0+1+1:Nat):Int)==2):Bool)=true:=by decide
     cases b with
     |tup rows=>
      simp only[nr,szA,Bool.and_eq_true,decide_eq_true_iff]at n2 s2
      simp_all_arith[fH]
      refine seq fun M hM=>?_
      simp_arith[e2]
      refine hM _ _ (seq fun M hM=>?_)
      simp_arith[h1]
      refine cj (if_pos n1) ?_
      simp_arith[ends]
      cases a with
      |int w=>
       have er:aZ (.tup [.int w,.tup rows])=(decide (1≤w)&&decide (w≤6)&&decide (rows.length≤12)&&rows.all (aY w)):=rfl
       simp_arith[whole]
       cases hw1:decide (1≤w) with
       |false=>simp_arith[er,hw1,Bool.false_and,and_self]
       |true=>
        simp_arith[ends]
        cases hw6:decide (w≤6) with
        |false=>simp_arith[er,hw1,hw6,Bool.and_false,Bool.false_and,and_self]
        |true=>
         simp_arith[ends]
         by_cases hr:rows.length≤12
         ·have hd:decide ((12:Int) < (rows.length:Int))=false:=decide_eq_false (by omega)
          simp_arith[hd]
          refine hM _ _ (last ?_)
          simp_arith[ends]
          refine CompG.map (f:=fun d=>.bl (aY w d)) (I:=fun ρ=>∃o,ρ=[o,some (.tup [.int w,.tup rows])]) ⟨_,rfl⟩ trivial (by have hsz:sz=1000000:=rfl;omega) ?_ ?_
          ·rintro d ρ hd ⟨o,rfl⟩ kk hk
           simp_arith[h2]
           refine cj (if_pos (by rw[pF n2 hd,uz s2.2 hd];rfl)) ?_
           exact hk _ ⟨_,rfl⟩
          ·simp_arith[isIn_false,er,hw1,hw6,decide_eq_true hr,Bool.true_and,Bool.not_not]
           refine ⟨jl fun d hd=>?_,?_⟩
           ·obtain ⟨r,_,rfl⟩:=List.mem_map.mp hd
            rfl
           ·exact Nat.le_trans (Gx _ _) (by decide)
         ·have hd:decide ((12:Int) < (rows.length:Int))=true:=decide_eq_true (by omega)
          simp_arith[hd,er,decide_eq_false hr,Bool.and_false,Bool.false_and,and_self]
      |ref p=>simp[nr]at n1
      |scr p=>simp[nr]at n1
      |exn p=>simp[nr]at n1
      |_=>simp_arith[whole,aZ];try simp
     |ref p=>simp[nr]at n2
     |scr p=>simp[nr]at n2
     |exn p=>simp[nr]at n2
     |_=>simp_arith[fH,e2,aZ];try simp
    |a::b::c::r,_=>
     have hb:((((r.length+1+1+1:Nat):Int)==2):Bool)=false:=by
      rw[beq_eq_false_iff_ne];omega
     simp_arith[fH,aZ,hb]
   |ref p=>simp[nr]at hx
   |scr p=>simp[nr]at hx
   |exn p=>simp[nr]at hx
   |_=>simp_arith[fH,aZ];try simp
  ·cases h
 ·cases h
theorem cA{l:List Nat}(h:l.length≤100000):aK (.str l):=⟨rfl,decide_eq_true h⟩
theorem dJ{l:List D}(h:l.length≤100000)(h2:∀d∈l,aK d):aK (.tup l):=
 ⟨by rw[nr];exact jl fun d hd=>(h2 d hd).1,by rw[szA,decide_eq_true h,pJ fun d hd=>(h2 d hd).2];rfl⟩
theorem iG{l:List D}(h:l.length≤100000)(h2:∀d∈l,aK d):aK (.lst l):=
 ⟨by rw[nr];exact jl fun d hd=>(h2 d hd).1,by rw[szA,decide_eq_true h,pJ fun d hd=>(h2 d hd).2];rfl⟩
theorem b8{a b:D}(ha:aK a)(hb:aK b):aK (.tup [a,b]):=dJ (by simp) fun d hd=>by
 simp only[List.mem_cons,List.not_mem_nil,or_false]at hd
 rcases hd with rfl |rfl
 ·exact ha
 ·exact hb
theorem iH:aK .non:=⟨rfl,rfl⟩
theorem Gy{b:Bool}:aK (.bl b):=⟨rfl,rfl⟩
theorem bN{i:Int}:aK (.int i):=⟨rfl,rfl⟩
theorem Wb{l:List Nat}(h:l.length≤100000):aK (.lst (l.map fun c=>.str [c])):=iG (by rw[List.length_map];exact h) fun d hd=>by
 obtain ⟨c,_,rfl⟩:=List.mem_map.mp hd
 exact cA (by simp)
def pL:RF.Spec:=ghS (A:=Addr×List Nat×List Nat) (fun a ds G=>ds=[.ref a.1,.tup [.str a.2.1,.str a.2.2]]∧Pen G a.1∧a.2.1.length≤50∧a.2.2.length≤50) (fun a G d G'=>aK d∧Pen G' a.1∧Sb a.1 G G')
theorem Wc{p:Addr}{f g:List Nat}{G:DH}{k:D→DH→Prop}{E:EK}(hp:Pen G p)(hf:f.length≤50)(hg:g.length≤50)(hk:∀d G',aK d→Pen G' p→Sb p G G'→k d G'):pL.t [.ref p,.tup [.str f,.str g]] G k E:=
 o9 (p,f,g) ⟨rfl,hp,hf,hg⟩ fun d G' hx=>hk d G' hx.1 hx.2.1 hx.2.2
theorem Wd (Φ:aj) (h1:Φ "_law_take"=cu) (h2:Φ "_law_signed"=pK) (a:Addr×List Nat×List Nat) (ds:List D) (G:DH) (h:ds=[.ref a.1,.tup [.str a.2.1,.str a.2.2]]∧Pen G a.1∧a.2.1.length≤50∧a.2.2.length≤50):
  aq Φ uf noE (env0 ds 5) G (ends fun d G'=>aK d∧Pen G' a.1∧Sb a.1 G G'):=by
 obtain ⟨p,f,g⟩:=a
 obtain ⟨rfl,hp,hf,hg⟩:=h
 dsimp only at hp hf hg ⊢
 simp_all_arith[uf]
 refine seq fun M hM=>?_
 simp_arith[ends]
 refine hM _ _ (seq fun M hM=>?_)
 simp_arith[h2]
 refine uD hp (by omega) fun a1 G1 ha1 hp1 sb1=>?_
 refine uD hp1 (by omega) fun a2 G2 ha2 hp2 sb2=>?_
 repeat refine ⟨by decide,?_⟩
 refine hM _ _ ?_
 refine (fun tail=>tail _ rfl ?hdeeds) (?htail:∀xs:List D,xs.length=12→(∀x∈xs,aK x)→aq Φ _ noE [some (.ref p),some (.tup [.str f,.str g]),some (.str f),some (.str g),some (.lst xs),none,none] G2 _)
 case hdeeds=>
  intro x hx
  simp only[List.mem_cons,List.not_mem_nil,or_false]at hx
  rcases hx with rfl |rfl |rfl |rfl |rfl |rfl |rfl |rfl |rfl |rfl |rfl |rfl <;> first |exact iH |exact Gy |exact bN |exact cA (by first |decide |omega) |exact iG (by decide) fun d hd=>by rw[List.mem_singleton.mp hd];exact cA (by decide)
 case htail=>
  intro xs hx1 hx2
  refine seq fun M hM=>?_
  have c1:=fB f (some 1) none
  have c2:=fB f none (some (-1))
  simp_arith[h2,List.length_append]
  refine ⟨by have hsz:sz=1000000:=rfl;omega,by have hsz:sz=1000000:=rfl;omega,?_⟩
  refine uD hp2 (by omega) fun a3 G3 ha3 hp3 sb3=>?_
  repeat refine ⟨by first |decide |have hsz:sz=1000000:=rfl;omega,?_⟩
  refine hM _ _ ?_
  refine (fun tail=>tail _ rfl ?hforms) (?htail2:∀ys:List D,ys.length=9→(∀y∈ys,aK y)→aq Φ _ noE [some (.ref p),some (.tup [.str f,.str g]),some (.str f),some (.str g),some (.lst xs),some (.lst ys),none] G3 _)
  case hforms=>
   intro x hx
   simp only[List.mem_cons,List.not_mem_nil,or_false]at hx
   rcases hx with rfl |rfl |rfl |rfl |rfl |rfl |rfl |rfl |rfl <;> first |exact iH |exact bN |exact Wb (by omega) |exact cA (by first |decide |omega | (simp;omega))
  case htail2=>
   intro ys hy1 hy2
   have rowok:aK (.tup [.str f,.str g]):=b8 (cA (by omega)) (cA (by omega))
   refine seq fun M hM=>?_
   simp_arith[h1]
   refine bu hp3 (by decide) (by decide) fun r4 G4 hr4 hp4 sb4=>?_
   simp_arith[ends]
   refine eE (by omega) (by rw[hx1];exact hr4) fun dd hdd=>⟨by decide,?_⟩
   refine bu hp4 (by decide) (by decide) fun r5 G5 hr5 hp5 sb5=>?_
   simp_arith[ends]
   refine eE (by omega) (by rw[hy1];exact hr5) fun ff hff=>?_
   repeat refine ⟨by decide,?_⟩
   refine hM _ _ (last ?_)
   simp_arith[h1]
   repeat refine ⟨by decide,?_⟩
   refine bu hp5 (by decide) (by decide) fun r6 G6 hr6 hp6 sb6=>?_
   simp_arith[ends]
   refine eE (by omega) (by simpa using hr6) fun x hx=>⟨?_,hp6,sb1.trans (sb2.trans (sb3.trans (sb4.trans (sb5.trans sb6))))⟩
   simp only[List.mem_cons,List.not_mem_nil,or_false,List.cons_append,List.nil_append]at hx
   have sf:aK (.str f):=cA (by omega)
   have sg:aK (.str g):=cA (by omega)
   rcases hx with rfl |rfl |rfl |rfl |rfl |rfl |rfl |rfl |rfl |rfl |rfl
   ·exact b8 sf (hx2 _ hdd)
   ·exact b8 (hy2 _ hff) sg
   ·exact dJ (by simp) fun d hd=>by
     simp only[List.mem_cons,List.not_mem_nil,or_false]at hd
     rcases hd with rfl |rfl |rfl
     ·exact sf
     ·exact sg
     ·exact cA (by decide)
   ·exact dJ (by simp) fun d hd=>by rw[List.mem_singleton.mp hd];exact sf
   ·exact iG (by simp) fun d hd=>by
     simp only[List.mem_cons,List.not_mem_nil,or_false]at hd
     rcases hd with rfl |rfl
     ·exact sf
     ·exact sg
   ·exact iH
   ·exact ⟨rfl,rfl⟩
   ·exact sf
   ·exact b8 sg sf
   ·exact dJ (by simp) fun d hd=>by rw[List.mem_singleton.mp hd];exact rowok
   ·exact bN
def pM:RF.Spec:=ghS (A:=Addr×Nat×List Row) (fun a ds G=>ds=[.ref a.1,bJ a.2.1 a.2.2]∧Pen G a.1∧okB a.2.1 a.2.2) (fun a G d G'=>aK d∧Pen G' a.1∧Sb a.1 G G')
theorem We{p:Addr}{w:Nat}{rs:List Row}{G:DH}{k:D→DH→Prop}{E:EK}(hp:Pen G p)(hb:okB w rs)(hk:∀d G',aK d→Pen G' p→Sb p G G'→k d G'):pM.t [.ref p,bJ w rs] G k E:=
 o9 (p,w,rs) ⟨rfl,hp,hb⟩ fun d G' hx=>hk d G' hx.1 hx.2.1 hx.2.2
theorem Wf{r:Row}(h1:r.1.length≤100000)(h2:r.2.length≤100000):aK (aX r):=b8 (cA h1) (cA h2)
theorem Wg{α:Type}{a x:α}{n:Nat}(h:x∈reps [a] n):x=a:=by
 unfold reps at h
 obtain ⟨l,hl,hx⟩:=List.mem_flatten.mp h
 rw[(List.mem_replicate.mp hl).2]at hx
 exact List.mem_singleton.mp hx
theorem len_reps{α:Type}(a:α)(n:Nat):(reps [a] n).length=n:=by
 unfold reps
 rw[List.length_flatten,List.map_replicate,List.sum_replicate_nat]
 simp
theorem Wh:∀w:Fin 7,(dU w.1).length=1:=by decide +kernel
theorem uE{α:Type}{l:List α}{lo hi:Option Int}{x:α}(h:x∈cut l lo hi):x∈l:=List.mem_of_mem_drop (List.mem_of_mem_take h)
theorem Wi (Φ:aj) (h1:Φ "_law_take"=cu) (h2:Φ "_law_odd_row"=pL) (a:Addr×Nat×List Row) (ds:List D) (G:DH) (h:ds=[.ref a.1,bJ a.2.1 a.2.2]∧Pen G a.1∧okB a.2.1 a.2.2):
  aq Φ ug noE (env0 ds 8) G (ends fun d G'=>aK d∧Pen G' a.1∧Sb a.1 G G'):=by
 obtain ⟨p,w,rs⟩:=a
 obtain ⟨rfl,hp,hb⟩:=h
 dsimp only at hp hb ⊢
 have hw1:=hb.w1
 have hw6:=hb.w6
 have hrl:=hb.len
 have rok:∀d∈rs.map aX,aK d:=fun d hd=>by
  obtain ⟨r,hr,rfl⟩:=List.mem_map.mp hd
  exact Wf (by rw[(hb.form r hr).1];omega) (by have:=(hb.deed r hr).2.1;omega)
 have rokT:aK (.tup (rs.map aX)):=dJ (by rw[List.length_map];omega) rok
 simp_all_arith[ug,bJ]
 refine seq fun M hM=>?_
 simp_arith[ends]
 refine hM _ _ (seq fun M hM=>?_)
 simp_arith[h1,List.length_map]
 refine bu hp (by omega) (by omega) fun n G1 hn hp1 sb1=>hM _ _ (seq fun M hM=>?_)
 simp_arith[V2,Int.toNat_natCast,List.length_map]
 repeat refine ⟨by first |decide |omega |have hsz:sz=1000000:=rfl;omega | (simp;have hsz:sz=1000000:=rfl;omega),?_⟩
 refine eE (by omega) (by simp;omega) fun row hrow=>?_
 have hrow2:∃f g,row=.tup [.str f,.str g]∧f.length≤50∧g.length≤50:=by
  rcases List.mem_append.mp hrow with hr |hr
  ·obtain ⟨r,hr',rfl⟩:=List.mem_map.mp hr
   have hr:=hr'
   exact ⟨r.1,r.2,rfl,by rw[(hb.form r hr).1];omega,by have:=(hb.deed r hr).2.1;omega⟩
  ·rw[List.mem_singleton.mp hr]
   exact ⟨_,_,rfl,by simp;omega,by decide⟩
 obtain ⟨f,g,rfl,hf,hg⟩:=hrow2
 have rowok:aK (.tup [.str f,.str g]):=b8 (cA (by omega)) (cA (by omega))
 refine hM _ _ (seq fun M hM=>?_)
 simp_arith[h2]
 refine Wc hp1 hf hg fun od G2 hod hp2 sb2=>hM _ _ (seq fun M hM=>?_)
 have k1:=fB (rs.map aX) none (some (n:Int))
 have k2:=fB (rs.map aX) (some ((n:Int)+1)) none
 have k3:=fB (rs.map aX) (some (n:Int)) none
 rw[List.length_map]at k1 k2 k3
 have m1:∀d∈cut (rs.map aX) none (some (n:Int)),aK d:=fun d hd=>rok d (uE hd)
 have m2:∀d∈cut (rs.map aX) (some ((n:Int)+1)) none,aK d:=fun d hd=>rok d (uE hd)
 have m3:∀d∈cut (rs.map aX) (some (n:Int)) none,aK d:=fun d hd=>rok d (uE hd)
 simp_arith[List.length_append]
 repeat refine ⟨by first |decide |have hsz:sz=1000000:=rfl;omega,?_⟩
 refine hM _ _ (seq fun M hM=>?_)
 have more:aK (.tup (cut (rs.map aX) none (some (n:Int))++[od]++cut (rs.map aX) (some ((n:Int)+1)) none)):=dJ (by simp;omega) fun d hd=>by
  rcases List.mem_append.mp hd with hd |hd
  ·rcases List.mem_append.mp hd with hd |hd
   ·exact m1 d hd
   ·rw[List.mem_singleton.mp hd];exact hod
  ·exact m2 d hd
 have more3:aK (.tup (cut (rs.map aX) none (some (n:Int))++[od]++cut (rs.map aX) (some (n:Int)) none)):=dJ (by simp;omega) fun d hd=>by
  rcases List.mem_append.mp hd with hd |hd
  ·rcases List.mem_append.mp hd with hd |hd
   ·exact m1 d hd
   ·rw[List.mem_singleton.mp hd];exact hod
  ·exact m3 d hd
 simp_arith[Int.toNat_natCast]
 refine ⟨⟨by omega,by omega⟩,uo (by decide),by decide,by decide,hM _ _ ?_⟩
 refine (fun tail=>tail _ rfl ?hws) (?htail:∀ws:List D,ws.length=10→(∀x∈ws,aK x)→aq Φ _ noE [some (.ref p),some (.tup [.int w,.tup (rs.map aX)]),some (.int w),some (.tup (rs.map aX)),some (.int n),some (.tup [.str f,.str g]),some od,some (.tup (cut (rs.map aX) none (some (n:Int))++[od]++cut (rs.map aX) (some ((n:Int)+1)) none)),some (.lst ws),none] G2 _)
 case hws=>
  intro x hx
  simp only[List.mem_cons,List.not_mem_nil,or_false]at hx
  rcases hx with rfl |rfl |rfl |rfl |rfl |rfl |rfl |rfl |rfl |rfl <;> first |exact iH |exact Gy |exact bN |exact iG (by simp) (fun d hd=>by rw[List.mem_singleton.mp hd];exact bN) |exact cA (by rw[Wh ⟨w,by omega⟩];decide)
 case htail=>
  intro ws hws1 hws2
  refine seq fun M hM=>?_
  simp_arith[h1,List.length_append]
  repeat refine ⟨by first |decide |have hsz:sz=1000000:=rfl;omega,?_⟩
  refine bu hp2 (by decide) (by decide) fun r4 G4 hr4 hp4 sb4=>?_
  simp_arith[ends]
  refine eE (by omega) (by rw[hws1];exact hr4) fun ww hww=>?_
  repeat refine ⟨by decide,?_⟩
  refine hM _ _ (seq fun M hM=>?_)
  simp_arith[show (12:Int).toNat=12 from rfl,show (13:Int).toNat=13 from rfl]
  repeat refine ⟨by first |decide |have hsz:sz=1000000:=rfl;omega |simp,?_⟩
  refine hM _ _ (last ?_)
  simp_arith[h1]
  repeat refine ⟨by decide,?_⟩
  refine bu hp4 (by decide) (by decide) fun r5 G5 hr5 hp5 sb5=>?_
  simp_arith[ends]
  refine eE (by omega) (by simpa using hr5) fun x hx=>⟨?_,hp5,sb1.trans (sb2.trans (sb4.trans sb5))⟩
  simp only[List.mem_cons,List.not_mem_nil,or_false,List.cons_append,List.nil_append]at hx
  have r12:∀m:Nat,m≤100→aK (.tup (reps [D.tup [.str f,.str g]] m)):=fun m hm=>dJ (by rw[len_reps];omega) fun d hd=>by rw[Wg hd];exact rowok
  rcases hx with rfl |rfl |rfl |rfl |rfl |rfl |rfl |rfl |rfl |rfl |rfl |rfl |rfl |rfl |rfl |rfl
  ·exact b8 bN more
  ·exact b8 bN more
  ·exact b8 bN more3
  ·exact b8 (hws2 _ hww) rokT
  ·exact b8 bN (iG (by rw[List.length_map];omega) rok)
  ·exact b8 bN (r12 12 (by decide))
  ·exact b8 bN (r12 13 (by decide))
  ·exact dJ (by simp) fun d hd=>by rw[List.mem_singleton.mp hd];exact bN
  ·exact dJ (by simp) fun d hd=>by
    simp only[List.mem_cons,List.not_mem_nil,or_false]at hd
    rcases hd with rfl |rfl |rfl
    ·exact bN
    ·exact rokT
    ·exact rokT
  ·exact iG (by simp) fun d hd=>by
    simp only[List.mem_cons,List.not_mem_nil,or_false]at hd
    rcases hd with rfl |rfl
    ·exact bN
    ·exact rokT
  ·exact b8 rokT bN
  ·exact rokT
  ·exact iH
  ·exact ⟨rfl,rfl⟩
  ·exact bN
  ·exact b8 bN iH
theorem Wj{w:Nat}{d:D}(h:aY (w:Int) d=true):∃r:Row,d=aX r∧okF w r.1∧okD r.2:=by
 unfold aY at h
 split at h
 ·rename_i a b
  rw[Bool.and_eq_true]at h
  obtain ⟨h1,h2⟩:=h
  unfold isText at h1
  unfold eN at h2
  split at h1
  ·rename_i f
   split at h2
   ·rename_i g
    rw[Bool.and_eq_true,decide_eq_true_iff,List.all_eq_true]at h1
    rw[Bool.and_eq_true,Bool.and_eq_true,decide_eq_true_iff,decide_eq_true_iff,List.all_eq_true]at h2
    refine ⟨(f,g),rfl,⟨by have:=h1.1;show f.length=w;omega,fun c hc=>?_⟩,h2.1.1,h2.1.2,fun c hc=>uA.mp (h2.2 c hc)⟩
    have:=h1.2 c hc
    show c=48∨c=49∨c=42
    simpa using this
   ·cases h2
  ·cases h1
 ·cases h
theorem Gz{w:Nat}:∀{l:List D},l.all (aY (w:Int))=true→∃rs:List Row,l=rs.map aX∧(∀r∈rs,okF w r.1)∧∀r∈rs,okD r.2
 |[],_=>⟨[],rfl,(fun _ h=>by cases h),fun _ h=>by cases h⟩
 |d::l,h=>by
  rw[List.all_cons,Bool.and_eq_true]at h
  obtain ⟨r,rfl,h1,h2⟩:=Wj h.1
  obtain ⟨rs,rfl,h3,h4⟩:=Gz h.2
  refine ⟨r::rs,rfl,fun x hx=>?_,fun x hx=>?_⟩
  ·rcases List.mem_cons.mp hx with rfl |hx
   ·exact h1
   ·exact h3 x hx
  ·rcases List.mem_cons.mp hx with rfl |hx
   ·exact h2
   ·exact h4 x hx
theorem Wk{x:D}(h:aZ x=true):∃w rs,x=bJ w rs∧okB w rs:=by
 unfold aZ at h
 split at h
 ·rename_i w rows
  rw[Bool.and_eq_true,Bool.and_eq_true,Bool.and_eq_true,decide_eq_true_iff,decide_eq_true_iff,decide_eq_true_iff]at h
  obtain ⟨⟨⟨h1,h2⟩,h3⟩,h4⟩:=h
  obtain ⟨n,rfl⟩:=Int.eq_ofNat_of_zero_le (show 0≤w by omega)
  obtain ⟨rs,rfl,h5,h6⟩:=Gz h4
  rw[List.length_map]at h3
  exact ⟨n,rs,rfl,by omega,by omega,h3,h5,h6⟩
 ·cases h
def pN:RF.Spec:=pq (A:=D) (fun x=>[x]) aK (fun _=>.bl true)
theorem pO{x:D}{G:DH}{k:D→DH→Prop}{E:EK}(h:aK x)(hk:k (.bl true) G):pN.t [x] G k E:=UV x rfl h hk
theorem Wl (Φ:aj) (h1:Φ "_law_is_book"=aN cz) (h2:Φ "need_book"=jC) (h3:Φ "is_book"=aN cz) (h4:Φ "_law_same"=cH 9) (x:D) (G:DH) (h:aK x):aq Φ uh noE (env0 [x] 3) G (ends fun d G'=>G'=G∧d=.bl true):=by
 have hf:cz [x]=some (.bl (aZ x)):=if_pos (by rw[h.1,h.2];rfl)
 simp_all_arith[uh]
 refine seq fun M hM=>?_
 simp_arith[h1]
 refine cj hf (hM _ _ (seq fun M hM=>?_))
 simp_arith[ends]
 refine hM _ _ (seq fun M hM=>?_)
 simp_arith[ends]
 refine hM _ _ (seq fun M hM=>?_)
 cases hb:aZ x with
 |true=>
  obtain ⟨w,rs,rfl,hok⟩:=Wk hb
  simp_arith[h2]
  refine VR hok (hM _ _ (last ?_))
  simp_arith[h3,h4]
  refine cj (by rw[←hb];exact hf) (Gb ?_)
  simp_arith[gK]
  try simp
 |false=>
  simp_arith[h2]
  refine VV ⟨h.1,h.2,hb⟩ ⟨rfl,by decide,by decide,hM _ _ (last ?_)⟩
  simp_arith[caught,h3,h4]
  refine cj (by rw[←hb];exact hf) (Gb ?_)
  simp_arith[gK]
  try simp
structure F08(Φ:aj):Prop where
 opn:Φ "_law_open"=ur
 anew:Φ "_law_anew"=pB
 book:Φ "_law_book"=pI
 isb:Φ "is_book"=aN cz
 right:Φ "_law_right"=pN
 odd:Φ "_law_odd_book"=pM
theorem Wm(Φ:aj)(F:F08 Φ)(ds:List D)(G:DH)(h:∃ns:List Int,ds=[.scr ns]∧ns.length≤63):aq Φ ul noE (env0 ds 4) G (ends fun d _=>d=.bl true):=by
 obtain ⟨ns,rfl,hl⟩:=h
 simp_all_arith[ul]
 refine seq fun M hM=>?_
 simp_arith[F.opn]
 refine bD ⟨ns,rfl,hl⟩ fun d' G1 hx=>?_
 obtain ⟨p,e1,_,hp,_⟩:=hx
 subst e1
 refine hM _ _ (seq fun M hM=>?_)
 simp_arith![ends]
 refine ⟨by decide,ForG.inv (P:=fun i ρ G'=>(∃o2 o3 o4,ρ=[some (.scr ns),some (.ref p),o2,o3,o4])∧Pen G' p) ⟨⟨_,_,_,rfl⟩,hp⟩ (fun _ _ _ _=>trivial) ?_ ?_⟩
 ·rintro i d ρ G2 hd ⟨⟨o2,o3,o4,rfl⟩,hp2⟩ kk hk
  unfold bK at hd
  rw[List.getElem?_map]at hd
  obtain ⟨j,hj,rfl⟩:=Option.map_eq_some_iff.mp hd
  have em:∃m:Nat,(m=6∨m=12)∧atI [D.int 6,D.int 12] ((0+(j:Int)) % 2)=some (.int (m:Int)):=by
   have:(0+(j:Int)) % 2=0∨(0+(j:Int)) % 2=1:=by omega
   rcases this with e |e
   ·exact ⟨6,.inl rfl,by rw[e];rfl⟩
   ·exact ⟨12,.inr rfl,by rw[e];rfl⟩
  obtain ⟨m,hm,em⟩:=em
  simp_arith![ends]
  refine seq fun M hM=>?_
  simp_arith[F.anew,F.book]
  refine V3 hp2 fun G3 hp3 _=>?_
  refine ⟨by decide,by decide,fD em ?_⟩
  refine Vv (w:=6) (m:=m) hp3 (by decide) (by decide) (by omega) fun w rs G4 hb hw hrs hp4 _=>?_
  have hth:aK (bJ w rs):=⟨Gq w rs,Gr hb⟩
  refine hM _ _ (seq fun M hM=>?_)
  simp_arith[F.isb,F.right]
  refine cj (d:=.bl true) (by rw[←Gp hb];exact if_pos (by rw[hth.1,hth.2];rfl)) ?_
  simp_arith[ends]
  refine pO hth ?_
  simp_arith[ends]
  refine hM _ _ (last ?_)
  simp_arith![ends]
  refine ⟨by decide,ForG.inv (P:=fun i ρ G'=>(∃o4,ρ=[some (.scr ns),some (.ref p),some (.int (0+(j:Int))),some (bJ w rs),o4])∧Pen G' p) ⟨⟨_,rfl⟩,hp4⟩ (fun _ _ _ _=>trivial) ?_ ?_⟩
  ·rintro i4 d4 ρ G5 hd4 ⟨⟨o4,rfl⟩,hp5⟩ kk4 hk4
   simp_arith![ends]
   refine last ?_
   simp_arith[F.odd,F.right]
   refine We hp5 hb fun x G6 hx hp6 _=>?_
   refine pO hx ?_
   simp_arith[ends]
   exact hk4 _ _ ⟨⟨_,rfl⟩,hp6⟩
  ·rintro ρ G5 ⟨⟨o4,rfl⟩,hp5⟩
   exact hk _ _ ⟨⟨_,_,_,rfl⟩,hp5⟩
 ·rintro ρ G2 ⟨⟨o2,o3,o4,rfl⟩,hp2⟩
  refine hM _ _ (last ?_)
  simp_arith[F.right]
  refine ⟨by decide,pO ⟨rfl,rfl⟩ ?_⟩
  simp_arith[ends]
  repeat refine ⟨by decide,?_⟩
  refine pO ⟨rfl,rfl⟩ ?_
  simp_arith[ends]
end RF
namespace HD
open PySem PySem.W
def sv(x:Str)(t:Nat):Value:=.str x t
def ri(n:Nat):Value:=.int n 0
def fJ (l:List Value):Obj:=⟨.type "tuple",none,.seq ⟨l⟩ 0,⟨[]⟩⟩
def dM(c:Value)(l:List Value):Obj:=⟨c,none,.fields ⟨l⟩,⟨[]⟩⟩
def jD:Str:="/claim/cut.py"
def uF(n q:Str)(ln ac fl a b:Nat)(isf:Bool)(l1 l2 tm:Value)(t t2:Nat):Obj:=
 dM (.type "code") [sv n t,sv q (t+1),sv jD (t+2),ri ln,ri ac,ri 0,ri 0,ri fl,.ref a,.bool isf,ri 181,.ref b,.none,l1,l2,tm,ri t2,ri ln,sv jD (t2+1)]
def toks(t:Nat):List Str→List Value
 |[]=>[]
 |x::r=>sv x t::toks (t+1) r
def fdO(n q:Str)(p:Arguments)(b:List Stmt)(sc:Scope)(g:Nat)(md cd:Value):Data:=
 .func { name:=n,qualname:=q,params:=p,body:=.stmts b,scope:=sc,globals:=g,closure:=[],defaults:=.none,kwdefaults:=.none,pyModule:=md,code:=cd }
def enO(P:Params)(k:Str)(t:Nat)(v:Value):DictEntry:={ hash:=PyData.keyHash P k,key:=sv k t,val:=v }
def jE (l:List DictEntry) (e:Nat):Obj:=⟨.type "dict",none,.dict ⟨l⟩ e,⟨[]⟩⟩
def frO (c l:Nat) (md:Value):Obj:=⟨.type "frame",none,.plain,⟨[some (.ref c),some (.ref 3),some (.ref l),none,some md,none,some (.ref 0)]⟩⟩
def bfO (s:String) (v:Value):Obj:=dM (.type "builtin_function_or_method") [.builtin s,v]
def veM:List Value:=[.type "ValueError",.type "Exception",.type "BaseException",.type "object"]
def pP (b:Expr):Bool:=match b with |.Name n _=>n==("ValueError":Str) |_=>false
def fnO(q:Str)(a t:Nat)(md:Value)(n:Str)(p:Arguments)(b:List Stmt)(sc:Scope)(ln:Nat):List Obj:=match localNames p sc (.stmts b) with
 |some l=>[fJ [],dM .none [],fJ (toks (t+3) l.1),fJ [],⟨.none,none,fdO n q p b sc 0 .none .none,⟨[]⟩⟩,
   uF n q ln p.args.length 3 a (a+1) true (.ref (a+2)) (.ref (a+3)) (.ref (a+4)) t (t+3+l.1.length),⟨.type "function",none,fdO n q p b sc 3 md (.ref (a+5)),⟨[]⟩⟩]
 |none=>[fJ [],dM .none [],⟨.none,none,fdO n q p b sc 0 .none .none,⟨[]⟩⟩,
   uF n q ln p.args.length 3 a (a+1) true .none .none (.ref (a+2)) t (t+3),⟨.type "function",none,fdO n q p b sc 3 md (.ref (a+3)),⟨[]⟩⟩]
def fnA(p:Arguments)(b:List Stmt)(sc:Scope):Nat:=match localNames p sc (.stmts b) with |some _=>7 |none=>5
def fnT(p:Arguments)(b:List Stmt)(sc:Scope):Nat:=match localNames p sc (.stmts b) with |some l=>l.1.length+5 |none=>5
def dot:Str:="."
structure MO where
 os:List Obj
 es:List DictEntry
 cs:List Value
 a:Nat
 t:Nat
def pQ(P:Params)(c:Str)(md:Value):List Stmt→Nat→Nat→MO
 |.FunctionDef n p b _ _ _ sc _ _ pos::r,a,t=>
  let m:=pQ P c md r (a+fnA p b sc) (t+fnT p b sc+1)
  ⟨fnO (c++dot++n) a t md n p b sc pos.line++m.os,enO P n (t+fnT p b sc) (.ref (a+fnA p b sc - 1))::m.es,ri pos.line::ri pos.col::.ref (a+fnA p b sc - 2)::m.cs,m.a,m.t⟩
 |_::r,a,t=>pQ P c md r a t
 |[],a,t=>⟨[],[],[],a,t⟩
def clA(P:Params)(a:Nat)(b:List Stmt):Nat:=(pQ P dot .none b (a+7) 0).a+2
def stO(P:Params)(r:Nat)(sub:List Value)(a t:Nat)(md:Value)(s:Stmt):List Obj:=match s with
 |.FunctionDef n p b _ _ _ sc _ _ pos=>fnO n a t md n p b sc pos.line
 |.ClassDef n bs _ body _ _ _ _ _ st pos=>
  let m:=pQ P n md body (a+7) (t+12)
  let c:=m.a+2
  let u:=m.t+st.length
  let d1:=[enO P "__module__" (t+7) md]
  let d2:=enO P "__firstlineno__" (t+11) (.int pos.line (t+10))::m.es++[enO P "__static_attributes__" u (.ref m.a)]
  let b:List Value:=match bs with |b::_=>(match pP b with |true=>[.type "ValueError"] |false=>[.ref r]) |[]=>[]
  let own:Bool:=match bs with |[]=>true |_=>false
  let ve:Bool:=match bs with |b::_=>pP b |[]=>false
  let wr (v:Nat):Obj:=dM (.type "getset_descriptor") [sv "__weakref__" v,.ref c,.builtin "ExceptionGroup.__weakref__",.none]
  let typ (mro:List Value) (sub:List Value) (nw:String):Obj:=
   ⟨.type "type",none,.cls { name:=n,bases:=(match own with |true=>[.type "object"] |false=>b),mro:=.ref c::mro,ns:=m.a+1,qualname:=n,subclasses:=sub },
    ⟨[(match own with |true=>none |false=>some (.ref a)),none,some (sv n t),some (sv n (t+8)),some (.builtin nw),some (.bool true)]⟩⟩
  [fJ b,bfO "type.__prepare__" (.type "type"),jE (d1++enO P "__qualname__" (t+9) (sv n (t+8))::d2) (4+m.es.length),fJ [],dM .none m.cs,
   uF n n pos.line 0 0 (a+3) (a+4) false .none .none .none (t+2) (t+5),frO (a+5) (a+2) md]++m.os++[fJ (toks m.t st)] ++
  (match own with
  |true=>[jE (d1++d2++[enO P "__dict__" (u+2) (.ref (c+1)),enO P "__weakref__" (u+4) (.ref (c+2)),enO P "__doc__" (u+5) .none]) 4,typ [.type "object"] [] "object.__new__",
    dM (.type "getset_descriptor") [sv "__dict__" (u+1),.ref c,.builtin "function.__dict__",.builtin "function.__dict__#set"],wr (u+3)]
  |false=>(match ve with
   |true=>[jE (d1++d2++[enO P "__weakref__" (u+2) (.ref (c+1)),enO P "__doc__" (u+3) .none]) 3,typ veM sub "ValueError.__new__",wr (u+1)]
   |false=>[jE (d1++d2++[enO P "__doc__" (u+1) .none]) 2,typ (.ref r::veM) [] "ValueError.__new__"])) ++
  [dM (.type "super") [.ref c,.ref c,.ref c],bfO "object.__init_subclass__" (.ref c)]
 |_=>[]
def mdO(t:Nat)(md:Value)(s:Stmt):Value:=match s with
 |.Assign [.Name n _] (.Constant (.str x) _ _) _=>(match n==("__name__":Str) with |true=>sv x t |false=>md)
 |_=>md
def enS(P:Params)(t u a a':Nat)(s:Stmt):List DictEntry:=match s with
 |.FunctionDef n _ _ _ _ _ _ _ _ _=>[enO P n (u-1) (.ref (a'-1))]
 |.ClassDef n _ _ b _ _ _ _ _ _ _=>[enO P n (u-1) (.ref (clA P a b))]
 |.Assign [.Name n _] (.Constant c _ _) _=>(match n==("__name__":Str) with
  |true=>[]
  |false=>[enO P n (t+1) (match c with |.int i=>.int i t |.str x=>sv x t |_=>.none)])
 |_=>[]
def cdS(a a':Nat)(s:Stmt):List Value:=match s with
 |.FunctionDef _ _ _ _ _ _ _ _ _ pos=>[ri pos.line,ri pos.col,.ref (a'-2)]
 |.ClassDef _ _ _ _ _ _ _ _ _ _ pos=>[ri pos.line,ri pos.col,.ref (a+5)]
 |_=>[]
def sbS(P:Params)(a:Nat)(s:Stmt):List Value:=match s with
 |.ClassDef _ bs _ b0 _ _ _ _ _ _ _=>(match bs with |b::_=>(match pP b with |true=>[] |false=>[.ref (clA P a b0)]) |[]=>[])
 |_=>[]
def Wn(P:Params)(a:Nat)(s:Stmt):List Nat:=match s with
 |.ClassDef _ bs _ b0 _ _ _ _ _ _ _=>(match bs with |b::_=>(match pP b with |true=>[clA P a b0] |false=>[]) |[]=>[])
 |_=>[]
def fold{α:Type}(f:Nat→Nat→Nat→Nat→Value→Stmt→List α):List (Nat×Nat)→Value→List Stmt→List α
 | (a,t)::(a',u)::r,md,s::ss=>f a a' t u md s++fold f ((a',u)::r) (mdO t md s) ss
 |_,_,_=>[]
def GC:List (Nat×Nat)→Value→List Stmt→Value
 | (_,t)::r,md,s::ss=>GC r (mdO t md s) ss
 |_,md,_=>md
def gq:Value:=sv "__main__" 164
def Wo(P:Params)(v:Value):List DictEntry:=
 [enO P "__name__" 165 v,enO P "__doc__" 166 .none,enO P "__package__" 167 .none,enO P "__loader__" 168 (.builtin "__main__.__loader__#opaque"),enO P "__spec__" 169 .none,
  enO P "__annotations__" 170 (.ref 6),enO P "__builtins__" 171 (.ref 4),enO P "__file__" 173 (sv jD 172),enO P "__cached__" 174 .none]
def ents(N:List (Nat×Nat))(b:List Stmt)(P:Params):List DictEntry:=Wo P (GC N gq b)++fold (fun a a' t u _ s=>enS P t u a a' s) N gq b
def put{α:Type}:Nat→α→List α→List α
 |_,_,[]=>[]
 |0,x,_::r=>x::r
 |n+1,x,y::r=>y::put n x r
def GD(cs:List Value):List Obj:=[fJ [],dM .none cs,
 dM (.type "code") [sv "<module>" 182,sv "<module>" 183,sv jD 184,ri 1,ri 0,ri 0,ri 0,ri 0,.ref 11,.bool false,ri 181,.ref 12,.none,.none,.none,.none,ri 185,ri 1,sv jD 186],frO 13 3 gq]
def Wq(B:List Obj):List Obj:=B++GD []
def objs(B:List Obj)(N:List (Nat×Nat))(b:List Stmt)(P:Params):List Obj:=
 let es:=ents N b P
 put 3 (jE es es.length) (B++GD (fold (fun a a' _ _ _ s=>cdS a a' s) N gq b) ++
  fold (fun a _ t _ md s=>stO P ((fold (fun a _ _ _ _ s=>Wn P a s) N gq b).headD 0) (fold (fun a _ _ _ _ s=>sbS P a s) N gq b) a t md s) N gq b)
def evs{α:Type}:List α→List α
 |[]=>[]
 |[x]=>[x]
 |x::_::r=>x::evs r
def bt:Nat→List Obj→BT
 |0,_=>.nil
 |_,[]=>.nil
 |n+1,x::r=>.node x (bt n (evs r)) (bt n (evs r.tail))
def nameless(s:Stmt):Bool:=match s with
 |.Assign [.Name n _] _ _=>!(n==("__name__":Str))
 |_=>true
def pick:Nat→List Nat→List Obj→Frag
 |i,a::r,o::os=>(match Nat.beq a i with |true=>(a,o)::pick (i+1) r os |false=>pick (i+1) (a::r) os)
 |_,_,_=>[]
end HD
def PySem.W.Fast.tw1311747632405403336:PySem.Program:=PySem.Challenge.pw_starsieve_k08_what_is_a_book
theorem PySem.W.Fast.te1311747632405403336:PySem.Challenge.pw_starsieve_k08_what_is_a_book=PySem.W.Fast.tw1311747632405403336:=rfl
namespace HK
open PySem PySem.W PySem.W.Fast
def pw:Program:=PySem.Challenge.pw_starsieve_k08_what_is_a_book
def rl:OpenLaw:=PySem.Challenge.rw_starsieve_k08_what_is_a_book
def NN:List (Nat×Nat):=[(15,187),(15,189),(28,207),(40,223),(40,225),(40,227),(47,234),(54,241),(59,247),(66,255),(66,257),(66,259),(66,261),(66,263),(71,269),(78,277),(83,283),(90,290),(90,292),(95,298),(102,305),(109,314),(116,325),(123,335),(130,342),(137,353),(142,359),(149,367),(156,377),(163,387),(170,399),(175,405),(182,419),(189,426),(194,432),(199,438),(204,444),(211,457),(218,473),(225,483),(232,494)]
def L1(P:Params):List Obj:=HD.objs (boot_heap P).objs.toList NN pw.main.body P
def H1(P:Params):Heap:=⟨⟨L1 P⟩,{}⟩
def T1(P:Params):BT:=HD.bt 12 (L1 P)
def LA(P:Params):List Obj:=HD.Wq (boot_heap P).objs.toList
def HA(P:Params):Heap:=⟨⟨LA P⟩,{}⟩
def T0(P:Params):BT:=HD.bt 5 (LA P)
def env:Env:={ scope:=pw.main.scope,locals:=mainNs,globals:=mainNs,cells:=[],code:=.ref 13,frame:=some 14 }
def bE:List Stmt:=behindTheImports pw
def cE:Code:=.body bE env
def p0:Pos:=⟨0,0,0,0⟩
def B:List Frame:=[topFrame p0]
def ann:Option Value:=some (.ref 6)
def qv:Program:={ pw with main:={ pw.main with body:=pw.main.body.filter HD.nameless } }
def as:List Nat:=[3,23,24,36,37,45,46,52,53,57,58,64,65,69,70,76,77,81,82,88,89,93,94,100,101,107,108,114,115,121,122,128,129,135,136,140,141,147,148,154,155,161,162,168,169,173,174,180,181,187,188,192,193,197,198,202,203,209,210,216,217,223,224,230,231]
def K(P:Params):Frag:=HD.pick 0 as (L1 P)
def Xt(s:Shared):Bool:=xlAt qv [] s&&recOk (RowW.records rl.row.toRowW) s
def see{α:Type}(_:α):Bool:=true
theorem primed:(see T1&&see T0&&see H1&&see HA&&see cE&&see B&&see env&&see bE&&see qv&&see K&&see Xt)=true:=by k_qdec
theorem pre(w:World)(os:OsState):topGo treeTable pw w 11 ann 12 ⟨boot_heap w.params,⟨[]⟩,boot_drawn,boot_toks,os⟩ (topStub pw)=some (⟨HA w.params,⟨[]⟩,{},187,os⟩,⟨denote treeTable cE,cE,p0,B⟩):=by
 have _:=primed
 rw[PySem.W.Fast.te15667345088766844465,PySem.W.Fast.te14364793385576792824,PySem.W.Fast.te1032975242618825031,PySem.W.Fast.te8093259214132618727,PySem.W.Fast.te1718297227530528222,PySem.W.Fast.te11892475500146522536]
 kernel_rfl
theorem block(w:World)(os:OsState):segRun treeTable pw w 11 ann 1 2 ⟨HA w.params,⟨[]⟩,{},187,os⟩ (blockOf bE env cE p0 B)=some (.next,SharedT.abs ⟨T0 w.params,15,{},⟨[]⟩,{},187,os⟩,cE,p0):=by
 rw[PySem.W.Fast.te14374325043358763698,PySem.W.Fast.te14364793385576792824,PySem.W.Fast.te1032975242618825031,PySem.W.Fast.te8093259214132618727,PySem.W.Fast.te1718297227530528222,PySem.W.Fast.te14938417808399470215,PySem.W.Fast.te16330338443398637341,PySem.W.Fast.te10239294469119128424]
 kernel_rfl
theorem piece(w:World)(os:OsState):segRunT treeTable pw w 11 ann 1 9000 ⟨T0 w.params,15,{},⟨[]⟩,{},187,os⟩ (piecesOf bE env cE p0 B)=some (.next,⟨T1 w.params,232,{},⟨[]⟩,{},494,os⟩,cE,⟨180,0,189,69⟩):=by
 rw[PySem.W.Fast.te10110043849684766642,PySem.W.Fast.te14364793385576792824,PySem.W.Fast.te1032975242618825031,PySem.W.Fast.te13069687644243786066,PySem.W.Fast.te14938417808399470215,PySem.W.Fast.te1718297227530528222,PySem.W.Fast.te16330338443398637341,PySem.W.Fast.te10239294469119128424]
 kernel_rfl
theorem fin(w:World)(os:OsState):topRun treeTable pw w 11 ann 3 (SharedT.abs ⟨T1 w.params,232,{},⟨[]⟩,{},494,os⟩) ⟨doneF .next,cE,⟨180,0,189,69⟩,B⟩=some ⟨H1 w.params,⟨[]⟩,{},494,os⟩:=by
 rw[PySem.W.Fast.te14082659384304107361,PySem.W.Fast.te14364793385576792824,PySem.W.Fast.te1032975242618825031,PySem.W.Fast.te13069687644243786066,PySem.W.Fast.te1718297227530528222,PySem.W.Fast.te14158929756966004236]
 kernel_rfl
theorem run(w:World)(os:OsState):topRun treeTable pw w 11 ann (12+(2+(9000+3))) ⟨boot_heap w.params,⟨[]⟩,boot_drawn,boot_toks,os⟩ (topStub pw)=some ⟨H1 w.params,⟨[]⟩,{},494,os⟩:=by
 refine go_top (pre w os) (piece_block (block w os) ?_)
 have h:=piece_app (rest:=[]) (segRun_of (piece w os)) (piece_nil (fin w os))
 rw[List.append_nil]at h
 exact h
theorem size (w:World):((boot_heap w.params).isNs mainGlobals&&(Array.mk []:Array GenState).size==0,(boot_heap w.params).objs.size,(boot_heap w.params).nsMap mainGlobals "__annotations__")=(true,11,ann):=by kernel_rfl
theorem Wr(w:World)(os:OsState):(staticsOk (importedModules pw.main.body) (boot_heap w.params) (H1 w.params)&&namesBound pw (H1 w.params)&&gensDone ⟨H1 w.params,⟨[]⟩,{},494,os⟩&&laidKept (boot_heap w.params) (H1 w.params))=true:=by
 rw[PySem.W.Fast.te1032975242618825031,PySem.W.Fast.te14158929756966004236,PySem.W.Fast.te5923862056798008813]
 kernel_rfl
theorem Ws(w:World)(os:OsState):openSeen qv [] (importedModules pw.main.body) Xt true ⟨H1 w.params,⟨[]⟩,{},494,os⟩=openGood qv []:=by
 rw[PySem.W.Fast.te1032975242618825031,PySem.W.Fast.te14158929756966004236,PySem.W.Fast.te5923862056798008813,PySem.W.Fast.te3994408356199485718,PySem.W.Fast.te3154452736318265832,PySem.W.Fast.te4187177175401517315]
 kernel_rfl
theorem Wt(w:World):as.map (H1 w.params).get?=(K w.params).map (fun p=>some p.2):=by
 rw[PySem.W.Fast.te14158929756966004236,PySem.W.Fast.te538113369711794958]
 kernel_rfl
theorem eAs(P:Params):as=(K P).map (·.1):=by
 rw[PySem.W.Fast.te538113369711794958]
 kernel_rfl
def hook:Hook:=kHook K as eAs
theorem left:LeftO pw qv [] Xt hook.obs hook.val 12000:=by
 refine LeftO.of_pieces (boot_open (by kernel_rfl) (by decide) (fun s=>by kernel_rfl)) size run (by decide) fun w=>funext fun os=>?_
 exact Prod.ext (Wr w os) (Prod.ext (Ws w os) (Wt w))
end HK
namespace Lk08
open PySem PySem.Spec PyProof.Rows L2 RF
open PySem.W (mg_of mg_none_of)
def Φ:aj:=fun f=>if f="is_whole" then aN dH else if f="is_width" then aN ju else if f="is_text_of" then aN fText else if f="is_form" then aN jw else if f="is_deed" then aN jB else if f="is_row" then aN dI else if f="is_book" then aN cz else if f="need_book" then jC else if f="_law_spread" then pA else if f="_law_take" then cu else if f="_law_sign_but" then uB else if f="_law_any_sign" then uC else if f="_law_signed" then pK else if f="_law_open" then ur else if f="_law_anew" then pB else if f="_law_signs" then jr else if f="_law_form" then uq else if f="_law_within" then gn else if f="_law_wider" then gn else if f="_law_form_like" then pG else if f="_law_deeds_of" then pH else if f="_law_book" then pI else if f="_law_is_whole" then aN dH else if f="_law_same" then cH 9 else if f="_law_is_row" then aN dI else if f="_law_is_book" then aN cz else if f="_law_odd_row" then pL else if f="_law_odd_book" then pM else if f="_law_right" then pN else if f="law" then jt else bf (fun _ _=>False) (fun _ _ _ _=>False)
theorem GF:Φ "is_whole"=aN dH:=by kernel_rfl
theorem GJ:Φ "is_width"=aN ju:=by kernel_rfl
theorem GK:Φ "is_text_of"=aN fText:=by kernel_rfl
theorem GP:Φ "is_form"=aN jw:=by kernel_rfl
theorem GQ:Φ "is_deed"=aN jB:=by kernel_rfl
theorem GR:Φ "is_row"=aN dI:=by kernel_rfl
theorem jF:Φ "is_book"=aN cz:=by kernel_rfl
theorem GX:Φ "need_book"=jC:=by kernel_rfl
theorem GZ:Φ "_law_spread"=pA:=by kernel_rfl
theorem cR:Φ "_law_take"=cu:=by kernel_rfl
theorem G8:Φ "_law_sign_but"=uB:=by kernel_rfl
theorem Ha:Φ "_law_any_sign"=uC:=by kernel_rfl
theorem Hb:Φ "_law_signed"=pK:=by kernel_rfl
theorem Hc:Φ "_law_open"=ur:=by kernel_rfl
theorem Hf:Φ "_law_anew"=pB:=by kernel_rfl
theorem uG:Φ "_law_signs"=jr:=by kernel_rfl
theorem Hg:Φ "_law_form"=uq:=by kernel_rfl
theorem Hh:Φ "_law_within"=gn:=by kernel_rfl
theorem Hi:Φ "_law_wider"=gn:=by kernel_rfl
theorem Hj:Φ "_law_form_like"=pG:=by kernel_rfl
theorem Hk:Φ "_law_deeds_of"=pH:=by kernel_rfl
theorem Hl:Φ "_law_book"=pI:=by kernel_rfl
theorem Hm:Φ "_law_is_whole"=aN dH:=by kernel_rfl
theorem Hn:Φ "_law_same"=cH 9:=by kernel_rfl
theorem Ho:Φ "_law_is_row"=aN dI:=by kernel_rfl
theorem Hq:Φ "_law_is_book"=aN cz:=by kernel_rfl
theorem Hr:Φ "_law_odd_row"=pL:=by kernel_rfl
theorem Hs:Φ "_law_odd_book"=pM:=by kernel_rfl
theorem Ht:Φ "_law_right"=pN:=by kernel_rfl
def bt:List String:=["all","bool","enumerate","int","isinstance","len","list","range","str","tuple","zip"]
def cn:List (String×D):=[("LETTERS",(.str [97,98,99,100,101,102,103,104,105,106,107,108,109,110,111,112,113,114,115,116,117,118,119,120,121,122])),("LONGEST_DEED",(.int 8)),("MOST_ROWS",(.int 12)),("WIDEST",(.int 6))]
def xs:List (String×Bool):=[("NoBook",true),("NoBook",false)]
def f0:List (String×Nat):=[]
def f1:=("is_whole",1)::f0
def f2:=("is_width",1)::f1
def f3:=("is_text_of",3)::f2
def f4:=("is_form",2)::f3
def f5:=("is_deed",1)::f4
def f6:=("is_row",2)::f5
def f7:=("is_book",1)::f6
def f8:=("need_book",1)::f7
def f9:=("_law_spread",2)::f8
def f10:=("_law_take",2)::f9
def f11:=("_law_sign_but",2)::f10
def f12:=("_law_any_sign",1)::f11
def f13:=("_law_signed",2)::f12
def f14:=("_law_open",1)::f13
def f15:=("_law_anew",1)::f14
def f16:=("_law_signs",3)::f15
def f17:=("_law_form",2)::f16
def f18:=("_law_within",2)::f17
def f19:=("_law_wider",2)::f18
def f20:=("_law_form_like",3)::f19
def f21:=("_law_deeds_of",2)::f20
def f22:=("_law_book",3)::f21
def f23:=("_law_is_whole",1)::f22
def f24:=("_law_same",2)::f23
def f25:=("_law_is_row",2)::f24
def f26:=("_law_is_book",1)::f25
def f27:=("_law_odd_row",2)::f26
def f28:=("_law_odd_book",2)::f27
def f29:=("_law_right",1)::f28
def S(i:Nat):Stmt:=HK.pw.main.body.getD i (.Pass ⟨0,0,0,0⟩)
def jG:Stmt:=S 5
theorem Wu:fnB ["thing"] ["thing"] (au jG)=true:=by decide +kernel
theorem Wv:aD (aJ ["thing"] (au jG) f0 bt cn xs) jm (aG jG)=true:=by decide +kernel
def jH:Stmt:=S 6
theorem Ww:fnB ["thing"] ["thing"] (au jH)=true:=by decide +kernel
theorem Wx:aD (aJ ["thing"] (au jH) f1 bt cn xs) jo (aG jH)=true:=by decide +kernel
def jJ:Stmt:=S 7
theorem Wy:fnB ["signs","width","thing"] ["signs","width","thing"] (au jJ)=true:=by decide +kernel
theorem Wz:aD (aJ ["signs","width","thing"] (au jJ) f2 bt cn xs) iB (aG jJ)=true:=by decide +kernel
def jK:Stmt:=S 8
theorem WD:fnB ["width","thing"] ["width","thing"] (au jK)=true:=by decide +kernel
theorem WF:aD (aJ ["width","thing"] (au jK) f3 bt cn xs) jq (aG jK)=true:=by decide +kernel
def jL:Stmt:=S 13
theorem WK:fnB ["thing"] ["thing"] (au jL)=true:=by decide +kernel
theorem WL:aD (aJ ["thing"] (au jL) f4 bt cn xs) iC (aG jL)=true:=by decide +kernel
def jM:Stmt:=S 14
theorem WM:fnB ["width","thing"] ["width","thing"] (au jM)=true:=by decide +kernel
theorem WN:aD (aJ ["width","thing"] (au jM) f5 bt cn xs) eF (aG jM)=true:=by decide +kernel
def jN:Stmt:=S 15
theorem WP:fnB ["thing","width","rows"] ["thing"] (au jN)=true:=by decide +kernel
theorem WQ:aD (aJ ["thing","width","rows"] (au jN) f6 bt cn xs) eG (aG jN)=true:=by decide +kernel
def jO:Stmt:=S 16
theorem WR:fnB ["book"] ["book"] (au jO)=true:=by decide +kernel
theorem WT:aD (aJ ["book"] (au jO) f7 bt cn xs) gj (aG jO)=true:=by decide +kernel
def jP:Stmt:=S 21
theorem WW:fnB ["cell","at","one","two","three"] ["cell","at"] (au jP)=true:=by decide +kernel
theorem WX:aD (aJ ["cell","at","one","two","three"] (au jP) f8 bt cn xs) tH (aG jP)=true:=by decide +kernel
def jQ:Stmt:=S 24
theorem WY:fnB ["pen","many","at","cell","found"] ["pen","many"] (au jQ)=true:=by decide +kernel
theorem W0:aD (aJ ["pen","many","at","cell","found"] (au jQ) f9 bt cn xs) tM (aG jQ)=true:=by decide +kernel
def jR:Stmt:=S 18
theorem W2:fnB ["pen","others","all_signs","some"] ["pen","others"] (au jR)=true:=by decide +kernel
theorem W3:aD (aJ ["pen","others","all_signs","some"] (au jR) f10 bt cn xs) tO (aG jR)=true:=by decide +kernel
def jT:Stmt:=S 19
theorem W4:fnB ["pen"] ["pen"] (au jT)=true:=by decide +kernel
theorem W5:aD (aJ ["pen"] (au jT) f11 bt cn xs) tQ (aG jT)=true:=by decide +kernel
def jU:Stmt:=S 20
theorem W6:fnB ["pen","text","at"] ["pen","text"] (au jU)=true:=by decide +kernel
theorem W7:aD (aJ ["pen","text","at"] (au jU) f12 bt cn xs) tR (aG jU)=true:=by decide +kernel
def jV:Stmt:=S 22
theorem W8:fnB ["script","cells","k","cell"] ["script"] (au jV)=true:=by decide +kernel
theorem W9:aD (aJ ["script","cells","k","cell"] (au jV) f13 bt cn xs) tU (aG jV)=true:=by decide +kernel
def jW:Stmt:=S 23
theorem Xa:fnB ["pen"] ["pen"] (au jW)=true:=by decide +kernel
theorem Xb:aD (aJ ["pen"] (au jW) f14 bt cn xs) tV (aG jW)=true:=by decide +kernel
def jX:Stmt:=S 25
theorem Xc:fnB ["pen","width","signs"] ["pen","width","signs"] (au jX)=true:=by decide +kernel
theorem Xd:aD (aJ ["pen","width","signs"] (au jX) f15 bt cn xs) tW (aG jX)=true:=by decide +kernel
def jY:Stmt:=S 26
theorem Xe:fnB ["pen","width"] ["pen","width"] (au jY)=true:=by decide +kernel
theorem Xf:aD (aJ ["pen","width"] (au jY) f16 bt cn xs) tX (aG jY)=true:=by decide +kernel
def jZ:Stmt:=S 27
theorem Xg:fnB ["pen","form","found","sign"] ["pen","form"] (au jZ)=true:=by decide +kernel
theorem Xh:aD (aJ ["pen","form","found","sign"] (au jZ) f17 bt cn xs) tY (aG jZ)=true:=by decide +kernel
def j0:Stmt:=S 28
theorem Xi:fnB ["pen","form","found","sign"] ["pen","form"] (au j0)=true:=by decide +kernel
theorem Xj:aD (aJ ["pen","form","found","sign"] (au j0) f18 bt cn xs) tZ (aG j0)=true:=by decide +kernel
def j4:Stmt:=S 29
theorem Xk:fnB ["pen","width","forms","kind","form","at"] ["pen","width","forms"] (au j4)=true:=by decide +kernel
theorem Xl:aD (aJ ["pen","width","forms","kind","form","at"] (au j4) f19 bt cn xs) uc (aG j4)=true:=by decide +kernel
def j5:Stmt:=S 30
theorem Xm:fnB ["pen","most","some","turn","found","letters"] ["pen","most"] (au j5)=true:=by decide +kernel
theorem Xo:aD (aJ ["pen","most","some","turn","found","letters"] (au j5) f20 bt cn xs) ud (aG j5)=true:=by decide +kernel
def j6:Stmt:=S 31
theorem Xp:fnB ["pen","widest","most","width","deeds","forms","rows","k"] ["pen","widest","most"] (au j6)=true:=by decide +kernel
theorem Xq:aD (aJ ["pen","widest","most","width","deeds","forms","rows","k"] (au j6) f21 bt cn xs) ue (aG j6)=true:=by decide +kernel
def j7:Stmt:=S 32
theorem Xr:fnB ["thing"] ["thing"] (au j7)=true:=by decide +kernel
theorem Xu:aD (aJ ["thing"] (au j7) f22 bt cn xs) FJ (aG j7)=true:=by decide +kernel
def j8:Stmt:=S 33
theorem Xv:fnB ["found","due"] ["found","due"] (au j8)=true:=by decide +kernel
theorem Xw:aD (aJ ["found","due"] (au j8) f24 bt cn xs) di (aG j8)=true:=by decide +kernel
def j9:Stmt:=S 34
theorem Xx:fnB ["width","row"] ["width","row"] (au j9)=true:=by decide +kernel
theorem Xy:aD (aJ ["width","row"] (au j9) f24 bt cn xs) eH (aG j9)=true:=by decide +kernel
def kh:Stmt:=S 35
theorem Xz:fnB ["thing"] ["thing"] (au kh)=true:=by decide +kernel
theorem XC:aD (aJ ["thing"] (au kh) f25 bt cn xs) fH (aG kh)=true:=by decide +kernel
def kj:Stmt:=S 36
theorem XD:fnB ["pen","row","form","one","deeds","forms","some"] ["pen","row"] (au kj)=true:=by decide +kernel
theorem XF:aD (aJ ["pen","row","form","one","deeds","forms","some"] (au kj) f26 bt cn xs) uf (aG kj)=true:=by decide +kernel
def km:Stmt:=S 37
theorem XH:fnB ["pen","book","width","rows","at","row","odd","more","widths","some"] ["pen","book"] (au km)=true:=by decide +kernel
theorem XJ:aD (aJ ["pen","book","width","rows","at","row","odd","more","widths","some"] (au km) f27 bt cn xs) ug (aG km)=true:=by decide +kernel
def kE:Stmt:=S 38
theorem XM:fnB ["thing","due","refused","told"] ["thing"] (au kE)=true:=by decide +kernel
theorem XN:aD (aJ ["thing","due","refused","told"] (au kE) f28 bt cn xs) uh (aG kE)=true:=by decide +kernel
def kI:Stmt:=S 39
theorem XQ:fnB ["script","pen","turn","book","k"] ["script"] (au kI)=true:=by decide +kernel
theorem XS:aD (aJ ["script","pen","turn","book","k"] (au kI) f29 bt cn xs) ul (aG kI)=true:=by decide +kernel
def fdM(n:Str)(st:Stmt)(m:Str)(t c:Nat):FuncData:=PySem.W.fnOf n n (iM st) (aG st) (au st) .none .none .none (.str m t) none (.ref c) .none
theorem mkF {K:PySem.W.Frag} {n m:Str} {st:Stmt} {a t c:Nat} (l:K.lookup a=some ⟨.type "function",none,.func (fdM n st m t c),⟨[]⟩⟩) (h1:PySem.W.codeIn K (.ref c) n=true) (h2:PySem.W.keepIn K (.ref a)=true):Fun K n n st a (fdM n st m t c):=NQ l h1 h2
theorem tK:type_of% @PySem.W.Fast.te538113369711794958:=PySem.W.Fast.te538113369711794958
section
variable {P:Params}
def Hu:FuncData:=fdM "is_whole" jG "starsieve.forms" 223 45
theorem Hv:Fun (HK.K P) "is_whole" "is_whole" jG 46 Hu:=mkF (by kernel_rfl) (by rw[tK];kernel_rfl) (by rw[tK];kernel_rfl)
theorem XX:PySem.W.nsIn (HK.K P) mainGlobals "is_whole"=some (some (.ref 46)):=by rw[tK];kernel_rfl
theorem jm:Binds (HK.K P) Hu ["thing"] []:=Hv.binds (ps:=["thing"]) fun _ _ _ _ _ _ us hl=>by obtain ⟨x0,rfl⟩:=cQ hl;rfl
def Hw:FuncData:=fdM "is_width" jH "starsieve.forms" 223 52
theorem Hx:Fun (HK.K P) "is_width" "is_width" jH 53 Hw:=mkF (by kernel_rfl) (by rw[tK];kernel_rfl) (by rw[tK];kernel_rfl)
theorem X3:PySem.W.nsIn (HK.K P) mainGlobals "is_width"=some (some (.ref 53)):=by rw[tK];kernel_rfl
theorem jo:Binds (HK.K P) Hw ["thing"] []:=Hx.binds (ps:=["thing"]) fun _ _ _ _ _ _ us hl=>by obtain ⟨x0,rfl⟩:=cQ hl;rfl
def Hy:FuncData:=fdM "is_text_of" jJ "starsieve.forms" 223 57
theorem Hz:Fun (HK.K P) "is_text_of" "is_text_of" jJ 58 Hy:=mkF (by kernel_rfl) (by rw[tK];kernel_rfl) (by rw[tK];kernel_rfl)
theorem X4:PySem.W.nsIn (HK.K P) mainGlobals "is_text_of"=some (some (.ref 58)):=by rw[tK];kernel_rfl
theorem iB:Binds (HK.K P) Hy ["signs","width","thing"] []:=Hz.binds (ps:=["signs","width","thing"]) fun _ _ _ _ _ _ us hl=>by obtain ⟨x0,x1,x2,rfl⟩:=o7 hl;rfl
def HB:FuncData:=fdM "is_form" jK "starsieve.forms" 223 64
theorem HF:Fun (HK.K P) "is_form" "is_form" jK 65 HB:=mkF (by kernel_rfl) (by rw[tK];kernel_rfl) (by rw[tK];kernel_rfl)
theorem X5:PySem.W.nsIn (HK.K P) mainGlobals "is_form"=some (some (.ref 65)):=by rw[tK];kernel_rfl
theorem jq:Binds (HK.K P) HB ["width","thing"] []:=HF.binds (ps:=["width","thing"]) fun _ _ _ _ _ _ us hl=>by obtain ⟨x0,x1,rfl⟩:=b7 hl;rfl
def HH:FuncData:=fdM "is_deed" jL "starsieve.books" 255 69
theorem HJ:Fun (HK.K P) "is_deed" "is_deed" jL 70 HH:=mkF (by kernel_rfl) (by rw[tK];kernel_rfl) (by rw[tK];kernel_rfl)
theorem X6:PySem.W.nsIn (HK.K P) mainGlobals "is_deed"=some (some (.ref 70)):=by rw[tK];kernel_rfl
theorem iC:Binds (HK.K P) HH ["thing"] []:=HJ.binds (ps:=["thing"]) fun _ _ _ _ _ _ us hl=>by obtain ⟨x0,rfl⟩:=cQ hl;rfl
def HN:FuncData:=fdM "is_row" jM "starsieve.books" 255 76
theorem HQ:Fun (HK.K P) "is_row" "is_row" jM 77 HN:=mkF (by kernel_rfl) (by rw[tK];kernel_rfl) (by rw[tK];kernel_rfl)
theorem X7:PySem.W.nsIn (HK.K P) mainGlobals "is_row"=some (some (.ref 77)):=by rw[tK];kernel_rfl
theorem eF:Binds (HK.K P) HN ["width","thing"] []:=HQ.binds (ps:=["width","thing"]) fun _ _ _ _ _ _ us hl=>by obtain ⟨x0,x1,rfl⟩:=b7 hl;rfl
def HR:FuncData:=fdM "is_book" jN "starsieve.books" 255 81
theorem HS:Fun (HK.K P) "is_book" "is_book" jN 82 HR:=mkF (by kernel_rfl) (by rw[tK];kernel_rfl) (by rw[tK];kernel_rfl)
theorem X8:PySem.W.nsIn (HK.K P) mainGlobals "is_book"=some (some (.ref 82)):=by rw[tK];kernel_rfl
theorem eG:Binds (HK.K P) HR ["thing"] []:=HS.binds (ps:=["thing"]) fun _ _ _ _ _ _ us hl=>by obtain ⟨x0,rfl⟩:=cQ hl;rfl
def HW:FuncData:=fdM "need_book" jO "starsieve.books" 255 88
theorem HX:Fun (HK.K P) "need_book" "need_book" jO 89 HW:=mkF (by kernel_rfl) (by rw[tK];kernel_rfl) (by rw[tK];kernel_rfl)
theorem Yb:PySem.W.nsIn (HK.K P) mainGlobals "need_book"=some (some (.ref 89)):=by rw[tK];kernel_rfl
theorem gj:Binds (HK.K P) HW ["book"] []:=HX.binds (ps:=["book"]) fun _ _ _ _ _ _ us hl=>by obtain ⟨x0,rfl⟩:=cQ hl;rfl
def HY:FuncData:=fdM "_law_spread" jP "law_starsieve_k08_what_is_a_book" 290 114
theorem H9:Fun (HK.K P) "_law_spread" "_law_spread" jP 115 HY:=mkF (by kernel_rfl) (by rw[tK];kernel_rfl) (by rw[tK];kernel_rfl)
theorem Yc:PySem.W.nsIn (HK.K P) mainGlobals "_law_spread"=some (some (.ref 115)):=by rw[tK];kernel_rfl
theorem Yd:Binds (HK.K P) HY ["cell","at"] []:=H9.binds (ps:=["cell","at"]) fun _ _ _ _ _ _ us hl=>by obtain ⟨x0,x1,rfl⟩:=b7 hl;rfl
def Ia:FuncData:=fdM "_law_take" jQ "law_starsieve_k08_what_is_a_book" 290 135
theorem Ib:Fun (HK.K P) "_law_take" "_law_take" jQ 136 Ia:=mkF (by kernel_rfl) (by rw[tK];kernel_rfl) (by rw[tK];kernel_rfl)
theorem Ye:PySem.W.nsIn (HK.K P) mainGlobals "_law_take"=some (some (.ref 136)):=by rw[tK];kernel_rfl
theorem Yg:Binds (HK.K P) Ia ["pen","many"] []:=Ib.binds (ps:=["pen","many"]) fun _ _ _ _ _ _ us hl=>by obtain ⟨x0,x1,rfl⟩:=b7 hl;rfl
def Ie:FuncData:=fdM "_law_sign_but" jR "law_starsieve_k08_what_is_a_book" 290 93
theorem Ig:Fun (HK.K P) "_law_sign_but" "_law_sign_but" jR 94 Ie:=mkF (by kernel_rfl) (by rw[tK];kernel_rfl) (by rw[tK];kernel_rfl)
theorem Yh:PySem.W.nsIn (HK.K P) mainGlobals "_law_sign_but"=some (some (.ref 94)):=by rw[tK];kernel_rfl
theorem Yi:Binds (HK.K P) Ie ["pen","others"] []:=Ig.binds (ps:=["pen","others"]) fun _ _ _ _ _ _ us hl=>by obtain ⟨x0,x1,rfl⟩:=b7 hl;rfl
def Ih:FuncData:=fdM "_law_any_sign" jT "law_starsieve_k08_what_is_a_book" 290 100
theorem Ii:Fun (HK.K P) "_law_any_sign" "_law_any_sign" jT 101 Ih:=mkF (by kernel_rfl) (by rw[tK];kernel_rfl) (by rw[tK];kernel_rfl)
theorem Yj:PySem.W.nsIn (HK.K P) mainGlobals "_law_any_sign"=some (some (.ref 101)):=by rw[tK];kernel_rfl
theorem Yk:Binds (HK.K P) Ih ["pen"] []:=Ii.binds (ps:=["pen"]) fun _ _ _ _ _ _ us hl=>by obtain ⟨x0,rfl⟩:=cQ hl;rfl
def Ij:FuncData:=fdM "_law_signed" jU "law_starsieve_k08_what_is_a_book" 290 107
theorem Ik:Fun (HK.K P) "_law_signed" "_law_signed" jU 108 Ij:=mkF (by kernel_rfl) (by rw[tK];kernel_rfl) (by rw[tK];kernel_rfl)
theorem Yl:PySem.W.nsIn (HK.K P) mainGlobals "_law_signed"=some (some (.ref 108)):=by rw[tK];kernel_rfl
theorem Ym:Binds (HK.K P) Ij ["pen","text"] []:=Ik.binds (ps:=["pen","text"]) fun _ _ _ _ _ _ us hl=>by obtain ⟨x0,x1,rfl⟩:=b7 hl;rfl
def Il:FuncData:=fdM "_law_open" jV "law_starsieve_k08_what_is_a_book" 290 121
theorem Im:Fun (HK.K P) "_law_open" "_law_open" jV 122 Il:=mkF (by kernel_rfl) (by rw[tK];kernel_rfl) (by rw[tK];kernel_rfl)
theorem Yn:PySem.W.nsIn (HK.K P) mainGlobals "_law_open"=some (some (.ref 122)):=by rw[tK];kernel_rfl
theorem Yo:Binds (HK.K P) Il ["script"] []:=Im.binds (ps:=["script"]) fun _ _ _ _ _ _ us hl=>by obtain ⟨x0,rfl⟩:=cQ hl;rfl
def Io:FuncData:=fdM "_law_anew" jW "law_starsieve_k08_what_is_a_book" 290 128
theorem Ip:Fun (HK.K P) "_law_anew" "_law_anew" jW 129 Io:=mkF (by kernel_rfl) (by rw[tK];kernel_rfl) (by rw[tK];kernel_rfl)
theorem Yp:PySem.W.nsIn (HK.K P) mainGlobals "_law_anew"=some (some (.ref 129)):=by rw[tK];kernel_rfl
theorem Yq:Binds (HK.K P) Io ["pen"] []:=Ip.binds (ps:=["pen"]) fun _ _ _ _ _ _ us hl=>by obtain ⟨x0,rfl⟩:=cQ hl;rfl
def Ir:FuncData:=fdM "_law_signs" jX "law_starsieve_k08_what_is_a_book" 290 140
theorem Iu:Fun (HK.K P) "_law_signs" "_law_signs" jX 141 Ir:=mkF (by kernel_rfl) (by rw[tK];kernel_rfl) (by rw[tK];kernel_rfl)
theorem Yr:PySem.W.nsIn (HK.K P) mainGlobals "_law_signs"=some (some (.ref 141)):=by rw[tK];kernel_rfl
theorem Ys:Binds (HK.K P) Ir ["pen","width","signs"] []:=Iu.binds (ps:=["pen","width","signs"]) fun _ _ _ _ _ _ us hl=>by obtain ⟨x0,x1,x2,rfl⟩:=o7 hl;rfl
def Iv:FuncData:=fdM "_law_form" jY "law_starsieve_k08_what_is_a_book" 290 147
theorem Iw:Fun (HK.K P) "_law_form" "_law_form" jY 148 Iv:=mkF (by kernel_rfl) (by rw[tK];kernel_rfl) (by rw[tK];kernel_rfl)
theorem Yt:PySem.W.nsIn (HK.K P) mainGlobals "_law_form"=some (some (.ref 148)):=by rw[tK];kernel_rfl
theorem Yu:Binds (HK.K P) Iv ["pen","width"] []:=Iw.binds (ps:=["pen","width"]) fun _ _ _ _ _ _ us hl=>by obtain ⟨x0,x1,rfl⟩:=b7 hl;rfl
def Iz:FuncData:=fdM "_law_within" jZ "law_starsieve_k08_what_is_a_book" 290 154
theorem IK:Fun (HK.K P) "_law_within" "_law_within" jZ 155 Iz:=mkF (by kernel_rfl) (by rw[tK];kernel_rfl) (by rw[tK];kernel_rfl)
theorem Yv:PySem.W.nsIn (HK.K P) mainGlobals "_law_within"=some (some (.ref 155)):=by rw[tK];kernel_rfl
theorem Yw:Binds (HK.K P) Iz ["pen","form"] []:=IK.binds (ps:=["pen","form"]) fun _ _ _ _ _ _ us hl=>by obtain ⟨x0,x1,rfl⟩:=b7 hl;rfl
def IV:FuncData:=fdM "_law_wider" j0 "law_starsieve_k08_what_is_a_book" 290 161
theorem IW:Fun (HK.K P) "_law_wider" "_law_wider" j0 162 IV:=mkF (by kernel_rfl) (by rw[tK];kernel_rfl) (by rw[tK];kernel_rfl)
theorem Yx:PySem.W.nsIn (HK.K P) mainGlobals "_law_wider"=some (some (.ref 162)):=by rw[tK];kernel_rfl
theorem Yy:Binds (HK.K P) IV ["pen","form"] []:=IW.binds (ps:=["pen","form"]) fun _ _ _ _ _ _ us hl=>by obtain ⟨x0,x1,rfl⟩:=b7 hl;rfl
def Ja:FuncData:=fdM "_law_form_like" j4 "law_starsieve_k08_what_is_a_book" 290 168
theorem Jb:Fun (HK.K P) "_law_form_like" "_law_form_like" j4 169 Ja:=mkF (by kernel_rfl) (by rw[tK];kernel_rfl) (by rw[tK];kernel_rfl)
theorem Yz:PySem.W.nsIn (HK.K P) mainGlobals "_law_form_like"=some (some (.ref 169)):=by rw[tK];kernel_rfl
theorem YB:Binds (HK.K P) Ja ["pen","width","forms"] []:=Jb.binds (ps:=["pen","width","forms"]) fun _ _ _ _ _ _ us hl=>by obtain ⟨x0,x1,x2,rfl⟩:=o7 hl;rfl
def Jc:FuncData:=fdM "_law_deeds_of" j5 "law_starsieve_k08_what_is_a_book" 290 173
theorem Jd:Fun (HK.K P) "_law_deeds_of" "_law_deeds_of" j5 174 Jc:=mkF (by kernel_rfl) (by rw[tK];kernel_rfl) (by rw[tK];kernel_rfl)
theorem YC:PySem.W.nsIn (HK.K P) mainGlobals "_law_deeds_of"=some (some (.ref 174)):=by rw[tK];kernel_rfl
theorem YD:Binds (HK.K P) Jc ["pen","most"] []:=Jd.binds (ps:=["pen","most"]) fun _ _ _ _ _ _ us hl=>by obtain ⟨x0,x1,rfl⟩:=b7 hl;rfl
def Jf:FuncData:=fdM "_law_book" j6 "law_starsieve_k08_what_is_a_book" 290 180
theorem Jg:Fun (HK.K P) "_law_book" "_law_book" j6 181 Jf:=mkF (by kernel_rfl) (by rw[tK];kernel_rfl) (by rw[tK];kernel_rfl)
theorem YF:PySem.W.nsIn (HK.K P) mainGlobals "_law_book"=some (some (.ref 181)):=by rw[tK];kernel_rfl
theorem YG:Binds (HK.K P) Jf ["pen","widest","most"] []:=Jg.binds (ps:=["pen","widest","most"]) fun _ _ _ _ _ _ us hl=>by obtain ⟨x0,x1,x2,rfl⟩:=o7 hl;rfl
def Jh:FuncData:=fdM "_law_is_whole" j7 "law_starsieve_k08_what_is_a_book" 290 187
theorem Ji:Fun (HK.K P) "_law_is_whole" "_law_is_whole" j7 188 Jh:=mkF (by kernel_rfl) (by rw[tK];kernel_rfl) (by rw[tK];kernel_rfl)
theorem YH:PySem.W.nsIn (HK.K P) mainGlobals "_law_is_whole"=some (some (.ref 188)):=by rw[tK];kernel_rfl
theorem YJ:Binds (HK.K P) Jh ["thing"] []:=Ji.binds (ps:=["thing"]) fun _ _ _ _ _ _ us hl=>by obtain ⟨x0,rfl⟩:=cQ hl;rfl
def uH:FuncData:=fdM "_law_same" j8 "law_starsieve_k08_what_is_a_book" 290 192
theorem pR:Fun (HK.K P) "_law_same" "_law_same" j8 193 uH:=mkF (by kernel_rfl) (by rw[tK];kernel_rfl) (by rw[tK];kernel_rfl)
theorem Jj:PySem.W.nsIn (HK.K P) mainGlobals "_law_same"=some (some (.ref 193)):=by rw[tK];kernel_rfl
theorem Jl:Binds (HK.K P) uH ["found","due"] []:=pR.binds (ps:=["found","due"]) fun _ _ _ _ _ _ us hl=>by obtain ⟨x0,x1,rfl⟩:=b7 hl;rfl
def Jm:FuncData:=fdM "_law_is_row" j9 "law_starsieve_k08_what_is_a_book" 290 197
theorem Jo:Fun (HK.K P) "_law_is_row" "_law_is_row" j9 198 Jm:=mkF (by kernel_rfl) (by rw[tK];kernel_rfl) (by rw[tK];kernel_rfl)
theorem YK:PySem.W.nsIn (HK.K P) mainGlobals "_law_is_row"=some (some (.ref 198)):=by rw[tK];kernel_rfl
theorem YL:Binds (HK.K P) Jm ["width","row"] []:=Jo.binds (ps:=["width","row"]) fun _ _ _ _ _ _ us hl=>by obtain ⟨x0,x1,rfl⟩:=b7 hl;rfl
def Jp:FuncData:=fdM "_law_is_book" kh "law_starsieve_k08_what_is_a_book" 290 202
theorem Jq:Fun (HK.K P) "_law_is_book" "_law_is_book" kh 203 Jp:=mkF (by kernel_rfl) (by rw[tK];kernel_rfl) (by rw[tK];kernel_rfl)
theorem YM:PySem.W.nsIn (HK.K P) mainGlobals "_law_is_book"=some (some (.ref 203)):=by rw[tK];kernel_rfl
theorem YQ:Binds (HK.K P) Jp ["thing"] []:=Jq.binds (ps:=["thing"]) fun _ _ _ _ _ _ us hl=>by obtain ⟨x0,rfl⟩:=cQ hl;rfl
def Jr:FuncData:=fdM "_law_odd_row" kj "law_starsieve_k08_what_is_a_book" 290 209
theorem Js:Fun (HK.K P) "_law_odd_row" "_law_odd_row" kj 210 Jr:=mkF (by kernel_rfl) (by rw[tK];kernel_rfl) (by rw[tK];kernel_rfl)
theorem YS:PySem.W.nsIn (HK.K P) mainGlobals "_law_odd_row"=some (some (.ref 210)):=by rw[tK];kernel_rfl
theorem YT:Binds (HK.K P) Jr ["pen","row"] []:=Js.binds (ps:=["pen","row"]) fun _ _ _ _ _ _ us hl=>by obtain ⟨x0,x1,rfl⟩:=b7 hl;rfl
def Jt:FuncData:=fdM "_law_odd_book" km "law_starsieve_k08_what_is_a_book" 290 216
theorem Ju:Fun (HK.K P) "_law_odd_book" "_law_odd_book" km 217 Jt:=mkF (by kernel_rfl) (by rw[tK];kernel_rfl) (by rw[tK];kernel_rfl)
theorem YW:PySem.W.nsIn (HK.K P) mainGlobals "_law_odd_book"=some (some (.ref 217)):=by rw[tK];kernel_rfl
theorem YX:Binds (HK.K P) Jt ["pen","book"] []:=Ju.binds (ps:=["pen","book"]) fun _ _ _ _ _ _ us hl=>by obtain ⟨x0,x1,rfl⟩:=b7 hl;rfl
def Jv:FuncData:=fdM "_law_right" kE "law_starsieve_k08_what_is_a_book" 290 223
theorem Jw:Fun (HK.K P) "_law_right" "_law_right" kE 224 Jv:=mkF (by kernel_rfl) (by rw[tK];kernel_rfl) (by rw[tK];kernel_rfl)
theorem YZ:PySem.W.nsIn (HK.K P) mainGlobals "_law_right"=some (some (.ref 224)):=by rw[tK];kernel_rfl
theorem Y0:Binds (HK.K P) Jv ["thing"] []:=Jw.binds (ps:=["thing"]) fun _ _ _ _ _ _ us hl=>by obtain ⟨x0,rfl⟩:=cQ hl;rfl
def uI:FuncData:=fdM "law" kI "law_starsieve_k08_what_is_a_book" 290 230
theorem Y4:Fun (HK.K P) "law" "law" kI 231 uI:=mkF (by kernel_rfl) (by rw[tK];kernel_rfl) (by rw[tK];kernel_rfl)
theorem Y5:PySem.W.nsIn (HK.K P) mainGlobals "law"=some (some (.ref 231)):=by rw[tK];kernel_rfl
theorem Y6:PySem.W.nsIn (HK.K P) mainGlobals "all"=some none:=by rw[tK];kernel_rfl
theorem Y7:PySem.W.nsIn (HK.K P) mainGlobals "bool"=some none:=by rw[tK];kernel_rfl
theorem Y8:PySem.W.nsIn (HK.K P) mainGlobals "enumerate"=some none:=by rw[tK];kernel_rfl
theorem Y9:PySem.W.nsIn (HK.K P) mainGlobals "int"=some none:=by rw[tK];kernel_rfl
theorem Za:PySem.W.nsIn (HK.K P) mainGlobals "isinstance"=some none:=by rw[tK];kernel_rfl
theorem Zb:PySem.W.nsIn (HK.K P) mainGlobals "len"=some none:=by rw[tK];kernel_rfl
theorem Zc:PySem.W.nsIn (HK.K P) mainGlobals "list"=some none:=by rw[tK];kernel_rfl
theorem Zd:PySem.W.nsIn (HK.K P) mainGlobals "range"=some none:=by rw[tK];kernel_rfl
theorem Ze:PySem.W.nsIn (HK.K P) mainGlobals "str"=some none:=by rw[tK];kernel_rfl
theorem Zf:PySem.W.nsIn (HK.K P) mainGlobals "tuple"=some none:=by rw[tK];kernel_rfl
theorem Zg:PySem.W.nsIn (HK.K P) mainGlobals "zip"=some none:=by rw[tK];kernel_rfl
theorem Zh:PySem.W.nsIn (HK.K P) mainGlobals "LETTERS"=some (some (.str "abcdefghijklmnopqrstuvwxyz" 261)):=by rw[tK];kernel_rfl
theorem Zi:PySem.W.nsIn (HK.K P) mainGlobals "LONGEST_DEED"=some (some (.int 8 259)):=by rw[tK];kernel_rfl
theorem Zj:PySem.W.nsIn (HK.K P) mainGlobals "MOST_ROWS"=some (some (.int 12 257)):=by rw[tK];kernel_rfl
theorem Zk:PySem.W.nsIn (HK.K P) mainGlobals "WIDEST"=some (some (.int 6 225)):=by rw[tK];kernel_rfl
theorem x_s:xsB (HK.K P) xs=true:=by rw[tK];kernel_rfl
end
section
variable {l:PySem.W.OpenLaw} {w:World} {h:Heap} {mg:Str→Option Value} {base:Heap} (X:(HK.K w.params).In h) (G:h.Ns mainGlobals mg)
include X G
theorem B0:Bse Φ l.prog w (HK.K w.params) mg base (CX1 l.prog w) 0 f0 bt cn xs:=bse trivial ⟨mg_none_of X G Y6,mg_none_of X G Y7,mg_none_of X G Y8,mg_none_of X G Y9,mg_none_of X G Za,mg_none_of X G Zb,mg_none_of X G Zc,mg_none_of X G Zd,mg_none_of X G Ze,mg_none_of X G Zf,mg_none_of X G Zg,trivial⟩ ⟨UG (mg_of X G Zh) (by decide +kernel) (by decide),tD (mg_of X G Zi),tD (mg_of X G Zj),tD (mg_of X G Zk),trivial⟩ X G x_s
theorem B1:Bse Φ l.prog w (HK.K w.params) mg base (CX1 l.prog w) 1 f1 bt cn xs:=(B0 X G).step Hv jm (mg_of X G XX) GF 0 Wu Wv rfl rfl (dG (fun ds G d h=>FN Φ  ds G d h))
theorem B2:Bse Φ l.prog w (HK.K w.params) mg base (CX1 l.prog w) 2 f2 bt cn xs:=(B1 X G).step Hx jo (mg_of X G X3) GJ 0 Ww Wx rfl rfl (dG (fun ds G d h=>Vc Φ GF ds G d h))
theorem B3:Bse Φ l.prog w (HK.K w.params) mg base (CX1 l.prog w) 3 f3 bt cn xs:=(B2 X G).step Hz iB (mg_of X G X4) GK 0 Wy Wz rfl rfl (dG (fun ds G d h=>Vd Φ  ds G d h))
theorem B4:Bse Φ l.prog w (HK.K w.params) mg base (CX1 l.prog w) 4 f4 bt cn xs:=(B3 X G).step HF jq (mg_of X G X5) GP 0 WD WF rfl rfl (dG (fun ds G d h=>Ve Φ GK ds G d h))
theorem B5:Bse Φ l.prog w (HK.K w.params) mg base (CX1 l.prog w) 5 f5 bt cn xs:=(B4 X G).step HJ iC (mg_of X G X6) GQ 0 WK WL rfl rfl (dG (fun ds G d h=>VF Φ  ds G d h))
theorem B6:Bse Φ l.prog w (HK.K w.params) mg base (CX1 l.prog w) 6 f6 bt cn xs:=(B5 X G).step HQ eF (mg_of X G X7) GR 0 WM WN rfl rfl (dG (fun ds G d h=>VG Φ GP GQ ds G d h))
theorem B7:Bse Φ l.prog w (HK.K w.params) mg base (CX1 l.prog w) 7 f7 bt cn xs:=(B6 X G).step HS eG (mg_of X G X8) jF 2 WP WQ rfl rfl (dG (fun ds G d h=>VH Φ GJ GR ds G d h))
theorem B8:Bse Φ l.prog w (HK.K w.params) mg base (CX1 l.prog w) 8 f8 bt cn xs:=(B7 X G).stepX HX gj (mg_of X G Yb) GX 0 WR WT rfl rfl (VB rfl (bM (fun ds G h=>V0 Φ jF ds G h)) (fun ds G C h=>V1 Φ jF ds G C h))
theorem B9:Bse Φ l.prog w (HK.K w.params) mg base (CX1 l.prog w) 9 f9 bt cn xs:=(B8 X G).step H9 Yd (mg_of X G Yc) GZ 3 WW WX rfl rfl (bM (fun ds G h=>U3 Φ  ds G h))
theorem B10:Bse Φ l.prog w (HK.K w.params) mg base (CX1 l.prog w) 10 f10 bt cn xs:=(B9 X G).step Ib Yg (mg_of X G Ye) cR 3 WY W0 rfl rfl (bM (fun ds G h=>U5 Φ GZ ds G h))
theorem B11:Bse Φ l.prog w (HK.K w.params) mg base (CX1 l.prog w) 11 f11 bt cn xs:=(B10 X G).step Ig Yi (mg_of X G Yh) G8 2 W2 W3 rfl rfl (bM (fun ds G h=>V4 Φ cR ds G h))
theorem B12:Bse Φ l.prog w (HK.K w.params) mg base (CX1 l.prog w) 12 f12 bt cn xs:=(B11 X G).step Ii Yk (mg_of X G Yj) Ha 0 W4 W5 rfl rfl (bM (fun ds G h=>V5 Φ G8 ds G h))
theorem B13:Bse Φ l.prog w (HK.K w.params) mg base (CX1 l.prog w) 13 f13 bt cn xs:=(B12 X G).step Ik Ym (mg_of X G Yl) Hb 1 W6 W7 rfl rfl (ph (fun a ds G h=>V6 Φ cR Ha a ds G h))
theorem B14:Bse Φ l.prog w (HK.K w.params) mg base (CX1 l.prog w) 14 f14 bt cn xs:=(B13 X G).step Im Yo (mg_of X G Yn) Hc 3 W8 W9 rfl rfl (bM (fun ds G h=>Va Φ  ds G h))
theorem B15:Bse Φ l.prog w (HK.K w.params) mg base (CX1 l.prog w) 15 f15 bt cn xs:=(B14 X G).step Ip Yq (mg_of X G Yp) Hf 0 Xa Xb rfl rfl (bM (fun ds G h=>U4 Φ  ds G h))
theorem B16:Bse Φ l.prog w (HK.K w.params) mg base (CX1 l.prog w) 16 f16 bt cn xs:=(B15 X G).step Iu Ys (mg_of X G Yr) uG 0 Xc Xd rfl rfl (bM (fun ds G h=>U8 Φ cR ds G h))
theorem B17:Bse Φ l.prog w (HK.K w.params) mg base (CX1 l.prog w) 17 f17 bt cn xs:=(B16 X G).step Iw Yu (mg_of X G Yt) Hg 0 Xe Xf rfl rfl (bM (fun ds G h=>U9 Φ cR uG ds G h))
theorem B18:Bse Φ l.prog w (HK.K w.params) mg base (CX1 l.prog w) 18 f18 bt cn xs:=(B17 X G).step IK Yw (mg_of X G Yv) Hh 2 Xg Xh rfl rfl (bM (fun ds G h=>Vl Φ cR ds G h))
theorem B19:Bse Φ l.prog w (HK.K w.params) mg base (CX1 l.prog w) 19 f19 bt cn xs:=(B18 X G).step IW Yy (mg_of X G Yx) Hi 2 Xi Xj rfl rfl (bM (fun ds G h=>Vm Φ cR ds G h))
theorem B20:Bse Φ l.prog w (HK.K w.params) mg base (CX1 l.prog w) 20 f20 bt cn xs:=(B19 X G).step Jb YB (mg_of X G Yz) Hj 3 Xk Xl rfl rfl (bM (fun ds G h=>Vr Φ cR Hg Hh Hi ds G h))
theorem B21:Bse Φ l.prog w (HK.K w.params) mg base (CX1 l.prog w) 21 f21 bt cn xs:=(B20 X G).step Jd YD (mg_of X G YC) Hk 4 Xm Xo rfl rfl (bM (fun ds G h=>Vu Φ cR uG ds G h))
theorem B22:Bse Φ l.prog w (HK.K w.params) mg base (CX1 l.prog w) 22 f22 bt cn xs:=(B21 X G).step Jg YG (mg_of X G YF) Hl 5 Xp Xq rfl rfl (bM (fun ds G h=>Vx Φ cR Hk Hj ds G h))
theorem B23:Bse Φ l.prog w (HK.K w.params) mg base (CX1 l.prog w) 23 f23 bt cn xs:=(B22 X G).step Ji YJ (mg_of X G YH) Hm 0 Xr Xu rfl rfl (dG (fun ds G d h=>Vb Φ  ds G d h))
theorem Jx:∀n:Nat,FnOk l.prog w (HK.K w.params) mg base (CX1 l.prog w) (23+n) 193 uH ["found","due"] (lift (HK.K w.params) 2 (cH n))
 |0=>UJ Vi
 |n+1=>sZ (fs:=f24) pR ((B23 X G).self (by decide +kernel) (Jx n) pR.kp Jl (mg_of X G Jj)) (cH (n+1)) 2 0 Xv Xw rfl rfl (bM (fun ds G h=>Vh (o8 Φ "_law_same" (cH n)) n (if_pos rfl) ds G h))
theorem B24:Bse Φ l.prog w (HK.K w.params) mg base (CX1 l.prog w) 32 f24 bt cn xs:=(B23 X G).add (j:=9) Hn (Jx X G 9) pR.kp Jl (mg_of X G Jj)
theorem B25:Bse Φ l.prog w (HK.K w.params) mg base (CX1 l.prog w) 33 f25 bt cn xs:=(B24 X G).step Jo YL (mg_of X G YK) Ho 0 Xx Xy rfl rfl (dG (fun ds G d h=>V9 Φ  ds G d h))
theorem B26:Bse Φ l.prog w (HK.K w.params) mg base (CX1 l.prog w) 34 f26 bt cn xs:=(B25 X G).step Jq YQ (mg_of X G YM) Hq 0 Xz XC rfl rfl (dG (fun ds G d h=>Wa Φ Hm Ho ds G d h))
theorem B27:Bse Φ l.prog w (HK.K w.params) mg base (CX1 l.prog w) 35 f27 bt cn xs:=(B26 X G).step Js YT (mg_of X G YS) Hr 5 XD XF rfl rfl (ph (fun a ds G h=>Wd Φ cR Hb a ds G h))
theorem B28:Bse Φ l.prog w (HK.K w.params) mg base (CX1 l.prog w) 36 f28 bt cn xs:=(B27 X G).step Ju YX (mg_of X G YW) Hs 8 XH XJ rfl rfl (ph (fun a ds G h=>Wi Φ cR Hr a ds G h))
theorem B29:Bse Φ l.prog w (HK.K w.params) mg base (CX1 l.prog w) 37 f29 bt cn xs:=(B28 X G).step Jw Y0 (mg_of X G YZ) Ht 3 XM XN rfl rfl (UW (fun a G h=>Wl Φ Hq GX jF Hn a G h))
theorem Zm:FnOk l.prog w (HK.K w.params) mg base (CX1 l.prog w) 38 231 uI ["script"] (lift (HK.K w.params) 1 (jt)):=sZ Y4 (B29 X G) (jt) 1 4 XQ XS rfl rfl (bM (fun ds G h=>Wm Φ ⟨Hc,Hf,Hl,jF,Ht,Hs⟩ ds G h))
omit X G in
theorem all (fa:Addr) (X:(HK.K w.params).In h) (G:h.Ns mainGlobals mg) (hfa:mg "law"=some (.ref fa)):∃fd:FuncData,(∀(s:Shared) (v:Value),BindsTo s fd ⟨[v],[]⟩ [("script",v)])∧∀base:Heap,(HK.K w.params).In base→base.Ns mainGlobals mg→FnOk l.prog w (HK.K w.params) mg base (CX1 l.prog w) 38 fa fd ["script"] (lift (HK.K w.params) 1 (jt)):=by
 have e:=hfa.symm.trans (PySem.W.mg_of X G Y5)
 cases e
 exact ⟨uI,fun s v=>.of_eq rfl,fun base _ _=>Zm X G⟩
end
theorem walk {l:PySem.W.OpenLaw} {q:Program} {loose:List Str} {XP:(Str→Option Value)→Heap→Prop} {d:DefRec} (hn:l.most=some 63) (hdf:d.params.defaults=[]) (hdn:d.name="law"):
  PySem.W.WalkO q loose XP HK.hook.says l.row.toRowW d [] (fun f vs=>PySem.call f vs):=
 L2.NK (n:=63) (k:=38) (x:="script") (K:=HK.K) (CX:=fun w=>CX1 l.prog w) (sp:=fun w=>lift (HK.K w.params) 1 (jt)) hn (by decide) hdf ⟨rfl,by decide,by decide⟩ (fun _ _ Y=>Y) (fun w mg fa h X G hmg=>all fa X G (hdn ▸ hmg)) (fun w H a ns hl hO hS=>UL (UT fun ns _ hl=>⟨ns,rfl,hl⟩) (HK.K w.params) H a ns hl hO hS) fun _ _ _ _ _ z=>Up z
end Lk08
open PySem PySem.W PyProof.Rows
set_option maxRecDepth 100000 in
set_option maxHeartbeats 0 in
theorem PySem.Challenge.cw_starsieve_k08_what_is_a_book_holds : PySem.Challenge.rw_starsieve_k08_what_is_a_book.Holds := by
 have said:PySem.Challenge.rw_starsieve_k08_what_is_a_book.row.wellSaid=true:=by decide +kernel
 refine ⟨by decide +kernel,?_⟩
 refine PySem.W.holds_open (q:=HK.qv) (loose:=[]) (Xt:=HK.Xt) (XP:=XL HK.qv []) (Yf:=HK.hook.obs) (Ya:=HK.hook.val) (YP:=HK.hook.says) (N:=12000) HK.left HK.hook.of HK.hook.keeps
  (fun s e=>xl_of s (Bool.and_eq_true_iff.mp e).1) XL.keeps (by rfl) (by rfl) (by rfl) (fun s e=>recFacts_of (Bool.and_eq_true_iff.mp e).2) (by rfl) (by assumption) (by decide +kernel) ⟨rfl,rfl,rfl,rfl,rfl,by decide +kernel⟩ ?hw ?hc
 case hw=>exact ⟨[.list []],by decide +kernel,by decide +kernel⟩
 exact Lk08.walk rfl rfl rfl
