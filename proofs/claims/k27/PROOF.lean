import PyProof.Rows.All
import Wide.All
import OpenK.AllK
import Wide.FinOn
import Lean
import PyProof.EqAt
import PyProof.EqKinds
import PyProof.TupleCall
import PyProof.NeKinds
import PyProof.FactsAll.range_2
import PyProof.FactsAll.tuple_2
import PyProof.FactsAll.tuple
import PySem.Challenge.RW_starsieve_k27_parting_words_and_refusals
set_option Elab.async false
set_option maxRecDepth 100000
noncomputable section
set_option Elab.async false
set_option linter.all false
set_option maxRecDepth 100000
namespace L2
open PySem PySem.Spec PyProof.Rows
abbrev Key:=Sum Int Str
def wM:Key→Value→Bool
 |.inl k,v=>Value.isInt k v
 |.inr x,v=>Value.isStrOf x v
def Nm(w:World):Key→Int
 |.inl k=>hashInt k
 |.inr x=>hashStr w x
theorem dR:∀{k:Key}{v:Value},wM k v=true→(∃i t,k=Sum.inl i∧v=Value.int i t)∨(∃x t,k=Sum.inr x∧v=Value.str x t)
 |.inl i,v,h=>by
  obtain ⟨t,e⟩:=Value.isInt_shape (k:=i) (v:=v) h
  exact .inl ⟨i,t,rfl,e⟩
 |.inr x,v,h=>by
  obtain ⟨t,e⟩:=Value.isStrOf_shape (x:=x) (v:=v) h
  exact .inr ⟨x,t,rfl,e⟩
theorem Np(a b:Int):decide ((Sum.inl a:Key)=Sum.inl b)=(a==b):=by
 by_cases e:a=b
 ·subst e;simp
 ·have h:¬(Sum.inl a:Key)=Sum.inl b:=fun q=>e (Sum.inl.inj q)
  rw[decide_eq_false h]
  exact (beq_eq_false_iff_ne.mpr e).symm
theorem Nq(a b:Str):decide ((Sum.inr a:Key)=Sum.inr b)=decide (a=b):=by
 by_cases e:a=b
 ·subst e;simp
 ·have h:¬(Sum.inr a:Key)=Sum.inr b:=fun q=>e (Sum.inr.inj q)
  rw[decide_eq_false h,decide_eq_false e]
theorem Nr(a:Int)(b:Str):decide ((Sum.inl a:Key)=Sum.inr b)=false:=decide_eq_false (fun q=>nomatch q)
theorem Nt(a:Str)(b:Int):decide ((Sum.inr a:Key)=Sum.inl b)=false:=decide_eq_false (fun q=>nomatch q)
def rJ(prog:Program)(w:World):PySem.KeyKind prog w Key where
 is:=wM
 hash:=Nm w
 inj:=fun v a b ha hb=>by
  rcases dR ha with ⟨i,t,rfl,rfl⟩ |⟨x,t,rfl,rfl⟩
  ·rcases dR hb with ⟨j,u,rfl,e⟩ |⟨y,u,rfl,e⟩
   ·injection e with e1 _;rw[e1]
   ·exact nomatch e
  ·rcases dR hb with ⟨j,u,rfl,e⟩ |⟨y,u,rfl,e⟩
   ·exact nomatch e
   ·injection e with e1 _;rw[e1]
 byValue:=fun k v h=>by
  rcases dR h with ⟨i,t,rfl,rfl⟩ |⟨x,t,rfl,rfl⟩ <;> rfl
 pyHash:=fun hv h=>by
  rcases dR hv with ⟨i,t,rfl,rfl⟩ |⟨x,t,rfl,rfl⟩
  ·exact wpAny_pyHash_int h
  ·exact wpAny_pyHash_str h
 eqBool:=fun hu hv h=>by
  rcases dR hu with ⟨i,t,rfl,rfl⟩ |⟨x,t,rfl,rfl⟩
  ·rcases dR hv with ⟨j,u,rfl,rfl⟩ |⟨y,u,rfl,rfl⟩
   ·rw[Np]at h;exact wpAny_eqBool_int h
   ·rw[Nr]at h;exact SeqAt.EqAt.int_str i t y u _ _ _ _ h
  ·rcases dR hv with ⟨j,u,rfl,rfl⟩ |⟨y,u,rfl,rfl⟩
   ·rw[Nt]at h;exact SeqAt.EqAt.str_int x t j u _ _ _ _ h
   ·rw[Nq]at h;exact wpAny_eqBool_str h
 «strs»:=fun k x t v h=>by
  rcases dR h with ⟨i,u,rfl,e⟩ |⟨y,u,rfl,e⟩
  ·exact nomatch e
  ·injection e with e1 _
   subst e1
   cases v <;> rfl
end L2
namespace L2
open PySem PySem.Spec PyProof.Rows
inductive V where
 |non |bl (b:Bool) |int (i:Int) |str (x:Str) |byt (b:Array UInt8) |flt (b:UInt64) |ref (a:Addr) |ty (n:String)
 deriving DecidableEq
def RelV:V→Value→Prop
 |.non,u=>u=Value.none
 |.bl b,u=>u=Value.bool b
 |.int i,u=>∃t,u=Value.int i t
 |.str x,u=>∃t,u=Value.str x t
 |.byt b,u=>∃t,u=Value.bytes b t
 |.flt b,u=>∃t,u=Value.float b t
 |.ref a,u=>u=Value.ref a
 |.ty n,u=>u=Value.type n
abbrev Vals:List V→List Value→Prop:=Paired RelV
theorem Vals.length{xs:List V}{us:List Value}(r:Vals xs us):xs.length=us.length:=Paired.length r
theorem Vals.get:∀{xs:List V}{us:List Value}{i:Nat}{x:V},Vals xs us→xs[i]?=some x→∃u,us[i]?=some u∧RelV x u
 |_,_,_,_,.nil,e=>by simp at e
 |_,_,0,_,.cons r _,e=>by simp at e;subst e;exact ⟨_,rfl,r⟩
 |_,_,i+1,x,.cons _ t,e=>by
  obtain ⟨u,h1,h2⟩:=Vals.get (i:=i) (x:=x) t (by simpa using e)
  exact ⟨u,by simpa using h1,h2⟩
theorem Vals.set{x:V}{u:Value}(r:RelV x u):∀{xs:List V}{us:List Value}(i:Nat),Vals xs us→Vals (xs.set i x) (us.set i u)
 |_,_,_,.nil=>.nil
 |_,_,0,.cons _ t=>.cons r t
 |_,_,i+1,.cons q t=>.cons q (Vals.set r i t)
theorem Vals.append:∀{xs ys:List V}{us ws:List Value},Vals xs us→Vals ys ws→Vals (xs++ys) (us++ws)
 |_,_,_,_,.nil,s=>s
 |_,_,_,_,.cons r t,s=>.cons r (Vals.append t s)
theorem Vals.take:∀{xs:List V}{us:List Value}(n:Nat),Vals xs us→Vals (xs.take n) (us.take n)
 |_,_,0,_=>.nil
 |_,_,_+1,.nil=>.nil
 |_,_,n+1,.cons r t=>.cons r (Vals.take n t)
theorem Vals.drop:∀{xs:List V}{us:List Value}(n:Nat),Vals xs us→Vals (xs.drop n) (us.drop n)
 |_,_,0,r=>r
 |_,_,_+1,.nil=>.nil
 |_,_,n+1,.cons _ t=>Vals.drop n t
def rK:Option V→Option Value→Prop
 |some v,some u=>RelV v u
 |none,none=>True
 |_,_=>False
def KV{κ:Type}:List (κ×V)→List (κ×Value)→Prop:=Paired fun (p:κ×V) (q:κ×Value)=>p.1=q.1∧RelV p.2 q.2
def kV:Key→V
 |.inl i=>.int i
 |.inr x=>.str x
inductive HO where
 |lst (xs:List V)
 |tup (xs:List V)
 |dK (kvs:List (Key×V)) |dT (kvs:List (List Key×V))
 |set (S:Int→Bool) (n:Nat)
 |ins (C dx:Addr) (fs:List (Str×V))
 |own (x:Addr)
 |xd (fs:List (Str×V))
 |met (f x:Addr)
 |rng (lo hi:Int)
 |frz (o:Obj) (u:HO)
 |tbl (ps:Array Value)
 |ext (φ:Heap→Prop)
abbrev Hp:=Addr→Option HO
def upd(H:Hp)(a:Addr)(o:HO):Hp:=fun b=>if b=a then some o else H b
theorem cV{H:Hp}{a:Addr}{o:HO}:upd H a o a=some o:=by unfold upd;rw[if_pos rfl]
theorem aJ{H:Hp}{a b:Addr}{o:HO}(h:b≠a):upd H a o b=H b:=by unfold upd;rw[if_neg h]
theorem wN{H:Hp}{a b:Addr}{o u:HO}(h:H a=some o)(h':H b=some u)(d:o≠u):a≠b:=by
 intro e;subst e;rw[h]at h';exact d (Option.some.inj h')
theorem aW{H:Hp}{a b:Addr}{o:HO}(h:H a=some o)(h':H b=none):a≠b:=by
 intro e;subst e;rw[h]at h';cases h'
section
variable (P:Program) (w:World)
def ObjOk(H:Hp)(h:Heap)(a:Addr):HO→Prop
 |.lst xs=>xs.length≤sizeLine∧∃(its:List Value) (n:Nat),Vals xs its∧h.get? a=some { cls:=.type "list",data:=.seq its.toArray n }
 |.tup xs=>xs.length≤sizeLine∧∃its:List Value,Vals xs its∧IsTup h a its.toArray
 |.dK kvs=>kvs.length≤sizeLine∧(a==sysModules)=false∧∃vs,KV kvs vs∧h.DictOf (rJ P w) a vs
 |.dT kvs=>kvs.length≤sizeLine∧(a==sysModules)=false∧∃xs:List (List Key×Addr×Value),
   Paired (fun (p:List Key×V) (q:List Key×Addr×Value)=>p.1=q.1∧H q.2.1=some (.tup (p.1.map kV))∧RelV p.2 q.2.2) kvs xs∧
   ∃o es ep,h.get? a=some o∧o.ExactDict∧o.data=.dict es ep∧es.toList=xs.map (entryOfKey (tupleKind (rJ P w)))∧(xs.map (·.1)).Nodup
 |.set S n=>h.SetOf (intKind P w) a S n
 |.ins C dx fs=>H dx=some (.own a)∧fs.length≤1000∧dx≠a∧h.get? a=some (PySem.W.instObj C dx)∧
   ∃mA,h.Ns1 dx mA∧(∀f,rK (fs.lookup f) (mA f))∧PySem.Within mA (fs.map (·.1))
 |.own _=>∃o,h.get? a=some o
 |.xd fs=>∃mA,h.Ns1 a mA∧∀f,rK (fs.lookup f) (mA f)
 |.rng lo hi=>∃t u v,h.get? a=some { cls:=.type "range",data:=.fields #[.int lo t,.int hi u,.int 1 v] }
 |.frz o u=>h.get? a=some o∧ObjOk H h a u
 |.tbl ps=>h.get? a=some { cls:=.none,data:=.fields ps }
 |.met f x=>h.get? a=some (PySem.W.methodObj (.ref f) (.ref x))
 |.ext φ=>φ h∧(∃o,h.get? a=some o)∧∀h1 h2:Heap,φ h1→(∀o,h1.get? a=some o→h2.get? a=some o)→φ h2
def HOk(H:Hp)(h:Heap):Prop:=∀a o,H a=some o→ObjOk P w H h a o
end
section
variable {P:Program} {w:World} {H H':Hp} {h h':Heap} {a:Addr} {o:HO}
theorem ObjOk.lt(x:ObjOk P w H h a o):a < h.objs.size:=by
 cases o with
 |lst xs=>obtain ⟨_,_,_,_,e⟩:=x;exact Heap.lt_size e
 |tup xs=>obtain ⟨_,_,_,p⟩:=x;exact p.lt
 |dK kvs=>obtain ⟨_,_,_,_,o,_,_,e,_⟩:=x;exact Heap.lt_size e
 |dT kvs=>obtain ⟨_,_,_,_,o,_,_,e,_⟩:=x;exact Heap.lt_size e
 |set S n=>obtain ⟨o,_,_,_,e,_⟩:=x;exact Heap.lt_size e
 |ins C dx fs=>obtain ⟨_,_,_,e,_⟩:=x;exact Heap.lt_size e
 |own y=>obtain ⟨_,e⟩:=x;exact Heap.lt_size e
 |xd fs=>obtain ⟨_,⟨_,_,_,e,_⟩,_⟩:=x;exact Heap.lt_size e
 |rng lo hi=>obtain ⟨_,_,_,e⟩:=x;exact Heap.lt_size e
 |frz ob u=>obtain ⟨e,_⟩:=x;exact Heap.lt_size e
 |tbl ps=>exact Heap.lt_size (show h.get? a=some _ from x)
 |met f y=>exact Heap.lt_size (show h.get? a=some _ from x)
 |ext φ=>obtain ⟨_,⟨_,e⟩,_⟩:=x;exact Heap.lt_size e
theorem Paired.mapP{α β:Type}{F G:α→β→Prop}:∀{l₁:List α}{l₂:List β},Paired F l₁ l₂→(∀a b,F a b→G a b)→Paired G l₁ l₂
 |_,_,.nil,_=>.nil
 |_,_,.cons r t,f=>.cons (f _ _ r) (Paired.mapP t f)
theorem ObjOk.stay(x:ObjOk P w H h a o)(k:∀b u,(b=a∨H b=some (.own a))→h.get? b=some u→h'.get? b=some u)
  (ho:∀b,H b=some (.own a)→H' b=some (.own a)) (ht:∀b xs,H b=some (.tup xs)→H' b=some (.tup xs)):ObjOk P w H' h' a o:=by
 induction o with
 |lst xs=>obtain ⟨z,its,n,r,e⟩:=x;exact ⟨z,its,n,r,k _ _ (.inl rfl) e⟩
 |tup xs=>obtain ⟨z,its,r,ob,e,c⟩:=x;exact ⟨z,its,r,ob,k _ _ (.inl rfl) e,c⟩
 |dK kvs=>obtain ⟨z,y,vs,r,ob,es,ep,e,c⟩:=x;exact ⟨z,y,vs,r,ob,es,ep,k _ _ (.inl rfl) e,c⟩
 |dT kvs=>
  obtain ⟨z,y,xs,r,ob,es,ep,e,c⟩:=x
  exact ⟨z,y,xs,Paired.mapP r fun p q z=>⟨z.1,ht _ _ z.2.1,z.2.2⟩,ob,es,ep,k _ _ (.inl rfl) e,c⟩
 |set S n=>obtain ⟨ob,es,ep,t,e,c⟩:=x;exact ⟨ob,es,ep,t,k _ _ (.inl rfl) e,c⟩
 |ins C dx fs=>
  obtain ⟨d,z,ne,e,mA,⟨od,es,ep,e2,c⟩,r⟩:=x
  exact ⟨ho _ d,z,ne,k _ _ (.inl rfl) e,mA,⟨od,es,ep,k _ _ (.inr d) e2,c⟩,r⟩
 |own y=>obtain ⟨ob,e⟩:=x;exact ⟨ob,k _ _ (.inl rfl) e⟩
 |xd fs=>obtain ⟨mA,⟨od,es,ep,e,c⟩,r⟩:=x;exact ⟨mA,⟨od,es,ep,k _ _ (.inl rfl) e,c⟩,r⟩
 |rng lo hi=>obtain ⟨t,u,v,e⟩:=x;exact ⟨t,u,v,k _ _ (.inl rfl) e⟩
 |frz ob u ih=>obtain ⟨e,q⟩:=x;exact ⟨k _ _ (.inl rfl) e,ih q⟩
 |tbl ps=>
  have e:h.get? a=some { cls:=.none,data:=.fields ps }:=x
  show h'.get? a=some { cls:=.none,data:=.fields ps }
  exact k a _ (.inl rfl) e
 |met f y=>
  have e:h.get? a=some (PySem.W.methodObj (.ref f) (.ref y)):=x
  show h'.get? a=some (PySem.W.methodObj (.ref f) (.ref y))
  exact k a _ (.inl rfl) e
 |ext φ=>obtain ⟨p,⟨o,e⟩,st⟩:=x;exact ⟨st _ _ p fun o q=>k _ _ (.inl rfl) q,⟨o,k _ _ (.inl rfl) e⟩,st⟩
theorem HOk.lt(x:HOk P w H h)(e:H a=some o):a < h.objs.size:=(x a o e).lt
theorem HOk.fresh(x:HOk P w H h)(e:h.objs.size≤a):H a=none:=by
 cases q:H a with
 |none=>rfl
 |some u=>exact absurd (Nat.lt_of_lt_of_le (x.lt q) e) (Nat.lt_irrefl _)
theorem HOk.kept(x:HOk P w H h)(k:∀b u,h.get? b=some u→h'.get? b=some u):HOk P w H h':=fun a o e=>
 (x a o e).stay (fun b u _ q=>k b u q) (fun _ q=>q) fun _ _ q=>q
theorem HOk.laid(x:HOk P w H h)(k:∀b u,h.get? b=some u→h'.get? b=some u)(hp:h.objs.size≤a)(new:ObjOk P w (upd H a o) h' a o):HOk P w (upd H a o) h':=fun b u e=>by
 have hn:=x.fresh hp
 by_cases hb:b=a
 ·subst hb;rw[cV]at e;cases e;exact new
 ·rw[aJ hb]at e
  exact (x b u e).stay (fun c v _ q=>k c v q) (fun c q=>by rw[aJ (aW q hn)];exact q) fun c xs q=>by rw[aJ (aW q hn)];exact q
end
def Rd(H:Hp)(a:Addr)(u:HO):Prop:=H a=some u∨∃o,H a=some (.frz o u)
theorem Rd.ok{P:Program}{w:World}{H:Hp}{h:Heap}{a:Addr}{u:HO}(r:Rd H a u)(x:HOk P w H h):ObjOk P w H h a u:=by
 rcases r with r |⟨o,r⟩
 ·exact x a u r
 ·obtain ⟨_,q⟩:=x a _ r
  exact q
def Mut:Option HO→Prop
 |some (.lst _)=>True
 |some (.dK _)=>True
 |some (.dT _)=>True
 |some (.set _ _)=>True
 |some (.ins _ _ _)=>True
 |some (.ext _)=>True
 |_=>False
section
variable {P:Program} {w:World} {H:Hp} {h h':Heap} {x e:Addr} {o':HO}
theorem HOk.write(ok:HOk P w H h)(mu:Mut (H x))(he:e=x∨H e=some (.own x))(k:∀b u,b≠e→h.get? b=some u→h'.get? b=some u)(heo:∃u,h'.get? e=some u)
  (new:ObjOk P w (upd H x o') h' x o'):HOk P w (upd H x o') h':=fun b u q=>by
 have nown:∀c y,H c=some (.own y)→c≠x:=fun c y r z=>by subst z;rw[r]at mu;exact mu
 have ntup:∀c xs,H c=some (.tup xs)→c≠x:=fun c xs r z=>by subst z;rw[r]at mu;exact mu
 by_cases hb:b=x
 ·subst hb;rw[cV]at q;cases q;exact new
 ·rw[aJ hb]at q
  by_cases hbe:b=e
  ·have q':H b=some (.own x):=by
    rcases he with z |z
    ·exact absurd (hbe.trans z) hb
    ·rw[hbe];exact z
   rw[q]at q';cases q'
   obtain ⟨v,hv⟩:=heo
   exact ⟨v,by rw[hbe];exact hv⟩
  ·refine (ok b u q).stay (fun c v hc r=>k c v ?_ r) (fun c r=>by rw[aJ (nown c b r)];exact r) fun c xs r=>by rw[aJ (ntup c xs r)];exact r
   rcases hc with rfl |hc
   ·exact hbe
   ·rintro rfl
    rcases he with z |z
    ·exact nown c b hc z
    ·rw[hc]at z;cases z;exact hb rfl
end
structure Un(fs ex:List Addr)(H H':Hp)(h h':Heap):Prop where
 keep:∀b o,h.get? b=some o→H b=none→b∉fs→b∉ex→h'.get? b=some o
 slot:∀b o,h.get? b=some o→H b=none→b∈fs→b∉ex→∃sl,h'.get? b=some { o with slots:=sl }
 free:∀b o,h.get? b=some o→H b=none→b∉ex→H' b=none
 there:∀b o,h.get? b=some o→b∉ex→∃o',h'.get? b=some o'
 tups:∀b xs,H b=some (.tup xs)→H' b=some (.tup xs)
 frzs:∀b o u,H b=some (.frz o u)→H' b=some (.frz o u)
 tbls:∀b ps,H b=some (.tbl ps)→∃more,H' b=some (.tbl (ps++more))
section
variable {fs fs' ex ex':List Addr} {H H1 H2:Hp} {h h1 h2 h':Heap} {a x e:Addr} {o:HO}
theorem Un.any(u:Un fs ex H H1 h h1){b:Addr}{ob:Obj}(q:h.get? b=some ob)(n:H b=none)(hx:b∉ex):∃sl,h1.get? b=some { ob with slots:=sl }:=by
 by_cases hb:b∈fs
 ·exact u.slot b ob q n hb hx
 ·exact ⟨ob.slots,u.keep b ob q n hb hx⟩
theorem Un.kept(k:∀b u,h.get? b=some u→h'.get? b=some u):Un fs ex H H h h':=
 ⟨fun b ob q _ _ _=>k b ob q,fun b ob q _ _ _=>⟨ob.slots,k b ob q⟩,fun _ _ _ n _=>n,fun b ob q _=>⟨ob,k b ob q⟩,fun _ _ q=>q,fun _ _ _ q=>q,fun _ ps q=>⟨#[],by rw[q];simp⟩⟩
theorem Un.refl:Un fs ex H H h h:=Un.kept fun _ _ q=>q
theorem Un.laid(k:∀b u,h.get? b=some u→h'.get? b=some u)(hp:h.objs.size≤a)(hn:H a=none):Un fs ex H (upd H a o) h h' where
 keep:=fun b u q _ _ _=>k b u q
 slot:=fun b u q _ _ _=>⟨u.slots,k b u q⟩
 free:=fun b u q n _=>by rw[aJ (Nat.ne_of_lt (Nat.lt_of_lt_of_le (Heap.lt_size q) hp))];exact n
 there:=fun b u q _=>⟨u,k b u q⟩
 tups:=fun b xs q=>by rw[aJ (aW q hn)];exact q
 frzs:=fun b u xs q=>by rw[aJ (aW q hn)];exact q
 tbls:=fun b ps q=>⟨#[],by rw[aJ (aW q hn),q];simp⟩
theorem Un.write(mu:Mut (H x))(he:e=x∨H e=some (.own x))(k:∀b u,b≠e→h.get? b=some u→h'.get? b=some u)(heo:∃u,h'.get? e=some u):Un fs ex H (upd H x o) h h':=by
 have hx:∀b,H b=none→b≠x:=fun b n z=>by subst z;rw[n]at mu;exact mu
 have hb:∀b,H b=none→b≠e:=fun b n z=>by
  subst z
  rcases he with r |r
  ·exact hx b n r
  ·rw[n]at r;cases r
 have hm:∀b u,H b=some u→¬Mut (some u)→b≠x:=fun b u q nm z=>by subst z;rw[q]at mu;exact nm mu
 refine ⟨fun b u q n _ _=>k b u (hb b n) q,fun b u q n _ _=>⟨u.slots,k b u (hb b n) q⟩,fun b u q n _=>by rw[aJ (hx b n)];exact n,fun b u q _=>?_,
  fun b xs q=>by rw[aJ (hm b _ q fun z=>z)];exact q,fun b u xs q=>by rw[aJ (hm b _ q fun z=>z)];exact q,fun b ps q=>⟨#[],by rw[aJ (hm b _ q fun z=>z),q];simp⟩⟩
 by_cases hbe:b=e
 ·subst hbe;exact heo
 ·exact ⟨u,k b u hbe q⟩
end
def trk(h:Heap)(H:Hp):List Addr:=(List.range h.objs.size).filter fun a=>(H a).isSome
def dU(h:Heap)(H:Hp):Heap:=PySem.W.hideAll h (trk h H)
theorem Nu(h:Heap)(H:Hp):(dU h H).objs.size=h.objs.size:=PySem.W.hideAll_size _ _
theorem Nv{h:Heap}{H:Hp}{b:Addr}{o:Obj}(e:h.get? b=some o)(n:H b=none):(dU h H).get? b=some o:=
 PySem.W.hideAll_get _ e fun hm=>by
  have q:(H b).isSome=true:=(List.mem_filter.mp hm).2
  rw[n]at q;simp at q
theorem Nx{h:Heap}{H:Hp}{b:Addr}{o:Obj}(e:(dU h H).get? b=some o):h.get? b=some o∧H b=none:=by
 have e':h.get? b=some o:=PySem.W.of_hideAll (trk h H) e
 refine ⟨e',?_⟩
 cases q:H b with
 |none=>rfl
 |some x=>
  have hm:b∈trk h H:=List.mem_filter.mpr ⟨List.mem_range.mpr (Heap.lt_size e'),by simp[q]⟩
  have z:(dU h H).get? b=none:=PySem.W.hideAll_none (trk h H) hm
  rw[z]at e;cases e
def Ny(g h:Heap)(L:Addr):List (Addr×Obj):=(List.range h.objs.size).filterMap fun a=>if a=L∨(g.get? a).isSome=true then none else (h.get? a).map fun o=>(a,o)
def rest(g h:Heap)(L d:Addr):List (Addr×Obj):=(Ny g h L).filter fun p=>decide (p.1≠d)
end L2
namespace L2
open PySem PySem.Spec PyProof.Rows
structure Mod(K:PySem.W.Frag)(mg:Str→Option Value)(base:Heap):Prop where
 kin:K.In base
 glob:base.Ns mainGlobals mg
 blt:∃mb,base.Ns builtinsNs mb∧∀x:Str,x≠"__name__"→mb x=bootBuiltins x
 nolimit:base.NoLimit
structure Cx where
 prog:Program
 w:World
 K:PySem.W.Frag
 mg:Str→Option Value
 base:Heap
 A:Around
 N:List Str
 s₀:Shared
 H₀:Hp
 env:Env
 outer:List Env
 stack:List Env
 ex:List Addr
 fn:Str→Bool
 calm:Bool
 pn:List (Addr×Obj)
 xe:Value→Shared→Prop
def frs(l:List Env):List Addr:=l.filterMap (·.frame)
abbrev Cx.fs(X:Cx):List Addr:=frs X.outer
def Vis(sc:Scope)(x:Str):Prop:=sc.names.lookup x=some .local∨sc.names.lookup x=some .cell∨sc.names.lookup x=some .free
def Loc(sc:Scope)(x:Str):Prop:=sc.names.lookup x=some .local∨sc.names.lookup x=some .cell
def Look(env:Env)(h:Heap)(m:Str→Option Value)(x:Str)(u:Value):Prop:=
 (env.kindOf x=some .local∧m x=some u)∨((env.kindOf x=some .cell∨env.kindOf x=some .free)∧∃c,env.cells.lookup x=some c∧h.IsCell c (some u))
structure Cx.Ok(X:Cx):Prop where
 mod:Mod X.K X.mg X.base
 kind:X.env.scope.kind=.function
 glob:X.env.globals=mainGlobals
 blt:X.env.builtins=builtinsNs
 above:X.s₀.heap.objs.size≤X.env.locals
 inj:∀x y c,X.env.cells.lookup x=some c→X.env.cells.lookup y=some c→x=y
 has:∀x,(X.env.kindOf x=some .cell∨X.env.kindOf x=some .free)→∃c,X.env.cells.lookup x=some c
 cab:∀x c,X.fn x=true→X.env.cells.lookup x=some c→X.s₀.heap.objs.size≤c
 hd:X.calm=true→X.A.handled=none
 frames:X.A.frames=some X.stack
 stk:X.stack=X.outer∨(X.stack=X.env::X.outer∧X.env.frame=some X.env.locals)
 exf:∀b∈X.ex,b≠X.env.locals∧∀x c,X.env.cells.lookup x=some c→c≠b
 bs:∀b o,X.base.get? b=some o→X.s₀.heap.get? b=some o∧X.H₀ b=none
 bsz:X.base.objs.size≤X.s₀.heap.objs.size
 noex:∀b o,X.base.get? b=some o→b∉X.ex
 exfs:∀b∈X.ex,b∉X.fs
 funs:X.s₀.heap.FunFrames X.base X.outer
 frf:∀b∈X.fs,X.H₀ b=none
structure Inv(X:Cx)(pins:List (Addr×Obj))(σ:List (Option V))(H:Hp)(s:Shared):Prop where
 ok:X.Ok
 os:s.os=X.s₀.os
 bare:AllBare s.gens
 base:Un X.fs X.ex X.H₀ H X.s₀.heap s.heap
 loc:∃m,s.heap.Ns X.env.locals m∧∀(i:Nat)(x:Str)(v:V),X.N[i]?=some x→σ[i]?=some (some v)→Vis X.env.scope x→∃u,RelV v u∧Look X.env s.heap m x u
 cell:∀x c,X.env.cells.lookup x=some c→∃v,s.heap.IsCell c v
 free:H X.env.locals=none
 freeC:∀x c,X.env.cells.lookup x=some c→H c=none
 pin:∀p∈X.pn++pins,s.heap.get? p.1=some p.2∧H p.1=none∧p.1≠X.env.locals∧p.1∉X.fs∧∀v,p.2.data≠.cell v
 hok:HOk X.prog X.w H s.heap
 len:σ.length=X.N.length
section
variable {X:Cx} {pins:List (Addr×Obj)} {σ:List (Option V)} {H H':Hp} {s:Shared} {h':Heap}
theorem Cx.Ok.nofr(ok:X.Ok){b:Addr}{o:Obj}(e:X.base.get? b=some o):b∉X.fs:=fun hb=>by
 have:=(ok.funs.mem hb).1
 rw[e]at this;cases this
theorem Inv.bs(I:Inv X pins σ H s):∀b o,X.base.get? b=some o→s.heap.get? b=some o∧H b=none:=fun b o e=>
 ⟨I.base.keep b o (I.ok.bs b o e).1 (I.ok.bs b o e).2 (I.ok.nofr e) (I.ok.noex b o e),I.base.free b o (I.ok.bs b o e).1 (I.ok.bs b o e).2 (I.ok.noex b o e)⟩
theorem Inv.bk(I:Inv X pins σ H s):∀b o,X.base.get? b=some o→s.heap.get? b=some o:=fun b o e=>(I.bs b o e).1
theorem Inv.mod(I:Inv X pins σ H s):Mod X.K X.mg X.base:=I.ok.mod
theorem Inv.kIn(I:Inv X pins σ H s):X.K.In s.heap:=I.ok.mod.kin.keeps I.bk
theorem Inv.lt(I:Inv X pins σ H s):X.env.locals < s.heap.objs.size:=let ⟨_,hn,_⟩:=I.loc;hn.lt
theorem Inv.sz(I:Inv X pins σ H s):X.s₀.heap.objs.size≤s.heap.objs.size:=Nat.le_trans I.ok.above (Nat.le_of_lt I.lt)
theorem Inv.nofs(I:Inv X pins σ H s){a:Addr}(h:s.heap.objs.size≤a):a∉X.fs:=fun hb=>by
 obtain ⟨_,o,ho,_⟩:=I.ok.funs.mem hb
 exact absurd (Nat.lt_of_lt_of_le (Heap.lt_size ho) (Nat.le_trans I.sz h)) (Nat.lt_irrefl _)
theorem Inv.cne(I:Inv X pins σ H s):∀x c,X.env.cells.lookup x=some c→c≠X.env.locals:=fun x c e z=>by
 obtain ⟨v,o,ho,hd⟩:=I.cell x c e
 obtain ⟨m,⟨o',es,ep,ho',hd',_⟩,_⟩:=I.loc
 rw[z,ho']at ho;cases ho;rw[hd']at hd;cases hd
theorem Inv.funs(I:Inv X pins σ H s):s.heap.FunFrames X.base X.outer:=by
 have all:∀(l:List Env),(∀b∈frs l,b∈X.fs)→X.s₀.heap.FunFrames X.base l→s.heap.FunFrames X.base l:=by
  intro l
  induction l with
  |nil=>intro _ _;trivial
  |cons env r ih=>
   intro hs hl
   obtain ⟨hk,⟨L,o,hf,hn,ho,hd⟩,hr⟩:=hl
   have hL:L∈X.fs:=hs L (by unfold frs;rw[List.filterMap_cons,hf];exact List.mem_cons_self)
   obtain ⟨sl,e⟩:=I.base.slot L o ho (I.ok.frf L hL) hL fun z=>I.ok.exfs L z hL
   exact ⟨hk,⟨L,_,hf,hn,e,hd⟩,ih (fun b hb=>hs b (by unfold frs;rw[List.filterMap_cons,hf];exact List.mem_cons_of_mem _ hb)) hr⟩
 exact all X.outer (fun _ hb=>hb) I.ok.funs
theorem Inv.stack(I:Inv X pins σ H s):s.heap.FunFrames X.base X.stack:=by
 rcases I.ok.stk with e |⟨e,hf⟩
 ·rw[e];exact I.funs
 ·rw[e]
  obtain ⟨m,hn,_⟩:=I.loc
  refine .cons (by rw[I.ok.kind];decide) hf hn ?_ I.funs
  exact Heap.get?_none_of_le (Nat.le_trans I.ok.bsz I.ok.above)
theorem Inv.stkSub(I:Inv X pins σ H s):∀b∈frs X.stack,b∈X.env.locals::X.fs:=fun b hb=>by
 rcases I.ok.stk with e |⟨e,hf⟩
 ·rw[e]at hb;exact List.mem_cons_of_mem _ hb
 ·rw[e]at hb
  unfold frs at hb
  rw[List.filterMap_cons,hf]at hb
  exact hb
theorem Inv.stkFree(I:Inv X pins σ H s):∀b∈frs X.stack,H b=none:=fun b hb=>by
 rcases List.mem_cons.mp (I.stkSub b hb) with e |hb
 ·rw[e];exact I.free
 ·obtain ⟨_,o,ho,_⟩:=I.ok.funs.mem hb
  exact I.base.free b o ho (I.ok.frf b hb) fun z=>I.ok.exfs b z hb
theorem Inv.step{g':Array GenState}{t':Nat}{d':Drawn}{ch:List Addr}(I:Inv X pins σ H s)
  (hch:∀b∈ch,(b∈X.ex∨X.s₀.heap.objs.size≤b)∧b≠X.env.locals∧(∀x c,X.env.cells.lookup x=some c→c≠b)∧∀p∈X.pn++pins,p.1≠b)
  (keep:∀b o,b≠X.env.locals→b∉X.fs→b∉ch→s.heap.get? b=some o→H b=none→h'.get? b=some o)
  (slot:∀b o,b≠X.env.locals→b∈X.fs→b∉ch→s.heap.get? b=some o→H b=none→∃sl,h'.get? b=some { o with slots:=sl }) (free:∀b o,b∉ch→s.heap.get? b=some o→H b=none→H' b=none)
  (there:∀b o,b∉ch→s.heap.get? b=some o→∃o',h'.get? b=some o')
  (tups:∀b xs,H b=some (.tup xs)→H' b=some (.tup xs)) (frzs:∀b o u,H b=some (.frz o u)→H' b=some (.frz o u)) (tbls:∀b ps,H b=some (.tbl ps)→∃more,H' b=some (.tbl (ps++more)))
  (ns:∀m,s.heap.Ns X.env.locals m→h'.Ns X.env.locals m) (hok:HOk X.prog X.w H' h') (hg:AllBare g'):
  Inv X pins σ H' { s with heap:=h',gens:=g',drawn:=d',toks:=t' }:=by
 have neL:∀b o,X.s₀.heap.get? b=some o→b≠X.env.locals:=fun b o e=>Nat.ne_of_lt (Nat.lt_of_lt_of_le (Heap.lt_size e) I.ok.above)
 have neC:∀b o,X.s₀.heap.get? b=some o→b∉X.ex→b∉ch:=fun b o e hx hb=>by
  rcases (hch b hb).1 with z |z
  ·exact hx z
  ·exact absurd (Nat.lt_of_lt_of_le (Heap.lt_size e) z) (Nat.lt_irrefl _)
 have cellK:∀x c,X.env.cells.lookup x=some c→∀v,s.heap.IsCell c v→h'.IsCell c v:=fun x c e v ⟨o,ho,hd⟩=>by
  have nch:c∉ch:=fun z=>(hch c z).2.2.1 x c e rfl
  by_cases hc:c∈X.fs
  ·obtain ⟨sl,q⟩:=slot c o (I.cne x c e) hc nch ho (I.freeC x c e)
   exact ⟨_,q,hd⟩
  ·exact ⟨o,keep c o (I.cne x c e) hc nch ho (I.freeC x c e),hd⟩
 refine ⟨I.ok,I.os,hg,⟨fun b o e n hb hx=>?_,fun b o e n hb hx=>?_,fun b o e n hx=>?_,fun b o e hx=>?_,fun b xs e=>tups b xs (I.base.tups b xs e),fun b o xs e=>frzs b o xs (I.base.frzs b o xs e),fun b ps e=>?_⟩,?_,fun x c e=>?_,?_,fun x c e=>?_,fun p hp=>?_,hok,I.len⟩
 ·exact keep b o (neL b o e) hb (neC b o e hx) (I.base.keep b o e n hb hx) (I.base.free b o e n hx)
 ·obtain ⟨sl,e1⟩:=I.base.slot b o e n hb hx
  obtain ⟨sl',e2⟩:=slot b _ (neL b o e) hb (neC b o e hx) e1 (I.base.free b o e n hx)
  exact ⟨sl',e2⟩
 ·obtain ⟨o',e1⟩:=I.base.there b o e hx
  exact free b o' (neC b o e hx) e1 (I.base.free b o e n hx)
 ·obtain ⟨o',e1⟩:=I.base.there b o e hx
  exact there b o' (neC b o e hx) e1
 ·obtain ⟨m1,e1⟩:=I.base.tbls b ps e
  obtain ⟨m2,e2⟩:=tbls b _ e1
  exact ⟨m1++m2,by rw[e2,Array.append_assoc]⟩
 ·obtain ⟨m,hn,hl⟩:=I.loc
  refine ⟨m,ns m hn,fun i x v e1 e2 e3=>?_⟩
  obtain ⟨u,r,l⟩:=hl i x v e1 e2 e3
  refine ⟨u,r,?_⟩
  rcases l with l |⟨k,c,e,z⟩
  ·exact .inl l
  ·exact .inr ⟨k,c,e,cellK x c e _ z⟩
 ·obtain ⟨v,z⟩:=I.cell x c e
  exact ⟨v,cellK x c e v z⟩
 ·obtain ⟨m,⟨o,_,_,ho,_⟩,_⟩:=I.loc
  exact free _ o (fun z=>(hch _ z).2.1 rfl) ho I.free
 ·obtain ⟨v,o,ho,hd⟩:=I.cell x c e
  exact free c o (fun z=>(hch c z).2.2.1 x c e rfl) ho (I.freeC x c e)
 ·obtain ⟨e,n,ne,nf,d⟩:=I.pin p hp
  have nch:p.1∉ch:=fun z=>(hch p.1 z).2.2.2 p hp rfl
  exact ⟨keep p.1 p.2 ne nf nch e n,free p.1 p.2 nch e n,ne,nf,d⟩
theorem Inv.un{t':Nat}(I:Inv X pins σ H s)(u:Un X.fs [] H H' s.heap h')(hok:HOk X.prog X.w H' h'):Inv X pins σ H' { s with heap:=h',toks:=t' }:=by
 obtain ⟨m,⟨o,es,ep,ho,r⟩,_⟩:=id I.loc
 obtain ⟨sl,hL⟩:=u.any ho I.free (by simp)
 exact I.step (g':=s.gens) (d':=s.drawn) (ch:=[]) (fun _ z=>nomatch z) (fun b o _ hb _ e n=>u.keep b o e n hb (by simp)) (fun b o _ hb _ e n=>u.slot b o e n hb (by simp)) (fun b o _ e n=>u.free b o e n (by simp)) (fun b o _ e=>u.there b o e (by simp)) u.tups u.frzs u.tbls (fun m' hm=>by
  obtain ⟨o',es',ep',ho',r'⟩:=hm
  rw[ho]at ho';cases ho'
  exact ⟨_,es',ep',hL,r'⟩) hok I.bare
theorem Inv.call{g':Array GenState}{t':Nat}{d':Drawn}{ch:List Addr}(I:Inv X pins σ H s)(u:Un (frs X.stack) ch H H' s.heap h')(hok:HOk X.prog X.w H' h')(hg:AllBare g')
  (hch:∀b∈ch,(b∈X.ex∨X.s₀.heap.objs.size≤b)∧b≠X.env.locals∧(∀x c,X.env.cells.lookup x=some c→c≠b)∧∀p∈X.pn++pins,p.1≠b):
  Inv X pins σ H' { s with heap:=h',gens:=g',drawn:=d',toks:=t' }:=by
 obtain ⟨m,⟨o,es,ep,ho,r⟩,_⟩:=id I.loc
 obtain ⟨sl,hL⟩:=u.any ho I.free fun z=>(hch _ z).2.1 rfl
 exact I.step (ch:=ch) hch (fun b o hL hb hc e n=>u.keep b o e n (fun z=>(List.mem_cons.mp (I.stkSub b z)).elim hL hb) hc) (fun b o _ _ hc e n=>u.any e n hc) (fun b o hc e n=>u.free b o e n hc) (fun b o hc e=>u.there b o e hc) u.tups u.frzs u.tbls (fun m' hm=>by
  obtain ⟨o',es',ep',ho',r'⟩:=hm
  rw[ho]at ho';cases ho'
  exact ⟨_,es',ep',hL,r'⟩) hok hg
theorem Inv.turned{t':Nat}{it:Addr}(I:Inv X pins σ H s)(k:∀b o,b≠it→s.heap.get? b=some o→h'.get? b=some o)(hn:H it=none)(hL:it≠X.env.locals)
  (h1:it∈X.ex∨X.s₀.heap.objs.size≤it) (h2:∀x c,X.env.cells.lookup x=some c→c≠it) (h3:∀p∈X.pn++pins,p.1≠it):Inv X pins σ H { s with heap:=h',toks:=t' }:=by
 have nit:∀b u,H b=some u→b≠it:=fun b u e z=>by rw[z,hn]at e;cases e
 refine I.step (g':=s.gens) (d':=s.drawn) (ch:=[it]) (fun b hb=>?_) (fun b o _ _ hc e _=>k b o (fun z=>hc (by simp[z])) e) (fun b o _ _ hc e _=>⟨o.slots,k b o (fun z=>hc (by simp[z])) e⟩) (fun _ _ _ _ n=>n)
  (fun b o hc e=>⟨o,k b o (fun z=>hc (by simp[z])) e⟩) (fun _ _ e=>e) (fun _ _ _ e=>e) (fun b ps e=>⟨#[],by rw[e];simp⟩) (fun m hm=>?_) (fun b u e=>?_) I.bare
 ·have e:b=it:=by simpa using hb
  subst e
  exact ⟨h1,hL,h2,h3⟩
 ·obtain ⟨o,es,ep,ho,r⟩:=hm
  exact ⟨o,es,ep,k _ o (Ne.symm hL) ho,r⟩
 ·refine (I.hok b u e).stay (fun c v hc q=>k c v ?_ q) (fun _ q=>q) fun _ _ q=>q
  rcases hc with z |z
  ·rw[z];exact nit b u e
  ·exact nit c _ z
theorem Inv.tok(I:Inv X pins σ H s)(t:Nat):Inv X pins σ H { s with toks:=t }:=I.un (h':=s.heap) (t':=t) Un.refl I.hok
theorem Inv.kept{t':Nat}(I:Inv X pins σ H s)(k:∀b u,s.heap.get? b=some u→h'.get? b=some u):Inv X pins σ H { s with heap:=h',toks:=t' }:=I.un (Un.kept k) (I.hok.kept k)
theorem Inv.laid{a:Addr}{o:HO}{t':Nat}(I:Inv X pins σ H s)(k:∀b u,s.heap.get? b=some u→h'.get? b=some u)(hp:s.heap.objs.size≤a)(new:ObjOk X.prog X.w (upd H a o) h' a o):
  Inv X pins σ (upd H a o) { s with heap:=h',toks:=t' }:=I.un (Un.laid k hp (I.hok.fresh hp)) (I.hok.laid k hp new)
theorem Inv.write{x e:Addr}{o:HO}{t':Nat}(I:Inv X pins σ H s)(mu:Mut (H x))(he:e=x∨H e=some (.own x))(k:∀b u,b≠e→s.heap.get? b=some u→h'.get? b=some u)(heo:∃u,h'.get? e=some u)
  (new:ObjOk X.prog X.w (upd H x o) h' x o):Inv X pins σ (upd H x o) { s with heap:=h',toks:=t' }:=I.un (Un.write mu he k heo) (I.hok.write mu he k heo new)
theorem Inv.pins_of{pins':List (Addr×Obj)}(I:Inv X pins σ H s)(h:∀p∈pins',s.heap.get? p.1=some p.2∧H p.1=none∧p.1≠X.env.locals∧p.1∉X.fs∧∀v,p.2.data≠.cell v):Inv X pins' σ H s:=
 ⟨I.ok,I.os,I.bare,I.base,I.loc,I.cell,I.free,I.freeC,fun p hp=>(List.mem_append.mp hp).elim (fun z=>I.pin p (List.mem_append_left _ z)) (h p),I.hok,I.len⟩
theorem rM{N:List Str}(hN:N.Nodup){i j:Nat}{x:Str}(a:N[i]?=some x)(b:N[j]?=some x):i=j:=by
 obtain ⟨h1,e1⟩:=List.getElem?_eq_some_iff.mp a
 obtain ⟨h2,e2⟩:=List.getElem?_eq_some_iff.mp b
 exact (List.getElem_inj hN).mp (e1.trans e2.symm)
theorem Nz{M:Model}{A:Around}{E:Value→Shared→Prop}{i:Nat}{x:Str}{v:V}{u:Value}{Q:Unit→Shared→Prop}(I:Inv X pins σ H s)(hN:X.N.Nodup)(hi:X.N[i]?=some x)(hx:Loc X.env.scope x)(r:RelV v u)
  (h:∀s',Inv X pins (σ.set i (some v)) H s'→(∃a,Heap.SameBut a s.heap s'.heap∧(a=X.env.locals∨X.env.cells.lookup x=some a))→Q () s') (hf:X.fn x=true∨X.env.scope.names.lookup x=some .local:=by first |exact .inl rfl |exact .inr rfl |assumption):wpAny M A (storeName X.env x u) Q E s:=by
 obtain ⟨m,hn,hl⟩:=id I.loc
 have hcls:(X.env.scope.kind==.class||(X.env.scope.kind==.module&&X.env.locals != X.env.globals))=false:=by rw[I.ok.kind];rfl
 have hiσ:i < σ.length:=by rw[I.len];exact (List.getElem?_eq_some_iff.mp hi).1
 have cne:=I.cne
 have tracked:∀{a:Addr}{h':Heap},(∃o,s.heap.get? a=some o∧H a=none)→Heap.SameBut a s.heap h'→HOk X.prog X.w H h':=fun {a h'} ha hs b ob e=>by
  obtain ⟨_,_,hfree⟩:=ha
  refine (I.hok b ob e).stay (fun c w' hc q=>(hs.2 c ?_).trans q) (fun _ q=>q) fun _ _ q=>q
  rintro rfl
  rcases hc with rfl |hc
  ·rw[hfree]at e;cases e
  ·rw[hfree]at hc;cases hc
 rcases hx with hk |hk
 ·refine wpAny_storeName_local hk hn (fun h' hn' hs=>?_) hcls
  obtain ⟨oL,_,_,hoL,_⟩:=id hn
  refine h _ ⟨I.ok,I.os,I.bare,⟨fun b o e n hb hx=>?_,fun b o e n hb hx=>?_,I.base.free,fun b o e hx=>?_,I.base.tups,I.base.frzs,I.base.tbls⟩,⟨_,hn',fun j y v' e1 e2 e3=>?_⟩,fun y c e=>?_,I.free,I.freeC,fun p hp=>?_,tracked ⟨oL,hoL,I.free⟩ hs,by simpa using I.len⟩ ⟨_,hs,.inl rfl⟩
  ·exact (hs.2 b (Nat.ne_of_lt (Nat.lt_of_lt_of_le (Heap.lt_size e) I.ok.above))).trans (I.base.keep b o e n hb hx)
  ·obtain ⟨sl,e1⟩:=I.base.slot b o e n hb hx
   exact ⟨sl,(hs.2 b (Nat.ne_of_lt (Nat.lt_of_lt_of_le (Heap.lt_size e) I.ok.above))).trans e1⟩
  ·obtain ⟨o',e1⟩:=I.base.there b o e hx
   exact ⟨o',(hs.2 b (Nat.ne_of_lt (Nat.lt_of_lt_of_le (Heap.lt_size e) I.ok.above))).trans e1⟩
  ·by_cases hj:j=i
   ·subst hj
    rw[hi]at e1;cases e1
    rw[List.getElem?_set_self hiσ]at e2
    cases e2
    exact ⟨u,r,.inl ⟨hk,by simp⟩⟩
   ·rw[List.getElem?_set_ne (Ne.symm hj)]at e2
    obtain ⟨u',r',q⟩:=hl j y v' e1 e2 e3
    refine ⟨u',r',?_⟩
    rcases q with ⟨k,e⟩ |⟨k,c,e,z⟩
    ·refine .inl ⟨k,?_⟩
     have:y≠x:=fun e=>hj (rM hN e1 (e ▸ hi))
     simp[this,e]
    ·exact .inr ⟨k,c,e,z.sameBut hs (cne y c e)⟩
  ·obtain ⟨w',z⟩:=I.cell y c e
   exact ⟨w',z.sameBut hs (cne y c e)⟩
  ·obtain ⟨e,n,ne,nf,d⟩:=I.pin p hp
   exact ⟨(hs.2 p.1 ne).trans e,n,ne,nf,d⟩
 ·have hfn:X.fn x=true:=by
   rcases hf with z |z
   ·exact z
   ·rw[z]at hk;cases hk
  obtain ⟨c,hc⟩:=I.ok.has x (.inl hk)
  obtain ⟨w',z⟩:=I.cell x c hc
  refine wpAny_storeName_cell I.ok.kind hk hc z (fun h' hc' hs=>?_)
  obtain ⟨oc,hoc,hocd⟩:=id z
  refine h { s with heap:=h' } ⟨I.ok,I.os,I.bare,⟨fun b o e n hb hx=>?_,fun b o e n hb hx=>?_,I.base.free,fun b o e hx=>?_,I.base.tups,I.base.frzs,I.base.tbls⟩,⟨m,hn.sameBut hs (Ne.symm (cne x c hc)),fun j y v' e1 e2 e3=>?_⟩,fun y c' e=>?_,I.free,I.freeC,fun p hp=>?_,tracked ⟨oc,hoc,I.freeC x c hc⟩ hs,by simpa using I.len⟩ ⟨c,hs,.inr hc⟩
  ·exact (hs.2 b (Nat.ne_of_lt (Nat.lt_of_lt_of_le (Heap.lt_size e) (I.ok.cab x c hfn hc)))).trans (I.base.keep b o e n hb hx)
  ·obtain ⟨sl,e1⟩:=I.base.slot b o e n hb hx
   exact ⟨sl,(hs.2 b (Nat.ne_of_lt (Nat.lt_of_lt_of_le (Heap.lt_size e) (I.ok.cab x c hfn hc)))).trans e1⟩
  ·obtain ⟨o',e1⟩:=I.base.there b o e hx
   exact ⟨o',(hs.2 b (Nat.ne_of_lt (Nat.lt_of_lt_of_le (Heap.lt_size e) (I.ok.cab x c hfn hc)))).trans e1⟩
  ·by_cases hj:j=i
   ·subst hj
    rw[hi]at e1;cases e1
    rw[List.getElem?_set_self hiσ]at e2
    cases e2
    exact ⟨u,r,.inr ⟨.inl hk,c,hc,hc'⟩⟩
   ·rw[List.getElem?_set_ne (Ne.symm hj)]at e2
    obtain ⟨u',r',q⟩:=hl j y v' e1 e2 e3
    refine ⟨u',r',?_⟩
    rcases q with q |⟨k,c',e,z'⟩
    ·exact .inl q
    ·refine .inr ⟨k,c',e,z'.sameBut hs ?_⟩
     rintro rfl
     exact hj (rM hN e1 (I.ok.inj _ _ _ e hc ▸ hi))
  ·by_cases hcc:c'=c
   ·subst hcc;exact ⟨_,hc'⟩
   ·obtain ⟨w2,z2⟩:=I.cell y c' e
    exact ⟨w2,z2.sameBut hs hcc⟩
  ·obtain ⟨e,n,ne,nf,d⟩:=I.pin p hp
   refine ⟨(hs.2 p.1 ?_).trans e,n,ne,nf,d⟩
   intro q
   rw[q,hoc]at e
   have q':oc=p.2:=Option.some.inj e
   exact d w' (by rw[←q'];exact hocd)
theorem jj{M:Model}{A:Around}{E:Value→Shared→Prop}{i:Nat}{x:Str}{v:V}{u:Value}{Q:Unit→Shared→Prop}(I:Inv X pins σ H s)(hN:X.N.Nodup)(hi:X.N[i]?=some x)(hx:Loc X.env.scope x)(r:RelV v u)
  (h:∀s',Inv X pins (σ.set i (some v)) H s'→Q () s') (hf:X.fn x=true∨X.env.scope.names.lookup x=some .local:=by first |exact .inl rfl |exact .inr rfl |assumption):wpAny M A (storeName X.env x u) Q E s:=
 Nz I hN hi hx r (fun s' I' _=>h s' I') hf
theorem Inv.call'{s':Shared}{ch:List Addr}(I:Inv X pins σ H s)(ho:s'.os=s.os)(u:Un (frs X.stack) ch H H' s.heap s'.heap)(hok:HOk X.prog X.w H' s'.heap)(hg:AllBare s'.gens)
  (hch:∀b∈ch,(b∈X.ex∨X.s₀.heap.objs.size≤b)∧b≠X.env.locals∧(∀x c,X.env.cells.lookup x=some c→c≠b)∧∀p∈X.pn++pins,p.1≠b):Inv X pins σ H' s':=by
 obtain ⟨h',g',d',t',o'⟩:=s'
 have e:o'=s.os:=ho
 subst e
 exact I.call (g':=g') (t':=t') (d':=d') u hok hg hch
end
abbrev XK:=Value→Option Addr→Hp→Prop
abbrev St:=List (Option V)
abbrev VK:=V→Hp→Prop
abbrev TE:=St→Hp→VK→Prop
abbrev TT:=St→Hp→(Bool→Hp→Prop)→Prop
abbrev TA:=St→Hp→(List V→Hp→Prop)→Prop
structure Ends where
 nx:St→Hp→Prop
 rt:VK
 bk:St→Hp→Prop:=fun _ _=>False
 ct:St→Hp→Prop:=fun _ _=>False
abbrev TS:=Ends→St→Hp→Prop
def EP(X:Cx)(pins:List (Addr×Obj))(σ:St)(Q:VK)(u:Value)(s':Shared):Prop:=∃v H',Inv X pins σ H' s'∧RelV v u∧Q v H'
def TP(X:Cx)(pins:List (Addr×Obj))(σ:St)(Q:Bool→Hp→Prop)(b:Bool)(s':Shared):Prop:=∃H',Inv X pins σ H' s'∧Q b H'
def AP(X:Cx)(pins:List (Addr×Obj))(σ:St)(Q:List V→Hp→Prop)(us:List Value)(s':Shared):Prop:=∃vs H',Inv X pins σ H' s'∧Vals vs us∧Q vs H'
def SP(X:Cx)(pins:List (Addr×Obj))(D:Ends)(f:Flow)(s':Shared):Prop:=
 match f with
 |.next=>∃σ' H',Inv X pins σ' H' s'∧D.nx σ' H'
 |.brk=>∃σ' H',Inv X pins σ' H' s'∧D.bk σ' H'
 |.cont=>∃σ' H',Inv X pins σ' H' s'∧D.ct σ' H'
 |.ret u=>∃v σ' H',Inv X pins σ' H' s'∧RelV v u∧D.rt v H'
def PE(X:Cx)(e:Expr)(t:TE):Prop:=
 ∀(pins:List (Addr×Obj))(s:Shared)(σ:St)(H:Hp)(Q:VK),Inv X pins σ H s→t σ H Q→wpAny (model X.prog X.w) X.A (eval e X.env) (EP X pins σ Q) X.xe s
def PT(X:Cx)(e:Expr)(t:TT):Prop:=
 ∀(pins:List (Addr×Obj))(s:Shared)(σ:St)(H:Hp)(Q:Bool→Hp→Prop),Inv X pins σ H s→t σ H Q→wpAny (model X.prog X.w) X.A (isTrue e X.env (eval e X.env)) (TP X pins σ Q) X.xe s
def PW(X:Cx)(e:Expr)(t:TT):Prop:=
 ∀(whole:Sem Value)(pins:List (Addr×Obj))(s:Shared)(σ:St)(H:Hp)(Q:Bool→Hp→Prop),Inv X pins σ H s→t σ H Q→wpAny (model X.prog X.w) X.A (isTrue e X.env whole) (TP X pins σ Q) X.xe s
theorem PW.pt{X:Cx}{e:Expr}{t:TT}(h:PW X e t):PT X e t:=h _
def PA(X:Cx)(es:List Expr)(t:TA):Prop:=
 ∀(pos:Pos)(pins:List (Addr×Obj))(s:Shared)(σ:St)(H:Hp)(Q:List V→Hp→Prop),Inv X pins σ H s→t σ H Q→wpAny (model X.prog X.w) X.A (spliced (backTo pos (starEach es X.env))) (AP X pins σ Q) X.xe s
def PS(X:Cx)(st:Stmt)(t:TS):Prop:=
 ∀(pins:List (Addr×Obj))(s:Shared)(σ:St)(H:Hp)(D:Ends),Inv X pins σ H s→t D σ H→wpAny (model X.prog X.w) X.A (exec st X.env) (SP X pins D) X.xe s
def PSs(X:Cx)(st:List Stmt)(t:TS):Prop:=
 ∀(pins:List (Addr×Obj))(s:Shared)(σ:St)(H:Hp)(D:Ends),Inv X pins σ H s→t D σ H→wpAny (model X.prog X.w) X.A (execs st X.env) (SP X pins D) X.xe s
theorem thn{α:Type}{t:Sem α}{Q Q':α→Shared→Prop}{M:Model}{A:Around}{E:Value→Shared→Prop}{s:Shared}(h:wpAny M A t Q E s)(hQ:∀a s,Q a s→Q' a s):wpAny M A t Q' E s:=wpAny_mono h hQ fun _ _ x=>x
end L2
namespace L2
open PySem PySem.Spec PyProof.Rows
section
variable {X:Cx}
theorem bin{a b:Expr}{ta tb:TE}(ha:PE X a ta)(hb:PE X b tb){pins:List (Addr×Obj)}{s:Shared}{σ:St}{H:Hp}{R:V→V→Hp→Prop}(I:Inv X pins σ H s)(h:ta σ H fun x H1=>tb σ H1 fun y H2=>R x y H2)
  {α:Type} {Q:α→Shared→Prop} {f:Value→Value→Sem α}
  (hf:∀v u s2 x y H2,Inv X pins σ H2 s2→RelV x v→RelV y u→R x y H2→wpAny (model X.prog X.w) X.A (f v u) Q X.xe s2):
  wpAny (model X.prog X.w) X.A (eval a X.env) (fun v s₁=>wpAny (model X.prog X.w) X.A (eval b X.env) (fun u s₂=>wpAny (model X.prog X.w) X.A (f v u) Q X.xe s₂) X.xe s₁) X.xe s:=by
 refine thn (ha pins s σ H _ I h) fun v s1 ⟨x,H1,I1,r1,q1⟩=>?_
 refine thn (hb pins s1 σ H1 _ I1 q1) fun u s2 ⟨y,H2,I2,r2,q2⟩=>?_
 exact hf v u s2 x y H2 I2 r1 r2 q2
def NB(i:Nat):TE:=fun σ H Q=>∃v,σ[i]?=some (some v)∧Q v H
def tC(v:V):TE:=fun _ H Q=>Q v H
theorem wO {i:Nat} {x:Str} {pos:Pos} (hN:X.N[i]?=some x) (hv:Vis X.env.scope x) (hd:(x==("__debug__":Str))=false:=by decide) (hcd:(x==("__classdict__":Str))=false:=by decide):PE X (.Name x pos) (NB i):=by
 intro pins s σ H Q I h
 obtain ⟨v,e,h⟩:=h
 obtain ⟨m,hn,hl⟩:=I.loc
 obtain ⟨u,r,l⟩:=hl i x v hN e hv
 have fin:EP X pins σ Q u s:=⟨v,H,I,r,h⟩
 rcases l with ⟨hk,hm⟩ |⟨hk,c,hc,hcell⟩
 ·exact wpAny_Name (wpAny_loadName_local I.ok.kind hk hn hm fin) hd
 ·rcases hk with hk |hk
  ·exact wpAny_Name (wpAny_loadName_cell I.ok.kind hk hc hcell fin) hd
  ·exact wpAny_Name (wpAny_loadName_free I.ok.kind hk hc hcell fin hcd) hd
theorem NK{i j pos}:PE X (.Constant (.int i) j pos) (tC (.int i)):=fun _ _ _ H _ I h=>wpAny_Constant_int ⟨.int i,H,I.tok _,⟨_,rfl⟩,h⟩
theorem wQ{b j pos}:PE X (.Constant (.bool b) j pos) (tC (.bl b)):=fun _ _ _ H _ I h=>Constant_bool ⟨.bl b,H,I,rfl,h⟩
theorem NQ{j pos}:PE X (.Constant .none j pos) (tC .non):=fun _ _ _ H _ I h=>Constant_none ⟨.non,H,I,rfl,h⟩
theorem wR{x j pos}:PE X (.Constant (.str x) j pos) (tC (.str x)):=fun _ _ _ H _ I h=>Calls.Constant_str ⟨.str x,H,I.tok _,⟨_,rfl⟩,h⟩
def Gl(X:Cx)(x:Str):Prop:=X.env.kindOf x=some .globalImplicit
theorem fY{E:Value→Shared→Prop}{pins:List (Addr×Obj)}{s:Shared}{σ:St}{H:Hp}{x:Str}{u:Value}{pos:Pos}{Q:Value→Shared→Prop}(I:Inv X pins σ H s)(hg:Gl X x)(hm:X.mg x=some u)(h:Q u s)
  (hd:(x==("__debug__":Str))=false:=by decide):wpAny (model X.prog X.w) X.A (eval (.Name x pos) X.env) Q E s:=
 Calls.Name_function_global I.ok.kind hg (Calls.loadGlobal_global (by rw[I.ok.glob];exact I.mod.glob.keeps I.bk) hm h) hd
theorem gQ{E:Value→Shared→Prop}{pins:List (Addr×Obj)}{s:Shared}{σ:St}{H:Hp}{x:Str}{u:Value}{pos:Pos}{Q:Value→Shared→Prop}(I:Inv X pins σ H s)(hg:Gl X x)(hm:X.mg x=none)(hv:bootBuiltins x=some u)(h:Q u s)
  (hn:x≠"__name__":=by decide) (hd:(x==("__debug__":Str))=false:=by decide):wpAny (model X.prog X.w) X.A (eval (.Name x pos) X.env) Q E s:=by
 obtain ⟨mb,h1,h2⟩:=I.mod.blt
 exact Calls.Name_function_global I.ok.kind hg (Calls.loadGlobal_builtin (by rw[I.ok.glob];exact I.mod.glob.keeps I.bk) hm (by rw[I.ok.blt];exact h1.keeps I.bk) ((h2 x hn).trans hv) h) hd
theorem wU {x:Str} {v:V} {u:Value} {pos:Pos} (hg:Gl X x) (hm:X.mg x=some u) (r:RelV v u) (hd:(x==("__debug__":Str))=false:=by decide):PE X (.Name x pos) (tC v):=
 fun _ _ _ H _ I h=>fY I hg hm ⟨v,H,I,r,h⟩ hd
theorem NT {x:Str} {v:V} {u:Value} {pos:Pos} (hg:Gl X x) (hm:X.mg x=none) (hv:bootBuiltins x=some u) (r:RelV v u) (hn:x≠"__name__":=by decide) (hd:(x==("__debug__":Str))=false:=by decide):PE X (.Name x pos) (tC v):=
 fun _ _ _ H _ I h=>gQ I hg hm hv ⟨v,H,I,r,h⟩ hn hd
variable {a b:Expr} {ta tb:TE} {pos:Pos}
variable {tA tB':TT} {rest:List Expr}
def NZ(t u:TT):TT:=fun σ H Q=>t σ H fun c H1=>if c=true then u σ H1 Q else Q false H1
def tOr(t u:TT):TT:=fun σ H Q=>t σ H fun c H1=>if c=true then Q true H1 else u σ H1 Q
def N5(t:TT):TT:=fun σ H Q=>t σ H fun c H1=>Q (!c) H1
theorem N6(ha:PT X a tA):PW X (.BoolOp .And [a] pos) tA:=by
 intro wh pins s σ H Q I h
 refine isTrue_and (thn (ha pins s σ H Q I h) fun c s1 e=>?_)
 cases c with
 |true=>exact isTrue_and_nil e
 |false=>exact e
theorem N7(ha:PT X a tA):PW X (.BoolOp .Or [a] pos) tA:=by
 intro wh pins s σ H Q I h
 refine isTrue_or (thn (ha pins s σ H Q I h) fun c s1 e=>?_)
 cases c with
 |false=>exact isTrue_or_nil e
 |true=>exact e
theorem N8(ha:PT X a tA)(hb:PW X (.BoolOp .And (b::rest) pos) tB'):PW X (.BoolOp .And (a::b::rest) pos) (NZ tA tB'):=by
 intro wh pins s σ H Q I h
 refine isTrue_and (thn (ha pins s σ H _ I h) fun c s1 ⟨H1,I1,q1⟩=>?_)
 cases c with
 |true=>exact hb wh pins s1 σ H1 Q I1 q1
 |false=>exact ⟨H1,I1,q1⟩
theorem Oa(ha:PT X a tA)(hb:PW X (.BoolOp .Or (b::rest) pos) tB'):PW X (.BoolOp .Or (a::b::rest) pos) (tOr tA tB'):=by
 intro wh pins s σ H Q I h
 refine isTrue_or (thn (ha pins s σ H _ I h) fun c s1 ⟨H1,I1,q1⟩=>?_)
 cases c with
 |true=>exact ⟨H1,I1,q1⟩
 |false=>exact hb wh pins s1 σ H1 Q I1 q1
theorem Ob(ha:PT X a tA):PT X (.UnaryOp .Not a pos) (N5 tA):=by
 intro pins s σ H Q I h
 exact isTrue_not (ha pins s σ H (fun c H1=>Q (!c) H1) I h)
def Oc(ta tb:TE):TE:=fun σ H Q=>ta σ H fun x H1=>∃c,x=.bl c∧if c=true then tb σ H1 Q else Q (.bl false) H1
def Od(ta tb:TE):TE:=fun σ H Q=>ta σ H fun x H1=>∃c,x=.bl c∧if c=true then Q (.bl true) H1 else tb σ H1 Q
theorem Oe{op}{t:TE}(h:PE X a t):PE X (.BoolOp op [a] pos) t:=fun pins s σ H Q I hw=>BoolOp_one (h pins s σ H Q I hw)
theorem Og(ha:PE X a ta)(hb:PE X (.BoolOp .And (b::rest) pos) tb):PE X (.BoolOp .And (a::b::rest) pos) (Oc ta tb):=by
 intro pins s σ H Q I h
 refine BoolOp_and (thn (ha pins s σ H _ I h) fun v s1 ⟨x,H1,I1,r1,q1⟩=>?_)
 obtain ⟨c,rfl,q1⟩:=q1
 cases r1
 refine wpAny_truthy_bool ?_
 cases c with
 |true=>exact hb pins s1 σ H1 Q I1 q1
 |false=>exact ⟨.bl false,H1,I1,rfl,q1⟩
theorem Oh(ha:PE X a ta)(hb:PE X (.BoolOp .Or (b::rest) pos) tb):PE X (.BoolOp .Or (a::b::rest) pos) (Od ta tb):=by
 intro pins s σ H Q I h
 refine BoolOp_or (thn (ha pins s σ H _ I h) fun v s1 ⟨x,H1,I1,r1,q1⟩=>?_)
 obtain ⟨c,rfl,q1⟩:=q1
 cases r1
 refine wpAny_truthy_bool ?_
 cases c with
 |false=>exact hb pins s1 σ H1 Q I1 q1
 |true=>exact ⟨.bl true,H1,I1,rfl,q1⟩
end
end L2
namespace L2
open PySem PySem.Spec PyProof.Rows
def SqL(K:PySem.W.Frag)(H:Hp)(a:Addr)(xs:List V):Prop:=
 Rd H a (.lst xs)∨
  ∃(o:Obj) (its:Array Value) (n:Nat),K.lookup a=some o∧o.cls=.type "list"∧o.dict=none∧o.data=.seq its n∧its.size≤sizeLine∧Vals xs its.toList
def SqT(K:PySem.W.Frag)(H:Hp)(a:Addr)(xs:List V):Prop:=
 Rd H a (.tup xs)∨
  ∃(o:Obj) (its:Array Value) (n:Nat),K.lookup a=some o∧o.cls=.type "tuple"∧o.data=.seq its n∧its.size≤sizeLine∧Vals xs its.toList
def Oi:Value→Option V
 |.none=>some .non
 |.bool b=>some (.bl b)
 |.int i _=>some (.int i)
 |.str x _=>some (.str x)
 |.bytes b _=>some (.byt b)
 |.float b _=>some (.flt b)
 |.ref a=>some (.ref a)
 |.type n=>some (.ty n)
 |_=>none
theorem RelV.abs{x:V}{u:Value}(r:RelV x u):Oi u=some x:=by
 cases x with
 |non=>cases r;rfl
 |bl _=>cases r;rfl
 |int _=>obtain ⟨t,rfl⟩:=r;rfl
 |str _=>obtain ⟨t,rfl⟩:=r;rfl
 |byt _=>obtain ⟨t,rfl⟩:=r;rfl
 |flt _=>obtain ⟨t,rfl⟩:=r;rfl
 |ref _=>cases r;rfl
 |ty _=>cases r;rfl
theorem RelV.inj{x y:V}{u:Value}(r:RelV x u)(q:RelV y u):x=y:=Option.some.inj (r.abs.symm.trans q.abs)
theorem Vals.inj:∀{xs ys:List V}{us:List Value},Vals xs us→Vals ys us→xs=ys
 |_,_,_,.nil,.nil=>rfl
 |_,_,_,.cons r t,.cons r' t'=>by rw[r.inj r',Vals.inj t t']
section
variable {X:Cx} {pins:List (Addr×Obj)} {σ:St} {H:Hp} {s:Shared} {a:Addr} {xs ys:List V}
theorem SqL.of{K:PySem.W.Frag}(h:H a=some (.lst xs)):SqL K H a xs:=.inl (.inl h)
theorem SqT.of{K:PySem.W.Frag}(h:H a=some (.tup xs)):SqT K H a xs:=.inl (.inl h)
theorem Inv.list(I:Inv X pins σ H s)(h:SqL X.K H a xs):∃its:List Value,Vals xs its∧PlainL s.heap a its.toArray∧xs.length≤sizeLine:=by
 rcases h with h |⟨o,its,n,hk,hc,hd,hs,hz,r⟩
 ·obtain ⟨z,its,n,r,e⟩:=h.ok I.hok
  exact ⟨its,r,⟨_,n,e,rfl,rfl,rfl⟩,z⟩
 ·refine ⟨its.toList,r,⟨o,n,I.kIn a o hk,hc,hd,by simpa using hs⟩,?_⟩
  have e:=r.length
  simp only[Array.length_toList]at e
  omega
theorem Inv.tuple(I:Inv X pins σ H s)(h:SqT X.K H a xs):∃its:List Value,Vals xs its∧IsTup s.heap a its.toArray∧xs.length≤sizeLine:=by
 rcases h with h |⟨o,its,n,hk,hc,hs,hz,r⟩
 ·obtain ⟨z,its,r,p⟩:=h.ok I.hok
  exact ⟨its,r,p,z⟩
 ·refine ⟨its.toList,r,⟨o,I.kIn a o hk,hc,n,by simpa using hs⟩,?_⟩
  have e:=r.length
  simp only[Array.length_toList]at e
  omega
theorem Inv.list_inj(I:Inv X pins σ H s)(h:SqL X.K H a xs)(h':SqL X.K H a ys):xs=ys:=by
 obtain ⟨its,r,⟨o,n,e,_,_,d⟩,_⟩:=I.list h
 obtain ⟨its',r',⟨o',n',e',_,_,d'⟩,_⟩:=I.list h'
 rw[e]at e';cases e'
 rw[d]at d'
 injection d' with d1 _
 have:its=its':=by simpa using congrArg Array.toList d1
 subst this
 exact r.inj r'
theorem Inv.tuple_inj(I:Inv X pins σ H s)(h:SqT X.K H a xs)(h':SqT X.K H a ys):xs=ys:=by
 obtain ⟨its,r,⟨o,e,_,n,d⟩,_⟩:=I.tuple h
 obtain ⟨its',r',⟨o',e',_,n',d'⟩,_⟩:=I.tuple h'
 rw[e]at e';cases e'
 rw[d]at d'
 injection d' with d1 _
 have:its=its':=by simpa using congrArg Array.toList d1
 subst this
 exact r.inj r'
end
abbrev Cx.wish(X:Cx)(E:Value→Shared→Prop):Cx:={ X with xe:=E }
abbrev Cx.nox(X:Cx):Cx:=X.wish fun _ _=>False
theorem Cx.Ok.wish{X:Cx}(ok:X.Ok)(E:Value→Shared→Prop):(X.wish E).Ok:=
 ⟨ok.mod,ok.kind,ok.glob,ok.blt,ok.above,ok.inj,ok.has,ok.cab,ok.hd,ok.frames,ok.stk,ok.exf,ok.bs,ok.bsz,ok.noex,ok.exfs,ok.funs,ok.frf⟩
theorem Cx.Ok.unwish{X:Cx}{E:Value→Shared→Prop}(ok:(X.wish E).Ok):X.Ok:=
 ⟨ok.mod,ok.kind,ok.glob,ok.blt,ok.above,ok.inj,ok.has,ok.cab,ok.hd,ok.frames,ok.stk,ok.exf,ok.bs,ok.bsz,ok.noex,ok.exfs,ok.funs,ok.frf⟩
section
variable {X:Cx} {pins:List (Addr×Obj)} {σ:St} {H:Hp} {s:Shared} {E:Value→Shared→Prop}
theorem Inv.wish(I:Inv X pins σ H s)(E:Value→Shared→Prop):Inv (X.wish E) pins σ H s:=⟨I.ok.wish E,I.os,I.bare,I.base,I.loc,I.cell,I.free,I.freeC,I.pin,I.hok,I.len⟩
theorem Inv.unwish(I:Inv (X.wish E) pins σ H s):Inv X pins σ H s:=⟨I.ok.unwish,I.os,I.bare,I.base,I.loc,I.cell,I.free,I.freeC,I.pin,I.hok,I.len⟩
theorem SP.unwish{D:Ends}{f:Flow}{s':Shared}(h:SP (X.wish E) pins D f s'):SP X pins D f s':=by
 cases f with
 |next=>obtain ⟨σ',H',I,q⟩:=h;exact ⟨σ',H',I.unwish,q⟩
 |brk=>obtain ⟨σ',H',I,q⟩:=h;exact ⟨σ',H',I.unwish,q⟩
 |cont=>obtain ⟨σ',H',I,q⟩:=h;exact ⟨σ',H',I.unwish,q⟩
 |ret u=>obtain ⟨v,σ',H',I,r,q⟩:=h;exact ⟨v,σ',H',I.unwish,r,q⟩
theorem PSs.nox{st:List Stmt}{t:TS}(h:PSs X.nox st t):PSs X st t:=fun pins s σ H D I hw=>
 wpAny_mono (h pins s σ H D (I.wish _) hw) (fun _ _ q=>q.unwish) fun _ _ z=>False.elim z
end
section
variable {X:Cx} {st:Stmt} {rest:List Stmt} {t u:TS} {e:Expr} {te:TE} {pos:Pos}
def wV:TS:=fun D σ H=>D.nx σ H
def Oj(t u:TS):TS:=fun D σ H=>t { D with nx:=u D } σ H
theorem Ol:PSs X [] wV:=fun _ _ σ H _ I h=>wpAny_execs_nil ⟨σ,H,I,h⟩
theorem Om(h1:PS X st t)(h2:PSs X rest u):PSs X (st::rest) (Oj t u):=by
 intro pins s σ H D I h
 refine wpAny_execs_cons (thn (h1 pins s σ H { D with nx:=u D } I h) fun f s1 q=>?_)
 cases f with
 |next=>
  obtain ⟨σ',H',I',q⟩:=q
  exact h2 pins s1 σ' H' D I' q
 |ret v=>exact q
 |brk=>exact q
 |cont=>exact q
theorem wW(h1:PS X st t):PSs X [st] t:=by
 intro pins s σ H D I h
 refine wpAny_execs_cons (thn (h1 pins s σ H D I h) fun f s1 q=>?_)
 cases f with
 |next=>exact wpAny_execs_nil q
 |ret v=>exact q
 |brk=>exact q
 |cont=>exact q
def Oo:TS:=fun D σ H=>D.bk σ H
def Oq:TS:=fun D σ H=>D.ct σ H
theorem Ot:PS X (.Pass pos) wV:=fun _ _ σ H _ I h=>wpAny_Pass ⟨σ,H,I,h⟩
theorem Ou:PS X (.Break pos) Oo:=fun _ _ σ H _ I h=>wpAny_Break ⟨σ,H,I,h⟩
theorem Ov:PS X (.Continue pos) Oq:=fun _ _ σ H _ I h=>wpAny_Continue ⟨σ,H,I,h⟩
theorem Inv.quiet{pins:List (Addr×Obj)}{σ:St}{H:Hp}{s:Shared}(I:Inv X pins σ H s):interactive X.env=false:=by simp[interactive,I.ok.kind]
def Ow(te:TE):TS:=fun D σ H=>te σ H fun _ H1=>D.nx σ H1
theorem Oz(he:PE X e te)(hs:swapsWith e none pos.line X.env=pure false:=by rfl):PS X (.Expr e pos) (Ow te):=by
 intro pins s σ H D I h
 exact wpAny_Expr_any (thn (he pins s σ H _ I h) fun v s1 ⟨x,H1,I1,r1,q1⟩=>⟨σ,H1,I1,q1⟩) I.quiet hs
def OD(te:TE):TS:=fun D σ H=>te σ H D.rt
theorem OJ(he:PE X e te):PS X (.Return (some e) pos) (OD te):=by
 intro pins s σ H D I h
 exact wpAny_Return_some (thn (he pins s σ H _ I h) fun v s1 ⟨x,H1,I1,r1,q1⟩=>⟨x,σ,H1,I1,r1,q1⟩)
def O1:TS:=fun D _ H=>D.rt .non H
theorem O2:PS X (.Return none pos) O1:=fun _ _ σ H _ I h=>wpAny_Return_none ⟨.non,σ,H,I,rfl,h⟩
def O3(c:TT)(t u:TS):TS:=fun D σ H=>c σ H fun b H1=>if b=true then t D σ H1 else u D σ H1
theorem O4{c:Expr}{a b:List Stmt}{tc:TT}(hc:PT X c tc)(ha:PSs X a t)(hb:PSs X b u):PS X (.If c a b pos) (O3 tc t u):=by
 intro pins s σ H D I h
 refine wpAny_If (thn (hc pins s σ H _ I h) fun d s1 ⟨H1,I1,q1⟩=>?_)
 cases d with
 |true=>exact ha pins s1 σ H1 D I1 q1
 |false=>exact hb pins s1 σ H1 D I1 q1
def O5:TS:=fun _ _ _=>False
theorem O6:PS X st O5:=fun _ _ _ _ _ _ h=>h.elim
end
abbrev TG:=V→St→Hp→(St→Hp→Prop)→Prop
abbrev TGs:=List V→St→Hp→(St→Hp→Prop)→Prop
def PG(X:Cx)(target:Expr)(t:TG):Prop:=
 ∀(pins:List (Addr×Obj))(s:Shared)(σ:St)(H:Hp)(v:V)(u:Value)(Q:St→Hp→Prop),Inv X pins σ H s→RelV v u→t v σ H Q→
  wpAny (model X.prog X.w) X.A (assign target X.env u) (fun _ s'=>∃σ' H',Inv X pins σ' H' s'∧Q σ' H') X.xe s
def PGs(X:Cx)(ts:List Expr)(t:TGs):Prop:=
 ∀(pins:List (Addr×Obj))(s:Shared)(σ:St)(H:Hp)(vs:List V)(us:List Value)(Q:St→Hp→Prop),Inv X pins σ H s→Vals vs us→t vs σ H Q→
  wpAny (model X.prog X.w) X.A (assignInOrder ((assignEach ts X.env).map (·.2)) us) (fun _ s'=>∃σ' H',Inv X pins σ' H' s'∧Q σ' H') X.xe s
abbrev rN:=V→V→V→Hp→(Hp→Prop)→Prop
def rO(X:Cx)(t:rN):Prop:=
 ∀(pins:List (Addr×Obj))(s:Shared)(σ:St)(H:Hp)(o i v:V)(ov iv u:Value)(Q:Hp→Prop),Inv X pins σ H s→RelV o ov→RelV i iv→RelV v u→t o i v H Q→
  wpAny (model X.prog X.w) X.A (setItem ov iv u) (fun _ s'=>∃H',Inv X pins σ H' s'∧Q H') X.xe s
section
variable {X:Cx} {pos:Pos}
def mQ(i:Nat):TG:=fun v σ H Q=>Q (σ.set i (some v)) H
theorem O7{i:Nat}{x:Str}(hN:X.N.Nodup)(hi:X.N[i]?=some x)(hx:Loc X.env.scope x)(hf:X.fn x=true∨X.env.scope.names.lookup x=some .local:=by first |exact .inl rfl |exact .inr rfl |assumption):PG X (.Name x pos) (mQ i):=by
 intro pins s σ H v u Q I r h
 exact wpAny_assign_Name (jj I hN hi hx r (fun s' I'=>⟨_,H,I',h⟩) hf)
def O8:TGs:=fun vs σ H Q=>vs=[]∧Q σ H
def O9(t:TG)(u:TGs):TGs:=fun vs σ H Q=>∃v r,vs=v::r∧t v σ H fun σ' H'=>u r σ' H' Q
theorem Pa:PGs X [] O8:=by
 intro pins s σ H vs us Q I r h
 obtain ⟨e,h⟩:=h
 subst e
 cases r
 exact assignInOrder_nil ⟨σ,H,I,h⟩
theorem Pb{e:Expr}{es:List Expr}{t:TG}{u:TGs}(h1:PG X e t)(h2:PGs X es u)
  (hs:(assignEach (e::es) X.env).map (·.2)=assign e X.env::(assignEach es X.env).map (·.2):=by rfl):PGs X (e::es) (O9 t u):=by
 intro pins s σ H vs us Q I r h
 obtain ⟨v,vr,e1,h⟩:=h
 subst e1
 cases r with
 |cons r rr=>
  rw[hs]
  refine assignInOrder_cons (thn (h1 pins s σ H _ _ _ I r h) fun _ s1 ⟨σ1,H1,I1,q1⟩=>?_)
  exact h2 pins s1 σ1 H1 _ _ Q I1 rr q1
def Pg(K:PySem.W.Frag)(n:Nat)(t:TGs):TG:=fun v σ H Q=>∃a xs,v=.ref a∧SqT K H a xs∧xs.length=n∧t xs σ H Q
theorem Ph{es:List Expr}{k:Nat}{t:TGs}{n:Nat}(hc:X.calm=true)(h:PGs X es t)
  (hn:(assignEach es X.env).length=n:=by rfl) (hst:(assignEach es X.env).findIdx? (·.1)=none:=by rfl):PG X (.Tuple es k pos) (Pg X.K n t):=by
 intro pins s σ H v u Q I r hw
 obtain ⟨a,xs,e1,hq,hl,hw⟩:=hw
 subst e1
 cases r
 obtain ⟨its,rv,ht,hz⟩:=I.tuple hq
 refine assign_Tuple_tuple (I.ok.hd hc) ht (by simp[hn,←hl,rv.length]) hst fun h' hx=>?_
 have I1:Inv X pins σ H { s with heap:=h' }:=I.kept (t':=s.toks) fun b o e=>hx b o (Nat.ne_of_lt (Heap.lt_size e)) e
 exact h pins _ σ H xs _ Q I1 (by simpa using rv) hw
def Pj(to ti:TE)(t:rN):TG:=fun v σ H Q=>to σ H fun o H1=>ti σ H1 fun i H2=>t o i v H2 fun H3=>Q σ H3
theorem Pk{o i:Expr}{to ti:TE}{t:rN}(ho:PE X o to)(hi:PE X i ti)(hs:rO X t)
  (ha:∀v,assign (.Subscript o i pos) X.env v=(do
   let ov ←holding [v] (eval o X.env)
   let iv ←holding [v,ov] (eval i X.env)
   standAt pos
   holding [v,ov,iv] (setItem ov iv v)
   release [v,ov,iv] []):=by intro _;rfl):PG X (.Subscript o i pos) (Pj to ti t):=by
 intro pins s σ H v u Q I r h
 rw[ha]
 refine wpAny_bind (wpAny_holding (thn (ho pins s σ H _ I h) fun ov s1 ⟨x,H1,I1,r1,q1⟩=>?_))
 refine wpAny_bind (wpAny_holding (thn (hi pins s1 σ H1 _ I1 q1) fun iv s2 ⟨y,H2,I2,r2,q2⟩=>?_))
 refine wpAny_bind (wpAny_standAt (wpAny_bind (wpAny_holding (thn (hs pins s2 σ H2 x y v ov iv u _ I2 r1 r2 r q2) fun _ s3 ⟨H3,I3,q3⟩=>?_))))
 exact wpAny_release ⟨σ,H3,I3,q3⟩
def mR(te:TE)(g:TG):TS:=fun D σ H=>te σ H fun x H1=>g x σ H1 D.nx
theorem wX{tg e:Expr}{te:TE}{g:TG}(he:PE X e te)(hg:PG X tg g)(hs:swapsWithSole [tg] e pos.line X.env=pure false:=by rfl)(hw:swappedStores [tg] e X.env=pure none:=by rfl)
  (h1:(assignEach [tg] X.env).map (·.2)=[assign tg X.env]:=by rfl):PS X (.Assign [tg] e pos) (mR te g):=by
 intro pins s σ H D I h
 refine wpAny_Assign_stores (thn (he pins s σ H _ I h) fun v s1 ⟨x,H1,I1,r1,q1⟩=>?_) hs hw
 rw[h1]
 exact thn (hg pins s1 σ H1 x v _ I1 r1 q1) fun _ s2 q=>q
theorem mU{i:Nat}{x:Str}{e:Expr}{te:TE}{pos':Pos}(hN:X.N.Nodup)(hi:X.N[i]?=some x)(hx:Loc X.env.scope x)(he:PE X e te)(hs:swapsWith e (some (.Name x pos')) pos.line X.env=pure false:=by rfl)(hf:X.fn x=true∨X.env.scope.names.lookup x=some .local:=by first |exact .inl rfl |exact .inr rfl |assumption):
  PS X (.Assign [.Name x pos'] e pos) (mR te (mQ i)):=by
 intro pins s σ H D I h
 refine wpAny_Assign_Name (thn (he pins s σ H _ I h) fun v s1 ⟨y,H1,I1,r1,q1⟩=>?_) hs
 exact jj I1 hN hi hx r1 (fun s2 I2=>⟨_,H1,I2,q1⟩) hf
end
section
variable {X:Cx} {pos:Pos}
end
structure It where
 go:Nat→Hp→Prop
 yld:Nat→Hp→V→Hp→Prop
 stop:Nat→Hp→Prop
def dz(X:Cx)(pins:List (Addr×Obj))(H:Hp)(b:Addr):Prop:=
 H b=none∧b≠X.env.locals∧b∉X.fs∧(b∈X.ex∨X.s₀.heap.objs.size≤b)∧(∀x c,X.env.cells.lookup x=some c→c≠b)∧∀p∈X.pn++pins,p.1≠b
theorem Inv.fpOk{X:Cx}{pins:List (Addr×Obj)}{σ:St}{H H':Hp}{s:Shared}{b:Addr}(I:Inv X pins σ H s)(hb:s.heap.objs.size≤b)(hn:H' b=none):dz X pins H' b:=by
 refine ⟨hn,Nat.ne_of_gt (Nat.lt_of_lt_of_le I.lt hb),I.nofs hb,.inr (Nat.le_trans I.sz hb),fun x c e z=>?_,fun p hp z=>?_⟩
 ·obtain ⟨v,q⟩:=I.cell x c e
  exact absurd (Nat.lt_of_lt_of_le q.lt (by rw[z];exact hb)) (Nat.lt_irrefl _)
 ·exact absurd (Nat.lt_of_lt_of_le (Heap.lt_size (I.pin p hp).1) (by rw[z];exact hb)) (Nat.lt_irrefl _)
structure Turn(P:Program)(w:World)(K:PySem.W.Frag)(tg:Expr)(J:It)(fp:List Addr)(it:Addr)(tn:Nat→Heap→Prop):Prop where
 mem:it∈fp
 obj:∀i h,tn i h→∀b∈fp,∃o,h.get? b=some o∧∀v,o.data≠.cell v
 keep:∀i h h',tn i h→(∀b∈fp,∀o,h.get? b=some o→h'.get? b=some o)→tn i h'
 item:∀(X:Cx),X.prog=P→X.w=w→X.K=K→X.calm=true→∀(i:Nat)(pins:List (Addr×Obj))(s:Shared)(σ:St)(H:Hp)(E:Value→Shared→Prop),Inv X pins σ H s→(∀b∈fp,dz X pins H b)→tn i s.heap→J.go i H→
  wpAny (model P w) X.A (pyNext (.ref it)) (fun r s1=>∃u,r=some u∧
   wpAny (model P w) X.A (letOwnedTupleGo tg (.ref it) u) (fun _ s2=>∃x H',Inv X pins σ H' s2∧RelV x u∧J.yld i H x H'∧tn (i+1) s2.heap∧∀b∈fp,H' b=none) E s1) E s
 done:∀(X:Cx),X.prog=P→X.w=w→X.K=K→X.calm=true→∀(i:Nat)(pins:List (Addr×Obj))(s:Shared)(σ:St)(H:Hp)(E:Value→Shared→Prop),Inv X pins σ H s→(∀b∈fp,dz X pins H b)→tn i s.heap→J.stop i H→
  wpAny (model P w) X.A (pyNext (.ref it)) (fun r s1=>r=none∧Inv X pins σ H s1) E s
 self:∀(A:Around)(i:Nat)(s:Shared)(Q:Value→Shared→Prop)(E:Value→Shared→Prop),tn i s.heap→Q (.ref it) s→wpAny (model P w) A (pyIter (.ref it)) Q E s
abbrev TI:=St→Hp→(It→Hp→Prop)→Prop
def PIE(X:Cx)(pins:List (Addr×Obj))(σ:St)(tg:Expr)(R:It→Hp→Prop)(itv:Value)(s2:Shared):Prop:=
 ∃(it:Addr)(fp:List Addr)(tn:Nat→Heap→Prop)(J:It)(H':Hp),itv=.ref it∧Inv X pins σ H' s2∧Turn X.prog X.w X.K tg J fp it tn∧tn 0 s2.heap∧(∀b∈fp,dz X pins H' b)∧R J H'
def PI(X:Cx)(tg iter:Expr)(wi:TI):Prop:=
 ∀(pins:List (Addr×Obj))(s:Shared)(σ:St)(H:Hp)(R:It→Hp→Prop),Inv X pins σ H s→wi σ H R→
  wpAny (model X.prog X.w) X.A (eval iter X.env) (fun v s1=>wpAny (model X.prog X.w) X.A (pyIter v) (PIE X pins σ tg R) X.xe s1) X.xe s
theorem mV{M:Model}{A:Around}{E:Value→Shared→Prop}{s:Shared}{tg:Expr}{it:Addr}{u:Value}{o:Obj}{n:String}{vs:Array Value}{Q:Unit→Shared→Prop}(ho:s.heap.get? it=some o)(hc:o.cls=.type n)(hd:o.data=.fields vs)
  (hn:["enumerate","zip","dict_itemiterator","dict_reverseitemiterator","odict_iterator","itertools.zip_longest","itertools.pairwise"].contains n=false) (hQ:Q () s):wpAny M A (letOwnedTupleGo tg (.ref it) u) Q E s:=by
 unfold letOwnedTupleGo
 cases tg <;> first
  |exact wpAny_pure hQ
  | (cases u <;> first
    |exact wpAny_pure hQ
    | (refine wpAny_bind (wpAny_load ho ?_)
       rw[hc,hd]
       show wpAny M A (if (["enumerate","zip","dict_itemiterator","dict_reverseitemiterator","odict_iterator","itertools.zip_longest","itertools.pairwise"].contains n&&vs[0]?==some (rawInt _))=true then _ else _) Q E s
       rw[if_neg (by intro h;rw[hn,Bool.false_and]at h;cases h)]
       exact wpAny_pure hQ))
def Itl(K:PySem.W.Frag)(a:Addr):It:=
 ⟨fun i H=>∃xs x,SqL K H a xs∧xs[i]?=some x,fun i H x H'=>H'=H∧∀xs,SqL K H a xs→xs[i]?=some x,fun i H=>∃xs,SqL K H a xs∧xs.length≤i⟩
def Itt(K:PySem.W.Frag)(a:Addr):It:=
 ⟨fun i H=>∃xs x,SqT K H a xs∧xs[i]?=some x,fun i H x H'=>H'=H∧∀xs,SqT K H a xs→xs[i]?=some x,fun i H=>∃xs,SqT K H a xs∧xs.length≤i⟩
def Itr(lo:Int)(n:Nat):It:=⟨fun i _=>i < n,fun i H x H'=>H'=H∧x=.int (lo+i),fun i _=>n≤i⟩
theorem wY{P:Program}{w:World}{K:PySem.W.Frag}{tg:Expr}(a it:Addr):Turn P w K tg (Itl K a) [it] it (fun i h=>h.IsListIter it a i) where
 mem:=by simp
 obj:=fun i h st b hb=>by
  have e:b=it:=by simpa using hb
  subst e
  obtain ⟨o,e,c,d⟩:=st
  exact ⟨o,e,fun v z=>by rw[d]at z;cases z⟩
 keep:=fun i h h' st k=>st.at fun o e=>k it (by simp) o e
 item:=by
  intro X hP hw hK hc i pins s σ H E I hf st hg
  subst hP hw hK
  obtain ⟨xs,x,hq,hx⟩:=hg
  obtain ⟨its,rv,p,hz⟩:=I.list hq
  obtain ⟨u,hu,ru⟩:=rv.get hx
  obtain ⟨f0,f1,f2,f3,f4,f5⟩:=hf it (by simp)
  refine wpAny_pyNext_list_item st p.isList (x:=u) (by simpa using hu) fun h' st' sb=>?_
  have I1:Inv X pins σ H { s with heap:=h' }:=I.turned (t':=s.toks) (fun b o hb e=>(sb.2 b hb).trans e) f0 f1 f3 f4 f5
  obtain ⟨o,e,c,d⟩:=id st'
  exact ⟨u,rfl,mV (s:={ s with heap:=h' }) e c d (by decide) ⟨x,H,I1,ru,⟨rfl,fun ys hy=>by rw[I.list_inj hy hq];exact hx⟩,st',fun b hb=>(hf b hb).1⟩⟩
 done:=by
  intro X hP hw hK hc i pins s σ H E I hf st hg
  subst hP hw hK
  obtain ⟨xs,hq,hx⟩:=hg
  obtain ⟨its,rv,p,hz⟩:=I.list hq
  obtain ⟨f0,f1,f2,f3,f4,f5⟩:=hf it (by simp)
  have hl:=rv.length
  exact wpAny_pyNext_list_end (I.ok.hd hc) st p.isList (by simp;omega) fun h' eb=>⟨rfl,I.turned (t':=s.toks) (fun b o hb e=>eb b o hb e) f0 f1 f3 f4 f5⟩
 self:=fun _ _ _ _ _ st h=>wpAny_pyIter_listiter st h
theorem wZ{P:Program}{w:World}{K:PySem.W.Frag}{tg:Expr}(a it:Addr):Turn P w K tg (Itt K a) [it] it (fun i h=>h.IsTupleIter it a i) where
 mem:=by simp
 obj:=fun i h st b hb=>by
  have e:b=it:=by simpa using hb
  subst e
  obtain ⟨o,e,c,d⟩:=st
  exact ⟨o,e,fun v z=>by rw[d]at z;cases z⟩
 keep:=fun i h h' st k=>st.at fun o e=>k it (by simp) o e
 item:=by
  intro X hP hw hK hc i pins s σ H E I hf st hg
  subst hP hw hK
  obtain ⟨xs,x,hq,hx⟩:=hg
  obtain ⟨its,rv,p,hz⟩:=I.tuple hq
  obtain ⟨u,hu,ru⟩:=rv.get hx
  obtain ⟨f0,f1,f2,f3,f4,f5⟩:=hf it (by simp)
  refine wpAny_pyNext_tuple_item st (show s.heap.IsTuple a its.toArray from p) (x:=u) (by simpa using hu) fun h' st' sb=>?_
  have I1:Inv X pins σ H { s with heap:=h' }:=I.turned (t':=s.toks) (fun b o hb e=>(sb.2 b hb).trans e) f0 f1 f3 f4 f5
  obtain ⟨o,e,c,d⟩:=id st'
  exact ⟨u,rfl,mV (s:={ s with heap:=h' }) e c d (by decide) ⟨x,H,I1,ru,⟨rfl,fun ys hy=>by rw[I.tuple_inj hy hq];exact hx⟩,st',fun b hb=>(hf b hb).1⟩⟩
 done:=by
  intro X hP hw hK hc i pins s σ H E I hf st hg
  subst hP hw hK
  obtain ⟨xs,hq,hx⟩:=hg
  obtain ⟨its,rv,p,hz⟩:=I.tuple hq
  obtain ⟨f0,f1,f2,f3,f4,f5⟩:=hf it (by simp)
  have hl:=rv.length
  exact wpAny_pyNext_tuple_end (I.ok.hd hc) st (show s.heap.IsTuple a its.toArray from p) (by simp;omega) fun h' eb=>⟨rfl,I.turned (t':=s.toks) (fun b o hb e=>eb b o hb e) f0 f1 f3 f4 f5⟩
 self:=fun _ _ _ _ _ st h=>wpAny_pyIter_tupleiter st h
theorem Pn{P:Program}{w:World}{K:PySem.W.Frag}{tg:Expr}(it:Addr)(lo:Int)(n:Nat):Turn P w K tg (Itr lo n) [it] it (fun i h=>IsRangeIter h it (lo+(i:Nat) * 1) ((n:Int) - (i:Nat)) 1) where
 mem:=by simp
 obj:=fun i h st b hb=>by
  have e:b=it:=by simpa using hb
  subst e
  exact ⟨_,st,fun v z=>by
   have z':Data.fields _=Data.cell v:=z
   cases z'⟩
 keep:=fun i h h' st k=>k it (by simp) _ st
 item:=by
  intro X hP hw hK hc i pins s σ H E I hf st hg
  subst hP hw hK
  obtain ⟨f0,f1,f2,f3,f4,f5⟩:=hf it (by simp)
  have W:=Walks.range (prog:=X.prog) (w:=X.w) (I.ok.hd hc) it lo 1 n
  refine W.item i s _ _ hg st fun v h' tk hv st' kk=>?_
  obtain ⟨t,rfl⟩:=hv
  have I1:Inv X pins σ H { s with heap:=h',toks:=tk }:=I.turned (fun b o hb e=>kk b o (by simpa using hb) e) f0 f1 f3 f4 f5
  refine ⟨_,rfl,mV (s:={ s with heap:=h',toks:=tk }) (n:="range_iterator") st' rfl rfl (by decide) ⟨.int (lo+i),H,I1,⟨t,?_⟩,⟨rfl,rfl⟩,st',fun b hb=>(hf b hb).1⟩⟩
  rw[Int.mul_one]
 done:=by
  intro X hP hw hK hc i pins s σ H E I hf st hg
  subst hP hw hK
  obtain ⟨f0,f1,f2,f3,f4,f5⟩:=hf it (by simp)
  exact wpAny_pyNext_range_end (I.ok.hd hc) st (by have:n≤i:=hg;omega) fun h' eb=>⟨rfl,I.turned (t':=s.toks) (fun b o hb e=>eb b o hb e) f0 f1 f3 f4 f5⟩
 self:=fun _ _ _ _ _ st h=>wpAny_pyIter_rangeiter st h
end L2
namespace L2
open PySem PySem.Spec PyProof.Rows
section
variable {X:Cx} {tg:Expr}
theorem Pq{pins:List (Addr×Obj)}{σ:St}{H:Hp}{s:Shared}{R:It→Hp→Prop}{E:Value→Shared→Prop}{lo hi:Int}{t u v:Tok}{tk:Nat}(I:Inv X pins σ H s)(h1:-(2 ^ 62)≤lo)(h2:lo < 2 ^ 62)(h3:-(2 ^ 62)≤hi)(h4:hi < 2 ^ 62)
  (q:R (Itr lo (hi - lo).toNat) H):wpAny (model X.prog X.w) X.A (pyIter (.ref s.heap.objs.size)) (PIE X pins σ tg R) E { s with heap:=s.heap.push { cls:=.type "range",data:=.fields #[.int lo t,.int hi u,.int 1 v] },toks:=tk }:=by
 refine wpAny_pyIter_range (IsRange.new ..) (small_one h1 h2 h3 h4) ?_
 have I1:Inv X pins σ H { s with heap:=s.heap.push { cls:=.type "range",data:=.fields #[.int lo t,.int hi u,.int 1 v] },toks:=tk }:=I.kept fun b o e=>Heap.get?_push_of_some _ e
 refine ⟨(s.heap.push { cls:=.type "range",data:=.fields #[.int lo t,.int hi u,.int 1 v] }).objs.size,[(s.heap.push { cls:=.type "range",data:=.fields #[.int lo t,.int hi u,.int 1 v] }).objs.size],_,_,H,rfl,
  I1.kept (t':=tk) fun b o e=>Heap.get?_push_of_some _ e,Pn _ lo (hi - lo).toNat,?_,fun b hb=>?_,q⟩
 ·have e1:lo+((0:Nat):Int) * 1=lo:=by simp
  have e2:(((hi - lo).toNat:Nat):Int) - ((0:Nat):Int)=Builtin.Range.rangeSize lo hi 1:=by rw[rangeSize_one];split <;> omega
  show IsRangeIter _ _ (lo+((0:Nat):Int) * 1) ((((hi - lo).toNat:Nat):Int) - ((0:Nat):Int)) 1
  rw[e1,e2]
  exact Heap.get?_push_size _ rfl
 ·have e:b=(s.heap.push { cls:=.type "range",data:=.fields #[.int lo t,.int hi u,.int 1 v] }).objs.size:=by simpa using hb
  subst e
  exact I1.fpOk (Nat.le_refl _) (I1.hok.fresh (Nat.le_refl _))
def Pr(ta:TA):TI:=fun σ H R=>ta σ H fun vs H1=>∃j:Int,vs=[.int j]∧-(2 ^ 62)≤j∧j < 2 ^ 62∧R (Itr 0 j.toNat) H1
theorem Pu {a:Expr} {ta:TA} {p pos:Pos} (hg:Gl X "range") (hm:X.mg "range"=none) (ha:PA X [a] ta) (hs:starEach [a] X.env=[(false,eval a X.env)]:=by rfl):PI X tg (.Call (.Name "range" p) [a] [] pos) (Pr ta):=by
 intro pins s σ H R I h
 refine Call_ (gQ I hg hm boot_range (PyProof.Rows.callWith_type1 (thn (ha pos pins s σ H _ I h) fun us s1 ⟨vs,H1,I1,r1,q1⟩=>?_) hs rfl))
 obtain ⟨j,e,q1,q2,q⟩:=q1
 subst e
 cases r1 with
 |cons r rr=>
  cases rr
  obtain ⟨t,rfl⟩:=r
  exact call_range_1 (Pq I1 (by omega) (by omega) q1 q2 (by simpa using q))
def Px(wi:TI)(g:TG)(tb:TS):TS:=fun D σ H=>wi σ H fun J H1=>∃W:Nat→Nat→St→Hp→Prop,(∃m,W 0 m σ H1)∧∀i m σ H,W i m σ H→
 (J.stop i H∧D.nx σ H)∨(J.go i H∧∃N:St→Hp→Prop,(∀σ' H',N σ' H'→∃m',m' < m∧W (i+1) m' σ' H')∧∀x H',J.yld i H x H'→g x σ H' fun σ2 H2=>tb { D with nx:=N,ct:=N,bk:=D.nx } σ2 H2)
def jk(fp:List Addr)(h:Heap):List (Addr×Obj):=fp.filterMap fun b=>(h.get? b).map fun o=>(b,o)
theorem mW{fp:List Addr}{h:Heap}{b:Addr}{o:Obj}(hb:b∈fp)(e:h.get? b=some o):(b,o)∈jk fp h:=List.mem_filterMap.mpr ⟨b,hb,by rw[e];rfl⟩
theorem Py{fp:List Addr}{h:Heap}{p:Addr×Obj}(hp:p∈jk fp h):p.1∈fp∧h.get? p.1=some p.2:=by
 obtain ⟨b,hb,e⟩:=List.mem_filterMap.mp hp
 cases q:h.get? b with
 |none=>rw[q]at e;cases e
 |some o=>
  rw[q]at e
  have e':(b,o)=p:=Option.some.inj e
  subst e'
  exact ⟨hb,q⟩
theorem Inv.pinned{pins:List (Addr×Obj)}{σ:St}{H:Hp}{s:Shared}{fp:List Addr}(I:Inv X pins σ H s)(hf:∀b∈fp,dz X pins H b)(ho:∀b∈fp,∃o,s.heap.get? b=some o∧∀v,o.data≠.cell v):Inv X (pins++jk fp s.heap) σ H s:=
 I.pins_of fun p hp=>(List.mem_append.mp hp).elim (fun z=>I.pin p (List.mem_append_right _ z)) fun z=>by
  obtain ⟨hb,e⟩:=Py z
  obtain ⟨f0,f1,f2,_⟩:=hf p.1 hb
  obtain ⟨o,e',d⟩:=ho p.1 hb
  rw[e]at e';cases e'
  exact ⟨e,f0,f1,f2,d⟩
theorem Inv.unpinned{pins pl:List (Addr×Obj)}{σ:St}{H:Hp}{s:Shared}(I:Inv X (pins++pl) σ H s):Inv X pins σ H s:=I.pins_of fun p hp=>I.pin p (List.mem_append_right _ (List.mem_append_left _ hp))
theorem Pz{iter:Expr}{body:List Stmt}{wi:TI}{g:TG}{tb:TS}{pos:Pos}(hp:PassesOwn (model X.prog X.w) X.A X.env X.xe)(hc:X.calm=true)(hi:PI X tg iter wi)(hg:PG X tg g)(hb:PSs X body tb)
  (hs:∀x,foldedSetIterable iter X.env x=pure x:=by intro _;rfl):PS X (.For tg iter body [] pos) (Px wi g tb):=by
 intro pins s σ H D I h
 refine wpAny_For (thn (hi pins s σ H _ I h) fun v s1 h1=>thn h1 fun itv s2 h2=>?_) hs
 obtain ⟨it,fp,tn,J,H2,e,I2,T,st2,f2,W,⟨m0,w0⟩,turn⟩:=h2
 subst e
 -- what stays true of the iterator's objects through the loop
 have stat:∀{H':Hp},(∀b∈fp,H' b=none)→∀b∈fp,dz X pins H' b:=fun hn b hb=>⟨hn b hb,(f2 b hb).2⟩
 refine codeAny_forLoop_any (fun n s'=>∃i σ' H',Inv X pins σ' H' s'∧tn i s'.heap∧(∀b∈fp,H' b=none)∧W i n σ' H') ?_ m0 ⟨0,σ,H2,I2,st2,fun b hb=>(f2 b hb).1,w0⟩
 rintro n s3 ⟨i,σ3,H3,I3,st3,fr3,w3⟩
 rcases turn i n σ3 H3 w3 with ⟨stop,qn⟩ |⟨go,N,hN,step⟩
 ·refine wpAny_passesOwn hp (thn (T.done X rfl rfl rfl hc i pins s3 σ3 H3 X.xe I3 (stat fr3) st3 stop) fun r s4 ⟨hr,I4⟩=>?_)
  subst hr
  exact wpAny_execs_nil ⟨σ3,H3,I4,qn⟩
 ·refine wpAny_passesOwn hp (thn (T.item X rfl rfl rfl hc i pins s3 σ3 H3 X.xe I3 (stat fr3) st3 go) fun r s4 ⟨u,hr,h4⟩=>?_)
  subst hr
  refine wpAny_passesOwn hp (thn h4 fun _ s5 ⟨x,H5,I5,r5,y5,st5,fr5⟩=>?_)
  have I5':=I5.pinned (stat fr5) (T.obj _ _ st5)
  refine wpAny_passesOwn hp (thn (hg _ s5 σ3 H5 x u _ I5' r5 (step x H5 y5)) fun _ s6 ⟨σ6,H6,I6,q6⟩=>?_)
  refine wpAny_passesOwn hp (thn (hb _ s6 σ6 H6 _ I6 q6) fun f s7 q7=>?_)
  have again:∀{σ7:St}{H7:Hp},Inv X (pins++jk fp s5.heap) σ7 H7 s7→N σ7 H7→∃m,m < n∧∃i σ' H',Inv X pins σ' H' s7∧tn i s7.heap∧(∀b∈fp,H' b=none)∧W i m σ' H':=fun {σ7 H7} I7 n7=>by
   obtain ⟨m',hm,w7⟩:=hN σ7 H7 n7
   refine ⟨m',hm,i+1,σ7,H7,I7.unpinned,T.keep _ _ _ st5 fun b hb o e=>(I7.pin (b,o) (List.mem_append_right _ (List.mem_append_right _ (mW hb e)))).1,fun b hb=>?_,w7⟩
   obtain ⟨o,e,d⟩:=T.obj _ _ st5 b hb
   exact (I7.pin (b,o) (List.mem_append_right _ (List.mem_append_right _ (mW hb e)))).2.1
  cases f with
  |next=>obtain ⟨σ7,H7,I7,n7⟩:=q7;exact again I7 n7
  |cont=>obtain ⟨σ7,H7,I7,n7⟩:=q7;exact again I7 n7
  |brk=>obtain ⟨σ7,H7,I7,q7⟩:=q7;exact ⟨σ7,H7,I7.unpinned,q7⟩
  |ret v=>obtain ⟨x7,σ7,H7,I7,r7,q7⟩:=q7;exact ⟨x7,σ7,H7,I7.unpinned,r7,q7⟩
end
end L2
namespace L2
open PySem PySem.Spec PyProof.Rows
abbrev R2:=V→V→Hp→VK→Prop
def OpR(X:Cx)(f:Value→Value→Sem Value)(r:R2):Prop:=
 ∀(pins:List (Addr×Obj))(s:Shared)(σ:St)(H:Hp)(x y:V)(v u:Value)(Q:VK),Inv X pins σ H s→RelV x v→RelV y u→r x y H Q→
  wpAny (model X.prog X.w) X.A (f v u) (EP X pins σ Q) X.xe s
def UnR(X:Cx)(f:Value→Sem Value)(r:V→Hp→VK→Prop):Prop:=
 ∀(pins:List (Addr×Obj))(s:Shared)(σ:St)(H:Hp)(x:V)(v:Value)(Q:VK),Inv X pins σ H s→RelV x v→r x H Q→
  wpAny (model X.prog X.w) X.A (f v) (EP X pins σ Q) X.xe s
def bM(X:Cx)(f:Value)(r:List V→Hp→VK→Prop):Prop:=
 ∀(pins:List (Addr×Obj))(s:Shared)(σ:St)(H:Hp)(xs:List V)(us:List Value)(Q:VK),Inv X pins σ H s→Vals xs us→r xs H Q→
  wpAny (model X.prog X.w) X.A (call f us) (EP X pins σ Q) X.xe s
def PK(X:Cx)(r:V→Hp→(Bool→Hp→Prop)→Prop):Prop:=
 ∀(pins:List (Addr×Obj))(s:Shared)(σ:St)(H:Hp)(x:V)(v:Value)(Q:Bool→Hp→Prop),Inv X pins σ H s→RelV x v→r x H Q→
  wpAny (model X.prog X.w) X.A (truthy v) (TP X pins σ Q) X.xe s
def tOp(r:R2)(ta tb:TE):TE:=fun σ H Q=>ta σ H fun x H1=>tb σ H1 fun y H2=>r x y H2 Q
def tUn(r:V→Hp→VK→Prop)(ta:TE):TE:=fun σ H Q=>ta σ H fun x H1=>r x H1 Q
def rI(C:Int→Int→Prop)(g:Int→Int→V):R2:=fun x y H Q=>∃i j,x=.int i∧y=.int j∧C i j∧Q (g i j) H
def rI0(g:Int→Int→V):R2:=fun x y H Q=>∃i j,x=.int i∧y=.int j∧Q (g i j) H
def rU(g:Int→V):V→Hp→VK→Prop:=fun x H Q=>∃i,x=.int i∧Q (g i) H
section
variable {X:Cx} {a b c:Expr} {ta tb tc:TE} {pos:Pos}
theorem rP(ha:PE X a ta)(hb:PE X b tb){pins:List (Addr×Obj)}{s:Shared}{σ:St}{H:Hp}{R:V→V→Hp→Prop}(I:Inv X pins σ H s)
  (h:ta σ H fun x H1=>tb σ H1 fun y H2=>R x y H2) {Q:Value→Shared→Prop} {f:Value→Value→Sem Value}
  (hf:∀v u s2 x y H2,Inv X pins σ H2 s2→RelV x v→RelV y u→R x y H2→wpAny (model X.prog X.w) X.A (f v u) Q X.xe s2):
  wpAny (model X.prog X.w) X.A (eval a X.env) (fun v s₁=>wpAny (model X.prog X.w) X.A (eval b X.env) (fun u s₂=>wpAny (model X.prog X.w) X.A (f v u) Q X.xe s₂) X.xe s₁) X.xe s:=by
 refine thn (ha pins s σ H _ I h) fun v s1 ⟨x,H1,I1,r1,q1⟩=>?_
 refine thn (hb pins s1 σ H1 _ I1 q1) fun u s2 ⟨y,H2,I2,r2,q2⟩=>?_
 exact hf v u s2 x y H2 I2 r1 r2 q2
theorem PL{op:Operator}{r:R2}(ho:OpR X (binaryOp op) r)(ha:PE X a ta)(hb:PE X b tb):PE X (.BinOp a op b pos) (tOp r ta tb):=by
 intro pins s σ H Q I h
 exact wpAny_BinOp (rP ha hb I h fun v u s2 x y H2 I2 rx ry q=>ho pins s2 σ H2 x y v u Q I2 rx ry q)
theorem PN{op:UnaryOp}{r:V→Hp→VK→Prop}(ho:UnR X (unaryOp op) r)(ha:PE X a ta):PE X (.UnaryOp op a pos) (tUn r ta):=by
 intro pins s σ H Q I h
 exact UnaryOp_ (thn (ha pins s σ H _ I h) fun v s1 ⟨x,H1,I1,r1,q1⟩=>ho pins s1 σ H1 x v Q I1 r1 q1)
theorem opI{f:Value→Value→Sem Value}{C:Int→Int→Prop}{g:Int→Int→Int}
  (rule:∀(i j:Int)(t u:Tok)(s:Shared)(Q:Value→Shared→Prop)(E:Value→Shared→Prop),C i j→Q (.int (g i j) s.toks) { s with toks:=s.toks+1 }→wpAny (model X.prog X.w) X.A (f (.int i t) (.int j u)) Q E s):
  OpR X f (rI C fun i j=>.int (g i j)):=by
 intro pins s σ H x y v u Q I rx ry h
 obtain ⟨i,j,rfl,rfl,hc,q⟩:=h
 obtain ⟨t,rfl⟩:=rx
 obtain ⟨t',rfl⟩:=ry
 exact rule i j t t' s _ _ hc ⟨.int (g i j),H,I.tok _,⟨_,rfl⟩,q⟩
theorem w5{f:Value→Value→Sem Value}{g:Int→Int→Int}
  (rule:∀(i j:Int)(t u:Tok)(s:Shared)(Q:Value→Shared→Prop)(E:Value→Shared→Prop),Q (.int (g i j) s.toks) { s with toks:=s.toks+1 }→wpAny (model X.prog X.w) X.A (f (.int i t) (.int j u)) Q E s):
  OpR X f (rI0 fun i j=>.int (g i j)):=by
 intro pins s σ H x y v u Q I rx ry h
 obtain ⟨i,j,rfl,rfl,q⟩:=h
 obtain ⟨t,rfl⟩:=rx
 obtain ⟨t',rfl⟩:=ry
 exact rule i j t t' s _ _ ⟨.int (g i j),H,I.tok _,⟨_,rfl⟩,q⟩
def mX(i j:Int):Prop:=0≤j∧j≤1000000∧i.natAbs < 2 ^ 64
def CMul(i j:Int):Prop:=(-(2 ^ 64) < i∧i < 2 ^ 64)∨(-(2 ^ 64) < j∧j < 2 ^ 64)
theorem CMul.ok{i j:Int}(h:CMul i j):IntMulOk i j:=by
 rcases h with ⟨h1,h2⟩ |⟨h1,h2⟩
 ·exact .of_left (intBits_le_64 h1 h2)
 ·exact .of_right (intBits_le_64 h1 h2)
theorem PP:OpR X (binaryOp .Add) (rI0 fun i j=>.int (i+j)):=w5 fun _ _ _ _ _ _ _ q=>add_int q
theorem PQ:OpR X (binaryOp .Sub) (rI0 fun i j=>.int (i - j)):=w5 fun _ _ _ _ _ _ _ q=>sub_int q
theorem P0:OpR X (binaryOp .Mult) (rI CMul fun i j=>.int (i * j)):=opI fun _ _ _ _ _ _ _ hc q=>mul_int q hc.ok
theorem Qa:OpR X (binaryOp .Mod) (rI (fun _ j=>0 < j) fun i j=>.int (i % j)):=opI fun i j _ _ _ _ _ hc q=>by
 have h1:(0:Int) < j:=hc
 exact mod_int' (by omega) (by rw[Int.fmod_eq_emod_of_nonneg i (by omega)];exact q)
theorem Qc:OpR X (binaryOp .Pow) (rI mX fun i j=>.int (i ^ j.toNat)):=opI fun _ _ _ _ _ _ _ hc q=>pow_int_small hc.1 hc.2.1 hc.2.2 q
theorem unI{f:Value→Sem Value}{g:Int→Int}
  (rule:∀(i:Int)(t:Tok)(s:Shared)(Q:Value→Shared→Prop)(E:Value→Shared→Prop),Q (.int (g i) s.toks) { s with toks:=s.toks+1 }→wpAny (model X.prog X.w) X.A (f (.int i t)) Q E s):
  UnR X f (rU fun i=>.int (g i)):=by
 intro pins s σ H x v Q I rx h
 obtain ⟨i,rfl,q⟩:=h
 obtain ⟨t,rfl⟩:=rx
 exact rule i t s _ _ ⟨.int (g i),H,I.tok _,⟨_,rfl⟩,q⟩
theorem Qd:UnR X (unaryOp .USub) (rU fun i=>.int (-i)):=unI fun _ _ _ _ _ q=>neg_int q
end
section
variable {X:Cx} {a b c:Expr} {ta tb tc:TE} {pos:Pos}
theorem xf{pins:List (Addr×Obj)}{σ:St}{H:Hp}{s:Shared}{Q:VK}{k k':Bool}(I:Inv X pins σ H s)(q:Q (.bl k) H)(e:k=k'):EP X pins σ Q (.bool k') s:=by
 subst e
 exact ⟨.bl k,H,I,rfl,q⟩
theorem Qe:OpR X (compareOp .Is) (fun x y H Q=>y=.non∧Q (.bl (decide (x=.non))) H):=by
 intro pins s σ H x y v u Q I rx ry h
 obtain ⟨rfl,q⟩:=h
 cases ry
 refine is_none_gen (xf I q ?_)
 cases x <;> first
  | (cases rx;rfl)
  | (obtain ⟨t,rfl⟩:=rx;rfl)
theorem Qf:OpR X (compareOp .IsNot) (fun x y H Q=>y=.non∧Q (.bl (!decide (x=.non))) H):=by
 intro pins s σ H x y v u Q I rx ry h
 obtain ⟨rfl,q⟩:=h
 cases ry
 refine isnot_none_gen (xf I q ?_)
 cases x <;> first
  | (cases rx;rfl)
  | (obtain ⟨t,rfl⟩:=rx;rfl)
theorem Qg{op:CmpOp}{r:R2}(ho:OpR X (compareOp op) r)(ha:PE X a ta)(hb:PE X b tb)(hm:behindInMarks op b=false):PE X (.Compare a [op] [b] pos) (tOp r ta tb):=by
 intro pins s σ H Q I h
 exact wpAny_Compare1 (rP ha hb I h fun v u s2 x y H2 I2 rx ry q=>ho pins s2 σ H2 x y v u Q I2 rx ry q) hm
def xg(t:TE):TT:=fun σ H Q=>t σ H fun x H'=>∃k,x=.bl k∧Q k H'
theorem Qh{op:CmpOp}{r:R2}(ho:OpR X (compareOp op) r)(ha:PE X a ta)(hb:PE X b tb)(hm:behindInMarks op b=false):PT X (.Compare a [op] [b] pos) (xg (tOp r ta tb)):=by
 intro pins s σ H Q I h
 refine wpAny_isTrue_Compare1 (thn (ha pins s σ H _ I h) fun v s1 ⟨x,H1,I1,r1,q1⟩=>thn (hb pins s1 σ H1 _ I1 q1) fun u s2 ⟨y,H2,I2,r2,q2⟩=>
  thn (ho pins s2 σ H2 x y v u _ I2 r1 r2 q2) fun c s3 ⟨z,H3,I3,r3,k,e,q3⟩=>?_) hm
 subst e
 cases r3
 exact wpAny_truthy_bool ⟨H3,I3,q3⟩
def rQ(r r':R2)(ta tb tc:TE):TE:=fun σ H Q=>ta σ H fun x H1=>tb σ H1 fun y H2=>r x y H2 fun z H3=>∃k,z=.bl k∧
 (if k=true then tc σ H3 fun w' H4=>r' y w' H4 Q else Q (.bl false) H3)
theorem Qi{op op':CmpOp}{r r':R2}(ho:OpR X (compareOp op) r)(ho':OpR X (compareOp op') r')(ha:PE X a ta)(hb:PE X b tb)(hc:PE X c tc)
  (hm:lastMarks [op,op'] [b,c]=false:=by with_unfolding_all rfl):PE X (.Compare a [op,op'] [b,c] pos) (rQ r r' ta tb tc):=by
 intro pins s σ H Q I h
 refine Compare_chain (thn (ha pins s σ H _ I h) fun v s1 ⟨x,H1,I1,r1,q1⟩=>chain_link (thn (hb pins s1 σ H1 _ I1 q1) fun u s2 ⟨y,H2,I2,r2,q2⟩=>
  thn (ho pins s2 σ H2 x y v u _ I2 r1 r2 q2) fun d s3 ⟨z,H3,I3,r3,k,e,q3⟩=>?_)) hm
 subst e
 cases r3
 refine wpAny_truthy_bool ?_
 cases k with
 |false=>exact ite_ff ⟨.bl false,H3,I3,rfl,q3⟩
 |true=>exact ite_tt (chain_last (thn (hc pins s3 σ H3 _ I3 q3) fun w' s4 ⟨z',H4,I4,r4,q4⟩=>ho' pins s4 σ H4 y z' u w' Q I4 r2 r4 q4))
theorem Qj{op op':CmpOp}{r r':R2}(ho:OpR X (compareOp op) r)(ho':OpR X (compareOp op') r')(ha:PE X a ta)(hb:PE X b tb)(hc:PE X c tc)
  (hm:lastMarks [op,op'] [b,c]=false:=by with_unfolding_all rfl):PT X (.Compare a [op,op'] [b,c] pos) (xg (rQ r r' ta tb tc)):=by
 intro pins s σ H Q I h
 refine isTrue_chain (thn (ha pins s σ H _ I h) fun v s1 ⟨x,H1,I1,r1,q1⟩=>test_link (thn (hb pins s1 σ H1 _ I1 q1) fun u s2 ⟨y,H2,I2,r2,q2⟩=>
  thn (ho pins s2 σ H2 x y v u _ I2 r1 r2 q2) fun d s3 ⟨z,H3,I3,r3,k,e,q3⟩=>?_)) hm
 subst e
 cases r3
 refine wpAny_truthy_bool ?_
 cases k with
 |false=>
  obtain ⟨k',e',q'⟩:=q3
  cases e'
  exact ite_ff ⟨H3,I3,q'⟩
 |true=>
  refine ite_tt (test_last (thn (hc pins s3 σ H3 _ I3 q3) fun w' s4 ⟨z',H4,I4,r4,q4⟩=>thn (ho' pins s4 σ H4 y z' u w' _ I4 r2 r4 q4) fun d' s5 ⟨z2,H5,I5,r5,k2,e2,q5⟩=>?_))
  subst e2
  cases r5
  exact wpAny_truthy_bool ⟨H5,I5,q5⟩
def mY(K:PySem.W.Frag)(x:V)(H:Hp)(k:Bool):Prop:=
 match x with
 |.non=>k=false
 |.bl b=>k=b
 |.int i=>k=(i != 0)
 |.str y=>y.length≤sizeLine∧k=((y.length:Int) != 0)
 |.byt y=>y.size≤sizeLine∧k=((y.size:Int) != 0)
 |.ref p=>(∃xs,SqL K H p xs∧k=!xs.isEmpty)∨(∃xs,SqT K H p xs∧k=!xs.isEmpty)∨∃kvs,H p=some (.dK kvs)∧k=!kvs.isEmpty
 |_=>False
theorem Qk{κ:Type}{kvs:List (κ×V)}{vs:List (κ×Value)}(r:KV kvs vs):(!vs.isEmpty)=!kvs.isEmpty:=by
 cases r <;> rfl
theorem xj{xs:List V}{its:List Value}(r:Vals xs its):(!its.toArray.isEmpty)=!xs.isEmpty:=by
 cases r <;> simp
theorem fZ:(sizeLine:Nat) < 2 ^ 63:=by rw[sizeLine_eq];decide
theorem xm:PK X (fun x H Q=>∃k,mY X.K x H k∧Q k H):=by
 intro pins s σ H x v Q I rx h
 obtain ⟨k,e,q⟩:=h
 have hl:=fZ
 have hs:sizeLine=16777216:=sizeLine_eq
 cases x with
 |non=>
  cases rx
  have e':k=false:=e
  subst e'
  exact truthy_none ⟨H,I,q⟩
 |bl b=>
  cases rx
  have e':k=b:=e
  subst e'
  exact wpAny_truthy_bool ⟨H,I,q⟩
 |int i=>
  obtain ⟨t,rfl⟩:=rx
  have e':k=(i != 0):=e
  subst e'
  exact PySem.P.truthy_int ⟨H,I,q⟩
 |str y=>
  obtain ⟨t,rfl⟩:=rx
  obtain ⟨hy,e'⟩:y.length≤sizeLine∧k=((y.length:Int) != 0):=e
  subst e'
  exact PySem.P.truthy_str (by omega) ⟨H,I.tok _,q⟩
 |byt y=>
  obtain ⟨t,rfl⟩:=rx
  obtain ⟨hy,e'⟩:y.size≤sizeLine∧k=((y.size:Int) != 0):=e
  subst e'
  exact PySem.W.truthy_bytes (by omega) ⟨H,I.tok _,q⟩
 |ref p=>
  cases rx
  have e':(∃xs,SqL X.K H p xs∧k=!xs.isEmpty)∨(∃xs,SqT X.K H p xs∧k=!xs.isEmpty)∨∃kvs,H p=some (.dK kvs)∧k=!kvs.isEmpty:=e
  rcases e' with ⟨xs,hx,e'⟩ |⟨xs,hx,e'⟩ |⟨kvs,hx,e'⟩
  ·subst e'
   obtain ⟨its,r,pl,hz⟩:=I.list hx
   have hlen:=r.length
   exact wpAny_truthy_list pl.isList (by simp only[List.size_toArray];omega) ⟨H,I.tok _,by rw[xj r];exact q⟩
  ·subst e'
   obtain ⟨its,r,pl,hz⟩:=I.tuple hx
   have hlen:=r.length
   exact truthy_tuple pl (by simp only[List.size_toArray];omega) ⟨H,I.tok _,by rw[xj r];exact q⟩
  ·subst e'
   obtain ⟨hz,hS,vs,r,m⟩:kvs.length≤sizeLine∧(p==sysModules)=false∧∃vs,KV kvs vs∧s.heap.DictOf (rJ X.prog X.w) p vs:=I.hok p _ hx
   have hlen:kvs.length=vs.length:=Paired.length r
   exact wpAny_truthy_dict hS m (by omega) ⟨H,I.tok _,by rw[Qk r];exact q⟩
 |_=>exact (show False from e).elim
theorem Ql(ha:PE X a ta)(he:∀whole,isTrue a X.env whole=(do let v ←whole;standAt a.pos;holding [v] (truthy v))):
  PT X a (fun σ H Q=>ta σ H fun x H'=>∃k,mY X.K x H' k∧Q k H'):=by
 intro pins s σ H Q I h
 exact isTrue_plain (thn (ha pins s σ H _ I h) fun v s1 ⟨x,H1,I1,r1,q1⟩=>xm pins s1 σ H1 x v Q I1 r1 q1) (he _)
theorem Qm:OpR X (binaryOp .Add) (fun x y H Q=>∃i j,x=.str i∧y=.str j∧i.length+j.length≤sizeLine∧Q (.str (i++j)) H):=by
 intro pins s σ H x y v u Q I rx ry h
 obtain ⟨i,j,rfl,rfl,hz,q⟩:=h
 obtain ⟨t,rfl⟩:=rx
 obtain ⟨t',rfl⟩:=ry
 exact add_str (fun t' tk=>⟨.str (i++j),H,I.tok _,⟨_,rfl⟩,q⟩) hz
theorem vals1{x:V}{us:List Value}(r:Vals [x] us):∃u,us=[u]∧RelV x u:=by
 cases r with
 |cons r1 r2=>cases r2;exact ⟨_,rfl,r1⟩
theorem vals2{x y:V}{us:List Value}(r:Vals [x,y] us):∃u w',us=[u,w']∧RelV x u∧RelV y w':=by
 cases r with
 |cons r1 r2=>
  cases r2 with
  |cons r3 r4=>cases r4;exact ⟨_,_,rfl,r1,r3⟩
theorem xq:bM X (.type "int") (fun xs H Q=>(∃i,xs=[.int i]∧Q (.int i) H)∨∃k,xs=[.bl k]∧Q (.int (if k then 1 else 0)) H):=by
 intro pins s σ H xs us Q I r h
 rcases h with ⟨i,rfl,q⟩ |⟨k,rfl,q⟩
 ·obtain ⟨u,rfl,t,rfl⟩:=vals1 r
  exact call_int_int ⟨.int i,H,I,⟨_,rfl⟩,q⟩
 ·obtain ⟨u,rfl,r1⟩:=vals1 r
  cases r1
  exact call_int_bool ⟨.int (if k then 1 else 0),H,I.tok _,⟨_,rfl⟩,q⟩
end
end L2
namespace L2
open PySem PySem.Spec PyProof.Rows
structure ObjM(h:Heap)(x dx C:Addr)(mA:Str→Option Value):Prop where
 obj:h.get? x=some (PySem.W.instObj C dx)
 ns:h.Ns1 dx mA
 ne:dx≠x
theorem Qn{h:Heap}{dx:Addr}{mA:Str→Option Value}(n:h.Ns1 dx mA):∃od,h.get? dx=some od∧∀name,PySem.W.lookIn name od=some (mA name):=by
 obtain ⟨o,es,ep,ho,hd,hk,_,hm⟩:=n
 refine ⟨o,ho,fun name=>?_⟩
 have e:=hm name
 unfold nsFind findBy at e
 rw[←Array.find?_toList]at e
 unfold PySem.W.lookIn
 rw[hd]
 dsimp only
 split
 ·rename_i y q
  rw[q]at e
  exact congrArg some e
 ·rename_i q
  rw[q]at e
  have a:es.toList.any (·.refKey)=false:=by
   rw[List.any_eq_false]
   intro y hy
   obtain ⟨z,t,hkey⟩:=hk y (Array.mem_toList_iff.mp hy)
   simp[DictEntry.refKey,hkey]
  have a':¬es.toList.any (·.refKey)=true:=by rw[a];exact Bool.false_ne_true
  rw[if_neg a']
  exact congrArg some e
theorem ObjM.look{h:Heap}{x dx C:Addr}{mA:Str→Option Value}(I:ObjM h x dx C mA):∃od,PySem.W.InstAt h x (PySem.W.instObj C dx) C (some od)∧∀name,PySem.W.lookIn name od=some (mA name):=
 let ⟨od,ho,hl⟩:=Qn I.ns
 ⟨od,⟨I.obj,rfl,rfl,ho⟩,hl⟩
section
variable {prog:Program} {w:World} {A:Around} {E:Value→Shared→Prop} {s:Shared} {K:PySem.W.Frag} {x dx C f:Addr} {mA:Str→Option Value} {name:Str} {v:Value}
end
section
variable {P:Program} {w:World} {H H':Hp} {h h':Heap} {a C dx:Addr} {fs fs':List (Str×V)}
theorem Qo(hok:HOk P w H h)(e:H a=some (.ins C dx fs)):∃mA,ObjM h a dx C mA∧(∀f,rK (fs.lookup f) (mA f))∧PySem.Within mA (fs.map (·.1))∧fs.length≤1000∧H dx=some (.own a):=by
 obtain ⟨d,z,ne,ob,mA,n,r,q⟩:=(show ObjOk P w H h a (.ins C dx fs) from hok a _ e)
 exact ⟨mA,⟨ob,n,ne⟩,r,q,z,d⟩
end
structure Cls(K:PySem.W.Frag)(C:Addr):Prop where
 pg:PySem.W.plainGet K C Str.empty=true
 hd:PySem.W.hasDictIn K C=true
 po:PySem.W.plainOver K C=true
 sa:PySem.W.findIn K (.ref C) "__setattr__"=some (some (.builtin "object.__setattr__"))
theorem Cls.get{K:PySem.W.Frag}{C:Addr}(c:Cls K C)(f:Str):PySem.W.plainGet K C f=true:=c.pg
section
variable {X:Cx} {pins:List (Addr×Obj)} {σ:St} {H:Hp} {s:Shared} {a C dx:Addr} {fs:List (Str×V)} {f:Str} {v:V} {A:Around} {E:Value→Shared→Prop}
end
section
variable {X:Cx} {o e value:Expr} {f:Str} {pos pos' tpos:Pos} {ta tv:TE}
end
section
variable {X:Cx} {pins:List (Addr×Obj)} {σ:St} {H:Hp} {s:Shared} {A:Around} {E:Value→Shared→Prop} {Q:Value→Shared→Prop} {c:Value} {b:Bool}
inductive TyOf (K:PySem.W.Frag) (H:Hp):V→Value→Prop where
 |non:TyOf K H .non (.type "NoneType")
 |bl (x:Bool):TyOf K H (.bl x) (.type "bool")
 |int (i:Int):TyOf K H (.int i) (.type "int")
 |str (x:Str):TyOf K H (.str x) (.type "str")
 |flt (x:UInt64):TyOf K H (.flt x) (.type "float")
 |lst {a:Addr} {xs:List V} (e:H a=some (.lst xs)):TyOf K H (.ref a) (.type "list")
 |frz {a:Addr} {o:Obj} {xs:List V} (e:H a=some (.frz o (.lst xs))):TyOf K H (.ref a) (.type "list")
 |tup {a:Addr} {xs:List V} (e:H a=some (.tup xs)):TyOf K H (.ref a) (.type "tuple")
 |dK {a:Addr} {kvs:List (Key×V)} (e:H a=some (.dK kvs)):TyOf K H (.ref a) (.type "dict")
 |dT {a:Addr} {kvs:List (List Key×V)} (e:H a=some (.dT kvs)):TyOf K H (.ref a) (.type "dict")
 |ins {a C dx:Addr} {fs:List (Str×V)} (e:H a=some (.ins C dx fs)) (cl:Cls K C) (ha:PySem.W.findIn K (.ref C) "__class__"=some (some (.builtin "object.__class__")))
   (hn:PySem.W.specialIn K (.builtin "object.__class__") "__get__"=some (some (.builtin "getset_descriptor.__get__"))) (htk:PySem.W.takesIn K (.builtin "object.__class__")=some true)
   (hm:PySem.W.mroIn K C (.type "object")=some true):TyOf K H (.ref a) (.ref C)
theorem Qp{x:V}{u t:Value}(I:Inv X pins σ H s)(rx:RelV x u)(ty:TyOf X.K H x t)(e:PySem.W.kitOne X.K t c=some b)(h:∀tk,Q (.bool b) { s with toks:=tk }):
  wpAny (model X.prog X.w) A (call (.builtin "isinstance") [u,c]) Q E s:=by
 cases ty with
 |non=>cases (show u=Value.none from rx);exact PySem.W.kia_one PySem.W.kitx_none I.kIn True.intro e (fun z=>nomatch z) h
 |bl y=>cases (show u=Value.bool y from rx);exact PySem.W.kia_one PySem.W.kitx_bool I.kIn True.intro e (fun z=>nomatch z) h
 |int i=>obtain ⟨t,q⟩:=(show ∃t,u=Value.int i t from rx);cases q;exact PySem.W.kia_one PySem.W.kitx_int I.kIn True.intro e (fun z=>nomatch z) h
 |str y=>obtain ⟨t,q⟩:=(show ∃t,u=Value.str y t from rx);cases q;exact PySem.W.kia_one PySem.W.kitx_str I.kIn True.intro e (fun z=>nomatch z) h
 |flt y=>obtain ⟨t,q⟩:=(show ∃t,u=Value.float y t from rx);cases q;exact PySem.W.kia_one PySem.W.kitx_float I.kIn True.intro e (fun z=>nomatch z) h
 | @lst a xs ea=>
  cases (show u=Value.ref a from rx)
  obtain ⟨_,_,n,_,h1⟩:=(show ObjOk X.prog X.w H s.heap a (.lst xs) from I.hok a _ ea)
  exact PySem.W.kia_one PySem.W.kitx_list I.kIn ⟨_,h1,rfl⟩ e (fun z=>nomatch z) h
 | @frz a ob xs ea=>
  cases (show u=Value.ref a from rx)
  obtain ⟨_,_,_,n,_,h1⟩:=(show ObjOk X.prog X.w H s.heap a (.frz ob (.lst xs)) from I.hok a _ ea)
  exact PySem.W.kia_one PySem.W.kitx_list I.kIn ⟨_,h1,rfl⟩ e (fun z=>nomatch z) h
 | @tup a xs ea=>
  cases (show u=Value.ref a from rx)
  obtain ⟨_,_,_,p⟩:=(show ObjOk X.prog X.w H s.heap a (.tup xs) from I.hok a _ ea)
  obtain ⟨o,h1,h2,_⟩:=p
  exact PySem.W.kia_one PySem.W.kitx_tuple I.kIn ⟨o,h1,h2⟩ e (fun z=>nomatch z) h
 | @dK a kvs ea=>
  cases (show u=Value.ref a from rx)
  obtain ⟨_,_,vs,_,p⟩:=(show ObjOk X.prog X.w H s.heap a (.dK kvs) from I.hok a _ ea)
  obtain ⟨o,es,ep,h1,h2,_⟩:=p
  exact PySem.W.kia_one PySem.W.kitx_dict I.kIn ⟨o,h1,h2.1⟩ e (fun z=>nomatch z) h
 | @dT a kvs ea=>
  cases (show u=Value.ref a from rx)
  obtain ⟨_,_,xs,_,o,es,ep,h1,h2,_⟩:=(show ObjOk X.prog X.w H s.heap a (.dT kvs) from I.hok a _ ea)
  exact PySem.W.kia_one PySem.W.kitx_dict I.kIn ⟨o,h1,h2.1⟩ e (fun z=>nomatch z) h
 | @ins a C dx fs ea cl ha hn htk hm=>
  cases (show u=Value.ref a from rx)
  obtain ⟨mA,O,_⟩:=Qo I.hok ea
  obtain ⟨od,J,_⟩:=O.look
  exact PySem.W.kia_one (PySem.W.kitx_own (cl.get _) cl.hd ha hn htk hm) I.kIn J e (fun z=>nomatch z) h
end
end L2
namespace L2
open PySem PySem.Spec PyProof.Rows
structure Room(k:Nat)(A:Around):Prop where
 hd:A.handled=none
 dp:A.depth+3 * k+5 < recursionLimit
 un:A.units+16 * k+200 < cLine
theorem Room.mono{j k:Nat}{A:Around}(r:Room k A)(h:j≤k):Room j A:=⟨r.hd,by have:=r.dp;omega,by have:=r.un;omega⟩
theorem Room.deeper{k:Nat}{A:Around}(r:Room (k+1) A)(env:Env):Room k (A.deeper env):=
 ⟨r.hd,by have:=r.dp;show A.depth+1+3 * k+5 < _;omega,by have:=r.un;show A.units+3+16 * k+200 < _;omega⟩
theorem Room.depth{k:Nat}{A:Around}(r:Room k A):A.depth < recursionLimit:=by have:=r.dp;omega
def Qq:TA:=fun _ H Q=>Q [] H
def Qs(ta:TE)(tr:TA):TA:=fun σ H Q=>ta σ H fun x H1=>tr σ H1 fun xs H2=>Q (x::xs) H2
section
variable {X:Cx} {e:Expr} {es:List Expr} {te:TE} {t:TA} {pos:Pos}
theorem gR:PA X [] Qq:=fun _ _ _ _ H Q I h=>Calls.spliced_nil ⟨[],H,I,.nil,h⟩
theorem eU(ha:PE X e te)(hr:PA X es t)(hs:starEach (e::es) X.env=(false,eval e X.env)::starEach es X.env:=by rfl):PA X (e::es) (Qs te t):=by
 intro pos pins s σ H Q I h
 rw[hs]
 show wpAny _ _ (spliced ((false,eval e X.env)::backTo pos (starEach es X.env))) _ _ s
 refine Calls.spliced_cons (thn (ha pins s σ H _ I h) fun u s1 ⟨x,H1,I1,r1,q1⟩=>?_)
 exact thn (hr pos pins s1 σ H1 _ I1 q1) fun us s2 ⟨xs,H2,I2,r2,q2⟩=>⟨x::xs,H2,I2,.cons r1 r2,q2⟩
def Qt(t:TA):TE:=fun σ H Q=>t σ H fun xs H1=>xs.length≤sizeLine∧∀p,H1 p=none→Q (.ref p) (upd H1 p (.tup xs))
def Qu(t:TA):TE:=fun σ H Q=>t σ H fun xs H1=>xs.length≤sizeLine∧∀p,H1 p=none→Q (.ref p) (upd H1 p (.lst xs))
theorem Qv{x1}(h:PA X es t):PE X (.Tuple es x1 pos) (Qt t):=by
 intro pins s σ H Q I hq
 refine wpAny_Tuple_spliced (thn (h pos pins s σ H _ I hq) fun us s1 ⟨xs,H1,I1,r,z,q⟩=>⟨by rw[←r.length];exact z,?_⟩)
 have hf:H1 s1.heap.objs.size=none:=I1.hok.fresh (Nat.le_refl _)
 refine ⟨.ref s1.heap.objs.size,upd H1 s1.heap.objs.size (.tup xs),I1.laid (t':=s1.toks) (fun b u e=>Heap.get?_push_of_some _ e) (Nat.le_refl _) ?_,rfl,q _ hf⟩
 exact ⟨z,us,r,⟨_,Heap.get?_push_size _ rfl,rfl,_,rfl⟩⟩
theorem Qw(h:PA X es t):PE X (.List es pos) (Qu t):=by
 intro pins s σ H Q I hq
 refine wpAny_List_spliced (thn (h pos pins s σ H _ I hq) fun us s1 ⟨xs,H1,I1,r,z,q⟩=>⟨by rw[←r.length];exact z,?_⟩)
 have hf:H1 s1.heap.objs.size=none:=I1.hok.fresh (Nat.le_refl _)
 refine ⟨.ref s1.heap.objs.size,upd H1 s1.heap.objs.size (.lst xs),I1.laid (t':=s1.toks) (fun b u e=>Heap.get?_push_of_some _ e) (Nat.le_refl _) ?_,rfl,q _ hf⟩
 exact ⟨z,us,0,r,Heap.get?_push_size _ rfl⟩
end
abbrev Sp:=List V→Hp→VK→XK→Prop
abbrev CXT:=List Env→Hp→Shared→XK→Value→Shared→Prop
structure Env0(P:Program)(w:World)(K:PySem.W.Frag)(mg:Str→Option Value)(base:Heap)(A:Around)(outer:List Env)(s:Shared)(H:Hp):Prop where
 frames:A.frames=some outer
 mod:Mod K mg base
 bs:∀b o,base.get? b=some o→s.heap.get? b=some o∧H b=none
 bsz:base.objs.size≤s.heap.objs.size
 funs:s.heap.FunFrames base outer
 frf:∀b∈frs outer,H b=none
 hok:HOk P w H s.heap
 bare:AllBare s.gens
def CE(outer:List Env)(P:Program)(w:World)(H:Hp)(s:Shared)(Q:VK)(u:Value)(s':Shared):Prop:=
 ∃v H',s'.os=s.os∧AllBare s'.gens∧Un (frs outer) [] H H' s.heap s'.heap∧HOk P w H' s'.heap∧RelV v u∧Q v H'
def CR(CX:CXT)(outer:List Env)(P:Program)(w:World)(H:Hp)(s:Shared)(Q:VK)(E:XK)(r:Result)(s':Shared):Prop:=
 match r with
 |.ok (.ret u)=>CE outer P w H s Q u s'
 |.ok _=>False
 |.error e=>CX outer H s E e s'
structure FnOk(P:Program)(w:World)(K:PySem.W.Frag)(mg:Str→Option Value)(base:Heap)(CX:CXT)(k:Nat)(f:Addr)(fd:FuncData)(ps:List Str)(sp:Sp):Prop where
 len:∀vs H Q E,sp vs H Q E→vs.length=ps.length
 run:∀(A:Around)(outer:List Env)(s:Shared)(H:Hp)(args:Args)(us:List Value)(vs:List V)(Q:VK)(E:XK),Room k A→Env0 P w K mg base A outer s H→BindsTo s fd args (ps.zip us)→Vals vs us→sp vs H Q E→
  codeAny (model P w) A (.call (.ref f) args) (CR CX outer P w H s Q E) s
theorem FnOk.mono{P:Program}{w:World}{K:PySem.W.Frag}{mg:Str→Option Value}{base:Heap}{CX:CXT}{j k:Nat}{f:Addr}{fd:FuncData}{ps:List Str}{sp:Sp}(F:FnOk P w K mg base CX j f fd ps sp)(h:j≤k):
  FnOk P w K mg base CX k f fd ps sp:=⟨F.len,fun A outer s H args us vs Q E hr=>F.run A outer s H args us vs Q E (hr.mono h)⟩
section
variable {X:Cx} {pins:List (Addr×Obj)} {σ:St} {H:Hp} {s s':Shared}
theorem Inv.env0(I:Inv X pins σ H s):Env0 X.prog X.w X.K X.mg X.base X.A X.stack s H:=
 ⟨I.ok.frames,I.ok.mod,I.bs,Nat.le_trans I.ok.bsz I.sz,I.stack,I.stkFree,I.hok,I.bare⟩
theorem Inv.after{Q:VK}{u:Value}(I:Inv X pins σ H s)(h:CE X.stack X.prog X.w H s Q u s'):EP X pins σ Q u s':=by
 obtain ⟨v,H',os,bare,un,hok,r,q⟩:=h
 obtain ⟨hh,g,d,t,os'⟩:=s'
 obtain rfl:os'=s.os:=os
 exact ⟨v,H',I.call (h':=hh) (g':=g) (d':=d) (t':=t) (ch:=[]) un hok bare (fun b z=>absurd z (by simp)),r,q⟩
end
def Qx(sp:Sp)(dvs:List V)(E:XK)(t:TA):TE:=fun σ H Q=>t σ H fun vs H1=>sp (vs++dvs) H1 Q E
def Binds(K:PySem.W.Frag)(fd:FuncData)(ps:List Str)(ds:List Value):Prop:=
 ∀(s:Shared)(us:List Value),K.In s.heap→(us++ds).length=ps.length→BindsTo s fd ⟨us,[]⟩ (ps.zip (us++ds))
theorem Binds.all{K:PySem.W.Frag}{fd:FuncData}{ps:List Str}(h:∀us:List Value,us.length=ps.length→bindArgs fd ⟨us,[]⟩=pure (ps.zip us)):Binds K fd ps []:=fun s us _ hl=>by
 rw[List.append_nil]at hl ⊢
 exact .of_eq (h us hl)
def gU(CX:CXT)(X:Cx)(E:XK):Prop:=∀(pins:List (Addr×Obj))(σ:St)(H:Hp)(s:Shared)(e:Value)(s':Shared),Inv X pins σ H s→CX X.stack H s E e s'→X.xe e s'
section
variable {X:Cx} {CX:CXT} {k:Nat} {f C:Addr} {fd:FuncData} {ps:List Str} {sp:Sp} {dvs:List V} {ds:List Value} {E:XK} {x m:Str} {p pos apos:Pos} {e o:Expr} {es:List Expr} {ta:TE} {t:TA}
theorem Qy{pins:List (Addr×Obj)}{σ:St}{H:Hp}{s:Shared}{Q:VK}{us:List Value}{vs:List V}(F:FnOk X.prog X.w X.K X.mg X.base CX k f fd ps sp)(hr:Room k X.A)(hb:Binds X.K fd ps ds)(hd:Vals dvs ds)(hx:gU CX X E)
  (I:Inv X pins σ H s) (r:Vals vs us) (h:sp (vs++dvs) H Q E):wpAny (model X.prog X.w) X.A (call (.ref f) us) (EP X pins σ Q) X.xe s:=by
 have r2:Vals (vs++dvs) (us++ds):=r.append hd
 have hl:(us++ds).length=ps.length:=by rw[←r2.length];exact F.len _ _ _ _ h
 refine wpAny_call (codeAny_mono (F.run X.A X.stack s H ⟨us,[]⟩ (us++ds) (vs++dvs) Q E hr I.env0 (hb s us I.kIn hl) r2 h) fun r s' hq=>?_)
 cases r with
 |error e=>exact hx pins σ H s e s' I hq
 |ok fl=>
  cases fl with
  |ret u=>exact I.after hq
  |next=>exact False.elim hq
  |brk=>exact False.elim hq
  |cont=>exact False.elim hq
theorem Qz(F:FnOk X.prog X.w X.K X.mg X.base CX k f fd ps sp)(hr:Room k X.A)(hg:Gl X x)(hm:X.mg x=some (.ref f))(hk:PySem.W.keepIn X.K (.ref f)=true)(hb:Binds X.K fd ps ds)(hd:Vals dvs ds)(hx:gU CX X E)
  (ha:PA X (e::es) t) (hdb:(x==("__debug__":Str))=false:=by decide) (he:starEach (e::es) X.env=(false,eval e X.env)::starEach es X.env:=by rfl) (hpl:(backTo pos (starEach es X.env)).any (·.1)=false:=by rfl):
  PE X (.Call (.Name x p) (e::es) [] pos) (Qx sp dvs E t):=by
 intro pins s σ H Q I h
 refine wpAny_Call_Name_kw (fY I hg hm ?_ hdb)
 refine PySem.W.callWith_K (h₀:=X.base) I.ok.mod.kin hk (thn (ha pos pins s σ H _ I h) fun us s1 ⟨vs,H1,I1,r,q⟩=>⟨I1.kIn,?_⟩) he hpl
 exact Qy F hr hb hd hx I1 r q
end
section
variable {X:Cx} {CX:CXT} {k:Nat} {f C:Addr} {fd:FuncData} {ps ks:List Str} {sp:Sp} {E:XK} {x m:Str} {p pos apos kpos:Pos} {e o:Expr} {es:List Expr} {kws:List Keyword} {te ta:TE} {t tk:TA} {nm:Option Str}
variable {g:List Value→List Value→List Value} {gV:List V→List V→List V}
end
structure FnScope(N P:List Str)(sc:Scope):Prop where
 kind:sc.kind=.function
 co:sc.isCoroutine=false
 gen:sc.isGenerator=false
 nd:N.Nodup
 pre:N.take P.length=P
 par:∀x∈P,sc.names.lookup x=some .local∨sc.names.lookup x=some .cell
 nofree:∀y∈sc.names,y.2≠.free
theorem xr{kindOf:Str→Option NameKind}{x:Str}:∀{binds:List (Str×Value)}{m:Str→Option Value},(∀v,(x,v)∉binds)→bindL kindOf binds m x=m x
 |[],_,_=>rfl
 | (n,v)::r,m,h=>by
  unfold bindL
  rw[xr fun w hw=>h w (List.mem_cons_of_mem _ hw)]
  split
  ·have:x≠n:=by rintro rfl;exact h v List.mem_cons_self
   simp[this]
  ·rfl
theorem xu{kindOf:Str→Option NameKind}{x:Str}:∀{binds:List (Str×Value)}{m:Str→Option Value},(∀v,(x,v)∉binds)→bindC kindOf binds m x=m x
 |[],_,_=>rfl
 | (n,v)::r,m,h=>by
  unfold bindC
  rw[xu fun w hw=>h w (List.mem_cons_of_mem _ hw)]
  split
  ·rfl
  ·have:x≠n:=by rintro rfl;exact h v List.mem_cons_self
   simp[this]
theorem xF{kindOf:Str→Option NameKind}{x:Str}{v:Value}:∀{P:List Str}{vs:List Value}{i:Nat}{m:Str→Option Value},P.Nodup→P[i]?=some x→vs[i]?=some v→kindOf x=some .local→
  bindL kindOf (P.zip vs) m x=some v
 |[],_,_,_,_,h,_,_=>by simp at h
 |_::_,[],_,_,_,_,h,_=>by simp at h
 |p::P,w::vs,0,m,nd,h1,h2,hk=>by
  simp at h1 h2;subst h1;subst h2
  show bindL kindOf ((p,w)::P.zip vs) m p=_
  unfold bindL
  rw[xr fun v hv=>(List.nodup_cons.mp nd).1 (List.of_mem_zip hv).1,if_pos hk]
  simp
 |p::P,w::vs,i+1,m,nd,h1,h2,hk=>by
  show bindL kindOf ((p,w)::P.zip vs) m x=_
  unfold bindL
  exact xF (i:=i) (List.nodup_cons.mp nd).2 (by simpa using h1) (by simpa using h2) hk
theorem xG{kindOf:Str→Option NameKind}{x:Str}{v:Value}:∀{P:List Str}{vs:List Value}{i:Nat}{m:Str→Option Value},P.Nodup→P[i]?=some x→vs[i]?=some v→kindOf x≠some .local→
  bindC kindOf (P.zip vs) m x=some v
 |[],_,_,_,_,h,_,_=>by simp at h
 |_::_,[],_,_,_,_,h,_=>by simp at h
 |p::P,w::vs,0,m,nd,h1,h2,hk=>by
  simp at h1 h2;subst h1;subst h2
  show bindC kindOf ((p,w)::P.zip vs) m p=_
  unfold bindC
  rw[xu fun v hv=>(List.nodup_cons.mp nd).1 (List.of_mem_zip hv).1,if_neg hk]
  simp
 |p::P,w::vs,i+1,m,nd,h1,h2,hk=>by
  show bindC kindOf ((p,w)::P.zip vs) m x=_
  unfold bindC
  exact xG (i:=i) (List.nodup_cons.mp nd).2 (by simpa using h1) (by simpa using h2) hk
def start(N:List Str)(vs:List V):St:=vs.map some++List.replicate (N.length - vs.length) none
def dB(CX:CXT)(P:Program)(w:World)(K:PySem.W.Frag)(mg:Str→Option Value)(base:Heap)(N:List Str)(qual:Str)(scope:Scope)(f:Addr)(cd:Value)(A:Around)(outer:List Env)(s:Shared)(H:Hp)(E:XK):Cx where
 prog:=P
 w:=w
 K:=K
 mg:=mg
 base:=base
 A:=A.deeper (envOfC qual scope s.heap.objs.size f cd)
 N:=N
 s₀:=s
 H₀:=H
 env:=envOfC qual scope s.heap.objs.size f cd
 outer:=outer
 stack:=envOfC qual scope s.heap.objs.size f cd::outer
 ex:=[]
 calm:=true
 fn:=fun _=>true
 pn:=[]
 xe:=fun e s'=>wpAny (model P w) (A.deeper (envOfC qual scope s.heap.objs.size f cd)) (leaving (envOfC qual scope s.heap.objs.size f cd) e) (fun _ s''=>CX outer H s E e s'') (fun e' s''=>CX outer H s E e' s'') s'
theorem xH{sc:Scope}{n:Nat}{x:Str}(h:sc.names.lookup x=some .cell):∃c,(cellsFrom n sc.names []).lookup x=some c:=by
 have q:=PySem.W.cellsFrom_some sc.names n [] (.inl h)
 exact Option.isSome_iff_exists.mp q
theorem QB{CX:CXT}{P:Program}{w:World}{K:PySem.W.Frag}{mg:Str→Option Value}{base:Heap}{N ps:List Str}{qual:Str}{scope:Scope}{f:Addr}{cd:Value}{A:Around}{outer:List Env}{s s1:Shared}{H:Hp}{E:XK}{us:List Value}{vs:List V}
  (S:FnScope N ps scope) (hd:A.handled=none) (e0:Env0 P w K mg base A outer s H) (hl:vs.length=ps.length) (r:Vals vs us)
  (x:InCallC s s.heap.objs.size (bindL (envOfC qual scope s.heap.objs.size f cd).kindOf (ps.zip us) fun _=>none) (cellsFrom (s.heap.objs.size+1) scope.names []) (bindC (envOfC qual scope s.heap.objs.size f cd).kindOf (ps.zip us) fun _=>none) s1):
  Inv (dB CX P w K mg base N qual scope f cd A outer s H E) [] (start N vs) H s1:=by
 have hpl:ps.length≤N.length:=by have:=congrArg List.length S.pre;rw[List.length_take]at this;omega
 obtain ⟨h1,tk,rfl,hk⟩:=x.done
 have noA:∀b:Addr,b∉(dB CX P w K mg base N qual scope f cd A outer s H E).ex:=fun b z=>absurd (show b∈([]:List Addr) from z) (by simp)
 refine ⟨⟨e0.mod,S.kind,rfl,rfl,Nat.le_refl _,fun y z c h1 h2=>?_,fun y hy=>?_,fun y c _ h=>?_,fun _=>hd,Around.frames_deeper e0.frames,.inr ⟨rfl,rfl⟩,fun b z=>absurd z (noA b),e0.bs,e0.bsz,fun b _ _=>noA b,fun b z=>absurd z (noA b),e0.funs,e0.frf⟩,
  rfl,e0.bare,Un.kept hk,⟨_,x.toInCall.ns,fun i y v h1 h2 h3=>?_⟩,fun y c h=>⟨_,x.cell y c h⟩,e0.hok.fresh (Nat.le_refl _),fun y c h=>?_,fun p hp=>absurd (show p∈([]:List (Addr×Obj)) from hp) (by simp),e0.hok.kept hk,?_⟩
 ·exact name_of_addr x.apart (PySem.mem_of_lookup h1) (PySem.mem_of_lookup h2)
 ·have hy:scope.names.lookup y=some .cell∨scope.names.lookup y=some .free:=hy
  rcases hy with hy |hy
  ·exact xH hy
  ·exact absurd rfl (S.nofree _ (PySem.mem_of_lookup hy))
 ·exact Nat.le_of_lt (x.above y c (PySem.mem_of_lookup h))
 ·have hi:i < vs.length:=by
   unfold start at h2
   by_cases hi:i < vs.length
   ·exact hi
   ·rw[List.getElem?_append_right (by simpa using hi)]at h2
    rw[List.getElem?_replicate]at h2
    split at h2 <;> cases h2
  have ha:vs[i]?=some v:=by
   unfold start at h2
   rw[List.getElem?_append_left (by simpa using hi),List.getElem?_map]at h2
   cases e:vs[i]? with
   |none=>rw[e]at h2;cases h2
   |some a=>rw[e]at h2;cases h2;rfl
  obtain ⟨u,hu,rv⟩:=r.get ha
  have hp:ps[i]?=some y:=by
   rw[←S.pre,List.getElem?_take_of_lt (by omega)];exact h1
  have ndP:ps.Nodup:=by rw[←S.pre];exact S.nd.sublist (List.take_sublist _ _)
  refine ⟨u,rv,?_⟩
  rcases S.par y (List.mem_of_getElem? hp) with k |k
  ·exact .inl ⟨k,xF ndP hp hu k⟩
  ·obtain ⟨c,e⟩:=xH (n:=s.heap.objs.size+1) k
   refine .inr ⟨.inl k,c,e,?_⟩
   have q:=x.cell y c e
   rw[xG ndP hp hu (by show scope.names.lookup y≠_;rw[k];decide)]at q
   exact q
 ·exact e0.hok.fresh (Nat.le_of_lt (x.above y c (PySem.mem_of_lookup h)))
 ·unfold start
  show _=N.length
  rw[List.length_append,List.length_map,List.length_replicate]
  omega
theorem QC{CX:CXT}{P:Program}{w:World}{K:PySem.W.Frag}{mg:Str→Option Value}{base:Heap}{k:Nat}{f:Addr}{name qual:Str}{params:Arguments}{body:List Stmt}{scope:Scope}{dV kV doc pm cdv ct oc:Value}{an od:Option Addr}
  {osl:Array (Option Value)} {N ps:List Str} {sp:Sp} (lk:K.lookup f=some ⟨oc,od,.func (PySem.W.fnOf name qual params body scope dV kV doc pm an cdv ct),osl⟩) (hcd:PySem.W.codeIn K cdv qual=true) (S:FnScope N ps scope)
  (len:∀vs H Q E,sp vs H Q E→vs.length=ps.length)
  (hbody:∀(A:Around)(outer:List Env)(s:Shared)(H:Hp)(vs:List V)(Q:VK)(E:XK),Room k (A.deeper (envOfC qual scope s.heap.objs.size f cdv))→sp vs H Q E→
   ∃t,PSs (dB CX P w K mg base N qual scope f cdv A outer s H E) body t∧t { nx:=fun _ H'=>Q .non H',rt:=Q } (start N vs) H):
  FnOk P w K mg base CX (k+1) f (PySem.W.fnOf name qual params body scope dV kV doc pm an cdv ct) ps sp:=by
 refine ⟨len,fun A outer s H args us vs Q E hr e0 hb r hsp=>?_⟩
 have hl:=len _ _ _ _ hsp
 have KX:K.In s.heap:=e0.mod.kin.keeps fun b o e=>(e0.bs b o e).1
 have lim:s.heap.NoLimit:=e0.mod.nolimit.keeps fun b o e=>(e0.bs b o e).1
 have hkind:∀y∈ps.zip us,scope.names.lookup y.1=some .local∨(scope.names.lookup y.1=some .cell∧((cellsFrom (s.heap.objs.size+1) scope.names []).lookup y.1).isSome=true):=fun ⟨n,v⟩ hy=>by
  rcases S.par n (List.of_mem_zip hy).1 with q |q
  ·exact .inl q
  ·exact .inr ⟨q,PySem.W.cellsFrom_some _ _ _ (.inl q)⟩
 refine codeAny_call_function hr.depth (KX _ _ lk) rfl S.co S.gen rfl (PySem.W.codeRec_of KX hcd) (hb _ _ _ _ ?_)
 refine wpAny_newFunctionEnv_cells S.kind hkind fun env he s1 x=>?_
 subst he
 refine ⟨lim.keeps x.toInCall.keep,codeAny_func ?_⟩
 obtain ⟨t,ht,hq⟩:=hbody A outer s H vs Q E (hr.deeper _) hsp
 have I:Inv (dB CX P w K mg base N qual scope f cdv A outer s H E) [] (start N vs) H s1:=QB S hr.hd e0 hl r x
 refine wpAny_mono (ht [] s1 (start N vs) H _ I hq) (fun fl s' hs=>?_) fun e s' hs=>hs
 have fin:∀{σ':St}{H':Hp}{v:V}{u:Value},Inv (dB CX P w K mg base N qual scope f cdv A outer s H E) [] σ' H' s'→RelV v u→Q v H'→CE outer P w H s Q u s':=
  fun {σ' H' v u} J rv q=>⟨v,H',J.os,J.bare,J.base,J.hok,rv,q⟩
 cases fl with
 |ret u=>
  obtain ⟨v,σ',H',J,rv,q⟩:=hs
  exact fin J rv q
 |next=>
  obtain ⟨σ',H',J,q⟩:=hs
  exact fin (v:=V.non) (u:=Value.none) J rfl q
 |brk=>
  obtain ⟨_,_,_,q⟩:=hs
  exact False.elim q
 |cont=>
  obtain ⟨_,_,_,q⟩:=hs
  exact False.elim q
end L2
namespace L2
open PySem PySem.Spec PyProof.Rows
section
variable {X:Cx} {x:Str} {p pos:Pos} {e:Expr} {es:List Expr} {t:TA} {id T:String} {r:List V→Hp→VK→Prop}
def tCB(r:List V→Hp→VK→Prop)(t:TA):TE:=fun σ H Q=>t σ H fun vs H1=>r vs H1 Q
theorem mZ (hc:bM X (.builtin id) r) (hg:Gl X x) (hm:X.mg x=none) (hv:bootBuiltins x=some (.builtin id)) (ha:PA X (e::es) t) (hn:x≠"__name__":=by decide) (hdb:(x==("__debug__":Str))=false:=by decide)
  (he:starEach (e::es) X.env=(false,eval e X.env)::starEach es X.env:=by rfl) (hpl:(backTo pos (starEach es X.env)).any (·.1)=false:=by rfl):PE X (.Call (.Name x p) (e::es) [] pos) (tCB r t):=by
 intro pins s σ H Q I h
 refine wpAny_Call_Name_kw (gQ I hg hm hv ?_ hn hdb)
 exact PyProof.Rows.callWith_builtin1 (thn (ha pos pins s σ H _ I h) fun us s1 ⟨vs,H1,I1,r1,q1⟩=>hc pins s1 σ H1 vs us Q I1 r1 q1) he hpl
theorem m5 (hc:bM X (.type T) r) (hg:Gl X x) (hm:X.mg x=none) (hv:bootBuiltins x=some (.type T)) (ha:PA X (e::es) t) (hn:x≠"__name__":=by decide) (hdb:(x==("__debug__":Str))=false:=by decide)
  (he:starEach (e::es) X.env=(false,eval e X.env)::starEach es X.env:=by rfl) (hpl:(backTo pos (starEach es X.env)).any (·.1)=false:=by rfl):PE X (.Call (.Name x p) (e::es) [] pos) (tCB r t):=by
 intro pins s σ H Q I h
 refine wpAny_Call_Name_kw (gQ I hg hm hv ?_ hn hdb)
 exact PyProof.Rows.callWith_type1 (thn (ha pos pins s σ H _ I h) fun us s1 ⟨vs,H1,I1,r1,q1⟩=>hc pins s1 σ H1 vs us Q I1 r1 q1) he hpl
end
end L2
namespace HT
open PySem PyProof.Rows
section
open PySem.SeqAt
open PySem.AutoSeq1 (wpAny_loadPart')
open PySem.MeetsSeq PySem.MeetsSeq2 PySem.MeetsSeq3
end
section
variable {prog:Program} {w:World} {A:Around} {E:Value→Shared→Prop} {s:Shared}
theorem QD{t b:Addr}{vs ws:List Value}{Q:Value→Shared→Prop}(ht:IsTup s.heap t vs.toArray)(hb:IsTup s.heap b ws.toArray)(hv:vs≠[])
  (h1:ws=[]→Q (.ref t) s) (h2:ws≠[]→Q (.ref s.heap.objs.size) { s with heap:=s.heap.push { cls:=.type "tuple",data:=.seq (vs++ws).toArray } })
  (hsz:vs.length+ws.length≤sizeLine):wpAny (model prog w) A (binaryOp .Add (.ref t) (.ref b)) Q E s:=by
 obtain ⟨⟨cls,dd,data,sl⟩,ho,hc,n,hd⟩:=id ht
 obtain ⟨⟨cls2,dd2,data2,sl2⟩,ho2,hc2,n2,hd2⟩:=id hb
 simp only at hc hd hc2 hd2
 subst hc hd hc2 hd2
 have e:vs.toArray++ws.toArray=(vs++ws).toArray:=by simp
 by_cases hw:ws=[]
 ·exact concat_meets ⟨_,ho,rfl⟩ ⟨_,ho2,rfl⟩ noFill_tuple_add seq_tuple_add PySem.F.slot_tuple_add PySem.F.entry_tuple_add (PySem.F.args_tuple_add_2 _ _)
   (tuple_addW1 t b vs.toArray ws.toArray n n2 dd dd2 sl sl2 (by simpa using hv) (by simp[hw])) ⟨ho,ho2,h1 hw⟩
 ·refine concat_meets ⟨_,ho,rfl⟩ ⟨_,ho2,rfl⟩ noFill_tuple_add seq_tuple_add PySem.F.slot_tuple_add PySem.F.entry_tuple_add (PySem.F.args_tuple_add_2 _ _)
   (tuple_addW2 t b vs.toArray ws.toArray n n2 dd dd2 sl sl2 (by simpa using hv) (by simpa using hw) (by rw[List.size_toArray,List.size_toArray];exact hsz)) ⟨ho,ho2,?_⟩
  rw[e]
  exact h2 hw
def sIx(n d:Nat):Option Int→Nat
 |none=>d
 |some v=>if v < 0 then (v+(n:Int)).toNat else min v.toNat n
theorem m6(n d k:Nat):sIx n d (some (k:Int))=min k n:=by
 show (if (k:Int) < 0 then ((k:Int)+(n:Int)).toNat else min (k:Int).toNat n)=min k n
 rw[if_neg (by omega),Int.toNat_natCast]
theorem xJ(n d:Nat)(hd:d≤n)(o:Option Int):sIx n d o≤n:=by
 cases o with
 |none=>exact hd
 |some v=>
  show (if v < 0 then (v+(n:Int)).toNat else min v.toNat n)≤n
  by_cases hv:v < 0
  ·rw[if_pos hv];omega
  ·rw[if_neg hv];exact Nat.min_le_right _ _
theorem xK(v:Int)(n d:Nat):(if v < 0 then max (v+(n:Int)) 0 else min v (n:Int))=((sIx n d (some v):Nat):Int):=by
 show (if v < 0 then max (v+(n:Int)) 0 else min v (n:Int))=(((if v < 0 then (v+(n:Int)).toNat else min v.toNat n):Nat):Int)
 by_cases hv:v < 0
 ·simp only[if_pos hv];omega
 ·simp only[if_neg hv];omega
theorem QF(lo hi:Option Int)(n:Nat):Builtin.Slice.sliceAdjust lo hi 1 (n:Int)=(((sIx n 0 lo:Nat):Int),((sIx n n hi:Nat):Int)):=by
 have h1:¬((1:Int) < 0):=by omega
 unfold Builtin.Slice.sliceAdjust
 simp only[h1,if_false]
 refine Prod.ext ?_ ?_
 ·cases lo with
  |none=>rfl
  |some v=>exact xK v n 0
 ·cases hi with
  |none=>rfl
  |some v=>exact xK v n n
theorem QG(i j:Nat):Builtin.Slice.slicePlaces (i:Int) (j:Int) 1=j - i:=by
 unfold Builtin.Slice.slicePlaces
 have h1:(1:Int) > 0:=by omega
 simp only[h1,if_true,Int.ediv_one]
 split <;> omega
theorem xM{v:Value}{o:Option Int}{Q:Option Int→Shared→Prop}(p:IsPart v o)(h:Q o s):wpAny (model prog w) A (Builtin.Slice.slicePartIndex v) Q E s:=by
 cases p with
 |none=>exact slicePart_none h
 |int i t=>exact slicePart_int h
theorem xN{sl:Addr}{vl vu:Value}{lo hi:Option Int}{n:Nat}{Q:Int×Int×Nat→Shared→Prop}(hs:s.heap.IsSliceOf sl vl vu .none)(pl:IsPart vl lo)(pu:IsPart vu hi)
  (h:Q (((sIx n 0 lo:Nat):Int),1,sIx n n hi - sIx n 0 lo) s):wpAny (model prog w) A (Builtin.Slice.sliceApplied (.ref sl) (pure (n:Int))) Q E s:=by
 obtain ⟨os,hos,hcs,hds⟩:=id hs
 unfold Builtin.Slice.sliceApplied Builtin.Slice.sliceFields
 refine wpAny_bind (wpAny_bind (wpAny_field hos hds (x:=vl) rfl (wpAny_bind (wpAny_field hos hds (x:=vu) rfl (wpAny_bind (wpAny_field hos hds (x:=.none) rfl (wpAny_pure ?_)))))))
 refine wpAny_bind (slicePart_none ?_)
 show wpAny _ _ (if ((1:Int)==0)=true then _ else _) _ _ s
 rw[if_neg (by decide)]
 refine wpAny_bind (xM pl (wpAny_bind (xM pu (wpAny_bind (wpAny_pure ?_)))))
 show wpAny _ _ (match Builtin.Slice.sliceAdjust lo hi 1 (n:Int) with | (lo,hi)=>pure (lo,(1:Int),Builtin.Slice.slicePlaces lo hi 1)) _ _ s
 rw[QF lo hi n]
 show wpAny _ _ (pure (((sIx n 0 lo:Nat):Int),(1:Int),Builtin.Slice.slicePlaces ((sIx n 0 lo:Nat):Int) ((sIx n n hi:Nat):Int) 1)) _ _ s
 rw[QG]
 exact wpAny_pure h
theorem QH(xs:Array Value)(i k:Nat):((List.range k).filterMap fun (m:Nat)=>xs[((i:Int)+(m:Int) * 1).toNat]?).toArray=((xs.toList.drop i).take k).toArray:=by
 have e:(fun (m:Nat)=>xs[((i:Int)+(m:Int) * 1).toNat]?)=fun m=>xs[i+m]?:=by
  funext m
  have:((i:Int)+(m:Int) * 1).toNat=i+m:=by omega
  rw[this]
 rw[e]
 have:=pick_run xs i k
 rw[List.filterMap_map]at this
 have e2:((fun x=>xs[x]?)∘fun x=>i+x)=fun m=>xs[i+m]?:=rfl
 rw[e2]at this
 rw[this]
theorem QJ{t sl:Addr}{items:Array Value}{vl vu:Value}{lo hi:Option Int}{Q:Value→Shared→Prop}(ht:IsTup s.heap t items)(hs:s.heap.IsSliceOf sl vl vu .none)(pl:IsPart vl lo)(pu:IsPart vu hi)
  (hw:¬(sIx items.size 0 lo=0∧sIx items.size items.size hi=items.size))
  (h:Q (.ref s.heap.objs.size) { s with heap:=s.heap.push { cls:=.type "tuple",data:=.seq ((items.toList.drop (sIx items.size 0 lo)).take (sIx items.size items.size hi - sIx items.size 0 lo)).toArray } })
  (hsz:items.size≤sizeLine):wpAny (model prog w) A (getItem (.ref t) (.ref sl)) Q E s:=by
 have htake:sizeOk (.seq ((items.toList.drop (sIx items.size 0 lo)).take (sIx items.size items.size hi - sIx items.size 0 lo)).toArray):=by
  show ((items.toList.drop (sIx items.size 0 lo)).take (sIx items.size items.size hi - sIx items.size 0 lo)).toArray.size≤sizeLine
  rw[List.size_toArray,List.length_take,List.length_drop,Array.length_toList]
  omega
 have hj:sIx items.size items.size hi≤items.size:=xJ _ _ (Nat.le_refl _) hi
 obtain ⟨os,hos,hcs,hds⟩:=id hs
 have hTs:s.TypeIs (.ref sl) "slice":=⟨os,hos,hcs⟩
 unfold getItem
 try with_reducible refine wpAny_holding ?_
 first |refine wpAny_bind (wpAny_pure ?_) |skip
 refine wpAny_bind (wpAny_sequenceKey ht.typeIs (by decide) ?_)
 refine wpAny_bind (wpAny_callSpecial?_slot (name:=Str.ofString "__getitem__") ht.typeIs PyProof.Rows.slot_tuple_getitem
  (wpAny_call_entry PyProof.Rows.slot_tuple_getitem ht.typeIs entry_tuple_getitem ?_ (args_tuple_getitem _ _)))
 show wpAny _ _ (Builtin.Tuple.tupleItemsOf (.ref t) >>= _) _ _ s
 refine wpAny_bind (tupleItemsOf_ ht ?_)
 refine wpAny_bind (wpAny_typeOf hTs ?_)
 rw[if_pos (by decide)]
 refine wpAny_bind (xN hs pl pu ?_)
 have hno:¬((((sIx items.size 0 lo:Nat):Int)==0&&(1:Int)==1&&(sIx items.size items.size hi - sIx items.size 0 lo)==items.size)=true):=by
  intro q
  rw[Bool.and_eq_true,Bool.and_eq_true]at q
  have q1:((sIx items.size 0 lo:Nat):Int)=0:=eq_of_beq q.1.1
  have q2:sIx items.size items.size hi - sIx items.size 0 lo=items.size:=eq_of_beq q.2
  exact hw ⟨by omega,by omega⟩
 show wpAny _ _ (if (((sIx items.size 0 lo:Nat):Int)==0&&(1:Int)==1&&(sIx items.size items.size hi - sIx items.size 0 lo)==items.size)=true then _ else _) _ _ s
 rw[if_neg hno,QH]
 first
  |exact wpAny_bind (m:=Builtin.Tuple.tupleExact _) (wpAny_newObj_type (wpAny_pure ⟨_,rfl,wpAny_pure h⟩) htake)
  |exact wpAny_bind (m:=Builtin.Tuple.tupleExact _) (wpAny_newObj_type (wpAny_bind (wpAny_pure (wpAny_pure ⟨_,rfl,wpAny_pure h⟩))) htake)
  |exact wpAny_bind (wpAny_bind (m:=Builtin.Tuple.tupleExact _) (wpAny_newObj_type (wpAny_pure (wpAny_pure ⟨_,rfl,wpAny_pure h⟩)) htake))
  |exact wpAny_bind (wpAny_bind (m:=Builtin.Tuple.tupleExact _) (wpAny_newObj_type (wpAny_pure ⟨_,rfl,wpAny_pure h⟩) htake))
end
end HT
namespace L2
open PySem PySem.Spec PyProof.Rows
abbrev TO:=St→Hp→(Option Int→Hp→Prop)→Prop
def PO(X:Cx)(e:Option Expr)(t:TO):Prop:=
 ∀(pins:List (Addr×Obj))(s:Shared)(σ:St)(H:Hp)(Q:Option Int→Hp→Prop),Inv X pins σ H s→t σ H Q→
  wpAny (model X.prog X.w) X.A (evalPart e X.env) (fun u s'=>∃o H',Inv X pins σ H' s'∧IsPart u o∧Q o H') X.xe s
def QK:TO:=fun _ H Q=>Q none H
def QL(t:TE):TO:=fun σ H Q=>t σ H fun x H1=>∃i,x=.int i∧Q (some i) H1
section
variable {X:Cx} {e:Expr} {te:TE} {lo hi:Option Expr} {tl th:TO} {pos p2:Pos}
theorem rR:PO X none QK:=by
 intro pins s σ H Q I h
 rw[evalPart_none]
 exact wpAny_pure ⟨none,H,I,.none,h⟩
theorem QM(h:PE X e te):PO X (some e) (QL te):=by
 intro pins s σ H Q I hw
 rw[evalPart_some]
 refine thn (h pins s σ H _ I hw) fun u s1 ⟨x,H1,I1,r1,q1⟩=>?_
 obtain ⟨i,rfl,q⟩:=q1
 obtain ⟨t,rfl⟩:=r1
 exact ⟨some i,H1,I1,.int i t,q⟩
def SlR(X:Cx)(r:V→Option Int→Option Int→Hp→VK→Prop):Prop:=
 ∀(pins:List (Addr×Obj))(s:Shared)(σ:St)(H:Hp)(x:V)(v vl vu:Value)(lo hi:Option Int)(sl:Addr)(Q:VK),Inv X pins σ H s→RelV x v→s.heap.IsSliceOf sl vl vu .none→IsPart vl lo→IsPart vu hi→r x lo hi H Q→
  ∃T id,typeLookup (.type T) "__getitem__"=pure (some (.builtin id))∧s.TypeIs v T∧wpAny (model X.prog X.w) X.A (getItem v (.ref sl)) (EP X pins σ Q) X.xe s
def tSl(r:V→Option Int→Option Int→Hp→VK→Prop)(te:TE)(tl th:TO):TE:=fun σ H Q=>te σ H fun x H1=>tl σ H1 fun l H2=>th σ H2 fun u H3=>r x l u H3 Q
theorem QQ{r:V→Option Int→Option Int→Hp→VK→Prop}(hr:SlR X r)(he:PE X e te)(hl:PO X lo tl)(hu:PO X hi th):PE X (.Subscript e (.Slice lo hi none p2) pos) (tSl r te tl th):=by
 intro pins s σ H Q I h
 refine Subscript_ (thn (he pins s σ H _ I h) fun v s1 ⟨x,H1,I1,r1,q1⟩=>?_)
 refine wpAny_Slice (thn (hl pins s1 σ H1 _ I1 q1) fun vl s2 ⟨l,H2,I2,pl,q2⟩=>thn (hu pins s2 σ H2 _ I2 q2) fun vu s3 ⟨u,H3,I3,pu,q3⟩=>?_)
 rw[evalPart_none]
 refine wpAny_pure ?_
 have I4:Inv X pins σ H3 { s3 with heap:=s3.heap.push { cls:=.type "slice",data:=.fields #[vl,vu,.none] } }:=I3.kept (t':=s3.toks) fun b ob q=>Heap.get?_push_of_some _ q
 obtain ⟨T,id,hT,ht,hg⟩:=hr pins { s3 with heap:=s3.heap.push { cls:=.type "slice",data:=.fields #[vl,vu,.none] } } σ H3 x v vl vu l u s3.heap.objs.size Q I4 r1 (Heap.IsSliceOf.new ..) pl pu q3
 show wpAny (model X.prog X.w) X.A (subscriptTail e (.Slice lo hi none p2) v (.ref s3.heap.objs.size)) (EP X pins σ Q) X.xe { s3 with heap:=s3.heap.push { cls:=.type "slice",data:=.fields #[vl,vu,.none] } }
 exact tail_any (ops:=[.ref s3.heap.objs.size,v]) ht hT hg (by with_unfolding_all rfl)
def cW(xs:List V)(lo hi:Option Int):List V:=(xs.drop (HT.sIx xs.length 0 lo)).take (HT.sIx xs.length xs.length hi - HT.sIx xs.length 0 lo)
theorem xO(xs:List V)(lo hi:Option Int):(cW xs lo hi).length≤xs.length:=by
 unfold cW
 rw[List.length_take,List.length_drop]
 omega
def QR(K:PySem.W.Frag):V→Option Int→Option Int→Hp→VK→Prop:=fun x lo hi H Q=>∃a xs,x=.ref a∧SqT K H a xs∧
 ¬(HT.sIx xs.length 0 lo=0∧HT.sIx xs.length xs.length hi=xs.length)∧∀p,H p=none→Q (.ref p) (upd H p (.tup (cW xs lo hi)))
theorem QS:SlR X (QR X.K):=by
 intro pins s σ H x v vl vu lo hi sl Q I rx hs pl pu h
 obtain ⟨a,xs,rfl,hx,hw,q⟩:=h
 cases rx
 obtain ⟨its,r,ht,hz⟩:=I.tuple hx
 have hlen:its.toArray.size=xs.length:=by rw[List.size_toArray];exact r.length.symm
 refine ⟨"tuple",_,PyProof.Rows.slot_tuple_getitem.lookup,ht.typeIs,?_⟩
 refine HT.QJ ht hs pl pu (by rw[hlen];exact hw) ?_ (by rw[hlen];exact hz)
 rw[hlen]
 refine ⟨.ref s.heap.objs.size,_,I.laid (t':=s.toks) (o:=.tup (cW xs lo hi)) (fun b ob q=>Heap.get?_push_of_some _ q) (Nat.le_refl _) ?_,rfl,q _ (I.hok.fresh (Nat.le_refl _))⟩
 exact ⟨Nat.le_trans (xO xs lo hi) hz,_,(r.drop (HT.sIx xs.length 0 lo)).take (HT.sIx xs.length xs.length hi - HT.sIx xs.length 0 lo),IsTup.new _ _⟩
def QT(K:PySem.W.Frag):R2:=fun x y H Q=>∃a b xs ys,x=.ref a∧y=.ref b∧SqT K H a xs∧SqT K H b ys∧xs≠[]∧xs.length+ys.length≤sizeLine∧
 (ys=[]→Q (.ref a) H)∧(ys≠[]→∀p,H p=none→Q (.ref p) (upd H p (.tup (xs++ys))))
theorem Vals.nil_iff{xs:List V}{us:List Value}(r:Vals xs us):us=[]↔xs=[]:=by
 cases r with
 |nil=>simp
 |cons _ _=>simp
theorem QV:OpR X (binaryOp .Add) (QT X.K):=by
 intro pins s σ H x y v u Q I rx ry h
 obtain ⟨a,b,xs,ys,rfl,rfl,ha,hb,hx,hz,q1,q2⟩:=h
 cases rx
 cases ry
 obtain ⟨its,r1,p1,_⟩:=I.tuple ha
 obtain ⟨its2,r2,p2,_⟩:=I.tuple hb
 refine HT.QD p1 p2 (fun z=>hx (r1.nil_iff.mp z)) (fun z=>⟨.ref a,H,I,rfl,q1 (r2.nil_iff.mp z)⟩) (fun z=>?_) (by rw[←r1.length,←r2.length];exact hz)
 refine ⟨.ref s.heap.objs.size,_,I.laid (t':=s.toks) (o:=.tup (xs++ys)) (fun b ob q=>Heap.get?_push_of_some _ q) (Nat.le_refl _) ?_,rfl,q2 (fun w=>z (r2.nil_iff.mpr w)) _ (I.hok.fresh (Nat.le_refl _))⟩
 exact ⟨by rw[List.length_append];exact hz,_,r1.append r2,IsTup.new _ _⟩
end
end L2
namespace L2
open PySem PySem.Spec PyProof.Rows
def ixN(n:Nat)(i:Int):Option Nat:=if 0≤i then (if i < n then some i.toNat else none) else if -(n:Int)≤i then some (i+n).toNat else none
def atI{α:Type}(xs:List α)(i:Int):Option α:=(ixN xs.length i).bind fun j=>xs[j]?
theorem xP{n:Nat}{i:Int}{j:Nat}(h:ixN n i=some j):seqIndex? i n=some j∧j < n∧-(n:Int)≤i∧i < n:=by
 unfold ixN at h
 by_cases h0:0≤i
 ·rw[if_pos h0]at h
  by_cases h1:i < n
  ·rw[if_pos h1]at h
   have e:i.toNat=j:=Option.some.inj h
   exact ⟨by rw[seqIndex_of h0 h1,e],by omega,by omega,h1⟩
  ·rw[if_neg h1]at h;cases h
 ·rw[if_neg h0]at h
  by_cases h1:-(n:Int)≤i
  ·rw[if_pos h1]at h
   have e:(i+n).toNat=j:=Option.some.inj h
   exact ⟨by rw[seqIndex_neg (by omega) h1,e],by omega,h1,by omega⟩
  ·rw[if_neg h1]at h;cases h
theorem rT{α:Type}{xs:List α}{i:Int}{v:α}(h:atI xs i=some v):∃j,seqIndex? i xs.length=some j∧xs[j]?=some v∧j < xs.length∧-(xs.length:Int)≤i∧i < xs.length:=by
 unfold atI at h
 cases e:ixN xs.length i with
 |none=>rw[e]at h;cases h
 |some j=>
  rw[e]at h
  obtain ⟨h1,h2,h3,h4⟩:=xP e
  exact ⟨j,h1,h,h2,h3,h4⟩
theorem bV{α:Type}{xs:List α}{j:Nat}{v:α}(h:xs[j]?=some v):atI xs (j:Int)=some v:=by
 have hj:j < xs.length:=(List.getElem?_eq_some_iff.mp h).1
 have e:ixN xs.length (j:Int)=some j:=by
  unfold ixN
  rw[if_pos (by omega),if_pos (by omega)];simp
 unfold atI;rw[e];exact h
theorem xQ{α:Type}(xs:List α)(v:α):atI (xs++[v]) (-1)=some v:=by
 have hl:(xs++[v]).length=xs.length+1:=by simp
 have e:ixN (xs++[v]).length (-1)=some xs.length:=by
  unfold ixN
  rw[hl,if_neg (by decide),if_pos (by omega)]
  congr 1
  omega
 unfold atI
 rw[e]
 show (xs++[v])[xs.length]?=some v
 simp
def xR(b:Expr):Prop:=∀o i,subscripted b false o i=operate [o,i] (getItem o i)
def IxR(X:Cx)(r:R2):Prop:=
 ∀(value slice:Expr)(pins:List (Addr×Obj))(s:Shared)(σ:St)(H:Hp)(x y:V)(v u:Value)(Q:VK),Inv X pins σ H s→RelV x v→RelV y u→r x y H Q→
  subscripted slice false v u=operate [v,u] (getItem v u)→wpAny (model X.prog X.w) X.A (subscriptTail value slice v u) (EP X pins σ Q) X.xe s
def MtR(X:Cx)(id:String)(r:V→List V→Hp→VK→Prop):Prop:=
 ∀(pins:List (Addr×Obj))(s:Shared)(σ:St)(H:Hp)(x:V)(xs:List V)(v:Value)(us:List Value)(Q:VK),Inv X pins σ H s→RelV x v→Vals xs us→r x xs H Q→
  wpAny (model X.prog X.w) X.A (call (.builtin id) (v::us)) (EP X pins σ Q) X.xe s
section
variable {X:Cx} {a b:Expr} {ta tb:TE} {pos:Pos}
theorem QW{r:R2}(hr:IxR X r)(ha:PE X a ta)(hb:PE X b tb)(hs:xR b):PE X (.Subscript a b pos) (tOp r ta tb):=by
 intro pins s σ H Q I h
 exact Subscript_ (rP ha hb I h fun v u s2 x y H2 I2 rx ry q=>hr a b pins s2 σ H2 x y v u Q I2 rx ry q (hs _ _))
def QX(K:PySem.W.Frag):R2:=fun x y H Q=>∃p xs i v,x=.ref p∧y=.int i∧SqL K H p xs∧atI xs i=some v∧Q v H
def QZ(K:PySem.W.Frag):R2:=fun x y H Q=>∃p xs i v,x=.ref p∧y=.int i∧SqT K H p xs∧atI xs i=some v∧Q v H
def Q0:R2:=fun x y H Q=>∃z i c,x=.str z∧y=.int i∧z.length≤sizeLine∧atI z.cps.toList i=some c∧Q (.str ⟨#[c]⟩) H
theorem Q3:IxR X (QX X.K):=by
 intro value slice pins s σ H x y v u Q I rx ry h hs
 obtain ⟨p,xs,i,z,rfl,rfl,hq,he,q⟩:=h
 cases rx
 obtain ⟨t,rfl⟩:=ry
 obtain ⟨its,r,pl,hz⟩:=I.list hq
 obtain ⟨j,h1,h2,h3,h4,h5⟩:=rT he
 obtain ⟨w,ew,rw'⟩:=r.get h2
 have hl:=r.length
 have hn:=fZ
 have fin:EP X pins σ Q w s:=⟨z,H,I,rw',q⟩
 by_cases h0:0≤i
 ·have hj:i.toNat=j:=by
   rw[seqIndex_of h0 h5]at h1
   exact Option.some.inj h1
  exact item_listR pl.isList h0 (by omega) (by rw[hj];simpa using ew) fin hs
 ·have hj:(i+(its.toArray.size:Int)).toNat=j:=by
   rw[seqIndex_neg (by omega) h4]at h1
   rw[List.size_toArray,←hl]
   exact Option.some.inj h1
  exact subscriptTail_builtinR (x:=w) pl.isList.typeIs slot_list_getitem.lookup
   (wpAny_getItem_list_neg (Q:=fun r s'=>r=w∧EP X pins σ Q r s') pl.isList (by omega) (by rw[List.size_toArray] <;> omega) (by omega) (by rw[hj];simpa using ew) ⟨rfl,fin⟩) hs
theorem Q4:IxR X (QZ X.K):=by
 intro value slice pins s σ H x y v u Q I rx ry h hs
 obtain ⟨p,xs,i,z,rfl,rfl,hq,he,q⟩:=h
 cases rx
 obtain ⟨t,rfl⟩:=ry
 obtain ⟨its,r,pl,hz⟩:=I.tuple hq
 obtain ⟨j,h1,h2,h3,h4,h5⟩:=rT he
 obtain ⟨w,ew,rw'⟩:=r.get h2
 have hl:=r.length
 have hn:=fZ
 have fin:EP X pins σ Q w s:=⟨z,H,I,rw',q⟩
 exact subscriptTail_builtinR (x:=w) pl.typeIs slot_tuple_getitem.lookup
  (getItem_tuple (j:=j) (Q:=fun r s'=>r=w∧EP X pins σ Q r s') pl (by omega) (by omega) (by rw[List.size_toArray,←hl];exact h1) (by simpa using ew) ⟨rfl,fin⟩) hs
theorem Q5:IxR X Q0:=by
 intro value slice pins s σ H x y v u Q I rx ry h hs
 obtain ⟨z,i,c,rfl,rfl,hz,he,q⟩:=h
 obtain ⟨t,rfl⟩:=rx
 obtain ⟨t',rfl⟩:=ry
 obtain ⟨j,h1,h2,h3,h4,h5⟩:=rT he
 have hl:z.cps.toList.length=z.length:=by simp[Str.length]
 rw[hl]at h1 h4 h5
 have hn:=fZ
 exact tail_any (typeIs_str s z t) slot_str_getitem.lookup (getItem_str (c:=c) (by
  have e1:decide (i < -(2 ^ 63:Int))=false:=decide_eq_false (by omega)
  have e2:decide (i≥2 ^ 63)=false:=decide_eq_false (by omega)
  rw[e1,e2,Bool.or_false]) (by rw[h1];simpa using h2) ⟨.str ⟨#[c]⟩,H,I.tok _,⟨_,rfl⟩,q⟩) hs
theorem Q6 (its:List Value) (n j:Nat) (u:Value):Obj.mapSeq (·.setIfInBounds j u) { cls:=.type "list",data:=.seq its.toArray n }={ cls:=.type "list",data:=.seq (its.set j u).toArray n }:=by
 simp[Obj.mapSeq]
theorem Inv.lst{pins:List (Addr×Obj)}{σ:St}{H:Hp}{s:Shared}{p:Addr}{xs:List V}(I:Inv X pins σ H s)(h:H p=some (.lst xs)):
  ∃(its:List Value) (n:Nat),Vals xs its∧s.heap.get? p=some { cls:=.type "list",data:=.seq its.toArray n }∧xs.length≤sizeLine:=by
 obtain ⟨z,its,n,r,e⟩:=I.hok p _ h
 exact ⟨its,n,r,e,z⟩
theorem Inv.lstUpd{pins:List (Addr×Obj)}{σ:St}{H:Hp}{s:Shared}{p:Addr}{xs ys:List V}{its its':List Value}{n n':Nat}{f:Obj→Obj}(I:Inv X pins σ H s)(h:H p=some (.lst xs))
  (ho:s.heap.get? p=some { cls:=.type "list",data:=.seq its.toArray n }) (hf:f { cls:=.type "list",data:=.seq its.toArray n }={ cls:=.type "list",data:=.seq its'.toArray n' }) (r:Vals ys its') (hz:ys.length≤sizeLine) (t:Nat):
  Inv X pins σ (upd H p (.lst ys)) { s with heap:=s.heap.update p f,toks:=t }:=by
 have e:(s.heap.update p f).get? p=some { cls:=.type "list",data:=.seq its'.toArray n' }:=by
  rw[Heap.get?_update_self f ho (by rw[hf] <;> rfl),hf]
 refine I.write (x:=p) (e:=p) (by rw[h];trivial) (.inl rfl) (fun b u hb q=>(Heap.get?_update_other _ _ (Ne.symm hb)).trans q) ⟨_,e⟩ ?_
 exact ⟨hz,its',n',r,e⟩
def Q7:V→V→V→Hp→(Hp→Prop)→Prop:=fun o i v H Q=>∃p xs k j,o=.ref p∧i=.int k∧H p=some (.lst xs)∧ixN xs.length k=some j∧Q (upd H p (.lst (xs.set j v)))
theorem set_list:rO X Q7:=by
 intro pins s σ H o i v ov iv u Q I ro ri rv h
 obtain ⟨p,xs,k,j,rfl,rfl,hp,hj,q⟩:=h
 cases ro
 obtain ⟨t,rfl⟩:=ri
 obtain ⟨its,n,r,ho,hz⟩:=I.lst hp
 obtain ⟨h1,h2,h3,h4⟩:=xP hj
 have hl:=r.length
 have hn:=fZ
 have I':Inv X pins σ (upd H p (.lst (xs.set j v))) { s with heap:=s.heap.update p (Obj.mapSeq (·.setIfInBounds j u)) }:=
  I.lstUpd hp ho (Q6 its n j u) (r.set rv j) (by rw[List.length_set];exact hz) s.toks
 by_cases h0:0≤k
 ·have hk:k.toNat=j:=by
   rw[seqIndex_of h0 h4]at h1
   exact Option.some.inj h1
  exact PySem.W.ki_setAt ho h0 (by omega) (by rw[List.size_toArray,←hl];exact h4) (by rw[hk];exact ⟨_,I',q⟩)
 ·have hk:(k+(its.toArray.size:Int)).toNat=j:=by
   rw[seqIndex_neg (by omega) h3]at h1
   rw[List.size_toArray,←hl]
   exact Option.some.inj h1
  exact PySem.W.ki_setBack ho (by omega) (by rw[List.size_toArray,←hl];exact h3) (by omega) (by rw[hk];exact ⟨_,I',q⟩)
theorem xT(lo hi:Option Int)(n:Nat):(sliceBounds lo hi none n).1=((HT.sIx n 0 lo:Nat):Int)∧(sliceBounds lo hi none n).2.1=((HT.sIx n n hi:Nat):Int)∧(sliceBounds lo hi none n).2.2=1:=by
 refine ⟨?_,?_,rfl⟩
 ·cases lo with
  |none=>simp[sliceBounds,HT.sIx]
  |some i=>
   simp only[sliceBounds,HT.sIx,Option.getD_none,show (1:Int) > 0 by decide,if_true]
   by_cases h:i < 0
   ·simp only[h,if_true] <;> omega
   ·simp only[h,if_false] <;> omega
 ·cases hi with
  |none=>simp[sliceBounds,HT.sIx]
  |some i=>
   simp only[sliceBounds,HT.sIx,Option.getD_none,show (1:Int) > 0 by decide,if_true]
   by_cases h:i < 0
   ·simp only[h,if_true] <;> omega
   ·simp only[h,if_false] <;> omega
theorem Q8(its:List Value)(lo hi:Option Int):slicePick its.toArray lo hi none=((its.drop (HT.sIx its.length 0 lo)).take (HT.sIx its.length its.length hi - HT.sIx its.length 0 lo)).toArray:=by
 obtain ⟨h1,h2,h3⟩:=xT lo hi its.toArray.size
 unfold slicePick
 rw[h1,h2,h3]
 simp only[sliceRange_one,pick_run,List.size_toArray] <;> rfl
def Q9(K:PySem.W.Frag):V→Option Int→Option Int→Hp→VK→Prop:=fun x lo hi H Q=>∃a xs,x=.ref a∧SqL K H a xs∧∀p,H p=none→Q (.ref p) (upd H p (.lst (cW xs lo hi)))
theorem xU:SlR X (Q9 X.K):=by
 intro pins s σ H x v vl vu lo hi sl Q I rx hs pl pu h
 obtain ⟨a,xs,rfl,hx,q⟩:=h
 cases rx
 obtain ⟨its,r,ht,hz⟩:=I.list hx
 have hlen:=r.length
 refine ⟨"list",_,slot_list_getitem.lookup,ht.isList.typeIs,?_⟩
 refine wpAny_getItem_list_slice ht.isList hs pl pu .none (by simp) ?_ (by rw[List.size_toArray] <;> omega)
 rw[Q8,←hlen]
 refine ⟨.ref s.heap.objs.size,_,I.laid (t':=s.toks) (o:=.lst (cW xs lo hi)) (fun b ob q=>Heap.get?_push_of_some _ q) (Nat.le_refl _) ?_,rfl,q _ (I.hok.fresh (Nat.le_refl _))⟩
 exact ⟨Nat.le_trans (xO xs lo hi) hz,_,0,(r.drop (HT.sIx xs.length 0 lo)).take (HT.sIx xs.length xs.length hi - HT.sIx xs.length 0 lo),Heap.get?_push_size _ rfl⟩
theorem xV:bM X (.builtin "len") (fun xs H Q=>∃p ys,xs=[.ref p]∧(SqL X.K H p ys∨SqT X.K H p ys)∧Q (.int ys.length) H):=by
 intro pins s σ H xs us Q I r h
 obtain ⟨p,ys,rfl,hq,q⟩:=h
 obtain ⟨u,rfl,rx⟩:=vals1 r
 cases rx
 have hn:=fZ
 rcases hq with hq |hq
 ·obtain ⟨its,r',pl,hz⟩:=I.list hq
  have hlen:=r'.length
  exact Calls.call_len_list pl.isList (by simp only[List.size_toArray] <;> omega) ⟨.int ys.length,H,I.tok _,⟨s.toks+1,by rw[List.size_toArray,hlen]⟩,q⟩
 ·obtain ⟨its,r',pl,hz⟩:=I.tuple hq
  have hlen:=r'.length
  exact len_tuple pl (by simp only[List.size_toArray] <;> omega) ⟨.int ys.length,H,I.tok _,⟨s.toks+1,by rw[List.size_toArray,hlen]⟩,q⟩
theorem Ra:bM X (.builtin "len") (fun xs H Q=>∃z,xs=[.str z]∧z.length≤sizeLine∧Q (.int z.length) H):=by
 intro pins s σ H xs us Q I r h
 obtain ⟨z,rfl,hz,q⟩:=h
 obtain ⟨u,rfl,t,rfl⟩:=vals1 r
 have hn:=fZ
 exact len_str (by omega) ⟨.int z.length,H,I.tok _,⟨_,rfl⟩,q⟩
theorem xW:bM X (.type "list") (fun xs H Q=>∃p ys,xs=[.ref p]∧(SqL X.K H p ys∨SqT X.K H p ys)∧∀l,H l=none→Q (.ref l) (upd H l (.lst ys))):=by
 intro pins s σ H xs us Q I r h
 obtain ⟨p,ys,rfl,hq,q⟩:=h
 obtain ⟨u,rfl,rx⟩:=vals1 r
 cases rx
 have fin:∀(its:List Value),Vals ys its→ys.length≤sizeLine→∀(h':Heap)(c':Nat),(∀b o',s.heap.get? b=some o'→h'.get? b=some o')→
   h'.get? s.heap.objs.size=some { cls:=.type "list",dict:=none,data:=.seq its.toArray c',slots:=#[] }→EP X pins σ Q (.ref s.heap.objs.size) { s with heap:=h' }:=fun its r' hz h' c' kp e=>
  ⟨.ref s.heap.objs.size,_,I.laid (t':=s.toks) kp (Nat.le_refl _) (show ObjOk X.prog X.w _ h' _ (.lst ys) from ⟨hz,its,c',r',e⟩),rfl,q _ (I.hok.fresh (Nat.le_refl _))⟩
 rcases hq with hq |hq
 ·obtain ⟨its,r',pl,hz⟩:=I.list hq
  have hlen:=r'.length
  obtain ⟨o,ho,hc,n,hd⟩:=pl.isList
  exact call_list_seq p (.inl rfl) ho hc hd (fun h' c' kp e=>fin its r' hz h' c' kp e) (by simp only[List.size_toArray] <;> omega)
 ·obtain ⟨its,r',pl,hz⟩:=I.tuple hq
  have hlen:=r'.length
  obtain ⟨o,ho,hc,n,hd⟩:=pl
  exact call_list_seq p (.inr rfl) ho hc hd (fun h' c' kp e=>fin its r' hz h' c' kp e) (by simp only[List.size_toArray] <;> omega)
theorem xX:bM X (.type "tuple") (fun xs H Q=>∃p ys,xs=[.ref p]∧((SqL X.K H p ys∧∀l,H l=none→Q (.ref l) (upd H l (.tup ys)))∨(SqT X.K H p ys∧Q (.ref p) H))):=by
 intro pins s σ H xs us Q I r h
 obtain ⟨p,ys,rfl,h⟩:=h
 obtain ⟨u,rfl,rx⟩:=vals1 r
 cases rx
 rcases h with ⟨hq,q⟩ |⟨hq,q⟩
 ·obtain ⟨its,r',pl,hz⟩:=I.list hq
  have hlen:=r'.length
  refine call_tuple_list pl.isList (fun h' kp=>?_) (by simp only[List.size_toArray] <;> omega)
  have I1:Inv X pins σ H { s with heap:=h' }:=I.kept (t':=s.toks) kp
  have I2:Inv X pins σ (upd H h'.objs.size (.tup ys)) { s with heap:=h'.push { cls:=.type "tuple",data:=.seq its.toArray } }:=
   I1.laid (t':=s.toks) (fun b o e=>Heap.get?_push_of_some _ e) (Nat.le_refl _) (show ObjOk X.prog X.w _ _ _ (.tup ys) from ⟨hz,its,r',IsTup.new _ _⟩)
  exact ⟨.ref h'.objs.size,_,I2,rfl,q _ (I1.hok.fresh (Nat.le_refl _))⟩
 ·obtain ⟨its,r',pl,hz⟩:=I.tuple hq
  exact call_tuple_same pl ⟨.ref p,H,I,rfl,q⟩
def tyV(K:PySem.W.Frag)(T:String)(x:V)(H:Hp):Prop:=match x with
 |.str _=>T="str"
 |.int _=>T="int"
 |.ref p=>(T="list"∧∃xs,SqL K H p xs)∨(T="tuple"∧∃o,K.lookup p=some o∧o.cls=.type "tuple"∧o.dict=none)∨
   (T="dict"∧((∃kvs,H p=some (.dK kvs))∨∃kvs,H p=some (.dT kvs)))∨(T="set"∧∃S n,H p=some (.set S n))
 |_=>False
theorem Rb{pins:List (Addr×Obj)}{σ:St}{H:Hp}{s:Shared}{T:String}{x:V}{v:Value}(I:Inv X pins σ H s)(r:RelV x v)(ty:tyV X.K T x H):
  s.TypeIs v T∧∀a,v=.ref a→∃ob,s.heap.get? a=some ob∧ob.dict=none:=by
 cases x with
 |str z=>
  obtain ⟨t,rfl⟩:=r
  cases (show T="str" from ty)
  exact ⟨typeIs_str s z t,fun _ e=>nomatch e⟩
 |int i=>
  obtain ⟨t,rfl⟩:=r
  cases (show T="int" from ty)
  exact ⟨typeIs_int s i t,fun _ e=>nomatch e⟩
 |ref p=>
  cases r
  rcases ty with ⟨rfl,xs,hq⟩ |⟨rfl,o,hk,hc,hd⟩ |⟨rfl,hk⟩ |⟨rfl,S,n,hk⟩
  ·obtain ⟨its,_,pl,_⟩:=I.list hq
   refine ⟨pl.isList.typeIs,fun a e=>?_⟩
   cases e
   obtain ⟨o,n,e,c,hd,_⟩:=pl
   exact ⟨o,e,hd⟩
  ·refine ⟨⟨o,I.kIn p o hk,hc⟩,fun a e=>?_⟩
   cases e
   exact ⟨o,I.kIn _ o hk,hd⟩
  ·have z:∃o,s.heap.get? p=some o∧o.ExactDict:=by
    rcases hk with ⟨kvs,hk⟩ |⟨kvs,hk⟩
    ·obtain ⟨_,_,_,_,o,_,_,e,ex,_⟩:=I.hok p _ hk
     exact ⟨o,e,ex⟩
    ·obtain ⟨_,_,_,_,o,_,_,e,ex,_⟩:=I.hok p _ hk
     exact ⟨o,e,ex⟩
   obtain ⟨o,e,ex⟩:=z
   refine ⟨⟨o,e,ex.1⟩,fun a e2=>?_⟩
   cases e2
   exact ⟨o,e,ex.2.1⟩
  ·obtain ⟨o,_,_,_,e,ex,_⟩:=I.hok p _ hk
   refine ⟨⟨o,e,ex.1⟩,fun a e2=>?_⟩
   cases e2
   exact ⟨o,e,ex.2.1⟩
 |_=>exact False.elim ty
def tBM(K:PySem.W.Frag)(T:String)(r:V→List V→Hp→VK→Prop)(to:TE)(t:TA):TE:=fun σ H Q=>to σ H fun x H1=>tyV K T x H1∧t σ H1 fun xs H2=>r x xs H2 Q
variable {o e:Expr} {es:List Expr} {to:TE} {t:TA} {name:Str} {apos cpos:Pos} {T id:String} {r:V→List V→Hp→VK→Prop}
theorem gW (pa:PlainAttrs T) (slot:Slot T name id) (hty:typeOf (.builtin id)=pure (.type "method_descriptor")) (hm:MtR X id r) (ho:PE X o to) (ha:PA X (e::es) t)
  (hbase:attributeBase o name X.env (eval o X.env)=eval o X.env:=by rfl)
  (hfew:((backTo cpos (starEach (e::es) X.env)).all (fun x=>!x.1)&&(backToKw cpos (keywordEach [] X.env)).all (fun x=>x.1.isSome)
  &&decide ((e::es).length+([]:List Keyword).length+(if ([]:List Keyword).isEmpty then 0 else 1) < 30))=true:=by rfl)
  (hline:(apos.endLine==cpos.line)=true:=by rfl) (hs:starEach (e::es) X.env=(false,eval e X.env)::starEach es X.env:=by rfl) (hplain:(backTo cpos (starEach es X.env)).any (·.1)=false:=by rfl):
  PE X (.Call (.Attribute o name apos) (e::es) [] cpos) (tBM X.K T r to t):=by
 intro pins s σ H Q I h
 refine wpAny_Call_method_late hbase hfew hline rfl (thn (ho pins s σ H _ I h) fun v s1 ⟨x,H1,I1,r1,ty,q1⟩=>?_)
 obtain ⟨h1,h2⟩:=Rb I1 r1 ty
 refine ⟨T,id,pa,slot,hty,h1,h2,?_⟩
 have hA:=ha cpos pins s1 σ H1 _ I1 q1
 rw[hs]at hA ⊢
 refine Calls.callWith_builtin (by show (false||(backTo cpos (starEach es X.env)).any (·.1))=false;rw[hplain] <;> rfl) (Calls.evalArgs_plain ?_)
 exact thn hA fun us s2 ⟨vs,H2,I2,r2,q2⟩=>hm pins s2 σ H2 x vs v us Q I2 r1 r2 q2
end
end L2
namespace L2
open PySem PySem.Spec PyProof.Rows
def MtM(X:Cx)(id:String)(r:V→List V→Hp→VK→Prop):Prop:=
 ∀(pins:List (Addr×Obj))(s:Shared)(σ:St)(H:Hp)(x:V)(xs:List V)(v:Value)(us:List Value)(Q:VK),Inv X pins σ H s→RelV x v→Vals xs us→r x xs H Q→
  wpAny (model X.prog X.w) X.A (call (.builtin id) (v::us)) (EP X pins σ Q) X.xe s
theorem Vals.one:∀{x:V}{us:List Value},Vals [x] us→∃u,us=[u]∧RelV x u
 |_,_,.cons r .nil=>⟨_,rfl,r⟩
theorem Vals.reverse{xs:List V}{us:List Value}(h:Vals xs us):Vals xs.reverse us.reverse:=by
 induction h with
 |nil=>exact .nil
 |cons r t ih=>rw[List.reverse_cons,List.reverse_cons];exact Vals.append ih (.cons r .nil)
theorem Vals.rep{xs:List V}{us:List Value}(h:Vals xs us):∀k:Nat,Vals (List.replicate k xs).flatten (List.replicate k us).flatten
 |0=>.nil
 |k+1=>by
  rw[List.replicate_succ,List.replicate_succ,List.flatten_cons,List.flatten_cons]
  exact Vals.append h (Vals.rep h k)
theorem foldl_rep(its:List Value):∀(k:Nat)(acc:List Value),
  List.foldl (fun x1 x2=>x1++x2) acc.toArray (List.replicate k its.toArray)=(acc++(List.replicate k its).flatten).toArray
 |0,acc=>by simp
 |k+1,acc=>by
  have e:acc.toArray++its.toArray=(acc++its).toArray:=by simp
  have e2:(acc++its)++(List.replicate k its).flatten=acc++(List.replicate (k+1) its).flatten:=by
   rw[List.replicate_succ,List.flatten_cons,List.append_assoc]
  rw[←e2,←foldl_rep its k (acc++its),←e,List.replicate_succ,List.foldl_cons]
section
variable {X:Cx} {pins:List (Addr×Obj)} {σ:St} {H:Hp} {s:Shared} {l b:Addr} {xs ys zs:List V}
theorem Inv.lset{its its':List Value}{n:Nat}{f:Array Value→Array Value}{t':Nat}(I:Inv X pins σ H s)(hH:H l=some (.lst xs))
  (e:s.heap.get? l=some { cls:=.type "list",data:=.seq its.toArray n }) (hf:f its.toArray=its'.toArray) (hv:Vals ys its') (hz:ys.length≤sizeLine):
  Inv X pins σ (upd H l (.lst ys)) { s with heap:=s.heap.update l (Obj.mapSeq f),toks:=t' }:=by
 have q:=PySem.IsL.update e f
 rw[hf]at q
 refine I.write (x:=l) (e:=l) (by rw[hH];exact trivial) (.inl rfl) (fun b' u hb hu=>(Heap.get?_update_other s.heap (Obj.mapSeq f) (Ne.symm hb)).trans hu) ⟨_,q⟩ ?_
 exact ⟨hz,its',_,hv,q⟩
theorem Inv.lnew{its:List Value}{t':Nat}(I:Inv X pins σ H s)(hv:Vals ys its)(hz:ys.length≤sizeLine):
  Inv X pins σ (upd H s.heap.objs.size (.lst ys)) { s with heap:=s.heap.push { cls:=.type "list",data:=.seq its.toArray },toks:=t' }:=
 I.laid (fun _ _ q=>Heap.get?_push_of_some _ q) (Nat.le_refl _) ⟨hz,its,0,hv,Heap.get?_push_size _ rfl⟩
theorem Inv.fresh(I:Inv X pins σ H s):H s.heap.objs.size=none:=I.hok.fresh (Nat.le_refl _)
theorem Inv.lstM (I:Inv X pins σ H s) (hH:H l=some (.lst xs)):xs.length≤sizeLine∧∃(its:List Value) (n:Nat),Vals xs its∧xs.length=its.length∧s.heap.get? l=some { cls:=.type "list",data:=.seq its.toArray n }:=by
 obtain ⟨z,its,n,r,e⟩:=I.hok l _ hH
 exact ⟨z,its,n,r,r.length,e⟩
theorem xY{n:Nat}(h:n≤sizeLine):Builtin.List.listTooLong n=false:=by
 unfold Builtin.List.listTooLong
 exact decide_eq_false (by omega)
end
section
variable {X:Cx}
def Rc:V→List V→Hp→VK→Prop:=fun x vs H Q=>∃l xs y,x=.ref l∧vs=[y]∧H l=some (.lst xs)∧xs.length < sizeLine∧Q .non (upd H l (.lst (xs++[y])))
theorem Rf:MtM X "list.append" Rc:=by
 intro pins s σ H x vs v us Q I rx rv h
 obtain ⟨l,xs,y,rfl,rfl,hH,hz,q⟩:=h
 cases rx
 obtain ⟨u,rfl,ru⟩:=rv.one
 obtain ⟨z,its,n,r,hl,e⟩:=I.lstM hH
 refine call_meets F.slot_list_append ⟨_,e,rfl⟩ F.entry_list_append (F.args_list_append_2 _ _) (PySem.list_append l its.toArray n u (by rw[List.size_toArray];omega)) ⟨e,?_⟩
 refine ⟨.non,_,I.lset (its':=its++[u]) hH e (by simp) (r.append (.cons ru .nil)) ?_,rfl,q⟩
 rw[List.length_append,List.length_singleton]
 omega
def Rg:V→List V→Hp→VK→Prop:=fun x vs H Q=>∃l b xs zs,x=.ref l∧vs=[.ref b]∧H l=some (.lst xs)∧H b=some (.lst zs)∧xs.length+zs.length≤sizeLine∧Q .non (upd H l (.lst (xs++zs)))
theorem Rh:MtM X "list.extend" Rg:=by
 intro pins s σ H x vs v us Q I rx rv h
 obtain ⟨l,b,xs,zs,rfl,rfl,hH,hB,hz,q⟩:=h
 cases rx
 obtain ⟨u,rfl,ru⟩:=rv.one
 cases ru
 obtain ⟨z,its,n,r,hl,e⟩:=I.lstM hH
 obtain ⟨z2,its2,n2,r2,hl2,e2⟩:=I.lstM hB
 have hsz:its.toArray.size+its2.toArray.size≤sizeLine:=by rw[List.size_toArray,List.size_toArray];omega
 have hlong:¬(!its.toArray.isEmpty&&Builtin.List.listTooLong (its.toArray.size+its2.toArray.size))=true:=by
  rw[xY hsz,Bool.and_false]
  exact Bool.false_ne_true
 refine call_meets F.slot_list_extend ⟨_,e,rfl⟩ F.entry_list_extend (F.args_list_extend_2 _ _)
  (AutoSeq1.list_extend_list_list_0 l its.toArray n b its2.toArray n2 hlong (by rw[List.size_toArray];omega) (by omega)) ⟨e,e2,?_⟩
 refine ⟨.non,_,I.lset (its':=its++its2) hH e (by simp) (r.append r2) ?_,rfl,q⟩
 rw[List.length_append]
 omega
theorem len_rep{α:Type}(xs:List α)(k:Nat):(List.replicate k xs).flatten.length=k * xs.length:=by
 induction k with
 |zero=>simp
 |succ k ih=>rw[List.replicate_succ,List.flatten_cons,List.length_append,ih,Nat.succ_mul,Nat.add_comm]
end
section
variable {prog:Program} {w:World} {A:Around} {E:Value→Shared→Prop} {s:Shared}
end
section
variable {X:Cx}
end
end L2
namespace Att
open PySem PySem.W PySem.Calls PyProof.Rows
theorem Ri{P:Params}{h:Heap}:∀(ns:List Int)(vs:List Value),WellAll P h vs (ns.map WData.int)→IntsAre vs ns:=by
 intro ns
 induction ns with
 |nil=>
  intro vs w
  rw[List.map_nil]at w
  cases w
  exact .nil
 |cons n ns ih=>
  intro vs w
  rw[List.map_cons]at w
  cases w with
  |cons a b=>
   cases a
   exact .cons _ _ (ih _ b)
theorem Rj{l:OpenLaw}{n:Nat}(hn:l.most=some n){P:Params}{h:Heap}{args:List WData}{vals:List Value}
  (hpre:l.row.toRowW.claim.pre args=true) (hwl:WellAll P h vals args):
  ∃a vs ns,vals=[Value.ref a]∧args=[WData.list (ns.map WData.int)]∧h.get? a=some { cls:=.type "list",data:=.seq vs.toArray }∧IntsAre vs ns∧ns.length≤n:=by
 have hsh:WShape.hasAll [] args [.list .int]=true:=(pre_splitW hpre).1
 have hc:l.pre.holds [] { args:=args }=true:=(pre_splitW hpre).2
 obtain ⟨d,r,rfl,h1,h2⟩:=hasAllW_cons hsh
 obtain rfl:=hasAllW_nil h2
 obtain ⟨xs,rfl,h3⟩:=hasW_list h1
 obtain ⟨ns,rfl⟩:=items_int h3
 have hlen:ns.length≤n:=by
  unfold OpenLaw.pre at hc
  have h4:(WTm.not (.lt (.lit (.int (n:Int))) (.len (.arg 0)))).holds [] { args:=[.list (ns.map .int)] }=true:=by
   have h4:=(holds_andW hc).1
   rw[hn]at h4
   exact h4
  have h5:=condW_of h4 (w_not (w_lt w_lit (w_len_list (w_arg rfl))))
  rw[List.length_map]at h5
  refine Nat.le_of_not_lt fun q=>?_
  have q':(n:Int) < ((ns.length:Nat):Int):=by omega
  first
   | (rw[decide_eq_true q']at h5;exact absurd h5 (by decide))
   | (simp at h5;omega)
 cases hwl with
 |cons w1 w2=>
  cases w2
  cases w1 with
  |list ho hall=>exact ⟨_,_,ns,rfl,rfl,ho,Ri ns _ hall,hlen⟩
theorem Rk(l:OpenLaw)(args:List WData):l.row.toRowW.claim.post args (.bool true) args=true:=
 postW_of (r:=l.row.toRowW) (X:=(true==true))
  (show WShape.has [] (.bool true) .bool=true by first |rfl |decide |simp[WShape.has,WShape.arms,WShape.armsAll])
  (show (WTm.eq .res (.lit (.bool true))).value [] { args:=args,res:=some (.bool true),after:=args }=some (.bool (true==true)) from w_eq_bool (w_res rfl) w_lit) rfl
theorem attach_call{l:OpenLaw}{n:Nat}{q:Program}{loose:List Str}{XP:(Str→Option Value)→Heap→Prop}{YP:World→Heap→Prop}{d:DefRec}
  (hn:l.most=some n) (hdf:d.params.defaults=[])
  (call:∀(w:World)(s₀ s₁:Shared)(mg mb:Str→Option Value)(fa:Addr)(o:Obj)(pm cd doc:Value)(a:Addr)(vs:List Value)(ns:List Int),
   Ground q loose [] XP w s₀ mg mb s₁.heap→YP w s₁.heap→
   s₁.heap.get? fa=some o→o.data=.func (docDef d.name d.params d.body d.scope pm cd doc)→s₁.heap.CodeRec cd d.name→mg d.name=some (.ref fa)→
   s₁.heap.get? a=some { cls:=.type "list",data:=.seq vs.toArray }→IntsAre vs ns→ns.length≤n→s₁.gens=#[]→
   codeAny (model l.prog w) callerA (.call (.ref fa) ⟨[.ref a],[]⟩) (fun r s'=>r=.ok (.ret (.bool true))∧OldK s₁.heap s'.heap∧s'.os=s₁.os∧AllBare s'.gens) s₁):
  WalkO q loose XP YP l.row.toRowW d [] (fun f vs=>PySem.call f vs):=by
 intro w s₀ s₁ mg mb G Y fa o pm cd doc dV kV ho hd hcd hD hmg hg args vals as hpre hlay hrd hwl hlo
 obtain rfl:dV=.none:=Dflts.none hD hdf
 obtain rfl:kV=.none:=Dflts.noKw hD
 obtain ⟨a,vs,ns,rfl,rfl,hobj,hints,hlen⟩:=Rj hn hpre hwl
 refine enter_call (codeAny_mono (call w s₀ s₁ mg mb fa o pm cd doc a vs ns G Y ho (fd_plain hd) hcd hmg hobj hints hlen hg) fun r s' hq=>?_)
 obtain ⟨rfl,h2,h3,h4⟩:=hq
 exact ⟨.inl ⟨.bool true,.bool true,[],rfl,fun _=>rfl,.bool true,Rk l _,fun _=>⟨List.Pairwise.nil,fun _ hm=>(nomatch hm)⟩⟩,h2,h3,h4⟩
section
variable {prog:Program} {w:World} {A:Around} {E:Value→Shared→Prop} {s:Shared} {K:Frag}
end
end Att
namespace L2
open PySem PySem.Spec PyProof.Rows
theorem xZ:∀{vs:List Value}{ns:List Int},IntsAre vs ns→Vals (ns.map V.int) vs
 |_,_,.nil=>.nil
 |_,_,.cons n t h=>.cons ⟨t,rfl⟩ (xZ h)
def Only(H:Hp):Prop:=∀b,H b=none∨∃o xs,H b=some (.frz o (.lst xs))
theorem Rm{P:Program}{w:World}{K:PySem.W.Frag}{mg mb:Str→Option Value}{CX:CXT}{k:Nat}{fa a:Addr}{fd:FuncData}{x:Str}{sp:Sp}{s₁:Shared}{vs:List Value}{ns:List Int}
  (KX:K.In s₁.heap) (hns:s₁.heap.Ns mainGlobals mg) (hb:s₁.heap.Ns builtinsNs mb) (hbb:∀x:Str,x≠"__name__"→mb x=bootBuiltins x) (hlim:s₁.heap.NoLimit) (hg:s₁.gens=#[])
  (ha:s₁.heap.get? a=some { cls:=.type "list",data:=.seq vs.toArray }) (hi:IntsAre vs ns) (hl:ns.length≤sizeLine) (hr:Room k callerA)
  (F:∀base:Heap,K.In base→base.Ns mainGlobals mg→FnOk P w K mg base CX k fa fd [x] sp) (hbind:∀(s:Shared)(u:Value),BindsTo s fd ⟨[u],[]⟩ [(x,u)])
  (hsp:∀H:Hp,Only H→SqL K H a (ns.map V.int)→sp [.ref a] H (fun v _=>v=.bl true) fun _ _ _=>False)
  (hCX:∀H e s',CX [] H s₁ (fun _ _ _=>False) e s'→False):
  codeAny (model P w) callerA (.call (.ref fa) ⟨[.ref a],[]⟩) (fun r s'=>r=.ok (.ret (.bool true))∧OldK s₁.heap s'.heap∧s'.os=s₁.os∧AllBare s'.gens) s₁:=by
 have rv:=xZ hi
 have lenV:=hi.length
 -- from an abstract heap in which nothing but the script may be tracked
 have core:∀H:Hp,Only H→SqL K H a (ns.map V.int)→HOk P w H s₁.heap→(∀b,H b≠none→b=a)→(H a≠none→K.lookup a=none)→
   codeAny (model P w) callerA (.call (.ref fa) ⟨[.ref a],[]⟩) (fun r s'=>r=.ok (.ret (.bool true))∧OldK s₁.heap s'.heap∧s'.os=s₁.os∧AllBare s'.gens) s₁:=by
  intro H hO hS hok hA hK
  have base_of:∀{b:Addr}{o:Obj},s₁.heap.get? b=some o→H b=none→(dU s₁.heap H).get? b=some o:=fun e n=>Nv e n
  have noA:∀{b:Addr}{o:Obj}{es:Array DictEntry}{ep:Nat},s₁.heap.get? b=some o→o.data=.dict es ep→H b=none:=fun {b o es ep} e d=>by
   cases q:H b with
   |none=>rfl
   |some u=>
    have e':b=a:=hA b (by rw[q];simp)
    subst e'
    rw[ha]at e;cases e
    have d':Data.seq vs.toArray _=Data.dict es ep:=d
    cases d'
  have nsK:∀{b:Addr}{m:Str→Option Value},s₁.heap.Ns b m→(dU s₁.heap H).Ns b m:=fun {b m} ⟨o,es,ep,e,d,r⟩=>⟨o,es,ep,base_of e (noA e d),d,r⟩
  have hKb:K.In (dU s₁.heap H):=fun b o e=>base_of (KX b o e) (by
   cases q:H b with
   |none=>rfl
   |some u=>
    have e':b=a:=hA b (by rw[q];simp)
    subst e'
    rw[hK (by rw[q];simp)]at e;cases e)
  have hM:Mod K mg (dU s₁.heap H):=⟨hKb,nsK hns,⟨mb,nsK hb,hbb⟩,let ⟨mc,h1,h2⟩:=hlim;⟨mc,nsK h1,h2⟩⟩
  have e0:Env0 P w K mg (dU s₁.heap H) callerA [] s₁ H:=⟨rfl,hM,fun b o e=>Nx e,Nat.le_of_eq (Nu _ _),trivial,fun b hb=>absurd (show b∈([]:List Addr) from hb) (by simp),hok,.of_eq hg⟩
  refine codeAny_mono ((F _ hKb (nsK hns)).run callerA [] s₁ H ⟨[.ref a],[]⟩ [.ref a] [.ref a] _ _ hr e0 (hbind s₁ (.ref a)) (.cons rfl .nil) (hsp H hO hS)) fun r s' h=>?_
  cases r with
  |error e=>exact (hCX H e s' h).elim
  |ok fl=>
   cases fl with
   |next=>exact False.elim h
   |brk=>exact False.elim h
   |cont=>exact False.elim h
   |ret u=>
    obtain ⟨v,H',os,bare,un,hok',r',q⟩:=h
    have q':v=.bl true:=q
    subst q'
    obtain rfl:u=Value.bool true:=r'
    refine ⟨rfl,OldK.of_keep fun b o e=>?_,os,bare⟩
    cases q:H b with
    |none=>exact un.keep b o e q (by intro z;exact absurd (show b∈([]:List Addr) from z) (by simp)) (by simp)
    |some u=>
     rcases hO b with z |⟨ob,xs,z⟩
     ·rw[q]at z;cases z
     ·have z2:=un.frzs b ob _ z
      obtain ⟨e1,_⟩:=hok b _ z
      obtain ⟨e2,_⟩:=hok' b _ z2
      rw[e]at e1;cases e1
      exact e2
 cases hk:K.lookup a with
 |some o=>
  -- the script is one of the module's own objects
  have e:=KX a o hk
  rw[ha]at e
  cases e
  refine core (fun _=>none) (fun _=>.inl rfl) (.inr ⟨_,vs.toArray,_,hk,rfl,rfl,rfl,by rw[List.size_toArray,lenV];exact hl,by simpa using rv⟩) (fun b u z=>by have z':(none:Option HO)=some u:=z;cases z') (fun b z=>absurd rfl z) fun z=>absurd rfl z
 |none=>
  refine core (fun b=>if b=a then some (.frz { cls:=.type "list",data:=.seq vs.toArray } (.lst (ns.map V.int))) else none) (fun b=>?_) (.inl (.inr ⟨{ cls:=.type "list",data:=.seq vs.toArray },if_pos rfl⟩)) (fun b u z=>?_) (fun b z=>?_) fun _=>hk
  ·by_cases hb:b=a
   ·exact .inr ⟨_,_,if_pos hb⟩
   ·exact .inl (if_neg hb)
  ·by_cases hb:b=a
   ·have z':=(if_pos hb).symm.trans z
    cases z'
    subst hb
    exact ⟨ha,by rw[List.length_map];exact hl,vs,_,rv,ha⟩
   ·have z':=(if_neg hb).symm.trans z
    cases z'
  ·by_cases hb:b=a
   ·exact hb
   ·exact absurd (if_neg hb) z
end L2
namespace L2
open PySem PySem.Spec PyProof.Rows
theorem Rn{l:PySem.W.OpenLaw}{n k:Nat}{q:Program}{loose:List Str}{XP:(Str→Option Value)→Heap→Prop}{YP:World→Heap→Prop}{d:DefRec}{K:Params→PySem.W.Frag}{CX:World→CXT}{sp:World→Sp}{x:Str}
  (hn:l.most=some n) (hn2:n≤sizeLine) (hdf:d.params.defaults=[]) (hr:Room k callerA)
  (hY:∀(w:World)(h:Heap),YP w h→(K w.params).In h)
  (F:∀(w:World)(mg:Str→Option Value)(fa:Addr)(h:Heap),(K w.params).In h→h.Ns mainGlobals mg→mg d.name=some (.ref fa)→
   ∃fd:FuncData,(∀(s:Shared)(u:Value),BindsTo s fd ⟨[u],[]⟩ [(x,u)])∧
    ∀base:Heap,(K w.params).In base→base.Ns mainGlobals mg→FnOk l.prog w (K w.params) mg base (CX w) k fa fd [x] (sp w))
  (hsp:∀(w:World)(H:Hp)(a:Addr)(ns:List Int),ns.length≤n→Only H→SqL (K w.params) H a (ns.map V.int)→sp w [.ref a] H (fun v _=>v=.bl true) fun _ _ _=>False)
  (hCX:∀(w:World)(H:Hp)(s:Shared)(e:Value)(s':Shared),CX w [] H s (fun _ _ _=>False) e s'→False):
  PySem.W.WalkO q loose XP YP l.row.toRowW d [] (fun f vs=>PySem.call f vs):=by
 refine Att.attach_call hn hdf fun w s₀ s₁ mg mb fa o pm cd doc a vs ns G Y ho hd hcd hmg hobj hints hlen hg=>?_
 have KX:=hY w _ Y
 obtain ⟨fd,hb,hF⟩:=F w mg fa _ KX G.T.g hmg
 exact Rm KX G.T.g G.T.b G.T.builtins G.T.nolimit hg hobj hints (Nat.le_trans hlen hn2) hr hF hb (fun H hO hS=>hsp w H a ns hlen hO hS) fun H e s'=>hCX w H s₁ e s'
end L2
namespace L2
open PySem PySem.Spec PyProof.Rows
def jl(s:Stmt):Arguments:=match s with
 |.FunctionDef _ a _ _ _ _ _ _ _ _=>a
 |_=>{ posonlyargs:=[],args:=[],vararg:=none,kwonlyargs:=[],kw_defaults:=[],kwarg:=none,defaults:=[] }
def aG(s:Stmt):List Stmt:=match s with
 |.FunctionDef _ _ b _ _ _ _ _ _ _=>b
 |_=>[]
def aq(s:Stmt):Scope:=match s with
 |.FunctionDef _ _ _ _ _ _ sc _ _ _=>sc
 |_=>{ kind:=.function,names:=[],isGenerator:=false,isCoroutine:=false }
structure Fun(K:PySem.W.Frag)(x qual:Str)(st:Stmt)(f:Addr)(fd:FuncData):Prop where
 ex:∃(oc:Value)(od:Option Addr)(kV doc pm:Value)(an:Option Addr)(cdv ct:Value)(osl:Array (Option Value)),
  fd=PySem.W.fnOf x qual (jl st) (aG st) (aq st) .none kV doc pm an cdv ct∧K.lookup f=some ⟨oc,od,.func fd,osl⟩∧PySem.W.codeIn K cdv qual=true
 kp:PySem.W.keepIn K (.ref f)=true
section
variable {P:Program} {w:World} {K:PySem.W.Frag} {mg:Str→Option Value} {base:Heap}
theorem Fun.binds{x qual:Str}{st:Stmt}{f:Addr}{fd:FuncData}{ps:List Str}(F:Fun K x qual st f fd)
  (h:∀(kV doc pm:Value)(an:Option Addr)(cdv ct:Value)(us:List Value),us.length=ps.length→bindArgs (PySem.W.fnOf x qual (jl st) (aG st) (aq st) .none kV doc pm an cdv ct) ⟨us,[]⟩=pure (ps.zip us)):Binds K fd ps []:=by
 obtain ⟨oc,od,kV,doc,pm,an,cdv,ct,osl,rfl,lk,hcd⟩:=F.ex
 exact .all (h kV doc pm an cdv ct)
theorem Ro{x qual:Str}{st:Stmt}{f:Addr}{oc:Value}{od an:Option Addr}{osl:Array (Option Value)}{kV doc pm cdv ct:Value}(l:K.lookup f=some ⟨oc,od,.func (PySem.W.fnOf x qual (jl st) (aG st) (aq st) .none kV doc pm an cdv ct),osl⟩)
  (c:PySem.W.codeIn K cdv qual=true) (k:PySem.W.keepIn K (.ref f)=true):Fun K x qual st f (PySem.W.fnOf x qual (jl st) (aG st) (aq st) .none kV doc pm an cdv ct):=⟨⟨oc,od,kV,doc,pm,an,cdv,ct,osl,rfl,l,c⟩,k⟩
end
section
variable {X:Cx}
end
end L2
set_option maxHeartbeats 4000000
set_option bootstrap.genMatcherCode false
set_option genSizeOf false
set_option genSizeOfSpec false
namespace L2
open PySem PySem.Spec PyProof.Rows
section
variable {X:Cx} {pins:List (Addr×Obj)} {σ:St} {H:Hp} {s:Shared} {h':Heap}
theorem Inv.turnedL{t':Nat}{ch:List Addr}(I:Inv X pins σ H s)(hf:∀b∈ch,dz X pins H b)(k:∀b o,b∉ch→s.heap.get? b=some o→h'.get? b=some o):
  Inv X pins σ H { s with heap:=h',toks:=t' }:=by
 have nit:∀b u,H b=some u→b∉ch:=fun b u e z=>by
  have q:=(hf b z).1
  rw[q]at e;cases e
 refine I.step (g':=s.gens) (d':=s.drawn) (ch:=ch) (fun b hb=>?_) (fun b o _ _ hc e _=>k b o hc e) (fun b o _ _ hc e _=>⟨o.slots,k b o hc e⟩) (fun _ _ _ _ n=>n)
  (fun b o hc e=>⟨o,k b o hc e⟩) (fun _ _ e=>e) (fun _ _ _ e=>e) (fun b ps e=>⟨#[],by rw[e];simp⟩) (fun m hm=>?_) (fun b u e=>?_) I.bare
 ·obtain ⟨_,f1,_,f3,f4,f5⟩:=hf b hb
  exact ⟨f3,f1,f4,f5⟩
 ·obtain ⟨o,es,ep,ho,r⟩:=hm
  exact ⟨o,es,ep,k _ o (fun z=>(hf _ z).2.1 rfl) ho,r⟩
 ·refine (I.hok b u e).stay (fun c v hc q=>k c v ?_ q) (fun _ q=>q) fun _ _ q=>q
  rcases hc with z |z
  ·rw[z];exact nit b u e
  ·exact nit c _ z
theorem Inv.track{T:Addr}{o:HO}(I:Inv X pins σ H s)(hT:dz X pins H T)(new:ObjOk X.prog X.w (upd H T o) s.heap T o):Inv X pins σ (upd H T o) s:=by
 have hn:=hT.1
 have hok:HOk X.prog X.w (upd H T o) s.heap:=fun b u e=>by
  by_cases hb:b=T
  ·subst hb;rw[cV]at e;cases e;exact new
  ·rw[aJ hb]at e
   exact (I.hok b u e).stay (fun c v _ q=>q) (fun c q=>by rw[aJ (aW q hn)];exact q) fun c xs q=>by rw[aJ (aW q hn)];exact q
 obtain ⟨hp,g,d,tk,os⟩:=s
 refine I.step (h':=hp) (g':=g) (d':=d) (t':=tk) (ch:=[T]) (fun b hb=>?_) (fun b o _ _ _ e _=>e) (fun b o _ _ _ e _=>⟨o.slots,e⟩) (fun b u hc _ n=>?_)
  (fun b o _ e=>⟨o,e⟩) (fun b xs e=>by rw[aJ (aW e hn)];exact e) (fun b u v e=>by rw[aJ (aW e hn)];exact e) (fun b ps e=>⟨#[],by rw[aJ (aW e hn),e];simp⟩) (fun m hm=>hm) hok I.bare
 ·have e:b=T:=by simpa using hb
  subst e
  obtain ⟨_,f1,_,f3,f4,f5⟩:=hT
  exact ⟨f3,f1,f4,f5⟩
 ·rw[aJ (by simpa using hc)];exact n
end
def Its(x:Str):It:=⟨fun i _=>i < x.cps.size,fun i H v H'=>H'=H∧∃c,x.cps[i]?=some c∧v=.str ⟨#[c]⟩,fun i _=>i=x.cps.size⟩
theorem yc{prog:Program}{w:World}{A:Around}(hh:A.handled=none)(I:Addr)(x:Str)(t:Tok):
  Walks prog w A I [I] [I] x.cps.size (SignAt x) (fun i h=>h.IsStrIter I (strIterType x) x t i):=by
 unfold strIterType
 split
 ·exact Walks.strAscii hh I x t
 ·exact Walks.strWide hh I x t
theorem rW{P:Program}{w:World}{K:PySem.W.Frag}{tg:Expr}(it:Addr)(x:Str)(t:Tok):Turn P w K tg (Its x) [it] it (fun i h=>h.IsStrIter it (strIterType x) x t i) where
 mem:=by simp
 obj:=fun i h st b hb=>by
  have e:b=it:=by simpa using hb
  subst e
  obtain ⟨o,e,c,d⟩:=st
  exact ⟨o,e,fun v z=>by rw[d]at z;cases z⟩
 keep:=fun i h h' st k=>let ⟨o,ho,r⟩:=st;⟨o,k it (by simp) o ho,r⟩
 item:=by
  intro X hP hw hK hc i pins s σ H E I hf st hg
  subst hP hw hK
  obtain ⟨f0,f1,f2,f3,f4,f5⟩:=hf it (by simp)
  have W:=yc (prog:=X.prog) (w:=X.w) (I.ok.hd hc) it x t
  refine W.item i s _ _ hg st fun v h' tk hv st' kk=>?_
  obtain ⟨c,u,e,rfl⟩:=hv
  have I1:Inv X pins σ H { s with heap:=h',toks:=tk }:=I.turned (fun b o hb e=>kk b o (by simpa using hb) e) f0 f1 f3 f4 f5
  obtain ⟨o,eo,cc,d⟩:=id st'
  exact ⟨_,rfl,mV (s:={ s with heap:=h',toks:=tk }) (n:=strIterType x) eo cc d (by unfold strIterType;split <;> decide) ⟨.str ⟨#[c]⟩,H,I1,⟨u,rfl⟩,⟨rfl,c,e,rfl⟩,st',fun b hb=>(hf b hb).1⟩⟩
 done:=by
  intro X hP hw hK hc i pins s σ H E I hf st hg
  subst hP hw hK
  obtain ⟨f0,f1,f2,f3,f4,f5⟩:=hf it (by simp)
  have W:=yc (prog:=X.prog) (w:=X.w) (I.ok.hd hc) it x t
  have hg':i=x.cps.size:=hg
  subst hg'
  exact W.done s _ _ st fun h' tk kk=>⟨rfl,I.turned (fun b o hb e=>kk b o (by simpa using hb) e) f0 f1 f3 f4 f5⟩
 self:=fun A i s Q E st h=>by
  unfold strIterType at st
  split at st
  ·exact wpAny_pyIter_striter_ascii st h
  ·exact wpAny_pyIter_striter_wide st h
end L2
namespace L2
open PySem PySem.Spec PyProof.Rows
def bW(env:Env):List (Str×NameKind)→List (Str×Addr)→List (Str×Addr)
 |[],cs=>cs
 | (n,k)::r,cs=>bW env r (if (k==.free)=true then (match env.cells.lookup n with |some c=>(n,c)::cs |none=>cs) else cs)
theorem yd{env:Env}:∀{l:List (Str×NameKind)}{cs:List (Str×Addr)},(∀x c,cs.lookup x=some c→env.cells.lookup x=some c)→∀x c,(bW env l cs).lookup x=some c→env.cells.lookup x=some c
 |[],_,h,x,c,e=>h x c e
 | (n,k)::r,cs,h,x,c,e=>by
  refine yd (l:=r) (cs:=_) ?_ x c e
  intro y d q
  by_cases hk:(k==NameKind.free)=true
  ·rw[if_pos hk]at q
   cases hn:env.cells.lookup n with
   |none=>rw[hn]at q;exact h y d q
   |some c'=>
    rw[hn]at q
    simp only[List.lookup_cons]at q
    cases hy:y==n with
    |true=>
     rw[hy]at q
     have e1:y=n:=eq_of_beq hy
     rw[e1,hn];exact q
    |false=>rw[hy]at q;exact h y d q
  ·rw[if_neg hk]at q;exact h y d q
theorem ye{env:Env}{x:Str}:∀{l:List (Str×NameKind)}{cs:List (Str×Addr)},(cs.lookup x).isSome=true→((bW env l cs).lookup x).isSome=true
 |[],_,h=>h
 | (n,k)::r,cs,h=>by
  refine ye (l:=r) (cs:=_) ?_
  by_cases hk:(k==NameKind.free)=true
  ·rw[if_pos hk]
   cases hn:env.cells.lookup n with
   |none=>exact h
   |some c'=>
    simp only[List.lookup_cons]
    cases hy:x==n with
    |true=>rfl
    |false=>exact h
  ·rw[if_neg hk];exact h
theorem yf{env:Env}{x:Str}(hx:(env.cells.lookup x).isSome=true):∀{l:List (Str×NameKind)}{cs:List (Str×Addr)},(x,NameKind.free)∈l→((bW env l cs).lookup x).isSome=true
 | (n,k)::r,cs,h=>by
  rcases List.mem_cons.mp h with e |h
  ·cases e
   refine ye (l:=r) (cs:=_) ?_
   rw[if_pos (show (NameKind.free==NameKind.free)=true by decide)]
   obtain ⟨c,hc⟩:=Option.isSome_iff_exists.mp hx
   rw[hc]
   simp
  ·exact yf hx (l:=r) h
theorem yg{scope:Scope}{env:Env}(h:∀y∈scope.names,y.2=NameKind.free→(env.cells.lookup y.1).isSome=true):closureFor scope env=pure (bW env scope.names []):=by
 simp only[closureFor]
 generalize ([]:List (Str×Addr))=cs
 generalize scope.names=l at h
 induction l generalizing cs with
 |nil=>rfl
 |cons y r ih=>
  obtain ⟨n,k⟩:=y
  have ih':=fun cs=>ih cs fun y hy=>h y (List.mem_cons_of_mem _ hy)
  rw[List.forIn_cons]
  by_cases hk:(k==NameKind.free)=true
  ·have hk':k=NameKind.free:=eq_of_beq hk
   obtain ⟨c,hc⟩:=Option.isSome_iff_exists.mp (h (n,k) List.mem_cons_self hk')
   have e1:bW env ((n,k)::r) cs=bW env r ((n,c)::cs):=by
    rw[bW,if_pos hk]
    show bW env r (match env.cells.lookup n with |some c=>(n,c)::cs |none=>cs)=_
    have hc':env.cells.lookup n=some c:=hc
    rw[hc']
   have e2:cellOf env n=pure c:=by
    unfold cellOf
    have hc':env.cells.lookup n=some c:=hc
    rw[hc']
   rw[e1,←ih' ((n,c)::cs)]
   simp only[hk,if_true,e2]
   rfl
  ·have e1:bW env ((n,k)::r) cs=bW env r cs:=by rw[bW,if_neg hk]
   rw[e1,←ih' cs]
   simp only[hk,if_false]
   rfl
theorem rY{env:Env}{x:Str}:∀{names:List (Str×NameKind)},
  (names.map fun (n,k)=>if (k==NameKind.free&&env.scope.kind==.function&&env.kindOf n==some .cell) then (n,NameKind.cell) else (n,k)).lookup x=
   (names.lookup x).map fun k=>if (k==NameKind.free&&env.scope.kind==.function&&env.kindOf x==some .cell)=true then NameKind.cell else k
 |[]=>rfl
 | (n,k)::r=>by
  have ih:=@rY env x r
  rw[List.map_cons]
  have hh:∀(c:Prop)[Decidable c],(if c then (n,NameKind.cell) else (n,k))=(n,if c then NameKind.cell else k):=fun c _=>by split <;> rfl
  show List.lookup x ((if (k==NameKind.free&&env.scope.kind==.function&&env.kindOf n==some .cell)=true then (n,NameKind.cell) else (n,k))::_)=_
  rw[hh]
  simp only[List.lookup_cons]
  cases hx:x==n with
  |true=>
   have e1:x=n:=eq_of_beq hx
   subst e1
   rfl
  |false=>exact ih
abbrev Cx.comp(X:Cx)(N':List Str)(scope:Scope)(cl:List (Str×Addr))(C:Addr)(s₁:Shared)(H₁:Hp)(fp:List Addr)(pn:List (Addr×Obj)):Cx where
 prog:=X.prog
 w:=X.w
 K:=X.K
 mg:=X.mg
 base:=X.base
 A:=X.A
 N:=N'
 s₀:=s₁
 H₀:=H₁
 env:=compEnvC scope cl C X.env
 outer:=X.stack
 stack:=X.stack
 ex:=fp
 fn:=fun _=>false
 calm:=X.calm
 pn:=pn
 xe:=fun _ _=>False
def PIf(X:Cx)(ifs:List Expr)(t:TT):Prop:=
 ∀(pins:List (Addr×Obj))(s:Shared)(σ:St)(H:Hp)(Q:Bool→Hp→Prop),Inv X pins σ H s→t σ H Q→
  wpAny (model X.prog X.w) X.A (forIn ifs true fun c r=>if r=true then do let ok ←isTrue c X.env (eval c X.env);pure (ForInStep.yield ok) else pure (ForInStep.yield r)) (TP X pins σ Q) X.xe s
def Rp:TT:=fun _ H Q=>Q true H
theorem Rq{X:Cx}:PIf X [] Rp:=fun _ _ _ H _ I h=>wpAny_tests_nil ⟨H,I,h⟩
theorem Rt{X:Cx}{c:Expr}{t:TT}(h:PT X c t):PIf X [c] t:=fun pins s σ H Q I q=>wpAny_tests_one (h pins s σ H Q I q)
def cX(cap:List (Option Nat))(σ:St):St:=cap.map fun o=>match o with |none=>none |some j=>(σ[j]?).join
def Caps(X:Cx)(scope:Scope):List Str→List (Option Nat)→Prop
 |[],[]=>True
 |_::N',none::cap=>Caps X scope N' cap
 |x::N',some j::cap=>(X.N[j]?=some x∧scope.names.lookup x=some NameKind.free)∧Caps X scope N' cap
 |_,_=>False
theorem Caps.len{X:Cx}{scope:Scope}:∀{N':List Str}{cap:List (Option Nat)},Caps X scope N' cap→cap.length=N'.length
 |[],[],_=>rfl
 |_::N',none::cap,h=>by
  have:=Caps.len (N':=N') (cap:=cap) h
  simp[this]
 |_::N',some _::cap,h=>by
  have:=Caps.len (N':=N') (cap:=cap) h.2
  simp[this]
 |[],_::_,h=>False.elim h
 |_::_,[],h=>False.elim h
theorem Caps.at{X:Cx}{scope:Scope}:∀{N':List Str}{cap:List (Option Nat)}{i:Nat}{x:Str}{v:V}{σ:St},Caps X scope N' cap→N'[i]?=some x→(cX cap σ)[i]?=some (some v)→
  ∃j:Nat,X.N[j]?=some x∧scope.names.lookup x=some NameKind.free∧σ[j]?=some (some v)
 |[],[],i,x,v,σ,_,e,_=>by simp at e
 |y::N',none::cap,0,x,v,σ,h,e,q=>by simp[cX]at q
 |y::N',some j::cap,0,x,v,σ,h,e,q=>by
  have e1:y=x:=by simpa using e
  subst e1
  have q1:(σ[j]?).join=some v:=by simpa [cX] using q
  refine ⟨j,h.1.1,h.1.2,?_⟩
  cases z:σ[j]? with
  |none=>rw[z]at q1;cases q1
  |some o=>rw[z]at q1;exact congrArg some q1
 |y::N',none::cap,i+1,x,v,σ,h,e,q=>Caps.at (N':=N') (cap:=cap) (i:=i) h (by simpa using e) (by simpa [cX] using q)
 |y::N',some _::cap,i+1,x,v,σ,h,e,q=>Caps.at (N':=N') (cap:=cap) (i:=i) h.2 (by simpa using e) (by simpa [cX] using q)
 |[],_::_,_,_,_,_,h,_,_=>False.elim h
 |_::_,[],_,_,_,_,h,_,_=>False.elim h
def yh(X:Cx)(N':List Str)(scope:Scope)(tg:Expr)(ifs:List Expr)(elt:Expr)(J:It)(σ0:St)(H1:Hp)(Q:VK):Prop:=
 ∃W:Nat→Nat→List V→St→Hp→Prop,(∃m,W 0 m [] σ0 H1)∧∀i m ys σ' H',W i m ys σ' H'→
  (J.stop i H'∧ys.length≤sizeLine∧∀D,H' D=none→Q (.ref D) (upd H' D (.lst ys)))∨
  (J.go i H'∧ys.length < sizeLine∧∀cl C s₁ H₁ fp pn,∃g tt te,PG (X.comp N' scope cl C s₁ H₁ fp pn) tg g∧PIf (X.comp N' scope cl C s₁ H₁ fp pn) ifs tt∧PE (X.comp N' scope cl C s₁ H₁ fp pn) elt te∧
   ∀x H2,J.yld i H' x H2→g x σ' H2 fun σ3 H3=>tt σ3 H3 fun b H4=>if b=true then te σ3 H4 fun y H5=>∃m',m' < m∧W (i+1) m' (ys++[y]) σ3 H5 else ∃m',m' < m∧W (i+1) m' ys σ3 H4)
def rZ(X:Cx)(N':List Str)(scope:Scope)(tg:Expr)(ifs:List Expr)(elt:Expr)(wi:TI)(cap:List (Option Nat)):TE:=fun σ H Q=>wi σ H fun J H1=>yh X N' scope tg ifs elt J (cX cap σ) H1 Q
section
variable {prog:Program} {w:World} {A:Around} {R:Result→Shared→Prop} {s:Shared}
theorem Ru{elt target iter:Expr}{ifs:List Expr}{scope:Scope}{pos:Pos}{it acc:Value}{env:Env}(I:Nat→Shared→Prop)
  (turn:∀n s,I n s→wpAny (model prog w) A (pyNext it) (fun r s₁=>match r with
   |none=>R (.ok .next) s₁
   |some v=>wpAny (model prog w) A (letOwnedTupleGo target it v) (fun _ s₁'=>wpAny (model prog w) A (assign target env v) (fun _ s₂=>
     wpAny (model prog w) A (forIn ifs true fun c r=>if r=true then do let ok ←isTrue c env (eval c env);pure (ForInStep.yield ok) else pure (ForInStep.yield r)) (fun ok s₃=>
      if ok=true then wpAny (model prog w) A (eval elt env) (fun x s₄=>
       wpAny (model prog w) A (call (.builtin "list.append") [acc,x]) (fun _ s₅=>∃m,m < n∧I m s₅) (fun _ _=>False) s₄) (fun _ _=>False) s₃
      else ∃m,m < n∧I m s₃) (fun _ _=>False) s₂) (fun _ _=>False) s₁') (fun _ _=>False) s₁) (fun _ _=>False) s)
  (n:Nat) (h:I n s):codeAny (model prog w) A (.compLoop (.ListComp elt [⟨target,iter,ifs,0⟩] scope pos) 0 it acc env) R s:=by
 refine codeAny_loop rfl I (fun n s hI=>?_) n h
 show wpAny _ A ((compTurn (.ListComp elt [⟨target,iter,ifs,0⟩] scope pos) 0 it acc env).onRaise (fun x=>do noteFrame x env;theTreesLotGoes x)) _ _ s
 refine wpAny_noted ?_
 rw[compTurn_list]
 refine wpAny_bind (wpAny_standAt (wpAny_bind (wpAny_mono (turn n s hI) (fun r s₁ h₁=>?_) fun _ _ h'=>False.elim h')))
 cases r with
 |none=>exact wpAny_pure h₁
 |some v=>
  refine wpAny_bind (wpAny_mono h₁ (fun _ s₁' h₁'=>?_) fun _ _ h'=>False.elim h')
  refine wpAny_bind (wpAny_mono h₁' (fun _ s₂ h₂=>wpAny_bind (wpAny_mono h₂ (fun ok s₃ h₃=>?_) fun _ _ h'=>False.elim h')) fun _ _ h'=>False.elim h')
  cases ok with
  |false=>exact wpAny_pure ⟨rfl,h₃⟩
  |true=>
   exact wpAny_bind (wpAny_bind (wpAny_mono h₃ (fun x s₄ h₄=>wpAny_bind (wpAny_mono h₄ (fun _ s₅ h₅=>wpAny_pure (wpAny_pure ⟨rfl,h₅⟩)) fun _ _ h'=>False.elim h')) fun _ _ h'=>False.elim h'))
end
end L2
namespace L2
open PySem PySem.Spec PyProof.Rows
abbrev tx(l:List Nat):Str:=⟨l.toArray⟩
theorem cg(l:List Nat):(tx l).length=l.length:=by simp[Str.length]
theorem sr(a b:List Nat):tx a++tx b=tx (a++b):=by
 show (⟨a.toArray++b.toArray⟩:Str)=⟨(a++b).toArray⟩
 simp
theorem yj{a b:List Nat}(h:tx a=tx b):a=b:=by
 have:=congrArg (fun x:Str=>x.cps.toList) h
 simpa using this
theorem yl(x:Str):x=tx x.cps.toList:=by cases x;simp
section
variable {X:Cx}
theorem ym:∀{ys:List Str}{us:List Value},Vals (ys.map V.str) us→StrsAre us ys
 |[],us,r=>by
  rw[List.map_nil]at r
  cases r
  exact .nil
 |y::ys,us,r=>by
  rw[List.map_cons]at r
  cases r with
  |cons r1 r2=>
   obtain ⟨t,e⟩:=r1
   subst e
   exact .cons y t (ym r2)
def rJoin(K:PySem.W.Frag):V→List V→Hp→VK→Prop:=fun x vs H Q=>∃z p ys,x=.str z∧vs=[.ref p]∧SqL K H p (ys.map V.str)∧(ys.map (·.length)).sum+ys.length * z.length≤16777216∧Q (.str (Str.join z ys)) H
theorem Rv:MtR X "str.join" (rJoin X.K):=by
 intro pins s σ H x xs v us Q I rx rs h
 obtain ⟨z,p,ys,rfl,rfl,hq,hb,q⟩:=h
 obtain ⟨t,rfl⟩:=rx
 obtain ⟨u,rfl,ru⟩:=vals1 rs
 cases ru
 obtain ⟨its,rv,pl,hz⟩:=I.list hq
 refine join_list pl.isList (by simpa using ym rv) hb fun t' k=>⟨.str _,H,I.tok _,⟨_,rfl⟩,?_⟩
 have e:Txt.join z ys=Str.join z ys:=StrLaws.glued_eq_join z ys
 rw[e]
 exact q
def Rw(K:PySem.W.Frag):List V→Hp→VK→Prop:=fun xs H Q=>∃x n t b,xs=[x,.ty n]∧TyOf K H x t∧PySem.W.kitOne K t (.type n)=some b∧Q (.bl b) H
theorem Rx:bM X (.builtin "isinstance") (Rw X.K):=by
 intro pins s σ H xs us Q I r h
 obtain ⟨x,n,t,b,rfl,ty,e,q⟩:=h
 obtain ⟨u,w',rfl,rx,ry⟩:=vals2 r
 cases ry
 exact Qp I rx ty e fun tk=>⟨.bl b,H,I.tok _,rfl,q⟩
theorem Ry:bootBuiltins "bool"=some (.type "bool"):=by decide +kernel
theorem yo:bootBuiltins "int"=some (.type "int"):=by decide +kernel
theorem yp:bootBuiltins "str"=some (.type "str"):=by decide +kernel
theorem yq:bootBuiltins "list"=some (.type "list"):=by decide +kernel
theorem yr:bootBuiltins "isinstance"=some (.builtin "isinstance"):=by decide +kernel
theorem yt {x:Str} {T:String} {pos:Pos} (hg:Gl X x) (hm:X.mg x=none) (hv:bootBuiltins x=some (.type T)) (hn:x≠"__name__":=by decide) (hd:(x==("__debug__":Str))=false:=by decide):PE X (.Name x pos) (tC (.ty T)):=
 NT hg hm hv (v:=.ty T) rfl hn hd
theorem Rz:OpR X (binaryOp .Mult) (fun x y H Q=>∃i n,x=.str i∧y=.int n∧MulOk i n∧Q (.str (Txt.mul i n)) H):=by
 intro pins s σ H x y v u Q I rx ry h
 obtain ⟨i,n,rfl,rfl,hok,q⟩:=h
 obtain ⟨t,rfl⟩:=rx
 obtain ⟨t',rfl⟩:=ry
 exact SB.mul hok fun t' k=>⟨.str _,H,I.tok _,⟨_,rfl⟩,q⟩
end
end L2
namespace L2
open PySem PySem.Spec PyProof.Rows
section
variable {X:Cx}
end
end L2
namespace L2
open PySem PySem.Spec PyProof.Rows
open Builtin Builtin.Str
theorem RB{prog:Program}{w:World}{A:Around}(hh:A.handled=none)(it:Addr)(x:Str)(t:Tok):
  Draws prog w A it [it] x.cps.size (fun i v=>∃c u,x.cps[i]?=some c∧v=.str ⟨#[c]⟩ u) (fun i h=>h.IsStrIter it (strIterType x) x t i):=by
 unfold strIterType
 split
 ·exact Draws.strAscii hh it x t
 ·exact Draws.strWide hh it x t
structure ZApart(z TI TO i1 i2:Addr):Prop where
 TIz:TI≠z
 TOz:TO≠z
 i1z:i1≠z
 i2z:i2≠z
 TITO:TI≠TO
 TIi1:TI≠i1
 TIi2:TI≠i2
 TOi1:TO≠i1
 TOi2:TO≠i2
 i12:i1≠i2
section
variable {prog:Program} {w:World} {A:Around} {E:Value→Shared→Prop} {s:Shared}
end
section
variable {prog:Program} {w:World} {A:Around} {E:Value→Shared→Prop} {s:Shared}
end
end L2
namespace L2
open PySem PySem.Spec PyProof.Rows
section
variable {X:Cx}
theorem yu:∀{bs:List Bool}{us:List Value}{i:Nat}{v:Value},Vals (bs.map V.bl) us→us[i]?=some v→∃b,bs[i]?=some b∧v=.bool b
 |[],us,i,v,r,e=>by
  rw[List.map_nil]at r
  cases r
  simp at e
 |b::bs,us,i,v,r,e=>by
  rw[List.map_cons]at r
  cases r with
  |cons r1 r2=>
   cases i with
   |zero=>
    cases (show _=Value.bool b from r1)
    exact ⟨b,rfl,by simpa using e.symm⟩
   |succ i=>exact yu (i:=i) r2 (by simpa using e)
theorem RC:bootBuiltins "all"=some (.builtin "all"):=by decide +kernel
theorem RD:bootBuiltins "zip"=some (.type "zip"):=by decide +kernel
theorem all_range(bs:List Bool)(n:Nat)(hn:n=bs.length):((List.range n).all fun i=>(bs[i]?).getD true)=bs.all id:=by
 subst hn
 rw[Bool.eq_iff_iff,List.all_eq_true,List.all_eq_true]
 constructor
 ·intro h b hb
  obtain ⟨i,hi,e⟩:=List.mem_iff_getElem.mp hb
  have:=h i (List.mem_range.mpr hi)
  rw[List.getElem?_eq_getElem hi,e]at this
  simpa using this
 ·intro h i hi
  have hi':=List.mem_range.mp hi
  rw[List.getElem?_eq_getElem hi']
  simpa using h _ (List.getElem_mem hi')
theorem RG (hc:X.calm=true):bM X (.builtin "all") (fun xs H Q=>∃(p:Addr) (bs:List Bool),xs=[.ref p]∧SqL X.K H p (bs.map V.bl)∧Q (.bl (bs.all id)) H):=by
 intro pins s σ H xs us Q I r h
 obtain ⟨p,bs,rfl,hq,q⟩:=h
 obtain ⟨u,rfl,ru⟩:=vals1 r
 cases ru
 obtain ⟨its,rv,pl,hz⟩:=I.list hq
 have hl:=pl.isList
 have hlt:p < s.heap.objs.size:=by obtain ⟨_,e,_⟩:=hl;exact Heap.lt_size e
 refine call_all_walk (wpAny_pyIter_list hl ?_)
 refine ⟨s.heap.objs.size,[s.heap.objs.size,p],[s.heap.objs.size],its.toArray.size,_,_,fun i=>(bs[i]?).getD true,rfl,Walks.list (A:=X.A.in1) (I.ok.hd hc) _ p (Nat.ne_of_lt hlt) its.toArray,
  ⟨⟨_,Heap.get?_push_size _ rfl,rfl,rfl⟩,hl.push _⟩,fun i v s' Q' E' hP hQ=>?_,fun h' tk hk=>?_⟩
 ·obtain ⟨b,e,rfl⟩:=yu rv (i:=i) (v:=v) (by simpa using hP)
  simp only[e,Option.getD_some]at hQ
  exact wpAny_truthy_bool hQ
 ·have e:=all_range bs its.toArray.size (by rw[List.size_toArray,←rv.length,List.length_map])
  rw[e]
  exact ⟨.bl _,H,I.kept (fun b o q=>hk b o (fun hm=>by rw[List.mem_singleton.mp hm]at q;exact Nat.lt_irrefl _ (Heap.lt_size q)) (Heap.get?_push_of_some _ q)),rfl,q⟩
theorem RJ:OpR X (compareOp .Is) (fun x y H Q=>∃i j,x=.bl i∧y=.bl j∧Q (.bl (i==j)) H):=by
 intro pins s σ H x y v u Q I rx ry h
 obtain ⟨i,j,rfl,rfl,q⟩:=h
 cases rx
 cases ry
 exact is_bool ⟨.bl _,H,I,rfl,q⟩
theorem RK:bM X (.type "int") (fun xs H Q=>∃z n,xs=[.str z]∧PySem.intText? z=some n∧z.length≤640∧Q (.int n) H):=by
 intro pins s σ H xs us Q I r h
 obtain ⟨z,n,rfl,hn,hl,q⟩:=h
 obtain ⟨u,rfl,t,rfl⟩:=vals1 r
 exact PySem.W.KIN.call_text hn hl ⟨.int n,H,I.tok _,⟨_,rfl⟩,q⟩
def RL:V→Option Int→Option Int→Hp→VK→Prop:=fun x lo hi H Q=>∃z,x=.str z∧z.length≤sizeLine∧Q (.str (Txt.slice z lo hi)) H
theorem RM:SlR X RL:=by
 intro pins s σ H x v vl vu lo hi sl Q I rx hs pl pu h
 obtain ⟨z,rfl,hz,q⟩:=h
 obtain ⟨t,rfl⟩:=rx
 refine ⟨"str",_,slot_str_getitem.lookup,typeIs_str _ _ _,?_⟩
 obtain ⟨l,el,e1⟩:∃l:Option (Int×Tok),vl=partValue l∧l.map (·.1)=lo:=by
  cases pl with
  |none=>exact ⟨none,rfl,rfl⟩
  |int i t=>exact ⟨some (i,t),rfl,rfl⟩
 obtain ⟨u,eu,e2⟩:∃u:Option (Int×Tok),vu=partValue u∧u.map (·.1)=hi:=by
  cases pu with
  |none=>exact ⟨none,rfl,rfl⟩
  |int i t=>exact ⟨some (i,t),rfl,rfl⟩
 subst el eu e1 e2
 refine wpAny_getItem_str_slice (l:=l) (u:=u) (st:=none) hs rfl ?_
 unfold sliceMade
 unfold Txt.slice at q
 show (if ((1:Int)==1&&(slicePicked z l u none).length==z.length)=true then Made.val (.str z t) else Made.str ⟨((slicePicked z l u none).filterMap (z.cps[·]?)).toArray⟩).post _ _
 have ep:slicePicked z l u none=Builtin.Str.strSliceIndices (l.map (·.1)) (u.map (·.1)) 1 z.length:=rfl
 rw[ep]
 by_cases hc:((1:Int)==1&&(Builtin.Str.strSliceIndices (l.map (·.1)) (u.map (·.1)) 1 z.length).length==z.length)=true
 ·rw[if_pos hc]at q ⊢
  exact ⟨.str z,H,I,⟨t,rfl⟩,q⟩
 ·rw[if_neg hc]at q ⊢
  refine ⟨?_,⟨.str _,H,I.tok _,⟨_,rfl⟩,q⟩⟩
  show (List.filterMap _ _).toArray.size≤sizeLine
  rw[List.size_toArray]
  have h1:=sliceIndices_le (l.map (·.1)) (u.map (·.1)) z.length
  have h2:=List.length_filterMap_le (fun x=>z.cps[x]?) (Builtin.Str.strSliceIndices (l.map (·.1)) (u.map (·.1)) 1 z.length)
  omega
end
section
variable {X:Cx} {st:Stmt} {rest:List Stmt} {t u:TS} {e:Expr} {te:TE} {pos:Pos}
end
end L2
namespace L2
open PySem PySem.Spec PyProof.Rows
theorem yw{X:Cx}{elt tg iter:Expr}{ifs:List Expr}{scope:Scope}{pos:Pos}{wi:TI}{pins:List (Addr×Obj)}{s:Shared}{σ:St}{H:Hp}{Q:VK}{RR:Value→Addr→Result→Shared→Prop}(N':List Str)(cap:List (Option Nat))(hc:X.calm=true)(hi:PI X tg iter wi)(hcap:Caps X scope N' cap)
  (hcell:scope.names.all (fun y=>y.2 != NameKind.cell)=true)
  (hfr:scope.names.all (fun y=>y.2 != NameKind.free||(X.env.kindOf y.1==some NameKind.cell||X.env.kindOf y.1==some NameKind.free))=true)
  (hkind:scope.kind=.function) (I:Inv X pins σ H s) (h:rZ X N' scope tg ifs elt wi cap σ H Q)
  (fin:∀(D C:Addr)(H':Hp)(s4:Shared)(m:Str→Option Value),Inv X pins σ H' s4→Q (.ref D) H'→s4.heap.Ns C m→dz X pins H' C→RR (.ref D) C (.ok .next) s4):
  wpAny (model X.prog X.w) X.A (eval iter X.env) (fun x s₁=>wpAny (model X.prog X.w) X.A (pyIter x) (fun it s₂=>wpAny (model X.prog X.w) X.A (newList []) (fun acc s₃=>
   wpAny (model X.prog X.w) X.A (newFunctionEnv scope X.env.globals (bW X.env scope.names []) [] X.env.qual none .none (some X.env)) (fun cenv s₄=>
    codeAny (model X.prog X.w) X.A (.compStart (.ListComp elt [⟨tg,iter,ifs,0⟩] scope pos) 0 it acc { cenv with scope:=relabel scope X.env }) (RR acc cenv.locals) s₄) X.xe s₃) X.xe s₂) X.xe s₁) X.xe s:=by
 have hcell':∀y∈scope.names,y.2≠NameKind.cell:=fun y hy=>by
  have:=List.all_eq_true.mp hcell y hy
  simpa using this
 have hfr':∀y∈scope.names,y.2=NameKind.free→(X.env.kindOf y.1=some NameKind.cell∨X.env.kindOf y.1=some NameKind.free):=fun y hy hl=>by
  have:=List.all_eq_true.mp hfr y hy
  simpa [hl] using this
 have hcs:∀y∈scope.names,y.2=NameKind.free→(X.env.cells.lookup y.1).isSome=true:=fun y hy hl=>by
  obtain ⟨c,e⟩:=I.ok.has y.1 (hfr' y hy hl)
  rw[e];rfl
 have clsub:∀x c,(bW X.env scope.names []).lookup x=some c→X.env.cells.lookup x=some c:=yd (fun x c e=>by simp at e)
 have clhas:∀x,scope.names.lookup x=some NameKind.free→∃c,(bW X.env scope.names []).lookup x=some c:=fun x e=>by
  have hm:=PySem.mem_of_lookup e
  exact Option.isSome_iff_exists.mp (yf (hcs _ hm rfl) hm)
 have rel:∀x,(relabel scope X.env).names.lookup x=(scope.names.lookup x).map fun k=>if (k==NameKind.free&&X.env.scope.kind==.function&&X.env.kindOf x==some .cell)=true then NameKind.cell else k:=fun x=>rY
 have relfree:∀x,((relabel scope X.env).names.lookup x=some NameKind.cell∨(relabel scope X.env).names.lookup x=some NameKind.free)→scope.names.lookup x=some NameKind.free:=fun x e=>by
  rw[rel x]at e
  cases z:scope.names.lookup x with
  |none=>rw[z]at e;rcases e with e |e <;> cases e
  |some k=>
   have nk:=hcell' _ (PySem.mem_of_lookup z)
   rw[z]at e
   cases k with
   |free=>rfl
   |cell=>exact absurd rfl nk
   | «local»=>rcases e with e |e <;> simp[show (NameKind.«local»==NameKind.free)=false by decide]at e
   |globalExplicit=>rcases e with e |e <;> simp[show (NameKind.globalExplicit==NameKind.free)=false by decide]at e
   |globalImplicit=>rcases e with e |e <;> simp[show (NameKind.globalImplicit==NameKind.free)=false by decide]at e
 generalize hcl:bW X.env scope.names []=cl at clsub clhas
 refine thn (hi pins s σ H _ I h) fun xv s0 h0=>thn h0 fun itv s2 h2=>?_
 obtain ⟨it,fp,tn,J,H2,e,I2,T,st2,f2,W,⟨m0,w0⟩,turn⟩:=h2
 subst e
 refine wpAny_newObj_type (wpAny_newFunctionEnv hcell' (by intro y hy;simp at hy) (fun h₁ hns₁ hsb₁=>?_) hkind)
 dsimp only at hns₁ hsb₁ ⊢
 generalize hH2:s2.heap.push { cls:=.type "list",dict:=none,data:=.seq ([]:List Value).toArray }=HP at hns₁ hsb₁ ⊢
 have hC:HP.objs.size=s2.heap.objs.size+1:=by rw[←hH2,Heap.size_push]
 have hDC:s2.heap.objs.size≠HP.objs.size:=by rw[hC];exact Nat.ne_of_lt (Nat.lt_succ_self _)
 have below:∀b,b < s2.heap.objs.size→b≠HP.objs.size∧b≠s2.heap.objs.size:=fun b hb=>⟨by rw[hC];exact Nat.ne_of_lt (Nat.lt_succ_of_lt hb),Nat.ne_of_lt hb⟩
 have old:∀b o,s2.heap.get? b=some o→h₁.get? b=some o:=fun b o e=>hsb₁.extBut b o (below b (Heap.lt_size e)).1 (Heap.get?_push_of_some _ (hH2 ▸ Heap.get?_push_of_some _ e))
 have hacc:h₁.get? s2.heap.objs.size=some { cls:=.type "list",data:=.seq ([]:List Value).toArray 0 }:=hsb₁.extBut _ _ hDC (Heap.get?_push_of_some _ (hH2 ▸ Heap.get?_push_size _ rfl))
 have hst₁:tn 0 h₁:=T.keep _ _ _ st2 fun b _ o e=>old b o e
 have fplt:∀b∈fp,b < s2.heap.objs.size:=fun b hb=>by
  obtain ⟨o,e,_⟩:=T.obj _ _ st2 b hb
  exact Heap.lt_size e
 have fslt:∀b∈frs X.stack,b < s2.heap.objs.size:=fun b hb=>by
  obtain ⟨_,o,e,_⟩:=I2.stack.mem hb
  exact Heap.lt_size e
 have celllt:∀x c,cl.lookup x=some c→c < s2.heap.objs.size:=fun x c e=>by
  obtain ⟨v,q⟩:=I2.cell x c (clsub x c e)
  exact q.lt
 have hDf:H2 s2.heap.objs.size=none:=I2.hok.fresh (Nat.le_refl _)
 have hCf:H2 HP.objs.size=none:=I2.hok.fresh (by rw[hC];exact Nat.le_succ _)
 have nofs:∀b∈fp,b∉frs X.stack:=fun b hb z=>by
  obtain ⟨_,f1,f2',_⟩:=f2 b hb
  rcases List.mem_cons.mp (I2.stkSub b z) with e |e
  ·exact f1 e
  ·exact f2' e
 have ok':(X.comp N' scope cl HP.objs.size s2 H2 fp (X.pn++pins)).Ok:=
  ⟨I2.ok.mod,hkind,I2.ok.glob,I2.ok.blt,(by show s2.heap.objs.size≤HP.objs.size;rw[hC];exact Nat.le_succ _),
   fun x y c e1 e2=>I2.ok.inj x y c (clsub x c e1) (clsub y c e2),fun x hx=>clhas x (relfree x hx),fun x c hf _=>(by cases hf),I2.ok.hd,I2.ok.frames,.inl rfl,
   fun b hb=>⟨(below b (fplt b hb)).1,fun x c e=>(f2 b hb).2.2.2.2.1 x c (clsub x c e)⟩,I2.bs,Nat.le_trans I2.ok.bsz I2.sz,
   fun b o e hb=>(by
    rcases (f2 b hb).2.2.2.1 with z |z
    ·exact I2.ok.noex b o e z
    ·exact absurd (Nat.lt_of_lt_of_le (Heap.lt_size e) (Nat.le_trans I2.ok.bsz z)) (Nat.lt_irrefl _)),
   nofs,I2.stack,I2.stkFree⟩
 have pnOk:∀p∈X.pn++pins,p.1 < s2.heap.objs.size∧p.1∉frs X.stack:=fun p hp=>by
  obtain ⟨e,_,n1,n2,_⟩:=I2.pin p hp
  refine ⟨Heap.lt_size e,fun z=>?_⟩
  rcases List.mem_cons.mp (I2.stkSub _ z) with e |e
  ·exact n1 e
  ·exact n2 e
 have I0:∀t,Inv (X.comp N' scope cl HP.objs.size s2 H2 fp (X.pn++pins)) [(s2.heap.objs.size,{ cls:=.type "list",data:=.seq ([]:List Value).toArray 0 })] (cX cap σ) H2 { s2 with heap:=h₁,toks:=t }:=fun t=>
  ⟨ok',rfl,I2.bare,Un.kept old,⟨_,hns₁,fun i x v e1 e2 _=>by
    obtain ⟨j,nj,fr,sj⟩:=hcap.at e1 e2
    obtain ⟨m,_,hl⟩:=I2.loc
    have hk:=hfr' (x,NameKind.free) (PySem.mem_of_lookup fr) rfl
    obtain ⟨u,r,l⟩:=hl j x v nj sj (by rcases hk with hk |hk;exact .inr (.inl hk);exact .inr (.inr hk))
    refine ⟨u,r,.inr ⟨?_,?_⟩⟩
    ·show (relabel scope X.env).names.lookup x=some .cell∨(relabel scope X.env).names.lookup x=some .free
     rw[rel x,fr,Option.map_some]
     by_cases hh:(NameKind.free==NameKind.free&&X.env.scope.kind==ScopeKind.function&&X.env.kindOf x==some NameKind.cell)=true
     ·exact .inl (by rw[if_pos hh])
     ·exact .inr (by rw[if_neg hh])
    ·obtain ⟨c,ec⟩:=clhas x fr
     have ec':=clsub x c ec
     rcases l with ⟨k1,_⟩ |⟨_,c',e',q⟩
     ·rcases hk with hk |hk <;> (rw[hk]at k1;cases k1)
     ·have ecc:X.env.cells.lookup x=some c:=ec'
      rw[e']at ecc
      cases ecc
      obtain ⟨o,ho,hd⟩:=q
      exact ⟨_,ec,o,old _ _ ho,hd⟩⟩,
   fun x c e=>(by obtain ⟨v,o,ho,hd⟩:=I2.cell x c (clsub x c e);exact ⟨v,o,old _ _ ho,hd⟩),hCf,fun x c e=>I2.freeC x c (clsub x c e),
   fun p hp=>by
    rcases List.mem_append.mp hp with z |z
    ·obtain ⟨e,n0,_,_,d⟩:=I2.pin p z
     exact ⟨old _ _ e,n0,(below _ (pnOk p z).1).1,(pnOk p z).2,d⟩
    ·have e:p=_:=List.mem_singleton.mp z
     subst e
     exact ⟨hacc,hDf,hDC,fun z=>absurd (fslt _ z) (Nat.lt_irrefl _),fun v z=>by have z':Data.seq _ _=Data.cell v:=z;cases z'⟩,
   I2.hok.kept old,by show (cX cap σ).length=N'.length;unfold cX;rw[List.length_map];exact hcap.len⟩
 have fpok:∀{H':Hp}{o:Obj},(∀b∈fp,H' b=none)→∀b∈fp,dz (X.comp N' scope cl HP.objs.size s2 H2 fp (X.pn++pins)) [(s2.heap.objs.size,o)] H' b:=fun hn b hb=>
  ⟨hn b hb,(below b (fplt b hb)).1,nofs b hb,.inl hb,fun x c e=>(f2 b hb).2.2.2.2.1 x c (clsub x c e),fun p hp=>by
   rcases List.mem_append.mp hp with z |z
   ·exact (f2 b hb).2.2.2.2.2 p z
   ·have e:p=_:=List.mem_singleton.mp z
    subst e
    exact Ne.symm (below b (fplt b hb)).2⟩
 have loop:∀s₃:Shared,s₃={ s2 with heap:=h₁,toks:=s2.toks+([]:List (Str×Value)).length }→
   codeAny (model X.prog X.w) X.A (.compLoop (.ListComp elt [⟨tg,iter,ifs,0⟩] scope pos) 0 (.ref it) (.ref s2.heap.objs.size) (compEnvC scope cl HP.objs.size X.env))
    (RR (.ref s2.heap.objs.size) HP.objs.size) s₃:=by
  rintro s₃ rfl
  refine Ru
   (fun k s'=>∃(i:Nat) (ys:List V) (its:List Value) (n:Nat) (σ':St) (H':Hp),Inv (X.comp N' scope cl HP.objs.size s2 H2 fp (X.pn++pins)) [(s2.heap.objs.size,{ cls:=.type "list",data:=.seq its.toArray n })] σ' H' s'∧Vals ys its∧
    tn i s'.heap∧(∀b∈fp,H' b=none)∧W i k ys σ' H') ?_ m0 ⟨0,[],[],0,_,H2,I0 _,.nil,hst₁,fun b hb=>(f2 b hb).1,w0⟩
  rintro k s3 ⟨i,ys,its,n,σ3,H3,I3,rv3,st3,fr3,w3⟩
  rcases turn i k ys σ3 H3 w3 with ⟨stop,hz,qn⟩ |⟨go,hz,step⟩
  ·refine thn (T.done (X.comp N' scope cl HP.objs.size s2 H2 fp (X.pn++pins)) rfl rfl rfl hc i _ s3 σ3 H3 _ I3 (fpok fr3) st3 stop) fun r s4 ⟨hr,I4⟩=>?_
   subst hr
   obtain ⟨m,hn,_⟩:=I4.loc
   obtain ⟨pD,nD,_,_,_⟩:=I4.pin (s2.heap.objs.size,{ cls:=.type "list",data:=.seq its.toArray n }) (List.mem_append_right _ (List.mem_singleton.mpr rfl))
   have nC:H3 HP.objs.size=none:=I4.free
   have u:Un (frs X.stack) fp H2 H3 s2.heap s4.heap:=I4.base
   refine fin s2.heap.objs.size HP.objs.size (upd H3 s2.heap.objs.size (.lst ys)) s4 m ?_ (qn _ nD) hn ?_
   ·refine I2.call' (s':=s4) (ch:=fp) I4.os ?_ ?_ I4.bare fun b hb=>⟨(f2 b hb).2.2.2.1,(f2 b hb).2.1,(f2 b hb).2.2.2.2.1,(f2 b hb).2.2.2.2.2⟩
    ·refine ⟨fun b o e n0 hb hx=>u.keep b o e n0 hb hx,fun b o e n0 hb hx=>u.slot b o e n0 hb hx,fun b o e n0 hx=>?_,fun b o e hx=>u.there b o e hx,fun b xs e=>?_,fun b o v e=>?_,fun b ps e=>?_⟩
     ·rw[aJ (below b (Heap.lt_size e)).2]
      exact u.free b o e n0 hx
     ·rw[aJ (aW e hDf)]
      exact u.tups b xs e
     ·rw[aJ (aW e hDf)]
      exact u.frzs b o v e
     ·rw[aJ (aW e hDf)]
      exact u.tbls b ps e
    ·intro b o e
     by_cases hb:b=s2.heap.objs.size
     ·subst hb
      rw[cV]at e
      cases e
      exact ⟨hz,its,n,rv3,pD⟩
     ·rw[aJ hb]at e
      exact (I4.hok b o e).stay (fun c v _ q=>q) (fun c q=>by rw[aJ (aW q nD)];exact q) fun c xs q=>by rw[aJ (aW q nD)];exact q
   ·have hle:s2.heap.objs.size≤HP.objs.size:=by rw[hC];exact Nat.le_succ _
    exact I2.fpOk hle (by rw[aJ (Ne.symm hDC)];exact nC)
  ·refine thn (T.item (X.comp N' scope cl HP.objs.size s2 H2 fp (X.pn++pins)) rfl rfl rfl hc i _ s3 σ3 H3 _ I3 (fpok fr3) st3 go) fun r s4 ⟨u,hr,h4⟩=>?_
   subst hr
   refine thn h4 fun _ s5 ⟨x,H5,I5,r5,y5,st5,fr5⟩=>?_
   obtain ⟨g,tt,te,hg,ht,he,body⟩:=step cl HP.objs.size s2 H2 fp (X.pn++pins)
   have I5':=I5.pinned (fpok fr5) (T.obj _ _ st5)
   have tail:∀{σ7:St}{H7:Hp}{s7:Shared}{po:Obj},Inv (X.comp N' scope cl HP.objs.size s2 H2 fp (X.pn++pins)) ([(s2.heap.objs.size,po)]++jk fp s5.heap) σ7 H7 s7→tn (i+1) s7.heap∧∀b∈fp,H7 b=none:=fun {σ7 H7 s7 po} I7=>by
    refine ⟨T.keep _ _ _ st5 fun b hb o e=>(I7.pin (b,o) (List.mem_append_right _ (List.mem_append_right _ (mW hb e)))).1,fun b hb=>?_⟩
    obtain ⟨o,e,d⟩:=T.obj _ _ st5 b hb
    exact (I7.pin (b,o) (List.mem_append_right _ (List.mem_append_right _ (mW hb e)))).2.1
   refine thn (hg _ s5 σ3 H5 x u _ I5' r5 (body x H5 y5)) fun _ s6 ⟨σ6,H6,I6,q6⟩=>?_
   refine thn (ht _ s6 σ6 H6 _ I6 q6) fun ok s7 ⟨H7,I7,q7⟩=>?_
   cases ok with
   |false=>
    obtain ⟨m',hm,w7⟩:=q7
    obtain ⟨t7,n7⟩:=tail I7
    exact ⟨m',hm,i+1,ys,its,n,σ6,H7,I7.unpinned,rv3,t7,n7,w7⟩
   |true=>
    refine thn (he _ s7 σ6 H7 _ I7 q7) fun v s8 ⟨y,H8,I8,r8,m',hm,w8⟩=>?_
    obtain ⟨t8,n8⟩:=tail I8
    obtain ⟨pD,nD,_,_,_⟩:=I8.pin (s2.heap.objs.size,{ cls:=.type "list",data:=.seq its.toArray n }) (List.mem_append_right _ (List.mem_append_left _ (List.mem_singleton.mpr rfl)))
    have hl:=rv3.length
    refine append_at (hsz:=by rw[List.size_toArray];omega) pD fun h9 hs9 hD9=>?_
    have I8a:Inv (X.comp N' scope cl HP.objs.size s2 H2 fp (X.pn++pins)) [] σ6 H8 s8:=I8.pins_of fun p hp=>nomatch hp
    have I9:Inv (X.comp N' scope cl HP.objs.size s2 H2 fp (X.pn++pins)) [] σ6 H8 { s8 with heap:=h9 }:=I8a.turned (t':=s8.toks) (it:=s2.heap.objs.size) (fun b o hb e=>hs9.extBut b o hb e) nD hDC (.inr (Nat.le_refl _))
     (fun x c e z=>absurd (celllt x c e) (by rw[z];exact Nat.lt_irrefl _)) (fun p hp z=>by
      rcases List.mem_append.mp hp with hp |hp
      ·exact absurd (pnOk p hp).1 (by rw[z];exact Nat.lt_irrefl _)
      ·exact nomatch hp)
    have hD9':h9.get? s2.heap.objs.size=some { cls:=.type "list",data:=.seq (its++[v]).toArray (n+1) }:=by
     rw[hD9,List.push_toArray]
    refine ⟨m',hm,i+1,ys++[y],its++[v],n+1,σ6,H8,I9.pins_of fun p hp=>?_,rv3.append (.cons r8 .nil),T.keep _ _ _ t8 fun b hb o e=>hs9.extBut b o (below b (fplt b hb)).2 e,n8,w8⟩
    have e:p=_:=List.mem_singleton.mp hp
    subst e
    exact ⟨hD9',nD,hDC,fun z=>absurd (fslt _ z) (Nat.lt_irrefl _),fun v z=>by have z':Data.seq _ _=Data.cell v:=z;cases z'⟩
 exact codeAny_compStart_list (loop _ rfl) (T.self X.A 0 _ _ _ hst₁ (loop _ rfl))
theorem RN{X:Cx}{elt tg iter:Expr}{ifs:List Expr}{scope:Scope}{pos:Pos}{wi:TI}(N':List Str)(cap:List (Option Nat))(hc:X.calm=true)(hi:PI X tg iter wi)(hcap:Caps X scope N' cap)
  (hcell:scope.names.all (fun y=>y.2 != NameKind.cell)=true) (hnames:scope.names.all (fun y=>y.2 != NameKind.local||scope.names.lookup y.1==some NameKind.local)=true)
  (hfr:scope.names.all (fun y=>y.2 != NameKind.free||(X.env.kindOf y.1==some NameKind.cell||X.env.kindOf y.1==some NameKind.free))=true)
  (hkind:scope.kind=.function) (hs:∀x,foldedSetIterable iter X.env x=pure x):
  PE X (.ListComp elt [⟨tg,iter,ifs,0⟩] scope pos) (rZ X N' scope tg ifs elt wi cap):=by
 intro pins s σ H Q I h
 have hnames':∀y∈scope.names,y.2=NameKind.local→scope.names.lookup y.1=some NameKind.local:=fun y hy hl=>by
  have:=List.all_eq_true.mp hnames y hy
  simpa [hl] using this
 have hcs:∀y∈scope.names,y.2=NameKind.free→(X.env.cells.lookup y.1).isSome=true:=fun y hy hl=>by
  have:=List.all_eq_true.mp hfr y hy
  obtain ⟨c,e⟩:=I.ok.has y.1 (by simpa [hl] using this)
  rw[e];rfl
 rw[eval_ListComp]
 refine wpAny_comprehension_free (use:=none) (Q:=EP X pins σ Q) rfl hs (yg hcs) hkind hnames'
  (yw (RR:=fun acc C=>compPost (model X.prog X.w) X.A X.xe none (EP X pins σ Q) acc C) N' cap hc hi hcap hcell hfr hkind I h fun L C H' s4 m I4 q hn fC=>?_)
 obtain ⟨f0,f1,f2,f3,f4,f5⟩:=fC
 exact ⟨m,hn,fun h' hs'=>⟨.ref L,H',I4.turned (t':=s4.toks) (it:=C) (fun b o hb e=>hs'.extBut b o hb e) f0 f1 f3 f4 f5,rfl,q⟩⟩
theorem RP{X:Cx}{elt tg iter:Expr}{ifs:List Expr}{scope:Scope}{pos py spos:Pos}{wi:TI}{i:Nat}{y:Str}(hN:X.N.Nodup)(hiy:X.N[i]?=some y)(hy:Loc X.env.scope y)(N':List Str)(cap:List (Option Nat))(hc:X.calm=true)(hi:PI X tg iter wi)(hcap:Caps X scope N' cap)
  (hcell:scope.names.all (fun y=>y.2 != NameKind.cell)=true:=by rfl) (hnames:scope.names.all (fun y=>y.2 != NameKind.local||scope.names.lookup y.1==some NameKind.local)=true:=by rfl)
  (hfr:scope.names.all (fun y=>y.2 != NameKind.free||(X.env.kindOf y.1==some NameKind.cell||X.env.kindOf y.1==some NameKind.free))=true:=by rfl)
  (hkind:scope.kind=.function:=by rfl) (hs:∀x,foldedSetIterable iter X.env x=pure x:=by intro _;rfl)
  (hsw:swapsWith (.ListComp elt [⟨tg,iter,ifs,0⟩] scope pos) (some (.Name y py)) spos.line X.env=pure true:=by rfl)
  (hf:X.fn y=true∨X.env.scope.names.lookup y=some .local:=by first |exact .inl rfl |exact .inr rfl |assumption):
  PS X (.Assign [.Name y py] (.ListComp elt [⟨tg,iter,ifs,0⟩] scope pos) spos) (mR (rZ X N' scope tg ifs elt wi cap) (mQ i)):=by
 intro pins s σ H D I h
 have hnames':∀y∈scope.names,y.2=NameKind.local→scope.names.lookup y.1=some NameKind.local:=fun y hy hl=>by
  have:=List.all_eq_true.mp hnames y hy
  simpa [hl] using this
 have hcs:∀y∈scope.names,y.2=NameKind.free→(X.env.cells.lookup y.1).isSome=true:=fun y hy hl=>by
  have:=List.all_eq_true.mp hfr y hy
  obtain ⟨c,e⟩:=I.ok.has y.1 (by simpa [hl] using this)
  rw[e];rfl
 rw[exec_Assign_Name_used _ _ _ _ hsw]
 refine wpAny_bind (wpAny_standAt (wpAny_bind ?_))
 show wpAny _ X.A (do let _ ←comprehension (.ListComp elt [⟨tg,iter,ifs,0⟩] scope pos) scope X.env _ (newList []) false (eval iter X.env) (some (assign (.Name y py) X.env))) _ _ s
 refine wpAny_bind (wpAny_mono (wpAny_comprehension_free (use:=some (assign (.Name y py) X.env)) (Q:=fun _ s'=>SP X pins D .next s') rfl hs (yg hcs) hkind hnames'
  (yw (RR:=fun acc C=>compPost (model X.prog X.w) X.A X.xe (some (assign (.Name y py) X.env)) (fun _ s'=>SP X pins D .next s') acc C) N' cap hc hi hcap hcell hfr hkind I h fun L C H' s4 m I4 q hn fC=>?_)) (fun _ s' hq=>wpAny_pure (wpAny_pure hq)) fun _ _ e=>e)
 obtain ⟨oC,es,ep,eC,rC⟩:=id hn
 obtain ⟨f0,f1,f2,f3,f4,f5⟩:=fC
 have ncell:∀v,oC.data≠.cell v:=fun v z=>by rw[rC.1]at z;cases z
 have I5:Inv X (pins++[(C,oC)]) σ H' s4:=I4.pins_of fun p hp=>by
  rcases List.mem_append.mp hp with z |z
  ·exact I4.pin p (List.mem_append_right _ z)
  ·have e:p=_:=List.mem_singleton.mp z
   subst e
   exact ⟨eC,f0,f1,f2,ncell⟩
 refine wpAny_assign_Name (jj I5 hN hiy hy (v:=.ref L) (u:=.ref L) rfl (fun s5 I6=>?_) hf)
 have eC5:s5.heap.get? C=some oC:=(I6.pin (C,oC) (List.mem_append_right _ (List.mem_append_right _ (List.mem_singleton.mpr rfl)))).1
 have I7:Inv X pins (σ.set i (some (.ref L))) H' s5:=I6.pins_of fun p hp=>I6.pin p (List.mem_append_right _ (List.mem_append_left _ hp))
 refine ⟨m,⟨oC,es,ep,eC5,rC⟩,fun h'' hs''=>?_⟩
 exact ⟨_,H',I7.turned (t':=s5.toks) (it:=C) (fun b o hb e=>hs''.extBut b o hb e) f0 f1 f3 f4 f5,q⟩
end L2
namespace L2
open PySem PySem.Spec PyProof.Rows
section
variable {X:Cx}
theorem RQ:OpR X (compareOp .IsNot) (fun x y H Q=>∃i j,x=.bl i∧y=.bl j∧Q (.bl (i != j)) H):=by
 intro pins s σ H x y v u Q I rx ry h
 obtain ⟨i,j,rfl,rfl,q⟩:=h
 cases rx
 cases ry
 exact isnot_bool ⟨.bl _,H,I,rfl,q⟩
end
end L2
namespace L2
open PySem PySem.Spec PyProof.Rows
def noStar:Expr→Bool
 |.Starred ..=>false
 |_=>true
theorem bN(e:Expr)(es:List Expr)(env:Env)(h:noStar e=true):starEach (e::es) env=(false,eval e env)::starEach es env:=by
 cases e <;> first |rfl |cases h
end L2
namespace L2
open PySem PySem.Spec PyProof.Rows
end L2
namespace L2
open PySem PySem.Spec PyProof.Rows
section
variable {prog:Program} {w:World} {A:Around} {E:Value→Shared→Prop} {s:Shared}
end
section
variable {X:Cx} {tg:Expr}
end
end L2
namespace L2
open PySem PySem.Spec PyProof.Rows
theorem RT(its:List Value):slicePick its.toArray none none (some (-1))=its.reverse.toArray:=by
 have e:(List.range its.length).map (fun k:Nat=>((its.length:Int) - 1 + -1 * (k:Int)).toNat)=(List.range its.length).map fun k=>its.length - 1 - k:=by
  apply List.map_congr_left
  intro k _
  omega
 have e2:(sliceRange ((its.length:Int) - 1) (-1) (-1))=(List.range its.length).map fun k=>its.length - 1 - k:=by
  rw[←e]
  unfold sliceRange
  dsimp only
  rw[if_neg (by decide)]
  congr 2
  by_cases h:(its.length:Int) - 1 > -1
  ·rw[if_pos h,show (-(-1):Int)=1 by decide,Int.ediv_one];omega
  ·rw[if_neg h];omega
 have e3:((List.range its.length).map fun k=>its.length - 1 - k).filterMap (fun x=>its.toArray[x]?)=its.reverse:=by
  have h1:∀x∈(List.range its.length).map (fun k=>its.length - 1 - k),its.toArray[x]?=some (its.getD x .none):=by
   intro x hx
   obtain ⟨k,hk,rfl⟩:=List.mem_map.mp hx
   have:=List.mem_range.mp hk
   rw[List.getElem?_toArray,List.getD_eq_getElem?_getD,List.getElem?_eq_getElem (by omega)];rfl
  have h2:∀l:List Nat,(∀x∈l,its.toArray[x]?=some (its.getD x .none))→(l.filterMap fun x=>its.toArray[x]?)=l.map fun x=>its.getD x .none:=fun l=>by
   induction l with
   |nil=>intro _;rfl
   |cons a l ih=>intro hl;rw[List.map_cons,←ih fun x hx=>hl x (List.mem_cons_of_mem _ hx),List.filterMap_cons,hl a List.mem_cons_self]
  rw[h2 _ h1,List.map_map]
  apply List.ext_getElem
  ·simp
  ·intro i hi hj
   rw[List.getElem_map,List.getElem_range,List.getElem_reverse]
   have:its.length - 1 - i < its.length:=by simp at hi;omega
   show its.getD (its.length - 1 - i) .none=_
   rw[List.getD_eq_getElem?_getD,List.getElem?_eq_getElem this];rfl
 show ((sliceRange ((its.toArray.size:Int) - 1) (-1) (-1)).filterMap fun x=>its.toArray[x]?).toArray=_
 rw[List.size_toArray,e2,e3]
def RV(K:PySem.W.Frag):V→V→Hp→VK→Prop:=fun x y H Q=>y=.int (-1)∧∃a xs,x=.ref a∧SqL K H a xs∧∀p,H p=none→Q (.ref p) (upd H p (.lst xs.reverse))
theorem Vals.back{xs:List V}{us:List Value}(r:Vals xs us):Vals xs.reverse us.reverse:=Vals.reverse r
variable {X:Cx} {e st:Expr} {te ts:TE} {p2 pos:Pos}
theorem RW(he:PE X e te)(hs:PE X st ts):PE X (.Subscript e (.Slice none none (some st) p2) pos) (fun σ H Q=>te σ H fun x H1=>ts σ H1 fun y H2=>RV X.K x y H2 Q):=by
 intro pins s σ H Q I h
 refine Subscript_ (thn (he pins s σ H _ I h) fun v s1 ⟨x,H1,I1,r1,q1⟩=>?_)
 refine wpAny_Slice (thn (rR pins s1 σ H1 (fun l H2=>l=none∧H2=H1) I1 ⟨rfl,rfl⟩) fun vl s2 hy=>?_)
 obtain ⟨l,H2,I2,pl,rfl,rfl⟩:=hy
 refine thn (rR pins s2 σ H2 (fun l H3=>l=none∧H3=H2) I2 ⟨rfl,rfl⟩) fun vu s3 hy=>?_
 obtain ⟨u,H3,I3,pu,rfl,rfl⟩:=hy
 rw[evalPart_some]
 refine thn (hs pins s3 σ H3 _ I3 q1) fun vs s4 hy=>?_
 obtain ⟨y,H4,I4,r4,rfl,a,xs,rfl,hx,q⟩:=hy
 obtain ⟨t,rfl⟩:=r4
 cases r1
 have I5:Inv X pins σ H4 { s4 with heap:=s4.heap.push { cls:=.type "slice",data:=.fields #[vl,vu,.int (-1) t] } }:=I4.kept (t':=s4.toks) fun b ob q=>Heap.get?_push_of_some _ q
 obtain ⟨its,r,ht,hz⟩:=I5.list hx
 have hlen:=r.length
 refine tail_any (ops:=[.ref a,.ref s4.heap.objs.size]) (T:="list") ht.isList.typeIs slot_list_getitem.lookup ?_ (by with_unfolding_all rfl)
 refine wpAny_getItem_list_slice ht.isList (Heap.IsSliceOf.new ..) pl pu (.int (-1) t) (by simp) ?_ (by rw[List.size_toArray] <;> omega)
 rw[RT]
 refine ⟨.ref _,_,I5.laid (t':=s4.toks) (o:=.lst xs.reverse) (fun b ob q=>Heap.get?_push_of_some _ q) (Nat.le_refl _) ?_,rfl,q _ (I5.hok.fresh (Nat.le_refl _))⟩
 exact ⟨by rw[List.length_reverse];exact hz,_,0,r.back,Heap.get?_push_size _ rfl⟩
end L2
namespace L2
open PySem PySem.Spec PyProof.Rows
def holes(h:Heap)(l:List Addr):Heap:={ h with objs:=h.objs.mapIdx fun i o=>if l.contains i then { o with data:=.freed } else o }
theorem yx{h:Heap}{l:List Addr}{b:Addr}:(holes h l).get? b=if l.contains b then none else h.get? b:=by
 unfold holes Heap.get?
 simp only[Array.getElem?_mapIdx]
 cases hb:h.objs[b]? with
 |none=>simp
 |some o=>
  cases hc:l.contains b with
  |true=>simp[hc]
  |false=>simp[hc]
theorem eV{h:Heap}{l:List Addr}{b:Addr}(hb:b∈l):(holes h l).get? b=none:=by
 rw[yx,List.contains_iff_mem.mpr hb];rfl
theorem su{h:Heap}{l:List Addr}{b:Addr}(hb:b∉l):(holes h l).get? b=h.get? b:=by
 rw[yx]
 cases hc:l.contains b with
 |true=>exact absurd (List.contains_iff_mem.mp hc) hb
 |false=>rfl
theorem m7{h:Heap}{l:List Addr}:(holes h l).StaysIn h:=fun b o e=>by
 by_cases hb:b∈l
 ·rw[eV hb]at e;cases e
 ·rw[su hb]at e;exact e
theorem ObjOk.at{P:Program}{w:World}{H:Hp}{h:Heap}{a:Addr}{o:HO}(x:ObjOk P w H h a o):∃u,h.get? a=some u:=by
 cases o with
 |lst xs=>obtain ⟨_,_,_,_,e⟩:=x;exact ⟨_,e⟩
 |tup xs=>obtain ⟨_,_,_,o,e,_⟩:=x;exact ⟨_,e⟩
 |dK kvs=>obtain ⟨_,_,_,_,o,_,_,e,_⟩:=x;exact ⟨_,e⟩
 |dT kvs=>obtain ⟨_,_,_,_,o,_,_,e,_⟩:=x;exact ⟨_,e⟩
 |set S n=>obtain ⟨o,_,_,_,e,_⟩:=x;exact ⟨_,e⟩
 |ins C dx fs=>obtain ⟨_,_,_,e,_⟩:=x;exact ⟨_,e⟩
 |own y=>exact x
 |xd fs=>obtain ⟨_,⟨_,_,_,e,_⟩,_⟩:=x;exact ⟨_,e⟩
 |rng lo hi=>obtain ⟨_,_,_,e⟩:=x;exact ⟨_,e⟩
 |frz ob u=>obtain ⟨e,_⟩:=x;exact ⟨_,e⟩
 |tbl ps=>exact ⟨_,(show h.get? a=some _ from x)⟩
 |met f y=>exact ⟨_,(show h.get? a=some _ from x)⟩
 |ext φ=>obtain ⟨_,e,_⟩:=x;exact e
theorem HOk.gone{P:Program}{w:World}{H:Hp}{h:Heap}{a:Addr}(x:HOk P w H h)(e:h.get? a=none):H a=none:=by
 cases q:H a with
 |none=>rfl
 |some u=>obtain ⟨o,ho⟩:=(x a u q).at;rw[ho]at e;cases e
theorem sy{h base:Heap}:∀{l:List Env},h.FunFrames base l→∀b∈frs l,∃o,h.get? b=some o∧∀vs,o.data≠.fields vs
 |[],_,b,hb=>by cases hb
 |env::l,hf,b,hb=>by
  unfold Heap.FunFrames at hf
  obtain ⟨_,⟨L,o,e1,_,e3,e4⟩,hr⟩:=hf
  unfold frs at hb
  rw[List.filterMap_cons,e1]at hb
  rcases List.mem_cons.mp hb with rfl |hb
  ·exact ⟨o,e3,e4⟩
  ·exact sy hr b hb
theorem jm{h base:Heap}{x:List Addr}:∀{l:List Env},h.FunFrames base l→(∀b∈frs l,b∈x)→h.FunFrames (holes h x) l
 |[],_,_=>by unfold Heap.FunFrames;trivial
 |env::l,hf,hx=>by
  unfold Heap.FunFrames at hf ⊢
  obtain ⟨h1,⟨L,o,e1,_,e3,e4⟩,hr⟩:=hf
  have hL:L∈frs (env::l):=by unfold frs;rw[List.filterMap_cons,e1];exact List.mem_cons_self
  refine ⟨h1,⟨L,o,e1,eV (hx L hL),e3,e4⟩,jm hr fun b hb=>hx b ?_⟩
  unfold frs at hb ⊢
  rw[List.filterMap_cons,e1]
  exact List.mem_cons_of_mem _ hb
theorem sE{h base:Heap}{env:Env}{l:List Env}(hf:h.FunFrames base (env::l)):∃L,env.frame=some L:=by
 unfold Heap.FunFrames at hf
 obtain ⟨_,⟨L,o,e1,_⟩,_⟩:=hf
 exact ⟨L,e1⟩
def Tr(h0:Heap)(H:Hp)(h:Heap)(a:Addr)(c:Value):Prop:=
 ∃oe vs T oT ts,h.get? a=some oe∧oe.cls=c∧oe.data=.fields vs∧vs[1]?=some (.ref T)∧T≠a∧h.get? T=some oT∧oT.data=.fields ts∧ts[3]?=some .none∧
  h0.get? a=none∧h0.get? T=none∧H a=none∧H T=none
def CX1(P:Program)(w:World):CXT:=fun outer H s E e s'=>
 ∃(a:Addr)(c:Value)(H':Hp),e=.ref a∧s'.os=s.os∧AllBare s'.gens∧Un (frs outer) [] H H' s.heap s'.heap∧HOk P w H' s'.heap∧Tr s.heap H' s'.heap a c∧E c none H'
theorem yz{P:Program}{w:World}{fs st:List Addr}{H0 H:Hp}{h0 h h':Heap}{l:List Env}{a:Addr}{xs:List Addr}{c:Value}(un:Un fs [] H0 H h0 h)(hok:HOk P w H h)
  (up:∀b∈fs,b∈st) (old:∀b o,h0.get? b=some o→b∉fs→b∉st) (fr:∀b∈st,H b=none∧∃o,h.get? b=some o∧∀vs,o.data≠.fields vs)
  (ha:h0.get? a=none) (hHa:H a=none) (hxs:∀x∈xs,h0.get? x=none∧H x=none)
  (L:(holes h (st++a::xs)).Left l a c h h'):Un fs [] H0 H h0 h'∧HOk P w H h'∧Tr h0 H h' a c:=by
 obtain ⟨stay,_,tr,slots⟩:=L
 have old:∀b o,h0.get? b=some o→b∉fs→b∉st++a::xs:=by
  intro b o hb hf hin
  rcases List.mem_append.mp hin with hin |hin
  ·exact old b o hb hf hin
  ·rcases List.mem_cons.mp hin with e |e
   ·rw[e,ha]at hb;cases hb
   ·rw[(hxs b e).1]at hb;cases hb
 have kept:∀b o,h.get? b=some o→b∉st++a::xs→h'.get? b=some o:=fun b o e hn=>stay b o (by rw[su hn];exact e)
 have trk:∀b o,H b=some o→b∉st++a::xs:=by
  intro b o hb hin
  rcases List.mem_append.mp hin with hin |hin
  ·rw[(fr b hin).1]at hb;cases hb
  ·rcases List.mem_cons.mp hin with e |e
   ·rw[e,hHa]at hb;cases hb
   ·rw[(hxs b e).2]at hb;cases hb
 have noex:∀b:Addr,b∉([]:List Addr):=fun b hb=>by cases hb
 have frd:∀b∈st,∀o,h.get? b=some o→∀vs,o.data≠.fields vs:=by
  intro b hb o ho vs
  obtain ⟨_,o',e1,e2⟩:=fr b hb
  rw[e1]at ho
  cases ho
  exact e2 vs
 refine ⟨⟨?_,?_,?_,?_,un.tups,un.frzs,un.tbls⟩,?_,?_⟩
 ·intro b o hb hn hf _
  exact kept b o (un.keep b o hb hn hf (noex b)) (old b o hb hf)
 ·intro b o hb hn hf _
  obtain ⟨sl,e⟩:=un.slot b o hb hn hf (noex b)
  obtain ⟨sl',e'⟩:=slots b _ e (frd b (up b hf) _ e)
  exact ⟨sl',e'⟩
 ·intro b o hb hn _
  exact un.free b o hb hn (noex b)
 ·intro b o hb _
  obtain ⟨o',e⟩:=un.there b o hb (noex b)
  by_cases hin:b∈st++a::xs
  ·rcases List.mem_append.mp hin with h1 |h1
   ·obtain ⟨sl',e'⟩:=slots b _ e (frd b h1 _ e)
    exact ⟨_,e'⟩
   ·rcases List.mem_cons.mp h1 with e2 |e2
    ·rw[e2,ha]at hb;cases hb
    ·rw[(hxs b e2).1]at hb;cases hb
  ·exact ⟨_,kept b o' e hin⟩
 ·intro b o hb
  refine (hok b o hb).stay (fun b' u hb' e=>kept b' u e ?_) (fun _ z=>z) fun _ _ z=>z
  rcases hb' with rfl |hb'
  ·exact trk _ _ hb
  ·exact trk _ _ hb'
 ·obtain ⟨oe,vs,T,oT,ts,t1,t2,t3,t4,t5,t6,t7,t8,t9⟩:=tr
  have hT:T∈xs∨h.get? T=none:=by
   by_cases hin:T∈st++a::xs
   ·rcases List.mem_append.mp hin with h1 |h1
    ·exfalso
     obtain ⟨_,o,e1,e2⟩:=fr T h1
     obtain ⟨sl,e3⟩:=slots T o e1 e2
     rw[e3]at t7
     cases t7
     exact e2 ts t8
    ·rcases List.mem_cons.mp h1 with e2 |e2
     ·exact absurd e2 t6
     ·exact .inl e2
   ·rw[su hin]at t5
    exact .inr t5
  refine ⟨oe,vs,T,oT,ts,t1,t2,t3,t4,t6,t7,t8,t9,ha,?_,hHa,?_⟩
  ·rcases hT with h1 |h1
   ·exact (hxs T h1).1
   ·cases e:h0.get? T with
    |none=>rfl
    |some o=>obtain ⟨o',e'⟩:=un.there T o e (noex T);rw[e']at h1;cases h1
  ·rcases hT with h1 |h1
   ·exact (hxs T h1).2
   ·exact hok.gone h1
section
variable {X:Cx} {pins:List (Addr×Obj)} {σ:St} {H:Hp} {s:Shared}
theorem yC(J:Inv X pins σ H s)(hst:X.stack=X.env::X.outer)(hex:X.ex=[]){a:Addr}{xs:List Addr}{c:Value}{E:XK}
  (ha:X.s₀.heap.get? a=none) (hHa:H a=none) (hxs:∀x∈xs,X.s₀.heap.get? x=none∧H x=none)
  {h':Heap} (L:(holes s.heap (frs X.stack++a::xs)).Left (X.env::X.outer) a c s.heap h') (q:E c none H):
  CX1 X.prog X.w X.outer X.H₀ X.s₀ E (.ref a) { s with heap:=h' }:=by
 have sub:=J.stkSub
 have hb0:=J.base
 rw[hex]at hb0
 have up:∀b∈X.fs,b∈frs X.stack:=by
  intro b hb
  rw[hst]
  unfold Cx.fs at hb
  unfold frs at hb ⊢
  rw[List.filterMap_cons]
  split
  ·exact hb
  ·exact List.mem_cons_of_mem _ hb
 have old:∀b o,X.s₀.heap.get? b=some o→b∉X.fs→b∉frs X.stack:=by
  intro b o hb hf hin
  rcases List.mem_cons.mp (sub b hin) with e |e
  ·have h1:=Heap.lt_size hb
   have h2:=J.ok.above
   rw[e]at h1
   exact absurd h1 (Nat.not_lt.mpr h2)
  ·exact hf e
 obtain ⟨u,k,t⟩:=yz hb0 J.hok up old (fun b hb=>⟨J.stkFree b hb,sy J.stack b hb⟩) ha hHa hxs L
 exact ⟨a,c,H,rfl,J.os,J.bare,u,k,t,q⟩
theorem RX(J:Inv X pins σ H s)(hst:X.stack=X.env::X.outer)(hex:X.ex=[]){a:Addr}{c:Value}{E:XK}(t:Tr X.s₀.heap H s.heap a c)(q:E c none H){E':Value→Shared→Prop}:
  wpAny (model X.prog X.w) X.A (leaving X.env (.ref a)) (fun _ s''=>CX1 X.prog X.w X.outer X.H₀ X.s₀ E (.ref a) s'') E' s:=by
 obtain ⟨oe,vs,T,oT,ts,t1,t2,t3,t4,t6,t7,t8,t9,n1,n2,n3,n4⟩:=t
 have hfr:=J.stack
 rw[hst]at hfr
 obtain ⟨L,hL⟩:=sE hfr
 have sub:∀b∈frs (X.env::X.outer),b∈frs X.stack++a::[T]:=fun b hb=>by rw[hst];exact List.mem_append_left _ hb
 refine wpAny_leaving_next (base:=holes s.heap (frs X.stack++a::[T])) (cls:=c) (by rw[J.ok.frames,hst]) (jm hfr sub) hL ?_ m7 (eV (by simp)) fun h' hl=>?_
 ·exact ⟨oe,vs,T,oT,ts,t1,t2,t3,t4,eV (by simp),t6,t7,t8,t9⟩
 ·exact yC J hst hex n1 n3 (fun x hx=>by rw[List.mem_singleton.mp hx];exact ⟨n2,n4⟩) hl q
theorem RZ{h':Heap}(I:Inv X pins σ H s)(hst:X.stack=X.env::X.outer)(hex:X.ex=[]){a:Addr}{c:Value}{args:List Value}{E:XK}(m:s.heap.MadeExcOf h' a c args)(q:E c none H){E':Value→Shared→Prop}:
  wpAny (model X.prog X.w) X.A (leaving X.env (.ref a)) (fun _ s''=>CX1 X.prog X.w X.outer X.H₀ X.s₀ E (.ref a) s'') E' { s with heap:=h' }:=by
 have J:Inv X pins σ H { s with heap:=h' }:=I.kept (t':=s.toks) m.keeps
 have hfr:=J.stack
 rw[hst]at hfr
 obtain ⟨L,hL⟩:=sE hfr
 have sub:∀b∈frs (X.env::X.outer),b∈frs X.stack++a::[]:=fun b hb=>by rw[hst];exact List.mem_append_left _ hb
 obtain ⟨t,e,_,_⟩:=m.there
 have n1:X.s₀.heap.get? a=none:=by
  cases e:X.s₀.heap.get? a with
  |none=>rfl
  |some o=>
   obtain ⟨o',e'⟩:=I.base.there a o e (by rw[hex];simp)
   rw[m.new]at e';cases e'
 refine wpAny_leaving_first (base:=holes h' (frs X.stack++a::[])) (by rw[J.ok.frames,hst]) (jm hfr sub) hL e m7 (eV (by simp)) rfl rfl fun h'' hl=>?_
 exact yC J hst hex n1 (I.hok.gone m.new) (fun x hx=>by cases hx) hl q
theorem R0{E:XK}(hst:X.stack=X.env::X.outer)(hex:X.ex=[])(hxe:∀e s',wpAny (model X.prog X.w) X.A (leaving X.env e) (fun _ s''=>CX1 X.prog X.w X.outer X.H₀ X.s₀ E e s'') (fun e' s''=>CX1 X.prog X.w X.outer X.H₀ X.s₀ E e' s'') s'→X.xe e s'):
  gU (CX1 X.prog X.w) X E:=by
 intro pins σ H s e s' I h
 obtain ⟨a,c,H',rfl,ho,hg,un,hok,tr,q⟩:=h
 have J:Inv X pins σ H' s':=I.call' (ch:=[]) ho un hok hg (fun b z=>absurd z (by simp))
 refine hxe _ _ (RX J hst hex ?_ q)
 obtain ⟨oe,vs,T,oT,ts,t1,t2,t3,t4,t6,t7,t8,t9,n1,n2,n3,n4⟩:=tr
 have old:∀b,s.heap.get? b=none→X.s₀.heap.get? b=none:=fun b hb=>by
  cases e:X.s₀.heap.get? b with
  |none=>rfl
  |some o=>
   obtain ⟨o',e'⟩:=I.base.there b o e (by rw[hex];simp)
   rw[hb]at e';cases e'
 exact ⟨oe,vs,T,oT,ts,t1,t2,t3,t4,t6,t7,t8,t9,old a n1,old T n2,n3,n4⟩
theorem yD{P:Program}{w:World}(Y:Cx):gU (CX1 P w) Y fun _ _ _=>False:=fun _ _ _ _ _ _ _ h=>by
 obtain ⟨_,_,_,_,_,_,_,_,_,q⟩:=h
 exact q.elim
end
end L2
namespace L2
open PySem PySem.Spec PyProof.Rows
abbrev veM:List Value:=[.type "ValueError",.type "Exception",.type "BaseException",.type "object"]
def sG:List Value→Bool
 |[.type a,.type b,.type c,.type d]=>a=="ValueError"&&b=="Exception"&&c=="BaseException"&&d=="object"
 |_=>false
theorem R1{l:List Value}(h:sG l=true):l=veM:=by
 unfold sG at h
 split at h
 ·simp only[Bool.and_eq_true,beq_iff_eq]at h
  obtain ⟨⟨⟨rfl,rfl⟩,rfl⟩,rfl⟩:=h
  rfl
 ·cases h
def yE:Value→Bool
 |.str _ _=>true
 |_=>false
def nsB(K:PySem.W.Frag)(N:Addr):Bool:=match K.lookup N with
 |some ⟨_,_,.dict es _,_⟩=>es.toList.all (fun e=>yE e.key)&&quietNames.all fun n=>(nsFind es n).isNone
 |_=>false
theorem yF{K:PySem.W.Frag}{N:Addr}{h:Heap}(KX:K.In h)(b:nsB K N=true):∃m,h.Ns N m∧∀n∈quietNames,m n=none:=by
 unfold nsB at b
 split at b
 ·rename_i c d es ep sl e
  rw[Bool.and_eq_true,List.all_eq_true,List.all_eq_true]at b
  refine ⟨nsFind es,⟨_,es,ep,KX _ _ e,rfl,fun x hx=>?_,fun _=>rfl⟩,fun n hn=>by simpa using b.2 n hn⟩
  have:=b.1 x (Array.mem_toList_iff.mpr hx)
  unfold yE at this
  split at this
  ·rename_i y t e;exact ⟨_,_,e⟩
  ·cases this
 ·cases b
def yG(K:PySem.W.Frag)(A:Addr):Bool:=match K.lookup A with
 |some ⟨_,_,.cls cd,_⟩=>nsB K cd.ns
 |_=>false
def m8(K:PySem.W.Frag):List Value→Bool
 |[]=>false
 |v::tl=>(match v with |.ref A=>yG K A&&m8 K tl |_=>sG (v::tl))
theorem yH{K:PySem.W.Frag}{h:Heap}(KX:K.In h):∀{l:List Value},m8 K l=true→OwnTailQ h veM l
 |[],b=>by cases b
 |v::tl,b=>by
  unfold m8 at b
  split at b
  ·rename_i A
   rw[Bool.and_eq_true]at b
   have b1:=b.1
   unfold yG at b1
   split at b1
   ·rename_i c d cd sl e
    obtain ⟨m,hm,hq⟩:=yF KX b1
    exact .own (KX _ _ e) hm hq (yH KX b.2)
   ·cases b1
  ·rw[R1 b];exact .base
def isRef(C:Addr):Value→Bool
 |.ref a=>a==C
 |_=>false
def isNew:Option Value→Bool
 |some (.builtin s)=>s=="ValueError.__new__"
 |_=>false
def yI:Value→Bool
 |.type s=>s=="type"
 |_=>false
def gb(K:PySem.W.Frag)(C:Addr):Bool:=match K.lookup C with
 |some ⟨ty,_,.cls cd,⟨[_,_,_,_,k,_]⟩⟩=>yI ty&&isNew k&&nsB K cd.ns&&!cd.hasDel&&(match cd.mro with |v::tl=>isRef C v&&m8 K tl |[]=>false)
 |_=>false
theorem R3 {K:PySem.W.Frag} {C:Addr} {h:Heap} {mg:Str→Option Value} {x:Str} (KX:K.In h) (b:gb K C=true) (hm:mg x=some (.ref C)):OwnClsQ x C veM "ValueError.__new__" mg h:=by
 unfold gb at b
 split at b
 ·rename_i ty dd cd k0 k1 k2 k3 k k5 e
  simp only[Bool.and_eq_true]at b
  obtain ⟨⟨⟨⟨b1,b2⟩,b3⟩,b5⟩,b4⟩:=b
  obtain ⟨m,hns,hq⟩:=yF KX b3
  have e1:ty=.type "type":=by
   unfold yI at b1
   split at b1
   ·rw[beq_iff_eq]at b1;rw[b1]
   ·cases b1
  have e2:k=some (.builtin "ValueError.__new__"):=by
   unfold isNew at b2
   split at b2
   ·rw[beq_iff_eq]at b2;rw[b2]
   ·cases b2
  obtain ⟨nm,bs,mro,ns,q,hd,sn,sub,ab,col,del⟩:=cd
  dsimp only at b4 hns b5
  have e4:del=false:=by simpa using b5
  subst e4
  split at b4
  ·rename_i v tl
   rw[Bool.and_eq_true]at b4
   have e3:v=.ref C:=by
    have:=b4.1
    unfold isRef at this
    split at this
    ·rw[beq_iff_eq]at this;rw[this]
    ·cases this
   subst e1 e2 e3
   exact ⟨hm,tl,ns,nm,q,bs,hd,sn,sub,ab,col,dd,k0,k1,k2,k3,k5,m,KX _ _ e,hns,hq,yH KX b4.2⟩
  ·cases b4
 ·cases b
theorem R4{h:Heap}{bmB bm:List Value}(t:OwnTail h bmB bm){v:Value}(hv:bmB.contains v=true):bm.contains v=true:=by
 induction t with
 |base=>exact hv
 |own _ _ _ _ ih=>rw[List.contains_cons,ih,Bool.or_true]
theorem yJ{h h':Heap}(k:∀b o,h.get? b=some o→h'.get? b=some o){N:Addr}{m:Str→Option Value}(n:h.Ns N m):h'.Ns N m:=by
 obtain ⟨o,es,ep,e,r⟩:=n
 exact ⟨o,es,ep,k _ _ e,r⟩
theorem R5{h h':Heap}(k:∀b o,h.get? b=some o→h'.get? b=some o){bmB bm:List Value}(t:OwnTail h bmB bm):OwnTail h' bmB bm:=by
 induction t with
 |base=>exact .base
 |own e n i _ ih=>exact .own (k _ _ e) (yJ k n) i ih
section
variable {X:Cx}
abbrev TJ:=St→Hp→(Hp→Prop)→Prop
def PJ(X:Cx)(es:List Expr)(t:TJ)(n:Nat):Prop:=∀(pins:List (Addr×Obj))(s:Shared)(σ:St)(H:Hp)(Q:Hp→Prop)(out:Str),Inv X pins σ H s→out.length+n≤100000→t σ H Q→
 wpAny (model X.prog X.w) X.A (joinParts out (evalEach es X.env)) (EP X pins σ fun v H'=>(∃x,v=.str x)∧Q H') X.xe s
theorem R6:PJ X [] (fun _ H Q=>Q H) 0:=fun pins s σ H Q out I hl q=>by
 refine joinParts_nil ⟨.str out,H,I.tok _,⟨_,rfl⟩,⟨_,rfl⟩,q⟩ ?_
 have:sizeLine≥100000:=by decide
 omega
theorem m9(x y:Str):(x++y).length=x.length+y.length:=by
 show (x.cps++y.cps).size=_
 rw[Array.size_append];rfl
theorem R7{y:Str}{k:Nat}{p:Pos}{es:List Expr}{t:TJ}{n:Nat}(h:PJ X es t n):PJ X (.Constant (.str y) k p::es) t (y.length+n):=fun pins s σ H Q out I hl q=>by
 have hz:sizeLine≥100000:=by decide
 refine joinParts_consE (joinParts_cons (Calls.Constant_str ?_))
 dsimp only
 refine ⟨by rw[m9];omega,h pins _ σ H Q _ (I.tok _) (by rw[m9];omega) q⟩
theorem digits_le:∀n:Fin 100,(Str.ofString (toString (n.val:Int))).length≤3:=by decide +kernel
theorem R8{e:Expr}{te:TE}{p:Pos}{es:List Expr}{t:TJ}{n:Nat}(he:PE X e te)(h:PJ X es t n):PJ X (.FormattedValue e (-1) none p::es) (fun σ H Q=>te σ H fun v H1=>(∃m:Nat,v=.int m∧m < 100)∧t σ H1 Q) (3+n):=fun pins s σ H Q out I hl q=>by
 have hz:sizeLine≥100000:=by decide
 refine joinParts_consE (joinParts_cons (FormattedValue_plain (thn (he pins s σ H _ I q) fun v s1 hy=>?_)))
 obtain ⟨x,H1,I1,r1,⟨m,rfl,hm⟩,q1⟩:=hy
 obtain ⟨tk,rfl⟩:=r1
 have hd:(Str.ofString (toString (m:Int))).length≤3:=digits_le ⟨m,hm⟩
 refine formatField_int_small ?_ ?_
 ·have:(m:Int).natAbs=m:=Int.natAbs_natCast m
  rw[this]
  exact Nat.lt_of_le_of_lt (Nat.log2_le_self m) (by omega)
 ·dsimp only
  exact ⟨by rw[m9];omega,h pins _ σ H1 Q _ ((I1.tok _)) (by rw[m9];omega) q1⟩
theorem R9{v1 v2:Expr}{es:List Expr}{t:TJ}{n:Nat}{pos:Pos}(h:PJ X (v1::v2::es) t n)(hn:n≤100000):PE X (.JoinedStr (v1::v2::es) pos) (fun σ H Q=>t σ H fun H1=>∀x,Q (.str x) H1):=fun pins s σ H Q I q=>by
 refine JoinedStr_many ?_
 refine wpAny_mono (h pins s σ H _ Str.empty I (by show 0+n≤_;omega) q) (fun v s1 hy=>?_) fun _ _ z=>z
 obtain ⟨x,H1,I1,r1,⟨y,rfl⟩,q1⟩:=hy
 exact ⟨_,H1,I1,r1,q1 y⟩
def Throws(X:Cx)(E:XK):Prop:=∀(pins:List (Addr×Obj))(σ:St)(H:Hp)(s:Shared)(h':Heap)(a:Addr)(c:Value)(args:List Value),Inv X pins σ H s→s.heap.MadeExcOf h' a c args→E c none H→X.xe (.ref a) { s with heap:=h' }
theorem Sd{E:XK}(hst:X.stack=X.env::X.outer)(hex:X.ex=[])(hxe:∀e s',wpAny (model X.prog X.w) X.A (leaving X.env e) (fun _ s''=>CX1 X.prog X.w X.outer X.H₀ X.s₀ E e s'') (fun e' s''=>CX1 X.prog X.w X.outer X.H₀ X.s₀ E e' s'') s'→X.xe e s'):Throws X E:=
 fun _ _ _ _ _ _ _ _ I m q=>hxe _ _ (RZ I hst hex m q)
theorem yK{x:Str}{C:Addr}{np cpos pos:Pos}{e:Expr}{es:List Expr}{ta:TA}{E:XK}(hc:X.calm=true)(hg:Gl X x)(hm:X.mg x=some (.ref C))(hb:gb X.K C=true)(hE:Throws X E)(ha:PA X (e::es) ta)
  (hdb:(x==("__debug__":Str))=false:=by decide) (he:starEach (e::es) X.env=(false,eval e X.env)::starEach es X.env:=by rfl) (hpl:(backTo cpos (starEach es X.env)).any (·.1)=false:=by rfl):
  PS X (.Raise (some (.Call (.Name x np) (e::es) [] cpos)) none pos) (fun _ σ H=>ta σ H fun vs H1=>vs.length≤sizeLine∧E (.ref C) none H1):=by
 intro pins s σ H D I h
 have kb:=I.ok.mod.kin
 obtain ⟨bm,N,nm,q,bs,hd,sn,sub,ab,col,dd,k0,k1,k2,k3,k5,mN,b1,b2,b3,b4⟩:=(R3 kb hb hm:OwnClsQ x C veM "ValueError.__new__" X.mg X.base).own.obj
 refine wpAny_Raise_call_subT (nm:=nm) (q:=q) (N:=N) (bs:=bs) (hdct:=hd) (sn:=sn) (sub:=sub) (ab:=ab) (col:=col) (dd:=dd) (k0:=k0) (k1:=k1) (k2:=k2) (k3:=k3) (k5:=k5) (F.excBase_ValueError) (R4 b4 (by decide)) (I.ok.hd hc) ?_ b3 (fY I hg hm ⟨rfl,?_⟩ hdb)
 ·rw[he]
  exact hpl
 ·have hsp:=ha cpos pins s σ H _ I h
  rw[he]at hsp ⊢
  refine Calls.evalArgs_plain (wpAny_mono hsp (fun vs s2 hy=>?_) fun _ _ z=>z)
  obtain ⟨ws,H2,I2,r2,hl,q2⟩:=hy
  refine ⟨rfl,by rw[←r2.length];exact hl,I2.bk _ _ b1,yJ I2.bk b2,R5 I2.bk b4,fun h' a m=>hE pins σ H2 s2 h' a _ _ I2 m q2⟩
end
end L2
namespace L2
open PySem PySem.Spec PyProof.Rows
section
variable {X:Cx}
abbrev Cx.marked(X:Cx)(a:Addr)(E:Value→Shared→Prop):Cx:={ X with A:=X.A.mark (some (.ref a)),calm:=false,xe:=E }
theorem Cx.Ok.marked{X:Cx}(ok:X.Ok)(a:Addr)(E:Value→Shared→Prop):(X.marked a E).Ok:=
 ⟨ok.mod,ok.kind,ok.glob,ok.blt,ok.above,ok.inj,ok.has,ok.cab,fun h=>(by cases h),ok.frames,ok.stk,ok.exf,ok.bs,ok.bsz,ok.noex,ok.exfs,ok.funs,ok.frf⟩
variable {pins:List (Addr×Obj)} {σ:St} {H:Hp} {s:Shared}
theorem Inv.marked(I:Inv X pins σ H s)(a:Addr)(E:Value→Shared→Prop):Inv (X.marked a E) pins σ H s:=⟨I.ok.marked a E,I.os,I.bare,I.base,I.loc,I.cell,I.free,I.freeC,I.pin,I.hok,I.len⟩
theorem Inv.unmarked{a:Addr}{E:Value→Shared→Prop}(I:Inv (X.marked a E) pins σ H s)(ok:X.Ok):Inv X pins σ H s:=⟨ok,I.os,I.bare,I.base,I.loc,I.cell,I.free,I.freeC,I.pin,I.hok,I.len⟩
theorem SP.unmarked{a:Addr}{E:Value→Shared→Prop}{D:Ends}{f:Flow}{s':Shared}(ok:X.Ok)(h:SP (X.marked a E) pins D f s'):SP X pins D f s':=by
 cases f with
 |next=>obtain ⟨σ',H',I,q⟩:=h;exact ⟨σ',H',I.unmarked ok,q⟩
 |brk=>obtain ⟨σ',H',I,q⟩:=h;exact ⟨σ',H',I.unmarked ok,q⟩
 |cont=>obtain ⟨σ',H',I,q⟩:=h;exact ⟨σ',H',I.unmarked ok,q⟩
 |ret u=>obtain ⟨v,σ',H',I,r,q⟩:=h;exact ⟨v,σ',H',I.unmarked ok,r,q⟩
structure Caught(X:Cx)(H:Hp)(s:Shared)(H':Hp)(a:Addr)(c:Value)(s':Shared):Prop where
 os:s'.os=s.os
 bare:AllBare s'.gens
 un:Un (frs X.stack) [] H H' s.heap s'.heap
 hok:HOk X.prog X.w H' s'.heap
 tr:Tr s.heap H' s'.heap a c
variable {H':Hp} {a:Addr} {c:Value} {s':Shared}
theorem Caught.inv(K:Caught X H s H' a c s')(I:Inv X pins σ H s):Inv X pins σ H' s':=I.call' (ch:=[]) K.os K.un K.hok K.bare (fun b z=>absurd z (by simp))
theorem Caught.left(K:Caught X H s H' a c s')(I:Inv X pins σ H s){T:Addr}{h':Heap}{l:List Env}(hT:s.heap.get? T=none∧H' T=none)(L:(holes s'.heap (frs X.stack++a::[T])).Left l a c s'.heap h'):Caught X H s H' a c { s' with heap:=h' }:=by
 have J:=K.inv I
 obtain ⟨_,_,_,_,_,_,_,_,_,_,_,_,_,n1,_,n3,_⟩:=K.tr
 obtain ⟨u,k,t⟩:=yz K.un K.hok (fun b hb=>hb) (fun b o _ hn=>hn) (fun b hb=>⟨J.stkFree b hb,sy J.stack b hb⟩) n1 n3 (fun x hx=>by rw[List.mem_singleton.mp hx];exact hT) L
 exact ⟨K.os,K.bare,u,k,t⟩
theorem Caught.note(K:Caught X H s H' a c s')(I:Inv X pins σ H s)(hst:X.stack=X.env::X.outer){Q:Shared→Prop}{E1 E2:Value→Shared→Prop}(hQ:∀h2,Caught X H s H' a c { s' with heap:=h2 }→Q { s' with heap:=h2 }):
  wpAny (model X.prog X.w) X.A (noteFrame (.ref a) X.env) (fun _ s2=>wpAny (model X.prog X.w) X.A (setFlight (.ref a) none) (fun _ s3=>Q s3) E1 s2) E2 s':=by
 have J:=K.inv I
 obtain ⟨oe,vs,T,oT,ts,t1,t2,t3,t4,t6,t7,t8,t9,n1,n2,n3,n4⟩:=K.tr
 have hfr:=J.stack
 rw[hst]at hfr
 obtain ⟨L,hL⟩:=sE hfr
 have sub:∀b∈frs (X.env::X.outer),b∈frs X.stack++a::[T]:=fun b hb=>by rw[hst];exact List.mem_append_left _ hb
 obtain ⟨a0,h0⟩:∃a0,vs[0]?=some a0:=by
  obtain ⟨hi,_⟩:=Array.getElem?_eq_some_iff.mp t4
  exact ⟨vs[0],Array.getElem?_eq_getElem (by omega)⟩
 refine wpAny_noteFrame_onW (base:=holes s'.heap (frs X.stack++a::[T])) (cls:=c) (a0:=a0) (by rw[J.ok.frames,hst]) (jm hfr sub) hL ?_ m7 (eV (by simp)) fun h1 hn=>?_
 ·exact ⟨oe,vs,T,oT,ts,t1,⟨t2,h0⟩,t3,t4,eV (by simp),t6,t7,t8,t9⟩
 ·obtain ⟨m1,m2,m3,m4⟩:=hn
  refine wpAny_setFlight_noneW m1 m2 m3 fun h2 p1 p2 p3 p4=>?_
  refine hQ h2 (K.left I ⟨n2,n4⟩ (l:=X.env::X.outer) ⟨p1,p2,?_,fun b o e d=>?_⟩)
  ·obtain ⟨oe,vs,T,oT,ts,t1,⟨t2,_⟩,r⟩:=p3
   exact ⟨oe,vs,T,oT,ts,t1,t2,r⟩
  ·obtain ⟨sl,e'⟩:=m4 b o e d
   exact ⟨sl,p4 b _ e' d⟩
theorem Caught.flight(K:Caught X H s H' a c s')(I:Inv X pins σ H s){A:Around}{Q:Shared→Prop}{E1:Value→Shared→Prop}(hQ:∀h2,Caught X H s H' a c { s' with heap:=h2 }→Q { s' with heap:=h2 }):
  wpAny (model X.prog X.w) A (setFlight (.ref a) none) (fun _ s3=>Q s3) E1 s':=by
 have J:=K.inv I
 obtain ⟨oe,vs,T,oT,ts,t1,t2,t3,t4,t6,t7,t8,t9,n1,n2,n3,n4⟩:=K.tr
 obtain ⟨a0,h0⟩:∃a0,vs[0]?=some a0:=by
  obtain ⟨hi,_⟩:=Array.getElem?_eq_some_iff.mp t4
  exact ⟨vs[0],Array.getElem?_eq_getElem (by omega)⟩
 refine wpAny_setFlight_noneW (base:=holes s'.heap (frs X.stack++a::[T])) (l:=X.stack) (cls:=c) (a0:=a0) (fl:=.none) m7 (jm J.stack fun b hb=>List.mem_append_left _ hb) ?_ fun h2 p1 p2 p3 p4=>?_
 ·exact ⟨oe,vs,T,oT,ts,t1,⟨t2,h0⟩,t3,t4,eV (by simp),t6,t7,t8,t9⟩
 ·refine hQ h2 (K.left I ⟨n2,n4⟩ (l:=X.stack) ⟨p1,p2,?_,fun b o e d=>⟨o.slots,p4 b o e d⟩⟩)
  obtain ⟨oe,vs,T,oT,ts,t1,⟨t2,_⟩,r⟩:=p3
  exact ⟨oe,vs,T,oT,ts,t1,t2,r⟩
end
end L2
namespace L2
open PySem PySem.Spec PyProof.Rows
open Builtin Builtin.ObjectAttr Builtin.Getset_descriptor
open PySem.W (findIn mroIn clsIn typeIn Looks InstAt looks_findIn looks_mroIn looks_typeIn)
def jo(K:PySem.W.Frag)(D:Addr):Bool:=
 findIn K (.ref D) "__class__"==some (some (.builtin "object.__class__"))&&findIn K (.ref D) "__getattribute__"==some (some (.builtin "BaseException.__getattribute__"))&&findIn K (.ref D) "__getattr__"==some none &&
  mroIn K D (.type "object")==some true&&mroIn K D (.type "BaseException")==some true&&(clsIn K D).isSome
structure Xin(K:PySem.W.Frag)(D:Addr):Prop where
 c:findIn K (.ref D) "__class__"=some (some (.builtin "object.__class__"))
 ga:findIn K (.ref D) "__getattribute__"=some (some (.builtin "BaseException.__getattribute__"))
 g:findIn K (.ref D) "__getattr__"=some none
 o:mroIn K D (.type "object")=some true
 b:mroIn K D (.type "BaseException")=some true
 d:(clsIn K D).isSome=true
theorem Sg{K:PySem.W.Frag}{D:Addr}(h:jo K D=true):Xin K D:=by
 unfold jo at h
 simp only[Bool.and_eq_true,beq_iff_eq]at h
 obtain ⟨⟨⟨⟨⟨h1,h2⟩,h3⟩,h4⟩,h5⟩,h6⟩:=h
 exact ⟨h1,h2,h3,h4,h5,h6⟩
section
variable {prog:Program} {w:World} {A:Around} {E:Value→Shared→Prop} {h:Heap} {g:Array GenState} {d:Drawn} {t:Nat} {os:OsState} {a:Addr} {o:Obj} {K:PySem.W.Frag} {D:Addr}
theorem yL{M:Model}(hx:h.get? a=some o)(hc:o.cls=.ref D):Looks M h (typeOf (.ref a)) (.ref D):=by
 have:=(Looks.ld (M:=M) (part:=none) hx).andThen (f:=fun o=>pure o.cls) (b:=.ref D) (by rw[hc];exact .now)
 exact this
theorem Sh {s:Shared} {R:Result→Shared→Prop} {tp:Value} (X:K.In s.heap) (hx:s.heap.get? a=some o) (hc:o.cls=.ref D) (hm:mroIn K D (.type "object")=some true)
  (h:R (.ok (.ret (.ref D))) s):codeAny (model prog w) A (.call (.builtin "getset_descriptor.__get__") ⟨[.builtin "object.__class__",.ref a,tp],[]⟩) R s:=by
 obtain ⟨hh,g,dr,t,os⟩:=s
 have L0:=yL (M:=model prog w) hx hc
 have L1:=looks_mroIn (M:=model prog w) X hm
 refine codeAny_call_builtin PySem.W.KF.slot_gs.plain PySem.W.KF.entry_gs (PySem.W.KF.slot_gs.check _ _ _ _ _ _ _ _ PySem.W.KF.type_class (PySem.W.KF.args_gs _ _ _) ?_)
 unfold Builtin.«getset_descriptor.__get__» descrGet
 rw[PySem.W.dga_obj]
 refine wpAny_bind (wpAny_pure ?_)
 unfold descrGetter descrCheckInstance descrNameAndClass isInstance
 simp only[PySem.W.KF.owner_class]
 repeat lk
 refine ⟨Code.quiet_builtin _ (by decide +kernel),codeAny_builtin PySem.W.KF.entry_class ?_⟩
 unfold Builtin.«object.__class__» shownTypeOf
 repeat lk
 exact h
theorem Sq{tk:Tok}{Q:Fin→Shared→Prop}(X:K.In h)(x:Xin K D)(hx:h.get? a=some o)(hc:o.cls=.ref D)(hq:Q (.done (.ret (.ref D))) ⟨h,g,d,t,os⟩):
  wpAny (model prog w) A (Builtin.«object.__getattribute__» ⟨[.ref a,.str "__class__" tk],[]⟩) Q E ⟨h,g,d,t,os⟩:=by
 have hT5:(⟨h,g,d,t,os⟩:Shared).TypeIs (.builtin "object.__class__") "getset_descriptor":=F.typeOf_object_class
 have f5:=F.typeOf_object_class
 have f6:=F.slot_gs_get.lookup
 have f7:=F.slot_gs_set.lookup
 have L1:=looks_findIn (M:=model prog w) X x.c
 repeat (any_goals (first |assumption | (with_reducible refine wpAny_loadPart_at hx ?_;rw[hc]) |with_reducible refine L1.at ?_ |wp_step))
 refine Sh (s:=⟨h,g,d,t,os⟩) X hx hc x.o ?_
 repeat (any_goals (first |assumption |wp_step))
theorem Ss{M:Model}{nameV:Value}{Q:Unit→Shared→Prop}(X:K.In h)(x:Xin K D)(hx:h.get? a=some o)(hc:o.cls=.ref D)(hq:Q () ⟨h,g,d,t,os⟩):
  wpAny M A (checkBuiltinCall "BaseException.__getattribute__" ⟨[.ref a,nameV],[]⟩) Q E ⟨h,g,d,t,os⟩:=by
 have hk:builtinKind "BaseException.__getattribute__"=some .slot:=by decide +kernel
 have hsplit:splitId "BaseException.__getattribute__"=some ("BaseException","__getattribute__"):=by decide +kernel
 have L1:=looks_mroIn (M:=M) X x.b
 have ha:=F.args_bexc_ga (.ref a) nameV
 simp only[checkBuiltinCall,hk,hsplit]
 refine wpAny_bind ?_
 ·unfold isInstance
  repeat (first | (with_reducible refine wpAny_loadPart_at hx ?_;rw[hc]) |with_reducible refine L1.at ?_ |wp_step)
  exact hq
theorem Su{tk:Tok}{R:Result→Shared→Prop}(X:K.In h)(x:Xin K D)(hx:h.get? a=some o)(hc:o.cls=.ref D)(hq:R (.ok (.ret (.ref D))) ⟨h,g,d,t,os⟩):
  codeAny (model prog w) A (.call (.builtin "BaseException.__getattribute__") ⟨[.ref a,.str "__class__" tk],[]⟩) R ⟨h,g,d,t,os⟩:=
 codeAny_call_builtin (by decide +kernel) F.entry_bexc_ga (Ss X x hx hc (Sq X x hx hc hq))
theorem Sv{Q:Option Value→Shared→Prop}(X:K.In h)(x:Xin K D)(hx:h.get? a=some o)(hc:o.cls=.ref D)(hq:Q (some (.ref D)) ⟨h,g,d,t+1,os⟩):
  wpAny (model prog w) A (getAttr? (.ref a) "__class__") Q E ⟨h,g,d,t,os⟩:=by
 have L1:=looks_findIn (M:=model prog w) X x.ga
 have L2:=looks_findIn (M:=model prog w) X x.g
 have f3:bindSpecial (.builtin "BaseException.__getattribute__") (.ref a)=pure (.builtin "BaseException.__getattribute__",[.ref a]):=(PySem.F.excAttr_ValueError).ga.bind (.ref a)
 have hx2:(Value.builtin "BaseException.__getattribute__"==Value.builtin "object.__getattribute__")=false:=by decide +kernel
 have hx1:(onTheHeap (Value.ref D)&&Value.builtin "BaseException.__getattribute__"==Value.builtin "object.__getattribute__")=false:=by rw[hx2];rfl
 unfold getAttr? getAttrBy? getAttrBy
 repeat (any_goals (first |assumption | (with_reducible refine wpAny_loadPart_at hx ?_;rw[hc]) |with_reducible refine L1.at ?_ |with_reducible refine L2.at ?_ |wp_step))
 refine Su X x hx hc ?_
 repeat (any_goals (first |assumption |wp_step))
def gY(K:PySem.W.Frag)(c:Value):Bool:=match c with
 |.ref C=>(clsIn K C).isSome&&typeIn K (.ref C)==some (.type "type")
 |.type T=>T=="ValueError"
 |_=>false
theorem ty_ValueError:typeOf (.type "ValueError")=pure (.type "type"):=by kernel_rfl
theorem Sw {M:Model} {c:Value} (X:K.In h) (e:gY K c=true):Looks M h (typeOf c) (.type "type")∧Looks M h (isType c) true:=by
 unfold gY at e
 split at e
 ·rename_i C
  rw[Bool.and_eq_true,beq_iff_eq]at e
  obtain ⟨e0,e1⟩:=e
  refine ⟨looks_typeIn X e1,?_⟩
  unfold clsIn at e0
  split at e0
  ·rename_i c' d' cd' sl' ho
   intro A' Q' E' s' k q
   unfold isType loadHead
   exact wpAny_bind (wpAny_loadPart (k _ _ (X _ _ ho)) (wpAny_pure q))
  ·cases e0
 ·rename_i T
  rw[beq_iff_eq]at e
  subst e
  exact ⟨Looks.of_pure ty_ValueError,Looks.of_pure rfl⟩
 ·cases e
theorem Sy{c:Value}{b:Bool}{dep:Int}{tk:Tok}{Q:Fin→Shared→Prop}(X:K.In h)(x:Xin K D)(hx:h.get? a=some o)(hc:o.cls=.ref D)(hk:gY K c=true)
  (hm:mroIn K D c=some b) (hne:b=false→(Value.ref D==c)=false) (hq:∀t',Q (.done (.ret (.bool b))) ⟨h,g,d,t',os⟩):
  wpAny (model prog w) A (Builtin.«isinstance.nested» ⟨[.ref a,c,.int dep tk],[]⟩) Q E ⟨h,g,d,t,os⟩:=by
 obtain ⟨hty,his⟩:=Sw (M:=model prog w) X hk
 have hsub:=looks_mroIn (M:=model prog w) X hm
 have L0:=yL (M:=model prog w) hx hc
 have LI:Looks (model prog w) h (isInstance (.ref a) c) b:=L0.andThen hsub
 have hisD:Looks (model prog w) h (isType (.ref D)) true:=by
  have e0:=x.d
  unfold clsIn at e0
  split at e0
  ·rename_i c' d' cd' sl' ho
   intro A' Q' E' s' k q
   unfold isType loadHead
   exact wpAny_bind (wpAny_loadPart (k _ _ (X _ _ ho)) (wpAny_pure q))
  ·cases e0
 unfold Builtin.«isinstance.nested»
 refine wpAny_bind (L0.at ?_)
 by_cases he:(Value.ref D==c)=true
 ·rw[if_pos he]
  cases b with
  |false=>rw[hne rfl]at he;cases he
  |true=>
   repeat (first |refine wpAny_pure ?_ |refine wpAny_rule ?_ |refine wpAny_bind ?_)
   exact hq t
 ·rw[if_neg he]
  refine wpAny_bind (hty.at ?_)
  rw[if_pos (by decide)]
  k_delta "plainIsInstance"
  refine wpAny_bind (wpAny_bind (his.at ?_))
  simp only[Bool.not_true,Bool.false_eq_true,if_false]
  refine wpAny_bind (LI.at ?_)
  cases b with
  |true=>
   simp only[if_true]
   repeat (first |refine wpAny_pure ?_ |refine wpAny_rule ?_ |refine wpAny_bind ?_)
   exact hq t
  |false=>
   simp only[Bool.false_eq_true,if_false]
   refine wpAny_bind (Sv X x hx hc ?_)
   refine wpAny_bind (hisD.at ?_)
   simp only[Bool.not_true,Bool.false_eq_true,if_false]
   refine wpAny_bind (wpAny_rule ?_)
   refine hsub.at ?_
   first
    |exact wpAny_pure (hq _)
    |exact wpAny_pure (wpAny_pure (hq _))
    |exact wpAny_bind (wpAny_pure (wpAny_pure (hq _)))
theorem SJ{c:Value}{b:Bool}{Q:Value→Shared→Prop}{s:Shared}(X:K.In s.heap)(x:Xin K D)(hx:s.heap.get? a=some o)(hc:o.cls=.ref D)(hk:gY K c=true)
  (hm:mroIn K D c=some b) (hne:b=false→(Value.ref D==c)=false) (hq:∀t',Q (.bool b) { s with toks:=t' }):wpAny (model prog w) A (call (.builtin "isinstance") [.ref a,c]) Q E s:=by
 obtain ⟨hh,g,d,t,os⟩:=s
 exact call_isinstance_of (Sy X x hx hc hk hm hne fun t'=>hq t') (by intro e;cases e)
end
end L2
namespace L2
open PySem PySem.Spec PyProof.Rows
open PySem.W (findIn mroIn clsIn typeIn Looks looks_findIn looks_mroIn looks_typeIn)
section
variable {X:Cx}
def XO(H:Hp)(a c:Addr):Prop:=∃o y,H a=some (.frz o (.own y))∧o.cls=.ref c
def valOf:V→Value
 |.ref a=>.ref a
 |.ty n=>.type n
 |_=>.none
def SM(K:PySem.W.Frag):List V→Hp→VK→Prop:=fun xs H Q=>∃a c cv b,xs=[.ref a,cv]∧XO H a c∧jo K c=true∧gY K (valOf cv)=true∧mroIn K c (valOf cv)=some b∧(b=false→(Value.ref c==valOf cv)=false)∧Q (.bl b) H
theorem SN:bM X (.builtin "isinstance") (SM X.K):=by
 intro pins s σ H xs us Q I r h
 obtain ⟨a,c,cv,b,rfl,⟨o,y,ho,hc⟩,hx,hk,hm,hne,q⟩:=h
 obtain ⟨u,w',rfl,rx,ry⟩:=vals2 r
 cases rx
 have e2:w'=valOf cv:=by
  cases cv with
  |ref a=>exact ry
  |ty n=>exact ry
  |_=>cases hk
 subst e2
 have hob:=(show ObjOk X.prog X.w H s.heap a (.frz o (.own y)) from I.hok a _ ho).1
 exact SJ I.kIn (Sg hx) hob hc hk hm hne fun t'=>⟨.bl b,H,I.tok _,rfl,q⟩
end
section
variable {M:Model} {A:Around} {E:Value→Shared→Prop} {h:Heap} {g:Array GenState} {d:Drawn} {t:Nat} {os:OsState} {e:Addr} {oe:Obj} {K:PySem.W.Frag} {D C:Addr}
theorem yM {Q:Bool→Shared→Prop} (X:K.In h) (he:h.get? e=some oe) (hcls:oe.cls=.ref D) (hC:typeIn K (.ref C)=some (.type "type")) (hk:(clsIn K C).isSome=true) (hB:mroIn K C (.type "BaseException")=some true) (hm:mroIn K D (.ref C)=some true)
  (hq:Q true ⟨h,g,d,t,os⟩):wpAny M A (excMatches (.ref e) (.ref C)) Q E ⟨h,g,d,t,os⟩:=by
 have f:=tc_notTuple
 have L0:=looks_typeIn (M:=M) X hC
 have L1:=looks_mroIn (M:=M) X hB
 have L2:=looks_mroIn (M:=M) X hm
 unfold clsIn at hk
 split at hk
 ·rename_i c' d' cd' sl' ho
  have hoC:=X _ _ ho
  unfold excMatches
  have hC2:(K.lookup C).map (·.cls)=some (.type "type"):=hC
  rw[ho]at hC2
  have ec:c'=.type "type":=by simpa using hC2
  subst ec
  repeat (first | (with_reducible refine wpAny_loadPart_at he ?_;rw[hcls]) |with_reducible refine wpAny_loadPart_at hoC ?_ |with_reducible refine L1.at ?_ |with_reducible refine L2.at ?_ |wp_step)
  exact hq
 ·cases hk
end
section
variable {X:Cx} {pins:List (Addr×Obj)} {σ:St} {H:Hp} {s:Shared}
theorem Inv.tell(I:Inv X pins σ H s){a:Addr}{o:Obj}{vs:Array Value}(h0:X.s₀.heap.get? a=none)(hH:H a=none)(ho:s.heap.get? a=some o)(hd:o.data=.fields vs)(hp:∀p∈X.pn++pins,p.1≠a):
  Inv X pins σ (upd H a (.frz o (.own a))) s:=by
 have nl:X.env.locals≠a:=by
  intro e
  obtain ⟨m,⟨o',es,ep,e1,e2,_⟩,_⟩:=I.loc
  rw[e,ho]at e1
  cases e1
  rw[hd]at e2
  cases e2
 have nc:∀x c,X.env.cells.lookup x=some c→c≠a:=by
  intro x c hc e
  obtain ⟨v,o',e1,e2⟩:=I.cell x c hc
  rw[e,ho]at e1
  cases e1
  rw[hd]at e2
  cases e2
 refine ⟨I.ok,I.os,I.bare,⟨I.base.keep,I.base.slot,fun b u q n hx=>?_,I.base.there,fun b xs q=>?_,fun b u v q=>?_,fun b ps q=>?_⟩,I.loc,I.cell,by rw[aJ nl];exact I.free,fun x c e=>by rw[aJ (nc x c e)];exact I.freeC x c e,fun p hpp=>?_,fun b u q=>?_,I.len⟩
 ·rw[aJ (fun e=>by rw[e,h0]at q;cases q)];exact I.base.free b u q n hx
 ·have q':=I.base.tups b xs q
  rw[aJ (aW q' hH)];exact q'
 ·have q':=I.base.frzs b u v q
  rw[aJ (aW q' hH)];exact q'
 ·obtain ⟨m,q'⟩:=I.base.tbls b ps q
  exact ⟨m,by rw[aJ (aW q' hH)];exact q'⟩
 ·obtain ⟨p1,p2,p3⟩:=I.pin p hpp
  exact ⟨p1,by rw[aJ (hp p hpp)];exact p2,p3⟩
 ·by_cases hb:b=a
  ·subst hb
   rw[cV]at q
   cases q
   exact ⟨ho,o,ho⟩
  ·rw[aJ hb]at q
   exact (I.hok b u q).stay (fun _ _ _ z=>z) (fun c z=>by rw[aJ (aW z hH)];exact z) fun c xs z=>by rw[aJ (aW z hH)];exact z
end
section
variable {X:Cx}
abbrev TX:=(St→Hp→Prop)→(Value→St→Hp→Prop)→St→Hp→Prop
def XP(X:Cx)(pins:List (Addr×Obj))(ex:Value→St→Hp→Prop)(σ:St)(e:Value)(s1:Shared):Prop:=∃a c H1 s0 H',e=.ref a∧Inv X pins σ H1 s0∧Caught X H1 s0 H' a c s1∧ex c σ H'
def NP(X:Cx)(pins:List (Addr×Obj))(nx:St→Hp→Prop)(f:Flow)(s1:Shared):Prop:=f=.next∧∃σ' H',Inv X pins σ' H' s1∧nx σ' H'
def PXs(X:Cx)(sts:List Stmt)(t:TX):Prop:=
 ∀(pins:List (Addr×Obj))(s:Shared)(σ:St)(H:Hp)(nx:St→Hp→Prop)(ex:Value→St→Hp→Prop)(E':Value→Shared→Prop),Inv X pins σ H s→PassesOwn (model X.prog X.w) X.A X.env E'→(∀e s1,XP X pins ex σ e s1→E' e s1)→t nx ex σ H→
  wpAny (model X.prog X.w) X.A (execs sts X.env) (NP X pins nx) E' s
theorem SQ{k:Nat}{f:Addr}{fd:FuncData}{ps:List Str}{sp:Sp}{x:Str}{p cpos p0:Pos}{e:Expr}{es:List Expr}{ta:TA}
  (F:FnOk X.prog X.w X.K X.mg X.base (CX1 X.prog X.w) k f fd ps sp) (hr:Room k X.A) (hg:Gl X x) (hm:X.mg x=some (.ref f)) (hk:PySem.W.keepIn X.K (.ref f)=true) (hbd:Binds X.K fd ps [])
  (ha:∀E':Value→Shared→Prop,PassesOwn (model X.prog X.w) X.A X.env E'→PA (X.wish E') (e::es) ta)
  (hs:swapsWith (.Call (.Name x p) (e::es) [] cpos) none p0.line X.env=pure false)
  (hdb:(x==("__debug__":Str))=false:=by decide) (he:starEach (e::es) X.env=(false,eval e X.env)::starEach es X.env:=by rfl) (hpl:(backTo cpos (starEach es X.env)).any (·.1)=false:=by rfl):
  PXs X [.Expr (.Call (.Name x p) (e::es) [] cpos) p0] (fun nx ex σ H=>ta σ H fun vs H1=>sp vs H1 (fun _ H2=>nx σ H2) (fun c _ H2=>ex c σ H2)):=by
 intro pins s σ H nx ex E' I hpo hE h
 refine wpAny_execs_cons (wpAny_Expr_any (wpAny_Call_Name_kw (fY (X:=X.wish E') (I.wish E') hg hm ?_ hdb)) I.quiet hs)
 refine PySem.W.callWith_K (h₀:=X.base) I.ok.mod.kin hk (thn (ha _ hpo cpos pins s σ H _ (I.wish _) h) fun us s1 hy=>?_) he hpl
 obtain ⟨vs,H1,I1,r,q⟩:=hy
 have I1:=I1.unwish
 refine ⟨I1.kIn,?_⟩
 have hl:us.length=ps.length:=by rw[←r.length];exact F.len _ _ _ _ q
 have hb2:=hbd s1 us I1.kIn (by rw[List.append_nil];exact hl)
 rw[List.append_nil]at hb2
 refine wpAny_call (codeAny_mono (F.run X.A X.stack s1 H1 ⟨us,[]⟩ us vs _ _ hr I1.env0 hb2 r q) fun rr s2 hq=>?_)
 cases rr with
 |error ev=>
  obtain ⟨a,c,H2,rfl,ho,hgn,un,hok,tr,qn⟩:=hq
  exact hE _ _ ⟨a,c,H1,s1,H2,rfl,I1,⟨ho,hgn,un,hok,tr⟩,qn⟩
 |ok fl=>
  cases fl with
  |ret u=>
   obtain ⟨v,H2,I2,r2,q2⟩:=I1.after hq
   exact wpAny_execs_nil ⟨rfl,σ,H2,I2,q2⟩
  |next=>exact False.elim hq
  |brk=>exact False.elim hq
  |cont=>exact False.elim hq
theorem SX{k:Nat}{f:Addr}{fd:FuncData}{ps:List Str}{sp:Sp}{x y:Str}{i:Nat}{p cpos p0 p2:Pos}{e:Expr}{es:List Expr}{ta:TA}
  (F:FnOk X.prog X.w X.K X.mg X.base (CX1 X.prog X.w) k f fd ps sp) (hr:Room k X.A) (hg:Gl X x) (hm:X.mg x=some (.ref f)) (hk:PySem.W.keepIn X.K (.ref f)=true) (hbd:Binds X.K fd ps [])
  (hN:X.N.Nodup) (hi:X.N[i]?=some y) (hx:Loc X.env.scope y) (hf:X.fn y=true∨X.env.scope.names.lookup y=some .local)
  (ha:∀E':Value→Shared→Prop,PassesOwn (model X.prog X.w) X.A X.env E'→PA (X.wish E') (e::es) ta)
  (hs:swapsWith (.Call (.Name x p) (e::es) [] cpos) (some (.Name y p2)) p0.line X.env=pure false)
  (hdb:(x==("__debug__":Str))=false:=by decide) (he:starEach (e::es) X.env=(false,eval e X.env)::starEach es X.env:=by rfl) (hpl:(backTo cpos (starEach es X.env)).any (·.1)=false:=by rfl):
  PXs X [.Assign [.Name y p2] (.Call (.Name x p) (e::es) [] cpos) p0] (fun nx ex σ H=>ta σ H fun vs H1=>sp vs H1 (fun v H2=>nx (σ.set i (some v)) H2) (fun c _ H2=>ex c σ H2)):=by
 intro pins s σ H nx ex E' I hpo hE h
 refine wpAny_execs_cons (wpAny_Assign_Name (wpAny_Call_Name_kw (fY (X:=X.wish E') (I.wish E') hg hm ?_ hdb)) hs)
 refine PySem.W.callWith_K (h₀:=X.base) I.ok.mod.kin hk (thn (ha _ hpo cpos pins s σ H _ (I.wish _) h) fun us s1 hy=>?_) he hpl
 obtain ⟨vs,H1,I1,r,q⟩:=hy
 have I1:=I1.unwish
 refine ⟨I1.kIn,?_⟩
 have hl:us.length=ps.length:=by rw[←r.length];exact F.len _ _ _ _ q
 have hb2:=hbd s1 us I1.kIn (by rw[List.append_nil];exact hl)
 rw[List.append_nil]at hb2
 refine wpAny_call (codeAny_mono (F.run X.A X.stack s1 H1 ⟨us,[]⟩ us vs _ _ hr I1.env0 hb2 r q) fun rr s2 hq=>?_)
 cases rr with
 |error ev=>
  obtain ⟨a,c,H2,rfl,ho,hgn,un,hok,tr,qn⟩:=hq
  exact hE _ _ ⟨a,c,H1,s1,H2,rfl,I1,⟨ho,hgn,un,hok,tr⟩,qn⟩
 |ok fl=>
  cases fl with
  |ret u=>
   obtain ⟨v,H2,I2,r2,q2⟩:=I1.after hq
   exact jj I2 hN hi hx r2 (fun s3 I3=>wpAny_execs_nil ⟨rfl,_,H2,I3,q2⟩) hf
  |next=>exact False.elim hq
  |brk=>exact False.elim hq
  |cont=>exact False.elim hq
theorem S5{c:Expr}{a b:List Stmt}{pos:Pos}{tc:TT}{ta tb:TX}(hc:∀E':Value→Shared→Prop,PassesOwn (model X.prog X.w) X.A X.env E'→PT (X.wish E') c tc)(ha:PXs X a ta)(hb:PXs X b tb):
  PXs X [.If c a b pos] (fun nx ex σ H=>tc σ H fun d H1=>if d=true then ta nx ex σ H1 else tb nx ex σ H1):=by
 intro pins s σ H nx ex E' I hpo hE h
 refine wpAny_execs_cons (wpAny_If (thn (hc E' hpo pins s σ H _ (I.wish _) h) fun d s1 ⟨H1,I1,q1⟩=>?_))
 have I1:=I1.unwish
 have fin:∀f s2,NP X pins nx f s2→(match f with |.next=>wpAny (model X.prog X.w) X.A (execs [] X.env) (NP X pins nx) E' s2 |f=>NP X pins nx f s2):=by
  rintro f s2 ⟨rfl,q⟩
  exact wpAny_execs_nil ⟨rfl,q⟩
 cases d with
 |true=>exact thn (ha pins s1 σ H1 nx ex E' I1 hpo hE q1) fin
 |false=>exact thn (hb pins s1 σ H1 nx ex E' I1 hpo hE q1) fin
theorem S6{prog:Program}{w:World}{A:Around}{E:Value→Shared→Prop}{s:Shared}{env:Env}{K:PySem.W.Frag}{e C D:Addr}{t:Expr}{b₀:Stmt}{suite:List Stmt}{pos:Pos}{rest:List ExceptHandler}{Q:Flow→Shared→Prop}
  (hC:typeIn K (.ref C)=some (.type "type")) (hk:(clsIn K C).isSome=true) (hB:mroIn K C (.type "BaseException")=some true) (hm:mroIn K D (.ref C)=some true)
  (h:wpAny (model prog w) (A.mark (some (.ref e))) (eval t env) (fun c s₁=>c=.ref C∧K.In s₁.heap∧(∃oe,s₁.heap.get? e=some oe∧oe.cls=.ref D)∧
   wpAny (model prog w) (A.mark (some (.ref e))) (setFlight (.ref e) none) (fun _ s₂=>wpAny (model prog w) (A.mark (some (.ref e))) (execs (b₀::suite) env) Q (notedBy (model prog w) (A.mark (some (.ref e))) env (cameBackBy (model prog w) A env E)) s₂) (notedBy (model prog w) (A.mark (some (.ref e))) env (cameBackBy (model prog w) A env E)) s₁) (notedBy (model prog w) (A.mark (some (.ref e))) env (cameBackBy (model prog w) A env E)) s):
  wpAny (model prog w) A (handleBy (.ref e) env (.ExceptHandler (some t) none (b₀::suite) pos::rest)) Q E s:=by
 refine wpAny_handleBy_cons (codeAny_handlers_test (wpAny_mono h (fun c s₁ h₁=>?_) fun _ _ y=>y)) (by intro q;cases q)
 obtain ⟨rfl,O,⟨oe,he,hcls⟩,hkk⟩:=h₁
 obtain ⟨hh,g,d,tk,os⟩:=s₁
 exact yM O he hcls hC hk hB hm (codeAny_handlers_suite hkk)
theorem S7{prog:Program}{w:World}{A:Around}{E:Value→Shared→Prop}{s:Shared}{env:Env}{K:PySem.W.Frag}{e C D:Addr}{t:Expr}{n:Str}{b₀:Stmt}{suite:List Stmt}{pos:Pos}{rest:List ExceptHandler}{Q:Flow→Shared→Prop}
  (hC:typeIn K (.ref C)=some (.type "type")) (hk:(clsIn K C).isSome=true) (hB:mroIn K C (.type "BaseException")=some true) (hm:mroIn K D (.ref C)=some true)
  (h:wpAny (model prog w) (A.mark (some (.ref e))) (eval t env) (fun c s₁=>c=.ref C∧K.In s₁.heap∧(∃oe,s₁.heap.get? e=some oe∧oe.cls=.ref D)∧
   wpAny (model prog w) (A.mark (some (.ref e))) (setFlight (.ref e) none) (fun _ s₂=>
     wpAny (model prog w) (A.mark (some (.ref e))) (storeName env n (.ref e)) (fun _ s₃=>
      wpAny (model prog w) (A.mark (some (.ref e))) (execs (b₀::suite) env)
       (fun f s₄=>wpAny (model prog w) A (do bindName env n .none;unbindBehindTheSuite env n pos) (fun _ s₅=>Q f s₅) E s₄)
       (AsSuiteRaised (model prog w) (A.mark (some (.ref e))) env n pos (notedBy (model prog w) (A.mark (some (.ref e))) env (cameBackBy (model prog w) A env E))) s₃) (notedBy (model prog w) (A.mark (some (.ref e))) env (cameBackBy (model prog w) A env E)) s₂) (notedBy (model prog w) (A.mark (some (.ref e))) env (cameBackBy (model prog w) A env E)) s₁) (notedBy (model prog w) (A.mark (some (.ref e))) env (cameBackBy (model prog w) A env E)) s):
  wpAny (model prog w) A (handleBy (.ref e) env (.ExceptHandler (some t) (some n) (b₀::suite) pos::rest)) Q E s:=by
 refine wpAny_handleBy_cons (codeAny_handlers_test (wpAny_mono h (fun c s₁ h₁=>?_) fun _ _ y=>y)) (by intro q;cases q)
 obtain ⟨rfl,O,⟨oe,he,hcls⟩,hkk⟩:=h₁
 obtain ⟨hh,g,d,tk,os⟩:=s₁
 exact yM O he hcls hC hk hB hm (codeAny_handlers_suite_as hkk)
structure Cat(K:PySem.W.Frag)(C:Addr):Prop where
 t:typeIn K (.ref C)=some (.type "type")
 c:(clsIn K C).isSome=true
 b:mroIn K C (.type "BaseException")=some true
def ni (K:PySem.W.Frag) (C:Addr):Bool:=typeIn K (.ref C)==some (.type "type")&&(clsIn K C).isSome&&mroIn K C (.type "BaseException")==some true
theorem yN{K:PySem.W.Frag}{C:Addr}(h:ni K C=true):Cat K C:=by
 unfold ni at h
 rw[Bool.and_eq_true,Bool.and_eq_true,beq_iff_eq,beq_iff_eq]at h
 exact ⟨h.1.1,h.1.2,h.2⟩
theorem S8{C:Addr}{cx y:Str}{i:Nat}{b:Bool}{j:Nat}{p1 p2 p3 p4 p5 pos:Pos}{body:List Stmt}{t:TX}(hb:PXs X body t)(hst:X.stack=X.env::X.outer)
  (hcg:Gl X cx) (hcm:X.mg cx=some (.ref C)) (hcb:Cat X.K C) (hN:X.N.Nodup) (hi:X.N[i]?=some y) (hx:Loc X.env.scope y) (hf:X.fn y=true∨X.env.scope.names.lookup y=some .local)
  (hs2:swapsWith (.Constant (.bool b) j p3) (some (.Name y p2)) p4.line X.env=pure false:=by rfl) (hdc:(cx==("__debug__":Str))=false:=by decide):
  PS X (.Try body [.ExceptHandler (some (.Name cx p1)) none [.Assign [.Name y p2] (.Constant (.bool b) j p3) p4] p5] [] [] pos)
   (fun D σ H=>t D.nx (fun c σ' H2=>∃d,c=.ref d∧mroIn X.K d (.ref C)=some true∧D.nx (σ'.set i (some (.bl b))) H2) σ H):=by
 intro pins s σ H D I h
 refine wpAny_Try_except (wpAny_mono (hb pins s σ H _ _ _ I PassesOwn.looking (fun e s1 q=>?_) h) (fun f s1 q=>?_) fun _ _ q=>q)
 ·obtain ⟨a,c,H1,s0,H2,rfl,I1,K,d,rfl,hm,qn⟩:=q
  refine K.note I1 hst fun h3 K3=>S6 (K:=X.K) (C:=C) (D:=d) hcb.t hcb.c hcb.b hm ?_
  have J3:=K3.inv I1
  have hcl:∃oe,h3.get? a=some oe∧oe.cls=.ref d:=by
   obtain ⟨oe,_,_,_,_,t1,t2,_⟩:=K3.tr
   exact ⟨oe,t1,t2⟩
  refine fY (X:=X.marked a X.xe) (J3.marked a X.xe) hcg hcm ⟨rfl,J3.kIn,hcl,?_⟩ hdc
  refine K3.flight I1 fun h4 K4=>?_
  have J4:=K4.inv I1
  exact wpAny_mono (wW (mU (X:=X.marked a _) hN hi hx wQ hs2 hf) pins _ σ H2 D (J4.marked a _) qn) (fun f s5 z=>z.unmarked J4.ok) fun _ _ z=>z
 ·obtain ⟨rfl,σ',H',I',q'⟩:=q
  exact wpAny_execs_nil ⟨σ',H',I',q'⟩
theorem S9{M:Model}{A:Around}{E:Value→Shared→Prop}{pins:List (Addr×Obj)}{σ:St}{H:Hp}{s:Shared}{i:Nat}{x:Str}{pos:Pos}{Q:Unit→Shared→Prop}(I:Inv X pins σ H s)(hN:X.N.Nodup)(hi:X.N[i]?=some x)(hk:X.env.kindOf x=some .local)
  (h:∀s',Inv X pins (σ.set i none) H s'→Q () s'):wpAny M A (do bindName X.env x .none;unbindBehindTheSuite X.env x pos) Q E s:=by
 obtain ⟨m,hn,hl⟩:=id I.loc
 have hcls:(X.env.scope.kind==.class||(X.env.scope.kind==.module&&X.env.locals != X.env.globals))=false:=by rw[I.ok.kind];rfl
 have hiσ:i < σ.length:=by rw[I.len];exact (List.getElem?_eq_some_iff.mp hi).1
 have cne:=I.cne
 have tracked:∀{a:Addr}{h':Heap},(∃o,s.heap.get? a=some o∧H a=none)→Heap.SameBut a s.heap h'→HOk X.prog X.w H h':=fun {a h'} ha hs b ob e=>by
  obtain ⟨_,_,hfree⟩:=ha
  refine (I.hok b ob e).stay (fun c w' hc q=>(hs.2 c ?_).trans q) (fun _ q=>q) fun _ _ q=>q
  rintro rfl
  rcases hc with rfl |hc
  ·rw[hfree]at e;cases e
  ·rw[hfree]at hc;cases hc
 refine wpAny_nameGoes_keeps hk hn hcls fun h' v hn' hs=>?_
 obtain ⟨oL,_,_,hoL,_⟩:=id hn
 refine h _ ⟨I.ok,I.os,I.bare,⟨fun b o e n hb hx=>?_,fun b o e n hb hx=>?_,I.base.free,fun b o e hx=>?_,I.base.tups,I.base.frzs,I.base.tbls⟩,⟨_,hn',fun j y v' e1 e2 e3=>?_⟩,fun y c e=>?_,I.free,I.freeC,fun p hp=>?_,tracked ⟨oL,hoL,I.free⟩ hs,by simpa using I.len⟩
 ·exact (hs.2 b (Nat.ne_of_lt (Nat.lt_of_lt_of_le (Heap.lt_size e) I.ok.above))).trans (I.base.keep b o e n hb hx)
 ·obtain ⟨sl,e1⟩:=I.base.slot b o e n hb hx
  exact ⟨sl,(hs.2 b (Nat.ne_of_lt (Nat.lt_of_lt_of_le (Heap.lt_size e) I.ok.above))).trans e1⟩
 ·obtain ⟨o',e1⟩:=I.base.there b o e hx
  exact ⟨o',(hs.2 b (Nat.ne_of_lt (Nat.lt_of_lt_of_le (Heap.lt_size e) I.ok.above))).trans e1⟩
 ·by_cases hj:j=i
  ·subst hj
   rw[List.getElem?_set_self hiσ]at e2
   cases e2
  ·rw[List.getElem?_set_ne (Ne.symm hj)]at e2
   obtain ⟨u',r',q⟩:=hl j y v' e1 e2 e3
   refine ⟨u',r',?_⟩
   rcases q with ⟨k,e⟩ |⟨k,c,e,z⟩
   ·refine .inl ⟨k,?_⟩
    have:y≠x:=fun e=>hj (rM hN e1 (e ▸ hi))
    simp[this,e]
   ·exact .inr ⟨k,c,e,z.sameBut hs (cne y c e)⟩
 ·obtain ⟨w',z⟩:=I.cell y c e
  exact ⟨w',z.sameBut hs (cne y c e)⟩
 ·obtain ⟨e,n,ne,nf,d⟩:=I.pin p hp
  exact ⟨(hs.2 p.1 ne).trans e,n,ne,nf,d⟩
theorem Tc{C:Addr}{cx y n:Str}{i jn:Nat}{p1 p2 p3 p4 p5 pos:Pos}{body:List Stmt}{t:TX}(hb:PXs X body t)(hst:X.stack=X.env::X.outer)(hex:X.ex=[])
  (hcg:Gl X cx) (hcm:X.mg cx=some (.ref C)) (hcb:Cat X.K C) (hN:X.N.Nodup) (hi:X.N[i]?=some y) (hx:Loc X.env.scope y) (hf:X.fn y=true∨X.env.scope.names.lookup y=some .local)
  (hj:X.N[jn]?=some n) (hnk:X.env.kindOf n=some .local) (hnl:X.env.scope.names.lookup n=some .local) (hnd:(n==("__debug__":Str))=false) (hnc:(n==("__classdict__":Str))=false)
  (hs2:swapsWith (.Name n p3) (some (.Name y p2)) p4.line X.env=pure false) (hdc:(cx==("__debug__":Str))=false:=by decide):
  PS X (.Try body [.ExceptHandler (some (.Name cx p1)) (some n) [.Assign [.Name y p2] (.Name n p3) p4] p5] [] [] pos)
   (fun D σ H=>t D.nx (fun c σ' H2=>∃d,c=.ref d∧mroIn X.K d (.ref C)=some true∧∀a o,H2 a=none→o.cls=.ref d→D.nx (((σ'.set jn (some (.ref a))).set i (some (.ref a))).set jn none) (upd H2 a (.frz o (.own a)))) σ H):=by
 intro pins s σ H D I h
 refine wpAny_Try_except (wpAny_mono (hb pins s σ H _ _ _ I PassesOwn.looking (fun e s1 q=>?_) h) (fun f s1 q=>?_) fun _ _ q=>q)
 ·obtain ⟨a,c,H1,s0,H2,rfl,I1,K,d,rfl,hm,qn⟩:=q
  refine K.note I1 hst fun h3 K3=>S7 (K:=X.K) (C:=C) (D:=d) hcb.t hcb.c hcb.b hm ?_
  have J3:=K3.inv I1
  have hcl:∃oe,h3.get? a=some oe∧oe.cls=.ref d:=by
   obtain ⟨oe,_,_,_,_,t1,t2,_⟩:=K3.tr
   exact ⟨oe,t1,t2⟩
  refine fY (X:=X.marked a X.xe) (J3.marked a X.xe) hcg hcm ⟨rfl,J3.kIn,hcl,?_⟩ hdc
  refine K3.flight I1 fun h4 K4=>?_
  have J4:=K4.inv I1
  obtain ⟨oe,vs,T,oT,ts,t1,t2,t3,t4,t6,t7,t8,t9,n1,n2,n3,n4⟩:=K4.tr
  have n0:X.s₀.heap.get? a=none:=by
   cases e:X.s₀.heap.get? a with
   |none=>rfl
   |some o=>
    obtain ⟨o',e'⟩:=I1.base.there a o e (by rw[hex];simp)
    rw[n1]at e';cases e'
  have J5:=J4.tell n0 n3 t1 t3 (fun p hp e=>by
   obtain ⟨e1,_⟩:=I1.pin p hp
   rw[e,n1]at e1;cases e1)
  have q5:=qn a oe n3 t2
  refine jj (X:=X.marked a X.xe) (J5.marked a X.xe) hN hj (.inl hnl) (v:=.ref a) rfl (fun s6 J6=>?_) (.inr hnl)
  have J6':Inv X pins (σ.set jn (some (.ref a))) (upd H2 a (.frz oe (.own a))) s6:=J6.unmarked J4.ok
  have hl6:jn < σ.length:=by rw[I1.len];exact (List.getElem?_eq_some_iff.mp hj).1
  refine wpAny_mono (wW (mU (X:=X.marked a _) hN hi hx (wO (i:=jn) hj (.inl hnl) hnd hnc) hs2 hf) pins s6 _ _ { nx:=fun σ' H'=>D.nx (σ'.set jn none) H',rt:=fun _ _=>False,bk:=fun _ _=>False,ct:=fun _ _=>False } (J6'.marked a _) ⟨.ref a,List.getElem?_set_self hl6,q5⟩) (fun f s7 z=>?_) fun _ _ z=>z
  have z':=z.unmarked (X:=X) J4.ok
  cases f with
  |next=>
   obtain ⟨σ7,H7,I7,q7⟩:=z'
   exact S9 I7 hN hj hnk fun s8 I8=>⟨_,H7,I8,q7⟩
  |brk=>obtain ⟨_,_,_,q⟩:=z';exact q.elim
  |cont=>obtain ⟨_,_,_,q⟩:=z';exact q.elim
  |ret u=>obtain ⟨_,_,_,_,_,q⟩:=z';exact q.elim
 ·obtain ⟨rfl,σ',H',I',q'⟩:=q
  exact wpAny_execs_nil ⟨σ',H',I',q'⟩
end
end L2
namespace L2
open PySem PySem.SeqAt PySem.Spec PyProof.Rows
section
variable {X:Cx}
theorem sH:∀{bs:List Bool}{us:List Value},Vals (bs.map V.bl) us→us=bs.map Value.bool
 |[],us,r=>by cases r;rfl
 |b::bs,us,r=>by
  cases r with
  |cons r1 r2=>
   have e:_=Value.bool b:=r1
   rw[e,sH r2];rfl
theorem yO(k:Bool){bs:List Bool}:∀y,y∈(bs.map Value.bool)→∀(A:Around)(s:Shared),EqAt A s y (.bool k) (isBoolOf k y):=by
 intro y hy A s
 obtain ⟨b,_,rfl⟩:=List.mem_map.mp hy
 exact EqAt.bool_bool b k
theorem Td(k:Bool)(bs:List Bool):(bs.map Value.bool).countP (isBoolOf k)=bs.count k:=by
 induction bs with
 |nil=>rfl
 |cons b bs ih=>
  rw[List.map_cons,List.countP_cons,ih,List.count_cons]
  rfl
def Te(K:PySem.W.Frag):V→List V→Hp→VK→Prop:=fun x vs H Q=>∃(p:Addr)(bs:List Bool),x=.ref p∧vs=[.bl true]∧SqL K H p (bs.map V.bl)∧Q (.int (bs.count true:Nat)) H
theorem Tf:MtR X "list.count" (Te X.K):=by
 intro pins s σ H x xs v us Q I rx rs h
 obtain ⟨p,bs,rfl,rfl,hq,q⟩:=h
 cases rx
 obtain ⟨u,rfl,ru⟩:=vals1 rs
 cases ru
 obtain ⟨its,rv,⟨o,n,ho,hc,hd,hdd⟩,hz⟩:=I.list hq
 obtain ⟨cls,dd,data,sl⟩:=o
 simp only at hc hd hdd
 subst hc hd hdd
 have e:=sH rv
 subst e
 refine call_meets PySem.F.slot_list_count ⟨_,ho,rfl⟩ PySem.F.entry_list_count (PySem.F.args_list_count_2 _ _) (list_countAt p _ n _ sl (.bool true) (isBoolOf true)) ⟨ho,fun y hy=>yO true y (by simpa using hy) _ _,?_⟩
 refine ⟨.int _,H,I.tok _,⟨_,rfl⟩,?_⟩
 rw[show ((bs.map Value.bool).toArray).toList=bs.map Value.bool from rfl,Td]
 exact q
def Th(K:PySem.W.Frag):V→List V→Hp→VK→Prop:=fun x vs H Q=>∃(p:Addr)(bs:List Bool),x=.ref p∧vs=[.bl true]∧SqL K H p (bs.map V.bl)∧true∈bs∧Q (.int (bs.idxOf true:Nat)) H
theorem yP(bs:List Bool)(j:Nat)(h:j < (bs.map Value.bool).length)(h':j < bs.length):isBoolOf true (bs.map Value.bool)[j]=(bs[j]==true):=by
 rw[List.getElem_map];rfl
theorem Ti:MtR X "list.index" (Th X.K):=by
 intro pins s σ H x xs v us Q I rx rs h
 obtain ⟨p,bs,rfl,rfl,hq,hin,q⟩:=h
 cases rx
 obtain ⟨u,rfl,ru⟩:=vals1 rs
 cases ru
 obtain ⟨its,rv,⟨o,n,ho,hc,hd,hdd⟩,hz⟩:=I.list hq
 obtain ⟨cls,dd,data,sl⟩:=o
 simp only at hc hd hdd
 subst hc hd hdd
 have e:=sH rv
 subst e
 have hj:bs.idxOf true < bs.length:=List.idxOf_lt_length_iff.mpr hin
 have hz':bs.length≤sizeLine:=by rw[List.length_map]at hz;exact hz
 have hs:sizeLine < 2 ^ 63 - 1:=by decide
 refine call_meets PySem.F.slot_list_index ⟨_,ho,rfl⟩ PySem.F.entry_list_index (PySem.F.args_list_index_2 _ _) (list_indexAt p _ n _ sl (.bool true) (isBoolOf true) (bs.idxOf true) (by simpa using hj) (by omega) ?_ ?_) ⟨ho,fun y hy=>yO true y (by simpa using hy) _ _,?_⟩
 ·have h3:bs.idxOf true < (bs.map Value.bool).length:=by rw[List.length_map];exact hj
  show isBoolOf true ((bs.map Value.bool)[bs.idxOf true]'h3)=true
  rw[yP bs _ h3 hj]
  simpa using List.getElem_idxOf hj
 ·intro j hjs hlt
  have h2:j < bs.length:=by omega
  have h3:j < (bs.map Value.bool).length:=by rw[List.length_map];exact h2
  show isBoolOf true ((bs.map Value.bool)[j]'h3)=false
  rw[yP bs j h3 h2]
  have h4:j < bs.findIdx (·==true):=hlt
  simpa using List.not_of_lt_findIdx h4
 ·exact ⟨.int _,H,I.tok _,⟨_,rfl⟩,q⟩
end
end L2
namespace L2
open PySem PySem.Spec PyProof.Rows
section
variable {X:Cx}
theorem Tj:OpR X (binaryOp .FloorDiv) (rI (fun _ j=>0 < j∧j < 1152921504606846976) fun i j=>.int (i / j)):=opI fun i j _ _ _ _ _ hc q=>by
 have h1:(0:Int) < j:=hc.1
 have h2:j < 1152921504606846976:=hc.2
 refine floordiv_int (by omega) (by rw[Int.fdiv_eq_ediv_of_nonneg i (by omega)];exact q) (.inl (PyProof.noPylong_of_log2 ?_))
 have:j.natAbs.log2 < 60:=(Nat.log2_lt (by omega)).mpr (by show j.natAbs < 1152921504606846976;omega)
 omega
def sI(m:Nat):Str:=Str.ofString (toString (m:Int))
theorem Tn{m:Nat}(h:m < 100):(m:Int).natAbs.log2 < 1920:=by
 have:(m:Int).natAbs=m:=Int.natAbs_natCast m
 rw[this]
 exact Nat.lt_of_le_of_lt (Nat.log2_le_self m) (by omega)
theorem Tp:bM X (.type "str") (fun xs H Q=>∃m:Nat,xs=[.int m]∧m < 100∧Q (.str (sI m)) H):=by
 intro pins s σ H xs us Q I r h
 obtain ⟨m,rfl,hm,q⟩:=h
 obtain ⟨u,rfl,ru⟩:=vals1 r
 obtain ⟨t,rfl⟩:=ru
 exact PySem.P.str_of_int (Tn hm) ⟨.str _,H,I.tok _,⟨_,rfl⟩,q⟩
end
end L2
namespace HT
open PySem PySem.Spec PyProof.Rows Builtin
theorem Tq:fillsNumberSlot (.type "tuple") "mul"=pure false:=
 PySem.fillsNumberSlot_seq (id:="tuple.__mul__") (r:=some (.builtin "tuple.__rmul__")) PySem.F.slot_tuple_mul.lookup (by decide +kernel) PySem.F.slot_tuple_rmul.lookup (by decide +kernel)
theorem Tt:seqRepeat? (.type "tuple")=pure (some (.builtin "tuple.__mul__")):=by
 unfold seqRepeat?
 rw[PySem.seqSlot_of (T:="tuple") (name:="__mul__") (id:="tuple.__mul__") PySem.F.slot_tuple_mul.lookup (by decide +kernel),PySem.seqSlot_of (T:="tuple") (name:="__rmul__") (id:="tuple.__rmul__") PySem.F.slot_tuple_rmul.lookup (by decide +kernel)]
 rfl
theorem Tu(a:Int)(t:Tok)(l:Addr)(items:Array Value)(n:Nat)(dd:Option Addr)(sl:Array (Option Value)):
  Meets (Builtin.«int.__rmul__» ⟨[.int a t,.ref l],[]⟩) (fun _ R s=>s.heap.get? l=some { cls:=.type "tuple",dict:=dd,data:=.seq items n,slots:=sl }∧R (.ok (.ret Value.notImplemented)) s):=
 .of_wp fun prog w A R s h=>by obtain ⟨hp,g,d,tk,os⟩:=s;obtain ⟨hl,h⟩:=h;wp_walk;exact ⟨_,rfl,h⟩
theorem Tv(l:Addr)(items:Array Value)(n:Nat)(dd:Option Addr)(sl:Array (Option Value))(k:Int)(t:Tok)(h2:2≤k)(hk:k≤1000)(hne:items.isEmpty=false)(hz:items.size * k.toNat≤sizeLine)(hz2:(List.foldl (fun x1 x2=>x1++x2) #[] (List.replicate k.toNat items)).size≤sizeLine):
  Meets (Builtin.«tuple.__mul__» ⟨[.ref l,.int k t],[]⟩) (fun _ R s=>s.heap.get? l=some { cls:=.type "tuple",dict:=dd,data:=.seq items n,slots:=sl }∧
   R (.ok (.ret (.ref s.heap.objs.size))) { s with heap:=s.heap.push { cls:=.type "tuple",data:=.seq ((List.replicate k.toNat items).foldl (· ++ ·) #[]) } }):=
 .of_wp fun prog w A R s h=>by
  obtain ⟨hp,g,d,tk,os⟩:=s
  obtain ⟨hl,h⟩:=h
  have a1:(decide (k < -(2 ^ 63))||decide (k≥2 ^ 63))=false:=by rw[decide_eq_false (by omega),decide_eq_false (by omega)];rfl
  have a2:(items.isEmpty||k==1)=false:=by rw[hne,Bool.false_or,beq_eq_false_iff_ne];omega
  have a3:(decide (k≤0)||items.isEmpty)=false:=by rw[decide_eq_false (by omega),hne];rfl
  have hs:(items.size:Int) * k=((items.size * k.toNat:Nat):Int):=by rw[Int.natCast_mul,Int.toNat_of_nonneg (by omega)]
  have hsl:sizeLine≤1152921504606846975:=by decide
  have a4:¬((items.size:Int) * k > (2 ^ 63 - 1) / 8):=by rw[hs];omega
  have a5:¬(Tuple.tupleTooMany ((items.size:Int) * k)=true):=by
   unfold Tuple.tupleTooMany
   rw[decide_eq_true_iff,hs]
   omega
  wp_walk
  rw[if_neg (by rw[a1];exact Bool.false_ne_true)]
  wp_walk
  rw[if_neg (by rw[a2];exact Bool.false_ne_true)]
  dsimp only
  rw[if_neg (by rw[a3];exact Bool.false_ne_true),if_neg a4,if_neg a5]
  unfold Tuple.tupleExact
  wp_walk
  exact ⟨_,rfl,h⟩
end HT
namespace L2
open PySem PySem.Spec PyProof.Rows
section
variable {X:Cx}
def Tw(K:PySem.W.Frag):R2:=fun x y H Q=>∃(l:Addr)(k:Int)(xs:List V),x=.ref l∧y=.int k∧SqT K H l xs∧xs≠[]∧2≤k∧k≤1000∧xs.length * k.toNat≤sizeLine∧∀p,H p=none→Q (.ref p) (upd H p (.tup (List.replicate k.toNat xs).flatten))
theorem Tz:OpR X (binaryOp .Mult) (Tw X.K):=by
 intro pins s σ H x y v u Q I rx ry h
 obtain ⟨l,k,xs,rfl,rfl,hT,hne,h2,hk,hz,q⟩:=h
 cases rx
 obtain ⟨t,rfl⟩:=ry
 obtain ⟨its,r,pt,_⟩:=I.tuple hT
 obtain ⟨⟨cls,dd,data,sl⟩,ho,hc,n,hd⟩:=id pt
 simp only at hc hd
 subst hc hd
 have hl:=r.length
 have hz':its.toArray.size * k.toNat≤sizeLine:=by rw[List.size_toArray,←hl];exact hz
 have he:its.toArray.isEmpty=false:=by
  cases its with
  |nil=>exact absurd (List.length_eq_zero_iff.mp hl) hne
  |cons _ _=>rfl
 have hnew:List.foldl (fun x1 x2=>x1++x2) #[] (List.replicate k.toNat its.toArray)=(List.replicate k.toNat its).flatten.toArray:=by
  have:=foldl_rep its k.toNat []
  rw[List.nil_append]at this
  exact this
 refine wpAny_binaryOp_repeat_ref (T:="tuple") (U:="int") (by decide) ⟨_,ho,rfl⟩ (fun s'=>typeIs_int s' k t) HT.Tq F.fills_int_mul F.slot_int_rmul HT.Tt F.slot_int_index.lookup
  (call_meets F.slot_int_rmul (typeIs_int s k t) F.entry_int_rmul (F.args_int_rmul_2 _ _) (HT.Tu k t l its.toArray n dd sl)
   ⟨ho,rfl,⟨_,ho,rfl⟩,call_meets PySem.F.slot_tuple_mul ⟨_,ho,rfl⟩ PySem.F.entry_tuple_mul (PySem.F.args_tuple_mul_2 _ _) (HT.Tv l its.toArray n dd sl k t h2 hk he hz' (by rw[hnew,List.size_toArray,len_rep,Nat.mul_comm,←hl];exact hz)) ⟨ho,?_⟩⟩)
 rw[hnew]
 refine ⟨.ref s.heap.objs.size,_,I.laid (t':=s.toks) (o:=.tup (List.replicate k.toNat xs).flatten) (fun b ob q=>Heap.get?_push_of_some _ q) (Nat.le_refl _) ?_,rfl,q _ (I.hok.fresh (Nat.le_refl _))⟩
 exact ⟨by rw[len_rep,Nat.mul_comm];exact hz,_,r.rep k.toNat,IsTup.new _ _⟩
end
end L2
namespace HT
open PySem PySem.Spec PyProof.Rows Builtin
theorem TF(a:Int)(t:Tok)(l:Addr)(items:Array Value)(n:Nat)(dd:Option Addr)(sl:Array (Option Value)):
  Meets (Builtin.«int.__rmul__» ⟨[.int a t,.ref l],[]⟩) (fun _ R s=>s.heap.get? l=some { cls:=.type "list",dict:=dd,data:=.seq items n,slots:=sl }∧R (.ok (.ret Value.notImplemented)) s):=
 .of_wp fun prog w A R s h=>by obtain ⟨hp,g,d,tk,os⟩:=s;obtain ⟨hl,h⟩:=h;wp_walk;exact ⟨_,rfl,h⟩
theorem TQ(l:Addr)(items:Array Value)(n:Nat)(dd:Option Addr)(sl:Array (Option Value))(x:Int)(u:Tok)(hc0:¬(!Builtin.List.listFitsIndex x)=true)(hc1:¬items.size * x.toNat > (2 ^ 63 - 1) / 8)(hc2:¬Builtin.List.listTooLong (items.size * x.toNat)=true):
  Meets (Builtin.«list.__mul__» ⟨[.ref l,.int x u],[]⟩) (fun _ R s=>s.heap.get? l=some { cls:=.type "list",dict:=dd,data:=.seq items n,slots:=sl }∧R (.ok (.ret (Value.ref s.heap.objs.size))) { s with heap:=s.heap.push { cls:=Value.type "list",data:=Data.seq (List.foldl (fun x1 x2=>x1++x2) #[] (List.replicate (if items.isEmpty=true then 0 else x.toNat) items)) },toks:=s.toks }):=
 .of_wp fun prog w A R s h=>by
  obtain ⟨hp,g,d,tk,os⟩:=s;obtain ⟨hl,h⟩:=h
  have hsz:=AutoListH.joined_fits hc2
  wp_walk;refine wpAny_ite_false (decide_eq_false (Nat.not_lt.mpr hsz)) ?_;wp_walk;exact ⟨_,rfl,h⟩
end HT
namespace L2
open PySem PySem.Spec PyProof.Rows
section
variable {X:Cx}
def TV(K:PySem.W.Frag):R2:=fun x y H Q=>∃(l:Addr)(k:Int)(xs:List V),x=.ref l∧y=.int k∧SqL K H l xs∧0≤k∧k≤1000∧xs.length * k.toNat≤sizeLine∧∀p,H p=none→Q (.ref p) (upd H p (.lst (List.replicate k.toNat xs).flatten))
theorem TY:OpR X (binaryOp .Mult) (TV X.K):=by
 intro pins s σ H x y v u Q I rx ry h
 obtain ⟨l,k,xs,rfl,rfl,hH,h1,h2,hz,q⟩:=h
 cases rx
 obtain ⟨t,rfl⟩:=ry
 obtain ⟨its,r,⟨⟨cls,dd,data,sl⟩,n,e,c1,c2,c3⟩,_⟩:=I.list hH
 simp only at c1 c2 c3
 have hl:=r.length
 have hlen:its.toArray.size * k.toNat≤sizeLine:=by rw[List.size_toArray,←hl];exact hz
 have hcap:¬its.toArray.size * k.toNat > (2 ^ 63 - 1) / 8:=by
  have:(sizeLine:Nat)≤(2 ^ 63 - 1) / 8:=by decide
  omega
 have hfit:¬(!Builtin.List.listFitsIndex k)=true:=by
  rw[fitsIndex_both (by omega) (by omega)]
  exact Bool.false_ne_true
 have hlong:¬Builtin.List.listTooLong (its.toArray.size * k.toNat)=true:=by
  rw[xY hlen]
  exact Bool.false_ne_true
 have hnew:List.foldl (fun x1 x2=>x1++x2) #[] (List.replicate (if its.toArray.isEmpty=true then 0 else k.toNat) its.toArray)=(List.replicate k.toNat its).flatten.toArray:=by
  have f0:∀m:Nat,List.foldl (fun x1 x2=>x1++x2) #[] (List.replicate m its.toArray)=(List.replicate m its).flatten.toArray:=fun m=>by
   have:=foldl_rep its m []
   rw[List.nil_append]at this
   exact this
  rw[f0]
  cases its with
  |nil=>simp
  |cons a r'=>rw[if_neg (by simp)]
 subst c1 c3
 refine wpAny_binaryOp_repeat_ref (T:="list") (U:="int") (by decide) ⟨_,e,rfl⟩ (fun s'=>typeIs_int s' k t) noFill_list_mul F.fills_int_mul F.slot_int_rmul repeat_list F.slot_int_index.lookup
  (call_meets F.slot_int_rmul (typeIs_int s k t) F.entry_int_rmul (F.args_int_rmul_2 _ _) (HT.TF k t l its.toArray n dd sl)
   ⟨e,rfl,⟨_,e,rfl⟩,call_meets F.slot_list_mul ⟨_,e,rfl⟩ F.entry_list_mul (F.args_list_mul_2 _ _) (HT.TQ l its.toArray n dd sl k t hfit hcap hlong) ⟨e,?_⟩⟩)
 rw[hnew]
 exact ⟨.ref _,_,I.lnew (t':=s.toks) (r.rep k.toNat) (by rw[len_rep,Nat.mul_comm];exact hz),rfl,q _ I.fresh⟩
end
end L2
namespace RF
open PySem PySem.Spec PyProof.Rows L2
inductive D where
 |non |bl (b:Bool) |int (i:Int) |str (l:List Nat) |tup (xs:List D) |lst (xs:List D) |ref (a:Addr) |scr (ns:List Int) |exn (C:String)
 deriving Inhabited
inductive DO where
 |lst (xs:List D)
 deriving Inhabited
abbrev DH:=Addr→Option DO
def aQ(G:DH)(a:Addr)(o:DO):DH:=fun b=>if b=a then some o else G b
def gf(G:DH)(a:Addr):DH:=fun b=>if b=a then none else G b
theorem bA{G:DH}{a:Addr}{o:DO}:aQ G a o a=some o:=if_pos rfl
theorem cF{G:DH}{a b:Addr}{o:DO}(h:b≠a):aQ G a o b=G b:=if_neg h
theorem sJ{G:DH}{a:Addr}:gf G a a=none:=if_pos rfl
theorem sO{G:DH}{a b:Addr}(h:b≠a):gf G a b=G b:=if_neg h
theorem T3{G:DH}{a:Addr}{o u:DO}:aQ (aQ G a o) a u=aQ G a u:=by
 funext b;unfold aQ;split <;> rfl
theorem yQ{G:DH}{a:Addr}{o:DO}(h:G a=none):gf (aQ G a o) a=G:=by
 funext b;unfold aQ gf;split
 ·rename_i e;rw[e,h]
 ·rename_i e;exact if_neg e
theorem sS{G:DH}{a b:Addr}{o:DO}(h:G a=some o)(h':G b=none):a≠b:=by
 intro e;subst e;rw[h]at h';cases h'
abbrev sz:Nat:=1000000
abbrev FZ:=Addr→Prop
def FzL(H:Hp)(F:FZ)(a:Addr)(vs:List V):Prop:=F a∧H a=some (.lst vs)
theorem FzL.sq{K:PySem.W.Frag}{H:Hp}{F:FZ}{a:Addr}{vs:List V}(h:FzL H F a vs):SqL K H a vs:=.inl (.inl h.2)
structure TpT(K:PySem.W.Frag)(H:Hp)(a:Addr)(vs:List V):Prop where
 it:H a=some (.tup vs)
theorem TpT.sq{K:PySem.W.Frag}{H:Hp}{a:Addr}{vs:List V}(h:TpT K H a vs):SqT K H a vs:=.inl (.inl h.it)
def ScL(K:PySem.W.Frag)(H:Hp)(a:Addr)(vs:List V):Prop:=
 (∃o,H a=some (.frz o (.lst vs)))∨
  ∃(o:Obj) (its:Array Value) (n:Nat),K.lookup a=some o∧o.cls=.type "list"∧o.dict=none∧o.data=.seq its n∧its.size≤sizeLine∧Vals vs its.toList
theorem ScL.sq{K:PySem.W.Frag}{H:Hp}{a:Addr}{vs:List V}(h:ScL K H a vs):SqL K H a vs:=by
 rcases h with ⟨o,h⟩ |h
 ·exact .inl (.inr ⟨o,h⟩)
 ·exact .inr h
mutual
def Rep(K:PySem.W.Frag)(H:Hp)(F:FZ):D→V→Prop
 |.non,v=>v=.non
 |.bl b,v=>v=.bl b
 |.int i,v=>v=.int i
 |.str l,v=>v=.str (tx l)∧l.length≤sz
 |.tup ds,v=>∃a vs,v=.ref a∧TpT K H a vs∧Reps K H F ds vs
 |.lst ds,v=>∃a vs,v=.ref a∧FzL H F a vs∧Reps K H F ds vs
 |.ref a,v=>v=.ref a
 |.scr ns,v=>∃a,v=.ref a∧ScL K H a (ns.map V.int)
 |.exn C,v=>∃a c,v=.ref a∧XO H a c∧PySem.W.nsIn K mainGlobals (Str.ofString C)=some (some (.ref c))
def Reps(K:PySem.W.Frag)(H:Hp)(F:FZ):List D→List V→Prop
 |[],vs=>vs=[]
 |d::ds,vs=>∃v r,vs=v::r∧Rep K H F d v∧Reps K H F ds r
end
structure Ext(H:Hp)(F:FZ)(H':Hp)(F':FZ):Prop where
 sub:∀a,F a→F' a
 keep:∀a,F a→H' a=H a
 tups:∀a xs,H a=some (.tup xs)→H' a=some (.tup xs)
 frzs:∀a o u,H a=some (.frz o u)→H' a=some (.frz o u)
theorem Ext.refl(H:Hp)(F:FZ):Ext H F H F:=⟨fun _ h=>h,fun _ _=>rfl,fun _ _ h=>h,fun _ _ _ h=>h⟩
theorem Ext.trans{H H1 H2:Hp}{F F1 F2:FZ}(a:Ext H F H1 F1)(b:Ext H1 F1 H2 F2):Ext H F H2 F2:=
 ⟨fun c h=>b.sub c (a.sub c h),fun c h=>(b.keep c (a.sub c h)).trans (a.keep c h),fun c xs h=>b.tups c xs (a.tups c xs h),fun c o u h=>b.frzs c o u (a.frzs c o u h)⟩
section
variable {K:PySem.W.Frag} {H H':Hp} {F F':FZ}
theorem TpT.ext{a:Addr}{vs:List V}(x:Ext H F H' F')(h:TpT K H a vs):TpT K H' a vs:=⟨x.tups _ _ h.it⟩
theorem FzL.ext{a:Addr}{vs:List V}(x:Ext H F H' F')(h:FzL H F a vs):FzL H' F' a vs:=⟨x.sub _ h.1,(x.keep _ h.1).trans h.2⟩
theorem ScL.ext{a:Addr}{vs:List V}(x:Ext H F H' F')(h:ScL K H a vs):ScL K H' a vs:=by
 rcases h with ⟨o,h⟩ |h
 ·exact .inl ⟨o,x.frzs _ _ _ h⟩
 ·exact .inr h
mutual
theorem Rep.ext(x:Ext H F H' F'):∀{d:D}{v:V},Rep K H F d v→Rep K H' F' d v
 |.non,_,h=>h
 |.bl _,_,h=>h
 |.int _,_,h=>h
 |.str _,_,h=>h
 |.tup _,_,⟨a,vs,e,q,r⟩=>⟨a,vs,e,TpT.ext x q,Reps.ext x r⟩
 |.lst _,_,⟨a,vs,e,q,r⟩=>⟨a,vs,e,FzL.ext x q,Reps.ext x r⟩
 |.ref _,_,h=>h
 |.scr _,_,⟨a,e,q⟩=>⟨a,e,ScL.ext x q⟩
 |.exn _,_,⟨a,c,e,⟨o,y,q,hc⟩,n⟩=>⟨a,c,e,⟨o,y,x.frzs _ _ _ q,hc⟩,n⟩
theorem Reps.ext(x:Ext H F H' F'):∀{ds:List D}{vs:List V},Reps K H F ds vs→Reps K H' F' ds vs
 |[],_,h=>h
 |_::_,_,⟨v,r,e,h,t⟩=>⟨v,r,e,Rep.ext x h,Reps.ext x t⟩
end
theorem Reps.nil:Reps K H F [] []:=rfl
theorem Reps.cons{d:D}{v:V}{ds:List D}{vs:List V}(h:Rep K H F d v)(t:Reps K H F ds vs):Reps K H F (d::ds) (v::vs):=⟨v,vs,rfl,h,t⟩
theorem Reps.length:∀{ds:List D}{vs:List V},Reps K H F ds vs→ds.length=vs.length
 |[],_,h=>by cases h;rfl
 |_::_,_,⟨v,r,e,_,t⟩=>by subst e;simp[Reps.length t]
theorem Reps.append:∀{ds es:List D}{vs us:List V},Reps K H F ds vs→Reps K H F es us→Reps K H F (ds++es) (vs++us)
 |[],_,_,_,h,t=>by cases h;exact t
 |_::_,_,_,_,⟨v,r,e,h,t⟩,t'=>by subst e;exact ⟨v,_,rfl,h,Reps.append t t'⟩
theorem Reps.get:∀{ds:List D}{vs:List V}{i:Nat}{d:D},Reps K H F ds vs→ds[i]?=some d→∃v,vs[i]?=some v∧Rep K H F d v
 |[],_,_,_,_,e=>by simp at e
 |_::_,_,0,_,⟨v,r,e,h,t⟩,q=>by subst e;simp at q;subst q;exact ⟨v,rfl,h⟩
 |_::_,_,i+1,d,⟨v,r,e,h,t⟩,q=>by
  subst e
  obtain ⟨u,h1,h2⟩:=Reps.get (i:=i) (d:=d) t (by simpa using q)
  exact ⟨u,by simpa using h1,h2⟩
theorem Reps.set{d:D}{v:V}(r:Rep K H F d v):∀{ds:List D}{vs:List V}(i:Nat),Reps K H F ds vs→Reps K H F (ds.set i d) (vs.set i v)
 |[],_,_,h=>by cases h;exact rfl
 |_::_,_,0,⟨v',r',e,h,t⟩=>by subst e;exact ⟨_,_,rfl,r,t⟩
 |_::_,_,i+1,⟨v',r',e,h,t⟩=>by subst e;exact ⟨_,_,rfl,h,Reps.set r i t⟩
theorem Reps.take:∀{ds:List D}{vs:List V}(n:Nat),Reps K H F ds vs→Reps K H F (ds.take n) (vs.take n)
 |_,_,0,_=>rfl
 |[],_,_+1,h=>by cases h;exact rfl
 |_::_,_,n+1,⟨v',r',e,h,t⟩=>by subst e;exact ⟨_,_,rfl,h,Reps.take n t⟩
theorem Reps.drop:∀{ds:List D}{vs:List V}(n:Nat),Reps K H F ds vs→Reps K H F (ds.drop n) (vs.drop n)
 |_,_,0,h=>h
 |[],_,_+1,h=>by cases h;exact rfl
 |_::_,_,n+1,⟨v',r',e,h,t⟩=>by subst e;exact Reps.drop n t
theorem Reps.cut{ds:List D}{vs:List V}(h:Reps K H F ds vs)(lo hi:Option Int):
  Reps K H F ((ds.drop (HT.sIx ds.length 0 lo)).take (HT.sIx ds.length ds.length hi - HT.sIx ds.length 0 lo)) (cW vs lo hi):=by
 unfold cW
 rw[←h.length]
 exact (h.drop _).take _
theorem Reps.reverse:∀{ds:List D}{vs:List V},Reps K H F ds vs→Reps K H F ds.reverse vs.reverse
 |[],_,h=>by cases h;exact rfl
 |_::_,_,⟨v',r',e,h,t⟩=>by
  subst e
  rw[List.reverse_cons,List.reverse_cons]
  exact Reps.append (Reps.reverse t) (Reps.cons h rfl)
theorem Reps.rep{ds:List D}{vs:List V}(h:Reps K H F ds vs):∀k:Nat,Reps K H F (List.replicate k ds).flatten (List.replicate k vs).flatten
 |0=>rfl
 |k+1=>by
  rw[List.replicate_succ,List.replicate_succ,List.flatten_cons,List.flatten_cons]
  exact Reps.append h (Reps.rep h k)
end
def T4(K:PySem.W.Frag)(H:Hp)(F:FZ)(a:Addr):DO→Prop
 |.lst ds=>∃vs,H a=some (.lst vs)∧Reps K H F ds vs
structure R(K:PySem.W.Frag)(H:Hp)(F:FZ)(G:DH):Prop where
 fz:∀a,F a→G a=none∧∃vs,H a=some (.lst vs)
 ob:∀a o,G a=some o→T4 K H F a o
section
variable {K:PySem.W.Frag} {H:Hp} {F:FZ} {G:DH} {p:Addr} {vs:List V} {ds:List D}
theorem R.lst(r:R K H F G)(h:G p=some (.lst ds)):∃vs,H p=some (.lst vs)∧Reps K H F ds vs:=r.ob p _ h
theorem R.free(r:R K H F G)(h:H p=none):G p=none:=by
 cases e:G p with
 |none=>rfl
 |some o=>
  cases o with
  |lst ds=>obtain ⟨vs,q,_⟩:=r.lst e;rw[h]at q;cases q
theorem R.notF(r:R K H F G)(h:H p=none):¬F p:=fun f=>by
 obtain ⟨_,vs,q⟩:=r.fz p f;rw[h]at q;cases q
theorem cY{o:HO}(r:R K H F G)(h:H p=none):Ext H F (upd H p o) F:=
 ⟨fun _ f=>f,fun a f=>aJ fun e=>r.notF h (by rw[←e];exact f),fun a xs q=>by rw[aJ (aW q h)];exact q,fun a ob u q=>by rw[aJ (aW q h)];exact q⟩
theorem R.new{o:HO}(r:R K H F G)(h:H p=none):R K (upd H p o) F G:=by
 have x:Ext H F (upd H p o) F:=cY r h
 refine ⟨fun a f=>⟨(r.fz a f).1,?_⟩,fun a u e=>?_⟩
 ·obtain ⟨_,vs,q⟩:=r.fz a f
  exact ⟨vs,by rw[x.keep a f];exact q⟩
 ·cases u with
  |lst ds=>
   obtain ⟨vs,q,t⟩:=r.lst e
   exact ⟨vs,by rw[aJ (aW q h)];exact q,Reps.ext x t⟩
theorem R.newL(r:R K H F G)(h:H p=none)(t:Reps K H F ds vs):R K (upd H p (.lst vs)) F (aQ G p (.lst ds)):=by
 have x:Ext H F (upd H p (.lst vs)) F:=cY r h
 have r':R K (upd H p (.lst vs)) F G:=r.new h
 refine ⟨fun a f=>⟨?_,(r'.fz a f).2⟩,fun a u e=>?_⟩
 ·rw[cF fun e=>r.notF h (by rw[←e];exact f)];exact (r.fz a f).1
 ·by_cases ha:a=p
  ·subst ha
   rw[bA]at e;cases e
   exact ⟨vs,cV,Reps.ext x t⟩
  ·rw[cF ha]at e
   exact r'.ob a u e
theorem sU(r:R K H F G)(h:H p=none):Ext H F (upd H p (.lst vs)) (fun a=>F a∨a=p):=
 ⟨fun _ f=>.inl f,(cY r h).keep,(cY r h).tups,(cY r h).frzs⟩
theorem R.newF(r:R K H F G)(h:H p=none):R K (upd H p (.lst vs)) (fun a=>F a∨a=p) G:=by
 have x:Ext H F (upd H p (.lst vs)) (fun a=>F a∨a=p):=sU r h
 refine ⟨fun a f=>?_,fun a u e=>?_⟩
 ·rcases f with f |f
  ·obtain ⟨g,vs',q⟩:=r.fz a f
   exact ⟨g,vs',by rw[x.keep a f];exact q⟩
  ·subst f
   exact ⟨r.free h,vs,cV⟩
 ·cases u with
  |lst ds=>
   obtain ⟨vs',q,t⟩:=r.lst e
   exact ⟨vs',by rw[aJ (aW q h)];exact q,Reps.ext x t⟩
theorem T5(r:R K H F G)(h:H p=none)(t:Reps K H F ds vs):Rep K (upd H p (.lst vs)) (fun a=>F a∨a=p) (.lst ds) (.ref p):=
 ⟨p,vs,rfl,⟨.inr rfl,cV⟩,Reps.ext (sU r h) t⟩
theorem sV(r:R K H F G)(h:H p=none)(t:Reps K H F ds vs):Rep K (upd H p (.tup vs)) F (.tup ds) (.ref p):=
 ⟨p,vs,rfl,⟨cV⟩,Reps.ext (cY r h) t⟩
theorem jq{ds0:List D}{o:HO}(r:R K H F G)(h:G p=some (.lst ds0)):Ext H F (upd H p o) F:=by
 obtain ⟨vs0,q,_⟩:=r.lst h
 refine ⟨fun _ f=>f,fun a f=>aJ fun e=>?_,fun a xs z=>?_,fun a ob u z=>?_⟩
 ·subst e;rw[(r.fz a f).1]at h;cases h
 ·rw[aJ (wN z q (by intro w;cases w))];exact z
 ·rw[aJ (wN z q (by intro w;cases w))];exact z
theorem R.write{ds0:List D}(r:R K H F G)(h:G p=some (.lst ds0))(t:Reps K H F ds vs):R K (upd H p (.lst vs)) F (aQ G p (.lst ds)):=by
 have x:Ext H F (upd H p (.lst vs)) F:=jq r h
 refine ⟨fun a f=>⟨?_,?_⟩,fun a u e=>?_⟩
 ·rw[cF fun e=>by subst e;rw[(r.fz a f).1]at h;cases h];exact (r.fz a f).1
 ·obtain ⟨_,vs',q⟩:=r.fz a f
  exact ⟨vs',by rw[x.keep a f];exact q⟩
 ·by_cases ha:a=p
  ·subst ha
   rw[bA]at e;cases e
   exact ⟨vs,cV,Reps.ext x t⟩
  ·rw[cF ha]at e
   cases u with
   |lst ds'=>
    obtain ⟨vs',q,t'⟩:=r.lst e
    exact ⟨vs',by rw[aJ ha];exact q,Reps.ext x t'⟩
theorem sW:Ext H F H (fun a=>F a∨a=p):=⟨fun _ f=>.inl f,fun _ _=>rfl,fun _ _ h=>h,fun _ _ _ h=>h⟩
theorem R.frz(r:R K H F G)(h:G p=some (.lst ds)):R K H (fun a=>F a∨a=p) (gf G p):=by
 have x:Ext H F H (fun a=>F a∨a=p):=sW
 refine ⟨fun a f=>?_,fun a u e=>?_⟩
 ·rcases f with f |f
  ·obtain ⟨g,vs',q⟩:=r.fz a f
   refine ⟨?_,vs',q⟩
   by_cases ha:a=p
   ·rw[ha];exact sJ
   ·rw[sO ha];exact g
  ·subst f
   obtain ⟨vs,q,_⟩:=r.lst h
   exact ⟨sJ,vs,q⟩
 ·by_cases ha:a=p
  ·rw[ha,sJ]at e;cases e
  ·rw[sO ha]at e
   cases u with
   |lst ds'=>
    obtain ⟨vs',q,t'⟩:=r.lst e
    exact ⟨vs',q,Reps.ext x t'⟩
theorem T6(r:R K H F G)(h:G p=some (.lst ds)):Rep K H (fun a=>F a∨a=p) (.lst ds) (.ref p):=by
 obtain ⟨vs,q,t⟩:=r.lst h
 exact ⟨p,vs,rfl,⟨.inr rfl,q⟩,Reps.ext sW t⟩
end
def view(G:DH):D→D
 |.ref p=>match G p with |some (.lst ds)=>.lst ds |none=>.ref p
 |d=>d
theorem Rep.list{K:PySem.W.Frag}{H:Hp}{F:FZ}{G:DH}{d:D}{v:V}{ds:List D}(r:R K H F G)(h:Rep K H F d v)(e:view G d=.lst ds):∃a vs,v=.ref a∧SqL K H a vs∧Reps K H F ds vs:=by
 cases d with
 |lst xs=>
  have e':D.lst xs=.lst ds:=e
  cases e'
  obtain ⟨a,vs,e1,q,t⟩:=h
  exact ⟨a,vs,e1,q.sq,t⟩
 |ref p=>
  have hv:v=.ref p:=h
  unfold view at e
  cases g:G p with
  |none=>simp only[g]at e;cases e
  |some o=>
   cases o with
   |lst xs=>
    simp only[g]at e
    cases e
    obtain ⟨vs,q,t⟩:=r.lst g
    exact ⟨p,vs,hv,.inl (.inl q),t⟩
 |_=>cases (show _=D.lst ds from e)
theorem eX{G:DH}{d:D}{ds:List D}(e:view G d=.tup ds):d=.tup ds:=by
 cases d with
 |ref p=>
  unfold view at e
  cases g:G p with
  |none=>simp only[g]at e;cases e
  |some o=>cases o;simp only[g]at e;cases e
 |_=>exact e
theorem eY{G:DH}{d:D}{l:List Nat}(e:view G d=.str l):d=.str l:=by
 cases d with
 |ref p=>
  unfold view at e
  cases g:G p with
  |none=>simp only[g]at e;cases e
  |some o=>cases o;simp only[g]at e;cases e
 |_=>exact e
theorem cZ{G:DH}{d:D}{l:Int}(e:view G d=.int l):d=.int l:=by
 cases d with
 |ref p=>
  unfold view at e
  cases g:G p with
  |none=>simp only[g]at e;cases e
  |some o=>cases o;simp only[g]at e;cases e
 |_=>exact e
theorem T7{G:DH}{d:D}{l:Bool}(e:view G d=.bl l):d=.bl l:=by
 cases d with
 |ref p=>
  unfold view at e
  cases g:G p with
  |none=>simp only[g]at e;cases e
  |some o=>cases o;simp only[g]at e;cases e
 |_=>exact e
abbrev ak:=List (Option D)
def EnvR(K:PySem.W.Frag)(H:Hp)(F:FZ):ak→L2.St→Prop
 |[],σ=>σ=[]
 |o::ρ,σ=>∃u τ,σ=u::τ∧(∀d,o=some d→∃v,u=some v∧Rep K H F d v)∧EnvR K H F ρ τ
section
variable {K:PySem.W.Frag} {H H':Hp} {F F':FZ}
theorem EnvR.ext(x:Ext H F H' F'):∀{ρ:ak}{σ:L2.St},EnvR K H F ρ σ→EnvR K H' F' ρ σ
 |[],_,h=>h
 |_::_,_,⟨u,τ,e,h,t⟩=>⟨u,τ,e,fun d q=>by obtain ⟨v,e1,r⟩:=h d q;exact ⟨v,e1,Rep.ext x r⟩,EnvR.ext x t⟩
theorem EnvR.get:∀{ρ:ak}{σ:L2.St}{i:Nat}{d:D},EnvR K H F ρ σ→ρ[i]?=some (some d)→∃v,σ[i]?=some (some v)∧Rep K H F d v
 |[],_,_,_,_,e=>by simp at e
 |_::_,_,0,d,⟨u,τ,e,h,t⟩,q=>by
  subst e
  obtain ⟨v,e1,r⟩:=h d (by simpa using q)
  exact ⟨v,by simp[e1],r⟩
 |_::_,_,i+1,d,⟨u,τ,e,h,t⟩,q=>by
  subst e
  obtain ⟨v,e1,r⟩:=EnvR.get (i:=i) (d:=d) t (by simpa using q)
  exact ⟨v,by simpa using e1,r⟩
theorem EnvR.set{d:D}{v:V}(r:Rep K H F d v):∀{ρ:ak}{σ:L2.St}(i:Nat),EnvR K H F ρ σ→EnvR K H F (ρ.set i (some d)) (σ.set i (some v))
 |[],_,_,h=>by cases h;exact rfl
 |_::_,_,0,⟨u,τ,e,h,t⟩=>by subst e;exact ⟨_,_,rfl,fun d' q=>⟨v,rfl,by cases q;exact r⟩,t⟩
 |_::_,_,i+1,⟨u,τ,e,h,t⟩=>by subst e;exact ⟨_,_,rfl,h,EnvR.set r i t⟩
theorem EnvR.unset:∀{ρ:ak}{σ:L2.St}(i:Nat),EnvR K H F ρ σ→EnvR K H F (ρ.set i Option.none) (σ.set i Option.none)
 |[],_,_,h=>by cases h;exact rfl
 |_::_,_,0,⟨u,τ,e,h,t⟩=>by subst e;exact ⟨_,_,rfl,fun d' q=>(nomatch q),t⟩
 |_::_,_,i+1,⟨u,τ,e,h,t⟩=>by subst e;exact ⟨_,_,rfl,h,EnvR.unset i t⟩
theorem EnvR.none:∀(n:Nat),EnvR K H F (List.replicate n Option.none) (List.replicate n Option.none)
 |0=>rfl
 |n+1=>⟨_,_,rfl,fun d q=>(nomatch q),EnvR.none n⟩
theorem EnvR.start:∀{ds:List D}{vs:List V}(n:Nat),Reps K H F ds vs→EnvR K H F (ds.map some++List.replicate n Option.none) (vs.map some++List.replicate n Option.none)
 |[],_,n,h=>by cases h;exact EnvR.none n
 |d::ds,_,n,⟨v,r,e,h,t⟩=>by
  subst e
  exact ⟨_,_,rfl,fun d' q=>⟨v,rfl,by cases q;exact h⟩,EnvR.start n t⟩
theorem EnvR.cap{ρ:ak}{σ:L2.St}(h:EnvR K H F ρ σ):∀(cap:List (Option Nat)),EnvR K H F (cap.map fun o=>match o with |Option.none=>Option.none |some j=>(ρ[j]?).join) (cX cap σ)
 |[]=>rfl
 |Option.none::cap=>⟨_,_,rfl,fun d q=>(nomatch q),EnvR.cap h cap⟩
 |some j::cap=>by
  refine ⟨_,_,rfl,fun d q=>?_,EnvR.cap h cap⟩
  have q':(ρ[j]?).join=some d:=q
  have z:ρ[j]?=some (some d):=by
   cases e:ρ[j]? with
   |none=>rw[e]at q';cases q'
   |some o=>rw[e]at q';exact congrArg some q'
  obtain ⟨v,e1,r⟩:=h.get z
  exact ⟨v,by show (σ[j]?).join=some v;rw[e1];rfl,r⟩
end
end RF
namespace RF
open PySem L2
mutual
def deq:D→D→Bool
 |.non,.non=>true
 |.bl a,.bl b=>a==b
 |.bl a,.int b=>(if a then 1 else 0)==b
 |.int a,.bl b=>a==(if b then 1 else 0)
 |.int a,.int b=>a==b
 |.str a,.str b=>a==b
 |.tup a,.tup b=>bJ a b
 |.lst a,.lst b=>bJ a b
 |_,_=>false
def bJ:List D→List D→Bool
 |[],[]=>true
 |a::as,b::bs=>deq a b&&bJ as bs
 |_,_=>false
end
mutual
/-- no tracked object within -/
def nr:D→Bool
 |.tup a=>nrs a
 |.lst a=>nrs a
 |.ref _=>false
 |.scr _=>false
 |.exn _=>false
 |_=>true
def nrs:List D→Bool
 |[]=>true
 |a::as=>nr a&&nrs as
end
mutual
def dpt:D→Nat
 |.tup a=>aX a+1
 |.lst a=>aX a+1
 |_=>0
def aX:List D→Nat
 |[]=>0
 |a::as=>max (dpt a) (aX as)
end
def truth:D→Option Bool
 |.non=>some false
 |.bl b=>some b
 |.int i=>some (i != 0)
 |.str l=>some (!l.isEmpty)
 |.tup l=>some (!l.isEmpty)
 |.lst l=>some (!l.isEmpty)
 |_=>none
def cut{α:Type}(xs:List α)(lo hi:Option Int):List α:=(xs.drop (HT.sIx xs.length 0 lo)).take (HT.sIx xs.length xs.length hi - HT.sIx xs.length 0 lo)
def reps{α:Type}(xs:List α)(n:Nat):List α:=(List.replicate n xs).flatten
def mk(fz:Bool)(xs:List D)(G:DH)(k:D→DH→Prop):Prop:=
 match fz with
 |true=>k (.lst xs) G
 |false=>∀p,G p=none→k (.ref p) (aQ G p (.lst xs))
def gZ(fz:Bool)(a b:D)(G:DH)(k:D→DH→Prop):Prop:=
 match a with
 |.int i=>(match b with |.int j=>k (.int (i+j)) G |_=>False)
 |.str x=>(match b with |.str y=>x.length+y.length≤sz∧k (.str (x++y)) G |_=>False)
 |.lst x=>(match b with |.lst y=>x.length+y.length≤sz∧mk fz (x++y) G k |_=>False)
 |.tup x=>(match b with |.tup y=>x.length+y.length≤sz∧k (.tup (x++y)) G |_=>False)
 |_=>False
def eZ(a b:D)(p:Int→Int→Prop):Prop:=
 match a with
 |.int i=>(match b with |.int j=>p i j |_=>False)
 |_=>False
def g8(fz:Bool)(a b:D)(G:DH)(k:D→DH→Prop):Prop:=
 match b with
 |.int n=>(match a with |.int i=>CMul i n∧k (.int (i * n)) G |.str x=>0≤n∧n≤1000∧x.length * n.toNat≤sz∧k (.str (reps x n.toNat)) G |.tup x=>2≤n∧n≤1000∧x≠[]∧x.length * n.toNat≤sz∧k (.tup (reps x n.toNat)) G |.lst x=>0≤n∧n≤1000∧x.length * n.toNat≤sz∧mk fz (reps x n.toNat) G k |_=>False)
 |_=>False
def bT(op:Operator)(fz:Bool)(a b:D)(G:DH)(k:D→DH→Prop):Prop:=
 match op with
 |.Add=>gZ fz a b G k
 |.Sub=>eZ a b fun i j=>k (.int (i - j)) G
 |.Mult=>g8 fz a b G k
 |.FloorDiv=>eZ a b fun i j=>(0 < j∧j < 1152921504606846976)∧k (.int (i / j)) G
 |.Mod=>eZ a b fun i j=>0 < j∧k (.int (i % j)) G
 |.Pow=>eZ a b fun i j=>mX i j∧k (.int (i ^ j.toNat)) G
 |_=>False
def isIn(x:D)(ys:List D):Bool:=ys.any fun y=>deq y x
def yR(a b:D):Prop:=nr a=true∧nr b=true∧min (dpt a) (dpt b)≤60
def inG(a:D)(l:List D):Prop:=nr a=true∧nrs l=true∧aX l≤60
def ie(a b:D)(k:Bool→Prop):Prop:=
 match a,b with
 |.int i,.int j=>k (decide (i < j))
 |.str i,.str j=>k (decide (i < j))
 |_,_=>False
def ig(a b:D)(k:Bool→Prop):Prop:=
 match a,b with
 |.int i,.int j=>k (decide (i≤j))
 |.str i,.str j=>k (!decide (j < i))
 |_,_=>False
def ik(a b:D)(k:Bool→Prop):Prop:=
 match a,b with
 |.int i,.int j=>k (decide (j < i))
 |_,_=>False
def il(a b:D)(k:Bool→Prop):Prop:=
 match a,b with
 |.int i,.int j=>k (decide (j≤i))
 |_,_=>False
def jr(a:D):Bool:=match a with |.non=>true |_=>false
def ir(a b:D)(k:Bool→Prop):Prop:=
 match b with
 |.non=>k (jr a)
 |.bl b=>(match a with |.bl a=>k (a==b) |_=>False)
 |_=>False
def iu(a b:D)(k:Bool→Prop):Prop:=
 match b with
 |.non=>k (!jr a)
 |.bl b=>(match a with |.bl a=>k (a != b) |_=>False)
 |_=>False
def dW(a b:D)(k:Bool→Prop):Prop:=
 match b with
 |.str l=>(match a with |.str [c]=>k (l.contains c) |_=>False)
 |.lst l=>inG a l∧k (isIn a l)
 |.tup l=>inG a l∧k (isIn a l)
 |_=>False
def aR(op:CmpOp)(a b:D)(k:Bool→Prop):Prop:=
 match op with
 |.Eq=>yR a b∧k (deq a b)
 |.NotEq=>yR a b∧k (!deq a b)
 |.Lt=>ie a b k
 |.LtE=>ig a b k
 |.Gt=>ik a b k
 |.GtE=>il a b k
 |.Is=>ir a b k
 |.IsNot=>iu a b k
 |.In=>dW a b k
 |.NotIn=>dW a b fun c=>k (!c)
def cj(a i:D)(k:D→Prop):Prop:=
 match a,i with
 |.lst ds,.int i=>match atI ds i with |some d=>k d |none=>False
 |.tup ds,.int i=>match atI ds i with |some d=>k d |none=>False
 |.str l,.int i=>match atI l i with |some c=>k (.str [c]) |none=>False
 |_,_=>False
def c7(fz:Bool)(a:D)(lo hi:Option Int)(G:DH)(k:D→DH→Prop):Prop:=
 match a with
 |.lst ds=>mk fz (cut ds lo hi) G k
 |.scr ns=>mk fz ((cut ns lo hi).map .int) G k
 |.tup ds=>k (.tup (cut ds lo hi)) G
 |.str l=>k (.str (cut l lo hi)) G
 |_=>False
def gh(fz:Bool)(a y:D)(G:DH)(k:D→DH→Prop):Prop:=
 match a with
 |.lst ds=>y=.int (-1)∧mk fz ds.reverse G k
 |_=>False
def bools:List D→Option (List Bool)
 |[]=>some []
 |.bl b::r=>match bools r with |some s=>some (b::s) |none=>none
 |_=>none
def gj:List D→Option (List Int)
 |[]=>some []
 |.int b::r=>match gj r with |some s=>some (b::s) |none=>none
 |_=>none
def bR:List D→Option (List (List Nat))
 |[]=>some []
 |.str b::r=>match bR r with |some s=>some (b::s) |none=>none
 |_=>none
def dg(s:List Nat):List (List Nat)→List Nat
 |[]=>[]
 |[x]=>x
 |x::y::r=>x++s++dg s (y::r)
inductive Bf where
 |len |all |int |tuple |sum |min |max |str
inductive Lf where
 |list |sorted
inductive Mf where
 |join |append |extend |insert |count |index
def sX(as:List D)(k:D→Prop):Prop:=
 match as with
 |[.lst ds]=>k (.int ds.length)
 |[.tup ds]=>k (.int ds.length)
 |[.str l]=>k (.int l.length)
 |_=>False
def nq(as:List D)(k:D→Prop):Prop:=
 match as with
 |[.lst ds]=>match bools ds with |some bs=>k (.bl (bs.all id)) |none=>False
 |_=>False
def nu(as:List D)(k:D→Prop):Prop:=
 match as with
 |[.bl b]=>k (.int (if b then 1 else 0))
 |[.int i]=>k (.int i)
 |[.str l]=>match PySem.intText? (tx l) with |some n=>l.length≤640∧k (.int n) |none=>False
 |_=>False
def sY(as:List D)(k:D→Prop):Prop:=
 match as with
 |[.lst ds]=>k (.tup ds)
 |[.tup ds]=>k (.tup ds)
 |_=>False
def sZ(as:List D)(k:D→Prop):Prop:=
 match as with
 |[.lst ds]=>match gj ds with |some ns=>k (.int ns.sum) |none=>False
 |_=>False
def yS(as:List D)(k:D→Prop):Prop:=
 match as with
 |[.lst ds]=>match gj ds with
  |some ns=>ns≠[]∧∀m,m∈ns→(∀a,a∈ns→m≤a)→k (.int m)
  |none=>match bR ds with
   |some ls=>∀m,m∈ls→(∀a,a∈ls→¬a < m)→k (.str m)
   |none=>False
 |_=>False
def yU(as:List D)(k:D→Prop):Prop:=
 match as with
 |[.int a,.int b]=>k (.int (if b > a then b else a))
 |_=>False
def dX(m:Nat):List Nat:=(sI m).cps.toList
def tu(as:List D)(k:D→Prop):Prop:=
 match as with
 |[.int i]=>(0≤i∧i < 100)∧k (.str (dX i.toNat))
 |_=>False
def opB:Bf→List D→(D→Prop)→Prop
 |.len=>sX
 |.all=>nq
 |.int=>nu
 |.tuple=>sY
 |.sum=>sZ
 |.min=>yS
 |.max=>yU
 |.str=>tu
def tB(as:List D)(k:List D→Prop):Prop:=
 match as with
 |[.lst ds]=>k ds
 |[.tup ds]=>k ds
 |[.str l]=>k (l.map fun c=>.str [c])
 |_=>False
def tD(as:List D)(k:List D→Prop):Prop:=
 match as with
 |[.lst ds]=>match bR ds with |some ls=>ls.length < 64∧∀ls':List (List Nat),ls'.Perm ls→PyProof.Rows.sortedS (ls'.map tx)=true→k (ls'.map D.str) |none=>False
 |_=>False
def cG:Lf→List D→(List D→Prop)→Prop
 |.list=>tB
 |.sorted=>tD
def isT(t:String)(d:D):Option Bool:=
 match d with
 |.non=>some false
 |.bl _=>some (t=="bool"||t=="int")
 |.int _=>some (t=="int")
 |.str _=>some (t=="str")
 |.tup _=>some (t=="tuple")
 |.lst _=>some (t=="list")
 |_=>none
def dY (t:String):Bool:=t=="bool"||t=="int"||t=="str"||t=="tuple"||t=="list"
def nA(o:D)(as:List D)(G:DH)(k:D→DH→Prop):Prop:=
 match o,as with
 |.str s,[.lst ds]=>match bR ds with |some ls=>((ls.map (·.length)).sum+ls.length * s.length≤sz)∧k (.str (dg s ls)) G |none=>False
 |_,_=>False
def nF(o:D)(as:List D)(G:DH)(k:D→DH→Prop):Prop:=
 match o,as with
 |.ref p,[x]=>match G p with |some (.lst ds)=>ds.length < sz∧k .non (aQ G p (.lst (ds++[x]))) |none=>False
 |_,_=>False
def nG(o:D)(as:List D)(G:DH)(k:D→DH→Prop):Prop:=
 match o,as with
 |.ref p,[.lst xs]=>match G p with |some (.lst ds)=>ds.length+xs.length < sz∧k .non (aQ G p (.lst (ds++xs))) |none=>False
 |_,_=>False
def nH(o:D)(as:List D)(G:DH)(k:D→DH→Prop):Prop:=
 match o,as with
 |.ref p,[.int i,x]=>match G p with |some (.lst ds)=>ds.length < sz∧0≤i∧i≤1000000∧k .non (aQ G p (.lst (ds.take i.toNat++x::ds.drop i.toNat))) |none=>False
 |_,_=>False
def nJ(o:D)(as:List D)(G:DH)(k:D→DH→Prop):Prop:=
 match o,as with
 |.lst ds,[.bl true]=>match bools ds with |some bs=>k (.int (bs.count true:Nat)) G |none=>False
 |_,_=>False
def nM(o:D)(as:List D)(G:DH)(k:D→DH→Prop):Prop:=
 match o,as with
 |.lst ds,[.bl true]=>match bools ds with |some bs=>true∈bs∧k (.int (bs.idxOf true:Nat)) G |none=>False
 |_,_=>False
def tH:D→Prop
 |.lst _=>True
 |_=>False
def recv(m:Mf)(o:D)(G:DH):Prop:=
 match m,o with
 |.join,.str _=>True
 |.append,.ref p=>match G p with |some (.lst _)=>True |none=>False
 |.extend,.ref p=>match G p with |some (.lst _)=>True |none=>False
 |.insert,.ref p=>match G p with |some (.lst _)=>True |none=>False
 |.count,o=>tH (view G o)
 |.index,o=>tH (view G o)
 |_,_=>False
def opM:Mf→D→List D→DH→(D→DH→Prop)→Prop
 |.join,o,as,G,k=>nA o (as.map (view G)) G k
 |.append,o,as,G,k=>nF o as G k
 |.extend,o,as,G,k=>nG o (as.map (view G)) G k
 |.insert,o,as,G,k=>nH o as G k
 |.count,o,as,G,k=>nJ (view G o) as G k
 |.index,o,as,G,k=>nM (view G o) as G k
def dh (C C':String):Bool:=C==C'||C'=="SieveError"||C'=="ValueError"
mutual
inductive Tg where
 |nm (i:Nat)
 |tp (ts:Tgs)
inductive Tgs where
 |nil
 |cons (t:Tg) (r:Tgs)
end
mutual
inductive Ex where
 |var (i:Nat)
 |cst (d:D)
 |glb (x:String) (d:D)
 |bin (op:Operator) (fz:Bool) (a b:Ex)
 |neg (a:Ex)
 |cmp (op:CmpOp) (a b:Ex)
 |chn (op op':CmpOp) (a b c:Ex)
 |not (a:Ex)
 |boo (isAnd:Bool) (e:Ex) (es:Exs)
 |ife (c:Tx) (a b:Ex)
 |tup (es:Exs)
 |lst (fz:Bool) (es:Exs)
 |idx (a i:Ex)
 |slc (fz:Bool) (a:Ex) (lo hi:Ox)
 |rvs (fz:Bool) (a s:Ex)
 |call (f:String) (es:Exs)
 |bcl (f:Bf) (es:Exs)
 |lcl (fz:Bool) (f:Lf) (es:Exs)
 |isi (a:Ex) (t:String)
 |isx (a:Ex) (C:String) (xs:List String)
 |fst (es:Exs)
 |mth (m:Mf) (o:Ex) (es:Exs)
 |comp (fz:Bool) (elt:Ex) (tg:Tg) (it:It') (cond:Tx) (N:List String) (cap:List (Option Nat))
 |frz (a:Ex)
inductive Exs where
 |nil
 |cons (e:Ex) (es:Exs)
/-- a test -/
inductive Tx where
 |val (e:Ex)
 |not (t:Tx)
 |boo (isAnd:Bool) (t:Tx) (ts:Txs)
 |yes
inductive Txs where
 |nil
 |cons (t:Tx) (ts:Txs)
/-- a bound of a slice -/
inductive Ox where
 |no
 |ob (e:Ex)
/-- what a loop walks -/
inductive It' where
 |seq (e:Ex)
 |rng (a:Ex)
 |rng2 (a b:Ex)
 |rev (a:Ex)
 |dwn (a b c:Ex)
 |enm (e:Ex)
 |zip (a b:Ex)
end
inductive Tb where
 |call (f:String) (es:Exs)
 |asg (i:Nat) (f:String) (es:Exs)
 |ite (c:Tx) (a b:Tb)
inductive Hd where
 |flag (i:Nat) (b:Bool)
 |bind (n i:Nat)
mutual
inductive Sx where
 |exp (e:Ex)
 |asg (t:Tg) (e:Ex)
 |set (o i e:Ex)
 |aug (i:Nat) (op:Operator) (e:Ex)
 |augs (o i:Ex) (op:Operator) (e:Ex)
 |ret (e:Ex)
 |rtn
 |ite (c:Tx) (a b:Sxs)
 |for_ (t:Tg) (it:It') (body:Sxs)
 |whl (c:Tx) (body:Sxs)
 |pas
 |brk
 |cnt
 |nev
 |rse (C:String) (es:Exs)
 |tryc (f:String) (es:Exs) (C:String) (i:Nat) (b:Bool)
 |tryx (b:Tb) (C:String) (h:Hd) (xs:List String)
inductive Sxs where
 |nil
 |cons (s:Sx) (r:Sxs)
end
structure Xn where
 cls:String
 fld:D
structure Spec where
 A:Type
 pre:List D→DH→A→Prop
 post:A→D→DH→Prop
 exc:A→Xn→DH→Prop
abbrev EK:=Xn→DH→Prop
def Spec.t(S:Spec)(ds:List D)(G:DH)(Q:D→DH→Prop)(E:EK):Prop:=
 ∃a,S.pre ds G a∧(∀d G',S.post a d G'→Q d G')∧∀x G',S.exc a x G'→E x G'
theorem Spec.mono{S:Spec}{ds:List D}{G:DH}{Q Q':D→DH→Prop}{E E':EK}(h:S.t ds G Q E)(hq:∀d G',Q d G'→Q' d G')(he:∀x G',E x G'→E' x G'):S.t ds G Q' E':=by
 obtain ⟨a,h1,h2,h3⟩:=h
 exact ⟨a,h1,fun d G' q=>hq _ _ (h2 d G' q),fun x G' q=>he _ _ (h3 x G' q)⟩
abbrev aa:=String→Spec
mutual
def aU:Tg→D→ak→DH→(ak→Prop)→Prop
 |.nm i,d,ρ,_,k=>k (ρ.set i (some d))
 |.tp ts,d,ρ,G,k=>match d with |.tup ds=>bB ts ds ρ G k |.lst ds=>bB ts ds ρ G k |_=>False
def bB:Tgs→List D→ak→DH→(ak→Prop)→Prop
 |.nil,ds,ρ,_,k=>match ds with |[]=>k ρ |_=>False
 |.cons t r,ds,ρ,G,k=>match ds with |d::ds=>aU t d ρ G (fun ρ'=>bB r ds ρ' G k) |[]=>False
end
abbrev Hld:=List (Addr×List D)
def held:Hld→DH→Prop
 |[],_=>True
 | (a,ds)::r,G=>G a=some (.lst ds)∧held r G
def compLoop(step:D→ak→DH→(Option D→ak→DH→Prop)→Prop)(g:Hld):List D→List D→ak→DH→(List D→DH→Prop)→Prop
 |[],acc,_,G,k=>held g G∧acc.length≤sz∧k acc G
 |d::ds,acc,ρ,G,k=>held g G∧acc.length < sz∧step d ρ G (fun o ρ' G'=>match o with |some y=>compLoop step g ds (acc++[y]) ρ' G' k |none=>compLoop step g ds acc ρ' G' k)
def cP:Nat→List D→List D
 |_,[]=>[]
 |i,d::ds=>.tup [.int i,d]::cP (i+1) ds
def bO:List D→List D→List D
 |a::as,b::bs=>.tup [a,b]::bO as bs
 |_,_=>[]
def itemsOf(G:DH):D→Option (List D×Hld)
 |.lst ds=>some (ds,[])
 |.tup ds=>some (ds,[])
 |.str l=>some (l.map fun c=>.str [c],[])
 |.ref p=>match G p with |some (.lst ds)=>some (ds,[(p,ds)]) |none=>none
 |_=>none
def bC(lo:Int)(n:Nat):List D:=(List.range n).map fun i=>.int (lo+(i:Nat))
def nO(lo:Int)(n:Nat):List D:=(List.range n).map fun i=>.int (lo - (i:Nat))
def noE:EK:=fun _ _=>False
mutual
def wpE(Φ:aa):Ex→EK→ak→DH→(D→DH→Prop)→Prop
 |.var i,_,ρ,G,k=>match ρ[i]? with |some (some d)=>k d G |_=>False
 |.cst d,_,_,G,k=>k d G
 |.glb _ d,_,_,G,k=>k d G
 |.bin op fz a b,E,ρ,G,k=>wpE Φ a E ρ G fun x G1=>wpE Φ b E ρ G1 fun y G2=>bT op fz (view G2 x) (view G2 y) G2 k
 |.neg a,E,ρ,G,k=>wpE Φ a E ρ G fun x G1=>match x with |.int i=>k (.int (-i)) G1 |_=>False
 |.cmp op a b,E,ρ,G,k=>wpE Φ a E ρ G fun x G1=>wpE Φ b E ρ G1 fun y G2=>aR op (view G2 x) (view G2 y) fun c=>k (.bl c) G2
 |.chn op op' a b c,E,ρ,G,k=>wpE Φ a E ρ G fun x G1=>wpE Φ b E ρ G1 fun y G2=>aR op (view G2 x) (view G2 y) fun t=>
   match t with
   |true=>wpE Φ c E ρ G2 fun z G3=>aR op' (view G3 y) (view G3 z) fun t'=>k (.bl t') G3
   |false=>k (.bl false) G2
 |.not a,E,ρ,G,k=>wpE Φ a E ρ G fun x G1=>match truth (view G1 x) with |some b=>k (.bl (!b)) G1 |none=>False
 |.boo isAnd e es,E,ρ,G,k=>wpE Φ e E ρ G fun d G1=>match d with |.bl b=>wpB Φ es isAnd b E ρ G1 (fun c G2=>k (.bl c) G2) |_=>False
 |.ife c a b,E,ρ,G,k=>wpT Φ c E ρ G fun t G1=>match t with |true=>wpE Φ a E ρ G1 k |false=>wpE Φ b E ρ G1 k
 |.tup es,E,ρ,G,k=>aN Φ es E ρ G fun ds G1=>ds.length≤sz∧k (.tup ds) G1
 |.lst fz es,E,ρ,G,k=>aN Φ es E ρ G fun ds G1=>ds.length≤sz∧mk fz ds G1 k
 |.idx a i,E,ρ,G,k=>wpE Φ a E ρ G fun x G1=>wpE Φ i E ρ G1 fun y G2=>cj (view G2 x) y fun d=>k d G2
 |.slc fz a lo hi,E,ρ,G,k=>wpE Φ a E ρ G fun x G1=>wpO Φ lo E ρ G1 fun l G2=>wpO Φ hi E ρ G2 fun h G3=>c7 fz (view G3 x) l h G3 k
 |.rvs fz a s,E,ρ,G,k=>wpE Φ a E ρ G fun x G1=>wpE Φ s E ρ G1 fun y G2=>gh fz (view G2 x) y G2 k
 |.call f es,E,ρ,G,k=>aN Φ es E ρ G fun ds G1=>(Φ f).t ds G1 k E
 |.bcl f es,E,ρ,G,k=>aN Φ es E ρ G fun ds G1=>opB f (ds.map (view G1)) fun d=>k d G1
 |.lcl fz f es,E,ρ,G,k=>aN Φ es E ρ G fun ds G1=>cG f (ds.map (view G1)) fun xs=>mk fz xs G1 k
 |.isi a t,E,ρ,G,k=>wpE Φ a E ρ G fun x G1=>match isT t (view G1 x) with |some b=>k (.bl b) G1 |none=>False
 |.isx a C xs,E,ρ,G,k=>wpE Φ a E ρ G fun x G1=>match x with |.exn c=>xs.contains c=true∧k (.bl (dh c C)) G1 |_=>False
 |.fst es,E,ρ,G,k=>wpF Φ es E ρ G fun l G1=>l.length≤sz∧k (.str l) G1
 |.mth m o es,E,ρ,G,k=>wpE Φ o E ρ G fun x G1=>recv m x G1∧aN Φ es E ρ G1 fun ds G2=>opM m x ds G2 k
 |.comp fz elt tg it cond _ cap,E,ρ,G,k=>wpI Φ it E ρ G fun items g G1=>
   compLoop (fun d ρ' G' k'=>aU tg d ρ' G' fun ρ1=>wpT Φ cond noE ρ1 G' fun b G2=>match b with |true=>wpE Φ elt noE ρ1 G2 fun y G3=>k' (some y) ρ1 G3 |false=>k' none ρ1 G2)
    g items [] (cap.map fun o=>match o with |none=>none |some j=>(ρ[j]?).join) G1 fun ds G2=>mk fz ds G2 k
 |.frz a,E,ρ,G,k=>wpE Φ a E ρ G fun x G1=>match x with |.ref p=>(match G1 p with |some (.lst ds)=>k (.lst ds) (gf G1 p) |none=>False) |d=>k d G1
/-- a test -/
def wpT(Φ:aa):Tx→EK→ak→DH→(Bool→DH→Prop)→Prop
 |.not a,E,ρ,G,k=>wpT Φ a E ρ G fun b G1=>k (!b) G1
 |.boo isAnd e es,E,ρ,G,k=>wpT Φ e E ρ G fun b G1=>dZ Φ es isAnd b E ρ G1 k
 |.yes,_,_,G,k=>k true G
 |.val x,E,ρ,G,k=>wpE Φ x E ρ G fun d G1=>match truth (view G1 d) with |some b=>k b G1 |none=>False
def wpF(Φ:aa):Exs→EK→ak→DH→(List Nat→DH→Prop)→Prop
 |.nil,_,_,G,k=>k [] G
 |.cons e es,E,ρ,G,k=>wpE Φ e E ρ G fun d G1=>match d with
  |.str l=>l.length≤1000∧wpF Φ es E ρ G1 fun x G2=>k (l++x) G2
  |.int i=>(0≤i∧i < 100)∧wpF Φ es E ρ G1 fun x G2=>k (dX i.toNat++x) G2
  |_=>False
def aN(Φ:aa):Exs→EK→ak→DH→(List D→DH→Prop)→Prop
 |.nil,_,_,G,k=>k [] G
 |.cons e es,E,ρ,G,k=>wpE Φ e E ρ G fun d G1=>aN Φ es E ρ G1 fun ds G2=>k (d::ds) G2
/-- and,or as values:truths alone;b:the one ahead -/
def wpB(Φ:aa):Exs→Bool→Bool→EK→ak→DH→(Bool→DH→Prop)→Prop
 |.nil,_,b,_,_,G,k=>k b G
 |.cons e es,isAnd,b,E,ρ,G,k=>match isAnd,b with
  |true,false=>k false G
  |false,true=>k true G
  |_,_=>wpE Φ e E ρ G fun d G1=>match d with |.bl b'=>wpB Φ es isAnd b' E ρ G1 k |_=>False
def dZ(Φ:aa):Txs→Bool→Bool→EK→ak→DH→(Bool→DH→Prop)→Prop
 |.nil,_,b,_,_,G,k=>k b G
 |.cons e es,isAnd,b,E,ρ,G,k=>match isAnd,b with
  |true,false=>k false G
  |false,true=>k true G
  |_,_=>wpT Φ e E ρ G fun b' G1=>dZ Φ es isAnd b' E ρ G1 k
/-- a bound of a slice -/
def wpO(Φ:aa):Ox→EK→ak→DH→(Option Int→DH→Prop)→Prop
 |.no,_,_,G,k=>k none G
 |.ob x,E,ρ,G,k=>wpE Φ x E ρ G fun d G1=>match d with |.int i=>k (some i) G1 |_=>False
def wpI(Φ:aa):It'→EK→ak→DH→(List D→Hld→DH→Prop)→Prop
 |.seq e,E,ρ,G,k=>wpE Φ e E ρ G fun d G1=>match itemsOf G1 d with |some ds=>k ds.1 ds.2 G1 |none=>False
 |.rng a,E,ρ,G,k=>wpE Φ a E ρ G fun d G1=>match d with |.int n=>(-(2 ^ 62)≤n∧n < 2 ^ 62)∧k (bC 0 n.toNat) [] G1 |_=>False
 |.rng2 a b,E,ρ,G,k=>wpE Φ a E ρ G fun x G1=>wpE Φ b E ρ G1 fun y G2=>match x,y with
  |.int m,.int n=>(-(2 ^ 62)≤m∧m < 2 ^ 62∧-(2 ^ 62)≤n∧n < 2 ^ 62)∧k (bC m (n - m).toNat) [] G2
  |_,_=>False
 |.rev a,E,ρ,G,k=>wpE Φ a E ρ G fun d G1=>match d with |.int n=>(-(2 ^ 62)≤n∧n < 2 ^ 62)∧k (nO ((n.toNat:Int) - 1) n.toNat) [] G1 |_=>False
 |.dwn a b c,E,ρ,G,k=>wpE Φ a E ρ G fun x G1=>wpE Φ b E ρ G1 fun y G2=>wpE Φ c E ρ G2 fun z G3=>match x,y,z with
  |.int m,.int n,.int s=>(s=-1∧-(2 ^ 62)≤m∧m < 2 ^ 62∧-(2 ^ 62)≤n∧n < 2 ^ 62)∧k (nO m (m - n).toNat) [] G3
  |_,_,_=>False
 |.enm e,E,ρ,G,k=>wpE Φ e E ρ G fun d G1=>match itemsOf G1 d with |some ds=>k (cP 0 ds.1) ds.2 G1 |none=>False
 |.zip a b,E,ρ,G,k=>wpE Φ a E ρ G fun x G1=>wpE Φ b E ρ G1 fun y G2=>match itemsOf G2 x,itemsOf G2 y with |some ds,some es=>k (bO ds.1 es.1) (ds.2++es.2) G2 |_,_=>False
end
structure En where
 nx:ak→DH→Prop
 rt:D→DH→Prop
 bk:ak→DH→Prop
 ct:ak→DH→Prop
def forLoop(step:D→ak→DH→(ak→DH→Prop)→Prop)(g:Hld):List D→ak→DH→(ak→DH→Prop)→Prop
 |[],ρ,G,k=>held g G∧k ρ G
 |d::ds,ρ,G,k=>held g G∧step d ρ G fun ρ' G'=>forLoop step g ds ρ' G' k
def whileLoop(test:ak→DH→(Bool→DH→Prop)→Prop)(body:ak→DH→(ak→DH→Prop)→Prop):Nat→ak→DH→(ak→DH→Prop)→Prop
 |0,_,_,_=>False
 |n+1,ρ,G,k=>test ρ G fun b G1=>match b with |true=>body ρ G1 fun ρ' G'=>whileLoop test body n ρ' G' k |false=>k ρ G1
def di(o i x:D)(G:DH)(k:DH→Prop):Prop:=
 match o,i with
 |.ref p,.int i=>match G p with |some (.lst ds)=>(match ixN ds.length i with |some j=>k (aQ G p (.lst (ds.set j x))) |none=>False) |none=>False
 |_,_=>False
def dC(op:Operator)(a b:D)(k:D→Prop):Prop:=
 match op,a,b with
 |.Add,.int i,.int j=>k (.int (i+j))
 |.Add,.str x,.str y=>x.length+y.length≤sz∧k (.str (x++y))
 |.Sub,.int i,.int j=>k (.int (i - j))
 |_,_,_=>False
def iw:D→Bool
 |.int i=>decide (0≤i)&&decide (i < 100)
 |_=>false
def wpM(Φ:aa):Exs→EK→ak→DH→(DH→Prop)→Prop
 |.nil,_,_,G,k=>k G
 |.cons e es,E,ρ,G,k=>wpE Φ e E ρ G fun d G1=>iw d=true∧wpM Φ es E ρ G1 k
def wpX(Φ:aa):Tb→ak→DH→(ak→DH→Prop)→(Xn→ak→DH→Prop)→Prop
 |.call f es,ρ,G,nx,ex=>aN Φ es noE ρ G fun ds G1=>(Φ f).t ds G1 (fun _ G2=>nx ρ G2) fun x G2=>ex x ρ G2
 |.asg i f es,ρ,G,nx,ex=>aN Φ es noE ρ G fun ds G1=>(Φ f).t ds G1 (fun d G2=>nx (ρ.set i (some d)) G2) fun x G2=>ex x ρ G2
 |.ite c a b,ρ,G,nx,ex=>wpT Φ c noE ρ G fun t G1=>match t with |true=>wpX Φ a ρ G1 nx ex |false=>wpX Φ b ρ G1 nx ex
def caught(h:Hd)(C:String)(ρ:ak):ak:=match h with
 |.flag i b=>ρ.set i (some (.bl b))
 |.bind n i=>((ρ.set n (some (.exn C))).set i (some (.exn C))).set n none
mutual
def wpS(Φ:aa):Sx→EK→ak→DH→En→Prop
 |.exp e,E,ρ,G,D=>wpE Φ e E ρ G fun _ G1=>D.nx ρ G1
 |.asg t e,E,ρ,G,D=>wpE Φ e E ρ G fun d G1=>aU t d ρ G1 fun ρ'=>D.nx ρ' G1
 |.set o i e,E,ρ,G,D=>wpE Φ e E ρ G fun x G1=>wpE Φ o E ρ G1 fun a G2=>wpE Φ i E ρ G2 fun y G3=>di a y x G3 fun G4=>D.nx ρ G4
 |.aug i op e,E,ρ,G,D=>match ρ[i]? with
  |some (some a)=>wpE Φ e E ρ G fun b G1=>dC op a b fun c=>D.nx (ρ.set i (some c)) G1
  |_=>False
 |.augs o i op e,E,ρ,G,D=>wpE Φ o E ρ G fun a G1=>wpE Φ i E ρ G1 fun y G2=>cj (view G2 a) y fun old=>wpE Φ e E ρ G2 fun b G3=>dC op old b fun c=>di a y c G3 fun G4=>D.nx ρ G4
 |.ret e,E,ρ,G,D=>wpE Φ e E ρ G D.rt
 |.rtn,_,_,G,D=>D.rt .non G
 |.ite c a b,E,ρ,G,D=>wpT Φ c E ρ G fun t G1=>match t with |true=>au Φ a E ρ G1 D |false=>au Φ b E ρ G1 D
 |.for_ t it body,E,ρ,G,D=>wpI Φ it E ρ G fun items g G1=>
   forLoop (fun d ρ' G' k=>aU t d ρ' G' fun ρ1=>au Φ body E ρ1 G' { D with nx:=k,ct:=k,bk:=D.nx }) g items ρ G1 D.nx
 |.whl c body,E,ρ,G,D=>∃n,whileLoop (fun ρ' G' k=>wpT Φ c E ρ' G' k) (fun ρ' G' k=>au Φ body E ρ' G' { D with nx:=k,ct:=k,bk:=D.nx }) n ρ G D.nx
 |.pas,_,ρ,G,D=>D.nx ρ G
 |.brk,_,ρ,G,D=>D.bk ρ G
 |.cnt,_,ρ,G,D=>D.ct ρ G
 |.nev,_,_,_,_=>False
 |.rse C es,E,ρ,G,_=>wpM Φ es E ρ G fun G1=>E ⟨C,.non⟩ G1
 |.tryc f es C i b,_,ρ,G,D=>aN Φ es noE ρ G fun ds G1=>(Φ f).t ds G1 (fun _ G2=>D.nx ρ G2) fun x G2=>x.cls=C∧x.fld=.non∧D.nx (ρ.set i (some (.bl b))) G2
 |.tryx b C h xs,_,ρ,G,D=>wpX Φ b ρ G D.nx fun x ρ' G'=>x.fld=.non∧xs.contains x.cls=true∧dh x.cls C=true∧D.nx (caught h x.cls ρ') G'
def au(Φ:aa):Sxs→EK→ak→DH→En→Prop
 |.nil,_,ρ,G,D=>D.nx ρ G
 |.cons s r,E,ρ,G,D=>wpS Φ s E ρ G { D with nx:=fun ρ' G'=>au Φ r E ρ' G' D }
end
theorem nP{Φ:aa}{a}{E}{ρ}{G}{k}:wpT Φ (.not a) E ρ G k=(wpT Φ a E ρ G fun b G1=>k (!b) G1):=rfl
theorem nQ{Φ:aa}{isAnd}{e}{es}{E}{ρ}{G}{k}:wpT Φ (.boo isAnd e es) E ρ G k=(wpT Φ e E ρ G fun b G1=>dZ Φ es isAnd b E ρ G1 k):=rfl
theorem nR{Φ:aa}{E}{ρ}{G}{k}:wpT Φ .yes E ρ G k=(k true G):=rfl
theorem nT{Φ:aa}{x}{E}{ρ}{G}{k}:wpT Φ (.val x) E ρ G k=(wpE Φ x E ρ G fun d G1=>match truth (view G1 d) with |some b=>k b G1 |none=>False):=rfl
theorem gk{Φ:aa}{E}{ρ}{G}{k}:aN Φ .nil E ρ G k=(k [] G):=rfl
theorem fj{Φ:aa}{e}{es}{E}{ρ}{G}{k}:aN Φ (.cons e es) E ρ G k=(wpE Φ e E ρ G fun d G1=>aN Φ es E ρ G1 fun ds G2=>k (d::ds) G2):=rfl
theorem nU{Φ:aa}{isAnd:Bool}{b:Bool}{E}{ρ}{G}{k}:wpB Φ .nil isAnd b E ρ G k=(k b G):=rfl
theorem jt{Φ:aa}{e}{es}{isAnd:Bool}{b:Bool}{E}{ρ}{G}{k}:wpB Φ (.cons e es) isAnd b E ρ G k=(match isAnd,b with
  |true,false=>k false G
  |false,true=>k true G
  |_,_=>wpE Φ e E ρ G fun d G1=>match d with |.bl b'=>wpB Φ es isAnd b' E ρ G1 k |_=>False):=rfl
theorem nW{Φ:aa}{isAnd:Bool}{b:Bool}{E}{ρ}{G}{k}:dZ Φ .nil isAnd b E ρ G k=(k b G):=rfl
theorem ju{Φ:aa}{e}{es}{isAnd:Bool}{b:Bool}{E}{ρ}{G}{k}:dZ Φ (.cons e es) isAnd b E ρ G k=(match isAnd,b with
  |true,false=>k false G
  |false,true=>k true G
  |_,_=>wpT Φ e E ρ G fun b' G1=>dZ Φ es isAnd b' E ρ G1 k):=rfl
theorem nY{Φ:aa}{E}{ρ}{G}{k}:wpO Φ .no E ρ G k=(k none G):=rfl
theorem nZ{Φ:aa}{x}{E}{ρ}{G}{k}:wpO Φ (.ob x) E ρ G k=(wpE Φ x E ρ G fun d G1=>match d with |.int i=>k (some i) G1 |_=>False):=rfl
theorem n6{Φ:aa}{e}{E}{ρ}{G}{k}:wpI Φ (.seq e) E ρ G k=(wpE Φ e E ρ G fun d G1=>match itemsOf G1 d with |some ds=>k ds.1 ds.2 G1 |none=>False):=rfl
theorem oh{Φ:aa}{a}{E}{ρ}{G}{k}:wpI Φ (.rng a) E ρ G k=(wpE Φ a E ρ G fun d G1=>match d with |.int n=>(-(2 ^ 62)≤n∧n < 2 ^ 62)∧k (bC 0 n.toNat) [] G1 |_=>False):=rfl
theorem tM{Φ:aa}{a}{b}{E}{ρ}{G}{k}:wpI Φ (.rng2 a b) E ρ G k=(wpE Φ a E ρ G fun x G1=>wpE Φ b E ρ G1 fun y G2=>match x,y with
  |.int m,.int n=>(-(2 ^ 62)≤m∧m < 2 ^ 62∧-(2 ^ 62)≤n∧n < 2 ^ 62)∧k (bC m (n - m).toNat) [] G2
  |_,_=>False):=rfl
theorem tO{Φ:aa}{a}{E}{ρ}{G}{k}:wpI Φ (.rev a) E ρ G k=(wpE Φ a E ρ G fun d G1=>match d with |.int n=>(-(2 ^ 62)≤n∧n < 2 ^ 62)∧k (nO ((n.toNat:Int) - 1) n.toNat) [] G1 |_=>False):=rfl
theorem tQ{Φ:aa}{a}{b}{c}{E}{ρ}{G}{k}:wpI Φ (.dwn a b c) E ρ G k=(wpE Φ a E ρ G fun x G1=>wpE Φ b E ρ G1 fun y G2=>wpE Φ c E ρ G2 fun z G3=>match x,y,z with
  |.int m,.int n,.int s=>(s=-1∧-(2 ^ 62)≤m∧m < 2 ^ 62∧-(2 ^ 62)≤n∧n < 2 ^ 62)∧k (nO m (m - n).toNat) [] G3
  |_,_,_=>False):=rfl
theorem ou{Φ:aa}{e}{E}{ρ}{G}{k}:wpI Φ (.enm e) E ρ G k=(wpE Φ e E ρ G fun d G1=>match itemsOf G1 d with |some ds=>k (cP 0 ds.1) ds.2 G1 |none=>False):=rfl
theorem oA{Φ:aa}{a}{b}{E}{ρ}{G}{k}:wpI Φ (.zip a b) E ρ G k=(wpE Φ a E ρ G fun x G1=>wpE Φ b E ρ G1 fun y G2=>match itemsOf G2 x,itemsOf G2 y with |some ds,some es=>k (bO ds.1 es.1) (ds.2++es.2) G2 |_,_=>False):=rfl
theorem iy{Φ:aa}{E}{ρ}{G}{D}:au Φ .nil E ρ G D=(D.nx ρ G):=rfl
theorem iz{Φ:aa}{s}{r}{E}{ρ}{G}{D}:au Φ (.cons s r) E ρ G D=(wpS Φ s E ρ G { D with nx:=fun ρ' G'=>au Φ r E ρ' G' D }):=rfl
theorem oE{Φ:aa}{i E ρ G k}:wpE Φ (.var i) E ρ G k=(match ρ[i]? with |some (some d)=>k d G |_=>False):=rfl
theorem gm{Φ:aa}{d E ρ G k}:wpE Φ (.cst d) E ρ G k=(k d G):=rfl
theorem oF{Φ:aa}{u0 d E ρ G k}:wpE Φ (.glb u0 d) E ρ G k=(k d G):=rfl
theorem oG{Φ:aa}{op fz a b E ρ G k}:wpE Φ (.bin op fz a b) E ρ G k=(wpE Φ a E ρ G fun x G1=>wpE Φ b E ρ G1 fun y G2=>bT op fz (view G2 x) (view G2 y) G2 k):=rfl
theorem oH{Φ:aa}{a E ρ G k}:wpE Φ (.neg a) E ρ G k=(wpE Φ a E ρ G fun x G1=>match x with |.int i=>k (.int (-i)) G1 |_=>False):=rfl
theorem oJ{Φ:aa}{op a b E ρ G k}:wpE Φ (.cmp op a b) E ρ G k=(wpE Φ a E ρ G fun x G1=>wpE Φ b E ρ G1 fun y G2=>aR op (view G2 x) (view G2 y) fun c=>k (.bl c) G2):=rfl
theorem oK{Φ:aa}{op op' a b c E ρ G k}:wpE Φ (.chn op op' a b c) E ρ G k=(wpE Φ a E ρ G fun x G1=>wpE Φ b E ρ G1 fun y G2=>aR op (view G2 x) (view G2 y) fun t=>
   match t with
   |true=>wpE Φ c E ρ G2 fun z G3=>aR op' (view G3 y) (view G3 z) fun t'=>k (.bl t') G3
   |false=>k (.bl false) G2):=rfl
theorem oM{Φ:aa}{a E ρ G k}:wpE Φ (.not a) E ρ G k=(wpE Φ a E ρ G fun x G1=>match truth (view G1 x) with |some b=>k (.bl (!b)) G1 |none=>False):=rfl
theorem oN{Φ:aa}{isAnd e es E ρ G k}:wpE Φ (.boo isAnd e es) E ρ G k=(wpE Φ e E ρ G fun d G1=>match d with |.bl b=>wpB Φ es isAnd b E ρ G1 (fun c G2=>k (.bl c) G2) |_=>False):=rfl
theorem tR{Φ:aa}{c a b E ρ G k}:wpE Φ (.ife c a b) E ρ G k=(wpT Φ c E ρ G fun t G1=>match t with |true=>wpE Φ a E ρ G1 k |false=>wpE Φ b E ρ G1 k):=rfl
theorem oO{Φ:aa}{es E ρ G k}:wpE Φ (.tup es) E ρ G k=(aN Φ es E ρ G fun ds G1=>ds.length≤sz∧k (.tup ds) G1):=rfl
theorem oR{Φ:aa}{fz es E ρ G k}:wpE Φ (.lst fz es) E ρ G k=(aN Φ es E ρ G fun ds G1=>ds.length≤sz∧mk fz ds G1 k):=rfl
theorem oU{Φ:aa}{a i E ρ G k}:wpE Φ (.idx a i) E ρ G k=(wpE Φ a E ρ G fun x G1=>wpE Φ i E ρ G1 fun y G2=>cj (view G2 x) y fun d=>k d G2):=rfl
theorem oV{Φ:aa}{fz a s E ρ G k}:wpE Φ (.rvs fz a s) E ρ G k=(wpE Φ a E ρ G fun x G1=>wpE Φ s E ρ G1 fun y G2=>gh fz (view G2 x) y G2 k):=rfl
theorem oW{Φ:aa}{fz a lo hi E ρ G k}:wpE Φ (.slc fz a lo hi) E ρ G k=(wpE Φ a E ρ G fun x G1=>wpO Φ lo E ρ G1 fun l G2=>wpO Φ hi E ρ G2 fun h G3=>c7 fz (view G3 x) l h G3 k):=rfl
theorem oX{Φ:aa}{f es E ρ G k}:wpE Φ (.call f es) E ρ G k=(aN Φ es E ρ G fun ds G1=>(Φ f).t ds G1 k E):=rfl
theorem oY{Φ:aa}{f es E ρ G k}:wpE Φ (.bcl f es) E ρ G k=(aN Φ es E ρ G fun ds G1=>opB f (ds.map (view G1)) fun d=>k d G1):=rfl
theorem oZ{Φ:aa}{fz f es E ρ G k}:wpE Φ (.lcl fz f es) E ρ G k=(aN Φ es E ρ G fun ds G1=>cG f (ds.map (view G1)) fun xs=>mk fz xs G1 k):=rfl
theorem o9{Φ:aa}{a t E ρ G k}:wpE Φ (.isi a t) E ρ G k=(wpE Φ a E ρ G fun x G1=>match isT t (view G1 x) with |some b=>k (.bl b) G1 |none=>False):=rfl
theorem ph{Φ:aa}{a C xs E ρ G k}:wpE Φ (.isx a C xs) E ρ G k=(wpE Φ a E ρ G fun x G1=>match x with |.exn c=>xs.contains c=true∧k (.bl (dh c C)) G1 |_=>False):=rfl
theorem tU{Φ:aa}{es E ρ G k}:wpE Φ (.fst es) E ρ G k=(wpF Φ es E ρ G fun l G1=>l.length≤sz∧k (.str l) G1):=rfl
theorem tV{Φ:aa}{E ρ G k}:wpF Φ .nil E ρ G k=k [] G:=rfl
theorem tW{Φ:aa}{e es E ρ G k}:wpF Φ (.cons e es) E ρ G k=(wpE Φ e E ρ G fun d G1=>match d with
  |.str l=>l.length≤1000∧wpF Φ es E ρ G1 fun x G2=>k (l++x) G2
  |.int i=>(0≤i∧i < 100)∧wpF Φ es E ρ G1 fun x G2=>k (dX i.toNat++x) G2
  |_=>False):=rfl
theorem d7{Φ:aa}{m o es E ρ G k}:wpE Φ (.mth m o es) E ρ G k=(wpE Φ o E ρ G fun x G1=>recv m x G1∧aN Φ es E ρ G1 fun ds G2=>opM m x ds G2 k):=rfl
theorem pq{Φ:aa}{a E ρ G k}:wpE Φ (.frz a) E ρ G k=(wpE Φ a E ρ G fun x G1=>match x with |.ref p=>(match G1 p with |some (.lst ds)=>k (.lst ds) (gf G1 p) |none=>False) |d=>k d G1):=rfl
theorem pA{Φ:aa}{e E ρ G D}:wpS Φ (.exp e) E ρ G D=(wpE Φ e E ρ G fun _ G1=>D.nx ρ G1):=rfl
theorem iB{Φ:aa}{t e E ρ G D}:wpS Φ (.asg t e) E ρ G D=(wpE Φ e E ρ G fun d G1=>aU t d ρ G1 fun ρ'=>D.nx ρ' G1):=rfl
theorem pB{Φ:aa}{o i e E ρ G D}:wpS Φ (.set o i e) E ρ G D=(wpE Φ e E ρ G fun x G1=>wpE Φ o E ρ G1 fun a G2=>wpE Φ i E ρ G2 fun y G3=>di a y x G3 fun G4=>D.nx ρ G4):=rfl
theorem tX{Φ:aa}{i op e E ρ G D}:wpS Φ (.aug i op e) E ρ G D=(match ρ[i]? with
  |some (some a)=>wpE Φ e E ρ G fun b G1=>dC op a b fun c=>D.nx (ρ.set i (some c)) G1
  |_=>False):=rfl
theorem tY{Φ:aa}{o i op e E ρ G D}:wpS Φ (.augs o i op e) E ρ G D=(wpE Φ o E ρ G fun a G1=>wpE Φ i E ρ G1 fun y G2=>cj (view G2 a) y fun old=>wpE Φ e E ρ G2 fun b G3=>dC op old b fun c=>di a y c G3 fun G4=>D.nx ρ G4):=rfl
theorem pC{Φ:aa}{e E ρ G D}:wpS Φ (.ret e) E ρ G D=(wpE Φ e E ρ G D.rt):=rfl
theorem pF{Φ:aa}{E ρ G D}:wpS Φ .rtn E ρ G D=(D.rt .non G):=rfl
theorem pG{Φ:aa}{c a b E ρ G D}:wpS Φ (.ite c a b) E ρ G D=(wpT Φ c E ρ G fun t G1=>match t with |true=>au Φ a E ρ G1 D |false=>au Φ b E ρ G1 D):=rfl
theorem pH{Φ:aa}{E ρ G D}:wpS Φ .pas E ρ G D=(D.nx ρ G):=rfl
theorem pI{Φ:aa}{E ρ G D}:wpS Φ .brk E ρ G D=(D.bk ρ G):=rfl
theorem pJ{Φ:aa}{E ρ G D}:wpS Φ .cnt E ρ G D=(D.ct ρ G):=rfl
theorem jw{Φ:aa}{C es E ρ G D}:wpS Φ (.rse C es) E ρ G D=(wpM Φ es E ρ G fun G1=>E ⟨C,.non⟩ G1):=rfl
theorem tZ{Φ:aa}{E ρ G k}:wpM Φ .nil E ρ G k=k G:=rfl
theorem pK{Φ:aa}{e es E ρ G k}:wpM Φ (.cons e es) E ρ G k=(wpE Φ e E ρ G fun d G1=>iw d=true∧wpM Φ es E ρ G1 k):=rfl
theorem uc{Φ:aa}{f es C i b E ρ G D}:wpS Φ (.tryc f es C i b) E ρ G D=(aN Φ es noE ρ G fun ds G1=>(Φ f).t ds G1 (fun _ G2=>D.nx ρ G2) fun x G2=>x.cls=C∧x.fld=.non∧D.nx (ρ.set i (some (.bl b))) G2):=rfl
theorem jx{Φ:aa}{b C h xs E ρ G D}:wpS Φ (.tryx b C h xs) E ρ G D=(wpX Φ b ρ G D.nx fun x ρ' G'=>x.fld=.non∧xs.contains x.cls=true∧dh x.cls C=true∧D.nx (caught h x.cls ρ') G'):=rfl
theorem pL{Φ:aa}{f es ρ G nx ex}:wpX Φ (.call f es) ρ G nx ex=(aN Φ es noE ρ G fun ds G1=>(Φ f).t ds G1 (fun _ G2=>nx ρ G2) fun x G2=>ex x ρ G2):=rfl
theorem pM{Φ:aa}{i f es ρ G nx ex}:wpX Φ (.asg i f es) ρ G nx ex=(aN Φ es noE ρ G fun ds G1=>(Φ f).t ds G1 (fun d G2=>nx (ρ.set i (some d)) G2) fun x G2=>ex x ρ G2):=rfl
theorem pN{Φ:aa}{c a b ρ G nx ex}:wpX Φ (.ite c a b) ρ G nx ex=(wpT Φ c noE ρ G fun t G1=>match t with |true=>wpX Φ a ρ G1 nx ex |false=>wpX Φ b ρ G1 nx ex):=rfl
theorem pO{Φ:aa}{E ρ G D}:wpS Φ .nev E ρ G D=(False):=rfl
theorem ud{Φ:aa}{fz elt tg it cond N cap E ρ G k}:wpE Φ (.comp fz elt tg it cond N cap) E ρ G k=(wpI Φ it E ρ G fun items g G1=>
   compLoop (fun d ρ' G' k'=>aU tg d ρ' G' fun ρ1=>wpT Φ cond noE ρ1 G' fun b G2=>match b with |true=>wpE Φ elt noE ρ1 G2 fun y G3=>k' (some y) ρ1 G3 |false=>k' none ρ1 G2)
    g items [] (cap.map fun o=>match o with |none=>none |some j=>(ρ[j]?).join) G1 fun ds G2=>mk fz ds G2 k):=rfl
theorem yV{Φ:aa}{t it body E ρ G D}:wpS Φ (.for_ t it body) E ρ G D=(wpI Φ it E ρ G fun items g G1=>
   forLoop (fun d ρ' G' k=>aU t d ρ' G' fun ρ1=>au Φ body E ρ1 G' { D with nx:=k,ct:=k,bk:=D.nx }) g items ρ G1 D.nx):=rfl
theorem T8{Φ:aa}{c body E ρ G D}:wpS Φ (.whl c body) E ρ G D=(∃n,whileLoop (fun ρ' G' k=>wpT Φ c E ρ' G' k) (fun ρ' G' k=>au Φ body E ρ' G' { D with nx:=k,ct:=k,bk:=D.nx }) n ρ G D.nx):=rfl
end RF
namespace RF
open PySem L2
section
variable {k k':D→DH→Prop} {G:DH}
theorem dj{fz:Bool}{xs:List D}(h:∀d G',k d G'→k' d G')(q:mk fz xs G k):mk fz xs G k':=by
 cases fz with
 |true=>exact h _ _ q
 |false=>exact fun p hp=>h _ _ (q p hp)
theorem yW{a b:D}{p:Int→Int→Prop}(h:eZ a b p):∃i j,a=.int i∧b=.int j∧p i j:=by
 cases a with
 |int i=>cases b with
  |int j=>exact ⟨i,j,rfl,rfl,h⟩
  |_=>exact h.elim
 |_=>exact h.elim
theorem pP{a b:D}{p q:Int→Int→Prop}(h:∀i j,p i j→q i j)(z:eZ a b p):eZ a b q:=by
 obtain ⟨i,j,rfl,rfl,z⟩:=yW z
 exact h i j z
theorem yX{op:Operator}{fz:Bool}{a b:D}(h:∀d G',k d G'→k' d G')(q:bT op fz a b G k):bT op fz a b G k':=by
 cases op with
 |Add=>
  have q:gZ fz a b G k:=q
  show gZ fz a b G k'
  unfold gZ at q ⊢
  cases a with
  |int i=>cases b <;> first |exact h _ _ q |exact q
  |str i=>cases b <;> first |exact ⟨q.1,h _ _ q.2⟩ |exact q
  |lst i=>cases b <;> first |exact ⟨q.1,dj h q.2⟩ |exact q
  |tup i=>cases b <;> first |exact ⟨q.1,h _ _ q.2⟩ |exact q
  |_=>exact q
 |Sub=>exact pP (fun _ _ z=>h _ _ z) q
 |Mult=>
  have q:g8 fz a b G k:=q
  show g8 fz a b G k'
  unfold g8 at q ⊢
  cases b with
  |int n=>cases a <;> first |exact ⟨q.1,h _ _ q.2⟩ |exact ⟨q.1,q.2.1,q.2.2.1,h _ _ q.2.2.2⟩ |exact ⟨q.1,q.2.1,q.2.2.1,dj h q.2.2.2⟩ |exact ⟨q.1,q.2.1,q.2.2.1,q.2.2.2.1,h _ _ q.2.2.2.2⟩ |exact q
  |_=>exact q
 |FloorDiv=>exact pP (fun _ _ z=>⟨z.1,h _ _ z.2⟩) q
 |Mod=>exact pP (fun _ _ z=>⟨z.1,h _ _ z.2⟩) q
 |Pow=>exact pP (fun _ _ z=>⟨z.1,h _ _ z.2⟩) q
 |_=>exact q
theorem yZ{a b:D}{k k':Bool→Prop}(h:∀c,k c→k' c)(q:dW a b k):dW a b k':=by
 unfold dW at q ⊢
 split at q
 ·split at q
  ·exact h _ q
  ·exact q
 ·exact ⟨q.1,h _ q.2⟩
 ·exact ⟨q.1,h _ q.2⟩
 ·exact q
theorem gn{op:CmpOp}{a b:D}{k k':Bool→Prop}(h:∀c,k c→k' c)(q:aR op a b k):aR op a b k':=by
 cases op with
 |Eq=>exact ⟨q.1,h _ q.2⟩
 |NotEq=>exact ⟨q.1,h _ q.2⟩
 |Lt=>have q:ie a b k:=q;show ie a b k';unfold ie at q ⊢;split at q <;> first |exact h _ q |exact q
 |LtE=>have q:ig a b k:=q;show ig a b k';unfold ig at q ⊢;split at q <;> first |exact h _ q |exact q
 |Gt=>have q:ik a b k:=q;show ik a b k';unfold ik at q ⊢;split at q <;> first |exact h _ q |exact q
 |GtE=>have q:il a b k:=q;show il a b k';unfold il at q ⊢;split at q <;> first |exact h _ q |exact q
 |Is=>
  have q:ir a b k:=q
  show ir a b k'
  unfold ir at q ⊢
  split at q
  ·exact h _ q
  ·split at q
   ·exact h _ q
   ·exact q
  ·exact q
 |IsNot=>
  have q:iu a b k:=q
  show iu a b k'
  unfold iu at q ⊢
  split at q
  ·exact h _ q
  ·split at q
   ·exact h _ q
   ·exact q
  ·exact q
 |In=>exact yZ h q
 |NotIn=>exact yZ (fun c=>h _) q
theorem ue{a i:D}{k k':D→Prop}(h:∀c,k c→k' c)(q:cj a i k):cj a i k':=by
 unfold cj at q ⊢
 split at q
 ·split at q
  ·exact h _ q
  ·exact q
 ·split at q
  ·exact h _ q
  ·exact q
 ·split at q
  ·exact h _ q
  ·exact q
 ·exact q
theorem za{fz:Bool}{a:D}{lo hi:Option Int}(h:∀d G',k d G'→k' d G')(q:c7 fz a lo hi G k):c7 fz a lo hi G k':=by
 unfold c7 at q ⊢
 split at q <;> first
  |exact dj h q
  |exact h _ _ q
  |exact q.elim
theorem zb{fz:Bool}{a y:D}(h:∀d G',k d G'→k' d G')(q:gh fz a y G k):gh fz a y G k':=by
 unfold gh at q ⊢
 split at q
 ·exact ⟨q.1,dj h q.2⟩
 ·exact q.elim
theorem zc{f:Bf}{as:List D}{k k':D→Prop}(h:∀c,k c→k' c)(q:opB f as k):opB f as k':=by
 cases f with
 |len=>simp only[opB,sX]at q ⊢;split at q <;> first |exact h _ q |exact q.elim
 |all=>
  simp only[opB,nq]at q ⊢
  split at q
  ·split at q
   ·exact h _ q
   ·exact q
  ·exact q
 |int=>
  simp only[opB,nu]at q ⊢
  split at q
  ·exact h _ q
  ·exact h _ q
  ·split at q
   ·exact ⟨q.1,h _ q.2⟩
   ·exact q
  ·exact q
 |tuple=>simp only[opB,sY]at q ⊢;split at q <;> first |exact h _ q |exact q.elim
 |sum=>
  simp only[opB,sZ]at q ⊢
  split at q
  ·split at q
   ·exact h _ q
   ·exact q
  ·exact q
 |min=>
  simp only[opB,yS]at q ⊢
  split at q
  ·split at q
   ·exact ⟨q.1,fun m h1 h2=>h _ (q.2 m h1 h2)⟩
   ·split at q
    ·exact fun m h1 h2=>h _ (q m h1 h2)
    ·exact q
  ·exact q
 |max=>simp only[opB,yU]at q ⊢;split at q <;> first |exact h _ q |exact q.elim
 |str=>
  simp only[opB,tu]at q ⊢
  split at q
  ·exact ⟨q.1,h _ q.2⟩
  ·exact q
theorem zf{f:Lf}{as:List D}{k k':List D→Prop}(h:∀c,k c→k' c)(q:cG f as k):cG f as k':=by
 cases f with
 |list=>simp only[cG,tB]at q ⊢;split at q <;> first |exact h _ q |exact q.elim
 |sorted=>
  simp only[cG,tD]at q ⊢
  split at q
  ·split at q
   ·exact ⟨q.1,fun ls p z=>h _ (q.2 ls p z)⟩
   ·exact q
  ·exact q
theorem gq{m:Mf}{o:D}{as:List D}(h:∀d G',k d G'→k' d G')(q:opM m o as G k):opM m o as G k':=by
 cases m with
 |join=>
  simp only[opM,nA]at q ⊢
  split at q
  ·split at q
   ·exact ⟨q.1,h _ _ q.2⟩
   ·exact q
  ·exact q
 |append=>
  simp only[opM,nF]at q ⊢
  split at q
  ·split at q
   ·exact ⟨q.1,h _ _ q.2⟩
   ·exact q
  ·exact q
 |extend=>
  simp only[opM,nG]at q ⊢
  split at q
  ·split at q
   ·exact ⟨q.1,h _ _ q.2⟩
   ·exact q
  ·exact q
 |insert=>
  simp only[opM,nH]at q ⊢
  split at q
  ·split at q
   ·exact ⟨q.1,q.2.1,q.2.2.1,h _ _ q.2.2.2⟩
   ·exact q
  ·exact q
 |count=>
  simp only[opM,nJ]at q ⊢
  split at q
  ·split at q
   ·exact h _ _ q
   ·exact q
  ·exact q
 |index=>
  simp only[opM,nM]at q ⊢
  split at q
  ·split at q
   ·exact ⟨q.1,h _ _ q.2⟩
   ·exact q
  ·exact q
theorem uf{o i x:D}{k k':DH→Prop}(h:∀G',k G'→k' G')(q:di o i x G k):di o i x G k':=by
 unfold di at q ⊢
 split at q
 ·split at q
  ·split at q
   ·exact h _ q
   ·exact q
  ·exact q
 ·exact q
theorem zg{op:Operator}{a b:D}{k k':D→Prop}(h:∀c,k c→k' c)(q:dC op a b k):dC op a b k':=by
 unfold dC at q ⊢
 split at q <;> first
  |exact h _ q
  |exact ⟨q.1,h _ q.2⟩
  |exact q.elim
mutual
theorem d8{k k':ak→Prop}(h:∀ρ,k ρ→k' ρ):∀(t:Tg){d:D}{ρ:ak},aU t d ρ G k→aU t d ρ G k'
 |.nm i,d,ρ,q=>h _ q
 |.tp ts,d,ρ,q=>by
  unfold aU at q ⊢
  split at q
  ·exact ug h ts q
  ·exact ug h ts q
  ·exact q
theorem ug{k k':ak→Prop}(h:∀ρ,k ρ→k' ρ):∀(ts:Tgs){ds:List D}{ρ:ak},bB ts ds ρ G k→bB ts ds ρ G k'
 |.nil,ds,ρ,q=>by
  unfold bB at q ⊢
  split at q
  ·exact h _ q
  ·exact q
 |.cons t r,ds,ρ,q=>by
  unfold bB at q ⊢
  split at q
  ·exact d8 (fun ρ' q'=>ug h r q') t q
  ·exact q
end
theorem pQ{step step':D→ak→DH→(Option D→ak→DH→Prop)→Prop}(hs:∀d ρ G (k k':Option D→ak→DH→Prop),(∀o ρ' G',k o ρ' G'→k' o ρ' G')→step d ρ G k→step' d ρ G k')
  {g:Hld} {k k':List D→DH→Prop} (h:∀ds G',k ds G'→k' ds G'):∀(ds acc:List D)(ρ:ak)(G:DH),compLoop step g ds acc ρ G k→compLoop step' g ds acc ρ G k'
 |[],acc,ρ,G,q=>⟨q.1,q.2.1,h _ _ q.2.2⟩
 |d::ds,acc,ρ,G,q=>by
  refine ⟨q.1,q.2.1,hs d ρ G _ _ (fun o ρ' G' z=>?_) q.2.2⟩
  cases o with
  |some y=>exact pQ hs h ds (acc++[y]) ρ' G' z
  |none=>exact pQ hs h ds acc ρ' G' z
theorem zj{step step':D→ak→DH→(ak→DH→Prop)→Prop}(hs:∀d ρ G (k k':ak→DH→Prop),(∀ρ' G',k ρ' G'→k' ρ' G')→step d ρ G k→step' d ρ G k')
  {g:Hld} {k k':ak→DH→Prop} (h:∀ρ G',k ρ G'→k' ρ G'):∀(ds:List D)(ρ:ak)(G:DH),forLoop step g ds ρ G k→forLoop step' g ds ρ G k'
 |[],ρ,G,q=>⟨q.1,h _ _ q.2⟩
 |d::ds,ρ,G,q=>⟨q.1,hs d ρ G _ _ (fun ρ' G' z=>zj hs h ds ρ' G' z) q.2⟩
theorem zm{test test':ak→DH→(Bool→DH→Prop)→Prop}{body body':ak→DH→(ak→DH→Prop)→Prop}
  (ht:∀ρ G (k k':Bool→DH→Prop),(∀b G',k b G'→k' b G')→test ρ G k→test' ρ G k') (hb:∀ρ G (k k':ak→DH→Prop),(∀ρ' G',k ρ' G'→k' ρ' G')→body ρ G k→body' ρ G k')
  {k k':ak→DH→Prop} (h:∀ρ G',k ρ G'→k' ρ G'):∀(n:Nat)(ρ:ak)(G:DH),whileLoop test body n ρ G k→whileLoop test' body' n ρ G k'
 |0,ρ,G,q=>q
 |n+1,ρ,G,q=>ht ρ G _ _ (fun b G' z=>by
   cases b with
   |true=>exact hb ρ G' _ _ (fun ρ' G'' z'=>zm ht hb h n ρ' G'' z') z
   |false=>exact h _ _ z) q
end
section
variable {Φ:aa} {G:DH}
mutual
theorem aD{E:EK}{ρ:ak}:∀(x:Ex){G:DH}{k k':D→DH→Prop},(∀d G',k d G'→k' d G')→wpE Φ x E ρ G k→wpE Φ x E ρ G k'
 |.var i,G,k,k',h,q=>by
  rw[oE]at q ⊢
  split at q
  ·exact h _ _ q
  ·exact q
 |.cst d,G,k,k',h,q=>by rw[gm]at q ⊢;exact h _ _ q
 |.glb x d,G,k,k',h,q=>by rw[oF]at q ⊢;exact h _ _ q
 |.bin op fz a b,G,k,k',h,q=>by
  rw[oG]at q ⊢
  exact aD a (fun _ _ q=>aD b (fun _ _ q=>yX h q) q) q
 |.neg a,G,k,k',h,q=>by
  rw[oH]at q ⊢
  refine aD a (fun x _ q=>?_) q
  split at q
  ·exact h _ _ q
  ·exact q
 |.cmp op a b,G,k,k',h,q=>by
  rw[oJ]at q ⊢
  exact aD a (fun _ _ q=>aD b (fun _ _ q=>gn (fun _ q=>h _ _ q) q) q) q
 |.chn op op' a b c,G,k,k',h,q=>by
  rw[oK]at q ⊢
  refine aD a (fun _ _ q=>aD b (fun _ _ q=>gn (fun t q=>?_) q) q) q
  cases t with
  |true=>exact aD c (fun _ _ q=>gn (fun _ q=>h _ _ q) q) q
  |false=>exact h _ _ q
 |.not a,G,k,k',h,q=>by
  rw[oM]at q ⊢
  refine aD a (fun x _ q=>?_) q
  split at q
  ·exact h _ _ q
  ·exact q
 |.boo isAnd e es,G,k,k',h,q=>by
  rw[oN]at q ⊢
  refine aD e (fun x _ q=>?_) q
  split at q
  ·exact pR es (fun _ _ q=>h _ _ q) q
  ·exact q
 |.ife c a b,G,k,k',h,q=>by
  rw[tR]at q ⊢
  refine cH c (fun t _ q=>?_) q
  cases t with
  |true=>exact aD a h q
  |false=>exact aD b h q
 |.tup es,G,k,k',h,q=>by
  rw[oO]at q ⊢
  exact cQ es (fun _ _ q=>⟨q.1,h _ _ q.2⟩) q
 |.lst fz es,G,k,k',h,q=>by
  rw[oR]at q ⊢
  exact cQ es (fun _ _ q=>⟨q.1,dj h q.2⟩) q
 |.idx a i,G,k,k',h,q=>by
  rw[oU]at q ⊢
  exact aD a (fun _ _ q=>aD i (fun _ _ q=>ue (fun _ q=>h _ _ q) q) q) q
 |.slc fz a lo hi,G,k,k',h,q=>by
  rw[oW]at q ⊢
  exact aD a (fun _ _ q=>ul lo (fun _ _ q=>ul hi (fun _ _ q=>za h q) q) q) q
 |.rvs fz a s,G,k,k',h,q=>by
  rw[oV]at q ⊢
  exact aD a (fun _ _ q=>aD s (fun _ _ q=>zb h q) q) q
 |.call f es,G,k,k',h,q=>by
  rw[oX]at q ⊢
  exact cQ es (fun _ _ q=>Spec.mono q h fun _ _ z=>z) q
 |.bcl f es,G,k,k',h,q=>by
  rw[oY]at q ⊢
  exact cQ es (fun _ _ q=>zc (fun _ q=>h _ _ q) q) q
 |.lcl fz f es,G,k,k',h,q=>by
  rw[oZ]at q ⊢
  exact cQ es (fun _ _ q=>zf (fun _ q=>dj h q) q) q
 |.isi a t,G,k,k',h,q=>by
  rw[o9]at q ⊢
  refine aD a (fun x _ q=>?_) q
  split at q
  ·exact h _ _ q
  ·exact q
 |.isx a C xs,G,k,k',h,q=>by
  rw[ph]at q ⊢
  refine aD a (fun x _ q=>?_) q
  split at q
  ·exact ⟨q.1,h _ _ q.2⟩
  ·exact q
 |.fst es,G,k,k',h,q=>by
  rw[tU]at q ⊢
  exact uh es (fun _ _ q=>⟨q.1,h _ _ q.2⟩) q
 |.mth m o es,G,k,k',h,q=>by
  rw[d7]at q ⊢
  exact aD o (fun _ _ q=>⟨q.1,cQ es (fun _ _ q=>gq h q) q.2⟩) q
 |.comp fz elt tg it cond N cap,G,k,k',h,q=>by
  rw[ud]at q ⊢
  refine jy it (fun items g G1 q=>?_) q
  refine pQ ?_ (fun ds G2 z=>dj h z) items [] _ G1 q
  intro d ρ' G' k k' hk z
  refine d8 (fun ρ1 z=>?_) tg z
  refine cH cond (fun b G2 z=>?_) z
  cases b with
  |true=>exact aD elt (fun y G3 z=>hk _ _ _ z) z
  |false=>exact hk _ _ _ z
 |.frz a,G,k,k',h,q=>by
  rw[pq]at q ⊢
  refine aD a (fun x G1 q=>?_) q
  split at q
  ·split at q
   ·exact h _ _ q
   ·exact q
  ·exact h _ _ q
theorem cH{E:EK}{ρ:ak}:∀(x:Tx){G:DH}{k k':Bool→DH→Prop},(∀d G',k d G'→k' d G')→wpT Φ x E ρ G k→wpT Φ x E ρ G k'
 |.not a,G,k,k',h,q=>by rw[nP]at q ⊢;exact cH a (fun _ _ q=>h _ _ q) q
 |.boo isAnd e es,G,k,k',h,q=>by rw[nQ]at q ⊢;exact cH e (fun _ _ q=>pU es h q) q
 |.yes,G,k,k',h,q=>by rw[nR]at q ⊢;exact h _ _ q
 |.val a,G,k,k',h,q=>by
  rw[nT]at q ⊢
  refine aD a (fun x _ q=>?_) q
  split at q
  ·exact h _ _ q
  ·exact q
theorem uh{E:EK}{ρ:ak}:∀(x:Exs){G:DH}{k k':List Nat→DH→Prop},(∀d G',k d G'→k' d G')→wpF Φ x E ρ G k→wpF Φ x E ρ G k'
 |.nil,G,k,k',h,q=>by rw[tV]at q ⊢;exact h _ _ q
 |.cons e es,G,k,k',h,q=>by
  rw[tW]at q ⊢
  refine aD e (fun d _ q=>?_) q
  split at q
  ·exact ⟨q.1,uh es (fun _ _ q=>h _ _ q) q.2⟩
  ·exact ⟨q.1,uh es (fun _ _ q=>h _ _ q) q.2⟩
  ·exact q
theorem cQ{E:EK}{ρ:ak}:∀(x:Exs){G:DH}{k k':List D→DH→Prop},(∀d G',k d G'→k' d G')→aN Φ x E ρ G k→aN Φ x E ρ G k'
 |.nil,G,k,k',h,q=>by rw[gk]at q ⊢;exact h _ _ q
 |.cons e es,G,k,k',h,q=>by rw[fj]at q ⊢;exact aD e (fun _ _ q=>cQ es (fun _ _ q=>h _ _ q) q) q
theorem pR{E:EK}{ρ:ak}:∀(x:Exs){isAnd b:Bool}{G:DH}{k k':Bool→DH→Prop},(∀d G',k d G'→k' d G')→wpB Φ x isAnd b E ρ G k→wpB Φ x isAnd b E ρ G k'
 |.nil,_,_,G,k,k',h,q=>by rw[nU]at q ⊢;exact h _ _ q
 |.cons e es,isAnd,b,G,k,k',h,q=>by
  rw[jt]at q ⊢
  cases isAnd <;> cases b <;> first
   |exact h _ _ q
   | (refine aD e (fun d _ q=>?_) q
      split at q
      ·exact pR es h q
      ·exact q)
theorem pU{E:EK}{ρ:ak}:∀(x:Txs){isAnd b:Bool}{G:DH}{k k':Bool→DH→Prop},(∀d G',k d G'→k' d G')→dZ Φ x isAnd b E ρ G k→dZ Φ x isAnd b E ρ G k'
 |.nil,_,_,G,k,k',h,q=>by rw[nW]at q ⊢;exact h _ _ q
 |.cons e es,isAnd,b,G,k,k',h,q=>by
  rw[ju]at q ⊢
  cases isAnd <;> cases b <;> first
   |exact h _ _ q
   |exact cH e (fun d _ q=>pU es h q) q
theorem ul{E:EK}{ρ:ak}:∀(x:Ox){G:DH}{k k':Option Int→DH→Prop},(∀d G',k d G'→k' d G')→wpO Φ x E ρ G k→wpO Φ x E ρ G k'
 |.no,G,k,k',h,q=>by rw[nY]at q ⊢;exact h _ _ q
 |.ob a,G,k,k',h,q=>by
  rw[nZ]at q ⊢
  refine aD a (fun x _ q=>?_) q
  split at q
  ·exact h _ _ q
  ·exact q
theorem jy{E:EK}{ρ:ak}:∀(x:It'){G:DH}{k k':List D→Hld→DH→Prop},(∀d g G',k d g G'→k' d g G')→wpI Φ x E ρ G k→wpI Φ x E ρ G k'
 |.seq a,G,k,k',h,q=>by
  rw[n6]at q ⊢
  refine aD a (fun x _ q=>?_) q
  split at q
  ·exact h _ _ _ q
  ·exact q
 |.rng a,G,k,k',h,q=>by
  rw[oh]at q ⊢
  refine aD a (fun x _ q=>?_) q
  split at q
  ·exact ⟨q.1,h _ _ _ q.2⟩
  ·exact q
 |.rev a,G,k,k',h,q=>by
  rw[tO]at q ⊢
  refine aD a (fun x _ q=>?_) q
  split at q
  ·exact ⟨q.1,h _ _ _ q.2⟩
  ·exact q
 |.dwn a b d,G,k,k',h,q=>by
  rw[tQ]at q ⊢
  refine aD a (fun x _ q=>aD b (fun y _ q=>aD d (fun z _ q=>?_) q) q) q
  split at q
  ·exact ⟨q.1,h _ _ _ q.2⟩
  ·exact q
 |.rng2 a b,G,k,k',h,q=>by
  rw[tM]at q ⊢
  refine aD a (fun x _ q=>aD b (fun y _ q=>?_) q) q
  split at q
  ·exact ⟨q.1,h _ _ _ q.2⟩
  ·exact q
 |.enm a,G,k,k',h,q=>by
  rw[ou]at q ⊢
  refine aD a (fun x _ q=>?_) q
  split at q
  ·exact h _ _ _ q
  ·exact q
 |.zip a b,G,k,k',h,q=>by
  rw[oA]at q ⊢
  refine aD a (fun x _ q=>aD b (fun y _ q=>?_) q) q
  split at q
  ·exact h _ _ _ q
  ·exact q
end
structure En.Le(D D':En):Prop where
 nx:∀ρ G,D.nx ρ G→D'.nx ρ G
 rt:∀d G,D.rt d G→D'.rt d G
 bk:∀ρ G,D.bk ρ G→D'.bk ρ G
 ct:∀ρ G,D.ct ρ G→D'.ct ρ G
theorem iC:∀(b:Tb){ρ:ak}{G:DH}{nx nx':ak→DH→Prop}{ex ex':Xn→ak→DH→Prop},(∀ρ G,nx ρ G→nx' ρ G)→(∀x ρ G,ex x ρ G→ex' x ρ G)→wpX Φ b ρ G nx ex→wpX Φ b ρ G nx' ex'
 |.call f es,ρ,G,nx,nx',ex,ex',h,h',q=>by rw[pL]at q ⊢;exact cQ es (fun _ _ q=>Spec.mono q (fun _ _ z=>h _ _ z) fun _ _ z=>h' _ _ _ z) q
 |.asg i f es,ρ,G,nx,nx',ex,ex',h,h',q=>by rw[pM]at q ⊢;exact cQ es (fun _ _ q=>Spec.mono q (fun _ _ z=>h _ _ z) fun _ _ z=>h' _ _ _ z) q
 |.ite c a b,ρ,G,nx,nx',ex,ex',h,h',q=>by
  rw[pN]at q ⊢
  refine cH c (fun t _ q=>?_) q
  cases t with
  |true=>exact iC a h h' q
  |false=>exact iC b h h' q
mutual
theorem wpS_mono{E:EK}:∀(x:Sx){ρ:ak}{G:DH}{D D':En},D.Le D'→wpS Φ x E ρ G D→wpS Φ x E ρ G D'
 |.exp e,ρ,G,D,D',h,q=>by rw[pA]at q ⊢;exact aD e (fun _ _ q=>h.nx _ _ q) q
 |.asg t e,ρ,G,D,D',h,q=>by rw[iB]at q ⊢;exact aD e (fun _ _ q=>d8 (fun _ q=>h.nx _ _ q) t q) q
 |.set o i e,ρ,G,D,D',h,q=>by rw[pB]at q ⊢;exact aD e (fun _ _ q=>aD o (fun _ _ q=>aD i (fun _ _ q=>uf (fun _ q=>h.nx _ _ q) q) q) q) q
 |.aug i op e,ρ,G,D,D',h,q=>by
  rw[tX]at q ⊢
  split at q
  ·exact aD e (fun _ _ q=>zg (fun _ q=>h.nx _ _ q) q) q
  ·exact q
 |.augs o i op e,ρ,G,D,D',h,q=>by
  rw[tY]at q ⊢
  exact aD o (fun _ _ q=>aD i (fun _ _ q=>ue (fun _ q=>aD e (fun _ _ q=>zg (fun _ q=>uf (fun _ q=>h.nx _ _ q) q) q) q) q) q) q
 |.ret e,ρ,G,D,D',h,q=>by rw[pC]at q ⊢;exact aD e (fun _ _ q=>h.rt _ _ q) q
 |.rtn,ρ,G,D,D',h,q=>by rw[pF]at q ⊢;exact h.rt _ _ q
 |.ite c a b,ρ,G,D,D',h,q=>by
  rw[pG]at q ⊢
  refine cH c (fun t _ q=>?_) q
  cases t with
  |true=>exact cR a h q
  |false=>exact cR b h q
 |.for_ t it body,ρ,G,D,D',h,q=>by
  rw[yV]at q ⊢
  exact jy it (fun items g G1 q=>zj (fun d ρ' G' k k' hk z=>d8 (fun ρ1 z=>cR body (D:={ D with nx:=k,ct:=k,bk:=D.nx }) (D':={ D' with nx:=k',ct:=k',bk:=D'.nx }) ⟨hk,h.rt,h.nx,hk⟩ z) t z) h.nx items ρ G1 q) q
 |.whl c body,ρ,G,D,D',h,q=>by
  rw[T8]at q ⊢
  obtain ⟨n,q⟩:=q
  refine ⟨n,?_⟩
  refine zm ?_ ?_ h.nx n ρ G q
  ·exact fun ρ' G' k k' hk z=>cH c hk z
  ·exact fun ρ' G' k k' hk z=>cR body (D:={ D with nx:=k,ct:=k,bk:=D.nx }) (D':={ D' with nx:=k',ct:=k',bk:=D'.nx }) ⟨hk,h.rt,h.nx,hk⟩ z
 |.pas,ρ,G,D,D',h,q=>by rw[pH]at q ⊢;exact h.nx _ _ q
 |.brk,ρ,G,D,D',h,q=>by rw[pI]at q ⊢;exact h.bk _ _ q
 |.cnt,ρ,G,D,D',h,q=>by rw[pJ]at q ⊢;exact h.ct _ _ q
 |.nev,ρ,G,D,D',h,q=>by rw[pO]at q;exact q.elim
 |.rse C es,ρ,G,D,D',h,q=>by rw[jw]at q ⊢;exact q
 |.tryc f es C i b,ρ,G,D,D',h,q=>by rw[uc]at q ⊢;exact cQ es (fun _ _ q=>Spec.mono q (fun _ _ z=>h.nx _ _ z) fun _ _ z=>⟨z.1,z.2.1,h.nx _ _ z.2.2⟩) q
 |.tryx b C hd xs,ρ,G,D,D',h,q=>by rw[jx]at q ⊢;exact iC b (fun _ _ z=>h.nx _ _ z) (fun _ _ _ z=>⟨z.1,z.2.1,z.2.2.1,h.nx _ _ z.2.2.2⟩) q
theorem cR{E:EK}:∀(x:Sxs){ρ:ak}{G:DH}{D D':En},D.Le D'→au Φ x E ρ G D→au Φ x E ρ G D'
 |.nil,ρ,G,D,D',h,q=>by rw[iy]at q ⊢;exact h.nx _ _ q
 |.cons s r,ρ,G,D,D',h,q=>by rw[iz]at q ⊢;exact wpS_mono s (D:={ D with nx:=fun ρ' G'=>au Φ r E ρ' G' D }) (D':={ D' with nx:=fun ρ' G'=>au Φ r E ρ' G' D' }) ⟨fun _ _ z=>cR r h z,h.rt,h.bk,h.ct⟩ q
end
end
end RF
namespace RF
open PySem PySem.Spec PyProof.Rows L2
def PV(K:PySem.W.Frag)(H:Hp)(F:FZ)(Q:VK):D→DH→Prop:=fun d G'=>∀H' F' v,Ext H F H' F'→R K H' F' G'→Rep K H' F' d v→Q v H'
def PB(K:PySem.W.Frag)(H:Hp)(F:FZ)(Q:Bool→Hp→Prop):Bool→DH→Prop:=fun b G'=>∀H' F',Ext H F H' F'→R K H' F' G'→Q b H'
def PLs(K:PySem.W.Frag)(H:Hp)(F:FZ)(Q:List V→Hp→Prop):List D→DH→Prop:=fun ds G'=>∀H' F' vs,Ext H F H' F'→R K H' F' G'→Reps K H' F' ds vs→Q vs H'
section
variable {K:PySem.W.Frag} {H:Hp} {F:FZ} {G:DH} {Q:VK}
theorem PV.now{d:D}{v:V}(h:PV K H F Q d G)(r:R K H F G)(q:Rep K H F d v):Q v H:=h H F v (Ext.refl H F) r q
theorem dD{fz:Bool}{ds:List D}{vs:List V}(h:mk fz ds G (PV K H F Q))(r:R K H F G)(t:Reps K H F ds vs)(p:Addr)(hp:H p=none):Q (.ref p) (upd H p (.lst vs)):=by
 cases fz with
 |true=>exact h _ _ _ (sU r hp) (r.newF hp) (T5 r hp t)
 |false=>exact h p (r.free hp) _ _ _ (cY r hp) (r.newL hp t) rfl
theorem jz{ds:List D}{vs:List V}(h:PV K H F Q (.tup ds) G)(r:R K H F G)(t:Reps K H F ds vs)(p:Addr)(hp:H p=none):Q (.ref p) (upd H p (.tup vs)):=
 h _ _ _ (cY r hp) (r.new hp) (sV r hp t)
end
theorem szl:sz≤sizeLine:=by rw[sizeLine_eq];decide
theorem cI{n:Nat}(h:n≤sz):n≤sizeLine:=Nat.le_trans h szl
def rB2(K:PySem.W.Frag)(f:D→D→DH→(D→DH→Prop)→Prop):R2:=fun x y H Q=>∃F G a b,R K H F G∧Rep K H F a x∧Rep K H F b y∧f (view G a) (view G b) G (PV K H F Q)
section
variable {X:Cx}
theorem T9:OpR X (binaryOp .Add) (fun x y H Q=>∃a b xs ys,x=.ref a∧y=.ref b∧SqL X.K H a xs∧SqL X.K H b ys∧xs.length+ys.length≤sizeLine∧∀p,H p=none→Q (.ref p) (upd H p (.lst (xs++ys)))):=by
 intro pins s σ H x y v u Q I rx ry h
 obtain ⟨a,b,xs,ys,rfl,rfl,ha,hb,hz,q⟩:=h
 cases rx
 cases ry
 obtain ⟨its,r1,p1,_⟩:=I.list ha
 obtain ⟨its2,r2,p2,_⟩:=I.list hb
 obtain ⟨⟨cls,dd,data,sl⟩,ho,hc,n,hd⟩:=p1.isList
 obtain ⟨⟨cls2,dd2,data2,sl2⟩,ho2,hc2,n2,hd2⟩:=p2.isList
 simp only at hc hd hc2 hd2
 subst hc hd hc2 hd2
 have e:its.toArray++its2.toArray=(its++its2).toArray:=by simp
 refine concat_meets ⟨_,ho,rfl⟩ ⟨_,ho2,rfl⟩ noFill_list_add seq_list_add PySem.F.slot_list_add PySem.F.entry_list_add (PySem.F.args_list_add_2 _ _)
  (list_addW a b its.toArray its2.toArray n n2 dd dd2 sl sl2 (by rw[List.size_toArray,List.size_toArray,←r1.length,←r2.length];exact hz)) ⟨ho,ho2,?_⟩
 rw[e]
 exact ⟨.ref _,_,I.lnew (t':=s.toks) (r1.append r2) (by rw[List.length_append];exact hz),rfl,q _ I.fresh⟩
theorem Ua:OpR X (binaryOp .Add) (fun x y H Q=>∃a b ys,x=.ref a∧y=.ref b∧SqT X.K H a []∧SqT X.K H b ys∧Q (.ref b) H):=by
 intro pins s σ H x y v u Q I rx ry h
 obtain ⟨a,b,ys,rfl,rfl,ha,hb,q⟩:=h
 cases rx
 cases ry
 obtain ⟨its,r1,p1,_⟩:=I.tuple ha
 obtain ⟨its2,r2,p2,_⟩:=I.tuple hb
 obtain ⟨⟨cls,dd,data,sl⟩,ho,hc,n,hd⟩:=id p1
 obtain ⟨⟨cls2,dd2,data2,sl2⟩,ho2,hc2,n2,hd2⟩:=id p2
 simp only at hc hd hc2 hd2
 subst hc hd hc2 hd2
 cases r1
 exact concat_meets ⟨_,ho,rfl⟩ ⟨_,ho2,rfl⟩ noFill_tuple_add seq_tuple_add PySem.F.slot_tuple_add PySem.F.entry_tuple_add (PySem.F.args_tuple_add_2 _ _)
   (tuple_addW0 a b _ its2.toArray n n2 dd dd2 sl sl2 (by simp)) ⟨ho,ho2,⟨.ref b,H,I,rfl,q⟩⟩
theorem um{K:PySem.W.Frag}{H:Hp}{F:FZ}{ds:List D}{vs:List V}(t:Reps K H F ds vs):ds=[]↔vs=[]:=by
 have:=t.length
 constructor
 ·intro e;subst e;exact List.length_eq_zero_iff.mp this.symm
 ·intro e;subst e;exact List.length_eq_zero_iff.mp this
theorem Ub{x:Str}{n:Nat}(h1:n≤1000)(h:x.length * n≤sz):MulOk x (n:Int):=by
 have h2:((x.length * n:Nat):Int)≤((1000000:Nat):Int):=Int.ofNat_le.mpr h
 rw[Int.natCast_mul]at h2
 refine ⟨?_,?_,?_⟩
 ·rw[decide_eq_false (by omega),decide_eq_false (by omega)];rfl
 ·intro hn _ hh
  have hp:(0:Int) < n:=by omega
  have h3:(x.length:Int)≤(2 ^ 63 - 1) / n:=(Int.le_ediv_iff_mul_le hp).mpr (Int.le_trans h2 (by decide))
  exact absurd hh (Int.not_lt.mpr h3)
 ·intro _ _
  unfold Builtin.Str.tooLong
  rw[sizeLine_eq,Int.toNat_natCast]
  exact decide_eq_false (by have:sz=1000000:=rfl;omega)
theorem zp(l:List Nat):∀(n:Nat)(acc:List Nat),(List.replicate n l.toArray).foldl (· ++ ·) acc.toArray=(acc++reps l n).toArray
 |0,acc=>by simp[reps]
 |n+1,acc=>by
  rw[List.replicate_succ,List.foldl_cons]
  have e:acc.toArray++l.toArray=(acc++l).toArray:=by simp
  rw[e,zp l n (acc++l)]
  unfold reps
  rw[List.replicate_succ,List.flatten_cons,List.append_assoc]
theorem Uc(n:Nat):reps ([]:List Nat) n=[]:=by
 unfold reps
 induction n with
 |zero=>rfl
 |succ n ih=>rw[List.replicate_succ,List.flatten_cons,ih];rfl
theorem d9{α:Type}(l:List α)(n:Nat):(reps l n).length=n * l.length:=len_rep l n
theorem Ud(l:List Nat)(n:Nat):Txt.mul (tx l) (n:Int)=tx (reps l n):=by
 unfold Txt.mul
 by_cases h:(n:Int) < 1
 ·rw[if_pos h]
  have:n=0:=by omega
  subst this
  rfl
 ·rw[if_neg h]
  by_cases h2:((n:Int)==1||(tx l).length==0)=true
  ·rw[if_pos h2]
   rw[Bool.or_eq_true]at h2
   rcases h2 with h2 |h2
   ·have:n=1:=by have:=eq_of_beq h2;omega
    subst this
    simp[reps]
   ·have h3:=eq_of_beq h2
    rw[cg]at h3
    have:l=[]:=List.length_eq_zero_iff.mp h3
    subst this
    rw[Uc]
  ·rw[if_neg h2]
   have e:=zp l n []
   rw[List.nil_append]at e
   exact congrArg Str.mk (by simpa using e)
theorem Ue(op:Operator)(fz:Bool):OpR X (binaryOp op) (rB2 X.K (bT op fz)):=by
 intro pins s σ H x y v u Q I rx ry h
 obtain ⟨F,G,a,b,r,ra,rb,h⟩:=h
 generalize ea:view G a=va at h
 generalize eb:view G b=vb at h
 have twoI:∀{p:Int→Int→Prop},eZ va vb p→∃i j,x=.int i∧y=.int j∧p i j:=fun {p} h=>by
  obtain ⟨i,j,rfl,rfl,h⟩:=yW h
  cases cZ ea;cases cZ eb
  exact ⟨i,j,ra,rb,h⟩
 cases op with
 |Add=>
  have h:gZ fz va vb G _:=h
  unfold gZ at h
  cases va with
  |int _=>cases vb with
   |int _=>
    cases cZ ea;cases cZ eb
    have ha:x=.int _:=ra
    have hb:y=.int _:=rb
    subst ha;subst hb
    exact PP pins s σ H _ _ v u Q I rx ry ⟨_,_,rfl,rfl,h.now r rfl⟩
   |_=>exact h.elim
  |str _=>cases vb with
   |str _=>
    cases eY ea;cases eY eb
    obtain ⟨ha,la⟩:=ra
    obtain ⟨hb,lb⟩:=rb
    subst ha;subst hb
    refine Qm pins s σ H _ _ v u Q I rx ry ⟨_,_,rfl,rfl,?_,?_⟩
    ·rw[cg,cg];exact cI h.1
    ·rw[sr];exact h.2.now r ⟨rfl,by rw[List.length_append];exact h.1⟩
   |_=>exact h.elim
  |lst _=>cases vb with
   |lst _=>
    obtain ⟨p,vs,rfl,q1,t1⟩:=Rep.list r ra ea
    obtain ⟨p',vs',rfl,q2,t2⟩:=Rep.list r rb eb
    exact T9 pins s σ H _ _ v u Q I rx ry ⟨p,p',vs,vs',rfl,rfl,q1,q2,by rw[←t1.length,←t2.length];exact cI h.1,dD h.2 r (t1.append t2)⟩
   |_=>exact h.elim
  |tup xs=>cases vb with
   |tup ys=>
    cases eX ea;cases eX eb
    obtain ⟨p,vs,rfl,q1,t1⟩:=id ra
    obtain ⟨p',vs',rfl,q2,t2⟩:=id rb
    by_cases hx:vs=[]
    ·subst hx
     have:xs=[]:=(um t1).mpr rfl
     subst this
     exact Ua pins s σ H _ _ v u Q I rx ry ⟨p,p',vs',rfl,rfl,q1.sq,q2.sq,h.2.now r rb⟩
    ·refine QV pins s σ H _ _ v u Q I rx ry ⟨p,p',vs,vs',rfl,rfl,q1.sq,q2.sq,hx,by rw[←t1.length,←t2.length];exact cI h.1,fun e=>?_,fun _=>jz h.2 r (t1.append t2)⟩
     subst e
     have:ys=[]:=(um t2).mpr rfl
     subst this
     have h2:=h.2
     rw[List.append_nil]at h2
     exact h2.now r ra
   |_=>exact h.elim
  |_=>exact h.elim
 |Sub=>
  obtain ⟨i,j,rfl,rfl,h⟩:=twoI h
  exact PQ pins s σ H _ _ v u Q I rx ry ⟨_,_,rfl,rfl,h.now r rfl⟩
 |Mult=>
  have h:g8 fz va vb G _:=h
  unfold g8 at h
  cases vb with
  |int _=>cases va with
   |int _=>
    cases cZ ea;cases cZ eb
    have ha:x=.int _:=ra
    have hb:y=.int _:=rb
    subst ha;subst hb
    exact P0 pins s σ H _ _ v u Q I rx ry ⟨_,_,rfl,rfl,h.1,h.2.now r rfl⟩
   |str _=>
    cases eY ea;cases cZ eb
    obtain ⟨ha,la⟩:=ra
    have hb:y=.int _:=rb
    subst ha;subst hb
    obtain ⟨h0,h1,h2,h3⟩:=h
    obtain ⟨n,rfl⟩:=Int.eq_ofNat_of_zero_le h0
    rw[Int.toNat_natCast]at h2 h3
    refine Rz pins s σ H _ _ v u Q I rx ry ⟨_,_,rfl,rfl,Ub (by omega) (by rw[cg];exact h2),?_⟩
    rw[Ud]
    exact h3.now r ⟨rfl,by rw[d9,Nat.mul_comm];exact h2⟩
   |tup _=>
    cases eX ea;cases cZ eb
    obtain ⟨p,vs,rfl,q1,t1⟩:=ra
    have hb:y=.int _:=rb
    subst hb
    obtain ⟨h0,h1,h2,h3,h4⟩:=h
    refine Tz pins s σ H _ _ v u Q I rx ry ⟨p,_,vs,rfl,rfl,q1.sq,fun e=>h2 ((um t1).mpr e),h0,h1,by rw[←t1.length];exact cI h3,?_⟩
    exact jz h4 r (t1.rep _)
   |lst _=>
    cases cZ eb
    have hb:y=.int _:=rb
    subst hb
    obtain ⟨p,vs,rfl,q1,t1⟩:=ra.list r ea
    obtain ⟨h0,h1,h2,h3⟩:=h
    exact TY pins s σ H _ _ v u Q I rx ry ⟨p,_,vs,rfl,rfl,q1,h0,h1,by rw[←t1.length];exact cI h2,dD h3 r (t1.rep _)⟩
   |_=>exact h.elim
  |_=>exact h.elim
 |FloorDiv=>
  obtain ⟨i,j,rfl,rfl,h⟩:=twoI h
  exact Tj pins s σ H _ _ v u Q I rx ry ⟨_,_,rfl,rfl,h.1,h.2.now r rfl⟩
 |Mod=>
  obtain ⟨i,j,rfl,rfl,h⟩:=twoI h
  exact Qa pins s σ H _ _ v u Q I rx ry ⟨_,_,rfl,rfl,h.1,h.2.now r rfl⟩
 |Pow=>
  obtain ⟨i,j,rfl,rfl,h⟩:=twoI h
  exact Qc pins s σ H _ _ v u Q I rx ry ⟨_,_,rfl,rfl,h.1,h.2.now r rfl⟩
 |_=>exact h.elim
end
end RF
namespace RF
open PySem PySem.Spec PyProof.Rows L2
mutual
theorem uo:∀{d:D},nr d=true→deq d d=true
 |.non,_=>rfl
 |.bl b,_=>by simp[deq]
 |.int i,_=>by simp[deq]
 |.str l,_=>by simp[deq]
 |.tup xs,h=>by rw[deq];exact uq (by rw[nr]at h;exact h)
 |.lst xs,h=>by rw[deq];exact uq (by rw[nr]at h;exact h)
 |.ref a,h=>by rw[nr]at h;cases h
 |.scr a,h=>by rw[nr]at h;cases h
 |.exn a,h=>by rw[nr]at h;cases h
theorem uq:∀{ds:List D},nrs ds=true→bJ ds ds=true
 |[],_=>rfl
 |d::ds,h=>by
  rw[nrs,Bool.and_eq_true]at h
  rw[bJ,uo h.1,uq h.2];rfl
end
theorem pW:∀(xs ys:List D),bJ xs ys=((List.range (min xs.length ys.length)).all (fun j=>deq (xs.getD j .non) (ys.getD j .non))&&xs.length==ys.length)
 |[],[]=>rfl
 |[],y::ys=>by simp[bJ]
 |x::xs,[]=>by simp[bJ]
 |x::xs,y::ys=>by
  have e:min (x::xs).length (y::ys).length=(min xs.length ys.length)+1:=by simp only[List.length_cons];omega
  rw[bJ,pW xs ys,e,List.range_succ_eq_map,List.all_cons,List.all_map]
  simp only[List.getD_cons_zero,List.length_cons,Bool.and_assoc]
  congr 1
  congr 1
  rw[Bool.eq_iff_iff];simp
theorem Ug{xs ys:List D}(h:xs.length≠ys.length):bJ xs ys=false:=by
 rw[pW]
 rw[show (xs.length==ys.length)=false from beq_eq_false_iff_ne.mpr h,Bool.and_false]
theorem jA:∀{xs:List D}{i:Nat},nrs xs=true→nr (xs.getD i .non)=true
 |[],_,_=>rfl
 |x::xs,0,h=>by rw[nrs,Bool.and_eq_true]at h;exact h.1
 |x::xs,i+1,h=>by rw[nrs,Bool.and_eq_true]at h;rw[List.getD_cons_succ];exact jA h.2
theorem jB:∀{xs:List D}{i:Nat},dpt (xs.getD i .non)≤aX xs
 |[],_=>Nat.zero_le _
 |x::xs,0=>by rw[aX,List.getD_cons_zero];omega
 |x::xs,i+1=>by rw[aX,List.getD_cons_succ];have:=@jB xs i;omega
section
variable {X:Cx} {pins:List (Addr×Obj)} {σ:L2.St} {H:Hp} {s:Shared} {F:FZ}
mutual
theorem pX(I:Inv X pins σ H s):∀{d d':D}{v:V},nr d=true→nr d'=true→Rep X.K H F d v→Rep X.K H F d' v→d=d'
 |.non,d',v,_,n',h,h'=>by
  have h:v=.non:=h
  subst h
  cases d' with
  |non=>rfl
  |bl _=>simp only[Rep]at h';cases h'
  |int _=>simp only[Rep]at h';cases h'
  |ref _=>simp only[Rep]at h';cases h'
  |scr _=>rw[nr]at n';cases n'
  |exn _=>rw[nr]at n';cases n'
  |str _=>simp only[Rep]at h';obtain ⟨e,_⟩:=h';cases e
  |tup _=>simp only[Rep]at h';obtain ⟨_,_,e,_⟩:=h';cases e
  |lst _=>simp only[Rep]at h';obtain ⟨_,_,e,_⟩:=h';cases e
 |.bl b,d',v,_,n',h,h'=>by
  have h:v=.bl b:=h
  subst h
  cases d' with
  |non=>simp only[Rep]at h';cases h'
  |bl _=>simp only[Rep]at h';cases h';rfl
  |int _=>simp only[Rep]at h';cases h'
  |ref _=>simp only[Rep]at h';cases h'
  |scr _=>rw[nr]at n';cases n'
  |exn _=>rw[nr]at n';cases n'
  |str _=>simp only[Rep]at h';obtain ⟨e,_⟩:=h';cases e
  |tup _=>simp only[Rep]at h';obtain ⟨_,_,e,_⟩:=h';cases e
  |lst _=>simp only[Rep]at h';obtain ⟨_,_,e,_⟩:=h';cases e
 |.int b,d',v,_,n',h,h'=>by
  have h:v=.int b:=h
  subst h
  cases d' with
  |non=>simp only[Rep]at h';cases h'
  |bl _=>simp only[Rep]at h';cases h'
  |int _=>simp only[Rep]at h';cases h';rfl
  |ref _=>simp only[Rep]at h';cases h'
  |scr _=>rw[nr]at n';cases n'
  |exn _=>rw[nr]at n';cases n'
  |str _=>simp only[Rep]at h';obtain ⟨e,_⟩:=h';cases e
  |tup _=>simp only[Rep]at h';obtain ⟨_,_,e,_⟩:=h';cases e
  |lst _=>simp only[Rep]at h';obtain ⟨_,_,e,_⟩:=h';cases e
 |.str l,d',v,_,n',h,h'=>by
  obtain ⟨h,_⟩:=h
  subst h
  cases d' with
  |str l'=>
   obtain ⟨e,_⟩:=h'
   injection e with e
   rw[yj e]
  |non=>simp only[Rep]at h';cases h'
  |bl _=>simp only[Rep]at h';cases h'
  |int _=>simp only[Rep]at h';cases h'
  |ref _=>simp only[Rep]at h';cases h'
  |scr _=>rw[nr]at n';cases n'
  |exn _=>rw[nr]at n';cases n'
  |tup _=>simp only[Rep]at h';obtain ⟨_,_,e,_⟩:=h';cases e
  |lst _=>simp only[Rep]at h';obtain ⟨_,_,e,_⟩:=h';cases e
 |.tup xs,d',v,n,n',h,h'=>by
  obtain ⟨a,vs,e,q,t⟩:=h
  subst e
  cases d' with
  |tup ys=>
   obtain ⟨a',vs',e,q',t'⟩:=h'
   injection e with e
   subst e
   have:=I.tuple_inj q.sq q'.sq
   subst this
   rw[nr]at n n'
   rw[ur I n n' t t']
  |lst ys=>
   obtain ⟨a',vs',e,q',t'⟩:=h'
   injection e with e
   subst e
   obtain ⟨its,_,⟨o,e1,c1,_⟩,_⟩:=I.tuple q.sq
   obtain ⟨its',_,⟨o',n',e2,c2,_⟩,_⟩:=I.list q'.sq
   rw[e1]at e2;cases e2
   rw[c1]at c2;exact absurd c2 (by decide +kernel)
  |ref _=>rw[nr]at n';cases n'
  |scr _=>rw[nr]at n';cases n'
  |exn _=>rw[nr]at n';cases n'
  |str _=>simp only[Rep]at h';obtain ⟨e,_⟩:=h';cases e
  |non=>simp only[Rep]at h';cases h'
  |bl _=>simp only[Rep]at h';cases h'
  |int _=>simp only[Rep]at h';cases h'
 |.lst xs,d',v,n,n',h,h'=>by
  obtain ⟨a,vs,e,q,t⟩:=h
  subst e
  cases d' with
  |lst ys=>
   obtain ⟨a',vs',e,q',t'⟩:=h'
   injection e with e
   subst e
   have:=I.list_inj q.sq q'.sq
   subst this
   rw[nr]at n n'
   rw[ur I n n' t t']
  |tup ys=>
   obtain ⟨a',vs',e,q',t'⟩:=h'
   injection e with e
   subst e
   obtain ⟨its,_,⟨o,e1,c1,_⟩,_⟩:=I.tuple q'.sq
   obtain ⟨its',_,⟨o',n',e2,c2,_⟩,_⟩:=I.list q.sq
   rw[e1]at e2;cases e2
   rw[c1]at c2;exact absurd c2 (by decide +kernel)
  |ref _=>rw[nr]at n';cases n'
  |scr _=>rw[nr]at n';cases n'
  |exn _=>rw[nr]at n';cases n'
  |str _=>simp only[Rep]at h';obtain ⟨e,_⟩:=h';cases e
  |non=>simp only[Rep]at h';cases h'
  |bl _=>simp only[Rep]at h';cases h'
  |int _=>simp only[Rep]at h';cases h'
 |.ref a,d',v,n,_,_,_=>by rw[nr]at n;cases n
 |.scr a,d',v,n,_,_,_=>by rw[nr]at n;cases n
 |.exn a,d',v,n,_,_,_=>by rw[nr]at n;cases n
theorem ur(I:Inv X pins σ H s):∀{ds ds':List D}{vs:List V},nrs ds=true→nrs ds'=true→Reps X.K H F ds vs→Reps X.K H F ds' vs→ds=ds'
 |[],[],_,_,_,_,_=>rfl
 |[],_::_,_,_,_,h,⟨v,r,e,_⟩=>by have h:_=[]:=h;rw[h]at e;cases e
 |_::_,[],_,_,_,⟨v,r,e,_⟩,h=>by have h:_=[]:=h;rw[h]at e;cases e
 |d::ds,d'::ds',_,n,n',⟨v,r,e,h,t⟩,⟨v',r',e',h',t'⟩=>by
  subst e
  injection e' with e1 e2
  subst e1;subst e2
  rw[nrs,Bool.and_eq_true]at n n'
  rw[pX I n.1 n'.1 h h',ur I n.2 n'.2 t t']
end
theorem pY{I:Inv X pins σ H s}{ds:List D}{vs:List V}{its:List Value}(t:Reps X.K H F ds vs)(r:Vals vs its)(j:Nat)(h:j < its.length):∃v,Rep X.K H F (ds.getD j .non) v∧RelV v its[j]:=by
 have hl:j < ds.length:=by rw[t.length,r.length];exact h
 have e1:ds[j]?=some (ds.getD j .non):=by rw[List.getD_eq_getElem?_getD,List.getElem?_eq_getElem hl];rfl
 obtain ⟨v,e2,r2⟩:=t.get e1
 obtain ⟨u,e3,r3⟩:=r.get e2
 rw[List.getElem?_eq_getElem h]at e3
 cases e3
 exact ⟨v,r2,r3⟩
theorem Uh(a b:List Nat):(tx a==tx b)=(a==b):=by
 rw[Bool.eq_iff_iff,beq_iff_eq,beq_iff_eq]
 exact ⟨fun h=>yj h,fun h=>by rw[h]⟩
theorem Ui(I:Inv X pins σ H s){n:Nat}{A:Around}{xs ys:List D}{a a':Addr}{vs vs':List V}{its its':List Value}
  (ih:∀m,m < n→∀(A:Around)(d d':D)(v v':V)(u u':Value),A.units+m < cLine→min (dpt d) (dpt d')≤m→nr d=true→nr d'=true→Rep X.K H F d v→Rep X.K H F d' v'→RelV v u→RelV v' u'→
   SeqAt.RcAt A s u u' (deq d d')∧SeqAt.EqAt A s u u' (deq d d')∧SeqAt.RcNeAt A s u u' (!deq d d'))
  (hu:A.units+n < cLine) (hd:min (dpt (.tup xs)) (dpt (.tup ys))≤n) (n1:nr (.tup xs)=true) (n2:nr (.tup ys)=true) (h:Rep X.K H F (.tup xs) (.ref a)) (h':Rep X.K H F (.tup ys) (.ref a'))
  (pt:s.heap.IsTuple a its.toArray) (pt':s.heap.IsTuple a' its'.toArray) (rv:Vals vs its) (rv':Vals vs' its') (tt:Reps X.K H F xs vs) (tt':Reps X.K H F ys vs'):
  SeqAt.RcAt A s (.ref a) (.ref a') (deq (.tup xs) (.tup ys))∧SeqAt.EqAt A s (.ref a) (.ref a') (deq (.tup xs) (.tup ys))∧SeqAt.RcNeAt A s (.ref a) (.ref a') (!deq (.tup xs) (.tup ys)):=by
 have hd':min (aX xs+1) (aX ys+1)≤n:=by rw[dpt,dpt]at hd;exact hd
 have hn1:nrs xs=true:=by rw[nr]at n1;exact n1
 have hn2:nrs ys=true:=by rw[nr]at n2;exact n2
 have l1:its.toArray.size=xs.length:=by rw[List.size_toArray,←rv.length,tt.length]
 have l2:its'.toArray.size=ys.length:=by rw[List.size_toArray,←rv'.length,tt'.length]
 have he:∀j (h1:j < its.toArray.size) (h2:j < its'.toArray.size),SeqAt.EqAt A.in1 s its.toArray[j] its'.toArray[j] (deq (xs.getD j .non) (ys.getD j .non)):=by
  intro j h1 h2
  obtain ⟨w1,q1,q2⟩:=pY (I:=I) tt rv j (by simpa using h1)
  obtain ⟨w2,q3,q4⟩:=pY (I:=I) tt' rv' j (by simpa using h2)
  have d1:=@jB xs j
  have d2:=@jB ys j
  exact (ih (n - 1) (by omega) A.in1 _ _ w1 w2 _ _ (by show A.units+1+(n - 1) < cLine;omega) (by omega) (jA hn1) (jA hn2) q1 q3 (by simpa using q2) (by simpa using q4)).2.1
 have e:deq (.tup xs) (.tup ys)=((List.range (min its.toArray.size its'.toArray.size)).all (fun j=>deq (xs.getD j .non) (ys.getD j .non))&&its.toArray.size==its'.toArray.size):=by
  rw[deq,pW,l1,l2]
 have rc:SeqAt.RcAt A s (.ref a) (.ref a') (deq (.tup xs) (.tup ys)):=by rw[e];exact .tuples pt pt' (by omega) he
 refine ⟨rc,?_,by rw[e];exact .tuples pt pt' (by omega) he⟩
 by_cases z:a=a'
 ·subst z
  have:=pX I n1 n2 h h'
  rw[←this,uo n1]
  exact .same _
 ·exact .of_refs z rc
theorem Uj(I:Inv X pins σ H s){n:Nat}{A:Around}{xs ys:List D}{a a':Addr}{vs vs':List V}{its its':List Value}
  (ih:∀m,m < n→∀(A:Around)(d d':D)(v v':V)(u u':Value),A.units+m < cLine→min (dpt d) (dpt d')≤m→nr d=true→nr d'=true→Rep X.K H F d v→Rep X.K H F d' v'→RelV v u→RelV v' u'→
   SeqAt.RcAt A s u u' (deq d d')∧SeqAt.EqAt A s u u' (deq d d')∧SeqAt.RcNeAt A s u u' (!deq d d'))
  (hu:A.units+n < cLine) (hd:min (dpt (.lst xs)) (dpt (.lst ys))≤n) (n1:nr (.lst xs)=true) (n2:nr (.lst ys)=true) (h:a=a'→xs=ys)
  (pt:s.heap.IsList a its.toArray) (pt':s.heap.IsList a' its'.toArray) (rv:Vals vs its) (rv':Vals vs' its') (tt:Reps X.K H F xs vs) (tt':Reps X.K H F ys vs'):
  SeqAt.RcAt A s (.ref a) (.ref a') (deq (.lst xs) (.lst ys))∧SeqAt.EqAt A s (.ref a) (.ref a') (deq (.lst xs) (.lst ys))∧SeqAt.RcNeAt A s (.ref a) (.ref a') (!deq (.lst xs) (.lst ys)):=by
 have hd':min (aX xs+1) (aX ys+1)≤n:=by rw[dpt,dpt]at hd;exact hd
 have hn1:nrs xs=true:=by rw[nr]at n1;exact n1
 have hn2:nrs ys=true:=by rw[nr]at n2;exact n2
 have l1:its.toArray.size=xs.length:=by rw[List.size_toArray,←rv.length,tt.length]
 have l2:its'.toArray.size=ys.length:=by rw[List.size_toArray,←rv'.length,tt'.length]
 have eqs:∀(rc:SeqAt.RcAt A s (.ref a) (.ref a') (deq (.lst xs) (.lst ys))),SeqAt.EqAt A s (.ref a) (.ref a') (deq (.lst xs) (.lst ys)):=fun rc=>by
  by_cases z:a=a'
  ·have:=h z
   subst z
   subst this
   rw[uo n1]
   exact .same _
  ·exact .of_refs z rc
 by_cases hl:xs.length=ys.length
 ·have he:∀j (h1:j < its.toArray.size) (h2:j < its'.toArray.size),SeqAt.EqAt A.in1 s its.toArray[j] its'.toArray[j] (deq (xs.getD j .non) (ys.getD j .non)):=by
   intro j h1 h2
   obtain ⟨w1,q1,q2⟩:=pY (I:=I) tt rv j (by simpa using h1)
   obtain ⟨w2,q3,q4⟩:=pY (I:=I) tt' rv' j (by simpa using h2)
   have d1:=@jB xs j
   have d2:=@jB ys j
   exact (ih (n - 1) (by omega) A.in1 _ _ w1 w2 _ _ (by show A.units+1+(n - 1) < cLine;omega) (by omega) (jA hn1) (jA hn2) q1 q3 (by simpa using q2) (by simpa using q4)).2.1
  have e:deq (.lst xs) (.lst ys)=(List.range its.toArray.size).all (fun j=>deq (xs.getD j .non) (ys.getD j .non)):=by
   rw[deq,pW,l1,hl,Nat.min_self]
   simp
  have rc:SeqAt.RcAt A s (.ref a) (.ref a') (deq (.lst xs) (.lst ys)):=by rw[e];exact .lists pt pt' (by rw[l1,l2];exact hl) (by omega) he
  exact ⟨rc,eqs rc,by rw[e];exact .lists pt pt' (by rw[l1,l2];exact hl) (by omega) he⟩
 ·have e:deq (.lst xs) (.lst ys)=false:=by rw[deq];exact Ug hl
  have hne:(its.toArray.size != its'.toArray.size)=true:=by rw[l1,l2];simpa using hl
  have rc:SeqAt.RcAt A s (.ref a) (.ref a') (deq (.lst xs) (.lst ys)):=by rw[e];exact .lists_lengths pt pt' hne (by omega)
  exact ⟨rc,eqs rc,by rw[e];exact .lists_lengths pt pt' hne (by omega)⟩
theorem ut(I:Inv X pins σ H s):∀(n:Nat)(A:Around)(d d':D)(v v':V)(u u':Value),A.units+n < cLine→min (dpt d) (dpt d')≤n→nr d=true→nr d'=true→Rep X.K H F d v→Rep X.K H F d' v'→RelV v u→RelV v' u'→
  SeqAt.RcAt A s u u' (deq d d')∧SeqAt.EqAt A s u u' (deq d d')∧SeqAt.RcNeAt A s u u' (!deq d d'):=by
 intro n
 induction n using Nat.strongRecOn with
 |_ n ih=>
  intro A d d' v v' u u' hu hd n1 n2 h h' r r'
  have hu0:A.units < cLine:=by omega
  cases d with
  |ref a=>rw[nr]at n1;cases n1
  |scr a=>rw[nr]at n1;cases n1
  |exn a=>rw[nr]at n1;cases n1
  |non=>
   have hv:v=.non:=h
   subst hv
   have hr:u=Value.none:=r
   subst hr
   cases d' with
   |ref a=>rw[nr]at n2;cases n2
   |scr a=>rw[nr]at n2;cases n2
   |exn a=>rw[nr]at n2;cases n2
   |non=>
    have hv:v'=.non:=h'
    subst hv
    have hr:u'=Value.none:=r'
    subst hr
    exact ⟨.none_none,.same _,.none_none⟩
   |bl b'=>
    have hv:v'=.bl b':=h'
    subst hv
    have hr:u'=Value.bool b':=r'
    subst hr
    exact ⟨.none_bool b',.none_bool b',.none_bool b'⟩
   |int i'=>
    have hv:v'=.int i':=h'
    subst hv
    obtain ⟨t',hr⟩:∃t',u'=Value.int i' t':=r'
    subst hr
    exact ⟨.none_int i' t',.none_int i' t',.none_int i' t'⟩
   |str l'=>
    obtain ⟨hv,_⟩:=h'
    subst hv
    obtain ⟨t',hr⟩:∃t',u'=Value.str (tx l') t':=r'
    subst hr
    exact ⟨.none_str (tx l') t',.none_str (tx l') t',.none_str (tx l') t'⟩
   |tup ys=>
    obtain ⟨a',vs',hv,q',tt'⟩:=id h'
    subst hv
    have hr:u'=Value.ref a':=r'
    subst hr
    obtain ⟨its',rv',pt',_⟩:=I.tuple q'.sq
    have pt':s.heap.IsTuple a' its'.toArray:=pt'
    exact ⟨.none_tuple pt' hu0,.none_tuple pt' hu0,.none_tuple pt' hu0⟩
   |lst ys=>
    obtain ⟨a',vs',hv,q',tt'⟩:=id h'
    subst hv
    have hr:u'=Value.ref a':=r'
    subst hr
    obtain ⟨its',rv',pl',_⟩:=I.list q'.sq
    have pt':s.heap.IsList a' its'.toArray:=pl'.isList
    exact ⟨.none_list pt' hu0,.none_list pt' hu0,.none_list pt' hu0⟩
  |bl b=>
   have hv:v=.bl b:=h
   subst hv
   have hr:u=Value.bool b:=r
   subst hr
   cases d' with
   |ref a=>rw[nr]at n2;cases n2
   |scr a=>rw[nr]at n2;cases n2
   |exn a=>rw[nr]at n2;cases n2
   |non=>
    have hv:v'=.non:=h'
    subst hv
    have hr:u'=Value.none:=r'
    subst hr
    exact ⟨.bool_none b,.bool_none b,.bool_none b⟩
   |bl b'=>
    have hv:v'=.bl b':=h'
    subst hv
    have hr:u'=Value.bool b':=r'
    subst hr
    exact ⟨.bool_bool b b',.bool_bool b b',.bool_bool b b'⟩
   |int i'=>
    have hv:v'=.int i':=h'
    subst hv
    obtain ⟨t',hr⟩:∃t',u'=Value.int i' t':=r'
    subst hr
    exact ⟨.bool_int b i' t',.bool_int b i' t',.bool_int b i' t'⟩
   |str l'=>
    obtain ⟨hv,_⟩:=h'
    subst hv
    obtain ⟨t',hr⟩:∃t',u'=Value.str (tx l') t':=r'
    subst hr
    exact ⟨.bool_str b (tx l') t',.bool_str b (tx l') t',.bool_str b (tx l') t'⟩
   |tup ys=>
    obtain ⟨a',vs',hv,q',tt'⟩:=id h'
    subst hv
    have hr:u'=Value.ref a':=r'
    subst hr
    obtain ⟨its',rv',pt',_⟩:=I.tuple q'.sq
    have pt':s.heap.IsTuple a' its'.toArray:=pt'
    exact ⟨.bool_tuple b pt' hu0,.bool_tuple b pt' hu0,.bool_tuple b pt' hu0⟩
   |lst ys=>
    obtain ⟨a',vs',hv,q',tt'⟩:=id h'
    subst hv
    have hr:u'=Value.ref a':=r'
    subst hr
    obtain ⟨its',rv',pl',_⟩:=I.list q'.sq
    have pt':s.heap.IsList a' its'.toArray:=pl'.isList
    exact ⟨.bool_list b pt' hu0,.bool_list b pt' hu0,.bool_list b pt' hu0⟩
  |int i=>
   have hv:v=.int i:=h
   subst hv
   obtain ⟨t,hr⟩:∃t,u=Value.int i t:=r
   subst hr
   cases d' with
   |ref a=>rw[nr]at n2;cases n2
   |scr a=>rw[nr]at n2;cases n2
   |exn a=>rw[nr]at n2;cases n2
   |non=>
    have hv:v'=.non:=h'
    subst hv
    have hr:u'=Value.none:=r'
    subst hr
    exact ⟨.int_none i t,.int_none i t,.int_none i t⟩
   |bl b'=>
    have hv:v'=.bl b':=h'
    subst hv
    have hr:u'=Value.bool b':=r'
    subst hr
    exact ⟨.int_bool i t b',.int_bool i t b',.int_bool i t b'⟩
   |int i'=>
    have hv:v'=.int i':=h'
    subst hv
    obtain ⟨t',hr⟩:∃t',u'=Value.int i' t':=r'
    subst hr
    exact ⟨.int_int i t i' t',.int_int i t i' t',.int_int i t i' t'⟩
   |str l'=>
    obtain ⟨hv,_⟩:=h'
    subst hv
    obtain ⟨t',hr⟩:∃t',u'=Value.str (tx l') t':=r'
    subst hr
    exact ⟨.int_str i t (tx l') t',.int_str i t (tx l') t',.int_str i t (tx l') t'⟩
   |tup ys=>
    obtain ⟨a',vs',hv,q',tt'⟩:=id h'
    subst hv
    have hr:u'=Value.ref a':=r'
    subst hr
    obtain ⟨its',rv',pt',_⟩:=I.tuple q'.sq
    have pt':s.heap.IsTuple a' its'.toArray:=pt'
    exact ⟨.int_tuple i t pt' hu0,.int_tuple i t pt' hu0,.int_tuple i t pt' hu0⟩
   |lst ys=>
    obtain ⟨a',vs',hv,q',tt'⟩:=id h'
    subst hv
    have hr:u'=Value.ref a':=r'
    subst hr
    obtain ⟨its',rv',pl',_⟩:=I.list q'.sq
    have pt':s.heap.IsList a' its'.toArray:=pl'.isList
    exact ⟨.int_list i t pt' hu0,.int_list i t pt' hu0,.int_list i t pt' hu0⟩
  |str l=>
   obtain ⟨hv,_⟩:=h
   subst hv
   obtain ⟨t,hr⟩:∃t,u=Value.str (tx l) t:=r
   subst hr
   cases d' with
   |ref a=>rw[nr]at n2;cases n2
   |scr a=>rw[nr]at n2;cases n2
   |exn a=>rw[nr]at n2;cases n2
   |non=>
    have hv:v'=.non:=h'
    subst hv
    have hr:u'=Value.none:=r'
    subst hr
    exact ⟨.str_none (tx l) t,.str_none (tx l) t,.str_none (tx l) t⟩
   |bl b'=>
    have hv:v'=.bl b':=h'
    subst hv
    have hr:u'=Value.bool b':=r'
    subst hr
    exact ⟨.str_bool (tx l) t b',.str_bool (tx l) t b',.str_bool (tx l) t b'⟩
   |int i'=>
    have hv:v'=.int i':=h'
    subst hv
    obtain ⟨t',hr⟩:∃t',u'=Value.int i' t':=r'
    subst hr
    exact ⟨.str_int (tx l) t i' t',.str_int (tx l) t i' t',.str_int (tx l) t i' t'⟩
   |str l'=>
    obtain ⟨hv,_⟩:=h'
    subst hv
    obtain ⟨t',hr⟩:∃t',u'=Value.str (tx l') t':=r'
    subst hr
    rw[deq,←Uh]
    exact ⟨.str_str (tx l) t (tx l') t',.str_str (tx l) t (tx l') t',.str_str (tx l) t (tx l') t'⟩
   |tup ys=>
    obtain ⟨a',vs',hv,q',tt'⟩:=id h'
    subst hv
    have hr:u'=Value.ref a':=r'
    subst hr
    obtain ⟨its',rv',pt',_⟩:=I.tuple q'.sq
    have pt':s.heap.IsTuple a' its'.toArray:=pt'
    exact ⟨.str_tuple (tx l) t pt' hu0,.str_tuple (tx l) t pt' hu0,.str_tuple (tx l) t pt' hu0⟩
   |lst ys=>
    obtain ⟨a',vs',hv,q',tt'⟩:=id h'
    subst hv
    have hr:u'=Value.ref a':=r'
    subst hr
    obtain ⟨its',rv',pl',_⟩:=I.list q'.sq
    have pt':s.heap.IsList a' its'.toArray:=pl'.isList
    exact ⟨.str_list (tx l) t pt' hu0,.str_list (tx l) t pt' hu0,.str_list (tx l) t pt' hu0⟩
  |tup xs=>
   obtain ⟨a,vs,hv,q,tt⟩:=id h
   subst hv
   have hr:u=Value.ref a:=r
   subst hr
   obtain ⟨its,rv,pt,_⟩:=I.tuple q.sq
   have pt:s.heap.IsTuple a its.toArray:=pt
   cases d' with
   |ref a=>rw[nr]at n2;cases n2
   |scr a=>rw[nr]at n2;cases n2
   |exn a=>rw[nr]at n2;cases n2
   |non=>
    have hv:v'=.non:=h'
    subst hv
    have hr:u'=Value.none:=r'
    subst hr
    exact ⟨.tuple_none pt hu0,.tuple_none pt hu0,.tuple_none pt hu0⟩
   |bl b'=>
    have hv:v'=.bl b':=h'
    subst hv
    have hr:u'=Value.bool b':=r'
    subst hr
    exact ⟨.tuple_bool b' pt hu0,.tuple_bool b' pt hu0,.tuple_bool b' pt hu0⟩
   |int i'=>
    have hv:v'=.int i':=h'
    subst hv
    obtain ⟨t',hr⟩:∃t',u'=Value.int i' t':=r'
    subst hr
    exact ⟨.tuple_int i' t' pt hu0,.tuple_int i' t' pt hu0,.tuple_int i' t' pt hu0⟩
   |str l'=>
    obtain ⟨hv,_⟩:=h'
    subst hv
    obtain ⟨t',hr⟩:∃t',u'=Value.str (tx l') t':=r'
    subst hr
    exact ⟨.tuple_str (tx l') t' pt hu0,.tuple_str (tx l') t' pt hu0,.tuple_str (tx l') t' pt hu0⟩
   |tup ys=>
    obtain ⟨a',vs',hv,q',tt'⟩:=id h'
    subst hv
    have hr:u'=Value.ref a':=r'
    subst hr
    obtain ⟨its',rv',pt',_⟩:=I.tuple q'.sq
    have pt':s.heap.IsTuple a' its'.toArray:=pt'
    exact Ui I ih hu hd n1 n2 h h' pt pt' rv rv' tt tt'
   |lst ys=>
    obtain ⟨a',vs',hv,q',tt'⟩:=id h'
    subst hv
    have hr:u'=Value.ref a':=r'
    subst hr
    obtain ⟨its',rv',pl',_⟩:=I.list q'.sq
    have pt':s.heap.IsList a' its'.toArray:=pl'.isList
    exact ⟨.tuple_list pt pt' hu0,.tuple_list pt pt' hu0,.tuple_list pt pt' hu0⟩
  |lst xs=>
   obtain ⟨a,vs,hv,q,tt⟩:=id h
   subst hv
   have hr:u=Value.ref a:=r
   subst hr
   obtain ⟨its,rv,pl,_⟩:=I.list q.sq
   have pt:s.heap.IsList a its.toArray:=pl.isList
   cases d' with
   |ref a=>rw[nr]at n2;cases n2
   |scr a=>rw[nr]at n2;cases n2
   |exn a=>rw[nr]at n2;cases n2
   |non=>
    have hv:v'=.non:=h'
    subst hv
    have hr:u'=Value.none:=r'
    subst hr
    exact ⟨.list_none pt hu0,.list_none pt hu0,.list_none pt hu0⟩
   |bl b'=>
    have hv:v'=.bl b':=h'
    subst hv
    have hr:u'=Value.bool b':=r'
    subst hr
    exact ⟨.list_bool b' pt hu0,.list_bool b' pt hu0,.list_bool b' pt hu0⟩
   |int i'=>
    have hv:v'=.int i':=h'
    subst hv
    obtain ⟨t',hr⟩:∃t',u'=Value.int i' t':=r'
    subst hr
    exact ⟨.list_int i' t' pt hu0,.list_int i' t' pt hu0,.list_int i' t' pt hu0⟩
   |str l'=>
    obtain ⟨hv,_⟩:=h'
    subst hv
    obtain ⟨t',hr⟩:∃t',u'=Value.str (tx l') t':=r'
    subst hr
    exact ⟨.list_str (tx l') t' pt hu0,.list_str (tx l') t' pt hu0,.list_str (tx l') t' pt hu0⟩
   |tup ys=>
    obtain ⟨a',vs',hv,q',tt'⟩:=id h'
    subst hv
    have hr:u'=Value.ref a':=r'
    subst hr
    obtain ⟨its',rv',pt',_⟩:=I.tuple q'.sq
    have pt':s.heap.IsTuple a' its'.toArray:=pt'
    exact ⟨.list_tuple pt pt' hu0,.list_tuple pt pt' hu0,.list_tuple pt pt' hu0⟩
   |lst ys=>
    obtain ⟨a',vs',hv,q',tt'⟩:=id h'
    subst hv
    have hr:u'=Value.ref a':=r'
    subst hr
    obtain ⟨its',rv',pl',_⟩:=I.list q'.sq
    have pt':s.heap.IsList a' its'.toArray:=pl'.isList
    exact Uj I ih hu hd n1 n2 (fun z=>by subst z;have e:=pX I n1 n2 h h';injection e) pt pt' rv rv' tt tt'
end
def FA(F:FZ)(G:DH):FZ:=fun a=>F a∨∃o,G a=some o
theorem zq{H:Hp}{F:FZ}{G:DH}:Ext H F H (FA F G):=⟨fun _ f=>.inl f,fun _ _=>rfl,fun _ _ h=>h,fun _ _ _ h=>h⟩
theorem pZ{K:PySem.W.Frag}{H:Hp}{F:FZ}{G:DH}{d:D}{v:V}(r:R K H F G)(h:Rep K H F d v):Rep K H (FA F G) (view G d) v:=by
 cases d with
 |ref p=>
  have hv:v=.ref p:=h
  cases g:G p with
  |none=>
   have e:view G (.ref p)=.ref p:=by simp only[view,g]
   rw[e];exact hv
  |some o=>
   cases o with
   |lst ds=>
    have e:view G (.ref p)=.lst ds:=by simp only[view,g]
    rw[e]
    obtain ⟨vs,q,t⟩:=r.lst g
    exact ⟨p,vs,hv,⟨.inr ⟨_,g⟩,q⟩,Reps.ext zq t⟩
 |_=>exact Rep.ext zq h
def rC2(K:PySem.W.Frag)(f:D→D→(Bool→Prop)→Prop):R2:=fun x y H Q=>∃F G a b,R K H F G∧Rep K H F a x∧Rep K H F b y∧f (view G a) (view G b) (fun c=>PV K H F Q (.bl c) G)
section
variable {X:Cx}
theorem zr(c:Nat)(l:List Nat):(!(Builtin.Str.occurrences (tx l) (tx [c]) 0 (tx l).length 1).isEmpty)=l.contains c:=by
 have:=StrLaws.found_one (tx l) c
 rw[this,Bool.eq_iff_iff]
 simp
theorem Uk{pins:List (Addr×Obj)}{σ:L2.St}{H:Hp}{s:Shared}{F:FZ}(I:Inv X pins σ H s){A:Around}{x:D}{v:V}{u:Value}(hu:A.units+64 < cLine)(hx:nr x=true)(rx:Rep X.K H F x v)(ru:RelV v u):
  ∀{ds:List D}{vs:List V}{us:List Value},nrs ds=true→aX ds≤60→Reps X.K H F ds vs→Vals vs us→∃e:Value→Bool,(∀y∈us,SeqAt.EqAt A s y u (e y))∧us.any e=isIn x ds:=by
 intro ds vs us hn hd t r
 let P:Value→D→Prop:=fun y d=>nr d=true∧∃v,Rep X.K H F d v∧RelV v y
 have one:∀y d d',P y d→P y d'→d=d':=fun y d d' ⟨n,v,q,z⟩ ⟨n',v',q',z'⟩=>by
  have e:=z.inj z'
  subst e
  exact pX I n n' q q'
 have ⟨f,hf⟩:∃f:Value→D,∀y d,P y d→f y=d:=by
  refine ⟨fun y=>Classical.epsilon (P y),fun y d h=>?_⟩
  exact one y _ _ (Classical.epsilon_spec ⟨d,h⟩) h
 refine ⟨fun y=>deq (f y) x,?_,?_⟩
 ·skip
  have key:∀{ds:List D}{vs:List V}{us:List Value},nrs ds=true→aX ds≤60→Reps X.K H F ds vs→Vals vs us→∀y∈us,SeqAt.EqAt A s y u (deq (f y) x):=by
   intro ds
   induction ds with
   |nil=>
    intro vs us _ _ t r y hy
    have t:vs=[]:=t
    subst t
    cases r
    cases hy
   |cons d ds ih=>
    intro vs us hn hd t r y hy
    obtain ⟨v1,r1,e,h1,t1⟩:=t
    subst e
    rw[nrs,Bool.and_eq_true]at hn
    rw[aX]at hd
    cases r with
    |cons p q=>
     rcases List.mem_cons.mp hy with e |hy
     ·subst e
      rw[hf _ d ⟨hn.1,_,h1,p⟩]
      exact (ut I 60 A d x v1 v _ u (by omega) (by omega) hn.1 hx h1 rx p ru).2.1
     ·exact ih hn.2 (by omega) t1 q y hy
  exact key hn hd t r
 ·have key:∀{ds:List D}{vs:List V}{us:List Value},nrs ds=true→Reps X.K H F ds vs→Vals vs us→us.any (fun y=>deq (f y) x)=isIn x ds:=by
   intro ds
   induction ds with
   |nil=>
    intro vs us _ t r
    have t:vs=[]:=t
    subst t
    cases r
    rfl
   |cons d ds ih=>
    intro vs us hn t r
    obtain ⟨v1,r1,e,h1,t1⟩:=t
    subst e
    rw[nrs,Bool.and_eq_true]at hn
    cases r with
    |cons p q=>
     rw[List.any_cons,hf _ d ⟨hn.1,_,h1,p⟩,ih hn.2 t1 q]
     rfl
  exact key hn t r
theorem iD(op:CmpOp)(hu:X.A.units+100 < cLine):OpR X (compareOp op) (rC2 X.K (aR op)):=by
 intro pins s σ H x y v u Q I rx ry h
 obtain ⟨F,G,a,b,r,ra,rb,h⟩:=h
 have ra':=pZ r ra
 have rb':=pZ r rb
 generalize ea:view G a=va at h ra'
 generalize eb:view G b=vb at h rb'
 have fin:∀c:Bool,PV X.K H F Q (.bl c) G→EP X pins σ Q (.bool c) s:=fun c q=>⟨.bl c,H,I,rfl,q.now r rfl⟩
 have hin:∀(l:List D)(k:Bool→Prop),(nr va=true∧nrs l=true∧aX l≤60)→∀{vs:List V}{us:List Value},Reps X.K H (FA F G) l vs→Vals vs us→
   ∃e:Value→Bool,(∀z∈us,SeqAt.EqAt X.A.in1 s z v (e z))∧us.any e=isIn va l:=fun l k hh {vs us} t rv=>
  Uk I (A:=X.A.in1) (by show X.A.units+1+64 < cLine;omega) hh.1 ra' rx hh.2.1 hh.2.2 t rv
 cases op with
 |Eq=>
  obtain ⟨⟨n1,n2,n3⟩,q⟩:=h
  exact (ut I 60 X.A _ _ x y v u (by omega) n3 n1 n2 ra' rb' rx ry).1 _ _ _ _ (fin _ q)
 |NotEq=>
  obtain ⟨⟨n1,n2,n3⟩,q⟩:=h
  exact (ut I 60 X.A _ _ x y v u (by omega) n3 n1 n2 ra' rb' rx ry).2.2 _ _ _ _ (fin _ q)
 |Lt=>
  have h:ie va vb (fun c=>PV X.K H F Q (.bl c) G):=h
  unfold ie at h
  split at h
  ·have e1:x=.int _:=ra'
   have e2:y=.int _:=rb'
   subst e1;subst e2
   obtain ⟨t,rfl⟩:=rx
   obtain ⟨t',rfl⟩:=ry
   exact lt_int (fin _ h)
  ·obtain ⟨e1,_⟩:=ra'
   obtain ⟨e2,_⟩:=rb'
   subst e1;subst e2
   obtain ⟨t,rfl⟩:=rx
   obtain ⟨t',rfl⟩:=ry
   exact lt_str (fin _ h)
  ·exact h.elim
 |LtE=>
  have h:ig va vb (fun c=>PV X.K H F Q (.bl c) G):=h
  unfold ig at h
  split at h
  ·have e1:x=.int _:=ra'
   have e2:y=.int _:=rb'
   subst e1;subst e2
   obtain ⟨t,rfl⟩:=rx
   obtain ⟨t',rfl⟩:=ry
   exact le_int (fin _ h)
  ·obtain ⟨e1,_⟩:=ra'
   obtain ⟨e2,_⟩:=rb'
   subst e1;subst e2
   obtain ⟨t,rfl⟩:=rx
   obtain ⟨t',rfl⟩:=ry
   exact PySem.P.le_str (fin _ h)
  ·exact h.elim
 |Gt=>
  have h:ik va vb (fun c=>PV X.K H F Q (.bl c) G):=h
  unfold ik at h
  split at h
  ·have e1:x=.int _:=ra'
   have e2:y=.int _:=rb'
   subst e1;subst e2
   obtain ⟨t,rfl⟩:=rx
   obtain ⟨t',rfl⟩:=ry
   exact gt_int (fin _ h)
  ·exact h.elim
 |GtE=>
  have h:il va vb (fun c=>PV X.K H F Q (.bl c) G):=h
  unfold il at h
  split at h
  ·have e1:x=.int _:=ra'
   have e2:y=.int _:=rb'
   subst e1;subst e2
   obtain ⟨t,rfl⟩:=rx
   obtain ⟨t',rfl⟩:=ry
   exact ge_int (fin _ h)
  ·exact h.elim
 |Is=>
  have h:ir va vb (fun c=>PV X.K H F Q (.bl c) G):=h
  unfold ir at h
  split at h
  ·have e2:y=.non:=rb'
   subst e2
   have q:∀c,(c=decide (x=.non))→PV X.K H F Q (.bl c) G→wpAny (model X.prog X.w) X.A (compareOp .Is v u) (EP X pins σ Q) X.xe s:=fun c e q=>
    Qe pins s σ H _ _ v u Q I rx ry ⟨rfl,by rw[←e];exact q.now r rfl⟩
   refine q _ ?_ h
   have:jr va=decide (x=.non):=by
    cases va with
    |non=>have e1:x=.non:=ra';subst e1;rfl
    |bl _=>have e1:x=.bl _:=ra';subst e1;rfl
    |int _=>have e1:x=.int _:=ra';subst e1;rfl
    |str _=>obtain ⟨e1,_⟩:=ra';subst e1;rfl
    |tup _=>obtain ⟨_,_,e1,_⟩:=ra';subst e1;rfl
    |lst _=>obtain ⟨_,_,e1,_⟩:=ra';subst e1;rfl
    |ref _=>have e1:x=.ref _:=ra';subst e1;rfl
    |scr _=>obtain ⟨_,e1,_⟩:=ra';subst e1;rfl
    |exn _=>obtain ⟨_,_,e1,_⟩:=ra';subst e1;rfl
   rw[this]
  ·split at h
   ·have e1:x=.bl _:=ra'
    have e2:y=.bl _:=rb'
    subst e1;subst e2
    exact RJ pins s σ H _ _ v u Q I rx ry ⟨_,_,rfl,rfl,h.now r rfl⟩
   ·exact h.elim
  ·exact h.elim
 |IsNot=>
  have h:iu va vb (fun c=>PV X.K H F Q (.bl c) G):=h
  unfold iu at h
  split at h
  ·have e2:y=.non:=rb'
   subst e2
   have q:∀c,(c=!decide (x=.non))→PV X.K H F Q (.bl c) G→wpAny (model X.prog X.w) X.A (compareOp .IsNot v u) (EP X pins σ Q) X.xe s:=fun c e q=>
    Qf pins s σ H _ _ v u Q I rx ry ⟨rfl,by rw[←e];exact q.now r rfl⟩
   refine q _ ?_ h
   have:jr va=decide (x=.non):=by
    cases va with
    |non=>have e1:x=.non:=ra';subst e1;rfl
    |bl _=>have e1:x=.bl _:=ra';subst e1;rfl
    |int _=>have e1:x=.int _:=ra';subst e1;rfl
    |str _=>obtain ⟨e1,_⟩:=ra';subst e1;rfl
    |tup _=>obtain ⟨_,_,e1,_⟩:=ra';subst e1;rfl
    |lst _=>obtain ⟨_,_,e1,_⟩:=ra';subst e1;rfl
    |ref _=>have e1:x=.ref _:=ra';subst e1;rfl
    |scr _=>obtain ⟨_,e1,_⟩:=ra';subst e1;rfl
    |exn _=>obtain ⟨_,_,e1,_⟩:=ra';subst e1;rfl
   rw[this]
  ·split at h
   ·have e1:x=.bl _:=ra'
    have e2:y=.bl _:=rb'
    subst e1;subst e2
    exact RQ pins s σ H _ _ v u Q I rx ry ⟨_,_,rfl,rfl,h.now r rfl⟩
   ·exact h.elim
  ·exact h.elim
 |In=>
  have h:dW va vb (fun c=>PV X.K H F Q (.bl c) G):=h
  unfold dW at h
  split at h
  ·split at h
   ·obtain ⟨e1,_⟩:=ra'
    obtain ⟨e2,_⟩:=rb'
    subst e1;subst e2
    obtain ⟨t,rfl⟩:=rx
    obtain ⟨t',rfl⟩:=ry
    exact in_str (by rw[zr];exact fin _ h)
   ·exact h.elim
  ·obtain ⟨hh,q⟩:=h
   obtain ⟨p,vs,e2,q2,t⟩:=rb'
   subst e2
   cases ry
   obtain ⟨its,rv,pl,hz⟩:=I.list q2.sq
   obtain ⟨e,he,hany⟩:=hin _ (fun _=>True) hh t rv
   refine SeqAt.in_listAt e pl.isList (fun w hw=>he w (by simpa using hw)) ?_
   rw[show its.toArray.any e=its.any e by simp,hany]
   exact fin _ q
  ·obtain ⟨hh,q⟩:=h
   obtain ⟨p,vs,e2,q2,t⟩:=rb'
   subst e2
   cases ry
   obtain ⟨its,rv,pl,hz⟩:=I.tuple q2.sq
   obtain ⟨e,he,hany⟩:=hin _ (fun _=>True) hh t rv
   refine SeqAt.in_tupleAt e pl (fun w hw=>he w (by simpa using hw)) ?_
   rw[show its.toArray.any e=its.any e by simp,hany]
   exact fin _ q
  ·exact h.elim
 |NotIn=>
  have h:dW va vb (fun c=>PV X.K H F Q (.bl (!c)) G):=h
  unfold dW at h
  split at h
  ·split at h
   ·obtain ⟨e1,_⟩:=ra'
    obtain ⟨e2,_⟩:=rb'
    subst e1;subst e2
    obtain ⟨t,rfl⟩:=rx
    obtain ⟨t',rfl⟩:=ry
    exact notIn_str (by rw[zr];exact fin _ h)
   ·exact h.elim
  ·obtain ⟨hh,q⟩:=h
   obtain ⟨p,vs,e2,q2,t⟩:=rb'
   subst e2
   cases ry
   obtain ⟨its,rv,pl,hz⟩:=I.list q2.sq
   obtain ⟨e,he,hany⟩:=hin _ (fun _=>True) hh t rv
   refine SeqAt.notIn_listAt e pl.isList (fun w hw=>he w (by simpa using hw)) ?_
   rw[show its.toArray.any e=its.any e by simp,hany]
   exact fin _ q
  ·obtain ⟨hh,q⟩:=h
   obtain ⟨p,vs,e2,q2,t⟩:=rb'
   subst e2
   cases ry
   obtain ⟨its,rv,pl,hz⟩:=I.tuple q2.sq
   obtain ⟨e,he,hany⟩:=hin _ (fun _=>True) hh t rv
   refine SeqAt.notIn_tupleAt e pl (fun w hw=>he w (by simpa using hw)) ?_
   rw[show its.toArray.any e=its.any e by simp,hany]
   exact fin _ q
  ·exact h.elim
end
end RF
namespace RF
open PySem PySem.Spec PyProof.Rows L2
section
variable {X:Cx}
def Ul(K:PySem.W.Frag):R2:=fun x y H Q=>∃F G a b,R K H F G∧Rep K H F a x∧Rep K H F b y∧cj (view G a) b (fun d=>PV K H F Q d G)
theorem zu{K:PySem.W.Frag}{H:Hp}{F:FZ}{ds:List D}{vs:List V}{i:Int}{d:D}(t:Reps K H F ds vs)(h:atI ds i=some d):∃v,atI vs i=some v∧Rep K H F d v:=by
 unfold atI at h ⊢
 rw[←t.length]
 cases e:ixN ds.length i with
 |none=>rw[e]at h;cases h
 |some j=>
  rw[e]at h
  obtain ⟨v,e1,r⟩:=t.get (show ds[j]?=some d from h)
  exact ⟨v,e1,r⟩
theorem Um:IxR X (Ul X.K):=by
 intro value slice pins s σ H x y v u Q I rx ry h hs
 obtain ⟨F,G,a,b,r,ra,rb,h⟩:=h
 generalize ea:view G a=va at h
 unfold cj at h
 split at h
 ·obtain ⟨p,vs,e,q,t⟩:=Rep.list r ra ea
  subst e
  have e2:y=.int _:=rb
  subst e2
  split at h
  ·rename_i d hd
   obtain ⟨w,hw,rw'⟩:=zu t hd
   exact Q3 value slice pins s σ H _ _ v u Q I rx ry ⟨p,vs,_,w,rfl,rfl,q,hw,h.now r rw'⟩ hs
  ·exact h.elim
 ·cases eX ea
  obtain ⟨p,vs,e,q,t⟩:=ra
  subst e
  have e2:y=.int _:=rb
  subst e2
  split at h
  ·rename_i d hd
   obtain ⟨w,hw,rw'⟩:=zu t hd
   exact Q4 value slice pins s σ H _ _ v u Q I rx ry ⟨p,vs,_,w,rfl,rfl,q.sq,hw,h.now r rw'⟩ hs
  ·exact h.elim
 ·cases eY ea
  obtain ⟨e,hl⟩:=ra
  subst e
  have e2:y=.int _:=rb
  subst e2
  split at h
  ·rename_i c hc
   exact Q5 value slice pins s σ H _ _ v u Q I rx ry ⟨_,_,c,rfl,rfl,by rw[cg];exact cI hl,hc,h.now r ⟨rfl,by show 1≤sz;decide⟩⟩ hs
  ·exact h.elim
 ·exact h.elim
theorem Uo(l:List Nat)(lo hi:Option Int):Txt.slice (tx l) lo hi=tx (cut l lo hi):=by
 have e:Builtin.Str.strSliceIndices lo hi 1 (tx l).length=sliceRange (sliceBounds lo hi none (tx l).length).1 (sliceBounds lo hi none (tx l).length).2.1 1:=by
  unfold Builtin.Str.strSliceIndices sliceBounds
  cases lo <;> cases hi <;> rfl
 obtain ⟨h1,h2,h3⟩:=xT lo hi (tx l).length
 rw[h1,h2,sliceRange_one]at e
 have e2:((Builtin.Str.strSliceIndices lo hi 1 (tx l).length).filterMap ((tx l).cps[·]?))=cut l lo hi:=by
  rw[e,pick_run]
  unfold cut
  rw[cg]
 unfold Txt.slice
 split
 ·rename_i hh
  rw[Bool.and_eq_true]at hh
  have hl:=eq_of_beq hh.2
  rw[e,List.length_map,List.length_range,cg]at hl
  have b1:HT.sIx l.length l.length hi≤l.length:=HT.xJ _ _ (Nat.le_refl _) hi
  unfold cut
  by_cases hz:l=[]
  ·subst hz;simp
  ·have hp:0 < l.length:=List.length_pos_iff.mpr hz
   have e3:HT.sIx l.length 0 lo=0:=by omega
   have e4:HT.sIx l.length l.length hi=l.length:=by omega
   rw[e3,e4]
   simp
 ·rw[e2]
theorem Up{α:Type}(xs:List α)(lo hi:Option Int):(cut xs lo hi).length≤xs.length:=by
 unfold cut
 rw[List.length_take,List.length_drop]
 omega
theorem Uq{prog:Program}{w:World}{A:Around}{E:Value→Shared→Prop}{s:Shared}{t sl:Addr}{items:Array Value}{vl vu:Value}{lo hi:Option Int}{Q:Value→Shared→Prop}(ht:IsTup s.heap t items)(hs:s.heap.IsSliceOf sl vl vu .none)(pl:IsPart vl lo)(pu:IsPart vu hi)
  (hw:HT.sIx items.size 0 lo=0∧HT.sIx items.size items.size hi=items.size) (h:Q (.ref t) s):wpAny (model prog w) A (getItem (.ref t) (.ref sl)) Q E s:=by
 obtain ⟨os,hos,hcs,hds⟩:=id hs
 have hTs:s.TypeIs (.ref sl) "slice":=⟨os,hos,hcs⟩
 unfold getItem
 try with_reducible refine wpAny_holding ?_
 first |refine wpAny_bind (wpAny_pure ?_) |skip
 refine wpAny_bind (wpAny_sequenceKey ht.typeIs (by decide) ?_)
 refine wpAny_bind (wpAny_callSpecial?_slot (name:=Str.ofString "__getitem__") ht.typeIs PyProof.Rows.slot_tuple_getitem
  (wpAny_call_entry PyProof.Rows.slot_tuple_getitem ht.typeIs entry_tuple_getitem ?_ (args_tuple_getitem _ _)))
 show wpAny _ _ (Builtin.Tuple.tupleItemsOf (.ref t) >>= _) _ _ s
 refine wpAny_bind (tupleItemsOf_ ht ?_)
 refine wpAny_bind (wpAny_typeOf hTs ?_)
 rw[if_pos (by decide)]
 refine wpAny_bind (HT.xN hs pl pu ?_)
 have hyes:(((HT.sIx items.size 0 lo:Nat):Int)==0&&(1:Int)==1&&(HT.sIx items.size items.size hi - HT.sIx items.size 0 lo)==items.size)=true:=by
  rw[hw.1,hw.2];simp
 show wpAny _ _ (if (((HT.sIx items.size 0 lo:Nat):Int)==0&&(1:Int)==1&&(HT.sIx items.size items.size hi - HT.sIx items.size 0 lo)==items.size)=true then _ else _) _ _ s
 rw[if_pos hyes]
 refine wpAny_bind (m:=Builtin.Tuple.tupleIsExact _) (wpAny_bind (wpAny_typeOf ht.typeIs (wpAny_pure ?_)))
 rw[if_pos (by decide)]
 exact wpAny_bind (wpAny_rule (wpAny_pure ⟨_,rfl,wpAny_pure h⟩))
theorem Ur:SlR X (fun x lo hi H Q=>∃a xs,x=.ref a∧SqT X.K H a xs∧(HT.sIx xs.length 0 lo=0∧HT.sIx xs.length xs.length hi=xs.length)∧Q (.ref a) H):=by
 intro pins s σ H x v vl vu lo hi sl Q I rx hs pl pu h
 obtain ⟨a,xs,rfl,hx,hw,q⟩:=h
 cases rx
 obtain ⟨its,r,ht,hz⟩:=I.tuple hx
 have hlen:its.toArray.size=xs.length:=by rw[List.size_toArray];exact r.length.symm
 exact ⟨"tuple",_,PyProof.Rows.slot_tuple_getitem.lookup,ht.typeIs,Uq ht hs pl pu (by rw[hlen];exact hw) ⟨.ref a,H,I,rfl,q⟩⟩
theorem zx{K:PySem.W.Frag}{H:Hp}{F:FZ}:∀ns:List Int,Reps K H F (ns.map D.int) (ns.map V.int)
 |[]=>rfl
 |n::ns=>⟨_,_,rfl,rfl,zx ns⟩
def Us(K:PySem.W.Frag)(fz:Bool):V→Option Int→Option Int→Hp→VK→Prop:=fun x lo hi H Q=>∃F G a,R K H F G∧Rep K H F a x∧c7 fz (view G a) lo hi G (PV K H F Q)
theorem zy{K:PySem.W.Frag}{H:Hp}{F:FZ}{ds:List D}{vs:List V}(t:Reps K H F ds vs)(lo hi:Option Int):Reps K H F (cut ds lo hi) (cW vs lo hi):=t.cut lo hi
theorem Ut(fz:Bool):SlR X (Us X.K fz):=by
 intro pins s σ H x v vl vu lo hi sl Q I rx hs pl pu h
 obtain ⟨F,G,a,r,ra,h⟩:=h
 generalize ea:view G a=va at h
 unfold c7 at h
 split at h
 ·obtain ⟨p,vs,e,q,t⟩:=Rep.list r ra ea
  subst e
  exact xU pins s σ H _ v vl vu lo hi sl Q I rx hs pl pu ⟨p,vs,rfl,q,dD h r (zy t lo hi)⟩
 ·rename_i ns
  have ea':a=.scr ns:=by
   cases a with
   |ref p=>
    unfold view at ea
    cases g:G p with
    |none=>simp only[g]at ea;cases ea
    |some o=>cases o;simp only[g]at ea;cases ea
   |_=>exact ea
  subst ea'
  obtain ⟨p,e,q⟩:=ra
  subst e
  refine xU pins s σ H _ v vl vu lo hi sl Q I rx hs pl pu ⟨p,_,rfl,q.sq,dD h r ?_⟩
  have e2:cW (ns.map V.int) lo hi=(cut ns lo hi).map V.int:=by
   unfold cW cut
   rw[List.length_map,List.map_take,List.map_drop]
  rw[e2]
  exact zx (cut ns lo hi)
 ·cases eX ea
  obtain ⟨p,vs,e,q,t⟩:=id ra
  subst e
  by_cases hw:HT.sIx vs.length 0 lo=0∧HT.sIx vs.length vs.length hi=vs.length
  ·refine Ur pins s σ H _ v vl vu lo hi sl Q I rx hs pl pu ⟨p,vs,rfl,q.sq,hw,?_⟩
   refine h.now r ?_
   rename_i ds
   have:cut ds lo hi=ds:=by
    unfold cut
    rw[t.length,hw.1,hw.2]
    simp[←t.length]
   rw[this]
   exact ra
  ·exact QS pins s σ H _ v vl vu lo hi sl Q I rx hs pl pu ⟨p,vs,rfl,q.sq,hw,jz h r (zy t lo hi)⟩
 ·cases eY ea
  obtain ⟨e,hl⟩:=ra
  subst e
  refine RM pins s σ H _ v vl vu lo hi sl Q I rx hs pl pu ⟨_,rfl,by rw[cg];exact cI hl,?_⟩
  rw[Uo]
  exact h.now r ⟨rfl,Nat.le_trans (Up _ _ _) hl⟩
 ·exact h.elim
theorem zA{K:PySem.W.Frag}{H:Hp}{F:FZ}{G:DH}{d:D}{v:V}{b:Bool}(r:R K H F G)(h:Rep K H F d v)(e:truth (view G d)=some b):mY K v H b:=by
 have h':=pZ r h
 generalize view G d=w at e h'
 cases w with
 |non=>have e1:v=.non:=h';subst e1;simp only[truth,Option.some.injEq]at e;exact e.symm
 |bl x=>have e1:v=.bl x:=h';subst e1;simp only[truth,Option.some.injEq]at e;exact e.symm
 |int i=>have e1:v=.int i:=h';subst e1;simp only[truth,Option.some.injEq]at e;exact e.symm
 |str l=>
  obtain ⟨e1,hl⟩:=h'
  subst e1
  simp only[truth,Option.some.injEq]at e
  refine ⟨by rw[cg];exact cI hl,?_⟩
  rw[cg,←e]
  cases l with
  |nil=>rfl
  |cons c l=>simp;omega
 |tup l=>
  obtain ⟨a,vs,e1,q,t⟩:=h'
  subst e1
  simp only[truth,Option.some.injEq]at e
  refine .inr (.inl ⟨vs,q.sq,?_⟩)
  rw[←e]
  cases l with
  |nil=>have t:vs=[]:=t;subst t;rfl
  |cons c l=>obtain ⟨_,_,e2,_⟩:=t;subst e2;rfl
 |lst l=>
  obtain ⟨a,vs,e1,q,t⟩:=h'
  subst e1
  simp only[truth,Option.some.injEq]at e
  refine .inl ⟨vs,q.sq,?_⟩
  rw[←e]
  cases l with
  |nil=>have t:vs=[]:=t;subst t;rfl
  |cons c l=>obtain ⟨_,_,e2,_⟩:=t;subst e2;rfl
 |ref a=>simp[truth]at e
 |scr a=>simp[truth]at e
 |exn a=>simp[truth]at e
theorem p6{K:PySem.W.Frag}{H:Hp}{F:FZ}:∀{ds:List D}{vs:List V}{bs:List Bool},bools ds=some bs→Reps K H F ds vs→vs=bs.map V.bl
 |[],_,bs,e,h=>by
  simp only[bools,Option.some.injEq]at e
  subst e
  exact h
 |d::ds,_,bs,e,⟨v,w,e1,h,t⟩=>by
  cases d with
  |bl b=>
   simp only[bools]at e
   cases q:bools ds with
   |none=>rw[q]at e;cases e
   |some s=>
    rw[q]at e
    cases e
    have hv:v=.bl b:=h
    rw[e1,hv,p6 q t];rfl
  |_=>simp[bools]at e
theorem bF{K:PySem.W.Frag}{H:Hp}{F:FZ}{d:D}{vs:List V}(t:Reps K H F [d] vs):∃v,vs=[v]∧Rep K H F d v:=by
 obtain ⟨v,r,e,h,t⟩:=t
 have t:r=[]:=t
 subst t
 exact ⟨v,e,h⟩
def iG(K:PySem.W.Frag)(f:Bf):List V→Hp→VK→Prop:=fun vs H Q=>∃F G ds,R K H F G∧Reps K H F ds vs∧opB f (ds.map (view G)) (fun d=>PV K H F Q d G)
theorem map_one{G:DH}{ds:List D}{x:D}(h:ds.map (view G)=[x]):∃d,ds=[d]∧view G d=x:=by
 match ds,h with
 |[d],h=>exact ⟨d,rfl,by simpa using h⟩
theorem Uu:bM X (.builtin "len") (iG X.K .len):=by
 intro pins s σ H xs us Q I rs h
 obtain ⟨F,G,ds,r,t,h⟩:=h
 generalize ea:ds.map (view G)=va at h
 simp only[opB,sX]at h
 split at h
 ·obtain ⟨d,rfl,ev⟩:=map_one ea
  obtain ⟨v,rfl,rv⟩:=bF t
  obtain ⟨a,vs,e,q,t'⟩:=Rep.list r rv ev
  subst e
  exact xV pins s σ H _ us Q I rs ⟨a,vs,rfl,.inl q,by rw[←t'.length];exact h.now r rfl⟩
 ·obtain ⟨d,rfl,ev⟩:=map_one ea
  obtain ⟨v,rfl,rv⟩:=bF t
  cases eX ev
  obtain ⟨a,vs,e,q,t'⟩:=rv
  subst e
  exact xV pins s σ H _ us Q I rs ⟨a,vs,rfl,.inr q.sq,by rw[←t'.length];exact h.now r rfl⟩
 ·obtain ⟨d,rfl,ev⟩:=map_one ea
  obtain ⟨v,rfl,rv⟩:=bF t
  cases eY ev
  obtain ⟨e,hl⟩:=rv
  subst e
  exact Ra pins s σ H _ us Q I rs ⟨_,rfl,by rw[cg];exact cI hl,by rw[cg];exact h.now r rfl⟩
 ·exact h.elim
theorem Uv (hc:X.calm=true):bM X (.builtin "all") (iG X.K .all):=by
 intro pins s σ H xs us Q I rs h
 obtain ⟨F,G,ds,r,t,h⟩:=h
 generalize ea:ds.map (view G)=va at h
 simp only[opB,nq]at h
 split at h
 ·obtain ⟨d,rfl,ev⟩:=map_one ea
  obtain ⟨v,rfl,rv⟩:=bF t
  obtain ⟨a,vs,e,q,t'⟩:=Rep.list r rv ev
  subst e
  split at h
  ·rename_i bs hb
   have e2:=p6 hb t'
   subst e2
   exact RG hc pins s σ H _ us Q I rs ⟨a,bs,rfl,q,h.now r rfl⟩
  ·exact h.elim
 ·exact h.elim
theorem Uw:bM X (.type "int") (iG X.K .int):=by
 intro pins s σ H xs us Q I rs h
 obtain ⟨F,G,ds,r,t,h⟩:=h
 generalize ea:ds.map (view G)=va at h
 simp only[opB,nu]at h
 split at h
 ·obtain ⟨d,rfl,ev⟩:=map_one ea
  obtain ⟨v,rfl,rv⟩:=bF t
  cases T7 ev
  have e:v=.bl _:=rv
  subst e
  exact xq pins s σ H _ us Q I rs (.inr ⟨_,rfl,h.now r rfl⟩)
 ·obtain ⟨d,rfl,ev⟩:=map_one ea
  obtain ⟨v,rfl,rv⟩:=bF t
  cases cZ ev
  have e:v=.int _:=rv
  subst e
  exact xq pins s σ H _ us Q I rs (.inl ⟨_,rfl,h.now r rfl⟩)
 ·obtain ⟨d,rfl,ev⟩:=map_one ea
  obtain ⟨v,rfl,rv⟩:=bF t
  cases eY ev
  obtain ⟨e,hl⟩:=rv
  subst e
  split at h
  ·rename_i n hn
   exact RK pins s σ H _ us Q I rs ⟨_,n,rfl,hn,by rw[cg];exact h.1,h.2.now r rfl⟩
  ·exact h.elim
 ·exact h.elim
theorem Ux:bM X (.type "tuple") (iG X.K .tuple):=by
 intro pins s σ H xs us Q I rs h
 obtain ⟨F,G,ds,r,t,h⟩:=h
 generalize ea:ds.map (view G)=va at h
 simp only[opB,sY]at h
 split at h
 ·obtain ⟨d,rfl,ev⟩:=map_one ea
  obtain ⟨v,rfl,rv⟩:=bF t
  obtain ⟨a,vs,e,q,t'⟩:=Rep.list r rv ev
  subst e
  exact xX pins s σ H _ us Q I rs ⟨a,vs,rfl,.inl ⟨q,jz h r t'⟩⟩
 ·obtain ⟨d,rfl,ev⟩:=map_one ea
  obtain ⟨v,rfl,rv⟩:=bF t
  cases eX ev
  obtain ⟨a,vs,e,q,t'⟩:=id rv
  subst e
  exact xX pins s σ H _ us Q I rs ⟨a,vs,rfl,.inr ⟨q.sq,h.now r rv⟩⟩
 ·exact h.elim
def zB(K:PySem.W.Frag)(fz:Bool)(f:Lf):List V→Hp→VK→Prop:=fun vs H Q=>∃F G ds,R K H F G∧Reps K H F ds vs∧cG f (ds.map (view G)) (fun xs=>mk fz xs G (PV K H F Q))
theorem Uy(l:List Nat):∀(us:List Value),us.length=l.length→(∀(j:Nat)(v:Value),us[j]?=some v→∃(c:Nat)(u:Tok),l[j]?=some c∧v=Value.str ⟨#[c]⟩ u)→Vals (l.map fun c=>V.str (tx [c])) us:=by
 induction l with
 |nil=>intro us h _;cases us with |nil=>exact .nil |cons _ _=>cases h
 |cons c l ih=>
  intro us h q
  cases us with
  |nil=>cases h
  |cons u us=>
   obtain ⟨c',t,e1,e2⟩:=q 0 u (by simp)
   have e1:c=c':=by simpa using e1
   subst e1
   exact .cons ⟨t,e2⟩ (ih us (by simpa using h) fun j v hv=>by simpa using q (j+1) v (by simpa using hv))
theorem Uz (hc:X.calm=true):bM X (.type "list") (fun xs H Q=>∃l:List Nat,xs=[.str (tx l)]∧l.length≤sizeLine∧∀p,H p=none→Q (.ref p) (upd H p (.lst (l.map fun c=>V.str (tx [c]))))):=by
 intro pins s σ H xs us Q I r h
 obtain ⟨l,rfl,hz,q⟩:=h
 obtain ⟨u,rfl,t,rfl⟩:=vals1 r
 have hz':(tx l).cps.size≤sizeLine:=by simpa using hz
 refine call_list_str (hn:=hz') (I.ok.hd hc) (tx l) t fun h' tk acc' c' kp e hi=>?_
 have hv:Vals (l.map fun c=>V.str (tx [c])) acc'.toList:=by
  refine Uy l _ ?_ fun j v hv=>?_
  ·rw[Array.length_toList,hi.1];simp
  ·obtain ⟨c,u,e1,e2⟩:=hi.2 j v (by rw[←Array.getElem?_toList];exact hv)
   exact ⟨c,u,by simpa using e1,e2⟩
 exact ⟨.ref s.heap.objs.size,_,I.laid (t':=tk) kp (Nat.le_refl _) (show ObjOk X.prog X.w _ h' _ (.lst _) from ⟨by rw[List.length_map];exact hz,acc'.toList,c',hv,by rw[Array.toArray_toList];exact e⟩),rfl,q _ (I.hok.fresh (Nat.le_refl _))⟩
theorem uv{K:PySem.W.Frag}{H:Hp}{F:FZ}:∀l:List Nat,Reps K H F (l.map fun c=>D.str [c]) (l.map fun c=>V.str (tx [c]))
 |[]=>rfl
 |c::l=>⟨_,_,rfl,⟨rfl,by show 1≤sz;decide⟩,uv l⟩
theorem UG (hc:X.calm=true) (fz:Bool):bM X (.type "list") (zB X.K fz .list):=by
 intro pins s σ H xs us Q I rs h
 obtain ⟨F,G,ds,r,t,h⟩:=h
 generalize ea:ds.map (view G)=va at h
 simp only[cG,tB]at h
 split at h
 ·obtain ⟨d,rfl,ev⟩:=map_one ea
  obtain ⟨v,rfl,rv⟩:=bF t
  obtain ⟨a,vs,e,q,t'⟩:=Rep.list r rv ev
  subst e
  exact xW pins s σ H _ us Q I rs ⟨a,vs,rfl,.inl q,dD h r t'⟩
 ·obtain ⟨d,rfl,ev⟩:=map_one ea
  obtain ⟨v,rfl,rv⟩:=bF t
  cases eX ev
  obtain ⟨a,vs,e,q,t'⟩:=id rv
  subst e
  exact xW pins s σ H _ us Q I rs ⟨a,vs,rfl,.inr q.sq,dD h r t'⟩
 ·obtain ⟨d,rfl,ev⟩:=map_one ea
  obtain ⟨v,rfl,rv⟩:=bF t
  cases eY ev
  obtain ⟨e,hl⟩:=rv
  subst e
  exact Uz hc pins s σ H _ us Q I rs ⟨_,rfl,cI hl,dD h r (uv _)⟩
 ·exact h.elim
theorem zE{K:PySem.W.Frag}{H:Hp}{F:FZ}:∀{ds:List D}{vs:List V}{ls:List (List Nat)},bR ds=some ls→Reps K H F ds vs→vs=(ls.map tx).map V.str
 |[],_,bs,e,h=>by
  simp only[bR,Option.some.injEq]at e
  subst e
  exact h
 |d::ds,_,bs,e,⟨v,w,e1,h,t⟩=>by
  cases d with
  |str b=>
   simp only[bR]at e
   cases q:bR ds with
   |none=>rw[q]at e;cases e
   |some s=>
    rw[q]at e
    cases e
    obtain ⟨hv,_⟩:=h
    rw[e1,hv,zE q t];rfl
  |_=>simp[bR]at e
section
variable {prog:Program} {w:World} {A:Around} {E:Value→Shared→Prop} {s:Shared} {l:Addr}
end
theorem acX{ds:List D}{ls:List (List Nat)}(h0:gj ds=none)(h1:bR ds=some ls):ls≠[]:=by
 rintro rfl
 cases ds with
 |nil=>simp[gj]at h0
 |cons x y=>cases x <;> simp only[bR]at h1 <;> first | (cases h1;done) | (cases hd:bR y <;> rw[hd]at h1 <;> cases h1)
theorem UJ:bM X (.type "str") (iG X.K .str):=by
 intro pins s σ H xs us Q I r h
 obtain ⟨F,G,ds,rr,t,h⟩:=h
 generalize ea:ds.map (view G)=va at h
 simp only[opB,tu]at h
 split at h
 ·rename_i i
  obtain ⟨d',rfl,ev⟩:=map_one ea
  obtain ⟨v',rfl,rv⟩:=bF t
  have e1:=cZ ev
  subst e1
  have e2:v'=.int i:=rv
  subst e2
  obtain ⟨⟨h0,h1⟩,h2⟩:=h
  have hm:(i.toNat:Int)=i:=Int.toNat_of_nonneg h0
  have hl:(dX i.toNat).length≤3:=by
   have:=digits_le ⟨i.toNat,by omega⟩
   unfold dX
   rw[Array.length_toList]
   exact this
  have hs:=h2.now rr (v:=.str (tx (dX i.toNat))) ⟨rfl,by have hz:sz=1000000:=rfl;omega⟩
  have ht:tx (dX i.toNat)=sI i.toNat:=(yl _).symm
  rw[ht]at hs
  exact Tp pins s σ H _ us Q I r ⟨i.toNat,by rw[hm],by omega,hs⟩
 ·exact h.elim
def dm:D→Option String
 |.non=>some "NoneType"
 |.bl _=>some "bool"
 |.int _=>some "int"
 |.str _=>some "str"
 |.tup _=>some "tuple"
 |.lst _=>some "list"
 |_=>none
theorem UL{K:PySem.W.Frag}{H:Hp}{F:FZ}{G:DH}{d:D}{v:V}{T:String}(r:R K H F G)(h:Rep K H F d v)(e:dm (view G d)=some T):TyOf K H v (.type T):=by
 have h':=pZ r h
 generalize view G d=w at e h'
 cases w with
 |non=>have e1:v=.non:=h';subst e1;simp only[dm,Option.some.injEq]at e;subst e;exact .non
 |bl x=>have e1:v=.bl x:=h';subst e1;simp only[dm,Option.some.injEq]at e;subst e;exact .bl x
 |int i=>have e1:v=.int i:=h';subst e1;simp only[dm,Option.some.injEq]at e;subst e;exact .int i
 |str l=>obtain ⟨e1,hl⟩:=h';subst e1;simp only[dm,Option.some.injEq]at e;subst e;exact .str _
 |tup l=>obtain ⟨a,vs,e1,q,t⟩:=h';subst e1;simp only[dm,Option.some.injEq]at e;subst e;exact .tup q.it
 |lst l=>obtain ⟨a,vs,e1,q,t⟩:=h';subst e1;simp only[dm,Option.some.injEq]at e;subst e;exact .lst q.2
 |ref a=>simp[dm]at e
 |scr a=>simp[dm]at e
 |exn a=>simp[dm]at e
def UT (K:PySem.W.Frag):Prop:=∀T t:String,T∈["NoneType","bool","int","str","tuple","list"]→dY t=true→PySem.W.kitOne K (.type T) (.type t)=some (T==t||(T=="bool"&&t=="int"))
theorem UV{K:PySem.W.Frag}:UT K:=by
 intro T t hT ht
 simp only[List.mem_cons,List.not_mem_nil,or_false]at hT
 simp only[dY,Bool.or_eq_true,beq_iff_eq]at ht
 rcases hT with rfl |rfl |rfl |rfl |rfl |rfl <;> rcases ht with (((rfl |rfl) |rfl) |rfl) |rfl <;> (with_unfolding_all rfl)
theorem UW {d:D} {t:String} {b:Bool} (e:isT t d=some b):∃T,dm d=some T∧T∈["NoneType","bool","int","str","tuple","list"]∧(dY t=true→b=(T==t||(T=="bool"&&t=="int"))):=by
 have comm:∀a b:String,(a==b)=(b==a):=fun a b=>by rw[Bool.eq_iff_iff,beq_iff_eq,beq_iff_eq];exact ⟨Eq.symm,Eq.symm⟩
 cases d with
 |non=>
  refine ⟨"NoneType",rfl,by simp,fun ht=>?_⟩
  simp only[isT,Option.some.injEq]at e
  simp only[dY,Bool.or_eq_true,beq_iff_eq]at ht
  subst e
  rcases ht with (((rfl |rfl) |rfl) |rfl) |rfl <;> rfl
 |bl _=>
  refine ⟨"bool",rfl,by simp,fun ht=>?_⟩
  simp only[isT,Option.some.injEq]at e
  rw[←e,comm t "bool"];rfl
 |int _=>
  refine ⟨"int",rfl,by simp,fun ht=>?_⟩
  simp only[isT,Option.some.injEq]at e
  rw[←e,comm t "int"];simp
 |str _=>
  refine ⟨"str",rfl,by simp,fun ht=>?_⟩
  simp only[isT,Option.some.injEq]at e
  rw[←e,comm t "str"];simp
 |tup _=>
  refine ⟨"tuple",rfl,by simp,fun ht=>?_⟩
  simp only[isT,Option.some.injEq]at e
  rw[←e,comm t "tuple"];simp
 |lst _=>
  refine ⟨"list",rfl,by simp,fun ht=>?_⟩
  simp only[isT,Option.some.injEq]at e
  rw[←e,comm t "list"];simp
 |ref a=>simp[isT]at e
 |scr a=>simp[isT]at e
 |exn a=>simp[isT]at e
theorem zF(s:List Nat):∀ls:List (List Nat),Str.join (tx s) (ls.map tx)=tx (dg s ls)
 |[]=>rfl
 |[x]=>rfl
 |x::y::r=>by
  have ih:=zF s (y::r)
  show tx x++tx s++Str.join (tx s) ((y::r).map tx)=_
  rw[ih,sr,sr];rfl
theorem zG(s:List Nat):∀ls:List (List Nat),(dg s ls).length≤(ls.map (·.length)).sum+ls.length * s.length
 |[]=>by simp[dg]
 |[x]=>by simp[dg]
 |x::y::r=>by
  have ih:=zG s (y::r)
  simp only[dg,List.length_append,List.map_cons,List.sum_cons,List.length_cons]at ih ⊢
  have:(r.length+1+1) * s.length=(r.length+1) * s.length+s.length:=by rw[Nat.succ_mul]
  omega
def iH(K:PySem.W.Frag)(m:Mf):V→List V→Hp→VK→Prop:=fun x vs H Q=>∃F G d ds,R K H F G∧Rep K H F d x∧Reps K H F ds vs∧opM m d ds G (PV K H F Q)
theorem U0:MtR X "str.join" (iH X.K .join):=by
 intro pins s σ H x xs v us Q I rx rs h
 obtain ⟨F,G,d,ds,r,rd,t,h⟩:=h
 simp only[opM]at h
 generalize ea:ds.map (view G)=va at h
 simp only[nA]at h
 split at h
 ·obtain ⟨d',rfl,ev⟩:=map_one ea
  obtain ⟨v',rfl,rv⟩:=bF t
  obtain ⟨a,vs,e,q,t'⟩:=Rep.list r rv ev
  subst e
  obtain ⟨e1,hl⟩:=rd
  subst e1
  split at h
  ·rename_i ls hls
   have e2:=zE hls t'
   subst e2
   refine Rv pins s σ H _ _ v us Q I rx rs ⟨_,a,_,rfl,rfl,q,?_,?_⟩
   ·have hz:=h.1
    rw[List.map_map,List.length_map,cg,show (fun x:Str=>x.length)∘tx=fun l=>l.length from funext cg]
    have:sz=1000000:=rfl
    omega
   ·rw[zF]
    exact h.2.now r ⟨rfl,Nat.le_trans (zG _ _) h.1⟩
  ·exact h.elim
 ·exact h.elim
theorem U3:MtM X "list.append" (iH X.K .append):=by
 intro pins s σ H x xs v us Q I rx rs h
 obtain ⟨F,G,d,ds,r,rd,t,h⟩:=h
 simp only[opM,nF]at h
 split at h
 ·obtain ⟨v',rfl,rv⟩:=bF t
  have e1:x=.ref _:=rd
  subst e1
  split at h
  ·rename_i ds0 hg
   obtain ⟨vs,q,t'⟩:=r.lst hg
   refine Rf pins s σ H _ _ v us Q I rx rs ⟨_,vs,v',rfl,rfl,q,?_,?_⟩
   ·rw[←t'.length];exact Nat.lt_of_lt_of_le h.1 szl
   ·exact h.2 _ _ _ (jq r hg) (r.write hg (t'.append (Reps.cons rv Reps.nil))) rfl
  ·exact h.elim
 ·exact h.elim
theorem U4:MtR X "list.count" (iH X.K .count):=by
 intro pins s σ H x xs v us Q I rx rs h
 obtain ⟨F,G,d,ds,r,rd,t,h⟩:=h
 simp only[opM]at h
 generalize ea:view G d=va at h
 simp only[nJ]at h
 split at h
 ·obtain ⟨a,vs,e,q,t'⟩:=Rep.list r rd ea
  subst e
  obtain ⟨v',rfl,rv⟩:=bF t
  have e2:v'=.bl true:=rv
  subst e2
  split at h
  ·rename_i bs hbs
   have e3:=p6 hbs t'
   subst e3
   exact Tf pins s σ H _ _ v us Q I rx rs ⟨a,bs,rfl,rfl,q,h.now r rfl⟩
  ·exact h.elim
 ·exact h.elim
theorem U5:MtR X "list.index" (iH X.K .index):=by
 intro pins s σ H x xs v us Q I rx rs h
 obtain ⟨F,G,d,ds,r,rd,t,h⟩:=h
 simp only[opM]at h
 generalize ea:view G d=va at h
 simp only[nM]at h
 split at h
 ·obtain ⟨a,vs,e,q,t'⟩:=Rep.list r rd ea
  subst e
  obtain ⟨v',rfl,rv⟩:=bF t
  have e2:v'=.bl true:=rv
  subst e2
  split at h
  ·rename_i bs hbs
   have e3:=p6 hbs t'
   subst e3
   exact Ti pins s σ H _ _ v us Q I rx rs ⟨a,bs,rfl,rfl,q,h.1,h.2.now r rfl⟩
  ·exact h.elim
 ·exact h.elim
def U6:V→List V→Hp→VK→Prop:=fun x vs H Q=>∃(l:Addr)(xs:List V)(i:Int)(y:V),x=.ref l∧vs=[.int i,y]∧H l=some (.lst xs)∧xs.length < sizeLine∧0≤i∧i≤1000000∧Q .non (upd H l (.lst (xs.take i.toNat++y::xs.drop i.toNat)))
theorem U7{its:List Value}{i:Int}{u:Value}(h:0≤i):(its.toArray.extract 0 (if i < 0 then (i+(its.toArray.size:Int)).toNat else min i.toNat its.toArray.size)).push u++its.toArray.extract (if i < 0 then (i+(its.toArray.size:Int)).toNat else min i.toNat its.toArray.size)=(its.take i.toNat++u::its.drop i.toNat).toArray:=by
 rw[if_neg (by omega),PySem.W.kl_ins_eq,List.size_toArray]
 by_cases hc:i.toNat≤its.length
 ·rw[Nat.min_eq_left hc]
 ·rw[Nat.min_eq_right (by omega),List.take_of_length_le (Nat.le_refl _),List.drop_of_length_le (Nat.le_refl _),List.take_of_length_le (by omega),List.drop_of_length_le (by omega)]
theorem U8{i:Int}(h0:0≤i)(h1:i≤1000000):¬(!Builtin.List.listFitsIndex i)=true:=by
 have:Builtin.List.listFitsIndex i=true:=by
  unfold Builtin.List.listFitsIndex
  rw[Bool.and_eq_true]
  exact ⟨decide_eq_true (by omega),decide_eq_true (by omega)⟩
 rw[this];decide
theorem U9:MtM X "list.insert" U6:=by
 intro pins s σ H x vs v us Q I rx rv h
 obtain ⟨l,xs,i,y,rfl,rfl,hH,hz,h0,h1,q⟩:=h
 cases rx
 cases rv with
 |cons r1 rv=>
  obtain ⟨t,rfl⟩:=r1
  obtain ⟨u,rfl,ru⟩:=L2.Vals.one rv
  obtain ⟨z,its,m,r,hl,e⟩:=I.lstM hH
  refine call_meets PySem.F.slot_list_insert ⟨_,e,rfl⟩ PySem.F.entry_list_insert (PySem.F.args_list_insert_3 _ _ _) (PySem.AutoSeq1.list_insert_list_int_val_1 l its.toArray m i t u (U8 h0 h1) (by rw[List.size_toArray];omega)) ⟨e,?_⟩
  refine ⟨.non,_,I.lset (its':=its.take i.toNat++u::its.drop i.toNat) hH e (U7 h0) ((r.take _).append (.cons ru (r.drop _))) ?_,rfl,q⟩
  rw[List.length_append,List.length_cons,List.length_take,List.length_drop];omega
theorem Va:MtM X "list.insert" (iH X.K .insert):=by
 intro pins s σ H x xs v us Q I rx rs h
 obtain ⟨F,G,d,ds,r,rd,t,h⟩:=h
 simp only[opM,nH]at h
 split at h
 ·rename_i i y
  obtain ⟨v1,r1,rfl,rv1,t⟩:=t
  obtain ⟨v',rfl,rv⟩:=bF t
  have e1:x=.ref _:=rd
  subst e1
  have e2:v1=.int i:=rv1
  subst e2
  split at h
  ·rename_i ds0 hg
   obtain ⟨h1,h2,h3,h4⟩:=h
   obtain ⟨vs,q,t'⟩:=r.lst hg
   refine U9 pins s σ H _ _ v us Q I rx rs ⟨_,vs,i,v',rfl,rfl,q,?_,h2,h3,?_⟩
   ·rw[←t'.length];exact Nat.lt_of_lt_of_le h1 szl
   ·exact h4 _ _ _ (jq r hg) (r.write hg ((t'.take _).append (Reps.cons rv (t'.drop _)))) rfl
  ·exact h.elim
 ·exact h.elim
theorem Vb{K:PySem.W.Frag}{H:Hp}{F:FZ}{G:DH}{d:D}{v:V}{ds:List D}(r:R K H F G)(h:Rep K H F d v)(e:view G d=.lst ds):∃a vs,v=.ref a∧H a=some (.lst vs)∧Reps K H F ds vs:=by
 cases d with
 |lst xs=>
  have e':D.lst xs=.lst ds:=e
  cases e'
  obtain ⟨a,vs,e1,q,t⟩:=h
  exact ⟨a,vs,e1,q.2,t⟩
 |ref p=>
  have hv:v=.ref p:=h
  unfold view at e
  cases g:G p with
  |none=>simp only[g]at e;cases e
  |some o=>
   cases o with
   |lst xs=>
    simp only[g]at e
    cases e
    obtain ⟨vs,q,t⟩:=r.lst g
    exact ⟨p,vs,hv,q,t⟩
 |_=>cases (show _=D.lst ds from e)
theorem Vc:MtM X "list.extend" (iH X.K .extend):=by
 intro pins s σ H x xs v us Q I rx rs h
 obtain ⟨F,G,d,ds,r,rd,t,h⟩:=h
 simp only[opM]at h
 generalize ea:ds.map (view G)=va at h
 simp only[nG]at h
 split at h
 ·obtain ⟨d',rfl,ev⟩:=map_one ea
  obtain ⟨v',rfl,rv⟩:=bF t
  obtain ⟨b,vs2,e2,q2,t2⟩:=Vb r rv ev
  subst e2
  have e1:x=.ref _:=rd
  subst e1
  split at h
  ·rename_i ds0 hg
   obtain ⟨vs,q,t'⟩:=r.lst hg
   refine Rh pins s σ H _ _ v us Q I rx rs ⟨_,b,vs,vs2,rfl,rfl,q,q2,?_,?_⟩
   ·rw[←t'.length,←t2.length];exact Nat.le_of_lt (Nat.lt_of_lt_of_le h.1 szl)
   ·exact h.2 _ _ _ (jq r hg) (r.write hg (t'.append t2)) rfl
  ·exact h.elim
 ·exact h.elim
theorem Vd:rO X (fun o i x H Q=>∃F G a b c,R X.K H F G∧Rep X.K H F a o∧Rep X.K H F b i∧Rep X.K H F c x∧di a b c G (fun G'=>∀H' F',Ext H F H' F'→R X.K H' F' G'→Q H')):=by
 intro pins s σ H o i v ov iv u Q I ro ri rv h
 obtain ⟨F,G,a,b,c,r,ra,rb,rc,h⟩:=h
 unfold di at h
 split at h
 ·have e1:o=.ref _:=ra
  have e2:i=.int _:=rb
  subst e1;subst e2
  split at h
  ·rename_i ds hg
   obtain ⟨vs,q,t⟩:=r.lst hg
   split at h
   ·rename_i j hj
    refine set_list pins s σ H _ _ v ov iv u Q I ro ri rv ⟨_,vs,_,j,rfl,rfl,q,by rw[←t.length];exact hj,?_⟩
    exact h _ _ (jq r hg) (r.write hg (t.set rc j))
   ·exact h.elim
  ·exact h.elim
 ·exact h.elim
end
end RF
namespace RF
open PySem PySem.Spec PyProof.Rows L2
inductive SK where
 |lst (a:Addr) |tup (a:Addr) |str (x:Str) (t:Tok)
def SK.val:SK→Value
 |.lst a=>.ref a
 |.tup a=>.ref a
 |.str x t=>.str x t
def SK.cls:SK→String
 |.lst _=>"list_iterator"
 |.tup _=>"tuple_iterator"
 |.str x _=>strIterType x
def SK.obj(k:SK):Obj:={ cls:=.type k.cls,data:=.fields #[k.val,.int 0 0] }
def SK.pos(k:SK)(it:Addr)(i:Nat)(h:Heap):Prop:=∃o,h.get? it=some o∧o.cls=.type k.cls∧o.data=.fields #[k.val,.int i 0]
def SK.Sat(H:Hp)(vs:List V):SK→Prop
 |.lst a=>H a=some (.lst vs)
 |.tup a=>H a=some (.tup vs)
 |.str x _=>vs=x.cps.toList.map fun c=>V.str ⟨#[c]⟩
def SK.No(e:Addr):SK→Prop
 |.lst a=>a≠e
 |.tup a=>a≠e
 |.str _ _=>True
theorem SK.Sat.no{H:Hp}{vs:List V}{k:SK}{e:Addr}(h:k.Sat H vs)(he:H e=none):k.No e:=by
 cases k with
 |lst a=>exact aW (show H a=some _ from h) he
 |tup a=>exact aW (show H a=some _ from h) he
 |str x t=>trivial
def SK.On(its:Array Value)(h:Heap):SK→Prop
 |.lst a=>h.IsList a its
 |.tup a=>h.IsTuple a its
 |.str _ _=>True
theorem SK.On.keeps{its:Array Value}{h h':Heap}{k:SK}(x:k.On its h)(kk:∀b o,k.val=.ref b→h.get? b=some o→h'.get? b=some o):k.On its h':=by
 cases k with
 |lst a=>obtain ⟨o,e,r⟩:=x;exact ⟨o,kk a o rfl e,r⟩
 |tup a=>obtain ⟨o,e,r⟩:=x;exact ⟨o,kk a o rfl e,r⟩
 |str _ _=>trivial
section
variable {prog:Program} {w:World} {A:Around} {E:Value→Shared→Prop} {s:Shared}
theorem SK.iter{k:SK}{its:Array Value}{Q:Value→Shared→Prop}(h:k.On its s.heap)(q:Q (.ref s.heap.objs.size) { s with heap:=s.heap.push k.obj }):wpAny (model prog w) A (pyIter k.val) Q E s:=by
 cases k with
 |lst a=>exact wpAny_pyIter_list h q
 |tup a=>exact wpAny_pyIter_tuple h q
 |str x t=>exact wpAny_pyIter_strU q
theorem SK.pos0{k:SK}{h:Heap}:k.pos h.objs.size 0 (h.push k.obj):=⟨_,Heap.get?_push_size _ rfl,rfl,rfl⟩
theorem SK.pos.keep{k:SK}{it:Addr}{i:Nat}{h h':Heap}(x:k.pos it i h)(kk:∀o,h.get? it=some o→h'.get? it=some o):k.pos it i h':=let ⟨o,e,r⟩:=x;⟨o,kk o e,r⟩
theorem Ve{it t:Addr}{i:Nat}{items}{x:Value}{Q:Value→Shared→Prop}(hit:s.heap.IsTupleIter it t i)
  (ht:s.heap.IsTuple t items) (hx:items[i]?=some x)
  (hQ:∀h',h'.IsTupleIter it t (i+1)→Heap.SameBut it s.heap h'→Q x { s with heap:=h' }):
  wpAny (model prog w) A (Builtin.SmallTypes.nextOf (.ref it)) Q E s:=by
 obtain ⟨o,ho,hc,hd⟩:=id hit
 obtain ⟨ol,hol,_,nl,hdl⟩:=ht
 unfold Builtin.SmallTypes.nextOf
 refine wpAny_bind (wpAny_callSpecial?_slot (name:=Str.ofString "__next__") hit.typeIs F.slot_tuple_iterator_next
  (wpAny_call_entry F.slot_tuple_iterator_next hit.typeIs F.entry_tuple_iterator_next ?_ (F.args_tuple_iterator_next_1 _)))
 show wpAny _ _ (field (.ref it) 0 >>= _) _ _ s
 refine wpAny_bind (wpAny_field ho hd (x:=.ref t) rfl ?_)
 show wpAny _ _ (if (Value.ref t==Value.none)=true then _ else _) _ _ s
 rw[if_neg (show ¬((Value.ref t==Value.none)=true) from Bool.false_ne_true)]
 show wpAny _ _ (field (.ref it) 1 >>= _) _ _ s
 refine wpAny_bind (wpAny_field ho hd (x:=.int i 0) rfl ?_)
 show wpAny _ _ (seqItems? (.ref t) >>= _) _ _ s
 refine wpAny_bind (wpAny_seqItems hol hdl ?_)
 simp only[Int.toNat_natCast,hx]
 refine wpAny_bind (wpAny_setField ho hd (by simp) (wpAny_pure ⟨x,rfl,wpAny_pure (hQ _ ?_ (Heap.SameBut.update ..))⟩))
 exact ⟨_,Heap.get?_update_self _ ho (Obj.isFreed_of_fields (Obj.data_mapFields hd _)),(Obj.cls_mapFields ..).trans hc,by
  rw[Obj.data_mapFields hd];simp[rawInt]⟩
theorem Vf{it t:Addr}{i:Nat}{items}{Q:Value→Shared→Prop}(hh:A.handled=none)
  (hit:s.heap.IsTupleIter it t i) (ht:s.heap.IsTuple t items) (hx:items[i]?=none)
  (hE:∀h' e,Heap.ExtBut it s.heap h'→(∃o,h'.get? e=some o∧o.cls=.type "StopIteration")→E (.ref e) { s with heap:=h' }):
  wpAny (model prog w) A (Builtin.SmallTypes.nextOf (.ref it)) Q E s:=by
 obtain ⟨o,ho,hc,hd⟩:=id hit
 obtain ⟨ol,hol,_,nl,hdl⟩:=ht
 unfold Builtin.SmallTypes.nextOf
 refine wpAny_bind (wpAny_callSpecial?_slot (name:=Str.ofString "__next__") hit.typeIs F.slot_tuple_iterator_next
  (wpAny_call_entry F.slot_tuple_iterator_next hit.typeIs F.entry_tuple_iterator_next ?_ (F.args_tuple_iterator_next_1 _)))
 show wpAny _ _ (field (.ref it) 0 >>= _) _ _ s
 refine wpAny_bind (wpAny_field ho hd (x:=.ref t) rfl ?_)
 show wpAny _ _ (if (Value.ref t==Value.none)=true then _ else _) _ _ s
 rw[if_neg (show ¬((Value.ref t==Value.none)=true) from Bool.false_ne_true)]
 show wpAny _ _ (field (.ref it) 1 >>= _) _ _ s
 refine wpAny_bind (wpAny_field ho hd (x:=.int i 0) rfl ?_)
 show wpAny _ _ (seqItems? (.ref t) >>= _) _ _ s
 refine wpAny_bind (wpAny_seqItems hol hdl ?_)
 simp only[Int.toNat_natCast,hx]
 refine wpAny_bind (wpAny_rule (wpAny_bind (wpAny_setField ho hd (by simp) ?_)))
 show wpAny _ _ (newExc (.type "StopIteration") [] >>= _) _ _ _
 refine wpAny_bind ?_
 simp only[newExc,newTuple]
 refine wpAny_bind (wpAny_newObj_type ?_ (by size_fits))
 refine wpAny_bind (m:=firstArgMember _ _) (wpAny_of_eq (a:=Value.none) (by first |rfl | (simp only[firstArgMember];rfl)) ?_)
 refine wpAny_newObj_type ?_ (by size_fits)
 simp only[raiseNew]
 refine wpAny_bind (wpAny_handled ?_)
 first |rw[show A.in1.handled=none from hh] |rw[hh]
 refine wpAny_bind (wpAny_pure (wpAny_throw ?_))
 exact hE _ _ (((Heap.SameBut.update ..).extBut.push _).push _) ⟨_,Heap.get?_push_size _ rfl,rfl⟩
theorem Vg(hh:A.handled=none)(it l:Addr)(hne:l≠it)(items:Array Value):
  Draws prog w A it [it,l] items.size (fun i v=>items[i]?=some v) (fun i h=>h.IsTupleIter it l i∧h.IsTuple l items) where
 live:=fun _ _ st=>let ⟨o,ho,_⟩:=st.1;⟨o,ho⟩
 frame:=fun _ _ _ st hk=>⟨let ⟨o,e,r⟩:=st.1;⟨o,hk it (by simp) o e,r⟩,let ⟨o,e,r⟩:=st.2;⟨o,hk l (by simp) o e,r⟩⟩
 item:=fun i s Q E hi st hQ=>by
  refine Ve st.1 st.2 (x:=items[i]) (by simp[hi]) fun h' hit' hs'=>?_
  exact hQ _ h' s.toks (by simp[hi]) ⟨hit',let ⟨o,e,r⟩:=st.2;⟨o,hs'.extBut l o hne e,r⟩⟩ hs'
 done:=fun s Q E st hE=>Vf hh st.1 st.2 (by simp) hE
end
structure Drawn(P:Program)(w:World)(A:Around)(k:SK)(it:Addr)(i:Nat)(vs:List V)(h:Heap)(fp:List Addr)(Pd:Nat→Value→Prop)(S:Nat→Heap→Prop):Prop where
 D:Draws P w A it fp vs.length Pd S
 st:S i h
 val:∀j v,Pd j v→∃x,vs[j]?=some x∧RelV x v
 pos:∀j h,S j h→k.pos it j h
 fp:∀b∈fp,b=it∨k.val=.ref b
theorem drawn{X:Cx}{pins:List (Addr×Obj)}{σ:L2.St}{H:Hp}{s:Shared}{A:Around}(hh:A.handled=none)(I:Inv X pins σ H s){k:SK}{it:Addr}{i:Nat}{vs:List V}(sat:k.Sat H vs)(hit:H it=none)(p:k.pos it i s.heap):
  ∃fp Pd S,Drawn X.prog X.w A k it i vs s.heap fp Pd S:=by
 cases k with
 |lst a=>
  have sat:H a=some (.lst vs):=sat
  obtain ⟨its,r,pl,_⟩:=I.list (SqL.of sat)
  refine ⟨[it,a],fun j v=>its.toArray[j]?=some v,fun j h=>h.IsListIter it a j∧h.IsList a its.toArray,?_,⟨p,pl.isList⟩,?_,fun j h st=>st.1,?_⟩
  ·have D:=Draws.list (prog:=X.prog) (w:=X.w) hh it a (aW sat hit) its.toArray
   rw[List.size_toArray,←r.length]at D
   exact D
  ·intro j v e
   have e:its.toArray[j]?=some v:=e
   have hj:j < vs.length:=by
    rw[r.length]
    have:=(Array.getElem?_eq_some_iff.mp e).1
    simpa using this
   obtain ⟨u,e2,r2⟩:=r.get (show vs[j]?=some vs[j] by simp[hj])
   refine ⟨vs[j],by simp[hj],?_⟩
   have:its[j]?=some v:=by simpa using e
   rw[this]at e2;cases e2
   exact r2
  ·intro b hb
   have hb:b=it∨b=a:=by simpa using hb
   rcases hb with e |e
   ·exact .inl e
   ·exact .inr (by rw[e];rfl)
 |tup a=>
  have sat:H a=some (.tup vs):=sat
  obtain ⟨its,r,pl,_⟩:=I.tuple (SqT.of sat)
  refine ⟨[it,a],fun j v=>its.toArray[j]?=some v,fun j h=>h.IsTupleIter it a j∧h.IsTuple a its.toArray,?_,⟨p,pl⟩,?_,fun j h st=>st.1,?_⟩
  ·have D:=Vg (prog:=X.prog) (w:=X.w) hh it a (aW sat hit) its.toArray
   rw[List.size_toArray,←r.length]at D
   exact D
  ·intro j v e
   have e:its.toArray[j]?=some v:=e
   have hj:j < vs.length:=by
    rw[r.length]
    have:=(Array.getElem?_eq_some_iff.mp e).1
    simpa using this
   obtain ⟨u,e2,r2⟩:=r.get (show vs[j]?=some vs[j] by simp[hj])
   refine ⟨vs[j],by simp[hj],?_⟩
   have:its[j]?=some v:=by simpa using e
   rw[this]at e2;cases e2
   exact r2
  ·intro b hb
   have hb:b=it∨b=a:=by simpa using hb
   rcases hb with e |e
   ·exact .inl e
   ·exact .inr (by rw[e];rfl)
 |str x t=>
  have sat:vs=x.cps.toList.map fun c=>V.str ⟨#[c]⟩:=sat
  refine ⟨[it],fun i v=>∃c u,x.cps[i]?=some c∧v=.str ⟨#[c]⟩ u,fun i h=>h.IsStrIter it (strIterType x) x t i,?_,p,?_,fun j h st=>st,?_⟩
  ·have D:=RB (prog:=X.prog) (w:=X.w) hh it x t
   have e:x.cps.size=vs.length:=by rw[sat,List.length_map,Array.length_toList]
   rw[e]at D
   exact D
  ·rintro j v ⟨c,u,e1,e2⟩
   refine ⟨V.str ⟨#[c]⟩,?_,u,e2⟩
   rw[sat,List.getElem?_map,Array.getElem?_toList,e1];rfl
  ·intro b hb
   exact .inl (by simpa using hb)
def Jk(k:SK):It:=⟨fun i H=>∃vs,k.Sat H vs∧i < vs.length,fun i H x H'=>H'=H∧∀vs,k.Sat H vs→vs[i]?=some x,fun i H=>∃vs,k.Sat H vs∧vs.length=i⟩
def Je(k:SK):It:=⟨fun i H=>∃vs,k.Sat H vs∧i < vs.length,fun i H x H'=>∃T y,H T=none∧x=.ref T∧H'=upd H T (.tup [.int i,y])∧∀vs,k.Sat H vs→vs[i]?=some y,fun i H=>∃vs,k.Sat H vs∧vs.length=i⟩
theorem uw{H:Hp}{k:SK}{vs ws:List V}(h:k.Sat H vs)(h':k.Sat H ws):vs=ws:=by
 cases k with
 |lst a=>have e:=(show H a=some _ from h).symm.trans h';cases e;rfl
 |tup a=>have e:=(show H a=some _ from h).symm.trans h';cases e;rfl
 |str x t=>exact (show vs=_ from h).trans (show ws=_ from h').symm
theorem Vh{P:Program}{w:World}{K:PySem.W.Frag}{elts:List Expr}{x1:Nat}{pos:Pos}(k:SK)(e it:Addr)(hne:e≠it):
  Turn P w K (.Tuple elts x1 pos) (Je k) [e,it] e (fun i h=>(∃old,IsEnum h e it i old)∧k.pos it i h) where
 mem:=by simp
 obj:=fun i h st b hb=>by
  obtain ⟨⟨old,he⟩,o,ho,c,d⟩:=st
  have hb:b=e∨b=it:=by simpa using hb
  rcases hb with rfl |rfl
  ·exact ⟨_,he,fun v z=>by have z':Data.fields _=Data.cell v:=z;cases z'⟩
  ·exact ⟨o,ho,fun v z=>by rw[d]at z;cases z⟩
 keep:=fun i h h' st kk=>⟨let ⟨old,he⟩:=st.1;⟨old,kk e (by simp) _ he⟩,st.2.keep fun o ho=>kk it (by simp) o ho⟩
 item:=by
  intro X hP hw hK hc i pins s σ H E I hf st hg
  subst hP hw hK
  obtain ⟨vs,sat,hi⟩:=hg
  obtain ⟨⟨old,he⟩,hit⟩:=st
  have hfe:=hf e (by simp)
  have hfi:=hf it (by simp)
  obtain ⟨fp,Pd,S,Dr⟩:=drawn (A:=X.A.in1) (I.ok.hd hc) I sat hfi.1 hit
  have helt:e < s.heap.objs.size:=Heap.lt_size he
  have hef:e∉fp:=fun hb=>by
   rcases Dr.fp e hb with z |z
   ·exact hne z
   ·have:=sat.no hfe.1
    cases k with
    |lst a=>cases z;exact this rfl
    |tup a=>cases z;exact this rfl
    |str _ _=>cases z
  refine wpAny_pyNext_enum_itemD Dr.D he Dr.st hi hne hef fun u h1 tk hu heo hit1 ht1 hz1 hk1=>?_
  obtain ⟨x,hx,ru⟩:=Dr.val _ _ hu
  refine ⟨_,rfl,?_⟩
  refine wpAny_letOwnedTupleGo_enum heo fun h2 he2 hs2=>?_
  have hs2':Heap.SameBut e h1 h2:=hs2
  have hn:H s.heap.objs.size=none:=I.hok.fresh (Nat.le_refl _)
  have k2:∀b o,b∉[e,it]→s.heap.get? b=some o→h2.get? b=some o:=fun b o hb q=>by
   have hb':b≠e∧b≠it:=by simpa using hb
   exact hs2'.extBut b o hb'.1 (hk1 b o hb'.1 hb'.2 q)
  have I2:Inv X pins σ H { s with heap:=h2,toks:=tk+1 }:=I.turnedL hf k2
  have ht2:h2.get? s.heap.objs.size=some { cls:=.type "tuple",data:=.seq #[.int i tk,u] }:=hs2'.extBut _ _ (Nat.ne_of_gt helt) ht1
  have ob:ObjOk X.prog X.w (upd H s.heap.objs.size (.tup [.int i,x])) h2 s.heap.objs.size (.tup [.int i,x]):=
   ⟨by rw[sizeLine_eq];simp,[.int i tk,u],.cons ⟨_,rfl⟩ (.cons ru .nil),⟨_,ht2,rfl,_,rfl⟩⟩
  have I3:=I2.track (I.fpOk (Nat.le_refl _) hn) ob
  have nee:s.heap.objs.size≠e:=Nat.ne_of_gt helt
  have nei:s.heap.objs.size≠it:=by
   obtain ⟨o,ho,_⟩:=hit
   exact Nat.ne_of_gt (Heap.lt_size ho)
  refine ⟨.ref s.heap.objs.size,_,I3,rfl,⟨s.heap.objs.size,x,hn,rfl,rfl,fun ys hy=>by rw[uw hy sat];exact hx⟩,⟨⟨u,?_⟩,?_⟩,fun b hb=>?_⟩
  ·show IsEnum h2 e it (((i+1:Nat)):Int) u
   rw[show (((i+1:Nat):Int))=(i:Int)+1 by omega]
   exact he2
  ·exact (Dr.pos _ _ hit1).keep fun o ho=>hs2'.extBut _ _ (Ne.symm hne) ho
  ·have hb':b=e∨b=it:=by simpa using hb
   rw[aJ (by rcases hb' with rfl |rfl;exact Ne.symm nee;exact Ne.symm nei)]
   exact (hf b hb).1
 done:=by
  intro X hP hw hK hc i pins s σ H E I hf st hg
  subst hP hw hK
  obtain ⟨vs,sat,hi⟩:=hg
  subst hi
  obtain ⟨⟨old,he⟩,hit⟩:=st
  have hfi:=hf it (by simp)
  obtain ⟨fp,Pd,S,Dr⟩:=drawn (A:=X.A.in1) (I.ok.hd hc) I sat hfi.1 hit
  refine wpAny_pyNext_enum_endD Dr.D he Dr.st fun h' eb=>⟨rfl,I.turnedL (t':=s.toks) hf fun b o hb q=>?_⟩
  have hb':b≠e∧b≠it:=by simpa using hb
  exact eb b o hb'.2 q
 self:=fun A i s Q E st h=>by
  obtain ⟨⟨old,he⟩,_⟩:=st
  exact wpAny_pyIter_enum he h
theorem Vi{P:Program}{w:World}{K:PySem.W.Frag}{tg:Expr}(k:SK)(it:Addr):Turn P w K tg (Jk k) [it] it (fun i h=>k.pos it i h) where
 mem:=by simp
 obj:=fun i h st b hb=>by
  have e:b=it:=by simpa using hb
  subst e
  obtain ⟨o,e,c,d⟩:=st
  exact ⟨o,e,fun v z=>by rw[d]at z;cases z⟩
 keep:=fun i h h' st kk=>st.keep fun o e=>kk it (by simp) o e
 item:=by
  intro X hP hw hK hc i pins s σ H E I hf st hg
  obtain ⟨vs,sat,hi⟩:=hg
  have hfi:=hf it (by simp)
  cases k with
  |lst a=>
   have sat':H a=some (.lst vs):=sat
   refine wpAny_mono ((wY (tg:=tg) a it).item X hP hw hK hc i pins s σ H E I hf st ⟨vs,vs[i],SqL.of sat',by simp[hi]⟩) ?_ (fun _ _ e=>e)
   rintro r s1 ⟨u,hr,h1⟩
   refine ⟨u,hr,wpAny_mono h1 ?_ (fun _ _ e=>e)⟩
   rintro _ s2 ⟨x,H',I',rx,⟨e1,e2⟩,st',fr⟩
   exact ⟨x,H',I',rx,⟨e1,fun ws hw'=>e2 ws (SqL.of (show H a=some (.lst ws) from hw'))⟩,st',fr⟩
  |tup a=>
   have sat':H a=some (.tup vs):=sat
   refine wpAny_mono ((wZ (tg:=tg) a it).item X hP hw hK hc i pins s σ H E I hf st ⟨vs,vs[i],SqT.of sat',by simp[hi]⟩) ?_ (fun _ _ e=>e)
   rintro r s1 ⟨u,hr,h1⟩
   refine ⟨u,hr,wpAny_mono h1 ?_ (fun _ _ e=>e)⟩
   rintro _ s2 ⟨x,H',I',rx,⟨e1,e2⟩,st',fr⟩
   exact ⟨x,H',I',rx,⟨e1,fun ws hw'=>e2 ws (SqT.of (show H a=some (.tup ws) from hw'))⟩,st',fr⟩
  |str y t=>
   have sat':vs=y.cps.toList.map fun c=>V.str ⟨#[c]⟩:=sat
   have hlen:vs.length=y.cps.size:=by rw[sat',List.length_map,Array.length_toList]
   refine wpAny_mono ((rW (tg:=tg) it y t).item X hP hw hK hc i pins s σ H E I hf st (show i < y.cps.size by omega)) ?_ (fun _ _ e=>e)
   rintro r s1 ⟨u,hr,h1⟩
   refine ⟨u,hr,wpAny_mono h1 ?_ (fun _ _ e=>e)⟩
   rintro _ s2 ⟨x,H',I',rx,⟨e1,c,e2,e3⟩,st',fr⟩
   refine ⟨x,H',I',rx,⟨e1,fun ws hw'=>?_⟩,st',fr⟩
   have hw':ws=y.cps.toList.map fun c=>V.str ⟨#[c]⟩:=hw'
   rw[hw',e3,List.getElem?_map,Array.getElem?_toList,e2];rfl
 done:=by
  intro X hP hw hK hc i pins s σ H E I hf st hg
  obtain ⟨vs,sat,hi⟩:=hg
  cases k with
  |lst a=>exact (wY (tg:=tg) a it).done X hP hw hK hc i pins s σ H E I hf st ⟨vs,SqL.of (show H a=some (.lst vs) from sat),by omega⟩
  |tup a=>exact (wZ (tg:=tg) a it).done X hP hw hK hc i pins s σ H E I hf st ⟨vs,SqT.of (show H a=some (.tup vs) from sat),by omega⟩
  |str y t=>
   have sat':vs=y.cps.toList.map fun c=>V.str ⟨#[c]⟩:=sat
   have hlen:vs.length=y.cps.size:=by rw[sat',List.length_map,Array.length_toList]
   exact (rW (tg:=tg) it y t).done X hP hw hK hc i pins s σ H E I hf st (show i=y.cps.size by omega)
 self:=fun A i s Q E st h=>by
  cases k with
  |lst a=>exact wpAny_pyIter_listiter st h
  |tup a=>exact wpAny_pyIter_tupleiter st h
  |str y t=>exact (rW (K:=K) (tg:=tg) it y t).self A i s Q E st h
end RF
namespace RF
open PySem PySem.Spec PyProof.Rows L2
open Builtin Builtin.Str
section
variable {prog:Program} {w:World} {A:Around} {E:Value→Shared→Prop} {s:Shared}
theorem Vj{z TI TO i1 i2:Addr}{k n1 n2:Nat}{fp1 fp2:List Addr}{P1 P2:Nat→Value→Prop}{S1 S2:Nat→Heap→Prop}{a b:Value}{Q:Value→Shared→Prop}(D:ZApart z TI TO i1 i2)
  (D1:Draws prog w A i1 fp1 n1 P1 S1) (D2:Draws prog w A i2 fp2 n2 P2 S2) (f1:∀c∈fp1,c≠z∧c≠TO∧c≠i2) (f2:∀c∈fp2,c≠z∧c≠TO∧c≠i1)
  (hz:IsZip s.heap z TI TO .none) (hTI:IsPair s.heap TI (.ref i1) (.ref i2)) (hTO:IsPair s.heap TO a b)
  (h1:S1 k s.heap) (h2:S2 k s.heap) (hx:k < n1) (hy:k < n2)
  (hQ:∀h' tk c d,P1 k c→P2 k d→IsZip h' z TI TO (rawInt s.heap.objs.size)→IsPair h' TO c d→S1 (k+1) h'→S2 (k+1) h'→
   IsPair h' s.heap.objs.size c d→h'.objs.size=s.heap.objs.size+1→
   (∀c o,c≠z→c≠TO→c≠i1→c≠i2→s.heap.get? c=some o→h'.get? c=some o)→Q (.ref s.heap.objs.size) { s with heap:=h',toks:=tk }):
  wpAny (model prog w) A (Builtin.«zip.__next__» ⟨[.ref z],[]⟩) (fun fin s'=>∃v,fin=.done (.ret v)∧Q v s') E s:=by
 have e1:∀{h h':Heap}{c:Addr}{j:Nat},S1 j h→Heap.ExtBut c h h'→(∀b∈fp1,b≠c)→S1 j h':=fun q e n=>D1.frame _ _ _ q fun b hb o y=>e b o (n b hb) y
 have e2:∀{h h':Heap}{c:Addr}{j:Nat},S2 j h→Heap.ExtBut c h h'→(∀b∈fp2,b≠c)→S2 j h':=fun q e n=>D2.frame _ _ _ q fun b hb o y=>e b o (n b hb) y
 have z1:∀b∈fp1,b≠z:=fun b hb=>(f1 b hb).1
 have t1:∀b∈fp1,b≠TO:=fun b hb=>(f1 b hb).2.1
 have j1:∀b∈fp1,b≠i2:=fun b hb=>(f1 b hb).2.2
 have z2:∀b∈fp2,b≠z:=fun b hb=>(f2 b hb).1
 have t2:∀b∈fp2,b≠TO:=fun b hb=>(f2 b hb).2.1
 have j2:∀b∈fp2,b≠i1:=fun b hb=>(f2 b hb).2.2
 show wpAny _ _ (field (.ref z) 2 >>= _) _ _ _
 refine wpAny_bind (wpAny_field hz rfl (x:=.bool false) rfl ?_)
 show wpAny _ _ (field (.ref z) 3 >>= _) _ _ _
 refine wpAny_bind (wpAny_field hz rfl (x:=.ref TI) rfl ?_)
 refine wpAny_bind (wpAny_seqItems hTI rfl ?_)
 show wpAny _ _ (Builtin.SmallTypes.ownedTupleIsFree (.ref z) >>= _) _ _ _
 refine wpAny_bind ?_
 unfold Builtin.SmallTypes.ownedTupleIsFree
 refine wpAny_bind (wpAny_field hz rfl (x:=.none) rfl (wpAny_pure ?_))
 simp only[if_true]
 refine wpAny_bind (wpAny_rule ?_)
 refine wpAny_bind (wpAny_field hz rfl (x:=.ref TO) rfl ?_)
 refine wpAny_bind (wpAny_setField_rec hz (by simp) fun h₁ hz₁ hs₁=>?_)
 replace hz₁:IsZip h₁ z TI TO .ellipsis:=hz₁
 replace hs₁:Heap.SameBut z s.heap h₁:=hs₁
 refine wpAny_bind ?_
 simp only[List.zipIdx_cons,List.zipIdx_nil,List.forIn_cons,List.forIn_nil]
 refine wpAny_bind (wpAny_bind (wpAny_onRaise ?_))
 show wpAny _ _ (Builtin.SmallTypes.nextOf (.ref i1) >>= _) _ _ _
 refine wpAny_bind (D1.item k _ _ _ hx (e1 h1 hs₁.extBut z1) fun c h₂ tk₂ hc h1₂ hs₂=>wpAny_pure ?_)
 replace hs₂:Heap.SameBut i1 h₁ h₂:=hs₂
 have hTO₂:IsPair h₂ TO a b:=hs₂.extBut _ _ D.TOi1 (hs₁.extBut _ _ D.TOz hTO)
 refine wpAny_bind (wpAny_seqItems hTO₂ rfl ?_)
 refine wpAny_bind (wpAny_updateSeq_pair hTO₂ fun h₃ hTO₃ hs₃=>?_)
 replace hTO₃:IsPair h₃ TO c b:=hTO₃
 replace hs₃:Heap.SameBut TO h₂ h₃:=hs₃
 refine wpAny_bind (wpAny_letGo (wpAny_pure ?_))
 refine wpAny_bind (wpAny_bind (wpAny_onRaise ?_))
 show wpAny _ _ (Builtin.SmallTypes.nextOf (.ref i2) >>= _) _ _ _
 refine wpAny_bind (D2.item k _ _ _ hy (e2 (e2 (e2 h2 hs₁.extBut z2) hs₂.extBut j2) hs₃.extBut t2) fun d h₄ tk₄ hd h2₄ hs₄=>wpAny_pure ?_)
 replace hs₄:Heap.SameBut i2 h₃ h₄:=hs₄
 have hTO₄:IsPair h₄ TO c b:=hs₄.extBut _ _ D.TOi2 hTO₃
 refine wpAny_bind (wpAny_seqItems hTO₄ rfl ?_)
 refine wpAny_bind (wpAny_updateSeq_pair hTO₄ fun h₅ hTO₅ hs₅=>?_)
 replace hTO₅:IsPair h₅ TO c d:=hTO₅
 replace hs₅:Heap.SameBut TO h₄ h₅:=hs₅
 refine wpAny_bind (wpAny_letGo (wpAny_pure (wpAny_pure ?_)))
 refine wpAny_bind (wpAny_seqItems hTO₅ rfl ?_)
 refine wpAny_bind (wpAny_newTuple ?_)
 have hsz:h₅.objs.size=s.heap.objs.size:=by rw[hs₅.1,hs₄.1,hs₃.1,hs₂.1,hs₁.1]
 have hz₅:IsZip h₅ z TI TO .ellipsis:=hs₅.extBut _ _ D.TOz.symm (hs₄.extBut _ _ D.i2z.symm (hs₃.extBut _ _ D.TOz.symm (hs₂.extBut _ _ D.i1z.symm hz₁)))
 have hk₅:∀c o,c≠z→c≠TO→c≠i1→c≠i2→s.heap.get? c=some o→h₅.get? c=some o:=fun c o c1 c2 c3 c4 e=>
  hs₅.extBut _ _ c2 (hs₄.extBut _ _ c4 (hs₃.extBut _ _ c2 (hs₂.extBut _ _ c3 (hs₁.extBut _ _ c1 e))))
 have h1₅:S1 (k+1) h₅:=e1 (e1 (e1 h1₂ hs₃.extBut t1) hs₄.extBut j1) hs₅.extBut t1
 have h2₅:S2 (k+1) h₅:=e2 h2₄ hs₅.extBut t2
 have hzlt:z < h₅.objs.size:=Heap.lt_size hz₅
 show wpAny _ _ (Builtin.SmallTypes.ownedTupleHandOut (.ref z) (.ref h₅.objs.size) >>= _) _ _ _
 refine wpAny_bind ?_
 unfold Builtin.SmallTypes.ownedTupleHandOut
 have hz₆:IsZip (h₅.push { cls:=.type "tuple",data:=.seq #[c,d] }) z TI TO .ellipsis:=Heap.get?_push_of_some _ hz₅
 refine wpAny_bind (wpAny_setField_rec hz₆ (by simp) fun h₇ hz₇ hs₇=>?_)
 replace hz₇:IsZip h₇ z TI TO (rawInt h₅.objs.size):=hz₇
 refine wpAny_setField_rec hz₇ (by simp) fun h₈ hz₈ hs₈=>?_
 replace hz₈:IsZip h₈ z TI TO (rawInt h₅.objs.size):=hz₈
 have up:∀c o,c≠z→h₅.get? c=some o→h₈.get? c=some o:=fun c o c1 e=>hs₈.extBut _ _ c1 (hs₇.extBut _ _ c1 (Heap.get?_push_of_some _ e))
 have hT₈:IsPair h₈ h₅.objs.size c d:=hs₈.extBut _ _ (Nat.ne_of_gt hzlt) (hs₇.extBut _ _ (Nat.ne_of_gt hzlt) (Heap.get?_push_size _ rfl))
 have hz8:h₈.objs.size=h₅.objs.size+1:=by rw[hs₈.1,hs₇.1,Heap.size_push]
 rw[hsz]at hz₈ hT₈ hz8
 refine wpAny_pure ⟨_,rfl,?_⟩
 show Q (.ref h₅.objs.size) _
 rw[hsz]
 exact hQ h₈ tk₄ c d hc hd hz₈ (up _ _ D.TOz hTO₅) (D1.frame _ _ _ h1₅ fun b hb o y=>up b o (z1 b hb) y) (D2.frame _ _ _ h2₅ fun b hb o y=>up b o (z2 b hb) y) hT₈ hz8 fun c o c1 c2 c3 c4 e=>up c o c1 (hk₅ c o c1 c2 c3 c4 e)
theorem Vk{z TI TO i1 i2:Addr}{n1:Nat}{fp1:List Addr}{P1:Nat→Value→Prop}{S1:Nat→Heap→Prop}{a b:Value}{Q:Fin→Shared→Prop}(D:ZApart z TI TO i1 i2)
  (D1:Draws prog w A i1 fp1 n1 P1 S1) (f1:∀c∈fp1,c≠z)
  (hz:IsZip s.heap z TI TO .none) (hTI:IsPair s.heap TI (.ref i1) (.ref i2)) (hTO:IsPair s.heap TO a b) (h1:S1 n1 s.heap)
  (hE:∀h' e,(∀c o,c≠z→c≠TO→c≠i1→c≠i2→s.heap.get? c=some o→h'.get? c=some o)→(∃o,h'.get? e=some o∧o.cls=.type "StopIteration")→E (.ref e) { s with heap:=h' }):
  wpAny (model prog w) A (Builtin.«zip.__next__» ⟨[.ref z],[]⟩) Q E s:=by
 show wpAny _ _ (field (.ref z) 2 >>= _) _ _ _
 refine wpAny_bind (wpAny_field hz rfl (x:=.bool false) rfl ?_)
 show wpAny _ _ (field (.ref z) 3 >>= _) _ _ _
 refine wpAny_bind (wpAny_field hz rfl (x:=.ref TI) rfl ?_)
 refine wpAny_bind (wpAny_seqItems hTI rfl ?_)
 show wpAny _ _ (Builtin.SmallTypes.ownedTupleIsFree (.ref z) >>= _) _ _ _
 refine wpAny_bind ?_
 unfold Builtin.SmallTypes.ownedTupleIsFree
 refine wpAny_bind (wpAny_field hz rfl (x:=.none) rfl (wpAny_pure ?_))
 simp only[if_true]
 refine wpAny_bind (wpAny_rule ?_)
 refine wpAny_bind (wpAny_field hz rfl (x:=.ref TO) rfl ?_)
 refine wpAny_bind (wpAny_setField_rec hz (by simp) fun h₁ hz₁ hs₁=>?_)
 replace hz₁:IsZip h₁ z TI TO .ellipsis:=hz₁
 replace hs₁:Heap.SameBut z s.heap h₁:=hs₁
 refine wpAny_bind ?_
 simp only[List.zipIdx_cons,List.zipIdx_nil,List.forIn_cons,List.forIn_nil]
 refine wpAny_bind (wpAny_bind (wpAny_onRaise ?_))
 show wpAny _ _ (Builtin.SmallTypes.nextOf (.ref i1) >>= _) _ _ _
 refine wpAny_bind (D1.done _ _ _ (D1.frame _ _ _ h1 fun b hb o y=>hs₁.extBut b o (f1 b hb) y) fun h₂ e hs₂ he=>?_)
 obtain ⟨oe,hoe,hce⟩:=he
 have hz₂:IsZip h₂ z TI TO .ellipsis:=hs₂ _ _ D.i1z.symm hz₁
 have hez:e≠z:=fun x=>by subst x;rw[hz₂]at hoe;cases hoe;simp at hce
 refine wpAny_setField_rec hz₂ (by simp) fun h₃ _ hs₃=>hE h₃ e (fun c o c1 _ c3 _ x=>hs₃.extBut _ _ c1 (hs₂ _ _ c3 (hs₁.extBut _ _ c1 x))) ⟨oe,hs₃.extBut _ _ hez hoe,hce⟩
theorem Vl{z TI TO i1 i2:Addr}{k n1 n2:Nat}{fp1 fp2:List Addr}{P1 P2:Nat→Value→Prop}{S1 S2:Nat→Heap→Prop}{a b:Value}{Q:Fin→Shared→Prop}(D:ZApart z TI TO i1 i2)
  (D1:Draws prog w A i1 fp1 n1 P1 S1) (D2:Draws prog w A i2 fp2 n2 P2 S2) (f1:∀c∈fp1,c≠z∧c≠TO∧c≠i2) (f2:∀c∈fp2,c≠z∧c≠TO∧c≠i1)
  (hz:IsZip s.heap z TI TO .none) (hTI:IsPair s.heap TI (.ref i1) (.ref i2)) (hTO:IsPair s.heap TO a b) (h1:S1 k s.heap) (h2:S2 k s.heap) (hx:k < n1) (hy:k=n2)
  (hE:∀h' tk e,(∀c o,c≠z→c≠TO→c≠i1→c≠i2→s.heap.get? c=some o→h'.get? c=some o)→(∃o,h'.get? e=some o∧o.cls=.type "StopIteration")→E (.ref e) { s with heap:=h',toks:=tk }):
  wpAny (model prog w) A (Builtin.«zip.__next__» ⟨[.ref z],[]⟩) Q E s:=by
 have e1:∀{h h':Heap}{c:Addr}{j:Nat},S1 j h→Heap.ExtBut c h h'→(∀b∈fp1,b≠c)→S1 j h':=fun q e n=>D1.frame _ _ _ q fun b hb o y=>e b o (n b hb) y
 have e2:∀{h h':Heap}{c:Addr}{j:Nat},S2 j h→Heap.ExtBut c h h'→(∀b∈fp2,b≠c)→S2 j h':=fun q e n=>D2.frame _ _ _ q fun b hb o y=>e b o (n b hb) y
 have z1:∀b∈fp1,b≠z:=fun b hb=>(f1 b hb).1
 have z2:∀b∈fp2,b≠z:=fun b hb=>(f2 b hb).1
 have t2:∀b∈fp2,b≠TO:=fun b hb=>(f2 b hb).2.1
 have j2:∀b∈fp2,b≠i1:=fun b hb=>(f2 b hb).2.2
 show wpAny _ _ (field (.ref z) 2 >>= _) _ _ _
 refine wpAny_bind (wpAny_field hz rfl (x:=.bool false) rfl ?_)
 show wpAny _ _ (field (.ref z) 3 >>= _) _ _ _
 refine wpAny_bind (wpAny_field hz rfl (x:=.ref TI) rfl ?_)
 refine wpAny_bind (wpAny_seqItems hTI rfl ?_)
 show wpAny _ _ (Builtin.SmallTypes.ownedTupleIsFree (.ref z) >>= _) _ _ _
 refine wpAny_bind ?_
 unfold Builtin.SmallTypes.ownedTupleIsFree
 refine wpAny_bind (wpAny_field hz rfl (x:=.none) rfl (wpAny_pure ?_))
 simp only[if_true]
 refine wpAny_bind (wpAny_rule ?_)
 refine wpAny_bind (wpAny_field hz rfl (x:=.ref TO) rfl ?_)
 refine wpAny_bind (wpAny_setField_rec hz (by simp) fun h₁ hz₁ hs₁=>?_)
 replace hz₁:IsZip h₁ z TI TO .ellipsis:=hz₁
 replace hs₁:Heap.SameBut z s.heap h₁:=hs₁
 refine wpAny_bind ?_
 simp only[List.zipIdx_cons,List.zipIdx_nil,List.forIn_cons,List.forIn_nil]
 refine wpAny_bind (wpAny_bind (wpAny_onRaise ?_))
 show wpAny _ _ (Builtin.SmallTypes.nextOf (.ref i1) >>= _) _ _ _
 refine wpAny_bind (D1.item k _ _ _ hx (e1 h1 hs₁.extBut z1) fun c h₂ tk₂ hc h1₂ hs₂=>wpAny_pure ?_)
 replace hs₂:Heap.SameBut i1 h₁ h₂:=hs₂
 have hTO₂:IsPair h₂ TO a b:=hs₂.extBut _ _ D.TOi1 (hs₁.extBut _ _ D.TOz hTO)
 refine wpAny_bind (wpAny_seqItems hTO₂ rfl ?_)
 refine wpAny_bind (wpAny_updateSeq_pair hTO₂ fun h₃ hTO₃ hs₃=>?_)
 replace hs₃:Heap.SameBut TO h₂ h₃:=hs₃
 refine wpAny_bind (wpAny_letGo (wpAny_pure ?_))
 refine wpAny_bind (wpAny_bind (wpAny_onRaise ?_))
 show wpAny _ _ (Builtin.SmallTypes.nextOf (.ref i2) >>= _) _ _ _
 subst hy
 refine wpAny_bind (D2.done _ _ _ (e2 (e2 (e2 h2 hs₁.extBut z2) hs₂.extBut j2) hs₃.extBut t2) fun h₄ e hs₄ he=>?_)
 obtain ⟨oe,hoe,hce⟩:=he
 have hz₄:IsZip h₄ z TI TO .ellipsis:=hs₄ _ _ D.i2z.symm (hs₃.extBut _ _ D.TOz.symm (hs₂.extBut _ _ D.i1z.symm hz₁))
 have hez:e≠z:=fun x=>by subst x;rw[hz₄]at hoe;cases hoe;simp at hce
 refine wpAny_setField_rec hz₄ (by simp) fun h₅ _ hs₅=>hE h₅ tk₂ e (fun c o c1 c2 c3 c4 x=>hs₅.extBut _ _ c1 (hs₄ _ _ c4 (hs₃.extBut _ _ c2 (hs₂.extBut _ _ c3 (hs₁.extBut _ _ c1 x))))) ⟨oe,hs₅.extBut _ _ hez hoe,hce⟩
end
def Jz(k l:SK):It:=⟨fun i H=>∃vs ws,k.Sat H vs∧l.Sat H ws∧i < vs.length∧i < ws.length,
 fun i H x H'=>∃T y z,H T=none∧x=.ref T∧H'=upd H T (.tup [y,z])∧(∀vs,k.Sat H vs→vs[i]?=some y)∧(∀ws,l.Sat H ws→ws[i]?=some z),
 fun i H=>∃vs ws,k.Sat H vs∧l.Sat H ws∧(vs.length=i∧i≤ws.length∨i < vs.length∧ws.length=i)⟩
theorem Vm{P:Program}{w:World}{K:PySem.W.Frag}{elts:List Expr}{x1:Nat}{pos:Pos}(k l:SK)(z TI TO i1 i2:Addr)(D:ZApart z TI TO i1 i2):
  Turn P w K (.Tuple elts x1 pos) (Jz k l) [z,TI,TO,i1,i2] z
   (fun i h=>IsZip h z TI TO .none∧IsPair h TI (.ref i1) (.ref i2)∧(∃a b,IsPair h TO a b)∧k.pos i1 i h∧l.pos i2 i h) where
 mem:=by simp
 obj:=fun i h st b hb=>by
  obtain ⟨hz,hTI,⟨a,c,hTO⟩,⟨o1,e1,_,d1⟩,⟨o2,e2,_,d2⟩⟩:=st
  have hb':b=z∨b=TI∨b=TO∨b=i1∨b=i2:=by simpa using hb
  rcases hb' with rfl |rfl |rfl |rfl |rfl
  ·exact ⟨_,hz,fun v q=>by have q':Data.fields _=Data.cell v:=q;cases q'⟩
  ·exact ⟨_,hTI,fun v q=>by have q':Data.seq _ _=Data.cell v:=q;cases q'⟩
  ·exact ⟨_,hTO,fun v q=>by have q':Data.seq _ _=Data.cell v:=q;cases q'⟩
  ·exact ⟨o1,e1,fun v q=>by rw[d1]at q;cases q⟩
  ·exact ⟨o2,e2,fun v q=>by rw[d2]at q;cases q⟩
 keep:=fun i h h' st kk=>by
  obtain ⟨hz,hTI,⟨a,c,hTO⟩,p1,p2⟩:=st
  exact ⟨kk z (by simp) _ hz,kk TI (by simp) _ hTI,⟨a,c,kk TO (by simp) _ hTO⟩,p1.keep fun o e=>kk i1 (by simp) o e,p2.keep fun o e=>kk i2 (by simp) o e⟩
 item:=by
  intro X hP hw hK hc i pins s σ H E I hf st hg
  subst hP hw hK
  obtain ⟨vs,ws,sat1,sat2,l1,l2⟩:=hg
  obtain ⟨hz,hTI,⟨a,b,hTO⟩,h1,h2⟩:=st
  have hT:s.TypeIs (.ref z) "zip":=⟨_,hz,rfl⟩
  have fz:=hf z (by simp)
  have fTO:=hf TO (by simp)
  have fi1:=hf i1 (by simp)
  have fi2:=hf i2 (by simp)
  obtain ⟨fp1,P1,S1,Dr1⟩:=drawn (A:=X.A.in1) (I.ok.hd hc) I sat1 fi1.1 h1
  obtain ⟨fp2,P2,S2,Dr2⟩:=drawn (A:=X.A.in1) (I.ok.hd hc) I sat2 fi2.1 h2
  have no1:∀e,H e=none→e≠i1→∀c∈fp1,c≠e:=fun e he hei c hc z=>by
   rcases Dr1.fp c hc with q |q
   ·exact hei (z.symm.trans q)
   ·have:=sat1.no he
    cases k with
    |lst a=>injection q with q;exact this (q.trans z)
    |tup a=>injection q with q;exact this (q.trans z)
    |str _ _=>cases q
  have no2:∀e,H e=none→e≠i2→∀c∈fp2,c≠e:=fun e he hei c hc z=>by
   rcases Dr2.fp c hc with q |q
   ·exact hei (z.symm.trans q)
   ·have:=sat2.no he
    cases l with
    |lst a=>injection q with q;exact this (q.trans z)
    |tup a=>injection q with q;exact this (q.trans z)
    |str _ _=>cases q
  have f1:∀c∈fp1,c≠z∧c≠TO∧c≠i2:=fun c hc=>⟨no1 z fz.1 D.i1z.symm c hc,no1 TO fTO.1 D.TOi1 c hc,no1 i2 fi2.1 D.i12.symm c hc⟩
  have f2:∀c∈fp2,c≠z∧c≠TO∧c≠i1:=fun c hc=>⟨no2 z fz.1 D.i2z.symm c hc,no2 TO fTO.1 D.TOi2 c hc,no2 i1 fi1.1 D.i12 c hc⟩
  have ltz:z < s.heap.objs.size:=Heap.lt_size hz
  have ltTI:TI < s.heap.objs.size:=Heap.lt_size hTI
  have ltTO:TO < s.heap.objs.size:=Heap.lt_size hTO
  have lti1:i1 < s.heap.objs.size:=by obtain ⟨_,e,_⟩:=h1;exact Heap.lt_size e
  have lti2:i2 < s.heap.objs.size:=by obtain ⟨_,e,_⟩:=h2;exact Heap.lt_size e
  unfold pyNext
  refine wpAny_bind (wpAny_attempt (wpAny_callSpecial?_slot (name:=Str.ofString "__next__") hT F.slot_zip_next
   (wpAny_call_entry F.slot_zip_next hT F.entry_zip_next (Vj D Dr1.D Dr2.D f1 f2 hz hTI hTO Dr1.st Dr2.st l1 l2 fun h' tk c d pc pd a1 a2 a3 a4 a5 a6 hk=>wpAny_pure ?_) (F.args_zip_next_1 _))))
  obtain ⟨y,hy,ry⟩:=Dr1.val _ _ pc
  obtain ⟨y',hy',ry'⟩:=Dr2.val _ _ pd
  refine ⟨_,rfl,?_⟩
  refine wpAny_letOwnedTupleGo_zip a1 fun h2' hz2 hs2=>?_
  have hs2':Heap.SameBut z h' h2':=hs2
  have hn:H s.heap.objs.size=none:=I.hok.fresh (Nat.le_refl _)
  have k2:∀b o,b∉[z,TI,TO,i1,i2]→s.heap.get? b=some o→h2'.get? b=some o:=fun b o hb q=>by
   have hb':b≠z∧b≠TI∧b≠TO∧b≠i1∧b≠i2:=by simpa using hb
   exact hs2'.extBut b o hb'.1 (hk b o hb'.1 hb'.2.2.1 hb'.2.2.2.1 hb'.2.2.2.2 q)
  have I2:Inv X pins σ H { s with heap:=h2',toks:=tk }:=I.turnedL hf k2
  have ht2:h2'.get? s.heap.objs.size=some { cls:=.type "tuple",data:=.seq #[c,d] }:=hs2'.extBut _ _ (Nat.ne_of_gt ltz) a5
  have ob:ObjOk X.prog X.w (upd H s.heap.objs.size (.tup [y,y'])) h2' s.heap.objs.size (.tup [y,y']):=
   ⟨by rw[sizeLine_eq];simp,[c,d],.cons ry (.cons ry' .nil),⟨_,ht2,rfl,_,rfl⟩⟩
  have I3:=I2.track (I.fpOk (Nat.le_refl _) hn) ob
  refine ⟨.ref s.heap.objs.size,_,I3,rfl,⟨s.heap.objs.size,y,y',hn,rfl,rfl,fun us hu=>by rw[uw hu sat1];exact hy,fun us hu=>by rw[uw hu sat2];exact hy'⟩,
   ⟨hz2,hs2'.extBut _ _ D.TIz (hk _ _ D.TIz D.TITO D.TIi1 D.TIi2 hTI),⟨_,_,hs2'.extBut _ _ D.TOz a2⟩,(Dr1.pos _ _ a3).keep fun o e=>hs2'.extBut _ _ D.i1z e,(Dr2.pos _ _ a4).keep fun o e=>hs2'.extBut _ _ D.i2z e⟩,fun b hb=>?_⟩
  have hb':b=z∨b=TI∨b=TO∨b=i1∨b=i2:=by simpa using hb
  rw[aJ (by rcases hb' with rfl |rfl |rfl |rfl |rfl <;> exact Nat.ne_of_lt ‹_›)]
  exact (hf b hb).1
 done:=by
  intro X hP hw hK hc i pins s σ H E I hf st hg
  subst hP hw hK
  obtain ⟨vs,ws,sat1,sat2,hend⟩:=hg
  obtain ⟨hz,hTI,⟨a,b,hTO⟩,h1,h2⟩:=st
  have hT:s.TypeIs (.ref z) "zip":=⟨_,hz,rfl⟩
  have fz:=hf z (by simp)
  have fTO:=hf TO (by simp)
  have fi1:=hf i1 (by simp)
  have fi2:=hf i2 (by simp)
  obtain ⟨fp1,P1,S1,Dr1⟩:=drawn (A:=X.A.in1) (I.ok.hd hc) I sat1 fi1.1 h1
  obtain ⟨fp2,P2,S2,Dr2⟩:=drawn (A:=X.A.in1) (I.ok.hd hc) I sat2 fi2.1 h2
  have no1:∀e,H e=none→e≠i1→∀c∈fp1,c≠e:=fun e he hei c hc z=>by
   rcases Dr1.fp c hc with q |q
   ·exact hei (z.symm.trans q)
   ·have:=sat1.no he
    cases k with
    |lst a=>injection q with q;exact this (q.trans z)
    |tup a=>injection q with q;exact this (q.trans z)
    |str _ _=>cases q
  have no2:∀e,H e=none→e≠i2→∀c∈fp2,c≠e:=fun e he hei c hc z=>by
   rcases Dr2.fp c hc with q |q
   ·exact hei (z.symm.trans q)
   ·have:=sat2.no he
    cases l with
    |lst a=>injection q with q;exact this (q.trans z)
    |tup a=>injection q with q;exact this (q.trans z)
    |str _ _=>cases q
  have f1:∀c∈fp1,c≠z∧c≠TO∧c≠i2:=fun c hc=>⟨no1 z fz.1 D.i1z.symm c hc,no1 TO fTO.1 D.TOi1 c hc,no1 i2 fi2.1 D.i12.symm c hc⟩
  have f2:∀c∈fp2,c≠z∧c≠TO∧c≠i1:=fun c hc=>⟨no2 z fz.1 D.i2z.symm c hc,no2 TO fTO.1 D.TOi2 c hc,no2 i1 fi1.1 D.i12 c hc⟩
  have fin:∀(h':Heap)(tk:Nat)(e:Addr),(∀c o,c≠z→c≠TO→c≠i1→c≠i2→s.heap.get? c=some o→h'.get? c=some o)→Inv X pins σ H { s with heap:=h',toks:=tk }:=fun h' tk e hk=>I.turnedL (t':=tk) hf fun b o hb q=>by
   have hb':b≠z∧b≠TI∧b≠TO∧b≠i1∧b≠i2:=by simpa using hb
   exact hk b o hb'.1 hb'.2.2.1 hb'.2.2.2.1 hb'.2.2.2.2 q
  unfold pyNext
  refine wpAny_bind (wpAny_attempt (wpAny_callSpecial?_slot (name:=Str.ofString "__next__") hT F.slot_zip_next
   (wpAny_call_entry F.slot_zip_next hT F.entry_zip_next ?_ (F.args_zip_next_1 _))))
  rcases hend with ⟨e1,_⟩ |⟨e1,e2⟩
  ·subst e1
   refine Vk D Dr1.D (fun c hc=>(f1 c hc).1) hz hTI hTO Dr1.st fun h' e hk he=>?_
   obtain ⟨o,ho,hc'⟩:=he
   refine wpAny_bind (wpAny_isInstance (T:="StopIteration") (b:=true) ⟨o,ho,hc'⟩ isSubtype_stop ?_)
   exact wpAny_pure ⟨rfl,fin h' s.toks e hk⟩
  ·refine Vl D Dr1.D Dr2.D f1 f2 hz hTI hTO Dr1.st Dr2.st e1 e2.symm fun h' tk e hk he=>?_
   obtain ⟨o,ho,hc'⟩:=he
   refine wpAny_bind (wpAny_isInstance (T:="StopIteration") (b:=true) ⟨o,ho,hc'⟩ isSubtype_stop ?_)
   exact wpAny_pure ⟨rfl,fin h' tk e hk⟩
 self:=fun A i s Q E st h=>wpAny_pyIter_zip st.1 h
end RF
namespace RF
open PySem PySem.Spec PyProof.Rows L2
open Sem (wp)
open AutoSeq1 (wpAny_loadPart')
set_option maxRecDepth 100000
set_option maxHeartbeats 1000000 in
theorem Vn(l:Addr)(items:Array Value)(n:Nat)(dct:Option Addr)(sl:Array (Option Value)):
  Meets (Builtin.«enumerate.__new__» ⟨[.type "enumerate",.ref l],[]⟩) (fun _ R s=>s.heap.get? l=some { cls:=.type "tuple",dict:=dct,data:=.seq items n,slots:=sl }∧
   R (.ok (.ret (.ref (s.heap.push { cls:=.type "tuple_iterator",data:=.fields #[.ref l,.int 0 0] }).objs.size)))
    { s with heap:=(s.heap.push { cls:=.type "tuple_iterator",data:=.fields #[.ref l,.int 0 0] }).push { cls:=.type "enumerate",data:=.fields #[.none,.bool false,.ref s.heap.objs.size,rawInt 0,.none,.none] } }):=
 .of_wp fun prog w A R s h=>by
  obtain ⟨hp,g,d,tk,os⟩:=s;obtain ⟨hl,h⟩:=h
  have hsub:=sub_enumerate
  have hL:Heap.IsTuple (Shared.heap ⟨hp,g,d,tk,os⟩) l items:=⟨_,hl,rfl,n,rfl⟩
  wp_walk using wpAny_loadPart' hl
  refine wpAny_stack_any fun st=>wpAny_pure ?_
  split
  ·rename_i c _ _ _ _ _
   cases (c==Value.type "enumerate")
   ·wp_walk using wpAny_loadPart' hl,wpAny_pyIter_tuple hL
    exact ⟨_,rfl,h⟩
   ·wp_walk using wpAny_loadPart' hl,wpAny_pyIter_tuple hL
    exact ⟨_,rfl,h⟩
  ·wp_walk using wpAny_loadPart' hl,wpAny_pyIter_tuple hL
   exact ⟨_,rfl,h⟩
abbrev p7(h:Heap)(k:SK):Heap:=h.push k.obj
abbrev p8(h:Heap)(k l:SK):Heap:=(p7 h k).push l.obj
abbrev qb (h:Heap) (k l:SK):Heap:=(p8 h k l).push { cls:=.type "tuple",data:=.seq #[.ref h.objs.size,.ref (p7 h k).objs.size] }
abbrev qd (h:Heap) (k l:SK):Heap:=(qb h k l).push { cls:=.type "tuple",data:=.seq #[.none,.none] }
abbrev gr (h:Heap) (k l:SK):Heap:=(qd h k l).push { cls:=.type "zip",data:=.fields #[.none,.bool false,.bool false,.ref (p8 h k l).objs.size,.ref (qb h k l).objs.size] }
theorem Vo(k l:SK)(xs ys:Array Value):
  Meets (Builtin.«zip.__new__» ⟨[.type "zip",k.val,l.val],[]⟩) (fun _ R s=>k.On xs s.heap∧l.On ys s.heap∧R (.ok (.ret (.ref (qd s.heap k l).objs.size))) { s with heap:=gr s.heap k l }):=
 .of_wp fun prog w A R s h=>by
  obtain ⟨hp,g,d,tk,os⟩:=s
  obtain ⟨h1,h2,h⟩:=h
  have hsub:=sub_zip
  have h1':k.On xs (Shared.heap ⟨hp,g,d,tk,os⟩):=h1
  have h2':l.On ys (Shared.heap ⟨hp.push k.obj,g,d,tk,os⟩):=SK.On.keeps h2 fun b o _ e=>Heap.get?_push_of_some _ e
  wp_walk using SK.iter h1',SK.iter h2'
  exact ⟨_,rfl,h⟩
section
variable {prog:Program} {w:World} {A:Around} {E:Value→Shared→Prop} {s:Shared}
theorem Vp{k l:SK}{xs ys:Array Value}{Q:Value→Shared→Prop}(h1:k.On xs s.heap)(h2:l.On ys s.heap)
  (h:∀h',IsZip h' (s.heap.objs.size+4) (s.heap.objs.size+2) (s.heap.objs.size+3) .none→IsPair h' (s.heap.objs.size+2) (.ref s.heap.objs.size) (.ref (s.heap.objs.size+1))→
   IsPair h' (s.heap.objs.size+3) .none .none→k.pos s.heap.objs.size 0 h'→l.pos (s.heap.objs.size+1) 0 h'→h'.objs.size=s.heap.objs.size+5→
   (∀c o,s.heap.get? c=some o→h'.get? c=some o)→Q (.ref (s.heap.objs.size+4)) { s with heap:=h' }):
  wpAny (model prog w) A (call (.type "zip") [k.val,l.val]) Q E s:=by
 refine callType_new F.called_zip (by decide) (F.typeCall_zip_2 _ _) (F.newCall_zip_2 _ _) (fun obj=>F.args_object_init_3 obj _ _) F.entry_zip_new
  (Vo k l xs ys) ⟨h1,h2,?_⟩
 have z1:(p7 s.heap k).objs.size=s.heap.objs.size+1:=Heap.size_push ..
 have z2:(p8 s.heap k l).objs.size=s.heap.objs.size+2:=by rw[Heap.size_push,z1]
 have z3:(qb s.heap k l).objs.size=s.heap.objs.size+3:=by rw[Heap.size_push,z2]
 have z4:(qd s.heap k l).objs.size=s.heap.objs.size+4:=by rw[Heap.size_push,z3]
 have z5:(gr s.heap k l).objs.size=s.heap.objs.size+5:=by rw[Heap.size_push,z4]
 have g5:(gr s.heap k l).get? (qd s.heap k l).objs.size=some _:=Heap.get?_push_size _ rfl
 have g4:(gr s.heap k l).get? (qb s.heap k l).objs.size=some _:=Heap.get?_push_of_some _ (Heap.get?_push_size _ rfl)
 have g3:(gr s.heap k l).get? (p8 s.heap k l).objs.size=some _:=Heap.get?_push_of_some _ (Heap.get?_push_of_some _ (Heap.get?_push_size _ rfl))
 have g2:(gr s.heap k l).get? (p7 s.heap k).objs.size=some _:=Heap.get?_push_of_some _ (Heap.get?_push_of_some _ (Heap.get?_push_of_some _ (Heap.get?_push_size _ rfl)))
 have g1:(gr s.heap k l).get? s.heap.objs.size=some _:=Heap.get?_push_of_some _ (Heap.get?_push_of_some _ (Heap.get?_push_of_some _ (Heap.get?_push_of_some _ (Heap.get?_push_size _ rfl))))
 show _∧_
 rw[z2,z3,z4]at g5
 rw[z1,z2]at g3
 rw[z3]at g4
 rw[z1]at g2
 rw[z4]
 exact ⟨⟨_,g5,rfl⟩,h _ g5 g3 g4 ⟨_,g1,rfl,rfl⟩ ⟨_,g2,rfl,rfl⟩ z5 fun c o x=>
  Heap.get?_push_of_some _ (Heap.get?_push_of_some _ (Heap.get?_push_of_some _ (Heap.get?_push_of_some _ (Heap.get?_push_of_some _ x))))⟩
theorem Vq{l:Addr}{items:Array Value}{Q:Value→Shared→Prop}(hL:s.heap.IsTuple l items)
  (h:∀h',IsEnum h' (s.heap.objs.size+1) s.heap.objs.size 0 .none→h'.IsTupleIter s.heap.objs.size l 0→h'.objs.size=s.heap.objs.size+2→
   (∀b o,s.heap.get? b=some o→h'.get? b=some o)→Q (.ref (s.heap.objs.size+1)) { s with heap:=h' }):
  wpAny (model prog w) A (call (.type "enumerate") [.ref l]) Q E s:=by
 obtain ⟨⟨c,dct,dt,sl⟩,hl,hc,n,hd⟩:=hL
 replace hc:c=.type "tuple":=hc
 replace hd:dt=.seq items n:=hd
 subst hc hd
 refine callType_new F.called_enumerate (by decide) (F.typeCall_enumerate_1 _) (F.newCall_enumerate_1 _) (fun obj=>F.args_object_init_2 obj _) F.entry_enumerate_new
  (Vn l items n dct sl) ⟨hl,?_⟩
 have hz:(s.heap.push { cls:=.type "tuple_iterator",data:=.fields #[.ref l,.int 0 0] }).objs.size=s.heap.objs.size+1:=Heap.size_push ..
 show _∧_
 rw[hz]
 have he:IsEnum ((s.heap.push { cls:=.type "tuple_iterator",data:=.fields #[.ref l,.int 0 0] }).push
   { cls:=.type "enumerate",data:=.fields #[.none,.bool false,.ref s.heap.objs.size,rawInt 0,.none,.none] }) (s.heap.objs.size+1) s.heap.objs.size 0 .none:=by
  have:=Heap.get?_push_size (s.heap.push { cls:=.type "tuple_iterator",data:=.fields #[.ref l,.int 0 0] })
   (o:={ cls:=.type "enumerate",data:=.fields #[.none,.bool false,.ref s.heap.objs.size,rawInt 0,.none,.none] }) rfl
  rw[hz]at this;exact this
 refine ⟨⟨_,he,rfl⟩,h _ he ⟨_,Heap.get?_push_of_some _ (Heap.get?_push_size _ rfl),rfl,rfl⟩ (by rw[Heap.size_push,hz]) fun b o x=>Heap.get?_push_of_some _ (Heap.get?_push_of_some _ x)⟩
theorem Vr{k:SK}{xs:Array Value}{Q:Value→Shared→Prop}(h1:k.On xs s.heap)
  (h:∀h',IsEnum h' (s.heap.objs.size+1) s.heap.objs.size 0 .none→k.pos s.heap.objs.size 0 h'→h'.objs.size=s.heap.objs.size+2→
   (∀b o,s.heap.get? b=some o→h'.get? b=some o)→Q (.ref (s.heap.objs.size+1)) { s with heap:=h' }):
  wpAny (model prog w) A (call (.type "enumerate") [k.val]) Q E s:=by
 cases k with
 |lst a=>exact call_enumerate_list h1 h
 |tup a=>exact Vq h1 h
 |str x t=>exact call_enumerate_str h
end
end RF
namespace RF
open PySem PySem.Spec L2
structure CT where
 N:List Str
 kd:List (Str×NameKind)
 fn:Bool
 fs:List (String×Nat)
 bt:List String
 cn:List (String×D)
 xs:List (String×Bool):=[]
def gw:Option NameKind→Bool
 |some .local=>true
 |some .cell=>true
 |some .free=>true
 |_=>false
def CT.sto(c:CT)(x:Str):Bool:=c.kd.lookup x==some .local||(c.fn&&c.kd.lookup x==some .cell)
def okN (x:Str):Bool:=!(x==("__debug__":Str))&&!(x==("__classdict__":Str))&&!(x==("__name__":Str))
def CT.glo(c:CT)(x:Str):Bool:=c.kd.lookup x==some .globalImplicit&&okN x
def sEq:D→D→Bool
 |.non,.non=>true
 |.bl a,.bl b=>a==b
 |.int a,.int b=>a==b
 |.str a,.str b=>a==b
 |_,_=>false
theorem Vs{a b:D}(h:sEq a b=true):a=b:=by
 cases a <;> cases b <;> simp_all [sEq]
def qe(d:D)(k:Const):Bool:=
 match d,k with
 |.non,.none=>true
 |.bl a,.bool b=>a==b
 |.int a,.int b=>a==b
 |.str a,.str b=>a==b.cps.toList&&decide (a.length≤sz)
 |_,_=>false
def Bf.name:Bf→String
 |.len=>"len"
 |.all=>"all"
 |.int=>"int"
 |.tuple=>"tuple"
 |.sum=>"sum"
 |.min=>"min"
 |.max=>"max"
 |.str=>"str"
def ux:Bf→Bool
 |.sum=>false
 |.min=>false
 |.max=>false
 |.str=>true
 |_=>true
def uy:Lf→Bool
 |.sorted=>false
 |_=>true
def Lf.name:Lf→String
 |.list=>"list"
 |.sorted=>"sorted"
def Mf.name:Mf→String
 |.join=>"join"
 |.append=>"append"
 |.extend=>"extend"
 |.insert=>"insert"
 |.count=>"count"
 |.index=>"index"
def qg:Expr→Bool
 |.Call (.Name _ _) [] [] _=>true
 |_=>false
def cJ:Expr→Bool
 |.ListComp ..=>true
 |.SetComp ..=>true
 |.DictComp ..=>true
 |_=>false
def gA:Expr→Bool
 |.UnaryOp .Not _ _=>false
 |.BoolOp ..=>false
 |.IfExp ..=>false
 |.Compare ..=>false
 |_=>true
def fu(N:List Str)(scope:Scope):List Str→List (Option Nat)→Bool
 |[],[]=>true
 |_::N',none::cap=>fu N scope N' cap
 |x::N',some j::cap=>(N[j]?==some x)&&(scope.names.lookup x==some NameKind.free)&&fu N scope N' cap
 |_,_=>false
def iI(c:CT)(scope:Scope):Bool:=
 scope.names.all (fun y=>y.2 != NameKind.cell)&&scope.names.all (fun y=>y.2 != NameKind.local||scope.names.lookup y.1==some NameKind.local) &&
 scope.names.all (fun y=>y.2 != NameKind.free||(c.kd.lookup y.1==some NameKind.cell||c.kd.lookup y.1==some NameKind.free))&&decide (scope.kind=.function)&&decide (c.kd=c.kd)
def CT.comp(c:CT)(N:List Str)(scope:Scope):CT:={ N:=N,kd:=scope.names,fn:=false,fs:=c.fs,bt:=c.bt,cn:=c.cn }
def dF:List Str→Bool
 |[]=>true
 |x::r=>!r.contains x&&dF r
def asName(e:Expr):Option { t:Str×Pos // e=.Name t.1 t.2 }:=match e with
 |.Name a0 a1=>some ⟨(a0,a1),rfl⟩
 |_=>none
def qi(e:Expr):Option { t:Const×Nat×Pos // e=.Constant t.1 t.2.1 t.2.2 }:=match e with
 |.Constant a0 a1 a2=>some ⟨(a0,a1,a2),rfl⟩
 |_=>none
def zH(e:Expr):Option { t:Expr×Operator×Expr×Pos // e=.BinOp t.1 t.2.1 t.2.2.1 t.2.2.2 }:=match e with
 |.BinOp a0 a1 a2 a3=>some ⟨(a0,a1,a2,a3),rfl⟩
 |_=>none
def iJ(e:Expr):Option { t:UnaryOp×Expr×Pos // e=.UnaryOp t.1 t.2.1 t.2.2 }:=match e with
 |.UnaryOp a0 a1 a2=>some ⟨(a0,a1,a2),rfl⟩
 |_=>none
def jC(e:Expr):Option { t:Expr×List CmpOp×List Expr×Pos // e=.Compare t.1 t.2.1 t.2.2.1 t.2.2.2 }:=match e with
 |.Compare a0 a1 a2 a3=>some ⟨(a0,a1,a2,a3),rfl⟩
 |_=>none
def qj(e:Expr):Option { t:BoolOp×List Expr×Pos // e=.BoolOp t.1 t.2.1 t.2.2 }:=match e with
 |.BoolOp a0 a1 a2=>some ⟨(a0,a1,a2),rfl⟩
 |_=>none
def acY(e:Expr):Option { t:Expr×Expr×Expr×Pos // e=.IfExp t.1 t.2.1 t.2.2.1 t.2.2.2 }:=match e with
 |.IfExp a0 a1 a2 a3=>some ⟨(a0,a1,a2,a3),rfl⟩
 |_=>none
def fB(e:Expr):Option { t:List Expr×Nat×Pos // e=.Tuple t.1 t.2.1 t.2.2 }:=match e with
 |.Tuple a0 a1 a2=>some ⟨(a0,a1,a2),rfl⟩
 |_=>none
def asList(e:Expr):Option { t:List Expr×Pos // e=.List t.1 t.2 }:=match e with
 |.List a0 a1=>some ⟨(a0,a1),rfl⟩
 |_=>none
def fD(e:Expr):Option { t:Expr×Expr×Pos // e=.Subscript t.1 t.2.1 t.2.2 }:=match e with
 |.Subscript a0 a1 a2=>some ⟨(a0,a1,a2),rfl⟩
 |_=>none
def ql(e:Expr):Option { t:Option Expr×Option Expr×Option Expr×Pos // e=.Slice t.1 t.2.1 t.2.2.1 t.2.2.2 }:=match e with
 |.Slice a0 a1 a2 a3=>some ⟨(a0,a1,a2,a3),rfl⟩
 |_=>none
def uz(e:Expr):Option { t:Expr×List Expr×List Keyword×Pos // e=.Call t.1 t.2.1 t.2.2.1 t.2.2.2 }:=match e with
 |.Call a0 a1 a2 a3=>some ⟨(a0,a1,a2,a3),rfl⟩
 |_=>none
def zJ(e:Expr):Option { t:Expr×Str×Pos // e=.Attribute t.1 t.2.1 t.2.2 }:=match e with
 |.Attribute a0 a1 a2=>some ⟨(a0,a1,a2),rfl⟩
 |_=>none
def zK(e:Expr):Option { t:Expr×List Comprehension×Scope×Pos // e=.ListComp t.1 t.2.1 t.2.2.1 t.2.2.2 }:=match e with
 |.ListComp a0 a1 a2 a3=>some ⟨(a0,a1,a2,a3),rfl⟩
 |_=>none
def qm(e:Stmt):Option { t:Expr×Pos // e=.Expr t.1 t.2 }:=match e with
 |.Expr a0 a1=>some ⟨(a0,a1),rfl⟩
 |_=>none
def fG(e:Stmt):Option { t:List Expr×Expr×Pos // e=.Assign t.1 t.2.1 t.2.2 }:=match e with
 |.Assign a0 a1 a2=>some ⟨(a0,a1,a2),rfl⟩
 |_=>none
def acZ(e:Stmt):Option { t:Expr×Operator×Expr×Pos // e=.AugAssign t.1 t.2.1 t.2.2.1 t.2.2.2 }:=match e with
 |.AugAssign a0 a1 a2 a3=>some ⟨(a0,a1,a2,a3),rfl⟩
 |_=>none
def zL(e:Stmt):Option { t:Option Expr×Option Expr×Pos // e=.Raise t.1 t.2.1 t.2.2 }:=match e with
 |.Raise a0 a1 a2=>some ⟨(a0,a1,a2),rfl⟩
 |_=>none
def zM(e:Stmt):Option { t:List Stmt×List ExceptHandler×List Stmt×List Stmt×Pos // e=.Try t.1 t.2.1 t.2.2.1 t.2.2.2.1 t.2.2.2.2 }:=match e with
 |.Try a0 a1 a2 a3 a4=>some ⟨(a0,a1,a2,a3,a4),rfl⟩
 |_=>none
def zN(e:ExceptHandler):Option { t:Option Expr×Option Str×List Stmt×Pos // e=.ExceptHandler t.1 t.2.1 t.2.2.1 t.2.2.2 }:=match e with
 |.ExceptHandler a0 a1 a2 a3=>some ⟨(a0,a1,a2,a3),rfl⟩
def uA(e:Expr):Option { t:Expr×Int×Option Expr×Pos // e=.FormattedValue t.1 t.2.1 t.2.2.1 t.2.2.2 }:=match e with
 |.FormattedValue a0 a1 a2 a3=>some ⟨(a0,a1,a2,a3),rfl⟩
 |_=>none
def Vt(e:Expr):Option { t:List Expr×Pos // e=.JoinedStr t.1 t.2 }:=match e with
 |.JoinedStr a0 a1=>some ⟨(a0,a1),rfl⟩
 |_=>none
def Vu(k:Const):Option { x:Str // k=.str x }:=match k with
 |.str x=>some ⟨x,rfl⟩
 |_=>none
def ac0(b:Bool)(k:Const):Bool:=match k with
 |.bool c=>c==b
 |_=>false
def qp(e:Stmt):Option { t:Option Expr×Pos // e=.Return t.1 t.2 }:=match e with
 |.Return a0 a1=>some ⟨(a0,a1),rfl⟩
 |_=>none
def qt(e:Stmt):Option { t:Expr×List Stmt×List Stmt×Pos // e=.If t.1 t.2.1 t.2.2.1 t.2.2.2 }:=match e with
 |.If a0 a1 a2 a3=>some ⟨(a0,a1,a2,a3),rfl⟩
 |_=>none
def zO(e:Stmt):Option { t:Expr×Expr×List Stmt×List Stmt×Pos // e=.For t.1 t.2.1 t.2.2.1 t.2.2.2.1 t.2.2.2.2 }:=match e with
 |.For a0 a1 a2 a3 a4=>some ⟨(a0,a1,a2,a3,a4),rfl⟩
 |_=>none
def ac1(e:Stmt):Option { t:Expr×List Stmt×List Stmt×Pos // e=.While t.1 t.2.1 t.2.2.1 t.2.2.2 }:=match e with
 |.While a0 a1 a2 a3=>some ⟨(a0,a1,a2,a3),rfl⟩
 |_=>none
def zP(e:Stmt):Option { t:Pos // e=.Pass t }:=match e with
 |.Pass a0=>some ⟨a0,rfl⟩
 |_=>none
def zQ(e:Stmt):Option { t:Pos // e=.Break t }:=match e with
 |.Break a0=>some ⟨a0,rfl⟩
 |_=>none
def zR(e:Stmt):Option { t:Pos // e=.Continue t }:=match e with
 |.Continue a0=>some ⟨a0,rfl⟩
 |_=>none
def one{α:Type}:List α→Option α
 |[a]=>some a
 |_=>none
def three{α:Type}:List α→Option (α×α×α)
 |[x,y,z]=>some (x,y,z)
 |_=>none
theorem ac2{α:Type}{l:List α}{v:α×α×α}(h:three l=some v):l=[v.1,v.2.1,v.2.2]:=by
 unfold three at h
 split at h
 ·cases h;rfl
 ·cases h
def two{α:Type}:List α→Option (α×α)
 |[a,b]=>some (a,b)
 |_=>none
def hdT{α:Type}:List α→Option (α×List α)
 |a::r=>some (a,r)
 |[]=>none
theorem bY{α:Type}{l:List α}{a:α}(h:one l=some a):l=[a]:=by
 cases l with
 |nil=>cases h
 |cons x r=>cases r with
  |nil=>cases h;rfl
  |cons _ _=>cases h
theorem jD{α:Type}{l:List α}{a:α×α}(h:two l=some a):l=[a.1,a.2]:=by
 cases l with
 |nil=>cases h
 |cons x r=>cases r with
  |nil=>cases h
  |cons y r=>cases r with
   |nil=>cases h;rfl
   |cons _ _=>cases h
theorem zT{α:Type}{l:List α}{a:α×List α}(h:hdT l=some a):l=a.1::a.2:=by
 cases l with
 |nil=>cases h
 |cons x r=>cases h;rfl
theorem aM{α:Type}{o:Option α}{p:α→Bool}(h:o.any p=true):∃t,o=some t∧p t=true:=by
 cases o with
 |none=>cases h
 |some t=>exact ⟨t,rfl,h⟩
def uB:UnaryOp→Bool
 |.USub=>true
 |_=>false
def jE:UnaryOp→Bool
 |.Not=>true
 |_=>false
theorem Vv{o:UnaryOp}(h:uB o=true):o=.USub:=by cases o <;> first |rfl |cases h
theorem zU{o:UnaryOp}(h:jE o=true):o=.Not:=by cases o <;> first |rfl |cases h
def bu(e:Expr):Option (Str×Pos×List Expr×Pos):=(uz e).bind fun t=>(asName t.1.1).bind fun n=>match t.1.2.2.1 with |[]=>some (n.1.1,n.1.2,t.1.2.1,t.1.2.2.2) |_::_=>none
def az{α:Type}{q:α→Prop}(o:Option { t:α // q t })(P:α→Bool):Bool:=match o with |some t=>P t.1 |none=>false
theorem aH{α:Type}{q:α→Prop}{o:Option { t:α // q t }}{P:α→Bool}(h:az o P=true):∃t,q t∧P t=true:=by
 cases o with
 |none=>cases h
 |some t=>exact ⟨t.1,t.2,h⟩
theorem zV{α β:Type}{o:Option α}{f:α→Option β}{b:β}(h:o.bind f=some b):∃t,o=some t∧f t=some b:=by
 cases o with
 |none=>cases h
 |some t=>exact ⟨t,rfl,h⟩
theorem dq{e:Expr}{t:Str×Pos×List Expr×Pos}(h:bu e=some t):e=.Call (.Name t.1 t.2.1) t.2.2.1 [] t.2.2.2:=by
 obtain ⟨⟨⟨f,as,ks,p⟩,hu⟩,_,h⟩:=zV h
 obtain ⟨⟨⟨x,p'⟩,hn⟩,_,h⟩:=zV h
 dsimp only at h hn hu
 cases ks with
 |nil=>cases h;rw[hu,hn]
 |cons _ _=>cases h
def jF(e:Expr):Bool:=(jC e).isSome
def zW:Ex→Bool
 |.frz _=>false
 |_=>true
def uC:Tx→Bool
 |.yes=>true
 |_=>false
mutual
def bZ(c:CT):Tg→Expr→Bool
 |.nm i,e=>az (asName e) fun t=>(c.N[i]?==some t.1)&&c.sto t.1
 |.tp ts,e=>az (fB e) fun t=>bU c ts t.1
def bU(c:CT):Tgs→List Expr→Bool
 |.nil,es=>es.isEmpty
 |.cons t r,es=>match es with
  |e::es=>bZ c t e&&bU c r es
  |[]=>false
end
def uD(e:Expr):Bool:=az (qi e) fun t=>az (Vu t.1) fun x=>decide (x.length≤1000)
def unF(e:Expr):Expr:=match uA e with |some t=>t.1.1 |none=>e
def Vw:Ex→Bool
 |.cst (.str _)=>true
 |_=>false
def Vx:Exs→List Expr→Bool
 |.cons x xs,p::ps=>(match uA p with |some t=>decide (t.1.2.1=-1)&&t.1.2.2.1.isNone |none=>Vw x)&&Vx xs ps
 |.nil,ps=>ps.isEmpty
 |_,[]=>false
mutual
def aj(c:CT):Ex→Expr→Bool
 |.var i,e=>az (asName e) fun t=>(c.N[i]?==some t.1)&&gw (c.kd.lookup t.1)&&okN t.1
 |.cst d,e=>az (qi e) fun t=>qe d t.1
 |.glb x d,e=>az (asName e) fun t=>t.1==Str.ofString x&&c.glo t.1&&c.cn.any (fun p=>p.1==x&&sEq p.2 d)
 |.bin op _ a b,e=>az (zH e) fun t=>t.2.1==op&&aj c a t.1&&aj c b t.2.2.1
 |.neg a,e=>az (iJ e) fun t=>uB t.1&&aj c a t.2.1
 |.cmp op a b,e=>az (jC e) fun t=>(one t.2.1).any fun o=>(one t.2.2.1).any fun r=>o==op&&aj c a t.1&&aj c b r
 |.chn op op' a b d,e=>az (jC e) fun t=>(two t.2.1).any fun o=>(two t.2.2.1).any fun r=>o.1==op&&o.2==op'&&aj c a t.1&&aj c b r.1&&aj c d r.2
 |.not a,e=>az (iJ e) fun t=>jE t.1&&aj c a t.2.1
 |.boo isAnd x es,e=>az (qj e) fun t=>(hdT t.2.1).any fun v=>t.1==(if isAnd then .And else .Or)&&aj c x v.1&&aF c es v.2
 |.ife _ _ _,_=>false
 |.tup es,e=>az (fB e) fun t=>aF c es t.1
 |.lst _ es,e=>az (asList e) fun t=>aF c es t.1
 |.idx a i,e=>az (fD e) fun t=>aj c a t.1&&aj c i t.2.1
 |.slc _ a lo hi,e=>az (fD e) fun t=>az (ql t.2.1) fun s=>s.2.2.1.isNone&&(aj c a t.1&&eE c lo s.1&&eE c hi s.2.1)
 |.rvs _ a s,e=>az (fD e) fun t=>az (ql t.2.1) fun u=>u.1.isNone&&u.2.1.isNone&&(u.2.2.1.any fun st=>aj c a t.1&&aj c s st)
 |.call f es,e=>(bu e).any fun t=>t.1==Str.ofString f&&c.glo t.1&&(c.fs.any fun p=>p.1==f&&p.2==t.2.2.1.length)&&!t.2.2.1.isEmpty&&aF c es t.2.2.1
 |.bcl f es,e=>(bu e).any fun t=>t.1==Str.ofString f.name&&ux f&&c.glo t.1&&c.bt.contains f.name&&!t.2.2.1.isEmpty&&aF c es t.2.2.1
 |.lcl _ f es,e=>(bu e).any fun t=>t.1==Str.ofString f.name&&uy f&&c.glo t.1&&c.bt.contains f.name&&!t.2.2.1.isEmpty&&aF c es t.2.2.1
 |.isi a t,e=>(bu e).any fun u=>(two u.2.2.1).any fun v=>az (asName v.2) fun y=>u.1==Str.ofString "isinstance"&&c.glo u.1&&c.bt.contains "isinstance"&&aj c a v.1&&y.1==Str.ofString t&&c.glo y.1&&c.bt.contains t&&dY t
 |.isx a C xs,e=>(bu e).any fun u=>(two u.2.2.1).any fun v=>az (asName v.2) fun y=>u.1==Str.ofString "isinstance"&&c.glo u.1&&c.bt.contains "isinstance"&&aj c a v.1&&y.1==Str.ofString C&&c.glo y.1&&c.xs.contains (C,false)&&xs.all fun x=>c.xs.contains (x,true)
 |.fst _,_=>false
 |.mth m o es,e=>az (uz e) fun t=>az (zJ t.1) fun v=>t.2.2.1.isEmpty&&(v.2.1==Str.ofString m.name&&aj c o v.1&&!qg v.1&&(v.2.2.endLine==t.2.2.2.line)&&decide (t.2.1.length < 29)&&!t.2.1.isEmpty&&aF c es t.2.1)
 |.comp _ elt tg it cond N cap,e=>az (zK e) fun t=>(one t.2.1).any fun g=>decide (g.is_async=0)&&bQ c it g.target g.iter&&fu c.N t.2.2.1 (N.map Str.ofString) cap&&iI c t.2.2.1&&dF (N.map Str.ofString) &&
    bZ (c.comp (N.map Str.ofString) t.2.2.1) tg g.target&&((uC cond&&g.ifs.isEmpty)||(one g.ifs).any fun f=>bw (c.comp (N.map Str.ofString) t.2.2.1) cond f)&&aj (c.comp (N.map Str.ofString) t.2.2.1) elt t.1
 |.frz a,e=>aj c a e
def bw(c:CT):Tx→Expr→Bool
 |.val x,e=>(gA e||jF e)&&aj c x e&&zW x
 |.not t,e=>az (iJ e) fun u=>jE u.1&&bw c t u.2.1
 |.boo isAnd t ts,e=>az (qj e) fun u=>(hdT u.2.1).any fun v=>u.1==(if isAnd then .And else .Or)&&bw c t v.1&&gB c ts v.2
 |.yes,_=>false
def gB(c:CT):Txs→List Expr→Bool
 |.nil,es=>es.isEmpty
 |.cons t r,es=>match es with
  |e::es=>bw c t e&&gB c r es
  |[]=>false
def aF(c:CT):Exs→List Expr→Bool
 |.nil,es=>es.isEmpty
 |.cons t r,es=>match es with
  |e::es=>aj c t e&&aF c r es
  |[]=>false
def eE(c:CT):Ox→Option Expr→Bool
 |.no,e=>e.isNone
 |.ob x,e=>match e with
  |some e=>aj c x e
  |none=>false
def bQ(c:CT):It'→Expr→Expr→Bool
 |.seq x,_,e=>aj c x e
 |.rng a,_,e=>(bu e).any fun t=>(one t.2.2.1).any fun v=>t.1==Str.ofString "range"&&c.glo t.1&&c.bt.contains "range"&&aj c a v
 |.rng2 _ _,_,_=>false
 |.rev _,_,_=>false
 |.dwn _ _ _,_,_=>false
 |.enm a,tg,e=>az (fB tg) fun _=>(bu e).any fun t=>(one t.2.2.1).any fun v=>t.1==Str.ofString "enumerate"&&c.glo t.1&&c.bt.contains "enumerate"&&aj c a v
 |.zip a b,tg,e=>az (fB tg) fun _=>(bu e).any fun t=>(two t.2.2.1).any fun v=>t.1==Str.ofString "zip"&&c.glo t.1&&c.bt.contains "zip"&&aj c a v.1&&aj c b v.2
end
def jG(c:CT)(cond:Tx)(ifs:List Expr):Bool:=(uC cond&&ifs.isEmpty)||(one ifs).any fun f=>bw c cond f
def zX:Ex→Bool
 |.comp ..=>true
 |_=>false
def zY:Expr→Bool
 |.Tuple ..=>true
 |_=>false
def uE(g:Tg)(x:Ex)(e:Expr):Bool:=match g with |.nm _=>!cJ e||zX x |.tp _=>!zY e&&!cJ e
def jH(c:CT):Exs→List Expr→Bool
 |es,[]=>(match es with |.nil=>true |_=>false)
 |es,p::ps=>match uD p with
  |true=>jH c es ps
  |false=>(match es with |.cons x r=>(az (uA p) fun t=>decide (t.2.1=-1)&&t.2.2.1.isNone&&aj c x t.1)&&jH c r ps |.nil=>false)
def qu(c:CT)(es:Exs)(e:Expr):Bool:=(match es with |.nil=>uD e |_=>false)||az (Vt e) fun t=>decide (2≤t.1.length)&&decide (t.1.length≤50)&&jH c es t.1
def cL(c:CT):Tb→List Stmt→Bool
 |.call f es,sts=>(one sts).any fun s0=>az (qm s0) fun e0=>(bu e0.1).any fun u=>(u.1==Str.ofString f&&c.glo u.1&&(c.fs.any fun p=>p.1==f&&p.2==u.2.2.1.length)&&!u.2.2.1.isEmpty&&aF c es u.2.2.1)
 |.asg i f es,sts=>(one sts).any fun s0=>az (fG s0) fun a=>(one a.1).any fun tg=>az (asName tg) fun y=>(bu a.2.1).any fun u=>(c.N[i]?==some y.1&&c.sto y.1&&okN y.1)&&(u.1==Str.ofString f&&c.glo u.1&&(c.fs.any fun p=>p.1==f&&p.2==u.2.2.1.length)&&!u.2.2.1.isEmpty&&aF c es u.2.2.1)
 |.ite t a b,sts=>(one sts).any fun s0=>az (qt s0) fun u=>bw c t u.1&&cL c a u.2.1&&cL c b u.2.2.1
def uF(b:Bool):Const→Bool
 |.bool x=>x==b
 |_=>false
def qw(c:CT)(h:Hd)(nm:Option Str)(y:Str)(e:Expr):Bool:=(match h with
 |.flag i b=>nm.isNone&&(c.N[i]?==some y)&&az (qi e) fun k=>uF b k.1
 |.bind n i=>nm.any fun x=>(c.N[i]?==some y)&&(c.N[n]?==some x)&&(c.kd.lookup x==some .local)&&okN x&&az (asName e) fun z=>z.1==x)&&c.sto y&&okN y
mutual
def aY(c:CT):Sx→Stmt→Bool
 |.exp x,st=>az (qm st) fun t=>!cJ t.1&&aj c x t.1
 |.asg g x,st=>az (fG st) fun t=>(one t.1).any fun tg=>bZ c g tg&&aj c x t.2.1&&uE g x t.2.1
 |.set o i x,st=>az (fG st) fun t=>(one t.1).any fun tg=>az (fD tg) fun u=>aj c o u.1&&aj c i u.2.1&&aj c x t.2.1&&!cJ t.2.1
 |.aug _ _ _,_=>false
 |.augs _ _ _ _,_=>false
 |.ret x,st=>az (qp st) fun t=>t.1.any fun e=>aj c x e
 |.rtn,st=>az (qp st) fun t=>t.1.isNone
 |.ite t a b,st=>az (qt st) fun u=>bw c t u.1&&aC c a u.2.1&&aC c b u.2.2.1
 |.for_ g it b,st=>az (zO st) fun t=>t.2.2.2.1.isEmpty&&(bZ c g t.1&&bQ c it t.1 t.2.1&&aC c b t.2.2.1)
 |.whl _ _,_=>false
 |.pas,st=>(zP st).isSome
 |.brk,st=>(zQ st).isSome
 |.cnt,st=>(zR st).isSome
 |.nev,_=>true
 |.rse C es,st=>az (zL st) fun t=>t.2.1.isNone&&t.1.any fun e=>(bu e).any fun u=>u.1==Str.ofString C&&c.glo u.1&&c.xs.contains (C,true)&&(one u.2.2.1).any fun m=>qu c es m
 |.tryc _ _ _ _ _,_=>false
 |.tryx b C h xs,st=>az (zM st) fun t=>t.2.2.1.isEmpty&&t.2.2.2.1.isEmpty&&cL c b t.1&&(xs.all fun x=>c.xs.contains (x,true))&&!(C=="ValueError")&&(one t.2.1).any fun hd=>az (zN hd) fun w=>w.1.any fun te=>az (asName te) fun n=>(n.1==Str.ofString C&&c.glo n.1&&c.xs.contains (C,false))&&(one w.2.2.1).any fun s1=>az (fG s1) fun a=>(one a.1).any fun tg=>az (asName tg) fun y=>qw c h w.2.1 y.1 a.2.1
def aC(c:CT):Sxs→List Stmt→Bool
 |.nil,es=>es.isEmpty
 |.cons t r,es=>match es with
  |e::es=>aY c t e&&aC c r es
  |[]=>false
end
theorem uG{c:CT}{i:Nat}{e:Expr}(h:bZ c (.nm i) e=true):∃x p,e=.Name x p∧((c.N[i]?==some x)&&c.sto x)=true:=by
 have h:(az (asName e) fun t=>(c.N[i]?==some t.1)&&c.sto t.1)=true:=h
 obtain ⟨t,ht,h⟩:=aH h
 exact ⟨_,_,ht,h⟩
theorem uH{c:CT}{ts:Tgs}{e:Expr}(h:bZ c (.tp ts) e=true):∃es k p,e=.Tuple es k p∧(bU c ts es)=true:=by
 have h:(az (fB e) fun t=>bU c ts t.1)=true:=h
 obtain ⟨t,ht,h⟩:=aH h
 exact ⟨_,_,_,ht,h⟩
theorem zZ{c:CT}{i:Nat}{e:Expr}(h:aj c (.var i) e=true):∃x p,e=.Name x p∧((c.N[i]?==some x)&&gw (c.kd.lookup x)&&okN x)=true:=by
 have h:(az (asName e) fun t=>(c.N[i]?==some t.1)&&gw (c.kd.lookup t.1)&&okN t.1)=true:=h
 obtain ⟨t,ht,h⟩:=aH h
 exact ⟨_,_,ht,h⟩
theorem z6{c:CT}{d:D}{e:Expr}(h:aj c (.cst d) e=true):∃k n p,e=.Constant k n p∧(qe d k)=true:=by
 have h:(az (qi e) fun t=>qe d t.1)=true:=h
 obtain ⟨t,ht,h⟩:=aH h
 exact ⟨_,_,_,ht,h⟩
theorem z7{c:CT}{x:String}{d:D}{e:Expr}(h:aj c (.glb x d) e=true):∃y p,e=.Name y p∧(y==Str.ofString x&&c.glo y&&c.cn.any (fun p=>p.1==x&&sEq p.2 d))=true:=by
 have h:(az (asName e) fun t=>t.1==Str.ofString x&&c.glo t.1&&c.cn.any (fun p=>p.1==x&&sEq p.2 d))=true:=h
 obtain ⟨t,ht,h⟩:=aH h
 exact ⟨_,_,ht,h⟩
theorem z8{c:CT}{op:Operator}{fz:Bool}{a b:Ex}{e:Expr}(h:aj c (.bin op fz a b) e=true):∃l o r p,e=.BinOp l o r p∧(o==op&&aj c a l&&aj c b r)=true:=by
 have h:(az (zH e) fun t=>t.2.1==op&&aj c a t.1&&aj c b t.2.2.1)=true:=h
 obtain ⟨t,ht,h⟩:=aH h
 exact ⟨_,_,_,_,ht,h⟩
theorem z9{c:CT}{a:Ex}{e:Expr}(h:aj c (.neg a) e=true):∃x p,e=.UnaryOp .USub x p∧(aj c a x)=true:=by
 have h:(az (iJ e) fun t=>uB t.1&&aj c a t.2.1)=true:=h
 obtain ⟨t,ht,h⟩:=aH h
 rw[Bool.and_eq_true]at h
 exact ⟨_,_,by rw[ht,Vv h.1],h.2⟩
theorem Aa{c:CT}{a:Ex}{e:Expr}(h:aj c (.not a) e=true):∃x p,e=.UnaryOp .Not x p∧(aj c a x)=true:=by
 have h:(az (iJ e) fun t=>jE t.1&&aj c a t.2.1)=true:=h
 obtain ⟨t,ht,h⟩:=aH h
 rw[Bool.and_eq_true]at h
 exact ⟨_,_,by rw[ht,zU h.1],h.2⟩
theorem Ab{c:CT}{op:CmpOp}{a b:Ex}{e:Expr}(h:aj c (.cmp op a b) e=true):∃l o r p,e=.Compare l [o] [r] p∧(o==op&&aj c a l&&aj c b r)=true:=by
 have h:(az (jC e) fun t=>(one t.2.1).any fun o=>(one t.2.2.1).any fun r=>o==op&&aj c a t.1&&aj c b r)=true:=h
 obtain ⟨t,ht,h⟩:=aH h
 obtain ⟨o,ho,h⟩:=aM h
 obtain ⟨r,hr,h⟩:=aM h
 exact ⟨_,_,_,_,by rw[ht,bY ho,bY hr],h⟩
theorem Ac{c:CT}{op op':CmpOp}{a b d:Ex}{e:Expr}(h:aj c (.chn op op' a b d) e=true):∃l o o' m r p,e=.Compare l [o,o'] [m,r] p∧(o==op&&o'==op'&&aj c a l&&aj c b m&&aj c d r)=true:=by
 have h:(az (jC e) fun t=>(two t.2.1).any fun o=>(two t.2.2.1).any fun r=>o.1==op&&o.2==op'&&aj c a t.1&&aj c b r.1&&aj c d r.2)=true:=h
 obtain ⟨t,ht,h⟩:=aH h
 obtain ⟨o,ho,h⟩:=aM h
 obtain ⟨r,hr,h⟩:=aM h
 exact ⟨_,_,_,_,_,_,by rw[ht,jD ho,jD hr],h⟩
theorem Ad{c:CT}{isAnd:Bool}{x:Ex}{es:Exs}{e:Expr}(h:aj c (.boo isAnd x es) e=true):∃op v vs p,e=.BoolOp op (v::vs) p∧(op==(if isAnd then .And else .Or)&&aj c x v&&aF c es vs)=true:=by
 have h:(az (qj e) fun t=>(hdT t.2.1).any fun v=>t.1==(if isAnd then .And else .Or)&&aj c x v.1&&aF c es v.2)=true:=h
 obtain ⟨t,ht,h⟩:=aH h
 obtain ⟨v,hv,h⟩:=aM h
 exact ⟨_,_,_,_,by rw[ht,zT hv],h⟩
theorem Ae{c:CT}{es:Exs}{e:Expr}(h:aj c (.tup es) e=true):∃vs k p,e=.Tuple vs k p∧(aF c es vs)=true:=by
 have h:(az (fB e) fun t=>aF c es t.1)=true:=h
 obtain ⟨t,ht,h⟩:=aH h
 exact ⟨_,_,_,ht,h⟩
theorem Af{c:CT}{fz:Bool}{es:Exs}{e:Expr}(h:aj c (.lst fz es) e=true):∃vs p,e=.List vs p∧(aF c es vs)=true:=by
 have h:(az (asList e) fun t=>aF c es t.1)=true:=h
 obtain ⟨t,ht,h⟩:=aH h
 exact ⟨_,_,ht,h⟩
theorem Ag{c:CT}{a i:Ex}{e:Expr}(h:aj c (.idx a i) e=true):∃v s p,e=.Subscript v s p∧(aj c a v&&aj c i s)=true:=by
 have h:(az (fD e) fun t=>aj c a t.1&&aj c i t.2.1)=true:=h
 obtain ⟨t,ht,h⟩:=aH h
 exact ⟨_,_,_,ht,h⟩
theorem Ah{c:CT}{fz:Bool}{a:Ex}{lo hi:Ox}{e:Expr}(h:aj c (.slc fz a lo hi) e=true):∃v l u p' p,e=.Subscript v (.Slice l u none p') p∧(aj c a v&&eE c lo l&&eE c hi u)=true:=by
 have h:(az (fD e) fun t=>az (ql t.2.1) fun s=>s.2.2.1.isNone&&(aj c a t.1&&eE c lo s.1&&eE c hi s.2.1))=true:=h
 obtain ⟨t,ht,h⟩:=aH h
 obtain ⟨s,hs,h⟩:=aH h
 rw[Bool.and_eq_true,Option.isNone_iff_eq_none]at h
 exact ⟨_,_,_,_,_,by rw[ht,hs,h.1],h.2⟩
theorem Ai{c:CT}{fz:Bool}{a s:Ex}{e:Expr}(h:aj c (.rvs fz a s) e=true):∃v st p' p,e=.Subscript v (.Slice none none (some st) p') p∧(aj c a v&&aj c s st)=true:=by
 have h:(az (fD e) fun t=>az (ql t.2.1) fun u=>u.1.isNone&&u.2.1.isNone&&(u.2.2.1.any fun st=>aj c a t.1&&aj c s st))=true:=h
 obtain ⟨t,ht,h⟩:=aH h
 obtain ⟨u,hu,h⟩:=aH h
 rw[Bool.and_eq_true,Bool.and_eq_true,Option.isNone_iff_eq_none,Option.isNone_iff_eq_none]at h
 obtain ⟨st,hst,h'⟩:=aM h.2
 exact ⟨_,_,_,_,by rw[ht,hu,h.1.1,h.1.2,hst],h'⟩
theorem Aj{c:CT}{f:String}{es:Exs}{e:Expr}(h:aj c (.call f es) e=true):∃x p args pos,e=.Call (.Name x p) args [] pos∧(x==Str.ofString f&&c.glo x&&(c.fs.any fun p=>p.1==f&&p.2==args.length)&&!args.isEmpty&&aF c es args)=true:=by
 have h:((bu e).any fun t=>t.1==Str.ofString f&&c.glo t.1&&(c.fs.any fun p=>p.1==f&&p.2==t.2.2.1.length)&&!t.2.2.1.isEmpty&&aF c es t.2.2.1)=true:=h
 obtain ⟨t,ht,h⟩:=aM h
 exact ⟨_,_,_,_,dq ht,h⟩
theorem Ak{c:CT}{f:Bf}{es:Exs}{e:Expr}(h:aj c (.bcl f es) e=true):∃x p args pos,e=.Call (.Name x p) args [] pos∧(x==Str.ofString f.name&&ux f&&c.glo x&&c.bt.contains f.name&&!args.isEmpty&&aF c es args)=true:=by
 have h:((bu e).any fun t=>t.1==Str.ofString f.name&&ux f&&c.glo t.1&&c.bt.contains f.name&&!t.2.2.1.isEmpty&&aF c es t.2.2.1)=true:=h
 obtain ⟨t,ht,h⟩:=aM h
 exact ⟨_,_,_,_,dq ht,h⟩
theorem Al{c:CT}{fz:Bool}{f:Lf}{es:Exs}{e:Expr}(h:aj c (.lcl fz f es) e=true):∃x p args pos,e=.Call (.Name x p) args [] pos∧(x==Str.ofString f.name&&uy f&&c.glo x&&c.bt.contains f.name&&!args.isEmpty&&aF c es args)=true:=by
 have h:((bu e).any fun t=>t.1==Str.ofString f.name&&uy f&&c.glo t.1&&c.bt.contains f.name&&!t.2.2.1.isEmpty&&aF c es t.2.2.1)=true:=h
 obtain ⟨t,ht,h⟩:=aM h
 exact ⟨_,_,_,_,dq ht,h⟩
theorem Am {c:CT} {a:Ex} {t:String} {e:Expr} (h:aj c (.isi a t) e=true):∃x p v y p' pos,e=.Call (.Name x p) [v,.Name y p'] [] pos∧(x==Str.ofString "isinstance"&&c.glo x&&c.bt.contains "isinstance"&&aj c a v&&y==Str.ofString t&&c.glo y&&c.bt.contains t&&dY t)=true:=by
 have h:((bu e).any fun u=>(two u.2.2.1).any fun v=>az (asName v.2) fun y=>u.1==Str.ofString "isinstance"&&c.glo u.1&&c.bt.contains "isinstance"&&aj c a v.1&&y.1==Str.ofString t&&c.glo y.1&&c.bt.contains t&&dY t)=true:=h
 obtain ⟨u,hu,h⟩:=aM h
 obtain ⟨v,hv,h⟩:=aM h
 obtain ⟨y,hy,h⟩:=aH h
 exact ⟨_,_,_,_,_,_,by rw[dq hu,jD hv,hy],h⟩
theorem An {c:CT} {a:Ex} {C:String} {xs:List String} {e:Expr} (h:aj c (.isx a C xs) e=true):∃x p v y p' pos,e=.Call (.Name x p) [v,.Name y p'] [] pos∧(x==Str.ofString "isinstance"&&c.glo x&&c.bt.contains "isinstance"&&aj c a v&&y==Str.ofString C&&c.glo y&&c.xs.contains (C,false)&&xs.all fun x=>c.xs.contains (x,true))=true:=by
 have h:((bu e).any fun u=>(two u.2.2.1).any fun v=>az (asName v.2) fun y=>u.1==Str.ofString "isinstance"&&c.glo u.1&&c.bt.contains "isinstance"&&aj c a v.1&&y.1==Str.ofString C&&c.glo y.1&&c.xs.contains (C,false)&&xs.all fun x=>c.xs.contains (x,true))=true:=h
 obtain ⟨u,hu,h⟩:=aM h
 obtain ⟨v,hv,h⟩:=aM h
 obtain ⟨y,hy,h⟩:=aH h
 exact ⟨_,_,_,_,_,_,by rw[dq hu,jD hv,hy],h⟩
theorem Ao{c:CT}{m:Mf}{o:Ex}{es:Exs}{e:Expr}(h:aj c (.mth m o es) e=true):∃v x apos args cpos,e=.Call (.Attribute v x apos) args [] cpos∧(x==Str.ofString m.name&&aj c o v&&!qg v&&(apos.endLine==cpos.line)&&decide (args.length < 29)&&!args.isEmpty&&aF c es args)=true:=by
 have h:(az (uz e) fun t=>az (zJ t.1) fun v=>t.2.2.1.isEmpty&&(v.2.1==Str.ofString m.name&&aj c o v.1&&!qg v.1&&(v.2.2.endLine==t.2.2.2.line)&&decide (t.2.1.length < 29)&&!t.2.1.isEmpty&&aF c es t.2.1))=true:=h
 obtain ⟨t,ht,h⟩:=aH h
 obtain ⟨v,hv,h⟩:=aH h
 rw[Bool.and_eq_true,List.isEmpty_iff]at h
 exact ⟨_,_,_,_,_,by rw[ht,hv,h.1],h.2⟩
theorem Aq{c:CT}{fz:Bool}{elt:Ex}{tg:Tg}{it:It'}{cond:Tx}{N:List String}{cap:List (Option Nat)}{e:Expr}(h:aj c (.comp fz elt tg it cond N cap) e=true):∃elt' tg' iter ifs as scope pos,e=.ListComp elt' [⟨tg',iter,ifs,as⟩] scope pos∧(decide (as=0)&&bQ c it tg' iter&&fu c.N scope (N.map Str.ofString) cap&&iI c scope&&dF (N.map Str.ofString)&&bZ (c.comp (N.map Str.ofString) scope) tg tg'&&jG (c.comp (N.map Str.ofString) scope) cond ifs&&aj (c.comp (N.map Str.ofString) scope) elt elt')=true:=by
 have h:(az (zK e) fun t=>(one t.2.1).any fun g=>decide (g.is_async=0)&&bQ c it g.target g.iter&&fu c.N t.2.2.1 (N.map Str.ofString) cap&&iI c t.2.2.1&&dF (N.map Str.ofString)&&bZ (c.comp (N.map Str.ofString) t.2.2.1) tg g.target&&((uC cond&&g.ifs.isEmpty)||(one g.ifs).any fun f=>bw (c.comp (N.map Str.ofString) t.2.2.1) cond f)&&aj (c.comp (N.map Str.ofString) t.2.2.1) elt t.1)=true:=h
 obtain ⟨t,ht,h⟩:=aH h
 obtain ⟨⟨tg',iter,ifs,as⟩,hg,h⟩:=aM h
 exact ⟨t.1,tg',iter,ifs,as,t.2.2.1,t.2.2.2,(ht).trans (by rw[bY hg]),h⟩
theorem Vy{c:CT}{t:Tx}{e:Expr}(h:bw c (.not t) e=true):∃x p,e=.UnaryOp .Not x p∧(bw c t x)=true:=by
 have h:(az (iJ e) fun u=>jE u.1&&bw c t u.2.1)=true:=h
 obtain ⟨u,ht,h⟩:=aH h
 rw[Bool.and_eq_true]at h
 exact ⟨_,_,by rw[ht,zU h.1],h.2⟩
theorem Vz{c:CT}{isAnd:Bool}{x:Tx}{es:Txs}{e:Expr}(h:bw c (.boo isAnd x es) e=true):∃op v vs p,e=.BoolOp op (v::vs) p∧(op==(if isAnd then .And else .Or)&&bw c x v&&gB c es vs)=true:=by
 have h:(az (qj e) fun u=>(hdT u.2.1).any fun v=>u.1==(if isAnd then .And else .Or)&&bw c x v.1&&gB c es v.2)=true:=h
 obtain ⟨t,ht,h⟩:=aH h
 obtain ⟨v,hv,h⟩:=aM h
 exact ⟨_,_,_,_,by rw[ht,zT hv],h⟩
theorem Ar {c:CT} {a:Ex} {tg e:Expr} (h:bQ c (.rng a) tg e=true):∃x p v pos,e=.Call (.Name x p) [v] [] pos∧(x==Str.ofString "range"&&c.glo x&&c.bt.contains "range"&&aj c a v)=true:=by
 have h:((bu e).any fun t=>(one t.2.2.1).any fun v=>t.1==Str.ofString "range"&&c.glo t.1&&c.bt.contains "range"&&aj c a v)=true:=h
 obtain ⟨t,ht,h⟩:=aM h
 obtain ⟨v,hv,h⟩:=aM h
 exact ⟨_,_,_,_,by rw[dq ht,bY hv],h⟩
theorem Av {c:CT} {a:Ex} {tg e:Expr} (h:bQ c (.enm a) tg e=true):∃ts k p0 x p v pos,tg=.Tuple ts k p0∧e=.Call (.Name x p) [v] [] pos∧(x==Str.ofString "enumerate"&&c.glo x&&c.bt.contains "enumerate"&&aj c a v)=true:=by
 have h:(az (fB tg) fun _=>(bu e).any fun t=>(one t.2.2.1).any fun v=>t.1==Str.ofString "enumerate"&&c.glo t.1&&c.bt.contains "enumerate"&&aj c a v)=true:=h
 obtain ⟨g,hg,h⟩:=aH h
 obtain ⟨t,ht,h⟩:=aM h
 obtain ⟨v,hv,h⟩:=aM h
 exact ⟨_,_,_,_,_,_,_,hg,by rw[dq ht,bY hv],h⟩
theorem Aw {c:CT} {a b:Ex} {tg e:Expr} (h:bQ c (.zip a b) tg e=true):∃ts k p0 x p v v' pos,tg=.Tuple ts k p0∧e=.Call (.Name x p) [v,v'] [] pos∧(x==Str.ofString "zip"&&c.glo x&&c.bt.contains "zip"&&aj c a v&&aj c b v')=true:=by
 have h:(az (fB tg) fun _=>(bu e).any fun t=>(two t.2.2.1).any fun v=>t.1==Str.ofString "zip"&&c.glo t.1&&c.bt.contains "zip"&&aj c a v.1&&aj c b v.2)=true:=h
 obtain ⟨g,hg,h⟩:=aH h
 obtain ⟨t,ht,h⟩:=aM h
 obtain ⟨v,hv,h⟩:=aM h
 exact ⟨_,_,_,_,_,_,_,_,hg,by rw[dq ht,jD hv],h⟩
theorem VB{c:CT}{x:Ex}{st:Stmt}(h:aY c (.exp x) st=true):∃e pos,st=.Expr e pos∧(!cJ e&&aj c x e)=true:=by
 have h:(az (qm st) fun t=>!cJ t.1&&aj c x t.1)=true:=h
 obtain ⟨t,ht,h⟩:=aH h
 exact ⟨_,_,ht,h⟩
theorem Ax{c:CT}{g:Tg}{x:Ex}{st:Stmt}(h:aY c (.asg g x) st=true):∃tg e pos,st=.Assign [tg] e pos∧(bZ c g tg&&aj c x e&&uE g x e)=true:=by
 have h:(az (fG st) fun t=>(one t.1).any fun tg=>bZ c g tg&&aj c x t.2.1&&uE g x t.2.1)=true:=h
 obtain ⟨t,ht,h⟩:=aH h
 obtain ⟨g,hg,h⟩:=aM h
 exact ⟨_,_,_,by rw[ht,bY hg],h⟩
theorem VD{c:CT}{o i x:Ex}{st:Stmt}(h:aY c (.set o i x) st=true):∃o' i' tpos e pos,st=.Assign [.Subscript o' i' tpos] e pos∧(aj c o o'&&aj c i i'&&aj c x e&&!cJ e)=true:=by
 have h:(az (fG st) fun t=>(one t.1).any fun tg=>az (fD tg) fun u=>aj c o u.1&&aj c i u.2.1&&aj c x t.2.1&&!cJ t.2.1)=true:=h
 obtain ⟨t,ht,h⟩:=aH h
 obtain ⟨g,hg,h⟩:=aM h
 obtain ⟨u,hu,h⟩:=aH h
 exact ⟨_,_,_,_,_,by rw[ht,bY hg,hu],h⟩
theorem VF{c:CT}{C:String}{es:Exs}{st:Stmt}(h:aY c (.rse C es) st=true):∃x np m cpos pos,st=.Raise (some (.Call (.Name x np) [m] [] cpos)) none pos∧(x==Str.ofString C&&c.glo x&&c.xs.contains (C,true)&&qu c es m)=true:=by
 have h:(az (zL st) fun t=>t.2.1.isNone&&t.1.any fun e=>(bu e).any fun u=>u.1==Str.ofString C&&c.glo u.1&&c.xs.contains (C,true)&&(one u.2.2.1).any fun m=>qu c es m)=true:=h
 obtain ⟨t,ht,h⟩:=aH h
 rw[Bool.and_eq_true,Option.isNone_iff_eq_none]at h
 obtain ⟨e,he,h2⟩:=aM h.2
 obtain ⟨u,hu,h3⟩:=aM h2
 rw[Bool.and_eq_true]at h3
 obtain ⟨m,hm,h4⟩:=aM h3.2
 exact ⟨_,_,m,_,_,by rw[ht,h.1,he,dq hu,bY hm],by rw[Bool.and_eq_true];exact ⟨h3.1,h4⟩⟩
theorem VG{b:Bool}{k:Const}(h:uF b k=true):k=.bool b:=by
 cases k <;> first | (cases h;done) |skip
 rw[show uF b (.bool _)=(_==b) from rfl,beq_iff_eq]at h
 rw[h]
theorem VH{c:CT}{b:Tb}{C:String}{h:Hd}{xs:List String}{st:Stmt}(hh:aY c (.tryx b C h xs) st=true):
  ∃body cx p1 nm y p2 e p4 p5 pos,st=.Try body [.ExceptHandler (some (.Name cx p1)) nm [.Assign [.Name y p2] e p4] p5] [] [] pos∧
   cL c b body=true∧(xs.all fun x=>c.xs.contains (x,true))=true∧(C=="ValueError")=false∧(cx==Str.ofString C&&c.glo cx&&c.xs.contains (C,false))=true∧qw c h nm y e=true:=by
 have hh:(az (zM st) fun t=>t.2.2.1.isEmpty&&t.2.2.2.1.isEmpty&&cL c b t.1&&(xs.all fun x=>c.xs.contains (x,true))&&!(C=="ValueError")&&(one t.2.1).any fun hd=>az (zN hd) fun w=>w.1.any fun te=>az (asName te) fun n=>(n.1==Str.ofString C&&c.glo n.1&&c.xs.contains (C,false))&&(one w.2.2.1).any fun s1=>az (fG s1) fun a=>(one a.1).any fun tg=>az (asName tg) fun y=>qw c h w.2.1 y.1 a.2.1)=true:=hh
 obtain ⟨t,ht,h1⟩:=aH hh
 simp only[Bool.and_eq_true,List.isEmpty_iff,Bool.not_eq_true']at h1
 obtain ⟨⟨⟨⟨⟨e1,e2⟩,hx⟩,ha⟩,hv⟩,h2⟩:=h1
 obtain ⟨hd,hhd,h3⟩:=aM h2
 obtain ⟨w,hw,h3⟩:=aH h3
 obtain ⟨te,hte,h4⟩:=aM h3
 obtain ⟨n,hn',h4⟩:=aH h4
 simp only[Bool.and_eq_true]at h4
 obtain ⟨s1,hs1,h5⟩:=aM h4.2
 obtain ⟨a,ha',h5⟩:=aH h5
 obtain ⟨tg,htg,h5⟩:=aM h5
 obtain ⟨y,hy,h5⟩:=aH h5
 exact ⟨_,_,_,_,_,_,_,_,_,_,by rw[ht,e1,e2,bY hhd,hw,hte,hn',bY hs1,ha',bY htg,hy],hx,ha,hv,by simp only[Bool.and_eq_true];exact h4.1,h5⟩
theorem VJ{c:CT}{f:String}{es:Exs}{sts:List Stmt}(h:cL c (.call f es) sts=true):∃x p args cpos p0,sts=[.Expr (.Call (.Name x p) args [] cpos) p0]∧
   (x==Str.ofString f&&c.glo x&&(c.fs.any fun p=>p.1==f&&p.2==args.length)&&!args.isEmpty&&aF c es args)=true:=by
 have h:((one sts).any fun s0=>az (qm s0) fun e0=>(bu e0.1).any fun u=>(u.1==Str.ofString f&&c.glo u.1&&(c.fs.any fun p=>p.1==f&&p.2==u.2.2.1.length)&&!u.2.2.1.isEmpty&&aF c es u.2.2.1))=true:=h
 obtain ⟨s0,hs0,h⟩:=aM h
 obtain ⟨e0,he0,h⟩:=aH h
 obtain ⟨u,hu,h⟩:=aM h
 exact ⟨_,_,_,_,_,by rw[bY hs0,he0,dq hu],h⟩
theorem VL{c:CT}{i:Nat}{f:String}{es:Exs}{sts:List Stmt}(h:cL c (.asg i f es) sts=true):∃y p2 x p args cpos p0,sts=[.Assign [.Name y p2] (.Call (.Name x p) args [] cpos) p0]∧(c.N[i]?==some y&&c.sto y&&okN y)=true∧
   (x==Str.ofString f&&c.glo x&&(c.fs.any fun p=>p.1==f&&p.2==args.length)&&!args.isEmpty&&aF c es args)=true:=by
 have h:((one sts).any fun s0=>az (fG s0) fun a=>(one a.1).any fun tg=>az (asName tg) fun y=>(bu a.2.1).any fun u=>(c.N[i]?==some y.1&&c.sto y.1&&okN y.1)&&(u.1==Str.ofString f&&c.glo u.1&&(c.fs.any fun p=>p.1==f&&p.2==u.2.2.1.length)&&!u.2.2.1.isEmpty&&aF c es u.2.2.1))=true:=h
 obtain ⟨s0,hs0,h⟩:=aM h
 obtain ⟨a,ha,h⟩:=aH h
 obtain ⟨tg,htg,h⟩:=aM h
 obtain ⟨y,hy,h⟩:=aH h
 obtain ⟨u,hu,h⟩:=aM h
 rw[Bool.and_eq_true]at h
 exact ⟨_,_,_,_,_,_,_,by rw[bY hs0,ha,bY htg,hy,dq hu],h.1,h.2⟩
theorem VM{c:CT}{t:Tx}{a b:Tb}{sts:List Stmt}(h:cL c (.ite t a b) sts=true):∃e x y pos,sts=[.If e x y pos]∧bw c t e=true∧cL c a x=true∧cL c b y=true:=by
 have h:((one sts).any fun s0=>az (qt s0) fun u=>bw c t u.1&&cL c a u.2.1&&cL c b u.2.2.1)=true:=h
 obtain ⟨s0,hs0,h⟩:=aM h
 obtain ⟨u,hu,h⟩:=aH h
 rw[Bool.and_eq_true,Bool.and_eq_true]at h
 exact ⟨_,_,_,_,by rw[bY hs0,hu],h.1.1,h.1.2,h.2⟩
theorem VN{c:CT}{x:Ex}{st:Stmt}(h:aY c (.ret x) st=true):∃e pos,st=.Return (some e) pos∧(aj c x e)=true:=by
 have h:(az (qp st) fun t=>t.1.any fun e=>aj c x e)=true:=h
 obtain ⟨t,ht,h⟩:=aH h
 obtain ⟨e,he,h⟩:=aM h
 exact ⟨_,_,by rw[ht,he],h⟩
theorem VP{c:CT}{st:Stmt}(h:aY c .rtn st=true):∃pos,st=.Return none pos∧(true)=true:=by
 have h:(az (qp st) fun t=>t.1.isNone)=true:=h
 obtain ⟨t,ht,h⟩:=aH h
 rw[Option.isNone_iff_eq_none]at h
 exact ⟨_,by rw[ht,h],rfl⟩
theorem VR{c:CT}{t:Tx}{a b:Sxs}{st:Stmt}(h:aY c (.ite t a b) st=true):∃t' a' b' pos,st=.If t' a' b' pos∧(bw c t t'&&aC c a a'&&aC c b b')=true:=by
 have h:(az (qt st) fun u=>bw c t u.1&&aC c a u.2.1&&aC c b u.2.2.1)=true:=h
 obtain ⟨u,ht,h⟩:=aH h
 exact ⟨_,_,_,_,ht,h⟩
theorem VV{c:CT}{g:Tg}{it:It'}{b:Sxs}{st:Stmt}(h:aY c (.for_ g it b) st=true):∃tg iter body pos,st=.For tg iter body [] pos∧(bZ c g tg&&bQ c it tg iter&&aC c b body)=true:=by
 have h:(az (zO st) fun t=>t.2.2.2.1.isEmpty&&(bZ c g t.1&&bQ c it t.1 t.2.1&&aC c b t.2.2.1))=true:=h
 obtain ⟨t,ht,h⟩:=aH h
 rw[Bool.and_eq_true,List.isEmpty_iff]at h
 exact ⟨_,_,_,_,by rw[ht,h.1],h.2⟩
theorem V0{c:CT}{st:Stmt}(h:aY c .pas st=true):∃pos,st=.Pass pos∧(true)=true:=by
 obtain ⟨⟨t,ht⟩,_⟩:=Option.isSome_iff_exists.mp (show (zP st).isSome=true from h)
 exact ⟨t,ht,rfl⟩
theorem V1{c:CT}{st:Stmt}(h:aY c .brk st=true):∃pos,st=.Break pos∧(true)=true:=by
 obtain ⟨⟨t,ht⟩,_⟩:=Option.isSome_iff_exists.mp (show (zQ st).isSome=true from h)
 exact ⟨t,ht,rfl⟩
theorem V2{c:CT}{st:Stmt}(h:aY c .cnt st=true):∃pos,st=.Continue pos∧(true)=true:=by
 obtain ⟨⟨t,ht⟩,_⟩:=Option.isSome_iff_exists.mp (show (zR st).isSome=true from h)
 exact ⟨t,ht,rfl⟩
def jJ:Expr→Bool
 |.Starred ..=>false
 |.Set ..=>false
 |.Slice ..=>false
 |_=>true
theorem bG{c:CT}:∀(x:Ex){e:Expr},aj c x e=true→jJ e=true
 |.frz a,e,h=>bG a (show aj c a e=true from h)
 |.var _,e,h=>by obtain ⟨_,_,rfl,_⟩:=zZ h;rfl
 |.cst _,e,h=>by obtain ⟨_,_,_,rfl,_⟩:=z6 h;rfl
 |.glb _ _,e,h=>by obtain ⟨_,_,rfl,_⟩:=z7 h;rfl
 |.bin _ _ _ _,e,h=>by obtain ⟨_,_,_,_,rfl,_⟩:=z8 h;rfl
 |.neg _,e,h=>by obtain ⟨_,_,rfl,_⟩:=z9 h;rfl
 |.cmp _ _ _,e,h=>by obtain ⟨_,_,_,_,rfl,_⟩:=Ab h;rfl
 |.chn _ _ _ _ _,e,h=>by obtain ⟨_,_,_,_,_,_,rfl,_⟩:=Ac h;rfl
 |.not _,e,h=>by obtain ⟨_,_,rfl,_⟩:=Aa h;rfl
 |.boo _ _ _,e,h=>by obtain ⟨_,_,_,_,rfl,_⟩:=Ad h;rfl
 |.ife _ _ _,_,h=>nomatch (show false=true from h)
 |.tup _,e,h=>by obtain ⟨_,_,_,rfl,_⟩:=Ae h;rfl
 |.lst _ _,e,h=>by obtain ⟨_,_,rfl,_⟩:=Af h;rfl
 |.idx _ _,e,h=>by obtain ⟨_,_,_,rfl,_⟩:=Ag h;rfl
 |.slc _ _ _ _,e,h=>by obtain ⟨_,_,_,_,_,rfl,_⟩:=Ah h;rfl
 |.rvs _ _ _,e,h=>by obtain ⟨_,_,_,_,rfl,_⟩:=Ai h;rfl
 |.call _ _,e,h=>by obtain ⟨_,_,_,_,rfl,_⟩:=Aj h;rfl
 |.bcl _ _,e,h=>by obtain ⟨_,_,_,_,rfl,_⟩:=Ak h;rfl
 |.lcl _ _ _,e,h=>by obtain ⟨_,_,_,_,rfl,_⟩:=Al h;rfl
 |.isi _ _,e,h=>by obtain ⟨_,_,_,_,_,_,rfl,_⟩:=Am h;rfl
 |.fst _,_,h=>nomatch (show false=true from h)
 |.isx _ _ _,e,h=>by obtain ⟨_,_,_,_,_,_,rfl,_⟩:=An h;rfl
 |.mth _ _ _,e,h=>by obtain ⟨_,_,_,_,_,rfl,_⟩:=Ao h;rfl
 |.comp _ _ _ _ _ _ _,e,h=>by obtain ⟨_,_,_,_,_,_,_,rfl,_⟩:=Aq h;rfl
theorem cu{e:Expr}(h:jJ e=true):noStar e=true:=by cases e <;> first |rfl |exact nomatch (show false=true from h)
theorem Ay{e:Expr}(h:jJ e=true)(op:CmpOp):behindInMarks op e=false:=by cases e <;> first |rfl |exact nomatch (show false=true from h)
theorem V3{e:Expr}(h:jJ e=true)(env:Env)(x:Value):foldedSetIterable e env x=pure x:=by cases e <;> first |rfl |exact nomatch (show false=true from h)
theorem V4{e:Expr}(h:jJ e=true):xR e:=by
 intro o i
 cases e <;> first |rfl |exact nomatch (show false=true from h)
theorem V5{e:Expr}(h:gA e=true)(env:Env)(whole:Sem Value):isTrue e env whole=(do let v ←whole;standAt e.pos;holding [v] (truthy v)):=by
 cases e with
 |UnaryOp op x p=>cases op <;> first |rfl |exact nomatch (show false=true from h)
 |_=>first |rfl |exact nomatch (show false=true from h)
end RF
namespace RF
open PySem PySem.Spec PyProof.Rows L2
def XV(K:PySem.W.Frag)(H:Hp)(F:FZ)(x:Xn)(cv:Value)(od:Option Addr):Prop:=
 ∃C,cv=.ref C∧PySem.W.nsIn K mainGlobals (Str.ofString x.cls)=some (some (.ref C))∧
  match x.fld with
  |.non=>True
  |d=>∃a f v,od=some a∧H a=some (.xd [(f,v)])∧Rep K H F d v
def XR(K:PySem.W.Frag)(H:Hp)(F:FZ)(x:Xn)(EX:XK):Prop:=∀cv od,XV K H F x cv od→EX cv od H
def PX(K:PySem.W.Frag)(H:Hp)(F:FZ)(EX:XK):EK:=fun x G'=>∀H' F',Ext H F H' F'→R K H' F' G'→XR K H' F' x EX
theorem el{α β γ:Type}{p q r s:α→β→γ→Prop}{C:Prop}(h:∃x y z,p x y z∧q x y z∧r x y z∧s x y z)(k:∀x y z,p x y z→q x y z→r x y z→s x y z→C):C:=by
 obtain ⟨x,y,z,h1,h2,h3,h4⟩:=h
 exact k x y z h1 h2 h3 h4
def lift(K:PySem.W.Frag)(n:Nat)(S:RF.Spec):Sp:=fun vs H Q EX=>vs.length=n∧∃F G ds,R K H F G∧Reps K H F ds vs∧S.t ds G (PV K H F Q) (PX K H F EX)
def CV(K:PySem.W.Frag)(mg:Str→Option Value)(C':String)(cv:V):Prop:=
 (∃a,cv=.ref a∧mg (Str.ofString C')=some (.ref a)∧ni K a=true)∨(C'="ValueError"∧cv=.ty "ValueError"∧mg (Str.ofString C')=none)
def XI(K:PySem.W.Frag)(C C':String)(cv:V):Prop:=
 ∃c,PySem.W.nsIn K mainGlobals (Str.ofString C)=some (some (.ref c))∧jo K c=true∧PySem.W.mroIn K c (valOf cv)=some (dh C C')∧(dh C C'=false→(Value.ref c==valOf cv)=false)
theorem CV.ok{K:PySem.W.Frag}{mg:Str→Option Value}{C':String}{cv:V}(h:CV K mg C' cv):gY K (valOf cv)=true:=by
 rcases h with ⟨a,rfl,_,h⟩ |⟨_,rfl,_⟩
 ·have kc:=yN h
  show ((PySem.W.clsIn K a).isSome&&PySem.W.typeIn K (.ref a)==some (.type "type"))=true
  rw[kc.c,kc.t];rfl
 ·rfl
structure Bs where
 H:Hp
 F:FZ
structure Stat(Φ:aa)(CX:CXT)(k:Nat)(c:CT)(E:EK)(B:Bs)(X:Cx):Prop where
 N:X.N=c.N
 nd:X.N.Nodup
 calm:X.calm=true
 own:PassesOwn (model X.prog X.w) X.A X.env X.xe
 kd:X.env.kindOf=fun x=>X.env.scope.names.lookup x
 vis:∀x,gw (c.kd.lookup x)=true→Vis X.env.scope x
 cel:∀x,(c.kd.lookup x=some .cell∨c.kd.lookup x=some .free)→(X.env.kindOf x=some .cell∨X.env.kindOf x=some .free)
 glo:∀x,c.kd.lookup x=some .globalImplicit→Gl X x
 sto:∀x,c.sto x=true→Loc X.env.scope x∧(X.fn x=true∨X.env.scope.names.lookup x=some .local)
 room:Room k X.A
 call:∀f n,(f,n)∈c.fs→∃fa fd ps,FnOk X.prog X.w X.K X.mg X.base CX k fa fd ps (lift X.K n (Φ f))∧PySem.W.keepIn X.K (.ref fa)=true∧Binds X.K fd ps []∧X.mg (Str.ofString f)=some (.ref fa)
 blt:∀f,f∈c.bt→X.mg (Str.ofString f)=none
 con:∀x d,(x,d)∈c.cn→∃u v,X.mg (Str.ofString x)=some u∧RelV v u∧∀H F,Rep X.K H F d v
 exc:∃EX,gU CX X EX∧Throws X EX∧∀x G' H' F',E x G'→Ext B.H B.F H' F'→R X.K H' F' G'→XR X.K H' F' x EX
 nox:∀(Y:Cx),gU CX Y fun _ _ _=>False
 xcl:∀C,c.xs.contains (C,true)=true→∃a,X.mg (Str.ofString C)=some (.ref a)∧gb X.K a=true∧PySem.W.nsIn X.K mainGlobals (Str.ofString C)=some (some (.ref a))
 loc:∀x,c.kd.lookup x=some .local→X.env.scope.names.lookup x=some .local
 xis:∀C',c.xs.contains (C',false)=true→∃cv,CV X.K X.mg C' cv∧∀C,c.xs.contains (C,true)=true→XI X.K C C' cv
 trc:c.xs≠[]→CX=CX1 X.prog X.w∧X.stack=X.env::X.outer∧X.ex=[]
def tE(K:PySem.W.Frag)(B:Bs)(w:ak→DH→(D→DH→Prop)→Prop):TE:=fun σ H Q=>∃ρ F G,Ext B.H B.F H F∧EnvR K H F ρ σ∧R K H F G∧w ρ G (PV K H F Q)
def tB'(K:PySem.W.Frag)(B:Bs)(w:ak→DH→(Bool→DH→Prop)→Prop):TT:=fun σ H Q=>∃ρ F G,Ext B.H B.F H F∧EnvR K H F ρ σ∧R K H F G∧w ρ G (PB K H F Q)
def tL(K:PySem.W.Frag)(B:Bs)(w:ak→DH→(List D→DH→Prop)→Prop):TA:=fun σ H Q=>∃ρ F G,Ext B.H B.F H F∧EnvR K H F ρ σ∧R K H F G∧w ρ G (PLs K H F Q)
def POp(K:PySem.W.Frag)(H:Hp)(F:FZ)(Q:Option Int→Hp→Prop):Option Int→DH→Prop:=fun b G'=>∀H' F',Ext H F H' F'→R K H' F' G'→Q b H'
def Az(K:PySem.W.Frag)(B:Bs)(w:ak→DH→(Option Int→DH→Prop)→Prop):TO:=fun σ H Q=>∃ρ F G,Ext B.H B.F H F∧EnvR K H F ρ σ∧R K H F G∧w ρ G (POp K H F Q)
theorem peI{X:Cx}{e:Expr}{t t':TE}(h:PE X e t)(i:∀σ H Q,t' σ H Q→t σ H Q):PE X e t':=fun pins s σ H Q I q=>h pins s σ H Q I (i σ H Q q)
theorem ptI{X:Cx}{e:Expr}{t t':TT}(h:PT X e t)(i:∀σ H Q,t' σ H Q→t σ H Q):PT X e t':=fun pins s σ H Q I q=>h pins s σ H Q I (i σ H Q q)
theorem pwI{X:Cx}{e:Expr}{t t':TT}(h:PW X e t)(i:∀σ H Q,t' σ H Q→t σ H Q):PW X e t':=fun wh pins s σ H Q I q=>h wh pins s σ H Q I (i σ H Q q)
theorem paI{X:Cx}{e:List Expr}{t t':TA}(h:PA X e t)(i:∀σ H Q,t' σ H Q→t σ H Q):PA X e t':=fun pos pins s σ H Q I q=>h pos pins s σ H Q I (i σ H Q q)
section
variable {Φ:aa} {CX:CXT} {k:Nat} {c:CT} {E:EK} {B:Bs} {X:Cx}
theorem aL{K:PySem.W.Frag}{x:Ex}{σ:L2.St}{H:Hp}{F:FZ}{G:DH}{ρ:ak}{W:D→DH→Prop}{Q:VK}(e0:Ext B.H B.F H F)(he:EnvR K H F ρ σ)(r:R K H F G)(hw:wpE Φ x E ρ G W)
  (h:∀d G1 H1 F1 v,W d G1→Ext B.H B.F H1 F1→Ext H F H1 F1→EnvR K H1 F1 ρ σ→R K H1 F1 G1→Rep K H1 F1 d v→Q v H1):tE K B (wpE Φ x E) σ H Q:=
 ⟨ρ,F,G,e0,he,r,aD x (fun d G1 q H1 F1 v x1 r1 rv=>h d G1 H1 F1 v q (e0.trans x1) x1 (he.ext x1) r1 rv) hw⟩
theorem b7{K:PySem.W.Frag}{x:Exs}{σ:L2.St}{H:Hp}{F:FZ}{G:DH}{ρ:ak}{W:List D→DH→Prop}{Q:List V→Hp→Prop}(e0:Ext B.H B.F H F)(he:EnvR K H F ρ σ)(r:R K H F G)(hw:aN Φ x E ρ G W)
  (h:∀d G1 H1 F1 v,W d G1→Ext B.H B.F H1 F1→Ext H F H1 F1→EnvR K H1 F1 ρ σ→R K H1 F1 G1→Reps K H1 F1 d v→Q v H1):tL K B (aN Φ x E) σ H Q:=
 ⟨ρ,F,G,e0,he,r,cQ x (fun d G1 q H1 F1 v x1 r1 rv=>h d G1 H1 F1 v q (e0.trans x1) x1 (he.ext x1) r1 rv) hw⟩
theorem iK{K:PySem.W.Frag}{x:Tx}{σ:L2.St}{H:Hp}{F:FZ}{G:DH}{ρ:ak}{W:Bool→DH→Prop}{Q:Bool→Hp→Prop}(e0:Ext B.H B.F H F)(he:EnvR K H F ρ σ)(r:R K H F G)(hw:wpT Φ x E ρ G W)
  (h:∀d G1 H1 F1,W d G1→Ext B.H B.F H1 F1→Ext H F H1 F1→EnvR K H1 F1 ρ σ→R K H1 F1 G1→Q d H1):tB' K B (wpT Φ x E) σ H Q:=
 ⟨ρ,F,G,e0,he,r,cH x (fun d G1 q H1 F1 x1 r1=>h d G1 H1 F1 q (e0.trans x1) x1 (he.ext x1) r1) hw⟩
theorem Ba{K:PySem.W.Frag}{x:Ox}{σ:L2.St}{H:Hp}{F:FZ}{G:DH}{ρ:ak}{W:Option Int→DH→Prop}{Q:Option Int→Hp→Prop}(e0:Ext B.H B.F H F)(he:EnvR K H F ρ σ)(r:R K H F G)(hw:wpO Φ x E ρ G W)
  (h:∀d G1 H1 F1,W d G1→Ext B.H B.F H1 F1→Ext H F H1 F1→EnvR K H1 F1 ρ σ→R K H1 F1 G1→Q d H1):Az K B (wpO Φ x E) σ H Q:=
 ⟨ρ,F,G,e0,he,r,ul x (fun d G1 q H1 F1 x1 r1=>h d G1 H1 F1 q (e0.trans x1) x1 (he.ext x1) r1) hw⟩
theorem PV.later{K:PySem.W.Frag}{H H1:Hp}{F F1:FZ}{Q:VK}{d:D}{G:DH}(h:PV K H F Q d G)(x:Ext H F H1 F1):PV K H1 F1 Q d G:=fun H' F' v x1=>h H' F' v (x.trans x1)
theorem PB.later{K:PySem.W.Frag}{H H1:Hp}{F F1:FZ}{Q:Bool→Hp→Prop}{d:Bool}{G:DH}(h:PB K H F Q d G)(x:Ext H F H1 F1):PB K H1 F1 Q d G:=fun H' F' x1=>h H' F' (x.trans x1)
theorem PB.now{K:PySem.W.Frag}{H:Hp}{F:FZ}{Q:Bool→Hp→Prop}{d:Bool}{G:DH}(h:PB K H F Q d G)(r:R K H F G):Q d H:=h H F (Ext.refl H F) r
theorem iM(S:Stat Φ CX k c E B X):X.A.units+100 < cLine:=by have:=S.room.un;omega
theorem bx {x:Str} (h:okN x=true):(x==("__debug__":Str))=false:=by
 unfold okN at h
 cases e:x==("__debug__":Str) with
 |false=>rfl
 |true=>rw[e]at h;simp at h
theorem Bb {x:Str} (h:okN x=true):(x==("__classdict__":Str))=false:=by
 unfold okN at h
 cases e:x==("__classdict__":Str) with
 |false=>rfl
 |true=>rw[e]at h;simp at h
theorem cT {x:Str} (h:okN x=true):x≠"__name__":=by
 unfold okN at h
 intro e
 rw[beq_iff_eq.mpr e]at h
 simp at h
theorem cz{x:Str}(h:c.glo x=true):c.kd.lookup x=some .globalImplicit∧okN x=true:=by
 unfold CT.glo at h
 rw[Bool.and_eq_true,beq_iff_eq]at h
 exact h
theorem V6(S:Stat Φ CX k c E B X){i:Nat}{e:Expr}(h:aj c (.var i) e=true):PE X e (tE X.K B (wpE Φ (.var i) E)):=by
 replace h:=zZ h
 obtain ⟨x,pos,rfl,h⟩:=h
 ·rw[Bool.and_eq_true,Bool.and_eq_true,beq_iff_eq]at h
  refine peI (wO (i:=i) (by rw[S.N];exact h.1.1) (S.vis x h.1.2) (bx h.2) (Bb h.2)) fun σ H Q q=>?_
  obtain ⟨ρ,F,G,_,he,r,hw⟩:=q
  rw[oE]at hw
  split at hw
  ·rename_i d hd
   obtain ⟨v,e1,rv⟩:=he.get hd
   exact ⟨v,e1,hw.now r rv⟩
  ·exact hw.elim
theorem V7(S:Stat Φ CX k c E B X){d:D}{e:Expr}(h:aj c (.cst d) e=true):PE X e (tE X.K B (wpE Φ (.cst d) E)):=by
 replace h:=z6 h
 obtain ⟨kk,_,_,rfl,h⟩:=h
 ·unfold qe at h
  split at h
  ·exact peI NQ fun σ H Q hq=>el hq fun ρ F G _ he r hw=>by rw[gm]at hw;exact hw.now r rfl
  ·rw[beq_iff_eq]at h
   subst h
   exact peI wQ fun σ H Q hq=>el hq fun ρ F G _ he r hw=>by rw[gm]at hw;exact hw.now r rfl
  ·rw[beq_iff_eq]at h
   subst h
   exact peI NK fun σ H Q hq=>el hq fun ρ F G _ he r hw=>by rw[gm]at hw;exact hw.now r rfl
  ·rename_i l b
   rw[Bool.and_eq_true,beq_iff_eq,decide_eq_true_iff]at h
   refine peI wR fun σ H Q hq=>el hq fun ρ F G _ he r hw=>?_
   rw[gm]at hw
   refine hw.now r ⟨?_,h.2⟩
   rw[h.1,←yl]
  ·cases h
theorem V8(S:Stat Φ CX k c E B X){x:String}{d:D}{e:Expr}(h:aj c (.glb x d) e=true):PE X e (tE X.K B (wpE Φ (.glb x d) E)):=by
 replace h:=z7 h
 obtain ⟨y,pos,rfl,h⟩:=h
 ·rw[Bool.and_eq_true,Bool.and_eq_true,beq_iff_eq,List.any_eq_true]at h
  obtain ⟨⟨e1,h1⟩,⟨x',d'⟩,hm,h2⟩:=h
  rw[Bool.and_eq_true,beq_iff_eq]at h2
  obtain ⟨e2,e3⟩:=h2
  have e3:=Vs e3
  simp only at e2 e3
  subst e1 e2 e3
  obtain ⟨g1,g2⟩:=cz h1
  obtain ⟨u,v,hu,ru,hr⟩:=S.con _ _ hm
  exact peI (wU (S.glo _ g1) hu ru (bx g2)) fun σ H Q hq=>el hq fun ρ F G _ he r hw=>by rw[oF]at hw;exact hw.now r (hr H F)
theorem V9(S:Stat Φ CX k c E B X){op:Operator}{fz:Bool}{a b:Ex}(iha:∀{e},aj c a e=true→PE X e (tE X.K B (wpE Φ a E)))(ihb:∀{e},aj c b e=true→PE X e (tE X.K B (wpE Φ b E))){e:Expr}
  (h:aj c (.bin op fz a b) e=true):PE X e (tE X.K B (wpE Φ (.bin op fz a b) E)):=by
 replace h:=z8 h
 obtain ⟨l,o,r,pos,rfl,h⟩:=h
 ·rw[Bool.and_eq_true,Bool.and_eq_true,beq_iff_eq]at h
  obtain ⟨⟨e1,h1⟩,h2⟩:=h
  subst e1
  refine peI (PL (Ue _ fz) (iha h1) (ihb h2)) fun σ H Q hq=>el hq fun ρ F G e0 he r hw=>?_
  rw[oG]at hw
  refine aL e0 he r hw fun x G1 H1 F1 v q e1 x1 he1 r1 rv=>aL e1 he1 r1 q fun y G2 H2 F2 u q e2 x2 he2 r2 ru=>?_
  exact ⟨F2,G2,x,y,r2,Rep.ext x2 rv,ru,yX (fun d G' z=>PV.later z (x1.trans x2)) q⟩
theorem Wa(S:Stat Φ CX k c E B X){a:Ex}(iha:∀{e},aj c a e=true→PE X e (tE X.K B (wpE Φ a E))){e:Expr}(h:aj c (.neg a) e=true):PE X e (tE X.K B (wpE Φ (.neg a) E)):=by
 replace h:=z9 h
 obtain ⟨_,_,rfl,h⟩:=h
 ·refine peI (PN Qd (iha h)) fun σ H Q hq=>el hq fun ρ F G e0 he r hw=>?_
  rw[oH]at hw
  refine aL e0 he r hw fun x G1 H1 F1 v q e1 x1 he1 r1 rv=>?_
  split at q
  ·have e2:v=.int _:=rv
   subst e2
   exact ⟨_,rfl,q _ _ _ x1 r1 rfl⟩
  ·exact q.elim
theorem Bc(S:Stat Φ CX k c E B X){op:CmpOp}{a b:Ex}(iha:∀{e},aj c a e=true→PE X e (tE X.K B (wpE Φ a E)))(ihb:∀{e},aj c b e=true→PE X e (tE X.K B (wpE Φ b E))){e:Expr}
  (h:aj c (.cmp op a b) e=true):PE X e (tE X.K B (wpE Φ (.cmp op a b) E))∧PT X e (tB' X.K B (wpT Φ (.val (.cmp op a b)) E)):=by
 replace h:=Ab h
 obtain ⟨l,o,r,pos,rfl,h⟩:=h
 ·rw[Bool.and_eq_true,Bool.and_eq_true,beq_iff_eq]at h
  obtain ⟨⟨e1,h1⟩,h2⟩:=h
  subst e1
  have hm:=Ay (bG b h2) o
  refine ⟨peI (Qg (iD _ (iM S)) (iha h1) (ihb h2) hm) fun σ H Q hq=>el hq fun ρ F G e0 he r hw=>?_,ptI (Qh (iD _ (iM S)) (iha h1) (ihb h2) hm) fun σ H Q hq=>el hq fun ρ F G e0 he r hw=>?_⟩
  ·rw[oJ]at hw
   refine aL e0 he r hw fun x G1 H1 F1 v q e1 x1 he1 r1 rv=>aL e1 he1 r1 q fun y G2 H2 F2 u q e2 x2 he2 r2 ru=>?_
   exact ⟨F2,G2,x,y,r2,Rep.ext x2 rv,ru,gn (fun d z=>PV.later z (x1.trans x2)) q⟩
  ·rw[wpT,wpE]at hw
   refine aL e0 he r hw fun x G1 H1 F1 v q e1 x1 he1 r1 rv=>aL e1 he1 r1 q fun y G2 H2 F2 u q e2 x2 he2 r2 ru=>?_
   refine ⟨F2,G2,x,y,r2,Rep.ext x2 rv,ru,gn (fun d z=>?_) q⟩
   intro H' F' v' x' r' rv'
   have e3:v'=.bl d:=rv'
   exact ⟨d,e3,z H' F' ((x1.trans x2).trans x') r'⟩
theorem Bd(S:Stat Φ CX k c E B X){op op':CmpOp}{a b d:Ex}(iha:∀{e},aj c a e=true→PE X e (tE X.K B (wpE Φ a E)))(ihb:∀{e},aj c b e=true→PE X e (tE X.K B (wpE Φ b E)))(ihd:∀{e},aj c d e=true→PE X e (tE X.K B (wpE Φ d E))){e:Expr}
  (h:aj c (.chn op op' a b d) e=true):PE X e (tE X.K B (wpE Φ (.chn op op' a b d) E))∧PT X e (tB' X.K B (wpT Φ (.val (.chn op op' a b d)) E)):=by
 replace h:=Ac h
 obtain ⟨l,o,o',m,r,pos,rfl,h⟩:=h
 ·simp only[Bool.and_eq_true,beq_iff_eq]at h
  obtain ⟨⟨⟨⟨e1,e2⟩,h1⟩,h2⟩,h3⟩:=h
  subst e1 e2
  have hm:lastMarks [o,o'] [m,r]=false:=Ay (bG d h3) o'
  have go:∀{σ H Q ρ F G}{W:Bool→DH→Prop},Ext B.H B.F H F→EnvR X.K H F ρ σ→R X.K H F G→
    wpE Φ a E ρ G (fun x G1=>wpE Φ b E ρ G1 fun y G2=>aR o (view G2 x) (view G2 y) fun t=>match t with |true=>wpE Φ d E ρ G2 fun z G3=>aR o' (view G3 y) (view G3 z) fun t'=>W t' G3 |false=>W false G2)→
    (∀t G' H' F',W t G'→Ext H F H' F'→R X.K H' F' G'→Q (.bl t) H')→
    rQ (rC2 X.K (aR o)) (rC2 X.K (aR o')) (tE X.K B (wpE Φ a E)) (tE X.K B (wpE Φ b E)) (tE X.K B (wpE Φ d E)) σ H Q:=by
   intro σ H Q ρ F G W e0 he r hw fin
   refine aL e0 he r hw fun x G1 H1 F1 v q e1 x1 he1 r1 rv=>aL e1 he1 r1 q fun y G2 H2 F2 u q e2 x2 he2 r2 ru=>?_
   refine ⟨F2,G2,x,y,r2,Rep.ext x2 rv,ru,gn (fun t q=>?_) q⟩
   intro H3 F3 v3 x3 r3 rv3
   have e3:v3=.bl t:=rv3
   refine ⟨t,e3,?_⟩
   cases t with
   |true=>
    rw[if_pos rfl]
    refine aL (e2.trans x3) (he2.ext x3) r3 q fun z G4 H4 F4 v4 q e4 x4 he4 r4 rv4=>?_
    refine ⟨F4,G4,y,z,r4,Rep.ext (x3.trans x4) ru,rv4,gn (fun t' q=>?_) q⟩
    intro H5 F5 v5 x5 r5 rv5
    have e5:v5=.bl t':=rv5
    subst e5
    exact fin _ _ _ _ q ((((x1.trans x2).trans x3).trans x4).trans x5) r5
   |false=>
    rw[if_neg Bool.false_ne_true]
    exact fin _ _ _ _ q ((x1.trans x2).trans x3) r3
  refine ⟨peI (Qi (iD _ (iM S)) (iD _ (iM S)) (iha h1) (ihb h2) (ihd h3) hm) fun σ H Q hq=>el hq fun ρ F G e0 he r hw=>?_,ptI (Qj (iD _ (iM S)) (iD _ (iM S)) (iha h1) (ihb h2) (ihd h3) hm) fun σ H Q hq=>el hq fun ρ F G e0 he r hw=>?_⟩
  ·rw[oK]at hw
   exact go (W:=fun t G'=>PV X.K H F Q (.bl t) G') e0 he r hw fun t G' H' F' z x' r'=>z H' F' _ x' r' rfl
  ·rw[wpT,wpE]at hw
   refine go (W:=fun t G'=>PB X.K H F Q t G') e0 he r hw fun t G' H' F' z x' r'=>⟨t,rfl,z H' F' x' r'⟩
end
end RF
namespace RF
open PySem PySem.Spec PyProof.Rows L2
section
variable {Φ:aa} {CX:CXT} {k:Nat} {c:CT} {E:EK} {B:Bs} {X:Cx}
abbrev OkE(Φ:aa)(c:CT)(E:EK)(B:Bs)(X:Cx)(x:Ex):Prop:=∀{e:Expr},aj c x e=true→PE X e (tE X.K B (wpE Φ x E))
abbrev fH(Φ:aa)(c:CT)(E:EK)(B:Bs)(X:Cx)(x:Exs):Prop:=∀{es:List Expr},aF c x es=true→PA X es (tL X.K B (aN Φ x E))
abbrev OkT(Φ:aa)(c:CT)(E:EK)(B:Bs)(X:Cx)(x:Tx):Prop:=∀{e:Expr},bw c x e=true→PT X e (tB' X.K B (wpT Φ x E))
theorem Wb(S:Stat Φ CX k c E B X){a:Ex}(iha:OkE Φ c E B X a){e:Expr}(h:aj c (.not a) e=true):PE X e (tE X.K B (wpE Φ (.not a) E)):=by
 replace h:=Aa h
 obtain ⟨_,_,rfl,h⟩:=h
 ·intro pins s σ H Q I q
  obtain ⟨ρ,F,G,e0,he,r,hw⟩:=q
  rw[oM]at hw
  have q':tE X.K B (wpE Φ a E) σ H (fun x H1=>∃b,mY X.K x H1 b∧Q (.bl (!b)) H1):=aL e0 he r hw fun x G1 H1 F1 v q e1 x1 he1 r1 rv=>by
   split at q
   ·rename_i b hb
    exact ⟨b,zA r1 rv hb,q _ _ _ x1 r1 rfl⟩
   ·exact q.elim
  refine UnaryOp_ (thn (iha h pins s σ H _ I q') fun v s1 ⟨x,H1,I1,r1,b,tb,q1⟩=>?_)
  refine not_of (thn (xm pins s1 σ H1 x v (fun b' H'=>Q (.bl (!b')) H') I1 r1 ⟨b,tb,q1⟩) fun b' s2 ⟨H2,I2,q2⟩=>?_)
  exact ⟨.bl (!b'),H2,I2,rfl,q2⟩
theorem uI{es:List Expr}(h:aF c .nil es=true):PA X es (tL X.K B (aN Φ .nil E)):=by
 unfold aF at h
 cases es with
 |nil=>exact paI gR fun σ H Q hq=>el hq fun ρ F G e0 he r hw=>by rw[gk]at hw;exact hw H F [] (Ext.refl _ _) r rfl
 |cons _ _=>cases h
theorem qx{x:Ex}{xs:Exs}(ih:OkE Φ c E B X x)(ihs:fH Φ c E B X xs){es:List Expr}(h:aF c (.cons x xs) es=true):PA X es (tL X.K B (aN Φ (.cons x xs) E)):=by
 unfold aF at h
 split at h
 ·rename_i e es
  rw[Bool.and_eq_true]at h
  refine paI (eU (ih h.1) (ihs h.2) (bN e es X.env (cu (bG x h.1)))) fun σ H Q hq=>el hq fun ρ F G e0 he r hw=>?_
  rw[fj]at hw
  refine aL e0 he r hw fun d G1 H1 F1 v q e1 x1 he1 r1 rv=>b7 e1 he1 r1 q fun ds G2 H2 F2 vs q e2 x2 he2 r2 rvs=>?_
  exact q H2 F2 _ (x1.trans x2) r2 ⟨v,vs,rfl,Rep.ext x2 rv,rvs⟩
 ·cases h
theorem Wc(S:Stat Φ CX k c E B X){es:Exs}(ih:fH Φ c E B X es){e:Expr}(h:aj c (.tup es) e=true):PE X e (tE X.K B (wpE Φ (.tup es) E)):=by
 replace h:=Ae h
 obtain ⟨_,_,_,rfl,h⟩:=h
 ·refine peI (Qv (ih h)) fun σ H Q hq=>el hq fun ρ F G e0 he r hw=>?_
  rw[oO]at hw
  refine b7 e0 he r hw fun ds G1 H1 F1 vs q e1 x1 he1 r1 rvs=>⟨by rw[←rvs.length];exact cI q.1,jz (PV.later q.2 x1) r1 rvs⟩
theorem Wd(S:Stat Φ CX k c E B X){fz:Bool}{es:Exs}(ih:fH Φ c E B X es){e:Expr}(h:aj c (.lst fz es) e=true):PE X e (tE X.K B (wpE Φ (.lst fz es) E)):=by
 replace h:=Af h
 obtain ⟨_,_,rfl,h⟩:=h
 ·refine peI (Qw (ih h)) fun σ H Q hq=>el hq fun ρ F G e0 he r hw=>?_
  rw[oR]at hw
  refine b7 e0 he r hw fun ds G1 H1 F1 vs q e1 x1 he1 r1 rvs=>⟨by rw[←rvs.length];exact cI q.1,dD (dj (fun d G' z=>PV.later z x1) q.2) r1 rvs⟩
theorem We(S:Stat Φ CX k c E B X){a i:Ex}(iha:OkE Φ c E B X a)(ihi:OkE Φ c E B X i){e:Expr}(h:aj c (.idx a i) e=true):PE X e (tE X.K B (wpE Φ (.idx a i) E)):=by
 replace h:=Ag h
 obtain ⟨_,_,_,rfl,h⟩:=h
 ·rw[Bool.and_eq_true]at h
  refine peI (QW Um (iha h.1) (ihi h.2) (V4 (bG i h.2))) fun σ H Q hq=>el hq fun ρ F G e0 he r hw=>?_
  rw[oU]at hw
  refine aL e0 he r hw fun x G1 H1 F1 v q e1 x1 he1 r1 rv=>aL e1 he1 r1 q fun y G2 H2 F2 u q e2 x2 he2 r2 ru=>?_
  exact ⟨F2,G2,x,y,r2,Rep.ext x2 rv,ru,ue (fun d z=>PV.later z (x1.trans x2)) q⟩
theorem Be{lo:Ox}(ih:∀x,lo=.ob x→OkE Φ c E B X x){l:Option Expr}(h:eE c lo l=true):PO X l (Az X.K B (wpO Φ lo E)):=by
 cases lo with
 |no=>
  unfold eE at h
  cases l with
  |none=>
   intro pins s σ H Q I q
   refine rR pins s σ H Q I ?_
   obtain ⟨ρ,F,G,e0,he,r,hw⟩:=q
   rw[nY]at hw
   exact hw H F (Ext.refl _ _) r
  |some _=>cases h
 |ob x=>
  unfold eE at h
  split at h
  ·intro pins s σ H Q I q
   refine QM (ih x rfl h) pins s σ H Q I ?_
   obtain ⟨ρ,F,G,e0,he,r,hw⟩:=q
   rw[nZ]at hw
   refine aL e0 he r hw fun d G1 H1 F1 v q e1 x1 he1 r1 rv=>?_
   split at q
   ·have e2:v=.int _:=rv
    exact ⟨_,e2,q H1 F1 x1 r1⟩
   ·exact q.elim
  ·cases h
theorem Wf(S:Stat Φ CX k c E B X){fz:Bool}{a:Ex}{lo hi:Ox}(iha:OkE Φ c E B X a)(ihl:∀x,lo=.ob x→OkE Φ c E B X x)(ihh:∀x,hi=.ob x→OkE Φ c E B X x){e:Expr}(h:aj c (.slc fz a lo hi) e=true):
  PE X e (tE X.K B (wpE Φ (.slc fz a lo hi) E)):=by
 replace h:=Ah h
 obtain ⟨_,_,_,_,_,rfl,h⟩:=h
 ·rw[Bool.and_eq_true,Bool.and_eq_true]at h
  refine peI (QQ (Ut fz) (iha h.1.1) (Be ihl h.1.2) (Be ihh h.2)) fun σ H Q hq=>el hq fun ρ F G e0 he r hw=>?_
  rw[oW]at hw
  refine aL e0 he r hw fun x G1 H1 F1 v q e1 x1 he1 r1 rv=>Ba e1 he1 r1 q fun l G2 H2 F2 q e2 x2 he2 r2=>Ba e2 he2 r2 q fun u G3 H3 F3 q e3 x3 he3 r3=>?_
  exact ⟨F3,G3,x,r3,Rep.ext (x2.trans x3) rv,za (fun d G' z=>PV.later z ((x1.trans x2).trans x3)) q⟩
theorem Wg(S:Stat Φ CX k c E B X){fz:Bool}{a s:Ex}(iha:OkE Φ c E B X a)(ihs:OkE Φ c E B X s){e:Expr}(h:aj c (.rvs fz a s) e=true):PE X e (tE X.K B (wpE Φ (.rvs fz a s) E)):=by
 replace h:=Ai h
 obtain ⟨_,_,_,_,rfl,h⟩:=h
 rw[Bool.and_eq_true]at h
 refine peI (RW (iha h.1) (ihs h.2)) fun σ H Q hq=>el hq fun ρ F G e0 he r hw=>?_
 rw[oV]at hw
 refine aL e0 he r hw fun x G1 H1 F1 v q e1 x1 he1 r1 rv=>aL e1 he1 r1 q fun y G2 H2 F2 u q e2 x2 he2 r2 ru=>?_
 have q:=zb (fun d G' z=>PV.later z (x1.trans x2)) q
 have rv2:=Rep.ext x2 rv
 generalize ea:view G2 x=va at q
 unfold gh at q
 split at q
 ·obtain ⟨p,vs,e,sq,t⟩:=Rep.list r2 rv2 ea
  have ey:=q.1
  subst ey
  exact ⟨ru,p,vs,e,sq,dD q.2 r2 t.reverse⟩
 ·exact q.elim
theorem Wh(S:Stat Φ CX k c E B X){a:Ex}(iha:OkE Φ c E B X a){e:Expr}(h:aj c (.frz a) e=true):PE X e (tE X.K B (wpE Φ (.frz a) E)):=by
 have h:aj c a e=true:=h
 refine peI (iha h) fun σ H Q hq=>el hq fun ρ F G e0 he r hw=>?_
 rw[pq]at hw
 refine aL e0 he r hw fun x G1 H1 F1 v q e1 x1 he1 r1 rv=>?_
 split at q
 ·rename_i p
  have e2:v=.ref p:=rv
  subst e2
  split at q
  ·rename_i ds hg
   exact q _ _ _ (x1.trans sW) (r1.frz hg) (T6 r1 hg)
  ·exact q.elim
 ·exact q _ _ _ x1 r1 rv
theorem iQ{es:List Expr}{xs:Exs}(h:aF c xs es=true)(env:Env)(pos:Pos):(backTo pos (starEach es env)).any (·.1)=false:=by
 induction es generalizing xs with
 |nil=>rfl
 |cons e es ih=>
  cases xs with
  |nil=>unfold aF at h;cases h
  |cons x xs=>
   unfold aF at h
   rw[Bool.and_eq_true]at h
   rw[bN e es env (cu (bG x h.1))]
   show (false||(backTo pos (starEach es env)).any (·.1))=false
   rw[ih h.2];rfl
theorem gC{e:Expr}{es:List Expr}{xs:Exs}(h:aF c xs (e::es)=true):∃x xs',xs=.cons x xs'∧aj c x e=true∧aF c xs' es=true:=by
 cases xs with
 |nil=>unfold aF at h;cases h
 |cons x xs'=>
  unfold aF at h
  rw[Bool.and_eq_true]at h
  exact ⟨x,xs',rfl,h.1,h.2⟩
theorem qy{ρ:ak}:∀(xs:Exs){es:List Expr}{G:DH}{Q:List D→DH→Prop},aF c xs es=true→aN Φ xs E ρ G Q→aN Φ xs E ρ G (fun ds G'=>ds.length=es.length∧Q ds G')
 |.nil,es,G,Q,h,q=>by
  unfold aF at h
  rw[gk]at q ⊢
  cases es with
  |nil=>exact ⟨rfl,q⟩
  |cons _ _=>cases h
 |.cons x xs,es,G,Q,h,q=>by
  unfold aF at h
  split at h
  ·rename_i e es
   rw[Bool.and_eq_true]at h
   rw[fj]at q ⊢
   refine aD x (fun d G1 q=>cQ xs (fun ds G2 z=>?_) (qy xs h.2 q)) q
   exact ⟨by simp[z.1],z.2⟩
  ·cases h
theorem Wi(S:Stat Φ CX k c E B X){f:String}{xs:Exs}(ih:fH Φ c E B X xs){e:Expr}(h:aj c (.call f xs) e=true):PE X e (tE X.K B (wpE Φ (.call f xs) E)):=by
 replace h:=Aj h
 obtain ⟨x,p,args,pos,rfl,h⟩:=h
 ·simp only[Bool.and_eq_true,beq_iff_eq,List.any_eq_true]at h
  obtain ⟨⟨⟨⟨e1,h1⟩,⟨f',n⟩,hm,e2,e3⟩,h2⟩,h3⟩:=h
  simp only at e2 e3
  subst e1 e2 e3
  obtain ⟨g1,g2⟩:=cz h1
  obtain ⟨fa,fd,ps,F0,hk,hb,hmg⟩:=S.call _ _ hm
  obtain ⟨EX,hpass,_,hEX⟩:=S.exc
  cases args with
  |nil=>cases h2
  |cons e es=>
   obtain ⟨x0,xs',rfl,c1,c2⟩:=gC h3
   refine peI (Qz F0 S.room (S.glo _ g1) hmg hk hb .nil hpass (ih h3) (bx g2) (bN e es X.env (cu (bG x0 c1))) (iQ c2 X.env pos)) fun σ H Q hq=>el hq fun ρ F G e0 he r hw=>?_
   rw[oX]at hw
   refine b7 e0 he r (qy _ h3 hw) fun ds G1 H1 F1 vs q e1 x1 he1 r1 rvs=>?_
   rw[List.append_nil]
   refine ⟨by rw[←rvs.length];exact q.1,F1,G1,ds,r1,rvs,Spec.mono q.2 (fun d G' z=>PV.later z x1) fun x G' z H' F' x' r'=>?_⟩
   exact hEX x G' H' F' z (e1.trans x') r'
theorem Wj(S:Stat Φ CX k c E B X){f:Bf}{xs:Exs}(ih:fH Φ c E B X xs){e:Expr}(h:aj c (.bcl f xs) e=true):PE X e (tE X.K B (wpE Φ (.bcl f xs) E)):=by
 replace h:=Ak h
 obtain ⟨x,p,args,pos,rfl,h⟩:=h
 ·simp only[Bool.and_eq_true,beq_iff_eq]at h
  obtain ⟨⟨⟨⟨⟨e1,hok⟩,h1⟩,hm⟩,h2⟩,h3⟩:=h
  subst e1
  obtain ⟨g1,g2⟩:=cz h1
  have hmg:=S.blt _ (List.contains_iff_mem.mp hm)
  cases args with
  |nil=>cases h2
  |cons e es=>
   obtain ⟨x0,xs',rfl,c1,c2⟩:=gC h3
   have hs:=bN e es X.env (cu (bG x0 c1))
   have ha:=iQ c2 X.env pos
   have go:∀σ H Q,tE X.K B (wpE Φ (.bcl f (.cons x0 xs')) E) σ H Q→tCB (iG X.K f) (tL X.K B (aN Φ (.cons x0 xs') E)) σ H Q:=fun σ H Q hq=>el hq fun ρ F G e0 he r hw=>by
    rw[oY]at hw
    refine b7 e0 he r hw fun ds G1 H1 F1 vs q e1 x1 he1 r1 rvs=>?_
    exact ⟨F1,G1,ds,r1,rvs,zc (fun d z=>PV.later z x1) q⟩
   cases f with
   |len=>exact peI (mZ Uu (S.glo _ g1) hmg PySem.boot_len (ih h3) (cT g2) (bx g2) hs ha) go
   |all=>exact peI (mZ (Uv S.calm) (S.glo _ g1) hmg RC (ih h3) (cT g2) (bx g2) hs ha) go
   |int=>exact peI (m5 Uw (S.glo _ g1) hmg yo (ih h3) (cT g2) (bx g2) hs ha) go
   |tuple=>exact peI (m5 Ux (S.glo _ g1) hmg (by decide +kernel) (ih h3) (cT g2) (bx g2) hs ha) go
   |sum=>cases hok
   |min=>cases hok
   |max=>cases hok
   |str=>exact peI (m5 UJ (S.glo _ g1) hmg yp (ih h3) (cT g2) (bx g2) hs ha) go
theorem Wk(S:Stat Φ CX k c E B X){fz:Bool}{f:Lf}{xs:Exs}(ih:fH Φ c E B X xs){e:Expr}(h:aj c (.lcl fz f xs) e=true):PE X e (tE X.K B (wpE Φ (.lcl fz f xs) E)):=by
 replace h:=Al h
 obtain ⟨x,p,args,pos,rfl,h⟩:=h
 ·simp only[Bool.and_eq_true,beq_iff_eq]at h
  obtain ⟨⟨⟨⟨⟨e1,hok⟩,h1⟩,hm⟩,h2⟩,h3⟩:=h
  subst e1
  obtain ⟨g1,g2⟩:=cz h1
  have hmg:=S.blt _ (List.contains_iff_mem.mp hm)
  cases args with
  |nil=>cases h2
  |cons e es=>
   obtain ⟨x0,xs',rfl,c1,c2⟩:=gC h3
   have hs:=bN e es X.env (cu (bG x0 c1))
   have ha:=iQ c2 X.env pos
   have go:∀σ H Q,tE X.K B (wpE Φ (.lcl fz f (.cons x0 xs')) E) σ H Q→tCB (zB X.K fz f) (tL X.K B (aN Φ (.cons x0 xs') E)) σ H Q:=fun σ H Q hq=>el hq fun ρ F G e0 he r hw=>by
    rw[oZ]at hw
    refine b7 e0 he r hw fun ds G1 H1 F1 vs q e1 x1 he1 r1 rvs=>?_
    exact ⟨F1,G1,ds,r1,rvs,zf (fun d z=>dj (fun d G' z=>PV.later z x1) z) q⟩
   cases f with
   |list=>exact peI (m5 (UG S.calm fz) (S.glo _ g1) hmg yq (ih h3) (cT g2) (bx g2) hs ha) go
   |sorted=>cases hok
theorem Wl{t:String}(h:dY t=true):bootBuiltins (Str.ofString t)=some (.type t):=by
 simp only[dY,Bool.or_eq_true,beq_iff_eq]at h
 rcases h with (((rfl |rfl) |rfl) |rfl) |rfl
 ·exact Ry
 ·exact yo
 ·exact yp
 ·decide +kernel
 ·exact yq
theorem Wm(S:Stat Φ CX k c E B X){a:Ex}{t:String}(iha:OkE Φ c E B X a){e:Expr}(h:aj c (.isi a t) e=true):PE X e (tE X.K B (wpE Φ (.isi a t) E)):=by
 replace h:=Am h
 obtain ⟨x,p,v,y,p2,pos,rfl,h⟩:=h
 ·simp only[Bool.and_eq_true,beq_iff_eq]at h
  obtain ⟨⟨⟨⟨⟨⟨⟨e1,h1⟩,hm1⟩,h2⟩,e2⟩,h3⟩,hm2⟩,h4⟩:=h
  subst e1 e2
  obtain ⟨g1,g2⟩:=cz h1
  obtain ⟨g3,g4⟩:=cz h3
  have hmg:=S.blt _ (List.contains_iff_mem.mp hm1)
  have hmt:=S.blt _ (List.contains_iff_mem.mp hm2)
  have hty:PE X (.Name (Str.ofString t) p2) (tC (.ty t)):=yt (S.glo _ g3) hmt (Wl h4) (cT g4) (bx g4)
  have sv:=cu (bG a h2)
  refine peI (mZ Rx (S.glo _ g1) hmg yr (eU (iha h2) (eU hty gR (bN _ _ _ rfl)) (bN _ _ _ sv)) (cT g2) (bx g2) (bN _ _ _ sv) rfl) fun σ H Q hq=>el hq fun ρ F G e0 he r hw=>?_
  rw[o9]at hw
  refine aL e0 he r hw fun d G1 H1 F1 v q e1 x1 he1 r1 rv=>?_
  split at q
  ·rename_i b hb
   obtain ⟨T,hk,hT,hb'⟩:=UW hb
   refine ⟨v,t,.type T,b,rfl,UL r1 rv hk,?_,q _ _ _ x1 r1 rfl⟩
   rw[UV T t hT h4,hb' h4]
  ·exact q.elim
theorem Wn:bootBuiltins (Str.ofString "ValueError")=some (.type "ValueError"):=by decide +kernel
theorem Wo(S:Stat Φ CX k c E B X){a:Ex}{C:String}{xs:List String}(iha:OkE Φ c E B X a){e:Expr}(h:aj c (.isx a C xs) e=true):PE X e (tE X.K B (wpE Φ (.isx a C xs) E)):=by
 replace h:=An h
 obtain ⟨x,p,v,y,p2,pos,rfl,h⟩:=h
 simp only[Bool.and_eq_true,beq_iff_eq]at h
 obtain ⟨⟨⟨⟨⟨⟨⟨e1,h1⟩,hm1⟩,h2⟩,e2⟩,h3⟩,hC⟩,hxs⟩:=h
 subst e1 e2
 obtain ⟨g1,g2⟩:=cz h1
 obtain ⟨g3,g4⟩:=cz h3
 have hmg:=S.blt _ (List.contains_iff_mem.mp hm1)
 have sv:=cu (bG a h2)
 obtain ⟨cv,hcv,hall⟩:=S.xis C hC
 have hok:=hcv.ok
 have hty:PE X (.Name (Str.ofString C) p2) (tC cv):=by
  rcases hcv with ⟨a1,rfl,hm,_⟩ |⟨rfl,rfl,hm⟩
  ·exact wU (S.glo _ g3) hm rfl (bx g4)
  ·exact yt (S.glo _ g3) hm Wn (cT g4) (bx g4)
 refine peI (mZ SN (S.glo _ g1) hmg yr (eU (iha h2) (eU hty gR (bN _ _ _ rfl)) (bN _ _ _ sv)) (cT g2) (bx g2) (bN _ _ _ sv) rfl) fun σ H Q hq=>el hq fun ρ F G e0 he r hw=>?_
 rw[ph]at hw
 refine aL e0 he r hw fun d G1 H1 F1 v q e1 x1 he1 r1 rv=>?_
 split at q
 ·rename_i C1
  obtain ⟨c1,k1,k2,k4,k5⟩:=hall C1 (List.all_eq_true.mp hxs C1 (List.contains_iff_mem.mp q.1))
  obtain ⟨a',c',e2,xo,hn⟩:=rv
  rw[k1]at hn
  have ec:c1=c':=by simpa using hn
  subst ec
  subst e2
  exact ⟨a',c1,cv,_,rfl,xo,k2,hok,k4,k5,q.2 _ _ _ x1 r1 rfl⟩
 ·exact q.elim
theorem Wq{v:Expr}(h:(!qg v)=true)(name:Str)(env:Env):attributeBase v name env (eval v env)=eval v env:=by
 cases v with
 |Call f args kw pos=>
  cases f with
  |Name id p=>
   cases args with
   |nil=>
    cases kw with
    |nil=>cases h
    |cons _ _=>rfl
   |cons _ _=>rfl
  |_=>rfl
 |_=>rfl
theorem all_plain{es:List Expr}{xs:Exs}(h:aF c xs es=true)(env:Env)(pos:Pos):(backTo pos (starEach es env)).all (fun x=>!x.1)=true:=by
 induction es generalizing xs with
 |nil=>rfl
 |cons e es ih=>
  obtain ⟨x0,xs',rfl,c1,c2⟩:=gC h
  rw[bN e es env (cu (bG x0 c1))]
  show (!false&&(backTo pos (starEach es env)).all (fun x=>!x.1))=true
  rw[ih c2];rfl
theorem Wr(S:Stat Φ CX k c E B X){m:Mf}{o:Ex}{xs:Exs}(iho:OkE Φ c E B X o)(ih:fH Φ c E B X xs){e:Expr}(h:aj c (.mth m o xs) e=true):PE X e (tE X.K B (wpE Φ (.mth m o xs) E)):=by
 replace h:=Ao h
 obtain ⟨v,x,apos,args,cpos,rfl,h⟩:=h
 ·simp only[Bool.and_eq_true,beq_iff_eq,decide_eq_true_iff]at h
  obtain ⟨⟨⟨⟨⟨⟨e1,h1⟩,hb⟩,hl⟩,hn⟩,h2⟩,h3⟩:=h
  subst e1
  cases args with
  |nil=>cases h2
  |cons e es=>
   obtain ⟨x0,xs',rfl,c1,c2⟩:=gC h3
   have hs:=bN e es X.env (cu (bG x0 c1))
   have ha:=iQ c2 X.env cpos
   have hbase:=Wq hb (Str.ofString m.name) X.env
   have hfew:((backTo cpos (starEach (e::es) X.env)).all (fun x=>!x.1)&&(backToKw cpos (keywordEach [] X.env)).all (fun x=>x.1.isSome)
    &&decide ((e::es).length+([]:List Keyword).length+(if ([]:List Keyword).isEmpty then 0 else 1) < 30))=true:=by
    rw[all_plain h3 X.env cpos]
    have:(e::es).length+([]:List Keyword).length+(if ([]:List Keyword).isEmpty then 0 else 1) < 30:=by
     have e0:(if ([]:List Keyword).isEmpty=true then 0 else 1)=0:=rfl
     rw[e0];show (e::es).length+0+0 < 30;omega
    rw[decide_eq_true this];rfl
   have hline:(apos.endLine==cpos.line)=true:=by rw[beq_iff_eq];exact hl
   have lst:∀{d:D} {u:V} {G1:DH} {H1:Hp} {F1:FZ},(match d with |.ref p=>(match G1 p with |some (.lst _)=>True |none=>False) |_=>False)→R X.K H1 F1 G1→Rep X.K H1 F1 d u→tyV X.K "list" u H1:=fun {d u G1 H1 F1} q r1 ru=>by
    split at q
    ·rename_i p
     split at q
     ·rename_i ds hg
      obtain ⟨vs,hv,_⟩:=r1.lst hg
      have e2:u=.ref p:=ru
      subst e2
      exact .inl ⟨rfl,vs,SqL.of hv⟩
     ·exact q.elim
    ·exact q.elim
   have lstV:∀{d:D} {u:V} {G1:DH} {H1:Hp} {F1:FZ},tH (view G1 d)→R X.K H1 F1 G1→Rep X.K H1 F1 d u→tyV X.K "list" u H1:=fun {d u G1 H1 F1} q r1 ru=>by
    generalize hv:view G1 d=w at q
    cases w with
    |lst ds=>
     obtain ⟨a,vs,rfl,sq,_⟩:=Rep.list r1 ru hv
     exact .inl ⟨rfl,vs,sq⟩
    |_=>exact (show False from q).elim
   cases m with
   |join=>
    refine peI (gW PySem.F.plainAttrs_str PySem.F.slot_str_join PySem.F.type_str_join U0 (iho h1) (ih h3) hbase hfew hline hs ha) fun σ H Q hq=>el hq fun ρ F G e0 he r hw=>?_
    rw[d7]at hw
    refine aL e0 he r hw fun d G1 H1 F1 u q e1 x1 he1 r1 ru=>⟨?_,b7 e1 he1 r1 q.2 fun ds G2 H2 F2 vs q e2 x2 he2 r2 rvs=>?_⟩
    ·have q1:=q.1
     cases d with
     |str l=>obtain ⟨e2,_⟩:=ru;subst e2;exact rfl
     |_=>exact (show False from q1).elim
    ·exact ⟨F2,G2,d,ds,r2,Rep.ext x2 ru,rvs,gq (fun d G' z=>PV.later z (x1.trans x2)) q⟩
   |append=>
    refine peI (gW PySem.F.plainAttrs_list PySem.F.slot_list_append PySem.F.type_list_append U3 (iho h1) (ih h3) hbase hfew hline hs ha) fun σ H Q hq=>el hq fun ρ F G e0 he r hw=>?_
    rw[d7]at hw
    refine aL e0 he r hw fun d G1 H1 F1 u q e1 x1 he1 r1 ru=>⟨?_,b7 e1 he1 r1 q.2 fun ds G2 H2 F2 vs q e2 x2 he2 r2 rvs=>?_⟩
    ·refine lst (d:=d) (G1:=G1) ?_ r1 ru
     have q1:=q.1
     cases d <;> first |exact q1 |exact (show False from q1).elim
    ·exact ⟨F2,G2,d,ds,r2,Rep.ext x2 ru,rvs,gq (fun d G' z=>PV.later z (x1.trans x2)) q⟩
   |extend=>
    refine peI (gW PySem.F.plainAttrs_list PySem.F.slot_list_extend PySem.F.type_list_extend Vc (iho h1) (ih h3) hbase hfew hline hs ha) fun σ H Q hq=>el hq fun ρ F G e0 he r hw=>?_
    rw[d7]at hw
    refine aL e0 he r hw fun d G1 H1 F1 u q e1 x1 he1 r1 ru=>⟨?_,b7 e1 he1 r1 q.2 fun ds G2 H2 F2 vs q e2 x2 he2 r2 rvs=>?_⟩
    ·refine lst (d:=d) (G1:=G1) ?_ r1 ru
     have q1:=q.1
     cases d <;> first |exact q1 |exact (show False from q1).elim
    ·exact ⟨F2,G2,d,ds,r2,Rep.ext x2 ru,rvs,gq (fun d G' z=>PV.later z (x1.trans x2)) q⟩
   |insert=>
    refine peI (gW PySem.F.plainAttrs_list PySem.F.slot_list_insert PySem.F.type_list_insert Va (iho h1) (ih h3) hbase hfew hline hs ha) fun σ H Q hq=>el hq fun ρ F G e0 he r hw=>?_
    rw[d7]at hw
    refine aL e0 he r hw fun d G1 H1 F1 u q e1 x1 he1 r1 ru=>⟨?_,b7 e1 he1 r1 q.2 fun ds G2 H2 F2 vs q e2 x2 he2 r2 rvs=>?_⟩
    ·refine lst (d:=d) (G1:=G1) ?_ r1 ru
     have q1:=q.1
     cases d <;> first |exact q1 |exact (show False from q1).elim
    ·exact ⟨F2,G2,d,ds,r2,Rep.ext x2 ru,rvs,gq (fun d G' z=>PV.later z (x1.trans x2)) q⟩
   |count=>
    refine peI (gW PySem.F.plainAttrs_list PySem.F.slot_list_count PySem.F.type_list_count U4 (iho h1) (ih h3) hbase hfew hline hs ha) fun σ H Q hq=>el hq fun ρ F G e0 he r hw=>?_
    rw[d7]at hw
    refine aL e0 he r hw fun d G1 H1 F1 u q e1 x1 he1 r1 ru=>⟨lstV q.1 r1 ru,b7 e1 he1 r1 q.2 fun ds G2 H2 F2 vs q e2 x2 he2 r2 rvs=>?_⟩
    exact ⟨F2,G2,d,ds,r2,Rep.ext x2 ru,rvs,gq (fun d G' z=>PV.later z (x1.trans x2)) q⟩
   |index=>
    refine peI (gW PySem.F.plainAttrs_list PySem.F.slot_list_index PySem.F.type_list_index U5 (iho h1) (ih h3) hbase hfew hline hs ha) fun σ H Q hq=>el hq fun ρ F G e0 he r hw=>?_
    rw[d7]at hw
    refine aL e0 he r hw fun d G1 H1 F1 u q e1 x1 he1 r1 ru=>⟨lstV q.1 r1 ru,b7 e1 he1 r1 q.2 fun ds G2 H2 F2 vs q e2 x2 he2 r2 rvs=>?_⟩
    exact ⟨F2,G2,d,ds,r2,Rep.ext x2 ru,rvs,gq (fun d G' z=>PV.later z (x1.trans x2)) q⟩
end
end RF
namespace RF
open PySem PySem.Spec PyProof.Rows L2
section
variable {Φ:aa} {CX:CXT} {k:Nat} {c:CT} {E:EK} {B:Bs} {X:Cx}
def EachE(Φ:aa)(c:CT)(E:EK)(B:Bs)(X:Cx):Exs→Prop
 |.nil=>True
 |.cons e es=>OkE Φ c E B X e∧EachE Φ c E B X es
def qz(Φ:aa)(c:CT)(E:EK)(B:Bs)(X:Cx):Txs→Prop
 |.nil=>True
 |.cons e es=>OkT Φ c E B X e∧qz Φ c E B X es
theorem Ws(S:Stat Φ CX k c E B X){es:Exs}(ih:EachE Φ c E B X es){e:Expr}(h:aj c (.fst es) e=true):PE X e (tE X.K B (wpE Φ (.fst es) E)):=nomatch (show false=true from h)
theorem EachE.oks:∀{xs:Exs},EachE Φ c E B X xs→fH Φ c E B X xs
 |.nil,_=>by intro h;exact uI h
 |.cons x xs,hh=>by intro h;exact qx hh.1 (EachE.oks hh.2) h
def qC(Φ:aa)(E:EK)(isAnd:Bool)(x:Ex)(xs:Exs):ak→DH→(D→DH→Prop)→Prop:=fun ρ G kk=>wpE Φ x E ρ G fun d G1=>match d with |.bl b=>wpB Φ xs isAnd b E ρ G1 (fun c G2=>kk (.bl c) G2) |_=>False
theorem Bg{isAnd:Bool}{pos:Pos}:∀(xs:Exs){x:Ex},OkE Φ c E B X x→EachE Φ c E B X xs→∀{v:Expr}{vs:List Expr},aj c x v=true→aF c xs vs=true→
  PE X (.BoolOp (if isAnd then .And else .Or) (v::vs) pos) (tE X.K B (qC Φ E isAnd x xs))
 |.nil,x,ih,_,v,vs,h1,h2=>by
  unfold aF at h2
  cases vs with
  |nil=>
   refine peI (Oe (ih h1)) fun σ H Q hq=>el hq fun ρ F G e0 he r hw=>?_
   unfold qC at hw
   refine aL e0 he r hw fun d G1 H1 F1 u q e1 x1 he1 r1 ru=>?_
   split at q
   ·rw[nU]at q
    exact q _ _ _ x1 r1 ru
   ·exact q.elim
  |cons _ _=>cases h2
 |.cons y ys,x,ih,hh,v,vs,h1,h2=>by
  unfold aF at h2
  split at h2
  ·rename_i w ws
   rw[Bool.and_eq_true]at h2
   have rest:=Bg (isAnd:=isAnd) (pos:=pos) ys hh.1 hh.2 h2.1 h2.2
   cases isAnd with
   |true=>
    refine peI (Og (ih h1) rest) fun σ H Q hq=>el hq fun ρ F G e0 he r hw=>?_
    unfold qC at hw
    refine aL e0 he r hw fun d G1 H1 F1 u q e1 x1 he1 r1 ru=>?_
    split at q
    ·rename_i b
     refine ⟨b,ru,?_⟩
     rw[jt]at q
     cases b with
     |true=>
      rw[if_pos rfl]
      exact ⟨ρ,F1,G1,e1,he1,r1,aD y (fun d G' z=>by
       cases d <;> first |exact (show False from z).elim |exact pR ys (fun c G2 z=>PV.later z x1) z) q⟩
     |false=>
      rw[if_neg Bool.false_ne_true]
      exact q _ _ _ x1 r1 rfl
    ·exact q.elim
   |false=>
    refine peI (Oh (ih h1) rest) fun σ H Q hq=>el hq fun ρ F G e0 he r hw=>?_
    unfold qC at hw
    refine aL e0 he r hw fun d G1 H1 F1 u q e1 x1 he1 r1 ru=>?_
    split at q
    ·rename_i b
     refine ⟨b,ru,?_⟩
     rw[jt]at q
     cases b with
     |false=>
      rw[if_neg Bool.false_ne_true]
      exact ⟨ρ,F1,G1,e1,he1,r1,aD y (fun d G' z=>by
       cases d <;> first |exact (show False from z).elim |exact pR ys (fun c G2 z=>PV.later z x1) z) q⟩
     |true=>
      rw[if_pos rfl]
      exact q _ _ _ x1 r1 rfl
    ·exact q.elim
  ·cases h2
theorem Wt{isAnd:Bool}{x:Ex}{xs:Exs}(ih:OkE Φ c E B X x)(hh:EachE Φ c E B X xs){e:Expr}(h:aj c (.boo isAnd x xs) e=true):PE X e (tE X.K B (wpE Φ (.boo isAnd x xs) E)):=by
 replace h:=Ad h
 obtain ⟨_,_,_,_,rfl,h⟩:=h
 ·simp only[Bool.and_eq_true,beq_iff_eq]at h
  obtain ⟨⟨e1,h1⟩,h2⟩:=h
  subst e1
  refine peI (Bg xs ih hh h1 h2) fun σ H Q hq=>el hq fun ρ F G e0 he r hw=>⟨ρ,F,G,e0,he,r,?_⟩
  rw[oN]at hw
  exact hw
theorem Wu{t:Tx}{a b:Ex}(iht:OkT Φ c E B X t)(iha:OkE Φ c E B X a)(ihb:OkE Φ c E B X b){e:Expr}(h:aj c (.ife t a b) e=true):PE X e (tE X.K B (wpE Φ (.ife t a b) E)):=nomatch (show false=true from h)
theorem Wv{x:Ex}(ih:OkE Φ c E B X x){e:Expr}(hp:gA e=true)(h:aj c x e=true):PT X e (tB' X.K B (wpT Φ (.val x) E)):=by
 refine ptI (Ql (ih h) (V5 hp X.env)) fun σ H Q hq=>el hq fun ρ F G e0 he r hw=>?_
 rw[nT]at hw
 refine aL e0 he r hw fun d G1 H1 F1 u q e1 x1 he1 r1 ru=>?_
 split at q
 ·rename_i b hb
  exact ⟨b,zA r1 ru hb,q _ _ x1 r1⟩
 ·exact q.elim
theorem Ww{t:Tx}(ih:OkT Φ c E B X t){e:Expr}(h:bw c (.not t) e=true):PT X e (tB' X.K B (wpT Φ (.not t) E)):=by
 replace h:=Vy h
 obtain ⟨_,_,rfl,h⟩:=h
 ·refine ptI (Ob (ih h)) fun σ H Q hq=>el hq fun ρ F G e0 he r hw=>?_
  rw[nP]at hw
  exact iK e0 he r hw fun b G1 H1 F1 q e1 x1 he1 r1=>q _ _ x1 r1
def jK(Φ:aa)(E:EK)(isAnd:Bool)(x:Tx)(xs:Txs):ak→DH→(Bool→DH→Prop)→Prop:=fun ρ G kk=>wpT Φ x E ρ G fun b G1=>dZ Φ xs isAnd b E ρ G1 kk
theorem Bh{isAnd:Bool}{pos:Pos}:∀(xs:Txs){x:Tx},OkT Φ c E B X x→qz Φ c E B X xs→∀{v:Expr}{vs:List Expr},bw c x v=true→gB c xs vs=true→
  PW X (.BoolOp (if isAnd then .And else .Or) (v::vs) pos) (tB' X.K B (jK Φ E isAnd x xs))
 |.nil,x,ih,_,v,vs,h1,h2=>by
  unfold gB at h2
  cases vs with
  |nil=>
   have go:∀σ H Q,tB' X.K B (jK Φ E isAnd x .nil) σ H Q→tB' X.K B (wpT Φ x E) σ H Q:=fun σ H Q hq=>el hq fun ρ F G e0 he r hw=>by
    unfold jK at hw
    refine ⟨ρ,F,G,e0,he,r,cH x (fun b G1 q=>?_) hw⟩
    rw[nW]at q
    exact q
   cases isAnd with
   |true=>exact pwI (N6 (ih h1)) go
   |false=>exact pwI (N7 (ih h1)) go
  |cons _ _=>cases h2
 |.cons y ys,x,ih,hh,v,vs,h1,h2=>by
  unfold gB at h2
  split at h2
  ·rename_i w ws
   rw[Bool.and_eq_true]at h2
   have rest:=Bh (isAnd:=isAnd) (pos:=pos) ys hh.1 hh.2 h2.1 h2.2
   cases isAnd with
   |true=>
    refine pwI (N8 (ih h1) rest) fun σ H Q hq=>el hq fun ρ F G e0 he r hw=>?_
    unfold jK at hw
    refine iK e0 he r hw fun b G1 H1 F1 q e1 x1 he1 r1=>?_
    rw[ju]at q
    cases b with
    |true=>
     rw[if_pos rfl]
     exact ⟨ρ,F1,G1,e1,he1,r1,cH y (fun b' G' z=>pU ys (fun c G2 z=>PB.later z x1) z) q⟩
    |false=>
     rw[if_neg Bool.false_ne_true]
     exact q _ _ x1 r1
   |false=>
    refine pwI (Oa (ih h1) rest) fun σ H Q hq=>el hq fun ρ F G e0 he r hw=>?_
    unfold jK at hw
    refine iK e0 he r hw fun b G1 H1 F1 q e1 x1 he1 r1=>?_
    rw[ju]at q
    cases b with
    |false=>
     rw[if_neg Bool.false_ne_true]
     exact ⟨ρ,F1,G1,e1,he1,r1,cH y (fun b' G' z=>pU ys (fun c G2 z=>PB.later z x1) z) q⟩
    |true=>
     rw[if_pos rfl]
     exact q _ _ x1 r1
  ·cases h2
theorem Wx{isAnd:Bool}{x:Tx}{xs:Txs}(ih:OkT Φ c E B X x)(hh:qz Φ c E B X xs){e:Expr}(h:bw c (.boo isAnd x xs) e=true):PT X e (tB' X.K B (wpT Φ (.boo isAnd x xs) E)):=by
 replace h:=Vz h
 obtain ⟨_,_,_,_,rfl,h⟩:=h
 ·simp only[Bool.and_eq_true,beq_iff_eq]at h
  obtain ⟨⟨e1,h1⟩,h2⟩:=h
  subst e1
  refine ptI (PW.pt (Bh xs ih hh h1 h2)) fun σ H Q hq=>el hq fun ρ F G e0 he r hw=>⟨ρ,F,G,e0,he,r,?_⟩
  rw[nQ]at hw
  exact hw
def tG(K:PySem.W.Frag)(B:Bs)(t:Tg):TG:=fun v σ H Q=>∃ρ F G d,Ext B.H B.F H F∧EnvR K H F ρ σ∧R K H F G∧Rep K H F d v∧aU t d ρ G (fun ρ'=>∀σ',EnvR K H F ρ' σ'→Q σ' H)
def tGs(K:PySem.W.Frag)(B:Bs)(t:Tgs):TGs:=fun vs σ H Q=>∃ρ F G ds,Ext B.H B.F H F∧EnvR K H F ρ σ∧R K H F G∧Reps K H F ds vs∧bB t ds ρ G (fun ρ'=>∀σ',EnvR K H F ρ' σ'→Q σ' H)
theorem qD:∀{ts:Tgs}{es:List Expr}{env:Env},bU c ts es=true→(assignEach es env).length=es.length∧(assignEach es env).findIdx? (·.1)=none∧(assignEach es env).map (·.2)=es.map fun e=>assign e env
 |.nil,[],env,_=>⟨rfl,rfl,rfl⟩
 |.nil,_::_,env,h=>by unfold bU at h;cases h
 |.cons t r,[],env,h=>by unfold bU at h;cases h
 |.cons t r,e::es,env,h=>by
  unfold bU at h
  rw[Bool.and_eq_true]at h
  obtain ⟨h1,h2,h3⟩:=qD (env:=env) h.2
  have hs:assignEach (e::es) env=(false,assign e env)::assignEach es env:=by
   cases t with
   |nm i=>
    have h':=h.1
    obtain ⟨_,_,rfl,_⟩:=uG h'
    rfl
   |tp ts=>
    have h':=h.1
    obtain ⟨_,_,_,rfl,_⟩:=uH h'
    rfl
  rw[hs]
  refine ⟨by simp[h1],?_,by simp[h3]⟩
  rw[List.findIdx?_cons]
  simp[h2]
section
variable {prog:Program} {w:World} {A:Around} {E:Value→Shared→Prop} {s:Shared}
theorem Bj{it t:Addr}{items:Array Value}(hne:t≠it):∀(n i:Nat)(s:Shared)(Q:List Value→Shared→Prop),s.heap.IsListIter it t i→s.heap.IsList t items→i+n≤items.size→
  (∀h',h'.IsListIter it t (i+n)→Heap.SameBut it s.heap h'→Q ((items.toList.drop i).take n) { s with heap:=h' })→wpAny (model prog w) A (draw (.ref it) n) Q E s
 |0,i,s,Q,hit,_,_,hQ=>by
  show wpAny _ _ (pure []) Q E s
  exact wpAny_pure (by simpa using hQ s.heap hit (Heap.SameBut.refl ..))
 |n+1,i,s,Q,hit,ht,hle,hQ=>by
  have hlt:i < items.size:=by omega
  show wpAny _ _ (pyNext (.ref it) >>= _) Q E s
  refine wpAny_bind (wpAny_pyNext_list_item hit ht (x:=items[i]) (by simp[hlt]) fun h₁ hit₁ hs₁=>?_)
  refine wpAny_bind (wpAny_holding (Bj hne n (i+1) _ _ hit₁ (ht.extBut hs₁.extBut hne) (by omega) fun h₂ hit₂ hs₂=>wpAny_pure ?_))
  have hd:items.toList.drop i=items[i]::items.toList.drop (i+1):=by simp[List.drop_eq_getElem_cons,hlt]
  have:=hQ h₂ (by rw[show i+(n+1)=i+1+n by omega];exact hit₂) (hs₁.trans hs₂)
  rw[hd,List.take_succ_cons]at this
  exact this
theorem Wy{t:Addr}{items:Array Value}{Q:List Value→Shared→Prop}(hh:A.handled=none)(ht:s.heap.IsList t items)
  (hQ:∀h',Heap.ExtBut s.heap.objs.size s.heap h'→Q items.toList { s with heap:=h' }):wpAny (model prog w) A (unpackItems (.ref t) items.size none) Q E s:=by
 have hlt:t≠s.heap.objs.size:=by obtain ⟨o,ho,_⟩:=ht;exact Nat.ne_of_lt (Heap.lt_size ho)
 unfold unpackItems
 refine wpAny_bind ?_
 unfold notIterableAtAll
 refine wpAny_bind (wpAny_specialOf ht.typeIs PySem.F.slot_list_iter.lookup ?_)
 refine wpAny_pure ?_
 simp only[Bool.false_eq_true,if_false]
 refine wpAny_bind (wpAny_holding (wpAny_pyIter_list ht ?_))
 refine wpAny_bind (wpAny_holding (Bj hlt items.size 0 _ _ ⟨_,Heap.get?_push_size _ rfl,rfl,rfl⟩ (ht.push _) (by omega) fun h₁ hit₁ hs₁=>?_))
 have hall:List.take items.size (List.drop 0 items.toList)=items.toList:=by
  rw[List.drop_zero];exact List.take_of_length_le (by simp)
 rw[hall]
 rw[if_neg (by simp)]
 have ht₁:h₁.IsList t items:=(ht.push _).extBut hs₁.extBut hlt
 refine wpAny_bind (wpAny_holding (wpAny_pyNext_list_end hh hit₁ ht₁ (by simp) fun h₂ he₂=>?_))
 simp only[Option.isSome_none,Bool.false_eq_true,if_false]
 refine wpAny_pure (hQ h₂ fun b o hb e=>he₂ b o hb (hs₁.extBut b o hb (Heap.get?_push_of_some _ e)))
theorem Wz{env:Env}{elts:List Expr}{x1}{pos:Pos}{t:Addr}{items:Array Value}{Q:Unit→Shared→Prop}(hh:A.handled=none)(ht:s.heap.IsList t items)
  (hn:(assignEach elts env).length=items.size) (hstar:(assignEach elts env).findIdx? (·.1)=none)
  (h:∀h',Heap.ExtBut s.heap.objs.size s.heap h'→wpAny (model prog w) A (assignInOrder ((assignEach elts env).map (·.2)) items.toList) Q E { s with heap:=h' }):
  wpAny (model prog w) A (assign (.Tuple elts x1 pos) env (.ref t)) Q E s:=by
 rw[assign_Tuple]
 refine wpAny_bind (wpAny_standAt ?_)
 unfold unpack
 rw[hn,hstar]
 exact wpAny_bind (wpAny_holding (Wy hh ht h))
end
section
variable {X:Cx} {pos:Pos}
def WD(K:PySem.W.Frag)(n:Nat)(t:TGs):TG:=fun v σ H Q=>∃a xs,v=.ref a∧SqL K H a xs∧xs.length=n∧t xs σ H Q
theorem WF{es:List Expr}{k:Nat}{t:TGs}{n:Nat}(hc:X.calm=true)(h:PGs X es t)
  (hn:(assignEach es X.env).length=n:=by rfl) (hst:(assignEach es X.env).findIdx? (·.1)=none:=by rfl):PG X (.Tuple es k pos) (WD X.K n t):=by
 intro pins s σ H v u Q I r hw
 obtain ⟨a,xs,e1,hq,hl,hw⟩:=hw
 subst e1
 cases r
 obtain ⟨its,rv,pl,hz⟩:=I.list hq
 refine Wz (I.ok.hd hc) pl.isList (by simp[hn,←hl,rv.length]) hst fun h' hx=>?_
 have I1:Inv X pins σ H { s with heap:=h' }:=I.kept (t':=s.toks) fun b o e=>hx b o (Nat.ne_of_lt (Heap.lt_size e)) e
 exact h pins _ σ H xs _ Q I1 (by simpa using rv) hw
end
mutual
theorem qF(S:Stat Φ CX k c E B X):∀(t:Tg){e:Expr},bZ c t e=true→PG X e (tG X.K B t)
 |.nm i,e,h=>by
  replace h:=uG h
  obtain ⟨x,pos,rfl,h⟩:=h
  ·skip
   rw[Bool.and_eq_true,beq_iff_eq]at h
   obtain ⟨l,f⟩:=S.sto x h.2
   intro pins s σ H v u Q I rv q
   refine O7 (i:=i) S.nd (by rw[S.N];exact h.1) l f pins s σ H v u Q I rv ?_
   obtain ⟨ρ,F,G,d,e0,he,r,rd,hw⟩:=q
   unfold aU at hw
   exact hw _ (he.set rd i)
 |.tp ts,e,h=>by
  replace h:=uH h
  obtain ⟨es,kk,pos,rfl,h⟩:=h
  ·skip
   obtain ⟨h1,h2,h3⟩:=qD (env:=X.env) h
   intro pins s σ H v u Q I rv q
   obtain ⟨ρ,F,G,d,e0,he,r,rd,hw⟩:=q
   unfold aU at hw
   split at hw
   ·rename_i ds
    refine Ph (n:=es.length) S.calm (uJ S ts h) h1 h2 pins s σ H v u Q I rv ?_
    obtain ⟨a,vs,e1,q,t⟩:=rd
    refine ⟨a,vs,e1,q.sq,?_,ρ,F,G,ds,e0,he,r,t,hw⟩
    rw[←t.length]
    exact uK ts h hw
   ·rename_i ds
    refine WF (n:=es.length) S.calm (uJ S ts h) h1 h2 pins s σ H v u Q I rv ?_
    obtain ⟨a,vs,e1,q,t⟩:=rd
    refine ⟨a,vs,e1,q.sq,?_,ρ,F,G,ds,e0,he,r,t,hw⟩
    rw[←t.length]
    exact uK ts h hw
   ·exact hw.elim
theorem uJ(S:Stat Φ CX k c E B X):∀(ts:Tgs){es:List Expr},bU c ts es=true→PGs X es (tGs X.K B ts)
 |.nil,es,h=>by
  unfold bU at h
  cases es with
  |nil=>
   intro pins s σ H vs us Q I rv q
   refine Pa pins s σ H vs us Q I rv ?_
   obtain ⟨ρ,F,G,ds,e0,he,r,rd,hw⟩:=q
   unfold bB at hw
   split at hw
   ·exact ⟨rd,hw _ he⟩
   ·exact hw.elim
  |cons _ _=>cases h
 |.cons t r,es,h=>by
  unfold bU at h
  split at h
  ·rename_i e es
   rw[Bool.and_eq_true]at h
   intro pins s σ H vs us Q I rv q
   have hs:(assignEach (e::es) X.env).map (·.2)=assign e X.env::(assignEach es X.env).map (·.2):=by
    have hh:bU c (.cons t r) (e::es)=true:=by unfold bU;show (bZ c t e&&bU c r es)=true;rw[h.1,h.2];rfl
    rw[(qD (env:=X.env) hh).2.2,(qD (env:=X.env) h.2).2.2];rfl
   refine Pb (qF S t h.1) (uJ S r h.2) hs pins s σ H vs us Q I rv ?_
   obtain ⟨ρ,F,G,ds,e0,he,rr,rd,hw⟩:=q
   unfold bB at hw
   split at hw
   ·rename_i d ds
    obtain ⟨v,vs',e1,rd1,rds⟩:=rd
    refine ⟨v,vs',e1,ρ,F,G,d,e0,he,rr,rd1,d8 (fun ρ' z σ' he'=>?_) t hw⟩
    exact ⟨ρ',F,G,ds,e0,he',rr,rds,z⟩
   ·exact hw.elim
  ·cases h
theorem uK{G:DH}:∀(ts:Tgs){es:List Expr}{ds:List D}{ρ:ak}{Q:ak→Prop},bU c ts es=true→bB ts ds ρ G Q→ds.length=es.length
 |.nil,es,ds,ρ,Q,h,q=>by
  unfold bU at h
  unfold bB at q
  split at q
  ·cases es with
   |nil=>rfl
   |cons _ _=>cases h
  ·exact q.elim
 |.cons t r,es,ds,ρ,Q,h,q=>by
  unfold bU at h
  split at h
  ·rw[Bool.and_eq_true]at h
   unfold bB at q
   split at q
   ·rename_i d ds
    have:∃ρ',bB r ds ρ' G Q:=Bk t q
    obtain ⟨ρ',q'⟩:=this
    have:=uK r h.2 q'
    simp[this]
   ·exact q.elim
  ·cases h
theorem Bk{G:DH}:∀(t:Tg){d:D}{ρ:ak}{Q:ak→Prop},aU t d ρ G Q→∃ρ',Q ρ'
 |.nm i,d,ρ,Q,q=>⟨_,q⟩
 |.tp ts,d,ρ,Q,q=>by
  unfold aU at q
  split at q
  ·exact uL ts q
  ·exact uL ts q
  ·exact q.elim
theorem uL{G:DH}:∀(ts:Tgs){ds:List D}{ρ:ak}{Q:ak→Prop},bB ts ds ρ G Q→∃ρ',Q ρ'
 |.nil,ds,ρ,Q,q=>by
  unfold bB at q
  split at q
  ·exact ⟨_,q⟩
  ·exact q.elim
 |.cons t r,ds,ρ,Q,q=>by
  unfold bB at q
  split at q
  ·obtain ⟨ρ',q'⟩:=Bk t q
   exact uL r q'
  ·exact q.elim
end
end
end RF
namespace RF
open PySem PySem.Spec PyProof.Rows L2
structure WalkJ(K:PySem.W.Frag)(H:Hp)(F:FZ)(items:List D)(g:Hld)(J:It):Prop where
 go:∀H' F' G i,Ext H F H' F'→R K H' F' G→held g G→i < items.length→J.go i H'
 stop:∀H' F' G,Ext H F H' F'→R K H' F' G→held g G→J.stop items.length H'
 yld:∀H' F' i x H'' d G,Ext H F H' F'→R K H' F' G→held g G→items[i]?=some d→J.yld i H' x H''→Ext H' F' H'' F'∧R K H'' F' G∧Rep K H'' F' d x
section
variable {K:PySem.W.Frag} {H:Hp} {F:FZ}
structure Src(K:PySem.W.Frag)(H:Hp)(F:FZ)(u:Value)(ds:List D)(g:Hld)(k:SK):Prop where
 val:k.val=u
 sat:∀H' F' G,Ext H F H' F'→R K H' F' G→held g G→∃vs,k.Sat H' vs∧Reps K H' F' ds vs
theorem qG{d:D}{v:V}{u:Value}{G:DH}{ds:List D×Hld}(h:Rep K H F d v)(r:RelV v u)(e:itemsOf G d=some ds):∃k,Src K H F u ds.1 ds.2 k:=by
 cases d with
 |lst xs=>
  simp only[itemsOf,Option.some.injEq]at e
  subst e
  obtain ⟨a,vs,e1,q,t⟩:=h
  subst e1
  have hu:u=Value.ref a:=r
  subst hu
  exact ⟨.lst a,rfl,fun H' F' G' x _ _=>⟨vs,(FzL.ext x q).2,Reps.ext x t⟩⟩
 |tup xs=>
  simp only[itemsOf,Option.some.injEq]at e
  subst e
  obtain ⟨a,vs,e1,q,t⟩:=h
  subst e1
  have hu:u=Value.ref a:=r
  subst hu
  exact ⟨.tup a,rfl,fun H' F' G' x _ _=>⟨vs,(TpT.ext (K:=K) x q).it,Reps.ext x t⟩⟩
 |str l=>
  simp only[itemsOf,Option.some.injEq]at e
  subst e
  obtain ⟨e1,hl⟩:=h
  subst e1
  obtain ⟨t,hu⟩:∃t,u=Value.str (tx l) t:=r
  subst hu
  exact ⟨.str (tx l) t,rfl,fun H' F' G' x _ _=>⟨_,rfl,by simpa using uv l⟩⟩
 |ref p=>
  simp only[itemsOf]at e
  split at e
  ·rename_i xs hg
   simp only[Option.some.injEq]at e
   subst e
   have e1:v=.ref p:=h
   subst e1
   have hu:u=Value.ref p:=r
   subst hu
   exact ⟨.lst p,rfl,fun H' F' G' x r' hh=>r'.lst hh.1⟩
  ·cases e
 |_=>cases e
theorem qH{G:DH}{d:D}{ds:List D×Hld}(e:itemsOf G d=some ds):held ds.2 G:=by
 cases d with
 |ref p=>
  simp only[itemsOf]at e
  split at e
  ·rename_i xs hg
   simp only[Option.some.injEq]at e
   subst e
   exact ⟨hg,trivial⟩
  ·cases e
 |_=>simp only[itemsOf]at e;first | (cases e;done) | (simp only[Option.some.injEq]at e;subst e;exact trivial)
theorem WK{u:Value}{ds:List D}{g:Hld}{k:SK}(s:Src K H F u ds g k):WalkJ K H F ds g (Jk k) where
 go:=fun H' F' G i x r hh hi=>by
  obtain ⟨vs,h1,h2⟩:=s.sat H' F' G x r hh
  exact ⟨vs,h1,by rw[←h2.length];exact hi⟩
 stop:=fun H' F' G x r hh=>by
  obtain ⟨vs,h1,h2⟩:=s.sat H' F' G x r hh
  exact ⟨vs,h1,h2.length.symm⟩
 yld:=fun H' F' i v H'' d G x r hh hd y=>by
  obtain ⟨e,hv⟩:=y
  subst e
  obtain ⟨vs,h1,h2⟩:=s.sat _ F' G x r hh
  obtain ⟨w,e1,rw'⟩:=h2.get hd
  have e2:=hv vs h1
  rw[e1]at e2;cases e2
  exact ⟨Ext.refl _ _,r,rw'⟩
theorem jL:∀(n:Nat)(ds:List D),(cP n ds).length=ds.length
 |_,[]=>rfl
 |n,d::ds=>by simp[cP,jL (n+1) ds]
theorem jM:∀(n:Nat)(ds:List D)(i:Nat),(cP n ds)[i]?=(ds[i]?).map fun d=>.tup [.int ((n+i:Nat):Int),d]
 |_,[],_=>by simp[cP]
 |n,d::ds,0=>by simp[cP]
 |n,d::ds,i+1=>by
  simp only[cP,List.getElem?_cons_succ]
  rw[jM (n+1) ds i]
  congr 1
  funext d
  rw[show n+1+i=n+(i+1) by omega]
theorem uM:∀(as bs:List D),(bO as bs).length=min as.length bs.length
 |[],bs=>by simp[bO]
 |a::as,[]=>by simp[bO]
 |a::as,b::bs=>by simp[bO,uM as bs]
theorem Bl:∀(as bs:List D)(i:Nat)(d:D),(bO as bs)[i]?=some d→∃a b,as[i]?=some a∧bs[i]?=some b∧d=.tup [a,b]
 |[],bs,i,d,h=>by simp[bO]at h
 |a::as,[],i,d,h=>by simp[bO]at h
 |a::as,b::bs,0,d,h=>by simp[bO]at h;exact ⟨a,b,rfl,rfl,h.symm⟩
 |a::as,b::bs,i+1,d,h=>by
  simp only[bO,List.getElem?_cons_succ]at h
  obtain ⟨x,y,h1,h2,h3⟩:=Bl as bs i d h
  exact ⟨x,y,by simpa using h1,by simpa using h2,h3⟩
theorem WL{u:Value}{ds:List D}{g:Hld}{k:SK}(s:Src K H F u ds g k):WalkJ K H F (cP 0 ds) g (Je k) where
 go:=fun H' F' G i x r hh hi=>by
  obtain ⟨vs,h1,h2⟩:=s.sat H' F' G x r hh
  exact ⟨vs,h1,by rw[←h2.length,←jL 0];exact hi⟩
 stop:=fun H' F' G x r hh=>by
  obtain ⟨vs,h1,h2⟩:=s.sat H' F' G x r hh
  exact ⟨vs,h1,by rw[jL];exact h2.length.symm⟩
 yld:=fun H' F' i v H'' d G x r hh hd y=>by
  obtain ⟨vs,h1,h2⟩:=s.sat H' F' G x r hh
  obtain ⟨T,y,hT,e1,e2,hv⟩:=y
  subst e1 e2
  rw[jM]at hd
  obtain ⟨d',hd',e3⟩:=Option.map_eq_some_iff.mp hd
  subst e3
  obtain ⟨w,e1,rw'⟩:=h2.get hd'
  have e2:=hv vs h1
  rw[e1]at e2;cases e2
  refine ⟨cY r hT,r.new hT,?_⟩
  rw[Nat.zero_add]
  exact sV r hT (Reps.cons rfl (Reps.cons rw' Reps.nil))
theorem iR{g g':Hld}{G:DH}:held (g++g') G→held g G∧held g' G:=by
 induction g with
 |nil=>exact fun h=>⟨trivial,h⟩
 |cons p r ih=>
  intro h
  obtain ⟨h1,h2⟩:=ih h.2
  exact ⟨⟨h.1,h1⟩,h2⟩
theorem WM{u u':Value}{ds es:List D}{g g':Hld}{k l:SK}(s:Src K H F u ds g k)(s':Src K H F u' es g' l):WalkJ K H F (bO ds es) (g++g') (Jz k l) where
 go:=fun H' F' G i x r hh hi=>by
  obtain ⟨vs,h1,h2⟩:=s.sat H' F' G x r (iR hh).1
  obtain ⟨ws,h3,h4⟩:=s'.sat H' F' G x r (iR hh).2
  rw[uM]at hi
  exact ⟨vs,ws,h1,h3,by rw[←h2.length];omega,by rw[←h4.length];omega⟩
 stop:=fun H' F' G x r hh=>by
  obtain ⟨vs,h1,h2⟩:=s.sat H' F' G x r (iR hh).1
  obtain ⟨ws,h3,h4⟩:=s'.sat H' F' G x r (iR hh).2
  exact ⟨vs,ws,h1,h3,by rw[uM,←h2.length,←h4.length];omega⟩
 yld:=fun H' F' i v H'' d G x r hh hd y=>by
  obtain ⟨T,y,z,hT,e1,e2,hv,hz⟩:=y
  subst e1 e2
  obtain ⟨a,b,ha,hb,e3⟩:=Bl _ _ _ _ hd
  subst e3
  obtain ⟨vs,h1,h2⟩:=s.sat H' F' G x r (iR hh).1
  obtain ⟨ws,h3,h4⟩:=s'.sat H' F' G x r (iR hh).2
  obtain ⟨w,e1,rw'⟩:=h2.get ha
  obtain ⟨w2,e3,rw2⟩:=h4.get hb
  have e2:=hv vs h1
  have e4:=hz ws h3
  rw[e1]at e2;cases e2
  rw[e3]at e4;cases e4
  exact ⟨cY r hT,r.new hT,sV r hT (Reps.cons rw' (Reps.cons rw2 Reps.nil))⟩
theorem WN(lo:Int)(n:Nat):WalkJ K H F (bC lo n) [] (Itr lo n) where
 go:=fun H' F' G i x _ _ hi=>by show i < n;simpa [bC] using hi
 stop:=fun H' F' G x _ _=>by show n≤(bC lo n).length;simp[bC]
 yld:=fun H' F' i v H'' d G x r _ hd y=>by
  obtain ⟨e1,e2⟩:=y
  subst e1 e2
  refine ⟨Ext.refl _ _,r,?_⟩
  unfold bC at hd
  rw[List.getElem?_map]at hd
  obtain ⟨j,hj,e3⟩:=Option.map_eq_some_iff.mp hd
  have:j=i:=by
   have:=List.getElem?_eq_some_iff.mp hj
   obtain ⟨h1,h2⟩:=this
   simpa using h2.symm
  subst this
  subst e3
  rfl
end
def tI(K:PySem.W.Frag)(B:Bs)(w:ak→DH→(List D→Hld→DH→Prop)→Prop):TI:=fun σ H Rr=>∃ρ F G,Ext B.H B.F H F∧EnvR K H F ρ σ∧R K H F G∧
 w ρ G (fun items g G'=>∀H' F' J,Ext H F H' F'→R K H' F' G'→WalkJ K H' F' items g J→Rr J H')
section
variable {Φ:aa} {CX:CXT} {k:Nat} {c:CT} {E:EK} {B:Bs} {X:Cx}
theorem qI{pins:List (Addr×Obj)}{σ:L2.St}{H:Hp}{s:Shared}(I:Inv X pins σ H s){kk:SK}{vs:List V}(h:kk.Sat H vs):∃its:Array Value,kk.On its s.heap:=by
 cases kk with
 |lst a=>obtain ⟨its,_,pl,_⟩:=I.list (SqL.of (show H a=some _ from h));exact ⟨its.toArray,pl.isList⟩
 |tup a=>obtain ⟨its,_,pl,_⟩:=I.tuple (SqT.of (show H a=some _ from h));exact ⟨its.toArray,pl⟩
 |str x t=>exact ⟨#[],trivial⟩
theorem WP{x:Ex}(ih:OkE Φ c E B X x){tg e:Expr}(h:aj c x e=true):PI X tg e (tI X.K B (wpI Φ (.seq x) E)):=by
 intro pins s σ H Rr I q
 obtain ⟨ρ,F,G,e0,he,r,hw⟩:=q
 rw[n6]at hw
 have q':tE X.K B (wpE Φ x E) σ H (fun v H1=>∃F1 G1 d items,R X.K H1 F1 G1∧Rep X.K H1 F1 d v∧itemsOf G1 d=some items∧∀J,WalkJ X.K H1 F1 items.1 items.2 J→Rr J H1):=
  aL e0 he r hw fun d G1 H1 F1 u q e1 x1 he1 r1 ru=>by
   split at q
   ·rename_i ds hd
    exact ⟨F1,G1,d,ds,r1,ru,hd,fun J w=>q H1 F1 J x1 r1 w⟩
   ·exact q.elim
 refine thn (ih h pins s σ H _ I q') fun u s1 ⟨v,H1,I1,rv,F1,G1,d,items,r1,rd,hd,q1⟩=>?_
 obtain ⟨kk,src⟩:=qG rd rv hd
 obtain ⟨vs,sat,_⟩:=src.sat H1 F1 G1 (Ext.refl _ _) r1 (qH hd)
 obtain ⟨its,on⟩:=qI I1 sat
 rw[←src.val]
 refine SK.iter on ?_
 refine ⟨s1.heap.objs.size,[s1.heap.objs.size],_,_,H1,rfl,I1.kept (t':=s1.toks) fun b o e=>Heap.get?_push_of_some _ e,Vi kk _,SK.pos0,fun b hb=>?_,q1 _ (WK src)⟩
 have e:b=s1.heap.objs.size:=by simpa using hb
 subst e
 exact I1.fpOk (Nat.le_refl _) (I1.hok.fresh (Nat.le_refl _))
theorem WQ(S:Stat Φ CX k c E B X){a:Ex}(ih:OkE Φ c E B X a){tg e:Expr}(h:bQ c (.rng a) tg e=true):PI X tg e (tI X.K B (wpI Φ (.rng a) E)):=by
 replace h:=Ar h
 obtain ⟨_,_,_,_,rfl,h⟩:=h
 ·simp only[Bool.and_eq_true,beq_iff_eq]at h
  obtain ⟨⟨⟨e1,h1⟩,hm⟩,h2⟩:=h
  subst e1
  obtain ⟨g1,g2⟩:=cz h1
  have hmg:=S.blt _ (List.contains_iff_mem.mp hm)
  have hs:=bN _ [] X.env (cu (bG a h2))
  intro pins s σ H Rr I q
  refine Pu (S.glo _ g1) hmg (eU (ih h2) gR hs) hs pins s σ H Rr I ?_
  obtain ⟨ρ,F,G,e0,he,r,hw⟩:=q
  rw[oh]at hw
  refine aL e0 he r hw fun d G1 H1 F1 u q e1 x1 he1 r1 ru=>?_
  split at q
  ·rename_i n
   have e2:u=.int n:=ru
   subst e2
   exact ⟨n,rfl,q.1.1,q.1.2,q.2 H1 F1 _ x1 r1 (WN 0 n.toNat)⟩
  ·exact q.elim
theorem WR(S:Stat Φ CX k c E B X){a:Ex}(ih:OkE Φ c E B X a){tg e:Expr}(h:bQ c (.rev a) tg e=true):PI X tg e (tI X.K B (wpI Φ (.rev a) E)):=nomatch (show false=true from h)
theorem WT(S:Stat Φ CX k c E B X){a b d:Ex}(iha:OkE Φ c E B X a)(ihb:OkE Φ c E B X b)(ihd:OkE Φ c E B X d){tg e:Expr}(h:bQ c (.dwn a b d) tg e=true):PI X tg e (tI X.K B (wpI Φ (.dwn a b d) E)):=nomatch (show false=true from h)
theorem WW(S:Stat Φ CX k c E B X){a b:Ex}(iha:OkE Φ c E B X a)(ihb:OkE Φ c E B X b){tg e:Expr}(h:bQ c (.rng2 a b) tg e=true):PI X tg e (tI X.K B (wpI Φ (.rng2 a b) E)):=nomatch (show false=true from h)
theorem WX(S:Stat Φ CX k c E B X){a:Ex}(ih:OkE Φ c E B X a){tg e:Expr}(h:bQ c (.enm a) tg e=true):PI X tg e (tI X.K B (wpI Φ (.enm a) E)):=by
 replace h:=Av h
 obtain ⟨_,_,_,_,_,_,_,rfl,rfl,h⟩:=h
 ·skip
  ·simp only[Bool.and_eq_true,beq_iff_eq]at h
   obtain ⟨⟨⟨e1,h1⟩,hm⟩,h2⟩:=h
   subst e1
   obtain ⟨g1,g2⟩:=cz h1
   have hmg:=S.blt _ (List.contains_iff_mem.mp hm)
   have hs:=bN _ [] X.env (cu (bG a h2))
   intro pins s σ H Rr I q
   obtain ⟨ρ,F,G,e0,he,r,hw⟩:=q
   rw[ou]at hw
   have q':tL X.K B (aN Φ (.cons a .nil) E) σ H (fun vs H1=>∃v F1 G1 d items,vs=[v]∧R X.K H1 F1 G1∧Rep X.K H1 F1 d v∧itemsOf G1 d=some items∧∀J,WalkJ X.K H1 F1 (cP 0 items.1) items.2 J→Rr J H1):=by
    refine b7 (W:=fun ds G1=>∃d items,ds=[d]∧itemsOf G1 d=some items∧∀H' F' J,Ext H F H' F'→R X.K H' F' G1→WalkJ X.K H' F' (cP 0 items.1) items.2 J→Rr J H') e0 he r ?_ fun ds G1 H1 F1 vs q e1 x1 he1 r1 rvs=>?_
    ·rw[fj]
     refine aD a (fun d G1 q=>?_) hw
     rw[gk]
     split at q
     ·rename_i items hd
      exact ⟨d,items,rfl,hd,q⟩
     ·exact q.elim
    ·obtain ⟨d,items,e2,hd,q⟩:=q
     subst e2
     obtain ⟨v,e3,rv⟩:=bF rvs
     exact ⟨v,F1,G1,d,items,e3,r1,rv,hd,fun J w=>q H1 F1 J x1 r1 w⟩
   refine Call_ (gQ I (S.glo _ g1) hmg (u:=.type "enumerate") boot_enumerate (PyProof.Rows.callWith_type1 (thn (qx ih (fun h=>uI h) (c:=c) (es:=[_]) (by unfold aF;show (aj c a _&&true)=true;rw[h2];rfl) _ pins s σ H _ I q') fun us s1 ⟨vs,H1,I1,r1v,q1⟩=>?_) hs rfl) (cT g2) (bx g2))
   obtain ⟨v,F1,G1,d,items,e1,r1,rd,hd,q1⟩:=q1
   subst e1
   obtain ⟨u,rfl,ru⟩:=vals1 r1v
   obtain ⟨kk,src⟩:=qG rd ru hd
   obtain ⟨vs,sat,_⟩:=src.sat H1 F1 G1 (Ext.refl _ _) r1 (qH hd)
   obtain ⟨its,on⟩:=qI I1 sat
   rw[←src.val]
   refine Vr on fun h' hen hit hsz hk=>?_
   refine wpAny_pyIter_enum hen ?_
   have n1:H1 s1.heap.objs.size=none:=I1.hok.fresh (Nat.le_refl _)
   have n2:H1 (s1.heap.objs.size+1)=none:=I1.hok.fresh (Nat.le_succ _)
   refine ⟨s1.heap.objs.size+1,[s1.heap.objs.size+1,s1.heap.objs.size],_,_,H1,rfl,I1.kept (t':=s1.toks) hk,Vh kk _ _ (Nat.succ_ne_self _),⟨⟨_,hen⟩,hit⟩,fun b hb=>?_,q1 _ (WL src)⟩
   have hb':b=s1.heap.objs.size+1∨b=s1.heap.objs.size:=by simpa using hb
   rcases hb' with rfl |rfl
   ·exact I1.fpOk (Nat.le_succ _) n2
   ·exact I1.fpOk (Nat.le_refl _) n1
theorem zap(n:Nat):ZApart (n+4) (n+2) (n+3) n (n+1):=
 ⟨(by omega:(n+2:Nat)≠n+4),(by omega:(n+3:Nat)≠n+4),(by omega:(n:Nat)≠n+4),(by omega:(n+1:Nat)≠n+4),(by omega:(n+2:Nat)≠n+3),(by omega:(n+2:Nat)≠n),(by omega:(n+2:Nat)≠n+1),(by omega:(n+3:Nat)≠n),(by omega:(n+3:Nat)≠n+1),(by omega:(n:Nat)≠n+1)⟩
theorem WY(S:Stat Φ CX k c E B X){a b:Ex}(iha:OkE Φ c E B X a)(ihb:OkE Φ c E B X b){tg e:Expr}(h:bQ c (.zip a b) tg e=true):PI X tg e (tI X.K B (wpI Φ (.zip a b) E)):=by
 replace h:=Aw h
 obtain ⟨_,_,_,_,_,v,v',pos,rfl,rfl,h⟩:=h
 ·skip
  ·simp only[Bool.and_eq_true,beq_iff_eq]at h
   obtain ⟨⟨⟨⟨e1,h1⟩,hm⟩,h2⟩,h3⟩:=h
   subst e1
   obtain ⟨g1,g2⟩:=cz h1
   have hmg:=S.blt _ (List.contains_iff_mem.mp hm)
   have hs2:=bN v' [] X.env (cu (bG b h3))
   have hs:=bN v [v'] X.env (cu (bG a h2))
   intro pins s σ H Rr I q
   obtain ⟨ρ,F,G,e0,he,r,hw⟩:=q
   rw[oA]at hw
   have hA:aF c (.cons a (.cons b .nil)) [v,v']=true:=by
    unfold aF aF aF;show (aj c a v&&(aj c b v'&&true))=true;rw[h2,h3];rfl
   have q':tL X.K B (aN Φ (.cons a (.cons b .nil)) E) σ H (fun vs H1=>∃v v' F1 G1 d d' items items',vs=[v,v']∧R X.K H1 F1 G1∧Rep X.K H1 F1 d v∧Rep X.K H1 F1 d' v'∧itemsOf G1 d=some items∧itemsOf G1 d'=some items'∧∀J,WalkJ X.K H1 F1 (bO items.1 items'.1) (items.2++items'.2) J→Rr J H1):=by
    refine b7 (W:=fun ds G1=>∃d d' items items',ds=[d,d']∧itemsOf G1 d=some items∧itemsOf G1 d'=some items'∧∀H' F' J,Ext H F H' F'→R X.K H' F' G1→WalkJ X.K H' F' (bO items.1 items'.1) (items.2++items'.2) J→Rr J H') e0 he r ?_ fun ds G1 H1 F1 vs q e1 x1 he1 r1 rvs=>?_
    ·rw[fj]
     refine aD a (fun d G1 q=>?_) hw
     rw[fj]
     refine aD b (fun d' G2 q=>?_) q
     rw[gk]
     split at q
     ·rename_i items items' hd hd'
      exact ⟨d,d',items,items',rfl,hd,hd',q⟩
     ·exact q.elim
    ·obtain ⟨d,d',items,items',e2,hd,hd',q⟩:=q
     subst e2
     obtain ⟨w1,r2,e3,rw1,t2⟩:=rvs
     obtain ⟨w2,e4,rw2⟩:=bF t2
     subst e4
     exact ⟨w1,w2,F1,G1,d,d',items,items',e3,r1,rw1,rw2,hd,hd',fun J w=>q H1 F1 J x1 r1 w⟩
   refine Call_ (gQ I (S.glo _ g1) hmg (u:=.type "zip") RD (PyProof.Rows.callWith_type1 (thn (qx iha (fun h=>qx ihb (fun h=>uI h) h) (c:=c) (es:=[v,v']) hA _ pins s σ H _ I q') fun us s1 ⟨vs,H1,I1,r1v,q1⟩=>?_) hs (by rw[hs2];rfl)) (cT g2) (bx g2))
   obtain ⟨w1,w2,F1,G1,d,d',items,items',e1,r1,rd,rd',hd,hd',q1⟩:=q1
   subst e1
   obtain ⟨u,u',rfl,ru,ru'⟩:=vals2 r1v
   obtain ⟨kk,src⟩:=qG rd ru hd
   obtain ⟨ll,src'⟩:=qG rd' ru' hd'
   obtain ⟨vs,sat,_⟩:=src.sat H1 F1 G1 (Ext.refl _ _) r1 (qH hd)
   obtain ⟨ws,sat',_⟩:=src'.sat H1 F1 G1 (Ext.refl _ _) r1 (qH hd')
   obtain ⟨its,on⟩:=qI I1 sat
   obtain ⟨its',on'⟩:=qI I1 sat'
   rw[←src.val,←src'.val]
   refine Vp on on' fun h' hz hTI hTO p1 p2 hsz hk=>?_
   refine wpAny_pyIter_zip hz ?_
   have fr:∀j,H1 (s1.heap.objs.size+j)=none:=fun j=>I1.hok.fresh (Nat.le_add_right _ _)
   refine ⟨s1.heap.objs.size+4,[s1.heap.objs.size+4,s1.heap.objs.size+2,s1.heap.objs.size+3,s1.heap.objs.size,s1.heap.objs.size+1],_,_,H1,rfl,I1.kept (t':=s1.toks) hk,
    Vm kk ll (s1.heap.objs.size+4) (s1.heap.objs.size+2) (s1.heap.objs.size+3) s1.heap.objs.size (s1.heap.objs.size+1) (zap s1.heap.objs.size),⟨hz,hTI,⟨_,_,hTO⟩,p1,p2⟩,fun b hb=>?_,q1 _ (WM src src')⟩
   have hb':b=s1.heap.objs.size+4∨b=s1.heap.objs.size+2∨b=s1.heap.objs.size+3∨b=s1.heap.objs.size∨b=s1.heap.objs.size+1:=by simpa using hb
   rcases hb' with rfl |rfl |rfl |rfl |rfl
   ·exact I1.fpOk (Nat.le_add_right _ _) (fr 4)
   ·exact I1.fpOk (Nat.le_add_right _ _) (fr 2)
   ·exact I1.fpOk (Nat.le_add_right _ _) (fr 3)
   ·exact I1.fpOk (Nat.le_refl _) (fr 0)
   ·exact I1.fpOk (Nat.le_add_right _ _) (fr 1)
end
end RF
namespace RF
open PySem PySem.Spec PyProof.Rows L2
section
variable {Φ:aa} {CX:CXT} {k:Nat} {c:CT} {E:EK} {B:Bs} {X:Cx}
theorem uN:∀{l:List Str},dF l=true→l.Nodup
 |[],_=>List.nodup_nil
 |x::r,h=>by
  unfold dF at h
  rw[Bool.and_eq_true]at h
  refine List.nodup_cons.mpr ⟨fun hm=>?_,uN h.2⟩
  have:=h.1
  rw[List.contains_iff_mem.mpr hm]at this
  cases this
theorem qJ{N:List Str}{scope:Scope}:∀{N':List Str}{cap:List (Option Nat)},X.N=N→fu N scope N' cap=true→Caps X scope N' cap
 |[],[],_,_=>trivial
 |_::N',none::cap,e,h=>qJ (N':=N') (cap:=cap) e h
 |x::N',some j::cap,e,h=>by
  unfold fu at h
  simp only[Bool.and_eq_true,beq_iff_eq]at h
  exact ⟨⟨by rw[e];exact h.1.1,h.1.2⟩,qJ (N':=N') (cap:=cap) e h.2⟩
 |[],_::_,_,h=>by cases h
 |_::_,[],_,h=>by cases h
theorem jN{scope:Scope}{env:Env}(x:Str):(relabel scope env).names.lookup x=(scope.names.lookup x).map fun kk=>if (kk==NameKind.free&&env.scope.kind==.function&&env.kindOf x==some .cell)=true then NameKind.cell else kk:=rY
theorem Stat.comp(S:Stat Φ CX k c E B X){N':List Str}{scope:Scope}(hn:dF N'=true)(cl:List (Str×Addr))(C:Addr)(s₁:Shared)(H₁:Hp)(fp:List Addr)(pn:List (Addr×Obj)):
  Stat Φ CX k (c.comp N' scope) noE B (X.comp N' scope cl C s₁ H₁ fp pn) where
 N:=rfl
 nd:=uN hn
 calm:=S.calm
 own:=PassesOwn.never
 kd:=rfl
 vis:=fun x h=>by
  have h:gw (scope.names.lookup x)=true:=h
  show (relabel scope X.env).names.lookup x=_∨(relabel scope X.env).names.lookup x=_∨(relabel scope X.env).names.lookup x=_
  rw[jN]
  cases e:scope.names.lookup x with
  |none=>rw[e]at h;cases h
  |some kk=>
   rw[e]at h
   cases kk with
   | «local»=>exact .inl (by simp[show (NameKind.«local»==NameKind.free)=false by decide])
   |cell=>exact .inr (.inl (by simp[show (NameKind.cell==NameKind.free)=false by decide]))
   |free=>
    by_cases q:(NameKind.free==NameKind.free&&X.env.scope.kind==ScopeKind.function&&X.env.kindOf x==some NameKind.cell)=true
    ·exact .inr (.inl (by simp only[Option.map_some,if_pos q]))
    ·exact .inr (.inr (by simp only[Option.map_some,if_neg q]))
   |globalExplicit=>cases h
   |globalImplicit=>cases h
 cel:=fun x h=>by
  have h:scope.names.lookup x=some .cell∨scope.names.lookup x=some .free:=h
  show (relabel scope X.env).names.lookup x=_∨(relabel scope X.env).names.lookup x=_
  rw[jN]
  rcases h with h |h
  ·exact .inl (by rw[h];simp[show (NameKind.cell==NameKind.free)=false by decide])
  ·rw[h]
   by_cases q:(NameKind.free==NameKind.free&&X.env.scope.kind==ScopeKind.function&&X.env.kindOf x==some NameKind.cell)=true
   ·exact .inl (by simp only[Option.map_some,if_pos q])
   ·exact .inr (by simp only[Option.map_some,if_neg q])
 glo:=fun x h=>by
  have h:scope.names.lookup x=some .globalImplicit:=h
  show (relabel scope X.env).names.lookup x=_
  rw[jN,h]
  simp[show (NameKind.globalImplicit==NameKind.free)=false by decide]
 sto:=fun x h=>by
  have h:(scope.names.lookup x==some .local||(false&&scope.names.lookup x==some .cell))=true:=h
  rw[Bool.false_and,Bool.or_false,beq_iff_eq]at h
  have e:(relabel scope X.env).names.lookup x=some .local:=by rw[jN,h];simp[show (NameKind.«local»==NameKind.free)=false by decide]
  exact ⟨.inl e,.inr e⟩
 room:=S.room
 call:=S.call
 blt:=S.blt
 con:=S.con
 exc:=⟨_,S.nox _,fun _ _ _ _ _ _ _ _ _ _ q=>q.elim,fun x G' H' F' h=>h.elim⟩
 nox:=S.nox
 xcl:=fun C h=>nomatch (show false=true from h)
 loc:=fun x h=>by show (relabel scope X.env).names.lookup x=_;rw[jN,show scope.names.lookup x=some .local from h];simp[show (NameKind.«local»==NameKind.free)=false by decide]
 xis:=fun C h=>nomatch (show false=true from h)
 trc:=fun h=>absurd rfl h
theorem W0(S:Stat Φ CX k c E B X){t:Tx}(ih:OkT Φ c E B X t){ifs:List Expr}(h:jG c t ifs=true):PIf X ifs (tB' X.K B (wpT Φ t E)):=by
 unfold jG at h
 rw[Bool.or_eq_true]at h
 rcases h with h |h
 ·rw[Bool.and_eq_true,List.isEmpty_iff]at h
  obtain ⟨hy,rfl⟩:=h
  cases t with
  |yes=>
   intro pins s σ H Q I q
   refine Rq pins s σ H Q I ?_
   obtain ⟨ρ,F,G,e0,he,r,hw⟩:=q
   rw[nR]at hw
   exact hw.now r
  |_=>cases hy
 ·obtain ⟨e,he,h⟩:=aM h
  rw[bY he]
  exact Rt (ih h)
theorem Bm(S:Stat Φ CX k c E B X){fz:Bool}{elt:Ex}{tg:Tg}{it:It'}{cond:Tx}{N':List Str}{cap:List (Option Nat)}{scope:Scope}{elt' tg':Expr}{ifs:List Expr}(hn:dF N'=true)
  (ihe:∀{X':Cx},Stat Φ CX k (c.comp N' scope) noE B X'→OkE Φ (c.comp N' scope) noE B X' elt) (iht:∀{X':Cx},Stat Φ CX k (c.comp N' scope) noE B X'→OkT Φ (c.comp N' scope) noE B X' cond)
  (hg:bZ (c.comp N' scope) tg tg'=true) (hi:jG (c.comp N' scope) cond ifs=true) (he:aj (c.comp N' scope) elt elt'=true)
  {σ:L2.St} {H:Hp} {Q:VK} {ρ:ak} {F:FZ} {G:DH} (e0:Ext B.H B.F H F) (henv:EnvR X.K H F ρ σ) (r:R X.K H F G)
  (hw:wpI Φ it E ρ G fun items g G1=>
   compLoop (fun d ρ' G' k'=>aU tg d ρ' G' fun ρ1=>wpT Φ cond noE ρ1 G' fun b G2=>match b with |true=>wpE Φ elt noE ρ1 G2 fun y G3=>k' (some y) ρ1 G3 |false=>k' none ρ1 G2)
    g items [] (cap.map fun o=>match o with |none=>none |some j=>(ρ[j]?).join) G1 fun ds G2=>mk fz ds G2 (PV X.K H F Q)):
  tI X.K B (wpI Φ it E) σ H (fun J H1=>yh X N' scope tg' ifs elt' J (cX cap σ) H1 Q):=by
 refine ⟨ρ,F,G,e0,henv,r,jy it (fun items g G1 q H1 F1 J x1 r1 W=>?_) hw⟩
 let step:D→ak→DH→(Option D→ak→DH→Prop)→Prop:=fun d ρ' G' k'=>aU tg d ρ' G' fun ρ1=>wpT Φ cond noE ρ1 G' fun b G2=>match b with |true=>wpE Φ elt noE ρ1 G2 fun y G3=>k' (some y) ρ1 G3 |false=>k' none ρ1 G2
 let fin:List D→DH→Prop:=fun ds G2=>mk fz ds G2 (PV X.K H F Q)
 refine ⟨fun i m ys σ' H'=>m=items.length - i∧i≤items.length∧∃ρ' F' G' acc,Ext B.H B.F H' F'∧Ext H1 F1 H' F'∧EnvR X.K H' F' ρ' σ'∧R X.K H' F' G'∧Reps X.K H' F' acc ys∧compLoop step g (items.drop i) acc ρ' G' fin,
  ⟨items.length,by simp,Nat.zero_le _,_,F1,G1,[],e0.trans x1,Ext.refl _ _,(henv.ext x1).cap cap,r1,rfl,q⟩,?_⟩
 rintro i m ys σ' H' ⟨rfl,hle,ρ',F',G',acc,eB,e1,he',r',ra,hl⟩
 by_cases hlt:i < items.length
 ·have hd:items.drop i=items[i]::items.drop (i+1):=List.drop_eq_getElem_cons hlt
  rw[hd]at hl
  obtain ⟨hh,hz,hl⟩:=hl
  refine .inr ⟨W.go H' F' G' i e1 r' hh hlt,by rw[←ra.length];exact Nat.lt_of_lt_of_le hz szl,fun cl C s₁ H₁ fp pn=>?_⟩
  have S':=S.comp (scope:=scope) hn cl C s₁ H₁ fp pn
  refine ⟨_,_,_,qF S' tg hg,W0 S' (iht S') hi,ihe S' he,fun x H2 hy=>?_⟩
  obtain ⟨xy,ry,rx⟩:=W.yld H' F' i x H2 items[i] G' e1 r' hh (by simp[hlt]) hy
  refine ⟨ρ',F',G',items[i],eB.trans xy,he'.ext xy,ry,rx,d8 (fun ρ1 z σ1 hσ1=>?_) tg hl⟩
  refine iK (eB.trans xy) hσ1 ry z fun b G2 H3 F3 z e3 x3 he3 r3=>?_
  cases b with
  |true=>
   rw[if_pos rfl]
   refine aL e3 he3 r3 z fun y G4 H4 F4 v z e4 x4 he4 r4 rv=>?_
   exact ⟨items.length - (i+1),by omega,rfl,hlt,ρ1,F4,G4,acc++[y],e4,e1.trans (xy.trans (x3.trans x4)),he4,r4,(Reps.ext (xy.trans (x3.trans x4)) ra).append (Reps.cons rv Reps.nil),z⟩
  |false=>
   rw[if_neg Bool.false_ne_true]
   exact ⟨items.length - (i+1),by omega,rfl,hlt,ρ1,F3,G2,acc,e3,e1.trans (xy.trans x3),he3,r3,Reps.ext (xy.trans x3) ra,z⟩
 ·have hi':i=items.length:=by omega
  subst hi'
  rw[List.drop_length]at hl
  obtain ⟨hh,hz,hl⟩:=hl
  refine .inl ⟨W.stop H' F' G' e1 r' hh,by rw[←ra.length];exact cI hz,fun p hp=>?_⟩
  exact dD (dj (fun d G' z=>PV.later z (x1.trans e1)) hl) r' ra p hp
structure CompC(c:CT)(elt:Ex)(tg:Tg)(it:It')(cond:Tx)(N':List Str)(cap:List (Option Nat))(elt' tg' iter:Expr)(ifs:List Expr)(scope:Scope):Prop where
 it:bQ c it tg' iter=true
 cap:fu c.N scope N' cap=true
 sc:iI c scope=true
 nd:dF N'=true
 tg:bZ (c.comp N' scope) tg tg'=true
 cd:jG (c.comp N' scope) cond ifs=true
 el:aj (c.comp N' scope) elt elt'=true
theorem Bo(S:Stat Φ CX k c E B X){scope:Scope}(h:iI c scope=true):scope.names.all (fun y=>y.2 != NameKind.cell)=true∧scope.names.all (fun y=>y.2 != NameKind.local||scope.names.lookup y.1==some NameKind.local)=true∧
  scope.names.all (fun y=>y.2 != NameKind.free||(X.env.kindOf y.1==some NameKind.cell||X.env.kindOf y.1==some NameKind.free))=true∧scope.kind=.function:=by
 unfold iI at h
 simp only[Bool.and_eq_true,decide_eq_true_iff]at h
 obtain ⟨⟨⟨⟨h1,h2⟩,h3⟩,h4⟩,_⟩:=h
 refine ⟨h1,h2,?_,h4⟩
 rw[List.all_eq_true]at h3 ⊢
 intro y hy
 have:=h3 y hy
 rw[Bool.or_eq_true,Bool.or_eq_true,beq_iff_eq,beq_iff_eq]at this
 rw[Bool.or_eq_true,Bool.or_eq_true,beq_iff_eq,beq_iff_eq]
 rcases this with q |q
 ·exact .inl q
 ·exact .inr (S.cel y.1 q)
theorem Bp{fz:Bool}{elt:Ex}{tg:Tg}{it:It'}{cond:Tx}{N:List String}{cap:List (Option Nat)}{e:Expr}(h:aj c (.comp fz elt tg it cond N cap) e=true):
  ∃elt' tg' iter ifs scope pos,e=.ListComp elt' [⟨tg',iter,ifs,0⟩] scope pos∧CompC c elt tg it cond (N.map Str.ofString) cap elt' tg' iter ifs scope:=by
 replace h:=Aq h
 obtain ⟨_,_,_,_,_,_,_,rfl,h⟩:=h
 simp only[Bool.and_eq_true,decide_eq_true_iff]at h
 obtain ⟨⟨⟨⟨⟨⟨⟨h1,h2⟩,h3⟩,h4⟩,h5⟩,h6⟩,h7⟩,h8⟩:=h
 subst h1
 exact ⟨_,_,_,_,_,_,rfl,h2,h3,h4,h5,h6,h7,h8⟩
theorem uO{it:It'}{tg' iter:Expr}(h:bQ c it tg' iter=true)(env:Env)(x:Value):foldedSetIterable iter env x=pure x:=by
 cases it with
 |seq y=>exact V3 (bG y (show aj c y iter=true from h)) env x
 |rng a=>obtain ⟨_,_,_,_,rfl,_⟩:=Ar h;rfl
 |rng2 _ _=>exact nomatch (show false=true from h)
 |rev _=>exact nomatch (show false=true from h)
 |dwn _ _ _=>exact nomatch (show false=true from h)
 |enm a=>obtain ⟨_,_,_,_,_,_,_,_,rfl,_⟩:=Av h;rfl
 |zip a b=>obtain ⟨_,_,_,_,_,_,_,_,_,rfl,_⟩:=Aw h;rfl
theorem W2(S:Stat Φ CX k c E B X){fz:Bool}{elt:Ex}{tg:Tg}{it:It'}{cond:Tx}{N:List String}{cap:List (Option Nat)}
  (ihe:∀{c':CT}{X':Cx},Stat Φ CX k c' noE B X'→OkE Φ c' noE B X' elt) (iht:∀{c':CT}{X':Cx},Stat Φ CX k c' noE B X'→OkT Φ c' noE B X' cond)
  (ihi:∀{tg' iter:Expr},bQ c it tg' iter=true→PI X tg' iter (tI X.K B (wpI Φ it E))) {e:Expr} (h:aj c (.comp fz elt tg it cond N cap) e=true):
  PE X e (tE X.K B (wpE Φ (.comp fz elt tg it cond N cap) E)):=by
 obtain ⟨elt',tg',iter,ifs,scope,pos,rfl,C⟩:=Bp h
 obtain ⟨s1,s2,s3,s4⟩:=Bo S C.sc
 refine peI (RN (N.map Str.ofString) cap S.calm (ihi C.it) (qJ S.N C.cap) s1 s2 s3 s4 (uO C.it X.env)) fun σ H Q hq=>el hq fun ρ F G e0 he r hw=>?_
 rw[ud]at hw
 exact Bm S C.nd (fun S'=>ihe S') (fun S'=>iht S') C.tg C.cd C.el e0 he r hw
theorem bH{x:Ex}(ih:OkE Φ c E B X x)(hn:∀l os rs pos,aj c x (.Compare l os rs pos)=true→False){e:Expr}(h:bw c (.val x) e=true):PT X e (tB' X.K B (wpT Φ (.val x) E)):=by
 have h:((gA e||jF e)&&aj c x e&&zW x)=true:=h
 simp only[Bool.and_eq_true,Bool.or_eq_true]at h
 obtain ⟨⟨h1,h2⟩,h3⟩:=h
 rcases h1 with h1 |h1
 ·exact Wv ih h1 h2
 ·obtain ⟨⟨t,ht⟩,_⟩:=Option.isSome_iff_exists.mp h1
  rw[ht]at h2
  exact (hn _ _ _ _ h2).elim
end
mutual
theorem aB{Φ:aa}{CX:CXT}{k:Nat}{B:Bs}:∀(x:Ex){c:CT}{E:EK}{X:Cx},Stat Φ CX k c E B X→OkE Φ c E B X x
 |.var i,c,E,X,S=>by intro h;exact V6 S h
 |.cst d,c,E,X,S=>by intro h;exact V7 S h
 |.glb x d,c,E,X,S=>by intro h;exact V8 S h
 |.bin op fz a b,c,E,X,S=>by intro h;exact V9 S (aB a S) (aB b S) h
 |.neg a,c,E,X,S=>by intro h;exact Wa S (aB a S) h
 |.cmp op a b,c,E,X,S=>by intro h;exact (Bc S (aB a S) (aB b S) h).1
 |.chn op op' a b d,c,E,X,S=>by intro h;exact (Bd S (aB a S) (aB b S) (aB d S) h).1
 |.not a,c,E,X,S=>by intro h;exact Wb S (aB a S) h
 |.boo isAnd e es,c,E,X,S=>by intro h;exact Wt (aB e S) (du es S) h
 |.ife t a b,c,E,X,S=>by intro h;exact Wu (fJ t S) (aB a S) (aB b S) h
 |.tup es,c,E,X,S=>by intro h;exact Wc S (EachE.oks (du es S)) h
 |.lst fz es,c,E,X,S=>by intro h;exact Wd S (EachE.oks (du es S)) h
 |.idx a i,c,E,X,S=>by intro h;exact We S (aB a S) (aB i S) h
 |.slc fz a lo hi,c,E,X,S=>by intro h;exact Wf S (aB a S) (Br lo S) (Br hi S) h
 |.rvs fz a s,c,E,X,S=>by intro h;exact Wg S (aB a S) (aB s S) h
 |.call f es,c,E,X,S=>by intro h;exact Wi S (EachE.oks (du es S)) h
 |.bcl f es,c,E,X,S=>by intro h;exact Wj S (EachE.oks (du es S)) h
 |.lcl fz f es,c,E,X,S=>by intro h;exact Wk S (EachE.oks (du es S)) h
 |.isi a t,c,E,X,S=>by intro h;exact Wm S (aB a S) h
 |.isx a C xs,c,E,X,S=>by intro h;exact Wo S (aB a S) h
 |.fst es,c,E,X,S=>by intro h;exact Ws S (du es S) h
 |.mth m o es,c,E,X,S=>by intro h;exact Wr S (aB o S) (EachE.oks (du es S)) h
 |.comp fz elt tg it cond N cap,c,E,X,S=>by intro h;exact W2 S (fun S'=>aB elt S') (fun S'=>fJ cond S') (uP it S) h
 |.frz a,c,E,X,S=>by intro h;exact Wh S (aB a S) h
theorem du{Φ:aa}{CX:CXT}{k:Nat}{B:Bs}:∀(x:Exs){c:CT}{E:EK}{X:Cx},Stat Φ CX k c E B X→EachE Φ c E B X x
 |.nil,_,_,_,_=>trivial
 |.cons e es,c,E,X,S=>⟨aB e S,du es S⟩
theorem fJ{Φ:aa}{CX:CXT}{k:Nat}{B:Bs}:∀(x:Tx){c:CT}{E:EK}{X:Cx},Stat Φ CX k c E B X→OkT Φ c E B X x
 |.not t,c,E,X,S=>by intro h;exact Ww (fJ t S) h
 |.boo isAnd t ts,c,E,X,S=>by intro h;exact Wx (fJ t S) (Bq ts S) h
 |.yes,c,E,X,S=>by intro h;exact nomatch (show false=true from h)
 |.val (.cmp op a b),c,E,X,S=>by
  intro h
  have h:((gA _||jF _)&&aj c (.cmp op a b) _&&true)=true:=h
  simp only[Bool.and_eq_true]at h
  exact (Bc S (aB a S) (aB b S) h.1.2).2
 |.val (.chn op op' a b d),c,E,X,S=>by
  intro h
  have h:((gA _||jF _)&&aj c (.chn op op' a b d) _&&true)=true:=h
  simp only[Bool.and_eq_true]at h
  exact (Bd S (aB a S) (aB b S) (aB d S) h.1.2).2
 |.val (.frz a),c,E,X,S=>by
  intro h
  have h:((gA _||jF _)&&aj c (.frz a) _&&false)=true:=h
  rw[Bool.and_false]at h;cases h
 |.val (.var i),c,E,X,S=>by intro h;exact bH (aB (.var i) S) (fun _ _ _ _ h=>nomatch (show false=true from h)) h
 |.val (.cst d),c,E,X,S=>by intro h;exact bH (aB (.cst d) S) (fun _ _ _ _ h=>nomatch (show false=true from h)) h
 |.val (.glb x d),c,E,X,S=>by intro h;exact bH (aB (.glb x d) S) (fun _ _ _ _ h=>nomatch (show false=true from h)) h
 |.val (.bin op fz a b),c,E,X,S=>by intro h;exact bH (aB (.bin op fz a b) S) (fun _ _ _ _ h=>nomatch (show false=true from h)) h
 |.val (.neg a),c,E,X,S=>by intro h;exact bH (aB (.neg a) S) (fun _ _ _ _ h=>nomatch (show false=true from h)) h
 |.val (.not a),c,E,X,S=>by intro h;exact bH (aB (.not a) S) (fun _ _ _ _ h=>nomatch (show false=true from h)) h
 |.val (.boo isAnd e es),c,E,X,S=>by intro h;exact bH (aB (.boo isAnd e es) S) (fun _ _ _ _ h=>nomatch (show false=true from h)) h
 |.val (.ife t a b),c,E,X,S=>by intro h;exact bH (aB (.ife t a b) S) (fun _ _ _ _ h=>nomatch (show false=true from h)) h
 |.val (.tup es),c,E,X,S=>by intro h;exact bH (aB (.tup es) S) (fun _ _ _ _ h=>nomatch (show false=true from h)) h
 |.val (.lst fz es),c,E,X,S=>by intro h;exact bH (aB (.lst fz es) S) (fun _ _ _ _ h=>nomatch (show false=true from h)) h
 |.val (.idx a i),c,E,X,S=>by intro h;exact bH (aB (.idx a i) S) (fun _ _ _ _ h=>nomatch (show false=true from h)) h
 |.val (.slc fz a lo hi),c,E,X,S=>by intro h;exact bH (aB (.slc fz a lo hi) S) (fun _ _ _ _ h=>nomatch (show false=true from h)) h
 |.val (.rvs fz a s),c,E,X,S=>by intro h;exact bH (aB (.rvs fz a s) S) (fun _ _ _ _ h=>nomatch (show false=true from h)) h
 |.val (.call f es),c,E,X,S=>by intro h;exact bH (aB (.call f es) S) (fun _ _ _ _ h=>nomatch (show false=true from h)) h
 |.val (.bcl f es),c,E,X,S=>by intro h;exact bH (aB (.bcl f es) S) (fun _ _ _ _ h=>nomatch (show false=true from h)) h
 |.val (.lcl fz f es),c,E,X,S=>by intro h;exact bH (aB (.lcl fz f es) S) (fun _ _ _ _ h=>nomatch (show false=true from h)) h
 |.val (.isx a C xs),c,E,X,S=>by intro h;exact bH (aB (.isx a C xs) S) (fun _ _ _ _ h=>nomatch (show false=true from h)) h
 |.val (.fst es),c,E,X,S=>by intro h;exact bH (aB (.fst es) S) (fun _ _ _ _ h=>nomatch (show false=true from h)) h
 |.val (.isi a t),c,E,X,S=>by intro h;exact bH (aB (.isi a t) S) (fun _ _ _ _ h=>nomatch (show false=true from h)) h
 |.val (.mth m o es),c,E,X,S=>by intro h;exact bH (aB (.mth m o es) S) (fun _ _ _ _ h=>nomatch (show false=true from h)) h
 |.val (.comp fz elt tg it cond N cap),c,E,X,S=>by intro h;exact bH (aB (.comp fz elt tg it cond N cap) S) (fun _ _ _ _ h=>nomatch (show false=true from h)) h
theorem Bq{Φ:aa}{CX:CXT}{k:Nat}{B:Bs}:∀(x:Txs){c:CT}{E:EK}{X:Cx},Stat Φ CX k c E B X→qz Φ c E B X x
 |.nil,_,_,_,_=>trivial
 |.cons e es,c,E,X,S=>⟨fJ e S,Bq es S⟩
theorem Br{Φ:aa}{CX:CXT}{k:Nat}{B:Bs}:∀(x:Ox){c:CT}{E:EK}{X:Cx},Stat Φ CX k c E B X→∀y,x=.ob y→OkE Φ c E B X y
 |.no,c,E,X,S,y,e=>by cases e
 |.ob z,c,E,X,S,y,e=>by injection e with e;subst e;exact aB z S
theorem uP{Φ:aa}{CX:CXT}{k:Nat}{B:Bs}:∀(x:It'){c:CT}{E:EK}{X:Cx},Stat Φ CX k c E B X→∀{tg e:Expr},bQ c x tg e=true→PI X tg e (tI X.K B (wpI Φ x E))
 |.seq y,c,E,X,S,tg,e,h=>WP (aB y S) (show aj c y e=true from h)
 |.rng a,c,E,X,S,tg,e,h=>WQ S (aB a S) h
 |.rng2 a b,c,E,X,S,tg,e,h=>WW S (aB a S) (aB b S) h
 |.rev a,c,E,X,S,tg,e,h=>WR S (aB a S) h
 |.dwn a b d,c,E,X,S,tg,e,h=>WT S (aB a S) (aB b S) (aB d S) h
 |.enm a,c,E,X,S,tg,e,h=>WX S (aB a S) h
 |.zip a b,c,E,X,S,tg,e,h=>WY S (aB a S) (aB b S) h
end
end RF
namespace RF
open PySem PySem.Spec PyProof.Rows L2
def EnD(K:PySem.W.Frag)(H:Hp)(F:FZ)(D:Ends):En where
 nx:=fun ρ G'=>∀H' F' σ',Ext H F H' F'→EnvR K H' F' ρ σ'→R K H' F' G'→D.nx σ' H'
 rt:=PV K H F D.rt
 bk:=fun ρ G'=>∀H' F' σ',Ext H F H' F'→EnvR K H' F' ρ σ'→R K H' F' G'→D.bk σ' H'
 ct:=fun ρ G'=>∀H' F' σ',Ext H F H' F'→EnvR K H' F' ρ σ'→R K H' F' G'→D.ct σ' H'
theorem EnD.later{K:PySem.W.Frag}{H H1:Hp}{F F1:FZ}{D:Ends}(x:Ext H F H1 F1):(EnD K H F D).Le (EnD K H1 F1 D):=
 ⟨fun _ _ h H' F' σ' x1=>h H' F' σ' (x.trans x1),fun _ _ h=>PV.later h x,fun _ _ h H' F' σ' x1=>h H' F' σ' (x.trans x1),fun _ _ h H' F' σ' x1=>h H' F' σ' (x.trans x1)⟩
def tS(K:PySem.W.Frag)(B:Bs)(w:ak→DH→En→Prop):TS:=fun D σ H=>∃ρ F G,Ext B.H B.F H F∧EnvR K H F ρ σ∧R K H F G∧w ρ G (EnD K H F D)
theorem psI{X:Cx}{st:Stmt}{t t':TS}(h:PS X st t)(i:∀D σ H,t' D σ H→t D σ H):PS X st t':=fun pins s σ H D I q=>h pins s σ H D I (i D σ H q)
theorem Bt{X:Cx}{st:List Stmt}{t t':TS}(h:PSs X st t)(i:∀D σ H,t' D σ H→t D σ H):PSs X st t':=fun pins s σ H D I q=>h pins s σ H D I (i D σ H q)
theorem uQ{e:Expr}(h:cJ e=false)(t:Option Expr)(n:Nat)(env:Env):swapsWith e t n env=pure false:=by
 cases e <;> first |rfl |exact nomatch (show true=false from h)
theorem Bu{e:Expr}(h:cJ e=false)(t:Expr)(n:Nat)(env:Env):swapsWithSole [t] e n env=pure false:=uQ h _ _ _
section
variable {Φ:aa} {CX:CXT} {k:Nat} {c:CT} {E:EK} {B:Bs} {X:Cx}
abbrev OkS(Φ:aa)(c:CT)(E:EK)(B:Bs)(X:Cx)(x:Sx):Prop:=∀{st:Stmt},aY c x st=true→PS X st (tS X.K B (wpS Φ x E))
abbrev iT(Φ:aa)(c:CT)(E:EK)(B:Bs)(X:Cx)(x:Sxs):Prop:=∀{st:List Stmt},aC c x st=true→PSs X st (tS X.K B (au Φ x E))
theorem W3(S:Stat Φ CX k c E B X){x:Ex}{st:Stmt}(h:aY c (.exp x) st=true):PS X st (tS X.K B (wpS Φ (.exp x) E)):=by
 replace h:=VB h
 obtain ⟨_,_,rfl,h⟩:=h
 ·rw[Bool.and_eq_true]at h
  refine psI (Oz (aB x S h.2) (uQ (by simpa using h.1) _ _ _)) fun D σ H hq=>el hq fun ρ F G e0 he r hw=>?_
  rw[pA]at hw
  exact aL e0 he r hw fun d G1 H1 F1 v q e1 x1 he1 r1 rv=>q _ _ _ x1 he1 r1
theorem W4(S:Stat Φ CX k c E B X){i:Nat}{x:Ex}{st:Stmt}(h:aY c (.asg (.nm i) x) st=true):PS X st (tS X.K B (wpS Φ (.asg (.nm i) x) E)):=by
 replace h:=Ax h
 obtain ⟨tg,e,pos,rfl,h⟩:=h
 ·simp only[Bool.and_eq_true]at h
  obtain ⟨⟨h1,h2⟩,h3⟩:=h
  have h3:(!cJ e||zX x)=true:=h3
  replace h1:=uG h1
  obtain ⟨y,py,rfl,h1⟩:=h1
  ·rw[Bool.and_eq_true,beq_iff_eq]at h1
   obtain ⟨l,f⟩:=S.sto y h1.2
   have hi:X.N[i]?=some y:=by rw[S.N];exact h1.1
   have go:∀(D:Ends)(σ:L2.St)(H:Hp),tS X.K B (wpS Φ (.asg (.nm i) x) E) D σ H→mR (tE X.K B (wpE Φ x E)) (mQ i) D σ H:=fun D σ H hq=>el hq fun ρ F G e0 he r hw=>by
    rw[iB]at hw
    refine aL e0 he r hw fun d G1 H1 F1 v q e1 x1 he1 r1 rv=>?_
    unfold aU at q
    exact q _ _ _ x1 (he1.set rv i) r1
   cases hc:cJ e with
   |false=>exact psI (mU S.nd hi l (aB x S h2) (uQ hc _ _ _) f) go
   |true=>
    rw[hc,Bool.not_true,Bool.false_or]at h3
    cases x with
    |comp fz elt tg it cond N cap=>
     obtain ⟨elt',tg',iter,ifs,scope,pos',rfl,C⟩:=Bp h2
     obtain ⟨s1,s2,s3,s4⟩:=Bo S C.sc
     have hb:∃b:Bool,swapsWith (.ListComp elt' [⟨tg',iter,ifs,0⟩] scope pos') (some (.Name y py)) pos.line X.env=pure b:=⟨_,rfl⟩
     obtain ⟨b,hb⟩:=hb
     cases b with
     |false=>exact psI (mU S.nd hi l (aB _ S h2) hb f) go
     |true=>
      refine psI (RP S.nd hi l (N.map Str.ofString) cap S.calm (uP it S C.it) (qJ S.N C.cap) s1 s2 s3 s4 (uO C.it X.env) hb f) fun D σ H hq=>el hq fun ρ F G e0 he r hw=>?_
      rw[iB]at hw
      rw[ud]at hw
      refine Bm (fz:=fz) (Q:=fun v H1=>D.nx (σ.set i (some v)) H1) S C.nd (fun S'=>aB elt S') (fun S'=>fJ cond S') C.tg C.cd C.el e0 he r (jy it (fun items g G1 q=>?_) hw)
      refine pQ (fun d ρ' G' k1 k2 hk z=>d8 (fun ρ1 z=>cH cond (fun b G2 z=>by
       cases b with
       |true=>exact aD elt (fun y G3 z=>hk _ _ _ z) z
       |false=>exact hk _ _ _ z) z) tg z) ?_ _ _ _ _ q
      ·intro ds G2 q
       refine dj (fun d G3 q=>?_) q
       intro H1 F1 v x1 r1 rv
       unfold aU at q
       exact q _ _ _ x1 ((he.ext x1).set rv i) r1
    |_=>cases h3
theorem W5(S:Stat Φ CX k c E B X){ts:Tgs}{x:Ex}{st:Stmt}(h:aY c (.asg (.tp ts) x) st=true):PS X st (tS X.K B (wpS Φ (.asg (.tp ts) x) E)):=by
 replace h:=Ax h
 obtain ⟨tg,e,pos,rfl,h⟩:=h
 ·rw[Bool.and_eq_true,Bool.and_eq_true]at h
  have h34:(!zY e&&!cJ e)=true:=h.2
  obtain ⟨h1,h2⟩:=h.1
  rw[Bool.and_eq_true,Bool.not_eq_true',Bool.not_eq_true']at h34
  obtain ⟨h3,h4⟩:=h34
  have hg:=qF S (.tp ts) h1
  replace h1:=uH h1
  obtain ⟨_,_,_,rfl,h1⟩:=h1
  ·refine psI (wX (aB x S h2) hg (Bu h4 _ _ _) ?_ rfl) fun D σ H hq=>el hq fun ρ F G e0 he r hw=>?_
   ·cases e <;> first |rfl |exact nomatch (show true=false from h3)
   ·rw[iB]at hw
    refine aL e0 he r hw fun d G1 H1 F1 v q e1 x1 he1 r1 rv=>?_
    exact ⟨ρ,F1,G1,d,e1,he1,r1,rv,d8 (fun ρ' z σ' hσ=>z H1 F1 σ' x1 hσ r1) (.tp ts) q⟩
theorem W6(S:Stat Φ CX k c E B X){o i x:Ex}{st:Stmt}(h:aY c (.set o i x) st=true):PS X st (tS X.K B (wpS Φ (.set o i x) E)):=by
 replace h:=VD h
 obtain ⟨o',i',tpos,e,pos,rfl,h⟩:=h
 ·simp only[Bool.and_eq_true,Bool.not_eq_true']at h
  obtain ⟨⟨⟨h1,h2⟩,h3⟩,h4⟩:=h
  have hi:=bG i h2
  refine psI (wX (aB x S h3) (Pk (aB o S h1) (aB i S h2) Vd ?_) (Bu h4 _ _ _) ?_ rfl) fun D σ H hq=>el hq fun ρ F G e0 he r hw=>?_
  ·intro v
   cases i' <;> first |rfl |exact nomatch (show false=true from hi)
  ·cases e <;> rfl
  ·rw[pB]at hw
   refine aL e0 he r hw fun d G1 H1 F1 v q e1 x1 he1 r1 rv=>?_
   refine aL e1 he1 r1 q fun a G2 H2 F2 w q e2 x2 he2 r2 rw'=>?_
   refine aL e2 he2 r2 q fun y G3 H3 F3 u q e3 x3 he3 r3 ru=>?_
   refine ⟨F3,G3,a,y,d,r3,rw'.ext x3,ru,rv.ext (x2.trans x3),uf (fun G4 q=>?_) q⟩
   intro H4 F4 x4 r4
   exact q _ _ _ (x1.trans (x2.trans (x3.trans x4))) (he3.ext x4) r4
theorem W7(S:Stat Φ CX k c E B X){i:Nat}{op:Operator}{x:Ex}{st:Stmt}(h:aY c (.aug i op x) st=true):PS X st (tS X.K B (wpS Φ (.aug i op x) E)):=nomatch (show false=true from h)
theorem W8(S:Stat Φ CX k c E B X){o i:Ex}{op:Operator}{x:Ex}{st:Stmt}(h:aY c (.augs o i op x) st=true):PS X st (tS X.K B (wpS Φ (.augs o i op x) E)):=nomatch (show false=true from h)
theorem W9(S:Stat Φ CX k c E B X){x:Ex}{st:Stmt}(h:aY c (.ret x) st=true):PS X st (tS X.K B (wpS Φ (.ret x) E)):=by
 replace h:=VN h
 obtain ⟨_,_,rfl,h⟩:=h
 ·refine psI (OJ (aB x S h)) fun D σ H hq=>el hq fun ρ F G e0 he r hw=>?_
  rw[pC]at hw
  exact ⟨ρ,F,G,e0,he,r,hw⟩
theorem Xa{st:Stmt}(h:aY c .rtn st=true):PS X st (tS X.K B (wpS Φ .rtn E)):=by
 replace h:=VP h
 obtain ⟨_,rfl,h⟩:=h
 ·refine psI O2 fun D σ H hq=>el hq fun ρ F G e0 he r hw=>?_
  rw[pF]at hw
  exact hw.now r rfl
theorem Xb(S:Stat Φ CX k c E B X){t:Tx}{a b:Sxs}(iha:iT Φ c E B X a)(ihb:iT Φ c E B X b){st:Stmt}(h:aY c (.ite t a b) st=true):PS X st (tS X.K B (wpS Φ (.ite t a b) E)):=by
 replace h:=VR h
 obtain ⟨_,_,_,_,rfl,h⟩:=h
 ·simp only[Bool.and_eq_true]at h
  obtain ⟨⟨h1,h2⟩,h3⟩:=h
  refine psI (O4 (fJ t S h1) (iha h2) (ihb h3)) fun D σ H hq=>el hq fun ρ F G e0 he r hw=>?_
  rw[pG]at hw
  refine iK e0 he r hw fun b' G1 H1 F1 q e1 x1 he1 r1=>?_
  cases b' with
  |true=>
   rw[if_pos rfl]
   exact ⟨ρ,F1,G1,e1,he1,r1,cR a (EnD.later x1) q⟩
  |false=>
   rw[if_neg Bool.false_ne_true]
   exact ⟨ρ,F1,G1,e1,he1,r1,cR b (EnD.later x1) q⟩
theorem Xc(S:Stat Φ CX k c E B X){t:Tg}{it:It'}{b:Sxs}(ihb:iT Φ c E B X b){st:Stmt}(h:aY c (.for_ t it b) st=true):PS X st (tS X.K B (wpS Φ (.for_ t it b) E)):=by
 replace h:=VV h
 obtain ⟨tg,iter,body,pos,rfl,h⟩:=h
 ·simp only[Bool.and_eq_true]at h
  obtain ⟨⟨h1,h2⟩,h3⟩:=h
  refine psI (Pz S.own S.calm (uP it S h2) (qF S t h1) (ihb h3) (uO h2 X.env)) fun D σ H hq=>el hq fun ρ F G e0 he r hw=>?_
  rw[yV]at hw
  refine ⟨ρ,F,G,e0,he,r,jy it (fun items g G1 q H1 F1 J x1 r1 W=>?_) hw⟩
  let step:RF.D→ak→DH→(ak→DH→Prop)→Prop:=fun d ρ' G' k=>aU t d ρ' G' fun ρ1=>au Φ b E ρ1 G' { EnD X.K H F D with nx:=k,ct:=k,bk:=(EnD X.K H F D).nx }
  let P:Nat→L2.St→Hp→Prop:=fun i σ' H'=>∃ρ' F' G',Ext B.H B.F H' F'∧Ext H1 F1 H' F'∧EnvR X.K H' F' ρ' σ'∧R X.K H' F' G'∧forLoop step g (items.drop i) ρ' G' (EnD X.K H F D).nx
  refine ⟨fun i m σ' H'=>m=items.length - i∧i≤items.length∧P i σ' H',⟨items.length,by simp,Nat.zero_le _,ρ,F1,G1,e0.trans x1,Ext.refl _ _,he.ext x1,r1,q⟩,?_⟩
  rintro i m σ' H' ⟨rfl,hle,ρ',F',G',eB,e1,he',r',hl⟩
  by_cases hlt:i < items.length
  ·have hd:items.drop i=items[i]::items.drop (i+1):=List.drop_eq_getElem_cons hlt
   rw[hd]at hl
   obtain ⟨hh,hl⟩:=hl
   refine .inr ⟨W.go H' F' G' i e1 r' hh hlt,P (i+1),fun σ2 H2 p=>⟨items.length - (i+1),by omega,rfl,hlt,p⟩,fun x H2 hy=>?_⟩
   obtain ⟨xy,ry,rx⟩:=W.yld H' F' i x H2 items[i] G' e1 r' hh (by simp[hlt]) hy
   refine ⟨ρ',F',G',items[i],eB.trans xy,he'.ext xy,ry,rx,d8 (fun ρ1 z σ1 hσ1=>?_) t hl⟩
   refine ⟨ρ1,F',G',eB.trans xy,hσ1,ry,cR b (D:={ EnD X.K H F D with nx:=fun ρ' G'=>forLoop step g (items.drop (i+1)) ρ' G' (EnD X.K H F D).nx,ct:=fun ρ' G'=>forLoop step g (items.drop (i+1)) ρ' G' (EnD X.K H F D).nx,bk:=(EnD X.K H F D).nx }) ⟨fun ρ2 G2 z H3 F3 σ3 x3 he3 r3=>?_,fun d G2 z=>PV.later z (x1.trans (e1.trans xy)),fun ρ2 G2 z H3 F3 σ3 x3=>z H3 F3 σ3 (x1.trans (e1.trans (xy.trans x3))),fun ρ2 G2 z H3 F3 σ3 x3 he3 r3=>?_⟩ z⟩
   ·exact ⟨ρ2,F3,G2,eB.trans (xy.trans x3),e1.trans (xy.trans x3),he3,r3,z⟩
   ·exact ⟨ρ2,F3,G2,eB.trans (xy.trans x3),e1.trans (xy.trans x3),he3,r3,z⟩
  ·have hi':i=items.length:=by omega
   subst hi'
   rw[List.drop_length]at hl
   exact .inl ⟨W.stop H' F' G' e1 r' hl.1,hl.2 _ _ _ (x1.trans e1) he' r'⟩
theorem Xd(S:Stat Φ CX k c E B X){t:Tx}{b:Sxs}(ihb:iT Φ c E B X b){st:Stmt}(h:aY c (.whl t b) st=true):PS X st (tS X.K B (wpS Φ (.whl t b) E)):=nomatch (show false=true from h)
def tJ(K:PySem.W.Frag)(B:Bs)(w:ak→DH→(DH→Prop)→Prop):TJ:=fun σ H Q=>∃ρ F G,Ext B.H B.F H F∧EnvR K H F ρ σ∧R K H F G∧w ρ G fun G'=>∀H' F',Ext H F H' F'→R K H' F' G'→Q H'
theorem pjI{X:Cx}{ps:List Expr}{t t':TJ}{n:Nat}(h:PJ X ps t n)(i:∀σ H Q,t' σ H Q→t σ H Q):PJ X ps t' n:=fun pins s σ H Q out I hl q=>h pins s σ H Q out I hl (i σ H Q q)
theorem uR{E:EK}{ρ:ak}:∀(es:Exs){G:DH}{k k':DH→Prop},(∀G',k G'→k' G')→wpM Φ es E ρ G k→wpM Φ es E ρ G k'
 |.nil,G,k,k',h,q=>h G q
 |.cons e es,G,k,k',h,q=>by
  rw[pK]at q ⊢
  exact aD e (fun d G1 q=>⟨q.1,uR es h q.2⟩) q
theorem Bv{p:Expr}(h:uD p=true):∃y k pos,p=.Constant (.str y) k pos∧y.length≤1000:=by
 obtain ⟨t,ht,h⟩:=aH h
 obtain ⟨x,hx,h⟩:=aH h
 exact ⟨x,_,_,by rw[ht,hx],of_decide_eq_true h⟩
theorem uT(S:Stat Φ CX k c E B X):∀(ps:List Expr){es:Exs},jH c es ps=true→∃n,n≤1000 * ps.length∧PJ X ps (tJ X.K B (wpM Φ es E)) n
 |[],es,h=>by
  cases es with
  |nil=>exact ⟨0,Nat.zero_le _,pjI R6 fun σ H Q hq=>el hq fun ρ F G e0 he r hw=>hw H F (Ext.refl _ _) r⟩
  |cons _ _=>exact nomatch (show false=true from h)
 |p::ps,es,h=>by
  unfold jH at h
  split at h
  ·rename_i hm
   obtain ⟨y,kk,pos,rfl,hy⟩:=Bv hm
   obtain ⟨n,hn,hp⟩:=uT S ps h
   exact ⟨y.length+n,by rw[List.length_cons];omega,R7 hp⟩
  ·split at h
   ·rename_i x rr
    rw[Bool.and_eq_true]at h
    obtain ⟨t,ht,h1⟩:=aH h.1
    rw[Bool.and_eq_true,Bool.and_eq_true,Option.isNone_iff_eq_none,decide_eq_true_iff]at h1
    obtain ⟨n,hn,hp⟩:=uT S ps h.2
    refine ⟨3+n,by rw[List.length_cons];omega,?_⟩
    rw[ht,h1.1.1,h1.1.2]
    refine pjI (R8 (aB x S h1.2) hp) fun σ H Q hq=>el hq fun ρ F G e0 he r hw=>?_
    rw[pK]at hw
    refine aL e0 he r hw fun d G1 H1 F1 v q e1 x1 he1 r1 rv=>?_
    obtain ⟨q1,q2⟩:=q
    unfold iw at q1
    split at q1
    ·rename_i i
     rw[Bool.and_eq_true,decide_eq_true_iff,decide_eq_true_iff]at q1
     have e2:v=.int i:=rv
     refine ⟨⟨i.toNat,by rw[e2];congr 1;omega,by omega⟩,ρ,F1,G1,e1,he1,r1,uR rr (fun G' z H' F' x' r'=>z H' F' (x1.trans x') r') q2⟩
    ·cases q1
   ·cases h
theorem Xe(S:Stat Φ CX k c E B X){C:String}{es:Exs}{st:Stmt}(h:aY c (.rse C es) st=true):PS X st (tS X.K B (wpS Φ (.rse C es) E)):=by
 replace h:=VF h
 obtain ⟨x,np,m,cpos,pos,rfl,h⟩:=h
 simp only[Bool.and_eq_true,beq_iff_eq]at h
 obtain ⟨⟨⟨e1,h1⟩,h2⟩,h3⟩:=h
 subst e1
 obtain ⟨g1,g2⟩:=cz h1
 obtain ⟨a,hm,hb,hn⟩:=S.xcl C h2
 obtain ⟨EX,_,hth,hEX⟩:=S.exc
 unfold qu at h3
 rw[Bool.or_eq_true]at h3
 rcases h3 with h3 |h3
 ·cases es with
  |cons _ _=>cases h3
  |nil=>
   obtain ⟨y,kk,p,rfl,hy⟩:=Bv h3
   refine psI (yK S.calm (S.glo _ g1) hm hb hth (eU wR gR rfl) (bx g2) rfl rfl) fun D σ H hq=>el hq fun ρ F G e0 he r hw=>?_
   rw[jw,tZ]at hw
   exact ⟨show 1≤sizeLine by decide,hEX ⟨C,.non⟩ G H F hw e0 r (.ref a) none ⟨a,rfl,hn,trivial⟩⟩
 ·obtain ⟨t,ht,h3⟩:=aH h3
  rw[Bool.and_eq_true,Bool.and_eq_true,decide_eq_true_iff,decide_eq_true_iff]at h3
  obtain ⟨n,hn',hp⟩:=uT S t.1 h3.2
  rcases hps:t.1 with _ |⟨v1,_ |⟨v2,r⟩⟩
  ·rw[hps]at h3;simp at h3
  ·rw[hps]at h3;simp at h3
  ·rw[hps]at hp
   subst ht
   rw[hps]at *
   refine psI (yK S.calm (S.glo _ g1) hm hb hth (eU (R9 hp (by omega)) gR rfl) (bx g2) rfl rfl) fun D σ H hq=>el hq fun ρ F G e0 he r hw=>?_
   rw[jw]at hw
   refine ⟨ρ,F,G,e0,he,r,uR es (fun G1 q H1 F1 x1 r1 y=>⟨show 1≤sizeLine by decide,?_⟩) hw⟩
   exact hEX ⟨C,.non⟩ G1 H1 F1 q (e0.trans x1) r1 (.ref a) none ⟨a,rfl,hn,trivial⟩
theorem Stat.wish(S:Stat Φ CX k c E B X)(E':Value→Shared→Prop)(ho:PassesOwn (model X.prog X.w) X.A X.env E'):Stat Φ CX k c noE B (X.wish E'):=
 ⟨S.N,S.nd,S.calm,ho,S.kd,S.vis,S.cel,S.glo,S.sto,S.room,S.call,S.blt,S.con,⟨_,S.nox _,fun _ _ _ _ _ _ _ _ _ _ q=>q.elim,fun x G' H' F' h=>h.elim⟩,S.nox,S.xcl,S.loc,S.xis,S.trc⟩
theorem Xf(S:Stat Φ CX k c E B X){f:String}{es:Exs}{C:String}{i:Nat}{b:Bool}{st:Stmt}(h:aY c (.tryc f es C i b) st=true):PS X st (tS X.K B (wpS Φ (.tryc f es C i b) E)):=nomatch (show false=true from h)
def PNx(K:PySem.W.Frag)(H:Hp)(F:FZ)(nx:L2.St→Hp→Prop):ak→DH→Prop:=fun ρ' G'=>∀H' F' σ',Ext H F H' F'→EnvR K H' F' ρ' σ'→R K H' F' G'→nx σ' H'
def PEx(K:PySem.W.Frag)(H:Hp)(F:FZ)(ex:Value→L2.St→Hp→Prop):Xn→ak→DH→Prop:=fun x ρ' G'=>∀H' F' σ' cv od,Ext H F H' F'→EnvR K H' F' ρ' σ'→R K H' F' G'→XV K H' F' x cv od→ex cv σ' H'
def tXX(K:PySem.W.Frag)(B:Bs)(w:ak→DH→(ak→DH→Prop)→(Xn→ak→DH→Prop)→Prop):TX:=fun nx ex σ H=>∃ρ F G,Ext B.H B.F H F∧EnvR K H F ρ σ∧R K H F G∧w ρ G (PNx K H F nx) (PEx K H F ex)
theorem pxI{X:Cx}{sts:List Stmt}{t t':TX}(h:PXs X sts t)(i:∀nx ex σ H,t' nx ex σ H→t nx ex σ H):PXs X sts t':=fun pins s σ H nx ex E' I ho hE q=>h pins s σ H nx ex E' I ho hE (i nx ex σ H q)
theorem qK{B:Bs}{c:CT}{E:EK}{X:Cx}(S:Stat Φ (CX1 X.prog X.w) k c E B X):∀(b:Tb){sts:List Stmt},cL c b sts=true→PXs X sts (tXX X.K B (wpX Φ b))
 |.call f es,sts,h=>by
  obtain ⟨x,p,args,cpos,p0,rfl,h1⟩:=VJ h
  simp only[Bool.and_eq_true,beq_iff_eq,List.any_eq_true]at h1
  obtain ⟨⟨⟨⟨e1,h1⟩,⟨f',n⟩,hm,e2,e3⟩,h4⟩,h5⟩:=h1
  simp only at e2 e3
  subst e1 e2 e3
  obtain ⟨g1,g2⟩:=cz h1
  obtain ⟨fa,fd,ps,F0,hk,hb,hmg⟩:=S.call _ _ hm
  cases args with
  |nil=>cases h4
  |cons e0 es0=>
   obtain ⟨x0,xs',rfl,c1,c2⟩:=gC h5
   refine pxI (SQ (ta:=tL X.K B (aN Φ (.cons x0 xs') noE)) F0 S.room (S.glo _ g1) hmg hk hb (fun E' ho=>EachE.oks (du (.cons x0 xs') (S.wish E' ho)) h5) rfl (bx g2) (bN e0 es0 X.env (cu (bG x0 c1))) (iQ c2 X.env cpos)) fun nx ex σ H hq=>el hq fun ρ F G eB he r hw=>?_
   rw[pL]at hw
   refine b7 eB he r (qy _ h5 hw) fun ds G1 H1 F1 vs q e1 x1 he1 r1 rvs=>?_
   exact ⟨by rw[←rvs.length];exact q.1,F1,G1,ds,r1,rvs,Spec.mono q.2 (fun d G2 z H2 F2 v x2 r2 _=>z H2 F2 σ (x1.trans x2) (he1.ext x2) r2) fun xn G2 z H2 F2 x2 r2 cv od hv=>z H2 F2 σ cv od (x1.trans x2) (he1.ext x2) r2 hv⟩
 |.asg i f es,sts,h=>by
  obtain ⟨y,p2,x,p,args,cpos,p0,rfl,h0,h1⟩:=VL h
  simp only[Bool.and_eq_true,beq_iff_eq,List.any_eq_true]at h0 h1
  obtain ⟨⟨hi,hs⟩,hok⟩:=h0
  obtain ⟨⟨⟨⟨e1,h1⟩,⟨f',n⟩,hm,e2,e3⟩,h4⟩,h5⟩:=h1
  simp only at e2 e3
  subst e1 e2 e3
  obtain ⟨g1,g2⟩:=cz h1
  obtain ⟨fa,fd,ps,F0,hk,hb,hmg⟩:=S.call _ _ hm
  obtain ⟨hloc,hfn⟩:=S.sto _ hs
  cases args with
  |nil=>cases h4
  |cons e0 es0=>
   obtain ⟨x0,xs',rfl,c1,c2⟩:=gC h5
   refine pxI (SX (i:=i) (ta:=tL X.K B (aN Φ (.cons x0 xs') noE)) F0 S.room (S.glo _ g1) hmg hk hb S.nd (by rw[S.N];exact hi) hloc hfn (fun E' ho=>EachE.oks (du (.cons x0 xs') (S.wish E' ho)) h5) rfl (bx g2) (bN e0 es0 X.env (cu (bG x0 c1))) (iQ c2 X.env cpos)) fun nx ex σ H hq=>el hq fun ρ F G eB he r hw=>?_
   rw[pM]at hw
   refine b7 eB he r (qy _ h5 hw) fun ds G1 H1 F1 vs q e1 x1 he1 r1 rvs=>?_
   exact ⟨by rw[←rvs.length];exact q.1,F1,G1,ds,r1,rvs,Spec.mono q.2 (fun d G2 z H2 F2 v x2 r2 rv=>z H2 F2 _ (x1.trans x2) (EnvR.set rv i (he1.ext x2)) r2) fun xn G2 z H2 F2 x2 r2 cv od hv=>z H2 F2 σ cv od (x1.trans x2) (he1.ext x2) r2 hv⟩
 |.ite t a b,sts,h=>by
  obtain ⟨e,xa,xb,pos,rfl,h1,h2,h3⟩:=VM h
  refine pxI (S5 (tc:=tB' X.K B (wpT Φ t noE)) (fun E' ho=>fJ t (S.wish E' ho) h1) (qK S a h2) (qK S b h3)) fun nx ex σ H hq=>el hq fun ρ F G eB he r hw=>?_
  rw[pN]at hw
  refine iK eB he r hw fun d G1 H1 F1 q e1 x1 he1 r1=>?_
  have later:∀(z:Tb),wpX Φ z ρ G1 (PNx X.K H F nx) (PEx X.K H F ex)→tXX X.K B (wpX Φ z) nx ex σ H1:=fun z q=>⟨ρ,F1,G1,e1,he1,r1,iC z (fun _ _ w H2 F2 σ2 x2=>w H2 F2 σ2 (x1.trans x2)) (fun _ _ _ w H2 F2 σ2 cv od x2=>w H2 F2 σ2 cv od (x1.trans x2)) q⟩
  cases d with
  |true=>exact later a q
  |false=>exact later b q
theorem Xg(S:Stat Φ CX k c E B X){b:Tb}{C:String}{hd:Hd}{xs:List String}{st:Stmt}(h:aY c (.tryx b C hd xs) st=true):PS X st (tS X.K B (wpS Φ (.tryx b C hd xs) E)):=by
 obtain ⟨body,cx,p1,nm,y,p2,e,p4,p5,pos,rfl,h1,h2,h3,h4,h5⟩:=VH h
 simp only[Bool.and_eq_true,beq_iff_eq]at h4
 obtain ⟨⟨ec,hc⟩,hcx⟩:=h4
 subst ec
 obtain ⟨g3,g4⟩:=cz hc
 have hne:c.xs≠[]:=fun e=>by rw[e]at hcx;cases hcx
 obtain ⟨ecx,hst,hex⟩:=S.trc hne
 subst ecx
 obtain ⟨cv,hcv,hall⟩:=S.xis C hcx
 have hcat:∃a,cv=.ref a∧X.mg (Str.ofString C)=some (.ref a)∧Cat X.K a:=by
  rcases hcv with ⟨a,e,hm,hb⟩ |⟨e,_,_⟩
  ·exact ⟨a,e,hm,yN hb⟩
  ·rw[e]at h3;cases h3
 obtain ⟨a,rfl,ham,hca⟩:=hcat
 unfold qw at h5
 rw[Bool.and_eq_true,Bool.and_eq_true]at h5
 obtain ⟨⟨h5,hsy⟩,hoy⟩:=h5
 obtain ⟨hloc,hfn⟩:=S.sto _ hsy
 have cls:∀{x:Xn}{H':Hp}{F':FZ}{cv:Value}{od:Option Addr},xs.contains x.cls=true→dh x.cls C=true→XV X.K H' F' x cv od→∃d,cv=.ref d∧PySem.W.mroIn X.K d (.ref a)=some true∧PySem.W.nsIn X.K mainGlobals (Str.ofString x.cls)=some (some (.ref d)):=by
  intro x H' F' cv od hx hs hv
  obtain ⟨d,rfl,hn,_⟩:=hv
  obtain ⟨c1,k1,_,k4,_⟩:=hall x.cls (List.all_eq_true.mp h2 _ (List.contains_iff_mem.mp hx))
  rw[k1]at hn
  have ed:c1=d:=by simpa using hn
  subst ed
  rw[hs]at k4
  exact ⟨c1,rfl,k4,k1⟩
 cases hd with
 |flag i v=>
  simp only[Bool.and_eq_true,beq_iff_eq,Option.isNone_iff_eq_none]at h5
  obtain ⟨⟨rfl,hi⟩,h6⟩:=h5
  obtain ⟨kk,hk,h6⟩:=aH h6
  have ek:=VG h6
  subst hk
  rw[ek]
  refine psI (S8 (qK S b h1) hst (S.glo _ g3) ham hca S.nd (by rw[S.N];exact hi) hloc hfn rfl (bx g4)) fun D σ H hq=>el hq fun ρ F G eB he r hw=>?_
  rw[jx]at hw
  refine ⟨ρ,F,G,eB,he,r,iC b (fun ρ' G' z H' F' σ' x' he' r'=>z H' F' σ' x' he' r') (fun x ρ' G' z H' F' σ' cv od x' he' r' hv=>?_) hw⟩
  obtain ⟨z1,z2,z3,z4⟩:=z
  obtain ⟨d,e1,e2,_⟩:=cls z2 z3 hv
  exact ⟨d,e1,e2,z4 H' F' _ x' (EnvR.set (d:=.bl v) (v:=.bl v) (show V.bl v=.bl v from rfl) i he') r'⟩
 |bind n i=>
  obtain ⟨nn,hnn,h6⟩:=aM h5
  simp only[Bool.and_eq_true,beq_iff_eq]at h6
  obtain ⟨⟨⟨⟨hi,hj⟩,hkd⟩,hon⟩,h7⟩:=h6
  obtain ⟨zz,hz,h8⟩:=aH h7
  rw[beq_iff_eq]at h8
  rw[h8]at hz
  subst hz hnn
  have hnl:X.env.scope.names.lookup nn=some .local:=S.loc nn hkd
  refine psI (Tc (jn:=n) (qK S b h1) hst hex (S.glo _ g3) ham hca S.nd (by rw[S.N];exact hi) hloc hfn (by rw[S.N];exact hj) (by rw[S.kd];exact hnl) hnl (bx hon) (Bb hon) rfl (bx g4)) fun D σ H hq=>el hq fun ρ F G eB he r hw=>?_
  rw[jx]at hw
  refine ⟨ρ,F,G,eB,he,r,iC b (fun ρ' G' z H' F' σ' x' he' r'=>z H' F' σ' x' he' r') (fun x ρ' G' z H' F' σ' cv od x' he' r' hv=>?_) hw⟩
  obtain ⟨z1,z2,z3,z4⟩:=z
  obtain ⟨d,e1,e2,e3⟩:=cls z2 z3 hv
  refine ⟨d,e1,e2,fun a0 o0 hn0 hc0=>?_⟩
  have xx:Ext H' F' (upd H' a0 (.frz o0 (.own a0))) F':=cY r' hn0
  have rr:R X.K (upd H' a0 (.frz o0 (.own a0))) F' G':=r'.new hn0
  have rx:Rep X.K (upd H' a0 (.frz o0 (.own a0))) F' (.exn x.cls) (.ref a0):=⟨a0,d,rfl,⟨o0,a0,cV,hc0⟩,e3⟩
  exact z4 _ F' _ (x'.trans xx) (EnvR.unset n (EnvR.set rx i (EnvR.set rx n (he'.ext xx)))) rr
theorem Xh{st:List Stmt}(h:aC c .nil st=true):PSs X st (tS X.K B (au Φ .nil E)):=by
 unfold aC at h
 cases st with
 |nil=>exact Bt Ol fun D σ H hq=>el hq fun ρ F G e0 he r hw=>by rw[iy]at hw;exact hw _ _ _ (Ext.refl _ _) he r
 |cons _ _=>cases h
theorem Xi{x:Sx}{xs:Sxs}(ih:OkS Φ c E B X x)(ihs:iT Φ c E B X xs){st:List Stmt}(h:aC c (.cons x xs) st=true):PSs X st (tS X.K B (au Φ (.cons x xs) E)):=by
 unfold aC at h
 split at h
 ·rw[Bool.and_eq_true]at h
  refine Bt (Om (ih h.1) (ihs h.2)) fun D σ H hq=>el hq fun ρ F G e0 he r hw=>?_
  rw[iz]at hw
  refine ⟨ρ,F,G,e0,he,r,wpS_mono x (D:={ EnD X.K H F D with nx:=fun ρ' G'=>au Φ xs E ρ' G' (EnD X.K H F D) }) ⟨fun ρ1 G1 q H1 F1 σ1 x1 he1 r1=>?_,fun _ _ z=>z,fun _ _ z=>z,fun _ _ z=>z⟩ hw⟩
  exact ⟨ρ1,F1,G1,e0.trans x1,he1,r1,cR xs (EnD.later x1) q⟩
 ·cases h
end
mutual
theorem Xj{Φ:aa}{CX:CXT}{k:Nat}{B:Bs}{c:CT}{E:EK}{X:Cx}(S:Stat Φ CX k c E B X):∀(x:Sx),OkS Φ c E B X x
 |.exp e=>by intro h;exact W3 S h
 |.asg (.nm i) e=>by intro h;exact W4 S h
 |.asg (.tp ts) e=>by intro h;exact W5 S h
 |.set o i e=>by intro h;exact W6 S h
 |.aug i op e=>by intro h;exact W7 S h
 |.augs o i op e=>by intro h;exact W8 S h
 |.ret e=>by intro h;exact W9 S h
 |.rtn=>by intro h;exact Xa h
 |.ite t a b=>by intro h;exact Xb S (gD S a) (gD S b) h
 |.for_ t it b=>by intro h;exact Xc S (gD S b) h
 |.whl t b=>by intro h;exact Xd S (gD S b) h
 |.pas=>by
  intro h
  obtain ⟨_,rfl,_⟩:=V0 h
  exact psI Ot fun D σ H hq=>el hq fun ρ F G e0 he r hw=>by rw[pH]at hw;exact hw _ _ _ (Ext.refl _ _) he r
 |.brk=>by
  intro h
  obtain ⟨_,rfl,_⟩:=V1 h
  exact psI Ou fun D σ H hq=>el hq fun ρ F G e0 he r hw=>by rw[pI]at hw;exact hw _ _ _ (Ext.refl _ _) he r
 |.cnt=>by
  intro h
  obtain ⟨_,rfl,_⟩:=V2 h
  exact psI Ov fun D σ H hq=>el hq fun ρ F G e0 he r hw=>by rw[pJ]at hw;exact hw _ _ _ (Ext.refl _ _) he r
 |.rse C es=>by intro h;exact Xe S h
 |.tryc f es C i b=>by intro h;exact Xf S h
 |.tryx b C h xs=>by intro hh;exact Xg S hh
 |.nev=>by
  intro h
  exact psI O6 fun D σ H hq=>el hq fun ρ F G e0 he r hw=>by rw[pO]at hw;exact hw.elim
theorem gD{Φ:aa}{CX:CXT}{k:Nat}{B:Bs}{c:CT}{E:EK}{X:Cx}(S:Stat Φ CX k c E B X):∀(x:Sxs),iT Φ c E B X x
 |.nil=>by intro h;exact Xh h
 |.cons s r=>by intro h;exact Xi (Xj S s) (gD S r) h
end
end RF
namespace L2
open PySem PySem.Spec PyProof.Rows
theorem Fun.okX{P:Program}{w:World}{K:PySem.W.Frag}{mg:Str→Option Value}{base:Heap}{CX:CXT}{x qual:Str}{st:Stmt}{f:Addr}{fd:FuncData}{N ps:List Str}{k:Nat}{sp:Sp}(F:Fun K x qual st f fd)(S:FnScope N ps (aq st))(len:∀vs H Q E,sp vs H Q E→vs.length=ps.length)
  (hbody:∀(cdv:Value)(A:Around)(outer:List Env)(s:Shared)(H:Hp)(vs:List V)(Q:VK)(E:XK),Room k (A.deeper (envOfC qual (aq st) s.heap.objs.size f cdv))→sp vs H Q E→
   ∃t,PSs (dB CX P w K mg base N qual (aq st) f cdv A outer s H E) (aG st) t∧t { nx:=fun _ H'=>Q .non H',rt:=Q } (start N vs) H):FnOk P w K mg base CX (k+1) f fd ps sp:=by
 obtain ⟨oc,od,kV,doc,pm,an,cdv,ct,osl,rfl,lk,hcd⟩:=F.ex
 exact QC lk hcd S len fun A outer s H vs Q E hr hsp=>hbody cdv A outer s H vs Q E hr hsp
end L2
namespace RF
open PySem PySem.Spec PyProof.Rows L2
def fnB(N ps:List Str)(sc:Scope):Bool:=
 decide (sc.kind=.function)&&!sc.isCoroutine&&!sc.isGenerator&&dF N&&(N.take ps.length==ps)&&ps.all (fun x=>sc.names.lookup x==some .local||sc.names.lookup x==some .cell)&&sc.names.all (fun y=>y.2 != .free)
theorem uU{N ps:List Str}{sc:Scope}(h:fnB N ps sc=true):FnScope N ps sc:=by
 unfold fnB at h
 simp only[Bool.and_eq_true,Bool.not_eq_true',decide_eq_true_iff,beq_iff_eq,List.all_eq_true,Bool.or_eq_true,bne_iff_ne]at h
 obtain ⟨⟨⟨⟨⟨⟨h1,h2⟩,h3⟩,h4⟩,h5⟩,h6⟩,h7⟩:=h
 exact ⟨h1,h2,h3,uN h4,h5,h6,fun y hy=>h7 y hy⟩
structure Bse(Φ:aa)(P:Program)(w:World)(K:PySem.W.Frag)(mg:Str→Option Value)(base:Heap)(CX:CXT)(k:Nat)(fs:List (String×Nat))(bt:List String)(cn:List (String×D))(xs:List (String×Bool)):Prop where
 call:∀f n,(f,n)∈fs→∃fa fd ps,FnOk P w K mg base CX k fa fd ps (lift K n (Φ f))∧PySem.W.keepIn K (.ref fa)=true∧Binds K fd ps []∧mg (Str.ofString f)=some (.ref fa)
 blt:∀f,f∈bt→mg (Str.ofString f)=none
 con:∀x d,(x,d)∈cn→∃u v,mg (Str.ofString x)=some u∧RelV v u∧∀H F,Rep K H F d v
 xcl:∀C,xs.contains (C,true)=true→∃a,mg (Str.ofString C)=some (.ref a)∧gb K a=true∧PySem.W.nsIn K mainGlobals (Str.ofString C)=some (some (.ref a))
 xis:∀C',xs.contains (C',false)=true→∃cv,CV K mg C' cv∧∀C,xs.contains (C,true)=true→XI K C C' cv
def aK(N:List Str)(sc:Scope)(fs:List (String×Nat))(bt:List String)(cn:List (String×D))(xs:List (String×Bool)):CT:={ N:=N,kd:=sc.names,fn:=true,fs:=fs,bt:=bt,cn:=cn,xs:=xs }
section
variable {Φ:aa} {P:Program} {w:World} {K:PySem.W.Frag} {mg:Str→Option Value} {base:Heap} {k:Nat} {fs:List (String×Nat)} {bt:List String} {cn:List (String×D)} {xs:List (String×Bool)}
theorem Bw{N ps:List Str}{sc:Scope}{qual:Str}{f:Addr}{cdv:Value}{A:Around}{outer:List Env}{s:Shared}{H:Hp}{EX:XK}{B:Bs}(T:Bse Φ P w K mg base (CX1 P w) k fs bt cn xs)(hs:fnB N ps sc=true)
  (hr:Room k (A.deeper (envOfC qual sc s.heap.objs.size f cdv))):Stat Φ (CX1 P w) k (aK N sc fs bt cn xs) noE B (dB (CX1 P w) P w K mg base N qual sc f cdv A outer s H EX).nox where
 N:=rfl
 nd:=(uU hs).nd
 calm:=rfl
 own:=PassesOwn.never
 kd:=rfl
 vis:=fun x h=>by
  have h:gw (sc.names.lookup x)=true:=h
  show sc.names.lookup x=_∨sc.names.lookup x=_∨sc.names.lookup x=_
  unfold gw at h
  split at h <;> first | (cases h;done) |simp_all
 cel:=fun x h=>h
 glo:=fun x h=>h
 sto:=fun x h=>by
  have h:(sc.names.lookup x==some .local||(true&&sc.names.lookup x==some .cell))=true:=h
  rw[Bool.true_and,Bool.or_eq_true,beq_iff_eq,beq_iff_eq]at h
  exact ⟨h,.inl rfl⟩
 room:=hr
 call:=T.call
 blt:=T.blt
 con:=T.con
 exc:=⟨_,yD _,fun _ _ _ _ _ _ _ _ _ _ q=>q.elim,fun _ _ _ _ h=>h.elim⟩
 nox:=fun Y=>yD Y
 xcl:=T.xcl
 loc:=fun x h=>h
 xis:=T.xis
 trc:=fun _=>⟨rfl,rfl,rfl⟩
theorem Xk{N ps:List Str}{sc:Scope}{qual:Str}{f:Addr}{cdv:Value}{A:Around}{outer:List Env}{s:Shared}{H:Hp}{EX:XK}{B:Bs}{E:EK}(T:Bse Φ P w K mg base (CX1 P w) k fs bt cn xs)(hs:fnB N ps sc=true)
  (hr:Room k (A.deeper (envOfC qual sc s.heap.objs.size f cdv))) (hE:∀x G' H' F',E x G'→Ext B.H B.F H' F'→R K H' F' G'→XR K H' F' x EX):Stat Φ (CX1 P w) k (aK N sc fs bt cn xs) E B (dB (CX1 P w) P w K mg base N qual sc f cdv A outer s H EX):=
 have S:=Bw (EX:=EX) (B:=B) (qual:=qual) (f:=f) (cdv:=cdv) (A:=A) (outer:=outer) (s:=s) (H:=H) T hs hr
 ⟨S.N,S.nd,S.calm,PassesOwn.leaving,S.kd,S.vis,S.cel,S.glo,S.sto,S.room,S.call,S.blt,S.con,⟨EX,R0 rfl rfl fun _ _ h=>h,Sd rfl rfl fun _ _ h=>h,hE⟩,S.nox,S.xcl,S.loc,S.xis,fun _=>⟨rfl,rfl,rfl⟩⟩
theorem Xl{outer:List Env}{H:Hp}{s s':Shared}{e:Value}(h:CX1 P w outer H s (fun _ _ _=>False) e s'):False:=by
 obtain ⟨_,_,_,_,_,_,_,_,_,q⟩:=h
 exact q
def ends(Q:D→DH→Prop):En:={ nx:=fun _ G=>Q .non G,rt:=Q,bk:=fun _ _=>False,ct:=fun _ _=>False }
def env0(ds:List D)(n:Nat):ak:=ds.map some++List.replicate n none
theorem Xm{x qual:Str}{st:Stmt}{f:Addr}{fd:FuncData}(Fu:Fun K x qual st f fd)(T:Bse Φ P w K mg base (CX1 P w) k fs bt cn xs){N ps:List Str}{body:Sxs}(S:RF.Spec)(n m:Nat)(hs:fnB N ps (aq st)=true)
  (hc:aC (aK N (aq st) fs bt cn xs) body (aG st)=true) (hn:ps.length=n) (hm:N.length=n+m)
  (hw:∀ds G a,ds.length=n→S.pre ds G a→au Φ body (S.exc a) (env0 ds m) G (ends (S.post a))):FnOk P w K mg base (CX1 P w) (k+1) f fd ps (lift K n S):=by
 refine Fu.okX (uU hs) (fun vs H Q E h=>by rw[hn];exact h.1) fun cdv A outer s H vs Q EX hr hsp=>?_
 obtain ⟨hl,F,G,ds,r,rs,a,h1,h2,h3⟩:=hsp
 have St:Stat Φ (CX1 P w) k (aK N (aq st) fs bt cn xs) (S.exc a) ⟨H,F⟩ (dB (CX1 P w) P w K mg base N qual (aq st) f cdv A outer s H EX):=Xk T hs hr fun x G' H' F' hx e r'=>h3 x G' hx H' F' e r'
 refine ⟨_,gD St body hc,?_⟩
 refine ⟨env0 ds m,F,G,Ext.refl _ _,?_,r,cR body (D:=ends (S.post a)) ⟨fun ρ G' q=>?_,fun d G' q=>h2 d G' q,fun _ _ q=>False.elim q,fun _ _ q=>False.elim q⟩ (hw ds G a (by rw[rs.length];exact hl) h1)⟩
 ·unfold L2.start
  rw[show N.length - vs.length=m by omega]
  exact EnvR.start m rs
 ·intro H' F' σ' x1 _ r1
  exact h2 .non G' q H' F' .non x1 r1 rfl
theorem Bx{x qual:Str}{st:Stmt}{f:Addr}{fd:FuncData}(Fu:Fun K x qual st f fd)(T:Bse Φ P w K mg base (CX1 P w) k fs bt cn xs){N ps:List Str}{body:Sxs}(S:RF.Spec)(n m:Nat)(hs:fnB N ps (aq st)=true)
  (hc:aC (aK N (aq st) fs bt cn xs) body (aG st)=true) (hn:ps.length=n) (hm:N.length=n+m)
  (hw:∀ds G a,ds.length=n→S.pre ds G a→au Φ body noE (env0 ds m) G (ends (S.post a))):FnOk P w K mg base (CX1 P w) (k+1) f fd ps (lift K n S):=by
 refine Fu.okX (uU hs) (fun vs H Q E h=>by rw[hn];exact h.1) fun cdv A outer s H vs Q EX hr hsp=>?_
 obtain ⟨hl,F,G,ds,r,rs,a,h1,h2,h3⟩:=hsp
 have St:Stat Φ (CX1 P w) k (aK N (aq st) fs bt cn xs) noE ⟨H,F⟩ (dB (CX1 P w) P w K mg base N qual (aq st) f cdv A outer s H EX).nox:=Bw T hs hr
 refine ⟨_,(gD St body hc).nox,?_⟩
 refine ⟨env0 ds m,F,G,Ext.refl _ _,?_,r,cR body (D:=ends (S.post a)) ⟨fun ρ G' q=>?_,fun d G' q=>h2 d G' q,fun _ _ q=>False.elim q,fun _ _ q=>False.elim q⟩ (hw ds G a (by rw[rs.length];exact hl) h1)⟩
 ·unfold L2.start
  rw[show N.length - vs.length=m by omega]
  exact EnvR.start m rs
 ·intro H' F' σ' x1 _ r1
  exact h2 .non G' q H' F' .non x1 r1 rfl
end
end RF
namespace RF
open PySem L2
def bf(pre:List D→DH→Prop)(post:List D→DH→D→DH→Prop):RF.Spec where
 A:=List D×DH
 pre:=fun ds G a=>a=(ds,G)∧pre ds G
 post:=fun a d G'=>post a.1 a.2 d G'
 exc:=fun _ _ _=>False
theorem bK{pre:List D→DH→Prop}{post:List D→DH→D→DH→Prop}{ds:List D}{G:DH}{k:D→DH→Prop}{E:EK}(h:pre ds G)(hk:∀d G',post ds G d G'→k d G'):(bf pre post).t ds G k E:=
 ⟨(ds,G),⟨rfl,h⟩,hk,fun _ _ z=>z.elim⟩
theorem bI{Φ:aa}{body:Sxs}{m n:Nat}{pre:List D→DH→Prop}{post:List D→DH→D→DH→Prop}(h:∀ds G,pre ds G→au Φ body noE (env0 ds m) G (ends (post ds G))):
  ∀ds G a,ds.length=n→(bf pre post).pre ds G a→au Φ body noE (env0 ds m) G (ends ((bf pre post).post a)):=by
 rintro ds G a _ ⟨rfl,h1⟩
 exact h ds G h1
def aO(f:List D→Option D):RF.Spec:=bf (fun ds _=>(f ds).isSome=true) (fun ds G d G'=>G'=G∧f ds=some d)
theorem cM{f:List D→Option D}{ds:List D}{d:D}{G:DH}{k:D→DH→Prop}{E:EK}(h:f ds=some d)(hk:k d G):(aO f).t ds G k E:=
 bK (by rw[h];rfl) fun d' G' ⟨e1,e2⟩=>by rw[h]at e2;cases e2;rw[e1];exact hk
theorem dG{Φ:aa}{body:Sxs}{m n:Nat}{f:List D→Option D}(h:∀ds G d,f ds=some d→au Φ body noE (env0 ds m) G (ends fun d' G'=>G'=G∧d'=d)):
  ∀ds G a,ds.length=n→(aO f).pre ds G a→au Φ body noE (env0 ds m) G (ends ((aO f).post a)):=by
 refine bI fun ds G hf=>?_
 obtain ⟨d,e⟩:=Option.isSome_iff_exists.mp hf
 refine cR body (D:=ends fun d' G'=>G'=G∧d'=d) ⟨fun ρ G' q=>?_,fun d' G' q=>?_,fun _ _ q=>q,fun _ _ q=>q⟩ (h ds G d e)
 ·exact ⟨q.1,by rw[e];exact congrArg some q.2.symm⟩
 ·exact ⟨q.1,by rw[e];exact congrArg some q.2.symm⟩
theorem Xo{step:D→ak→DH→(ak→DH→Prop)→Prop}{g:Hld}{items:List D}{ρ:ak}{G:DH}{k:ak→DH→Prop}(P:Nat→ak→DH→Prop)(h0:P 0 ρ G)(hh:∀i ρ G,P i ρ G→held g G)
  (hs:∀i d ρ G,items[i]?=some d→P i ρ G→∀kk:ak→DH→Prop,(∀ρ' G',P (i+1) ρ' G'→kk ρ' G')→step d ρ G kk) (he:∀ρ G,P items.length ρ G→k ρ G):forLoop step g items ρ G k:=by
 have go:∀(l:List D)(i:Nat)(ρ:ak)(G:DH),items.drop i=l→i≤items.length→P i ρ G→forLoop step g l ρ G k:=by
  intro l
  induction l with
  |nil=>
   intro i ρ G e hi p
   have:i=items.length:=by
    have:=congrArg List.length e
    rw[List.length_drop]at this
    simp at this
    omega
   subst this
   exact ⟨hh _ _ _ p,he _ _ p⟩
  |cons d l ih=>
   intro i ρ G e hi p
   have hl:i < items.length:=by
    by_cases h:i < items.length
    ·exact h
    ·rw[List.drop_eq_nil_of_le (by omega)]at e;cases e
   rw[List.drop_eq_getElem_cons hl]at e
   injection e with e1 e2
   refine ⟨hh _ _ _ p,hs i d ρ G (by rw[List.getElem?_eq_getElem hl,e1]) p _ fun ρ' G' p'=>ih (i+1) ρ' G' e2 hl p'⟩
 exact go _ 0 ρ G (by simp) (Nat.zero_le _) h0
theorem By{step:D→ak→DH→(Option D→ak→DH→Prop)→Prop}{g:Hld}{items acc:List D}{ρ:ak}{G:DH}{k:List D→DH→Prop}(P:Nat→List D→ak→DH→Prop)(h0:P 0 acc ρ G)(hh:∀i acc ρ G,P i acc ρ G→held g G)
  (hl:acc.length+items.length≤sz)
  (hs:∀i d acc ρ G,items[i]?=some d→P i acc ρ G→∀kk:Option D→ak→DH→Prop,(∀o ρ' G',P (i+1) (acc++o.toList) ρ' G'→kk o ρ' G')→step d ρ G kk) (he:∀acc ρ G,P items.length acc ρ G→k acc G):compLoop step g items acc ρ G k:=by
 have go:∀(l:List D)(i:Nat)(acc:List D)(ρ:ak)(G:DH),items.drop i=l→i≤items.length→acc.length+l.length≤sz→P i acc ρ G→compLoop step g l acc ρ G k:=by
  intro l
  induction l with
  |nil=>
   intro i acc ρ G e hi ha p
   have:i=items.length:=by
    have:=congrArg List.length e
    rw[List.length_drop]at this
    simp at this
    omega
   subst this
   exact ⟨hh _ _ _ _ p,by simpa using ha,he _ _ _ p⟩
  |cons d l ih=>
   intro i acc ρ G e hi ha p
   have hl:i < items.length:=by
    by_cases h:i < items.length
    ·exact h
    ·rw[List.drop_eq_nil_of_le (by omega)]at e;cases e
   rw[List.drop_eq_getElem_cons hl]at e
   injection e with e1 e2
   have ha':acc.length+(l.length+1)≤sz:=ha
   refine ⟨hh _ _ _ _ p,by omega,hs i d acc ρ G (by rw[List.getElem?_eq_getElem hl,e1]) p _ fun o ρ' G' p'=>?_⟩
   cases o with
   |some y=>exact ih (i+1) (acc++[y]) ρ' G' e2 hl (by rw[List.length_append];simp;omega) p'
   |none=>exact ih (i+1) acc ρ' G' e2 hl (by omega) (by simpa using p')
 exact go _ 0 acc ρ G (by simp) (Nat.zero_le _) hl h0
theorem BJ{step:D→ak→DH→(Option D→ak→DH→Prop)→Prop}{items:List D}{ρ:ak}{G:DH}{k:List D→DH→Prop}(g:Hld)(f:D→Option D)(I:ak→Prop)(h0:I ρ)(hg:held g G)(hl:items.length≤sz)
  (hs:∀d ρ,d∈items→I ρ→∀kk:Option D→ak→DH→Prop,(∀ρ',I ρ'→kk (f d) ρ' G)→step d ρ G kk) (he:k (items.filterMap f) G):compLoop step g items [] ρ G k:=by
 refine By (fun i acc ρ' G'=>I ρ'∧G'=G∧acc=(items.take i).filterMap f) ⟨h0,rfl,rfl⟩ (fun i acc ρ' G' p=>by rw[p.2.1];exact hg) (by simpa using hl) ?_ ?_
 ·rintro i d acc ρ' G' hd ⟨p1,rfl,rfl⟩ kk hk
  refine hs d ρ' (List.mem_of_getElem? hd) p1 kk fun ρ2 i2=>hk _ _ _ ⟨i2,rfl,?_⟩
  rw[List.take_add_one,hd,List.filterMap_append]
  congr 1
 ·rintro acc ρ' G' ⟨_,rfl,rfl⟩
  rw[List.take_length]
  exact he
theorem Xp{step:D→ak→DH→(Option D→ak→DH→Prop)→Prop}{items:List D}{ρ:ak}{G:DH}{k:List D→DH→Prop}(g:Hld)(f:D→D)(I:ak→Prop)(h0:I ρ)(hg:held g G)(hl:items.length≤sz)
  (hs:∀d ρ,d∈items→I ρ→∀kk:Option D→ak→DH→Prop,(∀ρ',I ρ'→kk (some (f d)) ρ' G)→step d ρ G kk) (he:k (items.map f) G):compLoop step g items [] ρ G k:=
 BJ g (fun d=>some (f d)) I h0 hg hl hs (by rw[←List.filterMap_eq_map]at he;exact he)
theorem jO{α:Type}(f:α→Bool):∀l:List α,bools (l.map fun x=>D.bl (f x))=some (l.map f)
 |[]=>rfl
 |x::l=>by simp[bools,jO f l]
theorem strs_map{α:Type}(f:α→List Nat):∀l:List α,bR (l.map fun x=>D.str (f x))=some (l.map f)
 |[]=>rfl
 |x::l=>by simp[bR,strs_map f l]
theorem BK:∀l:List (List Nat),dg [] l=l.flatten
 |[]=>rfl
 |[x]=>by simp[dg]
 |x::y::r=>by simp[dg,BK (y::r)]
def Sa(G G':DH):Prop:=∀b o,G b=some o→G' b=some o
def Sb(p:Addr)(G G':DH):Prop:=∀b o,G b=some o→b≠p→G' b=some o
theorem Sa.refl(G:DH):Sa G G:=fun _ _ h=>h
theorem Sb.refl(p:Addr)(G:DH):Sb p G G:=fun _ _ h _=>h
theorem Sa.trans{G G1 G2:DH}(a:Sa G G1)(b:Sa G1 G2):Sa G G2:=fun c o h=>b c o (a c o h)
theorem Sb.trans{p:Addr}{G G1 G2:DH}(a:Sb p G G1)(b:Sb p G1 G2):Sb p G G2:=fun c o h n=>b c o (a c o h n) n
theorem Sa.sb{p:Addr}{G G':DH}(a:Sa G G'):Sb p G G':=fun c o h _=>a c o h
theorem Sa.new{G:DH}{p:Addr}{o:DO}(h:G p=none):Sa G (aQ G p o):=fun b u e=>by rw[cF (sS e h)];exact e
theorem Sb.upd{G:DH}{p:Addr}{o:DO}:Sb p G (aQ G p o):=fun b u e n=>by rw[cF n];exact e
theorem Sa.then{p:Addr}{G G1 G2:DH}(a:Sa G G1)(hp:G p=none)(b:Sb p G1 G2):Sa G G2:=fun c o h=>b c o (a c o h) (sS h hp)
end RF
namespace RF
open PySem L2
theorem BL{α:Type}{a:α}{l:List α}:atI (a::l) 0=some a:=bV (j:=0) rfl
theorem BP{α:Type}{a b:α}{l:List α}:atI (a::b::l) 1=some b:=bV (j:=1) rfl
theorem BR{α:Type}{a b c:α}{l:List α}:atI (a::b::c::l) 2=some c:=bV (j:=2) rfl
theorem BV{α:Type}{a b c d:α}{l:List α}:atI (a::b::c::d::l) 3=some d:=bV (j:=3) rfl
theorem Xq{n j:Nat}(h:j < n):ixN n (j:Int)=some j:=by unfold ixN;rw[if_pos (by omega),if_pos (by omega)];simp
theorem BW{n:Nat}:ixN (n+1) 0=some 0:=by unfold ixN;rw[if_pos (by omega),if_pos (by omega)];rfl
theorem BX{n:Nat}:ixN (n+2) 1=some 1:=by unfold ixN;rw[if_pos (by omega),if_pos (by omega)];rfl
theorem BZ{n:Nat}:ixN (n+3) 2=some 2:=by unfold ixN;rw[if_pos (by omega),if_pos (by omega)];rfl
end RF
namespace RF
open PySem L2
theorem Xr{α:Type}{xs:List α}{i:Int}(h0:0≤i)(h1:i < xs.length):∃a,atI xs i=some a∧a∈xs:=by
 obtain ⟨n,rfl⟩:=Int.eq_ofNat_of_zero_le h0
 have hn:n < xs.length:=by omega
 exact ⟨xs[n],bV (by simp[hn]),List.getElem_mem _⟩
theorem Ca{α:Type}(xs:List α)(lo hi:Option Int):(cut xs lo hi).length≤xs.length:=by
 unfold cut
 rw[List.length_take,List.length_drop]
 omega
theorem Cd{l:List D}:bJ l []=l.isEmpty:=by cases l <;> rfl
theorem jP{α:Type}(l:List α)(n:Nat):cut l none (some (n:Int))=l.take n:=by
 unfold cut
 rw[show HT.sIx l.length 0 none=0 from rfl,HT.m6,List.drop_zero,Nat.sub_zero]
 by_cases h:n≤l.length
 ·rw[Nat.min_eq_left h]
 ·rw[Nat.min_eq_right (by omega),List.take_of_length_le (Nat.le_refl _),List.take_of_length_le (by omega)]
theorem qL{α:Type}(l:List α)(n:Nat):cut l (some (n:Int)) none=l.drop n:=by
 unfold cut
 rw[show HT.sIx l.length l.length none=l.length from rfl,HT.m6]
 by_cases h:n≤l.length
 ·rw[Nat.min_eq_left h,List.take_of_length_le (by rw[List.length_drop];exact Nat.le_refl _)]
 ·rw[Nat.min_eq_right (by omega),Nat.sub_self,List.take_zero,List.drop_eq_nil_of_le (by omega)]
theorem Xu{α:Type}(l:List α)(n:Nat):cut l (some ((n:Int)+1)) none=l.drop (n+1):=qL l (n+1)
theorem iU:∀{l:List D},(∀d∈l,nr d=true)→nrs l=true
 |[],_=>rfl
 |a::l,h=>by rw[nrs,h a List.mem_cons_self,iU fun d hd=>h d (List.mem_cons_of_mem _ hd)];rfl
end RF
namespace RF
theorem Ce{α:Type}{motive:List α→Prop}(l:List α)(nil:motive [])(snoc:∀(l:List α)(a:α),motive l→motive (l++[a])):motive l:=by
 have go:∀(n:Nat)(l:List α),l.length=n→motive l:=by
  intro n
  induction n with
  |zero=>intro l h;rw[List.length_eq_zero_iff.mp h];exact nil
  |succ n ih=>
   intro l h
   have hne:l≠[]:=by rintro rfl;simp at h
   rw[←List.dropLast_concat_getLast hne]
   exact snoc _ _ (ih _ (by rw[List.length_dropLast];omega))
 exact go _ l rfl
end RF
namespace RF
open PySem L2
section
variable {G:DH} {k:D→DH→Prop} {fz:Bool} {kb:Bool→Prop} {kd:D→Prop} {p:Addr}
theorem Cg{i j:Int}:bT .Add fz (.int i) (.int j) G k=k (.int (i+j)) G:=rfl
theorem Ci{x y:List Nat}:bT .Add fz (.str x) (.str y) G k=(x.length+y.length≤sz∧k (.str (x++y)) G):=rfl
theorem Cj{x y:List D}:bT .Add fz (.lst x) (.lst y) G k=(x.length+y.length≤sz∧mk fz (x++y) G k):=rfl
theorem Ck{x y:List D}:bT .Add fz (.tup x) (.tup y) G k=(x.length+y.length≤sz∧k (.tup (x++y)) G):=rfl
theorem Cm{i j:Int}:bT .Sub fz (.int i) (.int j) G k=k (.int (i - j)) G:=rfl
theorem Cp{i j:Int}:bT .Mult fz (.int i) (.int j) G k=(CMul i j∧k (.int (i * j)) G):=rfl
theorem Cq{x:List D}{n:Int}:bT .Mult fz (.tup x) (.int n) G k=(2≤n∧n≤1000∧x≠[]∧x.length * n.toNat≤sz∧k (.tup (reps x n.toNat)) G):=rfl
theorem Cr{x:List D}{n:Int}:bT .Mult fz (.lst x) (.int n) G k=(0≤n∧n≤1000∧x.length * n.toNat≤sz∧mk fz (reps x n.toNat) G k):=rfl
theorem Cu{x:List Nat}{n:Int}:bT .Mult fz (.str x) (.int n) G k=(0≤n∧n≤1000∧x.length * n.toNat≤sz∧k (.str (reps x n.toNat)) G):=rfl
theorem Cv{i j:Int}:bT .FloorDiv fz (.int i) (.int j) G k=((0 < j∧j < 1152921504606846976)∧k (.int (i / j)) G):=rfl
theorem Cw{i j:Int}:bT .Mod fz (.int i) (.int j) G k=(0 < j∧k (.int (i % j)) G):=rfl
theorem Cy{i j:Int}:bT .Pow fz (.int i) (.int j) G k=(mX i j∧k (.int (i ^ j.toNat)) G):=rfl
def eF:D→Bool
 |.non=>true
 |_=>false
theorem Cz{a b:D}:aR .Eq a b kb=((nr a=true∧nr b=true∧min (dpt a) (dpt b)≤60)∧kb (deq a b)):=rfl
theorem CG{a b:D}:aR .NotEq a b kb=((nr a=true∧nr b=true∧min (dpt a) (dpt b)≤60)∧kb (!deq a b)):=rfl
theorem CJ{i j:Int}:aR .Lt (.int i) (.int j) kb=kb (decide (i < j)):=rfl
theorem CK{i j:Int}:aR .LtE (.int i) (.int j) kb=kb (decide (i≤j)):=rfl
theorem CN{i j:Int}:aR .Gt (.int i) (.int j) kb=kb (decide (j < i)):=rfl
theorem CP{i j:Int}:aR .GtE (.int i) (.int j) kb=kb (decide (j≤i)):=rfl
theorem CQ{i j:List Nat}:aR .Lt (.str i) (.str j) kb=kb (decide (i < j)):=rfl
theorem CW{i j:List Nat}:aR .LtE (.str i) (.str j) kb=kb (!decide (j < i)):=rfl
theorem CZ{a:D}:aR .Is a .non kb=kb (eF a):=by cases a <;> rfl
theorem Dc{a:D}:aR .IsNot a .non kb=kb (!eF a):=by cases a <;> rfl
theorem Dd{a b:Bool}:aR .Is (.bl a) (.bl b) kb=kb (a==b):=rfl
theorem De{a b:Bool}:aR .IsNot (.bl a) (.bl b) kb=kb (a != b):=rfl
theorem Df{c:Nat}{l:List Nat}:aR .In (.str [c]) (.str l) kb=kb (l.contains c):=rfl
theorem Dg{c:Nat}{l:List Nat}:aR .NotIn (.str [c]) (.str l) kb=kb (!l.contains c):=rfl
theorem Dh{a:D}{l:List D}:aR .In a (.lst l) kb=((nr a=true∧nrs l=true∧aX l≤60)∧kb (isIn a l)):=rfl
theorem Di{a:D}{l:List D}:aR .In a (.tup l) kb=((nr a=true∧nrs l=true∧aX l≤60)∧kb (isIn a l)):=rfl
theorem Dj{a:D}{l:List D}:aR .NotIn a (.lst l) kb=((nr a=true∧nrs l=true∧aX l≤60)∧kb (!isIn a l)):=rfl
theorem Dk{a:D}{l:List D}:aR .NotIn a (.tup l) kb=((nr a=true∧nrs l=true∧aX l≤60)∧kb (!isIn a l)):=rfl
theorem Dl{i:Int}:eF (.int i)=false:=rfl
theorem Dm{i:Bool}:eF (.bl i)=false:=rfl
theorem Do{i:List Nat}:eF (.str i)=false:=rfl
theorem Dp{i:List D}:eF (.tup i)=false:=rfl
theorem Dq{i:List D}:eF (.lst i)=false:=rfl
theorem Ds{i:Addr}:eF (.ref i)=false:=rfl
theorem Dt:eF .non=true:=rfl
def aZ{α:Type}(o:Option α)(k:α→Prop):Prop:=match o with |some a=>k a |none=>False
theorem Du{α:Type}{a:α}{k:α→Prop}:aZ (some a) k=k a:=rfl
theorem bD{α:Type}{o:Option α}{a:α}{k:α→Prop}(e:o=some a)(h:k a):aZ o k:=by rw[e];exact h
theorem dH{α:Type}{xs:List α}{i:Int}{k:α→Prop}(h0:0≤i)(h1:i < xs.length)(h:∀a,a∈xs→k a):aZ (atI xs i) k:=by
 obtain ⟨a,e,m⟩:=Xr h0 h1
 exact bD e (h a m)
theorem Dv{ds:List D}{i:Int}:cj (.lst ds) (.int i) kd=aZ (atI ds i) kd:=by unfold cj aZ;(try dsimp only) <;> (cases atI ds i <;> rfl)
theorem Dw{ds:List D}{i:Int}:cj (.tup ds) (.int i) kd=aZ (atI ds i) kd:=by unfold cj aZ;(try dsimp only) <;> (cases atI ds i <;> rfl)
theorem Dy{l:List Nat}{i:Int}:cj (.str l) (.int i) kd=aZ (atI l i) (fun c=>kd (.str [c])):=by unfold cj aZ;(try dsimp only) <;> (cases atI l i <;> rfl)
theorem Dz{ds:List D}{lo hi:Option Int}:c7 fz (.lst ds) lo hi G k=mk fz (cut ds lo hi) G k:=rfl
theorem DG{ds:List D}{y:D}:gh fz (.lst ds) y G k=(y=.int (-1)∧mk fz ds.reverse G k):=rfl
theorem DK{ds:List Int}{lo hi:Option Int}:c7 fz (.scr ds) lo hi G k=mk fz ((cut ds lo hi).map .int) G k:=rfl
theorem DN{ds:List D}{lo hi:Option Int}:c7 fz (.tup ds) lo hi G k=k (.tup (cut ds lo hi)) G:=rfl
theorem DP{ds:List Nat}{lo hi:Option Int}:c7 fz (.str ds) lo hi G k=k (.str (cut ds lo hi)) G:=rfl
theorem DQ{ds:List D}:opB .len [.lst ds] kd=kd (.int ds.length):=rfl
theorem DR{ds:List D}:opB .len [.tup ds] kd=kd (.int ds.length):=rfl
theorem DW{ds:List Nat}:opB .len [.str ds] kd=kd (.int ds.length):=rfl
theorem DX{ds:List D}:opB .all [.lst ds] kd=aZ (bools ds) (fun bs=>kd (.bl (bs.all id))):=by unfold opB nq aZ;(try dsimp only) <;> (cases bools ds <;> rfl)
theorem DY{b:Bool}:opB .int [.bl b] kd=kd (.int (if b then 1 else 0)):=rfl
theorem Ea{b:Int}:opB .int [.int b] kd=kd (.int b):=rfl
theorem Eb{l:List Nat}:opB .int [.str l] kd=aZ (PySem.intText? (tx l)) (fun n=>l.length≤640∧kd (.int n)):=by unfold opB nu aZ;(try dsimp only) <;> (cases PySem.intText? (tx l) <;> rfl)
theorem Ec{ds:List D}:opB .sum [.lst ds] kd=aZ (gj ds) (fun ns=>kd (.int ns.sum)):=by unfold opB sZ aZ;(try dsimp only) <;> (cases gj ds <;> rfl)
theorem Ed{a:Int}:opB .str [.int a] kd=((0≤a∧a < 100)∧kd (.str (dX a.toNat))):=rfl
theorem Ef{a b:Int}:opB .max [.int a,.int b] kd=kd (.int (if b > a then b else a)):=rfl
theorem Eg{ds:List D}{kl:List D→Prop}:cG .sorted [.lst ds] kl=aZ (bR ds) (fun ls=>ls.length < 64∧∀ls':List (List Nat),ls'.Perm ls→PyProof.Rows.sortedS (ls'.map tx)=true→kl (ls'.map D.str)):=by unfold cG tD aZ;(try dsimp only) <;> (cases bR ds <;> rfl)
theorem Eh{ds:List D}:opB .tuple [.lst ds] kd=kd (.tup ds):=rfl
theorem Ei{ds:List D}:opB .tuple [.tup ds] kd=kd (.tup ds):=rfl
theorem Ej{ds:List D}{kl:List D→Prop}:cG .list [.lst ds] kl=kl ds:=rfl
theorem Ek{ds:List D}{kl:List D→Prop}:cG .list [.tup ds] kl=kl ds:=rfl
theorem El{l:List Nat}{kl:List D→Prop}:cG .list [.str l] kl=kl (l.map fun c=>.str [c]):=rfl
theorem Em{s:List Nat}{ds:List D}:opM .join (.str s) [.lst ds] G k=aZ (bR ds) (fun ls=>((ls.map (·.length)).sum+ls.length * s.length≤sz)∧k (.str (dg s ls)) G):=by unfold opM nA aZ;(simp only[List.map_cons,List.map_nil,view]) <;> (cases bR ds <;> rfl)
def trk(G:DH)(p:Addr)(k:List D→Prop):Prop:=match G p with |some (.lst ds)=>k ds |none=>False
theorem cB{ds:List D}{k:List D→Prop}(e:G p=some (.lst ds)):trk G p k=k ds:=by unfold trk;rw[e]
theorem Eo{x:D}:opM .append (.ref p) [x] G k=trk G p (fun ds=>ds.length < sz∧k .non (aQ G p (.lst (ds++[x])))):=by unfold opM nF trk;(try dsimp only) <;> (cases G p <;> first |rfl | (rename_i o;cases o;rfl))
theorem Ep{x:D}{i:Int}:opM .insert (.ref p) [.int i,x] G k=trk G p (fun ds=>ds.length < sz∧0≤i∧i≤1000000∧k .non (aQ G p (.lst (ds.take i.toNat++x::ds.drop i.toNat)))):=by unfold opM nH trk;(try dsimp only) <;> (cases G p <;> first |rfl | (rename_i o;cases o;rfl))
theorem Er:recv .insert (.ref p) G=trk G p (fun _=>True):=by unfold recv trk;(try dsimp only) <;> (cases G p <;> first |rfl | (rename_i o;cases o;rfl))
theorem Es{xs:List D}:opM .extend (.ref p) [.lst xs] G k=trk G p (fun ds=>ds.length+xs.length < sz∧k .non (aQ G p (.lst (ds++xs)))):=by unfold opM nG trk;(simp only[List.map_cons,List.map_nil,view]) <;> (cases G p <;> first |rfl | (rename_i o;cases o;rfl))
theorem Et{ds:List D}:opM .count (.lst ds) [.bl true] G k=aZ (bools ds) (fun bs=>k (.int (bs.count true:Nat)) G):=by unfold opM nJ aZ;(try dsimp only[view]) <;> (cases bools ds <;> rfl)
theorem Eu{ds:List D}:opM .index (.lst ds) [.bl true] G k=aZ (bools ds) (fun bs=>true∈bs∧k (.int (bs.idxOf true:Nat)) G):=by unfold opM nM aZ;(try dsimp only[view]) <;> (cases bools ds <;> rfl)
theorem Ew{ds:List D}:recv .count (.lst ds) G=True:=rfl
theorem Ey{ds:List D}:recv .index (.lst ds) G=True:=rfl
theorem Ez{s:List Nat}:recv .join (.str s) G=True:=rfl
theorem EY:recv .append (.ref p) G=trk G p (fun _=>True):=by unfold recv trk;(try dsimp only) <;> (cases G p <;> first |rfl | (rename_i o;cases o;rfl))
theorem Fb:recv .extend (.ref p) G=trk G p (fun _=>True):=by unfold recv trk;(try dsimp only) <;> (cases G p <;> first |rfl | (rename_i o;cases o;rfl))
theorem Fd{i:Int}{x:D}{kg:DH→Prop}:di (.ref p) (.int i) x G kg=trk G p (fun ds=>aZ (ixN ds.length i) (fun j=>kg (aQ G p (.lst (ds.set j x))))):=by
 unfold di trk aZ
 (try dsimp only) <;> (cases G p <;> first |rfl | (rename_i o;cases o;(try dsimp only) <;> (rename_i ds;cases ixN ds.length i <;> rfl)))
theorem Fe{i j:Int}:dC .Add (.int i) (.int j) kd=kd (.int (i+j)):=rfl
theorem Ff{x y:List Nat}:dC .Add (.str x) (.str y) kd=(x.length+y.length≤sz∧kd (.str (x++y))):=rfl
theorem Fg{i j:Int}:dC .Sub (.int i) (.int j) kd=kd (.int (i - j)):=rfl
theorem Fi{xs:List D}:mk true xs G k=k (.lst xs) G:=rfl
theorem Fj{xs:List D}:mk false xs G k=∀p,G p=none→k (.ref p) (aQ G p (.lst xs)):=rfl
theorem Fl:view G .non=.non:=rfl
theorem Fp{b:Bool}:view G (.bl b)=.bl b:=rfl
theorem Fq{b:Int}:view G (.int b)=.int b:=rfl
theorem Ft{b:List Nat}:view G (.str b)=.str b:=rfl
theorem Fv{b:List D}:view G (.tup b)=.tup b:=rfl
theorem Fw{b:List D}:view G (.lst b)=.lst b:=rfl
theorem Fx{b:String}:view G (.exn b)=.exn b:=rfl
theorem Fy{b:List Int}:view G (.scr b)=.scr b:=rfl
theorem cN{ds:List D}(e:G p=some (.lst ds)):view G (.ref p)=.lst ds:=by unfold view;dsimp only;rw[e]
theorem Fz:truth .non=some false:=rfl
theorem FJ{b:Bool}:truth (.bl b)=some b:=rfl
theorem FN{i:Int}:truth (.int i)=some (i != 0):=rfl
theorem FP{l:List Nat}:truth (.str l)=some (!l.isEmpty):=rfl
theorem FQ{l:List D}:truth (.tup l)=some (!l.isEmpty):=rfl
theorem FT{l:List D}:truth (.lst l)=some (!l.isEmpty):=rfl
theorem FW{l:List D}:itemsOf G (.lst l)=some (l,[]):=rfl
theorem Ga{l:List D}:itemsOf G (.tup l)=some (l,[]):=rfl
theorem Gb{l:List Nat}:itemsOf G (.str l)=some (l.map fun c=>.str [c],[]):=rfl
theorem Gd{t:String}:isT t .non=some false:=rfl
theorem Ge {t:String} {b:Bool}:isT t (.bl b)=some (t=="bool"||t=="int"):=rfl
theorem Gf {t:String} {b:Int}:isT t (.int b)=some (t=="int"):=rfl
theorem Gg {t:String} {b:List Nat}:isT t (.str b)=some (t=="str"):=rfl
theorem is_tup {t:String} {b:List D}:isT t (.tup b)=some (t=="tuple"):=rfl
theorem Gi {t:String} {b:List D}:isT t (.lst b)=some (t=="list"):=rfl
theorem Gj{i:Nat}{d:D}{ρ:ak}{kr:ak→Prop}:aU (.nm i) d ρ G kr=kr (ρ.set i (some d)):=rfl
theorem Gk{ts:Tgs}{ds:List D}{ρ:ak}{kr:ak→Prop}:aU (.tp ts) (.lst ds) ρ G kr=bB ts ds ρ G kr:=rfl
theorem Gm{ts:Tgs}{ds:List D}{ρ:ak}{kr:ak→Prop}:aU (.tp ts) (.tup ds) ρ G kr=bB ts ds ρ G kr:=rfl
theorem Gn{ρ:ak}{kr:ak→Prop}:bB .nil [] ρ G kr=kr ρ:=rfl
theorem Gp{t:Tg}{r:Tgs}{d:D}{ds:List D}{ρ:ak}{kr:ak→Prop}:bB (.cons t r) (d::ds) ρ G kr=aU t d ρ G (fun ρ'=>bB r ds ρ' G kr):=rfl
theorem Gq:deq .non .non=true:=rfl
theorem Gr  {y:Bool}:deq .non (.bl y)=false:=rfl
theorem Gs  {y:Int}:deq .non (.int y)=false:=rfl
theorem Gu  {y:List Nat}:deq .non (.str y)=false:=rfl
theorem Gv  {y:List D}:deq .non (.tup y)=false:=rfl
theorem Gw  {y:List D}:deq .non (.lst y)=false:=rfl
theorem Gx{x:Bool} :deq (.bl x) .non=false:=rfl
theorem Gy{x:Bool}{y:Bool}:deq (.bl x) (.bl y)=(x==y):=by rw[deq]
theorem Gz{x:Bool}{y:List Nat}:deq (.bl x) (.str y)=false:=rfl
theorem GC{x:Bool}{y:List D}:deq (.bl x) (.tup y)=false:=rfl
theorem GD{x:Bool}{y:List D}:deq (.bl x) (.lst y)=false:=rfl
theorem GF{x:Int} :deq (.int x) .non=false:=rfl
theorem GJ{x:Int}{y:Int}:deq (.int x) (.int y)=(x==y):=by rw[deq]
theorem GK{x:Int}{y:List Nat}:deq (.int x) (.str y)=false:=rfl
theorem GP{x:Int}{y:List D}:deq (.int x) (.tup y)=false:=rfl
theorem GQ{x:Int}{y:List D}:deq (.int x) (.lst y)=false:=rfl
theorem GR{x:List Nat} :deq (.str x) .non=false:=rfl
theorem GX{x:List Nat}{y:Bool}:deq (.str x) (.bl y)=false:=rfl
theorem GZ{x:List Nat}{y:Int}:deq (.str x) (.int y)=false:=rfl
theorem uV{x:List Nat}{y:List Nat}:deq (.str x) (.str y)=(x==y):=by rw[deq]
theorem G8{x:List Nat}{y:List D}:deq (.str x) (.tup y)=false:=rfl
theorem Ha{x:List Nat}{y:List D}:deq (.str x) (.lst y)=false:=rfl
theorem Hb{x:List D} :deq (.tup x) .non=false:=rfl
theorem Hc{x:List D}{y:Bool}:deq (.tup x) (.bl y)=false:=rfl
theorem Hf{x:List D}{y:Int}:deq (.tup x) (.int y)=false:=rfl
theorem Hg{x:List D}{y:List Nat}:deq (.tup x) (.str y)=false:=rfl
theorem Hh{x:List D}{y:List D}:deq (.tup x) (.tup y)=bJ x y:=by rw[deq]
theorem Hi{x:List D}{y:List D}:deq (.tup x) (.lst y)=false:=rfl
theorem Hj{x:List D} :deq (.lst x) .non=false:=rfl
theorem Hk{x:List D}{y:Bool}:deq (.lst x) (.bl y)=false:=rfl
theorem Hl{x:List D}{y:Int}:deq (.lst x) (.int y)=false:=rfl
theorem Hm{x:List D}{y:List Nat}:deq (.lst x) (.str y)=false:=rfl
theorem Hn{x:List D}{y:List D}:deq (.lst x) (.tup y)=false:=rfl
theorem Ho{x:List D}{y:List D}:deq (.lst x) (.lst y)=bJ x y:=by rw[deq]
theorem Hq:bJ [] []=true:=rfl
theorem Hr{a b:D}{as bs:List D}:bJ (a::as) (b::bs)=(deq a b&&bJ as bs):=by rw[bJ]
theorem Hs{b:D}{bs:List D}:bJ [] (b::bs)=false:=rfl
theorem Ht{b:D}{bs:List D}:bJ (b::bs) []=false:=rfl
theorem Hu :nr .non=true:=rfl
theorem Hv :dpt .non=0:=rfl
theorem Hw{x:Bool}:nr (.bl x)=true:=rfl
theorem Hx{x:Bool}:dpt (.bl x)=0:=rfl
theorem Hy{x:Int}:nr (.int x)=true:=rfl
theorem Hz{x:Int}:dpt (.int x)=0:=rfl
theorem HB{x:List Nat}:nr (.str x)=true:=rfl
theorem HF{x:List Nat}:dpt (.str x)=0:=rfl
theorem HH{x:List D}:nr (.tup x)=nrs x:=by rw[nr]
theorem HJ{x:List D}:dpt (.tup x)=aX x+1:=by rw[dpt]
theorem HN{x:List D}:nr (.lst x)=nrs x:=by rw[nr]
theorem HQ{x:List D}:dpt (.lst x)=aX x+1:=by rw[dpt]
theorem HR:nrs []=true:=rfl
theorem HS{a:D}{l:List D}:nrs (a::l)=(nr a&&nrs l):=by rw[nrs]
theorem HW:aX []=0:=rfl
theorem HX{a:D}{l:List D}:aX (a::l)=max (dpt a) (aX l):=by rw[aX]
end
theorem seq{Φ:aa}{s:Sx}{r:Sxs}{E:EK}{ρ:ak}{G:DH}{D:En}(h:∀M:ak→DH→Prop,(∀ρ' G',au Φ r E ρ' G' D→M ρ' G')→wpS Φ s E ρ G { D with nx:=M }):au Φ (.cons s r) E ρ G D:=by
 rw[iz]
 exact h _ fun _ _ x=>x
theorem last{Φ:aa}{s:Sx}{E:EK}{ρ:ak}{G:DH}{D:En}(h:wpS Φ s E ρ G D):au Φ (.cons s .nil) E ρ G D:=by
 rw[iz]
 exact wpS_mono s (D:=D) (D':={ D with nx:=fun ρ' G'=>au Φ .nil E ρ' G' D }) ⟨fun ρ' G' q=>(show au Φ .nil E ρ' G' D from by rw[iy];exact q),fun _ _ q=>q,fun _ _ q=>q,fun _ _ q=>q⟩ h
theorem done{Φ:aa}{E:EK}{ρ:ak}{G:DH}{D:En}(h:D.nx ρ G):au Φ .nil E ρ G D:=by
 rw[iy]
 exact h
end RF
namespace RF
open PySem L2
section
variable {Φ:aa} {E:EK} {ρ:ak} {G:DH}
def ForG(Φ:aa)(t:Tg)(body:Sxs)(E:EK)(D:En)(items:List RF.D)(g:Hld)(ρ:ak)(G:DH):Prop:=
 forLoop (fun d ρ' G' k=>aU t d ρ' G' fun ρ1=>au Φ body E ρ1 G' { D with nx:=k,ct:=k,bk:=D.nx }) g items ρ G D.nx
theorem HY{t:Tg}{it:It'}{body:Sxs}{D:En}:wpS Φ (.for_ t it body) E ρ G D=wpI Φ it E ρ G fun items g G1=>ForG Φ t body E D items g ρ G1:=rfl
theorem ForG.inv{t:Tg}{body:Sxs}{D:En}{items:List RF.D}{g:Hld}(P:Nat→ak→DH→Prop)(h0:P 0 ρ G)(hh:∀i ρ G,P i ρ G→held g G)
  (hs:∀i d ρ G,items[i]?=some d→P i ρ G→∀kk:ak→DH→Prop,(∀ρ' G',P (i+1) ρ' G'→kk ρ' G')→aU t d ρ G fun ρ1=>au Φ body E ρ1 G { D with nx:=kk,ct:=kk,bk:=D.nx })
  (he:∀ρ G,P items.length ρ G→D.nx ρ G):ForG Φ t body E D items g ρ G:=Xo P h0 hh hs he
def CompG(Φ:aa)(elt:Ex)(tg:Tg)(cond:Tx)(items:List D)(g:Hld)(ρ:ak)(G:DH)(k:List D→DH→Prop):Prop:=
 compLoop (fun d ρ' G' k'=>aU tg d ρ' G' fun ρ1=>wpT Φ cond noE ρ1 G' fun b G2=>match b with |true=>wpE Φ elt noE ρ1 G2 fun y G3=>k' (some y) ρ1 G3 |false=>k' none ρ1 G2) g items [] ρ G k
def iV(cap:List (Option Nat))(ρ:ak):ak:=cap.map fun o=>match o with |none=>none |some j=>(ρ[j]?).join
theorem H9{ρ:ak}:iV [] ρ=[]:=rfl
theorem Ia{cap:List (Option Nat)}{ρ:ak}:iV (none::cap) ρ=none::iV cap ρ:=rfl
theorem Ib{cap:List (Option Nat)}{ρ:ak}{j:Nat}:iV (some j::cap) ρ=(ρ[j]?).join::iV cap ρ:=rfl
theorem Ie{fz:Bool}{elt:Ex}{tg:Tg}{it:It'}{cond:Tx}{N:List String}{cap:List (Option Nat)}{k:D→DH→Prop}:
  wpE Φ (.comp fz elt tg it cond N cap) E ρ G k=wpI Φ it E ρ G fun items g G1=>CompG Φ elt tg cond items g (iV cap ρ) G1 fun ds G2=>mk fz ds G2 k:=rfl
theorem CompG.inv{elt:Ex}{tg:Tg}{cond:Tx}{items:List D}{g:Hld}{k:List D→DH→Prop}(P:Nat→List D→ak→DH→Prop)(h0:P 0 [] ρ G)(hh:∀i acc ρ G,P i acc ρ G→held g G)(hl:items.length≤sz)
  (hs:∀i d acc ρ G,items[i]?=some d→P i acc ρ G→∀kk:Option D→ak→DH→Prop,(∀o ρ' G',P (i+1) (acc++o.toList) ρ' G'→kk o ρ' G')→
   aU tg d ρ G fun ρ1=>wpT Φ cond noE ρ1 G fun b G2=>match b with |true=>wpE Φ elt noE ρ1 G2 fun y G3=>kk (some y) ρ1 G3 |false=>kk none ρ1 G2)
  (he:∀acc ρ G,P items.length acc ρ G→k acc G):CompG Φ elt tg cond items g ρ G k:=By P h0 hh (by simpa using hl) hs he
theorem CompG.pure{elt:Ex}{tg:Tg}{cond:Tx}{items:List D}{g:Hld}{k:List D→DH→Prop}(f:D→Option D)(I:ak→Prop)(h0:I ρ)(hg:held g G)(hl:items.length≤sz)
  (hs:∀d ρ,d∈items→I ρ→∀kk:Option D→ak→DH→Prop,(∀ρ',I ρ'→kk (f d) ρ' G)→aU tg d ρ G fun ρ1=>wpT Φ cond noE ρ1 G fun b G2=>match b with |true=>wpE Φ elt noE ρ1 G2 fun y G3=>kk (some y) ρ1 G3 |false=>kk none ρ1 G2)
  (he:k (items.filterMap f) G):CompG Φ elt tg cond items g ρ G k:=BJ g f I h0 hg hl hs he
theorem CompG.map{elt:Ex}{tg:Tg}{cond:Tx}{items:List D}{g:Hld}{k:List D→DH→Prop}(f:D→D)(I:ak→Prop)(h0:I ρ)(hg:held g G)(hl:items.length≤sz)
  (hs:∀d ρ,d∈items→I ρ→∀kk:Option D→ak→DH→Prop,(∀ρ',I ρ'→kk (some (f d)) ρ' G)→aU tg d ρ G fun ρ1=>wpT Φ cond noE ρ1 G fun b G2=>match b with |true=>wpE Φ elt noE ρ1 G2 fun y G3=>kk (some y) ρ1 G3 |false=>kk none ρ1 G2)
  (he:k (items.map f) G):CompG Φ elt tg cond items g ρ G k:=Xp g f I h0 hg hl hs he
def Xv(Φ:aa)(c:Tx)(body:Sxs)(E:EK)(D:En)(n:Nat)(ρ:ak)(G:DH):Prop:=
 whileLoop (fun ρ' G' k=>wpT Φ c E ρ' G' k) (fun ρ' G' k=>au Φ body E ρ' G' { D with nx:=k,ct:=k,bk:=D.nx }) n ρ G D.nx
theorem Ig{c:Tx}{body:Sxs}{D:En}:wpS Φ (.whl c body) E ρ G D=∃n,Xv Φ c body E D n ρ G:=rfl
end
end RF
namespace RF
open PySem PySem.Spec PyProof.Rows L2
theorem len0{α:Type}{l:List α}(h:l.length=0):l=[]:=List.length_eq_zero_iff.mp h
theorem qM{α:Type}{n:Nat}{l:List α}(h:l.length=n+1):∃a r,l=a::r∧r.length=n:=by
 cases l with
 |nil=>cases h
 |cons a r=>exact ⟨a,r,rfl,Nat.succ.inj h⟩
theorem eG{α:Type}{l:List α}(h:l.length=1):∃a,l=[a]:=by
 obtain ⟨a,r,rfl,h2⟩:=qM h;cases len0 h2;exact ⟨a,rfl⟩
theorem bz{α:Type}{l:List α}(h:l.length=2):∃a b,l=[a,b]:=by
 obtain ⟨a,r,rfl,h2⟩:=qM h;obtain ⟨b,rfl⟩:=eG h2;exact ⟨a,b,rfl⟩
theorem dI{α:Type}{l:List α}(h:l.length=3):∃a b c,l=[a,b,c]:=by
 obtain ⟨a,r,rfl,h2⟩:=qM h;obtain ⟨b,c,rfl⟩:=bz h2;exact ⟨a,b,c,rfl⟩
theorem Xw{α:Type}{l:List α}(h:l.length=4):∃a b c d,l=[a,b,c,d]:=by
 obtain ⟨a,r,rfl,h2⟩:=qM h;obtain ⟨b,c,d,rfl⟩:=dI h2;exact ⟨a,b,c,d,rfl⟩
structure Fo(Φ:aa)(P:Program)(w:World)(K:PySem.W.Frag)(mg:Str→Option Value)(base:Heap)(k:Nat)(f:String)(n:Nat):Prop where
 ex:∃fa fd ps,FnOk P w K mg base (CX1 P w) k fa fd ps (lift K n (Φ f))∧PySem.W.keepIn K (.ref fa)=true∧Binds K fd ps []∧mg (Str.ofString f)=some (.ref fa)
section
variable {Φ:aa} {P:Program} {w:World} {K:PySem.W.Frag} {mg:Str→Option Value} {base:Heap} {k:Nat} {xs:List (String×Bool)}
def AllF(Φ:aa)(P:Program)(w:World)(K:PySem.W.Frag)(mg:Str→Option Value)(base:Heap)(k:Nat):List (String×Nat)→Prop
 |[]=>True
 | (f,n)::r=>Fo Φ P w K mg base k f n∧AllF Φ P w K mg base k r
def AllB(mg:Str→Option Value):List String→Prop
 |[]=>True
 |f::r=>mg (Str.ofString f)=none∧AllB mg r
def AllC(K:PySem.W.Frag)(mg:Str→Option Value):List (String×D)→Prop
 |[]=>True
 | (x,d)::r=>(∃u v,mg (Str.ofString x)=some u∧RelV v u∧∀H F,Rep K H F d v)∧AllC K mg r
theorem AllF.get:∀{fs:List (String×Nat)}{f:String}{n:Nat},AllF Φ P w K mg base k fs→(f,n)∈fs→Fo Φ P w K mg base k f n
 | (f',n')::r,f,n,h,m=>by
  rcases List.mem_cons.mp m with e |m
  ·cases e;exact h.1
  ·exact AllF.get h.2 m
theorem AllB.get:∀{fs:List String}{f:String},AllB mg fs→f∈fs→mg (Str.ofString f)=none
 |f'::r,f,h,m=>by
  rcases List.mem_cons.mp m with e |m
  ·cases e;exact h.1
  ·exact AllB.get h.2 m
theorem AllC.get:∀{fs:List (String×D)}{x:String}{d:D},AllC K mg fs→(x,d)∈fs→∃u v,mg (Str.ofString x)=some u∧RelV v u∧∀H F,Rep K H F d v
 | (f',n')::r,f,n,h,m=>by
  rcases List.mem_cons.mp m with e |m
  ·cases e;exact h.1
  ·exact AllC.get h.2 m
def cvB(K:PySem.W.Frag)(C':String):Option V:=match PySem.W.nsIn K mainGlobals (Str.ofString C') with
 |some (some (.ref a))=>if ni K a then some (.ref a) else none
 |some none=>if C'=="ValueError" then some (.ty "ValueError") else none
 |_=>none
def xiB(K:PySem.W.Frag)(C C':String)(cv:V):Bool:=match PySem.W.nsIn K mainGlobals (Str.ofString C) with
 |some (some (.ref c))=>jo K c&&PySem.W.mroIn K c (valOf cv)==some (dh C C')&&(dh C C'||!(Value.ref c==valOf cv))
 |_=>false
def uW(K:PySem.W.Frag)(C:String):Bool:=match PySem.W.nsIn K mainGlobals (Str.ofString C) with
 |some (some (.ref c))=>gb K c
 |_=>false
def xsB(K:PySem.W.Frag)(xs:List (String×Bool)):Bool:=xs.all fun p=>match p.2 with
 |true=>uW K p.1
 |false=>(cvB K p.1).any fun cv=>xs.all fun q=>!q.2||xiB K q.1 p.1 cv
theorem Xx{h:Heap}(X:K.In h)(Gh:h.Ns mainGlobals mg){xs:List (String×Bool)}(e:xsB K xs=true)(C:String)(hC:xs.contains (C,true)=true):∃a,mg (Str.ofString C)=some (.ref a)∧gb K a=true∧PySem.W.nsIn K mainGlobals (Str.ofString C)=some (some (.ref a)):=by
 have e1:uW K C=true:=List.all_eq_true.mp e _ (List.contains_iff_mem.mp hC)
 unfold uW at e1
 split at e1
 ·rename_i a hn
  exact ⟨a,PySem.W.mg_of X Gh hn,e1,hn⟩
 ·cases e1
theorem Xy{h:Heap}(X:K.In h)(Gh:h.Ns mainGlobals mg){xs:List (String×Bool)}(e:xsB K xs=true)(C':String)(hC:xs.contains (C',false)=true):∃cv,CV K mg C' cv∧∀C,xs.contains (C,true)=true→XI K C C' cv:=by
 have e1:((cvB K C').any fun cv=>xs.all fun q=>!q.2||xiB K q.1 C' cv)=true:=List.all_eq_true.mp e _ (List.contains_iff_mem.mp hC)
 obtain ⟨cv,hcv,h2⟩:=aM e1
 refine ⟨cv,?_,fun C hC=>?_⟩
 ·unfold cvB at hcv
  split at hcv
  ·rename_i a hn
   split at hcv
   ·rename_i hb
    cases hcv
    exact .inl ⟨a,rfl,PySem.W.mg_of X Gh hn,hb⟩
   ·cases hcv
  ·rename_i hn
   split at hcv
   ·rename_i hb
    cases hcv
    exact .inr ⟨beq_iff_eq.mp hb,rfl,PySem.W.mg_none_of X Gh hn⟩
   ·cases hcv
  ·cases hcv
 ·have e3:(!true||xiB K C C' cv)=true:=List.all_eq_true.mp h2 _ (List.contains_iff_mem.mp hC)
  have e3:xiB K C C' cv=true:=e3
  unfold xiB at e3
  split at e3
  ·rename_i c hn
   rw[Bool.and_eq_true,Bool.and_eq_true,beq_iff_eq]at e3
   refine ⟨c,hn,e3.1.1,e3.1.2,fun hs=>?_⟩
   have:=e3.2
   rw[hs,Bool.false_or,Bool.not_eq_true']at this
   exact this
  ·cases e3
theorem bse{h:Heap}{fs:List (String×Nat)}{bt:List String}{cn:List (String×D)}(h1:AllF Φ P w K mg base k fs)(h2:AllB mg bt)(h3:AllC K mg cn)(X:K.In h)(Gh:h.Ns mainGlobals mg)(e:xsB K xs=true):Bse Φ P w K mg base (CX1 P w) k fs bt cn xs:=
 ⟨fun _ _ m=>(h1.get m).ex,fun _ m=>h2.get m,fun _ _ m=>h3.get m,Xx X Gh e,Xy X Gh e⟩
theorem uX{x:String}{i:Int}{t:Tok}(h:mg (Str.ofString x)=some (.int i t)):∃u v,mg (Str.ofString x)=some u∧RelV v u∧∀H F,Rep K H F (.int i) v:=⟨_,.int i,h,⟨t,rfl⟩,fun _ _=>rfl⟩
theorem Xz{x:String}{l:List Nat}{s:Str}{t:Tok}(h:mg (Str.ofString x)=some (.str s t))(e:s=tx l)(hl:l.length≤sz):∃u v,mg (Str.ofString x)=some u∧RelV v u∧∀H F,Rep K H F (.str l) v:=⟨_,.str s,h,⟨t,rfl⟩,fun _ _=>⟨by rw[e],hl⟩⟩
end
section
variable {Φ:aa} {P:Program} {w:World} {K:PySem.W.Frag} {mg:Str→Option Value} {base:Heap} {k j n:Nat} {fs:List (String×Nat)} {bt:List String} {cn:List (String×D)} {xs:List (String×Bool)} {x:String} {S:RF.Spec} {fa:Addr} {fd:FuncData} {ps:List Str}
theorem Bse.add(B:Bse Φ P w K mg base (CX1 P w) k fs bt cn xs)(e:Φ x=S)(o:FnOk P w K mg base (CX1 P w) (k+j) fa fd ps (lift K n S))(h2:PySem.W.keepIn K (.ref fa)=true)(h3:Binds K fd ps [])(h4:mg (Str.ofString x)=some (.ref fa)):Bse Φ P w K mg base (CX1 P w) (k+j) ((x,n)::fs) bt cn xs:=by
 refine ⟨fun f m hm=>?_,B.blt,B.con,B.xcl,B.xis⟩
 rcases List.mem_cons.mp hm with e' |hm
 ·cases e';exact ⟨fa,fd,ps,by rw[e];exact o,h2,h3,h4⟩
 ·obtain ⟨fa,fd,ps,h1,h⟩:=B.call f m hm
  exact ⟨fa,fd,ps,h1.mono (Nat.le_add_right _ _),h⟩
theorem Bse.step{qual:Str}{st:Stmt}{N:List Str}{body:Sxs}(B:Bse Φ P w K mg base (CX1 P w) k fs bt cn xs)(F:Fun K (Str.ofString x) qual st fa fd)(h3:Binds K fd ps [])(h4:mg (Str.ofString x)=some (.ref fa))(e:Φ x=S)(m:Nat)
  (hs:fnB N ps (aq st)=true) (hc:aC (aK N (aq st) fs bt cn xs) body (aG st)=true) (hn:ps.length=n) (hm:N.length=n+m)
  (hw:∀ds G a,ds.length=n→S.pre ds G a→au Φ body noE (env0 ds m) G (ends (S.post a))):Bse Φ P w K mg base (CX1 P w) (k+1) ((x,n)::fs) bt cn xs:=
 B.add e (Bx F B S n m hs hc hn hm hw) F.kp h3 h4
theorem Bse.stepX{qual:Str}{st:Stmt}{N:List Str}{body:Sxs}(B:Bse Φ P w K mg base (CX1 P w) k fs bt cn xs)(F:Fun K (Str.ofString x) qual st fa fd)(h3:Binds K fd ps [])(h4:mg (Str.ofString x)=some (.ref fa))(e:Φ x=S)(m:Nat)
  (hs:fnB N ps (aq st)=true) (hc:aC (aK N (aq st) fs bt cn xs) body (aG st)=true) (hn:ps.length=n) (hm:N.length=n+m)
  (hw:∀ds G a,ds.length=n→S.pre ds G a→au Φ body (S.exc a) (env0 ds m) G (ends (S.post a))):Bse Φ P w K mg base (CX1 P w) (k+1) ((x,n)::fs) bt cn xs:=
 B.add e (Xm F B S n m hs hc hn hm hw) F.kp h3 h4
end
theorem XC{S:RF.Spec}(hS:∀(ns:List Int)(G:DH),ns.length≤63→∃a,S.pre [.scr ns] G a∧(∀d G',S.post a d G'→d=.bl true)∧∀x G',¬S.exc a x G')(K:PySem.W.Frag)(H:Hp)(a:Addr)(ns:List Int)(hl:ns.length≤63)(hO:Only H)(hs:SqL K H a (ns.map V.int)):
  lift K 1 S [.ref a] H (fun v _=>v=.bl true) fun _ _ _=>False:=by
 obtain ⟨b,h1,h2,h3⟩:=hS ns (fun _=>none) hl
 refine ⟨rfl,fun _=>False,fun _=>none,[.scr ns],⟨fun _ f=>f.elim,fun _ _ e=>by cases e⟩,⟨.ref a,[],rfl,⟨a,rfl,?_⟩,rfl⟩,b,h1,fun d G' q H' F' v _ _ rv=>?_,fun x G' q=>absurd q (h3 x G')⟩
 ·rcases hs with (h |h) |h
  ·exfalso
   rcases hO a with z |⟨o,u,z⟩
   ·rw[z]at h;cases h
   ·rw[z]at h;cases h
  ·exact .inl h
  ·exact .inr h
 ·rw[h2 d G' q]at rv
  exact rv
theorem XD{pre:List D→DH→Prop}(h:∀(ns:List Int)(G:DH),ns.length≤63→pre [.scr ns] G):∀(ns:List Int)(G:DH),ns.length≤63→∃a,(bf pre (fun _ _ d _=>d=.bl true)).pre [.scr ns] G a∧(∀d G',(bf pre (fun _ _ d _=>d=.bl true)).post a d G'→d=.bl true)∧∀x G',¬(bf pre (fun _ _ d _=>d=.bl true)).exc a x G':=
 fun ns G hl=>⟨([.scr ns],G),⟨rfl,h ns G hl⟩,fun _ _ q=>q,fun _ _ z=>z⟩
def ghS{A:Type}(pre:A→List D→DH→Prop)(post:A→DH→D→DH→Prop):RF.Spec where
 A:=A×DH
 pre:=fun ds G a=>a.2=G∧pre a.1 ds G
 post:=fun a d G'=>post a.1 a.2 d G'
 exc:=fun _ _ _=>False
theorem fK{A:Type}{pre:A→List D→DH→Prop}{post:A→DH→D→DH→Prop}{ds:List D}{G:DH}{k:D→DH→Prop}{E:EK}(a:A)(h:pre a ds G)(hk:∀d G',post a G d G'→k d G'):(ghS pre post).t ds G k E:=
 ⟨(a,G),⟨rfl,h⟩,hk,fun _ _ z=>z.elim⟩
theorem fL{A:Type}{Φ:aa}{body:Sxs}{m n:Nat}{pre:A→List D→DH→Prop}{post:A→DH→D→DH→Prop}(h:∀a ds G,pre a ds G→au Φ body noE (env0 ds m) G (ends (post a G))):
  ∀ds G a,ds.length=n→(ghS pre post).pre ds G a→au Φ body noE (env0 ds m) G (ends ((ghS pre post).post a)):=by
 rintro ds G ⟨a,G0⟩ _ ⟨rfl,h1⟩
 exact h a ds _ h1
def gF{A:Type}(args:A→List D)(ok:A→Prop)(val:A→D):RF.Spec:=ghS (fun a ds _=>ds=args a∧ok a) (fun a G d G'=>G'=G∧d=val a)
theorem iW{A:Type}{args:A→List D}{ok:A→Prop}{val:A→D}{ds:List D}{G:DH}{k:D→DH→Prop}{E:EK}(a:A)(e:ds=args a)(h:ok a)(hk:k (val a) G):(gF args ok val).t ds G k E:=
 fK a ⟨e,h⟩ fun d G' ⟨e1,e2⟩=>by subst e1 e2;exact hk
theorem qN{A:Type}{Φ:aa}{body:Sxs}{m n:Nat}{args:A→List D}{ok:A→Prop}{val:A→D}(h:∀a G,ok a→au Φ body noE (env0 (args a) m) G (ends fun d G'=>G'=G∧d=val a)):
  ∀ds G a,ds.length=n→(gF args ok val).pre ds G a→au Φ body noE (env0 ds m) G (ends ((gF args ok val).post a)):=
 fL fun a ds G ⟨e,h1⟩=>by subst e;exact h a G h1
end RF
namespace RF
open PySem L2
theorem Ih:type_of% (And.intro @pA (And.intro @iB (And.intro @pB (And.intro @tX (And.intro @tY (And.intro @pC (And.intro @pF (And.intro @pG (And.intro @pH (And.intro @pI (And.intro @pJ (And.intro (And.intro @pO (And.intro @jw (And.intro @uc (And.intro @jx (And.intro @pL (And.intro @pM (And.intro @pN (And.intro (And.intro @ph (And.intro @tU (And.intro @tV @tW))) (And.intro @tZ @pK))))))))) (And.intro @HY (And.intro @Ig (And.intro (And.intro @oE (And.intro @nP (And.intro @nQ (And.intro @nR (And.intro @nT (And.intro @gk (And.intro @fj (And.intro @nU (And.intro @jt (And.intro @nW (And.intro @ju (And.intro @nY (And.intro @nZ (And.intro @n6 (And.intro @oh (And.intro @tM (And.intro @tO (And.intro @tQ (And.intro @ou @oA))))))))))))))))))) (And.intro @gm (And.intro @oF (And.intro @oG (And.intro @oH (And.intro @oJ (And.intro @oK (And.intro @oM (And.intro @oN (And.intro @tR (And.intro @oO (And.intro @oR (And.intro @oU (And.intro (And.intro @oW @oV) (And.intro @oX (And.intro @oY (And.intro @oZ (And.intro @o9 (And.intro @d7 (And.intro @pq (And.intro @Ie (And.intro @Cg (And.intro @Ci (And.intro @Cj (And.intro @Ck (And.intro @Cm (And.intro @Cp (And.intro (And.intro @Cu (And.intro @Cr @Cq)) (And.intro @Cv (And.intro @Cw (And.intro @Cy (And.intro @Cz (And.intro @CG (And.intro @CJ (And.intro @CK (And.intro @CN (And.intro @CP (And.intro @CQ (And.intro @CW (And.intro @CZ (And.intro @Dc (And.intro @Dd (And.intro @De (And.intro @Df (And.intro @Dg (And.intro @Dh (And.intro @Di (And.intro @Dj (And.intro @Dk (And.intro @Dl (And.intro @Dm (And.intro @Do (And.intro @Dp (And.intro @Dq (And.intro @Ds (And.intro @Dt (And.intro @Dv (And.intro @Dw (And.intro @Dy (And.intro @Dz (And.intro (And.intro @DK @DG) (And.intro @DN (And.intro @DP (And.intro @DQ (And.intro @DR (And.intro @DW (And.intro @DX (And.intro @DY (And.intro @Ea (And.intro @Eb (And.intro @Ec (And.intro @Eg (And.intro (And.intro @Eh (And.intro @Ef @Ed)) (And.intro @Ei (And.intro @Ej (And.intro @Ek (And.intro @El (And.intro (And.intro @Em (And.intro @Et (And.intro @Eu (And.intro @Ew (And.intro @Ey @Fx))))) (And.intro @Eo (And.intro (And.intro @Es (And.intro @Ep @Er)) (And.intro @Ez (And.intro @EY (And.intro @Fb (And.intro @Fd (And.intro @Fe (And.intro @Ff (And.intro @Fg (And.intro @Fi (And.intro @Fj (And.intro @Fl (And.intro @Fp (And.intro @Fq (And.intro @Ft (And.intro @Fv (And.intro @Fw (And.intro @Fy (And.intro @Fz (And.intro @FJ (And.intro @FN (And.intro @FP (And.intro @FQ (And.intro @FT (And.intro @FW (And.intro @Ga (And.intro @Gb (And.intro @Gd (And.intro @Ge (And.intro @Gf (And.intro @Gg (And.intro @is_tup (And.intro @Gi (And.intro @Gj (And.intro (And.intro @Gm @Gk) (And.intro @Gn (And.intro @Gp (@Du)))))))))))))))))))))))))))))))))))))))))))))))))))))))))))))))))))))))))))))))))))))))))))))))))))))))))))))))))))))))))))))))))):=And.intro @pA (And.intro @iB (And.intro @pB (And.intro @tX (And.intro @tY (And.intro @pC (And.intro @pF (And.intro @pG (And.intro @pH (And.intro @pI (And.intro @pJ (And.intro (And.intro @pO (And.intro @jw (And.intro @uc (And.intro @jx (And.intro @pL (And.intro @pM (And.intro @pN (And.intro (And.intro @ph (And.intro @tU (And.intro @tV @tW))) (And.intro @tZ @pK))))))))) (And.intro @HY (And.intro @Ig (And.intro (And.intro @oE (And.intro @nP (And.intro @nQ (And.intro @nR (And.intro @nT (And.intro @gk (And.intro @fj (And.intro @nU (And.intro @jt (And.intro @nW (And.intro @ju (And.intro @nY (And.intro @nZ (And.intro @n6 (And.intro @oh (And.intro @tM (And.intro @tO (And.intro @tQ (And.intro @ou @oA))))))))))))))))))) (And.intro @gm (And.intro @oF (And.intro @oG (And.intro @oH (And.intro @oJ (And.intro @oK (And.intro @oM (And.intro @oN (And.intro @tR (And.intro @oO (And.intro @oR (And.intro @oU (And.intro (And.intro @oW @oV) (And.intro @oX (And.intro @oY (And.intro @oZ (And.intro @o9 (And.intro @d7 (And.intro @pq (And.intro @Ie (And.intro @Cg (And.intro @Ci (And.intro @Cj (And.intro @Ck (And.intro @Cm (And.intro @Cp (And.intro (And.intro @Cu (And.intro @Cr @Cq)) (And.intro @Cv (And.intro @Cw (And.intro @Cy (And.intro @Cz (And.intro @CG (And.intro @CJ (And.intro @CK (And.intro @CN (And.intro @CP (And.intro @CQ (And.intro @CW (And.intro @CZ (And.intro @Dc (And.intro @Dd (And.intro @De (And.intro @Df (And.intro @Dg (And.intro @Dh (And.intro @Di (And.intro @Dj (And.intro @Dk (And.intro @Dl (And.intro @Dm (And.intro @Do (And.intro @Dp (And.intro @Dq (And.intro @Ds (And.intro @Dt (And.intro @Dv (And.intro @Dw (And.intro @Dy (And.intro @Dz (And.intro (And.intro @DK @DG) (And.intro @DN (And.intro @DP (And.intro @DQ (And.intro @DR (And.intro @DW (And.intro @DX (And.intro @DY (And.intro @Ea (And.intro @Eb (And.intro @Ec (And.intro @Eg (And.intro (And.intro @Eh (And.intro @Ef @Ed)) (And.intro @Ei (And.intro @Ej (And.intro @Ek (And.intro @El (And.intro (And.intro @Em (And.intro @Et (And.intro @Eu (And.intro @Ew (And.intro @Ey @Fx))))) (And.intro @Eo (And.intro (And.intro @Es (And.intro @Ep @Er)) (And.intro @Ez (And.intro @EY (And.intro @Fb (And.intro @Fd (And.intro @Fe (And.intro @Ff (And.intro @Fg (And.intro @Fi (And.intro @Fj (And.intro @Fl (And.intro @Fp (And.intro @Fq (And.intro @Ft (And.intro @Fv (And.intro @Fw (And.intro @Fy (And.intro @Fz (And.intro @FJ (And.intro @FN (And.intro @FP (And.intro @FQ (And.intro @FT (And.intro @FW (And.intro @Ga (And.intro @Gb (And.intro @Gd (And.intro @Ge (And.intro @Gf (And.intro @Gg (And.intro @is_tup (And.intro @Gi (And.intro @Gj (And.intro (And.intro @Gm @Gk) (And.intro @Gn (And.intro @Gp (@Du)))))))))))))))))))))))))))))))))))))))))))))))))))))))))))))))))))))))))))))))))))))))))))))))))))))))))))))))))))))))))))))))))
theorem XF:type_of% (And.intro @iy @iz):=And.intro @iy @iz
theorem Ii:type_of% (And.intro @H9 (And.intro @Ia (And.intro @Ib (And.intro @Option.join_some.{0} (And.intro @List.map_cons.{0,0} (And.intro @List.map_nil.{0,0} (And.intro @List.cons_append.{0} (And.intro @List.nil_append.{0} (And.intro @List.replicate_succ.{0} (And.intro @List.replicate_zero.{0} (And.intro @List.getElem?_cons_zero.{0} (And.intro @List.getElem?_cons_succ.{0} (And.intro @List.set_cons_zero.{0} (And.intro @List.set_cons_succ.{0} (And.intro @List.length_cons.{0} (And.intro @List.length_nil.{0} (And.intro @BL (And.intro @BP (And.intro @BR (And.intro @BV (And.intro @BW (And.intro @BX (And.intro @BZ (And.intro @true_and (And.intro @and_true (And.intro @Nat.min_self (And.intro @Nat.zero_min (And.intro @Nat.min_zero (And.intro @Nat.zero_le (And.intro @Bool.or_false (And.intro @Bool.or_true (And.intro @Bool.false_or (And.intro @Bool.true_or (And.intro @Bool.not_true (And.intro @Bool.not_false (And.intro @Gq (And.intro @Gr (And.intro @Gs (And.intro @Gu (And.intro @Gv (And.intro @Gw (And.intro @Gx (And.intro @Gy (And.intro @Gz (And.intro @GC (And.intro @GD (And.intro @GF (And.intro @GJ (And.intro @GK (And.intro @GP (And.intro @GQ (And.intro @GR (And.intro @GX (And.intro @GZ (And.intro @uV (And.intro @G8 (And.intro @Ha (And.intro @Hb (And.intro @Hc (And.intro @Hf (And.intro @Hg (And.intro @Hh (And.intro @Hi (And.intro @Hj (And.intro @Hk (And.intro @Hl (And.intro @Hm (And.intro @Hn (And.intro @Ho (And.intro @Hq (And.intro @Hr (And.intro @Hs (And.intro @Ht (And.intro @Hu (And.intro @Hv (And.intro @Hw (And.intro @Hx (And.intro @Hy (And.intro @Hz (And.intro @HB (And.intro @HF (And.intro @HH (And.intro @HJ (And.intro @HN (And.intro @HQ (And.intro @HR (And.intro @HS (And.intro @HW (@HX))))))))))))))))))))))))))))))))))))))))))))))))))))))))))))))))))))))))))))))))))))))))):=And.intro @H9 (And.intro @Ia (And.intro @Ib (And.intro @Option.join_some.{0} (And.intro @List.map_cons.{0,0} (And.intro @List.map_nil.{0,0} (And.intro @List.cons_append.{0} (And.intro @List.nil_append.{0} (And.intro @List.replicate_succ.{0} (And.intro @List.replicate_zero.{0} (And.intro @List.getElem?_cons_zero.{0} (And.intro @List.getElem?_cons_succ.{0} (And.intro @List.set_cons_zero.{0} (And.intro @List.set_cons_succ.{0} (And.intro @List.length_cons.{0} (And.intro @List.length_nil.{0} (And.intro @BL (And.intro @BP (And.intro @BR (And.intro @BV (And.intro @BW (And.intro @BX (And.intro @BZ (And.intro @true_and (And.intro @and_true (And.intro @Nat.min_self (And.intro @Nat.zero_min (And.intro @Nat.min_zero (And.intro @Nat.zero_le (And.intro @Bool.or_false (And.intro @Bool.or_true (And.intro @Bool.false_or (And.intro @Bool.true_or (And.intro @Bool.not_true (And.intro @Bool.not_false (And.intro @Gq (And.intro @Gr (And.intro @Gs (And.intro @Gu (And.intro @Gv (And.intro @Gw (And.intro @Gx (And.intro @Gy (And.intro @Gz (And.intro @GC (And.intro @GD (And.intro @GF (And.intro @GJ (And.intro @GK (And.intro @GP (And.intro @GQ (And.intro @GR (And.intro @GX (And.intro @GZ (And.intro @uV (And.intro @G8 (And.intro @Ha (And.intro @Hb (And.intro @Hc (And.intro @Hf (And.intro @Hg (And.intro @Hh (And.intro @Hi (And.intro @Hj (And.intro @Hk (And.intro @Hl (And.intro @Hm (And.intro @Hn (And.intro @Ho (And.intro @Hq (And.intro @Hr (And.intro @Hs (And.intro @Ht (And.intro @Hu (And.intro @Hv (And.intro @Hw (And.intro @Hx (And.intro @Hy (And.intro @Hz (And.intro @HB (And.intro @HF (And.intro @HH (And.intro @HJ (And.intro @HN (And.intro @HQ (And.intro @HR (And.intro @HS (And.intro @HW (@HX))))))))))))))))))))))))))))))))))))))))))))))))))))))))))))))))))))))))))))))))))))))))
end RF
namespace RF
open PySem L2
def uY:Sxs:=(.cons (.for_ (.tp (.cons (.nm 2) (.cons (.nm 3) .nil))) (.zip (.var 0) (.var 1)) (.cons (.ite (.boo true (.val (.cmp .NotEq (.var 2) (.cst (.str [42])))) (.cons (.val (.cmp .NotEq (.var 2) (.var 3))) .nil)) (.cons (.ret (.cst (.bl false))) .nil) .nil) .nil)) (.cons (.ret (.cst (.bl true))) .nil))
def uZ:Sxs:=(.cons (.for_ (.tp (.cons (.nm 2) (.cons (.nm 3) .nil))) (.enm (.idx (.var 0) (.cst (.int 1)))) (.cons (.ite (.val (.call "_law_fits" (.cons (.idx (.var 3) (.cst (.int 0))) (.cons (.var 1) .nil)))) (.cons (.ret (.var 2)) .nil) .nil) .nil)) (.cons (.ret (.cst .non)) .nil))
def u5:Sxs:=(.cons (.asg (.nm 2) (.call "_law_met" (.cons (.var 0) (.cons (.var 1) .nil)))) (.cons (.ite (.val (.cmp .Is (.var 2) (.cst .non))) (.cons (.ret (.cst .non)) .nil) .nil) (.cons (.ret (.idx (.idx (.idx (.var 0) (.cst (.int 1))) (.var 2)) (.cst (.int 1)))) .nil)))
def u6:Sxs:=(.cons (.asg (.nm 1) (.lcl false .list (.cons (.slc true (.var 0) .no (.ob (.cst (.int 12)))) .nil))) (.cons (.for_ (.tp (.cons (.nm 2) (.cons (.nm 3) .nil))) (.enm (.slc true (.var 0) (.ob (.cst (.int 12))) (.ob (.cst (.int 63))))) (.cons (.set (.var 1) (.bin .Mod true (.var 2) (.cst (.int 12))) (.bin .Add true (.idx (.var 1) (.bin .Mod true (.var 2) (.cst (.int 12)))) (.var 3))) .nil)) (.cons (.ret (.lst false (.cons (.frz (.var 1)) (.cons (.cst (.int 0)) (.cons (.cst (.int 0)) .nil))))) .nil)))
def u9:Sxs:=(.cons (.ite (.val (.cmp .GtE (.var 0) (.bin .Pow true (.cst (.int 10)) (.cst (.int 18))))) (.cons (.ret (.var 0)) .nil) .nil) (.cons (.asg (.nm 2) (.bin .Mod true (.bin .Add true (.bin .Add true (.bin .Mult true (.bin .Mod true (.var 0) (.cst (.int 1000000007))) (.cst (.int 69069))) (.bin .Mult true (.var 1) (.cst (.int 40503)))) (.cst (.int 977))) (.cst (.int 2147483629)))) (.cons (.asg (.nm 3) (.bin .Mod true (.bin .Add true (.bin .Add true (.bin .Mult true (.var 2) (.var 2)) (.bin .Mult true (.var 1) (.cst (.int 7919)))) (.bin .Mod true (.var 0) (.cst (.int 65537)))) (.cst (.int 2147483587)))) (.cons (.asg (.nm 4) (.bin .Mod true (.bin .Add true (.bin .Add true (.bin .Mult true (.var 3) (.var 3)) (.bin .Mult true (.var 2) (.cst (.int 31)))) (.cst (.int 5))) (.cst (.int 2147483563)))) (.cons (.ret (.bin .Add true (.bin .Mult true (.bin .Add true (.bin .Mult true (.var 2) (.cst (.int 2147483659))) (.var 3)) (.cst (.int 2147483693))) (.var 4))) .nil)))))
def vd:Sxs:=(.cons (.ite (.val (.cmp .Lt (.idx (.var 0) (.cst (.int 2))) (.var 1))) (.cons (.asg (.nm 2) (.idx (.var 0) (.cst (.int 1)))) (.cons (.asg (.nm 3) (.cst (.int 0))) (.cons (.ite (.val (.cmp .Lt (.var 2) (.bcl .len (.cons (.idx (.var 0) (.cst (.int 0))) .nil)))) (.cons (.asg (.nm 3) (.idx (.idx (.var 0) (.cst (.int 0))) (.var 2))) .nil) (.cons (.ite (.val (.cmp .Gt (.bcl .len (.cons (.idx (.var 0) (.cst (.int 0))) .nil)) (.cst (.int 0)))) (.cons (.asg (.nm 3) (.bin .Mod true (.idx (.idx (.var 0) (.cst (.int 0))) (.bin .Mod true (.bin .Add true (.bin .Mult true (.var 2) (.cst (.int 5))) (.cst (.int 3))) (.bcl .len (.cons (.idx (.var 0) (.cst (.int 0))) .nil)))) (.bin .Add true (.bin .Pow true (.cst (.int 10)) (.cst (.int 17))) (.var 2)))) .nil) .nil) .nil)) (.cons (.set (.var 0) (.cst (.int 1)) (.bin .Add true (.var 2) (.cst (.int 1)))) (.cons (.set (.var 0) (.cst (.int 2)) (.call "_law_spread" (.cons (.var 3) (.cons (.var 2) .nil)))) .nil))))) .nil) (.cons (.asg (.nm 4) (.bin .Mod true (.idx (.var 0) (.cst (.int 2))) (.var 1))) (.cons (.set (.var 0) (.cst (.int 2)) (.bin .FloorDiv true (.idx (.var 0) (.cst (.int 2))) (.var 1))) (.cons (.ret (.var 4)) .nil))))
def vf:Sxs:=(.cons (.asg (.tp (.cons (.nm 2) (.cons (.nm 3) .nil))) (.var 1)) (.cons (.asg (.nm 4) (.lst false (.cons (.cst .non) (.cons (.cst (.int 7)) (.cons (.cst (.str [98,111,111,107])) (.cons (.tup .nil) (.cons (.tup (.cons (.var 2) .nil)) (.cons (.lst true (.cons (.var 2) (.cons (.var 3) .nil))) (.cons (.tup (.cons (.var 2) (.cons (.lcl true .list (.cons (.var 3) .nil)) .nil))) (.cons (.tup (.cons (.cst (.int 0)) (.cons (.tup .nil) .nil))) (.cons (.tup (.cons (.cst (.int 7)) (.cons (.tup .nil) .nil))) (.cons (.tup (.cons (.cst (.bl true)) (.cons (.tup .nil) .nil))) .nil)))))))))))) (.cons (.asg (.nm 4) (.bin .Add false (.var 4) (.lst true (.cons (.tup (.cons (.var 2) (.cons (.var 3) (.cons (.tup .nil) .nil)))) (.cons (.tup (.cons (.var 2) (.cons (.bin .Add true (.var 3) (.tup (.cons (.tup (.cons (.bin .Mult true (.cst (.str [42])) (.bin .Add true (.var 2) (.cst (.int 1)))) (.cons (.cst (.str [97])) .nil))) .nil))) .nil))) .nil))))) (.cons (.exp (.mth .append (.var 4) (.cons (.tup (.cons (.var 2) (.cons (.bin .Add true (.var 3) (.tup (.cons (.tup (.cons (.bin .Mult true (.cst (.str [42])) (.var 2)) (.cons (.cst (.str [65])) .nil))) .nil))) .nil))) .nil))) (.cons (.asg (.nm 4) (.bin .Add false (.var 4) (.lst true (.cons (.tup (.cons (.var 2) (.cons (.bin .Add true (.var 3) (.tup (.cons (.tup (.cons (.bin .Mult true (.cst (.str [42])) (.var 2)) (.cons (.cst (.str [])) .nil))) .nil))) .nil))) (.cons (.tup (.cons (.var 2) (.cons (.bin .Add true (.var 3) (.tup (.cons (.lst true (.cons (.bin .Mult true (.cst (.str [42])) (.var 2)) (.cons (.cst (.str [97])) .nil))) .nil))) .nil))) (.cons (.tup (.cons (.bcl .str (.cons (.var 2) .nil)) (.cons (.var 3) .nil))) .nil)))))) (.cons (.asg (.nm 4) (.bin .Add false (.var 4) (.lst true (.cons (.tup (.cons (.var 2) (.cons (.bin .Mult true (.tup (.cons (.tup (.cons (.bin .Mult true (.cst (.str [42])) (.var 2)) (.cons (.cst (.str [97])) .nil))) .nil)) (.cst (.int 13))) .nil))) (.cons (.tup (.cons (.var 2) (.cons (.bin .Add true (.var 3) (.tup (.cons (.tup (.cons (.bin .Mult true (.cst (.str [50])) (.var 2)) (.cons (.cst (.str [97])) .nil))) .nil))) .nil))) .nil))))) (.cons (.ret (.idx (.var 4) (.call "_law_take" (.cons (.var 0) (.cons (.bcl .len (.cons (.var 4) .nil)) .nil))))) .nil)))))))
def iY:Sxs:=(.cons (.ite (.boo false (.not (.val (.isi (.var 0) "str"))) (.cons (.not (.val (.chn .LtE .LtE (.cst (.int 1)) (.bcl .len (.cons (.var 0) .nil)) (.glb "LONGEST_DEED" (.int 8))))) .nil)) (.cons (.ret (.cst (.bl false))) .nil) .nil) (.cons (.ret (.bcl .all (.cons (.comp true (.cmp .In (.var 0) (.glb "LETTERS" (.str [97,98,99,100,101,102,103,104,105,106,107,108,109,110,111,112,113,114,115,116,117,118,119,120,121,122]))) (.nm 0) (.seq (.var 0)) .yes ["sign"] [none]) .nil))) .nil))
def iZ:Sxs:=(.cons (.ite (.boo false (.not (.val (.isi (.var 2) "str"))) (.cons (.val (.cmp .NotEq (.bcl .len (.cons (.var 2) .nil)) (.var 1))) .nil)) (.cons (.ret (.cst (.bl false))) .nil) .nil) (.cons (.ret (.bcl .all (.cons (.comp true (.cmp .In (.var 0) (.var 1)) (.nm 0) (.seq (.var 2)) .yes ["sign","signs"] [none,some 0]) .nil))) .nil))
def jQ:Sxs:=(.cons (.ret (.call "is_text_of" (.cons (.cst (.str [48,49,42])) (.cons (.var 0) (.cons (.var 1) .nil))))) .nil)
def eH:Sxs:=(.cons (.ite (.boo false (.not (.val (.isi (.var 1) "tuple"))) (.cons (.val (.cmp .NotEq (.bcl .len (.cons (.var 1) .nil)) (.cst (.int 2)))) .nil)) (.cons (.ret (.cst (.bl false))) .nil) .nil) (.cons (.ret (.boo true (.call "is_form" (.cons (.var 0) (.cons (.idx (.var 1) (.cst (.int 0))) .nil))) (.cons (.call "is_deed" (.cons (.idx (.var 1) (.cst (.int 1))) .nil)) .nil))) .nil))
def jR:Sxs:=(.cons (.ret (.boo true (.isi (.var 0) "int") (.cons (.not (.isi (.var 0) "bool")) .nil))) .nil)
def jT:Sxs:=(.cons (.ret (.boo true (.call "is_whole" (.cons (.var 0) .nil)) (.cons (.chn .LtE .LtE (.cst (.int 1)) (.var 0) (.glb "WIDEST" (.int 6))) .nil))) .nil)
def eN:Sxs:=(.cons (.ite (.boo false (.not (.val (.isi (.var 0) "tuple"))) (.cons (.val (.cmp .NotEq (.bcl .len (.cons (.var 0) .nil)) (.cst (.int 2)))) .nil)) (.cons (.ret (.cst (.bl false))) .nil) .nil) (.cons (.asg (.tp (.cons (.nm 1) (.cons (.nm 2) .nil))) (.var 0)) (.cons (.ite (.boo false (.not (.val (.call "is_width" (.cons (.var 1) .nil)))) (.cons (.not (.val (.isi (.var 2) "tuple"))) (.cons (.val (.cmp .Gt (.bcl .len (.cons (.var 2) .nil)) (.glb "MOST_ROWS" (.int 12)))) .nil))) (.cons (.ret (.cst (.bl false))) .nil) .nil) (.cons (.ret (.bcl .all (.cons (.comp true (.call "is_row" (.cons (.var 1) (.cons (.var 0) .nil))) (.nm 0) (.seq (.var 2)) .yes ["row","width"] [none,some 1]) .nil))) .nil))))
def gG:Sxs:=(.cons (.ite (.not (.val (.call "is_book" (.cons (.var 0) .nil)))) (.cons (.rse "NoBook" .nil) .nil) .nil) .nil)
def eO:Sxs:=(.cons (.exp (.call "need_book" (.cons (.var 0) .nil))) (.cons (.exp (.call "need_book" (.cons (.var 1) .nil))) (.cons (.ite (.val (.cmp .NotEq (.idx (.var 0) (.cst (.int 0))) (.idx (.var 1) (.cst (.int 0))))) (.cons (.rse "NoMatch" (.cons (.idx (.var 0) (.cst (.int 0))) (.cons (.idx (.var 1) (.cst (.int 0))) .nil))) .nil) .nil) .nil)))
def vg:Sxs:=(.cons (.exp (.call "need_two_books" (.cons (.var 0) (.cons (.var 1) .nil)))) (.cons .nev (.cons .nev (.cons .nev (.cons .nev (.cons .nev .nil))))))
def vh:Sxs:=(.cons (.exp (.call "need_two_books" (.cons (.var 0) (.cons (.var 1) .nil)))) (.cons .nev (.cons .nev (.cons .nev .nil))))
def jb:Sxs:=(.cons (.ite (.val (.cmp .Is (.var 1) (.cst .non))) (.cons (.ret (.cst .non)) .nil) .nil) (.cons (.ret (.idx (.idx (.idx (.var 0) (.cst (.int 1))) (.var 1)) (.cst (.int 1)))) .nil))
def jU:Sxs:=(.cons (.ite (.val (.cmp .NotEq (.bcl .len (.cons (.var 0) .nil)) (.bcl .len (.cons (.var 1) .nil)))) (.cons (.ret (.cst (.bl false))) .nil) .nil) (.cons (.ret (.bcl .all (.cons (.comp true (.boo false (.cmp .Eq (.var 0) (.cst (.str [42]))) (.cons (.cmp .Eq (.var 0) (.var 1)) .nil)) (.tp (.cons (.nm 0) (.cons (.nm 1) .nil))) (.zip (.var 0) (.var 1)) .yes ["sign","given"] [none,none]) .nil))) .nil))
def jV:Sxs:=(.cons (.ret (.call "is_text_of" (.cons (.cst (.str [48,49])) (.cons (.var 0) (.cons (.var 1) .nil))))) .nil)
def fM:Sxs:=(.cons (.exp (.call "need_book" (.cons (.var 0) .nil))) (.cons (.asg (.tp (.cons (.nm 2) (.cons (.nm 3) .nil))) (.var 0)) (.cons (.ite (.not (.val (.call "is_word" (.cons (.var 2) (.cons (.var 1) .nil))))) (.cons (.rse "NoWord" (.cons (.var 2) .nil)) .nil) .nil) (.cons (.for_ (.tp (.cons (.nm 4) (.cons (.nm 5) .nil))) (.enm (.var 3)) (.cons (.ite (.val (.call "fits" (.cons (.idx (.var 5) (.cst (.int 0))) (.cons (.var 1) .nil)))) (.cons (.ret (.var 4)) .nil) .nil) .nil)) (.cons (.ret (.cst .non)) .nil)))))
def gH:Sxs:=(.cons (.ret (.call "deed_of" (.cons (.var 0) (.cons (.call "met" (.cons (.var 0) (.cons (.var 1) .nil))) .nil)))) .nil)
def fO:Sxs:=(.cons (.exp (.call "need_two_books" (.cons (.var 0) (.cons (.var 1) .nil)))) (.cons (.ret (.cmp .NotEq (.call "deed" (.cons (.var 0) (.cons (.var 2) .nil))) (.call "deed" (.cons (.var 1) (.cons (.var 2) .nil))))) .nil))
def vm:Sxs:=(.cons (.asg (.nm 4) (.cst .non)) (.cons (.tryx (.ite (.val (.cmp .Eq (.var 0) (.cst (.int 0)))) (.call "alike" (.cons (.var 1) (.cons (.var 2) .nil))) (.ite (.val (.cmp .Eq (.var 0) (.cst (.int 1)))) (.call "is_alike" (.cons (.var 1) (.cons (.var 2) (.cons (.tup (.cons (.cst (.str [115,97,109,101])) (.cons (.cst .non) (.cons (.cst .non) .nil)))) .nil)))) (.call "parts" (.cons (.var 1) (.cons (.var 2) (.cons (.var 3) .nil)))))) "SieveError" (.bind 5 4) ["NoBook","NoMatch","NoWord"]) (.cons (.asg (.nm 6) (.lst true (.cons (.isx (.var 4) "NoBook" ["NoBook","NoMatch","NoWord"]) (.cons (.isx (.var 4) "NoMatch" ["NoBook","NoMatch","NoWord"]) (.cons (.isx (.var 4) "NoWord" ["NoBook","NoMatch","NoWord"]) .nil))))) (.cons (.asg (.nm 7) (.lst true (.cons (.isx (.var 4) "NoForm" ["NoBook","NoMatch","NoWord"]) (.cons (.isx (.var 4) "NoJoin" ["NoBook","NoMatch","NoWord"]) (.cons (.isx (.var 4) "NoOrder" ["NoBook","NoMatch","NoWord"]) .nil))))) (.cons (.asg (.nm 7) (.bin .Add true (.var 7) (.lst true (.cons (.isx (.var 4) "NoRow" ["NoBook","NoMatch","NoWord"]) (.cons (.isx (.var 4) "TooMany" ["NoBook","NoMatch","NoWord"]) .nil))))) (.cons (.ite (.val (.cmp .Is (.var 4) (.cst .non))) (.cons (.ret (.cst (.str [110,111,110,101]))) .nil) .nil) (.cons (.ite (.boo false (.val (.cmp .NotEq (.mth .count (.var 6) (.cons (.cst (.bl true)) .nil)) (.cst (.int 1)))) (.cons (.val (.cmp .In (.cst (.bl true)) (.var 7))) (.cons (.not (.val (.isx (.var 4) "ValueError" ["NoBook","NoMatch","NoWord"]))) .nil))) (.cons (.ret (.cst (.str [111,100,100]))) .nil) .nil) (.cons (.ret (.idx (.lst true (.cons (.cst (.str [98,111,111,107])) (.cons (.cst (.str [109,97,116,99,104])) (.cons (.cst (.str [119,111,114,100])) .nil)))) (.mth .index (.var 6) (.cons (.cst (.bl true)) .nil)))) .nil))))))))
def vo:Sxs:=(.cons (.asg (.nm 3) (.call "_law_no_book" (.cons (.var 0) (.cons (.var 1) .nil)))) (.cons (.asg (.nm 4) (.tup (.cons (.bin .Add true (.bin .Mod true (.idx (.var 1) (.cst (.int 0))) (.cst (.int 6))) (.cst (.int 1))) (.cons (.tup .nil) .nil)))) (.cons (.asg (.nm 5) (.lst true (.cons (.bin .Mult true (.cst (.str [48])) (.bin .Add true (.idx (.var 1) (.cst (.int 0))) (.cst (.int 1)))) (.cons (.cst (.str [])) (.cons (.bin .Add true (.bin .Mult true (.cst (.str [48])) (.bin .Sub true (.idx (.var 1) (.cst (.int 0))) (.cst (.int 1)))) (.cst (.str [42]))) (.cons (.cst .non) (.cons (.cst (.int 0)) (.cons (.bin .Mult true (.lst true (.cons (.cst (.str [48])) .nil)) (.idx (.var 1) (.cst (.int 0)))) .nil)))))))) (.cons (.asg (.nm 6) (.idx (.var 5) (.call "_law_take" (.cons (.var 0) (.cons (.cst (.int 6)) .nil))))) (.cons (.for_ (.nm 7) (.rng (.cst (.int 3))) (.cons (.ite (.boo false (.val (.cmp .NotEq (.call "_law_told" (.cons (.var 7) (.cons (.var 3) (.cons (.var 4) (.cons (.var 6) .nil))))) (.cst (.str [98,111,111,107])))) (.cons (.val (.cmp .NotEq (.call "_law_told" (.cons (.var 7) (.cons (.var 1) (.cons (.var 3) (.cons (.var 6) .nil))))) (.cst (.str [98,111,111,107])))) .nil)) (.cons (.ret (.cst (.bl false))) .nil) .nil) (.cons (.ite (.val (.cmp .NotEq (.call "_law_told" (.cons (.var 7) (.cons (.var 1) (.cons (.var 4) (.cons (.var 6) .nil))))) (.cst (.str [109,97,116,99,104])))) (.cons (.ret (.cst (.bl false))) .nil) .nil) .nil))) (.cons (.ite (.boo true (.val (.cmp .Eq (.idx (.var 1) (.cst (.int 0))) (.cst (.int 1)))) (.cons (.val (.cmp .Eq (.var 6) (.cst (.str [])))) .nil)) (.cons (.ret (.cst (.bl true))) .nil) .nil) (.cons (.ret (.cmp .Eq (.call "_law_told" (.cons (.cst (.int 2)) (.cons (.var 1) (.cons (.var 2) (.cons (.var 6) .nil))))) (.cst (.str [119,111,114,100])))) .nil)))))))
def vp:Sxs:=(.cons (.set (.var 0) (.cst (.int 2)) (.cst (.int 0))) (.cons (.ret (.var 0)) .nil))
def vq:Sxs:=(.cons (.ret (.mth .join (.cst (.str [])) (.cons (.comp true (.idx (.var 1) (.call "_law_take" (.cons (.var 2) (.cons (.bcl .len (.cons (.var 1) .nil)) .nil)))) (.nm 0) (.rng (.var 1)) .yes ["at","signs","pen"] [none,some 2,some 0]) .nil))) .nil)
def vy:Sxs:=(.cons (.asg (.nm 2) (.lst true (.cons (.cst (.str [97])) (.cons (.cst (.str [103,111])) (.cons (.cst (.str [115,116,97,121])) (.cons (.cst (.str [97,98,99,100,101,102,103,104])) (.cons (.cst (.str [110,111,110,101])) (.cons (.cst (.str [121,101,115])) (.cons (.cst (.str [105,110])) (.cons (.cst (.str [111,117,116])) (.cons (.cst (.str [107,101,101,112])) (.cons (.cst (.str [119,111,114,100])) (.cons (.cst (.str [122,122])) .nil))))))))))))) (.cons (.asg (.nm 3) (.call "_law_take" (.cons (.var 0) (.cons (.cst (.int 11)) .nil)))) (.cons (.asg (.nm 4) (.comp true (.idx (.var 1) (.bin .Mod true (.bin .Add true (.var 2) (.bin .Mult true (.cst (.int 3)) (.var 0))) (.cst (.int 11)))) (.nm 0) (.rng (.bin .Add true (.cst (.int 1)) (.call "_law_take" (.cons (.var 0) (.cons (.var 1) .nil))))) .yes ["k","some","turn"] [none,some 2,some 3])) (.cons (.ite (.val (.cmp .Eq (.call "_law_take" (.cons (.var 0) (.cons (.cst (.int 3)) .nil))) (.cst (.int 0)))) (.cons (.asg (.nm 5) (.cst (.str [97,98,99,100,101,102,103,104,105,106,107,108,109,110,111,112,113,114,115,116,117,118,119,120,121,122]))) (.cons (.asg (.nm 4) (.comp true (.call "_law_signs" (.cons (.var 1) (.cons (.bin .Add true (.cst (.int 1)) (.call "_law_take" (.cons (.var 1) (.cons (.cst (.int 8)) .nil)))) (.cons (.var 2) .nil)))) (.nm 0) (.seq (.var 4)) .yes ["one","pen","letters"] [none,some 0,some 5])) .nil)) .nil) (.cons (.ret (.var 4)) .nil)))))
def vz:Sxs:=(.cons (.ret (.call "_law_signs" (.cons (.var 0) (.cons (.var 1) (.cons (.idx (.lst true (.cons (.cst (.str [48,49,42])) (.cons (.cst (.str [48,49,42,42])) (.cons (.cst (.str [48,49,42,42,42,42])) (.cons (.cst (.str [48,42])) (.cons (.cst (.str [48,49])) .nil)))))) (.call "_law_take" (.cons (.var 0) (.cons (.cst (.int 5)) .nil)))) .nil))))) .nil)
def vA:Sxs:=(.cons (.asg (.nm 2) (.cst (.str []))) (.cons (.for_ (.nm 3) (.seq (.var 1)) (.cons (.ite (.val (.cmp .Eq (.call "_law_take" (.cons (.var 0) (.cons (.cst (.int 3)) .nil))) (.cst (.int 0)))) (.cons (.asg (.nm 3) (.cst (.str [42]))) .nil) .nil) (.cons (.asg (.nm 2) (.bin .Add true (.var 2) (.var 3))) .nil))) (.cons (.ret (.var 2)) .nil)))
def vB:Sxs:=(.cons (.asg (.nm 2) (.cst (.str []))) (.cons (.for_ (.nm 3) (.seq (.var 1)) (.cons (.ite (.boo true (.val (.cmp .Eq (.var 3) (.cst (.str [42])))) (.cons (.val (.cmp .Eq (.call "_law_take" (.cons (.var 0) (.cons (.cst (.int 2)) .nil))) (.cst (.int 0)))) .nil)) (.cons (.asg (.nm 3) (.idx (.cst (.str [48,49])) (.call "_law_take" (.cons (.var 0) (.cons (.cst (.int 2)) .nil))))) .nil) .nil) (.cons (.asg (.nm 2) (.bin .Add true (.var 2) (.var 3))) .nil))) (.cons (.ret (.var 2)) .nil)))
def vC:Sxs:=(.cons (.asg (.nm 3) (.call "_law_take" (.cons (.var 0) (.cons (.cst (.int 7)) .nil)))) (.cons (.ite (.boo false (.val (.cmp .Eq (.var 2) (.lst true .nil))) (.cons (.val (.cmp .Lt (.var 3) (.cst (.int 2)))) .nil)) (.cons (.ret (.call "_law_form" (.cons (.var 0) (.cons (.var 1) .nil)))) .nil) .nil) (.cons (.asg (.nm 4) (.idx (.var 2) (.call "_law_take" (.cons (.var 0) (.cons (.bcl .len (.cons (.var 2) .nil)) .nil))))) (.cons (.ite (.val (.cmp .Eq (.var 3) (.cst (.int 2)))) (.cons (.ret (.var 4)) .nil) .nil) (.cons (.ite (.val (.cmp .Lt (.var 3) (.cst (.int 5)))) (.cons (.asg (.nm 5) (.call "_law_take" (.cons (.var 0) (.cons (.var 1) .nil)))) (.cons (.ret (.bin .Add true (.bin .Add true (.slc true (.var 4) .no (.ob (.var 5))) (.idx (.cst (.str [48,49,42])) (.call "_law_take" (.cons (.var 0) (.cons (.cst (.int 3)) .nil))))) (.slc true (.var 4) (.ob (.bin .Add true (.var 5) (.cst (.int 1)))) .no))) .nil)) .nil) (.cons (.ite (.val (.cmp .Eq (.var 3) (.cst (.int 5)))) (.cons (.ret (.call "_law_within" (.cons (.var 0) (.cons (.var 4) .nil)))) .nil) .nil) (.cons (.ret (.call "_law_wider" (.cons (.var 0) (.cons (.var 4) .nil)))) .nil)))))))
def vD:Sxs:=(.cons (.asg (.tp (.cons (.nm 2) (.cons (.nm 3) .nil))) (.var 1)) (.cons (.asg (.nm 3) (.lcl true .list (.cons (.var 3) .nil))) (.cons (.asg (.nm 4) (.comp true (.idx (.var 0) (.cst (.int 0))) (.nm 0) (.seq (.var 3)) .yes ["row"] [none])) (.cons (.asg (.nm 5) (.tup (.cons (.call "_law_form_like" (.cons (.var 0) (.cons (.var 2) (.cons (.var 4) .nil)))) (.cons (.idx (.call "_law_deeds_of" (.cons (.var 0) (.cons (.cst (.int 1)) .nil))) (.cst (.int 0))) .nil)))) (.cons (.asg (.nm 6) (.call "_law_take" (.cons (.var 0) (.cons (.cst (.int 6)) .nil)))) (.cons (.ite (.boo false (.val (.cmp .Eq (.var 3) (.lst true .nil))) (.cons (.boo true (.val (.cmp .Eq (.var 6) (.cst (.int 0)))) (.cons (.val (.cmp .Lt (.bcl .len (.cons (.var 3) .nil)) (.cst (.int 12)))) .nil)) .nil)) (.cons (.asg (.nm 7) (.call "_law_take" (.cons (.var 0) (.cons (.bin .Add true (.bcl .len (.cons (.var 3) .nil)) (.cst (.int 1))) .nil)))) (.cons (.ret (.tup (.cons (.var 2) (.cons (.bcl .tuple (.cons (.bin .Add true (.bin .Add true (.slc true (.var 3) .no (.ob (.var 7))) (.lst true (.cons (.var 5) .nil))) (.slc true (.var 3) (.ob (.var 7)) .no)) .nil)) .nil)))) .nil)) .nil) (.cons (.asg (.nm 7) (.call "_law_take" (.cons (.var 0) (.cons (.bcl .len (.cons (.var 3) .nil)) .nil)))) (.cons (.ite (.val (.cmp .Eq (.var 6) (.cst (.int 1)))) (.cons (.ret (.tup (.cons (.var 2) (.cons (.bcl .tuple (.cons (.bin .Add true (.slc true (.var 3) .no (.ob (.var 7))) (.slc true (.var 3) (.ob (.bin .Add true (.var 7) (.cst (.int 1)))) .no)) .nil)) .nil)))) .nil) .nil) (.cons (.ite (.val (.cmp .Eq (.var 6) (.cst (.int 2)))) (.cons (.ret (.tup (.cons (.var 2) (.cons (.bcl .tuple (.cons (.bin .Add true (.bin .Add true (.slc true (.var 3) .no (.ob (.var 7))) (.rvs true (.slc true (.var 3) (.ob (.var 7)) (.ob (.bin .Add true (.var 7) (.cst (.int 2))))) (.neg (.cst (.int 1))))) (.slc true (.var 3) (.ob (.bin .Add true (.var 7) (.cst (.int 2)))) .no)) .nil)) .nil)))) .nil) .nil) (.cons (.ite (.val (.cmp .Eq (.var 6) (.cst (.int 3)))) (.cons (.asg (.nm 5) (.tup (.cons (.idx (.idx (.var 3) (.var 7)) (.cst (.int 0))) (.cons (.idx (.idx (.var 3) (.call "_law_take" (.cons (.var 0) (.cons (.bcl .len (.cons (.var 3) .nil)) .nil)))) (.cst (.int 1))) .nil)))) .nil) .nil) (.cons (.ite (.val (.cmp .Eq (.var 6) (.cst (.int 4)))) (.cons (.asg (.nm 5) (.tup (.cons (.call "_law_form_like" (.cons (.var 0) (.cons (.var 2) (.cons (.lst true (.cons (.idx (.idx (.var 3) (.var 7)) (.cst (.int 0))) .nil)) .nil)))) (.cons (.idx (.idx (.var 3) (.var 7)) (.cst (.int 1))) .nil)))) .nil) .nil) (.cons (.ret (.tup (.cons (.var 2) (.cons (.bcl .tuple (.cons (.bin .Add true (.bin .Add true (.slc true (.var 3) .no (.ob (.var 7))) (.lst true (.cons (.var 5) .nil))) (.slc true (.var 3) (.ob (.bin .Add true (.var 7) (.cst (.int 1)))) .no)) .nil)) .nil)))) .nil))))))))))))
def vG:Sxs:=(.cons (.asg (.nm 3) (.bin .Add true (.cst (.int 1)) (.call "_law_take" (.cons (.var 0) (.cons (.var 1) .nil))))) (.cons (.asg (.nm 4) (.call "_law_deeds_of" (.cons (.var 0) (.cons (.cst (.int 3)) .nil)))) (.cons (.asg (.nm 5) (.lst false .nil)) (.cons (.asg (.nm 6) (.lst false .nil)) (.cons (.for_ (.nm 7) (.rng (.call "_law_take" (.cons (.var 0) (.cons (.bin .Add true (.var 2) (.cst (.int 1))) .nil)))) (.cons (.exp (.mth .append (.var 5) (.cons (.call "_law_form_like" (.cons (.var 0) (.cons (.var 3) (.cons (.var 5) .nil)))) .nil))) (.cons (.exp (.mth .append (.var 6) (.cons (.tup (.cons (.idx (.var 5) (.neg (.cst (.int 1)))) (.cons (.idx (.var 4) (.call "_law_take" (.cons (.var 0) (.cons (.bcl .len (.cons (.var 4) .nil)) .nil)))) .nil))) .nil))) .nil))) (.cons (.ret (.tup (.cons (.var 3) (.cons (.bcl .tuple (.cons (.var 6) .nil)) .nil)))) .nil))))))
def vH:Sxs:=(.cons (.ret (.cmp .Eq (.comp true (.cst (.int 1)) (.tp (.cons (.nm 0) (.cons (.nm 1) .nil))) (.zip (.var 0) (.var 1)) (.val (.cmp .In (.bin .Add true (.var 0) (.var 1)) (.tup (.cons (.cst (.str [48,49])) (.cons (.cst (.str [49,48])) .nil))))) ["one","two"] [none,none]) (.lst true .nil))) .nil)
def vI:Sxs:=(.cons (.asg (.nm 2) (.call "_law_take" (.cons (.var 0) (.cons (.bcl .len (.cons (.var 1) .nil)) .nil)))) (.cons (.asg (.tp (.cons (.nm 3) (.cons (.nm 4) .nil))) (.idx (.var 1) (.var 2))) (.cons (.asg (.nm 5) (.comp true (.var 0) (.nm 0) (.rng (.bcl .len (.cons (.var 3) .nil))) (.val (.cmp .Eq (.idx (.var 1) (.var 0)) (.cst (.str [42])))) ["place","form"] [none,some 3])) (.cons (.asg (.nm 6) (.call "_law_take" (.cons (.var 0) (.cons (.cst (.int 5)) .nil)))) (.cons (.ite (.boo true (.val (.cmp .Eq (.var 6) (.cst (.int 0)))) (.cons (.val (.cmp .NotEq (.var 5) (.lst true .nil))) .nil)) (.cons (.asg (.nm 7) (.idx (.var 5) (.call "_law_take" (.cons (.var 0) (.cons (.bcl .len (.cons (.var 5) .nil)) .nil))))) (.cons (.asg (.nm 8) (.comp true (.tup (.cons (.bin .Add true (.bin .Add true (.slc true (.var 2) .no (.ob (.var 3))) (.var 0)) (.slc true (.var 2) (.ob (.bin .Add true (.var 3) (.cst (.int 1)))) .no)) (.cons (.var 1) .nil))) (.nm 0) (.seq (.idx (.lst true (.cons (.cst (.str [48,49])) (.cons (.cst (.str [49,48])) .nil))) (.call "_law_take" (.cons (.var 0) (.cons (.cst (.int 2)) .nil))))) .yes ["sign","one","form","place"] [none,some 4,some 3,some 7])) (.cons (.ret (.bin .Add true (.bin .Add true (.slc true (.var 1) .no (.ob (.var 2))) (.var 8)) (.slc true (.var 1) (.ob (.bin .Add true (.var 2) (.cst (.int 1)))) .no))) .nil))) .nil) (.cons (.ite (.val (.cmp .Eq (.var 6) (.cst (.int 1)))) (.cons (.asg (.nm 7) (.bin .Add true (.bin .Add true (.var 2) (.cst (.int 1))) (.call "_law_take" (.cons (.var 0) (.cons (.bin .Sub true (.bcl .len (.cons (.var 1) .nil)) (.var 2)) .nil))))) (.cons (.ret (.bin .Add true (.bin .Add true (.slc true (.var 1) .no (.ob (.var 7))) (.lst true (.cons (.tup (.cons (.call "_law_within" (.cons (.var 0) (.cons (.var 3) .nil))) (.cons (.idx (.idx (.var 1) (.call "_law_take" (.cons (.var 0) (.cons (.bcl .len (.cons (.var 1) .nil)) .nil)))) (.cst (.int 1))) .nil))) .nil))) (.slc true (.var 1) (.ob (.var 7)) .no))) .nil)) .nil) (.cons (.ite (.val (.cmp .Eq (.var 6) (.cst (.int 2)))) (.cons (.ret (.bin .Add true (.bin .Add true (.slc true (.var 1) .no (.ob (.var 2))) (.lst true (.cons (.tup (.cons (.call "_law_within" (.cons (.var 0) (.cons (.var 3) .nil))) (.cons (.var 4) .nil))) .nil))) (.slc true (.var 1) (.ob (.var 2)) .no))) .nil) .nil) (.cons (.ite (.boo true (.val (.cmp .Lt (.bin .Add true (.var 2) (.cst (.int 1))) (.bcl .len (.cons (.var 1) .nil)))) (.cons (.boo false (.val (.cmp .Eq (.idx (.idx (.var 1) (.bin .Add true (.var 2) (.cst (.int 1)))) (.cst (.int 1))) (.var 4))) (.cons (.not (.val (.call "_law_meet" (.cons (.var 3) (.cons (.idx (.idx (.var 1) (.bin .Add true (.var 2) (.cst (.int 1)))) (.cst (.int 0))) .nil))))) .nil)) .nil)) (.cons (.ret (.bin .Add true (.bin .Add true (.slc true (.var 1) .no (.ob (.var 2))) (.lst true (.cons (.idx (.var 1) (.bin .Add true (.var 2) (.cst (.int 1)))) (.cons (.idx (.var 1) (.var 2)) .nil)))) (.slc true (.var 1) (.ob (.bin .Add true (.var 2) (.cst (.int 2)))) .no))) .nil) .nil) (.cons (.ret (.var 1)) .nil)))))))))
def vJ:Sxs:=(.cons (.asg (.nm 3) (.lcl true .list (.cons (.idx (.var 1) (.cst (.int 1))) .nil))) (.cons (.for_ (.nm 4) (.rng (.bin .Mult true (.var 2) (.bcl .int (.cons (.cmp .NotEq (.var 3) (.lst true .nil)) .nil)))) (.cons (.ite (.val (.cmp .Lt (.bcl .len (.cons (.var 3) .nil)) (.cst (.int 12)))) (.cons (.asg (.nm 3) (.call "_law_one_turning" (.cons (.var 0) (.cons (.var 3) .nil)))) .nil) .nil) .nil)) (.cons (.ret (.tup (.cons (.idx (.var 1) (.cst (.int 0))) (.cons (.bcl .tuple (.cons (.var 3) .nil)) .nil)))) .nil)))
def vK:Sxs:=(.cons (.asg (.nm 3) (.call "_law_book" (.cons (.call "_law_anew" (.cons (.var 0) .nil)) (.cons (.var 1) (.cons (.var 2) .nil))))) (.cons (.asg (.nm 4) (.call "_law_take" (.cons (.var 0) (.cons (.cst (.int 5)) .nil)))) (.cons (.ite (.val (.cmp .Lt (.var 4) (.cst (.int 2)))) (.cons (.asg (.nm 5) (.call "_law_turned_alike" (.cons (.var 0) (.cons (.var 3) (.cons (.bin .Add true (.cst (.int 1)) (.call "_law_take" (.cons (.var 0) (.cons (.cst (.int 3)) .nil)))) .nil))))) .nil) (.cons (.ite (.val (.cmp .Lt (.var 4) (.cst (.int 4)))) (.cons (.asg (.nm 5) (.call "_law_bent_book" (.cons (.var 0) (.cons (.call "_law_turned_alike" (.cons (.var 0) (.cons (.var 3) (.cons (.call "_law_take" (.cons (.var 0) (.cons (.cst (.int 3)) .nil))) .nil)))) .nil)))) .nil) (.cons (.asg (.nm 6) (.idx (.call "_law_book" (.cons (.var 0) (.cons (.var 1) (.cons (.var 2) .nil)))) (.cst (.int 1)))) (.cons (.asg (.nm 5) (.tup (.cons (.idx (.var 3) (.cst (.int 0))) (.cons (.bcl .tuple (.cons (.comp true (.tup (.cons (.slc true (.bin .Mult true (.idx (.var 0) (.cst (.int 0))) (.cst (.int 6))) .no (.ob (.idx (.var 1) (.cst (.int 0))))) (.cons (.idx (.var 0) (.cst (.int 1))) .nil))) (.nm 0) (.seq (.var 6)) .yes ["row","book"] [none,some 3]) .nil)) .nil)))) .nil))) .nil)) (.cons (.ret (.idx (.lst true (.cons (.tup (.cons (.var 3) (.cons (.var 5) .nil))) (.cons (.tup (.cons (.var 5) (.cons (.var 3) .nil))) .nil))) (.call "_law_take" (.cons (.var 0) (.cons (.cst (.int 2)) .nil))))) .nil))))
def vL:Sxs:=(.cons (.asg (.nm 1) (.lst true (.cons (.cst (.str [])) .nil))) (.cons (.for_ (.nm 2) (.seq (.var 0)) (.cons (.asg (.nm 3) (.lst false .nil)) (.cons (.for_ (.nm 4) (.seq (.var 1)) (.cons (.exp (.mth .extend (.var 3) (.cons (.comp true (.bin .Add true (.var 1) (.var 0)) (.nm 0) (.seq (.idx (.lst true (.cons (.cst (.str [48,49])) (.cons (.var 2) .nil))) (.bcl .int (.cons (.cmp .NotEq (.var 2) (.cst (.str [42]))) .nil)))) .yes ["one","text"] [none,some 4]) .nil))) .nil)) (.cons (.asg (.nm 1) (.frz (.var 3))) .nil)))) (.cons (.ret (.var 1)) .nil)))
def vM:Sxs:=(.cons (.asg (.nm 1) (.call "_law_open" (.cons (.var 0) .nil))) (.cons (.for_ (.nm 2) (.rng (.cst (.int 4))) (.cons (.asg (.tp (.cons (.nm 3) (.cons (.nm 4) .nil))) (.call "_law_two_books" (.cons (.var 1) (.cons (.idx (.lst true (.cons (.cst (.int 5)) (.cons (.cst (.int 6)) (.cons (.cst (.int 4)) (.cons (.cst (.int 3)) .nil))))) (.var 2)) (.cons (.idx (.lst true (.cons (.cst (.int 9)) (.cons (.cst (.int 11)) (.cons (.cst (.int 6)) (.cons (.cst (.int 5)) .nil))))) (.var 2)) .nil))))) (.cons (.asg (.nm 5) (.call "_law_words" (.cons (.bin .Mult true (.cst (.str [42])) (.idx (.var 3) (.cst (.int 0)))) .nil))) (.cons (.for_ (.nm 6) (.rng (.cst (.int 6))) (.cons (.asg (.nm 7) (.idx (.var 5) (.call "_law_take" (.cons (.var 1) (.cons (.bcl .len (.cons (.var 5) .nil)) .nil))))) (.cons (.asg (.nm 8) (.call "parts" (.cons (.var 3) (.cons (.var 4) (.cons (.var 7) .nil))))) (.cons (.ite (.boo false (.not (.val (.isi (.var 8) "bool"))) (.cons (.val (.cmp .NotEq (.var 8) (.cmp .NotEq (.call "_law_deed" (.cons (.var 3) (.cons (.var 7) .nil))) (.call "_law_deed" (.cons (.var 4) (.cons (.var 7) .nil)))))) .nil)) (.cons (.ret (.cst (.bl false))) .nil) .nil) .nil)))) (.cons (.ite (.not (.val (.call "_law_refused" (.cons (.var 1) (.cons (.var 3) (.cons (.var 4) .nil)))))) (.cons (.ret (.cst (.bl false))) .nil) .nil) .nil))))) (.cons (.ret (.cst (.bl true))) .nil)))
end RF
local macro_rules | `(tactic| simp_arith [$l,*] $[$c:location]?) => `(tactic| simp -implicitDefEqProofs only [↓RF.XF, ↓RF.Ih, RF.Ii, RF.env0, RF.ends, String.reduceBEq, $l,*] $[$c:location]?)
local macro_rules | `(tactic| simp_arith! [$l,*] $[$c:location]?) => `(tactic| simp -implicitDefEqProofs only [↓RF.Ih, RF.Ii, RF.env0, RF.ends, String.reduceBEq, $l,*] $[$c:location]?)
local macro_rules | `(tactic| simp_all_arith [$l,*]) => `(tactic| simp -implicitDefEqProofs only [RF.env0, RF.ends, List.map_cons, List.map_nil, List.cons_append, List.nil_append, List.replicate_succ, List.replicate_zero, $l,*])
namespace RF
open PySem L2
theorem fP{i j:Int}(h:-(2 ^ 64) < j∧j < 2 ^ 64):CMul i j:=.inr h
theorem vN{i j:Int}(h:-(2 ^ 64) < i∧i < 2 ^ 64):CMul i j:=.inl h
theorem Ij{j:Int}(h:0≤j∧j≤1000):mX 10 j:=⟨h.1,by omega,by decide⟩
def qO:RF.Spec:=bf (fun ds _=>∃c k:Int,ds=[.int c,.int k]∧0≤k) (fun _ G d G'=>G'=G∧∃r:Int,d=.int r∧0≤r)
theorem XH(Φ:aa)(ds:List D)(G:DH)(h:∃c k:Int,ds=[.int c,.int k]∧0≤k):au Φ u9 noE (env0 ds 3) G (ends fun d G'=>G'=G∧∃r:Int,d=.int r∧0≤r):=by
 obtain ⟨c,k,rfl,hk⟩:=h
 simp_arith[u9]
 refine ⟨Ij (by decide),?_⟩
 cases hc:decide (10 ^ Int.toNat 18≤c) with
 |true=>
  refine ⟨c,rfl,?_⟩
  have:=of_decide_eq_true hc
  have h2:(0:Int)≤(10:Int) ^ (18:Int).toNat:=by decide
  exact Int.le_trans h2 this
 |false=>
  generalize hone:(c % 1000000007 * 69069+k * 40503+977) % 2147483629=one
  have o1:0≤one:=by rw[←hone];exact Int.emod_nonneg _ (by decide)
  have o2:one < 2147483629:=by rw[←hone];exact Int.emod_lt_of_pos _ (by decide)
  generalize htwo:(one * one+k * 7919+c % 65537) % 2147483587=two
  have t1:0≤two:=by rw[←htwo];exact Int.emod_nonneg _ (by decide)
  have t2:two < 2147483587:=by rw[←htwo];exact Int.emod_lt_of_pos _ (by decide)
  generalize hthree:(two * two+one * 31+5) % 2147483563=three
  have h1:0≤three:=by rw[←hthree];exact Int.emod_nonneg _ (by decide)
  clear hone htwo hthree
  refine ⟨by decide,fP (by decide),fP (by decide),by decide,vN (by omega),fP (by decide),by decide,by decide,vN (by omega),fP (by decide),by decide,fP (by decide),fP (by decide),_,rfl,?_⟩
  omega
def Pen(G:DH)(p:Addr):Prop:=∃(ns:List Int)(k st:Int),G p=some (.lst [.lst (ns.map D.int),.int k,.int st])∧0≤k∧0≤st
theorem Pen.sa{G G':DH}{p:Addr}(h:Pen G p)(s:Sa G G'):Pen G' p:=by
 obtain ⟨ns,k,st,e,h1⟩:=h
 exact ⟨ns,k,st,s _ _ e,h1⟩
theorem Pen.ne{G:DH}{p q:Addr}(h:Pen G p)(e:G q=none):p≠q:=by
 obtain ⟨ns,k,st,e1,h1⟩:=h
 exact sS e1 e
theorem Pen.sb{G G':DH}{p q:Addr}(h:Pen G p)(s:Sb q G G')(n:p≠q):Pen G' p:=by
 obtain ⟨ns,k,st,e,h1⟩:=h
 exact ⟨ns,k,st,s _ _ e n,h1⟩
def qP:RF.Spec:=bf (fun ds G=>∃p,ds=[.ref p]∧Pen G p) (fun ds G d G'=>∃p,ds=[.ref p]∧d=.ref p∧Pen G' p∧Sb p G G')
theorem XJ(Φ:aa)(ds:List D)(G:DH)(h:∃p,ds=[.ref p]∧Pen G p):au Φ vp noE (env0 ds 0) G (ends fun d G'=>∃p,ds=[.ref p]∧d=.ref p∧Pen G' p∧Sb p G G'):=by
 obtain ⟨p,rfl,ns,k,st,e,h1,h2⟩:=h
 simp_arith[vp,cB e]
 exact ⟨p,rfl,rfl,⟨ns,k,0,bA,h1,by decide⟩,Sb.upd⟩
def b8:RF.Spec:=bf (fun ds G=>∃p,∃m:Int,ds=[.ref p,.int m]∧Pen G p∧0 < m∧m < 1152921504606846976) (fun ds G d G'=>∃p,∃m r:Int,ds=[.ref p,.int m]∧d=.int r∧0≤r∧r < m∧Pen G' p∧Sb p G G')
theorem XM (Φ:aa) (hΦ:Φ "_law_spread"=qO) (ds:List D) (G:DH) (h:∃p,∃m:Int,ds=[.ref p,.int m]∧Pen G p∧0 < m∧m < 1152921504606846976):
  au Φ vd noE (env0 ds 3) G (ends fun d G'=>∃p,∃m r:Int,ds=[.ref p,.int m]∧d=.int r∧0≤r∧r < m∧Pen G' p∧Sb p G G'):=by
 obtain ⟨p,m,rfl,⟨ns,k,st,e,h1,h2⟩,h3,h4⟩:=h
 simp_all_arith[vd]
 refine seq fun M hM=>?_
 have fin:∀(ρ2 ρ3 ρ4:Option D)(G1:DH)(k1 s1:Int),0≤k1→0≤s1→G1 p=some (.lst [.lst (ns.map D.int),.int k1,.int s1])→Sb p G G1→M [some (.ref p),some (.int m),ρ2,ρ3,ρ4] G1:=by
  intro ρ2 ρ3 ρ4 G1 k1 s1 q1 q2 e1 sb
  refine hM _ _ ?_
  simp_arith[cN e1,cB e1]
  refine ⟨h3,⟨h3,h4⟩,p,m,_,rfl,rfl,Int.emod_nonneg _ (by omega),Int.emod_lt_of_pos _ h3,⟨ns,k1,_,bA,q1,?_⟩,sb.trans Sb.upd⟩
  exact Int.ediv_nonneg q2 (by omega)
 simp_arith[cN e,cB e,hΦ]
 have draw:∀c:Int,qO.t [.int c,.int k] (aQ G p (.lst [.lst (ns.map D.int),.int (k+1),.int st])) (fun x G1=>trk G1 p fun ds=>aZ (ixN ds.length 2) fun j=>M [some (.ref p),some (.int m),some (.int k),some (.int c),none] (aQ G1 p (.lst (ds.set j x)))) noE:=by
  intro c
  refine bK ⟨c,k,rfl,h1⟩ fun d G' hx=>?_
  obtain ⟨e1,r,e2,hr⟩:=hx
  subst e1 e2
  simp_arith[cB bA]
  refine fin _ _ _ _ (k+1) r (by omega) hr bA (Sb.trans Sb.upd Sb.upd)
 cases hc:decide (st < m) with
 |false=>exact fin _ _ _ _ k st h1 h2 e (Sb.refl _ _)
 |true=>
  cases hk:decide (k < ((ns.map D.int).length:Int)) with
  |true=>
   have hk:=of_decide_eq_true hk
   rw[List.length_map]at hk
   refine bD (a:=.int ns[k.toNat]) ?_ ?_
   ·obtain ⟨n,rfl⟩:=Int.eq_ofNat_of_zero_le h1
    exact bV (by simp at hk ⊢)
   ·exact draw _
  |false=>
   cases hz:decide (0 < ((ns.map D.int).length:Int)) with
   |false=>exact draw 0
   |true=>
    have hz:=of_decide_eq_true hz
    have j1:0≤(k * 5+3) % ((ns.map D.int).length:Int):=Int.emod_nonneg _ (by omega)
    have j2:(k * 5+3) % ((ns.map D.int).length:Int) < ((ns.map D.int).length:Int):=Int.emod_lt_of_pos _ hz
    obtain ⟨j,hj⟩:=Int.eq_ofNat_of_zero_le j1
    rw[hj]at j2
    have j3:j < ns.length:=by rw[List.length_map]at j2;omega
    refine ⟨fP (by decide),hz,bD (a:=.int ns[j]) ?_ ⟨Ij (by decide),?_⟩⟩
    ·rw[hj];exact bV (by simp[j3])
    ·simp_arith[cB e]
     refine ⟨?_,draw _⟩
     have:(0:Int) < 10 ^ Int.toNat 17:=by decide
     omega
def jW:RF.Spec:=bf (fun ds G=>∃p,∃n:Nat,∃cs:List Nat,ds=[.ref p,.int n,.str cs]∧Pen G p∧n≤1000∧cs≠[]∧cs.length≤1000)
 (fun ds G d G'=>∃p,∃n:Nat,∃cs l:List Nat,ds=[.ref p,.int n,.str cs]∧d=.str l∧l.length=n∧(∀c∈l,c∈cs)∧Pen G' p∧Sb p G G')
theorem XN(l:List Nat):((l.map fun c=>[c]).map (·.length)).sum=l.length:=by
 induction l with
 |nil=>rfl
 |cons a l ih=>simp at ih ⊢;omega
theorem XQ(l:List Nat):(l.map fun c=>[c]).flatten=l:=by
 induction l with
 |nil=>rfl
 |cons a l ih=>simp at ih ⊢;exact ih
theorem XS (Φ:aa) (hΦ:Φ "_law_take"=b8) (ds:List D) (G:DH) (h:∃p,∃n:Nat,∃cs:List Nat,ds=[.ref p,.int n,.str cs]∧Pen G p∧n≤1000∧cs≠[]∧cs.length≤1000):
  au Φ vq noE (env0 ds 0) G (ends fun d G'=>∃p,∃n:Nat,∃cs l:List Nat,ds=[.ref p,.int n,.str cs]∧d=.str l∧l.length=n∧(∀c∈l,c∈cs)∧Pen G' p∧Sb p G G'):=by
 obtain ⟨p,n,cs,rfl,hp,hn,hc,hl⟩:=h
 have hc1:0 < cs.length:=List.length_pos_iff.mpr hc
 simp_arith[vq,hΦ]
 refine ⟨by omega,CompG.inv (P:=fun i acc ρ G'=>(∃o,ρ=[o,some (.str cs),some (.ref p)])∧Pen G' p∧Sb p G G'∧∃l:List Nat,acc=l.map (fun c=>D.str [c])∧l.length=i∧∀c∈l,c∈cs) (h0:=⟨⟨_,rfl⟩,hp,Sb.refl _ _,[],rfl,rfl,by simp⟩) (hh:=fun _ _ _ _ _=>trivial) (hl:=by simp[bC];have hsz:sz=1000000:=rfl;omega) (hs:=?_) (he:=?_)⟩
 ·rintro i d acc ρ G' hd ⟨⟨o,rfl⟩,hp',sb,l,rfl,hl',hm⟩ kk hk
  simp_arith[hΦ]
  refine bK ⟨p,_,rfl,hp',by omega,by omega⟩ fun d' G2 hx=>?_
  obtain ⟨p2,m2,r,e1,e2,r0,r1,pp2,sb2⟩:=hx
  cases e1
  subst e2
  obtain ⟨j,rfl⟩:=Int.eq_ofNat_of_zero_le r0
  have hj:j < cs.length:=by omega
  simp_arith[ends]
  refine bD (a:=cs[j]) (bV (by simp[hj])) (hk _ _ _ ⟨⟨_,rfl⟩,pp2,sb.trans sb2,l++[cs[j]],by simp,by simp[hl'],?_⟩)
  intro c hc
  rcases List.mem_append.mp hc with h |h
  ·exact hm c h
  ·rw[List.mem_singleton.mp h];exact List.getElem_mem _
 ·rintro acc ρ G' ⟨_,hp',sb,l,rfl,hl',hm⟩
  simp_arith[strs_map]
  have hl2:l.length=n:=by rw[hl'];simp[bC]
  refine ⟨?_,p,n,cs,l,rfl,?_,hl2,hm,hp',sb⟩
  ·rw[XN];simp;have hsz:sz=1000000:=rfl;omega
  ·rw[BK,XQ]
def isF(c:Nat):Prop:=c=48∨c=49∨c=42
def vO:RF.Spec:=bf (fun ds G=>∃p,∃n:Nat,ds=[.ref p,.int n]∧Pen G p∧n≤1000) (fun ds G d G'=>∃p,∃n:Nat,∃l:List Nat,ds=[.ref p,.int n]∧d=.str l∧l.length=n∧(∀c∈l,isF c)∧Pen G' p∧Sb p G G')
theorem XX (Φ:aa) (h1:Φ "_law_take"=b8) (h2:Φ "_law_signs"=jW) (ds:List D) (G:DH) (h:∃p,∃n:Nat,ds=[.ref p,.int n]∧Pen G p∧n≤1000):
  au Φ vz noE (env0 ds 0) G (ends fun d G'=>∃p,∃n:Nat,∃l:List Nat,ds=[.ref p,.int n]∧d=.str l∧l.length=n∧(∀c∈l,isF c)∧Pen G' p∧Sb p G G'):=by
 obtain ⟨p,n,rfl,hp,hn⟩:=h
 simp_arith[vz,h1,h2]
 refine ⟨by decide,bK ⟨p,_,rfl,hp,by decide,by decide⟩ fun d' G2 ⟨p2,m2,r,e1,e2,r0,r1,pp2,sb2⟩=>?_⟩
 cases e1
 subst e2
 obtain ⟨j,rfl⟩:=Int.eq_ofNat_of_zero_le r0
 simp_arith[ends]
 have:∃cs:List Nat,atI [D.str [48,49,42],D.str [48,49,42,42],D.str [48,49,42,42,42,42],D.str [48,42],D.str [48,49]] ((j:Nat):Int)=some (.str cs)∧cs≠[]∧cs.length≤1000∧∀c∈cs,isF c:=by
  have hj:j=0∨j=1∨j=2∨j=3∨j=4:=by omega
  rcases hj with rfl |rfl |rfl |rfl |rfl <;> exact ⟨_,rfl,by decide,by decide,by simp[isF]⟩
 obtain ⟨cs,e,c1,c2,c3⟩:=this
 refine bD e (bK ⟨p,n,cs,rfl,pp2,hn,c1,c2⟩ fun d G3 ⟨p3,n3,cs3,l,e1,e2,q1,q2,q3,q4⟩=>?_)
 cases e1
 exact ⟨p,n,l,rfl,e2,q1,fun c hc=>c3 c (q2 c hc),q3,sb2.trans q4⟩
def vP:RF.Spec:=bf (fun ds _=>∃ns:List Int,ds=[.scr ns]∧ns.length≤63) (fun _ G d G'=>∃p,d=.ref p∧G p=none∧Pen G' p∧Sa G G')
theorem X3(Φ:aa)(ds:List D)(G:DH)(h:∃ns:List Int,ds=[.scr ns]∧ns.length≤63):au Φ u6 noE (env0 ds 3) G (ends fun d G'=>∃p,d=.ref p∧G p=none∧Pen G' p∧Sa G G'):=by
 obtain ⟨ns,rfl,hl⟩:=h
 simp_all_arith[u6]
 refine seq fun M hM=>?_
 simp_arith[ends]
 intro c hc
 refine hM _ _ ?_
 refine seq fun M hM=>?_
 simp_arith[ends]
 refine ForG.inv (fun i ρ G'=>∃(o2 o3:Option D)(xs:List Int),ρ=[some (.scr ns),some (.ref c),o2,o3]∧G'=aQ G c (.lst (xs.map D.int))∧(12≤xs.length∨cut ns (some 12) (some 63)=[])) ⟨_,_,cut ns none (some 12),rfl,rfl,?_⟩ (fun _ _ _ _=>trivial) ?_ ?_
 ·by_cases h12:12≤ns.length
  ·left
   simp[cut,HT.sIx]
   omega
  ·right
   simp[cut,HT.sIx]
   omega
 ·rintro i d ρ G' hd ⟨o2,o3,xs,rfl,rfl,hx⟩ kk hk
  rw[jM]at hd
  obtain ⟨d',hd',e3⟩:=Option.map_eq_some_iff.mp hd
  subst e3
  rw[List.getElem?_map]at hd'
  obtain ⟨x,hx',e4⟩:=Option.map_eq_some_iff.mp hd'
  subst e4
  have h12:12≤xs.length:=by
   rcases hx with h |h
   ·exact h
   ·rw[h]at hx';simp at hx'
  obtain ⟨j,hj⟩:=Int.eq_ofNat_of_zero_le (Int.emod_nonneg ((0+i:Nat):Int) (by decide:(12:Int)≠0))
  have hj12:j < 12:=by
   have:=Int.emod_lt_of_pos ((0+i:Nat):Int) (by decide:(0:Int) < 12)
   omega
  have hjx:j < xs.length:=by omega
  simp_arith[hj,cN bA,cB bA]
  refine ⟨by decide,bD (a:=.int xs[j]) (bV (by simp[hjx])) ?_⟩
  simp_arith[hj,cN bA,cB bA,List.length_map,Xq hjx]
  refine ⟨by decide,hk _ _ ⟨_,_,xs.set j (xs[j]+x),rfl,?_,by simp[h12]⟩⟩
  rw[T3,List.map_set]
 ·rintro ρ G' ⟨o2,o3,xs,rfl,rfl,hx⟩
  refine hM _ _ ?_
  simp_arith[bA]
  refine ⟨by have hsz:sz=1000000:=rfl;omega,fun p hp=>⟨p,rfl,?_,⟨xs,0,0,bA,by decide,by decide⟩,?_⟩⟩
  ·rw[yQ hc]at hp;exact hp
  ·rw[yQ hc]at hp ⊢;exact Sa.new hp
def jX:RF.Spec:=bf (fun ds _=>∃ns:List Int,ds=[.scr ns]∧ns.length≤63) (fun _ _ d _=>d=.bl true)
end RF
namespace RF
open PySem L2
def whole:D→Bool
 |.int _=>true
 |_=>false
def jc:List D→Option D
 |[x]=>if nr x then some (.bl (whole x)) else none
 |_=>none
theorem X4(Φ:aa)(ds:List D)(G:DH)(d:D)(h:jc ds=some d):au Φ jR noE (env0 ds 0) G (ends fun d' G'=>G'=G∧d'=d):=by
 unfold jc at h
 split at h
 ·rename_i x
  split at h
  ·rename_i hx
   cases h
   cases x <;> first | (simp[nr]at hx;done) | (simp_arith[jR,whole];try simp)
  ·cases h
 ·cases h
def qQ:D→Bool
 |.int i=>decide (1≤i)&&decide (i≤6)
 |_=>false
def jY:List D→Option D
 |[x]=>if nr x then some (.bl (qQ x)) else none
 |_=>none
theorem X5 (Φ:aa) (h1:Φ "is_whole"=aO jc) (ds:List D) (G:DH) (d:D) (h:jY ds=some d):au Φ jT noE (env0 ds 0) G (ends fun d' G'=>G'=G∧d'=d):=by
 unfold jY at h
 split at h
 ·rename_i x
  split at h
  ·rename_i hx
   cases h
   have hf:jc [x]=some (.bl (whole x)):=if_pos hx
   simp_arith[jT,h1]
   refine cM hf ?_
   cases x <;> first | (simp[nr]at hx;done) | (simp_arith[whole,qQ];first | (simp;done) |skip)
   rename_i i
   cases hi:decide (1≤i) with
   |true=>simp
   |false=>simp
  ·cases h
 ·cases h
def isText(s:List Nat)(w:Int):D→Bool
 |.str l=>decide ((l.length:Int)=w)&&l.all (fun c=>s.contains c)
 |_=>false
def szd:D→Bool
 |.str l=>decide (l.length≤100000)
 |_=>true
def fText:List D→Option D
 |[.str s,.int w,x]=>if nr x&&szd x then some (.bl (isText s w x)) else none
 |_=>none
theorem all_map{l:List Nat}{f:Nat→Bool}:((l.map f).all id)=l.all f:=by
 induction l with
 |nil=>rfl
 |cons a l ih=>simp[ih]
theorem X6(Φ:aa)(ds:List D)(G:DH)(d:D)(h:fText ds=some d):au Φ iZ noE (env0 ds 0) G (ends fun d' G'=>G'=G∧d'=d):=by
 unfold fText at h
 split at h
 ·rename_i s w x
  split at h
  ·rename_i hx
   cases h
   rw[Bool.and_eq_true]at hx
   cases x with
   |str l=>
    have hl:l.length≤100000:=by simpa [szd] using hx.2
    simp_arith[iZ,isText]
    by_cases hw:(l.length:Int)=w
    ·have hb:(((l.length:Int)==w):Bool)=true:=by simp[hw]
     simp_arith[hb]
     refine CompG.map (f:=fun d=>match d with |.str [c]=>.bl (s.contains c) |_=>.non) (I:=fun ρ=>∃o,ρ=[o,some (.str s)]) ⟨_,rfl⟩ trivial (by simp;have hsz:sz=1000000:=rfl;omega) ?_ ?_
     ·rintro d ρ hd ⟨o,rfl⟩ kk hk
      obtain ⟨c,_,rfl⟩:=List.mem_map.mp hd
      simp_arith[ends]
      exact hk _ ⟨_,rfl⟩
     ·rw[List.map_map]
      simp_arith[Function.comp_def,jO,all_map]
      simp only[decide_eq_true hw,Bool.true_and,and_self]
    ·have hb:(((l.length:Int)==w):Bool)=false:=by simp[hw]
     simp_arith[hb]
     simp[hw]
   |ref p=>simp[nr]at hx
   |scr p=>simp[nr]at hx
   |exn p=>simp[nr]at hx
   |_=>simp_arith[iZ,isText];try simp
  ·cases h
 ·cases h
def jd:List D→Option D
 |[.int w,x]=>if nr x&&szd x then some (.bl (isText [48,49] w x)) else none
 |_=>none
def jZ:List D→Option D
 |[.int w,x]=>if nr x&&szd x then some (.bl (isText [48,49,42] w x)) else none
 |_=>none
theorem X7 (Φ:aa) (h1:Φ "is_text_of"=aO fText) (ds:List D) (G:DH) (d:D) (h:jd ds=some d):au Φ jV noE (env0 ds 0) G (ends fun d' G'=>G'=G∧d'=d):=by
 unfold jd at h
 split at h
 ·rename_i w x
  split at h
  ·rename_i hx
   cases h
   simp_arith[jV,h1]
   exact cM (d:=.bl (isText [48,49] w x)) (if_pos hx) ⟨rfl,rfl⟩
  ·cases h
 ·cases h
theorem X8 (Φ:aa) (h1:Φ "is_text_of"=aO fText) (ds:List D) (G:DH) (d:D) (h:jZ ds=some d):au Φ jQ noE (env0 ds 0) G (ends fun d' G'=>G'=G∧d'=d):=by
 unfold jZ at h
 split at h
 ·rename_i w x
  split at h
  ·rename_i hx
   cases h
   simp_arith[jQ,h1]
   exact cM (d:=.bl (isText [48,49,42] w x)) (if_pos hx) ⟨rfl,rfl⟩
  ·cases h
 ·cases h
end RF
namespace RF
open PySem L2
theorem qR:∀{l:List D}{d:D},nrs l=true→d∈l→nr d=true
 |a::as,d,h,m=>by
  rw[nrs,Bool.and_eq_true]at h
  rcases List.mem_cons.mp m with e |m
  ·rw[e];exact h.1
  ·exact qR h.2 m
theorem Yb{x:D}{G:DH}(h1:nr x=true):view G x=x:=by cases x <;> first |rfl | (simp[nr]at h1)
end RF
namespace RF
open PySem L2
def okF(w:Nat)(l:List Nat):Prop:=l.length=w∧∀c∈l,isF c
theorem okF.app{w v:Nat}{l m:List Nat}(h:okF w l)(h':okF v m):okF (w+v) (l++m):=⟨by rw[List.length_append,h.1,h'.1],fun c hc=>(List.mem_append.mp hc).elim (h.2 c) (h'.2 c)⟩
theorem okF.one{c:Nat}(h:isF c):okF 1 [c]:=⟨rfl,fun d hd=>by rw[List.mem_singleton.mp hd];exact h⟩
theorem aP{p:Addr}{m:Int}{G:DH}{k:D→DH→Prop}{E:EK}(hp:Pen G p)(h1:0 < m)(h2:m < 1152921504606846976)(hk:∀(r:Nat)(G':DH),(r:Int) < m→Pen G' p→Sb p G G'→k (.int r) G'):b8.t [.ref p,.int m] G k E:=by
 refine bK ⟨p,m,rfl,hp,h1,h2⟩ fun d G' hx=>?_
 obtain ⟨p2,m2,r,e1,e2,r0,r1,hp',sb⟩:=hx
 cases e1
 subst e2
 obtain ⟨n,rfl⟩:=Int.eq_ofNat_of_zero_le r0
 exact hk n G' r1 hp' sb
theorem Yc{n:Nat}(h:(n:Int) < 2):∃c,atI [48,49] (n:Int)=some c∧isF c:=by
 have:n=0∨n=1:=by omega
 rcases this with rfl |rfl
 ·exact ⟨48,rfl,.inl rfl⟩
 ·exact ⟨49,rfl,.inr (.inl rfl)⟩
theorem Yd{n:Nat}(h:(n:Int) < 3):∃c,atI [48,49,42] (n:Int)=some c∧isF c:=by
 have:n=0∨n=1∨n=2:=by omega
 rcases this with rfl |rfl |rfl
 ·exact ⟨48,rfl,.inl rfl⟩
 ·exact ⟨49,rfl,.inr (.inl rfl)⟩
 ·exact ⟨42,rfl,.inr (.inr rfl)⟩
def vQ(ds:List D)(G:DH):Prop:=∃p l,ds=[.ref p,.str l]∧Pen G p∧(∀c∈l,isF c)∧l.length≤1000
def vR(ds:List D)(G:DH)(d:D)(G':DH):Prop:=∃p l m,ds=[.ref p,.str l]∧d=.str m∧okF l.length m∧Pen G' p∧Sb p G G'
def fQ:RF.Spec:=bf vQ vR
theorem qT{p:Addr}{l:List Nat}{G:DH}{k:D→DH→Prop}{E:EK}(hp:Pen G p)(hl:∀c∈l,isF c)(h2:l.length≤1000)(hk:∀(m:List Nat)(G':DH),okF l.length m→Pen G' p→Sb p G G'→k (.str m) G'):fQ.t [.ref p,.str l] G k E:=by
 refine bK ⟨p,l,rfl,hp,hl,h2⟩ fun d G' hx=>?_
 obtain ⟨p2,l2,m,e1,e2,h,hp',sb⟩:=hx
 cases e1
 subst e2
 exact hk m G' h hp' sb
theorem Ye (Φ:aa) (h1:Φ "_law_take"=b8) (ds:List D) (G:DH) (h:vQ ds G):au Φ vB noE (env0 ds 2) G (ends (vR ds G)):=by
 obtain ⟨p,l,rfl,hp,hl,hl2⟩:=h
 simp_all_arith[vB]
 refine seq fun M hM=>?_
 simp_arith[ends]
 refine hM _ _ (seq fun M hM=>?_)
 simp_arith![ends]
 refine ForG.inv (P:=fun i ρ G'=>(∃o m,ρ=[some (.ref p),some (.str l),some (.str m),o]∧okF i m)∧Pen G' p∧Sb p G G') ⟨⟨_,_,rfl,rfl,by simp⟩,hp,Sb.refl _ _⟩ (fun _ _ _ _=>trivial) ?_ ?_
 ·rintro i d ρ G2 hd ⟨⟨o,m,rfl,hm⟩,hp2,sb2⟩ kk hk
  rw[List.getElem?_map]at hd
  obtain ⟨c,hc,rfl⟩:=Option.map_eq_some_iff.mp hd
  have hi:i < l.length:=(List.getElem?_eq_some_iff.mp hc).1
  have fc:=hl c (List.mem_of_getElem? hc)
  have l1:=hm.1
  simp_arith![ends]
  refine seq fun M hM=>?_
  have fin:∀(c:Nat)(G3:DH),isF c→Pen G3 p→Sb p G2 G3→M [some (.ref p),some (.str l),some (.str m),some (.str [c])] G3:=by
   intro c G3 fc hp3 sb3
   refine hM _ _ (last ?_)
   simp_arith[ends]
   exact ⟨by have hsz:sz=1000000:=rfl;omega,hk _ _ ⟨⟨_,_,rfl,hm.app (okF.one fc)⟩,hp3,sb2.trans sb3⟩⟩
  simp_arith[h1]
  cases ht:([c]==[42]) with
  |false=>exact fin c G2 fc hp2 (Sb.refl _ _)
  |true=>
   refine aP hp2 (by decide) (by decide) fun r G3 hr hp3 sb3=>?_
   simp_arith[ends]
   cases hr0:((r:Int)==0) with
   |false=>exact fin c G3 fc hp3 sb3
   |true=>
    refine aP hp3 (by decide) (by decide) fun r' G4 hr' hp4 sb4=>?_
    obtain ⟨c',e,fc'⟩:=Yc hr'
    simp_arith[e]
    exact fin c' G4 fc' hp4 (sb3.trans sb4)
 ·rintro ρ G2 ⟨⟨o,m,rfl,hm⟩,hp2,sb2⟩
  refine hM _ _ ?_
  simp_arith[ends]
  exact ⟨p,l,m,rfl,rfl,by simpa using hm,hp2,sb2⟩
theorem Yg (Φ:aa) (h1:Φ "_law_take"=b8) (ds:List D) (G:DH) (h:vQ ds G):au Φ vA noE (env0 ds 2) G (ends (vR ds G)):=by
 obtain ⟨p,l,rfl,hp,hl,hl2⟩:=h
 simp_all_arith[vA]
 refine seq fun M hM=>?_
 simp_arith[ends]
 refine hM _ _ (seq fun M hM=>?_)
 simp_arith![ends]
 refine ForG.inv (P:=fun i ρ G'=>(∃o m,ρ=[some (.ref p),some (.str l),some (.str m),o]∧okF i m)∧Pen G' p∧Sb p G G') ⟨⟨_,_,rfl,rfl,by simp⟩,hp,Sb.refl _ _⟩ (fun _ _ _ _=>trivial) ?_ ?_
 ·rintro i d ρ G2 hd ⟨⟨o,m,rfl,hm⟩,hp2,sb2⟩ kk hk
  rw[List.getElem?_map]at hd
  obtain ⟨c,hc,rfl⟩:=Option.map_eq_some_iff.mp hd
  have hi:i < l.length:=(List.getElem?_eq_some_iff.mp hc).1
  have fc:=hl c (List.mem_of_getElem? hc)
  have l1:=hm.1
  simp_arith![ends]
  refine seq fun M hM=>?_
  have fin:∀(c:Nat)(G3:DH),isF c→Pen G3 p→Sb p G2 G3→M [some (.ref p),some (.str l),some (.str m),some (.str [c])] G3:=by
   intro c G3 fc hp3 sb3
   refine hM _ _ (last ?_)
   simp_arith[ends]
   exact ⟨by have hsz:sz=1000000:=rfl;omega,hk _ _ ⟨⟨_,_,rfl,hm.app (okF.one fc)⟩,hp3,sb2.trans sb3⟩⟩
  simp_arith[h1]
  refine aP hp2 (by decide) (by decide) fun r G3 hr hp3 sb3=>?_
  simp_arith[ends]
  cases hr0:((r:Int)==0) with
  |false=>exact fin c G3 fc hp3 sb3
  |true=>exact fin 42 G3 (.inr (.inr rfl)) hp3 sb3
 ·rintro ρ G2 ⟨⟨o,m,rfl,hm⟩,hp2,sb2⟩
  refine hM _ _ ?_
  simp_arith[ends]
  exact ⟨p,l,m,rfl,rfl,by simpa using hm,hp2,sb2⟩
theorem Ik{G G':DH}{p:Addr}{x:D}{fs:List (List Nat)}(hv:view G x=.lst (fs.map D.str))(hp:Pen G p)(sb:Sb p G G'):view G' x=.lst (fs.map D.str):=by
 cases x with
 |ref q=>
  unfold view at hv
  dsimp only at hv
  cases g:G q with
  |none=>rw[g]at hv;cases hv
  |some o=>
   cases o with
   |lst ds=>
    rw[g]at hv
    have e:ds=fs.map D.str:=by simpa using hv
    have hn:q≠p:=by
     rintro rfl
     obtain ⟨ns,k,st,e1,_⟩:=hp
     rw[g,e]at e1
     cases fs with
     |nil=>simp at e1
     |cons a r=>simp at e1
    rw[cN (sb q _ g hn),e]
 |lst l=>exact hv
 |_=>cases hv
def Il(ds:List D)(G:DH):Prop:=∃p,∃w:Nat,∃x,∃fs:List (List Nat),ds=[.ref p,.int w,x]∧Pen G p∧0 < w∧w≤1000∧view G x=.lst (fs.map D.str)∧fs.length≤1000∧∀f∈fs,okF w f
def vU(ds:List D)(G:DH)(d:D)(G':DH):Prop:=∃p,∃w:Nat,∃x m,ds=[.ref p,.int w,x]∧d=.str m∧okF w m∧Pen G' p∧Sb p G G'
def j0:RF.Spec:=bf Il vU
theorem vV{p:Addr}{w:Nat}{x:D}{fs:List (List Nat)}{G:DH}{k:D→DH→Prop}{E:EK}(hp:Pen G p)(h1:0 < w)(h2:w≤1000)(hv:view G x=.lst (fs.map D.str))(h3:fs.length≤1000)(h4:∀f∈fs,okF w f)
  (hk:∀(m:List Nat)(G':DH),okF w m→Pen G' p→Sb p G G'→k (.str m) G'):j0.t [.ref p,.int w,x] G k E:=by
 refine bK ⟨p,w,x,fs,rfl,hp,h1,h2,hv,h3,h4⟩ fun d G' hx=>?_
 obtain ⟨p2,w2,x2,m,e1,e2,h,hp',sb⟩:=hx
 simp only[List.cons.injEq,D.ref.injEq,D.int.injEq,Int.ofNat_inj,and_true]at e1
 obtain ⟨rfl,rfl,rfl⟩:=e1
 subst e2
 exact hk m G' h hp' sb
theorem Yh(fs:List (List Nat)):nrs (fs.map D.str)=true:=by
 induction fs with
 |nil=>rfl
 |cons a l ih=>rw[List.map_cons,nrs,ih];rfl
theorem Yi(fs:List (List Nat)):aX (fs.map D.str)=0:=by
 induction fs with
 |nil=>rfl
 |cons a l ih=>rw[List.map_cons,aX,ih];rfl
theorem Yj{w n:Nat}{l:List Nat}{c:Nat}(h:okF w l)(hn:n < w)(fc:isF c):okF w (cut l none (some (n:Int))++[c]++cut l (some ((n:Int)+1)) none):=by
 have h1:=h.1
 rw[jP,Xu]
 refine ⟨?_,fun d hd=>?_⟩
 ·simp;omega
 ·rcases List.mem_append.mp hd with hd |hd
  ·rcases List.mem_append.mp hd with hd |hd
   ·exact h.2 d (List.mem_of_mem_take hd)
   ·rw[List.mem_singleton.mp hd];exact fc
  ·exact h.2 d (List.mem_of_mem_drop hd)
theorem Yk (Φ:aa) (h1:Φ "_law_take"=b8) (h2:Φ "_law_form"=vO) (h3:Φ "_law_within"=fQ) (h4:Φ "_law_wider"=fQ) (ds:List D) (G:DH) (h:Il ds G):au Φ vC noE (env0 ds 3) G (ends (vU ds G)):=by
 obtain ⟨p,w,x,fs,rfl,hp,w1,w2,hv,hf,hfs⟩:=h
 simp_all_arith[vC]
 refine seq fun M hM=>?_
 simp_arith[h1]
 refine aP hp (by decide) (by decide) fun kd G2 hkd hp2 sb2=>?_
 have hv2:=Ik hv hp sb2
 refine hM _ _ (seq fun M hM=>?_)
 have drawn:∀(ρ:ak) (G3:DH),Pen G3 p→Sb p G G3→au Φ (.cons (.ret (.call "_law_form" (.cons (.var 0) (.cons (.var 1) .nil)))) .nil) noE (some (.ref p)::some (.int w)::ρ) G3 { nx:=M,rt:=vU [.ref p,.int w,x] G,bk:=fun _ _=>False,ct:=fun _ _=>False }:=by
  intro ρ G3 hp3 sb3
  simp_arith[h2]
  refine bK ⟨p,w,rfl,hp3,w2⟩ fun d G4 hx=>?_
  obtain ⟨p4,n4,l,e1,e2,l1,l2,hp4,sb4⟩:=hx
  simp only[List.cons.injEq,D.ref.injEq,D.int.injEq,Int.ofNat_inj,and_true]at e1
  obtain ⟨rfl,rfl⟩:=e1
  exact ⟨p,w,x,l,rfl,e2,⟨l1,l2⟩,hp4,sb3.trans sb4⟩
 simp_arith![hv2,Cd,Yi,Yh]
 refine ⟨by decide,?_⟩
 cases he:(fs.map D.str).isEmpty with
 |true=>exact drawn _ _ hp2 sb2
 |false=>
  have hlen:0 < fs.length:=by
   cases fs with
   |nil=>simp at he
   |cons a r=>simp
  simp_arith![ends]
  cases hk2:decide ((kd:Int) < 2) with
  |true=>exact drawn _ _ hp2 sb2
  |false=>
   simp_arith[ends]
   refine hM _ _ (seq fun M hM=>?_)
   simp_arith[h1,hv2,List.length_map]
   refine aP hp2 (by omega) (by omega) fun r G3 hr hp3 sb3=>?_
   have hv3:=Ik hv2 hp2 sb3
   simp_arith[hv3]
   have hr':r < fs.length:=by omega
   refine bD (a:=.str fs[r]) (bV (by simp[hr'])) ?_
   have fok:=hfs fs[r] (List.getElem_mem _)
   generalize fs[r]=f at fok
   refine hM _ _ (seq fun M hM=>?_)
   have sb':=sb2.trans sb3
   simp_arith[ends]
   cases hk3:((kd:Int)==2) with
   |true=>exact ⟨p,w,x,f,rfl,rfl,fok,hp3,sb'⟩
   |false=>
    refine hM _ _ (seq fun M hM=>?_)
    simp_arith![ends]
    cases hk5:decide ((kd:Int) < 5) with
    |true=>
     simp_arith[h1]
     refine aP hp3 (by omega) (by omega) fun at' G4 hat hp4 sb4=>?_
     refine aP hp4 (by decide) (by decide) fun s G5 hs hp5 sb5=>?_
     obtain ⟨c,e,fc⟩:=Yd hs
     have c1:=Ca f none (some (at':Int))
     have c2:=Ca f (some ((at':Int)+1)) none
     have f1:=fok.1
     simp_arith[e,List.length_append]
     exact ⟨by have hsz:sz=1000000:=rfl;omega,by have hsz:sz=1000000:=rfl;omega,p,w,x,_,rfl,rfl,Yj fok (by omega) fc,hp5,sb'.trans (sb4.trans sb5)⟩
    |false=>
     simp_arith[ends]
     refine hM _ _ (seq fun M hM=>?_)
     have f1:=fok.1
     simp_arith[h3]
     cases hk6:((kd:Int)==5) with
     |true=>
      refine qT hp3 fok.2 (by omega) fun m G4 hm hp4 sb4=>?_
      rw[f1]at hm
      exact ⟨p,w,x,m,rfl,rfl,hm,hp4,sb'.trans sb4⟩
     |false=>
      refine hM _ _ ?_
      simp_arith[h4]
      refine qT hp3 fok.2 (by omega) fun m G4 hm hp4 sb4=>?_
      rw[f1]at hm
      exact ⟨p,w,x,m,rfl,rfl,hm,hp4,sb'.trans sb4⟩
end RF
namespace RF
open PySem L2
def okD(l:List Nat):Prop:=1≤l.length∧l.length≤8∧∀c∈l,97≤c∧c≤122
theorem Yl{p:Addr}{n:Nat}{cs:List Nat}{G:DH}{k:D→DH→Prop}{E:EK}(hp:Pen G p)(hn:n≤1000)(h1:cs≠[])(h2:cs.length≤1000)(hk:∀(l:List Nat)(G':DH),l.length=n→(∀c∈l,c∈cs)→Pen G' p→Sb p G G'→k (.str l) G'):jW.t [.ref p,.int n,.str cs] G k E:=by
 refine bK ⟨p,n,cs,rfl,hp,hn,h1,h2⟩ fun d G' hx=>?_
 obtain ⟨p2,n2,cs2,l,e1,e2,l1,l2,hp',sb⟩:=hx
 simp only[List.cons.injEq,D.ref.injEq,D.int.injEq,D.str.injEq,Int.ofNat_inj,and_true]at e1
 obtain ⟨rfl,rfl,rfl⟩:=e1
 subst e2
 exact hk l G' l1 l2 hp' sb
def Im(ds:List D)(G:DH):Prop:=∃p,∃m:Int,ds=[.ref p,.int m]∧Pen G p∧0 < m∧m≤100
def Io(ds:List D)(G:DH)(d:D)(G':DH):Prop:=∃p,∃m:Int,∃xs:List (List Nat),ds=[.ref p,.int m]∧d=.lst (xs.map D.str)∧0 < xs.length∧xs.length≤100∧(∀x∈xs,okD x)∧Pen G' p∧Sb p G G'
def j4:RF.Spec:=bf Im Io
def vW:List (List Nat):=[[97],[103,111],[115,116,97,121],[97,98,99,100,101,102,103,104],[110,111,110,101],[121,101,115],[105,110],[111,117,116],[107,101,101,112],[119,111,114,100],[122,122]]
theorem Ym:∀x∈vW,okD x:=by
 have h:∀x∈vW,1≤x.length∧x.length≤8∧∀c∈x,97≤c∧c≤122:=by decide
 exact h
theorem Ip{c:Nat}(h:c∈[97,98,99,100,101,102,103,104,105,106,107,108,109,110,111,112,113,114,115,116,117,118,119,120,121,122]):97≤c∧c≤122:=by
 have:∀c∈[97,98,99,100,101,102,103,104,105,106,107,108,109,110,111,112,113,114,115,116,117,118,119,120,121,122],97≤c∧c≤122:=by decide
 exact this c h
theorem Yn (Φ:aa) (h1:Φ "_law_take"=b8) (h2:Φ "_law_signs"=jW) (ds:List D) (G:DH) (h:Im ds G):au Φ vy noE (env0 ds 4) G (ends (Io ds G)):=by
 obtain ⟨p,m,rfl,hp,m1,m2⟩:=h
 simp_all_arith[vy]
 refine seq fun M hM=>?_
 simp_arith[ends]
 refine ⟨by decide,hM _ _ ?_⟩
 refine (fun tail=>tail vW rfl Ym) (?_:∀xs:List (List Nat),xs.length=11→(∀x∈xs,okD x)→au Φ _ noE [some (.ref p),some (.int m),some (.lst (xs.map D.str)),none,none,none] G _)
 intro xs x1 x2
 refine seq fun M hM=>?_
 simp_arith[h1]
 refine aP hp (by decide) (by decide) fun t G2 ht hp2 sb2=>?_
 refine hM _ _ (seq fun M hM=>?_)
 simp_arith[h1]
 refine aP hp2 (by omega) (by omega) fun r G3 hr hp3 sb3=>?_
 simp_arith[ends]
 refine ⟨by omega,?_⟩
 refine CompG.inv (P:=fun i acc ρ G'=>(∃o,ρ=[o,some (.lst (xs.map D.str)),some (.int t)])∧G'=G3∧∃ys:List (List Nat),acc=ys.map D.str∧ys.length=i∧∀y∈ys,okD y) ⟨⟨_,rfl⟩,rfl,[],rfl,rfl,by simp⟩ (fun _ _ _ _ _=>trivial) (by simp[bC];have hsz:sz=1000000:=rfl;omega) ?_ ?_
 ·rintro i d acc ρ G' hd ⟨⟨o,rfl⟩,rfl,ys,rfl,y1,y2⟩ kk hk
  unfold bC at hd
  rw[List.getElem?_map]at hd
  obtain ⟨j,hj,rfl⟩:=Option.map_eq_some_iff.mp hd
  simp_arith[ends]
  have q0:0≤((t:Int)+3 * (0+(j:Int))) % 11:=Int.emod_nonneg _ (by decide)
  have q1:((t:Int)+3 * (0+(j:Int))) % 11 < 11:=Int.emod_lt_of_pos _ (by decide)
  refine ⟨vN (by decide),by decide,dH q0 (by rw[List.length_map,x1];exact q1) fun a ha=>?_⟩
  obtain ⟨x,hx,rfl⟩:=List.mem_map.mp ha
  refine hk _ _ _ ⟨⟨_,rfl⟩,rfl,ys++[x],by simp,by simp[y1],fun y hy=>?_⟩
  rcases List.mem_append.mp hy with h |h
  ·exact y2 y h
  ·rw[List.mem_singleton.mp h];exact x2 x hx
 ·rintro acc ρ G' ⟨_,rfl,ys,rfl,y1,y2⟩
  have hy:ys.length=r+1:=by rw[y1];simp[bC];omega
  refine hM _ _ (seq fun M hM=>?_)
  simp_arith[h1]
  refine aP hp3 (by decide) (by decide) fun q G4 hq hp4 sb4=>?_
  have sb':=sb2.trans (sb3.trans sb4)
  simp_arith[ends]
  cases hq0:((q:Int)==0) with
  |false=>
   refine hM _ _ ?_
   simp_arith[ends]
   exact ⟨p,m,ys,rfl,rfl,by omega,by omega,y2,hp4,sb'⟩
  |true=>
   simp_arith[ends]
   refine CompG.inv (P:=fun i acc ρ G'=>(∃o,ρ=[o,some (.ref p),some (.str [97,98,99,100,101,102,103,104,105,106,107,108,109,110,111,112,113,114,115,116,117,118,119,120,121,122])])∧Pen G' p∧Sb p G G'∧∃zs:List (List Nat),acc=zs.map D.str∧zs.length=i∧∀z∈zs,okD z) ⟨⟨_,rfl⟩,hp4,sb',[],rfl,rfl,by simp⟩ (fun _ _ _ _ _=>trivial) (by simp;have hsz:sz=1000000:=rfl;omega) ?_ ?_
   ·rintro i d acc ρ G' hd ⟨⟨o,rfl⟩,hp5,sb5,zs,rfl,z1,z2⟩ kk hk
    simp_arith[h1,h2]
    refine aP hp5 (by decide) (by decide) fun n G6 hn hp6 sb6=>?_
    simp_arith[ends]
    rw[show (1:Int)+(n:Int)=((n+1:Nat):Int) by omega]
    refine Yl hp6 (by omega) (by simp) (by simp) fun l G7 l1 l2 hp7 sb7=>?_
    refine hk _ _ _ ⟨⟨_,rfl⟩,hp7,sb5.trans (sb6.trans sb7),zs++[l],by simp,by simp[z1],fun z hz=>?_⟩
    rcases List.mem_append.mp hz with h |h
    ·exact z2 z h
    ·rw[List.mem_singleton.mp h];exact ⟨by omega,by omega,fun c hc=>Ip (l2 c hc)⟩
   ·rintro acc ρ G' ⟨_,hp5,sb5,zs,rfl,z1,z2⟩
    rw[List.length_map]at z1
    refine hM _ _ ?_
    simp_arith[ends]
    exact ⟨p,m,zs,rfl,rfl,by omega,by omega,z2,hp5,sb5⟩
abbrev Row:=List Nat×List Nat
def aA(r:Row):D:=.tup [.str r.1,.str r.2]
def ao(w:Nat)(rs:List Row):D:=.tup [.int w,.tup (rs.map aA)]
structure okB(w:Nat)(rs:List Row):Prop where
 w1:1≤w
 w6:w≤6
 len:rs.length≤12
 form:∀r∈rs,okF w r.1
 deed:∀r∈rs,okD r.2
def Ir(ds:List D)(G:DH):Prop:=∃p,∃w m:Nat,ds=[.ref p,.int w,.int m]∧Pen G p∧1≤w∧w≤6∧m≤12
def Iu(ds:List D)(G:DH)(d:D)(G':DH):Prop:=∃p,∃w m v:Nat,∃rs:List Row,ds=[.ref p,.int w,.int m]∧d=ao v rs∧okB v rs∧v≤w∧rs.length≤m∧Pen G' p∧Sb p G G'
def qU:RF.Spec:=bf Ir Iu
theorem Iv{p:Addr}{w m:Nat}{G:DH}{k:D→DH→Prop}{E:EK}(hp:Pen G p)(h1:1≤w)(h2:w≤6)(h3:m≤12)(hk:∀(v:Nat)(rs:List Row)(G':DH),okB v rs→v≤w→rs.length≤m→Pen G' p→Sb p G G'→k (ao v rs) G'):qU.t [.ref p,.int w,.int m] G k E:=by
 refine bK ⟨p,w,m,rfl,hp,h1,h2,h3⟩ fun d G' hx=>?_
 obtain ⟨p2,w2,m2,v,rs,e1,e2,o,q1,q2,hp',sb⟩:=hx
 simp only[List.cons.injEq,D.ref.injEq,D.int.injEq,Int.ofNat_inj,and_true]at e1
 obtain ⟨rfl,rfl,rfl⟩:=e1
 subst e2
 exact hk v rs G' o q1 q2 hp' sb
theorem Iw{p:Addr}{m:Int}{G:DH}{k:D→DH→Prop}{E:EK}(hp:Pen G p)(h1:0 < m)(h2:m≤100)(hk:∀(xs:List (List Nat))(G':DH),0 < xs.length→xs.length≤100→(∀x∈xs,okD x)→Pen G' p→Sb p G G'→k (.lst (xs.map D.str)) G'):j4.t [.ref p,.int m] G k E:=by
 refine bK ⟨p,m,rfl,hp,h1,h2⟩ fun d G' hx=>?_
 obtain ⟨p2,m2,xs,e1,e2,q1,q2,q3,hp',sb⟩:=hx
 cases e1
 subst e2
 exact hk xs G' q1 q2 q3 hp' sb
theorem xQ{α:Type}{l:List α}{a:α}:atI (l++[a]) (-1)=some a:=by
 unfold atI ixN
 rw[if_neg (by decide),if_pos (by simp;omega),List.length_append,List.length_singleton,show (-1+((l.length+1:Nat):Int)).toNat=l.length by omega]
 simp
theorem Yo (Φ:aa) (h1:Φ "_law_take"=b8) (h2:Φ "_law_deeds_of"=j4) (h3:Φ "_law_form_like"=j0) (ds:List D) (G:DH) (h:Ir ds G):au Φ vG noE (env0 ds 5) G (ends (Iu ds G)):=by
 obtain ⟨p,w,m,rfl,hp,w1,w2,m1⟩:=h
 simp_all_arith[vG]
 refine seq fun M hM=>?_
 simp_arith[h1]
 refine aP hp (by omega) (by omega) fun n G2 hn hp2 sb2=>?_
 simp_arith[ends]
 rw[show (1:Int)+(n:Int)=((n+1:Nat):Int) by omega]
 refine hM _ _ (seq fun M hM=>?_)
 simp_arith[h2]
 refine Iw hp2 (by decide) (by decide) fun xs G3 x1 x2 x3 hp3 sb3=>?_
 refine hM _ _ (seq fun M hM=>?_)
 simp_arith[ends]
 refine fun q hq=>hM _ _ (seq fun M hM=>?_)
 simp_arith[ends]
 refine fun s hs=>hM _ _ (seq fun M hM=>?_)
 have hqs:q≠s:=by
  rintro rfl
  rw[bA]at hs;cases hs
 have hs3:G3 s=none:=by rw[cF (Ne.symm hqs)]at hs;exact hs
 have npq:p≠q:=hp3.ne hq
 have nps:p≠s:=hp3.ne hs3
 have sa4:Sa G3 (aQ (aQ G3 q (.lst [])) s (.lst [])):=(Sa.new hq).trans (Sa.new hs)
 have hp4:=hp3.sa sa4
 simp_arith![h1]
 refine aP hp4 (by omega) (by omega) fun r G5 hr hp5 sb5=>?_
 simp_arith![ends]
 refine ⟨by omega,?_⟩
 refine ForG.inv (P:=fun i ρ G'=>(∃o,ρ=[some (.ref p),some (.int w),some (.int m),some (.int ((n+1:Nat):Int)),some (.lst (xs.map D.str)),some (.ref q),some (.ref s),o])∧Pen G' p∧Sb p G G'∧
   ∃rs:List Row,G' q=some (.lst ((rs.map (·.1)).map D.str))∧G' s=some (.lst (rs.map aA))∧rs.length=i∧(∀r∈rs,okF (n+1) r.1)∧∀r∈rs,okD r.2) ⟨⟨_,rfl⟩,hp5,sb2.trans (sb3.trans (sa4.sb.trans sb5)),[],?_,?_,rfl,by simp,by simp⟩ (fun _ _ _ _=>trivial) ?_ ?_
 ·exact sb5 q _ (by rw[cF hqs];exact bA) (Ne.symm npq)
 ·exact sb5 s _ bA (Ne.symm nps)
 ·rintro i d ρ G' hd ⟨⟨o,rfl⟩,hp6,sb6,rs,g1,g2,r1,r2,r3⟩ kk hk
  have hi:i < r:=by
   have:=(List.getElem?_eq_some_iff.mp hd).1
   simpa [bC] using this
  simp_arith![ends]
  refine seq fun M hM=>?_
  simp_arith[h3,cB g1]
  refine vV (fs:=rs.map (·.1)) hp6 (by omega) (by omega) (cN g1) (by simp;omega) (fun f hf=>?_) fun f G7 hf hp7 sb7=>?_
  ·obtain ⟨r',hr',rfl⟩:=List.mem_map.mp hf
   exact r2 r' hr'
  have g1':=sb7 q _ g1 (Ne.symm npq)
  have g2':=sb7 s _ g2 (Ne.symm nps)
  simp_arith[cB g1']
  refine ⟨by simp;have hsz:sz=1000000:=rfl;omega,hM _ _ (last ?_)⟩
  have e2:aQ G7 q (.lst ((rs.map (·.1)).map D.str++[.str f])) s=some (.lst (rs.map aA)):=by rw[cF (Ne.symm hqs)];exact g2'
  have hp8:Pen (aQ G7 q (.lst ((rs.map (·.1)).map D.str++[.str f]))) p:=hp7.sb Sb.upd npq
  simp_arith[h1,cB e2,cN bA,xQ,List.length_map]
  refine aP hp8 (by omega) (by omega) fun t G9 ht hp9 sb9=>?_
  have e1':=sb9 q _ bA (Ne.symm npq)
  have e2':=sb9 s _ e2 (Ne.symm nps)
  simp_arith[cB e2']
  refine dH (by omega) (by simp;omega) fun x hx=>?_
  obtain ⟨dd,hdd,rfl⟩:=List.mem_map.mp hx
  refine ⟨by decide,by simp;have hsz:sz=1000000:=rfl;omega,hk _ _ ⟨⟨_,rfl⟩,hp9.sb Sb.upd nps,?_,rs++[(f,dd)],?_,?_,by simp[r1],?_,?_⟩⟩
  ·intro b ob hb nb
   by_cases hbs:b=s
   ·subst hbs
    exfalso
    have z:=sb2 b _ hb nb
    have z:=sb3 b _ z nb
    rw[hs3]at z;cases z
   ·by_cases hbq:b=q
    ·subst hbq
     exfalso
     have z:=sb2 b _ hb nb
     have z:=sb3 b _ z nb
     rw[hq]at z;cases z
    ·rw[cF hbs]
     exact sb9 b _ (by rw[cF hbq];exact sb7 b _ (sb6 b _ hb nb) nb) nb
  ·rw[cF hqs,e1'];simp
  ·rw[bA];simp[aA]
  ·intro r' hr'
   rcases List.mem_append.mp hr' with h |h
   ·exact r2 r' h
   ·rw[List.mem_singleton.mp h];exact hf
  ·intro r' hr'
   rcases List.mem_append.mp hr' with h |h
   ·exact r3 r' h
   ·rw[List.mem_singleton.mp h];exact x3 dd hdd
 ·rintro ρ G' ⟨⟨o,rfl⟩,hp6,sb6,rs,g1,g2,r1,r2,r3⟩
  have hl:rs.length=r:=by rw[r1];simp[bC]
  refine hM _ _ ?_
  simp_arith[cN g2]
  exact ⟨by decide,p,w,m,n+1,rs,rfl,rfl,⟨by omega,by omega,by omega,r2,r3⟩,by omega,by omega,hp6,sb6⟩
end RF
namespace RF
open PySem L2
def alt(c:Nat):List Nat:=if c=42 then [48,49] else [c]
def step1(acc:List (List Nat))(c:Nat):List (List Nat):=acc.flatMap fun t=>(alt c).map fun s=>t++[s]
def bh(f:List Nat):List (List Nat):=f.foldl step1 [[]]
def Fits(f w:List Nat):Prop:=f.length=w.length∧∀(i c s:Nat),f[i]?=some c→w[i]?=some s→s∈alt c
theorem vX(f:List Nat)(c:Nat):bh (f++[c])=step1 (bh f) c:=by unfold bh;rw[List.foldl_append];rfl
theorem Yp{acc:List (List Nat)}{c:Nat}{w:List Nat}:w∈step1 acc c↔∃t s,t∈acc∧s∈alt c∧w=t++[s]:=by
 unfold step1
 rw[List.mem_flatMap]
 constructor
 ·rintro ⟨t,ht,h⟩
  obtain ⟨s,hs,rfl⟩:=List.mem_map.mp h
  exact ⟨t,s,ht,hs,rfl⟩
 ·rintro ⟨t,s,ht,hs,rfl⟩
  exact ⟨t,ht,List.mem_map.mpr ⟨s,hs,rfl⟩⟩
theorem vY{f w:List Nat}{c s:Nat}:Fits (f++[c]) (w++[s])↔Fits f w∧s∈alt c:=by
 constructor
 ·rintro ⟨h1,h2⟩
  have hl:f.length=w.length:=by simpa using h1
  refine ⟨⟨hl,fun i c' s' hc hs=>?_⟩,?_⟩
  ·have i1:=(List.getElem?_eq_some_iff.mp hc).1
   exact h2 i c' s' (by rw[List.getElem?_append_left i1];exact hc) (by rw[List.getElem?_append_left (by omega)];exact hs)
  ·exact h2 f.length c s (by simp) (by rw[hl];simp)
 ·rintro ⟨⟨h1,h2⟩,h3⟩
  refine ⟨by simp[h1],fun i c' s' hc hs=>?_⟩
  by_cases hi:i < f.length
  ·rw[List.getElem?_append_left hi]at hc
   rw[List.getElem?_append_left (by omega)]at hs
   exact h2 i c' s' hc hs
  ·have i2:=(List.getElem?_eq_some_iff.mp hc).1
   simp at i2
   have e:i=f.length:=by omega
   subst e
   simp at hc
   rw[h1]at hs
   simp at hs
   subst hc hs
   exact h3
theorem Iz{f w:List Nat}:w∈bh f↔Fits f w:=by
 induction f using Ce generalizing w with
 |nil=>
  simp[bh,Fits]
  constructor
  ·rintro rfl;simp
  ·intro h;exact List.length_eq_zero_iff.mp h.symm
 |snoc f c ih=>
  rw[vX,Yp]
  constructor
  ·rintro ⟨t,s,ht,hs,rfl⟩
   exact vY.mpr ⟨ih.mp ht,hs⟩
  ·intro h
   have hl:=h.1
   simp at hl
   have hne:w≠[]:=by rintro rfl;simp at hl
   refine ⟨w.dropLast,w.getLast hne,?_,?_,(List.dropLast_concat_getLast hne).symm⟩
   ·rw[←List.dropLast_concat_getLast hne]at h
    exact ih.mpr (vY.mp h).1
   ·rw[←List.dropLast_concat_getLast hne]at h
    exact (vY.mp h).2
theorem Yq{f w:List Nat}(h:w∈bh f):w.length=f.length:=(Iz.mp h).1.symm
theorem IK{acc:List (List Nat)}{c:Nat}:(step1 acc c).length≤2 * acc.length:=by
 unfold step1
 induction acc with
 |nil=>simp
 |cons a r ih=>
  rw[List.flatMap_cons,List.length_append,List.length_map,List.length_cons]
  have:(alt c).length≤2:=by unfold alt;split <;> simp
  omega
theorem Yr(f:List Nat):(bh f).length≤2 ^ f.length:=by
 induction f using Ce with
 |nil=>simp[bh]
 |snoc f c ih=>
  rw[vX,List.length_append,List.length_singleton,Nat.pow_succ]
  have:=@IK (bh f) c
  omega
theorem Ys{a b:List (List Nat)}{c:Nat}:step1 (a++b) c=step1 a c++step1 b c:=by unfold step1;rw[List.flatMap_append]
def IV(ds:List D)(_:DH):Prop:=∃f:List Nat,ds=[.str f]∧f.length≤12
def IW(ds:List D)(G:DH)(d:D)(G':DH):Prop:=∃f:List Nat,ds=[.str f]∧d=.lst ((bh f).map D.str)∧Sa G G'
def qW:RF.Spec:=bf IV IW
theorem Yt{f:List Nat}{G:DH}{k:D→DH→Prop}{E:EK}(h:f.length≤12)(hk:∀G',Sa G G'→k (.lst ((bh f).map D.str)) G'):qW.t [.str f] G k E:=by
 refine bK ⟨f,rfl,h⟩ fun d G' hx=>?_
 obtain ⟨f2,e1,e2,sa⟩:=hx
 cases e1
 subst e2
 exact hk G' sa
theorem Yu(Φ:aa)(ds:List D)(G:DH)(h:IV ds G):au Φ vL noE (env0 ds 4) G (ends (IW ds G)):=by
 obtain ⟨f,rfl,hf⟩:=h
 simp_all_arith[vL]
 refine seq fun M hM=>?_
 simp_arith[ends]
 refine ⟨by decide,hM _ _ (seq fun M hM=>?_)⟩
 simp_arith![ends]
 refine ForG.inv (P:=fun i ρ G'=>(∃o2 o3 o4,ρ=[some (.str f),some (.lst ((bh (f.take i)).map D.str)),o2,o3,o4])∧Sa G G') ⟨⟨_,_,_,rfl⟩,Sa.refl G⟩ (fun _ _ _ _=>trivial) ?_ ?_
 ·rintro i d ρ G2 hd ⟨⟨o2,o3,o4,rfl⟩,sa⟩ kk hk
  rw[List.getElem?_map]at hd
  obtain ⟨c,hc,rfl⟩:=Option.map_eq_some_iff.mp hd
  have hi:=(List.getElem?_eq_some_iff.mp hc).1
  have ht:f.take (i+1)=f.take i++[c]:=by rw[List.take_add_one,hc];rfl
  have hcard:(bh (f.take i)).length≤4096:=by
   have h1:=Yr (f.take i)
   have h2:(f.take i).length≤12:=by rw[List.length_take];omega
   have h3:=Nat.pow_le_pow_right (show 0 < 2 by decide) h2
   have h4:2 ^ 12=4096:=by decide
   omega
  simp_arith![ends]
  refine seq fun M hM=>?_
  simp_arith[ends]
  refine fun q hq=>hM _ _ (seq fun M hM=>?_)
  simp_arith![ends]
  refine ForG.inv (P:=fun j ρ G'=>(∃o4,ρ=[some (.str f),some (.lst ((bh (f.take i)).map D.str)),some (.str [c]),some (.ref q),o4])∧Sa G G'∧G' q=some (.lst ((step1 ((bh (f.take i)).take j) c).map D.str))) ⟨⟨_,rfl⟩,sa.trans (Sa.new hq),bA⟩ (fun _ _ _ _=>trivial) ?_ ?_
  ·rintro j d ρ G3 hd3 ⟨⟨o4,rfl⟩,sa3,g3⟩ kk' hk'
   rw[List.getElem?_map]at hd3
   obtain ⟨t,htt,rfl⟩:=Option.map_eq_some_iff.mp hd3
   have hj:=(List.getElem?_eq_some_iff.mp htt).1
   have tlen:t.length≤12:=by rw[Yq (List.mem_of_getElem? htt),List.length_take];omega
   have tk:(bh (f.take i)).take (j+1)=(bh (f.take i)).take j++[t]:=by rw[List.take_add_one,htt];rfl
   have st:step1 [t] c=(alt c).map fun s=>t++[s]:=by simp[step1]
   have l1:(step1 ((bh (f.take i)).take j) c).length≤8192:=by
    have:=@IK ((bh (f.take i)).take j) c
    have:((bh (f.take i)).take j).length≤4096:=by rw[List.length_take];omega
    omega
   have al2:(alt c).length≤2:=by unfold alt;split <;> simp
   simp_arith![ends]
   refine last ?_
   simp_arith[cB g3]
   refine ⟨by decide,?_⟩
   have ix:atI [D.str [48,49],D.str [c]] (if (!([c]==[42]))=true then 1 else 0)=some (.str (alt c)):=by
    unfold alt
    by_cases h42:c=42
    ·subst h42;rfl
    ·have:([c]==[42])=false:=by simp[h42]
     rw[this,if_neg h42];rfl
   simp_arith[ix]
   refine CompG.map (f:=fun d=>match d with |.str [s]=>.str (t++[s]) |_=>.non) (I:=fun ρ=>∃o,ρ=[o,some (.str t)]) ⟨_,rfl⟩ trivial (by simp;have hsz:sz=1000000:=rfl;omega) ?_ ?_
   ·rintro d ρ hd ⟨o,rfl⟩ kk2 hk2
    obtain ⟨s,_,rfl⟩:=List.mem_map.mp hd
    simp_arith[ends]
    exact ⟨by have hsz:sz=1000000:=rfl;omega,hk2 _ ⟨_,rfl⟩⟩
   ·rw[List.map_map]
    simp_arith[Function.comp_def,cB g3,List.length_map]
    refine ⟨by have hsz:sz=1000000:=rfl;omega,hk' _ _ ⟨⟨_,rfl⟩,?_,?_⟩⟩
    ·intro b ob hb
     by_cases hbq:b=q
     ·subst hbq
      exfalso
      have:=sa b _ hb
      rw[hq]at this;cases this
     ·rw[cF hbq];exact sa3 b _ hb
    ·rw[bA,tk,Ys,st,List.map_append,List.map_map];rfl
  ·rintro ρ G3 ⟨⟨o4,rfl⟩,sa3,g3⟩
   rw[List.length_map,List.take_length]at g3
   refine hM _ _ (last ?_)
   simp_arith[g3]
   refine hk _ _ ⟨⟨_,_,_,by rw[ht,vX]⟩,?_⟩
   intro b ob hb
   have hbq:b≠q:=by
    rintro rfl
    have:=sa b _ hb
    rw[hq]at this;cases this
   rw[sO hbq];exact sa3 b _ hb
 ·rintro ρ G2 ⟨⟨o2,o3,o4,rfl⟩,sa⟩
  rw[List.length_map,List.take_length]
  refine hM _ _ ?_
  simp_arith[ends]
  exact ⟨f,rfl,rfl,sa⟩
end RF
namespace RF
open PySem L2
def orX(S:RF.Spec)(P:List D→String→Prop):RF.Spec where
 A:=S.A ⊕ (String×DH)
 pre:=fun ds G a=>match a with |.inl a=>S.pre ds G a |.inr c=>c.2=G∧P ds c.1
 post:=fun a d G'=>match a with |.inl a=>S.post a d G' |.inr _=>False
 exc:=fun a x G'=>match a with |.inl a=>S.exc a x G' |.inr c=>x=⟨c.1,.non⟩∧G'=c.2
theorem j5{S:RF.Spec}{P:List D→String→Prop}{ds:List D}{G:DH}{k:D→DH→Prop}{E:EK}(h:S.t ds G k E):(orX S P).t ds G k E:=by
 obtain ⟨a,h1,h2,h3⟩:=h
 exact ⟨.inl a,h1,h2,h3⟩
theorem dJ{S:RF.Spec}{P:List D→String→Prop}{ds:List D}{G:DH}{k:D→DH→Prop}{E:EK}{C:String}(h:P ds C)(hE:E ⟨C,.non⟩ G):(orX S P).t ds G k E:=
 ⟨.inr (C,G),⟨rfl,h⟩,fun _ _ q=>q.elim,fun x G' ⟨e1,e2⟩=>by subst e1 e2;exact hE⟩
theorem gJ{Φ:aa}{body:Sxs}{m n:Nat}{S:RF.Spec}{P:List D→String→Prop}(hS:S.exc=fun _ _ _=>False)(h1:∀ds G a,ds.length=n→S.pre ds G a→au Φ body noE (env0 ds m) G (ends (S.post a)))
  (h2:∀ds G C,P ds C→au Φ body (fun x G'=>x=⟨C,.non⟩∧G'=G) (env0 ds m) G (ends fun _ _=>False)):∀ds G a,ds.length=n→(orX S P).pre ds G a→au Φ body ((orX S P).exc a) (env0 ds m) G (ends ((orX S P).post a)):=by
 rintro ds G (a |c) hl h
 ·have e:(orX S P).exc (.inl a)=noE:=by show S.exc a=noE;rw[hS];rfl
  rw[e]
  exact h1 ds G a hl h
 ·obtain ⟨e,hp⟩:=h
  subst e
  exact h2 ds c.2 c.1 hp
mutual
def szA:D→Bool
 |.str l=>decide (l.length≤100000)
 |.tup l=>decide (l.length≤100000)&&bc l
 |.lst l=>decide (l.length≤100000)&&bc l
 |_=>true
def bc:List D→Bool
 |[]=>true
 |a::as=>szA a&&bc as
end
theorem Ja{x:D}(h:szA x=true):szd x=true:=by
 cases x <;> first |rfl | (rw[szA]at h;exact h)
theorem Jb:∀{l:List D}{d:D},bc l=true→d∈l→szA d=true
 |a::as,d,h,m=>by
  rw[bc,Bool.and_eq_true]at h
  rcases List.mem_cons.mp m with e |m
  ·rw[e];exact h.1
  ·exact Jb h.2 m
theorem Jc:∀{l:List D},(∀d∈l,szA d=true)→bc l=true
 |[],_=>rfl
 |a::l,h=>by rw[bc,h a List.mem_cons_self,Jc fun d hd=>h d (List.mem_cons_of_mem _ hd)];rfl
def letters:List Nat:=[97,98,99,100,101,102,103,104,105,106,107,108,109,110,111,112,113,114,115,116,117,118,119,120,121,122]
theorem Yv:∀c:Fin 123,97≤c.1→letters.contains c.1=true:=by decide
theorem Yw{c:Nat}:letters.contains c=true↔97≤c∧c≤122:=
 ⟨fun h=>Ip (List.contains_iff_mem.mp h),fun ⟨h1,h2⟩=>Yv ⟨c,Nat.lt_succ_of_le h2⟩ h1⟩
def dw:D→Bool
 |.str l=>decide (1≤l.length)&&decide (l.length≤8)&&l.all (fun c=>letters.contains c)
 |_=>false
def j6:List D→Option D
 |[x]=>if nr x&&szd x then some (.bl (dw x)) else none
 |_=>none
theorem Yx(Φ:aa)(ds:List D)(G:DH)(d:D)(h:j6 ds=some d):au Φ iY noE (env0 ds 0) G (ends fun d' G'=>G'=G∧d'=d):=by
 unfold j6 at h
 split at h
 ·rename_i x
  split at h
  ·rename_i hx
   cases h
   rw[Bool.and_eq_true]at hx
   cases x with
   |str l=>
    have hl:l.length≤100000:=by simpa [szd] using hx.2
    simp_arith[iY,dw]
    by_cases hw:1≤l.length
    ·have hb:decide ((1:Int)≤(l.length:Int))=true:=decide_eq_true (by omega)
     simp_arith[hb]
     by_cases hw8:l.length≤8
     ·have hb8:decide ((l.length:Int)≤8)=true:=decide_eq_true (by omega)
      simp_arith[hb8]
      refine CompG.map (f:=fun d=>match d with |.str [c]=>.bl (letters.contains c) |_=>.non) (I:=fun ρ=>∃o,ρ=[o]) ⟨_,rfl⟩ trivial (by simp;have hsz:sz=1000000:=rfl;omega) ?_ ?_
      ·rintro d ρ hd ⟨o,rfl⟩ kk hk
       obtain ⟨c,_,rfl⟩:=List.mem_map.mp hd
       simp_arith[ends]
       exact hk _ ⟨_,rfl⟩
      ·rw[List.map_map]
       simp_arith[Function.comp_def,jO,all_map]
       simp only[decide_eq_true hw,decide_eq_true hw8,Bool.true_and,and_self]
     ·have hb8:decide ((l.length:Int)≤8)=false:=decide_eq_false (by omega)
      simp_arith[hb8]
      simp only[decide_eq_false hw8,Bool.and_false,Bool.false_and]
    ·have hb:decide ((1:Int)≤(l.length:Int))=false:=decide_eq_false (by omega)
     simp_arith[hb]
     simp only[decide_eq_false hw,Bool.false_and]
   |ref p=>simp[nr]at hx
   |scr p=>simp[nr]at hx
   |exn p=>simp[nr]at hx
   |_=>simp_arith[iY,dw];try simp
  ·cases h
 ·cases h
def cC(w:Int):D→Bool
 |.tup [a,b]=>isText [48,49,42] w a&&dw b
 |_=>false
def j7:List D→Option D
 |[.int w,x]=>if nr x&&szA x then some (.bl (cC w x)) else none
 |_=>none
theorem Yy (Φ:aa) (h1:Φ "is_form"=aO jZ) (h2:Φ "is_deed"=aO j6) (ds:List D) (G:DH) (d:D) (h:j7 ds=some d):au Φ eH noE (env0 ds 0) G (ends fun d' G'=>G'=G∧d'=d):=by
 unfold j7 at h
 split at h
 ·rename_i w x
  split at h
  ·rename_i hx
   cases h
   rw[Bool.and_eq_true]at hx
   cases x with
   |tup l=>
    match l,hx with
    |[],_=>simp_arith[eH,cC];try simp
    |[a],_=>simp_arith[eH,cC];try simp
    |[a,b],hx=>
     simp only[nr,nrs,szA,bc,Bool.and_true,Bool.and_eq_true]at hx
     obtain ⟨⟨n1,n2⟩,_,s1,s2⟩:=hx
     have g1:(nr a&&szd a)=true:=by rw[n1,Ja s1];rfl
     have g2:(nr b&&szd b)=true:=by rw[n2,Ja s2];rfl
     simp_arith[eH,h1,h2]
     simp_arith[show ((0+1+1:Nat):Int)=2 from rfl,BEq.rfl]
     refine cM (if_pos g1) ?_
     simp_arith[ends]
     cases ht:isText [48,49,42] w a with
     |false=>simp[cC,ht]
     |true=>
      refine cM (if_pos g2) ?_
      simp_arith[ends]
      simp[cC,ht]
    |a::b::c::r,_=>
     have hb:((((r.length+1+1+1:Nat):Int)==2):Bool)=false:=by
      rw[beq_eq_false_iff_ne];omega
     simp_arith[eH,cC,hb]
   |ref p=>simp[nr]at hx
   |scr p=>simp[nr]at hx
   |exn p=>simp[nr]at hx
   |_=>simp_arith[eH,cC];try simp
  ·cases h
 ·cases h
def cO:D→Bool
 |.tup [.int w,.tup rows]=>decide (1≤w)&&decide (w≤6)&&decide (rows.length≤12)&&rows.all (cC w)
 |_=>false
def je:List D→Option D
 |[x]=>if nr x&&szA x then some (.bl (cO x)) else none
 |_=>none
theorem Yz (Φ:aa) (h1:Φ "is_width"=aO jY) (h2:Φ "is_row"=aO j7) (ds:List D) (G:DH) (d:D) (h:je ds=some d):au Φ eN noE (env0 ds 2) G (ends fun d' G'=>G'=G∧d'=d):=by
 unfold je at h
 split at h
 ·rename_i x
  split at h
  ·rename_i hx
   cases h
   rw[Bool.and_eq_true]at hx
   cases x with
   |tup l=>
    match l,hx with
    |[],_=>simp_arith[eN,cO];try simp
    |[a],_=>simp_arith[eN,cO];try simp
    |[a,b],hx=>
     simp only[nr,nrs,szA,bc,Bool.and_true,Bool.and_eq_true]at hx
     obtain ⟨⟨n1,n2⟩,_,s1,s2⟩:=hx
     simp_all_arith[eN]
     refine seq fun M hM=>?_
     simp_arith[ends]
     simp_arith[show ((0+1+1:Nat):Int)=2 from rfl,BEq.rfl]
     refine hM _ _ (seq fun M hM=>?_)
     simp_arith[ends]
     refine hM _ _ (seq fun M hM=>?_)
     simp_arith[h1]
     refine cM (if_pos n1) ?_
     simp_arith[ends]
     cases hw:qQ a with
     |false=>
      have:cO (.tup [a,b])=false:=by
       cases a with
       |int i=>
        have hw:(decide (1≤i)&&decide (i≤6))=false:=hw
        cases b <;> simp only[cO]
        rw[hw];simp
       |_=>rfl
      rw[this]
      simp_arith[ends]
     |true=>
      cases a with
      |int w=>
       have hw':decide (1≤w)=true∧decide (w≤6)=true:=by unfold qQ at hw;simpa using hw
       cases b with
       |tup rows=>
        simp_arith[ends]
        simp only[nr,szA,Bool.and_eq_true,decide_eq_true_iff]at n2 s2
        by_cases hr:rows.length≤12
        ·have hd:decide ((12:Int) < (rows.length:Int))=false:=decide_eq_false (by omega)
         simp_arith[hd]
         refine hM _ _ ?_
         simp_arith[ends]
         refine CompG.map (f:=fun d=>.bl (cC w d)) (I:=fun ρ=>∃o,ρ=[o,some (.int w)]) ⟨_,rfl⟩ trivial (by have hsz:sz=1000000:=rfl;omega) ?_ ?_
         ·rintro d ρ hd ⟨o,rfl⟩ kk hk
          simp_arith[h2]
          refine cM (if_pos (by rw[qR n2 hd,Jb s2.2 hd];rfl)) ?_
          exact hk _ ⟨_,rfl⟩
         ·simp_arith[jO]
          simp only[cO,hw'.1,hw'.2,decide_eq_true hr,Bool.true_and,List.all_map,Function.comp_def,id_eq]
        ·have hd:decide ((12:Int) < (rows.length:Int))=true:=decide_eq_true (by omega)
         simp_arith[hd,cO,decide_eq_false hr,Bool.and_false,Bool.false_and]
       |ref p=>simp[nr]at n2
       |scr p=>simp[nr]at n2
       |exn p=>simp[nr]at n2
       |_=>simp_arith[cO];try simp
      |_=>cases hw
    |a::b::c::r,_=>
     have hb:((((r.length+1+1+1:Nat):Int)==2):Bool)=false:=by
      rw[beq_eq_false_iff_ne];omega
     simp_arith[eN,cO,hb]
   |ref p=>simp[nr]at hx
   |scr p=>simp[nr]at hx
   |exn p=>simp[nr]at hx
   |_=>simp_arith[eN,cO];try simp
  ·cases h
 ·cases h
def okW(w:Nat)(l:List Nat):Prop:=l.length=w∧∀c∈l,c=48∨c=49
theorem YB{w:Nat}{l:List Nat}(h:okF w l):isText [48,49,42] (w:Int) (.str l)=true:=by
 unfold isText
 rw[Bool.and_eq_true]
 refine ⟨decide_eq_true (by rw[h.1]),List.all_eq_true.mpr fun c hc=>?_⟩
 rcases h.2 c hc with rfl |rfl |rfl <;> rfl
theorem YC{w:Nat}{l:List Nat}(h:okW w l):isText [48,49] (w:Int) (.str l)=true:=by
 unfold isText
 rw[Bool.and_eq_true]
 refine ⟨decide_eq_true (by rw[h.1]),List.all_eq_true.mpr fun c hc=>?_⟩
 rcases h.2 c hc with rfl |rfl <;> rfl
theorem YD{l:List Nat}(h:okD l):dw (.str l)=true:=by
 unfold dw
 rw[Bool.and_eq_true,Bool.and_eq_true]
 exact ⟨⟨decide_eq_true h.1,decide_eq_true h.2.1⟩,List.all_eq_true.mpr fun c hc=>Yw.mpr (h.2.2 c hc)⟩
theorem YF{w:Nat}{r:Row}(h1:okF w r.1)(h2:okD r.2):cC (w:Int) (aA r)=true:=by
 show (isText [48,49,42] (w:Int) (.str r.1)&&dw (.str r.2))=true
 rw[YB h1,YD h2];rfl
theorem YG{w:Nat}{rs:List Row}(h:okB w rs):cO (ao w rs)=true:=by
 unfold ao cO
 simp only[Bool.and_eq_true,decide_eq_true_iff,List.length_map,List.all_map,List.all_eq_true]
 have:=h.w1
 have:=h.w6
 refine ⟨⟨⟨by omega,by omega⟩,h.len⟩,fun r hr=>YF (h.form r hr) (h.deed r hr)⟩
theorem jf(rs:List Row):nrs (rs.map aA)=true:=iU fun d hd=>by obtain ⟨r,_,rfl⟩:=List.mem_map.mp hd;rfl
theorem YH(w:Nat)(rs:List Row):nr (ao w rs)=true:=by unfold ao;simp only[nr,nrs,jf,Bool.and_true]
theorem Jd{w:Nat}{rs:List Row}(h:okB w rs):szA (ao w rs)=true:=by
 unfold ao
 simp only[szA,bc,Bool.and_true,Bool.true_and,Bool.and_eq_true,decide_eq_true_iff,List.length_map]
 have hlen:=h.len
 have hw:=h.w6
 refine ⟨by simp,by omega,Jc fun d hd=>?_⟩
 obtain ⟨r,hr,rfl⟩:=List.mem_map.mp hd
 have h1:=(h.form r hr).1
 have h2:=(h.deed r hr).2.1
 unfold aA
 simp only[szA,bc,Bool.and_true,Bool.and_eq_true,decide_eq_true_iff]
 exact ⟨by simp,by omega,by omega⟩
def YJ:RF.Spec:=bf (fun ds _=>∃w rs,ds=[ao w rs]∧okB w rs) (fun _ G d G'=>G'=G∧d=.non)
def cU(x:D):Prop:=nr x=true∧szA x=true∧cO x=false
def Jf (ds:List D) (C:String):Prop:=C="NoBook"∧∃x,ds=[x]∧cU x
def fU:RF.Spec:=orX YJ Jf
theorem gK{w:Nat}{rs:List Row}{G:DH}{k:D→DH→Prop}{E:EK}(h:okB w rs)(hk:k .non G):fU.t [ao w rs] G k E:=j5 (bK ⟨w,rs,rfl,h⟩ fun d G' ⟨e1,e2⟩=>by subst e1 e2;exact hk)
theorem vZ {x:D} {G:DH} {k:D→DH→Prop} {E:EK} (h:cU x) (hE:E ⟨"NoBook",.non⟩ G):fU.t [x] G k E:=dJ ⟨rfl,x,rfl,h⟩ hE
theorem YK (Φ:aa) (h1:Φ "is_book"=aO je) (ds:List D) (G:DH) (h:∃w rs,ds=[ao w rs]∧okB w rs):au Φ gG noE (env0 ds 0) G (ends fun d G'=>G'=G∧d=.non):=by
 obtain ⟨w,rs,rfl,hb⟩:=h
 simp_arith[gG,h1]
 refine cM (d:=.bl true) (by rw[←YG hb];exact if_pos (by rw[YH,Jd hb];rfl)) ?_
 simp_arith[ends]
theorem YL (Φ:aa) (h1:Φ "is_book"=aO je) (ds:List D) (G:DH) (C:String) (h:Jf ds C):au Φ gG (fun x G'=>x=⟨C,.non⟩∧G'=G) (env0 ds 0) G (ends fun _ _=>False):=by
 obtain ⟨rfl,x,rfl,hx,hz,hn⟩:=h
 simp_arith[gG,h1]
 refine cM (d:=.bl false) (by rw[←hn];exact if_pos (by rw[hx,hz];rfl)) ?_
 simp_arith[and_self]
def jg(c s:Nat):Bool:=c==42||c==s
def cA:List Nat→List Nat→Bool
 |c::f,s::w=>jg c s&&cA f w
 |_,_=>true
def fV(f w:List Nat):Bool:=decide (f.length=w.length)&&cA f w
def j8:List D→Option D
 |[.str f,.str w]=>if decide (f.length≤100000) then some (.bl (fV f w)) else none
 |_=>none
theorem qX:∀(f w:List Nat),bO (f.map fun c=>D.str [c]) (w.map fun c=>D.str [c])=(f.zip w).map fun p=>D.tup [.str [p.1],.str [p.2]]
 |[],w=>by simp[bO]
 |c::f,[]=>by simp[bO]
 |c::f,s::w=>by simp[bO,qX f w]
theorem Jg:∀(f w:List Nat),((f.zip w).map fun p=>jg p.1 p.2).all id=cA f w
 |[],w=>by simp[cA]
 |c::f,[]=>by simp[cA]
 |c::f,s::w=>by simp[cA,Jg f w]
theorem qY{c s:Nat}:(([c]==[s]):Bool)=(c==s):=by
 by_cases h:c=s
 ·subst h;simp
 ·rw[beq_eq_false_iff_ne.mpr h,beq_eq_false_iff_ne.mpr (by simp[h])]
theorem YM{a b:Nat}:((((a:Nat):Int)==((b:Nat):Int)):Bool)=decide (a=b):=by
 by_cases h:a=b
 ·subst h;simp
 ·rw[decide_eq_false h,beq_eq_false_iff_ne];omega
theorem YQ(Φ:aa)(ds:List D)(G:DH)(d:D)(h:j8 ds=some d):au Φ jU noE (env0 ds 0) G (ends fun d' G'=>G'=G∧d'=d):=by
 unfold j8 at h
 split at h
 ·rename_i f w
  split at h
  ·rename_i hl
   have hl:=of_decide_eq_true hl
   cases h
   simp_arith[jU,YM,fV]
   cases he:decide (f.length=w.length) with
   |false=>simp_arith[Bool.false_and]
   |true=>
    simp_arith[qX,Bool.true_and]
    refine CompG.map (f:=fun d=>match d with |.tup [.str [c],.str [s]]=>.bl (jg c s) |_=>.non) (I:=fun ρ=>∃o o',ρ=[o,o']) ⟨_,_,rfl⟩ trivial (by simp;have hsz:sz=1000000:=rfl;omega) ?_ ?_
    ·rintro d ρ hd ⟨o,o',rfl⟩ kk hk
     obtain ⟨⟨c,s⟩,_,rfl⟩:=List.mem_map.mp hd
     simp_arith[qY]
     have:=hk [some (.str [c]),some (.str [s])] ⟨_,_,rfl⟩
     unfold jg at this
     cases hc:(c==42) with
     |true=>simp_arith[hc]at this ⊢;exact this
     |false=>simp_arith[hc]at this ⊢;exact this
    ·rw[List.map_map]
     simp_arith[Function.comp_def,jO,Jg,and_self]
  ·cases h
 ·cases h
def aV(rs:List Row)(w:List Nat):Option Nat:=rs.findIdx? fun r=>fV r.1 w
def bL:Option Nat→D
 |some n=>.int n
 |none=>.non
def j9(w:Nat)(y:D):Prop:=nr y=true∧szd y=true∧isText [48,49] (w:Int) y=false
def qZ (ds:List D) (C:String):Prop:=(C="NoBook"∧∃x y,ds=[x,y]∧cU x)∨(C="NoWord"∧∃w rs y,ds=[ao w rs,y]∧okB w rs∧j9 w y)
def YS:RF.Spec:=bf (fun ds _=>∃w rs l,ds=[ao w rs,.str l]∧okB w rs∧okW w l) (fun ds G d G'=>G'=G∧∃w rs l,ds=[ao w rs,.str l]∧d=bL (aV rs l))
def kh:RF.Spec:=orX YS qZ
theorem v6{w v:Nat}{rs ss:List Row}(h:ao w rs=ao v ss):w=v∧rs=ss:=by
 unfold ao at h
 simp only[D.tup.injEq,List.cons.injEq,D.int.injEq,Int.ofNat_inj,and_true]at h
 refine ⟨h.1,?_⟩
 have h2:=h.2
 clear h
 induction rs generalizing ss with
 |nil=>cases ss with
  |nil=>rfl
  |cons _ _=>simp at h2
 |cons r rs ih=>cases ss with
  |nil=>simp at h2
  |cons s ss=>
   simp only[List.map_cons,List.cons.injEq]at h2
   have e:r=s:=by
    have:=h2.1
    unfold aA at this
    simp only[D.tup.injEq,List.cons.injEq,D.str.injEq,and_true]at this
    exact Prod.ext this.1 this.2
   rw[e,ih h2.2]
theorem YT{w:Nat}{rs:List Row}{l:List Nat}{G:DH}{k:D→DH→Prop}{E:EK}(h:okB w rs)(hl:okW w l)(hk:k (bL (aV rs l)) G):kh.t [ao w rs,.str l] G k E:=by
 refine j5 (bK ⟨w,rs,l,rfl,h,hl⟩ fun d G' ⟨e1,w2,rs2,l2,e2,e3⟩=>?_)
 simp only[List.cons.injEq,D.str.injEq,and_true]at e2
 obtain ⟨e2,rfl⟩:=e2
 obtain ⟨rfl,rfl⟩:=v6 e2
 subst e1 e3
 exact hk
theorem Jh{rs:List Row}{l:List Nat}{i:Nat}{r:Row}(h:rs[i]?=some r):aV (rs.drop i) l=if fV r.1 l then some 0 else (aV (rs.drop (i+1)) l).map (·+1):=by
 have hi:=(List.getElem?_eq_some_iff.mp h).1
 have e:rs.drop i=r::rs.drop (i+1):=by
  rw[List.drop_eq_getElem_cons hi]
  rw[(List.getElem?_eq_some_iff.mp h).2]
 rw[e]
 unfold aV
 rw[List.findIdx?_cons]
theorem YW (Φ:aa) (h1:Φ "need_book"=fU) (h2:Φ "is_word"=aO jd) (h3:Φ "fits"=aO j8) (ds:List D) (G:DH) (h:∃w rs l,ds=[ao w rs,.str l]∧okB w rs∧okW w l):
  au Φ fM noE (env0 ds 4) G (ends fun d G'=>G'=G∧∃w rs l,ds=[ao w rs,.str l]∧d=bL (aV rs l)):=by
 obtain ⟨w,rs,l,rfl,hb,hl⟩:=h
 have hl1:=hl.1
 have hw6:=hb.w6
 simp_all_arith[fM]
 refine seq fun M hM=>?_
 simp_arith[h1]
 refine gK hb (hM _ _ (seq fun M hM=>?_))
 conv=>enter [4,1,1];rw[ao]
 simp_arith[ends]
 refine hM _ _ (seq fun M hM=>?_)
 simp_arith[h2]
 refine cM (d:=.bl true) (by rw[←YC hl];exact if_pos (by unfold szd;simp only[nr,Bool.true_and];exact decide_eq_true (by omega))) ?_
 simp_arith[ends]
 refine hM _ _ (seq fun M hM=>?_)
 simp_arith![ends]
 refine ForG.inv (P:=fun i ρ G'=>(∃o4 o5,ρ=[some (.tup [.int w,.tup (rs.map aA)]),some (.str l),some (.int w),some (.tup (rs.map aA)),o4,o5])∧G'=G∧aV rs l=(aV (rs.drop i) l).map (·+i)) ⟨⟨_,_,rfl⟩,rfl,by simp⟩ (fun _ _ _ _=>trivial) ?_ ?_
 ·rintro i d ρ G' hd ⟨⟨o4,o5,rfl⟩,rfl,hmet⟩ kk hk
  rw[jM]at hd
  obtain ⟨d',hd',rfl⟩:=Option.map_eq_some_iff.mp hd
  rw[List.getElem?_map]at hd'
  obtain ⟨r,hr,rfl⟩:=Option.map_eq_some_iff.mp hd'
  have hrf:=(hb.form r (List.mem_of_getElem? hr)).1
  rw[Jh hr]at hmet
  simp_arith![ends]
  refine last ?_
  simp_arith[h3,aA]
  refine cM (d:=.bl (fV r.1 l)) (if_pos (decide_eq_true (by omega))) ?_
  simp_arith[ends]
  cases hf:fV r.1 l with
  |true=>
   rw[hf,if_pos rfl]at hmet
   exact ⟨w,rs,l,rfl,by rw[hmet];simp[bL]⟩
  |false=>
   rw[hf,if_neg Bool.false_ne_true]at hmet
   refine hk _ _ ⟨⟨_,_,rfl⟩,rfl,?_⟩
   rw[hmet,Option.map_map]
   congr 1
   funext n
   simp;omega
 ·rintro ρ G' ⟨⟨o4,o5,rfl⟩,rfl,hmet⟩
  rw[jL,List.length_map,List.drop_length]at hmet
  refine hM _ _ ?_
  simp_arith[ends]
  exact ⟨w,rs,l,rfl,by rw[hmet];rfl⟩
theorem YX (Φ:aa) (h1:Φ "need_book"=fU) (h2:Φ "is_word"=aO jd) (ds:List D) (G:DH) (C:String) (h:qZ ds C):au Φ fM (fun x G'=>x=⟨C,.non⟩∧G'=G) (env0 ds 4) G (ends fun _ _=>False):=by
 rcases h with ⟨rfl,x,y,rfl,hx⟩ |⟨rfl,w,rs,y,rfl,hb,hy,hz,hn⟩
 ·simp_all_arith[fM]
  refine seq fun M hM=>?_
  simp_arith[h1]
  exact vZ hx ⟨rfl,rfl⟩
 ·have hw6:=hb.w6
  simp_all_arith[fM]
  refine seq fun M hM=>?_
  simp_arith[h1]
  refine gK hb (hM _ _ (seq fun M hM=>?_))
  conv=>enter [4,1,1];rw[ao]
  simp_arith[ends]
  refine hM _ _ (seq fun M hM=>?_)
  simp_arith[h2]
  refine cM (d:=.bl false) (by rw[←hn];exact if_pos (by rw[hy,hz];rfl)) ?_
  simp_arith[and_self,and_true]
  unfold iw
  rw[Bool.and_eq_true]
  exact ⟨decide_eq_true (by omega),decide_eq_true (by omega)⟩
def bj(rs:List Row):Option Nat→D
 |some n=>match rs[n]? with |some r=>.str r.2 |none=>.non
 |none=>.non
theorem Ji{rs:List Row}{l:List Nat}{n:Nat}(h:aV rs l=some n):n < rs.length:=by
 unfold aV at h
 exact (List.findIdx?_eq_some_iff_findIdx_eq.mp h).1
def q8:RF.Spec:=bf (fun ds _=>∃w rs o,ds=[ao w rs,bL o]∧∀n,o=some n→n < rs.length) (fun ds G d G'=>G'=G∧∃w rs o,ds=[ao w rs,bL o]∧d=bj rs o)
theorem YZ{a b:Option Nat}(h:bL a=bL b):a=b:=by
 cases a <;> cases b <;> simp[bL]at h ⊢ <;> omega
theorem Y0{w:Nat}{rs:List Row}{o:Option Nat}{G:DH}{k:D→DH→Prop}{E:EK}(h:∀n,o=some n→n < rs.length)(hk:k (bj rs o) G):q8.t [ao w rs,bL o] G k E:=by
 refine bK ⟨w,rs,o,rfl,h⟩ fun d G' ⟨e1,w2,rs2,o2,e2,e3⟩=>?_
 simp only[List.cons.injEq,and_true]at e2
 obtain ⟨e2,e4⟩:=e2
 obtain ⟨rfl,rfl⟩:=v6 e2
 cases YZ e4
 subst e1 e3
 exact hk
theorem Y4(Φ:aa)(ds:List D)(G:DH)(h:∃w rs o,ds=[ao w rs,bL o]∧∀n,o=some n→n < rs.length):au Φ jb noE (env0 ds 0) G (ends fun d G'=>G'=G∧∃w rs o,ds=[ao w rs,bL o]∧d=bj rs o):=by
 obtain ⟨w,rs,o,rfl,ho⟩:=h
 cases o with
 |none=>
  simp_arith[jb,bL]
  exact ⟨w,rs,none,rfl,rfl⟩
 |some n=>
  have hn:=ho n rfl
  simp_arith[jb,bL,ao]
  refine bD (a:=aA rs[n]) (bV (by simp[hn])) ?_
  simp_arith[aA]
  exact ⟨w,rs,some n,rfl,by simp[bj,hn]⟩
def Y5:RF.Spec:=bf (fun ds _=>∃w rs l,ds=[ao w rs,.str l]∧okB w rs∧okW w l) (fun ds G d G'=>G'=G∧∃w rs l,ds=[ao w rs,.str l]∧d=bj rs (aV rs l))
def kj:RF.Spec:=orX Y5 qZ
theorem Jj{w:Nat}{rs:List Row}{l:List Nat}{G:DH}{k:D→DH→Prop}{E:EK}(h:okB w rs)(hl:okW w l)(hk:k (bj rs (aV rs l)) G):kj.t [ao w rs,.str l] G k E:=by
 refine j5 (bK ⟨w,rs,l,rfl,h,hl⟩ fun d G' ⟨e1,w2,rs2,l2,e2,e3⟩=>?_)
 simp only[List.cons.injEq,D.str.injEq,and_true]at e2
 obtain ⟨e2,rfl⟩:=e2
 obtain ⟨rfl,rfl⟩:=v6 e2
 subst e1 e3
 exact hk
theorem Y6 (Φ:aa) (h1:Φ "deed_of"=q8) (h2:Φ "met"=kh) (ds:List D) (G:DH) (h:∃w rs l,ds=[ao w rs,.str l]∧okB w rs∧okW w l):au Φ gH noE (env0 ds 0) G (ends fun d G'=>G'=G∧∃w rs l,ds=[ao w rs,.str l]∧d=bj rs (aV rs l)):=by
 obtain ⟨w,rs,l,rfl,hb,hl⟩:=h
 simp_arith[gH,h1,h2]
 refine YT hb hl ?_
 refine Y0 (fun n hn=>Ji hn) ?_
 exact ⟨rfl,w,rs,l,rfl,rfl⟩
theorem Y7 (Φ:aa) (h2:Φ "met"=kh) (ds:List D) (G:DH) (C:String) (h:qZ ds C):au Φ gH (fun x G'=>x=⟨C,.non⟩∧G'=G) (env0 ds 0) G (ends fun _ _=>False):=by
 have h0:=h
 obtain ⟨a,b,rfl⟩:∃a b,ds=[a,b]:=by
  rcases h with ⟨_,x,y,e,_⟩ |⟨_,w,rs,y,e,_⟩
  ·exact ⟨_,_,e⟩
  ·exact ⟨_,_,e⟩
 simp_arith[gH,h2]
 exact dJ h0 ⟨rfl,rfl⟩
end RF
namespace RF
open PySem L2
theorem Y8{α β:Type}(f:α→β)(l:List α)(lo hi:Option Int):cut (l.map f) lo hi=(cut l lo hi).map f:=by
 unfold cut
 rw[List.length_map,List.map_take,List.map_drop]
theorem dM{α β:Type}(f:α→β)(l:List α)(n:Nat):cut (l.map f) none (some (n:Int))=(l.take n).map f:=by rw[jP,List.map_take]
theorem q9{α β:Type}(f:α→β)(l:List α)(n:Nat):cut (l.map f) (some (n:Int)) none=(l.drop n).map f:=by rw[qL,List.map_drop]
theorem v7(c:Nat)(n:Nat):reps [c] n=List.replicate n c:=by
 unfold reps
 induction n with
 |zero=>rfl
 |succ n ih=>rw[List.replicate_succ,List.flatten_cons,ih,List.replicate_succ];rfl
theorem Y9{w:Nat}{l:List Nat}:Fits (List.replicate w 42) l↔okW w l:=by
 constructor
 ·rintro ⟨h1,h2⟩
  rw[List.length_replicate]at h1
  refine ⟨h1.symm,fun c hc=>?_⟩
  obtain ⟨i,hi,rfl⟩:=List.getElem_of_mem hc
  have:=h2 i 42 l[i] (by rw[List.getElem?_replicate];rw[if_pos (by omega)]) (by simp[hi])
  simpa [alt] using this
 ·rintro ⟨h1,h2⟩
  refine ⟨by rw[List.length_replicate,h1],fun i c s hc hs=>?_⟩
  rw[List.getElem?_replicate]at hc
  split at hc
  ·cases hc
   have:=h2 s (List.mem_of_getElem? hs)
   simpa [alt] using this
  ·cases hc
theorem Za{p:Addr}{G:DH}{k:D→DH→Prop}{E:EK}(hp:Pen G p)(hk:∀G',Pen G' p→Sb p G G'→k (.ref p) G'):qP.t [.ref p] G k E:=
 bK ⟨p,rfl,hp⟩ fun d G' hx=>by obtain ⟨p2,e1,e2,hp',sb⟩:=hx;cases e1;subst e2;exact hk G' hp' sb
end RF
namespace RF
open PySem L2
def eQ(a b:Nat):Option Nat:=if a=42 then some b else if b=42∨b=a then some a else none
def fW:List Nat→List Nat→Option (List Nat)
 |a::f,b::g=>match eQ a b with |some c=>(fW f g).map (c::·) |none=>none
 |_,_=>some []
theorem Zb{l:List Nat}{n c:Nat}(h:n < l.length):l.take n++[c]++l.drop (n+1)=l.set n c:=by
 rw[List.set_eq_take_append_cons_drop,if_pos h];simp
end RF
namespace RF
open PySem L2
theorem Jl{w n c:Nat}{b:List Nat}(h:okF w b)(hc:isF c):okF w (b.set n c):=⟨by rw[List.length_set];exact h.1,fun d hd=>by
 rcases List.mem_or_eq_of_mem_set hd with h' |h'
 ·exact h.2 d h'
 ·rw[h'];exact hc⟩
theorem Jm:isF 48:=.inl rfl
theorem Jo:isF 49:=.inr (.inl rfl)
end RF
namespace RF
open PySem L2
theorem Zc{f w:List Nat}{i a b:Nat}(h:(f.zip w)[i]?=some (a,b)):cA (f.drop i) (w.drop i)=(jg a b&&cA (f.drop (i+1)) (w.drop (i+1))):=by
 have hz:=List.getElem?_eq_some_iff.mp h
 obtain ⟨hl,he⟩:=hz
 rw[List.length_zip]at hl
 have h1:i < f.length:=by omega
 have h2:i < w.length:=by omega
 rw[List.getElem_zip]at he
 rw[List.drop_eq_getElem_cons h1,List.drop_eq_getElem_cons h2]
 simp only[Prod.mk.injEq]at he
 rw[he.1,he.2];rfl
theorem Zd{f w:List Nat}:cA (f.drop (f.zip w).length) (w.drop (f.zip w).length)=true:=by
 rw[List.length_zip]
 by_cases h:f.length≤w.length
 ·rw[Nat.min_eq_left h,List.drop_length];rfl
 ·rw[Nat.min_eq_right (by omega),List.drop_length];cases f.drop w.length <;> rfl
def km:List D→Option D
 |[.str f,.str w]=>some (.bl (cA f w))
 |_=>none
theorem Ze(Φ:aa)(ds:List D)(G:DH)(d:D)(h:km ds=some d):au Φ uY noE (env0 ds 2) G (ends fun d' G'=>G'=G∧d'=d):=by
 unfold km at h
 split at h
 ·rename_i f w
  cases h
  simp_all_arith[uY]
  refine seq fun M hM=>?_
  simp_arith![qX]
  refine ForG.inv (P:=fun i ρ G'=>(∃o2 o3,ρ=[some (.str f),some (.str w),o2,o3])∧G'=G∧cA f w=cA (f.drop i) (w.drop i)) ⟨⟨_,_,rfl⟩,rfl,by simp⟩ (fun _ _ _ _=>trivial) ?_ ?_
  ·rintro i d ρ G' hd ⟨⟨o2,o3,rfl⟩,rfl,hb⟩ kk hk
   rw[List.getElem?_map]at hd
   obtain ⟨⟨a,b⟩,hab,rfl⟩:=Option.map_eq_some_iff.mp hd
   rw[Zc hab]at hb
   unfold jg at hb
   simp_arith![ends]
   refine last ?_
   simp_arith[qY]
   cases h42:(a==42) with
   |true=>
    simp_arith[ends]
    exact hk _ _ ⟨⟨_,_,rfl⟩,rfl,by rw[hb,h42];rfl⟩
   |false=>
    simp_arith[qY]
    cases hs:(a==b) with
    |true=>
     simp_arith[ends]
     exact hk _ _ ⟨⟨_,_,rfl⟩,rfl,by rw[hb,hs];simp⟩
    |false=>
     simp_arith[ends]
     rw[hb,h42,hs];simp
  ·rintro ρ G' ⟨⟨o2,o3,rfl⟩,rfl,hb⟩
   rw[List.length_map,Zd]at hb
   refine hM _ _ ?_
   simp_arith[hb]
 ·cases h
theorem Zf{f l:List Nat}(h:f.length=l.length):fV f l=cA f l:=by unfold fV;rw[decide_eq_true h];rfl
def rm:RF.Spec:=gF (A:=Nat×List Row×List Nat) (fun a=>[ao a.1 a.2.1,.str a.2.2]) (fun a=>∀r∈a.2.1,r.1.length=a.2.2.length) (fun a=>bL (aV a.2.1 a.2.2))
theorem Zg{w:Nat}{rs:List Row}{l:List Nat}{G:DH}{k:D→DH→Prop}{E:EK}(h:∀r∈rs,r.1.length=l.length)(hk:k (bL (aV rs l)) G):rm.t [ao w rs,.str l] G k E:=iW (w,rs,l) rfl h hk
theorem Zh (Φ:aa) (h1:Φ "_law_fits"=aO km) (a:Nat×List Row×List Nat) (G:DH) (h:∀r∈a.2.1,r.1.length=a.2.2.length):
  au Φ uZ noE (env0 [ao a.1 a.2.1,.str a.2.2] 2) G (ends fun d G'=>G'=G∧d=bL (aV a.2.1 a.2.2)):=by
 obtain ⟨w,rs,l⟩:=a
 dsimp only at h ⊢
 simp_all_arith[uZ]
 refine seq fun M hM=>?_
 simp_arith![ao]
 refine ForG.inv (P:=fun i ρ G'=>(∃o2 o3,ρ=[some (.tup [.int w,.tup (rs.map aA)]),some (.str l),o2,o3])∧G'=G∧aV rs l=(aV (rs.drop i) l).map (·+i)) ⟨⟨_,_,rfl⟩,rfl,by simp⟩ (fun _ _ _ _=>trivial) ?_ ?_
 ·rintro i d ρ G' hd ⟨⟨o2,o3,rfl⟩,rfl,hmet⟩ kk hk
  rw[jM]at hd
  obtain ⟨d',hd',rfl⟩:=Option.map_eq_some_iff.mp hd
  rw[List.getElem?_map]at hd'
  obtain ⟨r,hr,rfl⟩:=Option.map_eq_some_iff.mp hd'
  rw[Jh hr,Zf (h r (List.mem_of_getElem? hr))]at hmet
  simp_arith![ends]
  refine last ?_
  simp_arith[h1,aA]
  refine cM (d:=.bl (cA r.1 l)) rfl ?_
  simp_arith[ends]
  cases hf:cA r.1 l with
  |true=>
   rw[hf,if_pos rfl]at hmet
   rw[hmet];simp[bL]
  |false=>
   rw[hf,if_neg Bool.false_ne_true]at hmet
   refine hk _ _ ⟨⟨_,_,rfl⟩,rfl,?_⟩
   rw[hmet,Option.map_map]
   congr 1
   funext n
   simp;omega
 ·rintro ρ G' ⟨⟨o2,o3,rfl⟩,rfl,hmet⟩
  rw[jL,List.length_map,List.drop_length]at hmet
  refine hM _ _ ?_
  simp_arith[ends]
  rw[hmet];rfl
end RF
namespace RF
open PySem L2
end RF
namespace RF
open PySem L2
end RF
namespace RF
open PySem L2
end RF
namespace RF
open PySem L2
end RF
namespace RF
open PySem L2
end RF
namespace RF
open PySem L2
end RF
namespace RF
open PySem L2
theorem Jp(rs:List Row):nrs (rs.map aA)=true:=by
 induction rs with
 |nil=>rfl
 |cons r rs ih=>rw[List.map_cons,nrs,ih];rfl
def okRs(w:Nat)(rs:List Row):Prop:=∀r∈rs,okF w r.1∧okD r.2
theorem okRs.ins{w n:Nat}{rs:List Row}{r:Row}(h:okRs w rs)(h1:okF w r.1)(h2:okD r.2):okRs w (rs.take n++r::rs.drop n):=by
 intro x hx
 rcases List.mem_append.mp hx with hx |hx
 ·exact h x (List.mem_of_mem_take hx)
 ·rcases List.mem_cons.mp hx with e |hx
  ·rw[e];exact ⟨h1,h2⟩
  ·exact h x (List.mem_of_mem_drop hx)
theorem v8{rs:List Row}{n:Nat}{r:Row}:(rs.take n++r::rs.drop n).length=rs.length+1:=by rw[List.length_append,List.length_cons,List.length_take,List.length_drop];omega
end RF
namespace RF
open PySem L2
def okP(a:List Nat×List Nat):Prop:=a.1.length=a.2.length∧a.1.length≤1000∧(∀x∈a.1,isF x)∧∀x∈a.2,isF x
def rn:RF.Spec:=gF (fun a:List Nat×List Nat=>[.str a.1,.str a.2]) okP (fun a=>.bl (fW a.1 a.2).isSome)
def clash:D→Option D
 |.tup [.str [a],.str [b]]=>if (eQ a b).isSome then none else some (.int 1)
 |_=>none
theorem Jq:∀(f g:List Nat),(((f.zip g).map fun p=>D.tup [.str [p.1],.str [p.2]]).filterMap clash).isEmpty=(fW f g).isSome
 |[],g=>by cases g <;> rfl
 |a::f,[]=>rfl
 |a::f,b::g=>by
  have ih:=Jq f g
  rw[List.zip_cons_cons,List.map_cons,fW]
  cases h:eQ a b with
  |none=>
   have:clash (D.tup [.str [a],.str [b]])=some (.int 1):=by show (if (eQ a b).isSome=true then none else some (D.int 1))=_;rw[h];rfl
   rw[List.filterMap_cons,this];rfl
  |some c=>
   have:clash (D.tup [.str [a],.str [b]])=none:=by show (if (eQ a b).isSome=true then none else some (D.int 1))=_;rw[h];rfl
   rw[List.filterMap_cons,this]
   show (List.filterMap clash _).isEmpty=_
   rw[ih]
   cases fW f g <;> rfl
theorem Zi(Φ:aa)(a:List Nat×List Nat)(G:DH)(h:okP a):au Φ vH noE (env0 [.str a.1,.str a.2] 0) G (ends fun d G'=>G'=G∧d=.bl (fW a.1 a.2).isSome):=by
 obtain ⟨f,g⟩:=a
 obtain ⟨hl,hz,hf,hg⟩:=h
 dsimp only at hl hz hf hg ⊢
 simp_arith[vH,qX]
 refine CompG.pure (f:=clash) (I:=fun ρ=>∃o1 o2,ρ=[o1,o2]) ⟨_,_,rfl⟩ trivial (by rw[List.length_map,List.length_zip];have hsz:sz=1000000:=rfl;omega) ?_ ?_
 ·rintro d ρ hd ⟨o1,o2,rfl⟩ kk hk
  obtain ⟨⟨x,y⟩,hxy,rfl⟩:=List.mem_map.mp hd
  have hx:=hf x (List.of_mem_zip hxy).1
  have hy:=hg y (List.of_mem_zip hxy).2
  have hin:isIn (.str [x,y]) [.str [48,49],.str [49,48]]=!(eQ x y).isSome:=by
   rcases hx with rfl |rfl |rfl <;> rcases hy with rfl |rfl |rfl <;> simp[isIn,uV,eQ]
  have go:=fun ρ' hr=>hk ρ' hr
  have ec:clash (D.tup [.str [x],.str [y]])=if (eQ x y).isSome then none else some (.int 1):=rfl
  simp_arith[hin]
  refine ⟨by decide,by decide,⟨by decide,by decide⟩,?_⟩
  cases hb:(eQ x y).isSome with
  |true=>simp_arith[ends];have:=hk [some (.str [x]),some (.str [y])] ⟨_,_,rfl⟩;rw[ec,hb]at this;exact this
  |false=>simp_arith[ends];have:=hk [some (.str [x]),some (.str [y])] ⟨_,_,rfl⟩;rw[ec,hb]at this;exact this
 ·simp_arith[Cd,Jq]
  refine ⟨iU fun d hd=>?_,Nat.le_trans (Nat.min_le_right _ _) (by decide)⟩
  obtain ⟨e,_,he⟩:=List.mem_filterMap.mp hd
  unfold clash at he
  split at he
  ·split at he
   ·cases he
   ·cases he;rfl
  ·cases he
theorem Zj{f g:List Nat}{G:DH}{k:D→DH→Prop}{E:EK}(h:okP (f,g))(hk:k (.bl (fW f g).isSome) G):rn.t [.str f,.str g] G k E:=iW (f,g) rfl h hk
end RF
namespace RF
open PySem L2
def Jr(a:Addr×Nat×List Row)(ds:List D)(G:DH):Prop:=ds=[.ref a.1,.lst (a.2.2.map aA)]∧Pen G a.1∧a.2.1≤6∧okRs a.2.1 a.2.2∧0 < a.2.2.length∧a.2.2.length≤12
def v9(a:Addr×Nat×List Row)(G:DH)(d:D)(G':DH):Prop:=∃rs':List Row,d=.lst (rs'.map aA)∧okRs a.2.1 rs'∧a.2.2.length≤rs'.length∧rs'.length≤a.2.2.length+1∧Pen G' a.1∧Sb a.1 G G'
def rz:RF.Spec:=ghS Jr v9
theorem Zk{p:Addr}{w:Nat}{rs:List Row}{G:DH}{k:D→DH→Prop}{E:EK}(hp:Pen G p)(hw:w≤6)(h1:okRs w rs)(h2:0 < rs.length)(h3:rs.length≤12)(hk:∀(rs':List Row)(G':DH),okRs w rs'→rs.length≤rs'.length→rs'.length≤rs.length+1→Pen G' p→Sb p G G'→k (.lst (rs'.map aA)) G'):rz.t [.ref p,.lst (rs.map aA)] G k E:=
 fK (p,w,rs) ⟨rfl,hp,hw,h1,h2,h3⟩ fun d G' ⟨rs',e,h1,h2,h3,h4,h5⟩=>by subst e;exact hk rs' G' h1 h2 h3 h4 h5
def dN(b:List Nat):List Nat:=(List.range b.length).filter fun n=>b[n]?==some 42
def iN'(n:Nat):D:=.int (n:Int)
theorem kE{α:Type}(l:List α)(n:Nat):cut l (some ((n:Int)+1)) none=l.drop (n+1):=qL l (n+1)
theorem Js{α:Type}(l:List α)(n:Nat):cut l (some ((n:Int)+2)) none=l.drop (n+2):=qL l (n+2)
theorem okRs.cat{w:Nat}{as bs:List Row}(h:okRs w as)(h':okRs w bs):okRs w (as++bs):=fun r hr=>by
 rcases List.mem_append.mp hr with e |e
 ·exact h r e
 ·exact h' r e
theorem okRs.take{w:Nat}{as:List Row}(n:Nat)(h:okRs w as):okRs w (as.take n):=fun r hr=>h r (List.mem_of_mem_take hr)
theorem okRs.drop{w:Nat}{as:List Row}(n:Nat)(h:okRs w as):okRs w (as.drop n):=fun r hr=>h r (List.mem_of_mem_drop hr)
theorem Jt{w n:Nat}{rs:List Row}{m dd:List Nat}(hr:okRs w rs)(hm:okF w m)(hd:okD dd)(h:rs.length≤12):(rs.take n).length+(0+1)≤sz∧((rs.take n).map aA++[D.tup [.str m,.str dd]]).length+(rs.drop n).length≤sz∧∃rs':List Row,D.lst ((rs.take n).map aA++[D.tup [.str m,.str dd]]++(rs.drop n).map aA)=.lst (rs'.map aA)∧okRs w rs'∧rs.length≤rs'.length∧rs'.length≤rs.length+1:=by
 refine ⟨by rw[List.length_take];have hsz:sz=1000000:=rfl;omega,by rw[List.length_append,List.length_map,List.length_take,List.length_drop,List.length_singleton];have hsz:sz=1000000:=rfl;omega,rs.take n++(m,dd)::rs.drop n,?_,hr.ins hm hd,by rw[v8];omega,by rw[v8];omega⟩
 rw[List.map_append,List.map_cons,List.append_assoc];rfl
theorem Zm (Φ:aa) (h1:Φ "_law_take"=b8) (h2:Φ "_law_within"=fQ) (h3:Φ "_law_meet"=rn) (a:Addr×Nat×List Row) (ds:List D) (G:DH) (h:Jr a ds G):au Φ vI noE (env0 ds 7) G (ends (v9 a G)):=by
 obtain ⟨p,w,rs⟩:=a
 obtain ⟨rfl,hp,hw,hr,h0,h12⟩:=h
 dsimp only at hp hw hr h0 h12 ⊢
 simp_all_arith[vI]
 refine seq fun M hM=>?_
 simp_arith[h1,List.length_map]
 refine aP hp (by omega) (by omega) fun at' G1 hat hp1 sb1=>hM _ _ (seq fun M hM=>?_)
 have hat:at' < rs.length:=by omega
 have hc:rs[at']?=some rs[at']:=List.getElem?_eq_getElem hat
 generalize rs[at']=r at hc
 have hok:=hr r (List.mem_of_getElem? hc)
 have hbl:=hok.1.1
 have hatI:atI (rs.map aA) (at':Int)=some (aA r):=bV (by rw[List.getElem?_map,hc];rfl)
 simp_arith[ends]
 refine bD hatI ?_
 simp_arith[aA]
 refine hM _ _ (seq fun M hM=>?_)
 simp_arith[ends]
 refine ⟨by omega,CompG.inv (P:=fun i acc ρ G'=>(∃o,ρ=[o,some (.str r.1)])∧G'=G1∧acc=((List.range i).filter fun n=>r.1[n]?==some 42).map iN') ⟨⟨_,rfl⟩,rfl,rfl⟩ (fun _ _ _ _ _=>trivial) (by simp[bC];have hsz:sz=1000000:=rfl;omega) ?_ ?_⟩
 ·rintro i d acc ρ G' hd ⟨⟨o,rfl⟩,rfl,rfl⟩ kk hk
  have hi:i < r.1.length:=by
   have:=(List.getElem?_eq_some_iff.mp hd).1
   simpa [bC] using this
  have hdi:d=.int (i:Int):=by
   unfold bC at hd
   rw[List.getElem?_map,List.getElem?_range (by simpa using hi)]at hd
   simpa using hd.symm
  subst hdi
  have hc:r.1[i]?=some r.1[i]:=List.getElem?_eq_getElem hi
  simp_arith[ends]
  refine bD (a:=r.1[i]) (bV hc) ?_
  simp_arith[qY]
  cases h42:(r.1[i]==42) with
  |true=>exact hk _ _ _ ⟨⟨_,rfl⟩,rfl,by rw[List.range_succ,List.filter_append,List.filter_cons,hc];simp[iN',h42]⟩
  |false=>exact hk _ _ _ ⟨⟨_,rfl⟩,rfl,by rw[List.range_succ,List.filter_append,List.filter_cons,hc];simp[iN',h42]⟩
 ·rintro acc ρ G2 ⟨_,rfl,rfl⟩
  have el:((List.range (bC 0 (r.1.length:Int).toNat).length).filter fun n=>r.1[n]?==some 42).map iN'=(dN r.1).map iN':=by unfold dN;simp[bC]
  rw[el]
  have hsl:(dN r.1).length≤r.1.length:=Nat.le_trans (List.length_filter_le _ _) (by simp)
  refine hM _ _ (seq fun M hM=>?_)
  simp_arith[h1]
  refine aP hp1 (by decide) (by decide) fun kd G3 hkd hp3 sb3=>hM _ _ (seq fun M hM=>?_)
  have sb30:=sb1.trans sb3
  have more:kd≠0∨dN r.1=[]→∀G4,Pen G4 p→Sb p G G4→M [some (.ref p),some (.lst (rs.map aA)),some (.int at'),some (.str r.1),some (.str r.2),some (.lst ((dN r.1).map iN')),some (.int kd),none,none] G4:=by
   intro _ G4 hp4 sb4
   refine hM _ _ (seq fun M hM=>?_)
   cases hk1:((kd:Int)==1) with
   |true=>
    simp_arith![hk1]
    refine seq fun M hM=>?_
    simp_arith[h1,List.length_map]
    refine aP hp4 (by omega) (by omega) fun q G5 hq hp5 sb5=>?_
    have epl:(at':Int)+1+(q:Int)=((at'+1+q:Nat):Int):=by omega
    simp_arith[epl]
    refine hM _ _ (last ?_)
    simp_arith[h1,h2,dM,q9,List.length_map]
    refine qT hp5 hok.1.2 (by omega) fun m G6 hm hp6 sb6=>?_
    rw[hbl]at hm
    refine aP hp6 (by omega) (by omega) fun q2 G7 hq2 hp7 sb7=>?_
    simp_arith[ends]
    refine dH (by omega) (by simp;omega) fun y hy=>?_
    obtain ⟨r2,hr2,rfl⟩:=List.mem_map.mp hy
    simp_arith[aA]
    obtain ⟨i1,i2,rs',i3,i4,i5,i6⟩:=Jt (n:=at'+1+q) hr hm (hr r2 hr2).2 h12
    exact ⟨by decide,by decide,i1,i2,rs',i3,i4,i5,i6,hp7,((sb4.trans sb5).trans sb6).trans sb7⟩
   |false=>
    simp_arith[hk1]
    refine hM _ _ (seq fun M hM=>?_)
    cases hk2:((kd:Int)==2) with
    |true=>
     simp_arith[hk2,h2,dM,q9,List.length_map]
     refine qT hp4 hok.1.2 (by omega) fun m G6 hm hp6 sb6=>?_
     rw[hbl]at hm
     obtain ⟨i1,i2,rs',i3,i4,i5,i6⟩:=Jt (n:=at') hr hm hok.2 h12
     exact ⟨by decide,by decide,i1,i2,rs',i3,i4,i5,i6,hp6,sb4.trans sb6⟩
    |false=>
     simp_arith[hk2]
     refine hM _ _ (seq fun M hM=>?_)
     have stay:∀G5,Pen G5 p→Sb p G G5→M [some (.ref p),some (.lst (rs.map aA)),some (.int at'),some (.str r.1),some (.str r.2),some (.lst ((dN r.1).map iN')),some (.int kd),none,none] G5:=by
      intro G5 hp5 sb5
      refine hM _ _ (last ?_)
      simp_arith[ends]
      exact ⟨rs,rfl,hr,Nat.le_refl _,Nat.le_succ _,hp5,sb5⟩
     by_cases hlt:at'+1 < rs.length
     ·have hl1:decide ((at':Int)+1 < (rs.length:Int))=true:=decide_eq_true (by omega)
      have hc2:rs[at'+1]?=some rs[at'+1]:=List.getElem?_eq_getElem hlt
      generalize rs[at'+1]=r2 at hc2
      have hok2:=hr r2 (List.mem_of_getElem? hc2)
      have hatJ:atI (rs.map aA) ((at':Int)+1)=some (aA r2):=bV (j:=at'+1) (by rw[List.getElem?_map,hc2];rfl)
      simp_arith[List.length_map,hl1]
      refine bD hatJ ?_
      have swap:∀G5,Pen G5 p→Sb p G G5→aZ (atI (rs.map aA) ((at':Int)+1)) fun d=>aZ (atI (rs.map aA) (at':Int)) fun d1=>0+1+1≤sz∧(cut (rs.map aA) none (some (at':Int))).length+(0+1+1)≤sz∧(cut (rs.map aA) none (some (at':Int))++[d,d1]).length+(cut (rs.map aA) (some ((at':Int)+2)) none).length≤sz∧v9 (p,w,rs) G (D.lst (cut (rs.map aA) none (some (at':Int))++[d,d1]++cut (rs.map aA) (some ((at':Int)+2)) none)) G5:=by
       intro G5 hp5 sb5
       refine bD hatJ (bD hatI ?_)
       rw[dM,Js,←List.map_drop]
       refine ⟨by decide,by rw[List.length_map,List.length_take];have hsz:sz=1000000:=rfl;omega,by rw[List.length_append,List.length_map,List.length_map,List.length_take,List.length_drop];simp only[List.length_cons,List.length_nil];have hsz:sz=1000000:=rfl;omega,rs.take at'++[r2,r]++rs.drop (at'+2),?_,?_,?_,?_,hp5,sb5⟩
       ·rw[List.map_append,List.map_append];rfl
       ·refine ((hr.take at').cat ?_).cat (hr.drop _)
        intro x hx
        simp only[List.mem_cons,List.not_mem_nil,or_false]at hx
        rcases hx with e |e <;> subst e
        ·exact hok2
        ·exact hok
       ·rw[List.length_append,List.length_append,List.length_take,List.length_drop];simp only[List.length_cons,List.length_nil];omega
       ·rw[List.length_append,List.length_append,List.length_take,List.length_drop];simp only[List.length_cons,List.length_nil];omega
      simp_arith[aA]
      cases hdd:(r2.2==r.2) with
      |true=>exact swap G4 hp4 sb4
      |false=>
       simp_arith[h3]
       refine bD hatJ ?_
       simp_arith[aA]
       refine Zj ⟨by rw[hbl,hok2.1.1],show r.1.length≤1000 by omega,hok.1.2,hok2.1.2⟩ ?_
       cases (fW r.1 r2.1).isSome with
       |true=>
        simp_arith[ends]
        exact stay _ hp4 sb4
       |false=>
        simp_arith[ends]
        exact swap G4 hp4 sb4
     ·have hl1:decide ((at':Int)+1 < (rs.length:Int))=false:=decide_eq_false (by omega)
      simp_arith[List.length_map,hl1]
      exact stay _ hp4 sb4
  cases hk0:((kd:Int)==0) with
  |false=>
   simp_arith[hk0]
   exact more (.inl (by have:=beq_eq_false_iff_ne.mp hk0;omega)) _ hp3 sb30
  |true=>
   cases hst:dN r.1 with
   |nil=>
    rw[hst]at more
    simp_arith[List.map_nil,hk0]
    exact ⟨by decide,more (.inr rfl) _ hp3 sb30⟩
   |cons y ys=>
    have hne:dN r.1≠[]:=by rw[hst];simp
    have hpos:0 < (dN r.1).length:=List.length_pos_iff.mpr hne
    have hnr:nrs ((y::ys).map iN')=true:=iU fun d hd=>by obtain ⟨_,_,rfl⟩:=List.mem_map.mp hd;rfl
    rw[List.map_cons]at hnr
    simp_arith![List.map_cons,hk0]
    refine ⟨⟨by simpa [nrs] using hnr,Nat.le_trans (Nat.min_le_right _ _) (by decide)⟩,?_⟩
    rw[←List.map_cons (f:=iN'),←hst]
    refine seq fun M hM=>?_
    simp_arith[h1,List.length_map]
    refine aP hp3 (by omega) (by omega) fun q G4 hq hp4 sb4=>?_
    simp_arith[ends]
    refine dH (by omega) (by simp;omega) fun y hy=>?_
    obtain ⟨pl,hpl,rfl⟩:=List.mem_map.mp hy
    have hpl42:r.1[pl]?=some 42:=by
     unfold dN at hpl
     simpa using (List.mem_filter.mp hpl).2
    have hpll:=(List.getElem?_eq_some_iff.mp hpl42).1
    refine hM _ _ (seq fun M hM=>?_)
    simp_arith[h1,iN']
    refine ⟨by decide,aP hp4 (by decide) (by decide) fun q5 G5 hq5 hp5 sb5=>?_⟩
    simp_arith[ends]
    refine dH (by omega) (by simp;omega) fun y hy=>?_
    obtain ⟨c1,c2,f1,f2,rfl⟩:∃c1 c2:Nat,isF c1∧isF c2∧y=.str [c1,c2]:=by
     simp only[List.mem_cons,List.not_mem_nil,or_false]at hy
     rcases hy with e |e
     ·exact ⟨48,49,Jm,Jo,e⟩
     ·exact ⟨49,48,Jo,Jm,e⟩
    simp_arith[ends]
    refine CompG.inv (P:=fun i acc ρ G'=>(∃o,ρ=[o,some (.str r.2),some (.str r.1),some (.int pl)])∧G'=G5∧acc=(([c1,c2].take i).map fun c=>((r.1.set pl c,r.2):Row)).map aA) ⟨⟨_,rfl⟩,rfl,rfl⟩ (fun _ _ _ _ _=>trivial) (show 2≤sz by decide) ?_ ?_
    ·rintro i d acc ρ G' hd ⟨⟨o,rfl⟩,rfl,rfl⟩ kk hk
     replace hd:([c1,c2].map fun c=>D.str [c])[i]?=some d:=hd
     rw[List.getElem?_map]at hd
     obtain ⟨c,hcc,rfl⟩:=Option.map_eq_some_iff.mp hd
     have htk:[c1,c2].take (i+1)=[c1,c2].take i++[c]:=by rw[List.take_add_one,hcc];rfl
     simp_arith[jP,kE]
     refine ⟨by rw[List.length_take];have hsz:sz=1000000:=rfl;omega,by rw[List.length_append,List.length_take,List.length_drop,List.length_singleton];have hsz:sz=1000000:=rfl;omega,by decide,?_⟩
     rw[Zb hpll]
     exact hk _ _ _ ⟨⟨_,rfl⟩,rfl,by rw[htk,List.map_append,List.map_append];rfl⟩
    ·rintro acc ρ G' ⟨_,rfl,rfl⟩
     have e2:((([c1,c2].take [D.str [c1],D.str [c2]].length).map fun c=>((r.1.set pl c,r.2):Row)).map aA)=([(r.1.set pl c1,r.2),(r.1.set pl c2,r.2)]:List Row).map aA:=rfl
     rw[e2]
     refine hM _ _ (last ?_)
     simp_arith[dM,kE,←List.map_drop,List.length_map]
     refine ⟨by simp only[List.length_take,List.length_append,List.length_map,List.length_drop,List.length_cons,List.length_nil];have hsz:sz=1000000:=rfl;omega,by simp only[List.length_take,List.length_append,List.length_map,List.length_drop,List.length_cons,List.length_nil];have hsz:sz=1000000:=rfl;omega,rs.take at'++[(r.1.set pl c1,r.2),(r.1.set pl c2,r.2)]++rs.drop (at'+1),?_,?_,?_,?_,hp5,(sb30.trans sb4).trans sb5⟩
     ·rw[List.map_append,List.map_append];rfl
     ·refine ((hr.take at').cat ?_).cat (hr.drop _)
      intro x hx
      simp only[List.mem_cons,List.not_mem_nil,or_false]at hx
      rcases hx with e |e <;> subst e
      ·exact ⟨Jl hok.1 f1,hok.2⟩
      ·exact ⟨Jl hok.1 f2,hok.2⟩
     ·rw[List.length_append,List.length_append,List.length_take,List.length_drop];simp only[List.length_cons,List.length_nil];omega
     ·rw[List.length_append,List.length_append,List.length_take,List.length_drop];simp only[List.length_cons,List.length_nil];omega
def pTA(a:Addr×Nat×List Row×Nat)(ds:List D)(G:DH):Prop:=ds=[.ref a.1,ao a.2.1 a.2.2.1,.int (a.2.2.2:Nat)]∧Pen G a.1∧okB a.2.1 a.2.2.1∧a.2.2.2≤100
def qTA(a:Addr×Nat×List Row×Nat)(G:DH)(d:D)(G':DH):Prop:=∃rs',d=ao a.2.1 rs'∧okB a.2.1 rs'∧Pen G' a.1∧Sb a.1 G G'
def sTA:RF.Spec:=ghS pTA qTA
theorem Ju{p:Addr}{w m:Nat}{rs:List Row}{G:DH}{k:D→DH→Prop}{E:EK}(hp:Pen G p)(h1:okB w rs)(h2:m≤100)(hk:∀(rs':List Row)(G':DH),okB w rs'→Pen G' p→Sb p G G'→k (ao w rs') G'):sTA.t [.ref p,ao w rs,.int (m:Nat)] G k E:=
 fK (p,w,rs,m) ⟨rfl,hp,h1,h2⟩ fun d G' ⟨rs',e,h1,h2,h3⟩=>by subst e;exact hk rs' G' h1 h2 h3
theorem Zn (Φ:aa) (h1:Φ "_law_one_turning"=rz) (a:Addr×Nat×List Row×Nat) (ds:List D) (G:DH) (h:pTA a ds G):au Φ vJ noE (env0 ds 2) G (ends (qTA a G)):=by
 obtain ⟨p,w,rs,m⟩:=a
 obtain ⟨rfl,hp,hb,hm⟩:=h
 dsimp only at hp hb hm ⊢
 have hw6:=hb.w6
 have hlen:=hb.len
 have hr:okRs w rs:=fun r hr=>⟨hb.form r hr,hb.deed r hr⟩
 simp_all_arith[vJ]
 refine seq fun M hM=>?_
 simp_arith[ao]
 refine hM _ _ (seq fun M hM=>?_)
 have hdq:deq (.lst (rs.map aA)) (.lst [])=rs.isEmpty:=by
  cases rs with
  |nil=>rfl
  |cons r rs=>rfl
 simp_arith![hdq]
 refine ⟨⟨Jp rs,Nat.le_trans (Nat.min_le_right _ _) (by decide)⟩,fP (by split <;> decide),⟨by split <;> omega,by split <;> omega⟩,?_⟩
 refine ForG.inv (P:=fun i ρ G'=>∃(rs':List Row)(o4:Option D),ρ=[some (.ref p),some (.tup [.int w,.tup (rs.map aA)]),some (.int (m:Nat)),some (.lst (rs'.map aA)),o4]∧okRs w rs'∧rs.length≤rs'.length∧rs'.length≤12∧Pen G' p∧Sb p G G') ⟨rs,none,rfl,hr,Nat.le_refl _,hlen,hp,Sb.refl _ _⟩ (fun _ _ _ _=>trivial) ?_ ?_
 ·rintro i d ρ G' hd ⟨rs',o4,rfl,ok',hle,h12,hp',sb'⟩ kk hk
  have hne:0 < rs.length:=by
   cases rs with
   |nil=>simp[bC]at hd
   |cons _ _=>simp
  simp_arith![ends]
  refine last ?_
  by_cases hlt:rs'.length < 12
  ·have hl:decide ((rs'.length:Int) < 12)=true:=decide_eq_true (by omega)
   simp_arith[List.length_map,hl,h1]
   refine Zk hp' hw6 ok' (by omega) h12 fun rs2 G2 ok2 l1 l2 hp2 sb2=>hk _ _ ⟨rs2,_,rfl,ok2,by omega,by omega,hp2,sb'.trans sb2⟩
  ·have hl:decide ((rs'.length:Int) < 12)=false:=decide_eq_false (by omega)
   simp_arith[List.length_map,hl]
   exact hk _ _ ⟨rs',_,rfl,ok',hle,h12,hp',sb'⟩
 ·rintro ρ G' ⟨rs',o4,rfl,ok',hle,h12,hp',sb'⟩
  refine hM _ _ (last ?_)
  simp_arith[ends]
  exact ⟨by decide,rs',rfl,⟨hb.w1,hb.w6,h12,fun r hr=>(ok' r hr).1,fun r hr=>(ok' r hr).2⟩,hp',sb'⟩
end RF
namespace RF
open PySem L2
theorem okB.of{w:Nat}{rs rs':List Row}(hb:okB w rs)(h:okRs w rs')(hl:rs'.length≤12):okB w rs':=⟨hb.w1,hb.w6,hl,fun r hr=>(h r hr).1,fun r hr=>(h r hr).2⟩
def pBB(a:Addr×Nat×List Row)(ds:List D)(G:DH):Prop:=ds=[.ref a.1,ao a.2.1 a.2.2]∧Pen G a.1∧okB a.2.1 a.2.2
def qBB(a:Addr×Nat×List Row)(G:DH)(d:D)(G':DH):Prop:=∃rs',d=ao a.2.1 rs'∧okB a.2.1 rs'∧Pen G' a.1∧Sb a.1 G G'
def sBB:RF.Spec:=ghS pBB qBB
theorem Zo{p:Addr}{w:Nat}{rs:List Row}{G:DH}{k:D→DH→Prop}{E:EK}(hp:Pen G p)(h1:okB w rs)(hk:∀(rs':List Row)(G':DH),okB w rs'→Pen G' p→Sb p G G'→k (ao w rs') G'):sBB.t [.ref p,ao w rs] G k E:=
 fK (p,w,rs) ⟨rfl,hp,h1⟩ fun d G' hx=>by
  obtain ⟨rs',e,h1,h2,h3⟩:=hx
  subst e
  exact hk rs' G' h1 h2 h3
def Jv:D→D
 |.tup (x::_)=>x
 |d=>d
theorem Zq{α:Type}{l:List α}{n:Nat}:(cut l (some (n:Int)) (some ((n:Int)+2))).length≤min (n+2) l.length - min n l.length:=by
 show (cut l (some (n:Int)) (some ((n+2:Nat):Int))).length≤_
 unfold cut
 rw[HT.m6,HT.m6]
 exact List.length_take_le _ _
theorem Zr{α:Type}{l:List α}{lo hi:Option Int}{x:α}(h:x∈cut l lo hi):x∈l:=List.mem_of_mem_drop (List.mem_of_mem_take h)
theorem wg{rs:List Row}{q:Nat}(h:rs.length≤12):(rs.take q).length+(0+1)≤sz:=Nat.le_trans (Nat.add_le_add_right (Nat.le_trans (List.length_take_le' q rs) h) _) (by decide)
theorem Zt{rs:List Row}{q:Nat}(h:rs.length≤12):(rs.drop q).length≤12:=Nat.le_trans (by rw[List.length_drop];exact Nat.sub_le _ _) h
theorem wj{rs:List Row}{x:D}{q r:Nat}(h:rs.length≤12):((rs.take q).map aA++[x]).length+(rs.drop r).length≤sz:=by
 rw[List.length_append,List.length_map]
 exact Nat.le_trans (Nat.add_le_add (Nat.add_le_add_right (Nat.le_trans (List.length_take_le' q rs) h) _) (Zt h)) (show 12+1+12≤sz by decide)
theorem Jw{rs:List Row}{q:Nat}{r:Row}(h:rs.length < 12):(rs.take q++r::rs.drop q).length≤12:=by rw[v8];exact h
theorem Zu (Φ:aa) (h1:Φ "_law_take"=b8) (h2:Φ "_law_form_like"=j0) (h3:Φ "_law_deeds_of"=j4) (a:Addr×Nat×List Row) (ds:List D) (G:DH) (h:pBB a ds G):au Φ vD noE (env0 ds 6) G (ends (qBB a G)):=by
 obtain ⟨p,w,rs⟩:=a
 obtain ⟨rfl,hp,hb⟩:=h
 dsimp only at hp hb ⊢
 have hw6:=hb.w6
 have hw1:=hb.w1
 have hlen:=hb.len
 have hr:okRs w rs:=fun r h=>⟨hb.form r h,hb.deed r h⟩
 have fin:∀(rs':List Row)(G':DH),okRs w rs'→rs'.length≤12→Pen G' p→Sb p G G'→qBB (p,w,rs) G (.tup [.int w,.tup (rs'.map aA)]) G':=fun rs' G' h1 h2 h3 h4=>⟨rs',rfl,hb.of h1 h2,h3,h4⟩
 simp_all_arith[vD]
 refine seq fun M hM=>?_
 simp_arith[ao]
 refine hM _ _ (seq fun M hM=>?_)
 simp_arith[ends]
 refine hM _ _ (seq fun M hM=>?_)
 simp_arith[ends]
 refine CompG.map (f:=Jv) (I:=fun ρ=>∃o,ρ=[o]) ⟨_,rfl⟩ trivial (by rw[List.length_map];have hsz:sz=1000000:=rfl;omega) ?_ ?_
 ·rintro d ρ hd ⟨o,rfl⟩ kk hk
  obtain ⟨r,hr',rfl⟩:=List.mem_map.mp hd
  simp_arith[aA]
  exact hk _ ⟨_,rfl⟩
 have ef:(rs.map aA).map Jv=(rs.map (·.1)).map D.str:=by rw[List.map_map,List.map_map];rfl
 rw[ef]
 refine hM _ _ (seq fun M hM=>?_)
 simp_arith[h2]
 refine vV (fs:=rs.map (·.1)) hp hw1 (by omega) rfl (by rw[List.length_map];omega) (fun f hf=>by obtain ⟨r,hr',rfl⟩:=List.mem_map.mp hf;exact hb.form r hr') fun m G1 hm hp1 sb1=>?_
 simp_arith[h3]
 refine Iw hp1 (by decide) (by decide) fun xs G2 hx0 _ hxs hp2 sb2=>?_
 simp_arith[ends]
 refine dH (by decide) (by rw[List.length_map];omega) fun y hy=>?_
 obtain ⟨dd,hdd,rfl⟩:=List.mem_map.mp hy
 refine ⟨by decide,hM _ _ (seq fun M hM=>?_)⟩
 have hmd:okF w m∧okD dd:=⟨hm,hxs dd hdd⟩
 simp_arith[h1]
 refine aP hp2 (by decide) (by decide) fun kd G3 hkd hp3 sb3=>hM _ _ (seq fun M hM=>?_)
 have sb30:=(sb1.trans sb2).trans sb3
 have hdq:bJ (rs.map aA) []=rs.isEmpty:=by cases rs <;> rfl
 have hnr:nrs (rs.map aA)=true∧min (aX (rs.map aA)+1) (0+1)≤60:=⟨Jp rs,Nat.le_trans (Nat.min_le_right _ _) (by decide)⟩
 have eI:∀q,(rs.take q).map aA++[D.tup [.str m,.str dd]]++(rs.drop q).map aA=(rs.take q++(m,dd)::rs.drop q).map aA:=fun q=>by rw[List.map_append,List.map_cons,List.append_assoc];rfl
 have go:rs≠[]→M [some (.ref p),some (.tup [.int w,.tup (rs.map aA)]),some (.int w),some (.lst (rs.map aA)),some (.lst ((rs.map (·.1)).map D.str)),some (.tup [.str m,.str dd]),some (.int kd),none] G3:=by
  intro hne
  have hpos:0 < rs.length:=List.length_pos_iff.mpr hne
  refine hM _ _ (seq fun M hM=>?_)
  simp_arith[h1,List.length_map]
  refine aP hp3 (by omega) (by omega) fun q G4 hq hp4 sb4=>hM _ _ (seq fun M hM=>?_)
  have sb40:=sb30.trans sb4
  have hq':q < rs.length:=by omega
  cases hk1:((kd:Int)==1) with
  |true=>
   simp_arith[hk1,dM,kE,←List.map_drop,List.length_map,←List.map_append]
   exact ⟨by rw[List.length_take,List.length_drop];have hsz:sz=1000000:=rfl;omega,by decide,fin _ _ ((hr.take q).cat (hr.drop _)) (by rw[List.length_append,List.length_take,List.length_drop];omega) hp4 sb40⟩
  |false=>
   simp_arith[hk1]
   refine hM _ _ (seq fun M hM=>?_)
   cases hk2:((kd:Int)==2) with
   |true=>
    have hc2:=Zq (l:=rs) (n:=q)
    simp_arith[hk2,dM,Js,←List.map_drop,Y8,←List.map_reverse,List.length_map,←List.map_append]
    rw[jP]
    have l1:(rs.take q++(cut rs (some (q:Int)) (some ((q:Int)+2))).reverse).length≤rs.length:=by rw[List.length_append,List.length_take,List.length_reverse];omega
    refine ⟨by rw[List.length_reverse,List.length_take];have hsz:sz=1000000:=rfl;omega,by rw[List.length_drop];have hsz:sz=1000000:=rfl;omega,by decide,fin _ _ (((hr.take q).cat fun y hy=>hr y (Zr (List.mem_reverse.mp hy))).cat (hr.drop _)) ?_ hp4 sb40⟩
    rw[List.length_append,List.length_append,List.length_take,List.length_reverse,List.length_drop];omega
   |false=>
    simp_arith[hk2]
    refine hM _ _ (seq fun M hM=>?_)
    have hc:rs[q]?=some rs[q]:=List.getElem?_eq_getElem hq'
    have hok:=hr rs[q] (List.getElem_mem hq')
    generalize rs[q]=r at hc hok
    have hat:atI (rs.map aA) (q:Int)=some (aA r):=bV (by rw[List.getElem?_map,hc];rfl)
    have put:∀(x:Row)(G5:DH),okF w x.1∧okD x.2→Pen G5 p→Sb p G G5→qBB (p,w,rs) G (.tup [.int w,.tup ((rs.take q).map aA++[aA x]++(rs.drop (q+1)).map aA)]) G5:=by
     intro x G5 hx hp5 sb5
     have e:(rs.take q).map aA++[aA x]++(rs.drop (q+1)).map aA=(rs.take q++[x]++rs.drop (q+1)).map aA:=by rw[List.map_append,List.map_append];rfl
     rw[e]
     refine fin _ _ (((hr.take q).cat fun y hy=>?_).cat (hr.drop _)) (by rw[List.length_append,List.length_append,List.length_take,List.length_drop,List.length_singleton];omega) hp5 sb5
     rw[List.mem_singleton.mp hy];exact hx
    have sizes:∀x:D,(rs.take q).length+(0+1)≤sz∧((rs.take q).map aA++[x]).length+(rs.drop (q+1)).length≤sz:=fun x=>⟨wg hlen,wj hlen⟩
    have last2:∀(x:Row)(G5:DH),okF w x.1∧okD x.2→Pen G5 p→Sb p G G5→M [some (.ref p),some (.tup [.int w,.tup (rs.map aA)]),some (.int w),some (.lst (rs.map aA)),some (.lst ((rs.map (·.1)).map D.str)),some (aA x),some (.int kd),some (.int q)] G5:=by
     intro x G5 hx hp5 sb5
     obtain ⟨s1,s2⟩:=sizes (aA x)
     refine hM _ _ (seq fun M hM=>?_)
     cases hk4:((kd:Int)==4) with
     |false=>
      simp_arith[hk4]
      refine hM _ _ (last ?_)
      simp_arith[dM,kE,←List.map_drop,List.length_map]
      exact ⟨by decide,s1,s2,by decide,put x G5 hx hp5 sb5⟩
     |true=>
      simp_arith![hk4]
      refine last ?_
      simp_arith[h2]
      refine bD hat ?_
      simp_arith[aA]
      refine ⟨by decide,vV (fs:=[r.1]) hp5 hw1 (by omega) rfl (show 1≤1000 by decide) (fun f hf=>by rw[List.mem_singleton.mp hf];exact hok.1) fun m' G6 hm' hp6 sb6=>bD hat ?_⟩
      simp_arith[aA]
      refine ⟨by decide,hM _ _ (last ?_)⟩
      obtain ⟨s1,s2⟩:=sizes (aA (m',r.2))
      simp_arith[dM,kE,←List.map_drop,List.length_map]
      exact ⟨by decide,s1,s2,by decide,put (m',r.2) G6 ⟨hm',hok.2⟩ hp6 (sb5.trans sb6)⟩
    cases hk3:((kd:Int)==3) with
    |false=>
     simp_arith[hk3]
     exact last2 (m,dd) G4 hmd hp4 sb40
    |true=>
     simp_arith![hk3]
     refine last ?_
     simp_arith[h1]
     refine bD hat ?_
     simp_arith[aA,List.length_map]
     refine aP hp4 (by omega) (by omega) fun q2 G5 hq2 hp5 sb5=>?_
     simp_arith[ends]
     refine dH (by omega) (by rw[List.length_map];omega) fun y hy=>?_
     obtain ⟨r2,hr2,rfl⟩:=List.mem_map.mp hy
     simp_arith[aA]
     exact ⟨by decide,last2 (r.1,r2.2) G5 ⟨hok.1,(hr r2 hr2).2⟩ hp5 (sb40.trans sb5)⟩
 cases hE:rs.isEmpty with
 |true=>
  have hl0:rs.length=0:=by rw[List.isEmpty_iff.mp hE];rfl
  simp_arith![hdq,hE]
  refine ⟨hnr,seq fun M hM=>?_⟩
  simp_arith[h1,List.length_map]
  refine aP hp3 (by omega) (by omega) fun q G4 hq hp4 sb4=>hM _ _ (last ?_)
  simp_arith[dM,q9,List.length_map]
  rw[eI]
  exact ⟨by decide,wg hlen,wj hlen,by decide,fin _ _ (hr.ins hmd.1 hmd.2) (Jw (by omega)) hp4 (sb30.trans sb4)⟩
 |false=>
  have hne:rs≠[]:=fun e=>by rw[e]at hE;cases hE
  cases hk0:((kd:Int)==0) with
  |false=>
   simp_arith![hdq,hE,hk0]
   exact ⟨hnr,go hne⟩
  |true=>
   cases h12:decide ((rs.length:Int) < 12) with
   |false=>
    simp_arith![hdq,hE,hk0,List.length_map,h12]
    exact ⟨hnr,go hne⟩
   |true=>
    have h12':=of_decide_eq_true h12
    simp_arith![hdq,hE,hk0,List.length_map,h12]
    refine ⟨hnr,seq fun M hM=>?_⟩
    simp_arith[h1,List.length_map]
    refine aP hp3 (by omega) (by omega) fun q G4 hq hp4 sb4=>hM _ _ (last ?_)
    simp_arith[dM,q9,List.length_map]
    rw[eI]
    exact ⟨by decide,wg hlen,wj hlen,by decide,fin _ _ (hr.ins hmd.1 hmd.2) (Jw (by omega)) hp4 (sb30.trans sb4)⟩
end RF
namespace RF
open PySem L2
def pTB(a:Addr×Nat×Nat)(ds:List D)(G:DH):Prop:=ds=[.ref a.1,.int a.2.1,.int a.2.2]∧Pen G a.1∧1≤a.2.1∧a.2.1≤6∧a.2.2≤12
def qTB(a:Addr×Nat×Nat)(G:DH)(d:D)(G':DH):Prop:=∃w rs ss,d=.tup [ao w rs,ao w ss]∧okB w rs∧okB w ss∧Pen G' a.1∧Sb a.1 G G'
def sTB:RF.Spec:=ghS pTB qTB
theorem Zv{p:Addr}{w m:Nat}{G:DH}{k:D→DH→Prop}{E:EK}(hp:Pen G p)(h1:1≤w)(h2:w≤6)(h3:m≤12)(hk:∀(v:Nat)(rs ss:List Row)(G':DH),okB v rs→okB v ss→Pen G' p→Sb p G G'→k (.tup [ao v rs,ao v ss]) G'):sTB.t [.ref p,.int w,.int m] G k E:=
 fK (p,w,m) ⟨rfl,hp,h1,h2,h3⟩ fun d G' hx=>by
  obtain ⟨v,rs,ss,e,h1,h2,h3,h4⟩:=hx
  subst e
  exact hk v rs ss G' h1 h2 h3 h4
def wdN(w:Nat)(l:List Nat):List Nat:=(reps l 6).take w
def wdD(w:Nat):D→D
 |.tup [.str l,d]=>.tup [.str (wdN w l),d]
 |d=>d
theorem Zw{w v:Nat}{l:List Nat}(h:okF v l)(h1:1≤v)(h6:w≤6):okF w (wdN w l):=by
 unfold wdN
 refine ⟨?_,fun c hc=>?_⟩
 ·rw[List.length_take,d9,h.1];omega
 ·have:=List.mem_of_mem_take hc
  unfold reps at this
  obtain ⟨m,hm,hc'⟩:=List.mem_flatten.mp this
  rw[List.eq_of_mem_replicate hm]at hc'
  exact h.2 c hc'
theorem Zx (Φ:aa) (h1:Φ "_law_take"=b8) (h2:Φ "_law_book"=qU) (h3:Φ "_law_anew"=qP) (h4:Φ "_law_turned_alike"=sTA) (h5:Φ "_law_bent_book"=sBB) (a:Addr×Nat×Nat) (ds:List D) (G:DH) (h:pTB a ds G):au Φ vK noE (env0 ds 4) G (ends (qTB a G)):=by
 obtain ⟨p,wd,mo⟩:=a
 obtain ⟨rfl,hp,hw1,hw6,hmo⟩:=h
 dsimp only at hp hw1 hw6 hmo ⊢
 simp_all_arith[vK]
 refine seq fun M hM=>?_
 simp_arith[h2,h3]
 refine Za hp fun G1 hp1 sb1=>?_
 refine Iv hp1 hw1 hw6 hmo fun w rs G2 hb hw hrs hp2 sb2=>hM _ _ (seq fun M hM=>?_)
 simp_arith[h1]
 refine aP hp2 (by decide) (by decide) fun kd G3 hkd hp3 sb3=>hM _ _ (seq fun M hM=>?_)
 have sb30:=(sb1.trans sb2).trans sb3
 have fin:∀(ss:List Row)(o6:Option D)(G4:DH),okB w ss→Pen G4 p→Sb p G G4→M [some (.ref p),some (.int wd),some (.int mo),some (ao w rs),some (.int kd),some (ao w ss),o6] G4:=by
  intro ss o6 G4 hb' hp4 sb4
  refine hM _ _ (last ?_)
  simp_arith[h1]
  refine ⟨by decide,by decide,by decide,aP hp4 (by decide) (by decide) fun q G5 hq hp5 sb5=>?_⟩
  simp_arith[ends]
  have:q=0∨q=1:=by omega
  rcases this with rfl |rfl
  ·exact bD (a:=.tup [ao w rs,ao w ss]) rfl ⟨w,rs,ss,rfl,hb,hb',hp5,sb4.trans sb5⟩
  ·exact bD (a:=.tup [ao w ss,ao w rs]) rfl ⟨w,ss,rs,rfl,hb',hb,hp5,sb4.trans sb5⟩
 by_cases hk2:kd < 2
 ·have e2:decide ((kd:Int) < 2)=true:=decide_eq_true (by omega)
  simp_arith![e2]
  refine last ?_
  simp_arith[h1,h4]
  refine aP hp3 (by decide) (by decide) fun q G4 hq hp4 sb4=>?_
  have eq:(1:Int)+(q:Int)=((1+q:Nat):Int):=by omega
  simp_arith[eq]
  exact Ju hp4 hb (by omega) fun rs' G5 hb' hp5 sb5=>fin rs' _ G5 hb' hp5 ((sb30.trans sb4).trans sb5)
 ·have e2:decide ((kd:Int) < 2)=false:=decide_eq_false (by omega)
  simp_arith![e2]
  refine last ?_
  by_cases hk4:kd < 4
  ·have e4:decide ((kd:Int) < 4)=true:=decide_eq_true (by omega)
   simp_arith![e4]
   refine last ?_
   simp_arith[h1,h4,h5]
   refine aP hp3 (by decide) (by decide) fun q G4 hq hp4 sb4=>?_
   refine Ju hp4 hb (by omega) fun rs' G5 hb' hp5 sb5=>?_
   exact Zo hp5 hb' fun rs2 G6 hb2 hp6 sb6=>fin rs2 _ G6 hb2 hp6 (((sb30.trans sb4).trans sb5).trans sb6)
  ·have e4:decide ((kd:Int) < 4)=false:=decide_eq_false (by omega)
   simp_arith![e4]
   refine seq fun M hM=>?_
   simp_arith[h2]
   refine Iv hp3 hw1 hw6 hmo fun v ss G4 hbs hv hss hp4 sb4=>?_
   have ed:ao v ss=.tup [.int v,.tup (ss.map aA)]:=rfl
   simp_arith[ed]
   refine hM _ _ (last ?_)
   have edr:ao w rs=.tup [.int w,.tup (rs.map aA)]:=rfl
   simp_arith[edr]
   have hsl:=hbs.len
   refine CompG.map (f:=wdD w) (I:=fun ρ=>∃o,ρ=[o,some (.tup [.int w,.tup (rs.map aA)])]) ⟨_,rfl⟩ trivial (by rw[List.length_map];have hsz:sz=1000000:=rfl;omega) ?_ ?_
   ·rintro d ρ hd ⟨o,rfl⟩ kk hk
    obtain ⟨r,hr',rfl⟩:=List.mem_map.mp hd
    have hrl:=(hbs.form r hr').1
    have hv6:=hbs.w6
    simp_arith[aA,jP]
    exact ⟨by decide,by decide,by rw[show (6:Int).toNat=6 from rfl];have hsz:sz=1000000:=rfl;omega,by decide,hk _ ⟨_,rfl⟩⟩
   ·have em:(ss.map aA).map (wdD w)=(ss.map fun r=>(wdN w r.1,r.2)).map aA:=by rw[List.map_map,List.map_map];rfl
    rw[em]
    have hbk:okB w (ss.map fun r=>((wdN w r.1,r.2):Row)):=by
     refine ⟨hb.w1,hb.w6,by rw[List.length_map];exact hsl,fun r hr=>?_,fun r hr=>?_⟩
     ·obtain ⟨r0,hr0,rfl⟩:=List.mem_map.mp hr
      exact Zw (hbs.form r0 hr0) hbs.w1 hb.w6
     ·obtain ⟨r0,hr0,rfl⟩:=List.mem_map.mp hr
      exact hbs.deed r0 hr0
    exact ⟨by decide,fin _ _ G4 hbk hp4 (sb30.trans sb4)⟩
end RF
namespace RF
open PySem L2
def gM (ds:List D) (C:String):Prop:=(C="NoBook"∧∃x y,ds=[x,y]∧(cU x∨∃w rs,x=ao w rs∧okB w rs∧cU y))∨(C="NoMatch"∧∃w rs v ss,ds=[ao w rs,ao v ss]∧okB w rs∧okB v ss∧w≠v)
def Zy:RF.Spec:=bf (fun ds _=>∃w rs ss,ds=[ao w rs,ao w ss]∧okB w rs∧okB w ss) (fun _ G d G'=>G'=G∧d=.non)
def gO:RF.Spec:=orX Zy gM
theorem Jx{w:Nat}{rs ss:List Row}{G:DH}{k:D→DH→Prop}{E:EK}(h:okB w rs)(h':okB w ss)(hk:k .non G):gO.t [ao w rs,ao w ss] G k E:=j5 (bK ⟨w,rs,ss,rfl,h,h'⟩ fun d G' ⟨e1,e2⟩=>by subst e1 e2;exact hk)
theorem Zz (Φ:aa) (h1:Φ "need_book"=fU) (ds:List D) (G:DH) (h:∃w rs ss,ds=[ao w rs,ao w ss]∧okB w rs∧okB w ss):au Φ eO noE (env0 ds 0) G (ends fun d G'=>G'=G∧d=.non):=by
 obtain ⟨w,rs,ss,rfl,hb,hb'⟩:=h
 simp_all_arith[eO]
 refine seq fun M hM=>?_
 simp_arith[h1]
 refine gK hb (hM _ _ (seq fun M hM=>?_))
 simp_arith[h1]
 refine gK hb' (hM _ _ (last ?_))
 simp_arith[ao,BEq.rfl]
theorem ZC (Φ:aa) (h1:Φ "need_book"=fU) (ds:List D) (G:DH) (C:String) (h:gM ds C):au Φ eO (fun x G'=>x=⟨C,.non⟩∧G'=G) (env0 ds 0) G (ends fun _ _=>False):=by
 rcases h with ⟨rfl,x,y,rfl,hx |⟨w,rs,rfl,hb,hy⟩⟩ |⟨rfl,w,rs,v,ss,rfl,hb,hb',hne⟩
 ·simp_all_arith[eO]
  refine seq fun M hM=>?_
  simp_arith[h1]
  exact vZ hx ⟨rfl,rfl⟩
 ·simp_all_arith[eO]
  refine seq fun M hM=>?_
  simp_arith[h1]
  refine gK hb (hM _ _ (seq fun M hM=>?_))
  simp_arith[h1]
  exact vZ hy ⟨rfl,rfl⟩
 ·have:=hb.w6
  have:=hb'.w6
  simp_all_arith[eO]
  refine seq fun M hM=>?_
  simp_arith[h1]
  refine gK hb (hM _ _ (seq fun M hM=>?_))
  simp_arith[h1]
  refine gK hb' (hM _ _ (last ?_))
  have e:(((w:Int)==(v:Int)):Bool)=false:=beq_eq_false_iff_ne.mpr (by omega)
  simp_arith[ao,e]
  refine ⟨?_,?_⟩
  ·unfold iw
   rw[Bool.and_eq_true]
   exact ⟨decide_eq_true (by omega),decide_eq_true (by omega)⟩
  ·unfold iw
   rw[Bool.and_eq_true]
   exact ⟨decide_eq_true (by omega),decide_eq_true (by omega)⟩
def never:RF.Spec:=bf (fun _ _=>False) (fun _ _ _ _=>False)
def wk:RF.Spec:=orX never gM
theorem ZD (Φ:aa) (h1:Φ "need_two_books"=gO) (ds:List D) (G:DH) (C:String) (h:gM ds C):au Φ vg (fun x G'=>x=⟨C,.non⟩∧G'=G) (env0 ds 3) G (ends fun _ _=>False):=by
 have h0:=h
 obtain ⟨a,b,rfl⟩:∃a b,ds=[a,b]:=by
  rcases h with ⟨_,x,y,e,_⟩ |⟨_,w,rs,v,ss,e,_⟩
  ·exact ⟨_,_,e⟩
  ·exact ⟨_,_,e⟩
 simp_all_arith[vg]
 refine seq fun M hM=>?_
 simp_arith[h1]
 exact dJ h0 ⟨rfl,rfl⟩
def wu(ds:List D)(C:String):Prop:=∃a b c,ds=[a,b,c]∧gM [a,b] C
def ww:RF.Spec:=orX never wu
theorem ZF (Φ:aa) (h1:Φ "need_two_books"=gO) (ds:List D) (G:DH) (C:String) (h:wu ds C):au Φ vh (fun x G'=>x=⟨C,.non⟩∧G'=G) (env0 ds 1) G (ends fun _ _=>False):=by
 obtain ⟨a,b,c,rfl,h0⟩:=h
 simp_all_arith[vh]
 refine seq fun M hM=>?_
 simp_arith[h1]
 exact dJ h0 ⟨rfl,rfl⟩
def Jy (ds:List D) (C:String):Prop:=wu ds C∨(C="NoWord"∧∃w rs ss z,ds=[ao w rs,ao w ss,z]∧okB w rs∧okB w ss∧j9 w z)
def ZG:RF.Spec:=ghS (A:=Nat×List Row×List Row×List Nat) (fun a ds _=>ds=[ao a.1 a.2.1,ao a.1 a.2.2.1,.str a.2.2.2]∧okB a.1 a.2.1∧okB a.1 a.2.2.1∧okW a.1 a.2.2.2) (fun a G d G'=>G'=G∧d=.bl (!deq (bj a.2.1 (aV a.2.1 a.2.2.2)) (bj a.2.2.1 (aV a.2.2.1 a.2.2.2))))
def kI:RF.Spec:=orX ZG Jy
theorem ZJ{w:Nat}{rs ss:List Row}{l:List Nat}{G:DH}{k:D→DH→Prop}{E:EK}(h:okB w rs)(h':okB w ss)(hl:okW w l)(hk:k (.bl (!deq (bj rs (aV rs l)) (bj ss (aV ss l)))) G):kI.t [ao w rs,ao w ss,.str l] G k E:=
 j5 (fK (w,rs,ss,l) ⟨rfl,h,h',hl⟩ fun d G' ⟨e1,e2⟩=>by subst e1 e2;exact hk)
theorem rA(rs:List Row)(o:Option Nat):nr (bj rs o)=true:=by
 cases o with
 |none=>rfl
 |some n=>unfold bj;dsimp only;split <;> rfl
theorem JB(G:DH)(rs:List Row)(o:Option Nat):view G (bj rs o)=bj rs o:=by
 cases o with
 |none=>rfl
 |some n=>unfold bj;dsimp only;split <;> rfl
theorem JC(rs:List Row)(o:Option Nat):dpt (bj rs o)≤1:=by
 cases o with
 |none=>exact Nat.zero_le _
 |some n=>unfold bj;dsimp only;split <;> simp[dpt]
theorem ZK (Φ:aa) (h1:Φ "need_two_books"=gO) (h2:Φ "deed"=kj) (a:Nat×List Row×List Row×List Nat) (ds:List D) (G:DH) (h:ds=[ao a.1 a.2.1,ao a.1 a.2.2.1,.str a.2.2.2]∧okB a.1 a.2.1∧okB a.1 a.2.2.1∧okW a.1 a.2.2.2):
  au Φ fO noE (env0 ds 0) G (ends fun d G'=>G'=G∧d=.bl (!deq (bj a.2.1 (aV a.2.1 a.2.2.2)) (bj a.2.2.1 (aV a.2.2.1 a.2.2.2)))):=by
 obtain ⟨w,rs,ss,l⟩:=a
 obtain ⟨rfl,hb,hb',hl⟩:=h
 dsimp only at hb hb' hl ⊢
 simp_all_arith[fO]
 refine seq fun M hM=>?_
 simp_arith[h1]
 refine Jx hb hb' (hM _ _ (last ?_))
 simp_arith[h2]
 refine Jj hb hl (Jj hb' hl ?_)
 simp only[JB]
 refine ⟨⟨rA _ _,rA _ _,?_⟩,?_⟩
 ·have:=JC rs (aV rs l)
  omega
 ·exact ⟨trivial,trivial⟩
theorem ZL (Φ:aa) (h1:Φ "need_two_books"=gO) (h2:Φ "deed"=kj) (ds:List D) (G:DH) (C:String) (h:Jy ds C):au Φ fO (fun x G'=>x=⟨C,.non⟩∧G'=G) (env0 ds 0) G (ends fun _ _=>False):=by
 rcases h with ⟨a,b,c,rfl,h0⟩ |⟨rfl,w,rs,ss,z,rfl,hb,hb',hz⟩
 ·simp_all_arith[fO]
  refine seq fun M hM=>?_
  simp_arith[h1]
  exact dJ h0 ⟨rfl,rfl⟩
 ·simp_all_arith[fO]
  refine seq fun M hM=>?_
  simp_arith[h1]
  refine Jx hb hb' (hM _ _ (last ?_))
  simp_arith[h2]
  exact dJ (C:="NoWord") (.inr ⟨rfl,w,rs,z,rfl,hb,hz⟩) ⟨rfl,rfl⟩
def rB (C:String):List Nat:=if C=="NoBook" then [98,111,111,107] else if C=="NoMatch" then [109,97,116,99,104] else [119,111,114,100]
structure T27 where
 k:Int
 x:D
 y:D
 z:D
 C:String
def JD (a:T27):Prop:=((a.k=0∨a.k=1∨a.k=2)∧gM [a.x,a.y] a.C)∨(a.k=2∧a.C="NoWord"∧∃w rs ss,a.x=ao w rs∧a.y=ao w ss∧okB w rs∧okB w ss∧j9 w a.z)
def jh:RF.Spec:=gF (fun a:T27=>[.int a.k,a.x,a.y,a.z]) JD (fun a=>.str (rB a.C))
theorem ZM {ds:List D} {C:String} (h:gM ds C):C="NoBook"∨C="NoMatch":=by
 rcases h with ⟨e,_⟩ |⟨e,_⟩
 ·exact .inl e
 ·exact .inr e
def JF:Sxs:=(.cons (.asg (.nm 6) (.lst true (.cons (.isx (.var 4) "NoBook" ["NoBook","NoMatch","NoWord"]) (.cons (.isx (.var 4) "NoMatch" ["NoBook","NoMatch","NoWord"]) (.cons (.isx (.var 4) "NoWord" ["NoBook","NoMatch","NoWord"]) .nil))))) (.cons (.asg (.nm 7) (.lst true (.cons (.isx (.var 4) "NoForm" ["NoBook","NoMatch","NoWord"]) (.cons (.isx (.var 4) "NoJoin" ["NoBook","NoMatch","NoWord"]) (.cons (.isx (.var 4) "NoOrder" ["NoBook","NoMatch","NoWord"]) .nil))))) (.cons (.asg (.nm 7) (.bin .Add true (.var 7) (.lst true (.cons (.isx (.var 4) "NoRow" ["NoBook","NoMatch","NoWord"]) (.cons (.isx (.var 4) "TooMany" ["NoBook","NoMatch","NoWord"]) .nil))))) (.cons (.ite (.val (.cmp .Is (.var 4) (.cst .non))) (.cons (.ret (.cst (.str [110,111,110,101]))) .nil) .nil) (.cons (.ite (.boo false (.val (.cmp .NotEq (.mth .count (.var 6) (.cons (.cst (.bl true)) .nil)) (.cst (.int 1)))) (.cons (.val (.cmp .In (.cst (.bl true)) (.var 7))) (.cons (.not (.val (.isx (.var 4) "ValueError" ["NoBook","NoMatch","NoWord"]))) .nil))) (.cons (.ret (.cst (.str [111,100,100]))) .nil) .nil) (.cons (.ret (.idx (.lst true (.cons (.cst (.str [98,111,111,107])) (.cons (.cst (.str [109,97,116,99,104])) (.cons (.cst (.str [119,111,114,100])) .nil)))) (.mth .index (.var 6) (.cons (.cst (.bl true)) .nil)))) .nil))))))
theorem rD (Φ:aa) {k:Int} {x y z:D} {C:String} {G:DH} {o5 o6 o7:Option D} (hC:C="NoBook"∨C="NoMatch"∨C="NoWord"):au Φ JF noE [some (.int k),some x,some y,some z,some (.exn C),o5,o6,o7] G (ends fun d G'=>G'=G∧d=.str (rB C)):=by
 rcases hC with rfl |rfl |rfl
 all_goals
  simp_arith[JF,List.contains_cons,List.contains_nil,dh,rB,jr]
  exact ⟨by decide,by decide,by decide,by decide,⟨rfl,by decide⟩,by decide,by decide,rfl⟩
theorem ZP (Φ:aa) (h1:Φ "alike"=wk) (h2:Φ "is_alike"=ww) (h3:Φ "parts"=kI) (a:T27) (G:DH) (h:JD a):au Φ vm noE (env0 [.int a.k,a.x,a.y,a.z] 4) G (ends fun d G'=>G'=G∧d=.str (rB a.C)):=by
 obtain ⟨k,x,y,z,C⟩:=a
 dsimp only at h ⊢
 have hC:C="NoBook"∨C="NoMatch"∨C="NoWord":=by
  rcases h with ⟨_,h⟩ |⟨_,h,_⟩
  ·rcases ZM h with e |e
   ·exact .inl e
   ·exact .inr (.inl e)
  ·exact .inr (.inr h)
 have hc1:(["NoBook","NoMatch","NoWord"].contains C)=true:=by rcases hC with rfl |rfl |rfl <;> decide
 have hc2:dh C "SieveError"=true:=by rcases hC with rfl |rfl |rfl <;> decide
 rw[vm]
 simp_all_arith[]
 refine seq fun M hM=>?_
 simp_arith[ends]
 refine hM _ _ (seq fun M hM=>?_)
 rcases h with ⟨hk |hk |hk,hp⟩ |⟨hk,e,w,rs,ss,e1,e2,hb,hb',hz⟩
 ·dsimp only at hk hp
  subst hk
  simp_arith[h1]
  refine dJ hp ⟨rfl,hc1,hc2,hM _ _ (rD Φ hC)⟩
 ·dsimp only at hk hp
  subst hk
  simp_arith[h2]
  refine ⟨by decide,dJ ⟨x,y,_,rfl,hp⟩ ⟨rfl,hc1,hc2,hM _ _ (rD Φ hC)⟩⟩
 ·dsimp only at hk hp
  subst hk
  simp_arith[h3]
  refine dJ (.inl ⟨x,y,z,rfl,hp⟩) ⟨rfl,hc1,hc2,hM _ _ (rD Φ hC)⟩
 ·dsimp only at hk e e1 e2 hz
  subst hk e e1 e2
  simp_arith[h3]
  refine dJ (C:="NoWord") (.inr ⟨rfl,w,rs,ss,z,rfl,hb,hb',hz⟩) ⟨rfl,hc1,hc2,hM _ _ (rD Φ hC)⟩
theorem JG{k:Int}{x y z:D}{G:DH}{q:D→DH→Prop}{E:EK}(hk:k=0∨k=1∨k=2)(h:cU x∨∃w rs,x=ao w rs∧okB w rs∧cU y)(hq:q (.str [98,111,111,107]) G):jh.t [.int k,x,y,z] G q E:=
 iW ⟨k,x,y,z,"NoBook"⟩ rfl (.inl ⟨hk,.inl ⟨rfl,x,y,rfl,h⟩⟩) hq
theorem ZQ{k:Int}{w v:Nat}{rs ss:List Row}{z:D}{G:DH}{q:D→DH→Prop}{E:EK}(hk:k=0∨k=1∨k=2)(h:okB w rs)(h':okB v ss)(hn:w≠v)(hq:q (.str [109,97,116,99,104]) G):jh.t [.int k,ao w rs,ao v ss,z] G q E:=
 iW ⟨k,ao w rs,ao v ss,z,"NoMatch"⟩ rfl (.inl ⟨hk,.inr ⟨rfl,w,rs,v,ss,rfl,h,h',hn⟩⟩) hq
theorem ZR{w:Nat}{rs ss:List Row}{z:D}{G:DH}{q:D→DH→Prop}{E:EK}(h:okB w rs)(h':okB w ss)(hz:j9 w z)(hq:q (.str [119,111,114,100]) G):jh.t [.int 2,ao w rs,ao w ss,z] G q E:=
 iW ⟨2,ao w rs,ao w ss,z,"NoWord"⟩ rfl (.inr ⟨rfl,rfl,w,rs,ss,rfl,rfl,h,h',hz⟩) hq
theorem JH:∀{a b:List D},bc a=true→bc b=true→bc (a++b)=true
 |[],_,_,hb=>hb
 |x::a,b,ha,hb=>by
  rw[bc,Bool.and_eq_true]at ha
  rw[List.cons_append,bc,ha.1,JH ha.2 hb];rfl
theorem ZS{a b:List D}(ha:nrs a=true)(hb:nrs b=true):nrs (a++b)=true:=iU fun d hd=>by
 rcases List.mem_append.mp hd with h |h
 ·exact qR ha h
 ·exact qR hb h
theorem JK{w:Nat}{rs:List Row}(h:okB w rs):bc (rs.map aA)=true∧(rs.map aA).length≤100000:=by
 have:=Jd h
 unfold ao at this
 simp only[szA,bc,Bool.and_true,Bool.true_and,Bool.and_eq_true,decide_eq_true_iff]at this
 exact ⟨this.2.2,this.2.1⟩
theorem ZV{w:Nat}{l:List D}(h1:nrs l=true)(h2:bc l=true)(h3:l.length≤100000){d:D}(hd:d∈l)(hr:cC (w:Int) d=false):cU (.tup [.int w,.tup l]):=by
 refine ⟨by simp only[nr,nrs,h1,Bool.and_true],by simp only[szA,bc,h2,decide_eq_true h3,Bool.and_true];rfl,?_⟩
 show (decide (1≤(w:Int))&&decide ((w:Int)≤6)&&decide (l.length≤12)&&l.all (cC w))=false
 have:l.all (cC (w:Int))=false:=by
  rw[←Bool.not_eq_true,List.all_eq_true]
  intro z
  rw[z d hd]at hr
  cases hr
 rw[this,Bool.and_false]
theorem kJ{w:Nat}{rs:List Row}(hb:okB w rs){d:D}(h1:nr d=true)(h2:szA d=true)(hr:cC (w:Int) d=false):cU (.tup [.int w,.tup (rs.map aA++[d])]):=
 ZV (ZS (jf rs) (by simp only[nrs,h1,Bool.and_true])) (JH (JK hb).1 (by simp only[bc,h2,Bool.and_true])) (by have:=hb.len;simp;omega) (List.mem_append_right _ (List.mem_singleton.mpr rfl)) hr
theorem ji{f d:List Nat}(hf:f.length≤100000)(hd:d.length≤100000):szA (.tup [.str f,.str d])=true:=by
 simp only[szA,bc,Bool.and_true,Bool.and_eq_true,decide_eq_true_iff]
 exact ⟨by simp,hf,hd⟩
theorem wy{s l:List Nat}{w:Nat}(h:l.length≠w):isText s (w:Int) (.str l)=false:=by
 show (decide ((l.length:Int)=w)&&l.all fun c=>s.contains c)=false
 rw[decide_eq_false (by omega)];rfl
theorem JL{s l:List Nat}{w c:Nat}(h:c∈l)(hc:s.contains c=false):isText s (w:Int) (.str l)=false:=by
 show (decide ((l.length:Int)=w)&&l.all fun c=>s.contains c)=false
 have:l.all (fun c=>s.contains c)=false:=by
  rw[←Bool.not_eq_true,List.all_eq_true]
  intro z
  rw[z c h]at hc
  cases hc
 rw[this,Bool.and_false]
theorem ZW:∀w:Fin 7,(dX w.1).length≤100000:=by decide +kernel
theorem ZX{w:Nat}{x:D}(h1:nr x=true)(h2:szA x=true):cU (.tup [.int w,.tup (reps [x] 13)]):=by
 have e:reps [x] 13=[x,x,x,x,x,x,x,x,x,x,x,x,x]:=rfl
 rw[e]
 refine ⟨by simp only[nr,nrs,h1,Bool.and_true],by simp only[szA,bc,h2,Bool.and_true];rfl,?_⟩
 show (decide (1≤(w:Int))&&decide ((w:Int)≤6)&&false&&_)=false
 rw[Bool.and_false,Bool.false_and]
def pNB(a:Addr×Nat×List Row)(ds:List D)(G:DH):Prop:=ds=[.ref a.1,ao a.2.1 a.2.2]∧Pen G a.1∧okB a.2.1 a.2.2
def qNB(a:Addr×Nat×List Row)(G:DH)(d:D)(G':DH):Prop:=cU d∧Pen G' a.1∧Sb a.1 G G'
def sNB:RF.Spec:=ghS pNB qNB
theorem ZZ{p:Addr}{w:Nat}{rs:List Row}{G:DH}{k:D→DH→Prop}{E:EK}(hp:Pen G p)(h1:okB w rs)(hk:∀(d:D)(G':DH),cU d→Pen G' p→Sb p G G'→k d G'):sNB.t [.ref p,ao w rs] G k E:=fK (p,w,rs) ⟨rfl,hp,h1⟩ fun d G' ⟨a,b,c⟩=>hk d G' a b c
theorem rE{Φ:aa}{ss:Sxs}{E:EK}{ρ:ak}{G:DH}{q:Addr}{L:List D}{Dn:En}(hq:G q=none)(h:∀G1,G1 q=some (.lst L)→Sa G G1→au Φ ss E ρ G1 Dn):au Φ ss E ρ (aQ G q (.lst L)) Dn:=h _ bA (Sa.new hq)
theorem Z0{Φ:aa}{ss:Sxs}{E:EK}{ρ:ak}{G0 G:DH}{q:Addr}{L:List D}{Dn:En}(hq:G0 q=none)(s:Sa G0 G)(h:∀G1,G1 q=some (.lst L)→Sa G0 G1→au Φ ss E ρ G1 Dn):au Φ ss E ρ (aQ G q (.lst L)) Dn:=h _ bA (s.then hq Sb.upd)
theorem Z1 (Φ:aa) (h1:Φ "_law_take"=b8) (a:Addr×Nat×List Row) (ds:List D) (G:DH) (h:pNB a ds G):au Φ vf noE (env0 ds 3) G (ends (qNB a G)):=by
 obtain ⟨p,w,rs⟩:=a
 obtain ⟨rfl,hp,hb⟩:=h
 dsimp only at hp hb ⊢
 have hw1:=hb.w1
 have hw6:=hb.w6
 have hrl:=hb.len
 obtain ⟨hz1,hz2⟩:=JK hb
 simp_all_arith[vf,ao]
 refine seq fun M hM=>?_
 simp_arith[ends]
 refine hM _ _ (seq fun M hM=>?_)
 simp_arith[ends]
 repeat refine ⟨by first |decide |exact List.cons_ne_nil _ _ | ((try simp only[List.length_map,List.length_append,List.length_cons,List.length_nil,Int.toNat_natCast,d9]);have hsz:sz=1000000:=rfl;omega),?_⟩
 intro q1 hq1
 refine hM _ _ (rE hq1 fun G1 g1 s1=>seq fun M hM=>?_)
 simp_arith[cN g1]
 repeat refine ⟨by first |decide |exact List.cons_ne_nil _ _ | ((try simp only[List.length_map,List.length_append,List.length_cons,List.length_nil,Int.toNat_natCast,d9]);have hsz:sz=1000000:=rfl;omega),?_⟩
 intro q2 hq2
 refine hM _ _ (rE hq2 fun G2 g2 s2=>seq fun M hM=>?_)
 simp_arith[cB g2]
 repeat refine ⟨by first |decide |exact List.cons_ne_nil _ _ | ((try simp only[List.length_map,List.length_append,List.length_cons,List.length_nil,Int.toNat_natCast,d9]);have hsz:sz=1000000:=rfl;omega),?_⟩
 refine hM _ _ (Z0 hq2 s2 fun G3 g3 s3=>seq fun M hM=>?_)
 simp_arith[cN g3]
 repeat refine ⟨by first |decide |exact List.cons_ne_nil _ _ | ((try simp only[List.length_map,List.length_append,List.length_cons,List.length_nil,Int.toNat_natCast,d9]);have hsz:sz=1000000:=rfl;omega),?_⟩
 intro q4 hq4
 refine hM _ _ (rE hq4 fun G4 g4 s4=>seq fun M hM=>?_)
 simp_arith[cN g4]
 repeat refine ⟨by first |decide |exact List.cons_ne_nil _ _ | ((try simp only[List.length_map,List.length_append,List.length_cons,List.length_nil,Int.toNat_natCast,d9]);have hsz:sz=1000000:=rfl;omega),?_⟩
 intro q5 hq5
 refine hM _ _ (rE hq5 fun G5 g5 s5=>last ?_)
 have sa:Sa G G5:=s1.trans (s3.trans (s4.trans s5))
 have hp5:=hp.sa sa
 simp_arith[cN g5,h1]
 refine aP hp5 (by decide) (by decide) fun r G6 hr hp6 sb6=>?_
 have g6:=sb6 _ _ g5 ((hp.sa (s1.trans (s3.trans s4))).ne hq5).symm
 simp_arith[cN g6]
 refine dH (by omega) (by simpa using hr) fun d hd=>?_
 refine ⟨?_,hp6,sa.sb.trans sb6⟩
 simp only[v7,Int.toNat_natCast]at hd
 simp only[List.mem_cons,List.not_mem_nil,or_false]at hd
 rcases hd with rfl |rfl |rfl |rfl |rfl |rfl |rfl |rfl |rfl |rfl |rfl |rfl |rfl |rfl |rfl |rfl |rfl |rfl
 ·exact ⟨rfl,rfl,rfl⟩
 ·exact ⟨rfl,rfl,rfl⟩
 ·exact ⟨rfl,rfl,rfl⟩
 ·exact ⟨rfl,rfl,rfl⟩
 ·exact ⟨rfl,rfl,rfl⟩
 ·exact ⟨by simp only[nr,nrs,jf,Bool.and_true],by simp only[szA,bc,hz1,decide_eq_true hz2,Bool.and_true];rfl,rfl⟩
 ·exact ⟨by simp only[nr,nrs,jf,Bool.and_true],by simp only[szA,bc,hz1,decide_eq_true hz2,Bool.and_true];rfl,rfl⟩
 ·exact ⟨rfl,rfl,rfl⟩
 ·exact ⟨rfl,rfl,rfl⟩
 ·exact ⟨rfl,rfl,rfl⟩
 ·exact ⟨by simp only[nr,nrs,jf,Bool.and_true],by simp only[szA,bc,hz1,decide_eq_true hz2,Bool.and_true];rfl,rfl⟩
 ·exact kJ hb rfl (ji (by simp;omega) (by decide)) (by show (isText [48,49,42] (w:Int) (.str _)&&_)=false;rw[wy (by simp)];rfl)
 ·exact kJ hb rfl (ji (by simp;omega) (by decide)) (by show (_&&dw (.str [65]))=false;rw[show dw (.str [65])=false from rfl,Bool.and_false])
 ·exact kJ hb rfl (ji (by simp;omega) (by decide)) (by show (_&&dw (.str []))=false;rw[show dw (.str [])=false from rfl,Bool.and_false])
 ·exact kJ hb rfl (ji (by simp;omega) (by decide)) rfl
 ·exact ⟨by simp only[nr,nrs,jf,Bool.and_true],by simp only[szA,bc,hz1,decide_eq_true hz2,Bool.and_true,decide_eq_true (ZW ⟨w,by omega⟩)];rfl,rfl⟩
 ·exact ZX rfl (ji (by simp;omega) (by decide))
 ·exact kJ hb rfl (ji (by simp;omega) (by decide)) (by show (isText [48,49,42] (w:Int) (.str _)&&_)=false;rw[JL (c:=50) (by simp;omega) (by decide)];rfl)
def rF:RF.Spec:=gF (A:=Nat×List Row×List Nat) (fun a=>[ao a.1 a.2.1,.str a.2.2]) (fun a=>∀r∈a.2.1,r.1.length=a.2.2.length) (fun a=>bj a.2.1 (aV a.2.1 a.2.2))
theorem JM{w:Nat}{rs:List Row}{l:List Nat}{G:DH}{k:D→DH→Prop}{E:EK}(h:∀r∈rs,r.1.length=l.length)(hk:k (bj rs (aV rs l)) G):rF.t [ao w rs,.str l] G k E:=iW (w,rs,l) rfl h hk
theorem Z2 (Φ:aa) (h1:Φ "_law_met"=rm) (a:Nat×List Row×List Nat) (G:DH) (h:∀r∈a.2.1,r.1.length=a.2.2.length):
  au Φ u5 noE (env0 [ao a.1 a.2.1,.str a.2.2] 1) G (ends fun d G'=>G'=G∧d=bj a.2.1 (aV a.2.1 a.2.2)):=by
 obtain ⟨w,rs,l⟩:=a
 dsimp only at h ⊢
 simp_all_arith[u5]
 refine seq fun M hM=>?_
 simp_arith[h1]
 refine Zg h (hM _ _ (seq fun M hM=>?_))
 cases hm:aV rs l with
 |none=>simp_arith[bL,bj,and_self]
 |some n=>
  have hn:=Ji hm
  have hc:rs[n]?=some rs[n]:=List.getElem?_eq_getElem hn
  simp_arith[bL]
  refine hM _ _ (last ?_)
  simp_arith[ao]
  refine bD (a:=aA rs[n]) (bV (by rw[List.getElem?_map,hc];rfl)) ?_
  simp_arith[aA]
  simp[bj,hc,hm]
def pRf(a:Addr×Nat×List Row×List Row)(ds:List D)(G:DH):Prop:=ds=[.ref a.1,ao a.2.1 a.2.2.1,ao a.2.1 a.2.2.2]∧Pen G a.1∧okB a.2.1 a.2.2.1∧okB a.2.1 a.2.2.2
def sRf:RF.Spec:=ghS pRf (fun a G d G'=>d=.bl true∧Pen G' a.1∧Sb a.1 G G')
theorem Z3{p:Addr}{w:Nat}{rs ss:List Row}{G:DH}{k:D→DH→Prop}{E:EK}(hp:Pen G p)(h1:okB w rs)(h2:okB w ss)(hk:∀G',Pen G' p→Sb p G G'→k (.bl true) G'):sRf.t [.ref p,ao w rs,ao w ss] G k E:=fK (p,w,rs,ss) ⟨rfl,hp,h1,h2⟩ fun d G' ⟨a,b,c⟩=>by subst a;exact hk G' b c
theorem Z4 (Φ:aa) (h1:Φ "_law_no_book"=sNB) (h2:Φ "_law_take"=b8) (h3:Φ "_law_told"=jh) (a:Addr×Nat×List Row×List Row) (ds:List D) (G:DH) (h:pRf a ds G):au Φ vo noE (env0 ds 5) G (ends fun d G'=>d=.bl true∧Pen G' a.1∧Sb a.1 G G'):=by
 obtain ⟨p,w,rs,ss⟩:=a
 obtain ⟨rfl,hp,hb,hb'⟩:=h
 dsimp only at hp hb hb' ⊢
 have hw1:=hb.w1
 have hw6:=hb.w6
 simp_all_arith[vo]
 refine seq fun M hM=>?_
 simp_arith[h1]
 refine ZZ hp hb fun bad G1 hbad hp1 sb1=>hM _ _ (seq fun M hM=>?_)
 obtain ⟨v,hv,hv1,hv6,hne⟩:∃v:Nat,(w:Int) % 6+1=(v:Int)∧1≤v∧v≤6∧w≠v:=⟨w % 6+1,by omega,by omega,by omega,by omega⟩
 have hwb:okB v []:=⟨hv1,hv6,by decide,(fun r hr=>by cases hr),(fun r hr=>by cases hr)⟩
 simp_arith[ao,hv]
 repeat refine ⟨by first |decide |exact List.cons_ne_nil _ _ | ((try simp only[List.length_map,List.length_append,List.length_cons,List.length_nil,Int.toNat_natCast,d9]);have hsz:sz=1000000:=rfl;omega),?_⟩
 refine hM _ _ (seq fun M hM=>?_)
 simp_arith[ends]
 repeat refine ⟨by first |decide |exact List.cons_ne_nil _ _ | ((try simp only[List.length_map,List.length_append,List.length_cons,List.length_nil,Int.toNat_natCast,d9]);have hsz:sz=1000000:=rfl;omega),?_⟩
 refine hM _ _ (seq fun M hM=>?_)
 simp_arith[h2]
 refine aP hp1 (by decide) (by decide) fun r G2 hr hp2 sb2=>?_
 simp_arith[ends]
 refine dH (by omega) (by simpa using hr) fun z hz=>?_
 have hz:j9 w z:=by
  simp only[List.mem_cons,List.not_mem_nil,or_false,v7,Int.toNat_natCast]at hz
  rcases hz with rfl |rfl |rfl |rfl |rfl |rfl
  ·exact ⟨rfl,decide_eq_true (by simp;omega),wy (by simp)⟩
  ·exact ⟨rfl,rfl,wy (by simp;omega)⟩
  ·exact ⟨rfl,decide_eq_true (by simp;omega),JL (c:=42) (by simp) (by decide)⟩
  ·exact ⟨rfl,rfl,rfl⟩
  ·exact ⟨rfl,rfl,rfl⟩
  ·exact ⟨by rw[nr];exact iU fun d hd=>(by rw[reps,List.mem_flatten]at hd;obtain ⟨l,hl,hd⟩:=hd;rw[(List.mem_replicate.mp hl).2]at hd;rw[List.mem_singleton.mp hd];rfl),rfl,rfl⟩
 refine hM _ _ (seq fun M hM=>?_)
 simp_arith![ends]
 refine ⟨by decide,ForG.inv (P:=fun i ρ G'=>(∃o5 o7,ρ=[some (.ref p),some (ao w rs),some (ao w ss),some bad,some (ao v []),o5,some z,o7])∧G'=G2) ⟨⟨_,_,rfl⟩,rfl⟩ (fun _ _ _ _=>trivial) ?_ ?_⟩
 ·rintro i d ρ G3 hd ⟨⟨o5,o7,rfl⟩,rfl⟩ kk hk
  simp_arith![ends]
  obtain ⟨kn,rfl,hkn⟩:∃k:Int,d=.int k∧(k=0∨k=1∨k=2):=by
   have this:d∈[D.int 0,D.int 1,D.int 2]:=List.mem_of_getElem? hd
   simp only[List.mem_cons,List.not_mem_nil,or_false]at this
   rcases this with rfl |rfl |rfl
   ·exact ⟨_,rfl,.inl rfl⟩
   ·exact ⟨_,rfl,.inr (.inl rfl)⟩
   ·exact ⟨_,rfl,.inr (.inr rfl)⟩
  refine seq fun M hM=>?_
  simp_arith[h3]
  refine JG hkn (.inl hbad) ?_
  simp_arith[ends]
  refine JG hkn (.inr ⟨w,rs,rfl,hb,hbad⟩) ?_
  simp_arith[ends]
  refine hM _ _ (last ?_)
  simp_arith[h3]
  refine ZQ hkn hb hwb hne ?_
  simp_arith[ends]
  exact hk _ _ ⟨⟨_,_,rfl⟩,rfl⟩
 ·rintro ρ G3 ⟨⟨o5,o7,rfl⟩,rfl⟩
  have hvz:view G3 z=z:=Yb hz.1
  refine hM _ _ (seq fun M hM=>?_)
  have fin:M [some (.ref p),some (ao w rs),some (ao w ss),some bad,some (ao v []),o5,some z,o7] G3:=by
   refine hM _ _ (last ?_)
   simp_arith[h3]
   refine ZR hb hb' hz ?_
   simp_arith[ends]
   exact ⟨rfl,hp2,sb1.trans sb2⟩
  conv=>enter [4,2,1];rw[ao]
  simp_arith[hvz,hz.1,true_and]
  cases ((w:Int)==1) with
  |false=>exact fin
  |true=>
   dsimp only
   cases deq z (.str []) with
   |true=>exact ⟨hp2,sb1.trans sb2⟩
   |false=>exact fin
theorem Z5:∀w:Fin 7,0 < (bh (List.replicate w.1 42)).length∧(bh (List.replicate w.1 42)).length≤64:=by decide +kernel
structure F27(Φ:aa):Prop where
 opn:Φ "_law_open"=vP
 two:Φ "_law_two_books"=sTB
 words:Φ "_law_words"=qW
 take:Φ "_law_take"=b8
 parts:Φ "parts"=kI
 deed:Φ "_law_deed"=rF
 rfd:Φ "_law_refused"=sRf
theorem Z6(Φ:aa)(F:F27 Φ)(ds:List D)(G:DH)(h:∃ns:List Int,ds=[.scr ns]∧ns.length≤63):au Φ vM noE (env0 ds 8) G (ends fun d _=>d=.bl true):=by
 obtain ⟨ns,rfl,hl⟩:=h
 simp_all_arith[vM]
 refine seq fun M hM=>?_
 simp_arith[F.opn]
 refine bK ⟨ns,rfl,hl⟩ fun d' G1 hx=>?_
 obtain ⟨p,e1,_,hp,_⟩:=hx
 subst e1
 refine hM _ _ (seq fun M hM=>?_)
 simp_arith![ends]
 refine ⟨by decide,ForG.inv (P:=fun i ρ G'=>(∃o2 o3 o4 o5 o6 o7 o8,ρ=[some (.scr ns),some (.ref p),o2,o3,o4,o5,o6,o7,o8])∧Pen G' p) ⟨⟨_,_,_,_,_,_,_,rfl⟩,hp⟩ (fun _ _ _ _=>trivial) ?_ ?_⟩
 ·rintro i d ρ G2 hd ⟨⟨o2,o3,o4,o5,o6,o7,o8,rfl⟩,hp2⟩ kk hk
  obtain ⟨kn,rfl,wd,mo,hkn⟩:∃k:Nat,d=.int k∧∃wd mo:Nat,atI [D.int 5,.int 6,.int 4,.int 3] (k:Int)=some (.int wd)∧atI [D.int 9,.int 11,.int 6,.int 5] (k:Int)=some (.int mo)∧1≤wd∧wd≤6∧mo≤12:=by
   have this:d∈[D.int 0,D.int 1,D.int 2,D.int 3]:=List.mem_of_getElem? hd
   simp only[List.mem_cons,List.not_mem_nil,or_false]at this
   rcases this with rfl |rfl |rfl |rfl
   ·exact ⟨0,rfl,5,9,rfl,rfl,by decide,by decide,by decide⟩
   ·exact ⟨1,rfl,6,11,rfl,rfl,by decide,by decide,by decide⟩
   ·exact ⟨2,rfl,4,6,rfl,rfl,by decide,by decide,by decide⟩
   ·exact ⟨3,rfl,3,5,rfl,rfl,by decide,by decide,by decide⟩
  obtain ⟨ha1,ha2,hw1,hw2,hmo⟩:=hkn
  simp_arith![ends]
  refine seq fun M hM=>?_
  simp_arith[F.two]
  refine ⟨by decide,bD ha1 ⟨by decide,bD ha2 ?_⟩⟩
  refine Zv hp2 hw1 hw2 hmo fun w rs ss G3 hb hb' hp3 sb3=>?_
  simp_arith[ends]
  have hbw1:=hb.w1
  have hbw6:=hb.w6
  refine hM _ _ (seq fun M hM=>?_)
  have e0:∀xs:List Row,D.tup [.int w,.tup (xs.map aA)]=ao w xs:=fun _=>rfl
  simp_arith[ao,F.words,Int.toNat_natCast,v7]
  refine ⟨by omega,by omega,by have hsz:sz=1000000:=rfl;omega,Yt (by rw[List.length_replicate];omega) fun G4 sa4=>hM _ _ (seq fun M hM=>?_)⟩
  have hp4:=hp3.sa sa4
  have hwc:0 < (bh (List.replicate w 42)).length∧(bh (List.replicate w 42)).length≤64:=Z5 ⟨w,by omega⟩
  simp_arith![ends]
  refine ⟨by decide,ForG.inv (P:=fun i ρ G'=>(∃o6 o7 o8,ρ=[some (.scr ns),some (.ref p),some (.int kn),some (ao w rs),some (ao w ss),some (.lst ((bh (List.replicate w 42)).map D.str)),o6,o7,o8])∧Pen G' p) ⟨⟨_,_,_,rfl⟩,hp4⟩ (fun _ _ _ _=>trivial) ?_ ?_⟩
  ·rintro i6 d6 ρ G5 hd6 ⟨⟨o6,o7,o8,rfl⟩,hp5⟩ kk6 hk6
   simp_arith![ends]
   refine seq fun M hM=>?_
   simp_arith[F.take,List.length_map]
   refine aP hp5 (by omega) (by omega) fun r G6 hr hp6 sb6=>?_
   simp_arith[ends]
   refine dH (by omega) (by rw[List.length_map];exact hr) fun z hz=>?_
   obtain ⟨l,hwl,rfl⟩:=List.mem_map.mp hz
   have okl:okW w l:=Y9.mp (Iz.mp hwl)
   refine hM _ _ (seq fun M hM=>?_)
   simp_arith[F.parts]
   refine ZJ hb hb' okl (hM _ _ (last ?_))
   simp_arith[F.deed]
   refine JM (fun r hr=>by rw[(hb.form r hr).1,okl.1]) (JM (fun r hr=>by rw[(hb'.form r hr).1,okl.1]) ?_)
   simp only[JB]
   refine ⟨⟨rA _ _,rA _ _,?_⟩,?_⟩
   ·have:=JC rs (aV rs l)
    omega
   ·simp only[BEq.rfl,Bool.not_true]
    exact hk6 _ _ ⟨⟨_,_,_,rfl⟩,hp6⟩
  ·rintro ρ G5 ⟨⟨o6,o7,o8,rfl⟩,hp5⟩
   refine hM _ _ (last ?_)
   simp_arith[F.rfd]
   refine Z3 hp5 hb hb' fun G6 hp6 sb6=>?_
   simp_arith[ends]
   exact hk _ _ ⟨⟨_,_,_,_,_,_,_,rfl⟩,hp6⟩
 ·rintro ρ G2 ⟨⟨o2,o3,o4,o5,o6,o7,o8,rfl⟩,hp2⟩
  exact hM _ _ (last (by simp_arith[ends]))
end RF
namespace HD
open PySem PySem.W
def sv(x:Str)(t:Nat):Value:=.str x t
def ri(n:Nat):Value:=.int n 0
def fX (l:List Value):Obj:=⟨.type "tuple",none,.seq ⟨l⟩ 0,⟨[]⟩⟩
def dO(c:Value)(l:List Value):Obj:=⟨c,none,.fields ⟨l⟩,⟨[]⟩⟩
def kO:Str:="/claim/cut.py"
def wz(n q:Str)(ln ac fl a b:Nat)(isf:Bool)(l1 l2 tm:Value)(t t2:Nat):Obj:=
 dO (.type "code") [sv n t,sv q (t+1),sv kO (t+2),ri ln,ri ac,ri 0,ri 0,ri fl,.ref a,.bool isf,ri 181,.ref b,.none,l1,l2,tm,ri t2,ri ln,sv kO (t2+1)]
def toks(t:Nat):List Str→List Value
 |[]=>[]
 |x::r=>sv x t::toks (t+1) r
def fdO(n q:Str)(p:Arguments)(b:List Stmt)(sc:Scope)(g:Nat)(md cd:Value):Data:=
 .func { name:=n,qualname:=q,params:=p,body:=.stmts b,scope:=sc,globals:=g,closure:=[],defaults:=.none,kwdefaults:=.none,pyModule:=md,code:=cd }
def enO(P:Params)(k:Str)(t:Nat)(v:Value):DictEntry:={ hash:=PyData.keyHash P k,key:=sv k t,val:=v }
def kW (l:List DictEntry) (e:Nat):Obj:=⟨.type "dict",none,.dict ⟨l⟩ e,⟨[]⟩⟩
def frO (c l:Nat) (md:Value):Obj:=⟨.type "frame",none,.plain,⟨[some (.ref c),some (.ref 3),some (.ref l),none,some md,none,some (.ref 0)]⟩⟩
def bfO (s:String) (v:Value):Obj:=dO (.type "builtin_function_or_method") [.builtin s,v]
def veM:List Value:=[.type "ValueError",.type "Exception",.type "BaseException",.type "object"]
def rG (b:Expr):Bool:=match b with |.Name n _=>n==("ValueError":Str) |_=>false
def fnO(q:Str)(a t:Nat)(md:Value)(n:Str)(p:Arguments)(b:List Stmt)(sc:Scope)(ln:Nat):List Obj:=match localNames p sc (.stmts b) with
 |some l=>[fX [],dO .none [],fX (toks (t+3) l.1),fX [],⟨.none,none,fdO n q p b sc 0 .none .none,⟨[]⟩⟩,
   wz n q ln p.args.length 3 a (a+1) true (.ref (a+2)) (.ref (a+3)) (.ref (a+4)) t (t+3+l.1.length),⟨.type "function",none,fdO n q p b sc 3 md (.ref (a+5)),⟨[]⟩⟩]
 |none=>[fX [],dO .none [],⟨.none,none,fdO n q p b sc 0 .none .none,⟨[]⟩⟩,
   wz n q ln p.args.length 3 a (a+1) true .none .none (.ref (a+2)) t (t+3),⟨.type "function",none,fdO n q p b sc 3 md (.ref (a+3)),⟨[]⟩⟩]
def fnA(p:Arguments)(b:List Stmt)(sc:Scope):Nat:=match localNames p sc (.stmts b) with |some _=>7 |none=>5
def fnT(p:Arguments)(b:List Stmt)(sc:Scope):Nat:=match localNames p sc (.stmts b) with |some l=>l.1.length+5 |none=>5
def dot:Str:="."
structure MO where
 os:List Obj
 es:List DictEntry
 cs:List Value
 a:Nat
 t:Nat
def rH(P:Params)(c:Str)(md:Value):List Stmt→Nat→Nat→MO
 |.FunctionDef n p b _ _ _ sc _ _ pos::r,a,t=>
  let m:=rH P c md r (a+fnA p b sc) (t+fnT p b sc+1)
  ⟨fnO (c++dot++n) a t md n p b sc pos.line++m.os,enO P n (t+fnT p b sc) (.ref (a+fnA p b sc - 1))::m.es,ri pos.line::ri pos.col::.ref (a+fnA p b sc - 2)::m.cs,m.a,m.t⟩
 |_::r,a,t=>rH P c md r a t
 |[],a,t=>⟨[],[],[],a,t⟩
def clA(P:Params)(a:Nat)(b:List Stmt):Nat:=(rH P dot .none b (a+7) 0).a+2
def stO(P:Params)(r:Nat)(sub:List Value)(a t:Nat)(md:Value)(s:Stmt):List Obj:=match s with
 |.FunctionDef n p b _ _ _ sc _ _ pos=>fnO n a t md n p b sc pos.line
 |.ClassDef n bs _ body _ _ _ _ _ st pos=>
  let m:=rH P n md body (a+7) (t+12)
  let c:=m.a+2
  let u:=m.t+st.length
  let d1:=[enO P "__module__" (t+7) md]
  let d2:=enO P "__firstlineno__" (t+11) (.int pos.line (t+10))::m.es++[enO P "__static_attributes__" u (.ref m.a)]
  let b:List Value:=match bs with |b::_=>(match rG b with |true=>[.type "ValueError"] |false=>[.ref r]) |[]=>[]
  let own:Bool:=match bs with |[]=>true |_=>false
  let ve:Bool:=match bs with |b::_=>rG b |[]=>false
  let wr (v:Nat):Obj:=dO (.type "getset_descriptor") [sv "__weakref__" v,.ref c,.builtin "ExceptionGroup.__weakref__",.none]
  let typ (mro:List Value) (sub:List Value) (nw:String):Obj:=
   ⟨.type "type",none,.cls { name:=n,bases:=(match own with |true=>[.type "object"] |false=>b),mro:=.ref c::mro,ns:=m.a+1,qualname:=n,subclasses:=sub },
    ⟨[(match own with |true=>none |false=>some (.ref a)),none,some (sv n t),some (sv n (t+8)),some (.builtin nw),some (.bool true)]⟩⟩
  [fX b,bfO "type.__prepare__" (.type "type"),kW (d1++enO P "__qualname__" (t+9) (sv n (t+8))::d2) (4+m.es.length),fX [],dO .none m.cs,
   wz n n pos.line 0 0 (a+3) (a+4) false .none .none .none (t+2) (t+5),frO (a+5) (a+2) md]++m.os++[fX (toks m.t st)] ++
  (match own with
  |true=>[kW (d1++d2++[enO P "__dict__" (u+2) (.ref (c+1)),enO P "__weakref__" (u+4) (.ref (c+2)),enO P "__doc__" (u+5) .none]) 4,typ [.type "object"] [] "object.__new__",
    dO (.type "getset_descriptor") [sv "__dict__" (u+1),.ref c,.builtin "function.__dict__",.builtin "function.__dict__#set"],wr (u+3)]
  |false=>(match ve with
   |true=>[kW (d1++d2++[enO P "__weakref__" (u+2) (.ref (c+1)),enO P "__doc__" (u+3) .none]) 3,typ veM sub "ValueError.__new__",wr (u+1)]
   |false=>[kW (d1++d2++[enO P "__doc__" (u+1) .none]) 2,typ (.ref r::veM) [] "ValueError.__new__"])) ++
  [dO (.type "super") [.ref c,.ref c,.ref c],bfO "object.__init_subclass__" (.ref c)]
 |_=>[]
def mdO(t:Nat)(md:Value)(s:Stmt):Value:=match s with
 |.Assign [.Name n _] (.Constant (.str x) _ _) _=>(match n==("__name__":Str) with |true=>sv x t |false=>md)
 |_=>md
def enS(P:Params)(t u a a':Nat)(s:Stmt):List DictEntry:=match s with
 |.FunctionDef n _ _ _ _ _ _ _ _ _=>[enO P n (u-1) (.ref (a'-1))]
 |.ClassDef n _ _ b _ _ _ _ _ _ _=>[enO P n (u-1) (.ref (clA P a b))]
 |.Assign [.Name n _] (.Constant c _ _) _=>(match n==("__name__":Str) with
  |true=>[]
  |false=>[enO P n (t+1) (match c with |.int i=>.int i t |.str x=>sv x t |_=>.none)])
 |_=>[]
def cdS(a a':Nat)(s:Stmt):List Value:=match s with
 |.FunctionDef _ _ _ _ _ _ _ _ _ pos=>[ri pos.line,ri pos.col,.ref (a'-2)]
 |.ClassDef _ _ _ _ _ _ _ _ _ _ pos=>[ri pos.line,ri pos.col,.ref (a+5)]
 |_=>[]
def sbS(P:Params)(a:Nat)(s:Stmt):List Value:=match s with
 |.ClassDef _ bs _ b0 _ _ _ _ _ _ _=>(match bs with |b::_=>(match rG b with |true=>[] |false=>[.ref (clA P a b0)]) |[]=>[])
 |_=>[]
def Z7(P:Params)(a:Nat)(s:Stmt):List Nat:=match s with
 |.ClassDef _ bs _ b0 _ _ _ _ _ _ _=>(match bs with |b::_=>(match rG b with |true=>[clA P a b0] |false=>[]) |[]=>[])
 |_=>[]
def fold{α:Type}(f:Nat→Nat→Nat→Nat→Value→Stmt→List α):List (Nat×Nat)→Value→List Stmt→List α
 | (a,t)::(a',u)::r,md,s::ss=>f a a' t u md s++fold f ((a',u)::r) (mdO t md s) ss
 |_,_,_=>[]
def JN:List (Nat×Nat)→Value→List Stmt→Value
 | (_,t)::r,md,s::ss=>JN r (mdO t md s) ss
 |_,md,_=>md
def gP:Value:=sv "__main__" 164
def Z8(P:Params)(v:Value):List DictEntry:=
 [enO P "__name__" 165 v,enO P "__doc__" 166 .none,enO P "__package__" 167 .none,enO P "__loader__" 168 (.builtin "__main__.__loader__#opaque"),enO P "__spec__" 169 .none,
  enO P "__annotations__" 170 (.ref 6),enO P "__builtins__" 171 (.ref 4),enO P "__file__" 173 (sv kO 172),enO P "__cached__" 174 .none]
def ents(N:List (Nat×Nat))(b:List Stmt)(P:Params):List DictEntry:=Z8 P (JN N gP b)++fold (fun a a' t u _ s=>enS P t u a a' s) N gP b
def put{α:Type}:Nat→α→List α→List α
 |_,_,[]=>[]
 |0,x,_::r=>x::r
 |n+1,x,y::r=>y::put n x r
def JP(cs:List Value):List Obj:=[fX [],dO .none cs,
 dO (.type "code") [sv "<module>" 182,sv "<module>" 183,sv kO 184,ri 1,ri 0,ri 0,ri 0,ri 0,.ref 11,.bool false,ri 181,.ref 12,.none,.none,.none,.none,ri 185,ri 1,sv kO 186],frO 13 3 gP]
def Z9(B:List Obj):List Obj:=B++JP []
def objs(B:List Obj)(N:List (Nat×Nat))(b:List Stmt)(P:Params):List Obj:=
 let es:=ents N b P
 put 3 (kW es es.length) (B++JP (fold (fun a a' _ _ _ s=>cdS a a' s) N gP b) ++
  fold (fun a _ t _ md s=>stO P ((fold (fun a _ _ _ _ s=>Z7 P a s) N gP b).headD 0) (fold (fun a _ _ _ _ s=>sbS P a s) N gP b) a t md s) N gP b)
def evs{α:Type}:List α→List α
 |[]=>[]
 |[x]=>[x]
 |x::_::r=>x::evs r
def bt:Nat→List Obj→BT
 |0,_=>.nil
 |_,[]=>.nil
 |n+1,x::r=>.node x (bt n (evs r)) (bt n (evs r.tail))
def nameless(s:Stmt):Bool:=match s with
 |.Assign [.Name n _] _ _=>!(n==("__name__":Str))
 |_=>true
def pick:Nat→List Nat→List Obj→Frag
 |i,a::r,o::os=>(match Nat.beq a i with |true=>(a,o)::pick (i+1) r os |false=>pick (i+1) (a::r) os)
 |_,_,_=>[]
end HD
def PySem.W.Fast.tw4002096218800525185:PySem.Program:=PySem.Challenge.pw_starsieve_k27_parting_words_and_refusals
theorem PySem.W.Fast.te4002096218800525185:PySem.Challenge.pw_starsieve_k27_parting_words_and_refusals=PySem.W.Fast.tw4002096218800525185:=rfl
namespace HK
open PySem PySem.W PySem.W.Fast
def pw:Program:=PySem.Challenge.pw_starsieve_k27_parting_words_and_refusals
def rl:OpenLaw:=PySem.Challenge.rw_starsieve_k27_parting_words_and_refusals
def NN:List (Nat×Nat):=[(15,187),(15,189),(28,207),(40,223),(52,239),(64,255),(76,271),(88,287),(100,303),(112,319),(124,335),(124,337),(124,339),(131,346),(138,353),(145,361),(150,367),(157,375),(164,383),(169,389),(176,397),(183,406),(190,417),(197,424),(197,426),(197,428),(197,430),(197,432),(202,438),(209,446),(214,452),(221,459),(228,467),(235,479),(242,487),(249,495),(249,497),(256,504),(263,513),(270,524),(277,534),(284,545),(289,551),(296,560),(296,562),(303,571),(308,577),(315,587),(320,593),(327,602),(327,604),(334,615),(341,625),(348,632),(355,643),(360,649),(367,657),(374,667),(381,677),(388,689),(393,695),(400,709),(405,715),(410,721),(415,727),(422,738),(427,744),(434,754),(441,764),(448,773),(453,779),(460,790),(467,804),(474,818),(481,833)]
def L1(P:Params):List Obj:=HD.objs (boot_heap P).objs.toList NN pw.main.body P
def H1(P:Params):Heap:=⟨⟨L1 P⟩,{}⟩
def T1(P:Params):BT:=HD.bt 12 (L1 P)
def LA(P:Params):List Obj:=HD.Z9 (boot_heap P).objs.toList
def HA(P:Params):Heap:=⟨⟨LA P⟩,{}⟩
def T0(P:Params):BT:=HD.bt 5 (LA P)
def env:Env:={ scope:=pw.main.scope,locals:=mainNs,globals:=mainNs,cells:=[],code:=.ref 13,frame:=some 14 }
def bE:List Stmt:=behindTheImports pw
def cE:Code:=.body bE env
def p0:Pos:=⟨0,0,0,0⟩
def B:List Frame:=[topFrame p0]
def ann:Option Value:=some (.ref 6)
def qv:Program:={ pw with main:={ pw.main with body:=pw.main.body.filter HD.nameless } }
def as:List Nat:=[3,23,24,36,37,48,49,60,61,72,73,84,85,96,97,108,109,120,121,129,130,136,137,148,149,155,156,162,163,167,168,200,201,207,208,212,213,219,220,226,227,233,234,240,241,247,248,306,307,318,319,325,326,332,333,339,340,346,347,353,354,358,359,365,366,372,373,379,380,386,387,391,392,398,399,403,404,408,409,413,414,420,421,425,426,432,433,439,440,446,447,451,452,458,459,465,466,472,473,479,480]
def K(P:Params):Frag:=HD.pick 0 as (L1 P)
def Xt(s:Shared):Bool:=xlAt qv [] s&&recOk (RowW.records rl.row.toRowW) s
def see{α:Type}(_:α):Bool:=true
theorem primed:(see T1&&see T0&&see H1&&see HA&&see cE&&see B&&see env&&see bE&&see qv&&see K&&see Xt)=true:=by k_qdec
theorem pre(w:World)(os:OsState):topGo treeTable pw w 11 ann 12 ⟨boot_heap w.params,⟨[]⟩,boot_drawn,boot_toks,os⟩ (topStub pw)=some (⟨HA w.params,⟨[]⟩,{},187,os⟩,⟨denote treeTable cE,cE,p0,B⟩):=by
 have _:=primed
 rw[PySem.W.Fast.te15667345088766844465,PySem.W.Fast.te14364793385576792824,PySem.W.Fast.te1032975242618825031,PySem.W.Fast.te8093259214132618727,PySem.W.Fast.te1718297227530528222,PySem.W.Fast.te11892475500146522536]
 kernel_rfl
theorem block(w:World)(os:OsState):segRun treeTable pw w 11 ann 1 2 ⟨HA w.params,⟨[]⟩,{},187,os⟩ (blockOf bE env cE p0 B)=some (.next,SharedT.abs ⟨T0 w.params,15,{},⟨[]⟩,{},187,os⟩,cE,p0):=by
 rw[PySem.W.Fast.te14374325043358763698,PySem.W.Fast.te14364793385576792824,PySem.W.Fast.te1032975242618825031,PySem.W.Fast.te8093259214132618727,PySem.W.Fast.te1718297227530528222,PySem.W.Fast.te14938417808399470215,PySem.W.Fast.te16330338443398637341,PySem.W.Fast.te10239294469119128424]
 kernel_rfl
theorem piece(w:World)(os:OsState):segRunT treeTable pw w 11 ann 1 9000 ⟨T0 w.params,15,{},⟨[]⟩,{},187,os⟩ (piecesOf bE env cE p0 B)=some (.next,⟨T1 w.params,481,{},⟨[]⟩,{},833,os⟩,cE,⟨362,0,374,15⟩):=by
 rw[PySem.W.Fast.te10110043849684766642,PySem.W.Fast.te14364793385576792824,PySem.W.Fast.te1032975242618825031,PySem.W.Fast.te13069687644243786066,PySem.W.Fast.te14938417808399470215,PySem.W.Fast.te1718297227530528222,PySem.W.Fast.te16330338443398637341,PySem.W.Fast.te10239294469119128424]
 kernel_rfl
theorem fin(w:World)(os:OsState):topRun treeTable pw w 11 ann 3 (SharedT.abs ⟨T1 w.params,481,{},⟨[]⟩,{},833,os⟩) ⟨doneF .next,cE,⟨362,0,374,15⟩,B⟩=some ⟨H1 w.params,⟨[]⟩,{},833,os⟩:=by
 rw[PySem.W.Fast.te14082659384304107361,PySem.W.Fast.te14364793385576792824,PySem.W.Fast.te1032975242618825031,PySem.W.Fast.te13069687644243786066,PySem.W.Fast.te1718297227530528222,PySem.W.Fast.te14158929756966004236]
 kernel_rfl
theorem run(w:World)(os:OsState):topRun treeTable pw w 11 ann (12+(2+(9000+3))) ⟨boot_heap w.params,⟨[]⟩,boot_drawn,boot_toks,os⟩ (topStub pw)=some ⟨H1 w.params,⟨[]⟩,{},833,os⟩:=by
 refine go_top (pre w os) (piece_block (block w os) ?_)
 have h:=piece_app (rest:=[]) (segRun_of (piece w os)) (piece_nil (fin w os))
 rw[List.append_nil]at h
 exact h
theorem size (w:World):((boot_heap w.params).isNs mainGlobals&&(Array.mk []:Array GenState).size==0,(boot_heap w.params).objs.size,(boot_heap w.params).nsMap mainGlobals "__annotations__")=(true,11,ann):=by kernel_rfl
theorem aaa(w:World)(os:OsState):(staticsOk (importedModules pw.main.body) (boot_heap w.params) (H1 w.params)&&namesBound pw (H1 w.params)&&gensDone ⟨H1 w.params,⟨[]⟩,{},833,os⟩&&laidKept (boot_heap w.params) (H1 w.params))=true:=by
 rw[PySem.W.Fast.te1032975242618825031,PySem.W.Fast.te14158929756966004236,PySem.W.Fast.te5923862056798008813]
 kernel_rfl
theorem aab(w:World)(os:OsState):openSeen qv [] (importedModules pw.main.body) Xt true ⟨H1 w.params,⟨[]⟩,{},833,os⟩=openGood qv []:=by
 rw[PySem.W.Fast.te1032975242618825031,PySem.W.Fast.te14158929756966004236,PySem.W.Fast.te5923862056798008813,PySem.W.Fast.te3994408356199485718,PySem.W.Fast.te3154452736318265832,PySem.W.Fast.te4187177175401517315]
 kernel_rfl
theorem aac(w:World):as.map (H1 w.params).get?=(K w.params).map (fun p=>some p.2):=by
 rw[PySem.W.Fast.te14158929756966004236,PySem.W.Fast.te538113369711794958]
 kernel_rfl
theorem eAs(P:Params):as=(K P).map (·.1):=by
 rw[PySem.W.Fast.te538113369711794958]
 kernel_rfl
def hook:Hook:=kHook K as eAs
theorem left:LeftO pw qv [] Xt hook.obs hook.val 12000:=by
 refine LeftO.of_pieces (boot_open (by kernel_rfl) (by decide) (fun s=>by kernel_rfl)) size run (by decide) fun w=>funext fun os=>?_
 exact Prod.ext (aaa w os) (Prod.ext (aab w os) (aac w))
end HK
namespace Lk27
open PySem PySem.Spec PyProof.Rows L2 RF
open PySem.W (mg_of mg_none_of)
def Φ:aa:=fun f=>if f="_law_fits" then aO km else if f="_law_met" then rm else if f="_law_deed" then rF else if f="_law_open" then vP else if f="_law_spread" then qO else if f="_law_take" then b8 else if f="_law_no_book" then sNB else if f="is_deed" then aO j6 else if f="is_text_of" then aO fText else if f="is_form" then aO jZ else if f="is_row" then aO j7 else if f="is_whole" then aO jc else if f="is_width" then aO jY else if f="is_book" then aO je else if f="need_book" then fU else if f="need_two_books" then gO else if f="alike" then wk else if f="is_alike" then ww else if f="deed_of" then q8 else if f="fits" then aO j8 else if f="is_word" then aO jd else if f="met" then kh else if f="deed" then kj else if f="parts" then kI else if f="_law_told" then jh else if f="_law_refused" then sRf else if f="_law_anew" then qP else if f="_law_signs" then jW else if f="_law_deeds_of" then j4 else if f="_law_form" then vO else if f="_law_wider" then fQ else if f="_law_within" then fQ else if f="_law_form_like" then j0 else if f="_law_bent_book" then sBB else if f="_law_book" then qU else if f="_law_meet" then rn else if f="_law_one_turning" then rz else if f="_law_turned_alike" then sTA else if f="_law_two_books" then sTB else if f="_law_words" then qW else if f="law" then jX else bf (fun _ _=>False) (fun _ _ _ _=>False)
theorem JQ:Φ "_law_fits"=aO km:=by kernel_rfl
theorem JR:Φ "_law_met"=rm:=by kernel_rfl
theorem JS:Φ "_law_deed"=rF:=by kernel_rfl
theorem JT:Φ "_law_open"=vP:=by kernel_rfl
theorem JV:Φ "_law_spread"=qO:=by kernel_rfl
theorem cD:Φ "_law_take"=b8:=by kernel_rfl
theorem JW:Φ "_law_no_book"=sNB:=by kernel_rfl
theorem JX:Φ "is_deed"=aO j6:=by kernel_rfl
theorem wA:Φ "is_text_of"=aO fText:=by kernel_rfl
theorem JZ:Φ "is_form"=aO jZ:=by kernel_rfl
theorem J0:Φ "is_row"=aO j7:=by kernel_rfl
theorem J1:Φ "is_whole"=aO jc:=by kernel_rfl
theorem J2:Φ "is_width"=aO jY:=by kernel_rfl
theorem wB:Φ "is_book"=aO je:=by kernel_rfl
theorem kY:Φ "need_book"=fU:=by kernel_rfl
theorem kZ:Φ "need_two_books"=gO:=by kernel_rfl
theorem J7:Φ "alike"=wk:=by kernel_rfl
theorem J8:Φ "is_alike"=ww:=by kernel_rfl
theorem J9:Φ "deed_of"=q8:=by kernel_rfl
theorem Ka:Φ "fits"=aO j8:=by kernel_rfl
theorem wC:Φ "is_word"=aO jd:=by kernel_rfl
theorem wD:Φ "met"=kh:=by kernel_rfl
theorem wF:Φ "deed"=kj:=by kernel_rfl
theorem wG:Φ "parts"=kI:=by kernel_rfl
theorem Kc:Φ "_law_told"=jh:=by kernel_rfl
theorem Kd:Φ "_law_refused"=sRf:=by kernel_rfl
theorem Ke:Φ "_law_anew"=qP:=by kernel_rfl
theorem wH:Φ "_law_signs"=jW:=by kernel_rfl
theorem wI:Φ "_law_deeds_of"=j4:=by kernel_rfl
theorem Kf:Φ "_law_form"=vO:=by kernel_rfl
theorem Kg:Φ "_law_wider"=fQ:=by kernel_rfl
theorem wJ:Φ "_law_within"=fQ:=by kernel_rfl
theorem wK:Φ "_law_form_like"=j0:=by kernel_rfl
theorem Kh:Φ "_law_bent_book"=sBB:=by kernel_rfl
theorem Kl:Φ "_law_book"=qU:=by kernel_rfl
theorem Km:Φ "_law_meet"=rn:=by kernel_rfl
theorem Ko:Φ "_law_one_turning"=rz:=by kernel_rfl
theorem Kp:Φ "_law_turned_alike"=sTA:=by kernel_rfl
theorem Kq:Φ "_law_two_books"=sTB:=by kernel_rfl
theorem Kr:Φ "_law_words"=qW:=by kernel_rfl
def bt:List String:=["all","bool","enumerate","int","isinstance","len","list","range","str","tuple","zip"]
def cn:List (String×D):=[("LETTERS",(.str [97,98,99,100,101,102,103,104,105,106,107,108,109,110,111,112,113,114,115,116,117,118,119,120,121,122])),("LONGEST_DEED",(.int 8)),("MOST_ROWS",(.int 12)),("WIDEST",(.int 6))]
def xs:List (String×Bool):=[("NoBook",true),("NoMatch",true),("NoWord",true),("NoBook",false),("NoForm",false),("NoJoin",false),("NoMatch",false),("NoOrder",false),("NoRow",false),("NoWord",false),("SieveError",false),("TooMany",false),("ValueError",false)]
def f0:List (String×Nat):=[]
def f1:=("_law_fits",2)::f0
def f2:=("_law_met",2)::f1
def f3:=("_law_deed",2)::f2
def f4:=("_law_open",1)::f3
def f5:=("_law_spread",2)::f4
def f6:=("_law_take",2)::f5
def f7:=("_law_no_book",2)::f6
def f8:=("is_deed",1)::f7
def f9:=("is_text_of",3)::f8
def f10:=("is_form",2)::f9
def f11:=("is_row",2)::f10
def f12:=("is_whole",1)::f11
def f13:=("is_width",1)::f12
def f14:=("is_book",1)::f13
def f15:=("need_book",1)::f14
def f16:=("need_two_books",2)::f15
def f17:=("alike",2)::f16
def f18:=("is_alike",3)::f17
def f19:=("deed_of",2)::f18
def f20:=("fits",2)::f19
def f21:=("is_word",2)::f20
def f22:=("met",2)::f21
def f23:=("deed",2)::f22
def f24:=("parts",3)::f23
def f25:=("_law_told",4)::f24
def f26:=("_law_refused",3)::f25
def f27:=("_law_anew",1)::f26
def f28:=("_law_signs",3)::f27
def f29:=("_law_deeds_of",2)::f28
def f30:=("_law_form",2)::f29
def f31:=("_law_wider",2)::f30
def f32:=("_law_within",2)::f31
def f33:=("_law_form_like",3)::f32
def f34:=("_law_bent_book",2)::f33
def f35:=("_law_book",3)::f34
def f36:=("_law_meet",2)::f35
def f37:=("_law_one_turning",2)::f36
def f38:=("_law_turned_alike",3)::f37
def f39:=("_law_two_books",3)::f38
def f40:=("_law_words",1)::f39
def S(i:Nat):Stmt:=HK.pw.main.body.getD i (.Pass ⟨0,0,0,0⟩)
def lg:Stmt:=S 66
theorem aad:fnB ["form","word","sign","other"] ["form","word"] (aq lg)=true:=by decide +kernel
theorem aae:aC (aK ["form","word","sign","other"] (aq lg) f0 bt cn xs) uY (aG lg)=true:=by decide +kernel
def lq:Stmt:=S 67
theorem aaf:fnB ["book","word","number","row"] ["book","word"] (aq lq)=true:=by decide +kernel
theorem aag:aC (aK ["book","word","number","row"] (aq lq) f1 bt cn xs) uZ (aG lq)=true:=by decide +kernel
def lr:Stmt:=S 68
theorem aah:fnB ["book","word","number"] ["book","word"] (aq lr)=true:=by decide +kernel
theorem aai:aC (aK ["book","word","number"] (aq lr) f2 bt cn xs) u5 (aG lr)=true:=by decide +kernel
def lu:Stmt:=S 51
theorem aaj:fnB ["script","cells","k","cell"] ["script"] (aq lu)=true:=by decide +kernel
theorem aak:aC (aK ["script","cells","k","cell"] (aq lu) f3 bt cn xs) u6 (aG lu)=true:=by decide +kernel
def lw:Stmt:=S 50
theorem aal:fnB ["cell","at","one","two","three"] ["cell","at"] (aq lw)=true:=by decide +kernel
theorem aam:aC (aK ["cell","at","one","two","three"] (aq lw) f4 bt cn xs) u9 (aG lw)=true:=by decide +kernel
def lz:Stmt:=S 53
theorem aan:fnB ["pen","many","at","cell","found"] ["pen","many"] (aq lz)=true:=by decide +kernel
theorem aao:aC (aK ["pen","many","at","cell","found"] (aq lz) f5 bt cn xs) vd (aG lz)=true:=by decide +kernel
def lA:Stmt:=S 70
theorem aap:fnB ["pen","book","width","rows","some"] ["pen","book"] (aq lA)=true:=by decide +kernel
theorem aaq:aC (aK ["pen","book","width","rows","some"] (aq lA) f6 bt cn xs) vf (aG lA)=true:=by decide +kernel
def lB:Stmt:=S 27
theorem aar:fnB ["thing"] ["thing"] (aq lB)=true:=by decide +kernel
theorem aas:aC (aK ["thing"] (aq lB) f7 bt cn xs) iY (aG lB)=true:=by decide +kernel
def lC:Stmt:=S 15
theorem aat:fnB ["signs","width","thing"] ["signs","width","thing"] (aq lC)=true:=by decide +kernel
theorem aau:aC (aK ["signs","width","thing"] (aq lC) f8 bt cn xs) iZ (aG lC)=true:=by decide +kernel
def lD:Stmt:=S 17
theorem aav:fnB ["width","thing"] ["width","thing"] (aq lD)=true:=by decide +kernel
theorem aaw:aC (aK ["width","thing"] (aq lD) f9 bt cn xs) jQ (aG lD)=true:=by decide +kernel
def lE:Stmt:=S 28
theorem aax:fnB ["width","thing"] ["width","thing"] (aq lE)=true:=by decide +kernel
theorem aay:aC (aK ["width","thing"] (aq lE) f10 bt cn xs) eH (aG lE)=true:=by decide +kernel
def lF:Stmt:=S 12
theorem aaz:fnB ["thing"] ["thing"] (aq lF)=true:=by decide +kernel
theorem aaA:aC (aK ["thing"] (aq lF) f11 bt cn xs) jR (aG lF)=true:=by decide +kernel
def lG:Stmt:=S 13
theorem aaB:fnB ["thing"] ["thing"] (aq lG)=true:=by decide +kernel
theorem aaC:aC (aK ["thing"] (aq lG) f12 bt cn xs) jT (aG lG)=true:=by decide +kernel
def lH:Stmt:=S 29
theorem aaD:fnB ["thing","width","rows"] ["thing"] (aq lH)=true:=by decide +kernel
theorem aaE:aC (aK ["thing","width","rows"] (aq lH) f13 bt cn xs) eN (aG lH)=true:=by decide +kernel
def lJ:Stmt:=S 30
theorem aaF:fnB ["book"] ["book"] (aq lJ)=true:=by decide +kernel
theorem aaG:aC (aK ["book"] (aq lJ) f14 bt cn xs) gG (aG lJ)=true:=by decide +kernel
def lK:Stmt:=S 31
theorem aaH:fnB ["one","other"] ["one","other"] (aq lK)=true:=by decide +kernel
theorem aaI:aC (aK ["one","other"] (aq lK) f15 bt cn xs) eO (aG lK)=true:=by decide +kernel
def lL:Stmt:=S 45
theorem aaJ:fnB ["one","other","box","tree","parting"] ["one","other"] (aq lL)=true:=by decide +kernel
theorem aaK:aC (aK ["one","other","box","tree","parting"] (aq lL) f16 bt cn xs) vg (aG lL)=true:=by decide +kernel
def lM:Stmt:=S 47
theorem aaL:fnB ["one","other","tree","found"] ["one","other","tree"] (aq lM)=true:=by decide +kernel
theorem aaM:aC (aK ["one","other","tree","found"] (aq lM) f17 bt cn xs) vh (aG lM)=true:=by decide +kernel
def lN:Stmt:=S 33
theorem aaN:fnB ["book","number"] ["book","number"] (aq lN)=true:=by decide +kernel
theorem aaO:aC (aK ["book","number"] (aq lN) f18 bt cn xs) jb (aG lN)=true:=by decide +kernel
def lO:Stmt:=S 18
theorem aaP:fnB ["form","word"] ["form","word"] (aq lO)=true:=by decide +kernel
theorem aaQ:aC (aK ["form","word"] (aq lO) f19 bt cn xs) jU (aG lO)=true:=by decide +kernel
def lQ:Stmt:=S 16
theorem aaR:fnB ["width","thing"] ["width","thing"] (aq lQ)=true:=by decide +kernel
theorem aaS:aC (aK ["width","thing"] (aq lQ) f20 bt cn xs) jV (aG lQ)=true:=by decide +kernel
def lR:Stmt:=S 32
theorem aaT:fnB ["book","word","width","rows","number","row"] ["book","word"] (aq lR)=true:=by decide +kernel
theorem aaU:aC (aK ["book","word","width","rows","number","row"] (aq lR) f21 bt cn xs) fM (aG lR)=true:=by decide +kernel
def lU:Stmt:=S 34
theorem aaV:fnB ["book","word"] ["book","word"] (aq lU)=true:=by decide +kernel
theorem aaW:aC (aK ["book","word"] (aq lU) f22 bt cn xs) gH (aG lU)=true:=by decide +kernel
def lV:Stmt:=S 48
theorem aaX:fnB ["one","other","word"] ["one","other","word"] (aq lV)=true:=by decide +kernel
theorem aaY:aC (aK ["one","other","word"] (aq lV) f23 bt cn xs) fO (aG lV)=true:=by decide +kernel
def lW:Stmt:=S 71
theorem aaZ:fnB ["kind","one","other","word","caught","e","some","others"] ["kind","one","other","word"] (aq lW)=true:=by decide +kernel
theorem aa0:aC (aK ["kind","one","other","word","caught","e","some","others"] (aq lW) f24 bt cn xs) vm (aG lW)=true:=by decide +kernel
def lX:Stmt:=S 72
theorem aa1:fnB ["pen","one","other","bad","wide","words","word","kind"] ["pen","one","other"] (aq lX)=true:=by decide +kernel
theorem aa2:aC (aK ["pen","one","other","bad","wide","words","word","kind"] (aq lX) f25 bt cn xs) vo (aG lX)=true:=by decide +kernel
def lY:Stmt:=S 52
theorem aa3:fnB ["pen"] ["pen"] (aq lY)=true:=by decide +kernel
theorem aa4:aC (aK ["pen"] (aq lY) f26 bt cn xs) vp (aG lY)=true:=by decide +kernel
def lZ:Stmt:=S 54
theorem aa5:fnB ["pen","width","signs"] ["pen","width","signs"] (aq lZ)=true:=by decide +kernel
theorem aa6:aC (aK ["pen","width","signs"] (aq lZ) f27 bt cn xs) vq (aG lZ)=true:=by decide +kernel
def mj:Stmt:=S 59
theorem aa7:fnB ["pen","most","some","turn","found","letters"] ["pen","most"] (aq mj)=true:=by decide +kernel
theorem aa8:aC (aK ["pen","most","some","turn","found","letters"] (aq mj) f28 bt cn xs) vy (aG mj)=true:=by decide +kernel
def mq:Stmt:=S 55
theorem aa9:fnB ["pen","width"] ["pen","width"] (aq mq)=true:=by decide +kernel
theorem aba:aC (aK ["pen","width"] (aq mq) f29 bt cn xs) vz (aG mq)=true:=by decide +kernel
def my:Stmt:=S 57
theorem abb:fnB ["pen","form","found","sign"] ["pen","form"] (aq my)=true:=by decide +kernel
theorem abd:aC (aK ["pen","form","found","sign"] (aq my) f30 bt cn xs) vA (aG my)=true:=by decide +kernel
def mz:Stmt:=S 56
theorem abe:fnB ["pen","form","found","sign"] ["pen","form"] (aq mz)=true:=by decide +kernel
theorem abf:aC (aK ["pen","form","found","sign"] (aq mz) f31 bt cn xs) vB (aG mz)=true:=by decide +kernel
def mC:Stmt:=S 58
theorem abg:fnB ["pen","width","forms","kind","form","at"] ["pen","width","forms"] (aq mC)=true:=by decide +kernel
theorem abh:aC (aK ["pen","width","forms","kind","form","at"] (aq mC) f32 bt cn xs) vC (aG mC)=true:=by decide +kernel
def mD:Stmt:=S 65
theorem abi:fnB ["pen","book","width","rows","forms","fresh","kind","at"] ["pen","book"] (aq mD)=true:=by decide +kernel
theorem abj:aC (aK ["pen","book","width","rows","forms","fresh","kind","at"] (aq mD) f33 bt cn xs) vD (aG mD)=true:=by decide +kernel
def mF:Stmt:=S 60
theorem abk:fnB ["pen","widest","most","width","deeds","forms","rows","k"] ["pen","widest","most"] (aq mF)=true:=by decide +kernel
theorem abl:aC (aK ["pen","widest","most","width","deeds","forms","rows","k"] (aq mF) f34 bt cn xs) vG (aG mF)=true:=by decide +kernel
def mG:Stmt:=S 62
theorem abm:fnB ["form","other"] ["form","other"] (aq mG)=true:=by decide +kernel
theorem abn:aC (aK ["form","other"] (aq mG) f35 bt cn xs) vH (aG mG)=true:=by decide +kernel
def mH:Stmt:=S 63
theorem abo:fnB ["pen","rows","at","form","one","stars_v","kind","place","two"] ["pen","rows"] (aq mH)=true:=by decide +kernel
theorem abp:aC (aK ["pen","rows","at","form","one","stars_v","kind","place","two"] (aq mH) f36 bt cn xs) vI (aG mH)=true:=by decide +kernel
def mJ:Stmt:=S 64
theorem abq:fnB ["pen","book","times","rows","turn"] ["pen","book","times"] (aq mJ)=true:=by decide +kernel
theorem abr:aC (aK ["pen","book","times","rows","turn"] (aq mJ) f37 bt cn xs) vJ (aG mJ)=true:=by decide +kernel
def mK:Stmt:=S 69
theorem abt:fnB ["pen","widest","most","book","kind","other","rows"] ["pen","widest","most"] (aq mK)=true:=by decide +kernel
theorem abu:aC (aK ["pen","widest","most","book","kind","other","rows"] (aq mK) f38 bt cn xs) vK (aG mK)=true:=by decide +kernel
def mL:Stmt:=S 61
theorem abv:fnB ["form","found","sign","longer","text"] ["form"] (aq mL)=true:=by decide +kernel
theorem abw:aC (aK ["form","found","sign","longer","text"] (aq mL) f39 bt cn xs) vL (aG mL)=true:=by decide +kernel
def mO:Stmt:=S 73
theorem abx:fnB ["script","pen","turn","one","other","words","k","word","found"] ["script"] (aq mO)=true:=by decide +kernel
theorem aby:aC (aK ["script","pen","turn","one","other","words","k","word","found"] (aq mO) f40 bt cn xs) vM (aG mO)=true:=by decide +kernel
def fdM(n:Str)(st:Stmt)(m:Str)(t c:Nat):FuncData:=PySem.W.fnOf n n (jl st) (aG st) (aq st) .none .none .none (.str m t) none (.ref c) .none
theorem mkF {K:PySem.W.Frag} {n m:Str} {st:Stmt} {a t c:Nat} (l:K.lookup a=some ⟨.type "function",none,.func (fdM n st m t c),⟨[]⟩⟩) (h1:PySem.W.codeIn K (.ref c) n=true) (h2:PySem.W.keepIn K (.ref a)=true):Fun K n n st a (fdM n st m t c):=Ro l h1 h2
theorem tK:type_of% @PySem.W.Fast.te538113369711794958:=PySem.W.Fast.te538113369711794958
section
variable {P:Params}
def Ks:FuncData:=fdM "_law_fits" lg "law_starsieve_k27_parting_words_and_refusals" 602 432
theorem Ku:Fun (HK.K P) "_law_fits" "_law_fits" lg 433 Ks:=mkF (by kernel_rfl) (by rw[tK];kernel_rfl) (by rw[tK];kernel_rfl)
theorem abz:PySem.W.nsIn (HK.K P) mainGlobals "_law_fits"=some (some (.ref 433)):=by rw[tK];kernel_rfl
theorem abA:Binds (HK.K P) Ks ["form","word"] []:=Ku.binds (ps:=["form","word"]) fun _ _ _ _ _ _ us hl=>by obtain ⟨x0,x1,rfl⟩:=bz hl;rfl
def Kv:FuncData:=fdM "_law_met" lq "law_starsieve_k27_parting_words_and_refusals" 602 439
theorem Kw:Fun (HK.K P) "_law_met" "_law_met" lq 440 Kv:=mkF (by kernel_rfl) (by rw[tK];kernel_rfl) (by rw[tK];kernel_rfl)
theorem abB:PySem.W.nsIn (HK.K P) mainGlobals "_law_met"=some (some (.ref 440)):=by rw[tK];kernel_rfl
theorem abC:Binds (HK.K P) Kv ["book","word"] []:=Kw.binds (ps:=["book","word"]) fun _ _ _ _ _ _ us hl=>by obtain ⟨x0,x1,rfl⟩:=bz hl;rfl
def Ky:FuncData:=fdM "_law_deed" lr "law_starsieve_k27_parting_words_and_refusals" 602 446
theorem Kz:Fun (HK.K P) "_law_deed" "_law_deed" lr 447 Ky:=mkF (by kernel_rfl) (by rw[tK];kernel_rfl) (by rw[tK];kernel_rfl)
theorem abD:PySem.W.nsIn (HK.K P) mainGlobals "_law_deed"=some (some (.ref 447)):=by rw[tK];kernel_rfl
theorem abE:Binds (HK.K P) Ky ["book","word"] []:=Kz.binds (ps:=["book","word"]) fun _ _ _ _ _ _ us hl=>by obtain ⟨x0,x1,rfl⟩:=bz hl;rfl
def KC:FuncData:=fdM "_law_open" lu "law_starsieve_k27_parting_words_and_refusals" 602 339
theorem KD:Fun (HK.K P) "_law_open" "_law_open" lu 340 KC:=mkF (by kernel_rfl) (by rw[tK];kernel_rfl) (by rw[tK];kernel_rfl)
theorem abF:PySem.W.nsIn (HK.K P) mainGlobals "_law_open"=some (some (.ref 340)):=by rw[tK];kernel_rfl
theorem abG:Binds (HK.K P) KC ["script"] []:=KD.binds (ps:=["script"]) fun _ _ _ _ _ _ us hl=>by obtain ⟨x0,rfl⟩:=eG hl;rfl
def KH:FuncData:=fdM "_law_spread" lw "law_starsieve_k27_parting_words_and_refusals" 602 332
theorem KJ:Fun (HK.K P) "_law_spread" "_law_spread" lw 333 KH:=mkF (by kernel_rfl) (by rw[tK];kernel_rfl) (by rw[tK];kernel_rfl)
theorem abH:PySem.W.nsIn (HK.K P) mainGlobals "_law_spread"=some (some (.ref 333)):=by rw[tK];kernel_rfl
theorem abI:Binds (HK.K P) KH ["cell","at"] []:=KJ.binds (ps:=["cell","at"]) fun _ _ _ _ _ _ us hl=>by obtain ⟨x0,x1,rfl⟩:=bz hl;rfl
def KN:FuncData:=fdM "_law_take" lz "law_starsieve_k27_parting_words_and_refusals" 602 353
theorem KQ:Fun (HK.K P) "_law_take" "_law_take" lz 354 KN:=mkF (by kernel_rfl) (by rw[tK];kernel_rfl) (by rw[tK];kernel_rfl)
theorem abJ:PySem.W.nsIn (HK.K P) mainGlobals "_law_take"=some (some (.ref 354)):=by rw[tK];kernel_rfl
theorem abK:Binds (HK.K P) KN ["pen","many"] []:=KQ.binds (ps:=["pen","many"]) fun _ _ _ _ _ _ us hl=>by obtain ⟨x0,x1,rfl⟩:=bz hl;rfl
def KR:FuncData:=fdM "_law_no_book" lA "law_starsieve_k27_parting_words_and_refusals" 602 458
theorem KY:Fun (HK.K P) "_law_no_book" "_law_no_book" lA 459 KR:=mkF (by kernel_rfl) (by rw[tK];kernel_rfl) (by rw[tK];kernel_rfl)
theorem abL:PySem.W.nsIn (HK.K P) mainGlobals "_law_no_book"=some (some (.ref 459)):=by rw[tK];kernel_rfl
theorem abM:Binds (HK.K P) KR ["pen","book"] []:=KY.binds (ps:=["pen","book"]) fun _ _ _ _ _ _ us hl=>by obtain ⟨x0,x1,rfl⟩:=bz hl;rfl
def KZ:FuncData:=fdM "is_deed" lB "starsieve.books" 424 200
theorem K1:Fun (HK.K P) "is_deed" "is_deed" lB 201 KZ:=mkF (by kernel_rfl) (by rw[tK];kernel_rfl) (by rw[tK];kernel_rfl)
theorem abN:PySem.W.nsIn (HK.K P) mainGlobals "is_deed"=some (some (.ref 201)):=by rw[tK];kernel_rfl
theorem iY:Binds (HK.K P) KZ ["thing"] []:=K1.binds (ps:=["thing"]) fun _ _ _ _ _ _ us hl=>by obtain ⟨x0,rfl⟩:=eG hl;rfl
def K5:FuncData:=fdM "is_text_of" lC "starsieve.forms" 335 148
theorem K6:Fun (HK.K P) "is_text_of" "is_text_of" lC 149 K5:=mkF (by kernel_rfl) (by rw[tK];kernel_rfl) (by rw[tK];kernel_rfl)
theorem abO:PySem.W.nsIn (HK.K P) mainGlobals "is_text_of"=some (some (.ref 149)):=by rw[tK];kernel_rfl
theorem iZ:Binds (HK.K P) K5 ["signs","width","thing"] []:=K6.binds (ps:=["signs","width","thing"]) fun _ _ _ _ _ _ us hl=>by obtain ⟨x0,x1,x2,rfl⟩:=dI hl;rfl
def K7:FuncData:=fdM "is_form" lD "starsieve.forms" 335 162
theorem K8:Fun (HK.K P) "is_form" "is_form" lD 163 K7:=mkF (by kernel_rfl) (by rw[tK];kernel_rfl) (by rw[tK];kernel_rfl)
theorem abP:PySem.W.nsIn (HK.K P) mainGlobals "is_form"=some (some (.ref 163)):=by rw[tK];kernel_rfl
theorem jQ:Binds (HK.K P) K7 ["width","thing"] []:=K8.binds (ps:=["width","thing"]) fun _ _ _ _ _ _ us hl=>by obtain ⟨x0,x1,rfl⟩:=bz hl;rfl
def K9:FuncData:=fdM "is_row" lE "starsieve.books" 424 207
theorem La:Fun (HK.K P) "is_row" "is_row" lE 208 K9:=mkF (by kernel_rfl) (by rw[tK];kernel_rfl) (by rw[tK];kernel_rfl)
theorem abQ:PySem.W.nsIn (HK.K P) mainGlobals "is_row"=some (some (.ref 208)):=by rw[tK];kernel_rfl
theorem eH:Binds (HK.K P) K9 ["width","thing"] []:=La.binds (ps:=["width","thing"]) fun _ _ _ _ _ _ us hl=>by obtain ⟨x0,x1,rfl⟩:=bz hl;rfl
def Lb:FuncData:=fdM "is_whole" lF "starsieve.forms" 335 129
theorem Ld:Fun (HK.K P) "is_whole" "is_whole" lF 130 Lb:=mkF (by kernel_rfl) (by rw[tK];kernel_rfl) (by rw[tK];kernel_rfl)
theorem abR:PySem.W.nsIn (HK.K P) mainGlobals "is_whole"=some (some (.ref 130)):=by rw[tK];kernel_rfl
theorem jR:Binds (HK.K P) Lb ["thing"] []:=Ld.binds (ps:=["thing"]) fun _ _ _ _ _ _ us hl=>by obtain ⟨x0,rfl⟩:=eG hl;rfl
def Lg:FuncData:=fdM "is_width" lG "starsieve.forms" 335 136
theorem Lh:Fun (HK.K P) "is_width" "is_width" lG 137 Lg:=mkF (by kernel_rfl) (by rw[tK];kernel_rfl) (by rw[tK];kernel_rfl)
theorem abS:PySem.W.nsIn (HK.K P) mainGlobals "is_width"=some (some (.ref 137)):=by rw[tK];kernel_rfl
theorem jT:Binds (HK.K P) Lg ["thing"] []:=Lh.binds (ps:=["thing"]) fun _ _ _ _ _ _ us hl=>by obtain ⟨x0,rfl⟩:=eG hl;rfl
def Li:FuncData:=fdM "is_book" lH "starsieve.books" 424 212
theorem Lj:Fun (HK.K P) "is_book" "is_book" lH 213 Li:=mkF (by kernel_rfl) (by rw[tK];kernel_rfl) (by rw[tK];kernel_rfl)
theorem abT:PySem.W.nsIn (HK.K P) mainGlobals "is_book"=some (some (.ref 213)):=by rw[tK];kernel_rfl
theorem eN:Binds (HK.K P) Li ["thing"] []:=Lj.binds (ps:=["thing"]) fun _ _ _ _ _ _ us hl=>by obtain ⟨x0,rfl⟩:=eG hl;rfl
def Lk:FuncData:=fdM "need_book" lJ "starsieve.books" 424 219
theorem Ln:Fun (HK.K P) "need_book" "need_book" lJ 220 Lk:=mkF (by kernel_rfl) (by rw[tK];kernel_rfl) (by rw[tK];kernel_rfl)
theorem abU:PySem.W.nsIn (HK.K P) mainGlobals "need_book"=some (some (.ref 220)):=by rw[tK];kernel_rfl
theorem gG:Binds (HK.K P) Lk ["book"] []:=Ln.binds (ps:=["book"]) fun _ _ _ _ _ _ us hl=>by obtain ⟨x0,rfl⟩:=eG hl;rfl
def Lp:FuncData:=fdM "need_two_books" lK "starsieve.books" 424 226
theorem Lq:Fun (HK.K P) "need_two_books" "need_two_books" lK 227 Lp:=mkF (by kernel_rfl) (by rw[tK];kernel_rfl) (by rw[tK];kernel_rfl)
theorem abV:PySem.W.nsIn (HK.K P) mainGlobals "need_two_books"=some (some (.ref 227)):=by rw[tK];kernel_rfl
theorem eO:Binds (HK.K P) Lp ["one","other"] []:=Lq.binds (ps:=["one","other"]) fun _ _ _ _ _ _ us hl=>by obtain ⟨x0,x1,rfl⟩:=bz hl;rfl
def Lr:FuncData:=fdM "alike" lL "starsieve.alike" 560 306
theorem Ls:Fun (HK.K P) "alike" "alike" lL 307 Lr:=mkF (by kernel_rfl) (by rw[tK];kernel_rfl) (by rw[tK];kernel_rfl)
theorem abW:PySem.W.nsIn (HK.K P) mainGlobals "alike"=some (some (.ref 307)):=by rw[tK];kernel_rfl
theorem abX:Binds (HK.K P) Lr ["one","other"] []:=Ls.binds (ps:=["one","other"]) fun _ _ _ _ _ _ us hl=>by obtain ⟨x0,x1,rfl⟩:=bz hl;rfl
def Lw:FuncData:=fdM "is_alike" lM "starsieve.alike" 560 318
theorem Lx:Fun (HK.K P) "is_alike" "is_alike" lM 319 Lw:=mkF (by kernel_rfl) (by rw[tK];kernel_rfl) (by rw[tK];kernel_rfl)
theorem abY:PySem.W.nsIn (HK.K P) mainGlobals "is_alike"=some (some (.ref 319)):=by rw[tK];kernel_rfl
theorem abZ:Binds (HK.K P) Lw ["one","other","tree"] []:=Lx.binds (ps:=["one","other","tree"]) fun _ _ _ _ _ _ us hl=>by obtain ⟨x0,x1,x2,rfl⟩:=dI hl;rfl
def Ly:FuncData:=fdM "deed_of" lN "starsieve.books" 424 240
theorem Lz:Fun (HK.K P) "deed_of" "deed_of" lN 241 Ly:=mkF (by kernel_rfl) (by rw[tK];kernel_rfl) (by rw[tK];kernel_rfl)
theorem ab0:PySem.W.nsIn (HK.K P) mainGlobals "deed_of"=some (some (.ref 241)):=by rw[tK];kernel_rfl
theorem jb:Binds (HK.K P) Ly ["book","number"] []:=Lz.binds (ps:=["book","number"]) fun _ _ _ _ _ _ us hl=>by obtain ⟨x0,x1,rfl⟩:=bz hl;rfl
def LC:FuncData:=fdM "fits" lO "starsieve.forms" 335 167
theorem LK:Fun (HK.K P) "fits" "fits" lO 168 LC:=mkF (by kernel_rfl) (by rw[tK];kernel_rfl) (by rw[tK];kernel_rfl)
theorem ab1:PySem.W.nsIn (HK.K P) mainGlobals "fits"=some (some (.ref 168)):=by rw[tK];kernel_rfl
theorem jU:Binds (HK.K P) LC ["form","word"] []:=LK.binds (ps:=["form","word"]) fun _ _ _ _ _ _ us hl=>by obtain ⟨x0,x1,rfl⟩:=bz hl;rfl
def LQ:FuncData:=fdM "is_word" lQ "starsieve.forms" 335 155
theorem LR:Fun (HK.K P) "is_word" "is_word" lQ 156 LQ:=mkF (by kernel_rfl) (by rw[tK];kernel_rfl) (by rw[tK];kernel_rfl)
theorem ab2:PySem.W.nsIn (HK.K P) mainGlobals "is_word"=some (some (.ref 156)):=by rw[tK];kernel_rfl
theorem jV:Binds (HK.K P) LQ ["width","thing"] []:=LR.binds (ps:=["width","thing"]) fun _ _ _ _ _ _ us hl=>by obtain ⟨x0,x1,rfl⟩:=bz hl;rfl
def Ma:FuncData:=fdM "met" lR "starsieve.books" 424 233
theorem Mg:Fun (HK.K P) "met" "met" lR 234 Ma:=mkF (by kernel_rfl) (by rw[tK];kernel_rfl) (by rw[tK];kernel_rfl)
theorem ab3:PySem.W.nsIn (HK.K P) mainGlobals "met"=some (some (.ref 234)):=by rw[tK];kernel_rfl
theorem fM:Binds (HK.K P) Ma ["book","word"] []:=Mg.binds (ps:=["book","word"]) fun _ _ _ _ _ _ us hl=>by obtain ⟨x0,x1,rfl⟩:=bz hl;rfl
def Mh:FuncData:=fdM "deed" lU "starsieve.books" 424 247
theorem Mi:Fun (HK.K P) "deed" "deed" lU 248 Mh:=mkF (by kernel_rfl) (by rw[tK];kernel_rfl) (by rw[tK];kernel_rfl)
theorem ab4:PySem.W.nsIn (HK.K P) mainGlobals "deed"=some (some (.ref 248)):=by rw[tK];kernel_rfl
theorem gH:Binds (HK.K P) Mh ["book","word"] []:=Mi.binds (ps:=["book","word"]) fun _ _ _ _ _ _ us hl=>by obtain ⟨x0,x1,rfl⟩:=bz hl;rfl
def Mj:FuncData:=fdM "parts" lV "starsieve.alike" 560 325
theorem Ml:Fun (HK.K P) "parts" "parts" lV 326 Mj:=mkF (by kernel_rfl) (by rw[tK];kernel_rfl) (by rw[tK];kernel_rfl)
theorem ab5:PySem.W.nsIn (HK.K P) mainGlobals "parts"=some (some (.ref 326)):=by rw[tK];kernel_rfl
theorem fO:Binds (HK.K P) Mj ["one","other","word"] []:=Ml.binds (ps:=["one","other","word"]) fun _ _ _ _ _ _ us hl=>by obtain ⟨x0,x1,x2,rfl⟩:=dI hl;rfl
def Mm:FuncData:=fdM "_law_told" lW "law_starsieve_k27_parting_words_and_refusals" 602 465
theorem Mp:Fun (HK.K P) "_law_told" "_law_told" lW 466 Mm:=mkF (by kernel_rfl) (by rw[tK];kernel_rfl) (by rw[tK];kernel_rfl)
theorem ab6:PySem.W.nsIn (HK.K P) mainGlobals "_law_told"=some (some (.ref 466)):=by rw[tK];kernel_rfl
theorem ab7:Binds (HK.K P) Mm ["kind","one","other","word"] []:=Mp.binds (ps:=["kind","one","other","word"]) fun _ _ _ _ _ _ us hl=>by obtain ⟨x0,x1,x2,x3,rfl⟩:=Xw hl;rfl
def Mq:FuncData:=fdM "_law_refused" lX "law_starsieve_k27_parting_words_and_refusals" 602 472
theorem Mr:Fun (HK.K P) "_law_refused" "_law_refused" lX 473 Mq:=mkF (by kernel_rfl) (by rw[tK];kernel_rfl) (by rw[tK];kernel_rfl)
theorem ab8:PySem.W.nsIn (HK.K P) mainGlobals "_law_refused"=some (some (.ref 473)):=by rw[tK];kernel_rfl
theorem ab9:Binds (HK.K P) Mq ["pen","one","other"] []:=Mr.binds (ps:=["pen","one","other"]) fun _ _ _ _ _ _ us hl=>by obtain ⟨x0,x1,x2,rfl⟩:=dI hl;rfl
def Ms:FuncData:=fdM "_law_anew" lY "law_starsieve_k27_parting_words_and_refusals" 602 346
theorem Mt:Fun (HK.K P) "_law_anew" "_law_anew" lY 347 Ms:=mkF (by kernel_rfl) (by rw[tK];kernel_rfl) (by rw[tK];kernel_rfl)
theorem aca:PySem.W.nsIn (HK.K P) mainGlobals "_law_anew"=some (some (.ref 347)):=by rw[tK];kernel_rfl
theorem acb:Binds (HK.K P) Ms ["pen"] []:=Mt.binds (ps:=["pen"]) fun _ _ _ _ _ _ us hl=>by obtain ⟨x0,rfl⟩:=eG hl;rfl
def Mu:FuncData:=fdM "_law_signs" lZ "law_starsieve_k27_parting_words_and_refusals" 602 358
theorem Mv:Fun (HK.K P) "_law_signs" "_law_signs" lZ 359 Mu:=mkF (by kernel_rfl) (by rw[tK];kernel_rfl) (by rw[tK];kernel_rfl)
theorem acd:PySem.W.nsIn (HK.K P) mainGlobals "_law_signs"=some (some (.ref 359)):=by rw[tK];kernel_rfl
theorem ace:Binds (HK.K P) Mu ["pen","width","signs"] []:=Mv.binds (ps:=["pen","width","signs"]) fun _ _ _ _ _ _ us hl=>by obtain ⟨x0,x1,x2,rfl⟩:=dI hl;rfl
def Mw:FuncData:=fdM "_law_deeds_of" mj "law_starsieve_k27_parting_words_and_refusals" 602 391
theorem Mx:Fun (HK.K P) "_law_deeds_of" "_law_deeds_of" mj 392 Mw:=mkF (by kernel_rfl) (by rw[tK];kernel_rfl) (by rw[tK];kernel_rfl)
theorem acf:PySem.W.nsIn (HK.K P) mainGlobals "_law_deeds_of"=some (some (.ref 392)):=by rw[tK];kernel_rfl
theorem acg:Binds (HK.K P) Mw ["pen","most"] []:=Mx.binds (ps:=["pen","most"]) fun _ _ _ _ _ _ us hl=>by obtain ⟨x0,x1,rfl⟩:=bz hl;rfl
def My:FuncData:=fdM "_law_form" mq "law_starsieve_k27_parting_words_and_refusals" 602 365
theorem Mz:Fun (HK.K P) "_law_form" "_law_form" mq 366 My:=mkF (by kernel_rfl) (by rw[tK];kernel_rfl) (by rw[tK];kernel_rfl)
theorem ach:PySem.W.nsIn (HK.K P) mainGlobals "_law_form"=some (some (.ref 366)):=by rw[tK];kernel_rfl
theorem aci:Binds (HK.K P) My ["pen","width"] []:=Mz.binds (ps:=["pen","width"]) fun _ _ _ _ _ _ us hl=>by obtain ⟨x0,x1,rfl⟩:=bz hl;rfl
def MF:FuncData:=fdM "_law_wider" my "law_starsieve_k27_parting_words_and_refusals" 602 379
theorem MJ:Fun (HK.K P) "_law_wider" "_law_wider" my 380 MF:=mkF (by kernel_rfl) (by rw[tK];kernel_rfl) (by rw[tK];kernel_rfl)
theorem acj:PySem.W.nsIn (HK.K P) mainGlobals "_law_wider"=some (some (.ref 380)):=by rw[tK];kernel_rfl
theorem ack:Binds (HK.K P) MF ["pen","form"] []:=MJ.binds (ps:=["pen","form"]) fun _ _ _ _ _ _ us hl=>by obtain ⟨x0,x1,rfl⟩:=bz hl;rfl
def MK:FuncData:=fdM "_law_within" mz "law_starsieve_k27_parting_words_and_refusals" 602 372
theorem MN:Fun (HK.K P) "_law_within" "_law_within" mz 373 MK:=mkF (by kernel_rfl) (by rw[tK];kernel_rfl) (by rw[tK];kernel_rfl)
theorem acl:PySem.W.nsIn (HK.K P) mainGlobals "_law_within"=some (some (.ref 373)):=by rw[tK];kernel_rfl
theorem acn:Binds (HK.K P) MK ["pen","form"] []:=MN.binds (ps:=["pen","form"]) fun _ _ _ _ _ _ us hl=>by obtain ⟨x0,x1,rfl⟩:=bz hl;rfl
def MP:FuncData:=fdM "_law_form_like" mC "law_starsieve_k27_parting_words_and_refusals" 602 386
theorem MT:Fun (HK.K P) "_law_form_like" "_law_form_like" mC 387 MP:=mkF (by kernel_rfl) (by rw[tK];kernel_rfl) (by rw[tK];kernel_rfl)
theorem aco:PySem.W.nsIn (HK.K P) mainGlobals "_law_form_like"=some (some (.ref 387)):=by rw[tK];kernel_rfl
theorem acp:Binds (HK.K P) MP ["pen","width","forms"] []:=MT.binds (ps:=["pen","width","forms"]) fun _ _ _ _ _ _ us hl=>by obtain ⟨x0,x1,x2,rfl⟩:=dI hl;rfl
def M3:FuncData:=fdM "_law_bent_book" mD "law_starsieve_k27_parting_words_and_refusals" 602 425
theorem M4:Fun (HK.K P) "_law_bent_book" "_law_bent_book" mD 426 M3:=mkF (by kernel_rfl) (by rw[tK];kernel_rfl) (by rw[tK];kernel_rfl)
theorem acq:PySem.W.nsIn (HK.K P) mainGlobals "_law_bent_book"=some (some (.ref 426)):=by rw[tK];kernel_rfl
theorem acr:Binds (HK.K P) M3 ["pen","book"] []:=M4.binds (ps:=["pen","book"]) fun _ _ _ _ _ _ us hl=>by obtain ⟨x0,x1,rfl⟩:=bz hl;rfl
def M5:FuncData:=fdM "_law_book" mF "law_starsieve_k27_parting_words_and_refusals" 602 398
theorem M6:Fun (HK.K P) "_law_book" "_law_book" mF 399 M5:=mkF (by kernel_rfl) (by rw[tK];kernel_rfl) (by rw[tK];kernel_rfl)
theorem acs:PySem.W.nsIn (HK.K P) mainGlobals "_law_book"=some (some (.ref 399)):=by rw[tK];kernel_rfl
theorem acu:Binds (HK.K P) M5 ["pen","widest","most"] []:=M6.binds (ps:=["pen","widest","most"]) fun _ _ _ _ _ _ us hl=>by obtain ⟨x0,x1,x2,rfl⟩:=dI hl;rfl
def M7:FuncData:=fdM "_law_meet" mG "law_starsieve_k27_parting_words_and_refusals" 602 408
theorem M8:Fun (HK.K P) "_law_meet" "_law_meet" mG 409 M7:=mkF (by kernel_rfl) (by rw[tK];kernel_rfl) (by rw[tK];kernel_rfl)
theorem acv:PySem.W.nsIn (HK.K P) mainGlobals "_law_meet"=some (some (.ref 409)):=by rw[tK];kernel_rfl
theorem acw:Binds (HK.K P) M7 ["form","other"] []:=M8.binds (ps:=["form","other"]) fun _ _ _ _ _ _ us hl=>by obtain ⟨x0,x1,rfl⟩:=bz hl;rfl
def M9:FuncData:=fdM "_law_one_turning" mH "law_starsieve_k27_parting_words_and_refusals" 602 413
theorem Nb:Fun (HK.K P) "_law_one_turning" "_law_one_turning" mH 414 M9:=mkF (by kernel_rfl) (by rw[tK];kernel_rfl) (by rw[tK];kernel_rfl)
theorem acx:PySem.W.nsIn (HK.K P) mainGlobals "_law_one_turning"=some (some (.ref 414)):=by rw[tK];kernel_rfl
theorem acy:Binds (HK.K P) M9 ["pen","rows"] []:=Nb.binds (ps:=["pen","rows"]) fun _ _ _ _ _ _ us hl=>by obtain ⟨x0,x1,rfl⟩:=bz hl;rfl
def Nf:FuncData:=fdM "_law_turned_alike" mJ "law_starsieve_k27_parting_words_and_refusals" 602 420
theorem Ng:Fun (HK.K P) "_law_turned_alike" "_law_turned_alike" mJ 421 Nf:=mkF (by kernel_rfl) (by rw[tK];kernel_rfl) (by rw[tK];kernel_rfl)
theorem acz:PySem.W.nsIn (HK.K P) mainGlobals "_law_turned_alike"=some (some (.ref 421)):=by rw[tK];kernel_rfl
theorem acA:Binds (HK.K P) Nf ["pen","book","times"] []:=Ng.binds (ps:=["pen","book","times"]) fun _ _ _ _ _ _ us hl=>by obtain ⟨x0,x1,x2,rfl⟩:=dI hl;rfl
def Nh:FuncData:=fdM "_law_two_books" mK "law_starsieve_k27_parting_words_and_refusals" 602 451
theorem Ni:Fun (HK.K P) "_law_two_books" "_law_two_books" mK 452 Nh:=mkF (by kernel_rfl) (by rw[tK];kernel_rfl) (by rw[tK];kernel_rfl)
theorem acB:PySem.W.nsIn (HK.K P) mainGlobals "_law_two_books"=some (some (.ref 452)):=by rw[tK];kernel_rfl
theorem acC:Binds (HK.K P) Nh ["pen","widest","most"] []:=Ni.binds (ps:=["pen","widest","most"]) fun _ _ _ _ _ _ us hl=>by obtain ⟨x0,x1,x2,rfl⟩:=dI hl;rfl
def Nj:FuncData:=fdM "_law_words" mL "law_starsieve_k27_parting_words_and_refusals" 602 403
theorem Nk:Fun (HK.K P) "_law_words" "_law_words" mL 404 Nj:=mkF (by kernel_rfl) (by rw[tK];kernel_rfl) (by rw[tK];kernel_rfl)
theorem acD:PySem.W.nsIn (HK.K P) mainGlobals "_law_words"=some (some (.ref 404)):=by rw[tK];kernel_rfl
theorem acE:Binds (HK.K P) Nj ["form"] []:=Nk.binds (ps:=["form"]) fun _ _ _ _ _ _ us hl=>by obtain ⟨x0,rfl⟩:=eG hl;rfl
def wL:FuncData:=fdM "law" mO "law_starsieve_k27_parting_words_and_refusals" 602 479
theorem acF:Fun (HK.K P) "law" "law" mO 480 wL:=mkF (by kernel_rfl) (by rw[tK];kernel_rfl) (by rw[tK];kernel_rfl)
theorem acG:PySem.W.nsIn (HK.K P) mainGlobals "law"=some (some (.ref 480)):=by rw[tK];kernel_rfl
theorem acH:PySem.W.nsIn (HK.K P) mainGlobals "all"=some none:=by rw[tK];kernel_rfl
theorem acI:PySem.W.nsIn (HK.K P) mainGlobals "bool"=some none:=by rw[tK];kernel_rfl
theorem acJ:PySem.W.nsIn (HK.K P) mainGlobals "enumerate"=some none:=by rw[tK];kernel_rfl
theorem acK:PySem.W.nsIn (HK.K P) mainGlobals "int"=some none:=by rw[tK];kernel_rfl
theorem acL:PySem.W.nsIn (HK.K P) mainGlobals "isinstance"=some none:=by rw[tK];kernel_rfl
theorem acM:PySem.W.nsIn (HK.K P) mainGlobals "len"=some none:=by rw[tK];kernel_rfl
theorem acN:PySem.W.nsIn (HK.K P) mainGlobals "list"=some none:=by rw[tK];kernel_rfl
theorem acO:PySem.W.nsIn (HK.K P) mainGlobals "range"=some none:=by rw[tK];kernel_rfl
theorem acP:PySem.W.nsIn (HK.K P) mainGlobals "str"=some none:=by rw[tK];kernel_rfl
theorem acQ:PySem.W.nsIn (HK.K P) mainGlobals "tuple"=some none:=by rw[tK];kernel_rfl
theorem acR:PySem.W.nsIn (HK.K P) mainGlobals "zip"=some none:=by rw[tK];kernel_rfl
theorem acS:PySem.W.nsIn (HK.K P) mainGlobals "LETTERS"=some (some (.str "abcdefghijklmnopqrstuvwxyz" 430)):=by rw[tK];kernel_rfl
theorem acT:PySem.W.nsIn (HK.K P) mainGlobals "LONGEST_DEED"=some (some (.int 8 428)):=by rw[tK];kernel_rfl
theorem acU:PySem.W.nsIn (HK.K P) mainGlobals "MOST_ROWS"=some (some (.int 12 426)):=by rw[tK];kernel_rfl
theorem acV:PySem.W.nsIn (HK.K P) mainGlobals "WIDEST"=some (some (.int 6 337)):=by rw[tK];kernel_rfl
theorem x_s:xsB (HK.K P) xs=true:=by rw[tK];kernel_rfl
end
section
variable {l:PySem.W.OpenLaw} {w:World} {h:Heap} {mg:Str→Option Value} {base:Heap} (X:(HK.K w.params).In h) (G:h.Ns mainGlobals mg)
include X G
theorem B0:Bse Φ l.prog w (HK.K w.params) mg base (CX1 l.prog w) 0 f0 bt cn xs:=bse trivial ⟨mg_none_of X G acH,mg_none_of X G acI,mg_none_of X G acJ,mg_none_of X G acK,mg_none_of X G acL,mg_none_of X G acM,mg_none_of X G acN,mg_none_of X G acO,mg_none_of X G acP,mg_none_of X G acQ,mg_none_of X G acR,trivial⟩ ⟨Xz (mg_of X G acS) (by decide +kernel) (by decide),uX (mg_of X G acT),uX (mg_of X G acU),uX (mg_of X G acV),trivial⟩ X G x_s
theorem B1:Bse Φ l.prog w (HK.K w.params) mg base (CX1 l.prog w) 1 f1 bt cn xs:=(B0 X G).step Ku abA (mg_of X G abz) JQ 2 aad aae rfl rfl (dG (fun ds G d h=>Ze Φ  ds G d h))
theorem B2:Bse Φ l.prog w (HK.K w.params) mg base (CX1 l.prog w) 2 f2 bt cn xs:=(B1 X G).step Kw abC (mg_of X G abB) JR 2 aaf aag rfl rfl (qN (fun a G h=>Zh Φ JQ a G h))
theorem B3:Bse Φ l.prog w (HK.K w.params) mg base (CX1 l.prog w) 3 f3 bt cn xs:=(B2 X G).step Kz abE (mg_of X G abD) JS 1 aah aai rfl rfl (qN (fun a G h=>Z2 Φ JR a G h))
theorem B4:Bse Φ l.prog w (HK.K w.params) mg base (CX1 l.prog w) 4 f4 bt cn xs:=(B3 X G).step KD abG (mg_of X G abF) JT 3 aaj aak rfl rfl (bI (fun ds G h=>X3 Φ  ds G h))
theorem B5:Bse Φ l.prog w (HK.K w.params) mg base (CX1 l.prog w) 5 f5 bt cn xs:=(B4 X G).step KJ abI (mg_of X G abH) JV 3 aal aam rfl rfl (bI (fun ds G h=>XH Φ  ds G h))
theorem B6:Bse Φ l.prog w (HK.K w.params) mg base (CX1 l.prog w) 6 f6 bt cn xs:=(B5 X G).step KQ abK (mg_of X G abJ) cD 3 aan aao rfl rfl (bI (fun ds G h=>XM Φ JV ds G h))
theorem B7:Bse Φ l.prog w (HK.K w.params) mg base (CX1 l.prog w) 7 f7 bt cn xs:=(B6 X G).step KY abM (mg_of X G abL) JW 3 aap aaq rfl rfl (fL (fun a ds G h=>Z1 Φ cD a ds G h))
theorem B8:Bse Φ l.prog w (HK.K w.params) mg base (CX1 l.prog w) 8 f8 bt cn xs:=(B7 X G).step K1 iY (mg_of X G abN) JX 0 aar aas rfl rfl (dG (fun ds G d h=>Yx Φ  ds G d h))
theorem B9:Bse Φ l.prog w (HK.K w.params) mg base (CX1 l.prog w) 9 f9 bt cn xs:=(B8 X G).step K6 iZ (mg_of X G abO) wA 0 aat aau rfl rfl (dG (fun ds G d h=>X6 Φ  ds G d h))
theorem B10:Bse Φ l.prog w (HK.K w.params) mg base (CX1 l.prog w) 10 f10 bt cn xs:=(B9 X G).step K8 jQ (mg_of X G abP) JZ 0 aav aaw rfl rfl (dG (fun ds G d h=>X8 Φ wA ds G d h))
theorem B11:Bse Φ l.prog w (HK.K w.params) mg base (CX1 l.prog w) 11 f11 bt cn xs:=(B10 X G).step La eH (mg_of X G abQ) J0 0 aax aay rfl rfl (dG (fun ds G d h=>Yy Φ JZ JX ds G d h))
theorem B12:Bse Φ l.prog w (HK.K w.params) mg base (CX1 l.prog w) 12 f12 bt cn xs:=(B11 X G).step Ld jR (mg_of X G abR) J1 0 aaz aaA rfl rfl (dG (fun ds G d h=>X4 Φ  ds G d h))
theorem B13:Bse Φ l.prog w (HK.K w.params) mg base (CX1 l.prog w) 13 f13 bt cn xs:=(B12 X G).step Lh jT (mg_of X G abS) J2 0 aaB aaC rfl rfl (dG (fun ds G d h=>X5 Φ J1 ds G d h))
theorem B14:Bse Φ l.prog w (HK.K w.params) mg base (CX1 l.prog w) 14 f14 bt cn xs:=(B13 X G).step Lj eN (mg_of X G abT) wB 2 aaD aaE rfl rfl (dG (fun ds G d h=>Yz Φ J2 J0 ds G d h))
theorem B15:Bse Φ l.prog w (HK.K w.params) mg base (CX1 l.prog w) 15 f15 bt cn xs:=(B14 X G).stepX Ln gG (mg_of X G abU) kY 0 aaF aaG rfl rfl (gJ rfl (bI (fun ds G h=>YK Φ wB ds G h)) (fun ds G C h=>YL Φ wB ds G C h))
theorem B16:Bse Φ l.prog w (HK.K w.params) mg base (CX1 l.prog w) 16 f16 bt cn xs:=(B15 X G).stepX Lq eO (mg_of X G abV) kZ 0 aaH aaI rfl rfl (gJ rfl (bI (fun ds G h=>Zz Φ kY ds G h)) (fun ds G C h=>ZC Φ kY ds G C h))
theorem B17:Bse Φ l.prog w (HK.K w.params) mg base (CX1 l.prog w) 17 f17 bt cn xs:=(B16 X G).stepX Ls abX (mg_of X G abW) J7 3 aaJ aaK rfl rfl (gJ rfl (bI (fun ds G h=>h.elim)) (fun ds G C h=>ZD Φ kZ ds G C h))
theorem B18:Bse Φ l.prog w (HK.K w.params) mg base (CX1 l.prog w) 18 f18 bt cn xs:=(B17 X G).stepX Lx abZ (mg_of X G abY) J8 1 aaL aaM rfl rfl (gJ rfl (bI (fun ds G h=>h.elim)) (fun ds G C h=>ZF Φ kZ ds G C h))
theorem B19:Bse Φ l.prog w (HK.K w.params) mg base (CX1 l.prog w) 19 f19 bt cn xs:=(B18 X G).step Lz jb (mg_of X G ab0) J9 0 aaN aaO rfl rfl (bI (fun ds G h=>Y4 Φ  ds G h))
theorem B20:Bse Φ l.prog w (HK.K w.params) mg base (CX1 l.prog w) 20 f20 bt cn xs:=(B19 X G).step LK jU (mg_of X G ab1) Ka 0 aaP aaQ rfl rfl (dG (fun ds G d h=>YQ Φ  ds G d h))
theorem B21:Bse Φ l.prog w (HK.K w.params) mg base (CX1 l.prog w) 21 f21 bt cn xs:=(B20 X G).step LR jV (mg_of X G ab2) wC 0 aaR aaS rfl rfl (dG (fun ds G d h=>X7 Φ wA ds G d h))
theorem B22:Bse Φ l.prog w (HK.K w.params) mg base (CX1 l.prog w) 22 f22 bt cn xs:=(B21 X G).stepX Mg fM (mg_of X G ab3) wD 4 aaT aaU rfl rfl (gJ rfl (bI (fun ds G h=>YW Φ kY wC Ka ds G h)) (fun ds G C h=>YX Φ kY wC ds G C h))
theorem B23:Bse Φ l.prog w (HK.K w.params) mg base (CX1 l.prog w) 23 f23 bt cn xs:=(B22 X G).stepX Mi gH (mg_of X G ab4) wF 0 aaV aaW rfl rfl (gJ rfl (bI (fun ds G h=>Y6 Φ J9 wD ds G h)) (fun ds G C h=>Y7 Φ wD ds G C h))
theorem B24:Bse Φ l.prog w (HK.K w.params) mg base (CX1 l.prog w) 24 f24 bt cn xs:=(B23 X G).stepX Ml fO (mg_of X G ab5) wG 0 aaX aaY rfl rfl (gJ rfl (fL (fun a ds G h=>ZK Φ kZ wF a ds G h)) (fun ds G C h=>ZL Φ kZ wF ds G C h))
theorem B25:Bse Φ l.prog w (HK.K w.params) mg base (CX1 l.prog w) 25 f25 bt cn xs:=(B24 X G).step Mp ab7 (mg_of X G ab6) Kc 4 aaZ aa0 rfl rfl (qN (fun a G h=>ZP Φ J7 J8 wG a G h))
theorem B26:Bse Φ l.prog w (HK.K w.params) mg base (CX1 l.prog w) 26 f26 bt cn xs:=(B25 X G).step Mr ab9 (mg_of X G ab8) Kd 5 aa1 aa2 rfl rfl (fL (fun a ds G h=>Z4 Φ JW cD Kc a ds G h))
theorem B27:Bse Φ l.prog w (HK.K w.params) mg base (CX1 l.prog w) 27 f27 bt cn xs:=(B26 X G).step Mt acb (mg_of X G aca) Ke 0 aa3 aa4 rfl rfl (bI (fun ds G h=>XJ Φ  ds G h))
theorem B28:Bse Φ l.prog w (HK.K w.params) mg base (CX1 l.prog w) 28 f28 bt cn xs:=(B27 X G).step Mv ace (mg_of X G acd) wH 0 aa5 aa6 rfl rfl (bI (fun ds G h=>XS Φ cD ds G h))
theorem B29:Bse Φ l.prog w (HK.K w.params) mg base (CX1 l.prog w) 29 f29 bt cn xs:=(B28 X G).step Mx acg (mg_of X G acf) wI 4 aa7 aa8 rfl rfl (bI (fun ds G h=>Yn Φ cD wH ds G h))
theorem B30:Bse Φ l.prog w (HK.K w.params) mg base (CX1 l.prog w) 30 f30 bt cn xs:=(B29 X G).step Mz aci (mg_of X G ach) Kf 0 aa9 aba rfl rfl (bI (fun ds G h=>XX Φ cD wH ds G h))
theorem B31:Bse Φ l.prog w (HK.K w.params) mg base (CX1 l.prog w) 31 f31 bt cn xs:=(B30 X G).step MJ ack (mg_of X G acj) Kg 2 abb abd rfl rfl (bI (fun ds G h=>Yg Φ cD ds G h))
theorem B32:Bse Φ l.prog w (HK.K w.params) mg base (CX1 l.prog w) 32 f32 bt cn xs:=(B31 X G).step MN acn (mg_of X G acl) wJ 2 abe abf rfl rfl (bI (fun ds G h=>Ye Φ cD ds G h))
theorem B33:Bse Φ l.prog w (HK.K w.params) mg base (CX1 l.prog w) 33 f33 bt cn xs:=(B32 X G).step MT acp (mg_of X G aco) wK 3 abg abh rfl rfl (bI (fun ds G h=>Yk Φ cD Kf wJ Kg ds G h))
theorem B34:Bse Φ l.prog w (HK.K w.params) mg base (CX1 l.prog w) 34 f34 bt cn xs:=(B33 X G).step M4 acr (mg_of X G acq) Kh 6 abi abj rfl rfl (fL (fun a ds G h=>Zu Φ cD wK wI a ds G h))
theorem B35:Bse Φ l.prog w (HK.K w.params) mg base (CX1 l.prog w) 35 f35 bt cn xs:=(B34 X G).step M6 acu (mg_of X G acs) Kl 5 abk abl rfl rfl (bI (fun ds G h=>Yo Φ cD wI wK ds G h))
theorem B36:Bse Φ l.prog w (HK.K w.params) mg base (CX1 l.prog w) 36 f36 bt cn xs:=(B35 X G).step M8 acw (mg_of X G acv) Km 0 abm abn rfl rfl (qN (fun a G h=>Zi Φ  a G h))
theorem B37:Bse Φ l.prog w (HK.K w.params) mg base (CX1 l.prog w) 37 f37 bt cn xs:=(B36 X G).step Nb acy (mg_of X G acx) Ko 7 abo abp rfl rfl (fL (fun a ds G h=>Zm Φ cD wJ Km a ds G h))
theorem B38:Bse Φ l.prog w (HK.K w.params) mg base (CX1 l.prog w) 38 f38 bt cn xs:=(B37 X G).step Ng acA (mg_of X G acz) Kp 2 abq abr rfl rfl (fL (fun a ds G h=>Zn Φ Ko a ds G h))
theorem B39:Bse Φ l.prog w (HK.K w.params) mg base (CX1 l.prog w) 39 f39 bt cn xs:=(B38 X G).step Ni acC (mg_of X G acB) Kq 4 abt abu rfl rfl (fL (fun a ds G h=>Zx Φ cD Kl Ke Kp Kh a ds G h))
theorem B40:Bse Φ l.prog w (HK.K w.params) mg base (CX1 l.prog w) 40 f40 bt cn xs:=(B39 X G).step Nk acE (mg_of X G acD) Kr 4 abv abw rfl rfl (bI (fun ds G h=>Yu Φ  ds G h))
theorem acW:FnOk l.prog w (HK.K w.params) mg base (CX1 l.prog w) 41 480 wL ["script"] (lift (HK.K w.params) 1 (jX)):=Bx acF (B40 X G) (jX) 1 8 abx aby rfl rfl (bI (fun ds G h=>Z6 Φ ⟨JT,Kq,Kr,cD,wG,JS,Kd⟩ ds G h))
omit X G in
theorem all (fa:Addr) (X:(HK.K w.params).In h) (G:h.Ns mainGlobals mg) (hfa:mg "law"=some (.ref fa)):∃fd:FuncData,(∀(s:Shared) (v:Value),BindsTo s fd ⟨[v],[]⟩ [("script",v)])∧∀base:Heap,(HK.K w.params).In base→base.Ns mainGlobals mg→FnOk l.prog w (HK.K w.params) mg base (CX1 l.prog w) 41 fa fd ["script"] (lift (HK.K w.params) 1 (jX)):=by
 have e:=hfa.symm.trans (PySem.W.mg_of X G acG)
 cases e
 exact ⟨wL,fun s v=>.of_eq rfl,fun base _ _=>acW X G⟩
end
theorem walk {l:PySem.W.OpenLaw} {q:Program} {loose:List Str} {XP:(Str→Option Value)→Heap→Prop} {d:DefRec} (hn:l.most=some 63) (hdf:d.params.defaults=[]) (hdn:d.name="law"):
  PySem.W.WalkO q loose XP HK.hook.says l.row.toRowW d [] (fun f vs=>PySem.call f vs):=
 L2.Rn (n:=63) (k:=41) (x:="script") (K:=HK.K) (CX:=fun w=>CX1 l.prog w) (sp:=fun w=>lift (HK.K w.params) 1 (jX)) hn (by decide) hdf ⟨rfl,by decide,by decide⟩ (fun _ _ Y=>Y) (fun w mg fa h X G hmg=>all fa X G (hdn ▸ hmg)) (fun w H a ns hl hO hS=>XC (XD fun ns _ hl=>⟨ns,rfl,hl⟩) (HK.K w.params) H a ns hl hO hS) fun _ _ _ _ _ z=>Xl z
end Lk27
open PySem PySem.W PyProof.Rows
set_option maxRecDepth 100000 in
set_option maxHeartbeats 0 in
theorem PySem.Challenge.cw_starsieve_k27_parting_words_and_refusals_holds : PySem.Challenge.rw_starsieve_k27_parting_words_and_refusals.Holds := by
 have said:PySem.Challenge.rw_starsieve_k27_parting_words_and_refusals.row.wellSaid=true:=by decide +kernel
 refine ⟨by decide +kernel,?_⟩
 refine PySem.W.holds_open (q:=HK.qv) (loose:=[]) (Xt:=HK.Xt) (XP:=XL HK.qv []) (Yf:=HK.hook.obs) (Ya:=HK.hook.val) (YP:=HK.hook.says) (N:=12000) HK.left HK.hook.of HK.hook.keeps
  (fun s e=>xl_of s (Bool.and_eq_true_iff.mp e).1) XL.keeps (by rfl) (by rfl) (by rfl) (fun s e=>recFacts_of (Bool.and_eq_true_iff.mp e).2) (by rfl) (by assumption) (by decide +kernel) ⟨rfl,rfl,rfl,rfl,rfl,by decide +kernel⟩ ?hw ?hc
 case hw=>exact ⟨[.list []],by decide +kernel,by decide +kernel⟩
 exact Lk27.walk rfl rfl rfl
