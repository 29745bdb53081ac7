import PyProof.Rows.All
import Wide.All
import OpenK.AllK
import Wide.FinOn
import Lean
import PyProof.EqAt
import PyProof.EqKinds
import PyProof.TupleCall
import PyProof.NeKinds
import PyProof.FactsAll.range_2
import PyProof.FactsAll.tuple_2
import PyProof.FactsAll.tuple
import PyProof.ListRange
import PyProof.ExcInit
import PySem.Challenge.RW_starsieve_k43_books_pressed
set_option compiler.extract_closed false
set_option bootstrap.genMatcherCode false
set_option genSizeOf false
set_option Elab.async false
set_option maxRecDepth 100000
noncomputable section
local macro_rules|`(def $n:declId $s:optDeclSig $v:declVal)=>do return (←`(noncomputable def $n:declId $s:optDeclSig $v:declVal)).raw.rewriteBottomUp (·.setInfo .none)
local macro_rules|`(abbrev $n:declId $s:optDeclSig $v:declVal)=>do return (←`(noncomputable abbrev $n:declId $s:optDeclSig $v:declVal)).raw.rewriteBottomUp (·.setInfo .none)
local macro_rules|`(theorem $n:declId $s:declSig $v:declVal)=>do
 if n.raw.getPos?.isNone then Lean.Macro.throwUnsupported
 return (←`(theorem $n:declId $s:declSig $v:declVal)).raw.rewriteBottomUp (·.setInfo .none)
def nZf.{u}{a:Sort u}(h:false=true):a:=nomatch h
local macro_rules|`(~~~$x)=>`(($x).heap.objs.size)
local macro_rules|`(↥$x)=>`(PySem.wpAny (PySem.model ($x).prog ($x).w) ($x).A)
local macro_rules|`(!0)=>`(by omega)
local macro_rules|`(!1)=>`(by decide)
local macro_rules|`(!!$x)=>`(by simpa using $x)
local macro_rules|`(⇑$x)=>`(PySem.Str.ofString $x)
abbrev AA:=List Nat
abbrev AB:=List PySem.Value
abbrev AC:=List (PySem.Addr×PySem.Obj)
abbrev AD:=List PySem.Str
abbrev AE:=List PySem.Expr
abbrev AF:=List PySem.Stmt
abbrev AG:=PySem.Value->PySem.Shared->Prop
abbrev AH:=PySem.Str->Option PySem.Value
abbrev AI:=PySem.Shared
abbrev AJ:=PySem.FuncData
abbrev AK:=PySem.Program
abbrev AL:=String
abbrev AM:=PySem.Around
abbrev AN:=PySem.Value
abbrev AO:=PySem.Expr
abbrev AQ:=PySem.Addr
local macro_rules|`(tactic|rfl')=>`(tactic|kernel_rfl)
local macro_rules|`(tactic|ac_rfl)=>`(tactic|decide +kernel)
abbrev PF:=PySem.W.Frag
set_option linter.all false
namespace L2
open PySem PySem.Spec PyProof.Rows
def ab:=@PySem.wpAny_bind
def ae:=@Bool.and_eq_true
def af:=@List.length_map
def ag:=@PySem.Heap.get?_push_of_some
def ah:=@List.getElem?_eq_some_iff
def al:=@PySem.wpAny_pure
def am:=@Nat.le_refl
def av:=@List.getElem?_map
def aw:=@PyProof.Rows.wpS_bind
def ax:=@List.length_append
def ay:=@Option.map_eq_some_iff
def aE:=@List.mem_singleton
def aI:=@List.mem_cons_self
def aS:=@List.getElem?_eq_getElem
def aT:=@PyProof.Rows.wpS_pure
def a7:=@List.size_toArray
def a8:=@PySem.Heap.get?_push_size
def a9:=@PySem.Heap.lt_size
def ba:=@List.mem_append_right
def bb:=@List.mem_of_getElem?
def bg:=@List.mem_cons
def bm:=@beq_iff_eq
def bn:=@Bool.false_ne_true
def bo:=@List.append_assoc
def bp:=@List.mem_cons_of_mem
def bq:=@Option.some.injEq
def br:=@List.length_take
def bv:=@List.mem_append
def bB:type_of% @Array.length_toList:=@Array.length_toList
def bP:=@List.drop_eq_getElem_cons
def bS:=@Nat.le_trans
def bX:=@List.contains_iff_mem
def b6:=@List.mem_map
def b9:=@Nat.lt_of_lt_of_le
def cb:=@List.map_append
def ce:=@List.length_drop
def cf:=@decide_eq_true_iff
def ci:type_of% @List.length_cons:=@List.length_cons
def ck:=@decide_eq_true
def cm:=@Option.some.inj
def cp:=@Nat.ne_of_lt
def cq:=@PySem.Heap.size_push
def cr:=@Array.toList_append
def cw:=@PySem.Heap.SameBut.update
def cy:=@decide_eq_false
def cK:=@List.length_set
def cS:=@List.map_cons
def da:=@List.take_add_one
def db:=@List.getD_eq_getElem?_getD
def dc:=@List.perm_append_comm
def de:=@List.length_replicate
def df:=@List.all_eq_true
def dn:=@Bool.or_eq_true
def dr:=@PySem.wpAny_mono
def dv:=@Option.isSome_iff_exists
def dy:=@PyProof.Rows.callWith_type1
def dA:=@PySem.wpAny_holding
def dE:=@List.not_mem_nil
def dL:=@List.length_eq_zero_iff
def dP:=@List.drop_length
def dQ:=@Int.eq_ofNat_of_zero_le
def dS:=@PyProof.Rows.wpS_forRange
def d0:=@Nat.lt_succ_self
def d6:=@Nat.le_add_right
def ee:=@List.take_length
def eh:=@beq_eq_false_iff_ne
def eA:=@List.getElem?_eq_none
def eI:=@Nat.lt_succ_of_lt
def eJ:type_of% @Int.toNat_natCast:=@Int.toNat_natCast
def eK:=@List.cons.injEq
def eL:=@List.map_map
def eM:type_of% @List.replicate_succ:=@List.replicate_succ
def eP:=@Nat.zero_le
def eR:=@PySem.wpAny_call_entry
def eS:=@List.take_append_drop
def eT:=@Nat.lt_irrefl
def eW:=@PySem.wpAny_rule
def e6:=@PySem.W.kia_one
def e7:=@PySem.wpAny_field
def e8:=@List.getElem_mem
def e9:=@List.getElem?_set_self
def fb:=@List.Perm.refl
def fe:=@PySem.mem_of_lookup
def ff:=@List.getElem?_range
def fg:=@List.nodup_cons
def fh:=@PySem.wpAny_seqItems
def fm:=@PySem.F.called_set
def fo:=@List.filter_append
def fq:=@PySem.sizeLine_eq
def ft:=@List.mem_append_left
def fv:=@List.getElem?_set_ne
def fw:=@Array.toList_extract
def fx:=@of_decide_eq_true
def fy:=@List.length_range
def fA:=@List.append_nil
def fE:=@congrArg
def fF:=@List.take_of_length_le
def fI:type_of% @List.extract_eq_take_drop:=@List.extract_eq_take_drop
def fN:=@PySem.wpAny_truthy_bool
def fR:=@PySem.wpAny_setState_of
def fS:=@PySem.wpAny_newObj_type
def fT:=@PySem.wpAny_callSpecial?_slot
def ga:=@Nat.le_succ
def gc:=@Array.getElem?_toList
def gd:=@List.findIdx?_eq_some_iff_getElem
def ge:=@List.getElem?_append_left
def gg:=@Array.getElem?_eq_getElem
def gl:=@List.Perm.of_eq
def gp:=@PySem.wpAny_setField_rec
def gs:=@Nat.pow_le_pow_right
def gt:=@PySem.Heap.get?_update_self
def gu:=@PyProof.Rows.slot_tuple_getitem
def gx:type_of% @List.filterMap_cons:=@List.filterMap_cons
def gy:=@List.map_congr_left
def gz:=@List.mem_flatMap
def gE:=@PySem.Around.under_plainId
def gI:=@PyProof.Rows.wpS_modify
def gL:=@Nat.ne_of_gt
def gN:type_of% @List.length_singleton:=@List.length_singleton
def gS:=@Int.emod_lt_of_pos
def gT:=@Bool.false_eq_true
def gV:=@PySem.wpAny_setField
def gX:=@List.mem_filter
def g0:=@List.length_zip
def g6:=@List.dropLast_concat_getLast
def g7:=@Int.emod_nonneg
def g9:=@Bool.eq_iff_iff
def hJ:=@List.getElem?_toArray
def hV:=@bne_self_eq_false
def hW:=@Array.toList_push
def hX:=@PySem.wpAny_passesOwn
def hZ:=@or_false
def ia:=@PySem.codeAny_builtin
def ib:=@List.mem_of_mem_take
def ic:=@List.mem_of_mem_drop
def ij:=@Bool.and_false
def im:=@Nat.lt_or_ge
def io:=@List.isEmpty_iff
def ip:=@PyProof.Rows.F.plain_set_update_loop
def iq:=@Nat.add_sub_cancel'
def iA:=@List.length_pos_iff
def iE:=@PySem.wpAny_of_eq
def iF:=@PySem.F.slot_tuple_iterator_next
def iL:=@List.range_succ
def iN:=@List.Perm.trans
def iO:=@List.findIdx?_cons
def iP:type_of% @List.length_nil:=@List.length_nil
def iS:=@List.set_eq_take_append_cons_drop
def iX:=@List.mem_range
def i0:=@List.flatMap_cons
def i7:=@Bool.not_eq_true'
def i8:=@List.filterMap_append
def i9:=@List.cons_lt_cons_iff
def ja:=@Int.ofNat_inj
def jp:=@PySem.wpAny_pyIter_list
def js:=@PySem.wpAny_standAt
def jv:type_of% @List.flatten_cons:=@List.flatten_cons
abbrev Key:=Sum Int Str
def Bp:Key->AN->Bool
 |.inl k,v=>Value.isInt k v
 |.inr x,v=>Value.isStrOf x v
def Ru(w:World):Key->Int
 |.inl k=>hashInt k
 |.inr x=>hashStr w x
def gD:∀{k:Key}{v:AN},Bp k v=true->(∃i t,k=Sum.inl i/\v=Value.int i t)\/(∃x t,k=Sum.inr x/\v=Value.str x t)
 |.inl i,v,h=>by
  obtain ⟨t,e⟩:=Value.isInt_shape (k:=i) (v:=v) h;exact .inl ⟨i,t,rfl,e⟩
 |.inr x,v,h=>by
  obtain ⟨t,e⟩:=Value.isStrOf_shape (x:=x) (v:=v) h;exact .inr ⟨x,t,rfl,e⟩
def Rv(a b:Int):decide ((Sum.inl a:Key)=Sum.inl b)=(a==b):=by
 by_cases e:a=b
 .subst e;simp
 .have h:¬(Sum.inl a:Key)=Sum.inl b:=λq=>e (Sum.inl.inj q);rw[cy h];exact (eh.mpr e).symm
def Rw(a b:Str):decide ((Sum.inr a:Key)=Sum.inr b)=decide (a=b):=by
 by_cases e:a=b
 .subst e;simp
 .have h:¬(Sum.inr a:Key)=Sum.inr b:=λq=>e (Sum.inr.inj q);rw[cy h,cy e]
def Rx(a:Int)(b:Str):decide ((Sum.inl a:Key)=Sum.inr b)=false:=cy (λq=>nomatch q)
def Ry(a:Str)(b:Int):decide ((Sum.inr a:Key)=Sum.inl b)=false:=cy (λq=>nomatch q)
def uX(prog:AK)(w:World):PySem.KeyKind prog w Key where
 is:=Bp
 hash:=Ru w
 inj:=λv a b ha hb=>by
  rcases gD ha with ⟨i,t,rfl,rfl⟩ |⟨x,t,rfl,rfl⟩
  .rcases gD hb with ⟨j,u,rfl,e⟩ |⟨y,u,rfl,e⟩
   .injection e with e1 _;rw[e1]
   .exact nomatch e
  .rcases gD hb with ⟨j,u,rfl,e⟩ |⟨y,u,rfl,e⟩
   .exact nomatch e
   .injection e with e1 _;rw[e1]
 byValue:=λk v h=>by
  rcases gD h with ⟨i,t,rfl,rfl⟩ |⟨x,t,rfl,rfl⟩ <;> rfl
 pyHash:=λhv h=>by
  rcases gD hv with ⟨i,t,rfl,rfl⟩ |⟨x,t,rfl,rfl⟩
  .exact wpAny_pyHash_int h
  .exact wpAny_pyHash_str h
 eqBool:=λhu hv h=>by
  rcases gD hu with ⟨i,t,rfl,rfl⟩ |⟨x,t,rfl,rfl⟩
  .rcases gD hv with ⟨j,u,rfl,rfl⟩ |⟨y,u,rfl,rfl⟩
   .rw[Rv]at h;exact wpAny_eqBool_int h
   .rw[Rx]at h;exact SeqAt.EqAt.int_str i t y u _ _ _ _ h
  .rcases gD hv with ⟨j,u,rfl,rfl⟩ |⟨y,u,rfl,rfl⟩
   .rw[Ry]at h;exact SeqAt.EqAt.str_int x t j u _ _ _ _ h
   .rw[Rw]at h;exact wpAny_eqBool_str h
 «strs»:=λk x t v h=>by
  rcases gD h with ⟨i,u,rfl,e⟩ |⟨y,u,rfl,e⟩
  .exact nomatch e
  .injection e with e1 _;subst e1;cases v <;> rfl
inductive V where
 |non |bl (b:Bool) |int (i:Int) |str (x:Str) |byt (b:Array UInt8) |flt (b:UInt64) |ref (a:AQ) |ty (n:AL)
 deriving DecidableEq
abbrev AR:=List V
def RelV:V->AN->Prop
 |.non,u=>u=Value.none
 |.bl b,u=>u=Value.bool b
 |.int i,u=>∃t,u=Value.int i t
 |.str x,u=>∃t,u=Value.str x t
 |.byt b,u=>∃t,u=Value.bytes b t
 |.flt b,u=>∃t,u=Value.float b t
 |.ref a,u=>u=Value.ref a
 |.ty n,u=>u=Value.type n
abbrev Vals:AR->AB->Prop:=Paired RelV
def Vals.length{xs:AR}{us:AB}(r:Vals xs us):xs.length=us.length:=Paired.length r
def Vals.get:∀{xs:AR}{us:AB}{i:Nat}{x:V},Vals xs us->xs[i]?=some x->∃u,us[i]?=some u/\RelV x u
 |_,_,_,_,.nil,e=>by simp at e
 |_,_,0,_,.cons r _,e=>by simp at e;subst e;exact ⟨_,rfl,r⟩
 |_,_,i+1,x,.cons _ t,e=>by
  obtain ⟨u,h1,h2⟩:=Vals.get (i:=i) (x:=x) t (!!e);exact ⟨u,!!h1,h2⟩
def Vals.set{x:V}{u:AN}(r:RelV x u):∀{xs:AR}{us:AB}(i:Nat),Vals xs us->Vals (xs.set i x) (us.set i u)
 |_,_,_,.nil=>.nil
 |_,_,0,.cons _ t=>.cons r t
 |_,_,i+1,.cons q t=>.cons q (Vals.set r i t)
def Vals.append:∀{xs ys:AR}{us ws:AB},Vals xs us->Vals ys ws->Vals (xs++ys) (us++ws)
 |_,_,_,_,.nil,s=>s
 |_,_,_,_,.cons r t,s=>.cons r (Vals.append t s)
def Vals.take:∀{xs:AR}{us:AB}(n:Nat),Vals xs us->Vals (xs.take n) (us.take n)
 |_,_,0,_=>.nil
 |_,_,_+1,.nil=>.nil
 |_,_,n+1,.cons r t=>.cons r (Vals.take n t)
def Vals.drop:∀{xs:AR}{us:AB}(n:Nat),Vals xs us->Vals (xs.drop n) (us.drop n)
 |_,_,0,r=>r
 |_,_,_+1,.nil=>.nil
 |_,_,n+1,.cons _ t=>Vals.drop n t
def uY:Option V->Option AN->Prop
 |some v,some u=>RelV v u
 |none,none=>True
 |_,_=>False
def KV{κ:Type}:List (κ×V)->List (κ×AN)->Prop:=Paired λ(p:κ×V) (q:κ×AN)=>p.1=q.1/\RelV p.2 q.2
def kV:Key->V
 |.inl i=>.int i
 |.inr x=>.str x
inductive HO where
 |lst (xs:AR)
 |tup (xs:AR)
 |dK (kvs:List (Key×V)) |dT (kvs:List (List Key×V))
 |set (S:Int->Bool) (n:Nat)
 |ins (C dx:AQ) (fs:List (Str×V))
 |own (x:AQ)
 |xd (fs:List (Str×V))
 |met (f x:AQ)
 |rng (lo hi:Int)
 |frz (o:Obj) (u:HO)
 |tbl (ps:Array AN)
 |ext (φ:Heap->Prop)
abbrev Hp:=AQ->Option HO
def upd(H:Hp)(a:AQ)(o:HO):Hp:=λb=>if b=a then some o else H b
def fX{H:Hp}{a:AQ}{o:HO}:upd H a o a=some o:=by unfold upd;rw[if_pos rfl]
def aQ{H:Hp}{a b:AQ}{o:HO}(h:b≠a):upd H a o b=H b:=by unfold upd;rw[if_neg h]
def Bq{H:Hp}{a b:AQ}{o u:HO}(h:H a=some o)(h':H b=some u)(d:o≠u):a≠b:=by intro e;subst e;rw[h]at h';exact d (cm h')
def bY{H:Hp}{a b:AQ}{o:HO}(h:H a=some o)(h':H b=none):a≠b:=by intro e;subst e;rw[h]at h';cases h'
section
variable (P:AK) (w:World)
def ObjOk(H:Hp)(h:Heap)(a:AQ):HO->Prop
 |.lst xs=>xs.length<=sizeLine/\∃(its:AB) (n:Nat),Vals xs its/\h.get? a=some { cls:=.type "list",data:=.seq its.toArray n }
 |.tup xs=>xs.length<=sizeLine/\∃its:AB,Vals xs its/\IsTup h a its.toArray
 |.dK kvs=>kvs.length<=sizeLine/\(a==sysModules)=false/\∃vs,KV kvs vs/\h.DictOf (uX P w) a vs
 |.dT kvs=>kvs.length<=sizeLine/\(a==sysModules)=false/\∃xs:List (List Key×AQ×AN),
   Paired (λ(p:List Key×V) (q:List Key×AQ×AN)=>p.1=q.1/\H q.2.1=some (.tup (p.1.map kV))/\RelV p.2 q.2.2) kvs xs/\
   ∃o es ep,h.get? a=some o/\o.ExactDict/\o.data=.dict es ep/\es.toList=xs.map (entryOfKey (tupleKind (uX P w)))/\(xs.map (·.1)).Nodup
 |.set S n=>h.SetOf (intKind P w) a S n
 |.ins C dx fs=>H dx=some (.own a)/\fs.length<=1000/\dx≠a/\h.get? a=some (PySem.W.instObj C dx)/\
   ∃mA,h.Ns1 dx mA/\(∀f,uY (fs.lookup f) (mA f))/\PySem.Within mA (fs.map (·.1))
 |.own _=>∃o,h.get? a=some o
 |.xd fs=>∃mA,h.Ns1 a mA/\∀f,uY (fs.lookup f) (mA f)
 |.rng lo hi=>∃t u v,h.get? a=some { cls:=.type "range",data:=.fields #[.int lo t,.int hi u,.int 1 v] }
 |.frz o u=>h.get? a=some o/\ObjOk H h a u
 |.tbl ps=>h.get? a=some { cls:=.none,data:=.fields ps }
 |.met f x=>h.get? a=some (PySem.W.methodObj (.ref f) (.ref x))
 |.ext φ=>φ h/\(∃o,h.get? a=some o)/\∀h1 h2:Heap,φ h1->(∀o,h1.get? a=some o->h2.get? a=some o)->φ h2
def HOk(H:Hp)(h:Heap):Prop:=∀a o,H a=some o->ObjOk P w H h a o
end
section
variable {P:AK} {w:World} {H H':Hp} {h h':Heap} {a:AQ} {o:HO}
theorem ObjOk.lt(x:ObjOk P w H h a o):a < h.objs.size:=by
 cases o with
 |lst xs=>obtain ⟨_,_,_,_,e⟩:=x;exact a9 e
 |tup xs=>obtain ⟨_,_,_,p⟩:=x;exact p.lt
 |dK kvs=>obtain ⟨_,_,_,_,o,_,_,e,_⟩:=x;exact a9 e
 |dT kvs=>obtain ⟨_,_,_,_,o,_,_,e,_⟩:=x;exact a9 e
 |set S n=>obtain ⟨o,_,_,_,e,_⟩:=x;exact a9 e
 |ins C dx fs=>obtain ⟨_,_,_,e,_⟩:=x;exact a9 e
 |own y=>obtain ⟨_,e⟩:=x;exact a9 e
 |xd fs=>obtain ⟨_,⟨_,_,_,e,_⟩,_⟩:=x;exact a9 e
 |rng lo hi=>obtain ⟨_,_,_,e⟩:=x;exact a9 e
 |frz ob u=>obtain ⟨e,_⟩:=x;exact a9 e
 |tbl ps=>exact a9 (show h.get? a=some _ from x)
 |met f y=>exact a9 (show h.get? a=some _ from x)
 |ext φ=>obtain ⟨_,⟨_,e⟩,_⟩:=x;exact a9 e
theorem Paired.mapP{α β:Type}{F G:α->β->Prop}:∀{l₁:List α}{l₂:List β},Paired F l₁ l₂->(∀a b,F a b->G a b)->Paired G l₁ l₂
 |_,_,.nil,_=>.nil
 |_,_,.cons r t,f=>.cons (f _ _ r) (Paired.mapP t f)
theorem ObjOk.stay(x:ObjOk P w H h a o)(k:∀b u,(b=a\/H b=some (.own a))->h.get? b=some u->h'.get? b=some u)
  (ho:∀b,H b=some (.own a)->H' b=some (.own a)) (ht:∀b xs,H b=some (.tup xs)->H' b=some (.tup xs)):ObjOk P w H' h' a o:=by
 induction o with
 |lst xs=>obtain ⟨z,its,n,r,e⟩:=x;exact ⟨z,its,n,r,k _ _ (.inl rfl) e⟩
 |tup xs=>obtain ⟨z,its,r,ob,e,c⟩:=x;exact ⟨z,its,r,ob,k _ _ (.inl rfl) e,c⟩
 |dK kvs=>obtain ⟨z,y,vs,r,ob,es,ep,e,c⟩:=x;exact ⟨z,y,vs,r,ob,es,ep,k _ _ (.inl rfl) e,c⟩
 |dT kvs=>
  obtain ⟨z,y,xs,r,ob,es,ep,e,c⟩:=x;exact ⟨z,y,xs,Paired.mapP r λp q z=>⟨z.1,ht _ _ z.2.1,z.2.2⟩,ob,es,ep,k _ _ (.inl rfl) e,c⟩
 |set S n=>obtain ⟨ob,es,ep,t,e,c⟩:=x;exact ⟨ob,es,ep,t,k _ _ (.inl rfl) e,c⟩
 |ins C dx fs=>
  obtain ⟨d,z,ne,e,mA,⟨od,es,ep,e2,c⟩,r⟩:=x;exact ⟨ho _ d,z,ne,k _ _ (.inl rfl) e,mA,⟨od,es,ep,k _ _ (.inr d) e2,c⟩,r⟩
 |own y=>obtain ⟨ob,e⟩:=x;exact ⟨ob,k _ _ (.inl rfl) e⟩
 |xd fs=>obtain ⟨mA,⟨od,es,ep,e,c⟩,r⟩:=x;exact ⟨mA,⟨od,es,ep,k _ _ (.inl rfl) e,c⟩,r⟩
 |rng lo hi=>obtain ⟨t,u,v,e⟩:=x;exact ⟨t,u,v,k _ _ (.inl rfl) e⟩
 |frz ob u ih=>obtain ⟨e,q⟩:=x;exact ⟨k _ _ (.inl rfl) e,ih q⟩
 |tbl ps=>
  have e:h.get? a=some { cls:=.none,data:=.fields ps }:=x;show h'.get? a=some { cls:=.none,data:=.fields ps };exact k a _ (.inl rfl) e
 |met f y=>
  have e:h.get? a=some (PySem.W.methodObj (.ref f) (.ref y)):=x;show h'.get? a=some (PySem.W.methodObj (.ref f) (.ref y));exact k a _ (.inl rfl) e
 |ext φ=>obtain ⟨p,⟨o,e⟩,st⟩:=x;exact ⟨st _ _ p λo q=>k _ _ (.inl rfl) q,⟨o,k _ _ (.inl rfl) e⟩,st⟩
theorem HOk.lt(x:HOk P w H h)(e:H a=some o):a < h.objs.size:=(x a o e).lt
theorem HOk.fresh(x:HOk P w H h)(e:h.objs.size<=a):H a=none:=by
 cases q:H a with
 |none=>rfl
 |some u=>exact absurd (b9 (x.lt q) e) (eT _)
theorem HOk.kept(x:HOk P w H h)(k:∀b u,h.get? b=some u->h'.get? b=some u):HOk P w H h':=λa o e=>
 (x a o e).stay (λb u _ q=>k b u q) (λ_ q=>q) λ_ _ q=>q
theorem HOk.laid(x:HOk P w H h)(k:∀b u,h.get? b=some u->h'.get? b=some u)(hp:h.objs.size<=a)(new:ObjOk P w (upd H a o) h' a o):HOk P w (upd H a o) h':=λb u e=>by
 have hn:=x.fresh hp;by_cases hb:b=a
 .subst hb;rw[fX]at e;cases e;exact new
 .rw[aQ hb]at e;exact (x b u e).stay (λc v _ q=>k c v q) (λc q=>by rw[aQ (bY q hn)];exact q) λc xs q=>by rw[aQ (bY q hn)];exact q
end
def Rd(H:Hp)(a:AQ)(u:HO):Prop:=H a=some u\/∃o,H a=some (.frz o u)
def Rd.ok{P:AK}{w:World}{H:Hp}{h:Heap}{a:AQ}{u:HO}(r:Rd H a u)(x:HOk P w H h):ObjOk P w H h a u:=by
 rcases r with r |⟨o,r⟩
 .exact x a u r
 .obtain ⟨_,q⟩:=x a _ r;exact q
def Mut:Option HO->Prop
 |some (.lst _)=>True
 |some (.dK _)=>True
 |some (.dT _)=>True
 |some (.set _ _)=>True
 |some (.ins _ _ _)=>True
 |some (.ext _)=>True
 |_=>False
section
variable {P:AK} {w:World} {H:Hp} {h h':Heap} {x e:AQ} {o':HO}
theorem HOk.write(ok:HOk P w H h)(mu:Mut (H x))(he:e=x\/H e=some (.own x))(k:∀b u,b≠e->h.get? b=some u->h'.get? b=some u)(heo:∃u,h'.get? e=some u)
  (new:ObjOk P w (upd H x o') h' x o'):HOk P w (upd H x o') h':=λb u q=>by
 have nown:∀c y,H c=some (.own y)->c≠x:=λc y r z=>by subst z;rw[r]at mu;exact mu
 have ntup:∀c xs,H c=some (.tup xs)->c≠x:=λc xs r z=>by subst z;rw[r]at mu;exact mu
 by_cases hb:b=x
 .subst hb;rw[fX]at q;cases q;exact new
 .rw[aQ hb]at q;by_cases hbe:b=e
  .have q':H b=some (.own x):=by
    rcases he with z |z
    .exact absurd (hbe.trans z) hb
    .rw[hbe];exact z
   rw[q]at q';cases q';obtain ⟨v,hv⟩:=heo;exact ⟨v,by rw[hbe];exact hv⟩
  .refine (ok b u q).stay (λc v hc r=>k c v ?_ r) (λc r=>by rw[aQ (nown c b r)];exact r) λc xs r=>by rw[aQ (ntup c xs r)];exact r
   rcases hc with rfl |hc
   .exact hbe
   .rintro rfl;rcases he with z |z
    .exact nown c b hc z
    .rw[hc]at z;cases z;exact hb rfl
end
structure Un(fs ex:List AQ)(H H':Hp)(h h':Heap):Prop where
 keep:∀b o,h.get? b=some o->H b=none->b∉fs->b∉ex->h'.get? b=some o
 slot:∀b o,h.get? b=some o->H b=none->b∈fs->b∉ex->∃sl,h'.get? b=some { o with slots:=sl }
 free:∀b o,h.get? b=some o->H b=none->b∉ex->H' b=none
 there:∀b o,h.get? b=some o->b∉ex->∃o',h'.get? b=some o'
 tups:∀b xs,H b=some (.tup xs)->H' b=some (.tup xs)
 frzs:∀b o u,H b=some (.frz o u)->H' b=some (.frz o u)
 tbls:∀b ps,H b=some (.tbl ps)->∃more,H' b=some (.tbl (ps++more))
section
variable {fs fs' ex ex':List AQ} {H H1 H2:Hp} {h h1 h2 h':Heap} {a x e:AQ} {o:HO}
theorem Un.any(u:Un fs ex H H1 h h1){b:AQ}{ob:Obj}(q:h.get? b=some ob)(n:H b=none)(hx:b∉ex):∃sl,h1.get? b=some { ob with slots:=sl }:=by
 by_cases hb:b∈fs
 .exact u.slot b ob q n hb hx
 .exact ⟨ob.slots,u.keep b ob q n hb hx⟩
theorem Un.kept(k:∀b u,h.get? b=some u->h'.get? b=some u):Un fs ex H H h h':=
 ⟨λb ob q _ _ _=>k b ob q,λb ob q _ _ _=>⟨ob.slots,k b ob q⟩,λ_ _ _ n _=>n,λb ob q _=>⟨ob,k b ob q⟩,λ_ _ q=>q,λ_ _ _ q=>q,λ_ ps q=>⟨#[],by rw[q];simp⟩⟩
theorem Un.refl:Un fs ex H H h h:=Un.kept λ_ _ q=>q
theorem Un.laid(k:∀b u,h.get? b=some u->h'.get? b=some u)(hp:h.objs.size<=a)(hn:H a=none):Un fs ex H (upd H a o) h h' where
 keep:=λb u q _ _ _=>k b u q
 slot:=λb u q _ _ _=>⟨u.slots,k b u q⟩
 free:=λb u q n _=>by rw[aQ (cp (b9 (a9 q) hp))];exact n
 there:=λb u q _=>⟨u,k b u q⟩
 tups:=λb xs q=>by rw[aQ (bY q hn)];exact q
 frzs:=λb u xs q=>by rw[aQ (bY q hn)];exact q
 tbls:=λb ps q=>⟨#[],by rw[aQ (bY q hn),q];simp⟩
theorem Un.write(mu:Mut (H x))(he:e=x\/H e=some (.own x))(k:∀b u,b≠e->h.get? b=some u->h'.get? b=some u)(heo:∃u,h'.get? e=some u):Un fs ex H (upd H x o) h h':=by
 have hx:∀b,H b=none->b≠x:=λb n z=>by subst z;rw[n]at mu;exact mu
 have hb:∀b,H b=none->b≠e:=λb n z=>by
  subst z;rcases he with r |r
  .exact hx b n r
  .rw[n]at r;cases r
 have hm:∀b u,H b=some u->¬Mut (some u)->b≠x:=λb u q nm z=>by subst z;rw[q]at mu;exact nm mu
 refine ⟨λb u q n _ _=>k b u (hb b n) q,λb u q n _ _=>⟨u.slots,k b u (hb b n) q⟩,λb u q n _=>by rw[aQ (hx b n)];exact n,λb u q _=>?_,
  λb xs q=>by rw[aQ (hm b _ q λz=>z)];exact q,λb u xs q=>by rw[aQ (hm b _ q λz=>z)];exact q,λb ps q=>⟨#[],by rw[aQ (hm b _ q λz=>z),q];simp⟩⟩
 by_cases hbe:b=e
 .subst hbe;exact heo
 .exact ⟨u,k b u hbe q⟩
end
def trk(h:Heap)(H:Hp):List AQ:=(List.range h.objs.size).filter λa=>(H a).isSome
def gF(h:Heap)(H:Hp):Heap:=PySem.W.hideAll h (trk h H)
def Rz(h:Heap)(H:Hp):(gF h H).objs.size=h.objs.size:=PySem.W.hideAll_size _ _
def RB{h:Heap}{H:Hp}{b:AQ}{o:Obj}(e:h.get? b=some o)(n:H b=none):(gF h H).get? b=some o:=
 PySem.W.hideAll_get _ e λhm=>by
  have q:(H b).isSome=true:=(gX.mp hm).2;rw[n]at q;simp at q
def RC{h:Heap}{H:Hp}{b:AQ}{o:Obj}(e:(gF h H).get? b=some o):h.get? b=some o/\H b=none:=by
 have e':h.get? b=some o:=PySem.W.of_hideAll (trk h H) e;refine ⟨e',?_⟩;cases q:H b with
 |none=>rfl
 |some x=>
  have hm:b∈trk h H:=gX.mpr ⟨iX.mpr (a9 e'),by simp[q]⟩;have z:(gF h H).get? b=none:=PySem.W.hideAll_none (trk h H) hm;rw[z]at e;cases e
def RD(g h:Heap)(L:AQ):AC:=(List.range h.objs.size).filterMap λa=>if a=L\/(g.get? a).isSome=true then none else (h.get? a).map λo=>(a,o)
def rest(g h:Heap)(L d:AQ):AC:=(RD g h L).filter λp=>decide (p.1≠d)
structure Mod(K:PF)(mg:AH)(base:Heap):Prop where
 kin:K.In base
 glob:base.Ns mainGlobals mg
 blt:∃mb,base.Ns builtinsNs mb/\∀x:Str,x≠"__name__"->mb x=bootBuiltins x
 nolimit:base.NoLimit
structure Cx where
 prog:AK
 w:World
 K:PF
 mg:Str->Option AN
 base:Heap
 A:AM
 N:AD
 s₀:AI
 H₀:Hp
 env:Env
 outer:List Env
 stack:List Env
 ex:List AQ
 fn:Str->Bool
 calm:Bool
 pn:AC
 xe:AN->AI->Prop
def frs(l:List Env):List AQ:=l.filterMap (·.frame)
abbrev Cx.fs(X:Cx):List AQ:=frs X.outer
def Vis(sc:Scope)(x:Str):Prop:=sc.names.lookup x=some .local\/sc.names.lookup x=some .cell\/sc.names.lookup x=some .free
def Loc(sc:Scope)(x:Str):Prop:=sc.names.lookup x=some .local\/sc.names.lookup x=some .cell
def Look(env:Env)(h:Heap)(m:AH)(x:Str)(u:AN):Prop:=
 (env.kindOf x=some .local/\m x=some u)\/((env.kindOf x=some .cell\/env.kindOf x=some .free)/\∃c,env.cells.lookup x=some c/\h.IsCell c (some u))
structure Cx.Ok(X:Cx):Prop where
 mod:Mod X.K X.mg X.base
 kind:X.env.scope.kind=.function
 glob:X.env.globals=mainGlobals
 blt:X.env.builtins=builtinsNs
 above:X.s₀.heap.objs.size<=X.env.locals
 inj:∀x y c,X.env.cells.lookup x=some c->X.env.cells.lookup y=some c->x=y
 has:∀x,(X.env.kindOf x=some .cell\/X.env.kindOf x=some .free)->∃c,X.env.cells.lookup x=some c
 cab:∀x c,X.fn x=true->X.env.cells.lookup x=some c->X.s₀.heap.objs.size<=c
 hd:X.calm=true->X.A.handled=none
 frames:X.A.frames=some X.stack
 stk:X.stack=X.outer\/(X.stack=X.env::X.outer/\X.env.frame=some X.env.locals)
 exf:∀b∈X.ex,b≠X.env.locals/\∀x c,X.env.cells.lookup x=some c->c≠b
 bs:∀b o,X.base.get? b=some o->X.s₀.heap.get? b=some o/\X.H₀ b=none
 bsz:X.base.objs.size<=X.s₀.heap.objs.size
 noex:∀b o,X.base.get? b=some o->b∉X.ex
 exfs:∀b∈X.ex,b∉X.fs
 funs:X.s₀.heap.FunFrames X.base X.outer
 frf:∀b∈X.fs,X.H₀ b=none
structure Inv(X:Cx)(p9:AC)(Y:List (Option V))(H:Hp)(s:AI):Prop where
 ok:X.Ok
 os:s.os=X.s₀.os
 bare:AllBare s.gens
 base:Un X.fs X.ex X.H₀ H X.s₀.heap s.heap
 loc:∃m,s.heap.Ns X.env.locals m/\∀(i:Nat)(x:Str)(v:V),X.N[i]?=some x->Y[i]?=some (some v)->Vis X.env.scope x->∃u,RelV v u/\Look X.env s.heap m x u
 cell:∀x c,X.env.cells.lookup x=some c->∃v,s.heap.IsCell c v
 free:H X.env.locals=none
 freeC:∀x c,X.env.cells.lookup x=some c->H c=none
 pin:∀p∈X.pn++p9,s.heap.get? p.1=some p.2/\H p.1=none/\p.1≠X.env.locals/\p.1∉X.fs/\∀v,p.2.data≠.cell v
 hok:HOk X.prog X.w H s.heap
 len:Y.length=X.N.length
section
variable {X:Cx} {p9:AC} {σ:List (Option V)} {H H':Hp} {s:AI} {h':Heap}
theorem Cx.Ok.nofr(ok:X.Ok){b:AQ}{o:Obj}(e:X.base.get? b=some o):b∉X.fs:=λhb=>by
 have:=(ok.funs.mem hb).1;rw[e]at this;cases this
theorem Inv.bs(I:Inv X p9 σ H s):∀b o,X.base.get? b=some o->s.heap.get? b=some o/\H b=none:=λb o e=>
 ⟨I.base.keep b o (I.ok.bs b o e).1 (I.ok.bs b o e).2 (I.ok.nofr e) (I.ok.noex b o e),I.base.free b o (I.ok.bs b o e).1 (I.ok.bs b o e).2 (I.ok.noex b o e)⟩
theorem Inv.bk(I:Inv X p9 σ H s):∀b o,X.base.get? b=some o->s.heap.get? b=some o:=λb o e=>(I.bs b o e).1
theorem Inv.mod(I:Inv X p9 σ H s):Mod X.K X.mg X.base:=I.ok.mod
theorem Inv.kIn(I:Inv X p9 σ H s):X.K.In s.heap:=I.ok.mod.kin.keeps I.bk
theorem Inv.lt(I:Inv X p9 σ H s):X.env.locals < (~~~s):=let ⟨_,hn,_⟩:=I.loc;hn.lt
theorem Inv.sz(I:Inv X p9 σ H s):X.s₀.heap.objs.size<=(~~~s):=bS I.ok.above (Nat.le_of_lt I.lt)
theorem Inv.nofs(I:Inv X p9 σ H s){a:AQ}(h:(~~~s)<=a):a∉X.fs:=λhb=>by
 obtain ⟨_,o,ho,_⟩:=I.ok.funs.mem hb;exact absurd (b9 (a9 ho) (bS I.sz h)) (eT _)
theorem Inv.cne(I:Inv X p9 σ H s):∀x c,X.env.cells.lookup x=some c->c≠X.env.locals:=λx c e z=>by
 obtain ⟨v,o,ho,hd⟩:=I.cell x c e;obtain ⟨m,⟨o',es,ep,ho',hd',_⟩,_⟩:=I.loc;rw[z,ho']at ho;cases ho;rw[hd']at hd;cases hd
theorem Inv.funs(I:Inv X p9 σ H s):s.heap.FunFrames X.base X.outer:=by
 have all:∀(l:List Env),(∀b∈frs l,b∈X.fs)->X.s₀.heap.FunFrames X.base l->s.heap.FunFrames X.base l:=by
  intro l;induction l with
  |nil=>intro _ _;trivial
  |cons env r ih=>
   intro hs hl;obtain ⟨hk,⟨L,o,hf,hn,ho,hd⟩,hr⟩:=hl;have hL:L∈X.fs:=hs L (by unfold frs;rw[gx,hf];exact aI);obtain ⟨sl,e⟩:=I.base.slot L o ho (I.ok.frf L hL) hL λz=>I.ok.exfs L z hL;exact ⟨hk,⟨L,_,hf,hn,e,hd⟩,ih (λb hb=>hs b (by unfold frs;rw[gx,hf];exact bp _ hb)) hr⟩
 exact all X.outer (λ_ hb=>hb) I.ok.funs
theorem Inv.stack(I:Inv X p9 σ H s):s.heap.FunFrames X.base X.stack:=by
 rcases I.ok.stk with e |⟨e,hf⟩
 .rw[e];exact I.funs
 .rw[e];obtain ⟨m,hn,_⟩:=I.loc;refine .cons (by rw[I.ok.kind];decide) hf hn ?_ I.funs;exact Heap.get?_none_of_le (bS I.ok.bsz I.ok.above)
theorem Inv.stkSub(I:Inv X p9 σ H s):∀b∈frs X.stack,b∈X.env.locals::X.fs:=λb hb=>by
 rcases I.ok.stk with e |⟨e,hf⟩
 .rw[e]at hb;exact bp _ hb
 .rw[e]at hb;unfold frs at hb;rw[gx,hf]at hb;exact hb
theorem Inv.stkFree(I:Inv X p9 σ H s):∀b∈frs X.stack,H b=none:=λb hb=>by
 rcases bg.mp (I.stkSub b hb) with e |hb
 .rw[e];exact I.free
 .obtain ⟨_,o,ho,_⟩:=I.ok.funs.mem hb;exact I.base.free b o ho (I.ok.frf b hb) λz=>I.ok.exfs b z hb
theorem Inv.step{g':Array GenState}{t':Nat}{d':Drawn}{ch:List AQ}(I:Inv X p9 σ H s)
  (hch:∀b∈ch,(b∈X.ex\/X.s₀.heap.objs.size<=b)/\b≠X.env.locals/\(∀x c,X.env.cells.lookup x=some c->c≠b)/\∀p∈X.pn++p9,p.1≠b)
  (keep:∀b o,b≠X.env.locals->b∉X.fs->b∉ch->s.heap.get? b=some o->H b=none->h'.get? b=some o)
  (slot:∀b o,b≠X.env.locals->b∈X.fs->b∉ch->s.heap.get? b=some o->H b=none->∃sl,h'.get? b=some { o with slots:=sl }) (free:∀b o,b∉ch->s.heap.get? b=some o->H b=none->H' b=none)
  (there:∀b o,b∉ch->s.heap.get? b=some o->∃o',h'.get? b=some o')
  (tups:∀b xs,H b=some (.tup xs)->H' b=some (.tup xs)) (frzs:∀b o u,H b=some (.frz o u)->H' b=some (.frz o u)) (tbls:∀b ps,H b=some (.tbl ps)->∃more,H' b=some (.tbl (ps++more)))
  (ns:∀m,s.heap.Ns X.env.locals m->h'.Ns X.env.locals m) (hok:HOk X.prog X.w H' h') (hg:AllBare g'):
  Inv X p9 σ H' { s with heap:=h',gens:=g',drawn:=d',toks:=t' }:=by
 have neL:∀b o,X.s₀.heap.get? b=some o->b≠X.env.locals:=λb o e=>cp (b9 (a9 e) I.ok.above);have neC:∀b o,X.s₀.heap.get? b=some o->b∉X.ex->b∉ch:=λb o e hx hb=>by
  rcases (hch b hb).1 with z |z
  .exact hx z
  .exact absurd (b9 (a9 e) z) (eT _)
 have cellK:∀x c,X.env.cells.lookup x=some c->∀v,s.heap.IsCell c v->h'.IsCell c v:=λx c e v ⟨o,ho,hd⟩=>by
  have nch:c∉ch:=λz=>(hch c z).2.2.1 x c e rfl;by_cases hc:c∈X.fs
  .obtain ⟨sl,q⟩:=slot c o (I.cne x c e) hc nch ho (I.freeC x c e);exact ⟨_,q,hd⟩
  .exact ⟨o,keep c o (I.cne x c e) hc nch ho (I.freeC x c e),hd⟩
 refine ⟨I.ok,I.os,hg,⟨λb o e n hb hx=>?_,λb o e n hb hx=>?_,λb o e n hx=>?_,λb o e hx=>?_,λb xs e=>tups b xs (I.base.tups b xs e),λb o xs e=>frzs b o xs (I.base.frzs b o xs e),λb ps e=>?_⟩,?_,λx c e=>?_,?_,λx c e=>?_,λp hp=>?_,hok,I.len⟩
 .exact keep b o (neL b o e) hb (neC b o e hx) (I.base.keep b o e n hb hx) (I.base.free b o e n hx)
 .obtain ⟨sl,e1⟩:=I.base.slot b o e n hb hx;obtain ⟨sl',e2⟩:=slot b _ (neL b o e) hb (neC b o e hx) e1 (I.base.free b o e n hx);exact ⟨sl',e2⟩
 .obtain ⟨o',e1⟩:=I.base.there b o e hx;exact free b o' (neC b o e hx) e1 (I.base.free b o e n hx)
 .obtain ⟨o',e1⟩:=I.base.there b o e hx;exact there b o' (neC b o e hx) e1
 .obtain ⟨m1,e1⟩:=I.base.tbls b ps e;obtain ⟨m2,e2⟩:=tbls b _ e1;exact ⟨m1++m2,by rw[e2,Array.append_assoc]⟩
 .obtain ⟨m,hn,hl⟩:=I.loc;refine ⟨m,ns m hn,λi x v e1 e2 e3=>?_⟩;obtain ⟨u,r,l⟩:=hl i x v e1 e2 e3;refine ⟨u,r,?_⟩;rcases l with l |⟨k,c,e,z⟩
  .exact .inl l
  .exact .inr ⟨k,c,e,cellK x c e _ z⟩
 .obtain ⟨v,z⟩:=I.cell x c e;exact ⟨v,cellK x c e v z⟩
 .obtain ⟨m,⟨o,_,_,ho,_⟩,_⟩:=I.loc;exact free _ o (λz=>(hch _ z).2.1 rfl) ho I.free
 .obtain ⟨v,o,ho,hd⟩:=I.cell x c e;exact free c o (λz=>(hch c z).2.2.1 x c e rfl) ho (I.freeC x c e)
 .obtain ⟨e,n,ne,nf,d⟩:=I.pin p hp;have nch:p.1∉ch:=λz=>(hch p.1 z).2.2.2 p hp rfl;exact ⟨keep p.1 p.2 ne nf nch e n,free p.1 p.2 nch e n,ne,nf,d⟩
theorem Inv.un{t':Nat}(I:Inv X p9 σ H s)(u:Un X.fs [] H H' s.heap h')(hok:HOk X.prog X.w H' h'):Inv X p9 σ H' { s with heap:=h',toks:=t' }:=by
 obtain ⟨m,⟨o,es,ep,ho,r⟩,_⟩:=id I.loc;obtain ⟨sl,hL⟩:=u.any ho I.free (by simp);exact I.step (g':=s.gens) (d':=s.drawn) (ch:=[]) (λ_ z=>nomatch z) (λb o _ hb _ e n=>u.keep b o e n hb (by simp)) (λb o _ hb _ e n=>u.slot b o e n hb (by simp)) (λb o _ e n=>u.free b o e n (by simp)) (λb o _ e=>u.there b o e (by simp)) u.tups u.frzs u.tbls (λm' hm=>by
  obtain ⟨o',es',ep',ho',r'⟩:=hm;rw[ho]at ho';cases ho';exact ⟨_,es',ep',hL,r'⟩) hok I.bare
theorem Inv.call{g':Array GenState}{t':Nat}{d':Drawn}{ch:List AQ}(I:Inv X p9 σ H s)(u:Un (frs X.stack) ch H H' s.heap h')(hok:HOk X.prog X.w H' h')(hg:AllBare g')
  (hch:∀b∈ch,(b∈X.ex\/X.s₀.heap.objs.size<=b)/\b≠X.env.locals/\(∀x c,X.env.cells.lookup x=some c->c≠b)/\∀p∈X.pn++p9,p.1≠b):
  Inv X p9 σ H' { s with heap:=h',gens:=g',drawn:=d',toks:=t' }:=by
 obtain ⟨m,⟨o,es,ep,ho,r⟩,_⟩:=id I.loc;obtain ⟨sl,hL⟩:=u.any ho I.free λz=>(hch _ z).2.1 rfl;exact I.step (ch:=ch) hch (λb o hL hb hc e n=>u.keep b o e n (λz=>(bg.mp (I.stkSub b z)).elim hL hb) hc) (λb o _ _ hc e n=>u.any e n hc) (λb o hc e n=>u.free b o e n hc) (λb o hc e=>u.there b o e hc) u.tups u.frzs u.tbls (λm' hm=>by
  obtain ⟨o',es',ep',ho',r'⟩:=hm;rw[ho]at ho';cases ho';exact ⟨_,es',ep',hL,r'⟩) hok hg
theorem Inv.turned{t':Nat}{it:AQ}(I:Inv X p9 σ H s)(k:∀b o,b≠it->s.heap.get? b=some o->h'.get? b=some o)(hn:H it=none)(hL:it≠X.env.locals)
  (h1:it∈X.ex\/X.s₀.heap.objs.size<=it) (h2:∀x c,X.env.cells.lookup x=some c->c≠it) (h3:∀p∈X.pn++p9,p.1≠it):Inv X p9 σ H { s with heap:=h',toks:=t' }:=by
 have nit:∀b u,H b=some u->b≠it:=λb u e z=>by rw[z,hn]at e;cases e
 refine I.step (g':=s.gens) (d':=s.drawn) (ch:=[it]) (λb hb=>?_) (λb o _ _ hc e _=>k b o (λz=>hc (by simp[z])) e) (λb o _ _ hc e _=>⟨o.slots,k b o (λz=>hc (by simp[z])) e⟩) (λ_ _ _ _ n=>n)
  (λb o hc e=>⟨o,k b o (λz=>hc (by simp[z])) e⟩) (λ_ _ e=>e) (λ_ _ _ e=>e) (λb ps e=>⟨#[],by rw[e];simp⟩) (λm hm=>?_) (λb u e=>?_) I.bare
 .have e:b=it:=by simpa using hb
  subst e;exact ⟨h1,hL,h2,h3⟩
 .obtain ⟨o,es,ep,ho,r⟩:=hm;exact ⟨o,es,ep,k _ o (Ne.symm hL) ho,r⟩
 .refine (I.hok b u e).stay (λc v hc q=>k c v ?_ q) (λ_ q=>q) λ_ _ q=>q;rcases hc with z |z
  .rw[z];exact nit b u e
  .exact nit c _ z
theorem Inv.tok(I:Inv X p9 σ H s)(t:Nat):Inv X p9 σ H { s with toks:=t }:=I.un (h':=s.heap) (t':=t) Un.refl I.hok
theorem Inv.kept{t':Nat}(I:Inv X p9 σ H s)(k:∀b u,s.heap.get? b=some u->h'.get? b=some u):Inv X p9 σ H { s with heap:=h',toks:=t' }:=I.un (Un.kept k) (I.hok.kept k)
theorem Inv.laid{a:AQ}{o:HO}{t':Nat}(I:Inv X p9 σ H s)(k:∀b u,s.heap.get? b=some u->h'.get? b=some u)(hp:(~~~s)<=a)(new:ObjOk X.prog X.w (upd H a o) h' a o):
  Inv X p9 σ (upd H a o) { s with heap:=h',toks:=t' }:=I.un (Un.laid k hp (I.hok.fresh hp)) (I.hok.laid k hp new)
theorem Inv.write{x e:AQ}{o:HO}{t':Nat}(I:Inv X p9 σ H s)(mu:Mut (H x))(he:e=x\/H e=some (.own x))(k:∀b u,b≠e->s.heap.get? b=some u->h'.get? b=some u)(heo:∃u,h'.get? e=some u)
  (new:ObjOk X.prog X.w (upd H x o) h' x o):Inv X p9 σ (upd H x o) { s with heap:=h',toks:=t' }:=I.un (Un.write mu he k heo) (I.hok.write mu he k heo new)
theorem Inv.pins_of{pins':AC}(I:Inv X p9 σ H s)(h:∀p∈pins',s.heap.get? p.1=some p.2/\H p.1=none/\p.1≠X.env.locals/\p.1∉X.fs/\∀v,p.2.data≠.cell v):Inv X pins' σ H s:=
 ⟨I.ok,I.os,I.bare,I.base,I.loc,I.cell,I.free,I.freeC,λp hp=>(bv.mp hp).elim (λz=>I.pin p (ft _ z)) (h p),I.hok,I.len⟩
theorem Br{N:AD}(hN:N.Nodup){i j:Nat}{x:Str}(a:N[i]?=some x)(b:N[j]?=some x):i=j:=by obtain ⟨h1,e1⟩:=ah.mp a;obtain ⟨h2,e2⟩:=ah.mp b;exact (List.getElem_inj hN).mp (e1.trans e2.symm)
theorem RG{M:Model}{A:AM}{E:AG}{i:Nat}{x:Str}{v:V}{u:AN}{Q:Unit->AI->Prop}(I:Inv X p9 σ H s)(hN:X.N.Nodup)(hi:X.N[i]?=some x)(hx:Loc X.env.scope x)(r:RelV v u)
  (h:∀s',Inv X p9 (σ.set i (some v)) H s'->(∃a,Heap.SameBut a s.heap s'.heap/\(a=X.env.locals\/X.env.cells.lookup x=some a))->Q () s') (hf:X.fn x=true\/X.env.scope.names.lookup x=some .local:=by first |exact .inl rfl |exact .inr rfl |assumption):wpAny M A (storeName X.env x u) Q E s:=by
 obtain ⟨m,hn,hl⟩:=id I.loc;have hcls:(X.env.scope.kind==.class||(X.env.scope.kind==.module&&X.env.locals != X.env.globals))=false:=by rw[I.ok.kind];rfl
 have hiσ:i < σ.length:=by rw[I.len];exact (ah.mp hi).1
 have cne:=I.cne;have tracked:∀{a:AQ}{h':Heap},(∃o,s.heap.get? a=some o/\H a=none)->Heap.SameBut a s.heap h'->HOk X.prog X.w H h':=λ{a h'} ha hs b ob e=>by
  obtain ⟨_,_,hfree⟩:=ha;refine (I.hok b ob e).stay (λc w' hc q=>(hs.2 c ?_).trans q) (λ_ q=>q) λ_ _ q=>q;rintro rfl;rcases hc with rfl |hc
  .rw[hfree]at e;cases e
  .rw[hfree]at hc;cases hc
 rcases hx with hk |hk
 .refine wpAny_storeName_local hk hn (λh' hn' hs=>?_) hcls;obtain ⟨oL,_,_,hoL,_⟩:=id hn;refine h _ ⟨I.ok,I.os,I.bare,⟨λb o e n hb hx=>?_,λb o e n hb hx=>?_,I.base.free,λb o e hx=>?_,I.base.tups,I.base.frzs,I.base.tbls⟩,⟨_,hn',λj y v' e1 e2 e3=>?_⟩,λy c e=>?_,I.free,I.freeC,λp hp=>?_,tracked ⟨oL,hoL,I.free⟩ hs,!!I.len⟩ ⟨_,hs,.inl rfl⟩
  .exact (hs.2 b (cp (b9 (a9 e) I.ok.above))).trans (I.base.keep b o e n hb hx)
  .obtain ⟨sl,e1⟩:=I.base.slot b o e n hb hx;exact ⟨sl,(hs.2 b (cp (b9 (a9 e) I.ok.above))).trans e1⟩
  .obtain ⟨o',e1⟩:=I.base.there b o e hx;exact ⟨o',(hs.2 b (cp (b9 (a9 e) I.ok.above))).trans e1⟩
  .by_cases hj:j=i
   .subst hj;rw[hi]at e1;cases e1;rw[e9 hiσ]at e2;cases e2;exact ⟨u,r,.inl ⟨hk,by simp⟩⟩
   .rw[fv (Ne.symm hj)]at e2;obtain ⟨u',r',q⟩:=hl j y v' e1 e2 e3;refine ⟨u',r',?_⟩;rcases q with ⟨k,e⟩ |⟨k,c,e,z⟩
    .refine .inl ⟨k,?_⟩;have:y≠x:=λe=>hj (Br hN e1 (e ▸ hi));simp[this,e]
    .exact .inr ⟨k,c,e,z.sameBut hs (cne y c e)⟩
  .obtain ⟨w',z⟩:=I.cell y c e;exact ⟨w',z.sameBut hs (cne y c e)⟩
  .obtain ⟨e,n,ne,nf,d⟩:=I.pin p hp;exact ⟨(hs.2 p.1 ne).trans e,n,ne,nf,d⟩
 .have hfn:X.fn x=true:=by
   rcases hf with z |z
   .exact z
   .rw[z]at hk;cases hk
  obtain ⟨c,hc⟩:=I.ok.has x (.inl hk);obtain ⟨w',z⟩:=I.cell x c hc;refine wpAny_storeName_cell I.ok.kind hk hc z (λh' hc' hs=>?_);obtain ⟨oc,hoc,hocd⟩:=id z;refine h { s with heap:=h' } ⟨I.ok,I.os,I.bare,⟨λb o e n hb hx=>?_,λb o e n hb hx=>?_,I.base.free,λb o e hx=>?_,I.base.tups,I.base.frzs,I.base.tbls⟩,⟨m,hn.sameBut hs (Ne.symm (cne x c hc)),λj y v' e1 e2 e3=>?_⟩,λy c' e=>?_,I.free,I.freeC,λp hp=>?_,tracked ⟨oc,hoc,I.freeC x c hc⟩ hs,!!I.len⟩ ⟨c,hs,.inr hc⟩
  .exact (hs.2 b (cp (b9 (a9 e) (I.ok.cab x c hfn hc)))).trans (I.base.keep b o e n hb hx)
  .obtain ⟨sl,e1⟩:=I.base.slot b o e n hb hx;exact ⟨sl,(hs.2 b (cp (b9 (a9 e) (I.ok.cab x c hfn hc)))).trans e1⟩
  .obtain ⟨o',e1⟩:=I.base.there b o e hx;exact ⟨o',(hs.2 b (cp (b9 (a9 e) (I.ok.cab x c hfn hc)))).trans e1⟩
  .by_cases hj:j=i
   .subst hj;rw[hi]at e1;cases e1;rw[e9 hiσ]at e2;cases e2;exact ⟨u,r,.inr ⟨.inl hk,c,hc,hc'⟩⟩
   .rw[fv (Ne.symm hj)]at e2;obtain ⟨u',r',q⟩:=hl j y v' e1 e2 e3;refine ⟨u',r',?_⟩;rcases q with q |⟨k,c',e,z'⟩
    .exact .inl q
    .refine .inr ⟨k,c',e,z'.sameBut hs ?_⟩;rintro rfl;exact hj (Br hN e1 (I.ok.inj _ _ _ e hc ▸ hi))
  .by_cases hcc:c'=c
   .subst hcc;exact ⟨_,hc'⟩
   .obtain ⟨w2,z2⟩:=I.cell y c' e;exact ⟨w2,z2.sameBut hs hcc⟩
  .obtain ⟨e,n,ne,nf,d⟩:=I.pin p hp;refine ⟨(hs.2 p.1 ?_).trans e,n,ne,nf,d⟩;intro q;rw[q,hoc]at e;have q':oc=p.2:=cm e;exact d w' (by rw[<-q'];exact hocd)
theorem qP{M:Model}{A:AM}{E:AG}{i:Nat}{x:Str}{v:V}{u:AN}{Q:Unit->AI->Prop}(I:Inv X p9 σ H s)(hN:X.N.Nodup)(hi:X.N[i]?=some x)(hx:Loc X.env.scope x)(r:RelV v u)
  (h:∀s',Inv X p9 (σ.set i (some v)) H s'->Q () s') (hf:X.fn x=true\/X.env.scope.names.lookup x=some .local:=by first |exact .inl rfl |exact .inr rfl |assumption):wpAny M A (storeName X.env x u) Q E s:=
 RG I hN hi hx r (λs' I' _=>h s' I') hf
theorem Inv.call'{s':AI}{ch:List AQ}(I:Inv X p9 σ H s)(ho:s'.os=s.os)(u:Un (frs X.stack) ch H H' s.heap s'.heap)(hok:HOk X.prog X.w H' s'.heap)(hg:AllBare s'.gens)
  (hch:∀b∈ch,(b∈X.ex\/X.s₀.heap.objs.size<=b)/\b≠X.env.locals/\(∀x c,X.env.cells.lookup x=some c->c≠b)/\∀p∈X.pn++p9,p.1≠b):Inv X p9 σ H' s':=by
 obtain ⟨h',g',d',t',o'⟩:=s';have e:o'=s.os:=ho;subst e;exact I.call (g':=g') (t':=t') (d':=d') u hok hg hch
end
abbrev XK:=AN->Option AQ->Hp->Prop
abbrev St:=List (Option V)
abbrev VK:=V->Hp->Prop
abbrev TE:=St->Hp->VK->Prop
abbrev TT:=St->Hp->(Bool->Hp->Prop)->Prop
abbrev TA:=St->Hp->(AR->Hp->Prop)->Prop
structure Ends where
 nx:St->Hp->Prop
 rt:VK
 bk:St->Hp->Prop:=λ_ _=>False
 ct:St->Hp->Prop:=λ_ _=>False
abbrev TS:=Ends->St->Hp->Prop
def EP(X:Cx)(p9:AC)(Y:St)(Q:VK)(u:AN)(s':AI):Prop:=∃v H',Inv X p9 Y H' s'/\RelV v u/\Q v H'
def TP(X:Cx)(p9:AC)(Y:St)(Q:Bool->Hp->Prop)(b:Bool)(s':AI):Prop:=∃H',Inv X p9 Y H' s'/\Q b H'
def AP(X:Cx)(p9:AC)(Y:St)(Q:AR->Hp->Prop)(us:AB)(s':AI):Prop:=∃vs H',Inv X p9 Y H' s'/\Vals vs us/\Q vs H'
def SP(X:Cx)(p9:AC)(D:Ends)(f:Flow)(s':AI):Prop:=
 match f with
 |.next=>∃σ' H',Inv X p9 σ' H' s'/\D.nx σ' H'
 |.brk=>∃σ' H',Inv X p9 σ' H' s'/\D.bk σ' H'
 |.cont=>∃σ' H',Inv X p9 σ' H' s'/\D.ct σ' H'
 |.ret u=>∃v σ' H',Inv X p9 σ' H' s'/\RelV v u/\D.rt v H'
def PE(X:Cx)(e:AO)(t:TE):Prop:=
 ∀(p9:AC)(s:AI)(Y:St)(H:Hp)(Q:VK),Inv X p9 Y H s->t Y H Q->↥X (eval e X.env) (EP X p9 Y Q) X.xe s
def PT(X:Cx)(e:AO)(t:TT):Prop:=
 ∀(p9:AC)(s:AI)(Y:St)(H:Hp)(Q:Bool->Hp->Prop),Inv X p9 Y H s->t Y H Q->↥X (isTrue e X.env (eval e X.env)) (TP X p9 Y Q) X.xe s
def PW(X:Cx)(e:AO)(t:TT):Prop:=
 ∀(whole:Sem AN)(p9:AC)(s:AI)(Y:St)(H:Hp)(Q:Bool->Hp->Prop),Inv X p9 Y H s->t Y H Q->↥X (isTrue e X.env whole) (TP X p9 Y Q) X.xe s
def PW.pt{X:Cx}{e:AO}{t:TT}(h:PW X e t):PT X e t:=h _
def PA(X:Cx)(es:AE)(t:TA):Prop:=
 ∀(pos:Pos)(p9:AC)(s:AI)(Y:St)(H:Hp)(Q:AR->Hp->Prop),Inv X p9 Y H s->t Y H Q->↥X (spliced (backTo pos (starEach es X.env))) (AP X p9 Y Q) X.xe s
def PS(X:Cx)(st:Stmt)(t:TS):Prop:=
 ∀(p9:AC)(s:AI)(Y:St)(H:Hp)(D:Ends),Inv X p9 Y H s->t D Y H->↥X (exec st X.env) (SP X p9 D) X.xe s
def PSs(X:Cx)(st:AF)(t:TS):Prop:=
 ∀(p9:AC)(s:AI)(Y:St)(H:Hp)(D:Ends),Inv X p9 Y H s->t D Y H->↥X (execs st X.env) (SP X p9 D) X.xe s
def thn{α:Type}{t:Sem α}{Q Q':α->AI->Prop}{M:Model}{A:AM}{E:AG}{s:AI}(h:wpAny M A t Q E s)(hQ:∀a s,Q a s->Q' a s):wpAny M A t Q' E s:=dr h hQ λ_ _ x=>x
section
variable {X:Cx}
theorem bin{a b:AO}{ta tb:TE}(ha:PE X a ta)(hb:PE X b tb){p9:AC}{s:AI}{Y:St}{H:Hp}{R:V->V->Hp->Prop}(I:Inv X p9 Y H s)(h:ta Y H λx H1=>tb Y H1 λy H2=>R x y H2)
  {α:Type} {Q:α->AI->Prop} {f:AN->AN->Sem α}
  (hf:∀v u s2 x y H2,Inv X p9 Y H2 s2->RelV x v->RelV y u->R x y H2->↥X (f v u) Q X.xe s2):
  ↥X (eval a X.env) (λv s₁=>↥X (eval b X.env) (λu s₂=>↥X (f v u) Q X.xe s₂) X.xe s₁) X.xe s:=by
 refine thn (ha p9 s Y H _ I h) λv s1 ⟨x,H1,I1,r1,q1⟩=>?_;refine thn (hb p9 s1 Y H1 _ I1 q1) λu s2 ⟨y,H2,I2,r2,q2⟩=>?_;exact hf v u s2 x y H2 I2 r1 r2 q2
def Bt(i:Nat):TE:=λY H Q=>∃v,Y[i]?=some (some v)/\Q v H
def tC(v:V):TE:=λ_ H Q=>Q v H
theorem Bu {i:Nat} {x:Str} {pos:Pos} (hN:X.N[i]?=some x) (hv:Vis X.env.scope x) (hd:(x==("__debug__":Str))=false:=by decide) (hcd:(x==("__classdict__":Str))=false:=by decide):PE X (.Name x pos) (Bt i):=by
 intro p9 s Y H Q I h;obtain ⟨v,e,h⟩:=h;obtain ⟨m,hn,hl⟩:=I.loc;obtain ⟨u,r,l⟩:=hl i x v hN e hv;have fin:EP X p9 Y Q u s:=⟨v,H,I,r,h⟩;rcases l with ⟨hk,hm⟩ |⟨hk,c,hc,hcell⟩
 .exact wpAny_Name (wpAny_loadName_local I.ok.kind hk hn hm fin) hd
 .rcases hk with hk |hk
  .exact wpAny_Name (wpAny_loadName_cell I.ok.kind hk hc hcell fin) hd
  .exact wpAny_Name (wpAny_loadName_free I.ok.kind hk hc hcell fin hcd) hd
theorem RJ{i j pos}:PE X (.Constant (.int i) j pos) (tC (.int i)):=λ_ _ _ H _ I h=>wpAny_Constant_int ⟨.int i,H,I.tok _,⟨_,rfl⟩,h⟩
theorem RK{b j pos}:PE X (.Constant (.bool b) j pos) (tC (.bl b)):=λ_ _ _ H _ I h=>Constant_bool ⟨.bl b,H,I,rfl,h⟩
theorem RL{j pos}:PE X (.Constant .none j pos) (tC .non):=λ_ _ _ H _ I h=>Constant_none ⟨.non,H,I,rfl,h⟩
theorem RM{x j pos}:PE X (.Constant (.str x) j pos) (tC (.str x)):=λ_ _ _ H _ I h=>Calls.Constant_str ⟨.str x,H,I.tok _,⟨_,rfl⟩,h⟩
def Gl(X:Cx)(x:Str):Prop:=X.env.kindOf x=some .globalImplicit
theorem Bv{E:AG}{p9:AC}{s:AI}{Y:St}{H:Hp}{x:Str}{u:AN}{pos:Pos}{Q:AG}(I:Inv X p9 Y H s)(hg:Gl X x)(hm:X.mg x=some u)(h:Q u s)
  (hd:(x==("__debug__":Str))=false:=by decide):↥X (eval (.Name x pos) X.env) Q E s:=
 Calls.Name_function_global I.ok.kind hg (Calls.loadGlobal_global (by rw[I.ok.glob];exact I.mod.glob.keeps I.bk) hm h) hd
theorem fY{E:AG}{p9:AC}{s:AI}{Y:St}{H:Hp}{x:Str}{u:AN}{pos:Pos}{Q:AG}(I:Inv X p9 Y H s)(hg:Gl X x)(hm:X.mg x=none)(hv:bootBuiltins x=some u)(h:Q u s)
  (hn:x≠"__name__":=by decide) (hd:(x==("__debug__":Str))=false:=by decide):↥X (eval (.Name x pos) X.env) Q E s:=by
 obtain ⟨mb,h1,h2⟩:=I.mod.blt;exact Calls.Name_function_global I.ok.kind hg (Calls.loadGlobal_builtin (by rw[I.ok.glob];exact I.mod.glob.keeps I.bk) hm (by rw[I.ok.blt];exact h1.keeps I.bk) ((h2 x hn).trans hv) h) hd
theorem RN {x:Str} {v:V} {u:AN} {pos:Pos} (hg:Gl X x) (hm:X.mg x=some u) (r:RelV v u) (hd:(x==("__debug__":Str))=false:=by decide):PE X (.Name x pos) (tC v):=
 λ_ _ _ H _ I h=>Bv I hg hm ⟨v,H,I,r,h⟩ hd
theorem RP {x:Str} {v:V} {u:AN} {pos:Pos} (hg:Gl X x) (hm:X.mg x=none) (hv:bootBuiltins x=some u) (r:RelV v u) (hn:x≠"__name__":=by decide) (hd:(x==("__debug__":Str))=false:=by decide):PE X (.Name x pos) (tC v):=
 λ_ _ _ H _ I h=>fY I hg hm hv ⟨v,H,I,r,h⟩ hn hd
variable {a b:AO} {ta tb:TE} {pos:Pos}
variable {tA tB':TT} {rest:AE}
def RQ(t u:TT):TT:=λY H Q=>t Y H λc H1=>if c=true then u Y H1 Q else Q false H1
def tOr(t u:TT):TT:=λY H Q=>t Y H λc H1=>if c=true then Q true H1 else u Y H1 Q
def RT(t:TT):TT:=λY H Q=>t Y H λc H1=>Q (!c) H1
theorem RV(ha:PT X a tA):PW X (.BoolOp .And [a] pos) tA:=by
 intro wh p9 s Y H Q I h;refine isTrue_and (thn (ha p9 s Y H Q I h) λc s1 e=>?_);cases c with
 |true=>exact isTrue_and_nil e
 |false=>exact e
theorem RW(ha:PT X a tA):PW X (.BoolOp .Or [a] pos) tA:=by
 intro wh p9 s Y H Q I h;refine isTrue_or (thn (ha p9 s Y H Q I h) λc s1 e=>?_);cases c with
 |false=>exact isTrue_or_nil e
 |true=>exact e
theorem RX(ha:PT X a tA)(hb:PW X (.BoolOp .And (b::rest) pos) tB'):PW X (.BoolOp .And (a::b::rest) pos) (RQ tA tB'):=by
 intro wh p9 s Y H Q I h;refine isTrue_and (thn (ha p9 s Y H _ I h) λc s1 ⟨H1,I1,q1⟩=>?_);cases c with
 |true=>exact hb wh p9 s1 Y H1 Q I1 q1
 |false=>exact ⟨H1,I1,q1⟩
theorem RZ(ha:PT X a tA)(hb:PW X (.BoolOp .Or (b::rest) pos) tB'):PW X (.BoolOp .Or (a::b::rest) pos) (tOr tA tB'):=by
 intro wh p9 s Y H Q I h;refine isTrue_or (thn (ha p9 s Y H _ I h) λc s1 ⟨H1,I1,q1⟩=>?_);cases c with
 |true=>exact ⟨H1,I1,q1⟩
 |false=>exact hb wh p9 s1 Y H1 Q I1 q1
theorem R0(ha:PT X a tA):PT X (.UnaryOp .Not a pos) (RT tA):=by intro p9 s Y H Q I h;exact isTrue_not (ha p9 s Y H (λc H1=>Q (!c) H1) I h)
def R1(ta tb:TE):TE:=λY H Q=>ta Y H λx H1=>∃c,x=.bl c/\if c=true then tb Y H1 Q else Q (.bl false) H1
def R3(ta tb:TE):TE:=λY H Q=>ta Y H λx H1=>∃c,x=.bl c/\if c=true then Q (.bl true) H1 else tb Y H1 Q
theorem R4{op}{t:TE}(h:PE X a t):PE X (.BoolOp op [a] pos) t:=λp9 s Y H Q I hw=>BoolOp_one (h p9 s Y H Q I hw)
theorem R5(ha:PE X a ta)(hb:PE X (.BoolOp .And (b::rest) pos) tb):PE X (.BoolOp .And (a::b::rest) pos) (R1 ta tb):=by
 intro p9 s Y H Q I h;refine BoolOp_and (thn (ha p9 s Y H _ I h) λv s1 ⟨x,H1,I1,r1,q1⟩=>?_);obtain ⟨c,rfl,q1⟩:=q1;cases r1;refine fN ?_;cases c with
 |true=>exact hb p9 s1 Y H1 Q I1 q1
 |false=>exact ⟨.bl false,H1,I1,rfl,q1⟩
theorem R6(ha:PE X a ta)(hb:PE X (.BoolOp .Or (b::rest) pos) tb):PE X (.BoolOp .Or (a::b::rest) pos) (R3 ta tb):=by
 intro p9 s Y H Q I h;refine BoolOp_or (thn (ha p9 s Y H _ I h) λv s1 ⟨x,H1,I1,r1,q1⟩=>?_);obtain ⟨c,rfl,q1⟩:=q1;cases r1;refine fN ?_;cases c with
 |false=>exact hb p9 s1 Y H1 Q I1 q1
 |true=>exact ⟨.bl true,H1,I1,rfl,q1⟩
def tIf(t:TT)(ta tb:TE):TE:=λY H Q=>t Y H λc H1=>if c=true then ta Y H1 Q else tb Y H1 Q
theorem R7{c:AO}(hc:PT X c tA)(ha:PE X a ta)(hb:PE X b tb):PE X (.IfExp c a b pos) (tIf tA ta tb):=by
 intro p9 s Y H Q I h;refine wpAny_IfExp (thn (hc p9 s Y H _ I h) λd s1 ⟨H1,I1,q1⟩=>?_);cases d with
 |true=>exact ha p9 s1 Y H1 Q I1 q1
 |false=>exact hb p9 s1 Y H1 Q I1 q1
end
def SqL(K:PF)(H:Hp)(a:AQ)(xs:AR):Prop:=
 Rd H a (.lst xs)\/
  ∃(o:Obj) (its:Array AN) (n:Nat),K.lookup a=some o/\o.cls=.type "list"/\o.dict=none/\o.data=.seq its n/\its.size<=sizeLine/\Vals xs its.toList
def SqT(K:PF)(H:Hp)(a:AQ)(xs:AR):Prop:=
 Rd H a (.tup xs)\/
  ∃(o:Obj) (its:Array AN) (n:Nat),K.lookup a=some o/\o.cls=.type "tuple"/\o.data=.seq its n/\its.size<=sizeLine/\Vals xs its.toList
def R8:AN->Option V
 |.none=>some .non
 |.bool b=>some (.bl b)
 |.int i _=>some (.int i)
 |.str x _=>some (.str x)
 |.bytes b _=>some (.byt b)
 |.float b _=>some (.flt b)
 |.ref a=>some (.ref a)
 |.type n=>some (.ty n)
 |_=>none
def RelV.abs{x:V}{u:AN}(r:RelV x u):R8 u=some x:=by
 cases x with
 |non=>cases r;rfl
 |bl _=>cases r;rfl
 |int _=>obtain ⟨t,rfl⟩:=r;rfl
 |str _=>obtain ⟨t,rfl⟩:=r;rfl
 |byt _=>obtain ⟨t,rfl⟩:=r;rfl
 |flt _=>obtain ⟨t,rfl⟩:=r;rfl
 |ref _=>cases r;rfl
 |ty _=>cases r;rfl
def RelV.inj{x y:V}{u:AN}(r:RelV x u)(q:RelV y u):x=y:=cm (r.abs.symm.trans q.abs)
def Vals.inj:∀{xs ys:AR}{us:AB},Vals xs us->Vals ys us->xs=ys
 |_,_,_,.nil,.nil=>rfl
 |_,_,_,.cons r t,.cons r' t'=>by rw[r.inj r',Vals.inj t t']
section
variable {X:Cx} {p9:AC} {σ:St} {H:Hp} {s:AI} {a:AQ} {xs ys:AR}
theorem SqL.of{K:PF}(h:H a=some (.lst xs)):SqL K H a xs:=.inl (.inl h)
theorem SqT.of{K:PF}(h:H a=some (.tup xs)):SqT K H a xs:=.inl (.inl h)
theorem Inv.list(I:Inv X p9 σ H s)(h:SqL X.K H a xs):∃its:AB,Vals xs its/\PlainL s.heap a its.toArray/\xs.length<=sizeLine:=by
 rcases h with h |⟨o,its,n,hk,hc,hd,hs,hz,r⟩
 .obtain ⟨z,its,n,r,e⟩:=h.ok I.hok;exact ⟨its,r,⟨_,n,e,rfl,rfl,rfl⟩,z⟩
 .refine ⟨its.toList,r,⟨o,n,I.kIn a o hk,hc,hd,!!hs⟩,?_⟩;have e:=r.length;simp only[bB]at e;omega
theorem Inv.tuple(I:Inv X p9 σ H s)(h:SqT X.K H a xs):∃its:AB,Vals xs its/\IsTup s.heap a its.toArray/\xs.length<=sizeLine:=by
 rcases h with h |⟨o,its,n,hk,hc,hs,hz,r⟩
 .obtain ⟨z,its,r,p⟩:=h.ok I.hok;exact ⟨its,r,p,z⟩
 .refine ⟨its.toList,r,⟨o,I.kIn a o hk,hc,n,!!hs⟩,?_⟩;have e:=r.length;simp only[bB]at e;omega
theorem Inv.list_inj(I:Inv X p9 σ H s)(h:SqL X.K H a xs)(h':SqL X.K H a ys):xs=ys:=by
 obtain ⟨its,r,⟨o,n,e,_,_,d⟩,_⟩:=I.list h;obtain ⟨its',r',⟨o',n',e',_,_,d'⟩,_⟩:=I.list h';rw[e]at e';cases e';rw[d]at d';injection d' with d1 _;have:its=its':=by simpa using fE Array.toList d1
 subst this;exact r.inj r'
theorem Inv.tuple_inj(I:Inv X p9 σ H s)(h:SqT X.K H a xs)(h':SqT X.K H a ys):xs=ys:=by
 obtain ⟨its,r,⟨o,e,_,n,d⟩,_⟩:=I.tuple h;obtain ⟨its',r',⟨o',e',_,n',d'⟩,_⟩:=I.tuple h';rw[e]at e';cases e';rw[d]at d';injection d' with d1 _;have:its=its':=by simpa using fE Array.toList d1
 subst this;exact r.inj r'
end
abbrev Cx.wish(X:Cx)(E:AG):Cx:={ X with xe:=E }
abbrev Cx.nox(X:Cx):Cx:=X.wish λ_ _=>False
def Cx.Ok.wish{X:Cx}(ok:X.Ok)(E:AG):(X.wish E).Ok:=
 ⟨ok.mod,ok.kind,ok.glob,ok.blt,ok.above,ok.inj,ok.has,ok.cab,ok.hd,ok.frames,ok.stk,ok.exf,ok.bs,ok.bsz,ok.noex,ok.exfs,ok.funs,ok.frf⟩
def Cx.Ok.unwish{X:Cx}{E:AG}(ok:(X.wish E).Ok):X.Ok:=
 ⟨ok.mod,ok.kind,ok.glob,ok.blt,ok.above,ok.inj,ok.has,ok.cab,ok.hd,ok.frames,ok.stk,ok.exf,ok.bs,ok.bsz,ok.noex,ok.exfs,ok.funs,ok.frf⟩
section
variable {X:Cx} {p9:AC} {σ:St} {H:Hp} {s:AI} {E:AG}
theorem Inv.wish(I:Inv X p9 σ H s)(E:AG):Inv (X.wish E) p9 σ H s:=⟨I.ok.wish E,I.os,I.bare,I.base,I.loc,I.cell,I.free,I.freeC,I.pin,I.hok,I.len⟩
theorem Inv.unwish(I:Inv (X.wish E) p9 σ H s):Inv X p9 σ H s:=⟨I.ok.unwish,I.os,I.bare,I.base,I.loc,I.cell,I.free,I.freeC,I.pin,I.hok,I.len⟩
theorem SP.unwish{D:Ends}{f:Flow}{s':AI}(h:SP (X.wish E) p9 D f s'):SP X p9 D f s':=by
 cases f with
 |next=>obtain ⟨σ',H',I,q⟩:=h;exact ⟨σ',H',I.unwish,q⟩
 |brk=>obtain ⟨σ',H',I,q⟩:=h;exact ⟨σ',H',I.unwish,q⟩
 |cont=>obtain ⟨σ',H',I,q⟩:=h;exact ⟨σ',H',I.unwish,q⟩
 |ret u=>obtain ⟨v,σ',H',I,r,q⟩:=h;exact ⟨v,σ',H',I.unwish,r,q⟩
theorem PSs.nox{st:AF}{t:TS}(h:PSs X.nox st t):PSs X st t:=λp9 s σ H D I hw=>
 dr (h p9 s σ H D (I.wish _) hw) (λ_ _ q=>q.unwish) λ_ _ z=>False.elim z
end
section
variable {X:Cx} {st:Stmt} {rest:AF} {t u:TS} {e:AO} {te:TE} {pos:Pos}
def Bw:TS:=λD Y H=>D.nx Y H
def R9(t u:TS):TS:=λD Y H=>t { D with nx:=u D } Y H
theorem Sd:PSs X [] Bw:=λ_ _ Y H _ I h=>wpAny_execs_nil ⟨Y,H,I,h⟩
theorem Sg(h1:PS X st t)(h2:PSs X rest u):PSs X (st::rest) (R9 t u):=by
 intro p9 s Y H D I h;refine wpAny_execs_cons (thn (h1 p9 s Y H { D with nx:=u D } I h) λf s1 q=>?_);cases f with
 |next=>
  obtain ⟨σ',H',I',q⟩:=q;exact h2 p9 s1 σ' H' D I' q
 |ret v=>exact q
 |brk=>exact q
 |cont=>exact q
def Sq:TS:=λD Y H=>D.bk Y H
def Ss:TS:=λD Y H=>D.ct Y H
theorem Su:PS X (.Pass pos) Bw:=λ_ _ Y H _ I h=>wpAny_Pass ⟨Y,H,I,h⟩
theorem Sv:PS X (.Break pos) Sq:=λ_ _ Y H _ I h=>wpAny_Break ⟨Y,H,I,h⟩
theorem Sw:PS X (.Continue pos) Ss:=λ_ _ Y H _ I h=>wpAny_Continue ⟨Y,H,I,h⟩
theorem Inv.quiet{p9:AC}{Y:St}{H:Hp}{s:AI}(I:Inv X p9 Y H s):interactive X.env=false:=by simp[interactive,I.ok.kind]
def Sy(te:TE):TS:=λD Y H=>te Y H λ_ H1=>D.nx Y H1
theorem SJ(he:PE X e te)(hs:swapsWith e none pos.line X.env=pure false:=by rfl):PS X (.Expr e pos) (Sy te):=by intro p9 s Y H D I h;exact wpAny_Expr_any (thn (he p9 s Y H _ I h) λv s1 ⟨x,H1,I1,r1,q1⟩=>⟨Y,H1,I1,q1⟩) I.quiet hs
def Bx(te:TE):TS:=λD Y H=>te Y H D.rt
theorem SM(he:PE X e te):PS X (.Return (some e) pos) (Bx te):=by intro p9 s Y H D I h;exact wpAny_Return_some (thn (he p9 s Y H _ I h) λv s1 ⟨x,H1,I1,r1,q1⟩=>⟨x,Y,H1,I1,r1,q1⟩)
def SN:TS:=λD _ H=>D.rt .non H
theorem SQ:PS X (.Return none pos) SN:=λ_ _ Y H _ I h=>wpAny_Return_none ⟨.non,Y,H,I,rfl,h⟩
def SX(c:TT)(t u:TS):TS:=λD Y H=>c Y H λb H1=>if b=true then t D Y H1 else u D Y H1
theorem S5{c:AO}{a b:AF}{tc:TT}(hc:PT X c tc)(ha:PSs X a t)(hb:PSs X b u):PS X (.If c a b pos) (SX tc t u):=by
 intro p9 s Y H D I h;refine wpAny_If (thn (hc p9 s Y H _ I h) λd s1 ⟨H1,I1,q1⟩=>?_);cases d with
 |true=>exact ha p9 s1 Y H1 D I1 q1
 |false=>exact hb p9 s1 Y H1 D I1 q1
def S6:TS:=λ_ _ _=>False
theorem S7:PS X st S6:=λ_ _ _ _ _ _ h=>h.elim
end
abbrev TG:=V->St->Hp->(St->Hp->Prop)->Prop
abbrev TGs:=AR->St->Hp->(St->Hp->Prop)->Prop
def PG(X:Cx)(target:AO)(t:TG):Prop:=
 ∀(p9:AC)(s:AI)(Y:St)(H:Hp)(v:V)(u:AN)(Q:St->Hp->Prop),Inv X p9 Y H s->RelV v u->t v Y H Q->
  ↥X (assign target X.env u) (λ_ s'=>∃σ' H',Inv X p9 σ' H' s'/\Q σ' H') X.xe s
def PGs(X:Cx)(ts:AE)(t:TGs):Prop:=
 ∀(p9:AC)(s:AI)(Y:St)(H:Hp)(vs:AR)(us:AB)(Q:St->Hp->Prop),Inv X p9 Y H s->Vals vs us->t vs Y H Q->
  ↥X (assignInOrder ((assignEach ts X.env).map (·.2)) us) (λ_ s'=>∃σ' H',Inv X p9 σ' H' s'/\Q σ' H') X.xe s
abbrev uZ:=V->V->V->Hp->(Hp->Prop)->Prop
def u5(X:Cx)(t:uZ):Prop:=
 ∀(p9:AC)(s:AI)(Y:St)(H:Hp)(o i v:V)(ov iv u:AN)(Q:Hp->Prop),Inv X p9 Y H s->RelV o ov->RelV i iv->RelV v u->t o i v H Q->
  ↥X (setItem ov iv u) (λ_ s'=>∃H',Inv X p9 Y H' s'/\Q H') X.xe s
abbrev TIp:=V->V->Hp->VK->Prop
def PIp(X:Cx)(op:Operator)(t:TIp):Prop:=
 ∀(p9:AC)(s:AI)(Y:St)(H:Hp)(x y:V)(v u:AN)(Q:VK),Inv X p9 Y H s->RelV x v->RelV y u->t x y H Q->
  ↥X (inplaceOp op v u) (EP X p9 Y Q) X.xe s
section
variable {X:Cx} {pos:Pos}
def qQ(i:Nat):TG:=λv Y H Q=>Q (Y.set i (some v)) H
theorem S8{i:Nat}{x:Str}(hN:X.N.Nodup)(hi:X.N[i]?=some x)(hx:Loc X.env.scope x)(hf:X.fn x=true\/X.env.scope.names.lookup x=some .local:=by first |exact .inl rfl |exact .inr rfl |assumption):PG X (.Name x pos) (qQ i):=by intro p9 s Y H v u Q I r h;exact wpAny_assign_Name (qP I hN hi hx r (λs' I'=>⟨_,H,I',h⟩) hf)
def S9:TGs:=λvs Y H Q=>vs=[]/\Q Y H
def Tc(t:TG)(u:TGs):TGs:=λvs Y H Q=>∃v r,vs=v::r/\t v Y H λσ' H'=>u r σ' H' Q
theorem Td:PGs X [] S9:=by intro p9 s Y H vs us Q I r h;obtain ⟨e,h⟩:=h;subst e;cases r;exact assignInOrder_nil ⟨Y,H,I,h⟩
theorem Te{e:AO}{es:AE}{t:TG}{u:TGs}(h1:PG X e t)(h2:PGs X es u)
  (hs:(assignEach (e::es) X.env).map (·.2)=assign e X.env::(assignEach es X.env).map (·.2):=by rfl):PGs X (e::es) (Tc t u):=by
 intro p9 s Y H vs us Q I r h;obtain ⟨v,vr,e1,h⟩:=h;subst e1;cases r with
 |cons r rr=>
  rw[hs];refine assignInOrder_cons (thn (h1 p9 s Y H _ _ _ I r h) λ_ s1 ⟨σ1,H1,I1,q1⟩=>?_);exact h2 p9 s1 σ1 H1 _ _ Q I1 rr q1
def Tf(K:PF)(n:Nat)(t:TGs):TG:=λv Y H Q=>∃a xs,v=.ref a/\SqT K H a xs/\xs.length=n/\t xs Y H Q
theorem Th{es:AE}{k:Nat}{t:TGs}{n:Nat}(hc:X.calm=true)(h:PGs X es t)
  (hn:(assignEach es X.env).length=n:=by rfl) (hst:(assignEach es X.env).findIdx? (·.1)=none:=by rfl):PG X (.Tuple es k pos) (Tf X.K n t):=by
 intro p9 s Y H v u Q I r hw;obtain ⟨a,xs,e1,hq,hl,hw⟩:=hw;subst e1;cases r;obtain ⟨its,rv,ht,hz⟩:=I.tuple hq;refine assign_Tuple_tuple (I.ok.hd hc) ht (by simp[hn,<-hl,rv.length]) hst λh' hx=>?_;have I1:Inv X p9 Y H { s with heap:=h' }:=I.kept (t':=s.toks) λb o e=>hx b o (cp (a9 e)) e;exact h p9 _ Y H xs _ Q I1 (!!rv) hw
def Ti(to ti:TE)(t:uZ):TG:=λv Y H Q=>to Y H λo H1=>ti Y H1 λi H2=>t o i v H2 λH3=>Q Y H3
theorem Tj{o i:AO}{to ti:TE}{t:uZ}(ho:PE X o to)(hi:PE X i ti)(hs:u5 X t)
  (ha:∀v,assign (.Subscript o i pos) X.env v=(do
   let ov <-holding [v] (eval o X.env)
   let iv <-holding [v,ov] (eval i X.env)
   standAt pos
   holding [v,ov,iv] (setItem ov iv v)
   release [v,ov,iv] []):=by intro _;rfl):PG X (.Subscript o i pos) (Ti to ti t):=by
 intro p9 s Y H v u Q I r h;rw[ha];refine ab (dA (thn (ho p9 s Y H _ I h) λov s1 ⟨x,H1,I1,r1,q1⟩=>?_));refine ab (dA (thn (hi p9 s1 Y H1 _ I1 q1) λiv s2 ⟨y,H2,I2,r2,q2⟩=>?_));refine ab (js (ab (dA (thn (hs p9 s2 Y H2 x y v ov iv u _ I2 r1 r2 r q2) λ_ s3 ⟨H3,I3,q3⟩=>?_))));exact wpAny_release ⟨Y,H3,I3,q3⟩
def qR(te:TE)(g:TG):TS:=λD Y H=>te Y H λx H1=>g x Y H1 D.nx
theorem By{tg e:AO}{te:TE}{g:TG}(he:PE X e te)(hg:PG X tg g)(hs:swapsWithSole [tg] e pos.line X.env=pure false:=by rfl)(hw:swappedStores [tg] e X.env=pure none:=by rfl)
  (h1:(assignEach [tg] X.env).map (·.2)=[assign tg X.env]:=by rfl):PS X (.Assign [tg] e pos) (qR te g):=by
 intro p9 s Y H D I h;refine wpAny_Assign_stores (thn (he p9 s Y H _ I h) λv s1 ⟨x,H1,I1,r1,q1⟩=>?_) hs hw;rw[h1];exact thn (hg p9 s1 Y H1 x v _ I1 r1 q1) λ_ s2 q=>q
theorem u6{i:Nat}{x:Str}{e:AO}{te:TE}{pos':Pos}(hN:X.N.Nodup)(hi:X.N[i]?=some x)(hx:Loc X.env.scope x)(he:PE X e te)(hs:swapsWith e (some (.Name x pos')) pos.line X.env=pure false:=by rfl)(hf:X.fn x=true\/X.env.scope.names.lookup x=some .local:=by first |exact .inl rfl |exact .inr rfl |assumption):
  PS X (.Assign [.Name x pos'] e pos) (qR te (qQ i)):=by
 intro p9 s Y H D I h;refine wpAny_Assign_Name (thn (he p9 s Y H _ I h) λv s1 ⟨y,H1,I1,r1,q1⟩=>?_) hs;exact qP I1 hN hi hx r1 (λs2 I2=>⟨_,H1,I2,q1⟩) hf
def Tn(i:Nat)(te:TE)(ti:TIp):TS:=λD Y H=>∃x,Y[i]?=some (some x)/\te Y H λy H1=>ti x y H1 λz H2=>D.nx (Y.set i (some z)) H2
theorem Tp{i:Nat}{x:Str}{e:AO}{te:TE}{op:Operator}{ti:TIp}{pos':Pos}(hN:X.N.Nodup)(hi:X.N[i]?=some x)(hx:Loc X.env.scope x)(he:PE X e te)(ho:PIp X op ti)(hf:X.fn x=true\/X.env.scope.names.lookup x=some .local:=by first |exact .inl rfl |exact .inr rfl |assumption):
  PS X (.AugAssign (.Name x pos') op e pos) (Tn i te ti):=by
 intro p9 s Y H D I h;obtain ⟨v,e1,h⟩:=h;obtain ⟨m,hn,hl⟩:=I.loc;have vis:Vis X.env.scope x:=by rcases hx with k |k;exact .inl k;exact .inr (.inl k)
 obtain ⟨u,r,l⟩:=hl i x v hi e1 vis;refine wpAny_AugAssign_Name ?_;have go:↥X (eval e X.env) (λw s₂=>↥X (inplaceOp op u w) (λr s₃=>↥X (storeName X.env x r) (λ_=>SP X p9 D .next) X.xe s₃) X.xe s₂) X.xe s:=by refine thn (he p9 s Y H _ I h) λw s1 ⟨y,H1,I1,r1,q1⟩=>?_;refine thn (ho p9 s1 Y H1 v y u w _ I1 r r1 q1) λz s2 ⟨zv,H2,I2,r2,q2⟩=>?_;exact qP I2 hN hi hx r2 (λs3 I3=>⟨_,H2,I3,q2⟩) hf
 rcases l with ⟨hk,hm⟩ |⟨hk,c,hc,hcell⟩
 .exact wpAny_loadName_local I.ok.kind hk hn hm go
 .rcases hk with hk |hk
  .exact wpAny_loadName_cell I.ok.kind hk hc hcell go
  .rcases hx with k |k
   .have:X.env.scope.names.lookup x=some .free:=hk;rw[k]at this;cases this
   .have:X.env.scope.names.lookup x=some .free:=hk;rw[k]at this;cases this
end
section
variable {X:Cx} {pos:Pos}
def Tq(c:TT)(tb:TS):TS:=λD Y H=>∃W:Nat->St->Hp->Prop,(∃m,W m Y H)/\∀m Y H,W m Y H->
 c Y H λb H1=>if b=true then ∃N:St->Hp->Prop,(∀σ' H',N σ' H'->∃m',m' < m/\W m' σ' H')/\tb { D with nx:=N,ct:=N,bk:=D.nx } Y H1 else D.nx Y H1
theorem Tt{c:AO}{body:AF}{tc:TT}{tb:TS}(hp:PassesOwn (model X.prog X.w) X.A X.env X.xe)(hc:PT X c tc)(hb:PSs X body tb):PS X (.While c body [] pos) (Tq tc tb):=by
 intro p9 s Y H D I h;obtain ⟨W,⟨m0,w0⟩,turn⟩:=h;refine wpAny_While (codeAny_whileLoop (λn s'=>∃σ' H',Inv X p9 σ' H' s'/\W n σ' H') ?_ m0 ⟨Y,H,I,w0⟩);rintro n s1 ⟨σ1,H1,I1,w1⟩;refine hX hp (thn (hc p9 s1 σ1 H1 _ I1 (turn n σ1 H1 w1)) λb s2 ⟨H2,I2,q2⟩=>?_);cases b with
 |true=>
  obtain ⟨N,hN,q2⟩:=q2;rw[if_pos rfl];refine hX hp (thn (hb p9 s2 σ1 H2 _ I2 q2) λf s3 q3=>?_);cases f with
  |next=>
   obtain ⟨σ3,H3,I3,n3⟩:=q3;obtain ⟨m',hm,w3⟩:=hN σ3 H3 n3;exact ⟨m',hm,σ3,H3,I3,w3⟩
  |cont=>
   obtain ⟨σ3,H3,I3,n3⟩:=q3;obtain ⟨m',hm,w3⟩:=hN σ3 H3 n3;exact ⟨m',hm,σ3,H3,I3,w3⟩
  |brk=>exact q3
  |ret v=>exact q3
 |false=>
  rw[if_neg bn];exact wpAny_execs_nil ⟨σ1,H2,I2,q2⟩
end
structure It where
 go:Nat->Hp->Prop
 yld:Nat->Hp->V->Hp->Prop
 stop:Nat->Hp->Prop
def eY(X:Cx)(p9:AC)(H:Hp)(b:AQ):Prop:=
 H b=none/\b≠X.env.locals/\b∉X.fs/\(b∈X.ex\/X.s₀.heap.objs.size<=b)/\(∀x c,X.env.cells.lookup x=some c->c≠b)/\∀p∈X.pn++p9,p.1≠b
def Inv.fpOk{X:Cx}{p9:AC}{Y:St}{H H':Hp}{s:AI}{b:AQ}(I:Inv X p9 Y H s)(hb:(~~~s)<=b)(hn:H' b=none):eY X p9 H' b:=by
 refine ⟨hn,gL (b9 I.lt hb),I.nofs hb,.inr (bS I.sz hb),λx c e z=>?_,λp hp z=>?_⟩
 .obtain ⟨v,q⟩:=I.cell x c e;exact absurd (b9 q.lt (by rw[z];exact hb)) (eT _)
 .exact absurd (b9 (a9 (I.pin p hp).1) (by rw[z];exact hb)) (eT _)
structure Turn(P:AK)(w:World)(K:PF)(tg:AO)(J:It)(fp:List AQ)(it:AQ)(tn:Nat->Heap->Prop):Prop where
 mem:it∈fp
 obj:∀i h,tn i h->∀b∈fp,∃o,h.get? b=some o/\∀v,o.data≠.cell v
 keep:∀i h h',tn i h->(∀b∈fp,∀o,h.get? b=some o->h'.get? b=some o)->tn i h'
 item:∀(X:Cx),X.prog=P->X.w=w->X.K=K->X.calm=true->∀(i:Nat)(p9:AC)(s:AI)(Y:St)(H:Hp)(E:AG),Inv X p9 Y H s->(∀b∈fp,eY X p9 H b)->tn i s.heap->J.go i H->
  wpAny (model P w) X.A (pyNext (.ref it)) (λr s1=>∃u,r=some u/\
   wpAny (model P w) X.A (letOwnedTupleGo tg (.ref it) u) (λ_ s2=>∃x H',Inv X p9 Y H' s2/\RelV x u/\J.yld i H x H'/\tn (i+1) s2.heap/\∀b∈fp,H' b=none) E s1) E s
 done:∀(X:Cx),X.prog=P->X.w=w->X.K=K->X.calm=true->∀(i:Nat)(p9:AC)(s:AI)(Y:St)(H:Hp)(E:AG),Inv X p9 Y H s->(∀b∈fp,eY X p9 H b)->tn i s.heap->J.stop i H->
  wpAny (model P w) X.A (pyNext (.ref it)) (λr s1=>r=none/\Inv X p9 Y H s1) E s
 self:∀(A:AM)(i:Nat)(s:AI)(Q:AG)(E:AG),tn i s.heap->Q (.ref it) s->wpAny (model P w) A (pyIter (.ref it)) Q E s
abbrev TI:=St->Hp->(It->Hp->Prop)->Prop
def PIE(X:Cx)(p9:AC)(Y:St)(tg:AO)(R:It->Hp->Prop)(itv:AN)(s2:AI):Prop:=
 ∃(it:AQ)(fp:List AQ)(tn:Nat->Heap->Prop)(J:It)(H':Hp),itv=.ref it/\Inv X p9 Y H' s2/\Turn X.prog X.w X.K tg J fp it tn/\tn 0 s2.heap/\(∀b∈fp,eY X p9 H' b)/\R J H'
def PI(X:Cx)(tg iter:AO)(wi:TI):Prop:=
 ∀(p9:AC)(s:AI)(Y:St)(H:Hp)(R:It->Hp->Prop),Inv X p9 Y H s->wi Y H R->
  ↥X (eval iter X.env) (λv s1=>↥X (pyIter v) (PIE X p9 Y tg R) X.xe s1) X.xe s
def kI{M:Model}{A:AM}{E:AG}{s:AI}{tg:AO}{it:AQ}{u:AN}{o:Obj}{n:AL}{vs:Array AN}{Q:Unit->AI->Prop}(ho:s.heap.get? it=some o)(hc:o.cls=.type n)(hd:o.data=.fields vs)
  (hn:["enumerate","zip","dict_itemiterator","dict_reverseitemiterator","odict_iterator","itertools.zip_longest","itertools.pairwise"].contains n=false) (hQ:Q () s):wpAny M A (letOwnedTupleGo tg (.ref it) u) Q E s:=by
 unfold letOwnedTupleGo;cases tg <;> first
  |exact al hQ
  | (cases u <;> first
    |exact al hQ
    | (refine ab (wpAny_load ho ?_)
       rw[hc,hd];show wpAny M A (if (["enumerate","zip","dict_itemiterator","dict_reverseitemiterator","odict_iterator","itertools.zip_longest","itertools.pairwise"].contains n&&vs[0]?==some (rawInt _))=true then _ else _) Q E s;rw[if_neg (by intro h;rw[hn,Bool.false_and]at h;cases h)];exact al hQ))
def Itl(K:PF)(a:AQ):It:=
 ⟨λi H=>∃xs x,SqL K H a xs/\xs[i]?=some x,λi H x H'=>H'=H/\∀xs,SqL K H a xs->xs[i]?=some x,λi H=>∃xs,SqL K H a xs/\xs.length<=i⟩
def Itt(K:PF)(a:AQ):It:=
 ⟨λi H=>∃xs x,SqT K H a xs/\xs[i]?=some x,λi H x H'=>H'=H/\∀xs,SqT K H a xs->xs[i]?=some x,λi H=>∃xs,SqT K H a xs/\xs.length<=i⟩
def Itr(lo:Int)(n:Nat):It:=⟨λi _=>i < n,λi H x H'=>H'=H/\x=.int (lo+i),λi _=>n<=i⟩
def BJ{P:AK}{w:World}{K:PF}{tg:AO}(a it:AQ):Turn P w K tg (Itl K a) [it] it (λi h=>h.IsListIter it a i) where
 mem:=by simp
 obj:=λi h st b hb=>by
  have e:b=it:=by simpa using hb
  subst e;obtain ⟨o,e,c,d⟩:=st;exact ⟨o,e,λv z=>by rw[d]at z;cases z⟩
 keep:=λi h h' st k=>st.at λo e=>k it (by simp) o e
 item:=by intro X hP hw hK hc i p9 s Y H E I hf st hg;subst hP hw hK;obtain ⟨xs,x,hq,hx⟩:=hg;obtain ⟨its,rv,p,hz⟩:=I.list hq;obtain ⟨u,hu,ru⟩:=rv.get hx;obtain ⟨f0,f1,f2,f3,f4,f5⟩:=hf it (by simp);refine wpAny_pyNext_list_item st p.isList (x:=u) (!!hu) λh' st' sb=>?_;have I1:Inv X p9 Y H { s with heap:=h' }:=I.turned (t':=s.toks) (λb o hb e=>(sb.2 b hb).trans e) f0 f1 f3 f4 f5;obtain ⟨o,e,c,d⟩:=id st';exact ⟨u,rfl,kI (s:={ s with heap:=h' }) e c d (!1) ⟨x,H,I1,ru,⟨rfl,λys hy=>by rw[I.list_inj hy hq];exact hx⟩,st',λb hb=>(hf b hb).1⟩⟩
 done:=by intro X hP hw hK hc i p9 s Y H E I hf st hg;subst hP hw hK;obtain ⟨xs,hq,hx⟩:=hg;obtain ⟨its,rv,p,hz⟩:=I.list hq;obtain ⟨f0,f1,f2,f3,f4,f5⟩:=hf it (by simp);have hl:=rv.length;exact wpAny_pyNext_list_end (I.ok.hd hc) st p.isList (by simp;omega) λh' eb=>⟨rfl,I.turned (t':=s.toks) (λb o hb e=>eb b o hb e) f0 f1 f3 f4 f5⟩
 self:=λ_ _ _ _ _ st h=>wpAny_pyIter_listiter st h
def BK{P:AK}{w:World}{K:PF}{tg:AO}(a it:AQ):Turn P w K tg (Itt K a) [it] it (λi h=>h.IsTupleIter it a i) where
 mem:=by simp
 obj:=λi h st b hb=>by
  have e:b=it:=by simpa using hb
  subst e;obtain ⟨o,e,c,d⟩:=st;exact ⟨o,e,λv z=>by rw[d]at z;cases z⟩
 keep:=λi h h' st k=>st.at λo e=>k it (by simp) o e
 item:=by intro X hP hw hK hc i p9 s Y H E I hf st hg;subst hP hw hK;obtain ⟨xs,x,hq,hx⟩:=hg;obtain ⟨its,rv,p,hz⟩:=I.tuple hq;obtain ⟨u,hu,ru⟩:=rv.get hx;obtain ⟨f0,f1,f2,f3,f4,f5⟩:=hf it (by simp);refine wpAny_pyNext_tuple_item st (show s.heap.IsTuple a its.toArray from p) (x:=u) (!!hu) λh' st' sb=>?_;have I1:Inv X p9 Y H { s with heap:=h' }:=I.turned (t':=s.toks) (λb o hb e=>(sb.2 b hb).trans e) f0 f1 f3 f4 f5;obtain ⟨o,e,c,d⟩:=id st';exact ⟨u,rfl,kI (s:={ s with heap:=h' }) e c d (!1) ⟨x,H,I1,ru,⟨rfl,λys hy=>by rw[I.tuple_inj hy hq];exact hx⟩,st',λb hb=>(hf b hb).1⟩⟩
 done:=by intro X hP hw hK hc i p9 s Y H E I hf st hg;subst hP hw hK;obtain ⟨xs,hq,hx⟩:=hg;obtain ⟨its,rv,p,hz⟩:=I.tuple hq;obtain ⟨f0,f1,f2,f3,f4,f5⟩:=hf it (by simp);have hl:=rv.length;exact wpAny_pyNext_tuple_end (I.ok.hd hc) st (show s.heap.IsTuple a its.toArray from p) (by simp;omega) λh' eb=>⟨rfl,I.turned (t':=s.toks) (λb o hb e=>eb b o hb e) f0 f1 f3 f4 f5⟩
 self:=λ_ _ _ _ _ st h=>wpAny_pyIter_tupleiter st h
def Tu{P:AK}{w:World}{K:PF}{tg:AO}(it:AQ)(lo:Int)(n:Nat):Turn P w K tg (Itr lo n) [it] it (λi h=>IsRangeIter h it (lo+(i:Nat) * 1) ((n:Int) - (i:Nat)) 1) where
 mem:=by simp
 obj:=λi h st b hb=>by
  have e:b=it:=by simpa using hb
  subst e;exact ⟨_,st,λv z=>by
   have z':Data.fields _=Data.cell v:=z;cases z'⟩
 keep:=λi h h' st k=>k it (by simp) _ st
 item:=by intro X hP hw hK hc i p9 s Y H E I hf st hg;subst hP hw hK;obtain ⟨f0,f1,f2,f3,f4,f5⟩:=hf it (by simp);have W:=Walks.range (prog:=X.prog) (w:=X.w) (I.ok.hd hc) it lo 1 n;refine W.item i s _ _ hg st λv h' tk hv st' kk=>?_;obtain ⟨t,rfl⟩:=hv;have I1:Inv X p9 Y H { s with heap:=h',toks:=tk }:=I.turned (λb o hb e=>kk b o (!!hb) e) f0 f1 f3 f4 f5;refine ⟨_,rfl,kI (s:={ s with heap:=h',toks:=tk }) (n:="range_iterator") st' rfl rfl (!1) ⟨.int (lo+i),H,I1,⟨t,?_⟩,⟨rfl,rfl⟩,st',λb hb=>(hf b hb).1⟩⟩;rw[Int.mul_one]
 done:=by intro X hP hw hK hc i p9 s Y H E I hf st hg;subst hP hw hK;obtain ⟨f0,f1,f2,f3,f4,f5⟩:=hf it (by simp);exact wpAny_pyNext_range_end (I.ok.hd hc) st (by have:n<=i:=hg;omega) λh' eb=>⟨rfl,I.turned (t':=s.toks) (λb o hb e=>eb b o hb e) f0 f1 f3 f4 f5⟩
 self:=λ_ _ _ _ _ st h=>wpAny_pyIter_rangeiter st h
section
variable {X:Cx} {tg:AO}
theorem BL{p9:AC}{Y:St}{H:Hp}{s:AI}{R:It->Hp->Prop}{E:AG}{lo hi:Int}{t u v:Tok}{tk:Nat}(I:Inv X p9 Y H s)(h1:-(2 ^ 62)<=lo)(h2:lo < 2 ^ 62)(h3:-(2 ^ 62)<=hi)(h4:hi < 2 ^ 62)
  (q:R (Itr lo (hi - lo).toNat) H):↥X (pyIter (.ref (~~~s))) (PIE X p9 Y tg R) E { s with heap:=s.heap.push { cls:=.type "range",data:=.fields #[.int lo t,.int hi u,.int 1 v] },toks:=tk }:=by
 refine wpAny_pyIter_range (IsRange.new ..) (small_one h1 h2 h3 h4) ?_;have I1:Inv X p9 Y H { s with heap:=s.heap.push { cls:=.type "range",data:=.fields #[.int lo t,.int hi u,.int 1 v] },toks:=tk }:=I.kept λb o e=>ag _ e;refine ⟨(s.heap.push { cls:=.type "range",data:=.fields #[.int lo t,.int hi u,.int 1 v] }).objs.size,[(s.heap.push { cls:=.type "range",data:=.fields #[.int lo t,.int hi u,.int 1 v] }).objs.size],_,_,H,rfl,
  I1.kept (t':=tk) λb o e=>ag _ e,Tu _ lo (hi - lo).toNat,?_,λb hb=>?_,q⟩
 .have e1:lo+((0:Nat):Int) * 1=lo:=by simp
  have e2:(((hi - lo).toNat:Nat):Int) - ((0:Nat):Int)=Builtin.Range.rangeSize lo hi 1:=by rw[rangeSize_one];split <;> omega
  show IsRangeIter _ _ (lo+((0:Nat):Int) * 1) ((((hi - lo).toNat:Nat):Int) - ((0:Nat):Int)) 1;rw[e1,e2];exact a8 _ rfl
 .have e:b=(s.heap.push { cls:=.type "range",data:=.fields #[.int lo t,.int hi u,.int 1 v] }).objs.size:=by simpa using hb
  subst e;exact I1.fpOk (am _) (I1.hok.fresh (am _))
def Tv(ta:TA):TI:=λY H R=>ta Y H λvs H1=>∃j:Int,vs=[.int j]/\-(2 ^ 62)<=j/\j < 2 ^ 62/\R (Itr 0 j.toNat) H1
def Tw(ta:TA):TI:=λY H R=>ta Y H λvs H1=>∃i j:Int,vs=[.int i,.int j]/\(-(2 ^ 62)<=i/\i < 2 ^ 62/\-(2 ^ 62)<=j/\j < 2 ^ 62)/\R (Itr i (j - i).toNat) H1
theorem Tz {a:AO} {ta:TA} {p pos:Pos} (hg:Gl X "range") (hm:X.mg "range"=none) (ha:PA X [a] ta) (hs:starEach [a] X.env=[(false,eval a X.env)]:=by rfl):PI X tg (.Call (.Name "range" p) [a] [] pos) (Tv ta):=by
 intro p9 s Y H R I h;refine Call_ (fY I hg hm boot_range (dy (thn (ha pos p9 s Y H _ I h) λus s1 ⟨vs,H1,I1,r1,q1⟩=>?_) hs rfl));obtain ⟨j,e,q1,q2,q⟩:=q1;subst e;cases r1 with
 |cons r rr=>
  cases rr;obtain ⟨t,rfl⟩:=r;exact call_range_1 (BL I1 (!0) (!0) q1 q2 (!!q))
theorem TF {a b:AO} {ta:TA} {p pos:Pos} (hg:Gl X "range") (hm:X.mg "range"=none) (ha:PA X [a,b] ta) (hs:starEach [a,b] X.env=[(false,eval a X.env),(false,eval b X.env)]:=by rfl) (hs2:starEach [b] X.env=[(false,eval b X.env)]:=by rfl):
  PI X tg (.Call (.Name "range" p) [a,b] [] pos) (Tw ta):=by
 intro p9 s Y H R I h;refine Call_ (fY I hg hm boot_range (dy (thn (ha pos p9 s Y H _ I h) λus s1 ⟨vs,H1,I1,r1,q1⟩=>?_) (by rw[hs,hs2]) (by rw[hs2];rfl)));obtain ⟨i,j,e,⟨q1,q2,q3,q4⟩,q⟩:=q1;subst e;cases r1 with
 |cons r rr=>
  cases rr with
  |cons r' rr=>
   cases rr;obtain ⟨t,rfl⟩:=r;obtain ⟨t',rfl⟩:=r';exact call_range_2 (BL I1 q1 q2 q3 q4 q)
def TJ(wi:TI)(g:TG)(tb:TS):TS:=λD Y H=>wi Y H λJ H1=>∃W:Nat->Nat->St->Hp->Prop,(∃m,W 0 m Y H1)/\∀i m Y H,W i m Y H->
 (J.stop i H/\D.nx Y H)\/(J.go i H/\∃N:St->Hp->Prop,(∀σ' H',N σ' H'->∃m',m' < m/\W (i+1) m' σ' H')/\∀x H',J.yld i H x H'->g x Y H' λσ2 H2=>tb { D with nx:=N,ct:=N,bk:=D.nx } σ2 H2)
def jz(fp:List AQ)(h:Heap):AC:=fp.filterMap λb=>(h.get? b).map λo=>(b,o)
theorem jA{fp:List AQ}{h:Heap}{b:AQ}{o:Obj}(hb:b∈fp)(e:h.get? b=some o):(b,o)∈jz fp h:=List.mem_filterMap.mpr ⟨b,hb,by rw[e];rfl⟩
theorem u9{fp:List AQ}{h:Heap}{p:AQ×Obj}(hp:p∈jz fp h):p.1∈fp/\h.get? p.1=some p.2:=by
 obtain ⟨b,hb,e⟩:=List.mem_filterMap.mp hp;cases q:h.get? b with
 |none=>rw[q]at e;cases e
 |some o=>
  rw[q]at e;have e':(b,o)=p:=cm e;subst e';exact ⟨hb,q⟩
theorem Inv.pinned{p9:AC}{Y:St}{H:Hp}{s:AI}{fp:List AQ}(I:Inv X p9 Y H s)(hf:∀b∈fp,eY X p9 H b)(ho:∀b∈fp,∃o,s.heap.get? b=some o/\∀v,o.data≠.cell v):Inv X (p9++jz fp s.heap) Y H s:=
 I.pins_of λp hp=>(bv.mp hp).elim (λz=>I.pin p (ba _ z)) λz=>by
  obtain ⟨hb,e⟩:=u9 z;obtain ⟨f0,f1,f2,_⟩:=hf p.1 hb;obtain ⟨o,e',d⟩:=ho p.1 hb;rw[e]at e';cases e';exact ⟨e,f0,f1,f2,d⟩
theorem Inv.unpinned{p9 pl:AC}{Y:St}{H:Hp}{s:AI}(I:Inv X (p9++pl) Y H s):Inv X p9 Y H s:=I.pins_of λp hp=>I.pin p (ba _ (ft _ hp))
theorem TQ{iter:AO}{body:AF}{wi:TI}{g:TG}{tb:TS}{pos:Pos}(hp:PassesOwn (model X.prog X.w) X.A X.env X.xe)(hc:X.calm=true)(hi:PI X tg iter wi)(hg:PG X tg g)(hb:PSs X body tb)
  (hs:∀x,foldedSetIterable iter X.env x=pure x:=by intro _;rfl):PS X (.For tg iter body [] pos) (TJ wi g tb):=by
 intro p9 s Y H D I h;refine wpAny_For (thn (hi p9 s Y H _ I h) λv s1 h1=>thn h1 λitv s2 h2=>?_) hs;obtain ⟨it,fp,tn,J,H2,e,I2,T,st2,f2,W,⟨m0,w0⟩,turn⟩:=h2;subst e
 -- what stays true of the iterator's objects through the loop
 have stat:∀{H':Hp},(∀b∈fp,H' b=none)->∀b∈fp,eY X p9 H' b:=λhn b hb=>⟨hn b hb,(f2 b hb).2⟩;refine codeAny_forLoop_any (λn s'=>∃i σ' H',Inv X p9 σ' H' s'/\tn i s'.heap/\(∀b∈fp,H' b=none)/\W i n σ' H') ?_ m0 ⟨0,Y,H2,I2,st2,λb hb=>(f2 b hb).1,w0⟩;rintro n s3 ⟨i,σ3,H3,I3,st3,fr3,w3⟩;rcases turn i n σ3 H3 w3 with ⟨stop,qn⟩ |⟨go,N,hN,step⟩
 .refine hX hp (thn (T.done X rfl rfl rfl hc i p9 s3 σ3 H3 X.xe I3 (stat fr3) st3 stop) λr s4 ⟨hr,I4⟩=>?_);subst hr;exact wpAny_execs_nil ⟨σ3,H3,I4,qn⟩
 .refine hX hp (thn (T.item X rfl rfl rfl hc i p9 s3 σ3 H3 X.xe I3 (stat fr3) st3 go) λr s4 ⟨u,hr,h4⟩=>?_);subst hr;refine hX hp (thn h4 λ_ s5 ⟨x,H5,I5,r5,y5,st5,fr5⟩=>?_);have I5':=I5.pinned (stat fr5) (T.obj _ _ st5);refine hX hp (thn (hg _ s5 σ3 H5 x u _ I5' r5 (step x H5 y5)) λ_ s6 ⟨σ6,H6,I6,q6⟩=>?_);refine hX hp (thn (hb _ s6 σ6 H6 _ I6 q6) λf s7 q7=>?_);have again:∀{σ7:St}{H7:Hp},Inv X (p9++jz fp s5.heap) σ7 H7 s7->N σ7 H7->∃m,m < n/\∃i σ' H',Inv X p9 σ' H' s7/\tn i s7.heap/\(∀b∈fp,H' b=none)/\W i m σ' H':=λ{σ7 H7} I7 n7=>by
   obtain ⟨m',hm,w7⟩:=hN σ7 H7 n7;refine ⟨m',hm,i+1,σ7,H7,I7.unpinned,T.keep _ _ _ st5 λb hb o e=>(I7.pin (b,o) (ba _ (ba _ (jA hb e)))).1,λb hb=>?_,w7⟩;obtain ⟨o,e,d⟩:=T.obj _ _ st5 b hb;exact (I7.pin (b,o) (ba _ (ba _ (jA hb e)))).2.1
  cases f with
  |next=>obtain ⟨σ7,H7,I7,n7⟩:=q7;exact again I7 n7
  |cont=>obtain ⟨σ7,H7,I7,n7⟩:=q7;exact again I7 n7
  |brk=>obtain ⟨σ7,H7,I7,q7⟩:=q7;exact ⟨σ7,H7,I7.unpinned,q7⟩
  |ret v=>obtain ⟨x7,σ7,H7,I7,r7,q7⟩:=q7;exact ⟨x7,σ7,H7,I7.unpinned,r7,q7⟩
end
abbrev R2:=V->V->Hp->VK->Prop
def OpR(X:Cx)(f:AN->AN->Sem AN)(r:R2):Prop:=
 ∀(p9:AC)(s:AI)(Y:St)(H:Hp)(x y:V)(v u:AN)(Q:VK),Inv X p9 Y H s->RelV x v->RelV y u->r x y H Q->
  ↥X (f v u) (EP X p9 Y Q) X.xe s
def UnR(X:Cx)(f:AN->Sem AN)(r:V->Hp->VK->Prop):Prop:=
 ∀(p9:AC)(s:AI)(Y:St)(H:Hp)(x:V)(v:AN)(Q:VK),Inv X p9 Y H s->RelV x v->r x H Q->
  ↥X (f v) (EP X p9 Y Q) X.xe s
def bQ(X:Cx)(f:AN)(r:AR->Hp->VK->Prop):Prop:=
 ∀(p9:AC)(s:AI)(Y:St)(H:Hp)(xs:AR)(us:AB)(Q:VK),Inv X p9 Y H s->Vals xs us->r xs H Q->
  ↥X (call f us) (EP X p9 Y Q) X.xe s
def TV(X:Cx)(r:V->Hp->(Bool->Hp->Prop)->Prop):Prop:=
 ∀(p9:AC)(s:AI)(Y:St)(H:Hp)(x:V)(v:AN)(Q:Bool->Hp->Prop),Inv X p9 Y H s->RelV x v->r x H Q->
  ↥X (truthy v) (TP X p9 Y Q) X.xe s
def tOp(r:R2)(ta tb:TE):TE:=λY H Q=>ta Y H λx H1=>tb Y H1 λy H2=>r x y H2 Q
def tUn(r:V->Hp->VK->Prop)(ta:TE):TE:=λY H Q=>ta Y H λx H1=>r x H1 Q
def rI(C:Int->Int->Prop)(g:Int->Int->V):R2:=λx y H Q=>∃i j,x=.int i/\y=.int j/\C i j/\Q (g i j) H
def rI0(g:Int->Int->V):R2:=λx y H Q=>∃i j,x=.int i/\y=.int j/\Q (g i j) H
def rU(g:Int->V):V->Hp->VK->Prop:=λx H Q=>∃i,x=.int i/\Q (g i) H
section
variable {X:Cx} {a b c:AO} {ta tb tc:TE} {pos:Pos}
theorem vd(ha:PE X a ta)(hb:PE X b tb){p9:AC}{s:AI}{Y:St}{H:Hp}{R:V->V->Hp->Prop}(I:Inv X p9 Y H s)
  (h:ta Y H λx H1=>tb Y H1 λy H2=>R x y H2) {Q:AG} {f:AN->AN->Sem AN}
  (hf:∀v u s2 x y H2,Inv X p9 Y H2 s2->RelV x v->RelV y u->R x y H2->↥X (f v u) Q X.xe s2):
  ↥X (eval a X.env) (λv s₁=>↥X (eval b X.env) (λu s₂=>↥X (f v u) Q X.xe s₂) X.xe s₁) X.xe s:=by
 refine thn (ha p9 s Y H _ I h) λv s1 ⟨x,H1,I1,r1,q1⟩=>?_;refine thn (hb p9 s1 Y H1 _ I1 q1) λu s2 ⟨y,H2,I2,r2,q2⟩=>?_;exact hf v u s2 x y H2 I2 r1 r2 q2
theorem TX{op:Operator}{r:R2}(ho:OpR X (binaryOp op) r)(ha:PE X a ta)(hb:PE X b tb):PE X (.BinOp a op b pos) (tOp r ta tb):=by intro p9 s Y H Q I h;exact wpAny_BinOp (vd ha hb I h λv u s2 x y H2 I2 rx ry q=>ho p9 s2 Y H2 x y v u Q I2 rx ry q)
theorem TY{op:UnaryOp}{r:V->Hp->VK->Prop}(ho:UnR X (unaryOp op) r)(ha:PE X a ta):PE X (.UnaryOp op a pos) (tUn r ta):=by intro p9 s Y H Q I h;exact UnaryOp_ (thn (ha p9 s Y H _ I h) λv s1 ⟨x,H1,I1,r1,q1⟩=>ho p9 s1 Y H1 x v Q I1 r1 q1)
theorem opI{f:AN->AN->Sem AN}{C:Int->Int->Prop}{g:Int->Int->Int}
  (rule:∀(i j:Int)(t u:Tok)(s:AI)(Q:AG)(E:AG),C i j->Q (.int (g i j) s.toks) { s with toks:=s.toks+1 }->↥X (f (.int i t) (.int j u)) Q E s):
  OpR X f (rI C λi j=>.int (g i j)):=by
 intro p9 s Y H x y v u Q I rx ry h;obtain ⟨i,j,rfl,rfl,hc,q⟩:=h;obtain ⟨t,rfl⟩:=rx;obtain ⟨t',rfl⟩:=ry;exact rule i j t t' s _ _ hc ⟨.int (g i j),H,I.tok _,⟨_,rfl⟩,q⟩
theorem qT{f:AN->AN->Sem AN}{g:Int->Int->Int}
  (rule:∀(i j:Int)(t u:Tok)(s:AI)(Q:AG)(E:AG),Q (.int (g i j) s.toks) { s with toks:=s.toks+1 }->↥X (f (.int i t) (.int j u)) Q E s):
  OpR X f (rI0 λi j=>.int (g i j)):=by
 intro p9 s Y H x y v u Q I rx ry h;obtain ⟨i,j,rfl,rfl,q⟩:=h;obtain ⟨t,rfl⟩:=rx;obtain ⟨t',rfl⟩:=ry;exact rule i j t t' s _ _ ⟨.int (g i j),H,I.tok _,⟨_,rfl⟩,q⟩
def qU(i j:Int):Prop:=0<=j/\j<=1000000/\i.natAbs < 2 ^ 64
def CMul(i j:Int):Prop:=(-(2 ^ 64) < i/\i < 2 ^ 64)\/(-(2 ^ 64) < j/\j < 2 ^ 64)
theorem CMul.ok{i j:Int}(h:CMul i j):IntMulOk i j:=by
 rcases h with ⟨h1,h2⟩ |⟨h1,h2⟩
 .exact .of_left (intBits_le_64 h1 h2)
 .exact .of_right (intBits_le_64 h1 h2)
theorem T3:OpR X (binaryOp .Add) (rI0 λi j=>.int (i+j)):=qT λ_ _ _ _ _ _ _ q=>add_int q
theorem T4:OpR X (binaryOp .Sub) (rI0 λi j=>.int (i - j)):=qT λ_ _ _ _ _ _ _ q=>sub_int q
theorem T5:OpR X (binaryOp .Mult) (rI CMul λi j=>.int (i * j)):=opI λ_ _ _ _ _ _ _ hc q=>mul_int q hc.ok
theorem T6:OpR X (binaryOp .Mod) (rI (λ_ j=>0 < j) λi j=>.int (i % j)):=opI λi j _ _ _ _ _ hc q=>by
 have h1:(0:Int) < j:=hc;exact mod_int' (!0) (by rw[Int.fmod_eq_emod_of_nonneg i (!0)];exact q)
theorem T7:OpR X (binaryOp .Pow) (rI qU λi j=>.int (i ^ j.toNat)):=opI λ_ _ _ _ _ _ _ hc q=>pow_int_small hc.1 hc.2.1 hc.2.2 q
theorem T8:OpR X (inplaceOp .Add) (rI0 λi j=>.int (i+j)):=qT λ_ _ _ _ _ _ _ q=>iadd_int q
theorem T9:OpR X (inplaceOp .Sub) (rI0 λi j=>.int (i - j)):=qT λ_ _ _ _ _ _ _ q=>isub_int q
theorem unI{f:AN->Sem AN}{g:Int->Int}
  (rule:∀(i:Int)(t:Tok)(s:AI)(Q:AG)(E:AG),Q (.int (g i) s.toks) { s with toks:=s.toks+1 }->↥X (f (.int i t)) Q E s):
  UnR X f (rU λi=>.int (g i)):=by
 intro p9 s Y H x v Q I rx h;obtain ⟨i,rfl,q⟩:=h;obtain ⟨t,rfl⟩:=rx;exact rule i t s _ _ ⟨.int (g i),H,I.tok _,⟨_,rfl⟩,q⟩
theorem Ua:UnR X (unaryOp .USub) (rU λi=>.int (-i)):=unI λ_ _ _ _ _ q=>neg_int q
end
section
variable {X:Cx} {a b c:AO} {ta tb tc:TE} {pos:Pos}
theorem BP{p9:AC}{Y:St}{H:Hp}{s:AI}{Q:VK}{k k':Bool}(I:Inv X p9 Y H s)(q:Q (.bl k) H)(e:k=k'):EP X p9 Y Q (.bool k') s:=by subst e;exact ⟨.bl k,H,I,rfl,q⟩
theorem Ub:OpR X (compareOp .Is) (λx y H Q=>y=.non/\Q (.bl (decide (x=.non))) H):=by
 intro p9 s Y H x y v u Q I rx ry h;obtain ⟨rfl,q⟩:=h;cases ry;refine is_none_gen (BP I q ?_);cases x <;> first
  | (cases rx;rfl)
  | (obtain ⟨t,rfl⟩:=rx;rfl)
theorem Uc:OpR X (compareOp .IsNot) (λx y H Q=>y=.non/\Q (.bl (!decide (x=.non))) H):=by
 intro p9 s Y H x y v u Q I rx ry h;obtain ⟨rfl,q⟩:=h;cases ry;refine isnot_none_gen (BP I q ?_);cases x <;> first
  | (cases rx;rfl)
  | (obtain ⟨t,rfl⟩:=rx;rfl)
theorem Ud{op:CmpOp}{r:R2}(ho:OpR X (compareOp op) r)(ha:PE X a ta)(hb:PE X b tb)(hm:behindInMarks op b=false):PE X (.Compare a [op] [b] pos) (tOp r ta tb):=by intro p9 s Y H Q I h;exact wpAny_Compare1 (vd ha hb I h λv u s2 x y H2 I2 rx ry q=>ho p9 s2 Y H2 x y v u Q I2 rx ry q) hm
def BR(t:TE):TT:=λY H Q=>t Y H λx H'=>∃k,x=.bl k/\Q k H'
theorem Ue{op:CmpOp}{r:R2}(ho:OpR X (compareOp op) r)(ha:PE X a ta)(hb:PE X b tb)(hm:behindInMarks op b=false):PT X (.Compare a [op] [b] pos) (BR (tOp r ta tb)):=by
 intro p9 s Y H Q I h;refine wpAny_isTrue_Compare1 (thn (ha p9 s Y H _ I h) λv s1 ⟨x,H1,I1,r1,q1⟩=>thn (hb p9 s1 Y H1 _ I1 q1) λu s2 ⟨y,H2,I2,r2,q2⟩=>
  thn (ho p9 s2 Y H2 x y v u _ I2 r1 r2 q2) λc s3 ⟨z,H3,I3,r3,k,e,q3⟩=>?_) hm
 subst e;cases r3;exact fN ⟨H3,I3,q3⟩
def vf(r r':R2)(ta tb tc:TE):TE:=λY H Q=>ta Y H λx H1=>tb Y H1 λy H2=>r x y H2 λz H3=>∃k,z=.bl k/\
 (if k=true then tc Y H3 λw' H4=>r' y w' H4 Q else Q (.bl false) H3)
theorem Ug{op op':CmpOp}{r r':R2}(ho:OpR X (compareOp op) r)(ho':OpR X (compareOp op') r')(ha:PE X a ta)(hb:PE X b tb)(hc:PE X c tc)
  (hm:lastMarks [op,op'] [b,c]=false:=by with_unfolding_all rfl):PE X (.Compare a [op,op'] [b,c] pos) (vf r r' ta tb tc):=by
 intro p9 s Y H Q I h;refine Compare_chain (thn (ha p9 s Y H _ I h) λv s1 ⟨x,H1,I1,r1,q1⟩=>chain_link (thn (hb p9 s1 Y H1 _ I1 q1) λu s2 ⟨y,H2,I2,r2,q2⟩=>
  thn (ho p9 s2 Y H2 x y v u _ I2 r1 r2 q2) λd s3 ⟨z,H3,I3,r3,k,e,q3⟩=>?_)) hm
 subst e;cases r3;refine fN ?_;cases k with
 |false=>exact ite_ff ⟨.bl false,H3,I3,rfl,q3⟩
 |true=>exact ite_tt (chain_last (thn (hc p9 s3 Y H3 _ I3 q3) λw' s4 ⟨z',H4,I4,r4,q4⟩=>ho' p9 s4 Y H4 y z' u w' Q I4 r2 r4 q4))
theorem Uh{op op':CmpOp}{r r':R2}(ho:OpR X (compareOp op) r)(ho':OpR X (compareOp op') r')(ha:PE X a ta)(hb:PE X b tb)(hc:PE X c tc)
  (hm:lastMarks [op,op'] [b,c]=false:=by with_unfolding_all rfl):PT X (.Compare a [op,op'] [b,c] pos) (BR (vf r r' ta tb tc)):=by
 intro p9 s Y H Q I h;refine isTrue_chain (thn (ha p9 s Y H _ I h) λv s1 ⟨x,H1,I1,r1,q1⟩=>test_link (thn (hb p9 s1 Y H1 _ I1 q1) λu s2 ⟨y,H2,I2,r2,q2⟩=>
  thn (ho p9 s2 Y H2 x y v u _ I2 r1 r2 q2) λd s3 ⟨z,H3,I3,r3,k,e,q3⟩=>?_)) hm
 subst e;cases r3;refine fN ?_;cases k with
 |false=>
  obtain ⟨k',e',q'⟩:=q3;cases e';exact ite_ff ⟨H3,I3,q'⟩
 |true=>
  refine ite_tt (test_last (thn (hc p9 s3 Y H3 _ I3 q3) λw' s4 ⟨z',H4,I4,r4,q4⟩=>thn (ho' p9 s4 Y H4 y z' u w' _ I4 r2 r4 q4) λd' s5 ⟨z2,H5,I5,r5,k2,e2,q5⟩=>?_));subst e2;cases r5;exact fN ⟨H5,I5,q5⟩
def qW(K:PF)(x:V)(H:Hp)(k:Bool):Prop:=
 match x with
 |.non=>k=false
 |.bl b=>k=b
 |.int i=>k=(i != 0)
 |.str y=>y.length<=sizeLine/\k=((y.length:Int) != 0)
 |.byt y=>y.size<=sizeLine/\k=((y.size:Int) != 0)
 |.ref p=>(∃xs,SqL K H p xs/\k=!xs.isEmpty)\/(∃xs,SqT K H p xs/\k=!xs.isEmpty)\/∃kvs,H p=some (.dK kvs)/\k=!kvs.isEmpty
 |_=>False
theorem Ui{κ:Type}{kvs:List (κ×V)}{vs:List (κ×AN)}(r:KV kvs vs):(!vs.isEmpty)=!kvs.isEmpty:=by cases r <;> rfl
theorem BV{xs:AR}{its:AB}(r:Vals xs its):(!its.toArray.isEmpty)=!xs.isEmpty:=by cases r <;> simp
theorem iW:(sizeLine:Nat) < 2 ^ 63:=by rw[fq];decide
theorem BW:TV X (λx H Q=>∃k,qW X.K x H k/\Q k H):=by
 intro p9 s Y H x v Q I rx h;obtain ⟨k,e,q⟩:=h;have hl:=iW;have hs:sizeLine=16777216:=fq;cases x with
 |non=>
  cases rx;have e':k=false:=e;subst e';exact truthy_none ⟨H,I,q⟩
 |bl b=>
  cases rx;have e':k=b:=e;subst e';exact fN ⟨H,I,q⟩
 |int i=>
  obtain ⟨t,rfl⟩:=rx;have e':k=(i != 0):=e;subst e';exact PySem.P.truthy_int ⟨H,I,q⟩
 |str y=>
  obtain ⟨t,rfl⟩:=rx;obtain ⟨hy,e'⟩:y.length<=sizeLine/\k=((y.length:Int) != 0):=e;subst e';exact PySem.P.truthy_str (!0) ⟨H,I.tok _,q⟩
 |byt y=>
  obtain ⟨t,rfl⟩:=rx;obtain ⟨hy,e'⟩:y.size<=sizeLine/\k=((y.size:Int) != 0):=e;subst e';exact PySem.W.truthy_bytes (!0) ⟨H,I.tok _,q⟩
 |ref p=>
  cases rx;have e':(∃xs,SqL X.K H p xs/\k=!xs.isEmpty)\/(∃xs,SqT X.K H p xs/\k=!xs.isEmpty)\/∃kvs,H p=some (.dK kvs)/\k=!kvs.isEmpty:=e;rcases e' with ⟨xs,hx,e'⟩ |⟨xs,hx,e'⟩ |⟨kvs,hx,e'⟩
  .subst e';obtain ⟨its,r,pl,hz⟩:=I.list hx;have hlen:=r.length;exact wpAny_truthy_list pl.isList (by simp only[a7];omega) ⟨H,I.tok _,by rw[BV r];exact q⟩
  .subst e';obtain ⟨its,r,pl,hz⟩:=I.tuple hx;have hlen:=r.length;exact truthy_tuple pl (by simp only[a7];omega) ⟨H,I.tok _,by rw[BV r];exact q⟩
  .subst e';obtain ⟨hz,hS,vs,r,m⟩:kvs.length<=sizeLine/\(p==sysModules)=false/\∃vs,KV kvs vs/\s.heap.DictOf (uX X.prog X.w) p vs:=I.hok p _ hx;have hlen:kvs.length=vs.length:=Paired.length r;exact wpAny_truthy_dict hS m (!0) ⟨H,I.tok _,by rw[Ui r];exact q⟩
 |_=>exact (show False from e).elim
theorem Uj(ha:PE X a ta)(he:∀whole,isTrue a X.env whole=(do let v <-whole;standAt a.pos;holding [v] (truthy v))):
  PT X a (λY H Q=>ta Y H λx H'=>∃k,qW X.K x H' k/\Q k H'):=by
 intro p9 s Y H Q I h;exact isTrue_plain (thn (ha p9 s Y H _ I h) λv s1 ⟨x,H1,I1,r1,q1⟩=>BW p9 s1 Y H1 x v Q I1 r1 q1) (he _)
theorem Uk:OpR X (binaryOp .Add) (λx y H Q=>∃i j,x=.str i/\y=.str j/\i.length+j.length<=sizeLine/\Q (.str (i++j)) H):=by intro p9 s Y H x y v u Q I rx ry h;obtain ⟨i,j,rfl,rfl,hz,q⟩:=h;obtain ⟨t,rfl⟩:=rx;obtain ⟨t',rfl⟩:=ry;exact add_str (λt' tk=>⟨.str (i++j),H,I.tok _,⟨_,rfl⟩,q⟩) hz
theorem Ul:OpR X (inplaceOp .Add) (λx y H Q=>∃i j,x=.str i/\y=.str j/\i.length+j.length<=sizeLine/\Q (.str (i++j)) H):=by intro p9 s Y H x y v u Q I rx ry h;obtain ⟨i,j,rfl,rfl,hz,q⟩:=h;obtain ⟨t,rfl⟩:=rx;obtain ⟨t',rfl⟩:=ry;exact iadd_str (λt' tk=>⟨.str (i++j),H,I.tok _,⟨_,rfl⟩,q⟩) hz
theorem vals1{x:V}{us:AB}(r:Vals [x] us):∃u,us=[u]/\RelV x u:=by
 cases r with
 |cons r1 r2=>cases r2;exact ⟨_,rfl,r1⟩
theorem vals2{x y:V}{us:AB}(r:Vals [x,y] us):∃u w',us=[u,w']/\RelV x u/\RelV y w':=by
 cases r with
 |cons r1 r2=>
  cases r2 with
  |cons r3 r4=>cases r4;exact ⟨_,_,rfl,r1,r3⟩
theorem BX:bQ X (.type "int") (λxs H Q=>(∃i,xs=[.int i]/\Q (.int i) H)\/∃k,xs=[.bl k]/\Q (.int (if k then 1 else 0)) H):=by
 intro p9 s Y H xs us Q I r h;rcases h with ⟨i,rfl,q⟩ |⟨k,rfl,q⟩
 .obtain ⟨u,rfl,t,rfl⟩:=vals1 r;exact call_int_int ⟨.int i,H,I,⟨_,rfl⟩,q⟩
 .obtain ⟨u,rfl,r1⟩:=vals1 r;cases r1;exact call_int_bool ⟨.int (if k then 1 else 0),H,I.tok _,⟨_,rfl⟩,q⟩
end
structure ObjM(h:Heap)(x dx C:AQ)(mA:AH):Prop where
 obj:h.get? x=some (PySem.W.instObj C dx)
 ns:h.Ns1 dx mA
 ne:dx≠x
def Um{h:Heap}{dx:AQ}{mA:AH}(n:h.Ns1 dx mA):∃od,h.get? dx=some od/\∀name,PySem.W.lookIn name od=some (mA name):=by
 obtain ⟨o,es,ep,ho,hd,hk,_,hm⟩:=n;refine ⟨o,ho,λname=>?_⟩;have e:=hm name;unfold nsFind findBy at e;rw[<-Array.find?_toList]at e;unfold PySem.W.lookIn;rw[hd];dsimp only;split
 .rename_i y q;rw[q]at e;exact fE some e
 .rename_i q;rw[q]at e;have a:es.toList.any (·.refKey)=false:=by
   rw[List.any_eq_false];intro y hy;obtain ⟨z,t,hkey⟩:=hk y (Array.mem_toList_iff.mp hy);simp[DictEntry.refKey,hkey]
  have a':¬es.toList.any (·.refKey)=true:=by rw[a];exact bn
  rw[if_neg a'];exact fE some e
def ObjM.look{h:Heap}{x dx C:AQ}{mA:AH}(I:ObjM h x dx C mA):∃od,PySem.W.InstAt h x (PySem.W.instObj C dx) C (some od)/\∀name,PySem.W.lookIn name od=some (mA name):=
 let ⟨od,ho,hl⟩:=Um I.ns
 ⟨od,⟨I.obj,rfl,rfl,ho⟩,hl⟩
section
variable {P:AK} {w:World} {H H':Hp} {h h':Heap} {a C dx:AQ} {fs fs':List (Str×V)}
theorem Uo(hok:HOk P w H h)(e:H a=some (.ins C dx fs)):∃mA,ObjM h a dx C mA/\(∀f,uY (fs.lookup f) (mA f))/\PySem.Within mA (fs.map (·.1))/\fs.length<=1000/\H dx=some (.own a):=by obtain ⟨d,z,ne,ob,mA,n,r,q⟩:=(show ObjOk P w H h a (.ins C dx fs) from hok a _ e);exact ⟨mA,⟨ob,n,ne⟩,r,q,z,d⟩
end
structure Cls(K:PF)(C:AQ):Prop where
 pg:PySem.W.plainGet K C Str.empty=true
 hd:PySem.W.hasDictIn K C=true
 po:PySem.W.plainOver K C=true
 sa:PySem.W.findIn K (.ref C) "__setattr__"=some (some (.builtin "object.__setattr__"))
def Cls.get{K:PF}{C:AQ}(c:Cls K C)(f:Str):PySem.W.plainGet K C f=true:=c.pg
def Up(K:PF)(C:AQ)(f:Str):Prop:=PySem.W.findIn K (.ref C) f=some none
structure Meth(K:PF)(C:AQ)(m:Str)(f:AQ):Prop where
 at_:PySem.W.findIn K (.ref C) m=some (some (.ref f))
 fn:PySem.W.isFn K (.ref f)=true
 kp:PySem.W.keepIn K (.ref f)=true
section
variable {X:Cx} {p9:AC} {σ:St} {H:Hp} {s:AI} {A:AM} {E:AG} {Q:AG} {c:AN} {b:Bool}
inductive TyOf (K:PF) (H:Hp):V->AN->Prop where
 |non:TyOf K H .non (.type "NoneType")
 |bl (x:Bool):TyOf K H (.bl x) (.type "bool")
 |int (i:Int):TyOf K H (.int i) (.type "int")
 |str (x:Str):TyOf K H (.str x) (.type "str")
 |flt (x:UInt64):TyOf K H (.flt x) (.type "float")
 |lst {a:AQ} {xs:AR} (e:H a=some (.lst xs)):TyOf K H (.ref a) (.type "list")
 |frz {a:AQ} {o:Obj} {xs:AR} (e:H a=some (.frz o (.lst xs))):TyOf K H (.ref a) (.type "list")
 |tup {a:AQ} {xs:AR} (e:H a=some (.tup xs)):TyOf K H (.ref a) (.type "tuple")
 |dK {a:AQ} {kvs:List (Key×V)} (e:H a=some (.dK kvs)):TyOf K H (.ref a) (.type "dict")
 |dT {a:AQ} {kvs:List (List Key×V)} (e:H a=some (.dT kvs)):TyOf K H (.ref a) (.type "dict")
 |ins {a C dx:AQ} {fs:List (Str×V)} (e:H a=some (.ins C dx fs)) (cl:Cls K C) (ha:PySem.W.findIn K (.ref C) "__class__"=some (some (.builtin "object.__class__")))
   (hn:PySem.W.specialIn K (.builtin "object.__class__") "__get__"=some (some (.builtin "getset_descriptor.__get__"))) (htk:PySem.W.takesIn K (.builtin "object.__class__")=some true)
   (hm:PySem.W.mroIn K C (.type "object")=some true):TyOf K H (.ref a) (.ref C)
theorem Uq{x:V}{u t:AN}(I:Inv X p9 σ H s)(rx:RelV x u)(ty:TyOf X.K H x t)(e:PySem.W.kitOne X.K t c=some b)(h:∀tk,Q (.bool b) { s with toks:=tk }):
  wpAny (model X.prog X.w) A (call (.builtin "isinstance") [u,c]) Q E s:=by
 cases ty with
 |non=>cases (show u=Value.none from rx);exact e6 PySem.W.kitx_none I.kIn True.intro e (λz=>nomatch z) h
 |bl y=>cases (show u=Value.bool y from rx);exact e6 PySem.W.kitx_bool I.kIn True.intro e (λz=>nomatch z) h
 |int i=>obtain ⟨t,q⟩:=(show ∃t,u=Value.int i t from rx);cases q;exact e6 PySem.W.kitx_int I.kIn True.intro e (λz=>nomatch z) h
 |str y=>obtain ⟨t,q⟩:=(show ∃t,u=Value.str y t from rx);cases q;exact e6 PySem.W.kitx_str I.kIn True.intro e (λz=>nomatch z) h
 |flt y=>obtain ⟨t,q⟩:=(show ∃t,u=Value.float y t from rx);cases q;exact e6 PySem.W.kitx_float I.kIn True.intro e (λz=>nomatch z) h
 | @lst a xs ea=>
  cases (show u=Value.ref a from rx);obtain ⟨_,_,n,_,h1⟩:=(show ObjOk X.prog X.w H s.heap a (.lst xs) from I.hok a _ ea);exact e6 PySem.W.kitx_list I.kIn ⟨_,h1,rfl⟩ e (λz=>nomatch z) h
 | @frz a ob xs ea=>
  cases (show u=Value.ref a from rx);obtain ⟨_,_,_,n,_,h1⟩:=(show ObjOk X.prog X.w H s.heap a (.frz ob (.lst xs)) from I.hok a _ ea);exact e6 PySem.W.kitx_list I.kIn ⟨_,h1,rfl⟩ e (λz=>nomatch z) h
 | @tup a xs ea=>
  cases (show u=Value.ref a from rx);obtain ⟨_,_,_,p⟩:=(show ObjOk X.prog X.w H s.heap a (.tup xs) from I.hok a _ ea);obtain ⟨o,h1,h2,_⟩:=p;exact e6 PySem.W.kitx_tuple I.kIn ⟨o,h1,h2⟩ e (λz=>nomatch z) h
 | @dK a kvs ea=>
  cases (show u=Value.ref a from rx);obtain ⟨_,_,vs,_,p⟩:=(show ObjOk X.prog X.w H s.heap a (.dK kvs) from I.hok a _ ea);obtain ⟨o,es,ep,h1,h2,_⟩:=p;exact e6 PySem.W.kitx_dict I.kIn ⟨o,h1,h2.1⟩ e (λz=>nomatch z) h
 | @dT a kvs ea=>
  cases (show u=Value.ref a from rx);obtain ⟨_,_,xs,_,o,es,ep,h1,h2,_⟩:=(show ObjOk X.prog X.w H s.heap a (.dT kvs) from I.hok a _ ea);exact e6 PySem.W.kitx_dict I.kIn ⟨o,h1,h2.1⟩ e (λz=>nomatch z) h
 | @ins a C dx fs ea cl ha hn htk hm=>
  cases (show u=Value.ref a from rx);obtain ⟨mA,O,_⟩:=Uo I.hok ea;obtain ⟨od,J,_⟩:=O.look;exact e6 (PySem.W.kitx_own (cl.get _) cl.hd ha hn htk hm) I.kIn J e (λz=>nomatch z) h
end
structure Room(k:Nat)(A:AM):Prop where
 hd:A.handled=none
 dp:A.depth+3 * k+5 < recursionLimit
 un:A.units+16 * k+200 < cLine
def Room.mono{j k:Nat}{A:AM}(r:Room k A)(h:j<=k):Room j A:=⟨r.hd,by have:=r.dp;omega,by have:=r.un;omega⟩
def Room.deeper{k:Nat}{A:AM}(r:Room (k+1) A)(env:Env):Room k (A.deeper env):=
 ⟨r.hd,by have:=r.dp;show A.depth+1+3 * k+5 < _;omega,by have:=r.un;show A.units+3+16 * k+200 < _;omega⟩
def Room.depth{k:Nat}{A:AM}(r:Room k A):A.depth < recursionLimit:=by have:=r.dp;omega
def Ur:TA:=λ_ H Q=>Q [] H
def Us(ta:TE)(tr:TA):TA:=λY H Q=>ta Y H λx H1=>tr Y H1 λxs H2=>Q (x::xs) H2
section
variable {X:Cx} {e:AO} {es:AE} {te:TE} {t:TA} {pos:Pos}
theorem ig:PA X [] Ur:=λ_ _ _ _ H Q I h=>Calls.spliced_nil ⟨[],H,I,.nil,h⟩
theorem dY(ha:PE X e te)(hr:PA X es t)(hs:starEach (e::es) X.env=(false,eval e X.env)::starEach es X.env:=by rfl):PA X (e::es) (Us te t):=by intro pos p9 s Y H Q I h;rw[hs];show wpAny _ _ (spliced ((false,eval e X.env)::backTo pos (starEach es X.env))) _ _ s;refine Calls.spliced_cons (thn (ha p9 s Y H _ I h) λu s1 ⟨x,H1,I1,r1,q1⟩=>?_);exact thn (hr pos p9 s1 Y H1 _ I1 q1) λus s2 ⟨xs,H2,I2,r2,q2⟩=>⟨x::xs,H2,I2,.cons r1 r2,q2⟩
def Ut(t:TA):TE:=λY H Q=>t Y H λxs H1=>xs.length<=sizeLine/\∀p,H1 p=none->Q (.ref p) (upd H1 p (.tup xs))
def Uu(t:TA):TE:=λY H Q=>t Y H λxs H1=>xs.length<=sizeLine/\∀p,H1 p=none->Q (.ref p) (upd H1 p (.lst xs))
theorem Uv{x1}(h:PA X es t):PE X (.Tuple es x1 pos) (Ut t):=by intro p9 s Y H Q I hq;refine wpAny_Tuple_spliced (thn (h pos p9 s Y H _ I hq) λus s1 ⟨xs,H1,I1,r,z,q⟩=>⟨by rw[<-r.length];exact z,?_⟩);have hf:H1 s1.heap.objs.size=none:=I1.hok.fresh (am _);refine ⟨.ref s1.heap.objs.size,upd H1 s1.heap.objs.size (.tup xs),I1.laid (t':=s1.toks) (λb u e=>ag _ e) (am _) ?_,rfl,q _ hf⟩;exact ⟨z,us,r,⟨_,a8 _ rfl,rfl,_,rfl⟩⟩
theorem Uw(h:PA X es t):PE X (.List es pos) (Uu t):=by intro p9 s Y H Q I hq;refine wpAny_List_spliced (thn (h pos p9 s Y H _ I hq) λus s1 ⟨xs,H1,I1,r,z,q⟩=>⟨by rw[<-r.length];exact z,?_⟩);have hf:H1 s1.heap.objs.size=none:=I1.hok.fresh (am _);refine ⟨.ref s1.heap.objs.size,upd H1 s1.heap.objs.size (.lst xs),I1.laid (t':=s1.toks) (λb u e=>ag _ e) (am _) ?_,rfl,q _ hf⟩;exact ⟨z,us,0,r,a8 _ rfl⟩
end
abbrev Sp:=AR->Hp->VK->XK->Prop
abbrev CXT:=List Env->Hp->AI->XK->AN->AI->Prop
structure Env0(P:AK)(w:World)(K:PF)(mg:AH)(base:Heap)(A:AM)(outer:List Env)(s:AI)(H:Hp):Prop where
 frames:A.frames=some outer
 mod:Mod K mg base
 bs:∀b o,base.get? b=some o->s.heap.get? b=some o/\H b=none
 bsz:base.objs.size<=(~~~s)
 funs:s.heap.FunFrames base outer
 frf:∀b∈frs outer,H b=none
 hok:HOk P w H s.heap
 bare:AllBare s.gens
def CE(outer:List Env)(P:AK)(w:World)(H:Hp)(s:AI)(Q:VK)(u:AN)(s':AI):Prop:=
 ∃v H',s'.os=s.os/\AllBare s'.gens/\Un (frs outer) [] H H' s.heap s'.heap/\HOk P w H' s'.heap/\RelV v u/\Q v H'
def CR(CX:CXT)(outer:List Env)(P:AK)(w:World)(H:Hp)(s:AI)(Q:VK)(E:XK)(r:Result)(s':AI):Prop:=
 match r with
 |.ok (.ret u)=>CE outer P w H s Q u s'
 |.ok _=>False
 |.error e=>CX outer H s E e s'
structure FnOk(P:AK)(w:World)(K:PF)(mg:AH)(base:Heap)(CX:CXT)(k:Nat)(f:AQ)(fd:AJ)(ps:AD)(sp:Sp):Prop where
 len:∀vs H Q E,sp vs H Q E->vs.length=ps.length
 run:∀(A:AM)(outer:List Env)(s:AI)(H:Hp)(args:Args)(us:AB)(vs:AR)(Q:VK)(E:XK),Room k A->Env0 P w K mg base A outer s H->BindsTo s fd args (ps.zip us)->Vals vs us->sp vs H Q E->
  codeAny (model P w) A (.call (.ref f) args) (CR CX outer P w H s Q E) s
def FnOk.mono{P:AK}{w:World}{K:PF}{mg:AH}{base:Heap}{CX:CXT}{j k:Nat}{f:AQ}{fd:AJ}{ps:AD}{sp:Sp}(F:FnOk P w K mg base CX j f fd ps sp)(h:j<=k):
  FnOk P w K mg base CX k f fd ps sp:=⟨F.len,λA outer s H args us vs Q E hr=>F.run A outer s H args us vs Q E (hr.mono h)⟩
def FnOk.imp{P:AK}{w:World}{K:PF}{mg:AH}{base:Heap}{CX:CXT}{k:Nat}{f:AQ}{fd:AJ}{ps:AD}{sp sp':Sp}(F:FnOk P w K mg base CX k f fd ps sp)
  (h:∀vs H Q E,sp' vs H Q E->sp vs H Q E):FnOk P w K mg base CX k f fd ps sp':=
 ⟨λvs H Q E q=>F.len vs H Q E (h _ _ _ _ q),λA outer s H args us vs Q E hr he hb hv hs=>F.run A outer s H args us vs Q E hr he hb hv (h _ _ _ _ hs)⟩
section
variable {X:Cx} {p9:AC} {σ:St} {H:Hp} {s s':AI}
theorem Inv.env0(I:Inv X p9 σ H s):Env0 X.prog X.w X.K X.mg X.base X.A X.stack s H:=
 ⟨I.ok.frames,I.ok.mod,I.bs,bS I.ok.bsz I.sz,I.stack,I.stkFree,I.hok,I.bare⟩
theorem Inv.after{Q:VK}{u:AN}(I:Inv X p9 σ H s)(h:CE X.stack X.prog X.w H s Q u s'):EP X p9 σ Q u s':=by obtain ⟨v,H',os,bare,un,hok,r,q⟩:=h;obtain ⟨hh,g,d,t,os'⟩:=s';obtain rfl:os'=s.os:=os;exact ⟨v,H',I.call (h':=hh) (g':=g) (d':=d) (t':=t) (ch:=[]) un hok bare (λb z=>absurd z (by simp)),r,q⟩
end
def Ux(sp:Sp)(dvs:AR)(E:XK)(t:TA):TE:=λY H Q=>t Y H λvs H1=>sp (vs++dvs) H1 Q E
def Binds(K:PF)(fd:AJ)(ps:AD)(ds:AB):Prop:=
 ∀(s:AI)(us:AB),K.In s.heap->(us++ds).length=ps.length->BindsTo s fd ⟨us,[]⟩ (ps.zip (us++ds))
def Binds.all{K:PF}{fd:AJ}{ps:AD}(h:∀us:AB,us.length=ps.length->bindArgs fd ⟨us,[]⟩=pure (ps.zip us)):Binds K fd ps []:=λs us _ hl=>by
 rw[fA]at hl ⊢;exact .of_eq (h us hl)
def kJ(CX:CXT)(X:Cx)(E:XK):Prop:=∀(p9:AC)(Y:St)(H:Hp)(s:AI)(e:AN)(s':AI),Inv X p9 Y H s->CX X.stack H s E e s'->X.xe e s'
section
variable {X:Cx} {CX:CXT} {k:Nat} {f C:AQ} {fd:AJ} {ps:AD} {sp:Sp} {dvs:AR} {ds:AB} {E:XK} {x m:Str} {p pos apos:Pos} {e o:AO} {es:AE} {ta:TE} {t:TA}
theorem Uy{p9:AC}{Y:St}{H:Hp}{s:AI}{Q:VK}{us:AB}{vs:AR}(F:FnOk X.prog X.w X.K X.mg X.base CX k f fd ps sp)(hr:Room k X.A)(hb:Binds X.K fd ps ds)(hd:Vals dvs ds)(hx:kJ CX X E)
  (I:Inv X p9 Y H s) (r:Vals vs us) (h:sp (vs++dvs) H Q E):↥X (call (.ref f) us) (EP X p9 Y Q) X.xe s:=by
 have r2:Vals (vs++dvs) (us++ds):=r.append hd;have hl:(us++ds).length=ps.length:=by rw[<-r2.length];exact F.len _ _ _ _ h
 refine wpAny_call (codeAny_mono (F.run X.A X.stack s H ⟨us,[]⟩ (us++ds) (vs++dvs) Q E hr I.env0 (hb s us I.kIn hl) r2 h) λr s' hq=>?_);cases r with
 |error e=>exact hx p9 Y H s e s' I hq
 |ok fl=>
  cases fl with
  |ret u=>exact I.after hq
  |next=>exact False.elim hq
  |brk=>exact False.elim hq
  |cont=>exact False.elim hq
theorem Uz(F:FnOk X.prog X.w X.K X.mg X.base CX k f fd ps sp)(hr:Room k X.A)(hg:Gl X x)(hm:X.mg x=some (.ref f))(hk:PySem.W.keepIn X.K (.ref f)=true)(hb:Binds X.K fd ps ds)(hd:Vals dvs ds)(hx:kJ CX X E)
  (ha:PA X (e::es) t) (hdb:(x==("__debug__":Str))=false:=by decide) (he:starEach (e::es) X.env=(false,eval e X.env)::starEach es X.env:=by rfl) (hpl:(backTo pos (starEach es X.env)).any (·.1)=false:=by rfl):
  PE X (.Call (.Name x p) (e::es) [] pos) (Ux sp dvs E t):=by
 intro p9 s Y H Q I h;refine wpAny_Call_Name_kw (Bv I hg hm ?_ hdb);refine PySem.W.callWith_K (h₀:=X.base) I.ok.mod.kin hk (thn (ha pos p9 s Y H _ I h) λus s1 ⟨vs,H1,I1,r,q⟩=>⟨I1.kIn,?_⟩) he hpl;exact Uy F hr hb hd hx I1 r q
structure Mk(K:PF)(C f:AQ):Prop where
 makes:PySem.W.makesIn K C=true
 init:PySem.W.findIn K (.ref C) "__init__"=some (some (.ref f))
 fn:PySem.W.isFn K (.ref f)=true
 kp:PySem.W.keepIn K (.ref C)=true
end
structure FnScope(N P:AD)(sc:Scope):Prop where
 kind:sc.kind=.function
 co:sc.isCoroutine=false
 gen:sc.isGenerator=false
 nd:N.Nodup
 pre:N.take P.length=P
 par:∀x∈P,sc.names.lookup x=some .local\/sc.names.lookup x=some .cell
 nofree:∀y∈sc.names,y.2≠.free
def BZ{kindOf:Str->Option NameKind}{x:Str}:∀{binds:List (Str×AN)}{m:AH},(∀v,(x,v)∉binds)->bindL kindOf binds m x=m x
 |[],_,_=>rfl
 | (n,v)::r,m,h=>by
  unfold bindL;rw[BZ λw hw=>h w (bp _ hw)];split
  .have:x≠n:=by rintro rfl;exact h v aI
   simp[this]
  .rfl
def Ca{kindOf:Str->Option NameKind}{x:Str}:∀{binds:List (Str×AN)}{m:AH},(∀v,(x,v)∉binds)->bindC kindOf binds m x=m x
 |[],_,_=>rfl
 | (n,v)::r,m,h=>by
  unfold bindC;rw[Ca λw hw=>h w (bp _ hw)];split
  .rfl
  .have:x≠n:=by rintro rfl;exact h v aI
   simp[this]
def Cd{kindOf:Str->Option NameKind}{x:Str}{v:AN}:∀{P:AD}{vs:AB}{i:Nat}{m:AH},P.Nodup->P[i]?=some x->vs[i]?=some v->kindOf x=some .local->
  bindL kindOf (P.zip vs) m x=some v
 |[],_,_,_,_,h,_,_=>by simp at h
 |_::_,[],_,_,_,_,h,_=>by simp at h
 |p::P,w::vs,0,m,nd,h1,h2,hk=>by
  simp at h1 h2;subst h1;subst h2;show bindL kindOf ((p,w)::P.zip vs) m p=_;unfold bindL;rw[BZ λv hv=>(fg.mp nd).1 (List.of_mem_zip hv).1,if_pos hk];simp
 |p::P,w::vs,i+1,m,nd,h1,h2,hk=>by
  show bindL kindOf ((p,w)::P.zip vs) m x=_;unfold bindL;exact Cd (i:=i) (fg.mp nd).2 (!!h1) (!!h2) hk
def Ce{kindOf:Str->Option NameKind}{x:Str}{v:AN}:∀{P:AD}{vs:AB}{i:Nat}{m:AH},P.Nodup->P[i]?=some x->vs[i]?=some v->kindOf x≠some .local->
  bindC kindOf (P.zip vs) m x=some v
 |[],_,_,_,_,h,_,_=>by simp at h
 |_::_,[],_,_,_,_,h,_=>by simp at h
 |p::P,w::vs,0,m,nd,h1,h2,hk=>by
  simp at h1 h2;subst h1;subst h2;show bindC kindOf ((p,w)::P.zip vs) m p=_;unfold bindC;rw[Ca λv hv=>(fg.mp nd).1 (List.of_mem_zip hv).1,if_neg hk];simp
 |p::P,w::vs,i+1,m,nd,h1,h2,hk=>by
  show bindC kindOf ((p,w)::P.zip vs) m x=_;unfold bindC;exact Ce (i:=i) (fg.mp nd).2 (!!h1) (!!h2) hk
def start(N:AD)(vs:AR):St:=vs.map some++List.replicate (N.length - vs.length) none
def dZ(CX:CXT)(P:AK)(w:World)(K:PF)(mg:AH)(base:Heap)(N:AD)(qual:Str)(scope:Scope)(f:AQ)(cd:AN)(A:AM)(outer:List Env)(s:AI)(H:Hp)(E:XK):Cx where
 prog:=P
 w:=w
 K:=K
 mg:=mg
 base:=base
 A:=A.deeper (envOfC qual scope (~~~s) f cd)
 N:=N
 s₀:=s
 H₀:=H
 env:=envOfC qual scope (~~~s) f cd
 outer:=outer
 stack:=envOfC qual scope (~~~s) f cd::outer
 ex:=[]
 calm:=true
 fn:=λ_=>true
 pn:=[]
 xe:=λe s'=>wpAny (model P w) (A.deeper (envOfC qual scope (~~~s) f cd)) (leaving (envOfC qual scope (~~~s) f cd) e) (λ_ s''=>CX outer H s E e s'') (λe' s''=>CX outer H s E e' s'') s'
def Cg{sc:Scope}{n:Nat}{x:Str}(h:sc.names.lookup x=some .cell):∃c,(cellsFrom n sc.names []).lookup x=some c:=by have q:=PySem.W.cellsFrom_some sc.names n [] (.inl h);exact dv.mp q
def Ci{CX:CXT}{P:AK}{w:World}{K:PF}{mg:AH}{base:Heap}{N ps:AD}{qual:Str}{scope:Scope}{f:AQ}{cd:AN}{A:AM}{outer:List Env}{s s1:AI}{H:Hp}{E:XK}{us:AB}{vs:AR}
  (S:FnScope N ps scope) (hd:A.handled=none) (e0:Env0 P w K mg base A outer s H) (hl:vs.length=ps.length) (r:Vals vs us)
  (x:InCallC s (~~~s) (bindL (envOfC qual scope (~~~s) f cd).kindOf (ps.zip us) λ_=>none) (cellsFrom ((~~~s)+1) scope.names []) (bindC (envOfC qual scope (~~~s) f cd).kindOf (ps.zip us) λ_=>none) s1):
  Inv (dZ CX P w K mg base N qual scope f cd A outer s H E) [] (start N vs) H s1:=by
 have hpl:ps.length<=N.length:=by have:=fE List.length S.pre;rw[br]at this;omega
 obtain ⟨h1,tk,rfl,hk⟩:=x.done;have noA:∀b:AQ,b∉(dZ CX P w K mg base N qual scope f cd A outer s H E).ex:=λb z=>absurd (show b∈([]:List AQ) from z) (by simp);refine ⟨⟨e0.mod,S.kind,rfl,rfl,am _,λy z c h1 h2=>?_,λy hy=>?_,λy c _ h=>?_,λ_=>hd,Around.frames_deeper e0.frames,.inr ⟨rfl,rfl⟩,λb z=>absurd z (noA b),e0.bs,e0.bsz,λb _ _=>noA b,λb z=>absurd z (noA b),e0.funs,e0.frf⟩,
  rfl,e0.bare,Un.kept hk,⟨_,x.toInCall.ns,λi y v h1 h2 h3=>?_⟩,λy c h=>⟨_,x.cell y c h⟩,e0.hok.fresh (am _),λy c h=>?_,λp hp=>absurd (show p∈([]:AC) from hp) (by simp),e0.hok.kept hk,?_⟩
 .exact name_of_addr x.apart (fe h1) (fe h2)
 .have hy:scope.names.lookup y=some .cell\/scope.names.lookup y=some .free:=hy;rcases hy with hy |hy
  .exact Cg hy
  .exact absurd rfl (S.nofree _ (fe hy))
 .exact Nat.le_of_lt (x.above y c (fe h))
 .have hi:i < vs.length:=by
   unfold start at h2;by_cases hi:i < vs.length
   .exact hi
   .rw[List.getElem?_append_right (!!hi)]at h2;rw[List.getElem?_replicate]at h2;split at h2 <;> cases h2
  have ha:vs[i]?=some v:=by
   unfold start at h2;rw[ge (!!hi),av]at h2;cases e:vs[i]? with
   |none=>rw[e]at h2;cases h2
   |some a=>rw[e]at h2;cases h2;rfl
  obtain ⟨u,hu,rv⟩:=r.get ha;have hp:ps[i]?=some y:=by rw[<-S.pre,List.getElem?_take_of_lt (!0)];exact h1
  have ndP:ps.Nodup:=by rw[<-S.pre];exact S.nd.sublist (List.take_sublist _ _)
  refine ⟨u,rv,?_⟩;rcases S.par y (bb hp) with k |k
  .exact .inl ⟨k,Cd ndP hp hu k⟩
  .obtain ⟨c,e⟩:=Cg (n:=(~~~s)+1) k;refine .inr ⟨.inl k,c,e,?_⟩;have q:=x.cell y c e;rw[Ce ndP hp hu (by show scope.names.lookup y≠_;rw[k];decide)]at q;exact q
 .exact e0.hok.fresh (Nat.le_of_lt (x.above y c (fe h)))
 .unfold start;show _=N.length;rw[ax,af,de];omega
def UG{CX:CXT}{P:AK}{w:World}{K:PF}{mg:AH}{base:Heap}{k:Nat}{f:AQ}{name qual:Str}{params:Arguments}{body:AF}{scope:Scope}{dV kV doc pm cdv ct oc:AN}{an od:Option AQ}
  {osl:Array (Option AN)} {N ps:AD} {sp:Sp} (lk:K.lookup f=some ⟨oc,od,.func (PySem.W.fnOf name qual params body scope dV kV doc pm an cdv ct),osl⟩) (hcd:PySem.W.codeIn K cdv qual=true) (S:FnScope N ps scope)
  (len:∀vs H Q E,sp vs H Q E->vs.length=ps.length)
  (hbody:∀(A:AM)(outer:List Env)(s:AI)(H:Hp)(vs:AR)(Q:VK)(E:XK),Room k (A.deeper (envOfC qual scope (~~~s) f cdv))->sp vs H Q E->
   ∃t,PSs (dZ CX P w K mg base N qual scope f cdv A outer s H E) body t/\t { nx:=λ_ H'=>Q .non H',rt:=Q } (start N vs) H):
  FnOk P w K mg base CX (k+1) f (PySem.W.fnOf name qual params body scope dV kV doc pm an cdv ct) ps sp:=by
 refine ⟨len,λA outer s H args us vs Q E hr e0 hb r hsp=>?_⟩;have hl:=len _ _ _ _ hsp;have KX:K.In s.heap:=e0.mod.kin.keeps λb o e=>(e0.bs b o e).1;have lim:s.heap.NoLimit:=e0.mod.nolimit.keeps λb o e=>(e0.bs b o e).1;have hkind:∀y∈ps.zip us,scope.names.lookup y.1=some .local\/(scope.names.lookup y.1=some .cell/\((cellsFrom ((~~~s)+1) scope.names []).lookup y.1).isSome=true):=λ⟨n,v⟩ hy=>by
  rcases S.par n (List.of_mem_zip hy).1 with q |q
  .exact .inl q
  .exact .inr ⟨q,PySem.W.cellsFrom_some _ _ _ (.inl q)⟩
 refine codeAny_call_function hr.depth (KX _ _ lk) rfl S.co S.gen rfl (PySem.W.codeRec_of KX hcd) (hb _ _ _ _ ?_);refine wpAny_newFunctionEnv_cells S.kind hkind λenv he s1 x=>?_;subst he;refine ⟨lim.keeps x.toInCall.keep,codeAny_func ?_⟩;obtain ⟨t,ht,hq⟩:=hbody A outer s H vs Q E (hr.deeper _) hsp;have I:Inv (dZ CX P w K mg base N qual scope f cdv A outer s H E) [] (start N vs) H s1:=Ci S hr.hd e0 hl r x;refine dr (ht [] s1 (start N vs) H _ I hq) (λfl s' hs=>?_) λe s' hs=>hs;have fin:∀{σ':St}{H':Hp}{v:V}{u:AN},Inv (dZ CX P w K mg base N qual scope f cdv A outer s H E) [] σ' H' s'->RelV v u->Q v H'->CE outer P w H s Q u s':=
  λ{σ' H' v u} J rv q=>⟨v,H',J.os,J.bare,J.base,J.hok,rv,q⟩
 cases fl with
 |ret u=>
  obtain ⟨v,σ',H',J,rv,q⟩:=hs;exact fin J rv q
 |next=>
  obtain ⟨σ',H',J,q⟩:=hs;exact fin (v:=V.non) (u:=Value.none) J rfl q
 |brk=>
  obtain ⟨_,_,_,q⟩:=hs;exact False.elim q
 |cont=>
  obtain ⟨_,_,_,q⟩:=hs;exact False.elim q
section
variable {X:Cx} {x:Str} {p pos:Pos} {e:AO} {es:AE} {t:TA} {id T:AL} {r:AR->Hp->VK->Prop}
def tCB(r:AR->Hp->VK->Prop)(t:TA):TE:=λY H Q=>t Y H λvs H1=>r vs H1 Q
theorem kO (hc:bQ X (.builtin id) r) (hg:Gl X x) (hm:X.mg x=none) (hv:bootBuiltins x=some (.builtin id)) (ha:PA X (e::es) t) (hn:x≠"__name__":=by decide) (hdb:(x==("__debug__":Str))=false:=by decide)
  (he:starEach (e::es) X.env=(false,eval e X.env)::starEach es X.env:=by rfl) (hpl:(backTo pos (starEach es X.env)).any (·.1)=false:=by rfl):PE X (.Call (.Name x p) (e::es) [] pos) (tCB r t):=by
 intro p9 s Y H Q I h;refine wpAny_Call_Name_kw (fY I hg hm hv ?_ hn hdb);exact PyProof.Rows.callWith_builtin1 (thn (ha pos p9 s Y H _ I h) λus s1 ⟨vs,H1,I1,r1,q1⟩=>hc p9 s1 Y H1 vs us Q I1 r1 q1) he hpl
theorem kW (hc:bQ X (.type T) r) (hg:Gl X x) (hm:X.mg x=none) (hv:bootBuiltins x=some (.type T)) (ha:PA X (e::es) t) (hn:x≠"__name__":=by decide) (hdb:(x==("__debug__":Str))=false:=by decide)
  (he:starEach (e::es) X.env=(false,eval e X.env)::starEach es X.env:=by rfl) (hpl:(backTo pos (starEach es X.env)).any (·.1)=false:=by rfl):PE X (.Call (.Name x p) (e::es) [] pos) (tCB r t):=by
 intro p9 s Y H Q I h;refine wpAny_Call_Name_kw (fY I hg hm hv ?_ hn hdb);exact dy (thn (ha pos p9 s Y H _ I h) λus s1 ⟨vs,H1,I1,r1,q1⟩=>hc p9 s1 Y H1 vs us Q I1 r1 q1) he hpl
end
end L2
namespace HT
open PySem PyProof.Rows
section
variable {prog:AK} {w:World} {A:AM} {E:AG} {s:AI}
theorem UJ{t b:AQ}{vs ws:AB}{Q:AG}(ht:IsTup s.heap t vs.toArray)(hb:IsTup s.heap b ws.toArray)(hv:vs≠[])
  (h1:ws=[]->Q (.ref t) s) (h2:ws≠[]->Q (.ref (~~~s)) { s with heap:=s.heap.push { cls:=.type "tuple",data:=.seq (vs++ws).toArray } })
  (hsz:vs.length+ws.length<=sizeLine):wpAny (model prog w) A (binaryOp .Add (.ref t) (.ref b)) Q E s:=by
 obtain ⟨⟨cls,dd,data,sl⟩,ho,hc,n,hd⟩:=id ht;obtain ⟨⟨cls2,dd2,data2,sl2⟩,ho2,hc2,n2,hd2⟩:=id hb;simp only at hc hd hc2 hd2;subst hc hd hc2 hd2;have e:vs.toArray++ws.toArray=(vs++ws).toArray:=by simp
 by_cases hw:ws=[]
 .exact concat_meets ⟨_,ho,rfl⟩ ⟨_,ho2,rfl⟩ noFill_tuple_add seq_tuple_add PySem.F.slot_tuple_add PySem.F.entry_tuple_add (PySem.F.args_tuple_add_2 _ _)
   (tuple_addW1 t b vs.toArray ws.toArray n n2 dd dd2 sl sl2 (!!hv) (by simp[hw])) ⟨ho,ho2,h1 hw⟩
 .refine concat_meets ⟨_,ho,rfl⟩ ⟨_,ho2,rfl⟩ noFill_tuple_add seq_tuple_add PySem.F.slot_tuple_add PySem.F.entry_tuple_add (PySem.F.args_tuple_add_2 _ _)
   (tuple_addW2 t b vs.toArray ws.toArray n n2 dd dd2 sl sl2 (!!hv) (!!hw) (by rw[List.size_toArray,List.size_toArray];exact hsz)) ⟨ho,ho2,?_⟩
  rw[e];exact h2 hw
def sIx(n d:Nat):Option Int->Nat
 |none=>d
 |some v=>if v < 0 then (v+(n:Int)).toNat else min v.toNat n
theorem Cj(n d k:Nat):sIx n d (some (k:Int))=min k n:=by show (if (k:Int) < 0 then ((k:Int)+(n:Int)).toNat else min (k:Int).toNat n)=min k n;rw[if_neg (!0),Int.toNat_natCast]
theorem Ck(n d:Nat)(hd:d<=n)(o:Option Int):sIx n d o<=n:=by
 cases o with
 |none=>exact hd
 |some v=>
  show (if v < 0 then (v+(n:Int)).toNat else min v.toNat n)<=n;by_cases hv:v < 0
  .rw[if_pos hv];omega
  .rw[if_neg hv];exact Nat.min_le_right _ _
theorem Cm(v:Int)(n d:Nat):(if v < 0 then max (v+(n:Int)) 0 else min v (n:Int))=((sIx n d (some v):Nat):Int):=by
 show (if v < 0 then max (v+(n:Int)) 0 else min v (n:Int))=(((if v < 0 then (v+(n:Int)).toNat else min v.toNat n):Nat):Int);by_cases hv:v < 0
 .simp only[if_pos hv];omega
 .simp only[if_neg hv];omega
theorem UL(lo hi:Option Int)(n:Nat):Builtin.Slice.sliceAdjust lo hi 1 (n:Int)=(((sIx n 0 lo:Nat):Int),((sIx n n hi:Nat):Int)):=by
 have h1:¬((1:Int) < 0):=by omega
 unfold Builtin.Slice.sliceAdjust;simp only[h1,if_false];refine Prod.ext ?_ ?_
 .cases lo with
  |none=>rfl
  |some v=>exact Cm v n 0
 .cases hi with
  |none=>rfl
  |some v=>exact Cm v n n
theorem UT(i j:Nat):Builtin.Slice.slicePlaces (i:Int) (j:Int) 1=j - i:=by
 unfold Builtin.Slice.slicePlaces;have h1:(1:Int) > 0:=by omega
 simp only[h1,if_true,Int.ediv_one];split <;> omega
theorem Cp{v:AN}{o:Option Int}{Q:Option Int->AI->Prop}(p:IsPart v o)(h:Q o s):wpAny (model prog w) A (Builtin.Slice.slicePartIndex v) Q E s:=by
 cases p with
 |none=>exact slicePart_none h
 |int i t=>exact slicePart_int h
theorem Cq{sl:AQ}{vl vu:AN}{lo hi:Option Int}{n:Nat}{Q:Int×Int×Nat->AI->Prop}(hs:s.heap.IsSliceOf sl vl vu .none)(pl:IsPart vl lo)(pu:IsPart vu hi)
  (h:Q (((sIx n 0 lo:Nat):Int),1,sIx n n hi - sIx n 0 lo) s):wpAny (model prog w) A (Builtin.Slice.sliceApplied (.ref sl) (pure (n:Int))) Q E s:=by
 obtain ⟨os,hos,hcs,hds⟩:=id hs;unfold Builtin.Slice.sliceApplied Builtin.Slice.sliceFields;refine wpAny_bind (wpAny_bind (wpAny_field hos hds (x:=vl) rfl (wpAny_bind (wpAny_field hos hds (x:=vu) rfl (wpAny_bind (wpAny_field hos hds (x:=.none) rfl (wpAny_pure ?_)))))));refine wpAny_bind (slicePart_none ?_);show wpAny _ _ (if ((1:Int)==0)=true then _ else _) _ _ s;rw[if_neg (!1)];refine wpAny_bind (Cp pl (wpAny_bind (Cp pu (wpAny_bind (wpAny_pure ?_)))));show wpAny _ _ (match Builtin.Slice.sliceAdjust lo hi 1 (n:Int) with | (lo,hi)=>pure (lo,(1:Int),Builtin.Slice.slicePlaces lo hi 1)) _ _ s;rw[UL lo hi n];show wpAny _ _ (pure (((sIx n 0 lo:Nat):Int),(1:Int),Builtin.Slice.slicePlaces ((sIx n 0 lo:Nat):Int) ((sIx n n hi:Nat):Int) 1)) _ _ s;rw[UT];exact wpAny_pure h
theorem UV(xs:Array AN)(i k:Nat):((List.range k).filterMap λ(m:Nat)=>xs[((i:Int)+(m:Int) * 1).toNat]?).toArray=((xs.toList.drop i).take k).toArray:=by
 have e:(λ(m:Nat)=>xs[((i:Int)+(m:Int) * 1).toNat]?)=λm=>xs[i+m]?:=by
  funext m;have:((i:Int)+(m:Int) * 1).toNat=i+m:=by omega
  rw[this]
 rw[e];have:=pick_run xs i k;rw[List.filterMap_map]at this;have e2:((λx=>xs[x]?)∘λx=>i+x)=λm=>xs[i+m]?:=rfl;rw[e2]at this;rw[this]
theorem UW{t sl:AQ}{items:Array AN}{vl vu:AN}{lo hi:Option Int}{Q:AG}(ht:IsTup s.heap t items)(hs:s.heap.IsSliceOf sl vl vu .none)(pl:IsPart vl lo)(pu:IsPart vu hi)
  (hw:¬(sIx items.size 0 lo=0/\sIx items.size items.size hi=items.size))
  (h:Q (.ref (~~~s)) { s with heap:=s.heap.push { cls:=.type "tuple",data:=.seq ((items.toList.drop (sIx items.size 0 lo)).take (sIx items.size items.size hi - sIx items.size 0 lo)).toArray } })
  (hsz:items.size<=sizeLine):wpAny (model prog w) A (getItem (.ref t) (.ref sl)) Q E s:=by
 have htake:sizeOk (.seq ((items.toList.drop (sIx items.size 0 lo)).take (sIx items.size items.size hi - sIx items.size 0 lo)).toArray):=by show ((items.toList.drop (sIx items.size 0 lo)).take (sIx items.size items.size hi - sIx items.size 0 lo)).toArray.size<=sizeLine;rw[List.size_toArray,List.length_take,List.length_drop,Array.length_toList];omega
 have hj:sIx items.size items.size hi<=items.size:=Ck _ _ (Nat.le_refl _) hi;obtain ⟨os,hos,hcs,hds⟩:=id hs;have hTs:s.TypeIs (.ref sl) "slice":=⟨os,hos,hcs⟩;unfold getItem;try with_reducible refine wpAny_holding ?_
 first |refine wpAny_bind (wpAny_pure ?_) |skip
 refine wpAny_bind (wpAny_sequenceKey ht.typeIs (!1) ?_);refine wpAny_bind (wpAny_callSpecial?_slot (name:=⇑"__getitem__") ht.typeIs PyProof.Rows.slot_tuple_getitem
  (wpAny_call_entry PyProof.Rows.slot_tuple_getitem ht.typeIs entry_tuple_getitem ?_ (args_tuple_getitem _ _)))
 show wpAny _ _ (Builtin.Tuple.tupleItemsOf (.ref t) >>= _) _ _ s;refine wpAny_bind (tupleItemsOf_ ht ?_);refine wpAny_bind (wpAny_typeOf hTs ?_);rw[if_pos (!1)];refine wpAny_bind (Cq hs pl pu ?_);have hno:¬((((sIx items.size 0 lo:Nat):Int)==0&&(1:Int)==1&&(sIx items.size items.size hi - sIx items.size 0 lo)==items.size)=true):=by intro q;rw[Bool.and_eq_true,Bool.and_eq_true]at q;have q1:((sIx items.size 0 lo:Nat):Int)=0:=eq_of_beq q.1.1;have q2:sIx items.size items.size hi - sIx items.size 0 lo=items.size:=eq_of_beq q.2;exact hw ⟨!0,!0⟩
 show wpAny _ _ (if (((sIx items.size 0 lo:Nat):Int)==0&&(1:Int)==1&&(sIx items.size items.size hi - sIx items.size 0 lo)==items.size)=true then _ else _) _ _ s;rw[if_neg hno,UV];first
  |exact wpAny_bind (m:=Builtin.Tuple.tupleExact _) (wpAny_newObj_type (wpAny_pure ⟨_,rfl,wpAny_pure h⟩) htake)
  |exact wpAny_bind (m:=Builtin.Tuple.tupleExact _) (wpAny_newObj_type (wpAny_bind (wpAny_pure (wpAny_pure ⟨_,rfl,wpAny_pure h⟩))) htake)
  |exact wpAny_bind (wpAny_bind (m:=Builtin.Tuple.tupleExact _) (wpAny_newObj_type (wpAny_pure (wpAny_pure ⟨_,rfl,wpAny_pure h⟩)) htake))
  |exact wpAny_bind (wpAny_bind (m:=Builtin.Tuple.tupleExact _) (wpAny_newObj_type (wpAny_pure ⟨_,rfl,wpAny_pure h⟩) htake))
end
end HT
namespace L2
open PySem PySem.Spec PyProof.Rows
abbrev TO:=St->Hp->(Option Int->Hp->Prop)->Prop
def PO(X:Cx)(e:Option AO)(t:TO):Prop:=
 ∀(p9:AC)(s:AI)(Y:St)(H:Hp)(Q:Option Int->Hp->Prop),Inv X p9 Y H s->t Y H Q->
  ↥X (evalPart e X.env) (λu s'=>∃o H',Inv X p9 Y H' s'/\IsPart u o/\Q o H') X.xe s
def U0:TO:=λ_ H Q=>Q none H
def U3(t:TE):TO:=λY H Q=>t Y H λx H1=>∃i,x=.int i/\Q (some i) H1
def intsAre_of{ns:List Int}:∀{us:AB},Vals (ns.map V.int) us->IntsAre us ns:=by
 induction ns with
 |nil=>intro us r;rw[List.map_nil]at r;cases r;exact .nil
 |cons n ns ih=>
  intro us r;rw[cS]at r;cases r with
  |cons r1 r2=>
   obtain ⟨t,e⟩:=r1;subst e;exact .cons n t (ih r2)
section
variable {X:Cx} {e:AO} {te:TE} {lo hi:Option AO} {tl th:TO} {pos p2:Pos}
theorem U4:PO X none U0:=by intro p9 s Y H Q I h;rw[evalPart_none];exact al ⟨none,H,I,.none,h⟩
theorem U5(h:PE X e te):PO X (some e) (U3 te):=by intro p9 s Y H Q I hw;rw[evalPart_some];refine thn (h p9 s Y H _ I hw) λu s1 ⟨x,H1,I1,r1,q1⟩=>?_;obtain ⟨i,rfl,q⟩:=q1;obtain ⟨t,rfl⟩:=r1;exact ⟨some i,H1,I1,.int i t,q⟩
def SlR(X:Cx)(r:V->Option Int->Option Int->Hp->VK->Prop):Prop:=
 ∀(p9:AC)(s:AI)(Y:St)(H:Hp)(x:V)(v vl vu:AN)(lo hi:Option Int)(sl:AQ)(Q:VK),Inv X p9 Y H s->RelV x v->s.heap.IsSliceOf sl vl vu .none->IsPart vl lo->IsPart vu hi->r x lo hi H Q->
  ∃T id,typeLookup (.type T) "__getitem__"=pure (some (.builtin id))/\s.TypeIs v T/\↥X (getItem v (.ref sl)) (EP X p9 Y Q) X.xe s
def tSl(r:V->Option Int->Option Int->Hp->VK->Prop)(te:TE)(tl th:TO):TE:=λY H Q=>te Y H λx H1=>tl Y H1 λl H2=>th Y H2 λu H3=>r x l u H3 Q
theorem U6{r:V->Option Int->Option Int->Hp->VK->Prop}(hr:SlR X r)(he:PE X e te)(hl:PO X lo tl)(hu:PO X hi th):PE X (.Subscript e (.Slice lo hi none p2) pos) (tSl r te tl th):=by intro p9 s Y H Q I h;refine Subscript_ (thn (he p9 s Y H _ I h) λv s1 ⟨x,H1,I1,r1,q1⟩=>?_);refine wpAny_Slice (thn (hl p9 s1 Y H1 _ I1 q1) λvl s2 ⟨l,H2,I2,pl,q2⟩=>thn (hu p9 s2 Y H2 _ I2 q2) λvu s3 ⟨u,H3,I3,pu,q3⟩=>?_);rw[evalPart_none];refine al ?_;have I4:Inv X p9 Y H3 { s3 with heap:=s3.heap.push { cls:=.type "slice",data:=.fields #[vl,vu,.none] } }:=I3.kept (t':=s3.toks) λb ob q=>ag _ q;obtain ⟨T,id,hT,ht,hg⟩:=hr p9 { s3 with heap:=s3.heap.push { cls:=.type "slice",data:=.fields #[vl,vu,.none] } } Y H3 x v vl vu l u s3.heap.objs.size Q I4 r1 (Heap.IsSliceOf.new ..) pl pu q3;show ↥X (subscriptTail e (.Slice lo hi none p2) v (.ref s3.heap.objs.size)) (EP X p9 Y Q) X.xe { s3 with heap:=s3.heap.push { cls:=.type "slice",data:=.fields #[vl,vu,.none] } };exact tail_any (ops:=[.ref s3.heap.objs.size,v]) ht hT hg (by with_unfolding_all rfl)
def eZ(xs:AR)(lo hi:Option Int):AR:=(xs.drop (HT.sIx xs.length 0 lo)).take (HT.sIx xs.length xs.length hi - HT.sIx xs.length 0 lo)
theorem Cr(xs:AR)(lo hi:Option Int):(eZ xs lo hi).length<=xs.length:=by unfold eZ;rw[br,ce];omega
def U7(K:PF):V->Option Int->Option Int->Hp->VK->Prop:=λx lo hi H Q=>∃a xs,x=.ref a/\SqT K H a xs/\
 ¬(HT.sIx xs.length 0 lo=0/\HT.sIx xs.length xs.length hi=xs.length)/\∀p,H p=none->Q (.ref p) (upd H p (.tup (eZ xs lo hi)))
theorem U8:SlR X (U7 X.K):=by
 intro p9 s Y H x v vl vu lo hi sl Q I rx hs pl pu h;obtain ⟨a,xs,rfl,hx,hw,q⟩:=h;cases rx;obtain ⟨its,r,ht,hz⟩:=I.tuple hx;have hlen:its.toArray.size=xs.length:=by rw[a7];exact r.length.symm
 refine ⟨"tuple",_,gu.lookup,ht.typeIs,?_⟩;refine HT.UW ht hs pl pu (by rw[hlen];exact hw) ?_ (by rw[hlen];exact hz);rw[hlen];refine ⟨.ref (~~~s),_,I.laid (t':=s.toks) (o:=.tup (eZ xs lo hi)) (λb ob q=>ag _ q) (am _) ?_,rfl,q _ (I.hok.fresh (am _))⟩;exact ⟨bS (Cr xs lo hi) hz,_,(r.drop (HT.sIx xs.length 0 lo)).take (HT.sIx xs.length xs.length hi - HT.sIx xs.length 0 lo),IsTup.new _ _⟩
def U9(K:PF):R2:=λx y H Q=>∃a b xs ys,x=.ref a/\y=.ref b/\SqT K H a xs/\SqT K H b ys/\xs≠[]/\xs.length+ys.length<=sizeLine/\
 (ys=[]->Q (.ref a) H)/\(ys≠[]->∀p,H p=none->Q (.ref p) (upd H p (.tup (xs++ys))))
theorem Vals.nil_iff{xs:AR}{us:AB}(r:Vals xs us):us=[]↔xs=[]:=by
 cases r with
 |nil=>simp
 |cons _ _=>simp
theorem Va:OpR X (binaryOp .Add) (U9 X.K):=by intro p9 s Y H x y v u Q I rx ry h;obtain ⟨a,b,xs,ys,rfl,rfl,ha,hb,hx,hz,q1,q2⟩:=h;cases rx;cases ry;obtain ⟨its,r1,p1,_⟩:=I.tuple ha;obtain ⟨its2,r2,p2,_⟩:=I.tuple hb;refine HT.UJ p1 p2 (λz=>hx (r1.nil_iff.mp z)) (λz=>⟨.ref a,H,I,rfl,q1 (r2.nil_iff.mp z)⟩) (λz=>?_) (by rw[<-r1.length,<-r2.length];exact hz);refine ⟨.ref (~~~s),_,I.laid (t':=s.toks) (o:=.tup (xs++ys)) (λb ob q=>ag _ q) (am _) ?_,rfl,q2 (λw=>z (r2.nil_iff.mpr w)) _ (I.hok.fresh (am _))⟩;exact ⟨by rw[ax];exact hz,_,r1.append r2,IsTup.new _ _⟩
end
def ixN(n:Nat)(i:Int):Option Nat:=if 0<=i then (if i < n then some i.toNat else none) else if -(n:Int)<=i then some (i+n).toNat else none
def atI{α:Type}(xs:List α)(i:Int):Option α:=(ixN xs.length i).bind λj=>xs[j]?
def Cu{n:Nat}{i:Int}{j:Nat}(h:ixN n i=some j):seqIndex? i n=some j/\j < n/\-(n:Int)<=i/\i < n:=by
 unfold ixN at h;by_cases h0:0<=i
 .rw[if_pos h0]at h;by_cases h1:i < n
  .rw[if_pos h1]at h;have e:i.toNat=j:=cm h;exact ⟨by rw[seqIndex_of h0 h1,e],!0,!0,h1⟩
  .rw[if_neg h1]at h;cases h
 .rw[if_neg h0]at h;by_cases h1:-(n:Int)<=i
  .rw[if_pos h1]at h;have e:(i+n).toNat=j:=cm h;exact ⟨by rw[seqIndex_neg (!0) h1,e],!0,h1,!0⟩
  .rw[if_neg h1]at h;cases h
def vg{α:Type}{xs:List α}{i:Int}{v:α}(h:atI xs i=some v):∃j,seqIndex? i xs.length=some j/\xs[j]?=some v/\j < xs.length/\-(xs.length:Int)<=i/\i < xs.length:=by
 unfold atI at h;cases e:ixN xs.length i with
 |none=>rw[e]at h;cases h
 |some j=>
  rw[e]at h;obtain ⟨h1,h2,h3,h4⟩:=Cu e;exact ⟨j,h1,h,h2,h3,h4⟩
def bA{α:Type}{xs:List α}{j:Nat}{v:α}(h:xs[j]?=some v):atI xs (j:Int)=some v:=by
 have hj:j < xs.length:=(ah.mp h).1;have e:ixN xs.length (j:Int)=some j:=by unfold ixN;rw[if_pos (!0),if_pos (!0)];simp
 unfold atI;rw[e];exact h
def Cv{α:Type}(xs:List α)(v:α):atI (xs++[v]) (-1)=some v:=by
 have hl:(xs++[v]).length=xs.length+1:=by simp
 have e:ixN (xs++[v]).length (-1)=some xs.length:=by unfold ixN;rw[hl,if_neg (!1),if_pos (!0)];congr 1;omega
 unfold atI;rw[e];show (xs++[v])[xs.length]?=some v;simp
def Cw(b:AO):Prop:=∀o i,subscripted b false o i=operate [o,i] (getItem o i)
def IxR(X:Cx)(r:R2):Prop:=
 ∀(value slice:AO)(p9:AC)(s:AI)(Y:St)(H:Hp)(x y:V)(v u:AN)(Q:VK),Inv X p9 Y H s->RelV x v->RelV y u->r x y H Q->
  subscripted slice false v u=operate [v,u] (getItem v u)->↥X (subscriptTail value slice v u) (EP X p9 Y Q) X.xe s
def MtR(X:Cx)(id:AL)(r:V->AR->Hp->VK->Prop):Prop:=
 ∀(p9:AC)(s:AI)(Y:St)(H:Hp)(x:V)(xs:AR)(v:AN)(us:AB)(Q:VK),Inv X p9 Y H s->RelV x v->Vals xs us->r x xs H Q->
  ↥X (call (.builtin id) (v::us)) (EP X p9 Y Q) X.xe s
section
variable {X:Cx} {a b:AO} {ta tb:TE} {pos:Pos}
theorem Vb{r:R2}(hr:IxR X r)(ha:PE X a ta)(hb:PE X b tb)(hs:Cw b):PE X (.Subscript a b pos) (tOp r ta tb):=by intro p9 s Y H Q I h;exact Subscript_ (vd ha hb I h λv u s2 x y H2 I2 rx ry q=>hr a b p9 s2 Y H2 x y v u Q I2 rx ry q (hs _ _))
def Vc(K:PF):R2:=λx y H Q=>∃p xs i v,x=.ref p/\y=.int i/\SqL K H p xs/\atI xs i=some v/\Q v H
def Vd(K:PF):R2:=λx y H Q=>∃p xs i v,x=.ref p/\y=.int i/\SqT K H p xs/\atI xs i=some v/\Q v H
def Ve:R2:=λx y H Q=>∃z i c,x=.str z/\y=.int i/\z.length<=sizeLine/\atI z.cps.toList i=some c/\Q (.str ⟨#[c]⟩) H
theorem Vf:IxR X (Vc X.K):=by
 intro value slice p9 s Y H x y v u Q I rx ry h hs;obtain ⟨p,xs,i,z,rfl,rfl,hq,he,q⟩:=h;cases rx;obtain ⟨t,rfl⟩:=ry;obtain ⟨its,r,pl,hz⟩:=I.list hq;obtain ⟨j,h1,h2,h3,h4,h5⟩:=vg he;obtain ⟨w,ew,rw'⟩:=r.get h2;have hl:=r.length;have hn:=iW;have fin:EP X p9 Y Q w s:=⟨z,H,I,rw',q⟩;by_cases h0:0<=i
 .have hj:i.toNat=j:=by
   rw[seqIndex_of h0 h5]at h1;exact cm h1
  exact item_listR pl.isList h0 (!0) (by rw[hj];simpa using ew) fin hs
 .have hj:(i+(its.toArray.size:Int)).toNat=j:=by
   rw[seqIndex_neg (!0) h4]at h1;rw[a7,<-hl];exact cm h1
  exact subscriptTail_builtinR (x:=w) pl.isList.typeIs slot_list_getitem.lookup
   (wpAny_getItem_list_neg (Q:=λr s'=>r=w/\EP X p9 Y Q r s') pl.isList (!0) (by rw[a7] <;> omega) (!0) (by rw[hj];simpa using ew) ⟨rfl,fin⟩) hs
theorem Vg:IxR X (Vd X.K):=by
 intro value slice p9 s Y H x y v u Q I rx ry h hs;obtain ⟨p,xs,i,z,rfl,rfl,hq,he,q⟩:=h;cases rx;obtain ⟨t,rfl⟩:=ry;obtain ⟨its,r,pl,hz⟩:=I.tuple hq;obtain ⟨j,h1,h2,h3,h4,h5⟩:=vg he;obtain ⟨w,ew,rw'⟩:=r.get h2;have hl:=r.length;have hn:=iW;have fin:EP X p9 Y Q w s:=⟨z,H,I,rw',q⟩;exact subscriptTail_builtinR (x:=w) pl.typeIs slot_tuple_getitem.lookup
  (getItem_tuple (j:=j) (Q:=λr s'=>r=w/\EP X p9 Y Q r s') pl (!0) (!0) (by rw[a7,<-hl];exact h1) (!!ew) ⟨rfl,fin⟩) hs
theorem Vh:IxR X Ve:=by
 intro value slice p9 s Y H x y v u Q I rx ry h hs;obtain ⟨z,i,c,rfl,rfl,hz,he,q⟩:=h;obtain ⟨t,rfl⟩:=rx;obtain ⟨t',rfl⟩:=ry;obtain ⟨j,h1,h2,h3,h4,h5⟩:=vg he;have hl:z.cps.toList.length=z.length:=by simp[Str.length]
 rw[hl]at h1 h4 h5;have hn:=iW;exact tail_any (typeIs_str s z t) slot_str_getitem.lookup (getItem_str (c:=c) (by
  have e1:decide (i < -(2 ^ 63:Int))=false:=cy (!0);have e2:decide (i≥2 ^ 63)=false:=cy (!0);rw[e1,e2,Bool.or_false]) (by rw[h1];simpa using h2) ⟨.str ⟨#[c]⟩,H,I.tok _,⟨_,rfl⟩,q⟩) hs
theorem Vi (its:AB) (n j:Nat) (u:AN):Obj.mapSeq (·.setIfInBounds j u) { cls:=.type "list",data:=.seq its.toArray n }={ cls:=.type "list",data:=.seq (its.set j u).toArray n }:=by simp[Obj.mapSeq]
theorem Inv.lst{p9:AC}{Y:St}{H:Hp}{s:AI}{p:AQ}{xs:AR}(I:Inv X p9 Y H s)(h:H p=some (.lst xs)):
  ∃(its:AB) (n:Nat),Vals xs its/\s.heap.get? p=some { cls:=.type "list",data:=.seq its.toArray n }/\xs.length<=sizeLine:=by
 obtain ⟨z,its,n,r,e⟩:=I.hok p _ h;exact ⟨its,n,r,e,z⟩
theorem Inv.lstUpd{p9:AC}{Y:St}{H:Hp}{s:AI}{p:AQ}{xs ys:AR}{its its':AB}{n n':Nat}{f:Obj->Obj}(I:Inv X p9 Y H s)(h:H p=some (.lst xs))
  (ho:s.heap.get? p=some { cls:=.type "list",data:=.seq its.toArray n }) (hf:f { cls:=.type "list",data:=.seq its.toArray n }={ cls:=.type "list",data:=.seq its'.toArray n' }) (r:Vals ys its') (hz:ys.length<=sizeLine) (t:Nat):
  Inv X p9 Y (upd H p (.lst ys)) { s with heap:=s.heap.update p f,toks:=t }:=by
 have e:(s.heap.update p f).get? p=some { cls:=.type "list",data:=.seq its'.toArray n' }:=by rw[gt f ho (by rw[hf] <;> rfl),hf]
 refine I.write (x:=p) (e:=p) (by rw[h];trivial) (.inl rfl) (λb u hb q=>(Heap.get?_update_other _ _ (Ne.symm hb)).trans q) ⟨_,e⟩ ?_;exact ⟨hz,its',n',r,e⟩
def Vj:V->V->V->Hp->(Hp->Prop)->Prop:=λo i v H Q=>∃p xs k j,o=.ref p/\i=.int k/\H p=some (.lst xs)/\ixN xs.length k=some j/\Q (upd H p (.lst (xs.set j v)))
theorem set_list:u5 X Vj:=by
 intro p9 s Y H o i v ov iv u Q I ro ri rv h;obtain ⟨p,xs,k,j,rfl,rfl,hp,hj,q⟩:=h;cases ro;obtain ⟨t,rfl⟩:=ri;obtain ⟨its,n,r,ho,hz⟩:=I.lst hp;obtain ⟨h1,h2,h3,h4⟩:=Cu hj;have hl:=r.length;have hn:=iW;have I':Inv X p9 Y (upd H p (.lst (xs.set j v))) { s with heap:=s.heap.update p (Obj.mapSeq (·.setIfInBounds j u)) }:=
  I.lstUpd hp ho (Vi its n j u) (r.set rv j) (by rw[cK];exact hz) s.toks
 by_cases h0:0<=k
 .have hk:k.toNat=j:=by
   rw[seqIndex_of h0 h4]at h1;exact cm h1
  exact PySem.W.ki_setAt ho h0 (!0) (by rw[a7,<-hl];exact h4) (by rw[hk];exact ⟨_,I',q⟩)
 .have hk:(k+(its.toArray.size:Int)).toNat=j:=by
   rw[seqIndex_neg (!0) h3]at h1;rw[a7,<-hl];exact cm h1
  exact PySem.W.ki_setBack ho (!0) (by rw[a7,<-hl];exact h3) (!0) (by rw[hk];exact ⟨_,I',q⟩)
theorem Cy(lo hi:Option Int)(n:Nat):(sliceBounds lo hi none n).1=((HT.sIx n 0 lo:Nat):Int)/\(sliceBounds lo hi none n).2.1=((HT.sIx n n hi:Nat):Int)/\(sliceBounds lo hi none n).2.2=1:=by
 refine ⟨?_,?_,rfl⟩
 .cases lo with
  |none=>simp[sliceBounds,HT.sIx]
  |some i=>
   simp only[sliceBounds,HT.sIx,Option.getD_none,show (1:Int) > 0 by decide,if_true];by_cases h:i < 0
   .simp only[h,if_true] <;> omega
   .simp only[h,if_false] <;> omega
 .cases hi with
  |none=>simp[sliceBounds,HT.sIx]
  |some i=>
   simp only[sliceBounds,HT.sIx,Option.getD_none,show (1:Int) > 0 by decide,if_true];by_cases h:i < 0
   .simp only[h,if_true] <;> omega
   .simp only[h,if_false] <;> omega
theorem Vk(its:AB)(lo hi:Option Int):slicePick its.toArray lo hi none=((its.drop (HT.sIx its.length 0 lo)).take (HT.sIx its.length its.length hi - HT.sIx its.length 0 lo)).toArray:=by obtain ⟨h1,h2,h3⟩:=Cy lo hi its.toArray.size;unfold slicePick;rw[h1,h2,h3];simp only[sliceRange_one,pick_run,a7] <;> rfl
def Vl(K:PF):V->Option Int->Option Int->Hp->VK->Prop:=λx lo hi H Q=>∃a xs,x=.ref a/\SqL K H a xs/\∀p,H p=none->Q (.ref p) (upd H p (.lst (eZ xs lo hi)))
theorem Cz:SlR X (Vl X.K):=by intro p9 s Y H x v vl vu lo hi sl Q I rx hs pl pu h;obtain ⟨a,xs,rfl,hx,q⟩:=h;cases rx;obtain ⟨its,r,ht,hz⟩:=I.list hx;have hlen:=r.length;refine ⟨"list",_,slot_list_getitem.lookup,ht.isList.typeIs,?_⟩;refine wpAny_getItem_list_slice ht.isList hs pl pu .none (by simp) ?_ (by rw[a7] <;> omega);rw[Vk,<-hlen];refine ⟨.ref (~~~s),_,I.laid (t':=s.toks) (o:=.lst (eZ xs lo hi)) (λb ob q=>ag _ q) (am _) ?_,rfl,q _ (I.hok.fresh (am _))⟩;exact ⟨bS (Cr xs lo hi) hz,_,0,(r.drop (HT.sIx xs.length 0 lo)).take (HT.sIx xs.length xs.length hi - HT.sIx xs.length 0 lo),a8 _ rfl⟩
theorem CG:bQ X (.builtin "len") (λxs H Q=>∃p ys,xs=[.ref p]/\(SqL X.K H p ys\/SqT X.K H p ys)/\Q (.int ys.length) H):=by
 intro p9 s Y H xs us Q I r h;obtain ⟨p,ys,rfl,hq,q⟩:=h;obtain ⟨u,rfl,rx⟩:=vals1 r;cases rx;have hn:=iW;rcases hq with hq |hq
 .obtain ⟨its,r',pl,hz⟩:=I.list hq;have hlen:=r'.length;exact Calls.call_len_list pl.isList (by simp only[a7] <;> omega) ⟨.int ys.length,H,I.tok _,⟨s.toks+1,by rw[a7,hlen]⟩,q⟩
 .obtain ⟨its,r',pl,hz⟩:=I.tuple hq;have hlen:=r'.length;exact len_tuple pl (by simp only[a7] <;> omega) ⟨.int ys.length,H,I.tok _,⟨s.toks+1,by rw[a7,hlen]⟩,q⟩
theorem Vm:bQ X (.builtin "len") (λxs H Q=>∃z,xs=[.str z]/\z.length<=sizeLine/\Q (.int z.length) H):=by intro p9 s Y H xs us Q I r h;obtain ⟨z,rfl,hz,q⟩:=h;obtain ⟨u,rfl,t,rfl⟩:=vals1 r;have hn:=iW;exact len_str (!0) ⟨.int z.length,H,I.tok _,⟨_,rfl⟩,q⟩
theorem CJ:bQ X (.type "list") (λxs H Q=>∃p ys,xs=[.ref p]/\(SqL X.K H p ys\/SqT X.K H p ys)/\∀l,H l=none->Q (.ref l) (upd H l (.lst ys))):=by
 intro p9 s Y H xs us Q I r h;obtain ⟨p,ys,rfl,hq,q⟩:=h;obtain ⟨u,rfl,rx⟩:=vals1 r;cases rx;have fin:∀(its:AB),Vals ys its->ys.length<=sizeLine->∀(h':Heap)(c':Nat),(∀b o',s.heap.get? b=some o'->h'.get? b=some o')->
   h'.get? (~~~s)=some { cls:=.type "list",dict:=none,data:=.seq its.toArray c',slots:=#[] }->EP X p9 Y Q (.ref (~~~s)) { s with heap:=h' }:=λits r' hz h' c' kp e=>
  ⟨.ref (~~~s),_,I.laid (t':=s.toks) kp (am _) (show ObjOk X.prog X.w _ h' _ (.lst ys) from ⟨hz,its,c',r',e⟩),rfl,q _ (I.hok.fresh (am _))⟩
 rcases hq with hq |hq
 .obtain ⟨its,r',pl,hz⟩:=I.list hq;have hlen:=r'.length;obtain ⟨o,ho,hc,n,hd⟩:=pl.isList;exact call_list_seq p (.inl rfl) ho hc hd (λh' c' kp e=>fin its r' hz h' c' kp e) (by simp only[a7] <;> omega)
 .obtain ⟨its,r',pl,hz⟩:=I.tuple hq;have hlen:=r'.length;obtain ⟨o,ho,hc,n,hd⟩:=pl;exact call_list_seq p (.inr rfl) ho hc hd (λh' c' kp e=>fin its r' hz h' c' kp e) (by simp only[a7] <;> omega)
theorem CN:bQ X (.type "tuple") (λxs H Q=>∃p ys,xs=[.ref p]/\((SqL X.K H p ys/\∀l,H l=none->Q (.ref l) (upd H l (.tup ys)))\/(SqT X.K H p ys/\Q (.ref p) H))):=by
 intro p9 s Y H xs us Q I r h;obtain ⟨p,ys,rfl,h⟩:=h;obtain ⟨u,rfl,rx⟩:=vals1 r;cases rx;rcases h with ⟨hq,q⟩ |⟨hq,q⟩
 .obtain ⟨its,r',pl,hz⟩:=I.list hq;have hlen:=r'.length;refine call_tuple_list pl.isList (λh' kp=>?_) (by simp only[a7] <;> omega);have I1:Inv X p9 Y H { s with heap:=h' }:=I.kept (t':=s.toks) kp;have I2:Inv X p9 Y (upd H h'.objs.size (.tup ys)) { s with heap:=h'.push { cls:=.type "tuple",data:=.seq its.toArray } }:=
   I1.laid (t':=s.toks) (λb o e=>ag _ e) (am _) (show ObjOk X.prog X.w _ _ _ (.tup ys) from ⟨hz,its,r',IsTup.new _ _⟩)
  exact ⟨.ref h'.objs.size,_,I2,rfl,q _ (I1.hok.fresh (am _))⟩
 .obtain ⟨its,r',pl,hz⟩:=I.tuple hq;exact call_tuple_same pl ⟨.ref p,H,I,rfl,q⟩
def tyV(K:PF)(T:AL)(x:V)(H:Hp):Prop:=match x with
 |.str _=>T="str"
 |.int _=>T="int"
 |.ref p=>(T="list"/\∃xs,SqL K H p xs)\/(T="tuple"/\∃o,K.lookup p=some o/\o.cls=.type "tuple"/\o.dict=none)\/
   (T="dict"/\((∃kvs,H p=some (.dK kvs))\/∃kvs,H p=some (.dT kvs)))\/(T="set"/\∃S n,H p=some (.set S n))
 |_=>False
theorem Vn{p9:AC}{Y:St}{H:Hp}{s:AI}{T:AL}{x:V}{v:AN}(I:Inv X p9 Y H s)(r:RelV x v)(ty:tyV X.K T x H):
  s.TypeIs v T/\∀a,v=.ref a->∃ob,s.heap.get? a=some ob/\ob.dict=none:=by
 cases x with
 |str z=>
  obtain ⟨t,rfl⟩:=r;cases (show T="str" from ty);exact ⟨typeIs_str s z t,λ_ e=>nomatch e⟩
 |int i=>
  obtain ⟨t,rfl⟩:=r;cases (show T="int" from ty);exact ⟨typeIs_int s i t,λ_ e=>nomatch e⟩
 |ref p=>
  cases r;rcases ty with ⟨rfl,xs,hq⟩ |⟨rfl,o,hk,hc,hd⟩ |⟨rfl,hk⟩ |⟨rfl,S,n,hk⟩
  .obtain ⟨its,_,pl,_⟩:=I.list hq;refine ⟨pl.isList.typeIs,λa e=>?_⟩;cases e;obtain ⟨o,n,e,c,hd,_⟩:=pl;exact ⟨o,e,hd⟩
  .refine ⟨⟨o,I.kIn p o hk,hc⟩,λa e=>?_⟩;cases e;exact ⟨o,I.kIn _ o hk,hd⟩
  .have z:∃o,s.heap.get? p=some o/\o.ExactDict:=by
    rcases hk with ⟨kvs,hk⟩ |⟨kvs,hk⟩
    .obtain ⟨_,_,_,_,o,_,_,e,ex,_⟩:=I.hok p _ hk;exact ⟨o,e,ex⟩
    .obtain ⟨_,_,_,_,o,_,_,e,ex,_⟩:=I.hok p _ hk;exact ⟨o,e,ex⟩
   obtain ⟨o,e,ex⟩:=z;refine ⟨⟨o,e,ex.1⟩,λa e2=>?_⟩;cases e2;exact ⟨o,e,ex.2.1⟩
  .obtain ⟨o,_,_,_,e,ex,_⟩:=I.hok p _ hk;refine ⟨⟨o,e,ex.1⟩,λa e2=>?_⟩;cases e2;exact ⟨o,e,ex.2.1⟩
 |_=>exact False.elim ty
def tBM(K:PF)(T:AL)(r:V->AR->Hp->VK->Prop)(to:TE)(t:TA):TE:=λY H Q=>to Y H λx H1=>tyV K T x H1/\t Y H1 λxs H2=>r x xs H2 Q
variable {o e:AO} {es:AE} {to:TE} {t:TA} {name:Str} {apos cpos:Pos} {T id:AL} {r:V->AR->Hp->VK->Prop}
theorem vh (pa:PlainAttrs T) (slot:Slot T name id) (hty:typeOf (.builtin id)=pure (.type "method_descriptor")) (hm:MtR X id r) (ho:PE X o to) (ha:PA X (e::es) t)
  (hbase:attributeBase o name X.env (eval o X.env)=eval o X.env:=by rfl)
  (hfew:((backTo cpos (starEach (e::es) X.env)).all (λx=>!x.1)&&(backToKw cpos (keywordEach [] X.env)).all (λx=>x.1.isSome)
  &&decide ((e::es).length+([]:List Keyword).length+(if ([]:List Keyword).isEmpty then 0 else 1) < 30))=true:=by rfl)
  (hline:(apos.endLine==cpos.line)=true:=by rfl) (hs:starEach (e::es) X.env=(false,eval e X.env)::starEach es X.env:=by rfl) (hplain:(backTo cpos (starEach es X.env)).any (·.1)=false:=by rfl):
  PE X (.Call (.Attribute o name apos) (e::es) [] cpos) (tBM X.K T r to t):=by
 intro p9 s Y H Q I h;refine wpAny_Call_method_late hbase hfew hline rfl (thn (ho p9 s Y H _ I h) λv s1 ⟨x,H1,I1,r1,ty,q1⟩=>?_);obtain ⟨h1,h2⟩:=Vn I1 r1 ty;refine ⟨T,id,pa,slot,hty,h1,h2,?_⟩;have hA:=ha cpos p9 s1 Y H1 _ I1 q1;rw[hs]at hA ⊢;refine Calls.callWith_builtin (by show (false||(backTo cpos (starEach es X.env)).any (·.1))=false;rw[hplain] <;> rfl) (Calls.evalArgs_plain ?_);exact thn hA λus s2 ⟨vs,H2,I2,r2,q2⟩=>hm p9 s2 Y H2 x vs v us Q I2 r1 r2 q2
end
def MtM(X:Cx)(id:AL)(r:V->AR->Hp->VK->Prop):Prop:=
 ∀(p9:AC)(s:AI)(Y:St)(H:Hp)(x:V)(xs:AR)(v:AN)(us:AB)(Q:VK),Inv X p9 Y H s->RelV x v->Vals xs us->r x xs H Q->
  ↥X (call (.builtin id) (v::us)) (EP X p9 Y Q) X.xe s
def Vals.one:∀{x:V}{us:AB},Vals [x] us->∃u,us=[u]/\RelV x u
 |_,_,.cons r .nil=>⟨_,rfl,r⟩
section
variable {X:Cx} {p9:AC} {σ:St} {H:Hp} {s:AI} {l b:AQ} {xs ys zs:AR}
theorem Inv.lset{its its':AB}{n:Nat}{f:Array AN->Array AN}{t':Nat}(I:Inv X p9 σ H s)(hH:H l=some (.lst xs))
  (e:s.heap.get? l=some { cls:=.type "list",data:=.seq its.toArray n }) (hf:f its.toArray=its'.toArray) (hv:Vals ys its') (hz:ys.length<=sizeLine):
  Inv X p9 σ (upd H l (.lst ys)) { s with heap:=s.heap.update l (Obj.mapSeq f),toks:=t' }:=by
 have q:=PySem.IsL.update e f;rw[hf]at q;refine I.write (x:=l) (e:=l) (by rw[hH];exact trivial) (.inl rfl) (λb' u hb hu=>(Heap.get?_update_other s.heap (Obj.mapSeq f) (Ne.symm hb)).trans hu) ⟨_,q⟩ ?_;exact ⟨hz,its',_,hv,q⟩
theorem Inv.lnew{its:AB}{t':Nat}(I:Inv X p9 σ H s)(hv:Vals ys its)(hz:ys.length<=sizeLine):
  Inv X p9 σ (upd H (~~~s) (.lst ys)) { s with heap:=s.heap.push { cls:=.type "list",data:=.seq its.toArray },toks:=t' }:=
 I.laid (λ_ _ q=>ag _ q) (am _) ⟨hz,its,0,hv,a8 _ rfl⟩
theorem Inv.fresh(I:Inv X p9 σ H s):H (~~~s)=none:=I.hok.fresh (am _)
theorem Inv.lstM (I:Inv X p9 σ H s) (hH:H l=some (.lst xs)):xs.length<=sizeLine/\∃(its:AB) (n:Nat),Vals xs its/\xs.length=its.length/\s.heap.get? l=some { cls:=.type "list",data:=.seq its.toArray n }:=by obtain ⟨z,its,n,r,e⟩:=I.hok l _ hH;exact ⟨z,its,n,r,r.length,e⟩
theorem Vo{n:Nat}(h:n<=sizeLine):Builtin.List.listTooLong n=false:=by unfold Builtin.List.listTooLong;exact cy (!0)
end
section
variable {X:Cx}
def Vp:V->AR->Hp->VK->Prop:=λx vs H Q=>∃l xs y,x=.ref l/\vs=[y]/\H l=some (.lst xs)/\xs.length < sizeLine/\Q .non (upd H l (.lst (xs++[y])))
theorem Vq:MtM X "list.append" Vp:=by intro p9 s Y H x vs v us Q I rx rv h;obtain ⟨l,xs,y,rfl,rfl,hH,hz,q⟩:=h;cases rx;obtain ⟨u,rfl,ru⟩:=rv.one;obtain ⟨z,its,n,r,hl,e⟩:=I.lstM hH;refine call_meets F.slot_list_append ⟨_,e,rfl⟩ F.entry_list_append (F.args_list_append_2 _ _) (PySem.list_append l its.toArray n u (by rw[a7];omega)) ⟨e,?_⟩;refine ⟨.non,_,I.lset (its':=its++[u]) hH e (by simp) (r.append (.cons ru .nil)) ?_,rfl,q⟩;rw[ax,gN];omega
def Vr:V->AR->Hp->VK->Prop:=λx vs H Q=>∃l b xs zs,x=.ref l/\vs=[.ref b]/\H l=some (.lst xs)/\H b=some (.lst zs)/\xs.length+zs.length<=sizeLine/\Q .non (upd H l (.lst (xs++zs)))
theorem Vs:MtM X "list.extend" Vr:=by
 intro p9 s Y H x vs v us Q I rx rv h;obtain ⟨l,b,xs,zs,rfl,rfl,hH,hB,hz,q⟩:=h;cases rx;obtain ⟨u,rfl,ru⟩:=rv.one;cases ru;obtain ⟨z,its,n,r,hl,e⟩:=I.lstM hH;obtain ⟨z2,its2,n2,r2,hl2,e2⟩:=I.lstM hB;have hsz:its.toArray.size+its2.toArray.size<=sizeLine:=by rw[a7,a7];omega
 have hlong:¬(!its.toArray.isEmpty&&Builtin.List.listTooLong (its.toArray.size+its2.toArray.size))=true:=by rw[Vo hsz,ij];exact bn
 refine call_meets F.slot_list_extend ⟨_,e,rfl⟩ F.entry_list_extend (F.args_list_extend_2 _ _)
  (AutoSeq1.list_extend_list_list_0 l its.toArray n b its2.toArray n2 hlong (by rw[a7];omega) (!0)) ⟨e,e2,?_⟩
 refine ⟨.non,_,I.lset (its':=its++its2) hH e (by simp) (r.append r2) ?_,rfl,q⟩;rw[ax];omega
theorem len_rep{α:Type}(xs:List α)(k:Nat):(List.replicate k xs).flatten.length=k * xs.length:=by
 induction k with
 |zero=>simp
 |succ k ih=>rw[eM,jv,ax,ih,Nat.succ_mul,Nat.add_comm]
end
end L2
namespace Att
open PySem PySem.W PySem.Calls PyProof.Rows
def Vt{P:Params}{h:Heap}:∀(ns:List Int)(vs:AB),WellAll P h vs (ns.map WData.int)->IntsAre vs ns:=by
 intro ns;induction ns with
 |nil=>
  intro vs w;rw[List.map_nil]at w;cases w;exact .nil
 |cons n ns ih=>
  intro vs w;rw[List.map_cons]at w;cases w with
  |cons a b=>
   cases a;exact .cons _ _ (ih _ b)
def Vu{l:OpenLaw}{n:Nat}(hn:l.most=some n){P:Params}{h:Heap}{args:List WData}{vals:AB}
  (hpre:l.row.toRowW.claim.pre args=true) (hwl:WellAll P h vals args):
  ∃a vs ns,vals=[Value.ref a]/\args=[WData.list (ns.map WData.int)]/\h.get? a=some { cls:=.type "list",data:=.seq vs.toArray }/\IntsAre vs ns/\ns.length<=n:=by
 have hsh:WShape.hasAll [] args [.list .int]=true:=(pre_splitW hpre).1;have hc:l.pre.holds [] { args:=args }=true:=(pre_splitW hpre).2;obtain ⟨d,r,rfl,h1,h2⟩:=hasAllW_cons hsh;obtain rfl:=hasAllW_nil h2;obtain ⟨xs,rfl,h3⟩:=hasW_list h1;obtain ⟨ns,rfl⟩:=items_int h3;have hlen:ns.length<=n:=by
  unfold OpenLaw.pre at hc;have h4:(WTm.not (.lt (.lit (.int (n:Int))) (.len (.arg 0)))).holds [] { args:=[.list (ns.map .int)] }=true:=by have h4:=(holds_andW hc).1;rw[hn]at h4;exact h4
  have h5:=condW_of h4 (w_not (w_lt w_lit (w_len_list (w_arg rfl))));rw[List.length_map]at h5;refine Nat.le_of_not_lt λq=>?_;have q':(n:Int) < ((ns.length:Nat):Int):=by omega
  first
   | (rw[decide_eq_true q']at h5;exact absurd h5 (!1))
   | (simp at h5;omega)
 cases hwl with
 |cons w1 w2=>
  cases w2;cases w1 with
  |list ho hall=>exact ⟨_,_,ns,rfl,rfl,ho,Vt ns _ hall,hlen⟩
def Vv(l:OpenLaw)(args:List WData):l.row.toRowW.claim.post args (.bool true) args=true:=
 postW_of (r:=l.row.toRowW) (X:=(true==true))
  (show WShape.has [] (.bool true) .bool=true by first |rfl |decide |simp[WShape.has,WShape.arms,WShape.armsAll])
  (show (WTm.eq .res (.lit (.bool true))).value [] { args:=args,res:=some (.bool true),after:=args }=some (.bool (true==true)) from w_eq_bool (w_res rfl) w_lit) rfl
def attach_call{l:OpenLaw}{n:Nat}{q:AK}{loose:AD}{XP:(AH)->Heap->Prop}{YP:World->Heap->Prop}{d:DefRec}
  (hn:l.most=some n) (hdf:d.params.defaults=[])
  (call:∀(w:World)(s₀ s₁:AI)(mg mb:AH)(fa:AQ)(o:Obj)(pm cd doc:AN)(a:AQ)(vs:AB)(ns:List Int),
   Ground q loose [] XP w s₀ mg mb s₁.heap->YP w s₁.heap->
   s₁.heap.get? fa=some o->o.data=.func (docDef d.name d.params d.body d.scope pm cd doc)->s₁.heap.CodeRec cd d.name->mg d.name=some (.ref fa)->
   s₁.heap.get? a=some { cls:=.type "list",data:=.seq vs.toArray }->IntsAre vs ns->ns.length<=n->s₁.gens=#[]->
   codeAny (model l.prog w) callerA (.call (.ref fa) ⟨[.ref a],[]⟩) (λr s'=>r=.ok (.ret (.bool true))/\OldK s₁.heap s'.heap/\s'.os=s₁.os/\AllBare s'.gens) s₁):
  WalkO q loose XP YP l.row.toRowW d [] (λf vs=>PySem.call f vs):=by
 intro w s₀ s₁ mg mb G Y fa o pm cd doc dV kV ho hd hcd hD hmg hg args vals as hpre hlay hrd hwl hlo;obtain rfl:dV=.none:=Dflts.none hD hdf;obtain rfl:kV=.none:=Dflts.noKw hD;obtain ⟨a,vs,ns,rfl,rfl,hobj,hints,hlen⟩:=Vu hn hpre hwl;refine enter_call (codeAny_mono (call w s₀ s₁ mg mb fa o pm cd doc a vs ns G Y ho (fd_plain hd) hcd hmg hobj hints hlen hg) λr s' hq=>?_);obtain ⟨rfl,h2,h3,h4⟩:=hq;exact ⟨.inl ⟨.bool true,.bool true,[],rfl,λ_=>rfl,.bool true,Vv l _,λ_=>⟨List.Pairwise.nil,λ_ hm=>(nomatch hm)⟩⟩,h2,h3,h4⟩
end Att
namespace L2
open PySem PySem.Spec PyProof.Rows
def vm:∀{vs:AB}{ns:List Int},IntsAre vs ns->Vals (ns.map V.int) vs
 |_,_,.nil=>.nil
 |_,_,.cons n t h=>.cons ⟨t,rfl⟩ (vm h)
def Only(H:Hp):Prop:=∀b,H b=none\/∃o xs,H b=some (.frz o (.lst xs))
def Vw{P:AK}{w:World}{K:PF}{mg mb:AH}{CX:CXT}{k:Nat}{fa a:AQ}{fd:AJ}{x:Str}{sp:Sp}{s₁:AI}{vs:AB}{ns:List Int}
  (KX:K.In s₁.heap) (hns:s₁.heap.Ns mainGlobals mg) (hb:s₁.heap.Ns builtinsNs mb) (hbb:∀x:Str,x≠"__name__"->mb x=bootBuiltins x) (hlim:s₁.heap.NoLimit) (hg:s₁.gens=#[])
  (ha:s₁.heap.get? a=some { cls:=.type "list",data:=.seq vs.toArray }) (hi:IntsAre vs ns) (hl:ns.length<=sizeLine) (hr:Room k callerA)
  (F:∀base:Heap,K.In base->base.Ns mainGlobals mg->FnOk P w K mg base CX k fa fd [x] sp) (hbind:∀(s:AI)(u:AN),BindsTo s fd ⟨[u],[]⟩ [(x,u)])
  (hsp:∀H:Hp,Only H->SqL K H a (ns.map V.int)->sp [.ref a] H (λv _=>v=.bl true) λ_ _ _=>False)
  (hCX:∀H e s',CX [] H s₁ (λ_ _ _=>False) e s'->False):
  codeAny (model P w) callerA (.call (.ref fa) ⟨[.ref a],[]⟩) (λr s'=>r=.ok (.ret (.bool true))/\OldK s₁.heap s'.heap/\s'.os=s₁.os/\AllBare s'.gens) s₁:=by
 have rv:=vm hi;have lenV:=hi.length
 -- from an abstract heap in which nothing but the script may be tracked
 have core:∀H:Hp,Only H->SqL K H a (ns.map V.int)->HOk P w H s₁.heap->(∀b,H b≠none->b=a)->(H a≠none->K.lookup a=none)->
   codeAny (model P w) callerA (.call (.ref fa) ⟨[.ref a],[]⟩) (λr s'=>r=.ok (.ret (.bool true))/\OldK s₁.heap s'.heap/\s'.os=s₁.os/\AllBare s'.gens) s₁:=by
  intro H hO hS hok hA hK;have base_of:∀{b:AQ}{o:Obj},s₁.heap.get? b=some o->H b=none->(gF s₁.heap H).get? b=some o:=λe n=>RB e n;have noA:∀{b:AQ}{o:Obj}{es:Array DictEntry}{ep:Nat},s₁.heap.get? b=some o->o.data=.dict es ep->H b=none:=λ{b o es ep} e d=>by
   cases q:H b with
   |none=>rfl
   |some u=>
    have e':b=a:=hA b (by rw[q];simp);subst e';rw[ha]at e;cases e;have d':Data.seq vs.toArray _=Data.dict es ep:=d;cases d'
  have nsK:∀{b:AQ}{m:AH},s₁.heap.Ns b m->(gF s₁.heap H).Ns b m:=λ{b m} ⟨o,es,ep,e,d,r⟩=>⟨o,es,ep,base_of e (noA e d),d,r⟩;have hKb:K.In (gF s₁.heap H):=λb o e=>base_of (KX b o e) (by
   cases q:H b with
   |none=>rfl
   |some u=>
    have e':b=a:=hA b (by rw[q];simp);subst e';rw[hK (by rw[q];simp)]at e;cases e)
  have hM:Mod K mg (gF s₁.heap H):=⟨hKb,nsK hns,⟨mb,nsK hb,hbb⟩,let ⟨mc,h1,h2⟩:=hlim;⟨mc,nsK h1,h2⟩⟩;have e0:Env0 P w K mg (gF s₁.heap H) callerA [] s₁ H:=⟨rfl,hM,λb o e=>RC e,Nat.le_of_eq (Rz _ _),trivial,λb hb=>absurd (show b∈([]:List AQ) from hb) (by simp),hok,.of_eq hg⟩;refine codeAny_mono ((F _ hKb (nsK hns)).run callerA [] s₁ H ⟨[.ref a],[]⟩ [.ref a] [.ref a] _ _ hr e0 (hbind s₁ (.ref a)) (.cons rfl .nil) (hsp H hO hS)) λr s' h=>?_;cases r with
  |error e=>exact (hCX H e s' h).elim
  |ok fl=>
   cases fl with
   |next=>exact False.elim h
   |brk=>exact False.elim h
   |cont=>exact False.elim h
   |ret u=>
    obtain ⟨v,H',os,bare,un,hok',r',q⟩:=h;have q':v=.bl true:=q;subst q';obtain rfl:u=Value.bool true:=r';refine ⟨rfl,OldK.of_keep λb o e=>?_,os,bare⟩;cases q:H b with
    |none=>exact un.keep b o e q (by intro z;exact absurd (show b∈([]:List AQ) from z) (by simp)) (by simp)
    |some u=>
     rcases hO b with z |⟨ob,xs,z⟩
     .rw[q]at z;cases z
     .have z2:=un.frzs b ob _ z;obtain ⟨e1,_⟩:=hok b _ z;obtain ⟨e2,_⟩:=hok' b _ z2;rw[e]at e1;cases e1;exact e2
 cases hk:K.lookup a with
 |some o=>
  -- the script is one of the module's own objects
  have e:=KX a o hk;rw[ha]at e;cases e;refine core (λ_=>none) (λ_=>.inl rfl) (.inr ⟨_,vs.toArray,_,hk,rfl,rfl,rfl,by rw[a7,lenV];exact hl,!!rv⟩) (λb u z=>by have z':(none:Option HO)=some u:=z;cases z') (λb z=>absurd rfl z) λz=>absurd rfl z
 |none=>
  refine core (λb=>if b=a then some (.frz { cls:=.type "list",data:=.seq vs.toArray } (.lst (ns.map V.int))) else none) (λb=>?_) (.inl (.inr ⟨{ cls:=.type "list",data:=.seq vs.toArray },if_pos rfl⟩)) (λb u z=>?_) (λb z=>?_) λ_=>hk
  .by_cases hb:b=a
   .exact .inr ⟨_,_,if_pos hb⟩
   .exact .inl (if_neg hb)
  .by_cases hb:b=a
   .have z':=(if_pos hb).symm.trans z;cases z';subst hb;exact ⟨ha,by rw[af];exact hl,vs,_,rv,ha⟩
   .have z':=(if_neg hb).symm.trans z;cases z'
  .by_cases hb:b=a
   .exact hb
   .exact absurd (if_neg hb) z
def Vx{l:PySem.W.OpenLaw}{n k:Nat}{q:AK}{loose:AD}{XP:(AH)->Heap->Prop}{YP:World->Heap->Prop}{d:DefRec}{K:Params->PF}{CX:World->CXT}{sp:World->Sp}{x:Str}
  (hn:l.most=some n) (hn2:n<=sizeLine) (hdf:d.params.defaults=[]) (hr:Room k callerA)
  (hY:∀(w:World)(h:Heap),YP w h->(K w.params).In h)
  (F:∀(w:World)(mg:AH)(fa:AQ)(h:Heap),(K w.params).In h->h.Ns mainGlobals mg->mg d.name=some (.ref fa)->
   ∃fd:AJ,(∀(s:AI)(u:AN),BindsTo s fd ⟨[u],[]⟩ [(x,u)])/\
    ∀base:Heap,(K w.params).In base->base.Ns mainGlobals mg->FnOk l.prog w (K w.params) mg base (CX w) k fa fd [x] (sp w))
  (hsp:∀(w:World)(H:Hp)(a:AQ)(ns:List Int),ns.length<=n->Only H->SqL (K w.params) H a (ns.map V.int)->sp w [.ref a] H (λv _=>v=.bl true) λ_ _ _=>False)
  (hCX:∀(w:World)(H:Hp)(s:AI)(e:AN)(s':AI),CX w [] H s (λ_ _ _=>False) e s'->False):
  PySem.W.WalkO q loose XP YP l.row.toRowW d [] (λf vs=>PySem.call f vs):=by
 refine Att.attach_call hn hdf λw s₀ s₁ mg mb fa o pm cd doc a vs ns G Y ho hd hcd hmg hobj hints hlen hg=>?_;have KX:=hY w _ Y;obtain ⟨fd,hb,hF⟩:=F w mg fa _ KX G.T.g hmg;exact Vw KX G.T.g G.T.b G.T.builtins G.T.nolimit hg hobj hints (bS hlen hn2) hr hF hb (λH hO hS=>hsp w H a ns hlen hO hS) λH e s'=>hCX w H s₁ e s'
def kY(s:Stmt):Arguments:=match s with
 |.FunctionDef _ a _ _ _ _ _ _ _ _=>a
 |_=>{ posonlyargs:=[],args:=[],vararg:=none,kwonlyargs:=[],kw_defaults:=[],kwarg:=none,defaults:=[] }
def aD(s:Stmt):AF:=match s with
 |.FunctionDef _ _ b _ _ _ _ _ _ _=>b
 |_=>[]
def au(s:Stmt):Scope:=match s with
 |.FunctionDef _ _ _ _ _ _ sc _ _ _=>sc
 |_=>{ kind:=.function,names:=[],isGenerator:=false,isCoroutine:=false }
abbrev CX0:CXT:=λ_ _ _ _ _ _=>False
structure Fun(K:PF)(x qual:Str)(st:Stmt)(f:AQ)(fd:AJ):Prop where
 ex:∃(oc:AN)(od:Option AQ)(kV doc pm:AN)(an:Option AQ)(cdv ct:AN)(osl:Array (Option AN)),
  fd=PySem.W.fnOf x qual (kY st) (aD st) (au st) .none kV doc pm an cdv ct/\K.lookup f=some ⟨oc,od,.func fd,osl⟩/\PySem.W.codeIn K cdv qual=true
 kp:PySem.W.keepIn K (.ref f)=true
section
variable {P:AK} {w:World} {K:PF} {mg:AH} {base:Heap}
theorem Fun.binds{x qual:Str}{st:Stmt}{f:AQ}{fd:AJ}{ps:AD}(F:Fun K x qual st f fd)
  (h:∀(kV doc pm:AN)(an:Option AQ)(cdv ct:AN)(us:AB),us.length=ps.length->bindArgs (PySem.W.fnOf x qual (kY st) (aD st) (au st) .none kV doc pm an cdv ct) ⟨us,[]⟩=pure (ps.zip us)):Binds K fd ps []:=by
 obtain ⟨oc,od,kV,doc,pm,an,cdv,ct,osl,rfl,lk,hcd⟩:=F.ex;exact .all (h kV doc pm an cdv ct)
theorem Vy{x qual:Str}{st:Stmt}{f:AQ}{oc:AN}{od an:Option AQ}{osl:Array (Option AN)}{kV doc pm cdv ct:AN}(l:K.lookup f=some ⟨oc,od,.func (PySem.W.fnOf x qual (kY st) (aD st) (au st) .none kV doc pm an cdv ct),osl⟩)
  (c:PySem.W.codeIn K cdv qual=true) (k:PySem.W.keepIn K (.ref f)=true):Fun K x qual st f (PySem.W.fnOf x qual (kY st) (aD st) (au st) .none kV doc pm an cdv ct):=⟨⟨oc,od,kV,doc,pm,an,cdv,ct,osl,rfl,l,c⟩,k⟩
end
section
variable {X:Cx}
theorem pv (i:Nat) {x:Str} {pos:Pos} (hN:X.N[i]?=some x:=by rfl) (hv:Vis X.env.scope x:=by first |exact Or.inl rfl |exact Or.inr (Or.inl rfl) |exact Or.inr (Or.inr rfl)) (hd:(x==("__debug__":Str))=false:=by decide)
  (hcd:(x==("__classdict__":Str))=false:=by decide):PE X (.Name x pos) (Bt i):=Bu hN hv hd hcd
end
end L2
set_option maxHeartbeats 4000000
namespace L2
open PySem PySem.Spec PyProof.Rows
section
variable {X:Cx} {p9:AC} {σ:St} {H:Hp} {s:AI} {h':Heap}
theorem Inv.turnedL{t':Nat}{ch:List AQ}(I:Inv X p9 σ H s)(hf:∀b∈ch,eY X p9 H b)(k:∀b o,b∉ch->s.heap.get? b=some o->h'.get? b=some o):
  Inv X p9 σ H { s with heap:=h',toks:=t' }:=by
 have nit:∀b u,H b=some u->b∉ch:=λb u e z=>by
  have q:=(hf b z).1;rw[q]at e;cases e
 refine I.step (g':=s.gens) (d':=s.drawn) (ch:=ch) (λb hb=>?_) (λb o _ _ hc e _=>k b o hc e) (λb o _ _ hc e _=>⟨o.slots,k b o hc e⟩) (λ_ _ _ _ n=>n)
  (λb o hc e=>⟨o,k b o hc e⟩) (λ_ _ e=>e) (λ_ _ _ e=>e) (λb ps e=>⟨#[],by rw[e];simp⟩) (λm hm=>?_) (λb u e=>?_) I.bare
 .obtain ⟨_,f1,_,f3,f4,f5⟩:=hf b hb;exact ⟨f3,f1,f4,f5⟩
 .obtain ⟨o,es,ep,ho,r⟩:=hm;exact ⟨o,es,ep,k _ o (λz=>(hf _ z).2.1 rfl) ho,r⟩
 .refine (I.hok b u e).stay (λc v hc q=>k c v ?_ q) (λ_ q=>q) λ_ _ q=>q;rcases hc with z |z
  .rw[z];exact nit b u e
  .exact nit c _ z
theorem Inv.track{T:AQ}{o:HO}(I:Inv X p9 σ H s)(hT:eY X p9 H T)(new:ObjOk X.prog X.w (upd H T o) s.heap T o):Inv X p9 σ (upd H T o) s:=by
 have hn:=hT.1;have hok:HOk X.prog X.w (upd H T o) s.heap:=λb u e=>by
  by_cases hb:b=T
  .subst hb;rw[fX]at e;cases e;exact new
  .rw[aQ hb]at e;exact (I.hok b u e).stay (λc v _ q=>q) (λc q=>by rw[aQ (bY q hn)];exact q) λc xs q=>by rw[aQ (bY q hn)];exact q
 obtain ⟨hp,g,d,tk,os⟩:=s;refine I.step (h':=hp) (g':=g) (d':=d) (t':=tk) (ch:=[T]) (λb hb=>?_) (λb o _ _ _ e _=>e) (λb o _ _ _ e _=>⟨o.slots,e⟩) (λb u hc _ n=>?_)
  (λb o _ e=>⟨o,e⟩) (λb xs e=>by rw[aQ (bY e hn)];exact e) (λb u v e=>by rw[aQ (bY e hn)];exact e) (λb ps e=>⟨#[],by rw[aQ (bY e hn),e];simp⟩) (λm hm=>hm) hok I.bare
 .have e:b=T:=by simpa using hb
  subst e;obtain ⟨_,f1,_,f3,f4,f5⟩:=hT;exact ⟨f3,f1,f4,f5⟩
 .rw[aQ (!!hc)];exact n
end
def Its(x:Str):It:=⟨λi _=>i < x.cps.size,λi H v H'=>H'=H/\∃c,x.cps[i]?=some c/\v=.str ⟨#[c]⟩,λi _=>i=x.cps.size⟩
def CP{prog:AK}{w:World}{A:AM}(hh:A.handled=none)(I:AQ)(x:Str)(t:Tok):
  Walks prog w A I [I] [I] x.cps.size (SignAt x) (λi h=>h.IsStrIter I (strIterType x) x t i):=by
 unfold strIterType;split
 .exact Walks.strAscii hh I x t
 .exact Walks.strWide hh I x t
def vo{P:AK}{w:World}{K:PF}{tg:AO}(it:AQ)(x:Str)(t:Tok):Turn P w K tg (Its x) [it] it (λi h=>h.IsStrIter it (strIterType x) x t i) where
 mem:=by simp
 obj:=λi h st b hb=>by
  have e:b=it:=by simpa using hb
  subst e;obtain ⟨o,e,c,d⟩:=st;exact ⟨o,e,λv z=>by rw[d]at z;cases z⟩
 keep:=λi h h' st k=>let ⟨o,ho,r⟩:=st;⟨o,k it (by simp) o ho,r⟩
 item:=by intro X hP hw hK hc i p9 s Y H E I hf st hg;subst hP hw hK;obtain ⟨f0,f1,f2,f3,f4,f5⟩:=hf it (by simp);have W:=CP (prog:=X.prog) (w:=X.w) (I.ok.hd hc) it x t;refine W.item i s _ _ hg st λv h' tk hv st' kk=>?_;obtain ⟨c,u,e,rfl⟩:=hv;have I1:Inv X p9 Y H { s with heap:=h',toks:=tk }:=I.turned (λb o hb e=>kk b o (!!hb) e) f0 f1 f3 f4 f5;obtain ⟨o,eo,cc,d⟩:=id st';exact ⟨_,rfl,kI (s:={ s with heap:=h',toks:=tk }) (n:=strIterType x) eo cc d (by unfold strIterType;split <;> decide) ⟨.str ⟨#[c]⟩,H,I1,⟨u,rfl⟩,⟨rfl,c,e,rfl⟩,st',λb hb=>(hf b hb).1⟩⟩
 done:=by intro X hP hw hK hc i p9 s Y H E I hf st hg;subst hP hw hK;obtain ⟨f0,f1,f2,f3,f4,f5⟩:=hf it (by simp);have W:=CP (prog:=X.prog) (w:=X.w) (I.ok.hd hc) it x t;have hg':i=x.cps.size:=hg;subst hg';exact W.done s _ _ st λh' tk kk=>⟨rfl,I.turned (λb o hb e=>kk b o (!!hb) e) f0 f1 f3 f4 f5⟩
 self:=λA i s Q E st h=>by
  unfold strIterType at st;split at st
  .exact wpAny_pyIter_striter_ascii st h
  .exact wpAny_pyIter_striter_wide st h
def cV(env:Env):List (Str×NameKind)->List (Str×AQ)->List (Str×AQ)
 |[],cs=>cs
 | (n,k)::r,cs=>cV env r (if (k==.free)=true then (match env.cells.lookup n with |some c=>(n,c)::cs |none=>cs) else cs)
def CQ{env:Env}:∀{l:List (Str×NameKind)}{cs:List (Str×AQ)},(∀x c,cs.lookup x=some c->env.cells.lookup x=some c)->∀x c,(cV env l cs).lookup x=some c->env.cells.lookup x=some c
 |[],_,h,x,c,e=>h x c e
 | (n,k)::r,cs,h,x,c,e=>by
  refine CQ (l:=r) (cs:=_) ?_ x c e;intro y d q;by_cases hk:(k==NameKind.free)=true
  .rw[if_pos hk]at q;cases hn:env.cells.lookup n with
   |none=>rw[hn]at q;exact h y d q
   |some c'=>
    rw[hn]at q;simp only[List.lookup_cons]at q;cases hy:y==n with
    |true=>
     rw[hy]at q;have e1:y=n:=eq_of_beq hy;rw[e1,hn];exact q
    |false=>rw[hy]at q;exact h y d q
  .rw[if_neg hk]at q;exact h y d q
def CW{env:Env}{x:Str}:∀{l:List (Str×NameKind)}{cs:List (Str×AQ)},(cs.lookup x).isSome=true->((cV env l cs).lookup x).isSome=true
 |[],_,h=>h
 | (n,k)::r,cs,h=>by
  refine CW (l:=r) (cs:=_) ?_;by_cases hk:(k==NameKind.free)=true
  .rw[if_pos hk];cases hn:env.cells.lookup n with
   |none=>exact h
   |some c'=>
    simp only[List.lookup_cons];cases hy:x==n with
    |true=>rfl
    |false=>exact h
  .rw[if_neg hk];exact h
def CZ{env:Env}{x:Str}(hx:(env.cells.lookup x).isSome=true):∀{l:List (Str×NameKind)}{cs:List (Str×AQ)},(x,NameKind.free)∈l->((cV env l cs).lookup x).isSome=true
 | (n,k)::r,cs,h=>by
  rcases bg.mp h with e |h
  .cases e;refine CW (l:=r) (cs:=_) ?_;rw[if_pos (show (NameKind.free==NameKind.free)=true by decide)];obtain ⟨c,hc⟩:=dv.mp hx;rw[hc];simp
  .exact CZ hx (l:=r) h
def Dc{scope:Scope}{env:Env}(h:∀y∈scope.names,y.2=NameKind.free->(env.cells.lookup y.1).isSome=true):closureFor scope env=pure (cV env scope.names []):=by
 simp only[closureFor];generalize ([]:List (Str×AQ))=cs;generalize scope.names=l at h;induction l generalizing cs with
 |nil=>rfl
 |cons y r ih=>
  obtain ⟨n,k⟩:=y;have ih':=λcs=>ih cs λy hy=>h y (bp _ hy);rw[List.forIn_cons];by_cases hk:(k==NameKind.free)=true
  .have hk':k=NameKind.free:=eq_of_beq hk;obtain ⟨c,hc⟩:=dv.mp (h (n,k) aI hk');have e1:cV env ((n,k)::r) cs=cV env r ((n,c)::cs):=by
    rw[cV,if_pos hk];show cV env r (match env.cells.lookup n with |some c=>(n,c)::cs |none=>cs)=_;have hc':env.cells.lookup n=some c:=hc;rw[hc']
   have e2:cellOf env n=pure c:=by unfold cellOf;have hc':env.cells.lookup n=some c:=hc;rw[hc']
   rw[e1,<-ih' ((n,c)::cs)];simp only[hk,if_true,e2];rfl
  .have e1:cV env ((n,k)::r) cs=cV env r cs:=by rw[cV,if_neg hk]
   rw[e1,<-ih' cs];simp only[hk,if_false];rfl
def vp{env:Env}{x:Str}:∀{names:List (Str×NameKind)},
  (names.map λ(n,k)=>if (k==NameKind.free&&env.scope.kind==.function&&env.kindOf n==some .cell) then (n,NameKind.cell) else (n,k)).lookup x=
   (names.lookup x).map λk=>if (k==NameKind.free&&env.scope.kind==.function&&env.kindOf x==some .cell)=true then NameKind.cell else k
 |[]=>rfl
 | (n,k)::r=>by
  have ih:=@vp env x r;rw[cS];have hh:∀(c:Prop)[Decidable c],(if c then (n,NameKind.cell) else (n,k))=(n,if c then NameKind.cell else k):=λc _=>by split <;> rfl
  show List.lookup x ((if (k==NameKind.free&&env.scope.kind==.function&&env.kindOf n==some .cell)=true then (n,NameKind.cell) else (n,k))::_)=_;rw[hh];simp only[List.lookup_cons];cases hx:x==n with
  |true=>
   have e1:x=n:=eq_of_beq hx;subst e1;rfl
  |false=>exact ih
abbrev Cx.comp(X:Cx)(N':AD)(scope:Scope)(cl:List (Str×AQ))(C:AQ)(s₁:AI)(H₁:Hp)(fp:List AQ)(pn:AC):Cx where
 prog:=X.prog
 w:=X.w
 K:=X.K
 mg:=X.mg
 base:=X.base
 A:=X.A
 N:=N'
 s₀:=s₁
 H₀:=H₁
 env:=compEnvC scope cl C X.env
 outer:=X.stack
 stack:=X.stack
 ex:=fp
 fn:=λ_=>false
 calm:=X.calm
 pn:=pn
 xe:=λ_ _=>False
def PIf(X:Cx)(ifs:AE)(t:TT):Prop:=
 ∀(p9:AC)(s:AI)(Y:St)(H:Hp)(Q:Bool->Hp->Prop),Inv X p9 Y H s->t Y H Q->
  ↥X (forIn ifs true λc r=>if r=true then do let ok <-isTrue c X.env (eval c X.env);pure (ForInStep.yield ok) else pure (ForInStep.yield r)) (TP X p9 Y Q) X.xe s
def Vz:TT:=λ_ H Q=>Q true H
def VB{X:Cx}:PIf X [] Vz:=λ_ _ _ H _ I h=>wpAny_tests_nil ⟨H,I,h⟩
def VD{X:Cx}{c:AO}{t:TT}(h:PT X c t):PIf X [c] t:=λp9 s Y H Q I q=>wpAny_tests_one (h p9 s Y H Q I q)
def d7(cap:List (Option Nat))(Y:St):St:=cap.map λo=>match o with |none=>none |some j=>(Y[j]?).join
def Caps(X:Cx)(scope:Scope):AD->List (Option Nat)->Prop
 |[],[]=>True
 |_::N',none::cap=>Caps X scope N' cap
 |x::N',some j::cap=>(X.N[j]?=some x/\scope.names.lookup x=some NameKind.free)/\Caps X scope N' cap
 |_,_=>False
def Caps.len{X:Cx}{scope:Scope}:∀{N':AD}{cap:List (Option Nat)},Caps X scope N' cap->cap.length=N'.length
 |[],[],_=>rfl
 |_::N',none::cap,h=>by
  have:=Caps.len (N':=N') (cap:=cap) h;simp[this]
 |_::N',some _::cap,h=>by
  have:=Caps.len (N':=N') (cap:=cap) h.2;simp[this]
 |[],_::_,h=>False.elim h
 |_::_,[],h=>False.elim h
def Caps.at{X:Cx}{scope:Scope}:∀{N':AD}{cap:List (Option Nat)}{i:Nat}{x:Str}{v:V}{Y:St},Caps X scope N' cap->N'[i]?=some x->(d7 cap Y)[i]?=some (some v)->
  ∃j:Nat,X.N[j]?=some x/\scope.names.lookup x=some NameKind.free/\Y[j]?=some (some v)
 |[],[],i,x,v,Y,_,e,_=>by simp at e
 |y::N',none::cap,0,x,v,Y,h,e,q=>by simp[d7]at q
 |y::N',some j::cap,0,x,v,Y,h,e,q=>by
  have e1:y=x:=by simpa using e
  subst e1;have q1:(Y[j]?).join=some v:=by simpa [d7] using q
  refine ⟨j,h.1.1,h.1.2,?_⟩;cases z:Y[j]? with
  |none=>rw[z]at q1;cases q1
  |some o=>rw[z]at q1;exact fE some q1
 |y::N',none::cap,i+1,x,v,Y,h,e,q=>Caps.at (N':=N') (cap:=cap) (i:=i) h (!!e) (by simpa [d7] using q)
 |y::N',some _::cap,i+1,x,v,Y,h,e,q=>Caps.at (N':=N') (cap:=cap) (i:=i) h.2 (!!e) (by simpa [d7] using q)
 |[],_::_,_,_,_,_,h,_,_=>False.elim h
 |_::_,[],_,_,_,_,h,_,_=>False.elim h
abbrev tx(l:AA):Str:=⟨l.toArray⟩
def cI(l:AA):(tx l).length=l.length:=by simp[Str.length]
def qX(a b:AA):tx a++tx b=tx (a++b):=by show (⟨a.toArray++b.toArray⟩:Str)=⟨(a++b).toArray⟩;simp
def Dd{a b:AA}(h:tx a=tx b):a=b:=by have:=fE (λx:Str=>x.cps.toList) h;simpa using this
def qY(x:Str):x=tx x.cps.toList:=by cases x;simp
section
variable {X:Cx}
theorem De:∀{ys:AD}{us:AB},Vals (ys.map V.str) us->StrsAre us ys
 |[],us,r=>by
  rw[List.map_nil]at r;cases r;exact .nil
 |y::ys,us,r=>by
  rw[cS]at r;cases r with
  |cons r1 r2=>
   obtain ⟨t,e⟩:=r1;subst e;exact .cons y t (De r2)
def rJoin(K:PF):V->AR->Hp->VK->Prop:=λx vs H Q=>∃z p ys,x=.str z/\vs=[.ref p]/\SqL K H p (ys.map V.str)/\(ys.map (·.length)).sum+ys.length * z.length<=16777216/\Q (.str (Str.join z ys)) H
theorem VF:MtR X "str.join" (rJoin X.K):=by intro p9 s Y H x xs v us Q I rx rs h;obtain ⟨z,p,ys,rfl,rfl,hq,hb,q⟩:=h;obtain ⟨t,rfl⟩:=rx;obtain ⟨u,rfl,ru⟩:=vals1 rs;cases ru;obtain ⟨its,rv,pl,hz⟩:=I.list hq;refine join_list pl.isList (by simpa using De rv) hb λt' k=>⟨.str _,H,I.tok _,⟨_,rfl⟩,?_⟩;have e:Txt.join z ys=Str.join z ys:=StrLaws.glued_eq_join z ys;rw[e];exact q
def VG(K:PF):AR->Hp->VK->Prop:=λxs H Q=>∃x n t b,xs=[x,.ty n]/\TyOf K H x t/\PySem.W.kitOne K t (.type n)=some b/\Q (.bl b) H
theorem VH:bQ X (.builtin "isinstance") (VG X.K):=by intro p9 s Y H xs us Q I r h;obtain ⟨x,n,t,b,rfl,ty,e,q⟩:=h;obtain ⟨u,w',rfl,rx,ry⟩:=vals2 r;cases ry;exact Uq I rx ty e λtk=>⟨.bl b,H,I.tok _,rfl,q⟩
theorem VJ:bootBuiltins "bool"=some (.type "bool"):=by ac_rfl
theorem Df:bootBuiltins "int"=some (.type "int"):=by ac_rfl
theorem Dg:bootBuiltins "str"=some (.type "str"):=by ac_rfl
theorem Dh:bootBuiltins "list"=some (.type "list"):=by ac_rfl
theorem VL:bootBuiltins "isinstance"=some (.builtin "isinstance"):=by ac_rfl
theorem VM {x:Str} {T:AL} {pos:Pos} (hg:Gl X x) (hm:X.mg x=none) (hv:bootBuiltins x=some (.type T)) (hn:x≠"__name__":=by decide) (hd:(x==("__debug__":Str))=false:=by decide):PE X (.Name x pos) (tC (.ty T)):=
 RP hg hm hv (v:=.ty T) rfl hn hd
theorem VN:OpR X (binaryOp .Mult) (λx y H Q=>∃i n,x=.str i/\y=.int n/\MulOk i n/\Q (.str (Txt.mul i n)) H):=by intro p9 s Y H x y v u Q I rx ry h;obtain ⟨i,n,rfl,rfl,hok,q⟩:=h;obtain ⟨t,rfl⟩:=rx;obtain ⟨t',rfl⟩:=ry;exact SB.mul hok λt' k=>⟨.str _,H,I.tok _,⟨_,rfl⟩,q⟩
end
def vq(X:Cx)(st:AF)(t:TS):Prop:=
 ∀(p9:AC)(s:AI)(Y:St)(H:Hp)(D:Ends),1<=s.toks->Inv X p9 Y H s->t D Y H->↥X (execs st X.env) (SP X p9 D) X.xe s
def PE1(X:Cx)(e:AO)(t:TE):Prop:=
 ∀(p9:AC)(s:AI)(Y:St)(H:Hp)(Q:VK),1<=s.toks->Inv X p9 Y H s->t Y H Q->↥X (eval e X.env) (EP X p9 Y Q) X.xe s
def VP{X:Cx}{e:AO}{te:TE}{pos:Pos}(he:PE1 X e te):vq X [.Return (some e) pos] (Bx te):=by intro p9 s Y H D h1 I h;refine wpAny_execs_cons (wpAny_Return_some (thn (he p9 s Y H _ h1 I h) λv s1 ⟨x,H1,I1,r1,q1⟩=>?_));exact ⟨x,Y,H1,I1,r1,q1⟩
def vy{c d:Nat}:∀l:AA,c∉l->l.map (λa=>if a=c then d else a)=l
 |[],_=>rfl
 |a::r,h=>by
  have h1:a≠c:=λe=>h (by rw[e];exact aI);rw[cS,if_neg h1,vy r λz=>h (bp _ z)]
def Di(c d:Nat):∀parts:AD,(∀p∈parts,c∉p.cps.toList)->(Str.join ⟨#[c]⟩ parts).cps.toList.map (λa=>if a=c then d else a)=(Str.join ⟨#[d]⟩ parts).cps.toList
 |[],_=>rfl
 |[x],h=>by
  simp only[Str.join];exact vy _ (h x aI)
 |x::y::r,h=>by
  have ih:=Di c d (y::r) λp hp=>h p (bp _ hp);have e:∀z:Str,Str.join z (x::y::r)=x++z++Str.join z (y::r):=λz=>by simp only[Str.join]
  have ap:∀u v:Str,(u++v).cps.toList=u.cps.toList++v.cps.toList:=λu v=>by
   show (u.cps++v.cps).toList=_;simp
  rw[e,e,ap,ap,ap,ap,cb,cb,ih,vy _ (h x aI)];simp
def VR(l:AA)(c d:Nat):Txt.replace (tx l) (tx [c]) (tx [d])=tx (l.map λa=>if a=c then d else a):=by
 have e:(Txt.replace (tx l) ⟨#[c]⟩ ⟨#[d]⟩).cps.toList=l.map λa=>if a=c then d else a:=by rw[StrLaws.replace_one,<-Di c d _ (StrLaws.split_free (tx l) c),StrLaws.join_split]
 rw[qY (Txt.replace (tx l) (tx [c]) (tx [d]))];exact fE tx e
section
variable {X:Cx}
theorem VV{o:AO}{to:TE}{y z:Str}{ky kz:Nat}{py pz apos cpos:Pos}(ho:PE X o to)(hyz:(y==z)=false)
  (hbase:attributeBase o "replace" X.env (eval o X.env)=eval o X.env:=by rfl)
  (hfew:((backTo cpos (starEach [.Constant (.str y) ky py,.Constant (.str z) kz pz] X.env)).all (λx=>!x.1)&&(backToKw cpos (keywordEach [] X.env)).all (λx=>x.1.isSome)
  &&decide (([.Constant (.str y) ky py,.Constant (.str z) kz pz]:AE).length+([]:List Keyword).length+(if ([]:List Keyword).isEmpty then 0 else 1) < 30))=true:=by rfl)
  (hline:(apos.endLine==cpos.line)=true:=by rfl):
  PE1 X (.Call (.Attribute o "replace" apos) [.Constant (.str y) ky py,.Constant (.str z) kz pz] [] cpos)
   (λY H Q=>to Y H λv H1=>∃x,v=.str x/\x.length+(x.length+1) * z.length<=16777216/\Q (.str (Txt.replace x y z)) H1):=by
 intro p9 s Y H Q h1 I h;refine wpAny_Call_method_late hbase hfew hline rfl (dr (wpAny_toks_of (n:=1) h1 (ho p9 s Y H _ I h)) (λv s1 h2=>?_) (λ_ _ e=>e.2));obtain ⟨t1,v',H1,I1,r1,x,e,hb,q⟩:=h2;subst e;obtain ⟨t,rfl⟩:=r1;refine ⟨"str","str.replace",F.plainAttrs_str,F.slot_str_replace,F.type_str_replace,typeIs_str _ _ _,(λ_ e=>nomatch e),?_⟩;refine Calls.callWith_builtin (by rfl) (Calls.evalArgs_plain ?_);show wpAny _ _ (spliced [(false,eval (.Constant (.str y) ky py) X.env),(false,eval (.Constant (.str z) kz pz) X.env)]) _ _ s1;refine Calls.spliced_cons (Calls.Constant_str (Calls.spliced_cons (Calls.Constant_str (Calls.spliced_nil ?_))));exact SC.replace (by show @Ne Nat s1.toks 0;omega) (by show @Ne Nat (s1.toks+1) 0;omega) (by show @Ne Nat s1.toks (s1.toks+1);omega) hyz hb λt' k=>⟨.str _,H1,I1.tok _,⟨_,rfl⟩,q⟩
end
def V0{CX:CXT}{P:AK}{w:World}{K:PF}{mg:AH}{base:Heap}{k:Nat}{f:AQ}{name qual:Str}{params:Arguments}{body:AF}{scope:Scope}{dV kV doc pm cdv ct oc:AN}{an od:Option AQ}
  {osl:Array (Option AN)} {N:AD} {x:Str} {sp:Sp} (lk:K.lookup f=some ⟨oc,od,.func (PySem.W.fnOf name qual params body scope dV kV doc pm an cdv ct),osl⟩) (hcd:PySem.W.codeIn K cdv qual=true) (S:FnScope N [x] scope)
  (hx:scope.names.lookup x=some .local) (hnc:∀y∈scope.names,y.2≠NameKind.cell) (hcf:∀n,cellsFrom n scope.names []=[])
  (len:∀vs H Q E,sp vs H Q E->vs.length=[x].length)
  (hbody:∀(A:AM)(outer:List Env)(s:AI)(H:Hp)(vs:AR)(Q:VK)(E:XK),Room k (A.deeper (envOfC qual scope (~~~s) f cdv))->sp vs H Q E->
   ∃t,vq (dZ CX P w K mg base N qual scope f cdv A outer s H E) body t/\t { nx:=λ_ H'=>Q .non H',rt:=Q } (start N vs) H):
  FnOk P w K mg base CX (k+1) f (PySem.W.fnOf name qual params body scope dV kV doc pm an cdv ct) [x] sp:=by
 refine ⟨len,λA outer s H args us vs Q E hr e0 hb r hsp=>?_⟩;have hl:=len _ _ _ _ hsp;have KX:K.In s.heap:=e0.mod.kin.keeps λb o e=>(e0.bs b o e).1;have lim:s.heap.NoLimit:=e0.mod.nolimit.keeps λb o e=>(e0.bs b o e).1;obtain ⟨u,rfl⟩:∃u,us=[u]:=by
  have h2:=r.length;rw[hl]at h2;match us,h2 with
  |[u],_=>exact ⟨u,rfl⟩
 refine codeAny_call_function hr.depth (KX _ _ lk) rfl S.co S.gen rfl (PySem.W.codeRec_of KX hcd) (hb _ _ _ _ ?_);refine wpAny_newFunctionEnv (binds:=[x].zip [u]) hnc (λy hy=>?_) (λh' hns hsb=>?_) S.kind
 .have e:y=(x,u):=by simpa using hy
  rw[e];exact hx
 have envEq:newEnv scope (~~~s) mainGlobals [] (qual++⇑".<locals>.") (some f) cdv none builtinsNs=envOfC qual scope (~~~s) f cdv:=by unfold envOfC newEnv;rw[hcf]
 have kp:∀b o,s.heap.get? b=some o->h'.get? b=some o:=λb o e=>hsb.extBut b o (cp (a9 e)) (ag _ e);have mEq:bindL (envOfC qual scope (~~~s) f cdv).kindOf ([x].zip [u]) (λ_=>none)=λy=>(([x].zip [u]).reverse).lookup y:=by
  funext y;have hk:(envOfC qual scope (~~~s) f cdv).kindOf x=some .local:=hx;show bindL (envOfC qual scope (~~~s) f cdv).kindOf [(x,u)] (λ_=>none) y=List.lookup y [(x,u)];unfold bindL;rw[if_pos hk];unfold bindL;by_cases hy:y=x
  .subst hy;simp
  .have:(y==x)=false:=by simpa using hy
   simp[hy,List.lookup_cons,this]
 have xx:InCallC s (~~~s) (bindL (envOfC qual scope (~~~s) f cdv).kindOf ([x].zip [u]) λ_=>none) (cellsFrom ((~~~s)+1) scope.names []) (bindC (envOfC qual scope (~~~s) f cdv).kindOf ([x].zip [u]) λ_=>none)
   { s with heap:=h',toks:=s.toks+([x].zip [u]).length }:=by
  rw[mEq,hcf];exact ⟨⟨⟨h',_,rfl⟩,hns,kp,am _⟩,(λn c e=>by simp at e),List.Pairwise.nil,(λn c e=>nomatch e)⟩
 show _/\codeAny (model P w) A (.func body (newEnv scope (~~~s) mainGlobals [] (qual++⇑".<locals>.") (some f) cdv none builtinsNs)) _ _;rw[envEq];refine ⟨lim.keeps kp,codeAny_func ?_⟩;obtain ⟨t,ht,hq⟩:=hbody A outer s H vs Q E (hr.deeper _) hsp;have I:Inv (dZ CX P w K mg base N qual scope f cdv A outer s H E) [] (start N vs) H { s with heap:=h',toks:=s.toks+([x].zip [u]).length }:=Ci S hr.hd e0 hl r xx;refine dr (ht [] _ (start N vs) H _ (Nat.le_add_left 1 s.toks) I hq) (λfl s' hs=>?_) λe s' hs=>hs;have fin:∀{σ':St}{H':Hp}{v:V}{u:AN},Inv (dZ CX P w K mg base N qual scope f cdv A outer s H E) [] σ' H' s'->RelV v u->Q v H'->CE outer P w H s Q u s':=
  λ{σ' H' v u} J rv q=>⟨v,H',J.os,J.bare,J.base,J.hok,rv,q⟩
 cases fl with
 |ret u=>
  obtain ⟨v,σ',H',J,rv,q⟩:=hs;exact fin J rv q
 |next=>
  obtain ⟨σ',H',J,q⟩:=hs;exact fin (v:=V.non) (u:=Value.none) J rfl q
 |brk=>
  obtain ⟨_,_,_,q⟩:=hs;exact False.elim q
 |cont=>
  obtain ⟨_,_,_,q⟩:=hs;exact False.elim q
def Fun.ok1{P:AK}{w:World}{K:PF}{mg:AH}{base:Heap}{x qual:Str}{st:Stmt}{f:AQ}{fd:AJ}{N:AD}{y:Str}{k:Nat}{sp:Sp}(F:Fun K x qual st f fd)(S:FnScope N [y] (au st))
  (hx:(au st).names.lookup y=some .local) (hnc:∀z∈(au st).names,z.2≠NameKind.cell) (hcf:∀n,cellsFrom n (au st).names []=[]) (len:∀vs H Q E,sp vs H Q E->vs.length=[y].length)
  (hbody:∀(cdv:AN)(A:AM)(outer:List Env)(s:AI)(H:Hp)(vs:AR)(Q:VK)(E:XK),Room k (A.deeper (envOfC qual (au st) (~~~s) f cdv))->sp vs H Q E->
   ∃t,vq (dZ CX0 P w K mg base N qual (au st) f cdv A outer s H E) (aD st) t/\t { nx:=λ_ H'=>Q .non H',rt:=Q } (start N vs) H):FnOk P w K mg base CX0 (k+1) f fd [y] sp:=by
 obtain ⟨oc,od,kV,doc,pm,an,cdv,ct,osl,rfl,lk,hcd⟩:=F.ex;exact V0 lk hcd S hx hnc hcf len λA outer s H vs Q E hr hsp=>hbody cdv A outer s H vs Q E hr hsp
open Builtin Builtin.Str
def V1{prog:AK}{w:World}{A:AM}(hh:A.handled=none)(it:AQ)(x:Str)(t:Tok):
  Draws prog w A it [it] x.cps.size (λi v=>∃c u,x.cps[i]?=some c/\v=.str ⟨#[c]⟩ u) (λi h=>h.IsStrIter it (strIterType x) x t i):=by
 unfold strIterType;split
 .exact Draws.strAscii hh it x t
 .exact Draws.strWide hh it x t
structure ZApart(z TI TO i1 i2:AQ):Prop where
 TIz:TI≠z
 TOz:TO≠z
 i1z:i1≠z
 i2z:i2≠z
 TITO:TI≠TO
 TIi1:TI≠i1
 TIi2:TI≠i2
 TOi1:TO≠i1
 TOi2:TO≠i2
 i12:i1≠i2
section
variable {X:Cx}
theorem Dj:∀{bs:List Bool}{us:AB}{i:Nat}{v:AN},Vals (bs.map V.bl) us->us[i]?=some v->∃b,bs[i]?=some b/\v=.bool b
 |[],us,i,v,r,e=>by
  rw[List.map_nil]at r;cases r;simp at e
 |b::bs,us,i,v,r,e=>by
  rw[cS]at r;cases r with
  |cons r1 r2=>
   cases i with
   |zero=>
    cases (show _=Value.bool b from r1);exact ⟨b,rfl,!!e.symm⟩
   |succ i=>exact Dj (i:=i) r2 (!!e)
theorem V2:bootBuiltins "all"=some (.builtin "all"):=by ac_rfl
theorem V3:bootBuiltins "zip"=some (.type "zip"):=by ac_rfl
theorem all_range(bs:List Bool)(n:Nat)(hn:n=bs.length):((List.range n).all λi=>(bs[i]?).getD true)=bs.all id:=by
 subst hn;rw[g9,df,df];constructor
 .intro h b hb;obtain ⟨i,hi,e⟩:=List.mem_iff_getElem.mp hb;have:=h i (iX.mpr hi);rw[aS hi,e]at this;simpa using this
 .intro h i hi;have hi':=iX.mp hi;rw[aS hi'];simpa using h _ (e8 hi')
theorem V4 (hc:X.calm=true):bQ X (.builtin "all") (λxs H Q=>∃(p:AQ) (bs:List Bool),xs=[.ref p]/\SqL X.K H p (bs.map V.bl)/\Q (.bl (bs.all id)) H):=by
 intro p9 s Y H xs us Q I r h;obtain ⟨p,bs,rfl,hq,q⟩:=h;obtain ⟨u,rfl,ru⟩:=vals1 r;cases ru;obtain ⟨its,rv,pl,hz⟩:=I.list hq;have hl:=pl.isList;have hlt:p < (~~~s):=by obtain ⟨_,e,_⟩:=hl;exact a9 e
 refine call_all_walk (jp hl ?_);refine ⟨(~~~s),[(~~~s),p],[(~~~s)],its.toArray.size,_,_,λi=>(bs[i]?).getD true,rfl,Walks.list (A:=X.A.in1) (I.ok.hd hc) _ p (cp hlt) its.toArray,
  ⟨⟨_,a8 _ rfl,rfl,rfl⟩,hl.push _⟩,λi v s' Q' E' hP hQ=>?_,λh' tk hk=>?_⟩
 .obtain ⟨b,e,rfl⟩:=Dj rv (i:=i) (v:=v) (!!hP);simp only[e,Option.getD_some]at hQ;exact fN hQ
 .have e:=all_range bs its.toArray.size (by rw[a7,<-rv.length,af]);rw[e];exact ⟨.bl _,H,I.kept (λb o q=>hk b o (λhm=>by rw[aE.mp hm]at q;exact eT _ (a9 q)) (ag _ q)),rfl,q⟩
theorem V5:OpR X (compareOp .Is) (λx y H Q=>∃i j,x=.bl i/\y=.bl j/\Q (.bl (i==j)) H):=by intro p9 s Y H x y v u Q I rx ry h;obtain ⟨i,j,rfl,rfl,q⟩:=h;cases rx;cases ry;exact is_bool ⟨.bl _,H,I,rfl,q⟩
theorem V6:bQ X (.type "int") (λxs H Q=>∃z n,xs=[.str z]/\PySem.intText? z=some n/\z.length<=640/\Q (.int n) H):=by intro p9 s Y H xs us Q I r h;obtain ⟨z,n,rfl,hn,hl,q⟩:=h;obtain ⟨u,rfl,t,rfl⟩:=vals1 r;exact PySem.W.KIN.call_text hn hl ⟨.int n,H,I.tok _,⟨_,rfl⟩,q⟩
def V7:V->Option Int->Option Int->Hp->VK->Prop:=λx lo hi H Q=>∃z,x=.str z/\z.length<=sizeLine/\Q (.str (Txt.slice z lo hi)) H
theorem V8:SlR X V7:=by
 intro p9 s Y H x v vl vu lo hi sl Q I rx hs pl pu h;obtain ⟨z,rfl,hz,q⟩:=h;obtain ⟨t,rfl⟩:=rx;refine ⟨"str",_,slot_str_getitem.lookup,typeIs_str _ _ _,?_⟩;obtain ⟨l,el,e1⟩:∃l:Option (Int×Tok),vl=partValue l/\l.map (·.1)=lo:=by
  cases pl with
  |none=>exact ⟨none,rfl,rfl⟩
  |int i t=>exact ⟨some (i,t),rfl,rfl⟩
 obtain ⟨u,eu,e2⟩:∃u:Option (Int×Tok),vu=partValue u/\u.map (·.1)=hi:=by
  cases pu with
  |none=>exact ⟨none,rfl,rfl⟩
  |int i t=>exact ⟨some (i,t),rfl,rfl⟩
 subst el eu e1 e2;refine wpAny_getItem_str_slice (l:=l) (u:=u) (st:=none) hs rfl ?_;unfold sliceMade;unfold Txt.slice at q;show (if ((1:Int)==1&&(slicePicked z l u none).length==z.length)=true then Made.val (.str z t) else Made.str ⟨((slicePicked z l u none).filterMap (z.cps[·]?)).toArray⟩).post _ _;have ep:slicePicked z l u none=Builtin.Str.strSliceIndices (l.map (·.1)) (u.map (·.1)) 1 z.length:=rfl;rw[ep];by_cases hc:((1:Int)==1&&(Builtin.Str.strSliceIndices (l.map (·.1)) (u.map (·.1)) 1 z.length).length==z.length)=true
 .rw[if_pos hc]at q ⊢;exact ⟨.str z,H,I,⟨t,rfl⟩,q⟩
 .rw[if_neg hc]at q ⊢;refine ⟨?_,⟨.str _,H,I.tok _,⟨_,rfl⟩,q⟩⟩;show (List.filterMap _ _).toArray.size<=sizeLine;rw[a7];have h1:=sliceIndices_le (l.map (·.1)) (u.map (·.1)) z.length;have h2:=List.length_filterMap_le (λx=>z.cps[x]?) (Builtin.Str.strSliceIndices (l.map (·.1)) (u.map (·.1)) 1 z.length);omega
end
section
variable {X:Cx}
theorem V9:OpR X (compareOp .IsNot) (λx y H Q=>∃i j,x=.bl i/\y=.bl j/\Q (.bl (i != j)) H):=by intro p9 s Y H x y v u Q I rx ry h;obtain ⟨i,j,rfl,rfl,q⟩:=h;cases rx;cases ry;exact isnot_bool ⟨.bl _,H,I,rfl,q⟩
end
def noStar:AO->Bool
 |.Starred ..=>false
 |_=>true
def cz(e:AO)(es:AE)(env:Env)(h:noStar e=true):starEach (e::es) env=(false,eval e env)::starEach es env:=by cases e <;> first |rfl |cases h
section
variable {prog:AK} {w:World} {A:AM} {E:AG} {s:AI}
def rIt (a n c:Int):Obj:={ cls:=.type "range_iterator",data:=.fields #[rawInt a,rawInt n,rawInt c] }
theorem Wa{r:AQ}{n:Int}{t u v:Tok}{Q:AG}(hr:IsRange s.heap r 0 n 1 t u v)(h1:-(2 ^ 62)<=n)(h2:n < 2 ^ 62)
  (h:Q (.ref (~~~s)) { s with heap:=s.heap.push (rIt (0+(Builtin.Range.rangeSize 0 n 1 - 1) * 1) (Builtin.Range.rangeSize 0 n 1) (-1)) }):wpAny (model prog w) A (call (.builtin "range.__reversed__") [.ref r]) Q E s:=by
 have hT:s.TypeIs (.ref r) "range":=⟨_,hr,rfl⟩;refine eR F.slot_range_reversed hT F.entry_range_reversed ?_ (F.args_range_reversed_1 _);have hsm:(Builtin.Range.rangeFitsLong 0&&Builtin.Range.rangeFitsLong n&&Builtin.Range.rangeFitsLong 1&&Builtin.Range.rangeFitsLong (-1)&&Builtin.Range.rangeFitsLong (0 - 1)&&Builtin.Range.rangeFitsLong (Builtin.Range.rangeSize 0 n 1))=true:=by rw[rangeSize_one];simp only[Builtin.Range.rangeFitsLong,ae,dn,decide_eq_true_eq,bm];split <;> omega
 obtain ⟨hp,g,d,tk,os⟩:=s;wp_walk using wpAny_loadPart' hr
 rw[if_neg (by rw[hsm];decide)];simp only[hsm,if_true];wp_walk
 exact ⟨_,rfl,h⟩
theorem Wb{r:AQ}{n:Int}{t u v:Tok}{Q₁:AG}(hr:IsRange s.heap r 0 n 1 t u v)(h1:-(2 ^ 62)<=n)(h2:n < 2 ^ 62)
  (h:Q₁ (.ref (~~~s)) { s with heap:=s.heap.push (rIt (0+(Builtin.Range.rangeSize 0 n 1 - 1) * 1) (Builtin.Range.rangeSize 0 n 1) (-1)) }):
  codeAny (model prog w) A (.call (.builtin "reversed.__new__") ⟨[.type "reversed",.ref r],[]⟩) (wants Q₁ E) s:=by
 have hT:s.TypeIs (.ref r) "range":=⟨_,hr,rfl⟩;refine codeAny_of_tree ?_;show wpAny _ A.in1 (do checkBuiltinCall "reversed.__new__" ⟨[.type "reversed",.ref r],[]⟩;again (.builtin "reversed.__new__" ⟨[.type "reversed",.ref r],[]⟩)) _ _ s;refine ab (iE (F.newCall_reversed_1 _) (al ⟨plainId_quiet F.plain_reversed_new _,ia F.entry_reversed_new ?_⟩));rw[gE F.plain_reversed_new _];unfold Builtin.«reversed.__new__»;refine ab (iE (newClass_reversed _) ?_);try dsimp only
 refine ab (iE (a:=()) (by first |rfl |rfl') ?_);refine ab (iE (a:=()) (by first |rfl |rfl') ?_);try dsimp only
 refine ab (wpAny_specialOf hT F.slot_range_reversed.lookup ?_);try dsimp only
 refine ab (iE (F.slot_range_reversed.bind _) ?_);try dsimp only
 first
 |rw[if_neg (show ¬((Value.builtin "range.__reversed__"==Value.none)=true) from bn)]
 | (show wpAny _ _ (if (Value.builtin "range.__reversed__"==Value.none)=true then _ else _) _ _ _;rw[if_neg (show ¬((Value.builtin "range.__reversed__"==Value.none)=true) from bn)])
 refine ab (eW ?_);refine ab (m:=runValue (.call (.builtin "range.__reversed__") ⟨[.ref r],[]⟩)) (show wpAny _ _ (call (.builtin "range.__reversed__") [.ref r]) _ _ _ from Wa hr h1 h2 ?_);first
 |exact al h
 |exact ab (al (al h))
theorem Wc{r:AQ}{n:Int}{t u v:Tok}{Q:AG}(hr:IsRange s.heap r 0 n 1 t u v)(h1:-(2 ^ 62)<=n)(h2:n < 2 ^ 62)
  (h:Q (.ref (~~~s)) { s with heap:=s.heap.push (rIt (0+(Builtin.Range.rangeSize 0 n 1 - 1) * 1) (Builtin.Range.rangeSize 0 n 1) (-1)) }):wpAny (model prog w) A (call (.type "reversed") [.ref r]) Q E s:=by
 refine callType_other (U:="range_iterator") (Q₁:=λobj s₁=>obj=.ref (~~~s)/\s₁={ s with heap:=s.heap.push (rIt (0+(Builtin.Range.rangeSize 0 n 1 - 1) * 1) (Builtin.Range.rangeSize 0 n 1) (-1)) }) (by ac_rfl) F.create_reversed ⟨_,_,F.mro_reversed⟩ F.made_reversed (by rw[isSubtype_type];rfl') (F.typeCall_reversed_1 _) (Wb hr h1 h2 ⟨rfl,rfl⟩) ?_;rintro obj s₁ ⟨rfl,rfl⟩;exact ⟨⟨_,a8 _ rfl,rfl⟩,h⟩
end
def Itd(lo:Int)(n:Nat):It:=⟨λi _=>i < n,λi H x H'=>H'=H/\x=.int (lo - i),λi _=>n<=i⟩
def Dk{P:AK}{w:World}{K:PF}{tg:AO}(it:AQ)(lo:Int)(n:Nat):Turn P w K tg (Itd lo n) [it] it (λi h=>IsRangeIter h it (lo+(i:Nat) * (-1)) ((n:Int) - (i:Nat)) (-1)) where
 mem:=by simp
 obj:=λi h st b hb=>by
  have e:b=it:=by simpa using hb
  subst e;exact ⟨_,st,λv z=>by
   have z':Data.fields _=Data.cell v:=z;cases z'⟩
 keep:=λi h h' st k=>k it (by simp) _ st
 item:=by intro X hP hw hK hc i p9 s Y H E I hf st hg;subst hP hw hK;obtain ⟨f0,f1,f2,f3,f4,f5⟩:=hf it (by simp);have W:=Walks.range (prog:=X.prog) (w:=X.w) (I.ok.hd hc) it lo (-1) n;refine W.item i s _ _ hg st λv h' tk hv st' kk=>?_;obtain ⟨t,rfl⟩:=hv;have I1:Inv X p9 Y H { s with heap:=h',toks:=tk }:=I.turned (λb o hb e=>kk b o (!!hb) e) f0 f1 f3 f4 f5;refine ⟨_,rfl,kI (s:={ s with heap:=h',toks:=tk }) (n:="range_iterator") st' rfl rfl (!1) ⟨.int (lo - i),H,I1,⟨t,?_⟩,⟨rfl,rfl⟩,st',λb hb=>(hf b hb).1⟩⟩;rw[show lo+(i:Int) * (-1)=lo - i by omega]
 done:=by intro X hP hw hK hc i p9 s Y H E I hf st hg;subst hP hw hK;obtain ⟨f0,f1,f2,f3,f4,f5⟩:=hf it (by simp);exact wpAny_pyNext_range_end (I.ok.hd hc) st (by have:n<=i:=hg;omega) λh' eb=>⟨rfl,I.turned (t':=s.toks) (λb o hb e=>eb b o hb e) f0 f1 f3 f4 f5⟩
 self:=λ_ _ _ _ _ st h=>wpAny_pyIter_rangeiter st h
section
variable {X:Cx} {tg:AO}
theorem Wd(j:Int):Builtin.Range.rangeSize 0 j 1=(j.toNat:Int):=by rw[rangeSize_one];split <;> omega
theorem We:bootBuiltins "reversed"=some (.type "reversed"):=by ac_rfl
def Wf(ta:TA):TI:=λY H R=>ta Y H λvs H1=>∃j:Int,vs=[.int j]/\-(2 ^ 62)<=j/\j < 2 ^ 62/\R (Itd ((j.toNat:Int) - 1) j.toNat) H1
theorem Wg {a:AO} {ta:TA} {p q pos pos':Pos} (hgR:Gl X "reversed") (hmR:X.mg "reversed"=none) (hg:Gl X "range") (hm:X.mg "range"=none) (ha:PA X [a] ta) (hs:starEach [a] X.env=[(false,eval a X.env)]:=by rfl):
  PI X tg (.Call (.Name "reversed" q) [.Call (.Name "range" p) [a] [] pos] [] pos') (Wf ta):=by
 intro p9 s Y H R I h;refine Call_ (fY I hgR hmR We (dy (?_) rfl rfl));show wpAny _ _ (spliced ((false,eval (.Call (.Name "range" p) [a] [] pos) X.env)::[])) _ _ s;refine Calls.spliced_cons (Call_ (fY I hg hm boot_range (dy (thn (ha pos p9 s Y H _ I h) λus s1 ⟨vs,H1,I1,r1,q1⟩=>?_) hs rfl)));obtain ⟨j,e,q1,q2,qq⟩:=q1;subst e;cases r1 with
 |cons r rr=>
  cases rr;obtain ⟨t,rfl⟩:=r;refine call_range_1 (Calls.spliced_nil (Wc (IsRange.new ..) q1 q2 ?_));rw[Wd];have I2:Inv X p9 Y H1 { s1 with heap:=s1.heap.push { cls:=Value.type "range",data:=Data.fields #[Value.int 0 s1.toks,Value.int j t,Value.int 1 (s1.toks+1)] },toks:=s1.toks+1+1 }:=I1.kept λb o e=>ag _ e;generalize s1.heap.push { cls:=Value.type "range",data:=Data.fields #[Value.int 0 s1.toks,Value.int j t,Value.int 1 (s1.toks+1)] }=hp1 at I2 ⊢;have st:IsRangeIter (hp1.push (rIt (0+((j.toNat:Int) - 1) * 1) j.toNat (-1))) hp1.objs.size (0+((j.toNat:Int) - 1) * 1) j.toNat (-1):=a8 _ rfl;refine wpAny_pyIter_rangeiter (s:={ s1 with heap:=hp1.push (rIt (0+((j.toNat:Int) - 1) * 1) j.toNat (-1)),toks:=s1.toks+1+1 }) st ?_;refine ⟨hp1.objs.size,[hp1.objs.size],_,_,H1,rfl,I2.kept (t':=s1.toks+1+1) λb o e=>ag _ e,Dk _ ((j.toNat:Int) - 1) j.toNat,?_,λb hb=>?_,qq⟩
  .show IsRangeIter _ _ (((j.toNat:Int) - 1)+((0:Nat):Int) * (-1)) ((j.toNat:Int) - ((0:Nat):Int)) (-1);rw[show ((j.toNat:Int) - 1)+((0:Nat):Int) * (-1)=0+((j.toNat:Int) - 1) * 1 by omega,show (j.toNat:Int) - ((0:Nat):Int)=j.toNat by omega];exact st
  .have e:b=hp1.objs.size:=by simpa using hb
   subst e;exact I2.fpOk (am _) (I2.hok.fresh (am _))
theorem Dl(i j:Int):Builtin.Range.rangeSize i j (-1)=((i - j).toNat:Int):=by unfold Builtin.Range.rangeSize;rw[if_neg (!1),show (-(-1):Int)=1 from rfl,Int.ediv_one];split <;> omega
theorem small_down{a b:Int}(ha:-(2 ^ 62)<=a)(ha':a < 2 ^ 62)(hb:-(2 ^ 62)<=b)(hb':b < 2 ^ 62):Builtin.Range.small a b (-1)=true:=by unfold Builtin.Range.small;rw[Dl];simp only[Builtin.Range.rangeFitsLong,ae,dn,decide_eq_true_eq,bm,show ¬((-1:Int) > 0) by decide,if_false];omega
def Wh(ta:TA):TI:=λY H R=>ta Y H λvs H1=>∃i j:Int,vs=[.int i,.int j,.int (-1)]/\(-(2 ^ 62)<=i/\i < 2 ^ 62/\-(2 ^ 62)<=j/\j < 2 ^ 62)/\R (Itd i (i - j).toNat) H1
theorem Wi {a b c:AO} {ta:TA} {p pos:Pos} (hg:Gl X "range") (hm:X.mg "range"=none) (ha:PA X [a,b,c] ta) (hs:starEach [a,b,c] X.env=[(false,eval a X.env),(false,eval b X.env),(false,eval c X.env)]:=by rfl) (hs2:starEach [b,c] X.env=[(false,eval b X.env),(false,eval c X.env)]:=by rfl):
  PI X tg (.Call (.Name "range" p) [a,b,c] [] pos) (Wh ta):=by
 intro p9 s Y H R I h;refine Call_ (fY I hg hm boot_range (dy (thn (ha pos p9 s Y H _ I h) λus s1 ⟨vs,H1,I1,r1,q1⟩=>?_) (by rw[hs,hs2]) (by rw[hs2];rfl)));obtain ⟨i,j,e,⟨q1,q2,q3,q4⟩,q⟩:=q1;subst e;cases r1 with
 |cons r rr=>
  cases rr with
  |cons r' rr=>
   cases rr with
   |cons r'' rr=>
    cases rr;obtain ⟨t,rfl⟩:=r;obtain ⟨t',rfl⟩:=r';obtain ⟨t'',rfl⟩:=r'';refine call_range_3 (!1) ?_;refine wpAny_pyIter_range (IsRange.new ..) (small_down q1 q2 q3 q4) ?_;rw[Dl];have I2:Inv X p9 Y H1 { s1 with heap:=s1.heap.push { cls:=Value.type "range",data:=Data.fields #[Value.int i t,Value.int j t',Value.int (-1) t''] },toks:=s1.toks }:=I1.kept λb o e=>ag _ e;refine ⟨_,[_],_,_,H1,rfl,I2.kept (t':=s1.toks) λb o e=>ag _ e,Dk _ i (i - j).toNat,?_,λb hb=>?_,q⟩
    .show IsRangeIter _ _ (i+((0:Nat):Int) * (-1)) (((i - j).toNat:Int) - ((0:Nat):Int)) (-1);rw[show i+((0:Nat):Int) * (-1)=i by omega,show ((i - j).toNat:Int) - ((0:Nat):Int)=(i - j).toNat by omega];exact a8 _ rfl
    .have e:=aE.mp hb;subst e;exact I2.fpOk (am _) (I2.hok.fresh (am _))
end
variable {X:Cx} {e st:AO} {te ts:TE} {p2 pos:Pos}
def Tr(h0:Heap)(H:Hp)(h:Heap)(a:AQ)(c:AN):Prop:=
 ∃oe vs T oT ts,h.get? a=some oe/\oe.cls=c/\oe.data=.fields vs/\vs[1]?=some (.ref T)/\T≠a/\h.get? T=some oT/\oT.data=.fields ts/\ts[3]?=some .none/\
  h0.get? a=none/\h0.get? T=none/\H a=none/\H T=none
def CX1(P:AK)(w:World):CXT:=λouter H s E e s'=>
 ∃(a:AQ)(c:AN)(H':Hp),e=.ref a/\s'.os=s.os/\AllBare s'.gens/\Un (frs outer) [] H H' s.heap s'.heap/\HOk P w H' s'.heap/\Tr s.heap H' s'.heap a c/\E c none H'
section
variable {X:Cx} {p9:AC} {σ:St} {H:Hp} {s:AI}
theorem Dm{P:AK}{w:World}(Y:Cx):kJ (CX1 P w) Y λ_ _ _=>False:=λ_ _ _ _ _ _ _ h=>by
 obtain ⟨_,_,_,_,_,_,_,_,_,q⟩:=h;exact q.elim
end
abbrev veM:AB:=[.type "ValueError",.type "Exception",.type "BaseException",.type "object"]
def Wj:AB->Bool
 |[.type a,.type b,.type c,.type d]=>a=="ValueError"&&b=="Exception"&&c=="BaseException"&&d=="object"
 |_=>false
def Dn:AN->Bool
 |.str _ _=>true
 |_=>false
def nsB(K:PF)(N:AQ):Bool:=match K.lookup N with
 |some ⟨_,_,.dict es _,_⟩=>es.toList.all (λe=>Dn e.key)&&quietNames.all λn=>(nsFind es n).isNone
 |_=>false
def Wl(K:PF)(A:AQ):Bool:=match K.lookup A with
 |some ⟨_,_,.cls cd,_⟩=>nsB K cd.ns
 |_=>false
def vz(K:PF):AB->Bool
 |[]=>false
 |v::tl=>(match v with |.ref A=>Wl K A&&vz K tl |_=>Wj (v::tl))
def isRef(C:AQ):AN->Bool
 |.ref a=>a==C
 |_=>false
def isNew:Option AN->Bool
 |some (.builtin s)=>s=="ValueError.__new__"
 |_=>false
def Do:AN->Bool
 |.type s=>s=="type"
 |_=>false
def qZ(K:PF)(C:AQ):Bool:=match K.lookup C with
 |some ⟨ty,_,.cls cd,⟨[_,_,_,_,k,_]⟩⟩=>Do ty&&isNew k&&nsB K cd.ns&&!cd.hasDel&&(match cd.mro with |v::tl=>isRef C v&&vz K tl |[]=>false)
 |_=>false
section
variable {X:Cx}
theorem digits_le:∀n:Fin 100,(⇑(toString (n.val:Int))).length<=3:=by ac_rfl
def Throws(X:Cx)(E:XK):Prop:=∀(p9:AC)(Y:St)(H:Hp)(s:AI)(h':Heap)(a:AQ)(c:AN)(args:AB),Inv X p9 Y H s->s.heap.MadeExcOf h' a c args->E c none H->X.xe (.ref a) { s with heap:=h' }
end
section
variable {X:Cx}
variable {p9:AC} {σ:St} {H:Hp} {s:AI}
structure Caught(X:Cx)(H:Hp)(s:AI)(H':Hp)(a:AQ)(c:AN)(s':AI):Prop where
 os:s'.os=s.os
 bare:AllBare s'.gens
 un:Un (frs X.stack) [] H H' s.heap s'.heap
 hok:HOk X.prog X.w H' s'.heap
 tr:Tr s.heap H' s'.heap a c
variable {H':Hp} {a:AQ} {c:AN} {s':AI}
end
open Builtin.ObjectAttr Builtin.Getset_descriptor
open PySem.W (findIn mroIn clsIn typeIn Looks InstAt looks_findIn looks_mroIn looks_typeIn)
def vA(K:PF)(D:AQ):Bool:=
 findIn K (.ref D) "__class__"==some (some (.builtin "object.__class__"))&&findIn K (.ref D) "__getattribute__"==some (some (.builtin "BaseException.__getattribute__"))&&findIn K (.ref D) "__getattr__"==some none &&
  mroIn K D (.type "object")==some true&&mroIn K D (.type "BaseException")==some true&&(clsIn K D).isSome
open PySem.W (findIn mroIn clsIn typeIn Looks looks_findIn looks_mroIn looks_typeIn)
section
variable {X:Cx}
def XO(H:Hp)(a c:AQ):Prop:=∃o y,H a=some (.frz o (.own y))/\o.cls=.ref c
def valOf:V->AN
 |.ref a=>.ref a
 |.ty n=>.type n
 |_=>.none
end
section
variable {X:Cx}
def XP(X:Cx)(p9:AC)(ex:AN->St->Hp->Prop)(Y:St)(e:AN)(s1:AI):Prop:=∃a c H1 s0 H',e=.ref a/\Inv X p9 Y H1 s0/\Caught X H1 s0 H' a c s1/\ex c Y H'
def Dp (K:PF) (C:AQ):Bool:=typeIn K (.ref C)==some (.type "type")&&(clsIn K C).isSome&&mroIn K C (.type "BaseException")==some true
end
open PySem.SeqAt
section
variable {X:Cx}
theorem Wm:OpR X (binaryOp .FloorDiv) (rI (λ_ j=>0 < j/\j < 1152921504606846976) λi j=>.int (i / j)):=opI λi j _ _ _ _ _ hc q=>by
 have h1:(0:Int) < j:=hc.1;have h2:j < 1152921504606846976:=hc.2;refine floordiv_int (!0) (by rw[Int.fdiv_eq_ediv_of_nonneg i (!0)];exact q) (.inl (PyProof.noPylong_of_log2 ?_));have:j.natAbs.log2 < 60:=(Nat.log2_lt (!0)).mpr (by show j.natAbs < 1152921504606846976;omega);omega
def vB(m:Nat):Str:=⇑(toString (m:Int))
theorem Wn{m:Nat}(h:m < 100):(m:Int).natAbs.log2 < 1920:=by have:(m:Int).natAbs=m:=Int.natAbs_natCast m;rw[this];exact Nat.lt_of_le_of_lt (Nat.log2_le_self m) (!0)
theorem Wo:bQ X (.type "str") (λxs H Q=>∃m:Nat,xs=[.int m]/\m < 100/\Q (.str (vB m)) H):=by intro p9 s Y H xs us Q I r h;obtain ⟨m,rfl,hm,q⟩:=h;obtain ⟨u,rfl,ru⟩:=vals1 r;obtain ⟨t,rfl⟩:=ru;exact PySem.P.str_of_int (Wn hm) ⟨.str _,H,I.tok _,⟨_,rfl⟩,q⟩
end
end L2
namespace HT
open PySem PySem.Spec PyProof.Rows Builtin
end HT
namespace L2
open PySem PySem.Spec PyProof.Rows
section
variable {X:Cx}
def ake(K:PF):R2:=λx y H Q=>∃(l:AQ)(k:Int)(xs:AR),x=.ref l/\y=.int k/\SqT K H l xs/\xs≠[]/\2<=k/\k<=1000/\xs.length * k.toNat<=sizeLine/\∀p,H p=none->Q (.ref p) (upd H p (.tup (List.replicate k.toNat xs).flatten))
end
end L2
namespace HT
open PySem PySem.Spec PyProof.Rows Builtin
end HT
namespace L2
open PySem PySem.Spec PyProof.Rows
section
variable {X:Cx}
def akf(K:PF):R2:=λx y H Q=>∃(l:AQ)(k:Int)(xs:AR),x=.ref l/\y=.int k/\SqL K H l xs/\0<=k/\k<=1000/\xs.length * k.toNat<=sizeLine/\∀p,H p=none->Q (.ref p) (upd H p (.lst (List.replicate k.toNat xs).flatten))
end
end L2
namespace PySem
end PySem
namespace L2
open PySem PySem.Spec PyProof.Rows
end L2
namespace PyProof.Rows
open PySem
def Wq {prog:AK} {w:World} {A:AM} {E:AG} {s:AI} {it:AQ} {T:AL} {o:Obj} {items:AB} {n:Nat} {ns:List Int} {Q:AG} (hT:T="list"\/T="tuple")
  (ho:s.heap.get? it=some o) (hc:o.cls=.type T) (hd:o.data=.seq items.toArray n) (hI:IntsAre items ns) (h64:items.length < 64)
  (h:∀(h1 h':Heap) (e:Nat) (out:Array AN) (ns':List Int),IntsAre out.toList ns'->ns'.Perm ns->ns'.Pairwise (·<=·)->(∀b o',s.heap.get? b=some o'->h1.get? b=some o')->(∀b o',h1.get? b=some o'->h'.get? b=some o')->h'.get? h1.objs.size=some (seqObj "list" out e)->Q (.ref h1.objs.size) { s with heap:=h' }):
  wpAny (model prog w) A (call (.builtin "sorted") [.ref it]) Q E s:=by
 refine Calls.call_function_entry kind_sorted plain_sorted entry_sorted (args_sorted1 _) ?_;unfold Builtin.«sorted»;refine wpAny_bind (m:=checkCount "sorted" 1 1 _) (wpAny_pure ?_);refine wpAny_bind (wpAny_collect_seq it hT ho hc hd (λh1 k1=>?_) (by rw[List.size_toArray,sizeLine_eq];omega));refine wpAny_bind (wpAny_newList ?_);have e1:items.toArray.toList=items:=by simp
 rw[e1];have hoL:(h1.push (seqObj "list" items.toArray 0)).get? h1.objs.size=some (seqObj "list" items.toArray 0):=Heap.get?_push_size _ rfl;show wpAny _ _ _ _ _ { s with heap:=h1.push (seqObj "list" items.toArray 0) };refine wpAny_bind (wpAny_holding (wpAny_call_entry slot_list_sort ⟨_,hoL,rfl⟩ entry_list_sort (list_sort_tree hoL hI h64 λout ns' a1 a2 a3=>⟨_,rfl,?_⟩) (args_list_sort _)));obtain ⟨e,he⟩:=sortedHeap_at (vs:=items) (out:=out) hoL;refine wpAny_pure ⟨_,rfl,h h1 _ e out ns' a1 a2 a3 k1 (λb o' hb1=>?_) he⟩;rw[sortedHeap_old (Nat.ne_of_lt (Heap.lt_size hb1)) (by rw[size_push'];exact Nat.lt_succ_of_lt (Heap.lt_size hb1))];exact Heap.get?_push_of_some _ hb1
end PyProof.Rows
namespace L2
open PySem PySem.Spec PyProof.Rows
def akg {X:Cx}:bQ X (.builtin "sorted") (λxs H Q=>∃(p:AQ) (ns:List Int),xs=[.ref p]/\SqT X.K H p (ns.map V.int)/\ns.length < 64/\∀ns':List Int,ns'.Perm ns->ns'.Pairwise (·<=·)->∀l,H l=none->Q (.ref l) (upd H l (.lst (ns'.map V.int)))):=by
 intro p9 s Y H xs us Q I r h;obtain ⟨p,ns,rfl,hq,h64,q⟩:=h;obtain ⟨u,rfl,ru⟩:=vals1 r;cases ru;obtain ⟨its,rv,⟨o,ho,hc,n,hd⟩,hz⟩:=I.tuple hq;have hlen:its.length=ns.length:=by rw[<-rv.length];simp
 refine Wq (.inr rfl) ho hc hd (intsAre_of rv) (!0) λh1 h' e out ns' a1 a2 a3 k1 k2 he=>?_;have I1:Inv X p9 Y H { s with heap:=h1 }:=I.kept (t':=s.toks) k1;have hsz:(ns'.map V.int).length<=sizeLine:=by rw[af,a2.length_eq,fq];omega
 exact ⟨.ref h1.objs.size,_,I1.laid (t':=s.toks) k2 (am _) (show ObjOk X.prog X.w _ _ _ (.lst (ns'.map V.int)) from ⟨hsz,out.toList,e,vm a1,by rw[Array.toArray_toList];exact he⟩),rfl,q ns' a2 a3 _ (I1.hok.fresh (am _))⟩
section
variable {prog:AK} {w:World} {A:AM} {R:Result->AI->Prop} {s:AI}
def gG(e:AO)(d:Nat)(target iter:AO)(em:AN->Env->Sem Fin->Sem Fin):Prop:=
 ∀it acc env,compTurn e d it acc env=(standAt iter.pos >>= λ_=>pyNext it >>= λr=>match r with
   |none=>pure (.done .next)
   |some v=>letOwnedTupleGo target it v >>= λ_=>assign target env v >>= λ_=>em acc env (again (.compLoop e d it acc env)))
def emE (elt:AO) (acc:AN) (env:Env) (k:Sem Fin):Sem Fin:=(eval elt env >>= λx=>call (.builtin "list.append") [acc,x] >>= λ_=>pure ()) >>= λ_=>k
def emG(e:AO)(d:Nat)(iter:AO)(acc:AN)(env:Env)(k:Sem Fin):Sem Fin:=
 eval iter env >>= λx=>standAt iter.pos >>= λ_=>foldedSetIterable iter env x >>= λx=>holding [x] (pyIter x) >>= λit=>runOwn (.compStart e d it acc env) env >>= λ_=>k
theorem Wr(elt t1 i1 t2 i2 t3 i3:AO)(scope:Scope)(pos:Pos):gG (.ListComp elt [⟨t1,i1,[],0⟩,⟨t2,i2,[],0⟩,⟨t3,i3,[],0⟩] scope pos) 2 t3 i3 (emE elt):=λ_ _ _=>rfl
theorem Ws(elt t1 i1 t2 i2 t3 i3:AO)(scope:Scope)(pos:Pos):gG (.ListComp elt [⟨t1,i1,[],0⟩,⟨t2,i2,[],0⟩,⟨t3,i3,[],0⟩] scope pos) 1 t2 i2 (emG (.ListComp elt [⟨t1,i1,[],0⟩,⟨t2,i2,[],0⟩,⟨t3,i3,[],0⟩] scope pos) 2 i3):=λ_ _ _=>rfl
theorem Dq(elt t1 i1 t2 i2 t3 i3:AO)(scope:Scope)(pos:Pos):gG (.ListComp elt [⟨t1,i1,[],0⟩,⟨t2,i2,[],0⟩,⟨t3,i3,[],0⟩] scope pos) 0 t1 i1 (emG (.ListComp elt [⟨t1,i1,[],0⟩,⟨t2,i2,[],0⟩,⟨t3,i3,[],0⟩] scope pos) 1 i2):=λ_ _ _=>rfl
theorem Ds{elt:AO}{gens:List Comprehension}{scope:Scope}{pos:Pos}{d:Nat}{target iter:AO}{em:AN->Env->Sem Fin->Sem Fin}{it acc:AN}{env:Env}(hT:gG (.ListComp elt gens scope pos) d target iter em)(I:Nat->AI->Prop)
  (turn:∀n s,I n s->wpAny (model prog w) A (pyNext it) (λr s₁=>match r with
   |none=>R (.ok .next) s₁
   |some v=>wpAny (model prog w) A (letOwnedTupleGo target it v) (λ_ s₁'=>wpAny (model prog w) A (assign target env v) (λ_ s₂=>
     ∀(k:Sem Fin)(Q:Fin->AI->Prop)(E:AG),(∀s₅,(∃m,m < n/\I m s₅)->wpAny (model prog w) A k Q E s₅)->wpAny (model prog w) A (em acc env k) Q E s₂) (λ_ _=>False) s₁') (λ_ _=>False) s₁) (λ_ _=>False) s)
  (n:Nat) (h:I n s):codeAny (model prog w) A (.compLoop (.ListComp elt gens scope pos) d it acc env) R s:=by
 refine codeAny_loop rfl I (λn s hI=>?_) n h;show wpAny _ A ((compTurn (.ListComp elt gens scope pos) d it acc env).onRaise (λx=>do noteFrame x env;theTreesLotGoes x)) _ _ s;refine wpAny_noted ?_;rw[hT];refine ab (js (ab (dr (turn n s hI) (λr s₁ h₁=>?_) λ_ _ h'=>False.elim h')));cases r with
 |none=>exact al h₁
 |some v=>
  refine ab (dr h₁ (λ_ s₁' h₁'=>?_) λ_ _ h'=>False.elim h');exact ab (dr h₁' (λ_ s₂ h₂=>h₂ _ _ _ λs₃ h₃=>al ⟨rfl,h₃⟩) λ_ _ h'=>False.elim h')
theorem Wt{elt:AO}{gens:List Comprehension}{scope:Scope}{pos:Pos}{d:Nat}{t i:AO}{it acc:AN}{env:Env}(hg:gens[d]?=some ⟨t,i,[],0⟩)
  (h0:codeAny (model prog w) A (.compLoop (.ListComp elt gens scope pos) d it acc env) R s)
  (h:wpAny (model prog w) A (pyIter it) (λit' s'=>codeAny (model prog w) A (.compLoop (.ListComp elt gens scope pos) d it' acc env) R s') (λ_ _=>False) s):
  codeAny (model prog w) A (.compStart (.ListComp elt gens scope pos) d it acc env) R s:=by
 refine codeAny_of_tree ?_;show wpAny _ _ ((compStart (.ListComp elt gens scope pos) d it acc env).onRaise (λx=>do noteFrame x env;standAt theWindowsPlace)) _ _ s;refine wpAny_notedAt ?_;unfold compStart;have e:(clausesOf (.ListComp elt gens scope pos))[d]?=some ⟨t,i,[],0⟩:=hg;rw[e];show wpAny _ _ (ask >>= _) _ _ s;refine ab (wpAny_askSetting (wpAny_ite ?_));split
 .exact al (And.intro rfl h0)
 .refine ab (eW ?_);show wpAny _ _ (standAt i.pos >>= _) _ _ s;exact ab (js (ab (dr h (λit' s' h'=>al (And.intro rfl h')) λ_ _ x=>False.elim x)))
end
abbrev TM:=AR->St->Hp->(AR->St->Hp->Prop)->Prop
def lob (its:AB) (n:Nat):Obj:={ cls:=.type "list",data:=.seq its.toArray n }
structure AccOk(X:Cx)(a:AQ):Prop where
 new:a∈X.ex\/X.s₀.heap.objs.size<=a
 cel:∀x c,X.env.cells.lookup x=some c->c≠a
 pin:∀p∈X.pn,p.1≠a
def PM(X:Cx)(lim:Bool)(a:AQ)(em:Sem Fin->Sem Fin)(t:TM):Prop:=
 ∀(p9:AC)(its:AB)(n:Nat)(ys:AR)(Y:St)(H:Hp)(s:AI)(K:AR->St->Hp->Prop),Inv X ((a,lob its n)::p9) Y H s->(∀p∈p9,p.1≠a)->Vals ys its->(lim=true->ys.length < sizeLine)->t ys Y H K->
  ∀(k:Sem Fin)(Q:Fin->AI->Prop)(E:AG),(∀s' its' n' ys' σ' H',Inv X ((a,lob its' n')::p9) σ' H' s'->Vals ys' its'->K ys' σ' H'->↥X k Q E s')->↥X (em k) Q E s
def tmE(te:TE):TM:=λys Y H K=>ys.length < sizeLine/\te Y H λy H'=>K (ys++[y]) Y H'
def Dt{X:Cx}{a:AQ}{elt:AO}{te:TE}(hx:X.xe=λ_ _=>False)(ha:AccOk X a)(he:PE X elt te):PM X false a (emE elt (.ref a) X.env) (tmE te):=by
 intro p9 its n ys Y H s K I hp rv _ h kk Q E hk;obtain ⟨hz,h⟩:=h;have h0:=he _ s Y H _ I h;rw[hx]at h0;refine ab (ab (dr h0 (λv s8 h8=>?_) λ_ _ z=>False.elim z));obtain ⟨y,H8,I8,r8,k8⟩:=h8;obtain ⟨pD,nD,lD,fD,cD⟩:=I8.pin (a,lob its n) (ba _ aI);have hl:=rv.length;refine ab (append_at (hsz:=by rw[a7];omega) pD λh9 hs9 hD9=>al ?_);have I8a:Inv X p9 Y H8 s8:=I8.pins_of λp hp=>I8.pin p (ba _ (bp _ hp));have I9:Inv X p9 Y H8 { s8 with heap:=h9 }:=I8a.turned (t':=s8.toks) (it:=a) (λb o hb e=>hs9.extBut b o hb e) nD lD ha.new ha.cel (λp hp'=>by
  rcases bv.mp hp' with z |z
  .exact ha.pin p z
  .exact hp p z)
 have hD9':h9.get? a=some (lob (its++[v]) (n+1)):=by rw[hD9,List.push_toArray];rfl
 refine hk _ (its++[v]) (n+1) (ys++[y]) Y H8 (I9.pins_of λp hp'=>?_) (rv.append (.cons r8 .nil)) k8;rcases bg.mp hp' with e |z
 .subst e;exact ⟨hD9',nD,lD,fD,λv z=>by have z':Data.seq _ _=Data.cell v:=z;cases z'⟩
 .exact I9.pin p (ba _ z)
def emT(ifs:AE)(elt:AO)(acc:AN)(env:Env)(k:Sem Fin):Sem Fin:=
 (forIn ifs true λc r=>if r=true then do let ok <-isTrue c env (eval c env);pure (ForInStep.yield ok) else pure (ForInStep.yield r)) >>= λok=>if ok=true then emE elt acc env k else k
def Du(elt tg iter:AO)(ifs:AE)(scope:Scope)(pos:Pos):gG (.ListComp elt [⟨tg,iter,ifs,0⟩] scope pos) 0 tg iter (emT ifs elt):=λ_ _ _=>rfl
def tmT(tt:TT)(te:TE):TM:=λys Y H K=>tt Y H λb H4=>if b=true then te Y H4 λy H5=>K (ys++[y]) Y H5 else K ys Y H4
def Wu{X:Cx}{a:AQ}{elt:AO}{ifs:AE}{tt:TT}{te:TE}(hx:X.xe=λ_ _=>False)(ha:AccOk X a)(ht:PIf X ifs tt)(he:PE X elt te):PM X true a (emT ifs elt (.ref a) X.env) (tmT tt te):=by
 intro p9 its n ys Y H s K I hp rv hl h kk Q E hk;have h0:=ht _ s Y H _ I h;rw[hx]at h0;refine ab (dr h0 (λb s4 h4=>?_) λ_ _ z=>False.elim z);obtain ⟨H4,I4,q4⟩:=h4;cases b with
 |false=>exact hk s4 its n ys Y H4 I4 rv q4
 |true=>exact Dt hx ha he p9 its n ys Y H4 s4 K I4 hp rv (λz=>nomatch z) ⟨hl rfl,q4⟩ kk Q E hk
def Dv(J:It)(g:TG)(tm:TM)(ys:AR)(σ0:St)(H1:Hp)(K:AR->St->Hp->Prop):Prop:=
 ∃W:Nat->Nat->AR->St->Hp->Prop,(∃m,W 0 m ys σ0 H1)/\∀i m ys σ' H',W i m ys σ' H'->
  (J.stop i H'/\K ys σ' H')\/(J.go i H'/\∀x H2,J.yld i H' x H2->g x σ' H2 λσ3 H3=>tm ys σ3 H3 λys' σ4 H4=>∃m',m' < m/\W (i+1) m' ys' σ4 H4)
def tmG(wi:TI)(g:TG)(tm:TM):TM:=λys Y H K=>wi Y H λJ H1=>Dv J g tm ys Y H1 K
def Dw{X:Cx}{a:AQ}{elt:AO}{gens:List Comprehension}{scope:Scope}{pos:Pos}{d:Nat}{t i:AO}{em:AN->Env->Sem Fin->Sem Fin}{wi:TI}{g:TG}{tm:TM}(hx:X.xe=λ_ _=>False)(hc:X.calm=true)
  (hg:gens[d]?=some ⟨t,i,[],0⟩) (hT:gG (.ListComp elt gens scope pos) d t i em) (hi:PI X t i wi) (hG:PG X t g) (hs:∀x,foldedSetIterable i X.env x=pure x) (hm:PM X false a (em (.ref a) X.env) tm):
  PM X false a (emG (.ListComp elt gens scope pos) d i (.ref a) X.env) (tmG wi g tm):=by
 intro p9 its n ys Y H s K I hp rv _ h kk Q E hk;have h0:=hi _ s Y H _ I h;rw[hx]at h0;refine ab (dr h0 (λxv s1 h1=>?_) λ_ _ z=>False.elim z);refine ab (js (ab (iE (hs xv) ?_)));refine ab (dA (dr h1 (λitv s2 h2=>?_) λ_ _ z=>False.elim z));obtain ⟨it,fp,tn,J,H2,e,I2,T,st2,f2,W,⟨m0,w0⟩,turn⟩:=h2;subst e;have fpok:∀{H':Hp}{o:Obj},(∀b∈fp,H' b=none)->∀b∈fp,eY X ((a,o)::p9) H' b:=λhn b hb=>by
  obtain ⟨_,q1,q2,q3,q4,q5⟩:=f2 b hb;refine ⟨hn b hb,q1,q2,q3,q4,λp hp=>?_⟩;rcases bv.mp hp with z |z
  .exact q5 p (ft _ z)
  .rcases bg.mp z with z |z
   .subst z;exact q5 (a,lob its n) (ba _ aI)
   .exact q5 p (ba _ (bp _ z))
 have hap:∀b∈fp,a≠b:=λb hb=>(f2 b hb).2.2.2.2.2 (a,lob its n) (ba _ aI);have loop:codeAny (model X.prog X.w) X.A (.compLoop (.ListComp elt gens scope pos) d (.ref it) (.ref a) X.env) (λr s'=>match r with |.ok f=>↥X kk Q E s' |.error e=>cameBackBy (model X.prog X.w) X.A X.env E e s') s2:=by
  refine Ds hT (λm s'=>∃(i:Nat)(ys:AR)(its:AB)(n:Nat)(σ':St)(H':Hp),Inv X ((a,lob its n)::p9) σ' H' s'/\Vals ys its/\tn i s'.heap/\(∀b∈fp,H' b=none)/\W i m ys σ' H') ?_ m0 ⟨0,ys,its,n,Y,H2,I2,rv,st2,λb hb=>(f2 b hb).1,w0⟩;rintro m s3 ⟨i,ys,its,n,σ3,H3,I3,rv3,st3,fr3,w3⟩;rcases turn i m ys σ3 H3 w3 with ⟨stop,qn⟩ |⟨go,step⟩
  .refine thn (T.done X rfl rfl rfl hc i _ s3 σ3 H3 _ I3 (fpok fr3) st3 stop) λr s4 ⟨hr,I4⟩=>?_;subst hr;exact hk s4 its n ys σ3 H3 I4 rv3 qn
  .refine thn (T.item X rfl rfl rfl hc i _ s3 σ3 H3 _ I3 (fpok fr3) st3 go) λr s4 ⟨u,hr,h4⟩=>?_;subst hr;refine thn h4 λ_ s5 ⟨x,H5,I5,r5,y5,st5,fr5⟩=>?_;have I5':=I5.pinned (fpok fr5) (T.obj _ _ st5);have h6:=hG _ s5 σ3 H5 x u _ I5' r5 (step x H5 y5);rw[hx]at h6;refine thn h6 λ_ s6 ⟨σ6,H6,I6,q6⟩=>?_;intro k Q' E' hk';refine hm (p9++jz fp s5.heap) its n ys σ6 H6 s6 _ I6 (λp hp'=>?_) rv3 (λz=>nomatch z) q6 k Q' E' λs7 its' n' ys' σ7 H7 I7 rv7 ⟨m',hm',w7⟩=>hk' s7 ⟨m',hm',i+1,ys',its',n',σ7,H7,I7.pins_of λp hp'=>?_,rv7,?_,λb hb=>?_,w7⟩
   .rcases bv.mp hp' with z |z
    .exact hp p z
    .exact λe=>hap p.1 (u9 z).1 e.symm
   .refine I7.pin p (ba _ ?_);rcases bg.mp hp' with z |z
    .rw[z];exact aI
    .exact bp _ (ft _ z)
   .exact T.keep _ _ _ st5 λb hb o e=>(I7.pin (b,o) (ba _ (bp _ (ba _ (jA hb e))))).1
   .obtain ⟨o,e,_⟩:=T.obj _ _ st5 b hb;exact (I7.pin (b,o) (ba _ (bp _ (ba _ (jA hb e))))).2.1
 exact ab (wpAny_runOwn (Wt hg loop (T.self X.A 0 _ _ _ st2 loop)))
def vC(lim:Bool)(X:Cx)(N':AD)(scope:Scope)(tg:AO)(em:AN->Env->Sem Fin->Sem Fin)(J:It)(σ0:St)(H1:Hp)(Q:VK):Prop:=
 ∃W:Nat->Nat->AR->St->Hp->Prop,(∃m,W 0 m [] σ0 H1)/\∀i m ys σ' H',W i m ys σ' H'->
  (J.stop i H'/\ys.length<=sizeLine/\∀D,H' D=none->Q (.ref D) (upd H' D (.lst ys)))\/
  (J.go i H'/\(lim=true->ys.length < sizeLine)/\∀cl C s₁ H₁ fp pn,∃g tm,PG (X.comp N' scope cl C s₁ H₁ fp pn) tg g/\(∀a,AccOk (X.comp N' scope cl C s₁ H₁ fp pn) a->PM (X.comp N' scope cl C s₁ H₁ fp pn) lim a (em (.ref a) (X.comp N' scope cl C s₁ H₁ fp pn).env) tm)/\
   ∀x H2,J.yld i H' x H2->g x σ' H2 λσ3 H3=>tm ys σ3 H3 λys' σ4 H4=>∃m',m' < m/\W (i+1) m' ys' σ4 H4)
def vD(lim:Bool)(X:Cx)(N':AD)(scope:Scope)(tg:AO)(em:AN->Env->Sem Fin->Sem Fin)(wi:TI)(cap:List (Option Nat)):TE:=λY H Q=>wi Y H λJ H1=>vC lim X N' scope tg em J (d7 cap Y) H1 Q
def Dy{X:Cx}{elt tg iter:AO}{ifs:AE}{lim:Bool}{rest:List Comprehension}{em:AN->Env->Sem Fin->Sem Fin}{scope:Scope}{pos:Pos}{wi:TI}{p9:AC}{s:AI}{Y:St}{H:Hp}{Q:VK}{RR:AN->AQ->Result->AI->Prop}(N':AD)(cap:List (Option Nat))(hc:X.calm=true)(hi:PI X tg iter wi)(hcap:Caps X scope N' cap)
  (hcell:scope.names.all (λy=>y.2 != NameKind.cell)=true)
  (hfr:scope.names.all (λy=>y.2 != NameKind.free||(X.env.kindOf y.1==some NameKind.cell||X.env.kindOf y.1==some NameKind.free))=true)
  (hkind:scope.kind=.function) (hT:gG (.ListComp elt (⟨tg,iter,ifs,0⟩::rest) scope pos) 0 tg iter em) (I:Inv X p9 Y H s) (h:vD lim X N' scope tg em wi cap Y H Q)
  (fin:∀(D C:AQ)(H':Hp)(s4:AI)(m:AH),Inv X p9 Y H' s4->Q (.ref D) H'->s4.heap.Ns C m->eY X p9 H' C->RR (.ref D) C (.ok .next) s4):
  ↥X (eval iter X.env) (λx s₁=>↥X (pyIter x) (λit s₂=>↥X (newList []) (λacc s₃=>
   ↥X (newFunctionEnv scope X.env.globals (cV X.env scope.names []) [] X.env.qual none .none (some X.env)) (λcenv s₄=>
    codeAny (model X.prog X.w) X.A (.compStart (.ListComp elt (⟨tg,iter,ifs,0⟩::rest) scope pos) 0 it acc { cenv with scope:=relabel scope X.env }) (RR acc cenv.locals) s₄) X.xe s₃) X.xe s₂) X.xe s₁) X.xe s:=by
 have hcell':∀y∈scope.names,y.2≠NameKind.cell:=λy hy=>by
  have:=df.mp hcell y hy;simpa using this
 have hfr':∀y∈scope.names,y.2=NameKind.free->(X.env.kindOf y.1=some NameKind.cell\/X.env.kindOf y.1=some NameKind.free):=λy hy hl=>by
  have:=df.mp hfr y hy;simpa [hl] using this
 have hcs:∀y∈scope.names,y.2=NameKind.free->(X.env.cells.lookup y.1).isSome=true:=λy hy hl=>by
  obtain ⟨c,e⟩:=I.ok.has y.1 (hfr' y hy hl);rw[e];rfl
 have clsub:∀x c,(cV X.env scope.names []).lookup x=some c->X.env.cells.lookup x=some c:=CQ (λx c e=>by simp at e);have clhas:∀x,scope.names.lookup x=some NameKind.free->∃c,(cV X.env scope.names []).lookup x=some c:=λx e=>by
  have hm:=fe e;exact dv.mp (CZ (hcs _ hm rfl) hm)
 have rel:∀x,(relabel scope X.env).names.lookup x=(scope.names.lookup x).map λk=>if (k==NameKind.free&&X.env.scope.kind==.function&&X.env.kindOf x==some .cell)=true then NameKind.cell else k:=λx=>vp
 have relfree:∀x,((relabel scope X.env).names.lookup x=some NameKind.cell\/(relabel scope X.env).names.lookup x=some NameKind.free)->scope.names.lookup x=some NameKind.free:=λx e=>by
  rw[rel x]at e;cases z:scope.names.lookup x with
  |none=>rw[z]at e;rcases e with e |e <;> cases e
  |some k=>
   have nk:=hcell' _ (fe z);rw[z]at e;cases k with
   |free=>rfl
   |cell=>exact absurd rfl nk
   | «local»=>rcases e with e |e <;> simp[show (NameKind.«local»==NameKind.free)=false by decide]at e
   |globalExplicit=>rcases e with e |e <;> simp[show (NameKind.globalExplicit==NameKind.free)=false by decide]at e
   |globalImplicit=>rcases e with e |e <;> simp[show (NameKind.globalImplicit==NameKind.free)=false by decide]at e
 generalize hcl:cV X.env scope.names []=cl at clsub clhas;refine thn (hi p9 s Y H _ I h) λxv s0 h0=>thn h0 λitv s2 h2=>?_;obtain ⟨it,fp,tn,J,H2,e,I2,T,st2,f2,W,⟨m0,w0⟩,turn⟩:=h2;subst e;refine fS (wpAny_newFunctionEnv hcell' (by intro y hy;simp at hy) (λh₁ hns₁ hsb₁=>?_) hkind);dsimp only at hns₁ hsb₁ ⊢;generalize hH2:s2.heap.push { cls:=.type "list",dict:=none,data:=.seq ([]:AB).toArray }=HP at hns₁ hsb₁ ⊢;have hC:HP.objs.size=s2.heap.objs.size+1:=by rw[<-hH2,cq]
 have hDC:s2.heap.objs.size≠HP.objs.size:=by rw[hC];exact cp (d0 _)
 have below:∀b,b < s2.heap.objs.size->b≠HP.objs.size/\b≠s2.heap.objs.size:=λb hb=>⟨by rw[hC];exact cp (eI hb),cp hb⟩;have old:∀b o,s2.heap.get? b=some o->h₁.get? b=some o:=λb o e=>hsb₁.extBut b o (below b (a9 e)).1 (ag _ (hH2 ▸ ag _ e));have hacc:h₁.get? s2.heap.objs.size=some { cls:=.type "list",data:=.seq ([]:AB).toArray 0 }:=hsb₁.extBut _ _ hDC (ag _ (hH2 ▸ a8 _ rfl));have hst₁:tn 0 h₁:=T.keep _ _ _ st2 λb _ o e=>old b o e;have fplt:∀b∈fp,b < s2.heap.objs.size:=λb hb=>by
  obtain ⟨o,e,_⟩:=T.obj _ _ st2 b hb;exact a9 e
 have fslt:∀b∈frs X.stack,b < s2.heap.objs.size:=λb hb=>by
  obtain ⟨_,o,e,_⟩:=I2.stack.mem hb;exact a9 e
 have celllt:∀x c,cl.lookup x=some c->c < s2.heap.objs.size:=λx c e=>by
  obtain ⟨v,q⟩:=I2.cell x c (clsub x c e);exact q.lt
 have hDf:H2 s2.heap.objs.size=none:=I2.hok.fresh (am _);have hCf:H2 HP.objs.size=none:=I2.hok.fresh (by rw[hC];exact ga _);have nofs:∀b∈fp,b∉frs X.stack:=λb hb z=>by
  obtain ⟨_,f1,f2',_⟩:=f2 b hb;rcases bg.mp (I2.stkSub b z) with e |e
  .exact f1 e
  .exact f2' e
 have ok':(X.comp N' scope cl HP.objs.size s2 H2 fp (X.pn++p9)).Ok:=
  ⟨I2.ok.mod,hkind,I2.ok.glob,I2.ok.blt,(by show s2.heap.objs.size<=HP.objs.size;rw[hC];exact ga _),
   λx y c e1 e2=>I2.ok.inj x y c (clsub x c e1) (clsub y c e2),λx hx=>clhas x (relfree x hx),λx c hf _=>(by cases hf),I2.ok.hd,I2.ok.frames,.inl rfl,
   λb hb=>⟨(below b (fplt b hb)).1,λx c e=>(f2 b hb).2.2.2.2.1 x c (clsub x c e)⟩,I2.bs,bS I2.ok.bsz I2.sz,
   λb o e hb=>(by
    rcases (f2 b hb).2.2.2.1 with z |z
    .exact I2.ok.noex b o e z
    .exact absurd (b9 (a9 e) (bS I2.ok.bsz z)) (eT _)),
   nofs,I2.stack,I2.stkFree⟩
 have pnOk:∀p∈X.pn++p9,p.1 < s2.heap.objs.size/\p.1∉frs X.stack:=λp hp=>by
  obtain ⟨e,_,n1,n2,_⟩:=I2.pin p hp;refine ⟨a9 e,λz=>?_⟩;rcases bg.mp (I2.stkSub _ z) with e |e
  .exact n1 e
  .exact n2 e
 have I0:∀t,Inv (X.comp N' scope cl HP.objs.size s2 H2 fp (X.pn++p9)) [(s2.heap.objs.size,{ cls:=.type "list",data:=.seq ([]:AB).toArray 0 })] (d7 cap Y) H2 { s2 with heap:=h₁,toks:=t }:=λt=>
  ⟨ok',rfl,I2.bare,Un.kept old,⟨_,hns₁,λi x v e1 e2 _=>by
    obtain ⟨j,nj,fr,sj⟩:=hcap.at e1 e2;obtain ⟨m,_,hl⟩:=I2.loc;have hk:=hfr' (x,NameKind.free) (fe fr) rfl;obtain ⟨u,r,l⟩:=hl j x v nj sj (by rcases hk with hk |hk;exact .inr (.inl hk);exact .inr (.inr hk));refine ⟨u,r,.inr ⟨?_,?_⟩⟩
    .show (relabel scope X.env).names.lookup x=some .cell\/(relabel scope X.env).names.lookup x=some .free;rw[rel x,fr,Option.map_some];by_cases hh:(NameKind.free==NameKind.free&&X.env.scope.kind==ScopeKind.function&&X.env.kindOf x==some NameKind.cell)=true
     .exact .inl (by rw[if_pos hh])
     .exact .inr (by rw[if_neg hh])
    .obtain ⟨c,ec⟩:=clhas x fr;have ec':=clsub x c ec;rcases l with ⟨k1,_⟩ |⟨_,c',e',q⟩
     .rcases hk with hk |hk <;> (rw[hk]at k1;cases k1)
     .have ecc:X.env.cells.lookup x=some c:=ec';rw[e']at ecc;cases ecc;obtain ⟨o,ho,hd⟩:=q;exact ⟨_,ec,o,old _ _ ho,hd⟩⟩,
   λx c e=>(by obtain ⟨v,o,ho,hd⟩:=I2.cell x c (clsub x c e);exact ⟨v,o,old _ _ ho,hd⟩),hCf,λx c e=>I2.freeC x c (clsub x c e),
   λp hp=>by
    rcases bv.mp hp with z |z
    .obtain ⟨e,n0,_,_,d⟩:=I2.pin p z;exact ⟨old _ _ e,n0,(below _ (pnOk p z).1).1,(pnOk p z).2,d⟩
    .have e:p=_:=aE.mp z;subst e;exact ⟨hacc,hDf,hDC,λz=>absurd (fslt _ z) (eT _),λv z=>by have z':Data.seq _ _=Data.cell v:=z;cases z'⟩,
   I2.hok.kept old,by show (d7 cap Y).length=N'.length;unfold d7;rw[af];exact hcap.len⟩
 have fpok:∀{H':Hp}{o:Obj},(∀b∈fp,H' b=none)->∀b∈fp,eY (X.comp N' scope cl HP.objs.size s2 H2 fp (X.pn++p9)) [(s2.heap.objs.size,o)] H' b:=λhn b hb=>
  ⟨hn b hb,(below b (fplt b hb)).1,nofs b hb,.inl hb,λx c e=>(f2 b hb).2.2.2.2.1 x c (clsub x c e),λp hp=>by
   rcases bv.mp hp with z |z
   .exact (f2 b hb).2.2.2.2.2 p z
   .have e:p=_:=aE.mp z;subst e;exact Ne.symm (below b (fplt b hb)).2⟩
 have loop:∀s₃:AI,s₃={ s2 with heap:=h₁,toks:=s2.toks+([]:List (Str×AN)).length }->
   codeAny (model X.prog X.w) X.A (.compLoop (.ListComp elt (⟨tg,iter,ifs,0⟩::rest) scope pos) 0 (.ref it) (.ref s2.heap.objs.size) (compEnvC scope cl HP.objs.size X.env))
    (RR (.ref s2.heap.objs.size) HP.objs.size) s₃:=by
  rintro s₃ rfl;refine Ds hT
   (λk s'=>∃(i:Nat) (ys:AR) (its:AB) (n:Nat) (σ':St) (H':Hp),Inv (X.comp N' scope cl HP.objs.size s2 H2 fp (X.pn++p9)) [(s2.heap.objs.size,{ cls:=.type "list",data:=.seq its.toArray n })] σ' H' s'/\Vals ys its/\
    tn i s'.heap/\(∀b∈fp,H' b=none)/\W i k ys σ' H') ?_ m0 ⟨0,[],[],0,_,H2,I0 _,.nil,hst₁,λb hb=>(f2 b hb).1,w0⟩
  rintro k s3 ⟨i,ys,its,n,σ3,H3,I3,rv3,st3,fr3,w3⟩;rcases turn i k ys σ3 H3 w3 with ⟨stop,hz,qn⟩ |⟨go,hlim,step⟩
  .refine thn (T.done (X.comp N' scope cl HP.objs.size s2 H2 fp (X.pn++p9)) rfl rfl rfl hc i _ s3 σ3 H3 _ I3 (fpok fr3) st3 stop) λr s4 ⟨hr,I4⟩=>?_;subst hr;obtain ⟨m,hn,_⟩:=I4.loc;obtain ⟨pD,nD,_,_,_⟩:=I4.pin (s2.heap.objs.size,{ cls:=.type "list",data:=.seq its.toArray n }) (ba _ (aE.mpr rfl));have nC:H3 HP.objs.size=none:=I4.free;have u:Un (frs X.stack) fp H2 H3 s2.heap s4.heap:=I4.base;refine fin s2.heap.objs.size HP.objs.size (upd H3 s2.heap.objs.size (.lst ys)) s4 m ?_ (qn _ nD) hn ?_
   .refine I2.call' (s':=s4) (ch:=fp) I4.os ?_ ?_ I4.bare λb hb=>⟨(f2 b hb).2.2.2.1,(f2 b hb).2.1,(f2 b hb).2.2.2.2.1,(f2 b hb).2.2.2.2.2⟩
    .refine ⟨λb o e n0 hb hx=>u.keep b o e n0 hb hx,λb o e n0 hb hx=>u.slot b o e n0 hb hx,λb o e n0 hx=>?_,λb o e hx=>u.there b o e hx,λb xs e=>?_,λb o v e=>?_,λb ps e=>?_⟩
     .rw[aQ (below b (a9 e)).2];exact u.free b o e n0 hx
     .rw[aQ (bY e hDf)];exact u.tups b xs e
     .rw[aQ (bY e hDf)];exact u.frzs b o v e
     .rw[aQ (bY e hDf)];exact u.tbls b ps e
    .intro b o e;by_cases hb:b=s2.heap.objs.size
     .subst hb;rw[fX]at e;cases e;exact ⟨hz,its,n,rv3,pD⟩
     .rw[aQ hb]at e;exact (I4.hok b o e).stay (λc v _ q=>q) (λc q=>by rw[aQ (bY q nD)];exact q) λc xs q=>by rw[aQ (bY q nD)];exact q
   .have hle:s2.heap.objs.size<=HP.objs.size:=by rw[hC];exact ga _
    exact I2.fpOk hle (by rw[aQ (Ne.symm hDC)];exact nC)
  .refine thn (T.item (X.comp N' scope cl HP.objs.size s2 H2 fp (X.pn++p9)) rfl rfl rfl hc i _ s3 σ3 H3 _ I3 (fpok fr3) st3 go) λr s4 ⟨u,hr,h4⟩=>?_;subst hr;refine thn h4 λ_ s5 ⟨x,H5,I5,r5,y5,st5,fr5⟩=>?_;obtain ⟨g,tm,hg,hm,body⟩:=step cl HP.objs.size s2 H2 fp (X.pn++p9);have acc:AccOk (X.comp N' scope cl HP.objs.size s2 H2 fp (X.pn++p9)) s2.heap.objs.size:=
    ⟨.inr (am _),λx c e z=>absurd (celllt x c e) (by rw[z];exact eT _),λp hp z=>absurd (pnOk p hp).1 (by rw[z];exact eT _)⟩
   have I5':=I5.pinned (fpok fr5) (T.obj _ _ st5);refine thn (hg _ s5 σ3 H5 x u _ I5' r5 (body x H5 y5)) λ_ s6 ⟨σ6,H6,I6,q6⟩=>?_;intro kk Q' E' hk';refine hm _ acc (jz fp s5.heap) its n ys σ6 H6 s6 _ I6 (λp hp' e=>?_) rv3 hlim q6 kk Q' E' λs7 its' n' ys' σ7 H7 I7 rv7 ⟨m',hm',w7⟩=>hk' s7 ⟨m',hm',i+1,ys',its',n',σ7,H7,I7.pins_of λp hp'=>?_,rv7,?_,λb hb=>?_,w7⟩
   .exact (below p.1 (fplt p.1 (u9 hp').1)).2 e
   .refine I7.pin p (ba _ ?_);rw[aE.mp hp'];exact aI
   .exact T.keep _ _ _ st5 λb hb o e=>(I7.pin (b,o) (ba _ (bp _ (jA hb e)))).1
   .obtain ⟨o,e,_⟩:=T.obj _ _ st5 b hb;exact (I7.pin (b,o) (ba _ (bp _ (jA hb e)))).2.1
 exact codeAny_compStart_list (loop _ rfl) (T.self X.A 0 _ _ _ hst₁ (loop _ rfl))
def Dz{X:Cx}{elt tg iter:AO}{ifs:AE}{lim:Bool}{rest:List Comprehension}{em:AN->Env->Sem Fin->Sem Fin}{scope:Scope}{pos:Pos}{wi:TI}(N':AD)(cap:List (Option Nat))(hc:X.calm=true)(hi:PI X tg iter wi)(hcap:Caps X scope N' cap)
  (hcell:scope.names.all (λy=>y.2 != NameKind.cell)=true) (hnames:scope.names.all (λy=>y.2 != NameKind.local||scope.names.lookup y.1==some NameKind.local)=true)
  (hfr:scope.names.all (λy=>y.2 != NameKind.free||(X.env.kindOf y.1==some NameKind.cell||X.env.kindOf y.1==some NameKind.free))=true)
  (hkind:scope.kind=.function) (hs:∀x,foldedSetIterable iter X.env x=pure x) (hT:gG (.ListComp elt (⟨tg,iter,ifs,0⟩::rest) scope pos) 0 tg iter em):
  PE X (.ListComp elt (⟨tg,iter,ifs,0⟩::rest) scope pos) (vD lim X N' scope tg em wi cap):=by
 intro p9 s Y H Q I h;have hnames':∀y∈scope.names,y.2=NameKind.local->scope.names.lookup y.1=some NameKind.local:=λy hy hl=>by
  have:=df.mp hnames y hy;simpa [hl] using this
 have hcs:∀y∈scope.names,y.2=NameKind.free->(X.env.cells.lookup y.1).isSome=true:=λy hy hl=>by
  have:=df.mp hfr y hy;obtain ⟨c,e⟩:=I.ok.has y.1 (by simpa [hl] using this);rw[e];rfl
 rw[eval_ListComp];refine wpAny_comprehension_free (use:=none) (Q:=EP X p9 Y Q) rfl hs (Dc hcs) hkind hnames'
  (Dy (RR:=λacc C=>compPost (model X.prog X.w) X.A X.xe none (EP X p9 Y Q) acc C) N' cap hc hi hcap hcell hfr hkind hT I h λL C H' s4 m I4 q hn fC=>?_)
 obtain ⟨f0,f1,f2,f3,f4,f5⟩:=fC;exact ⟨m,hn,λh' hs'=>⟨.ref L,H',I4.turned (t':=s4.toks) (it:=C) (λb o hb e=>hs'.extBut b o hb e) f0 f1 f3 f4 f5,rfl,q⟩⟩
def DG{X:Cx}{elt tg iter:AO}{ifs:AE}{lim:Bool}{rest:List Comprehension}{em:AN->Env->Sem Fin->Sem Fin}{scope:Scope}{pos py spos:Pos}{wi:TI}{i:Nat}{y:Str}(hT:gG (.ListComp elt (⟨tg,iter,ifs,0⟩::rest) scope pos) 0 tg iter em)(hN:X.N.Nodup)(hiy:X.N[i]?=some y)(hy:Loc X.env.scope y)(N':AD)(cap:List (Option Nat))(hc:X.calm=true)(hi:PI X tg iter wi)(hcap:Caps X scope N' cap)
  (hcell:scope.names.all (λy=>y.2 != NameKind.cell)=true:=by rfl) (hnames:scope.names.all (λy=>y.2 != NameKind.local||scope.names.lookup y.1==some NameKind.local)=true:=by rfl)
  (hfr:scope.names.all (λy=>y.2 != NameKind.free||(X.env.kindOf y.1==some NameKind.cell||X.env.kindOf y.1==some NameKind.free))=true:=by rfl)
  (hkind:scope.kind=.function:=by rfl) (hs:∀x,foldedSetIterable iter X.env x=pure x:=by intro _;rfl)
  (hsw:swapsWith (.ListComp elt (⟨tg,iter,ifs,0⟩::rest) scope pos) (some (.Name y py)) spos.line X.env=pure true:=by rfl)
  (hf:X.fn y=true\/X.env.scope.names.lookup y=some .local:=by first |exact .inl rfl |exact .inr rfl |assumption):
  PS X (.Assign [.Name y py] (.ListComp elt (⟨tg,iter,ifs,0⟩::rest) scope pos) spos) (qR (vD lim X N' scope tg em wi cap) (qQ i)):=by
 intro p9 s Y H D I h;have hnames':∀y∈scope.names,y.2=NameKind.local->scope.names.lookup y.1=some NameKind.local:=λy hy hl=>by
  have:=df.mp hnames y hy;simpa [hl] using this
 have hcs:∀y∈scope.names,y.2=NameKind.free->(X.env.cells.lookup y.1).isSome=true:=λy hy hl=>by
  have:=df.mp hfr y hy;obtain ⟨c,e⟩:=I.ok.has y.1 (by simpa [hl] using this);rw[e];rfl
 rw[exec_Assign_Name_used _ _ _ _ hsw];refine ab (js (ab ?_));show wpAny _ X.A (do let _ <-comprehension (.ListComp elt (⟨tg,iter,ifs,0⟩::rest) scope pos) scope X.env _ (newList []) false (eval iter X.env) (some (assign (.Name y py) X.env))) _ _ s;refine ab (dr (wpAny_comprehension_free (use:=some (assign (.Name y py) X.env)) (Q:=λ_ s'=>SP X p9 D .next s') rfl hs (Dc hcs) hkind hnames'
  (Dy (RR:=λacc C=>compPost (model X.prog X.w) X.A X.xe (some (assign (.Name y py) X.env)) (λ_ s'=>SP X p9 D .next s') acc C) N' cap hc hi hcap hcell hfr hkind hT I h λL C H' s4 m I4 q hn fC=>?_)) (λ_ s' hq=>al (al hq)) λ_ _ e=>e)
 obtain ⟨oC,es,ep,eC,rC⟩:=id hn;obtain ⟨f0,f1,f2,f3,f4,f5⟩:=fC;have ncell:∀v,oC.data≠.cell v:=λv z=>by rw[rC.1]at z;cases z
 have I5:Inv X (p9++[(C,oC)]) Y H' s4:=I4.pins_of λp hp=>by
  rcases bv.mp hp with z |z
  .exact I4.pin p (ba _ z)
  .have e:p=_:=aE.mp z;subst e;exact ⟨eC,f0,f1,f2,ncell⟩
 refine wpAny_assign_Name (qP I5 hN hiy hy (v:=.ref L) (u:=.ref L) rfl (λs5 I6=>?_) hf);have eC5:s5.heap.get? C=some oC:=(I6.pin (C,oC) (ba _ (ba _ (aE.mpr rfl)))).1;have I7:Inv X p9 (Y.set i (some (.ref L))) H' s5:=I6.pins_of λp hp=>I6.pin p (ba _ (ft _ hp));refine ⟨m,⟨oC,es,ep,eC5,rC⟩,λh'' hs''=>?_⟩;exact ⟨_,H',I7.turned (t':=s5.toks) (it:=C) (λb o hb e=>hs''.extBut b o hb e) f0 f1 f3 f4 f5,q⟩
open HT
end L2
namespace PySem
open Sem (wp)
open Builtin Builtin.Str
open AutoSeq1 (wpAny_loadPart')
end PySem
namespace RF
open PySem L2 PySem.Builtin PySem.Builtin.Str PySem.StrLaws
def q8(c:Nat):AA->List (AA)
 |[]=>[[]]
 |x::r=>if x=c then []::q8 c r else (x::(q8 c r).headD [])::(q8 c r).tail
end RF
namespace L2
open PySem PySem.Spec PyProof.Rows
open Builtin Builtin.ObjectAttr
open PySem.W (findIn mroIn clsIn typeIn Looks InstAt looks_findIn looks_mroIn looks_typeIn looks_clsIn takerIn takesIn hasDictIn looks_takesIn check_slot osa_eq)
def exO(C l:AQ)(dx:Option AQ):Obj:=⟨.ref C,dx,.fields #[.ref l,.none,.none,.none,.bool false,.none],#[]⟩
open PySem.W (findIn mroIn clsIn typeIn takerIn specialIn findCls readsIn)
def Wv(f:AQ):Option AN->Bool
 |some (.ref a)=>a==f
 |_=>false
def Ww(K:PF)(N f:AQ):Bool:=match K.lookup N with
 |some ⟨_,_,.dict es _,_⟩=>es.toList.all (λe=>Dn e.key)&&Wv f (nsFind es "__init__")
 |_=>false
def Wx(K:PF)(C f:AQ):Bool:=match K.lookup C with
 |some ⟨ty,_,.cls cd,⟨[_,_,_,_,k,_]⟩⟩=>Do ty&&isNew k&&Ww K cd.ns f&&!cd.hasDel&&(match cd.mro with |v::tl=>isRef C v&&vz K tl |[]=>false)
 |_=>false
def DK(e C l:AQ)(dx:Option AQ):Heap->Prop:=λh=>h.get? e=some (exO C l dx)
def Wy(t:SetTable)(es:Array (Int×AN))(h:Int)(x:AN):(layNew t es h x).2.1.led=t.led:=by
 unfold layNew;split
 .unfold SetTable.orStandIn;dsimp only;split <;> rfl
 .rfl
def Wz(t:SetTable)(es:Array (Int×AN))(n:Nat):(relayAll t es n).2.1.led=t.led/\((relayAll t es n).2.1.plain=true->t.plain=true):=by
 unfold relayAll;split
 .rename_i t' order e;dsimp only;unfold SetTable.relaid SetTable.laid at e;split
  .cases hc:SetTable.layClean (SetTable.sizeAbove n - 1) (es.map (·.1)) with
   |none=>rw[hc]at e;cases e
   |some ow=>rw[hc]at e;cases e;exact ⟨rfl,λz=>z⟩
  .exact ⟨rfl,λz=>nomatch (show false=true from z)⟩
 .exact ⟨rfl,λz=>nomatch (show false=true from z)⟩
def isTx(prog:AK)(w:World)(e:Int×AN):Prop:=∃k tk,e=((strKind prog w).hash k,.str k tk)
def iY(e:Int×AN):Str:=match e.2 with |.str k _=>k |_=>⟨#[]⟩
def SetL(prog:AK)(w:World)(h:Heap)(a:AQ)(ks:AD)(L:Bool):Prop:=
 ∃es ep t,h.get? a=some ⟨.type "set",none,.set es ep t,#[]⟩/\(∀e∈es.toList,isTx prog w e)/\(es.toList.map iY).Perm ks/\es.size < scanBound/\t.fits es.size=true/\t.led=L/\(t.plain=true->es.size=0)
def isTx.el{prog:AK}{w:World}{l:List (Int×AN)}(h:∀e∈l,isTx prog w e):ElemsOf (strKind prog w) l:=λe he=>by
 obtain ⟨k,tk,rfl⟩:=h e he;exact ⟨⟨k,strKind_is prog w k tk,rfl⟩,rfl⟩
def isTx.is{prog:AK}{w:World}{e:Int×AN}(h:isTx prog w e)(k:Str):(strKind prog w).is k e.2=decide (iY e=k):=by obtain ⟨k',tk,rfl⟩:=h;have:=KeyKind.is_eq_decide (knd:=strKind prog w) (strKind_is prog w k' tk) k;rw[this];show decide (k=k')=decide (k'=k);rw[g9,cf,cf];exact eq_comm
section
variable {prog:AK} {w:World} {A:AM} {E:AG} {s:AI} {a:AQ} {ks:AD} {L:Bool} {k:Str} {tk:Tok}
def putK(ks:AD)(k:Str):AD:=if k∈ks then ks else ks++[k]
theorem SetL.store {h:Heap} {es es':Array (Int×AN)} {ep:Nat} {t t':SetTable} (ho:h.get? a=some ⟨.type "set",none,.set es ep t,#[]⟩):
  (h.update a (Obj.putSet es' t')).get? a=some ⟨.type "set",none,.set es' (ep+1) t',#[]⟩:=by
 have:=gt (Obj.putSet es' t') ho (by rw[putSet_of es' t' rfl];rfl);rw[putSet_of es' t' rfl]at this;exact this
theorem WD{Q:Bool->AI->Prop}(hS:SetL prog w s.heap a ks L)(hr:ks.length+1 < scanBound)
  (h:∀h' b,Heap.SameBut a s.heap h'->SetL prog w h' a (putK ks k) L->Q b { s with heap:=h' }):
  wpAny (model prog w) A (setAddHashed a (.str k tk) ((strKind prog w).hash k)) Q E s:=by
 obtain ⟨es,ep,t,ho,hel,hp,hb,hf,hL,hpl⟩:=hS;have hE:=isTx.el hel;have hn:es.size=ks.length:=by rw[<-hp.length_eq,af,bB]
 have hsc:(Value.str k tk).scannable=true:=rfl;have hkey:=strKind_is prog w k tk;unfold setAddHashed setAddHashedIn;refine dA (ab (fR ho rfl hf ?_));dsimp only;rw[byScan_of hsc hb hE];simp only[↓reduceIte];unfold setAddByScan;refine ab ?_;refine ab (eW ?_);refine ab (wpAny_setScan_of hkey ho rfl hf hE ?_);cases hr':List.findIdx? (λe=>(strKind prog w).is k e.2) es.toList with
 |some j=>
  dsimp only;obtain ⟨hj,hpj,_⟩:=gd.mp hr';have hin:k∈ks:=by have hm:=e8 hj;rw[(hel _ hm).is k,cf]at hpj;exact hp.mem_iff.mp (b6.mpr ⟨_,hm,hpj⟩)
  refine al (al ?_);have e:s={ s with heap:=s.heap }:=by cases s;rfl
  have q:=h s.heap false (Heap.SameBut.refl a s.heap) (by unfold putK;rw[if_pos hin];exact ⟨es,ep,t,ho,hel,hp,hb,hf,hL,hpl⟩);rw[e];exact q
 |none=>
  dsimp only;have hnin:k∉ks:=λhin=>by
   obtain ⟨e,he,ek⟩:=b6.mp (hp.mem_iff.mpr hin);have:=List.findIdx?_eq_none_iff.mp hr' e he;rw[(hel e he).is k,ck ek]at this;cases this
  have hgw:∀(b:Bool) {s₁:AI} {Q':Unit->AI->Prop},Q' () s₁->wpAny (model prog w) A (match b with |true=>rule "set.scan.the-table-gave-way" |false=>pure ()) Q' E s₁:=
   λb s₁ Q' hq=>by cases b <;> first |exact al hq |exact eW hq
  have hperm:=layNew_perm t es ((strKind prog w).hash k) (.str k tk);have hfits:=layNew_fits t es ((strKind prog w).hash k) (.str k tk);have hled:=Wy t es ((strKind prog w).hash k) (.str k tk);generalize hLy:layNew t es ((strKind prog w).hash k) (.str k tk)=Ly at hperm hfits hled ⊢;obtain ⟨es1,t1,wd,gv⟩:=Ly;dsimp only at hperm hfits hled ⊢;rw[hW]at hperm;have hel1:∀e∈es1.toList,isTx prog w e:=λe he=>by
   rcases bv.mp (hperm.mem_iff.mp he) with z |z
   .exact hel e z
   .rw[aE.mp z];exact ⟨k,tk,rfl⟩
  have hp1:(es1.toList.map iY).Perm (putK ks k):=by unfold putK;rw[if_neg hnin];refine (hperm.map iY).trans ?_;rw[cb];exact hp.append_right [k]
  have hz1:es1.size=ks.length+1:=by rw[<-bB,hperm.length_eq,ax,bB,hn];rfl
  have hb1:es1.size < scanBound:=by omega
  refine ab (hgw _ ?_);have tail:∀t2:SetTable,t2.fits es1.size=true->t2.led=L->t2.plain=false->wpAny (model prog w) A (do
    storeSet a es1 t2
    if (!wd&&t2.tooFull)=true then do
      (match (relayAll t2 es1 (SetTable.grown es1.size)).2.2 with |true=>rule "set.scan.the-table-gave-way" |false=>pure ())
      storeSet a (relayAll t2 es1 (SetTable.grown es1.size)).1 (relayAll t2 es1 (SetTable.grown es1.size)).2.1
      pure (some true)
     else pure (some true)) (λo s'=>o=some true/\∃h',s'={ s with heap:=h' }/\Heap.SameBut a s.heap h'/\SetL prog w h' a (putK ks k) L) E s:=by
   intro t2 f2 l2 p2;refine ab (wpAny_storeSet_of ho rfl ?_ (fits_of_scanBound hb1));have g1:=SetL.store (es':=es1) (t':=t2) ho;have sb1:=cw s.heap a (Obj.putSet es1 t2);split
   .have rp:=relayAll_perm t2 es1 (SetTable.grown es1.size);have rf':=relayAll_fits t2 es1 (SetTable.grown es1.size);have rl:=Wz t2 es1 (SetTable.grown es1.size);generalize relayAll t2 es1 (SetTable.grown es1.size)=Rl at rp rf' rl ⊢;obtain ⟨es2,t3,gv2⟩:=Rl;dsimp only at rp rf' rl ⊢;have hz2:es2.size=es1.size:=by rw[<-bB,rp.length_eq,bB]
    refine ab (hgw _ ?_);refine ab (wpAny_storeSet_of g1 rfl ?_ (fits_of_scanBound (by rw[hz2];exact hb1)));have g2:=SetL.store (es':=es2) (t':=t3) g1;refine al ⟨rfl,_,rfl,sb1.trans (cw _ a _),es2,_,t3,g2,λe he=>hel1 e (rp.mem_iff.mp he),(rp.map iY).trans hp1,by rw[hz2];exact hb1,rf',rl.1.trans l2,λz=>?_⟩;rw[p2]at rl;cases rl.2 z
   .exact al ⟨rfl,_,rfl,sb1,es1,_,t2,g1,hel1,hp1,hb1,f2,l2,λz=>by rw[p2]at z;cases z⟩
  split
  .refine ab ?_;rw[hashByValue_scannable 8 hsc];refine al ?_;refine dr (tail { t1 with plain:=false } (SetTable.fits_plain_off hfits) (hled.trans hL) rfl) (λo s' z=>?_) λ_ _ z=>z;obtain ⟨rfl,h',rfl,sb,sl⟩:=z;exact al (h h' true sb sl)
  .rename_i hnp;refine ab (al ?_);simp only[↓reduceIte];refine dr (tail t1 hfits (hled.trans hL) (!!hnp)) (λo s' z=>?_) λ_ _ z=>z;obtain ⟨rfl,h',rfl,sb,sl⟩:=z;exact al (h h' true sb sl)
end
def met(val:Nat->Str)(i:Nat):AD:=(List.range i).foldl (λks j=>putK ks (val j)) []
def vG(val:Nat->Str)(i:Nat):met val (i+1)=putK (met val i) (val i):=by unfold met;rw[iL,List.foldl_append];rfl
def WF(ks:AD)(k:Str):(putK ks k).length<=ks.length+1:=by
 unfold putK;split
 .omega
 .rw[ax];exact am _
def DN(val:Nat->Str):∀i,(met val i).length<=i
 |0=>am _
 |i+1=>by
  rw[vG];have:=WF (met val i) (val i);have:=DN val i;omega
def cJ (w:World):Bool:=w.params.followText "set-order"
section
variable {prog:AK} {w:World} {A:AM} {E:AG} {R:Result->AI->Prop} {I:AQ} {fp wr:List AQ} {GG:Array GenState->Array GenState->Prop} {n:Nat} {P:Nat->AN->Prop} {St:Nat->AI->Prop} {L:Bool}
theorem WK(W:WalksS prog w A.in1 I fp wr GG n P St)(S:AQ)(hSf:S∉fp)(val:Nat->Str)(hval:∀i v,P i v->∃t,v=.str (val i) t)(hb:n+1 < scanBound):
  ∀(j i:Nat)(s:AI),n - i=j->i<=n->St i s->SetL prog w s.heap S (met val i) L->
   (∀s',Moved (S::wr) GG s s'->SetL prog w s'.heap S (met val n) L->R (.ok (.ret .none)) s')->
   codeAny (model prog w) A (.builtin "set.update.loop" ⟨[.ref S,.ref I],[]⟩) R s:=by
 have hSw:S∉wr:=λh=>hSf (W.sub _ h);have sub:∀b∈wr,b∈S::wr:=λb hb=>bp _ hb;have keepS:∀{s s':AI}{ks:AD},Moved wr GG s s'->SetL prog w s.heap S ks L->SetL prog w s'.heap S ks L:=λm hS=>by
  obtain ⟨es,ep,t,ho,r⟩:=hS;exact ⟨es,ep,t,m.heap S _ hSw ho,r⟩
 intro j;induction j with
 |zero=>
  intro i s hj hi st hS hR;obtain rfl:i=n:=by omega
  refine ia PyProof.Rows.F.entry_set_update_loop ?_;rw[gE ip _];show wpAny _ A.in1 (pyNext (.ref I) >>= _) _ _ s;refine ab (W.done s _ _ st λs' m=>?_);show wpAny _ A.in1 (ret Value.none) _ _ s';exact al (hR s' (m.mono sub) (keepS m hS))
 |succ j ih=>
  intro i s hj hi st hS hR;have hlt:i < n:=by omega
  refine ia PyProof.Rows.F.entry_set_update_loop ?_;rw[gE ip _];show wpAny _ A.in1 (pyNext (.ref I) >>= _) _ _ s;refine ab (W.item i s _ _ hlt st λv s' hP st' m=>?_);obtain ⟨t,rfl⟩:=hval i v hP;have hS':=keepS m hS;show wpAny _ A.in1 (holding [Value.str (val i) t] (setAdd S (.str (val i) t)) >>= _) _ _ s';refine ab (dA ?_);unfold setAdd;refine dA ?_;refine ab ((strKind prog w).pyHash (k:=val i) (strKind_is prog w _ _) ?_);have hroom:(met val i).length+1 < scanBound:=by have:=DN val i;omega
  refine WD (s:={ s' with toks:=s'.toks+1 }) hS' hroom λh' b sb hS2=>?_;rw[<-vG]at hS2;refine al ⟨plainId_quiet ip _,ih (i+1) _ (!0) hlt (W.frame _ s' _ _ st' (ga _) λb hb o e=>?_) hS2 λs'' m'' hS''=>?_⟩
  .rw[sb.2 b (λh:b=S=>hSf (by rw[<-h];exact hb))];exact e
  .refine hR s'' (Moved.trans W.gtrans ((m.mono sub).then_heap (ga _) λb o hb e=>?_) m'') hS'';rw[sb.2 b (λh:b=S=>hb (by rw[h];exact aI))];exact e
end
section
variable {prog:AK} {w:World} {A:AM} {E:AG} {s:AI}
def fu (w:World):Obj:={ cls:=.type "set",dict:=none,data:=.set #[] 0 (.fresh 0 0 (!cJ w)) }
theorem WL(a:AN){Q₁:AG}(h:Q₁ (.ref (~~~s)) { s with heap:=s.heap.push (fu w) }):
  codeAny (model prog w) A (.call (.builtin "set.__new__") ⟨[.type "set",a],[]⟩) (wants Q₁ E) s:=by
 refine codeAny_of_tree ?_;show wpAny _ A.in1 (do checkBuiltinCall "set.__new__" ⟨[.type "set",a],[]⟩;again (.builtin "set.__new__" ⟨[.type "set",a],[]⟩)) _ _ s;refine ab (iE (PySem.F.newCall_set_1 a) (al ⟨plainId_quiet PySem.F.plain_set_new _,ia PySem.F.entry_set_new ?_⟩));rw[gE PySem.F.plain_set_new _];unfold Builtin.«set.__new__» Builtin.Frozenset.newClass;have hsub:=sub_set_self;obtain ⟨hp,g,d,tk,os⟩:=s;dsimp only;wp_walk
 refine wpAny_askSetting (al ?_);dsimp only;simp only[newObj];refine ab (wpAny_alloc (al ?_));exact al h
theorem WM{l:AQ}{items:Array AN}{val:Nat->Str}{Q:AG}(hh:A.handled=none)(hl:s.heap.IsList l items)(hv:∀(i:Nat)(v:AN),items[i]?=some v->∃t,v=Value.str (val i) t)(hb:items.size+1 < scanBound)
  (h:∀(h':Heap)(tk:Nat),SetL prog w h' (~~~s) (met val items.size) (!cJ w)->(∀b o,b < (~~~s)->s.heap.get? b=some o->h'.get? b=some o)->Q (.ref (~~~s)) { s with heap:=h',toks:=tk }):
  wpAny (model prog w) A (call (.type "set") [.ref l]) Q E s:=by
 obtain ⟨c,tl,hmro⟩:=fm.mro;have hmade:=fm.made;have hsub:=fm.sub;refine wpAny_call (codeAny_of_tree ?_);show wpAny _ _ (callAny (.type "set") _) _ _ _;refine al ⟨Code.quiet_builtin _ (by ac_rfl),ia PySem.F.entry_type_call ?_⟩;rw[Around.under_plain (weight_type_call_type "set" [.ref l] []) rfl];have h1:=fm.notType;have h2:=fm.canCreate;have hct:=PySem.F.typeCall_set_1 (.ref l);repeat (any_goals (first |assumption |wp_step))
 refine codeAny_mono (WL (.ref l) (E:=E) (Q₁:=λobj s₁=>obj=.ref (~~~s)/\s₁={ s with heap:=s.heap.push (fu w) }) ⟨rfl,rfl⟩) λr s₁ hr=>?_;cases r with
 |error e=>exact hr
 |ok fl=>
  cases fl with
  |ret obj=>
   obtain ⟨rfl,rfl⟩:=hr;have hS:(s.heap.push (fu w)).get? (~~~s)=some (fu w):=a8 _ rfl;have hT:Shared.TypeIs { s with heap:=s.heap.push (fu w) } (.ref (~~~s)) "set":=⟨_,hS,rfl⟩;have hli:=fm.init.lookup;have hbi:=fm.init.bind (.ref (~~~s));repeat (any_goals (first |assumption |wp_step))
   refine codeAny_mono (codeAny_call_builtin (R:=wants (λr s₂=>r=.none/\∃h' tk,s₂={ s with heap:=h',toks:=tk }/\SetL prog w h' (~~~s) (met val items.size) (!cJ w)/\
     (∀b o,b < (~~~s)->s.heap.get? b=some o->h'.get? b=some o)) E) fm.init.plain PySem.F.entry_set_init (check_set_init_1 hT ?_)) λr₂ s₂ hr₂=>?_
   .obtain ⟨ol,hol,hcl,nl,hdl⟩:=hl;obtain ⟨ocls,odict,odata,oslots⟩:=ol;simp only at hcl hdl;subst hcl;subst hdl;have hol':(s.heap.push (fu w)).get? l=some { cls:=.type "list",dict:=odict,data:=.seq items nl,slots:=oslots }:=ag _ hol;have hsls:=PySem.F.sub_list_set;have hslf:=PySem.F.sub_list_frozenset;have hne:(Value.type "list"==Value.type "dict")=false:=by decide
    have hl1:(s.heap.push (fu w)).IsList l items:=⟨_,hol',rfl,nl,rfl⟩;unfold Builtin.«set.__init__» noKeywords Builtin.Frozenset.updateFrom;generalize hPI:pyIter=PI;unfold fu at hS;wp_walk
    subst hPI;refine jp hl1 ?_;refine ab (wpAny_runValue ?_);have hlS:l < (~~~s):=a9 hol;have hh3:A.in1.in1.in1.handled=none:=by simp[hh]
    have hneI:l≠(s.heap.push (fu w)).objs.size:=by rw[cq];exact cp (eI hlS)
    have hSf:(~~~s)∉[(s.heap.push (fu w)).objs.size,l]:=by rw[cq];simp only[bg,aE,dE,hZ,not_or];exact ⟨cp (d0 _),gL hlS⟩
    refine WK (L:=!cJ w) ((Walks.list hh3 _ l hneI items).toS) (~~~s)
     hSf val hv hb (items.size - 0) 0 _ (!0) (eP _)
     ⟨⟨_,a8 _ rfl,rfl,rfl⟩,(hl1.push _)⟩ ?hS0 ?hR
    case hS0=>
     have hget:=ag { cls:=.type "list_iterator",data:=.fields #[.ref l,.int 0 0] } hS;exact ⟨#[],0,.fresh 0 0 (!cJ w),hget,λe he=>(nomatch he),fb _,by unfold scanBound;exact Nat.zero_lt_succ _,(by cases (!cJ w) <;> rfl),rfl,λ_=>rfl⟩
    case hR=>
     intro s' hm hS';obtain ⟨h',g',d',tk',os'⟩:=s';have eg:g'=s.gens:=hm.gens;have ed:d'=s.drawn:=hm.drawn;have eo:os'=s.os:=hm.os;subst eg;subst ed;subst eo;show wpAny _ _ _ _ _ _;refine al ?_;show wpAny _ _ (ret Value.none) _ _ _;refine al ⟨rfl,h',tk',rfl,hS',λb o hb e=>?_⟩;have hb1:b≠(~~~s):=cp hb;have hb2:b≠(s.heap.push (fu w)).objs.size:=by rw[cq];exact cp (eI hb)
     exact hm.heap b o (by simp only[bg,aE,dE,hZ,not_or];exact ⟨hb1,hb2⟩) (ag _ (ag _ e))
   .cases r₂ with
    |error e=>exact hr₂
    |ok fl₂=>
     cases fl₂ with
     |ret r=>
      obtain ⟨rfl,h',tk,rfl,hS',hk'⟩:=hr₂;repeat (any_goals (first |assumption |wp_step))
      exact h _ _ hS' hk'
     |_=>exact hr₂.elim
  |_=>exact hr.elim
end
def DP:Slot "set" "__iter__" "set.__iter__":=
 .of (owner:="set") (n:="__iter__") (by rw[typeLookup_type,builtinLookup_eq_fast];rfl') (by ac_rfl) (by ac_rfl) (by ac_rfl)
  (by first |exact .inl (by ac_rfl) |exact .inr (by ac_rfl)) (by rw[isSubtype_type];rfl')
def kZ:Slot "set_iterator" "__next__" "set_iterator.__next__":=
 .of (owner:="set_iterator") (n:="__next__") (by rw[typeLookup_type,builtinLookup_eq_fast];rfl') (by ac_rfl) (by ac_rfl) (by ac_rfl)
  (by first |exact .inl (by ac_rfl) |exact .inr (by ac_rfl)) (by rw[isSubtype_type];rfl')
def DQ:Slot "set_iterator" "__iter__" "set_iterator.__iter__":=
 .of (owner:="set_iterator") (n:="__iter__") (by rw[typeLookup_type,builtinLookup_eq_fast];rfl') (by ac_rfl) (by ac_rfl) (by ac_rfl)
  (by first |exact .inl (by ac_rfl) |exact .inr (by ac_rfl)) (by rw[isSubtype_type];rfl')
def WN:entryFor table "set.__iter__"=some Builtin.«frozenset.__iter__»:=
 entryFor_alias (id':="frozenset.__iter__") (by rfl') rfl (by ac_rfl) (by rfl')
def WP:entryFor table "set_iterator.__next__"=some Builtin.«set_iterator.__next__»:=entryFor_of_fast (by rfl')
def WQ:entryFor table "set_iterator.__iter__"=some Builtin.«dict_keyiterator.__iter__»:=
 entryFor_alias (id':="dict_keyiterator.__iter__") (by rfl') rfl (by ac_rfl) (by rfl')
def WR (a:AN):argsOk "set.__iter__" ⟨[a],[]⟩:=by unfold argsOk;rfl'
def WT (a:AN):argsOk "set_iterator.__next__" ⟨[a],[]⟩:=by unfold argsOk;rfl'
def WX (a:AN):argsOk "set_iterator.__iter__" ⟨[a],[]⟩:=by unfold argsOk;rfl'
def siO (f:AN) (i:Nat) (S:AQ) (n ep:Nat):Obj:={ cls:=.type "set_iterator",data:=.fields #[f,rawInt i,.ref S,rawInt n,rawInt ep] }
def d8 (es:Array (Int×AN)) (ep:Nat) (t:SetTable):Obj:=⟨.type "set",none,.set es ep t,#[]⟩
section
variable {prog:AK} {w:World} {A:AM} {E:AG} {s:AI} {I S T:AQ} {es:Array (Int×AN)} {ep:Nat} {t:SetTable}
theorem ite_no{α:Type}{c:Prop}[Decidable c]{a b:Sem α}{Q:α->AI->Prop}(hc:¬c)(h:wpAny (model prog w) A b Q E s):wpAny (model prog w) A (if c then a else b) Q E s:=by rw[if_neg hc];exact h
theorem ite_yes{α:Type}{c:Prop}[Decidable c]{a b:Sem α}{Q:α->AI->Prop}(hc:c)(h:wpAny (model prog w) A a Q E s):wpAny (model prog w) A (if c then a else b) Q E s:=by rw[if_pos hc];exact h
theorem DR{f:AN}{i n:Nat}{Q:AG}(hi:s.heap.get? I=some (siO f i S n ep))(h:Q (.ref I) s):wpAny (model prog w) A (pyIter (.ref I)) Q E s:=by have hT:s.TypeIs (.ref I) "set_iterator":=⟨_,hi,rfl⟩;refine wpAny_pyIter_slot hT DQ (eR DQ hT WQ ?_ (WX _));show wpAny _ _ (ret (.ref I)) _ _ s;exact al ⟨_,rfl,"set_iterator",_,hT,kZ.lookup,h⟩
theorem q9{f:AN}{i:Nat}{Q:Option AN->AI->Prop}(hi:s.heap.get? I=some (siO f i S es.size ep))(ho:s.heap.get? S=some (d8 es ep t))(hf:t.fits es.size=true)
  (h:wpAny (model prog w) A.in1 (if let .int slot _:=f then do
   match <-setNext S slot.toNat i ep with
   |some (x,next)=>
    setField (.ref I) 0 (rawInt next)
    setField (.ref I) 1 (rawInt ((i:Int)+1))
    ret x
   |none=>setField (.ref I) 2 .none;raiseNew (<-newExc (.type "StopIteration") [])
   else do
   let some places <-seqItems? f |unsupported "internal:set_iterator"
   match places[i]? with
   |some (.int place _)=>
    let x <-setNextDrawn S place.toNat ep
    setField (.ref I) 1 (rawInt ((i:Int)+1))
    ret x
   |some _=>unsupported "internal:set_iterator"
   |none=>setField (.ref I) 0 (rawInt 0);setField (.ref I) 2 .none;raiseNew (<-newExc (.type "StopIteration") [])) (λfin s'=>∃v,fin=.done (.ret v)/\Q (some v) s') (λe s'=>s'.TypeIs e "StopIteration"/\Q none s') s):
  wpAny (model prog w) A (pyNext (.ref I)) Q E s:=by
 have hT:s.TypeIs (.ref I) "set_iterator":=⟨_,hi,rfl⟩;unfold pyNext;refine ab (wpAny_attempt (fT (name:=⇑"__next__") hT kZ
  (eR kZ hT WP ?_ (WT _))))
 unfold Builtin.«set_iterator.__next__»;refine ab (al ?_);refine ab (wpAny_fieldsOf hi rfl ?_);dsimp only[siO,rawInt];refine ab (wpAny_setEntries_of ho rfl hf ?_);refine ite_no (by simp) ?_;refine dr h (λfin s' z=>?_) λe s' z=>?_
 .obtain ⟨v,rfl,q⟩:=z;exact ⟨v,rfl,al q⟩
 .exact ab (wpAny_isInstance z.1 isSubtype_stop (al z.2))
theorem DW {Q:Fin->AI->Prop} {E':AG} (hh:A.handled=none) (h:∀e s',s'.TypeIs e "StopIteration"->(∀b o,s.heap.get? b=some o->s'.heap.get? b=some o)->s'={ s with heap:=s'.heap }->E' e s'):
  wpAny (model prog w) A (do raiseNew (<-newExc (.type "StopIteration") [])) Q E' s:=by
 refine ab ?_;simp only[newExc,newTuple];refine ab (fS ?_ (by size_fits));refine ab (m:=firstArgMember _ _) (iE (a:=Value.none) (by first |rfl | (simp only[firstArgMember];rfl)) ?_);refine fS ?_ (by size_fits);simp only[raiseNew];refine ab (wpAny_handled ?_);rw[hh];refine ab (al (wpAny_throw ?_));exact h _ _ ⟨_,a8 _ rfl,rfl⟩ (λb o e=>ag _ (ag _ e)) rfl
theorem rm{f:AN}{i n:Nat}{h:Heap}{k:Nat}{v:AN}(hi:h.get? I=some (siO f i S n ep)):
  (h.update I (Obj.mapFields (·.setIfInBounds k v))).get? I=some { cls:=.type "set_iterator",data:=.fields (#[f,rawInt i,.ref S,rawInt n,rawInt ep].setIfInBounds k v) }:=by
 have:=gt (Obj.mapFields (·.setIfInBounds k v)) hi (Obj.isFreed_of_fields (Obj.data_mapFields rfl _));exact this
theorem WY(hh:A.handled=none)(hne:S≠I)(hf:t.fits es.size=true)(slot:Nat->Nat)(ord:Nat->AN)
  (hn:∀(i:Nat)(s:AI)(Q:Option (AN×Nat)->AI->Prop)(E:AG),i < es.size->s.heap.get? S=some (d8 es ep t)->Q (some (ord i,slot (i+1))) s->wpAny (model prog w) A.in1 (setNext S (slot i) i ep) Q E s)
  (he:∀(s:AI)(Q:Option (AN×Nat)->AI->Prop)(E:AG),s.heap.get? S=some (d8 es ep t)->Q none s->wpAny (model prog w) A.in1 (setNext S (slot es.size) es.size ep) Q E s):
  Walks prog w A I [I,S] [I] es.size (λi v=>v=ord i) (λi h=>h.get? I=some (siO (rawInt (slot i)) i S es.size ep)/\h.get? S=some (d8 es ep t)) where
 sub:=λb hb=>by simp at hb;simp[hb]
 frame:=λ_ _ _ st hk=>⟨hk I (by simp) _ st.1,hk S (by simp) _ st.2⟩
 item:=λi s Q E hi st hQ=>by
  refine q9 st.1 st.2 hf ?_;refine ab (hn i s _ _ hi st.2 ?_);dsimp only;refine ab (gV st.1 rfl (by simp) ?_);have g1:=rm (k:=0) (v:=rawInt (slot (i+1))) st.1;have g1':(s.heap.update I (Obj.mapFields (·.setIfInBounds 0 (rawInt (slot (i+1)))))).get? I=some (siO (rawInt (slot (i+1))) i S es.size ep):=g1;refine ab (gV g1' rfl (by simp) ?_);have g2:=rm (k:=1) (v:=rawInt ((i:Int)+1)) g1';refine al ⟨_,rfl,hQ _ _ s.toks rfl ⟨g2,?_⟩ λb o hb e=>?_⟩
  .exact (cw ..).extBut _ _ hne ((cw ..).extBut _ _ hne st.2)
  .have hb':b≠I:=λz=>hb (by simp[z]);exact (cw ..).extBut _ _ hb' ((cw ..).extBut _ _ hb' e)
 done:=λs Q E st hQ=>by
  refine q9 st.1 st.2 hf ?_;refine ab (he s _ _ st.2 ?_);dsimp only;refine ab (gV st.1 rfl (by simp) ?_);refine DW (!!hh) λe s' hT hk es'=>⟨hT,?_⟩;rw[es'];refine hQ _ s.toks λb o hb e=>?_;have hb':b≠I:=λz=>hb (by simp[z]);exact hk _ _ ((cw ..).extBut _ _ hb' e)
 self:=λ_ _ _ _ st hQ=>DR st.1 hQ
theorem W0(hh:A.handled=none)(hne:S≠I)(hTI:T≠I)(hf:t.fits es.size=true)(ps:AA)(hl:ps.length=es.size)(ord:Nat->Int×AN)(ho:∀i p,ps[i]?=some p->es[p]?=some (ord i)):
  Walks prog w A I [I,S,T] [I] es.size (λi v=>v=(ord i).2) (λi h=>h.get? I=some (siO (.ref T) i S es.size ep)/\h.get? S=some (d8 es ep t)/\h.get? T=some { cls:=.type "tuple",data:=.seq (ps.map λ(i:Nat)=>rawInt i).toArray }) where
 sub:=λb hb=>by simp at hb;simp[hb]
 frame:=λ_ _ _ st hk=>⟨hk I (by simp) _ st.1,hk S (by simp) _ st.2.1,hk T (by simp) _ st.2.2⟩
 item:=λi s Q E hi st hQ=>by
  refine q9 st.1 st.2.1 hf ?_;have hp:ps[i]?=some (ps[i]'(!0)):=aS _;generalize ps[i]'(!0)=p at hp;refine ab (fh st.2.2 rfl ?_);dsimp only;have e1:(ps.map λ(i:Nat)=>rawInt i).toArray[i]?=some (rawInt (p:Nat)):=by rw[hJ,av,hp];rfl
  rw[e1];dsimp only[rawInt];refine ab ?_;unfold setNextDrawn;refine ab (fR st.2.1 rfl hf ?_);dsimp only;refine ite_no (by simp) ?_;rw[show ((p:Nat):Int).toNat=p from rfl,ho i p hp];refine al ?_;refine ab (gV st.1 rfl (by simp) ?_);have g2:=rm (k:=1) (v:=rawInt ((i:Int)+1)) st.1;refine al ⟨_,rfl,hQ _ _ s.toks rfl ⟨g2,(cw ..).extBut _ _ hne st.2.1,(cw ..).extBut _ _ hTI st.2.2⟩ λb o hb e=>?_⟩;exact (cw ..).extBut _ _ (λz=>hb (by simp[z])) e
 done:=λs Q E st hQ=>by
  refine q9 st.1 st.2.1 hf ?_;refine ab (fh st.2.2 rfl ?_);dsimp only;have e1:(ps.map λ(i:Nat)=>rawInt i).toArray[es.size]?=none:=by rw[hJ,av,eA (!0)];rfl
  rw[e1];dsimp only;refine ab (gV st.1 rfl (by simp) ?_);have g1:(s.heap.update I (Obj.mapFields (·.setIfInBounds 0 (rawInt 0)))).get? I=some (siO (rawInt 0) es.size S es.size ep):=rm (k:=0) (v:=rawInt 0) st.1;refine ab (gV g1 rfl (by simp) ?_);refine DW (!!hh) λe s' hT hk es'=>⟨hT,?_⟩;rw[es'];refine hQ _ s.toks λb o hb e=>?_;have hb':b≠I:=λz=>hb (by simp[z]);exact hk _ _ ((cw ..).extBut _ _ hb' ((cw ..).extBut _ _ hb' e))
 self:=λ_ _ _ _ st hQ=>DR st.1 hQ
end
def vH{α:Type}:∀{l:List α}{i:Nat}(h:i < l.length),(l[i]::l.eraseIdx i).Perm l
 |x::l,0,_=>fb _
 |x::l,i+1,h=>(List.Perm.swap _ _ _).trans ((vH (l:=l) (i:=i) (Nat.lt_of_succ_lt_succ h)).cons x)
def DX{α:Type}(next:Nat->Nat):∀(fuel k:Nat)(left:List α)(out:Array α),left.length=fuel->(pickOrder.go next fuel k left out).toList.Perm (out.toList++left)
 |0,k,left,out,h=>by
  have:left=[]:=dL.mp h;subst this;unfold pickOrder.go;rw[fA]
 |fuel+1,k,left,out,h=>by
  have hp:0 < left.length:=by omega
  have hlt:next k % left.length < left.length:=Nat.mod_lt _ hp;unfold pickOrder.go;rw[aS hlt];dsimp only;refine (DX next fuel (k+1) _ _ (by rw[List.length_eraseIdx_of_lt hlt];omega)).trans ?_;rw[hW,bo];exact (vH hlt).append_left _
def W2{α:Type}(next:Nat->Nat)(xs:Array α):(pickOrder next xs).toList.Perm xs.toList:=by have:=DX next xs.size 0 xs.toList #[] (by simp);exact this
section
variable {prog:AK} {w:World} {A:AM} {E:AG} {s:AI} {I S T:AQ} {es:Array (Int×AN)} {ep:Nat} {t:SetTable}
theorem W3{src:Source}{n:Nat}{Q:Nat->AI->Prop}(h0:n≠0)(h:∀k,k < n->∀d,Q k { s with drawn:=d }):wpAny (model prog w) A (choose src n) Q E s:=λ_ _ _=>by
 unfold choose;rw[Sem.wp_choose];exact ⟨h0,by first |exact h _ (Nat.mod_lt _ (Nat.pos_of_ne_zero h0)) _ | (rw[Sem.wp_pure'];exact h _ (Nat.mod_lt _ (Nat.pos_of_ne_zero h0)) _)⟩
theorem W4{α:Type}(n:Nat):∀(xs:List α){s:AI}{Q:List α->AI->Prop},xs.length=n->(∀ys d,ys.Perm xs->Q ys { s with drawn:=d })->wpAny (model prog w) A (drawOrder n xs) Q E s:=by
 induction n with
 |zero=>
  intro xs s Q e h;have:xs=[]:=dL.mp e;subst this;unfold drawOrder;exact al (h [] s.drawn (fb _))
 |succ n ih=>
  intro xs s Q e h;cases xs with
  |nil=>cases e
  |cons x xs=>
   unfold drawOrder;refine ab (W3 (by simp) λk hk d=>?_);rw[aS hk];dsimp only;refine ab (ih _ (by rw[List.length_eraseIdx_of_lt hk];simp only[ci]at e ⊢;omega) λys d' hp=>al ?_);exact h _ d' ((hp.cons _).trans (vH hk))
theorem rn{Q:Bool->AI->Prop}(h:Q (cJ w) s):wpAny (model prog w) A setsByText Q E s:=by unfold setsByText;exact ab (wpAny_askSetting (al h))
theorem DY(hb:cJ w=true)(hf:t.fits es.size=true){i k:Nat}{Q:Option (AN×Nat)->AI->Prop}(ho:s.heap.get? S=some (d8 es ep t))
  (h:Q (((pickOrder (w.params.setOrder S ep) es)[i]?).map λe=>(e.2,k)) s):wpAny (model prog w) A (setNext S k i ep) Q E s:=by
 unfold setNext;refine ab (fR ho rfl hf ?_);dsimp only;refine ab (rn ?_);refine ite_yes hb ?_;refine ite_no (by simp) ?_;refine ab ?_;unfold setWalk;refine ab (fR ho rfl hf ?_);dsimp only;refine ab (rn ?_);refine ite_yes hb ?_;refine ab (wpAny_askSetting (al ?_));exact al h
theorem vI(hb:cJ w=false)(hf:t.fits es.size=true)(hL:t.led=true)(h1:es.size<=1){i k:Nat}{Q:Option (AN×Nat)->AI->Prop}(ho:s.heap.get? S=some (d8 es ep t))
  (h:Q (match es[SetTable.below t.place k]?,t.place[SetTable.below t.place k]? with
  |some (_,x),some j=>some (x,j+1)
  |_,_=>none) s):wpAny (model prog w) A (setNext S k i ep) Q E s:=by
 unfold setNext;refine ab (fR ho rfl hf ?_);dsimp only;refine ab (rn ?_);refine ite_no (by rw[hb];exact bn) ?_;refine ite_no (show ¬(!t.plain&&decide (es.size > 1))=true from by rw[cy (!0),ij];exact bn) ?_;refine ab ?_;refine ite_no (show ¬(!t.led&&!es.isEmpty)=true from by rw[hL];exact bn) ?_;exact al (al h)
theorem W5(h:t.fits es.size=true):t.place.size=es.size:=by unfold SetTable.fits at h;simp only[ae,bm]at h;exact h.1
theorem Ea{α:Type}(d:α)(xs:List α):(List.range xs.length).map (λi=>xs[i]?.getD d)=xs:=by refine List.ext_getElem (by simp) λi h1 h2=>?_;rw[List.getElem_map,List.getElem_range,aS h2];rfl
theorem Eb(po:Array (Int×AN))(hp:po.toList.Perm es.toList)(ps:AA)(hps:ps.Perm (List.range es.size)):(ps.map λi=>(po[i]?.getD (0,.none)).2).Perm (es.toList.map (·.2)):=by
 refine (hps.map _).trans ?_;have e:es.size=po.toList.length:=by rw[hp.length_eq,bB]
 rw[e];have:=fE (List.map (·.2)) (Ea (0,Value.none) po.toList);rw[eL]at this;have e2:(List.range po.toList.length).map (λi=>(po[i]?.getD (0,Value.none)).2)=po.toList.map (·.2):=by rw[<-this];refine gy λi _=>?_;show _=(po.toList[i]?.getD (0,Value.none)).2;rw[gc]
 rw[e2];exact hp.map _
def Ec(es:Array (Int×AN))(n:Nat)(ord:Nat->AN):Prop:=n=es.size/\((List.range n).map ord).Perm (es.toList.map (·.2))
theorem W6(hh:A.handled=none){L:Bool}(hL:L=!cJ w){Q:AG}(ho:s.heap.get? S=some (d8 es ep t))(hf:t.fits es.size=true)(hl:t.led=L)(hpl:t.plain=true->es.size=0)(hz:es.size<=sizeLine)
  (h:∀(h':Heap) d I fp (ord:Nat->AN) (St:Nat->Heap->Prop),(∀b o,s.heap.get? b=some o->h'.get? b=some o)->Ec es es.size ord->Walks prog w A I fp [I] es.size (λi v=>v=ord i) St->St 0 h'->(∀b∈fp,b < h'.objs.size)->I∈fp->(~~~s)<=I->(∀b∈fp,b=S\/(~~~s)<=b)->Q (.ref I) { s with heap:=h',drawn:=d }):
  wpAny (model prog w) A (pyIter (.ref S)) Q E s:=by
 have hT:s.TypeIs (.ref S) "set":=⟨_,ho,rfl⟩;have hS:S < (~~~s):=a9 ho;refine wpAny_pyIter_slot hT DP (eR DP hT WN ?_ (WR _));unfold Builtin.«frozenset.__iter__» Builtin.Frozenset.slot0;refine ab (al ?_);unfold Builtin.Frozenset.sizeOf;refine ab (ab (wpAny_setEntries_of ho rfl hf (al ?_)));refine ab ?_;unfold setDrawn;refine ab (fR ho rfl hf ?_);dsimp only;refine ab (rn (al ?_));by_cases hd:cJ w=false/\1 < es.size
 .have hp:t.plain=false:=by cases hp:t.plain with |false=>rfl |true=>have:=hpl hp;omega
  refine ite_yes (show (!cJ w&&(!t.plain&&decide (es.size > 1)))=true from by rw[hd.1,hp,ck hd.2];rfl) ?_;refine ab (W4 es.size (List.range es.size) fy λps d hps=>?_);have hlen:ps.length=es.size:=by rw[hps.length_eq,fy]
  refine ab (wpAny_newTuple ?_ (by rw[af,hlen];exact hz));unfold setEpoch;have ho1:=ag { cls:=.type "tuple",data:=.seq (ps.map λ(i:Nat)=>rawInt i).toArray } ho;refine ab (ab (fR (s:={ s with drawn:=d,heap:=_ }) ho1 rfl hf (al ?_)));refine ab (fS (al ⟨_,rfl,"set_iterator",_,⟨_,a8 _ rfl,rfl⟩,kZ.lookup,?_⟩));have hlt:∀(i p:Nat),ps[i]?=some p->p < es.size:=λi p e=>iX.mp (hps.mem_iff.mp (bb e));refine h _ d _ _ (λi=>((ps[i]?.bind λp=>es[p]?).getD (0,.none)).2) _ (λb o e=>ag _ (ag _ e)) ⟨rfl,?_⟩ (W0 (T:=(~~~s)) hh ?_ ?_ hf ps hlen (λi=>(ps[i]?.bind λp=>es[p]?).getD (0,.none)) ?_) ⟨a8 _ rfl,ag _ ho1,ag _ (a8 _ rfl)⟩ ?_ ?_ ?_ ?_
  .have e:=Eb es (fb _) ps hps;refine iN (gl ?_) e;have e3:(List.range es.size).map (λi=>ps[i]?.getD 0)=ps:=by rw[<-hlen];exact Ea 0 ps
   conv=>rhs;rw[<-e3]
   rw[eL];refine gy λi hi=>?_;have hi':i < ps.length:=by rw[hlen];exact iX.mp hi
   show ((ps[i]?.bind λp=>es[p]?).getD (0,Value.none)).2=(es[ps[i]?.getD 0]?.getD (0,Value.none)).2;rw[aS hi'];rfl
  .rw[cq];exact cp (eI hS)
  .rw[cq];exact cp (d0 _)
  .intro i p e;rw[e];show es[p]?=some (es[p]?.getD (0,.none));rw[gg (hlt i p e)];rfl
  .intro b hb;rw[cq,cq];simp only[bg,dE,hZ,cq]at hb;rcases hb with rfl |rfl |rfl
   .exact d0 _
   .exact eI (eI hS)
   .exact eI (d0 _)
  .simp
  .rw[cq];exact ga _
  .intro b hb;simp only[bg,dE,hZ,cq]at hb;rcases hb with rfl |rfl |rfl
   .exact .inr (ga _)
   .exact .inl rfl
   .exact .inr (am _)
 .refine ite_no (show ¬(!cJ w&&(!t.plain&&decide (es.size > 1)))=true from ?_) ?_
  .cases hb:cJ w with
   |true=>exact bn
   |false=>rw[cy (λz=>hd ⟨hb,z⟩),ij];exact bn
  refine ab (al ?_);unfold setEpoch;refine ab (ab (fR ho rfl hf (al ?_)));refine ab (fS (al ⟨_,rfl,"set_iterator",_,⟨_,a8 _ rfl,rfl⟩,kZ.lookup,?_⟩));have key:∃(slot:Nat->Nat)(ord:Nat->AN),slot 0=0/\Ec es es.size ord/\
    (∀(i:Nat)(s:AI)(Q:Option (AN×Nat)->AI->Prop)(E:AG),i < es.size->s.heap.get? S=some (d8 es ep t)->Q (some (ord i,slot (i+1))) s->wpAny (model prog w) A.in1 (setNext S (slot i) i ep) Q E s)/\
    (∀(s:AI)(Q:Option (AN×Nat)->AI->Prop)(E:AG),s.heap.get? S=some (d8 es ep t)->Q none s->wpAny (model prog w) A.in1 (setNext S (slot es.size) es.size ep) Q E s):=by
   cases hb:cJ w with
   |true=>
    have pp:=W2 (w.params.setOrder S ep) es;have pl:(pickOrder (w.params.setOrder S ep) es).size=es.size:=by rw[<-bB,pp.length_eq,bB]
    generalize hpo:pickOrder (w.params.setOrder S ep) es=po at pp pl;refine ⟨λ_=>0,λi=>(po[i]?.getD (0,.none)).2,rfl,⟨rfl,?_⟩,λi s Q E hi ho hq=>DY hb hf ho ?_,λs Q E ho hq=>DY hb hf ho ?_⟩
    .exact Eb po pp _ (fb _)
    .rw[hpo,gg (!0)];have:po[i]?.getD (0,.none)=po[i]'(!0):=by rw[gg (!0)];rfl
     have hq':Q (some ((po[i]?.getD (0,.none)).2,0)) s:=hq;rw[this]at hq';exact hq'
    .rw[hpo,Array.getElem?_eq_none (!0)];exact hq
   |false=>
    have h1:es.size<=1:=Nat.not_lt.mp λz=>hd ⟨hb,z⟩;have hlt:t.led=true:=by rw[hl,hL,hb];rfl
    have fl:=W5 hf;generalize hpc:t.place=pc at fl;rcases im es.size 1 with h0 |h0
    .have e0:es=#[]:=Array.size_eq_zero_iff.mp (!0);subst e0;refine ⟨λ_=>0,λ_=>.none,rfl,⟨rfl,fb _⟩,λi s Q E hi=>absurd hi (Nat.not_lt_zero i),λs Q E ho hq=>vI hb hf hlt h1 ho ?_⟩;exact hq
    .have e1:es.size=1:=by omega
     obtain ⟨e,rfl⟩:∃e,es=#[e]:=Array.size_eq_one_iff.mp e1;obtain ⟨j,rfl⟩:∃j,pc=#[j]:=Array.size_eq_one_iff.mp (!0);have b0:SetTable.below #[j] 0=0:=by show SetTable.below.go #[j] 0 1 0 1=0;unfold SetTable.below.go;show (if j < 0 then SetTable.below.go #[j] 0 0 1 1 else SetTable.below.go #[j] 0 0 0 0)=0;rw[if_neg (Nat.not_lt_zero j)];rfl
     have b1:SetTable.below #[j] (j+1)=1:=by show SetTable.below.go #[j] (j+1) 1 0 1=1;unfold SetTable.below.go;show (if j < j+1 then SetTable.below.go #[j] (j+1) 0 1 1 else SetTable.below.go #[j] (j+1) 0 0 0)=1;rw[if_pos (d0 j)];rfl
     refine ⟨λi=>match i with |0=>0 |_=>j+1,λ_=>e.2,rfl,⟨rfl,fb _⟩,λi s Q E hi ho hq=>vI hb hf hlt h1 ho ?_,λs Q E ho hq=>vI hb hf hlt h1 ho ?_⟩
     .have hi0:i=0:=by simp at hi;exact hi
      subst hi0;rw[hpc];show Q (match #[e][SetTable.below #[j] 0]?,#[j][SetTable.below #[j] 0]? with |some (_,x),some j=>some (x,j+1) |_,_=>none) s;rw[b0];exact hq
     .rw[hpc];show Q (match #[e][SetTable.below #[j] (j+1)]?,#[j][SetTable.below #[j] (j+1)]? with |some (_,x),some j=>some (x,j+1) |_,_=>none) s;rw[b1];exact hq
  obtain ⟨slot,ord,e0,od,k1,k2⟩:=key;refine h _ s.drawn _ _ ord _ (λb o e=>ag _ e) od (WY hh ?_ hf slot ord k1 k2) ⟨?_,ag _ ho⟩ ?_ ?_ ?_ ?_
  .exact cp hS
  .rw[e0];exact a8 _ rfl
  .intro b hb;rw[cq];simp only[bg,dE,hZ]at hb;rcases hb with rfl |rfl
   .exact d0 _
   .exact eI hS
  .simp
  .exact am _
  .intro b hb;simp only[bg,dE,hZ]at hb;rcases hb with rfl |rfl
   .exact .inr (am _)
   .exact .inl rfl
end
section
variable {prog:AK} {w:World} {A:AM} {E:AG} {s:AI} {S:AQ} {es:Array (Int×AN)} {ep:Nat} {t:SetTable}
theorem W7{Q:Bool->AI->Prop}(ho:s.heap.get? S=some (d8 es ep t))(h:Q false s):wpAny (model prog w) A (Builtin.List.listLengthHint (.ref S)) Q E s:=by
 have hT:s.TypeIs (.ref S) "set":=⟨_,ho,rfl⟩;unfold Builtin.List.listLengthHint;refine ab (wpAny_specialOf hT PySem.F.slot_set_len.lookup ?_)
 (generalize hid:("set.__len__":AL)=id0;(fail_if_success (clear hid id0));wp_delta;rw[show splitId id0=some ("set","__len__") from by subst hid;ac_rfl];subst hid)
 refine ab (wpAny_isInstance (b:=true) hT (by rw[isSubtype_type];rfl') ?_);refine ab (wpAny_typeOf hT ?_);exact al h
theorem touch {L:AQ} {Q:Unit->AI->Prop} (ho:s.heap.get? L=some { cls:=.type "list",dict:=none,data:=.seq #[] 0,slots:=#[] }) (h:∀h' c,h'.get? L=some { cls:=.type "list",dict:=none,data:=.seq #[] c,slots:=#[] }->(∀b o,b≠L->s.heap.get? b=some o->h'.get? b=some o)->h'.objs.size=(~~~s)->Q () { s with heap:=h' }):
  wpAny (model prog w) A (Builtin.List.listTouch (.ref L)) Q E s:=by
 unfold Builtin.List.listTouch Builtin.List.listUpdate;refine ab (wpAny_updateSeq ho rfl ?_ (by size_fits) (by show 1<=sizeLine+1;omega));have g1:=gt (Obj.mapSeq (·.push Value.none)) ho (by rfl);refine wpAny_updateSeq (s:={ s with heap:=_ }) g1 rfl ?_ (by rw[fq];decide) (by show 0<=sizeLine+1;omega);have g2:=gt (Obj.mapSeq (·.pop)) g1 (by rfl);refine h _ _ g2 (λb o hb e=>(cw ..).extBut _ _ hb ((cw ..).extBut _ _ hb e)) ?_;rw[Heap.size_update,Heap.size_update]
theorem Ed(hh:A.handled=none){L:Bool}(hL:L=!cJ w){Q:AB->AI->Prop}(ho:s.heap.get? S=some (d8 es ep t))(hf:t.fits es.size=true)(hl:t.led=L)(hpl:t.plain=true->es.size=0)(hz:es.size<=sizeLine)
  (h:∀h' d tk acc,(∀b o,s.heap.get? b=some o->h'.get? b=some o)->s.toks<=tk->acc.Perm (es.toList.map (·.2))->Q acc { s with heap:=h',drawn:=d,toks:=tk }):
  wpAny (model prog w) A (collect (.ref S)) Q E s:=by
 have hS:S < (~~~s):=a9 ho;have hSI:(~~~s)≠S:=gL hS;unfold collect;refine ab (wpAny_runValue (ia PySem.F.entry_proto_collect ?_));rw[gE PySem.F.plain_proto_collect _];show wpAny _ A.in1 (newList [] >>= λl=>again (.builtin "list.__iadd__" ⟨[l,.ref S],[]⟩)) _ _ s;refine ab (fS ?_);refine al ⟨plainId_quiet PySem.F.plain_list_iadd _,ia PySem.F.entry_list_iadd ?_⟩;rw[gE PySem.F.plain_list_iadd _];have hS₁:(s.heap.push { cls:=.type "list",data:=.seq ([]:AB).toArray }).get? (~~~s)=some { cls:=.type "list",data:=.seq ([]:AB).toArray }:=a8 _ rfl;have ho₁:=ag { cls:=.type "list",data:=.seq ([]:AB).toArray } ho;have hT₁:Shared.TypeIs { s with heap:=s.heap.push { cls:=.type "list",data:=.seq ([]:AB).toArray } } (.ref S) "set":=⟨_,ho₁,rfl⟩;have h1:Builtin.List.listSameRef (.ref (~~~s)) (.ref S)=false:=by simp[Builtin.List.listSameRef,hSI]
 show wpAny _ A.in1 (Builtin.List.listExtendWith (.ref (~~~s)) (.ref S) (.ref (~~~s))) _ _ _;unfold Builtin.List.listExtendWith;refine ab (wpAny_typeOf hT₁ ?_);rw[if_neg (by rw[h1];decide)];refine ab (W6 (!!hh) hL ho₁ hf hl hpl hz λh2 d I fp ord St k2 od W hst hfp hI hge hfo=>?_);refine ab (dA (W7 (k2 _ _ ho₁) ?_));have hLf:(~~~s)∉fp:=λz=>by
  rcases hfo _ z with e |e
  .exact hSI e
  .rw[cq]at e;exact eT _ e
 have hIL:I≠(~~~s):=λe=>hLf (e ▸ hI);refine ite_yes (by rfl) ?_;refine ab (eW ?_);refine ab (touch (k2 _ _ hS₁) λh3 c g3 k3 z3=>?_);have hst₃:=W.frame 0 _ h3 hst λb hb o e=>k3 b o (λz=>hLf (z ▸ hb)) e;refine al ⟨plainId_quiet PySem.F.plain_extend_loop _,codeAny_extend_loopS W.toS hz _ hLf _ es.size 0 _ _ _ rfl (eP _) hst₃ g3 (ItemsOf.nil _) λs' acc' c' hm hS' hacc=>?_⟩;show wpAny _ A (load (~~~s) >>= _) _ _ s';refine ab (wpAny_load hS' ?_);refine al ?_;obtain ⟨h',g',d',tk',os'⟩:=s';have eg:g'=s.gens:=hm.gens;have ed:d'=d:=hm.drawn;have eo:os'=s.os:=hm.os;subst eg;subst ed;subst eo;refine h h' d' tk' acc'.toList (λb o e=>?_) hm.toks ?_
 .have hb:=a9 e;have hb1:b≠(~~~s):=cp hb;have hb2:b≠I:=λz=>by rw[cq]at hge;rw[z]at hb;exact eT _ (b9 hb (Nat.le_of_succ_le hge))
  exact hm.heap b o (by simp only[bg,dE,hZ,not_or];exact ⟨hb1,hb2⟩) (k3 _ _ hb1 (k2 _ _ (ag _ e)))
 .refine iN (gl ?_) od.2;refine List.ext_getElem? λi=>?_;rw[av,gc];rcases im i es.size with hi |hi
  .rw[ff hi,gg (by rw[hacc.1];exact hi)];exact fE some (hacc.2 i _ (gg (by rw[hacc.1];exact hi)))
  .rw[eA (!!hi),Array.getElem?_eq_none (by rw[hacc.1];exact hi)];rfl
theorem W8{ks:AD}{Q:AG}(hh:A.handled=none)(hS:SetL prog w s.heap S ks (!cJ w))(h64:ks.length < 64)
  (h:∀(h1 h':Heap) d tk e (out:Array AN) (ss':AD),StrsAre out.toList ss'->ss'.Perm ks->sortedS ss'=true->(∀b o',s.heap.get? b=some o'->h1.get? b=some o')->(∀b o',h1.get? b=some o'->h'.get? b=some o')->s.toks<=tk->h'.get? h1.objs.size=some (seqObj "list" out e)->Q (.ref h1.objs.size) { s with heap:=h',drawn:=d,toks:=tk }):
  wpAny (model prog w) A (call (.builtin "sorted") [.ref S]) Q E s:=by
 obtain ⟨es,ep,t,ho,hel,hp,hb,hf,hl,hpl⟩:=hS;refine Calls.call_function_entry kind_sorted plain_sorted entry_sorted (args_sorted1 _) ?_;unfold Builtin.«sorted»;refine ab (m:=checkCount "sorted" 1 1 _) (al ?_);refine ab (Ed (!!hh) rfl ho hf hl hpl (by rw[fq];unfold scanBound at hb;omega) λh1 d tk acc k1 htk hacc=>?_);have hall:∀v,v∈acc->∃x u,v=Value.str x u:=λv hv=>by
  obtain ⟨e,he,rfl⟩:=b6.mp (hacc.mem_iff.mp hv);obtain ⟨k,tk,rfl⟩:=hel e he;exact ⟨k,tk,rfl⟩
 have hSA:=strsAre_map acc hall;have hlen:acc.length < 64:=by rw[hacc.length_eq,af,<-af (f:=iY),hp.length_eq];exact h64
 refine ab (wpAny_newList ?_ (by rw[fq];omega));have hoL:(h1.push (seqObj "list" acc.toArray 0)).get? h1.objs.size=some (seqObj "list" acc.toArray 0):=a8 _ rfl;show wpAny _ _ _ _ _ { s with heap:=h1.push (seqObj "list" acc.toArray 0),drawn:=d,toks:=tk };have hpk:(acc.map strOf).Perm ks:=by refine (hacc.map strOf).trans (iN (gl ?_) hp);rw[eL];refine gy λe he=>?_;obtain ⟨k,tk,rfl⟩:=hel e he;rfl
 refine ab (dA (eR slot_list_sort ⟨_,hoL,rfl⟩ entry_list_sort (list_sort_treeK strKind_oneLt hoL hSA.keysOf (λv₁ v₂ rest e=>keyKind_strs (by rw[<-e];exact hSA)) hlen λst' hp' hs'=>⟨_,rfl,?_⟩) (args_list_sort _)));obtain ⟨ss',a1,a2,a3⟩:=sorted_out_str hSA hp' hs';generalize (arrOf st').map (·.2)=out at a1;obtain ⟨e,he⟩:=sortedHeap_at (vs:=acc) (out:=out) hoL;refine al ⟨_,rfl,h h1 _ d tk e out ss' a1 (a2.trans hpk) a3 k1 (λb o' hb1=>?_) htk he⟩;rw[sortedHeap_old (cp (a9 hb1)) (by rw[size_push'];exact eI (a9 hb1))];exact ag _ hb1
end
def Ef:Bool->Keyed->Array Keyed->Nat->Nat->Nat->StateT SortSt Sem (Option Nat):=sortPriv% PySem.Builtin.gallop
def Eg:Array Keyed->Array Keyed->StateT SortSt Sem (Array Keyed):=sortPriv% PySem.Builtin.mergeLo
def Eh:Array Keyed->Array Keyed->StateT SortSt Sem (Array Keyed):=sortPriv% PySem.Builtin.mergeHi
section
variable {prog:AK} {w:World} {A:AM} {E:AG} {s:AI} {κ:PyProof.Rows.KeyKind}
def okK(κ:PyProof.Rows.KeyKind)(p:Keyed):Prop:=∃a,κ.keyOf p.1=some a
def okA(κ:PyProof.Rows.KeyKind)(xs:Array Keyed):Prop:=∀p,p∈xs.toList->okK κ p
theorem aJ{Y α:Type}{c:Prop}[Decidable c]{a b:StateT Y Sem α}{Q:α->Y->Prop}{st:Y}(ha:c->PyProof.Rows.wpS (model prog w) A E s a Q st)(hb:¬c->PyProof.Rows.wpS (model prog w) A E s b Q st):PyProof.Rows.wpS (model prog w) A E s (if c then a else b) Q st:=by
 by_cases h:c
 .rw[if_pos h];exact ha h
 .rw[if_neg h];exact hb h
theorem Ei{Y α:Type}{c:Prop}[Decidable c]{R:Nat->StateT Y Sem α}{m1 m2:Nat}{Q:α->Y->Prop}{st:Y}(h:∀m,PyProof.Rows.wpS (model prog w) A E s (R m) Q st):PyProof.Rows.wpS (model prog w) A E s (if c then R m1 else R m2) Q st:=
 aJ (λ_=>h _) λ_=>h _
theorem rz{Y α β:Type}{c:Prop}[Decidable c]{R:β->Nat->StateT Y Sem α}{B:StateT Y Sem α}{a:β}{i:Nat}{Q:α->Y->Prop}{st:Y}(P:β->Nat->Prop)(h0:P a i)(h:∀a i,P a i->PyProof.Rows.wpS (model prog w) A E s (R a i) Q st)
  (hB:c->(∀a i,P a i->PyProof.Rows.wpS (model prog w) A E s (R a i) Q st)->PyProof.Rows.wpS (model prog w) A E s B Q st):PyProof.Rows.wpS (model prog w) A E s (if c then B else R a i) Q st:=
 aJ (λhc=>hB hc h) λ_=>h _ _ h0
theorem nb{a b:Nat}(h:¬(a==b)=true):a≠b:=λz=>h (bm.mpr z)
theorem lg(hO:κ.OneLt){st:SortSt}{x y:Keyed}{Q:Option Bool->SortSt->Prop}(hk:kindOf st=oneType')(hx:okK κ x)(hy:okK κ y)(h:∀b,Q (some b) st):PyProof.Rows.wpS (model prog w) A E s (lt' x y) Q st:=by obtain ⟨a,ha⟩:=hx;obtain ⟨b,hb⟩:=hy;rw[lt'_eq];refine aw (wpS_get ?_);rw[hk,keyLt'_oneType];refine aw (wpS_lift (wpAny_attempt (hO _ _ _ _ _ _ _ a b ha hb ⟨rfl,?_⟩)));exact aT (h _)
theorem bZ{xs:Array Keyed}{i:Nat}{st:SortSt}{Q:Keyed->SortSt->Prop}(hi:i < xs.size)(h:Q xs[i] st):PyProof.Rows.wpS (model prog w) A E s (elem' xs i) Q st:=by rw[elem'_eq,getElem?_pos xs i hi];exact aT h
theorem okA.at{xs:Array Keyed}(h:okA κ xs){i:Nat}(hi:i < xs.size):okK κ xs[i]:=h _ (by simp)
theorem lq(hO:κ.OneLt){left:Bool}{key:Keyed}{xs:Array Keyed}{i:Nat}{st:SortSt}{Q:Option Bool->SortSt->Prop}(hk:kindOf st=oneType')(hkey:okK κ key)(hxs:okA κ xs)(hi:i < xs.size)
  (h:∀b,Q (some b) st):PyProof.Rows.wpS (model prog w) A E s (do let x <-elem' xs i;if left=true then lt' x key else do let r <-lt' key x;pure (Option.map (λx=>!x) r)) Q st:=by
 refine aw (bZ hi ?_);cases left with
 |true=>exact lg hO hk (hxs.at hi) hkey h
 |false=>exact aw (lg hO hk hkey (hxs.at hi) λb=>aT (h _))
theorem jB(hO:κ.OneLt){left:Bool}{key:Keyed}{xs:Array Keyed}{base n hint:Nat}{st:SortSt}{Q:Option Nat->SortSt->Prop}(hk:kindOf st=oneType')(hkey:okK κ key)(hxs:okA κ xs)(hb:base+n<=xs.size)(hh:hint < n)
  (h:∀k,k<=n->Q (some k) st):PyProof.Rows.wpS (model prog w) A E s (Ef left key xs base n hint) Q st:=by
 unfold Ef;refine aw (lq hO hk hkey hxs (!0) λright=>?_);dsimp only;cases right with
 |true=>
  simp only[↓reduceIte];refine aw (wpS_mono (dS (I:=λ_ c st'=>st'=st/\∃l o,c=(none,l,o)/\l < n - hint) (Q:=λc st'=>st'=st/\∃l o,c=(none,l,o)/\l < n - hint) ?step (λ_ _ hh=>hh) ⟨rfl,0,1,rfl,!0⟩) ?post);case step=>
   rintro x c st' _ _ ⟨rfl,l,o,rfl,hl⟩;dsimp only;split
   .exact aT ⟨rfl,l,o,rfl,hl⟩
   .refine aw (lq hO hk hkey hxs (!0) λmore=>?_);dsimp only;split
    .exact aT ⟨rfl,l,o,rfl,hl⟩
    .exact aT ⟨rfl,o,_,rfl,!0⟩
  case post=>
   rintro c st' ⟨rfl,l,o,rfl,hl⟩;dsimp only;refine aw (wpS_mono (dS (I:=λ_ c st''=>st''=st'/\∃l o,c=(none,l,o)/\o<=n) (Q:=λc st''=>st''=st'/\∃l o,c=(none,l,o)/\o<=n) ?step2 (λ_ _ hh=>hh) ⟨rfl,_,_,rfl,!0⟩) ?post2);case step2=>
    rintro x c st' _ _ ⟨rfl,l,o,rfl,hl⟩;dsimp only;split
    .exact aT ⟨rfl,l,o,rfl,hl⟩
    .refine aw (lq hO hk hkey hxs (!0) λmore=>?_);dsimp only;split
     .exact aT ⟨rfl,_,o,rfl,hl⟩
     .exact aT ⟨rfl,_,_,rfl,!0⟩
   case post2=>
    rintro c st'' ⟨rfl,l,o,rfl,hl⟩;exact aT (h o hl)
 |false=>
  simp only[gT,↓reduceIte];refine aw (wpS_mono (dS (I:=λ_ c st'=>st'=st/\∃l o,c=(none,l,o)/\l < hint+1) (Q:=λc st'=>st'=st/\∃l o,c=(none,l,o)/\l < hint+1) ?step (λ_ _ hh=>hh) ⟨rfl,0,1,rfl,!0⟩) ?post);case step=>
   rintro x c st' _ _ ⟨rfl,l,o,rfl,hl⟩;dsimp only;split
   .exact aT ⟨rfl,l,o,rfl,hl⟩
   .refine aw (lq hO hk hkey hxs (!0) λmore=>?_);dsimp only;split
    .exact aT ⟨rfl,l,o,rfl,hl⟩
    .exact aT ⟨rfl,o,_,rfl,!0⟩
  case post=>
   rintro c st' ⟨rfl,l,o,rfl,hl⟩;dsimp only;refine aw (wpS_mono (dS (I:=λ_ c st''=>st''=st'/\∃l o,c=(none,l,o)/\o<=n) (Q:=λc st''=>st''=st'/\∃l o,c=(none,l,o)/\o<=n) ?step2 (λ_ _ hh=>hh) ⟨rfl,_,_,rfl,!0⟩) ?post2);case step2=>
    rintro x c st' _ _ ⟨rfl,l,o,rfl,hl⟩;dsimp only;split
    .exact aT ⟨rfl,l,o,rfl,hl⟩
    .refine aw (lq hO hk hkey hxs (!0) λmore=>?_);dsimp only;split
     .exact aT ⟨rfl,_,o,rfl,hl⟩
     .exact aT ⟨rfl,_,_,rfl,!0⟩
   case post2=>
    rintro c st'' ⟨rfl,l,o,rfl,hl⟩;exact aT (h o hl)
def Same1(st st':SortSt):Prop:=kindOf st'=kindOf st/\arrOf st'=arrOf st/\pendingOf st'=pendingOf st/\failedOf st'=failedOf st
theorem Same1.refl(st:SortSt):Same1 st st:=⟨rfl,rfl,rfl,rfl⟩
theorem Same1.k{st st':SortSt}(h:Same1 st st')(hk:kindOf st=oneType'):kindOf st'=oneType':=h.1.trans hk
section
variable {xs ys:Array Keyed}
def JL(xs ys:Array Keyed)(out:Array Keyed)(i j:Nat):Prop:=out.toList.Perm (xs.toList.take i++ys.toList.take j)
def All(xs ys out:Array Keyed):Prop:=out.toList.Perm (xs.toList++ys.toList)
theorem Ej(xs:Array Keyed)(i k:Nat):xs.toList.take (i+k)=xs.toList.take i++(xs.extract i (i+k)).toList:=by rw[fw,fI,List.take_add,Nat.add_sub_cancel_left]
theorem Ek{i:Nat}(hi:i < xs.size):xs.toList.take (i+1)=xs.toList.take i++[xs[i]]:=by rw[da,gc,getElem?_pos xs i hi];rfl
theorem El(xs:Array Keyed)(i:Nat):xs.toList=xs.toList.take i++(xs.extract i).toList:=by rw[fw,fI,fF (l:=List.drop i xs.toList) (by rw[ce,bB];exact am _),eS]
variable {out:Array Keyed} {i j k:Nat}
theorem JL.appX(h:JL xs ys out i j):JL xs ys (out++xs.extract i (i+k)) (i+k) j:=by unfold JL at h ⊢;rw[cr,Ej,bo];refine (h.append_right _).trans ?_;rw[bo];exact dc.append_left _
theorem JL.appY(h:JL xs ys out i j):JL xs ys (out++ys.extract j (j+k)) i (j+k):=by unfold JL at h ⊢;rw[cr,Ej,<-bo];exact h.append_right _
theorem JL.pushX(h:JL xs ys out i j)(hi:i < xs.size):JL xs ys (out.push xs[i]) (i+1) j:=by unfold JL at h ⊢;rw[hW,Ek hi,bo];refine (h.append_right _).trans ?_;rw[bo];exact dc.append_left _
theorem JL.pushY(h:JL xs ys out i j)(hj:j < ys.size):JL xs ys (out.push ys[j]) i (j+1):=by unfold JL at h ⊢;rw[hW,Ek hj,<-bo];exact h.append_right _
theorem JL.done(h:JL xs ys out i j):All xs ys (out++xs.extract i++ys.extract j):=by
 unfold JL at h;unfold All;rw[cr,cr];conv=>rhs;rw[El xs i,El ys j]
 rw[bo,bo];refine (h.append_right _).trans ?_;rw[bo];refine List.Perm.append_left _ ?_;rw[<-bo,<-bo];exact dc.append_right _
theorem JL.last(h:JL xs ys out i j):All xs ys (out++ys.extract j++xs.extract i):=by refine iN ?_ h.done;rw[cr,cr,cr,cr,bo,bo];exact dc.append_left _
end
def MQ(xs ys:Array Keyed)(st:SortSt)(lo:Nat)(r:Option (Array Keyed))(out:Array Keyed)(i j:Nat)(st':SortSt):Prop:=
 Same1 st st'/\match r with |some r=>All xs ys r |none=>JL xs ys out i j/\i+1 < xs.size/\j < ys.size/\lo<=i+j
theorem lr{xs ys out:Array Keyed}{st st':SortSt}{i j:Nat}(lo:Nat)(sm:Same1 st st')(jl:JL xs ys out i j)(h1:i+1 < xs.size)(h2:j < ys.size)(h3:lo<=i+j):MQ xs ys st lo none out i j st':=⟨sm,jl,h1,h2,h3⟩
theorem W9(hO:κ.OneLt){xs ys:Array Keyed}{st:SortSt}{Q:Array Keyed->SortSt->Prop}(hk:kindOf st=oneType')(hxs:okA κ xs)(hys:okA κ ys)(hx:0 < xs.size)(hy:0 < ys.size)
  (h:∀out st',All xs ys out->Same1 st st'->Q out st'):PyProof.Rows.wpS (model prog w) A E s (Eg xs ys) Q st:=by
 unfold Eg;refine aw (wpS_lift (eW ⟨rfl,?_⟩));dsimp only;refine aw (bZ hy ?_);have j0:JL xs ys #[ys[0]] 0 1:=by have:=JL.pushY (xs:=xs) (ys:=ys) (out:=#[]) (i:=0) (j:=0) (fb _) hy;exact this
 refine aJ (λ_=>aT (h _ _ j0.done (Same1.refl st))) λh1=>?_;refine aJ (λ_=>aT (h _ _ j0.last (Same1.refl st))) λh2=>?_;have h1:¬1=ys.size:=λz=>h1 (bm.mpr z);have h2:¬0+1=xs.size:=λz=>h2 (bm.mpr z);refine aw (wpS_get ?_);refine aw (wpS_mono (dS (I:=λx c st'=>∃out i j mg,c=(none,out,i,j,mg)/\MQ xs ys st (x+1) none out i j st') (Q:=λc st'=>∃r,c.1=some r/\All xs ys r/\Same1 st st') ?step ?fin ⟨_,0,1,_,rfl,Same1.refl st,j0,!0,!0,!0⟩) ?post);case post=>
  rintro ⟨c1,c2⟩ st' ⟨r,e,hr,sm⟩;dsimp only at e;subst e;exact aT (h _ _ hr sm)
 case fin=>
  rintro c st' ⟨out,i,j,mg,rfl,sm,jl,b1,b2,b3⟩;omega
 case step=>
  rintro x c st' _ hxt ⟨out,i,j,mg,rfl,sm,jl,b1,b2,b3⟩;dsimp only;refine aw (wpS_mono (dS (I:=λy c st'=>∃out i' j' ac bc,c=(none,out,i',j',ac,bc)/\MQ xs ys st (i+j+y) none out i' j' st') (Q:=λc st'=>MQ xs ys st (i+j+1) c.1 c.2.1 c.2.2.1 c.2.2.2.1 st') ?step1 ?fin1 ⟨_,i,j,_,_,rfl,sm,jl,b1,b2,!0⟩) ?post1);case fin1=>
   rintro c st' ⟨out,i',j',ac,bc,rfl,sm,jl,c1,c2,c3⟩;exact ⟨sm,jl,c1,c2,!0⟩
  case step1=>
   rintro y c st' _ hyt ⟨out,i',j',ac,bc,rfl,sm,jl,c1,c2,c3⟩;dsimp only;refine aw (bZ (!0) (aw (bZ (!0) ?_)));refine aw (lg hO (sm.k hk) (hys.at (!0)) (hxs.at (!0)) λb=>?_);refine aJ (λ_=>?_) λ_=>?_
   .refine aw (bZ (!0) ?_);have jl':=jl.pushY (!0);refine aJ (λ_=>aT ⟨sm,jl'.done⟩) λh3=>?_;have h3:¬j'+1=ys.size:=λz=>h3 (bm.mpr z);have q1:=lr (i+j+1) sm jl' (!0) (!0) (!0);have q2:=lr (i+j+(y+1)) sm jl' (!0) (!0) (!0);exact aJ (λ_=>aT q1) λ_=>aT ⟨_,_,_,_,_,rfl,q2⟩
   .refine aw (bZ (!0) ?_);have jl':=jl.pushX (!0);refine aJ (λ_=>aT ⟨sm,jl'.last⟩) λh3=>?_;have h3:¬i'+1+1=xs.size:=λz=>h3 (bm.mpr z);have q1:=lr (i+j+1) sm jl' (!0) (!0) (!0);have q2:=lr (i+j+(y+1)) sm jl' (!0) (!0) (!0);exact aJ (λ_=>aT q1) λ_=>aT ⟨_,_,_,_,_,rfl,q2⟩
  case post1=>
   rintro ⟨r,out1,i1,j1,ac,bc⟩ st1 ⟨sm1,hr⟩;dsimp only at hr ⊢;cases r with
   |some r=>exact aT ⟨r,rfl,hr,sm1⟩
   |none=>
    obtain ⟨jl1,d1,d2,d3⟩:=hr;dsimp only;refine aw (wpS_lift (eW ⟨rfl,?_⟩));refine aw (wpS_mono (dS (I:=λy c st'=>∃out i' j' mg ac bc,c=(none,out,i',j',mg,ac,bc)/\MQ xs ys st (i+j+1) none out i' j' st') (Q:=λc st'=>MQ xs ys st (i+j+1) c.1 c.2.1 c.2.2.1 c.2.2.2.1 st') ?step2 ?fin2 ⟨_,i1,j1,_,_,_,rfl,sm1,jl1,d1,d2,d3⟩) ?post2);case fin2=>
     rintro c st' ⟨out,i',j',mg,ac,bc,rfl,sm,jl,c1,c2,c3⟩;exact ⟨sm,jl,c1,c2,c3⟩
    case post2=>
     rintro ⟨r,out2,i2,j2,mg2,ac2,bc2⟩ st2 ⟨sm2,hr⟩;dsimp only at hr ⊢;cases r with
     |some r=>exact aT ⟨r,rfl,hr,sm2⟩
     |none=>
      obtain ⟨jl2,e1,e2,e3⟩:=hr;dsimp only;refine aw (gI ?_);exact aT ⟨_,i2,j2,_,rfl,sm2,jl2,e1,e2,!0⟩
    case step2=>
     rintro y c st2 _ hyt ⟨out,i',j',mg,ac,bc,rfl,sm,jl,c1,c2,c3⟩;dsimp only;generalize mg - 1=m1;apply Ei (m1:=m1) (m2:=mg);intro m;refine aw (gI ?_);refine aw (bZ c2 ?_);refine aw (jB hO (sm.k hk) (hys.at c2) hxs (!0) (!0) λk hk'=>?_);apply rz (a:=out) (i:=i') (λo i2=>JL xs ys o i2 j'/\i2+1 < xs.size/\i'<=i2) ⟨jl,c1,am _⟩
     .rintro o2 i2 ⟨jl2,e1,e2⟩;have e3:=Nat.lt_of_succ_lt e1;refine aw (bZ c2 ?_);have jl3:=jl2.pushY c2;refine aJ (λ_=>aT ⟨sm,jl3.done⟩) λh5=>?_;have h6:j'+1 < ys.size:=Nat.lt_of_le_of_ne c2 (nb h5);have hjj:j'<=j'+1:=ga _;refine aw (bZ e3 ?_);refine aw (jB hO (sm.k hk) (hxs.at e3) hys (!0) (!0) λk2 hk2=>?_);generalize j'+1=j1' at *;generalize o2.push ys[j']=o3 at *;apply rz (a:=o3) (i:=j1') (λo j2=>JL xs ys o i2 j2/\j2 < ys.size/\j1'<=j2) ⟨jl3,h6,am _⟩
      .rintro o4 j4 ⟨jl4,f1,f2⟩;refine aw (bZ e3 ?_);have jl5:=jl4.pushX e3;refine aJ (λ_=>aT ⟨sm,jl5.last⟩) λh7=>?_;have q:=lr (i+j+1) sm jl5 (Nat.lt_of_le_of_ne e1 (nb h7)) f1 (bS c3 (Nat.add_le_add (Nat.le_succ_of_le e2) (bS hjj f2)));exact aJ (λ_=>aT q) λ_=>aT ⟨_,_,_,_,_,_,rfl,q⟩
      .intro _ R;have jl4:=jl3.appY (k:=k2);exact aJ (λ_=>aT ⟨sm,jl4.done⟩) λh8=>R _ _ ⟨jl4,by have:=nb h8;omega,d6 _ _⟩
     .intro _ R;have jl2:=jl.appX (k:=k);refine aJ (λ_=>aT ⟨sm,jl2.last⟩) λh3=>?_;exact aJ (λ_=>aT ⟨sm,jl2.done⟩) λh4=>R _ _ ⟨jl2,by have:=nb h3;have:=nb h4;omega,d6 _ _⟩
end
section
variable {xs ys:Array Keyed}
def JH(xs ys:Array Keyed)(out:Array Keyed)(i j:Nat):Prop:=out.toList.Perm (xs.toList.drop i++ys.toList.drop j)
theorem Em(xs:Array Keyed){i k:Nat}(hk:k<=i)(hi:i<=xs.size):xs.toList.drop k=(xs.extract k i).toList++xs.toList.drop i:=by
 rw[fw,fI];conv=>lhs;rw[<-eS (i - k) (xs.toList.drop k)]
 rw[List.drop_drop,iq hk]
theorem Eo{i:Nat}(h0:0 < i)(hi:i<=xs.size):xs.toList.drop (i - 1)=xs[i - 1]::xs.toList.drop i:=by rw[bP (by rw[bB];omega),Nat.sub_add_cancel h0];rfl
theorem Ep(xs:Array Keyed)(i:Nat):xs.toList=(xs.extract 0 i).toList++xs.toList.drop i:=by rw[fw,fI,List.drop_zero,Nat.sub_zero,eS]
variable {out:Array Keyed} {i j k:Nat}
theorem JH.appX(h:JH xs ys out i j)(hk:k<=i)(hi:i<=xs.size):JH xs ys (out++(xs.extract k i).reverse) k j:=by unfold JH at h ⊢;rw[cr,Array.toList_reverse,Em xs hk hi,bo];exact ((List.reverse_perm _).append h |> λz=>(dc.trans z))
theorem JH.appY(h:JH xs ys out i j)(hk:k<=j)(hj:j<=ys.size):JH xs ys (out++(ys.extract k j).reverse) i k:=by unfold JH at h ⊢;rw[cr,Array.toList_reverse,Em ys hk hj];refine dc.trans (((List.reverse_perm _).append h).trans ?_);rw[<-bo,<-bo];exact dc.append_right _
theorem JH.pushX(h:JH xs ys out i j)(h0:0 < i)(hi:i<=xs.size):JH xs ys (out.push xs[i - 1]) (i - 1) j:=by unfold JH at h ⊢;rw[hW,Eo h0 hi,List.cons_append];exact dc.trans (h.cons _)
theorem JH.pushY(h:JH xs ys out i j)(h0:0 < j)(hj:j<=ys.size):JH xs ys (out.push ys[j - 1]) i (j - 1):=by unfold JH at h ⊢;rw[hW,Eo h0 hj];refine dc.trans ((h.cons _).trans ?_);exact List.perm_middle.symm
theorem JH.done(h:JH xs ys out i j):All xs ys (xs.extract 0 i++ys.extract 0 j++out.reverse):=by
 unfold JH at h;unfold All;rw[cr,cr,Array.toList_reverse];conv=>rhs;rw[Ep xs i,Ep ys j]
 rw[bo,bo];refine List.Perm.append_left _ ?_;refine (((List.reverse_perm _).trans h).append_left _).trans ?_;rw[<-bo,<-bo];exact dc.append_right _
theorem JH.fst(h:JH xs ys out i j):All xs ys (ys.extract 0 j++xs.extract 0 i++out.reverse):=by refine iN ?_ h.done;rw[cr,cr,cr,cr];exact dc.append_right _
end
section
variable {prog:AK} {w:World} {A:AM} {E:AG} {s:AI} {κ:PyProof.Rows.KeyKind}
def MH(xs ys:Array Keyed)(st:SortSt)(lo:Nat)(r:Option (Array Keyed))(out:Array Keyed)(i j:Nat)(st':SortSt):Prop:=
 Same1 st st'/\match r with |some r=>All xs ys r |none=>JH xs ys out i j/\0 < i/\i<=xs.size/\1 < j/\j<=ys.size/\lo+i+j<=xs.size+ys.size
theorem jC{xs ys out:Array Keyed}{st st':SortSt}{i j:Nat}(lo:Nat)(sm:Same1 st st')(jl:JH xs ys out i j)(h1:0 < i)(h2:i<=xs.size)(h3:1 < j)(h4:j<=ys.size)(h5:lo+i+j<=xs.size+ys.size):MH xs ys st lo none out i j st':=⟨sm,jl,h1,h2,h3,h4,h5⟩
theorem Xa(hO:κ.OneLt){xs ys:Array Keyed}{st:SortSt}{Q:Array Keyed->SortSt->Prop}(hk:kindOf st=oneType')(hxs:okA κ xs)(hys:okA κ ys)(hx:0 < xs.size)(hy:0 < ys.size)
  (h:∀out st',All xs ys out->Same1 st st'->Q out st'):PyProof.Rows.wpS (model prog w) A E s (Eh xs ys) Q st:=by
 unfold Eh;refine aw (wpS_lift (eW ⟨rfl,?_⟩));dsimp only;refine aw (bZ (show xs.size - 1 < xs.size by omega) ?_);have j0:JH xs ys #[xs[xs.size - 1]] (xs.size - 1) ys.size:=by have:=JH.pushX (xs:=xs) (ys:=ys) (out:=#[]) (i:=xs.size) (j:=ys.size) (by unfold JH;rw[<-bB,dP,<-bB,dP];exact fb _) hx (am _);exact this
 refine aJ (λ_=>aT (h _ _ j0.done (Same1.refl st))) λh1=>?_;refine aJ (λ_=>aT (h _ _ j0.fst (Same1.refl st))) λh2=>?_;have h1:=nb h1;have h2:=nb h2;refine aw (wpS_get ?_);refine aw (wpS_mono (dS (I:=λx c st'=>∃i j out mg,c=(none,i,j,out,mg)/\MH xs ys st (x+1) none out i j st') (Q:=λc st'=>∃r,c.1=some r/\All xs ys r/\Same1 st st') ?step ?fin ⟨_,_,_,_,rfl,Same1.refl st,j0,!0,!0,!0,!0,!0⟩) ?post);case post=>
  rintro ⟨c1,c2⟩ st' ⟨r,e,hr,sm⟩;dsimp only at e;subst e;exact aT (h _ _ hr sm)
 case fin=>
  rintro c st' ⟨i,j,out,mg,rfl,sm,jl,b1,b2,b3,b4,b5⟩;omega
 case step=>
  rintro x c st' _ hxt ⟨i,j,out,mg,rfl,sm,jl,b1,b2,b3,b4,b5⟩;dsimp only;refine aw (wpS_mono (dS (I:=λy c st'=>∃i' j' out ac bc,c=(none,i',j',out,ac,bc)/\MH xs ys st (x+1+y) none out i' j' st') (Q:=λc st'=>MH xs ys st (x+2) c.1 c.2.2.2.1 c.2.1 c.2.2.1 st') ?step1 ?fin1 ⟨i,j,_,_,_,rfl,sm,jl,b1,b2,b3,b4,!0⟩) ?post1);case fin1=>
   rintro c st' ⟨i',j',out,ac,bc,rfl,sm,jl,c1,c2,c3,c4,c5⟩;exact jC (x+2) sm jl c1 c2 c3 c4 (!0)
  case step1=>
   rintro y c st' _ hyt ⟨i',j',out,ac,bc,rfl,sm,jl,c1,c2,c3,c4,c5⟩;dsimp only;refine aw (bZ (!0) (aw (bZ (!0) ?_)));refine aw (lg hO (sm.k hk) (hys.at (!0)) (hxs.at (!0)) λb=>?_);refine aJ (λ_=>?_) λ_=>?_
   .refine aw (bZ (!0) ?_);have jl':=jl.pushX (!0) (!0);refine aJ (λ_=>aT ⟨sm,jl'.done⟩) λh3=>?_;have h3:=nb h3;have q1:=jC (x+2) sm jl' (!0) (!0) (!0) (!0) (!0);have q2:=jC (x+1+(y+1)) sm jl' (!0) (!0) (!0) (!0) (!0);exact aJ (λ_=>aT q1) λ_=>aT ⟨_,_,_,_,_,rfl,q2⟩
   .refine aw (bZ (!0) ?_);have jl':=jl.pushY (!0) (!0);refine aJ (λ_=>aT ⟨sm,jl'.fst⟩) λh3=>?_;have h3:=nb h3;have q1:=jC (x+2) sm jl' (!0) (!0) (!0) (!0) (!0);have q2:=jC (x+1+(y+1)) sm jl' (!0) (!0) (!0) (!0) (!0);exact aJ (λ_=>aT q1) λ_=>aT ⟨_,_,_,_,_,rfl,q2⟩
  case post1=>
   rintro ⟨r,i1,j1,out1,ac,bc⟩ st1 ⟨sm1,hr⟩;dsimp only at hr ⊢;cases r with
   |some r=>exact aT ⟨r,rfl,hr,sm1⟩
   |none=>
    obtain ⟨jl1,d1,d2,d3,d4,d5⟩:=hr;dsimp only;refine aw (wpS_lift (eW ⟨rfl,?_⟩));refine aw (wpS_mono (dS (I:=λy c st'=>∃i' j' out mg ac bc,c=(none,i',j',out,mg,ac,bc)/\MH xs ys st (x+2) none out i' j' st') (Q:=λc st'=>MH xs ys st (x+2) c.1 c.2.2.2.1 c.2.1 c.2.2.1 st') ?step2 ?fin2 ⟨i1,j1,_,_,_,_,rfl,sm1,jl1,d1,d2,d3,d4,d5⟩) ?post2);case fin2=>
     rintro c st' ⟨i',j',out,mg,ac,bc,rfl,sm,q⟩;exact ⟨sm,q⟩
    case post2=>
     rintro ⟨r,i2,j2,out2,mg2,ac2,bc2⟩ st2 ⟨sm2,hr⟩;dsimp only at hr ⊢;cases r with
     |some r=>exact aT ⟨r,rfl,hr,sm2⟩
     |none=>
      obtain ⟨jl2,e1,e2,e3,e4,e5⟩:=hr;dsimp only;refine aw (gI ?_);exact aT ⟨i2,j2,_,_,rfl,sm2,jl2,e1,e2,e3,e4,!0⟩
    case step2=>
     rintro y c st2 _ hyt ⟨i',j',out,mg,ac,bc,rfl,sm,jl,c1,c2,c3,c4,c5⟩;dsimp only;generalize mg - 1=m1;apply Ei (m1:=m1) (m2:=mg);intro m;have c6:j' - 1 < ys.size:=by clear c5 c1 c2 hyt;omega
     refine aw (gI ?_);refine aw (bZ c6 ?_);refine aw (jB hO (sm.k hk) (hys.at c6) hxs (!0) (!0) λk hk'=>?_);dsimp only;generalize i' - k=n1;apply rz (a:=out) (i:=i') (λo i2=>JH xs ys o i2 j'/\0 < i2/\i2<=i') ⟨jl,c1,am _⟩
     .rintro o2 i2 ⟨jl2,e1,e2⟩;have e3:i2<=xs.size:=bS e2 c2;have e4:i2 - 1 < xs.size:=b9 (Nat.sub_lt e1 Nat.zero_lt_one) e3;refine aw (bZ c6 ?_);have jl3:=jl2.pushY (Nat.lt_of_succ_lt c3) c4;refine aJ (λ_=>aT ⟨sm,jl3.fst⟩) λh5=>?_;have h6:1 < j' - 1:=by have:=nb h5;clear c5 hyt;omega
      have hjj:j' - 1<=j':=Nat.sub_le _ _;refine aw (bZ e4 ?_);refine aw (jB hO (sm.k hk) (hxs.at e4) hys (!0) (!0) λk2 hk2=>?_);dsimp only;generalize o2.push ys[j' - 1]=o3 at *;generalize j' - 1=j1' at *;generalize j1' - k2=n2;apply rz (a:=o3) (i:=j1') (λo j2=>JH xs ys o i2 j2/\1 < j2/\j2<=j1') ⟨jl3,h6,am _⟩
      .rintro o4 j4 ⟨jl4,f1,f2⟩;have f3:=bS f2 hjj;refine aw (bZ e4 ?_);have jl5:=jl4.pushX e1 e3;refine aJ (λ_=>aT ⟨sm,jl5.done⟩) λh7=>?_;have q:=jC (x+2) sm jl5 (Nat.pos_of_ne_zero (nb h7)) (Nat.le_of_lt e4) f1 (bS f3 c4) (bS (Nat.add_le_add (Nat.add_le_add_left (bS (Nat.sub_le _ _) e2) _) f3) c5);exact aJ (λ_=>aT q) λ_=>aT ⟨_,_,_,_,_,_,rfl,q⟩
      .intro _ R;have jl4:=jl3.appY (k:=k2) hk2 (bS hjj c4);refine aJ (λ_=>aT ⟨sm,jl4.fst⟩) λh6=>?_;exact aJ (λ_=>aT ⟨sm,jl4.done⟩) λh8=>R _ _ ⟨jl4,by have:=nb h6;have:=nb h8;omega,hk2⟩
     .intro _ R;have jl2:=jl.appX (k:=k) hk' c2;exact aJ (λ_=>aT ⟨sm,jl2.done⟩) λh3=>R _ _ ⟨jl2,Nat.pos_of_ne_zero (nb h3),hk'⟩
end
def Er(sa:Nat):∀(m:List Keyed)(n:Nat)(a:Array Keyed),sa+n+m.length<=a.size->
  ((m.zipIdx n).foldl (λ(a:Array Keyed) (q:Keyed×Nat)=>a.setIfInBounds (sa+q.2) q.1) a).toList=a.toList.take (sa+n)++m++a.toList.drop (sa+n+m.length)
 |[],n,a,h=>by simp
 |p::m,n,a,h=>by
  have hl:sa+n < a.toList.length:=by rw[bB];simp only[ci]at h;omega
  have ih:=Er sa m (n+1) (a.setIfInBounds (sa+n) p) (by rw[Array.size_setIfInBounds];simp only[ci]at h;omega);rw[List.zipIdx_cons,List.foldl_cons];refine ih.trans ?_;rw[Array.toList_setIfInBounds];have e1:(a.toList.set (sa+n) p).take (sa+(n+1))=a.toList.take (sa+n)++[p]:=by rw[<-Nat.add_assoc,da,e9 hl,List.take_set_of_le (am _)];rfl
  have e2:(a.toList.set (sa+n) p).drop (sa+(n+1)+m.length)=a.toList.drop (sa+n+(p::m).length):=by rw[List.drop_set_of_lt (!0),ci];congr 1;omega
  rw[e1,e2];simp
def Xb(l:List Keyed)(a b c:Nat)(h1:a<=b):l=l.take a++((l.drop a).take (b - a)++(l.drop b).take c)++l.drop (b+c):=by
 conv=>lhs;rw[<-eS a l,<-eS (b - a) (l.drop a),List.drop_drop,iq h1,<-eS c (l.drop b),List.drop_drop]
 simp
section
variable {prog:AK} {w:World} {A:AM} {E:AG} {s:AI} {κ:PyProof.Rows.KeyKind}
def Fin1(a₀:Array Keyed)(p:Array (Nat×Nat×Nat))(st:SortSt):Prop:=(arrOf st).Perm a₀/\kindOf st=oneType'/\failedOf st=none/\pendingOf st=p
variable {a₀:Array Keyed}
theorem Fin1.size{p:Array (Nat×Nat×Nat)}{st:SortSt}(h:Fin1 a₀ p st):(arrOf st).size=a₀.size:=h.1.size_eq
theorem Fin1.okA{p:Array (Nat×Nat×Nat)}{st:SortSt}(h:Fin1 a₀ p st)(h0:L2.okA κ a₀):L2.okA κ (arrOf st):=λq hq=>h0 q ((Array.perm_iff_toList_perm.mp h.1).mem_iff.mp hq)
theorem okA.cut{xs:Array Keyed}(h:L2.okA κ xs)(i j:Nat):L2.okA κ (xs.extract i j):=λq hq=>h q (by
 rw[fw,fI]at hq;exact ic (ib hq))
theorem Xc(hO:κ.OneLt)(h0:L2.okA κ a₀){n1 n2 pw q2:Nat}{st:SortSt}{Q:Bool->SortSt->Prop}(hB:Fin1 a₀ #[(0,n1,pw),(n1,n2,q2)] st)(h1:0 < n1)(h2:0 < n2)(hs:n1+n2=a₀.size)
  (h:∀st',Fin1 a₀ #[(0,n1+n2,pw)] st'->Q true st'):PyProof.Rows.wpS (model prog w) A E s (mergeAt' 0) Q st:=by
 have hsz:=hB.size;have hok:=hB.okA h0;obtain ⟨kd,ar,pd,mg,fl⟩:=st;obtain ⟨hperm,e1,e2,e3⟩:=hB;have hperm:ar.Perm a₀:=hperm;have e1:kd=oneType':=e1;have e2:fl=none:=e2;have e3:pd=#[(0,n1,pw),(n1,n2,q2)]:=e3;have hsz:ar.size=a₀.size:=hsz;have hok:L2.okA κ ar:=hok;subst e1 e2 e3;unfold mergeAt';refine aw (wpS_get ?_);have ep:(#[(0,n1,pw),(n1,n2,q2)].setIfInBounds 0 (0,n1+n2,pw)).eraseIdxIfInBounds (0+1)=#[(0,n1+n2,pw)]:=by simp
 generalize hP:(#[(0,n1,pw),(n1,n2,q2)].setIfInBounds 0 (0,n1+n2,pw)).eraseIdxIfInBounds (0+1)=P at ep;have fin0:Fin1 a₀ #[(0,n1+n2,pw)] (SortSt.mk' oneType' ar P mg none):=⟨hperm,rfl,rfl,ep⟩;have hset:∀{st st':SortSt}{Q:PUnit->SortSt->Prop},Q ⟨⟩ st'->PyProof.Rows.wpS (model prog w) A E s (set st':StateT SortSt Sem PUnit) Q st:=λhq=>by
  unfold PyProof.Rows.wpS;rw[StateT.run_set];exact al ⟨rfl,hq⟩
 refine aw (hset (st':=SortSt.mk' oneType' ar ((#[(0,n1,pw),(n1,n2,q2)].setIfInBounds 0 (0,n1+n2,pw)).eraseIdxIfInBounds (0+1)) mg none) ?_);rw[hP];refine aw (bZ (xs:=ar) (!0) ?_);refine aw (jB (xs:=ar) hO rfl (hok.at (!0)) hok (!0) (!0) λk hk=>?_);dsimp only;refine aJ (λ_=>aT (h _ fin0)) λh3=>?_;have h3:=nb h3;refine aw (bZ (xs:=ar) (!0) ?_);refine aw (jB (xs:=ar) hO rfl (hok.at (!0)) hok (!0) (!0) λm hm=>?_);dsimp only;refine aJ (λ_=>aT (h _ fin0)) λh4=>?_;have h4:=nb h4;have okx:=okA.cut hok (0+k) n1;have oky:=okA.cut hok n1 (n1+m);have zx:(ar.extract (0+k) n1).size=n1 - k:=by rw[Array.size_extract];omega
 have zy:(ar.extract n1 (n1+m)).size=m:=by rw[Array.size_extract];omega
 have tail:∀(out:Array Keyed)(st':SortSt),All (ar.extract (0+k) n1) (ar.extract n1 (n1+m)) out->Same1 (SortSt.mk' oneType' ar P mg none) st'->
   PyProof.Rows.wpS (model prog w) A E s (do
    modify λs=>SortSt.mk' (kindOf s) (List.foldl (λ(a:Array Keyed) (q:Keyed×Nat)=>a.setIfInBounds (0+k+q.2) q.1) (arrOf s) out.toList.zipIdx) (pendingOf s) (gallopOf s) (failedOf s)
    let r <-get
    pure (failedOf r).isNone) Q st':=by
  intro out st' ha sm;obtain ⟨m1,m2,m3,m4⟩:=sm;refine aw (gI (aw (wpS_get ?_)));have ef:failedOf st'=none:=m4;have:(failedOf (SortSt.mk' (kindOf st') (List.foldl (λ(a:Array Keyed) (q:Keyed×Nat)=>a.setIfInBounds (0+k+q.2) q.1) (arrOf st') out.toList.zipIdx) (pendingOf st') (gallopOf st') (failedOf st'))).isNone=true:=by show (failedOf st').isNone=true;rw[ef];rfl
  rw[this];refine aT (h _ ⟨?_,m1,m4,m3.trans ep⟩);show (List.foldl (λ(a:Array Keyed) (q:Keyed×Nat)=>a.setIfInBounds (0+k+q.2) q.1) (arrOf st') out.toList.zipIdx).Perm a₀;have ea:arrOf st'=ar:=m2;rw[ea];refine Array.Perm.trans ?_ hperm;rw[Array.perm_iff_toList_perm];have zo:out.toList.length=n1 - k+m:=by rw[ha.length_eq,ax,bB,bB,zx,zy]
  have pf:=Er (0+k) out.toList 0 ar (by rw[zo];omega);refine (gl pf).trans ?_;have ct:=Xb ar.toList (0+k) n1 m (!0);have ed:0+k+0+out.toList.length=n1+m:=by rw[zo];omega
  rw[ed,Nat.add_zero];conv=>rhs;rw[ct]
  refine List.Perm.append_right _ (List.Perm.append_left _ ?_);refine ha.trans (gl ?_);rw[fw,fw,fI,fI,Nat.add_sub_cancel_left]
 refine aJ (λ_=>?_) λ_=>?_
 .exact aw (W9 hO rfl okx oky (!0) (!0) tail)
 .exact aw (Xa hO rfl okx oky (!0) (!0) tail)
end
section
variable {prog:AK} {w:World} {A:AM} {E:AG} {s:AI} {κ:PyProof.Rows.KeyKind} {a₀:Array Keyed} {p:Array (Nat×Nat×Nat)}
theorem fB(hO:κ.OneLt)(h0:L2.okA κ a₀){st:SortSt}{i j:Nat}{Q:Option Bool->SortSt->Prop}(hB:Fin1 a₀ p st)(hi:i < a₀.size)(hj:j < a₀.size)(h:∀b,Q (some b) st):PyProof.Rows.wpS (model prog w) A E s (ltAt' i j) Q st:=by rw[ltAt'_eq];refine aw (wpS_get ?_);have hsz:=hB.size;have hok:=hB.okA h0;refine aw (bZ (xs:=arrOf st) (!0) (aw (bZ (xs:=arrOf st) (!0) ?_)));exact lg hO hB.2.1 (hok.at (!0)) (hok.at (!0)) h
theorem Fin1.arr{st:SortSt}{xs:Array Keyed}(hB:Fin1 a₀ p st)(h:xs.Perm (arrOf st)):Fin1 a₀ p (setArr st xs):=⟨h.trans hB.1,hB.2.1,hB.2.2.1,hB.2.2.2⟩
theorem lu{lo a nrem:Nat}{st:SortSt}{Q:Option Nat->SortSt->Prop}{f:Nat->Option (Option Nat)×Nat->StateT SortSt Sem (ForInStep (Option (Option Nat)×Nat))}{k:Option (Option Nat)×Nat->StateT SortSt Sem (Option Nat)}(han:a<=nrem)
  (hf:∀y n (Q':ForInStep (Option (Option Nat)×Nat)->SortSt->Prop),a<=n->n < nrem->Q' (.done (none,n)) st->Q' (.yield (none,n+1)) st->PyProof.Rows.wpS (model prog w) A E s (f y (none,n)) Q' st)
  (h:∀n,a<=n->n<=nrem->PyProof.Rows.wpS (model prog w) A E s (k (none,n)) Q st):
  PyProof.Rows.wpS (model prog w) A E s ((forIn [a:nrem] ((none,a):Option (Option Nat)×Nat) f) >>= k) Q st:=by
 refine aw (wpS_mono (dS (I:=λx c st'=>st'=st/\c=(none,x)) (Q:=λc st'=>st'=st/\∃n,c=(none,n)/\a<=n/\n<=nrem) ?step ?fin ⟨rfl,rfl⟩) ?post);case step=>
  rintro x c st' hx1 hx2 ⟨rfl,rfl⟩;exact hf x x _ hx1 hx2 ⟨rfl,x,rfl,hx1,!0⟩ ⟨rfl,rfl⟩
 case fin=>
  rintro c st' ⟨rfl,rfl⟩;exact ⟨rfl,_,rfl,!0,!0⟩
 case post=>
  rintro c st' ⟨rfl,n,rfl,h1,h2⟩;exact h n h1 h2
theorem gH{st:SortSt}{i j:Nat}{Q:Unit->SortSt->Prop}(hB:Fin1 a₀ p st)(h:∀st',Fin1 a₀ p st'->Q () st'):PyProof.Rows.wpS (model prog w) A E s (reverseSlice' i j) Q st:=by rw[reverseSlice'_eq];exact gI (h _ (hB.arr (mirror_perm _ _ _ _)))
theorem Es(hO:κ.OneLt)(h0:L2.okA κ a₀){lo nrem:Nat}{st:SortSt}{Q:Option Nat->SortSt->Prop}(hB:Fin1 a₀ p st)(hn:lo+nrem<=a₀.size)(h1:1<=nrem)
  (h:∀m st',Fin1 a₀ p st'->1<=m->m<=nrem->Q (some m) st'):PyProof.Rows.wpS (model prog w) A E s (countRun' lo nrem) Q st:=by
 rw[countRun'_eq];dsimp only;refine lu (lo:=lo) h1 ?_ λn n1 n2=>?_
 .intro y n Q' q1 q2 q3 q4;dsimp only;refine aw (fB hO h0 hB (!0) (!0) λb=>?_);exact aJ (λ_=>aT q3) λ_=>aT q4
 .dsimp only;refine aJ (λ_=>aT (h _ _ hB n1 n2)) λhne=>?_;have hne:=nb hne;refine aJ (λ_=>?_) λ_=>?_
  .refine aw (fB hO h0 hB (!0) (!0) λb=>?_);refine aJ (λ_=>aT (h _ _ hB n1 n2)) λ_=>?_;refine aw (gH hB λst3 hB3=>?_);refine aw (wpS_lift (eW ⟨rfl,?_⟩));refine aw (wpS_mono (dS (I:=λx c st'=>Fin1 a₀ p st'/\∃q,c=(none,x,q)) (Q:=λc st'=>Fin1 a₀ p st'/\∃m q,c=(none,m,q)/\n+1<=m/\m<=nrem) ?_ ?_ ⟨hB3,0,rfl⟩) ?_)
   .rintro x c st4 hx1 hx2 ⟨hB4,q,rfl⟩;dsimp only;refine aw (fB hO h0 hB4 (!0) (!0) λb=>?_);refine aJ (λ_=>?_) λ_=>?_
    .refine aJ (λ_=>?_) λ_=>aT ⟨hB4,_,rfl⟩;exact aw (gH hB4 λst5 hB5=>aT ⟨hB5,_,rfl⟩)
    .refine aw (fB hO h0 hB4 (!0) (!0) λb=>?_);exact aJ (λ_=>aT ⟨hB4,_,_,rfl,!0,!0⟩) λ_=>aT ⟨hB4,_,rfl⟩
   .rintro c st4 ⟨hB4,q,rfl⟩;exact ⟨hB4,_,_,rfl,!0,!0⟩
   .rintro c st4 ⟨hB4,m,q,rfl,m1,m2⟩;dsimp only;refine aJ (λ_=>?_) λ_=>?_
    .refine aw (gH hB4 λst5 hB5=>?_);refine aw (gH hB5 λst9 hB9=>?_);refine lu (lo:=lo) (!0) ?_ λn9 m1 m2=>?_
     .intro y n Q' q1 q2 q3 q4;dsimp only;refine aw (fB hO h0 hB9 (!0) (!0) λb=>?_);exact aJ (λ_=>aT q3) λ_=>aT q4
     .exact aT (h _ _ hB9 (!0) (!0))
    .skip;refine aw (gH hB4 λst9 hB9=>?_);refine lu (lo:=lo) (!0) ?_ λn9 m1 m2=>?_
     .intro y n Q' q1 q2 q3 q4;dsimp only;refine aw (fB hO h0 hB9 (!0) (!0) λb=>?_);exact aJ (λ_=>aT q3) λ_=>aT q4
     .exact aT (h _ _ hB9 (!0) (!0))
  .skip;refine aw (wpS_lift (eW ⟨rfl,?_⟩));refine aw (wpS_mono (dS (I:=λx c st'=>Fin1 a₀ p st'/\∃q,c=(none,x,q)) (Q:=λc st'=>Fin1 a₀ p st'/\∃m q,c=(none,m,q)/\n+1<=m/\m<=nrem) ?_ ?_ ⟨hB,0,rfl⟩) ?_)
   .rintro x c st4 hx1 hx2 ⟨hB4,q,rfl⟩;dsimp only;refine aw (fB hO h0 hB4 (!0) (!0) λb=>?_);refine aJ (λ_=>?_) λ_=>?_
    .refine aJ (λ_=>?_) λ_=>aT ⟨hB4,_,rfl⟩;exact aw (gH hB4 λst5 hB5=>aT ⟨hB5,_,rfl⟩)
    .refine aw (fB hO h0 hB4 (!0) (!0) λb=>?_);exact aJ (λ_=>aT ⟨hB4,_,_,rfl,!0,!0⟩) λ_=>aT ⟨hB4,_,rfl⟩
   .rintro c st4 ⟨hB4,q,rfl⟩;exact ⟨hB4,_,_,rfl,!0,!0⟩
   .rintro c st4 ⟨hB4,m,q,rfl,m1,m2⟩;dsimp only;refine aJ (λ_=>?_) λ_=>?_
    .refine aw (gH hB4 λst5 hB5=>?_);refine aw (gH hB5 λst9 hB9=>?_);refine lu (lo:=lo) (!0) ?_ λn9 m1 m2=>?_
     .intro y n Q' q1 q2 q3 q4;dsimp only;refine aw (fB hO h0 hB9 (!0) (!0) λb=>?_);exact aJ (λ_=>aT q3) λ_=>aT q4
     .exact aT (h _ _ hB9 (!0) (!0))
    .skip;refine aw (gH hB4 λst9 hB9=>?_);refine lu (lo:=lo) (!0) ?_ λn9 m1 m2=>?_
     .intro y n Q' q1 q2 q3 q4;dsimp only;refine aw (fB hO h0 hB9 (!0) (!0) λb=>?_);exact aJ (λ_=>aT q3) λ_=>aT q4
     .exact aT (h _ _ hB9 (!0) (!0))
end
section
variable {prog:AK} {w:World} {A:AM} {E:AG} {s:AI} {κ:PyProof.Rows.KeyKind} {a₀:Array Keyed} {p:Array (Nat×Nat×Nat)}
theorem Et(hO:κ.OneLt)(h0:L2.okA κ a₀){lo n ok:Nat}{st:SortSt}{Q:Bool->SortSt->Prop}(hB:Fin1 a₀ p st)(hn:lo+n<=a₀.size)
  (h:∀st',Fin1 a₀ p st'->Q true st'):PyProof.Rows.wpS (model prog w) A E s (binarySort' lo n ok) Q st:=by
 rw[binarySort'_eq];dsimp only;refine aw (wpS_mono (dS (I:=λ_ c st'=>c=(none,())/\Fin1 a₀ p st') (Q:=λc st'=>c=(none,())/\Fin1 a₀ p st') ?step (λ_ _ z=>z) ⟨rfl,hB⟩) ?post);case post=>
  rintro c st' ⟨rfl,hB'⟩;exact aT (h st' hB')
 case step=>
  rintro k c st' hk1 hk2 ⟨rfl,hB'⟩;refine aw (wpS_mono (dS (I:=λ_ c st''=>st''=st'/\∃l r,c=(none,l,r)/\r<=k) (Q:=λc st''=>st''=st'/\∃l r,c=(none,l,r)) ?step2 ?fin2 ⟨rfl,0,k,rfl,am _⟩) ?post2);case step2=>
   rintro x c st'' _ _ ⟨rfl,l,r,rfl,hr⟩;dsimp only;refine aJ (λ_=>aT ⟨rfl,l,r,rfl⟩) λhlr=>?_;refine aw (fB hO h0 hB' (!0) (!0) λb=>?_);exact aJ (λ_=>aT ⟨rfl,_,_,rfl,!0⟩) λ_=>aT ⟨rfl,_,_,rfl,!0⟩
  case fin2=>
   rintro c st'' ⟨rfl,l,r,rfl,_⟩;exact ⟨rfl,l,r,rfl⟩
  case post2=>
   rintro c st'' ⟨rfl,l,r,rfl⟩;dsimp only;rw[moveDown'_eq];exact aw (gI (aT ⟨rfl,hB'.arr (bubble_perm _ _ _)⟩))
theorem Xd:minRun' 64 64 0=32:=by decide
theorem Xe(hO:κ.OneLt)(h0:L2.okA κ a₀){st:SortSt}{Q:Unit->SortSt->Prop}(hB:Fin1 a₀ #[] st)(h64:a₀.size=64)
  (h:∀st',(arrOf st').Perm a₀->failedOf st'=none->Q () st'):PyProof.Rows.wpS (model prog w) A E s sortRuns' Q st:=by
 rw[sortRuns'_eq];refine aw (wpS_get ?_);dsimp only;have hsz:=hB.size;simp only[hsz,h64,Xd];refine aw (wpS_mono (dS
  (I:=λx c st'=>(x=0/\c=(none,0)/\Fin1 a₀ #[] st')\/(x=1/\∃n1,32<=n1/\n1<=64/\c=(none,n1)/\Fin1 a₀ #[(0,n1,0)] st')\/(∃n1 pw,0 < n1/\n1 < 64/\c=(none,64)/\Fin1 a₀ #[(0,n1,pw),(n1,64 - n1,0)] st'))
  (Q:=λc st'=>c=(none,64)/\(Fin1 a₀ #[(0,64,0)] st'\/∃n1 pw,0 < n1/\n1 < 64/\Fin1 a₀ #[(0,n1,pw),(n1,64 - n1,0)] st')) ?step ?fin (.inl ⟨rfl,rfl,hB⟩)) ?post)
 case fin=>
  rintro c st' (⟨hx,_,_⟩ |⟨hx,_⟩ |⟨n1,pw,g1,g2,e,hB'⟩)
  .exact absurd hx (!1)
  .exact absurd hx (!1)
  .exact ⟨e,.inr ⟨n1,pw,g1,g2,hB'⟩⟩
 case step=>
  rintro x c st' _ hx (⟨rfl,rfl,hB'⟩ |⟨rfl,n1,g1,g2,rfl,hB'⟩ |⟨n1,pw,g1,g2,rfl,hB'⟩)
  .dsimp only;refine aJ (λz=>absurd z (!1)) λ_=>?_;refine aw (Es hO h0 hB' (!0) (!0) λm st2 hB2 m1 m2=>?_);dsimp only;refine aJ (λhm=>?_) λhm=>?_
   .refine aw (wpS_lift (eW ⟨rfl,?_⟩));refine aw (Et hO h0 hB2 (!0) λst3 hB3=>?_);simp only[Bool.not_true,gT,if_false];refine aw (wpS_get ?_);have hb:(pendingOf st3).back?=none:=by rw[hB3.2.2.2];rfl
    rw[hb];dsimp only;exact aw (gI (aT (.inr (.inl ⟨by trivial,32,!0,!0,rfl,hB3.1,hB3.2.1,hB3.2.2.1,by show (pendingOf st3).push _=_;rw[hB3.2.2.2];rfl⟩))))
   .skip;refine aw (wpS_get ?_);have hb:(pendingOf st2).back?=none:=by rw[hB2.2.2.2];rfl
    rw[hb];dsimp only;exact aw (gI (aT (.inr (.inl ⟨by trivial,m,!0,!0,by rw[Nat.zero_add],hB2.1,hB2.2.1,hB2.2.2.1,by show (pendingOf st2).push _=_;rw[hB2.2.2.2];rfl⟩))))
  .dsimp only;refine aJ (λz=>?_) λhz=>?_
   .have e:n1=64:=by omega
    subst e;exact aT ⟨rfl,.inl hB'⟩
   refine aw (Es hO h0 hB' (!0) (!0) λm st2 hB2 m1 m2=>?_);dsimp only;refine aJ (λhm=>?_) λhm=>?_
   .refine aw (wpS_lift (eW ⟨rfl,?_⟩));refine aw (Et hO h0 hB2 (!0) λst3 hB3=>?_);simp only[Bool.not_true,gT,if_false];refine aw (wpS_get ?_);have hp:=hB3.2.2.2;have hb:(pendingOf st3).back?=some (0,n1,0):=by rw[hp];rfl
    rw[hb];dsimp only;refine aw (wpS_mono (dS (I:=λ_ c st''=>st''=st3/\c=(none,())) (Q:=λc st''=>st''=st3/\c=(none,())) ?_ (λ_ _ z=>z) ⟨rfl,rfl⟩) ?_)
    .rintro x c st'' _ _ ⟨rfl,rfl⟩;refine aw (wpS_get ?_);rw[hp];exact aT ⟨rfl,rfl⟩
    .rintro c st'' ⟨rfl,rfl⟩;dsimp only;refine aw (gI (aw (gI (aT (.inr (.inr ⟨n1,power' 64 (2 * 0+n1) (2 * 0+n1+n1+min (64 - n1) 32) 64,!0,!0,?_,hB3.1,hB3.2.1,hB3.2.2.1,?_⟩))))))
     .have en:min (64 - n1) 32=64 - n1:=by omega
      rw[en,iq (!0)]
     .show ((pendingOf st'').modify ((pendingOf st'').size - 1) _).push (n1,min (64 - n1) 32,0)=_;have en:min (64 - n1) 32=64 - n1:=by omega
      rw[hp,en];rfl
   .skip;refine aw (wpS_get ?_);have hp:=hB2.2.2.2;have hb:(pendingOf st2).back?=some (0,n1,0):=by rw[hp];rfl
    rw[hb];dsimp only;refine aw (wpS_mono (dS (I:=λ_ c st''=>st''=st2/\c=(none,())) (Q:=λc st''=>st''=st2/\c=(none,())) ?_ (λ_ _ z=>z) ⟨rfl,rfl⟩) ?_)
    .rintro x c st'' _ _ ⟨rfl,rfl⟩;refine aw (wpS_get ?_);rw[hp];exact aT ⟨rfl,rfl⟩
    .rintro c st'' ⟨rfl,rfl⟩;dsimp only;refine aw (gI (aw (gI (aT (.inr (.inr ⟨n1,power' 64 (2 * 0+n1) (2 * 0+n1+n1+m) 64,!0,!0,?_,hB2.1,hB2.2.1,hB2.2.2.1,?_⟩))))))
     .have en:m=64 - n1:=by omega
      rw[en,iq (!0)]
     .show ((pendingOf st'').modify ((pendingOf st'').size - 1) _).push (n1,m,0)=_;have en:m=64 - n1:=by omega
      rw[hp,en];rfl
  .dsimp only;rw[if_pos (am _)];exact aT ⟨rfl,.inr ⟨n1,pw,g1,g2,hB'⟩⟩
 case post=>
  rintro c st' ⟨rfl,hD⟩;dsimp only;refine aw (wpS_mono (dS (I:=λx c st''=>c=(none,())/\(Fin1 a₀ #[(0,64,0)] st''\/(∃pw,Fin1 a₀ #[(0,64,pw)] st'')\/x=0/\∃n1 pw,0 < n1/\n1 < 64/\Fin1 a₀ #[(0,n1,pw),(n1,64 - n1,0)] st'')) (Q:=λc st''=>c=(none,())/\(arrOf st'').Perm a₀/\failedOf st''=none) ?_ ?_ ⟨rfl,hD.elim .inl λz=>.inr (.inr ⟨rfl,z⟩)⟩) ?_)
  .rintro x c st'' _ _ ⟨rfl,hD⟩;refine aw (wpS_get ?_);rcases hD with hB' |⟨pw,hB'⟩ |⟨_,n1,pw,g1,g2,hB'⟩
   .refine aJ (λ_=>aT ⟨rfl,hB'.1,hB'.2.2.1⟩) λz=>?_;rw[hB'.2.2.2]at z;exact absurd (am 1) z
   .refine aJ (λ_=>aT ⟨rfl,hB'.1,hB'.2.2.1⟩) λz=>?_;rw[hB'.2.2.2]at z;exact absurd (am 1) z
   .rw[hB'.2.2.2];refine aJ (λz=>absurd z (show ¬(2<=1) by decide)) λ_=>?_;have hm:=Xc (prog:=prog) (w:=w) (A:=A) (E:=E) (s:=s) hO h0 hB' g1 (!0) (!0) (Q:=λb st'=>b=true/\∃pw,Fin1 a₀ #[(0,64,pw)] st') λst' hB4=>⟨rfl,pw,by rw[iq (!0)]at hB4;exact hB4⟩;refine aw (wpS_mono hm λb st' hb=>?_);obtain ⟨rfl,hb⟩:=hb;exact aT ⟨rfl,.inr (.inl hb)⟩
  .rintro c st'' ⟨rfl,hD⟩;rcases hD with hB' |⟨pw,hB'⟩ |⟨z,_⟩
   .exact ⟨rfl,hB'.1,hB'.2.2.1⟩
   .exact ⟨rfl,hB'.1,hB'.2.2.1⟩
   .exact absurd z (!1)
  .rintro c st'' ⟨rfl,hp,hf⟩;exact aT (h _ hp hf)
end
section
variable {prog:AK} {w:World} {A:AM} {E:AG} {s:AI}
theorem Xf {κ:PyProof.Rows.KeyKind} (hO:κ.OneLt) {a:AQ} {vs:AB} {n:Nat} {P:Fin->AI->Prop} (ho:s.heap.get? a=some (seqObj "list" vs.toArray n)) (h0:L2.okA κ (pairsOf vs)) (hkk:keyKind' vs.toArray=pure oneType') (h64:vs.length=64)
  (h:∀st':SortSt,(arrOf st').Perm (pairsOf vs)->P (.done (.ret .none)) { s with heap:=sortedHeap s.heap a vs ((arrOf st').map (·.2)) }):wpAny (model prog w) A (Builtin.«list.sort» ⟨[.ref a],[]⟩) P E s:=by
 have la:=a9 ho;have zv:vs.toArray.size=64:=by rw[a7];exact h64
 have zp:(pairsOf vs).size=64:=by rw[pairsOf_size];exact h64
 have n2:¬vs.toArray.size < 2:=by omega
 rw[list_sort_plain];refine ab (listItems_at ho rfl (ab (listUpdate_at ho rfl ?_)));have h1:=get?_update_seq ho (λ_=>#[]);refine ab (seqEpoch_at h1 rfl (ab (wpAny_newTuple ?_ (by rw[h64,fq];decide))));refine ab (wpAny_newList (dA ?_));have h2:=ag (seqObj "list" #[] 0) (ag (seqObj "tuple" vs.toArray 0) h1);show wpAny (model prog w) A _ P E { s with heap:=((s.heap.update a (Obj.mapSeq λ_=>#[])).push (seqObj "tuple" vs.toArray 0)).push (seqObj "list" #[] 0) };dsimp only;rw[if_neg n2,if_neg n2,hkk];refine ab (al ?_);have go:=Xe (prog:=prog) (w:=w) (A:=A) (E:=E) (s:={ s with heap:=((s.heap.update a (Obj.mapSeq λ_=>#[])).push (seqObj "tuple" vs.toArray 0)).push (seqObj "list" #[] 0) }) hO h0 (st:=SortSt.mk' oneType' (vs.toArray.zip vs.toArray) #[] 7 none) (Q:=λ_ st'=>(arrOf st').Perm (pairsOf vs)/\failedOf st'=none) ⟨Array.Perm.refl _,rfl,rfl,rfl⟩ zp λst' p f=>⟨p,f⟩;refine ab (dr go ?_ λ_ _ e=>e);rintro ⟨⟨⟩,st'⟩ s' ⟨rfl,hp,hf⟩;dsimp only;have zz:((arrOf st').map (·.2)).size<=sizeLine:=by rw[Array.size_map,hp.size_eq,zp,fq];decide
 refine ab (seqEpoch_at h2 rfl (ab (listUpdate_at h2 rfl ?_ (hsz2:=Nat.le_succ_of_le zz))));rw[hf];simp only[hV,gT,if_false];exact al (h st' hp)
theorem Xg{vs:AB}{ss:AD}(hS:StrsAre vs ss){xs:Array Keyed}(hp:xs.Perm (pairsOf vs)):∃ss',StrsAre (xs.map (·.2)).toList ss'/\ss'.Perm ss:=by
 have hl:=Array.perm_iff_toList_perm.mp hp;rw[pairsOf_toList]at hl;have e1:(xs.map (·.2)).toList.Perm vs:=by rw[Array.toList_map];refine (hl.map (·.2)).trans (gl ?_);exact List.map_snd_zip (am _)
 refine ⟨(xs.map (·.2)).toList.map strOf,strsAre_map _ λv hv=>hS.all v (e1.mem_iff.mp hv),?_⟩;refine (e1.map strOf).trans (gl hS.strs)
theorem Xh{S:AQ}{ks:AD}{Q:AG}(hh:A.handled=none)(hS:SetL prog w s.heap S ks (!cJ w))(h64:ks.length<=64)
  (h:∀(h1 h':Heap) d tk e (out:Array AN) (ss':AD),StrsAre out.toList ss'->ss'.Perm ks->(ks.length < 64->sortedS ss'=true)->(∀b o',s.heap.get? b=some o'->h1.get? b=some o')->(∀b o',h1.get? b=some o'->h'.get? b=some o')->s.toks<=tk->h'.get? h1.objs.size=some (seqObj "list" out e)->Q (.ref h1.objs.size) { s with heap:=h',drawn:=d,toks:=tk }):
  wpAny (model prog w) A (call (.builtin "sorted") [.ref S]) Q E s:=by
 rcases im ks.length 64 with hlt |hge
 .exact W8 hh hS hlt λh1 h' d tk e out ss' a1 a2 a3=>h h1 h' d tk e out ss' a1 a2 λ_=>a3
 have e64:ks.length=64:=by omega
 obtain ⟨es,ep,t,ho,hel,hp,hb,hf,hl,hpl⟩:=hS;refine Calls.call_function_entry kind_sorted plain_sorted entry_sorted (args_sorted1 _) ?_;unfold Builtin.«sorted»;refine ab (m:=checkCount "sorted" 1 1 _) (al ?_);refine ab (Ed (!!hh) rfl ho hf hl hpl (by rw[fq];unfold scanBound at hb;omega) λh1 d tk acc k1 htk hacc=>?_);have hall:∀v,v∈acc->∃x u,v=Value.str x u:=λv hv=>by
  obtain ⟨e,he,rfl⟩:=b6.mp (hacc.mem_iff.mp hv);obtain ⟨k,tk,rfl⟩:=hel e he;exact ⟨k,tk,rfl⟩
 have hSA:=strsAre_map acc hall;have hlen:acc.length=64:=by rw[hacc.length_eq,af,<-af (f:=iY),hp.length_eq];exact e64
 refine ab (wpAny_newList ?_ (by rw[fq];omega));have hoL:(h1.push (seqObj "list" acc.toArray 0)).get? h1.objs.size=some (seqObj "list" acc.toArray 0):=a8 _ rfl;show wpAny _ _ _ _ _ { s with heap:=h1.push (seqObj "list" acc.toArray 0),drawn:=d,toks:=tk };have hpk:(acc.map strOf).Perm ks:=by refine (hacc.map strOf).trans (iN (gl ?_) hp);rw[eL];refine gy λe he=>?_;obtain ⟨k,tk,rfl⟩:=hel e he;rfl
 have hkk:keyKind' acc.toArray=pure oneType':=by
  match acc,hlen,hSA with
  |v₁::v₂::rest,_,hSA=>exact keyKind_strs hSA
  |[_],hl,_=>exact absurd hl (show ¬1=64 by decide)
  |[],hl,_=>exact absurd hl (show ¬0=64 by decide)
 refine ab (dA (eR slot_list_sort ⟨_,hoL,rfl⟩ entry_list_sort (Xf strKind_oneLt hoL hSA.keysOf hkk hlen λst' hp'=>⟨_,rfl,?_⟩) (args_list_sort _)));obtain ⟨ss',a1,a2⟩:=Xg hSA hp';generalize (arrOf st').map (·.2)=out at a1;obtain ⟨e,he⟩:=sortedHeap_at (vs:=acc) (out:=out) hoL;refine al ⟨_,rfl,h h1 _ d tk e out ss' a1 (a2.trans hpk) (λz=>by omega) k1 (λb o' hb1=>?_) htk he⟩;rw[sortedHeap_old (cp (a9 hb1)) (by rw[size_push'];exact eI (a9 hb1))];exact ag _ hb1
end
end L2
namespace RF
open PySem PySem.Spec PyProof.Rows L2
inductive D where
 |non |bl (b:Bool) |int (i:Int) |str (l:AA) |tup (xs:List D) |lst (xs:List D) |ref (a:AQ) |scr (ns:List Int) |exn (C:AL) |exa (C f:AL) (d:D) |obj (C f:AL) (q:AQ)
 deriving Inhabited
abbrev AS:=List D
inductive DO where
 |lst (xs:AS)
 deriving Inhabited
abbrev DH:=AQ->Option DO
abbrev AT:=D->DH->Prop
def aX(G:DH)(a:AQ)(o:DO):DH:=λb=>if b=a then some o else G b
def iZ(G:DH)(a:AQ):DH:=λb=>if b=a then none else G b
def cg{G:DH}{a:AQ}{o:DO}:aX G a o a=some o:=if_pos rfl
def dG{G:DH}{a b:AQ}{o:DO}(h:b≠a):aX G a o b=G b:=if_neg h
def vJ{G:DH}{a:AQ}:iZ G a a=none:=if_pos rfl
def vK{G:DH}{a b:AQ}(h:b≠a):iZ G a b=G b:=if_neg h
def Xi{G:DH}{a:AQ}{o u:DO}:aX (aX G a o) a u=aX G a u:=by funext b;unfold aX;split <;> rfl
def Eu{G:DH}{a:AQ}{o:DO}(h:G a=none):iZ (aX G a o) a=G:=by
 funext b;unfold aX iZ;split
 .rename_i e;rw[e,h]
 .rename_i e;exact if_neg e
def vL{G:DH}{a b:AQ}{o:DO}(h:G a=some o)(h':G b=none):a≠b:=by intro e;subst e;rw[h]at h';cases h'
abbrev sz:Nat:=1000000
abbrev FZ:=AQ->Prop
def FzL(H:Hp)(F:FZ)(a:AQ)(vs:AR):Prop:=F a/\H a=some (.lst vs)
def FzL.sq{K:PF}{H:Hp}{F:FZ}{a:AQ}{vs:AR}(h:FzL H F a vs):SqL K H a vs:=.inl (.inl h.2)
structure TpT(K:PF)(H:Hp)(a:AQ)(vs:AR):Prop where
 it:H a=some (.tup vs)
def TpT.sq{K:PF}{H:Hp}{a:AQ}{vs:AR}(h:TpT K H a vs):SqT K H a vs:=.inl (.inl h.it)
def ScL(K:PF)(H:Hp)(a:AQ)(vs:AR):Prop:=
 (∃o,H a=some (.frz o (.lst vs)))\/
  ∃(o:Obj) (its:Array AN) (n:Nat),K.lookup a=some o/\o.cls=.type "list"/\o.dict=none/\o.data=.seq its n/\its.size<=sizeLine/\Vals vs its.toList
def ScL.sq{K:PF}{H:Hp}{a:AQ}{vs:AR}(h:ScL K H a vs):SqL K H a vs:=by
 rcases h with ⟨o,h⟩ |h
 .exact .inl (.inr ⟨o,h⟩)
 .exact .inr h
def FzO(H:Hp)(F:FZ)(a c dx:AQ)(f:Str)(q:AQ):Prop:=F a/\H a=some (.ins c dx [(f,.ref q)])
mutual
def Rep(K:PF)(H:Hp)(F:FZ):D->V->Prop
 |.non,v=>v=.non
 |.bl b,v=>v=.bl b
 |.int i,v=>v=.int i
 |.str l,v=>v=.str (tx l)/\l.length<=sz
 |.tup ds,v=>∃a vs,v=.ref a/\TpT K H a vs/\Reps K H F ds vs
 |.lst ds,v=>∃a vs,v=.ref a/\FzL H F a vs/\Reps K H F ds vs
 |.ref a,v=>v=.ref a
 |.scr ns,v=>∃a,v=.ref a/\ScL K H a (ns.map V.int)
 |.obj C f q,v=>∃a c dx,v=.ref a/\FzO H F a c dx (⇑f) q/\PySem.W.nsIn K mainGlobals (⇑C)=some (some (.ref c))
 |.exa C f d,v=>∃a c dx ob od,∃(y:AQ)(u:V),v=.ref a/\(H a=some (.frz ob (.own y))/\ob.cls=.ref c/\ob.dict=some dx/\PySem.W.notCls ob=true)/\H dx=some (.frz od (.xd [(⇑f,u)]))/\Rep K H F d u/\PySem.W.nsIn K mainGlobals (⇑C)=some (some (.ref c))
 |.exn C,v=>∃a c,v=.ref a/\XO H a c/\PySem.W.nsIn K mainGlobals (⇑C)=some (some (.ref c))
def Reps(K:PF)(H:Hp)(F:FZ):AS->AR->Prop
 |[],vs=>vs=[]
 |d::ds,vs=>∃v r,vs=v::r/\Rep K H F d v/\Reps K H F ds r
end
structure Ext(H:Hp)(F:FZ)(H':Hp)(F':FZ):Prop where
 sub:∀a,F a->F' a
 keep:∀a,F a->H' a=H a
 tups:∀a xs,H a=some (.tup xs)->H' a=some (.tup xs)
 frzs:∀a o u,H a=some (.frz o u)->H' a=some (.frz o u)
def Ext.refl(H:Hp)(F:FZ):Ext H F H F:=⟨λ_ h=>h,λ_ _=>rfl,λ_ _ h=>h,λ_ _ _ h=>h⟩
def Ext.trans{H H1 H2:Hp}{F F1 F2:FZ}(a:Ext H F H1 F1)(b:Ext H1 F1 H2 F2):Ext H F H2 F2:=
 ⟨λc h=>b.sub c (a.sub c h),λc h=>(b.keep c (a.sub c h)).trans (a.keep c h),λc xs h=>b.tups c xs (a.tups c xs h),λc o u h=>b.frzs c o u (a.frzs c o u h)⟩
section
variable {K:PF} {H H':Hp} {F F':FZ}
theorem TpT.ext{a:AQ}{vs:AR}(x:Ext H F H' F')(h:TpT K H a vs):TpT K H' a vs:=⟨x.tups _ _ h.it⟩
theorem FzL.ext{a:AQ}{vs:AR}(x:Ext H F H' F')(h:FzL H F a vs):FzL H' F' a vs:=⟨x.sub _ h.1,(x.keep _ h.1).trans h.2⟩
theorem ScL.ext{a:AQ}{vs:AR}(x:Ext H F H' F')(h:ScL K H a vs):ScL K H' a vs:=by
 rcases h with ⟨o,h⟩ |h
 .exact .inl ⟨o,x.frzs _ _ _ h⟩
 .exact .inr h
mutual
theorem Rep.ext(x:Ext H F H' F'):∀{d:D}{v:V},Rep K H F d v->Rep K H' F' d v
 |.non,_,h=>h
 |.bl _,_,h=>h
 |.int _,_,h=>h
 |.str _,_,h=>h
 |.tup _,_,⟨a,vs,e,q,r⟩=>⟨a,vs,e,TpT.ext x q,Reps.ext x r⟩
 |.lst _,_,⟨a,vs,e,q,r⟩=>⟨a,vs,e,FzL.ext x q,Reps.ext x r⟩
 |.ref _,_,h=>h
 |.scr _,_,⟨a,e,q⟩=>⟨a,e,ScL.ext x q⟩
 |.obj _ _ _,_,⟨a,c,dx,e,⟨hf,hh⟩,n⟩=>⟨a,c,dx,e,⟨x.sub _ hf,(x.keep _ hf).trans hh⟩,n⟩
 |.exn _,_,⟨a,c,e,⟨o,y,q,hc⟩,n⟩=>⟨a,c,e,⟨o,y,x.frzs _ _ _ q,hc⟩,n⟩
 |.exa _ _ _,_,⟨a,c,dx,ob,od,y,u,e,⟨q,h1,h2,h3⟩,qd,r,n⟩=>⟨a,c,dx,ob,od,y,u,e,⟨x.frzs _ _ _ q,h1,h2,h3⟩,x.frzs _ _ _ qd,Rep.ext x r,n⟩
theorem Reps.ext(x:Ext H F H' F'):∀{ds:AS}{vs:AR},Reps K H F ds vs->Reps K H' F' ds vs
 |[],_,h=>h
 |_::_,_,⟨v,r,e,h,t⟩=>⟨v,r,e,Rep.ext x h,Reps.ext x t⟩
end
theorem Reps.nil:Reps K H F [] []:=rfl
theorem Reps.cons{d:D}{v:V}{ds:AS}{vs:AR}(h:Rep K H F d v)(t:Reps K H F ds vs):Reps K H F (d::ds) (v::vs):=⟨v,vs,rfl,h,t⟩
theorem Reps.length:∀{ds:AS}{vs:AR},Reps K H F ds vs->ds.length=vs.length
 |[],_,h=>by cases h;rfl
 |_::_,_,⟨v,r,e,_,t⟩=>by subst e;simp[Reps.length t]
theorem Reps.append:∀{ds es:AS}{vs us:AR},Reps K H F ds vs->Reps K H F es us->Reps K H F (ds++es) (vs++us)
 |[],_,_,_,h,t=>by cases h;exact t
 |_::_,_,_,_,⟨v,r,e,h,t⟩,t'=>by subst e;exact ⟨v,_,rfl,h,Reps.append t t'⟩
theorem Reps.get:∀{ds:AS}{vs:AR}{i:Nat}{d:D},Reps K H F ds vs->ds[i]?=some d->∃v,vs[i]?=some v/\Rep K H F d v
 |[],_,_,_,_,e=>by simp at e
 |_::_,_,0,_,⟨v,r,e,h,t⟩,q=>by subst e;simp at q;subst q;exact ⟨v,rfl,h⟩
 |_::_,_,i+1,d,⟨v,r,e,h,t⟩,q=>by
  subst e;obtain ⟨u,h1,h2⟩:=Reps.get (i:=i) (d:=d) t (!!q);exact ⟨u,!!h1,h2⟩
theorem Reps.set{d:D}{v:V}(r:Rep K H F d v):∀{ds:AS}{vs:AR}(i:Nat),Reps K H F ds vs->Reps K H F (ds.set i d) (vs.set i v)
 |[],_,_,h=>by cases h;exact rfl
 |_::_,_,0,⟨v',r',e,h,t⟩=>by subst e;exact ⟨_,_,rfl,r,t⟩
 |_::_,_,i+1,⟨v',r',e,h,t⟩=>by subst e;exact ⟨_,_,rfl,h,Reps.set r i t⟩
theorem Reps.take:∀{ds:AS}{vs:AR}(n:Nat),Reps K H F ds vs->Reps K H F (ds.take n) (vs.take n)
 |_,_,0,_=>rfl
 |[],_,_+1,h=>by cases h;exact rfl
 |_::_,_,n+1,⟨v',r',e,h,t⟩=>by subst e;exact ⟨_,_,rfl,h,Reps.take n t⟩
theorem Reps.drop:∀{ds:AS}{vs:AR}(n:Nat),Reps K H F ds vs->Reps K H F (ds.drop n) (vs.drop n)
 |_,_,0,h=>h
 |[],_,_+1,h=>by cases h;exact rfl
 |_::_,_,n+1,⟨v',r',e,h,t⟩=>by subst e;exact Reps.drop n t
theorem Reps.cut{ds:AS}{vs:AR}(h:Reps K H F ds vs)(lo hi:Option Int):
  Reps K H F ((ds.drop (HT.sIx ds.length 0 lo)).take (HT.sIx ds.length ds.length hi - HT.sIx ds.length 0 lo)) (eZ vs lo hi):=by
 unfold eZ;rw[<-h.length];exact (h.drop _).take _
theorem Reps.rep{ds:AS}{vs:AR}(h:Reps K H F ds vs):∀k:Nat,Reps K H F (List.replicate k ds).flatten (List.replicate k vs).flatten
 |0=>rfl
 |k+1=>by
  rw[eM,eM,jv,jv];exact Reps.append h (Reps.rep h k)
end
def Xj(K:PF)(H:Hp)(F:FZ)(a:AQ):DO->Prop
 |.lst ds=>∃vs,H a=some (.lst vs)/\Reps K H F ds vs
structure R(K:PF)(H:Hp)(F:FZ)(G:DH):Prop where
 fz:∀a,F a->G a=none/\∃o,H a=some o
 ob:∀a o,G a=some o->Xj K H F a o
section
variable {K:PF} {H:Hp} {F:FZ} {G:DH} {p:AQ} {vs:AR} {ds:AS}
theorem R.lst(r:R K H F G)(h:G p=some (.lst ds)):∃vs,H p=some (.lst vs)/\Reps K H F ds vs:=r.ob p _ h
theorem R.free(r:R K H F G)(h:H p=none):G p=none:=by
 cases e:G p with
 |none=>rfl
 |some o=>
  cases o with
  |lst ds=>obtain ⟨vs,q,_⟩:=r.lst e;rw[h]at q;cases q
theorem R.notF(r:R K H F G)(h:H p=none):¬F p:=λf=>by
 obtain ⟨_,vs,q⟩:=r.fz p f;rw[h]at q;cases q
theorem fG{o:HO}(r:R K H F G)(h:H p=none):Ext H F (upd H p o) F:=
 ⟨λ_ f=>f,λa f=>aQ λe=>r.notF h (by rw[<-e];exact f),λa xs q=>by rw[aQ (bY q h)];exact q,λa ob u q=>by rw[aQ (bY q h)];exact q⟩
theorem R.new{o:HO}(r:R K H F G)(h:H p=none):R K (upd H p o) F G:=by
 have x:Ext H F (upd H p o) F:=fG r h;refine ⟨λa f=>⟨(r.fz a f).1,?_⟩,λa u e=>?_⟩
 .obtain ⟨_,vs,q⟩:=r.fz a f;exact ⟨vs,by rw[x.keep a f];exact q⟩
 .cases u with
  |lst ds=>
   obtain ⟨vs,q,t⟩:=r.lst e;exact ⟨vs,by rw[aQ (bY q h)];exact q,Reps.ext x t⟩
theorem R.newL(r:R K H F G)(h:H p=none)(t:Reps K H F ds vs):R K (upd H p (.lst vs)) F (aX G p (.lst ds)):=by
 have x:Ext H F (upd H p (.lst vs)) F:=fG r h;have r':R K (upd H p (.lst vs)) F G:=r.new h;refine ⟨λa f=>⟨?_,(r'.fz a f).2⟩,λa u e=>?_⟩
 .rw[dG λe=>r.notF h (by rw[<-e];exact f)];exact (r.fz a f).1
 .by_cases ha:a=p
  .subst ha;rw[cg]at e;cases e;exact ⟨vs,fX,Reps.ext x t⟩
  .rw[dG ha]at e;exact r'.ob a u e
theorem vM(r:R K H F G)(h:H p=none):Ext H F (upd H p (.lst vs)) (λa=>F a\/a=p):=
 ⟨λ_ f=>.inl f,(fG r h).keep,(fG r h).tups,(fG r h).frzs⟩
theorem R.newF(r:R K H F G)(h:H p=none):R K (upd H p (.lst vs)) (λa=>F a\/a=p) G:=by
 have x:Ext H F (upd H p (.lst vs)) (λa=>F a\/a=p):=vM r h;refine ⟨λa f=>?_,λa u e=>?_⟩
 .rcases f with f |f
  .obtain ⟨g,vs',q⟩:=r.fz a f;exact ⟨g,vs',by rw[x.keep a f];exact q⟩
  .subst f;exact ⟨r.free h,_,fX⟩
 .cases u with
  |lst ds=>
   obtain ⟨vs',q,t⟩:=r.lst e;exact ⟨vs',by rw[aQ (bY q h)];exact q,Reps.ext x t⟩
theorem Xk(r:R K H F G)(h:H p=none)(t:Reps K H F ds vs):Rep K (upd H p (.lst vs)) (λa=>F a\/a=p) (.lst ds) (.ref p):=
 ⟨p,vs,rfl,⟨.inr rfl,fX⟩,Reps.ext (vM r h) t⟩
theorem vN(r:R K H F G)(h:H p=none)(t:Reps K H F ds vs):Rep K (upd H p (.tup vs)) F (.tup ds) (.ref p):=
 ⟨p,vs,rfl,⟨fX⟩,Reps.ext (fG r h) t⟩
theorem rA{ds0:AS}{o:HO}(r:R K H F G)(h:G p=some (.lst ds0)):Ext H F (upd H p o) F:=by
 obtain ⟨vs0,q,_⟩:=r.lst h;refine ⟨λ_ f=>f,λa f=>aQ λe=>?_,λa xs z=>?_,λa ob u z=>?_⟩
 .subst e;rw[(r.fz a f).1]at h;cases h
 .rw[aQ (Bq z q (by intro w;cases w))];exact z
 .rw[aQ (Bq z q (by intro w;cases w))];exact z
theorem R.write{ds0:AS}(r:R K H F G)(h:G p=some (.lst ds0))(t:Reps K H F ds vs):R K (upd H p (.lst vs)) F (aX G p (.lst ds)):=by
 have x:Ext H F (upd H p (.lst vs)) F:=rA r h;refine ⟨λa f=>⟨?_,?_⟩,λa u e=>?_⟩
 .rw[dG λe=>by subst e;rw[(r.fz a f).1]at h;cases h];exact (r.fz a f).1
 .obtain ⟨_,vs',q⟩:=r.fz a f;exact ⟨vs',by rw[x.keep a f];exact q⟩
 .by_cases ha:a=p
  .subst ha;rw[cg]at e;cases e;exact ⟨vs,fX,Reps.ext x t⟩
  .rw[dG ha]at e;cases u with
   |lst ds'=>
    obtain ⟨vs',q,t'⟩:=r.lst e;exact ⟨vs',by rw[aQ ha];exact q,Reps.ext x t'⟩
theorem vO:Ext H F H (λa=>F a\/a=p):=⟨λ_ f=>.inl f,λ_ _=>rfl,λ_ _ h=>h,λ_ _ _ h=>h⟩
theorem R.frz(r:R K H F G)(h:G p=some (.lst ds)):R K H (λa=>F a\/a=p) (iZ G p):=by
 have x:Ext H F H (λa=>F a\/a=p):=vO;refine ⟨λa f=>?_,λa u e=>?_⟩
 .rcases f with f |f
  .obtain ⟨g,vs',q⟩:=r.fz a f;refine ⟨?_,vs',q⟩;by_cases ha:a=p
   .rw[ha];exact vJ
   .rw[vK ha];exact g
  .subst f;obtain ⟨vs,q,_⟩:=r.lst h;exact ⟨vJ,_,q⟩
 .by_cases ha:a=p
  .rw[ha,vJ]at e;cases e
  .rw[vK ha]at e;cases u with
   |lst ds'=>
    obtain ⟨vs',q,t'⟩:=r.lst e;exact ⟨vs',q,Reps.ext x t'⟩
theorem Xl(r:R K H F G)(h:G p=some (.lst ds)):Rep K H (λa=>F a\/a=p) (.lst ds) (.ref p):=by obtain ⟨vs,q,t⟩:=r.lst h;exact ⟨p,vs,rfl,⟨.inr rfl,q⟩,Reps.ext vO t⟩
end
def view(G:DH):D->D
 |.ref p=>match G p with |some (.lst ds)=>.lst ds |none=>.ref p
 |d=>d
def Rep.list{K:PF}{H:Hp}{F:FZ}{G:DH}{d:D}{v:V}{ds:AS}(r:R K H F G)(h:Rep K H F d v)(e:view G d=.lst ds):∃a vs,v=.ref a/\SqL K H a vs/\Reps K H F ds vs:=by
 cases d with
 |lst xs=>
  have e':D.lst xs=.lst ds:=e;cases e';obtain ⟨a,vs,e1,q,t⟩:=h;exact ⟨a,vs,e1,q.sq,t⟩
 |ref p=>
  have hv:v=.ref p:=h;unfold view at e;cases g:G p with
  |none=>simp only[g]at e;cases e
  |some o=>
   cases o with
   |lst xs=>
    simp only[g]at e;cases e;obtain ⟨vs,q,t⟩:=r.lst g;exact ⟨p,vs,hv,.inl (.inl q),t⟩
 |_=>cases (show _=D.lst ds from e)
def gJ{G:DH}{d:D}{ds:AS}(e:view G d=.tup ds):d=.tup ds:=by
 cases d with
 |ref p=>
  unfold view at e;cases g:G p with
  |none=>simp only[g]at e;cases e
  |some o=>cases o;simp only[g]at e;cases e
 |_=>exact e
def fZ{G:DH}{d:D}{l:AA}(e:view G d=.str l):d=.str l:=by
 cases d with
 |ref p=>
  unfold view at e;cases g:G p with
  |none=>simp only[g]at e;cases e
  |some o=>cases o;simp only[g]at e;cases e
 |_=>exact e
def fH{G:DH}{d:D}{l:Int}(e:view G d=.int l):d=.int l:=by
 cases d with
 |ref p=>
  unfold view at e;cases g:G p with
  |none=>simp only[g]at e;cases e
  |some o=>cases o;simp only[g]at e;cases e
 |_=>exact e
def vP{G:DH}{d:D}{l:Bool}(e:view G d=.bl l):d=.bl l:=by
 cases d with
 |ref p=>
  unfold view at e;cases g:G p with
  |none=>simp only[g]at e;cases e
  |some o=>cases o;simp only[g]at e;cases e
 |_=>exact e
def Ew{G:DH}{d:D}(e:view G d=.non):d=.non:=by
 cases d with
 |ref p=>
  unfold view at e;cases g:G p with
  |none=>simp only[g]at e;cases e
  |some o=>cases o;simp only[g]at e;cases e
 |_=>exact e
abbrev aq:=List (Option D)
def EnvR(K:PF)(H:Hp)(F:FZ):aq->L2.St->Prop
 |[],X=>X=[]
 |o::Y,X=>∃u τ,X=u::τ/\(∀d,o=some d->∃v,u=some v/\Rep K H F d v)/\EnvR K H F Y τ
section
variable {K:PF} {H H':Hp} {F F':FZ}
theorem EnvR.ext(x:Ext H F H' F'):∀{Y:aq}{X:L2.St},EnvR K H F Y X->EnvR K H' F' Y X
 |[],_,h=>h
 |_::_,_,⟨u,τ,e,h,t⟩=>⟨u,τ,e,λd q=>by obtain ⟨v,e1,r⟩:=h d q;exact ⟨v,e1,Rep.ext x r⟩,EnvR.ext x t⟩
theorem EnvR.get:∀{Y:aq}{X:L2.St}{i:Nat}{d:D},EnvR K H F Y X->Y[i]?=some (some d)->∃v,X[i]?=some (some v)/\Rep K H F d v
 |[],_,_,_,_,e=>by simp at e
 |_::_,_,0,d,⟨u,τ,e,h,t⟩,q=>by
  subst e;obtain ⟨v,e1,r⟩:=h d (!!q);exact ⟨v,by simp[e1],r⟩
 |_::_,_,i+1,d,⟨u,τ,e,h,t⟩,q=>by
  subst e;obtain ⟨v,e1,r⟩:=EnvR.get (i:=i) (d:=d) t (!!q);exact ⟨v,!!e1,r⟩
theorem EnvR.set{d:D}{v:V}(r:Rep K H F d v):∀{Y:aq}{X:L2.St}(i:Nat),EnvR K H F Y X->EnvR K H F (Y.set i (some d)) (X.set i (some v))
 |[],_,_,h=>by cases h;exact rfl
 |_::_,_,0,⟨u,τ,e,h,t⟩=>by subst e;exact ⟨_,_,rfl,λd' q=>⟨v,rfl,by cases q;exact r⟩,t⟩
 |_::_,_,i+1,⟨u,τ,e,h,t⟩=>by subst e;exact ⟨_,_,rfl,h,EnvR.set r i t⟩
theorem EnvR.none:∀(n:Nat),EnvR K H F (List.replicate n Option.none) (List.replicate n Option.none)
 |0=>rfl
 |n+1=>⟨_,_,rfl,λd q=>(nomatch q),EnvR.none n⟩
theorem EnvR.start:∀{ds:AS}{vs:AR}(n:Nat),Reps K H F ds vs->EnvR K H F (ds.map some++List.replicate n Option.none) (vs.map some++List.replicate n Option.none)
 |[],_,n,h=>by cases h;exact EnvR.none n
 |d::ds,_,n,⟨v,r,e,h,t⟩=>by
  subst e;exact ⟨_,_,rfl,λd' q=>⟨v,rfl,by cases q;exact h⟩,EnvR.start n t⟩
theorem EnvR.cap{Y:aq}{X:L2.St}(h:EnvR K H F Y X):∀(cap:List (Option Nat)),EnvR K H F (cap.map λo=>match o with |Option.none=>Option.none |some j=>(Y[j]?).join) (d7 cap X)
 |[]=>rfl
 |Option.none::cap=>⟨_,_,rfl,λd q=>(nomatch q),EnvR.cap h cap⟩
 |some j::cap=>by
  refine ⟨_,_,rfl,λd q=>?_,EnvR.cap h cap⟩;have q':(Y[j]?).join=some d:=q;have z:Y[j]?=some (some d):=by
   cases e:Y[j]? with
   |none=>rw[e]at q';cases q'
   |some o=>rw[e]at q';exact fE some q'
  obtain ⟨v,e1,r⟩:=h.get z;exact ⟨v,by show (X[j]?).join=some v;rw[e1];rfl,r⟩
end
mutual
def deq:D->D->Bool
 |.non,.non=>true
 |.bl a,.bl b=>a==b
 |.bl a,.int b=>(if a then 1 else 0)==b
 |.int a,.bl b=>a==(if b then 1 else 0)
 |.int a,.int b=>a==b
 |.str a,.str b=>a==b
 |.tup a,.tup b=>cL a b
 |.lst a,.lst b=>cL a b
 |_,_=>false
def cL:AS->AS->Bool
 |[],[]=>true
 |a::as,b::bs=>deq a b&&cL as bs
 |_,_=>false
end
mutual
/-- no tracked object within -/
def nr:D->Bool
 |.tup a=>nrs a
 |.lst a=>nrs a
 |.ref _=>false
 |.scr _=>false
 |.exn _=>false
 |.exa _ _ _=>false
 |.obj _ _ _=>false
 |_=>true
def nrs:AS->Bool
 |[]=>true
 |a::as=>nr a&&nrs as
end
mutual
def dpt:D->Nat
 |.tup a=>aV a+1
 |.lst a=>aV a+1
 |_=>0
def aV:AS->Nat
 |[]=>0
 |a::as=>max (dpt a) (aV as)
end
def truth:D->Option Bool
 |.non=>some false
 |.bl b=>some b
 |.int i=>some (i != 0)
 |.str l=>some (!l.isEmpty)
 |.tup l=>some (!l.isEmpty)
 |.lst l=>some (!l.isEmpty)
 |_=>none
def cut{α:Type}(xs:List α)(lo hi:Option Int):List α:=(xs.drop (HT.sIx xs.length 0 lo)).take (HT.sIx xs.length xs.length hi - HT.sIx xs.length 0 lo)
def reps{α:Type}(xs:List α)(n:Nat):List α:=(List.replicate n xs).flatten
def mk(fz:Bool)(xs:AS)(G:DH)(k:AT):Prop:=
 match fz with
 |true=>k (.lst xs) G
 |false=>∀p,G p=none->k (.ref p) (aX G p (.lst xs))
def jD(fz:Bool)(a b:D)(G:DH)(k:AT):Prop:=
 match a with
 |.int i=>(match b with |.int j=>k (.int (i+j)) G |_=>False)
 |.str x=>(match b with |.str y=>x.length+y.length<=sz/\k (.str (x++y)) G |_=>False)
 |.lst x=>(match b with |.lst y=>x.length+y.length<=sz/\mk fz (x++y) G k |_=>False)
 |.tup x=>(match b with |.tup y=>x.length+y.length<=sz/\k (.tup (x++y)) G |_=>False)
 |_=>False
def ik(a b:D)(p:Int->Int->Prop):Prop:=
 match a with
 |.int i=>(match b with |.int j=>p i j |_=>False)
 |_=>False
def jE(fz:Bool)(a b:D)(G:DH)(k:AT):Prop:=
 match b with
 |.int n=>(match a with |.int i=>CMul i n/\k (.int (i * n)) G |.str x=>0<=n/\n<=1000/\x.length * n.toNat<=sz/\k (.str (reps x n.toNat)) G |_=>False)
 |_=>False
def cY(op:Operator)(fz:Bool)(a b:D)(G:DH)(k:AT):Prop:=
 match op with
 |.Add=>jD fz a b G k
 |.Sub=>ik a b λi j=>k (.int (i - j)) G
 |.Mult=>jE fz a b G k
 |.FloorDiv=>ik a b λi j=>(0 < j/\j < 1152921504606846976)/\k (.int (i / j)) G
 |.Mod=>ik a b λi j=>0 < j/\k (.int (i % j)) G
 |.Pow=>ik a b λi j=>qU i j/\k (.int (i ^ j.toNat)) G
 |_=>False
def isIn(x:D)(ys:AS):Bool:=ys.any λy=>deq y x
def Ey(a b:D):Prop:=nr a=true/\nr b=true/\min (dpt a) (dpt b)<=60
def inG(a:D)(l:AS):Prop:=nr a=true/\nrs l=true/\aV l<=60
def jF(a b:D)(k:Bool->Prop):Prop:=
 match a,b with
 |.int i,.int j=>k (decide (i < j))
 |.str i,.str j=>k (decide (i < j))
 |_,_=>False
def jG(a b:D)(k:Bool->Prop):Prop:=
 match a,b with
 |.int i,.int j=>k (decide (i<=j))
 |.str i,.str j=>k (!decide (j < i))
 |_,_=>False
def jH(a b:D)(k:Bool->Prop):Prop:=
 match a,b with
 |.int i,.int j=>k (decide (j < i))
 |_,_=>False
def jJ(a b:D)(k:Bool->Prop):Prop:=
 match a,b with
 |.int i,.int j=>k (decide (j<=i))
 |_,_=>False
def ir(a:D):Bool:=match a with |.non=>true |_=>false
def jK(a b:D)(k:Bool->Prop):Prop:=
 match b with
 |.non=>k (ir a)
 |.bl b=>(match a with |.bl a=>k (a==b) |_=>False)
 |_=>False
def jL(a b:D)(k:Bool->Prop):Prop:=
 match b with
 |.non=>k (!ir a)
 |.bl b=>(match a with |.bl a=>k (a != b) |_=>False)
 |_=>False
def gK(a b:D)(k:Bool->Prop):Prop:=
 match b with
 |.str l=>(match a with |.str [c]=>k (l.contains c) |_=>False)
 |.lst l=>inG a l/\k (isIn a l)
 |.tup l=>inG a l/\k (isIn a l)
 |_=>False
def bx(op:CmpOp)(a b:D)(k:Bool->Prop):Prop:=
 match op with
 |.Eq=>Ey a b/\k (deq a b)
 |.NotEq=>Ey a b/\k (!deq a b)
 |.Lt=>jF a b k
 |.LtE=>jG a b k
 |.Gt=>jH a b k
 |.GtE=>jJ a b k
 |.Is=>jK a b k
 |.IsNot=>jL a b k
 |.In=>gK a b k
 |.NotIn=>gK a b λc=>k (!c)
def du(a i:D)(k:D->Prop):Prop:=
 match a,i with
 |.lst ds,.int i=>match atI ds i with |some d=>k d |none=>False
 |.tup ds,.int i=>match atI ds i with |some d=>k d |none=>False
 |.str l,.int i=>match atI l i with |some c=>k (.str [c]) |none=>False
 |_,_=>False
def fJ(fz:Bool)(a:D)(lo hi:Option Int)(G:DH)(k:AT):Prop:=
 match a with
 |.lst ds=>mk fz (cut ds lo hi) G k
 |.scr ns=>mk fz ((cut ns lo hi).map .int) G k
 |.tup ds=>k (.tup (cut ds lo hi)) G
 |.str l=>k (.str (cut l lo hi)) G
 |_=>False
def rB(fz:Bool)(a y:D)(G:DH)(k:AT):Prop:=
 match a with
 |.lst ds=>y=.int (-1)/\mk fz ds.reverse G k
 |.tup ds=>y=.int (-1)/\k (.tup ds.reverse) G
 |_=>False
def bools:AS->Option (List Bool)
 |[]=>some []
 |.bl b::r=>match bools r with |some s=>some (b::s) |none=>none
 |_=>none
def cP:AS->Option (List Int)
 |[]=>some []
 |.int b::r=>match cP r with |some s=>some (b::s) |none=>none
 |_=>none
def bu:AS->Option (List (AA))
 |[]=>some []
 |.str b::r=>match bu r with |some s=>some (b::s) |none=>none
 |_=>none
def fK(s:AA):List (AA)->AA
 |[]=>[]
 |[x]=>x
 |x::y::r=>x++s++fK s (y::r)
inductive Bf where
 |len |all |int |tuple |sum |min |max |str |abs |min2
inductive Lf where
 |list |sorted
inductive Mf where
 |join |append |extend
def vQ(as:AS)(k:D->Prop):Prop:=
 match as with
 |[.lst ds]=>k (.int ds.length)
 |[.tup ds]=>k (.int ds.length)
 |[.str l]=>k (.int l.length)
 |_=>False
def rD(as:AS)(k:D->Prop):Prop:=
 match as with
 |[.lst ds]=>match bools ds with |some bs=>k (.bl (bs.all id)) |none=>False
 |_=>False
def rE(as:AS)(k:D->Prop):Prop:=
 match as with
 |[.bl b]=>k (.int (if b then 1 else 0))
 |[.int i]=>k (.int i)
 |[.str l]=>match PySem.intText? (tx l) with |some n=>l.length<=640/\k (.int n) |none=>False
 |_=>False
def vR(as:AS)(k:D->Prop):Prop:=
 match as with
 |[.lst ds]=>k (.tup ds)
 |[.tup ds]=>k (.tup ds)
 |_=>False
def vU(as:AS)(k:D->Prop):Prop:=
 match as with
 |[.lst ds]=>match cP ds with |some ns=>k (.int ns.sum) |none=>False
 |_=>False
def lw(as:AS)(k:D->Prop):Prop:=
 match as with
 |[.lst ds]=>match cP ds with
  |some ns=>ns≠[]/\∀m,m∈ns->(∀a,a∈ns->m<=a)->k (.int m)
  |none=>match bu ds with
   |some ls=>∀m,m∈ls->(∀a,a∈ls->¬a < m)->k (.str m)
   |none=>False
 |_=>False
def Ez(as:AS)(k:D->Prop):Prop:=match as with
 |[.int a]=>k (.int (if a < 0 then -a else a))
 |_=>False
def EY(as:AS)(k:D->Prop):Prop:=match as with
 |[.int a,.int b]=>k (.int (if b < a then b else a))
 |_=>False
def Fb(as:AS)(k:D->Prop):Prop:=
 match as with
 |[.int a,.int b]=>k (.int (if b > a then b else a))
 |_=>False
def iu(m:Nat):AA:=(vB m).cps.toList
def vV(as:AS)(k:D->Prop):Prop:=
 match as with
 |[.int i]=>(0<=i/\i < 100)/\k (.str (iu i.toNat))
 |_=>False
def opB:Bf->AS->(D->Prop)->Prop
 |.len=>vQ
 |.all=>rD
 |.int=>rE
 |.tuple=>vR
 |.sum=>vU
 |.min=>lw
 |.max=>Fb
 |.abs=>Ez
 |.min2=>EY
 |.str=>vV
def vW(as:AS)(k:AS->Prop):Prop:=
 match as with
 |[.lst ds]=>k ds
 |[.tup ds]=>k ds
 |[.str l]=>k (l.map λc=>.str [c])
 |_=>False
def rF(as:AS)(k:AS->Prop):Prop:=
 match as with
 |[.lst ds]=>match bu ds with |some ls=>ls.length < 64/\∀ls':List (AA),ls'.Perm ls->PyProof.Rows.sortedS (ls'.map tx)=true->k (ls'.map D.str) |none=>False
 |[.tup ds]=>match cP ds with |some ns=>ns.length < 64/\∀ns':List Int,ns'.Perm ns->ns'.Pairwise (·<=·)->k (ns'.map D.int) |none=>False
 |_=>False
def putN(ks:List (AA))(k:AA):List (AA):=if k∈ks then ks else ks++[k]
def cA(ls:List (AA)):List (AA):=ls.foldl putN []
def iw(d:D)(k:AS->Prop):Prop:=
 match d with
 |.lst ds=>match bu ds with |some ls=>(ls.length<=1000/\(cA ls).length<=64)/\∀ls':List (AA),ls'.Perm (cA ls)->k (ls'.map D.str) |none=>False
 |_=>False
def cZ:Lf->AS->(AS->Prop)->Prop
 |.list=>vW
 |.sorted=>rF
def isT(t:AL)(d:D):Option Bool:=
 match d with
 |.non=>some false
 |.bl _=>some (t=="bool"||t=="int")
 |.int _=>some (t=="int")
 |.str _=>some (t=="str")
 |.tup _=>some (t=="tuple")
 |.lst _=>some (t=="list")
 |_=>none
def gM (t:AL):Bool:=t=="bool"||t=="int"||t=="str"||t=="tuple"||t=="list"
def rG(o:D)(as:AS)(G:DH)(k:AT):Prop:=
 match o,as with
 |.str s,[.lst ds]=>match bu ds with |some ls=>((ls.map (·.length)).sum+ls.length * s.length<=sz)/\k (.str (fK s ls)) G |none=>False
 |_,_=>False
def rH(o:D)(as:AS)(G:DH)(k:AT):Prop:=
 match o,as with
 |.ref p,[x]=>match G p with |some (.lst ds)=>ds.length < sz/\k .non (aX G p (.lst (ds++[x]))) |none=>False
 |_,_=>False
def rJ(o:D)(as:AS)(G:DH)(k:AT):Prop:=
 match o,as with
 |.ref p,[.lst xs]=>match G p with |some (.lst ds)=>ds.length+xs.length < sz/\k .non (aX G p (.lst (ds++xs))) |none=>False
 |_,_=>False
def akh(o:D)(as:AS)(G:DH)(k:AT):Prop:=
 match o,as with
 |.ref p,[.int i,x]=>match G p with |some (.lst ds)=>ds.length < sz/\0<=i/\i<=1000000/\k .non (aX G p (.lst (ds.take i.toNat++x::ds.drop i.toNat))) |none=>False
 |_,_=>False
def aki(o:D)(as:AS)(G:DH)(k:AT):Prop:=
 match o,as with
 |.ref p,[.int i]=>match G p with |some (.lst ds)=>0<=i/\i<=1000000/\(match ds[i.toNat]? with |some y=>k y (aX G p (.lst (ds.eraseIdx i.toNat))) |none=>False) |none=>False
 |_,_=>False
def akj(o:D)(as:AS)(G:DH)(k:AT):Prop:=
 match o,as with
 |.lst ds,[.bl true]=>match bools ds with |some bs=>k (.int (bs.count true:Nat)) G |none=>False
 |_,_=>False
def akk(o:D)(as:AS)(G:DH)(k:AT):Prop:=
 match o,as with
 |.lst ds,[.bl true]=>match bools ds with |some bs=>true∈bs/\k (.int (bs.idxOf true:Nat)) G |none=>False
 |_,_=>False
def akl(o:D)(as:AS)(G:DH)(k:AT):Prop:=
 match o,as with
 |.str l,[.str [c]]=>k (.int (-1)) G/\∀i:Nat,l[i]?=some c->k (.int (i:Int)) G
 |_,_=>False
def akm(o:D)(as:AS)(G:DH)(k:AT):Prop:=
 match o,as with
 |.str l,[.str [c]]=>(c < 256/\l.length+2<=sz)/\k (.lst ((q8 c l).map .str)) G
 |_,_=>False
def Xm:D->Prop
 |.lst _=>True
 |_=>False
def recv(m:Mf)(o:D)(G:DH):Prop:=
 match m,o with
 |.join,.str _=>True
 |.append,.ref p=>match G p with |some (.lst _)=>True |none=>False
 |.extend,.ref p=>match G p with |some (.lst _)=>True |none=>False
 |_,_=>False
def opM:Mf->D->AS->DH->(AT)->Prop
 |.join,o,as,G,k=>rG o (as.map (view G)) G k
 |.append,o,as,G,k=>rH o as G k
 |.extend,o,as,G,k=>rJ o (as.map (view G)) G k
def iy (C C':AL):Bool:=C==C'||C'=="SieveError"||C'=="ValueError"
def Fd(C:AL)(xs:List AL)(d:D)(k:Bool->Prop):Prop:=match d with
 |.exn c=>xs.contains c=true/\k (iy c C)
 |.exa c _ _=>xs.contains c=true/\k (iy c C)
 |_=>False
def okA(d:D):Prop:=match d with
 |.int i=>0<=i/\i < 100
 |.str l=>l.length<=1000
 |_=>False
def Fe(C f:AL)(d:D)(k:D->Prop):Prop:=match d with
 |.exa C' f' v=>C'=C/\f'=f/\k v
 |_=>False
mutual
inductive Tg where
 |nm (i:Nat)
 |tp (ts:Tgs)
inductive Tgs where
 |nil
 |cons (t:Tg) (r:Tgs)
end
mutual
inductive Ex where
 |var (i:Nat)
 |cst (d:D)
 |glb (x:AL) (d:D)
 |bin (op:Operator) (fz:Bool) (a b:Ex)
 |neg (a:Ex)
 |cmp (op:CmpOp) (a b:Ex)
 |chn (op op':CmpOp) (a b c:Ex)
 |not (a:Ex)
 |boo (isAnd:Bool) (e:Ex) (es:Exs)
 |ife (c:Tx) (a b:Ex)
 |tup (es:Exs)
 |lst (fz:Bool) (es:Exs)
 |idx (a i:Ex)
 |slc (fz:Bool) (a:Ex) (lo hi:Ox)
 |call (f:AL) (es:Exs)
 |bcl (f:Bf) (es:Exs)
 |lcl (fz:Bool) (f:Lf) (es:Exs)
 |isi (a:Ex) (t:AL)
 |srs (fz:Bool) (a:Ex)
 |mth (m:Mf) (o:Ex) (es:Exs)
 |comp (fz:Bool) (elt:Ex) (tg:Tg) (it:It') (cond:Tx) (N:List AL) (cap:List (Option Nat))
 |cm3 (elt:Ex) (t1:Tg) (i1:It') (t2:Tg) (i2:It') (t3:Tg) (i3:It') (N:List AL) (cap:List (Option Nat))
 |frz (a:Ex)
inductive Exs where
 |nil
 |cons (e:Ex) (es:Exs)
/-- a test -/
inductive Tx where
 |val (e:Ex)
 |not (t:Tx)
 |boo (isAnd:Bool) (t:Tx) (ts:Txs)
 |yes
inductive Txs where
 |nil
 |cons (t:Tx) (ts:Txs)
/-- a bound of a slice -/
inductive Ox where
 |no
 |ob (e:Ex)
/-- what a loop walks -/
inductive It' where
 |seq (e:Ex)
 |rng (a:Ex)
 |rng2 (a b:Ex)
 |rev (a:Ex)
 |dwn (a b c:Ex)
 |enm (e:Ex)
 |zip (a b:Ex)
end
mutual
inductive Sx where
 |exp (e:Ex)
 |asg (t:Tg) (e:Ex)
 |set (o i e:Ex)
 |aug (i:Nat) (op:Operator) (e:Ex)
 |ret (e:Ex)
 |rtn
 |ite (c:Tx) (a b:Sxs)
 |for_ (t:Tg) (it:It') (body:Sxs)
 |whl (c:Tx) (body:Sxs)
 |pas
 |brk
 |cnt
 |nev
inductive Sxs where
 |nil
 |cons (s:Sx) (r:Sxs)
end
structure Xn where
 cls:AL
 fld:D
structure Spec where
 A:Type
 pre:AS->DH->A->Prop
 post:A->D->DH->Prop
 exc:A->Xn->DH->Prop
abbrev EK:=Xn->DH->Prop
def Spec.t(S:Spec)(ds:AS)(G:DH)(Q:AT)(E:EK):Prop:=
 ∃a,S.pre ds G a/\(∀d G',S.post a d G'->Q d G')/\∀x G',S.exc a x G'->E x G'
def Spec.mono{S:Spec}{ds:AS}{G:DH}{Q Q':AT}{E E':EK}(h:S.t ds G Q E)(hq:∀d G',Q d G'->Q' d G')(he:∀x G',E x G'->E' x G'):S.t ds G Q' E':=by obtain ⟨a,h1,h2,h3⟩:=h;exact ⟨a,h1,λd G' q=>hq _ _ (h2 d G' q),λx G' q=>he _ _ (h3 x G' q)⟩
abbrev aj:=AL->Spec
def akn(C f:AL)(d:D)(k:AQ->Prop):Prop:=match d with |.obj C' f' q=>C'=C/\f'=f/\k q |_=>False
def ako(C m:AL)(d:D):Prop:=match d with |.obj C' f' _=>C'=C/\(⇑m==⇑f')=false |_=>False
def akp(d:D)(G:DH)(k:AT):Prop:=match d with |.ref p=>(match G p with |some (.lst ds)=>(match ds[ds.length - 1]? with |some y=>k y (aX G p (.lst ds.dropLast)) |none=>False) |none=>False) |_=>False
def akq(d:D)(k:AA->Prop):Prop:=match d with |.str l=>l.length<=1000/\k l |_=>False
def akr(i:D)(l:AA)(k:AA->Prop):Prop:=match i with |.int n=>(match atI [48,49] n with |some c=>k (l.map λa=>if a=42 then c else a) |none=>False) |_=>False
def Xo(i j:Nat)(d:D)(Y:aq)(G:DH)(k:aq->DH->Prop):Prop:=
 match d with
 |.lst ds=>ds≠[]/\∀xs y,ds=xs++[y]->k ((Y.set i (some (.lst xs))).set j (some y)) G
 |_=>False
mutual
def aR:Tg->D->aq->DH->(aq->Prop)->Prop
 |.nm i,d,Y,_,k=>k (Y.set i (some d))
 |.tp ts,d,Y,G,k=>match d with |.tup ds=>cj ts ds Y G k |.lst ds=>cj ts ds Y G k |_=>False
def cj:Tgs->AS->aq->DH->(aq->Prop)->Prop
 |.nil,ds,Y,_,k=>match ds with |[]=>k Y |_=>False
 |.cons t r,ds,Y,G,k=>match ds with |d::ds=>aR t d Y G (λρ'=>cj r ds ρ' G k) |[]=>False
end
abbrev Hld:=List (AQ×AS)
def held:Hld->DH->Prop
 |[],_=>True
 | (a,ds)::r,G=>G a=some (.lst ds)/\held r G
def compLoop(step:D->aq->DH->(Option D->aq->DH->Prop)->Prop)(g:Hld):AS->AS->aq->DH->(AS->DH->Prop)->Prop
 |[],acc,_,G,k=>held g G/\acc.length<=sz/\k acc G
 |d::ds,acc,Y,G,k=>held g G/\acc.length < sz/\step d Y G (λo ρ' G'=>match o with |some y=>compLoop step g ds (acc++[y]) ρ' G' k |none=>compLoop step g ds acc ρ' G' k)
def dH(step:D->AS->aq->DH->(AS->aq->DH->Prop)->Prop)(g:Hld):AS->AS->aq->DH->(AS->aq->DH->Prop)->Prop
 |[],acc,Y,G,k=>held g G/\k acc Y G
 |d::ds,acc,Y,G,k=>held g G/\step d acc Y G (λacc' ρ' G'=>dH step g ds acc' ρ' G' k)
def d9:Nat->AS->AS
 |_,[]=>[]
 |i,d::ds=>.tup [.int i,d]::d9 (i+1) ds
def cu:AS->AS->AS
 |a::as,b::bs=>.tup [a,b]::cu as bs
 |_,_=>[]
def itemsOf(G:DH):D->Option (AS×Hld)
 |.lst ds=>some (ds,[])
 |.tup ds=>some (ds,[])
 |.str l=>some (l.map λc=>.str [c],[])
 |.ref p=>match G p with |some (.lst ds)=>some (ds,[(p,ds)]) |none=>none
 |_=>none
def aL(lo:Int)(n:Nat):AS:=(List.range n).map λi=>.int (lo+(i:Nat))
def cQ(lo:Int)(n:Nat):AS:=(List.range n).map λi=>.int (lo - (i:Nat))
def noE:EK:=λ_ _=>False
mutual
def wpE(Z:aj):Ex->EK->aq->DH->(AT)->Prop
 |.var i,_,Y,G,k=>match Y[i]? with |some (some d)=>k d G |_=>False
 |.cst d,_,_,G,k=>k d G
 |.glb _ d,_,_,G,k=>k d G
 |.bin op fz a b,E,Y,G,k=>wpE Z a E Y G λx G1=>wpE Z b E Y G1 λy G2=>cY op fz (view G2 x) (view G2 y) G2 k
 |.neg a,E,Y,G,k=>wpE Z a E Y G λx G1=>match x with |.int i=>k (.int (-i)) G1 |_=>False
 |.cmp op a b,E,Y,G,k=>wpE Z a E Y G λx G1=>wpE Z b E Y G1 λy G2=>bx op (view G2 x) (view G2 y) λc=>k (.bl c) G2
 |.chn op op' a b c,E,Y,G,k=>wpE Z a E Y G λx G1=>wpE Z b E Y G1 λy G2=>bx op (view G2 x) (view G2 y) λt=>
   match t with
   |true=>wpE Z c E Y G2 λz G3=>bx op' (view G3 y) (view G3 z) λt'=>k (.bl t') G3
   |false=>k (.bl false) G2
 |.not a,E,Y,G,k=>wpE Z a E Y G λx G1=>match truth (view G1 x) with |some b=>k (.bl (!b)) G1 |none=>False
 |.boo isAnd e es,E,Y,G,k=>wpE Z e E Y G λd G1=>match d with |.bl b=>wpB Z es isAnd b E Y G1 (λc G2=>k (.bl c) G2) |_=>False
 |.ife c a b,E,Y,G,k=>wpT Z c E Y G λt G1=>match t with |true=>wpE Z a E Y G1 k |false=>wpE Z b E Y G1 k
 |.tup es,E,Y,G,k=>bF Z es E Y G λds G1=>ds.length<=sz/\k (.tup ds) G1
 |.lst fz es,E,Y,G,k=>bF Z es E Y G λds G1=>ds.length<=sz/\mk fz ds G1 k
 |.idx a i,E,Y,G,k=>wpE Z a E Y G λx G1=>wpE Z i E Y G1 λy G2=>du (view G2 x) y λd=>k d G2
 |.slc fz a lo hi,E,Y,G,k=>wpE Z a E Y G λx G1=>wpO Z lo E Y G1 λl G2=>wpO Z hi E Y G2 λh G3=>fJ fz (view G3 x) l h G3 k
 |.call f es,E,Y,G,k=>bF Z es E Y G λds G1=>(Z f).t ds G1 k E
 |.bcl f es,E,Y,G,k=>bF Z es E Y G λds G1=>opB f (ds.map (view G1)) λd=>k d G1
 |.lcl fz f es,E,Y,G,k=>bF Z es E Y G λds G1=>cZ f (ds.map (view G1)) λxs=>mk fz xs G1 k
 |.isi a t,E,Y,G,k=>wpE Z a E Y G λx G1=>match isT t (view G1 x) with |some b=>k (.bl b) G1 |none=>False
 |.srs fz a,E,Y,G,k=>wpE Z a E Y G λd G1=>iw (view G1 d) λxs=>mk fz xs G1 k
 |.mth m o es,E,Y,G,k=>wpE Z o E Y G λx G1=>recv m x G1/\bF Z es E Y G1 λds G2=>opM m x ds G2 k
 |.comp fz elt tg it cond _ cap,E,Y,G,k=>wpI Z it E Y G λitems g G1=>
   compLoop (λd ρ' G' k'=>aR tg d ρ' G' λρ1=>wpT Z cond noE ρ1 G' λb G2=>match b with |true=>wpE Z elt noE ρ1 G2 λy G3=>k' (some y) ρ1 G3 |false=>k' none ρ1 G2)
    g items [] (cap.map λo=>match o with |none=>none |some j=>(Y[j]?).join) G1 λds G2=>mk fz ds G2 k
 |.cm3 elt t1 i1 t2 i2 t3 i3 _ cap,E,Y,G,k=>wpI Z i1 E Y G λitems g G1=>dH (λd acc ρ' G' k1=>aR t1 d ρ' G' λρ1=>wpI Z i2 noE ρ1 G' λitems2 g2 G2=>dH (λd acc ρ' G' k2=>aR t2 d ρ' G' λρ1=>wpI Z i3 noE ρ1 G' λitems3 g3 G3=>dH (λd acc ρ' G' k3=>aR t3 d ρ' G' λρ1=>acc.length < sz/\wpE Z elt noE ρ1 G' λy G4=>k3 (acc++[y]) ρ1 G4) g3 items3 acc ρ1 G3 k2) g2 items2 acc ρ1 G2 k1) g items [] (cap.map λo=>match o with |none=>none |some j=>(Y[j]?).join) G1 λds _ G2=>ds.length<=sz/\mk true ds G2 k
 |.frz a,E,Y,G,k=>wpE Z a E Y G λx G1=>match x with |.ref p=>(match G1 p with |some (.lst ds)=>k (.lst ds) (iZ G1 p) |none=>False) |d=>k d G1
/-- a test -/
def wpT(Z:aj):Tx->EK->aq->DH->(Bool->DH->Prop)->Prop
 |.not a,E,Y,G,k=>wpT Z a E Y G λb G1=>k (!b) G1
 |.boo isAnd e es,E,Y,G,k=>wpT Z e E Y G λb G1=>gO Z es isAnd b E Y G1 k
 |.yes,_,_,G,k=>k true G
 |.val x,E,Y,G,k=>wpE Z x E Y G λd G1=>match truth (view G1 d) with |some b=>k b G1 |none=>False
def wpF(Z:aj):Exs->EK->aq->DH->(AA->DH->Prop)->Prop
 |.nil,_,_,G,k=>k [] G
 |.cons e es,E,Y,G,k=>wpE Z e E Y G λd G1=>match d with
  |.str l=>l.length<=1000/\wpF Z es E Y G1 λx G2=>k (l++x) G2
  |.int i=>(0<=i/\i < 100)/\wpF Z es E Y G1 λx G2=>k (iu i.toNat++x) G2
  |_=>False
def bF(Z:aj):Exs->EK->aq->DH->(AS->DH->Prop)->Prop
 |.nil,_,_,G,k=>k [] G
 |.cons e es,E,Y,G,k=>wpE Z e E Y G λd G1=>bF Z es E Y G1 λds G2=>k (d::ds) G2
/-- and,or as values:truths alone;b:the one ahead -/
def wpB(Z:aj):Exs->Bool->Bool->EK->aq->DH->(Bool->DH->Prop)->Prop
 |.nil,_,b,_,_,G,k=>k b G
 |.cons e es,isAnd,b,E,Y,G,k=>match isAnd,b with
  |true,false=>k false G
  |false,true=>k true G
  |_,_=>wpE Z e E Y G λd G1=>match d with |.bl b'=>wpB Z es isAnd b' E Y G1 k |_=>False
def gO(Z:aj):Txs->Bool->Bool->EK->aq->DH->(Bool->DH->Prop)->Prop
 |.nil,_,b,_,_,G,k=>k b G
 |.cons e es,isAnd,b,E,Y,G,k=>match isAnd,b with
  |true,false=>k false G
  |false,true=>k true G
  |_,_=>wpT Z e E Y G λb' G1=>gO Z es isAnd b' E Y G1 k
/-- a bound of a slice -/
def wpO(Z:aj):Ox->EK->aq->DH->(Option Int->DH->Prop)->Prop
 |.no,_,_,G,k=>k none G
 |.ob x,E,Y,G,k=>wpE Z x E Y G λd G1=>match d with |.int i=>k (some i) G1 |_=>False
def wpI(Z:aj):It'->EK->aq->DH->(AS->Hld->DH->Prop)->Prop
 |.seq e,E,Y,G,k=>wpE Z e E Y G λd G1=>match itemsOf G1 d with |some ds=>k ds.1 ds.2 G1 |none=>False
 |.rng a,E,Y,G,k=>wpE Z a E Y G λd G1=>match d with |.int n=>(-(2 ^ 62)<=n/\n < 2 ^ 62)/\k (aL 0 n.toNat) [] G1 |_=>False
 |.rng2 a b,E,Y,G,k=>wpE Z a E Y G λx G1=>wpE Z b E Y G1 λy G2=>match x,y with
  |.int m,.int n=>(-(2 ^ 62)<=m/\m < 2 ^ 62/\-(2 ^ 62)<=n/\n < 2 ^ 62)/\k (aL m (n - m).toNat) [] G2
  |_,_=>False
 |.rev a,E,Y,G,k=>wpE Z a E Y G λd G1=>match d with |.int n=>(-(2 ^ 62)<=n/\n < 2 ^ 62)/\k (cQ ((n.toNat:Int) - 1) n.toNat) [] G1 |_=>False
 |.dwn a b c,E,Y,G,k=>wpE Z a E Y G λx G1=>wpE Z b E Y G1 λy G2=>wpE Z c E Y G2 λz G3=>match x,y,z with
  |.int m,.int n,.int s=>(s=-1/\-(2 ^ 62)<=m/\m < 2 ^ 62/\-(2 ^ 62)<=n/\n < 2 ^ 62)/\k (cQ m (m - n).toNat) [] G3
  |_,_,_=>False
 |.enm e,E,Y,G,k=>wpE Z e E Y G λd G1=>match itemsOf G1 d with |some ds=>k (d9 0 ds.1) ds.2 G1 |none=>False
 |.zip a b,E,Y,G,k=>wpE Z a E Y G λx G1=>wpE Z b E Y G1 λy G2=>match itemsOf G2 x,itemsOf G2 y with |some ds,some es=>k (cu ds.1 es.1) (ds.2++es.2) G2 |_,_=>False
end
structure En where
 nx:aq->DH->Prop
 rt:D->DH->Prop
 bk:aq->DH->Prop
 ct:aq->DH->Prop
def forLoop(step:D->aq->DH->(aq->DH->Prop)->Prop)(g:Hld):AS->aq->DH->(aq->DH->Prop)->Prop
 |[],Y,G,k=>held g G/\k Y G
 |d::ds,Y,G,k=>held g G/\step d Y G λρ' G'=>forLoop step g ds ρ' G' k
def whileLoop(test:aq->DH->(Bool->DH->Prop)->Prop)(body:aq->DH->(aq->DH->Prop)->Prop):Nat->aq->DH->(aq->DH->Prop)->Prop
 |0,_,_,_=>False
 |n+1,Y,G,k=>test Y G λb G1=>match b with |true=>body Y G1 λρ' G'=>whileLoop test body n ρ' G' k |false=>k Y G1
def gP(o i x:D)(G:DH)(k:DH->Prop):Prop:=
 match o,i with
 |.ref p,.int i=>match G p with |some (.lst ds)=>(match ixN ds.length i with |some j=>k (aX G p (.lst (ds.set j x))) |none=>False) |none=>False
 |_,_=>False
def gb(op:Operator)(a b:D)(k:D->Prop):Prop:=
 match op,a,b with
 |.Add,.int i,.int j=>k (.int (i+j))
 |.Add,.str x,.str y=>x.length+y.length<=sz/\k (.str (x++y))
 |.Sub,.int i,.int j=>k (.int (i - j))
 |_,_,_=>False
def Ff:D->Bool
 |.int i=>decide (0<=i)&&decide (i < 100)
 |_=>false
def wpM(Z:aj):Exs->EK->aq->DH->(DH->Prop)->Prop
 |.nil,_,_,G,k=>k G
 |.cons e es,E,Y,G,k=>wpE Z e E Y G λd G1=>Ff d=true/\wpM Z es E Y G1 k
mutual
def wpS(Z:aj):Sx->EK->aq->DH->En->Prop
 |.exp e,E,Y,G,D=>wpE Z e E Y G λ_ G1=>D.nx Y G1
 |.asg t e,E,Y,G,D=>wpE Z e E Y G λd G1=>aR t d Y G1 λρ'=>D.nx ρ' G1
 |.set o i e,E,Y,G,D=>wpE Z e E Y G λx G1=>wpE Z o E Y G1 λa G2=>wpE Z i E Y G2 λy G3=>gP a y x G3 λG4=>D.nx Y G4
 |.aug i op e,E,Y,G,D=>match Y[i]? with
  |some (some a)=>wpE Z e E Y G λb G1=>gb op a b λc=>D.nx (Y.set i (some c)) G1
  |_=>False
 |.ret e,E,Y,G,D=>wpE Z e E Y G D.rt
 |.rtn,_,_,G,D=>D.rt .non G
 |.ite c a b,E,Y,G,D=>wpT Z c E Y G λt G1=>match t with |true=>aA Z a E Y G1 D |false=>aA Z b E Y G1 D
 |.for_ t it body,E,Y,G,D=>wpI Z it E Y G λitems g G1=>
   forLoop (λd ρ' G' k=>aR t d ρ' G' λρ1=>aA Z body E ρ1 G' { D with nx:=k,ct:=k,bk:=D.nx }) g items Y G1 D.nx
 |.whl c body,E,Y,G,D=>∃n,whileLoop (λρ' G' k=>wpT Z c E ρ' G' k) (λρ' G' k=>aA Z body E ρ' G' { D with nx:=k,ct:=k,bk:=D.nx }) n Y G D.nx
 |.pas,_,Y,G,D=>D.nx Y G
 |.brk,_,Y,G,D=>D.bk Y G
 |.cnt,_,Y,G,D=>D.ct Y G
 |.nev,_,_,_,_=>False
def aA(Z:aj):Sxs->EK->aq->DH->En->Prop
 |.nil,_,Y,G,D=>D.nx Y G
 |.cons s r,E,Y,G,D=>wpS Z s E Y G { D with nx:=λρ' G'=>aA Z r E ρ' G' D }
end
theorem vX{Z:aj}{a}{E}{Y}{G}{k}:wpT Z (.not a) E Y G k=(wpT Z a E Y G λb G1=>k (!b) G1):=rfl
theorem vY{Z:aj}{isAnd}{e}{es}{E}{Y}{G}{k}:wpT Z (.boo isAnd e es) E Y G k=(wpT Z e E Y G λb G1=>gO Z es isAnd b E Y G1 k):=rfl
theorem vZ{Z:aj}{E}{Y}{G}{k}:wpT Z .yes E Y G k=(k true G):=rfl
theorem lz{Z:aj}{x}{E}{Y}{G}{k}:wpT Z (.val x) E Y G k=(wpE Z x E Y G λd G1=>match truth (view G1 d) with |some b=>k b G1 |none=>False):=rfl
theorem jM{Z:aj}{E}{Y}{G}{k}:bF Z .nil E Y G k=(k [] G):=rfl
theorem jb{Z:aj}{e}{es}{E}{Y}{G}{k}:bF Z (.cons e es) E Y G k=(wpE Z e E Y G λd G1=>bF Z es E Y G1 λds G2=>k (d::ds) G2):=rfl
theorem v6{Z:aj}{isAnd:Bool}{b:Bool}{E}{Y}{G}{k}:wpB Z .nil isAnd b E Y G k=(k b G):=rfl
theorem rK{Z:aj}{e}{es}{isAnd:Bool}{b:Bool}{E}{Y}{G}{k}:wpB Z (.cons e es) isAnd b E Y G k=(match isAnd,b with
  |true,false=>k false G
  |false,true=>k true G
  |_,_=>wpE Z e E Y G λd G1=>match d with |.bl b'=>wpB Z es isAnd b' E Y G1 k |_=>False):=rfl
theorem v7{Z:aj}{isAnd:Bool}{b:Bool}{E}{Y}{G}{k}:gO Z .nil isAnd b E Y G k=(k b G):=rfl
theorem rM{Z:aj}{e}{es}{isAnd:Bool}{b:Bool}{E}{Y}{G}{k}:gO Z (.cons e es) isAnd b E Y G k=(match isAnd,b with
  |true,false=>k false G
  |false,true=>k true G
  |_,_=>wpT Z e E Y G λb' G1=>gO Z es isAnd b' E Y G1 k):=rfl
theorem v8{Z:aj}{E}{Y}{G}{k}:wpO Z .no E Y G k=(k none G):=rfl
theorem v9{Z:aj}{x}{E}{Y}{G}{k}:wpO Z (.ob x) E Y G k=(wpE Z x E Y G λd G1=>match d with |.int i=>k (some i) G1 |_=>False):=rfl
theorem wj{Z:aj}{e}{E}{Y}{G}{k}:wpI Z (.seq e) E Y G k=(wpE Z e E Y G λd G1=>match itemsOf G1 d with |some ds=>k ds.1 ds.2 G1 |none=>False):=rfl
theorem wu{Z:aj}{a}{E}{Y}{G}{k}:wpI Z (.rng a) E Y G k=(wpE Z a E Y G λd G1=>match d with |.int n=>(-(2 ^ 62)<=n/\n < 2 ^ 62)/\k (aL 0 n.toNat) [] G1 |_=>False):=rfl
theorem ww{Z:aj}{a}{b}{E}{Y}{G}{k}:wpI Z (.rng2 a b) E Y G k=(wpE Z a E Y G λx G1=>wpE Z b E Y G1 λy G2=>match x,y with
  |.int m,.int n=>(-(2 ^ 62)<=m/\m < 2 ^ 62/\-(2 ^ 62)<=n/\n < 2 ^ 62)/\k (aL m (n - m).toNat) [] G2
  |_,_=>False):=rfl
theorem wy{Z:aj}{a}{E}{Y}{G}{k}:wpI Z (.rev a) E Y G k=(wpE Z a E Y G λd G1=>match d with |.int n=>(-(2 ^ 62)<=n/\n < 2 ^ 62)/\k (cQ ((n.toNat:Int) - 1) n.toNat) [] G1 |_=>False):=rfl
theorem wz{Z:aj}{a}{b}{c}{E}{Y}{G}{k}:wpI Z (.dwn a b c) E Y G k=(wpE Z a E Y G λx G1=>wpE Z b E Y G1 λy G2=>wpE Z c E Y G2 λz G3=>match x,y,z with
  |.int m,.int n,.int s=>(s=-1/\-(2 ^ 62)<=m/\m < 2 ^ 62/\-(2 ^ 62)<=n/\n < 2 ^ 62)/\k (cQ m (m - n).toNat) [] G3
  |_,_,_=>False):=rfl
theorem wA{Z:aj}{e}{E}{Y}{G}{k}:wpI Z (.enm e) E Y G k=(wpE Z e E Y G λd G1=>match itemsOf G1 d with |some ds=>k (d9 0 ds.1) ds.2 G1 |none=>False):=rfl
theorem wB{Z:aj}{a}{b}{E}{Y}{G}{k}:wpI Z (.zip a b) E Y G k=(wpE Z a E Y G λx G1=>wpE Z b E Y G1 λy G2=>match itemsOf G2 x,itemsOf G2 y with |some ds,some es=>k (cu ds.1 es.1) (ds.2++es.2) G2 |_,_=>False):=rfl
theorem lA{Z:aj}{E}{Y}{G}{D}:aA Z .nil E Y G D=(D.nx Y G):=rfl
theorem lB{Z:aj}{s}{r}{E}{Y}{G}{D}:aA Z (.cons s r) E Y G D=(wpS Z s E Y G { D with nx:=λρ' G'=>aA Z r E ρ' G' D }):=rfl
theorem wC{Z:aj}{i E Y G k}:wpE Z (.var i) E Y G k=(match Y[i]? with |some (some d)=>k d G |_=>False):=rfl
theorem jN{Z:aj}{d E Y G k}:wpE Z (.cst d) E Y G k=(k d G):=rfl
theorem wD{Z:aj}{u0 d E Y G k}:wpE Z (.glb u0 d) E Y G k=(k d G):=rfl
theorem wF{Z:aj}{op fz a b E Y G k}:wpE Z (.bin op fz a b) E Y G k=(wpE Z a E Y G λx G1=>wpE Z b E Y G1 λy G2=>cY op fz (view G2 x) (view G2 y) G2 k):=rfl
theorem wG{Z:aj}{a E Y G k}:wpE Z (.neg a) E Y G k=(wpE Z a E Y G λx G1=>match x with |.int i=>k (.int (-i)) G1 |_=>False):=rfl
theorem rN{Z:aj}{op a b E Y G k}:wpE Z (.cmp op a b) E Y G k=(wpE Z a E Y G λx G1=>wpE Z b E Y G1 λy G2=>bx op (view G2 x) (view G2 y) λc=>k (.bl c) G2):=rfl
theorem rO{Z:aj}{op op' a b c E Y G k}:wpE Z (.chn op op' a b c) E Y G k=(wpE Z a E Y G λx G1=>wpE Z b E Y G1 λy G2=>bx op (view G2 x) (view G2 y) λt=>
   match t with
   |true=>wpE Z c E Y G2 λz G3=>bx op' (view G3 y) (view G3 z) λt'=>k (.bl t') G3
   |false=>k (.bl false) G2):=rfl
theorem wH{Z:aj}{a E Y G k}:wpE Z (.not a) E Y G k=(wpE Z a E Y G λx G1=>match truth (view G1 x) with |some b=>k (.bl (!b)) G1 |none=>False):=rfl
theorem wI{Z:aj}{isAnd e es E Y G k}:wpE Z (.boo isAnd e es) E Y G k=(wpE Z e E Y G λd G1=>match d with |.bl b=>wpB Z es isAnd b E Y G1 (λc G2=>k (.bl c) G2) |_=>False):=rfl
theorem wJ{Z:aj}{c a b E Y G k}:wpE Z (.ife c a b) E Y G k=(wpT Z c E Y G λt G1=>match t with |true=>wpE Z a E Y G1 k |false=>wpE Z b E Y G1 k):=rfl
theorem wK{Z:aj}{es E Y G k}:wpE Z (.tup es) E Y G k=(bF Z es E Y G λds G1=>ds.length<=sz/\k (.tup ds) G1):=rfl
theorem wL{Z:aj}{fz es E Y G k}:wpE Z (.lst fz es) E Y G k=(bF Z es E Y G λds G1=>ds.length<=sz/\mk fz ds G1 k):=rfl
theorem wM{Z:aj}{a i E Y G k}:wpE Z (.idx a i) E Y G k=(wpE Z a E Y G λx G1=>wpE Z i E Y G1 λy G2=>du (view G2 x) y λd=>k d G2):=rfl
theorem wN{Z:aj}{fz a lo hi E Y G k}:wpE Z (.slc fz a lo hi) E Y G k=(wpE Z a E Y G λx G1=>wpO Z lo E Y G1 λl G2=>wpO Z hi E Y G2 λh G3=>fJ fz (view G3 x) l h G3 k):=rfl
theorem wO{Z:aj}{f es E Y G k}:wpE Z (.call f es) E Y G k=(bF Z es E Y G λds G1=>(Z f).t ds G1 k E):=rfl
theorem wQ{Z:aj}{f es E Y G k}:wpE Z (.bcl f es) E Y G k=(bF Z es E Y G λds G1=>opB f (ds.map (view G1)) λd=>k d G1):=rfl
theorem wR{Z:aj}{fz f es E Y G k}:wpE Z (.lcl fz f es) E Y G k=(bF Z es E Y G λds G1=>cZ f (ds.map (view G1)) λxs=>mk fz xs G1 k):=rfl
theorem wU{Z:aj}{a t E Y G k}:wpE Z (.isi a t) E Y G k=(wpE Z a E Y G λx G1=>match isT t (view G1 x) with |some b=>k (.bl b) G1 |none=>False):=rfl
theorem wV{Z:aj}{fz a E Y G k}:wpE Z (.srs fz a) E Y G k=(wpE Z a E Y G λd G1=>iw (view G1 d) λxs=>mk fz xs G1 k):=rfl
theorem Fg{Z:aj}{E Y G k}:wpF Z .nil E Y G k=k [] G:=rfl
theorem Fi{Z:aj}{e es E Y G k}:wpF Z (.cons e es) E Y G k=(wpE Z e E Y G λd G1=>match d with
  |.str l=>l.length<=1000/\wpF Z es E Y G1 λx G2=>k (l++x) G2
  |.int i=>(0<=i/\i < 100)/\wpF Z es E Y G1 λx G2=>k (iu i.toNat++x) G2
  |_=>False):=rfl
theorem lC{Z:aj}{m o es E Y G k}:wpE Z (.mth m o es) E Y G k=(wpE Z o E Y G λx G1=>recv m x G1/\bF Z es E Y G1 λds G2=>opM m x ds G2 k):=rfl
theorem wW{Z:aj}{a E Y G k}:wpE Z (.frz a) E Y G k=(wpE Z a E Y G λx G1=>match x with |.ref p=>(match G1 p with |some (.lst ds)=>k (.lst ds) (iZ G1 p) |none=>False) |d=>k d G1):=rfl
theorem wX{Z:aj}{e E Y G D}:wpS Z (.exp e) E Y G D=(wpE Z e E Y G λ_ G1=>D.nx Y G1):=rfl
theorem jc{Z:aj}{t e E Y G D}:wpS Z (.asg t e) E Y G D=(wpE Z e E Y G λd G1=>aR t d Y G1 λρ'=>D.nx ρ' G1):=rfl
theorem wY{Z:aj}{o i e E Y G D}:wpS Z (.set o i e) E Y G D=(wpE Z e E Y G λx G1=>wpE Z o E Y G1 λa G2=>wpE Z i E Y G2 λy G3=>gP a y x G3 λG4=>D.nx Y G4):=rfl
theorem wZ{Z:aj}{i op e E Y G D}:wpS Z (.aug i op e) E Y G D=(match Y[i]? with
  |some (some a)=>wpE Z e E Y G λb G1=>gb op a b λc=>D.nx (Y.set i (some c)) G1
  |_=>False):=rfl
theorem w5{Z:aj}{e E Y G D}:wpS Z (.ret e) E Y G D=(wpE Z e E Y G D.rt):=rfl
theorem xf{Z:aj}{E Y G D}:wpS Z .rtn E Y G D=(D.rt .non G):=rfl
theorem xg{Z:aj}{c a b E Y G D}:wpS Z (.ite c a b) E Y G D=(wpT Z c E Y G λt G1=>match t with |true=>aA Z a E Y G1 D |false=>aA Z b E Y G1 D):=rfl
theorem xj{Z:aj}{E Y G D}:wpS Z .pas E Y G D=(D.nx Y G):=rfl
theorem xm{Z:aj}{E Y G D}:wpS Z .brk E Y G D=(D.bk Y G):=rfl
theorem xq{Z:aj}{E Y G D}:wpS Z .cnt E Y G D=(D.ct Y G):=rfl
theorem Xp{Z:aj}{E Y G k}:wpM Z .nil E Y G k=k G:=rfl
theorem Xq{Z:aj}{e es E Y G k}:wpM Z (.cons e es) E Y G k=(wpE Z e E Y G λd G1=>Ff d=true/\wpM Z es E Y G1 k):=rfl
theorem xr{Z:aj}{E Y G D}:wpS Z .nev E Y G D=(False):=rfl
theorem xu{Z:aj}{fz elt tg it cond N cap E Y G k}:wpE Z (.comp fz elt tg it cond N cap) E Y G k=(wpI Z it E Y G λitems g G1=>
   compLoop (λd ρ' G' k'=>aR tg d ρ' G' λρ1=>wpT Z cond noE ρ1 G' λb G2=>match b with |true=>wpE Z elt noE ρ1 G2 λy G3=>k' (some y) ρ1 G3 |false=>k' none ρ1 G2)
    g items [] (cap.map λo=>match o with |none=>none |some j=>(Y[j]?).join) G1 λds G2=>mk fz ds G2 k):=rfl
theorem xF{Z:aj}{elt t1 i1 t2 i2 t3 i3 N cap E Y G k}:wpE Z (.cm3 elt t1 i1 t2 i2 t3 i3 N cap) E Y G k=(wpI Z i1 E Y G λitems g G1=>dH (λd acc ρ' G' k1=>aR t1 d ρ' G' λρ1=>wpI Z i2 noE ρ1 G' λitems2 g2 G2=>dH (λd acc ρ' G' k2=>aR t2 d ρ' G' λρ1=>wpI Z i3 noE ρ1 G' λitems3 g3 G3=>dH (λd acc ρ' G' k3=>aR t3 d ρ' G' λρ1=>acc.length < sz/\wpE Z elt noE ρ1 G' λy G4=>k3 (acc++[y]) ρ1 G4) g3 items3 acc ρ1 G3 k2) g2 items2 acc ρ1 G2 k1) g items [] (cap.map λo=>match o with |none=>none |some j=>(Y[j]?).join) G1 λds _ G2=>ds.length<=sz/\mk true ds G2 k):=rfl
theorem Fj{Z:aj}{t it body E Y G D}:wpS Z (.for_ t it body) E Y G D=(wpI Z it E Y G λitems g G1=>
   forLoop (λd ρ' G' k=>aR t d ρ' G' λρ1=>aA Z body E ρ1 G' { D with nx:=k,ct:=k,bk:=D.nx }) g items Y G1 D.nx):=rfl
theorem Fl{Z:aj}{c body E Y G D}:wpS Z (.whl c body) E Y G D=(∃n,whileLoop (λρ' G' k=>wpT Z c E ρ' G' k) (λρ' G' k=>aA Z body E ρ' G' { D with nx:=k,ct:=k,bk:=D.nx }) n Y G D.nx):=rfl
section
variable {k k':AT} {G:DH}
theorem dg{fz:Bool}{xs:AS}(h:∀d G',k d G'->k' d G')(q:mk fz xs G k):mk fz xs G k':=by
 cases fz with
 |true=>exact h _ _ q
 |false=>exact λp hp=>h _ _ (q p hp)
theorem Fp{a b:D}{p:Int->Int->Prop}(h:ik a b p):∃i j,a=.int i/\b=.int j/\p i j:=by
 cases a with
 |int i=>cases b with
  |int j=>exact ⟨i,j,rfl,rfl,h⟩
  |_=>exact h.elim
 |_=>exact h.elim
theorem rP{a b:D}{p q:Int->Int->Prop}(h:∀i j,p i j->q i j)(z:ik a b p):ik a b q:=by obtain ⟨i,j,rfl,rfl,z⟩:=Fp z;exact h i j z
theorem Fq{op:Operator}{fz:Bool}{a b:D}(h:∀d G',k d G'->k' d G')(q:cY op fz a b G k):cY op fz a b G k':=by
 cases op with
 |Add=>
  have q:jD fz a b G k:=q;show jD fz a b G k';unfold jD at q ⊢;cases a with
  |int i=>cases b <;> first |exact h _ _ q |exact q
  |str i=>cases b <;> first |exact ⟨q.1,h _ _ q.2⟩ |exact q
  |lst i=>cases b <;> first |exact ⟨q.1,dg h q.2⟩ |exact q
  |tup i=>cases b <;> first |exact ⟨q.1,h _ _ q.2⟩ |exact q
  |_=>exact q
 |Sub=>exact rP (λ_ _ z=>h _ _ z) q
 |Mult=>
  have q:jE fz a b G k:=q;show jE fz a b G k';unfold jE at q ⊢;cases b with
  |int n=>cases a <;> first |exact ⟨q.1,h _ _ q.2⟩ |exact ⟨q.1,q.2.1,q.2.2.1,h _ _ q.2.2.2⟩ |exact ⟨q.1,q.2.1,q.2.2.1,dg h q.2.2.2⟩ |exact ⟨q.1,q.2.1,q.2.2.1,q.2.2.2.1,h _ _ q.2.2.2.2⟩ |exact q
  |_=>exact q
 |FloorDiv=>exact rP (λ_ _ z=>⟨z.1,h _ _ z.2⟩) q
 |Mod=>exact rP (λ_ _ z=>⟨z.1,h _ _ z.2⟩) q
 |Pow=>exact rP (λ_ _ z=>⟨z.1,h _ _ z.2⟩) q
 |_=>exact q
theorem Ft{a b:D}{k k':Bool->Prop}(h:∀c,k c->k' c)(q:gK a b k):gK a b k':=by
 unfold gK at q ⊢;split at q
 .split at q
  .exact h _ q
  .exact q
 .exact ⟨q.1,h _ q.2⟩
 .exact ⟨q.1,h _ q.2⟩
 .exact q
theorem jd{op:CmpOp}{a b:D}{k k':Bool->Prop}(h:∀c,k c->k' c)(q:bx op a b k):bx op a b k':=by
 cases op with
 |Eq=>exact ⟨q.1,h _ q.2⟩
 |NotEq=>exact ⟨q.1,h _ q.2⟩
 |Lt=>have q:jF a b k:=q;show jF a b k';unfold jF at q ⊢;split at q <;> first |exact h _ q |exact q
 |LtE=>have q:jG a b k:=q;show jG a b k';unfold jG at q ⊢;split at q <;> first |exact h _ q |exact q
 |Gt=>have q:jH a b k:=q;show jH a b k';unfold jH at q ⊢;split at q <;> first |exact h _ q |exact q
 |GtE=>have q:jJ a b k:=q;show jJ a b k';unfold jJ at q ⊢;split at q <;> first |exact h _ q |exact q
 |Is=>
  have q:jK a b k:=q;show jK a b k';unfold jK at q ⊢;split at q
  .exact h _ q
  .split at q
   .exact h _ q
   .exact q
  .exact q
 |IsNot=>
  have q:jL a b k:=q;show jL a b k';unfold jL at q ⊢;split at q
  .exact h _ q
  .split at q
   .exact h _ q
   .exact q
  .exact q
 |In=>exact Ft h q
 |NotIn=>exact Ft (λc=>h _) q
theorem Fv{a i:D}{k k':D->Prop}(h:∀c,k c->k' c)(q:du a i k):du a i k':=by
 unfold du at q ⊢;split at q
 .split at q
  .exact h _ q
  .exact q
 .split at q
  .exact h _ q
  .exact q
 .split at q
  .exact h _ q
  .exact q
 .exact q
theorem Fw{fz:Bool}{a:D}{lo hi:Option Int}(h:∀d G',k d G'->k' d G')(q:fJ fz a lo hi G k):fJ fz a lo hi G k':=by
 unfold fJ at q ⊢;split at q <;> first
  |exact dg h q
  |exact h _ _ q
  |exact q.elim
theorem aks{fz:Bool}{a y:D}(h:∀d G',k d G'->k' d G')(q:rB fz a y G k):rB fz a y G k':=by
 unfold rB at q ⊢;split at q
 .exact ⟨q.1,dg h q.2⟩
 .exact ⟨q.1,h _ _ q.2⟩
 .exact q.elim
theorem Fx{f:Bf}{as:AS}{k k':D->Prop}(h:∀c,k c->k' c)(q:opB f as k):opB f as k':=by
 cases f with
 |len=>simp only[opB,vQ]at q ⊢;split at q <;> first |exact h _ q |exact q.elim
 |all=>
  simp only[opB,rD]at q ⊢;split at q
  .split at q
   .exact h _ q
   .exact q
  .exact q
 |int=>
  simp only[opB,rE]at q ⊢;split at q
  .exact h _ q
  .exact h _ q
  .split at q
   .exact ⟨q.1,h _ q.2⟩
   .exact q
  .exact q
 |tuple=>simp only[opB,vR]at q ⊢;split at q <;> first |exact h _ q |exact q.elim
 |sum=>
  simp only[opB,vU]at q ⊢;split at q
  .split at q
   .exact h _ q
   .exact q
  .exact q
 |min=>
  simp only[opB,lw]at q ⊢;split at q
  .split at q
   .exact ⟨q.1,λm h1 h2=>h _ (q.2 m h1 h2)⟩
   .split at q
    .exact λm h1 h2=>h _ (q m h1 h2)
    .exact q
  .exact q
 |max=>simp only[opB,Fb]at q ⊢;split at q <;> first |exact h _ q |exact q.elim
 |abs=>simp only[opB,Ez]at q ⊢;split at q <;> first |exact h _ q |exact q.elim
 |min2=>simp only[opB,EY]at q ⊢;split at q <;> first |exact h _ q |exact q.elim
 |str=>
  simp only[opB,vV]at q ⊢;split at q
  .exact ⟨q.1,h _ q.2⟩
  .exact q
theorem Xr{d:D}{k k':AS->Prop}(h:∀c,k c->k' c)(q:iw d k):iw d k':=by
 unfold iw at q ⊢;split at q
 .split at q
  .exact ⟨q.1,λls p=>h _ (q.2 ls p)⟩
  .exact q
 .exact q
theorem Fy{f:Lf}{as:AS}{k k':AS->Prop}(h:∀c,k c->k' c)(q:cZ f as k):cZ f as k':=by
 cases f with
 |list=>simp only[cZ,vW]at q ⊢;split at q <;> first |exact h _ q |exact q.elim
 |sorted=>
  simp only[cZ,rF]at q ⊢;split at q
  .split at q
   .exact ⟨q.1,λls p z=>h _ (q.2 ls p z)⟩
   .exact q
  .split at q
   .exact ⟨q.1,λls p z=>h _ (q.2 ls p z)⟩
   .exact q
  .exact q
theorem rQ{m:Mf}{o:D}{as:AS}(h:∀d G',k d G'->k' d G')(q:opM m o as G k):opM m o as G k':=by
 cases m with
 |join=>
  simp only[opM,rG]at q ⊢;split at q
  .split at q
   .exact ⟨q.1,h _ _ q.2⟩
   .exact q
  .exact q
 |append=>
  simp only[opM,rH]at q ⊢;split at q
  .split at q
   .exact ⟨q.1,h _ _ q.2⟩
   .exact q
  .exact q
 |extend=>
  simp only[opM,rJ]at q ⊢;split at q
  .split at q
   .exact ⟨q.1,h _ _ q.2⟩
   .exact q
  .exact q
theorem FJ{o i x:D}{k k':DH->Prop}(h:∀G',k G'->k' G')(q:gP o i x G k):gP o i x G k':=by
 unfold gP at q ⊢;split at q
 .split at q
  .split at q
   .exact h _ q
   .exact q
  .exact q
 .exact q
theorem FN{op:Operator}{a b:D}{k k':D->Prop}(h:∀c,k c->k' c)(q:gb op a b k):gb op a b k':=by
 unfold gb at q ⊢;split at q <;> first
  |exact h _ q
  |exact ⟨q.1,h _ q.2⟩
  |exact q.elim
mutual
theorem dI{k k':aq->Prop}(h:∀Y,k Y->k' Y):∀(t:Tg){d:D}{Y:aq},aR t d Y G k->aR t d Y G k'
 |.nm i,d,Y,q=>h _ q
 |.tp ts,d,Y,q=>by
  unfold aR at q ⊢;split at q
  .exact xG h ts q
  .exact xG h ts q
  .exact q
theorem xG{k k':aq->Prop}(h:∀Y,k Y->k' Y):∀(ts:Tgs){ds:AS}{Y:aq},cj ts ds Y G k->cj ts ds Y G k'
 |.nil,ds,Y,q=>by
  unfold cj at q ⊢;split at q
  .exact h _ q
  .exact q
 |.cons t r,ds,Y,q=>by
  unfold cj at q ⊢;split at q
  .exact dI (λρ' q'=>xG h r q') t q
  .exact q
end
theorem rR{step step':D->aq->DH->(Option D->aq->DH->Prop)->Prop}(hs:∀d Y G (k k':Option D->aq->DH->Prop),(∀o ρ' G',k o ρ' G'->k' o ρ' G')->step d Y G k->step' d Y G k')
  {g:Hld} {k k':AS->DH->Prop} (h:∀ds G',k ds G'->k' ds G'):∀(ds acc:AS)(Y:aq)(G:DH),compLoop step g ds acc Y G k->compLoop step' g ds acc Y G k'
 |[],acc,Y,G,q=>⟨q.1,q.2.1,h _ _ q.2.2⟩
 |d::ds,acc,Y,G,q=>by
  refine ⟨q.1,q.2.1,hs d Y G _ _ (λo ρ' G' z=>?_) q.2.2⟩;cases o with
  |some y=>exact rR hs h ds (acc++[y]) ρ' G' z
  |none=>exact rR hs h ds acc ρ' G' z
theorem rT{step step':D->AS->aq->DH->(AS->aq->DH->Prop)->Prop}(hs:∀d acc Y G (k k':AS->aq->DH->Prop),(∀a ρ' G',k a ρ' G'->k' a ρ' G')->step d acc Y G k->step' d acc Y G k')
  {g:Hld} {k k':AS->aq->DH->Prop} (h:∀a Y G',k a Y G'->k' a Y G'):∀(ds acc:AS)(Y:aq)(G:DH),dH step g ds acc Y G k->dH step' g ds acc Y G k'
 |[],acc,Y,G,q=>⟨q.1,h _ _ _ q.2⟩
 |d::ds,acc,Y,G,q=>⟨q.1,hs d acc Y G _ _ (λa ρ' G' z=>rT hs h ds a ρ' G' z) q.2⟩
theorem FP{step step':D->aq->DH->(aq->DH->Prop)->Prop}(hs:∀d Y G (k k':aq->DH->Prop),(∀ρ' G',k ρ' G'->k' ρ' G')->step d Y G k->step' d Y G k')
  {g:Hld} {k k':aq->DH->Prop} (h:∀Y G',k Y G'->k' Y G'):∀(ds:AS)(Y:aq)(G:DH),forLoop step g ds Y G k->forLoop step' g ds Y G k'
 |[],Y,G,q=>⟨q.1,h _ _ q.2⟩
 |d::ds,Y,G,q=>⟨q.1,hs d Y G _ _ (λρ' G' z=>FP hs h ds ρ' G' z) q.2⟩
theorem FQ{test test':aq->DH->(Bool->DH->Prop)->Prop}{body body':aq->DH->(aq->DH->Prop)->Prop}
  (ht:∀Y G (k k':Bool->DH->Prop),(∀b G',k b G'->k' b G')->test Y G k->test' Y G k') (hb:∀Y G (k k':aq->DH->Prop),(∀ρ' G',k ρ' G'->k' ρ' G')->body Y G k->body' Y G k')
  {k k':aq->DH->Prop} (h:∀Y G',k Y G'->k' Y G'):∀(n:Nat)(Y:aq)(G:DH),whileLoop test body n Y G k->whileLoop test' body' n Y G k'
 |0,Y,G,q=>q
 |n+1,Y,G,q=>ht Y G _ _ (λb G' z=>by
   cases b with
   |true=>exact hb Y G' _ _ (λρ' G'' z'=>FQ ht hb h n ρ' G'' z') z
   |false=>exact h _ _ z) q
end
section
variable {Z:aj} {G:DH}
mutual
theorem aK{E:EK}{Y:aq}:∀(x:Ex){G:DH}{k k':AT},(∀d G',k d G'->k' d G')->wpE Z x E Y G k->wpE Z x E Y G k'
 |.var i,G,k,k',h,q=>by
  rw[wC]at q ⊢;split at q
  .exact h _ _ q
  .exact q
 |.cst d,G,k,k',h,q=>by rw[jN]at q ⊢;exact h _ _ q
 |.glb x d,G,k,k',h,q=>by rw[wD]at q ⊢;exact h _ _ q
 |.bin op fz a b,G,k,k',h,q=>by
  rw[wF]at q ⊢;exact aK a (λ_ _ q=>aK b (λ_ _ q=>Fq h q) q) q
 |.neg a,G,k,k',h,q=>by
  rw[wG]at q ⊢;refine aK a (λx _ q=>?_) q;split at q
  .exact h _ _ q
  .exact q
 |.cmp op a b,G,k,k',h,q=>by
  rw[rN]at q ⊢;exact aK a (λ_ _ q=>aK b (λ_ _ q=>jd (λ_ q=>h _ _ q) q) q) q
 |.chn op op' a b c,G,k,k',h,q=>by
  rw[rO]at q ⊢;refine aK a (λ_ _ q=>aK b (λ_ _ q=>jd (λt q=>?_) q) q) q;cases t with
  |true=>exact aK c (λ_ _ q=>jd (λ_ q=>h _ _ q) q) q
  |false=>exact h _ _ q
 |.not a,G,k,k',h,q=>by
  rw[wH]at q ⊢;refine aK a (λx _ q=>?_) q;split at q
  .exact h _ _ q
  .exact q
 |.boo isAnd e es,G,k,k',h,q=>by
  rw[wI]at q ⊢;refine aK e (λx _ q=>?_) q;split at q
  .exact rW es (λ_ _ q=>h _ _ q) q
  .exact q
 |.ife c a b,G,k,k',h,q=>by
  rw[wJ]at q ⊢;refine dw c (λt _ q=>?_) q;cases t with
  |true=>exact aK a h q
  |false=>exact aK b h q
 |.tup es,G,k,k',h,q=>by
  rw[wK]at q ⊢;exact gQ es (λ_ _ q=>⟨q.1,h _ _ q.2⟩) q
 |.lst fz es,G,k,k',h,q=>by
  rw[wL]at q ⊢;exact gQ es (λ_ _ q=>⟨q.1,dg h q.2⟩) q
 |.idx a i,G,k,k',h,q=>by
  rw[wM]at q ⊢;exact aK a (λ_ _ q=>aK i (λ_ _ q=>Fv (λ_ q=>h _ _ q) q) q) q
 |.slc fz a lo hi,G,k,k',h,q=>by
  rw[wN]at q ⊢;exact aK a (λ_ _ q=>xH lo (λ_ _ q=>xH hi (λ_ _ q=>Fw h q) q) q) q
 |.call f es,G,k,k',h,q=>by
  rw[wO]at q ⊢;exact gQ es (λ_ _ q=>Spec.mono q h λ_ _ z=>z) q
 |.bcl f es,G,k,k',h,q=>by
  rw[wQ]at q ⊢;exact gQ es (λ_ _ q=>Fx (λ_ q=>h _ _ q) q) q
 |.lcl fz f es,G,k,k',h,q=>by
  rw[wR]at q ⊢;exact gQ es (λ_ _ q=>Fy (λ_ q=>dg h q) q) q
 |.isi a t,G,k,k',h,q=>by
  rw[wU]at q ⊢;refine aK a (λx _ q=>?_) q;split at q
  .exact h _ _ q
  .exact q
 |.srs fz a,G,k,k',h,q=>by
  rw[wV]at q ⊢;exact aK a (λd _ q=>Xr (λ_ z=>dg h z) q) q
 |.mth m o es,G,k,k',h,q=>by
  rw[lC]at q ⊢;exact aK o (λ_ _ q=>⟨q.1,gQ es (λ_ _ q=>rQ h q) q.2⟩) q
 |.comp fz elt tg it cond N cap,G,k,k',h,q=>by
  rw[xu]at q ⊢;refine gf it (λitems g G1 q=>?_) q;refine rR ?_ (λds G2 z=>dg h z) items [] _ G1 q;intro d ρ' G' k k' hk z;refine dI (λρ1 z=>?_) tg z;refine dw cond (λb G2 z=>?_) z;cases b with
  |true=>exact aK elt (λy G3 z=>hk _ _ _ z) z
  |false=>exact hk _ _ _ z
 |.cm3 elt t1 i1 t2 i2 t3 i3 N cap,G,k,k',h,q=>by
  rw[xF]at q ⊢;refine gf i1 (λitems g G1 q=>?_) q;refine rT ?_ (λds _ G2 z=>⟨z.1,dg h z.2⟩) items [] _ G1 q;intro d acc ρ' G' k k' hk z;refine dI (λρ1 z=>gf i2 (λitems g G1 q=>?_) z) t1 z;refine rT ?_ hk items _ _ G1 q;intro d acc ρ' G' k k' hk z;refine dI (λρ1 z=>gf i3 (λitems g G1 q=>?_) z) t2 z;refine rT ?_ hk items _ _ G1 q;intro d acc ρ' G' k k' hk z;exact dI (λρ1 z=>⟨z.1,aK elt (λy G3 z=>hk _ _ _ z) z.2⟩) t3 z
 |.frz a,G,k,k',h,q=>by
  rw[wW]at q ⊢;refine aK a (λx G1 q=>?_) q;split at q
  .split at q
   .exact h _ _ q
   .exact q
  .exact h _ _ q
theorem dw{E:EK}{Y:aq}:∀(x:Tx){G:DH}{k k':Bool->DH->Prop},(∀d G',k d G'->k' d G')->wpT Z x E Y G k->wpT Z x E Y G k'
 |.not a,G,k,k',h,q=>by rw[vX]at q ⊢;exact dw a (λ_ _ q=>h _ _ q) q
 |.boo isAnd e es,G,k,k',h,q=>by rw[vY]at q ⊢;exact dw e (λ_ _ q=>rY es h q) q
 |.yes,G,k,k',h,q=>by rw[vZ]at q ⊢;exact h _ _ q
 |.val a,G,k,k',h,q=>by
  rw[lz]at q ⊢;refine aK a (λx _ q=>?_) q;split at q
  .exact h _ _ q
  .exact q
theorem FT{E:EK}{Y:aq}:∀(x:Exs){G:DH}{k k':AA->DH->Prop},(∀d G',k d G'->k' d G')->wpF Z x E Y G k->wpF Z x E Y G k'
 |.nil,G,k,k',h,q=>by rw[Fg]at q ⊢;exact h _ _ q
 |.cons e es,G,k,k',h,q=>by
  rw[Fi]at q ⊢;refine aK e (λd _ q=>?_) q;split at q
  .exact ⟨q.1,FT es (λ_ _ q=>h _ _ q) q.2⟩
  .exact ⟨q.1,FT es (λ_ _ q=>h _ _ q) q.2⟩
  .exact q
theorem gQ{E:EK}{Y:aq}:∀(x:Exs){G:DH}{k k':AS->DH->Prop},(∀d G',k d G'->k' d G')->bF Z x E Y G k->bF Z x E Y G k'
 |.nil,G,k,k',h,q=>by rw[jM]at q ⊢;exact h _ _ q
 |.cons e es,G,k,k',h,q=>by rw[jb]at q ⊢;exact aK e (λ_ _ q=>gQ es (λ_ _ q=>h _ _ q) q) q
theorem rW{E:EK}{Y:aq}:∀(x:Exs){isAnd b:Bool}{G:DH}{k k':Bool->DH->Prop},(∀d G',k d G'->k' d G')->wpB Z x isAnd b E Y G k->wpB Z x isAnd b E Y G k'
 |.nil,_,_,G,k,k',h,q=>by rw[v6]at q ⊢;exact h _ _ q
 |.cons e es,isAnd,b,G,k,k',h,q=>by
  rw[rK]at q ⊢;cases isAnd <;> cases b <;> first
   |exact h _ _ q
   | (refine aK e (λd _ q=>?_) q
      split at q
      .exact rW es h q
      .exact q)
theorem rY{E:EK}{Y:aq}:∀(x:Txs){isAnd b:Bool}{G:DH}{k k':Bool->DH->Prop},(∀d G',k d G'->k' d G')->gO Z x isAnd b E Y G k->gO Z x isAnd b E Y G k'
 |.nil,_,_,G,k,k',h,q=>by rw[v7]at q ⊢;exact h _ _ q
 |.cons e es,isAnd,b,G,k,k',h,q=>by
  rw[rM]at q ⊢;cases isAnd <;> cases b <;> first
   |exact h _ _ q
   |exact dw e (λd _ q=>rY es h q) q
theorem xH{E:EK}{Y:aq}:∀(x:Ox){G:DH}{k k':Option Int->DH->Prop},(∀d G',k d G'->k' d G')->wpO Z x E Y G k->wpO Z x E Y G k'
 |.no,G,k,k',h,q=>by rw[v8]at q ⊢;exact h _ _ q
 |.ob a,G,k,k',h,q=>by
  rw[v9]at q ⊢;refine aK a (λx _ q=>?_) q;split at q
  .exact h _ _ q
  .exact q
theorem gf{E:EK}{Y:aq}:∀(x:It'){G:DH}{k k':AS->Hld->DH->Prop},(∀d g G',k d g G'->k' d g G')->wpI Z x E Y G k->wpI Z x E Y G k'
 |.seq a,G,k,k',h,q=>by
  rw[wj]at q ⊢;refine aK a (λx _ q=>?_) q;split at q
  .exact h _ _ _ q
  .exact q
 |.rng a,G,k,k',h,q=>by
  rw[wu]at q ⊢;refine aK a (λx _ q=>?_) q;split at q
  .exact ⟨q.1,h _ _ _ q.2⟩
  .exact q
 |.rev a,G,k,k',h,q=>by
  rw[wy]at q ⊢;refine aK a (λx _ q=>?_) q;split at q
  .exact ⟨q.1,h _ _ _ q.2⟩
  .exact q
 |.dwn a b d,G,k,k',h,q=>by
  rw[wz]at q ⊢;refine aK a (λx _ q=>aK b (λy _ q=>aK d (λz _ q=>?_) q) q) q;split at q
  .exact ⟨q.1,h _ _ _ q.2⟩
  .exact q
 |.rng2 a b,G,k,k',h,q=>by
  rw[ww]at q ⊢;refine aK a (λx _ q=>aK b (λy _ q=>?_) q) q;split at q
  .exact ⟨q.1,h _ _ _ q.2⟩
  .exact q
 |.enm a,G,k,k',h,q=>by
  rw[wA]at q ⊢;refine aK a (λx _ q=>?_) q;split at q
  .exact h _ _ _ q
  .exact q
 |.zip a b,G,k,k',h,q=>by
  rw[wB]at q ⊢;refine aK a (λx _ q=>aK b (λy _ q=>?_) q) q;split at q
  .exact h _ _ _ q
  .exact q
end
structure En.Le(D D':En):Prop where
 nx:∀Y G,D.nx Y G->D'.nx Y G
 rt:∀d G,D.rt d G->D'.rt d G
 bk:∀Y G,D.bk Y G->D'.bk Y G
 ct:∀Y G,D.ct Y G->D'.ct Y G
mutual
theorem wpS_mono{E:EK}:∀(x:Sx){Y:aq}{G:DH}{D D':En},D.Le D'->wpS Z x E Y G D->wpS Z x E Y G D'
 |.exp e,Y,G,D,D',h,q=>by rw[wX]at q ⊢;exact aK e (λ_ _ q=>h.nx _ _ q) q
 |.asg t e,Y,G,D,D',h,q=>by rw[jc]at q ⊢;exact aK e (λ_ _ q=>dI (λ_ q=>h.nx _ _ q) t q) q
 |.set o i e,Y,G,D,D',h,q=>by rw[wY]at q ⊢;exact aK e (λ_ _ q=>aK o (λ_ _ q=>aK i (λ_ _ q=>FJ (λ_ q=>h.nx _ _ q) q) q) q) q
 |.aug i op e,Y,G,D,D',h,q=>by
  rw[wZ]at q ⊢;split at q
  .exact aK e (λ_ _ q=>FN (λ_ q=>h.nx _ _ q) q) q
  .exact q
 |.ret e,Y,G,D,D',h,q=>by rw[w5]at q ⊢;exact aK e (λ_ _ q=>h.rt _ _ q) q
 |.rtn,Y,G,D,D',h,q=>by rw[xf]at q ⊢;exact h.rt _ _ q
 |.ite c a b,Y,G,D,D',h,q=>by
  rw[xg]at q ⊢;refine dw c (λt _ q=>?_) q;cases t with
  |true=>exact dJ a h q
  |false=>exact dJ b h q
 |.for_ t it body,Y,G,D,D',h,q=>by
  rw[Fj]at q ⊢;exact gf it (λitems g G1 q=>FP (λd ρ' G' k k' hk z=>dI (λρ1 z=>dJ body (D:={ D with nx:=k,ct:=k,bk:=D.nx }) (D':={ D' with nx:=k',ct:=k',bk:=D'.nx }) ⟨hk,h.rt,h.nx,hk⟩ z) t z) h.nx items Y G1 q) q
 |.whl c body,Y,G,D,D',h,q=>by
  rw[Fl]at q ⊢;obtain ⟨n,q⟩:=q;refine ⟨n,?_⟩;refine FQ ?_ ?_ h.nx n Y G q
  .exact λρ' G' k k' hk z=>dw c hk z
  .exact λρ' G' k k' hk z=>dJ body (D:={ D with nx:=k,ct:=k,bk:=D.nx }) (D':={ D' with nx:=k',ct:=k',bk:=D'.nx }) ⟨hk,h.rt,h.nx,hk⟩ z
 |.pas,Y,G,D,D',h,q=>by rw[xj]at q ⊢;exact h.nx _ _ q
 |.brk,Y,G,D,D',h,q=>by rw[xm]at q ⊢;exact h.bk _ _ q
 |.cnt,Y,G,D,D',h,q=>by rw[xq]at q ⊢;exact h.ct _ _ q
 |.nev,Y,G,D,D',h,q=>by rw[xr]at q;exact q.elim
theorem dJ{E:EK}:∀(x:Sxs){Y:aq}{G:DH}{D D':En},D.Le D'->aA Z x E Y G D->aA Z x E Y G D'
 |.nil,Y,G,D,D',h,q=>by rw[lA]at q ⊢;exact h.nx _ _ q
 |.cons s r,Y,G,D,D',h,q=>by rw[lB]at q ⊢;exact wpS_mono s (D:={ D with nx:=λρ' G'=>aA Z r E ρ' G' D }) (D':={ D' with nx:=λρ' G'=>aA Z r E ρ' G' D' }) ⟨λ_ _ z=>dJ r h z,h.rt,h.bk,h.ct⟩ q
end
end
def PV(K:PF)(H:Hp)(F:FZ)(Q:VK):D->DH->Prop:=λd G'=>∀H' F' v,Ext H F H' F'->R K H' F' G'->Rep K H' F' d v->Q v H'
def PB(K:PF)(H:Hp)(F:FZ)(Q:Bool->Hp->Prop):Bool->DH->Prop:=λb G'=>∀H' F',Ext H F H' F'->R K H' F' G'->Q b H'
def PLs(K:PF)(H:Hp)(F:FZ)(Q:AR->Hp->Prop):AS->DH->Prop:=λds G'=>∀H' F' vs,Ext H F H' F'->R K H' F' G'->Reps K H' F' ds vs->Q vs H'
section
variable {K:PF} {H:Hp} {F:FZ} {G:DH} {Q:VK}
theorem PV.now{d:D}{v:V}(h:PV K H F Q d G)(r:R K H F G)(q:Rep K H F d v):Q v H:=h H F v (Ext.refl H F) r q
theorem gh{fz:Bool}{ds:AS}{vs:AR}(h:mk fz ds G (PV K H F Q))(r:R K H F G)(t:Reps K H F ds vs)(p:AQ)(hp:H p=none):Q (.ref p) (upd H p (.lst vs)):=by
 cases fz with
 |true=>exact h _ _ _ (vM r hp) (r.newF hp) (Xk r hp t)
 |false=>exact h p (r.free hp) _ _ _ (fG r hp) (r.newL hp t) rfl
theorem rZ{ds:AS}{vs:AR}(h:PV K H F Q (.tup ds) G)(r:R K H F G)(t:Reps K H F ds vs)(p:AQ)(hp:H p=none):Q (.ref p) (upd H p (.tup vs)):=
 h _ _ _ (fG r hp) (r.new hp) (vN r hp t)
end
def szl:sz<=sizeLine:=by rw[fq];decide
def dM{n:Nat}(h:n<=sz):n<=sizeLine:=bS h szl
def rB2(K:PF)(f:D->D->DH->(AT)->Prop):R2:=λx y H Q=>∃F G a b,R K H F G/\Rep K H F a x/\Rep K H F b y/\f (view G a) (view G b) G (PV K H F Q)
section
variable {X:Cx}
theorem Xu:OpR X (binaryOp .Add) (λx y H Q=>∃a b xs ys,x=.ref a/\y=.ref b/\SqL X.K H a xs/\SqL X.K H b ys/\xs.length+ys.length<=sizeLine/\∀p,H p=none->Q (.ref p) (upd H p (.lst (xs++ys)))):=by
 intro p9 s Y H x y v u Q I rx ry h;obtain ⟨a,b,xs,ys,rfl,rfl,ha,hb,hz,q⟩:=h;cases rx;cases ry;obtain ⟨its,r1,p1,_⟩:=I.list ha;obtain ⟨its2,r2,p2,_⟩:=I.list hb;obtain ⟨⟨cls,dd,data,sl⟩,ho,hc,n,hd⟩:=p1.isList;obtain ⟨⟨cls2,dd2,data2,sl2⟩,ho2,hc2,n2,hd2⟩:=p2.isList;simp only at hc hd hc2 hd2;subst hc hd hc2 hd2;have e:its.toArray++its2.toArray=(its++its2).toArray:=by simp
 refine concat_meets ⟨_,ho,rfl⟩ ⟨_,ho2,rfl⟩ noFill_list_add seq_list_add PySem.F.slot_list_add PySem.F.entry_list_add (PySem.F.args_list_add_2 _ _)
  (list_addW a b its.toArray its2.toArray n n2 dd dd2 sl sl2 (by rw[a7,a7,<-r1.length,<-r2.length];exact hz)) ⟨ho,ho2,?_⟩
 rw[e];exact ⟨.ref _,_,I.lnew (t':=s.toks) (r1.append r2) (by rw[ax];exact hz),rfl,q _ I.fresh⟩
theorem Xv:OpR X (binaryOp .Add) (λx y H Q=>∃a b ys,x=.ref a/\y=.ref b/\SqT X.K H a []/\SqT X.K H b ys/\Q (.ref b) H):=by
 intro p9 s Y H x y v u Q I rx ry h;obtain ⟨a,b,ys,rfl,rfl,ha,hb,q⟩:=h;cases rx;cases ry;obtain ⟨its,r1,p1,_⟩:=I.tuple ha;obtain ⟨its2,r2,p2,_⟩:=I.tuple hb;obtain ⟨⟨cls,dd,data,sl⟩,ho,hc,n,hd⟩:=id p1;obtain ⟨⟨cls2,dd2,data2,sl2⟩,ho2,hc2,n2,hd2⟩:=id p2;simp only at hc hd hc2 hd2;subst hc hd hc2 hd2;cases r1;exact concat_meets ⟨_,ho,rfl⟩ ⟨_,ho2,rfl⟩ noFill_tuple_add seq_tuple_add PySem.F.slot_tuple_add PySem.F.entry_tuple_add (PySem.F.args_tuple_add_2 _ _)
   (tuple_addW0 a b _ its2.toArray n n2 dd dd2 sl sl2 (by simp)) ⟨ho,ho2,⟨.ref b,H,I,rfl,q⟩⟩
theorem FW{K:PF}{H:Hp}{F:FZ}{ds:AS}{vs:AR}(t:Reps K H F ds vs):ds=[]↔vs=[]:=by
 have:=t.length;constructor
 .intro e;subst e;exact dL.mp this.symm
 .intro e;subst e;exact dL.mp this
theorem Xw{x:Str}{n:Nat}(h1:n<=1000)(h:x.length * n<=sz):MulOk x (n:Int):=by
 have h2:((x.length * n:Nat):Int)<=((1000000:Nat):Int):=Int.ofNat_le.mpr h;rw[Int.natCast_mul]at h2;refine ⟨?_,?_,?_⟩
 .rw[cy (!0),cy (!0)];rfl
 .intro hn _ hh;have hp:(0:Int) < n:=by omega
  have h3:(x.length:Int)<=(2 ^ 63 - 1) / n:=(Int.le_ediv_iff_mul_le hp).mpr (Int.le_trans h2 (!1));exact absurd hh (Int.not_lt.mpr h3)
 .intro _ _;unfold Builtin.Str.tooLong;rw[fq,eJ];exact cy (by have:sz=1000000:=rfl;omega)
theorem Ga(l:AA):∀(n:Nat)(acc:AA),(List.replicate n l.toArray).foldl (· ++ ·) acc.toArray=(acc++reps l n).toArray
 |0,acc=>by simp[reps]
 |n+1,acc=>by
  rw[eM,List.foldl_cons];have e:acc.toArray++l.toArray=(acc++l).toArray:=by simp
  rw[e,Ga l n (acc++l)];unfold reps;rw[eM,jv,bo]
theorem Xx(n:Nat):reps ([]:AA) n=[]:=by
 unfold reps;induction n with
 |zero=>rfl
 |succ n ih=>rw[eM,jv,ih];rfl
theorem Xy{α:Type}(l:List α)(n:Nat):(reps l n).length=n * l.length:=len_rep l n
theorem Xz(l:AA)(n:Nat):Txt.mul (tx l) (n:Int)=tx (reps l n):=by
 unfold Txt.mul;by_cases h:(n:Int) < 1
 .rw[if_pos h];have:n=0:=by omega
  subst this;rfl
 .rw[if_neg h];by_cases h2:((n:Int)==1||(tx l).length==0)=true
  .rw[if_pos h2];rw[dn]at h2;rcases h2 with h2 |h2
   .have:n=1:=by have:=eq_of_beq h2;omega
    subst this;simp[reps]
   .have h3:=eq_of_beq h2;rw[cI]at h3;have:l=[]:=dL.mp h3;subst this;rw[Xx]
  .rw[if_neg h2];have e:=Ga l n [];rw[List.nil_append]at e;exact fE Str.mk (!!e)
theorem XC(op:Operator)(fz:Bool):OpR X (binaryOp op) (rB2 X.K (cY op fz)):=by
 intro p9 s Y H x y v u Q I rx ry h;obtain ⟨F,G,a,b,r,ra,rb,h⟩:=h;generalize ea:view G a=va at h;generalize eb:view G b=vb at h;have twoI:∀{p:Int->Int->Prop},ik va vb p->∃i j,x=.int i/\y=.int j/\p i j:=λ{p} h=>by
  obtain ⟨i,j,rfl,rfl,h⟩:=Fp h;cases fH ea;cases fH eb;exact ⟨i,j,ra,rb,h⟩
 cases op with
 |Add=>
  have h:jD fz va vb G _:=h;unfold jD at h;cases va with
  |int _=>cases vb with
   |int _=>
    cases fH ea;cases fH eb;have ha:x=.int _:=ra;have hb:y=.int _:=rb;subst ha;subst hb;exact T3 p9 s Y H _ _ v u Q I rx ry ⟨_,_,rfl,rfl,h.now r rfl⟩
   |_=>exact h.elim
  |str _=>cases vb with
   |str _=>
    cases fZ ea;cases fZ eb;obtain ⟨ha,la⟩:=ra;obtain ⟨hb,lb⟩:=rb;subst ha;subst hb;refine Uk p9 s Y H _ _ v u Q I rx ry ⟨_,_,rfl,rfl,?_,?_⟩
    .rw[cI,cI];exact dM h.1
    .rw[qX];exact h.2.now r ⟨rfl,by rw[ax];exact h.1⟩
   |_=>exact h.elim
  |lst _=>cases vb with
   |lst _=>
    obtain ⟨p,vs,rfl,q1,t1⟩:=Rep.list r ra ea;obtain ⟨p',vs',rfl,q2,t2⟩:=Rep.list r rb eb;exact Xu p9 s Y H _ _ v u Q I rx ry ⟨p,p',vs,vs',rfl,rfl,q1,q2,by rw[<-t1.length,<-t2.length];exact dM h.1,gh h.2 r (t1.append t2)⟩
   |_=>exact h.elim
  |tup xs=>cases vb with
   |tup ys=>
    cases gJ ea;cases gJ eb;obtain ⟨p,vs,rfl,q1,t1⟩:=id ra;obtain ⟨p',vs',rfl,q2,t2⟩:=id rb;by_cases hx:vs=[]
    .subst hx;have:xs=[]:=(FW t1).mpr rfl;subst this;exact Xv p9 s Y H _ _ v u Q I rx ry ⟨p,p',vs',rfl,rfl,q1.sq,q2.sq,h.2.now r rb⟩
    .refine Va p9 s Y H _ _ v u Q I rx ry ⟨p,p',vs,vs',rfl,rfl,q1.sq,q2.sq,hx,by rw[<-t1.length,<-t2.length];exact dM h.1,λe=>?_,λ_=>rZ h.2 r (t1.append t2)⟩;subst e;have:ys=[]:=(FW t2).mpr rfl;subst this;have h2:=h.2;rw[fA]at h2;exact h2.now r ra
   |_=>exact h.elim
  |_=>exact h.elim
 |Sub=>
  obtain ⟨i,j,rfl,rfl,h⟩:=twoI h;exact T4 p9 s Y H _ _ v u Q I rx ry ⟨_,_,rfl,rfl,h.now r rfl⟩
 |Mult=>
  have h:jE fz va vb G _:=h;unfold jE at h;cases vb with
  |int _=>cases va with
   |int _=>
    cases fH ea;cases fH eb;have ha:x=.int _:=ra;have hb:y=.int _:=rb;subst ha;subst hb;exact T5 p9 s Y H _ _ v u Q I rx ry ⟨_,_,rfl,rfl,h.1,h.2.now r rfl⟩
   |str _=>
    cases fZ ea;cases fH eb;obtain ⟨ha,la⟩:=ra;have hb:y=.int _:=rb;subst ha;subst hb;obtain ⟨h0,h1,h2,h3⟩:=h;obtain ⟨n,rfl⟩:=dQ h0;rw[eJ]at h2 h3;refine VN p9 s Y H _ _ v u Q I rx ry ⟨_,_,rfl,rfl,Xw (!0) (by rw[cI];exact h2),?_⟩;rw[Xz];exact h3.now r ⟨rfl,by rw[Xy,Nat.mul_comm];exact h2⟩
   |_=>exact h.elim
  |_=>exact h.elim
 |FloorDiv=>
  obtain ⟨i,j,rfl,rfl,h⟩:=twoI h;exact Wm p9 s Y H _ _ v u Q I rx ry ⟨_,_,rfl,rfl,h.1,h.2.now r rfl⟩
 |Mod=>
  obtain ⟨i,j,rfl,rfl,h⟩:=twoI h;exact T6 p9 s Y H _ _ v u Q I rx ry ⟨_,_,rfl,rfl,h.1,h.2.now r rfl⟩
 |Pow=>
  obtain ⟨i,j,rfl,rfl,h⟩:=twoI h;exact T7 p9 s Y H _ _ v u Q I rx ry ⟨_,_,rfl,rfl,h.1,h.2.now r rfl⟩
 |_=>exact h.elim
end
mutual
theorem lE:∀{d:D},nr d=true->deq d d=true
 |.non,_=>rfl
 |.bl b,_=>by simp[deq]
 |.int i,_=>by simp[deq]
 |.str l,_=>by simp[deq]
 |.tup xs,h=>by rw[deq];exact xJ (by rw[nr]at h;exact h)
 |.lst xs,h=>by rw[deq];exact xJ (by rw[nr]at h;exact h)
 |.ref a,h=>by rw[nr]at h;cases h
 |.scr a,h=>by rw[nr]at h;cases h
 |.exn a,h=>by rw[nr]at h;cases h
 |.exa _ _ _,h=>by rw[nr]at h;cases h
 |.obj _ _ _,h=>by rw[nr]at h;cases h
theorem xJ:∀{ds:AS},nrs ds=true->cL ds ds=true
 |[],_=>rfl
 |d::ds,h=>by
  rw[nrs,ae]at h;rw[cL,lE h.1,xJ h.2];rfl
end
def sr:∀(xs ys:AS),cL xs ys=((List.range (min xs.length ys.length)).all (λj=>deq (xs.getD j .non) (ys.getD j .non))&&xs.length==ys.length)
 |[],[]=>rfl
 |[],y::ys=>by simp[cL]
 |x::xs,[]=>by simp[cL]
 |x::xs,y::ys=>by
  have e:min (x::xs).length (y::ys).length=(min xs.length ys.length)+1:=by simp only[ci];omega
  rw[cL,sr xs ys,e,List.range_succ_eq_map,List.all_cons,List.all_map];simp only[List.getD_cons_zero,ci,Bool.and_assoc];congr 1;congr 1;rw[g9];simp
def XD{xs ys:AS}(h:xs.length≠ys.length):cL xs ys=false:=by rw[sr];rw[show (xs.length==ys.length)=false from eh.mpr h,ij]
def lF:∀{xs:AS}{i:Nat},nrs xs=true->nr (xs.getD i .non)=true
 |[],_,_=>rfl
 |x::xs,0,h=>by rw[nrs,ae]at h;exact h.1
 |x::xs,i+1,h=>by rw[nrs,ae]at h;rw[List.getD_cons_succ];exact lF h.2
def lG:∀{xs:AS}{i:Nat},dpt (xs.getD i .non)<=aV xs
 |[],_=>eP _
 |x::xs,0=>by rw[aV,List.getD_cons_zero];omega
 |x::xs,i+1=>by rw[aV,List.getD_cons_succ];have:=@lG xs i;omega
section
variable {X:Cx} {p9:AC} {σ:L2.St} {H:Hp} {s:AI} {F:FZ}
mutual
theorem su(I:Inv X p9 σ H s):∀{d d':D}{v:V},nr d=true->nr d'=true->Rep X.K H F d v->Rep X.K H F d' v->d=d'
 |.non,d',v,_,n',h,h'=>by
  have h:v=.non:=h;subst h;cases d' with
  |non=>rfl
  |bl _=>simp only[Rep]at h';cases h'
  |int _=>simp only[Rep]at h';cases h'
  |ref _=>simp only[Rep]at h';cases h'
  |scr _=>rw[nr]at n';cases n'
  |exn _=>rw[nr]at n';cases n'
  |exa _ _ _=>rw[nr]at n';cases n'
  |obj _ _ _=>rw[nr]at n';cases n'
  |str _=>simp only[Rep]at h';obtain ⟨e,_⟩:=h';cases e
  |tup _=>simp only[Rep]at h';obtain ⟨_,_,e,_⟩:=h';cases e
  |lst _=>simp only[Rep]at h';obtain ⟨_,_,e,_⟩:=h';cases e
 |.bl b,d',v,_,n',h,h'=>by
  have h:v=.bl b:=h;subst h;cases d' with
  |non=>simp only[Rep]at h';cases h'
  |bl _=>simp only[Rep]at h';cases h';rfl
  |int _=>simp only[Rep]at h';cases h'
  |ref _=>simp only[Rep]at h';cases h'
  |scr _=>rw[nr]at n';cases n'
  |exn _=>rw[nr]at n';cases n'
  |exa _ _ _=>rw[nr]at n';cases n'
  |obj _ _ _=>rw[nr]at n';cases n'
  |str _=>simp only[Rep]at h';obtain ⟨e,_⟩:=h';cases e
  |tup _=>simp only[Rep]at h';obtain ⟨_,_,e,_⟩:=h';cases e
  |lst _=>simp only[Rep]at h';obtain ⟨_,_,e,_⟩:=h';cases e
 |.int b,d',v,_,n',h,h'=>by
  have h:v=.int b:=h;subst h;cases d' with
  |non=>simp only[Rep]at h';cases h'
  |bl _=>simp only[Rep]at h';cases h'
  |int _=>simp only[Rep]at h';cases h';rfl
  |ref _=>simp only[Rep]at h';cases h'
  |scr _=>rw[nr]at n';cases n'
  |exn _=>rw[nr]at n';cases n'
  |exa _ _ _=>rw[nr]at n';cases n'
  |obj _ _ _=>rw[nr]at n';cases n'
  |str _=>simp only[Rep]at h';obtain ⟨e,_⟩:=h';cases e
  |tup _=>simp only[Rep]at h';obtain ⟨_,_,e,_⟩:=h';cases e
  |lst _=>simp only[Rep]at h';obtain ⟨_,_,e,_⟩:=h';cases e
 |.str l,d',v,_,n',h,h'=>by
  obtain ⟨h,_⟩:=h;subst h;cases d' with
  |str l'=>
   obtain ⟨e,_⟩:=h';injection e with e;rw[Dd e]
  |non=>simp only[Rep]at h';cases h'
  |bl _=>simp only[Rep]at h';cases h'
  |int _=>simp only[Rep]at h';cases h'
  |ref _=>simp only[Rep]at h';cases h'
  |scr _=>rw[nr]at n';cases n'
  |exn _=>rw[nr]at n';cases n'
  |exa _ _ _=>rw[nr]at n';cases n'
  |obj _ _ _=>rw[nr]at n';cases n'
  |tup _=>simp only[Rep]at h';obtain ⟨_,_,e,_⟩:=h';cases e
  |lst _=>simp only[Rep]at h';obtain ⟨_,_,e,_⟩:=h';cases e
 |.tup xs,d',v,n,n',h,h'=>by
  obtain ⟨a,vs,e,q,t⟩:=h;subst e;cases d' with
  |tup ys=>
   obtain ⟨a',vs',e,q',t'⟩:=h';injection e with e;subst e;have:=I.tuple_inj q.sq q'.sq;subst this;rw[nr]at n n';rw[xK I n n' t t']
  |lst ys=>
   obtain ⟨a',vs',e,q',t'⟩:=h';injection e with e;subst e;obtain ⟨its,_,⟨o,e1,c1,_⟩,_⟩:=I.tuple q.sq;obtain ⟨its',_,⟨o',n',e2,c2,_⟩,_⟩:=I.list q'.sq;rw[e1]at e2;cases e2;rw[c1]at c2;exact absurd c2 (by ac_rfl)
  |ref _=>rw[nr]at n';cases n'
  |scr _=>rw[nr]at n';cases n'
  |exn _=>rw[nr]at n';cases n'
  |exa _ _ _=>rw[nr]at n';cases n'
  |obj _ _ _=>rw[nr]at n';cases n'
  |str _=>simp only[Rep]at h';obtain ⟨e,_⟩:=h';cases e
  |non=>simp only[Rep]at h';cases h'
  |bl _=>simp only[Rep]at h';cases h'
  |int _=>simp only[Rep]at h';cases h'
 |.lst xs,d',v,n,n',h,h'=>by
  obtain ⟨a,vs,e,q,t⟩:=h;subst e;cases d' with
  |lst ys=>
   obtain ⟨a',vs',e,q',t'⟩:=h';injection e with e;subst e;have:=I.list_inj q.sq q'.sq;subst this;rw[nr]at n n';rw[xK I n n' t t']
  |tup ys=>
   obtain ⟨a',vs',e,q',t'⟩:=h';injection e with e;subst e;obtain ⟨its,_,⟨o,e1,c1,_⟩,_⟩:=I.tuple q'.sq;obtain ⟨its',_,⟨o',n',e2,c2,_⟩,_⟩:=I.list q.sq;rw[e1]at e2;cases e2;rw[c1]at c2;exact absurd c2 (by ac_rfl)
  |ref _=>rw[nr]at n';cases n'
  |scr _=>rw[nr]at n';cases n'
  |exn _=>rw[nr]at n';cases n'
  |exa _ _ _=>rw[nr]at n';cases n'
  |obj _ _ _=>rw[nr]at n';cases n'
  |str _=>simp only[Rep]at h';obtain ⟨e,_⟩:=h';cases e
  |non=>simp only[Rep]at h';cases h'
  |bl _=>simp only[Rep]at h';cases h'
  |int _=>simp only[Rep]at h';cases h'
 |.ref a,d',v,n,_,_,_=>by rw[nr]at n;cases n
 |.scr a,d',v,n,_,_,_=>by rw[nr]at n;cases n
 |.exn a,d',v,n,_,_,_=>by rw[nr]at n;cases n
 |.exa _ _ _,d',v,n,_,_,_=>by rw[nr]at n;cases n
 |.obj _ _ _,d',v,n,_,_,_=>by rw[nr]at n;cases n
theorem xK(I:Inv X p9 σ H s):∀{ds ds':AS}{vs:AR},nrs ds=true->nrs ds'=true->Reps X.K H F ds vs->Reps X.K H F ds' vs->ds=ds'
 |[],[],_,_,_,_,_=>rfl
 |[],_::_,_,_,_,h,⟨v,r,e,_⟩=>by have h:_=[]:=h;rw[h]at e;cases e
 |_::_,[],_,_,_,⟨v,r,e,_⟩,h=>by have h:_=[]:=h;rw[h]at e;cases e
 |d::ds,d'::ds',_,n,n',⟨v,r,e,h,t⟩,⟨v',r',e',h',t'⟩=>by
  subst e;injection e' with e1 e2;subst e1;subst e2;rw[nrs,ae]at n n';rw[su I n.1 n'.1 h h',xK I n.2 n'.2 t t']
end
theorem sy{I:Inv X p9 Y H s}{ds:AS}{vs:AR}{its:AB}(t:Reps X.K H F ds vs)(r:Vals vs its)(j:Nat)(h:j < its.length):∃v,Rep X.K H F (ds.getD j .non) v/\RelV v its[j]:=by
 have hl:j < ds.length:=by rw[t.length,r.length];exact h
 have e1:ds[j]?=some (ds.getD j .non):=by rw[db,aS hl];rfl
 obtain ⟨v,e2,r2⟩:=t.get e1;obtain ⟨u,e3,r3⟩:=r.get e2;rw[aS h]at e3;cases e3;exact ⟨v,r2,r3⟩
theorem XF(a b:AA):(tx a==tx b)=(a==b):=by rw[g9,bm,bm];exact ⟨λh=>Dd h,λh=>by rw[h]⟩
theorem XH(I:Inv X p9 Y H s){n:Nat}{A:AM}{xs ys:AS}{a a':AQ}{vs vs':AR}{its its':AB}
  (ih:∀m,m < n->∀(A:AM)(d d':D)(v v':V)(u u':AN),A.units+m < cLine->min (dpt d) (dpt d')<=m->nr d=true->nr d'=true->Rep X.K H F d v->Rep X.K H F d' v'->RelV v u->RelV v' u'->
   SeqAt.RcAt A s u u' (deq d d')/\SeqAt.EqAt A s u u' (deq d d')/\SeqAt.RcNeAt A s u u' (!deq d d'))
  (hu:A.units+n < cLine) (hd:min (dpt (.tup xs)) (dpt (.tup ys))<=n) (n1:nr (.tup xs)=true) (n2:nr (.tup ys)=true) (h:Rep X.K H F (.tup xs) (.ref a)) (h':Rep X.K H F (.tup ys) (.ref a'))
  (pt:s.heap.IsTuple a its.toArray) (pt':s.heap.IsTuple a' its'.toArray) (rv:Vals vs its) (rv':Vals vs' its') (tt:Reps X.K H F xs vs) (tt':Reps X.K H F ys vs'):
  SeqAt.RcAt A s (.ref a) (.ref a') (deq (.tup xs) (.tup ys))/\SeqAt.EqAt A s (.ref a) (.ref a') (deq (.tup xs) (.tup ys))/\SeqAt.RcNeAt A s (.ref a) (.ref a') (!deq (.tup xs) (.tup ys)):=by
 have hd':min (aV xs+1) (aV ys+1)<=n:=by rw[dpt,dpt]at hd;exact hd
 have hn1:nrs xs=true:=by rw[nr]at n1;exact n1
 have hn2:nrs ys=true:=by rw[nr]at n2;exact n2
 have l1:its.toArray.size=xs.length:=by rw[a7,<-rv.length,tt.length]
 have l2:its'.toArray.size=ys.length:=by rw[a7,<-rv'.length,tt'.length]
 have he:∀j (h1:j < its.toArray.size) (h2:j < its'.toArray.size),SeqAt.EqAt A.in1 s its.toArray[j] its'.toArray[j] (deq (xs.getD j .non) (ys.getD j .non)):=by intro j h1 h2;obtain ⟨w1,q1,q2⟩:=sy (I:=I) tt rv j (!!h1);obtain ⟨w2,q3,q4⟩:=sy (I:=I) tt' rv' j (!!h2);have d1:=@lG xs j;have d2:=@lG ys j;exact (ih (n - 1) (!0) A.in1 _ _ w1 w2 _ _ (by show A.units+1+(n - 1) < cLine;omega) (!0) (lF hn1) (lF hn2) q1 q3 (!!q2) (!!q4)).2.1
 have e:deq (.tup xs) (.tup ys)=((List.range (min its.toArray.size its'.toArray.size)).all (λj=>deq (xs.getD j .non) (ys.getD j .non))&&its.toArray.size==its'.toArray.size):=by rw[deq,sr,l1,l2]
 have rc:SeqAt.RcAt A s (.ref a) (.ref a') (deq (.tup xs) (.tup ys)):=by rw[e];exact .tuples pt pt' (!0) he
 refine ⟨rc,?_,by rw[e];exact .tuples pt pt' (!0) he⟩;by_cases z:a=a'
 .subst z;have:=su I n1 n2 h h';rw[<-this,lE n1];exact .same _
 .exact .of_refs z rc
theorem XJ(I:Inv X p9 Y H s){n:Nat}{A:AM}{xs ys:AS}{a a':AQ}{vs vs':AR}{its its':AB}
  (ih:∀m,m < n->∀(A:AM)(d d':D)(v v':V)(u u':AN),A.units+m < cLine->min (dpt d) (dpt d')<=m->nr d=true->nr d'=true->Rep X.K H F d v->Rep X.K H F d' v'->RelV v u->RelV v' u'->
   SeqAt.RcAt A s u u' (deq d d')/\SeqAt.EqAt A s u u' (deq d d')/\SeqAt.RcNeAt A s u u' (!deq d d'))
  (hu:A.units+n < cLine) (hd:min (dpt (.lst xs)) (dpt (.lst ys))<=n) (n1:nr (.lst xs)=true) (n2:nr (.lst ys)=true) (h:a=a'->xs=ys)
  (pt:s.heap.IsList a its.toArray) (pt':s.heap.IsList a' its'.toArray) (rv:Vals vs its) (rv':Vals vs' its') (tt:Reps X.K H F xs vs) (tt':Reps X.K H F ys vs'):
  SeqAt.RcAt A s (.ref a) (.ref a') (deq (.lst xs) (.lst ys))/\SeqAt.EqAt A s (.ref a) (.ref a') (deq (.lst xs) (.lst ys))/\SeqAt.RcNeAt A s (.ref a) (.ref a') (!deq (.lst xs) (.lst ys)):=by
 have hd':min (aV xs+1) (aV ys+1)<=n:=by rw[dpt,dpt]at hd;exact hd
 have hn1:nrs xs=true:=by rw[nr]at n1;exact n1
 have hn2:nrs ys=true:=by rw[nr]at n2;exact n2
 have l1:its.toArray.size=xs.length:=by rw[a7,<-rv.length,tt.length]
 have l2:its'.toArray.size=ys.length:=by rw[a7,<-rv'.length,tt'.length]
 have eqs:∀(rc:SeqAt.RcAt A s (.ref a) (.ref a') (deq (.lst xs) (.lst ys))),SeqAt.EqAt A s (.ref a) (.ref a') (deq (.lst xs) (.lst ys)):=λrc=>by
  by_cases z:a=a'
  .have:=h z;subst z;subst this;rw[lE n1];exact .same _
  .exact .of_refs z rc
 by_cases hl:xs.length=ys.length
 .have he:∀j (h1:j < its.toArray.size) (h2:j < its'.toArray.size),SeqAt.EqAt A.in1 s its.toArray[j] its'.toArray[j] (deq (xs.getD j .non) (ys.getD j .non)):=by
   intro j h1 h2;obtain ⟨w1,q1,q2⟩:=sy (I:=I) tt rv j (!!h1);obtain ⟨w2,q3,q4⟩:=sy (I:=I) tt' rv' j (!!h2);have d1:=@lG xs j;have d2:=@lG ys j;exact (ih (n - 1) (!0) A.in1 _ _ w1 w2 _ _ (by show A.units+1+(n - 1) < cLine;omega) (!0) (lF hn1) (lF hn2) q1 q3 (!!q2) (!!q4)).2.1
  have e:deq (.lst xs) (.lst ys)=(List.range its.toArray.size).all (λj=>deq (xs.getD j .non) (ys.getD j .non)):=by rw[deq,sr,l1,hl,Nat.min_self];simp
  have rc:SeqAt.RcAt A s (.ref a) (.ref a') (deq (.lst xs) (.lst ys)):=by rw[e];exact .lists pt pt' (by rw[l1,l2];exact hl) (!0) he
  exact ⟨rc,eqs rc,by rw[e];exact .lists pt pt' (by rw[l1,l2];exact hl) (!0) he⟩
 .have e:deq (.lst xs) (.lst ys)=false:=by rw[deq];exact XD hl
  have hne:(its.toArray.size != its'.toArray.size)=true:=by rw[l1,l2];simpa using hl
  have rc:SeqAt.RcAt A s (.ref a) (.ref a') (deq (.lst xs) (.lst ys)):=by rw[e];exact .lists_lengths pt pt' hne (!0)
  exact ⟨rc,eqs rc,by rw[e];exact .lists_lengths pt pt' hne (!0)⟩
inductive Sh (K:PF) (H:Hp) (F:FZ) (s:AI):D->V->AN->Prop
 |non:Sh K H F s .non .non .none
 |bl {b:Bool}:Sh K H F s (.bl b) (.bl b) (.bool b)
 |int {i:Int} {t:Tok}:Sh K H F s (.int i) (.int i) (.int i t)
 |str {l:AA} {t:Tok}:Sh K H F s (.str l) (.str (tx l)) (.str (tx l) t)
 |tup {ds:AS} {a:AQ} {vs:AR} {its:AB} (p:s.heap.IsTuple a its.toArray) (r:Vals vs its) (t:Reps K H F ds vs):Sh K H F s (.tup ds) (.ref a) (.ref a)
 |lst {ds:AS} {a:AQ} {vs:AR} {its:AB} (p:s.heap.IsList a its.toArray) (r:Vals vs its) (t:Reps K H F ds vs):Sh K H F s (.lst ds) (.ref a) (.ref a)
theorem Gb(I:Inv X p9 Y H s){d:D}{v:V}{u:AN}(n:nr d=true)(h:Rep X.K H F d v)(r:RelV v u):Sh X.K H F s d v u:=by
 cases d with
 |non=>have e:v=.non:=h;subst e;have e:u=Value.none:=r;subst e;exact .non
 |bl b=>have e:v=.bl b:=h;subst e;have e:u=Value.bool b:=r;subst e;exact .bl
 |int i=>have e:v=.int i:=h;subst e;obtain ⟨t,e⟩:∃t,u=Value.int i t:=r;subst e;exact .int
 |str l=>obtain ⟨e,_⟩:=h;subst e;obtain ⟨t,e⟩:∃t,u=Value.str (tx l) t:=r;subst e;exact .str
 |tup ds=>obtain ⟨a,vs,e,q,tt⟩:=h;subst e;have e:u=Value.ref a:=r;subst e;obtain ⟨its,rv,pt,_⟩:=I.tuple q.sq;exact .tup pt rv tt
 |lst ds=>obtain ⟨a,vs,e,q,tt⟩:=h;subst e;have e:u=Value.ref a:=r;subst e;obtain ⟨its,rv,pl,_⟩:=I.list q.sq;exact .lst pl.isList rv tt
 |_=>rw[nr]at n;cases n
theorem xM(I:Inv X p9 Y H s):∀(n:Nat)(A:AM)(d d':D)(v v':V)(u u':AN),A.units+n < cLine->min (dpt d) (dpt d')<=n->nr d=true->nr d'=true->Rep X.K H F d v->Rep X.K H F d' v'->RelV v u->RelV v' u'->
  SeqAt.RcAt A s u u' (deq d d')/\SeqAt.EqAt A s u u' (deq d d')/\SeqAt.RcNeAt A s u u' (!deq d d'):=by
 intro n;induction n using Nat.strongRecOn with
 |_ n ih=>
  intro A d d' v v' u u' hu hd n1 n2 h h' r r';have hu0:A.units < cLine:=by omega
  have k2:=Gb I n2 h' r';cases Gb I n1 h r with
  |non=>
   cases k2 with
   |non=>exact ⟨.none_none,.same _,.none_none⟩
   |bl=>exact ⟨.none_bool _,.none_bool _,.none_bool _⟩
   |int=>exact ⟨.none_int _ _,.none_int _ _,.none_int _ _⟩
   |str=>exact ⟨.none_str _ _,.none_str _ _,.none_str _ _⟩
   |tup p' rv' tt'=>exact ⟨.none_tuple p' hu0,.none_tuple p' hu0,.none_tuple p' hu0⟩
   |lst p' rv' tt'=>exact ⟨.none_list p' hu0,.none_list p' hu0,.none_list p' hu0⟩
  |bl=>
   cases k2 with
   |non=>exact ⟨.bool_none _,.bool_none _,.bool_none _⟩
   |bl=>exact ⟨.bool_bool _ _,.bool_bool _ _,.bool_bool _ _⟩
   |int=>exact ⟨.bool_int _ _ _,.bool_int _ _ _,.bool_int _ _ _⟩
   |str=>exact ⟨.bool_str _ _ _,.bool_str _ _ _,.bool_str _ _ _⟩
   |tup p' rv' tt'=>exact ⟨.bool_tuple _ p' hu0,.bool_tuple _ p' hu0,.bool_tuple _ p' hu0⟩
   |lst p' rv' tt'=>exact ⟨.bool_list _ p' hu0,.bool_list _ p' hu0,.bool_list _ p' hu0⟩
  |int=>
   cases k2 with
   |non=>exact ⟨.int_none _ _,.int_none _ _,.int_none _ _⟩
   |bl=>exact ⟨.int_bool _ _ _,.int_bool _ _ _,.int_bool _ _ _⟩
   |int=>exact ⟨.int_int _ _ _ _,.int_int _ _ _ _,.int_int _ _ _ _⟩
   |str=>exact ⟨.int_str _ _ _ _,.int_str _ _ _ _,.int_str _ _ _ _⟩
   |tup p' rv' tt'=>exact ⟨.int_tuple _ _ p' hu0,.int_tuple _ _ p' hu0,.int_tuple _ _ p' hu0⟩
   |lst p' rv' tt'=>exact ⟨.int_list _ _ p' hu0,.int_list _ _ p' hu0,.int_list _ _ p' hu0⟩
  |str=>
   cases k2 with
   |non=>exact ⟨.str_none _ _,.str_none _ _,.str_none _ _⟩
   |bl=>exact ⟨.str_bool _ _ _,.str_bool _ _ _,.str_bool _ _ _⟩
   |int=>exact ⟨.str_int _ _ _ _,.str_int _ _ _ _,.str_int _ _ _ _⟩
   |str=>rw[deq,<-XF];exact ⟨.str_str _ _ _ _,.str_str _ _ _ _,.str_str _ _ _ _⟩
   |tup p' rv' tt'=>exact ⟨.str_tuple _ _ p' hu0,.str_tuple _ _ p' hu0,.str_tuple _ _ p' hu0⟩
   |lst p' rv' tt'=>exact ⟨.str_list _ _ p' hu0,.str_list _ _ p' hu0,.str_list _ _ p' hu0⟩
  |tup p rv tt=>
   cases k2 with
   |non=>exact ⟨.tuple_none p hu0,.tuple_none p hu0,.tuple_none p hu0⟩
   |bl=>exact ⟨.tuple_bool _ p hu0,.tuple_bool _ p hu0,.tuple_bool _ p hu0⟩
   |int=>exact ⟨.tuple_int _ _ p hu0,.tuple_int _ _ p hu0,.tuple_int _ _ p hu0⟩
   |str=>exact ⟨.tuple_str _ _ p hu0,.tuple_str _ _ p hu0,.tuple_str _ _ p hu0⟩
   |tup p' rv' tt'=>exact XH I ih hu hd n1 n2 h h' p p' rv rv' tt tt'
   |lst p' rv' tt'=>exact ⟨.tuple_list p p' hu0,.tuple_list p p' hu0,.tuple_list p p' hu0⟩
  |lst p rv tt=>
   cases k2 with
   |non=>exact ⟨.list_none p hu0,.list_none p hu0,.list_none p hu0⟩
   |bl=>exact ⟨.list_bool _ p hu0,.list_bool _ p hu0,.list_bool _ p hu0⟩
   |int=>exact ⟨.list_int _ _ p hu0,.list_int _ _ p hu0,.list_int _ _ p hu0⟩
   |str=>exact ⟨.list_str _ _ p hu0,.list_str _ _ p hu0,.list_str _ _ p hu0⟩
   |tup p' rv' tt'=>exact ⟨.list_tuple p p' hu0,.list_tuple p p' hu0,.list_tuple p p' hu0⟩
   |lst p' rv' tt'=>exact XJ I ih hu hd n1 n2 (λz=>by subst z;have e:=su I n1 n2 h h';injection e) p p' rv rv' tt tt'
end
def FA(F:FZ)(G:DH):FZ:=λa=>F a\/∃o,G a=some o
def Gd{H:Hp}{F:FZ}{G:DH}:Ext H F H (FA F G):=⟨λ_ f=>.inl f,λ_ _=>rfl,λ_ _ h=>h,λ_ _ _ h=>h⟩
def sE{K:PF}{H:Hp}{F:FZ}{G:DH}{d:D}{v:V}(r:R K H F G)(h:Rep K H F d v):Rep K H (FA F G) (view G d) v:=by
 cases d with
 |ref p=>
  have hv:v=.ref p:=h;cases g:G p with
  |none=>
   have e:view G (.ref p)=.ref p:=by simp only[view,g]
   rw[e];exact hv
  |some o=>
   cases o with
   |lst ds=>
    have e:view G (.ref p)=.lst ds:=by simp only[view,g]
    rw[e];obtain ⟨vs,q,t⟩:=r.lst g;exact ⟨p,vs,hv,⟨.inr ⟨_,g⟩,q⟩,Reps.ext Gd t⟩
 |_=>exact Rep.ext Gd h
def rC2(K:PF)(f:D->D->(Bool->Prop)->Prop):R2:=λx y H Q=>∃F G a b,R K H F G/\Rep K H F a x/\Rep K H F b y/\f (view G a) (view G b) (λc=>PV K H F Q (.bl c) G)
section
variable {X:Cx}
theorem Ge(c:Nat)(l:AA):(!(Builtin.Str.occurrences (tx l) (tx [c]) 0 (tx l).length 1).isEmpty)=l.contains c:=by have:=StrLaws.found_one (tx l) c;rw[this,g9];simp
theorem XM{p9:AC}{Y:L2.St}{H:Hp}{s:AI}{F:FZ}(I:Inv X p9 Y H s){A:AM}{x:D}{v:V}{u:AN}(hu:A.units+64 < cLine)(hx:nr x=true)(rx:Rep X.K H F x v)(ru:RelV v u):
  ∀{ds:AS}{vs:AR}{us:AB},nrs ds=true->aV ds<=60->Reps X.K H F ds vs->Vals vs us->∃e:AN->Bool,(∀y∈us,SeqAt.EqAt A s y u (e y))/\us.any e=isIn x ds:=by
 intro ds vs us hn hd t r;let P:AN->D->Prop:=λy d=>nr d=true/\∃v,Rep X.K H F d v/\RelV v y
 have one:∀y d d',P y d->P y d'->d=d':=λy d d' ⟨n,v,q,z⟩ ⟨n',v',q',z'⟩=>by
  have e:=z.inj z';subst e;exact su I n n' q q'
 have ⟨f,hf⟩:∃f:AN->D,∀y d,P y d->f y=d:=by refine ⟨λy=>Classical.epsilon (P y),λy d h=>?_⟩;exact one y _ _ (Classical.epsilon_spec ⟨d,h⟩) h
 refine ⟨λy=>deq (f y) x,?_,?_⟩
 .skip;have key:∀{ds:AS}{vs:AR}{us:AB},nrs ds=true->aV ds<=60->Reps X.K H F ds vs->Vals vs us->∀y∈us,SeqAt.EqAt A s y u (deq (f y) x):=by
   intro ds;induction ds with
   |nil=>
    intro vs us _ _ t r y hy;have t:vs=[]:=t;subst t;cases r;cases hy
   |cons d ds ih=>
    intro vs us hn hd t r y hy;obtain ⟨v1,r1,e,h1,t1⟩:=t;subst e;rw[nrs,ae]at hn;rw[aV]at hd;cases r with
    |cons p q=>
     rcases bg.mp hy with e |hy
     .subst e;rw[hf _ d ⟨hn.1,_,h1,p⟩];exact (xM I 60 A d x v1 v _ u (!0) (!0) hn.1 hx h1 rx p ru).2.1
     .exact ih hn.2 (!0) t1 q y hy
  exact key hn hd t r
 .have key:∀{ds:AS}{vs:AR}{us:AB},nrs ds=true->Reps X.K H F ds vs->Vals vs us->us.any (λy=>deq (f y) x)=isIn x ds:=by
   intro ds;induction ds with
   |nil=>
    intro vs us _ t r;have t:vs=[]:=t;subst t;cases r;rfl
   |cons d ds ih=>
    intro vs us hn t r;obtain ⟨v1,r1,e,h1,t1⟩:=t;subst e;rw[nrs,ae]at hn;cases r with
    |cons p q=>
     rw[List.any_cons,hf _ d ⟨hn.1,_,h1,p⟩,ih hn.2 t1 q];rfl
  exact key hn t r
theorem jO(op:CmpOp)(hu:X.A.units+100 < cLine):OpR X (compareOp op) (rC2 X.K (bx op)):=by
 intro p9 s Y H x y v u Q I rx ry h;obtain ⟨F,G,a,b,r,ra,rb,h⟩:=h;have ra':=sE r ra;have rb':=sE r rb;generalize view G a=va at h ra';generalize view G b=vb at h rb';have fin:∀c:Bool,PV X.K H F Q (.bl c) G->EP X p9 Y Q (.bool c) s:=λc q=>⟨.bl c,H,I,rfl,q.now r rfl⟩;have hin:∀(l:AS){vs:AR}{us:AB},inG va l->Reps X.K H (FA F G) l vs->Vals vs us->∃e:AN->Bool,(∀z∈us.toArray,SeqAt.EqAt X.A.in1 s z v (e z))/\us.toArray.any e=isIn va l:=λl {vs us} hh t rv=>by
  obtain ⟨e,he,hany⟩:=XM I (A:=X.A.in1) (by show X.A.units+1+64 < cLine;omega) hh.1 ra' rx hh.2.1 hh.2.2 t rv;exact ⟨e,λw hw=>he w (!!hw),!!hany⟩
 have ii:∀{i j:Int},Rep X.K H (FA F G) (.int i) x->Rep X.K H (FA F G) (.int j) y->∃t t',v=.int i t/\u=.int j t':=λe1 e2=>by
  cases (show x=.int _ from e1);cases (show y=.int _ from e2);obtain ⟨t,e⟩:=rx;obtain ⟨t',e'⟩:=ry;exact ⟨t,t',e,e'⟩
 have ss:∀{i j:AA},Rep X.K H (FA F G) (.str i) x->Rep X.K H (FA F G) (.str j) y->∃t t',v=.str (tx i) t/\u=.str (tx j) t':=λe1 e2=>by
  cases e1.1;cases e2.1;obtain ⟨t,e⟩:=rx;obtain ⟨t',e'⟩:=ry;exact ⟨t,t',e,e'⟩
 have hnon:ir va=decide (x=.non):=by
  cases va with
  |non=>cases (show x=.non from ra');rfl
  |bl _=>cases (show x=.bl _ from ra');rfl
  |int _=>cases (show x=.int _ from ra');rfl
  |str _=>cases ra'.1;rfl
  |tup _=>obtain ⟨_,_,e1,_⟩:=ra';cases e1;rfl
  |lst _=>obtain ⟨_,_,e1,_⟩:=ra';cases e1;rfl
  |ref _=>cases (show x=.ref _ from ra');rfl
  |scr _=>obtain ⟨_,e1,_⟩:=ra';cases e1;rfl
  |exn _=>obtain ⟨_,_,e1,_⟩:=ra';cases e1;rfl
  |exa _ _ _=>obtain ⟨_,_,_,_,_,_,_,e1,_⟩:=ra';cases e1;rfl
  |obj _ _ _=>obtain ⟨_,_,_,e1,_⟩:=ra';cases e1;rfl
 cases op with
 |Eq=>exact (xM I 60 X.A _ _ x y v u (!0) h.1.2.2 h.1.1 h.1.2.1 ra' rb' rx ry).1 _ _ _ _ (fin _ h.2)
 |NotEq=>exact (xM I 60 X.A _ _ x y v u (!0) h.1.2.2 h.1.1 h.1.2.1 ra' rb' rx ry).2.2 _ _ _ _ (fin _ h.2)
 |Lt=>
  have h:jF va vb (λc=>PV X.K H F Q (.bl c) G):=h;unfold jF at h;split at h
  .obtain ⟨t,t',e,e'⟩:=ii ra' rb';subst e e';exact lt_int (fin _ h)
  .obtain ⟨t,t',e,e'⟩:=ss ra' rb';subst e e';exact lt_str (fin _ h)
  .exact h.elim
 |LtE=>
  have h:jG va vb (λc=>PV X.K H F Q (.bl c) G):=h;unfold jG at h;split at h
  .obtain ⟨t,t',e,e'⟩:=ii ra' rb';subst e e';exact le_int (fin _ h)
  .obtain ⟨t,t',e,e'⟩:=ss ra' rb';subst e e';exact PySem.P.le_str (fin _ h)
  .exact h.elim
 |Gt=>
  have h:jH va vb (λc=>PV X.K H F Q (.bl c) G):=h;unfold jH at h;split at h
  .obtain ⟨t,t',e,e'⟩:=ii ra' rb';subst e e';exact gt_int (fin _ h)
  .exact h.elim
 |GtE=>
  have h:jJ va vb (λc=>PV X.K H F Q (.bl c) G):=h;unfold jJ at h;split at h
  .obtain ⟨t,t',e,e'⟩:=ii ra' rb';subst e e';exact ge_int (fin _ h)
  .exact h.elim
 |Is=>
  have h:jK va vb (λc=>PV X.K H F Q (.bl c) G):=h;unfold jK at h;split at h
  .cases (show y=.non from rb');exact Ub p9 s Y H _ _ v u Q I rx ry ⟨rfl,by rw[<-hnon];exact h.now r rfl⟩
  .split at h
   .cases (show x=.bl _ from ra');cases (show y=.bl _ from rb');exact V5 p9 s Y H _ _ v u Q I rx ry ⟨_,_,rfl,rfl,h.now r rfl⟩
   .exact h.elim
  .exact h.elim
 |IsNot=>
  have h:jL va vb (λc=>PV X.K H F Q (.bl c) G):=h;unfold jL at h;split at h
  .cases (show y=.non from rb');exact Uc p9 s Y H _ _ v u Q I rx ry ⟨rfl,by rw[<-hnon];exact h.now r rfl⟩
  .split at h
   .cases (show x=.bl _ from ra');cases (show y=.bl _ from rb');exact V9 p9 s Y H _ _ v u Q I rx ry ⟨_,_,rfl,rfl,h.now r rfl⟩
   .exact h.elim
  .exact h.elim
 |In=>
  have h:gK va vb (λc=>PV X.K H F Q (.bl c) G):=h;unfold gK at h;split at h
  .split at h
   .obtain ⟨t,t',e,e'⟩:=ss ra' rb';subst e e';exact in_str (by rw[Ge];exact fin _ h)
   .exact h.elim
  .obtain ⟨p,vs,e2,q2,t⟩:=rb';cases e2;cases ry;obtain ⟨its,rv,pl,hz⟩:=I.list q2.sq;obtain ⟨e,he,hany⟩:=hin _ h.1 t rv;exact SeqAt.in_listAt e pl.isList he (by rw[hany];exact fin _ h.2)
  .obtain ⟨p,vs,e2,q2,t⟩:=rb';cases e2;cases ry;obtain ⟨its,rv,pl,hz⟩:=I.tuple q2.sq;obtain ⟨e,he,hany⟩:=hin _ h.1 t rv;exact SeqAt.in_tupleAt e pl he (by rw[hany];exact fin _ h.2)
  .exact h.elim
 |NotIn=>
  have h:gK va vb (λc=>PV X.K H F Q (.bl (!c)) G):=h;unfold gK at h;split at h
  .split at h
   .obtain ⟨t,t',e,e'⟩:=ss ra' rb';subst e e';exact notIn_str (by rw[Ge];exact fin _ h)
   .exact h.elim
  .obtain ⟨p,vs,e2,q2,t⟩:=rb';cases e2;cases ry;obtain ⟨its,rv,pl,hz⟩:=I.list q2.sq;obtain ⟨e,he,hany⟩:=hin _ h.1 t rv;exact SeqAt.notIn_listAt e pl.isList he (by rw[hany];exact fin _ h.2)
  .obtain ⟨p,vs,e2,q2,t⟩:=rb';cases e2;cases ry;obtain ⟨its,rv,pl,hz⟩:=I.tuple q2.sq;obtain ⟨e,he,hany⟩:=hin _ h.1 t rv;exact SeqAt.notIn_tupleAt e pl he (by rw[hany];exact fin _ h.2)
  .exact h.elim
end
section
variable {X:Cx}
def XN(K:PF):R2:=λx y H Q=>∃F G a b,R K H F G/\Rep K H F a x/\Rep K H F b y/\du (view G a) b (λd=>PV K H F Q d G)
theorem Gf{K:PF}{H:Hp}{F:FZ}{ds:AS}{vs:AR}{i:Int}{d:D}(t:Reps K H F ds vs)(h:atI ds i=some d):∃v,atI vs i=some v/\Rep K H F d v:=by
 unfold atI at h ⊢;rw[<-t.length];cases e:ixN ds.length i with
 |none=>rw[e]at h;cases h
 |some j=>
  rw[e]at h;obtain ⟨v,e1,r⟩:=t.get (show ds[j]?=some d from h);exact ⟨v,e1,r⟩
theorem XQ:IxR X (XN X.K):=by
 intro value slice p9 s Y H x y v u Q I rx ry h hs;obtain ⟨F,G,a,b,r,ra,rb,h⟩:=h;generalize ea:view G a=va at h;unfold du at h;split at h
 .obtain ⟨p,vs,e,q,t⟩:=Rep.list r ra ea;subst e;have e2:y=.int _:=rb;subst e2;split at h
  .rename_i d hd;obtain ⟨w,hw,rw'⟩:=Gf t hd;exact Vf value slice p9 s Y H _ _ v u Q I rx ry ⟨p,vs,_,w,rfl,rfl,q,hw,h.now r rw'⟩ hs
  .exact h.elim
 .cases gJ ea;obtain ⟨p,vs,e,q,t⟩:=ra;subst e;have e2:y=.int _:=rb;subst e2;split at h
  .rename_i d hd;obtain ⟨w,hw,rw'⟩:=Gf t hd;exact Vg value slice p9 s Y H _ _ v u Q I rx ry ⟨p,vs,_,w,rfl,rfl,q.sq,hw,h.now r rw'⟩ hs
  .exact h.elim
 .cases fZ ea;obtain ⟨e,hl⟩:=ra;subst e;have e2:y=.int _:=rb;subst e2;split at h
  .rename_i c hc;exact Vh value slice p9 s Y H _ _ v u Q I rx ry ⟨_,_,c,rfl,rfl,by rw[cI];exact dM hl,hc,h.now r ⟨rfl,by show 1<=sz;decide⟩⟩ hs
  .exact h.elim
 .exact h.elim
theorem XS(l:AA)(lo hi:Option Int):Txt.slice (tx l) lo hi=tx (cut l lo hi):=by
 have e:Builtin.Str.strSliceIndices lo hi 1 (tx l).length=sliceRange (sliceBounds lo hi none (tx l).length).1 (sliceBounds lo hi none (tx l).length).2.1 1:=by unfold Builtin.Str.strSliceIndices sliceBounds;cases lo <;> cases hi <;> rfl
 obtain ⟨h1,h2,h3⟩:=Cy lo hi (tx l).length;rw[h1,h2,sliceRange_one]at e;have e2:((Builtin.Str.strSliceIndices lo hi 1 (tx l).length).filterMap ((tx l).cps[·]?))=cut l lo hi:=by rw[e,pick_run];unfold cut;rw[cI]
 unfold Txt.slice;split
 .rename_i hh;rw[ae]at hh;have hl:=eq_of_beq hh.2;rw[e,af,fy,cI]at hl;have b1:HT.sIx l.length l.length hi<=l.length:=HT.Ck _ _ (am _) hi;unfold cut;by_cases hz:l=[]
  .subst hz;simp
  .have hp:0 < l.length:=iA.mpr hz;have e3:HT.sIx l.length 0 lo=0:=by omega
   have e4:HT.sIx l.length l.length hi=l.length:=by omega
   rw[e3,e4];simp
 .rw[e2]
theorem XX{α:Type}(xs:List α)(lo hi:Option Int):(cut xs lo hi).length<=xs.length:=by unfold cut;rw[br,ce];omega
theorem X3{prog:AK}{w:World}{A:AM}{E:AG}{s:AI}{t sl:AQ}{items:Array AN}{vl vu:AN}{lo hi:Option Int}{Q:AG}(ht:IsTup s.heap t items)(hs:s.heap.IsSliceOf sl vl vu .none)(pl:IsPart vl lo)(pu:IsPart vu hi)
  (hw:HT.sIx items.size 0 lo=0/\HT.sIx items.size items.size hi=items.size) (h:Q (.ref t) s):wpAny (model prog w) A (getItem (.ref t) (.ref sl)) Q E s:=by
 obtain ⟨os,hos,hcs,hds⟩:=id hs;have hTs:s.TypeIs (.ref sl) "slice":=⟨os,hos,hcs⟩;unfold getItem;try with_reducible refine dA ?_
 first |refine ab (al ?_) |skip
 refine ab (wpAny_sequenceKey ht.typeIs (!1) ?_);refine ab (fT (name:=⇑"__getitem__") ht.typeIs gu
  (eR gu ht.typeIs entry_tuple_getitem ?_ (args_tuple_getitem _ _)))
 show wpAny _ _ (Builtin.Tuple.tupleItemsOf (.ref t) >>= _) _ _ s;refine ab (tupleItemsOf_ ht ?_);refine ab (wpAny_typeOf hTs ?_);rw[if_pos (!1)];refine ab (HT.Cq hs pl pu ?_);have hyes:(((HT.sIx items.size 0 lo:Nat):Int)==0&&(1:Int)==1&&(HT.sIx items.size items.size hi - HT.sIx items.size 0 lo)==items.size)=true:=by rw[hw.1,hw.2];simp
 show wpAny _ _ (if (((HT.sIx items.size 0 lo:Nat):Int)==0&&(1:Int)==1&&(HT.sIx items.size items.size hi - HT.sIx items.size 0 lo)==items.size)=true then _ else _) _ _ s;rw[if_pos hyes];refine ab (m:=Builtin.Tuple.tupleIsExact _) (ab (wpAny_typeOf ht.typeIs (al ?_)));rw[if_pos (!1)];exact ab (eW (al ⟨_,rfl,al h⟩))
theorem X4:SlR X (λx lo hi H Q=>∃a xs,x=.ref a/\SqT X.K H a xs/\(HT.sIx xs.length 0 lo=0/\HT.sIx xs.length xs.length hi=xs.length)/\Q (.ref a) H):=by
 intro p9 s Y H x v vl vu lo hi sl Q I rx hs pl pu h;obtain ⟨a,xs,rfl,hx,hw,q⟩:=h;cases rx;obtain ⟨its,r,ht,hz⟩:=I.tuple hx;have hlen:its.toArray.size=xs.length:=by rw[a7];exact r.length.symm
 exact ⟨"tuple",_,gu.lookup,ht.typeIs,X3 ht hs pl pu (by rw[hlen];exact hw) ⟨.ref a,H,I,rfl,q⟩⟩
theorem Gg{K:PF}{H:Hp}{F:FZ}:∀ns:List Int,Reps K H F (ns.map D.int) (ns.map V.int)
 |[]=>rfl
 |n::ns=>⟨_,_,rfl,rfl,Gg ns⟩
def X5(K:PF)(fz:Bool):V->Option Int->Option Int->Hp->VK->Prop:=λx lo hi H Q=>∃F G a,R K H F G/\Rep K H F a x/\fJ fz (view G a) lo hi G (PV K H F Q)
theorem Gi{K:PF}{H:Hp}{F:FZ}{ds:AS}{vs:AR}(t:Reps K H F ds vs)(lo hi:Option Int):Reps K H F (cut ds lo hi) (eZ vs lo hi):=t.cut lo hi
theorem X6(fz:Bool):SlR X (X5 X.K fz):=by
 intro p9 s Y H x v vl vu lo hi sl Q I rx hs pl pu h;obtain ⟨F,G,a,r,ra,h⟩:=h;generalize ea:view G a=va at h;unfold fJ at h;split at h
 .obtain ⟨p,vs,e,q,t⟩:=Rep.list r ra ea;subst e;exact Cz p9 s Y H _ v vl vu lo hi sl Q I rx hs pl pu ⟨p,vs,rfl,q,gh h r (Gi t lo hi)⟩
 .rename_i ns;have ea':a=.scr ns:=by
   cases a with
   |ref p=>
    unfold view at ea;cases g:G p with
    |none=>simp only[g]at ea;cases ea
    |some o=>cases o;simp only[g]at ea;cases ea
   |_=>exact ea
  subst ea';obtain ⟨p,e,q⟩:=ra;subst e;refine Cz p9 s Y H _ v vl vu lo hi sl Q I rx hs pl pu ⟨p,_,rfl,q.sq,gh h r ?_⟩;have e2:eZ (ns.map V.int) lo hi=(cut ns lo hi).map V.int:=by unfold eZ cut;rw[af,List.map_take,List.map_drop]
  rw[e2];exact Gg (cut ns lo hi)
 .cases gJ ea;obtain ⟨p,vs,e,q,t⟩:=id ra;subst e;by_cases hw:HT.sIx vs.length 0 lo=0/\HT.sIx vs.length vs.length hi=vs.length
  .refine X4 p9 s Y H _ v vl vu lo hi sl Q I rx hs pl pu ⟨p,vs,rfl,q.sq,hw,?_⟩;refine h.now r ?_;rename_i ds;have:cut ds lo hi=ds:=by
    unfold cut;rw[t.length,hw.1,hw.2];simp[<-t.length]
   rw[this];exact ra
  .exact U8 p9 s Y H _ v vl vu lo hi sl Q I rx hs pl pu ⟨p,vs,rfl,q.sq,hw,rZ h r (Gi t lo hi)⟩
 .cases fZ ea;obtain ⟨e,hl⟩:=ra;subst e;refine V8 p9 s Y H _ v vl vu lo hi sl Q I rx hs pl pu ⟨_,rfl,by rw[cI];exact dM hl,?_⟩;rw[XS];exact h.now r ⟨rfl,bS (XX _ _ _) hl⟩
 .exact h.elim
theorem Gj{K:PF}{H:Hp}{F:FZ}{G:DH}{d:D}{v:V}{b:Bool}(r:R K H F G)(h:Rep K H F d v)(e:truth (view G d)=some b):qW K v H b:=by
 have h':=sE r h;generalize view G d=w at e h';cases w with
 |non=>have e1:v=.non:=h';subst e1;simp only[truth,bq]at e;exact e.symm
 |bl x=>have e1:v=.bl x:=h';subst e1;simp only[truth,bq]at e;exact e.symm
 |int i=>have e1:v=.int i:=h';subst e1;simp only[truth,bq]at e;exact e.symm
 |str l=>
  obtain ⟨e1,hl⟩:=h';subst e1;simp only[truth,bq]at e;refine ⟨by rw[cI];exact dM hl,?_⟩;rw[cI,<-e];cases l with
  |nil=>rfl
  |cons c l=>simp;omega
 |tup l=>
  obtain ⟨a,vs,e1,q,t⟩:=h';subst e1;simp only[truth,bq]at e;refine .inr (.inl ⟨vs,q.sq,?_⟩);rw[<-e];cases l with
  |nil=>have t:vs=[]:=t;subst t;rfl
  |cons c l=>obtain ⟨_,_,e2,_⟩:=t;subst e2;rfl
 |lst l=>
  obtain ⟨a,vs,e1,q,t⟩:=h';subst e1;simp only[truth,bq]at e;refine .inl ⟨vs,q.sq,?_⟩;rw[<-e];cases l with
  |nil=>have t:vs=[]:=t;subst t;rfl
  |cons c l=>obtain ⟨_,_,e2,_⟩:=t;subst e2;rfl
 |ref a=>simp[truth]at e
 |scr a=>simp[truth]at e
 |exn a=>simp[truth]at e
 |exa _ _ _=>simp[truth]at e
 |obj _ _ _=>simp[truth]at e
theorem Gk{K:PF}{H:Hp}{F:FZ}:∀{ds:AS}{vs:AR}{bs:List Bool},bools ds=some bs->Reps K H F ds vs->vs=bs.map V.bl
 |[],_,bs,e,h=>by
  simp only[bools,bq]at e;subst e;exact h
 |d::ds,_,bs,e,⟨v,w,e1,h,t⟩=>by
  cases d with
  |bl b=>
   simp only[bools]at e;cases q:bools ds with
   |none=>rw[q]at e;cases e
   |some s=>
    rw[q]at e;cases e;have hv:v=.bl b:=h;rw[e1,hv,Gk q t];rfl
  |_=>simp[bools]at e
theorem cF{K:PF}{H:Hp}{F:FZ}{d:D}{vs:AR}(t:Reps K H F [d] vs):∃v,vs=[v]/\Rep K H F d v:=by obtain ⟨v,r,e,h,t⟩:=t;have t:r=[]:=t;subst t;exact ⟨v,e,h⟩
def je(K:PF)(f:Bf):AR->Hp->VK->Prop:=λvs H Q=>∃F G ds,R K H F G/\Reps K H F ds vs/\opB f (ds.map (view G)) (λd=>PV K H F Q d G)
theorem map_one{G:DH}{ds:AS}{x:D}(h:ds.map (view G)=[x]):∃d,ds=[d]/\view G d=x:=by
 match ds,h with
 |[d],h=>exact ⟨d,rfl,!!h⟩
theorem X7:bQ X (.builtin "len") (je X.K .len):=by
 intro p9 s Y H xs us Q I rs h;obtain ⟨F,G,ds,r,t,h⟩:=h;generalize ea:ds.map (view G)=va at h;simp only[opB,vQ]at h;split at h
 .obtain ⟨d,rfl,ev⟩:=map_one ea;obtain ⟨v,rfl,rv⟩:=cF t;obtain ⟨a,vs,e,q,t'⟩:=Rep.list r rv ev;subst e;exact CG p9 s Y H _ us Q I rs ⟨a,vs,rfl,.inl q,by rw[<-t'.length];exact h.now r rfl⟩
 .obtain ⟨d,rfl,ev⟩:=map_one ea;obtain ⟨v,rfl,rv⟩:=cF t;cases gJ ev;obtain ⟨a,vs,e,q,t'⟩:=rv;subst e;exact CG p9 s Y H _ us Q I rs ⟨a,vs,rfl,.inr q.sq,by rw[<-t'.length];exact h.now r rfl⟩
 .obtain ⟨d,rfl,ev⟩:=map_one ea;obtain ⟨v,rfl,rv⟩:=cF t;cases fZ ev;obtain ⟨e,hl⟩:=rv;subst e;exact Vm p9 s Y H _ us Q I rs ⟨_,rfl,by rw[cI];exact dM hl,by rw[cI];exact h.now r rfl⟩
 .exact h.elim
theorem X8 (hc:X.calm=true):bQ X (.builtin "all") (je X.K .all):=by
 intro p9 s Y H xs us Q I rs h;obtain ⟨F,G,ds,r,t,h⟩:=h;generalize ea:ds.map (view G)=va at h;simp only[opB,rD]at h;split at h
 .obtain ⟨d,rfl,ev⟩:=map_one ea;obtain ⟨v,rfl,rv⟩:=cF t;obtain ⟨a,vs,e,q,t'⟩:=Rep.list r rv ev;subst e;split at h
  .rename_i bs hb;have e2:=Gk hb t';subst e2;exact V4 hc p9 s Y H _ us Q I rs ⟨a,bs,rfl,q,h.now r rfl⟩
  .exact h.elim
 .exact h.elim
theorem Yb:bQ X (.type "int") (je X.K .int):=by
 intro p9 s Y H xs us Q I rs h;obtain ⟨F,G,ds,r,t,h⟩:=h;generalize ea:ds.map (view G)=va at h;simp only[opB,rE]at h;split at h
 .obtain ⟨d,rfl,ev⟩:=map_one ea;obtain ⟨v,rfl,rv⟩:=cF t;cases vP ev;have e:v=.bl _:=rv;subst e;exact BX p9 s Y H _ us Q I rs (.inr ⟨_,rfl,h.now r rfl⟩)
 .obtain ⟨d,rfl,ev⟩:=map_one ea;obtain ⟨v,rfl,rv⟩:=cF t;cases fH ev;have e:v=.int _:=rv;subst e;exact BX p9 s Y H _ us Q I rs (.inl ⟨_,rfl,h.now r rfl⟩)
 .obtain ⟨d,rfl,ev⟩:=map_one ea;obtain ⟨v,rfl,rv⟩:=cF t;cases fZ ev;obtain ⟨e,hl⟩:=rv;subst e;split at h
  .rename_i n hn;exact V6 p9 s Y H _ us Q I rs ⟨_,n,rfl,hn,by rw[cI];exact h.1,h.2.now r rfl⟩
  .exact h.elim
 .exact h.elim
theorem Yc:bQ X (.type "tuple") (je X.K .tuple):=by
 intro p9 s Y H xs us Q I rs h;obtain ⟨F,G,ds,r,t,h⟩:=h;generalize ea:ds.map (view G)=va at h;simp only[opB,vR]at h;split at h
 .obtain ⟨d,rfl,ev⟩:=map_one ea;obtain ⟨v,rfl,rv⟩:=cF t;obtain ⟨a,vs,e,q,t'⟩:=Rep.list r rv ev;subst e;exact CN p9 s Y H _ us Q I rs ⟨a,vs,rfl,.inl ⟨q,rZ h r t'⟩⟩
 .obtain ⟨d,rfl,ev⟩:=map_one ea;obtain ⟨v,rfl,rv⟩:=cF t;cases gJ ev;obtain ⟨a,vs,e,q,t'⟩:=id rv;subst e;exact CN p9 s Y H _ us Q I rs ⟨a,vs,rfl,.inr ⟨q.sq,h.now r rv⟩⟩
 .exact h.elim
def Gm(K:PF)(fz:Bool)(f:Lf):AR->Hp->VK->Prop:=λvs H Q=>∃F G ds,R K H F G/\Reps K H F ds vs/\cZ f (ds.map (view G)) (λxs=>mk fz xs G (PV K H F Q))
theorem Yd(l:AA):∀(us:AB),us.length=l.length->(∀(j:Nat)(v:AN),us[j]?=some v->∃(c:Nat)(u:Tok),l[j]?=some c/\v=Value.str ⟨#[c]⟩ u)->Vals (l.map λc=>V.str (tx [c])) us:=by
 induction l with
 |nil=>intro us h _;cases us with |nil=>exact .nil |cons _ _=>cases h
 |cons c l ih=>
  intro us h q;cases us with
  |nil=>cases h
  |cons u us=>
   obtain ⟨c',t,e1,e2⟩:=q 0 u (by simp);have e1:c=c':=by simpa using e1
   subst e1;exact .cons ⟨t,e2⟩ (ih us (!!h) λj v hv=>by simpa using q (j+1) v (!!hv))
theorem Ye (hc:X.calm=true):bQ X (.type "list") (λxs H Q=>∃l:AA,xs=[.str (tx l)]/\l.length<=sizeLine/\∀p,H p=none->Q (.ref p) (upd H p (.lst (l.map λc=>V.str (tx [c]))))):=by
 intro p9 s Y H xs us Q I r h;obtain ⟨l,rfl,hz,q⟩:=h;obtain ⟨u,rfl,t,rfl⟩:=vals1 r;have hz':(tx l).cps.size<=sizeLine:=by simpa using hz
 refine call_list_str (hn:=hz') (I.ok.hd hc) (tx l) t λh' tk acc' c' kp e hi=>?_;have hv:Vals (l.map λc=>V.str (tx [c])) acc'.toList:=by
  refine Yd l _ ?_ λj v hv=>?_
  .rw[bB,hi.1];simp
  .obtain ⟨c,u,e1,e2⟩:=hi.2 j v (by rw[<-gc];exact hv);exact ⟨c,u,!!e1,e2⟩
 exact ⟨.ref (~~~s),_,I.laid (t':=tk) kp (am _) (show ObjOk X.prog X.w _ h' _ (.lst _) from ⟨by rw[af];exact hz,acc'.toList,c',hv,by rw[Array.toArray_toList];exact e⟩),rfl,q _ (I.hok.fresh (am _))⟩
theorem xN{K:PF}{H:Hp}{F:FZ}:∀l:AA,Reps K H F (l.map λc=>D.str [c]) (l.map λc=>V.str (tx [c]))
 |[]=>rfl
 |c::l=>⟨_,_,rfl,⟨rfl,by show 1<=sz;decide⟩,xN l⟩
theorem Yg (hc:X.calm=true) (fz:Bool):bQ X (.type "list") (Gm X.K fz .list):=by
 intro p9 s Y H xs us Q I rs h;obtain ⟨F,G,ds,r,t,h⟩:=h;generalize ea:ds.map (view G)=va at h;simp only[cZ,vW]at h;split at h
 .obtain ⟨d,rfl,ev⟩:=map_one ea;obtain ⟨v,rfl,rv⟩:=cF t;obtain ⟨a,vs,e,q,t'⟩:=Rep.list r rv ev;subst e;exact CJ p9 s Y H _ us Q I rs ⟨a,vs,rfl,.inl q,gh h r t'⟩
 .obtain ⟨d,rfl,ev⟩:=map_one ea;obtain ⟨v,rfl,rv⟩:=cF t;cases gJ ev;obtain ⟨a,vs,e,q,t'⟩:=id rv;subst e;exact CJ p9 s Y H _ us Q I rs ⟨a,vs,rfl,.inr q.sq,gh h r t'⟩
 .obtain ⟨d,rfl,ev⟩:=map_one ea;obtain ⟨v,rfl,rv⟩:=cF t;cases fZ ev;obtain ⟨e,hl⟩:=rv;subst e;exact Ye hc p9 s Y H _ us Q I rs ⟨_,rfl,dM hl,gh h r (xN _)⟩
 .exact h.elim
theorem sG{K:PF}{H:Hp}{F:FZ}:∀{ds:AS}{vs:AR}{ls:List (AA)},bu ds=some ls->Reps K H F ds vs->vs=(ls.map tx).map V.str
 |[],_,bs,e,h=>by
  simp only[bu,bq]at e;subst e;exact h
 |d::ds,_,bs,e,⟨v,w,e1,h,t⟩=>by
  cases d with
  |str b=>
   simp only[bu]at e;cases q:bu ds with
   |none=>rw[q]at e;cases e
   |some s=>
    rw[q]at e;cases e;obtain ⟨hv,_⟩:=h;rw[e1,hv,sG q t];rfl
  |_=>simp[bu]at e
theorem Gn{K:PF}{H:Hp}{F:FZ}:∀{ds:AS}{vs:AR}{ns:List Int},cP ds=some ns->Reps K H F ds vs->vs=ns.map V.int
 |[],vs,ns,e,t=>by
  simp only[cP,bq]at e;subst e;have t:vs=[]:=t;rw[t];rfl
 |d::ds,vs,ns,e,t=>by
  obtain ⟨v,r,e1,h,t⟩:=t;cases d with
  |int b=>
   simp only[cP]at e;cases q:cP ds with
   |none=>rw[q]at e;cases e
   |some s=>
    rw[q]at e;cases e;have hv:v=.int b:=h;rw[e1,hv,Gn q t];rfl
  |_=>simp[cP]at e
theorem Gp:∀{ns:List Int}{its:AB},Vals (ns.map V.int) its->IntsAre its ns
 |[],its,h=>by cases h;exact .nil
 |n::ns,its,h=>by
  cases h with
  |cons a b=>
   obtain ⟨t,rfl⟩:=a;exact .cons n t (Gp b)
theorem Yh:bootBuiltins "sorted"=some (.builtin "sorted"):=by ac_rfl
theorem xO:∀{ls:List (AA)}{its:AB},Vals ((ls.map tx).map V.str) its->StrsAre its (ls.map tx)
 |[],its,h=>by cases h;exact .nil
 |n::ns,its,h=>by
  cases h with
  |cons a b=>
   obtain ⟨t,rfl⟩:=a;exact .cons _ t (xO b)
theorem Gq:∀{ss:AD}{its:AB},StrsAre its ss->Vals (ss.map V.str) its
 |_,_,.nil=>.nil
 |_,_,.cons y t h=>.cons ⟨t,rfl⟩ (Gq h)
theorem Yi{ss:AD}{ls:List (AA)}(h:ss.Perm (ls.map tx)):∃ls':List (AA),ss=ls'.map tx/\ls'.Perm ls:=by
 refine ⟨ss.map λs=>s.cps.toList,?_,?_⟩
 .rw[eL];refine (List.map_id ss).symm.trans (gy λs _=>?_);show s=tx s.cps.toList;exact qY s
 .have:=h.map λs=>s.cps.toList;rw[eL]at this;have e:(λs:Str=>s.cps.toList)∘tx=id:=by funext l;rfl
  rw[e,List.map_id]at this;exact this
theorem txe{a b:AA}(h:tx a=tx b):a=b:=fE (λs:Str=>s.cps.toList) h
theorem Yj(ks:List (AA))(k:AA):putK (ks.map tx) (tx k)=(putN ks k).map tx:=by
 unfold putK putN;by_cases h:k∈ks
 .rw[if_pos h,if_pos (List.mem_map_of_mem h)]
 .rw[if_neg h,if_neg (λz=>by obtain ⟨y,hy,e⟩:=b6.mp z;exact h (txe e ▸ hy)),cb];rfl
def lH(X:Cx)(l:AQ)(ks:List (AA)):HO:=.ext λh=>SetL X.prog X.w h l (ks.map tx) (!cJ X.w)
theorem Gs:∀(ls ks:List (AA))(y:AA),y∈ls.foldl putN ks->y∈ks\/y∈ls
 |[],ks,y,h=>.inl h
 |x::ls,ks,y,h=>by
  rcases Gs ls (putN ks x) y h with z |z
  .unfold putN at z;split at z
   .exact .inl z
   .rcases bv.mp z with z |z
    .exact .inl z
    .exact .inr (by rw[aE.mp z];exact aI)
  .exact .inr (bp _ z)
theorem xP(ls:List (AA)){y:AA}(h:y∈cA ls):y∈ls:=by
 rcases Gs ls [] y h with z |z
 .cases z
 .exact z
theorem Yk(ls:List (AA)):met (λi=>tx (ls.getD i [])) ls.length=(cA ls).map tx:=by
 have go:∀n,n<=ls.length->met (λi=>tx (ls.getD i [])) n=(cA (ls.take n)).map tx:=by
  intro n;induction n with
  |zero=>intro _;rfl
  |succ n ih=>
   intro hn;have hlt:n < ls.length:=hn;rw[vG,ih (Nat.le_of_succ_le hn),Yj,List.take_succ_eq_append_getElem hlt];unfold cA;rw[List.foldl_append];show _=(putN _ ls[n]).map tx;rw[db,aS hlt];rfl
 have:=go ls.length (am _);rw[ee]at this;exact this
theorem Yl (hc:X.calm=true):bQ X (.type "set") (λxs H Q=>∃(p:AQ) (ls:List (AA)),xs=[.ref p]/\SqL X.K H p ((ls.map tx).map V.str)/\ls.length<=1000/\∀l,H l=none->Q (.ref l) (upd H l (lH X l (cA ls)))):=by
 intro p9 s Y H xs us Q I r h;obtain ⟨p,ls,rfl,hq,hz,q⟩:=h;obtain ⟨u,rfl,ru⟩:=vals1 r;cases ru;obtain ⟨its,rv,pl,_⟩:=I.list hq;have hlen:its.length=ls.length:=by rw[<-rv.length];simp
 have hsa:=xO rv;refine WM (val:=λi=>tx (ls.getD i [])) (I.ok.hd hc) pl.isList (λi v e=>?_) (by rw[a7];unfold scanBound;omega) λh' tk hS hk=>?_
 .have hi:i < its.length:=by
   rcases im i its.length with z |z
   .exact z
   .rw[hJ,eA z]at e;cases e
  have e2:its[i]?=some v:=by rw[hJ]at e;exact e
  obtain ⟨x,t,rfl⟩:=hsa.all v (bb e2);have e3:=fE (·[i]?) hsa.strs;simp only[av,e2]at e3;rw[aS (!0)]at e3;refine ⟨t,?_⟩;rw[db,aS (!0)];have e4:x=tx (ls[i]'(!0)):=cm e3;rw[e4];rfl
 .have ez:its.toArray.size=ls.length:=by rw[a7];exact hlen
  rw[ez,Yk]at hS;obtain ⟨es,ep,t,ho,rest⟩:=hS;refine ⟨.ref (~~~s),_,I.laid (t':=tk) (λb o e=>hk b o (a9 e) e) (am _) (show ObjOk X.prog X.w _ _ _ (lH X (~~~s) (cA ls)) from ⟨⟨es,ep,t,ho,rest⟩,⟨_,ho⟩,λh1 h2 z k=>?_⟩),rfl,q _ (I.hok.fresh (am _))⟩;obtain ⟨es1,ep1,t1,ho1,rest1⟩:=z;exact ⟨es1,ep1,t1,k _ ho1,rest1⟩
theorem Ym{p9:AC}{Y:L2.St}{H:Hp}{s:AI}{d:Drawn}(I:L2.Inv X p9 Y H s):L2.Inv X p9 Y H { s with drawn:=d }:=by cases I;constructor <;> assumption
theorem Yn (hc:X.calm=true):bQ X (.builtin "sorted") (λxs H Q=>∃(p:AQ) (ks:List (AA)),xs=[.ref p]/\H p=some (lH X p ks)/\ks.length<=64/\∀ls':List (AA),ls'.Perm ks->∀l,H l=none->Q (.ref l) (upd H l (.lst ((ls'.map tx).map V.str)))):=by
 intro p9 s Y H xs us Q I r h;obtain ⟨p,ks,rfl,hq,h64,q⟩:=h;obtain ⟨u,rfl,ru⟩:=vals1 r;cases ru;have hS:=(show ObjOk X.prog X.w H s.heap p (lH X p ks) from I.hok p _ hq).1;refine Xh (I.ok.hd hc) hS (by rw[af];exact h64) λh1 h' d tk e out ss' a1 a2 _ k1 k2 htk he=>?_;obtain ⟨ls',rfl,pm⟩:=Yi a2;have hsz:((ls'.map tx).map V.str).length<=sizeLine:=by rw[af,af,pm.length_eq];exact bS h64 (!1)
 have I1:Inv X p9 Y H { s with heap:=h1,drawn:=d,toks:=tk }:=Ym (I.kept (t':=tk) k1);exact ⟨.ref h1.objs.size,_,I1.laid k2 (am _) (show ObjOk X.prog X.w _ _ _ (.lst ((ls'.map tx).map V.str)) from ⟨hsz,out.toList,e,Gq a1,by rw[Array.toArray_toList];exact he⟩),rfl,q ls' pm _ (I1.hok.fresh (am _))⟩
theorem Gu{K:PF}{H:Hp}{F:FZ}:∀{ls:List (AA)},(∀l∈ls,l.length<=sz)->Reps K H F (ls.map D.str) ((ls.map tx).map V.str)
 |[],_=>rfl
 |l::ls,h=>⟨_,_,rfl,⟨rfl,h l aI⟩,Gu λx hx=>h x (bp _ hx)⟩
theorem xQ{K:PF}{H:Hp}{F:FZ}:∀{ds:AS}{vs:AR}{ls:List (AA)},bu ds=some ls->Reps K H F ds vs->∀l∈ls,l.length<=sz
 |[],vs,ls,e,t=>by simp only[bu,bq]at e;subst e;intro l hl;cases hl
 |d::ds,vs,ls,e,t=>by
  obtain ⟨v,r,e1,h,t⟩:=t;cases d with
  |str b=>
   simp only[bu]at e;cases q:bu ds with
   |none=>rw[q]at e;cases e
   |some s=>
    rw[q]at e;cases e;intro l hl;rcases bg.mp hl with e |hl
    .rw[e];exact h.2
    .exact xQ q t l hl
  |_=>simp[bu]at e
theorem Gv(val:Nat->AA):∀k,argBest (λi j=>decide (val i < val j)) k<=k/\∀j,j<=k->¬val j < val (argBest (λi j=>decide (val i < val j)) k)
 |0=>⟨am _,λj hj=>by
  have:j=0:=by omega
  subst this;exact List.lt_irrefl _⟩
 |k+1=>by
  obtain ⟨h1,h2⟩:=Gv val k;simp only[argBest];by_cases hc:val (k+1) < val (argBest (λi j=>decide (val i < val j)) k)
  .rw[if_pos (!!hc)];refine ⟨am _,λj hj=>?_⟩;rcases im j (k+1) with hlt |hge
   .exact λh=>h2 j (!0) (List.lt_trans h hc)
   .have:j=k+1:=by omega
    subst this;exact List.lt_irrefl _
  .rw[if_neg (!!hc)];refine ⟨!0,λj hj=>?_⟩;rcases im j (k+1) with hlt |hge
   .exact h2 j (!0)
   .have:j=k+1:=by omega
    subst this;exact hc
section
variable {prog:AK} {w:World} {A:AM} {E:AG} {s:AI} {l:AQ}
theorem sH:∀{its:AB}{ls:List (AA)}{i:Nat}{v:AN},StrsAre its (ls.map tx)->its[i]?=some v->∃t,v=.str (tx (ls.getD i [])) t
 |[],ls,i,v,_,h=>by simp at h
 |x::its,[],i,v,hs,h=>by cases hs
 |x::its,a::ls,0,v,hs,h=>by
  cases hs with
  |cons y t q=>exact ⟨t,!!h.symm⟩
 |x::its,a::ls,i+1,v,hs,h=>by
  cases hs with
  |cons y t q=>
   have:=sH (i:=i) (v:=v) q (!!h);simpa using this
theorem Yo{Q:AG}{its:AB}{ls:List (AA)}(hh:A.handled=none)(hl:s.heap.IsList l its.toArray)(hs:StrsAre its (ls.map tx))(hn:its.length=ls.length)(hne:0 < ls.length)
  (h:∀(m:AA)(t:Tok)(h':Heap)(tk:Nat),m∈ls->(∀a,a∈ls->¬a < m)->(∀b o,s.heap.get? b=some o->h'.get? b=some o)->Q (.str (tx m) t) { s with heap:=h',toks:=tk }):
  wpAny (model prog w) A (call (.builtin "min") [.ref l]) Q E s:=by
 have hlt:l < (~~~s):=by obtain ⟨_,e,_⟩:=hl;exact a9 e
 refine call_min_walk (jp hl ?_);refine ⟨_,_,_,_,_,_,λi j=>decide (ls.getD i [] < ls.getD j []),rfl,Walks.list (A:=A.in1) hh _ l (cp hlt) its.toArray,⟨⟨_,a8 _ rfl,rfl,rfl⟩,hl.push _⟩,?_,?_,?_,?_⟩
 .intro b hb;show b < (s.heap.push _).objs.size;rw[cq];rcases bg.mp hb with rfl |hb
  .exact d0 _
  .rcases bg.mp hb with rfl |hb
   .exact eI hlt
   .cases hb
 .simpa [hn] using hne
 .intro i j vi vj s Q E hi hj h;obtain ⟨t,rfl⟩:=sH hs (!!hi);obtain ⟨u,rfl⟩:=sH hs (!!hj);exact richCompare_gives (op:=.Lt) (typeIs_str s _ t) (typeIs_str s _ u) F.slot_str_lt F.entry_str_lt (F.args_str_lt_2 _ _) (gives_str_lt _ _ t u) (λe=>nomatch e) h
 .intro v h' tk hP hk;obtain ⟨t,rfl⟩:=sH hs (show its[_]?=some v by rw[<-hJ];exact hP);obtain ⟨b1,b2⟩:=Gv (λi=>ls.getD i []) (its.toArray.size - 1);have hsz:its.toArray.size=ls.length:=by simpa using hn
  refine h _ t h' tk ?_ (λa ha=>?_) (old_kept hk)
  .rw[db,aS (!0)];exact e8 _
  .obtain ⟨j,hj,rfl⟩:=List.getElem_of_mem ha;have:=b2 j (!0);rwa [show ls.getD j []=ls[j] by rw[db,aS hj];rfl]at this
end
theorem Yp (hc:X.calm=true):bQ X (.builtin "min") (λxs H Q=>∃(p:AQ) (ns:List Int),xs=[.ref p]/\SqL X.K H p (ns.map V.int)/\ns≠[]/\∀m,m∈ns->(∀a,a∈ns->m<=a)->Q (.int m) H):=by
 intro p9 s Y H xs us Q I r h;obtain ⟨p,ns,rfl,hq,hne,q⟩:=h;obtain ⟨u,rfl,ru⟩:=vals1 r;cases ru;obtain ⟨its,rv,pl,hz⟩:=I.list hq;have hi:=Gp rv;obtain ⟨xs,ex⟩:=hi.allInts.items;have hl:=pl.isList;rw[ex]at hl;have e1:xs.toList.map (·.1)=ns:=by rw[<-PySem.nums_intItems,<-ex];exact hi.numsOf
 have hsz:0 < xs.size:=by have:=iA.mpr hne;rw[<-e1,af,bB]at this;exact this
 refine PySem.min_intList (I.ok.hd hc) hl hsz λv h' tk hv hk=>?_;obtain ⟨t,rfl⟩:=PySem.intItems_at hv;obtain ⟨b1,b2⟩:=PySem.argBest_lt (PySem.numAt xs) (xs.size - 1);refine ⟨.int _,H,I.kept hk,⟨t,rfl⟩,q _ ?_ λa ha=>?_⟩
 .rw[<-e1,PySem.numAt_eq];exact PySem.getD_mem (by rw[af,bB];omega)
 .rw[<-e1]at ha;obtain ⟨j,hj,rfl⟩:=PySem.mem_getD ha;rw[af,bB]at hj;rw[<-PySem.numAt_eq];exact b2 j (!0)
theorem Yq (hc:X.calm=true):bQ X (.builtin "min") (λxs H Q=>∃(p:AQ) (ls:List (AA)),xs=[.ref p]/\SqL X.K H p ((ls.map tx).map V.str)/\ls≠[]/\∀m,m∈ls->(∀a,a∈ls->¬a < m)->Q (.str (tx m)) H):=by
 intro p9 s Y H xs us Q I r h;obtain ⟨p,ls,rfl,hq,hne,q⟩:=h;obtain ⟨u,rfl,ru⟩:=vals1 r;cases ru;obtain ⟨its,rv,pl,hz⟩:=I.list hq;have hlen:its.length=ls.length:=by rw[<-rv.length];simp
 refine Yo (I.ok.hd hc) pl.isList (xO rv) hlen (iA.mpr hne) λm t h' tk h1 h2 hk=>?_;exact ⟨.str (tx m),H,I.kept hk,⟨t,rfl⟩,q m h1 h2⟩
theorem Yr{ds:AS}{ls:List (AA)}(h0:cP ds=none)(h1:bu ds=some ls):ls≠[]:=by
 rintro rfl;cases ds with
 |nil=>simp[cP]at h0
 |cons x y=>cases x <;> simp only[bu]at h1 <;> first | (cases h1;done) | (cases hd:bu y <;> rw[hd]at h1 <;> cases h1)
theorem Ys (hc:X.calm=true):bQ X (.builtin "min") (je X.K .min):=by
 intro p9 s Y H xs us Q I rs h;obtain ⟨F,G,ds,r,t,h⟩:=h;generalize ea:ds.map (view G)=va at h;simp only[opB,lw]at h;split at h
 .obtain ⟨d,rfl,ev⟩:=map_one ea;obtain ⟨v,rfl,rv⟩:=cF t;obtain ⟨a,vs,e,q,t'⟩:=Rep.list r rv ev;subst e;split at h
  .rename_i ns hb;have e2:=Gn hb t';subst e2;exact Yp hc p9 s Y H _ us Q I rs ⟨a,ns,rfl,q,h.1,λm h1 h2=>(h.2 m h1 h2).now r rfl⟩
  .split at h
   .rename_i hb0 _ ls hb;have e2:=sG hb t';have hsz:=xQ hb t';subst e2;refine Yq hc p9 s Y H _ us Q I rs ⟨a,ls,rfl,q,?_,λm h1 h2=>(h m h1 h2).now r ⟨rfl,hsz m h1⟩⟩;exact Yr (by assumption) hb
   .exact h.elim
 .exact h.elim
theorem Yt:bootBuiltins "min"=some (.builtin "min"):=by ac_rfl
theorem Yu:bQ X (.type "str") (je X.K .str):=by
 intro p9 s Y H xs us Q I r h;obtain ⟨F,G,ds,rr,t,h⟩:=h;generalize ea:ds.map (view G)=va at h;simp only[opB,vV]at h;split at h
 .rename_i i;obtain ⟨d',rfl,ev⟩:=map_one ea;obtain ⟨v',rfl,rv⟩:=cF t;have e1:=fH ev;subst e1;have e2:v'=.int i:=rv;subst e2;obtain ⟨⟨h0,h1⟩,h2⟩:=h;have hm:(i.toNat:Int)=i:=Int.toNat_of_nonneg h0;have hl:(iu i.toNat).length<=3:=by
   have:=digits_le ⟨i.toNat,!0⟩;unfold iu;rw[bB];exact this
  have hs:=h2.now rr (v:=.str (tx (iu i.toNat))) ⟨rfl,by have hz:sz=1000000:=rfl;omega⟩;have ht:tx (iu i.toNat)=vB i.toNat:=(qY _).symm;rw[ht]at hs;exact Wo p9 s Y H _ us Q I r ⟨i.toNat,by rw[hm],!0,hs⟩
 .exact h.elim
def dN:D->Option AL
 |.non=>some "NoneType"
 |.bl _=>some "bool"
 |.int _=>some "int"
 |.str _=>some "str"
 |.tup _=>some "tuple"
 |.lst _=>some "list"
 |_=>none
theorem Yv{K:PF}{H:Hp}{F:FZ}{G:DH}{d:D}{v:V}{T:AL}(r:R K H F G)(h:Rep K H F d v)(e:dN (view G d)=some T):TyOf K H v (.type T):=by
 have h':=sE r h;generalize view G d=w at e h';cases w with
 |non=>have e1:v=.non:=h';subst e1;simp only[dN,bq]at e;subst e;exact .non
 |bl x=>have e1:v=.bl x:=h';subst e1;simp only[dN,bq]at e;subst e;exact .bl x
 |int i=>have e1:v=.int i:=h';subst e1;simp only[dN,bq]at e;subst e;exact .int i
 |str l=>obtain ⟨e1,hl⟩:=h';subst e1;simp only[dN,bq]at e;subst e;exact .str _
 |tup l=>obtain ⟨a,vs,e1,q,t⟩:=h';subst e1;simp only[dN,bq]at e;subst e;exact .tup q.it
 |lst l=>obtain ⟨a,vs,e1,q,t⟩:=h';subst e1;simp only[dN,bq]at e;subst e;exact .lst q.2
 |ref a=>simp[dN]at e
 |scr a=>simp[dN]at e
 |exn a=>simp[dN]at e
 |exa _ _ _=>simp[dN]at e
 |obj _ _ _=>simp[dN]at e
def Yw (K:PF):Prop:=∀T t:AL,T∈["NoneType","bool","int","str","tuple","list"]->gM t=true->PySem.W.kitOne K (.type T) (.type t)=some (T==t||(T=="bool"&&t=="int"))
theorem Yx{K:PF}:Yw K:=by intro T t hT ht;simp only[bg,dE,hZ]at hT;simp only[gM,dn,bm]at ht;rcases hT with rfl |rfl |rfl |rfl |rfl |rfl <;> rcases ht with (((rfl |rfl) |rfl) |rfl) |rfl <;> (with_unfolding_all rfl)
theorem Yy {d:D} {t:AL} {b:Bool} (e:isT t d=some b):∃T,dN d=some T/\T∈["NoneType","bool","int","str","tuple","list"]/\(gM t=true->b=(T==t||(T=="bool"&&t=="int"))):=by
 have comm:∀a b:AL,(a==b)=(b==a):=λa b=>by rw[g9,bm,bm];exact ⟨Eq.symm,Eq.symm⟩
 cases d with
 |non=>
  refine ⟨"NoneType",rfl,by simp,λht=>?_⟩;simp only[isT,bq]at e;simp only[gM,dn,bm]at ht;subst e;rcases ht with (((rfl |rfl) |rfl) |rfl) |rfl <;> rfl
 |bl _=>
  refine ⟨"bool",rfl,by simp,λht=>?_⟩;simp only[isT,bq]at e;rw[<-e,comm t "bool"];rfl
 |int _=>
  refine ⟨"int",rfl,by simp,λht=>?_⟩;simp only[isT,bq]at e;rw[<-e,comm t "int"];simp
 |str _=>
  refine ⟨"str",rfl,by simp,λht=>?_⟩;simp only[isT,bq]at e;rw[<-e,comm t "str"];simp
 |tup _=>
  refine ⟨"tuple",rfl,by simp,λht=>?_⟩;simp only[isT,bq]at e;rw[<-e,comm t "tuple"];simp
 |lst _=>
  refine ⟨"list",rfl,by simp,λht=>?_⟩;simp only[isT,bq]at e;rw[<-e,comm t "list"];simp
 |ref a=>simp[isT]at e
 |scr a=>simp[isT]at e
 |exn a=>simp[isT]at e
 |exa _ _ _=>simp[isT]at e
 |obj _ _ _=>simp[isT]at e
theorem Gw(s:AA):∀ls:List (AA),Str.join (tx s) (ls.map tx)=tx (fK s ls)
 |[]=>rfl
 |[x]=>rfl
 |x::y::r=>by
  have ih:=Gw s (y::r);show tx x++tx s++Str.join (tx s) ((y::r).map tx)=_;rw[ih,qX,qX];rfl
theorem Gx(s:AA):∀ls:List (AA),(fK s ls).length<=(ls.map (·.length)).sum+ls.length * s.length
 |[]=>by simp[fK]
 |[x]=>by simp[fK]
 |x::y::r=>by
  have ih:=Gx s (y::r);simp only[fK,ax,cS,List.sum_cons,ci]at ih ⊢;have:(r.length+1+1) * s.length=(r.length+1) * s.length+s.length:=by rw[Nat.succ_mul]
  omega
def xR(K:PF)(m:Mf):V->AR->Hp->VK->Prop:=λx vs H Q=>∃F G d ds,R K H F G/\Rep K H F d x/\Reps K H F ds vs/\opM m d ds G (PV K H F Q)
theorem Yz:MtR X "str.join" (xR X.K .join):=by
 intro p9 s Y H x xs v us Q I rx rs h;obtain ⟨F,G,d,ds,r,rd,t,h⟩:=h;simp only[opM]at h;generalize ea:ds.map (view G)=va at h;simp only[rG]at h;split at h
 .obtain ⟨d',rfl,ev⟩:=map_one ea;obtain ⟨v',rfl,rv⟩:=cF t;obtain ⟨a,vs,e,q,t'⟩:=Rep.list r rv ev;subst e;obtain ⟨e1,hl⟩:=rd;subst e1;split at h
  .rename_i ls hls;have e2:=sG hls t';subst e2;refine VF p9 s Y H _ _ v us Q I rx rs ⟨_,a,_,rfl,rfl,q,?_,?_⟩
   .have hz:=h.1;rw[eL,af,cI,show (λx:Str=>x.length)∘tx=λl=>l.length from funext cI];have:sz=1000000:=rfl;omega
   .rw[Gw];exact h.2.now r ⟨rfl,bS (Gx _ _) h.1⟩
  .exact h.elim
 .exact h.elim
theorem YB:MtM X "list.append" (xR X.K .append):=by
 intro p9 s Y H x xs v us Q I rx rs h;obtain ⟨F,G,d,ds,r,rd,t,h⟩:=h;simp only[opM,rH]at h;split at h
 .obtain ⟨v',rfl,rv⟩:=cF t;have e1:x=.ref _:=rd;subst e1;split at h
  .rename_i ds0 hg;obtain ⟨vs,q,t'⟩:=r.lst hg;refine Vq p9 s Y H _ _ v us Q I rx rs ⟨_,vs,v',rfl,rfl,q,?_,?_⟩
   .rw[<-t'.length];exact b9 h.1 szl
   .exact h.2 _ _ _ (rA r hg) (r.write hg (t'.append (Reps.cons rv Reps.nil))) rfl
  .exact h.elim
 .exact h.elim
theorem YC{K:PF}{H:Hp}{F:FZ}{G:DH}{d:D}{v:V}{ds:AS}(r:R K H F G)(h:Rep K H F d v)(e:view G d=.lst ds):∃a vs,v=.ref a/\H a=some (.lst vs)/\Reps K H F ds vs:=by
 cases d with
 |lst xs=>
  have e':D.lst xs=.lst ds:=e;cases e';obtain ⟨a,vs,e1,q,t⟩:=h;exact ⟨a,vs,e1,q.2,t⟩
 |ref p=>
  have hv:v=.ref p:=h;unfold view at e;cases g:G p with
  |none=>simp only[g]at e;cases e
  |some o=>
   cases o with
   |lst xs=>
    simp only[g]at e;cases e;obtain ⟨vs,q,t⟩:=r.lst g;exact ⟨p,vs,hv,q,t⟩
 |_=>cases (show _=D.lst ds from e)
theorem YD:MtM X "list.extend" (xR X.K .extend):=by
 intro p9 s Y H x xs v us Q I rx rs h;obtain ⟨F,G,d,ds,r,rd,t,h⟩:=h;simp only[opM]at h;generalize ea:ds.map (view G)=va at h;simp only[rJ]at h;split at h
 .obtain ⟨d',rfl,ev⟩:=map_one ea;obtain ⟨v',rfl,rv⟩:=cF t;obtain ⟨b,vs2,e2,q2,t2⟩:=YC r rv ev;subst e2;have e1:x=.ref _:=rd;subst e1;split at h
  .rename_i ds0 hg;obtain ⟨vs,q,t'⟩:=r.lst hg;refine Vs p9 s Y H _ _ v us Q I rx rs ⟨_,b,vs,vs2,rfl,rfl,q,q2,?_,?_⟩
   .rw[<-t'.length,<-t2.length];exact Nat.le_of_lt (b9 h.1 szl)
   .exact h.2 _ _ _ (rA r hg) (r.write hg (t'.append t2)) rfl
  .exact h.elim
 .exact h.elim
theorem YF:u5 X (λo i x H Q=>∃F G a b c,R X.K H F G/\Rep X.K H F a o/\Rep X.K H F b i/\Rep X.K H F c x/\gP a b c G (λG'=>∀H' F',Ext H F H' F'->R X.K H' F' G'->Q H')):=by
 intro p9 s Y H o i v ov iv u Q I ro ri rv h;obtain ⟨F,G,a,b,c,r,ra,rb,rc,h⟩:=h;unfold gP at h;split at h
 .have e1:o=.ref _:=ra;have e2:i=.int _:=rb;subst e1;subst e2;split at h
  .rename_i ds hg;obtain ⟨vs,q,t⟩:=r.lst hg;split at h
   .rename_i j hj;refine set_list p9 s Y H _ _ v ov iv u Q I ro ri rv ⟨_,vs,_,j,rfl,rfl,q,by rw[<-t.length];exact hj,?_⟩;exact h _ _ (rA r hg) (r.write hg (t.set rc j))
   .exact h.elim
  .exact h.elim
 .exact h.elim
theorem YG(op:Operator):PIp X op (λx y H Q=>∃F G a b,R X.K H F G/\Rep X.K H F a x/\Rep X.K H F b y/\gb op a b (λd=>PV X.K H F Q d G)):=by
 intro p9 s Y H x y v u Q I rx ry h;obtain ⟨F,G,a,b,r,ra,rb,h⟩:=h;unfold gb at h;split at h
 .have e1:x=.int _:=ra;have e2:y=.int _:=rb;subst e1;subst e2;exact T8 p9 s Y H _ _ v u Q I rx ry ⟨_,_,rfl,rfl,h.now r rfl⟩
 .obtain ⟨e1,l1⟩:=ra;obtain ⟨e2,l2⟩:=rb;subst e1;subst e2;refine Ul p9 s Y H _ _ v u Q I rx ry ⟨_,_,rfl,rfl,by rw[cI,cI];exact dM h.1,?_⟩;rw[qX];exact h.2.now r ⟨rfl,by rw[ax];exact h.1⟩
 .have e1:x=.int _:=ra;have e2:y=.int _:=rb;subst e1;subst e2;exact T9 p9 s Y H _ _ v u Q I rx ry ⟨_,_,rfl,rfl,h.now r rfl⟩
 .exact h.elim
end
inductive SK where
 |lst (a:AQ) |tup (a:AQ) |str (x:Str) (t:Tok)
def SK.val:SK->AN
 |.lst a=>.ref a
 |.tup a=>.ref a
 |.str x t=>.str x t
def SK.cls:SK->AL
 |.lst _=>"list_iterator"
 |.tup _=>"tuple_iterator"
 |.str x _=>strIterType x
def SK.obj(k:SK):Obj:={ cls:=.type k.cls,data:=.fields #[k.val,.int 0 0] }
def SK.pos(k:SK)(it:AQ)(i:Nat)(h:Heap):Prop:=∃o,h.get? it=some o/\o.cls=.type k.cls/\o.data=.fields #[k.val,.int i 0]
def SK.Sat(H:Hp)(vs:AR):SK->Prop
 |.lst a=>H a=some (.lst vs)
 |.tup a=>H a=some (.tup vs)
 |.str x _=>vs=x.cps.toList.map λc=>V.str ⟨#[c]⟩
def SK.No(e:AQ):SK->Prop
 |.lst a=>a≠e
 |.tup a=>a≠e
 |.str _ _=>True
def SK.Sat.no{H:Hp}{vs:AR}{k:SK}{e:AQ}(h:k.Sat H vs)(he:H e=none):k.No e:=by
 cases k with
 |lst a=>exact bY (show H a=some _ from h) he
 |tup a=>exact bY (show H a=some _ from h) he
 |str x t=>trivial
def SK.On(its:Array AN)(h:Heap):SK->Prop
 |.lst a=>h.IsList a its
 |.tup a=>h.IsTuple a its
 |.str _ _=>True
def SK.On.keeps{its:Array AN}{h h':Heap}{k:SK}(x:k.On its h)(kk:∀b o,k.val=.ref b->h.get? b=some o->h'.get? b=some o):k.On its h':=by
 cases k with
 |lst a=>obtain ⟨o,e,r⟩:=x;exact ⟨o,kk a o rfl e,r⟩
 |tup a=>obtain ⟨o,e,r⟩:=x;exact ⟨o,kk a o rfl e,r⟩
 |str _ _=>trivial
section
variable {prog:AK} {w:World} {A:AM} {E:AG} {s:AI}
theorem SK.iter{k:SK}{its:Array AN}{Q:AG}(h:k.On its s.heap)(q:Q (.ref (~~~s)) { s with heap:=s.heap.push k.obj }):wpAny (model prog w) A (pyIter k.val) Q E s:=by
 cases k with
 |lst a=>exact jp h q
 |tup a=>exact wpAny_pyIter_tuple h q
 |str x t=>exact wpAny_pyIter_strU q
theorem SK.pos0{k:SK}{h:Heap}:k.pos h.objs.size 0 (h.push k.obj):=⟨_,a8 _ rfl,rfl,rfl⟩
theorem SK.pos.keep{k:SK}{it:AQ}{i:Nat}{h h':Heap}(x:k.pos it i h)(kk:∀o,h.get? it=some o->h'.get? it=some o):k.pos it i h':=let ⟨o,e,r⟩:=x;⟨o,kk o e,r⟩
theorem YH{it t:AQ}{i:Nat}{items}{x:AN}{Q:AG}(hit:s.heap.IsTupleIter it t i)
  (ht:s.heap.IsTuple t items) (hx:items[i]?=some x)
  (hQ:∀h',h'.IsTupleIter it t (i+1)->Heap.SameBut it s.heap h'->Q x { s with heap:=h' }):
  wpAny (model prog w) A (Builtin.SmallTypes.nextOf (.ref it)) Q E s:=by
 obtain ⟨o,ho,hc,hd⟩:=id hit;obtain ⟨ol,hol,_,nl,hdl⟩:=ht;unfold Builtin.SmallTypes.nextOf;refine ab (fT (name:=⇑"__next__") hit.typeIs iF
  (eR iF hit.typeIs F.entry_tuple_iterator_next ?_ (F.args_tuple_iterator_next_1 _)))
 show wpAny _ _ (field (.ref it) 0 >>= _) _ _ s;refine ab (e7 ho hd (x:=.ref t) rfl ?_);show wpAny _ _ (if (Value.ref t==Value.none)=true then _ else _) _ _ s;rw[if_neg (show ¬((Value.ref t==Value.none)=true) from bn)];show wpAny _ _ (field (.ref it) 1 >>= _) _ _ s;refine ab (e7 ho hd (x:=.int i 0) rfl ?_);show wpAny _ _ (seqItems? (.ref t) >>= _) _ _ s;refine ab (fh hol hdl ?_);simp only[eJ,hx];refine ab (gV ho hd (by simp) (al ⟨x,rfl,al (hQ _ ?_ (cw ..))⟩));exact ⟨_,gt _ ho (Obj.isFreed_of_fields (Obj.data_mapFields hd _)),(Obj.cls_mapFields ..).trans hc,by
  rw[Obj.data_mapFields hd];simp[rawInt]⟩
theorem YJ{it t:AQ}{i:Nat}{items}{Q:AG}(hh:A.handled=none)
  (hit:s.heap.IsTupleIter it t i) (ht:s.heap.IsTuple t items) (hx:items[i]?=none)
  (hE:∀h' e,Heap.ExtBut it s.heap h'->(∃o,h'.get? e=some o/\o.cls=.type "StopIteration")->E (.ref e) { s with heap:=h' }):
  wpAny (model prog w) A (Builtin.SmallTypes.nextOf (.ref it)) Q E s:=by
 obtain ⟨o,ho,hc,hd⟩:=id hit;obtain ⟨ol,hol,_,nl,hdl⟩:=ht;unfold Builtin.SmallTypes.nextOf;refine ab (fT (name:=⇑"__next__") hit.typeIs iF
  (eR iF hit.typeIs F.entry_tuple_iterator_next ?_ (F.args_tuple_iterator_next_1 _)))
 show wpAny _ _ (field (.ref it) 0 >>= _) _ _ s;refine ab (e7 ho hd (x:=.ref t) rfl ?_);show wpAny _ _ (if (Value.ref t==Value.none)=true then _ else _) _ _ s;rw[if_neg (show ¬((Value.ref t==Value.none)=true) from bn)];show wpAny _ _ (field (.ref it) 1 >>= _) _ _ s;refine ab (e7 ho hd (x:=.int i 0) rfl ?_);show wpAny _ _ (seqItems? (.ref t) >>= _) _ _ s;refine ab (fh hol hdl ?_);simp only[eJ,hx];refine ab (eW (ab (gV ho hd (by simp) ?_)));show wpAny _ _ (newExc (.type "StopIteration") [] >>= _) _ _ _;refine ab ?_;simp only[newExc,newTuple];refine ab (fS ?_ (by size_fits));refine ab (m:=firstArgMember _ _) (iE (a:=Value.none) (by first |rfl | (simp only[firstArgMember];rfl)) ?_);refine fS ?_ (by size_fits);simp only[raiseNew];refine ab (wpAny_handled ?_);first |rw[show A.in1.handled=none from hh] |rw[hh]
 refine ab (al (wpAny_throw ?_));exact hE _ _ (((cw ..).extBut.push _).push _) ⟨_,a8 _ rfl,rfl⟩
theorem YK(hh:A.handled=none)(it l:AQ)(hne:l≠it)(items:Array AN):
  Draws prog w A it [it,l] items.size (λi v=>items[i]?=some v) (λi h=>h.IsTupleIter it l i/\h.IsTuple l items) where
 live:=λ_ _ st=>let ⟨o,ho,_⟩:=st.1;⟨o,ho⟩
 frame:=λ_ _ _ st hk=>⟨let ⟨o,e,r⟩:=st.1;⟨o,hk it (by simp) o e,r⟩,let ⟨o,e,r⟩:=st.2;⟨o,hk l (by simp) o e,r⟩⟩
 item:=λi s Q E hi st hQ=>by
  refine YH st.1 st.2 (x:=items[i]) (by simp[hi]) λh' hit' hs'=>?_;exact hQ _ h' s.toks (by simp[hi]) ⟨hit',let ⟨o,e,r⟩:=st.2;⟨o,hs'.extBut l o hne e,r⟩⟩ hs'
 done:=λs Q E st hE=>YJ hh st.1 st.2 (by simp) hE
end
structure Drawn(P:AK)(w:World)(A:AM)(k:SK)(it:AQ)(i:Nat)(vs:AR)(h:Heap)(fp:List AQ)(Pd:Nat->AN->Prop)(S:Nat->Heap->Prop):Prop where
 D:Draws P w A it fp vs.length Pd S
 st:S i h
 val:∀j v,Pd j v->∃x,vs[j]?=some x/\RelV x v
 pos:∀j h,S j h->k.pos it j h
 fp:∀b∈fp,b=it\/k.val=.ref b
def drawn{X:Cx}{p9:AC}{Y:L2.St}{H:Hp}{s:AI}{A:AM}(hh:A.handled=none)(I:Inv X p9 Y H s){k:SK}{it:AQ}{i:Nat}{vs:AR}(sat:k.Sat H vs)(hit:H it=none)(p:k.pos it i s.heap):
  ∃fp Pd S,Drawn X.prog X.w A k it i vs s.heap fp Pd S:=by
 cases k with
 |lst a=>
  have sat:H a=some (.lst vs):=sat;obtain ⟨its,r,pl,_⟩:=I.list (SqL.of sat);refine ⟨[it,a],λj v=>its.toArray[j]?=some v,λj h=>h.IsListIter it a j/\h.IsList a its.toArray,?_,⟨p,pl.isList⟩,?_,λj h st=>st.1,?_⟩
  .have D:=Draws.list (prog:=X.prog) (w:=X.w) hh it a (bY sat hit) its.toArray;rw[a7,<-r.length]at D;exact D
  .intro j v e;have e:its.toArray[j]?=some v:=e;have hj:j < vs.length:=by
    rw[r.length];have:=(Array.getElem?_eq_some_iff.mp e).1;simpa using this
   obtain ⟨u,e2,r2⟩:=r.get (show vs[j]?=some vs[j] by simp[hj]);refine ⟨vs[j],by simp[hj],?_⟩;have:its[j]?=some v:=by simpa using e
   rw[this]at e2;cases e2;exact r2
  .intro b hb;have hb:b=it\/b=a:=by simpa using hb
   rcases hb with e |e
   .exact .inl e
   .exact .inr (by rw[e];rfl)
 |tup a=>
  have sat:H a=some (.tup vs):=sat;obtain ⟨its,r,pl,_⟩:=I.tuple (SqT.of sat);refine ⟨[it,a],λj v=>its.toArray[j]?=some v,λj h=>h.IsTupleIter it a j/\h.IsTuple a its.toArray,?_,⟨p,pl⟩,?_,λj h st=>st.1,?_⟩
  .have D:=YK (prog:=X.prog) (w:=X.w) hh it a (bY sat hit) its.toArray;rw[a7,<-r.length]at D;exact D
  .intro j v e;have e:its.toArray[j]?=some v:=e;have hj:j < vs.length:=by
    rw[r.length];have:=(Array.getElem?_eq_some_iff.mp e).1;simpa using this
   obtain ⟨u,e2,r2⟩:=r.get (show vs[j]?=some vs[j] by simp[hj]);refine ⟨vs[j],by simp[hj],?_⟩;have:its[j]?=some v:=by simpa using e
   rw[this]at e2;cases e2;exact r2
  .intro b hb;have hb:b=it\/b=a:=by simpa using hb
   rcases hb with e |e
   .exact .inl e
   .exact .inr (by rw[e];rfl)
 |str x t=>
  have sat:vs=x.cps.toList.map λc=>V.str ⟨#[c]⟩:=sat;refine ⟨[it],λi v=>∃c u,x.cps[i]?=some c/\v=.str ⟨#[c]⟩ u,λi h=>h.IsStrIter it (strIterType x) x t i,?_,p,?_,λj h st=>st,?_⟩
  .have D:=V1 (prog:=X.prog) (w:=X.w) hh it x t;have e:x.cps.size=vs.length:=by rw[sat,af,bB]
   rw[e]at D;exact D
  .rintro j v ⟨c,u,e1,e2⟩;refine ⟨V.str ⟨#[c]⟩,?_,u,e2⟩;rw[sat,av,gc,e1];rfl
  .intro b hb;exact .inl (!!hb)
def Jk(k:SK):It:=⟨λi H=>∃vs,k.Sat H vs/\i < vs.length,λi H x H'=>H'=H/\∀vs,k.Sat H vs->vs[i]?=some x,λi H=>∃vs,k.Sat H vs/\vs.length=i⟩
def Je(k:SK):It:=⟨λi H=>∃vs,k.Sat H vs/\i < vs.length,λi H x H'=>∃T y,H T=none/\x=.ref T/\H'=upd H T (.tup [.int i,y])/\∀vs,k.Sat H vs->vs[i]?=some y,λi H=>∃vs,k.Sat H vs/\vs.length=i⟩
def xT{H:Hp}{k:SK}{vs ws:AR}(h:k.Sat H vs)(h':k.Sat H ws):vs=ws:=by
 cases k with
 |lst a=>have e:=(show H a=some _ from h).symm.trans h';cases e;rfl
 |tup a=>have e:=(show H a=some _ from h).symm.trans h';cases e;rfl
 |str x t=>exact (show vs=_ from h).trans (show ws=_ from h').symm
def YL{P:AK}{w:World}{K:PF}{elts:AE}{x1:Nat}{pos:Pos}(k:SK)(e it:AQ)(hne:e≠it):
  Turn P w K (.Tuple elts x1 pos) (Je k) [e,it] e (λi h=>(∃old,IsEnum h e it i old)/\k.pos it i h) where
 mem:=by simp
 obj:=λi h st b hb=>by
  obtain ⟨⟨old,he⟩,o,ho,c,d⟩:=st;have hb:b=e\/b=it:=by simpa using hb
  rcases hb with rfl |rfl
  .exact ⟨_,he,λv z=>by have z':Data.fields _=Data.cell v:=z;cases z'⟩
  .exact ⟨o,ho,λv z=>by rw[d]at z;cases z⟩
 keep:=λi h h' st kk=>⟨let ⟨old,he⟩:=st.1;⟨old,kk e (by simp) _ he⟩,st.2.keep λo ho=>kk it (by simp) o ho⟩
 item:=by
  intro X hP hw hK hc i p9 s Y H E I hf st hg;subst hP hw hK;obtain ⟨vs,sat,hi⟩:=hg;obtain ⟨⟨old,he⟩,hit⟩:=st;have hfe:=hf e (by simp);have hfi:=hf it (by simp);obtain ⟨fp,Pd,S,Dr⟩:=drawn (A:=X.A.in1) (I.ok.hd hc) I sat hfi.1 hit;have helt:e < (~~~s):=a9 he;have hef:e∉fp:=λhb=>by
   rcases Dr.fp e hb with z |z
   .exact hne z
   .have:=sat.no hfe.1;cases k with
    |lst a=>cases z;exact this rfl
    |tup a=>cases z;exact this rfl
    |str _ _=>cases z
  refine wpAny_pyNext_enum_itemD Dr.D he Dr.st hi hne hef λu h1 tk hu heo hit1 ht1 hz1 hk1=>?_;obtain ⟨x,hx,ru⟩:=Dr.val _ _ hu;refine ⟨_,rfl,?_⟩;refine wpAny_letOwnedTupleGo_enum heo λh2 he2 hs2=>?_;have hs2':Heap.SameBut e h1 h2:=hs2;have hn:H (~~~s)=none:=I.hok.fresh (am _);have k2:∀b o,b∉[e,it]->s.heap.get? b=some o->h2.get? b=some o:=λb o hb q=>by
   have hb':b≠e/\b≠it:=by simpa using hb
   exact hs2'.extBut b o hb'.1 (hk1 b o hb'.1 hb'.2 q)
  have I2:Inv X p9 Y H { s with heap:=h2,toks:=tk+1 }:=I.turnedL hf k2;have ht2:h2.get? (~~~s)=some { cls:=.type "tuple",data:=.seq #[.int i tk,u] }:=hs2'.extBut _ _ (gL helt) ht1;have ob:ObjOk X.prog X.w (upd H (~~~s) (.tup [.int i,x])) h2 (~~~s) (.tup [.int i,x]):=
   ⟨by rw[fq];simp,[.int i tk,u],.cons ⟨_,rfl⟩ (.cons ru .nil),⟨_,ht2,rfl,_,rfl⟩⟩
  have I3:=I2.track (I.fpOk (am _) hn) ob;have nee:(~~~s)≠e:=gL helt;have nei:(~~~s)≠it:=by obtain ⟨o,ho,_⟩:=hit;exact gL (a9 ho)
  refine ⟨.ref (~~~s),_,I3,rfl,⟨(~~~s),x,hn,rfl,rfl,λys hy=>by rw[xT hy sat];exact hx⟩,⟨⟨u,?_⟩,?_⟩,λb hb=>?_⟩
  .show IsEnum h2 e it (((i+1:Nat)):Int) u;rw[show (((i+1:Nat):Int))=(i:Int)+1 by omega];exact he2
  .exact (Dr.pos _ _ hit1).keep λo ho=>hs2'.extBut _ _ (Ne.symm hne) ho
  .have hb':b=e\/b=it:=by simpa using hb
   rw[aQ (by rcases hb' with rfl |rfl;exact Ne.symm nee;exact Ne.symm nei)];exact (hf b hb).1
 done:=by
  intro X hP hw hK hc i p9 s Y H E I hf st hg;subst hP hw hK;obtain ⟨vs,sat,hi⟩:=hg;subst hi;obtain ⟨⟨old,he⟩,hit⟩:=st;have hfi:=hf it (by simp);obtain ⟨fp,Pd,S,Dr⟩:=drawn (A:=X.A.in1) (I.ok.hd hc) I sat hfi.1 hit;refine wpAny_pyNext_enum_endD Dr.D he Dr.st λh' eb=>⟨rfl,I.turnedL (t':=s.toks) hf λb o hb q=>?_⟩;have hb':b≠e/\b≠it:=by simpa using hb
  exact eb b o hb'.2 q
 self:=λA i s Q E st h=>by
  obtain ⟨⟨old,he⟩,_⟩:=st;exact wpAny_pyIter_enum he h
def YM{P:AK}{w:World}{K:PF}{tg:AO}(k:SK)(it:AQ):Turn P w K tg (Jk k) [it] it (λi h=>k.pos it i h) where
 mem:=by simp
 obj:=λi h st b hb=>by
  have e:b=it:=by simpa using hb
  subst e;obtain ⟨o,e,c,d⟩:=st;exact ⟨o,e,λv z=>by rw[d]at z;cases z⟩
 keep:=λi h h' st kk=>st.keep λo e=>kk it (by simp) o e
 item:=by
  intro X hP hw hK hc i p9 s Y H E I hf st hg;obtain ⟨vs,sat,hi⟩:=hg;have hfi:=hf it (by simp);cases k with
  |lst a=>
   have sat':H a=some (.lst vs):=sat;refine dr ((BJ (tg:=tg) a it).item X hP hw hK hc i p9 s Y H E I hf st ⟨vs,vs[i],SqL.of sat',by simp[hi]⟩) ?_ (λ_ _ e=>e);rintro r s1 ⟨u,hr,h1⟩;refine ⟨u,hr,dr h1 ?_ (λ_ _ e=>e)⟩;rintro _ s2 ⟨x,H',I',rx,⟨e1,e2⟩,st',fr⟩;exact ⟨x,H',I',rx,⟨e1,λws hw'=>e2 ws (SqL.of (show H a=some (.lst ws) from hw'))⟩,st',fr⟩
  |tup a=>
   have sat':H a=some (.tup vs):=sat;refine dr ((BK (tg:=tg) a it).item X hP hw hK hc i p9 s Y H E I hf st ⟨vs,vs[i],SqT.of sat',by simp[hi]⟩) ?_ (λ_ _ e=>e);rintro r s1 ⟨u,hr,h1⟩;refine ⟨u,hr,dr h1 ?_ (λ_ _ e=>e)⟩;rintro _ s2 ⟨x,H',I',rx,⟨e1,e2⟩,st',fr⟩;exact ⟨x,H',I',rx,⟨e1,λws hw'=>e2 ws (SqT.of (show H a=some (.tup ws) from hw'))⟩,st',fr⟩
  |str y t=>
   have sat':vs=y.cps.toList.map λc=>V.str ⟨#[c]⟩:=sat;have hlen:vs.length=y.cps.size:=by rw[sat',af,bB]
   refine dr ((vo (tg:=tg) it y t).item X hP hw hK hc i p9 s Y H E I hf st (show i < y.cps.size by omega)) ?_ (λ_ _ e=>e);rintro r s1 ⟨u,hr,h1⟩;refine ⟨u,hr,dr h1 ?_ (λ_ _ e=>e)⟩;rintro _ s2 ⟨x,H',I',rx,⟨e1,c,e2,e3⟩,st',fr⟩;refine ⟨x,H',I',rx,⟨e1,λws hw'=>?_⟩,st',fr⟩;have hw':ws=y.cps.toList.map λc=>V.str ⟨#[c]⟩:=hw';rw[hw',e3,av,gc,e2];rfl
 done:=by
  intro X hP hw hK hc i p9 s Y H E I hf st hg;obtain ⟨vs,sat,hi⟩:=hg;cases k with
  |lst a=>exact (BJ (tg:=tg) a it).done X hP hw hK hc i p9 s Y H E I hf st ⟨vs,SqL.of (show H a=some (.lst vs) from sat),!0⟩
  |tup a=>exact (BK (tg:=tg) a it).done X hP hw hK hc i p9 s Y H E I hf st ⟨vs,SqT.of (show H a=some (.tup vs) from sat),!0⟩
  |str y t=>
   have sat':vs=y.cps.toList.map λc=>V.str ⟨#[c]⟩:=sat;have hlen:vs.length=y.cps.size:=by rw[sat',af,bB]
   exact (vo (tg:=tg) it y t).done X hP hw hK hc i p9 s Y H E I hf st (show i=y.cps.size by omega)
 self:=λA i s Q E st h=>by
  cases k with
  |lst a=>exact wpAny_pyIter_listiter st h
  |tup a=>exact wpAny_pyIter_tupleiter st h
  |str y t=>exact (vo (K:=K) (tg:=tg) it y t).self A i s Q E st h
open Builtin Builtin.Str
section
variable {prog:AK} {w:World} {A:AM} {E:AG} {s:AI}
theorem YQ{z TI TO i1 i2:AQ}{k n1 n2:Nat}{fp1 fp2:List AQ}{P1 P2:Nat->AN->Prop}{S1 S2:Nat->Heap->Prop}{a b:AN}{Q:AG}(D:ZApart z TI TO i1 i2)
  (D1:Draws prog w A i1 fp1 n1 P1 S1) (D2:Draws prog w A i2 fp2 n2 P2 S2) (f1:∀c∈fp1,c≠z/\c≠TO/\c≠i2) (f2:∀c∈fp2,c≠z/\c≠TO/\c≠i1)
  (hz:IsZip s.heap z TI TO .none) (hTI:IsPair s.heap TI (.ref i1) (.ref i2)) (hTO:IsPair s.heap TO a b)
  (h1:S1 k s.heap) (h2:S2 k s.heap) (hx:k < n1) (hy:k < n2)
  (hQ:∀h' tk c d,P1 k c->P2 k d->IsZip h' z TI TO (rawInt (~~~s))->IsPair h' TO c d->S1 (k+1) h'->S2 (k+1) h'->
   IsPair h' (~~~s) c d->h'.objs.size=(~~~s)+1->
   (∀c o,c≠z->c≠TO->c≠i1->c≠i2->s.heap.get? c=some o->h'.get? c=some o)->Q (.ref (~~~s)) { s with heap:=h',toks:=tk }):
  wpAny (model prog w) A (Builtin.«zip.__next__» ⟨[.ref z],[]⟩) (λfin s'=>∃v,fin=.done (.ret v)/\Q v s') E s:=by
 have e1:∀{h h':Heap}{c:AQ}{j:Nat},S1 j h->Heap.ExtBut c h h'->(∀b∈fp1,b≠c)->S1 j h':=λq e n=>D1.frame _ _ _ q λb hb o y=>e b o (n b hb) y;have e2:∀{h h':Heap}{c:AQ}{j:Nat},S2 j h->Heap.ExtBut c h h'->(∀b∈fp2,b≠c)->S2 j h':=λq e n=>D2.frame _ _ _ q λb hb o y=>e b o (n b hb) y;have z1:∀b∈fp1,b≠z:=λb hb=>(f1 b hb).1;have t1:∀b∈fp1,b≠TO:=λb hb=>(f1 b hb).2.1;have j1:∀b∈fp1,b≠i2:=λb hb=>(f1 b hb).2.2;have z2:∀b∈fp2,b≠z:=λb hb=>(f2 b hb).1;have t2:∀b∈fp2,b≠TO:=λb hb=>(f2 b hb).2.1;have j2:∀b∈fp2,b≠i1:=λb hb=>(f2 b hb).2.2;show wpAny _ _ (field (.ref z) 2 >>= _) _ _ _;refine ab (e7 hz rfl (x:=.bool false) rfl ?_);show wpAny _ _ (field (.ref z) 3 >>= _) _ _ _;refine ab (e7 hz rfl (x:=.ref TI) rfl ?_);refine ab (fh hTI rfl ?_);show wpAny _ _ (Builtin.SmallTypes.ownedTupleIsFree (.ref z) >>= _) _ _ _;refine ab ?_;unfold Builtin.SmallTypes.ownedTupleIsFree;refine ab (e7 hz rfl (x:=.none) rfl (al ?_));simp only[if_true];refine ab (eW ?_);refine ab (e7 hz rfl (x:=.ref TO) rfl ?_);refine ab (gp hz (by simp) λh₁ hz₁ hs₁=>?_);replace hz₁:IsZip h₁ z TI TO .ellipsis:=hz₁;replace hs₁:Heap.SameBut z s.heap h₁:=hs₁;refine ab ?_;simp only[List.zipIdx_cons,List.zipIdx_nil,List.forIn_cons,List.forIn_nil];refine ab (ab (wpAny_onRaise ?_));show wpAny _ _ (Builtin.SmallTypes.nextOf (.ref i1) >>= _) _ _ _;refine ab (D1.item k _ _ _ hx (e1 h1 hs₁.extBut z1) λc h₂ tk₂ hc h1₂ hs₂=>al ?_);replace hs₂:Heap.SameBut i1 h₁ h₂:=hs₂;have hTO₂:IsPair h₂ TO a b:=hs₂.extBut _ _ D.TOi1 (hs₁.extBut _ _ D.TOz hTO);refine ab (fh hTO₂ rfl ?_);refine ab (wpAny_updateSeq_pair hTO₂ λh₃ hTO₃ hs₃=>?_);replace hTO₃:IsPair h₃ TO c b:=hTO₃;replace hs₃:Heap.SameBut TO h₂ h₃:=hs₃;refine ab (wpAny_letGo (al ?_));refine ab (ab (wpAny_onRaise ?_));show wpAny _ _ (Builtin.SmallTypes.nextOf (.ref i2) >>= _) _ _ _;refine ab (D2.item k _ _ _ hy (e2 (e2 (e2 h2 hs₁.extBut z2) hs₂.extBut j2) hs₃.extBut t2) λd h₄ tk₄ hd h2₄ hs₄=>al ?_);replace hs₄:Heap.SameBut i2 h₃ h₄:=hs₄;have hTO₄:IsPair h₄ TO c b:=hs₄.extBut _ _ D.TOi2 hTO₃;refine ab (fh hTO₄ rfl ?_);refine ab (wpAny_updateSeq_pair hTO₄ λh₅ hTO₅ hs₅=>?_);replace hTO₅:IsPair h₅ TO c d:=hTO₅;replace hs₅:Heap.SameBut TO h₄ h₅:=hs₅;refine ab (wpAny_letGo (al (al ?_)));refine ab (fh hTO₅ rfl ?_);refine ab (wpAny_newTuple ?_);have hsz:h₅.objs.size=(~~~s):=by rw[hs₅.1,hs₄.1,hs₃.1,hs₂.1,hs₁.1]
 have hz₅:IsZip h₅ z TI TO .ellipsis:=hs₅.extBut _ _ D.TOz.symm (hs₄.extBut _ _ D.i2z.symm (hs₃.extBut _ _ D.TOz.symm (hs₂.extBut _ _ D.i1z.symm hz₁)));have hk₅:∀c o,c≠z->c≠TO->c≠i1->c≠i2->s.heap.get? c=some o->h₅.get? c=some o:=λc o c1 c2 c3 c4 e=>
  hs₅.extBut _ _ c2 (hs₄.extBut _ _ c4 (hs₃.extBut _ _ c2 (hs₂.extBut _ _ c3 (hs₁.extBut _ _ c1 e))))
 have h1₅:S1 (k+1) h₅:=e1 (e1 (e1 h1₂ hs₃.extBut t1) hs₄.extBut j1) hs₅.extBut t1;have h2₅:S2 (k+1) h₅:=e2 h2₄ hs₅.extBut t2;have hzlt:z < h₅.objs.size:=a9 hz₅;show wpAny _ _ (Builtin.SmallTypes.ownedTupleHandOut (.ref z) (.ref h₅.objs.size) >>= _) _ _ _;refine ab ?_;unfold Builtin.SmallTypes.ownedTupleHandOut;have hz₆:IsZip (h₅.push { cls:=.type "tuple",data:=.seq #[c,d] }) z TI TO .ellipsis:=ag _ hz₅;refine ab (gp hz₆ (by simp) λh₇ hz₇ hs₇=>?_);replace hz₇:IsZip h₇ z TI TO (rawInt h₅.objs.size):=hz₇;refine gp hz₇ (by simp) λh₈ hz₈ hs₈=>?_;replace hz₈:IsZip h₈ z TI TO (rawInt h₅.objs.size):=hz₈;have up:∀c o,c≠z->h₅.get? c=some o->h₈.get? c=some o:=λc o c1 e=>hs₈.extBut _ _ c1 (hs₇.extBut _ _ c1 (ag _ e));have hT₈:IsPair h₈ h₅.objs.size c d:=hs₈.extBut _ _ (gL hzlt) (hs₇.extBut _ _ (gL hzlt) (a8 _ rfl));have hz8:h₈.objs.size=h₅.objs.size+1:=by rw[hs₈.1,hs₇.1,cq]
 rw[hsz]at hz₈ hT₈ hz8;refine al ⟨_,rfl,?_⟩;show Q (.ref h₅.objs.size) _;rw[hsz];exact hQ h₈ tk₄ c d hc hd hz₈ (up _ _ D.TOz hTO₅) (D1.frame _ _ _ h1₅ λb hb o y=>up b o (z1 b hb) y) (D2.frame _ _ _ h2₅ λb hb o y=>up b o (z2 b hb) y) hT₈ hz8 λc o c1 c2 c3 c4 e=>up c o c1 (hk₅ c o c1 c2 c3 c4 e)
theorem YS{z TI TO i1 i2:AQ}{n1:Nat}{fp1:List AQ}{P1:Nat->AN->Prop}{S1:Nat->Heap->Prop}{a b:AN}{Q:Fin->AI->Prop}(D:ZApart z TI TO i1 i2)
  (D1:Draws prog w A i1 fp1 n1 P1 S1) (f1:∀c∈fp1,c≠z)
  (hz:IsZip s.heap z TI TO .none) (hTI:IsPair s.heap TI (.ref i1) (.ref i2)) (hTO:IsPair s.heap TO a b) (h1:S1 n1 s.heap)
  (hE:∀h' e,(∀c o,c≠z->c≠TO->c≠i1->c≠i2->s.heap.get? c=some o->h'.get? c=some o)->(∃o,h'.get? e=some o/\o.cls=.type "StopIteration")->E (.ref e) { s with heap:=h' }):
  wpAny (model prog w) A (Builtin.«zip.__next__» ⟨[.ref z],[]⟩) Q E s:=by
 show wpAny _ _ (field (.ref z) 2 >>= _) _ _ _;refine ab (e7 hz rfl (x:=.bool false) rfl ?_);show wpAny _ _ (field (.ref z) 3 >>= _) _ _ _;refine ab (e7 hz rfl (x:=.ref TI) rfl ?_);refine ab (fh hTI rfl ?_);show wpAny _ _ (Builtin.SmallTypes.ownedTupleIsFree (.ref z) >>= _) _ _ _;refine ab ?_;unfold Builtin.SmallTypes.ownedTupleIsFree;refine ab (e7 hz rfl (x:=.none) rfl (al ?_));simp only[if_true];refine ab (eW ?_);refine ab (e7 hz rfl (x:=.ref TO) rfl ?_);refine ab (gp hz (by simp) λh₁ hz₁ hs₁=>?_);replace hz₁:IsZip h₁ z TI TO .ellipsis:=hz₁;replace hs₁:Heap.SameBut z s.heap h₁:=hs₁;refine ab ?_;simp only[List.zipIdx_cons,List.zipIdx_nil,List.forIn_cons,List.forIn_nil];refine ab (ab (wpAny_onRaise ?_));show wpAny _ _ (Builtin.SmallTypes.nextOf (.ref i1) >>= _) _ _ _;refine ab (D1.done _ _ _ (D1.frame _ _ _ h1 λb hb o y=>hs₁.extBut b o (f1 b hb) y) λh₂ e hs₂ he=>?_);obtain ⟨oe,hoe,hce⟩:=he;have hz₂:IsZip h₂ z TI TO .ellipsis:=hs₂ _ _ D.i1z.symm hz₁;have hez:e≠z:=λx=>by subst x;rw[hz₂]at hoe;cases hoe;simp at hce
 refine gp hz₂ (by simp) λh₃ _ hs₃=>hE h₃ e (λc o c1 _ c3 _ x=>hs₃.extBut _ _ c1 (hs₂ _ _ c3 (hs₁.extBut _ _ c1 x))) ⟨oe,hs₃.extBut _ _ hez hoe,hce⟩
theorem YT{z TI TO i1 i2:AQ}{k n1 n2:Nat}{fp1 fp2:List AQ}{P1 P2:Nat->AN->Prop}{S1 S2:Nat->Heap->Prop}{a b:AN}{Q:Fin->AI->Prop}(D:ZApart z TI TO i1 i2)
  (D1:Draws prog w A i1 fp1 n1 P1 S1) (D2:Draws prog w A i2 fp2 n2 P2 S2) (f1:∀c∈fp1,c≠z/\c≠TO/\c≠i2) (f2:∀c∈fp2,c≠z/\c≠TO/\c≠i1)
  (hz:IsZip s.heap z TI TO .none) (hTI:IsPair s.heap TI (.ref i1) (.ref i2)) (hTO:IsPair s.heap TO a b) (h1:S1 k s.heap) (h2:S2 k s.heap) (hx:k < n1) (hy:k=n2)
  (hE:∀h' tk e,(∀c o,c≠z->c≠TO->c≠i1->c≠i2->s.heap.get? c=some o->h'.get? c=some o)->(∃o,h'.get? e=some o/\o.cls=.type "StopIteration")->E (.ref e) { s with heap:=h',toks:=tk }):
  wpAny (model prog w) A (Builtin.«zip.__next__» ⟨[.ref z],[]⟩) Q E s:=by
 have e1:∀{h h':Heap}{c:AQ}{j:Nat},S1 j h->Heap.ExtBut c h h'->(∀b∈fp1,b≠c)->S1 j h':=λq e n=>D1.frame _ _ _ q λb hb o y=>e b o (n b hb) y;have e2:∀{h h':Heap}{c:AQ}{j:Nat},S2 j h->Heap.ExtBut c h h'->(∀b∈fp2,b≠c)->S2 j h':=λq e n=>D2.frame _ _ _ q λb hb o y=>e b o (n b hb) y;have z1:∀b∈fp1,b≠z:=λb hb=>(f1 b hb).1;have z2:∀b∈fp2,b≠z:=λb hb=>(f2 b hb).1;have t2:∀b∈fp2,b≠TO:=λb hb=>(f2 b hb).2.1;have j2:∀b∈fp2,b≠i1:=λb hb=>(f2 b hb).2.2;show wpAny _ _ (field (.ref z) 2 >>= _) _ _ _;refine ab (e7 hz rfl (x:=.bool false) rfl ?_);show wpAny _ _ (field (.ref z) 3 >>= _) _ _ _;refine ab (e7 hz rfl (x:=.ref TI) rfl ?_);refine ab (fh hTI rfl ?_);show wpAny _ _ (Builtin.SmallTypes.ownedTupleIsFree (.ref z) >>= _) _ _ _;refine ab ?_;unfold Builtin.SmallTypes.ownedTupleIsFree;refine ab (e7 hz rfl (x:=.none) rfl (al ?_));simp only[if_true];refine ab (eW ?_);refine ab (e7 hz rfl (x:=.ref TO) rfl ?_);refine ab (gp hz (by simp) λh₁ hz₁ hs₁=>?_);replace hz₁:IsZip h₁ z TI TO .ellipsis:=hz₁;replace hs₁:Heap.SameBut z s.heap h₁:=hs₁;refine ab ?_;simp only[List.zipIdx_cons,List.zipIdx_nil,List.forIn_cons,List.forIn_nil];refine ab (ab (wpAny_onRaise ?_));show wpAny _ _ (Builtin.SmallTypes.nextOf (.ref i1) >>= _) _ _ _;refine ab (D1.item k _ _ _ hx (e1 h1 hs₁.extBut z1) λc h₂ tk₂ hc h1₂ hs₂=>al ?_);replace hs₂:Heap.SameBut i1 h₁ h₂:=hs₂;have hTO₂:IsPair h₂ TO a b:=hs₂.extBut _ _ D.TOi1 (hs₁.extBut _ _ D.TOz hTO);refine ab (fh hTO₂ rfl ?_);refine ab (wpAny_updateSeq_pair hTO₂ λh₃ hTO₃ hs₃=>?_);replace hs₃:Heap.SameBut TO h₂ h₃:=hs₃;refine ab (wpAny_letGo (al ?_));refine ab (ab (wpAny_onRaise ?_));show wpAny _ _ (Builtin.SmallTypes.nextOf (.ref i2) >>= _) _ _ _;subst hy;refine ab (D2.done _ _ _ (e2 (e2 (e2 h2 hs₁.extBut z2) hs₂.extBut j2) hs₃.extBut t2) λh₄ e hs₄ he=>?_);obtain ⟨oe,hoe,hce⟩:=he;have hz₄:IsZip h₄ z TI TO .ellipsis:=hs₄ _ _ D.i2z.symm (hs₃.extBut _ _ D.TOz.symm (hs₂.extBut _ _ D.i1z.symm hz₁));have hez:e≠z:=λx=>by subst x;rw[hz₄]at hoe;cases hoe;simp at hce
 refine gp hz₄ (by simp) λh₅ _ hs₅=>hE h₅ tk₂ e (λc o c1 c2 c3 c4 x=>hs₅.extBut _ _ c1 (hs₄ _ _ c4 (hs₃.extBut _ _ c2 (hs₂.extBut _ _ c3 (hs₁.extBut _ _ c1 x))))) ⟨oe,hs₅.extBut _ _ hez hoe,hce⟩
end
def Jz(k l:SK):It:=⟨λi H=>∃vs ws,k.Sat H vs/\l.Sat H ws/\i < vs.length/\i < ws.length,
 λi H x H'=>∃T y z,H T=none/\x=.ref T/\H'=upd H T (.tup [y,z])/\(∀vs,k.Sat H vs->vs[i]?=some y)/\(∀ws,l.Sat H ws->ws[i]?=some z),
 λi H=>∃vs ws,k.Sat H vs/\l.Sat H ws/\(vs.length=i/\i<=ws.length\/i < vs.length/\ws.length=i)⟩
def YW{P:AK}{w:World}{K:PF}{elts:AE}{x1:Nat}{pos:Pos}(k l:SK)(z TI TO i1 i2:AQ)(D:ZApart z TI TO i1 i2):
  Turn P w K (.Tuple elts x1 pos) (Jz k l) [z,TI,TO,i1,i2] z
   (λi h=>IsZip h z TI TO .none/\IsPair h TI (.ref i1) (.ref i2)/\(∃a b,IsPair h TO a b)/\k.pos i1 i h/\l.pos i2 i h) where
 mem:=by simp
 obj:=λi h st b hb=>by
  obtain ⟨hz,hTI,⟨a,c,hTO⟩,⟨o1,e1,_,d1⟩,⟨o2,e2,_,d2⟩⟩:=st;have hb':b=z\/b=TI\/b=TO\/b=i1\/b=i2:=by simpa using hb
  rcases hb' with rfl |rfl |rfl |rfl |rfl
  .exact ⟨_,hz,λv q=>by have q':Data.fields _=Data.cell v:=q;cases q'⟩
  .exact ⟨_,hTI,λv q=>by have q':Data.seq _ _=Data.cell v:=q;cases q'⟩
  .exact ⟨_,hTO,λv q=>by have q':Data.seq _ _=Data.cell v:=q;cases q'⟩
  .exact ⟨o1,e1,λv q=>by rw[d1]at q;cases q⟩
  .exact ⟨o2,e2,λv q=>by rw[d2]at q;cases q⟩
 keep:=λi h h' st kk=>by
  obtain ⟨hz,hTI,⟨a,c,hTO⟩,p1,p2⟩:=st;exact ⟨kk z (by simp) _ hz,kk TI (by simp) _ hTI,⟨a,c,kk TO (by simp) _ hTO⟩,p1.keep λo e=>kk i1 (by simp) o e,p2.keep λo e=>kk i2 (by simp) o e⟩
 item:=by
  intro X hP hw hK hc i p9 s Y H E I hf st hg;subst hP hw hK;obtain ⟨vs,ws,sat1,sat2,l1,l2⟩:=hg;obtain ⟨hz,hTI,⟨a,b,hTO⟩,h1,h2⟩:=st;have hT:s.TypeIs (.ref z) "zip":=⟨_,hz,rfl⟩;have fz:=hf z (by simp);have fTO:=hf TO (by simp);have fi1:=hf i1 (by simp);have fi2:=hf i2 (by simp);obtain ⟨fp1,P1,S1,Dr1⟩:=drawn (A:=X.A.in1) (I.ok.hd hc) I sat1 fi1.1 h1;obtain ⟨fp2,P2,S2,Dr2⟩:=drawn (A:=X.A.in1) (I.ok.hd hc) I sat2 fi2.1 h2;have no1:∀e,H e=none->e≠i1->∀c∈fp1,c≠e:=λe he hei c hc z=>by
   rcases Dr1.fp c hc with q |q
   .exact hei (z.symm.trans q)
   .have:=sat1.no he;cases k with
    |lst a=>injection q with q;exact this (q.trans z)
    |tup a=>injection q with q;exact this (q.trans z)
    |str _ _=>cases q
  have no2:∀e,H e=none->e≠i2->∀c∈fp2,c≠e:=λe he hei c hc z=>by
   rcases Dr2.fp c hc with q |q
   .exact hei (z.symm.trans q)
   .have:=sat2.no he;cases l with
    |lst a=>injection q with q;exact this (q.trans z)
    |tup a=>injection q with q;exact this (q.trans z)
    |str _ _=>cases q
  have f1:∀c∈fp1,c≠z/\c≠TO/\c≠i2:=λc hc=>⟨no1 z fz.1 D.i1z.symm c hc,no1 TO fTO.1 D.TOi1 c hc,no1 i2 fi2.1 D.i12.symm c hc⟩;have f2:∀c∈fp2,c≠z/\c≠TO/\c≠i1:=λc hc=>⟨no2 z fz.1 D.i2z.symm c hc,no2 TO fTO.1 D.TOi2 c hc,no2 i1 fi1.1 D.i12 c hc⟩;have ltz:z < (~~~s):=a9 hz;have ltTI:TI < (~~~s):=a9 hTI;have ltTO:TO < (~~~s):=a9 hTO;have lti1:i1 < (~~~s):=by obtain ⟨_,e,_⟩:=h1;exact a9 e
  have lti2:i2 < (~~~s):=by obtain ⟨_,e,_⟩:=h2;exact a9 e
  unfold pyNext;refine ab (wpAny_attempt (fT (name:=⇑"__next__") hT F.slot_zip_next
   (eR F.slot_zip_next hT F.entry_zip_next (YQ D Dr1.D Dr2.D f1 f2 hz hTI hTO Dr1.st Dr2.st l1 l2 λh' tk c d pc pd a1 a2 a3 a4 a5 a6 hk=>al ?_) (F.args_zip_next_1 _))))
  obtain ⟨y,hy,ry⟩:=Dr1.val _ _ pc;obtain ⟨y',hy',ry'⟩:=Dr2.val _ _ pd;refine ⟨_,rfl,?_⟩;refine wpAny_letOwnedTupleGo_zip a1 λh2' hz2 hs2=>?_;have hs2':Heap.SameBut z h' h2':=hs2;have hn:H (~~~s)=none:=I.hok.fresh (am _);have k2:∀b o,b∉[z,TI,TO,i1,i2]->s.heap.get? b=some o->h2'.get? b=some o:=λb o hb q=>by
   have hb':b≠z/\b≠TI/\b≠TO/\b≠i1/\b≠i2:=by simpa using hb
   exact hs2'.extBut b o hb'.1 (hk b o hb'.1 hb'.2.2.1 hb'.2.2.2.1 hb'.2.2.2.2 q)
  have I2:Inv X p9 Y H { s with heap:=h2',toks:=tk }:=I.turnedL hf k2;have ht2:h2'.get? (~~~s)=some { cls:=.type "tuple",data:=.seq #[c,d] }:=hs2'.extBut _ _ (gL ltz) a5;have ob:ObjOk X.prog X.w (upd H (~~~s) (.tup [y,y'])) h2' (~~~s) (.tup [y,y']):=
   ⟨by rw[fq];simp,[c,d],.cons ry (.cons ry' .nil),⟨_,ht2,rfl,_,rfl⟩⟩
  have I3:=I2.track (I.fpOk (am _) hn) ob;refine ⟨.ref (~~~s),_,I3,rfl,⟨(~~~s),y,y',hn,rfl,rfl,λus hu=>by rw[xT hu sat1];exact hy,λus hu=>by rw[xT hu sat2];exact hy'⟩,
   ⟨hz2,hs2'.extBut _ _ D.TIz (hk _ _ D.TIz D.TITO D.TIi1 D.TIi2 hTI),⟨_,_,hs2'.extBut _ _ D.TOz a2⟩,(Dr1.pos _ _ a3).keep λo e=>hs2'.extBut _ _ D.i1z e,(Dr2.pos _ _ a4).keep λo e=>hs2'.extBut _ _ D.i2z e⟩,λb hb=>?_⟩
  have hb':b=z\/b=TI\/b=TO\/b=i1\/b=i2:=by simpa using hb
  rw[aQ (by rcases hb' with rfl |rfl |rfl |rfl |rfl <;> exact cp ‹_›)];exact (hf b hb).1
 done:=by
  intro X hP hw hK hc i p9 s Y H E I hf st hg;subst hP hw hK;obtain ⟨vs,ws,sat1,sat2,hend⟩:=hg;obtain ⟨hz,hTI,⟨a,b,hTO⟩,h1,h2⟩:=st;have hT:s.TypeIs (.ref z) "zip":=⟨_,hz,rfl⟩;have fz:=hf z (by simp);have fTO:=hf TO (by simp);have fi1:=hf i1 (by simp);have fi2:=hf i2 (by simp);obtain ⟨fp1,P1,S1,Dr1⟩:=drawn (A:=X.A.in1) (I.ok.hd hc) I sat1 fi1.1 h1;obtain ⟨fp2,P2,S2,Dr2⟩:=drawn (A:=X.A.in1) (I.ok.hd hc) I sat2 fi2.1 h2;have no1:∀e,H e=none->e≠i1->∀c∈fp1,c≠e:=λe he hei c hc z=>by
   rcases Dr1.fp c hc with q |q
   .exact hei (z.symm.trans q)
   .have:=sat1.no he;cases k with
    |lst a=>injection q with q;exact this (q.trans z)
    |tup a=>injection q with q;exact this (q.trans z)
    |str _ _=>cases q
  have no2:∀e,H e=none->e≠i2->∀c∈fp2,c≠e:=λe he hei c hc z=>by
   rcases Dr2.fp c hc with q |q
   .exact hei (z.symm.trans q)
   .have:=sat2.no he;cases l with
    |lst a=>injection q with q;exact this (q.trans z)
    |tup a=>injection q with q;exact this (q.trans z)
    |str _ _=>cases q
  have f1:∀c∈fp1,c≠z/\c≠TO/\c≠i2:=λc hc=>⟨no1 z fz.1 D.i1z.symm c hc,no1 TO fTO.1 D.TOi1 c hc,no1 i2 fi2.1 D.i12.symm c hc⟩;have f2:∀c∈fp2,c≠z/\c≠TO/\c≠i1:=λc hc=>⟨no2 z fz.1 D.i2z.symm c hc,no2 TO fTO.1 D.TOi2 c hc,no2 i1 fi1.1 D.i12 c hc⟩;have fin:∀(h':Heap)(tk:Nat)(e:AQ),(∀c o,c≠z->c≠TO->c≠i1->c≠i2->s.heap.get? c=some o->h'.get? c=some o)->Inv X p9 Y H { s with heap:=h',toks:=tk }:=λh' tk e hk=>I.turnedL (t':=tk) hf λb o hb q=>by
   have hb':b≠z/\b≠TI/\b≠TO/\b≠i1/\b≠i2:=by simpa using hb
   exact hk b o hb'.1 hb'.2.2.1 hb'.2.2.2.1 hb'.2.2.2.2 q
  unfold pyNext;refine ab (wpAny_attempt (fT (name:=⇑"__next__") hT F.slot_zip_next
   (eR F.slot_zip_next hT F.entry_zip_next ?_ (F.args_zip_next_1 _))))
  rcases hend with ⟨e1,_⟩ |⟨e1,e2⟩
  .subst e1;refine YS D Dr1.D (λc hc=>(f1 c hc).1) hz hTI hTO Dr1.st λh' e hk he=>?_;obtain ⟨o,ho,hc'⟩:=he;refine ab (wpAny_isInstance (T:="StopIteration") (b:=true) ⟨o,ho,hc'⟩ isSubtype_stop ?_);exact al ⟨rfl,fin h' s.toks e hk⟩
  .refine YT D Dr1.D Dr2.D f1 f2 hz hTI hTO Dr1.st Dr2.st e1 e2.symm λh' tk e hk he=>?_;obtain ⟨o,ho,hc'⟩:=he;refine ab (wpAny_isInstance (T:="StopIteration") (b:=true) ⟨o,ho,hc'⟩ isSubtype_stop ?_);exact al ⟨rfl,fin h' tk e hk⟩
 self:=λA i s Q E st h=>wpAny_pyIter_zip st.1 h
open Sem (wp)
open AutoSeq1 (wpAny_loadPart')
set_option maxHeartbeats 1000000 in
theorem YX(l:AQ)(items:Array AN)(n:Nat)(dct:Option AQ)(sl:Array (Option AN)):
  Meets (Builtin.«enumerate.__new__» ⟨[.type "enumerate",.ref l],[]⟩) (λ_ R s=>s.heap.get? l=some { cls:=.type "tuple",dict:=dct,data:=.seq items n,slots:=sl }/\
   R (.ok (.ret (.ref (s.heap.push { cls:=.type "tuple_iterator",data:=.fields #[.ref l,.int 0 0] }).objs.size)))
    { s with heap:=(s.heap.push { cls:=.type "tuple_iterator",data:=.fields #[.ref l,.int 0 0] }).push { cls:=.type "enumerate",data:=.fields #[.none,.bool false,.ref (~~~s),rawInt 0,.none,.none] } }):=
 .of_wp λprog w A R s h=>by
  obtain ⟨hp,g,d,tk,os⟩:=s;obtain ⟨hl,h⟩:=h;have hsub:=sub_enumerate;have hL:Heap.IsTuple (Shared.heap ⟨hp,g,d,tk,os⟩) l items:=⟨_,hl,rfl,n,rfl⟩;wp_walk using wpAny_loadPart' hl
  refine wpAny_stack_any λst=>al ?_;split
  .rename_i c _ _ _ _ _;cases (c==Value.type "enumerate")
   .wp_walk using wpAny_loadPart' hl,wpAny_pyIter_tuple hL
    exact ⟨_,rfl,h⟩
   .wp_walk using wpAny_loadPart' hl,wpAny_pyIter_tuple hL
    exact ⟨_,rfl,h⟩
  .wp_walk using wpAny_loadPart' hl,wpAny_pyIter_tuple hL
   exact ⟨_,rfl,h⟩
abbrev sI(h:Heap)(k:SK):Heap:=h.push k.obj
abbrev sJ(h:Heap)(k l:SK):Heap:=(sI h k).push l.obj
abbrev sO (h:Heap) (k l:SK):Heap:=(sJ h k l).push { cls:=.type "tuple",data:=.seq #[.ref h.objs.size,.ref (sI h k).objs.size] }
abbrev sS (h:Heap) (k l:SK):Heap:=(sO h k l).push { cls:=.type "tuple",data:=.seq #[.none,.none] }
abbrev jf (h:Heap) (k l:SK):Heap:=(sS h k l).push { cls:=.type "zip",data:=.fields #[.none,.bool false,.bool false,.ref (sJ h k l).objs.size,.ref (sO h k l).objs.size] }
def YZ(k l:SK)(xs ys:Array AN):
  Meets (Builtin.«zip.__new__» ⟨[.type "zip",k.val,l.val],[]⟩) (λ_ R s=>k.On xs s.heap/\l.On ys s.heap/\R (.ok (.ret (.ref (sS s.heap k l).objs.size))) { s with heap:=jf s.heap k l }):=
 .of_wp λprog w A R s h=>by
  obtain ⟨hp,g,d,tk,os⟩:=s;obtain ⟨h1,h2,h⟩:=h;have hsub:=sub_zip;have h1':k.On xs (Shared.heap ⟨hp,g,d,tk,os⟩):=h1;have h2':l.On ys (Shared.heap ⟨hp.push k.obj,g,d,tk,os⟩):=SK.On.keeps h2 λb o _ e=>ag _ e;wp_walk using SK.iter h1',SK.iter h2'
  exact ⟨_,rfl,h⟩
section
variable {prog:AK} {w:World} {A:AM} {E:AG} {s:AI}
theorem Y0{k l:SK}{xs ys:Array AN}{Q:AG}(h1:k.On xs s.heap)(h2:l.On ys s.heap)
  (h:∀h',IsZip h' ((~~~s)+4) ((~~~s)+2) ((~~~s)+3) .none->IsPair h' ((~~~s)+2) (.ref (~~~s)) (.ref ((~~~s)+1))->
   IsPair h' ((~~~s)+3) .none .none->k.pos (~~~s) 0 h'->l.pos ((~~~s)+1) 0 h'->h'.objs.size=(~~~s)+5->
   (∀c o,s.heap.get? c=some o->h'.get? c=some o)->Q (.ref ((~~~s)+4)) { s with heap:=h' }):
  wpAny (model prog w) A (call (.type "zip") [k.val,l.val]) Q E s:=by
 refine callType_new F.called_zip (!1) (F.typeCall_zip_2 _ _) (F.newCall_zip_2 _ _) (λobj=>F.args_object_init_3 obj _ _) F.entry_zip_new
  (YZ k l xs ys) ⟨h1,h2,?_⟩
 have z1:(sI s.heap k).objs.size=(~~~s)+1:=cq ..;have z2:(sJ s.heap k l).objs.size=(~~~s)+2:=by rw[cq,z1]
 have z3:(sO s.heap k l).objs.size=(~~~s)+3:=by rw[cq,z2]
 have z4:(sS s.heap k l).objs.size=(~~~s)+4:=by rw[cq,z3]
 have z5:(jf s.heap k l).objs.size=(~~~s)+5:=by rw[cq,z4]
 have g5:(jf s.heap k l).get? (sS s.heap k l).objs.size=some _:=a8 _ rfl;have g4:(jf s.heap k l).get? (sO s.heap k l).objs.size=some _:=ag _ (a8 _ rfl);have g3:(jf s.heap k l).get? (sJ s.heap k l).objs.size=some _:=ag _ (ag _ (a8 _ rfl));have g2:(jf s.heap k l).get? (sI s.heap k).objs.size=some _:=ag _ (ag _ (ag _ (a8 _ rfl)));have g1:(jf s.heap k l).get? (~~~s)=some _:=ag _ (ag _ (ag _ (ag _ (a8 _ rfl))));show _/\_;rw[z2,z3,z4]at g5;rw[z1,z2]at g3;rw[z3]at g4;rw[z1]at g2;rw[z4];exact ⟨⟨_,g5,rfl⟩,h _ g5 g3 g4 ⟨_,g1,rfl,rfl⟩ ⟨_,g2,rfl,rfl⟩ z5 λc o x=>
  ag _ (ag _ (ag _ (ag _ (ag _ x))))⟩
theorem Y4{l:AQ}{items:Array AN}{Q:AG}(hL:s.heap.IsTuple l items)
  (h:∀h',IsEnum h' ((~~~s)+1) (~~~s) 0 .none->h'.IsTupleIter (~~~s) l 0->h'.objs.size=(~~~s)+2->
   (∀b o,s.heap.get? b=some o->h'.get? b=some o)->Q (.ref ((~~~s)+1)) { s with heap:=h' }):
  wpAny (model prog w) A (call (.type "enumerate") [.ref l]) Q E s:=by
 obtain ⟨⟨c,dct,dt,sl⟩,hl,hc,n,hd⟩:=hL;replace hc:c=.type "tuple":=hc;replace hd:dt=.seq items n:=hd;subst hc hd;refine callType_new F.called_enumerate (!1) (F.typeCall_enumerate_1 _) (F.newCall_enumerate_1 _) (λobj=>F.args_object_init_2 obj _) F.entry_enumerate_new
  (YX l items n dct sl) ⟨hl,?_⟩
 have hz:(s.heap.push { cls:=.type "tuple_iterator",data:=.fields #[.ref l,.int 0 0] }).objs.size=(~~~s)+1:=cq ..;show _/\_;rw[hz];have he:IsEnum ((s.heap.push { cls:=.type "tuple_iterator",data:=.fields #[.ref l,.int 0 0] }).push
   { cls:=.type "enumerate",data:=.fields #[.none,.bool false,.ref (~~~s),rawInt 0,.none,.none] }) ((~~~s)+1) (~~~s) 0 .none:=by
  have:=a8 (s.heap.push { cls:=.type "tuple_iterator",data:=.fields #[.ref l,.int 0 0] })
   (o:={ cls:=.type "enumerate",data:=.fields #[.none,.bool false,.ref (~~~s),rawInt 0,.none,.none] }) rfl
  rw[hz]at this;exact this
 refine ⟨⟨_,he,rfl⟩,h _ he ⟨_,ag _ (a8 _ rfl),rfl,rfl⟩ (by rw[cq,hz]) λb o x=>ag _ (ag _ x)⟩
theorem Y5{k:SK}{xs:Array AN}{Q:AG}(h1:k.On xs s.heap)
  (h:∀h',IsEnum h' ((~~~s)+1) (~~~s) 0 .none->k.pos (~~~s) 0 h'->h'.objs.size=(~~~s)+2->
   (∀b o,s.heap.get? b=some o->h'.get? b=some o)->Q (.ref ((~~~s)+1)) { s with heap:=h' }):
  wpAny (model prog w) A (call (.type "enumerate") [k.val]) Q E s:=by
 cases k with
 |lst a=>exact call_enumerate_list h1 h
 |tup a=>exact Y4 h1 h
 |str x t=>exact call_enumerate_str h
end
set_option backward.match.sparseCases false
structure OT where
 ms:List (AL×AL×AL×Nat):=[]
 ks:List (AL×Nat):=[]
 fl:List (AL×AL):=[]
 xk:List (AL×AL):=[]
structure CT where
 N:AD
 kd:List (Str×NameKind)
 fn:Bool
 fs:List (AL×Nat)
 bt:List AL
 cn:List (AL×D)
 xs:List (AL×Bool):=[]
 ot:OT:={}
def jg:Option NameKind->Bool
 |some .local=>true
 |some .cell=>true
 |some .free=>true
 |_=>false
def CT.sto(c:CT)(x:Str):Bool:=c.kd.lookup x==some .local||(c.fn&&c.kd.lookup x==some .cell)
def okN (x:Str):Bool:=!(x==("__debug__":Str))&&!(x==("__classdict__":Str))&&!(x==("__name__":Str))
def CT.glo(c:CT)(x:Str):Bool:=c.kd.lookup x==some .globalImplicit&&okN x
def sEq:D->D->Bool
 |.non,.non=>true
 |.bl a,.bl b=>a==b
 |.int a,.int b=>a==b
 |.str a,.str b=>a==b
 |_,_=>false
def Y6{a b:D}(h:sEq a b=true):a=b:=by cases a <;> cases b <;> simp_all [sEq]
def sU(d:D)(k:Const):Bool:=
 match d,k with
 |.non,.none=>true
 |.bl a,.bool b=>a==b
 |.int a,.int b=>a==b
 |.str a,.str b=>a==b.cps.toList&&decide (a.length<=sz)
 |_,_=>false
def Bf.name:Bf->AL
 |.len=>"len"
 |.all=>"all"
 |.int=>"int"
 |.tuple=>"tuple"
 |.sum=>"sum"
 |.min=>"min"
 |.max=>"max"
 |.abs=>"abs"
 |.min2=>"min"
 |.str=>"str"
def xU:Bf->Bool
 |.sum=>false
 |.min=>true
 |.max=>false
 |.abs=>false
 |.min2=>false
 |.str=>true
 |_=>true
def xV:Lf->Bool
 |.sorted=>false
 |_=>true
def Lf.name:Lf->AL
 |.list=>"list"
 |.sorted=>"sorted"
def Mf.name:Mf->AL
 |.join=>"join"
 |.append=>"append"
 |.extend=>"extend"
def akt:AO->Bool
 |.Name _ _=>true
 |.Subscript _ _ _=>true
 |_=>false
def sV:AO->Bool
 |.Call (.Name _ _) [] [] _=>true
 |_=>false
def dO:AO->Bool
 |.ListComp ..=>true
 |.SetComp ..=>true
 |.DictComp ..=>true
 |_=>false
def ji:AO->Bool
 |.UnaryOp .Not _ _=>false
 |.BoolOp ..=>false
 |.IfExp ..=>false
 |.Compare ..=>false
 |_=>true
def fL(N:AD)(scope:Scope):AD->List (Option Nat)->Bool
 |[],[]=>true
 |_::N',none::cap=>fL N scope N' cap
 |x::N',some j::cap=>(N[j]?==some x)&&(scope.names.lookup x==some NameKind.free)&&fL N scope N' cap
 |_,_=>false
def gR(c:CT)(scope:Scope):Bool:=
 scope.names.all (λy=>y.2 != NameKind.cell)&&scope.names.all (λy=>y.2 != NameKind.local||scope.names.lookup y.1==some NameKind.local) &&
 scope.names.all (λy=>y.2 != NameKind.free||(c.kd.lookup y.1==some NameKind.cell||c.kd.lookup y.1==some NameKind.free))&&decide (scope.kind=.function)&&decide (c.kd=c.kd)
def CT.comp(c:CT)(N:AD)(scope:Scope):CT:={ N:=N,kd:=scope.names,fn:=false,fs:=c.fs,bt:=c.bt,cn:=c.cn,ot:=c.ot }
def dz:AD->Bool
 |[]=>true
 |x::r=>!r.contains x&&dz r
def asName(e:AO):Option { t:Str×Pos // e=.Name t.1 t.2 }:=match e with
 |.Name a0 a1=>some ⟨(a0,a1),rfl⟩
 |_=>none
def aku(e:AO):Option { t:AO×Pos // e=.Starred t.1 t.2 }:=match e with
 |.Starred a0 a1=>some ⟨(a0,a1),rfl⟩
 |_=>none
def xW(e:AO):Option { t:Const×Nat×Pos // e=.Constant t.1 t.2.1 t.2.2 }:=match e with
 |.Constant a0 a1 a2=>some ⟨(a0,a1,a2),rfl⟩
 |_=>none
def Gy(e:AO):Option { t:AO×Operator×AO×Pos // e=.BinOp t.1 t.2.1 t.2.2.1 t.2.2.2 }:=match e with
 |.BinOp a0 a1 a2 a3=>some ⟨(a0,a1,a2,a3),rfl⟩
 |_=>none
def jP(e:AO):Option { t:UnaryOp×AO×Pos // e=.UnaryOp t.1 t.2.1 t.2.2 }:=match e with
 |.UnaryOp a0 a1 a2=>some ⟨(a0,a1,a2),rfl⟩
 |_=>none
def lJ(e:AO):Option { t:AO×List CmpOp×AE×Pos // e=.Compare t.1 t.2.1 t.2.2.1 t.2.2.2 }:=match e with
 |.Compare a0 a1 a2 a3=>some ⟨(a0,a1,a2,a3),rfl⟩
 |_=>none
def sW(e:AO):Option { t:BoolOp×AE×Pos // e=.BoolOp t.1 t.2.1 t.2.2 }:=match e with
 |.BoolOp a0 a1 a2=>some ⟨(a0,a1,a2),rfl⟩
 |_=>none
def Gz(e:AO):Option { t:AO×AO×AO×Pos // e=.IfExp t.1 t.2.1 t.2.2.1 t.2.2.2 }:=match e with
 |.IfExp a0 a1 a2 a3=>some ⟨(a0,a1,a2,a3),rfl⟩
 |_=>none
def iz(e:AO):Option { t:AE×Nat×Pos // e=.Tuple t.1 t.2.1 t.2.2 }:=match e with
 |.Tuple a0 a1 a2=>some ⟨(a0,a1,a2),rfl⟩
 |_=>none
def asList(e:AO):Option { t:AE×Pos // e=.List t.1 t.2 }:=match e with
 |.List a0 a1=>some ⟨(a0,a1),rfl⟩
 |_=>none
def jQ(e:AO):Option { t:AO×AO×Pos // e=.Subscript t.1 t.2.1 t.2.2 }:=match e with
 |.Subscript a0 a1 a2=>some ⟨(a0,a1,a2),rfl⟩
 |_=>none
def GC(e:AO):Option { t:Option AO×Option AO×Option AO×Pos // e=.Slice t.1 t.2.1 t.2.2.1 t.2.2.2 }:=match e with
 |.Slice a0 a1 a2 a3=>some ⟨(a0,a1,a2,a3),rfl⟩
 |_=>none
def sX(e:AO):Option { t:AO×AE×List Keyword×Pos // e=.Call t.1 t.2.1 t.2.2.1 t.2.2.2 }:=match e with
 |.Call a0 a1 a2 a3=>some ⟨(a0,a1,a2,a3),rfl⟩
 |_=>none
def GD(e:AO):Option { t:AO×Str×Pos // e=.Attribute t.1 t.2.1 t.2.2 }:=match e with
 |.Attribute a0 a1 a2=>some ⟨(a0,a1,a2),rfl⟩
 |_=>none
def sY(e:AO):Option { t:AO×List Comprehension×Scope×Pos // e=.ListComp t.1 t.2.1 t.2.2.1 t.2.2.2 }:=match e with
 |.ListComp a0 a1 a2 a3=>some ⟨(a0,a1,a2,a3),rfl⟩
 |_=>none
def GF(e:Stmt):Option { t:AO×Pos // e=.Expr t.1 t.2 }:=match e with
 |.Expr a0 a1=>some ⟨(a0,a1),rfl⟩
 |_=>none
def sZ(e:Stmt):Option { t:AE×AO×Pos // e=.Assign t.1 t.2.1 t.2.2 }:=match e with
 |.Assign a0 a1 a2=>some ⟨(a0,a1,a2),rfl⟩
 |_=>none
def GJ(e:Stmt):Option { t:AO×Operator×AO×Pos // e=.AugAssign t.1 t.2.1 t.2.2.1 t.2.2.2 }:=match e with
 |.AugAssign a0 a1 a2 a3=>some ⟨(a0,a1,a2,a3),rfl⟩
 |_=>none
def akv(e:Stmt):Option { t:Option AO×Option AO×Pos // e=.Raise t.1 t.2.1 t.2.2 }:=match e with
 |.Raise a0 a1 a2=>some ⟨(a0,a1,a2),rfl⟩
 |_=>none
def akx(e:Stmt):Option { t:AF×List ExceptHandler×AF×AF×Pos // e=.Try t.1 t.2.1 t.2.2.1 t.2.2.2.1 t.2.2.2.2 }:=match e with
 |.Try a0 a1 a2 a3 a4=>some ⟨(a0,a1,a2,a3,a4),rfl⟩
 |_=>none
def aky(e:ExceptHandler):Option { t:Option AO×Option Str×AF×Pos // e=.ExceptHandler t.1 t.2.1 t.2.2.1 t.2.2.2 }:=match e with
 |.ExceptHandler a0 a1 a2 a3=>some ⟨(a0,a1,a2,a3),rfl⟩
def xX(e:AO):Option { t:AO×Int×Option AO×Pos // e=.FormattedValue t.1 t.2.1 t.2.2.1 t.2.2.2 }:=match e with
 |.FormattedValue a0 a1 a2 a3=>some ⟨(a0,a1,a2,a3),rfl⟩
 |_=>none
def Y7(e:AO):Option { t:AE×Pos // e=.JoinedStr t.1 t.2 }:=match e with
 |.JoinedStr a0 a1=>some ⟨(a0,a1),rfl⟩
 |_=>none
def Y8(k:Const):Option { x:Str // k=.str x }:=match k with
 |.str x=>some ⟨x,rfl⟩
 |_=>none
def akz(b:Bool)(k:Const):Bool:=match k with
 |.bool c=>c==b
 |_=>false
def tu(e:Stmt):Option { t:Option AO×Pos // e=.Return t.1 t.2 }:=match e with
 |.Return a0 a1=>some ⟨(a0,a1),rfl⟩
 |_=>none
def GK(e:Stmt):Option { t:AO×AF×AF×Pos // e=.If t.1 t.2.1 t.2.2.1 t.2.2.2 }:=match e with
 |.If a0 a1 a2 a3=>some ⟨(a0,a1,a2,a3),rfl⟩
 |_=>none
def GP(e:Stmt):Option { t:AO×AO×AF×AF×Pos // e=.For t.1 t.2.1 t.2.2.1 t.2.2.2.1 t.2.2.2.2 }:=match e with
 |.For a0 a1 a2 a3 a4=>some ⟨(a0,a1,a2,a3,a4),rfl⟩
 |_=>none
def GQ(e:Stmt):Option { t:AO×AF×AF×Pos // e=.While t.1 t.2.1 t.2.2.1 t.2.2.2 }:=match e with
 |.While a0 a1 a2 a3=>some ⟨(a0,a1,a2,a3),rfl⟩
 |_=>none
def GR(e:Stmt):Option { t:Pos // e=.Pass t }:=match e with
 |.Pass a0=>some ⟨a0,rfl⟩
 |_=>none
def GX(e:Stmt):Option { t:Pos // e=.Break t }:=match e with
 |.Break a0=>some ⟨a0,rfl⟩
 |_=>none
def GZ(e:Stmt):Option { t:Pos // e=.Continue t }:=match e with
 |.Continue a0=>some ⟨a0,rfl⟩
 |_=>none
def one{α:Type}:List α->Option α
 |[a]=>some a
 |_=>none
def three{α:Type}:List α->Option (α×α×α)
 |[x,y,z]=>some (x,y,z)
 |_=>none
def G8{α:Type}{l:List α}{v:α×α×α}(h:three l=some v):l=[v.1,v.2.1,v.2.2]:=by
 unfold three at h;split at h
 .cases h;rfl
 .cases h
def two{α:Type}:List α->Option (α×α)
 |[a,b]=>some (a,b)
 |_=>none
def hdT{α:Type}:List α->Option (α×List α)
 |a::r=>some (a,r)
 |[]=>none
def eE{α:Type}{l:List α}{a:α}(h:one l=some a):l=[a]:=by
 cases l with
 |nil=>cases h
 |cons x r=>cases r with
  |nil=>cases h;rfl
  |cons _ _=>cases h
def lK{α:Type}{l:List α}{a:α×α}(h:two l=some a):l=[a.1,a.2]:=by
 cases l with
 |nil=>cases h
 |cons x r=>cases r with
  |nil=>cases h
  |cons y r=>cases r with
   |nil=>cases h;rfl
   |cons _ _=>cases h
def Ha{α:Type}{l:List α}{a:α×List α}(h:hdT l=some a):l=a.1::a.2:=by
 cases l with
 |nil=>cases h
 |cons x r=>cases h;rfl
def aZ{α:Type}{o:Option α}{p:α->Bool}(h:o.any p=true):∃t,o=some t/\p t=true:=by
 cases o with
 |none=>cases h
 |some t=>exact ⟨t,rfl,h⟩
def xY:UnaryOp->Bool
 |.USub=>true
 |_=>false
def lL:UnaryOp->Bool
 |.Not=>true
 |_=>false
def Y9{o:UnaryOp}(h:xY o=true):o=.USub:=by cases o <;> first |rfl |cases h
def Hb{o:UnaryOp}(h:lL o=true):o=.Not:=by cases o <;> first |rfl |cases h
def bI(e:AO):Option (Str×Pos×AE×Pos):=(sX e).bind λt=>(asName t.1.1).bind λn=>match t.1.2.2.1 with |[]=>some (n.1.1,n.1.2,t.1.2.1,t.1.2.2.2) |_::_=>none
def aC{α:Type}{q:α->Prop}(o:Option { t:α // q t })(P:α->Bool):Bool:=match o with |some t=>P t.1 |none=>false
def aY{α:Type}{q:α->Prop}{o:Option { t:α // q t }}{P:α->Bool}(h:aC o P=true):∃t,q t/\P t=true:=by
 cases o with
 |none=>cases h
 |some t=>exact ⟨t.1,t.2,h⟩
def Hc{α β:Type}{o:Option α}{f:α->Option β}{b:β}(h:o.bind f=some b):∃t,o=some t/\f t=some b:=by
 cases o with
 |none=>cases h
 |some t=>exact ⟨t,rfl,h⟩
def dR{e:AO}{t:Str×Pos×AE×Pos}(h:bI e=some t):e=.Call (.Name t.1 t.2.1) t.2.2.1 [] t.2.2.2:=by
 obtain ⟨⟨⟨f,as,ks,p⟩,hu⟩,_,h⟩:=Hc h;obtain ⟨⟨⟨x,p'⟩,hn⟩,_,h⟩:=Hc h;dsimp only at h hn hu;cases ks with
 |nil=>cases h;rw[hu,hn]
 |cons _ _=>cases h
def akA (e:AO):Option (Str×Pos×AO×AO×Pos×Pos):=(sX e).bind λt=>(asName t.1.1).bind λn=>(one t.1.2.1).bind λv=>(one t.1.2.2.1).bind λkw=>if kw.arg=some (⇑"start") then some (n.1.1,n.1.2,v,kw.value,kw.pos,t.1.2.2.2) else none
def lM(e:AO):Bool:=(lJ e).isSome
def Hd:Ex->Bool
 |.frz _=>false
 |_=>true
def xZ:Tx->Bool
 |.yes=>true
 |_=>false
mutual
def bG(c:CT):Tg->AO->Bool
 |.nm i,e=>aC (asName e) λt=>(c.N[i]?==some t.1)&&c.sto t.1
 |.tp ts,e=>aC (iz e) λt=>cR c ts t.1
def cR(c:CT):Tgs->AE->Bool
 |.nil,es=>es.isEmpty
 |.cons t r,es=>match es with
  |e::es=>bG c t e&&cR c r es
  |[]=>false
end
def Hf(e:AO):Bool:=aC (xW e) λt=>aC (Y8 t.1) λx=>decide (x.length<=1000)
def unF(e:AO):AO:=match xX e with |some t=>t.1.1 |none=>e
def Za:Ex->Bool
 |.cst (.str _)=>true
 |_=>false
def Zb:Exs->AE->Bool
 |.cons x xs,p::ps=>(match xX p with |some t=>decide (t.1.2.1=-1)&&t.1.2.2.1.isNone |none=>Za x)&&Zb xs ps
 |.nil,ps=>ps.isEmpty
 |_,[]=>false
mutual
def aa(c:CT):Ex->AO->Bool
 |.var i,e=>aC (asName e) λt=>(c.N[i]?==some t.1)&&jg (c.kd.lookup t.1)&&okN t.1
 |.cst d,e=>aC (xW e) λt=>sU d t.1
 |.glb x d,e=>aC (asName e) λt=>t.1==⇑x&&c.glo t.1&&c.cn.any (λp=>p.1==x&&sEq p.2 d)
 |.bin op _ a b,e=>aC (Gy e) λt=>t.2.1==op&&aa c a t.1&&aa c b t.2.2.1
 |.neg a,e=>aC (jP e) λt=>xY t.1&&aa c a t.2.1
 |.cmp op a b,e=>aC (lJ e) λt=>(one t.2.1).any λo=>(one t.2.2.1).any λr=>o==op&&aa c a t.1&&aa c b r
 |.chn op op' a b d,e=>aC (lJ e) λt=>(two t.2.1).any λo=>(two t.2.2.1).any λr=>o.1==op&&o.2==op'&&aa c a t.1&&aa c b r.1&&aa c d r.2
 |.not a,e=>aC (jP e) λt=>lL t.1&&aa c a t.2.1
 |.boo isAnd x es,e=>aC (sW e) λt=>(hdT t.2.1).any λv=>t.1==(if isAnd then .And else .Or)&&aa c x v.1&&aN c es v.2
 |.ife t a b,e=>aC (Gz e) λu=>bK c t u.1&&aa c a u.2.1&&aa c b u.2.2.1
 |.tup es,e=>aC (iz e) λt=>aN c es t.1
 |.lst _ es,e=>aC (asList e) λt=>aN c es t.1
 |.idx a i,e=>aC (jQ e) λt=>aa c a t.1&&aa c i t.2.1
 |.slc _ a lo hi,e=>aC (jQ e) λt=>aC (GC t.2.1) λs=>s.2.2.1.isNone&&(aa c a t.1&&gU c lo s.1&&gU c hi s.2.1)
 |.call f es,e=>(bI e).any λt=>t.1==⇑f&&c.glo t.1&&(c.fs.any λp=>p.1==f&&p.2==t.2.2.1.length)&&!t.2.2.1.isEmpty&&aN c es t.2.2.1
 |.bcl f es,e=>(bI e).any λt=>t.1==⇑f.name&&xU f&&c.glo t.1&&c.bt.contains f.name&&!t.2.2.1.isEmpty&&aN c es t.2.2.1
 |.lcl _ f es,e=>(bI e).any λt=>t.1==⇑f.name&&xV f&&c.glo t.1&&c.bt.contains f.name&&!t.2.2.1.isEmpty&&aN c es t.2.2.1
 |.isi a t,e=>(bI e).any λu=>(two u.2.2.1).any λv=>aC (asName v.2) λy=>u.1==⇑"isinstance"&&c.glo u.1&&c.bt.contains "isinstance"&&aa c a v.1&&y.1==⇑t&&c.glo y.1&&c.bt.contains t&&gM t
 |.srs _ a,e=>(bI e).any λt=>(one t.2.2.1).any λe1=>(bI e1).any λu=>(one u.2.2.1).any λe2=>t.1==⇑"sorted"&&c.glo t.1&&c.bt.contains "sorted"&&u.1==⇑"set"&&c.glo u.1&&c.bt.contains "set"&&aa c a e2
 |.mth m o es,e=>aC (sX e) λt=>aC (GD t.1) λv=>t.2.2.1.isEmpty&&(v.2.1==⇑m.name&&aa c o v.1&&!sV v.1&&(v.2.2.endLine==t.2.2.2.line)&&decide (t.2.1.length < 29)&&!t.2.1.isEmpty&&aN c es t.2.1)
 |.comp _ elt tg it cond N cap,e=>aC (sY e) λt=>(one t.2.1).any λg=>decide (g.is_async=0)&&bj c it g.target g.iter&&fL c.N t.2.2.1 (N.map Str.ofString) cap&&gR c t.2.2.1&&dz (N.map Str.ofString) &&
    bG (c.comp (N.map Str.ofString) t.2.2.1) tg g.target&&((xZ cond&&g.ifs.isEmpty)||(one g.ifs).any λf=>bK (c.comp (N.map Str.ofString) t.2.2.1) cond f)&&aa (c.comp (N.map Str.ofString) t.2.2.1) elt t.1
 |.cm3 elt t1 i1 t2 i2 t3 i3 N cap,e=>aC (sY e) λt=>(three t.2.1).any λg=>decide (g.1.is_async=0)&&decide (g.2.1.is_async=0)&&decide (g.2.2.is_async=0)&&g.1.ifs.isEmpty&&g.2.1.ifs.isEmpty&&g.2.2.ifs.isEmpty&&bj c i1 g.1.target g.1.iter&&fL c.N t.2.2.1 (N.map Str.ofString) cap&&gR c t.2.2.1&&dz (N.map Str.ofString)&&bG (c.comp (N.map Str.ofString) t.2.2.1) t1 g.1.target&&bj (c.comp (N.map Str.ofString) t.2.2.1) i2 g.2.1.target g.2.1.iter&&bG (c.comp (N.map Str.ofString) t.2.2.1) t2 g.2.1.target&&bj (c.comp (N.map Str.ofString) t.2.2.1) i3 g.2.2.target g.2.2.iter&&bG (c.comp (N.map Str.ofString) t.2.2.1) t3 g.2.2.target&&aa (c.comp (N.map Str.ofString) t.2.2.1) elt t.1
 |.frz a,e=>aa c a e
def bK(c:CT):Tx->AO->Bool
 |.val x,e=>(ji e||lM e)&&aa c x e&&Hd x
 |.not t,e=>aC (jP e) λu=>lL u.1&&bK c t u.2.1
 |.boo isAnd t ts,e=>aC (sW e) λu=>(hdT u.2.1).any λv=>u.1==(if isAnd then .And else .Or)&&bK c t v.1&&jj c ts v.2
 |.yes,_=>false
def jj(c:CT):Txs->AE->Bool
 |.nil,es=>es.isEmpty
 |.cons t r,es=>match es with
  |e::es=>bK c t e&&jj c r es
  |[]=>false
def aN(c:CT):Exs->AE->Bool
 |.nil,es=>es.isEmpty
 |.cons t r,es=>match es with
  |e::es=>aa c t e&&aN c r es
  |[]=>false
def gU(c:CT):Ox->Option AO->Bool
 |.no,e=>e.isNone
 |.ob x,e=>match e with
  |some e=>aa c x e
  |none=>false
def bj(c:CT):It'->AO->AO->Bool
 |.seq x,_,e=>aa c x e
 |.rng a,_,e=>(bI e).any λt=>(one t.2.2.1).any λv=>t.1==⇑"range"&&c.glo t.1&&c.bt.contains "range"&&aa c a v
 |.rng2 a b,_,e=>(bI e).any λt=>(two t.2.2.1).any λv=>t.1==⇑"range"&&c.glo t.1&&c.bt.contains "range"&&aa c a v.1&&aa c b v.2
 |.rev a,_,e=>(bI e).any λt=>(one t.2.2.1).any λv=>(bI v).any λt'=>(one t'.2.2.1).any λv'=>t.1==⇑"reversed"&&c.glo t.1&&c.bt.contains "reversed"&&t'.1==⇑"range"&&c.glo t'.1&&c.bt.contains "range"&&aa c a v'
 |.dwn a b d,_,e=>(bI e).any λt=>(three t.2.2.1).any λv=>t.1==⇑"range"&&c.glo t.1&&c.bt.contains "range"&&aa c a v.1&&aa c b v.2.1&&aa c d v.2.2
 |.enm a,tg,e=>aC (iz tg) λ_=>(bI e).any λt=>(one t.2.2.1).any λv=>t.1==⇑"enumerate"&&c.glo t.1&&c.bt.contains "enumerate"&&aa c a v
 |.zip a b,tg,e=>aC (iz tg) λ_=>(bI e).any λt=>(two t.2.2.1).any λv=>t.1==⇑"zip"&&c.glo t.1&&c.bt.contains "zip"&&aa c a v.1&&aa c b v.2
end
def lN(c:CT)(cond:Tx)(ifs:AE):Bool:=(xZ cond&&ifs.isEmpty)||(one ifs).any λf=>bK c cond f
def Hg:Ex->Bool
 |.comp ..=>true
 |.cm3 ..=>true
 |_=>false
def Hh:AO->Bool
 |.Tuple ..=>true
 |_=>false
def yc(g:Tg)(x:Ex)(e:AO):Bool:=match g with |.nm _=>!dO e||Hg x |.tp _=>!Hh e&&!dO e
def yd(c:CT):Exs->AE->Bool
 |es,[]=>(match es with |.nil=>true |_=>false)
 |es,p::ps=>match Hf p with
  |true=>yd c es ps
  |false=>(match es with |.cons x r=>(aC (xX p) λt=>decide (t.2.1=-1)&&t.2.2.1.isNone&&aa c x t.1)&&yd c r ps |.nil=>false)
def akB(c:CT)(es:Exs)(e:AO):Bool:=(match es with |.nil=>Hf e |_=>false)||aC (Y7 e) λt=>decide (2<=t.1.length)&&decide (t.1.length<=50)&&yd c es t.1
mutual
def bR(c:CT):Sx->Stmt->Bool
 |.exp x,st=>aC (GF st) λt=>!dO t.1&&aa c x t.1
 |.asg g x,st=>aC (sZ st) λt=>(one t.1).any λtg=>bG c g tg&&aa c x t.2.1&&yc g x t.2.1
 |.set o i x,st=>aC (sZ st) λt=>(one t.1).any λtg=>aC (jQ tg) λu=>aa c o u.1&&aa c i u.2.1&&aa c x t.2.1&&!dO t.2.1
 |.aug i op x,st=>aC (GJ st) λt=>aC (asName t.1) λy=>t.2.1==op&&(c.N[i]?==some y.1)&&c.sto y.1&&okN y.1&&aa c x t.2.2.1
 |.ret x,st=>aC (tu st) λt=>t.1.any λe=>aa c x e
 |.rtn,st=>aC (tu st) λt=>t.1.isNone
 |.ite t a b,st=>aC (GK st) λu=>bK c t u.1&&aB c a u.2.1&&aB c b u.2.2.1
 |.for_ g it b,st=>aC (GP st) λt=>t.2.2.2.1.isEmpty&&(bG c g t.1&&bj c it t.1 t.2.1&&aB c b t.2.2.1)
 |.whl t b,st=>aC (GQ st) λu=>u.2.2.1.isEmpty&&(bK c t u.1&&aB c b u.2.1)
 |.pas,st=>(GR st).isSome
 |.brk,st=>(GX st).isSome
 |.cnt,st=>(GZ st).isSome
 |.nev,_=>true
def aB(c:CT):Sxs->AF->Bool
 |.nil,es=>es.isEmpty
 |.cons t r,es=>match es with
  |e::es=>bR c t e&&aB c r es
  |[]=>false
end
def ye{c:CT}{i:Nat}{e:AO}(h:bG c (.nm i) e=true):∃x p,e=.Name x p/\((c.N[i]?==some x)&&c.sto x)=true:=by have h:(aC (asName e) λt=>(c.N[i]?==some t.1)&&c.sto t.1)=true:=h;obtain ⟨t,ht,h⟩:=aY h;exact ⟨_,_,ht,h⟩
def yf{c:CT}{ts:Tgs}{e:AO}(h:bG c (.tp ts) e=true):∃es k p,e=.Tuple es k p/\(cR c ts es)=true:=by have h:(aC (iz e) λt=>cR c ts t.1)=true:=h;obtain ⟨t,ht,h⟩:=aY h;exact ⟨_,_,_,ht,h⟩
def Hi{c:CT}{i:Nat}{e:AO}(h:aa c (.var i) e=true):∃x p,e=.Name x p/\((c.N[i]?==some x)&&jg (c.kd.lookup x)&&okN x)=true:=by have h:(aC (asName e) λt=>(c.N[i]?==some t.1)&&jg (c.kd.lookup t.1)&&okN t.1)=true:=h;obtain ⟨t,ht,h⟩:=aY h;exact ⟨_,_,ht,h⟩
def Hj{c:CT}{d:D}{e:AO}(h:aa c (.cst d) e=true):∃k n p,e=.Constant k n p/\(sU d k)=true:=by have h:(aC (xW e) λt=>sU d t.1)=true:=h;obtain ⟨t,ht,h⟩:=aY h;exact ⟨_,_,_,ht,h⟩
def Hk{c:CT}{x:AL}{d:D}{e:AO}(h:aa c (.glb x d) e=true):∃y p,e=.Name y p/\(y==⇑x&&c.glo y&&c.cn.any (λp=>p.1==x&&sEq p.2 d))=true:=by have h:(aC (asName e) λt=>t.1==⇑x&&c.glo t.1&&c.cn.any (λp=>p.1==x&&sEq p.2 d))=true:=h;obtain ⟨t,ht,h⟩:=aY h;exact ⟨_,_,ht,h⟩
def Hl{c:CT}{op:Operator}{fz:Bool}{a b:Ex}{e:AO}(h:aa c (.bin op fz a b) e=true):∃l o r p,e=.BinOp l o r p/\(o==op&&aa c a l&&aa c b r)=true:=by have h:(aC (Gy e) λt=>t.2.1==op&&aa c a t.1&&aa c b t.2.2.1)=true:=h;obtain ⟨t,ht,h⟩:=aY h;exact ⟨_,_,_,_,ht,h⟩
def Hm{c:CT}{a:Ex}{e:AO}(h:aa c (.neg a) e=true):∃x p,e=.UnaryOp .USub x p/\(aa c a x)=true:=by have h:(aC (jP e) λt=>xY t.1&&aa c a t.2.1)=true:=h;obtain ⟨t,ht,h⟩:=aY h;rw[ae]at h;exact ⟨_,_,by rw[ht,Y9 h.1],h.2⟩
def Hn{c:CT}{a:Ex}{e:AO}(h:aa c (.not a) e=true):∃x p,e=.UnaryOp .Not x p/\(aa c a x)=true:=by have h:(aC (jP e) λt=>lL t.1&&aa c a t.2.1)=true:=h;obtain ⟨t,ht,h⟩:=aY h;rw[ae]at h;exact ⟨_,_,by rw[ht,Hb h.1],h.2⟩
def Ho{c:CT}{op:CmpOp}{a b:Ex}{e:AO}(h:aa c (.cmp op a b) e=true):∃l o r p,e=.Compare l [o] [r] p/\(o==op&&aa c a l&&aa c b r)=true:=by have h:(aC (lJ e) λt=>(one t.2.1).any λo=>(one t.2.2.1).any λr=>o==op&&aa c a t.1&&aa c b r)=true:=h;obtain ⟨t,ht,h⟩:=aY h;obtain ⟨o,ho,h⟩:=aZ h;obtain ⟨r,hr,h⟩:=aZ h;exact ⟨_,_,_,_,by rw[ht,eE ho,eE hr],h⟩
def Hq{c:CT}{op op':CmpOp}{a b d:Ex}{e:AO}(h:aa c (.chn op op' a b d) e=true):∃l o o' m r p,e=.Compare l [o,o'] [m,r] p/\(o==op&&o'==op'&&aa c a l&&aa c b m&&aa c d r)=true:=by have h:(aC (lJ e) λt=>(two t.2.1).any λo=>(two t.2.2.1).any λr=>o.1==op&&o.2==op'&&aa c a t.1&&aa c b r.1&&aa c d r.2)=true:=h;obtain ⟨t,ht,h⟩:=aY h;obtain ⟨o,ho,h⟩:=aZ h;obtain ⟨r,hr,h⟩:=aZ h;exact ⟨_,_,_,_,_,_,by rw[ht,lK ho,lK hr],h⟩
def Hr{c:CT}{isAnd:Bool}{x:Ex}{es:Exs}{e:AO}(h:aa c (.boo isAnd x es) e=true):∃op v vs p,e=.BoolOp op (v::vs) p/\(op==(if isAnd then .And else .Or)&&aa c x v&&aN c es vs)=true:=by have h:(aC (sW e) λt=>(hdT t.2.1).any λv=>t.1==(if isAnd then .And else .Or)&&aa c x v.1&&aN c es v.2)=true:=h;obtain ⟨t,ht,h⟩:=aY h;obtain ⟨v,hv,h⟩:=aZ h;exact ⟨_,_,_,_,by rw[ht,Ha hv],h⟩
def Hs{c:CT}{t:Tx}{a b:Ex}{e:AO}(h:aa c (.ife t a b) e=true):∃t' a' b' p,e=.IfExp t' a' b' p/\(bK c t t'&&aa c a a'&&aa c b b')=true:=by have h:(aC (Gz e) λu=>bK c t u.1&&aa c a u.2.1&&aa c b u.2.2.1)=true:=h;obtain ⟨u,ht,h⟩:=aY h;exact ⟨_,_,_,_,ht,h⟩
def Ht{c:CT}{es:Exs}{e:AO}(h:aa c (.tup es) e=true):∃vs k p,e=.Tuple vs k p/\(aN c es vs)=true:=by have h:(aC (iz e) λt=>aN c es t.1)=true:=h;obtain ⟨t,ht,h⟩:=aY h;exact ⟨_,_,_,ht,h⟩
def Hu{c:CT}{fz:Bool}{es:Exs}{e:AO}(h:aa c (.lst fz es) e=true):∃vs p,e=.List vs p/\(aN c es vs)=true:=by have h:(aC (asList e) λt=>aN c es t.1)=true:=h;obtain ⟨t,ht,h⟩:=aY h;exact ⟨_,_,ht,h⟩
def Hv{c:CT}{a i:Ex}{e:AO}(h:aa c (.idx a i) e=true):∃v s p,e=.Subscript v s p/\(aa c a v&&aa c i s)=true:=by have h:(aC (jQ e) λt=>aa c a t.1&&aa c i t.2.1)=true:=h;obtain ⟨t,ht,h⟩:=aY h;exact ⟨_,_,_,ht,h⟩
def Hw{c:CT}{fz:Bool}{a:Ex}{lo hi:Ox}{e:AO}(h:aa c (.slc fz a lo hi) e=true):∃v l u p' p,e=.Subscript v (.Slice l u none p') p/\(aa c a v&&gU c lo l&&gU c hi u)=true:=by have h:(aC (jQ e) λt=>aC (GC t.2.1) λs=>s.2.2.1.isNone&&(aa c a t.1&&gU c lo s.1&&gU c hi s.2.1))=true:=h;obtain ⟨t,ht,h⟩:=aY h;obtain ⟨s,hs,h⟩:=aY h;rw[ae,Option.isNone_iff_eq_none]at h;exact ⟨_,_,_,_,_,by rw[ht,hs,h.1],h.2⟩
def Hx{c:CT}{f:AL}{es:Exs}{e:AO}(h:aa c (.call f es) e=true):∃x p args pos,e=.Call (.Name x p) args [] pos/\(x==⇑f&&c.glo x&&(c.fs.any λp=>p.1==f&&p.2==args.length)&&!args.isEmpty&&aN c es args)=true:=by have h:((bI e).any λt=>t.1==⇑f&&c.glo t.1&&(c.fs.any λp=>p.1==f&&p.2==t.2.2.1.length)&&!t.2.2.1.isEmpty&&aN c es t.2.2.1)=true:=h;obtain ⟨t,ht,h⟩:=aZ h;exact ⟨_,_,_,_,dR ht,h⟩
def Hy{c:CT}{f:Bf}{es:Exs}{e:AO}(h:aa c (.bcl f es) e=true):∃x p args pos,e=.Call (.Name x p) args [] pos/\(x==⇑f.name&&xU f&&c.glo x&&c.bt.contains f.name&&!args.isEmpty&&aN c es args)=true:=by have h:((bI e).any λt=>t.1==⇑f.name&&xU f&&c.glo t.1&&c.bt.contains f.name&&!t.2.2.1.isEmpty&&aN c es t.2.2.1)=true:=h;obtain ⟨t,ht,h⟩:=aZ h;exact ⟨_,_,_,_,dR ht,h⟩
def Hz{c:CT}{fz:Bool}{f:Lf}{es:Exs}{e:AO}(h:aa c (.lcl fz f es) e=true):∃x p args pos,e=.Call (.Name x p) args [] pos/\(x==⇑f.name&&xV f&&c.glo x&&c.bt.contains f.name&&!args.isEmpty&&aN c es args)=true:=by have h:((bI e).any λt=>t.1==⇑f.name&&xV f&&c.glo t.1&&c.bt.contains f.name&&!t.2.2.1.isEmpty&&aN c es t.2.2.1)=true:=h;obtain ⟨t,ht,h⟩:=aZ h;exact ⟨_,_,_,_,dR ht,h⟩
def HB {c:CT} {a:Ex} {t:AL} {e:AO} (h:aa c (.isi a t) e=true):∃x p v y p' pos,e=.Call (.Name x p) [v,.Name y p'] [] pos/\(x==⇑"isinstance"&&c.glo x&&c.bt.contains "isinstance"&&aa c a v&&y==⇑t&&c.glo y&&c.bt.contains t&&gM t)=true:=by have h:((bI e).any λu=>(two u.2.2.1).any λv=>aC (asName v.2) λy=>u.1==⇑"isinstance"&&c.glo u.1&&c.bt.contains "isinstance"&&aa c a v.1&&y.1==⇑t&&c.glo y.1&&c.bt.contains t&&gM t)=true:=h;obtain ⟨u,hu,h⟩:=aZ h;obtain ⟨v,hv,h⟩:=aZ h;obtain ⟨y,hy,h⟩:=aY h;exact ⟨_,_,_,_,_,_,by rw[dR hu,lK hv,hy],h⟩
def HF {c:CT} {fz:Bool} {a:Ex} {e:AO} (h:aa c (.srs fz a) e=true):∃x p x' p' e2 pos' pos,e=.Call (.Name x p) [.Call (.Name x' p') [e2] [] pos'] [] pos/\(x==⇑"sorted"&&c.glo x&&c.bt.contains "sorted"&&x'==⇑"set"&&c.glo x'&&c.bt.contains "set"&&aa c a e2)=true:=by have h:((bI e).any λt=>(one t.2.2.1).any λe1=>(bI e1).any λu=>(one u.2.2.1).any λe2=>t.1==⇑"sorted"&&c.glo t.1&&c.bt.contains "sorted"&&u.1==⇑"set"&&c.glo u.1&&c.bt.contains "set"&&aa c a e2)=true:=h;obtain ⟨t,ht,h⟩:=aZ h;obtain ⟨e1,he1,h⟩:=aZ h;obtain ⟨u,hu,h⟩:=aZ h;obtain ⟨e2,he2,h⟩:=aZ h;exact ⟨_,_,_,_,_,_,_,by rw[dR ht,eE he1,dR hu,eE he2],h⟩
def HH{c:CT}{m:Mf}{o:Ex}{es:Exs}{e:AO}(h:aa c (.mth m o es) e=true):∃v x apos args cpos,e=.Call (.Attribute v x apos) args [] cpos/\(x==⇑m.name&&aa c o v&&!sV v&&(apos.endLine==cpos.line)&&decide (args.length < 29)&&!args.isEmpty&&aN c es args)=true:=by have h:(aC (sX e) λt=>aC (GD t.1) λv=>t.2.2.1.isEmpty&&(v.2.1==⇑m.name&&aa c o v.1&&!sV v.1&&(v.2.2.endLine==t.2.2.2.line)&&decide (t.2.1.length < 29)&&!t.2.1.isEmpty&&aN c es t.2.1))=true:=h;obtain ⟨t,ht,h⟩:=aY h;obtain ⟨v,hv,h⟩:=aY h;rw[ae,io]at h;exact ⟨_,_,_,_,_,by rw[ht,hv,h.1],h.2⟩
def HJ{c:CT}{fz:Bool}{elt:Ex}{tg:Tg}{it:It'}{cond:Tx}{N:List AL}{cap:List (Option Nat)}{e:AO}(h:aa c (.comp fz elt tg it cond N cap) e=true):∃elt' tg' iter ifs as scope pos,e=.ListComp elt' [⟨tg',iter,ifs,as⟩] scope pos/\(decide (as=0)&&bj c it tg' iter&&fL c.N scope (N.map Str.ofString) cap&&gR c scope&&dz (N.map Str.ofString)&&bG (c.comp (N.map Str.ofString) scope) tg tg'&&lN (c.comp (N.map Str.ofString) scope) cond ifs&&aa (c.comp (N.map Str.ofString) scope) elt elt')=true:=by have h:(aC (sY e) λt=>(one t.2.1).any λg=>decide (g.is_async=0)&&bj c it g.target g.iter&&fL c.N t.2.2.1 (N.map Str.ofString) cap&&gR c t.2.2.1&&dz (N.map Str.ofString)&&bG (c.comp (N.map Str.ofString) t.2.2.1) tg g.target&&((xZ cond&&g.ifs.isEmpty)||(one g.ifs).any λf=>bK (c.comp (N.map Str.ofString) t.2.2.1) cond f)&&aa (c.comp (N.map Str.ofString) t.2.2.1) elt t.1)=true:=h;obtain ⟨t,ht,h⟩:=aY h;obtain ⟨⟨tg',iter,ifs,as⟩,hg,h⟩:=aZ h;exact ⟨t.1,tg',iter,ifs,as,t.2.2.1,t.2.2.2,(ht).trans (by rw[eE hg]),h⟩
def yg{c:CT}{elt:Ex}{t1 t2 t3:Tg}{i1 i2 i3:It'}{N:List AL}{cap:List (Option Nat)}{e:AO}(h:aa c (.cm3 elt t1 i1 t2 i2 t3 i3 N cap) e=true):∃elt' a1 b1 a2 b2 a3 b3 scope pos,e=.ListComp elt' [⟨a1,b1,[],0⟩,⟨a2,b2,[],0⟩,⟨a3,b3,[],0⟩] scope pos/\
  (bj c i1 a1 b1=true/\fL c.N scope (N.map Str.ofString) cap=true/\gR c scope=true/\dz (N.map Str.ofString)=true/\bG (c.comp (N.map Str.ofString) scope) t1 a1=true/\bj (c.comp (N.map Str.ofString) scope) i2 a2 b2=true/\bG (c.comp (N.map Str.ofString) scope) t2 a2=true/\bj (c.comp (N.map Str.ofString) scope) i3 a3 b3=true/\bG (c.comp (N.map Str.ofString) scope) t3 a3=true/\aa (c.comp (N.map Str.ofString) scope) elt elt'=true):=by
 have h:(aC (sY e) λt=>(three t.2.1).any λg=>decide (g.1.is_async=0)&&decide (g.2.1.is_async=0)&&decide (g.2.2.is_async=0)&&g.1.ifs.isEmpty&&g.2.1.ifs.isEmpty&&g.2.2.ifs.isEmpty&&bj c i1 g.1.target g.1.iter&&fL c.N t.2.2.1 (N.map Str.ofString) cap&&gR c t.2.2.1&&dz (N.map Str.ofString)&&bG (c.comp (N.map Str.ofString) t.2.2.1) t1 g.1.target&&bj (c.comp (N.map Str.ofString) t.2.2.1) i2 g.2.1.target g.2.1.iter&&bG (c.comp (N.map Str.ofString) t.2.2.1) t2 g.2.1.target&&bj (c.comp (N.map Str.ofString) t.2.2.1) i3 g.2.2.target g.2.2.iter&&bG (c.comp (N.map Str.ofString) t.2.2.1) t3 g.2.2.target&&aa (c.comp (N.map Str.ofString) t.2.2.1) elt t.1)=true:=h;obtain ⟨t,ht,h⟩:=aY h;obtain ⟨⟨⟨a1,b1,f1,z1⟩,⟨a2,b2,f2,z2⟩,⟨a3,b3,f3,z3⟩⟩,hg,h⟩:=aZ h;simp only[ae,cf,io,and_assoc]at h;obtain ⟨rfl,rfl,rfl,rfl,rfl,rfl,h⟩:=h;exact ⟨t.1,a1,b1,a2,b2,a3,b3,t.2.2.1,t.2.2.2,(ht).trans (by rw[G8 hg]),h⟩
def Zc{c:CT}{t:Tx}{e:AO}(h:bK c (.not t) e=true):∃x p,e=.UnaryOp .Not x p/\(bK c t x)=true:=by have h:(aC (jP e) λu=>lL u.1&&bK c t u.2.1)=true:=h;obtain ⟨u,ht,h⟩:=aY h;rw[ae]at h;exact ⟨_,_,by rw[ht,Hb h.1],h.2⟩
def Zd{c:CT}{isAnd:Bool}{x:Tx}{es:Txs}{e:AO}(h:bK c (.boo isAnd x es) e=true):∃op v vs p,e=.BoolOp op (v::vs) p/\(op==(if isAnd then .And else .Or)&&bK c x v&&jj c es vs)=true:=by have h:(aC (sW e) λu=>(hdT u.2.1).any λv=>u.1==(if isAnd then .And else .Or)&&bK c x v.1&&jj c es v.2)=true:=h;obtain ⟨t,ht,h⟩:=aY h;obtain ⟨v,hv,h⟩:=aZ h;exact ⟨_,_,_,_,by rw[ht,Ha hv],h⟩
def HN {c:CT} {a:Ex} {tg e:AO} (h:bj c (.rng a) tg e=true):∃x p v pos,e=.Call (.Name x p) [v] [] pos/\(x==⇑"range"&&c.glo x&&c.bt.contains "range"&&aa c a v)=true:=by have h:((bI e).any λt=>(one t.2.2.1).any λv=>t.1==⇑"range"&&c.glo t.1&&c.bt.contains "range"&&aa c a v)=true:=h;obtain ⟨t,ht,h⟩:=aZ h;obtain ⟨v,hv,h⟩:=aZ h;exact ⟨_,_,_,_,by rw[dR ht,eE hv],h⟩
def HQ {c:CT} {a:Ex} {tg e:AO} (h:bj c (.rev a) tg e=true):∃x p y q v pos pos',e=.Call (.Name x p) [.Call (.Name y q) [v] [] pos] [] pos'/\(x==⇑"reversed"&&c.glo x&&c.bt.contains "reversed"&&y==⇑"range"&&c.glo y&&c.bt.contains "range"&&aa c a v)=true:=by have h:((bI e).any λt=>(one t.2.2.1).any λv=>(bI v).any λt'=>(one t'.2.2.1).any λv'=>t.1==⇑"reversed"&&c.glo t.1&&c.bt.contains "reversed"&&t'.1==⇑"range"&&c.glo t'.1&&c.bt.contains "range"&&aa c a v')=true:=h;obtain ⟨t,ht,h⟩:=aZ h;obtain ⟨v,hv,h⟩:=aZ h;obtain ⟨t',ht',h⟩:=aZ h;obtain ⟨v',hv',h⟩:=aZ h;exact ⟨_,_,_,_,_,_,_,by rw[dR ht,eE hv,dR ht',eE hv'],h⟩
def HR {c:CT} {a b d:Ex} {tg e:AO} (h:bj c (.dwn a b d) tg e=true):∃x p v v' v'' pos,e=.Call (.Name x p) [v,v',v''] [] pos/\(x==⇑"range"&&c.glo x&&c.bt.contains "range"&&aa c a v&&aa c b v'&&aa c d v'')=true:=by have h:((bI e).any λt=>(three t.2.2.1).any λv=>t.1==⇑"range"&&c.glo t.1&&c.bt.contains "range"&&aa c a v.1&&aa c b v.2.1&&aa c d v.2.2)=true:=h;obtain ⟨t,ht,h⟩:=aZ h;obtain ⟨v,hv,h⟩:=aZ h;exact ⟨_,_,_,_,_,_,by rw[dR ht,G8 hv],h⟩
def HS {c:CT} {a b:Ex} {tg e:AO} (h:bj c (.rng2 a b) tg e=true):∃x p v v' pos,e=.Call (.Name x p) [v,v'] [] pos/\(x==⇑"range"&&c.glo x&&c.bt.contains "range"&&aa c a v&&aa c b v')=true:=by have h:((bI e).any λt=>(two t.2.2.1).any λv=>t.1==⇑"range"&&c.glo t.1&&c.bt.contains "range"&&aa c a v.1&&aa c b v.2)=true:=h;obtain ⟨t,ht,h⟩:=aZ h;obtain ⟨v,hv,h⟩:=aZ h;exact ⟨_,_,_,_,_,by rw[dR ht,lK hv],h⟩
def HW {c:CT} {a:Ex} {tg e:AO} (h:bj c (.enm a) tg e=true):∃ts k p0 x p v pos,tg=.Tuple ts k p0/\e=.Call (.Name x p) [v] [] pos/\(x==⇑"enumerate"&&c.glo x&&c.bt.contains "enumerate"&&aa c a v)=true:=by have h:(aC (iz tg) λ_=>(bI e).any λt=>(one t.2.2.1).any λv=>t.1==⇑"enumerate"&&c.glo t.1&&c.bt.contains "enumerate"&&aa c a v)=true:=h;obtain ⟨g,hg,h⟩:=aY h;obtain ⟨t,ht,h⟩:=aZ h;obtain ⟨v,hv,h⟩:=aZ h;exact ⟨_,_,_,_,_,_,_,hg,by rw[dR ht,eE hv],h⟩
def HX {c:CT} {a b:Ex} {tg e:AO} (h:bj c (.zip a b) tg e=true):∃ts k p0 x p v v' pos,tg=.Tuple ts k p0/\e=.Call (.Name x p) [v,v'] [] pos/\(x==⇑"zip"&&c.glo x&&c.bt.contains "zip"&&aa c a v&&aa c b v')=true:=by have h:(aC (iz tg) λ_=>(bI e).any λt=>(two t.2.2.1).any λv=>t.1==⇑"zip"&&c.glo t.1&&c.bt.contains "zip"&&aa c a v.1&&aa c b v.2)=true:=h;obtain ⟨g,hg,h⟩:=aY h;obtain ⟨t,ht,h⟩:=aZ h;obtain ⟨v,hv,h⟩:=aZ h;exact ⟨_,_,_,_,_,_,_,_,hg,by rw[dR ht,lK hv],h⟩
def Ze{c:CT}{x:Ex}{st:Stmt}(h:bR c (.exp x) st=true):∃e pos,st=.Expr e pos/\(!dO e&&aa c x e)=true:=by have h:(aC (GF st) λt=>!dO t.1&&aa c x t.1)=true:=h;obtain ⟨t,ht,h⟩:=aY h;exact ⟨_,_,ht,h⟩
def HY{c:CT}{g:Tg}{x:Ex}{st:Stmt}(h:bR c (.asg g x) st=true):∃tg e pos,st=.Assign [tg] e pos/\(bG c g tg&&aa c x e&&yc g x e)=true:=by have h:(aC (sZ st) λt=>(one t.1).any λtg=>bG c g tg&&aa c x t.2.1&&yc g x t.2.1)=true:=h;obtain ⟨t,ht,h⟩:=aY h;obtain ⟨g,hg,h⟩:=aZ h;exact ⟨_,_,_,by rw[ht,eE hg],h⟩
def Zf{c:CT}{o i x:Ex}{st:Stmt}(h:bR c (.set o i x) st=true):∃o' i' tpos e pos,st=.Assign [.Subscript o' i' tpos] e pos/\(aa c o o'&&aa c i i'&&aa c x e&&!dO e)=true:=by have h:(aC (sZ st) λt=>(one t.1).any λtg=>aC (jQ tg) λu=>aa c o u.1&&aa c i u.2.1&&aa c x t.2.1&&!dO t.2.1)=true:=h;obtain ⟨t,ht,h⟩:=aY h;obtain ⟨g,hg,h⟩:=aZ h;obtain ⟨u,hu,h⟩:=aY h;exact ⟨_,_,_,_,_,by rw[ht,eE hg,hu],h⟩
def Zg{c:CT}{i:Nat}{op:Operator}{x:Ex}{st:Stmt}(h:bR c (.aug i op x) st=true):∃y py o e pos,st=.AugAssign (.Name y py) o e pos/\(o==op&&(c.N[i]?==some y)&&c.sto y&&okN y&&aa c x e)=true:=by have h:(aC (GJ st) λt=>aC (asName t.1) λy=>t.2.1==op&&(c.N[i]?==some y.1)&&c.sto y.1&&okN y.1&&aa c x t.2.2.1)=true:=h;obtain ⟨t,ht,h⟩:=aY h;obtain ⟨u,hu,h⟩:=aY h;exact ⟨_,_,_,_,_,by rw[ht,hu],h⟩
def Zh{c:CT}{x:Ex}{st:Stmt}(h:bR c (.ret x) st=true):∃e pos,st=.Return (some e) pos/\(aa c x e)=true:=by have h:(aC (tu st) λt=>t.1.any λe=>aa c x e)=true:=h;obtain ⟨t,ht,h⟩:=aY h;obtain ⟨e,he,h⟩:=aZ h;exact ⟨_,_,by rw[ht,he],h⟩
def Zi{c:CT}{st:Stmt}(h:bR c .rtn st=true):∃pos,st=.Return none pos/\(true)=true:=by have h:(aC (tu st) λt=>t.1.isNone)=true:=h;obtain ⟨t,ht,h⟩:=aY h;rw[Option.isNone_iff_eq_none]at h;exact ⟨_,by rw[ht,h],rfl⟩
def Zj{c:CT}{t:Tx}{a b:Sxs}{st:Stmt}(h:bR c (.ite t a b) st=true):∃t' a' b' pos,st=.If t' a' b' pos/\(bK c t t'&&aB c a a'&&aB c b b')=true:=by have h:(aC (GK st) λu=>bK c t u.1&&aB c a u.2.1&&aB c b u.2.2.1)=true:=h;obtain ⟨u,ht,h⟩:=aY h;exact ⟨_,_,_,_,ht,h⟩
def Zk{c:CT}{g:Tg}{it:It'}{b:Sxs}{st:Stmt}(h:bR c (.for_ g it b) st=true):∃tg iter body pos,st=.For tg iter body [] pos/\(bG c g tg&&bj c it tg iter&&aB c b body)=true:=by have h:(aC (GP st) λt=>t.2.2.2.1.isEmpty&&(bG c g t.1&&bj c it t.1 t.2.1&&aB c b t.2.2.1))=true:=h;obtain ⟨t,ht,h⟩:=aY h;rw[ae,io]at h;exact ⟨_,_,_,_,by rw[ht,h.1],h.2⟩
def Zm{c:CT}{t:Tx}{b:Sxs}{st:Stmt}(h:bR c (.whl t b) st=true):∃t' body pos,st=.While t' body [] pos/\(bK c t t'&&aB c b body)=true:=by have h:(aC (GQ st) λu=>u.2.2.1.isEmpty&&(bK c t u.1&&aB c b u.2.1))=true:=h;obtain ⟨u,ht,h⟩:=aY h;rw[ae,io]at h;exact ⟨_,_,_,by rw[ht,h.1],h.2⟩
def Zn{c:CT}{st:Stmt}(h:bR c .pas st=true):∃pos,st=.Pass pos/\(true)=true:=by obtain ⟨⟨t,ht⟩,_⟩:=dv.mp (show (GR st).isSome=true from h);exact ⟨t,ht,rfl⟩
def Zo{c:CT}{st:Stmt}(h:bR c .brk st=true):∃pos,st=.Break pos/\(true)=true:=by obtain ⟨⟨t,ht⟩,_⟩:=dv.mp (show (GX st).isSome=true from h);exact ⟨t,ht,rfl⟩
def Zq{c:CT}{st:Stmt}(h:bR c .cnt st=true):∃pos,st=.Continue pos/\(true)=true:=by obtain ⟨⟨t,ht⟩,_⟩:=dv.mp (show (GZ st).isSome=true from h);exact ⟨t,ht,rfl⟩
def lO:AO->Bool
 |.Starred ..=>false
 |.Set ..=>false
 |.Slice ..=>false
 |_=>true
def bM{c:CT}:∀(x:Ex){e:AO},aa c x e=true->lO e=true
 |.frz a,e,h=>bM a (show aa c a e=true from h)
 |.var _,e,h=>by obtain ⟨_,_,rfl,_⟩:=Hi h;rfl
 |.cst _,e,h=>by obtain ⟨_,_,_,rfl,_⟩:=Hj h;rfl
 |.glb _ _,e,h=>by obtain ⟨_,_,rfl,_⟩:=Hk h;rfl
 |.bin _ _ _ _,e,h=>by obtain ⟨_,_,_,_,rfl,_⟩:=Hl h;rfl
 |.neg _,e,h=>by obtain ⟨_,_,rfl,_⟩:=Hm h;rfl
 |.cmp _ _ _,e,h=>by obtain ⟨_,_,_,_,rfl,_⟩:=Ho h;rfl
 |.chn _ _ _ _ _,e,h=>by obtain ⟨_,_,_,_,_,_,rfl,_⟩:=Hq h;rfl
 |.not _,e,h=>by obtain ⟨_,_,rfl,_⟩:=Hn h;rfl
 |.boo _ _ _,e,h=>by obtain ⟨_,_,_,_,rfl,_⟩:=Hr h;rfl
 |.ife _ _ _,e,h=>by obtain ⟨_,_,_,_,rfl,_⟩:=Hs h;rfl
 |.tup _,e,h=>by obtain ⟨_,_,_,rfl,_⟩:=Ht h;rfl
 |.lst _ _,e,h=>by obtain ⟨_,_,rfl,_⟩:=Hu h;rfl
 |.idx _ _,e,h=>by obtain ⟨_,_,_,rfl,_⟩:=Hv h;rfl
 |.slc _ _ _ _,e,h=>by obtain ⟨_,_,_,_,_,rfl,_⟩:=Hw h;rfl
 |.call _ _,e,h=>by obtain ⟨_,_,_,_,rfl,_⟩:=Hx h;rfl
 |.bcl _ _,e,h=>by obtain ⟨_,_,_,_,rfl,_⟩:=Hy h;rfl
 |.lcl _ _ _,e,h=>by obtain ⟨_,_,_,_,rfl,_⟩:=Hz h;rfl
 |.isi _ _,e,h=>by obtain ⟨_,_,_,_,_,_,rfl,_⟩:=HB h;rfl
 |.srs _ _,e,h=>by obtain ⟨_,_,_,_,_,_,_,rfl,_⟩:=HF h;rfl
 |.mth _ _ _,e,h=>by obtain ⟨_,_,_,_,_,rfl,_⟩:=HH h;rfl
 |.comp _ _ _ _ _ _ _,e,h=>by obtain ⟨_,_,_,_,_,_,_,rfl,_⟩:=HJ h;rfl
 |.cm3 _ _ _ _ _ _ _ _ _,e,h=>by obtain ⟨_,_,_,_,_,_,_,_,_,rfl,_⟩:=yg h;rfl
def cM{e:AO}(h:lO e=true):noStar e=true:=by cases e <;> first |rfl |exact nZf h
def H9{e:AO}(h:lO e=true)(op:CmpOp):behindInMarks op e=false:=by cases e <;> first |rfl |exact nZf h
def Zr{e:AO}(h:lO e=true)(env:Env)(x:AN):foldedSetIterable e env x=pure x:=by cases e <;> first |rfl |exact nZf h
def Zt{e:AO}(h:lO e=true):Cw e:=by intro o i;cases e <;> first |rfl |exact nZf h
def Zu{e:AO}(h:ji e=true)(env:Env)(whole:Sem AN):isTrue e env whole=(do let v <-whole;standAt e.pos;holding [v] (truthy v)):=by
 cases e with
 |UnaryOp op x p=>cases op <;> first |rfl |exact nZf h
 |_=>first |rfl |exact nZf h
set_option backward.match.sparseCases true
def XV(K:PF)(H:Hp)(F:FZ)(x:Xn)(cv:AN)(od:Option AQ):Prop:=
 ∃C,cv=.ref C/\PySem.W.nsIn K mainGlobals (⇑x.cls)=some (some (.ref C))/\
  match x.fld with
  |.non=>True
  |d=>∃a f v,od=some a/\H a=some (.xd [(f,v)])/\Rep K H F d v
def XR(K:PF)(H:Hp)(F:FZ)(x:Xn)(EX:XK):Prop:=∀cv od,XV K H F x cv od->EX cv od H
def PX(K:PF)(H:Hp)(F:FZ)(EX:XK):EK:=λx G'=>∀H' F',Ext H F H' F'->R K H' F' G'->XR K H' F' x EX
def el{α β γ:Type}{p q r s:α->β->γ->Prop}{C:Prop}(h:∃x y z,p x y z/\q x y z/\r x y z/\s x y z)(k:∀x y z,p x y z->q x y z->r x y z->s x y z->C):C:=by obtain ⟨x,y,z,h1,h2,h3,h4⟩:=h;exact k x y z h1 h2 h3 h4
def lift(K:PF)(n:Nat)(S:RF.Spec):Sp:=λvs H Q EX=>vs.length=n/\∃F G ds,R K H F G/\Reps K H F ds vs/\S.t ds G (PV K H F Q) (PX K H F EX)
def CV(K:PF)(mg:AH)(C':AL)(cv:V):Prop:=
 (∃a,cv=.ref a/\mg (⇑C')=some (.ref a)/\Dp K a=true)\/(C'="ValueError"/\cv=.ty "ValueError"/\mg (⇑C')=none)
def XI(K:PF)(C C':AL)(cv:V):Prop:=
 ∃c,PySem.W.nsIn K mainGlobals (⇑C)=some (some (.ref c))/\vA K c=true/\PySem.W.mroIn K c (valOf cv)=some (iy C C')/\(iy C C'=false->(Value.ref c==valOf cv)=false)
structure Bs where
 H:Hp
 F:FZ
def Ia(K:PF)(C f:AL):Prop:=∃c,PySem.W.nsIn K mainGlobals (⇑C)=some (some (.ref c))/\Cls K c/\Up K c (⇑f)
def MthOk(Z:aj)(P:AK)(w:World)(K:PF)(mg:AH)(base:Heap)(CX:CXT)(k:Nat)(f C m:AL)(n:Nat):Prop:=
 ∃c fa fd ps,PySem.W.nsIn K mainGlobals (⇑C)=some (some (.ref c))/\Cls K c/\Meth K c (⇑m) fa/\Binds K fd ps []/\FnOk P w K mg base CX k fa fd ps (lift K n (Z f))
def MkoOk(Z:aj)(P:AK)(w:World)(K:PF)(mg:AH)(base:Heap)(CX:CXT)(k:Nat)(C:AL)(n:Nat):Prop:=
 ∃c fa fd ps sp j,j+1<=k/\mg (⇑C)=some (.ref c)/\Mk K c fa/\Binds K fd ps []/\FnOk P w K mg base CX j fa fd ps sp/\
  ∀vs H Q E,lift K n (Z C) vs H Q E->∀x dx,H x=none->H dx=none->dx≠x->sp (.ref x::vs) (upd (upd H dx (.own x)) x (.ins c dx [])) (λv H2=>v=.non/\Q (.ref x) H2) E
def Zv(K:PF)(c:AQ)(f:AL):Sp:=λvs H Q _=>∃a b l d F G,vs=[.ref a,b]/\H a=some (.ext (DK a c l none))/\¬F a/\R K H F G/\Rep K H F d b/\okA d/\
 ∀H2 F2 dx od ob l',Ext H F H2 F2->R K H2 F2 G->H2 a=some (.ext (DK a c l' none))->H2 dx=none->dx≠a->ob.cls=.ref c->ob.dict=some dx->PySem.W.notCls ob=true->Q .non (upd (upd H2 a (.frz ob (.own a))) dx (.frz od (.xd [(⇑f,b)])))
def Zw(P:AK)(w:World)(K:PF)(mg:AH)(base:Heap)(CX:CXT)(k:Nat)(C f:AL):Prop:=
 ∃c fa fd ps j,j+1<=k/\mg (⇑C)=some (.ref c)/\PySem.W.nsIn K mainGlobals (⇑C)=some (some (.ref c))/\Wx K c fa=true/\PySem.W.typeIn K (.ref fa)=some (.type "function")/\PySem.W.keepIn K (.ref c)=true/\
  (vA K c=true/\PySem.W.hasDictIn K c=true/\PySem.W.findIn K (.ref c) (⇑f)=some none)/\Binds K fd ps []/\FnOk P w K mg base CX j fa fd ps (Zv K c f)
def XkoX(P:AK)(w:World)(K:PF)(mg:AH)(base:Heap)(CX:CXT)(k:Nat)(xs:List (AL×Bool))(C f:AL):Prop:=
 Zw P w K mg base CX k C f/\∀C' cv,xs.contains (C',false)=true->CV K mg C' cv->XI K C C' cv
structure Stat(Z:aj)(CX:CXT)(k:Nat)(c:CT)(E:EK)(B:Bs)(X:Cx):Prop where
 N:X.N=c.N
 nd:X.N.Nodup
 calm:X.calm=true
 own:PassesOwn (model X.prog X.w) X.A X.env X.xe
 kd:X.env.kindOf=λx=>X.env.scope.names.lookup x
 vis:∀x,jg (c.kd.lookup x)=true->Vis X.env.scope x
 cel:∀x,(c.kd.lookup x=some .cell\/c.kd.lookup x=some .free)->(X.env.kindOf x=some .cell\/X.env.kindOf x=some .free)
 glo:∀x,c.kd.lookup x=some .globalImplicit->Gl X x
 sto:∀x,c.sto x=true->Loc X.env.scope x/\(X.fn x=true\/X.env.scope.names.lookup x=some .local)
 room:Room k X.A
 call:∀f n,(f,n)∈c.fs->∃fa fd ps,FnOk X.prog X.w X.K X.mg X.base CX k fa fd ps (lift X.K n (Z f))/\PySem.W.keepIn X.K (.ref fa)=true/\Binds X.K fd ps []/\X.mg (⇑f)=some (.ref fa)
 blt:∀f,f∈c.bt->X.mg (⇑f)=none
 con:∀x d,(x,d)∈c.cn->∃u v,X.mg (⇑x)=some u/\RelV v u/\∀H F,Rep X.K H F d v
 exc:∃EX,kJ CX X EX/\Throws X EX/\∀x G' H' F',E x G'->Ext B.H B.F H' F'->R X.K H' F' G'->XR X.K H' F' x EX
 nox:∀(Y:Cx),kJ CX Y λ_ _ _=>False
 xcl:∀C,c.xs.contains (C,true)=true->∃a,X.mg (⇑C)=some (.ref a)/\qZ X.K a=true/\PySem.W.nsIn X.K mainGlobals (⇑C)=some (some (.ref a))
 loc:∀x,c.kd.lookup x=some .local->X.env.scope.names.lookup x=some .local
 xis:∀C',c.xs.contains (C',false)=true->∃cv,CV X.K X.mg C' cv/\∀C,c.xs.contains (C,true)=true->XI X.K C C' cv
 mth:∀f C m n,(f,C,m,n)∈c.ot.ms->MthOk Z X.prog X.w X.K X.mg X.base CX k f C m n
 mko:∀C n,(C,n)∈c.ot.ks->MkoOk Z X.prog X.w X.K X.mg X.base CX k C n
 fld:∀C f,(C,f)∈c.ot.fl->Ia X.K C f
 xko:∀C f,(C,f)∈c.ot.xk->XkoX X.prog X.w X.K X.mg X.base CX k c.xs C f
 trc:c.xs≠[]->CX=CX1 X.prog X.w/\X.stack=X.env::X.outer/\X.ex=[]
def tE(K:PF)(B:Bs)(w:aq->DH->(AT)->Prop):TE:=λX H Q=>∃Y F G,Ext B.H B.F H F/\EnvR K H F Y X/\R K H F G/\w Y G (PV K H F Q)
def tB'(K:PF)(B:Bs)(w:aq->DH->(Bool->DH->Prop)->Prop):TT:=λX H Q=>∃Y F G,Ext B.H B.F H F/\EnvR K H F Y X/\R K H F G/\w Y G (PB K H F Q)
def tL(K:PF)(B:Bs)(w:aq->DH->(AS->DH->Prop)->Prop):TA:=λX H Q=>∃Y F G,Ext B.H B.F H F/\EnvR K H F Y X/\R K H F G/\w Y G (PLs K H F Q)
def POp(K:PF)(H:Hp)(F:FZ)(Q:Option Int->Hp->Prop):Option Int->DH->Prop:=λb G'=>∀H' F',Ext H F H' F'->R K H' F' G'->Q b H'
def Ib(K:PF)(B:Bs)(w:aq->DH->(Option Int->DH->Prop)->Prop):TO:=λX H Q=>∃Y F G,Ext B.H B.F H F/\EnvR K H F Y X/\R K H F G/\w Y G (POp K H F Q)
def peI{X:Cx}{e:AO}{t t':TE}(h:PE X e t)(i:∀Y H Q,t' Y H Q->t Y H Q):PE X e t':=λp9 s Y H Q I q=>h p9 s Y H Q I (i Y H Q q)
def ptI{X:Cx}{e:AO}{t t':TT}(h:PT X e t)(i:∀Y H Q,t' Y H Q->t Y H Q):PT X e t':=λp9 s Y H Q I q=>h p9 s Y H Q I (i Y H Q q)
def pwI{X:Cx}{e:AO}{t t':TT}(h:PW X e t)(i:∀Y H Q,t' Y H Q->t Y H Q):PW X e t':=λwh p9 s Y H Q I q=>h wh p9 s Y H Q I (i Y H Q q)
def paI{X:Cx}{e:AE}{t t':TA}(h:PA X e t)(i:∀Y H Q,t' Y H Q->t Y H Q):PA X e t':=λpos p9 s Y H Q I q=>h pos p9 s Y H Q I (i Y H Q q)
section
variable {Z:aj} {CX:CXT} {k:Nat} {c:CT} {E:EK} {B:Bs} {X:Cx}
theorem aO{K:PF}{x:Ex}{X:L2.St}{H:Hp}{F:FZ}{G:DH}{Y:aq}{W:AT}{Q:VK}(e0:Ext B.H B.F H F)(he:EnvR K H F Y X)(r:R K H F G)(hw:wpE Z x E Y G W)
  (h:∀d G1 H1 F1 v,W d G1->Ext B.H B.F H1 F1->Ext H F H1 F1->EnvR K H1 F1 Y X->R K H1 F1 G1->Rep K H1 F1 d v->Q v H1):tE K B (wpE Z x E) X H Q:=
 ⟨Y,F,G,e0,he,r,aK x (λd G1 q H1 F1 v x1 r1 rv=>h d G1 H1 F1 v q (e0.trans x1) x1 (he.ext x1) r1 rv) hw⟩
theorem fM{K:PF}{x:Exs}{X:L2.St}{H:Hp}{F:FZ}{G:DH}{Y:aq}{W:AS->DH->Prop}{Q:AR->Hp->Prop}(e0:Ext B.H B.F H F)(he:EnvR K H F Y X)(r:R K H F G)(hw:bF Z x E Y G W)
  (h:∀d G1 H1 F1 v,W d G1->Ext B.H B.F H1 F1->Ext H F H1 F1->EnvR K H1 F1 Y X->R K H1 F1 G1->Reps K H1 F1 d v->Q v H1):tL K B (bF Z x E) X H Q:=
 ⟨Y,F,G,e0,he,r,gQ x (λd G1 q H1 F1 v x1 r1 rv=>h d G1 H1 F1 v q (e0.trans x1) x1 (he.ext x1) r1 rv) hw⟩
theorem jk{K:PF}{x:Tx}{X:L2.St}{H:Hp}{F:FZ}{G:DH}{Y:aq}{W:Bool->DH->Prop}{Q:Bool->Hp->Prop}(e0:Ext B.H B.F H F)(he:EnvR K H F Y X)(r:R K H F G)(hw:wpT Z x E Y G W)
  (h:∀d G1 H1 F1,W d G1->Ext B.H B.F H1 F1->Ext H F H1 F1->EnvR K H1 F1 Y X->R K H1 F1 G1->Q d H1):tB' K B (wpT Z x E) X H Q:=
 ⟨Y,F,G,e0,he,r,dw x (λd G1 q H1 F1 x1 r1=>h d G1 H1 F1 q (e0.trans x1) x1 (he.ext x1) r1) hw⟩
theorem Ie{K:PF}{x:Ox}{X:L2.St}{H:Hp}{F:FZ}{G:DH}{Y:aq}{W:Option Int->DH->Prop}{Q:Option Int->Hp->Prop}(e0:Ext B.H B.F H F)(he:EnvR K H F Y X)(r:R K H F G)(hw:wpO Z x E Y G W)
  (h:∀d G1 H1 F1,W d G1->Ext B.H B.F H1 F1->Ext H F H1 F1->EnvR K H1 F1 Y X->R K H1 F1 G1->Q d H1):Ib K B (wpO Z x E) X H Q:=
 ⟨Y,F,G,e0,he,r,xH x (λd G1 q H1 F1 x1 r1=>h d G1 H1 F1 q (e0.trans x1) x1 (he.ext x1) r1) hw⟩
theorem PV.later{K:PF}{H H1:Hp}{F F1:FZ}{Q:VK}{d:D}{G:DH}(h:PV K H F Q d G)(x:Ext H F H1 F1):PV K H1 F1 Q d G:=λH' F' v x1=>h H' F' v (x.trans x1)
theorem PB.later{K:PF}{H H1:Hp}{F F1:FZ}{Q:Bool->Hp->Prop}{d:Bool}{G:DH}(h:PB K H F Q d G)(x:Ext H F H1 F1):PB K H1 F1 Q d G:=λH' F' x1=>h H' F' (x.trans x1)
theorem PB.now{K:PF}{H:Hp}{F:FZ}{Q:Bool->Hp->Prop}{d:Bool}{G:DH}(h:PB K H F Q d G)(r:R K H F G):Q d H:=h H F (Ext.refl H F) r
theorem jR(S:Stat Z CX k c E B X):X.A.units+100 < cLine:=by have:=S.room.un;omega
theorem cW {x:Str} (h:okN x=true):(x==("__debug__":Str))=false:=by
 unfold okN at h;cases e:x==("__debug__":Str) with
 |false=>rfl
 |true=>rw[e]at h;simp at h
theorem Zx {x:Str} (h:okN x=true):(x==("__classdict__":Str))=false:=by
 unfold okN at h;cases e:x==("__classdict__":Str) with
 |false=>rfl
 |true=>rw[e]at h;simp at h
theorem dU {x:Str} (h:okN x=true):x≠"__name__":=by unfold okN at h;intro e;rw[bm.mpr e]at h;simp at h
theorem dh{x:Str}(h:c.glo x=true):c.kd.lookup x=some .globalImplicit/\okN x=true:=by unfold CT.glo at h;rw[ae,bm]at h;exact h
theorem Zy(S:Stat Z CX k c E B X){i:Nat}{e:AO}(h:aa c (.var i) e=true):PE X e (tE X.K B (wpE Z (.var i) E)):=by
 replace h:=Hi h;obtain ⟨x,pos,rfl,h⟩:=h
 .rw[ae,ae,bm]at h;refine peI (Bu (i:=i) (by rw[S.N];exact h.1.1) (S.vis x h.1.2) (cW h.2) (Zx h.2)) λW H Q q=>?_;obtain ⟨Y,F,G,_,he,r,hw⟩:=q;rw[wC]at hw;split at hw
  .rename_i d hd;obtain ⟨v,e1,rv⟩:=he.get hd;exact ⟨v,e1,hw.now r rv⟩
  .exact hw.elim
theorem Zz(S:Stat Z CX k c E B X){d:D}{e:AO}(h:aa c (.cst d) e=true):PE X e (tE X.K B (wpE Z (.cst d) E)):=by
 replace h:=Hj h;obtain ⟨kk,_,_,rfl,h⟩:=h
 .unfold sU at h;split at h
  .exact peI RL λW H Q hq=>el hq λY F G _ he r hw=>by rw[jN]at hw;exact hw.now r rfl
  .rw[bm]at h;subst h;exact peI RK λW H Q hq=>el hq λY F G _ he r hw=>by rw[jN]at hw;exact hw.now r rfl
  .rw[bm]at h;subst h;exact peI RJ λW H Q hq=>el hq λY F G _ he r hw=>by rw[jN]at hw;exact hw.now r rfl
  .rename_i l b;rw[ae,bm,cf]at h;refine peI RM λW H Q hq=>el hq λY F G _ he r hw=>?_;rw[jN]at hw;refine hw.now r ⟨?_,h.2⟩;rw[h.1,<-qY]
  .cases h
theorem ZC(S:Stat Z CX k c E B X){x:AL}{d:D}{e:AO}(h:aa c (.glb x d) e=true):PE X e (tE X.K B (wpE Z (.glb x d) E)):=by
 replace h:=Hk h;obtain ⟨y,pos,rfl,h⟩:=h
 .rw[ae,ae,bm,List.any_eq_true]at h;obtain ⟨⟨e1,h1⟩,⟨x',d'⟩,hm,h2⟩:=h;rw[ae,bm]at h2;obtain ⟨e2,e3⟩:=h2;have e3:=Y6 e3;simp only at e2 e3;subst e1 e2 e3;obtain ⟨g1,g2⟩:=dh h1;obtain ⟨u,v,hu,ru,hr⟩:=S.con _ _ hm;exact peI (RN (S.glo _ g1) hu ru (cW g2)) λW H Q hq=>el hq λY F G _ he r hw=>by rw[wD]at hw;exact hw.now r (hr H F)
theorem ZD(S:Stat Z CX k c E B X){op:Operator}{fz:Bool}{a b:Ex}(iha:∀{e},aa c a e=true->PE X e (tE X.K B (wpE Z a E)))(ihb:∀{e},aa c b e=true->PE X e (tE X.K B (wpE Z b E))){e:AO}
  (h:aa c (.bin op fz a b) e=true):PE X e (tE X.K B (wpE Z (.bin op fz a b) E)):=by
 replace h:=Hl h;obtain ⟨l,o,r,pos,rfl,h⟩:=h
 .rw[ae,ae,bm]at h;obtain ⟨⟨e1,h1⟩,h2⟩:=h;subst e1;refine peI (TX (XC _ fz) (iha h1) (ihb h2)) λW H Q hq=>el hq λY F G e0 he r hw=>?_;rw[wF]at hw;refine aO e0 he r hw λx G1 H1 F1 v q e1 x1 he1 r1 rv=>aO e1 he1 r1 q λy G2 H2 F2 u q e2 x2 he2 r2 ru=>?_;exact ⟨F2,G2,x,y,r2,Rep.ext x2 rv,ru,Fq (λd G' z=>PV.later z (x1.trans x2)) q⟩
theorem ZF(S:Stat Z CX k c E B X){a:Ex}(iha:∀{e},aa c a e=true->PE X e (tE X.K B (wpE Z a E))){e:AO}(h:aa c (.neg a) e=true):PE X e (tE X.K B (wpE Z (.neg a) E)):=by
 replace h:=Hm h;obtain ⟨_,_,rfl,h⟩:=h
 .refine peI (TY Ua (iha h)) λW H Q hq=>el hq λY F G e0 he r hw=>?_;rw[wG]at hw;refine aO e0 he r hw λx G1 H1 F1 v q e1 x1 he1 r1 rv=>?_;split at q
  .have e2:v=.int _:=rv;subst e2;exact ⟨_,rfl,q _ _ _ x1 r1 rfl⟩
  .exact q.elim
theorem Ig(S:Stat Z CX k c E B X){op:CmpOp}{a b:Ex}(iha:∀{e},aa c a e=true->PE X e (tE X.K B (wpE Z a E)))(ihb:∀{e},aa c b e=true->PE X e (tE X.K B (wpE Z b E))){e:AO}
  (h:aa c (.cmp op a b) e=true):PE X e (tE X.K B (wpE Z (.cmp op a b) E))/\PT X e (tB' X.K B (wpT Z (.val (.cmp op a b)) E)):=by
 replace h:=Ho h;obtain ⟨l,o,r,pos,rfl,h⟩:=h
 .rw[ae,ae,bm]at h;obtain ⟨⟨e1,h1⟩,h2⟩:=h;subst e1;have hm:=H9 (bM b h2) o;refine ⟨peI (Ud (jO _ (jR S)) (iha h1) (ihb h2) hm) λW H Q hq=>el hq λY F G e0 he r hw=>?_,ptI (Ue (jO _ (jR S)) (iha h1) (ihb h2) hm) λW H Q hq=>el hq λY F G e0 he r hw=>?_⟩
  .rw[rN]at hw;refine aO e0 he r hw λx G1 H1 F1 v q e1 x1 he1 r1 rv=>aO e1 he1 r1 q λy G2 H2 F2 u q e2 x2 he2 r2 ru=>?_;exact ⟨F2,G2,x,y,r2,Rep.ext x2 rv,ru,jd (λd z=>PV.later z (x1.trans x2)) q⟩
  .rw[lz,rN]at hw;refine aO e0 he r hw λx G1 H1 F1 v q e1 x1 he1 r1 rv=>aO e1 he1 r1 q λy G2 H2 F2 u q e2 x2 he2 r2 ru=>?_;refine ⟨F2,G2,x,y,r2,Rep.ext x2 rv,ru,jd (λd z=>?_) q⟩;intro H' F' v' x' r' rv';have e3:v'=.bl d:=rv';exact ⟨d,e3,z H' F' ((x1.trans x2).trans x') r'⟩
theorem Ih(S:Stat Z CX k c E B X){op op':CmpOp}{a b d:Ex}(iha:∀{e},aa c a e=true->PE X e (tE X.K B (wpE Z a E)))(ihb:∀{e},aa c b e=true->PE X e (tE X.K B (wpE Z b E)))(ihd:∀{e},aa c d e=true->PE X e (tE X.K B (wpE Z d E))){e:AO}
  (h:aa c (.chn op op' a b d) e=true):PE X e (tE X.K B (wpE Z (.chn op op' a b d) E))/\PT X e (tB' X.K B (wpT Z (.val (.chn op op' a b d)) E)):=by
 replace h:=Hq h;obtain ⟨l,o,o',m,r,pos,rfl,h⟩:=h
 .simp only[ae,bm]at h;obtain ⟨⟨⟨⟨e1,e2⟩,h1⟩,h2⟩,h3⟩:=h;subst e1 e2;have hm:lastMarks [o,o'] [m,r]=false:=H9 (bM d h3) o';have go:∀{V H Q Y F G}{W:Bool->DH->Prop},Ext B.H B.F H F->EnvR X.K H F Y V->R X.K H F G->
    wpE Z a E Y G (λx G1=>wpE Z b E Y G1 λy G2=>bx o (view G2 x) (view G2 y) λt=>match t with |true=>wpE Z d E Y G2 λz G3=>bx o' (view G3 y) (view G3 z) λt'=>W t' G3 |false=>W false G2)->
    (∀t G' H' F',W t G'->Ext H F H' F'->R X.K H' F' G'->Q (.bl t) H')->
    vf (rC2 X.K (bx o)) (rC2 X.K (bx o')) (tE X.K B (wpE Z a E)) (tE X.K B (wpE Z b E)) (tE X.K B (wpE Z d E)) V H Q:=by
   intro V H Q Y F G W e0 he r hw fin;refine aO e0 he r hw λx G1 H1 F1 v q e1 x1 he1 r1 rv=>aO e1 he1 r1 q λy G2 H2 F2 u q e2 x2 he2 r2 ru=>?_;refine ⟨F2,G2,x,y,r2,Rep.ext x2 rv,ru,jd (λt q=>?_) q⟩;intro H3 F3 v3 x3 r3 rv3;have e3:v3=.bl t:=rv3;refine ⟨t,e3,?_⟩;cases t with
   |true=>
    rw[if_pos rfl];refine aO (e2.trans x3) (he2.ext x3) r3 q λz G4 H4 F4 v4 q e4 x4 he4 r4 rv4=>?_;refine ⟨F4,G4,y,z,r4,Rep.ext (x3.trans x4) ru,rv4,jd (λt' q=>?_) q⟩;intro H5 F5 v5 x5 r5 rv5;have e5:v5=.bl t':=rv5;subst e5;exact fin _ _ _ _ q ((((x1.trans x2).trans x3).trans x4).trans x5) r5
   |false=>
    rw[if_neg bn];exact fin _ _ _ _ q ((x1.trans x2).trans x3) r3
  refine ⟨peI (Ug (jO _ (jR S)) (jO _ (jR S)) (iha h1) (ihb h2) (ihd h3) hm) λV H Q hq=>el hq λY F G e0 he r hw=>?_,ptI (Uh (jO _ (jR S)) (jO _ (jR S)) (iha h1) (ihb h2) (ihd h3) hm) λV H Q hq=>el hq λY F G e0 he r hw=>?_⟩
  .rw[rO]at hw;exact go (W:=λt G'=>PV X.K H F Q (.bl t) G') e0 he r hw λt G' H' F' z x' r'=>z H' F' _ x' r' rfl
  .rw[lz,rO]at hw;refine go (W:=λt G'=>PB X.K H F Q t G') e0 he r hw λt G' H' F' z x' r'=>⟨t,rfl,z H' F' x' r'⟩
end
section
variable {Z:aj} {CX:CXT} {k:Nat} {c:CT} {E:EK} {B:Bs} {X:Cx}
abbrev OkE(Z:aj)(c:CT)(E:EK)(B:Bs)(X:Cx)(x:Ex):Prop:=∀{e:AO},aa c x e=true->PE X e (tE X.K B (wpE Z x E))
abbrev iB(Z:aj)(c:CT)(E:EK)(B:Bs)(X:Cx)(x:Exs):Prop:=∀{es:AE},aN c x es=true->PA X es (tL X.K B (bF Z x E))
abbrev OkT(Z:aj)(c:CT)(E:EK)(B:Bs)(X:Cx)(x:Tx):Prop:=∀{e:AO},bK c x e=true->PT X e (tB' X.K B (wpT Z x E))
theorem ZG(S:Stat Z CX k c E B X){a:Ex}(iha:OkE Z c E B X a){e:AO}(h:aa c (.not a) e=true):PE X e (tE X.K B (wpE Z (.not a) E)):=by
 replace h:=Hn h;obtain ⟨_,_,rfl,h⟩:=h
 .intro p9 s W H Q I q;obtain ⟨Y,F,G,e0,he,r,hw⟩:=q;rw[wH]at hw;have q':tE X.K B (wpE Z a E) W H (λx H1=>∃b,qW X.K x H1 b/\Q (.bl (!b)) H1):=aO e0 he r hw λx G1 H1 F1 v q e1 x1 he1 r1 rv=>by
   split at q
   .rename_i b hb;exact ⟨b,Gj r1 rv hb,q _ _ _ x1 r1 rfl⟩
   .exact q.elim
  refine UnaryOp_ (thn (iha h p9 s W H _ I q') λv s1 ⟨x,H1,I1,r1,b,tb,q1⟩=>?_);refine not_of (thn (BW p9 s1 W H1 x v (λb' H'=>Q (.bl (!b')) H') I1 r1 ⟨b,tb,q1⟩) λb' s2 ⟨H2,I2,q2⟩=>?_);exact ⟨.bl (!b'),H2,I2,rfl,q2⟩
theorem yh{es:AE}(h:aN c .nil es=true):PA X es (tL X.K B (bF Z .nil E)):=by
 unfold aN at h;cases es with
 |nil=>exact paI ig λW H Q hq=>el hq λY F G e0 he r hw=>by rw[jM]at hw;exact hw H F [] (Ext.refl _ _) r rfl
 |cons _ _=>cases h
theorem tB{x:Ex}{xs:Exs}(ih:OkE Z c E B X x)(ihs:iB Z c E B X xs){es:AE}(h:aN c (.cons x xs) es=true):PA X es (tL X.K B (bF Z (.cons x xs) E)):=by
 unfold aN at h;split at h
 .rename_i e es;rw[ae]at h;refine paI (dY (ih h.1) (ihs h.2) (cz e es X.env (cM (bM x h.1)))) λW H Q hq=>el hq λY F G e0 he r hw=>?_;rw[jb]at hw;refine aO e0 he r hw λd G1 H1 F1 v q e1 x1 he1 r1 rv=>fM e1 he1 r1 q λds G2 H2 F2 vs q e2 x2 he2 r2 rvs=>?_;exact q H2 F2 _ (x1.trans x2) r2 ⟨v,vs,rfl,Rep.ext x2 rv,rvs⟩
 .cases h
theorem ZJ(S:Stat Z CX k c E B X){es:Exs}(ih:iB Z c E B X es){e:AO}(h:aa c (.tup es) e=true):PE X e (tE X.K B (wpE Z (.tup es) E)):=by
 replace h:=Ht h;obtain ⟨_,_,_,rfl,h⟩:=h
 .refine peI (Uv (ih h)) λW H Q hq=>el hq λY F G e0 he r hw=>?_;rw[wK]at hw;refine fM e0 he r hw λds G1 H1 F1 vs q e1 x1 he1 r1 rvs=>⟨by rw[<-rvs.length];exact dM q.1,rZ (PV.later q.2 x1) r1 rvs⟩
theorem ZK(S:Stat Z CX k c E B X){fz:Bool}{es:Exs}(ih:iB Z c E B X es){e:AO}(h:aa c (.lst fz es) e=true):PE X e (tE X.K B (wpE Z (.lst fz es) E)):=by
 replace h:=Hu h;obtain ⟨_,_,rfl,h⟩:=h
 .refine peI (Uw (ih h)) λW H Q hq=>el hq λY F G e0 he r hw=>?_;rw[wL]at hw;refine fM e0 he r hw λds G1 H1 F1 vs q e1 x1 he1 r1 rvs=>⟨by rw[<-rvs.length];exact dM q.1,gh (dg (λd G' z=>PV.later z x1) q.2) r1 rvs⟩
theorem ZL(S:Stat Z CX k c E B X){a i:Ex}(iha:OkE Z c E B X a)(ihi:OkE Z c E B X i){e:AO}(h:aa c (.idx a i) e=true):PE X e (tE X.K B (wpE Z (.idx a i) E)):=by
 replace h:=Hv h;obtain ⟨_,_,_,rfl,h⟩:=h
 .rw[ae]at h;refine peI (Vb XQ (iha h.1) (ihi h.2) (Zt (bM i h.2))) λW H Q hq=>el hq λY F G e0 he r hw=>?_;rw[wM]at hw;refine aO e0 he r hw λx G1 H1 F1 v q e1 x1 he1 r1 rv=>aO e1 he1 r1 q λy G2 H2 F2 u q e2 x2 he2 r2 ru=>?_;exact ⟨F2,G2,x,y,r2,Rep.ext x2 rv,ru,Fv (λd z=>PV.later z (x1.trans x2)) q⟩
theorem Ii{lo:Ox}(ih:∀x,lo=.ob x->OkE Z c E B X x){l:Option AO}(h:gU c lo l=true):PO X l (Ib X.K B (wpO Z lo E)):=by
 cases lo with
 |no=>
  unfold gU at h;cases l with
  |none=>
   intro p9 s W H Q I q;refine U4 p9 s W H Q I ?_;obtain ⟨Y,F,G,e0,he,r,hw⟩:=q;rw[v8]at hw;exact hw H F (Ext.refl _ _) r
  |some _=>cases h
 |ob x=>
  unfold gU at h;split at h
  .intro p9 s W H Q I q;refine U5 (ih x rfl h) p9 s W H Q I ?_;obtain ⟨Y,F,G,e0,he,r,hw⟩:=q;rw[v9]at hw;refine aO e0 he r hw λd G1 H1 F1 v q e1 x1 he1 r1 rv=>?_;split at q
   .have e2:v=.int _:=rv;exact ⟨_,e2,q H1 F1 x1 r1⟩
   .exact q.elim
  .cases h
theorem ZM(S:Stat Z CX k c E B X){fz:Bool}{a:Ex}{lo hi:Ox}(iha:OkE Z c E B X a)(ihl:∀x,lo=.ob x->OkE Z c E B X x)(ihh:∀x,hi=.ob x->OkE Z c E B X x){e:AO}(h:aa c (.slc fz a lo hi) e=true):
  PE X e (tE X.K B (wpE Z (.slc fz a lo hi) E)):=by
 replace h:=Hw h;obtain ⟨_,_,_,_,_,rfl,h⟩:=h
 .rw[ae,ae]at h;refine peI (U6 (X6 fz) (iha h.1.1) (Ii ihl h.1.2) (Ii ihh h.2)) λW H Q hq=>el hq λY F G e0 he r hw=>?_;rw[wN]at hw;refine aO e0 he r hw λx G1 H1 F1 v q e1 x1 he1 r1 rv=>Ie e1 he1 r1 q λl G2 H2 F2 q e2 x2 he2 r2=>Ie e2 he2 r2 q λu G3 H3 F3 q e3 x3 he3 r3=>?_;exact ⟨F3,G3,x,r3,Rep.ext (x2.trans x3) rv,Fw (λd G' z=>PV.later z ((x1.trans x2).trans x3)) q⟩
theorem ZP(S:Stat Z CX k c E B X){a:Ex}(iha:OkE Z c E B X a){e:AO}(h:aa c (.frz a) e=true):PE X e (tE X.K B (wpE Z (.frz a) E)):=by
 have h:aa c a e=true:=h;refine peI (iha h) λW H Q hq=>el hq λY F G e0 he r hw=>?_;rw[wW]at hw;refine aO e0 he r hw λx G1 H1 F1 v q e1 x1 he1 r1 rv=>?_;split at q
 .rename_i p;have e2:v=.ref p:=rv;subst e2;split at q
  .rename_i ds hg;exact q _ _ _ (x1.trans vO) (r1.frz hg) (Xl r1 hg)
  .exact q.elim
 .exact q _ _ _ x1 r1 rv
theorem tD{es:AE}{xs:Exs}(h:aN c xs es=true)(env:Env)(pos:Pos):(backTo pos (starEach es env)).any (·.1)=false:=by
 induction es generalizing xs with
 |nil=>rfl
 |cons e es ih=>
  cases xs with
  |nil=>unfold aN at h;cases h
  |cons x xs=>
   unfold aN at h;rw[ae]at h;rw[cz e es env (cM (bM x h.1))];show (false||(backTo pos (starEach es env)).any (·.1))=false;rw[ih h.2];rfl
theorem lQ{e:AO}{es:AE}{xs:Exs}(h:aN c xs (e::es)=true):∃x xs',xs=.cons x xs'/\aa c x e=true/\aN c xs' es=true:=by
 cases xs with
 |nil=>unfold aN at h;cases h
 |cons x xs'=>
  unfold aN at h;rw[ae]at h;exact ⟨x,xs',rfl,h.1,h.2⟩
theorem Ij{Y:aq}:∀(xs:Exs){es:AE}{G:DH}{Q:AS->DH->Prop},aN c xs es=true->bF Z xs E Y G Q->bF Z xs E Y G (λds G'=>ds.length=es.length/\Q ds G')
 |.nil,es,G,Q,h,q=>by
  unfold aN at h;rw[jM]at q ⊢;cases es with
  |nil=>exact ⟨rfl,q⟩
  |cons _ _=>cases h
 |.cons x xs,es,G,Q,h,q=>by
  unfold aN at h;split at h
  .rename_i e es;rw[ae]at h;rw[jb]at q ⊢;refine aK x (λd G1 q=>gQ xs (λds G2 z=>?_) (Ij xs h.2 q)) q;exact ⟨by simp[z.1],z.2⟩
  .cases h
theorem ZQ(S:Stat Z CX k c E B X){f:AL}{xs:Exs}(ih:iB Z c E B X xs){e:AO}(h:aa c (.call f xs) e=true):PE X e (tE X.K B (wpE Z (.call f xs) E)):=by
 replace h:=Hx h;obtain ⟨x,p,args,pos,rfl,h⟩:=h
 .simp only[ae,bm,List.any_eq_true]at h;obtain ⟨⟨⟨⟨e1,h1⟩,⟨f',n⟩,hm,e2,e3⟩,h2⟩,h3⟩:=h;simp only at e2 e3;subst e1 e2 e3;obtain ⟨g1,g2⟩:=dh h1;obtain ⟨fa,fd,ps,F0,hk,hb,hmg⟩:=S.call _ _ hm;obtain ⟨EX,hpass,_,hEX⟩:=S.exc;cases args with
  |nil=>cases h2
  |cons e es=>
   obtain ⟨x0,xs',rfl,c1,c2⟩:=lQ h3;refine peI (Uz F0 S.room (S.glo _ g1) hmg hk hb .nil hpass (ih h3) (cW g2) (cz e es X.env (cM (bM x0 c1))) (tD c2 X.env pos)) λW H Q hq=>el hq λY F G e0 he r hw=>?_;rw[wO]at hw;refine fM e0 he r (Ij _ h3 hw) λds G1 H1 F1 vs q e1 x1 he1 r1 rvs=>?_;rw[fA];refine ⟨by rw[<-rvs.length];exact q.1,F1,G1,ds,r1,rvs,Spec.mono q.2 (λd G' z=>PV.later z x1) λx G' z H' F' x' r'=>?_⟩;exact hEX x G' H' F' z (e1.trans x') r'
theorem ZR(S:Stat Z CX k c E B X){f:Bf}{xs:Exs}(ih:iB Z c E B X xs){e:AO}(h:aa c (.bcl f xs) e=true):PE X e (tE X.K B (wpE Z (.bcl f xs) E)):=by
 replace h:=Hy h;obtain ⟨x,p,args,pos,rfl,h⟩:=h
 .simp only[ae,bm]at h;obtain ⟨⟨⟨⟨⟨e1,hok⟩,h1⟩,hm⟩,h2⟩,h3⟩:=h;subst e1;obtain ⟨g1,g2⟩:=dh h1;have hmg:=S.blt _ (bX.mp hm);cases args with
  |nil=>cases h2
  |cons e es=>
   obtain ⟨x0,xs',rfl,c1,c2⟩:=lQ h3;have hs:=cz e es X.env (cM (bM x0 c1));have ha:=tD c2 X.env pos;have go:∀W H Q,tE X.K B (wpE Z (.bcl f (.cons x0 xs')) E) W H Q->tCB (je X.K f) (tL X.K B (bF Z (.cons x0 xs') E)) W H Q:=λW H Q hq=>el hq λY F G e0 he r hw=>by
    rw[wQ]at hw;refine fM e0 he r hw λds G1 H1 F1 vs q e1 x1 he1 r1 rvs=>?_;exact ⟨F1,G1,ds,r1,rvs,Fx (λd z=>PV.later z x1) q⟩
   cases f with
   |len=>exact peI (kO X7 (S.glo _ g1) hmg PySem.boot_len (ih h3) (dU g2) (cW g2) hs ha) go
   |all=>exact peI (kO (X8 S.calm) (S.glo _ g1) hmg V2 (ih h3) (dU g2) (cW g2) hs ha) go
   |int=>exact peI (kW Yb (S.glo _ g1) hmg Df (ih h3) (dU g2) (cW g2) hs ha) go
   |tuple=>exact peI (kW Yc (S.glo _ g1) hmg (by ac_rfl) (ih h3) (dU g2) (cW g2) hs ha) go
   |sum=>cases hok
   |min=>exact peI (kO (Ys S.calm) (S.glo _ g1) hmg Yt (ih h3) (dU g2) (cW g2) hs ha) go
   |max=>cases hok
   |abs=>cases hok
   |min2=>cases hok
   |str=>exact peI (kW Yu (S.glo _ g1) hmg Dg (ih h3) (dU g2) (cW g2) hs ha) go
theorem ZS(S:Stat Z CX k c E B X){fz:Bool}{f:Lf}{xs:Exs}(ih:iB Z c E B X xs){e:AO}(h:aa c (.lcl fz f xs) e=true):PE X e (tE X.K B (wpE Z (.lcl fz f xs) E)):=by
 replace h:=Hz h;obtain ⟨x,p,args,pos,rfl,h⟩:=h
 .simp only[ae,bm]at h;obtain ⟨⟨⟨⟨⟨e1,hok⟩,h1⟩,hm⟩,h2⟩,h3⟩:=h;subst e1;obtain ⟨g1,g2⟩:=dh h1;have hmg:=S.blt _ (bX.mp hm);cases args with
  |nil=>cases h2
  |cons e es=>
   obtain ⟨x0,xs',rfl,c1,c2⟩:=lQ h3;have hs:=cz e es X.env (cM (bM x0 c1));have ha:=tD c2 X.env pos;have go:∀W H Q,tE X.K B (wpE Z (.lcl fz f (.cons x0 xs')) E) W H Q->tCB (Gm X.K fz f) (tL X.K B (bF Z (.cons x0 xs') E)) W H Q:=λW H Q hq=>el hq λY F G e0 he r hw=>by
    rw[wR]at hw;refine fM e0 he r hw λds G1 H1 F1 vs q e1 x1 he1 r1 rvs=>?_;exact ⟨F1,G1,ds,r1,rvs,Fy (λd z=>dg (λd G' z=>PV.later z x1) z) q⟩
   cases f with
   |list=>exact peI (kW (Yg S.calm fz) (S.glo _ g1) hmg Dh (ih h3) (dU g2) (cW g2) hs ha) go
   |sorted=>cases hok
theorem ZV:bootBuiltins "set"=some (.type "set"):=by ac_rfl
theorem ZW(S:Stat Z CX k c E B X){fz:Bool}{a:Ex}(iha:OkE Z c E B X a){e:AO}(h:aa c (.srs fz a) e=true):PE X e (tE X.K B (wpE Z (.srs fz a) E)):=by
 obtain ⟨x,p,x',p',e2,pos',pos,rfl,h'⟩:=HF h;simp only[ae,bm]at h';obtain ⟨⟨⟨⟨⟨⟨e1,h1⟩,hm⟩,e3⟩,h2⟩,hr⟩,h3⟩:=h';subst e1 e3;obtain ⟨g1,g2⟩:=dh h1;obtain ⟨g1',g2'⟩:=dh h2;have hmg:=S.blt _ (bX.mp hm);have hmr:=S.blt _ (bX.mp hr);have hs:=cz e2 [] X.env (cM (bM a h3));refine peI (kO (Yn S.calm) (S.glo _ g1) hmg Yh (dY (kW (Yl S.calm) (S.glo _ g1') hmr ZV (dY (iha h3) ig hs) (dU g2') (cW g2') hs rfl) ig rfl) (dU g2) (cW g2) rfl rfl) λW H Q hq=>el hq λY F G e0 he r hw=>?_;rw[wV]at hw;refine aO e0 he r hw λd G1 H1 F1 v q e1 x1 he1 r1 rv=>?_;unfold iw at q;split at q
 .rename_i ds ev;obtain ⟨p,vs,e,sq,t'⟩:=Rep.list r1 rv ev;subst e;split at q
  .rename_i ls hb;have e2:=sG hb t';have hsz:=xQ hb t';subst e2;obtain ⟨⟨hz,h64⟩,q⟩:=q;refine ⟨p,ls,rfl,sq,hz,λl hl=>⟨l,cA ls,rfl,fX,h64,λls' pm l2 hl2=>?_⟩⟩;have xn:=fG (o:=lH X l (cA ls)) r1 hl;refine gh (dg (λd G' z=>PV.later z (x1.trans xn)) (q ls' pm)) (r1.new hl) (Gu λy hy=>?_) l2 hl2;exact hsz y (xP _ (pm.mem_iff.mp hy))
  .exact q.elim
 .exact q.elim
theorem ZX{t:AL}(h:gM t=true):bootBuiltins (⇑t)=some (.type t):=by
 simp only[gM,dn,bm]at h;rcases h with (((rfl |rfl) |rfl) |rfl) |rfl
 .exact VJ
 .exact Df
 .exact Dg
 .ac_rfl
 .exact Dh
theorem ZZ(S:Stat Z CX k c E B X){a:Ex}{t:AL}(iha:OkE Z c E B X a){e:AO}(h:aa c (.isi a t) e=true):PE X e (tE X.K B (wpE Z (.isi a t) E)):=by
 replace h:=HB h;obtain ⟨x,p,v,y,p2,pos,rfl,h⟩:=h
 .simp only[ae,bm]at h;obtain ⟨⟨⟨⟨⟨⟨⟨e1,h1⟩,hm1⟩,h2⟩,e2⟩,h3⟩,hm2⟩,h4⟩:=h;subst e1 e2;obtain ⟨g1,g2⟩:=dh h1;obtain ⟨g3,g4⟩:=dh h3;have hmg:=S.blt _ (bX.mp hm1);have hmt:=S.blt _ (bX.mp hm2);have hty:PE X (.Name (⇑t) p2) (tC (.ty t)):=VM (S.glo _ g3) hmt (ZX h4) (dU g4) (cW g4);have sv:=cM (bM a h2);refine peI (kO VH (S.glo _ g1) hmg VL (dY (iha h2) (dY hty ig (cz _ _ _ rfl)) (cz _ _ _ sv)) (dU g2) (cW g2) (cz _ _ _ sv) rfl) λW H Q hq=>el hq λY F G e0 he r hw=>?_;rw[wU]at hw;refine aO e0 he r hw λd G1 H1 F1 v q e1 x1 he1 r1 rv=>?_;split at q
  .rename_i b hb;obtain ⟨T,hk,hT,hb'⟩:=Yy hb;refine ⟨v,t,.type T,b,rfl,Yv r1 rv hk,?_,q _ _ _ x1 r1 rfl⟩;rw[Yx T t hT h4,hb' h4]
  .exact q.elim
theorem Z0{v:AO}(h:(!sV v)=true)(name:Str)(env:Env):attributeBase v name env (eval v env)=eval v env:=by
 cases v with
 |Call f args kw pos=>
  cases f with
  |Name id p=>
   cases args with
   |nil=>
    cases kw with
    |nil=>cases h
    |cons _ _=>rfl
   |cons _ _=>rfl
  |_=>rfl
 |_=>rfl
theorem all_plain{es:AE}{xs:Exs}(h:aN c xs es=true)(env:Env)(pos:Pos):(backTo pos (starEach es env)).all (λx=>!x.1)=true:=by
 induction es generalizing xs with
 |nil=>rfl
 |cons e es ih=>
  obtain ⟨x0,xs',rfl,c1,c2⟩:=lQ h;rw[cz e es env (cM (bM x0 c1))];show (!false&&(backTo pos (starEach es env)).all (λx=>!x.1))=true;rw[ih c2];rfl
theorem Z1(S:Stat Z CX k c E B X){m:Mf}{o:Ex}{xs:Exs}(iho:OkE Z c E B X o)(ih:iB Z c E B X xs){e:AO}(h:aa c (.mth m o xs) e=true):PE X e (tE X.K B (wpE Z (.mth m o xs) E)):=by
 replace h:=HH h;obtain ⟨v,x,apos,args,cpos,rfl,h⟩:=h
 .simp only[ae,bm,cf]at h;obtain ⟨⟨⟨⟨⟨⟨e1,h1⟩,hb⟩,hl⟩,hn⟩,h2⟩,h3⟩:=h;subst e1;cases args with
  |nil=>cases h2
  |cons e es=>
   obtain ⟨x0,xs',rfl,c1,c2⟩:=lQ h3;have hs:=cz e es X.env (cM (bM x0 c1));have ha:=tD c2 X.env cpos;have hbase:=Z0 hb (⇑m.name) X.env;have hfew:((backTo cpos (starEach (e::es) X.env)).all (λx=>!x.1)&&(backToKw cpos (keywordEach [] X.env)).all (λx=>x.1.isSome)
    &&decide ((e::es).length+([]:List Keyword).length+(if ([]:List Keyword).isEmpty then 0 else 1) < 30))=true:=by
    rw[all_plain h3 X.env cpos];have:(e::es).length+([]:List Keyword).length+(if ([]:List Keyword).isEmpty then 0 else 1) < 30:=by have e0:(if ([]:List Keyword).isEmpty=true then 0 else 1)=0:=rfl;rw[e0];show (e::es).length+0+0 < 30;omega
    rw[ck this];rfl
   have hline:(apos.endLine==cpos.line)=true:=by rw[bm];exact hl
   have lst:∀{d:D} {u:V} {G1:DH} {H1:Hp} {F1:FZ},(match d with |.ref p=>(match G1 p with |some (.lst _)=>True |none=>False) |_=>False)->R X.K H1 F1 G1->Rep X.K H1 F1 d u->tyV X.K "list" u H1:=λ{d u G1 H1 F1} q r1 ru=>by
    split at q
    .rename_i p;split at q
     .rename_i ds hg;obtain ⟨vs,hv,_⟩:=r1.lst hg;have e2:u=.ref p:=ru;subst e2;exact .inl ⟨rfl,vs,SqL.of hv⟩
     .exact q.elim
    .exact q.elim
   have lstV:∀{d:D} {u:V} {G1:DH} {H1:Hp} {F1:FZ},Xm (view G1 d)->R X.K H1 F1 G1->Rep X.K H1 F1 d u->tyV X.K "list" u H1:=λ{d u G1 H1 F1} q r1 ru=>by
    generalize hv:view G1 d=w at q;cases w with
    |lst ds=>
     obtain ⟨a,vs,rfl,sq,_⟩:=Rep.list r1 ru hv;exact .inl ⟨rfl,vs,sq⟩
    |_=>exact (show False from q).elim
   cases m with
   |join=>
    refine peI (vh PySem.F.plainAttrs_str PySem.F.slot_str_join PySem.F.type_str_join Yz (iho h1) (ih h3) hbase hfew hline hs ha) λW H Q hq=>el hq λY F G e0 he r hw=>?_;rw[lC]at hw;refine aO e0 he r hw λd G1 H1 F1 u q e1 x1 he1 r1 ru=>⟨?_,fM e1 he1 r1 q.2 λds G2 H2 F2 vs q e2 x2 he2 r2 rvs=>?_⟩
    .have q1:=q.1;cases d with
     |str l=>obtain ⟨e2,_⟩:=ru;subst e2;exact rfl
     |_=>exact (show False from q1).elim
    .exact ⟨F2,G2,d,ds,r2,Rep.ext x2 ru,rvs,rQ (λd G' z=>PV.later z (x1.trans x2)) q⟩
   |append=>
    refine peI (vh PySem.F.plainAttrs_list PySem.F.slot_list_append PySem.F.type_list_append YB (iho h1) (ih h3) hbase hfew hline hs ha) λW H Q hq=>el hq λY F G e0 he r hw=>?_;rw[lC]at hw;refine aO e0 he r hw λd G1 H1 F1 u q e1 x1 he1 r1 ru=>⟨?_,fM e1 he1 r1 q.2 λds G2 H2 F2 vs q e2 x2 he2 r2 rvs=>?_⟩
    .refine lst (d:=d) (G1:=G1) ?_ r1 ru;have q1:=q.1;cases d <;> first |exact q1 |exact (show False from q1).elim
    .exact ⟨F2,G2,d,ds,r2,Rep.ext x2 ru,rvs,rQ (λd G' z=>PV.later z (x1.trans x2)) q⟩
   |extend=>
    refine peI (vh PySem.F.plainAttrs_list PySem.F.slot_list_extend PySem.F.type_list_extend YD (iho h1) (ih h3) hbase hfew hline hs ha) λW H Q hq=>el hq λY F G e0 he r hw=>?_;rw[lC]at hw;refine aO e0 he r hw λd G1 H1 F1 u q e1 x1 he1 r1 ru=>⟨?_,fM e1 he1 r1 q.2 λds G2 H2 F2 vs q e2 x2 he2 r2 rvs=>?_⟩
    .refine lst (d:=d) (G1:=G1) ?_ r1 ru;have q1:=q.1;cases d <;> first |exact q1 |exact (show False from q1).elim
    .exact ⟨F2,G2,d,ds,r2,Rep.ext x2 ru,rvs,rQ (λd G' z=>PV.later z (x1.trans x2)) q⟩
end
section
variable {Z:aj} {CX:CXT} {k:Nat} {c:CT} {E:EK} {B:Bs} {X:Cx}
def EachE(Z:aj)(c:CT)(E:EK)(B:Bs)(X:Cx):Exs->Prop
 |.nil=>True
 |.cons e es=>OkE Z c E B X e/\EachE Z c E B X es
def tH(Z:aj)(c:CT)(E:EK)(B:Bs)(X:Cx):Txs->Prop
 |.nil=>True
 |.cons e es=>OkT Z c E B X e/\tH Z c E B X es
theorem EachE.oks:∀{xs:Exs},EachE Z c E B X xs->iB Z c E B X xs
 |.nil,_=>λh=>yh h
 |.cons x xs,hh=>λh=>tB hh.1 (EachE.oks hh.2) h
def tM(Z:aj)(E:EK)(isAnd:Bool)(x:Ex)(xs:Exs):aq->DH->(AT)->Prop:=λY G kk=>wpE Z x E Y G λd G1=>match d with |.bl b=>wpB Z xs isAnd b E Y G1 (λc G2=>kk (.bl c) G2) |_=>False
theorem Ik{isAnd:Bool}{pos:Pos}:∀(xs:Exs){x:Ex},OkE Z c E B X x->EachE Z c E B X xs->∀{v:AO}{vs:AE},aa c x v=true->aN c xs vs=true->
  PE X (.BoolOp (if isAnd then .And else .Or) (v::vs) pos) (tE X.K B (tM Z E isAnd x xs))
 |.nil,x,ih,_,v,vs,h1,h2=>by
  unfold aN at h2;cases vs with
  |nil=>
   refine peI (R4 (ih h1)) λW H Q hq=>el hq λY F G e0 he r hw=>?_;unfold tM at hw;refine aO e0 he r hw λd G1 H1 F1 u q e1 x1 he1 r1 ru=>?_;split at q
   .rw[v6]at q;exact q _ _ _ x1 r1 ru
   .exact q.elim
  |cons _ _=>cases h2
 |.cons y ys,x,ih,hh,v,vs,h1,h2=>by
  unfold aN at h2;split at h2
  .rename_i w ws;rw[ae]at h2;have rest:=Ik (isAnd:=isAnd) (pos:=pos) ys hh.1 hh.2 h2.1 h2.2;cases isAnd with
   |true=>
    refine peI (R5 (ih h1) rest) λW H Q hq=>el hq λY F G e0 he r hw=>?_;unfold tM at hw;refine aO e0 he r hw λd G1 H1 F1 u q e1 x1 he1 r1 ru=>?_;split at q
    .rename_i b;refine ⟨b,ru,?_⟩;rw[rK]at q;cases b with
     |true=>
      rw[if_pos rfl];exact ⟨Y,F1,G1,e1,he1,r1,aK y (λd G' z=>by
       cases d <;> first |exact (show False from z).elim |exact rW ys (λc G2 z=>PV.later z x1) z) q⟩
     |false=>
      rw[if_neg bn];exact q _ _ _ x1 r1 rfl
    .exact q.elim
   |false=>
    refine peI (R6 (ih h1) rest) λW H Q hq=>el hq λY F G e0 he r hw=>?_;unfold tM at hw;refine aO e0 he r hw λd G1 H1 F1 u q e1 x1 he1 r1 ru=>?_;split at q
    .rename_i b;refine ⟨b,ru,?_⟩;rw[rK]at q;cases b with
     |false=>
      rw[if_neg bn];exact ⟨Y,F1,G1,e1,he1,r1,aK y (λd G' z=>by
       cases d <;> first |exact (show False from z).elim |exact rW ys (λc G2 z=>PV.later z x1) z) q⟩
     |true=>
      rw[if_pos rfl];exact q _ _ _ x1 r1 rfl
    .exact q.elim
  .cases h2
theorem Z2{isAnd:Bool}{x:Ex}{xs:Exs}(ih:OkE Z c E B X x)(hh:EachE Z c E B X xs){e:AO}(h:aa c (.boo isAnd x xs) e=true):PE X e (tE X.K B (wpE Z (.boo isAnd x xs) E)):=by
 replace h:=Hr h;obtain ⟨_,_,_,_,rfl,h⟩:=h
 .simp only[ae,bm]at h;obtain ⟨⟨e1,h1⟩,h2⟩:=h;subst e1;refine peI (Ik xs ih hh h1 h2) λW H Q hq=>el hq λY F G e0 he r hw=>⟨Y,F,G,e0,he,r,?_⟩;rw[wI]at hw;exact hw
theorem Z3{t:Tx}{a b:Ex}(iht:OkT Z c E B X t)(iha:OkE Z c E B X a)(ihb:OkE Z c E B X b){e:AO}(h:aa c (.ife t a b) e=true):PE X e (tE X.K B (wpE Z (.ife t a b) E)):=by
 replace h:=Hs h;obtain ⟨_,_,_,_,rfl,h⟩:=h
 .simp only[ae]at h;obtain ⟨⟨h1,h2⟩,h3⟩:=h;refine peI (R7 (iht h1) (iha h2) (ihb h3)) λW H Q hq=>el hq λY F G e0 he r hw=>?_;rw[wJ]at hw;refine jk e0 he r hw λb' G1 H1 F1 q e1 x1 he1 r1=>?_;cases b' with
  |true=>
   rw[if_pos rfl];exact ⟨Y,F1,G1,e1,he1,r1,aK a (λd G' z=>PV.later z x1) q⟩
  |false=>
   rw[if_neg bn];exact ⟨Y,F1,G1,e1,he1,r1,aK b (λd G' z=>PV.later z x1) q⟩
theorem Z4{x:Ex}(ih:OkE Z c E B X x){e:AO}(hp:ji e=true)(h:aa c x e=true):PT X e (tB' X.K B (wpT Z (.val x) E)):=by
 refine ptI (Uj (ih h) (Zu hp X.env)) λW H Q hq=>el hq λY F G e0 he r hw=>?_;rw[lz]at hw;refine aO e0 he r hw λd G1 H1 F1 u q e1 x1 he1 r1 ru=>?_;split at q
 .rename_i b hb;exact ⟨b,Gj r1 ru hb,q _ _ x1 r1⟩
 .exact q.elim
theorem Z5{t:Tx}(ih:OkT Z c E B X t){e:AO}(h:bK c (.not t) e=true):PT X e (tB' X.K B (wpT Z (.not t) E)):=by
 replace h:=Zc h;obtain ⟨_,_,rfl,h⟩:=h
 .refine ptI (R0 (ih h)) λW H Q hq=>el hq λY F G e0 he r hw=>?_;rw[vX]at hw;exact jk e0 he r hw λb G1 H1 F1 q e1 x1 he1 r1=>q _ _ x1 r1
def lR(Z:aj)(E:EK)(isAnd:Bool)(x:Tx)(xs:Txs):aq->DH->(Bool->DH->Prop)->Prop:=λY G kk=>wpT Z x E Y G λb G1=>gO Z xs isAnd b E Y G1 kk
theorem Il{isAnd:Bool}{pos:Pos}:∀(xs:Txs){x:Tx},OkT Z c E B X x->tH Z c E B X xs->∀{v:AO}{vs:AE},bK c x v=true->jj c xs vs=true->
  PW X (.BoolOp (if isAnd then .And else .Or) (v::vs) pos) (tB' X.K B (lR Z E isAnd x xs))
 |.nil,x,ih,_,v,vs,h1,h2=>by
  unfold jj at h2;cases vs with
  |nil=>
   have go:∀W H Q,tB' X.K B (lR Z E isAnd x .nil) W H Q->tB' X.K B (wpT Z x E) W H Q:=λW H Q hq=>el hq λY F G e0 he r hw=>by
    unfold lR at hw;refine ⟨Y,F,G,e0,he,r,dw x (λb G1 q=>?_) hw⟩;rw[v7]at q;exact q
   cases isAnd with
   |true=>exact pwI (RV (ih h1)) go
   |false=>exact pwI (RW (ih h1)) go
  |cons _ _=>cases h2
 |.cons y ys,x,ih,hh,v,vs,h1,h2=>by
  unfold jj at h2;split at h2
  .rename_i w ws;rw[ae]at h2;have rest:=Il (isAnd:=isAnd) (pos:=pos) ys hh.1 hh.2 h2.1 h2.2;cases isAnd with
   |true=>
    refine pwI (RX (ih h1) rest) λW H Q hq=>el hq λY F G e0 he r hw=>?_;unfold lR at hw;refine jk e0 he r hw λb G1 H1 F1 q e1 x1 he1 r1=>?_;rw[rM]at q;cases b with
    |true=>
     rw[if_pos rfl];exact ⟨Y,F1,G1,e1,he1,r1,dw y (λb' G' z=>rY ys (λc G2 z=>PB.later z x1) z) q⟩
    |false=>
     rw[if_neg bn];exact q _ _ x1 r1
   |false=>
    refine pwI (RZ (ih h1) rest) λW H Q hq=>el hq λY F G e0 he r hw=>?_;unfold lR at hw;refine jk e0 he r hw λb G1 H1 F1 q e1 x1 he1 r1=>?_;rw[rM]at q;cases b with
    |false=>
     rw[if_neg bn];exact ⟨Y,F1,G1,e1,he1,r1,dw y (λb' G' z=>rY ys (λc G2 z=>PB.later z x1) z) q⟩
    |true=>
     rw[if_pos rfl];exact q _ _ x1 r1
  .cases h2
theorem Z6{isAnd:Bool}{x:Tx}{xs:Txs}(ih:OkT Z c E B X x)(hh:tH Z c E B X xs){e:AO}(h:bK c (.boo isAnd x xs) e=true):PT X e (tB' X.K B (wpT Z (.boo isAnd x xs) E)):=by
 replace h:=Zd h;obtain ⟨_,_,_,_,rfl,h⟩:=h
 .simp only[ae,bm]at h;obtain ⟨⟨e1,h1⟩,h2⟩:=h;subst e1;refine ptI (PW.pt (Il xs ih hh h1 h2)) λW H Q hq=>el hq λY F G e0 he r hw=>⟨Y,F,G,e0,he,r,?_⟩;rw[vY]at hw;exact hw
def tG(K:PF)(B:Bs)(t:Tg):TG:=λv X H Q=>∃Y F G d,Ext B.H B.F H F/\EnvR K H F Y X/\R K H F G/\Rep K H F d v/\aR t d Y G (λρ'=>∀σ',EnvR K H F ρ' σ'->Q σ' H)
def tGs(K:PF)(B:Bs)(t:Tgs):TGs:=λvs X H Q=>∃Y F G ds,Ext B.H B.F H F/\EnvR K H F Y X/\R K H F G/\Reps K H F ds vs/\cj t ds Y G (λρ'=>∀σ',EnvR K H F ρ' σ'->Q σ' H)
theorem tQ:∀{ts:Tgs}{es:AE}{env:Env},cR c ts es=true->(assignEach es env).length=es.length/\(assignEach es env).findIdx? (·.1)=none/\(assignEach es env).map (·.2)=es.map λe=>assign e env
 |.nil,[],env,_=>⟨rfl,rfl,rfl⟩
 |.nil,_::_,env,h=>by unfold cR at h;cases h
 |.cons t r,[],env,h=>by unfold cR at h;cases h
 |.cons t r,e::es,env,h=>by
  unfold cR at h;rw[ae]at h;obtain ⟨h1,h2,h3⟩:=tQ (env:=env) h.2;have hs:assignEach (e::es) env=(false,assign e env)::assignEach es env:=by
   cases t with
   |nm i=>
    have h':=h.1;obtain ⟨_,_,rfl,_⟩:=ye h';rfl
   |tp ts=>
    have h':=h.1;obtain ⟨_,_,_,rfl,_⟩:=yf h';rfl
  rw[hs];refine ⟨by simp[h1],?_,by simp[h3]⟩;rw[iO];simp[h2]
section
variable {prog:AK} {w:World} {A:AM} {E:AG} {s:AI}
theorem Im{it t:AQ}{items:Array AN}(hne:t≠it):∀(n i:Nat)(s:AI)(Q:AB->AI->Prop),s.heap.IsListIter it t i->s.heap.IsList t items->i+n<=items.size->
  (∀h',h'.IsListIter it t (i+n)->Heap.SameBut it s.heap h'->Q ((items.toList.drop i).take n) { s with heap:=h' })->wpAny (model prog w) A (draw (.ref it) n) Q E s
 |0,i,s,Q,hit,_,_,hQ=>by
  show wpAny _ _ (pure []) Q E s;exact al (by simpa using hQ s.heap hit (Heap.SameBut.refl ..))
 |n+1,i,s,Q,hit,ht,hle,hQ=>by
  have hlt:i < items.size:=by omega
  show wpAny _ _ (pyNext (.ref it) >>= _) Q E s;refine ab (wpAny_pyNext_list_item hit ht (x:=items[i]) (by simp[hlt]) λh₁ hit₁ hs₁=>?_);refine ab (dA (Im hne n (i+1) _ _ hit₁ (ht.extBut hs₁.extBut hne) (!0) λh₂ hit₂ hs₂=>al ?_));have hd:items.toList.drop i=items[i]::items.toList.drop (i+1):=by simp[bP,hlt]
  have:=hQ h₂ (by rw[show i+(n+1)=i+1+n by omega];exact hit₂) (hs₁.trans hs₂);rw[hd,List.take_succ_cons]at this;exact this
theorem Z7{t:AQ}{items:Array AN}{Q:AB->AI->Prop}(hh:A.handled=none)(ht:s.heap.IsList t items)
  (hQ:∀h',Heap.ExtBut (~~~s) s.heap h'->Q items.toList { s with heap:=h' }):wpAny (model prog w) A (unpackItems (.ref t) items.size none) Q E s:=by
 have hlt:t≠(~~~s):=by obtain ⟨o,ho,_⟩:=ht;exact cp (a9 ho)
 unfold unpackItems;refine ab ?_;unfold notIterableAtAll;refine ab (wpAny_specialOf ht.typeIs PySem.F.slot_list_iter.lookup ?_);refine al ?_;simp only[gT,if_false];refine ab (dA (jp ht ?_));refine ab (dA (Im hlt items.size 0 _ _ ⟨_,a8 _ rfl,rfl,rfl⟩ (ht.push _) (!0) λh₁ hit₁ hs₁=>?_));have hall:List.take items.size (List.drop 0 items.toList)=items.toList:=by rw[List.drop_zero];exact fF (by simp)
 rw[hall];rw[if_neg (by simp)];have ht₁:h₁.IsList t items:=(ht.push _).extBut hs₁.extBut hlt;refine ab (dA (wpAny_pyNext_list_end hh hit₁ ht₁ (by simp) λh₂ he₂=>?_));simp only[Option.isSome_none,gT,if_false];refine al (hQ h₂ λb o hb e=>he₂ b o hb (hs₁.extBut b o hb (ag _ e)))
theorem Z8{env:Env}{elts:AE}{x1}{pos:Pos}{t:AQ}{items:Array AN}{Q:Unit->AI->Prop}(hh:A.handled=none)(ht:s.heap.IsList t items)
  (hn:(assignEach elts env).length=items.size) (hstar:(assignEach elts env).findIdx? (·.1)=none)
  (h:∀h',Heap.ExtBut (~~~s) s.heap h'->wpAny (model prog w) A (assignInOrder ((assignEach elts env).map (·.2)) items.toList) Q E { s with heap:=h' }):
  wpAny (model prog w) A (assign (.Tuple elts x1 pos) env (.ref t)) Q E s:=by
 rw[assign_Tuple];refine ab (js ?_);unfold unpack;rw[hn,hstar];exact ab (dA (Z7 hh ht h))
end
section
variable {X:Cx} {pos:Pos}
def Z9(K:PF)(n:Nat)(t:TGs):TG:=λv Y H Q=>∃a xs,v=.ref a/\SqL K H a xs/\xs.length=n/\t xs Y H Q
theorem aaa{es:AE}{k:Nat}{t:TGs}{n:Nat}(hc:X.calm=true)(h:PGs X es t)
  (hn:(assignEach es X.env).length=n:=by rfl) (hst:(assignEach es X.env).findIdx? (·.1)=none:=by rfl):PG X (.Tuple es k pos) (Z9 X.K n t):=by
 intro p9 s Y H v u Q I r hw;obtain ⟨a,xs,e1,hq,hl,hw⟩:=hw;subst e1;cases r;obtain ⟨its,rv,pl,hz⟩:=I.list hq;refine Z8 (I.ok.hd hc) pl.isList (by simp[hn,<-hl,rv.length]) hst λh' hx=>?_;have I1:Inv X p9 Y H { s with heap:=h' }:=I.kept (t':=s.toks) λb o e=>hx b o (cp (a9 e)) e;exact h p9 _ Y H xs _ Q I1 (!!rv) hw
end
mutual
theorem jm(S:Stat Z CX k c E B X):∀(t:Tg){e:AO},bG c t e=true->PG X e (tG X.K B t)
 |.nm i,e,h=>by
  replace h:=ye h;obtain ⟨x,pos,rfl,h⟩:=h
  .skip;rw[ae,bm]at h;obtain ⟨l,f⟩:=S.sto x h.2;intro p9 s W H v u Q I rv q;refine S8 (i:=i) S.nd (by rw[S.N];exact h.1) l f p9 s W H v u Q I rv ?_;obtain ⟨Y,F,G,d,e0,he,r,rd,hw⟩:=q;unfold aR at hw;exact hw _ (he.set rd i)
 |.tp ts,e,h=>by
  replace h:=yf h;obtain ⟨es,kk,pos,rfl,h⟩:=h
  .skip;obtain ⟨h1,h2,h3⟩:=tQ (env:=X.env) h;intro p9 s W H v u Q I rv q;obtain ⟨Y,F,G,d,e0,he,r,rd,hw⟩:=q;unfold aR at hw;split at hw
   .rename_i ds;refine Th (n:=es.length) S.calm (yj S ts h) h1 h2 p9 s W H v u Q I rv ?_;obtain ⟨a,vs,e1,q,t⟩:=rd;refine ⟨a,vs,e1,q.sq,?_,Y,F,G,ds,e0,he,r,t,hw⟩;rw[<-t.length];exact yl ts h hw
   .rename_i ds;refine aaa (n:=es.length) S.calm (yj S ts h) h1 h2 p9 s W H v u Q I rv ?_;obtain ⟨a,vs,e1,q,t⟩:=rd;refine ⟨a,vs,e1,q.sq,?_,Y,F,G,ds,e0,he,r,t,hw⟩;rw[<-t.length];exact yl ts h hw
   .exact hw.elim
theorem yj(S:Stat Z CX k c E B X):∀(ts:Tgs){es:AE},cR c ts es=true->PGs X es (tGs X.K B ts)
 |.nil,es,h=>by
  unfold cR at h;cases es with
  |nil=>
   intro p9 s W H vs us Q I rv q;refine Td p9 s W H vs us Q I rv ?_;obtain ⟨Y,F,G,ds,e0,he,r,rd,hw⟩:=q;unfold cj at hw;split at hw
   .exact ⟨rd,hw _ he⟩
   .exact hw.elim
  |cons _ _=>cases h
 |.cons t r,es,h=>by
  unfold cR at h;split at h
  .rename_i e es;rw[ae]at h;intro p9 s W H vs us Q I rv q;have hs:(assignEach (e::es) X.env).map (·.2)=assign e X.env::(assignEach es X.env).map (·.2):=by
    have hh:cR c (.cons t r) (e::es)=true:=by unfold cR;show (bG c t e&&cR c r es)=true;rw[h.1,h.2];rfl
    rw[(tQ (env:=X.env) hh).2.2,(tQ (env:=X.env) h.2).2.2];rfl
   refine Te (jm S t h.1) (yj S r h.2) hs p9 s W H vs us Q I rv ?_;obtain ⟨Y,F,G,ds,e0,he,rr,rd,hw⟩:=q;unfold cj at hw;split at hw
   .rename_i d ds;obtain ⟨v,vs',e1,rd1,rds⟩:=rd;refine ⟨v,vs',e1,Y,F,G,d,e0,he,rr,rd1,dI (λρ' z σ' he'=>?_) t hw⟩;exact ⟨ρ',F,G,ds,e0,he',rr,rds,z⟩
   .exact hw.elim
  .cases h
theorem yl{G:DH}:∀(ts:Tgs){es:AE}{ds:AS}{Y:aq}{Q:aq->Prop},cR c ts es=true->cj ts ds Y G Q->ds.length=es.length
 |.nil,es,ds,Y,Q,h,q=>by
  unfold cR at h;unfold cj at q;split at q
  .cases es with
   |nil=>rfl
   |cons _ _=>cases h
  .exact q.elim
 |.cons t r,es,ds,Y,Q,h,q=>by
  unfold cR at h;split at h
  .rw[ae]at h;unfold cj at q;split at q
   .rename_i d ds;have:∃ρ',cj r ds ρ' G Q:=Io t q;obtain ⟨ρ',q'⟩:=this;have:=yl r h.2 q';simp[this]
   .exact q.elim
  .cases h
theorem Io{G:DH}:∀(t:Tg){d:D}{Y:aq}{Q:aq->Prop},aR t d Y G Q->∃ρ',Q ρ'
 |.nm i,d,Y,Q,q=>⟨_,q⟩
 |.tp ts,d,Y,Q,q=>by
  unfold aR at q;split at q
  .exact ym ts q
  .exact ym ts q
  .exact q.elim
theorem ym{G:DH}:∀(ts:Tgs){ds:AS}{Y:aq}{Q:aq->Prop},cj ts ds Y G Q->∃ρ',Q ρ'
 |.nil,ds,Y,Q,q=>by
  unfold cj at q;split at q
  .exact ⟨_,q⟩
  .exact q.elim
 |.cons t r,ds,Y,Q,q=>by
  unfold cj at q;split at q
  .obtain ⟨ρ',q'⟩:=Io t q;exact ym r q'
  .exact q.elim
end
end
structure WalkJ(K:PF)(H:Hp)(F:FZ)(items:AS)(g:Hld)(J:It):Prop where
 go:∀H' F' G i,Ext H F H' F'->R K H' F' G->held g G->i < items.length->J.go i H'
 stop:∀H' F' G,Ext H F H' F'->R K H' F' G->held g G->J.stop items.length H'
 yld:∀H' F' i x H'' d G,Ext H F H' F'->R K H' F' G->held g G->items[i]?=some d->J.yld i H' x H''->Ext H' F' H'' F'/\R K H'' F' G/\Rep K H'' F' d x
section
variable {K:PF} {H:Hp} {F:FZ}
structure Src(K:PF)(H:Hp)(F:FZ)(u:AN)(ds:AS)(g:Hld)(k:SK):Prop where
 val:k.val=u
 sat:∀H' F' G,Ext H F H' F'->R K H' F' G->held g G->∃vs,k.Sat H' vs/\Reps K H' F' ds vs
theorem tR{d:D}{v:V}{u:AN}{G:DH}{ds:AS×Hld}(h:Rep K H F d v)(r:RelV v u)(e:itemsOf G d=some ds):∃k,Src K H F u ds.1 ds.2 k:=by
 cases d with
 |lst xs=>
  simp only[itemsOf,bq]at e;subst e;obtain ⟨a,vs,e1,q,t⟩:=h;subst e1;have hu:u=Value.ref a:=r;subst hu;exact ⟨.lst a,rfl,λH' F' G' x _ _=>⟨vs,(FzL.ext x q).2,Reps.ext x t⟩⟩
 |tup xs=>
  simp only[itemsOf,bq]at e;subst e;obtain ⟨a,vs,e1,q,t⟩:=h;subst e1;have hu:u=Value.ref a:=r;subst hu;exact ⟨.tup a,rfl,λH' F' G' x _ _=>⟨vs,(TpT.ext (K:=K) x q).it,Reps.ext x t⟩⟩
 |str l=>
  simp only[itemsOf,bq]at e;subst e;obtain ⟨e1,hl⟩:=h;subst e1;obtain ⟨t,hu⟩:∃t,u=Value.str (tx l) t:=r;subst hu;exact ⟨.str (tx l) t,rfl,λH' F' G' x _ _=>⟨_,rfl,by simpa using xN l⟩⟩
 |ref p=>
  simp only[itemsOf]at e;split at e
  .rename_i xs hg;simp only[bq]at e;subst e;have e1:v=.ref p:=h;subst e1;have hu:u=Value.ref p:=r;subst hu;exact ⟨.lst p,rfl,λH' F' G' x r' hh=>r'.lst hh.1⟩
  .cases e
 |_=>cases e
theorem tU{G:DH}{d:D}{ds:AS×Hld}(e:itemsOf G d=some ds):held ds.2 G:=by
 cases d with
 |ref p=>
  simp only[itemsOf]at e;split at e
  .rename_i xs hg;simp only[bq]at e;subst e;exact ⟨hg,trivial⟩
  .cases e
 |_=>simp only[itemsOf]at e;first | (cases e;done) | (simp only[bq]at e;subst e;exact trivial)
theorem aab{u:AN}{ds:AS}{g:Hld}{k:SK}(s:Src K H F u ds g k):WalkJ K H F ds g (Jk k) where
 go:=λH' F' G i x r hh hi=>by
  obtain ⟨vs,h1,h2⟩:=s.sat H' F' G x r hh;exact ⟨vs,h1,by rw[<-h2.length];exact hi⟩
 stop:=λH' F' G x r hh=>by
  obtain ⟨vs,h1,h2⟩:=s.sat H' F' G x r hh;exact ⟨vs,h1,h2.length.symm⟩
 yld:=λH' F' i v H'' d G x r hh hd y=>by
  obtain ⟨e,hv⟩:=y;subst e;obtain ⟨vs,h1,h2⟩:=s.sat _ F' G x r hh;obtain ⟨w,e1,rw'⟩:=h2.get hd;have e2:=hv vs h1;rw[e1]at e2;cases e2;exact ⟨Ext.refl _ _,r,rw'⟩
theorem iC:∀(n:Nat)(ds:AS),(d9 n ds).length=ds.length
 |_,[]=>rfl
 |n,d::ds=>by simp[d9,iC (n+1) ds]
theorem jn:∀(n:Nat)(ds:AS)(i:Nat),(d9 n ds)[i]?=(ds[i]?).map λd=>.tup [.int ((n+i:Nat):Int),d]
 |_,[],_=>by simp[d9]
 |n,d::ds,0=>by simp[d9]
 |n,d::ds,i+1=>by
  simp only[d9,List.getElem?_cons_succ];rw[jn (n+1) ds i];congr 1;funext d;rw[show n+1+i=n+(i+1) by omega]
theorem tV:∀(as bs:AS),(cu as bs).length=min as.length bs.length
 |[],bs=>by simp[cu]
 |a::as,[]=>by simp[cu]
 |a::as,b::bs=>by simp[cu,tV as bs]
theorem yo:∀(as bs:AS)(i:Nat)(d:D),(cu as bs)[i]?=some d->∃a b,as[i]?=some a/\bs[i]?=some b/\d=.tup [a,b]
 |[],bs,i,d,h=>by simp[cu]at h
 |a::as,[],i,d,h=>by simp[cu]at h
 |a::as,b::bs,0,d,h=>by simp[cu]at h;exact ⟨a,b,rfl,rfl,h.symm⟩
 |a::as,b::bs,i+1,d,h=>by
  simp only[cu,List.getElem?_cons_succ]at h;obtain ⟨x,y,h1,h2,h3⟩:=yo as bs i d h;exact ⟨x,y,!!h1,!!h2,h3⟩
theorem aac{u:AN}{ds:AS}{g:Hld}{k:SK}(s:Src K H F u ds g k):WalkJ K H F (d9 0 ds) g (Je k) where
 go:=λH' F' G i x r hh hi=>by
  obtain ⟨vs,h1,h2⟩:=s.sat H' F' G x r hh;exact ⟨vs,h1,by rw[<-h2.length,<-iC 0];exact hi⟩
 stop:=λH' F' G x r hh=>by
  obtain ⟨vs,h1,h2⟩:=s.sat H' F' G x r hh;exact ⟨vs,h1,by rw[iC];exact h2.length.symm⟩
 yld:=λH' F' i v H'' d G x r hh hd y=>by
  obtain ⟨vs,h1,h2⟩:=s.sat H' F' G x r hh;obtain ⟨T,y,hT,e1,e2,hv⟩:=y;subst e1 e2;rw[jn]at hd;obtain ⟨d',hd',e3⟩:=ay.mp hd;subst e3;obtain ⟨w,e1,rw'⟩:=h2.get hd';have e2:=hv vs h1;rw[e1]at e2;cases e2;refine ⟨fG r hT,r.new hT,?_⟩;rw[Nat.zero_add];exact vN r hT (Reps.cons rfl (Reps.cons rw' Reps.nil))
theorem jT{g g':Hld}{G:DH}:held (g++g') G->held g G/\held g' G:=by
 induction g with
 |nil=>exact λh=>⟨trivial,h⟩
 |cons p r ih=>
  intro h;obtain ⟨h1,h2⟩:=ih h.2;exact ⟨⟨h.1,h1⟩,h2⟩
theorem aad{u u':AN}{ds es:AS}{g g':Hld}{k l:SK}(s:Src K H F u ds g k)(s':Src K H F u' es g' l):WalkJ K H F (cu ds es) (g++g') (Jz k l) where
 go:=λH' F' G i x r hh hi=>by
  obtain ⟨vs,h1,h2⟩:=s.sat H' F' G x r (jT hh).1;obtain ⟨ws,h3,h4⟩:=s'.sat H' F' G x r (jT hh).2;rw[tV]at hi;exact ⟨vs,ws,h1,h3,by rw[<-h2.length];omega,by rw[<-h4.length];omega⟩
 stop:=λH' F' G x r hh=>by
  obtain ⟨vs,h1,h2⟩:=s.sat H' F' G x r (jT hh).1;obtain ⟨ws,h3,h4⟩:=s'.sat H' F' G x r (jT hh).2;exact ⟨vs,ws,h1,h3,by rw[tV,<-h2.length,<-h4.length];omega⟩
 yld:=λH' F' i v H'' d G x r hh hd y=>by
  obtain ⟨T,y,z,hT,e1,e2,hv,hz⟩:=y;subst e1 e2;obtain ⟨a,b,ha,hb,e3⟩:=yo _ _ _ _ hd;subst e3;obtain ⟨vs,h1,h2⟩:=s.sat H' F' G x r (jT hh).1;obtain ⟨ws,h3,h4⟩:=s'.sat H' F' G x r (jT hh).2;obtain ⟨w,e1,rw'⟩:=h2.get ha;obtain ⟨w2,e3,rw2⟩:=h4.get hb;have e2:=hv vs h1;have e4:=hz ws h3;rw[e1]at e2;cases e2;rw[e3]at e4;cases e4;exact ⟨fG r hT,r.new hT,vN r hT (Reps.cons rw' (Reps.cons rw2 Reps.nil))⟩
theorem Ip(lo:Int)(n:Nat):WalkJ K H F (aL lo n) [] (Itr lo n) where
 go:=λH' F' G i x _ _ hi=>by show i < n;simpa [aL] using hi
 stop:=λH' F' G x _ _=>by show n<=(aL lo n).length;simp[aL]
 yld:=λH' F' i v H'' d G x r _ hd y=>by
  obtain ⟨e1,e2⟩:=y;subst e1 e2;refine ⟨Ext.refl _ _,r,?_⟩;unfold aL at hd;rw[av]at hd;obtain ⟨j,hj,e3⟩:=ay.mp hd;have:j=i:=by have:=ah.mp hj;obtain ⟨h1,h2⟩:=this;simpa using h2.symm
  subst this;subst e3;rfl
end
def tI(K:PF)(B:Bs)(w:aq->DH->(AS->Hld->DH->Prop)->Prop):TI:=λX H Rr=>∃Y F G,Ext B.H B.F H F/\EnvR K H F Y X/\R K H F G/\
 w Y G (λitems g G'=>∀H' F' J,Ext H F H' F'->R K H' F' G'->WalkJ K H' F' items g J->Rr J H')
section
variable {Z:aj} {CX:CXT} {k:Nat} {c:CT} {E:EK} {B:Bs} {X:Cx}
theorem tW{p9:AC}{Y:L2.St}{H:Hp}{s:AI}(I:Inv X p9 Y H s){kk:SK}{vs:AR}(h:kk.Sat H vs):∃its:Array AN,kk.On its s.heap:=by
 cases kk with
 |lst a=>obtain ⟨its,_,pl,_⟩:=I.list (SqL.of (show H a=some _ from h));exact ⟨its.toArray,pl.isList⟩
 |tup a=>obtain ⟨its,_,pl,_⟩:=I.tuple (SqT.of (show H a=some _ from h));exact ⟨its.toArray,pl⟩
 |str x t=>exact ⟨#[],trivial⟩
theorem aae{x:Ex}(ih:OkE Z c E B X x){tg e:AO}(h:aa c x e=true):PI X tg e (tI X.K B (wpI Z (.seq x) E)):=by
 intro p9 s W H Rr I q;obtain ⟨Y,F,G,e0,he,r,hw⟩:=q;rw[wj]at hw;have q':tE X.K B (wpE Z x E) W H (λv H1=>∃F1 G1 d items,R X.K H1 F1 G1/\Rep X.K H1 F1 d v/\itemsOf G1 d=some items/\∀J,WalkJ X.K H1 F1 items.1 items.2 J->Rr J H1):=
  aO e0 he r hw λd G1 H1 F1 u q e1 x1 he1 r1 ru=>by
   split at q
   .rename_i ds hd;exact ⟨F1,G1,d,ds,r1,ru,hd,λJ w=>q H1 F1 J x1 r1 w⟩
   .exact q.elim
 refine thn (ih h p9 s W H _ I q') λu s1 ⟨v,H1,I1,rv,F1,G1,d,items,r1,rd,hd,q1⟩=>?_;obtain ⟨kk,src⟩:=tR rd rv hd;obtain ⟨vs,sat,_⟩:=src.sat H1 F1 G1 (Ext.refl _ _) r1 (tU hd);obtain ⟨its,on⟩:=tW I1 sat;rw[<-src.val];refine SK.iter on ?_;refine ⟨s1.heap.objs.size,[s1.heap.objs.size],_,_,H1,rfl,I1.kept (t':=s1.toks) λb o e=>ag _ e,YM kk _,SK.pos0,λb hb=>?_,q1 _ (aab src)⟩;have e:b=s1.heap.objs.size:=by simpa using hb
 subst e;exact I1.fpOk (am _) (I1.hok.fresh (am _))
theorem aaf(S:Stat Z CX k c E B X){a:Ex}(ih:OkE Z c E B X a){tg e:AO}(h:bj c (.rng a) tg e=true):PI X tg e (tI X.K B (wpI Z (.rng a) E)):=by
 replace h:=HN h;obtain ⟨_,_,_,_,rfl,h⟩:=h
 .simp only[ae,bm]at h;obtain ⟨⟨⟨e1,h1⟩,hm⟩,h2⟩:=h;subst e1;obtain ⟨g1,g2⟩:=dh h1;have hmg:=S.blt _ (bX.mp hm);have hs:=cz _ [] X.env (cM (bM a h2));intro p9 s W H Rr I q;refine Tz (S.glo _ g1) hmg (dY (ih h2) ig hs) hs p9 s W H Rr I ?_;obtain ⟨Y,F,G,e0,he,r,hw⟩:=q;rw[wu]at hw;refine aO e0 he r hw λd G1 H1 F1 u q e1 x1 he1 r1 ru=>?_;split at q
  .rename_i n;have e2:u=.int n:=ru;subst e2;exact ⟨n,rfl,q.1.1,q.1.2,q.2 H1 F1 _ x1 r1 (Ip 0 n.toNat)⟩
  .exact q.elim
theorem Ir{K:PF}{H:Hp}{F:FZ}(lo:Int)(n:Nat):WalkJ K H F (cQ lo n) [] (Itd lo n) where
 go:=λH' F' G i x _ _ hi=>by show i < n;simpa [cQ] using hi
 stop:=λH' F' G x _ _=>by show n<=(cQ lo n).length;simp[cQ]
 yld:=λH' F' i v H'' d G x r _ hd y=>by
  obtain ⟨e1,e2⟩:=y;subst e1 e2;refine ⟨Ext.refl _ _,r,?_⟩;unfold cQ at hd;rw[av]at hd;obtain ⟨j,hj,e3⟩:=ay.mp hd;have:j=i:=by have:=ah.mp hj;obtain ⟨h1,h2⟩:=this;simpa using h2.symm
  subst this;subst e3;rfl
theorem aag(S:Stat Z CX k c E B X){a:Ex}(ih:OkE Z c E B X a){tg e:AO}(h:bj c (.rev a) tg e=true):PI X tg e (tI X.K B (wpI Z (.rev a) E)):=by
 replace h:=HQ h;obtain ⟨_,_,_,_,_,_,_,rfl,h⟩:=h;simp only[ae,bm]at h;obtain ⟨⟨⟨⟨⟨⟨e1,h1⟩,hm⟩,e2⟩,h2⟩,hm2⟩,h3⟩:=h;subst e1 e2;obtain ⟨g1,_⟩:=dh h1;obtain ⟨g2,_⟩:=dh h2;have hmg:=S.blt _ (bX.mp hm);have hmg2:=S.blt _ (bX.mp hm2);have hs:=cz _ [] X.env (cM (bM a h3));intro p9 s W H Rr I q;refine Wg (S.glo _ g1) hmg (S.glo _ g2) hmg2 (dY (ih h3) ig hs) hs p9 s W H Rr I ?_;obtain ⟨Y,F,G,e0,he,r,hw⟩:=q;rw[wy]at hw;refine aO e0 he r hw λd G1 H1 F1 u q e1 x1 he1 r1 ru=>?_;split at q
 .rename_i n;have e2:u=.int n:=ru;subst e2;exact ⟨n,rfl,q.1.1,q.1.2,q.2 H1 F1 _ x1 r1 (Ir _ n.toNat)⟩
 .exact q.elim
theorem aah(S:Stat Z CX k c E B X){a b d:Ex}(iha:OkE Z c E B X a)(ihb:OkE Z c E B X b)(ihd:OkE Z c E B X d){tg e:AO}(h:bj c (.dwn a b d) tg e=true):PI X tg e (tI X.K B (wpI Z (.dwn a b d) E)):=by
 replace h:=HR h;obtain ⟨_,_,v,v',v'',pos,rfl,h⟩:=h;simp only[ae,bm]at h;obtain ⟨⟨⟨⟨⟨e1,h1⟩,hm⟩,h2⟩,h3⟩,h4⟩:=h;subst e1;obtain ⟨g1,g2⟩:=dh h1;have hmg:=S.blt _ (bX.mp hm);have hs3:=cz v'' [] X.env (cM (bM d h4));have hs2:=cz v' [v''] X.env (cM (bM b h3));have hs:=cz v [v',v''] X.env (cM (bM a h2));intro p9 s W H Rr I q;refine Wi (S.glo _ g1) hmg (dY (iha h2) (dY (ihb h3) (dY (ihd h4) ig hs3) hs2) hs) (by rw[hs,hs2,hs3];rfl) (by rw[hs2,hs3];rfl) p9 s W H Rr I ?_;obtain ⟨Y,F,G,e0,he,r,hw⟩:=q;rw[wz]at hw;refine aO e0 he r hw λd G1 H1 F1 u q e1 x1 he1 r1 ru=>aO e1 he1 r1 q λd' G2 H2 F2 u' q e2 x2 he2 r2 ru'=>aO e2 he2 r2 q λd'' G3 H3 F3 u'' q e3 x3 he3 r3 ru''=>?_;cases d with
 |int m=>
  cases d' with
  |int n=>
   cases d'' with
   |int s=>
    have e3:u=.int m:=ru;have e4:u'=.int n:=ru';have e5:u''=.int s:=ru'';subst e3 e4 e5;obtain ⟨⟨es,q1⟩,q2⟩:=q;subst es;exact ⟨m,n,rfl,q1,q2 H3 F3 _ ((x1.trans x2).trans x3) r3 (Ir m (m - n).toNat)⟩
   |_=>exact (show False from q).elim
  |_=>exact (show False from q).elim
 |_=>exact (show False from q).elim
theorem aai(S:Stat Z CX k c E B X){a b:Ex}(iha:OkE Z c E B X a)(ihb:OkE Z c E B X b){tg e:AO}(h:bj c (.rng2 a b) tg e=true):PI X tg e (tI X.K B (wpI Z (.rng2 a b) E)):=by
 replace h:=HS h;obtain ⟨_,_,v,v',pos,rfl,h⟩:=h
 .simp only[ae,bm]at h;obtain ⟨⟨⟨⟨e1,h1⟩,hm⟩,h2⟩,h3⟩:=h;subst e1;obtain ⟨g1,g2⟩:=dh h1;have hmg:=S.blt _ (bX.mp hm);have hs2:=cz v' [] X.env (cM (bM b h3));have hs:=cz v [v'] X.env (cM (bM a h2));intro p9 s W H Rr I q;refine TF (S.glo _ g1) hmg (dY (iha h2) (dY (ihb h3) ig hs2) hs) (by rw[hs,hs2];rfl) hs2 p9 s W H Rr I ?_;obtain ⟨Y,F,G,e0,he,r,hw⟩:=q;rw[ww]at hw;refine aO e0 he r hw λd G1 H1 F1 u q e1 x1 he1 r1 ru=>aO e1 he1 r1 q λd' G2 H2 F2 u' q e2 x2 he2 r2 ru'=>?_;cases d with
  |int m=>
   cases d' with
   |int n=>
    have e3:u=.int m:=ru;have e4:u'=.int n:=ru';subst e3 e4;exact ⟨m,n,rfl,q.1,q.2 H2 F2 _ (x1.trans x2) r2 (Ip m (n - m).toNat)⟩
   |_=>exact (show False from q).elim
  |_=>exact (show False from q).elim
theorem aaj(S:Stat Z CX k c E B X){a:Ex}(ih:OkE Z c E B X a){tg e:AO}(h:bj c (.enm a) tg e=true):PI X tg e (tI X.K B (wpI Z (.enm a) E)):=by
 replace h:=HW h;obtain ⟨_,_,_,_,_,_,_,rfl,rfl,h⟩:=h
 .skip
  .simp only[ae,bm]at h;obtain ⟨⟨⟨e1,h1⟩,hm⟩,h2⟩:=h;subst e1;obtain ⟨g1,g2⟩:=dh h1;have hmg:=S.blt _ (bX.mp hm);have hs:=cz _ [] X.env (cM (bM a h2));intro p9 s V H Rr I q;obtain ⟨Y,F,G,e0,he,r,hw⟩:=q;rw[wA]at hw;have q':tL X.K B (bF Z (.cons a .nil) E) V H (λvs H1=>∃v F1 G1 d items,vs=[v]/\R X.K H1 F1 G1/\Rep X.K H1 F1 d v/\itemsOf G1 d=some items/\∀J,WalkJ X.K H1 F1 (d9 0 items.1) items.2 J->Rr J H1):=by
    refine fM (W:=λds G1=>∃d items,ds=[d]/\itemsOf G1 d=some items/\∀H' F' J,Ext H F H' F'->R X.K H' F' G1->WalkJ X.K H' F' (d9 0 items.1) items.2 J->Rr J H') e0 he r ?_ λds G1 H1 F1 vs q e1 x1 he1 r1 rvs=>?_
    .rw[jb];refine aK a (λd G1 q=>?_) hw;rw[jM];split at q
     .rename_i items hd;exact ⟨d,items,rfl,hd,q⟩
     .exact q.elim
    .obtain ⟨d,items,e2,hd,q⟩:=q;subst e2;obtain ⟨v,e3,rv⟩:=cF rvs;exact ⟨v,F1,G1,d,items,e3,r1,rv,hd,λJ w=>q H1 F1 J x1 r1 w⟩
   refine Call_ (fY I (S.glo _ g1) hmg (u:=.type "enumerate") boot_enumerate (dy (thn (tB ih (λh=>yh h) (c:=c) (es:=[_]) (by unfold aN;show (aa c a _&&true)=true;rw[h2];rfl) _ p9 s V H _ I q') λus s1 ⟨vs,H1,I1,r1v,q1⟩=>?_) hs rfl) (dU g2) (cW g2));obtain ⟨v,F1,G1,d,items,e1,r1,rd,hd,q1⟩:=q1;subst e1;obtain ⟨u,rfl,ru⟩:=vals1 r1v;obtain ⟨kk,src⟩:=tR rd ru hd;obtain ⟨vs,sat,_⟩:=src.sat H1 F1 G1 (Ext.refl _ _) r1 (tU hd);obtain ⟨its,on⟩:=tW I1 sat;rw[<-src.val];refine Y5 on λh' hen hit hsz hk=>?_;refine wpAny_pyIter_enum hen ?_;have n1:H1 s1.heap.objs.size=none:=I1.hok.fresh (am _);have n2:H1 (s1.heap.objs.size+1)=none:=I1.hok.fresh (ga _);refine ⟨s1.heap.objs.size+1,[s1.heap.objs.size+1,s1.heap.objs.size],_,_,H1,rfl,I1.kept (t':=s1.toks) hk,YL kk _ _ (Nat.succ_ne_self _),⟨⟨_,hen⟩,hit⟩,λb hb=>?_,q1 _ (aac src)⟩;have hb':b=s1.heap.objs.size+1\/b=s1.heap.objs.size:=by simpa using hb
   rcases hb' with rfl |rfl
   .exact I1.fpOk (ga _) n2
   .exact I1.fpOk (am _) n1
theorem zap(n:Nat):ZApart (n+4) (n+2) (n+3) n (n+1):=
 ⟨(by omega:(n+2:Nat)≠n+4),(by omega:(n+3:Nat)≠n+4),(by omega:(n:Nat)≠n+4),(by omega:(n+1:Nat)≠n+4),(by omega:(n+2:Nat)≠n+3),(by omega:(n+2:Nat)≠n),(by omega:(n+2:Nat)≠n+1),(by omega:(n+3:Nat)≠n),(by omega:(n+3:Nat)≠n+1),(by omega:(n:Nat)≠n+1)⟩
theorem aak(S:Stat Z CX k c E B X){a b:Ex}(iha:OkE Z c E B X a)(ihb:OkE Z c E B X b){tg e:AO}(h:bj c (.zip a b) tg e=true):PI X tg e (tI X.K B (wpI Z (.zip a b) E)):=by
 replace h:=HX h;obtain ⟨_,_,_,_,_,v,v',pos,rfl,rfl,h⟩:=h
 .skip
  .simp only[ae,bm]at h;obtain ⟨⟨⟨⟨e1,h1⟩,hm⟩,h2⟩,h3⟩:=h;subst e1;obtain ⟨g1,g2⟩:=dh h1;have hmg:=S.blt _ (bX.mp hm);have hs2:=cz v' [] X.env (cM (bM b h3));have hs:=cz v [v'] X.env (cM (bM a h2));intro p9 s V H Rr I q;obtain ⟨Y,F,G,e0,he,r,hw⟩:=q;rw[wB]at hw;have hA:aN c (.cons a (.cons b .nil)) [v,v']=true:=by
    unfold aN aN aN;show (aa c a v&&(aa c b v'&&true))=true;rw[h2,h3];rfl
   have q':tL X.K B (bF Z (.cons a (.cons b .nil)) E) V H (λvs H1=>∃v v' F1 G1 d d' items items',vs=[v,v']/\R X.K H1 F1 G1/\Rep X.K H1 F1 d v/\Rep X.K H1 F1 d' v'/\itemsOf G1 d=some items/\itemsOf G1 d'=some items'/\∀J,WalkJ X.K H1 F1 (cu items.1 items'.1) (items.2++items'.2) J->Rr J H1):=by
    refine fM (W:=λds G1=>∃d d' items items',ds=[d,d']/\itemsOf G1 d=some items/\itemsOf G1 d'=some items'/\∀H' F' J,Ext H F H' F'->R X.K H' F' G1->WalkJ X.K H' F' (cu items.1 items'.1) (items.2++items'.2) J->Rr J H') e0 he r ?_ λds G1 H1 F1 vs q e1 x1 he1 r1 rvs=>?_
    .rw[jb];refine aK a (λd G1 q=>?_) hw;rw[jb];refine aK b (λd' G2 q=>?_) q;rw[jM];split at q
     .rename_i items items' hd hd';exact ⟨d,d',items,items',rfl,hd,hd',q⟩
     .exact q.elim
    .obtain ⟨d,d',items,items',e2,hd,hd',q⟩:=q;subst e2;obtain ⟨w1,r2,e3,rw1,t2⟩:=rvs;obtain ⟨w2,e4,rw2⟩:=cF t2;subst e4;exact ⟨w1,w2,F1,G1,d,d',items,items',e3,r1,rw1,rw2,hd,hd',λJ w=>q H1 F1 J x1 r1 w⟩
   refine Call_ (fY I (S.glo _ g1) hmg (u:=.type "zip") V3 (dy (thn (tB iha (λh=>tB ihb (λh=>yh h) h) (c:=c) (es:=[v,v']) hA _ p9 s V H _ I q') λus s1 ⟨vs,H1,I1,r1v,q1⟩=>?_) hs (by rw[hs2];rfl)) (dU g2) (cW g2));obtain ⟨w1,w2,F1,G1,d,d',items,items',e1,r1,rd,rd',hd,hd',q1⟩:=q1;subst e1;obtain ⟨u,u',rfl,ru,ru'⟩:=vals2 r1v;obtain ⟨kk,src⟩:=tR rd ru hd;obtain ⟨ll,src'⟩:=tR rd' ru' hd';obtain ⟨vs,sat,_⟩:=src.sat H1 F1 G1 (Ext.refl _ _) r1 (tU hd);obtain ⟨ws,sat',_⟩:=src'.sat H1 F1 G1 (Ext.refl _ _) r1 (tU hd');obtain ⟨its,on⟩:=tW I1 sat;obtain ⟨its',on'⟩:=tW I1 sat';rw[<-src.val,<-src'.val];refine Y0 on on' λh' hz hTI hTO p1 p2 hsz hk=>?_;refine wpAny_pyIter_zip hz ?_;have fr:∀j,H1 (s1.heap.objs.size+j)=none:=λj=>I1.hok.fresh (d6 _ _);refine ⟨s1.heap.objs.size+4,[s1.heap.objs.size+4,s1.heap.objs.size+2,s1.heap.objs.size+3,s1.heap.objs.size,s1.heap.objs.size+1],_,_,H1,rfl,I1.kept (t':=s1.toks) hk,
    YW kk ll (s1.heap.objs.size+4) (s1.heap.objs.size+2) (s1.heap.objs.size+3) s1.heap.objs.size (s1.heap.objs.size+1) (zap s1.heap.objs.size),⟨hz,hTI,⟨_,_,hTO⟩,p1,p2⟩,λb hb=>?_,q1 _ (aad src src')⟩
   have hb':b=s1.heap.objs.size+4\/b=s1.heap.objs.size+2\/b=s1.heap.objs.size+3\/b=s1.heap.objs.size\/b=s1.heap.objs.size+1:=by simpa using hb
   rcases hb' with rfl |rfl |rfl |rfl |rfl
   .exact I1.fpOk (d6 _ _) (fr 4)
   .exact I1.fpOk (d6 _ _) (fr 2)
   .exact I1.fpOk (d6 _ _) (fr 3)
   .exact I1.fpOk (am _) (fr 0)
   .exact I1.fpOk (d6 _ _) (fr 1)
end
section
variable {Z:aj} {CX:CXT} {k:Nat} {c:CT} {E:EK} {B:Bs} {X:Cx}
theorem yp:∀{l:AD},dz l=true->l.Nodup
 |[],_=>List.nodup_nil
 |x::r,h=>by
  unfold dz at h;rw[ae]at h;refine fg.mpr ⟨λhm=>?_,yp h.2⟩;have:=h.1;rw[bX.mpr hm]at this;cases this
theorem jU{N:AD}{scope:Scope}:∀{N':AD}{cap:List (Option Nat)},X.N=N->fL N scope N' cap=true->Caps X scope N' cap
 |[],[],_,_=>trivial
 |_::N',none::cap,e,h=>jU (N':=N') (cap:=cap) e h
 |x::N',some j::cap,e,h=>by
  unfold fL at h;simp only[ae,bm]at h;exact ⟨⟨by rw[e];exact h.1.1,h.1.2⟩,jU (N':=N') (cap:=cap) e h.2⟩
 |[],_::_,_,h=>by cases h
 |_::_,[],_,h=>by cases h
theorem lU{scope:Scope}{env:Env}(x:Str):(relabel scope env).names.lookup x=(scope.names.lookup x).map λkk=>if (kk==NameKind.free&&env.scope.kind==.function&&env.kindOf x==some .cell)=true then NameKind.cell else kk:=vp
theorem Stat.comp(S:Stat Z CX k c E B X){N':AD}{scope:Scope}(hn:dz N'=true)(cl:List (Str×AQ))(C:AQ)(s₁:AI)(H₁:Hp)(fp:List AQ)(pn:AC):
  Stat Z CX k (c.comp N' scope) noE B (X.comp N' scope cl C s₁ H₁ fp pn) where
 N:=rfl
 nd:=yp hn
 calm:=S.calm
 own:=PassesOwn.never
 kd:=rfl
 vis:=λx h=>by
  have h:jg (scope.names.lookup x)=true:=h;show (relabel scope X.env).names.lookup x=_\/(relabel scope X.env).names.lookup x=_\/(relabel scope X.env).names.lookup x=_;rw[lU];cases e:scope.names.lookup x with
  |none=>rw[e]at h;cases h
  |some kk=>
   rw[e]at h;cases kk with
   | «local»=>exact .inl (by simp[show (NameKind.«local»==NameKind.free)=false by decide])
   |cell=>exact .inr (.inl (by simp[show (NameKind.cell==NameKind.free)=false by decide]))
   |free=>
    by_cases q:(NameKind.free==NameKind.free&&X.env.scope.kind==ScopeKind.function&&X.env.kindOf x==some NameKind.cell)=true
    .exact .inr (.inl (by simp only[Option.map_some,if_pos q]))
    .exact .inr (.inr (by simp only[Option.map_some,if_neg q]))
   |globalExplicit=>cases h
   |globalImplicit=>cases h
 cel:=λx h=>by
  have h:scope.names.lookup x=some .cell\/scope.names.lookup x=some .free:=h;show (relabel scope X.env).names.lookup x=_\/(relabel scope X.env).names.lookup x=_;rw[lU];rcases h with h |h
  .exact .inl (by rw[h];simp[show (NameKind.cell==NameKind.free)=false by decide])
  .rw[h];by_cases q:(NameKind.free==NameKind.free&&X.env.scope.kind==ScopeKind.function&&X.env.kindOf x==some NameKind.cell)=true
   .exact .inl (by simp only[Option.map_some,if_pos q])
   .exact .inr (by simp only[Option.map_some,if_neg q])
 glo:=λx h=>by
  have h:scope.names.lookup x=some .globalImplicit:=h;show (relabel scope X.env).names.lookup x=_;rw[lU,h];simp[show (NameKind.globalImplicit==NameKind.free)=false by decide]
 sto:=λx h=>by
  have h:(scope.names.lookup x==some .local||(false&&scope.names.lookup x==some .cell))=true:=h;rw[Bool.false_and,Bool.or_false,bm]at h;have e:(relabel scope X.env).names.lookup x=some .local:=by rw[lU,h];simp[show (NameKind.«local»==NameKind.free)=false by decide]
  exact ⟨.inl e,.inr e⟩
 room:=S.room
 call:=S.call
 blt:=S.blt
 con:=S.con
 exc:=⟨_,S.nox _,λ_ _ _ _ _ _ _ _ _ _ q=>q.elim,λx G' H' F' h=>h.elim⟩
 nox:=S.nox
 xcl:=λC h=>nZf h
 loc:=λx h=>by show (relabel scope X.env).names.lookup x=_;rw[lU,show scope.names.lookup x=some .local from h];simp[show (NameKind.«local»==NameKind.free)=false by decide]
 xis:=λC h=>nZf h
 mth:=S.mth
 mko:=S.mko
 fld:=S.fld
 xko:=λC f h=>⟨(S.xko C f h).1,λ_ _ z=>nomatch (show false=true from z)⟩
 trc:=λh=>absurd rfl h
theorem aal(S:Stat Z CX k c E B X){t:Tx}(ih:OkT Z c E B X t){ifs:AE}(h:lN c t ifs=true):PIf X ifs (tB' X.K B (wpT Z t E)):=by
 unfold lN at h;rw[dn]at h;rcases h with h |h
 .rw[ae,io]at h;obtain ⟨hy,rfl⟩:=h;cases t with
  |yes=>
   intro p9 s W H Q I q;refine VB p9 s W H Q I ?_;obtain ⟨Y,F,G,e0,he,r,hw⟩:=q;rw[vZ]at hw;exact hw.now r
  |_=>cases hy
 .obtain ⟨e,he,h⟩:=aZ h;rw[eE he];exact VD (ih h)
theorem Iu(S:Stat Z CX k c E B X){fz:Bool}{elt:Ex}{tg:Tg}{it:It'}{cond:Tx}{N':AD}{cap:List (Option Nat)}{scope:Scope}{elt' tg':AO}{ifs:AE}(hn:dz N'=true)
  (ihe:∀{X':Cx},Stat Z CX k (c.comp N' scope) noE B X'->OkE Z (c.comp N' scope) noE B X' elt) (iht:∀{X':Cx},Stat Z CX k (c.comp N' scope) noE B X'->OkT Z (c.comp N' scope) noE B X' cond)
  (hg:bG (c.comp N' scope) tg tg'=true) (hi:lN (c.comp N' scope) cond ifs=true) (he:aa (c.comp N' scope) elt elt'=true)
  {V:L2.St} {H:Hp} {Q:VK} {Y:aq} {F:FZ} {G:DH} (e0:Ext B.H B.F H F) (henv:EnvR X.K H F Y V) (r:R X.K H F G)
  (hw:wpI Z it E Y G λitems g G1=>
   compLoop (λd ρ' G' k'=>aR tg d ρ' G' λρ1=>wpT Z cond noE ρ1 G' λb G2=>match b with |true=>wpE Z elt noE ρ1 G2 λy G3=>k' (some y) ρ1 G3 |false=>k' none ρ1 G2)
    g items [] (cap.map λo=>match o with |none=>none |some j=>(Y[j]?).join) G1 λds G2=>mk fz ds G2 (PV X.K H F Q)):
  tI X.K B (wpI Z it E) V H (λJ H1=>vC true X N' scope tg' (emT ifs elt') J (d7 cap V) H1 Q):=by
 refine ⟨Y,F,G,e0,henv,r,gf it (λitems g G1 q H1 F1 J x1 r1 W=>?_) hw⟩;let step:D->aq->DH->(Option D->aq->DH->Prop)->Prop:=λd ρ' G' k'=>aR tg d ρ' G' λρ1=>wpT Z cond noE ρ1 G' λb G2=>match b with |true=>wpE Z elt noE ρ1 G2 λy G3=>k' (some y) ρ1 G3 |false=>k' none ρ1 G2
 let fin:AS->DH->Prop:=λds G2=>mk fz ds G2 (PV X.K H F Q)
 refine ⟨λi m ys σ' H'=>m=items.length - i/\i<=items.length/\∃ρ' F' G' acc,Ext B.H B.F H' F'/\Ext H1 F1 H' F'/\EnvR X.K H' F' ρ' σ'/\R X.K H' F' G'/\Reps X.K H' F' acc ys/\compLoop step g (items.drop i) acc ρ' G' fin,
  ⟨items.length,by simp,eP _,_,F1,G1,[],e0.trans x1,Ext.refl _ _,(henv.ext x1).cap cap,r1,rfl,q⟩,?_⟩
 rintro i m ys σ' H' ⟨rfl,hle,ρ',F',G',acc,eB,e1,he',r',ra,hl⟩;by_cases hlt:i < items.length
 .have hd:items.drop i=items[i]::items.drop (i+1):=bP hlt;rw[hd]at hl;obtain ⟨hh,hz,hl⟩:=hl;refine .inr ⟨W.go H' F' G' i e1 r' hh hlt,λ_=>by rw[<-ra.length];exact b9 hz szl,λcl C s₁ H₁ fp pn=>?_⟩;have S':=S.comp (scope:=scope) hn cl C s₁ H₁ fp pn;refine ⟨_,tmT _ _,jm S' tg hg,λa ha=>Wu rfl ha (aal S' (iht S') hi) (ihe S' he),λx H2 hy=>?_⟩;obtain ⟨xy,ry,rx⟩:=W.yld H' F' i x H2 items[i] G' e1 r' hh (by simp[hlt]) hy;refine ⟨ρ',F',G',items[i],eB.trans xy,he'.ext xy,ry,rx,dI (λρ1 z σ1 hσ1=>?_) tg hl⟩;unfold tmT;refine jk (eB.trans xy) hσ1 ry z λb G2 H3 F3 z e3 x3 he3 r3=>?_;cases b with
  |true=>
   rw[if_pos rfl];refine aO e3 he3 r3 z λy G4 H4 F4 v z e4 x4 he4 r4 rv=>?_;exact ⟨items.length - (i+1),!0,rfl,hlt,ρ1,F4,G4,acc++[y],e4,e1.trans (xy.trans (x3.trans x4)),he4,r4,(Reps.ext (xy.trans (x3.trans x4)) ra).append (Reps.cons rv Reps.nil),z⟩
  |false=>
   rw[if_neg bn];exact ⟨items.length - (i+1),!0,rfl,hlt,ρ1,F3,G2,acc,e3,e1.trans (xy.trans x3),he3,r3,Reps.ext (xy.trans x3) ra,z⟩
 .have hi':i=items.length:=by omega
  subst hi';rw[dP]at hl;obtain ⟨hh,hz,hl⟩:=hl;refine .inl ⟨W.stop H' F' G' e1 r' hh,by rw[<-ra.length];exact dM hz,λp hp=>?_⟩;exact gh (dg (λd G' z=>PV.later z (x1.trans e1)) hl) r' ra p hp
structure CompC(c:CT)(elt:Ex)(tg:Tg)(it:It')(cond:Tx)(N':AD)(cap:List (Option Nat))(elt' tg' iter:AO)(ifs:AE)(scope:Scope):Prop where
 it:bj c it tg' iter=true
 cap:fL c.N scope N' cap=true
 sc:gR c scope=true
 nd:dz N'=true
 tg:bG (c.comp N' scope) tg tg'=true
 cd:lN (c.comp N' scope) cond ifs=true
 el:aa (c.comp N' scope) elt elt'=true
theorem tX(S:Stat Z CX k c E B X){scope:Scope}(h:gR c scope=true):scope.names.all (λy=>y.2 != NameKind.cell)=true/\scope.names.all (λy=>y.2 != NameKind.local||scope.names.lookup y.1==some NameKind.local)=true/\
  scope.names.all (λy=>y.2 != NameKind.free||(X.env.kindOf y.1==some NameKind.cell||X.env.kindOf y.1==some NameKind.free))=true/\scope.kind=.function:=by
 unfold gR at h;simp only[ae,cf]at h;obtain ⟨⟨⟨⟨h1,h2⟩,h3⟩,h4⟩,_⟩:=h;refine ⟨h1,h2,?_,h4⟩;rw[df]at h3 ⊢;intro y hy;have:=h3 y hy;rw[dn,dn,bm,bm]at this;rw[dn,dn,bm,bm];rcases this with q |q
 .exact .inl q
 .exact .inr (S.cel y.1 q)
theorem Iv{fz:Bool}{elt:Ex}{tg:Tg}{it:It'}{cond:Tx}{N:List AL}{cap:List (Option Nat)}{e:AO}(h:aa c (.comp fz elt tg it cond N cap) e=true):
  ∃elt' tg' iter ifs scope pos,e=.ListComp elt' [⟨tg',iter,ifs,0⟩] scope pos/\CompC c elt tg it cond (N.map Str.ofString) cap elt' tg' iter ifs scope:=by
 replace h:=HJ h;obtain ⟨_,_,_,_,_,_,_,rfl,h⟩:=h;simp only[ae,cf]at h;obtain ⟨⟨⟨⟨⟨⟨⟨h1,h2⟩,h3⟩,h4⟩,h5⟩,h6⟩,h7⟩,h8⟩:=h;subst h1;exact ⟨_,_,_,_,_,_,rfl,h2,h3,h4,h5,h6,h7,h8⟩
theorem gW{it:It'}{tg' iter:AO}(h:bj c it tg' iter=true)(env:Env)(x:AN):foldedSetIterable iter env x=pure x:=by
 cases it with
 |seq y=>exact Zr (bM y (show aa c y iter=true from h)) env x
 |rng a=>obtain ⟨_,_,_,_,rfl,_⟩:=HN h;rfl
 |rng2 a b=>obtain ⟨_,_,_,_,_,rfl,_⟩:=HS h;rfl
 |rev a=>obtain ⟨_,_,_,_,_,_,_,rfl,_⟩:=HQ h;rfl
 |dwn a b d=>obtain ⟨_,_,_,_,_,_,rfl,_⟩:=HR h;rfl
 |enm a=>obtain ⟨_,_,_,_,_,_,_,_,rfl,_⟩:=HW h;rfl
 |zip a b=>obtain ⟨_,_,_,_,_,_,_,_,_,rfl,_⟩:=HX h;rfl
theorem aam(S:Stat Z CX k c E B X){fz:Bool}{elt:Ex}{tg:Tg}{it:It'}{cond:Tx}{N:List AL}{cap:List (Option Nat)}
  (ihe:∀{c':CT}{X':Cx},Stat Z CX k c' noE B X'->OkE Z c' noE B X' elt) (iht:∀{c':CT}{X':Cx},Stat Z CX k c' noE B X'->OkT Z c' noE B X' cond)
  (ihi:∀{tg' iter:AO},bj c it tg' iter=true->PI X tg' iter (tI X.K B (wpI Z it E))) {e:AO} (h:aa c (.comp fz elt tg it cond N cap) e=true):
  PE X e (tE X.K B (wpE Z (.comp fz elt tg it cond N cap) E)):=by
 obtain ⟨elt',tg',iter,ifs,scope,pos,rfl,C⟩:=Iv h;obtain ⟨s1,s2,s3,s4⟩:=tX S C.sc;refine peI (Dz (lim:=true) (N.map Str.ofString) cap S.calm (ihi C.it) (jU S.N C.cap) s1 s2 s3 s4 (gW C.it X.env) (Du _ _ _ _ _ _)) λW H Q hq=>el hq λY F G e0 he r hw=>?_;rw[xu]at hw;exact Iu S C.nd (λS'=>ihe S') (λS'=>iht S') C.tg C.cd C.el e0 he r hw
def RelM(K:PF)(B:Bs)(eD:AS->aq->DH->(AS->aq->DH->Prop)->Prop)(tm:TM):Prop:=
 ∀(X:L2.St)(H:Hp)(Y:aq)(F:FZ)(G:DH)(acc:AS)(ys:AR)(W:AS->aq->DH->Prop)(Q:AR->L2.St->Hp->Prop),Ext B.H B.F H F->EnvR K H F Y X->R K H F G->Reps K H F acc ys->eD acc Y G W->
  (∀acc' ρ' G' H' F' σ' ys',W acc' ρ' G'->Ext H F H' F'->EnvR K H' F' ρ' σ'->R K H' F' G'->Reps K H' F' acc' ys'->Q ys' σ' H')->tm ys X H Q
theorem aan{K:PF}{elt:Ex}:RelM K B (λacc Y G k=>acc.length < sz/\wpE Z elt noE Y G λy G'=>k (acc++[y]) Y G') (tmE (tE K B (wpE Z elt noE))):=by intro X H Y F G acc ys W Q e0 he r ra hw hk;refine ⟨by rw[<-ra.length];exact b9 hw.1 szl,aO e0 he r hw.2 λy G1 H1 F1 v q e1 x1 he1 r1 rv=>?_⟩;exact hk _ _ _ H1 F1 _ _ q x1 he1 r1 ((Reps.ext x1 ra).append (Reps.cons rv Reps.nil))
theorem Iw{K:PF}{t:Tg}{eD:AS->aq->DH->(AS->aq->DH->Prop)->Prop}{tm:TM}(hr:RelM K B eD tm){items:AS}{g:Hld}{Y:aq}{G:DH}{acc:AS}{ys:AR}{X:L2.St}{H:Hp}{F:FZ}{J:It}{W:AS->aq->DH->Prop}{Q:AR->L2.St->Hp->Prop}
  (e0:Ext B.H B.F H F) (he:EnvR K H F Y X) (r:R K H F G) (ra:Reps K H F acc ys) (Wk:WalkJ K H F items g J) (hw:dH (λd acc ρ' G' k=>aR t d ρ' G' λρ1=>eD acc ρ1 G' k) g items acc Y G W)
  (hk:∀acc' ρ' G' H' F' σ' ys',W acc' ρ' G'->Ext H F H' F'->EnvR K H' F' ρ' σ'->R K H' F' G'->Reps K H' F' acc' ys'->Q ys' σ' H'):Dv J (tG K B t) tm ys X H Q:=by
 refine ⟨λi m ys σ' H'=>m=items.length - i/\i<=items.length/\∃ρ' F' G' acc,Ext B.H B.F H' F'/\Ext H F H' F'/\EnvR K H' F' ρ' σ'/\R K H' F' G'/\Reps K H' F' acc ys/\dH (λd acc ρ' G' k=>aR t d ρ' G' λρ1=>eD acc ρ1 G' k) g (items.drop i) acc ρ' G' W,
  ⟨items.length,by simp,eP _,Y,F,G,acc,e0,Ext.refl _ _,he,r,ra,hw⟩,?_⟩
 rintro i m ys σ' H' ⟨rfl,hle,ρ',F',G',acc,eB,e1,he',r',ra,hl⟩;by_cases hlt:i < items.length
 .have hd:items.drop i=items[i]::items.drop (i+1):=bP hlt;rw[hd]at hl;obtain ⟨hh,hl⟩:=hl;refine .inr ⟨Wk.go H' F' G' i e1 r' hh hlt,λx H2 hy=>?_⟩;obtain ⟨xy,ry,rx⟩:=Wk.yld H' F' i x H2 items[i] G' e1 r' hh (by simp[hlt]) hy;refine ⟨ρ',F',G',items[i],eB.trans xy,he'.ext xy,ry,rx,dI (λρ1 z σ1 hσ1=>?_) t hl⟩;refine hr _ _ _ _ _ _ _ _ _ (eB.trans xy) hσ1 ry (Reps.ext xy ra) z λacc' ρ2 G2 H3 F3 σ3 ys3 q x3 he3 r3 ra3=>?_;exact ⟨items.length - (i+1),!0,rfl,hlt,ρ2,F3,G2,acc',(eB.trans xy).trans x3,e1.trans (xy.trans x3),he3,r3,ra3,q⟩
 .have hi':i=items.length:=by omega
  subst hi';rw[dP]at hl;exact .inl ⟨Wk.stop H' F' G' e1 r' hl.1,hk _ _ _ _ _ _ _ hl.2 e1 he' r' ra⟩
theorem Iz{K:PF}{t:Tg}{it:It'}{eD:AS->aq->DH->(AS->aq->DH->Prop)->Prop}{tm:TM}(hr:RelM K B eD tm):
  RelM K B (λacc Y G k=>wpI Z it noE Y G λitems g G1=>dH (λd acc ρ' G' k=>aR t d ρ' G' λρ1=>eD acc ρ1 G' k) g items acc Y G1 k) (tmG (tI K B (wpI Z it noE)) (tG K B t) tm):=by
 intro X H Y F G acc ys W Q e0 he r ra hw hk;refine ⟨Y,F,G,e0,he,r,gf it (λitems g G1 q H1 F1 J x1 r1 Wk=>?_) hw⟩;exact Iw hr (e0.trans x1) (he.ext x1) r1 (Reps.ext x1 ra) Wk q λacc' ρ' G' H' F' σ' ys' z x2 he2 r2 ra2=>hk _ _ _ _ _ _ _ z (x1.trans x2) he2 r2 ra2
theorem IK(S:Stat Z CX k c E B X){elt:Ex}{t1 t2 t3:Tg}{i1 i2 i3:It'}{N':AD}{cap:List (Option Nat)}{scope:Scope}{elt' a1 b1 a2 b2 a3 b3:AO}{pos:Pos}(hn:dz N'=true)
  (ihe:∀{X':Cx},Stat Z CX k (c.comp N' scope) noE B X'->OkE Z (c.comp N' scope) noE B X' elt)
  (ih2:∀{X':Cx},Stat Z CX k (c.comp N' scope) noE B X'->PI X' a2 b2 (tI X'.K B (wpI Z i2 noE))) (ih3:∀{X':Cx},Stat Z CX k (c.comp N' scope) noE B X'->PI X' a3 b3 (tI X'.K B (wpI Z i3 noE)))
  (f2:∀env x,foldedSetIterable b2 env x=pure x) (f3:∀env x,foldedSetIterable b3 env x=pure x)
  (hg1:bG (c.comp N' scope) t1 a1=true) (hg2:bG (c.comp N' scope) t2 a2=true) (hg3:bG (c.comp N' scope) t3 a3=true) (he:aa (c.comp N' scope) elt elt'=true)
  {V:L2.St} {H:Hp} {Q:VK} {Y:aq} {F:FZ} {G:DH} (e0:Ext B.H B.F H F) (henv:EnvR X.K H F Y V) (r:R X.K H F G)
  (hw:wpE Z (.cm3 elt t1 i1 t2 i2 t3 i3 N0 cap) E Y G (PV X.K H F Q)):
  tI X.K B (wpI Z i1 E) V H (λJ H1=>vC false X N' scope a1 (emG (.ListComp elt' [⟨a1,b1,[],0⟩,⟨a2,b2,[],0⟩,⟨a3,b3,[],0⟩] scope pos) 1 b2) J (d7 cap V) H1 Q):=by
 rw[xF]at hw;refine ⟨Y,F,G,e0,henv,r,gf i1 (λitems g G1 q H1 F1 J x1 r1 W=>?_) hw⟩;have rel:=Iz (Z:=Z) (K:=X.K) (B:=B) (t:=t2) (it:=i2) (Iz (Z:=Z) (t:=t3) (it:=i3) (aan (Z:=Z) (elt:=elt)));obtain ⟨WW,⟨m0,w0⟩,turn⟩:=Iw (t:=t1) (Q:=λys _ H'=>ys.length<=sizeLine/\∀D,H' D=none->Q (.ref D) (upd H' D (.lst ys))) rel (e0.trans x1) ((henv.ext x1).cap cap) r1 (Reps.nil) W q λacc' ρ' G' H' F' σ' ys' z x2 he2 r2 ra2=>
  ⟨by rw[<-ra2.length];exact dM z.1,λp hp=>gh (dg (λd G' z=>PV.later z (x1.trans x2)) z.2) r2 ra2 p hp⟩
 refine ⟨WW,⟨m0,w0⟩,λi m ys σ' H' w=>?_⟩;rcases turn i m ys σ' H' w with ⟨st,z1,z2⟩ |⟨go,step⟩
 .exact .inl ⟨st,z1,z2⟩
 .refine .inr ⟨go,(λz=>nomatch z),λcl C s₁ H₁ fp pn=>?_⟩;have S':=S.comp (scope:=scope) hn cl C s₁ H₁ fp pn;exact ⟨_,_,jm S' t1 hg1,λa ha=>Dw rfl S'.calm rfl (Ws _ _ _ _ _ _ _ _ _) (ih2 S') (jm S' t2 hg2) (f2 _) (Dw rfl S'.calm rfl (Wr _ _ _ _ _ _ _ _ _) (ih3 S') (jm S' t3 hg3) (f3 _) (Dt rfl ha (ihe S' he))),step⟩
theorem aao(S:Stat Z CX k c E B X){elt:Ex}{t1 t2 t3:Tg}{i1 i2 i3:It'}{N:List AL}{cap:List (Option Nat)}
  (ihe:∀{c':CT}{X':Cx},Stat Z CX k c' noE B X'->OkE Z c' noE B X' elt) (ih1:∀{tg' iter:AO},bj c i1 tg' iter=true->PI X tg' iter (tI X.K B (wpI Z i1 E)))
  (ih2:∀{c':CT}{X':Cx},Stat Z CX k c' noE B X'->∀{tg' iter:AO},bj c' i2 tg' iter=true->PI X' tg' iter (tI X'.K B (wpI Z i2 noE)))
  (ih3:∀{c':CT}{X':Cx},Stat Z CX k c' noE B X'->∀{tg' iter:AO},bj c' i3 tg' iter=true->PI X' tg' iter (tI X'.K B (wpI Z i3 noE))) {e:AO} (h:aa c (.cm3 elt t1 i1 t2 i2 t3 i3 N cap) e=true):
  PE X e (tE X.K B (wpE Z (.cm3 elt t1 i1 t2 i2 t3 i3 N cap) E)):=by
 obtain ⟨elt',a1,b1,a2,b2,a3,b3,scope,pos,rfl,c1,c2,c3,c4,c5,c6,c7,c8,c9,c10⟩:=yg h;obtain ⟨s1,s2,s3,s4⟩:=tX S c3;refine peI (Dz (lim:=false) (N.map Str.ofString) cap S.calm (ih1 c1) (jU S.N c2) s1 s2 s3 s4 (gW c1 X.env) (Dq _ _ _ _ _ _ _ _ _)) λW H Q hq=>el hq λY F G e0 he r hw=>?_;exact IK S c4 (λS'=>ihe S') (λS'=>ih2 S' c6) (λS'=>ih3 S' c8) (gW c6) (gW c8) c5 c7 c9 c10 e0 he r hw
theorem cG{x:Ex}(ih:OkE Z c E B X x)(hn:∀l os rs pos,aa c x (.Compare l os rs pos)=true->False){e:AO}(h:bK c (.val x) e=true):PT X e (tB' X.K B (wpT Z (.val x) E)):=by
 have h:((ji e||lM e)&&aa c x e&&Hd x)=true:=h;simp only[ae,dn]at h;obtain ⟨⟨h1,h2⟩,h3⟩:=h;rcases h1 with h1 |h1
 .exact Z4 ih h1 h2
 .obtain ⟨⟨t,ht⟩,_⟩:=dv.mp h1;rw[ht]at h2;exact (hn _ _ _ _ h2).elim
end
mutual
theorem aF{Z:aj}{CX:CXT}{k:Nat}{B:Bs}:∀(x:Ex){c:CT}{E:EK}{X:Cx},Stat Z CX k c E B X->OkE Z c E B X x
 |.var i,c,E,X,S=>λh=>Zy S h
 |.cst d,c,E,X,S=>λh=>Zz S h
 |.glb x d,c,E,X,S=>λh=>ZC S h
 |.bin op fz a b,c,E,X,S=>λh=>ZD S (aF a S) (aF b S) h
 |.neg a,c,E,X,S=>λh=>ZF S (aF a S) h
 |.cmp op a b,c,E,X,S=>λh=>(Ig S (aF a S) (aF b S) h).1
 |.chn op op' a b d,c,E,X,S=>λh=>(Ih S (aF a S) (aF b S) (aF d S) h).1
 |.not a,c,E,X,S=>λh=>ZG S (aF a S) h
 |.boo isAnd e es,c,E,X,S=>λh=>Z2 (aF e S) (iD es S) h
 |.ife t a b,c,E,X,S=>λh=>Z3 (iG t S) (aF a S) (aF b S) h
 |.tup es,c,E,X,S=>λh=>ZJ S (EachE.oks (iD es S)) h
 |.lst fz es,c,E,X,S=>λh=>ZK S (EachE.oks (iD es S)) h
 |.idx a i,c,E,X,S=>λh=>ZL S (aF a S) (aF i S) h
 |.slc fz a lo hi,c,E,X,S=>λh=>ZM S (aF a S) (IW lo S) (IW hi S) h
 |.call f es,c,E,X,S=>λh=>ZQ S (EachE.oks (iD es S)) h
 |.bcl f es,c,E,X,S=>λh=>ZR S (EachE.oks (iD es S)) h
 |.lcl fz f es,c,E,X,S=>λh=>ZS S (EachE.oks (iD es S)) h
 |.isi a t,c,E,X,S=>λh=>ZZ S (aF a S) h
 |.srs fz a,c,E,X,S=>λh=>ZW S (aF a S) h
 |.mth m o es,c,E,X,S=>λh=>Z1 S (aF o S) (EachE.oks (iD es S)) h
 |.comp fz elt tg it cond N cap,c,E,X,S=>λh=>aam S (λS'=>aF elt S') (λS'=>iG cond S') (gY it S) h
 |.cm3 elt t1 i1 t2 i2 t3 i3 N cap,c,E,X,S=>λh=>aao S (λS'=>aF elt S') (gY i1 S) (λS'=>gY i2 S') (λS'=>gY i3 S') h
 |.frz a,c,E,X,S=>λh=>ZP S (aF a S) h
theorem iD{Z:aj}{CX:CXT}{k:Nat}{B:Bs}:∀(x:Exs){c:CT}{E:EK}{X:Cx},Stat Z CX k c E B X->EachE Z c E B X x
 |.nil,_,_,_,_=>trivial
 |.cons e es,c,E,X,S=>⟨aF e S,iD es S⟩
theorem iG{Z:aj}{CX:CXT}{k:Nat}{B:Bs}:∀(x:Tx){c:CT}{E:EK}{X:Cx},Stat Z CX k c E B X->OkT Z c E B X x
 |.not t,c,E,X,S=>λh=>Z5 (iG t S) h
 |.boo isAnd t ts,c,E,X,S=>λh=>Z6 (iG t S) (IV ts S) h
 |.yes,c,E,X,S=>λh=>nZf h
 |.val (.cmp op a b),c,E,X,S=>by
  intro h;have h:((ji _||lM _)&&aa c (.cmp op a b) _&&true)=true:=h;simp only[ae]at h;exact (Ig S (aF a S) (aF b S) h.1.2).2
 |.val (.chn op op' a b d),c,E,X,S=>by
  intro h;have h:((ji _||lM _)&&aa c (.chn op op' a b d) _&&true)=true:=h;simp only[ae]at h;exact (Ih S (aF a S) (aF b S) (aF d S) h.1.2).2
 |.val (.frz a),c,E,X,S=>by
  intro h;have h:((ji _||lM _)&&aa c (.frz a) _&&false)=true:=h;rw[ij]at h;cases h
 |.val (.var i),c,E,X,S=>λh=>cG (aF (.var i) S) (λ_ _ _ _ h=>nZf h) h
 |.val (.cst d),c,E,X,S=>λh=>cG (aF (.cst d) S) (λ_ _ _ _ h=>nZf h) h
 |.val (.glb x d),c,E,X,S=>λh=>cG (aF (.glb x d) S) (λ_ _ _ _ h=>nZf h) h
 |.val (.bin op fz a b),c,E,X,S=>λh=>cG (aF (.bin op fz a b) S) (λ_ _ _ _ h=>nZf h) h
 |.val (.neg a),c,E,X,S=>λh=>cG (aF (.neg a) S) (λ_ _ _ _ h=>nZf h) h
 |.val (.not a),c,E,X,S=>λh=>cG (aF (.not a) S) (λ_ _ _ _ h=>nZf h) h
 |.val (.boo isAnd e es),c,E,X,S=>λh=>cG (aF (.boo isAnd e es) S) (λ_ _ _ _ h=>nZf h) h
 |.val (.ife t a b),c,E,X,S=>λh=>cG (aF (.ife t a b) S) (λ_ _ _ _ h=>nZf h) h
 |.val (.tup es),c,E,X,S=>λh=>cG (aF (.tup es) S) (λ_ _ _ _ h=>nZf h) h
 |.val (.lst fz es),c,E,X,S=>λh=>cG (aF (.lst fz es) S) (λ_ _ _ _ h=>nZf h) h
 |.val (.idx a i),c,E,X,S=>λh=>cG (aF (.idx a i) S) (λ_ _ _ _ h=>nZf h) h
 |.val (.slc fz a lo hi),c,E,X,S=>λh=>cG (aF (.slc fz a lo hi) S) (λ_ _ _ _ h=>nZf h) h
 |.val (.call f es),c,E,X,S=>λh=>cG (aF (.call f es) S) (λ_ _ _ _ h=>nZf h) h
 |.val (.bcl f es),c,E,X,S=>λh=>cG (aF (.bcl f es) S) (λ_ _ _ _ h=>nZf h) h
 |.val (.lcl fz f es),c,E,X,S=>λh=>cG (aF (.lcl fz f es) S) (λ_ _ _ _ h=>nZf h) h
 |.val (.srs fz a),c,E,X,S=>λh=>cG (aF (.srs fz a) S) (λ_ _ _ _ h=>nZf h) h
 |.val (.isi a t),c,E,X,S=>λh=>cG (aF (.isi a t) S) (λ_ _ _ _ h=>nZf h) h
 |.val (.mth m o es),c,E,X,S=>λh=>cG (aF (.mth m o es) S) (λ_ _ _ _ h=>nZf h) h
 |.val (.comp fz elt tg it cond N cap),c,E,X,S=>λh=>cG (aF (.comp fz elt tg it cond N cap) S) (λ_ _ _ _ h=>nZf h) h
 |.val (.cm3 elt t1 i1 t2 i2 t3 i3 N cap),c,E,X,S=>λh=>cG (aF (.cm3 elt t1 i1 t2 i2 t3 i3 N cap) S) (λ_ _ _ _ h=>nZf h) h
theorem IV{Z:aj}{CX:CXT}{k:Nat}{B:Bs}:∀(x:Txs){c:CT}{E:EK}{X:Cx},Stat Z CX k c E B X->tH Z c E B X x
 |.nil,_,_,_,_=>trivial
 |.cons e es,c,E,X,S=>⟨iG e S,IV es S⟩
theorem IW{Z:aj}{CX:CXT}{k:Nat}{B:Bs}:∀(x:Ox){c:CT}{E:EK}{X:Cx},Stat Z CX k c E B X->∀y,x=.ob y->OkE Z c E B X y
 |.no,c,E,X,S,y,e=>by cases e
 |.ob z,c,E,X,S,y,e=>by injection e with e;subst e;exact aF z S
theorem gY{Z:aj}{CX:CXT}{k:Nat}{B:Bs}:∀(x:It'){c:CT}{E:EK}{X:Cx},Stat Z CX k c E B X->∀{tg e:AO},bj c x tg e=true->PI X tg e (tI X.K B (wpI Z x E))
 |.seq y,c,E,X,S,tg,e,h=>aae (aF y S) (show aa c y e=true from h)
 |.rng a,c,E,X,S,tg,e,h=>aaf S (aF a S) h
 |.rng2 a b,c,E,X,S,tg,e,h=>aai S (aF a S) (aF b S) h
 |.rev a,c,E,X,S,tg,e,h=>aag S (aF a S) h
 |.dwn a b d,c,E,X,S,tg,e,h=>aah S (aF a S) (aF b S) (aF d S) h
 |.enm a,c,E,X,S,tg,e,h=>aaj S (aF a S) h
 |.zip a b,c,E,X,S,tg,e,h=>aak S (aF a S) (aF b S) h
end
def EnD(K:PF)(H:Hp)(F:FZ)(D:Ends):En where
 nx:=λY G'=>∀H' F' σ',Ext H F H' F'->EnvR K H' F' Y σ'->R K H' F' G'->D.nx σ' H'
 rt:=PV K H F D.rt
 bk:=λY G'=>∀H' F' σ',Ext H F H' F'->EnvR K H' F' Y σ'->R K H' F' G'->D.bk σ' H'
 ct:=λY G'=>∀H' F' σ',Ext H F H' F'->EnvR K H' F' Y σ'->R K H' F' G'->D.ct σ' H'
def EnD.later{K:PF}{H H1:Hp}{F F1:FZ}{D:Ends}(x:Ext H F H1 F1):(EnD K H F D).Le (EnD K H1 F1 D):=
 ⟨λ_ _ h H' F' σ' x1=>h H' F' σ' (x.trans x1),λ_ _ h=>PV.later h x,λ_ _ h H' F' σ' x1=>h H' F' σ' (x.trans x1),λ_ _ h H' F' σ' x1=>h H' F' σ' (x.trans x1)⟩
def tS(K:PF)(B:Bs)(w:aq->DH->En->Prop):TS:=λD X H=>∃Y F G,Ext B.H B.F H F/\EnvR K H F Y X/\R K H F G/\w Y G (EnD K H F D)
def psI{X:Cx}{st:Stmt}{t t':TS}(h:PS X st t)(i:∀D Y H,t' D Y H->t D Y H):PS X st t':=λp9 s Y H D I q=>h p9 s Y H D I (i D Y H q)
def Ja{X:Cx}{st:AF}{t t':TS}(h:PSs X st t)(i:∀D Y H,t' D Y H->t D Y H):PSs X st t':=λp9 s Y H D I q=>h p9 s Y H D I (i D Y H q)
def yq{e:AO}(h:dO e=false)(t:Option AO)(n:Nat)(env:Env):swapsWith e t n env=pure false:=by cases e <;> first |rfl |exact nomatch (show true=false from h)
def Jb{e:AO}(h:dO e=false)(t:AO)(n:Nat)(env:Env):swapsWithSole [t] e n env=pure false:=yq h _ _ _
section
variable {Z:aj} {CX:CXT} {k:Nat} {c:CT} {E:EK} {B:Bs} {X:Cx}
abbrev OkS(Z:aj)(c:CT)(E:EK)(B:Bs)(X:Cx)(x:Sx):Prop:=∀{st:Stmt},bR c x st=true->PS X st (tS X.K B (wpS Z x E))
abbrev jV(Z:aj)(c:CT)(E:EK)(B:Bs)(X:Cx)(x:Sxs):Prop:=∀{st:AF},aB c x st=true->PSs X st (tS X.K B (aA Z x E))
theorem aap(S:Stat Z CX k c E B X){x:Ex}{st:Stmt}(h:bR c (.exp x) st=true):PS X st (tS X.K B (wpS Z (.exp x) E)):=by
 replace h:=Ze h;obtain ⟨_,_,rfl,h⟩:=h
 .rw[ae]at h;refine psI (SJ (aF x S h.2) (yq (!!h.1) _ _ _)) λD W H hq=>el hq λY F G e0 he r hw=>?_;rw[wX]at hw;exact aO e0 he r hw λd G1 H1 F1 v q e1 x1 he1 r1 rv=>q _ _ _ x1 he1 r1
theorem aaq(S:Stat Z CX k c E B X){i:Nat}{x:Ex}{st:Stmt}(h:bR c (.asg (.nm i) x) st=true):PS X st (tS X.K B (wpS Z (.asg (.nm i) x) E)):=by
 replace h:=HY h;obtain ⟨tg,e,pos,rfl,h⟩:=h
 .simp only[ae]at h;obtain ⟨⟨h1,h2⟩,h3⟩:=h;have h3:(!dO e||Hg x)=true:=h3;replace h1:=ye h1;obtain ⟨y,py,rfl,h1⟩:=h1
  .rw[ae,bm]at h1;obtain ⟨l,f⟩:=S.sto y h1.2;have hi:X.N[i]?=some y:=by rw[S.N];exact h1.1
   have go:∀(D:Ends)(W:L2.St)(H:Hp),tS X.K B (wpS Z (.asg (.nm i) x) E) D W H->qR (tE X.K B (wpE Z x E)) (qQ i) D W H:=λD W H hq=>el hq λY F G e0 he r hw=>by
    rw[jc]at hw;refine aO e0 he r hw λd G1 H1 F1 v q e1 x1 he1 r1 rv=>?_;unfold aR at q;exact q _ _ _ x1 (he1.set rv i) r1
   cases hc:dO e with
   |false=>exact psI (u6 S.nd hi l (aF x S h2) (yq hc _ _ _) f) go
   |true=>
    rw[hc,Bool.not_true,Bool.false_or]at h3;cases x with
    |comp fz elt tg it cond N cap=>
     obtain ⟨elt',tg',iter,ifs,scope,pos',rfl,C⟩:=Iv h2;obtain ⟨s1,s2,s3,s4⟩:=tX S C.sc;have hb:∃b:Bool,swapsWith (.ListComp elt' [⟨tg',iter,ifs,0⟩] scope pos') (some (.Name y py)) pos.line X.env=pure b:=⟨_,rfl⟩;obtain ⟨b,hb⟩:=hb;cases b with
     |false=>exact psI (u6 S.nd hi l (aF _ S h2) hb f) go
     |true=>
      refine psI (DG (lim:=true) (Du _ _ _ _ _ _) S.nd hi l (N.map Str.ofString) cap S.calm (gY it S C.it) (jU S.N C.cap) s1 s2 s3 s4 (gW C.it X.env) hb f) λD W H hq=>el hq λY F G e0 he r hw=>?_;rw[jc]at hw;rw[xu]at hw;refine Iu (fz:=fz) (Q:=λv H1=>D.nx (W.set i (some v)) H1) S C.nd (λS'=>aF elt S') (λS'=>iG cond S') C.tg C.cd C.el e0 he r (gf it (λitems g G1 q=>?_) hw);refine rR (λd ρ' G' k1 k2 hk z=>dI (λρ1 z=>dw cond (λb G2 z=>by
       cases b with
       |true=>exact aK elt (λy G3 z=>hk _ _ _ z) z
       |false=>exact hk _ _ _ z) z) tg z) ?_ _ _ _ _ q
      .intro ds G2 q;refine dg (λd G3 q=>?_) q;intro H1 F1 v x1 r1 rv;unfold aR at q;exact q _ _ _ x1 ((he.ext x1).set rv i) r1
    |cm3 elt t1 i1 t2 i2 t3 i3 N cap=>
     obtain ⟨elt',a1,b1,a2,b2,a3,b3,scope,pos',rfl,c1,c2,c3,c4,c5,c6,c7,c8,c9,c10⟩:=yg h2;obtain ⟨s1,s2,s3,s4⟩:=tX S c3;have hb:∃b:Bool,swapsWith (.ListComp elt' [⟨a1,b1,[],0⟩,⟨a2,b2,[],0⟩,⟨a3,b3,[],0⟩] scope pos') (some (.Name y py)) pos.line X.env=pure b:=⟨_,rfl⟩;obtain ⟨b,hb⟩:=hb;cases b with
     |false=>exact psI (u6 S.nd hi l (aF _ S h2) hb f) go
     |true=>
      refine psI (DG (lim:=false) (Dq _ _ _ _ _ _ _ _ _) S.nd hi l (N.map Str.ofString) cap S.calm (gY i1 S c1) (jU S.N c2) s1 s2 s3 s4 (gW c1 X.env) hb f) λD W H hq=>el hq λY F G e0 he r hw=>?_;rw[jc]at hw;refine IK (Q:=λv H1=>D.nx (W.set i (some v)) H1) S c4 (λS'=>aF elt S') (λS'=>gY i2 S' c6) (λS'=>gY i3 S' c8) (gW c6) (gW c8) c5 c7 c9 c10 e0 he r (aK _ (λd G3 q=>?_) hw);intro H1 F1 v x1 r1 rv;unfold aR at q;exact q _ _ _ x1 ((he.ext x1).set rv i) r1
    |_=>cases h3
theorem aar(S:Stat Z CX k c E B X){ts:Tgs}{x:Ex}{st:Stmt}(h:bR c (.asg (.tp ts) x) st=true):PS X st (tS X.K B (wpS Z (.asg (.tp ts) x) E)):=by
 replace h:=HY h;obtain ⟨tg,e,pos,rfl,h⟩:=h
 .rw[ae,ae]at h;have h34:(!Hh e&&!dO e)=true:=h.2;obtain ⟨h1,h2⟩:=h.1;rw[ae,i7,i7]at h34;obtain ⟨h3,h4⟩:=h34;have hg:=jm S (.tp ts) h1;replace h1:=yf h1;obtain ⟨_,_,_,rfl,h1⟩:=h1
  .refine psI (By (aF x S h2) hg (Jb h4 _ _ _) ?_ rfl) λD W H hq=>el hq λY F G e0 he r hw=>?_
   .cases e <;> first |rfl |exact nomatch (show true=false from h3)
   .rw[jc]at hw;refine aO e0 he r hw λd G1 H1 F1 v q e1 x1 he1 r1 rv=>?_;exact ⟨Y,F1,G1,d,e1,he1,r1,rv,dI (λρ' z σ' hσ=>z H1 F1 σ' x1 hσ r1) (.tp ts) q⟩
theorem aas(S:Stat Z CX k c E B X){o i x:Ex}{st:Stmt}(h:bR c (.set o i x) st=true):PS X st (tS X.K B (wpS Z (.set o i x) E)):=by
 replace h:=Zf h;obtain ⟨o',i',tpos,e,pos,rfl,h⟩:=h
 .simp only[ae,i7]at h;obtain ⟨⟨⟨h1,h2⟩,h3⟩,h4⟩:=h;have hi:=bM i h2;refine psI (By (aF x S h3) (Tj (aF o S h1) (aF i S h2) YF ?_) (Jb h4 _ _ _) ?_ rfl) λD W H hq=>el hq λY F G e0 he r hw=>?_
  .intro v;cases i' <;> first |rfl |exact nomatch (show false=true from hi)
  .cases e <;> rfl
  .rw[wY]at hw;refine aO e0 he r hw λd G1 H1 F1 v q e1 x1 he1 r1 rv=>?_;refine aO e1 he1 r1 q λa G2 H2 F2 w q e2 x2 he2 r2 rw'=>?_;refine aO e2 he2 r2 q λy G3 H3 F3 u q e3 x3 he3 r3 ru=>?_;refine ⟨F3,G3,a,y,d,r3,rw'.ext x3,ru,rv.ext (x2.trans x3),FJ (λG4 q=>?_) q⟩;intro H4 F4 x4 r4;exact q _ _ _ (x1.trans (x2.trans (x3.trans x4))) (he3.ext x4) r4
theorem aat(S:Stat Z CX k c E B X){i:Nat}{op:Operator}{x:Ex}{st:Stmt}(h:bR c (.aug i op x) st=true):PS X st (tS X.K B (wpS Z (.aug i op x) E)):=by
 replace h:=Zg h;obtain ⟨y,py,o,e,pos,rfl,h⟩:=h
 .simp only[ae,bm]at h;obtain ⟨⟨⟨⟨rfl,h1⟩,h2⟩,h3⟩,h4⟩:=h;obtain ⟨l,f⟩:=S.sto y h2;refine psI (Tp S.nd (by rw[S.N];exact h1) l (aF x S h4) (YG o) f) λD W H hq=>el hq λY F G e0 he r hw=>?_;rw[wZ]at hw;split at hw
  .rename_i a ha;obtain ⟨v,e1,rv⟩:=he.get ha;refine ⟨v,e1,aO e0 he r hw λb G1 H1 F1 u q e1 x1 he1 r1 ru=>?_⟩;refine ⟨F1,G1,a,b,r1,rv.ext x1,ru,FN (λd q=>?_) q⟩;intro H2 F2 w x2 r2 rw';exact q _ _ _ (x1.trans x2) ((he1.ext x2).set rw' i) r2
  .exact hw.elim
theorem aau(S:Stat Z CX k c E B X){x:Ex}{st:Stmt}(h:bR c (.ret x) st=true):PS X st (tS X.K B (wpS Z (.ret x) E)):=by
 replace h:=Zh h;obtain ⟨_,_,rfl,h⟩:=h
 .refine psI (SM (aF x S h)) λD W H hq=>el hq λY F G e0 he r hw=>?_;rw[w5]at hw;exact ⟨Y,F,G,e0,he,r,hw⟩
theorem aav{st:Stmt}(h:bR c .rtn st=true):PS X st (tS X.K B (wpS Z .rtn E)):=by
 replace h:=Zi h;obtain ⟨_,rfl,h⟩:=h
 .refine psI SQ λD W H hq=>el hq λY F G e0 he r hw=>?_;rw[xf]at hw;exact hw.now r rfl
theorem aaw(S:Stat Z CX k c E B X){t:Tx}{a b:Sxs}(iha:jV Z c E B X a)(ihb:jV Z c E B X b){st:Stmt}(h:bR c (.ite t a b) st=true):PS X st (tS X.K B (wpS Z (.ite t a b) E)):=by
 replace h:=Zj h;obtain ⟨_,_,_,_,rfl,h⟩:=h
 .simp only[ae]at h;obtain ⟨⟨h1,h2⟩,h3⟩:=h;refine psI (S5 (iG t S h1) (iha h2) (ihb h3)) λD W H hq=>el hq λY F G e0 he r hw=>?_;rw[xg]at hw;refine jk e0 he r hw λb' G1 H1 F1 q e1 x1 he1 r1=>?_;cases b' with
  |true=>
   rw[if_pos rfl];exact ⟨Y,F1,G1,e1,he1,r1,dJ a (EnD.later x1) q⟩
  |false=>
   rw[if_neg bn];exact ⟨Y,F1,G1,e1,he1,r1,dJ b (EnD.later x1) q⟩
theorem aax(S:Stat Z CX k c E B X){t:Tg}{it:It'}{b:Sxs}(ihb:jV Z c E B X b){st:Stmt}(h:bR c (.for_ t it b) st=true):PS X st (tS X.K B (wpS Z (.for_ t it b) E)):=by
 replace h:=Zk h;obtain ⟨tg,iter,body,pos,rfl,h⟩:=h
 .simp only[ae]at h;obtain ⟨⟨h1,h2⟩,h3⟩:=h;refine psI (TQ S.own S.calm (gY it S h2) (jm S t h1) (ihb h3) (gW h2 X.env)) λD V H hq=>el hq λY F G e0 he r hw=>?_;rw[Fj]at hw;refine ⟨Y,F,G,e0,he,r,gf it (λitems g G1 q H1 F1 J x1 r1 W=>?_) hw⟩;let step:RF.D->aq->DH->(aq->DH->Prop)->Prop:=λd ρ' G' k=>aR t d ρ' G' λρ1=>aA Z b E ρ1 G' { EnD X.K H F D with nx:=k,ct:=k,bk:=(EnD X.K H F D).nx }
  let P:Nat->L2.St->Hp->Prop:=λi σ' H'=>∃ρ' F' G',Ext B.H B.F H' F'/\Ext H1 F1 H' F'/\EnvR X.K H' F' ρ' σ'/\R X.K H' F' G'/\forLoop step g (items.drop i) ρ' G' (EnD X.K H F D).nx
  refine ⟨λi m σ' H'=>m=items.length - i/\i<=items.length/\P i σ' H',⟨items.length,by simp,eP _,Y,F1,G1,e0.trans x1,Ext.refl _ _,he.ext x1,r1,q⟩,?_⟩;rintro i m σ' H' ⟨rfl,hle,ρ',F',G',eB,e1,he',r',hl⟩;by_cases hlt:i < items.length
  .have hd:items.drop i=items[i]::items.drop (i+1):=bP hlt;rw[hd]at hl;obtain ⟨hh,hl⟩:=hl;refine .inr ⟨W.go H' F' G' i e1 r' hh hlt,P (i+1),λσ2 H2 p=>⟨items.length - (i+1),!0,rfl,hlt,p⟩,λx H2 hy=>?_⟩;obtain ⟨xy,ry,rx⟩:=W.yld H' F' i x H2 items[i] G' e1 r' hh (by simp[hlt]) hy;refine ⟨ρ',F',G',items[i],eB.trans xy,he'.ext xy,ry,rx,dI (λρ1 z σ1 hσ1=>?_) t hl⟩;refine ⟨ρ1,F',G',eB.trans xy,hσ1,ry,dJ b (D:={ EnD X.K H F D with nx:=λρ' G'=>forLoop step g (items.drop (i+1)) ρ' G' (EnD X.K H F D).nx,ct:=λρ' G'=>forLoop step g (items.drop (i+1)) ρ' G' (EnD X.K H F D).nx,bk:=(EnD X.K H F D).nx }) ⟨λρ2 G2 z H3 F3 σ3 x3 he3 r3=>?_,λd G2 z=>PV.later z (x1.trans (e1.trans xy)),λρ2 G2 z H3 F3 σ3 x3=>z H3 F3 σ3 (x1.trans (e1.trans (xy.trans x3))),λρ2 G2 z H3 F3 σ3 x3 he3 r3=>?_⟩ z⟩
   .exact ⟨ρ2,F3,G2,eB.trans (xy.trans x3),e1.trans (xy.trans x3),he3,r3,z⟩
   .exact ⟨ρ2,F3,G2,eB.trans (xy.trans x3),e1.trans (xy.trans x3),he3,r3,z⟩
  .have hi':i=items.length:=by omega
   subst hi';rw[dP]at hl;exact .inl ⟨W.stop H' F' G' e1 r' hl.1,hl.2 _ _ _ (x1.trans e1) he' r'⟩
theorem aay(S:Stat Z CX k c E B X){t:Tx}{b:Sxs}(ihb:jV Z c E B X b){st:Stmt}(h:bR c (.whl t b) st=true):PS X st (tS X.K B (wpS Z (.whl t b) E)):=by
 replace h:=Zm h;obtain ⟨_,_,_,rfl,h⟩:=h
 .simp only[ae]at h;obtain ⟨h1,h2⟩:=h;refine psI (Tt S.own (iG t S h1) (ihb h2)) λD W H hq=>el hq λY F G e0 he r hw=>?_;rw[Fl]at hw;obtain ⟨n,hw⟩:=hw;let test:aq->DH->(Bool->DH->Prop)->Prop:=λρ' G' k=>wpT Z t E ρ' G' k
  let bd:aq->DH->(aq->DH->Prop)->Prop:=λρ' G' k=>aA Z b E ρ' G' { EnD X.K H F D with nx:=k,ct:=k,bk:=(EnD X.K H F D).nx }
  let P:Nat->L2.St->Hp->Prop:=λm σ' H'=>∃ρ' F' G',Ext B.H B.F H' F'/\Ext H F H' F'/\EnvR X.K H' F' ρ' σ'/\R X.K H' F' G'/\whileLoop test bd m ρ' G' (EnD X.K H F D).nx
  refine ⟨P,⟨n,Y,F,G,e0,Ext.refl _ _,he,r,hw⟩,?_⟩;rintro m σ' H' ⟨ρ',F',G',eB,e1,he',r',hl⟩;cases m with
  |zero=>exact hl.elim
  |succ m=>
   refine jk eB he' r' hl λb' G1 H1 F1 q e2 x2 he2 r2=>?_;cases b' with
   |true=>
    rw[if_pos rfl];refine ⟨P m,λσ2 H2 p=>⟨m,d0 _,p⟩,ρ',F1,G1,e2,he2,r2,dJ b (D:={ EnD X.K H F D with nx:=λρ' G'=>whileLoop test bd m ρ' G' (EnD X.K H F D).nx,ct:=λρ' G'=>whileLoop test bd m ρ' G' (EnD X.K H F D).nx,bk:=(EnD X.K H F D).nx }) ⟨λρ2 G2 z H3 F3 σ3 x3 he3 r3=>?_,λd G2 z=>PV.later z (e1.trans x2),λρ2 G2 z H3 F3 σ3 x3=>z H3 F3 σ3 (e1.trans (x2.trans x3)),λρ2 G2 z H3 F3 σ3 x3 he3 r3=>?_⟩ q⟩
    .exact ⟨ρ2,F3,G2,e2.trans x3,e1.trans (x2.trans x3),he3,r3,z⟩
    .exact ⟨ρ2,F3,G2,e2.trans x3,e1.trans (x2.trans x3),he3,r3,z⟩
   |false=>
    rw[if_neg bn];exact q _ _ _ (e1.trans x2) he2 r2
theorem aaz{st:AF}(h:aB c .nil st=true):PSs X st (tS X.K B (aA Z .nil E)):=by
 unfold aB at h;cases st with
 |nil=>exact Ja Sd λD W H hq=>el hq λY F G e0 he r hw=>by rw[lA]at hw;exact hw _ _ _ (Ext.refl _ _) he r
 |cons _ _=>cases h
theorem aaA{x:Sx}{xs:Sxs}(ih:OkS Z c E B X x)(ihs:jV Z c E B X xs){st:AF}(h:aB c (.cons x xs) st=true):PSs X st (tS X.K B (aA Z (.cons x xs) E)):=by
 unfold aB at h;split at h
 .rw[ae]at h;refine Ja (Sg (ih h.1) (ihs h.2)) λD W H hq=>el hq λY F G e0 he r hw=>?_;rw[lB]at hw;refine ⟨Y,F,G,e0,he,r,wpS_mono x (D:={ EnD X.K H F D with nx:=λρ' G'=>aA Z xs E ρ' G' (EnD X.K H F D) }) ⟨λρ1 G1 q H1 F1 σ1 x1 he1 r1=>?_,λ_ _ z=>z,λ_ _ z=>z,λ_ _ z=>z⟩ hw⟩;exact ⟨ρ1,F1,G1,e0.trans x1,he1,r1,dJ xs (EnD.later x1) q⟩
 .cases h
end
mutual
theorem aaB{Z:aj}{CX:CXT}{k:Nat}{B:Bs}{c:CT}{E:EK}{X:Cx}(S:Stat Z CX k c E B X):∀(x:Sx),OkS Z c E B X x
 |.exp e=>λh=>aap S h
 |.asg (.nm i) e=>λh=>aaq S h
 |.asg (.tp ts) e=>λh=>aar S h
 |.set o i e=>λh=>aas S h
 |.aug i op e=>λh=>aat S h
 |.ret e=>λh=>aau S h
 |.rtn=>λh=>aav h
 |.ite t a b=>λh=>aaw S (jW S a) (jW S b) h
 |.for_ t it b=>λh=>aax S (jW S b) h
 |.whl t b=>λh=>aay S (jW S b) h
 |.pas=>by
  intro h;obtain ⟨_,rfl,_⟩:=Zn h;exact psI Su λD W H hq=>el hq λY F G e0 he r hw=>by rw[xj]at hw;exact hw _ _ _ (Ext.refl _ _) he r
 |.brk=>by
  intro h;obtain ⟨_,rfl,_⟩:=Zo h;exact psI Sv λD W H hq=>el hq λY F G e0 he r hw=>by rw[xm]at hw;exact hw _ _ _ (Ext.refl _ _) he r
 |.cnt=>by
  intro h;obtain ⟨_,rfl,_⟩:=Zq h;exact psI Sw λD W H hq=>el hq λY F G e0 he r hw=>by rw[xq]at hw;exact hw _ _ _ (Ext.refl _ _) he r
 |.nev=>by
  intro h;exact psI S7 λD W H hq=>el hq λY F G e0 he r hw=>by rw[xr]at hw;exact hw.elim
theorem jW{Z:aj}{CX:CXT}{k:Nat}{B:Bs}{c:CT}{E:EK}{X:Cx}(S:Stat Z CX k c E B X):∀(x:Sxs),jV Z c E B X x
 |.nil=>λh=>aaz h
 |.cons s r=>λh=>aaA (aaB S s) (jW S r) h
end
end RF
namespace L2
open PySem PySem.Spec PyProof.Rows
def Fun.okX{P:AK}{w:World}{K:PF}{mg:AH}{base:Heap}{CX:CXT}{x qual:Str}{st:Stmt}{f:AQ}{fd:AJ}{N ps:AD}{k:Nat}{sp:Sp}(F:Fun K x qual st f fd)(S:FnScope N ps (au st))(len:∀vs H Q E,sp vs H Q E->vs.length=ps.length)
  (hbody:∀(cdv:AN)(A:AM)(outer:List Env)(s:AI)(H:Hp)(vs:AR)(Q:VK)(E:XK),Room k (A.deeper (envOfC qual (au st) (~~~s) f cdv))->sp vs H Q E->
   ∃t,PSs (dZ CX P w K mg base N qual (au st) f cdv A outer s H E) (aD st) t/\t { nx:=λ_ H'=>Q .non H',rt:=Q } (start N vs) H):FnOk P w K mg base CX (k+1) f fd ps sp:=by
 obtain ⟨oc,od,kV,doc,pm,an,cdv,ct,osl,rfl,lk,hcd⟩:=F.ex;exact UG lk hcd S len λA outer s H vs Q E hr hsp=>hbody cdv A outer s H vs Q E hr hsp
def FnOk.cx{P:AK}{w:World}{K:PF}{mg:AH}{base:Heap}{k:Nat}{CX:CXT}{f:AQ}{fd:AJ}{ps:AD}{sp:Sp}(F:FnOk P w K mg base CX0 k f fd ps sp):FnOk P w K mg base CX k f fd ps sp:=
 ⟨F.len,λA outer s H args us vs Q E hr he hb hv hs=>codeAny_mono (F.run A outer s H args us vs Q E hr he hb hv hs) λr s' hq=>by
  cases r with
  |error e=>exact False.elim hq
  |ok fl=>cases fl <;> exact hq⟩
end L2
namespace RF
open PySem PySem.Spec PyProof.Rows L2
def fnB(N ps:AD)(sc:Scope):Bool:=
 decide (sc.kind=.function)&&!sc.isCoroutine&&!sc.isGenerator&&dz N&&(N.take ps.length==ps)&&ps.all (λx=>sc.names.lookup x==some .local||sc.names.lookup x==some .cell)&&sc.names.all (λy=>y.2 != .free)
def Jc{N ps:AD}{sc:Scope}(h:fnB N ps sc=true):FnScope N ps sc:=by unfold fnB at h;simp only[ae,i7,cf,bm,df,dn,bne_iff_ne]at h;obtain ⟨⟨⟨⟨⟨⟨h1,h2⟩,h3⟩,h4⟩,h5⟩,h6⟩,h7⟩:=h;exact ⟨h1,h2,h3,yp h4,h5,h6,λy hy=>h7 y hy⟩
structure Bse(Z:aj)(P:AK)(w:World)(K:PF)(mg:AH)(base:Heap)(CX:CXT)(k:Nat)(fs:List (AL×Nat))(bt:List AL)(cn:List (AL×D))(xs:List (AL×Bool))(ot:OT):Prop where
 call:∀f n,(f,n)∈fs->∃fa fd ps,FnOk P w K mg base CX k fa fd ps (lift K n (Z f))/\PySem.W.keepIn K (.ref fa)=true/\Binds K fd ps []/\mg (⇑f)=some (.ref fa)
 blt:∀f,f∈bt->mg (⇑f)=none
 con:∀x d,(x,d)∈cn->∃u v,mg (⇑x)=some u/\RelV v u/\∀H F,Rep K H F d v
 xcl:∀C,xs.contains (C,true)=true->∃a,mg (⇑C)=some (.ref a)/\qZ K a=true/\PySem.W.nsIn K mainGlobals (⇑C)=some (some (.ref a))
 xis:∀C',xs.contains (C',false)=true->∃cv,CV K mg C' cv/\∀C,xs.contains (C,true)=true->XI K C C' cv
 mth:∀f C m n,(f,C,m,n)∈ot.ms->MthOk Z P w K mg base CX k f C m n
 mko:∀C n,(C,n)∈ot.ks->MkoOk Z P w K mg base CX k C n
 fld:∀C f,(C,f)∈ot.fl->Ia K C f
 xko:∀C f,(C,f)∈ot.xk->XkoX P w K mg base CX k xs C f
def aG(N:AD)(sc:Scope)(fs:List (AL×Nat))(bt:List AL)(cn:List (AL×D))(xs:List (AL×Bool))(ot:OT):CT:={ N:=N,kd:=sc.names,fn:=true,fs:=fs,bt:=bt,cn:=cn,xs:=xs,ot:=ot }
section
variable {Z:aj} {P:AK} {w:World} {K:PF} {mg:AH} {base:Heap} {k:Nat} {fs:List (AL×Nat)} {bt:List AL} {cn:List (AL×D)} {xs:List (AL×Bool)} {ot:OT}
theorem aaC{N ps:AD}{sc:Scope}{qual:Str}{f:AQ}{cdv:AN}{A:AM}{outer:List Env}{s:AI}{H:Hp}{EX:XK}{B:Bs}(T:Bse Z P w K mg base (CX1 P w) k fs bt cn xs ot)(hs:fnB N ps sc=true)
  (hr:Room k (A.deeper (envOfC qual sc (~~~s) f cdv))):Stat Z (CX1 P w) k (aG N sc fs bt cn xs ot) noE B (dZ (CX1 P w) P w K mg base N qual sc f cdv A outer s H EX).nox where
 N:=rfl
 nd:=(Jc hs).nd
 calm:=rfl
 own:=PassesOwn.never
 kd:=rfl
 vis:=λx h=>by
  have h:jg (sc.names.lookup x)=true:=h;show sc.names.lookup x=_\/sc.names.lookup x=_\/sc.names.lookup x=_;unfold jg at h;split at h <;> first | (cases h;done) |simp_all
 cel:=λx h=>h
 glo:=λx h=>h
 sto:=λx h=>by
  have h:(sc.names.lookup x==some .local||(true&&sc.names.lookup x==some .cell))=true:=h;rw[Bool.true_and,dn,bm,bm]at h;exact ⟨h,.inl rfl⟩
 room:=hr
 call:=T.call
 blt:=T.blt
 con:=T.con
 exc:=⟨_,Dm _,λ_ _ _ _ _ _ _ _ _ _ q=>q.elim,λ_ _ _ _ h=>h.elim⟩
 nox:=λY=>Dm Y
 xcl:=T.xcl
 loc:=λx h=>h
 xis:=T.xis
 mth:=T.mth
 mko:=T.mko
 fld:=T.fld
 xko:=T.xko
 trc:=λ_=>⟨rfl,rfl,rfl⟩
theorem aaD{outer:List Env}{H:Hp}{s s':AI}{e:AN}(h:CX1 P w outer H s (λ_ _ _=>False) e s'):False:=by obtain ⟨_,_,_,_,_,_,_,_,_,q⟩:=h;exact q
def ends(Q:AT):En:={ nx:=λ_ G=>Q .non G,rt:=Q,bk:=λ_ _=>False,ct:=λ_ _=>False }
def env0(ds:AS)(n:Nat):aq:=ds.map some++List.replicate n none
theorem lV{x qual:Str}{st:Stmt}{f:AQ}{fd:AJ}(Fu:Fun K x qual st f fd)(T:Bse Z P w K mg base (CX1 P w) k fs bt cn xs ot){N ps:AD}{body:Sxs}(S:RF.Spec)(n m:Nat)(hs:fnB N ps (au st)=true)
  (hc:aB (aG N (au st) fs bt cn xs ot) body (aD st)=true) (hn:ps.length=n) (hm:N.length=n+m)
  (hw:∀ds G a,ds.length=n->S.pre ds G a->aA Z body noE (env0 ds m) G (ends (S.post a))):FnOk P w K mg base (CX1 P w) (k+1) f fd ps (lift K n S):=by
 refine Fu.okX (Jc hs) (λvs H Q E h=>by rw[hn];exact h.1) λcdv A outer s H vs Q EX hr hsp=>?_;obtain ⟨hl,F,G,ds,r,rs,a,h1,h2,h3⟩:=hsp;have St:Stat Z (CX1 P w) k (aG N (au st) fs bt cn xs ot) noE ⟨H,F⟩ (dZ (CX1 P w) P w K mg base N qual (au st) f cdv A outer s H EX).nox:=aaC T hs hr;refine ⟨_,(jW St body hc).nox,?_⟩;refine ⟨env0 ds m,F,G,Ext.refl _ _,?_,r,dJ body (D:=ends (S.post a)) ⟨λY G' q=>?_,λd G' q=>h2 d G' q,λ_ _ q=>False.elim q,λ_ _ q=>False.elim q⟩ (hw ds G a (by rw[rs.length];exact hl) h1)⟩
 .unfold L2.start;rw[show N.length - vs.length=m by omega];exact EnvR.start m rs
 .intro H' F' σ' x1 _ r1;exact h2 .non G' q H' F' .non x1 r1 rfl
end
def bN(pre:AS->DH->Prop)(post:AS->DH->D->DH->Prop):RF.Spec where
 A:=AS×DH
 pre:=λds G a=>a=(ds,G)/\pre ds G
 post:=λa d G'=>post a.1 a.2 d G'
 exc:=λ_ _ _=>False
def cH{pre:AS->DH->Prop}{post:AS->DH->D->DH->Prop}{ds:AS}{G:DH}{k:AT}{E:EK}(h:pre ds G)(hk:∀d G',post ds G d G'->k d G'):(bN pre post).t ds G k E:=
 ⟨(ds,G),⟨rfl,h⟩,hk,λ_ _ z=>z.elim⟩
def cN{Z:aj}{body:Sxs}{m n:Nat}{pre:AS->DH->Prop}{post:AS->DH->D->DH->Prop}(h:∀ds G,pre ds G->aA Z body noE (env0 ds m) G (ends (post ds G))):
  ∀ds G a,ds.length=n->(bN pre post).pre ds G a->aA Z body noE (env0 ds m) G (ends ((bN pre post).post a)):=by
 rintro ds G a _ ⟨rfl,h1⟩;exact h ds G h1
def aM(f:AS->Option D):RF.Spec:=bN (λds _=>(f ds).isSome=true) (λds G d G'=>G'=G/\f ds=some d)
def dB{f:AS->Option D}{ds:AS}{d:D}{G:DH}{k:AT}{E:EK}(h:f ds=some d)(hk:k d G):(aM f).t ds G k E:=
 cH (by rw[h];rfl) λd' G' ⟨e1,e2⟩=>by rw[h]at e2;cases e2;rw[e1];exact hk
def gj{Z:aj}{body:Sxs}{m n:Nat}{f:AS->Option D}(h:∀ds G d,f ds=some d->aA Z body noE (env0 ds m) G (ends λd' G'=>G'=G/\d'=d)):
  ∀ds G a,ds.length=n->(aM f).pre ds G a->aA Z body noE (env0 ds m) G (ends ((aM f).post a)):=by
 refine cN λds G hf=>?_;obtain ⟨d,e⟩:=dv.mp hf;refine dJ body (D:=ends λd' G'=>G'=G/\d'=d) ⟨λY G' q=>?_,λd' G' q=>?_,λ_ _ q=>q,λ_ _ q=>q⟩ (h ds G d e)
 .exact ⟨q.1,by rw[e];exact fE some q.2.symm⟩
 .exact ⟨q.1,by rw[e];exact fE some q.2.symm⟩
def aaE{step:D->aq->DH->(aq->DH->Prop)->Prop}{g:Hld}{items:AS}{Y:aq}{G:DH}{k:aq->DH->Prop}(P:Nat->aq->DH->Prop)(h0:P 0 Y G)(hh:∀i Y G,P i Y G->held g G)
  (hs:∀i d Y G,items[i]?=some d->P i Y G->∀kk:aq->DH->Prop,(∀ρ' G',P (i+1) ρ' G'->kk ρ' G')->step d Y G kk) (he:∀Y G,P items.length Y G->k Y G):forLoop step g items Y G k:=by
 have go:∀(l:AS)(i:Nat)(Y:aq)(G:DH),items.drop i=l->i<=items.length->P i Y G->forLoop step g l Y G k:=by
  intro l;induction l with
  |nil=>
   intro i Y G e hi p;have:i=items.length:=by have:=fE List.length e;rw[ce]at this;simp at this;omega
   subst this;exact ⟨hh _ _ _ p,he _ _ p⟩
  |cons d l ih=>
   intro i Y G e hi p;have hl:i < items.length:=by
    by_cases h:i < items.length
    .exact h
    .rw[List.drop_eq_nil_of_le (!0)]at e;cases e
   rw[bP hl]at e;injection e with e1 e2;refine ⟨hh _ _ _ p,hs i d Y G (by rw[aS hl,e1]) p _ λρ' G' p'=>ih (i+1) ρ' G' e2 hl p'⟩
 exact go _ 0 Y G (by simp) (eP _) h0
def Jd{step:D->aq->DH->(Option D->aq->DH->Prop)->Prop}{g:Hld}{items acc:AS}{Y:aq}{G:DH}{k:AS->DH->Prop}(P:Nat->AS->aq->DH->Prop)(h0:P 0 acc Y G)(hh:∀i acc Y G,P i acc Y G->held g G)
  (hl:acc.length+items.length<=sz)
  (hs:∀i d acc Y G,items[i]?=some d->P i acc Y G->∀kk:Option D->aq->DH->Prop,(∀o ρ' G',P (i+1) (acc++o.toList) ρ' G'->kk o ρ' G')->step d Y G kk) (he:∀acc Y G,P items.length acc Y G->k acc G):compLoop step g items acc Y G k:=by
 have go:∀(l:AS)(i:Nat)(acc:AS)(Y:aq)(G:DH),items.drop i=l->i<=items.length->acc.length+l.length<=sz->P i acc Y G->compLoop step g l acc Y G k:=by
  intro l;induction l with
  |nil=>
   intro i acc Y G e hi ha p;have:i=items.length:=by have:=fE List.length e;rw[ce]at this;simp at this;omega
   subst this;exact ⟨hh _ _ _ _ p,!!ha,he _ _ _ p⟩
  |cons d l ih=>
   intro i acc Y G e hi ha p;have hl:i < items.length:=by
    by_cases h:i < items.length
    .exact h
    .rw[List.drop_eq_nil_of_le (!0)]at e;cases e
   rw[bP hl]at e;injection e with e1 e2;have ha':acc.length+(l.length+1)<=sz:=ha;refine ⟨hh _ _ _ _ p,!0,hs i d acc Y G (by rw[aS hl,e1]) p _ λo ρ' G' p'=>?_⟩;cases o with
   |some y=>exact ih (i+1) (acc++[y]) ρ' G' e2 hl (by rw[ax];simp;omega) p'
   |none=>exact ih (i+1) acc ρ' G' e2 hl (!0) (!!p')
 exact go _ 0 acc Y G (by simp) (eP _) hl h0
def Jf{step:D->aq->DH->(Option D->aq->DH->Prop)->Prop}{items:AS}{Y:aq}{G:DH}{k:AS->DH->Prop}(g:Hld)(f:D->Option D)(I:aq->Prop)(h0:I Y)(hg:held g G)(hl:items.length<=sz)
  (hs:∀d Y,d∈items->I Y->∀kk:Option D->aq->DH->Prop,(∀ρ',I ρ'->kk (f d) ρ' G)->step d Y G kk) (he:k (items.filterMap f) G):compLoop step g items [] Y G k:=by
 refine Jd (λi acc ρ' G'=>I ρ'/\G'=G/\acc=(items.take i).filterMap f) ⟨h0,rfl,rfl⟩ (λi acc ρ' G' p=>by rw[p.2.1];exact hg) (!!hl) ?_ ?_
 .rintro i d acc ρ' G' hd ⟨p1,rfl,rfl⟩ kk hk;refine hs d ρ' (bb hd) p1 kk λρ2 i2=>hk _ _ _ ⟨i2,rfl,?_⟩;rw[da,hd,i8];congr 1
 .rintro acc ρ' G' ⟨_,rfl,rfl⟩;rw[ee];exact he
def aaF{step:D->aq->DH->(Option D->aq->DH->Prop)->Prop}{items:AS}{Y:aq}{G:DH}{k:AS->DH->Prop}(g:Hld)(f:D->D)(I:aq->Prop)(h0:I Y)(hg:held g G)(hl:items.length<=sz)
  (hs:∀d Y,d∈items->I Y->∀kk:Option D->aq->DH->Prop,(∀ρ',I ρ'->kk (some (f d)) ρ' G)->step d Y G kk) (he:k (items.map f) G):compLoop step g items [] Y G k:=
 Jf g (λd=>some (f d)) I h0 hg hl hs (by rw[<-List.filterMap_eq_map]at he;exact he)
def yr{α:Type}(f:α->Bool):∀l:List α,bools (l.map λx=>D.bl (f x))=some (l.map f)
 |[]=>rfl
 |x::l=>by simp[bools,yr f l]
def strs_map{α:Type}(f:α->AA):∀l:List α,bu (l.map λx=>D.str (f x))=some (l.map f)
 |[]=>rfl
 |x::l=>by simp[bu,strs_map f l]
def Jg:∀l:List (AA),fK [] l=l.flatten
 |[]=>rfl
 |[x]=>by simp[fK]
 |x::y::r=>by simp[fK,Jg (y::r)]
def Sa(G G':DH):Prop:=∀b o,G b=some o->G' b=some o
def Sb(p:AQ)(G G':DH):Prop:=∀b o,G b=some o->b≠p->G' b=some o
def Sa.refl(G:DH):Sa G G:=λ_ _ h=>h
def Sb.refl(p:AQ)(G:DH):Sb p G G:=λ_ _ h _=>h
def Sa.trans{G G1 G2:DH}(a:Sa G G1)(b:Sa G1 G2):Sa G G2:=λc o h=>b c o (a c o h)
def Sb.trans{p:AQ}{G G1 G2:DH}(a:Sb p G G1)(b:Sb p G1 G2):Sb p G G2:=λc o h n=>b c o (a c o h n) n
def Sa.sb{p:AQ}{G G':DH}(a:Sa G G'):Sb p G G':=λc o h _=>a c o h
def Sa.new{G:DH}{p:AQ}{o:DO}(h:G p=none):Sa G (aX G p o):=λb u e=>by rw[dG (vL e h)];exact e
def Sb.upd{G:DH}{p:AQ}{o:DO}:Sb p G (aX G p o):=λb u e n=>by rw[dG n];exact e
def Sa.then{p:AQ}{G G1 G2:DH}(a:Sa G G1)(hp:G p=none)(b:Sb p G1 G2):Sa G G2:=λc o h=>b c o (a c o h) (vL h hp)
def aaG{α:Type}{a:α}{l:List α}:atI (a::l) 0=some a:=bA (j:=0) rfl
def aaH{α:Type}{a b:α}{l:List α}:atI (a::b::l) 1=some b:=bA (j:=1) rfl
def aaI{α:Type}{a b c:α}{l:List α}:atI (a::b::c::l) 2=some c:=bA (j:=2) rfl
def aaJ{α:Type}{a b c d:α}{l:List α}:atI (a::b::c::d::l) 3=some d:=bA (j:=3) rfl
def Jh{n j:Nat}(h:j < n):ixN n (j:Int)=some j:=by unfold ixN;rw[if_pos (!0),if_pos (!0)];simp
def aaK{n:Nat}:ixN (n+1) 0=some 0:=by unfold ixN;rw[if_pos (!0),if_pos (!0)];rfl
def aaL{n:Nat}:ixN (n+2) 1=some 1:=by unfold ixN;rw[if_pos (!0),if_pos (!0)];rfl
def aaM{n:Nat}:ixN (n+3) 2=some 2:=by unfold ixN;rw[if_pos (!0),if_pos (!0)];rfl
def aaN{α:Type}{xs:List α}{i:Int}(h0:0<=i)(h1:i < xs.length):∃a,atI xs i=some a/\a∈xs:=by
 obtain ⟨n,rfl⟩:=dQ h0;have hn:n < xs.length:=by omega
 exact ⟨xs[n],bA (by simp[hn]),e8 _⟩
def Ji{α:Type}(xs:List α)(lo hi:Option Int):(cut xs lo hi).length<=xs.length:=by unfold cut;rw[br,ce];omega
def Jj{l:AS}:cL l []=l.isEmpty:=by cases l <;> rfl
def tY{α:Type}(l:List α)(n:Nat):cut l none (some (n:Int))=l.take n:=by
 unfold cut;rw[show HT.sIx l.length 0 none=0 from rfl,HT.Cj,List.drop_zero,Nat.sub_zero];by_cases h:n<=l.length
 .rw[Nat.min_eq_left h]
 .rw[Nat.min_eq_right (!0),fF (am _),fF (!0)]
def tZ{α:Type}(l:List α)(n:Nat):cut l (some (n:Int)) none=l.drop n:=by
 unfold cut;rw[show HT.sIx l.length l.length none=l.length from rfl,HT.Cj];by_cases h:n<=l.length
 .rw[Nat.min_eq_left h,fF (by rw[ce];exact am _)]
 .rw[Nat.min_eq_right (!0),Nat.sub_self,List.take_zero,List.drop_eq_nil_of_le (!0)]
def Jl{α:Type}(l:List α)(n:Nat):cut l (some ((n:Int)+1)) none=l.drop (n+1):=tZ l (n+1)
def yt:∀{l:AS},(∀d∈l,nr d=true)->nrs l=true
 |[],_=>rfl
 |a::l,h=>by rw[nrs,h a aI,yt λd hd=>h d (bp _ hd)];rfl
def Jm{n:Nat}:∀{l:AS},(∀d∈l,dpt d<=n)->aV l<=n
 |[],_=>eP _
 |a::l,h=>by rw[aV];exact Nat.max_le.mpr ⟨h a aI,Jm λd hd=>h d (bp _ hd)⟩
def Jo{α:Type}{motive:List α->Prop}(l:List α)(nil:motive [])(snoc:∀(l:List α)(a:α),motive l->motive (l++[a])):motive l:=by
 have go:∀(n:Nat)(l:List α),l.length=n->motive l:=by
  intro n;induction n with
  |zero=>intro l h;rw[dL.mp h];exact nil
  |succ n ih=>
   intro l h;have hne:l≠[]:=by rintro rfl;simp at h
   rw[<-g6 hne];exact snoc _ _ (ih _ (by rw[List.length_dropLast];omega))
 exact go _ l rfl
section
variable {G:DH} {k:AT} {fz:Bool} {kb:Bool->Prop} {kd:D->Prop} {p:AQ}
theorem aaO{i j:Int}:cY .Add fz (.int i) (.int j) G k=k (.int (i+j)) G:=rfl
theorem aaP{x y:AA}:cY .Add fz (.str x) (.str y) G k=(x.length+y.length<=sz/\k (.str (x++y)) G):=rfl
theorem aaQ{x y:AS}:cY .Add fz (.lst x) (.lst y) G k=(x.length+y.length<=sz/\mk fz (x++y) G k):=rfl
theorem aaR{x y:AS}:cY .Add fz (.tup x) (.tup y) G k=(x.length+y.length<=sz/\k (.tup (x++y)) G):=rfl
theorem aaS{i j:Int}:cY .Sub fz (.int i) (.int j) G k=k (.int (i - j)) G:=rfl
theorem aaT{i j:Int}:cY .Mult fz (.int i) (.int j) G k=(CMul i j/\k (.int (i * j)) G):=rfl
theorem aaU{x:AA}{n:Int}:cY .Mult fz (.str x) (.int n) G k=(0<=n/\n<=1000/\x.length * n.toNat<=sz/\k (.str (reps x n.toNat)) G):=rfl
theorem aaV{i j:Int}:cY .FloorDiv fz (.int i) (.int j) G k=((0 < j/\j < 1152921504606846976)/\k (.int (i / j)) G):=rfl
theorem aaW{i j:Int}:cY .Mod fz (.int i) (.int j) G k=(0 < j/\k (.int (i % j)) G):=rfl
theorem aaX{i j:Int}:cY .Pow fz (.int i) (.int j) G k=(qU i j/\k (.int (i ^ j.toNat)) G):=rfl
def eF:D->Bool
 |.non=>true
 |_=>false
theorem aaY{a b:D}:bx .Eq a b kb=((nr a=true/\nr b=true/\min (dpt a) (dpt b)<=60)/\kb (deq a b)):=rfl
theorem aaZ{a b:D}:bx .NotEq a b kb=((nr a=true/\nr b=true/\min (dpt a) (dpt b)<=60)/\kb (!deq a b)):=rfl
theorem aa0{i j:Int}:bx .Lt (.int i) (.int j) kb=kb (decide (i < j)):=rfl
theorem aa1{i j:Int}:bx .LtE (.int i) (.int j) kb=kb (decide (i<=j)):=rfl
theorem aa2{i j:Int}:bx .Gt (.int i) (.int j) kb=kb (decide (j < i)):=rfl
theorem aa3{i j:Int}:bx .GtE (.int i) (.int j) kb=kb (decide (j<=i)):=rfl
theorem aa4{i j:AA}:bx .Lt (.str i) (.str j) kb=kb (decide (i < j)):=rfl
theorem aa5{i j:AA}:bx .LtE (.str i) (.str j) kb=kb (!decide (j < i)):=rfl
theorem aa6{a:D}:bx .Is a .non kb=kb (eF a):=by cases a <;> rfl
theorem aa7{a:D}:bx .IsNot a .non kb=kb (!eF a):=by cases a <;> rfl
theorem aa8{a b:Bool}:bx .Is (.bl a) (.bl b) kb=kb (a==b):=rfl
theorem aa9{a b:Bool}:bx .IsNot (.bl a) (.bl b) kb=kb (a != b):=rfl
theorem aba{c:Nat}{l:AA}:bx .In (.str [c]) (.str l) kb=kb (l.contains c):=rfl
theorem abb{c:Nat}{l:AA}:bx .NotIn (.str [c]) (.str l) kb=kb (!l.contains c):=rfl
theorem abd{a:D}{l:AS}:bx .In a (.lst l) kb=((nr a=true/\nrs l=true/\aV l<=60)/\kb (isIn a l)):=rfl
theorem abe{a:D}{l:AS}:bx .In a (.tup l) kb=((nr a=true/\nrs l=true/\aV l<=60)/\kb (isIn a l)):=rfl
theorem abf{a:D}{l:AS}:bx .NotIn a (.lst l) kb=((nr a=true/\nrs l=true/\aV l<=60)/\kb (!isIn a l)):=rfl
theorem abg{a:D}{l:AS}:bx .NotIn a (.tup l) kb=((nr a=true/\nrs l=true/\aV l<=60)/\kb (!isIn a l)):=rfl
theorem abh{i:Int}:eF (.int i)=false:=rfl
theorem abi{i:Bool}:eF (.bl i)=false:=rfl
theorem abj{i:AA}:eF (.str i)=false:=rfl
theorem abk{i:AS}:eF (.tup i)=false:=rfl
theorem abl{i:AS}:eF (.lst i)=false:=rfl
theorem abm{i:AQ}:eF (.ref i)=false:=rfl
theorem abn:eF .non=true:=rfl
def bH{α:Type}(o:Option α)(k:α->Prop):Prop:=match o with |some a=>k a |none=>False
theorem abo{α:Type}{a:α}{k:α->Prop}:bH (some a) k=k a:=rfl
theorem aU{α:Type}{o:Option α}{a:α}{k:α->Prop}(e:o=some a)(h:k a):bH o k:=by rw[e];exact h
theorem lW{α:Type}{xs:List α}{i:Int}{k:α->Prop}(h0:0<=i)(h1:i < xs.length)(h:∀a,a∈xs->k a):bH (atI xs i) k:=by obtain ⟨a,e,m⟩:=aaN h0 h1;exact aU e (h a m)
theorem abp{ds:AS}{i:Int}:du (.lst ds) (.int i) kd=bH (atI ds i) kd:=by unfold du bH;(try dsimp only) <;> (cases atI ds i <;> rfl)
theorem abq{ds:AS}{i:Int}:du (.tup ds) (.int i) kd=bH (atI ds i) kd:=by unfold du bH;(try dsimp only) <;> (cases atI ds i <;> rfl)
theorem abr{l:AA}{i:Int}:du (.str l) (.int i) kd=bH (atI l i) (λc=>kd (.str [c])):=by unfold du bH;(try dsimp only) <;> (cases atI l i <;> rfl)
theorem abt{ds:AS}{lo hi:Option Int}:fJ fz (.lst ds) lo hi G k=mk fz (cut ds lo hi) G k:=rfl
theorem abu{ds:AS}{y:D}:rB fz (.lst ds) y G k=(y=.int (-1)/\mk fz ds.reverse G k):=rfl
theorem abv{ds:List Int}{lo hi:Option Int}:fJ fz (.scr ds) lo hi G k=mk fz ((cut ds lo hi).map .int) G k:=rfl
theorem abw{ds:AS}{lo hi:Option Int}:fJ fz (.tup ds) lo hi G k=k (.tup (cut ds lo hi)) G:=rfl
theorem abx{ds:AA}{lo hi:Option Int}:fJ fz (.str ds) lo hi G k=k (.str (cut ds lo hi)) G:=rfl
theorem aby{ds:AS}:opB .len [.lst ds] kd=kd (.int ds.length):=rfl
theorem abz{ds:AS}:opB .len [.tup ds] kd=kd (.int ds.length):=rfl
theorem abA{ds:AA}:opB .len [.str ds] kd=kd (.int ds.length):=rfl
theorem abB{ds:AS}:opB .all [.lst ds] kd=bH (bools ds) (λbs=>kd (.bl (bs.all id))):=by unfold opB rD bH;(try dsimp only) <;> (cases bools ds <;> rfl)
theorem abC{b:Bool}:opB .int [.bl b] kd=kd (.int (if b then 1 else 0)):=rfl
theorem abD{b:Int}:opB .int [.int b] kd=kd (.int b):=rfl
theorem abE{l:AA}:opB .int [.str l] kd=bH (PySem.intText? (tx l)) (λn=>l.length<=640/\kd (.int n)):=by unfold opB rE bH;(try dsimp only) <;> (cases PySem.intText? (tx l) <;> rfl)
theorem abF{ds:AS}:opB .sum [.lst ds] kd=bH (cP ds) (λns=>kd (.int ns.sum)):=by unfold opB vU bH;(try dsimp only) <;> (cases cP ds <;> rfl)
theorem abG{a:Int}:opB .str [.int a] kd=((0<=a/\a < 100)/\kd (.str (iu a.toNat))):=rfl
theorem abH{a:Int}:opB .abs [.int a] kd=kd (.int (if a < 0 then -a else a)):=rfl
theorem abI{a b:Int}:opB .min2 [.int a,.int b] kd=kd (.int (if b < a then b else a)):=rfl
theorem abJ{a b:Int}:opB .max [.int a,.int b] kd=kd (.int (if b > a then b else a)):=rfl
theorem abK{ds:AS}{kl:AS->Prop}:cZ .sorted [.tup ds] kl=bH (cP ds) (λns=>ns.length < 64/\∀ns':List Int,ns'.Perm ns->ns'.Pairwise (·<=·)->kl (ns'.map D.int)):=by unfold cZ rF bH;(try dsimp only) <;> (cases cP ds <;> rfl)
theorem abL{ds:AS}{kl:AS->Prop}:iw (.lst ds) kl=bH (bu ds) (λls=>(ls.length<=1000/\(cA ls).length<=64)/\∀ls':List (AA),ls'.Perm (cA ls)->kl (ls'.map D.str)):=by unfold iw bH;(try dsimp only) <;> (cases bu ds <;> rfl)
theorem abM{ds:AS}{kl:AS->Prop}:cZ .sorted [.lst ds] kl=bH (bu ds) (λls=>ls.length < 64/\∀ls':List (AA),ls'.Perm ls->PyProof.Rows.sortedS (ls'.map tx)=true->kl (ls'.map D.str)):=by unfold cZ rF bH;(try dsimp only) <;> (cases bu ds <;> rfl)
theorem abN{ds:AS}:opB .tuple [.lst ds] kd=kd (.tup ds):=rfl
theorem abO{ds:AS}:opB .tuple [.tup ds] kd=kd (.tup ds):=rfl
theorem abP{ds:AS}{kl:AS->Prop}:cZ .list [.lst ds] kl=kl ds:=rfl
theorem abQ{ds:AS}{kl:AS->Prop}:cZ .list [.tup ds] kl=kl ds:=rfl
theorem abR{l:AA}{kl:AS->Prop}:cZ .list [.str l] kl=kl (l.map λc=>.str [c]):=rfl
theorem abS{s:AA}{ds:AS}:opM .join (.str s) [.lst ds] G k=bH (bu ds) (λls=>((ls.map (·.length)).sum+ls.length * s.length<=sz)/\k (.str (fK s ls)) G):=by unfold opM rG bH;(simp only[cS,List.map_nil,view]) <;> (cases bu ds <;> rfl)
def trk(G:DH)(p:AQ)(k:AS->Prop):Prop:=match G p with |some (.lst ds)=>k ds |none=>False
theorem dj{ds:AS}{k:AS->Prop}(e:G p=some (.lst ds)):trk G p k=k ds:=by unfold trk;rw[e]
theorem abT{x:D}:opM .append (.ref p) [x] G k=trk G p (λds=>ds.length < sz/\k .non (aX G p (.lst (ds++[x])))):=by unfold opM rH trk;(try dsimp only) <;> (cases G p <;> first |rfl | (rename_i o;cases o;rfl))
theorem abU{xs:AS}:opM .extend (.ref p) [.lst xs] G k=trk G p (λds=>ds.length+xs.length < sz/\k .non (aX G p (.lst (ds++xs)))):=by unfold opM rJ trk;(simp only[cS,List.map_nil,view]) <;> (cases G p <;> first |rfl | (rename_i o;cases o;rfl))
theorem abV{i j:Nat}{ds:AS}{Y:aq}{kk:aq->DH->Prop}:Xo i j (.lst ds) Y G kk=(ds≠[]/\∀xs y,ds=xs++[y]->kk ((Y.set i (some (.lst xs))).set j (some y)) G):=rfl
theorem abW{C c:AL}{xs:List AL}{kk:Bool->Prop}:Fd C xs (.exn c) kk=(xs.contains c=true/\kk (iy c C)):=rfl
theorem abX{C c f:AL}{d:D}{xs:List AL}{kk:Bool->Prop}:Fd C xs (.exa c f d) kk=(xs.contains c=true/\kk (iy c C)):=rfl
theorem x_at{C f:AL}{v:D}{kk:D->Prop}:Fe C f (.exa C f v) kk=kk v:=by simp[Fe]
theorem abY{b f:AL}{d:D}:view G (.exa b f d)=.exa b f d:=rfl
theorem abZ{s:AA}:recv .join (.str s) G=True:=rfl
theorem ab0:recv .append (.ref p) G=trk G p (λ_=>True):=by unfold recv trk;(try dsimp only) <;> (cases G p <;> first |rfl | (rename_i o;cases o;rfl))
theorem ab1:recv .extend (.ref p) G=trk G p (λ_=>True):=by unfold recv trk;(try dsimp only) <;> (cases G p <;> first |rfl | (rename_i o;cases o;rfl))
theorem ab2{i:Int}{x:D}{kg:DH->Prop}:gP (.ref p) (.int i) x G kg=trk G p (λds=>bH (ixN ds.length i) (λj=>kg (aX G p (.lst (ds.set j x))))):=by
 unfold gP trk bH
 (try dsimp only) <;> (cases G p <;> first |rfl | (rename_i o;cases o;(try dsimp only) <;> (rename_i ds;cases ixN ds.length i <;> rfl)))
theorem ab3{i j:Int}:gb .Add (.int i) (.int j) kd=kd (.int (i+j)):=rfl
theorem ab4{x y:AA}:gb .Add (.str x) (.str y) kd=(x.length+y.length<=sz/\kd (.str (x++y))):=rfl
theorem ab5{i j:Int}:gb .Sub (.int i) (.int j) kd=kd (.int (i - j)):=rfl
theorem ab6{xs:AS}:mk true xs G k=k (.lst xs) G:=rfl
theorem ab7{xs:AS}:mk false xs G k=∀p,G p=none->k (.ref p) (aX G p (.lst xs)):=rfl
theorem ab8:view G .non=.non:=rfl
theorem ab9{b:Bool}:view G (.bl b)=.bl b:=rfl
theorem aca{b:Int}:view G (.int b)=.int b:=rfl
theorem acb{b:AA}:view G (.str b)=.str b:=rfl
theorem acd{b:AS}:view G (.tup b)=.tup b:=rfl
theorem ace{b:AS}:view G (.lst b)=.lst b:=rfl
theorem acf{C f:AL}{q:AQ}:view G (.obj C f q)=.obj C f q:=rfl
theorem acg{b:AL}:view G (.exn b)=.exn b:=rfl
theorem ach{b:List Int}:view G (.scr b)=.scr b:=rfl
theorem cT{ds:AS}(e:G p=some (.lst ds)):view G (.ref p)=.lst ds:=by unfold view;dsimp only;rw[e]
theorem aci:truth .non=some false:=rfl
theorem acj{b:Bool}:truth (.bl b)=some b:=rfl
theorem ack{i:Int}:truth (.int i)=some (i != 0):=rfl
theorem acl{l:AA}:truth (.str l)=some (!l.isEmpty):=rfl
theorem acn{l:AS}:truth (.tup l)=some (!l.isEmpty):=rfl
theorem aco{l:AS}:truth (.lst l)=some (!l.isEmpty):=rfl
theorem acp{l:AS}:itemsOf G (.lst l)=some (l,[]):=rfl
theorem acq{l:AS}:itemsOf G (.tup l)=some (l,[]):=rfl
theorem acr{l:AA}:itemsOf G (.str l)=some (l.map λc=>.str [c],[]):=rfl
theorem iH{ds:AS}(e:G p=some (.lst ds)):itemsOf G (.ref p)=some (ds,[(p,ds)]):=by unfold itemsOf;dsimp only;rw[e]
theorem acs{t:AL}:isT t .non=some false:=rfl
theorem acu {t:AL} {b:Bool}:isT t (.bl b)=some (t=="bool"||t=="int"):=rfl
theorem acv {t:AL} {b:Int}:isT t (.int b)=some (t=="int"):=rfl
theorem acw {t:AL} {b:AA}:isT t (.str b)=some (t=="str"):=rfl
theorem is_tup {t:AL} {b:AS}:isT t (.tup b)=some (t=="tuple"):=rfl
theorem acx {t:AL} {b:AS}:isT t (.lst b)=some (t=="list"):=rfl
theorem acy{i:Nat}{d:D}{Y:aq}{kr:aq->Prop}:aR (.nm i) d Y G kr=kr (Y.set i (some d)):=rfl
theorem acz{ts:Tgs}{ds:AS}{Y:aq}{kr:aq->Prop}:aR (.tp ts) (.lst ds) Y G kr=cj ts ds Y G kr:=rfl
theorem acA{ts:Tgs}{ds:AS}{Y:aq}{kr:aq->Prop}:aR (.tp ts) (.tup ds) Y G kr=cj ts ds Y G kr:=rfl
theorem acB{ρ:aq}{kr:aq->Prop}:cj .nil [] ρ G kr=kr ρ:=rfl
theorem acC{t:Tg}{r:Tgs}{d:D}{ds:AS}{Y:aq}{kr:aq->Prop}:cj (.cons t r) (d::ds) Y G kr=aR t d Y G (λρ'=>cj r ds ρ' G kr):=rfl
theorem acD:deq .non .non=true:=rfl
theorem acE  {y:Bool}:deq .non (.bl y)=false:=rfl
theorem acF  {y:Int}:deq .non (.int y)=false:=rfl
theorem acG  {y:AA}:deq .non (.str y)=false:=rfl
theorem acH  {y:AS}:deq .non (.tup y)=false:=rfl
theorem acI  {y:AS}:deq .non (.lst y)=false:=rfl
theorem acJ{x:Bool} :deq (.bl x) .non=false:=rfl
theorem acK{x:Bool}{y:Bool}:deq (.bl x) (.bl y)=(x==y):=by rw[deq]
theorem acL{x:Bool}{y:AA}:deq (.bl x) (.str y)=false:=rfl
theorem acM{x:Bool}{y:AS}:deq (.bl x) (.tup y)=false:=rfl
theorem acN{x:Bool}{y:AS}:deq (.bl x) (.lst y)=false:=rfl
theorem acO{x:Int} :deq (.int x) .non=false:=rfl
theorem Jp{x:Int}{y:Int}:deq (.int x) (.int y)=(x==y):=by rw[deq]
theorem acP{x:Int}{y:AA}:deq (.int x) (.str y)=false:=rfl
theorem acQ{x:Int}{y:AS}:deq (.int x) (.tup y)=false:=rfl
theorem acR{x:Int}{y:AS}:deq (.int x) (.lst y)=false:=rfl
theorem acS{x:AA} :deq (.str x) .non=false:=rfl
theorem acT{x:AA}{y:Bool}:deq (.str x) (.bl y)=false:=rfl
theorem acU{x:AA}{y:Int}:deq (.str x) (.int y)=false:=rfl
theorem Jq{x:AA}{y:AA}:deq (.str x) (.str y)=(x==y):=by rw[deq]
theorem acV{x:AA}{y:AS}:deq (.str x) (.tup y)=false:=rfl
theorem acW{x:AA}{y:AS}:deq (.str x) (.lst y)=false:=rfl
theorem acX{x:AS} :deq (.tup x) .non=false:=rfl
theorem acY{x:AS}{y:Bool}:deq (.tup x) (.bl y)=false:=rfl
theorem acZ{x:AS}{y:Int}:deq (.tup x) (.int y)=false:=rfl
theorem ac0{x:AS}{y:AA}:deq (.tup x) (.str y)=false:=rfl
theorem ac1{x:AS}{y:AS}:deq (.tup x) (.tup y)=cL x y:=by rw[deq]
theorem ac3{x:AS}{y:AS}:deq (.tup x) (.lst y)=false:=rfl
theorem ac4{x:AS} :deq (.lst x) .non=false:=rfl
theorem ac5{x:AS}{y:Bool}:deq (.lst x) (.bl y)=false:=rfl
theorem ac6{x:AS}{y:Int}:deq (.lst x) (.int y)=false:=rfl
theorem ac7{x:AS}{y:AA}:deq (.lst x) (.str y)=false:=rfl
theorem ac8{x:AS}{y:AS}:deq (.lst x) (.tup y)=false:=rfl
theorem ac9{x:AS}{y:AS}:deq (.lst x) (.lst y)=cL x y:=by rw[deq]
theorem ada:cL [] []=true:=rfl
theorem adb{a b:D}{as bs:AS}:cL (a::as) (b::bs)=(deq a b&&cL as bs):=by rw[cL]
theorem adc{b:D}{bs:AS}:cL [] (b::bs)=false:=rfl
theorem ade{b:D}{bs:AS}:cL (b::bs) []=false:=rfl
theorem adf :nr .non=true:=rfl
theorem adg :dpt .non=0:=rfl
theorem adh{x:Bool}:nr (.bl x)=true:=rfl
theorem adi{x:Bool}:dpt (.bl x)=0:=rfl
theorem adk{x:Int}:nr (.int x)=true:=rfl
theorem adl{x:Int}:dpt (.int x)=0:=rfl
theorem adm{x:AA}:nr (.str x)=true:=rfl
theorem adn{x:AA}:dpt (.str x)=0:=rfl
theorem ado{x:AS}:nr (.tup x)=nrs x:=by rw[nr]
theorem adp{x:AS}:dpt (.tup x)=aV x+1:=by rw[dpt]
theorem adq{x:AS}:nr (.lst x)=nrs x:=by rw[nr]
theorem adt{x:AS}:dpt (.lst x)=aV x+1:=by rw[dpt]
theorem adu:nrs []=true:=rfl
theorem adv{a:D}{l:AS}:nrs (a::l)=(nr a&&nrs l):=by rw[nrs]
theorem adw:aV []=0:=rfl
theorem adx{a:D}{l:AS}:aV (a::l)=max (dpt a) (aV l):=by rw[aV]
end
def seq{Z:aj}{s:Sx}{r:Sxs}{E:EK}{Y:aq}{G:DH}{D:En}(h:∀M:aq->DH->Prop,(∀ρ' G',aA Z r E ρ' G' D->M ρ' G')->wpS Z s E Y G { D with nx:=M }):aA Z (.cons s r) E Y G D:=by rw[lB];exact h _ λ_ _ x=>x
def last{Z:aj}{s:Sx}{E:EK}{Y:aq}{G:DH}{D:En}(h:wpS Z s E Y G D):aA Z (.cons s .nil) E Y G D:=by rw[lB];exact wpS_mono s (D:=D) (D':={ D with nx:=λρ' G'=>aA Z .nil E ρ' G' D }) ⟨λρ' G' q=>(show aA Z .nil E ρ' G' D from by rw[lA];exact q),λ_ _ q=>q,λ_ _ q=>q,λ_ _ q=>q⟩ h
def done{Z:aj}{E:EK}{Y:aq}{G:DH}{D:En}(h:D.nx Y G):aA Z .nil E Y G D:=by rw[lA];exact h
section
variable {Z:aj} {E:EK} {ρ:aq} {G:DH}
def ForG(Z:aj)(t:Tg)(body:Sxs)(E:EK)(D:En)(items:List RF.D)(g:Hld)(ρ:aq)(G:DH):Prop:=
 forLoop (λd ρ' G' k=>aR t d ρ' G' λρ1=>aA Z body E ρ1 G' { D with nx:=k,ct:=k,bk:=D.nx }) g items ρ G D.nx
theorem ady{t:Tg}{it:It'}{body:Sxs}{D:En}:wpS Z (.for_ t it body) E ρ G D=wpI Z it E ρ G λitems g G1=>ForG Z t body E D items g ρ G1:=rfl
theorem ForG.inv{t:Tg}{body:Sxs}{D:En}{items:List RF.D}{g:Hld}(P:Nat->aq->DH->Prop)(h0:P 0 ρ G)(hh:∀i ρ G,P i ρ G->held g G)
  (hs:∀i d ρ G,items[i]?=some d->P i ρ G->∀kk:aq->DH->Prop,(∀ρ' G',P (i+1) ρ' G'->kk ρ' G')->aR t d ρ G λρ1=>aA Z body E ρ1 G { D with nx:=kk,ct:=kk,bk:=D.nx })
  (he:∀ρ G,P items.length ρ G->D.nx ρ G):ForG Z t body E D items g ρ G:=aaE P h0 hh hs he
def CompG(Z:aj)(elt:Ex)(tg:Tg)(cond:Tx)(items:AS)(g:Hld)(ρ:aq)(G:DH)(k:AS->DH->Prop):Prop:=
 compLoop (λd ρ' G' k'=>aR tg d ρ' G' λρ1=>wpT Z cond noE ρ1 G' λb G2=>match b with |true=>wpE Z elt noE ρ1 G2 λy G3=>k' (some y) ρ1 G3 |false=>k' none ρ1 G2) g items [] ρ G k
def jX(cap:List (Option Nat))(ρ:aq):aq:=cap.map λo=>match o with |none=>none |some j=>(ρ[j]?).join
theorem adz{ρ:aq}:jX [] ρ=[]:=rfl
theorem adA{cap:List (Option Nat)}{ρ:aq}:jX (none::cap) ρ=none::jX cap ρ:=rfl
theorem adB{cap:List (Option Nat)}{ρ:aq}{j:Nat}:jX (some j::cap) ρ=(ρ[j]?).join::jX cap ρ:=rfl
theorem adC{fz:Bool}{elt:Ex}{tg:Tg}{it:It'}{cond:Tx}{N:List AL}{cap:List (Option Nat)}{k:AT}:
  wpE Z (.comp fz elt tg it cond N cap) E ρ G k=wpI Z it E ρ G λitems g G1=>CompG Z elt tg cond items g (jX cap ρ) G1 λds G2=>mk fz ds G2 k:=rfl
theorem CompG.inv{elt:Ex}{tg:Tg}{cond:Tx}{items:AS}{g:Hld}{k:AS->DH->Prop}(P:Nat->AS->aq->DH->Prop)(h0:P 0 [] ρ G)(hh:∀i acc ρ G,P i acc ρ G->held g G)(hl:items.length<=sz)
  (hs:∀i d acc ρ G,items[i]?=some d->P i acc ρ G->∀kk:Option D->aq->DH->Prop,(∀o ρ' G',P (i+1) (acc++o.toList) ρ' G'->kk o ρ' G')->
   aR tg d ρ G λρ1=>wpT Z cond noE ρ1 G λb G2=>match b with |true=>wpE Z elt noE ρ1 G2 λy G3=>kk (some y) ρ1 G3 |false=>kk none ρ1 G2)
  (he:∀acc ρ G,P items.length acc ρ G->k acc G):CompG Z elt tg cond items g ρ G k:=Jd P h0 hh (!!hl) hs he
theorem CompG.pure{elt:Ex}{tg:Tg}{cond:Tx}{items:AS}{g:Hld}{k:AS->DH->Prop}(f:D->Option D)(I:aq->Prop)(h0:I ρ)(hg:held g G)(hl:items.length<=sz)
  (hs:∀d ρ,d∈items->I ρ->∀kk:Option D->aq->DH->Prop,(∀ρ',I ρ'->kk (f d) ρ' G)->aR tg d ρ G λρ1=>wpT Z cond noE ρ1 G λb G2=>match b with |true=>wpE Z elt noE ρ1 G2 λy G3=>kk (some y) ρ1 G3 |false=>kk none ρ1 G2)
  (he:k (items.filterMap f) G):CompG Z elt tg cond items g ρ G k:=Jf g f I h0 hg hl hs he
theorem CompG.map{elt:Ex}{tg:Tg}{cond:Tx}{items:AS}{g:Hld}{k:AS->DH->Prop}(f:D->D)(I:aq->Prop)(h0:I ρ)(hg:held g G)(hl:items.length<=sz)
  (hs:∀d ρ,d∈items->I ρ->∀kk:Option D->aq->DH->Prop,(∀ρ',I ρ'->kk (some (f d)) ρ' G)->aR tg d ρ G λρ1=>wpT Z cond noE ρ1 G λb G2=>match b with |true=>wpE Z elt noE ρ1 G2 λy G3=>kk (some y) ρ1 G3 |false=>kk none ρ1 G2)
  (he:k (items.map f) G):CompG Z elt tg cond items g ρ G k:=aaF g f I h0 hg hl hs he
def WhlG(Z:aj)(c:Tx)(body:Sxs)(E:EK)(D:En)(n:Nat)(ρ:aq)(G:DH):Prop:=
 whileLoop (λρ' G' k=>wpT Z c E ρ' G' k) (λρ' G' k=>aA Z body E ρ' G' { D with nx:=k,ct:=k,bk:=D.nx }) n ρ G D.nx
theorem yu{c:Tx}{body:Sxs}{D:En}:wpS Z (.whl c body) E ρ G D=∃n,WhlG Z c body E D n ρ G:=rfl
theorem WhlG.inv{c:Tx}{body:Sxs}{D:En}(P:Nat->aq->DH->Prop)(hs:∀n ρ G,P n ρ G->wpT Z c E ρ G λb G1=>match b with |true=>∀kk:aq->DH->Prop,(∀m ρ' G',m < n->P m ρ' G'->kk ρ' G')->aA Z body E ρ G1 { D with nx:=kk,ct:=kk,bk:=D.nx } |false=>D.nx ρ G1):
  ∀n ρ G,P n ρ G->WhlG Z c body E D (n+1) ρ G:=by
 intro n;induction n using Nat.strongRecOn with
 |_ n ih=>
  intro ρ G p;refine dw c (λb G1 q=>?_) (hs n ρ G p);cases b with
  |false=>exact q
  |true=>
   refine q _ λm ρ' G' hm p'=>?_;have:=ih m hm ρ' G' p';have up:∀(i j:Nat)(ρ:aq)(G:DH),i<=j->WhlG Z c body E D i ρ G->WhlG Z c body E D j ρ G:=by
    intro i;induction i with
    |zero=>intro j ρ G _ h;exact h.elim
    |succ i ihi=>
     intro j ρ G hij h;cases j with
     |zero=>omega
     |succ j=>
      refine dw c (λb G1 q=>?_) h;cases b with
      |false=>exact q
      |true=>exact dJ body (D:={ D with nx:=λρ' G'=>WhlG Z c body E D i ρ' G',ct:=λρ' G'=>WhlG Z c body E D i ρ' G',bk:=D.nx }) ⟨λρ' G' z=>ihi j ρ' G' (!0) z,λ_ _ z=>z,λ_ _ z=>z,λρ' G' z=>ihi j ρ' G' (!0) z⟩ q
   exact up (m+1) n ρ' G' hm this
end
def len0{α:Type}{l:List α}(h:l.length=0):l=[]:=dL.mp h
def t6{α:Type}{n:Nat}{l:List α}(h:l.length=n+1):∃a r,l=a::r/\r.length=n:=by
 cases l with
 |nil=>cases h
 |cons a r=>exact ⟨a,r,rfl,Nat.succ.inj h⟩
def cB{α:Type}{l:List α}(h:l.length=1):∃a,l=[a]:=by obtain ⟨a,r,rfl,h2⟩:=t6 h;cases len0 h2;exact ⟨a,rfl⟩
def bw{α:Type}{l:List α}(h:l.length=2):∃a b,l=[a,b]:=by obtain ⟨a,r,rfl,h2⟩:=t6 h;obtain ⟨b,rfl⟩:=cB h2;exact ⟨a,b,rfl⟩
def fO{α:Type}{l:List α}(h:l.length=3):∃a b c,l=[a,b,c]:=by obtain ⟨a,r,rfl,h2⟩:=t6 h;obtain ⟨b,c,rfl⟩:=bw h2;exact ⟨a,b,c,rfl⟩
def Jr{α:Type}{l:List α}(h:l.length=4):∃a b c d,l=[a,b,c,d]:=by obtain ⟨a,r,rfl,h2⟩:=t6 h;obtain ⟨b,c,d,rfl⟩:=fO h2;exact ⟨a,b,c,d,rfl⟩
structure Fo(Z:aj)(P:AK)(w:World)(K:PF)(mg:AH)(base:Heap)(k:Nat)(f:AL)(n:Nat):Prop where
 ex:∃fa fd ps,FnOk P w K mg base (CX1 P w) k fa fd ps (lift K n (Z f))/\PySem.W.keepIn K (.ref fa)=true/\Binds K fd ps []/\mg (⇑f)=some (.ref fa)
section
variable {Z:aj} {P:AK} {w:World} {K:PF} {mg:AH} {base:Heap} {k:Nat} {xs:List (AL×Bool)} {ot:OT}
def AllF(Z:aj)(P:AK)(w:World)(K:PF)(mg:AH)(base:Heap)(k:Nat):List (AL×Nat)->Prop
 |[]=>True
 | (f,n)::r=>Fo Z P w K mg base k f n/\AllF Z P w K mg base k r
def AllB(mg:AH):List AL->Prop
 |[]=>True
 |f::r=>mg (⇑f)=none/\AllB mg r
def AllC(K:PF)(mg:AH):List (AL×D)->Prop
 |[]=>True
 | (x,d)::r=>(∃u v,mg (⇑x)=some u/\RelV v u/\∀H F,Rep K H F d v)/\AllC K mg r
theorem AllF.get:∀{fs:List (AL×Nat)}{f:AL}{n:Nat},AllF Z P w K mg base k fs->(f,n)∈fs->Fo Z P w K mg base k f n
 | (f',n')::r,f,n,h,m=>by
  rcases bg.mp m with e |m
  .cases e;exact h.1
  .exact AllF.get h.2 m
theorem AllB.get:∀{fs:List AL}{f:AL},AllB mg fs->f∈fs->mg (⇑f)=none
 |f'::r,f,h,m=>by
  rcases bg.mp m with e |m
  .cases e;exact h.1
  .exact AllB.get h.2 m
theorem AllC.get:∀{fs:List (AL×D)}{x:AL}{d:D},AllC K mg fs->(x,d)∈fs->∃u v,mg (⇑x)=some u/\RelV v u/\∀H F,Rep K H F d v
 | (f',n')::r,f,n,h,m=>by
  rcases bg.mp m with e |m
  .cases e;exact h.1
  .exact AllC.get h.2 m
def cvB(K:PF)(C':AL):Option V:=match PySem.W.nsIn K mainGlobals (⇑C') with
 |some (some (.ref a))=>if Dp K a then some (.ref a) else none
 |some none=>if C'=="ValueError" then some (.ty "ValueError") else none
 |_=>none
def xiB(K:PF)(C C':AL)(cv:V):Bool:=match PySem.W.nsIn K mainGlobals (⇑C) with
 |some (some (.ref c))=>vA K c&&PySem.W.mroIn K c (valOf cv)==some (iy C C')&&(iy C C'||!(Value.ref c==valOf cv))
 |_=>false
def yw(K:PF)(C:AL):Bool:=match PySem.W.nsIn K mainGlobals (⇑C) with
 |some (some (.ref c))=>qZ K c
 |_=>false
def xsB(K:PF)(xs:List (AL×Bool)):Bool:=xs.all λp=>match p.2 with
 |true=>yw K p.1
 |false=>(cvB K p.1).any λcv=>xs.all λq=>!q.2||xiB K q.1 p.1 cv
theorem adD{h:Heap}(X:K.In h)(Gh:h.Ns mainGlobals mg){xs:List (AL×Bool)}(e:xsB K xs=true)(C:AL)(hC:xs.contains (C,true)=true):∃a,mg (⇑C)=some (.ref a)/\qZ K a=true/\PySem.W.nsIn K mainGlobals (⇑C)=some (some (.ref a)):=by
 have e1:yw K C=true:=df.mp e _ (bX.mp hC);unfold yw at e1;split at e1
 .rename_i a hn;exact ⟨a,PySem.W.mg_of X Gh hn,e1,hn⟩
 .cases e1
theorem adE{h:Heap}(X:K.In h)(Gh:h.Ns mainGlobals mg){xs:List (AL×Bool)}(e:xsB K xs=true)(C':AL)(hC:xs.contains (C',false)=true):∃cv,CV K mg C' cv/\∀C,xs.contains (C,true)=true->XI K C C' cv:=by
 have e1:((cvB K C').any λcv=>xs.all λq=>!q.2||xiB K q.1 C' cv)=true:=df.mp e _ (bX.mp hC);obtain ⟨cv,hcv,h2⟩:=aZ e1;refine ⟨cv,?_,λC hC=>?_⟩
 .unfold cvB at hcv;split at hcv
  .rename_i a hn;split at hcv
   .rename_i hb;cases hcv;exact .inl ⟨a,rfl,PySem.W.mg_of X Gh hn,hb⟩
   .cases hcv
  .rename_i hn;split at hcv
   .rename_i hb;cases hcv;exact .inr ⟨bm.mp hb,rfl,PySem.W.mg_none_of X Gh hn⟩
   .cases hcv
  .cases hcv
 .have e3:(!true||xiB K C C' cv)=true:=df.mp h2 _ (bX.mp hC);have e3:xiB K C C' cv=true:=e3;unfold xiB at e3;split at e3
  .rename_i c hn;rw[ae,ae,bm]at e3;refine ⟨c,hn,e3.1.1,e3.1.2,λhs=>?_⟩;have:=e3.2;rw[hs,Bool.false_or,i7]at this;exact this
  .cases e3
theorem bse{h:Heap}{fs:List (AL×Nat)}{bt:List AL}{cn:List (AL×D)}(h1:AllF Z P w K mg base k fs)(h2:AllB mg bt)(h3:AllC K mg cn)(X:K.In h)(Gh:h.Ns mainGlobals mg)(e:xsB K xs=true):Bse Z P w K mg base (CX1 P w) k fs bt cn xs {}:=
 ⟨λ_ _ m=>(h1.get m).ex,λ_ m=>h2.get m,λ_ _ m=>h3.get m,adD X Gh e,adE X Gh e,(λ_ _ _ _ h=>(nomatch h)),(λ_ _ h=>(nomatch h)),(λ_ _ h=>(nomatch h)),(λ_ _ h=>(nomatch h))⟩
theorem yx{x:AL}{i:Int}{t:Tok}(h:mg (⇑x)=some (.int i t)):∃u v,mg (⇑x)=some u/\RelV v u/\∀H F,Rep K H F (.int i) v:=⟨_,.int i,h,⟨t,rfl⟩,λ_ _=>rfl⟩
theorem adF{x:AL}{l:AA}{s:Str}{t:Tok}(h:mg (⇑x)=some (.str s t))(e:s=tx l)(hl:l.length<=sz):∃u v,mg (⇑x)=some u/\RelV v u/\∀H F,Rep K H F (.str l) v:=⟨_,.str s,h,⟨t,rfl⟩,λ_ _=>⟨by rw[e],hl⟩⟩
theorem yz{n:Nat}{S:RF.Spec}{fa:AQ}{fd:AJ}{ps:AD}(h:∀ds G a,¬S.pre ds G a):FnOk P w K mg base (CX1 P w) k fa fd ps (lift K n S):=
 ⟨λ_ _ _ _ ⟨_,_,_,_,_,_,a,hp,_⟩=>absurd hp (h _ _ a),λ_ _ _ _ _ _ _ _ _ _ _ _ _ ⟨_,_,_,_,_,_,a,hp,_⟩=>absurd hp (h _ _ a)⟩
end
section
variable {Z:aj} {P:AK} {w:World} {K:PF} {mg:AH} {base:Heap} {k j n:Nat} {fs:List (AL×Nat)} {bt:List AL} {cn:List (AL×D)} {xs:List (AL×Bool)} {ot:OT} {x:AL} {S:RF.Spec} {fa:AQ} {fd:AJ} {ps:AD}
theorem MthOk.mono{f C m:AL}(h:MthOk Z P w K mg base (CX1 P w) k f C m n)(hk:k<=j):MthOk Z P w K mg base (CX1 P w) j f C m n:=by obtain ⟨c,fa,fd,ps,h1,h2,h3,h4,h5⟩:=h;exact ⟨c,fa,fd,ps,h1,h2,h3,h4,h5.mono hk⟩
theorem MkoOk.mono{C:AL}(h:MkoOk Z P w K mg base (CX1 P w) k C n)(hk:k<=j):MkoOk Z P w K mg base (CX1 P w) j C n:=by obtain ⟨c,fa,fd,ps,sp,i,h0,h⟩:=h;exact ⟨c,fa,fd,ps,sp,i,bS h0 hk,h⟩
theorem XkoX.mono{C f:AL}(h:XkoX P w K mg base (CX1 P w) k xs C f)(hk:k<=j):XkoX P w K mg base (CX1 P w) j xs C f:=by obtain ⟨⟨c,fa,fd,ps,i,h0,h⟩,h2⟩:=h;exact ⟨⟨c,fa,fd,ps,i,bS h0 hk,h⟩,h2⟩
theorem Bse.add(B:Bse Z P w K mg base (CX1 P w) k fs bt cn xs ot)(e:Z x=S)(o:FnOk P w K mg base (CX1 P w) (k+j) fa fd ps (lift K n S))(h2:PySem.W.keepIn K (.ref fa)=true)(h3:Binds K fd ps [])(h4:mg (⇑x)=some (.ref fa)):Bse Z P w K mg base (CX1 P w) (k+j) ((x,n)::fs) bt cn xs ot:=by
 refine ⟨λf m hm=>?_,B.blt,B.con,B.xcl,B.xis,λf C m n h=>(B.mth f C m n h).mono (d6 _ _),λC n h=>(B.mko C n h).mono (d6 _ _),B.fld,λC f h=>(B.xko C f h).mono (d6 _ _)⟩;rcases bg.mp hm with e' |hm
 .cases e';exact ⟨fa,fd,ps,by rw[e];exact o,h2,h3,h4⟩
 .obtain ⟨fa,fd,ps,h1,h⟩:=B.call f m hm;exact ⟨fa,fd,ps,h1.mono (d6 _ _),h⟩
theorem Bse.step{qual:Str}{st:Stmt}{N:AD}{body:Sxs}(B:Bse Z P w K mg base (CX1 P w) k fs bt cn xs ot)(F:Fun K (⇑x) qual st fa fd)(h3:Binds K fd ps [])(h4:mg (⇑x)=some (.ref fa))(e:Z x=S)(m:Nat)
  (hs:fnB N ps (au st)=true) (hc:aB (aG N (au st) fs bt cn xs ot) body (aD st)=true) (hn:ps.length=n) (hm:N.length=n+m)
  (hw:∀ds G a,ds.length=n->S.pre ds G a->aA Z body noE (env0 ds m) G (ends (S.post a))):Bse Z P w K mg base (CX1 P w) (k+1) ((x,n)::fs) bt cn xs ot:=
 B.add e (lV F B S n m hs hc hn hm hw) F.kp h3 h4
def iI(Z:aj)(x:AL)(S:RF.Spec):aj:=λf=>if f=x then S else Z f
theorem jY{y:AL}(e:Z y=S){S':RF.Spec}(h:(y==x)=false):iI Z x S' y=S:=by unfold iI;rw[if_neg (!!h)];exact e
theorem Bse.self(B:Bse Z P w K mg base (CX1 P w) k fs bt cn xs {})(hx:(fs.map (·.1)).contains x=false)(o:FnOk P w K mg base (CX1 P w) (k+j) fa fd ps (lift K n S))(h2:PySem.W.keepIn K (.ref fa)=true)(h3:Binds K fd ps [])(h4:mg (⇑x)=some (.ref fa)):Bse (iI Z x S) P w K mg base (CX1 P w) (k+j) ((x,n)::fs) bt cn xs {}:=by
 refine ⟨λf m hm=>?_,B.blt,B.con,B.xcl,B.xis,(λ_ _ _ _ h=>(nomatch h)),(λ_ _ h=>(nomatch h)),(λ_ _ h=>(nomatch h)),(λ_ _ h=>(nomatch h))⟩;rcases bg.mp hm with e' |hm'
 .cases e';exact ⟨fa,fd,ps,by unfold iI;rw[if_pos rfl];exact o,h2,h3,h4⟩
 .obtain ⟨fa,fd,ps,h1,h⟩:=B.call f m hm';have hf:f≠x:=by
   rintro rfl;rw[<-Bool.not_eq_true,bX]at hx;exact hx (b6.mpr ⟨(f,m),hm',rfl⟩)
  exact ⟨fa,fd,ps,by unfold iI;rw[if_neg hf];exact h1.mono (d6 _ _),h⟩
end
def adG{S:RF.Spec}(hS:∀(ns:List Int)(G:DH),ns.length<=63->∃a,S.pre [.scr ns] G a/\(∀d G',S.post a d G'->d=.bl true)/\∀x G',¬S.exc a x G')(K:PF)(H:Hp)(a:AQ)(ns:List Int)(hl:ns.length<=63)(hO:Only H)(hs:SqL K H a (ns.map V.int)):
  lift K 1 S [.ref a] H (λv _=>v=.bl true) λ_ _ _=>False:=by
 obtain ⟨b,h1,h2,h3⟩:=hS ns (λ_=>none) hl;refine ⟨rfl,λ_=>False,λ_=>none,[.scr ns],⟨λ_ f=>f.elim,λ_ _ e=>by cases e⟩,⟨.ref a,[],rfl,⟨a,rfl,?_⟩,rfl⟩,b,h1,λd G' q H' F' v _ _ rv=>?_,λx G' q=>absurd q (h3 x G')⟩
 .rcases hs with (h |h) |h
  .exfalso;rcases hO a with z |⟨o,u,z⟩
   .rw[z]at h;cases h
   .rw[z]at h;cases h
  .exact .inl h
  .exact .inr h
 .rw[h2 d G' q]at rv;exact rv
def adH{pre:AS->DH->Prop}(h:∀(ns:List Int)(G:DH),ns.length<=63->pre [.scr ns] G):∀(ns:List Int)(G:DH),ns.length<=63->∃a,(bN pre (λ_ _ d _=>d=.bl true)).pre [.scr ns] G a/\(∀d G',(bN pre (λ_ _ d _=>d=.bl true)).post a d G'->d=.bl true)/\∀x G',¬(bN pre (λ_ _ d _=>d=.bl true)).exc a x G':=
 λns G hl=>⟨([.scr ns],G),⟨rfl,h ns G hl⟩,λ_ _ q=>q,λ_ _ z=>z⟩
def ghS{A:Type}(pre:A->AS->DH->Prop)(post:A->DH->D->DH->Prop):RF.Spec where
 A:=A×DH
 pre:=λds G a=>a.2=G/\pre a.1 ds G
 post:=λa d G'=>post a.1 a.2 d G'
 exc:=λ_ _ _=>False
def eG{A:Type}{pre:A->AS->DH->Prop}{post:A->DH->D->DH->Prop}{ds:AS}{G:DH}{k:AT}{E:EK}(a:A)(h:pre a ds G)(hk:∀d G',post a G d G'->k d G'):(ghS pre post).t ds G k E:=
 ⟨(a,G),⟨rfl,h⟩,hk,λ_ _ z=>z.elim⟩
def eH{A:Type}{Z:aj}{body:Sxs}{m n:Nat}{pre:A->AS->DH->Prop}{post:A->DH->D->DH->Prop}(h:∀a ds G,pre a ds G->aA Z body noE (env0 ds m) G (ends (post a G))):
  ∀ds G a,ds.length=n->(ghS pre post).pre ds G a->aA Z body noE (env0 ds m) G (ends ((ghS pre post).post a)):=by
 rintro ds G ⟨a,G0⟩ _ ⟨rfl,h1⟩;exact h a ds _ h1
def bJ{A:Type}(args:A->AS)(ok:A->Prop)(val:A->D):RF.Spec:=ghS (λa ds _=>ds=args a/\ok a) (λa G d G'=>G'=G/\d=val a)
def bT{A:Type}{args:A->AS}{ok:A->Prop}{val:A->D}{ds:AS}{G:DH}{k:AT}{E:EK}(a:A)(e:ds=args a)(h:ok a)(hk:k (val a) G):(bJ args ok val).t ds G k E:=
 eG a ⟨e,h⟩ λd G' ⟨e1,e2⟩=>by subst e1 e2;exact hk
def bU{A:Type}{Z:aj}{body:Sxs}{m n:Nat}{args:A->AS}{ok:A->Prop}{val:A->D}(h:∀a G,ok a->aA Z body noE (env0 (args a) m) G (ends λd G'=>G'=G/\d=val a)):
  ∀ds G a,ds.length=n->(bJ args ok val).pre ds G a->aA Z body noE (env0 ds m) G (ends ((bJ args ok val).post a)):=
 eH λa ds G ⟨e,h1⟩=>by subst e;exact h a G h1
section
local macro_rules|`(#[])=>`(.nil)|`(#[$x])=>`(.cons $x .nil)|`(#[$x,$y,*])=>`(.cons $x #[$y,*])
local macro_rules|`(-$x)=>`(.var $x)
local macro_rules|`(¬$x)=>`(.cst (.int $x))
local macro_rules|`(!$x)=>`(.cst (.str $x))
local macro_rules|`($x<|$y)=>`(.call $x $y)
def yC:Sxs:=#[.set (-0) (¬2) (¬0),.ret (-0)]
def yD:Sxs:=#[.ite (.val (.cmp .GtE (-0) (.bin .Pow true (¬10) (¬18)))) #[.ret (-0)] #[],.asg (.nm 2) (.bin .Mod true (.bin .Add true (.bin .Add true (.bin .Mult true (.bin .Mod true (-0) (¬1000000007)) (¬69069)) (.bin .Mult true (-1) (¬40503))) (¬977)) (¬2147483629)),.asg (.nm 3) (.bin .Mod true (.bin .Add true (.bin .Add true (.bin .Mult true (-2) (-2)) (.bin .Mult true (-1) (¬7919))) (.bin .Mod true (-0) (¬65537))) (¬2147483587)),.asg (.nm 4) (.bin .Mod true (.bin .Add true (.bin .Add true (.bin .Mult true (-3) (-3)) (.bin .Mult true (-2) (¬31))) (¬5)) (¬2147483563)),.ret (.bin .Add true (.bin .Mult true (.bin .Add true (.bin .Mult true (-2) (¬2147483659)) (-3)) (¬2147483693)) (-4))]
def yE:Sxs:=#[.ite (.val (.cmp .Lt (.idx (-0) (¬2)) (-1))) #[.asg (.nm 2) (.idx (-0) (¬1)),.asg (.nm 3) (¬0),.ite (.val (.cmp .Lt (-2) (.bcl .len #[.idx (-0) (¬0)]))) #[.asg (.nm 3) (.idx (.idx (-0) (¬0)) (-2))] #[.ite (.val (.cmp .Gt (.bcl .len #[.idx (-0) (¬0)]) (¬0))) #[.asg (.nm 3) (.bin .Mod true (.idx (.idx (-0) (¬0)) (.bin .Mod true (.bin .Add true (.bin .Mult true (-2) (¬5)) (¬3)) (.bcl .len #[.idx (-0) (¬0)]))) (.bin .Add true (.bin .Pow true (¬10) (¬17)) (-2)))] #[]],.set (-0) (¬1) (.bin .Add true (-2) (¬1)),.set (-0) (¬2) ("_law_spread"<|#[-3,-2])] #[],.asg (.nm 4) (.bin .Mod true (.idx (-0) (¬2)) (-1)),.set (-0) (¬2) (.bin .FloorDiv true (.idx (-0) (¬2)) (-1)),.ret (-4)]
def yF:Sxs:=#[.ret (.mth .join (![]) #[.comp true (.idx (-1) ("_law_take"<|#[-2,.bcl .len #[-1]])) (.nm 0) (.rng (-1)) .yes ["at","signs","pen"] [none,some 2,some 0]])]
def yG:Sxs:=#[.asg (.nm 2) (.lst true #[![97],![103,111],![115,116,97,121],![97,98,99,100,101,102,103,104],![110,111,110,101],![121,101,115],![105,110],![111,117,116],![107,101,101,112],![119,111,114,100],![122,122]]),.asg (.nm 3) ("_law_take"<|#[-0,¬11]),.asg (.nm 4) (.comp true (.idx (-1) (.bin .Mod true (.bin .Add true (-2) (.bin .Mult true (¬3) (-0))) (¬11))) (.nm 0) (.rng (.bin .Add true (¬1) ("_law_take"<|#[-0,-1]))) .yes ["k","some","turn"] [none,some 2,some 3]),.ite (.val (.cmp .Eq ("_law_take"<|#[-0,¬3]) (¬0))) #[.asg (.nm 5) (![97,98,99,100,101,102,103,104,105,106,107,108,109,110,111,112,113,114,115,116,117,118,119,120,121,122]),.asg (.nm 4) (.comp true ("_law_signs"<|#[-1,.bin .Add true (¬1) ("_law_take"<|#[-1,¬8]),-2]) (.nm 0) (.seq (-4)) .yes ["one","pen","letters"] [none,some 0,some 5])] #[],.ret (-4)]
def yH:Sxs:=#[.ret ("_law_signs"<|#[-0,-1,.idx (.lst true #[![48,49,42],![48,49,42,42],![48,49,42,42,42,42],![48,42],![48,49]]) ("_law_take"<|#[-0,¬5])])]
def yI:Sxs:=#[.asg (.nm 2) (![]),.for_ (.nm 3) (.seq (-1)) #[.ite (.val (.cmp .Eq ("_law_take"<|#[-0,¬3]) (¬0))) #[.asg (.nm 3) (![42])] #[],.asg (.nm 2) (.bin .Add true (-2) (-3))],.ret (-2)]
def yJ:Sxs:=#[.asg (.nm 2) (![]),.for_ (.nm 3) (.seq (-1)) #[.ite (.boo true (.val (.cmp .Eq (-3) (![42]))) #[.val (.cmp .Eq ("_law_take"<|#[-0,¬2]) (¬0))]) #[.asg (.nm 3) (.idx (![48,49]) ("_law_take"<|#[-0,¬2]))] #[],.asg (.nm 2) (.bin .Add true (-2) (-3))],.ret (-2)]
def yK:Sxs:=#[.asg (.nm 3) ("_law_take"<|#[-0,¬7]),.ite (.boo false (.val (.cmp .Eq (-2) (.lst true #[]))) #[.val (.cmp .Lt (-3) (¬2))]) #[.ret ("_law_form"<|#[-0,-1])] #[],.asg (.nm 4) (.idx (-2) ("_law_take"<|#[-0,.bcl .len #[-2]])),.ite (.val (.cmp .Eq (-3) (¬2))) #[.ret (-4)] #[],.ite (.val (.cmp .Lt (-3) (¬5))) #[.asg (.nm 5) ("_law_take"<|#[-0,-1]),.ret (.bin .Add true (.bin .Add true (.slc true (-4) .no (.ob (-5))) (.idx (![48,49,42]) ("_law_take"<|#[-0,¬3]))) (.slc true (-4) (.ob (.bin .Add true (-5) (¬1))) .no))] #[],.ite (.val (.cmp .Eq (-3) (¬5))) #[.ret ("_law_within"<|#[-0,-4])] #[],.ret ("_law_wider"<|#[-0,-4])]
def yL:Sxs:=#[.asg (.nm 3) (.bin .Add true (¬1) ("_law_take"<|#[-0,-1])),.asg (.nm 4) ("_law_deeds_of"<|#[-0,¬3]),.asg (.nm 5) (.lst false #[]),.asg (.nm 6) (.lst false #[]),.for_ (.nm 7) (.rng ("_law_take"<|#[-0,.bin .Add true (-2) (¬1)])) #[.exp (.mth .append (-5) #["_law_form_like"<|#[-0,-3,-5]]),.exp (.mth .append (-6) #[.tup #[.idx (-5) (.neg (¬1)),.idx (-4) ("_law_take"<|#[-0,.bcl .len #[-4]])]])],.ret (.tup #[-3,.bcl .tuple #[-6]])]
def yM:Sxs:=#[.ret (.cmp .Eq (.comp true (¬1) (.tp #[.nm 0,.nm 1]) (.zip (-0) (-1)) (.val (.cmp .In (.bin .Add true (-0) (-1)) (.tup #[![48,49],![49,48]]))) ["one","two"] [none,none]) (.lst true #[]))]
def yN:Sxs:=#[.asg (.nm 2) ("_law_take"<|#[-0,.bcl .len #[-1]]),.asg (.tp #[.nm 3,.nm 4]) (.idx (-1) (-2)),.asg (.nm 5) (.comp true (-0) (.nm 0) (.rng (.bcl .len #[-3])) (.val (.cmp .Eq (.idx (-1) (-0)) (![42]))) ["place","form"] [none,some 3]),.asg (.nm 6) ("_law_take"<|#[-0,¬5]),.ite (.boo true (.val (.cmp .Eq (-6) (¬0))) #[.val (.cmp .NotEq (-5) (.lst true #[]))]) #[.asg (.nm 7) (.idx (-5) ("_law_take"<|#[-0,.bcl .len #[-5]])),.asg (.nm 8) (.comp true (.tup #[.bin .Add true (.bin .Add true (.slc true (-2) .no (.ob (-3))) (-0)) (.slc true (-2) (.ob (.bin .Add true (-3) (¬1))) .no),-1]) (.nm 0) (.seq (.idx (.lst true #[![48,49],![49,48]]) ("_law_take"<|#[-0,¬2]))) .yes ["sign","one","form","place"] [none,some 4,some 3,some 7]),.ret (.bin .Add true (.bin .Add true (.slc true (-1) .no (.ob (-2))) (-8)) (.slc true (-1) (.ob (.bin .Add true (-2) (¬1))) .no))] #[],.ite (.val (.cmp .Eq (-6) (¬1))) #[.asg (.nm 7) (.bin .Add true (.bin .Add true (-2) (¬1)) ("_law_take"<|#[-0,.bin .Sub true (.bcl .len #[-1]) (-2)])),.ret (.bin .Add true (.bin .Add true (.slc true (-1) .no (.ob (-7))) (.lst true #[.tup #["_law_within"<|#[-0,-3],.idx (.idx (-1) ("_law_take"<|#[-0,.bcl .len #[-1]])) (¬1)]])) (.slc true (-1) (.ob (-7)) .no))] #[],.ite (.val (.cmp .Eq (-6) (¬2))) #[.ret (.bin .Add true (.bin .Add true (.slc true (-1) .no (.ob (-2))) (.lst true #[.tup #["_law_within"<|#[-0,-3],-4]])) (.slc true (-1) (.ob (-2)) .no))] #[],.ite (.boo true (.val (.cmp .Lt (.bin .Add true (-2) (¬1)) (.bcl .len #[-1]))) #[.boo false (.val (.cmp .Eq (.idx (.idx (-1) (.bin .Add true (-2) (¬1))) (¬1)) (-4))) #[.not (.val ("_law_meet"<|#[-3,.idx (.idx (-1) (.bin .Add true (-2) (¬1))) (¬0)]))]]) #[.ret (.bin .Add true (.bin .Add true (.slc true (-1) .no (.ob (-2))) (.lst true #[.idx (-1) (.bin .Add true (-2) (¬1)),.idx (-1) (-2)])) (.slc true (-1) (.ob (.bin .Add true (-2) (¬2))) .no))] #[],.ret (-1)]
def yO:Sxs:=#[.asg (.nm 3) (.lcl true .list #[.idx (-1) (¬1)]),.for_ (.nm 4) (.rng (.bin .Mult true (-2) (.bcl .int #[.cmp .NotEq (-3) (.lst true #[])]))) #[.ite (.val (.cmp .Lt (.bcl .len #[-3]) (¬12))) #[.asg (.nm 3) ("_law_one_turning"<|#[-0,-3])] #[]],.ret (.tup #[.idx (-1) (¬0),.bcl .tuple #[-3]])]
def yP:Sxs:=#[.asg (.nm 3) ("_law_book"<|#[-0,-1,-2]),.ret ("_law_turned_alike"<|#[-0,-3,"_law_take"<|#[-0,¬5]])]
def yQ:Sxs:=#[.asg (.nm 1) (.lcl false .list #[.slc true (-0) .no (.ob (¬12))]),.for_ (.tp #[.nm 2,.nm 3]) (.enm (.slc true (-0) (.ob (¬12)) (.ob (¬63)))) #[.set (-1) (.bin .Mod true (-2) (¬12)) (.bin .Add true (.idx (-1) (.bin .Mod true (-2) (¬12))) (-3))],.ret (.lst false #[.frz (-1),¬0,¬0])]
def yR:Sxs:=#[.asg (.nm 1) (![]),.for_ (.nm 2) (.rng (.bcl .len #[.idx (-0) (¬0)])) #[.asg (.nm 3) (.srs true (.comp true (.idx (-0) (-1)) (.nm 0) (.seq (-0)) .yes ["word","at"] [none,some 2])),.asg (.nm 1) (.bin .Add true (-1) (.idx (.lst true #[![42],.idx (-3) (¬0)]) (.bcl .int #[.cmp .Eq (.bcl .len #[-3]) (¬1)])))],.ret (-1)]
def yS:Sxs:=#[.asg (.nm 1) (¬1),.for_ (.nm 2) (.seq (-0)) #[.asg (.nm 1) (.bin .Mult true (-1) (.bin .Add true (¬1) (.bcl .int #[.cmp .Eq (-2) (![42])])))],.ret (-1)]
def yU:Sxs:=#[.asg (.nm 1) (.lst true #[![]]),.for_ (.nm 2) (.seq (-0)) #[.asg (.nm 3) (.lst false #[]),.for_ (.nm 4) (.seq (-1)) #[.exp (.mth .extend (-3) #[.comp true (.bin .Add true (-1) (-0)) (.nm 0) (.seq (.idx (.lst true #[![48,49],-2]) (.bcl .int #[.cmp .NotEq (-2) (![42])]))) .yes ["one","text"] [none,some 4]])],.asg (.nm 1) (.frz (-3))],.ret (-1)]
def yV:Sxs:=#[.asg (.nm 2) (.srs true (.bin .Add true ("_law_words"<|#[-0]) ("_law_words"<|#[-1]))),.asg (.nm 3) ("_law_form_of"<|#[-2]),.ite (.val (.cmp .Gt ("_law_many_words"<|#[-3]) (.bcl .len #[-2]))) #[.ret (.cst .non)] #[],.ret (-3)]
def yW:Sxs:=#[.asg (.tp #[.nm 4,.nm 5]) (-0),.asg (.nm 6) ("_law_joined"<|#[.idx (.idx (-5) (-1)) (¬0),.idx (.idx (-5) (-2)) (¬0)]),.ite (.boo false (.val (.cmp .GtE (-1) (-2))) #[.val (.cmp .NotEq (.idx (.idx (-5) (-1)) (¬1)) (.idx (.idx (-5) (-2)) (¬1))),.val (.cmp .Is (-6) (.cst .non))]) #[.ret (.cst .non)] #[],.asg (.nm 7) (.comp false (.idx (-1) (-0)) (.nm 0) (.rng (.bcl .len #[-5])) .yes ["k","rows"] [none,some 5]),.set (-7) (-3) (.tup #[-6,.idx (.idx (-5) (-3)) (¬1)]),.ret (.tup #[-4,.bcl .tuple #[.comp true (.idx (-1) (-0)) (.nm 0) (.rng (.bcl .len #[-5])) (.boo false (.val (.cmp .Eq (-0) (-2))) #[.val (.cmp .NotIn (-0) (.tup #[-3,-4]))]) ["k","found","at","one","other"] [none,some 7,some 3,some 1,some 2]]])]
def yX:Sxs:=#[.for_ (.tp #[.nm 2,.nm 3]) (.zip (-0) (-1)) #[.ite (.boo true (.val (.cmp .NotEq (-2) (![42]))) #[.val (.cmp .NotEq (-2) (-3))]) #[.ret (.cst (.bl false))] #[]],.ret (.cst (.bl true))]
def yZ:Sxs:=#[.for_ (.tp #[.nm 2,.nm 3]) (.enm (.idx (-0) (¬1))) #[.ite (.val ("_law_fits"<|#[.idx (-3) (¬0),-1])) #[.ret (-2)] #[]],.ret (.cst .non)]
def za:Sxs:=#[.asg (.nm 2) ("_law_met"<|#[-0,-1]),.ite (.val (.cmp .Is (-2) (.cst .non))) #[.ret (.cst .non)] #[],.ret (.idx (.idx (.idx (-0) (¬1)) (-2)) (¬1))]
def zb:Sxs:=#[.for_ (.nm 2) (.seq ("_law_words"<|#[.bin .Mult true (![42]) (.idx (-0) (¬0))])) #[.ite (.val (.cmp .NotEq ("_law_deed"<|#[-0,-2]) ("_law_deed"<|#[-1,-2]))) #[.ret (-2)] #[]],.ret (.cst .non)]
def zc:Sxs:=#[.asg (.nm 1) (.bcl .len #[.idx (-0) (¬1)]),.for_ (.nm 2) (.rng (-1)) #[.for_ (.nm 3) (.rng2 (.bin .Add true (-2) (¬1)) (-1)) #[.for_ (.nm 4) (.seq (.tup #[-2,-3])) #[.asg (.nm 5) ("_law_made"<|#[-0,-2,-3,-4]),.ite (.boo true (.val (.cmp .IsNot (-5) (.cst .non))) #[.val (.cmp .Is ("_law_parting"<|#[-0,-5]) (.cst .non))]) #[.ret (-5)] #[]]]],.ret (.cst .non)]
def zf:Sxs:=#[.asg (.tp #[.nm 1,.nm 2]) (-0),.for_ (.nm 3) (.dwn (.bin .Sub true (.bcl .len #[-2]) (¬1)) (.neg (¬1)) (.neg (¬1))) #[.asg (.nm 4) (.tup #[-1,.bin .Add true (.slc true (-2) .no (.ob (-3))) (.slc true (-2) (.ob (.bin .Add true (-3) (¬1))) .no)]),.ite (.val (.cmp .Is ("_law_parting"<|#[.tup #[-1,-2],-4]) (.cst .non))) #[.asg (.nm 2) (.idx (-4) (¬1))] #[]],.ret (.tup #[-1,-2])]
def zg:Sxs:=#[.asg (.nm 1) (.cst .non),.whl (.val (.cmp .NotEq (-0) (-1))) #[.asg (.nm 1) (-0),.asg (.nm 2) ("_law_first_join"<|#[-0]),.whl (.val (.cmp .IsNot (-2) (.cst .non))) #[.asg (.nm 0) (-2),.asg (.nm 2) ("_law_first_join"<|#[-0])],.asg (.nm 0) ("_law_lean"<|#[-0])],.ret (-0)]
def fP:Sxs:=#[.ite (.val (.cmp .Is (-1) (.cst .non))) #[.ret (.cmp .Is (-0) (.cst .non))] #[],.ite (.boo false (.val (.isi (-1) "bool")) #[.val (.isi (-0) "bool")]) #[.ret (.boo true (.isi (-1) "bool") #[.isi (-0) "bool",.cmp .Eq (-0) (-1)])] #[],.ite (.val (.isi (-1) "int")) #[.ret (.boo true (.isi (-0) "int") #[.cmp .Eq (-0) (-1)])] #[],.ite (.val (.isi (-1) "str")) #[.ret (.boo true (.isi (-0) "str") #[.cmp .Eq (-0) (-1)])] #[],.ite (.boo false (.val (.cmp .NotEq (.isi (-1) "tuple") (.isi (-0) "tuple"))) #[.val (.cmp .NotEq (.isi (-1) "list") (.isi (-0) "list"))]) #[.ret (.cst (.bl false))] #[],.ite (.val (.cmp .NotEq (.bcl .len #[-0]) (.bcl .len #[-1]))) #[.ret (.cst (.bl false))] #[],.ret (.cmp .NotIn (.cst (.bl false)) (.comp true ("_law_same"<|#[-0,-1]) (.tp #[.nm 0,.nm 1]) (.zip (-0) (-1)) .yes ["one","other"] [none,none]))]
def lX:Sxs:=#[.ite (.val (.cmp .NotEq (.bcl .len #[-0]) (.bcl .len #[-1]))) #[.ret (.cst (.bl false))] #[],.ret (.bcl .all #[.comp true (.boo false (.cmp .Eq (-0) (![42])) #[.cmp .Eq (-0) (-1)]) (.tp #[.nm 0,.nm 1]) (.zip (-0) (-1)) .yes ["sign","given"] [none,none]])]
def lY:Sxs:=#[.ret ("fits"<|#[-1,-0])]
def lZ:Sxs:=#[.ret (.bin .Add true (.bin .Add true (.slc true (-0) .no (.ob (-1))) (-2)) (.slc true (-0) (.ob (.bin .Add true (-1) (¬1))) .no))]
def mj:Sxs:=#[.ite (.val ("lies_in"<|#[-0,-1])) #[.ret (-1)] #[],.ite (.val ("lies_in"<|#[-1,-0])) #[.ret (-0)] #[],.asg (.nm 2) (.comp true (-0) (.tp #[.nm 0,.nm 1]) (.enm (-0)) (.val (.cmp .NotEq (-1) (.idx (-2) (-0)))) ["at","sign","other"] [none,none,some 1]),.ite (.val (.cmp .Eq (.bcl .len #[-2]) (¬1))) #[.ret ("with_sign"<|#[-0,.idx (-2) (¬0),![42]])] #[],.ret (.cst .non)]
def mq:Sxs:=#[.ret (.boo true (.isi (-0) "int") #[.not (.isi (-0) "bool")])]
def my:Sxs:=#[.ret (.boo true ("is_whole"<|#[-1]) #[.chn .LtE .Lt (¬0) (-1) (-0)])]
def mz:Sxs:=#[.ite (.boo false (.not (.val (.isi (-0) "str"))) #[.not (.val (.chn .LtE .LtE (¬1) (.bcl .len #[-0]) (.glb "LONGEST_DEED" (.int 8))))]) #[.ret (.cst (.bl false))] #[],.ret (.bcl .all #[.comp true (.cmp .In (-0) (.glb "LETTERS" (.str [97,98,99,100,101,102,103,104,105,106,107,108,109,110,111,112,113,114,115,116,117,118,119,120,121,122]))) (.nm 0) (.seq (-0)) .yes ["sign"] [none]])]
def mC:Sxs:=#[.ite (.boo false (.not (.val (.isi (-2) "str"))) #[.val (.cmp .NotEq (.bcl .len #[-2]) (-1))]) #[.ret (.cst (.bl false))] #[],.ret (.bcl .all #[.comp true (.cmp .In (-0) (-1)) (.nm 0) (.seq (-2)) .yes ["sign","signs"] [none,some 0]])]
def mD:Sxs:=#[.ret ("is_text_of"<|#[![48,49,42],-0,-1])]
def mF:Sxs:=#[.ite (.boo false (.not (.val (.isi (-1) "tuple"))) #[.val (.cmp .NotEq (.bcl .len #[-1]) (¬2))]) #[.ret (.cst (.bl false))] #[],.ret (.boo true ("is_form"<|#[-0,.idx (-1) (¬0)]) #["is_deed"<|#[.idx (-1) (¬1)]])]
def mG:Sxs:=#[.ret (.boo true ("is_whole"<|#[-0]) #[.chn .LtE .LtE (¬1) (-0) (.glb "WIDEST" (.int 6))])]
def mH:Sxs:=#[.ite (.boo false (.not (.val (.isi (-0) "tuple"))) #[.val (.cmp .NotEq (.bcl .len #[-0]) (¬2))]) #[.ret (.cst (.bl false))] #[],.asg (.tp #[.nm 1,.nm 2]) (-0),.ite (.boo false (.not (.val ("is_width"<|#[-1]))) #[.not (.val (.isi (-2) "tuple")),.val (.cmp .Gt (.bcl .len #[-2]) (.glb "MOST_ROWS" (.int 12)))]) #[.ret (.cst (.bl false))] #[],.ret (.bcl .all #[.comp true ("is_row"<|#[-1,-0]) (.nm 0) (.seq (-2)) .yes ["row","width"] [none,some 1]])]
def mJ:Sxs:=#[.ite (.not (.val ("is_book"<|#[-0]))) #[.nev] #[]]
def mK:Sxs:=#[.exp ("need_book"<|#[-0]),.ite (.not (.val ("is_place"<|#[.bcl .len #[.idx (-0) (¬1)],-1]))) #[.nev] #[]]
def mL:Sxs:=#[.exp ("need_row"<|#[-0,-1]),.asg (.tp #[.nm 2,.nm 3]) (-0),.ret (.tup #[-2,.bin .Add true (.slc true (-3) .no (.ob (-1))) (.slc true (-3) (.ob (.bin .Add true (-1) (¬1))) .no)])]
def mO:Sxs:=#[.asg (.tp #[.nm 4,.nm 5]) (-0),.asg (.nm 6) ("joined"<|#[.idx (.idx (-5) (-1)) (¬0),.idx (.idx (-5) (-2)) (¬0)]),.ite (.boo false (.val (.cmp .Is (-6) (.cst .non))) #[.val (.cmp .NotEq (.idx (.idx (-5) (-1)) (¬1)) (.idx (.idx (-5) (-2)) (¬1)))]) #[.ret (.cst .non)] #[],.asg (.nm 7) (.tup #[-4,.bin .Add true (.bin .Add true (.slc true (-5) .no (.ob (-3))) (.tup #[.tup #[-6,.idx (.idx (-5) (-3)) (¬1)]])) (.slc true (-5) (.ob (.bin .Add true (-3) (¬1))) .no)]),.ret ("without"<|#[-7,.ife (.val (.cmp .Eq (-3) (-1))) (-2) (-1)])]
def mQ:Sxs:=#[.asg (.nm 1) (.bcl .len #[.idx (-0) (¬1)]),.asg (.nm 2) (.cm3 (.tup #[-0,-1,-2]) (.nm 0) (.rng (-1)) (.nm 1) (.rng2 (.bin .Add true (-0) (¬1)) (-3)) (.nm 2) (.seq (.tup #[-0,-1])) ["one","other","at","many"] [none,none,none,some 1]),.asg (.nm 3) (.comp true (.tup #[-0,-1,-2,"joined_book"<|#[-3,-0,-1,-2]]) (.tp #[.nm 0,.nm 1,.nm 2]) (.seq (-2)) .yes ["one","other","at","book"] [none,none,none,some 0]),.ret (.comp true (-0) (.nm 0) (.seq (-3)) (.val (.cmp .IsNot (.idx (-0) (¬3)) (.cst .non))) ["candidate"] [none])]
def mR:Sxs:=#[.asg (.nm 2) (![]),.for_ (.tp #[.nm 3,.nm 4]) (.zip (-0) (-1)) #[.ite (.val (.cmp .Eq (-3) (![42]))) #[.aug 2 .Add (-4)] #[.ite (.boo false (.val (.cmp .Eq (-4) (![42]))) #[.val (.cmp .Eq (-4) (-3))]) #[.aug 2 .Add (-3)] #[.ret (.cst .non)]]],.ret (-2)]
def mU:Sxs:=#[.for_ (.tp #[.nm 2,.nm 3]) (.enm (-0)) #[.ite (.val (.cmp .IsNot ("both"<|#[.idx (-3) (¬0),-1]) (.cst .non))) #[.ret (-2)] #[]],.ret (.cst .non)]
def mV:Sxs:=#[.asg (.nm 2) ("first_touching"<|#[-0,-1]),.ite (.val (.cmp .Is (-2) (.cst .non))) #[.ret (.cst .non)] #[],.for_ (.tp #[.nm 3,.nm 4]) (.enm (.idx (.idx (-0) (-2)) (¬0))) #[.ite (.boo true (.val (.cmp .Eq (.idx (-1) (-3)) (![42]))) #[.val (.cmp .NotEq (-4) (![42]))]) #[.ret (-3)] #[]],.ret (.cst .non)]
def jZ:Sxs:=#[.for_ (.nm 3) (.seq (-1)) #[.asg (.nm 4) ("splitting_place"<|#[-3,-2]),.ite (.val (.cmp .IsNot (-4) (.cst .non))) #[.asg (.nm 5) ("grown"<|#[-0,-1,"with_sign"<|#[-2,-4,![48]]]),.asg (.nm 6) ("grown"<|#[-0,-1,"with_sign"<|#[-2,-4,![49]]]),.ret (.tup #[![115,112,108,105,116],-4,-5,-6])] #[]],.ret (.bin .Add true (.tup #[-0]) (.bcl .tuple #[.comp true ("first_touching"<|#[-0,-1]) (.nm 0) (.seq (-1)) .yes ["rows","box"] [none,some 2]]))]
def mW:Sxs:=#[.ret (.boo true (.isi (-2) "tuple") #[.cmp .Eq (.bcl .len #[-2]) (.bin .Add true (-1) (¬1)),.cmp .Eq (.idx (-2) (¬0)) (-0)])]
def jo:Sxs:=#[.ite (.not (.val ("is_named"<|#[![115,112,108,105,116],¬3,-1]))) #[.ret (.lst true #[.tup #[-0,-1]])] #[],.asg (.nm 2) (.idx (-1) (¬1)),.ite (.boo false (.not (.val ("is_place"<|#[.bcl .len #[-0],-2]))) #[.val (.cmp .NotEq (.idx (-0) (-2)) (![42]))]) #[.ret (.cst .non)] #[],.asg (.nm 3) ("leaves"<|#["with_sign"<|#[-0,-2,![48]],.idx (-1) (¬2)]),.asg (.nm 4) ("leaves"<|#["with_sign"<|#[-0,-2,![49]],.idx (-1) (¬3)]),.ite (.boo false (.val (.cmp .Is (-3) (.cst .non))) #[.val (.cmp .Is (-4) (.cst .non))]) #[.ret (.cst .non)] #[],.ret (.bin .Add true (-3) (-4))]
def mX:Sxs:=#[.exp ("need_book"<|#[-0]),.exp ("need_book"<|#[-1]),.ite (.val (.cmp .NotEq (.idx (-0) (¬0)) (.idx (-1) (¬0)))) #[.nev] #[]]
def j5:Sxs:=#[.ite (.val (.cmp .Is (-1) (.cst .non))) #[.ret (.cst .non)] #[],.ret (.idx (.idx (.idx (-0) (¬1)) (-1)) (¬1))]
def mY:Sxs:=#[.ret (.cmp .Eq ("deed_of"<|#[-0,.idx (-2) (¬1)]) ("deed_of"<|#[-1,.idx (-2) (¬2)]))]
def mZ:Sxs:=#[.ret (.bin .Mult true (![42]) (-0))]
def m5:Sxs:=#[.exp ("need_two_books"<|#[-0,-1]),.asg (.nm 2) ("stars"<|#[.idx (-0) (¬0)]),.asg (.nm 3) ("grown"<|#[![115,97,109,101],.lst true #[.idx (-0) (¬1),.idx (-1) (¬1)],-2]),.asg (.nm 4) (.comp true ("least"<|#[-0]) (.tp #[.nm 0,.nm 1]) (.seq ("leaves"<|#[-2,-3])) (.not (.val ("same_deeds"<|#[-2,-3,-1]))) ["part","leaf","one","other"] [none,none,some 0,some 1]),.ite (.val (-4)) #[.ret (.tup #[![112,97,114,116,101,100],.bcl .min #[-4]])] #[],.ret (.tup #[![97,108,105,107,101],-3])]
def m6:Sxs:=#[.asg (.tp #[.nm 2,.nm 3]) ("alike"<|#[-0,-1]),.ret (.ife (.val (.cmp .Eq (-2) (![112,97,114,116,101,100]))) (-3) (.cst .non))]
def m7:Sxs:=#[.for_ (.tp #[.nm 1,.nm 2,.nm 3,.nm 4]) (.seq ("candidates"<|#[-0])) #[.ite (.val (.cmp .Is ("parting_word"<|#[-0,-4]) (.cst .non))) #[.ret (-4)] #[]],.ret (.cst .non)]
def m8:Sxs:=#[.asg (.nm 1) (-0),.asg (.nm 2) ("first_joined"<|#[-1]),.whl (.val (.cmp .IsNot (-2) (.cst .non))) #[.asg (.nm 1) (-2),.asg (.nm 2) ("first_joined"<|#[-1])],.ret (-1)]
def m9:Sxs:=#[.asg (.tp #[.nm 2,.nm 3]) ("alike"<|#[-0,"without"<|#[-0,-1]]),.ret (.tup #[.ife (.val (.cmp .Eq (-2) (![97,108,105,107,101]))) (![110,101,101,100,108,101,115,115]) (![110,101,101,100,101,100]),-3])]
def nq:Sxs:=#[.exp ("need_book"<|#[-0]),.asg (.nm 1) (-0),.for_ (.nm 2) (.rev (.bcl .len #[.idx (-0) (¬1)])) #[.ite (.val (.cmp .Eq (.idx ("needless"<|#[-1,-2]) (¬0)) (![110,101,101,100,108,101,115,115]))) #[.asg (.nm 1) ("without"<|#[-1,-2])] #[]],.ret (-1)]
def nu:Sxs:=#[.exp ("need_book"<|#[-0]),.asg (.nm 1) (-0),.asg (.nm 2) ("lean"<|#["all_joined"<|#[-1]]),.whl (.val (.cmp .NotEq (-2) (-1))) #[.asg (.nm 1) (-2),.asg (.nm 2) ("lean"<|#["all_joined"<|#[-1]])],.ret (-2)]
def zj:Sxs:=#[.asg (.nm 1) ("_law_open"<|#[-0]),.for_ (.nm 2) (.rng (¬4)) #[.asg (.nm 3) ("_law_join_book"<|#["_law_anew"<|#[-1],.idx (.lst true #[¬4,¬6,¬3]) (.bin .FloorDiv true (.bin .Add true (-2) (¬1)) (¬2)),.idx (.lst true #[¬5,¬4,¬8]) (.bin .FloorDiv true (.bin .Add true (-2) (¬1)) (¬2))]),.asg (.nm 4) ("_law_pressed"<|#[-3]),.for_ (.nm 5) (.rng (¬2)) #[.ite (.not (.val ("_law_same"<|#["press"<|#[-3],-4]))) #[.ret (.cst (.bl false))] #[]]],.ret (.cmp .Eq ("press"<|#[.tup #[¬1,.tup #[.tup #[![48],![97]],.tup #[![49],![97]]]]]) (.tup #[¬1,.tup #[.tup #[![42],![97]]]]))]
end
end RF
local macro_rules | `(tactic| simp_arith! [$l,*] $[$c:location]?) => `(tactic| simp only [↓RF.wX, ↓RF.jc, ↓RF.wY, ↓RF.wZ, ↓RF.w5, ↓RF.xf, ↓RF.xg, ↓RF.xj, ↓RF.xm, ↓RF.xq, ↓RF.xr, ↓RF.wC, ↓RF.wV, ↓RF.Fg, ↓RF.Fi, ↓RF.Xp, ↓RF.Xq, ↓RF.ady, ↓RF.yu, ↓RF.vX, ↓RF.vY, ↓RF.vZ, ↓RF.lz, ↓RF.jM, ↓RF.jb, ↓RF.v6, ↓RF.rK, ↓RF.v7, ↓RF.rM, ↓RF.v8, ↓RF.v9, ↓RF.wj, ↓RF.wu, ↓RF.ww, ↓RF.wy, ↓RF.wz, ↓RF.wA, ↓RF.wB, ↓RF.abT, ↓RF.abV, ↓RF.x_at, ↓RF.abY, ↓RF.abW, ↓RF.abX, ↓RF.jN, ↓RF.wD, ↓RF.wF, ↓RF.wG, ↓RF.rN, ↓RF.rO, ↓RF.wH, ↓RF.wI, ↓RF.wJ, ↓RF.wK, ↓RF.wL, ↓RF.wM, ↓RF.wN, ↓RF.wO, ↓RF.wQ, ↓RF.wR, ↓RF.wU, ↓RF.lC, ↓RF.wW, ↓RF.adC, ↓RF.aaO, ↓RF.aaP, ↓RF.aaQ, ↓RF.aaR, ↓RF.aaS, ↓RF.aaT, ↓RF.aaU, ↓RF.aaV, ↓RF.aaW, ↓RF.aaX, ↓RF.aaY, ↓RF.aaZ, ↓RF.aa0, ↓RF.aa1, ↓RF.aa2, ↓RF.aa3, ↓RF.aa4, ↓RF.aa5, ↓RF.aa6, ↓RF.aa7, ↓RF.aa8, ↓RF.aa9, ↓RF.aba, ↓RF.abb, ↓RF.abd, ↓RF.abe, ↓RF.abf, ↓RF.abg, ↓RF.abh, ↓RF.abi, ↓RF.abj, ↓RF.abk, ↓RF.abl, ↓RF.abm, ↓RF.abn, ↓RF.abp, ↓RF.abq, ↓RF.abr, ↓RF.abt, ↓RF.abv, ↓RF.abu, ↓RF.abw, ↓RF.abx, ↓RF.aby, ↓RF.abz, ↓RF.abA, ↓RF.abB, ↓RF.abC, ↓RF.abD, ↓RF.abE, ↓RF.abF, ↓RF.abL, ↓RF.abM, ↓RF.abK, ↓RF.abN, ↓RF.abJ, ↓RF.abH, ↓RF.abI, ↓RF.abG, ↓RF.abO, ↓RF.abP, ↓RF.abQ, ↓RF.abR, ↓RF.abS, ↓RF.acg, ↓RF.acf, ↓RF.abU, ↓RF.abZ, ↓RF.ab0, ↓RF.ab1, ↓RF.ab2, ↓RF.ab3, ↓RF.ab4, ↓RF.ab5, ↓RF.ab6, ↓RF.ab7, ↓RF.ab8, ↓RF.ab9, ↓RF.aca, ↓RF.acb, ↓RF.acd, ↓RF.ace, ↓RF.ach, ↓RF.aci, ↓RF.acj, ↓RF.ack, ↓RF.acl, ↓RF.acn, ↓RF.aco, ↓RF.acp, ↓RF.acq, ↓RF.acr, ↓RF.acs, ↓RF.acu, ↓RF.acv, ↓RF.acw, ↓RF.is_tup, ↓RF.acx, ↓RF.acy, ↓RF.acA, ↓RF.acz, ↓RF.acB, ↓RF.acC, ↓RF.abo, RF.adz, RF.adA, RF.adB, Option.join_some, List.map_cons, List.map_nil, List.cons_append, List.nil_append, List.replicate_succ, List.replicate_zero, List.getElem?_cons_zero, List.getElem?_cons_succ, List.set_cons_zero, List.set_cons_succ, List.length_cons, List.length_nil, RF.aaG, RF.aaH, RF.aaI, RF.aaJ, RF.aaK, RF.aaL, RF.aaM, true_and, and_true, Nat.min_self, Nat.zero_min, Nat.min_zero, Nat.zero_le, Bool.or_false, Bool.or_true, Bool.false_or, Bool.true_or, Bool.not_true, Bool.not_false, RF.acD, RF.acE, RF.acF, RF.acG, RF.acH, RF.acI, RF.acJ, RF.acK, RF.acL, RF.acM, RF.acN, RF.acO, RF.Jp, RF.acP, RF.acQ, RF.acR, RF.acS, RF.acT, RF.acU, RF.Jq, RF.acV, RF.acW, RF.acX, RF.acY, RF.acZ, RF.ac0, RF.ac1, RF.ac3, RF.ac4, RF.ac5, RF.ac6, RF.ac7, RF.ac8, RF.ac9, RF.ada, RF.adb, RF.adc, RF.ade, RF.adf, RF.adg, RF.adh, RF.adi, RF.adk, RF.adl, RF.adm, RF.adn, RF.ado, RF.adp, RF.adq, RF.adt, RF.adu, RF.adv, RF.adw, RF.adx, RF.env0, RF.ends, String.reduceBEq, $l,*] $[$c:location]?)
local macro_rules | `(tactic| simp_arith [$l,*] $[$c:location]?) => `(tactic| simp_arith! [↓RF.lA, ↓RF.lB, $l,*] $[$c:location]?)
local macro_rules | `(tactic| simp_all_arith [$l,*]) => `(tactic| simp only [RF.env0, RF.ends, List.map_cons, List.map_nil, List.cons_append, List.nil_append, List.replicate_succ, List.replicate_zero, $l,*])
local macro_rules|`(tactic|bv_omega)=>`(tactic|(have hsz:RF.sz=1000000:=rfl;omega))
local macro_rules|`(tactic|symm)=>do let M:=Lean.mkIdent `M;let h:=Lean.mkIdent `hM;`(tactic|refine $h _ _ (RF.seq fun $M $h=>?_))
local macro_rules|`(tactic|nofun)=>do let M:=Lean.mkIdent `M;let h:=Lean.mkIdent `hM;`(tactic|refine RF.seq fun $M $h=>?_)
local macro_rules|`(tactic|ac_nf0)=>do let h:=Lean.mkIdent `hM;`(tactic|refine $h _ _ (RF.last ?_))
local macro_rules|`(tactic|erw[$[$x:term],*]$[$c:location]?)=>`(tactic|simp_arith[$[$x:term],*]$[$c:location]?)
namespace RF
open PySem L2
def gm{i j:Int}(h:-(2 ^ 64) < j/\j < 2 ^ 64):CMul i j:=.inr h
def zm{i j:Int}(h:-(2 ^ 64) < i/\i < 2 ^ 64):CMul i j:=.inl h
def Js{j:Int}(h:0<=j/\j<=1000):qU 10 j:=⟨h.1,!0,!1⟩
def t7:RF.Spec:=bN (λds _=>∃c k:Int,ds=[.int c,.int k]/\0<=k) (λ_ G d G'=>G'=G/\∃r:Int,d=.int r/\0<=r)
def adI(Z:aj)(ds:AS)(G:DH)(h:∃c k:Int,ds=[.int c,.int k]/\0<=k):aA Z yD noE (env0 ds 3) G (ends λd G'=>G'=G/\∃r:Int,d=.int r/\0<=r):=by
 obtain ⟨c,k,rfl,hk⟩:=h;erw[yD];refine ⟨Js (!1),?_⟩;cases hc:decide (10 ^ Int.toNat 18<=c) with
 |true=>
  refine ⟨c,rfl,?_⟩;have:=fx hc;have h2:(0:Int)<=(10:Int) ^ (18:Int).toNat:=by decide
  exact Int.le_trans h2 this
 |false=>
  generalize hone:(c % 1000000007 * 69069+k * 40503+977) % 2147483629=one;have o1:0<=one:=by rw[<-hone];exact g7 _ (!1)
  have o2:one < 2147483629:=by rw[<-hone];exact gS _ (!1)
  generalize htwo:(one * one+k * 7919+c % 65537) % 2147483587=two;have t1:0<=two:=by rw[<-htwo];exact g7 _ (!1)
  have t2:two < 2147483587:=by rw[<-htwo];exact gS _ (!1)
  generalize hthree:(two * two+one * 31+5) % 2147483563=three;have h1:0<=three:=by rw[<-hthree];exact g7 _ (!1)
  clear hone htwo hthree;refine ⟨!1,gm (!1),gm (!1),!1,zm (!0),gm (!1),!1,!1,zm (!0),gm (!1),!1,gm (!1),gm (!1),_,rfl,?_⟩;omega
def Pen(G:DH)(p:AQ):Prop:=∃(ns:List Int)(k st:Int),G p=some (.lst [.lst (ns.map D.int),.int k,.int st])/\0<=k/\0<=st
def Pen.sa{G G':DH}{p:AQ}(h:Pen G p)(s:Sa G G'):Pen G' p:=by obtain ⟨ns,k,st,e,h1⟩:=h;exact ⟨ns,k,st,s _ _ e,h1⟩
def Pen.ne{G:DH}{p q:AQ}(h:Pen G p)(e:G q=none):p≠q:=by obtain ⟨ns,k,st,e1,h1⟩:=h;exact vL e1 e
def Pen.sb{G G':DH}{p q:AQ}(h:Pen G p)(s:Sb q G G')(n:p≠q):Pen G' p:=by obtain ⟨ns,k,st,e,h1⟩:=h;exact ⟨ns,k,st,s _ _ e n,h1⟩
def t8:RF.Spec:=bN (λds G=>∃p,ds=[.ref p]/\Pen G p) (λds G d G'=>∃p,ds=[.ref p]/\d=.ref p/\Pen G' p/\Sb p G G')
def adJ(Z:aj)(ds:AS)(G:DH)(h:∃p,ds=[.ref p]/\Pen G p):aA Z yC noE (env0 ds 0) G (ends λd G'=>∃p,ds=[.ref p]/\d=.ref p/\Pen G' p/\Sb p G G'):=by obtain ⟨p,rfl,ns,k,st,e,h1,h2⟩:=h;erw[yC,dj e];exact ⟨p,rfl,rfl,⟨ns,k,0,cg,h1,!1⟩,Sb.upd⟩
def eN:RF.Spec:=bN (λds G=>∃p,∃m:Int,ds=[.ref p,.int m]/\Pen G p/\0 < m/\m < 1152921504606846976) (λds G d G'=>∃p,∃m r:Int,ds=[.ref p,.int m]/\d=.int r/\0<=r/\r < m/\Pen G' p/\Sb p G G')
def adK (Z:aj) (hΦ:Z "_law_spread"=t7) (ds:AS) (G:DH) (h:∃p,∃m:Int,ds=[.ref p,.int m]/\Pen G p/\0 < m/\m < 1152921504606846976):
  aA Z yE noE (env0 ds 3) G (ends λd G'=>∃p,∃m r:Int,ds=[.ref p,.int m]/\d=.int r/\0<=r/\r < m/\Pen G' p/\Sb p G G'):=by
 obtain ⟨p,m,rfl,⟨ns,k,st,e,h1,h2⟩,h3,h4⟩:=h;simp_all_arith[yE];nofun;have fin:∀(ρ2 ρ3 ρ4:Option D)(G1:DH)(k1 s1:Int),0<=k1->0<=s1->G1 p=some (.lst [.lst (ns.map D.int),.int k1,.int s1])->Sb p G G1->M [some (.ref p),some (.int m),ρ2,ρ3,ρ4] G1:=by intro ρ2 ρ3 ρ4 G1 k1 s1 q1 q2 e1 sb;refine hM _ _ ?_;erw[cT e1,dj e1];refine ⟨h3,⟨h3,h4⟩,p,m,_,rfl,rfl,g7 _ (!0),gS _ h3,⟨ns,k1,_,cg,q1,?_⟩,sb.trans Sb.upd⟩;exact Int.ediv_nonneg q2 (!0)
 erw[cT e,dj e,hΦ];have draw:∀c:Int,t7.t [.int c,.int k] (aX G p (.lst [.lst (ns.map D.int),.int (k+1),.int st])) (λx G1=>trk G1 p λds=>bH (ixN ds.length 2) λj=>M [some (.ref p),some (.int m),some (.int k),some (.int c),none] (aX G1 p (.lst (ds.set j x)))) noE:=by intro c;refine cH ⟨c,k,rfl,h1⟩ λd G' hx=>?_;obtain ⟨e1,r,e2,hr⟩:=hx;subst e1 e2;erw[dj cg];refine fin _ _ _ _ (k+1) r (!0) hr cg (Sb.trans Sb.upd Sb.upd)
 cases hc:decide (st < m) with
 |false=>exact fin _ _ _ _ k st h1 h2 e (Sb.refl _ _)
 |true=>
  cases hk:decide (k < ((ns.map D.int).length:Int)) with
  |true=>
   have hk:=fx hk;rw[af]at hk;refine aU (a:=.int ns[k.toNat]) ?_ ?_
   .obtain ⟨n,rfl⟩:=dQ h1;exact bA (by simp at hk ⊢)
   .exact draw _
  |false=>
   cases hz:decide (0 < ((ns.map D.int).length:Int)) with
   |false=>exact draw 0
   |true=>
    have hz:=fx hz;have j1:0<=(k * 5+3) % ((ns.map D.int).length:Int):=g7 _ (!0);have j2:(k * 5+3) % ((ns.map D.int).length:Int) < ((ns.map D.int).length:Int):=gS _ hz;obtain ⟨j,hj⟩:=dQ j1;rw[hj]at j2;have j3:j < ns.length:=by rw[af]at j2;omega
    refine ⟨gm (!1),hz,aU (a:=.int ns[j]) ?_ ⟨Js (!1),?_⟩⟩
    .rw[hj];exact bA (by simp[j3])
    .erw[dj e];refine ⟨?_,draw _⟩;have:(0:Int) < 10 ^ Int.toNat 17:=by decide
     omega
def nA:RF.Spec:=bN (λds G=>∃p,∃n:Nat,∃cs:AA,ds=[.ref p,.int n,.str cs]/\Pen G p/\n<=1000/\cs≠[]/\cs.length<=1000)
 (λds G d G'=>∃p,∃n:Nat,∃cs l:AA,ds=[.ref p,.int n,.str cs]/\d=.str l/\l.length=n/\(∀c∈l,c∈cs)/\Pen G' p/\Sb p G G')
def adL(l:AA):((l.map λc=>[c]).map (·.length)).sum=l.length:=by
 induction l with
 |nil=>rfl
 |cons a l ih=>simp at ih ⊢;omega
def adM(l:AA):(l.map λc=>[c]).flatten=l:=by
 induction l with
 |nil=>rfl
 |cons a l ih=>simp at ih ⊢;exact ih
def adN (Z:aj) (hΦ:Z "_law_take"=eN) (ds:AS) (G:DH) (h:∃p,∃n:Nat,∃cs:AA,ds=[.ref p,.int n,.str cs]/\Pen G p/\n<=1000/\cs≠[]/\cs.length<=1000):
  aA Z yF noE (env0 ds 0) G (ends λd G'=>∃p,∃n:Nat,∃cs l:AA,ds=[.ref p,.int n,.str cs]/\d=.str l/\l.length=n/\(∀c∈l,c∈cs)/\Pen G' p/\Sb p G G'):=by
 obtain ⟨p,n,cs,rfl,hp,hn,hc,hl⟩:=h;have hc1:0 < cs.length:=iA.mpr hc;erw[yF,hΦ];refine ⟨!0,CompG.inv (P:=λi acc Y G'=>(∃o,Y=[o,some (.str cs),some (.ref p)])/\Pen G' p/\Sb p G G'/\∃l:AA,acc=l.map (λc=>D.str [c])/\l.length=i/\∀c∈l,c∈cs) (h0:=⟨⟨_,rfl⟩,hp,Sb.refl _ _,[],rfl,rfl,by simp⟩) (hh:=λ_ _ _ _ _=>trivial) (hl:=by simp[aL];bv_omega) (hs:=?_) (he:=?_)⟩
 .rintro i d acc Y G' hd ⟨⟨o,rfl⟩,hp',sb,l,rfl,hl',hm⟩ kk hk;erw[hΦ];refine cH ⟨p,_,rfl,hp',!0,!0⟩ λd' G2 hx=>?_;obtain ⟨p2,m2,r,e1,e2,r0,r1,pp2,sb2⟩:=hx;cases e1;subst e2;obtain ⟨j,rfl⟩:=dQ r0;have hj:j < cs.length:=by omega
  erw[ends];refine aU (a:=cs[j]) (bA (by simp[hj])) (hk _ _ _ ⟨⟨_,rfl⟩,pp2,sb.trans sb2,l++[cs[j]],by simp,by simp[hl'],?_⟩);intro c hc;rcases bv.mp hc with h |h
  .exact hm c h
  .rw[aE.mp h];exact e8 _
 .rintro acc Y G' ⟨_,hp',sb,l,rfl,hl',hm⟩;erw[strs_map];have hl2:l.length=n:=by rw[hl'];simp[aL]
  refine ⟨?_,p,n,cs,l,rfl,?_,hl2,hm,hp',sb⟩
  .rw[adL];simp;bv_omega
  .rw[Jg,adM]
def isF(c:Nat):Prop:=c=48\/c=49\/c=42
def zq:RF.Spec:=bN (λds G=>∃p,∃n:Nat,ds=[.ref p,.int n]/\Pen G p/\n<=1000) (λds G d G'=>∃p,∃n:Nat,∃l:AA,ds=[.ref p,.int n]/\d=.str l/\l.length=n/\(∀c∈l,isF c)/\Pen G' p/\Sb p G G')
def adO (Z:aj) (h1:Z "_law_take"=eN) (h2:Z "_law_signs"=nA) (ds:AS) (G:DH) (h:∃p,∃n:Nat,ds=[.ref p,.int n]/\Pen G p/\n<=1000):
  aA Z yH noE (env0 ds 0) G (ends λd G'=>∃p,∃n:Nat,∃l:AA,ds=[.ref p,.int n]/\d=.str l/\l.length=n/\(∀c∈l,isF c)/\Pen G' p/\Sb p G G'):=by
 obtain ⟨p,n,rfl,hp,hn⟩:=h;erw[yH,h1,h2];refine ⟨!1,cH ⟨p,_,rfl,hp,!1,!1⟩ λd' G2 ⟨p2,m2,r,e1,e2,r0,r1,pp2,sb2⟩=>?_⟩;cases e1;subst e2;obtain ⟨j,rfl⟩:=dQ r0;erw[ends];have:∃cs:AA,atI [D.str [48,49,42],D.str [48,49,42,42],D.str [48,49,42,42,42,42],D.str [48,42],D.str [48,49]] ((j:Nat):Int)=some (.str cs)/\cs≠[]/\cs.length<=1000/\∀c∈cs,isF c:=by
  have hj:j=0\/j=1\/j=2\/j=3\/j=4:=by omega
  rcases hj with rfl |rfl |rfl |rfl |rfl <;> exact ⟨_,rfl,!1,!1,by simp[isF]⟩
 obtain ⟨cs,e,c1,c2,c3⟩:=this;refine aU e (cH ⟨p,n,cs,rfl,pp2,hn,c1,c2⟩ λd G3 ⟨p3,n3,cs3,l,e1,e2,q1,q2,q3,q4⟩=>?_);cases e1;exact ⟨p,n,l,rfl,e2,q1,λc hc=>c3 c (q2 c hc),q3,sb2.trans q4⟩
def zr:RF.Spec:=bN (λds _=>∃ns:List Int,ds=[.scr ns]/\ns.length<=63) (λ_ G d G'=>∃p,d=.ref p/\G p=none/\Pen G' p/\Sa G G')
def adP(Z:aj)(ds:AS)(G:DH)(h:∃ns:List Int,ds=[.scr ns]/\ns.length<=63):aA Z yQ noE (env0 ds 3) G (ends λd G'=>∃p,d=.ref p/\G p=none/\Pen G' p/\Sa G G'):=by
 obtain ⟨ns,rfl,hl⟩:=h;simp_all_arith[yQ];nofun;erw[ends];intro c hc;refine hM _ _ ?_;nofun;erw[ends];refine ForG.inv (λi Y G'=>∃(o2 o3:Option D)(xs:List Int),Y=[some (.scr ns),some (.ref c),o2,o3]/\G'=aX G c (.lst (xs.map D.int))/\(12<=xs.length\/cut ns (some 12) (some 63)=[])) ⟨_,_,cut ns none (some 12),rfl,rfl,?_⟩ (λ_ _ _ _=>trivial) ?_ ?_
 .by_cases h12:12<=ns.length
  .left;simp[cut,HT.sIx];omega
  .right;simp[cut,HT.sIx];omega
 .rintro i d Y G' hd ⟨o2,o3,xs,rfl,rfl,hx⟩ kk hk;rw[jn]at hd;obtain ⟨d',hd',e3⟩:=ay.mp hd;subst e3;rw[av]at hd';obtain ⟨x,hx',e4⟩:=ay.mp hd';subst e4;have h12:12<=xs.length:=by
   rcases hx with h |h
   .exact h
   .rw[h]at hx';simp at hx'
  obtain ⟨j,hj⟩:=dQ (g7 ((0+i:Nat):Int) (by decide:(12:Int)≠0));have hj12:j < 12:=by have:=gS ((0+i:Nat):Int) (by decide:(0:Int) < 12);omega
  have hjx:j < xs.length:=by omega
  erw[hj,cT cg,dj cg];refine ⟨!1,aU (a:=.int xs[j]) (bA (by simp[hjx])) ?_⟩;erw[hj,cT cg,dj cg,af,Jh hjx];refine ⟨!1,hk _ _ ⟨_,_,xs.set j (xs[j]+x),rfl,?_,by simp[h12]⟩⟩;rw[Xi,List.map_set]
 .rintro Y G' ⟨o2,o3,xs,rfl,rfl,hx⟩;refine hM _ _ ?_;erw[cg];refine ⟨by bv_omega,λp hp=>⟨p,rfl,?_,⟨xs,0,0,cg,!1,!1⟩,?_⟩⟩
  .rw[Eu hc]at hp;exact hp
  .rw[Eu hc]at hp ⊢;exact Sa.new hp
def nF:RF.Spec:=bN (λds _=>∃ns:List Int,ds=[.scr ns]/\ns.length<=63) (λ_ _ d _=>d=.bl true)
def whole:D->Bool
 |.int _=>true
 |_=>false
def jq:AS->Option D
 |[x]=>if nr x then some (.bl (whole x)) else none
 |_=>none
def adQ(Z:aj)(ds:AS)(G:DH)(d:D)(h:jq ds=some d):aA Z mq noE (env0 ds 0) G (ends λd' G'=>G'=G/\d'=d):=by
 unfold jq at h;split at h
 .rename_i x;split at h
  .rename_i hx;cases h;cases x <;> first | (simp[nr]at hx;done) | (erw[mq,whole];try simp)
  .cases h
 .cases h
mutual
/-- no list within that is too long -/
def gn:D->Bool
 |.tup l=>decide (l.length<=100000)&&gZ l
 |.lst l=>decide (l.length<=100000)&&gZ l
 |_=>true
def gZ:AS->Bool
 |[]=>true
 |a::as=>gn a&&gZ as
end
def Jt:∀{l:AS}{d:D},nrs l=true->d∈l->nr d=true
 |a::as,d,h,m=>by
  rw[nrs,ae]at h;rcases bg.mp m with e |m
  .rw[e];exact h.1
  .exact Jt h.2 m
def Ju:∀{l:AS}{d:D},gZ l=true->d∈l->gn d=true
 |a::as,d,h,m=>by
  rw[gZ,ae]at h;rcases bg.mp m with e |m
  .rw[e];exact h.1
  .exact Ju h.2 m
def Jv:∀{l:AS}{d:D},d∈l->dpt d<=aV l
 |a::as,d,m=>by
  rw[aV];rcases bg.mp m with e |m
  .rw[e];exact Nat.le_max_left _ _
  .exact bS (Jv m) (Nat.le_max_right _ _)
def nG{n:Nat}:isIn (.bl false) (List.replicate n (.bl true))=false:=by
 induction n with
 |zero=>rfl
 |succ n ih=>simp only[isIn,eM,List.any_cons,deq]at ih ⊢;rw[ih];rfl
def nH{n:Nat}{b:Bool}:nrs (List.replicate n (.bl b))=true:=by
 induction n with
 |zero=>rfl
 |succ n ih=>rw[eM,nrs,ih];rfl
def nJ{n:Nat}{b:Bool}:aV (List.replicate n (.bl b))=0:=by
 induction n with
 |zero=>rfl
 |succ n ih=>rw[eM,aV,ih];rfl
def adR:∀(l:AS)(i:Nat)(d:D),(cu l l)[i]?=some d->∃a,a∈l/\d=.tup [a,a]
 |l,i,d,h=>by
  obtain ⟨a,b,h1,h2,rfl⟩:=yo l l i d h;rw[h1]at h2;cases h2;exact ⟨a,bb h1,rfl⟩
def Jw(n:Nat)(ds:AS)(G:DH):Prop:=∃x y v,ds=[x,y]/\view G x=v/\view G y=v/\nr v=true/\dpt v < n/\gn v=true
def eO(n:Nat):RF.Spec:=bN (Jw n) (λ_ G d G'=>G'=G/\d=.bl true)
def adS{n:Nat}{x y v:D}{G:DH}{k:AT}{E:EK}(hx:view G x=v)(hy:view G y=v)(h1:nr v=true)(h2:dpt v < n)(h3:gn v=true)(hk:k (.bl true) G):(eO n).t [x,y] G k E:=
 cH ⟨x,y,v,rfl,hx,hy,h1,h2,h3⟩ λd G' ⟨e1,e2⟩=>by subst e1 e2;exact hk
def nM{x:D}{G:DH}(h1:nr x=true):view G x=x:=by cases x <;> first |rfl | (simp[nr]at h1)
def Jx{n:Nat}{x:D}{G:DH}{k:AT}{E:EK}(h1:nr x=true)(h2:dpt x < n)(h3:gn x=true)(hk:k (.bl true) G):(eO n).t [x,x] G k E:=
 adS (nM h1) (nM h1) h1 h2 h3 hk
def nO (Z:aj) (n:Nat) (h1:Z "_law_same"=eO n) {l:AS} {G:DH} {g:Hld} {k:AS->DH->Prop} (hg:held g G) (hn:nrs l=true) (hd:aV l < n) (hs:gZ l=true) (hl:l.length<=100000)
  (he:k (List.replicate (cu l l).length (.bl true)) G):
  CompG Z (Ex.call "_law_same" (Exs.cons (Ex.var 0) (Exs.cons (Ex.var 1) Exs.nil))) (Tg.tp (Tgs.cons (Tg.nm 0) (Tgs.cons (Tg.nm 1) Tgs.nil))) Tx.yes (cu l l) g [none,none] G k:=by
 refine CompG.inv (P:=λi acc Y G'=>(∃o1 o2,Y=[o1,o2])/\G'=G/\acc=List.replicate i (.bl true)) ⟨⟨_,_,rfl⟩,rfl,rfl⟩ (λ_ _ _ _ p=>by rw[p.2.1];exact hg) (by rw[tV];bv_omega) ?_ ?_
 .rintro i d acc Y G' hd' ⟨⟨o1,o2,rfl⟩,rfl,rfl⟩ kk hk;obtain ⟨a,ha,rfl⟩:=adR l i d hd';erw[h1];refine Jx (Jt hn ha) (Nat.lt_of_le_of_lt (Jv ha) hd) (Ju hs ha) (hk _ _ _ ⟨⟨_,_,rfl⟩,rfl,?_⟩);simp[List.replicate_succ']
 .rintro acc Y G' ⟨_,rfl,rfl⟩;exact he
def zu{G:DH}{x:D}{l:AS}(hv:view G x=.lst l):x=.lst l\/∃p,x=.ref p/\G p=some (.lst l):=by
 cases x with
 |lst l'=>cases hv;exact .inl rfl
 |ref p=>
  refine .inr ⟨p,rfl,?_⟩;unfold view at hv;cases g:G p with
  |none=>simp only[g]at hv;cases hv
  |some o=>cases o;simp only[g]at hv;cases hv;rfl
 |_=>cases hv
def adT (Z:aj) (n:Nat) (h1:Z "_law_same"=eO n) (ds:AS) (G:DH) (h:Jw (n+1) ds G):aA Z fP noE (env0 ds 0) G (ends λd G'=>G'=G/\d=.bl true):=by
 obtain ⟨x,y,v,rfl,hx,hy,hn,hd,hs⟩:=h;cases v with
 |non=>cases Ew hx;cases Ew hy;erw[fP]
 |bl b=>cases vP hx;cases vP hy;erw[fP];simp
 |int i=>cases fH hx;cases fH hy;erw[fP];simp
 |str l=>cases fZ hx;cases fZ hy;erw[fP];simp
 |ref p=>simp[nr]at hn
 |scr p=>simp[nr]at hn
 |exn p=>simp[nr]at hn
 |exa _ _ _=>simp[nr]at hn
 |obj _ _ _=>simp[nr]at hn
 |tup l=>
  cases gJ hx;cases gJ hy;rw[nr]at hn;rw[dpt]at hd;rw[gn,ae,cf]at hs;erw[fP];erw[hV,BEq.rfl];refine nO Z n h1 (by first |trivial | (unfold held;simp)) hn (!0) hs.2 hs.1 ?_;rw[nG,nH,nJ];simp
 |lst l=>
  rw[nr]at hn;rw[dpt]at hd;rw[gn,ae,cf]at hs;rcases zu hx with rfl |⟨p,rfl,ex⟩
  .rcases zu hy with rfl |⟨q,rfl,ey⟩
   .erw[fP];erw[hV,BEq.rfl];refine nO Z n h1 (by trivial) hn (!0) hs.2 hs.1 ?_;rw[nG,nH,nJ];simp
   .erw[fP,cT ey,iH ey];erw[hV,BEq.rfl,cT ey,iH ey];refine nO Z n h1 (by exact ⟨ey,trivial⟩) hn (!0) hs.2 hs.1 ?_;rw[nG,nH,nJ];simp
  .rcases zu hy with rfl |⟨q,rfl,ey⟩
   .erw[fP,cT ex,iH ex];erw[hV,BEq.rfl,cT ex,iH ex];refine nO Z n h1 (by exact ⟨ex,trivial⟩) hn (!0) hs.2 hs.1 ?_;rw[nG,nH,nJ];simp
   .erw[fP,cT ex,iH ex,cT ey,iH ey];erw[hV,BEq.rfl,cT ex,iH ex,cT ey,iH ey];refine nO Z n h1 (by exact ⟨ex,ey,trivial⟩) hn (!0) hs.2 hs.1 ?_;rw[nG,nH,nJ];simp
def adU(ds:AS)(G:DH)(a:(eO 0).A):¬(eO 0).pre ds G a:=λ⟨_,_,_,_,_,_,_,_,h,_⟩=>by omega
def okF(w:Nat)(l:AA):Prop:=l.length=w/\∀c∈l,isF c
def okF.app{w v:Nat}{l m:AA}(h:okF w l)(h':okF v m):okF (w+v) (l++m):=⟨by rw[ax,h.1,h'.1],λc hc=>(bv.mp hc).elim (h.2 c) (h'.2 c)⟩
def okF.one{c:Nat}(h:isF c):okF 1 [c]:=⟨rfl,λd hd=>by rw[aE.mp hd];exact h⟩
def cC{p:AQ}{m:Int}{G:DH}{k:AT}{E:EK}(hp:Pen G p)(h1:0 < m)(h2:m < 1152921504606846976)(hk:∀(r:Nat)(G':DH),(r:Int) < m->Pen G' p->Sb p G G'->k (.int r) G'):eN.t [.ref p,.int m] G k E:=by refine cH ⟨p,m,rfl,hp,h1,h2⟩ λd G' hx=>?_;obtain ⟨p2,m2,r,e1,e2,r0,r1,hp',sb⟩:=hx;cases e1;subst e2;obtain ⟨n,rfl⟩:=dQ r0;exact hk n G' r1 hp' sb
def adV{n:Nat}(h:(n:Int) < 2):∃c,atI [48,49] (n:Int)=some c/\isF c:=by
 have:n=0\/n=1:=by omega
 rcases this with rfl |rfl
 .exact ⟨48,rfl,.inl rfl⟩
 .exact ⟨49,rfl,.inr (.inl rfl)⟩
def adW{n:Nat}(h:(n:Int) < 3):∃c,atI [48,49,42] (n:Int)=some c/\isF c:=by
 have:n=0\/n=1\/n=2:=by omega
 rcases this with rfl |rfl |rfl
 .exact ⟨48,rfl,.inl rfl⟩
 .exact ⟨49,rfl,.inr (.inl rfl)⟩
 .exact ⟨42,rfl,.inr (.inr rfl)⟩
def zA(ds:AS)(G:DH):Prop:=∃p l,ds=[.ref p,.str l]/\Pen G p/\(∀c∈l,isF c)/\l.length<=1000
def zB(ds:AS)(G:DH)(d:D)(G':DH):Prop:=∃p l m,ds=[.ref p,.str l]/\d=.str m/\okF l.length m/\Pen G' p/\Sb p G G'
def iJ:RF.Spec:=bN zA zB
def ud{p:AQ}{l:AA}{G:DH}{k:AT}{E:EK}(hp:Pen G p)(hl:∀c∈l,isF c)(h2:l.length<=1000)(hk:∀(m:AA)(G':DH),okF l.length m->Pen G' p->Sb p G G'->k (.str m) G'):iJ.t [.ref p,.str l] G k E:=by refine cH ⟨p,l,rfl,hp,hl,h2⟩ λd G' hx=>?_;obtain ⟨p2,l2,m,e1,e2,h,hp',sb⟩:=hx;cases e1;subst e2;exact hk m G' h hp' sb
def adX (Z:aj) (h1:Z "_law_take"=eN) (ds:AS) (G:DH) (h:zA ds G):aA Z yJ noE (env0 ds 2) G (ends (zB ds G)):=by
 obtain ⟨p,l,rfl,hp,hl,hl2⟩:=h;simp_all_arith[yJ];nofun;erw[ends];symm;simp_arith![ends];refine ForG.inv (P:=λi Y G'=>(∃o m,Y=[some (.ref p),some (.str l),some (.str m),o]/\okF i m)/\Pen G' p/\Sb p G G') ⟨⟨_,_,rfl,rfl,by simp⟩,hp,Sb.refl _ _⟩ (λ_ _ _ _=>trivial) ?_ ?_
 .rintro i d Y G2 hd ⟨⟨o,m,rfl,hm⟩,hp2,sb2⟩ kk hk;rw[av]at hd;obtain ⟨c,hc,rfl⟩:=ay.mp hd;have hi:i < l.length:=(ah.mp hc).1;have fc:=hl c (bb hc);have l1:=hm.1;simp_arith![ends];nofun;have fin:∀(c:Nat)(G3:DH),isF c->Pen G3 p->Sb p G2 G3->M [some (.ref p),some (.str l),some (.str m),some (.str [c])] G3:=by
   intro c G3 fc hp3 sb3;ac_nf0;erw[ends];exact ⟨by bv_omega,hk _ _ ⟨⟨_,_,rfl,hm.app (okF.one fc)⟩,hp3,sb2.trans sb3⟩⟩
  erw[h1];cases ht:([c]==[42]) with
  |false=>exact fin c G2 fc hp2 (Sb.refl _ _)
  |true=>
   refine cC hp2 (!1) (!1) λr G3 hr hp3 sb3=>?_;erw[ends];cases hr0:((r:Int)==0) with
   |false=>exact fin c G3 fc hp3 sb3
   |true=>
    refine cC hp3 (!1) (!1) λr' G4 hr' hp4 sb4=>?_;obtain ⟨c',e,fc'⟩:=adV hr';erw[e];exact fin c' G4 fc' hp4 (sb3.trans sb4)
 .rintro Y G2 ⟨⟨o,m,rfl,hm⟩,hp2,sb2⟩;refine hM _ _ ?_;erw[ends];exact ⟨p,l,m,rfl,rfl,!!hm,hp2,sb2⟩
def adY (Z:aj) (h1:Z "_law_take"=eN) (ds:AS) (G:DH) (h:zA ds G):aA Z yI noE (env0 ds 2) G (ends (zB ds G)):=by
 obtain ⟨p,l,rfl,hp,hl,hl2⟩:=h;simp_all_arith[yI];nofun;erw[ends];symm;simp_arith![ends];refine ForG.inv (P:=λi Y G'=>(∃o m,Y=[some (.ref p),some (.str l),some (.str m),o]/\okF i m)/\Pen G' p/\Sb p G G') ⟨⟨_,_,rfl,rfl,by simp⟩,hp,Sb.refl _ _⟩ (λ_ _ _ _=>trivial) ?_ ?_
 .rintro i d Y G2 hd ⟨⟨o,m,rfl,hm⟩,hp2,sb2⟩ kk hk;rw[av]at hd;obtain ⟨c,hc,rfl⟩:=ay.mp hd;have hi:i < l.length:=(ah.mp hc).1;have fc:=hl c (bb hc);have l1:=hm.1;simp_arith![ends];nofun;have fin:∀(c:Nat)(G3:DH),isF c->Pen G3 p->Sb p G2 G3->M [some (.ref p),some (.str l),some (.str m),some (.str [c])] G3:=by
   intro c G3 fc hp3 sb3;ac_nf0;erw[ends];exact ⟨by bv_omega,hk _ _ ⟨⟨_,_,rfl,hm.app (okF.one fc)⟩,hp3,sb2.trans sb3⟩⟩
  erw[h1];refine cC hp2 (!1) (!1) λr G3 hr hp3 sb3=>?_;erw[ends];cases hr0:((r:Int)==0) with
  |false=>exact fin c G3 fc hp3 sb3
  |true=>exact fin 42 G3 (.inr (.inr rfl)) hp3 sb3
 .rintro Y G2 ⟨⟨o,m,rfl,hm⟩,hp2,sb2⟩;refine hM _ _ ?_;erw[ends];exact ⟨p,l,m,rfl,rfl,!!hm,hp2,sb2⟩
def Jy{G G':DH}{p:AQ}{x:D}{fs:List (AA)}(hv:view G x=.lst (fs.map D.str))(hp:Pen G p)(sb:Sb p G G'):view G' x=.lst (fs.map D.str):=by
 cases x with
 |ref q=>
  unfold view at hv;dsimp only at hv;cases g:G q with
  |none=>rw[g]at hv;cases hv
  |some o=>
   cases o with
   |lst ds=>
    rw[g]at hv;have e:ds=fs.map D.str:=by simpa using hv
    have hn:q≠p:=by
     rintro rfl;obtain ⟨ns,k,st,e1,_⟩:=hp;rw[g,e]at e1;cases fs with
     |nil=>simp at e1
     |cons a r=>simp at e1
    rw[cT (sb q _ g hn),e]
 |lst l=>exact hv
 |_=>cases hv
def JC(ds:AS)(G:DH):Prop:=∃p,∃w:Nat,∃x,∃fs:List (AA),ds=[.ref p,.int w,x]/\Pen G p/\0 < w/\w<=1000/\view G x=.lst (fs.map D.str)/\fs.length<=1000/\∀f∈fs,okF w f
def zE(ds:AS)(G:DH)(d:D)(G':DH):Prop:=∃p,∃w:Nat,∃x m,ds=[.ref p,.int w,x]/\d=.str m/\okF w m/\Pen G' p/\Sb p G G'
def ue:RF.Spec:=bN JC zE
def adZ{p:AQ}{w:Nat}{x:D}{fs:List (AA)}{G:DH}{k:AT}{E:EK}(hp:Pen G p)(h1:0 < w)(h2:w<=1000)(hv:view G x=.lst (fs.map D.str))(h3:fs.length<=1000)(h4:∀f∈fs,okF w f)
  (hk:∀(m:AA)(G':DH),okF w m->Pen G' p->Sb p G G'->k (.str m) G'):ue.t [.ref p,.int w,x] G k E:=by
 refine cH ⟨p,w,x,fs,rfl,hp,h1,h2,hv,h3,h4⟩ λd G' hx=>?_;obtain ⟨p2,w2,x2,m,e1,e2,h,hp',sb⟩:=hx;simp only[eK,D.ref.injEq,D.int.injEq,ja,and_true]at e1;obtain ⟨rfl,rfl,rfl⟩:=e1;subst e2;exact hk m G' h hp' sb
def ad0(fs:List (AA)):nrs (fs.map D.str)=true:=by
 induction fs with
 |nil=>rfl
 |cons a l ih=>rw[cS,nrs,ih];rfl
def ad1(fs:List (AA)):aV (fs.map D.str)=0:=by
 induction fs with
 |nil=>rfl
 |cons a l ih=>rw[cS,aV,ih];rfl
def ad2{w n:Nat}{l:AA}{c:Nat}(h:okF w l)(hn:n < w)(fc:isF c):okF w (cut l none (some (n:Int))++[c]++cut l (some ((n:Int)+1)) none):=by
 have h1:=h.1;rw[tY,Jl];refine ⟨?_,λd hd=>?_⟩
 .simp;omega
 .rcases bv.mp hd with hd |hd
  .rcases bv.mp hd with hd |hd
   .exact h.2 d (ib hd)
   .rw[aE.mp hd];exact fc
  .exact h.2 d (ic hd)
def ad3 (Z:aj) (h1:Z "_law_take"=eN) (h2:Z "_law_form"=zq) (h3:Z "_law_within"=iJ) (h4:Z "_law_wider"=iJ) (ds:AS) (G:DH) (h:JC ds G):aA Z yK noE (env0 ds 3) G (ends (zE ds G)):=by
 obtain ⟨p,w,x,fs,rfl,hp,w1,w2,hv,hf,hfs⟩:=h;simp_all_arith[yK];nofun;erw[h1];refine cC hp (!1) (!1) λkd G2 hkd hp2 sb2=>?_;have hv2:=Jy hv hp sb2;symm;have drawn:∀(Y:aq) (G3:DH),Pen G3 p->Sb p G G3->aA Z (.cons (.ret (.call "_law_form" (.cons (.var 0) (.cons (.var 1) .nil)))) .nil) noE (some (.ref p)::some (.int w)::Y) G3 { nx:=M,rt:=zE [.ref p,.int w,x] G,bk:=λ_ _=>False,ct:=λ_ _=>False }:=by intro Y G3 hp3 sb3;erw[h2];refine cH ⟨p,w,rfl,hp3,w2⟩ λd G4 hx=>?_;obtain ⟨p4,n4,l,e1,e2,l1,l2,hp4,sb4⟩:=hx;simp only[eK,D.ref.injEq,D.int.injEq,ja,and_true]at e1;obtain ⟨rfl,rfl⟩:=e1;exact ⟨p,w,x,l,rfl,e2,⟨l1,l2⟩,hp4,sb3.trans sb4⟩
 simp_arith![hv2,Jj,ad1,ad0];refine ⟨!1,?_⟩;cases he:(fs.map D.str).isEmpty with
 |true=>exact drawn _ _ hp2 sb2
 |false=>
  have hlen:0 < fs.length:=by
   cases fs with
   |nil=>simp at he
   |cons a r=>simp
  simp_arith![ends];cases hk2:decide ((kd:Int) < 2) with
  |true=>exact drawn _ _ hp2 sb2
  |false=>
   erw[ends];symm;erw[h1,hv2,af];refine cC hp2 (!0) (!0) λr G3 hr hp3 sb3=>?_;have hv3:=Jy hv2 hp2 sb3;erw[hv3];have hr':r < fs.length:=by omega
   refine aU (a:=.str fs[r]) (bA (by simp[hr'])) ?_;have fok:=hfs fs[r] (e8 _);generalize fs[r]=f at fok;symm;have sb':=sb2.trans sb3;erw[ends];cases hk3:((kd:Int)==2) with
   |true=>exact ⟨p,w,x,f,rfl,rfl,fok,hp3,sb'⟩
   |false=>
    symm;simp_arith![ends];cases hk5:decide ((kd:Int) < 5) with
    |true=>
     erw[h1];refine cC hp3 (!0) (!0) λat' G4 hat hp4 sb4=>?_;refine cC hp4 (!1) (!1) λs G5 hs hp5 sb5=>?_;obtain ⟨c,e,fc⟩:=adW hs;have c1:=Ji f none (some (at':Int));have c2:=Ji f (some ((at':Int)+1)) none;have f1:=fok.1;erw[e,ax];exact ⟨by bv_omega,by bv_omega,p,w,x,_,rfl,rfl,ad2 fok (!0) fc,hp5,sb'.trans (sb4.trans sb5)⟩
    |false=>
     erw[ends];symm;have f1:=fok.1;erw[h3];cases hk6:((kd:Int)==5) with
     |true=>
      refine ud hp3 fok.2 (!0) λm G4 hm hp4 sb4=>?_;rw[f1]at hm;exact ⟨p,w,x,m,rfl,rfl,hm,hp4,sb'.trans sb4⟩
     |false=>
      refine hM _ _ ?_;erw[h4];refine ud hp3 fok.2 (!0) λm G4 hm hp4 sb4=>?_;rw[f1]at hm;exact ⟨p,w,x,m,rfl,rfl,hm,hp4,sb'.trans sb4⟩
def okD(l:AA):Prop:=1<=l.length/\l.length<=8/\∀c∈l,97<=c/\c<=122
def ad4{p:AQ}{n:Nat}{cs:AA}{G:DH}{k:AT}{E:EK}(hp:Pen G p)(hn:n<=1000)(h1:cs≠[])(h2:cs.length<=1000)(hk:∀(l:AA)(G':DH),l.length=n->(∀c∈l,c∈cs)->Pen G' p->Sb p G G'->k (.str l) G'):nA.t [.ref p,.int n,.str cs] G k E:=by refine cH ⟨p,n,cs,rfl,hp,hn,h1,h2⟩ λd G' hx=>?_;obtain ⟨p2,n2,cs2,l,e1,e2,l1,l2,hp',sb⟩:=hx;simp only[eK,D.ref.injEq,D.int.injEq,D.str.injEq,ja,and_true]at e1;obtain ⟨rfl,rfl,rfl⟩:=e1;subst e2;exact hk l G' l1 l2 hp' sb
def JD(ds:AS)(G:DH):Prop:=∃p,∃m:Int,ds=[.ref p,.int m]/\Pen G p/\0 < m/\m<=100
def JF(ds:AS)(G:DH)(d:D)(G':DH):Prop:=∃p,∃m:Int,∃xs:List (AA),ds=[.ref p,.int m]/\d=.lst (xs.map D.str)/\0 < xs.length/\xs.length<=100/\(∀x∈xs,okD x)/\Pen G' p/\Sb p G G'
def uf:RF.Spec:=bN JD JF
def zF:List (AA):=[[97],[103,111],[115,116,97,121],[97,98,99,100,101,102,103,104],[110,111,110,101],[121,101,115],[105,110],[111,117,116],[107,101,101,112],[119,111,114,100],[122,122]]
def ad5:∀x∈zF,okD x:=by
 have h:∀x∈zF,1<=x.length/\x.length<=8/\∀c∈x,97<=c/\c<=122:=by decide
 exact h
def JG{c:Nat}(h:c∈[97,98,99,100,101,102,103,104,105,106,107,108,109,110,111,112,113,114,115,116,117,118,119,120,121,122]):97<=c/\c<=122:=by
 have:∀c∈[97,98,99,100,101,102,103,104,105,106,107,108,109,110,111,112,113,114,115,116,117,118,119,120,121,122],97<=c/\c<=122:=by decide
 exact this c h
def ad6 (Z:aj) (h1:Z "_law_take"=eN) (h2:Z "_law_signs"=nA) (ds:AS) (G:DH) (h:JD ds G):aA Z yG noE (env0 ds 4) G (ends (JF ds G)):=by
 obtain ⟨p,m,rfl,hp,m1,m2⟩:=h;simp_all_arith[yG];nofun;erw[ends];refine ⟨!1,hM _ _ ?_⟩;refine (λtail=>tail zF rfl ad5) (?_:∀xs:List (AA),xs.length=11->(∀x∈xs,okD x)->aA Z _ noE [some (.ref p),some (.int m),some (.lst (xs.map D.str)),none,none,none] G _);intro xs x1 x2;nofun;erw[h1];refine cC hp (!1) (!1) λt G2 ht hp2 sb2=>?_;symm;erw[h1];refine cC hp2 (!0) (!0) λr G3 hr hp3 sb3=>?_;erw[ends];refine ⟨!0,?_⟩;refine CompG.inv (P:=λi acc Y G'=>(∃o,Y=[o,some (.lst (xs.map D.str)),some (.int t)])/\G'=G3/\∃ys:List (AA),acc=ys.map D.str/\ys.length=i/\∀y∈ys,okD y) ⟨⟨_,rfl⟩,rfl,[],rfl,rfl,by simp⟩ (λ_ _ _ _ _=>trivial) (by simp[aL];bv_omega) ?_ ?_
 .rintro i d acc Y G' hd ⟨⟨o,rfl⟩,rfl,ys,rfl,y1,y2⟩ kk hk;unfold aL at hd;rw[av]at hd;obtain ⟨j,hj,rfl⟩:=ay.mp hd;erw[ends];have q0:0<=((t:Int)+3 * (0+(j:Int))) % 11:=g7 _ (!1);have q1:((t:Int)+3 * (0+(j:Int))) % 11 < 11:=gS _ (!1);refine ⟨zm (!1),!1,lW q0 (by rw[af,x1];exact q1) λa ha=>?_⟩;obtain ⟨x,hx,rfl⟩:=b6.mp ha;refine hk _ _ _ ⟨⟨_,rfl⟩,rfl,ys++[x],by simp,by simp[y1],λy hy=>?_⟩;rcases bv.mp hy with h |h
  .exact y2 y h
  .rw[aE.mp h];exact x2 x hx
 .rintro acc Y G' ⟨_,rfl,ys,rfl,y1,y2⟩;have hy:ys.length=r+1:=by rw[y1];simp[aL];omega
  symm;erw[h1];refine cC hp3 (!1) (!1) λq G4 hq hp4 sb4=>?_;have sb':=sb2.trans (sb3.trans sb4);erw[ends];cases hq0:((q:Int)==0) with
  |false=>
   refine hM _ _ ?_;erw[ends];exact ⟨p,m,ys,rfl,rfl,!0,!0,y2,hp4,sb'⟩
  |true=>
   erw[ends];refine CompG.inv (P:=λi acc Y G'=>(∃o,Y=[o,some (.ref p),some (.str [97,98,99,100,101,102,103,104,105,106,107,108,109,110,111,112,113,114,115,116,117,118,119,120,121,122])])/\Pen G' p/\Sb p G G'/\∃zs:List (AA),acc=zs.map D.str/\zs.length=i/\∀z∈zs,okD z) ⟨⟨_,rfl⟩,hp4,sb',[],rfl,rfl,by simp⟩ (λ_ _ _ _ _=>trivial) (by simp;bv_omega) ?_ ?_
   .rintro i d acc Y G' hd ⟨⟨o,rfl⟩,hp5,sb5,zs,rfl,z1,z2⟩ kk hk;erw[h1,h2];refine cC hp5 (!1) (!1) λn G6 hn hp6 sb6=>?_;erw[ends];rw[show (1:Int)+(n:Int)=((n+1:Nat):Int) by omega];refine ad4 hp6 (!0) (by simp) (by simp) λl G7 l1 l2 hp7 sb7=>?_;refine hk _ _ _ ⟨⟨_,rfl⟩,hp7,sb5.trans (sb6.trans sb7),zs++[l],by simp,by simp[z1],λz hz=>?_⟩;rcases bv.mp hz with h |h
    .exact z2 z h
    .rw[aE.mp h];exact ⟨!0,!0,λc hc=>JG (l2 c hc)⟩
   .rintro acc Y G' ⟨_,hp5,sb5,zs,rfl,z1,z2⟩;rw[af]at z1;refine hM _ _ ?_;erw[ends];exact ⟨p,m,zs,rfl,rfl,!0,!0,z2,hp5,sb5⟩
abbrev Row:=AA×AA
abbrev AU:=List Row
def az(r:Row):D:=.tup [.str r.1,.str r.2]
def ao(w:Nat)(rs:AU):D:=.tup [.int w,.tup (rs.map az)]
structure okB(w:Nat)(rs:AU):Prop where
 w1:1<=w
 w6:w<=6
 len:rs.length<=12
 form:∀r∈rs,okF w r.1
 deed:∀r∈rs,okD r.2
def JK(ds:AS)(G:DH):Prop:=∃p,∃w m:Nat,ds=[.ref p,.int w,.int m]/\Pen G p/\1<=w/\w<=6/\m<=12
def JM(ds:AS)(G:DH)(d:D)(G':DH):Prop:=∃p,∃w m v:Nat,∃rs:AU,ds=[.ref p,.int w,.int m]/\d=ao v rs/\okB v rs/\v<=w/\rs.length<=m/\Pen G' p/\Sb p G G'
def ug:RF.Spec:=bN JK JM
def ad7{p:AQ}{w m:Nat}{G:DH}{k:AT}{E:EK}(hp:Pen G p)(h1:1<=w)(h2:w<=6)(h3:m<=12)(hk:∀(v:Nat)(rs:AU)(G':DH),okB v rs->v<=w->rs.length<=m->Pen G' p->Sb p G G'->k (ao v rs) G'):ug.t [.ref p,.int w,.int m] G k E:=by refine cH ⟨p,w,m,rfl,hp,h1,h2,h3⟩ λd G' hx=>?_;obtain ⟨p2,w2,m2,v,rs,e1,e2,o,q1,q2,hp',sb⟩:=hx;simp only[eK,D.ref.injEq,D.int.injEq,ja,and_true]at e1;obtain ⟨rfl,rfl,rfl⟩:=e1;subst e2;exact hk v rs G' o q1 q2 hp' sb
def ad8{p:AQ}{m:Int}{G:DH}{k:AT}{E:EK}(hp:Pen G p)(h1:0 < m)(h2:m<=100)(hk:∀(xs:List (AA))(G':DH),0 < xs.length->xs.length<=100->(∀x∈xs,okD x)->Pen G' p->Sb p G G'->k (.lst (xs.map D.str)) G'):uf.t [.ref p,.int m] G k E:=by refine cH ⟨p,m,rfl,hp,h1,h2⟩ λd G' hx=>?_;obtain ⟨p2,m2,xs,e1,e2,q1,q2,q3,hp',sb⟩:=hx;cases e1;subst e2;exact hk xs G' q1 q2 q3 hp' sb
def Cv{α:Type}{l:List α}{a:α}:atI (l++[a]) (-1)=some a:=by unfold atI ixN;rw[if_neg (!1),if_pos (by simp;omega),ax,gN,show (-1+((l.length+1:Nat):Int)).toNat=l.length by omega];simp
def ad9 (Z:aj) (h1:Z "_law_take"=eN) (h2:Z "_law_deeds_of"=uf) (h3:Z "_law_form_like"=ue) (ds:AS) (G:DH) (h:JK ds G):aA Z yL noE (env0 ds 5) G (ends (JM ds G)):=by
 obtain ⟨p,w,m,rfl,hp,w1,w2,m1⟩:=h;simp_all_arith[yL];nofun;erw[h1];refine cC hp (!0) (!0) λn G2 hn hp2 sb2=>?_;erw[ends];rw[show (1:Int)+(n:Int)=((n+1:Nat):Int) by omega];symm;erw[h2];refine ad8 hp2 (!1) (!1) λxs G3 x1 x2 x3 hp3 sb3=>?_;symm;erw[ends];refine λq hq=>hM _ _ (seq λM hM=>?_);erw[ends];refine λs hs=>hM _ _ (seq λM hM=>?_);have hqs:q≠s:=by rintro rfl;rw[cg]at hs;cases hs
 have hs3:G3 s=none:=by rw[dG (Ne.symm hqs)]at hs;exact hs
 have npq:p≠q:=hp3.ne hq;have nps:p≠s:=hp3.ne hs3;have sa4:Sa G3 (aX (aX G3 q (.lst [])) s (.lst [])):=(Sa.new hq).trans (Sa.new hs);have hp4:=hp3.sa sa4;simp_arith![h1];refine cC hp4 (!0) (!0) λr G5 hr hp5 sb5=>?_;simp_arith![ends];refine ⟨!0,?_⟩;refine ForG.inv (P:=λi Y G'=>(∃o,Y=[some (.ref p),some (.int w),some (.int m),some (.int ((n+1:Nat):Int)),some (.lst (xs.map D.str)),some (.ref q),some (.ref s),o])/\Pen G' p/\Sb p G G'/\
   ∃rs:AU,G' q=some (.lst ((rs.map (·.1)).map D.str))/\G' s=some (.lst (rs.map az))/\rs.length=i/\(∀r∈rs,okF (n+1) r.1)/\∀r∈rs,okD r.2) ⟨⟨_,rfl⟩,hp5,sb2.trans (sb3.trans (sa4.sb.trans sb5)),[],?_,?_,rfl,by simp,by simp⟩ (λ_ _ _ _=>trivial) ?_ ?_
 .exact sb5 q _ (by rw[dG hqs];exact cg) (Ne.symm npq)
 .exact sb5 s _ cg (Ne.symm nps)
 .rintro i d Y G' hd ⟨⟨o,rfl⟩,hp6,sb6,rs,g1,g2,r1,r2,r3⟩ kk hk;have hi:i < r:=by
   have:=(ah.mp hd).1;simpa [aL] using this
  simp_arith![ends];nofun;erw[h3,dj g1];refine adZ (fs:=rs.map (·.1)) hp6 (!0) (!0) (cT g1) (by simp;omega) (λf hf=>?_) λf G7 hf hp7 sb7=>?_
  .obtain ⟨r',hr',rfl⟩:=b6.mp hf;exact r2 r' hr'
  have g1':=sb7 q _ g1 (Ne.symm npq);have g2':=sb7 s _ g2 (Ne.symm nps);erw[dj g1'];refine ⟨by simp;bv_omega,hM _ _ (last ?_)⟩;have e2:aX G7 q (.lst ((rs.map (·.1)).map D.str++[.str f])) s=some (.lst (rs.map az)):=by rw[dG (Ne.symm hqs)];exact g2'
  have hp8:Pen (aX G7 q (.lst ((rs.map (·.1)).map D.str++[.str f]))) p:=hp7.sb Sb.upd npq;erw[h1,dj e2,cT cg,Cv,af];refine cC hp8 (!0) (!0) λt G9 ht hp9 sb9=>?_;have e1':=sb9 q _ cg (Ne.symm npq);have e2':=sb9 s _ e2 (Ne.symm nps);erw[dj e2'];refine lW (!0) (by simp;omega) λx hx=>?_;obtain ⟨dd,hdd,rfl⟩:=b6.mp hx;refine ⟨!1,by simp;bv_omega,hk _ _ ⟨⟨_,rfl⟩,hp9.sb Sb.upd nps,?_,rs++[(f,dd)],?_,?_,by simp[r1],?_,?_⟩⟩
  .intro b ob hb nb;by_cases hbs:b=s
   .subst hbs;exfalso;have z:=sb2 b _ hb nb;have z:=sb3 b _ z nb;rw[hs3]at z;cases z
   .by_cases hbq:b=q
    .subst hbq;exfalso;have z:=sb2 b _ hb nb;have z:=sb3 b _ z nb;rw[hq]at z;cases z
    .rw[dG hbs];exact sb9 b _ (by rw[dG hbq];exact sb7 b _ (sb6 b _ hb nb) nb) nb
  .rw[dG hqs,e1'];simp
  .rw[cg];simp[az]
  .intro r' hr';rcases bv.mp hr' with h |h
   .exact r2 r' h
   .rw[aE.mp h];exact hf
  .intro r' hr';rcases bv.mp hr' with h |h
   .exact r3 r' h
   .rw[aE.mp h];exact x3 dd hdd
 .rintro Y G' ⟨⟨o,rfl⟩,hp6,sb6,rs,g1,g2,r1,r2,r3⟩;have hl:rs.length=r:=by rw[r1];simp[aL]
  refine hM _ _ ?_;erw[cT g2];exact ⟨!1,p,w,m,n+1,rs,rfl,rfl,⟨!0,!0,!0,r2,r3⟩,!0,!0,hp6,sb6⟩
def alt(c:Nat):AA:=if c=42 then [48,49] else [c]
def step1(acc:List (AA))(c:Nat):List (AA):=acc.flatMap λt=>(alt c).map λs=>t++[s]
def aH(f:AA):List (AA):=f.foldl step1 [[]]
def Fits(f w:AA):Prop:=f.length=w.length/\∀(i c s:Nat),f[i]?=some c->w[i]?=some s->s∈alt c
def zG(f:AA)(c:Nat):aH (f++[c])=step1 (aH f) c:=by unfold aH;rw[List.foldl_append];rfl
def aea{acc:List (AA)}{c:Nat}{w:AA}:w∈step1 acc c↔∃t s,t∈acc/\s∈alt c/\w=t++[s]:=by
 unfold step1;rw[gz];constructor
 .rintro ⟨t,ht,h⟩;obtain ⟨s,hs,rfl⟩:=b6.mp h;exact ⟨t,s,ht,hs,rfl⟩
 .rintro ⟨t,s,ht,hs,rfl⟩;exact ⟨t,ht,b6.mpr ⟨s,hs,rfl⟩⟩
def zH{f w:AA}{c s:Nat}:Fits (f++[c]) (w++[s])↔Fits f w/\s∈alt c:=by
 constructor
 .rintro ⟨h1,h2⟩;have hl:f.length=w.length:=by simpa using h1
  refine ⟨⟨hl,λi c' s' hc hs=>?_⟩,?_⟩
  .have i1:=(ah.mp hc).1;exact h2 i c' s' (by rw[ge i1];exact hc) (by rw[ge (!0)];exact hs)
  .exact h2 f.length c s (by simp) (by rw[hl];simp)
 .rintro ⟨⟨h1,h2⟩,h3⟩;refine ⟨by simp[h1],λi c' s' hc hs=>?_⟩;by_cases hi:i < f.length
  .rw[ge hi]at hc;rw[ge (!0)]at hs;exact h2 i c' s' hc hs
  .have i2:=(ah.mp hc).1;simp at i2;have e:i=f.length:=by omega
   subst e;simp at hc;rw[h1]at hs;simp at hs;subst hc hs;exact h3
def eQ{f w:AA}:w∈aH f↔Fits f w:=by
 induction f using Jo generalizing w with
 |nil=>
  simp[aH,Fits];constructor
  .rintro rfl;simp
  .intro h;exact dL.mp h.symm
 |snoc f c ih=>
  rw[zG,aea];constructor
  .rintro ⟨t,s,ht,hs,rfl⟩;exact zH.mpr ⟨ih.mp ht,hs⟩
  .intro h;have hl:=h.1;simp at hl;have hne:w≠[]:=by rintro rfl;simp at hl
   refine ⟨w.dropLast,w.getLast hne,?_,?_,(g6 hne).symm⟩
   .rw[<-g6 hne]at h;exact ih.mpr (zH.mp h).1
   .rw[<-g6 hne]at h;exact (zH.mp h).2
def zJ{f w:AA}(h:w∈aH f):w.length=f.length:=(eQ.mp h).1.symm
def JN{acc:List (AA)}{c:Nat}:(step1 acc c).length<=2 * acc.length:=by
 unfold step1;induction acc with
 |nil=>simp
 |cons a r ih=>
  rw[i0,ax,af,ci];have:(alt c).length<=2:=by unfold alt;split <;> simp
  omega
def JP(f:AA):(aH f).length<=2 ^ f.length:=by
 induction f using Jo with
 |nil=>simp[aH]
 |snoc f c ih=>
  rw[zG,ax,gN,Nat.pow_succ];have:=@JN (aH f) c;omega
def aeb{a b:List (AA)}{c:Nat}:step1 (a++b) c=step1 a c++step1 b c:=by unfold step1;rw[List.flatMap_append]
def JQ(ds:AS)(_:DH):Prop:=∃f:AA,ds=[.str f]/\f.length<=12
def JR(ds:AS)(G:DH)(d:D)(G':DH):Prop:=∃f:AA,ds=[.str f]/\d=.lst ((aH f).map D.str)/\Sa G G'
def nP:RF.Spec:=bN JQ JR
def zK{f:AA}{G:DH}{k:AT}{E:EK}(h:f.length<=12)(hk:∀G',Sa G G'->k (.lst ((aH f).map D.str)) G'):nP.t [.str f] G k E:=by refine cH ⟨f,rfl,h⟩ λd G' hx=>?_;obtain ⟨f2,e1,e2,sa⟩:=hx;cases e1;subst e2;exact hk G' sa
def aec(Z:aj)(ds:AS)(G:DH)(h:JQ ds G):aA Z yU noE (env0 ds 4) G (ends (JR ds G)):=by
 obtain ⟨f,rfl,hf⟩:=h;simp_all_arith[yU];nofun;erw[ends];refine ⟨!1,hM _ _ (seq λM hM=>?_)⟩;simp_arith![ends];refine ForG.inv (P:=λi Y G'=>(∃o2 o3 o4,Y=[some (.str f),some (.lst ((aH (f.take i)).map D.str)),o2,o3,o4])/\Sa G G') ⟨⟨_,_,_,rfl⟩,Sa.refl G⟩ (λ_ _ _ _=>trivial) ?_ ?_
 .rintro i d Y G2 hd ⟨⟨o2,o3,o4,rfl⟩,sa⟩ kk hk;rw[av]at hd;obtain ⟨c,hc,rfl⟩:=ay.mp hd;have hi:=(ah.mp hc).1;have ht:f.take (i+1)=f.take i++[c]:=by rw[da,hc];rfl
  have hcard:(aH (f.take i)).length<=4096:=by
   have h1:=JP (f.take i);have h2:(f.take i).length<=12:=by rw[br];omega
   have h3:=gs (show 0 < 2 by decide) h2;have h4:2 ^ 12=4096:=by decide
   omega
  simp_arith![ends];nofun;erw[ends];refine λq hq=>hM _ _ (seq λM hM=>?_);simp_arith![ends];refine ForG.inv (P:=λj Y G'=>(∃o4,Y=[some (.str f),some (.lst ((aH (f.take i)).map D.str)),some (.str [c]),some (.ref q),o4])/\Sa G G'/\G' q=some (.lst ((step1 ((aH (f.take i)).take j) c).map D.str))) ⟨⟨_,rfl⟩,sa.trans (Sa.new hq),cg⟩ (λ_ _ _ _=>trivial) ?_ ?_
  .rintro j d Y G3 hd3 ⟨⟨o4,rfl⟩,sa3,g3⟩ kk' hk';rw[av]at hd3;obtain ⟨t,htt,rfl⟩:=ay.mp hd3;have hj:=(ah.mp htt).1;have tlen:t.length<=12:=by rw[zJ (bb htt),br];omega
   have tk:(aH (f.take i)).take (j+1)=(aH (f.take i)).take j++[t]:=by rw[da,htt];rfl
   have st:step1 [t] c=(alt c).map λs=>t++[s]:=by simp[step1]
   have l1:(step1 ((aH (f.take i)).take j) c).length<=8192:=by
    have:=@JN ((aH (f.take i)).take j) c;have:((aH (f.take i)).take j).length<=4096:=by rw[br];omega
    omega
   have al2:(alt c).length<=2:=by unfold alt;split <;> simp
   simp_arith![ends];refine last ?_;erw[dj g3];refine ⟨!1,?_⟩;have ix:atI [D.str [48,49],D.str [c]] (if (!([c]==[42]))=true then 1 else 0)=some (.str (alt c)):=by
    unfold alt;by_cases h42:c=42
    .subst h42;rfl
    .have:([c]==[42])=false:=by simp[h42]
     rw[this,if_neg h42];rfl
   erw[ix];refine CompG.map (f:=λd=>match d with |.str [s]=>.str (t++[s]) |_=>.non) (I:=λY=>∃o,Y=[o,some (.str t)]) ⟨_,rfl⟩ trivial (by simp;bv_omega) ?_ ?_
   .rintro d Y hd ⟨o,rfl⟩ kk2 hk2;obtain ⟨s,_,rfl⟩:=b6.mp hd;erw[ends];exact ⟨by bv_omega,hk2 _ ⟨_,rfl⟩⟩
   .rw[eL];erw[Function.comp_def,dj g3,af];refine ⟨by bv_omega,hk' _ _ ⟨⟨_,rfl⟩,?_,?_⟩⟩
    .intro b ob hb;by_cases hbq:b=q
     .subst hbq;exfalso;have:=sa b _ hb;rw[hq]at this;cases this
     .rw[dG hbq];exact sa3 b _ hb
    .rw[cg,tk,aeb,st,cb,eL];rfl
  .rintro Y G3 ⟨⟨o4,rfl⟩,sa3,g3⟩;rw[af,ee]at g3;ac_nf0;erw[g3];refine hk _ _ ⟨⟨_,_,_,by rw[ht,zG]⟩,?_⟩;intro b ob hb;have hbq:b≠q:=by
    rintro rfl;have:=sa b _ hb;rw[hq]at this;cases this
   rw[vK hbq];exact sa3 b _ hb
 .rintro Y G2 ⟨⟨o2,o3,o4,rfl⟩,sa⟩;rw[af,ee];refine hM _ _ ?_;erw[ends];exact ⟨f,rfl,rfl,sa⟩
def letters:AA:=[97,98,99,100,101,102,103,104,105,106,107,108,109,110,111,112,113,114,115,116,117,118,119,120,121,122]
def aed:∀c:Fin 123,97<=c.1->letters.contains c.1=true:=by decide
def aee{c:Nat}:letters.contains c=true↔97<=c/\c<=122:=
 ⟨λh=>JG (bX.mp h),λ⟨h1,h2⟩=>aed ⟨c,Nat.lt_succ_of_le h2⟩ h1⟩
def okW(w:Nat)(l:AA):Prop:=l.length=w/\∀c∈l,c=48\/c=49
def zL{α:Type}(l:List α):bools (l.map λ_=>D.bl true)=some (l.map λ_=>true):=yr _ l
def zM{α:Type}(l:List α):(l.map λ_=>true).all id=true:=df.mpr λx hx=>by obtain ⟨_,_,rfl⟩:=b6.mp hx;rfl
def zN:RF.Spec:=bJ (λa:AA×AA=>[.str a.1,.int a.2.length,.str a.2]) (λa=>a.2.length<=1000/\∀c∈a.2,a.1.contains c=true) (λ_=>.bl true)
def aef(Z:aj)(a:AA×AA)(G:DH)(h:a.2.length<=1000/\∀c∈a.2,a.1.contains c=true):aA Z mC noE (env0 [.str a.1,.int a.2.length,.str a.2] 0) G (ends λd G'=>G'=G/\d=.bl true):=by
 obtain ⟨s,l⟩:=a;obtain ⟨h1,h2⟩:=h;dsimp only at h1 h2;erw[mC,BEq.rfl];refine CompG.map (f:=λ_=>.bl true) (I:=λY=>∃o,Y=[o,some (.str s)]) ⟨_,rfl⟩ trivial (by simp;bv_omega) ?_ ?_
 .rintro d Y hd ⟨o,rfl⟩ kk hk;obtain ⟨c,hc,rfl⟩:=b6.mp hd;erw[h2 c hc];exact hk _ ⟨_,rfl⟩
 .erw[zL,zM]
def zO:RF.Spec:=bJ (λl:AA=>[.int l.length,.str l]) (λl=>l.length<=1000/\∀c∈l,isF c) (λ_=>.bl true)
def aeg (Z:aj) (h1:Z "is_text_of"=zN) (l:AA) (G:DH) (h:l.length<=1000/\∀c∈l,isF c):aA Z mD noE (env0 [.int l.length,.str l] 0) G (ends λd G'=>G'=G/\d=.bl true):=by erw[mD,h1];exact bT ([48,49,42],l) rfl ⟨h.1,λc hc=>by rcases h.2 c hc with rfl |rfl |rfl <;> rfl⟩ ⟨rfl,rfl⟩
def zP:RF.Spec:=bJ (λl:AA=>[.str l]) okD (λ_=>.bl true)
def aeh(Z:aj)(l:AA)(G:DH)(h:okD l):aA Z mz noE (env0 [.str l] 0) G (ends λd G'=>G'=G/\d=.bl true):=by
 obtain ⟨h1,h2,h3⟩:=h;have b1:decide ((1:Int)<=(l.length:Int))=true:=ck (!0);have b2:decide ((l.length:Int)<=8)=true:=ck (!0);erw[mz,b1,b2];refine CompG.map (f:=λ_=>.bl true) (I:=λY=>∃o,Y=[o]) ⟨_,rfl⟩ trivial (by simp;bv_omega) ?_ ?_
 .rintro d Y hd ⟨o,rfl⟩ kk hk;obtain ⟨c,hc,rfl⟩:=b6.mp hd;have hcl:[97,98,99,100,101,102,103,104,105,106,107,108,109,110,111,112,113,114,115,116,117,118,119,120,121,122].contains c=true:=aee.mpr (h3 c hc);erw[hcl];exact hk _ ⟨_,rfl⟩
 .erw[zL,zM]
def zQ:RF.Spec:=bJ (λa:Nat×Row=>[.int a.1,az a.2]) (λa=>a.1<=6/\okF a.1 a.2.1/\okD a.2.2) (λ_=>.bl true)
def aei (Z:aj) (h1:Z "is_form"=zO) (h2:Z "is_deed"=zP) (a:Nat×Row) (G:DH) (h:a.1<=6/\okF a.1 a.2.1/\okD a.2.2):aA Z mF noE (env0 [.int a.1,az a.2] 0) G (ends λd G'=>G'=G/\d=.bl true):=by obtain ⟨w,f,d⟩:=a;obtain ⟨hw,hf,hd⟩:=h;dsimp only at hw hf hd;erw[mF,az,h1,h2];erw[show ((0+1+1:Nat):Int)=2 from rfl,BEq.rfl];refine bT f (by rw[hf.1]) ⟨by rw[hf.1];omega,hf.2⟩ ?_;erw[ends];exact bT d rfl hd ⟨rfl,rfl⟩
def zR:RF.Spec:=bJ (λw:Nat=>[.int w]) (λw=>1<=w/\w<=6) (λ_=>.bl true)
def aej (Z:aj) (h1:Z "is_whole"=aM jq) (w:Nat) (G:DH) (h:1<=w/\w<=6):aA Z mG noE (env0 [.int w] 0) G (ends λd G'=>G'=G/\d=.bl true):=by have b1:decide ((1:Int)<=(w:Int))=true:=ck (!0);have b2:decide ((w:Int)<=6)=true:=ck (!0);erw[mG,h1];refine dB (d:=.bl true) rfl ?_;erw[b1,b2]
def zT:RF.Spec:=bJ (λa:Nat×AU=>[ao a.1 a.2]) (λa=>okB a.1 a.2) (λ_=>.bl true)
def aek (Z:aj) (h1:Z "is_width"=zR) (h2:Z "is_row"=zQ) (a:Nat×AU) (G:DH) (h:okB a.1 a.2):aA Z mH noE (env0 [ao a.1 a.2] 2) G (ends λd G'=>G'=G/\d=.bl true):=by
 obtain ⟨w,rs⟩:=a;dsimp only at h ⊢;have hlen:=h.len;simp_all_arith[mH,ao];nofun;erw[ends];erw[show ((0+1+1:Nat):Int)=2 from rfl,BEq.rfl];symm;erw[ends];symm;erw[h1];refine bT w rfl ⟨h.w1,h.w6⟩ ?_;have hd:decide ((12:Int) < ((rs.map az).length:Int))=false:=cy (by rw[af];omega);erw[hd];refine hM _ _ ?_;erw[ends];refine CompG.map (f:=λ_=>.bl true) (I:=λY=>∃o,Y=[o,some (.int w)]) ⟨_,rfl⟩ trivial (by rw[af];bv_omega) ?_ ?_
 .rintro d Y hd ⟨o,rfl⟩ kk hk;obtain ⟨r,hr,rfl⟩:=b6.mp hd;erw[h2];exact bT (w,r) rfl ⟨h.w6,h.form r hr,h.deed r hr⟩ (hk _ ⟨_,rfl⟩)
 .erw[zL,zM]
def jr:RF.Spec:=bJ (λa:Nat×AU=>[ao a.1 a.2]) (λa=>okB a.1 a.2) (λ_=>.non)
def nQ{w:Nat}{rs:AU}{G:DH}{k:AT}{E:EK}(h:okB w rs)(hk:k .non G):jr.t [ao w rs] G k E:=bT (w,rs) rfl h hk
def ael (Z:aj) (h1:Z "is_book"=zT) (a:Nat×AU) (G:DH) (h:okB a.1 a.2):aA Z mJ noE (env0 [ao a.1 a.2] 0) G (ends λd G'=>G'=G/\d=.non):=by erw[mJ,h1];refine bT a rfl h ?_;erw[ends]
def dW(c s:Nat):Bool:=c==42||c==s
def b7:AA->AA->Bool
 |c::f,s::w=>dW c s&&b7 f w
 |_,_=>true
def bL(f w:AA):Bool:=decide (f.length=w.length)&&b7 f w
def nR:AS->Option D
 |[.str f,.str w]=>if decide (f.length<=100000) then some (.bl (bL f w)) else none
 |_=>none
def nT:∀(f w:AA),cu (f.map λc=>D.str [c]) (w.map λc=>D.str [c])=(f.zip w).map λp=>D.tup [.str [p.1],.str [p.2]]
 |[],w=>by simp[cu]
 |c::f,[]=>by simp[cu]
 |c::f,s::w=>by simp[cu,nT f w]
def JS:∀(f w:AA),((f.zip w).map λp=>dW p.1 p.2).all id=b7 f w
 |[],w=>by simp[b7]
 |c::f,[]=>by simp[b7]
 |c::f,s::w=>by simp[b7,JS f w]
def eU{c s:Nat}:(([c]==[s]):Bool)=(c==s):=by
 by_cases h:c=s
 .subst h;simp
 .rw[eh.mpr h,eh.mpr (by simp[h])]
def aem{a b:Nat}:((((a:Nat):Int)==((b:Nat):Int)):Bool)=decide (a=b):=by
 by_cases h:a=b
 .subst h;simp
 .rw[cy h,eh];omega
def aen(Z:aj)(ds:AS)(G:DH)(d:D)(h:nR ds=some d):aA Z lX noE (env0 ds 0) G (ends λd' G'=>G'=G/\d'=d):=by
 unfold nR at h;split at h
 .rename_i f w;split at h
  .rename_i hl;have hl:=fx hl;cases h;erw[lX,aem,bL];cases he:decide (f.length=w.length) with
   |false=>erw[Bool.false_and]
   |true=>
    erw[nT,Bool.true_and];refine CompG.map (f:=λd=>match d with |.tup [.str [c],.str [s]]=>.bl (dW c s) |_=>.non) (I:=λY=>∃o o',Y=[o,o']) ⟨_,_,rfl⟩ trivial (by simp;bv_omega) ?_ ?_
    .rintro d Y hd ⟨o,o',rfl⟩ kk hk;obtain ⟨⟨c,s⟩,_,rfl⟩:=b6.mp hd;erw[eU];have:=hk [some (.str [c]),some (.str [s])] ⟨_,_,rfl⟩;unfold dW at this;cases hc:(c==42) with
     |true=>erw[hc]at this ⊢;exact this
     |false=>erw[hc]at this ⊢;exact this
    .rw[eL];erw[Function.comp_def,yr,JS,and_self]
  .cases h
 .cases h
def JT{c s:Nat}(hs:s=48\/s=49):dW c s=true↔s∈alt c:=by
 unfold dW alt;by_cases h:c=42
 .subst h;simp;rcases hs with rfl |rfl <;> simp
 .simp[h];exact eq_comm
def bC(rs:AU)(w:AA):Option Nat:=rs.findIdx? λr=>bL r.1 w
def aW:Option Nat->D
 |some n=>.int n
 |none=>.non
def JV{w v:Nat}{rs ss:AU}(h:ao w rs=ao v ss):w=v/\rs=ss:=by
 unfold ao at h;simp only[D.tup.injEq,eK,D.int.injEq,ja,and_true]at h;refine ⟨h.1,?_⟩;have h2:=h.2;clear h;induction rs generalizing ss with
 |nil=>cases ss with
  |nil=>rfl
  |cons _ _=>simp at h2
 |cons r rs ih=>cases ss with
  |nil=>simp at h2
  |cons s ss=>
   simp only[cS,eK]at h2;have e:r=s:=by have:=h2.1;unfold az at this;simp only[D.tup.injEq,eK,D.str.injEq,and_true]at this;exact Prod.ext this.1 this.2
   rw[e,ih h2.2]
def aeo{rs:AU}{l:AA}{i:Nat}{r:Row}(h:rs[i]?=some r):bC (rs.drop i) l=if bL r.1 l then some 0 else (bC (rs.drop (i+1)) l).map (·+1):=by
 have hi:=(ah.mp h).1;have e:rs.drop i=r::rs.drop (i+1):=by rw[bP hi];rw[(ah.mp h).2]
 rw[e];unfold bC;rw[iO]
def j6(rs:AU):Option Nat->D
 |some n=>match rs[n]? with |some r=>.str r.2 |none=>.non
 |none=>.non
def aep{rs:AU}{l:AA}{n:Nat}(h:bC rs l=some n):n < rs.length:=by unfold bC at h;exact (List.findIdx?_eq_some_iff_findIdx_eq.mp h).1
def uh:RF.Spec:=bN (λds _=>∃w rs o,ds=[ao w rs,aW o]/\∀n,o=some n->n < rs.length) (λds G d G'=>G'=G/\∃w rs o,ds=[ao w rs,aW o]/\d=j6 rs o)
def aeq{a b:Option Nat}(h:aW a=aW b):a=b:=by cases a <;> cases b <;> simp[aW]at h ⊢ <;> omega
def JW{w:Nat}{rs:AU}{o:Option Nat}{G:DH}{k:AT}{E:EK}(h:∀n,o=some n->n < rs.length)(hk:k (j6 rs o) G):uh.t [ao w rs,aW o] G k E:=by refine cH ⟨w,rs,o,rfl,h⟩ λd G' hx=>?_;obtain ⟨e1,w2,rs2,o2,e2,e3⟩:=hx;simp only[eK,and_true]at e2;obtain ⟨e2,e4⟩:=e2;obtain ⟨rfl,rfl⟩:=JV e2;cases aeq e4;subst e1 e3;exact hk
def aer(Z:aj)(ds:AS)(G:DH)(h:∃w rs o,ds=[ao w rs,aW o]/\∀n,o=some n->n < rs.length):aA Z j5 noE (env0 ds 0) G (ends λd G'=>G'=G/\∃w rs o,ds=[ao w rs,aW o]/\d=j6 rs o):=by
 obtain ⟨w,rs,o,rfl,ho⟩:=h;cases o with
 |none=>
  erw[j5,aW];exact ⟨w,rs,none,rfl,rfl⟩
 |some n=>
  have hn:=ho n rfl;erw[j5,aW,ao];refine aU (a:=az rs[n]) (bA (by simp[hn])) ?_;erw[az];exact ⟨w,rs,some n,rfl,by simp[j6,hn]⟩
def jt{α β:Type}(f:α->β)(l:List α)(n:Nat):cut (l.map f) none (some (n:Int))=(l.take n).map f:=by rw[tY,List.map_take]
def zU{α β:Type}(f:α->β)(l:List α)(n:Nat):cut (l.map f) (some (n:Int)) none=(l.drop n).map f:=by rw[tZ,List.map_drop]
def okB.sub{w:Nat}{rs ss:AU}(h:okB w rs)(hl:ss.length<=rs.length)(hs:∀r∈ss,r∈rs):okB w ss:=
 ⟨h.w1,h.w6,bS hl h.len,λr hr=>h.form r (hs r hr),λr hr=>h.deed r (hs r hr)⟩
def JX(c:Nat)(n:Nat):reps [c] n=List.replicate n c:=by
 unfold reps;induction n with
 |zero=>rfl
 |succ n ih=>rw[eM,jv,ih,eM];rfl
def aes(w:Nat):okF w (List.replicate w 42):=⟨de,λc hc=>.inr (.inr (List.eq_of_mem_replicate hc))⟩
def aet{w:Nat}{l:AA}:Fits (List.replicate w 42) l↔okW w l:=by
 constructor
 .rintro ⟨h1,h2⟩;rw[de]at h1;refine ⟨h1.symm,λc hc=>?_⟩;obtain ⟨i,hi,rfl⟩:=List.getElem_of_mem hc;have:=h2 i 42 l[i] (by rw[List.getElem?_replicate];rw[if_pos (!0)]) (by simp[hi]);simpa [alt] using this
 .rintro ⟨h1,h2⟩;refine ⟨by rw[de,h1],λi c s hc hs=>?_⟩;rw[List.getElem?_replicate]at hc;split at hc
  .cases hc;have:=h2 s (bb hs);simpa [alt] using this
  .cases hc
def aeu{p:AQ}{G:DH}{k:AT}{E:EK}(hp:Pen G p)(hk:∀G',Pen G' p->Sb p G G'->k (.ref p) G'):t8.t [.ref p] G k E:=
 cH ⟨p,rfl,hp⟩ λd G' hx=>by obtain ⟨p2,e1,e2,hp',sb⟩:=hx;cases e1;subst e2;exact hk G' hp' sb
def cO(a b:Nat):Option Nat:=if a=42 then some b else if b=42\/b=a then some a else none
def bV:AA->AA->Option (AA)
 |a::f,b::g=>match cO a b with |some c=>(bV f g).map (c::·) |none=>none
 |_,_=>some []
def aP:Option (AA)->D
 |some l=>.str l
 |none=>.non
def nU:AS->Option D
 |[.str f,.str g]=>if decide (f.length<=100000) then some (aP (bV f g)) else none
 |_=>none
def aev{f g:AA}{i a b:Nat}(h:(f.zip g)[i]?=some (a,b)):bV (f.drop i) (g.drop i)=match cO a b with |some c=>(bV (f.drop (i+1)) (g.drop (i+1))).map (c::·) |none=>none:=by
 have hz:=ah.mp h;obtain ⟨hl,he⟩:=hz;rw[g0]at hl;have h1:i < f.length:=by omega
 have h2:i < g.length:=by omega
 rw[List.getElem_zip]at he;rw[bP h1,bP h2];simp only[Prod.mk.injEq]at he;rw[he.1,he.2];rfl
def aew{f g:AA}:bV (f.drop (f.zip g).length) (g.drop (f.zip g).length)=some []:=by
 rw[g0];by_cases h:f.length<=g.length
 .rw[Nat.min_eq_left h,dP];cases g.drop f.length <;> rfl
 .rw[Nat.min_eq_right (!0),dP];cases f.drop g.length <;> rfl
def aex(Z:aj)(ds:AS)(G:DH)(d:D)(h:nU ds=some d):aA Z mR noE (env0 ds 3) G (ends λd' G'=>G'=G/\d'=d):=by
 unfold nU at h;split at h
 .rename_i f g;split at h
  .rename_i hl;have hl:=fx hl;cases h;simp_all_arith[mR];nofun;erw[ends];symm;simp_arith![nT];refine ForG.inv (P:=λi Y G'=>(∃o3 o4 m,Y=[some (.str f),some (.str g),some (.str m),o3,o4]/\m.length=i/\bV f g=(bV (f.drop i) (g.drop i)).map (m ++ ·))/\G'=G) ⟨⟨_,_,[],rfl,rfl,by simp⟩,rfl⟩ (λ_ _ _ _=>trivial) ?_ ?_
   .rintro i d Y G' hd ⟨⟨o3,o4,m,rfl,hm,hb⟩,rfl⟩ kk hk;rw[av]at hd;obtain ⟨⟨a,b⟩,hab,rfl⟩:=ay.mp hd;have hi:=(ah.mp hab).1;rw[g0]at hi;rw[aev hab]at hb;simp_arith![ends];refine last ?_;have put:∀(c:Nat)(o3 o4:Option D),cO a b=some c->m.length+1<=sz/\kk [some (.str f),some (.str g),some (.str (m++[c])),o3,o4] G':=by
     intro c o3 o4 hc;rw[hc]at hb;refine ⟨by bv_omega,hk _ _ ⟨⟨_,_,_,rfl,by simp[hm],?_⟩,rfl⟩⟩;rw[hb,Option.map_map];congr 1;funext x;simp
    erw[eU];by_cases h42:a=42
    .have:((a==42):Bool)=true:=by simp[h42]
     erw[this];exact put b _ _ (if_pos h42)
    .have h0:((a==42):Bool)=false:=by simp[h42]
     erw[h0,eU];by_cases hb42:b=42
     .have:((b==42):Bool)=true:=by simp[hb42]
      erw[this];exact put a _ _ (by unfold cO;rw[if_neg h42,if_pos (.inl hb42)])
     .have h1:((b==42):Bool)=false:=by simp[hb42]
      erw[h1,eU];by_cases hba:b=a
      .have:((b==a):Bool)=true:=by simp[hba]
       erw[this];exact put a _ _ (by unfold cO;rw[if_neg h42,if_pos (.inr hba)])
      .have:((b==a):Bool)=false:=by simp[hba]
       erw[this];have hn:cO a b=none:=by unfold cO;rw[if_neg h42,if_neg (by rintro (h |h);exact hb42 h;exact hba h)]
       rw[hn]at hb;rw[hb];rfl
   .rintro Y G' ⟨⟨o3,o4,m,rfl,hm,hb⟩,rfl⟩;rw[af,aew]at hb;refine hM _ _ ?_;erw[ends];rw[hb];simp[aP]
  .cases h
 .cases h
def g8:AS->Option D
 |[.str f,.int n,.str [c]]=>if decide (0<=n)&&decide (n < f.length)&&decide (f.length<=1000) then some (.str (f.set n.toNat c)) else none
 |_=>none
def JZ{l:AA}{n c:Nat}(h:n < l.length):l.take n++[c]++l.drop (n+1)=l.set n c:=by rw[iS,if_pos h];simp
def aey(Z:aj)(ds:AS)(G:DH)(d:D)(h:g8 ds=some d):aA Z lZ noE (env0 ds 0) G (ends λd' G'=>G'=G/\d'=d):=by
 unfold g8 at h;split at h
 .rename_i f n c;split at h
  .rename_i hl;simp only[ae,cf]at hl;obtain ⟨⟨h0,h1⟩,h2⟩:=hl;cases h;obtain ⟨k,rfl⟩:=dQ h0;erw[lZ,tY,Jl,ax,br,ce,eJ,JZ (show k < f.length by omega)];exact ⟨by bv_omega,by bv_omega⟩
  .cases h
 .cases h
def ju:AS->Option D
 |[.int n]=>if decide (0<=n)&&decide (n<=1000) then some (.str (List.replicate n.toNat 42)) else none
 |_=>none
def aez(Z:aj)(ds:AS)(G:DH)(d:D)(h:ju ds=some d):aA Z mZ noE (env0 ds 0) G (ends λd' G'=>G'=G/\d'=d):=by
 unfold ju at h;split at h
 .rename_i n;split at h
  .rename_i hl;simp only[ae,cf]at hl;cases h;erw[mZ,JX];exact ⟨hl.1,hl.2,by bv_omega⟩
  .cases h
 .cases h
def b8(rs:AU)(b:AA):Option Nat:=rs.findIdx? λr=>(bV r.1 b).isSome
def J0(ds:AS)(_:DH):Prop:=∃(rs:AU)(b:AA),ds=[.tup (rs.map az),.str b]/\∀r∈rs,r.1.length<=1000
def J1(ds:AS)(G:DH)(d:D)(G':DH):Prop:=G'=G/\∃(rs:AU)(b:AA),ds=[.tup (rs.map az),.str b]/\d=aW (b8 rs b)
def nW:RF.Spec:=bN J0 J1
def zV{rs ss:AU}(h:rs.map az=ss.map az):rs=ss:=(JV (w:=0) (v:=0) (by unfold ao;rw[h])).2
def J2{rs:AU}{b:AA}{G:DH}{k:AT}{E:EK}(h:∀r∈rs,r.1.length<=1000)(hk:k (aW (b8 rs b)) G):nW.t [.tup (rs.map az),.str b] G k E:=by refine cH ⟨rs,b,rfl,h⟩ λd G' hx=>?_;obtain ⟨e1,rs2,b2,e2,e3⟩:=hx;simp only[eK,D.str.injEq,D.tup.injEq,and_true]at e2;obtain ⟨e2,rfl⟩:=e2;cases zV e2;subst e1 e3;exact hk
def aeA{o:Option (AA)}:eF (aP o)=!o.isSome:=by cases o <;> rfl
def aeB{G:DH}{o:Option (AA)}:view G (aP o)=aP o:=by cases o <;> rfl
def aeC{rs:AU}{b:AA}{i:Nat}{r:Row}(h:rs[i]?=some r):b8 (rs.drop i) b=if (bV r.1 b).isSome then some 0 else (b8 (rs.drop (i+1)) b).map (·+1):=by
 have hi:=(ah.mp h).1;have e:rs.drop i=r::rs.drop (i+1):=by rw[bP hi];rw[(ah.mp h).2]
 rw[e];unfold b8;rw[iO]
def aeD (Z:aj) (h1:Z "both"=aM nU) (ds:AS) (G:DH) (h:J0 ds G):aA Z mU noE (env0 ds 2) G (ends (J1 ds G)):=by
 obtain ⟨rs,b,rfl,hb⟩:=h;simp_all_arith[mU];nofun;simp_arith![ends];refine ForG.inv (P:=λi Y G'=>(∃o2 o3,Y=[some (.tup (rs.map az)),some (.str b),o2,o3])/\G'=G/\b8 rs b=(b8 (rs.drop i) b).map (·+i)) ⟨⟨_,_,rfl⟩,rfl,by simp⟩ (λ_ _ _ _=>trivial) ?_ ?_
 .rintro i d Y G' hd ⟨⟨o2,o3,rfl⟩,rfl,hmet⟩ kk hk;rw[jn]at hd;obtain ⟨d',hd',rfl⟩:=ay.mp hd;rw[av]at hd';obtain ⟨r,hr,rfl⟩:=ay.mp hd';have hrl:=hb r (bb hr);rw[aeC hr]at hmet;simp_arith![ends];refine last ?_;erw[h1,az];refine dB (d:=aP (bV r.1 b)) (if_pos (ck (!0))) ?_;erw[aeB,aeA];cases hf:(bV r.1 b).isSome with
  |true=>
   rw[hf,if_pos rfl]at hmet;exact ⟨rfl,rs,b,rfl,by rw[hmet];simp[aW]⟩
  |false=>
   rw[hf,if_neg bn]at hmet;refine hk _ _ ⟨⟨_,_,rfl⟩,rfl,?_⟩;rw[hmet,Option.map_map];congr 1;funext n;simp;omega
 .rintro Y G' ⟨⟨o2,o3,rfl⟩,rfl,hmet⟩;rw[iC,af,dP]at hmet;refine hM _ _ ?_;erw[ends];exact ⟨rfl,rs,b,rfl,by rw[hmet];rfl⟩
def dm(f b:AA):Option Nat:=(f.zip b).findIdx? λp=>p.2==42&&!(p.1==42)
def dD(rs:AU)(b:AA):Option Nat:=match b8 rs b with |some n=>(match rs[n]? with |some r=>dm r.1 b |none=>none) |none=>none
def J3(ds:AS)(_:DH):Prop:=∃(rs:AU)(b:AA),ds=[.tup (rs.map az),.str b]/\(∀r∈rs,r.1.length=b.length)/\b.length<=1000
def J4(ds:AS)(G:DH)(d:D)(G':DH):Prop:=G'=G/\∃(rs:AU)(b:AA),ds=[.tup (rs.map az),.str b]/\d=aW (dD rs b)
def um:RF.Spec:=bN J3 J4
def aeE{rs:AU}{b:AA}{G:DH}{k:AT}{E:EK}(h:∀r∈rs,r.1.length=b.length)(hl:b.length<=1000)(hk:k (aW (dD rs b)) G):um.t [.tup (rs.map az),.str b] G k E:=by refine cH ⟨rs,b,rfl,h,hl⟩ λd G' hx=>?_;obtain ⟨e1,rs2,b2,e2,e3⟩:=hx;simp only[eK,D.str.injEq,D.tup.injEq,and_true]at e2;obtain ⟨e2,rfl⟩:=e2;cases zV e2;subst e1 e3;exact hk
def uo{rs:AU}{b:AA}{n:Nat}(h:b8 rs b=some n):n < rs.length:=(List.findIdx?_eq_some_iff_findIdx_eq.mp h).1
def aeF{f b:AA}{i s c:Nat}(hs:f[i]?=some s)(hc:b[i]?=some c):dm (f.drop i) (b.drop i)=if (c==42&&!(s==42))=true then some 0 else (dm (f.drop (i+1)) (b.drop (i+1))).map (·+1):=by have h1:=ah.mp hs;have h2:=ah.mp hc;rw[bP h1.1,bP h2.1,h1.2,h2.2];unfold dm;rw[List.zip_cons_cons,iO]
def aeG (Z:aj) (h1:Z "first_touching"=nW) (ds:AS) (G:DH) (h:J3 ds G):aA Z mV noE (env0 ds 3) G (ends (J4 ds G)):=by
 obtain ⟨rs,b,rfl,hb,hbl⟩:=h;simp_all_arith[mV];nofun;erw[h1];refine J2 (λr hr=>by rw[hb r hr];exact hbl) (hM _ _ (seq λM hM=>?_));cases ht:b8 rs b with
 |none=>
  erw[aW];exact ⟨rfl,rs,b,rfl,by unfold dD;rw[ht];rfl⟩
 |some n=>
  have hn:=uo ht;have hlen:=hb rs[n] (e8 _);have hsp:dD rs b=dm rs[n].1 b:=by unfold dD;rw[ht];simp[hn]
  erw[aW];symm;simp_arith![ends];refine aU (a:=az rs[n]) (bA (by simp[hn])) ?_;simp_arith![az];generalize rs[n].1=f at hlen hsp;refine ForG.inv (P:=λi Y G'=>(∃o3 o4,Y=[some (.tup (rs.map az)),some (.str b),some (.int (n:Int)),o3,o4])/\G'=G/\dm f b=(dm (f.drop i) (b.drop i)).map (·+i)) ⟨⟨_,_,rfl⟩,rfl,by simp⟩ (λ_ _ _ _=>trivial) ?_ ?_
  .rintro i d Y G' hd ⟨⟨o3,o4,rfl⟩,rfl,hs⟩ kk hk;rw[jn]at hd;obtain ⟨d',hd',rfl⟩:=ay.mp hd;rw[av]at hd';obtain ⟨s,hsi,rfl⟩:=ay.mp hd';have hi:=(ah.mp hsi).1;have hib:i < b.length:=by omega
   have hbi:b[i]?=some b[i]:=by simp[hib]
   rw[aeF hsi hbi]at hs;simp_arith![ends];refine last ?_;erw[ends];refine aU (a:=b[i]) (by rw[Nat.zero_add];exact bA hbi) ?_;erw[eU];cases h42:(b[i]==42) with
   |false=>
    simp only[h42,Bool.false_and,if_neg bn]at hs;erw[ends];refine hk _ _ ⟨⟨_,_,rfl⟩,rfl,?_⟩;rw[hs,Option.map_map];congr 1;funext n;simp;omega
   |true=>
    erw[eU];cases hs42:(s==42) with
    |true=>
     simp only[h42,hs42,Bool.not_true,ij,if_neg bn]at hs;erw[ends];refine hk _ _ ⟨⟨_,_,rfl⟩,rfl,?_⟩;rw[hs,Option.map_map];congr 1;funext n;simp;omega
    |false=>
     simp only[h42,hs42,Bool.not_false,Bool.and_true,if_pos]at hs;erw[ends];exact ⟨rfl,rs,b,rfl,by rw[hsp,hs];simp[aW]⟩
  .rintro Y G' ⟨⟨o3,o4,rfl⟩,rfl,hs⟩;rw[iC,af,dP]at hs;refine hM _ _ ?_;erw[ends];exact ⟨rfl,rs,b,rfl,by rw[hsp,hs];simp[dm,aW]⟩
def j7:AA:=[115,112,108,105,116]
def stc(b:AA):Nat:=b.countP (·==42)
def j8{b:AA}{n c:Nat}(h:b[n]?=some 42)(hc:c≠42):stc (b.set n c)+1=stc b:=by
 obtain ⟨hl,he⟩:=ah.mp h;have e1:b=b.take n++42::b.drop (n+1):=by rw[<-he,<-bP hl,eS]
 have e2:b.set n c=b.take n++c::b.drop (n+1):=by rw[iS,if_pos hl]
 unfold stc;rw[e2];conv=>rhs;rw[e1]
 rw[List.countP_append,List.countP_append,List.countP_cons_of_neg (by simp[hc]),List.countP_cons_of_pos (by simp)];omega
def nY{w n c:Nat}{b:AA}(h:okF w b)(hc:isF c):okF w (b.set n c):=⟨by rw[cK];exact h.1,λd hd=>by
 rcases List.mem_or_eq_of_mem_set hd with h' |h'
 .exact h.2 d h'
 .rw[h'];exact hc⟩
def zW:isF 48:=.inl rfl
def zX:isF 49:=.inr (.inl rfl)
inductive Gr (name:AA) (rss:List (AU)):AA->D->Prop
 |leaf (b:AA) (h:∀rs∈rss,dD rs b=none):Gr name rss b (.tup (.str name::rss.map λrs=>aW (b8 rs b)))
 |node (b:AA) (n:Nat) (z o:D) (h:b[n]?=some 42) (hz:Gr name rss (b.set n 48) z) (ho:Gr name rss (b.set n 49) o):Gr name rss b (.tup [.str j7,.int n,z,o])
def fQ(rss:List (AU)):AS:=rss.map λrs=>.tup (rs.map az)
structure okG(w:Nat)(name:AA)(rss:List (AU)):Prop where
 len:rss.length<=100
 nl:name.length<=100
 form:∀rs∈rss,∀r∈rs,r.1.length=w
 w1000:w<=1000
def J5(n:Nat)(ds:AS)(_:DH):Prop:=∃(w:Nat)(name:AA)(rss:List (AU))(b:AA),ds=[.str name,.lst (fQ rss),.str b]/\okG w name rss/\b.length=w/\stc b < n
def J6(ds:AS)(G:DH)(d:D)(G':DH):Prop:=G'=G/\∃(name:AA)(rss:List (AU))(b:AA),ds=[.str name,.lst (fQ rss),.str b]/\Gr name rss b d
def gr(n:Nat):RF.Spec:=bN (J5 n) J6
def aeH{a b:List (AU)}(h:fQ a=fQ b):a=b:=by
 unfold fQ at h;induction a generalizing b with
 |nil=>cases b with
  |nil=>rfl
  |cons _ _=>simp at h
 |cons x a ih=>cases b with
  |nil=>simp at h
  |cons y b=>
   simp only[cS,eK,D.tup.injEq]at h;rw[zV h.1,ih h.2]
def zY{n w:Nat}{name:AA}{rss:List (AU)}{b:AA}{G:DH}{k:AT}{E:EK}(h:okG w name rss)(hb:b.length=w)(hs:stc b < n)(hk:∀d,Gr name rss b d->k d G):(gr n).t [.str name,.lst (fQ rss),.str b] G k E:=by refine cH ⟨w,name,rss,b,rfl,h,hb,hs⟩ λd G' hx=>?_;obtain ⟨e1,name2,rss2,b2,e2,e3⟩:=hx;simp only[eK,D.str.injEq,D.lst.injEq,and_true]at e2;obtain ⟨rfl,e2,rfl⟩:=e2;cases aeH e2;subst e1;exact hk d e3
def aeI{f b:AA}{n:Nat}(h:dm f b=some n):b[n]?=some 42:=by unfold dm at h;have h2:=gd.mp h;obtain ⟨hl,hp,_⟩:=h2;rw[g0]at hl;rw[List.getElem_zip]at hp;simp only[ae,bm]at hp;rw[aS (!0),hp.1]
def aeJ{rs:AU}{b:AA}{n:Nat}(h:dD rs b=some n):b[n]?=some 42:=by
 unfold dD at h;split at h
 .split at h
  .exact aeI h
  .cases h
 .cases h
def nZ{b:AA}{n c:Nat}{G:DH}{k:AT}{E:EK}(h:n < b.length)(hl:b.length<=1000)(hk:k (.str (b.set n c)) G):(aM g8).t [.str b,.int n,.str [c]] G k E:=
 dB (by
  unfold g8;dsimp only;rw[if_pos (by simp only[ae,cf];omega),eJ]) hk
def aeK (Z:aj) (n:Nat) (h0:Z "grown"=gr n) (h1:Z "first_touching"=nW) (h2:Z "splitting_place"=um) (h3:Z "with_sign"=aM g8) (ds:AS) (G:DH) (h:J5 (n+1) ds G):aA Z jZ noE (env0 ds 4) G (ends (J6 ds G)):=by
 obtain ⟨w,name,rss,b,rfl,hg,hb,hs⟩:=h;have hw:=hg.w1000;simp_all_arith[jZ];nofun;simp_arith![ends];refine ForG.inv (P:=λi Y G'=>(∃o3 o4 o5 o6,Y=[some (.str name),some (.lst (fQ rss)),some (.str b),o3,o4,o5,o6])/\G'=G/\∀rs∈rss.take i,dD rs b=none) ⟨⟨_,_,_,_,rfl⟩,rfl,by simp⟩ (λ_ _ _ _=>trivial) ?_ ?_
 .rintro i d Y G' hd ⟨⟨o3,o4,o5,o6,rfl⟩,rfl,hall⟩ kk hk;unfold fQ at hd;rw[av]at hd;obtain ⟨rs,hrs,rfl⟩:=ay.mp hd;simp_arith![ends];nofun;erw[h2];refine aeE (λr hr=>by rw[hg.form rs (bb hrs) r hr,hb]) (!0) (hM _ _ (last ?_));cases hsp:dD rs b with
  |none=>
   erw[aW];refine hk _ _ ⟨⟨_,_,_,_,rfl⟩,rfl,λrs' hrs'=>?_⟩;rw[da,hrs]at hrs';rcases bv.mp hrs' with h |h
   .exact hall rs' h
   .have:rs'=rs:=by simpa using h
    rw[this];exact hsp
  |some at'=>
   have hst:=aeJ hsp;have hat:=(ah.mp hst).1;simp_arith![aW];nofun;erw[h0,h3];refine nZ hat (!0) (zY hg (by rw[cK];exact hb) (by have:=j8 hst (show 48≠42 by decide);omega) λz hz=>hM _ _ (seq λM hM=>?_));erw[h0,h3];refine nZ hat (!0) (zY hg (by rw[cK];exact hb) (by have:=j8 hst (show 49≠42 by decide);omega) λo ho=>hM _ _ (last ?_));erw[ends];exact ⟨!1,rfl,name,rss,b,rfl,.node b at' z o hst hz ho⟩
 .rintro Y G' ⟨⟨o3,o4,o5,o6,rfl⟩,rfl,hall⟩;have hlen:(fQ rss).length=rss.length:=af _;rw[hlen,ee]at hall;have hrl:=hg.len;refine hM _ _ ?_;erw[h1];refine ⟨!1,CompG.inv (P:=λi acc Y G''=>(∃o,Y=[o,some (.str b)])/\G''=G'/\acc=(rss.take i).map λrs=>aW (b8 rs b)) ⟨⟨_,rfl⟩,rfl,rfl⟩ (λ_ _ _ _ _=>trivial) (by rw[hlen];bv_omega) ?_ ?_⟩
  .rintro i d acc Y G'' hd ⟨⟨o,rfl⟩,rfl,rfl⟩ kk hk;unfold fQ at hd;rw[av]at hd;obtain ⟨rs,hrs,rfl⟩:=ay.mp hd;erw[h1];refine J2 (λr hr=>by rw[hg.form rs (bb hrs) r hr];omega) (hk _ _ _ ⟨⟨_,rfl⟩,rfl,?_⟩);rw[da,hrs];simp
  .rintro acc Y G'' ⟨_,rfl,rfl⟩;rw[hlen,ee];erw[af];exact ⟨by bv_omega,rfl,name,rss,b,rfl,.leaf b hall⟩
def aeL(ds:AS)(G:DH)(a:(gr 0).A):¬(gr 0).pre ds G a:=λ⟨_,_,_,_,_,_,_,_,h⟩=>by omega
def aeM(w:Nat):stc (List.replicate w 42)<=w:=by have:=List.countP_le_length (p:=(·==42)) (l:=List.replicate w 42);rw[de]at this;exact this
def J7:∀{f b w:AA},bV f b=none->(∀s∈w,s=48\/s=49)->Fits b w->b7 f w=true->False
 |[],b,w,h,_,_,_=>by cases b <;> cases h
 |a::f,[],w,h,_,_,_=>by cases h
 |a::f,c::b,[],h,_,hf,_=>by have:=hf.1;simp at this
 |a::f,c::b,s::w,h,hw,hf,hz=>by
  rw[b7,ae]at hz;have hs:=hf.2 0 c s rfl rfl;have hf':Fits b w:=⟨by have:=hf.1;simpa using this,λi c' s' h1 h2=>hf.2 (i+1) c' s' (!!h1) (!!h2)⟩;unfold bV at h;cases h1:cO a c with
  |some x=>
   rw[h1]at h;simp only[Option.map_eq_none_iff]at h;exact J7 h (λs hs=>hw s (bp _ hs)) hf' hz.2
  |none=>
   unfold cO at h1;split at h1
   .cases h1
   .split at h1
    .cases h1
    .rename_i ha hc;have h2:=(JT (hw s aI)).mp hz.1;unfold alt at hs h2;rw[if_neg ha]at h2;have es:s=a:=by simpa using h2
     split at hs
     .rename_i e;exact hc (.inl e)
     .have:s=c:=by simpa using hs
      exact hc (.inr (!0))
def J8:∀{f b w:AA},f.length=b.length->(bV f b).isSome=true->dm f b=none->(∀s∈w,s=48\/s=49)->Fits b w->b7 f w=true
 |[],b,w,_,_,_,_,_=>rfl
 |a::f,[],w,h,_,_,_,_=>by simp at h
 |a::f,c::b,[],_,_,_,_,hf=>rfl
 |a::f,c::b,s::w,hl,hb,hs,hw,hf=>by
  have hs0:=hf.2 0 c s rfl rfl;have hf':Fits b w:=⟨by have:=hf.1;simpa using this,λi c' s' h1 h2=>hf.2 (i+1) c' s' (!!h1) (!!h2)⟩;unfold dm at hs;rw[List.zip_cons_cons,iO]at hs;split at hs
  .cases hs
  .rename_i hne;have hs':dm f b=none:=by unfold dm;simpa using hs
   unfold bV at hb;cases h1:cO a c with
   |none=>rw[h1]at hb;cases hb
   |some x=>
    rw[h1]at hb;have hb':(bV f b).isSome=true:=by simpa using hb
    rw[b7,ae];refine ⟨?_,J8 (!!hl) hb' hs' (λs hs=>hw s (bp _ hs)) hf'⟩;rw[JT (hw s aI)];by_cases ha:a=42
    .unfold alt;rw[if_pos ha];rcases hw s aI with e |e <;> simp[e]
    .have hc:c≠42:=by
      rintro rfl;exact hne (by simp[ha])
     unfold alt at hs0 ⊢;rw[if_neg hc]at hs0;rw[if_neg ha];unfold cO at h1;rw[if_neg ha]at h1;split at h1
     .rename_i h2;rcases h2 with h2 |h2
      .exact absurd h2 hc
      .rw[<-h2];exact hs0
     .cases h1
def aeN{rs:AU}{b l:AA}(hf:∀r∈rs,r.1.length=b.length)(hs:dD rs b=none)(hl:∀s∈l,s=48\/s=49)(hb:Fits b l):bC rs l=b8 rs b:=by
 have no:∀r∈rs,(bV r.1 b).isSome=false->bL r.1 l=false:=by
  intro r hr h;cases e:bL r.1 l with
  |false=>rfl
  |true=>
   unfold bL at e;rw[ae]at e;exact (J7 (!!h) hl hb e.2).elim
 cases ht:b8 rs b with
 |none=>
  unfold b8 at ht;unfold bC;rw[List.findIdx?_eq_none_iff]at ht ⊢;exact λr hr=>no r hr (by simpa using ht r hr)
 |some n=>
  have hn:=uo ht;have ht':=gd.mp ht;obtain ⟨_,t1,t2⟩:=ht';unfold bC;rw[gd];refine ⟨hn,?_,λj hj=>?_⟩
  .have hsf:dm rs[n].1 b=none:=by
    unfold dD at hs;rw[ht]at hs;simpa [hn] using hs
   have hlen:=hf rs[n] (e8 _);unfold bL;rw[ae];exact ⟨ck (by rw[hlen,hb.1]),J8 hlen t1 hsf hl hb⟩
  .have:=no rs[j] (e8 _) (by simpa using t2 j hj);simp[this]
def aeO{f w:AA}{i a b:Nat}(h:(f.zip w)[i]?=some (a,b)):b7 (f.drop i) (w.drop i)=(dW a b&&b7 (f.drop (i+1)) (w.drop (i+1))):=by
 have hz:=ah.mp h;obtain ⟨hl,he⟩:=hz;rw[g0]at hl;have h1:i < f.length:=by omega
 have h2:i < w.length:=by omega
 rw[List.getElem_zip]at he;rw[bP h1,bP h2];simp only[Prod.mk.injEq]at he;rw[he.1,he.2];rfl
def aeP{f w:AA}:b7 (f.drop (f.zip w).length) (w.drop (f.zip w).length)=true:=by
 rw[g0];by_cases h:f.length<=w.length
 .rw[Nat.min_eq_left h,dP];rfl
 .rw[Nat.min_eq_right (!0),dP];cases f.drop w.length <;> rfl
def n6:AS->Option D
 |[.str f,.str w]=>some (.bl (b7 f w))
 |_=>none
def aeQ(Z:aj)(ds:AS)(G:DH)(d:D)(h:n6 ds=some d):aA Z yX noE (env0 ds 2) G (ends λd' G'=>G'=G/\d'=d):=by
 unfold n6 at h;split at h
 .rename_i f w;cases h;simp_all_arith[yX];nofun;simp_arith![nT];refine ForG.inv (P:=λi Y G'=>(∃o2 o3,Y=[some (.str f),some (.str w),o2,o3])/\G'=G/\b7 f w=b7 (f.drop i) (w.drop i)) ⟨⟨_,_,rfl⟩,rfl,by simp⟩ (λ_ _ _ _=>trivial) ?_ ?_
  .rintro i d Y G' hd ⟨⟨o2,o3,rfl⟩,rfl,hb⟩ kk hk;rw[av]at hd;obtain ⟨⟨a,b⟩,hab,rfl⟩:=ay.mp hd;rw[aeO hab]at hb;unfold dW at hb;simp_arith![ends];refine last ?_;erw[eU];cases h42:(a==42) with
   |true=>
    erw[ends];exact hk _ _ ⟨⟨_,_,rfl⟩,rfl,by rw[hb,h42];rfl⟩
   |false=>
    erw[eU];cases hs:(a==b) with
    |true=>
     erw[ends];exact hk _ _ ⟨⟨_,_,rfl⟩,rfl,by rw[hb,hs];simp⟩
    |false=>
     erw[ends];rw[hb,h42,hs];simp
  .rintro Y G' ⟨⟨o2,o3,rfl⟩,rfl,hb⟩;rw[af,aeP]at hb;refine hM _ _ ?_;erw[hb]
 .cases h
def J9{f l:AA}(h:f.length=l.length):bL f l=b7 f l:=by unfold bL;rw[ck h];rfl
def uq:RF.Spec:=bJ (A:=Nat×AU×AA) (λa=>[ao a.1 a.2.1,.str a.2.2]) (λa=>∀r∈a.2.1,r.1.length=a.2.2.length) (λa=>aW (bC a.2.1 a.2.2))
def aeR{w:Nat}{rs:AU}{l:AA}{G:DH}{k:AT}{E:EK}(h:∀r∈rs,r.1.length=l.length)(hk:k (aW (bC rs l)) G):uq.t [ao w rs,.str l] G k E:=bT (w,rs,l) rfl h hk
def aeS (Z:aj) (h1:Z "_law_fits"=aM n6) (a:Nat×AU×AA) (G:DH) (h:∀r∈a.2.1,r.1.length=a.2.2.length):
  aA Z yZ noE (env0 [ao a.1 a.2.1,.str a.2.2] 2) G (ends λd G'=>G'=G/\d=aW (bC a.2.1 a.2.2)):=by
 obtain ⟨w,rs,l⟩:=a;dsimp only at h ⊢;simp_all_arith[yZ];nofun;simp_arith![ao];refine ForG.inv (P:=λi Y G'=>(∃o2 o3,Y=[some (.tup [.int w,.tup (rs.map az)]),some (.str l),o2,o3])/\G'=G/\bC rs l=(bC (rs.drop i) l).map (·+i)) ⟨⟨_,_,rfl⟩,rfl,by simp⟩ (λ_ _ _ _=>trivial) ?_ ?_
 .rintro i d Y G' hd ⟨⟨o2,o3,rfl⟩,rfl,hmet⟩ kk hk;rw[jn]at hd;obtain ⟨d',hd',rfl⟩:=ay.mp hd;rw[av]at hd';obtain ⟨r,hr,rfl⟩:=ay.mp hd';rw[aeo hr,J9 (h r (bb hr))]at hmet;simp_arith![ends];refine last ?_;erw[h1,az];refine dB (d:=.bl (b7 r.1 l)) rfl ?_;erw[ends];cases hf:b7 r.1 l with
  |true=>
   rw[hf,if_pos rfl]at hmet;rw[hmet];simp[aW]
  |false=>
   rw[hf,if_neg bn]at hmet;refine hk _ _ ⟨⟨_,_,rfl⟩,rfl,?_⟩;rw[hmet,Option.map_map];congr 1;funext n;simp;omega
 .rintro Y G' ⟨⟨o2,o3,rfl⟩,rfl,hmet⟩;rw[iC,af,dP]at hmet;refine hM _ _ ?_;erw[ends];rw[hmet];rfl
def ur(name:AA)(rss:List (AU))(b:AA):D:=.tup (.str name::rss.map λrs=>aW (b8 rs b))
def n8(name:AA)(rss:List (AU))(b:AA):D:=.tup [.str b,ur name rss b]
inductive Lv (name:AA) (rss:List (AU)):AA->D->List (AA)->Prop
 |leaf (b:AA) (h:∀rs∈rss,dD rs b=none):Lv name rss b (ur name rss b) [b]
 |node (b:AA) (n:Nat) (z o:D) (l m:List (AA)) (h:b[n]?=some 42) (hz:Lv name rss (b.set n 48) z l) (ho:Lv name rss (b.set n 49) o m):Lv name rss b (.tup [.str j7,.int n,z,o]) (l++m)
def Gr.lv{name:AA}{rss:List (AU)}{b:AA}{d:D}(h:Gr name rss b d):∃bs,Lv name rss b d bs:=by
 induction h with
 |leaf b h=>exact ⟨_,.leaf b h⟩
 |node b n z o h _ _ hz ho=>
  obtain ⟨l,hl⟩:=hz;obtain ⟨m,hm⟩:=ho;exact ⟨_,.node b n z o l m h hl hm⟩
def Lv.len{name:AA}{rss:List (AU)}{b:AA}{d:D}{bs:List (AA)}(h:Lv name rss b d bs):bs.length<=2 ^ stc b:=by
 induction h with
 |leaf b h=>exact Nat.one_le_two_pow
 |node b n z o l m h _ _ hz ho=>
  have e1:=j8 h (show 48≠42 by decide);have e2:=j8 h (show 49≠42 by decide);rw[<-e1,Nat.pow_succ,ax];have e3:stc (b.set n 49)=stc (b.set n 48):=by omega
  rw[e3]at ho;omega
def Lv.len'{name:AA}{rss:List (AU)}{b:AA}{d:D}{bs:List (AA)}(h:Lv name rss b d bs)(hb:b.length<=12):bs.length<=4096:=by
 have h1:=h.len;have h2:stc b<=12:=bS (List.countP_le_length) hb;have h3:=gs (show 0 < 2 by decide) h2;have h4:2 ^ 12=4096:=by decide
 omega
def Lv.box{name:AA}{rss:List (AU)}{b:AA}{d:D}{bs:List (AA)}(h:Lv name rss b d bs):∀c∈bs,c.length=b.length/\∀rs∈rss,dD rs c=none:=by
 induction h with
 |leaf b h=>intro c hc;rw[aE.mp hc];exact ⟨rfl,h⟩
 |node b n z o l m h _ _ hz ho=>
  intro c hc;rcases bv.mp hc with hc |hc
  .have:=hz c hc;rw[cK]at this;exact this
  .have:=ho c hc;rw[cK]at this;exact this
def Lv.okf{w:Nat}{name:AA}{rss:List (AU)}{b:AA}{d:D}{bs:List (AA)}(h:Lv name rss b d bs):okF w b->∀c∈bs,okF w c:=by
 induction h with
 |leaf b h=>intro hb c hc;rw[aE.mp hc];exact hb
 |node b n z o l m h _ _ hz ho=>
  intro hb c hc;rcases bv.mp hc with hc |hc
  .exact hz (nY hb zW) c hc
  .exact ho (nY hb zX) c hc
def aeT{w:Nat}{f l:AA}(h:okF w f)(hf:Fits f l):∀s∈l,s=48\/s=49:=by
 intro s hs;obtain ⟨i,hi,rfl⟩:=List.getElem_of_mem hs;have hif:i < f.length:=by rw[hf.1];exact hi
 have:=hf.2 i f[i] l[i] (by simp[hif]) (by simp[hi]);rcases h.2 f[i] (e8 _) with e |e |e <;> rw[e]at this <;> simp[alt]at this <;> omega
def isPlace(m:Int):D->Bool
 |.int i=>decide (0<=i)&&decide (i < m)
 |_=>false
def iK:AS->Option D
 |[.int m,x]=>if nr x then some (.bl (isPlace m x)) else none
 |_=>none
def aeU (Z:aj) (h1:Z "is_whole"=aM jq) (ds:AS) (G:DH) (d:D) (h:iK ds=some d):aA Z my noE (env0 ds 0) G (ends λd' G'=>G'=G/\d'=d):=by
 unfold iK at h;split at h
 .rename_i m x;split at h
  .rename_i hx;cases h;have hf:jq [x]=some (.bl (whole x)):=if_pos hx;erw[my,h1];refine dB hf ?_;cases x <;> first | (simp[nr]at hx;done) | (erw[whole,isPlace];first | (simp;done) |skip)
   rename_i i;cases hi:decide (0<=i) with
   |true=>simp
   |false=>simp
  .cases h
 .cases h
def aeV{m i:Nat}{G:DH}{k:AT}{E:EK}(h:i < m)(hk:k (.bl true) G):(aM iK).t [.int m,.int i] G k E:=
 dB (by unfold iK;simp only[nr,if_true,isPlace];rw[ck (!0),ck (!0)];rfl) hk
def ie:AS->Option D
 |[.str name,.int many,.tup (.str s::r)]=>some (.bl ((((r.length+1:Nat):Int)==many+1)&&(s==name)))
 |_=>none
def aeW(Z:aj)(ds:AS)(G:DH)(d:D)(h:ie ds=some d):aA Z mW noE (env0 ds 0) G (ends λd' G'=>G'=G/\d'=d):=by
 unfold ie at h;split at h
 .rename_i name many s r;cases h;erw[mW];cases he:(((r.length+1:Nat):Int)==many+1) with
  |false=>erw[Bool.false_and]
  |true=>erw[Bool.true_and]
 .cases h
def aeX{name s:AA}{m:Int}{r:AS}{G:DH}{k:AT}{E:EK}(h:s≠name)(hk:k (.bl false) G):(aM ie).t [.str name,.int m,.tup (.str s::r)] G k E:=
 dB (by unfold ie;dsimp only;rw[eh.mpr h,ij]) hk
def aeY{name:AA}{m:Int}{r:AS}{G:DH}{k:AT}{E:EK}(h:(r.length:Int)=m)(hk:k (.bl true) G):(aM ie).t [.str name,.int m,.tup (.str name::r)] G k E:=
 dB (by unfold ie;dsimp only;rw[BEq.rfl,Bool.and_true,bm.mpr (!0)]) hk
def aeZ{f:AA}{i c:Nat}(h:f[i]?=some c):stc (f.take (i+1))=stc (f.take i)+(if (c==42)=true then 1 else 0):=by unfold stc;rw[da,h,List.countP_append];cases hc:(c==42) <;> simp[hc]
def oI:Option Int->D
 |some i=>.int i
 |none=>.non
inductive T where
 |lf (r:List (Option Int))
 |sp (i:Int) (z o:T)
def T.d(name:AA):T->D
 |.lf r=>.tup (.str name::r.map oI)
 |.sp i z o=>.tup [.str j7,.int i,z.d name,o.d name]
def T.dep:T->Nat
 |.lf _=>0
 |.sp _ z o=>max z.dep o.dep+1
def jw(b:AA)(i:Int):Bool:=decide (0<=i)&&b[i.toNat]?==some 42
def T.lvs:T->AA->Option (List (AA×List (Option Int)))
 |.lf r,b=>some [(b,r)]
 |.sp i z o,b=>match jw b i with
  |true=>(match z.lvs (b.set i.toNat 48),o.lvs (b.set i.toNat 49) with |some l,some m=>some (l++m) |_,_=>none)
  |false=>none
def oh(name:AA)(x:AA×List (Option Int)):D:=.tup [.str x.1,.tup (.str name::x.2.map oI)]
def fU(name:AA):Option (List (AA×List (Option Int)))->D
 |none=>.non
 |some l=>.lst (l.map (oh name))
def T.lvs_len:∀(t:T){b:AA}{l:List (AA×List (Option Int))},t.lvs b=some l->l.length<=2 ^ t.dep
 |.lf r,b,l,h=>by cases h;exact Nat.one_le_two_pow
 |.sp i z o,b,l,h=>by
  rw[T.lvs]at h;split at h
  .split at h
   .rename_i l1 l2 h1 h2;cases h;have e1:=z.lvs_len h1;have e2:=o.lvs_len h2;have e3:=gs (show 0 < 2 by decide) (Nat.le_max_left z.dep o.dep);have e4:=gs (show 0 < 2 by decide) (Nat.le_max_right z.dep o.dep);rw[ax,T.dep,Nat.pow_succ];omega
   .cases h
  .cases h
def T.lvs_len'{n:Nat}{t:T}{b:AA}{l:List (AA×List (Option Int))}(h:t.lvs b=some l)(hn:t.dep < n)(hn':n<=12):l.length<=4096:=by
 have h1:=t.lvs_len h;have h3:=gs (show 0 < 2 by decide) (show t.dep<=12 by omega);have h4:2 ^ 12=4096:=by decide
 omega
structure TA where
 name:AA
 b:AA
 t:T
def Ka(n:Nat)(a:TA):Prop:=a.name≠j7/\a.b.length<=12/\a.t.dep < n/\n<=12
def fV(n:Nat):RF.Spec:=bJ (λa:TA=>[.str a.b,a.t.d a.name]) (Ka n) (λa=>fU a.name (a.t.lvs a.b))
def zZ{n:Nat}{name b:AA}{t:T}{G:DH}{k:AT}{E:EK}(h1:name≠j7)(h2:b.length<=12)(h3:t.dep < n)(h4:n<=12)(hk:k (fU name (t.lvs b)) G):(fV n).t [.str b,t.d name] G k E:=bT ⟨name,b,t⟩ rfl ⟨h1,h2,h3,h4⟩ hk
def ae0(ds:AS)(G:DH)(a:(fV 0).A):¬(fV 0).pre ds G a:=λ⟨_,_,_,_,h,_⟩=>by omega
def ae1{b:AA}{i:Int}(h:jw b i=true):0<=i/\∃n:Nat,i=n/\n < b.length/\b[n]?=some 42:=by
 unfold jw at h;rw[ae]at h;have h1:=fx h.1;have h2:b[i.toNat]?=some 42:=by simpa using h.2
 exact ⟨h1,i.toNat,!0,(ah.mp h2).1,h2⟩
def ae2 (Z:aj) (n:Nat) (h0:Z "leaves"=fV n) (h1:Z "is_named"=aM ie) (h2:Z "is_place"=aM iK) (h3:Z "with_sign"=aM g8) (a:TA) (G:DH) (h:Ka (n+1) a):aA Z jo noE (env0 [.str a.b,a.t.d a.name] 3) G (ends λd G'=>G'=G/\d=fU a.name (a.t.lvs a.b)):=by
 obtain ⟨name,b,t⟩:=a;obtain ⟨hne,hbl,hd,hn⟩:=h;dsimp only at hne hbl hd ⊢;cases t with
 |lf r=>
  simp_all_arith[jo];nofun;erw[h1,T.d];refine aeX hne ?_;erw[T.lvs,fU,oh];exact ⟨!1,!1⟩
 |sp i z o=>
  rw[T.dep]at hd;simp_all_arith[jo];nofun;erw[h1,T.d];refine aeY rfl ?_;erw[ends];symm;erw[ends];symm;erw[h2];refine dB (d:=.bl (isPlace b.length (.int i))) rfl ?_;cases hst:jw b i with
  |false=>
   rw[T.lvs,hst];cases hp:isPlace b.length (.int i) with
   |false=>erw[fU]
   |true=>
    unfold isPlace at hp;rw[ae]at hp;have p1:=fx hp.1;have p2:=fx hp.2;obtain ⟨m,rfl⟩:∃m:Nat,i=m:=⟨i.toNat,!0⟩;have hm:m < b.length:=by omega
    have hc:b[m]?=some b[m]:=aS hm;have hne42:((b[m]==42):Bool)=false:=by unfold jw at hst;rw[ck (!0),Bool.true_and,eJ,hc]at hst;simpa using hst
    erw[ends];refine aU (a:=b[m]) (bA hc) ?_;erw[eU,hne42,fU]
  |true=>
   obtain ⟨_,m,rfl,hm,hc⟩:=ae1 hst;have hp:isPlace b.length (.int (m:Int))=true:=by show (decide (0<=(m:Int))&&decide ((m:Int) < b.length))=true;rw[ck (!0),ck (!0)];rfl
   have hl:(T.sp (m:Int) z o).lvs b=match z.lvs (b.set m 48),o.lvs (b.set m 49) with |some l,some m=>some (l++m) |_,_=>none:=by rw[T.lvs,hst,eJ]
   rw[hp];erw[ends];refine aU (a:=42) (bA hc) ?_;erw[BEq.rfl];symm;erw[h0,h3];refine nZ hm (!0) (zZ hne (by rw[cK];exact hbl) (!0) (!0) (hM _ _ (seq λM hM=>?_)));erw[h0,h3];refine nZ hm (!0) (zZ hne (by rw[cK];exact hbl) (!0) (!0) (hM _ _ (seq λM hM=>?_)));cases e1:z.lvs (b.set m 48) with
   |none=>
    rw[e1]at hl;erw[hl,fU]
   |some l1=>
    cases e2:o.lvs (b.set m 49) with
    |none=>
     rw[e1,e2]at hl;erw[hl,fU]
    |some l2=>
     rw[e1,e2]at hl;have q1:=T.lvs_len' e1 (n:=n) (!0) (!0);have q2:=T.lvs_len' e2 (n:=n) (!0) (!0);erw[fU];ac_nf0;erw[af,cb,hl,fU];bv_omega
def ae3(o:Option Nat):aW o=oI (o.map λn=>(n:Int)):=by cases o <;> rfl
def j9(rss:List (AU))(c:AA):List (Option Int):=rss.map λrs=>(b8 rs c).map λn=>(n:Int)
def Kc{rss:List (AU)}{c:AA}:(j9 rss c).map oI=rss.map λrs=>aW (b8 rs c):=by unfold j9;rw[eL];exact gy λrs _=>(ae3 _).symm
def Lv.tree{name:AA}{rss:List (AU)}{b:AA}{d:D}{bs:List (AA)}(h:Lv name rss b d bs):∃t:T,d=t.d name/\t.dep<=stc b/\t.lvs b=some (bs.map λc=>(c,j9 rss c)):=by
 induction h with
 |leaf b h=>exact ⟨.lf (j9 rss b),by rw[T.d,Kc];rfl,eP _,rfl⟩
 |node b n z o l m h _ _ hz ho=>
  obtain ⟨tz,rfl,d1,e1⟩:=hz;obtain ⟨tO,rfl,d2,e2⟩:=ho;have s1:=j8 h (show 48≠42 by decide);have s2:=j8 h (show 49≠42 by decide);refine ⟨.sp n tz tO,rfl,?_,?_⟩
  .rw[T.dep];have:=Nat.max_le.mpr ⟨show tz.dep<=stc (b.set n 48) from d1,show tO.dep<=stc (b.set n 48) by omega⟩;omega
  .have hs:jw b (n:Int)=true:=by unfold jw;rw[ck (!0),eJ,h];rfl
   rw[T.lvs,hs,eJ,e1,e2];simp
def ae4{name:AA}{rss:List (AU)}{c:AA}:oh name (c,j9 rss c)=n8 name rss c:=by unfold oh n8 ur;rw[Kc]
def ae5{n:Nat}{name:AA}{rss:List (AU)}{b:AA}{d:D}{bs:List (AA)}{G:DH}{k:AT}{E:EK}(h:Lv name rss b d bs)(h1:name≠j7)(h2:b.length<=12)(h3:stc b < n)(hk:k (.lst (bs.map (n8 name rss))) G)(h4:n<=12:=by decide):(fV n).t [.str b,d] G k E:=by
 obtain ⟨t,rfl,e1,e2⟩:=h.tree;refine zZ h1 h2 (!0) h4 ?_;rw[e2,fU,eL];have:(oh name∘λc=>(c,j9 rss c))=n8 name rss:=by funext c;exact ae4
 rw[this];exact hk
def Kd{c s:Nat}:dW c s=true↔c=42\/c=s:=by unfold dW;simp
def opp(b:Nat):Nat:=if b=48 then 49 else 48
def ae6{f g:AA}(h:bL f g=true):b7 f g=true:=by unfold bL at h;rw[ae]at h;exact h.2
def kh:AS->Option D
 |[.str f,.str g]=>if decide (g.length<=100000) then some (.bl (bL g f)) else none
 |_=>none
def ae7 (Z:aj) (h1:Z "fits"=aM nR) (ds:AS) (G:DH) (d:D) (h:kh ds=some d):aA Z lY noE (env0 ds 0) G (ends λd' G'=>G'=G/\d'=d):=by
 unfold kh at h;split at h
 .rename_i f g;split at h
  .rename_i hl;cases h;erw[lY,h1];exact dB (d:=.bl (bL g f)) (if_pos hl) ⟨rfl,rfl⟩
  .cases h
 .cases h
def Ke{f g:AA}{G:DH}{k:AT}{E:EK}(h:g.length<=1000)(hk:k (.bl (bL g f)) G):(aM kh).t [.str f,.str g] G k E:=dB (if_pos (ck (!0))) hk
def bO:AA->List (AA)
 |[]=>[[]]
 |c::f=>(alt c).flatMap λs=>(bO f).map (s::·)
def Kf:∀(f:AA)(acc:List (AA)),f.foldl step1 acc=acc.flatMap λt=>(bO f).map (t ++ ·)
 |[],acc=>by simp[bO]
 |c::f,acc=>by
  rw[List.foldl_cons,Kf f,step1,List.flatMap_assoc];congr 1;funext t;rw[bO,List.flatMap_map,List.map_flatMap];congr 1;funext s;rw[eL];congr 1;funext x;simp
def iM(f:AA):aH f=bO f:=by unfold aH;rw[Kf];simp
def z6:∀(b:AA),(bO b).length=2 ^ stc b
 |[]=>rfl
 |c::b=>by
  have ih:=z6 b;rw[bO];unfold alt stc;unfold stc at ih;split
  .rename_i h;subst h;simp[ih,Nat.pow_succ];omega
  .rename_i h;simp[ih,h]
def ae8{w:Nat}{G:DH}{k:AT}{E:EK}(h:w<=1000)(hk:k (.str (List.replicate w 42)) G):(aM ju).t [.int w] G k E:=
 dB (d:=.str (List.replicate w 42)) (by unfold ju;dsimp only;rw[if_pos (by simp only[ae,cf];omega),eJ]) hk
def cU(l:AA):AA:=l.map λa=>if a=42 then 48 else a
def kj:AS->Option D
 |[.str l]=>if decide (l.length<=1000) then some (.str (cU l)) else none
 |_=>none
def ae9{l:AA}{G:DH}{k:AT}{E:EK}(h:l.length<=1000)(hk:k (.str (cU l)) G):(aM kj).t [.str l] G k E:=dB (if_pos (ck h)) hk
def afa{b l:AA}{n:Nat}(h:Fits b l)(hn:b[n]?=some 42):Fits (b.set n 48) l\/Fits (b.set n 49) l:=by
 obtain ⟨hl,he⟩:=ah.mp hn;have hnl:n < l.length:=by rw[<-h.1];exact hl
 have hs:=h.2 n 42 l[n] hn (aS hnl);have put:∀c,l[n]=c->c≠42->Fits (b.set n c) l:=by
  intro c hc hc42;refine ⟨by rw[cK];exact h.1,λi x y hx hy=>?_⟩;rw[List.getElem?_set]at hx;by_cases hi:n=i
  .subst hi;rw[if_pos rfl,if_pos hl]at hx;rw[aS hnl]at hy;cases hx;cases hy;unfold alt;rw[if_neg hc42,hc];simp
  .rw[if_neg hi]at hx;exact h.2 i x y hx hy
 unfold alt at hs;rw[if_pos rfl]at hs;have:l[n]=48\/l[n]=49:=by simpa using hs
 rcases this with e |e
 .exact .inl (put 48 e (!1))
 .exact .inr (put 49 e (!1))
def Kg{b l:AA}{n c:Nat}(h:Fits (b.set n c) l)(hn:b[n]?=some 42)(hc:c=48\/c=49):Fits b l:=by
 have hl:=(ah.mp hn).1;refine ⟨by have:=h.1;rwa [cK]at this,λi x y hx hy=>?_⟩;by_cases hi:n=i
 .subst hi;rw[hn]at hx;cases hx;have:=h.2 n c y (by rw[List.getElem?_set,if_pos rfl,if_pos hl]) hy;unfold alt at this ⊢;rw[if_neg (!0)]at this;rw[if_pos rfl];have e:y=c:=by simpa using this
  rw[e];simpa using hc
 .exact h.2 i x y (by rw[List.getElem?_set,if_neg hi];exact hx) hy
def Lv.cover{name:AA}{rss:List (AU)}{b:AA}{d:D}{bs:List (AA)}(h:Lv name rss b d bs):∀l,Fits b l->∃c∈bs,Fits c l:=by
 induction h with
 |leaf b h=>exact λl hl=>⟨b,by simp,hl⟩
 |node b n z o l m h _ _ hz ho=>
  intro w hw;rcases afa hw h with e |e
  .obtain ⟨c,hc,hf⟩:=hz w e;exact ⟨c,bv.mpr (.inl hc),hf⟩
  .obtain ⟨c,hc,hf⟩:=ho w e;exact ⟨c,bv.mpr (.inr hc),hf⟩
def Lv.within{name:AA}{rss:List (AU)}{b:AA}{d:D}{bs:List (AA)}(h:Lv name rss b d bs):∀c∈bs,∀l,Fits c l->Fits b l:=by
 induction h with
 |leaf b h=>intro c hc l hl;rw[aE.mp hc]at hl;exact hl
 |node b n z o l m h _ _ hz ho=>
  intro c hc w hw;rcases bv.mp hc with hc |hc
  .exact Kg (hz c hc w hw) h (.inl rfl)
  .exact Kg (ho c hc w hw) h (.inr rfl)
def afb{a s:Nat}{f l:AA}(h:Fits (a::f) (s::l)):s∈alt a/\Fits f l:=
 ⟨h.2 0 a s rfl rfl,by have:=h.1;simpa using this,λi c t h1 h2=>h.2 (i+1) c t (!!h1) (!!h2)⟩
def afc{a s:Nat}{f l:AA}(h1:s∈alt a)(h2:Fits f l):Fits (a::f) (s::l):=⟨by simp[h2.1],λi c t hc ht=>by
 cases i with
 |zero=>simp at hc ht;rw[<-hc,<-ht];exact h1
 |succ i=>exact h2.2 i c t (!!hc) (!!ht)⟩
def z7:∀c:AA,Fits c (cU c)
 |[]=>⟨rfl,λi c s h=>by simp at h⟩
 |a::c=>by
  show Fits (a::c) ((if a=42 then 48 else a)::cU c);refine afc ?_ (z7 c);unfold alt;split <;> simp
def Kh:∀{c l:AA},Fits c l->¬l < cU c
 |[],l,h=>by
  have:l=[]:=dL.mp h.1.symm;subst this;exact List.lt_irrefl _
 |a::c,[],h=>by have:=h.1;simp at this
 |a::c,s::l,h=>by
  obtain ⟨h1,h2⟩:=afb h;show ¬(s::l) < ((if a=42 then 48 else a)::cU c);rw[i9];have ih:=Kh h2;unfold alt at h1;split at h1
  .rename_i e;rw[if_pos e];have:s=48\/s=49:=by simpa using h1
   rintro (q |q)
   .omega
   .exact ih q.2
  .rename_i e;rw[if_neg e];have:s=a:=by simpa using h1
   rintro (q |q)
   .omega
   .exact ih q.2
def Kl:∀{x m a:AA},x < m->¬a < m->x < a
 |x,[],a,h,_=>absurd h (by simp)
 |x,b::m,[],_,h=>absurd (by simp) h
 |[],b::m,y::a,_,_=>by simp
 |c::x,b::m,y::a,h,g=>by
  rw[i9]at h g ⊢;have g1:¬y < b:=λe=>g (.inl e);rcases h with h |⟨h1,h2⟩
  .exact .inl (!0)
  .by_cases e:y=b
   .exact .inr ⟨!0,Kl h2 λz=>g (.inr ⟨e,z⟩)⟩
   .exact .inl (!0)
def Km:∀f:AA,(bO f).Pairwise (· < ·)
 |[]=>by simp[bO]
 |c::f=>by
  have ih:=Km f;have one:∀s:Nat,((bO f).map (s::·)).Pairwise (· < ·):=λs=>List.pairwise_map.mpr (ih.imp λh=>i9.mpr (.inr ⟨rfl,h⟩));rw[bO];unfold alt;split
  .rw[i0,i0,List.flatMap_nil,fA,List.pairwise_append];refine ⟨one 48,one 49,λa ha b hb=>?_⟩;obtain ⟨x,_,rfl⟩:=b6.mp ha;obtain ⟨y,_,rfl⟩:=b6.mp hb;exact i9.mpr (.inl (!1))
  .rw[i0,List.flatMap_nil,fA];exact one c
def afd{u:List (AA)}{m:AA}(h:u.Pairwise (· < ·))(hm:m∈u)(hl:∀x∈u,¬x < m):u.head?=some m:=by
 cases u with
 |nil=>cases hm
 |cons a u=>
  rcases bg.mp hm with e |hm
  .rw[e];rfl
  .exact absurd ((List.pairwise_cons.mp h).1 m hm) (hl a aI)
def afe{ds:AS}{ls:List (AA)}{k:D->Prop}(h0:cP ds=none)(h:bu ds=some ls)(hk:∀m,m∈ls->(∀a,a∈ls->¬a < m)->k (.str m)):opB .min [.lst ds] k:=by show lw [.lst ds] k;unfold lw;dsimp only;rw[h0,h];exact hk
def ut:RF.Spec:=bJ (λa:Nat×AU×Nat=>[ao a.1 a.2.1,.int a.2.2]) (λa=>okB a.1 a.2.1/\a.2.2 < a.2.1.length) (λ_=>.non)
def afg{w n:Nat}{rs:AU}{G:DH}{k:AT}{E:EK}(h:okB w rs)(hn:n < rs.length)(hk:k .non G):ut.t [ao w rs,.int n] G k E:=bT (w,rs,n) rfl ⟨h,hn⟩ hk
def afh (Z:aj) (h1:Z "need_book"=jr) (h2:Z "is_place"=aM iK) (a:Nat×AU×Nat) (G:DH) (h:okB a.1 a.2.1/\a.2.2 < a.2.1.length):aA Z mK noE (env0 [ao a.1 a.2.1,.int a.2.2] 0) G (ends λd G'=>G'=G/\d=.non):=by obtain ⟨w,rs,n⟩:=a;obtain ⟨hb,hn⟩:=h;dsimp only at hb hn ⊢;simp_all_arith[mK];nofun;erw[h1];refine nQ hb (hM _ _ (last ?_));erw[ao,h2,af];refine aeV hn ?_;erw[and_self]
def z8(rs:AU):nrs (rs.map az)=true:=by
 induction rs with
 |nil=>rfl
 |cons r rs ih=>rw[cS,nrs,ih];rfl
def okRs(w:Nat)(rs:AU):Prop:=∀r∈rs,okF w r.1/\okD r.2
def okRs.ins{w n:Nat}{rs:AU}{r:Row}(h:okRs w rs)(h1:okF w r.1)(h2:okD r.2):okRs w (rs.take n++r::rs.drop n):=by
 intro x hx;rcases bv.mp hx with hx |hx
 .exact h x (ib hx)
 .rcases bg.mp hx with e |hx
  .rw[e];exact ⟨h1,h2⟩
  .exact h x (ic hx)
def Ko{rs:AU}{n:Nat}{r:Row}:(rs.take n++r::rs.drop n).length=rs.length+1:=by rw[ax,ci,br,ce];omega
def z9:AA:=[115,97,109,101]
def Aa:AA:=[112,97,114,116,101,100]
def Ab:AA:=[97,108,105,107,101]
def uv:RF.Spec:=bJ (λa:Nat×AU×AU=>[ao a.1 a.2.1,ao a.1 a.2.2]) (λa=>okB a.1 a.2.1/\okB a.1 a.2.2) (λ_=>.non)
def afi{w:Nat}{rs ss:AU}{G:DH}{k:AT}{E:EK}(h:okB w rs)(h':okB w ss)(hk:k .non G):uv.t [ao w rs,ao w ss] G k E:=bT (w,rs,ss) rfl ⟨h,h'⟩ hk
def afj (Z:aj) (h1:Z "need_book"=jr) (a:Nat×AU×AU) (G:DH) (h:okB a.1 a.2.1/\okB a.1 a.2.2):aA Z mX noE (env0 [ao a.1 a.2.1,ao a.1 a.2.2] 0) G (ends λd G'=>G'=G/\d=.non):=by obtain ⟨w,rs,ss⟩:=a;obtain ⟨hb,hc⟩:=h;dsimp only at hb hc ⊢;simp_all_arith[mX];nofun;erw[h1];refine nQ hb (hM _ _ (seq λM hM=>?_));erw[h1];refine nQ hc (hM _ _ (last ?_));erw[ao,BEq.rfl,and_self]
def bz(rs:AU)(o:Option Nat):Option (AA):=o.bind λn=>rs[n]?.map (·.2)
def Kp{rs:AU}{o:Option Nat}:j6 rs o=aP (bz rs o):=by
 cases o with
 |none=>rfl
 |some n=>
  unfold j6 bz;dsimp only[Option.bind];cases rs[n]? <;> rfl
structure SD where
 w:Nat
 rs:AU
 ss:AU
 name:AA
 o:Option Nat
 p:Option Nat
def sSD:RF.Spec:=bJ (λa:SD=>[ao a.w a.rs,ao a.w a.ss,.tup [.str a.name,aW a.o,aW a.p]]) (λa=>(∀n,a.o=some n->n < a.rs.length)/\∀n,a.p=some n->n < a.ss.length) (λa=>.bl (bz a.rs a.o==bz a.ss a.p))
def afk{w:Nat}{rs ss:AU}{name:AA}{o p:Option Nat}{G:DH}{k:AT}{E:EK}(h1:∀n,o=some n->n < rs.length)(h2:∀n,p=some n->n < ss.length)(hk:k (.bl (bz rs o==bz ss p)) G):sSD.t [ao w rs,ao w ss,.tup [.str name,aW o,aW p]] G k E:=bT ⟨w,rs,ss,name,o,p⟩ rfl ⟨h1,h2⟩ hk
def afl (Z:aj) (h1:Z "deed_of"=uh) (a:SD) (G:DH) (h:(∀n,a.o=some n->n < a.rs.length)/\∀n,a.p=some n->n < a.ss.length):aA Z mY noE (env0 [ao a.w a.rs,ao a.w a.ss,.tup [.str a.name,aW a.o,aW a.p]] 0) G (ends λd G'=>G'=G/\d=.bl (bz a.rs a.o==bz a.ss a.p)):=by obtain ⟨w,rs,ss,name,o,p⟩:=a;obtain ⟨ho,hp⟩:=h;dsimp only at ho hp ⊢;erw[mY,h1];refine JW ho (JW hp ?_);rw[Kp,Kp];cases bz rs o <;> cases bz ss p <;> erw[aP] <;> first |done | (simp;done) | (refine ⟨!1,?_⟩;simp;done)
def bh(w:Nat)(rs ss:AU):List (AA):=(aH (List.replicate w 42)).filter λl=>!(bz rs (bC rs l)==bz ss (bC ss l))
def eV(rs ss:AU)(c:AA):Bool:=bz rs (b8 rs c)==bz ss (b8 ss c)
def Ac(w:Nat)(rs ss:AU)(d:D):Prop:=
 (∃m,(bh w rs ss).head?=some m/\d=.tup [.str Aa,.str m])\/(bh w rs ss=[]/\∃t bs,d=.tup [.str Ab,t]/\Lv z9 [rs,ss] (List.replicate w 42) t bs/\∀c∈bs,eV rs ss c=true)
def ou:RF.Spec:=ghS (A:=Nat×AU×AU) (λa ds _=>ds=[ao a.1 a.2.1,ao a.1 a.2.2]/\okB a.1 a.2.1/\okB a.1 a.2.2) (λa G d G'=>G'=G/\Ac a.1 a.2.1 a.2.2 d)
def Kq{w:Nat}{rs ss:AU}{G:DH}{k:AT}{E:EK}(h:okB w rs)(h':okB w ss)(hk:∀d,Ac w rs ss d->k d G):ou.t [ao w rs,ao w ss] G k E:=
 eG (w,rs,ss) ⟨rfl,h,h'⟩ λd G' hx=>by
  obtain ⟨e,q⟩:=hx;subst e;exact hk d q
def afm (Z:aj) (h1:Z "need_two_books"=uv) (h2:Z "grown"=gr 9) (h3:Z "leaves"=fV 9) (h4:Z "least"=aM kj) (h5:Z "stars"=aM ju) (h6:Z "same_deeds"=sSD) (a:Nat×AU×AU) (ds:AS) (G:DH) (h:ds=[ao a.1 a.2.1,ao a.1 a.2.2]/\okB a.1 a.2.1/\okB a.1 a.2.2):
  aA Z m5 noE (env0 ds 3) G (ends λd G'=>G'=G/\Ac a.1 a.2.1 a.2.2 d):=by
 obtain ⟨w,rs,ss⟩:=a;obtain ⟨rfl,hb,hb'⟩:=h;dsimp only at hb hb' ⊢;have hw6:=hb.w6;have hst:=aeM w;have hrl:∀r∈rs,r.1.length=w:=λr hr=>(hb.form r hr).1;have hsl:∀r∈ss,r.1.length=w:=λr hr=>(hb'.form r hr).1;have e0:∀xs:AU,D.tup [.int w,.tup (xs.map az)]=ao w xs:=λ_=>rfl;simp_all_arith[m5];nofun;erw[h1];refine afi hb hb' (hM _ _ (seq λM hM=>?_));erw[ao,h5];refine ae8 (!0) (hM _ _ (seq λM hM=>?_));erw[h2];have er:[D.tup (rs.map az),.tup (ss.map az)]=fQ [rs,ss]:=rfl;rw[er];refine ⟨!1,zY (name:=z9) ⟨by simp,!1,λxs hxs r hr=>?_,!0⟩ de (!0) λt ht=>hM _ _ (seq λM hM=>?_)⟩
 .rcases bg.mp hxs with e |hxs
  .rw[e]at hr;exact hrl r hr
  .rw[aE.mp hxs]at hr;exact hsl r hr
 obtain ⟨bs,hL⟩:=ht.lv;have hlen:=hL.len' (by rw[de];omega);erw[h3];refine ae5 hL (!1) (by rw[de];omega) (!0) ?_;erw[ends];refine CompG.inv (P:=λi acc Y G'=>(∃o1 o2,Y=[o1,o2,some (.tup [.int w,.tup (rs.map az)]),some (.tup [.int w,.tup (ss.map az)])])/\G'=G/\acc=((bs.take i).filter λc=>!eV rs ss c).map λc=>D.str (cU c)) ⟨⟨_,_,rfl⟩,rfl,rfl⟩ (λ_ _ _ _ _=>trivial) (by rw[af];bv_omega) ?_ ?_
 .rintro i d acc Y G' hd ⟨⟨o1,o2,rfl⟩,rfl,rfl⟩ kk hk;rw[av]at hd;obtain ⟨c,hcb,rfl⟩:=ay.mp hd;have hcl:=(hL.box c (bb hcb)).1;rw[de]at hcl;have htk:bs.take (i+1)=bs.take i++[c]:=by rw[da,hcb];rfl
  erw[n8,ur,h6];rw[e0,e0];refine afk (λn hn=>uo hn) (λn hn=>uo hn) ?_;have es:(bz rs (b8 rs c)==bz ss (b8 ss c))=eV rs ss c:=rfl;rw[es];cases hsb:eV rs ss c with
  |true=>
   erw[ends];exact hk _ _ _ ⟨⟨_,_,rfl⟩,rfl,by rw[htk,fo];simp[hsb]⟩
  |false=>
   erw[h4];refine ae9 (!0) (hk _ _ _ ⟨⟨_,_,rfl⟩,rfl,by rw[htk,fo];simp[hsb]⟩)
 .rintro acc Y G' ⟨_,rfl,rfl⟩;rw[af,ee];symm;have meet:∀xs∈[rs,ss],∀c∈bs,∀l,Fits c l->bC xs l=b8 xs c:=by
   intro xs hxs c hc l hl;obtain ⟨e1,e2⟩:=hL.box c hc;rw[de]at e1;have okc:=hL.okf (aes w) c hc;refine aeN (λr hr=>?_) (e2 _ hxs) (aeT okc hl) hl;rcases bg.mp hxs with e |hxs
   .rw[e]at hr;rw[hrl r hr,e1]
   .rw[aE.mp hxs]at hr;rw[hsl r hr,e1]
  have both:∀c∈bs,∀l,Fits c l->(bz rs (bC rs l)==bz ss (bC ss l))=eV rs ss c:=by intro c hc l hl;rw[meet rs (by simp) c hc l hl,meet ss (by simp) c hc l hl];rfl
  cases hfr:bs.filter λc=>!eV rs ss c with
  |nil=>
   have hall:∀c∈bs,eV rs ss c=true:=by
    intro c hc;have:=List.filter_eq_nil_iff.mp hfr c hc;cases h:eV rs ss c with
    |false=>rw[h]at this;exact absurd rfl this
    |true=>rfl
   erw[ends];ac_nf0;erw[ends];refine ⟨!1,.inr ⟨?_,t,bs,rfl,hL,hall⟩⟩;unfold bh;rw[List.filter_eq_nil_iff];intro l hl;obtain ⟨c,hc',hfc⟩:=hL.cover l (eQ.mp hl);rw[both c hc' l hfc,hall c hc'];simp
  |cons c0 cs=>
   have hne:(!(List.isEmpty (D.str (cU c0)::cs.map λc=>D.str (cU c))))=true:=rfl;erw[hne];rw[<-cS (f:=λc=>D.str (cU c)),<-hfr];have es:bu ((bs.filter λc=>!eV rs ss c).map λc=>D.str (cU c))=some ((bs.filter λc=>!eV rs ss c).map cU):=strs_map _ _;have ei:cP ((bs.filter λc=>!eV rs ss c).map λc=>D.str (cU c))=none:=by rw[hfr];rfl
   refine afe ei es λm hm hlow=>?_;obtain ⟨c,hcm,rfl⟩:=b6.mp hm;obtain ⟨hcb,hcn⟩:=gX.mp hcm;refine ⟨!1,.inl ⟨cU c,?_,rfl⟩⟩;refine afd ?_ ?_ ?_
   .unfold bh;rw[iM];exact (Km _).filter _
   .unfold bh;rw[gX];refine ⟨eQ.mpr (hL.within c hcb _ (z7 c)),?_⟩;rw[both c hcb _ (z7 c)];exact hcn
   .intro x hx hlt;unfold bh at hx;obtain ⟨hx1,hx2⟩:=gX.mp hx;obtain ⟨c',hc',hfc⟩:=hL.cover x (eQ.mp hx1);rw[both c' hc' x hfc]at hx2;have hlow':=hlow (cU c') (b6.mpr ⟨c',gX.mpr ⟨hc',hx2⟩,rfl⟩);exact Kh hfc (Kl hlt hlow')
def wo(rs:AU)(n:Nat):AU:=rs.take n++rs.drop (n+1)
def uw{rs:AU}{n:Nat}(hn:n < rs.length):(wo rs n).length+1=rs.length:=by unfold wo;rw[ax,br,ce];omega
def ux{w n:Nat}{rs:AU}(hb:okB w rs)(hn:n < rs.length):okB w (wo rs n):=hb.sub (by have:=uw hn;omega) λr hr=>by
 rcases bv.mp hr with h |h
 .exact ib h
 .exact ic h
def sWo:RF.Spec:=bJ (λa:Nat×AU×Nat=>[ao a.1 a.2.1,.int a.2.2]) (λa=>okB a.1 a.2.1/\a.2.2 < a.2.1.length) (λa=>ao a.1 (wo a.2.1 a.2.2))
def uy{w n:Nat}{rs:AU}{G:DH}{k:AT}{E:EK}(h:okB w rs)(hn:n < rs.length)(hk:k (ao w (wo rs n)) G):sWo.t [ao w rs,.int n] G k E:=bT (w,rs,n) rfl ⟨h,hn⟩ hk
def Ad{α β:Type}(f:α->β)(l:List α)(n:Nat):cut (l.map f) (some ((n:Int)+1)) none=(l.drop (n+1)).map f:=zU f l (n+1)
def afn (Z:aj) (h1:Z "need_row"=ut) (a:Nat×AU×Nat) (G:DH) (h:okB a.1 a.2.1/\a.2.2 < a.2.1.length):aA Z mL noE (env0 [ao a.1 a.2.1,.int a.2.2] 2) G (ends λd G'=>G'=G/\d=ao a.1 (wo a.2.1 a.2.2)):=by obtain ⟨w,rs,n⟩:=a;obtain ⟨hb,hn⟩:=h;dsimp only at hb hn ⊢;have hlen:=hb.len;simp_all_arith[mL];nofun;erw[h1];refine afg hb hn (hM _ _ (seq λM hM=>?_));erw[ao];ac_nf0;erw[jt,Ad,af,br,ce];refine ⟨by bv_omega,!1,?_⟩;unfold wo ao;rw[cb]
def ndT:AA:=[110,101,101,100,108,101,115,115]
def Kr:AA:=[110,101,101,100,101,100]
def ndQ(w n:Nat)(rs:AU)(d:D):Prop:=
 (∃m,(bh w rs (wo rs n)).head?=some m/\d=.tup [.str Kr,.str m])\/(bh w rs (wo rs n)=[]/\∃t bs,d=.tup [.str ndT,t]/\Lv z9 [rs,wo rs n] (List.replicate w 42) t bs/\∀c∈bs,eV rs (wo rs n) c=true)
def uz:RF.Spec:=ghS (A:=Nat×AU×Nat) (λa ds _=>ds=[ao a.1 a.2.1,.int a.2.2]/\okB a.1 a.2.1/\a.2.2 < a.2.1.length) (λa G d G'=>G'=G/\ndQ a.1 a.2.2 a.2.1 d)
def afo{w n:Nat}{rs:AU}{G:DH}{k:AT}{E:EK}(h:okB w rs)(hn:n < rs.length)(hk:∀d,ndQ w n rs d->k d G):uz.t [ao w rs,.int n] G k E:=
 eG (w,rs,n) ⟨rfl,h,hn⟩ λd G' hx=>by
  obtain ⟨e,q⟩:=hx;subst e;exact hk d q
def afp (Z:aj) (h1:Z "alike"=ou) (h2:Z "without"=sWo) (a:Nat×AU×Nat) (ds:AS) (G:DH) (h:ds=[ao a.1 a.2.1,.int a.2.2]/\okB a.1 a.2.1/\a.2.2 < a.2.1.length):aA Z m9 noE (env0 ds 2) G (ends λd G'=>G'=G/\ndQ a.1 a.2.2 a.2.1 d):=by
 obtain ⟨w,rs,n⟩:=a;obtain ⟨rfl,hb,hn⟩:=h;dsimp only at hb hn ⊢;simp_all_arith[m9];nofun;erw[h1,h2];refine uy hb hn (Kq hb (ux hb hn) λd hq=>?_);rcases hq with ⟨m,hm,rfl⟩ |⟨hnil,t,bs,rfl,hL,hall⟩
 .have eb:(([112,97,114,116,101,100]==[97,108,105,107,101]):Bool)=false:=by decide
  erw[Aa];ac_nf0;erw[eb];exact ⟨!1,.inl ⟨m,hm,rfl⟩⟩
 .erw[Ab];ac_nf0;erw[BEq.rfl];exact ⟨!1,.inr ⟨hnil,t,bs,rfl,hL,hall⟩⟩
def lnS(w:Nat)(rs:AU)(n:Nat):AU:=if (bh w rs (wo rs n)).isEmpty then wo rs n else rs
def lnR(w:Nat):Nat->AU->AU
 |0,rs=>rs
 |k+1,rs=>lnR w k (lnS w rs k)
def Ae{w n:Nat}{rs:AU}(hb:okB w rs)(hn:n < rs.length):okB w (lnS w rs n)/\n<=(lnS w rs n).length:=by
 unfold lnS;split
 .exact ⟨ux hb hn,by have:=uw hn;omega⟩
 .exact ⟨hb,!0⟩
def Af{w:Nat}:∀(k:Nat){rs:AU},okB w rs->k<=rs.length->okB w (lnR w k rs)
 |0,rs,hb,_=>hb
 |k+1,rs,hb,hk=>by
  obtain ⟨h1,h2⟩:=Ae hb (show k < rs.length by omega);exact Af k h1 h2
def uA:RF.Spec:=bJ (λa:Nat×AU=>[ao a.1 a.2]) (λa=>okB a.1 a.2) (λa=>ao a.1 (lnR a.1 a.2.length a.2))
def Ks{w:Nat}{rs:AU}{G:DH}{k:AT}{E:EK}(h:okB w rs)(hk:k (ao w (lnR w rs.length rs)) G):uA.t [ao w rs] G k E:=bT (w,rs) rfl h hk
def afq (Z:aj) (h1:Z "need_book"=jr) (h2:Z "needless"=uz) (h3:Z "without"=sWo) (a:Nat×AU) (G:DH) (h:okB a.1 a.2):aA Z nq noE (env0 [ao a.1 a.2] 2) G (ends λd G'=>G'=G/\d=ao a.1 (lnR a.1 a.2.length a.2)):=by
 obtain ⟨w,rs⟩:=a;dsimp only at h ⊢;have hlen:=h.len;have e0:∀xs:AU,D.tup [.int w,.tup (xs.map az)]=ao w xs:=λ_=>rfl;simp_all_arith[nq];nofun;erw[h1];refine nQ h (hM _ _ (seq λM hM=>?_));erw[ends];symm;have ed:ao w rs=.tup [.int w,.tup (rs.map az)]:=rfl;simp_arith![ed,af,eJ];refine ⟨!0,ForG.inv (P:=λi Y G'=>∃(xs:AU)(o2:Option D),Y=[some (.tup [.int w,.tup (rs.map az)]),some (.tup [.int w,.tup (xs.map az)]),o2]/\G'=G/\okB w xs/\rs.length - i<=xs.length/\lnR w (rs.length - i) xs=lnR w rs.length rs) ⟨rs,_,rfl,rfl,h,am _,rfl⟩ (λ_ _ _ _=>trivial) ?_ ?_⟩
 .rintro i d Y G' hd ⟨xs,o2,rfl,rfl,hb,hl,hr⟩ kk hk;have hi:i < rs.length:=by
   have:=(ah.mp hd).1;simpa [cQ] using this
  obtain ⟨m,hm⟩:∃m:Nat,rs.length - i=m+1:=⟨rs.length - i - 1,!0⟩;have hdi:d=.int (m:Int):=by
   unfold cQ at hd;rw[av,ff hi]at hd;have:D.int ((rs.length:Int) - 1 - (i:Int))=d:=by simpa using hd
   rw[<-this];congr 1;omega
  subst hdi;rw[hm]at hl hr;rw[lnR]at hr;have hmx:m < xs.length:=by omega
  obtain ⟨k1,k2⟩:=Ae hb hmx;have em:rs.length - (i+1)=m:=by omega
  simp_arith![ends];refine last ?_;erw[h2];rw[e0];refine afo hb hmx λd hq=>?_;rcases hq with ⟨l,hl',rfl⟩ |⟨hnil,t,bs,rfl,_,_⟩
  .have eb:(([110,101,101,100,101,100]==[110,101,101,100,108,101,115,115]):Bool)=false:=by decide
   have es:lnS w xs m=xs:=by
    unfold lnS;cases hp:bh w xs (wo xs m) with
    |nil=>rw[hp]at hl';cases hl'
    |cons _ _=>rfl
   rw[es]at hr;erw[Kr,eb];exact hk _ _ ⟨xs,_,rfl,rfl,hb,!0,by rw[em];exact hr⟩
  .have es:lnS w xs m=wo xs m:=by unfold lnS;rw[hnil];rfl
   rw[es]at hr k1 k2;erw[ndT,BEq.rfl,h3];refine uy hb hmx ?_;exact hk _ _ ⟨wo xs m,_,rfl,rfl,k1,!0,by rw[em];exact hr⟩
 .rintro Y G' ⟨xs,o2,rfl,rfl,hb,hl,hr⟩;have e1:rs.length - (cQ ((rs.length:Int) - 1) rs.length).length=0:=by simp[cQ]
  rw[e1]at hr;ac_nf0;erw[ends];rw[e0,<-hr];rfl
def okP(a:AA×AA):Prop:=a.1.length=a.2.length/\a.1.length<=1000/\(∀x∈a.1,isF x)/\∀x∈a.2,isF x
def uB:RF.Spec:=bJ (λa:AA×AA=>[.str a.1,.str a.2]) okP (λa=>.bl (bV a.1 a.2).isSome)
def clash:D->Option D
 |.tup [.str [a],.str [b]]=>if (cO a b).isSome then none else some (.int 1)
 |_=>none
def Ku:∀(f g:AA),(((f.zip g).map λp=>D.tup [.str [p.1],.str [p.2]]).filterMap clash).isEmpty=(bV f g).isSome
 |[],g=>by cases g <;> rfl
 |a::f,[]=>rfl
 |a::f,b::g=>by
  have ih:=Ku f g;rw[List.zip_cons_cons,cS,bV];cases h:cO a b with
  |none=>
   have:clash (D.tup [.str [a],.str [b]])=some (.int 1):=by show (if (cO a b).isSome=true then none else some (D.int 1))=_;rw[h];rfl
   rw[gx,this];rfl
  |some c=>
   have:clash (D.tup [.str [a],.str [b]])=none:=by show (if (cO a b).isSome=true then none else some (D.int 1))=_;rw[h];rfl
   rw[gx,this];show (List.filterMap clash _).isEmpty=_;rw[ih];cases bV f g <;> rfl
def afr(Z:aj)(a:AA×AA)(G:DH)(h:okP a):aA Z yM noE (env0 [.str a.1,.str a.2] 0) G (ends λd G'=>G'=G/\d=.bl (bV a.1 a.2).isSome):=by
 obtain ⟨f,g⟩:=a;obtain ⟨hl,hz,hf,hg⟩:=h;dsimp only at hl hz hf hg ⊢;erw[yM,nT];refine CompG.pure (f:=clash) (I:=λY=>∃o1 o2,Y=[o1,o2]) ⟨_,_,rfl⟩ trivial (by rw[af,g0];bv_omega) ?_ ?_
 .rintro d Y hd ⟨o1,o2,rfl⟩ kk hk;obtain ⟨⟨x,y⟩,hxy,rfl⟩:=b6.mp hd;have hx:=hf x (List.of_mem_zip hxy).1;have hy:=hg y (List.of_mem_zip hxy).2;have hin:isIn (.str [x,y]) [.str [48,49],.str [49,48]]=!(cO x y).isSome:=by
   rcases hx with rfl |rfl |rfl <;> rcases hy with rfl |rfl |rfl <;> simp[isIn,Jq,cO]
  have go:=λρ' hr=>hk ρ' hr;have ec:clash (D.tup [.str [x],.str [y]])=if (cO x y).isSome then none else some (.int 1):=rfl
  erw[hin];refine ⟨!1,!1,⟨!1,!1⟩,?_⟩;cases hb:(cO x y).isSome with
  |true=>erw[ends];have:=hk [some (.str [x]),some (.str [y])] ⟨_,_,rfl⟩;rw[ec,hb]at this;exact this
  |false=>erw[ends];have:=hk [some (.str [x]),some (.str [y])] ⟨_,_,rfl⟩;rw[ec,hb]at this;exact this
 .erw[Jj,Ku];refine ⟨yt λd hd=>?_,bS (Nat.min_le_right _ _) (!1)⟩;obtain ⟨e,_,he⟩:=List.mem_filterMap.mp hd;unfold clash at he;split at he
  .split at he
   .cases he
   .cases he;rfl
  .cases he
def afs{f g:AA}{G:DH}{k:AT}{E:EK}(h:okP (f,g))(hk:k (.bl (bV f g).isSome) G):uB.t [.str f,.str g] G k E:=bT (f,g) rfl h hk
def Kv(a:AQ×Nat×AU)(ds:AS)(G:DH):Prop:=ds=[.ref a.1,.lst (a.2.2.map az)]/\Pen G a.1/\a.2.1<=6/\okRs a.2.1 a.2.2/\0 < a.2.2.length/\a.2.2.length<=12
def Ag(a:AQ×Nat×AU)(G:DH)(d:D)(G':DH):Prop:=∃rs':AU,d=.lst (rs'.map az)/\okRs a.2.1 rs'/\a.2.2.length<=rs'.length/\rs'.length<=a.2.2.length+1/\Pen G' a.1/\Sb a.1 G G'
def uC:RF.Spec:=ghS Kv Ag
def aft{p:AQ}{w:Nat}{rs:AU}{G:DH}{k:AT}{E:EK}(hp:Pen G p)(hw:w<=6)(h1:okRs w rs)(h2:0 < rs.length)(h3:rs.length<=12)(hk:∀(rs':AU)(G':DH),okRs w rs'->rs.length<=rs'.length->rs'.length<=rs.length+1->Pen G' p->Sb p G G'->k (.lst (rs'.map az)) G'):uC.t [.ref p,.lst (rs.map az)] G k E:=
 eG (p,w,rs) ⟨rfl,hp,hw,h1,h2,h3⟩ λd G' ⟨rs',e,h1,h2,h3,h4,h5⟩=>by subst e;exact hk rs' G' h1 h2 h3 h4 h5
def gw(b:AA):AA:=(List.range b.length).filter λn=>b[n]?==some 42
def iN'(n:Nat):D:=.int (n:Int)
def Kw{α:Type}(l:List α)(n:Nat):cut l (some ((n:Int)+1)) none=l.drop (n+1):=tZ l (n+1)
def afu{α:Type}(l:List α)(n:Nat):cut l (some ((n:Int)+2)) none=l.drop (n+2):=tZ l (n+2)
def okRs.cat{w:Nat}{as bs:AU}(h:okRs w as)(h':okRs w bs):okRs w (as++bs):=λr hr=>by
 rcases bv.mp hr with e |e
 .exact h r e
 .exact h' r e
def okRs.take{w:Nat}{as:AU}(n:Nat)(h:okRs w as):okRs w (as.take n):=λr hr=>h r (ib hr)
def okRs.drop{w:Nat}{as:AU}(n:Nat)(h:okRs w as):okRs w (as.drop n):=λr hr=>h r (ic hr)
def Ky{w n:Nat}{rs:AU}{m dd:AA}(hr:okRs w rs)(hm:okF w m)(hd:okD dd)(h:rs.length<=12):(rs.take n).length+(0+1)<=sz/\((rs.take n).map az++[D.tup [.str m,.str dd]]).length+(rs.drop n).length<=sz/\∃rs':AU,D.lst ((rs.take n).map az++[D.tup [.str m,.str dd]]++(rs.drop n).map az)=.lst (rs'.map az)/\okRs w rs'/\rs.length<=rs'.length/\rs'.length<=rs.length+1:=by refine ⟨by rw[br];bv_omega,by rw[ax,af,br,ce,gN];bv_omega,rs.take n++(m,dd)::rs.drop n,?_,hr.ins hm hd,by rw[Ko];omega,by rw[Ko];omega⟩;rw[cb,cS,bo];rfl
def afv (Z:aj) (h1:Z "_law_take"=eN) (h2:Z "_law_within"=iJ) (h3:Z "_law_meet"=uB) (a:AQ×Nat×AU) (ds:AS) (G:DH) (h:Kv a ds G):aA Z yN noE (env0 ds 7) G (ends (Ag a G)):=by
 obtain ⟨p,w,rs⟩:=a;obtain ⟨rfl,hp,hw,hr,h0,h12⟩:=h;dsimp only at hp hw hr h0 h12 ⊢;simp_all_arith[yN];nofun;erw[h1,af];refine cC hp (!0) (!0) λat' G1 hat hp1 sb1=>hM _ _ (seq λM hM=>?_);have hat:at' < rs.length:=by omega
 have hc:rs[at']?=some rs[at']:=aS hat;generalize rs[at']=r at hc;have hok:=hr r (bb hc);have hbl:=hok.1.1;have hatI:atI (rs.map az) (at':Int)=some (az r):=bA (by rw[av,hc];rfl);erw[ends];refine aU hatI ?_;erw[az];symm;erw[ends];refine ⟨!0,CompG.inv (P:=λi acc Y G'=>(∃o,Y=[o,some (.str r.1)])/\G'=G1/\acc=((List.range i).filter λn=>r.1[n]?==some 42).map iN') ⟨⟨_,rfl⟩,rfl,rfl⟩ (λ_ _ _ _ _=>trivial) (by simp[aL];bv_omega) ?_ ?_⟩
 .rintro i d acc Y G' hd ⟨⟨o,rfl⟩,rfl,rfl⟩ kk hk;have hi:i < r.1.length:=by
   have:=(ah.mp hd).1;simpa [aL] using this
  have hdi:d=.int (i:Int):=by unfold aL at hd;rw[av,ff (!!hi)]at hd;simpa using hd.symm
  subst hdi;have hc:r.1[i]?=some r.1[i]:=aS hi;erw[ends];refine aU (a:=r.1[i]) (bA hc) ?_;erw[eU];cases h42:(r.1[i]==42) with
  |true=>exact hk _ _ _ ⟨⟨_,rfl⟩,rfl,by rw[iL,fo,List.filter_cons,hc];simp[iN',h42]⟩
  |false=>exact hk _ _ _ ⟨⟨_,rfl⟩,rfl,by rw[iL,fo,List.filter_cons,hc];simp[iN',h42]⟩
 .rintro acc Y G2 ⟨_,rfl,rfl⟩;have el:((List.range (aL 0 (r.1.length:Int).toNat).length).filter λn=>r.1[n]?==some 42).map iN'=(gw r.1).map iN':=by unfold gw;simp[aL]
  rw[el];have hsl:(gw r.1).length<=r.1.length:=bS (List.length_filter_le _ _) (by simp);symm;erw[h1];refine cC hp1 (!1) (!1) λkd G3 hkd hp3 sb3=>hM _ _ (seq λM hM=>?_);have sb30:=sb1.trans sb3;have more:kd≠0\/gw r.1=[]->∀G4,Pen G4 p->Sb p G G4->M [some (.ref p),some (.lst (rs.map az)),some (.int at'),some (.str r.1),some (.str r.2),some (.lst ((gw r.1).map iN')),some (.int kd),none,none] G4:=by
   intro _ G4 hp4 sb4;symm;cases hk1:((kd:Int)==1) with
   |true=>
    simp_arith![hk1];nofun;erw[h1,af];refine cC hp4 (!0) (!0) λq G5 hq hp5 sb5=>?_;have epl:(at':Int)+1+(q:Int)=((at'+1+q:Nat):Int):=by omega
    erw[epl];ac_nf0;erw[h1,h2,jt,zU,af];refine ud hp5 hok.1.2 (!0) λm G6 hm hp6 sb6=>?_;rw[hbl]at hm;refine cC hp6 (!0) (!0) λq2 G7 hq2 hp7 sb7=>?_;erw[ends];refine lW (!0) (by simp;omega) λy hy=>?_;obtain ⟨r2,hr2,rfl⟩:=b6.mp hy;erw[az];obtain ⟨i1,i2,rs',i3,i4,i5,i6⟩:=Ky (n:=at'+1+q) hr hm (hr r2 hr2).2 h12;exact ⟨!1,!1,i1,i2,rs',i3,i4,i5,i6,hp7,((sb4.trans sb5).trans sb6).trans sb7⟩
   |false=>
    erw[hk1];symm;cases hk2:((kd:Int)==2) with
    |true=>
     erw[hk2,h2,jt,zU,af];refine ud hp4 hok.1.2 (!0) λm G6 hm hp6 sb6=>?_;rw[hbl]at hm;obtain ⟨i1,i2,rs',i3,i4,i5,i6⟩:=Ky (n:=at') hr hm hok.2 h12;exact ⟨!1,!1,i1,i2,rs',i3,i4,i5,i6,hp6,sb4.trans sb6⟩
    |false=>
     erw[hk2];symm;have stay:∀G5,Pen G5 p->Sb p G G5->M [some (.ref p),some (.lst (rs.map az)),some (.int at'),some (.str r.1),some (.str r.2),some (.lst ((gw r.1).map iN')),some (.int kd),none,none] G5:=by intro G5 hp5 sb5;ac_nf0;erw[ends];exact ⟨rs,rfl,hr,am _,ga _,hp5,sb5⟩
     by_cases hlt:at'+1 < rs.length
     .have hl1:decide ((at':Int)+1 < (rs.length:Int))=true:=ck (!0);have hc2:rs[at'+1]?=some rs[at'+1]:=aS hlt;generalize rs[at'+1]=r2 at hc2;have hok2:=hr r2 (bb hc2);have hatJ:atI (rs.map az) ((at':Int)+1)=some (az r2):=bA (j:=at'+1) (by rw[av,hc2];rfl);erw[af,hl1];refine aU hatJ ?_;have swap:∀G5,Pen G5 p->Sb p G G5->bH (atI (rs.map az) ((at':Int)+1)) λd=>bH (atI (rs.map az) (at':Int)) λd1=>0+1+1<=sz/\(cut (rs.map az) none (some (at':Int))).length+(0+1+1)<=sz/\(cut (rs.map az) none (some (at':Int))++[d,d1]).length+(cut (rs.map az) (some ((at':Int)+2)) none).length<=sz/\Ag (p,w,rs) G (D.lst (cut (rs.map az) none (some (at':Int))++[d,d1]++cut (rs.map az) (some ((at':Int)+2)) none)) G5:=by
       intro G5 hp5 sb5;refine aU hatJ (aU hatI ?_);rw[jt,afu,<-List.map_drop];refine ⟨!1,by rw[af,br];bv_omega,by rw[ax,af,af,br,ce];simp only[ci,iP];bv_omega,rs.take at'++[r2,r]++rs.drop (at'+2),?_,?_,?_,?_,hp5,sb5⟩
       .rw[cb,cb];rfl
       .refine ((hr.take at').cat ?_).cat (hr.drop _);intro x hx;simp only[bg,dE,hZ]at hx;rcases hx with e |e <;> subst e
        .exact hok2
        .exact hok
       .rw[ax,ax,br,ce];simp only[ci,iP];omega
       .rw[ax,ax,br,ce];simp only[ci,iP];omega
      erw[az];cases hdd:(r2.2==r.2) with
      |true=>exact swap G4 hp4 sb4
      |false=>
       erw[h3];refine aU hatJ ?_;erw[az];refine afs ⟨by rw[hbl,hok2.1.1],show r.1.length<=1000 by omega,hok.1.2,hok2.1.2⟩ ?_;cases (bV r.1 r2.1).isSome with
       |true=>
        erw[ends];exact stay _ hp4 sb4
       |false=>
        erw[ends];exact swap G4 hp4 sb4
     .have hl1:decide ((at':Int)+1 < (rs.length:Int))=false:=cy (!0);erw[af,hl1];exact stay _ hp4 sb4
  cases hk0:((kd:Int)==0) with
  |false=>
   erw[hk0];exact more (.inl (by have:=eh.mp hk0;omega)) _ hp3 sb30
  |true=>
   cases hst:gw r.1 with
   |nil=>
    rw[hst]at more;erw[hk0];exact ⟨!1,more (.inr rfl) _ hp3 sb30⟩
   |cons y ys=>
    have hne:gw r.1≠[]:=by rw[hst];simp
    have hpos:0 < (gw r.1).length:=iA.mpr hne;have hnr:nrs ((y::ys).map iN')=true:=yt λd hd=>by obtain ⟨_,_,rfl⟩:=b6.mp hd;rfl
    rw[cS]at hnr;simp_arith![hk0];refine ⟨⟨by simpa [nrs] using hnr,bS (Nat.min_le_right _ _) (!1)⟩,?_⟩;rw[<-cS (f:=iN'),<-hst];nofun;erw[h1,af];refine cC hp3 (!0) (!0) λq G4 hq hp4 sb4=>?_;erw[ends];refine lW (!0) (by simp;omega) λy hy=>?_;obtain ⟨pl,hpl,rfl⟩:=b6.mp hy;have hpl42:r.1[pl]?=some 42:=by unfold gw at hpl;simpa using (gX.mp hpl).2
    have hpll:=(ah.mp hpl42).1;symm;erw[h1,iN'];refine ⟨!1,cC hp4 (!1) (!1) λq5 G5 hq5 hp5 sb5=>?_⟩;erw[ends];refine lW (!0) (by simp;omega) λy hy=>?_;obtain ⟨c1,c2,f1,f2,rfl⟩:∃c1 c2:Nat,isF c1/\isF c2/\y=.str [c1,c2]:=by
     simp only[bg,dE,hZ]at hy;rcases hy with e |e
     .exact ⟨48,49,zW,zX,e⟩
     .exact ⟨49,48,zX,zW,e⟩
    erw[ends];refine CompG.inv (P:=λi acc Y G'=>(∃o,Y=[o,some (.str r.2),some (.str r.1),some (.int pl)])/\G'=G5/\acc=(([c1,c2].take i).map λc=>((r.1.set pl c,r.2):Row)).map az) ⟨⟨_,rfl⟩,rfl,rfl⟩ (λ_ _ _ _ _=>trivial) (show 2<=sz by decide) ?_ ?_
    .rintro i d acc Y G' hd ⟨⟨o,rfl⟩,rfl,rfl⟩ kk hk;replace hd:([c1,c2].map λc=>D.str [c])[i]?=some d:=hd;rw[av]at hd;obtain ⟨c,hcc,rfl⟩:=ay.mp hd;have htk:[c1,c2].take (i+1)=[c1,c2].take i++[c]:=by rw[da,hcc];rfl
     erw[tY,Kw];refine ⟨by rw[br];bv_omega,by rw[ax,br,ce,gN];bv_omega,!1,?_⟩;rw[JZ hpll];exact hk _ _ _ ⟨⟨_,rfl⟩,rfl,by rw[htk,cb,cb];rfl⟩
    .rintro acc Y G' ⟨_,rfl,rfl⟩;have e2:((([c1,c2].take [D.str [c1],D.str [c2]].length).map λc=>((r.1.set pl c,r.2):Row)).map az)=([(r.1.set pl c1,r.2),(r.1.set pl c2,r.2)]:AU).map az:=rfl;rw[e2];ac_nf0;simp_arith[jt,Kw,<-List.map_drop,af];refine ⟨by simp only[br,ax,af,ce,ci,iP];bv_omega,by simp only[br,ax,af,ce,ci,iP];bv_omega,rs.take at'++[(r.1.set pl c1,r.2),(r.1.set pl c2,r.2)]++rs.drop (at'+1),?_,?_,?_,?_,hp5,(sb30.trans sb4).trans sb5⟩
     .rw[cb,cb];rfl
     .refine ((hr.take at').cat ?_).cat (hr.drop _);intro x hx;simp only[bg,dE,hZ]at hx;rcases hx with e |e <;> subst e
      .exact ⟨nY hok.1 f1,hok.2⟩
      .exact ⟨nY hok.1 f2,hok.2⟩
     .rw[ax,ax,br,ce];simp only[ci,iP];omega
     .rw[ax,ax,br,ce];simp only[ci,iP];omega
def pTA(a:AQ×Nat×AU×Nat)(ds:AS)(G:DH):Prop:=ds=[.ref a.1,ao a.2.1 a.2.2.1,.int (a.2.2.2:Nat)]/\Pen G a.1/\okB a.2.1 a.2.2.1/\a.2.2.2<=100
def qTA(a:AQ×Nat×AU×Nat)(G:DH)(d:D)(G':DH):Prop:=∃rs',d=ao a.2.1 rs'/\okB a.2.1 rs'/\Pen G' a.1/\Sb a.1 G G'
def sTA:RF.Spec:=ghS pTA qTA
def afw{p:AQ}{w m:Nat}{rs:AU}{G:DH}{k:AT}{E:EK}(hp:Pen G p)(h1:okB w rs)(h2:m<=100)(hk:∀(rs':AU)(G':DH),okB w rs'->Pen G' p->Sb p G G'->k (ao w rs') G'):sTA.t [.ref p,ao w rs,.int (m:Nat)] G k E:=
 eG (p,w,rs,m) ⟨rfl,hp,h1,h2⟩ λd G' ⟨rs',e,h1,h2,h3⟩=>by subst e;exact hk rs' G' h1 h2 h3
def afx (Z:aj) (h1:Z "_law_one_turning"=uC) (a:AQ×Nat×AU×Nat) (ds:AS) (G:DH) (h:pTA a ds G):aA Z yO noE (env0 ds 2) G (ends (qTA a G)):=by
 obtain ⟨p,w,rs,m⟩:=a;obtain ⟨rfl,hp,hb,hm⟩:=h;dsimp only at hp hb hm ⊢;have hw6:=hb.w6;have hlen:=hb.len;have hr:okRs w rs:=λr hr=>⟨hb.form r hr,hb.deed r hr⟩;simp_all_arith[yO];nofun;erw[ao];symm;have hdq:deq (.lst (rs.map az)) (.lst [])=rs.isEmpty:=by
  cases rs with
  |nil=>rfl
  |cons r rs=>rfl
 simp_arith![hdq];refine ⟨⟨z8 rs,bS (Nat.min_le_right _ _) (!1)⟩,gm (by split <;> decide),⟨by split <;> omega,by split <;> omega⟩,?_⟩;refine ForG.inv (P:=λi Y G'=>∃(rs':AU)(o4:Option D),Y=[some (.ref p),some (.tup [.int w,.tup (rs.map az)]),some (.int (m:Nat)),some (.lst (rs'.map az)),o4]/\okRs w rs'/\rs.length<=rs'.length/\rs'.length<=12/\Pen G' p/\Sb p G G') ⟨rs,none,rfl,hr,am _,hlen,hp,Sb.refl _ _⟩ (λ_ _ _ _=>trivial) ?_ ?_
 .rintro i d Y G' hd ⟨rs',o4,rfl,ok',hle,h12,hp',sb'⟩ kk hk;have hne:0 < rs.length:=by
   cases rs with
   |nil=>simp[aL]at hd
   |cons _ _=>simp
  simp_arith![ends];refine last ?_;by_cases hlt:rs'.length < 12
  .have hl:decide ((rs'.length:Int) < 12)=true:=ck (!0);erw[af,hl,h1];refine aft hp' hw6 ok' (!0) h12 λrs2 G2 ok2 l1 l2 hp2 sb2=>hk _ _ ⟨rs2,_,rfl,ok2,!0,!0,hp2,sb'.trans sb2⟩
  .have hl:decide ((rs'.length:Int) < 12)=false:=cy (!0);erw[af,hl];exact hk _ _ ⟨rs',_,rfl,ok',hle,h12,hp',sb'⟩
 .rintro Y G' ⟨rs',o4,rfl,ok',hle,h12,hp',sb'⟩;ac_nf0;erw[ends];exact ⟨!1,rs',rfl,⟨hb.w1,hb.w6,h12,λr hr=>(ok' r hr).1,λr hr=>(ok' r hr).2⟩,hp',sb'⟩
def uD:RF.Spec:=bJ (λa:Nat×AU×AU=>[ao a.1 a.2.1,ao a.1 a.2.2]) (λa=>okB a.1 a.2.1/\okB a.1 a.2.2) (λa=>aP (bh a.1 a.2.1 a.2.2).head?)
def afy{w:Nat}{rs ss:AU}{G:DH}{k:AT}{E:EK}(h:okB w rs)(h':okB w ss)(hk:k (aP (bh w rs ss).head?) G):uD.t [ao w rs,ao w ss] G k E:=bT (w,rs,ss) rfl ⟨h,h'⟩ hk
def afz (Z:aj) (h1:Z "alike"=ou) (a:Nat×AU×AU) (G:DH) (h:okB a.1 a.2.1/\okB a.1 a.2.2):aA Z m6 noE (env0 [ao a.1 a.2.1,ao a.1 a.2.2] 2) G (ends λd G'=>G'=G/\d=aP (bh a.1 a.2.1 a.2.2).head?):=by
 obtain ⟨w,rs,ss⟩:=a;obtain ⟨hb,hb'⟩:=h;dsimp only at hb hb' ⊢;have eb:(([97,108,105,107,101]==[112,97,114,116,101,100]):Bool)=false:=by decide
 simp_all_arith[m6];nofun;erw[h1];refine Kq hb hb' λd hq=>?_;rcases hq with ⟨m,hm,rfl⟩ |⟨hnil,t,bs,rfl,_,_⟩
 .erw[Aa];ac_nf0;erw[BEq.rfl,hm,aP,and_self]
 .erw[Ab];ac_nf0;erw[eb,hnil,List.head?_nil,aP,and_self]
def unl(f g:AA)(n:Nat):AA:=(List.range n).filter λi=>f[i]? != g[i]?
def bW(f g:AA):Option (AA):=if bL g f=true then some g else if bL f g=true then some f else match unl f g f.length with |[i]=>some (f.set i 42) |_=>none
def km:AS->Option D
 |[.str f,.str g]=>if decide (f.length=g.length)&&decide (f.length<=1000) then some (aP (bW f g)) else none
 |_=>none
def afA{f g:AA}{G:DH}{k:AT}{E:EK}(hl:f.length=g.length)(h:f.length<=1000)(hk:k (aP (bW f g)) G):(aM km).t [.str f,.str g] G k E:=dB (if_pos (by rw[ck hl,ck h];rfl)) hk
def afB{f g:AA}{n:Nat}:unl f g (n+1)=unl f g n++(if (f[n]? != g[n]?)=true then [n] else []):=by unfold unl;rw[iL,fo];congr 1;rw[List.filter_cons,List.filter_nil]
def afC{f g:AA}{n:Nat}:(unl f g n).length<=n:=by unfold unl;exact bS (List.length_filter_le _ _) (by simp)
def Kz{f g:AA}{i:Nat}(hl:f.length=g.length)(h:unl f g f.length=[i]):i < f.length/\f[i]?≠g[i]?/\∀j,j≠i->f[j]?=g[j]?:=by
 have hm:∀j,j∈unl f g f.length↔j < f.length/\f[j]?≠g[j]?:=λj=>by unfold unl;simp
 have h1:=(hm i).mp (by rw[h];simp);refine ⟨h1.1,h1.2,λj hj=>?_⟩;by_cases hlt:j < f.length
 .apply Classical.byContradiction;intro hne;have:=(hm j).mpr ⟨hlt,hne⟩;rw[h]at this;exact hj (aE.mp this)
 .rw[eA (!0),eA (!0)]
def afD (Z:aj) (h1:Z "lies_in"=aM kh) (h2:Z "with_sign"=aM g8) (ds:AS) (G:DH) (d:D) (h:km ds=some d):aA Z mj noE (env0 ds 1) G (ends λd' G'=>G'=G/\d'=d):=by
 unfold km at h;split at h
 .rename_i f g;split at h
  .rename_i hh;rw[ae,cf,cf]at hh;obtain ⟨hl,hz⟩:=hh;cases h;simp_all_arith[mj];nofun;erw[h1];refine Ke (!0) ?_;cases q1:bL g f with
   |true=>
    have ej:bW f g=some g:=by unfold bW;rw[if_pos q1]
    erw[ej,aP]
   |false=>
    erw[ends];symm;erw[h1];refine Ke (!0) ?_;cases q2:bL f g with
    |true=>
     have ej:bW f g=some f:=by unfold bW;rw[if_neg (by rw[q1];decide),if_pos q2]
     erw[ej,aP]
    |false=>
     have ej:bW f g=match unl f g f.length with |[i]=>some (f.set i 42) |_=>none:=by unfold bW;rw[if_neg (by rw[q1];decide),if_neg (by rw[q2];decide)]
     erw[ends];symm;erw[ends];refine CompG.inv (P:=λi acc Y G'=>(∃o0 o1,Y=[o0,o1,some (.str g)])/\G'=G/\acc=(unl f g i).map λj:Nat=>D.int (j:Int)) ⟨⟨_,_,rfl⟩,rfl,rfl⟩ (λ_ _ _ _ _=>trivial) (by rw[iC,af];bv_omega) ?_ ?_
     .rintro i d acc Y G' hd ⟨⟨o0,o1,rfl⟩,rfl,rfl⟩ kk hk;rw[jn]at hd;obtain ⟨d',hd',rfl⟩:=ay.mp hd;rw[av]at hd';obtain ⟨x,hx,rfl⟩:=ay.mp hd';have hi:=(ah.mp hx).1;have hy:g[i]?=some (g[i]'(!0)):=by simp[show i < g.length by omega]
      generalize (g[i]'(!0))=y at hy;have us:=@afB f g i;simp_arith![ends];refine aU (a:=y) (by rw[Nat.zero_add];exact bA hy) ?_;erw[eU];cases hxy:(x==y) with
      |true=>
       have e:x=y:=by simpa using hxy
       erw[ends];refine hk none _ _ ⟨⟨some (.int ((0+i:Nat):Int)),some (.str [x]),rfl⟩,rfl,?_⟩;rw[us,hx,hy,e];simp
      |false=>
       have e:x≠y:=by simpa using hxy
       erw[ends];refine hk (some (.int ((0+i:Nat):Int))) _ _ ⟨⟨some (.int ((0+i:Nat):Int)),some (.str [x]),rfl⟩,rfl,?_⟩;rw[us,hx,hy];simp[e]
     .rintro acc Y G' ⟨_,rfl,rfl⟩;rw[iC,af];have ul:=@afC f g f.length;symm;cases hu:unl f g f.length with
      |nil=>
       rw[hu]at ej;erw[ends];refine hM _ _ ?_;erw[ej,aP]
      |cons i r=>
       cases r with
       |nil=>
        rw[hu]at ej;have:=(Kz hl hu).1;erw[h2];exact nZ this hz ⟨rfl,by rw[ej];rfl⟩
       |cons j r=>
        have e:((((List.map (λj:Nat=>D.int (j:Int)) (i::j::r)).length:Nat):Int)==1)=false:=by rw[eh,af,ci,ci];omega
        rw[hu]at ej;simp_arith![e];refine hM _ _ ?_;erw[ej,aP]
  .cases h
 .cases h
def KC{w:Nat}{f g h:AA}(hf:okF w f)(hg:okF w g)(e:bW f g=some h):okF w h:=by
 unfold bW at e;split at e
 .cases e;exact hg
 .split at e
  .cases e;exact hf
  .split at e
   .cases e;exact nY hf (.inr (.inr rfl))
   .cases e
def rw0(rs:AU)(i:Nat):Row:=rs.getD i ([],[])
def jbR(rs:AU)(i j a:Nat):Option (AU):=
 match bW (rw0 rs i).1 (rw0 rs j).1 with
 |none=>none
 |some f=>if (rw0 rs i).2=(rw0 rs j).2 then some (wo (rs.set a (f,(rw0 rs a).2)) (if a=i then j else i)) else none
def bD(w:Nat):Option (AU)->D
 |none=>.non
 |some rs=>ao w rs
structure JB where
 w:Nat
 rs:AU
 i:Nat
 j:Nat
 a:Nat
def iQ(a:JB):Prop:=okB a.w a.rs/\a.i < a.j/\a.j < a.rs.length/\(a.a=a.i\/a.a=a.j)
def sJB:RF.Spec:=bJ (λa:JB=>[ao a.w a.rs,.int (a.i:Nat),.int (a.j:Nat),.int (a.a:Nat)]) iQ (λa=>bD a.w (jbR a.rs a.i a.j a.a))
def iR{rs:AU}{i:Nat}(h:i < rs.length):rs[i]?=some (rw0 rs i):=by unfold rw0;rw[db,aS h];rfl
def jx{rs:AU}{i:Nat}(h:i < rs.length):rw0 rs i∈rs:=bb (iR h)
def oA{rs:AU}{i:Nat}(h:i < rs.length):atI (rs.map az) (i:Int)=some (az (rw0 rs i)):=bA (by rw[av,iR h];rfl)
def KD{w p:Nat}{rs:AU}{f:AA}(hb:okB w rs)(hp:p < rs.length)(hf:okF w f):okB w (rs.set p (f,(rw0 rs p).2)):=by
 have hm:∀x∈rs.set p (f,(rw0 rs p).2),x∈rs\/x=(f,(rw0 rs p).2):=λx hx=>List.mem_or_eq_of_mem_set hx;refine ⟨hb.w1,hb.w6,by rw[cK];exact hb.len,λr hr=>?_,λr hr=>?_⟩
 .rcases hm r hr with h |rfl
  .exact hb.form r h
  .exact hf
 .rcases hm r hr with h |rfl
  .exact hb.deed r h
  .exact show okD (rw0 rs p).2 from hb.deed _ (jx hp)
def Ah{a:JB}(h:iQ a){ss:AU}(e:jbR a.rs a.i a.j a.a=some ss):okB a.w ss/\ss.length+1=a.rs.length:=by
 obtain ⟨w,rs,i,j,p⟩:=a;obtain ⟨hb,h1,h2,h3⟩:=h;dsimp only at hb h1 h2 h3 e ⊢;unfold jbR at e;cases hj:bW (rw0 rs i).1 (rw0 rs j).1 with
 |none=>rw[hj]at e;cases e
 |some f=>
  rw[hj]at e;dsimp only at e;split at e
  .cases e;have hf:=KC (hb.form _ (jx (show i < rs.length by omega))) (hb.form _ (jx h2)) hj;have hp:p < rs.length:=by omega
   have hs:okB w (rs.set p (f,(rw0 rs p).2)):=KD hb hp hf;have hk:(if p=i then j else i) < (rs.set p (f,(rw0 rs p).2)).length:=by rw[cK];split <;> omega
   refine ⟨ux hs hk,?_⟩;have:=uw hk;rw[cK]at this hk;omega
  .cases e
def afE{α:Type}{l:List α}{n:Nat}{x:α}(h:n < l.length):l.take n++[x]++l.drop (n+1)=l.set n x:=by rw[iS,if_pos h,bo];rfl
def afF (Z:aj) (h1:Z "joined"=aM km) (h2:Z "without"=sWo) (a:JB) (G:DH) (h:iQ a):aA Z mO noE (env0 [ao a.w a.rs,.int (a.i:Nat),.int (a.j:Nat),.int (a.a:Nat)] 4) G (ends λd G'=>G'=G/\d=bD a.w (jbR a.rs a.i a.j a.a)):=by
 have hall:=h;obtain ⟨w,rs,i,j,p⟩:=a;obtain ⟨hb,hij,hj,hp⟩:=h;dsimp only at hb hij hj hp ⊢;have hw6:=hb.w6;have hlen:=hb.len;have hi:i < rs.length:=by omega
 have hpl:p < rs.length:=by omega
 have fi:=hb.form _ (jx hi);have fj:=hb.form _ (jx hj);have fi1:=fi.1;have fj1:=fj.1;simp_all_arith[mO,ao];nofun;erw[ends];symm;erw[h1];refine aU (oA hi) ?_;erw[az];refine aU (oA hj) ?_;erw[az];refine afA (!0) (!0) (hM _ _ (seq λM hM=>?_));cases hjn:bW (rw0 rs i).1 (rw0 rs j).1 with
 |none=>
  have e:jbR rs i j p=none:=by unfold jbR;rw[hjn]
  erw[aP,e,bD]
 |some f=>
  have hf:=KC fi fj hjn;have hfl:=hf.1;erw[aP];refine aU (oA hi) ?_;erw[az];refine aU (oA hj) ?_;erw[az];by_cases hd:(rw0 rs i).2=(rw0 rs j).2
  .have e:jbR rs i j p=some (wo (rs.set p (f,(rw0 rs p).2)) (if p=i then j else i)):=by unfold jbR;rw[hjn];exact if_pos hd
   have hsb:=(Ah hall e).1;rw[hd];erw[BEq.rfl];symm;erw[jt,Ad,af,br,ce];refine aU (oA hpl) ?_;erw[az];have em:(rs.take p).map az++[D.tup [.str f,.str (rw0 rs p).2]]++(rs.drop (p+1)).map az=(rs.set p (f,(rw0 rs p).2)).map az:=by rw[<-afE hpl,cb,cb];rfl
   refine ⟨!1,!1,by bv_omega,by rw[ax,af,br,gN];bv_omega,!1,hM _ _ (last ?_)⟩;have hsl:(rs.set p (f,(rw0 rs p).2)).length=rs.length:=cK;have e0:D.tup [.int w,.tup ((rs.set p (f,(rw0 rs p).2)).map az)]=ao w (rs.set p (f,(rw0 rs p).2)):=rfl;rw[em,e0];have hset:okB w (rs.set p (f,(rw0 rs p).2)):=KD hb hpl hf;by_cases hpi:p=i
   .subst hpi;rw[if_pos rfl]at e;erw[BEq.rfl,h2];refine uy hset (!0) ⟨rfl,?_⟩;rw[e];rfl
   .have hne:((p:Int)==(i:Int))=false:=by simpa using (λh=>hpi (!0))
    rw[if_neg hpi]at e;erw[hne,h2];refine uy hset (!0) ⟨rfl,?_⟩;rw[e];rfl
  .have e:jbR rs i j p=none:=by unfold jbR;rw[hjn];exact if_neg hd
   have hne:((rw0 rs i).2==(rw0 rs j).2)=false:=by simpa using hd
   erw[hne,e,bD]
def Ai{step:D->AS->aq->DH->(AS->aq->DH->Prop)->Prop}{g:Hld}{k:AS->aq->DH->Prop}:∀{items:AS}{acc:AS}{Y:aq}{G:DH}(P:Nat->AS->aq->DH->Prop)(_:P 0 acc Y G)(_:∀i a Y G,P i a Y G->held g G)
  (_:∀i d a Y G,items[i]?=some d->P i a Y G->∀kk:AS->aq->DH->Prop,(∀a' ρ' G',P (i+1) a' ρ' G'->kk a' ρ' G')->step d a Y G kk) (_:∀a Y G,P items.length a Y G->k a Y G),dH step g items acc Y G k
 |[],acc,Y,G,P,h0,hh,_,he=>⟨hh _ _ _ _ h0,he _ _ _ h0⟩
 |d::ds,acc,Y,G,P,h0,hh,hs,he=>⟨hh _ _ _ _ h0,hs 0 d acc Y G rfl h0 _ λa' ρ' G' p=>Ai (λi=>P (i+1)) p (λi=>hh (i+1)) (λi d a Y G e=>hs (i+1) d a Y G (by rw[List.getElem?_cons_succ];exact e)) he⟩
def dq(i j:Nat):List (Nat×Nat×Nat):=[(i,j,i),(i,j,j)]
def eX(n i:Nat):List (Nat×Nat×Nat):=(List.range (n - (i+1))).flatMap λj=>dq i (i+1+j)
def dX(n:Nat):List (Nat×Nat×Nat):=(List.range n).flatMap (eX n)
def dT3(t:Nat×Nat×Nat):D:=.tup [.int (t.1:Nat),.int (t.2.1:Nat),.int (t.2.2:Nat)]
def kE{α:Type}(f:Nat->List α)(i:Nat):(List.range (i+1)).flatMap f=(List.range i).flatMap f++f i:=by rw[iL,List.flatMap_append,i0,List.flatMap_nil,fA]
def oE{α:Type}(f:Nat->List α)(m:Nat):∀i:Nat,(∀j,j < i->(f j).length<=m)->((List.range i).flatMap f).length<=i * m
 |0,_=>Nat.le_of_eq (by simp)
 |i+1,h=>by
  rw[kE,ax,Nat.succ_mul];exact Nat.add_le_add (oE f m i λj hj=>h j (!0)) (h i (!0))
def KH{n i:Nat}(hn:n<=12):(eX n i).length<=24:=bS (oE _ 2 _ λ_ _=>am _) (!0)
def KJ{n:Nat}(hn:n<=12):(dX n).length<=288:=bS (oE _ 24 _ λ_ _=>KH hn) (!0)
def KN{n i j a:Nat}(h:(i,j,a)∈dX n):i < j/\j < n/\(a=i\/a=j):=by unfold dX at h;obtain ⟨x,hx,h⟩:=gz.mp h;unfold eX at h;obtain ⟨y,hy,h⟩:=gz.mp h;rw[iX]at hx hy;simp only[dq,bg,dE,hZ,Prod.mk.injEq]at h;omega
def afG{Z:aj}{n:Nat}{b:D}{o2 o3:Option D}{G:DH}{k:AT}(hn:n<=12)(hk:k (.lst ((dX n).map dT3)) G):
  wpE Z (.cm3 (.tup (.cons (.var 0) (.cons (.var 1) (.cons (.var 2) .nil)))) (.nm 0) (.rng (.var 1)) (.nm 1) (.rng2 (.bin .Add true (.var 0) (.cst (.int 1))) (.var 3)) (.nm 2) (.seq (.tup (.cons (.var 0) (.cons (.var 1) .nil)))) ["one","other","at","many"] [none,none,none,some 1]) noE [some b,some (.int (n:Int)),o2,o3] G k:=by
 rw[xF];erw[ends];refine ⟨!0,Ai (P:=λi acc Y G'=>(∃o0 o1 o2,Y=[o0,o1,o2,some (.int (n:Int))])/\G'=G/\i<=n/\acc=((List.range i).flatMap (eX n)).map dT3) ⟨⟨_,_,_,rfl⟩,rfl,eP _,rfl⟩ (λ_ _ _ _ _=>trivial) ?_ ?_⟩
 .rintro i d acc Y G' hd ⟨⟨o0,o1,o2,rfl⟩,rfl,hin,rfl⟩ kk hkk;have hi:i < n:=by
   have:=(ah.mp hd).1;simpa [aL] using this
  have hdi:d=.int (i:Int):=by unfold aL at hd;rw[av,ff (!!hi)]at hd;simpa using hd.symm
  subst hdi;erw[ends];refine ⟨!0,Ai (P:=λj acc Y G''=>(∃o1 o2,Y=[some (.int (i:Int)),o1,o2,some (.int (n:Int))])/\G''=G'/\j<=n - (i+1)/\acc=(((List.range i).flatMap (eX n))++(List.range j).flatMap λj=>dq i (i+1+j)).map dT3) ⟨⟨_,_,rfl⟩,rfl,eP _,by simp⟩ (λ_ _ _ _ _=>trivial) ?_ ?_⟩
  .rintro j d acc Y G'' hd ⟨⟨o1,o2,rfl⟩,rfl,hjn,rfl⟩ kk2 hkk2;have hj:j < n - (i+1):=by
    have:=(ah.mp hd).1;unfold aL at this;rw[af,fy]at this;omega
   have hdj:d=.int ((i+1+j:Nat):Int):=by unfold aL at hd;rw[av,ff (!0)]at hd;rw[<-cm hd];congr 1
   subst hdj;have l1:=oE (eX n) 24 i λ_ _=>KH hn;have l2:=oE (λj=>dq i (i+1+j)) 2 j λ_ _=>am _;have hl:((((List.range i).flatMap (eX n))++(List.range j).flatMap λj=>dq i (i+1+j)).map dT3).length<=400:=by rw[af,ax];omega
   erw[ends];refine ⟨!1,trivial,by bv_omega,!1,trivial,?_⟩;refine ⟨by rw[ax,gN];bv_omega,?_⟩;erw[ends];refine ⟨!1,trivial,hkk2 _ _ _ ⟨⟨_,_,rfl⟩,rfl,!0,?_⟩⟩;rw[kE,<-bo,cb (l₁:=_++_),bo];rfl
  .rintro acc Y G'' ⟨⟨o1,o2,rfl⟩,rfl,_,rfl⟩;refine hkk _ _ _ ⟨⟨_,_,_,rfl⟩,rfl,hi,?_⟩;have el:(aL ((i:Int)+1) ((n:Int) - ((i:Int)+1)).toNat).length=n - (i+1):=by unfold aL;rw[af,fy];omega
   rw[el,kE];rfl
 .rintro acc Y G' ⟨_,rfl,_,rfl⟩;have el:(aL 0 (n:Int).toNat).length=n:=by simp[aL]
  rw[el];have:=KJ hn;exact ⟨by rw[af];unfold dX at this;bv_omega,hk⟩
def cX(rs:AU)(t:Nat×Nat×Nat):Option ((Nat×Nat×Nat)×AU):=(jbR rs t.1 t.2.1 t.2.2).map λss=>(t,ss)
def cnd(rs:AU):List ((Nat×Nat×Nat)×AU):=(dX rs.length).filterMap (cX rs)
def dC(w:Nat)(c:(Nat×Nat×Nat)×AU):D:=.tup [.int (c.1.1:Nat),.int (c.1.2.1:Nat),.int (c.1.2.2:Nat),ao w c.2]
def mk3(w:Nat)(rs:AU)(t:Nat×Nat×Nat):D:=.tup [.int (t.1:Nat),.int (t.2.1:Nat),.int (t.2.2:Nat),bD w (jbR rs t.1 t.2.1 t.2.2)]
def KQ{w:Nat}{rs:AU}(hb:okB w rs){c:(Nat×Nat×Nat)×AU}(h:c∈cnd rs):okB w c.2/\c.2.length+1=rs.length:=by obtain ⟨t,ht,e⟩:=List.mem_filterMap.mp h;unfold cX at e;obtain ⟨ss,hs,rfl⟩:=ay.mp e;obtain ⟨h1,h2,h3⟩:=KN (i:=t.1) (j:=t.2.1) (a:=t.2.2) ht;exact Ah (a:=⟨w,rs,t.1,t.2.1,t.2.2⟩) ⟨hb,h1,h2,h3⟩ hs
def uE:RF.Spec:=bJ (λa:Nat×AU=>[ao a.1 a.2]) (λa=>okB a.1 a.2) (λa=>.lst ((cnd a.2).map (dC a.1)))
def afH{w:Nat}{rs:AU}{G:DH}{k:AT}{E:EK}(h:okB w rs)(hk:k (.lst ((cnd rs).map (dC w))) G):uE.t [ao w rs] G k E:=bT (w,rs) rfl h hk
def afI{w i j a:Nat}{rs:AU}{G:DH}{k:AT}{E:EK}(h:iQ ⟨w,rs,i,j,a⟩)(hk:k (bD w (jbR rs i j a)) G):sJB.t [ao w rs,.int (i:Int),.int (j:Int),.int (a:Int)] G k E:=bT (⟨w,rs,i,j,a⟩:JB) rfl h hk
def afJ (Z:aj) (h1:Z "joined_book"=sJB) (a:Nat×AU) (G:DH) (h:okB a.1 a.2):aA Z mQ noE (env0 [ao a.1 a.2] 3) G (ends λd G'=>G'=G/\d=.lst ((cnd a.2).map (dC a.1))):=by
 obtain ⟨w,rs⟩:=a;have hb:okB w rs:=h;dsimp only;have hlen:=hb.len;have htl:=KJ hlen;have e0:ao w rs=.tup [.int w,.tup (rs.map az)]:=rfl;simp_all_arith[mQ];nofun;conv=>enter [4,1,1];rw[e0]
 erw[af];symm;rw[jc];refine afG hlen ?_;erw[ends];symm;erw[ends];refine CompG.inv (P:=λi acc Y G'=>(∃o0 o1 o2,Y=[o0,o1,o2,some (ao w rs)])/\G'=G/\acc=((dX rs.length).take i).map (mk3 w rs)) ⟨⟨_,_,_,rfl⟩,rfl,rfl⟩ (λ_ _ _ _ _=>trivial) (by rw[af];bv_omega) ?_ ?_
 .rintro i d acc Y G' hd ⟨⟨o0,o1,o2,rfl⟩,rfl,rfl⟩ kk hk;rw[av]at hd;obtain ⟨⟨x,y,z⟩,ht,rfl⟩:=ay.mp hd;obtain ⟨m1,m2,m3⟩:=KN (bb ht);erw[dT3,h1];refine afI ⟨hb,m1,m2,m3⟩ ⟨!1,hk _ _ _ ⟨⟨_,_,_,rfl⟩,rfl,?_⟩⟩;rw[da,ht,cb];rfl
 .rintro acc Y G' ⟨_,rfl,rfl⟩;rw[af,ee];ac_nf0;erw[ends];refine CompG.inv (P:=λi acc Y G''=>(∃o0,Y=[o0])/\G''=G'/\acc=(((dX rs.length).take i).filterMap (cX rs)).map (dC w)) ⟨⟨_,rfl⟩,rfl,rfl⟩ (λ_ _ _ _ _=>trivial) (by rw[af];bv_omega) ?_ ?_
  .rintro i d acc Y G'' hd ⟨⟨o0,rfl⟩,rfl,rfl⟩ kk hk;rw[av]at hd;obtain ⟨⟨x,y,z⟩,ht,rfl⟩:=ay.mp hd;have et:((dX rs.length).take (i+1)).filterMap (cX rs)=((dX rs.length).take i).filterMap (cX rs)++(cX rs (x,y,z)).toList:=by
    rw[da,ht,i8];cases hc:cX rs (x,y,z) with
    |none=>rw[Option.toList_some,List.filterMap_cons_none hc];rfl
    |some c=>rw[Option.toList_some,List.filterMap_cons_some hc];rfl
   cases hj:jbR rs x y z with
   |none=>
    have hc:cX rs (x,y,z)=none:=by unfold cX;rw[hj];rfl
    erw[mk3,hj,bD,ir];refine hk none _ _ ⟨⟨_,rfl⟩,rfl,?_⟩;rw[et,hc,cb];rfl
   |some ss=>
    have hc:cX rs (x,y,z)=some ((x,y,z),ss):=by unfold cX;rw[hj];rfl
    erw[mk3,hj,bD,ao,ir];refine hk (some _) _ _ ⟨⟨_,rfl⟩,rfl,?_⟩;rw[et,hc,cb];rfl
  .rintro acc Y G'' ⟨_,rfl,rfl⟩;rw[af,ee];exact ⟨rfl,rfl⟩
def iT(w:Nat)(rs:AU):nr (ao w rs)=true:=by unfold ao;simp only[nr,nrs,z8,Bool.and_true]
def Aj{α:Type}(l:List α):l.isEmpty=l.head?.isNone:=by cases l <;> rfl
def fjO(w:Nat)(rs:AU):Option (AU):=((cnd rs).find? λc=>(bh w rs c.2).isEmpty).map (·.2)
def sFJ:RF.Spec:=bJ (λa:Nat×AU=>[ao a.1 a.2]) (λa=>okB a.1 a.2) (λa=>bD a.1 (fjO a.1 a.2))
def KR{w:Nat}{rs:AU}{G:DH}{k:AT}{E:EK}(h:okB w rs)(hk:k (bD w (fjO w rs)) G):sFJ.t [ao w rs] G k E:=bT (w,rs) rfl h hk
def Ak{w:Nat}{rs ss:AU}(hb:okB w rs)(h:fjO w rs=some ss):okB w ss/\ss.length+1=rs.length/\bh w rs ss=[]:=by unfold fjO at h;obtain ⟨c,hc,rfl⟩:=ay.mp h;obtain ⟨h1,h2⟩:=KQ hb (List.mem_of_find?_eq_some hc);exact ⟨h1,h2,io.mp (List.find?_some (p:=λc:(Nat×Nat×Nat)×AU=>(bh w rs c.2).isEmpty) hc)⟩
def afK (Z:aj) (h2:Z "candidates"=uE) (h3:Z "parting_word"=uD) (a:Nat×AU) (G:DH) (h:okB a.1 a.2):aA Z m7 noE (env0 [ao a.1 a.2] 4) G (ends λd G'=>G'=G/\d=bD a.1 (fjO a.1 a.2)):=by
 obtain ⟨w,rs⟩:=a;have hb:okB w rs:=h;dsimp only;simp_all_arith[m7];nofun;simp_arith![h2];refine afH hb ?_;simp_arith![ends];refine ForG.inv (P:=λi Y G'=>(∃o1 o2 o3 o4,Y=[some (ao w rs),o1,o2,o3,o4])/\G'=G/\fjO w rs=(((cnd rs).drop i).find? λc=>(bh w rs c.2).isEmpty).map (·.2)) ⟨⟨_,_,_,_,rfl⟩,rfl,rfl⟩ (λ_ _ _ _=>trivial) ?_ ?_
 .rintro i d Y G' hd ⟨⟨o1,o2,o3,o4,rfl⟩,rfl,hf⟩ kk hk;rw[av]at hd;obtain ⟨⟨⟨x,y,z⟩,ss⟩,ht,rfl⟩:=ay.mp hd;have hs:=(KQ hb (bb ht)).1;have hlt:=(ah.mp ht).1;have hdr:(cnd rs).drop i=((x,y,z),ss)::(cnd rs).drop (i+1):=by
   rw[bP hlt,(ah.mp ht).2]
  rw[hdr]at hf;simp_arith![dC];refine last ?_;erw[h3];refine afy hb hs ?_;cases hh:(bh w rs ss).head? with
  |none=>
   rw[List.find?_cons_of_pos (by rw[Aj,hh];rfl)]at hf;erw[aP,hf];rfl
  |some m=>
   rw[List.find?_cons_of_neg (by rw[Aj,hh];exact bn)]at hf;erw[aP];exact hk _ _ ⟨⟨_,_,_,_,rfl⟩,rfl,hf⟩
 .rintro Y G' ⟨⟨o1,o2,o3,o4,rfl⟩,rfl,hf⟩;rw[af,dP]at hf;ac_nf0;erw[hf];rfl
def ajR(w:Nat):Nat->AU->AU
 |0,rs=>rs
 |n+1,rs=>match fjO w rs with |none=>rs |some ss=>ajR w n ss
def Al{w:Nat}{rs:AU}(h:fjO w rs=none)(n:Nat):ajR w n rs=rs:=by
 cases n with
 |zero=>rfl
 |succ n=>rw[ajR,h]
def Am{w n:Nat}{rs ss:AU}(h:fjO w rs=some ss):ajR w (n+1) rs=ajR w n ss:=by rw[ajR,h]
def uF{w:Nat}:∀(n:Nat){rs:AU},okB w rs->okB w (ajR w n rs)/\(ajR w n rs=rs\/(ajR w n rs).length < rs.length)
 |0,rs,hb=>⟨hb,.inl rfl⟩
 |n+1,rs,hb=>by
  cases hf:fjO w rs with
  |none=>rw[Al hf];exact ⟨hb,.inl rfl⟩
  |some ss=>
   rw[Am hf];obtain ⟨h1,h2,_⟩:=Ak hb hf;obtain ⟨q1,q2⟩:=uF n h1;refine ⟨q1,.inr ?_⟩;rcases q2 with e |e
   .rw[e];omega
   .omega
def sAJ:RF.Spec:=bJ (λa:Nat×AU=>[ao a.1 a.2]) (λa=>okB a.1 a.2) (λa=>ao a.1 (ajR a.1 a.2.length a.2))
def KY{w:Nat}{rs:AU}{G:DH}{k:AT}{E:EK}(h:okB w rs)(hk:k (ao w (ajR w rs.length rs)) G):sAJ.t [ao w rs] G k E:=bT (w,rs) rfl h hk
def afL (Z:aj) (h1:Z "first_joined"=sFJ) (a:Nat×AU) (G:DH) (h:okB a.1 a.2):aA Z m8 noE (env0 [ao a.1 a.2] 2) G (ends λd G'=>G'=G/\d=ao a.1 (ajR a.1 a.2.length a.2)):=by
 obtain ⟨w,rs⟩:=a;have hb:okB w rs:=h;dsimp only;simp_all_arith[m8];nofun;erw[ends];symm;erw[h1];refine KR hb (hM _ _ (seq λM hM=>?_));simp_arith![ends];refine ⟨rs.length+1,WhlG.inv (P:=λn Y G'=>∃cur,Y=[some (ao w rs),some (ao w cur),some (bD w (fjO w cur))]/\G'=G/\okB w cur/\cur.length=n/\ajR w cur.length cur=ajR w rs.length rs) ?_ rs.length _ _ ⟨rs,rfl,rfl,hb,rfl,rfl⟩⟩;rintro n Y G' ⟨cur,rfl,rfl,hc,rfl,he⟩;cases hf:fjO w cur with
 |none=>
  rw[Al hf]at he;erw[bD,ir];ac_nf0;erw[he]
 |some ss=>
  obtain ⟨q1,q2,_⟩:=Ak hc hf;rw[<-q2,Am hf]at he;simp_arith![bD,ao,ir];intro kk hk;nofun;erw[ends];ac_nf0;erw[h1];exact KR q1 (hk ss.length _ _ (!0) ⟨ss,rfl,rfl,q1,rfl,he⟩)
def prS(w:Nat)(rs:AU):AU:=lnR w (ajR w rs.length rs).length (ajR w rs.length rs)
def KZ{w:Nat}:∀(k:Nat){rs:AU},k<=rs.length->lnR w k rs=rs\/(lnR w k rs).length < rs.length:=by
 intro k;induction k with
 |zero=>exact λ{_} _=>.inl rfl
 |succ k ih=>
  intro rs hk;rw[lnR];by_cases h:(bh w rs (wo rs k)).isEmpty=true
  .have hl:=uw (show k < rs.length by omega);have e:lnS w rs k=wo rs k:=if_pos h;rw[e];rcases ih (rs:=wo rs k) (!0) with q |q
   .rw[q];exact .inr (!0)
   .exact .inr (!0)
  .have e:lnS w rs k=rs:=if_neg h;rw[e];exact ih (!0)
def oF{w:Nat}{rs:AU}(hb:okB w rs):okB w (prS w rs)/\(prS w rs=rs\/(prS w rs).length < rs.length):=by
 obtain ⟨h1,h2⟩:=uF rs.length hb;refine ⟨Af _ h1 (am _),?_⟩;unfold prS;rcases h2 with e |e
 .rw[e];exact KZ _ (am _)
 .rcases KZ (w:=w) (ajR w rs.length rs).length (am (ajR w rs.length rs).length) with q |q
  .rw[q];exact .inr e
  .exact .inr (!0)
def bkE(w:Nat)(rs ss:AU):Bool:=deq (ao w rs) (ao w ss)
def prR(w:Nat):Nat->AU->AU
 |0,rs=>prS w rs
 |n+1,rs=>if bkE w (prS w rs) rs=true then prS w rs else prR w n (prS w rs)
def afM:RF.Spec:=bJ (λa:Nat×AU=>[ao a.1 a.2]) (λa=>okB a.1 a.2) (λa=>ao a.1 (prR a.1 (a.2.length+1) a.2))
def uG:RF.Spec:=afM
def K1{w:Nat}{rs ss:AU}:nr (ao w rs)=true/\nr (ao w ss)=true/\min (dpt (ao w rs)) (dpt (ao w ss))<=60:=by
 have h:∀l:AU,aV (l.map az)<=1:=λl=>Jm λd hd=>by obtain ⟨_,_,rfl⟩:=b6.mp hd;exact am _
 refine ⟨iT w rs,iT w ss,bS (Nat.min_le_left _ _) ?_⟩;have:=h rs;unfold ao;simp only[dpt,aV];omega
def afN (Z:aj) (h1:Z "need_book"=jr) (h2:Z "all_joined"=sAJ) (h3:Z "lean"=uA) (a:Nat×AU) (G:DH) (h:okB a.1 a.2):aA Z nu noE (env0 [ao a.1 a.2] 2) G (ends λd G'=>G'=G/\d=ao a.1 (prR a.1 (a.2.length+1) a.2)):=by
 obtain ⟨w,rs⟩:=a;have hb:okB w rs:=h;dsimp only;simp_all_arith[nu];nofun;erw[h1];refine nQ hb (hM _ _ (seq λM hM=>?_));erw[ends];symm;erw[h2,h3];refine KY hb (Ks (uF _ hb).1 (hM _ _ (seq λM hM=>?_)));rw[yu];refine ⟨rs.length+1,WhlG.inv (P:=λn Y G'=>∃cur f,Y=[some (ao w rs),some (ao w cur),some (ao w (prS w cur))]/\G'=G/\okB w cur/\cur.length=n/\cur.length < f/\prR w f cur=prR w (rs.length+1) rs) ?_ rs.length _ _ ⟨rs,rs.length+1,rfl,rfl,hb,rfl,d0 _,rfl⟩⟩;rintro n Y G' ⟨cur,f,rfl,rfl,hc,rfl,hf,he⟩;obtain ⟨f,rfl⟩:∃f',f=f'+1:=⟨f - 1,!0⟩;obtain ⟨q1,q2⟩:=oF hc;rw[prR]at he;simp_arith![nM (iT _ _)];refine ⟨K1,?_⟩;cases hd:deq (ao w (prS w cur)) (ao w cur) with
 |true=>
  rw[if_pos (show bkE w (prS w cur) cur=true from hd)]at he;ac_nf0;erw[he]
 |false=>
  rw[if_neg (by unfold bkE;rw[hd];exact bn)]at he;have hlt:(prS w cur).length < cur.length:=by
   rcases q2 with e |e
   .rw[e,lE (iT _ _)]at hd;cases hd
   .exact e
  intro kk hk;nofun;erw[ends];ac_nf0;erw[h2,h3];exact KY q1 (Ks (uF _ q1).1 (hk (prS w cur).length _ _ hlt ⟨prS w cur,f,rfl,rfl,q1,rfl,!0,he⟩))
def uH:RF.Spec:=bJ (A:=Nat×AU×AA) (λa=>[ao a.1 a.2.1,.str a.2.2]) (λa=>∀r∈a.2.1,r.1.length=a.2.2.length) (λa=>aP (bz a.2.1 (bC a.2.1 a.2.2)))
def K3{w:Nat}{rs:AU}{l:AA}{G:DH}{k:AT}{E:EK}(h:∀r∈rs,r.1.length=l.length)(hk:k (aP (bz rs (bC rs l))) G):uH.t [ao w rs,.str l] G k E:=bT (w,rs,l) rfl h hk
def afO (Z:aj) (h1:Z "_law_met"=uq) (a:Nat×AU×AA) (G:DH) (h:∀r∈a.2.1,r.1.length=a.2.2.length):
  aA Z za noE (env0 [ao a.1 a.2.1,.str a.2.2] 1) G (ends λd G'=>G'=G/\d=aP (bz a.2.1 (bC a.2.1 a.2.2))):=by
 obtain ⟨w,rs,l⟩:=a;dsimp only at h ⊢;simp_all_arith[za];nofun;erw[h1];refine aeR h (hM _ _ (seq λM hM=>?_));cases hm:bC rs l with
 |none=>erw[aW,bz,Option.bind,aP,and_self]
 |some n=>
  have hn:=aep hm;have hc:rs[n]?=some rs[n]:=aS hn;erw[aW];ac_nf0;erw[ao];refine aU (a:=az rs[n]) (bA (by rw[av,hc];rfl)) ?_;erw[az];simp[bz,hc,hm,aP]
def oG:RF.Spec:=ghS (A:=Nat×AU×AU) (λa ds _=>ds=[ao a.1 a.2.1,ao a.1 a.2.2]/\okB a.1 a.2.1/\okB a.1 a.2.2) (λa G d G'=>Sa G G'/\d=aP (bh a.1 a.2.1 a.2.2).head?)
def K4{w:Nat}{rs ss:AU}{G:DH}{k:AT}{E:EK}(h:okB w rs)(h':okB w ss)(hk:∀G',Sa G G'->k (aP (bh w rs ss).head?) G'):oG.t [ao w rs,ao w ss] G k E:=
 eG (w,rs,ss) ⟨rfl,h,h'⟩ λd G' hx=>by
  obtain ⟨e,q⟩:=hx;subst q;exact hk G' e
def afP (Z:aj) (h1:Z "_law_words"=nP) (h2:Z "_law_deed"=uH) (a:Nat×AU×AU) (ds:AS) (G:DH) (h:ds=[ao a.1 a.2.1,ao a.1 a.2.2]/\okB a.1 a.2.1/\okB a.1 a.2.2):
  aA Z zb noE (env0 ds 1) G (ends λd G'=>Sa G G'/\d=aP (bh a.1 a.2.1 a.2.2).head?):=by
 obtain ⟨w,rs,ss⟩:=a;obtain ⟨rfl,hb,hb'⟩:=h;dsimp only at hb hb' ⊢;have hw6:=hb.w6;have e0:∀xs:AU,D.tup [.int w,.tup (xs.map az)]=ao w xs:=λ_=>rfl;simp_all_arith[zb];nofun;simp_arith![ao,h1,eJ,JX];refine ⟨!0,!0,by bv_omega,zK (by rw[de];omega) λG1 sa1=>?_⟩;simp_arith![ends];refine ForG.inv (P:=λi Y G'=>(∃o2,Y=[some (.tup [.int w,.tup (rs.map az)]),some (.tup [.int w,.tup (ss.map az)]),o2])/\G'=G1/\((aH (List.replicate w 42)).take i).filter (λl=>!(bz rs (bC rs l)==bz ss (bC ss l)))=[]) ⟨⟨_,rfl⟩,rfl,rfl⟩ (λ_ _ _ _=>trivial) ?_ ?_
 .rintro i d Y G' hd ⟨⟨o2,rfl⟩,rfl,hall⟩ kk hk;rw[av]at hd;obtain ⟨l,hl,rfl⟩:=ay.mp hd;have hlm:=bb hl;have hll:l.length=w:=by have:=(aet.mp (eQ.mp hlm)).1;exact this
  have htk:(aH (List.replicate w 42)).take (i+1)=(aH (List.replicate w 42)).take i++[l]:=by rw[da,hl];rfl
  simp_arith![ends];refine last ?_;erw[h2];rw[e0,e0];refine K3 (λr hr=>by rw[(hb.form r hr).1,hll]) ?_;refine K3 (λr hr=>by rw[(hb'.form r hr).1,hll]) ?_;have done:(bz rs (bC rs l)==bz ss (bC ss l))=true->∀o2,kk [some (.tup [.int w,.tup (rs.map az)]),some (.tup [.int w,.tup (ss.map az)]),o2] G':=λhe o2=>hk _ _ ⟨⟨_,rfl⟩,rfl,by rw[htk,fo,hall];simp[he]⟩;have found:(bz rs (bC rs l)==bz ss (bC ss l))=false->(bh w rs ss).head?=some l:=λhe=>by
   unfold bh;have e:=eS (i+1) (aH (List.replicate w 42));rw[<-e,htk,fo,fo,hall];simp[he]
  generalize bz rs (bC rs l)=x at done found;generalize bz ss (bC ss l)=y at done found;cases x <;> cases y <;> erw[aP]
  .exact done rfl _
  .rw[found rfl];exact ⟨sa1,rfl⟩
  .rw[found rfl];exact ⟨sa1,rfl⟩
  .rename_i u v;cases he:(u==v) with
   |true=>
    erw[ends];exact done (!!he) _
   |false=>
    erw[ends];rw[found (!!he)];exact ⟨sa1,rfl⟩
 .rintro Y G' ⟨⟨o2,rfl⟩,rfl,hall⟩;rw[af,ee]at hall;refine hM _ _ ?_;erw[ends];refine ⟨sa1,?_⟩;unfold bh;rw[hall];rfl
def uI:RF.Spec:=ghS (A:=AQ×Nat×Nat) (λa ds G=>ds=[.ref a.1,.int (a.2.1:Nat),.int (a.2.2:Nat)]/\Pen G a.1/\1<=a.2.1/\a.2.1<=6/\a.2.2<=12) (λa G d G'=>∃w rs,d=ao w rs/\okB w rs/\Pen G' a.1/\Sb a.1 G G')
def afQ{p:AQ}{v m:Nat}{G:DH}{k:AT}{E:EK}(hp:Pen G p)(h1:1<=v)(h2:v<=6)(h3:m<=12)(hk:∀w rs G',okB w rs->Pen G' p->Sb p G G'->k (ao w rs) G'):uI.t [.ref p,.int (v:Int),.int (m:Int)] G k E:=eG (p,v,m) ⟨rfl,hp,h1,h2,h3⟩ λd G' hx=>by
 obtain ⟨w,rs,rfl,q1,q2,q3⟩:=hx;exact hk w rs G' q1 q2 q3
def afR (Z:aj) (h1:Z "_law_book"=ug) (h2:Z "_law_turned_alike"=sTA) (h3:Z "_law_take"=eN) (a:AQ×Nat×Nat) (ds:AS) (G:DH) (h:ds=[.ref a.1,.int (a.2.1:Nat),.int (a.2.2:Nat)]/\Pen G a.1/\1<=a.2.1/\a.2.1<=6/\a.2.2<=12):
  aA Z yP noE (env0 ds 1) G (ends λd G'=>∃w rs,d=ao w rs/\okB w rs/\Pen G' a.1/\Sb a.1 G G'):=by
 obtain ⟨p,v,m⟩:=a;obtain ⟨rfl,hp,hv1,hv2,hm⟩:=h;dsimp only at hp hv1 hv2 hm ⊢;simp_all_arith[yP];nofun;erw[h1];refine ad7 hp hv1 hv2 hm λw rs G1 hb _ _ hp1 sb1=>hM _ _ (last ?_);erw[h2,h3];refine cC hp1 (!1) (!1) λt G2 ht hp2 sb2=>?_;exact afw hp2 hb (!0) λrs' G3 hb' hp3 sb3=>⟨w,rs',rfl,hb',hp3,(sb1.trans sb2).trans sb3⟩
def afS{c:Nat}{f:AA}(h:c≠42):bO (c::f)=(bO f).map (c::·):=by rw[bO];unfold alt;rw[if_neg h];simp
def afT{f:AA}:bO (42::f)=(bO f).map (48::·)++(bO f).map (49::·):=by rw[bO];unfold alt;rw[if_pos rfl];simp
def K5(f:AA):bO f≠[]:=λh=>by
 have:=z6 f;rw[h]at this;have h1:0 < 2 ^ stc f:=Nat.two_pow_pos _;rw[<-this]at h1;exact absurd h1 (eT _)
def oH:∀{m:AA}{j c:Nat},m[j]?=some c->(∀w∈bO m,∃s,w[j]?=some s/\s∈alt c)/\∀s∈alt c,∃w∈bO m,w[j]?=some s
 |[],j,c,h=>by simp at h
 |a::m,0,c,h=>by
  have e:a=c:=by simpa using h
  subst e;rw[bO];refine ⟨λw hw=>?_,λs hs=>?_⟩
  .obtain ⟨s,hs,hw⟩:=gz.mp hw;obtain ⟨l,_,rfl⟩:=b6.mp hw;exact ⟨s,rfl,hs⟩
  .obtain ⟨l,hl⟩:=List.exists_mem_of_ne_nil _ (K5 m);exact ⟨s::l,gz.mpr ⟨s,hs,b6.mpr ⟨l,hl,rfl⟩⟩,rfl⟩
 |a::m,j+1,c,h=>by
  have ih:=oH (m:=m) (j:=j) (c:=c) (!!h);rw[bO];refine ⟨λw hw=>?_,λs hs=>?_⟩
  .obtain ⟨s,hs,hw⟩:=gz.mp hw;obtain ⟨l,hl,rfl⟩:=b6.mp hw;obtain ⟨x,e,hx⟩:=ih.1 l hl;exact ⟨x,!!e,hx⟩
  .obtain ⟨l,hl,e⟩:=ih.2 s hs;have ha:∃y,y∈alt a:=by
    unfold alt;split
    .exact ⟨48,aI⟩
    .exact ⟨a,aI⟩
   obtain ⟨y,hy⟩:=ha;exact ⟨y::l,gz.mpr ⟨y,hy,b6.mpr ⟨l,hl,rfl⟩⟩,!!e⟩
def An:∀(ls ks:List (AA)),ks.Nodup->(ls.foldl putN ks).Nodup/\∀y,(y∈ks\/y∈ls)->y∈ls.foldl putN ks
 |[],ks,hn=>⟨hn,λy h=>by rcases h with h |h;exact h;cases h⟩
 |x::ls,ks,hn=>by
  have hp:(putN ks x).Nodup/\x∈putN ks x/\∀y∈ks,y∈putN ks x:=by
   unfold putN;split
   .rename_i hx;exact ⟨hn,hx,λy hy=>hy⟩
   .rename_i hx;refine ⟨List.nodup_append.mpr ⟨hn,List.pairwise_singleton _ _,λa ha b hb e=>?_⟩,ba _ aI,λy hy=>ft _ hy⟩;rw[aE.mp hb]at e;exact hx (e ▸ ha)
  obtain ⟨h1,h2⟩:=An ls (putN ks x) hp.1;refine ⟨h1,λy h=>?_⟩;rcases h with h |h
  .exact h2 y (.inl (hp.2.2 y h))
  .rcases bg.mp h with rfl |h
   .exact h2 _ (.inl hp.2.1)
   .exact h2 y (.inr h)
def K6{ls:List (AA)}{y:AA}(h:y∈ls):y∈cA ls:=(An ls [] List.Pairwise.nil).2 y (.inr h)
def K7(ls:List (AA)):(cA ls).Nodup:=(An ls [] List.Pairwise.nil).1
def afU{a b:AA}:∀{l:List (AA)},l.Nodup->(∀x∈l,x=a\/x=b)->l.length<=2
 |[],_,_=>by decide
 |[x],_,_=>ga 1
 |[x,y],_,_=>am 2
 |x::y::z::l,hn,h=>by
  have hx:=h x (by simp);have hy:=h y (by simp);have hz:=h z (by simp);simp only[fg,bg,not_or]at hn;obtain ⟨⟨n1,n2,_⟩,⟨n3,_⟩,_⟩:=hn;rcases hx with rfl |rfl <;> rcases hy with rfl |rfl <;> rcases hz with rfl |rfl <;> first |exact absurd rfl n1 |exact absurd rfl n2 |exact absurd rfl n3
def Ao:∀ls:List (AA),bu (ls.map D.str)=some ls
 |[]=>rfl
 |l::ls=>by rw[cS,bu,Ao ls]
def Aq{m:AA}(h:m.length<=6):(aH m).length<=64:=by have h6:2 ^ m.length<=2 ^ 6:=gs (!1) h;exact bS (JP m) h6
def K8:∀f:AA,(bO f).Nodup
 |[]=>List.pairwise_singleton _ _
 |c::f=>by
  have ih:=K8 f;have hm:∀s:Nat,((bO f).map (s::·)).Nodup:=λs=>by
   unfold List.Nodup;rw[List.pairwise_map];exact ih.imp λh e=>h (List.cons.inj e).2
  by_cases hc:c=42
  .subst hc;rw[afT];refine List.nodup_append.mpr ⟨hm 48,hm 49,λx hx y hy e=>?_⟩;obtain ⟨p,_,rfl⟩:=b6.mp hx;obtain ⟨q,_,rfl⟩:=b6.mp hy;cases e
  .rw[afS hc];exact hm c
def uJ:∀{U W:List (AA)},U.Nodup->(∀x∈U,x∈W)->U.length<=W.length
 |[],W,_,_=>eP _
 |x::U,W,hn,h=>by
  obtain ⟨s,t,rfl⟩:=List.append_of_mem (h x aI);have hn':=fg.mp hn;have ih:=uJ (U:=U) (W:=s++t) hn'.2 λy hy=>by
   have hy':=h y (bp _ hy);rcases bv.mp hy' with z |z
   .exact ft _ z
   .rcases bg.mp z with e |z
    .rw[e]at hy;exact absurd hy hn'.1
    .exact ba _ z
  rw[ax]at ih;rw[ax,ci,ci];omega
def Ar(a:AA×List (AA)):Prop:=a.1.length<=6/\a.2≠[]/\a.2.length<=64/\(∀w∈a.2,w.length=a.1.length)/\∀(j c:Nat),a.1[j]?=some c->(∀w∈a.2,∃s,w[j]?=some s/\s∈alt c)/\∀s∈alt c,∃w∈a.2,w[j]?=some s
def fW(W:List (AA))(j:Nat):List (AA):=W.map λw=>[w.getD j 0]
def K9{W ls':List (AA)}{j c:Nat}(w1:∀w∈W,∃s,w[j]?=some s/\s∈alt c)(w2:∀s∈alt c,∃w∈W,w[j]?=some s)(hp:ls'.Perm (cA (fW W j))):(cA (fW W j)).length<=64/\((c≠42/\ls'=[[c]])\/(c=42/\∃a b,ls'=[a,b])):=by
 have hmem:∀y∈cA (fW W j),∃s∈alt c,y=[s]:=λy hy=>by
  obtain ⟨w,hw,rfl⟩:=b6.mp (xP _ hy);obtain ⟨s,e,hs⟩:=w1 w hw;exact ⟨s,hs,by rw[db,e];rfl⟩
 have hin:∀s∈alt c,[s]∈cA (fW W j):=λs hs=>by
  obtain ⟨w,hw,e⟩:=w2 s hs;exact K6 (b6.mpr ⟨w,hw,by rw[db,e];rfl⟩)
 have hnd:=K7 (fW W j);generalize cA (fW W j)=U at hp hmem hin hnd;by_cases h42:c=42
 .subst h42;have ha:alt 42=[48,49]:=rfl;rw[ha]at hmem hin;have hle:=afU (a:=[48]) (b:=[49]) hnd λx hx=>by
   obtain ⟨s,hs,rfl⟩:=hmem x hx;simp only[bg,dE,hZ]at hs;rcases hs with rfl |rfl
   .exact .inl rfl
   .exact .inr rfl
  have h48:=hin 48 (by simp);have h49:=hin 49 (by simp);refine ⟨!0,.inr ⟨rfl,?_⟩⟩;have h48':=hp.mem_iff.mpr h48;have h49':=hp.mem_iff.mpr h49;have hl:ls'.length<=2:=by rw[hp.length_eq];exact hle
  match ls',h48',h49',hl with
  |[],h,_,_=>cases h
  |[x],h,h',_=>
   have e1:=aE.mp h;have e2:=aE.mp h';rw[<-e1]at e2;cases e2
  |[a,b],_,_,_=>exact ⟨a,b,rfl⟩
  |_::_::_::_,_,_,hl=>simp at hl
 .have ha:alt c=[c]:=by unfold alt;rw[if_neg h42]
  rw[ha]at hmem hin;have hU:∀x∈U,x=[c]:=λx hx=>by
   obtain ⟨s,hs,rfl⟩:=hmem x hx;rw[aE.mp hs]
  have hc':=hin c aI;have e:U=[[c]]:=by
   match U,hnd,hU,hc' with
   |[],_,_,h=>cases h
   |[x],_,h,_=>rw[h x aI]
   |x::y::l,hn,h,_=>
    have hx:=h x (by simp);have hy:=h y (by simp);simp only[fg,bg,not_or]at hn;exact absurd (hx.trans hy.symm) hn.1.1
  subst e;exact ⟨(show 1<=64 from by decide),.inl ⟨h42,List.perm_singleton.mp hp⟩⟩
def sFO:RF.Spec:=bJ (λa:AA×List (AA)=>[.lst (a.2.map D.str)]) Ar (λa=>.str a.1)
def afV(Z:aj)(a:AA×List (AA))(G:DH)(h:Ar a):aA Z yR noE (env0 [.lst (a.2.map D.str)] 3) G (ends λd G'=>G'=G/\d=.str a.1):=by
 obtain ⟨m,W⟩:=a;obtain ⟨hl,hne,h64,hwl,hat⟩:=h;dsimp only at hl hne h64 hwl hat ⊢;obtain ⟨w0,ws,ew⟩:∃w0 ws,W=w0::ws:=by
  cases W with
  |nil=>exact absurd rfl hne
  |cons a l=>exact ⟨a,l,rfl⟩
 have hw0:w0.length=m.length:=hwl w0 (by rw[ew];exact aI);have e0:(W.map D.str)[0]?=some (.str w0):=by rw[ew];rfl
 simp_all_arith[yR];nofun;erw[ends];symm;simp_arith![ends];refine aU (a:=.str w0) (bA (j:=0) e0) ?_;simp_arith![ends];refine ⟨⟨!0,!0⟩,ForG.inv (P:=λi Y G'=>(∃o2 o3,Y=[some (.lst (W.map D.str)),some (.str (m.take i)),o2,o3])/\G'=G) ⟨⟨_,_,rfl⟩,rfl⟩ (λ_ _ _ _=>trivial) ?_ ?_⟩
 .rintro i d Y G' hd ⟨⟨o2,o3,rfl⟩,rfl⟩ kk hk;unfold aL at hd;rw[av]at hd;obtain ⟨j,hj,rfl⟩:=ay.mp hd;have hji:j=i/\i < m.length:=by
   have:=ah.mp hj;obtain ⟨q1,q2⟩:=this;rw[List.getElem_range]at q2;rw[fy]at q1;exact ⟨q2.symm,!0⟩
  obtain ⟨rfl,hif⟩:=hji;have hx:m[j]?=some m[j]:=by simp[hif]
  generalize m[j]=c at hx;obtain ⟨w1,w2⟩:=hat j c hx;have tm:m.take (j+1)=m.take j++[c]:=by rw[da,hx];rfl
  have ezj:(0:Int)+(j:Int)=((j:Nat):Int):=by omega
  simp_arith![ezj];nofun;simp_arith![ends];refine CompG.map (f:=λd=>match d with |.str l=>.str [l.getD j 0] |_=>.non) (I:=λY=>∃o,Y=[o,some (.int j)]) ⟨_,rfl⟩ trivial (by rw[af];bv_omega) ?_ ?_
  .rintro d Y hd ⟨o,rfl⟩ kk hk;obtain ⟨l,hl,rfl⟩:=b6.mp hd;have hll:l.length=m.length:=hwl l hl;have hlj:l[j]?=some (l.getD j 0):=by rw[db,aS (!0)];rfl
   erw[ends];refine aU (a:=l.getD j 0) (bA hlj) ?_;exact hk _ ⟨_,rfl⟩
  .have el:(W.map D.str).map (λd=>match d with |.str l=>D.str [l.getD j 0] |_=>.non)=(fW W j).map D.str:=by
    unfold fW;rw[eL,eL];rfl
   rw[el];have ed:bu ((fW W j).map D.str)=some (fW W j):=Ao _;simp_arith![ed];refine ⟨⟨by unfold fW;rw[af];omega,(K9 w1 w2 (fb _)).1⟩,λls' pm=>hM _ _ (last ?_)⟩;rcases (K9 w1 w2 pm).2 with ⟨h42,rfl⟩ |⟨rfl,a,b,rfl⟩
   .erw[ends];refine ⟨!1,aU (a:=.str [c]) rfl ?_⟩;erw[ends];refine ⟨by rw[br];bv_omega,hk _ _ ⟨⟨some (.int j),_,by rw[tm]⟩,rfl⟩⟩
   .erw[ends];refine ⟨!1,aU (a:=.str [42]) rfl ?_⟩;erw[ends];refine ⟨by rw[br];bv_omega,hk _ _ ⟨⟨some (.int j),_,by rw[tm]⟩,rfl⟩⟩
 .rintro Y G' ⟨⟨o2,o3,rfl⟩,rfl⟩;refine hM _ _ ?_;erw[ends];unfold aL;rw[af,fy,hw0];show D.str (m.take m.length)=_;rw[ee]
def bf(f g:AA):AA:=List.zipWith (λa b=>if a=b then a else 42) f g
def gA{f g:AA}(hl:f.length=g.length):(bf f g).length=f.length:=by unfold bf;rw[List.length_zipWith,hl,Nat.min_self]
def jy{f g:AA}{j a b:Nat}(ha:f[j]?=some a)(hb:g[j]?=some b):(bf f g)[j]?=some (if a=b then a else 42):=by unfold bf;rw[List.getElem?_zipWith,ha,hb]
def uK:∀f g:AA,bf f g=bf g f
 |[],[]=>rfl
 |[],_::_=>rfl
 |_::_,[]=>rfl
 |a::f,b::g=>by
  have ih:=uK f g;unfold bf at ih ⊢;rw[List.zipWith_cons_cons,List.zipWith_cons_cons,ih];congr 1;by_cases h:a=b
  .rw[if_pos h,if_pos h.symm,h]
  .rw[if_neg h,if_neg (λz=>h z.symm)]
def dF{f:AA}{j:Nat}(h:j < f.length):∃a,f[j]?=some a:=⟨f[j],aS h⟩
def Av{a b s:Nat}(ha:isF a)(hb:isF b)(h:s∈alt a):s∈alt (if a=b then a else 42):=by
 split
 .exact h
 .rcases ha with rfl |rfl |rfl
  .rw[aE.mp h];exact aI
  .rw[aE.mp h];exact bp _ aI
  .exact h
def La{a b s:Nat}(ha:isF a)(hb:isF b)(h:s∈alt (if a=b then a else 42)):s∈alt a\/s∈alt b:=by
 split at h
 .exact .inl h
 .rename_i hab;have h:s=48\/s=49:=by
   have h:s∈[48,49]:=h;simpa using h
  rcases ha with rfl |rfl |rfl
  .rcases hb with rfl |rfl |rfl
   .exact absurd rfl hab
   .rcases h with rfl |rfl
    .exact .inl aI
    .exact .inr aI
   .exact .inr (by rcases h with rfl |rfl <;> decide)
  .rcases hb with rfl |rfl |rfl
   .rcases h with rfl |rfl
    .exact .inr aI
    .exact .inl aI
   .exact absurd rfl hab
   .exact .inr (by rcases h with rfl |rfl <;> decide)
  .exact .inl (by rcases h with rfl |rfl <;> decide)
def uL{f g w:AA}(hl:f.length=g.length)(hf:∀x∈f,isF x)(hg:∀x∈g,isF x)(h:w∈aH f):w∈aH (bf f g):=by
 obtain ⟨h1,h2⟩:=eQ.mp h;refine eQ.mpr ⟨(gA hl).trans h1,λi c s hc hs=>?_⟩;have hi:i < f.length:=by have:=(ah.mp hc).1;rw[gA hl]at this;exact this
 obtain ⟨a,ha⟩:=dF hi;obtain ⟨b,hb⟩:=dF (f:=g) (j:=i) (!0);rw[jy ha hb]at hc;cases hc;exact Av (hf a (bb ha)) (hg b (bb hb)) (h2 i a s ha hs)
def afW{f g:AA}(hl:f.length=g.length)(h:bL f g=true){j a b:Nat}(ha:f[j]?=some a)(hb:g[j]?=some b):a=42\/a=b:=by
 have hz:=ae6 h;clear h;induction f generalizing g j with
 |nil=>simp at ha
 |cons x f ih=>
  cases g with
  |nil=>simp at hl
  |cons y g=>
   have hz:(dW x y&&b7 f g)=true:=hz;rw[ae]at hz;cases j with
   |zero=>
    have e1:x=a:=by simpa using ha
    have e2:y=b:=by simpa using hb
    subst e1 e2;exact Kd.mp hz.1
   |succ j=>exact ih (g:=g) (j:=j) (!!hl) (!!ha) (!!hb) hz.2
def Lb{f g:AA}(hl:f.length=g.length)(h:bL g f=true):bf f g=g:=by
 refine List.ext_getElem? λj=>?_;rcases im j f.length with hj |hj
 .obtain ⟨a,ha⟩:=dF hj;obtain ⟨b,hb⟩:=dF (f:=g) (j:=j) (!0);rw[jy ha hb,hb];rcases afW hl.symm h hb ha with rfl |rfl
  .by_cases e:a=42
   .rw[if_pos e,e]
   .rw[if_neg e]
  .rw[if_pos rfl]
 .rw[eA (by rw[gA hl];exact hj),eA (!0)]
def Ld{f g:AA}(hl:f.length=g.length)(h:¬bL f g=true):∃(j a b:Nat),f[j]?=some a/\g[j]?=some b/\a≠42/\a≠b:=by
 rw[J9 hl]at h;induction f generalizing g with
 |nil=>
  cases g with
  |nil=>exact absurd rfl h
  |cons y g=>simp at hl
 |cons x f ih=>
  cases g with
  |nil=>simp at hl
  |cons y g=>
   have e:b7 (x::f) (y::g)=(dW x y&&b7 f g):=rfl;rw[e,ae]at h;by_cases hx:dW x y=true
   .obtain ⟨j,a,b,h1,h2,h3⟩:=ih (g:=g) (!!hl) λz=>h ⟨hx,z⟩;exact ⟨j+1,a,b,!!h1,!!h2,h3⟩
   .rw[Kd,not_or]at hx;exact ⟨0,x,y,rfl,rfl,hx.1,hx.2⟩
def Lg{b:Nat}(hb:isF b)(h:b≠42):opp b≠b:=by
 rcases hb with rfl |rfl |rfl
 .decide
 .decide
 .exact absurd rfl h
def Lh(b:Nat):opp b=48\/opp b=49:=by unfold opp;split;exact .inr rfl;exact .inl rfl
def afX{f g:AA}(hl:f.length=g.length)(hf:∀x∈f,isF x)(hg:∀x∈g,isF x)(h:bW f g=none):∃w∈aH (bf f g),w∉aH f/\w∉aH g:=by
 unfold bW at h;by_cases h1:bL g f=true
 .rw[if_pos h1]at h;cases h
 rw[if_neg h1]at h;by_cases h2:bL f g=true
 .rw[if_pos h2]at h;cases h
 rw[if_neg h2]at h;obtain ⟨i,bi,ai,gi,fi,ni,di⟩:=Ld hl.symm h1;obtain ⟨k,ak,bk,fk,gk,nk,dk⟩:=Ld hl h2;have hm:∀j,j∈unl f g f.length↔j < f.length/\f[j]?≠g[j]?:=λj=>by unfold unl;simp
 have key:∃(i k a b:Nat),i≠k/\g[i]?=some b/\b≠42/\f[i]?≠some b/\f[k]?=some a/\a≠42/\g[k]?≠some a:=by
  by_cases e:i=k
  .subst e;rw[fi]at fk;cases fk;rw[gi]at gk;cases gk;have hex:∃j,j≠i/\j < f.length/\f[j]?≠g[j]?:=by
    apply Classical.byContradiction;intro hno;have hi:i∈unl f g f.length:=(hm i).mpr ⟨(ah.mp fi).1,by rw[fi,gi];intro z;exact dk (cm z)⟩;have hnd:(unl f g f.length).Nodup:=by unfold unl;exact List.Pairwise.filter _ List.nodup_range
    have hall:∀j∈unl f g f.length,j=i:=λj hj=>by
     apply Classical.byContradiction;intro hne;exact hno ⟨j,hne,(hm j).mp hj⟩
    have e1:unl f g f.length=[i]:=by
     match unl f g f.length,hi,hnd,hall with
     |[],hi,_,_=>cases hi
     |[x],_,_,hall=>rw[hall x aI]
     |x::y::l,_,hn,hall=>
      have hx:=hall x (by simp);have hy:=hall y (by simp);simp only[fg,bg,not_or]at hn;exact absurd (hx.trans hy.symm) hn.1.1
    rw[e1]at h;cases h
   obtain ⟨j,hji,hjl,hjd⟩:=hex;obtain ⟨a,ha⟩:=dF hjl;obtain ⟨b,hb⟩:=dF (f:=g) (j:=j) (!0);have hab:a≠b:=λz=>hjd (by rw[ha,hb,z]);by_cases ha42:a=42
   .refine ⟨j,i,ai,b,hji,hb,λz=>hab (by rw[ha42,z]),by rw[ha];intro z;exact hab (cm z),fi,nk,by rw[gi];intro z;exact di (cm z)⟩
   .refine ⟨i,j,a,bi,λz=>hji z.symm,gi,ni,by rw[fi];intro z;exact di (cm z).symm,ha,ha42,by rw[hb];intro z;exact hab (cm z).symm⟩
  .exact ⟨i,k,ak,bi,e,gi,ni,by rw[fi];intro z;exact di (cm z).symm,fk,nk,by rw[gk];intro z;exact dk (cm z).symm⟩
 obtain ⟨i,k,a,b,hik,gi,nb,fi,fk,na,gk⟩:=key;have il:i < f.length:=by have:=(ah.mp gi).1;omega
 have kl:k < f.length:=(ah.mp fk).1;have hbF:=hg b (bb gi);have haF:=hf a (bb fk);have hi42:(bf f g)[i]?=some 42:=by obtain ⟨a',ha'⟩:=dF il;rw[jy ha' gi,if_neg (λz=>fi (by rw[ha',z]))]
 have hk42:(bf f g)[k]?=some 42:=by obtain ⟨b',hb'⟩:=dF (f:=g) (j:=k) (!0);rw[jy fk hb',if_neg (λz=>gk (by rw[hb',z]))]
 let v:=(bf f g).map λc=>if c=42 then 48 else c
 have vl:v.length=f.length:=by show ((bf f g).map _).length=_;rw[af,gA hl]
 let w:=(v.set i (opp b)).set k (opp a)
 have wi:w[i]?=some (opp b):=by show ((v.set i (opp b)).set k (opp a))[i]?=_;rw[fv (λz=>hik z.symm),e9 (!0)]
 have wk:w[k]?=some (opp a):=by show ((v.set i (opp b)).set k (opp a))[k]?=_;rw[e9 (by rw[cK];omega)]
 refine ⟨w,eQ.mpr ⟨?_,λj c s hc hs=>?_⟩,λhw=>?_,λhw=>?_⟩
 .show (bf f g).length=((v.set i (opp b)).set k (opp a)).length;rw[cK,cK,vl,gA hl]
 .by_cases ek:j=k
  .subst ek;rw[hk42]at hc;cases hc;rw[wk]at hs;cases hs;rcases Lh a with z |z <;> rw[z] <;> decide
  .by_cases ei:j=i
   .subst ei;rw[hi42]at hc;cases hc;rw[wi]at hs;cases hs;rcases Lh b with z |z <;> rw[z] <;> decide
   .have hs:((v.set i (opp b)).set k (opp a))[j]?=some s:=hs;rw[fv (λz=>ek z.symm),fv (λz=>ei z.symm)]at hs;have hs:((bf f g).map λc=>if c=42 then 48 else c)[j]?=some s:=hs;rw[av,hc]at hs;have hs:(if c=42 then 48 else c)=s:=cm hs;unfold alt;split
    .rename_i z;rw[if_pos z]at hs;rw[<-hs];exact aI
    .rename_i z;rw[if_neg z]at hs;rw[<-hs];exact aI
 .have:=(eQ.mp hw).2 k a (opp a) fk wk;unfold alt at this;rw[if_neg na]at this;exact Lg haF na (aE.mp this)
 .have:=(eQ.mp hw).2 i b (opp b) gi wi;unfold alt at this;rw[if_neg nb]at this;exact Lg hbF nb (aE.mp this)
def afY{f g m:AA}(hl:f.length=g.length)(hf:∀x∈f,isF x)(hg:∀x∈g,isF x)(h:bW f g=some m):m=bf f g/\∀w∈aH (bf f g),w∈aH f\/w∈aH g:=by
 unfold bW at h;by_cases h1:bL g f=true
 .rw[if_pos h1]at h;cases h;have e:=Lb hl h1;rw[e];exact ⟨rfl,λw hw=>.inr hw⟩
 rw[if_neg h1]at h;by_cases h2:bL f g=true
 .rw[if_pos h2]at h;cases h;have e:=Lb hl.symm h2;rw[uK]at e;rw[e];exact ⟨rfl,λw hw=>.inl hw⟩
 rw[if_neg h2]at h;split at h
 .rename_i i hu;cases h;obtain ⟨hi,hne,hsame⟩:=Kz hl hu;obtain ⟨a,ha⟩:=dF hi;obtain ⟨b,hb⟩:=dF (f:=g) (j:=i) (!0);have hab:a≠b:=λz=>hne (by rw[ha,hb,z]);have e:f.set i 42=bf f g:=by
   refine List.ext_getElem? λj=>?_;by_cases ej:j=i
   .subst ej;rw[e9 hi,jy ha hb,if_neg hab]
   .rw[fv (λz=>ej z.symm)];rcases im j f.length with hj |hj
    .obtain ⟨c,hc⟩:=dF hj;have hc':g[j]?=some c:=by rw[<-hsame j ej];exact hc
     rw[jy hc hc',if_pos rfl,hc]
    .rw[eA hj,eA (by rw[gA hl];exact hj)]
  refine ⟨e,λw hw=>?_⟩;rw[<-e]at hw;obtain ⟨wl,wa⟩:=eQ.mp hw;rw[cK]at wl;obtain ⟨s,hs⟩:=dF (f:=w) (j:=i) (!0);have h42:=wa i 42 s (e9 hi) hs;have rest:∀(u:AA)(c:Nat),u.length=w.length->u[i]?=some c->s∈alt c->(∀j,j≠i->u[j]?=f[j]?)->w∈aH u:=by
   intro u c ul uc sc us;refine eQ.mpr ⟨ul,λj c' s' h1 h2=>?_⟩;by_cases ej:j=i
   .subst ej;rw[uc]at h1;cases h1;rw[hs]at h2;cases h2;exact sc
   .refine wa j c' s' ?_ h2;rw[fv (λz=>ej z.symm),<-us j ej];exact h1
  rcases La (hf a (bb ha)) (hg b (bb hb)) (by rw[if_neg hab];exact h42) with z |z
  .exact .inl (rest f a wl ha z λj _=>rfl)
  .exact .inr (rest g b (!0) hb z λj hj=>(hsame j hj).symm)
 .cases h
def Li{n:Nat}{f g:AA}{W:List (AA)}(hn:n<=6)(hf:okF n f)(hg:okF n g)(hp:W.Perm (cA (aH f++aH g))):Ar (bf f g,W)/\(cA (aH f++aH g)).length<=64/\W.Nodup/\∀w,w∈W↔(w∈aH f\/w∈aH g):=by
 have hl:f.length=g.length:=hf.1.trans hg.1.symm;have hmem:∀w,w∈W↔(w∈aH f\/w∈aH g):=λw=>by
  rw[hp.mem_iff];constructor
  .intro h;exact bv.mp (xP _ h)
  .intro h;exact K6 (bv.mpr h)
 have hnd:W.Nodup:=hp.nodup_iff.mpr (K7 _);have hwl:∀w∈W,w.length=(bf f g).length:=λw hw=>by
  rw[gA hl];rcases (hmem w).mp hw with z |z
  .exact zJ z
  .rw[zJ z,hl]
 have hfl:=hf.1;have h6:(bf f g).length<=6:=by rw[gA hl];omega
 have hsub:∀w∈W,w∈aH (bf f g):=λw hw=>by
  rcases (hmem w).mp hw with z |z
  .exact uL hl hf.2 hg.2 z
  .rw[uK];exact uL hl.symm hg.2 hf.2 z
 have hle:W.length<=64:=bS (uJ hnd hsub) (Aq h6);refine ⟨⟨h6,?_,hle,hwl,λj c hc=>?_⟩,by rw[<-hp.length_eq];exact hle,hnd,hmem⟩
 .intro e;cases ew:aH f with
  |nil=>rw[iM]at ew;exact K5 f ew
  |cons x l=>
   have:x∈W:=(hmem x).mpr (.inl (by rw[ew];exact aI));rw[show W=[] from e]at this;cases this
 .have hj:j < f.length:=by
   have:=(ah.mp hc).1;rw[gA hl]at this;exact this
  obtain ⟨a,ha⟩:=dF hj;obtain ⟨b,hb⟩:=dF (f:=g) (j:=j) (!0);have haF:=hf.2 a (bb ha);have hbF:=hg.2 b (bb hb);rw[jy ha hb]at hc;cases hc;have ca:(if a=b then a else 42)=if b=a then b else 42:=by
   by_cases e:a=b
   .rw[if_pos e,if_pos e.symm,e]
   .rw[if_neg e,if_neg (λz=>e z.symm)]
  refine ⟨λw hw=>?_,λs hs=>?_⟩
  .rcases (hmem w).mp hw with z |z
   .rw[iM]at z;obtain ⟨s,h1,h2⟩:=(oH ha).1 w z;exact ⟨s,h1,Av haF hbF h2⟩
   .rw[iM]at z;obtain ⟨s,h1,h2⟩:=(oH hb).1 w z;exact ⟨s,h1,by rw[ca];exact Av hbF haF h2⟩
  .rcases La haF hbF hs with z |z
   .obtain ⟨w,h1,h2⟩:=(oH ha).2 s z;exact ⟨w,(hmem w).mpr (.inl (by rw[iM];exact h1)),h2⟩
   .obtain ⟨w,h1,h2⟩:=(oH hb).2 s z;exact ⟨w,(hmem w).mpr (.inr (by rw[iM];exact h1)),h2⟩
def afZ{f g:AA}{W:List (AA)}(hl:f.length=g.length)(hf:∀x∈f,isF x)(hg:∀x∈g,isF x)(hnd:W.Nodup)(hmem:∀w,w∈W↔(w∈aH f\/w∈aH g)):
  (bW f g=none/\W.length < 2 ^ stc (bf f g))\/(bW f g=some (bf f g)/\¬W.length < 2 ^ stc (bf f g)):=by
 have ew:(aH (bf f g)).length=2 ^ stc (bf f g):=by rw[iM,z6]
 have hsub:∀w∈W,w∈aH (bf f g):=λw hw=>by
  rcases (hmem w).mp hw with z |z
  .exact uL hl hf hg z
  .rw[uK];exact uL hl.symm hg hf z
 cases h:bW f g with
 |none=>
  obtain ⟨w,h1,h2,h3⟩:=afX hl hf hg h;refine .inl ⟨rfl,?_⟩;have hw:w∉W:=λz=>by rcases (hmem w).mp z with z |z;exact h2 z;exact h3 z
  have:=uJ (U:=w::W) (W:=aH (bf f g)) (fg.mpr ⟨hw,hnd⟩) λx hx=>by
   rcases bg.mp hx with e |hx
   .rw[e];exact h1
   .exact hsub x hx
  rw[ew,ci]at this;omega
 |some m=>
  obtain ⟨rfl,h2⟩:=afY hl hf hg h;refine .inr ⟨rfl,?_⟩;have:=uJ (U:=aH (bf f g)) (W:=W) (by rw[iM];exact K8 _) λx hx=>(hmem x).mpr (h2 x hx);omega
def Aw:RF.Spec:=bJ (λf:AA=>[.str f]) (λf=>f.length<=1000) (λf=>.int ((2 ^ stc f:Nat):Int))
def af0(Z:aj)(f:AA)(G:DH)(h:f.length<=1000):aA Z yS noE (env0 [.str f] 2) G (ends λd G'=>G'=G/\d=.int ((2 ^ stc f:Nat):Int)):=by
 simp_all_arith[yS];nofun;erw[ends];symm;simp_arith![ends];refine ForG.inv (P:=λi Y G'=>(∃o2,Y=[some (.str f),some (.int ((2 ^ stc (f.take i):Nat):Int)),o2])/\G'=G) ⟨⟨_,rfl⟩,rfl⟩ (λ_ _ _ _=>trivial) ?_ ?_
 .rintro i d Y G' hd ⟨⟨o2,rfl⟩,rfl⟩ kk hk;rw[av]at hd;obtain ⟨c,hc,rfl⟩:=ay.mp hd;have st:=aeZ hc;simp_arith![ends];refine last ?_;erw[eU];cases hb:(c==42) with
  |true=>
   rw[hb,if_pos rfl]at st;refine ⟨gm (!1),hk _ _ ⟨⟨some (.str [c]),?_⟩,rfl⟩⟩;rw[st,Nat.pow_succ,Int.natCast_mul];rfl
  |false=>
   rw[hb,if_neg (!1),Nat.add_zero]at st;refine ⟨gm (!1),hk _ _ ⟨⟨some (.str [c]),?_⟩,rfl⟩⟩;rw[st];show [_,some (D.int (((2 ^ stc (f.take i):Nat):Int) * 1)),_]=_;rw[Int.mul_one];rfl
 .rintro Y G' ⟨⟨o2,rfl⟩,rfl⟩;rw[af,ee];refine hM _ _ ?_;erw[ends]
structure R40(Z:aj):Prop where
 words:Z "_law_words"=nP
 many:Z "_law_many_words"=Aw
 form:Z "_law_form_of"=sFO
def sLJ:RF.Spec:=ghS (A:=Nat×AA×AA) (λa ds _=>ds=[.str a.2.1,.str a.2.2]/\a.1<=6/\okF a.1 a.2.1/\okF a.1 a.2.2) (λa G d G'=>Sa G G'/\d=aP (bW a.2.1 a.2.2))
def af1{w:Nat}{f g:AA}{G:DH}{k:AT}{E:EK}(h1:w<=6)(h2:okF w f)(h3:okF w g)(hk:∀G',Sa G G'->k (aP (bW f g)) G'):sLJ.t [.str f,.str g] G k E:=
 eG (w,f,g) ⟨rfl,h1,h2,h3⟩ λd G' ⟨e1,e2⟩=>by subst e2;exact hk G' e1
def af2(Z:aj)(F:R40 Z)(a:Nat×AA×AA)(ds:AS)(G:DH)(h:ds=[.str a.2.1,.str a.2.2]/\a.1<=6/\okF a.1 a.2.1/\okF a.1 a.2.2):aA Z yV noE (env0 ds 2) G (ends λd G'=>Sa G G'/\d=aP (bW a.2.1 a.2.2)):=by
 obtain ⟨w,f,g⟩:=a;obtain ⟨rfl,hw,hf,hg⟩:=h;dsimp only at hw hf hg ⊢;have hl:f.length=g.length:=hf.1.trans hg.1.symm;have hfl:=hf.1;have wf:=Aq (m:=f) (!0);have wg:=Aq (m:=g) (!0);simp_all_arith[yV];nofun;erw[F.words];refine zK (!0) λG1 sa1=>?_;erw[F.words];refine zK (!0) λG2 sa2=>?_;have ed:bu ((aH f++aH g).map D.str)=some (aH f++aH g):=Ao _;simp_arith[<-cb,ed,af,ax];have ok0:=Li hw hf hg (fb _);refine ⟨by bv_omega,⟨!0,ok0.2.1⟩,λW pm=>hM _ _ (seq λM hM=>?_)⟩;obtain ⟨okw,_,hnd,hmem⟩:=Li hw hf hg pm;erw[F.form];refine bT (bf f g,W) rfl okw (hM _ _ (seq λM hM=>?_));have hz:(bf f g).length<=1000:=by rw[gA hl];omega
 erw[F.many];refine bT (bf f g) rfl hz ?_;erw[af];rcases afZ hl hf.2 hg.2 hnd hmem with ⟨hj,hlt⟩ |⟨hj,hlt⟩
 .rw[ck (show ((W.length:Nat):Int) < ((2 ^ stc (bf f g):Nat):Int) from Int.ofNat_lt.mpr hlt)];erw[hj,aP];exact sa1.trans sa2
 .rw[cy (show ¬((W.length:Nat):Int) < ((2 ^ stc (bf f g):Nat):Int) from λz=>hlt (Int.ofNat_lt.mp z))];erw[ends];refine hM _ _ ?_;erw[hj,aP];exact sa1.trans sa2
def Lj:∀(l:AU)(x:Nat),(List.range l.length).filterMap (λk=>if k=x then none else some (rw0 l k))=wo l x
 |[],x=>by simp[wo]
 |r::l,x=>by
  rw[ci,List.range_succ_eq_map,gx,List.filterMap_map];cases x with
  |zero=>
   rw[if_pos rfl];show (List.range l.length).filterMap (λk=>if k+1=0 then none else some (rw0 (r::l) (k+1)))=wo (r::l) 0;have e:(λk=>if k+1=0 then none else some (rw0 (r::l) (k+1)))=λk=>some (rw0 l k):=by funext k;rw[if_neg (!0)];rfl
   rw[e];show _=l;rw[List.filterMap_eq_map'];refine List.ext_getElem (by simp) λi h1 h2=>?_;rw[List.getElem_map,List.getElem_range];have:=iR h2;rw[aS h2]at this;exact (cm this).symm
  |succ x=>
   rw[if_neg (!0)];have e:((λk=>if k=x+1 then none else some (rw0 (r::l) k))∘Nat.succ)=λk=>if k=x then none else some (rw0 l k):=by
    funext k;show (if k+1=x+1 then none else some (rw0 (r::l) (k+1)))=_;by_cases h:k=x
    .rw[if_pos h,if_pos (!0)]
    .rw[if_neg h,if_neg (!0)];rfl
   rw[e,Lj l x];rfl
def sLM:RF.Spec:=ghS (A:=JB) (λa ds _=>ds=[ao a.w a.rs,.int (a.i:Nat),.int (a.j:Nat),.int (a.a:Nat)]/\iQ a) (λa G d G'=>Sa G G'/\d=bD a.w (jbR a.rs a.i a.j a.a))
def af3{w i j a:Nat}{rs:AU}{G:DH}{k:AT}{E:EK}(h:iQ ⟨w,rs,i,j,a⟩)(hk:∀G',Sa G G'->k (bD w (jbR rs i j a)) G'):sLM.t [ao w rs,.int (i:Int),.int (j:Int),.int (a:Int)] G k E:=
 eG ⟨w,rs,i,j,a⟩ ⟨rfl,h⟩ λd G' ⟨e1,e2⟩=>by subst e2;exact hk G' e1
def af4 (Z:aj) (h1:Z "_law_joined"=sLJ) (a:JB) (ds:AS) (G:DH) (h:ds=[ao a.w a.rs,.int (a.i:Nat),.int (a.j:Nat),.int (a.a:Nat)]/\iQ a):aA Z yW noE (env0 ds 4) G (ends λd G'=>Sa G G'/\d=bD a.w (jbR a.rs a.i a.j a.a)):=by
 obtain ⟨w,rs,i,j,p⟩:=a;obtain ⟨rfl,hb,hij,hjn,hp⟩:=h;dsimp only at hb hij hjn hp ⊢;have hin:i < rs.length:=by omega
 have hpn:p < rs.length:=by omega
 have hlen:=hb.len;have w6:=hb.w6;have ei:(rs.map az)[i]?=some (az (rw0 rs i)):=by rw[av,iR hin];rfl
 have ej:(rs.map az)[j]?=some (az (rw0 rs j)):=by rw[av,iR hjn];rfl
 have ep:(rs.map az)[p]?=some (az (rw0 rs p)):=by rw[av,iR hpn];rfl
 have e0:ao w rs=.tup [.int w,.tup (rs.map az)]:=rfl;simp_all_arith[yW];nofun;conv=>enter [4,1,1];rw[e0]
 erw[ends];symm;erw[h1];refine aU (a:=az (rw0 rs i)) (bA ei) ?_;erw[az];refine aU (a:=az (rw0 rs j)) (bA ej) ?_;erw[az];refine af1 w6 (hb.form _ (jx hin)) (hb.form _ (jx hjn)) λG1 sa1=>hM _ _ (seq λM hM=>?_);have hge:decide ((j:Int)<=(i:Int))=false:=cy (!0);erw[hge];refine aU (a:=az (rw0 rs i)) (bA ei) ?_;erw[az];refine aU (a:=az (rw0 rs j)) (bA ej) ?_;erw[az];by_cases hd:(rw0 rs i).2=(rw0 rs j).2
 .have hq:((rw0 rs i).2==(rw0 rs j).2)=true:=bm.mpr hd;erw[hq];cases hj:bW (rw0 rs i).1 (rw0 rs j).1 with
  |none=>
   have ej':jbR rs i j p=none:=by unfold jbR;rw[hj]
   erw[aP,ej',bD];exact sa1
  |some f=>
   have ej':jbR rs i j p=some (wo (rs.set p (f,(rw0 rs p).2)) (if p=i then j else i)):=by unfold jbR;rw[hj];exact if_pos hd
   erw[aP];symm;simp_arith![af];have rng:∀(k:Nat)(d:D),(aL 0 ((rs.length:Nat):Int).toNat)[k]?=some d->d=.int (k:Int)/\k < rs.length:=λk d hd=>by
    have hk:k < rs.length:=by have:=(ah.mp hd).1;simpa [aL] using this
    refine ⟨?_,hk⟩;unfold aL at hd;rw[av,ff (!!hk)]at hd;simpa using hd.symm
   have rln:(aL 0 ((rs.length:Nat):Int).toNat).length=rs.length:=by simp[aL]
   refine ⟨⟨!0,!0⟩,CompG.inv (P:=λk acc Y G'=>(∃o0,Y=[o0,some (.tup (rs.map az))])/\G'=G1/\acc=(rs.map az).take k) ⟨⟨_,rfl⟩,rfl,rfl⟩ (λ_ _ _ _ _=>trivial) (by rw[rln];bv_omega) ?_ ?_⟩
   .rintro k d acc Y G' hd' ⟨⟨o0,rfl⟩,rfl,rfl⟩ kk hk;obtain ⟨rfl,hkn⟩:=rng k d hd';have ek:(rs.map az)[k]?=some (az (rw0 rs k)):=by rw[av,iR hkn];rfl
    erw[ends];refine aU (a:=az (rw0 rs k)) (bA ek) (hk (some _) _ _ ⟨⟨_,rfl⟩,rfl,?_⟩);rw[da,ek];try rfl
   .rintro acc Y G' ⟨_,rfl,rfl⟩ q hq;rw[rln,fF (by rw[af];exact am _)];symm;have gq:aX G' q (DO.lst (rs.map az)) q=some (.lst (rs.map az)):=cg;erw[dj gq];refine aU (a:=az (rw0 rs p)) (bA ep) ?_;erw[az,dj gq];have es:(rs.map az).set p (D.tup [D.str f,D.str (rw0 rs p).2])=(rs.set p (f,(rw0 rs p).2)).map az:=by rw[List.map_set];rfl
    refine ⟨!1,aU (a:=p) (Jh (by rw[af];exact hpn)) (hM _ _ (last ?_))⟩;rw[es];have gq2:aX (aX G' q (DO.lst (rs.map az))) q (DO.lst ((rs.set p (f,(rw0 rs p).2)).map az)) q=some (.lst ((rs.set p (f,(rw0 rs p).2)).map az)):=cg;have sa2:Sa G (aX (aX G' q (DO.lst (rs.map az))) q (DO.lst ((rs.set p (f,(rw0 rs p).2)).map az))):=(sa1.trans (Sa.new hq)).then (by
     cases hG:G q with
     |none=>rfl
     |some o=>rw[sa1 _ _ hG]at hq;cases hq) Sb.upd
    generalize aX (aX G' q (DO.lst (rs.map az))) q (DO.lst ((rs.set p (f,(rw0 rs p).2)).map az))=G3 at gq2 sa2;have hsl:(rs.set p (f,(rw0 rs p).2)).length=rs.length:=cK;generalize hss:rs.set p (f,(rw0 rs p).2)=ss at gq2 hsl ej';generalize hx:(if p=i then j else i)=x at ej';simp_arith![af];refine ⟨⟨!0,!0⟩,CompG.inv (P:=λk acc Y G'=>(∃o0,Y=[o0,some (.ref q),some (.int (p:Int)),some (.int (i:Int)),some (.int (j:Int))])/\G'=G3/\acc=((List.range k).filterMap (λk=>if k=x then none else some (rw0 ss k))).map az) ⟨⟨_,rfl⟩,rfl,rfl⟩ (λ_ _ _ _ _=>trivial) (by rw[rln];bv_omega) ?_ ?_⟩
    .rintro k d acc Y G' hd' ⟨⟨o0,rfl⟩,rfl,rfl⟩ kk hk;obtain ⟨rfl,hkn⟩:=rng k d hd';have ek:(ss.map az)[k]?=some (az (rw0 ss k)):=by rw[av,iR (!0)];rfl
     have rs1:=iL (n:=k);have yes:k≠x->du (view G' (.ref q)) (.int (k:Int)) (λd=>kk (some d) [some (.int (k:Int)),some (.ref q),some (.int (p:Int)),some (.int (i:Int)),some (.int (j:Int))] G'):=λhne=>by
      rw[cT gq2];erw[ends];refine aU (a:=az (rw0 ss k)) (bA ek) (hk (some _) _ _ ⟨⟨_,rfl⟩,rfl,?_⟩);rw[rs1,i8,cb,gx,if_neg hne];rfl
     have no:k=x->kk none [some (.int (k:Int)),some (.ref q),some (.int (p:Int)),some (.int (i:Int)),some (.int (j:Int))] G':=λhe=>by
      refine hk none _ _ ⟨⟨_,rfl⟩,rfl,?_⟩;rw[rs1,i8,cb,gx,if_pos he];rfl
     have hin:isIn (.int (k:Int)) [.int (i:Int),.int (j:Int)]=decide (k=i\/k=j):=by rw[g9,cf];simp only[isIn,List.any_cons,List.any_nil,Bool.or_false,dn,Jp,bm,ja];omega
     have hxx:x=if p=i then j else i:=hx.symm
     erw[hin];by_cases hkp:k=p
     .rw[bm.mpr (show (k:Int)=(p:Int) by omega)];refine yes ?_;rw[hxx];split <;> omega
     .rw[eh.mpr (show (k:Int)≠(p:Int) by omega)];refine ⟨!1,⟨!1,!1⟩,?_⟩;by_cases hk2:k=i\/k=j
      .rw[ck hk2];refine no ?_;rw[hxx];split <;> omega
      .rw[cy hk2];refine yes ?_;rw[hxx];split <;> omega
    .rintro acc Y G' ⟨_,rfl,rfl⟩;rw[rln,<-hsl,Lj];erw[ej',bD];exact ⟨!1,sa2,rfl⟩
 .have hq:((rw0 rs i).2==(rw0 rs j).2)=false:=eh.mpr hd;have ej':jbR rs i j p=none:=by
   unfold jbR;split
   .rfl
   .exact if_neg hd
  erw[hq,ej',bD];exact sa1
def uM:RF.Spec:=ghS (A:=Nat×AU) (λa ds _=>ds=[ao a.1 a.2]/\okB a.1 a.2) (λa G d G'=>Sa G G'/\d=ao a.1 (lnR a.1 a.2.length a.2))
def af5{w:Nat}{rs:AU}{G:DH}{k:AT}{E:EK}(h:okB w rs)(hk:∀G',Sa G G'->k (ao w (lnR w rs.length rs)) G'):uM.t [ao w rs] G k E:=
 eG (w,rs) ⟨rfl,h⟩ λd G' hx=>by
  obtain ⟨e,q⟩:=hx;subst q;exact hk G' e
def af6 (Z:aj) (h1:Z "_law_parting"=oG) (a:Nat×AU) (ds:AS) (G:DH) (h:ds=[ao a.1 a.2]/\okB a.1 a.2):aA Z zf noE (env0 ds 4) G (ends λd G'=>Sa G G'/\d=ao a.1 (lnR a.1 a.2.length a.2)):=by
 obtain ⟨w,rs⟩:=a;obtain ⟨rfl,h⟩:=h;dsimp only at h ⊢;have hlen:=h.len;have e0:∀xs:AU,D.tup [.int w,.tup (xs.map az)]=ao w xs:=λ_=>rfl;have ed:ao w rs=.tup [.int w,.tup (rs.map az)]:=rfl;have en:((rs.length:Int) - 1 - -1).toNat=rs.length:=by omega
 simp_all_arith[zf];nofun;erw[ed];symm;simp_arith![af,en];refine ⟨!0,ForG.inv (P:=λi Y G'=>∃(xs:AU)(o0 o3 o4:Option D),Y=[o0,some (.int w),some (.tup (xs.map az)),o3,o4]/\Sa G G'/\okB w xs/\rs.length - i<=xs.length/\lnR w (rs.length - i) xs=lnR w rs.length rs) ⟨rs,_,_,_,rfl,Sa.refl _,h,am _,rfl⟩ (λ_ _ _ _=>trivial) ?_ ?_⟩
 .rintro i d Y G' hd ⟨xs,o0,o3,o4,rfl,sa,hb,hl,hr⟩ kk hk;have hi:i < rs.length:=by
   have:=(ah.mp hd).1;simpa [cQ] using this
  obtain ⟨m,hm⟩:∃m:Nat,rs.length - i=m+1:=⟨rs.length - i - 1,!0⟩;have hdi:d=.int (m:Int):=by
   unfold cQ at hd;rw[av,ff hi]at hd;have:D.int ((rs.length:Int) - 1 - (i:Int))=d:=by simpa using hd
   rw[<-this];congr 1;omega
  subst hdi;rw[hm]at hl hr;rw[lnR]at hr;have hmx:m < xs.length:=by omega
  have hxl:=hb.len;obtain ⟨k1,k2⟩:=Ae hb hmx;have em:rs.length - (i+1)=m:=by omega
  have ew:D.tup ((xs.take m).map az++(xs.drop (m+1)).map az)=.tup ((wo xs m).map az):=by unfold wo;rw[cb]
  simp_arith![ends];nofun;erw[jt,Ad,af,br,ce];refine ⟨by bv_omega,!1,hM _ _ (last ?_)⟩;rw[ew];erw[h1];refine ⟨!1,?_⟩;rw[e0,e0];refine K4 hb (ux hb hmx) λG2 sa2=>?_;cases hp:bh w xs (wo xs m) with
  |nil=>
   have es:lnS w xs m=wo xs m:=by unfold lnS;rw[hp];rfl
   rw[es]at hr k1 k2;erw[List.head?_nil,aP,ao];exact hk _ _ ⟨wo xs m,_,_,_,rfl,sa.trans sa2,k1,!0,by rw[em];exact hr⟩
  |cons l ls=>
   have es:lnS w xs m=xs:=by unfold lnS;rw[hp];rfl
   rw[es]at hr;erw[List.head?_cons,aP];exact hk _ _ ⟨xs,_,_,_,rfl,sa.trans sa2,hb,!0,by rw[em];exact hr⟩
 .rintro Y G' ⟨xs,o0,o3,o4,rfl,sa,hb,hl,hr⟩;have e1:rs.length - (cQ ((rs.length:Int) - 1) rs.length).length=0:=by simp[cQ]
  rw[e1]at hr;ac_nf0;erw[ends];refine ⟨!1,sa,?_⟩;rw[e0,<-hr];rfl
def af7(rs:AU):aV (rs.map az)<=1:=by
 induction rs with
 |nil=>exact eP _
 |cons r rs ih=>rw[cS,aV];exact Nat.max_le.mpr ⟨am _,ih⟩
def af8{w:Nat}{rs:AU}(h:okB w rs):nr (ao w rs)=true/\dpt (ao w rs) < 9/\gn (ao w rs)=true:=by
 have hw6:=h.w6;have hlen:=h.len;have h1:=z8 rs;have h2:=af7 rs;have h3:gZ (rs.map az)=true:=by
  have hall:∀r∈rs,gn (az r)=true:=λr hr=>rfl;clear h1 h2 h hlen;induction rs with
  |nil=>rfl
  |cons r rs ih=>rw[cS,gZ,hall r aI,ih λx hx=>hall x (bp _ hx)];rfl
 refine ⟨?_,?_,?_⟩
 .simp only[ao,nr,nrs,h1,Bool.and_true]
 .simp only[ao,dpt,aV];omega
 .simp only[ao,gn,gZ,h3,af,ci,iP,Bool.and_true,ae,cf];exact ⟨!1,trivial,!0⟩
def jh(w:Nat)(rs:AU)(t:Nat×Nat×Nat):Option (AU):=
 match jbR rs t.1 t.2.1 t.2.2 with
 |some ss=>if (bh w rs ss).isEmpty then some ss else none
 |none=>none
def Lk(w:Nat)(rs:AU):∀L:List (Nat×Nat×Nat),((L.filterMap (cX rs)).find? λc=>(bh w rs c.2).isEmpty).map (·.2)=L.findSome? (jh w rs)
 |[]=>rfl
 |t::L=>by
  have ih:=Lk w rs L;cases hj:jbR rs t.1 t.2.1 t.2.2 with
  |none=>
   have e1:cX rs t=none:=by unfold cX;rw[hj];rfl
   have e2:jh w rs t=none:=by unfold jh;rw[hj]
   rw[List.filterMap_cons_none e1,List.findSome?_cons,e2,ih]
  |some ss=>
   have e1:cX rs t=some (t,ss):=by unfold cX;rw[hj];rfl
   rw[List.filterMap_cons_some e1,List.findSome?_cons];by_cases hp:(bh w rs ss).isEmpty=true
   .have e2:jh w rs t=some ss:=by unfold jh;rw[hj];exact if_pos hp
    rw[e2,List.find?_cons_of_pos (p:=λc:(Nat×Nat×Nat)×AU=>(bh w rs c.2).isEmpty) (a:=(t,ss)) hp];rfl
   .have e2:jh w rs t=none:=by unfold jh;rw[hj];exact if_neg hp
    rw[e2,List.find?_cons_of_neg (p:=λc:(Nat×Nat×Nat)×AU=>(bh w rs c.2).isEmpty) (a:=(t,ss)) hp,ih]
def Ax{α:Type}(f:Nat->List α){i:Nat}{l:List α}(h:l <+:f i):∀{n:Nat},i < n->(List.range i).flatMap f++l <+:(List.range n).flatMap f
 |0,hn=>absurd hn (Nat.not_lt_zero _)
 |n+1,hn=>by
  rw[kE];by_cases e:i=n
  .subst e;exact (List.prefix_append_right_inj _).mpr h
  .exact (Ax f h (!0)).trans (List.prefix_append _ _)
def af9{α β:Type}{f:α->Option β}{l m:List α}{x:β}(h:l <+:m)(e:l.findSome? f=some x):m.findSome? f=some x:=by obtain ⟨r,rfl⟩:=h;rw[List.findSome?_append,e];rfl
def uN:RF.Spec:=ghS (A:=Nat×AU) (λa ds _=>ds=[ao a.1 a.2]/\okB a.1 a.2) (λa G d G'=>Sa G G'/\d=bD a.1 (fjO a.1 a.2))
def Ln{w:Nat}{rs:AU}{G:DH}{k:AT}{E:EK}(h:okB w rs)(hk:∀G',Sa G G'->k (bD w (fjO w rs)) G'):uN.t [ao w rs] G k E:=
 eG (w,rs) ⟨rfl,h⟩ λd G' ⟨e1,e2⟩=>by subst e2;exact hk G' e1
def aga (Z:aj) (h1:Z "_law_made"=sLM) (h2:Z "_law_parting"=oG) (a:Nat×AU) (ds:AS) (G:DH) (h:ds=[ao a.1 a.2]/\okB a.1 a.2):aA Z zc noE (env0 ds 5) G (ends λd G'=>Sa G G'/\d=bD a.1 (fjO a.1 a.2)):=by
 obtain ⟨w,rs⟩:=a;obtain ⟨rfl,hb⟩:=h;dsimp only at hb ⊢;have hlen:=hb.len;have e0:ao w rs=.tup [.int w,.tup (rs.map az)]:=rfl;have ef:fjO w rs=(dX rs.length).findSome? (jh w rs):=Lk w rs _;rw[ef];generalize hn:rs.length=n at hlen;simp_all_arith[zc];nofun;conv=>enter [4,1,1];rw[e0]
 erw[af,hn];rw[<-e0];symm;have rng:∀(lo m k:Nat)(d:D),(aL (lo:Int) m)[k]?=some d->d=.int ((lo+k:Nat):Int)/\k < m:=λlo m k d hd=>by
  have hk:k < m:=by have:=(ah.mp hd).1;simpa [aL] using this
  refine ⟨?_,hk⟩;unfold aL at hd;rw[av,ff hk]at hd;rw[<-cm hd];congr 1
 simp_arith![ends];refine ⟨⟨!0,!0⟩,ForG.inv (P:=λi Y G'=>(∃o3 o4 o5 o6,Y=[some (ao w rs),some (.int (n:Int)),o3,o4,o5,o6])/\i<=n/\((List.range i).flatMap (eX n)).findSome? (jh w rs)=none/\Sa G G') ⟨⟨_,_,_,_,rfl⟩,eP _,rfl,Sa.refl _⟩ (λ_ _ _ _=>trivial) ?_ ?_⟩
 .rintro i d Y G1 hd ⟨⟨o3,o4,o5,o6,rfl⟩,hin,g1,sa1⟩ kk hk;obtain ⟨rfl,hi⟩:=rng 0 _ i d hd;have hi:i < n:=by simpa using hi
  rw[Nat.zero_add];simp_arith![ends];refine last ?_;simp_arith![ends];have ei1:(i:Int)+1=((i+1:Nat):Int):=by omega
  rw[ei1];have em:((n:Int) - ((i+1:Nat):Int)).toNat=n - (i+1):=by omega
  rw[em];refine ⟨⟨!0,!0,!0,!0⟩,ForG.inv (P:=λj Y G'=>(∃o4 o5 o6,Y=[some (ao w rs),some (.int (n:Int)),some (.int (i:Int)),o4,o5,o6])/\j<=n - (i+1)/\((List.range i).flatMap (eX n)++(List.range j).flatMap λj=>dq i (i+1+j)).findSome? (jh w rs)=none/\Sa G G') ⟨⟨_,_,_,rfl⟩,eP _,by rw[List.range_zero,List.flatMap_nil,fA];exact g1,sa1⟩ (λ_ _ _ _=>trivial) ?_ ?_⟩
  .rintro j d Y G2 hd ⟨⟨o4,o5,o6,rfl⟩,hjn,g2,sa2⟩ kk2 hk2;obtain ⟨rfl,hj⟩:=rng (i+1) _ j d hd;have fr:=kE (λj=>dq i (i+1+j)) j;have pre:∀l,l <+:dq i (i+1+j)->((List.range i).flatMap (eX n)++(List.range j).flatMap (λj=>dq i (i+1+j)))++l <+:dX n:=λl hl=>by
    rw[bo];exact Ax (eX n) (Ax (λj=>dq i (i+1+j)) hl hj) hi
   generalize hL:(List.range i).flatMap (eX n)++(List.range j).flatMap (λj=>dq i (i+1+j))=L at g2 pre;generalize hy:i+1+j=y at hk2 fr pre;have hyn:y < n:=by omega
   simp_arith![ends];refine last ?_;simp_arith![ends];refine ⟨!1,ForG.inv (P:=λk Y G'=>(∃o5 o6,Y=[some (ao w rs),some (.int (n:Int)),some (.int (i:Int)),some (.int (y:Int)),o5,o6])/\(L++(dq i y).take k).findSome? (jh w rs)=none/\Sa G G') ⟨⟨_,_,rfl⟩,by rw[List.take_zero,fA];exact g2,sa2⟩ (λ_ _ _ _=>trivial) ?_ ?_⟩
   .rintro k d Y G3 hd ⟨⟨o5,o6,rfl⟩,g3,sa3⟩ kk3 hk3;obtain ⟨z,rfl,hz,ht⟩:∃z:Nat,d=.int (z:Int)/\(z=i\/z=y)/\(dq i y).take (k+1)=(dq i y).take k++[(i,y,z)]:=by
     match k,hd with
     |0,hd=>exact ⟨i,!!hd.symm,.inl rfl,rfl⟩
     |1,hd=>exact ⟨y,!!hd.symm,.inr rfl,rfl⟩
     |k+2,hd=>simp at hd
    have hjb:iQ ⟨w,rs,i,y,z⟩:=⟨hb,by dsimp only;omega,by dsimp only;omega,hz⟩;have step:(L++(dq i y).take (k+1)).findSome? (jh w rs)=jh w rs (i,y,z):=by rw[ht,<-bo,List.findSome?_append,g3,List.findSome?_cons];cases jh w rs (i,y,z) <;> rfl
    simp_arith![ends];nofun;erw[h1];refine af3 hjb λG4 sa4=>hM _ _ (last ?_);have sa34:=sa3.trans sa4;cases hjr:jbR rs i y z with
    |none=>
     have e1:jh w rs (i,y,z)=none:=by unfold jh;dsimp only;rw[hjr]
     erw[bD];exact hk3 _ _ ⟨⟨_,_,rfl⟩,by rw[step,e1],sa34⟩
    |some ss=>
     have hss:=(Ah hjb hjr).1;have nb:eF (view G4 (ao w ss))=false:=rfl;erw[bD,nb,h2];refine K4 hb hss λG5 sa5=>?_;have sa35:=sa34.trans sa5;have hem:=Aj (bh w rs ss);cases hh:(bh w rs ss).head? with
     |none=>
      have hpe:(bh w rs ss).isEmpty=true:=by rw[hem,hh];rfl
      have e1:jh w rs (i,y,z)=some ss:=by unfold jh;dsimp only;rw[hjr];exact if_pos hpe
      have e2:=af9 (pre _ (List.take_prefix (k+1) _)) (step.trans e1);erw[aP,e2,bD];exact sa35
     |some m=>
      have hpe:¬(bh w rs ss).isEmpty=true:=by rw[hem,hh];exact bn
      have e1:jh w rs (i,y,z)=none:=by unfold jh;dsimp only;rw[hjr];exact if_neg hpe
      erw[aP];exact hk3 _ _ ⟨⟨_,_,rfl⟩,by rw[step,e1],sa35⟩
   .rintro Y G3 ⟨⟨o5,o6,rfl⟩,g3,sa3⟩;refine hk2 _ _ ⟨⟨_,_,_,rfl⟩,!0,?_,sa3⟩;rw[fr,<-bo,hL];exact g3
  .rintro Y G2 ⟨⟨o4,o5,o6,rfl⟩,hjn,g2,sa2⟩;refine hk _ _ ⟨⟨_,_,_,_,rfl⟩,hi,?_,sa2⟩;have el:(aL ((i+1:Nat):Int) (n - (i+1))).length=n - (i+1):=by unfold aL;rw[af,fy]
   rw[el]at g2;rw[kE];exact g2
 .rintro Y G1 ⟨⟨o3,o4,o5,o6,rfl⟩,hin,g1,sa1⟩;refine hM _ _ ?_;have el:(aL 0 (n:Int).toNat).length=n:=by simp[aL]
  rw[el]at g1;have g2:(dX n).findSome? (jh w rs)=none:=g1;erw[g2,bD];exact sa1
def Lp{w:Nat}:∀(n:Nat){rs:AU},okB w rs->okB w (prR w n rs)
 |0,rs,hb=>(oF hb).1
 |n+1,rs,hb=>by
  rw[prR];split
  .exact (oF hb).1
  .exact Lp n (oF hb).1
def uO:RF.Spec:=ghS (A:=Nat×AU) (λa ds _=>ds=[ao a.1 a.2]/\okB a.1 a.2) (λa G d G'=>Sa G G'/\d=ao a.1 (prR a.1 (a.2.length+1) a.2))
def agb{w:Nat}{rs:AU}{G:DH}{k:AT}{E:EK}(h:okB w rs)(hk:∀G',Sa G G'->k (ao w (prR w (rs.length+1) rs)) G'):uO.t [ao w rs] G k E:=
 eG (w,rs) ⟨rfl,h⟩ λd G' ⟨e1,e2⟩=>by subst e2;exact hk G' e1
def Lq{w:Nat}{rs:AU}{G:DH}{k:AT}{E:EK}(h:okB w rs)(hk:k (ao w (prR w (rs.length+1) rs)) G):uG.t [ao w rs] G k E:=bT (w,rs) rfl h hk
def agc (Z:aj) (h1:Z "_law_first_join"=uN) (h2:Z "_law_lean"=uM) (a:Nat×AU) (ds:AS) (G:DH) (h:ds=[ao a.1 a.2]/\okB a.1 a.2):aA Z zg noE (env0 ds 2) G (ends λd G'=>Sa G G'/\d=ao a.1 (prR a.1 (a.2.length+1) a.2)):=by
 obtain ⟨w,rs⟩:=a;obtain ⟨rfl,hb⟩:=h;dsimp only at hb ⊢;simp_all_arith[zg];nofun;erw[ends];symm;rw[yu];refine ⟨rs.length+1+1,WhlG.inv (P:=λn Y G'=>∃cur e o2,Y=[some (ao w cur),some e,o2]/\okB w cur/\Sa G G'/\((e=.non/\cur=rs/\n=rs.length+1)\/∃prev f,e=ao w prev/\okB w prev/\cur=prS w prev/\prev.length=n/\prev.length < f/\prR w f prev=prR w (rs.length+1) rs)) ?_ (rs.length+1) _ _ ⟨rs,.non,_,rfl,hb,Sa.refl _,.inl ⟨rfl,rfl,rfl⟩⟩⟩;rintro n Y G1 ⟨cur,e,o2,rfl,hc,sa1,hcase⟩
 -- the body,from a book cur
 have body:∀(f:Nat) (e:D) (o2:Option D),prR w f cur=prR w (rs.length+1) rs->cur.length < f->cur.length < n->∀kk:aq->DH->Prop,(∀m ρ' G',m < n->(∃cur e o2,ρ'=[some (ao w cur),some e,o2]/\okB w cur/\Sa G G'/\((e=.non/\cur=rs/\m=rs.length+1)\/∃prev f,e=ao w prev/\okB w prev/\cur=prS w prev/\prev.length=m/\prev.length < f/\prR w f prev=prR w (rs.length+1) rs))->kk ρ' G')->∀D:En,D.nx=kk->aA Z (.cons (.asg (.nm 1) (.var 0)) (.cons (.asg (.nm 2) (.call "_law_first_join" (.cons (.var 0) .nil))) (.cons (.whl (.val (.cmp .IsNot (.var 2) (.cst .non))) (.cons (.asg (.nm 0) (.var 2)) (.cons (.asg (.nm 2) (.call "_law_first_join" (.cons (.var 0) .nil))) .nil))) (.cons (.asg (.nm 0) (.call "_law_lean" (.cons (.var 0) .nil))) .nil)))) noE [some (ao w cur),some e,o2] G1 D:=by
  intro f e o2 hf hlf hln kk hk D hD;nofun;erw[ends];symm;erw[h1];refine Ln hc λG2 sa2=>hM _ _ (seq λM hM=>?_);simp_arith![ends];refine ⟨cur.length+1,WhlG.inv (P:=λm Y G'=>∃c2,Y=[some (ao w c2),some (ao w cur),some (bD w (fjO w c2))]/\Sa G G'/\okB w c2/\c2.length=m/\ajR w c2.length c2=ajR w cur.length cur) ?_ cur.length _ _ ⟨cur,rfl,sa1.trans sa2,hc,rfl,rfl⟩⟩;rintro m Y G3 ⟨c2,rfl,sa3,hc2,rfl,he⟩;cases hfj:fjO w c2 with
  |none=>
   rw[Al hfj]at he;erw[bD,ir];ac_nf0;erw[h2,hD];refine af5 hc2 λG4 sa4=>?_;refine hk cur.length _ _ hln ⟨_,_,_,rfl,Af _ hc2 (am _),sa3.trans sa4,.inr ⟨cur,f,rfl,hc,?_,rfl,hlf,hf⟩⟩;unfold prS;rw[<-he]
  |some ss=>
   obtain ⟨q1,q2,_⟩:=Ak hc2 hfj;rw[<-q2,Am hfj]at he;have nb:eF (view G3 (ao w ss))=false:=rfl;simp_arith![bD,nb];intro kk2 hk2;nofun;erw[ends];ac_nf0;erw[h1];exact Ln q1 λG4 sa4=>hk2 ss.length _ _ (!0) ⟨ss,rfl,sa3.trans sa4,q1,rfl,he⟩
 rcases hcase with ⟨rfl,rfl,rfl⟩ |⟨prev,f,rfl,hpv,rfl,rfl,hlf,hf⟩
 .have ed:deq (ao w cur) .non=false:=rfl;simp_arith![nM (iT _ _),ed];refine ⟨iT _ _,λkk hk=>body (cur.length+1) _ _ rfl (d0 _) (d0 _) kk hk _ rfl⟩
 .obtain ⟨f,rfl⟩:∃f',f=f'+1:=⟨f - 1,!0⟩;obtain ⟨q1,q2⟩:=oF hpv;rw[prR]at hf;simp_arith![nM (iT _ _)];refine ⟨K1,?_⟩;cases hd:deq (ao w (prS w prev)) (ao w prev) with
  |true=>
   rw[if_pos (show bkE w (prS w prev) prev=true from hd)]at hf;ac_nf0;erw[hf];exact sa1
  |false=>
   rw[if_neg (by unfold bkE;rw[hd];exact bn)]at hf;have hlt:(prS w prev).length < prev.length:=by
    rcases q2 with e |e
    .rw[e,lE (iT _ _)]at hd;cases hd
    .exact e
   exact λkk hk=>body f _ _ hf (!0) hlt kk hk _ rfl
structure F43(Z:aj):Prop where
 opn:Z "_law_open"=zr
 anew:Z "_law_anew"=t8
 book:Z "_law_join_book"=uI
 lpr:Z "_law_pressed"=uO
 prs:Z "press"=uG
 same:Z "_law_same"=eO 9
def agd(Z:aj)(F:F43 Z)(ds:AS)(G:DH)(h:∃ns:List Int,ds=[.scr ns]/\ns.length<=63):aA Z zj noE (env0 ds 5) G (ends λd _=>d=.bl true):=by
 obtain ⟨ns,rfl,hl⟩:=h;simp_all_arith[zj];nofun;erw[F.opn];refine cH ⟨ns,rfl,hl⟩ λd' G1 ⟨p,e1,_,hp,_⟩=>?_;subst e1;symm;simp_arith![ends];refine ⟨!1,ForG.inv (P:=λi Y G'=>(∃o2 o3 o4 o5,Y=[some (.scr ns),some (.ref p),o2,o3,o4,o5])/\Pen G' p) ⟨⟨_,_,_,_,rfl⟩,hp⟩ (λ_ _ _ _=>trivial) ?_ ?_⟩
 .rintro i d Y G2 hd ⟨⟨o2,o3,o4,o5,rfl⟩,hp2⟩ kk hk;obtain ⟨x,rfl,v,m,hv1,hv2,hm,ev,em⟩:∃x:Int,d=.int x/\∃v m:Nat,1<=v/\v<=6/\m<=12/\atI [D.int 4,D.int 6,D.int 3] ((x+1) / 2)=some (.int (v:Int))/\atI [D.int 5,D.int 4,D.int 8] ((x+1) / 2)=some (.int (m:Int)):=by
   match i,hd with
   |0,hd=>exact ⟨0,by simpa [aL] using hd.symm,4,5,!1,!1,!1,rfl,rfl⟩
   |1,hd=>exact ⟨1,by simpa [aL] using hd.symm,6,4,!1,!1,!1,rfl,rfl⟩
   |2,hd=>exact ⟨2,by simpa [aL] using hd.symm,6,4,!1,!1,!1,rfl,rfl⟩
   |3,hd=>exact ⟨3,by simpa [aL] using hd.symm,3,8,!1,!1,!1,rfl,rfl⟩
   |i+4,hd=>
    have:=(ah.mp hd).1;simp[aL]at this;omega
  simp_arith![ends];nofun;erw[F.anew,F.book];refine aeu hp2 λG3 hp3 _=>?_;refine ⟨!1,⟨!1,!1⟩,aU ev ⟨!1,⟨!1,!1⟩,aU em ?_⟩⟩;refine afQ hp3 hv1 hv2 hm λw rs G4 hb hp4 sb4=>hM _ _ (seq λM hM=>?_);erw[F.lpr];refine agb hb λG5 sa5=>hM _ _ (last ?_);have hp5:=hp4.sa sa5;obtain ⟨b1,b2,b3⟩:=af8 (Lp (rs.length+1) hb);simp_arith![ends];refine ⟨!1,ForG.inv (P:=λj Y G'=>(∃o5,Y=[some (.scr ns),some (.ref p),some (.int x),some (ao w rs),some (ao w (prR w (rs.length+1) rs)),o5])/\Pen G' p) ⟨⟨_,rfl⟩,hp5⟩ (λ_ _ _ _=>trivial) ?_ ?_⟩
  .rintro j d Y G6 hd ⟨⟨o5,rfl⟩,hp6⟩ kk2 hk2;simp_arith![ends];refine last ?_;erw[F.prs,F.same];refine Lq hb (Jx b1 b2 b3 ?_);erw[ends];exact hk2 _ _ ⟨⟨_,rfl⟩,hp6⟩
  .rintro Y G6 ⟨⟨o5,rfl⟩,hp6⟩;exact hk _ _ ⟨⟨_,_,_,_,rfl⟩,hp6⟩
 .rintro Y G2 ⟨_,hp2⟩;ac_nf0;have f0:okF 1 [48]:=⟨rfl,λc hc=>by rw[aE.mp hc];exact .inl rfl⟩;have f1:okF 1 [49]:=⟨rfl,λc hc=>by rw[aE.mp hc];exact .inr (.inl rfl)⟩;have b1:okB 1 [([48],[97]),([49],[97])]:=by
   refine ⟨!1,!1,!1,λr hr=>?_,λr hr=>?_⟩
   .rcases bg.mp hr with rfl |hr
    .exact f0
    .rw[aE.mp hr];exact f1
   .rcases bg.mp hr with rfl |hr
    .exact ⟨!1,!1,λc hc=>by rw[aE.mp hc];decide⟩
    .rw[aE.mp hr];exact ⟨!1,!1,λc hc=>by rw[aE.mp hc];decide⟩
  have c1:prR 1 3 [([48],[97]),([49],[97])]=[([42],[97])]:=by rfl
  have e1:D.tup [.int 1,.tup [.tup [.str [48],.str [97]],.tup [.str [49],.str [97]]]]=ao 1 [([48],[97]),([49],[97])]:=rfl;have e2:D.tup [.int 1,.tup [.tup [.str [42],.str [97]]]]=ao 1 [([42],[97])]:=rfl;erw[F.prs];refine ⟨!1,!1,!1,!1,?_⟩;rw[e1];refine Lq b1 ?_;rw[show ([([48],[97]),([49],[97])]:AU).length+1=3 from rfl,c1];erw[ao];exact ⟨!1,!1,!1,⟨!1,!1,!1⟩,rfl⟩
end RF
namespace HD
open PySem PySem.W
def sv(x:Str)(t:Nat):AN:=.str x t
def ri(n:Nat):AN:=.int n 0
def iU (l:AB):Obj:=⟨.type "tuple",none,.seq ⟨l⟩ 0,⟨[]⟩⟩
def gB(c:AN)(l:AB):Obj:=⟨c,none,.fields ⟨l⟩,⟨[]⟩⟩
def oJ:Str:="/claim/cut.py"
def Ay(n q:Str)(ln ac fl a b:Nat)(isf:Bool)(l1 l2 tm:AN)(t t2:Nat):Obj:=
 gB (.type "code") [sv n t,sv q (t+1),sv oJ (t+2),ri ln,ri ac,ri 0,ri 0,ri fl,.ref a,.bool isf,ri 181,.ref b,.none,l1,l2,tm,ri t2,ri ln,sv oJ (t2+1)]
def toks(t:Nat):AD->AB
 |[]=>[]
 |x::r=>sv x t::toks (t+1) r
def fdO(n q:Str)(p:Arguments)(b:AF)(sc:Scope)(g:Nat)(md cd:AN):Data:=
 .func { name:=n,qualname:=q,params:=p,body:=.stmts b,scope:=sc,globals:=g,closure:=[],defaults:=.none,kwdefaults:=.none,pyModule:=md,code:=cd }
def enO(P:Params)(k:Str)(t:Nat)(v:AN):DictEntry:={ hash:=PyData.keyHash P k,key:=sv k t,val:=v }
def oK (l:List DictEntry) (e:Nat):Obj:=⟨.type "dict",none,.dict ⟨l⟩ e,⟨[]⟩⟩
def frO (c l:Nat) (md:AN):Obj:=⟨.type "frame",none,.plain,⟨[some (.ref c),some (.ref 3),some (.ref l),none,some md,none,some (.ref 0)]⟩⟩
def bfO (s:AL) (v:AN):Obj:=gB (.type "builtin_function_or_method") [.builtin s,v]
def veM:AB:=[.type "ValueError",.type "Exception",.type "BaseException",.type "object"]
def uP (b:AO):Bool:=match b with |.Name n _=>n==("ValueError":Str) |_=>false
def fnO(q:Str)(a t:Nat)(md:AN)(n:Str)(p:Arguments)(b:AF)(sc:Scope)(ln:Nat):List Obj:=match localNames p sc (.stmts b) with
 |some l=>[iU [],gB .none [],iU (toks (t+3) l.1),iU [],⟨.none,none,fdO n q p b sc 0 .none .none,⟨[]⟩⟩,
   Ay n q ln p.args.length 3 a (a+1) true (.ref (a+2)) (.ref (a+3)) (.ref (a+4)) t (t+3+l.1.length),⟨.type "function",none,fdO n q p b sc 3 md (.ref (a+5)),⟨[]⟩⟩]
 |none=>[iU [],gB .none [],⟨.none,none,fdO n q p b sc 0 .none .none,⟨[]⟩⟩,
   Ay n q ln p.args.length 3 a (a+1) true .none .none (.ref (a+2)) t (t+3),⟨.type "function",none,fdO n q p b sc 3 md (.ref (a+3)),⟨[]⟩⟩]
def fnA(p:Arguments)(b:AF)(sc:Scope):Nat:=match localNames p sc (.stmts b) with |some _=>7 |none=>5
def fnT(p:Arguments)(b:AF)(sc:Scope):Nat:=match localNames p sc (.stmts b) with |some l=>l.1.length+5 |none=>5
def dot:Str:="."
structure MO where
 os:List Obj
 es:List DictEntry
 cs:AB
 a:Nat
 t:Nat
def uQ(P:Params)(c:Str)(md:AN):AF->Nat->Nat->MO
 |.FunctionDef n p b _ _ _ sc _ _ pos::r,a,t=>
  let m:=uQ P c md r (a+fnA p b sc) (t+fnT p b sc+1)
  ⟨fnO (c++dot++n) a t md n p b sc pos.line++m.os,enO P n (t+fnT p b sc) (.ref (a+fnA p b sc - 1))::m.es,ri pos.line::ri pos.col::.ref (a+fnA p b sc - 2)::m.cs,m.a,m.t⟩
 |_::r,a,t=>uQ P c md r a t
 |[],a,t=>⟨[],[],[],a,t⟩
def clA(P:Params)(a:Nat)(b:AF):Nat:=(uQ P dot .none b (a+7) 0).a+2
def stO(P:Params)(r:Nat)(sub:AB)(a t:Nat)(md:AN)(s:Stmt):List Obj:=match s with
 |.FunctionDef n p b _ _ _ sc _ _ pos=>fnO n a t md n p b sc pos.line
 |.ClassDef n bs _ body _ _ _ _ _ st pos=>
  let m:=uQ P n md body (a+7) (t+12)
  let c:=m.a+2
  let u:=m.t+st.length
  let d1:=[enO P "__module__" (t+7) md]
  let d2:=enO P "__firstlineno__" (t+11) (.int pos.line (t+10))::m.es++[enO P "__static_attributes__" u (.ref m.a)]
  let b:AB:=match bs with |b::_=>(match uP b with |true=>[.type "ValueError"] |false=>[.ref r]) |[]=>[]
  let own:Bool:=match bs with |[]=>true |_=>false
  let ve:Bool:=match bs with |b::_=>uP b |[]=>false
  let wr (v:Nat):Obj:=gB (.type "getset_descriptor") [sv "__weakref__" v,.ref c,.builtin "ExceptionGroup.__weakref__",.none]
  let typ (mro:AB) (sub:AB) (nw:AL):Obj:=
   ⟨.type "type",none,.cls { name:=n,bases:=(match own with |true=>[.type "object"] |false=>b),mro:=.ref c::mro,ns:=m.a+1,qualname:=n,subclasses:=sub },
    ⟨[(match own with |true=>none |false=>some (.ref a)),none,some (sv n t),some (sv n (t+8)),some (.builtin nw),some (.bool true)]⟩⟩
  [iU b,bfO "type.__prepare__" (.type "type"),oK (d1++enO P "__qualname__" (t+9) (sv n (t+8))::d2) (4+m.es.length),iU [],gB .none m.cs,
   Ay n n pos.line 0 0 (a+3) (a+4) false .none .none .none (t+2) (t+5),frO (a+5) (a+2) md]++m.os++[iU (toks m.t st)] ++
  (match own with
  |true=>[oK (d1++d2++[enO P "__dict__" (u+2) (.ref (c+1)),enO P "__weakref__" (u+4) (.ref (c+2)),enO P "__doc__" (u+5) .none]) 4,typ [.type "object"] [] "object.__new__",
    gB (.type "getset_descriptor") [sv "__dict__" (u+1),.ref c,.builtin "function.__dict__",.builtin "function.__dict__#set"],wr (u+3)]
  |false=>(match ve with
   |true=>[oK (d1++d2++[enO P "__weakref__" (u+2) (.ref (c+1)),enO P "__doc__" (u+3) .none]) 3,typ veM sub "ValueError.__new__",wr (u+1)]
   |false=>[oK (d1++d2++[enO P "__doc__" (u+1) .none]) 2,typ (.ref r::veM) [] "ValueError.__new__"])) ++
  [gB (.type "super") [.ref c,.ref c,.ref c],bfO "object.__init_subclass__" (.ref c)]
 |_=>[]
def mdO(t:Nat)(md:AN)(s:Stmt):AN:=match s with
 |.Assign [.Name n _] (.Constant (.str x) _ _) _=>(match n==("__name__":Str) with |true=>sv x t |false=>md)
 |_=>md
def enS(P:Params)(lk:Str->AN)(t u a a':Nat)(s:Stmt):List DictEntry:=match s with
 |.Assign [.Name n _] (.Name y _) _=>[enO P n t (lk y)]
 |.FunctionDef n _ _ _ _ _ _ _ _ _=>[enO P n (u-1) (.ref (a'-1))]
 |.ClassDef n _ _ b _ _ _ _ _ _ _=>[enO P n (u-1) (.ref (clA P a b))]
 |.Assign [.Name n _] (.Constant c _ _) _=>(match n==("__name__":Str) with
  |true=>[]
  |false=>[enO P n (t+1) (match c with |.int i=>.int i t |.str x=>sv x t |_=>.none)])
 |_=>[]
def fnS(a':Nat)(s:Stmt):List (Str×AN):=match s with
 |.FunctionDef n _ _ _ _ _ _ _ _ _=>[(n,.ref (a'-1))]
 |_=>[]
def cdS(a a':Nat)(s:Stmt):AB:=match s with
 |.FunctionDef _ _ _ _ _ _ _ _ _ pos=>[ri pos.line,ri pos.col,.ref (a'-2)]
 |.ClassDef _ _ _ _ _ _ _ _ _ _ pos=>[ri pos.line,ri pos.col,.ref (a+5)]
 |_=>[]
def sbS(P:Params)(a:Nat)(s:Stmt):AB:=match s with
 |.ClassDef _ bs _ b0 _ _ _ _ _ _ _=>(match bs with |b::_=>(match uP b with |true=>[] |false=>[.ref (clA P a b0)]) |[]=>[])
 |_=>[]
def age(P:Params)(a:Nat)(s:Stmt):AA:=match s with
 |.ClassDef _ bs _ b0 _ _ _ _ _ _ _=>(match bs with |b::_=>(match uP b with |true=>[clA P a b0] |false=>[]) |[]=>[])
 |_=>[]
def fold{α:Type}(f:Nat->Nat->Nat->Nat->AN->Stmt->List α):List (Nat×Nat)->AN->AF->List α
 | (a,t)::(a',u)::r,md,s::ss=>f a a' t u md s++fold f ((a',u)::r) (mdO t md s) ss
 |_,_,_=>[]
def Lr:List (Nat×Nat)->AN->AF->AN
 | (_,t)::r,md,s::ss=>Lr r (mdO t md s) ss
 |_,md,_=>md
def iV:AN:=sv "__main__" 164
def agf(P:Params)(v:AN):List DictEntry:=
 [enO P "__name__" 165 v,enO P "__doc__" 166 .none,enO P "__package__" 167 .none,enO P "__loader__" 168 (.builtin "__main__.__loader__#opaque"),enO P "__spec__" 169 .none,
  enO P "__annotations__" 170 (.ref 6),enO P "__builtins__" 171 (.ref 4),enO P "__file__" 173 (sv oJ 172),enO P "__cached__" 174 .none]
def ents(N:List (Nat×Nat))(b:AF)(P:Params):List DictEntry:=agf P (Lr N iV b)++fold (λa a' t u _ s=>enS P (λy=>((fold (λ_ a' _ _ _ s=>fnS a' s) N iV b).lookup y).getD .none) t u a a' s) N iV b
def put{α:Type}:Nat->α->List α->List α
 |_,_,[]=>[]
 |0,x,_::r=>x::r
 |n+1,x,y::r=>y::put n x r
def Ls(cs:AB):List Obj:=[iU [],gB .none cs,
 gB (.type "code") [sv "<module>" 182,sv "<module>" 183,sv oJ 184,ri 1,ri 0,ri 0,ri 0,ri 0,.ref 11,.bool false,ri 181,.ref 12,.none,.none,.none,.none,ri 185,ri 1,sv oJ 186],frO 13 3 iV]
def agg(B:List Obj):List Obj:=B++Ls []
def objs(B:List Obj)(N:List (Nat×Nat))(b:AF)(P:Params):List Obj:=
 let es:=ents N b P
 put 3 (oK es es.length) (B++Ls (fold (λa a' _ _ _ s=>cdS a a' s) N iV b) ++
  fold (λa _ t _ md s=>stO P ((fold (λa _ _ _ _ s=>age P a s) N iV b).headD 0) (fold (λa _ _ _ _ s=>sbS P a s) N iV b) a t md s) N iV b)
def evs{α:Type}:List α->List α
 |[]=>[]
 |[x]=>[x]
 |x::_::r=>x::evs r
def bt:Nat->List Obj->BT
 |0,_=>.nil
 |_,[]=>.nil
 |n+1,x::r=>.node x (bt n (evs r)) (bt n (evs r.tail))
def nameless(s:Stmt):Bool:=match s with
 |.Assign [.Name n _] _ _=>!(n==("__name__":Str))
 |_=>true
def pick:Nat->AA->List Obj->Frag
 |i,a::r,o::os=>(match Nat.beq a i with |true=>(a,o)::pick (i+1) r os |false=>pick (i+1) (a::r) os)
 |_,_,_=>[]
end HD
def PySem.W.Fast.tw12490413012545556582:PySem.Program:=PySem.Challenge.pw_starsieve_k43_books_pressed
theorem PySem.W.Fast.te12490413012545556582:PySem.Challenge.pw_starsieve_k43_books_pressed=PySem.W.Fast.tw12490413012545556582:=rfl
namespace HK
open PySem PySem.W PySem.W.Fast
def pw:AK:=PySem.Challenge.pw_starsieve_k43_books_pressed
def rl:OpenLaw:=PySem.Challenge.rw_starsieve_k43_books_pressed
def NN:List (Nat×Nat):=[(15,187),(15,189),(28,207),(40,223),(52,239),(64,255),(64,257),(64,259),(71,266),(78,273),(85,281),(90,287),(97,295),(102,301),(109,309),(116,318),(123,329),(128,335),(135,342),(135,344),(135,346),(135,348),(135,350),(140,356),(147,364),(152,370),(159,377),(166,385),(173,393),(180,401),(180,403),(187,410),(194,419),(201,430),(208,440),(215,451),(220,457),(220,459),(227,468),(232,474),(239,484),(239,486),(246,496),(253,506),(260,515),(260,517),(267,531),(272,537),(279,548),(286,557),(293,566),(293,568),(300,579),(307,589),(314,596),(321,607),(326,613),(333,621),(340,631),(347,641),(354,653),(359,659),(366,673),(371,679),(376,685),(381,691),(388,702),(395,712),(402,722),(409,731),(416,740),(421,746),(426,752),(433,761),(440,771),(445,777),(452,787),(459,798),(466,810),(473,819),(480,831)]
def L1(P:Params):List Obj:=HD.objs (boot_heap P).objs.toList NN pw.main.body P
def H1(P:Params):Heap:=⟨⟨L1 P⟩,{}⟩
def T1(P:Params):BT:=HD.bt 12 (L1 P)
def LA(P:Params):List Obj:=HD.agg (boot_heap P).objs.toList
def HA(P:Params):Heap:=⟨⟨LA P⟩,{}⟩
def T0(P:Params):BT:=HD.bt 5 (LA P)
def env:Env:={ scope:=pw.main.scope,locals:=mainNs,globals:=mainNs,cells:=[],code:=.ref 13,frame:=some 14 }
def bE:AF:=behindTheImports pw
def cE:Code:=.body bE env
def p0:Pos:=⟨0,0,0,0⟩
def B:List Frame:=[topFrame p0]
def ann:Option AN:=some (.ref 6)
def qv:AK:={ pw with main:={ pw.main with body:=pw.main.body.filter HD.nameless } }
def as:AA:=[3,23,24,36,37,48,49,60,61,69,70,76,77,83,84,88,89,95,96,100,101,107,108,114,115,121,122,126,127,133,134,138,139,145,146,150,151,157,158,164,165,171,172,178,179,185,186,192,193,199,200,206,207,213,214,218,219,225,226,230,231,237,238,244,245,251,252,258,259,265,266,270,271,277,278,284,285,291,292,298,299,305,306,312,313,319,320,324,325,331,332,338,339,345,346,352,353,357,358,364,365,369,370,374,375,379,380,386,387,393,394,400,401,407,408,414,415,419,420,424,425,431,432,438,439,443,444,450,451,457,458,464,465,471,472,478,479]
def K(P:Params):Frag:=HD.pick 0 as (L1 P)
def Xt(s:AI):Bool:=xlAt qv [] s&&recOk (RowW.records rl.row.toRowW) s
def see{α:Type}(_:α):Bool:=true
def primed:(see T1&&see T0&&see H1&&see HA&&see cE&&see B&&see env&&see bE&&see qv&&see K&&see Xt)=true:=by k_qdec
theorem pre(w:World)(os:OsState):topGo treeTable pw w 11 ann 12 ⟨boot_heap w.params,⟨[]⟩,boot_drawn,boot_toks,os⟩ (topStub pw)=some (⟨HA w.params,⟨[]⟩,{},187,os⟩,⟨denote treeTable cE,cE,p0,B⟩):=by have _:=primed;rw[PySem.W.Fast.te15667345088766844465,PySem.W.Fast.te14364793385576792824,PySem.W.Fast.te1032975242618825031,PySem.W.Fast.te8093259214132618727,PySem.W.Fast.te1718297227530528222,PySem.W.Fast.te11892475500146522536];rfl'
theorem block(w:World)(os:OsState):segRun treeTable pw w 11 ann 1 2 ⟨HA w.params,⟨[]⟩,{},187,os⟩ (blockOf bE env cE p0 B)=some (.next,SharedT.abs ⟨T0 w.params,15,{},⟨[]⟩,{},187,os⟩,cE,p0):=by rw[PySem.W.Fast.te14374325043358763698,PySem.W.Fast.te14364793385576792824,PySem.W.Fast.te1032975242618825031,PySem.W.Fast.te8093259214132618727,PySem.W.Fast.te1718297227530528222,PySem.W.Fast.te14938417808399470215,PySem.W.Fast.te16330338443398637341,PySem.W.Fast.te10239294469119128424];rfl'
theorem piece(w:World)(os:OsState):segRunT treeTable pw w 11 ann 1 9000 ⟨T0 w.params,15,{},⟨[]⟩,{},187,os⟩ (piecesOf bE env cE p0 B)=some (.next,⟨T1 w.params,480,{},⟨[]⟩,{},831,os⟩,cE,⟨385,0,393,69⟩):=by rw[PySem.W.Fast.te10110043849684766642,PySem.W.Fast.te14364793385576792824,PySem.W.Fast.te1032975242618825031,PySem.W.Fast.te13069687644243786066,PySem.W.Fast.te14938417808399470215,PySem.W.Fast.te1718297227530528222,PySem.W.Fast.te16330338443398637341,PySem.W.Fast.te10239294469119128424];rfl'
theorem fin(w:World)(os:OsState):topRun treeTable pw w 11 ann 3 (SharedT.abs ⟨T1 w.params,480,{},⟨[]⟩,{},831,os⟩) ⟨doneF .next,cE,⟨385,0,393,69⟩,B⟩=some ⟨H1 w.params,⟨[]⟩,{},831,os⟩:=by rw[PySem.W.Fast.te14082659384304107361,PySem.W.Fast.te14364793385576792824,PySem.W.Fast.te1032975242618825031,PySem.W.Fast.te13069687644243786066,PySem.W.Fast.te1718297227530528222,PySem.W.Fast.te14158929756966004236];rfl'
def run(w:World)(os:OsState):topRun treeTable pw w 11 ann (12+(2+(9000+3))) ⟨boot_heap w.params,⟨[]⟩,boot_drawn,boot_toks,os⟩ (topStub pw)=some ⟨H1 w.params,⟨[]⟩,{},831,os⟩:=by refine go_top (pre w os) (piece_block (block w os) ?_);have h:=piece_app (rest:=[]) (segRun_of (piece w os)) (piece_nil (fin w os));rw[List.append_nil]at h;exact h
def size (w:World):((boot_heap w.params).isNs mainGlobals&&(Array.mk []:Array GenState).size==0,(boot_heap w.params).objs.size,(boot_heap w.params).nsMap mainGlobals "__annotations__")=(true,11,ann):=by rfl'
theorem agh(w:World)(os:OsState):(staticsOk (importedModules pw.main.body) (boot_heap w.params) (H1 w.params)&&namesBound pw (H1 w.params)&&gensDone ⟨H1 w.params,⟨[]⟩,{},831,os⟩&&laidKept (boot_heap w.params) (H1 w.params))=true:=by rw[PySem.W.Fast.te1032975242618825031,PySem.W.Fast.te14158929756966004236,PySem.W.Fast.te5923862056798008813];rfl'
theorem agi(w:World)(os:OsState):openSeen qv [] (importedModules pw.main.body) Xt true ⟨H1 w.params,⟨[]⟩,{},831,os⟩=openGood qv []:=by rw[PySem.W.Fast.te1032975242618825031,PySem.W.Fast.te14158929756966004236,PySem.W.Fast.te5923862056798008813,PySem.W.Fast.te3994408356199485718,PySem.W.Fast.te3154452736318265832,PySem.W.Fast.te4187177175401517315];rfl'
theorem agj(w:World):as.map (H1 w.params).get?=(K w.params).map (λp=>some p.2):=by rw[PySem.W.Fast.te14158929756966004236,PySem.W.Fast.te538113369711794958];rfl'
theorem eAs(P:Params):as=(K P).map (·.1):=by rw[PySem.W.Fast.te538113369711794958];rfl'
def hook:Hook:=kHook K as eAs
def left:LeftO pw qv [] Xt hook.obs hook.val 12000:=by refine LeftO.of_pieces (boot_open (by rfl') (!1) (λs=>by rfl')) size run (!1) λw=>funext λos=>?_;exact Prod.ext (agh w os) (Prod.ext (agi w os) (agj w))
end HK
namespace Lk43
open PySem PySem.Spec PyProof.Rows L2 RF
open PySem.W (mg_of mg_none_of)
def Z:aj:=λf=>if f="_law_anew" then t8 else if f="_law_spread" then t7 else if f="_law_take" then eN else if f="_law_signs" then nA else if f="_law_deeds_of" then uf else if f="_law_form" then zq else if f="_law_wider" then iJ else if f="_law_within" then iJ else if f="_law_form_like" then ue else if f="_law_book" then ug else if f="_law_meet" then uB else if f="_law_one_turning" then uC else if f="_law_turned_alike" then sTA else if f="_law_join_book" then uI else if f="_law_open" then zr else if f="_law_form_of" then sFO else if f="_law_many_words" then Aw else if f="_law_words" then nP else if f="_law_joined" then sLJ else if f="_law_made" then sLM else if f="_law_fits" then aM n6 else if f="_law_met" then uq else if f="_law_deed" then uH else if f="_law_parting" then oG else if f="_law_first_join" then uN else if f="_law_lean" then uM else if f="_law_pressed" then uO else if f="_law_same" then eO 9 else if f="fits" then aM nR else if f="lies_in" then aM kh else if f="with_sign" then aM g8 else if f="joined" then aM km else if f="is_whole" then aM jq else if f="is_place" then aM iK else if f="is_deed" then zP else if f="is_text_of" then zN else if f="is_form" then zO else if f="is_row" then zQ else if f="is_width" then zR else if f="is_book" then zT else if f="need_book" then jr else if f="need_row" then ut else if f="without" then sWo else if f="joined_book" then sJB else if f="candidates" then uE else if f="both" then aM nU else if f="first_touching" then nW else if f="splitting_place" then um else if f="grown" then gr 9 else if f="least" then aM kj else if f="is_named" then aM ie else if f="leaves" then fV 9 else if f="need_two_books" then uv else if f="deed_of" then uh else if f="same_deeds" then sSD else if f="stars" then aM ju else if f="alike" then ou else if f="parting_word" then uD else if f="first_joined" then sFJ else if f="all_joined" then sAJ else if f="needless" then uz else if f="lean" then uA else if f="press" then uG else if f="law" then nF else bN (λ_ _=>False) (λ_ _ _ _=>False)
def Lw:Z "_law_anew"=t8:=by rfl'
def Lx:Z "_law_spread"=t7:=by rfl'
def gC:Z "_law_take"=eN:=by rfl'
def Az:Z "_law_signs"=nA:=by rfl'
def Lz:Z "_law_deeds_of"=uf:=by rfl'
def LC:Z "_law_form"=zq:=by rfl'
def LK:Z "_law_wider"=iJ:=by rfl'
def Ba:Z "_law_within"=iJ:=by rfl'
def LQ:Z "_law_form_like"=ue:=by rfl'
def LR:Z "_law_book"=ug:=by rfl'
def Ma:Z "_law_meet"=uB:=by rfl'
def Mg:Z "_law_one_turning"=uC:=by rfl'
def Mh:Z "_law_turned_alike"=sTA:=by rfl'
def Mi:Z "_law_join_book"=uI:=by rfl'
def Mj:Z "_law_open"=zr:=by rfl'
def Ml:Z "_law_form_of"=sFO:=by rfl'
def Mm:Z "_law_many_words"=Aw:=by rfl'
def Bb:Z "_law_words"=nP:=by rfl'
def Mp:Z "_law_joined"=sLJ:=by rfl'
def Mq:Z "_law_made"=sLM:=by rfl'
def Mr:Z "_law_fits"=aM n6:=by rfl'
def Ms:Z "_law_met"=uq:=by rfl'
def Mt:Z "_law_deed"=uH:=by rfl'
def Bc:Z "_law_parting"=oG:=by rfl'
def Mu:Z "_law_first_join"=uN:=by rfl'
def Mv:Z "_law_lean"=uM:=by rfl'
def Mw:Z "_law_pressed"=uO:=by rfl'
def Mx:Z "_law_same"=eO 9:=by rfl'
def My:Z "fits"=aM nR:=by rfl'
def Mz:Z "lies_in"=aM kh:=by rfl'
def uR:Z "with_sign"=aM g8:=by rfl'
def MF:Z "joined"=aM km:=by rfl'
def Bd:Z "is_whole"=aM jq:=by rfl'
def Be:Z "is_place"=aM iK:=by rfl'
def MJ:Z "is_deed"=zP:=by rfl'
def MK:Z "is_text_of"=zN:=by rfl'
def MN:Z "is_form"=zO:=by rfl'
def MP:Z "is_row"=zQ:=by rfl'
def MT:Z "is_width"=zR:=by rfl'
def M3:Z "is_book"=zT:=by rfl'
def oM:Z "need_book"=jr:=by rfl'
def M4:Z "need_row"=ut:=by rfl'
def uT:Z "without"=sWo:=by rfl'
def M5:Z "joined_book"=sJB:=by rfl'
def M6:Z "candidates"=uE:=by rfl'
def M7:Z "both"=aM nU:=by rfl'
def Bg:Z "first_touching"=nW:=by rfl'
def M8:Z "splitting_place"=um:=by rfl'
def M9:Z "grown"=gr 9:=by rfl'
def Nb:Z "least"=aM kj:=by rfl'
def Nf:Z "is_named"=aM ie:=by rfl'
def Ng:Z "leaves"=fV 9:=by rfl'
def Nh:Z "need_two_books"=uv:=by rfl'
def Ni:Z "deed_of"=uh:=by rfl'
def Nj:Z "same_deeds"=sSD:=by rfl'
def Nk:Z "stars"=aM ju:=by rfl'
def Bh:Z "alike"=ou:=by rfl'
def Nm:Z "parting_word"=uD:=by rfl'
def Np:Z "first_joined"=sFJ:=by rfl'
def Nq:Z "all_joined"=sAJ:=by rfl'
def Nr:Z "needless"=uz:=by rfl'
def Nt:Z "lean"=uA:=by rfl'
def Nu:Z "press"=uG:=by rfl'
def bt:List AL:=["all","bool","enumerate","int","isinstance","len","list","min","range","reversed","set","sorted","str","tuple","zip"]
def cn:List (AL×D):=[("LETTERS",(.str [97,98,99,100,101,102,103,104,105,106,107,108,109,110,111,112,113,114,115,116,117,118,119,120,121,122])),("LONGEST_DEED",(.int 8)),("MOST_ROWS",(.int 12)),("WIDEST",(.int 6))]
def xs:List (AL×Bool):=[("NoBook",true),("NoMatch",true),("NoRow",true)]
abbrev CK:=λN s f o b=>aB (aG N (au s) f bt cn xs o) b (aD s)=true
abbrev BB:=λ(l:PySem.W.OpenLaw) (w:World) (mg:AH) (base:Heap) k f o=>Bse Z l.prog w (HK.K w.params) mg base (CX1 l.prog w) k f bt cn xs o
abbrev NQ:=λP (s:Str) (n:Nat)=>PySem.W.nsIn (HK.K P) mainGlobals s=some (some (.ref n))
abbrev BQ:=λP fd ps=>Binds (HK.K P) fd ps []
abbrev LN:Str:="law_starsieve_k43_books_pressed"
def f0:List (AL×Nat):=[]
def f1:=("_law_anew",1)::f0
def f2:=("_law_spread",2)::f1
def f3:=("_law_take",2)::f2
def f4:=("_law_signs",3)::f3
def f5:=("_law_deeds_of",2)::f4
def f6:=("_law_form",2)::f5
def f7:=("_law_wider",2)::f6
def f8:=("_law_within",2)::f7
def f9:=("_law_form_like",3)::f8
def f10:=("_law_book",3)::f9
def f11:=("_law_meet",2)::f10
def f12:=("_law_one_turning",2)::f11
def f13:=("_law_turned_alike",3)::f12
def f14:=("_law_join_book",3)::f13
def f15:=("_law_open",1)::f14
def f16:=("_law_form_of",1)::f15
def f17:=("_law_many_words",1)::f16
def f18:=("_law_words",1)::f17
def f19:=("_law_joined",2)::f18
def f20:=("_law_made",4)::f19
def f21:=("_law_fits",2)::f20
def f22:=("_law_met",2)::f21
def f23:=("_law_deed",2)::f22
def f24:=("_law_parting",2)::f23
def f25:=("_law_first_join",1)::f24
def f26:=("_law_lean",1)::f25
def f27:=("_law_pressed",1)::f26
def f28:=("_law_same",2)::f27
def f29:=("fits",2)::f28
def f30:=("lies_in",2)::f29
def f31:=("with_sign",3)::f30
def f32:=("joined",2)::f31
def f33:=("is_whole",1)::f32
def f34:=("is_place",2)::f33
def f35:=("is_deed",1)::f34
def f36:=("is_text_of",3)::f35
def f37:=("is_form",2)::f36
def f38:=("is_row",2)::f37
def f39:=("is_width",1)::f38
def f40:=("is_book",1)::f39
def f41:=("need_book",1)::f40
def f42:=("need_row",2)::f41
def f43:=("without",2)::f42
def f44:=("joined_book",4)::f43
def f45:=("candidates",1)::f44
def f46:=("both",2)::f45
def f47:=("first_touching",2)::f46
def f48:=("splitting_place",2)::f47
def f49:=("grown",3)::f48
def f50:=("least",1)::f49
def f51:=("is_named",3)::f50
def f52:=("leaves",2)::f51
def f53:=("need_two_books",2)::f52
def f54:=("deed_of",2)::f53
def f55:=("same_deeds",3)::f54
def f56:=("stars",1)::f55
def f57:=("alike",2)::f56
def f58:=("parting_word",2)::f57
def f59:=("first_joined",1)::f58
def f60:=("all_joined",1)::f59
def f61:=("needless",2)::f60
def f62:=("lean",1)::f61
def f63:=("press",1)::f62
def S(i:Nat):Stmt:=HK.pw.main.body.getD i (.Pass ⟨0,0,0,0⟩)
def oN:Stmt:=S 53
def agk:fnB ["pen"] ["pen"] (au oN)=true:=by ac_rfl
def agl:CK ["pen"] oN f0 {} yC:=by ac_rfl
def oO:Stmt:=S 51
def agm:fnB ["cell","at","one","two","three"] ["cell","at"] (au oO)=true:=by ac_rfl
def agn:CK ["cell","at","one","two","three"] oO f1 {} yD:=by ac_rfl
def oR:Stmt:=S 54
def ago:fnB ["pen","many","at","cell","found"] ["pen","many"] (au oR)=true:=by ac_rfl
def agp:CK ["pen","many","at","cell","found"] oR f2 {} yE:=by ac_rfl
def oU:Stmt:=S 55
def agq:fnB ["pen","width","signs"] ["pen","width","signs"] (au oU)=true:=by ac_rfl
def agr:CK ["pen","width","signs"] oU f3 {} yF:=by ac_rfl
def oV:Stmt:=S 60
def ags:fnB ["pen","most","some","turn","found","letters"] ["pen","most"] (au oV)=true:=by ac_rfl
def agt:CK ["pen","most","some","turn","found","letters"] oV f4 {} yG:=by ac_rfl
def oW:Stmt:=S 56
def agu:fnB ["pen","width"] ["pen","width"] (au oW)=true:=by ac_rfl
def agv:CK ["pen","width"] oW f5 {} yH:=by ac_rfl
def oX:Stmt:=S 58
def agw:fnB ["pen","form","found","sign"] ["pen","form"] (au oX)=true:=by ac_rfl
def agx:CK ["pen","form","found","sign"] oX f6 {} yI:=by ac_rfl
def oY:Stmt:=S 57
def agy:fnB ["pen","form","found","sign"] ["pen","form"] (au oY)=true:=by ac_rfl
def agz:CK ["pen","form","found","sign"] oY f7 {} yJ:=by ac_rfl
def oZ:Stmt:=S 59
def agA:fnB ["pen","width","forms","kind","form","at"] ["pen","width","forms"] (au oZ)=true:=by ac_rfl
def agB:CK ["pen","width","forms","kind","form","at"] oZ f8 {} yK:=by ac_rfl
def o7:Stmt:=S 61
def agC:fnB ["pen","widest","most","width","deeds","forms","rows","k"] ["pen","widest","most"] (au o7)=true:=by ac_rfl
def agD:CK ["pen","widest","most","width","deeds","forms","rows","k"] o7 f9 {} yL:=by ac_rfl
def o8:Stmt:=S 63
def agE:fnB ["form","other"] ["form","other"] (au o8)=true:=by ac_rfl
def agF:CK ["form","other"] o8 f10 {} yM:=by ac_rfl
def o9:Stmt:=S 64
def agG:fnB ["pen","rows","at","form","one","stars_v","kind","place","two"] ["pen","rows"] (au o9)=true:=by ac_rfl
def agH:CK ["pen","rows","at","form","one","stars_v","kind","place","two"] o9 f11 {} yN:=by ac_rfl
def ph:Stmt:=S 65
def agI:fnB ["pen","book","times","rows","turn"] ["pen","book","times"] (au ph)=true:=by ac_rfl
def agJ:CK ["pen","book","times","rows","turn"] ph f12 {} yO:=by ac_rfl
def pq:Stmt:=S 75
def agK:fnB ["pen","widest","most","book"] ["pen","widest","most"] (au pq)=true:=by ac_rfl
def agL:CK ["pen","widest","most","book"] pq f13 {} yP:=by ac_rfl
def pA:Stmt:=S 52
def agM:fnB ["script","cells","k","cell"] ["script"] (au pA)=true:=by ac_rfl
def agN:CK ["script","cells","k","cell"] pA f14 {} yQ:=by ac_rfl
def pB:Stmt:=S 71
def agO:fnB ["words","found","at","signs"] ["words"] (au pB)=true:=by ac_rfl
def agP:CK ["words","found","at","signs"] pB f15 {} yR:=by ac_rfl
def pC:Stmt:=S 72
def agQ:fnB ["form","many","sign"] ["form"] (au pC)=true:=by ac_rfl
def agR:CK ["form","many","sign"] pC f16 {} yS:=by ac_rfl
def pF:Stmt:=S 62
def agS:fnB ["form","found","sign","longer","text"] ["form"] (au pF)=true:=by ac_rfl
def agT:CK ["form","found","sign","longer","text"] pF f17 {} yU:=by ac_rfl
def pG:Stmt:=S 73
def agU:fnB ["form","other","words","found"] ["form","other"] (au pG)=true:=by ac_rfl
def agV:CK ["form","other","words","found"] pG f18 {} yV:=by ac_rfl
def pH:Stmt:=S 74
def agW:fnB ["book","one","other","at","width","rows","form","found"] ["book","one","other","at"] (au pH)=true:=by ac_rfl
def agX:CK ["book","one","other","at","width","rows","form","found"] pH f19 {} yW:=by ac_rfl
def pI:Stmt:=S 66
def agY:fnB ["form","word","sign","other"] ["form","word"] (au pI)=true:=by ac_rfl
def agZ:CK ["form","word","sign","other"] pI f20 {} yX:=by ac_rfl
def pJ:Stmt:=S 67
def ag0:fnB ["book","word","number","row"] ["book","word"] (au pJ)=true:=by ac_rfl
def ag1:CK ["book","word","number","row"] pJ f21 {} yZ:=by ac_rfl
def pK:Stmt:=S 68
def ag2:fnB ["book","word","number"] ["book","word"] (au pK)=true:=by ac_rfl
def ag3:CK ["book","word","number"] pK f22 {} za:=by ac_rfl
def pL:Stmt:=S 69
def ag4:fnB ["one","other","word"] ["one","other"] (au pL)=true:=by ac_rfl
def ag5:CK ["one","other","word"] pL f23 {} zb:=by ac_rfl
def pM:Stmt:=S 77
def ag6:fnB ["book","many","one","other","at","built"] ["book"] (au pM)=true:=by ac_rfl
def ag7:CK ["book","many","one","other","at","built"] pM f24 {} zc:=by ac_rfl
def pN:Stmt:=S 76
def ag8:fnB ["book","width","rows","number","fewer"] ["book"] (au pN)=true:=by ac_rfl
def ag9:CK ["book","width","rows","number","fewer"] pN f25 {} zf:=by ac_rfl
def pO:Stmt:=S 78
def aha:fnB ["book","elder","built"] ["book"] (au pO)=true:=by ac_rfl
def ahb:CK ["book","elder","built"] pO f26 {} zg:=by ac_rfl
def pP:Stmt:=S 70
def ahc:fnB ["found","due"] ["found","due"] (au pP)=true:=by ac_rfl
def ahd:CK ["found","due"] pP f28 {} fP:=by ac_rfl
def pQ:Stmt:=S 12
def ahe:fnB ["form","word"] ["form","word"] (au pQ)=true:=by ac_rfl
def ahf:CK ["form","word"] pQ f28 {} lX:=by ac_rfl
def pR:Stmt:=S 13
def ahg:fnB ["form","other"] ["form","other"] (au pR)=true:=by ac_rfl
def ahh:CK ["form","other"] pR f29 {} lY:=by ac_rfl
def pU:Stmt:=S 14
def ahi:fnB ["form","at","sign"] ["form","at","sign"] (au pU)=true:=by ac_rfl
def ahj:CK ["form","at","sign"] pU f30 {} lZ:=by ac_rfl
def pW:Stmt:=S 16
def ahk:fnB ["form","other","unlike"] ["form","other"] (au pW)=true:=by ac_rfl
def ahl:CK ["form","other","unlike"] pW f31 {} mj:=by ac_rfl
def pX:Stmt:=S 7
def ahm:fnB ["thing"] ["thing"] (au pX)=true:=by ac_rfl
def ahn:CK ["thing"] pX f32 {} mq:=by ac_rfl
def pY:Stmt:=S 9
def aho:fnB ["many","thing"] ["many","thing"] (au pY)=true:=by ac_rfl
def ahp:CK ["many","thing"] pY f33 {} my:=by ac_rfl
def pZ:Stmt:=S 22
def ahq:fnB ["thing"] ["thing"] (au pZ)=true:=by ac_rfl
def ahr:CK ["thing"] pZ f34 {} mz:=by ac_rfl
def p6:Stmt:=S 10
def ahs:fnB ["signs","width","thing"] ["signs","width","thing"] (au p6)=true:=by ac_rfl
def aht:CK ["signs","width","thing"] p6 f35 {} mC:=by ac_rfl
def p7:Stmt:=S 11
def ahu:fnB ["width","thing"] ["width","thing"] (au p7)=true:=by ac_rfl
def ahv:CK ["width","thing"] p7 f36 {} mD:=by ac_rfl
def p8:Stmt:=S 23
def ahw:fnB ["width","thing"] ["width","thing"] (au p8)=true:=by ac_rfl
def ahx:CK ["width","thing"] p8 f37 {} mF:=by ac_rfl
def qb:Stmt:=S 8
def ahy:fnB ["thing"] ["thing"] (au qb)=true:=by ac_rfl
def ahz:CK ["thing"] qb f38 {} mG:=by ac_rfl
def qe:Stmt:=S 24
def ahA:fnB ["thing","width","rows"] ["thing"] (au qe)=true:=by ac_rfl
def ahB:CK ["thing","width","rows"] qe f39 {} mH:=by ac_rfl
def qg:Stmt:=S 25
def ahC:fnB ["book"] ["book"] (au qg)=true:=by ac_rfl
def ahD:CK ["book"] qg f40 {} mJ:=by ac_rfl
def qi:Stmt:=S 27
def ahE:fnB ["book","number"] ["book","number"] (au qi)=true:=by ac_rfl
def ahF:CK ["book","number"] qi f41 {} mK:=by ac_rfl
def qj:Stmt:=S 41
def ahG:fnB ["book","number","width","rows"] ["book","number"] (au qj)=true:=by ac_rfl
def ahH:CK ["book","number","width","rows"] qj f42 {} mL:=by ac_rfl
def ql:Stmt:=S 45
def ahI:fnB ["book","one","other","at","width","rows","form","grown"] ["book","one","other","at"] (au ql)=true:=by ac_rfl
def ahJ:CK ["book","one","other","at","width","rows","form","grown"] ql f43 {} mO:=by ac_rfl
def qm:Stmt:=S 46
def ahK:fnB ["book","many","numbers","made"] ["book"] (au qm)=true:=by ac_rfl
def ahL:CK ["book","many","numbers","made"] qm f44 {} mQ:=by ac_rfl
def qp:Stmt:=S 15
def ahM:fnB ["form","other","shared","one","two"] ["form","other"] (au qp)=true:=by ac_rfl
def ahN:CK ["form","other","shared","one","two"] qp f45 {} mR:=by ac_rfl
def qt:Stmt:=S 33
def ahO:fnB ["rows","box","number","row"] ["rows","box"] (au qt)=true:=by ac_rfl
def ahP:CK ["rows","box","number","row"] qt f46 {} mU:=by ac_rfl
def qu:Stmt:=S 34
def ahQ:fnB ["rows","box","number","at","sign"] ["rows","box"] (au qu)=true:=by ac_rfl
def ahR:CK ["rows","box","number","at","sign"] qu f47 {} mV:=by ac_rfl
def qw:Stmt:=S 35
def ahS:fnB ["name","many_rows","box","rows","at","zero","one"] ["name","many_rows","box"] (au qw)=true:=by ac_rfl
def ahT:CK ["name","many_rows","box","rows","at","zero","one"] qw f49 {} jZ:=by ac_rfl
def qx:Stmt:=S 17
def qy:Stmt:=S 31
def ahU:fnB ["name","many","thing"] ["name","many","thing"] (au qy)=true:=by ac_rfl
def ahV:CK ["name","many","thing"] qy f50 {} mW:=by ac_rfl
def qz:Stmt:=S 32
def ahW:fnB ["box","tree","at","zero","one"] ["box","tree"] (au qz)=true:=by ac_rfl
def ahX:CK ["box","tree","at","zero","one"] qz f52 {} jo:=by ac_rfl
def qC:Stmt:=S 26
def ahY:fnB ["one","other"] ["one","other"] (au qC)=true:=by ac_rfl
def ahZ:CK ["one","other"] qC f52 {} mX:=by ac_rfl
def qD:Stmt:=S 28
def ah0:fnB ["book","number"] ["book","number"] (au qD)=true:=by ac_rfl
def ah1:CK ["book","number"] qD f53 {} j5:=by ac_rfl
def qF:Stmt:=S 37
def ah2:fnB ["one","other","leaf"] ["one","other","leaf"] (au qF)=true:=by ac_rfl
def ah3:CK ["one","other","leaf"] qF f54 {} mY:=by ac_rfl
def qG:Stmt:=S 30
def ah4:fnB ["width"] ["width"] (au qG)=true:=by ac_rfl
def ah5:CK ["width"] qG f55 {} mZ:=by ac_rfl
def qH:Stmt:=S 38
def ah6:fnB ["one","other","box","tree","parting"] ["one","other"] (au qH)=true:=by ac_rfl
def ah7:CK ["one","other","box","tree","parting"] qH f56 {} m5:=by ac_rfl
def qI:Stmt:=S 39
def ah8:fnB ["one","other","name","shown"] ["one","other"] (au qI)=true:=by ac_rfl
def ah9:CK ["one","other","name","shown"] qI f57 {} m6:=by ac_rfl
def qJ:Stmt:=S 47
def aia:fnB ["book","one","other","at","made"] ["book"] (au qJ)=true:=by ac_rfl
def aib:CK ["book","one","other","at","made"] qJ f58 {} m7:=by ac_rfl
def qK:Stmt:=S 48
def aic:fnB ["book","left","made"] ["book"] (au qK)=true:=by ac_rfl
def aid:CK ["book","left","made"] qK f59 {} m8:=by ac_rfl
def qL:Stmt:=S 42
def aie:fnB ["book","number","name","shown"] ["book","number"] (au qL)=true:=by ac_rfl
def aif:CK ["book","number","name","shown"] qL f60 {} m9:=by ac_rfl
def qM:Stmt:=S 43
def aig:fnB ["book","left","number"] ["book"] (au qM)=true:=by ac_rfl
def aih:CK ["book","left","number"] qM f61 {} nq:=by ac_rfl
def qN:Stmt:=S 49
def aii:fnB ["book","left","pressed"] ["book"] (au qN)=true:=by ac_rfl
def aij:CK ["book","left","pressed"] qN f62 {} nu:=by ac_rfl
def qO:Stmt:=S 79
def aik:fnB ["script","pen","turn","book","due","again"] ["script"] (au qO)=true:=by ac_rfl
def ail:CK ["script","pen","turn","book","due","again"] qO f63 {} zj:=by ac_rfl
def Nv:(⇑"0":Str)=tx [48]:=by ac_rfl
def aim:(⇑"*":Str)=tx [42]:=by ac_rfl
def ain:FnScope ["form"] ["form"] (au qx):=⟨rfl,rfl,rfl,by ac_rfl,rfl,by ac_rfl,by ac_rfl⟩
def aio:Sp:=λvs H Q _=>∃l:AA,vs=[.str (tx l)]/\l.length<=1000/\Q (.str (tx (cU l))) H
def aip {P:AK} {w:World} {K:PF} {mg:AH} {base:Heap} {f:AQ} {fd:AJ} (F:Fun K "least" "least" qx f fd):FnOk P w K mg base CX0 1 f fd ["form"] aio:=by
 refine F.ok1 ain rfl (by ac_rfl) (λ_=>rfl) (λvs H Q E h=>?_) (λcdv A outer s H vs Q E hr h=>?_)
 .obtain ⟨l,rfl,_⟩:=h;rfl
 .obtain ⟨l,rfl,hl,q⟩:=h;refine ⟨_,VP (VV (pv 0) (by ac_rfl)),?_⟩;refine ⟨_,rfl,_,rfl,?_,?_⟩
  .rw[Nv,cI,cI];simp;omega
  .rw[aim,Nv,VR];exact q
def aiq {P:AK} {w:World} {K:PF} {mg:AH} {base:Heap} {f:AQ} {fd:AJ} (F:Fun K "least" "least" qx f fd):FnOk P w K mg base CX0 1 f fd ["form"] (lift K 1 (aM kj)):=by
 refine (aip F).imp λvs H Q E h=>?_;obtain ⟨e0,Fz,G,ds,r,t,⟨ds',G'⟩,⟨e1,e2⟩,e3,e4⟩:=h;cases e1;obtain ⟨d,hd⟩:=Option.isSome_iff_exists.mp e2;have hd2:=hd;unfold kj at hd;split at hd
 .rename_i l;split at hd
  .rename_i hl;cases hd;obtain ⟨v,rfl,rv⟩:=cF t;obtain ⟨rfl,_⟩:=rv;have hl':l.length<=1000:=of_decide_eq_true hl;exact ⟨l,rfl,hl',(e3 _ _ ⟨rfl,hd2⟩).now r ⟨rfl,by unfold cU;rw[List.length_map];exact Nat.le_trans hl' (!1)⟩⟩
  .cases hd
 .cases hd
def fdM(n:Str)(st:Stmt)(m:Str)(t c:Nat):AJ:=PySem.W.fnOf n n (kY st) (aD st) (au st) .none .none .none (.str m t) none (.ref c) .none
def mkF {K:PF} {n m:Str} {st:Stmt} {a t c:Nat}(l:K.lookup a=some ⟨.type "function",none,.func (fdM n st m t c),⟨[]⟩⟩:=by rfl')(h1:PySem.W.codeIn K (.ref c) n=true:=by eq_refl)(h2:PySem.W.keepIn K (.ref a)=true:=by eq_refl):Fun K n n st a (fdM n st m t c):=Vy l h1 h2
theorem tK:type_of% @PySem.W.Fast.te538113369711794958:=PySem.W.Fast.te538113369711794958
local macro_rules|`(tactic|ac_nf)=>`(tactic|(intro _ _ _ _ _ _ us hl;first|(obtain ⟨_,h⟩:=cB hl;subst h;rfl)|(obtain ⟨_,_,h⟩:=bw hl;subst h;rfl)|(obtain ⟨_,_,_,h⟩:=fO hl;subst h;rfl)|(obtain ⟨_,_,_,_,h⟩:=Jr hl;subst h;rfl)))
local macro_rules|`(tactic|eq_refl)=>`(tactic|(first|rw[tK]|(unfold NQ;rw[tK]));rfl')
section
variable {P:Params}
def Nx:AJ:=fdM "_law_anew" oN LN 566 312
theorem Ny:Fun (HK.K P) "_law_anew" "_law_anew" oN 313 Nx:=mkF
theorem air:NQ P "_law_anew" 313:=by eq_refl
theorem ais:BQ P Nx ["pen"]:=Ny.binds (by ac_nf)
def Nz:AJ:=fdM "_law_spread" oO LN 566 298
theorem NB:Fun (HK.K P) "_law_spread" "_law_spread" oO 299 Nz:=mkF
theorem ait:NQ P "_law_spread" 299:=by eq_refl
theorem aiu:BQ P Nz ["cell","at"]:=NB.binds (by ac_nf)
def NK:AJ:=fdM "_law_take" oR LN 566 319
theorem NP:Fun (HK.K P) "_law_take" "_law_take" oR 320 NK:=mkF
theorem aiv:NQ P "_law_take" 320:=by eq_refl
theorem aiw:BQ P NK ["pen","many"]:=NP.binds (by ac_nf)
def NT:AJ:=fdM "_law_signs" oU LN 566 324
theorem NZ:Fun (HK.K P) "_law_signs" "_law_signs" oU 325 NT:=mkF
theorem aix:NQ P "_law_signs" 325:=by eq_refl
theorem aiy:BQ P NT ["pen","width","signs"]:=NZ.binds (by ac_nf)
def N5:AJ:=fdM "_law_deeds_of" oV LN 566 357
theorem N6:Fun (HK.K P) "_law_deeds_of" "_law_deeds_of" oV 358 N5:=mkF
theorem aiz:NQ P "_law_deeds_of" 358:=by eq_refl
theorem aiA:BQ P N5 ["pen","most"]:=N6.binds (by ac_nf)
def N7:AJ:=fdM "_law_form" oW LN 566 331
theorem N8:Fun (HK.K P) "_law_form" "_law_form" oW 332 N7:=mkF
theorem aiB:NQ P "_law_form" 332:=by eq_refl
theorem aiC:BQ P N7 ["pen","width"]:=N8.binds (by ac_nf)
def Oa:AJ:=fdM "_law_wider" oX LN 566 345
theorem Ob:Fun (HK.K P) "_law_wider" "_law_wider" oX 346 Oa:=mkF
theorem aiD:NQ P "_law_wider" 346:=by eq_refl
theorem aiE:BQ P Oa ["pen","form"]:=Ob.binds (by ac_nf)
def Oc:AJ:=fdM "_law_within" oY LN 566 338
theorem Od:Fun (HK.K P) "_law_within" "_law_within" oY 339 Oc:=mkF
theorem aiF:NQ P "_law_within" 339:=by eq_refl
theorem aiG:BQ P Oc ["pen","form"]:=Od.binds (by ac_nf)
def Oe:AJ:=fdM "_law_form_like" oZ LN 566 352
theorem Og:Fun (HK.K P) "_law_form_like" "_law_form_like" oZ 353 Oe:=mkF
theorem aiH:NQ P "_law_form_like" 353:=by eq_refl
theorem aiI:BQ P Oe ["pen","width","forms"]:=Og.binds (by ac_nf)
def Oh:AJ:=fdM "_law_book" o7 LN 566 364
theorem Oi:Fun (HK.K P) "_law_book" "_law_book" o7 365 Oh:=mkF
theorem aiJ:NQ P "_law_book" 365:=by eq_refl
theorem aiK:BQ P Oh ["pen","widest","most"]:=Oi.binds (by ac_nf)
def Oj:AJ:=fdM "_law_meet" o8 LN 566 374
theorem Ol:Fun (HK.K P) "_law_meet" "_law_meet" o8 375 Oj:=mkF
theorem aiL:NQ P "_law_meet" 375:=by eq_refl
theorem aiM:BQ P Oj ["form","other"]:=Ol.binds (by ac_nf)
def Om:AJ:=fdM "_law_one_turning" o9 LN 566 379
theorem Oo:Fun (HK.K P) "_law_one_turning" "_law_one_turning" o9 380 Om:=mkF
theorem aiN:NQ P "_law_one_turning" 380:=by eq_refl
theorem aiO:BQ P Om ["pen","rows"]:=Oo.binds (by ac_nf)
def Oq:AJ:=fdM "_law_turned_alike" ph LN 566 386
theorem Ot:Fun (HK.K P) "_law_turned_alike" "_law_turned_alike" ph 387 Oq:=mkF
theorem aiP:NQ P "_law_turned_alike" 387:=by eq_refl
theorem aiQ:BQ P Oq ["pen","book","times"]:=Ot.binds (by ac_nf)
def Ou:AJ:=fdM "_law_join_book" pq LN 566 450
theorem Ov:Fun (HK.K P) "_law_join_book" "_law_join_book" pq 451 Ou:=mkF
theorem aiR:NQ P "_law_join_book" 451:=by eq_refl
theorem aiS:BQ P Ou ["pen","widest","most"]:=Ov.binds (by ac_nf)
def Ow:AJ:=fdM "_law_open" pA LN 566 305
theorem Oz:Fun (HK.K P) "_law_open" "_law_open" pA 306 Ow:=mkF
theorem aiT:NQ P "_law_open" 306:=by eq_refl
theorem aiU:BQ P Ow ["script"]:=Oz.binds (by ac_nf)
def OD:AJ:=fdM "_law_form_of" pB LN 566 424
theorem OJ:Fun (HK.K P) "_law_form_of" "_law_form_of" pB 425 OD:=mkF
theorem aiV:NQ P "_law_form_of" 425:=by eq_refl
theorem aiW:BQ P OD ["words"]:=OJ.binds (by ac_nf)
def O1:AJ:=fdM "_law_many_words" pC LN 566 431
theorem O2:Fun (HK.K P) "_law_many_words" "_law_many_words" pC 432 O1:=mkF
theorem aiX:NQ P "_law_many_words" 432:=by eq_refl
theorem aiY:BQ P O1 ["form"]:=O2.binds (by ac_nf)
def O3:AJ:=fdM "_law_words" pF LN 566 369
theorem O4:Fun (HK.K P) "_law_words" "_law_words" pF 370 O3:=mkF
theorem aiZ:NQ P "_law_words" 370:=by eq_refl
theorem ai0:BQ P O3 ["form"]:=O4.binds (by ac_nf)
def O5:AJ:=fdM "_law_joined" pG LN 566 438
theorem O6:Fun (HK.K P) "_law_joined" "_law_joined" pG 439 O5:=mkF
theorem ai1:NQ P "_law_joined" 439:=by eq_refl
theorem ai2:BQ P O5 ["form","other"]:=O6.binds (by ac_nf)
def O7:AJ:=fdM "_law_made" pH LN 566 443
theorem O8:Fun (HK.K P) "_law_made" "_law_made" pH 444 O7:=mkF
theorem ai3:NQ P "_law_made" 444:=by eq_refl
theorem ai4:BQ P O7 ["book","one","other","at"]:=O8.binds (by ac_nf)
def O9:AJ:=fdM "_law_fits" pI LN 566 393
theorem Pa:Fun (HK.K P) "_law_fits" "_law_fits" pI 394 O9:=mkF
theorem ai5:NQ P "_law_fits" 394:=by eq_refl
theorem ai6:BQ P O9 ["form","word"]:=Pa.binds (by ac_nf)
def Pb:AJ:=fdM "_law_met" pJ LN 566 400
theorem Pg:Fun (HK.K P) "_law_met" "_law_met" pJ 401 Pb:=mkF
theorem ai7:NQ P "_law_met" 401:=by eq_refl
theorem ai8:BQ P Pb ["book","word"]:=Pg.binds (by ac_nf)
def Ph:AJ:=fdM "_law_deed" pK LN 566 407
theorem Pj:Fun (HK.K P) "_law_deed" "_law_deed" pK 408 Ph:=mkF
theorem ai9:NQ P "_law_deed" 408:=by eq_refl
theorem aja:BQ P Ph ["book","word"]:=Pj.binds (by ac_nf)
def Pk:AJ:=fdM "_law_parting" pL LN 566 414
theorem Pn:Fun (HK.K P) "_law_parting" "_law_parting" pL 415 Pk:=mkF
theorem ajb:NQ P "_law_parting" 415:=by eq_refl
theorem ajc:BQ P Pk ["one","other"]:=Pn.binds (by ac_nf)
def Pq:AJ:=fdM "_law_first_join" pM LN 566 464
theorem Pr:Fun (HK.K P) "_law_first_join" "_law_first_join" pM 465 Pq:=mkF
theorem ajd:NQ P "_law_first_join" 465:=by eq_refl
theorem aje:BQ P Pq ["book"]:=Pr.binds (by ac_nf)
def Pu:AJ:=fdM "_law_lean" pN LN 566 457
theorem Px:Fun (HK.K P) "_law_lean" "_law_lean" pN 458 Pu:=mkF
theorem ajf:NQ P "_law_lean" 458:=by eq_refl
theorem ajg:BQ P Pu ["book"]:=Px.binds (by ac_nf)
def Py:AJ:=fdM "_law_pressed" pO LN 566 471
theorem Pz:Fun (HK.K P) "_law_pressed" "_law_pressed" pO 472 Py:=mkF
theorem ajh:NQ P "_law_pressed" 472:=by eq_refl
theorem aji:BQ P Py ["book"]:=Pz.binds (by ac_nf)
def Bj:AJ:=fdM "_law_same" pP LN 566 419
theorem uU:Fun (HK.K P) "_law_same" "_law_same" pP 420 Bj:=mkF
theorem PJ:NQ P "_law_same" 420:=by eq_refl
theorem PK:BQ P Bj ["found","due"]:=uU.binds (by ac_nf)
def PL:AJ:=fdM "fits" pQ "starsieve.forms" 255 100
theorem PN:Fun (HK.K P) "fits" "fits" pQ 101 PL:=mkF
theorem ajj:NQ P "fits" 101:=by eq_refl
theorem lX:BQ P PL ["form","word"]:=PN.binds (by ac_nf)
def PP:AJ:=fdM "lies_in" pR "starsieve.forms" 255 107
theorem PQ:Fun (HK.K P) "lies_in" "lies_in" pR 108 PP:=mkF
theorem ajk:NQ P "lies_in" 108:=by eq_refl
theorem lY:BQ P PP ["form","other"]:=PQ.binds (by ac_nf)
def P0:AJ:=fdM "with_sign" pU "starsieve.forms" 255 114
theorem Qa:Fun (HK.K P) "with_sign" "with_sign" pU 115 P0:=mkF
theorem ajl:NQ P "with_sign" 115:=by eq_refl
theorem lZ:BQ P P0 ["form","at","sign"]:=Qa.binds (by ac_nf)
def Qc:AJ:=fdM "joined" pW "starsieve.forms" 255 126
theorem Qd:Fun (HK.K P) "joined" "joined" pW 127 Qc:=mkF
theorem ajm:NQ P "joined" 127:=by eq_refl
theorem mj:BQ P Qc ["form","other"]:=Qd.binds (by ac_nf)
def Qe:AJ:=fdM "is_whole" pX "starsieve.forms" 255 69
theorem Qf:Fun (HK.K P) "is_whole" "is_whole" pX 70 Qe:=mkF
theorem ajn:NQ P "is_whole" 70:=by eq_refl
theorem mq:BQ P Qe ["thing"]:=Qf.binds (by ac_nf)
def Qg:AJ:=fdM "is_place" pY "starsieve.forms" 255 83
theorem Qh:Fun (HK.K P) "is_place" "is_place" pY 84 Qg:=mkF
theorem ajo:NQ P "is_place" 84:=by eq_refl
theorem my:BQ P Qg ["many","thing"]:=Qh.binds (by ac_nf)
def Qi:AJ:=fdM "is_deed" pZ "starsieve.books" 342 138
theorem Qj:Fun (HK.K P) "is_deed" "is_deed" pZ 139 Qi:=mkF
theorem ajp:NQ P "is_deed" 139:=by eq_refl
theorem mz:BQ P Qi ["thing"]:=Qj.binds (by ac_nf)
def Qk:AJ:=fdM "is_text_of" p6 "starsieve.forms" 255 88
theorem Ql:Fun (HK.K P) "is_text_of" "is_text_of" p6 89 Qk:=mkF
theorem ajq:NQ P "is_text_of" 89:=by eq_refl
theorem mC:BQ P Qk ["signs","width","thing"]:=Ql.binds (by ac_nf)
def Qm:AJ:=fdM "is_form" p7 "starsieve.forms" 255 95
theorem Qn:Fun (HK.K P) "is_form" "is_form" p7 96 Qm:=mkF
theorem ajr:NQ P "is_form" 96:=by eq_refl
theorem mD:BQ P Qm ["width","thing"]:=Qn.binds (by ac_nf)
def Qo:AJ:=fdM "is_row" p8 "starsieve.books" 342 145
theorem Qp:Fun (HK.K P) "is_row" "is_row" p8 146 Qo:=mkF
theorem ajs:NQ P "is_row" 146:=by eq_refl
theorem mF:BQ P Qo ["width","thing"]:=Qp.binds (by ac_nf)
def Qq:AJ:=fdM "is_width" qb "starsieve.forms" 255 76
theorem Qs:Fun (HK.K P) "is_width" "is_width" qb 77 Qq:=mkF
theorem ajt:NQ P "is_width" 77:=by eq_refl
theorem mG:BQ P Qq ["thing"]:=Qs.binds (by ac_nf)
def Qt:AJ:=fdM "is_book" qe "starsieve.books" 342 150
theorem Qu:Fun (HK.K P) "is_book" "is_book" qe 151 Qt:=mkF
theorem aju:NQ P "is_book" 151:=by eq_refl
theorem mH:BQ P Qt ["thing"]:=Qu.binds (by ac_nf)
def Qv:AJ:=fdM "need_book" qg "starsieve.books" 342 157
theorem Qw:Fun (HK.K P) "need_book" "need_book" qg 158 Qv:=mkF
theorem ajv:NQ P "need_book" 158:=by eq_refl
theorem mJ:BQ P Qv ["book"]:=Qw.binds (by ac_nf)
def Qx:AJ:=fdM "need_row" qi "starsieve.books" 342 171
theorem Qy:Fun (HK.K P) "need_row" "need_row" qi 172 Qx:=mkF
theorem ajw:NQ P "need_row" 172:=by eq_refl
theorem mK:BQ P Qx ["book","number"]:=Qy.binds (by ac_nf)
def Qz:AJ:=fdM "without" qj "starsieve.lean" 484 244
theorem QB:Fun (HK.K P) "without" "without" qj 245 Qz:=mkF
theorem ajx:NQ P "without" 245:=by eq_refl
theorem mL:BQ P Qz ["book","number"]:=QB.binds (by ac_nf)
def QC:AJ:=fdM "joined_book" ql "starsieve.joins" 515 265
theorem QD:Fun (HK.K P) "joined_book" "joined_book" ql 266 QC:=mkF
theorem ajy:NQ P "joined_book" 266:=by eq_refl
theorem mO:BQ P QC ["book","one","other","at"]:=QD.binds (by ac_nf)
def QF:AJ:=fdM "candidates" qm "starsieve.joins" 515 270
theorem QG:Fun (HK.K P) "candidates" "candidates" qm 271 QF:=mkF
theorem ajz:NQ P "candidates" 271:=by eq_refl
theorem mQ:BQ P QF ["book"]:=QG.binds (by ac_nf)
def QH:AJ:=fdM "both" qp "starsieve.forms" 255 121
theorem QJ:Fun (HK.K P) "both" "both" qp 122 QH:=mkF
theorem ajA:NQ P "both" 122:=by eq_refl
theorem mR:BQ P QH ["form","other"]:=QJ.binds (by ac_nf)
def QK:AJ:=fdM "first_touching" qt "starsieve.laid" 401 206
theorem QL:Fun (HK.K P) "first_touching" "first_touching" qt 207 QK:=mkF
theorem ajB:NQ P "first_touching" 207:=by eq_refl
theorem mU:BQ P QK ["rows","box"]:=QL.binds (by ac_nf)
def QM:AJ:=fdM "splitting_place" qu "starsieve.laid" 401 213
theorem QQ:Fun (HK.K P) "splitting_place" "splitting_place" qu 214 QM:=mkF
theorem ajC:NQ P "splitting_place" 214:=by eq_refl
theorem mV:BQ P QM ["rows","box"]:=QQ.binds (by ac_nf)
def Bk:AJ:=fdM "grown" qw "starsieve.laid" 401 218
theorem uV:Fun (HK.K P) "grown" "grown" qw 219 Bk:=mkF
theorem QR:NQ P "grown" 219:=by eq_refl
theorem jZ:BQ P Bk ["name","many_rows","box"]:=uV.binds (by ac_nf)
def QS:AJ:=fdM "least" qx "starsieve.forms" 255 133
theorem Bl:Fun (HK.K P) "least" "least" qx 134 QS:=mkF
theorem ajD:NQ P "least" 134:=by eq_refl
theorem ajE:BQ P QS ["form"]:=Bl.binds (by ac_nf)
def QT:AJ:=fdM "is_named" qy "starsieve.laid" 401 192
theorem QV:Fun (HK.K P) "is_named" "is_named" qy 193 QT:=mkF
theorem ajF:NQ P "is_named" 193:=by eq_refl
theorem mW:BQ P QT ["name","many","thing"]:=QV.binds (by ac_nf)
def Bm:AJ:=fdM "leaves" qz "starsieve.laid" 401 199
theorem uW:Fun (HK.K P) "leaves" "leaves" qz 200 Bm:=mkF
theorem QW:NQ P "leaves" 200:=by eq_refl
theorem jo:BQ P Bm ["box","tree"]:=uW.binds (by ac_nf)
def QX:AJ:=fdM "need_two_books" qC "starsieve.books" 342 164
theorem QZ:Fun (HK.K P) "need_two_books" "need_two_books" qC 165 QX:=mkF
theorem ajG:NQ P "need_two_books" 165:=by eq_refl
theorem mX:BQ P QX ["one","other"]:=QZ.binds (by ac_nf)
def Q0:AJ:=fdM "deed_of" qD "starsieve.books" 342 178
theorem Q3:Fun (HK.K P) "deed_of" "deed_of" qD 179 Q0:=mkF
theorem ajH:NQ P "deed_of" 179:=by eq_refl
theorem j5:BQ P Q0 ["book","number"]:=Q3.binds (by ac_nf)
def Q4:AJ:=fdM "same_deeds" qF "starsieve.alike" 457 225
theorem Q5:Fun (HK.K P) "same_deeds" "same_deeds" qF 226 Q4:=mkF
theorem ajI:NQ P "same_deeds" 226:=by eq_refl
theorem mY:BQ P Q4 ["one","other","leaf"]:=Q5.binds (by ac_nf)
def Q6:AJ:=fdM "stars" qG "starsieve.laid" 401 185
theorem Q7:Fun (HK.K P) "stars" "stars" qG 186 Q6:=mkF
theorem ajJ:NQ P "stars" 186:=by eq_refl
theorem mZ:BQ P Q6 ["width"]:=Q7.binds (by ac_nf)
def Q8:AJ:=fdM "alike" qH "starsieve.alike" 457 230
theorem Q9:Fun (HK.K P) "alike" "alike" qH 231 Q8:=mkF
theorem ajK:NQ P "alike" 231:=by eq_refl
theorem m5:BQ P Q8 ["one","other"]:=Q9.binds (by ac_nf)
def Ra:AJ:=fdM "parting_word" qI "starsieve.alike" 457 237
theorem Rb:Fun (HK.K P) "parting_word" "parting_word" qI 238 Ra:=mkF
theorem ajL:NQ P "parting_word" 238:=by eq_refl
theorem m6:BQ P Ra ["one","other"]:=Rb.binds (by ac_nf)
def Rc:AJ:=fdM "first_joined" qJ "starsieve.joins" 515 277
theorem Rf:Fun (HK.K P) "first_joined" "first_joined" qJ 278 Rc:=mkF
theorem ajM:NQ P "first_joined" 278:=by eq_refl
theorem m7:BQ P Rc ["book"]:=Rf.binds (by ac_nf)
def Rg:AJ:=fdM "all_joined" qK "starsieve.joins" 515 284
theorem Rh:Fun (HK.K P) "all_joined" "all_joined" qK 285 Rg:=mkF
theorem ajN:NQ P "all_joined" 285:=by eq_refl
theorem m8:BQ P Rg ["book"]:=Rh.binds (by ac_nf)
def Ri:AJ:=fdM "needless" qL "starsieve.lean" 484 251
theorem Rj:Fun (HK.K P) "needless" "needless" qL 252 Ri:=mkF
theorem ajO:NQ P "needless" 252:=by eq_refl
theorem m9:BQ P Ri ["book","number"]:=Rj.binds (by ac_nf)
def Rk:AJ:=fdM "lean" qM "starsieve.lean" 484 258
theorem Rm:Fun (HK.K P) "lean" "lean" qM 259 Rk:=mkF
theorem ajP:NQ P "lean" 259:=by eq_refl
theorem nq:BQ P Rk ["book"]:=Rm.binds (by ac_nf)
def Rn:AJ:=fdM "press" qN "starsieve.joins" 515 291
theorem Ro:Fun (HK.K P) "press" "press" qN 292 Rn:=mkF
theorem ajQ:NQ P "press" 292:=by eq_refl
theorem nu:BQ P Rn ["book"]:=Ro.binds (by ac_nf)
def Bo:AJ:=fdM "law" qO LN 566 478
theorem ajS:Fun (HK.K P) "law" "law" qO 479 Bo:=mkF
theorem ajT:NQ P "law" 479:=by eq_refl
theorem ajU:PySem.W.nsIn (HK.K P) mainGlobals "all"=some none:=by eq_refl
theorem ajV:PySem.W.nsIn (HK.K P) mainGlobals "bool"=some none:=by eq_refl
theorem ajW:PySem.W.nsIn (HK.K P) mainGlobals "enumerate"=some none:=by eq_refl
theorem ajX:PySem.W.nsIn (HK.K P) mainGlobals "int"=some none:=by eq_refl
theorem ajY:PySem.W.nsIn (HK.K P) mainGlobals "isinstance"=some none:=by eq_refl
theorem ajZ:PySem.W.nsIn (HK.K P) mainGlobals "len"=some none:=by eq_refl
theorem aj0:PySem.W.nsIn (HK.K P) mainGlobals "list"=some none:=by eq_refl
theorem aj1:PySem.W.nsIn (HK.K P) mainGlobals "min"=some none:=by eq_refl
theorem aj2:PySem.W.nsIn (HK.K P) mainGlobals "range"=some none:=by eq_refl
theorem aj3:PySem.W.nsIn (HK.K P) mainGlobals "reversed"=some none:=by eq_refl
theorem aj4:PySem.W.nsIn (HK.K P) mainGlobals "set"=some none:=by eq_refl
theorem aj5:PySem.W.nsIn (HK.K P) mainGlobals "sorted"=some none:=by eq_refl
theorem aj6:PySem.W.nsIn (HK.K P) mainGlobals "str"=some none:=by eq_refl
theorem aj7:PySem.W.nsIn (HK.K P) mainGlobals "tuple"=some none:=by eq_refl
theorem aj8:PySem.W.nsIn (HK.K P) mainGlobals "zip"=some none:=by eq_refl
theorem aj9:PySem.W.nsIn (HK.K P) mainGlobals "LETTERS"=some (some (.str "abcdefghijklmnopqrstuvwxyz" 348)):=by eq_refl
theorem aka:PySem.W.nsIn (HK.K P) mainGlobals "LONGEST_DEED"=some (some (.int 8 346)):=by eq_refl
theorem akb:PySem.W.nsIn (HK.K P) mainGlobals "MOST_ROWS"=some (some (.int 12 344)):=by eq_refl
theorem akc:PySem.W.nsIn (HK.K P) mainGlobals "WIDEST"=some (some (.int 6 257)):=by eq_refl
theorem x_s:xsB (HK.K P) xs=true:=by eq_refl
end
section
variable {l:PySem.W.OpenLaw} {w:World} {h:Heap} {mg:AH} {base:Heap} (X:(HK.K w.params).In h) (G:h.Ns mainGlobals mg)
include X G
theorem B0:BB l w mg base 0 f0 {}:=bse trivial ⟨mg_none_of X G ajU,mg_none_of X G ajV,mg_none_of X G ajW,mg_none_of X G ajX,mg_none_of X G ajY,mg_none_of X G ajZ,mg_none_of X G aj0,mg_none_of X G aj1,mg_none_of X G aj2,mg_none_of X G aj3,mg_none_of X G aj4,mg_none_of X G aj5,mg_none_of X G aj6,mg_none_of X G aj7,mg_none_of X G aj8,trivial⟩ ⟨adF (mg_of X G aj9) (by ac_rfl) (!1),yx (mg_of X G aka),yx (mg_of X G akb),yx (mg_of X G akc),trivial⟩ X G x_s
theorem B1:BB l w mg base 1 f1 {}:=(B0 X G).step Ny ais (mg_of X G air) Lw 0 agk agl rfl rfl (cN (λds G h=>adJ Z  ds G h))
theorem B2:BB l w mg base 2 f2 {}:=(B1 X G).step NB aiu (mg_of X G ait) Lx 3 agm agn rfl rfl (cN (λds G h=>adI Z  ds G h))
theorem B3:BB l w mg base 3 f3 {}:=(B2 X G).step NP aiw (mg_of X G aiv) gC 3 ago agp rfl rfl (cN (λds G h=>adK Z Lx ds G h))
theorem B4:BB l w mg base 4 f4 {}:=(B3 X G).step NZ aiy (mg_of X G aix) Az 0 agq agr rfl rfl (cN (λds G h=>adN Z gC ds G h))
theorem B5:BB l w mg base 5 f5 {}:=(B4 X G).step N6 aiA (mg_of X G aiz) Lz 4 ags agt rfl rfl (cN (λds G h=>ad6 Z gC Az ds G h))
theorem B6:BB l w mg base 6 f6 {}:=(B5 X G).step N8 aiC (mg_of X G aiB) LC 0 agu agv rfl rfl (cN (λds G h=>adO Z gC Az ds G h))
theorem B7:BB l w mg base 7 f7 {}:=(B6 X G).step Ob aiE (mg_of X G aiD) LK 2 agw agx rfl rfl (cN (λds G h=>adY Z gC ds G h))
theorem B8:BB l w mg base 8 f8 {}:=(B7 X G).step Od aiG (mg_of X G aiF) Ba 2 agy agz rfl rfl (cN (λds G h=>adX Z gC ds G h))
theorem B9:BB l w mg base 9 f9 {}:=(B8 X G).step Og aiI (mg_of X G aiH) LQ 3 agA agB rfl rfl (cN (λds G h=>ad3 Z gC LC Ba LK ds G h))
theorem B10:BB l w mg base 10 f10 {}:=(B9 X G).step Oi aiK (mg_of X G aiJ) LR 5 agC agD rfl rfl (cN (λds G h=>ad9 Z gC Lz LQ ds G h))
theorem B11:BB l w mg base 11 f11 {}:=(B10 X G).step Ol aiM (mg_of X G aiL) Ma 0 agE agF rfl rfl (bU (λa G h=>afr Z  a G h))
theorem B12:BB l w mg base 12 f12 {}:=(B11 X G).step Oo aiO (mg_of X G aiN) Mg 7 agG agH rfl rfl (eH (λa ds G h=>afv Z gC Ba Ma a ds G h))
theorem B13:BB l w mg base 13 f13 {}:=(B12 X G).step Ot aiQ (mg_of X G aiP) Mh 2 agI agJ rfl rfl (eH (λa ds G h=>afx Z Mg a ds G h))
theorem B14:BB l w mg base 14 f14 {}:=(B13 X G).step Ov aiS (mg_of X G aiR) Mi 1 agK agL rfl rfl (eH (λa ds G h=>afR Z LR Mh gC a ds G h))
theorem B15:BB l w mg base 15 f15 {}:=(B14 X G).step Oz aiU (mg_of X G aiT) Mj 3 agM agN rfl rfl (cN (λds G h=>adP Z  ds G h))
theorem B16:BB l w mg base 16 f16 {}:=(B15 X G).step OJ aiW (mg_of X G aiV) Ml 3 agO agP rfl rfl (bU (λa G h=>afV Z  a G h))
theorem B17:BB l w mg base 17 f17 {}:=(B16 X G).step O2 aiY (mg_of X G aiX) Mm 2 agQ agR rfl rfl (bU (λa G h=>af0 Z  a G h))
theorem B18:BB l w mg base 18 f18 {}:=(B17 X G).step O4 ai0 (mg_of X G aiZ) Bb 4 agS agT rfl rfl (cN (λds G h=>aec Z  ds G h))
theorem B19:BB l w mg base 19 f19 {}:=(B18 X G).step O6 ai2 (mg_of X G ai1) Mp 2 agU agV rfl rfl (eH (λa ds G h=>af2 Z ⟨Bb,Mm,Ml⟩ a ds G h))
theorem B20:BB l w mg base 20 f20 {}:=(B19 X G).step O8 ai4 (mg_of X G ai3) Mq 4 agW agX rfl rfl (eH (λa ds G h=>af4 Z Mp a ds G h))
theorem B21:BB l w mg base 21 f21 {}:=(B20 X G).step Pa ai6 (mg_of X G ai5) Mr 2 agY agZ rfl rfl (gj (λds G d h=>aeQ Z  ds G d h))
theorem B22:BB l w mg base 22 f22 {}:=(B21 X G).step Pg ai8 (mg_of X G ai7) Ms 2 ag0 ag1 rfl rfl (bU (λa G h=>aeS Z Mr a G h))
theorem B23:BB l w mg base 23 f23 {}:=(B22 X G).step Pj aja (mg_of X G ai9) Mt 1 ag2 ag3 rfl rfl (bU (λa G h=>afO Z Ms a G h))
theorem B24:BB l w mg base 24 f24 {}:=(B23 X G).step Pn ajc (mg_of X G ajb) Bc 1 ag4 ag5 rfl rfl (eH (λa ds G h=>afP Z Bb Mt a ds G h))
theorem B25:BB l w mg base 25 f25 {}:=(B24 X G).step Pr aje (mg_of X G ajd) Mu 5 ag6 ag7 rfl rfl (eH (λa ds G h=>aga Z Mq Bc a ds G h))
theorem B26:BB l w mg base 26 f26 {}:=(B25 X G).step Px ajg (mg_of X G ajf) Mv 4 ag8 ag9 rfl rfl (eH (λa ds G h=>af6 Z Bc a ds G h))
theorem B27:BB l w mg base 27 f27 {}:=(B26 X G).step Pz aji (mg_of X G ajh) Mw 2 aha ahb rfl rfl (eH (λa ds G h=>agc Z Mu Mv a ds G h))
theorem Rp:∀n:Nat,FnOk l.prog w (HK.K w.params) mg base (CX1 l.prog w) (27+n) 420 Bj ["found","due"] (lift (HK.K w.params) 2 (eO n))
 |0=>yz adU
 |n+1=>lV (fs:=f28) uU ((B27 X G).self (by ac_rfl) (Rp n) uU.kp PK (mg_of X G PJ)) (eO (n+1)) 2 0 ahc ahd rfl rfl (cN (λds G h=>adT (iI Z "_law_same" (eO n)) n (if_pos rfl) ds G h))
theorem B28:BB l w mg base 36 f28 {}:=(B27 X G).add (j:=9) Mx (Rp X G 9) uU.kp PK (mg_of X G PJ)
theorem B29:BB l w mg base 37 f29 {}:=(B28 X G).step PN lX (mg_of X G ajj) My 0 ahe ahf rfl rfl (gj (λds G d h=>aen Z  ds G d h))
theorem B30:BB l w mg base 38 f30 {}:=(B29 X G).step PQ lY (mg_of X G ajk) Mz 0 ahg ahh rfl rfl (gj (λds G d h=>ae7 Z My ds G d h))
theorem B31:BB l w mg base 39 f31 {}:=(B30 X G).step Qa lZ (mg_of X G ajl) uR 0 ahi ahj rfl rfl (gj (λds G d h=>aey Z  ds G d h))
theorem B32:BB l w mg base 40 f32 {}:=(B31 X G).step Qd mj (mg_of X G ajm) MF 1 ahk ahl rfl rfl (gj (λds G d h=>afD Z Mz uR ds G d h))
theorem B33:BB l w mg base 41 f33 {}:=(B32 X G).step Qf mq (mg_of X G ajn) Bd 0 ahm ahn rfl rfl (gj (λds G d h=>adQ Z  ds G d h))
theorem B34:BB l w mg base 42 f34 {}:=(B33 X G).step Qh my (mg_of X G ajo) Be 0 aho ahp rfl rfl (gj (λds G d h=>aeU Z Bd ds G d h))
theorem B35:BB l w mg base 43 f35 {}:=(B34 X G).step Qj mz (mg_of X G ajp) MJ 0 ahq ahr rfl rfl (bU (λa G h=>aeh Z  a G h))
theorem B36:BB l w mg base 44 f36 {}:=(B35 X G).step Ql mC (mg_of X G ajq) MK 0 ahs aht rfl rfl (bU (λa G h=>aef Z  a G h))
theorem B37:BB l w mg base 45 f37 {}:=(B36 X G).step Qn mD (mg_of X G ajr) MN 0 ahu ahv rfl rfl (bU (λa G h=>aeg Z MK a G h))
theorem B38:BB l w mg base 46 f38 {}:=(B37 X G).step Qp mF (mg_of X G ajs) MP 0 ahw ahx rfl rfl (bU (λa G h=>aei Z MN MJ a G h))
theorem B39:BB l w mg base 47 f39 {}:=(B38 X G).step Qs mG (mg_of X G ajt) MT 0 ahy ahz rfl rfl (bU (λa G h=>aej Z Bd a G h))
theorem B40:BB l w mg base 48 f40 {}:=(B39 X G).step Qu mH (mg_of X G aju) M3 2 ahA ahB rfl rfl (bU (λa G h=>aek Z MT MP a G h))
theorem B41:BB l w mg base 49 f41 {}:=(B40 X G).step Qw mJ (mg_of X G ajv) oM 0 ahC ahD rfl rfl (bU (λa G h=>ael Z M3 a G h))
theorem B42:BB l w mg base 50 f42 {}:=(B41 X G).step Qy mK (mg_of X G ajw) M4 0 ahE ahF rfl rfl (bU (λa G h=>afh Z oM Be a G h))
theorem B43:BB l w mg base 51 f43 {}:=(B42 X G).step QB mL (mg_of X G ajx) uT 2 ahG ahH rfl rfl (bU (λa G h=>afn Z M4 a G h))
theorem B44:BB l w mg base 52 f44 {}:=(B43 X G).step QD mO (mg_of X G ajy) M5 4 ahI ahJ rfl rfl (bU (λa G h=>afF Z MF uT a G h))
theorem B45:BB l w mg base 53 f45 {}:=(B44 X G).step QG mQ (mg_of X G ajz) M6 3 ahK ahL rfl rfl (bU (λa G h=>afJ Z M5 a G h))
theorem B46:BB l w mg base 54 f46 {}:=(B45 X G).step QJ mR (mg_of X G ajA) M7 3 ahM ahN rfl rfl (gj (λds G d h=>aex Z  ds G d h))
theorem B47:BB l w mg base 55 f47 {}:=(B46 X G).step QL mU (mg_of X G ajB) Bg 2 ahO ahP rfl rfl (cN (λds G h=>aeD Z M7 ds G h))
theorem B48:BB l w mg base 56 f48 {}:=(B47 X G).step QQ mV (mg_of X G ajC) M8 3 ahQ ahR rfl rfl (cN (λds G h=>aeG Z Bg ds G h))
theorem Rq:∀n:Nat,FnOk l.prog w (HK.K w.params) mg base (CX1 l.prog w) (56+n) 219 Bk ["name","many_rows","box"] (lift (HK.K w.params) 3 (gr n))
 |0=>yz aeL
 |n+1=>lV (fs:=f49) uV ((B48 X G).self (by ac_rfl) (Rq n) uV.kp jZ (mg_of X G QR)) (gr (n+1)) 3 4 ahS ahT rfl rfl (cN (λds G h=>aeK (iI Z "grown" (gr n)) n (if_pos rfl) (jY Bg rfl) (jY M8 rfl) (jY uR rfl) ds G h))
theorem B49:BB l w mg base 65 f49 {}:=(B48 X G).add (j:=9) M9 (Rq X G 9) uV.kp jZ (mg_of X G QR)
theorem B50:BB l w mg base 66 f50 {}:=(B49 X G).add (j:=1) Nb ((aiq Bl).cx.mono (!1)) Bl.kp ajE (mg_of X G ajD)
theorem B51:BB l w mg base 67 f51 {}:=(B50 X G).step QV mW (mg_of X G ajF) Nf 0 ahU ahV rfl rfl (gj (λds G d h=>aeW Z  ds G d h))
theorem Rt:∀n:Nat,FnOk l.prog w (HK.K w.params) mg base (CX1 l.prog w) (67+n) 200 Bm ["box","tree"] (lift (HK.K w.params) 2 (fV n))
 |0=>yz ae0
 |n+1=>lV (fs:=f52) uW ((B51 X G).self (by ac_rfl) (Rt n) uW.kp jo (mg_of X G QW)) (fV (n+1)) 2 3 ahW ahX rfl rfl (bU (λa G h=>ae2 (iI Z "leaves" (fV n)) n (if_pos rfl) (jY Nf rfl) (jY Be rfl) (jY uR rfl) a G h))
theorem B52:BB l w mg base 76 f52 {}:=(B51 X G).add (j:=9) Ng (Rt X G 9) uW.kp jo (mg_of X G QW)
theorem B53:BB l w mg base 77 f53 {}:=(B52 X G).step QZ mX (mg_of X G ajG) Nh 0 ahY ahZ rfl rfl (bU (λa G h=>afj Z oM a G h))
theorem B54:BB l w mg base 78 f54 {}:=(B53 X G).step Q3 j5 (mg_of X G ajH) Ni 0 ah0 ah1 rfl rfl (cN (λds G h=>aer Z  ds G h))
theorem B55:BB l w mg base 79 f55 {}:=(B54 X G).step Q5 mY (mg_of X G ajI) Nj 0 ah2 ah3 rfl rfl (bU (λa G h=>afl Z Ni a G h))
theorem B56:BB l w mg base 80 f56 {}:=(B55 X G).step Q7 mZ (mg_of X G ajJ) Nk 0 ah4 ah5 rfl rfl (gj (λds G d h=>aez Z  ds G d h))
theorem B57:BB l w mg base 81 f57 {}:=(B56 X G).step Q9 m5 (mg_of X G ajK) Bh 3 ah6 ah7 rfl rfl (eH (λa ds G h=>afm Z Nh M9 Ng Nb Nk Nj a ds G h))
theorem B58:BB l w mg base 82 f58 {}:=(B57 X G).step Rb m6 (mg_of X G ajL) Nm 2 ah8 ah9 rfl rfl (bU (λa G h=>afz Z Bh a G h))
theorem B59:BB l w mg base 83 f59 {}:=(B58 X G).step Rf m7 (mg_of X G ajM) Np 4 aia aib rfl rfl (bU (λa G h=>afK Z M6 Nm a G h))
theorem B60:BB l w mg base 84 f60 {}:=(B59 X G).step Rh m8 (mg_of X G ajN) Nq 2 aic aid rfl rfl (bU (λa G h=>afL Z Np a G h))
theorem B61:BB l w mg base 85 f61 {}:=(B60 X G).step Rj m9 (mg_of X G ajO) Nr 2 aie aif rfl rfl (eH (λa ds G h=>afp Z Bh uT a ds G h))
theorem B62:BB l w mg base 86 f62 {}:=(B61 X G).step Rm nq (mg_of X G ajP) Nt 2 aig aih rfl rfl (bU (λa G h=>afq Z oM Nr uT a G h))
theorem B63:BB l w mg base 87 f63 {}:=(B62 X G).step Ro nu (mg_of X G ajQ) Nu 2 aii aij rfl rfl (bU (λa G h=>afN Z oM Nq Nt a G h))
theorem akd:FnOk l.prog w (HK.K w.params) mg base (CX1 l.prog w) 88 479 Bo ["script"] (lift (HK.K w.params) 1 (nF)):=lV ajS (B63 X G) (nF) 1 5 aik ail rfl rfl (cN (λds G h=>agd Z ⟨Mj,Lw,Mi,Mw,Nu,Mx⟩ ds G h))
omit X G in
theorem all (fa:AQ) (X:(HK.K w.params).In h) (G:h.Ns mainGlobals mg) (hfa:mg "law"=some (.ref fa)):∃fd:AJ,(∀(s:AI) (v:AN),BindsTo s fd ⟨[v],[]⟩ [("script",v)])/\∀base:Heap,(HK.K w.params).In base->base.Ns mainGlobals mg->FnOk l.prog w (HK.K w.params) mg base (CX1 l.prog w) 88 fa fd ["script"] (lift (HK.K w.params) 1 (nF)):=by have e:=hfa.symm.trans (PySem.W.mg_of X G ajT);cases e;exact ⟨Bo,λs v=>.of_eq rfl,λbase _ _=>akd X G⟩
end
def walk {l:PySem.W.OpenLaw} {q:AK} {loose:AD} {XP:(AH)->Heap->Prop} {d:DefRec} (hn:l.most=some 63) (hdf:d.params.defaults=[]) (hdn:d.name="law"):
  PySem.W.WalkO q loose XP HK.hook.says l.row.toRowW d [] (λf vs=>PySem.call f vs):=
 L2.Vx (n:=63) (k:=88) (x:="script") (K:=HK.K) (CX:=λw=>CX1 l.prog w) (sp:=λw=>lift (HK.K w.params) 1 (nF)) hn (!1) hdf ⟨rfl,!1,!1⟩ (λ_ _ Y=>Y) (λw mg fa h X G hmg=>all fa X G (hdn ▸ hmg)) (λw H a ns hl hO hS=>adG (adH λns _ hl=>⟨ns,rfl,hl⟩) (HK.K w.params) H a ns hl hO hS) λ_ _ _ _ _ z=>aaD z
end Lk43
end
open PySem PySem.W PyProof.Rows
set_option maxHeartbeats 0 in
theorem PySem.Challenge.cw_starsieve_k43_books_pressed_holds : PySem.Challenge.rw_starsieve_k43_books_pressed.Holds := by
 have said:PySem.Challenge.rw_starsieve_k43_books_pressed.row.wellSaid=true:=by decide +kernel
 refine ⟨by decide +kernel,?_⟩;refine PySem.W.holds_open (q:=HK.qv) (loose:=[]) (Xt:=HK.Xt) (XP:=XL HK.qv []) (Yf:=HK.hook.obs) (Ya:=HK.hook.val) (YP:=HK.hook.says) (N:=12000) HK.left HK.hook.of HK.hook.keeps
  (λs e=>xl_of s (Bool.and_eq_true_iff.mp e).1) XL.keeps (by rfl) (by rfl) (by rfl) (λs e=>recFacts_of (Bool.and_eq_true_iff.mp e).2) (by rfl) (by assumption) (by decide +kernel) ⟨rfl,rfl,rfl,rfl,rfl,by decide +kernel⟩ ?hw ?hc
 case hw=>exact ⟨[.list []],by decide +kernel,by decide +kernel⟩
 exact Lk43.walk rfl rfl rfl
