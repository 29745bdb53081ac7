import PyProof.Rows.All
import Wide.All
import OpenK.AllK
import Wide.FinOn
import Lean
import PyProof.EqAt
import PyProof.EqKinds
import PyProof.TupleCall
import PyProof.NeKinds
import PyProof.FactsAll.range_2
import PyProof.FactsAll.tuple_2
import PyProof.FactsAll.tuple_3
import PyProof.FactsAll.tuple
import PyProof.ListRange
import PyProof.ExcInit
import KE.KDictList
import PyProof.DictCompW
import PyProof.IsiNone
import PySem.Challenge.RW_starsieve_k38_whole_ways_there_and_back
set_option compiler.extract_closed false
set_option bootstrap.genMatcherCode false
set_option genSizeOf false
set_option Elab.async false
set_option maxRecDepth 100000
noncomputable section
local macro_rules|`(def $n:declId $s:optDeclSig $v:declVal)=>do return (←`(noncomputable def $n:declId $s:optDeclSig $v:declVal)).raw.rewriteBottomUp (·.setInfo .none)
local macro_rules|`(abbrev $n:declId $s:optDeclSig $v:declVal)=>do return (←`(noncomputable abbrev $n:declId $s:optDeclSig $v:declVal)).raw.rewriteBottomUp (·.setInfo .none)
local macro_rules|`(theorem $n:declId $s:declSig $v:declVal)=>do
 if n.raw.getPos?.isNone then Lean.Macro.throwUnsupported
 return (←`(theorem $n:declId $s:declSig $v:declVal)).raw.rewriteBottomUp (·.setInfo .none)
def nZf.{u}{a:Sort u}(h:false=true):a:=nomatch h
local macro_rules|`(~~~$x)=>`(($x).heap.objs.size)
local macro_rules|`(↥$x)=>`(PySem.wpAny (PySem.model ($x).prog ($x).w) ($x).A)
local macro_rules|`(!0)=>`(by omega)
local macro_rules|`(!1)=>`(by decide)
local macro_rules|`(!!$x)=>`(by simpa using $x)
local macro_rules|`(⇑$x)=>`(PySem.Str.ofString $x)
abbrev AA:=List Nat
abbrev AB:=List PySem.Value
abbrev AC:=List (PySem.Addr×PySem.Obj)
abbrev AD:=List PySem.Str
abbrev AE:=List PySem.Expr
abbrev AF:=List PySem.Stmt
abbrev AG:=PySem.Value->PySem.Shared->Prop
abbrev AH:=PySem.Str->Option PySem.Value
abbrev AI:=PySem.Shared
abbrev AJ:=PySem.FuncData
abbrev AK:=PySem.Program
abbrev AL:=String
abbrev AM:=PySem.Around
abbrev AN:=PySem.Value
abbrev AO:=PySem.Expr
abbrev AQ:=PySem.Addr
local macro_rules|`(tactic|rfl')=>`(tactic|kernel_rfl)
local macro_rules|`(tactic|ac_rfl)=>`(tactic|decide +kernel)
abbrev PF:=PySem.W.Frag
set_option linter.all false
namespace L2
open PySem PySem.Spec PyProof.Rows
def ab:=@PySem.wpAny_bind
def ae:=@Bool.and_eq_true
def af:=@List.length_map
def ag:=@PySem.Heap.get?_push_of_some
def ah:=@List.mem_singleton
def ai:=@List.getElem?_eq_getElem
def al:=@List.mem_append_right
def am:=@PySem.wpAny_pure
def ar:=@List.getElem?_eq_some_iff
def av:=@List.size_toArray
def aw:=@List.length_append
def ax:=@Nat.le_refl
def ay:=@PySem.Heap.lt_size
def aE:=@List.getD_eq_getElem?_getD
def aI:=@PySem.Heap.get?_push_size
def aS:=@List.map_cons
def aT:=@List.mem_append
def a7:=@Option.map_eq_some_iff
def a9:=@beq_iff_eq
def ba:=@Option.some.injEq
def bg:=@List.mem_cons_self
def bi:=@List.mem_cons_of_mem
def bm:=@Nat.lt_of_lt_of_le
def bo:=@List.drop_eq_getElem_cons
def bp:=@List.mem_map
def bq:=@List.getElem?_map
def br:=@Bool.false_ne_true
def bv:=@List.contains_iff_mem
def bB:=@List.mem_cons
def bP:=@List.all_eq_true
def bS:type_of% @Int.toNat_natCast:=@Int.toNat_natCast
def bX:=@decide_eq_true
def b3:=@Nat.ne_of_lt
def b4:=@List.map_append
def b6:=@List.length_range
def b9:=@List.map_congr_left
def ca:=@Nat.le_trans
def cb:=@List.map_map
def ce:=@decide_eq_false
def cf:=@List.mem_append_left
def ci:=@Int.eq_ofNat_of_zero_le
def ck:=@decide_eq_true_iff
def cm:=@Option.isSome_iff_exists
def cp:=@List.getElem_mem
def cq:type_of% @Array.length_toList:=@Array.length_toList
def cr:=@Nat.zero_le
def cw:=@List.mem_of_getElem?
def cy:=@PyProof.Rows.slot_tuple_getitem
def cK:=@List.length_replicate
def cS:=@List.length_eq_zero_iff
def da:type_of% @List.length_cons:=@List.length_cons
def dc:=@PySem.wpAny_mono
def de:=@PySem.wpAny_callSpecial?_slot
def df:=@PySem.wpAny_newObj_type
def dk:=@PySem.wpAny_field
def dr:=@List.nodup_cons
def dv:type_of% @List.length_singleton:=@List.length_singleton
def dy:=@List.findIdx?_eq_some_iff_getElem
def dA:=@PySem.Heap.size_push
def dE:=@PySem.wpAny_holding
def dL:=@List.cons.injEq
def dP:=@Bool.or_eq_true
def dQ:=@Nat.le_add_right
def dS:=@List.not_mem_nil
def d0:=@List.getElem?_append_left
def d4:=@beq_eq_false_iff_ne
def ee:=@of_decide_eq_true
def ef:=@PySem.W.kia_one
def eg:=@List.length_set
def eh:=@List.mem_range
def eA:=@PySem.mem_of_lookup
def eI:=@Option.some.inj
def eJ:=@List.eraseIdx_eq_take_drop_succ
def eK:=@PySem.wpAny_truthy_bool
def eL:=@List.length_take
def eM:=@List.length_drop
def eP:=@List.isEmpty_iff
def eR:=@List.findIdx?_cons
def eS:=@Nat.lt_irrefl
def eT:=@congrArg
def eW:=@PySem.wpAny_call_entry
def e6:=@PyProof.Rows.callWith_type1
def e7:=@List.drop_length
def e9:=@PySem.F.slot_dict_keyiterator_next
def fb:=@List.nodup_nil
def fe:=@List.getElem_range
def ff:=@List.getElem?_append_right
def fg:=@Array.getElem?_toList
def fh:=@Option.isNone_iff_eq_none
def fi:=@List.append_nil
def fk:=@Bool.eq_iff_iff
def fm:=@PySem.wpAny_setField_rec
def fo:=@PySem.wpAny_seqItems
def fq:=@Nat.lt_succ_of_lt
def ft:type_of% @List.replicate_succ:=@List.replicate_succ
def fv:=@PySem.wpAny_pyIter_list
def fw:=@PySem.wpAny_standAt
def fx:=@PySem.wpAny_comprehension_free
def fy:=@Int.emod_lt_of_pos
def fA:=@List.forIn_cons
def fE:=@List.dropLast_concat_getLast
def fF:=@Int.emod_nonneg
def fN:type_of% @List.length_nil:=@List.length_nil
def fR:=@PySem.wpAny_typeNameOfWhole_keyiter
def fS:=@PySem.sizeLine_eq
def fT:=@List.append_assoc
def ga:=@PySem.wpAny_passesOwn
def gc:=@True.intro
def ge:=@Nat.pow_le_pow_right
def gg:=@Nat.le_succ
def gi:=@List.mem_iff_getElem
def gl:=@Bool.and_false
def gt:=@PySem.Paired.length
def gu:=@Nat.ne_of_gt
def gv:=@Array.getElem?_eq_getElem
def gx:=@PySem.F.slot_tuple_iterator_next
def gy:=@List.mem_filter
def gz:=@PySem.wpAny_typeNameOf_keyiter
def gE:=@List.take_of_length_le
def gI:=@List.take_add_one
def gL:=@List.map_nil
def gN:=@List.Perm.refl
def gS:=@Int.zero_add
def gT:=@Bool.not_eq_true'
def gV:=@Bool.false_and
def gX:=@List.cons_lt_cons_iff
def g0:=@Nat.min_eq_right
def g6:=@List.take_length
def g9:=@List.getElem_map
def hJ:=@List.any_eq_true
def hU:=@List.cons.inj
def hV:=@Bool.true_and
def hW:=@Bool.not_true
def hX:=@PySem.wpAny_assign_Name
def hZ:type_of% @List.find?_cons:=@List.find?_cons
def ia:type_of% @List.flatten_cons:=@List.flatten_cons
abbrev Key:=Sum Int Str
def jd:Key->AN->Bool
 |.inl k,v=>Value.isInt k v
 |.inr x,v=>Value.isStrOf x v
def O2(w:World):Key->Int
 |.inl k=>hashInt k
 |.inr x=>hashStr w x
def fK:∀{k:Key}{v:AN},jd k v=true->(∃i t,k=Sum.inl i/\v=Value.int i t)\/(∃x t,k=Sum.inr x/\v=Value.str x t)
 |.inl i,v,h=>by
  obtain ⟨t,e⟩:=Value.isInt_shape (k:=i) (v:=v) h;exact .inl ⟨i,t,rfl,e⟩
 |.inr x,v,h=>by
  obtain ⟨t,e⟩:=Value.isStrOf_shape (x:=x) (v:=v) h;exact .inr ⟨x,t,rfl,e⟩
def O3(i:Int)(t:Tok):jd (.inl i) (.int i t)=true:=by simp[jd,Value.isInt]
def O4(x:Str)(t:Tok):jd (.inr x) (.str x t)=true:=by simp[jd,Value.isStrOf]
def O5(a b:Int):decide ((Sum.inl a:Key)=Sum.inl b)=(a==b):=by
 by_cases e:a=b
 .subst e;simp
 .have h:¬(Sum.inl a:Key)=Sum.inl b:=λq=>e (Sum.inl.inj q);rw[ce h];exact (d4.mpr e).symm
def O6(a b:Str):decide ((Sum.inr a:Key)=Sum.inr b)=decide (a=b):=by
 by_cases e:a=b
 .subst e;simp
 .have h:¬(Sum.inr a:Key)=Sum.inr b:=λq=>e (Sum.inr.inj q);rw[ce h,ce e]
def O7(a:Int)(b:Str):decide ((Sum.inl a:Key)=Sum.inr b)=false:=ce (λq=>nomatch q)
def O8(a:Str)(b:Int):decide ((Sum.inr a:Key)=Sum.inl b)=false:=ce (λq=>nomatch q)
def bU(prog:AK)(w:World):PySem.KeyKind prog w Key where
 is:=jd
 hash:=O2 w
 inj:=λv a b ha hb=>by
  rcases fK ha with ⟨i,t,rfl,rfl⟩ |⟨x,t,rfl,rfl⟩
  .rcases fK hb with ⟨j,u,rfl,e⟩ |⟨y,u,rfl,e⟩
   .injection e with e1 _;rw[e1]
   .exact nomatch e
  .rcases fK hb with ⟨j,u,rfl,e⟩ |⟨y,u,rfl,e⟩
   .exact nomatch e
   .injection e with e1 _;rw[e1]
 byValue:=λk v h=>by
  rcases fK h with ⟨i,t,rfl,rfl⟩ |⟨x,t,rfl,rfl⟩ <;> rfl
 pyHash:=λhv h=>by
  rcases fK hv with ⟨i,t,rfl,rfl⟩ |⟨x,t,rfl,rfl⟩
  .exact wpAny_pyHash_int h
  .exact wpAny_pyHash_str h
 eqBool:=λhu hv h=>by
  rcases fK hu with ⟨i,t,rfl,rfl⟩ |⟨x,t,rfl,rfl⟩
  .rcases fK hv with ⟨j,u,rfl,rfl⟩ |⟨y,u,rfl,rfl⟩
   .rw[O5]at h;exact wpAny_eqBool_int h
   .rw[O7]at h;exact SeqAt.EqAt.int_str i t y u _ _ _ _ h
  .rcases fK hv with ⟨j,u,rfl,rfl⟩ |⟨y,u,rfl,rfl⟩
   .rw[O8]at h;exact SeqAt.EqAt.str_int x t j u _ _ _ _ h
   .rw[O6]at h;exact wpAny_eqBool_str h
 «strs»:=λk x t v h=>by
  rcases fK h with ⟨i,u,rfl,e⟩ |⟨y,u,rfl,e⟩
  .exact nomatch e
  .injection e with e1 _;subst e1;cases v <;> rfl
def O9(prog:AK)(w:World)(i:Int)(t:Tok):(bU prog w).is (.inl i) (.int i t)=true:=O3 i t
def Pa(prog:AK)(w:World)(x:Str)(t:Tok):(bU prog w).is (.inr x) (.str x t)=true:=O4 x t
inductive V where
 |non |bl (b:Bool) |int (i:Int) |str (x:Str) |byt (b:Array UInt8) |flt (b:UInt64) |ref (a:AQ) |ty (n:AL)
 deriving DecidableEq
abbrev AR:=List V
def RelV:V->AN->Prop
 |.non,u=>u=Value.none
 |.bl b,u=>u=Value.bool b
 |.int i,u=>∃t,u=Value.int i t
 |.str x,u=>∃t,u=Value.str x t
 |.byt b,u=>∃t,u=Value.bytes b t
 |.flt b,u=>∃t,u=Value.float b t
 |.ref a,u=>u=Value.ref a
 |.ty n,u=>u=Value.type n
abbrev Vals:AR->AB->Prop:=Paired RelV
def Vals.length{xs:AR}{us:AB}(r:Vals xs us):xs.length=us.length:=gt r
def Vals.get:∀{xs:AR}{us:AB}{i:Nat}{x:V},Vals xs us->xs[i]?=some x->∃u,us[i]?=some u/\RelV x u
 |_,_,_,_,.nil,e=>by simp at e
 |_,_,0,_,.cons r _,e=>by simp at e;subst e;exact ⟨_,rfl,r⟩
 |_,_,i+1,x,.cons _ t,e=>by
  obtain ⟨u,h1,h2⟩:=Vals.get (i:=i) (x:=x) t (!!e);exact ⟨u,!!h1,h2⟩
def Vals.set{x:V}{u:AN}(r:RelV x u):∀{xs:AR}{us:AB}(i:Nat),Vals xs us->Vals (xs.set i x) (us.set i u)
 |_,_,_,.nil=>.nil
 |_,_,0,.cons _ t=>.cons r t
 |_,_,i+1,.cons q t=>.cons q (Vals.set r i t)
def Vals.append:∀{xs ys:AR}{us ws:AB},Vals xs us->Vals ys ws->Vals (xs++ys) (us++ws)
 |_,_,_,_,.nil,s=>s
 |_,_,_,_,.cons r t,s=>.cons r (Vals.append t s)
def Vals.take:∀{xs:AR}{us:AB}(n:Nat),Vals xs us->Vals (xs.take n) (us.take n)
 |_,_,0,_=>.nil
 |_,_,_+1,.nil=>.nil
 |_,_,n+1,.cons r t=>.cons r (Vals.take n t)
def Vals.drop:∀{xs:AR}{us:AB}(n:Nat),Vals xs us->Vals (xs.drop n) (us.drop n)
 |_,_,0,r=>r
 |_,_,_+1,.nil=>.nil
 |_,_,n+1,.cons _ t=>Vals.drop n t
def RelO:Option V->Option AN->Prop
 |some v,some u=>RelV v u
 |none,none=>True
 |_,_=>False
def KV{κ:Type}:List (κ×V)->List (κ×AN)->Prop:=Paired λ(p:κ×V) (q:κ×AN)=>p.1=q.1/\RelV p.2 q.2
def kV:Key->V
 |.inl i=>.int i
 |.inr x=>.str x
inductive HO where
 |lst (xs:AR)
 |tup (xs:AR)
 |dK (kvs:List (Key×V)) |dT (kvs:List (List Key×V))
 |set (S:Int->Bool) (n:Nat)
 |ins (C dx:AQ) (fs:List (Str×V))
 |own (x:AQ)
 |xd (fs:List (Str×V))
 |met (f x:AQ)
 |rng (lo hi:Int)
 |frz (o:Obj) (u:HO)
 |tbl (ps:Array AN)
 |ext (φ:Heap->Prop)
abbrev Hp:=AQ->Option HO
def upd(H:Hp)(a:AQ)(o:HO):Hp:=λb=>if b=a then some o else H b
def cQ{H:Hp}{a:AQ}{o:HO}:upd H a o a=some o:=by unfold upd;rw[if_pos rfl]
def aJ{H:Hp}{a b:AQ}{o:HO}(h:b≠a):upd H a o b=H b:=by unfold upd;rw[if_neg h]
def Pb{H:Hp}{a:AQ}{o u:HO}:upd (upd H a o) a u=upd H a u:=by funext b;unfold upd;split <;> rfl
def je{H:Hp}{a b:AQ}{o u:HO}(h:H a=some o)(h':H b=some u)(d:o≠u):a≠b:=by intro e;subst e;rw[h]at h';exact d (eI h')
def bz{H:Hp}{a b:AQ}{o:HO}(h:H a=some o)(h':H b=none):a≠b:=by intro e;subst e;rw[h]at h';cases h'
def IsTupX (h:Heap) (a:AQ) (items:Array AN):Prop:=∃o,h.get? a=some o/\(o.cls=.type "tuple"/\o.dict=none)/\∃n,o.data=.seq items n
def IsTupX.tup{h:Heap}{a:AQ}{items:Array AN}(x:IsTupX h a items):IsTup h a items:=let ⟨o,e,c,r⟩:=x;⟨o,e,c.1,r⟩
def IsTupX.lt{h:Heap}{a:AQ}{items:Array AN}(x:IsTupX h a items):a < h.objs.size:=let ⟨_,e,_⟩:=x;ay e
def IsTupX.new (h:Heap) (items:Array AN):IsTupX (h.push { cls:=.type "tuple",data:=.seq items }) h.objs.size items:=⟨_,aI h rfl,⟨rfl,rfl⟩,0,rfl⟩
section
variable (P:AK) (w:World)
def ObjOk(H:Hp)(h:Heap)(a:AQ):HO->Prop
 |.lst xs=>xs.length<=sizeLine/\∃(its:AB) (n:Nat),Vals xs its/\h.get? a=some { cls:=.type "list",data:=.seq its.toArray n }
 |.tup xs=>xs.length<=sizeLine/\∃its:AB,Vals xs its/\IsTupX h a its.toArray
 |.dK kvs=>kvs.length<=sizeLine/\(a==sysModules)=false/\∃vs,KV kvs vs/\h.DictOf (bU P w) a vs
 |.dT kvs=>kvs.length<=sizeLine/\(a==sysModules)=false/\∃xs:List (List Key×AQ×AN),
   Paired (λ(p:List Key×V) (q:List Key×AQ×AN)=>p.1=q.1/\H q.2.1=some (.tup (p.1.map kV))/\RelV p.2 q.2.2) kvs xs/\
   ∃o es ep,h.get? a=some o/\o.ExactDict/\o.data=.dict es ep/\es.toList=xs.map (entryOfKey (tupleKind (bU P w)))/\(xs.map (·.1)).Nodup
 |.set S n=>h.SetOf (intKind P w) a S n
 |.ins C dx fs=>H dx=some (.own a)/\fs.length<=1000/\dx≠a/\h.get? a=some (PySem.W.instObj C dx)/\
   ∃mA,h.Ns1 dx mA/\(∀f,RelO (fs.lookup f) (mA f))/\PySem.Within mA (fs.map (·.1))
 |.own _=>∃o,h.get? a=some o
 |.xd fs=>∃mA,h.Ns1 a mA/\∀f,RelO (fs.lookup f) (mA f)
 |.rng lo hi=>∃t u v,h.get? a=some { cls:=.type "range",data:=.fields #[.int lo t,.int hi u,.int 1 v] }
 |.frz o u=>h.get? a=some o/\ObjOk H h a u
 |.tbl ps=>h.get? a=some { cls:=.none,data:=.fields ps }
 |.met f x=>h.get? a=some (PySem.W.methodObj (.ref f) (.ref x))
 |.ext φ=>φ h/\(∃o,h.get? a=some o)/\∀h1 h2:Heap,φ h1->(∀o,h1.get? a=some o->h2.get? a=some o)->φ h2
def HOk(H:Hp)(h:Heap):Prop:=∀a o,H a=some o->ObjOk P w H h a o
end
section
variable {P:AK} {w:World} {H H':Hp} {h h':Heap} {a:AQ} {o:HO}
theorem ObjOk.lt(x:ObjOk P w H h a o):a < h.objs.size:=by
 cases o with
 |lst xs=>obtain ⟨_,_,_,_,e⟩:=x;exact ay e
 |tup xs=>obtain ⟨_,_,_,p⟩:=x;exact p.lt
 |dK kvs=>obtain ⟨_,_,_,_,o,_,_,e,_⟩:=x;exact ay e
 |dT kvs=>obtain ⟨_,_,_,_,o,_,_,e,_⟩:=x;exact ay e
 |set S n=>obtain ⟨o,_,_,_,e,_⟩:=x;exact ay e
 |ins C dx fs=>obtain ⟨_,_,_,e,_⟩:=x;exact ay e
 |own y=>obtain ⟨_,e⟩:=x;exact ay e
 |xd fs=>obtain ⟨_,⟨_,_,_,e,_⟩,_⟩:=x;exact ay e
 |rng lo hi=>obtain ⟨_,_,_,e⟩:=x;exact ay e
 |frz ob u=>obtain ⟨e,_⟩:=x;exact ay e
 |tbl ps=>exact ay (show h.get? a=some _ from x)
 |met f y=>exact ay (show h.get? a=some _ from x)
 |ext φ=>obtain ⟨_,⟨_,e⟩,_⟩:=x;exact ay e
theorem Paired.mapP{α β:Type}{F G:α->β->Prop}:∀{l₁:List α}{l₂:List β},Paired F l₁ l₂->(∀a b,F a b->G a b)->Paired G l₁ l₂
 |_,_,.nil,_=>.nil
 |_,_,.cons r t,f=>.cons (f _ _ r) (Paired.mapP t f)
theorem ObjOk.stay(x:ObjOk P w H h a o)(k:∀b u,(b=a\/H b=some (.own a))->h.get? b=some u->h'.get? b=some u)
  (ho:∀b,H b=some (.own a)->H' b=some (.own a)) (ht:∀b xs,H b=some (.tup xs)->H' b=some (.tup xs)):ObjOk P w H' h' a o:=by
 induction o with
 |lst xs=>obtain ⟨z,its,n,r,e⟩:=x;exact ⟨z,its,n,r,k _ _ (.inl rfl) e⟩
 |tup xs=>obtain ⟨z,its,r,ob,e,c⟩:=x;exact ⟨z,its,r,ob,k _ _ (.inl rfl) e,c⟩
 |dK kvs=>obtain ⟨z,y,vs,r,ob,es,ep,e,c⟩:=x;exact ⟨z,y,vs,r,ob,es,ep,k _ _ (.inl rfl) e,c⟩
 |dT kvs=>
  obtain ⟨z,y,xs,r,ob,es,ep,e,c⟩:=x;exact ⟨z,y,xs,Paired.mapP r λp q z=>⟨z.1,ht _ _ z.2.1,z.2.2⟩,ob,es,ep,k _ _ (.inl rfl) e,c⟩
 |set S n=>obtain ⟨ob,es,ep,t,e,c⟩:=x;exact ⟨ob,es,ep,t,k _ _ (.inl rfl) e,c⟩
 |ins C dx fs=>
  obtain ⟨d,z,ne,e,mA,⟨od,es,ep,e2,c⟩,r⟩:=x;exact ⟨ho _ d,z,ne,k _ _ (.inl rfl) e,mA,⟨od,es,ep,k _ _ (.inr d) e2,c⟩,r⟩
 |own y=>obtain ⟨ob,e⟩:=x;exact ⟨ob,k _ _ (.inl rfl) e⟩
 |xd fs=>obtain ⟨mA,⟨od,es,ep,e,c⟩,r⟩:=x;exact ⟨mA,⟨od,es,ep,k _ _ (.inl rfl) e,c⟩,r⟩
 |rng lo hi=>obtain ⟨t,u,v,e⟩:=x;exact ⟨t,u,v,k _ _ (.inl rfl) e⟩
 |frz ob u ih=>obtain ⟨e,q⟩:=x;exact ⟨k _ _ (.inl rfl) e,ih q⟩
 |tbl ps=>
  have e:h.get? a=some { cls:=.none,data:=.fields ps }:=x;show h'.get? a=some { cls:=.none,data:=.fields ps };exact k a _ (.inl rfl) e
 |met f y=>
  have e:h.get? a=some (PySem.W.methodObj (.ref f) (.ref y)):=x;show h'.get? a=some (PySem.W.methodObj (.ref f) (.ref y));exact k a _ (.inl rfl) e
 |ext φ=>obtain ⟨p,⟨o,e⟩,st⟩:=x;exact ⟨st _ _ p λo q=>k _ _ (.inl rfl) q,⟨o,k _ _ (.inl rfl) e⟩,st⟩
theorem HOk.lt(x:HOk P w H h)(e:H a=some o):a < h.objs.size:=(x a o e).lt
theorem HOk.fresh(x:HOk P w H h)(e:h.objs.size<=a):H a=none:=by
 cases q:H a with
 |none=>rfl
 |some u=>exact absurd (bm (x.lt q) e) (eS _)
theorem HOk.kept(x:HOk P w H h)(k:∀b u,h.get? b=some u->h'.get? b=some u):HOk P w H h':=λa o e=>
 (x a o e).stay (λb u _ q=>k b u q) (λ_ q=>q) λ_ _ q=>q
theorem HOk.laid(x:HOk P w H h)(k:∀b u,h.get? b=some u->h'.get? b=some u)(hp:h.objs.size<=a)(new:ObjOk P w (upd H a o) h' a o):HOk P w (upd H a o) h':=λb u e=>by
 have hn:=x.fresh hp;by_cases hb:b=a
 .subst hb;rw[cQ]at e;cases e;exact new
 .rw[aJ hb]at e;exact (x b u e).stay (λc v _ q=>k c v q) (λc q=>by rw[aJ (bz q hn)];exact q) λc xs q=>by rw[aJ (bz q hn)];exact q
end
def Rd(H:Hp)(a:AQ)(u:HO):Prop:=H a=some u\/∃o,H a=some (.frz o u)
def Rd.ok{P:AK}{w:World}{H:Hp}{h:Heap}{a:AQ}{u:HO}(r:Rd H a u)(x:HOk P w H h):ObjOk P w H h a u:=by
 rcases r with r |⟨o,r⟩
 .exact x a u r
 .obtain ⟨_,q⟩:=x a _ r;exact q
def Mut:Option HO->Prop
 |some (.lst _)=>True
 |some (.dK _)=>True
 |some (.dT _)=>True
 |some (.set _ _)=>True
 |some (.ins _ _ _)=>True
 |some (.ext _)=>True
 |_=>False
section
variable {P:AK} {w:World} {H:Hp} {h h':Heap} {x e:AQ} {o':HO}
theorem HOk.write(ok:HOk P w H h)(mu:Mut (H x))(he:e=x\/H e=some (.own x))(k:∀b u,b≠e->h.get? b=some u->h'.get? b=some u)(heo:∃u,h'.get? e=some u)
  (new:ObjOk P w (upd H x o') h' x o'):HOk P w (upd H x o') h':=λb u q=>by
 have nown:∀c y,H c=some (.own y)->c≠x:=λc y r z=>by subst z;rw[r]at mu;exact mu
 have ntup:∀c xs,H c=some (.tup xs)->c≠x:=λc xs r z=>by subst z;rw[r]at mu;exact mu
 by_cases hb:b=x
 .subst hb;rw[cQ]at q;cases q;exact new
 .rw[aJ hb]at q;by_cases hbe:b=e
  .have q':H b=some (.own x):=by
    rcases he with z |z
    .exact absurd (hbe.trans z) hb
    .rw[hbe];exact z
   rw[q]at q';cases q';obtain ⟨v,hv⟩:=heo;exact ⟨v,by rw[hbe];exact hv⟩
  .refine (ok b u q).stay (λc v hc r=>k c v ?_ r) (λc r=>by rw[aJ (nown c b r)];exact r) λc xs r=>by rw[aJ (ntup c xs r)];exact r
   rcases hc with rfl |hc
   .exact hbe
   .rintro rfl;rcases he with z |z
    .exact nown c b hc z
    .rw[hc]at z;cases z;exact hb rfl
end
structure Un(fs ex:List AQ)(H H':Hp)(h h':Heap):Prop where
 keep:∀b o,h.get? b=some o->H b=none->b∉fs->b∉ex->h'.get? b=some o
 slot:∀b o,h.get? b=some o->H b=none->b∈fs->b∉ex->∃sl,h'.get? b=some { o with slots:=sl }
 free:∀b o,h.get? b=some o->H b=none->b∉ex->H' b=none
 there:∀b o,h.get? b=some o->b∉ex->∃o',h'.get? b=some o'
 tups:∀b xs,H b=some (.tup xs)->H' b=some (.tup xs)
 frzs:∀b o u,H b=some (.frz o u)->H' b=some (.frz o u)
 tbls:∀b ps,H b=some (.tbl ps)->∃more,H' b=some (.tbl (ps++more))
section
variable {fs fs' ex ex':List AQ} {H H1 H2:Hp} {h h1 h2 h':Heap} {a x e:AQ} {o:HO}
theorem Un.any(u:Un fs ex H H1 h h1){b:AQ}{ob:Obj}(q:h.get? b=some ob)(n:H b=none)(hx:b∉ex):∃sl,h1.get? b=some { ob with slots:=sl }:=by
 by_cases hb:b∈fs
 .exact u.slot b ob q n hb hx
 .exact ⟨ob.slots,u.keep b ob q n hb hx⟩
theorem Un.kept(k:∀b u,h.get? b=some u->h'.get? b=some u):Un fs ex H H h h':=
 ⟨λb ob q _ _ _=>k b ob q,λb ob q _ _ _=>⟨ob.slots,k b ob q⟩,λ_ _ _ n _=>n,λb ob q _=>⟨ob,k b ob q⟩,λ_ _ q=>q,λ_ _ _ q=>q,λ_ ps q=>⟨#[],by rw[q];simp⟩⟩
theorem Un.refl:Un fs ex H H h h:=Un.kept λ_ _ q=>q
theorem Un.laid(k:∀b u,h.get? b=some u->h'.get? b=some u)(hp:h.objs.size<=a)(hn:H a=none):Un fs ex H (upd H a o) h h' where
 keep:=λb u q _ _ _=>k b u q
 slot:=λb u q _ _ _=>⟨u.slots,k b u q⟩
 free:=λb u q n _=>by rw[aJ (b3 (bm (ay q) hp))];exact n
 there:=λb u q _=>⟨u,k b u q⟩
 tups:=λb xs q=>by rw[aJ (bz q hn)];exact q
 frzs:=λb u xs q=>by rw[aJ (bz q hn)];exact q
 tbls:=λb ps q=>⟨#[],by rw[aJ (bz q hn),q];simp⟩
theorem Un.write(mu:Mut (H x))(he:e=x\/H e=some (.own x))(k:∀b u,b≠e->h.get? b=some u->h'.get? b=some u)(heo:∃u,h'.get? e=some u):Un fs ex H (upd H x o) h h':=by
 have hx:∀b,H b=none->b≠x:=λb n z=>by subst z;rw[n]at mu;exact mu
 have hb:∀b,H b=none->b≠e:=λb n z=>by
  subst z;rcases he with r |r
  .exact hx b n r
  .rw[n]at r;cases r
 have hm:∀b u,H b=some u->¬Mut (some u)->b≠x:=λb u q nm z=>by subst z;rw[q]at mu;exact nm mu
 refine ⟨λb u q n _ _=>k b u (hb b n) q,λb u q n _ _=>⟨u.slots,k b u (hb b n) q⟩,λb u q n _=>by rw[aJ (hx b n)];exact n,λb u q _=>?_,
  λb xs q=>by rw[aJ (hm b _ q λz=>z)];exact q,λb u xs q=>by rw[aJ (hm b _ q λz=>z)];exact q,λb ps q=>⟨#[],by rw[aJ (hm b _ q λz=>z),q];simp⟩⟩
 by_cases hbe:b=e
 .subst hbe;exact heo
 .exact ⟨u,k b u hbe q⟩
end
def trk(h:Heap)(H:Hp):List AQ:=(List.range h.objs.size).filter λa=>(H a).isSome
def fL(h:Heap)(H:Hp):Heap:=PySem.W.hideAll h (trk h H)
def Pg(h:Heap)(H:Hp):(fL h H).objs.size=h.objs.size:=PySem.W.hideAll_size _ _
def Ph{h:Heap}{H:Hp}{b:AQ}{o:Obj}(e:h.get? b=some o)(n:H b=none):(fL h H).get? b=some o:=
 PySem.W.hideAll_get _ e λhm=>by
  have q:(H b).isSome=true:=(gy.mp hm).2;rw[n]at q;simp at q
def Pj{h:Heap}{H:Hp}{b:AQ}{o:Obj}(e:(fL h H).get? b=some o):h.get? b=some o/\H b=none:=by
 have e':h.get? b=some o:=PySem.W.of_hideAll (trk h H) e;refine ⟨e',?_⟩;cases q:H b with
 |none=>rfl
 |some x=>
  have hm:b∈trk h H:=gy.mpr ⟨eh.mpr (ay e'),by simp[q]⟩;have z:(fL h H).get? b=none:=PySem.W.hideAll_none (trk h H) hm;rw[z]at e;cases e
def Pk(g h:Heap)(L:AQ):AC:=(List.range h.objs.size).filterMap λa=>if a=L\/(g.get? a).isSome=true then none else (h.get? a).map λo=>(a,o)
def rest(g h:Heap)(L d:AQ):AC:=(Pk g h L).filter λp=>decide (p.1≠d)
structure Mod(K:PF)(mg:AH)(base:Heap):Prop where
 kin:K.In base
 glob:base.Ns mainGlobals mg
 blt:∃mb,base.Ns builtinsNs mb/\∀x:Str,x≠"__name__"->mb x=bootBuiltins x
 nolimit:base.NoLimit
structure Cx where
 prog:AK
 w:World
 K:PF
 mg:Str->Option AN
 base:Heap
 A:AM
 N:AD
 s₀:AI
 H₀:Hp
 env:Env
 outer:List Env
 stack:List Env
 ex:List AQ
 fn:Str->Bool
 calm:Bool
 pn:AC
 xe:AN->AI->Prop
def frs(l:List Env):List AQ:=l.filterMap (·.frame)
abbrev Cx.fs(X:Cx):List AQ:=frs X.outer
def Vis(sc:Scope)(x:Str):Prop:=sc.names.lookup x=some .local\/sc.names.lookup x=some .cell\/sc.names.lookup x=some .free
def Loc(sc:Scope)(x:Str):Prop:=sc.names.lookup x=some .local\/sc.names.lookup x=some .cell
def Look(env:Env)(h:Heap)(m:AH)(x:Str)(u:AN):Prop:=
 (env.kindOf x=some .local/\m x=some u)\/((env.kindOf x=some .cell\/env.kindOf x=some .free)/\∃c,env.cells.lookup x=some c/\h.IsCell c (some u))
structure Cx.Ok(X:Cx):Prop where
 mod:Mod X.K X.mg X.base
 kind:X.env.scope.kind=.function
 glob:X.env.globals=mainGlobals
 blt:X.env.builtins=builtinsNs
 above:X.s₀.heap.objs.size<=X.env.locals
 inj:∀x y c,X.env.cells.lookup x=some c->X.env.cells.lookup y=some c->x=y
 has:∀x,(X.env.kindOf x=some .cell\/X.env.kindOf x=some .free)->∃c,X.env.cells.lookup x=some c
 cab:∀x c,X.fn x=true->X.env.cells.lookup x=some c->X.s₀.heap.objs.size<=c
 hd:X.calm=true->X.A.handled=none
 frames:X.A.frames=some X.stack
 stk:X.stack=X.outer\/(X.stack=X.env::X.outer/\X.env.frame=some X.env.locals)
 exf:∀b∈X.ex,b≠X.env.locals/\∀x c,X.env.cells.lookup x=some c->c≠b
 bs:∀b o,X.base.get? b=some o->X.s₀.heap.get? b=some o/\X.H₀ b=none
 bsz:X.base.objs.size<=X.s₀.heap.objs.size
 noex:∀b o,X.base.get? b=some o->b∉X.ex
 exfs:∀b∈X.ex,b∉X.fs
 funs:X.s₀.heap.FunFrames X.base X.outer
 frf:∀b∈X.fs,X.H₀ b=none
structure Inv(X:Cx)(p9:AC)(Y:List (Option V))(H:Hp)(s:AI):Prop where
 ok:X.Ok
 os:s.os=X.s₀.os
 bare:AllBare s.gens
 base:Un X.fs X.ex X.H₀ H X.s₀.heap s.heap
 loc:∃m,s.heap.Ns X.env.locals m/\∀(i:Nat)(x:Str)(v:V),X.N[i]?=some x->Y[i]?=some (some v)->Vis X.env.scope x->∃u,RelV v u/\Look X.env s.heap m x u
 cell:∀x c,X.env.cells.lookup x=some c->∃v,s.heap.IsCell c v
 free:H X.env.locals=none
 freeC:∀x c,X.env.cells.lookup x=some c->H c=none
 pin:∀p∈X.pn++p9,s.heap.get? p.1=some p.2/\H p.1=none/\p.1≠X.env.locals/\p.1∉X.fs/\∀v,p.2.data≠.cell v
 hok:HOk X.prog X.w H s.heap
 len:Y.length=X.N.length
section
variable {X:Cx} {p9:AC} {σ:List (Option V)} {H H':Hp} {s:AI} {h':Heap}
theorem Cx.Ok.nofr(ok:X.Ok){b:AQ}{o:Obj}(e:X.base.get? b=some o):b∉X.fs:=λhb=>by
 have:=(ok.funs.mem hb).1;rw[e]at this;cases this
theorem Inv.bs(I:Inv X p9 σ H s):∀b o,X.base.get? b=some o->s.heap.get? b=some o/\H b=none:=λb o e=>
 ⟨I.base.keep b o (I.ok.bs b o e).1 (I.ok.bs b o e).2 (I.ok.nofr e) (I.ok.noex b o e),I.base.free b o (I.ok.bs b o e).1 (I.ok.bs b o e).2 (I.ok.noex b o e)⟩
theorem Inv.bk(I:Inv X p9 σ H s):∀b o,X.base.get? b=some o->s.heap.get? b=some o:=λb o e=>(I.bs b o e).1
theorem Inv.mod(I:Inv X p9 σ H s):Mod X.K X.mg X.base:=I.ok.mod
theorem Inv.kIn(I:Inv X p9 σ H s):X.K.In s.heap:=I.ok.mod.kin.keeps I.bk
theorem Inv.lt(I:Inv X p9 σ H s):X.env.locals < (~~~s):=let ⟨_,hn,_⟩:=I.loc;hn.lt
theorem Inv.sz(I:Inv X p9 σ H s):X.s₀.heap.objs.size<=(~~~s):=ca I.ok.above (Nat.le_of_lt I.lt)
theorem Inv.nofs(I:Inv X p9 σ H s){a:AQ}(h:(~~~s)<=a):a∉X.fs:=λhb=>by
 obtain ⟨_,o,ho,_⟩:=I.ok.funs.mem hb;exact absurd (bm (ay ho) (ca I.sz h)) (eS _)
theorem Inv.cne(I:Inv X p9 σ H s):∀x c,X.env.cells.lookup x=some c->c≠X.env.locals:=λx c e z=>by
 obtain ⟨v,o,ho,hd⟩:=I.cell x c e;obtain ⟨m,⟨o',es,ep,ho',hd',_⟩,_⟩:=I.loc;rw[z,ho']at ho;cases ho;rw[hd']at hd;cases hd
theorem Inv.funs(I:Inv X p9 σ H s):s.heap.FunFrames X.base X.outer:=by
 have all:∀(l:List Env),(∀b∈frs l,b∈X.fs)->X.s₀.heap.FunFrames X.base l->s.heap.FunFrames X.base l:=by
  intro l;induction l with
  |nil=>intro _ _;trivial
  |cons env r ih=>
   intro hs hl;obtain ⟨hk,⟨L,o,hf,hn,ho,hd⟩,hr⟩:=hl;have hL:L∈X.fs:=hs L (by unfold frs;rw[List.filterMap_cons,hf];exact bg);obtain ⟨sl,e⟩:=I.base.slot L o ho (I.ok.frf L hL) hL λz=>I.ok.exfs L z hL;exact ⟨hk,⟨L,_,hf,hn,e,hd⟩,ih (λb hb=>hs b (by unfold frs;rw[List.filterMap_cons,hf];exact bi _ hb)) hr⟩
 exact all X.outer (λ_ hb=>hb) I.ok.funs
theorem Inv.stack(I:Inv X p9 σ H s):s.heap.FunFrames X.base X.stack:=by
 rcases I.ok.stk with e |⟨e,hf⟩
 .rw[e];exact I.funs
 .rw[e];obtain ⟨m,hn,_⟩:=I.loc;refine .cons (by rw[I.ok.kind];decide) hf hn ?_ I.funs;exact Heap.get?_none_of_le (ca I.ok.bsz I.ok.above)
theorem Inv.stkSub(I:Inv X p9 σ H s):∀b∈frs X.stack,b∈X.env.locals::X.fs:=λb hb=>by
 rcases I.ok.stk with e |⟨e,hf⟩
 .rw[e]at hb;exact bi _ hb
 .rw[e]at hb;unfold frs at hb;rw[List.filterMap_cons,hf]at hb;exact hb
theorem Inv.stkFree(I:Inv X p9 σ H s):∀b∈frs X.stack,H b=none:=λb hb=>by
 rcases bB.mp (I.stkSub b hb) with e |hb
 .rw[e];exact I.free
 .obtain ⟨_,o,ho,_⟩:=I.ok.funs.mem hb;exact I.base.free b o ho (I.ok.frf b hb) λz=>I.ok.exfs b z hb
theorem Inv.step{g':Array GenState}{t':Nat}{d':Drawn}{ch:List AQ}(I:Inv X p9 σ H s)
  (hch:∀b∈ch,(b∈X.ex\/X.s₀.heap.objs.size<=b)/\b≠X.env.locals/\(∀x c,X.env.cells.lookup x=some c->c≠b)/\∀p∈X.pn++p9,p.1≠b)
  (keep:∀b o,b≠X.env.locals->b∉X.fs->b∉ch->s.heap.get? b=some o->H b=none->h'.get? b=some o)
  (slot:∀b o,b≠X.env.locals->b∈X.fs->b∉ch->s.heap.get? b=some o->H b=none->∃sl,h'.get? b=some { o with slots:=sl }) (free:∀b o,b∉ch->s.heap.get? b=some o->H b=none->H' b=none)
  (there:∀b o,b∉ch->s.heap.get? b=some o->∃o',h'.get? b=some o')
  (tups:∀b xs,H b=some (.tup xs)->H' b=some (.tup xs)) (frzs:∀b o u,H b=some (.frz o u)->H' b=some (.frz o u)) (tbls:∀b ps,H b=some (.tbl ps)->∃more,H' b=some (.tbl (ps++more)))
  (ns:∀m,s.heap.Ns X.env.locals m->h'.Ns X.env.locals m) (hok:HOk X.prog X.w H' h') (hg:AllBare g'):
  Inv X p9 σ H' { s with heap:=h',gens:=g',drawn:=d',toks:=t' }:=by
 have neL:∀b o,X.s₀.heap.get? b=some o->b≠X.env.locals:=λb o e=>b3 (bm (ay e) I.ok.above);have neC:∀b o,X.s₀.heap.get? b=some o->b∉X.ex->b∉ch:=λb o e hx hb=>by
  rcases (hch b hb).1 with z |z
  .exact hx z
  .exact absurd (bm (ay e) z) (eS _)
 have cellK:∀x c,X.env.cells.lookup x=some c->∀v,s.heap.IsCell c v->h'.IsCell c v:=λx c e v ⟨o,ho,hd⟩=>by
  have nch:c∉ch:=λz=>(hch c z).2.2.1 x c e rfl;by_cases hc:c∈X.fs
  .obtain ⟨sl,q⟩:=slot c o (I.cne x c e) hc nch ho (I.freeC x c e);exact ⟨_,q,hd⟩
  .exact ⟨o,keep c o (I.cne x c e) hc nch ho (I.freeC x c e),hd⟩
 refine ⟨I.ok,I.os,hg,⟨λb o e n hb hx=>?_,λb o e n hb hx=>?_,λb o e n hx=>?_,λb o e hx=>?_,λb xs e=>tups b xs (I.base.tups b xs e),λb o xs e=>frzs b o xs (I.base.frzs b o xs e),λb ps e=>?_⟩,?_,λx c e=>?_,?_,λx c e=>?_,λp hp=>?_,hok,I.len⟩
 .exact keep b o (neL b o e) hb (neC b o e hx) (I.base.keep b o e n hb hx) (I.base.free b o e n hx)
 .obtain ⟨sl,e1⟩:=I.base.slot b o e n hb hx;obtain ⟨sl',e2⟩:=slot b _ (neL b o e) hb (neC b o e hx) e1 (I.base.free b o e n hx);exact ⟨sl',e2⟩
 .obtain ⟨o',e1⟩:=I.base.there b o e hx;exact free b o' (neC b o e hx) e1 (I.base.free b o e n hx)
 .obtain ⟨o',e1⟩:=I.base.there b o e hx;exact there b o' (neC b o e hx) e1
 .obtain ⟨m1,e1⟩:=I.base.tbls b ps e;obtain ⟨m2,e2⟩:=tbls b _ e1;exact ⟨m1++m2,by rw[e2,Array.append_assoc]⟩
 .obtain ⟨m,hn,hl⟩:=I.loc;refine ⟨m,ns m hn,λi x v e1 e2 e3=>?_⟩;obtain ⟨u,r,l⟩:=hl i x v e1 e2 e3;refine ⟨u,r,?_⟩;rcases l with l |⟨k,c,e,z⟩
  .exact .inl l
  .exact .inr ⟨k,c,e,cellK x c e _ z⟩
 .obtain ⟨v,z⟩:=I.cell x c e;exact ⟨v,cellK x c e v z⟩
 .obtain ⟨m,⟨o,_,_,ho,_⟩,_⟩:=I.loc;exact free _ o (λz=>(hch _ z).2.1 rfl) ho I.free
 .obtain ⟨v,o,ho,hd⟩:=I.cell x c e;exact free c o (λz=>(hch c z).2.2.1 x c e rfl) ho (I.freeC x c e)
 .obtain ⟨e,n,ne,nf,d⟩:=I.pin p hp;have nch:p.1∉ch:=λz=>(hch p.1 z).2.2.2 p hp rfl;exact ⟨keep p.1 p.2 ne nf nch e n,free p.1 p.2 nch e n,ne,nf,d⟩
theorem Inv.un{t':Nat}(I:Inv X p9 σ H s)(u:Un X.fs [] H H' s.heap h')(hok:HOk X.prog X.w H' h'):Inv X p9 σ H' { s with heap:=h',toks:=t' }:=by
 obtain ⟨m,⟨o,es,ep,ho,r⟩,_⟩:=id I.loc;obtain ⟨sl,hL⟩:=u.any ho I.free (by simp);exact I.step (g':=s.gens) (d':=s.drawn) (ch:=[]) (λ_ z=>nomatch z) (λb o _ hb _ e n=>u.keep b o e n hb (by simp)) (λb o _ hb _ e n=>u.slot b o e n hb (by simp)) (λb o _ e n=>u.free b o e n (by simp)) (λb o _ e=>u.there b o e (by simp)) u.tups u.frzs u.tbls (λm' hm=>by
  obtain ⟨o',es',ep',ho',r'⟩:=hm;rw[ho]at ho';cases ho';exact ⟨_,es',ep',hL,r'⟩) hok I.bare
theorem Inv.call{g':Array GenState}{t':Nat}{d':Drawn}{ch:List AQ}(I:Inv X p9 σ H s)(u:Un (frs X.stack) ch H H' s.heap h')(hok:HOk X.prog X.w H' h')(hg:AllBare g')
  (hch:∀b∈ch,(b∈X.ex\/X.s₀.heap.objs.size<=b)/\b≠X.env.locals/\(∀x c,X.env.cells.lookup x=some c->c≠b)/\∀p∈X.pn++p9,p.1≠b):
  Inv X p9 σ H' { s with heap:=h',gens:=g',drawn:=d',toks:=t' }:=by
 obtain ⟨m,⟨o,es,ep,ho,r⟩,_⟩:=id I.loc;obtain ⟨sl,hL⟩:=u.any ho I.free λz=>(hch _ z).2.1 rfl;exact I.step (ch:=ch) hch (λb o hL hb hc e n=>u.keep b o e n (λz=>(bB.mp (I.stkSub b z)).elim hL hb) hc) (λb o _ _ hc e n=>u.any e n hc) (λb o hc e n=>u.free b o e n hc) (λb o hc e=>u.there b o e hc) u.tups u.frzs u.tbls (λm' hm=>by
  obtain ⟨o',es',ep',ho',r'⟩:=hm;rw[ho]at ho';cases ho';exact ⟨_,es',ep',hL,r'⟩) hok hg
theorem Inv.turned{t':Nat}{it:AQ}(I:Inv X p9 σ H s)(k:∀b o,b≠it->s.heap.get? b=some o->h'.get? b=some o)(hn:H it=none)(hL:it≠X.env.locals)
  (h1:it∈X.ex\/X.s₀.heap.objs.size<=it) (h2:∀x c,X.env.cells.lookup x=some c->c≠it) (h3:∀p∈X.pn++p9,p.1≠it):Inv X p9 σ H { s with heap:=h',toks:=t' }:=by
 have nit:∀b u,H b=some u->b≠it:=λb u e z=>by rw[z,hn]at e;cases e
 refine I.step (g':=s.gens) (d':=s.drawn) (ch:=[it]) (λb hb=>?_) (λb o _ _ hc e _=>k b o (λz=>hc (by simp[z])) e) (λb o _ _ hc e _=>⟨o.slots,k b o (λz=>hc (by simp[z])) e⟩) (λ_ _ _ _ n=>n)
  (λb o hc e=>⟨o,k b o (λz=>hc (by simp[z])) e⟩) (λ_ _ e=>e) (λ_ _ _ e=>e) (λb ps e=>⟨#[],by rw[e];simp⟩) (λm hm=>?_) (λb u e=>?_) I.bare
 .have e:b=it:=by simpa using hb
  subst e;exact ⟨h1,hL,h2,h3⟩
 .obtain ⟨o,es,ep,ho,r⟩:=hm;exact ⟨o,es,ep,k _ o (Ne.symm hL) ho,r⟩
 .refine (I.hok b u e).stay (λc v hc q=>k c v ?_ q) (λ_ q=>q) λ_ _ q=>q;rcases hc with z |z
  .rw[z];exact nit b u e
  .exact nit c _ z
theorem Inv.tok(I:Inv X p9 σ H s)(t:Nat):Inv X p9 σ H { s with toks:=t }:=I.un (h':=s.heap) (t':=t) Un.refl I.hok
theorem Inv.kept{t':Nat}(I:Inv X p9 σ H s)(k:∀b u,s.heap.get? b=some u->h'.get? b=some u):Inv X p9 σ H { s with heap:=h',toks:=t' }:=I.un (Un.kept k) (I.hok.kept k)
theorem Inv.laid{a:AQ}{o:HO}{t':Nat}(I:Inv X p9 σ H s)(k:∀b u,s.heap.get? b=some u->h'.get? b=some u)(hp:(~~~s)<=a)(new:ObjOk X.prog X.w (upd H a o) h' a o):
  Inv X p9 σ (upd H a o) { s with heap:=h',toks:=t' }:=I.un (Un.laid k hp (I.hok.fresh hp)) (I.hok.laid k hp new)
theorem Inv.write{x e:AQ}{o:HO}{t':Nat}(I:Inv X p9 σ H s)(mu:Mut (H x))(he:e=x\/H e=some (.own x))(k:∀b u,b≠e->s.heap.get? b=some u->h'.get? b=some u)(heo:∃u,h'.get? e=some u)
  (new:ObjOk X.prog X.w (upd H x o) h' x o):Inv X p9 σ (upd H x o) { s with heap:=h',toks:=t' }:=I.un (Un.write mu he k heo) (I.hok.write mu he k heo new)
theorem Inv.pins_of{pins':AC}(I:Inv X p9 σ H s)(h:∀p∈pins',s.heap.get? p.1=some p.2/\H p.1=none/\p.1≠X.env.locals/\p.1∉X.fs/\∀v,p.2.data≠.cell v):Inv X pins' σ H s:=
 ⟨I.ok,I.os,I.bare,I.base,I.loc,I.cell,I.free,I.freeC,λp hp=>(aT.mp hp).elim (λz=>I.pin p (cf _ z)) (h p),I.hok,I.len⟩
theorem Ag{N:AD}(hN:N.Nodup){i j:Nat}{x:Str}(a:N[i]?=some x)(b:N[j]?=some x):i=j:=by obtain ⟨h1,e1⟩:=ar.mp a;obtain ⟨h2,e2⟩:=ar.mp b;exact (List.getElem_inj hN).mp (e1.trans e2.symm)
theorem Pn{M:Model}{A:AM}{E:AG}{i:Nat}{x:Str}{v:V}{u:AN}{Q:Unit->AI->Prop}(I:Inv X p9 σ H s)(hN:X.N.Nodup)(hi:X.N[i]?=some x)(hx:Loc X.env.scope x)(r:RelV v u)
  (h:∀s',Inv X p9 (σ.set i (some v)) H s'->(∃a,Heap.SameBut a s.heap s'.heap/\(a=X.env.locals\/X.env.cells.lookup x=some a))->Q () s') (hf:X.fn x=true\/X.env.scope.names.lookup x=some .local:=by first |exact .inl rfl |exact .inr rfl |assumption):wpAny M A (storeName X.env x u) Q E s:=by
 obtain ⟨m,hn,hl⟩:=id I.loc;have hcls:(X.env.scope.kind==.class||(X.env.scope.kind==.module&&X.env.locals != X.env.globals))=false:=by rw[I.ok.kind];rfl
 have hiσ:i < σ.length:=by rw[I.len];exact (ar.mp hi).1
 have cne:=I.cne;have tracked:∀{a:AQ}{h':Heap},(∃o,s.heap.get? a=some o/\H a=none)->Heap.SameBut a s.heap h'->HOk X.prog X.w H h':=λ{a h'} ha hs b ob e=>by
  obtain ⟨_,_,hfree⟩:=ha;refine (I.hok b ob e).stay (λc w' hc q=>(hs.2 c ?_).trans q) (λ_ q=>q) λ_ _ q=>q;rintro rfl;rcases hc with rfl |hc
  .rw[hfree]at e;cases e
  .rw[hfree]at hc;cases hc
 rcases hx with hk |hk
 .refine wpAny_storeName_local hk hn (λh' hn' hs=>?_) hcls;obtain ⟨oL,_,_,hoL,_⟩:=id hn;refine h _ ⟨I.ok,I.os,I.bare,⟨λb o e n hb hx=>?_,λb o e n hb hx=>?_,I.base.free,λb o e hx=>?_,I.base.tups,I.base.frzs,I.base.tbls⟩,⟨_,hn',λj y v' e1 e2 e3=>?_⟩,λy c e=>?_,I.free,I.freeC,λp hp=>?_,tracked ⟨oL,hoL,I.free⟩ hs,!!I.len⟩ ⟨_,hs,.inl rfl⟩
  .exact (hs.2 b (b3 (bm (ay e) I.ok.above))).trans (I.base.keep b o e n hb hx)
  .obtain ⟨sl,e1⟩:=I.base.slot b o e n hb hx;exact ⟨sl,(hs.2 b (b3 (bm (ay e) I.ok.above))).trans e1⟩
  .obtain ⟨o',e1⟩:=I.base.there b o e hx;exact ⟨o',(hs.2 b (b3 (bm (ay e) I.ok.above))).trans e1⟩
  .by_cases hj:j=i
   .subst hj;rw[hi]at e1;cases e1;rw[List.getElem?_set_self hiσ]at e2;cases e2;exact ⟨u,r,.inl ⟨hk,by simp⟩⟩
   .rw[List.getElem?_set_ne (Ne.symm hj)]at e2;obtain ⟨u',r',q⟩:=hl j y v' e1 e2 e3;refine ⟨u',r',?_⟩;rcases q with ⟨k,e⟩ |⟨k,c,e,z⟩
    .refine .inl ⟨k,?_⟩;have:y≠x:=λe=>hj (Ag hN e1 (e ▸ hi));simp[this,e]
    .exact .inr ⟨k,c,e,z.sameBut hs (cne y c e)⟩
  .obtain ⟨w',z⟩:=I.cell y c e;exact ⟨w',z.sameBut hs (cne y c e)⟩
  .obtain ⟨e,n,ne,nf,d⟩:=I.pin p hp;exact ⟨(hs.2 p.1 ne).trans e,n,ne,nf,d⟩
 .have hfn:X.fn x=true:=by
   rcases hf with z |z
   .exact z
   .rw[z]at hk;cases hk
  obtain ⟨c,hc⟩:=I.ok.has x (.inl hk);obtain ⟨w',z⟩:=I.cell x c hc;refine wpAny_storeName_cell I.ok.kind hk hc z (λh' hc' hs=>?_);obtain ⟨oc,hoc,hocd⟩:=id z;refine h { s with heap:=h' } ⟨I.ok,I.os,I.bare,⟨λb o e n hb hx=>?_,λb o e n hb hx=>?_,I.base.free,λb o e hx=>?_,I.base.tups,I.base.frzs,I.base.tbls⟩,⟨m,hn.sameBut hs (Ne.symm (cne x c hc)),λj y v' e1 e2 e3=>?_⟩,λy c' e=>?_,I.free,I.freeC,λp hp=>?_,tracked ⟨oc,hoc,I.freeC x c hc⟩ hs,!!I.len⟩ ⟨c,hs,.inr hc⟩
  .exact (hs.2 b (b3 (bm (ay e) (I.ok.cab x c hfn hc)))).trans (I.base.keep b o e n hb hx)
  .obtain ⟨sl,e1⟩:=I.base.slot b o e n hb hx;exact ⟨sl,(hs.2 b (b3 (bm (ay e) (I.ok.cab x c hfn hc)))).trans e1⟩
  .obtain ⟨o',e1⟩:=I.base.there b o e hx;exact ⟨o',(hs.2 b (b3 (bm (ay e) (I.ok.cab x c hfn hc)))).trans e1⟩
  .by_cases hj:j=i
   .subst hj;rw[hi]at e1;cases e1;rw[List.getElem?_set_self hiσ]at e2;cases e2;exact ⟨u,r,.inr ⟨.inl hk,c,hc,hc'⟩⟩
   .rw[List.getElem?_set_ne (Ne.symm hj)]at e2;obtain ⟨u',r',q⟩:=hl j y v' e1 e2 e3;refine ⟨u',r',?_⟩;rcases q with q |⟨k,c',e,z'⟩
    .exact .inl q
    .refine .inr ⟨k,c',e,z'.sameBut hs ?_⟩;rintro rfl;exact hj (Ag hN e1 (I.ok.inj _ _ _ e hc ▸ hi))
  .by_cases hcc:c'=c
   .subst hcc;exact ⟨_,hc'⟩
   .obtain ⟨w2,z2⟩:=I.cell y c' e;exact ⟨w2,z2.sameBut hs hcc⟩
  .obtain ⟨e,n,ne,nf,d⟩:=I.pin p hp;refine ⟨(hs.2 p.1 ?_).trans e,n,ne,nf,d⟩;intro q;rw[q,hoc]at e;have q':oc=p.2:=eI e;exact d w' (by rw[<-q'];exact hocd)
theorem jf{M:Model}{A:AM}{E:AG}{i:Nat}{x:Str}{v:V}{u:AN}{Q:Unit->AI->Prop}(I:Inv X p9 σ H s)(hN:X.N.Nodup)(hi:X.N[i]?=some x)(hx:Loc X.env.scope x)(r:RelV v u)
  (h:∀s',Inv X p9 (σ.set i (some v)) H s'->Q () s') (hf:X.fn x=true\/X.env.scope.names.lookup x=some .local:=by first |exact .inl rfl |exact .inr rfl |assumption):wpAny M A (storeName X.env x u) Q E s:=
 Pn I hN hi hx r (λs' I' _=>h s' I') hf
theorem Inv.call'{s':AI}{ch:List AQ}(I:Inv X p9 σ H s)(ho:s'.os=s.os)(u:Un (frs X.stack) ch H H' s.heap s'.heap)(hok:HOk X.prog X.w H' s'.heap)(hg:AllBare s'.gens)
  (hch:∀b∈ch,(b∈X.ex\/X.s₀.heap.objs.size<=b)/\b≠X.env.locals/\(∀x c,X.env.cells.lookup x=some c->c≠b)/\∀p∈X.pn++p9,p.1≠b):Inv X p9 σ H' s':=by
 obtain ⟨h',g',d',t',o'⟩:=s';have e:o'=s.os:=ho;subst e;exact I.call (g':=g') (t':=t') (d':=d') u hok hg hch
end
abbrev XK:=AN->Option AQ->Hp->Prop
abbrev St:=List (Option V)
abbrev VK:=V->Hp->Prop
abbrev TE:=St->Hp->VK->Prop
abbrev TT:=St->Hp->(Bool->Hp->Prop)->Prop
abbrev TA:=St->Hp->(AR->Hp->Prop)->Prop
structure Ends where
 nx:St->Hp->Prop
 rt:VK
 bk:St->Hp->Prop:=λ_ _=>False
 ct:St->Hp->Prop:=λ_ _=>False
abbrev TS:=Ends->St->Hp->Prop
def EP(X:Cx)(p9:AC)(Y:St)(Q:VK)(u:AN)(s':AI):Prop:=∃v H',Inv X p9 Y H' s'/\RelV v u/\Q v H'
def TP(X:Cx)(p9:AC)(Y:St)(Q:Bool->Hp->Prop)(b:Bool)(s':AI):Prop:=∃H',Inv X p9 Y H' s'/\Q b H'
def AP(X:Cx)(p9:AC)(Y:St)(Q:AR->Hp->Prop)(us:AB)(s':AI):Prop:=∃vs H',Inv X p9 Y H' s'/\Vals vs us/\Q vs H'
def SP(X:Cx)(p9:AC)(D:Ends)(f:Flow)(s':AI):Prop:=
 match f with
 |.next=>∃σ' H',Inv X p9 σ' H' s'/\D.nx σ' H'
 |.brk=>∃σ' H',Inv X p9 σ' H' s'/\D.bk σ' H'
 |.cont=>∃σ' H',Inv X p9 σ' H' s'/\D.ct σ' H'
 |.ret u=>∃v σ' H',Inv X p9 σ' H' s'/\RelV v u/\D.rt v H'
def PE(X:Cx)(e:AO)(t:TE):Prop:=
 ∀(p9:AC)(s:AI)(Y:St)(H:Hp)(Q:VK),Inv X p9 Y H s->t Y H Q->↥X (eval e X.env) (EP X p9 Y Q) X.xe s
def PT(X:Cx)(e:AO)(t:TT):Prop:=
 ∀(p9:AC)(s:AI)(Y:St)(H:Hp)(Q:Bool->Hp->Prop),Inv X p9 Y H s->t Y H Q->↥X (isTrue e X.env (eval e X.env)) (TP X p9 Y Q) X.xe s
def PW(X:Cx)(e:AO)(t:TT):Prop:=
 ∀(whole:Sem AN)(p9:AC)(s:AI)(Y:St)(H:Hp)(Q:Bool->Hp->Prop),Inv X p9 Y H s->t Y H Q->↥X (isTrue e X.env whole) (TP X p9 Y Q) X.xe s
def PW.pt{X:Cx}{e:AO}{t:TT}(h:PW X e t):PT X e t:=h _
def PA(X:Cx)(es:AE)(t:TA):Prop:=
 ∀(pos:Pos)(p9:AC)(s:AI)(Y:St)(H:Hp)(Q:AR->Hp->Prop),Inv X p9 Y H s->t Y H Q->↥X (spliced (backTo pos (starEach es X.env))) (AP X p9 Y Q) X.xe s
def PS(X:Cx)(st:Stmt)(t:TS):Prop:=
 ∀(p9:AC)(s:AI)(Y:St)(H:Hp)(D:Ends),Inv X p9 Y H s->t D Y H->↥X (exec st X.env) (SP X p9 D) X.xe s
def PSs(X:Cx)(st:AF)(t:TS):Prop:=
 ∀(p9:AC)(s:AI)(Y:St)(H:Hp)(D:Ends),Inv X p9 Y H s->t D Y H->↥X (execs st X.env) (SP X p9 D) X.xe s
def thn{α:Type}{t:Sem α}{Q Q':α->AI->Prop}{M:Model}{A:AM}{E:AG}{s:AI}(h:wpAny M A t Q E s)(hQ:∀a s,Q a s->Q' a s):wpAny M A t Q' E s:=dc h hQ λ_ _ x=>x
section
variable {X:Cx}
theorem bin{a b:AO}{ta tb:TE}(ha:PE X a ta)(hb:PE X b tb){p9:AC}{s:AI}{Y:St}{H:Hp}{R:V->V->Hp->Prop}(I:Inv X p9 Y H s)(h:ta Y H λx H1=>tb Y H1 λy H2=>R x y H2)
  {α:Type} {Q:α->AI->Prop} {f:AN->AN->Sem α}
  (hf:∀v u s2 x y H2,Inv X p9 Y H2 s2->RelV x v->RelV y u->R x y H2->↥X (f v u) Q X.xe s2):
  ↥X (eval a X.env) (λv s₁=>↥X (eval b X.env) (λu s₂=>↥X (f v u) Q X.xe s₂) X.xe s₁) X.xe s:=by
 refine thn (ha p9 s Y H _ I h) λv s1 ⟨x,H1,I1,r1,q1⟩=>?_;refine thn (hb p9 s1 Y H1 _ I1 q1) λu s2 ⟨y,H2,I2,r2,q2⟩=>?_;exact hf v u s2 x y H2 I2 r1 r2 q2
def Ah(i:Nat):TE:=λY H Q=>∃v,Y[i]?=some (some v)/\Q v H
def tC(v:V):TE:=λ_ H Q=>Q v H
theorem Ai {i:Nat} {x:Str} {pos:Pos} (hN:X.N[i]?=some x) (hv:Vis X.env.scope x) (hd:(x==("__debug__":Str))=false:=by decide) (hcd:(x==("__classdict__":Str))=false:=by decide):PE X (.Name x pos) (Ah i):=by
 intro p9 s Y H Q I h;obtain ⟨v,e,h⟩:=h;obtain ⟨m,hn,hl⟩:=I.loc;obtain ⟨u,r,l⟩:=hl i x v hN e hv;have fin:EP X p9 Y Q u s:=⟨v,H,I,r,h⟩;rcases l with ⟨hk,hm⟩ |⟨hk,c,hc,hcell⟩
 .exact wpAny_Name (wpAny_loadName_local I.ok.kind hk hn hm fin) hd
 .rcases hk with hk |hk
  .exact wpAny_Name (wpAny_loadName_cell I.ok.kind hk hc hcell fin) hd
  .exact wpAny_Name (wpAny_loadName_free I.ok.kind hk hc hcell fin hcd) hd
theorem Pq{i j pos}:PE X (.Constant (.int i) j pos) (tC (.int i)):=λ_ _ _ H _ I h=>wpAny_Constant_int ⟨.int i,H,I.tok _,⟨_,rfl⟩,h⟩
theorem Pr{b j pos}:PE X (.Constant (.bool b) j pos) (tC (.bl b)):=λ_ _ _ H _ I h=>Constant_bool ⟨.bl b,H,I,rfl,h⟩
theorem Pu{j pos}:PE X (.Constant .none j pos) (tC .non):=λ_ _ _ H _ I h=>Constant_none ⟨.non,H,I,rfl,h⟩
theorem Px{x j pos}:PE X (.Constant (.str x) j pos) (tC (.str x)):=λ_ _ _ H _ I h=>Calls.Constant_str ⟨.str x,H,I.tok _,⟨_,rfl⟩,h⟩
def Gl(X:Cx)(x:Str):Prop:=X.env.kindOf x=some .globalImplicit
theorem Aj{E:AG}{p9:AC}{s:AI}{Y:St}{H:Hp}{x:Str}{u:AN}{pos:Pos}{Q:AG}(I:Inv X p9 Y H s)(hg:Gl X x)(hm:X.mg x=some u)(h:Q u s)
  (hd:(x==("__debug__":Str))=false:=by decide):↥X (eval (.Name x pos) X.env) Q E s:=
 Calls.Name_function_global I.ok.kind hg (Calls.loadGlobal_global (by rw[I.ok.glob];exact I.mod.glob.keeps I.bk) hm h) hd
theorem gU{E:AG}{p9:AC}{s:AI}{Y:St}{H:Hp}{x:Str}{u:AN}{pos:Pos}{Q:AG}(I:Inv X p9 Y H s)(hg:Gl X x)(hm:X.mg x=none)(hv:bootBuiltins x=some u)(h:Q u s)
  (hn:x≠"__name__":=by decide) (hd:(x==("__debug__":Str))=false:=by decide):↥X (eval (.Name x pos) X.env) Q E s:=by
 obtain ⟨mb,h1,h2⟩:=I.mod.blt;exact Calls.Name_function_global I.ok.kind hg (Calls.loadGlobal_builtin (by rw[I.ok.glob];exact I.mod.glob.keeps I.bk) hm (by rw[I.ok.blt];exact h1.keeps I.bk) ((h2 x hn).trans hv) h) hd
theorem Py {x:Str} {v:V} {u:AN} {pos:Pos} (hg:Gl X x) (hm:X.mg x=some u) (r:RelV v u) (hd:(x==("__debug__":Str))=false:=by decide):PE X (.Name x pos) (tC v):=
 λ_ _ _ H _ I h=>Aj I hg hm ⟨v,H,I,r,h⟩ hd
theorem Pz {x:Str} {v:V} {u:AN} {pos:Pos} (hg:Gl X x) (hm:X.mg x=none) (hv:bootBuiltins x=some u) (r:RelV v u) (hn:x≠"__name__":=by decide) (hd:(x==("__debug__":Str))=false:=by decide):PE X (.Name x pos) (tC v):=
 λ_ _ _ H _ I h=>gU I hg hm hv ⟨v,H,I,r,h⟩ hn hd
variable {a b:AO} {ta tb:TE} {pos:Pos}
variable {tA tB':TT} {rest:AE}
def PJ(t u:TT):TT:=λY H Q=>t Y H λc H1=>if c=true then u Y H1 Q else Q false H1
def tOr(t u:TT):TT:=λY H Q=>t Y H λc H1=>if c=true then Q true H1 else u Y H1 Q
def PK(t:TT):TT:=λY H Q=>t Y H λc H1=>Q (!c) H1
theorem PL(ha:PT X a tA):PW X (.BoolOp .And [a] pos) tA:=by
 intro wh p9 s Y H Q I h;refine isTrue_and (thn (ha p9 s Y H Q I h) λc s1 e=>?_);cases c with
 |true=>exact isTrue_and_nil e
 |false=>exact e
theorem PN(ha:PT X a tA):PW X (.BoolOp .Or [a] pos) tA:=by
 intro wh p9 s Y H Q I h;refine isTrue_or (thn (ha p9 s Y H Q I h) λc s1 e=>?_);cases c with
 |false=>exact isTrue_or_nil e
 |true=>exact e
theorem PP(ha:PT X a tA)(hb:PW X (.BoolOp .And (b::rest) pos) tB'):PW X (.BoolOp .And (a::b::rest) pos) (PJ tA tB'):=by
 intro wh p9 s Y H Q I h;refine isTrue_and (thn (ha p9 s Y H _ I h) λc s1 ⟨H1,I1,q1⟩=>?_);cases c with
 |true=>exact hb wh p9 s1 Y H1 Q I1 q1
 |false=>exact ⟨H1,I1,q1⟩
theorem PQ(ha:PT X a tA)(hb:PW X (.BoolOp .Or (b::rest) pos) tB'):PW X (.BoolOp .Or (a::b::rest) pos) (tOr tA tB'):=by
 intro wh p9 s Y H Q I h;refine isTrue_or (thn (ha p9 s Y H _ I h) λc s1 ⟨H1,I1,q1⟩=>?_);cases c with
 |true=>exact ⟨H1,I1,q1⟩
 |false=>exact hb wh p9 s1 Y H1 Q I1 q1
theorem P0(ha:PT X a tA):PT X (.UnaryOp .Not a pos) (PK tA):=by intro p9 s Y H Q I h;exact isTrue_not (ha p9 s Y H (λc H1=>Q (!c) H1) I h)
def Qa(ta tb:TE):TE:=λY H Q=>ta Y H λx H1=>∃c,x=.bl c/\if c=true then tb Y H1 Q else Q (.bl false) H1
def Qc(ta tb:TE):TE:=λY H Q=>ta Y H λx H1=>∃c,x=.bl c/\if c=true then Q (.bl true) H1 else tb Y H1 Q
theorem Qd{op}{t:TE}(h:PE X a t):PE X (.BoolOp op [a] pos) t:=λp9 s Y H Q I hw=>BoolOp_one (h p9 s Y H Q I hw)
theorem Qe(ha:PE X a ta)(hb:PE X (.BoolOp .And (b::rest) pos) tb):PE X (.BoolOp .And (a::b::rest) pos) (Qa ta tb):=by
 intro p9 s Y H Q I h;refine BoolOp_and (thn (ha p9 s Y H _ I h) λv s1 ⟨x,H1,I1,r1,q1⟩=>?_);obtain ⟨c,rfl,q1⟩:=q1;cases r1;refine eK ?_;cases c with
 |true=>exact hb p9 s1 Y H1 Q I1 q1
 |false=>exact ⟨.bl false,H1,I1,rfl,q1⟩
theorem Qf(ha:PE X a ta)(hb:PE X (.BoolOp .Or (b::rest) pos) tb):PE X (.BoolOp .Or (a::b::rest) pos) (Qc ta tb):=by
 intro p9 s Y H Q I h;refine BoolOp_or (thn (ha p9 s Y H _ I h) λv s1 ⟨x,H1,I1,r1,q1⟩=>?_);obtain ⟨c,rfl,q1⟩:=q1;cases r1;refine eK ?_;cases c with
 |false=>exact hb p9 s1 Y H1 Q I1 q1
 |true=>exact ⟨.bl true,H1,I1,rfl,q1⟩
def tIf(t:TT)(ta tb:TE):TE:=λY H Q=>t Y H λc H1=>if c=true then ta Y H1 Q else tb Y H1 Q
theorem Qg{c:AO}(hc:PT X c tA)(ha:PE X a ta)(hb:PE X b tb):PE X (.IfExp c a b pos) (tIf tA ta tb):=by
 intro p9 s Y H Q I h;refine wpAny_IfExp (thn (hc p9 s Y H _ I h) λd s1 ⟨H1,I1,q1⟩=>?_);cases d with
 |true=>exact ha p9 s1 Y H1 Q I1 q1
 |false=>exact hb p9 s1 Y H1 Q I1 q1
end
def SqL(K:PF)(H:Hp)(a:AQ)(xs:AR):Prop:=
 Rd H a (.lst xs)\/
  ∃(o:Obj) (its:Array AN) (n:Nat),K.lookup a=some o/\o.cls=.type "list"/\o.dict=none/\o.data=.seq its n/\its.size<=sizeLine/\Vals xs its.toList
def SqT(K:PF)(H:Hp)(a:AQ)(xs:AR):Prop:=
 Rd H a (.tup xs)\/
  ∃(o:Obj) (its:Array AN) (n:Nat),K.lookup a=some o/\o.cls=.type "tuple"/\o.data=.seq its n/\its.size<=sizeLine/\Vals xs its.toList
def Qh:AN->Option V
 |.none=>some .non
 |.bool b=>some (.bl b)
 |.int i _=>some (.int i)
 |.str x _=>some (.str x)
 |.bytes b _=>some (.byt b)
 |.float b _=>some (.flt b)
 |.ref a=>some (.ref a)
 |.type n=>some (.ty n)
 |_=>none
def RelV.abs{x:V}{u:AN}(r:RelV x u):Qh u=some x:=by
 cases x with
 |non=>cases r;rfl
 |bl _=>cases r;rfl
 |int _=>obtain ⟨t,rfl⟩:=r;rfl
 |str _=>obtain ⟨t,rfl⟩:=r;rfl
 |byt _=>obtain ⟨t,rfl⟩:=r;rfl
 |flt _=>obtain ⟨t,rfl⟩:=r;rfl
 |ref _=>cases r;rfl
 |ty _=>cases r;rfl
def RelV.inj{x y:V}{u:AN}(r:RelV x u)(q:RelV y u):x=y:=eI (r.abs.symm.trans q.abs)
def Vals.inj:∀{xs ys:AR}{us:AB},Vals xs us->Vals ys us->xs=ys
 |_,_,_,.nil,.nil=>rfl
 |_,_,_,.cons r t,.cons r' t'=>by rw[r.inj r',Vals.inj t t']
section
variable {X:Cx} {p9:AC} {σ:St} {H:Hp} {s:AI} {a:AQ} {xs ys:AR}
theorem SqL.of{K:PF}(h:H a=some (.lst xs)):SqL K H a xs:=.inl (.inl h)
theorem SqT.of{K:PF}(h:H a=some (.tup xs)):SqT K H a xs:=.inl (.inl h)
theorem Inv.list(I:Inv X p9 σ H s)(h:SqL X.K H a xs):∃its:AB,Vals xs its/\PlainL s.heap a its.toArray/\xs.length<=sizeLine:=by
 rcases h with h |⟨o,its,n,hk,hc,hd,hs,hz,r⟩
 .obtain ⟨z,its,n,r,e⟩:=h.ok I.hok;exact ⟨its,r,⟨_,n,e,rfl,rfl,rfl⟩,z⟩
 .refine ⟨its.toList,r,⟨o,n,I.kIn a o hk,hc,hd,!!hs⟩,?_⟩;have e:=r.length;simp only[cq]at e;omega
theorem Inv.tuple(I:Inv X p9 σ H s)(h:SqT X.K H a xs):∃its:AB,Vals xs its/\IsTup s.heap a its.toArray/\xs.length<=sizeLine:=by
 rcases h with h |⟨o,its,n,hk,hc,hs,hz,r⟩
 .obtain ⟨z,its,r,p⟩:=h.ok I.hok;exact ⟨its,r,p.tup,z⟩
 .refine ⟨its.toList,r,⟨o,I.kIn a o hk,hc,n,!!hs⟩,?_⟩;have e:=r.length;simp only[cq]at e;omega
theorem Inv.list_inj(I:Inv X p9 σ H s)(h:SqL X.K H a xs)(h':SqL X.K H a ys):xs=ys:=by
 obtain ⟨its,r,⟨o,n,e,_,_,d⟩,_⟩:=I.list h;obtain ⟨its',r',⟨o',n',e',_,_,d'⟩,_⟩:=I.list h';rw[e]at e';cases e';rw[d]at d';injection d' with d1 _;have:its=its':=by simpa using eT Array.toList d1
 subst this;exact r.inj r'
theorem Inv.tuple_inj(I:Inv X p9 σ H s)(h:SqT X.K H a xs)(h':SqT X.K H a ys):xs=ys:=by
 obtain ⟨its,r,⟨o,e,_,n,d⟩,_⟩:=I.tuple h;obtain ⟨its',r',⟨o',e',_,n',d'⟩,_⟩:=I.tuple h';rw[e]at e';cases e';rw[d]at d';injection d' with d1 _;have:its=its':=by simpa using eT Array.toList d1
 subst this;exact r.inj r'
end
abbrev Cx.wish(X:Cx)(E:AG):Cx:={ X with xe:=E }
abbrev Cx.nox(X:Cx):Cx:=X.wish λ_ _=>False
def Cx.Ok.wish{X:Cx}(ok:X.Ok)(E:AG):(X.wish E).Ok:=
 ⟨ok.mod,ok.kind,ok.glob,ok.blt,ok.above,ok.inj,ok.has,ok.cab,ok.hd,ok.frames,ok.stk,ok.exf,ok.bs,ok.bsz,ok.noex,ok.exfs,ok.funs,ok.frf⟩
def Cx.Ok.unwish{X:Cx}{E:AG}(ok:(X.wish E).Ok):X.Ok:=
 ⟨ok.mod,ok.kind,ok.glob,ok.blt,ok.above,ok.inj,ok.has,ok.cab,ok.hd,ok.frames,ok.stk,ok.exf,ok.bs,ok.bsz,ok.noex,ok.exfs,ok.funs,ok.frf⟩
section
variable {X:Cx} {p9:AC} {σ:St} {H:Hp} {s:AI} {E:AG}
theorem Inv.wish(I:Inv X p9 σ H s)(E:AG):Inv (X.wish E) p9 σ H s:=⟨I.ok.wish E,I.os,I.bare,I.base,I.loc,I.cell,I.free,I.freeC,I.pin,I.hok,I.len⟩
theorem Inv.unwish(I:Inv (X.wish E) p9 σ H s):Inv X p9 σ H s:=⟨I.ok.unwish,I.os,I.bare,I.base,I.loc,I.cell,I.free,I.freeC,I.pin,I.hok,I.len⟩
theorem SP.unwish{D:Ends}{f:Flow}{s':AI}(h:SP (X.wish E) p9 D f s'):SP X p9 D f s':=by
 cases f with
 |next=>obtain ⟨σ',H',I,q⟩:=h;exact ⟨σ',H',I.unwish,q⟩
 |brk=>obtain ⟨σ',H',I,q⟩:=h;exact ⟨σ',H',I.unwish,q⟩
 |cont=>obtain ⟨σ',H',I,q⟩:=h;exact ⟨σ',H',I.unwish,q⟩
 |ret u=>obtain ⟨v,σ',H',I,r,q⟩:=h;exact ⟨v,σ',H',I.unwish,r,q⟩
theorem PSs.nox{st:AF}{t:TS}(h:PSs X.nox st t):PSs X st t:=λp9 s σ H D I hw=>
 dc (h p9 s σ H D (I.wish _) hw) (λ_ _ q=>q.unwish) λ_ _ z=>False.elim z
end
section
variable {X:Cx} {st:Stmt} {rest:AF} {t u:TS} {e:AO} {te:TE} {pos:Pos}
def Ak:TS:=λD Y H=>D.nx Y H
def Qi(t u:TS):TS:=λD Y H=>t { D with nx:=u D } Y H
theorem Qj:PSs X [] Ak:=λ_ _ Y H _ I h=>wpAny_execs_nil ⟨Y,H,I,h⟩
theorem Qk(h1:PS X st t)(h2:PSs X rest u):PSs X (st::rest) (Qi t u):=by
 intro p9 s Y H D I h;refine wpAny_execs_cons (thn (h1 p9 s Y H { D with nx:=u D } I h) λf s1 q=>?_);cases f with
 |next=>
  obtain ⟨σ',H',I',q⟩:=q;exact h2 p9 s1 σ' H' D I' q
 |ret v=>exact q
 |brk=>exact q
 |cont=>exact q
def Ql:TS:=λD Y H=>D.bk Y H
def Qm:TS:=λD Y H=>D.ct Y H
theorem Qn:PS X (.Pass pos) Ak:=λ_ _ Y H _ I h=>wpAny_Pass ⟨Y,H,I,h⟩
theorem Qo:PS X (.Break pos) Ql:=λ_ _ Y H _ I h=>wpAny_Break ⟨Y,H,I,h⟩
theorem Qp:PS X (.Continue pos) Qm:=λ_ _ Y H _ I h=>wpAny_Continue ⟨Y,H,I,h⟩
theorem Inv.quiet{p9:AC}{Y:St}{H:Hp}{s:AI}(I:Inv X p9 Y H s):interactive X.env=false:=by simp[interactive,I.ok.kind]
def Qq(te:TE):TS:=λD Y H=>te Y H λ_ H1=>D.nx Y H1
theorem Qs(he:PE X e te)(hs:swapsWith e none pos.line X.env=pure false:=by rfl):PS X (.Expr e pos) (Qq te):=by intro p9 s Y H D I h;exact wpAny_Expr_any (thn (he p9 s Y H _ I h) λv s1 ⟨x,H1,I1,r1,q1⟩=>⟨Y,H1,I1,q1⟩) I.quiet hs
def Al(te:TE):TS:=λD Y H=>te Y H D.rt
theorem Qt(he:PE X e te):PS X (.Return (some e) pos) (Al te):=by intro p9 s Y H D I h;exact wpAny_Return_some (thn (he p9 s Y H _ I h) λv s1 ⟨x,H1,I1,r1,q1⟩=>⟨x,Y,H1,I1,r1,q1⟩)
def Qu:TS:=λD _ H=>D.rt .non H
theorem Qv:PS X (.Return none pos) Qu:=λ_ _ Y H _ I h=>wpAny_Return_none ⟨.non,Y,H,I,rfl,h⟩
def Qw(c:TT)(t u:TS):TS:=λD Y H=>c Y H λb H1=>if b=true then t D Y H1 else u D Y H1
theorem Qx{c:AO}{a b:AF}{tc:TT}(hc:PT X c tc)(ha:PSs X a t)(hb:PSs X b u):PS X (.If c a b pos) (Qw tc t u):=by
 intro p9 s Y H D I h;refine wpAny_If (thn (hc p9 s Y H _ I h) λd s1 ⟨H1,I1,q1⟩=>?_);cases d with
 |true=>exact ha p9 s1 Y H1 D I1 q1
 |false=>exact hb p9 s1 Y H1 D I1 q1
def Qy:TS:=λ_ _ _=>False
theorem Qz:PS X st Qy:=λ_ _ _ _ _ _ h=>h.elim
end
abbrev TG:=V->St->Hp->(St->Hp->Prop)->Prop
abbrev TGs:=AR->St->Hp->(St->Hp->Prop)->Prop
def PG(X:Cx)(target:AO)(t:TG):Prop:=
 ∀(p9:AC)(s:AI)(Y:St)(H:Hp)(v:V)(u:AN)(Q:St->Hp->Prop),Inv X p9 Y H s->RelV v u->t v Y H Q->
  ↥X (assign target X.env u) (λ_ s'=>∃σ' H',Inv X p9 σ' H' s'/\Q σ' H') X.xe s
def PGs(X:Cx)(ts:AE)(t:TGs):Prop:=
 ∀(p9:AC)(s:AI)(Y:St)(H:Hp)(vs:AR)(us:AB)(Q:St->Hp->Prop),Inv X p9 Y H s->Vals vs us->t vs Y H Q->
  ↥X (assignInOrder ((assignEach ts X.env).map (·.2)) us) (λ_ s'=>∃σ' H',Inv X p9 σ' H' s'/\Q σ' H') X.xe s
abbrev uO:=V->V->V->Hp->(Hp->Prop)->Prop
def uP(X:Cx)(t:uO):Prop:=
 ∀(p9:AC)(s:AI)(Y:St)(H:Hp)(o i v:V)(ov iv u:AN)(Q:Hp->Prop),Inv X p9 Y H s->RelV o ov->RelV i iv->RelV v u->t o i v H Q->
  ↥X (setItem ov iv u) (λ_ s'=>∃H',Inv X p9 Y H' s'/\Q H') X.xe s
abbrev TIp:=V->V->Hp->VK->Prop
def PIp(X:Cx)(op:Operator)(t:TIp):Prop:=
 ∀(p9:AC)(s:AI)(Y:St)(H:Hp)(x y:V)(v u:AN)(Q:VK),Inv X p9 Y H s->RelV x v->RelV y u->t x y H Q->
  ↥X (inplaceOp op v u) (EP X p9 Y Q) X.xe s
section
variable {X:Cx} {pos:Pos}
def jg(i:Nat):TG:=λv Y H Q=>Q (Y.set i (some v)) H
theorem QB{i:Nat}{x:Str}(hN:X.N.Nodup)(hi:X.N[i]?=some x)(hx:Loc X.env.scope x)(hf:X.fn x=true\/X.env.scope.names.lookup x=some .local:=by first |exact .inl rfl |exact .inr rfl |assumption):PG X (.Name x pos) (jg i):=by intro p9 s Y H v u Q I r h;exact hX (jf I hN hi hx r (λs' I'=>⟨_,H,I',h⟩) hf)
def QC:TGs:=λvs Y H Q=>vs=[]/\Q Y H
def QD(t:TG)(u:TGs):TGs:=λvs Y H Q=>∃v r,vs=v::r/\t v Y H λσ' H'=>u r σ' H' Q
theorem QF:PGs X [] QC:=by intro p9 s Y H vs us Q I r h;obtain ⟨e,h⟩:=h;subst e;cases r;exact assignInOrder_nil ⟨Y,H,I,h⟩
theorem QG{e:AO}{es:AE}{t:TG}{u:TGs}(h1:PG X e t)(h2:PGs X es u)
  (hs:(assignEach (e::es) X.env).map (·.2)=assign e X.env::(assignEach es X.env).map (·.2):=by rfl):PGs X (e::es) (QD t u):=by
 intro p9 s Y H vs us Q I r h;obtain ⟨v,vr,e1,h⟩:=h;subst e1;cases r with
 |cons r rr=>
  rw[hs];refine assignInOrder_cons (thn (h1 p9 s Y H _ _ _ I r h) λ_ s1 ⟨σ1,H1,I1,q1⟩=>?_);exact h2 p9 s1 σ1 H1 _ _ Q I1 rr q1
def QH(K:PF)(n:Nat)(t:TGs):TG:=λv Y H Q=>∃a xs,v=.ref a/\SqT K H a xs/\xs.length=n/\t xs Y H Q
theorem QJ{es:AE}{k:Nat}{t:TGs}{n:Nat}(hc:X.calm=true)(h:PGs X es t)
  (hn:(assignEach es X.env).length=n:=by rfl) (hst:(assignEach es X.env).findIdx? (·.1)=none:=by rfl):PG X (.Tuple es k pos) (QH X.K n t):=by
 intro p9 s Y H v u Q I r hw;obtain ⟨a,xs,e1,hq,hl,hw⟩:=hw;subst e1;cases r;obtain ⟨its,rv,ht,hz⟩:=I.tuple hq;refine assign_Tuple_tuple (I.ok.hd hc) ht (by simp[hn,<-hl,rv.length]) hst λh' hx=>?_;have I1:Inv X p9 Y H { s with heap:=h' }:=I.kept (t':=s.toks) λb o e=>hx b o (b3 (ay e)) e;exact h p9 _ Y H xs _ Q I1 (!!rv) hw
def QK(to ti:TE)(t:uO):TG:=λv Y H Q=>to Y H λo H1=>ti Y H1 λi H2=>t o i v H2 λH3=>Q Y H3
theorem QL{o i:AO}{to ti:TE}{t:uO}(ho:PE X o to)(hi:PE X i ti)(hs:uP X t)
  (ha:∀v,assign (.Subscript o i pos) X.env v=(do
   let ov <-holding [v] (eval o X.env)
   let iv <-holding [v,ov] (eval i X.env)
   standAt pos
   holding [v,ov,iv] (setItem ov iv v)
   release [v,ov,iv] []):=by intro _;rfl):PG X (.Subscript o i pos) (QK to ti t):=by
 intro p9 s Y H v u Q I r h;rw[ha];refine ab (dE (thn (ho p9 s Y H _ I h) λov s1 ⟨x,H1,I1,r1,q1⟩=>?_));refine ab (dE (thn (hi p9 s1 Y H1 _ I1 q1) λiv s2 ⟨y,H2,I2,r2,q2⟩=>?_));refine ab (fw (ab (dE (thn (hs p9 s2 Y H2 x y v ov iv u _ I2 r1 r2 r q2) λ_ s3 ⟨H3,I3,q3⟩=>?_))));exact wpAny_release ⟨Y,H3,I3,q3⟩
def jh(te:TE)(g:TG):TS:=λD Y H=>te Y H λx H1=>g x Y H1 D.nx
theorem Am{tg e:AO}{te:TE}{g:TG}(he:PE X e te)(hg:PG X tg g)(hs:swapsWithSole [tg] e pos.line X.env=pure false:=by rfl)(hw:swappedStores [tg] e X.env=pure none:=by rfl)
  (h1:(assignEach [tg] X.env).map (·.2)=[assign tg X.env]:=by rfl):PS X (.Assign [tg] e pos) (jh te g):=by
 intro p9 s Y H D I h;refine wpAny_Assign_stores (thn (he p9 s Y H _ I h) λv s1 ⟨x,H1,I1,r1,q1⟩=>?_) hs hw;rw[h1];exact thn (hg p9 s1 Y H1 x v _ I1 r1 q1) λ_ s2 q=>q
theorem qD{i:Nat}{x:Str}{e:AO}{te:TE}{pos':Pos}(hN:X.N.Nodup)(hi:X.N[i]?=some x)(hx:Loc X.env.scope x)(he:PE X e te)(hs:swapsWith e (some (.Name x pos')) pos.line X.env=pure false:=by rfl)(hf:X.fn x=true\/X.env.scope.names.lookup x=some .local:=by first |exact .inl rfl |exact .inr rfl |assumption):
  PS X (.Assign [.Name x pos'] e pos) (jh te (jg i)):=by
 intro p9 s Y H D I h;refine wpAny_Assign_Name (thn (he p9 s Y H _ I h) λv s1 ⟨y,H1,I1,r1,q1⟩=>?_) hs;exact jf I1 hN hi hx r1 (λs2 I2=>⟨_,H1,I2,q1⟩) hf
def QM(i:Nat)(te:TE)(ti:TIp):TS:=λD Y H=>∃x,Y[i]?=some (some x)/\te Y H λy H1=>ti x y H1 λz H2=>D.nx (Y.set i (some z)) H2
theorem QQ{i:Nat}{x:Str}{e:AO}{te:TE}{op:Operator}{ti:TIp}{pos':Pos}(hN:X.N.Nodup)(hi:X.N[i]?=some x)(hx:Loc X.env.scope x)(he:PE X e te)(ho:PIp X op ti)(hf:X.fn x=true\/X.env.scope.names.lookup x=some .local:=by first |exact .inl rfl |exact .inr rfl |assumption):
  PS X (.AugAssign (.Name x pos') op e pos) (QM i te ti):=by
 intro p9 s Y H D I h;obtain ⟨v,e1,h⟩:=h;obtain ⟨m,hn,hl⟩:=I.loc;have vis:Vis X.env.scope x:=by rcases hx with k |k;exact .inl k;exact .inr (.inl k)
 obtain ⟨u,r,l⟩:=hl i x v hi e1 vis;refine wpAny_AugAssign_Name ?_;have go:↥X (eval e X.env) (λw s₂=>↥X (inplaceOp op u w) (λr s₃=>↥X (storeName X.env x r) (λ_=>SP X p9 D .next) X.xe s₃) X.xe s₂) X.xe s:=by refine thn (he p9 s Y H _ I h) λw s1 ⟨y,H1,I1,r1,q1⟩=>?_;refine thn (ho p9 s1 Y H1 v y u w _ I1 r r1 q1) λz s2 ⟨zv,H2,I2,r2,q2⟩=>?_;exact jf I2 hN hi hx r2 (λs3 I3=>⟨_,H2,I3,q2⟩) hf
 rcases l with ⟨hk,hm⟩ |⟨hk,c,hc,hcell⟩
 .exact wpAny_loadName_local I.ok.kind hk hn hm go
 .rcases hk with hk |hk
  .exact wpAny_loadName_cell I.ok.kind hk hc hcell go
  .rcases hx with k |k
   .have:X.env.scope.names.lookup x=some .free:=hk;rw[k]at this;cases this
   .have:X.env.scope.names.lookup x=some .free:=hk;rw[k]at this;cases this
end
section
variable {X:Cx} {pos:Pos}
def QR(c:TT)(tb:TS):TS:=λD Y H=>∃W:Nat->St->Hp->Prop,(∃m,W m Y H)/\∀m Y H,W m Y H->
 c Y H λb H1=>if b=true then ∃N:St->Hp->Prop,(∀σ' H',N σ' H'->∃m',m' < m/\W m' σ' H')/\tb { D with nx:=N,ct:=N,bk:=D.nx } Y H1 else D.nx Y H1
theorem QS{c:AO}{body:AF}{tc:TT}{tb:TS}(hp:PassesOwn (model X.prog X.w) X.A X.env X.xe)(hc:PT X c tc)(hb:PSs X body tb):PS X (.While c body [] pos) (QR tc tb):=by
 intro p9 s Y H D I h;obtain ⟨W,⟨m0,w0⟩,turn⟩:=h;refine wpAny_While (codeAny_whileLoop (λn s'=>∃σ' H',Inv X p9 σ' H' s'/\W n σ' H') ?_ m0 ⟨Y,H,I,w0⟩);rintro n s1 ⟨σ1,H1,I1,w1⟩;refine ga hp (thn (hc p9 s1 σ1 H1 _ I1 (turn n σ1 H1 w1)) λb s2 ⟨H2,I2,q2⟩=>?_);cases b with
 |true=>
  obtain ⟨N,hN,q2⟩:=q2;rw[if_pos rfl];refine ga hp (thn (hb p9 s2 σ1 H2 _ I2 q2) λf s3 q3=>?_);cases f with
  |next=>
   obtain ⟨σ3,H3,I3,n3⟩:=q3;obtain ⟨m',hm,w3⟩:=hN σ3 H3 n3;exact ⟨m',hm,σ3,H3,I3,w3⟩
  |cont=>
   obtain ⟨σ3,H3,I3,n3⟩:=q3;obtain ⟨m',hm,w3⟩:=hN σ3 H3 n3;exact ⟨m',hm,σ3,H3,I3,w3⟩
  |brk=>exact q3
  |ret v=>exact q3
 |false=>
  rw[if_neg br];exact wpAny_execs_nil ⟨σ1,H2,I2,q2⟩
end
structure It where
 go:Nat->Hp->Prop
 yld:Nat->Hp->V->Hp->Prop
 stop:Nat->Hp->Prop
def cM(X:Cx)(p9:AC)(H:Hp)(b:AQ):Prop:=
 H b=none/\b≠X.env.locals/\b∉X.fs/\(b∈X.ex\/X.s₀.heap.objs.size<=b)/\(∀x c,X.env.cells.lookup x=some c->c≠b)/\∀p∈X.pn++p9,p.1≠b
def Inv.fpOk{X:Cx}{p9:AC}{Y:St}{H H':Hp}{s:AI}{b:AQ}(I:Inv X p9 Y H s)(hb:(~~~s)<=b)(hn:H' b=none):cM X p9 H' b:=by
 refine ⟨hn,gu (bm I.lt hb),I.nofs hb,.inr (ca I.sz hb),λx c e z=>?_,λp hp z=>?_⟩
 .obtain ⟨v,q⟩:=I.cell x c e;exact absurd (bm q.lt (by rw[z];exact hb)) (eS _)
 .exact absurd (bm (ay (I.pin p hp).1) (by rw[z];exact hb)) (eS _)
structure Turn(P:AK)(w:World)(K:PF)(tg:AO)(J:It)(fp:List AQ)(it:AQ)(tn:Nat->Heap->Prop):Prop where
 mem:it∈fp
 obj:∀i h,tn i h->∀b∈fp,∃o,h.get? b=some o/\∀v,o.data≠.cell v
 keep:∀i h h',tn i h->(∀b∈fp,∀o,h.get? b=some o->h'.get? b=some o)->tn i h'
 item:∀(X:Cx),X.prog=P->X.w=w->X.K=K->X.calm=true->∀(i:Nat)(p9:AC)(s:AI)(Y:St)(H:Hp)(E:AG),Inv X p9 Y H s->(∀b∈fp,cM X p9 H b)->tn i s.heap->J.go i H->
  wpAny (model P w) X.A (pyNext (.ref it)) (λr s1=>∃u,r=some u/\
   wpAny (model P w) X.A (letOwnedTupleGo tg (.ref it) u) (λ_ s2=>∃x H',Inv X p9 Y H' s2/\RelV x u/\J.yld i H x H'/\tn (i+1) s2.heap/\∀b∈fp,H' b=none) E s1) E s
 done:∀(X:Cx),X.prog=P->X.w=w->X.K=K->X.calm=true->∀(i:Nat)(p9:AC)(s:AI)(Y:St)(H:Hp)(E:AG),Inv X p9 Y H s->(∀b∈fp,cM X p9 H b)->tn i s.heap->J.stop i H->
  wpAny (model P w) X.A (pyNext (.ref it)) (λr s1=>r=none/\Inv X p9 Y H s1) E s
 self:∀(A:AM)(i:Nat)(s:AI)(Q:AG)(E:AG),tn i s.heap->Q (.ref it) s->wpAny (model P w) A (pyIter (.ref it)) Q E s
abbrev TI:=St->Hp->(It->Hp->Prop)->Prop
def PIE(X:Cx)(p9:AC)(Y:St)(tg:AO)(R:It->Hp->Prop)(itv:AN)(s2:AI):Prop:=
 ∃(it:AQ)(fp:List AQ)(tn:Nat->Heap->Prop)(J:It)(H':Hp),itv=.ref it/\Inv X p9 Y H' s2/\Turn X.prog X.w X.K tg J fp it tn/\tn 0 s2.heap/\(∀b∈fp,cM X p9 H' b)/\R J H'
def PI(X:Cx)(tg iter:AO)(wi:TI):Prop:=
 ∀(p9:AC)(s:AI)(Y:St)(H:Hp)(R:It->Hp->Prop),Inv X p9 Y H s->wi Y H R->
  ↥X (eval iter X.env) (λv s1=>↥X (pyIter v) (PIE X p9 Y tg R) X.xe s1) X.xe s
def qF{M:Model}{A:AM}{E:AG}{s:AI}{tg:AO}{it:AQ}{u:AN}{o:Obj}{n:AL}{vs:Array AN}{Q:Unit->AI->Prop}(ho:s.heap.get? it=some o)(hc:o.cls=.type n)(hd:o.data=.fields vs)
  (hn:["enumerate","zip","dict_itemiterator","dict_reverseitemiterator","odict_iterator","itertools.zip_longest","itertools.pairwise"].contains n=false) (hQ:Q () s):wpAny M A (letOwnedTupleGo tg (.ref it) u) Q E s:=by
 unfold letOwnedTupleGo;cases tg <;> first
  |exact am hQ
  | (cases u <;> first
    |exact am hQ
    | (refine ab (wpAny_load ho ?_)
       rw[hc,hd];show wpAny M A (if (["enumerate","zip","dict_itemiterator","dict_reverseitemiterator","odict_iterator","itertools.zip_longest","itertools.pairwise"].contains n&&vs[0]?==some (rawInt _))=true then _ else _) Q E s;rw[if_neg (by intro h;rw[hn,gV]at h;cases h)];exact am hQ))
def Itl(K:PF)(a:AQ):It:=
 ⟨λi H=>∃xs x,SqL K H a xs/\xs[i]?=some x,λi H x H'=>H'=H/\∀xs,SqL K H a xs->xs[i]?=some x,λi H=>∃xs,SqL K H a xs/\xs.length<=i⟩
def Itt(K:PF)(a:AQ):It:=
 ⟨λi H=>∃xs x,SqT K H a xs/\xs[i]?=some x,λi H x H'=>H'=H/\∀xs,SqT K H a xs->xs[i]?=some x,λi H=>∃xs,SqT K H a xs/\xs.length<=i⟩
def Itr(lo:Int)(n:Nat):It:=⟨λi _=>i < n,λi H x H'=>H'=H/\x=.int (lo+i),λi _=>n<=i⟩
def An{P:AK}{w:World}{K:PF}{tg:AO}(a it:AQ):Turn P w K tg (Itl K a) [it] it (λi h=>h.IsListIter it a i) where
 mem:=by simp
 obj:=λi h st b hb=>by
  have e:b=it:=by simpa using hb
  subst e;obtain ⟨o,e,c,d⟩:=st;exact ⟨o,e,λv z=>by rw[d]at z;cases z⟩
 keep:=λi h h' st k=>st.at λo e=>k it (by simp) o e
 item:=by intro X hP hw hK hc i p9 s Y H E I hf st hg;subst hP hw hK;obtain ⟨xs,x,hq,hx⟩:=hg;obtain ⟨its,rv,p,hz⟩:=I.list hq;obtain ⟨u,hu,ru⟩:=rv.get hx;obtain ⟨f0,f1,f2,f3,f4,f5⟩:=hf it (by simp);refine wpAny_pyNext_list_item st p.isList (x:=u) (!!hu) λh' st' sb=>?_;have I1:Inv X p9 Y H { s with heap:=h' }:=I.turned (t':=s.toks) (λb o hb e=>(sb.2 b hb).trans e) f0 f1 f3 f4 f5;obtain ⟨o,e,c,d⟩:=id st';exact ⟨u,rfl,qF (s:={ s with heap:=h' }) e c d (!1) ⟨x,H,I1,ru,⟨rfl,λys hy=>by rw[I.list_inj hy hq];exact hx⟩,st',λb hb=>(hf b hb).1⟩⟩
 done:=by intro X hP hw hK hc i p9 s Y H E I hf st hg;subst hP hw hK;obtain ⟨xs,hq,hx⟩:=hg;obtain ⟨its,rv,p,hz⟩:=I.list hq;obtain ⟨f0,f1,f2,f3,f4,f5⟩:=hf it (by simp);have hl:=rv.length;exact wpAny_pyNext_list_end (I.ok.hd hc) st p.isList (by simp;omega) λh' eb=>⟨rfl,I.turned (t':=s.toks) (λb o hb e=>eb b o hb e) f0 f1 f3 f4 f5⟩
 self:=λ_ _ _ _ _ st h=>wpAny_pyIter_listiter st h
def Ao{P:AK}{w:World}{K:PF}{tg:AO}(a it:AQ):Turn P w K tg (Itt K a) [it] it (λi h=>h.IsTupleIter it a i) where
 mem:=by simp
 obj:=λi h st b hb=>by
  have e:b=it:=by simpa using hb
  subst e;obtain ⟨o,e,c,d⟩:=st;exact ⟨o,e,λv z=>by rw[d]at z;cases z⟩
 keep:=λi h h' st k=>st.at λo e=>k it (by simp) o e
 item:=by intro X hP hw hK hc i p9 s Y H E I hf st hg;subst hP hw hK;obtain ⟨xs,x,hq,hx⟩:=hg;obtain ⟨its,rv,p,hz⟩:=I.tuple hq;obtain ⟨u,hu,ru⟩:=rv.get hx;obtain ⟨f0,f1,f2,f3,f4,f5⟩:=hf it (by simp);refine wpAny_pyNext_tuple_item st (show s.heap.IsTuple a its.toArray from p) (x:=u) (!!hu) λh' st' sb=>?_;have I1:Inv X p9 Y H { s with heap:=h' }:=I.turned (t':=s.toks) (λb o hb e=>(sb.2 b hb).trans e) f0 f1 f3 f4 f5;obtain ⟨o,e,c,d⟩:=id st';exact ⟨u,rfl,qF (s:={ s with heap:=h' }) e c d (!1) ⟨x,H,I1,ru,⟨rfl,λys hy=>by rw[I.tuple_inj hy hq];exact hx⟩,st',λb hb=>(hf b hb).1⟩⟩
 done:=by intro X hP hw hK hc i p9 s Y H E I hf st hg;subst hP hw hK;obtain ⟨xs,hq,hx⟩:=hg;obtain ⟨its,rv,p,hz⟩:=I.tuple hq;obtain ⟨f0,f1,f2,f3,f4,f5⟩:=hf it (by simp);have hl:=rv.length;exact wpAny_pyNext_tuple_end (I.ok.hd hc) st (show s.heap.IsTuple a its.toArray from p) (by simp;omega) λh' eb=>⟨rfl,I.turned (t':=s.toks) (λb o hb e=>eb b o hb e) f0 f1 f3 f4 f5⟩
 self:=λ_ _ _ _ _ st h=>wpAny_pyIter_tupleiter st h
def QT{P:AK}{w:World}{K:PF}{tg:AO}(it:AQ)(lo:Int)(n:Nat):Turn P w K tg (Itr lo n) [it] it (λi h=>IsRangeIter h it (lo+(i:Nat) * 1) ((n:Int) - (i:Nat)) 1) where
 mem:=by simp
 obj:=λi h st b hb=>by
  have e:b=it:=by simpa using hb
  subst e;exact ⟨_,st,λv z=>by
   have z':Data.fields _=Data.cell v:=z;cases z'⟩
 keep:=λi h h' st k=>k it (by simp) _ st
 item:=by intro X hP hw hK hc i p9 s Y H E I hf st hg;subst hP hw hK;obtain ⟨f0,f1,f2,f3,f4,f5⟩:=hf it (by simp);have W:=Walks.range (prog:=X.prog) (w:=X.w) (I.ok.hd hc) it lo 1 n;refine W.item i s _ _ hg st λv h' tk hv st' kk=>?_;obtain ⟨t,rfl⟩:=hv;have I1:Inv X p9 Y H { s with heap:=h',toks:=tk }:=I.turned (λb o hb e=>kk b o (!!hb) e) f0 f1 f3 f4 f5;refine ⟨_,rfl,qF (s:={ s with heap:=h',toks:=tk }) (n:="range_iterator") st' rfl rfl (!1) ⟨.int (lo+i),H,I1,⟨t,?_⟩,⟨rfl,rfl⟩,st',λb hb=>(hf b hb).1⟩⟩;rw[Int.mul_one]
 done:=by intro X hP hw hK hc i p9 s Y H E I hf st hg;subst hP hw hK;obtain ⟨f0,f1,f2,f3,f4,f5⟩:=hf it (by simp);exact wpAny_pyNext_range_end (I.ok.hd hc) st (by have:n<=i:=hg;omega) λh' eb=>⟨rfl,I.turned (t':=s.toks) (λb o hb e=>eb b o hb e) f0 f1 f3 f4 f5⟩
 self:=λ_ _ _ _ _ st h=>wpAny_pyIter_rangeiter st h
section
variable {X:Cx} {tg:AO}
theorem QV{p9:AC}{Y:St}{H:Hp}{s:AI}{R:It->Hp->Prop}{E:AG}{lo hi:Int}{t u v:Tok}{tk:Nat}(I:Inv X p9 Y H s)(h1:-(2 ^ 62)<=lo)(h2:lo < 2 ^ 62)(h3:-(2 ^ 62)<=hi)(h4:hi < 2 ^ 62)
  (q:R (Itr lo (hi - lo).toNat) H):↥X (pyIter (.ref (~~~s))) (PIE X p9 Y tg R) E { s with heap:=s.heap.push { cls:=.type "range",data:=.fields #[.int lo t,.int hi u,.int 1 v] },toks:=tk }:=by
 refine wpAny_pyIter_range (IsRange.new ..) (small_one h1 h2 h3 h4) ?_;have I1:Inv X p9 Y H { s with heap:=s.heap.push { cls:=.type "range",data:=.fields #[.int lo t,.int hi u,.int 1 v] },toks:=tk }:=I.kept λb o e=>ag _ e;refine ⟨(s.heap.push { cls:=.type "range",data:=.fields #[.int lo t,.int hi u,.int 1 v] }).objs.size,[(s.heap.push { cls:=.type "range",data:=.fields #[.int lo t,.int hi u,.int 1 v] }).objs.size],_,_,H,rfl,
  I1.kept (t':=tk) λb o e=>ag _ e,QT _ lo (hi - lo).toNat,?_,λb hb=>?_,q⟩
 .have e1:lo+((0:Nat):Int) * 1=lo:=by simp
  have e2:(((hi - lo).toNat:Nat):Int) - ((0:Nat):Int)=Builtin.Range.rangeSize lo hi 1:=by rw[rangeSize_one];split <;> omega
  show IsRangeIter _ _ (lo+((0:Nat):Int) * 1) ((((hi - lo).toNat:Nat):Int) - ((0:Nat):Int)) 1;rw[e1,e2];exact aI _ rfl
 .have e:b=(s.heap.push { cls:=.type "range",data:=.fields #[.int lo t,.int hi u,.int 1 v] }).objs.size:=by simpa using hb
  subst e;exact I1.fpOk (ax _) (I1.hok.fresh (ax _))
def QW(ta:TA):TI:=λY H R=>ta Y H λvs H1=>∃j:Int,vs=[.int j]/\-(2 ^ 62)<=j/\j < 2 ^ 62/\R (Itr 0 j.toNat) H1
theorem QX {a:AO} {ta:TA} {p pos:Pos} (hg:Gl X "range") (hm:X.mg "range"=none) (ha:PA X [a] ta) (hs:starEach [a] X.env=[(false,eval a X.env)]:=by rfl):PI X tg (.Call (.Name "range" p) [a] [] pos) (QW ta):=by
 intro p9 s Y H R I h;refine Call_ (gU I hg hm boot_range (e6 (thn (ha pos p9 s Y H _ I h) λus s1 ⟨vs,H1,I1,r1,q1⟩=>?_) hs rfl));obtain ⟨j,e,q1,q2,q⟩:=q1;subst e;cases r1 with
 |cons r rr=>
  cases rr;obtain ⟨t,rfl⟩:=r;exact call_range_1 (QV I1 (!0) (!0) q1 q2 (!!q))
def QZ(wi:TI)(g:TG)(tb:TS):TS:=λD Y H=>wi Y H λJ H1=>∃W:Nat->Nat->St->Hp->Prop,(∃m,W 0 m Y H1)/\∀i m Y H,W i m Y H->
 (J.stop i H/\D.nx Y H)\/(J.go i H/\∃N:St->Hp->Prop,(∀σ' H',N σ' H'->∃m',m' < m/\W (i+1) m' σ' H')/\∀x H',J.yld i H x H'->g x Y H' λσ2 H2=>tb { D with nx:=N,ct:=N,bk:=D.nx } σ2 H2)
def ji(fp:List AQ)(h:Heap):AC:=fp.filterMap λb=>(h.get? b).map λo=>(b,o)
theorem jk{fp:List AQ}{h:Heap}{b:AQ}{o:Obj}(hb:b∈fp)(e:h.get? b=some o):(b,o)∈ji fp h:=List.mem_filterMap.mpr ⟨b,hb,by rw[e];rfl⟩
theorem uQ{fp:List AQ}{h:Heap}{p:AQ×Obj}(hp:p∈ji fp h):p.1∈fp/\h.get? p.1=some p.2:=by
 obtain ⟨b,hb,e⟩:=List.mem_filterMap.mp hp;cases q:h.get? b with
 |none=>rw[q]at e;cases e
 |some o=>
  rw[q]at e;have e':(b,o)=p:=eI e;subst e';exact ⟨hb,q⟩
theorem Inv.pinned{p9:AC}{Y:St}{H:Hp}{s:AI}{fp:List AQ}(I:Inv X p9 Y H s)(hf:∀b∈fp,cM X p9 H b)(ho:∀b∈fp,∃o,s.heap.get? b=some o/\∀v,o.data≠.cell v):Inv X (p9++ji fp s.heap) Y H s:=
 I.pins_of λp hp=>(aT.mp hp).elim (λz=>I.pin p (al _ z)) λz=>by
  obtain ⟨hb,e⟩:=uQ z;obtain ⟨f0,f1,f2,_⟩:=hf p.1 hb;obtain ⟨o,e',d⟩:=ho p.1 hb;rw[e]at e';cases e';exact ⟨e,f0,f1,f2,d⟩
theorem Inv.unpinned{p9 pl:AC}{Y:St}{H:Hp}{s:AI}(I:Inv X (p9++pl) Y H s):Inv X p9 Y H s:=I.pins_of λp hp=>I.pin p (al _ (cf _ hp))
theorem Q0{iter:AO}{body:AF}{wi:TI}{g:TG}{tb:TS}{pos:Pos}(hp:PassesOwn (model X.prog X.w) X.A X.env X.xe)(hc:X.calm=true)(hi:PI X tg iter wi)(hg:PG X tg g)(hb:PSs X body tb)
  (hs:∀x,foldedSetIterable iter X.env x=pure x:=by intro _;rfl):PS X (.For tg iter body [] pos) (QZ wi g tb):=by
 intro p9 s Y H D I h;refine wpAny_For (thn (hi p9 s Y H _ I h) λv s1 h1=>thn h1 λitv s2 h2=>?_) hs;obtain ⟨it,fp,tn,J,H2,e,I2,T,st2,f2,W,⟨m0,w0⟩,turn⟩:=h2;subst e
 -- what stays true of the iterator's objects through the loop
 have stat:∀{H':Hp},(∀b∈fp,H' b=none)->∀b∈fp,cM X p9 H' b:=λhn b hb=>⟨hn b hb,(f2 b hb).2⟩;refine codeAny_forLoop_any (λn s'=>∃i σ' H',Inv X p9 σ' H' s'/\tn i s'.heap/\(∀b∈fp,H' b=none)/\W i n σ' H') ?_ m0 ⟨0,Y,H2,I2,st2,λb hb=>(f2 b hb).1,w0⟩;rintro n s3 ⟨i,σ3,H3,I3,st3,fr3,w3⟩;rcases turn i n σ3 H3 w3 with ⟨stop,qn⟩ |⟨go,N,hN,step⟩
 .refine ga hp (thn (T.done X rfl rfl rfl hc i p9 s3 σ3 H3 X.xe I3 (stat fr3) st3 stop) λr s4 ⟨hr,I4⟩=>?_);subst hr;exact wpAny_execs_nil ⟨σ3,H3,I4,qn⟩
 .refine ga hp (thn (T.item X rfl rfl rfl hc i p9 s3 σ3 H3 X.xe I3 (stat fr3) st3 go) λr s4 ⟨u,hr,h4⟩=>?_);subst hr;refine ga hp (thn h4 λ_ s5 ⟨x,H5,I5,r5,y5,st5,fr5⟩=>?_);have I5':=I5.pinned (stat fr5) (T.obj _ _ st5);refine ga hp (thn (hg _ s5 σ3 H5 x u _ I5' r5 (step x H5 y5)) λ_ s6 ⟨σ6,H6,I6,q6⟩=>?_);refine ga hp (thn (hb _ s6 σ6 H6 _ I6 q6) λf s7 q7=>?_);have again:∀{σ7:St}{H7:Hp},Inv X (p9++ji fp s5.heap) σ7 H7 s7->N σ7 H7->∃m,m < n/\∃i σ' H',Inv X p9 σ' H' s7/\tn i s7.heap/\(∀b∈fp,H' b=none)/\W i m σ' H':=λ{σ7 H7} I7 n7=>by
   obtain ⟨m',hm,w7⟩:=hN σ7 H7 n7;refine ⟨m',hm,i+1,σ7,H7,I7.unpinned,T.keep _ _ _ st5 λb hb o e=>(I7.pin (b,o) (al _ (al _ (jk hb e)))).1,λb hb=>?_,w7⟩;obtain ⟨o,e,d⟩:=T.obj _ _ st5 b hb;exact (I7.pin (b,o) (al _ (al _ (jk hb e)))).2.1
  cases f with
  |next=>obtain ⟨σ7,H7,I7,n7⟩:=q7;exact again I7 n7
  |cont=>obtain ⟨σ7,H7,I7,n7⟩:=q7;exact again I7 n7
  |brk=>obtain ⟨σ7,H7,I7,q7⟩:=q7;exact ⟨σ7,H7,I7.unpinned,q7⟩
  |ret v=>obtain ⟨x7,σ7,H7,I7,r7,q7⟩:=q7;exact ⟨x7,σ7,H7,I7.unpinned,r7,q7⟩
end
abbrev R2:=V->V->Hp->VK->Prop
def OpR(X:Cx)(f:AN->AN->Sem AN)(r:R2):Prop:=
 ∀(p9:AC)(s:AI)(Y:St)(H:Hp)(x y:V)(v u:AN)(Q:VK),Inv X p9 Y H s->RelV x v->RelV y u->r x y H Q->
  ↥X (f v u) (EP X p9 Y Q) X.xe s
def UnR(X:Cx)(f:AN->Sem AN)(r:V->Hp->VK->Prop):Prop:=
 ∀(p9:AC)(s:AI)(Y:St)(H:Hp)(x:V)(v:AN)(Q:VK),Inv X p9 Y H s->RelV x v->r x H Q->
  ↥X (f v) (EP X p9 Y Q) X.xe s
def bh(X:Cx)(f:AN)(r:AR->Hp->VK->Prop):Prop:=
 ∀(p9:AC)(s:AI)(Y:St)(H:Hp)(xs:AR)(us:AB)(Q:VK),Inv X p9 Y H s->Vals xs us->r xs H Q->
  ↥X (call f us) (EP X p9 Y Q) X.xe s
def Q3(X:Cx)(r:V->Hp->(Bool->Hp->Prop)->Prop):Prop:=
 ∀(p9:AC)(s:AI)(Y:St)(H:Hp)(x:V)(v:AN)(Q:Bool->Hp->Prop),Inv X p9 Y H s->RelV x v->r x H Q->
  ↥X (truthy v) (TP X p9 Y Q) X.xe s
def tOp(r:R2)(ta tb:TE):TE:=λY H Q=>ta Y H λx H1=>tb Y H1 λy H2=>r x y H2 Q
def tUn(r:V->Hp->VK->Prop)(ta:TE):TE:=λY H Q=>ta Y H λx H1=>r x H1 Q
def rI(C:Int->Int->Prop)(g:Int->Int->V):R2:=λx y H Q=>∃i j,x=.int i/\y=.int j/\C i j/\Q (g i j) H
def rI0(g:Int->Int->V):R2:=λx y H Q=>∃i j,x=.int i/\y=.int j/\Q (g i j) H
def rU(g:Int->V):V->Hp->VK->Prop:=λx H Q=>∃i,x=.int i/\Q (g i) H
section
variable {X:Cx} {a b c:AO} {ta tb tc:TE} {pos:Pos}
theorem uR(ha:PE X a ta)(hb:PE X b tb){p9:AC}{s:AI}{Y:St}{H:Hp}{R:V->V->Hp->Prop}(I:Inv X p9 Y H s)
  (h:ta Y H λx H1=>tb Y H1 λy H2=>R x y H2) {Q:AG} {f:AN->AN->Sem AN}
  (hf:∀v u s2 x y H2,Inv X p9 Y H2 s2->RelV x v->RelV y u->R x y H2->↥X (f v u) Q X.xe s2):
  ↥X (eval a X.env) (λv s₁=>↥X (eval b X.env) (λu s₂=>↥X (f v u) Q X.xe s₂) X.xe s₁) X.xe s:=by
 refine thn (ha p9 s Y H _ I h) λv s1 ⟨x,H1,I1,r1,q1⟩=>?_;refine thn (hb p9 s1 Y H1 _ I1 q1) λu s2 ⟨y,H2,I2,r2,q2⟩=>?_;exact hf v u s2 x y H2 I2 r1 r2 q2
theorem Q4{op:Operator}{r:R2}(ho:OpR X (binaryOp op) r)(ha:PE X a ta)(hb:PE X b tb):PE X (.BinOp a op b pos) (tOp r ta tb):=by intro p9 s Y H Q I h;exact wpAny_BinOp (uR ha hb I h λv u s2 x y H2 I2 rx ry q=>ho p9 s2 Y H2 x y v u Q I2 rx ry q)
theorem Q5{op:UnaryOp}{r:V->Hp->VK->Prop}(ho:UnR X (unaryOp op) r)(ha:PE X a ta):PE X (.UnaryOp op a pos) (tUn r ta):=by intro p9 s Y H Q I h;exact UnaryOp_ (thn (ha p9 s Y H _ I h) λv s1 ⟨x,H1,I1,r1,q1⟩=>ho p9 s1 Y H1 x v Q I1 r1 q1)
theorem opI{f:AN->AN->Sem AN}{C:Int->Int->Prop}{g:Int->Int->Int}
  (rule:∀(i j:Int)(t u:Tok)(s:AI)(Q:AG)(E:AG),C i j->Q (.int (g i j) s.toks) { s with toks:=s.toks+1 }->↥X (f (.int i t) (.int j u)) Q E s):
  OpR X f (rI C λi j=>.int (g i j)):=by
 intro p9 s Y H x y v u Q I rx ry h;obtain ⟨i,j,rfl,rfl,hc,q⟩:=h;obtain ⟨t,rfl⟩:=rx;obtain ⟨t',rfl⟩:=ry;exact rule i j t t' s _ _ hc ⟨.int (g i j),H,I.tok _,⟨_,rfl⟩,q⟩
theorem qG{f:AN->AN->Sem AN}{g:Int->Int->Int}
  (rule:∀(i j:Int)(t u:Tok)(s:AI)(Q:AG)(E:AG),Q (.int (g i j) s.toks) { s with toks:=s.toks+1 }->↥X (f (.int i t) (.int j u)) Q E s):
  OpR X f (rI0 λi j=>.int (g i j)):=by
 intro p9 s Y H x y v u Q I rx ry h;obtain ⟨i,j,rfl,rfl,q⟩:=h;obtain ⟨t,rfl⟩:=rx;obtain ⟨t',rfl⟩:=ry;exact rule i j t t' s _ _ ⟨.int (g i j),H,I.tok _,⟨_,rfl⟩,q⟩
def qH(i j:Int):Prop:=0<=j/\j<=1000000/\i.natAbs < 2 ^ 64
def CMul(i j:Int):Prop:=(-(2 ^ 64) < i/\i < 2 ^ 64)\/(-(2 ^ 64) < j/\j < 2 ^ 64)
theorem CMul.ok{i j:Int}(h:CMul i j):IntMulOk i j:=by
 rcases h with ⟨h1,h2⟩ |⟨h1,h2⟩
 .exact .of_left (intBits_le_64 h1 h2)
 .exact .of_right (intBits_le_64 h1 h2)
theorem Q6:OpR X (binaryOp .Add) (rI0 λi j=>.int (i+j)):=qG λ_ _ _ _ _ _ _ q=>add_int q
theorem Q7:OpR X (binaryOp .Sub) (rI0 λi j=>.int (i - j)):=qG λ_ _ _ _ _ _ _ q=>sub_int q
theorem Q8:OpR X (binaryOp .Mult) (rI CMul λi j=>.int (i * j)):=opI λ_ _ _ _ _ _ _ hc q=>mul_int q hc.ok
theorem Q9:OpR X (binaryOp .Mod) (rI (λ_ j=>0 < j) λi j=>.int (i % j)):=opI λi j _ _ _ _ _ hc q=>by
 have h1:(0:Int) < j:=hc;exact mod_int' (!0) (by rw[Int.fmod_eq_emod_of_nonneg i (!0)];exact q)
theorem Ra:OpR X (binaryOp .Pow) (rI qH λi j=>.int (i ^ j.toNat)):=opI λ_ _ _ _ _ _ _ hc q=>pow_int_small hc.1 hc.2.1 hc.2.2 q
theorem Rb:OpR X (inplaceOp .Add) (rI0 λi j=>.int (i+j)):=qG λ_ _ _ _ _ _ _ q=>iadd_int q
theorem Rc:OpR X (inplaceOp .Sub) (rI0 λi j=>.int (i - j)):=qG λ_ _ _ _ _ _ _ q=>isub_int q
theorem unI{f:AN->Sem AN}{g:Int->Int}
  (rule:∀(i:Int)(t:Tok)(s:AI)(Q:AG)(E:AG),Q (.int (g i) s.toks) { s with toks:=s.toks+1 }->↥X (f (.int i t)) Q E s):
  UnR X f (rU λi=>.int (g i)):=by
 intro p9 s Y H x v Q I rx h;obtain ⟨i,rfl,q⟩:=h;obtain ⟨t,rfl⟩:=rx;exact rule i t s _ _ ⟨.int (g i),H,I.tok _,⟨_,rfl⟩,q⟩
theorem Rf:UnR X (unaryOp .USub) (rU λi=>.int (-i)):=unI λ_ _ _ _ _ q=>neg_int q
end
section
variable {X:Cx} {a b c:AO} {ta tb tc:TE} {pos:Pos}
theorem Aq{p9:AC}{Y:St}{H:Hp}{s:AI}{Q:VK}{k k':Bool}(I:Inv X p9 Y H s)(q:Q (.bl k) H)(e:k=k'):EP X p9 Y Q (.bool k') s:=by subst e;exact ⟨.bl k,H,I,rfl,q⟩
theorem Rg:OpR X (compareOp .Is) (λx y H Q=>y=.non/\Q (.bl (decide (x=.non))) H):=by
 intro p9 s Y H x y v u Q I rx ry h;obtain ⟨rfl,q⟩:=h;cases ry;refine is_none_gen (Aq I q ?_);cases x <;> first
  | (cases rx;rfl)
  | (obtain ⟨t,rfl⟩:=rx;rfl)
theorem Rh:OpR X (compareOp .IsNot) (λx y H Q=>y=.non/\Q (.bl (!decide (x=.non))) H):=by
 intro p9 s Y H x y v u Q I rx ry h;obtain ⟨rfl,q⟩:=h;cases ry;refine isnot_none_gen (Aq I q ?_);cases x <;> first
  | (cases rx;rfl)
  | (obtain ⟨t,rfl⟩:=rx;rfl)
theorem Ri{op:CmpOp}{r:R2}(ho:OpR X (compareOp op) r)(ha:PE X a ta)(hb:PE X b tb)(hm:behindInMarks op b=false):PE X (.Compare a [op] [b] pos) (tOp r ta tb):=by intro p9 s Y H Q I h;exact wpAny_Compare1 (uR ha hb I h λv u s2 x y H2 I2 rx ry q=>ho p9 s2 Y H2 x y v u Q I2 rx ry q) hm
def Ar(t:TE):TT:=λY H Q=>t Y H λx H'=>∃k,x=.bl k/\Q k H'
theorem Rj{op:CmpOp}{r:R2}(ho:OpR X (compareOp op) r)(ha:PE X a ta)(hb:PE X b tb)(hm:behindInMarks op b=false):PT X (.Compare a [op] [b] pos) (Ar (tOp r ta tb)):=by
 intro p9 s Y H Q I h;refine wpAny_isTrue_Compare1 (thn (ha p9 s Y H _ I h) λv s1 ⟨x,H1,I1,r1,q1⟩=>thn (hb p9 s1 Y H1 _ I1 q1) λu s2 ⟨y,H2,I2,r2,q2⟩=>
  thn (ho p9 s2 Y H2 x y v u _ I2 r1 r2 q2) λc s3 ⟨z,H3,I3,r3,k,e,q3⟩=>?_) hm
 subst e;cases r3;exact eK ⟨H3,I3,q3⟩
def uT(r r':R2)(ta tb tc:TE):TE:=λY H Q=>ta Y H λx H1=>tb Y H1 λy H2=>r x y H2 λz H3=>∃k,z=.bl k/\
 (if k=true then tc Y H3 λw' H4=>r' y w' H4 Q else Q (.bl false) H3)
theorem Rk{op op':CmpOp}{r r':R2}(ho:OpR X (compareOp op) r)(ho':OpR X (compareOp op') r')(ha:PE X a ta)(hb:PE X b tb)(hc:PE X c tc)
  (hm:lastMarks [op,op'] [b,c]=false:=by with_unfolding_all rfl):PE X (.Compare a [op,op'] [b,c] pos) (uT r r' ta tb tc):=by
 intro p9 s Y H Q I h;refine Compare_chain (thn (ha p9 s Y H _ I h) λv s1 ⟨x,H1,I1,r1,q1⟩=>chain_link (thn (hb p9 s1 Y H1 _ I1 q1) λu s2 ⟨y,H2,I2,r2,q2⟩=>
  thn (ho p9 s2 Y H2 x y v u _ I2 r1 r2 q2) λd s3 ⟨z,H3,I3,r3,k,e,q3⟩=>?_)) hm
 subst e;cases r3;refine eK ?_;cases k with
 |false=>exact ite_ff ⟨.bl false,H3,I3,rfl,q3⟩
 |true=>exact ite_tt (chain_last (thn (hc p9 s3 Y H3 _ I3 q3) λw' s4 ⟨z',H4,I4,r4,q4⟩=>ho' p9 s4 Y H4 y z' u w' Q I4 r2 r4 q4))
theorem Rm{op op':CmpOp}{r r':R2}(ho:OpR X (compareOp op) r)(ho':OpR X (compareOp op') r')(ha:PE X a ta)(hb:PE X b tb)(hc:PE X c tc)
  (hm:lastMarks [op,op'] [b,c]=false:=by with_unfolding_all rfl):PT X (.Compare a [op,op'] [b,c] pos) (Ar (uT r r' ta tb tc)):=by
 intro p9 s Y H Q I h;refine isTrue_chain (thn (ha p9 s Y H _ I h) λv s1 ⟨x,H1,I1,r1,q1⟩=>test_link (thn (hb p9 s1 Y H1 _ I1 q1) λu s2 ⟨y,H2,I2,r2,q2⟩=>
  thn (ho p9 s2 Y H2 x y v u _ I2 r1 r2 q2) λd s3 ⟨z,H3,I3,r3,k,e,q3⟩=>?_)) hm
 subst e;cases r3;refine eK ?_;cases k with
 |false=>
  obtain ⟨k',e',q'⟩:=q3;cases e';exact ite_ff ⟨H3,I3,q'⟩
 |true=>
  refine ite_tt (test_last (thn (hc p9 s3 Y H3 _ I3 q3) λw' s4 ⟨z',H4,I4,r4,q4⟩=>thn (ho' p9 s4 Y H4 y z' u w' _ I4 r2 r4 q4) λd' s5 ⟨z2,H5,I5,r5,k2,e2,q5⟩=>?_));subst e2;cases r5;exact eK ⟨H5,I5,q5⟩
def qI(K:PF)(x:V)(H:Hp)(k:Bool):Prop:=
 match x with
 |.non=>k=false
 |.bl b=>k=b
 |.int i=>k=(i != 0)
 |.str y=>y.length<=sizeLine/\k=((y.length:Int) != 0)
 |.byt y=>y.size<=sizeLine/\k=((y.size:Int) != 0)
 |.ref p=>(∃xs,SqL K H p xs/\k=!xs.isEmpty)\/(∃xs,SqT K H p xs/\k=!xs.isEmpty)\/∃kvs,H p=some (.dK kvs)/\k=!kvs.isEmpty
 |_=>False
theorem Rn{κ:Type}{kvs:List (κ×V)}{vs:List (κ×AN)}(r:KV kvs vs):(!vs.isEmpty)=!kvs.isEmpty:=by cases r <;> rfl
theorem Av{xs:AR}{its:AB}(r:Vals xs its):(!its.toArray.isEmpty)=!xs.isEmpty:=by cases r <;> simp
theorem gW:(sizeLine:Nat) < 2 ^ 63:=by rw[fS];decide
theorem Aw:Q3 X (λx H Q=>∃k,qI X.K x H k/\Q k H):=by
 intro p9 s Y H x v Q I rx h;obtain ⟨k,e,q⟩:=h;have hl:=gW;have hs:sizeLine=16777216:=fS;cases x with
 |non=>
  cases rx;have e':k=false:=e;subst e';exact truthy_none ⟨H,I,q⟩
 |bl b=>
  cases rx;have e':k=b:=e;subst e';exact eK ⟨H,I,q⟩
 |int i=>
  obtain ⟨t,rfl⟩:=rx;have e':k=(i != 0):=e;subst e';exact PySem.P.truthy_int ⟨H,I,q⟩
 |str y=>
  obtain ⟨t,rfl⟩:=rx;obtain ⟨hy,e'⟩:y.length<=sizeLine/\k=((y.length:Int) != 0):=e;subst e';exact PySem.P.truthy_str (!0) ⟨H,I.tok _,q⟩
 |byt y=>
  obtain ⟨t,rfl⟩:=rx;obtain ⟨hy,e'⟩:y.size<=sizeLine/\k=((y.size:Int) != 0):=e;subst e';exact PySem.W.truthy_bytes (!0) ⟨H,I.tok _,q⟩
 |ref p=>
  cases rx;have e':(∃xs,SqL X.K H p xs/\k=!xs.isEmpty)\/(∃xs,SqT X.K H p xs/\k=!xs.isEmpty)\/∃kvs,H p=some (.dK kvs)/\k=!kvs.isEmpty:=e;rcases e' with ⟨xs,hx,e'⟩ |⟨xs,hx,e'⟩ |⟨kvs,hx,e'⟩
  .subst e';obtain ⟨its,r,pl,hz⟩:=I.list hx;have hlen:=r.length;exact wpAny_truthy_list pl.isList (by simp only[av];omega) ⟨H,I.tok _,by rw[Av r];exact q⟩
  .subst e';obtain ⟨its,r,pl,hz⟩:=I.tuple hx;have hlen:=r.length;exact truthy_tuple pl (by simp only[av];omega) ⟨H,I.tok _,by rw[Av r];exact q⟩
  .subst e';obtain ⟨hz,hS,vs,r,m⟩:kvs.length<=sizeLine/\(p==sysModules)=false/\∃vs,KV kvs vs/\s.heap.DictOf (bU X.prog X.w) p vs:=I.hok p _ hx;have hlen:kvs.length=vs.length:=gt r;exact wpAny_truthy_dict hS m (!0) ⟨H,I.tok _,by rw[Rn r];exact q⟩
 |_=>exact (show False from e).elim
theorem Ro(ha:PE X a ta)(he:∀whole,isTrue a X.env whole=(do let v <-whole;standAt a.pos;holding [v] (truthy v))):
  PT X a (λY H Q=>ta Y H λx H'=>∃k,qI X.K x H' k/\Q k H'):=by
 intro p9 s Y H Q I h;exact isTrue_plain (thn (ha p9 s Y H _ I h) λv s1 ⟨x,H1,I1,r1,q1⟩=>Aw p9 s1 Y H1 x v Q I1 r1 q1) (he _)
theorem Rp:OpR X (binaryOp .Add) (λx y H Q=>∃i j,x=.str i/\y=.str j/\i.length+j.length<=sizeLine/\Q (.str (i++j)) H):=by intro p9 s Y H x y v u Q I rx ry h;obtain ⟨i,j,rfl,rfl,hz,q⟩:=h;obtain ⟨t,rfl⟩:=rx;obtain ⟨t',rfl⟩:=ry;exact add_str (λt' tk=>⟨.str (i++j),H,I.tok _,⟨_,rfl⟩,q⟩) hz
theorem Rq:OpR X (inplaceOp .Add) (λx y H Q=>∃i j,x=.str i/\y=.str j/\i.length+j.length<=sizeLine/\Q (.str (i++j)) H):=by intro p9 s Y H x y v u Q I rx ry h;obtain ⟨i,j,rfl,rfl,hz,q⟩:=h;obtain ⟨t,rfl⟩:=rx;obtain ⟨t',rfl⟩:=ry;exact iadd_str (λt' tk=>⟨.str (i++j),H,I.tok _,⟨_,rfl⟩,q⟩) hz
theorem vals1{x:V}{us:AB}(r:Vals [x] us):∃u,us=[u]/\RelV x u:=by
 cases r with
 |cons r1 r2=>cases r2;exact ⟨_,rfl,r1⟩
theorem vals2{x y:V}{us:AB}(r:Vals [x,y] us):∃u w',us=[u,w']/\RelV x u/\RelV y w':=by
 cases r with
 |cons r1 r2=>
  cases r2 with
  |cons r3 r4=>cases r4;exact ⟨_,_,rfl,r1,r3⟩
theorem Ax:bh X (.type "int") (λxs H Q=>(∃i,xs=[.int i]/\Q (.int i) H)\/∃k,xs=[.bl k]/\Q (.int (if k then 1 else 0)) H):=by
 intro p9 s Y H xs us Q I r h;rcases h with ⟨i,rfl,q⟩ |⟨k,rfl,q⟩
 .obtain ⟨u,rfl,t,rfl⟩:=vals1 r;exact call_int_int ⟨.int i,H,I,⟨_,rfl⟩,q⟩
 .obtain ⟨u,rfl,r1⟩:=vals1 r;cases r1;exact call_int_bool ⟨.int (if k then 1 else 0),H,I.tok _,⟨_,rfl⟩,q⟩
end
structure ObjM(h:Heap)(x dx C:AQ)(mA:AH):Prop where
 obj:h.get? x=some (PySem.W.instObj C dx)
 ns:h.Ns1 dx mA
 ne:dx≠x
def Rt{h:Heap}{dx:AQ}{mA:AH}(n:h.Ns1 dx mA):∃od,h.get? dx=some od/\∀name,PySem.W.lookIn name od=some (mA name):=by
 obtain ⟨o,es,ep,ho,hd,hk,_,hm⟩:=n;refine ⟨o,ho,λname=>?_⟩;have e:=hm name;unfold nsFind findBy at e;rw[<-Array.find?_toList]at e;unfold PySem.W.lookIn;rw[hd];dsimp only;split
 .rename_i y q;rw[q]at e;exact eT some e
 .rename_i q;rw[q]at e;have a:es.toList.any (·.refKey)=false:=by
   rw[List.any_eq_false];intro y hy;obtain ⟨z,t,hkey⟩:=hk y (Array.mem_toList_iff.mp hy);simp[DictEntry.refKey,hkey]
  have a':¬es.toList.any (·.refKey)=true:=by rw[a];exact br
  rw[if_neg a'];exact eT some e
def ObjM.look{h:Heap}{x dx C:AQ}{mA:AH}(I:ObjM h x dx C mA):∃od,PySem.W.InstAt h x (PySem.W.instObj C dx) C (some od)/\∀name,PySem.W.lookIn name od=some (mA name):=
 let ⟨od,ho,hl⟩:=Rt I.ns
 ⟨od,⟨I.obj,rfl,rfl,ho⟩,hl⟩
def RelO.some_of{v:V}{o:Option AN}(r:RelO (some v) o):∃u,o=some u/\RelV v u:=by
 cases o with
 |none=>exact (show False from r).elim
 |some u=>exact ⟨u,rfl,r⟩
section
variable {P:AK} {w:World} {H H':Hp} {h h':Heap} {a C dx:AQ} {fs fs':List (Str×V)}
theorem Ru(hok:HOk P w H h)(e:H a=some (.ins C dx fs)):∃mA,ObjM h a dx C mA/\(∀f,RelO (fs.lookup f) (mA f))/\PySem.Within mA (fs.map (·.1))/\fs.length<=1000/\H dx=some (.own a):=by obtain ⟨d,z,ne,ob,mA,n,r,q⟩:=(show ObjOk P w H h a (.ins C dx fs) from hok a _ e);exact ⟨mA,⟨ob,n,ne⟩,r,q,z,d⟩
end
structure Cls(K:PF)(C:AQ):Prop where
 pg:PySem.W.plainGet K C Str.empty=true
 hd:PySem.W.hasDictIn K C=true
 po:PySem.W.plainOver K C=true
 sa:PySem.W.findIn K (.ref C) "__setattr__"=some (some (.builtin "object.__setattr__"))
def Cls.get{K:PF}{C:AQ}(c:Cls K C)(f:Str):PySem.W.plainGet K C f=true:=c.pg
def Rv(K:PF)(C:AQ)(f:Str):Prop:=PySem.W.findIn K (.ref C) f=some none
structure Meth(K:PF)(C:AQ)(m:Str)(f:AQ):Prop where
 at_:PySem.W.findIn K (.ref C) m=some (some (.ref f))
 fn:PySem.W.isFn K (.ref f)=true
 kp:PySem.W.keepIn K (.ref f)=true
section
variable {X:Cx} {p9:AC} {σ:St} {H:Hp} {s:AI} {A:AM} {E:AG} {Q:AG} {c:AN} {b:Bool}
inductive TyOf (K:PF) (H:Hp):V->AN->Prop where
 |non:TyOf K H .non (.type "NoneType")
 |bl (x:Bool):TyOf K H (.bl x) (.type "bool")
 |int (i:Int):TyOf K H (.int i) (.type "int")
 |str (x:Str):TyOf K H (.str x) (.type "str")
 |flt (x:UInt64):TyOf K H (.flt x) (.type "float")
 |lst {a:AQ} {xs:AR} (e:H a=some (.lst xs)):TyOf K H (.ref a) (.type "list")
 |frz {a:AQ} {o:Obj} {xs:AR} (e:H a=some (.frz o (.lst xs))):TyOf K H (.ref a) (.type "list")
 |tup {a:AQ} {xs:AR} (e:H a=some (.tup xs)):TyOf K H (.ref a) (.type "tuple")
 |dK {a:AQ} {kvs:List (Key×V)} (e:H a=some (.dK kvs)):TyOf K H (.ref a) (.type "dict")
 |dT {a:AQ} {kvs:List (List Key×V)} (e:H a=some (.dT kvs)):TyOf K H (.ref a) (.type "dict")
 |ins {a C dx:AQ} {fs:List (Str×V)} (e:H a=some (.ins C dx fs)) (cl:Cls K C) (ha:PySem.W.findIn K (.ref C) "__class__"=some (some (.builtin "object.__class__")))
   (hn:PySem.W.specialIn K (.builtin "object.__class__") "__get__"=some (some (.builtin "getset_descriptor.__get__"))) (htk:PySem.W.takesIn K (.builtin "object.__class__")=some true)
   (hm:PySem.W.mroIn K C (.type "object")=some true):TyOf K H (.ref a) (.ref C)
theorem Rw{x:V}{u t:AN}(I:Inv X p9 σ H s)(rx:RelV x u)(ty:TyOf X.K H x t)(e:PySem.W.kitOne X.K t c=some b)(h:∀tk,Q (.bool b) { s with toks:=tk }):
  wpAny (model X.prog X.w) A (call (.builtin "isinstance") [u,c]) Q E s:=by
 cases ty with
 |non=>cases (show u=Value.none from rx);exact ef PySem.W.kitx_none I.kIn gc e (λz=>nomatch z) h
 |bl y=>cases (show u=Value.bool y from rx);exact ef PySem.W.kitx_bool I.kIn gc e (λz=>nomatch z) h
 |int i=>obtain ⟨t,q⟩:=(show ∃t,u=Value.int i t from rx);cases q;exact ef PySem.W.kitx_int I.kIn gc e (λz=>nomatch z) h
 |str y=>obtain ⟨t,q⟩:=(show ∃t,u=Value.str y t from rx);cases q;exact ef PySem.W.kitx_str I.kIn gc e (λz=>nomatch z) h
 |flt y=>obtain ⟨t,q⟩:=(show ∃t,u=Value.float y t from rx);cases q;exact ef PySem.W.kitx_float I.kIn gc e (λz=>nomatch z) h
 | @lst a xs ea=>
  cases (show u=Value.ref a from rx);obtain ⟨_,_,n,_,h1⟩:=(show ObjOk X.prog X.w H s.heap a (.lst xs) from I.hok a _ ea);exact ef PySem.W.kitx_list I.kIn ⟨_,h1,rfl⟩ e (λz=>nomatch z) h
 | @frz a ob xs ea=>
  cases (show u=Value.ref a from rx);obtain ⟨_,_,_,n,_,h1⟩:=(show ObjOk X.prog X.w H s.heap a (.frz ob (.lst xs)) from I.hok a _ ea);exact ef PySem.W.kitx_list I.kIn ⟨_,h1,rfl⟩ e (λz=>nomatch z) h
 | @tup a xs ea=>
  cases (show u=Value.ref a from rx);obtain ⟨_,_,_,p⟩:=(show ObjOk X.prog X.w H s.heap a (.tup xs) from I.hok a _ ea);obtain ⟨o,h1,h2,_⟩:=p;exact ef PySem.W.kitx_tuple I.kIn ⟨o,h1,h2.1⟩ e (λz=>nomatch z) h
 | @dK a kvs ea=>
  cases (show u=Value.ref a from rx);obtain ⟨_,_,vs,_,p⟩:=(show ObjOk X.prog X.w H s.heap a (.dK kvs) from I.hok a _ ea);obtain ⟨o,es,ep,h1,h2,_⟩:=p;exact ef PySem.W.kitx_dict I.kIn ⟨o,h1,h2.1⟩ e (λz=>nomatch z) h
 | @dT a kvs ea=>
  cases (show u=Value.ref a from rx);obtain ⟨_,_,xs,_,o,es,ep,h1,h2,_⟩:=(show ObjOk X.prog X.w H s.heap a (.dT kvs) from I.hok a _ ea);exact ef PySem.W.kitx_dict I.kIn ⟨o,h1,h2.1⟩ e (λz=>nomatch z) h
 | @ins a C dx fs ea cl ha hn htk hm=>
  cases (show u=Value.ref a from rx);obtain ⟨mA,O,_⟩:=Ru I.hok ea;obtain ⟨od,J,_⟩:=O.look;exact ef (PySem.W.kitx_own (cl.get _) cl.hd ha hn htk hm) I.kIn J e (λz=>nomatch z) h
end
structure Room(k:Nat)(A:AM):Prop where
 hd:A.handled=none
 dp:A.depth+3 * k+5 < recursionLimit
 un:A.units+16 * k+200 < cLine
def Room.mono{j k:Nat}{A:AM}(r:Room k A)(h:j<=k):Room j A:=⟨r.hd,by have:=r.dp;omega,by have:=r.un;omega⟩
def Room.deeper{k:Nat}{A:AM}(r:Room (k+1) A)(env:Env):Room k (A.deeper env):=
 ⟨r.hd,by have:=r.dp;show A.depth+1+3 * k+5 < _;omega,by have:=r.un;show A.units+3+16 * k+200 < _;omega⟩
def Room.depth{k:Nat}{A:AM}(r:Room k A):A.depth < recursionLimit:=by have:=r.dp;omega
def Rx:TA:=λ_ H Q=>Q [] H
def Ay(ta:TE)(tr:TA):TA:=λY H Q=>ta Y H λx H1=>tr Y H1 λxs H2=>Q (x::xs) H2
section
variable {X:Cx} {e:AO} {es:AE} {te:TE} {t:TA} {pos:Pos}
theorem gY:PA X [] Rx:=λ_ _ _ _ H Q I h=>Calls.spliced_nil ⟨[],H,I,.nil,h⟩
theorem fM(ha:PE X e te)(hr:PA X es t)(hs:starEach (e::es) X.env=(false,eval e X.env)::starEach es X.env:=by rfl):PA X (e::es) (Ay te t):=by intro pos p9 s Y H Q I h;rw[hs];show wpAny _ _ (spliced ((false,eval e X.env)::backTo pos (starEach es X.env))) _ _ s;refine Calls.spliced_cons (thn (ha p9 s Y H _ I h) λu s1 ⟨x,H1,I1,r1,q1⟩=>?_);exact thn (hr pos p9 s1 Y H1 _ I1 q1) λus s2 ⟨xs,H2,I2,r2,q2⟩=>⟨x::xs,H2,I2,.cons r1 r2,q2⟩
def Ry(t:TA):TE:=λY H Q=>t Y H λxs H1=>xs.length<=sizeLine/\∀p,H1 p=none->Q (.ref p) (upd H1 p (.tup xs))
def Rz(t:TA):TE:=λY H Q=>t Y H λxs H1=>xs.length<=sizeLine/\∀p,H1 p=none->Q (.ref p) (upd H1 p (.lst xs))
theorem RB{x1}(h:PA X es t):PE X (.Tuple es x1 pos) (Ry t):=by intro p9 s Y H Q I hq;refine wpAny_Tuple_spliced (thn (h pos p9 s Y H _ I hq) λus s1 ⟨xs,H1,I1,r,z,q⟩=>⟨by rw[<-r.length];exact z,?_⟩);have hf:H1 s1.heap.objs.size=none:=I1.hok.fresh (ax _);refine ⟨.ref s1.heap.objs.size,upd H1 s1.heap.objs.size (.tup xs),I1.laid (t':=s1.toks) (λb u e=>ag _ e) (ax _) ?_,rfl,q _ hf⟩;exact ⟨z,us,r,⟨_,aI _ rfl,⟨rfl,rfl⟩,_,rfl⟩⟩
theorem RC(h:PA X es t):PE X (.List es pos) (Rz t):=by intro p9 s Y H Q I hq;refine wpAny_List_spliced (thn (h pos p9 s Y H _ I hq) λus s1 ⟨xs,H1,I1,r,z,q⟩=>⟨by rw[<-r.length];exact z,?_⟩);have hf:H1 s1.heap.objs.size=none:=I1.hok.fresh (ax _);refine ⟨.ref s1.heap.objs.size,upd H1 s1.heap.objs.size (.lst xs),I1.laid (t':=s1.toks) (λb u e=>ag _ e) (ax _) ?_,rfl,q _ hf⟩;exact ⟨z,us,0,r,aI _ rfl⟩
end
abbrev Sp:=AR->Hp->VK->XK->Prop
abbrev CXT:=List Env->Hp->AI->XK->AN->AI->Prop
structure Env0(P:AK)(w:World)(K:PF)(mg:AH)(base:Heap)(A:AM)(outer:List Env)(s:AI)(H:Hp):Prop where
 frames:A.frames=some outer
 mod:Mod K mg base
 bs:∀b o,base.get? b=some o->s.heap.get? b=some o/\H b=none
 bsz:base.objs.size<=(~~~s)
 funs:s.heap.FunFrames base outer
 frf:∀b∈frs outer,H b=none
 hok:HOk P w H s.heap
 bare:AllBare s.gens
def CE(outer:List Env)(P:AK)(w:World)(H:Hp)(s:AI)(Q:VK)(u:AN)(s':AI):Prop:=
 ∃v H',s'.os=s.os/\AllBare s'.gens/\Un (frs outer) [] H H' s.heap s'.heap/\HOk P w H' s'.heap/\RelV v u/\Q v H'
def CR(CX:CXT)(outer:List Env)(P:AK)(w:World)(H:Hp)(s:AI)(Q:VK)(E:XK)(r:Result)(s':AI):Prop:=
 match r with
 |.ok (.ret u)=>CE outer P w H s Q u s'
 |.ok _=>False
 |.error e=>CX outer H s E e s'
structure FnOk(P:AK)(w:World)(K:PF)(mg:AH)(base:Heap)(CX:CXT)(k:Nat)(f:AQ)(fd:AJ)(ps:AD)(sp:Sp):Prop where
 len:∀vs H Q E,sp vs H Q E->vs.length=ps.length
 run:∀(A:AM)(outer:List Env)(s:AI)(H:Hp)(args:Args)(us:AB)(vs:AR)(Q:VK)(E:XK),Room k A->Env0 P w K mg base A outer s H->BindsTo s fd args (ps.zip us)->Vals vs us->sp vs H Q E->
  codeAny (model P w) A (.call (.ref f) args) (CR CX outer P w H s Q E) s
def FnOk.mono{P:AK}{w:World}{K:PF}{mg:AH}{base:Heap}{CX:CXT}{j k:Nat}{f:AQ}{fd:AJ}{ps:AD}{sp:Sp}(F:FnOk P w K mg base CX j f fd ps sp)(h:j<=k):
  FnOk P w K mg base CX k f fd ps sp:=⟨F.len,λA outer s H args us vs Q E hr=>F.run A outer s H args us vs Q E (hr.mono h)⟩
def FnOk.imp{P:AK}{w:World}{K:PF}{mg:AH}{base:Heap}{CX:CXT}{k:Nat}{f:AQ}{fd:AJ}{ps:AD}{sp sp':Sp}(F:FnOk P w K mg base CX k f fd ps sp)
  (h:∀vs H Q E,sp' vs H Q E->sp vs H Q E):FnOk P w K mg base CX k f fd ps sp':=
 ⟨λvs H Q E q=>F.len vs H Q E (h _ _ _ _ q),λA outer s H args us vs Q E hr he hb hv hs=>F.run A outer s H args us vs Q E hr he hb hv (h _ _ _ _ hs)⟩
section
variable {X:Cx} {p9:AC} {σ:St} {H:Hp} {s s':AI}
theorem Inv.env0(I:Inv X p9 σ H s):Env0 X.prog X.w X.K X.mg X.base X.A X.stack s H:=
 ⟨I.ok.frames,I.ok.mod,I.bs,ca I.ok.bsz I.sz,I.stack,I.stkFree,I.hok,I.bare⟩
theorem Inv.after{Q:VK}{u:AN}(I:Inv X p9 σ H s)(h:CE X.stack X.prog X.w H s Q u s'):EP X p9 σ Q u s':=by obtain ⟨v,H',os,bare,un,hok,r,q⟩:=h;obtain ⟨hh,g,d,t,os'⟩:=s';obtain rfl:os'=s.os:=os;exact ⟨v,H',I.call (h':=hh) (g':=g) (d':=d) (t':=t) (ch:=[]) un hok bare (λb z=>absurd z (by simp)),r,q⟩
end
def RD(sp:Sp)(dvs:AR)(E:XK)(t:TA):TE:=λY H Q=>t Y H λvs H1=>sp (vs++dvs) H1 Q E
def Binds(K:PF)(fd:AJ)(ps:AD)(ds:AB):Prop:=
 ∀(s:AI)(us:AB),K.In s.heap->(us++ds).length=ps.length->BindsTo s fd ⟨us,[]⟩ (ps.zip (us++ds))
def Binds.all{K:PF}{fd:AJ}{ps:AD}(h:∀us:AB,us.length=ps.length->bindArgs fd ⟨us,[]⟩=pure (ps.zip us)):Binds K fd ps []:=λs us _ hl=>by
 rw[fi]at hl ⊢;exact .of_eq (h us hl)
def kj(CX:CXT)(X:Cx)(E:XK):Prop:=∀(p9:AC)(Y:St)(H:Hp)(s:AI)(e:AN)(s':AI),Inv X p9 Y H s->CX X.stack H s E e s'->X.xe e s'
section
variable {X:Cx} {CX:CXT} {k:Nat} {f C:AQ} {fd:AJ} {ps:AD} {sp:Sp} {dvs:AR} {ds:AB} {E:XK} {x m:Str} {p pos apos:Pos} {e o:AO} {es:AE} {ta:TE} {t:TA}
theorem RG{p9:AC}{Y:St}{H:Hp}{s:AI}{Q:VK}{us:AB}{vs:AR}(F:FnOk X.prog X.w X.K X.mg X.base CX k f fd ps sp)(hr:Room k X.A)(hb:Binds X.K fd ps ds)(hd:Vals dvs ds)(hx:kj CX X E)
  (I:Inv X p9 Y H s) (r:Vals vs us) (h:sp (vs++dvs) H Q E):↥X (call (.ref f) us) (EP X p9 Y Q) X.xe s:=by
 have r2:Vals (vs++dvs) (us++ds):=r.append hd;have hl:(us++ds).length=ps.length:=by rw[<-r2.length];exact F.len _ _ _ _ h
 refine wpAny_call (codeAny_mono (F.run X.A X.stack s H ⟨us,[]⟩ (us++ds) (vs++dvs) Q E hr I.env0 (hb s us I.kIn hl) r2 h) λr s' hq=>?_);cases r with
 |error e=>exact hx p9 Y H s e s' I hq
 |ok fl=>
  cases fl with
  |ret u=>exact I.after hq
  |next=>exact False.elim hq
  |brk=>exact False.elim hq
  |cont=>exact False.elim hq
theorem RJ(F:FnOk X.prog X.w X.K X.mg X.base CX k f fd ps sp)(hr:Room k X.A)(hg:Gl X x)(hm:X.mg x=some (.ref f))(hk:PySem.W.keepIn X.K (.ref f)=true)(hb:Binds X.K fd ps ds)(hd:Vals dvs ds)(hx:kj CX X E)
  (ha:PA X (e::es) t) (hdb:(x==("__debug__":Str))=false:=by decide) (he:starEach (e::es) X.env=(false,eval e X.env)::starEach es X.env:=by rfl) (hpl:(backTo pos (starEach es X.env)).any (·.1)=false:=by rfl):
  PE X (.Call (.Name x p) (e::es) [] pos) (RD sp dvs E t):=by
 intro p9 s Y H Q I h;refine wpAny_Call_Name_kw (Aj I hg hm ?_ hdb);refine PySem.W.callWith_K (h₀:=X.base) I.ok.mod.kin hk (thn (ha pos p9 s Y H _ I h) λus s1 ⟨vs,H1,I1,r,q⟩=>⟨I1.kIn,?_⟩) he hpl;exact RG F hr hb hd hx I1 r q
structure Mk(K:PF)(C f:AQ):Prop where
 makes:PySem.W.makesIn K C=true
 init:PySem.W.findIn K (.ref C) "__init__"=some (some (.ref f))
 fn:PySem.W.isFn K (.ref f)=true
 kp:PySem.W.keepIn K (.ref C)=true
end
structure FnScope(N P:AD)(sc:Scope):Prop where
 kind:sc.kind=.function
 co:sc.isCoroutine=false
 gen:sc.isGenerator=false
 nd:N.Nodup
 pre:N.take P.length=P
 par:∀x∈P,sc.names.lookup x=some .local\/sc.names.lookup x=some .cell
 nofree:∀y∈sc.names,y.2≠.free
def Az{kindOf:Str->Option NameKind}{x:Str}:∀{binds:List (Str×AN)}{m:AH},(∀v,(x,v)∉binds)->bindL kindOf binds m x=m x
 |[],_,_=>rfl
 | (n,v)::r,m,h=>by
  unfold bindL;rw[Az λw hw=>h w (bi _ hw)];split
  .have:x≠n:=by rintro rfl;exact h v bg
   simp[this]
  .rfl
def Ba{kindOf:Str->Option NameKind}{x:Str}:∀{binds:List (Str×AN)}{m:AH},(∀v,(x,v)∉binds)->bindC kindOf binds m x=m x
 |[],_,_=>rfl
 | (n,v)::r,m,h=>by
  unfold bindC;rw[Ba λw hw=>h w (bi _ hw)];split
  .rfl
  .have:x≠n:=by rintro rfl;exact h v bg
   simp[this]
def Bb{kindOf:Str->Option NameKind}{x:Str}{v:AN}:∀{P:AD}{vs:AB}{i:Nat}{m:AH},P.Nodup->P[i]?=some x->vs[i]?=some v->kindOf x=some .local->
  bindL kindOf (P.zip vs) m x=some v
 |[],_,_,_,_,h,_,_=>by simp at h
 |_::_,[],_,_,_,_,h,_=>by simp at h
 |p::P,w::vs,0,m,nd,h1,h2,hk=>by
  simp at h1 h2;subst h1;subst h2;show bindL kindOf ((p,w)::P.zip vs) m p=_;unfold bindL;rw[Az λv hv=>(dr.mp nd).1 (List.of_mem_zip hv).1,if_pos hk];simp
 |p::P,w::vs,i+1,m,nd,h1,h2,hk=>by
  show bindL kindOf ((p,w)::P.zip vs) m x=_;unfold bindL;exact Bb (i:=i) (dr.mp nd).2 (!!h1) (!!h2) hk
def Bc{kindOf:Str->Option NameKind}{x:Str}{v:AN}:∀{P:AD}{vs:AB}{i:Nat}{m:AH},P.Nodup->P[i]?=some x->vs[i]?=some v->kindOf x≠some .local->
  bindC kindOf (P.zip vs) m x=some v
 |[],_,_,_,_,h,_,_=>by simp at h
 |_::_,[],_,_,_,_,h,_=>by simp at h
 |p::P,w::vs,0,m,nd,h1,h2,hk=>by
  simp at h1 h2;subst h1;subst h2;show bindC kindOf ((p,w)::P.zip vs) m p=_;unfold bindC;rw[Ba λv hv=>(dr.mp nd).1 (List.of_mem_zip hv).1,if_neg hk];simp
 |p::P,w::vs,i+1,m,nd,h1,h2,hk=>by
  show bindC kindOf ((p,w)::P.zip vs) m x=_;unfold bindC;exact Bc (i:=i) (dr.mp nd).2 (!!h1) (!!h2) hk
def start(N:AD)(vs:AR):St:=vs.map some++List.replicate (N.length - vs.length) none
def dH(CX:CXT)(P:AK)(w:World)(K:PF)(mg:AH)(base:Heap)(N:AD)(qual:Str)(scope:Scope)(f:AQ)(cd:AN)(A:AM)(outer:List Env)(s:AI)(H:Hp)(E:XK):Cx where
 prog:=P
 w:=w
 K:=K
 mg:=mg
 base:=base
 A:=A.deeper (envOfC qual scope (~~~s) f cd)
 N:=N
 s₀:=s
 H₀:=H
 env:=envOfC qual scope (~~~s) f cd
 outer:=outer
 stack:=envOfC qual scope (~~~s) f cd::outer
 ex:=[]
 calm:=true
 fn:=λ_=>true
 pn:=[]
 xe:=λe s'=>wpAny (model P w) (A.deeper (envOfC qual scope (~~~s) f cd)) (leaving (envOfC qual scope (~~~s) f cd) e) (λ_ s''=>CX outer H s E e s'') (λe' s''=>CX outer H s E e' s'') s'
def Bd{sc:Scope}{n:Nat}{x:Str}(h:sc.names.lookup x=some .cell):∃c,(cellsFrom n sc.names []).lookup x=some c:=by have q:=PySem.W.cellsFrom_some sc.names n [] (.inl h);exact cm.mp q
def Be{CX:CXT}{P:AK}{w:World}{K:PF}{mg:AH}{base:Heap}{N ps:AD}{qual:Str}{scope:Scope}{f:AQ}{cd:AN}{A:AM}{outer:List Env}{s s1:AI}{H:Hp}{E:XK}{us:AB}{vs:AR}
  (S:FnScope N ps scope) (hd:A.handled=none) (e0:Env0 P w K mg base A outer s H) (hl:vs.length=ps.length) (r:Vals vs us)
  (x:InCallC s (~~~s) (bindL (envOfC qual scope (~~~s) f cd).kindOf (ps.zip us) λ_=>none) (cellsFrom ((~~~s)+1) scope.names []) (bindC (envOfC qual scope (~~~s) f cd).kindOf (ps.zip us) λ_=>none) s1):
  Inv (dH CX P w K mg base N qual scope f cd A outer s H E) [] (start N vs) H s1:=by
 have hpl:ps.length<=N.length:=by have:=eT List.length S.pre;rw[eL]at this;omega
 obtain ⟨h1,tk,rfl,hk⟩:=x.done;have noA:∀b:AQ,b∉(dH CX P w K mg base N qual scope f cd A outer s H E).ex:=λb z=>absurd (show b∈([]:List AQ) from z) (by simp);refine ⟨⟨e0.mod,S.kind,rfl,rfl,ax _,λy z c h1 h2=>?_,λy hy=>?_,λy c _ h=>?_,λ_=>hd,Around.frames_deeper e0.frames,.inr ⟨rfl,rfl⟩,λb z=>absurd z (noA b),e0.bs,e0.bsz,λb _ _=>noA b,λb z=>absurd z (noA b),e0.funs,e0.frf⟩,
  rfl,e0.bare,Un.kept hk,⟨_,x.toInCall.ns,λi y v h1 h2 h3=>?_⟩,λy c h=>⟨_,x.cell y c h⟩,e0.hok.fresh (ax _),λy c h=>?_,λp hp=>absurd (show p∈([]:AC) from hp) (by simp),e0.hok.kept hk,?_⟩
 .exact name_of_addr x.apart (eA h1) (eA h2)
 .have hy:scope.names.lookup y=some .cell\/scope.names.lookup y=some .free:=hy;rcases hy with hy |hy
  .exact Bd hy
  .exact absurd rfl (S.nofree _ (eA hy))
 .exact Nat.le_of_lt (x.above y c (eA h))
 .have hi:i < vs.length:=by
   unfold start at h2;by_cases hi:i < vs.length
   .exact hi
   .rw[ff (!!hi)]at h2;rw[List.getElem?_replicate]at h2;split at h2 <;> cases h2
  have ha:vs[i]?=some v:=by
   unfold start at h2;rw[d0 (!!hi),bq]at h2;cases e:vs[i]? with
   |none=>rw[e]at h2;cases h2
   |some a=>rw[e]at h2;cases h2;rfl
  obtain ⟨u,hu,rv⟩:=r.get ha;have hp:ps[i]?=some y:=by rw[<-S.pre,List.getElem?_take_of_lt (!0)];exact h1
  have ndP:ps.Nodup:=by rw[<-S.pre];exact S.nd.sublist (List.take_sublist _ _)
  refine ⟨u,rv,?_⟩;rcases S.par y (cw hp) with k |k
  .exact .inl ⟨k,Bb ndP hp hu k⟩
  .obtain ⟨c,e⟩:=Bd (n:=(~~~s)+1) k;refine .inr ⟨.inl k,c,e,?_⟩;have q:=x.cell y c e;rw[Bc ndP hp hu (by show scope.names.lookup y≠_;rw[k];decide)]at q;exact q
 .exact e0.hok.fresh (Nat.le_of_lt (x.above y c (eA h)))
 .unfold start;show _=N.length;rw[aw,af,cK];omega
def RK{CX:CXT}{P:AK}{w:World}{K:PF}{mg:AH}{base:Heap}{k:Nat}{f:AQ}{name qual:Str}{params:Arguments}{body:AF}{scope:Scope}{dV kV doc pm cdv ct oc:AN}{an od:Option AQ}
  {osl:Array (Option AN)} {N ps:AD} {sp:Sp} (lk:K.lookup f=some ⟨oc,od,.func (PySem.W.fnOf name qual params body scope dV kV doc pm an cdv ct),osl⟩) (hcd:PySem.W.codeIn K cdv qual=true) (S:FnScope N ps scope)
  (len:∀vs H Q E,sp vs H Q E->vs.length=ps.length)
  (hbody:∀(A:AM)(outer:List Env)(s:AI)(H:Hp)(vs:AR)(Q:VK)(E:XK),Room k (A.deeper (envOfC qual scope (~~~s) f cdv))->sp vs H Q E->
   ∃t,PSs (dH CX P w K mg base N qual scope f cdv A outer s H E) body t/\t { nx:=λ_ H'=>Q .non H',rt:=Q } (start N vs) H):
  FnOk P w K mg base CX (k+1) f (PySem.W.fnOf name qual params body scope dV kV doc pm an cdv ct) ps sp:=by
 refine ⟨len,λA outer s H args us vs Q E hr e0 hb r hsp=>?_⟩;have hl:=len _ _ _ _ hsp;have KX:K.In s.heap:=e0.mod.kin.keeps λb o e=>(e0.bs b o e).1;have lim:s.heap.NoLimit:=e0.mod.nolimit.keeps λb o e=>(e0.bs b o e).1;have hkind:∀y∈ps.zip us,scope.names.lookup y.1=some .local\/(scope.names.lookup y.1=some .cell/\((cellsFrom ((~~~s)+1) scope.names []).lookup y.1).isSome=true):=λ⟨n,v⟩ hy=>by
  rcases S.par n (List.of_mem_zip hy).1 with q |q
  .exact .inl q
  .exact .inr ⟨q,PySem.W.cellsFrom_some _ _ _ (.inl q)⟩
 refine codeAny_call_function hr.depth (KX _ _ lk) rfl S.co S.gen rfl (PySem.W.codeRec_of KX hcd) (hb _ _ _ _ ?_);refine wpAny_newFunctionEnv_cells S.kind hkind λenv he s1 x=>?_;subst he;refine ⟨lim.keeps x.toInCall.keep,codeAny_func ?_⟩;obtain ⟨t,ht,hq⟩:=hbody A outer s H vs Q E (hr.deeper _) hsp;have I:Inv (dH CX P w K mg base N qual scope f cdv A outer s H E) [] (start N vs) H s1:=Be S hr.hd e0 hl r x;refine dc (ht [] s1 (start N vs) H _ I hq) (λfl s' hs=>?_) λe s' hs=>hs;have fin:∀{σ':St}{H':Hp}{v:V}{u:AN},Inv (dH CX P w K mg base N qual scope f cdv A outer s H E) [] σ' H' s'->RelV v u->Q v H'->CE outer P w H s Q u s':=
  λ{σ' H' v u} J rv q=>⟨v,H',J.os,J.bare,J.base,J.hok,rv,q⟩
 cases fl with
 |ret u=>
  obtain ⟨v,σ',H',J,rv,q⟩:=hs;exact fin J rv q
 |next=>
  obtain ⟨σ',H',J,q⟩:=hs;exact fin (v:=V.non) (u:=Value.none) J rfl q
 |brk=>
  obtain ⟨_,_,_,q⟩:=hs;exact False.elim q
 |cont=>
  obtain ⟨_,_,_,q⟩:=hs;exact False.elim q
section
variable {X:Cx} {x:Str} {p pos:Pos} {e:AO} {es:AE} {t:TA} {id T:AL} {r:AR->Hp->VK->Prop}
def tCB(r:AR->Hp->VK->Prop)(t:TA):TE:=λY H Q=>t Y H λvs H1=>r vs H1 Q
theorem jl (hc:bh X (.builtin id) r) (hg:Gl X x) (hm:X.mg x=none) (hv:bootBuiltins x=some (.builtin id)) (ha:PA X (e::es) t) (hn:x≠"__name__":=by decide) (hdb:(x==("__debug__":Str))=false:=by decide)
  (he:starEach (e::es) X.env=(false,eval e X.env)::starEach es X.env:=by rfl) (hpl:(backTo pos (starEach es X.env)).any (·.1)=false:=by rfl):PE X (.Call (.Name x p) (e::es) [] pos) (tCB r t):=by
 intro p9 s Y H Q I h;refine wpAny_Call_Name_kw (gU I hg hm hv ?_ hn hdb);exact PyProof.Rows.callWith_builtin1 (thn (ha pos p9 s Y H _ I h) λus s1 ⟨vs,H1,I1,r1,q1⟩=>hc p9 s1 Y H1 vs us Q I1 r1 q1) he hpl
theorem jm (hc:bh X (.type T) r) (hg:Gl X x) (hm:X.mg x=none) (hv:bootBuiltins x=some (.type T)) (ha:PA X (e::es) t) (hn:x≠"__name__":=by decide) (hdb:(x==("__debug__":Str))=false:=by decide)
  (he:starEach (e::es) X.env=(false,eval e X.env)::starEach es X.env:=by rfl) (hpl:(backTo pos (starEach es X.env)).any (·.1)=false:=by rfl):PE X (.Call (.Name x p) (e::es) [] pos) (tCB r t):=by
 intro p9 s Y H Q I h;refine wpAny_Call_Name_kw (gU I hg hm hv ?_ hn hdb);exact e6 (thn (ha pos p9 s Y H _ I h) λus s1 ⟨vs,H1,I1,r1,q1⟩=>hc p9 s1 Y H1 vs us Q I1 r1 q1) he hpl
end
end L2
namespace HT
open PySem PyProof.Rows
section
variable {prog:AK} {w:World} {A:AM} {E:AG} {s:AI}
theorem RL{t b:AQ}{vs ws:AB}{Q:AG}(ht:IsTup s.heap t vs.toArray)(hb:IsTup s.heap b ws.toArray)(hv:vs≠[])
  (h1:ws=[]->Q (.ref t) s) (h2:ws≠[]->Q (.ref (~~~s)) { s with heap:=s.heap.push { cls:=.type "tuple",data:=.seq (vs++ws).toArray } })
  (hsz:vs.length+ws.length<=sizeLine):wpAny (model prog w) A (binaryOp .Add (.ref t) (.ref b)) Q E s:=by
 obtain ⟨⟨cls,dd,data,sl⟩,ho,hc,n,hd⟩:=id ht;obtain ⟨⟨cls2,dd2,data2,sl2⟩,ho2,hc2,n2,hd2⟩:=id hb;simp only at hc hd hc2 hd2;subst hc hd hc2 hd2;have e:vs.toArray++ws.toArray=(vs++ws).toArray:=by simp
 by_cases hw:ws=[]
 .exact concat_meets ⟨_,ho,rfl⟩ ⟨_,ho2,rfl⟩ noFill_tuple_add seq_tuple_add PySem.F.slot_tuple_add PySem.F.entry_tuple_add (PySem.F.args_tuple_add_2 _ _)
   (tuple_addW1 t b vs.toArray ws.toArray n n2 dd dd2 sl sl2 (!!hv) (by simp[hw])) ⟨ho,ho2,h1 hw⟩
 .refine concat_meets ⟨_,ho,rfl⟩ ⟨_,ho2,rfl⟩ noFill_tuple_add seq_tuple_add PySem.F.slot_tuple_add PySem.F.entry_tuple_add (PySem.F.args_tuple_add_2 _ _)
   (tuple_addW2 t b vs.toArray ws.toArray n n2 dd dd2 sl sl2 (!!hv) (!!hw) (by rw[List.size_toArray,List.size_toArray];exact hsz)) ⟨ho,ho2,?_⟩
  rw[e];exact h2 hw
def sIx(n d:Nat):Option Int->Nat
 |none=>d
 |some v=>if v < 0 then (v+(n:Int)).toNat else min v.toNat n
theorem Bg(n d k:Nat):sIx n d (some (k:Int))=min k n:=by show (if (k:Int) < 0 then ((k:Int)+(n:Int)).toNat else min (k:Int).toNat n)=min k n;rw[if_neg (!0),Int.toNat_natCast]
theorem Bh(n d:Nat)(hd:d<=n)(o:Option Int):sIx n d o<=n:=by
 cases o with
 |none=>exact hd
 |some v=>
  show (if v < 0 then (v+(n:Int)).toNat else min v.toNat n)<=n;by_cases hv:v < 0
  .rw[if_pos hv];omega
  .rw[if_neg hv];exact Nat.min_le_right _ _
theorem Bj(v:Int)(n d:Nat):(if v < 0 then max (v+(n:Int)) 0 else min v (n:Int))=((sIx n d (some v):Nat):Int):=by
 show (if v < 0 then max (v+(n:Int)) 0 else min v (n:Int))=(((if v < 0 then (v+(n:Int)).toNat else min v.toNat n):Nat):Int);by_cases hv:v < 0
 .simp only[if_pos hv];omega
 .simp only[if_neg hv];omega
theorem RM(lo hi:Option Int)(n:Nat):Builtin.Slice.sliceAdjust lo hi 1 (n:Int)=(((sIx n 0 lo:Nat):Int),((sIx n n hi:Nat):Int)):=by
 have h1:¬((1:Int) < 0):=by omega
 unfold Builtin.Slice.sliceAdjust;simp only[h1,if_false];refine Prod.ext ?_ ?_
 .cases lo with
  |none=>rfl
  |some v=>exact Bj v n 0
 .cases hi with
  |none=>rfl
  |some v=>exact Bj v n n
theorem RN(i j:Nat):Builtin.Slice.slicePlaces (i:Int) (j:Int) 1=j - i:=by
 unfold Builtin.Slice.slicePlaces;have h1:(1:Int) > 0:=by omega
 simp only[h1,if_true,Int.ediv_one];split <;> omega
theorem km{v:AN}{o:Option Int}{Q:Option Int->AI->Prop}(p:IsPart v o)(h:Q o s):wpAny (model prog w) A (Builtin.Slice.slicePartIndex v) Q E s:=by
 cases p with
 |none=>exact slicePart_none h
 |int i t=>exact slicePart_int h
theorem Bk{sl:AQ}{vl vu:AN}{lo hi:Option Int}{n:Nat}{Q:Int×Int×Nat->AI->Prop}(hs:s.heap.IsSliceOf sl vl vu .none)(pl:IsPart vl lo)(pu:IsPart vu hi)
  (h:Q (((sIx n 0 lo:Nat):Int),1,sIx n n hi - sIx n 0 lo) s):wpAny (model prog w) A (Builtin.Slice.sliceApplied (.ref sl) (pure (n:Int))) Q E s:=by
 obtain ⟨os,hos,hcs,hds⟩:=id hs;unfold Builtin.Slice.sliceApplied Builtin.Slice.sliceFields;refine wpAny_bind (wpAny_bind (wpAny_field hos hds (x:=vl) rfl (wpAny_bind (wpAny_field hos hds (x:=vu) rfl (wpAny_bind (wpAny_field hos hds (x:=.none) rfl (wpAny_pure ?_)))))));refine wpAny_bind (slicePart_none ?_);show wpAny _ _ (if ((1:Int)==0)=true then _ else _) _ _ s;rw[if_neg (!1)];refine wpAny_bind (km pl (wpAny_bind (km pu (wpAny_bind (wpAny_pure ?_)))));show wpAny _ _ (match Builtin.Slice.sliceAdjust lo hi 1 (n:Int) with | (lo,hi)=>pure (lo,(1:Int),Builtin.Slice.slicePlaces lo hi 1)) _ _ s;rw[RM lo hi n];show wpAny _ _ (pure (((sIx n 0 lo:Nat):Int),(1:Int),Builtin.Slice.slicePlaces ((sIx n 0 lo:Nat):Int) ((sIx n n hi:Nat):Int) 1)) _ _ s;rw[RN];exact wpAny_pure h
theorem RP(xs:Array AN)(i k:Nat):((List.range k).filterMap λ(m:Nat)=>xs[((i:Int)+(m:Int) * 1).toNat]?).toArray=((xs.toList.drop i).take k).toArray:=by
 have e:(λ(m:Nat)=>xs[((i:Int)+(m:Int) * 1).toNat]?)=λm=>xs[i+m]?:=by
  funext m;have:((i:Int)+(m:Int) * 1).toNat=i+m:=by omega
  rw[this]
 rw[e];have:=pick_run xs i k;rw[List.filterMap_map]at this;have e2:((λx=>xs[x]?)∘λx=>i+x)=λm=>xs[i+m]?:=rfl;rw[e2]at this;rw[this]
theorem RQ{t sl:AQ}{items:Array AN}{vl vu:AN}{lo hi:Option Int}{Q:AG}(ht:IsTup s.heap t items)(hs:s.heap.IsSliceOf sl vl vu .none)(pl:IsPart vl lo)(pu:IsPart vu hi)
  (hw:¬(sIx items.size 0 lo=0/\sIx items.size items.size hi=items.size))
  (h:Q (.ref (~~~s)) { s with heap:=s.heap.push { cls:=.type "tuple",data:=.seq ((items.toList.drop (sIx items.size 0 lo)).take (sIx items.size items.size hi - sIx items.size 0 lo)).toArray } })
  (hsz:items.size<=sizeLine):wpAny (model prog w) A (getItem (.ref t) (.ref sl)) Q E s:=by
 have htake:sizeOk (.seq ((items.toList.drop (sIx items.size 0 lo)).take (sIx items.size items.size hi - sIx items.size 0 lo)).toArray):=by show ((items.toList.drop (sIx items.size 0 lo)).take (sIx items.size items.size hi - sIx items.size 0 lo)).toArray.size<=sizeLine;rw[List.size_toArray,List.length_take,List.length_drop,Array.length_toList];omega
 have hj:sIx items.size items.size hi<=items.size:=Bh _ _ (Nat.le_refl _) hi;obtain ⟨os,hos,hcs,hds⟩:=id hs;have hTs:s.TypeIs (.ref sl) "slice":=⟨os,hos,hcs⟩;unfold getItem;try with_reducible refine wpAny_holding ?_
 first |refine wpAny_bind (wpAny_pure ?_) |skip
 refine wpAny_bind (wpAny_sequenceKey ht.typeIs (!1) ?_);refine wpAny_bind (wpAny_callSpecial?_slot (name:=⇑"__getitem__") ht.typeIs PyProof.Rows.slot_tuple_getitem
  (wpAny_call_entry PyProof.Rows.slot_tuple_getitem ht.typeIs entry_tuple_getitem ?_ (args_tuple_getitem _ _)))
 show wpAny _ _ (Builtin.Tuple.tupleItemsOf (.ref t) >>= _) _ _ s;refine wpAny_bind (tupleItemsOf_ ht ?_);refine wpAny_bind (wpAny_typeOf hTs ?_);rw[if_pos (!1)];refine wpAny_bind (Bk hs pl pu ?_);have hno:¬((((sIx items.size 0 lo:Nat):Int)==0&&(1:Int)==1&&(sIx items.size items.size hi - sIx items.size 0 lo)==items.size)=true):=by intro q;rw[Bool.and_eq_true,Bool.and_eq_true]at q;have q1:((sIx items.size 0 lo:Nat):Int)=0:=eq_of_beq q.1.1;have q2:sIx items.size items.size hi - sIx items.size 0 lo=items.size:=eq_of_beq q.2;exact hw ⟨!0,!0⟩
 show wpAny _ _ (if (((sIx items.size 0 lo:Nat):Int)==0&&(1:Int)==1&&(sIx items.size items.size hi - sIx items.size 0 lo)==items.size)=true then _ else _) _ _ s;rw[if_neg hno,RP];first
  |exact wpAny_bind (m:=Builtin.Tuple.tupleExact _) (wpAny_newObj_type (wpAny_pure ⟨_,rfl,wpAny_pure h⟩) htake)
  |exact wpAny_bind (m:=Builtin.Tuple.tupleExact _) (wpAny_newObj_type (wpAny_bind (wpAny_pure (wpAny_pure ⟨_,rfl,wpAny_pure h⟩))) htake)
  |exact wpAny_bind (wpAny_bind (m:=Builtin.Tuple.tupleExact _) (wpAny_newObj_type (wpAny_pure (wpAny_pure ⟨_,rfl,wpAny_pure h⟩)) htake))
  |exact wpAny_bind (wpAny_bind (m:=Builtin.Tuple.tupleExact _) (wpAny_newObj_type (wpAny_pure ⟨_,rfl,wpAny_pure h⟩) htake))
end
end HT
namespace L2
open PySem PySem.Spec PyProof.Rows
abbrev TO:=St->Hp->(Option Int->Hp->Prop)->Prop
def PO(X:Cx)(e:Option AO)(t:TO):Prop:=
 ∀(p9:AC)(s:AI)(Y:St)(H:Hp)(Q:Option Int->Hp->Prop),Inv X p9 Y H s->t Y H Q->
  ↥X (evalPart e X.env) (λu s'=>∃o H',Inv X p9 Y H' s'/\IsPart u o/\Q o H') X.xe s
def RT:TO:=λ_ H Q=>Q none H
def RV(t:TE):TO:=λY H Q=>t Y H λx H1=>∃i,x=.int i/\Q (some i) H1
def intsAre_of{ns:List Int}:∀{us:AB},Vals (ns.map V.int) us->IntsAre us ns:=by
 induction ns with
 |nil=>intro us r;rw[gL]at r;cases r;exact .nil
 |cons n ns ih=>
  intro us r;rw[aS]at r;cases r with
  |cons r1 r2=>
   obtain ⟨t,e⟩:=r1;subst e;exact .cons n t (ih r2)
section
variable {X:Cx} {e:AO} {te:TE} {lo hi:Option AO} {tl th:TO} {pos p2:Pos}
theorem uU:PO X none RT:=by intro p9 s Y H Q I h;rw[evalPart_none];exact am ⟨none,H,I,.none,h⟩
theorem RW(h:PE X e te):PO X (some e) (RV te):=by intro p9 s Y H Q I hw;rw[evalPart_some];refine thn (h p9 s Y H _ I hw) λu s1 ⟨x,H1,I1,r1,q1⟩=>?_;obtain ⟨i,rfl,q⟩:=q1;obtain ⟨t,rfl⟩:=r1;exact ⟨some i,H1,I1,.int i t,q⟩
def SlR(X:Cx)(r:V->Option Int->Option Int->Hp->VK->Prop):Prop:=
 ∀(p9:AC)(s:AI)(Y:St)(H:Hp)(x:V)(v vl vu:AN)(lo hi:Option Int)(sl:AQ)(Q:VK),Inv X p9 Y H s->RelV x v->s.heap.IsSliceOf sl vl vu .none->IsPart vl lo->IsPart vu hi->r x lo hi H Q->
  ∃T id,typeLookup (.type T) "__getitem__"=pure (some (.builtin id))/\s.TypeIs v T/\↥X (getItem v (.ref sl)) (EP X p9 Y Q) X.xe s
def tSl(r:V->Option Int->Option Int->Hp->VK->Prop)(te:TE)(tl th:TO):TE:=λY H Q=>te Y H λx H1=>tl Y H1 λl H2=>th Y H2 λu H3=>r x l u H3 Q
theorem RX{r:V->Option Int->Option Int->Hp->VK->Prop}(hr:SlR X r)(he:PE X e te)(hl:PO X lo tl)(hu:PO X hi th):PE X (.Subscript e (.Slice lo hi none p2) pos) (tSl r te tl th):=by intro p9 s Y H Q I h;refine Subscript_ (thn (he p9 s Y H _ I h) λv s1 ⟨x,H1,I1,r1,q1⟩=>?_);refine wpAny_Slice (thn (hl p9 s1 Y H1 _ I1 q1) λvl s2 ⟨l,H2,I2,pl,q2⟩=>thn (hu p9 s2 Y H2 _ I2 q2) λvu s3 ⟨u,H3,I3,pu,q3⟩=>?_);rw[evalPart_none];refine am ?_;have I4:Inv X p9 Y H3 { s3 with heap:=s3.heap.push { cls:=.type "slice",data:=.fields #[vl,vu,.none] } }:=I3.kept (t':=s3.toks) λb ob q=>ag _ q;obtain ⟨T,id,hT,ht,hg⟩:=hr p9 { s3 with heap:=s3.heap.push { cls:=.type "slice",data:=.fields #[vl,vu,.none] } } Y H3 x v vl vu l u s3.heap.objs.size Q I4 r1 (Heap.IsSliceOf.new ..) pl pu q3;show ↥X (subscriptTail e (.Slice lo hi none p2) v (.ref s3.heap.objs.size)) (EP X p9 Y Q) X.xe { s3 with heap:=s3.heap.push { cls:=.type "slice",data:=.fields #[vl,vu,.none] } };exact tail_any (ops:=[.ref s3.heap.objs.size,v]) ht hT hg (by with_unfolding_all rfl)
def dU(xs:AR)(lo hi:Option Int):AR:=(xs.drop (HT.sIx xs.length 0 lo)).take (HT.sIx xs.length xs.length hi - HT.sIx xs.length 0 lo)
theorem Bl(xs:AR)(lo hi:Option Int):(dU xs lo hi).length<=xs.length:=by unfold dU;rw[eL,eM];omega
def RZ(K:PF):V->Option Int->Option Int->Hp->VK->Prop:=λx lo hi H Q=>∃a xs,x=.ref a/\SqT K H a xs/\
 ¬(HT.sIx xs.length 0 lo=0/\HT.sIx xs.length xs.length hi=xs.length)/\∀p,H p=none->Q (.ref p) (upd H p (.tup (dU xs lo hi)))
theorem R0:SlR X (RZ X.K):=by
 intro p9 s Y H x v vl vu lo hi sl Q I rx hs pl pu h;obtain ⟨a,xs,rfl,hx,hw,q⟩:=h;cases rx;obtain ⟨its,r,ht,hz⟩:=I.tuple hx;have hlen:its.toArray.size=xs.length:=by rw[av];exact r.length.symm
 refine ⟨"tuple",_,cy.lookup,ht.typeIs,?_⟩;refine HT.RQ ht hs pl pu (by rw[hlen];exact hw) ?_ (by rw[hlen];exact hz);rw[hlen];refine ⟨.ref (~~~s),_,I.laid (t':=s.toks) (o:=.tup (dU xs lo hi)) (λb ob q=>ag _ q) (ax _) ?_,rfl,q _ (I.hok.fresh (ax _))⟩;exact ⟨ca (Bl xs lo hi) hz,_,(r.drop (HT.sIx xs.length 0 lo)).take (HT.sIx xs.length xs.length hi - HT.sIx xs.length 0 lo),IsTupX.new _ _⟩
def R1(K:PF):R2:=λx y H Q=>∃a b xs ys,x=.ref a/\y=.ref b/\SqT K H a xs/\SqT K H b ys/\xs≠[]/\xs.length+ys.length<=sizeLine/\
 (ys=[]->Q (.ref a) H)/\(ys≠[]->∀p,H p=none->Q (.ref p) (upd H p (.tup (xs++ys))))
theorem Vals.nil_iff{xs:AR}{us:AB}(r:Vals xs us):us=[]↔xs=[]:=by
 cases r with
 |nil=>simp
 |cons _ _=>simp
theorem R3:OpR X (binaryOp .Add) (R1 X.K):=by intro p9 s Y H x y v u Q I rx ry h;obtain ⟨a,b,xs,ys,rfl,rfl,ha,hb,hx,hz,q1,q2⟩:=h;cases rx;cases ry;obtain ⟨its,r1,p1,_⟩:=I.tuple ha;obtain ⟨its2,r2,p2,_⟩:=I.tuple hb;refine HT.RL p1 p2 (λz=>hx (r1.nil_iff.mp z)) (λz=>⟨.ref a,H,I,rfl,q1 (r2.nil_iff.mp z)⟩) (λz=>?_) (by rw[<-r1.length,<-r2.length];exact hz);refine ⟨.ref (~~~s),_,I.laid (t':=s.toks) (o:=.tup (xs++ys)) (λb ob q=>ag _ q) (ax _) ?_,rfl,q2 (λw=>z (r2.nil_iff.mpr w)) _ (I.hok.fresh (ax _))⟩;exact ⟨by rw[aw];exact hz,_,r1.append r2,IsTupX.new _ _⟩
end
def ixN(n:Nat)(i:Int):Option Nat:=if 0<=i then (if i < n then some i.toNat else none) else if -(n:Int)<=i then some (i+n).toNat else none
def atI{α:Type}(xs:List α)(i:Int):Option α:=(ixN xs.length i).bind λj=>xs[j]?
def Bm{n:Nat}{i:Int}{j:Nat}(h:ixN n i=some j):seqIndex? i n=some j/\j < n/\-(n:Int)<=i/\i < n:=by
 unfold ixN at h;by_cases h0:0<=i
 .rw[if_pos h0]at h;by_cases h1:i < n
  .rw[if_pos h1]at h;have e:i.toNat=j:=eI h;exact ⟨by rw[seqIndex_of h0 h1,e],!0,!0,h1⟩
  .rw[if_neg h1]at h;cases h
 .rw[if_neg h0]at h;by_cases h1:-(n:Int)<=i
  .rw[if_pos h1]at h;have e:(i+n).toNat=j:=eI h;exact ⟨by rw[seqIndex_neg (!0) h1,e],!0,h1,!0⟩
  .rw[if_neg h1]at h;cases h
def uV{α:Type}{xs:List α}{i:Int}{v:α}(h:atI xs i=some v):∃j,seqIndex? i xs.length=some j/\xs[j]?=some v/\j < xs.length/\-(xs.length:Int)<=i/\i < xs.length:=by
 unfold atI at h;cases e:ixN xs.length i with
 |none=>rw[e]at h;cases h
 |some j=>
  rw[e]at h;obtain ⟨h1,h2,h3,h4⟩:=Bm e;exact ⟨j,h1,h,h2,h3,h4⟩
def cz{α:Type}{xs:List α}{j:Nat}{v:α}(h:xs[j]?=some v):atI xs (j:Int)=some v:=by
 have hj:j < xs.length:=(ar.mp h).1;have e:ixN xs.length (j:Int)=some j:=by unfold ixN;rw[if_pos (!0),if_pos (!0)];simp
 unfold atI;rw[e];exact h
def Bo{α:Type}(xs:List α)(v:α):atI (xs++[v]) (-1)=some v:=by
 have hl:(xs++[v]).length=xs.length+1:=by simp
 have e:ixN (xs++[v]).length (-1)=some xs.length:=by unfold ixN;rw[hl,if_neg (!1),if_pos (!0)];congr 1;omega
 unfold atI;rw[e];show (xs++[v])[xs.length]?=some v;simp
def Bp(b:AO):Prop:=∀o i,subscripted b false o i=operate [o,i] (getItem o i)
def IxR(X:Cx)(r:R2):Prop:=
 ∀(value slice:AO)(p9:AC)(s:AI)(Y:St)(H:Hp)(x y:V)(v u:AN)(Q:VK),Inv X p9 Y H s->RelV x v->RelV y u->r x y H Q->
  subscripted slice false v u=operate [v,u] (getItem v u)->↥X (subscriptTail value slice v u) (EP X p9 Y Q) X.xe s
def MtR(X:Cx)(id:AL)(r:V->AR->Hp->VK->Prop):Prop:=
 ∀(p9:AC)(s:AI)(Y:St)(H:Hp)(x:V)(xs:AR)(v:AN)(us:AB)(Q:VK),Inv X p9 Y H s->RelV x v->Vals xs us->r x xs H Q->
  ↥X (call (.builtin id) (v::us)) (EP X p9 Y Q) X.xe s
section
variable {X:Cx} {a b:AO} {ta tb:TE} {pos:Pos}
theorem R4{r:R2}(hr:IxR X r)(ha:PE X a ta)(hb:PE X b tb)(hs:Bp b):PE X (.Subscript a b pos) (tOp r ta tb):=by intro p9 s Y H Q I h;exact Subscript_ (uR ha hb I h λv u s2 x y H2 I2 rx ry q=>hr a b p9 s2 Y H2 x y v u Q I2 rx ry q (hs _ _))
def R5(K:PF):R2:=λx y H Q=>∃p xs i v,x=.ref p/\y=.int i/\SqL K H p xs/\atI xs i=some v/\Q v H
def R6(K:PF):R2:=λx y H Q=>∃p xs i v,x=.ref p/\y=.int i/\SqT K H p xs/\atI xs i=some v/\Q v H
def R7:R2:=λx y H Q=>∃z i c,x=.str z/\y=.int i/\z.length<=sizeLine/\atI z.cps.toList i=some c/\Q (.str ⟨#[c]⟩) H
theorem R8:IxR X (R5 X.K):=by
 intro value slice p9 s Y H x y v u Q I rx ry h hs;obtain ⟨p,xs,i,z,rfl,rfl,hq,he,q⟩:=h;cases rx;obtain ⟨t,rfl⟩:=ry;obtain ⟨its,r,pl,hz⟩:=I.list hq;obtain ⟨j,h1,h2,h3,h4,h5⟩:=uV he;obtain ⟨w,ew,rw'⟩:=r.get h2;have hl:=r.length;have hn:=gW;have fin:EP X p9 Y Q w s:=⟨z,H,I,rw',q⟩;by_cases h0:0<=i
 .have hj:i.toNat=j:=by
   rw[seqIndex_of h0 h5]at h1;exact eI h1
  exact item_listR pl.isList h0 (!0) (by rw[hj];simpa using ew) fin hs
 .have hj:(i+(its.toArray.size:Int)).toNat=j:=by
   rw[seqIndex_neg (!0) h4]at h1;rw[av,<-hl];exact eI h1
  exact subscriptTail_builtinR (x:=w) pl.isList.typeIs slot_list_getitem.lookup
   (wpAny_getItem_list_neg (Q:=λr s'=>r=w/\EP X p9 Y Q r s') pl.isList (!0) (by rw[av] <;> omega) (!0) (by rw[hj];simpa using ew) ⟨rfl,fin⟩) hs
theorem R9:IxR X (R6 X.K):=by
 intro value slice p9 s Y H x y v u Q I rx ry h hs;obtain ⟨p,xs,i,z,rfl,rfl,hq,he,q⟩:=h;cases rx;obtain ⟨t,rfl⟩:=ry;obtain ⟨its,r,pl,hz⟩:=I.tuple hq;obtain ⟨j,h1,h2,h3,h4,h5⟩:=uV he;obtain ⟨w,ew,rw'⟩:=r.get h2;have hl:=r.length;have hn:=gW;have fin:EP X p9 Y Q w s:=⟨z,H,I,rw',q⟩;exact subscriptTail_builtinR (x:=w) pl.typeIs slot_tuple_getitem.lookup
  (getItem_tuple (j:=j) (Q:=λr s'=>r=w/\EP X p9 Y Q r s') pl (!0) (!0) (by rw[av,<-hl];exact h1) (!!ew) ⟨rfl,fin⟩) hs
theorem Sd:IxR X R7:=by
 intro value slice p9 s Y H x y v u Q I rx ry h hs;obtain ⟨z,i,c,rfl,rfl,hz,he,q⟩:=h;obtain ⟨t,rfl⟩:=rx;obtain ⟨t',rfl⟩:=ry;obtain ⟨j,h1,h2,h3,h4,h5⟩:=uV he;have hl:z.cps.toList.length=z.length:=by simp[Str.length]
 rw[hl]at h1 h4 h5;have hn:=gW;exact tail_any (typeIs_str s z t) slot_str_getitem.lookup (getItem_str (c:=c) (by
  have e1:decide (i < -(2 ^ 63:Int))=false:=ce (!0);have e2:decide (i≥2 ^ 63)=false:=ce (!0);rw[e1,e2,Bool.or_false]) (by rw[h1];simpa using h2) ⟨.str ⟨#[c]⟩,H,I.tok _,⟨_,rfl⟩,q⟩) hs
theorem Sg (its:AB) (n j:Nat) (u:AN):Obj.mapSeq (·.setIfInBounds j u) { cls:=.type "list",data:=.seq its.toArray n }={ cls:=.type "list",data:=.seq (its.set j u).toArray n }:=by simp[Obj.mapSeq]
theorem Inv.lst{p9:AC}{Y:St}{H:Hp}{s:AI}{p:AQ}{xs:AR}(I:Inv X p9 Y H s)(h:H p=some (.lst xs)):
  ∃(its:AB) (n:Nat),Vals xs its/\s.heap.get? p=some { cls:=.type "list",data:=.seq its.toArray n }/\xs.length<=sizeLine:=by
 obtain ⟨z,its,n,r,e⟩:=I.hok p _ h;exact ⟨its,n,r,e,z⟩
theorem Inv.lstUpd{p9:AC}{Y:St}{H:Hp}{s:AI}{p:AQ}{xs ys:AR}{its its':AB}{n n':Nat}{f:Obj->Obj}(I:Inv X p9 Y H s)(h:H p=some (.lst xs))
  (ho:s.heap.get? p=some { cls:=.type "list",data:=.seq its.toArray n }) (hf:f { cls:=.type "list",data:=.seq its.toArray n }={ cls:=.type "list",data:=.seq its'.toArray n' }) (r:Vals ys its') (hz:ys.length<=sizeLine) (t:Nat):
  Inv X p9 Y (upd H p (.lst ys)) { s with heap:=s.heap.update p f,toks:=t }:=by
 have e:(s.heap.update p f).get? p=some { cls:=.type "list",data:=.seq its'.toArray n' }:=by rw[Heap.get?_update_self f ho (by rw[hf] <;> rfl),hf]
 refine I.write (x:=p) (e:=p) (by rw[h];trivial) (.inl rfl) (λb u hb q=>(Heap.get?_update_other _ _ (Ne.symm hb)).trans q) ⟨_,e⟩ ?_;exact ⟨hz,its',n',r,e⟩
def Sq:V->V->V->Hp->(Hp->Prop)->Prop:=λo i v H Q=>∃p xs k j,o=.ref p/\i=.int k/\H p=some (.lst xs)/\ixN xs.length k=some j/\Q (upd H p (.lst (xs.set j v)))
theorem set_list:uP X Sq:=by
 intro p9 s Y H o i v ov iv u Q I ro ri rv h;obtain ⟨p,xs,k,j,rfl,rfl,hp,hj,q⟩:=h;cases ro;obtain ⟨t,rfl⟩:=ri;obtain ⟨its,n,r,ho,hz⟩:=I.lst hp;obtain ⟨h1,h2,h3,h4⟩:=Bm hj;have hl:=r.length;have hn:=gW;have I':Inv X p9 Y (upd H p (.lst (xs.set j v))) { s with heap:=s.heap.update p (Obj.mapSeq (·.setIfInBounds j u)) }:=
  I.lstUpd hp ho (Sg its n j u) (r.set rv j) (by rw[eg];exact hz) s.toks
 by_cases h0:0<=k
 .have hk:k.toNat=j:=by
   rw[seqIndex_of h0 h4]at h1;exact eI h1
  exact PySem.W.ki_setAt ho h0 (!0) (by rw[av,<-hl];exact h4) (by rw[hk];exact ⟨_,I',q⟩)
 .have hk:(k+(its.toArray.size:Int)).toNat=j:=by
   rw[seqIndex_neg (!0) h3]at h1;rw[av,<-hl];exact eI h1
  exact PySem.W.ki_setBack ho (!0) (by rw[av,<-hl];exact h3) (!0) (by rw[hk];exact ⟨_,I',q⟩)
theorem Bq(lo hi:Option Int)(n:Nat):(sliceBounds lo hi none n).1=((HT.sIx n 0 lo:Nat):Int)/\(sliceBounds lo hi none n).2.1=((HT.sIx n n hi:Nat):Int)/\(sliceBounds lo hi none n).2.2=1:=by
 refine ⟨?_,?_,rfl⟩
 .cases lo with
  |none=>simp[sliceBounds,HT.sIx]
  |some i=>
   simp only[sliceBounds,HT.sIx,Option.getD_none,show (1:Int) > 0 by decide,if_true];by_cases h:i < 0
   .simp only[h,if_true] <;> omega
   .simp only[h,if_false] <;> omega
 .cases hi with
  |none=>simp[sliceBounds,HT.sIx]
  |some i=>
   simp only[sliceBounds,HT.sIx,Option.getD_none,show (1:Int) > 0 by decide,if_true];by_cases h:i < 0
   .simp only[h,if_true] <;> omega
   .simp only[h,if_false] <;> omega
theorem Ss(its:AB)(lo hi:Option Int):slicePick its.toArray lo hi none=((its.drop (HT.sIx its.length 0 lo)).take (HT.sIx its.length its.length hi - HT.sIx its.length 0 lo)).toArray:=by obtain ⟨h1,h2,h3⟩:=Bq lo hi its.toArray.size;unfold slicePick;rw[h1,h2,h3];simp only[sliceRange_one,pick_run,av] <;> rfl
def Su(K:PF):V->Option Int->Option Int->Hp->VK->Prop:=λx lo hi H Q=>∃a xs,x=.ref a/\SqL K H a xs/\∀p,H p=none->Q (.ref p) (upd H p (.lst (dU xs lo hi)))
theorem Br:SlR X (Su X.K):=by intro p9 s Y H x v vl vu lo hi sl Q I rx hs pl pu h;obtain ⟨a,xs,rfl,hx,q⟩:=h;cases rx;obtain ⟨its,r,ht,hz⟩:=I.list hx;have hlen:=r.length;refine ⟨"list",_,slot_list_getitem.lookup,ht.isList.typeIs,?_⟩;refine wpAny_getItem_list_slice ht.isList hs pl pu .none (by simp) ?_ (by rw[av] <;> omega);rw[Ss,<-hlen];refine ⟨.ref (~~~s),_,I.laid (t':=s.toks) (o:=.lst (dU xs lo hi)) (λb ob q=>ag _ q) (ax _) ?_,rfl,q _ (I.hok.fresh (ax _))⟩;exact ⟨ca (Bl xs lo hi) hz,_,0,(r.drop (HT.sIx xs.length 0 lo)).take (HT.sIx xs.length xs.length hi - HT.sIx xs.length 0 lo),aI _ rfl⟩
theorem Bt:bh X (.builtin "len") (λxs H Q=>∃p ys,xs=[.ref p]/\(SqL X.K H p ys\/SqT X.K H p ys)/\Q (.int ys.length) H):=by
 intro p9 s Y H xs us Q I r h;obtain ⟨p,ys,rfl,hq,q⟩:=h;obtain ⟨u,rfl,rx⟩:=vals1 r;cases rx;have hn:=gW;rcases hq with hq |hq
 .obtain ⟨its,r',pl,hz⟩:=I.list hq;have hlen:=r'.length;exact Calls.call_len_list pl.isList (by simp only[av] <;> omega) ⟨.int ys.length,H,I.tok _,⟨s.toks+1,by rw[av,hlen]⟩,q⟩
 .obtain ⟨its,r',pl,hz⟩:=I.tuple hq;have hlen:=r'.length;exact len_tuple pl (by simp only[av] <;> omega) ⟨.int ys.length,H,I.tok _,⟨s.toks+1,by rw[av,hlen]⟩,q⟩
theorem Sv:bh X (.builtin "len") (λxs H Q=>∃z,xs=[.str z]/\z.length<=sizeLine/\Q (.int z.length) H):=by intro p9 s Y H xs us Q I r h;obtain ⟨z,rfl,hz,q⟩:=h;obtain ⟨u,rfl,t,rfl⟩:=vals1 r;have hn:=gW;exact len_str (!0) ⟨.int z.length,H,I.tok _,⟨_,rfl⟩,q⟩
theorem Bu:bh X (.type "list") (λxs H Q=>∃p ys,xs=[.ref p]/\(SqL X.K H p ys\/SqT X.K H p ys)/\∀l,H l=none->Q (.ref l) (upd H l (.lst ys))):=by
 intro p9 s Y H xs us Q I r h;obtain ⟨p,ys,rfl,hq,q⟩:=h;obtain ⟨u,rfl,rx⟩:=vals1 r;cases rx;have fin:∀(its:AB),Vals ys its->ys.length<=sizeLine->∀(h':Heap)(c':Nat),(∀b o',s.heap.get? b=some o'->h'.get? b=some o')->
   h'.get? (~~~s)=some { cls:=.type "list",dict:=none,data:=.seq its.toArray c',slots:=#[] }->EP X p9 Y Q (.ref (~~~s)) { s with heap:=h' }:=λits r' hz h' c' kp e=>
  ⟨.ref (~~~s),_,I.laid (t':=s.toks) kp (ax _) (show ObjOk X.prog X.w _ h' _ (.lst ys) from ⟨hz,its,c',r',e⟩),rfl,q _ (I.hok.fresh (ax _))⟩
 rcases hq with hq |hq
 .obtain ⟨its,r',pl,hz⟩:=I.list hq;have hlen:=r'.length;obtain ⟨o,ho,hc,n,hd⟩:=pl.isList;exact call_list_seq p (.inl rfl) ho hc hd (λh' c' kp e=>fin its r' hz h' c' kp e) (by simp only[av] <;> omega)
 .obtain ⟨its,r',pl,hz⟩:=I.tuple hq;have hlen:=r'.length;obtain ⟨o,ho,hc,n,hd⟩:=pl;exact call_list_seq p (.inr rfl) ho hc hd (λh' c' kp e=>fin its r' hz h' c' kp e) (by simp only[av] <;> omega)
theorem Bv:bh X (.type "tuple") (λxs H Q=>∃p ys,xs=[.ref p]/\((SqL X.K H p ys/\∀l,H l=none->Q (.ref l) (upd H l (.tup ys)))\/(SqT X.K H p ys/\Q (.ref p) H))):=by
 intro p9 s Y H xs us Q I r h;obtain ⟨p,ys,rfl,h⟩:=h;obtain ⟨u,rfl,rx⟩:=vals1 r;cases rx;rcases h with ⟨hq,q⟩ |⟨hq,q⟩
 .obtain ⟨its,r',pl,hz⟩:=I.list hq;have hlen:=r'.length;refine call_tuple_list pl.isList (λh' kp=>?_) (by simp only[av] <;> omega);have I1:Inv X p9 Y H { s with heap:=h' }:=I.kept (t':=s.toks) kp;have I2:Inv X p9 Y (upd H h'.objs.size (.tup ys)) { s with heap:=h'.push { cls:=.type "tuple",data:=.seq its.toArray } }:=
   I1.laid (t':=s.toks) (λb o e=>ag _ e) (ax _) (show ObjOk X.prog X.w _ _ _ (.tup ys) from ⟨hz,its,r',IsTupX.new _ _⟩)
  exact ⟨.ref h'.objs.size,_,I2,rfl,q _ (I1.hok.fresh (ax _))⟩
 .obtain ⟨its,r',pl,hz⟩:=I.tuple hq;exact call_tuple_same pl ⟨.ref p,H,I,rfl,q⟩
def tyV(K:PF)(T:AL)(x:V)(H:Hp):Prop:=match x with
 |.str _=>T="str"
 |.int _=>T="int"
 |.ref p=>(T="list"/\∃xs,SqL K H p xs)\/(T="tuple"/\∃o,K.lookup p=some o/\o.cls=.type "tuple"/\o.dict=none)\/
   (T="dict"/\((∃kvs,H p=some (.dK kvs))\/∃kvs,H p=some (.dT kvs)))\/(T="set"/\∃S n,H p=some (.set S n))
 |_=>False
theorem Sw{p9:AC}{Y:St}{H:Hp}{s:AI}{T:AL}{x:V}{v:AN}(I:Inv X p9 Y H s)(r:RelV x v)(ty:tyV X.K T x H):
  s.TypeIs v T/\∀a,v=.ref a->∃ob,s.heap.get? a=some ob/\ob.dict=none:=by
 cases x with
 |str z=>
  obtain ⟨t,rfl⟩:=r;cases (show T="str" from ty);exact ⟨typeIs_str s z t,λ_ e=>nomatch e⟩
 |int i=>
  obtain ⟨t,rfl⟩:=r;cases (show T="int" from ty);exact ⟨typeIs_int s i t,λ_ e=>nomatch e⟩
 |ref p=>
  cases r;rcases ty with ⟨rfl,xs,hq⟩ |⟨rfl,o,hk,hc,hd⟩ |⟨rfl,hk⟩ |⟨rfl,S,n,hk⟩
  .obtain ⟨its,_,pl,_⟩:=I.list hq;refine ⟨pl.isList.typeIs,λa e=>?_⟩;cases e;obtain ⟨o,n,e,c,hd,_⟩:=pl;exact ⟨o,e,hd⟩
  .refine ⟨⟨o,I.kIn p o hk,hc⟩,λa e=>?_⟩;cases e;exact ⟨o,I.kIn _ o hk,hd⟩
  .have z:∃o,s.heap.get? p=some o/\o.ExactDict:=by
    rcases hk with ⟨kvs,hk⟩ |⟨kvs,hk⟩
    .obtain ⟨_,_,_,_,o,_,_,e,ex,_⟩:=I.hok p _ hk;exact ⟨o,e,ex⟩
    .obtain ⟨_,_,_,_,o,_,_,e,ex,_⟩:=I.hok p _ hk;exact ⟨o,e,ex⟩
   obtain ⟨o,e,ex⟩:=z;refine ⟨⟨o,e,ex.1⟩,λa e2=>?_⟩;cases e2;exact ⟨o,e,ex.2.1⟩
  .obtain ⟨o,_,_,_,e,ex,_⟩:=I.hok p _ hk;refine ⟨⟨o,e,ex.1⟩,λa e2=>?_⟩;cases e2;exact ⟨o,e,ex.2.1⟩
 |_=>exact False.elim ty
def tBM(K:PF)(T:AL)(r:V->AR->Hp->VK->Prop)(to:TE)(t:TA):TE:=λY H Q=>to Y H λx H1=>tyV K T x H1/\t Y H1 λxs H2=>r x xs H2 Q
variable {o e:AO} {es:AE} {to:TE} {t:TA} {name:Str} {apos cpos:Pos} {T id:AL} {r:V->AR->Hp->VK->Prop}
theorem qJ (pa:PlainAttrs T) (slot:Slot T name id) (hty:typeOf (.builtin id)=pure (.type "method_descriptor")) (hm:MtR X id r) (ho:PE X o to) (ha:PA X (e::es) t)
  (hbase:attributeBase o name X.env (eval o X.env)=eval o X.env:=by rfl)
  (hfew:((backTo cpos (starEach (e::es) X.env)).all (λx=>!x.1)&&(backToKw cpos (keywordEach [] X.env)).all (λx=>x.1.isSome)
  &&decide ((e::es).length+([]:List Keyword).length+(if ([]:List Keyword).isEmpty then 0 else 1) < 30))=true:=by rfl)
  (hline:(apos.endLine==cpos.line)=true:=by rfl) (hs:starEach (e::es) X.env=(false,eval e X.env)::starEach es X.env:=by rfl) (hplain:(backTo cpos (starEach es X.env)).any (·.1)=false:=by rfl):
  PE X (.Call (.Attribute o name apos) (e::es) [] cpos) (tBM X.K T r to t):=by
 intro p9 s Y H Q I h;refine wpAny_Call_method_late hbase hfew hline rfl (thn (ho p9 s Y H _ I h) λv s1 ⟨x,H1,I1,r1,ty,q1⟩=>?_);obtain ⟨h1,h2⟩:=Sw I1 r1 ty;refine ⟨T,id,pa,slot,hty,h1,h2,?_⟩;have hA:=ha cpos p9 s1 Y H1 _ I1 q1;rw[hs]at hA ⊢;refine Calls.callWith_builtin (by show (false||(backTo cpos (starEach es X.env)).any (·.1))=false;rw[hplain] <;> rfl) (Calls.evalArgs_plain ?_);exact thn hA λus s2 ⟨vs,H2,I2,r2,q2⟩=>hm p9 s2 Y H2 x vs v us Q I2 r1 r2 q2
end
def MtM(X:Cx)(id:AL)(r:V->AR->Hp->VK->Prop):Prop:=
 ∀(p9:AC)(s:AI)(Y:St)(H:Hp)(x:V)(xs:AR)(v:AN)(us:AB)(Q:VK),Inv X p9 Y H s->RelV x v->Vals xs us->r x xs H Q->
  ↥X (call (.builtin id) (v::us)) (EP X p9 Y Q) X.xe s
def Vals.one:∀{x:V}{us:AB},Vals [x] us->∃u,us=[u]/\RelV x u
 |_,_,.cons r .nil=>⟨_,rfl,r⟩
def Vals.eraseIdx:∀{xs:AR}{us:AB}(i:Nat),Vals xs us->Vals (xs.eraseIdx i) (us.eraseIdx i)
 |_,_,_,.nil=>.nil
 |_,_,0,.cons _ t=>t
 |_,_,i+1,.cons r t=>.cons r (Vals.eraseIdx i t)
def Vals.reverse{xs:AR}{us:AB}(h:Vals xs us):Vals xs.reverse us.reverse:=by
 induction h with
 |nil=>exact .nil
 |cons r t ih=>rw[List.reverse_cons,List.reverse_cons];exact Vals.append ih (.cons r .nil)
def Bw{α:Type}:∀(l:List α)(i:Nat),(l.eraseIdx i).length<=l.length
 |[],_=>ax _
 |_::_,0=>gg _
 |_::r,i+1=>Nat.succ_le_succ (Bw r i)
section
variable {X:Cx} {p9:AC} {σ:St} {H:Hp} {s:AI} {l b:AQ} {xs ys zs:AR}
theorem Inv.lset{its its':AB}{n:Nat}{f:Array AN->Array AN}{t':Nat}(I:Inv X p9 σ H s)(hH:H l=some (.lst xs))
  (e:s.heap.get? l=some { cls:=.type "list",data:=.seq its.toArray n }) (hf:f its.toArray=its'.toArray) (hv:Vals ys its') (hz:ys.length<=sizeLine):
  Inv X p9 σ (upd H l (.lst ys)) { s with heap:=s.heap.update l (Obj.mapSeq f),toks:=t' }:=by
 have q:=PySem.IsL.update e f;rw[hf]at q;refine I.write (x:=l) (e:=l) (by rw[hH];exact trivial) (.inl rfl) (λb' u hb hu=>(Heap.get?_update_other s.heap (Obj.mapSeq f) (Ne.symm hb)).trans hu) ⟨_,q⟩ ?_;exact ⟨hz,its',_,hv,q⟩
theorem Inv.lnew{its:AB}{t':Nat}(I:Inv X p9 σ H s)(hv:Vals ys its)(hz:ys.length<=sizeLine):
  Inv X p9 σ (upd H (~~~s) (.lst ys)) { s with heap:=s.heap.push { cls:=.type "list",data:=.seq its.toArray },toks:=t' }:=
 I.laid (λ_ _ q=>ag _ q) (ax _) ⟨hz,its,0,hv,aI _ rfl⟩
theorem Inv.fresh(I:Inv X p9 σ H s):H (~~~s)=none:=I.hok.fresh (ax _)
theorem Inv.lstM (I:Inv X p9 σ H s) (hH:H l=some (.lst xs)):xs.length<=sizeLine/\∃(its:AB) (n:Nat),Vals xs its/\xs.length=its.length/\s.heap.get? l=some { cls:=.type "list",data:=.seq its.toArray n }:=by obtain ⟨z,its,n,r,e⟩:=I.hok l _ hH;exact ⟨z,its,n,r,r.length,e⟩
theorem Sy{n:Nat}(h:n<=sizeLine):Builtin.List.listTooLong n=false:=by unfold Builtin.List.listTooLong;exact ce (!0)
end
section
variable {X:Cx}
def SJ:V->AR->Hp->VK->Prop:=λx vs H Q=>∃l xs y,x=.ref l/\vs=[y]/\H l=some (.lst xs)/\xs.length < sizeLine/\Q .non (upd H l (.lst (xs++[y])))
theorem SM:MtM X "list.append" SJ:=by intro p9 s Y H x vs v us Q I rx rv h;obtain ⟨l,xs,y,rfl,rfl,hH,hz,q⟩:=h;cases rx;obtain ⟨u,rfl,ru⟩:=rv.one;obtain ⟨z,its,n,r,hl,e⟩:=I.lstM hH;refine call_meets F.slot_list_append ⟨_,e,rfl⟩ F.entry_list_append (F.args_list_append_2 _ _) (PySem.list_append l its.toArray n u (by rw[av];omega)) ⟨e,?_⟩;refine ⟨.non,_,I.lset (its':=its++[u]) hH e (by simp) (r.append (.cons ru .nil)) ?_,rfl,q⟩;rw[aw,dv];omega
def SN:V->AR->Hp->VK->Prop:=λx vs H Q=>∃l b xs zs,x=.ref l/\vs=[.ref b]/\H l=some (.lst xs)/\H b=some (.lst zs)/\xs.length+zs.length<=sizeLine/\Q .non (upd H l (.lst (xs++zs)))
theorem SQ:MtM X "list.extend" SN:=by
 intro p9 s Y H x vs v us Q I rx rv h;obtain ⟨l,b,xs,zs,rfl,rfl,hH,hB,hz,q⟩:=h;cases rx;obtain ⟨u,rfl,ru⟩:=rv.one;cases ru;obtain ⟨z,its,n,r,hl,e⟩:=I.lstM hH;obtain ⟨z2,its2,n2,r2,hl2,e2⟩:=I.lstM hB;have hsz:its.toArray.size+its2.toArray.size<=sizeLine:=by rw[av,av];omega
 have hlong:¬(!its.toArray.isEmpty&&Builtin.List.listTooLong (its.toArray.size+its2.toArray.size))=true:=by rw[Sy hsz,gl];exact br
 refine call_meets F.slot_list_extend ⟨_,e,rfl⟩ F.entry_list_extend (F.args_list_extend_2 _ _)
  (AutoSeq1.list_extend_list_list_0 l its.toArray n b its2.toArray n2 hlong (by rw[av];omega) (!0)) ⟨e,e2,?_⟩
 refine ⟨.non,_,I.lset (its':=its++its2) hH e (by simp) (r.append r2) ?_,rfl,q⟩;rw[aw];omega
def SX:V->AR->Hp->VK->Prop:=λx vs H Q=>∃l xs i k y,x=.ref l/\vs=[.int i]/\H l=some (.lst xs)/\-(2 ^ 63)<=i/\i < 2 ^ 63/\seqIndex? i xs.length=some k/\xs[k]?=some y/\Q y (upd H l (.lst (xs.eraseIdx k)))
theorem S5:MtM X "list.pop" SX:=by
 intro p9 s Y H x vs v us Q I rx rv h;obtain ⟨l,xs,i,k,y,rfl,rfl,hH,h1,h2,hk,hy,q⟩:=h;cases rx;obtain ⟨u,rfl,ru⟩:=rv.one;obtain ⟨t,rfl⟩:=ru;obtain ⟨z,its,n,r,hl,e⟩:=I.lstM hH;obtain ⟨w,hw,rw'⟩:=r.get hy;refine call_meets F.slot_list_pop ⟨_,e,rfl⟩ F.entry_list_pop (F.args_list_pop_2 _ _)
  (MeetsSeq.list_pop_at l its.toArray n i t k w (fitsIndex_both h1 h2) (by rw[av,<-hl];exact hk) (by rw[<-fg];exact hw) (by rw[av];omega)) ⟨e,?_⟩
 refine ⟨y,_,I.lset (its':=its.eraseIdx k) hH e ?_ (r.eraseIdx k) ?_,rw',q⟩
 .show its.toArray.eraseIdxIfInBounds k=(its.eraseIdx k).toArray;rw[List.eraseIdxIfInBounds_toArray]
 .have:=Bw xs k;omega
theorem len_rep{α:Type}(xs:List α)(k:Nat):(List.replicate k xs).flatten.length=k * xs.length:=by
 induction k with
 |zero=>simp
 |succ k ih=>rw[ft,ia,aw,ih,Nat.succ_mul,Nat.add_comm]
end
end L2
namespace Att
open PySem PySem.W PySem.Calls PyProof.Rows
def S6{P:Params}{h:Heap}:∀(ns:List Int)(vs:AB),WellAll P h vs (ns.map WData.int)->IntsAre vs ns:=by
 intro ns;induction ns with
 |nil=>
  intro vs w;rw[List.map_nil]at w;cases w;exact .nil
 |cons n ns ih=>
  intro vs w;rw[List.map_cons]at w;cases w with
  |cons a b=>
   cases a;exact .cons _ _ (ih _ b)
def S7{l:OpenLaw}{n:Nat}(hn:l.most=some n){P:Params}{h:Heap}{args:List WData}{vals:AB}
  (hpre:l.row.toRowW.claim.pre args=true) (hwl:WellAll P h vals args):
  ∃a vs ns,vals=[Value.ref a]/\args=[WData.list (ns.map WData.int)]/\h.get? a=some { cls:=.type "list",data:=.seq vs.toArray }/\IntsAre vs ns/\ns.length<=n:=by
 have hsh:WShape.hasAll [] args [.list .int]=true:=(pre_splitW hpre).1;have hc:l.pre.holds [] { args:=args }=true:=(pre_splitW hpre).2;obtain ⟨d,r,rfl,h1,h2⟩:=hasAllW_cons hsh;obtain rfl:=hasAllW_nil h2;obtain ⟨xs,rfl,h3⟩:=hasW_list h1;obtain ⟨ns,rfl⟩:=items_int h3;have hlen:ns.length<=n:=by
  unfold OpenLaw.pre at hc;have h4:(WTm.not (.lt (.lit (.int (n:Int))) (.len (.arg 0)))).holds [] { args:=[.list (ns.map .int)] }=true:=by have h4:=(holds_andW hc).1;rw[hn]at h4;exact h4
  have h5:=condW_of h4 (w_not (w_lt w_lit (w_len_list (w_arg rfl))));rw[List.length_map]at h5;refine Nat.le_of_not_lt λq=>?_;have q':(n:Int) < ((ns.length:Nat):Int):=by omega
  first
   | (rw[decide_eq_true q']at h5;exact absurd h5 (!1))
   | (simp at h5;omega)
 cases hwl with
 |cons w1 w2=>
  cases w2;cases w1 with
  |list ho hall=>exact ⟨_,_,ns,rfl,rfl,ho,S6 ns _ hall,hlen⟩
def S8(l:OpenLaw)(args:List WData):l.row.toRowW.claim.post args (.bool true) args=true:=
 postW_of (r:=l.row.toRowW) (X:=(true==true))
  (show WShape.has [] (.bool true) .bool=true by first |rfl |decide |simp[WShape.has,WShape.arms,WShape.armsAll])
  (show (WTm.eq .res (.lit (.bool true))).value [] { args:=args,res:=some (.bool true),after:=args }=some (.bool (true==true)) from w_eq_bool (w_res rfl) w_lit) rfl
def attach_call{l:OpenLaw}{n:Nat}{q:AK}{loose:AD}{XP:(AH)->Heap->Prop}{YP:World->Heap->Prop}{d:DefRec}
  (hn:l.most=some n) (hdf:d.params.defaults=[])
  (call:∀(w:World)(s₀ s₁:AI)(mg mb:AH)(fa:AQ)(o:Obj)(pm cd doc:AN)(a:AQ)(vs:AB)(ns:List Int),
   Ground q loose [] XP w s₀ mg mb s₁.heap->YP w s₁.heap->
   s₁.heap.get? fa=some o->o.data=.func (docDef d.name d.params d.body d.scope pm cd doc)->s₁.heap.CodeRec cd d.name->mg d.name=some (.ref fa)->
   s₁.heap.get? a=some { cls:=.type "list",data:=.seq vs.toArray }->IntsAre vs ns->ns.length<=n->s₁.gens=#[]->
   codeAny (model l.prog w) callerA (.call (.ref fa) ⟨[.ref a],[]⟩) (λr s'=>r=.ok (.ret (.bool true))/\OldK s₁.heap s'.heap/\s'.os=s₁.os/\AllBare s'.gens) s₁):
  WalkO q loose XP YP l.row.toRowW d [] (λf vs=>PySem.call f vs):=by
 intro w s₀ s₁ mg mb G Y fa o pm cd doc dV kV ho hd hcd hD hmg hg args vals as hpre hlay hrd hwl hlo;obtain rfl:dV=.none:=Dflts.none hD hdf;obtain rfl:kV=.none:=Dflts.noKw hD;obtain ⟨a,vs,ns,rfl,rfl,hobj,hints,hlen⟩:=S7 hn hpre hwl;refine enter_call (codeAny_mono (call w s₀ s₁ mg mb fa o pm cd doc a vs ns G Y ho (fd_plain hd) hcd hmg hobj hints hlen hg) λr s' hq=>?_);obtain ⟨rfl,h2,h3,h4⟩:=hq;exact ⟨.inl ⟨.bool true,.bool true,[],rfl,λ_=>rfl,.bool true,S8 l _,λ_=>⟨List.Pairwise.nil,λ_ hm=>(nomatch hm)⟩⟩,h2,h3,h4⟩
end Att
namespace L2
open PySem PySem.Spec PyProof.Rows
def uW:∀{vs:AB}{ns:List Int},IntsAre vs ns->Vals (ns.map V.int) vs
 |_,_,.nil=>.nil
 |_,_,.cons n t h=>.cons ⟨t,rfl⟩ (uW h)
def Only(H:Hp):Prop:=∀b,H b=none\/∃o xs,H b=some (.frz o (.lst xs))
def S9{P:AK}{w:World}{K:PF}{mg mb:AH}{CX:CXT}{k:Nat}{fa a:AQ}{fd:AJ}{x:Str}{sp:Sp}{s₁:AI}{vs:AB}{ns:List Int}
  (KX:K.In s₁.heap) (hns:s₁.heap.Ns mainGlobals mg) (hb:s₁.heap.Ns builtinsNs mb) (hbb:∀x:Str,x≠"__name__"->mb x=bootBuiltins x) (hlim:s₁.heap.NoLimit) (hg:s₁.gens=#[])
  (ha:s₁.heap.get? a=some { cls:=.type "list",data:=.seq vs.toArray }) (hi:IntsAre vs ns) (hl:ns.length<=sizeLine) (hr:Room k callerA)
  (F:∀base:Heap,K.In base->base.Ns mainGlobals mg->FnOk P w K mg base CX k fa fd [x] sp) (hbind:∀(s:AI)(u:AN),BindsTo s fd ⟨[u],[]⟩ [(x,u)])
  (hsp:∀H:Hp,Only H->SqL K H a (ns.map V.int)->sp [.ref a] H (λv _=>v=.bl true) λ_ _ _=>False)
  (hCX:∀H e s',CX [] H s₁ (λ_ _ _=>False) e s'->False):
  codeAny (model P w) callerA (.call (.ref fa) ⟨[.ref a],[]⟩) (λr s'=>r=.ok (.ret (.bool true))/\OldK s₁.heap s'.heap/\s'.os=s₁.os/\AllBare s'.gens) s₁:=by
 have rv:=uW hi;have lenV:=hi.length
 -- from an abstract heap in which nothing but the script may be tracked
 have core:∀H:Hp,Only H->SqL K H a (ns.map V.int)->HOk P w H s₁.heap->(∀b,H b≠none->b=a)->(H a≠none->K.lookup a=none)->
   codeAny (model P w) callerA (.call (.ref fa) ⟨[.ref a],[]⟩) (λr s'=>r=.ok (.ret (.bool true))/\OldK s₁.heap s'.heap/\s'.os=s₁.os/\AllBare s'.gens) s₁:=by
  intro H hO hS hok hA hK;have base_of:∀{b:AQ}{o:Obj},s₁.heap.get? b=some o->H b=none->(fL s₁.heap H).get? b=some o:=λe n=>Ph e n;have noA:∀{b:AQ}{o:Obj}{es:Array DictEntry}{ep:Nat},s₁.heap.get? b=some o->o.data=.dict es ep->H b=none:=λ{b o es ep} e d=>by
   cases q:H b with
   |none=>rfl
   |some u=>
    have e':b=a:=hA b (by rw[q];simp);subst e';rw[ha]at e;cases e;have d':Data.seq vs.toArray _=Data.dict es ep:=d;cases d'
  have nsK:∀{b:AQ}{m:AH},s₁.heap.Ns b m->(fL s₁.heap H).Ns b m:=λ{b m} ⟨o,es,ep,e,d,r⟩=>⟨o,es,ep,base_of e (noA e d),d,r⟩;have hKb:K.In (fL s₁.heap H):=λb o e=>base_of (KX b o e) (by
   cases q:H b with
   |none=>rfl
   |some u=>
    have e':b=a:=hA b (by rw[q];simp);subst e';rw[hK (by rw[q];simp)]at e;cases e)
  have hM:Mod K mg (fL s₁.heap H):=⟨hKb,nsK hns,⟨mb,nsK hb,hbb⟩,let ⟨mc,h1,h2⟩:=hlim;⟨mc,nsK h1,h2⟩⟩;have e0:Env0 P w K mg (fL s₁.heap H) callerA [] s₁ H:=⟨rfl,hM,λb o e=>Pj e,Nat.le_of_eq (Pg _ _),trivial,λb hb=>absurd (show b∈([]:List AQ) from hb) (by simp),hok,.of_eq hg⟩;refine codeAny_mono ((F _ hKb (nsK hns)).run callerA [] s₁ H ⟨[.ref a],[]⟩ [.ref a] [.ref a] _ _ hr e0 (hbind s₁ (.ref a)) (.cons rfl .nil) (hsp H hO hS)) λr s' h=>?_;cases r with
  |error e=>exact (hCX H e s' h).elim
  |ok fl=>
   cases fl with
   |next=>exact False.elim h
   |brk=>exact False.elim h
   |cont=>exact False.elim h
   |ret u=>
    obtain ⟨v,H',os,bare,un,hok',r',q⟩:=h;have q':v=.bl true:=q;subst q';obtain rfl:u=Value.bool true:=r';refine ⟨rfl,OldK.of_keep λb o e=>?_,os,bare⟩;cases q:H b with
    |none=>exact un.keep b o e q (by intro z;exact absurd (show b∈([]:List AQ) from z) (by simp)) (by simp)
    |some u=>
     rcases hO b with z |⟨ob,xs,z⟩
     .rw[q]at z;cases z
     .have z2:=un.frzs b ob _ z;obtain ⟨e1,_⟩:=hok b _ z;obtain ⟨e2,_⟩:=hok' b _ z2;rw[e]at e1;cases e1;exact e2
 cases hk:K.lookup a with
 |some o=>
  -- the script is one of the module's own objects
  have e:=KX a o hk;rw[ha]at e;cases e;refine core (λ_=>none) (λ_=>.inl rfl) (.inr ⟨_,vs.toArray,_,hk,rfl,rfl,rfl,by rw[av,lenV];exact hl,!!rv⟩) (λb u z=>by have z':(none:Option HO)=some u:=z;cases z') (λb z=>absurd rfl z) λz=>absurd rfl z
 |none=>
  refine core (λb=>if b=a then some (.frz { cls:=.type "list",data:=.seq vs.toArray } (.lst (ns.map V.int))) else none) (λb=>?_) (.inl (.inr ⟨{ cls:=.type "list",data:=.seq vs.toArray },if_pos rfl⟩)) (λb u z=>?_) (λb z=>?_) λ_=>hk
  .by_cases hb:b=a
   .exact .inr ⟨_,_,if_pos hb⟩
   .exact .inl (if_neg hb)
  .by_cases hb:b=a
   .have z':=(if_pos hb).symm.trans z;cases z';subst hb;exact ⟨ha,by rw[af];exact hl,vs,_,rv,ha⟩
   .have z':=(if_neg hb).symm.trans z;cases z'
  .by_cases hb:b=a
   .exact hb
   .exact absurd (if_neg hb) z
def Tc{l:PySem.W.OpenLaw}{n k:Nat}{q:AK}{loose:AD}{XP:(AH)->Heap->Prop}{YP:World->Heap->Prop}{d:DefRec}{K:Params->PF}{CX:World->CXT}{sp:World->Sp}{x:Str}
  (hn:l.most=some n) (hn2:n<=sizeLine) (hdf:d.params.defaults=[]) (hr:Room k callerA)
  (hY:∀(w:World)(h:Heap),YP w h->(K w.params).In h)
  (F:∀(w:World)(mg:AH)(fa:AQ)(h:Heap),(K w.params).In h->h.Ns mainGlobals mg->mg d.name=some (.ref fa)->
   ∃fd:AJ,(∀(s:AI)(u:AN),BindsTo s fd ⟨[u],[]⟩ [(x,u)])/\
    ∀base:Heap,(K w.params).In base->base.Ns mainGlobals mg->FnOk l.prog w (K w.params) mg base (CX w) k fa fd [x] (sp w))
  (hsp:∀(w:World)(H:Hp)(a:AQ)(ns:List Int),ns.length<=n->Only H->SqL (K w.params) H a (ns.map V.int)->sp w [.ref a] H (λv _=>v=.bl true) λ_ _ _=>False)
  (hCX:∀(w:World)(H:Hp)(s:AI)(e:AN)(s':AI),CX w [] H s (λ_ _ _=>False) e s'->False):
  PySem.W.WalkO q loose XP YP l.row.toRowW d [] (λf vs=>PySem.call f vs):=by
 refine Att.attach_call hn hdf λw s₀ s₁ mg mb fa o pm cd doc a vs ns G Y ho hd hcd hmg hobj hints hlen hg=>?_;have KX:=hY w _ Y;obtain ⟨fd,hb,hF⟩:=F w mg fa _ KX G.T.g hmg;exact S9 KX G.T.g G.T.b G.T.builtins G.T.nolimit hg hobj hints (ca hlen hn2) hr hF hb (λH hO hS=>hsp w H a ns hlen hO hS) λH e s'=>hCX w H s₁ e s'
def kE(s:Stmt):Arguments:=match s with
 |.FunctionDef _ a _ _ _ _ _ _ _ _=>a
 |_=>{ posonlyargs:=[],args:=[],vararg:=none,kwonlyargs:=[],kw_defaults:=[],kwarg:=none,defaults:=[] }
def aG(s:Stmt):AF:=match s with
 |.FunctionDef _ _ b _ _ _ _ _ _ _=>b
 |_=>[]
def ao(s:Stmt):Scope:=match s with
 |.FunctionDef _ _ _ _ _ _ sc _ _ _=>sc
 |_=>{ kind:=.function,names:=[],isGenerator:=false,isCoroutine:=false }
abbrev CX0:CXT:=λ_ _ _ _ _ _=>False
structure Fun(K:PF)(x qual:Str)(st:Stmt)(f:AQ)(fd:AJ):Prop where
 ex:∃(oc:AN)(od:Option AQ)(kV doc pm:AN)(an:Option AQ)(cdv ct:AN)(osl:Array (Option AN)),
  fd=PySem.W.fnOf x qual (kE st) (aG st) (ao st) .none kV doc pm an cdv ct/\K.lookup f=some ⟨oc,od,.func fd,osl⟩/\PySem.W.codeIn K cdv qual=true
 kp:PySem.W.keepIn K (.ref f)=true
section
variable {P:AK} {w:World} {K:PF} {mg:AH} {base:Heap}
theorem Fun.binds{x qual:Str}{st:Stmt}{f:AQ}{fd:AJ}{ps:AD}(F:Fun K x qual st f fd)
  (h:∀(kV doc pm:AN)(an:Option AQ)(cdv ct:AN)(us:AB),us.length=ps.length->bindArgs (PySem.W.fnOf x qual (kE st) (aG st) (ao st) .none kV doc pm an cdv ct) ⟨us,[]⟩=pure (ps.zip us)):Binds K fd ps []:=by
 obtain ⟨oc,od,kV,doc,pm,an,cdv,ct,osl,rfl,lk,hcd⟩:=F.ex;exact .all (h kV doc pm an cdv ct)
theorem Td{x qual:Str}{st:Stmt}{f:AQ}{oc:AN}{od an:Option AQ}{osl:Array (Option AN)}{kV doc pm cdv ct:AN}(l:K.lookup f=some ⟨oc,od,.func (PySem.W.fnOf x qual (kE st) (aG st) (ao st) .none kV doc pm an cdv ct),osl⟩)
  (c:PySem.W.codeIn K cdv qual=true) (k:PySem.W.keepIn K (.ref f)=true):Fun K x qual st f (PySem.W.fnOf x qual (kE st) (aG st) (ao st) .none kV doc pm an cdv ct):=⟨⟨oc,od,kV,doc,pm,an,cdv,ct,osl,rfl,l,c⟩,k⟩
end
section
variable {X:Cx}
theorem pv (i:Nat) {x:Str} {pos:Pos} (hN:X.N[i]?=some x:=by rfl) (hv:Vis X.env.scope x:=by first |exact Or.inl rfl |exact Or.inr (Or.inl rfl) |exact Or.inr (Or.inr rfl)) (hd:(x==("__debug__":Str))=false:=by decide)
  (hcd:(x==("__classdict__":Str))=false:=by decide):PE X (.Name x pos) (Ah i):=Ai hN hv hd hcd
end
end L2
set_option maxHeartbeats 4000000
namespace L2
open PySem PySem.Spec PyProof.Rows
section
variable {X:Cx} {p9:AC} {σ:St} {H:Hp} {s:AI} {h':Heap}
theorem Inv.turnedL{t':Nat}{ch:List AQ}(I:Inv X p9 σ H s)(hf:∀b∈ch,cM X p9 H b)(k:∀b o,b∉ch->s.heap.get? b=some o->h'.get? b=some o):
  Inv X p9 σ H { s with heap:=h',toks:=t' }:=by
 have nit:∀b u,H b=some u->b∉ch:=λb u e z=>by
  have q:=(hf b z).1;rw[q]at e;cases e
 refine I.step (g':=s.gens) (d':=s.drawn) (ch:=ch) (λb hb=>?_) (λb o _ _ hc e _=>k b o hc e) (λb o _ _ hc e _=>⟨o.slots,k b o hc e⟩) (λ_ _ _ _ n=>n)
  (λb o hc e=>⟨o,k b o hc e⟩) (λ_ _ e=>e) (λ_ _ _ e=>e) (λb ps e=>⟨#[],by rw[e];simp⟩) (λm hm=>?_) (λb u e=>?_) I.bare
 .obtain ⟨_,f1,_,f3,f4,f5⟩:=hf b hb;exact ⟨f3,f1,f4,f5⟩
 .obtain ⟨o,es,ep,ho,r⟩:=hm;exact ⟨o,es,ep,k _ o (λz=>(hf _ z).2.1 rfl) ho,r⟩
 .refine (I.hok b u e).stay (λc v hc q=>k c v ?_ q) (λ_ q=>q) λ_ _ q=>q;rcases hc with z |z
  .rw[z];exact nit b u e
  .exact nit c _ z
theorem Inv.track{T:AQ}{o:HO}(I:Inv X p9 σ H s)(hT:cM X p9 H T)(new:ObjOk X.prog X.w (upd H T o) s.heap T o):Inv X p9 σ (upd H T o) s:=by
 have hn:=hT.1;have hok:HOk X.prog X.w (upd H T o) s.heap:=λb u e=>by
  by_cases hb:b=T
  .subst hb;rw[cQ]at e;cases e;exact new
  .rw[aJ hb]at e;exact (I.hok b u e).stay (λc v _ q=>q) (λc q=>by rw[aJ (bz q hn)];exact q) λc xs q=>by rw[aJ (bz q hn)];exact q
 obtain ⟨hp,g,d,tk,os⟩:=s;refine I.step (h':=hp) (g':=g) (d':=d) (t':=tk) (ch:=[T]) (λb hb=>?_) (λb o _ _ _ e _=>e) (λb o _ _ _ e _=>⟨o.slots,e⟩) (λb u hc _ n=>?_)
  (λb o _ e=>⟨o,e⟩) (λb xs e=>by rw[aJ (bz e hn)];exact e) (λb u v e=>by rw[aJ (bz e hn)];exact e) (λb ps e=>⟨#[],by rw[aJ (bz e hn),e];simp⟩) (λm hm=>hm) hok I.bare
 .have e:b=T:=by simpa using hb
  subst e;obtain ⟨_,f1,_,f3,f4,f5⟩:=hT;exact ⟨f3,f1,f4,f5⟩
 .rw[aJ (!!hc)];exact n
end
def Its(x:Str):It:=⟨λi _=>i < x.cps.size,λi H v H'=>H'=H/\∃c,x.cps[i]?=some c/\v=.str ⟨#[c]⟩,λi _=>i=x.cps.size⟩
def Bx{prog:AK}{w:World}{A:AM}(hh:A.handled=none)(I:AQ)(x:Str)(t:Tok):
  Walks prog w A I [I] [I] x.cps.size (SignAt x) (λi h=>h.IsStrIter I (strIterType x) x t i):=by
 unfold strIterType;split
 .exact Walks.strAscii hh I x t
 .exact Walks.strWide hh I x t
def uX{P:AK}{w:World}{K:PF}{tg:AO}(it:AQ)(x:Str)(t:Tok):Turn P w K tg (Its x) [it] it (λi h=>h.IsStrIter it (strIterType x) x t i) where
 mem:=by simp
 obj:=λi h st b hb=>by
  have e:b=it:=by simpa using hb
  subst e;obtain ⟨o,e,c,d⟩:=st;exact ⟨o,e,λv z=>by rw[d]at z;cases z⟩
 keep:=λi h h' st k=>let ⟨o,ho,r⟩:=st;⟨o,k it (by simp) o ho,r⟩
 item:=by intro X hP hw hK hc i p9 s Y H E I hf st hg;subst hP hw hK;obtain ⟨f0,f1,f2,f3,f4,f5⟩:=hf it (by simp);have W:=Bx (prog:=X.prog) (w:=X.w) (I.ok.hd hc) it x t;refine W.item i s _ _ hg st λv h' tk hv st' kk=>?_;obtain ⟨c,u,e,rfl⟩:=hv;have I1:Inv X p9 Y H { s with heap:=h',toks:=tk }:=I.turned (λb o hb e=>kk b o (!!hb) e) f0 f1 f3 f4 f5;obtain ⟨o,eo,cc,d⟩:=id st';exact ⟨_,rfl,qF (s:={ s with heap:=h',toks:=tk }) (n:=strIterType x) eo cc d (by unfold strIterType;split <;> decide) ⟨.str ⟨#[c]⟩,H,I1,⟨u,rfl⟩,⟨rfl,c,e,rfl⟩,st',λb hb=>(hf b hb).1⟩⟩
 done:=by intro X hP hw hK hc i p9 s Y H E I hf st hg;subst hP hw hK;obtain ⟨f0,f1,f2,f3,f4,f5⟩:=hf it (by simp);have W:=Bx (prog:=X.prog) (w:=X.w) (I.ok.hd hc) it x t;have hg':i=x.cps.size:=hg;subst hg';exact W.done s _ _ st λh' tk kk=>⟨rfl,I.turned (λb o hb e=>kk b o (!!hb) e) f0 f1 f3 f4 f5⟩
 self:=λA i s Q E st h=>by
  unfold strIterType at st;split at st
  .exact wpAny_pyIter_striter_ascii st h
  .exact wpAny_pyIter_striter_wide st h
def bW(env:Env):List (Str×NameKind)->List (Str×AQ)->List (Str×AQ)
 |[],cs=>cs
 | (n,k)::r,cs=>bW env r (if (k==.free)=true then (match env.cells.lookup n with |some c=>(n,c)::cs |none=>cs) else cs)
def By{env:Env}:∀{l:List (Str×NameKind)}{cs:List (Str×AQ)},(∀x c,cs.lookup x=some c->env.cells.lookup x=some c)->∀x c,(bW env l cs).lookup x=some c->env.cells.lookup x=some c
 |[],_,h,x,c,e=>h x c e
 | (n,k)::r,cs,h,x,c,e=>by
  refine By (l:=r) (cs:=_) ?_ x c e;intro y d q;by_cases hk:(k==NameKind.free)=true
  .rw[if_pos hk]at q;cases hn:env.cells.lookup n with
   |none=>rw[hn]at q;exact h y d q
   |some c'=>
    rw[hn]at q;simp only[List.lookup_cons]at q;cases hy:y==n with
    |true=>
     rw[hy]at q;have e1:y=n:=eq_of_beq hy;rw[e1,hn];exact q
    |false=>rw[hy]at q;exact h y d q
  .rw[if_neg hk]at q;exact h y d q
def BJ{env:Env}{x:Str}:∀{l:List (Str×NameKind)}{cs:List (Str×AQ)},(cs.lookup x).isSome=true->((bW env l cs).lookup x).isSome=true
 |[],_,h=>h
 | (n,k)::r,cs,h=>by
  refine BJ (l:=r) (cs:=_) ?_;by_cases hk:(k==NameKind.free)=true
  .rw[if_pos hk];cases hn:env.cells.lookup n with
   |none=>exact h
   |some c'=>
    simp only[List.lookup_cons];cases hy:x==n with
    |true=>rfl
    |false=>exact h
  .rw[if_neg hk];exact h
def BK{env:Env}{x:Str}(hx:(env.cells.lookup x).isSome=true):∀{l:List (Str×NameKind)}{cs:List (Str×AQ)},(x,NameKind.free)∈l->((bW env l cs).lookup x).isSome=true
 | (n,k)::r,cs,h=>by
  rcases bB.mp h with e |h
  .cases e;refine BJ (l:=r) (cs:=_) ?_;rw[if_pos (show (NameKind.free==NameKind.free)=true by decide)];obtain ⟨c,hc⟩:=cm.mp hx;rw[hc];simp
  .exact BK hx (l:=r) h
def kI{scope:Scope}{env:Env}(h:∀y∈scope.names,y.2=NameKind.free->(env.cells.lookup y.1).isSome=true):closureFor scope env=pure (bW env scope.names []):=by
 simp only[closureFor];generalize ([]:List (Str×AQ))=cs;generalize scope.names=l at h;induction l generalizing cs with
 |nil=>rfl
 |cons y r ih=>
  obtain ⟨n,k⟩:=y;have ih':=λcs=>ih cs λy hy=>h y (bi _ hy);rw[fA];by_cases hk:(k==NameKind.free)=true
  .have hk':k=NameKind.free:=eq_of_beq hk;obtain ⟨c,hc⟩:=cm.mp (h (n,k) bg hk');have e1:bW env ((n,k)::r) cs=bW env r ((n,c)::cs):=by
    rw[bW,if_pos hk];show bW env r (match env.cells.lookup n with |some c=>(n,c)::cs |none=>cs)=_;have hc':env.cells.lookup n=some c:=hc;rw[hc']
   have e2:cellOf env n=pure c:=by unfold cellOf;have hc':env.cells.lookup n=some c:=hc;rw[hc']
   rw[e1,<-ih' ((n,c)::cs)];simp only[hk,if_true,e2];rfl
  .have e1:bW env ((n,k)::r) cs=bW env r cs:=by rw[bW,if_neg hk]
   rw[e1,<-ih' cs];simp only[hk,if_false];rfl
def uY{env:Env}{x:Str}:∀{names:List (Str×NameKind)},
  (names.map λ(n,k)=>if (k==NameKind.free&&env.scope.kind==.function&&env.kindOf n==some .cell) then (n,NameKind.cell) else (n,k)).lookup x=
   (names.lookup x).map λk=>if (k==NameKind.free&&env.scope.kind==.function&&env.kindOf x==some .cell)=true then NameKind.cell else k
 |[]=>rfl
 | (n,k)::r=>by
  have ih:=@uY env x r;rw[aS];have hh:∀(c:Prop)[Decidable c],(if c then (n,NameKind.cell) else (n,k))=(n,if c then NameKind.cell else k):=λc _=>by split <;> rfl
  show List.lookup x ((if (k==NameKind.free&&env.scope.kind==.function&&env.kindOf n==some .cell)=true then (n,NameKind.cell) else (n,k))::_)=_;rw[hh];simp only[List.lookup_cons];cases hx:x==n with
  |true=>
   have e1:x=n:=eq_of_beq hx;subst e1;rfl
  |false=>exact ih
abbrev Cx.comp(X:Cx)(N':AD)(scope:Scope)(cl:List (Str×AQ))(C:AQ)(s₁:AI)(H₁:Hp)(fp:List AQ)(pn:AC):Cx where
 prog:=X.prog
 w:=X.w
 K:=X.K
 mg:=X.mg
 base:=X.base
 A:=X.A
 N:=N'
 s₀:=s₁
 H₀:=H₁
 env:=compEnvC scope cl C X.env
 outer:=X.stack
 stack:=X.stack
 ex:=fp
 fn:=λ_=>false
 calm:=X.calm
 pn:=pn
 xe:=λ_ _=>False
def PIf(X:Cx)(ifs:AE)(t:TT):Prop:=
 ∀(p9:AC)(s:AI)(Y:St)(H:Hp)(Q:Bool->Hp->Prop),Inv X p9 Y H s->t Y H Q->
  ↥X (forIn ifs true λc r=>if r=true then do let ok <-isTrue c X.env (eval c X.env);pure (ForInStep.yield ok) else pure (ForInStep.yield r)) (TP X p9 Y Q) X.xe s
def Te:TT:=λ_ H Q=>Q true H
def Tf{X:Cx}:PIf X [] Te:=λ_ _ _ H _ I h=>wpAny_tests_nil ⟨H,I,h⟩
def Th{X:Cx}{c:AO}{t:TT}(h:PT X c t):PIf X [c] t:=λp9 s Y H Q I q=>wpAny_tests_one (h p9 s Y H Q I q)
def dI(cap:List (Option Nat))(Y:St):St:=cap.map λo=>match o with |none=>none |some j=>(Y[j]?).join
def Caps(X:Cx)(scope:Scope):AD->List (Option Nat)->Prop
 |[],[]=>True
 |_::N',none::cap=>Caps X scope N' cap
 |x::N',some j::cap=>(X.N[j]?=some x/\scope.names.lookup x=some NameKind.free)/\Caps X scope N' cap
 |_,_=>False
def Caps.len{X:Cx}{scope:Scope}:∀{N':AD}{cap:List (Option Nat)},Caps X scope N' cap->cap.length=N'.length
 |[],[],_=>rfl
 |_::N',none::cap,h=>by
  have:=Caps.len (N':=N') (cap:=cap) h;simp[this]
 |_::N',some _::cap,h=>by
  have:=Caps.len (N':=N') (cap:=cap) h.2;simp[this]
 |[],_::_,h=>False.elim h
 |_::_,[],h=>False.elim h
def Caps.at{X:Cx}{scope:Scope}:∀{N':AD}{cap:List (Option Nat)}{i:Nat}{x:Str}{v:V}{Y:St},Caps X scope N' cap->N'[i]?=some x->(dI cap Y)[i]?=some (some v)->
  ∃j:Nat,X.N[j]?=some x/\scope.names.lookup x=some NameKind.free/\Y[j]?=some (some v)
 |[],[],i,x,v,Y,_,e,_=>by simp at e
 |y::N',none::cap,0,x,v,Y,h,e,q=>by simp[dI]at q
 |y::N',some j::cap,0,x,v,Y,h,e,q=>by
  have e1:y=x:=by simpa using e
  subst e1;have q1:(Y[j]?).join=some v:=by simpa [dI] using q
  refine ⟨j,h.1.1,h.1.2,?_⟩;cases z:Y[j]? with
  |none=>rw[z]at q1;cases q1
  |some o=>rw[z]at q1;exact eT some q1
 |y::N',none::cap,i+1,x,v,Y,h,e,q=>Caps.at (N':=N') (cap:=cap) (i:=i) h (!!e) (by simpa [dI] using q)
 |y::N',some _::cap,i+1,x,v,Y,h,e,q=>Caps.at (N':=N') (cap:=cap) (i:=i) h.2 (!!e) (by simpa [dI] using q)
 |[],_::_,_,_,_,_,h,_,_=>False.elim h
 |_::_,[],_,_,_,_,h,_,_=>False.elim h
abbrev tx(l:AA):Str:=⟨l.toArray⟩
def b8(l:AA):(tx l).length=l.length:=by simp[Str.length]
def qK(a b:AA):tx a++tx b=tx (a++b):=by show (⟨a.toArray++b.toArray⟩:Str)=⟨(a++b).toArray⟩;simp
def BL{a b:AA}(h:tx a=tx b):a=b:=by have:=eT (λx:Str=>x.cps.toList) h;simpa using this
def qL(x:Str):x=tx x.cps.toList:=by cases x;simp
section
variable {X:Cx}
theorem BP:∀{ys:AD}{us:AB},Vals (ys.map V.str) us->StrsAre us ys
 |[],us,r=>by
  rw[gL]at r;cases r;exact .nil
 |y::ys,us,r=>by
  rw[aS]at r;cases r with
  |cons r1 r2=>
   obtain ⟨t,e⟩:=r1;subst e;exact .cons y t (BP r2)
def rJoin(K:PF):V->AR->Hp->VK->Prop:=λx vs H Q=>∃z p ys,x=.str z/\vs=[.ref p]/\SqL K H p (ys.map V.str)/\(ys.map (·.length)).sum+ys.length * z.length<=16777216/\Q (.str (Str.join z ys)) H
theorem Ti:MtR X "str.join" (rJoin X.K):=by intro p9 s Y H x xs v us Q I rx rs h;obtain ⟨z,p,ys,rfl,rfl,hq,hb,q⟩:=h;obtain ⟨t,rfl⟩:=rx;obtain ⟨u,rfl,ru⟩:=vals1 rs;cases ru;obtain ⟨its,rv,pl,hz⟩:=I.list hq;refine join_list pl.isList (by simpa using BP rv) hb λt' k=>⟨.str _,H,I.tok _,⟨_,rfl⟩,?_⟩;have e:Txt.join z ys=Str.join z ys:=StrLaws.glued_eq_join z ys;rw[e];exact q
def Tj(K:PF):AR->Hp->VK->Prop:=λxs H Q=>∃x n t b,xs=[x,.ty n]/\TyOf K H x t/\PySem.W.kitOne K t (.type n)=some b/\Q (.bl b) H
theorem Tn:bh X (.builtin "isinstance") (Tj X.K):=by intro p9 s Y H xs us Q I r h;obtain ⟨x,n,t,b,rfl,ty,e,q⟩:=h;obtain ⟨u,w',rfl,rx,ry⟩:=vals2 r;cases ry;exact Rw I rx ty e λtk=>⟨.bl b,H,I.tok _,rfl,q⟩
theorem Tp:bootBuiltins "bool"=some (.type "bool"):=by ac_rfl
theorem BR:bootBuiltins "int"=some (.type "int"):=by ac_rfl
theorem BV:bootBuiltins "str"=some (.type "str"):=by ac_rfl
theorem uZ:bootBuiltins "list"=some (.type "list"):=by ac_rfl
theorem Tq:bootBuiltins "isinstance"=some (.builtin "isinstance"):=by ac_rfl
theorem Tt {x:Str} {T:AL} {pos:Pos} (hg:Gl X x) (hm:X.mg x=none) (hv:bootBuiltins x=some (.type T)) (hn:x≠"__name__":=by decide) (hd:(x==("__debug__":Str))=false:=by decide):PE X (.Name x pos) (tC (.ty T)):=
 Pz hg hm hv (v:=.ty T) rfl hn hd
theorem Tu:OpR X (binaryOp .Mult) (λx y H Q=>∃i n,x=.str i/\y=.int n/\MulOk i n/\Q (.str (Txt.mul i n)) H):=by intro p9 s Y H x y v u Q I rx ry h;obtain ⟨i,n,rfl,rfl,hok,q⟩:=h;obtain ⟨t,rfl⟩:=rx;obtain ⟨t',rfl⟩:=ry;exact SB.mul hok λt' k=>⟨.str _,H,I.tok _,⟨_,rfl⟩,q⟩
end
def u5(X:Cx)(st:AF)(t:TS):Prop:=
 ∀(p9:AC)(s:AI)(Y:St)(H:Hp)(D:Ends),1<=s.toks->Inv X p9 Y H s->t D Y H->↥X (execs st X.env) (SP X p9 D) X.xe s
def PE1(X:Cx)(e:AO)(t:TE):Prop:=
 ∀(p9:AC)(s:AI)(Y:St)(H:Hp)(Q:VK),1<=s.toks->Inv X p9 Y H s->t Y H Q->↥X (eval e X.env) (EP X p9 Y Q) X.xe s
def Tv{X:Cx}{e:AO}{te:TE}{pos:Pos}(he:PE1 X e te):u5 X [.Return (some e) pos] (Al te):=by intro p9 s Y H D h1 I h;refine wpAny_execs_cons (wpAny_Return_some (thn (he p9 s Y H _ h1 I h) λv s1 ⟨x,H1,I1,r1,q1⟩=>?_));exact ⟨x,Y,H1,I1,r1,q1⟩
def u6{c d:Nat}:∀l:AA,c∉l->l.map (λa=>if a=c then d else a)=l
 |[],_=>rfl
 |a::r,h=>by
  have h1:a≠c:=λe=>h (by rw[e];exact bg);rw[aS,if_neg h1,u6 r λz=>h (bi _ z)]
def BW(c d:Nat):∀parts:AD,(∀p∈parts,c∉p.cps.toList)->(Str.join ⟨#[c]⟩ parts).cps.toList.map (λa=>if a=c then d else a)=(Str.join ⟨#[d]⟩ parts).cps.toList
 |[],_=>rfl
 |[x],h=>by
  simp only[Str.join];exact u6 _ (h x bg)
 |x::y::r,h=>by
  have ih:=BW c d (y::r) λp hp=>h p (bi _ hp);have e:∀z:Str,Str.join z (x::y::r)=x++z++Str.join z (y::r):=λz=>by simp only[Str.join]
  have ap:∀u v:Str,(u++v).cps.toList=u.cps.toList++v.cps.toList:=λu v=>by
   show (u.cps++v.cps).toList=_;simp
  rw[e,e,ap,ap,ap,ap,b4,b4,ih,u6 _ (h x bg)];simp
def Tw(l:AA)(c d:Nat):Txt.replace (tx l) (tx [c]) (tx [d])=tx (l.map λa=>if a=c then d else a):=by
 have e:(Txt.replace (tx l) ⟨#[c]⟩ ⟨#[d]⟩).cps.toList=l.map λa=>if a=c then d else a:=by rw[StrLaws.replace_one,<-BW c d _ (StrLaws.split_free (tx l) c),StrLaws.join_split]
 rw[qL (Txt.replace (tx l) (tx [c]) (tx [d]))];exact eT tx e
section
variable {X:Cx}
theorem Tz{o:AO}{to:TE}{y z:Str}{ky kz:Nat}{py pz apos cpos:Pos}(ho:PE X o to)(hyz:(y==z)=false)
  (hbase:attributeBase o "replace" X.env (eval o X.env)=eval o X.env:=by rfl)
  (hfew:((backTo cpos (starEach [.Constant (.str y) ky py,.Constant (.str z) kz pz] X.env)).all (λx=>!x.1)&&(backToKw cpos (keywordEach [] X.env)).all (λx=>x.1.isSome)
  &&decide (([.Constant (.str y) ky py,.Constant (.str z) kz pz]:AE).length+([]:List Keyword).length+(if ([]:List Keyword).isEmpty then 0 else 1) < 30))=true:=by rfl)
  (hline:(apos.endLine==cpos.line)=true:=by rfl):
  PE1 X (.Call (.Attribute o "replace" apos) [.Constant (.str y) ky py,.Constant (.str z) kz pz] [] cpos)
   (λY H Q=>to Y H λv H1=>∃x,v=.str x/\x.length+(x.length+1) * z.length<=16777216/\Q (.str (Txt.replace x y z)) H1):=by
 intro p9 s Y H Q h1 I h;refine wpAny_Call_method_late hbase hfew hline rfl (dc (wpAny_toks_of (n:=1) h1 (ho p9 s Y H _ I h)) (λv s1 h2=>?_) (λ_ _ e=>e.2));obtain ⟨t1,v',H1,I1,r1,x,e,hb,q⟩:=h2;subst e;obtain ⟨t,rfl⟩:=r1;refine ⟨"str","str.replace",F.plainAttrs_str,F.slot_str_replace,F.type_str_replace,typeIs_str _ _ _,(λ_ e=>nomatch e),?_⟩;refine Calls.callWith_builtin (by rfl) (Calls.evalArgs_plain ?_);show wpAny _ _ (spliced [(false,eval (.Constant (.str y) ky py) X.env),(false,eval (.Constant (.str z) kz pz) X.env)]) _ _ s1;refine Calls.spliced_cons (Calls.Constant_str (Calls.spliced_cons (Calls.Constant_str (Calls.spliced_nil ?_))));exact SC.replace (by show @Ne Nat s1.toks 0;omega) (by show @Ne Nat (s1.toks+1) 0;omega) (by show @Ne Nat s1.toks (s1.toks+1);omega) hyz hb λt' k=>⟨.str _,H1,I1.tok _,⟨_,rfl⟩,q⟩
end
def TF{CX:CXT}{P:AK}{w:World}{K:PF}{mg:AH}{base:Heap}{k:Nat}{f:AQ}{name qual:Str}{params:Arguments}{body:AF}{scope:Scope}{dV kV doc pm cdv ct oc:AN}{an od:Option AQ}
  {osl:Array (Option AN)} {N:AD} {x:Str} {sp:Sp} (lk:K.lookup f=some ⟨oc,od,.func (PySem.W.fnOf name qual params body scope dV kV doc pm an cdv ct),osl⟩) (hcd:PySem.W.codeIn K cdv qual=true) (S:FnScope N [x] scope)
  (hx:scope.names.lookup x=some .local) (hnc:∀y∈scope.names,y.2≠NameKind.cell) (hcf:∀n,cellsFrom n scope.names []=[])
  (len:∀vs H Q E,sp vs H Q E->vs.length=[x].length)
  (hbody:∀(A:AM)(outer:List Env)(s:AI)(H:Hp)(vs:AR)(Q:VK)(E:XK),Room k (A.deeper (envOfC qual scope (~~~s) f cdv))->sp vs H Q E->
   ∃t,u5 (dH CX P w K mg base N qual scope f cdv A outer s H E) body t/\t { nx:=λ_ H'=>Q .non H',rt:=Q } (start N vs) H):
  FnOk P w K mg base CX (k+1) f (PySem.W.fnOf name qual params body scope dV kV doc pm an cdv ct) [x] sp:=by
 refine ⟨len,λA outer s H args us vs Q E hr e0 hb r hsp=>?_⟩;have hl:=len _ _ _ _ hsp;have KX:K.In s.heap:=e0.mod.kin.keeps λb o e=>(e0.bs b o e).1;have lim:s.heap.NoLimit:=e0.mod.nolimit.keeps λb o e=>(e0.bs b o e).1;obtain ⟨u,rfl⟩:∃u,us=[u]:=by
  have h2:=r.length;rw[hl]at h2;match us,h2 with
  |[u],_=>exact ⟨u,rfl⟩
 refine codeAny_call_function hr.depth (KX _ _ lk) rfl S.co S.gen rfl (PySem.W.codeRec_of KX hcd) (hb _ _ _ _ ?_);refine wpAny_newFunctionEnv (binds:=[x].zip [u]) hnc (λy hy=>?_) (λh' hns hsb=>?_) S.kind
 .have e:y=(x,u):=by simpa using hy
  rw[e];exact hx
 have envEq:newEnv scope (~~~s) mainGlobals [] (qual++⇑".<locals>.") (some f) cdv none builtinsNs=envOfC qual scope (~~~s) f cdv:=by unfold envOfC newEnv;rw[hcf]
 have kp:∀b o,s.heap.get? b=some o->h'.get? b=some o:=λb o e=>hsb.extBut b o (b3 (ay e)) (ag _ e);have mEq:bindL (envOfC qual scope (~~~s) f cdv).kindOf ([x].zip [u]) (λ_=>none)=λy=>(([x].zip [u]).reverse).lookup y:=by
  funext y;have hk:(envOfC qual scope (~~~s) f cdv).kindOf x=some .local:=hx;show bindL (envOfC qual scope (~~~s) f cdv).kindOf [(x,u)] (λ_=>none) y=List.lookup y [(x,u)];unfold bindL;rw[if_pos hk];unfold bindL;by_cases hy:y=x
  .subst hy;simp
  .have:(y==x)=false:=by simpa using hy
   simp[hy,List.lookup_cons,this]
 have xx:InCallC s (~~~s) (bindL (envOfC qual scope (~~~s) f cdv).kindOf ([x].zip [u]) λ_=>none) (cellsFrom ((~~~s)+1) scope.names []) (bindC (envOfC qual scope (~~~s) f cdv).kindOf ([x].zip [u]) λ_=>none)
   { s with heap:=h',toks:=s.toks+([x].zip [u]).length }:=by
  rw[mEq,hcf];exact ⟨⟨⟨h',_,rfl⟩,hns,kp,ax _⟩,(λn c e=>by simp at e),List.Pairwise.nil,(λn c e=>nomatch e)⟩
 show _/\codeAny (model P w) A (.func body (newEnv scope (~~~s) mainGlobals [] (qual++⇑".<locals>.") (some f) cdv none builtinsNs)) _ _;rw[envEq];refine ⟨lim.keeps kp,codeAny_func ?_⟩;obtain ⟨t,ht,hq⟩:=hbody A outer s H vs Q E (hr.deeper _) hsp;have I:Inv (dH CX P w K mg base N qual scope f cdv A outer s H E) [] (start N vs) H { s with heap:=h',toks:=s.toks+([x].zip [u]).length }:=Be S hr.hd e0 hl r xx;refine dc (ht [] _ (start N vs) H _ (Nat.le_add_left 1 s.toks) I hq) (λfl s' hs=>?_) λe s' hs=>hs;have fin:∀{σ':St}{H':Hp}{v:V}{u:AN},Inv (dH CX P w K mg base N qual scope f cdv A outer s H E) [] σ' H' s'->RelV v u->Q v H'->CE outer P w H s Q u s':=
  λ{σ' H' v u} J rv q=>⟨v,H',J.os,J.bare,J.base,J.hok,rv,q⟩
 cases fl with
 |ret u=>
  obtain ⟨v,σ',H',J,rv,q⟩:=hs;exact fin J rv q
 |next=>
  obtain ⟨σ',H',J,q⟩:=hs;exact fin (v:=V.non) (u:=Value.none) J rfl q
 |brk=>
  obtain ⟨_,_,_,q⟩:=hs;exact False.elim q
 |cont=>
  obtain ⟨_,_,_,q⟩:=hs;exact False.elim q
def Fun.ok1{P:AK}{w:World}{K:PF}{mg:AH}{base:Heap}{x qual:Str}{st:Stmt}{f:AQ}{fd:AJ}{N:AD}{y:Str}{k:Nat}{sp:Sp}(F:Fun K x qual st f fd)(S:FnScope N [y] (ao st))
  (hx:(ao st).names.lookup y=some .local) (hnc:∀z∈(ao st).names,z.2≠NameKind.cell) (hcf:∀n,cellsFrom n (ao st).names []=[]) (len:∀vs H Q E,sp vs H Q E->vs.length=[y].length)
  (hbody:∀(cdv:AN)(A:AM)(outer:List Env)(s:AI)(H:Hp)(vs:AR)(Q:VK)(E:XK),Room k (A.deeper (envOfC qual (ao st) (~~~s) f cdv))->sp vs H Q E->
   ∃t,u5 (dH CX0 P w K mg base N qual (ao st) f cdv A outer s H E) (aG st) t/\t { nx:=λ_ H'=>Q .non H',rt:=Q } (start N vs) H):FnOk P w K mg base CX0 (k+1) f fd [y] sp:=by
 obtain ⟨oc,od,kV,doc,pm,an,cdv,ct,osl,rfl,lk,hcd⟩:=F.ex;exact TF lk hcd S hx hnc hcf len λA outer s H vs Q E hr hsp=>hbody cdv A outer s H vs Q E hr hsp
open Builtin Builtin.Str
def TJ{prog:AK}{w:World}{A:AM}(hh:A.handled=none)(it:AQ)(x:Str)(t:Tok):
  Draws prog w A it [it] x.cps.size (λi v=>∃c u,x.cps[i]?=some c/\v=.str ⟨#[c]⟩ u) (λi h=>h.IsStrIter it (strIterType x) x t i):=by
 unfold strIterType;split
 .exact Draws.strAscii hh it x t
 .exact Draws.strWide hh it x t
structure ZApart(z TI TO i1 i2:AQ):Prop where
 TIz:TI≠z
 TOz:TO≠z
 i1z:i1≠z
 i2z:i2≠z
 TITO:TI≠TO
 TIi1:TI≠i1
 TIi2:TI≠i2
 TOi1:TO≠i1
 TOi2:TO≠i2
 i12:i1≠i2
section
variable {X:Cx}
theorem u9:∀{bs:List Bool}{us:AB}{i:Nat}{v:AN},Vals (bs.map V.bl) us->us[i]?=some v->∃b,bs[i]?=some b/\v=.bool b
 |[],us,i,v,r,e=>by
  rw[gL]at r;cases r;simp at e
 |b::bs,us,i,v,r,e=>by
  rw[aS]at r;cases r with
  |cons r1 r2=>
   cases i with
   |zero=>
    cases (show _=Value.bool b from r1);exact ⟨b,rfl,!!e.symm⟩
   |succ i=>exact u9 (i:=i) r2 (!!e)
theorem TQ:bootBuiltins "all"=some (.builtin "all"):=by ac_rfl
theorem TV:bootBuiltins "zip"=some (.type "zip"):=by ac_rfl
theorem all_range(bs:List Bool)(n:Nat)(hn:n=bs.length):((List.range n).all λi=>(bs[i]?).getD true)=bs.all id:=by
 subst hn;rw[fk,bP,bP];constructor
 .intro h b hb;obtain ⟨i,hi,e⟩:=gi.mp hb;have:=h i (eh.mpr hi);rw[ai hi,e]at this;simpa using this
 .intro h i hi;have hi':=eh.mp hi;rw[ai hi'];simpa using h _ (cp hi')
theorem TX (hc:X.calm=true):bh X (.builtin "all") (λxs H Q=>∃(p:AQ) (bs:List Bool),xs=[.ref p]/\SqL X.K H p (bs.map V.bl)/\Q (.bl (bs.all id)) H):=by
 intro p9 s Y H xs us Q I r h;obtain ⟨p,bs,rfl,hq,q⟩:=h;obtain ⟨u,rfl,ru⟩:=vals1 r;cases ru;obtain ⟨its,rv,pl,hz⟩:=I.list hq;have hl:=pl.isList;have hlt:p < (~~~s):=by obtain ⟨_,e,_⟩:=hl;exact ay e
 refine call_all_walk (fv hl ?_);refine ⟨(~~~s),[(~~~s),p],[(~~~s)],its.toArray.size,_,_,λi=>(bs[i]?).getD true,rfl,Walks.list (A:=X.A.in1) (I.ok.hd hc) _ p (b3 hlt) its.toArray,
  ⟨⟨_,aI _ rfl,rfl,rfl⟩,hl.push _⟩,λi v s' Q' E' hP hQ=>?_,λh' tk hk=>?_⟩
 .obtain ⟨b,e,rfl⟩:=u9 rv (i:=i) (v:=v) (!!hP);simp only[e,Option.getD_some]at hQ;exact eK hQ
 .have e:=all_range bs its.toArray.size (by rw[av,<-rv.length,af]);rw[e];exact ⟨.bl _,H,I.kept (λb o q=>hk b o (λhm=>by rw[ah.mp hm]at q;exact eS _ (ay q)) (ag _ q)),rfl,q⟩
theorem TY:OpR X (compareOp .Is) (λx y H Q=>∃i j,x=.bl i/\y=.bl j/\Q (.bl (i==j)) H):=by intro p9 s Y H x y v u Q I rx ry h;obtain ⟨i,j,rfl,rfl,q⟩:=h;cases rx;cases ry;exact is_bool ⟨.bl _,H,I,rfl,q⟩
theorem T3:bh X (.type "int") (λxs H Q=>∃z n,xs=[.str z]/\PySem.intText? z=some n/\z.length<=640/\Q (.int n) H):=by intro p9 s Y H xs us Q I r h;obtain ⟨z,n,rfl,hn,hl,q⟩:=h;obtain ⟨u,rfl,t,rfl⟩:=vals1 r;exact PySem.W.KIN.call_text hn hl ⟨.int n,H,I.tok _,⟨_,rfl⟩,q⟩
def T4:V->Option Int->Option Int->Hp->VK->Prop:=λx lo hi H Q=>∃z,x=.str z/\z.length<=sizeLine/\Q (.str (Txt.slice z lo hi)) H
theorem T5:SlR X T4:=by
 intro p9 s Y H x v vl vu lo hi sl Q I rx hs pl pu h;obtain ⟨z,rfl,hz,q⟩:=h;obtain ⟨t,rfl⟩:=rx;refine ⟨"str",_,slot_str_getitem.lookup,typeIs_str _ _ _,?_⟩;obtain ⟨l,el,e1⟩:∃l:Option (Int×Tok),vl=partValue l/\l.map (·.1)=lo:=by
  cases pl with
  |none=>exact ⟨none,rfl,rfl⟩
  |int i t=>exact ⟨some (i,t),rfl,rfl⟩
 obtain ⟨u,eu,e2⟩:∃u:Option (Int×Tok),vu=partValue u/\u.map (·.1)=hi:=by
  cases pu with
  |none=>exact ⟨none,rfl,rfl⟩
  |int i t=>exact ⟨some (i,t),rfl,rfl⟩
 subst el eu e1 e2;refine wpAny_getItem_str_slice (l:=l) (u:=u) (st:=none) hs rfl ?_;unfold sliceMade;unfold Txt.slice at q;show (if ((1:Int)==1&&(slicePicked z l u none).length==z.length)=true then Made.val (.str z t) else Made.str ⟨((slicePicked z l u none).filterMap (z.cps[·]?)).toArray⟩).post _ _;have ep:slicePicked z l u none=Builtin.Str.strSliceIndices (l.map (·.1)) (u.map (·.1)) 1 z.length:=rfl;rw[ep];by_cases hc:((1:Int)==1&&(Builtin.Str.strSliceIndices (l.map (·.1)) (u.map (·.1)) 1 z.length).length==z.length)=true
 .rw[if_pos hc]at q ⊢;exact ⟨.str z,H,I,⟨t,rfl⟩,q⟩
 .rw[if_neg hc]at q ⊢;refine ⟨?_,⟨.str _,H,I.tok _,⟨_,rfl⟩,q⟩⟩;show (List.filterMap _ _).toArray.size<=sizeLine;rw[av];have h1:=sliceIndices_le (l.map (·.1)) (u.map (·.1)) z.length;have h2:=List.length_filterMap_le (λx=>z.cps[x]?) (Builtin.Str.strSliceIndices (l.map (·.1)) (u.map (·.1)) 1 z.length);omega
end
section
variable {X:Cx}
theorem T6:OpR X (compareOp .IsNot) (λx y H Q=>∃i j,x=.bl i/\y=.bl j/\Q (.bl (i != j)) H):=by intro p9 s Y H x y v u Q I rx ry h;obtain ⟨i,j,rfl,rfl,q⟩:=h;cases rx;cases ry;exact isnot_bool ⟨.bl _,H,I,rfl,q⟩
theorem BX:∀us:AB,(∀v∈us,∃x:V,RelV x v)->∃xs,Vals xs us
 |[],_=>⟨[],.nil⟩
 |u::r,h=>by
  obtain ⟨x,hx⟩:=h u bg;obtain ⟨xs,hr⟩:=BX r λv hv=>h v (bi _ hv);exact ⟨x::xs,.cons hx hr⟩
end
def noStar:AO->Bool
 |.Starred ..=>false
 |_=>true
def cF(e:AO)(es:AE)(env:Env)(h:noStar e=true):starEach (e::es) env=(false,eval e env)::starEach es env:=by cases e <;> first |rfl |cases h
def pk{X:Cx}{e:AO}{es:AE}{te:TE}{t:TA}(ha:PE X e te)(hr:PA X es t)(h:noStar e=true:=by rfl):PA X (e::es) (Ay te t):=fM ha hr (cF e es X.env h)
def BZ(its:AB):slicePick its.toArray none none (some (-1))=its.reverse.toArray:=by
 have e:(List.range its.length).map (λk:Nat=>((its.length:Int) - 1 + -1 * (k:Int)).toNat)=(List.range its.length).map λk=>its.length - 1 - k:=by apply b9;intro k _;omega
 have e2:(sliceRange ((its.length:Int) - 1) (-1) (-1))=(List.range its.length).map λk=>its.length - 1 - k:=by
  rw[<-e];unfold sliceRange;dsimp only;rw[if_neg (!1)];congr 2;by_cases h:(its.length:Int) - 1 > -1
  .rw[if_pos h,show (-(-1):Int)=1 by decide,Int.ediv_one];omega
  .rw[if_neg h];omega
 have e3:((List.range its.length).map λk=>its.length - 1 - k).filterMap (λx=>its.toArray[x]?)=its.reverse:=by
  have h1:∀x∈(List.range its.length).map (λk=>its.length - 1 - k),its.toArray[x]?=some (its.getD x .none):=by intro x hx;obtain ⟨k,hk,rfl⟩:=bp.mp hx;have:=eh.mp hk;rw[List.getElem?_toArray,aE,ai (!0)];rfl
  have h2:∀l:AA,(∀x∈l,its.toArray[x]?=some (its.getD x .none))->(l.filterMap λx=>its.toArray[x]?)=l.map λx=>its.getD x .none:=λl=>by
   induction l with
   |nil=>intro _;rfl
   |cons a l ih=>intro hl;rw[aS,<-ih λx hx=>hl x (bi _ hx),List.filterMap_cons,hl a bg]
  rw[h2 _ h1,cb];apply List.ext_getElem
  .simp
  .intro i hi hj;rw[g9,fe,List.getElem_reverse];have:its.length - 1 - i < its.length:=by simp at hi;omega
   show its.getD (its.length - 1 - i) .none=_;rw[aE,ai this];rfl
 show ((sliceRange ((its.toArray.size:Int) - 1) (-1) (-1)).filterMap λx=>its.toArray[x]?).toArray=_;rw[av,e2,e3]
def Vals.back{xs:AR}{us:AB}(r:Vals xs us):Vals xs.reverse us.reverse:=Vals.reverse r
variable {X:Cx} {e st:AO} {te ts:TE} {p2 pos:Pos}
def Tr(h0:Heap)(H:Hp)(h:Heap)(a:AQ)(c:AN):Prop:=
 ∃oe vs T oT ts,h.get? a=some oe/\oe.cls=c/\oe.data=.fields vs/\vs[1]?=some (.ref T)/\T≠a/\h.get? T=some oT/\oT.data=.fields ts/\ts[3]?=some .none/\
  h0.get? a=none/\h0.get? T=none/\H a=none/\H T=none
def CX1(P:AK)(w:World):CXT:=λouter H s E e s'=>
 ∃(a:AQ)(c:AN)(H':Hp),e=.ref a/\s'.os=s.os/\AllBare s'.gens/\Un (frs outer) [] H H' s.heap s'.heap/\HOk P w H' s'.heap/\Tr s.heap H' s'.heap a c/\E c none H'
section
variable {X:Cx} {p9:AC} {σ:St} {H:Hp} {s:AI}
theorem Ca{P:AK}{w:World}(Y:Cx):kj (CX1 P w) Y λ_ _ _=>False:=λ_ _ _ _ _ _ _ h=>by
 obtain ⟨_,_,_,_,_,_,_,_,_,q⟩:=h;exact q.elim
end
abbrev veM:AB:=[.type "ValueError",.type "Exception",.type "BaseException",.type "object"]
def T7:AB->Bool
 |[.type a,.type b,.type c,.type d]=>a=="ValueError"&&b=="Exception"&&c=="BaseException"&&d=="object"
 |_=>false
def Cd:AN->Bool
 |.str _ _=>true
 |_=>false
def nsB(K:PF)(N:AQ):Bool:=match K.lookup N with
 |some ⟨_,_,.dict es _,_⟩=>es.toList.all (λe=>Cd e.key)&&quietNames.all λn=>(nsFind es n).isNone
 |_=>false
def T8(K:PF)(A:AQ):Bool:=match K.lookup A with
 |some ⟨_,_,.cls cd,_⟩=>nsB K cd.ns
 |_=>false
def vd(K:PF):AB->Bool
 |[]=>false
 |v::tl=>(match v with |.ref A=>T8 K A&&vd K tl |_=>T7 (v::tl))
def isRef(C:AQ):AN->Bool
 |.ref a=>a==C
 |_=>false
def isNew:Option AN->Bool
 |some (.builtin s)=>s=="ValueError.__new__"
 |_=>false
def Ce:AN->Bool
 |.type s=>s=="type"
 |_=>false
def qM(K:PF)(C:AQ):Bool:=match K.lookup C with
 |some ⟨ty,_,.cls cd,⟨[_,_,_,_,k,_]⟩⟩=>Ce ty&&isNew k&&nsB K cd.ns&&!cd.hasDel&&(match cd.mro with |v::tl=>isRef C v&&vd K tl |[]=>false)
 |_=>false
section
variable {X:Cx}
theorem digits_le:∀n:Fin 100,(⇑(toString (n.val:Int))).length<=3:=by ac_rfl
def Throws(X:Cx)(E:XK):Prop:=∀(p9:AC)(Y:St)(H:Hp)(s:AI)(h':Heap)(a:AQ)(c:AN)(args:AB),Inv X p9 Y H s->s.heap.MadeExcOf h' a c args->E c none H->X.xe (.ref a) { s with heap:=h' }
end
section
variable {X:Cx}
variable {p9:AC} {σ:St} {H:Hp} {s:AI}
structure Caught(X:Cx)(H:Hp)(s:AI)(H':Hp)(a:AQ)(c:AN)(s':AI):Prop where
 os:s'.os=s.os
 bare:AllBare s'.gens
 un:Un (frs X.stack) [] H H' s.heap s'.heap
 hok:HOk X.prog X.w H' s'.heap
 tr:Tr s.heap H' s'.heap a c
variable {H':Hp} {a:AQ} {c:AN} {s':AI}
end
open Builtin.ObjectAttr Builtin.Getset_descriptor
open PySem.W (findIn mroIn clsIn typeIn Looks InstAt looks_findIn looks_mroIn looks_typeIn)
def vf(K:PF)(D:AQ):Bool:=
 findIn K (.ref D) "__class__"==some (some (.builtin "object.__class__"))&&findIn K (.ref D) "__getattribute__"==some (some (.builtin "BaseException.__getattribute__"))&&findIn K (.ref D) "__getattr__"==some none &&
  mroIn K D (.type "object")==some true&&mroIn K D (.type "BaseException")==some true&&(clsIn K D).isSome
open PySem.W (findIn mroIn clsIn typeIn Looks looks_findIn looks_mroIn looks_typeIn)
section
variable {X:Cx}
def XO(H:Hp)(a c:AQ):Prop:=∃o y,H a=some (.frz o (.own y))/\o.cls=.ref c
def valOf:V->AN
 |.ref a=>.ref a
 |.ty n=>.type n
 |_=>.none
end
section
variable {X:Cx}
def XP(X:Cx)(p9:AC)(ex:AN->St->Hp->Prop)(Y:St)(e:AN)(s1:AI):Prop:=∃a c H1 s0 H',e=.ref a/\Inv X p9 Y H1 s0/\Caught X H1 s0 H' a c s1/\ex c Y H'
def Cg (K:PF) (C:AQ):Bool:=typeIn K (.ref C)==some (.type "type")&&(clsIn K C).isSome&&mroIn K C (.type "BaseException")==some true
end
open PySem.SeqAt
section
variable {X:Cx}
theorem T9:OpR X (binaryOp .FloorDiv) (rI (λ_ j=>0 < j/\j < 1152921504606846976) λi j=>.int (i / j)):=opI λi j _ _ _ _ _ hc q=>by
 have h1:(0:Int) < j:=hc.1;have h2:j < 1152921504606846976:=hc.2;refine floordiv_int (!0) (by rw[Int.fdiv_eq_ediv_of_nonneg i (!0)];exact q) (.inl (PyProof.noPylong_of_log2 ?_));have:j.natAbs.log2 < 60:=(Nat.log2_lt (!0)).mpr (by show j.natAbs < 1152921504606846976;omega);omega
def vg(m:Nat):Str:=⇑(toString (m:Int))
theorem Ua{m:Nat}(h:m < 100):(m:Int).natAbs.log2 < 1920:=by have:(m:Int).natAbs=m:=Int.natAbs_natCast m;rw[this];exact Nat.lt_of_le_of_lt (Nat.log2_le_self m) (!0)
theorem Ub:bh X (.type "str") (λxs H Q=>∃m:Nat,xs=[.int m]/\m < 100/\Q (.str (vg m)) H):=by intro p9 s Y H xs us Q I r h;obtain ⟨m,rfl,hm,q⟩:=h;obtain ⟨u,rfl,ru⟩:=vals1 r;obtain ⟨t,rfl⟩:=ru;exact PySem.P.str_of_int (Ua hm) ⟨.str _,H,I.tok _,⟨_,rfl⟩,q⟩
end
end L2
namespace HT
open PySem PySem.Spec PyProof.Rows Builtin
end HT
namespace L2
open PySem PySem.Spec PyProof.Rows
section
variable {X:Cx}
def aif(K:PF):R2:=λx y H Q=>∃(l:AQ)(k:Int)(xs:AR),x=.ref l/\y=.int k/\SqT K H l xs/\xs≠[]/\2<=k/\k<=1000/\xs.length * k.toNat<=sizeLine/\∀p,H p=none->Q (.ref p) (upd H p (.tup (List.replicate k.toNat xs).flatten))
end
end L2
namespace HT
open PySem PySem.Spec PyProof.Rows Builtin
end HT
namespace L2
open PySem PySem.Spec PyProof.Rows
section
variable {X:Cx}
def aig(K:PF):R2:=λx y H Q=>∃(l:AQ)(k:Int)(xs:AR),x=.ref l/\y=.int k/\SqL K H l xs/\0<=k/\k<=1000/\xs.length * k.toNat<=sizeLine/\∀p,H p=none->Q (.ref p) (upd H p (.lst (List.replicate k.toNat xs).flatten))
end
end L2
namespace PySem
def Uc:plainId "list.__iadd__"=true:=by ac_rfl
def Ud:plainId "proto.collect"=true:=by ac_rfl
def Ue{prog:AK}{w:World}{A:AM}{R:Result->AI->Prop}{s:AI}{r:AQ}{a b c:Int}{t u v:Tok}{n:Nat}(hh:A.handled=none)(hr:IsRange s.heap r a b c t u v)(hsmall:Builtin.Range.small a b c=true)
  (hn:Builtin.Range.rangeSize a b c=n) (hlen:n<=2 ^ 24)
  (hR:∀h' tk acc' c',(∀b o,s.heap.get? b=some o->h'.get? b=some o)->h'.get? (~~~s)=some { cls:=.type "list",dict:=none,data:=.seq acc' c',slots:=#[] }->ItemsOf (λi v=>∃t,v=.int (a+i * c) t) acc' n->R (.ok (.ret (.ref (~~~s)))) { s with heap:=h',toks:=tk }):
  codeAny (model prog w) A (.builtin "proto.collect" ⟨[.ref r],[]⟩) R s:=by
 refine codeAny_builtin PyProof.Rows.entry_proto_collect' ?_;rw[Around.under_plainId Ud _];show wpAny _ _ (do again (.builtin "list.__iadd__" ⟨[<-newList [],.ref r],[]⟩)) _ _ s;refine wpAny_bind (wpAny_newList (wpAny_pure ⟨Code.quiet_builtin _ (by ac_rfl),codeAny_builtin PyProof.Rows.entry_list_iadd' ?_⟩));rw[Around.under_plainId Uc _];have hS:(s.heap.push { cls:=.type "list",data:=.seq #[] }).get? (~~~s)=some { cls:=.type "list",data:=.seq #[] }:=Heap.get?_push_size _ rfl;exact wpAny_extend_range (R:=R) (s:={ s with heap:=s.heap.push { cls:=.type "list",data:=.seq #[] } }) hh (Heap.get?_push_of_some _ hr) hsmall hn hlen (~~~s) (.ref (~~~s)) _ hS λh' tk acc' c' hk hS' hacc=>
  hR h' tk acc' c' (λb o e=>hk b o (Nat.ne_of_lt (Heap.lt_size e)) (Heap.get?_push_of_some _ e)) hS' hacc
open AutoSeq1 (wpAny_loadPart') in
def Ug(r:AQ)(lo hi:Int)(t u v:Tok)(n:Nat)(hsmall:Builtin.Range.small lo hi 1=true)(hn:Builtin.Range.rangeSize lo hi 1=n)(hlen:n<=1000):
  Meets (Builtin.«tuple.__new__» ⟨[.type "tuple",.ref r],[]⟩)
   (λA R s=>A.handled=none/\IsRange s.heap r lo hi 1 t u v/\∀(h':Heap) (tk:Nat) (acc:Array AN),(∀b o',s.heap.get? b=some o'->h'.get? b=some o')->ItemsOf (λi v=>∃t,v=.int (lo+i * 1) t) acc n->R (.ok (.ret (.ref h'.objs.size))) { s with heap:=h'.push { cls:=.type "tuple",data:=.seq acc },toks:=tk }):=
 .of_wp λprog w A R s h=>by
  obtain ⟨hp,g,d,tk,os⟩:=s;obtain ⟨hh,ht,h⟩:=h;have hsub:=sub_tuple_self;have hinit:=init_tuple_lookup;have hmh:=madeHere_tuple;have hT:Shared.TypeIs ⟨hp,g,d,tk,os⟩ (.ref r) "range":=⟨_,ht,rfl⟩;wp_walk using wpAny_loadPart' ht,wpAny_typeOf hT
  refine Ue (A:=A.in1) hh ht hsmall hn (!0) λh' tk' acc c' hk hS' hacc=>?_;dsimp only;refine wpAny_bind (wpAny_load hS' (wpAny_pure ?_));show wpAny _ _ (Builtin.Tuple.tupleExact acc.toList.toArray >>= λv=>ret v) _ _ _;unfold Builtin.Tuple.tupleExact;refine wpAny_bind (wpAny_newObj_type ?_ (by show acc.toList.toArray.size<=sizeLine;rw[show acc.toList.toArray=acc by simp,hacc.1,sizeLine_eq];omega));refine wpAny_pure ⟨_,rfl,?_⟩;have e:acc.toList.toArray=acc:=by simp
  rw[e];exact h h' tk' acc hk hacc
def Uh{prog:AK}{w:World}{A:AM}{E:AG}{s:AI}{Q:AG}{r:AQ}{lo hi:Int}{t u v:Tok}{n:Nat}(hh:A.handled=none)(hr:IsRange s.heap r lo hi 1 t u v)(hsmall:Builtin.Range.small lo hi 1=true)(hn:Builtin.Range.rangeSize lo hi 1=n)(hlen:n<=1000)
  (h:∀(h':Heap) (tk:Nat) (acc:Array AN),(∀b o',s.heap.get? b=some o'->h'.get? b=some o')->ItemsOf (λi v=>∃t,v=.int (lo+i * 1) t) acc n->Q (.ref h'.objs.size) { s with heap:=h'.push { cls:=.type "tuple",data:=.seq acc },toks:=tk }):
  wpAny (model prog w) A (call (.type "tuple") [.ref r]) Q E s:=
 callType_new F.called_tuple (!1) (F.typeCall_tuple_1 _) (F.newCall_tuple_1 _) (λobj=>F.args_object_init_2 obj _) F.entry_tuple_new
  (Ug r lo hi t u v n hsmall hn hlen) ⟨hh,hr,λh' tk acc hk ha=>⟨⟨_,Heap.get?_push_size _ rfl,rfl⟩,h h' tk acc hk ha⟩⟩
end PySem
namespace L2
open PySem PySem.Spec PyProof.Rows
section
variable {X:Cx}
theorem Ci{acc:Array AN}{n:Nat}(h:ItemsOf (λi v=>∃t,v=.int (0+i * 1) t) acc n):Vals ((List.range n).map λi=>V.int (i:Nat)) acc.toList:=by
 have hz:=h.1;obtain ⟨ys,hv⟩:=BX acc.toList λv hv=>by
  obtain ⟨j,hj,ej⟩:=gi.mp hv;have ej':acc[j]?=some v:=by rw[<-fg,ai hj,ej]
  obtain ⟨t,e⟩:=h.2 j v ej';exact ⟨.int (0+j * 1),t,e⟩
 have hl:ys.length=n:=by rw[hv.length,cq,hz]
 have e:ys=(List.range n).map λi=>V.int (i:Nat):=by
  refine List.ext_getElem? λi=>?_;by_cases hi:i < n
  .obtain ⟨y,hy⟩:∃y,ys[i]?=some y:=⟨_,ai (!0)⟩;obtain ⟨w,ew,rw'⟩:=hv.get hy;obtain ⟨t,e⟩:=h.2 i w (by rw[<-fg];exact ew);rw[hy,bq,List.getElem?_range hi,Option.map_some];subst e;cases y with
   |int k=>
    obtain ⟨t',e'⟩:=(show ∃t',Value.int (0+i * 1) t=Value.int k t' from rw');simp only[Value.int.injEq]at e';rw[<-e'.1];simp
   |non=>cases (show Value.int _ _=Value.none from rw')
   |bl b=>cases (show Value.int _ _=Value.bool b from rw')
   |str x=>obtain ⟨_,z⟩:=(show ∃t',Value.int _ _=Value.str x t' from rw');cases z
   |byt x=>obtain ⟨_,z⟩:=(show ∃t',Value.int _ _=Value.bytes x t' from rw');cases z
   |flt x=>obtain ⟨_,z⟩:=(show ∃t',Value.int _ _=Value.float x t' from rw');cases z
   |ref a=>cases (show Value.int _ _=Value.ref a from rw')
   |ty a=>cases (show Value.int _ _=Value.type a from rw')
  .rw[List.getElem?_eq_none (!0),List.getElem?_eq_none (by simp;omega)]
 rw[<-e];exact hv
theorem Cj {a:AO} {ta:TA} {p pos:Pos} (hg:Gl X "range") (hm:X.mg "range"=none) (ha:PA X [a] ta) (hs:starEach [a] X.env=[(false,eval a X.env)]:=by rfl):
  PE X (.Call (.Name "range" p) [a] [] pos) (λY H Q=>ta Y H λvs H1=>∃j:Int,vs=[.int j]/\∀r,H1 r=none->Q (.ref r) (upd H1 r (.rng 0 j))):=by
 intro p9 s Y H Q I h;refine Call_ (gU I hg hm boot_range (e6 (thn (ha pos p9 s Y H _ I h) λus s1 ⟨vs,H1,I1,r1,q1⟩=>?_) hs rfl));obtain ⟨j,e,q⟩:=q1;subst e;cases r1 with
 |cons r rr=>
  cases rr;obtain ⟨t,rfl⟩:=r;exact call_range_1 ⟨.ref s1.heap.objs.size,_,I1.laid (t':=s1.toks+1+1) (λb u z=>ag _ z) (ax _) (show ObjOk X.prog X.w _ _ _ (.rng 0 j) from ⟨_,_,_,aI _ rfl⟩),rfl,q _ (I1.hok.fresh (ax _))⟩
theorem Ck(n:Nat):Builtin.Range.rangeSize 0 (n:Int) 1=n:=by rw[rangeSize_one];split <;> omega
theorem Ui (hc:X.calm=true):bh X (.type "list") (λxs H Q=>∃(r:AQ) (n:Nat),xs=[.ref r]/\H r=some (.rng 0 n)/\n<=1000/\∀l,H l=none->Q (.ref l) (upd H l (.lst ((List.range n).map λi=>V.int (i:Nat))))):=by
 intro p9 s Y H xs us Q I r h;obtain ⟨p,n,rfl,hq,hn,q⟩:=h;obtain ⟨u,rfl,rx⟩:=vals1 r;cases rx;obtain ⟨t1,t2,t3,ho⟩:=(show ObjOk X.prog X.w H s.heap p (.rng 0 n) from I.hok p _ hq);refine call_list_range (I.ok.hd hc) ho (small_one (!1) (!1) (!0) (!0)) (Ck n) (!0) λh' tk acc c' kp e hi=>?_;have hv:=Ci hi;have hl:((List.range n).map λi=>V.int (i:Nat)).length<=sizeLine:=by rw[af,b6,fS];omega
 exact ⟨.ref (~~~s),_,I.laid (t':=tk) kp (ax _) (show ObjOk X.prog X.w _ h' _ (.lst _) from ⟨hl,acc.toList,c',hv,by rw[Array.toArray_toList];exact e⟩),rfl,q _ (I.hok.fresh (ax _))⟩
theorem Uj (hc:X.calm=true):bh X (.type "tuple") (λxs H Q=>∃(r:AQ) (n:Nat),xs=[.ref r]/\H r=some (.rng 0 n)/\n<=1000/\∀l,H l=none->Q (.ref l) (upd H l (.tup ((List.range n).map λi=>V.int (i:Nat))))):=by
 intro p9 s Y H xs us Q I r h;obtain ⟨p,n,rfl,hq,hn,q⟩:=h;obtain ⟨u,rfl,rx⟩:=vals1 r;cases rx;obtain ⟨t1,t2,t3,ho⟩:=(show ObjOk X.prog X.w H s.heap p (.rng 0 n) from I.hok p _ hq);refine Uh (I.ok.hd hc) ho (small_one (!1) (!1) (!0) (!0)) (Ck n) hn λh' tk acc kp hi=>?_;have hv:=Ci hi;have hl:((List.range n).map λi=>V.int (i:Nat)).length<=sizeLine:=by rw[af,b6,fS];omega
 have I1:Inv X p9 Y H { s with heap:=h',toks:=tk }:=I.kept (t':=tk) kp;have I2:Inv X p9 Y (upd H h'.objs.size (.tup ((List.range n).map λi=>V.int (i:Nat)))) { s with heap:=h'.push { cls:=.type "tuple",data:=.seq acc },toks:=tk }:=
  I1.laid (t':=tk) (λb o e=>ag _ e) (ax _) (show ObjOk X.prog X.w _ _ _ (.tup _) from ⟨hl,acc.toList,hv,by have:=IsTupX.new h' acc.toList.toArray;rwa [Array.toArray_toList]at this⟩)
 exact ⟨.ref h'.objs.size,_,I2,rfl,q _ (I1.hok.fresh (ax _))⟩
end
end L2
namespace PyProof.Rows
open PySem
def Uk {prog:AK} {w:World} {A:AM} {E:AG} {s:AI} {it:AQ} {T:AL} {o:Obj} {items:AB} {n:Nat} {ns:List Int} {Q:AG} (hT:T="list"\/T="tuple")
  (ho:s.heap.get? it=some o) (hc:o.cls=.type T) (hd:o.data=.seq items.toArray n) (hI:IntsAre items ns) (h64:items.length < 64)
  (h:∀(h1 h':Heap) (e:Nat) (out:Array AN) (ns':List Int),IntsAre out.toList ns'->ns'.Perm ns->ns'.Pairwise (·<=·)->(∀b o',s.heap.get? b=some o'->h1.get? b=some o')->(∀b o',h1.get? b=some o'->h'.get? b=some o')->h'.get? h1.objs.size=some (seqObj "list" out e)->Q (.ref h1.objs.size) { s with heap:=h' }):
  wpAny (model prog w) A (call (.builtin "sorted") [.ref it]) Q E s:=by
 refine Calls.call_function_entry kind_sorted plain_sorted entry_sorted (args_sorted1 _) ?_;unfold Builtin.«sorted»;refine wpAny_bind (m:=checkCount "sorted" 1 1 _) (wpAny_pure ?_);refine wpAny_bind (wpAny_collect_seq it hT ho hc hd (λh1 k1=>?_) (by rw[List.size_toArray,sizeLine_eq];omega));refine wpAny_bind (wpAny_newList ?_);have e1:items.toArray.toList=items:=by simp
 rw[e1];have hoL:(h1.push (seqObj "list" items.toArray 0)).get? h1.objs.size=some (seqObj "list" items.toArray 0):=Heap.get?_push_size _ rfl;show wpAny _ _ _ _ _ { s with heap:=h1.push (seqObj "list" items.toArray 0) };refine wpAny_bind (wpAny_holding (wpAny_call_entry slot_list_sort ⟨_,hoL,rfl⟩ entry_list_sort (list_sort_tree hoL hI h64 λout ns' a1 a2 a3=>⟨_,rfl,?_⟩) (args_list_sort _)));obtain ⟨e,he⟩:=sortedHeap_at (vs:=items) (out:=out) hoL;refine wpAny_pure ⟨_,rfl,h h1 _ e out ns' a1 a2 a3 k1 (λb o' hb1=>?_) he⟩;rw[sortedHeap_old (Nat.ne_of_lt (Heap.lt_size hb1)) (by rw[size_push'];exact Nat.lt_succ_of_lt (Heap.lt_size hb1))];exact Heap.get?_push_of_some _ hb1
end PyProof.Rows
namespace L2
open PySem PySem.Spec PyProof.Rows
def Ul {X:Cx}:bh X (.builtin "sorted") (λxs H Q=>∃(p:AQ) (ns:List Int),xs=[.ref p]/\SqT X.K H p (ns.map V.int)/\ns.length < 64/\∀ns':List Int,ns'.Perm ns->ns'.Pairwise (·<=·)->∀l,H l=none->Q (.ref l) (upd H l (.lst (ns'.map V.int)))):=by
 intro p9 s Y H xs us Q I r h;obtain ⟨p,ns,rfl,hq,h64,q⟩:=h;obtain ⟨u,rfl,ru⟩:=vals1 r;cases ru;obtain ⟨its,rv,⟨o,ho,hc,n,hd⟩,hz⟩:=I.tuple hq;have hlen:its.length=ns.length:=by rw[<-rv.length];simp
 refine Uk (.inr rfl) ho hc hd (intsAre_of rv) (!0) λh1 h' e out ns' a1 a2 a3 k1 k2 he=>?_;have I1:Inv X p9 Y H { s with heap:=h1 }:=I.kept (t':=s.toks) k1;have hsz:(ns'.map V.int).length<=sizeLine:=by rw[af,a2.length_eq,fS];omega
 exact ⟨.ref h1.objs.size,_,I1.laid (t':=s.toks) k2 (ax _) (show ObjOk X.prog X.w _ _ _ (.lst (ns'.map V.int)) from ⟨hsz,out.toList,e,uW a1,by rw[Array.toArray_toList];exact he⟩),rfl,q ns' a2 a3 _ (I1.hok.fresh (ax _))⟩
section
variable {prog:AK} {w:World} {A:AM} {R:Result->AI->Prop} {s:AI}
def fO(e:AO)(d:Nat)(target iter:AO)(em:AN->Env->Sem Fin->Sem Fin):Prop:=
 ∀it acc env,compTurn e d it acc env=(standAt iter.pos >>= λ_=>pyNext it >>= λr=>match r with
   |none=>pure (.done .next)
   |some v=>letOwnedTupleGo target it v >>= λ_=>assign target env v >>= λ_=>em acc env (again (.compLoop e d it acc env)))
def emE (elt:AO) (acc:AN) (env:Env) (k:Sem Fin):Sem Fin:=(eval elt env >>= λx=>call (.builtin "list.append") [acc,x] >>= λ_=>pure ()) >>= λ_=>k
def emG(e:AO)(d:Nat)(iter:AO)(acc:AN)(env:Env)(k:Sem Fin):Sem Fin:=
 eval iter env >>= λx=>standAt iter.pos >>= λ_=>foldedSetIterable iter env x >>= λx=>holding [x] (pyIter x) >>= λit=>runOwn (.compStart e d it acc env) env >>= λ_=>k
theorem aih(elt t1 i1 t2 i2 t3 i3:AO)(scope:Scope)(pos:Pos):fO (.ListComp elt [⟨t1,i1,[],0⟩,⟨t2,i2,[],0⟩,⟨t3,i3,[],0⟩] scope pos) 0 t1 i1 (emG (.ListComp elt [⟨t1,i1,[],0⟩,⟨t2,i2,[],0⟩,⟨t3,i3,[],0⟩] scope pos) 1 i2):=λ_ _ _=>rfl
theorem Cm{elt:AO}{gens:List Comprehension}{scope:Scope}{pos:Pos}{d:Nat}{target iter:AO}{em:AN->Env->Sem Fin->Sem Fin}{it acc:AN}{env:Env}(hT:fO (.ListComp elt gens scope pos) d target iter em)(I:Nat->AI->Prop)
  (turn:∀n s,I n s->wpAny (model prog w) A (pyNext it) (λr s₁=>match r with
   |none=>R (.ok .next) s₁
   |some v=>wpAny (model prog w) A (letOwnedTupleGo target it v) (λ_ s₁'=>wpAny (model prog w) A (assign target env v) (λ_ s₂=>
     ∀(k:Sem Fin)(Q:Fin->AI->Prop)(E:AG),(∀s₅,(∃m,m < n/\I m s₅)->wpAny (model prog w) A k Q E s₅)->wpAny (model prog w) A (em acc env k) Q E s₂) (λ_ _=>False) s₁') (λ_ _=>False) s₁) (λ_ _=>False) s)
  (n:Nat) (h:I n s):codeAny (model prog w) A (.compLoop (.ListComp elt gens scope pos) d it acc env) R s:=by
 refine codeAny_loop rfl I (λn s hI=>?_) n h;show wpAny _ A ((compTurn (.ListComp elt gens scope pos) d it acc env).onRaise (λx=>do noteFrame x env;theTreesLotGoes x)) _ _ s;refine wpAny_noted ?_;rw[hT];refine ab (fw (ab (dc (turn n s hI) (λr s₁ h₁=>?_) λ_ _ h'=>False.elim h')));cases r with
 |none=>exact am h₁
 |some v=>
  refine ab (dc h₁ (λ_ s₁' h₁'=>?_) λ_ _ h'=>False.elim h');exact ab (dc h₁' (λ_ s₂ h₂=>h₂ _ _ _ λs₃ h₃=>am ⟨rfl,h₃⟩) λ_ _ h'=>False.elim h')
theorem Um{elt:AO}{gens:List Comprehension}{scope:Scope}{pos:Pos}{d:Nat}{t i:AO}{ifs:AE}{it acc:AN}{env:Env}(hg:gens[d]?=some ⟨t,i,ifs,0⟩)
  (h0:codeAny (model prog w) A (.compLoop (.ListComp elt gens scope pos) d it acc env) R s)
  (h:wpAny (model prog w) A (pyIter it) (λit' s'=>codeAny (model prog w) A (.compLoop (.ListComp elt gens scope pos) d it' acc env) R s') (λ_ _=>False) s):
  codeAny (model prog w) A (.compStart (.ListComp elt gens scope pos) d it acc env) R s:=by
 refine codeAny_of_tree ?_;show wpAny _ _ ((compStart (.ListComp elt gens scope pos) d it acc env).onRaise (λx=>do noteFrame x env;standAt theWindowsPlace)) _ _ s;refine wpAny_notedAt ?_;unfold compStart;have e:(clausesOf (.ListComp elt gens scope pos))[d]?=some ⟨t,i,ifs,0⟩:=hg;rw[e];show wpAny _ _ (ask >>= _) _ _ s;refine ab (wpAny_askSetting (wpAny_ite ?_));split
 .exact am (And.intro rfl h0)
 .refine ab (wpAny_rule ?_);show wpAny _ _ (standAt i.pos >>= _) _ _ s;exact ab (fw (ab (dc h (λit' s' h'=>am (And.intro rfl h')) λ_ _ x=>False.elim x)))
end
abbrev TM:=AR->St->Hp->(AR->St->Hp->Prop)->Prop
def lob (its:AB) (n:Nat):Obj:={ cls:=.type "list",data:=.seq its.toArray n }
structure AccOk(X:Cx)(a:AQ):Prop where
 new:a∈X.ex\/X.s₀.heap.objs.size<=a
 cel:∀x c,X.env.cells.lookup x=some c->c≠a
 pin:∀p∈X.pn,p.1≠a
def PM(X:Cx)(lim:Bool)(a:AQ)(em:Sem Fin->Sem Fin)(t:TM):Prop:=
 ∀(p9:AC)(its:AB)(n:Nat)(ys:AR)(Y:St)(H:Hp)(s:AI)(K:AR->St->Hp->Prop),Inv X ((a,lob its n)::p9) Y H s->(∀p∈p9,p.1≠a)->Vals ys its->(lim=true->ys.length < sizeLine)->t ys Y H K->
  ∀(k:Sem Fin)(Q:Fin->AI->Prop)(E:AG),(∀s' its' n' ys' σ' H',Inv X ((a,lob its' n')::p9) σ' H' s'->Vals ys' its'->K ys' σ' H'->↥X k Q E s')->↥X (em k) Q E s
def tmE(te:TE):TM:=λys Y H K=>ys.length < sizeLine/\te Y H λy H'=>K (ys++[y]) Y H'
def Uo{X:Cx}{a:AQ}{elt:AO}{te:TE}(hx:X.xe=λ_ _=>False)(ha:AccOk X a)(he:PE X elt te):PM X false a (emE elt (.ref a) X.env) (tmE te):=by
 intro p9 its n ys Y H s K I hp rv _ h kk Q E hk;obtain ⟨hz,h⟩:=h;have h0:=he _ s Y H _ I h;rw[hx]at h0;refine ab (ab (dc h0 (λv s8 h8=>?_) λ_ _ z=>False.elim z));obtain ⟨y,H8,I8,r8,k8⟩:=h8;obtain ⟨pD,nD,lD,fD,cD⟩:=I8.pin (a,lob its n) (al _ bg);have hl:=rv.length;refine ab (append_at (hsz:=by rw[av];omega) pD λh9 hs9 hD9=>am ?_);have I8a:Inv X p9 Y H8 s8:=I8.pins_of λp hp=>I8.pin p (al _ (bi _ hp));have I9:Inv X p9 Y H8 { s8 with heap:=h9 }:=I8a.turned (t':=s8.toks) (it:=a) (λb o hb e=>hs9.extBut b o hb e) nD lD ha.new ha.cel (λp hp'=>by
  rcases aT.mp hp' with z |z
  .exact ha.pin p z
  .exact hp p z)
 have hD9':h9.get? a=some (lob (its++[v]) (n+1)):=by rw[hD9,List.push_toArray];rfl
 refine hk _ (its++[v]) (n+1) (ys++[y]) Y H8 (I9.pins_of λp hp'=>?_) (rv.append (.cons r8 .nil)) k8;rcases bB.mp hp' with e |z
 .subst e;exact ⟨hD9',nD,lD,fD,λv z=>by have z':Data.seq _ _=Data.cell v:=z;cases z'⟩
 .exact I9.pin p (al _ z)
def emT(ifs:AE)(elt:AO)(acc:AN)(env:Env)(k:Sem Fin):Sem Fin:=
 (forIn ifs true λc r=>if r=true then do let ok <-isTrue c env (eval c env);pure (ForInStep.yield ok) else pure (ForInStep.yield r)) >>= λok=>if ok=true then emE elt acc env k else k
def Cp(elt tg iter:AO)(ifs:AE)(scope:Scope)(pos:Pos):fO (.ListComp elt [⟨tg,iter,ifs,0⟩] scope pos) 0 tg iter (emT ifs elt):=λ_ _ _=>rfl
def tmT(tt:TT)(te:TE):TM:=λys Y H K=>tt Y H λb H4=>if b=true then te Y H4 λy H5=>K (ys++[y]) Y H5 else K ys Y H4
def Cq{X:Cx}{a:AQ}{elt:AO}{ifs:AE}{tt:TT}{te:TE}(hx:X.xe=λ_ _=>False)(ha:AccOk X a)(ht:PIf X ifs tt)(he:PE X elt te):PM X true a (emT ifs elt (.ref a) X.env) (tmT tt te):=by
 intro p9 its n ys Y H s K I hp rv hl h kk Q E hk;have h0:=ht _ s Y H _ I h;rw[hx]at h0;refine ab (dc h0 (λb s4 h4=>?_) λ_ _ z=>False.elim z);obtain ⟨H4,I4,q4⟩:=h4;cases b with
 |false=>exact hk s4 its n ys Y H4 I4 rv q4
 |true=>exact Uo hx ha he p9 its n ys Y H4 s4 K I4 hp rv (λz=>nomatch z) ⟨hl rfl,q4⟩ kk Q E hk
def Up{X:Cx}{a:AQ}{elt:AO}{ifs:AE}{tt:TT}{te:TE}(hx:X.xe=λ_ _=>False)(ha:AccOk X a)(ht:PIf X ifs tt)(he:PE X elt te):PM X false a (emT ifs elt (.ref a) X.env) (λys Y H K=>ys.length < sizeLine/\tmT tt te ys Y H K):=
 λp9 its n ys Y H s K I hp rv _ h=>Cq hx ha ht he p9 its n ys Y H s K I hp rv (λ_=>h.1) h.2
def Uq(elt t1 i1 t2 i2:AO)(ifs:AE)(scope:Scope)(pos:Pos):fO (.ListComp elt [⟨t1,i1,[],0⟩,⟨t2,i2,ifs,0⟩] scope pos) 1 t2 i2 (emT ifs elt):=λ_ _ _=>rfl
def Cr(elt t1 i1 t2 i2:AO)(ifs:AE)(scope:Scope)(pos:Pos):fO (.ListComp elt [⟨t1,i1,[],0⟩,⟨t2,i2,ifs,0⟩] scope pos) 0 t1 i1 (emG (.ListComp elt [⟨t1,i1,[],0⟩,⟨t2,i2,ifs,0⟩] scope pos) 1 i2):=λ_ _ _=>rfl
def Cu(J:It)(g:TG)(tm:TM)(ys:AR)(σ0:St)(H1:Hp)(K:AR->St->Hp->Prop):Prop:=
 ∃W:Nat->Nat->AR->St->Hp->Prop,(∃m,W 0 m ys σ0 H1)/\∀i m ys σ' H',W i m ys σ' H'->
  (J.stop i H'/\K ys σ' H')\/(J.go i H'/\∀x H2,J.yld i H' x H2->g x σ' H2 λσ3 H3=>tm ys σ3 H3 λys' σ4 H4=>∃m',m' < m/\W (i+1) m' ys' σ4 H4)
def tmG(wi:TI)(g:TG)(tm:TM):TM:=λys Y H K=>wi Y H λJ H1=>Cu J g tm ys Y H1 K
def Ur{X:Cx}{a:AQ}{elt:AO}{gens:List Comprehension}{scope:Scope}{pos:Pos}{d:Nat}{t i:AO}{ifs:AE}{em:AN->Env->Sem Fin->Sem Fin}{wi:TI}{g:TG}{tm:TM}(hx:X.xe=λ_ _=>False)(hc:X.calm=true)
  (hg:gens[d]?=some ⟨t,i,ifs,0⟩) (hT:fO (.ListComp elt gens scope pos) d t i em) (hi:PI X t i wi) (hG:PG X t g) (hs:∀x,foldedSetIterable i X.env x=pure x) (hm:PM X false a (em (.ref a) X.env) tm):
  PM X false a (emG (.ListComp elt gens scope pos) d i (.ref a) X.env) (tmG wi g tm):=by
 intro p9 its n ys Y H s K I hp rv _ h kk Q E hk;have h0:=hi _ s Y H _ I h;rw[hx]at h0;refine ab (dc h0 (λxv s1 h1=>?_) λ_ _ z=>False.elim z);refine ab (fw (ab (wpAny_of_eq (hs xv) ?_)));refine ab (dE (dc h1 (λitv s2 h2=>?_) λ_ _ z=>False.elim z));obtain ⟨it,fp,tn,J,H2,e,I2,T,st2,f2,W,⟨m0,w0⟩,turn⟩:=h2;subst e;have fpok:∀{H':Hp}{o:Obj},(∀b∈fp,H' b=none)->∀b∈fp,cM X ((a,o)::p9) H' b:=λhn b hb=>by
  obtain ⟨_,q1,q2,q3,q4,q5⟩:=f2 b hb;refine ⟨hn b hb,q1,q2,q3,q4,λp hp=>?_⟩;rcases aT.mp hp with z |z
  .exact q5 p (cf _ z)
  .rcases bB.mp z with z |z
   .subst z;exact q5 (a,lob its n) (al _ bg)
   .exact q5 p (al _ (bi _ z))
 have hap:∀b∈fp,a≠b:=λb hb=>(f2 b hb).2.2.2.2.2 (a,lob its n) (al _ bg);have loop:codeAny (model X.prog X.w) X.A (.compLoop (.ListComp elt gens scope pos) d (.ref it) (.ref a) X.env) (λr s'=>match r with |.ok f=>↥X kk Q E s' |.error e=>cameBackBy (model X.prog X.w) X.A X.env E e s') s2:=by
  refine Cm hT (λm s'=>∃(i:Nat)(ys:AR)(its:AB)(n:Nat)(σ':St)(H':Hp),Inv X ((a,lob its n)::p9) σ' H' s'/\Vals ys its/\tn i s'.heap/\(∀b∈fp,H' b=none)/\W i m ys σ' H') ?_ m0 ⟨0,ys,its,n,Y,H2,I2,rv,st2,λb hb=>(f2 b hb).1,w0⟩;rintro m s3 ⟨i,ys,its,n,σ3,H3,I3,rv3,st3,fr3,w3⟩;rcases turn i m ys σ3 H3 w3 with ⟨stop,qn⟩ |⟨go,step⟩
  .refine thn (T.done X rfl rfl rfl hc i _ s3 σ3 H3 _ I3 (fpok fr3) st3 stop) λr s4 ⟨hr,I4⟩=>?_;subst hr;exact hk s4 its n ys σ3 H3 I4 rv3 qn
  .refine thn (T.item X rfl rfl rfl hc i _ s3 σ3 H3 _ I3 (fpok fr3) st3 go) λr s4 ⟨u,hr,h4⟩=>?_;subst hr;refine thn h4 λ_ s5 ⟨x,H5,I5,r5,y5,st5,fr5⟩=>?_;have I5':=I5.pinned (fpok fr5) (T.obj _ _ st5);have h6:=hG _ s5 σ3 H5 x u _ I5' r5 (step x H5 y5);rw[hx]at h6;refine thn h6 λ_ s6 ⟨σ6,H6,I6,q6⟩=>?_;intro k Q' E' hk';refine hm (p9++ji fp s5.heap) its n ys σ6 H6 s6 _ I6 (λp hp'=>?_) rv3 (λz=>nomatch z) q6 k Q' E' λs7 its' n' ys' σ7 H7 I7 rv7 ⟨m',hm',w7⟩=>hk' s7 ⟨m',hm',i+1,ys',its',n',σ7,H7,I7.pins_of λp hp'=>?_,rv7,?_,λb hb=>?_,w7⟩
   .rcases aT.mp hp' with z |z
    .exact hp p z
    .exact λe=>hap p.1 (uQ z).1 e.symm
   .refine I7.pin p (al _ ?_);rcases bB.mp hp' with z |z
    .rw[z];exact bg
    .exact bi _ (cf _ z)
   .exact T.keep _ _ _ st5 λb hb o e=>(I7.pin (b,o) (al _ (bi _ (al _ (jk hb e))))).1
   .obtain ⟨o,e,_⟩:=T.obj _ _ st5 b hb;exact (I7.pin (b,o) (al _ (bi _ (al _ (jk hb e))))).2.1
 exact ab (wpAny_runOwn (Um hg loop (T.self X.A 0 _ _ _ st2 loop)))
def vh(lim:Bool)(X:Cx)(N':AD)(scope:Scope)(tg:AO)(em:AN->Env->Sem Fin->Sem Fin)(J:It)(σ0:St)(H1:Hp)(Q:VK):Prop:=
 ∃W:Nat->Nat->AR->St->Hp->Prop,(∃m,W 0 m [] σ0 H1)/\∀i m ys σ' H',W i m ys σ' H'->
  (J.stop i H'/\ys.length<=sizeLine/\∀D,H' D=none->Q (.ref D) (upd H' D (.lst ys)))\/
  (J.go i H'/\(lim=true->ys.length < sizeLine)/\∀cl C s₁ H₁ fp pn,∃g tm,PG (X.comp N' scope cl C s₁ H₁ fp pn) tg g/\(∀a,AccOk (X.comp N' scope cl C s₁ H₁ fp pn) a->PM (X.comp N' scope cl C s₁ H₁ fp pn) lim a (em (.ref a) (X.comp N' scope cl C s₁ H₁ fp pn).env) tm)/\
   ∀x H2,J.yld i H' x H2->g x σ' H2 λσ3 H3=>tm ys σ3 H3 λys' σ4 H4=>∃m',m' < m/\W (i+1) m' ys' σ4 H4)
def vm(lim:Bool)(X:Cx)(N':AD)(scope:Scope)(tg:AO)(em:AN->Env->Sem Fin->Sem Fin)(wi:TI)(cap:List (Option Nat)):TE:=λY H Q=>wi Y H λJ H1=>vh lim X N' scope tg em J (dI cap Y) H1 Q
def Cv{X:Cx}{elt tg iter:AO}{ifs:AE}{lim:Bool}{rest:List Comprehension}{em:AN->Env->Sem Fin->Sem Fin}{scope:Scope}{pos:Pos}{wi:TI}{p9:AC}{s:AI}{Y:St}{H:Hp}{Q:VK}{RR:AN->AQ->Result->AI->Prop}(N':AD)(cap:List (Option Nat))(hc:X.calm=true)(hi:PI X tg iter wi)(hcap:Caps X scope N' cap)
  (hcell:scope.names.all (λy=>y.2 != NameKind.cell)=true)
  (hfr:scope.names.all (λy=>y.2 != NameKind.free||(X.env.kindOf y.1==some NameKind.cell||X.env.kindOf y.1==some NameKind.free))=true)
  (hkind:scope.kind=.function) (hT:fO (.ListComp elt (⟨tg,iter,ifs,0⟩::rest) scope pos) 0 tg iter em) (I:Inv X p9 Y H s) (h:vm lim X N' scope tg em wi cap Y H Q)
  (fin:∀(D C:AQ)(H':Hp)(s4:AI)(m:AH),Inv X p9 Y H' s4->Q (.ref D) H'->s4.heap.Ns C m->cM X p9 H' C->RR (.ref D) C (.ok .next) s4):
  ↥X (eval iter X.env) (λx s₁=>↥X (pyIter x) (λit s₂=>↥X (newList []) (λacc s₃=>
   ↥X (newFunctionEnv scope X.env.globals (bW X.env scope.names []) [] X.env.qual none .none (some X.env)) (λcenv s₄=>
    codeAny (model X.prog X.w) X.A (.compStart (.ListComp elt (⟨tg,iter,ifs,0⟩::rest) scope pos) 0 it acc { cenv with scope:=relabel scope X.env }) (RR acc cenv.locals) s₄) X.xe s₃) X.xe s₂) X.xe s₁) X.xe s:=by
 have hcell':∀y∈scope.names,y.2≠NameKind.cell:=λy hy=>by
  have:=bP.mp hcell y hy;simpa using this
 have hfr':∀y∈scope.names,y.2=NameKind.free->(X.env.kindOf y.1=some NameKind.cell\/X.env.kindOf y.1=some NameKind.free):=λy hy hl=>by
  have:=bP.mp hfr y hy;simpa [hl] using this
 have hcs:∀y∈scope.names,y.2=NameKind.free->(X.env.cells.lookup y.1).isSome=true:=λy hy hl=>by
  obtain ⟨c,e⟩:=I.ok.has y.1 (hfr' y hy hl);rw[e];rfl
 have clsub:∀x c,(bW X.env scope.names []).lookup x=some c->X.env.cells.lookup x=some c:=By (λx c e=>by simp at e);have clhas:∀x,scope.names.lookup x=some NameKind.free->∃c,(bW X.env scope.names []).lookup x=some c:=λx e=>by
  have hm:=eA e;exact cm.mp (BK (hcs _ hm rfl) hm)
 have rel:∀x,(relabel scope X.env).names.lookup x=(scope.names.lookup x).map λk=>if (k==NameKind.free&&X.env.scope.kind==.function&&X.env.kindOf x==some .cell)=true then NameKind.cell else k:=λx=>uY
 have relfree:∀x,((relabel scope X.env).names.lookup x=some NameKind.cell\/(relabel scope X.env).names.lookup x=some NameKind.free)->scope.names.lookup x=some NameKind.free:=λx e=>by
  rw[rel x]at e;cases z:scope.names.lookup x with
  |none=>rw[z]at e;rcases e with e |e <;> cases e
  |some k=>
   have nk:=hcell' _ (eA z);rw[z]at e;cases k with
   |free=>rfl
   |cell=>exact absurd rfl nk
   | «local»=>rcases e with e |e <;> simp[show (NameKind.«local»==NameKind.free)=false by decide]at e
   |globalExplicit=>rcases e with e |e <;> simp[show (NameKind.globalExplicit==NameKind.free)=false by decide]at e
   |globalImplicit=>rcases e with e |e <;> simp[show (NameKind.globalImplicit==NameKind.free)=false by decide]at e
 generalize hcl:bW X.env scope.names []=cl at clsub clhas;refine thn (hi p9 s Y H _ I h) λxv s0 h0=>thn h0 λitv s2 h2=>?_;obtain ⟨it,fp,tn,J,H2,e,I2,T,st2,f2,W,⟨m0,w0⟩,turn⟩:=h2;subst e;refine df (wpAny_newFunctionEnv hcell' (by intro y hy;simp at hy) (λh₁ hns₁ hsb₁=>?_) hkind);dsimp only at hns₁ hsb₁ ⊢;generalize hH2:s2.heap.push { cls:=.type "list",dict:=none,data:=.seq ([]:AB).toArray }=HP at hns₁ hsb₁ ⊢;have hC:HP.objs.size=s2.heap.objs.size+1:=by rw[<-hH2,dA]
 have hDC:s2.heap.objs.size≠HP.objs.size:=by rw[hC];exact b3 (Nat.lt_succ_self _)
 have below:∀b,b < s2.heap.objs.size->b≠HP.objs.size/\b≠s2.heap.objs.size:=λb hb=>⟨by rw[hC];exact b3 (fq hb),b3 hb⟩;have old:∀b o,s2.heap.get? b=some o->h₁.get? b=some o:=λb o e=>hsb₁.extBut b o (below b (ay e)).1 (ag _ (hH2 ▸ ag _ e));have hacc:h₁.get? s2.heap.objs.size=some { cls:=.type "list",data:=.seq ([]:AB).toArray 0 }:=hsb₁.extBut _ _ hDC (ag _ (hH2 ▸ aI _ rfl));have hst₁:tn 0 h₁:=T.keep _ _ _ st2 λb _ o e=>old b o e;have fplt:∀b∈fp,b < s2.heap.objs.size:=λb hb=>by
  obtain ⟨o,e,_⟩:=T.obj _ _ st2 b hb;exact ay e
 have fslt:∀b∈frs X.stack,b < s2.heap.objs.size:=λb hb=>by
  obtain ⟨_,o,e,_⟩:=I2.stack.mem hb;exact ay e
 have celllt:∀x c,cl.lookup x=some c->c < s2.heap.objs.size:=λx c e=>by
  obtain ⟨v,q⟩:=I2.cell x c (clsub x c e);exact q.lt
 have hDf:H2 s2.heap.objs.size=none:=I2.hok.fresh (ax _);have hCf:H2 HP.objs.size=none:=I2.hok.fresh (by rw[hC];exact gg _);have nofs:∀b∈fp,b∉frs X.stack:=λb hb z=>by
  obtain ⟨_,f1,f2',_⟩:=f2 b hb;rcases bB.mp (I2.stkSub b z) with e |e
  .exact f1 e
  .exact f2' e
 have ok':(X.comp N' scope cl HP.objs.size s2 H2 fp (X.pn++p9)).Ok:=
  ⟨I2.ok.mod,hkind,I2.ok.glob,I2.ok.blt,(by show s2.heap.objs.size<=HP.objs.size;rw[hC];exact gg _),
   λx y c e1 e2=>I2.ok.inj x y c (clsub x c e1) (clsub y c e2),λx hx=>clhas x (relfree x hx),λx c hf _=>(by cases hf),I2.ok.hd,I2.ok.frames,.inl rfl,
   λb hb=>⟨(below b (fplt b hb)).1,λx c e=>(f2 b hb).2.2.2.2.1 x c (clsub x c e)⟩,I2.bs,ca I2.ok.bsz I2.sz,
   λb o e hb=>(by
    rcases (f2 b hb).2.2.2.1 with z |z
    .exact I2.ok.noex b o e z
    .exact absurd (bm (ay e) (ca I2.ok.bsz z)) (eS _)),
   nofs,I2.stack,I2.stkFree⟩
 have pnOk:∀p∈X.pn++p9,p.1 < s2.heap.objs.size/\p.1∉frs X.stack:=λp hp=>by
  obtain ⟨e,_,n1,n2,_⟩:=I2.pin p hp;refine ⟨ay e,λz=>?_⟩;rcases bB.mp (I2.stkSub _ z) with e |e
  .exact n1 e
  .exact n2 e
 have I0:∀t,Inv (X.comp N' scope cl HP.objs.size s2 H2 fp (X.pn++p9)) [(s2.heap.objs.size,{ cls:=.type "list",data:=.seq ([]:AB).toArray 0 })] (dI cap Y) H2 { s2 with heap:=h₁,toks:=t }:=λt=>
  ⟨ok',rfl,I2.bare,Un.kept old,⟨_,hns₁,λi x v e1 e2 _=>by
    obtain ⟨j,nj,fr,sj⟩:=hcap.at e1 e2;obtain ⟨m,_,hl⟩:=I2.loc;have hk:=hfr' (x,NameKind.free) (eA fr) rfl;obtain ⟨u,r,l⟩:=hl j x v nj sj (by rcases hk with hk |hk;exact .inr (.inl hk);exact .inr (.inr hk));refine ⟨u,r,.inr ⟨?_,?_⟩⟩
    .show (relabel scope X.env).names.lookup x=some .cell\/(relabel scope X.env).names.lookup x=some .free;rw[rel x,fr,Option.map_some];by_cases hh:(NameKind.free==NameKind.free&&X.env.scope.kind==ScopeKind.function&&X.env.kindOf x==some NameKind.cell)=true
     .exact .inl (by rw[if_pos hh])
     .exact .inr (by rw[if_neg hh])
    .obtain ⟨c,ec⟩:=clhas x fr;have ec':=clsub x c ec;rcases l with ⟨k1,_⟩ |⟨_,c',e',q⟩
     .rcases hk with hk |hk <;> (rw[hk]at k1;cases k1)
     .have ecc:X.env.cells.lookup x=some c:=ec';rw[e']at ecc;cases ecc;obtain ⟨o,ho,hd⟩:=q;exact ⟨_,ec,o,old _ _ ho,hd⟩⟩,
   λx c e=>(by obtain ⟨v,o,ho,hd⟩:=I2.cell x c (clsub x c e);exact ⟨v,o,old _ _ ho,hd⟩),hCf,λx c e=>I2.freeC x c (clsub x c e),
   λp hp=>by
    rcases aT.mp hp with z |z
    .obtain ⟨e,n0,_,_,d⟩:=I2.pin p z;exact ⟨old _ _ e,n0,(below _ (pnOk p z).1).1,(pnOk p z).2,d⟩
    .have e:p=_:=ah.mp z;subst e;exact ⟨hacc,hDf,hDC,λz=>absurd (fslt _ z) (eS _),λv z=>by have z':Data.seq _ _=Data.cell v:=z;cases z'⟩,
   I2.hok.kept old,by show (dI cap Y).length=N'.length;unfold dI;rw[af];exact hcap.len⟩
 have fpok:∀{H':Hp}{o:Obj},(∀b∈fp,H' b=none)->∀b∈fp,cM (X.comp N' scope cl HP.objs.size s2 H2 fp (X.pn++p9)) [(s2.heap.objs.size,o)] H' b:=λhn b hb=>
  ⟨hn b hb,(below b (fplt b hb)).1,nofs b hb,.inl hb,λx c e=>(f2 b hb).2.2.2.2.1 x c (clsub x c e),λp hp=>by
   rcases aT.mp hp with z |z
   .exact (f2 b hb).2.2.2.2.2 p z
   .have e:p=_:=ah.mp z;subst e;exact Ne.symm (below b (fplt b hb)).2⟩
 have loop:∀s₃:AI,s₃={ s2 with heap:=h₁,toks:=s2.toks+([]:List (Str×AN)).length }->
   codeAny (model X.prog X.w) X.A (.compLoop (.ListComp elt (⟨tg,iter,ifs,0⟩::rest) scope pos) 0 (.ref it) (.ref s2.heap.objs.size) (compEnvC scope cl HP.objs.size X.env))
    (RR (.ref s2.heap.objs.size) HP.objs.size) s₃:=by
  rintro s₃ rfl;refine Cm hT
   (λk s'=>∃(i:Nat) (ys:AR) (its:AB) (n:Nat) (σ':St) (H':Hp),Inv (X.comp N' scope cl HP.objs.size s2 H2 fp (X.pn++p9)) [(s2.heap.objs.size,{ cls:=.type "list",data:=.seq its.toArray n })] σ' H' s'/\Vals ys its/\
    tn i s'.heap/\(∀b∈fp,H' b=none)/\W i k ys σ' H') ?_ m0 ⟨0,[],[],0,_,H2,I0 _,.nil,hst₁,λb hb=>(f2 b hb).1,w0⟩
  rintro k s3 ⟨i,ys,its,n,σ3,H3,I3,rv3,st3,fr3,w3⟩;rcases turn i k ys σ3 H3 w3 with ⟨stop,hz,qn⟩ |⟨go,hlim,step⟩
  .refine thn (T.done (X.comp N' scope cl HP.objs.size s2 H2 fp (X.pn++p9)) rfl rfl rfl hc i _ s3 σ3 H3 _ I3 (fpok fr3) st3 stop) λr s4 ⟨hr,I4⟩=>?_;subst hr;obtain ⟨m,hn,_⟩:=I4.loc;obtain ⟨pD,nD,_,_,_⟩:=I4.pin (s2.heap.objs.size,{ cls:=.type "list",data:=.seq its.toArray n }) (al _ (ah.mpr rfl));have nC:H3 HP.objs.size=none:=I4.free;have u:Un (frs X.stack) fp H2 H3 s2.heap s4.heap:=I4.base;refine fin s2.heap.objs.size HP.objs.size (upd H3 s2.heap.objs.size (.lst ys)) s4 m ?_ (qn _ nD) hn ?_
   .refine I2.call' (s':=s4) (ch:=fp) I4.os ?_ ?_ I4.bare λb hb=>⟨(f2 b hb).2.2.2.1,(f2 b hb).2.1,(f2 b hb).2.2.2.2.1,(f2 b hb).2.2.2.2.2⟩
    .refine ⟨λb o e n0 hb hx=>u.keep b o e n0 hb hx,λb o e n0 hb hx=>u.slot b o e n0 hb hx,λb o e n0 hx=>?_,λb o e hx=>u.there b o e hx,λb xs e=>?_,λb o v e=>?_,λb ps e=>?_⟩
     .rw[aJ (below b (ay e)).2];exact u.free b o e n0 hx
     .rw[aJ (bz e hDf)];exact u.tups b xs e
     .rw[aJ (bz e hDf)];exact u.frzs b o v e
     .rw[aJ (bz e hDf)];exact u.tbls b ps e
    .intro b o e;by_cases hb:b=s2.heap.objs.size
     .subst hb;rw[cQ]at e;cases e;exact ⟨hz,its,n,rv3,pD⟩
     .rw[aJ hb]at e;exact (I4.hok b o e).stay (λc v _ q=>q) (λc q=>by rw[aJ (bz q nD)];exact q) λc xs q=>by rw[aJ (bz q nD)];exact q
   .have hle:s2.heap.objs.size<=HP.objs.size:=by rw[hC];exact gg _
    exact I2.fpOk hle (by rw[aJ (Ne.symm hDC)];exact nC)
  .refine thn (T.item (X.comp N' scope cl HP.objs.size s2 H2 fp (X.pn++p9)) rfl rfl rfl hc i _ s3 σ3 H3 _ I3 (fpok fr3) st3 go) λr s4 ⟨u,hr,h4⟩=>?_;subst hr;refine thn h4 λ_ s5 ⟨x,H5,I5,r5,y5,st5,fr5⟩=>?_;obtain ⟨g,tm,hg,hm,body⟩:=step cl HP.objs.size s2 H2 fp (X.pn++p9);have acc:AccOk (X.comp N' scope cl HP.objs.size s2 H2 fp (X.pn++p9)) s2.heap.objs.size:=
    ⟨.inr (ax _),λx c e z=>absurd (celllt x c e) (by rw[z];exact eS _),λp hp z=>absurd (pnOk p hp).1 (by rw[z];exact eS _)⟩
   have I5':=I5.pinned (fpok fr5) (T.obj _ _ st5);refine thn (hg _ s5 σ3 H5 x u _ I5' r5 (body x H5 y5)) λ_ s6 ⟨σ6,H6,I6,q6⟩=>?_;intro kk Q' E' hk';refine hm _ acc (ji fp s5.heap) its n ys σ6 H6 s6 _ I6 (λp hp' e=>?_) rv3 hlim q6 kk Q' E' λs7 its' n' ys' σ7 H7 I7 rv7 ⟨m',hm',w7⟩=>hk' s7 ⟨m',hm',i+1,ys',its',n',σ7,H7,I7.pins_of λp hp'=>?_,rv7,?_,λb hb=>?_,w7⟩
   .exact (below p.1 (fplt p.1 (uQ hp').1)).2 e
   .refine I7.pin p (al _ ?_);rw[ah.mp hp'];exact bg
   .exact T.keep _ _ _ st5 λb hb o e=>(I7.pin (b,o) (al _ (bi _ (jk hb e)))).1
   .obtain ⟨o,e,_⟩:=T.obj _ _ st5 b hb;exact (I7.pin (b,o) (al _ (bi _ (jk hb e)))).2.1
 exact codeAny_compStart_list (loop _ rfl) (T.self X.A 0 _ _ _ hst₁ (loop _ rfl))
def Cw{X:Cx}{elt tg iter:AO}{ifs:AE}{lim:Bool}{rest:List Comprehension}{em:AN->Env->Sem Fin->Sem Fin}{scope:Scope}{pos:Pos}{wi:TI}(N':AD)(cap:List (Option Nat))(hc:X.calm=true)(hi:PI X tg iter wi)(hcap:Caps X scope N' cap)
  (hcell:scope.names.all (λy=>y.2 != NameKind.cell)=true) (hnames:scope.names.all (λy=>y.2 != NameKind.local||scope.names.lookup y.1==some NameKind.local)=true)
  (hfr:scope.names.all (λy=>y.2 != NameKind.free||(X.env.kindOf y.1==some NameKind.cell||X.env.kindOf y.1==some NameKind.free))=true)
  (hkind:scope.kind=.function) (hs:∀x,foldedSetIterable iter X.env x=pure x) (hT:fO (.ListComp elt (⟨tg,iter,ifs,0⟩::rest) scope pos) 0 tg iter em):
  PE X (.ListComp elt (⟨tg,iter,ifs,0⟩::rest) scope pos) (vm lim X N' scope tg em wi cap):=by
 intro p9 s Y H Q I h;have hnames':∀y∈scope.names,y.2=NameKind.local->scope.names.lookup y.1=some NameKind.local:=λy hy hl=>by
  have:=bP.mp hnames y hy;simpa [hl] using this
 have hcs:∀y∈scope.names,y.2=NameKind.free->(X.env.cells.lookup y.1).isSome=true:=λy hy hl=>by
  have:=bP.mp hfr y hy;obtain ⟨c,e⟩:=I.ok.has y.1 (by simpa [hl] using this);rw[e];rfl
 rw[eval_ListComp];refine fx (use:=none) (Q:=EP X p9 Y Q) rfl hs (kI hcs) hkind hnames'
  (Cv (RR:=λacc C=>compPost (model X.prog X.w) X.A X.xe none (EP X p9 Y Q) acc C) N' cap hc hi hcap hcell hfr hkind hT I h λL C H' s4 m I4 q hn fC=>?_)
 obtain ⟨f0,f1,f2,f3,f4,f5⟩:=fC;exact ⟨m,hn,λh' hs'=>⟨.ref L,H',I4.turned (t':=s4.toks) (it:=C) (λb o hb e=>hs'.extBut b o hb e) f0 f1 f3 f4 f5,rfl,q⟩⟩
def Cy{X:Cx}{elt tg iter:AO}{ifs:AE}{lim:Bool}{rest:List Comprehension}{em:AN->Env->Sem Fin->Sem Fin}{scope:Scope}{pos py spos:Pos}{wi:TI}{i:Nat}{y:Str}(hT:fO (.ListComp elt (⟨tg,iter,ifs,0⟩::rest) scope pos) 0 tg iter em)(hN:X.N.Nodup)(hiy:X.N[i]?=some y)(hy:Loc X.env.scope y)(N':AD)(cap:List (Option Nat))(hc:X.calm=true)(hi:PI X tg iter wi)(hcap:Caps X scope N' cap)
  (hcell:scope.names.all (λy=>y.2 != NameKind.cell)=true:=by rfl) (hnames:scope.names.all (λy=>y.2 != NameKind.local||scope.names.lookup y.1==some NameKind.local)=true:=by rfl)
  (hfr:scope.names.all (λy=>y.2 != NameKind.free||(X.env.kindOf y.1==some NameKind.cell||X.env.kindOf y.1==some NameKind.free))=true:=by rfl)
  (hkind:scope.kind=.function:=by rfl) (hs:∀x,foldedSetIterable iter X.env x=pure x:=by intro _;rfl)
  (hsw:swapsWith (.ListComp elt (⟨tg,iter,ifs,0⟩::rest) scope pos) (some (.Name y py)) spos.line X.env=pure true:=by rfl)
  (hf:X.fn y=true\/X.env.scope.names.lookup y=some .local:=by first |exact .inl rfl |exact .inr rfl |assumption):
  PS X (.Assign [.Name y py] (.ListComp elt (⟨tg,iter,ifs,0⟩::rest) scope pos) spos) (jh (vm lim X N' scope tg em wi cap) (jg i)):=by
 intro p9 s Y H D I h;have hnames':∀y∈scope.names,y.2=NameKind.local->scope.names.lookup y.1=some NameKind.local:=λy hy hl=>by
  have:=bP.mp hnames y hy;simpa [hl] using this
 have hcs:∀y∈scope.names,y.2=NameKind.free->(X.env.cells.lookup y.1).isSome=true:=λy hy hl=>by
  have:=bP.mp hfr y hy;obtain ⟨c,e⟩:=I.ok.has y.1 (by simpa [hl] using this);rw[e];rfl
 rw[exec_Assign_Name_used _ _ _ _ hsw];refine ab (fw (ab ?_));show wpAny _ X.A (do let _ <-comprehension (.ListComp elt (⟨tg,iter,ifs,0⟩::rest) scope pos) scope X.env _ (newList []) false (eval iter X.env) (some (assign (.Name y py) X.env))) _ _ s;refine ab (dc (fx (use:=some (assign (.Name y py) X.env)) (Q:=λ_ s'=>SP X p9 D .next s') rfl hs (kI hcs) hkind hnames'
  (Cv (RR:=λacc C=>compPost (model X.prog X.w) X.A X.xe (some (assign (.Name y py) X.env)) (λ_ s'=>SP X p9 D .next s') acc C) N' cap hc hi hcap hcell hfr hkind hT I h λL C H' s4 m I4 q hn fC=>?_)) (λ_ s' hq=>am (am hq)) λ_ _ e=>e)
 obtain ⟨oC,es,ep,eC,rC⟩:=id hn;obtain ⟨f0,f1,f2,f3,f4,f5⟩:=fC;have ncell:∀v,oC.data≠.cell v:=λv z=>by rw[rC.1]at z;cases z
 have I5:Inv X (p9++[(C,oC)]) Y H' s4:=I4.pins_of λp hp=>by
  rcases aT.mp hp with z |z
  .exact I4.pin p (al _ z)
  .have e:p=_:=ah.mp z;subst e;exact ⟨eC,f0,f1,f2,ncell⟩
 refine hX (jf I5 hN hiy hy (v:=.ref L) (u:=.ref L) rfl (λs5 I6=>?_) hf);have eC5:s5.heap.get? C=some oC:=(I6.pin (C,oC) (al _ (al _ (ah.mpr rfl)))).1;have I7:Inv X p9 (Y.set i (some (.ref L))) H' s5:=I6.pins_of λp hp=>I6.pin p (al _ (cf _ hp));refine ⟨m,⟨oC,es,ep,eC5,rC⟩,λh'' hs''=>?_⟩;exact ⟨_,H',I7.turned (t':=s5.toks) (it:=C) (λb o hb e=>hs''.extBut b o hb e) f0 f1 f3 f4 f5,q⟩
open HT
section
variable {prog:AK} {w:World} {A:AM} {E:AG} {s:AI}
theorem Us(n:Nat):Builtin.Slice.sliceAdjust none none (-1) (n:Int)=((n:Int) - 1,-1):=rfl
theorem Ut(n:Nat):Builtin.Slice.slicePlaces ((n:Int) - 1) (-1) (-1)=n:=by
 unfold Builtin.Slice.slicePlaces;have h1:¬((-1:Int) > 0):=by omega
 simp only[h1,if_false];split
 .rw[show (-(-1):Int)=1 by decide,Int.ediv_one];omega
 .omega
theorem Uu{sl:AQ}{t:Tok}{n:Nat}{Q:Int×Int×Nat->AI->Prop}(hs:s.heap.IsSliceOf sl .none .none (.int (-1) t))
  (h:Q ((n:Int) - 1,-1,n) s):wpAny (model prog w) A (Builtin.Slice.sliceApplied (.ref sl) (pure (n:Int))) Q E s:=by
 obtain ⟨os,hos,hcs,hds⟩:=id hs;unfold Builtin.Slice.sliceApplied Builtin.Slice.sliceFields;refine ab (ab (dk hos hds (x:=.none) rfl (ab (dk hos hds (x:=.none) rfl (ab (dk hos hds (x:=.int (-1) t) rfl (am ?_)))))));refine ab (HT.km (.int (-1) t) ?_);show wpAny _ _ (if ((-1:Int)==0)=true then _ else _) _ _ s;rw[if_neg (!1)];refine ab (HT.km .none (ab (HT.km .none (ab (am ?_)))));show wpAny _ _ (match Builtin.Slice.sliceAdjust none none (-1) (n:Int) with | (lo,hi)=>pure (lo,(-1:Int),Builtin.Slice.slicePlaces lo hi (-1))) _ _ s;rw[Us n];show wpAny _ _ (pure ((n:Int) - 1,(-1:Int),Builtin.Slice.slicePlaces ((n:Int) - 1) (-1) (-1))) _ _ s;rw[Ut];exact am h
theorem Uv(its:AB):((List.range its.toArray.size).filterMap λ(m:Nat)=>its.toArray[((its.toArray.size:Int) - 1+(m:Int) * -1).toNat]?).toArray=its.reverse.toArray:=by
 have h2:=BZ its;have e:slicePick its.toArray none none (some (-1))=((List.range its.toArray.size).filterMap λ(m:Nat)=>its.toArray[((its.toArray.size:Int) - 1+(m:Int) * -1).toNat]?).toArray:=by
  show ((sliceRange ((its.toArray.size:Int) - 1) (-1) (-1)).filterMap λx=>its.toArray[x]?).toArray=_;unfold sliceRange;dsimp only;rw[if_neg (!1),List.filterMap_map];congr 1;have e1:(if (its.toArray.size:Int) - 1 > -1 then ((its.toArray.size:Int) - 1 - -1 - -1 - 1) / -(-1) else 0).toNat=its.toArray.size:=by
   split
   .rw[show (-(-1):Int)=1 by decide,Int.ediv_one];omega
   .omega
  rw[e1];congr 1;funext k;show its.toArray[((its.toArray.size:Int) - 1 + -1 * (k:Int)).toNat]?=_;rw[Int.mul_comm]
 rw[<-e,h2]
theorem Uw{t sl:AQ}{its:AB}{tk:Tok}{Q:AG}(ht:IsTup s.heap t its.toArray)(hs:s.heap.IsSliceOf sl .none .none (.int (-1) tk))
  (h:Q (.ref (~~~s)) { s with heap:=s.heap.push { cls:=.type "tuple",data:=.seq its.reverse.toArray } })
  (hsz:its.toArray.size<=sizeLine):wpAny (model prog w) A (getItem (.ref t) (.ref sl)) Q E s:=by
 have htake:sizeOk (.seq its.reverse.toArray):=by show its.reverse.toArray.size<=sizeLine;rw[av,List.length_reverse];rwa [av]at hsz
 obtain ⟨os,hos,hcs,hds⟩:=id hs;have hTs:s.TypeIs (.ref sl) "slice":=⟨os,hos,hcs⟩;unfold getItem;try with_reducible refine dE ?_
 first |refine ab (am ?_) |skip
 refine ab (wpAny_sequenceKey ht.typeIs (!1) ?_);refine ab (de (name:=⇑"__getitem__") ht.typeIs cy
  (eW cy ht.typeIs entry_tuple_getitem ?_ (args_tuple_getitem _ _)))
 show wpAny _ _ (Builtin.Tuple.tupleItemsOf (.ref t) >>= _) _ _ s;refine ab (tupleItemsOf_ ht ?_);refine ab (wpAny_typeOf hTs ?_);rw[if_pos (!1)];refine ab (Uu hs ?_);show wpAny _ _ (if ((((its.toArray.size:Int) - 1)==0&&(-1:Int)==1&&its.toArray.size==its.toArray.size)=true) then _ else _) _ _ s;rw[if_neg (by rw[show ((-1:Int)==1)=false from rfl,gl,gV];exact br),Uv];first
  |exact ab (m:=Builtin.Tuple.tupleExact _) (df (am ⟨_,rfl,am h⟩) htake)
  |exact ab (m:=Builtin.Tuple.tupleExact _) (df (ab (am (am ⟨_,rfl,am h⟩))) htake)
  |exact ab (ab (m:=Builtin.Tuple.tupleExact _) (df (am (am ⟨_,rfl,am h⟩)) htake))
  |exact ab (ab (m:=Builtin.Tuple.tupleExact _) (df (am ⟨_,rfl,am h⟩) htake))
end
def Ux(K:PF):V->V->Hp->VK->Prop:=λx y H Q=>y=.int (-1)/\∃a xs,x=.ref a/\((SqL K H a xs/\∀p,H p=none->Q (.ref p) (upd H p (.lst xs.reverse)))\/(SqT K H a xs/\∀p,H p=none->Q (.ref p) (upd H p (.tup xs.reverse))))
section
variable {X:Cx} {e st:AO} {te ts:TE} {p2 pos:Pos}
theorem Uy(he:PE X e te)(hs:PE X st ts):PE X (.Subscript e (.Slice none none (some st) p2) pos) (λY H Q=>te Y H λx H1=>ts Y H1 λy H2=>Ux X.K x y H2 Q):=by
 intro p9 s Y H Q I h;refine Subscript_ (thn (he p9 s Y H _ I h) λv s1 ⟨x,H1,I1,r1,q1⟩=>?_);refine wpAny_Slice (thn (uU p9 s1 Y H1 (λl H2=>l=none/\H2=H1) I1 ⟨rfl,rfl⟩) λvl s2 hy=>?_);obtain ⟨l,H2,I2,pl,rfl,rfl⟩:=hy;refine thn (uU p9 s2 Y H2 (λl H3=>l=none/\H3=H2) I2 ⟨rfl,rfl⟩) λvu s3 hy=>?_;obtain ⟨u,H3,I3,pu,rfl,rfl⟩:=hy;rw[evalPart_some];refine thn (hs p9 s3 Y H3 _ I3 q1) λvs s4 hy=>?_;obtain ⟨y,H4,I4,r4,rfl,a,xs,rfl,hq⟩:=hy;obtain ⟨t,rfl⟩:=r4;cases r1;have I5:Inv X p9 Y H4 { s4 with heap:=s4.heap.push { cls:=.type "slice",data:=.fields #[vl,vu,.int (-1) t] } }:=I4.kept (t':=s4.toks) λb ob q=>ag _ q;rcases hq with ⟨hx,q⟩ |⟨hx,q⟩
 .obtain ⟨its,r,ht,hz⟩:=I5.list hx;have hlen:=r.length;refine tail_any (ops:=[.ref a,.ref s4.heap.objs.size]) (T:="list") ht.isList.typeIs slot_list_getitem.lookup ?_ (by with_unfolding_all rfl);refine wpAny_getItem_list_slice ht.isList (Heap.IsSliceOf.new ..) pl pu (.int (-1) t) (by simp) ?_ (by rw[av] <;> omega);rw[BZ];refine ⟨.ref _,_,I5.laid (t':=s4.toks) (o:=.lst xs.reverse) (λb ob q=>ag _ q) (ax _) ?_,rfl,q _ (I5.hok.fresh (ax _))⟩;exact ⟨by rw[List.length_reverse];exact hz,_,0,r.back,aI _ rfl⟩
 .obtain ⟨its,r,ht,hz⟩:=I5.tuple hx;have hlen:=r.length;cases pl;cases pu;refine tail_any (ops:=[.ref a,.ref s4.heap.objs.size]) (T:="tuple") ht.typeIs cy.lookup ?_ (by with_unfolding_all rfl);refine Uw ht (Heap.IsSliceOf.new ..) ?_ (by rw[av] <;> omega);refine ⟨.ref _,_,I5.laid (t':=s4.toks) (o:=.tup xs.reverse) (λb ob q=>ag _ q) (ax _) ?_,rfl,q _ (I5.hok.fresh (ax _))⟩;exact ⟨by rw[List.length_reverse];exact hz,_,r.back,IsTupX.new _ _⟩
end
end L2
namespace PySem
open Sem (wp)
open Builtin Builtin.Str
open AutoSeq1 (wpAny_loadPart')
end PySem
namespace RF
open PySem L2 PySem.Builtin PySem.Builtin.Str PySem.StrLaws
def qN(c:Nat):AA->List (AA)
 |[]=>[[]]
 |x::r=>if x=c then []::qN c r else (x::(qN c r).headD [])::(qN c r).tail
end RF
namespace L2
open PySem PySem.Spec PyProof.Rows
open Builtin Builtin.ObjectAttr
open PySem.W (findIn mroIn clsIn typeIn Looks InstAt looks_findIn looks_mroIn looks_typeIn looks_clsIn takerIn takesIn hasDictIn looks_takesIn check_slot osa_eq)
def exO(C l:AQ)(dx:Option AQ):Obj:=⟨.ref C,dx,.fields #[.ref l,.none,.none,.none,.bool false,.none],#[]⟩
open PySem.W (findIn mroIn clsIn typeIn takerIn specialIn findCls readsIn)
def Uz(f:AQ):Option AN->Bool
 |some (.ref a)=>a==f
 |_=>false
def UG(K:PF)(N f:AQ):Bool:=match K.lookup N with
 |some ⟨_,_,.dict es _,_⟩=>es.toList.all (λe=>Cd e.key)&&Uz f (nsFind es "__init__")
 |_=>false
def UJ(K:PF)(C f:AQ):Bool:=match K.lookup C with
 |some ⟨ty,_,.cls cd,⟨[_,_,_,_,k,_]⟩⟩=>Ce ty&&isNew k&&UG K cd.ns f&&!cd.hasDel&&(match cd.mro with |v::tl=>isRef C v&&vd K tl |[]=>false)
 |_=>false
def Cz(e C l:AQ)(dx:Option AQ):Heap->Prop:=λh=>h.get? e=some (exO C l dx)
section
variable {prog:AK} {w:World} {A:AM} {E:AG} {s:AI} {κ:PyProof.Rows.KeyKind}
def okK(κ:PyProof.Rows.KeyKind)(p:Keyed):Prop:=∃a,κ.keyOf p.1=some a
def okA(κ:PyProof.Rows.KeyKind)(xs:Array Keyed):Prop:=∀p,p∈xs.toList->okK κ p
theorem nb{a b:Nat}(h:¬(a==b)=true):a≠b:=λz=>h (a9.mpr z)
end
section
variable {κ:Type} [DecidableEq κ]
def cA(kvs:List (κ×V))(k:κ):Option V:=(kvs.find? λkv=>decide (kv.1=k)).map (·.2)
def putD(kvs:List (κ×V))(k:κ)(v:V):List (κ×V):=
 if (kvs.any λkv=>decide (kv.1=k))=true then kvs.map (λkv=>if kv.1=k then (kv.1,v) else kv) else kvs++[(k,v)]
theorem qO{p:κ×V}{r:List (κ×V)}{k:κ}(e:p.1=k):cA (p::r) k=some p.2:=by simp[cA,hZ,e]
theorem qP{p:κ×V}{r:List (κ×V)}{k:κ}(e:¬p.1=k):cA (p::r) k=cA r k:=by simp[cA,hZ,e]
theorem qQ(k:κ):∀kvs:List (κ×V),(kvs.any λkv=>decide (kv.1=k))=(cA kvs k).isSome
 |[]=>rfl
 |p::r=>by
  rw[List.any_cons];by_cases e:p.1=k
  .simp only[qO e,bX e,Bool.true_or,Option.isSome_some]
  .rw[qP e,ce e,Bool.false_or];exact qQ k r
theorem length_putD(kvs:List (κ×V))(k:κ)(v:V):(putD kvs k v).length<=kvs.length+1:=by
 unfold putD;split
 .rw[af];omega
 .rw[aw,da,fN];omega
theorem CG{kvs:List (κ×V)}{k:κ}(v:V)(h:cA kvs k=none):putD kvs k v=kvs++[(k,v)]:=by unfold putD;rw[qQ,h];exact if_neg (!1)
theorem RelO.isSome_eq{o:Option V}{u:Option AN}(r:RelO o u):o.isSome=u.isSome:=by
 cases o with
 |none=>cases u with
  |none=>rfl
  |some _=>exact (show False from r).elim
 |some _=>cases u with
  |none=>exact (show False from r).elim
  |some _=>rfl
theorem KV.val{kvs:List (κ×V)}{vs:List (κ×AN)}(r:KV kvs vs)(k:κ):RelO (cA kvs k) (valueAt vs k):=by
 unfold KV at r;induction r with
 |nil=>exact gc
 | @cons p q ps qs h t ih=>
  obtain ⟨h1,h2⟩:=h;by_cases e:p.1=k
  .have e':q.1=k:=h1.symm.trans e;have b:valueAt (q::qs) k=some q.2:=by simp[valueAt,hZ,e']
   rw[qO e,b];exact h2
  .have e':¬q.1=k:=λz=>e (h1.trans z);have b:valueAt (q::qs) k=valueAt qs k:=by simp[valueAt,hZ,e']
   rw[qP e,b];exact ih
theorem KV.any{kvs:List (κ×V)}{vs:List (κ×AN)}(r:KV kvs vs)(k:κ):(kvs.any λkv=>decide (kv.1=k))=vs.any λkv=>decide (kv.1=k):=by
 unfold KV at r;induction r with
 |nil=>rfl
 |cons h t ih=>rw[List.any_cons,List.any_cons,ih,h.1]
theorem KV.repl{kvs:List (κ×V)}{vs:List (κ×AN)}(r:KV kvs vs)(k:κ){y:V}{u:AN}(ry:RelV y u):
  KV (kvs.map λkv=>if kv.1=k then (kv.1,y) else kv) (vs.map λkv=>if kv.1=k then (kv.1,u) else kv):=by
 unfold KV at r ⊢;induction r with
 |nil=>exact .nil
 | @cons p q ps qs h t ih=>
  rw[aS,aS];refine .cons ?_ ih;obtain ⟨h1,h2⟩:=h;by_cases e:p.1=k
  .rw[if_pos e,if_pos (h1.symm.trans e)];exact ⟨h1,ry⟩
  .rw[if_neg e,if_neg (λz=>e (h1.trans z))];exact ⟨h1,h2⟩
theorem KV.put{kvs:List (κ×V)}{vs:List (κ×AN)}(r:KV kvs vs)(k:κ){y:V}{u:AN}(ry:RelV y u):KV (putD kvs k y) (stored vs k u):=by
 unfold putD stored;rw[r.any k];by_cases e:(vs.any λkv=>decide (kv.1=k))=true
 .rw[if_pos e,if_pos e];exact r.repl k ry
 .rw[if_neg e,if_neg e];exact Paired.snoc r ⟨rfl,ry⟩
theorem KV.length{kvs:List (κ×V)}{vs:List (κ×AN)}(r:KV kvs vs):kvs.length=vs.length:=gt r
end
def kJ{P:AK}{w:World}{k:Key}{u:AN}(r:RelV (kV k) u):(bU P w).is k u=true:=by
 cases k with
 |inl i=>obtain ⟨t,e⟩:=(show ∃t,u=Value.int i t from r);subst e;exact O9 P w i t
 |inr x=>obtain ⟨t,e⟩:=(show ∃t,u=Value.str x t from r);subst e;exact Pa P w x t
def CJ{P:AK}{w:World}:∀{ks:List Key}{us:AB},Vals (ks.map kV) us->ItemsAre (bU P w) ks us
 |[],_,r=>by rw[gL]at r;cases r;exact .nil
 |k::ks,_,r=>by
  rw[aS]at r;cases r with
  |cons h t=>exact .cons (kJ h) (CJ t)
abbrev KT(H:Hp):List (List Key×V)->List (List Key×AQ×AN)->Prop:=Paired λp q=>p.1=q.1/\H q.2.1=some (.tup (p.1.map kV))/\RelV p.2 q.2.2
def KT.val{H:Hp}{kvs:List (List Key×V)}{xs:List (List Key×AQ×AN)}(r:KT H kvs xs)(k:List Key):RelO (cA kvs k) ((atKey xs k).map (·.2)):=by
 induction r with
 |nil=>exact gc
 | @cons p q ps qs h t ih=>
  obtain ⟨h1,_,h2⟩:=h;by_cases e:p.1=k
  .have e':q.1=k:=h1.symm.trans e;have b:atKey (q::qs) k=some q.2:=by simp[atKey,hZ,e']
   rw[qO e,b];exact h2
  .have e':¬q.1=k:=λz=>e (h1.trans z);have b:atKey (q::qs) k=atKey qs k:=by simp[atKey,hZ,e']
   rw[qP e,b];exact ih
def KT.repl{H:Hp}{kvs:List (List Key×V)}{xs:List (List Key×AQ×AN)}(r:KT H kvs xs)(k:List Key){y:V}{u:AN}(ry:RelV y u):
  KT H (kvs.map λkv=>if kv.1=k then (kv.1,y) else kv) (xs.map (putAt k u)):=by
 induction r with
 |nil=>exact .nil
 | @cons p q ps qs h t ih=>
  rw[aS,aS];refine .cons ?_ ih;obtain ⟨h1,h2,h3⟩:=h;unfold putAt;by_cases e:p.1=k
  .rw[if_pos e,if_pos (h1.symm.trans e)];exact ⟨h1,h2,ry⟩
  .rw[if_neg e,if_neg (λz=>e (h1.trans z))];exact ⟨h1,h2,h3⟩
def KT.put{H:Hp}{kvs:List (List Key×V)}{xs:List (List Key×AQ×AN)}(r:KT H kvs xs)(k:List Key){b:AQ}{y:V}{u:AN}(hb:H b=some (.tup (k.map kV)))(ry:RelV y u):
  KT H (putD kvs k y) (storedH xs k b u):=by
 have e:(kvs.any λkv=>decide (kv.1=k))=(atKey xs k).isSome:=by rw[qQ,(r.val k).isSome_eq,Option.isSome_map]
 unfold putD storedH;rw[e];by_cases q:(atKey xs k).isSome=true
 .rw[if_pos q,if_pos q];exact r.repl k ry
 .rw[if_neg q,if_neg q];exact Paired.snoc r ⟨rfl,hb,ry⟩
def KT.keeps{H H':Hp}{kvs:List (List Key×V)}{xs:List (List Key×AQ×AN)}(r:KT H kvs xs)(ht:∀b ys,H b=some (.tup ys)->H' b=some (.tup ys)):KT H' kvs xs:=
 Paired.mapP r λ_ _ z=>⟨z.1,ht _ _ z.2.1,z.2.2⟩
section
variable {P:AK} {w:World} {H:Hp} {h:Heap} {a:AQ}
theorem CN{u:HO}(ok:HOk P w H h)(e:Rd H a u):ObjOk P w H h a u:=e.ok ok
theorem kO{kvs:List (Key×V)}(ok:HOk P w H h)(e:Rd H a (.dK kvs)):kvs.length<=sizeLine/\(a==sysModules)=false/\∃vs,KV kvs vs/\h.DictOf (bU P w) a vs:=
 show ObjOk P w H h a (.dK kvs) from CN ok e
theorem UL{kvs:List (Key×V)}(ok:HOk P w H h)(e:H a=some (.dK kvs)):kvs.length<=sizeLine/\(a==sysModules)=false/\∃vs,KV kvs vs/\h.DictOf (bU P w) a vs:=kO ok (.inl e)
theorem gZ{ks:List Key}(ok:HOk P w H h)(e:H a=some (.tup (ks.map kV))):(tupleKind (bU P w)).is h ks a:=by obtain ⟨_,its,r,o,h1,h2,n,h3⟩:=(show ObjOk P w H h a (.tup (ks.map kV)) from ok a _ e);exact ⟨o,its.toArray,n,h1,h2.1,h3,by simpa using CJ r⟩
theorem kW{kvs:List (List Key×V)}(ok:HOk P w H h)(e:Rd H a (.dT kvs)):kvs.length<=sizeLine/\(a==sysModules)=false/\
  ∃xs,KT H kvs xs/\h.DictOfH (tupleKind (bU P w)) a xs:=by
 obtain ⟨z,y,xs,r,o,es,ep,h1,h2,h3,h4,h5⟩:=(show ObjOk P w H h a (.dT kvs) from CN ok e);refine ⟨z,y,xs,r,o,es,ep,h1,h2,h3,h4,λx hx=>?_,h5⟩;have all:∀{l:List (List Key×V)}{m:List (List Key×AQ×AN)},KT H l m->∀x∈m,(tupleKind (bU P w)).is h x.1 x.2.1:=by
  intro l m q;induction q with
  |nil=>intro x hx;exact nomatch hx
  | @cons p q ps qs hq t ih=>
   intro x hx;rcases bB.mp hx with e |hx
   .subst e;exact gZ ok (by rw[<-hq.1];exact hq.2.1)
   .exact ih x hx
 exact all r x hx
theorem kY{kvs:List (List Key×V)}(ok:HOk P w H h)(e:H a=some (.dT kvs)):kvs.length<=sizeLine/\(a==sysModules)=false/\
  ∃xs,KT H kvs xs/\h.DictOfH (tupleKind (bU P w)) a xs:=kW ok (.inl e)
end
def DGet(H:Hp)(a:AQ)(y:V)(r:Option V):Prop:=
 (∃kvs k,Rd H a (.dK kvs)/\y=kV k/\r=cA kvs k)\/∃kvs k b,Rd H a (.dT kvs)/\y=.ref b/\H b=some (.tup (k.map kV))/\r=cA kvs k
def DPut(H:Hp)(a:AQ)(y v:V)(H':Hp):Prop:=
 (∃kvs k,H a=some (.dK kvs)/\y=kV k/\kvs.length < sizeLine/\H'=upd H a (.dK (putD kvs k v)))\/
 ∃kvs k b,H a=some (.dT kvs)/\y=.ref b/\H b=some (.tup (k.map kV))/\kvs.length < sizeLine/\H'=upd H a (.dT (putD kvs k v))
def DGet.t{H:Hp}{a b:AQ}{kvs:List (List Key×V)}{k:List Key}(e:H a=some (.dT kvs))(eb:H b=some (.tup (k.map kV))):DGet H a (.ref b) (cA kvs k):=.inr ⟨kvs,k,b,.inl e,rfl,eb,rfl⟩
def DPut.t{H:Hp}{a b:AQ}{kvs:List (List Key×V)}{k:List Key}{v:V}(e:H a=some (.dT kvs))(eb:H b=some (.tup (k.map kV)))(hl:kvs.length < sizeLine):
  DPut H a (.ref b) v (upd H a (.dT (putD kvs k v))):=.inr ⟨kvs,k,b,e,rfl,eb,hl,rfl⟩
section
variable {X:Cx} {p9:AC} {σ:St} {H:Hp} {s:AI} {a:AQ} {y v:V} {u r:AN} {o:Option V} {A:AM} {E:AG}
theorem Inv.big(I:Inv X p9 σ H s):sysModules < (~~~s):=by have h:mainGlobals < (~~~s):=(I.mod.glob.keeps I.bk).lt;exact Nat.lt_trans (!1) h
theorem UT{Q:AG}(hu:A.units+1 < cLine)(I:Inv X p9 σ H s)(g:DGet H a y (some v))(ry:RelV y u)(h:∀w' s',Inv X p9 σ H s'->RelV v w'->Q w' s'):
  wpAny (model X.prog X.w) A (getItem (.ref a) u) Q E s:=by
 rcases g with ⟨kvs,k,e,ey,l⟩ |⟨kvs,k,b,e,ey,eb,l⟩
 .subst ey;obtain ⟨z,hd,vs,rel,dd⟩:=kO I.hok e;obtain ⟨w',hw,rw'⟩:=RelO.some_of (v:=v) (o:=valueAt vs k) (by rw[l];exact rel.val k);exact wpAny_getItem_of (kJ ry) dd.mapOf hw (h w' _ (I.tok _) rw')
 .subst ey;cases (show u=Value.ref b from ry);obtain ⟨z,hd,xs,rel,dd⟩:=kW I.hok e;obtain ⟨w',hw,rw'⟩:=RelO.some_of (v:=v) (o:=(atKey xs k).map (·.2)) (by rw[l];exact rel.val k);obtain ⟨p,hp,hp2⟩:=a7.mp hw;refine wpAny_getItem_heap (tupleKind_room_in1 hu) (gZ I.hok eb) dd hp ?_;rw[hp2];exact h w' _ (I.tok _) rw'
theorem UV{Q:AG}(hu:A.units+1 < cLine)(I:Inv X p9 σ H s)(g:DGet H a y o)(ry:RelV y u)(h:∀s',Inv X p9 σ H s'->Q (.bool o.isSome) s'):
  wpAny (model X.prog X.w) A (compareOp .In u (.ref a)) Q E s:=by
 rcases g with ⟨kvs,k,e,ey,l⟩ |⟨kvs,k,b,e,ey,eb,l⟩
 .subst ey;obtain ⟨z,hd,vs,rel,dd⟩:=kO I.hok e;refine wpAny_in_of (kJ ry) hd dd.mapOf ?_;rw[<-(rel.val k).isSome_eq,<-l];exact h _ (I.tok _)
 .subst ey;cases (show u=Value.ref b from ry);obtain ⟨z,hd,xs,rel,dd⟩:=kW I.hok e;refine wpAny_in_heap (tupleKind_room_in1 hu) (gZ I.hok eb) hd dd ?_;have q:=(rel.val k).isSome_eq;rw[Option.isSome_map]at q;rw[<-q,<-l];exact h _ (I.tok _)
theorem UW{Q:AG}(hu:A.units+1 < cLine)(I:Inv X p9 σ H s)(g:DGet H a y o)(ry:RelV y u)(h:∀s',Inv X p9 σ H s'->Q (.bool (!o.isSome)) s'):
  wpAny (model X.prog X.w) A (compareOp .NotIn u (.ref a)) Q E s:=by
 rcases g with ⟨kvs,k,e,ey,l⟩ |⟨kvs,k,b,e,ey,eb,l⟩
 .subst ey;obtain ⟨z,hd,vs,rel,dd⟩:=kO I.hok e;refine wpAny_notIn_of (kJ ry) hd dd.mapOf ?_;rw[<-(rel.val k).isSome_eq,<-l];exact h _ (I.tok _)
 .subst ey;cases (show u=Value.ref b from ry);obtain ⟨z,hd,xs,rel,dd⟩:=kW I.hok e;refine wpAny_notIn_heap (tupleKind_room_in1 hu) (gZ I.hok eb) hd dd ?_;have q:=(rel.val k).isSome_eq;rw[Option.isSome_map]at q;rw[<-q,<-l];exact h _ (I.tok _)
theorem vo{h':Heap}{t':Nat}{ob:HO}(I:Inv X p9 σ H s)(mu:Mut (H a))(hs:Heap.SameBut a s.heap h')(he:∃q,h'.get? a=some q)(new:ObjOk X.prog X.w (upd H a ob) h' a ob):
  Inv X p9 σ (upd H a ob) { s with heap:=h',toks:=t' }:=
 I.write (x:=a) (e:=a) mu (.inl rfl) (λb q hb z=>(hs.2 b hb).trans z) he new
theorem U0{P:AK}{w:World}{H':Hp}{h':Heap}{kvs:List (Key×V)}{vs:List (Key×AN)}(z:kvs.length<=sizeLine)(hd:(a==sysModules)=false)(rel:KV kvs vs)(dd:h'.DictOf (bU P w) a vs):
  ObjOk P w H' h' a (.dK kvs):=⟨z,hd,vs,rel,dd⟩
theorem U3{H':Hp}{Q:Unit->AI->Prop}(hu:A.units+1 < cLine)(I:Inv X p9 σ H s)(g:DPut H a y v H')(ry:RelV y u)(rv:RelV v r)(h:∀s',Inv X p9 σ H' s'->Q () s'):
  wpAny (model X.prog X.w) A (setItem (.ref a) u r) Q E s:=by
 rcases g with ⟨kvs,k,e,ey,l,eH⟩ |⟨kvs,k,b,e,ey,eb,l,eH⟩
 .subst ey eH;obtain ⟨z,hd,vs,rel,dd⟩:=UL I.hok e;have hz:vs.length<=sizeLine:=by rw[<-rel.length];exact z
  have hl:(putD kvs k v).length<=sizeLine:=by have:=length_putD kvs k v;omega
  refine wpAny_setItem_pairs (hsz:=hz) (kJ ry) dd λh' dd' hs=>h _ ?_;have he:∃q,h'.get? a=some q:=let ⟨q,_,_,hq,_⟩:=dd';⟨q,hq⟩;exact vo I (by rw[e];exact gc) hs he (U0 hl hd (rel.put k rv) dd')
 .subst ey eH;cases (show u=Value.ref b from ry);obtain ⟨z,hd,xs,rel,dd⟩:=kY I.hok e;have hz:xs.length<=sizeLine:=by rw[<-gt rel];exact z
  have hl:(putD kvs k v).length<=sizeLine:=by have:=length_putD kvs k v;omega
  refine wpAny_setItem_heap (hsz:=hz) (tupleKind_room_in1 hu) (gZ I.hok eb) dd λh' dd' hs=>h _ ?_;obtain ⟨q,es,ep,hq,h2,h3,h4,_,h5⟩:=dd';refine vo I (by rw[e];exact gc) hs ⟨q,hq⟩ ⟨hl,hd,_,(rel.put k eb rv).keeps λc ys ec=>?_,q,es,ep,hq,h2,h3,h4,h5⟩;rw[aJ (je ec e (λz=>nomatch z))];exact ec
end
def U4 {X:Cx} {p9:AC} {Y:St} {H:Hp} {s:AI} {a:AQ} {y:V} {o:Option V} (I:Inv X p9 Y H s) (g:DGet H a y o):s.TypeIs (.ref a) "dict":=by
 rcases g with ⟨kvs,k,e,_,_⟩ |⟨kvs,k,b,e,_,_,_⟩
 .obtain ⟨_,_,vs,_,dd⟩:=kO I.hok e;exact dd.typeIs
 .obtain ⟨_,_,xs,_,dd⟩:=kW I.hok e;exact dd.typeIs
def U5 {P:AK} {w:World} {H:Hp} (h:Heap) (hb:sysModules < h.objs.size):ObjOk P w H (h.push { cls:=.type "dict",data:=.dict #[] }) h.objs.size (.dT []):=
 ⟨cr _,d4.mpr (Ne.symm (b3 hb)),[],.nil,_,#[],0,aI _ rfl,⟨rfl,rfl,rfl⟩,rfl,rfl,fb⟩
def U6:TE:=λ_ H Q=>∀p,H p=none->Q (.ref p) (upd H p (.dT []))
section
variable {X:Cx} {pos:Pos}
theorem U7:PE X (.Dict [] [] pos) U6:=λp9 s Y H Q I h=>
 wpAny_Dict_empty ⟨.ref (~~~s),_,I.laid (a:=(~~~s)) (o:=.dT []) (t':=s.toks) (λ_ _ q=>ag _ q) (ax _) (U5 s.heap I.big),rfl,h _ (I.hok.fresh (ax _))⟩
end
def U8(tk tv:TE):TE:=λY H Q=>tk Y H λy H1=>tv Y H1 λv H2=>∃(b:AQ)(k:List Key),y=.ref b/\H2 b=some (.tup (k.map kV))/\∀p,H2 p=none->Q (.ref p) (upd H2 p (.dT [(k,v)]))
section
variable {X:Cx}
def kZ:Obj:={ cls:=.type "dict",data:=.dict #[] }
theorem U9{k v:AO}{pos:Pos}{tk tv:TE}(hu:X.A.units+1 < cLine)(hk:PE X k tk)(hv:PE X v tv):PE X (.Dict [some k] [v] pos) (U8 tk tv):=by
 intro p9 s Y H Q I q;have fp:∀{H':Hp},H' (~~~s)=none->cM X p9 H' (~~~s):=λhn=>I.fpOk (ax _) hn;have I0:Inv X p9 Y H { s with heap:=s.heap.push kZ }:=I.kept (t':=s.toks) λ_ _ q=>ag _ q;have I1:Inv X (p9++[((~~~s),kZ)]) Y H { s with heap:=s.heap.push kZ }:=I0.pins_of λx hx=>by
  rcases aT.mp hx with z |z
  .exact I0.pin x (al _ z)
  .have e:x=_:=ah.mp z;subst e;obtain ⟨f0,f1,f2,_⟩:=fp (I.hok.fresh (ax _));exact ⟨aI _ rfl,f0,f1,f2,λv z=>nomatch z⟩
 have sh:=zip_pairTrees [some k] [v] X.env pos rfl rfl;rw[arm_eval_Dict,sh,dictDisplay_pairs _ (by simp[pairTrees]) (by simp[pairTrees])];refine ab (fw (ab ?_));unfold subDict;refine ab (wpAny_alloc ?_);refine ab (dE ?_);rw[if_pos (by simp[pairTrees])];refine ab (pairTrees_cons_walk (thn (hk _ _ Y _ _ I1 q) λu s1 ⟨y,H1,I1,ry,q1⟩=>thn (hv _ s1 Y H1 _ I1 q1) λr s2 ⟨x,H2,I2,rx,b,kk,ey,eb,q2⟩=>pairTrees_nil_walk ?_));subst ey;cases (show u=Value.ref b from ry);obtain ⟨p1,p2,_⟩:=I2.pin ((~~~s),kZ) (al _ (al _ (ah.mpr rfl)));have I3:Inv X p9 Y H2 s2:=I2.pins_of λx hx=>I2.pin x (al _ (cf _ hx));have dd:s2.heap.DictOfH (tupleKind (bU X.prog X.w)) (~~~s) []:=⟨kZ,#[],0,p1,⟨rfl,rfl,rfl⟩,rfl,rfl,(λx hx=>nomatch hx),List.Pairwise.nil⟩;refine dE ?_;rw[fA];refine ab (ab ?_);show wpAny _ _ (dictSet (~~~s) (.ref b) r >>= _) _ _ _;refine ab (wpAny_dictSet_heap (hsz:=cr _) (show (tupleKind (bU X.prog X.w)).room X.A from Nat.lt_of_le_of_lt (gg _) hu) (gZ I3.hok eb) dd λh' dd' hs=>am ?_);show wpAny _ _ (forIn [] PUnit.unit _) _ _ _;rw[List.forIn_nil];refine am (am (am (am ⟨.ref (~~~s),_,?_,rfl,q2 _ p2⟩)));obtain ⟨o,es,ep,ho,h2,h3,h4,_,h5⟩:=dd';have I4:Inv X p9 Y H2 { s2 with heap:=h',toks:=s2.toks+(tupleKind (bU X.prog X.w)).draws kk }:=I3.turnedL (ch:=[(~~~s)]) (λb hb=>by rw[ah.mp hb];exact fp p2) λb o hb e=>(hs.2 b λz=>hb (by rw[z];exact ah.mpr rfl)).trans e;have hsm:((~~~s)==sysModules)=false:=d4.mpr (gu I.big);refine I4.track (fp p2) ⟨by show 1<=sizeLine;decide,hsm,_,.cons ⟨rfl,?_,rx⟩ .nil,o,es,ep,ho,h2,h3,h4,h5⟩;rw[aJ (bz eb p2)];exact eb
end
open Sem (wp)
open PySem.W (KdlSrc kdl_call kdl_hint_dict)
section
variable {prog:AK} {w:World} {A:AM} {E:AG} {s:AI} {d it:AQ} {es:Array DictEntry} {ep i:Nat}
def DE(h:Heap)(d:AQ)(es:Array DictEntry)(ep:Nat):Prop:=∃o,h.get? d=some o/\o.ExactDict/\o.data=.dict es ep
theorem DE.ty (x:DE s.heap d es ep):s.TypeIs (.ref d) "dict":=by obtain ⟨o,ho,hc,hd⟩:=x;exact ⟨o,ho,hc.1⟩
theorem DE.lt{h:Heap}(x:DE h d es ep):d < h.objs.size:=by obtain ⟨o,ho,_⟩:=x;exact ay ho
theorem DE.kp{h h':Heap}(x:DE h d es ep)(k:∀o,h.get? d=some o->h'.get? d=some o):DE h' d es ep:=by obtain ⟨o,ho,r⟩:=x;exact ⟨o,k o ho,r⟩
theorem Va{Q:AG}(hd:(d==sysModules)=false)(x:DE s.heap d es ep)
  (q:Q (.ref (~~~s)) { s with heap:=s.heap.push { cls:=.type "dict_keyiterator",data:=.fields #[.ref d,.int 0 0,.int es.size 0,.int ep 0] } }):wpAny (model prog w) A (pyIter (.ref d)) Q E s:=by
 have ty:=x.ty;obtain ⟨o,ho,hc,dat⟩:=x;refine wpAny_pyIter_slot ty F.slot_dict_iter (eW F.slot_dict_iter ty F.entry_dict_iter ?_ (F.args_dict_iter_1 _));unfold Builtin.«dict.__iter__» Builtin.Dict.dictSlotNone;refine ab (ab (wpAny_notOrdered_dict ty ?_));show wpAny _ _ (pure (Value.ref d)) _ _ s;refine am ?_;show wpAny _ _ (Builtin.Dict.showsAll d >>= _) _ _ s;unfold Builtin.Dict.showsAll;rw[hd];refine ab (am (ab (wpAny_dictEntries ho dat (ab (wpAny_dictEpoch ho dat (ab (df (am ⟨_,rfl,"dict_keyiterator",_,⟨_,aI _ rfl,rfl⟩,e9.lookup,q⟩))))))))
theorem Vb{Q:Option AN->AI->Prop}(hit:s.heap.IsKeyIter it d i es.size ep)(x:DE s.heap d es ep)(hi:i < es.size)
  (q:∀h',h'.IsKeyIter it d (i+1) es.size ep->Heap.SameBut it s.heap h'->Q (some es[i].key) { s with heap:=h' }):wpAny (model prog w) A (pyNext (.ref it)) Q E s:=by
 have ty:=hit.typeIs;obtain ⟨o,ho,hc,hd⟩:=id hit;obtain ⟨od,hod,_,dat⟩:=x;have hn:¬((i:Int) < 0):=by omega
 have own:Builtin.Dict_items.ownsTuple "dict_keyiterator"=false:=by decide
 unfold pyNext;refine ab (wpAny_attempt (de (name:=⇑"__next__") ty e9 (eW e9 ty F.entry_dict_keyiterator_next ?_ (F.args_dict_keyiterator_next_1 _))));refine ab (am (ab (ab ?_)));first |refine ab (fR ty (am ?_)) |refine ab (gz ty (am ?_))
 refine ab (wpAny_fieldsOf ho hd ?_);simp only[own,Bool.false_eq_true,if_false];show wpAny _ _ (if (Value.ref d==Value.none)=true then _ else _) _ _ s;rw[if_neg (show ¬((Value.ref d==Value.none)=true) from br)];refine ab (am (ab (wpAny_dictEntries hod dat ?_)));rw[if_neg (by simp)];refine ab (am (ab (wpAny_dictEpoch hod dat ?_)));rw[if_neg (by simp)];refine am ?_;simp only[hn,if_false,bS,gv hi];refine ab ?_;first |refine ab (fR ty (am ?_)) |refine ab (gz ty (am ?_))
 refine ab (wpAny_isOneOf_keyiter ty ?_);show wpAny _ _ (setField (.ref it) 1 (rawInt ((i:Int)+1)) >>= _) _ _ s;refine ab (wpAny_setField ho hd (by simp) ?_);have hit':(s.heap.update it (Obj.mapFields (·.setIfInBounds 1 (rawInt ((i:Int)+1))))).IsKeyIter it d (i+1) es.size ep:=
  ⟨_,Heap.get?_update_self _ ho (Obj.isFreed_of_fields (Obj.data_mapFields hd _)),(Obj.cls_mapFields ..).trans hc,by rw[Obj.data_mapFields hd];simp[rawInt]⟩
 refine ab (dE (ab (wpAny_isOneOf_keyiter (s:={ s with heap:=s.heap.update it (Obj.mapFields (·.setIfInBounds 1 (rawInt ((i:Int)+1)))) }) hit'.typeIs ?_)));show wpAny _ _ (pure es[i].key) _ _ _;exact am (am ⟨_,rfl,am (q _ hit' (Heap.SameBut.update ..))⟩)
theorem Vc{Q:Option AN->AI->Prop}(hh:A.handled=none)(hit:s.heap.IsKeyIter it d es.size es.size ep)(x:DE s.heap d es ep)
  (q:∀h',Heap.ExtBut it s.heap h'->Q none { s with heap:=h' }):wpAny (model prog w) A (pyNext (.ref it)) Q E s:=by
 have ty:=hit.typeIs;obtain ⟨o,ho,hc,hd⟩:=id hit;obtain ⟨od,hod,_,dat⟩:=x;have hn:¬((es.size:Int) < 0):=by omega
 have own:Builtin.Dict_items.ownsTuple "dict_keyiterator"=false:=by decide
 unfold pyNext;refine ab (wpAny_attempt (de (name:=⇑"__next__") ty e9 (eW e9 ty F.entry_dict_keyiterator_next ?_ (F.args_dict_keyiterator_next_1 _))));refine ab (am (ab (ab ?_)));first |refine ab (fR ty (am ?_)) |refine ab (gz ty (am ?_))
 refine ab (wpAny_fieldsOf ho hd ?_);simp only[own,Bool.false_eq_true,if_false];show wpAny _ _ (if (Value.ref d==Value.none)=true then _ else _) _ _ s;rw[if_neg (show ¬((Value.ref d==Value.none)=true) from br)];refine ab (am (ab (wpAny_dictEntries hod dat ?_)));rw[if_neg (by simp)];refine ab (am (ab (wpAny_dictEpoch hod dat ?_)));rw[if_neg (by simp)];refine am ?_;simp only[hn,if_false,bS,Array.getElem?_eq_none (ax es.size)];refine ab ?_;first |refine ab (fR ty (am ?_)) |refine ab (gz ty (am ?_))
 show wpAny _ _ (setField (.ref it) 0 .none >>= _) _ _ s;refine ab (wpAny_setField ho hd (by simp) ?_);show wpAny _ _ (newExc (.type "StopIteration") [] >>= _) _ _ _;refine ab ?_;simp only[newExc,newTuple];refine ab (df ?_ (by size_fits));refine ab (m:=firstArgMember _ _) (wpAny_of_eq (a:=Value.none) (by first |rfl | (simp only[firstArgMember];rfl)) ?_);refine df ?_ (by size_fits);simp only[raiseNew];refine ab (wpAny_handled ?_);rw[show A.in1.handled=none from hh];refine ab (am (wpAny_throw ?_));refine ab (wpAny_isInstance (T:="StopIteration") (b:=true) ⟨_,aI _ rfl,rfl⟩ isSubtype_stop ?_);exact am (q _ (((Heap.SameBut.update ..).extBut.push _).push _))
theorem Vd(hh:A.handled=none)(I d:AQ)(hne:d≠I)(es:Array DictEntry)(ep:Nat):
  Walks prog w A I [I,d] [I] es.size (λi v=>∃h:i < es.size,v=es[i].key) (λi h=>h.IsKeyIter I d i es.size ep/\DE h d es ep) where
 sub:=λb hb=>by simp at hb;simp[hb]
 frame:=λ_ _ _ st hk=>⟨st.1.at λo e=>hk I (by simp) o e,st.2.kp λo e=>hk d (by simp) o e⟩
 item:=λi s Q E hi st hQ=>Vb st.1 st.2 hi λh' hit' hs=>hQ _ h' s.toks ⟨hi,rfl⟩ ⟨hit',st.2.kp λo e=>hs.extBut d o hne e⟩ λb o hb e=>hs.extBut b o (λh=>hb (by simp[h])) e
 done:=λs Q E st hQ=>Vc hh st.1 st.2 λh' he=>hQ h' s.toks λb o hb e=>he b o (λh=>hb (by simp[h])) e
 self:=λ_ _ _ _ st hQ=>wpAny_pyIter_keyiter st.1 hQ
theorem Ve (lo:(d==sysModules)=false):KdlSrc prog w "dict" d d es.size (λi v=>∃h:i < es.size,v=es[i].key) (λh=>DE h d es ep) where
 type:=λ_ hm=>hm.ty
 there:=λ_ hm=>⟨hm.lt,hm.lt⟩
 keep:=λ_ _ hm hk=>hm.kp λo e=>hk d (.inl rfl) o e
 notList:=by decide
 notTuple:=by decide
 hint:=λ_ _ _ _ hm hq=>kdl_hint_dict hm.ty hq
 iter:=λ_ _ hh hm=>⟨_,_,(λ_ _ hq=>Va lo hm hq),Vd hh _ d (b3 hm.lt) es ep,⟨⟨_,aI _ rfl,rfl,rfl⟩,hm.kp λo e=>ag _ e⟩⟩
theorem Vf(hd:(d==sysModules)=false):MeetsIn prog w (Builtin.«dict.__len__» ⟨[.ref d],[]⟩) (λ_ R s=>∃es ep,DE s.heap d es ep/\R (.ok (.ret (.int es.size s.toks))) { s with toks:=s.toks+1 }):=
 .of_wp λA R s ⟨es,ep,⟨o,ho,_,dat⟩,h⟩=>by
  show wpAny _ _ (dictSize d >>= _) _ _ s;unfold dictSize;refine ab (ab (wpAny_dictEntries ho dat (am ?_)));show wpAny _ _ (Builtin.Dict.pendingCount d >>= _) _ _ s;exact ab (wpAny_pendingCount_other hd (wpAny_ret_mkInt (by rw[Nat.add_zero];exact h)))
theorem Vg {Q:AG} (hd:(d==sysModules)=false) (x:DE s.heap d es ep) (hf:(es.size:Int) < 2 ^ 63) (q:Q (.int es.size (s.toks+1)) { s with toks:=s.toks+1+1 }):wpAny (model prog w) A (call (.builtin "len") [.ref d]) Q E s:=by refine Calls.call_function_entry kind_len plain_len entry_len (args_len1 _) ?_;unfold Builtin.«len»;refine ab (m:=oneArg "len" _) (am ?_);refine ab (m:=callSpecial? (.ref d) (⇑"__len__")) (de (name:=⇑"__len__") x.ty F.slot_dict_len (call_meetsIn F.slot_dict_len x.ty F.entry_dict_len (F.args_dict_len_1 _) (Vf hd) ⟨es,ep,x,?_⟩));show wpAny _ _ _ _ _ { s with toks:=s.toks+1 };refine ab (dE (am (ab (wpAny_letGo ?_))));show wpAny _ _ (if ((es.size:Nat):Int) < 0 then _ else _) _ _ _;rw[if_neg (!0)];show wpAny _ _ (if ((es.size:Nat):Int)≥2 ^ 63 then _ else _) _ _ _;rw[if_neg (!0)];exact ab (wpAny_mkInt (am ⟨_,rfl,q⟩))
end
section
variable {X:Cx}
theorem Vh:bh X (.builtin "len") (λxs H Q=>∃a kvs,xs=[V.ref a]/\H a=some (.dT kvs)/\Q (.int kvs.length) H):=by
 intro p9 s Y H xs us Q I r h;obtain ⟨a,kvs,rfl,ha,q⟩:=h;obtain ⟨u,rfl,ru⟩:=vals1 r;cases ru;obtain ⟨z,hd,ys,rel,o,es,ep,ho,h2,h3,h4,_⟩:=kY I.hok ha;have hl:es.size=kvs.length:=by rw[<-cq,h4,af,<-gt rel]
 refine Vg hd ⟨o,ho,h2,h3⟩ (by rw[fS]at z;omega) ⟨.int kvs.length,H,(I.tok _).tok _,⟨_,by rw[hl]⟩,q⟩
theorem KT.adrs{H:Hp}{kvs:List (List Key×V)}{ys:List (List Key×AQ×AN)}(r:KT H kvs ys):Paired (λ(k:List Key×V) (a:AQ)=>H a=some (.tup (k.1.map kV))) kvs (ys.map (·.2.1)):=by
 induction r with
 |nil=>exact .nil
 |cons h t ih=>exact .cons h.2.1 ih
theorem CP:∀as:List AQ,Vals (as.map V.ref) (as.map Value.ref)
 |[]=>.nil
 |_::as=>.cons rfl (CP as)
theorem Vi (hc:X.calm=true):bh X (.type "list") (λxs H Q=>∃p kvs,xs=[V.ref p]/\H p=some (.dT kvs)/\∀as:List AQ,Paired (λ(k:List Key×V) (a:AQ)=>H a=some (.tup (k.1.map kV))) kvs as->∀l,H l=none->Q (.ref l) (upd H l (.lst (as.map V.ref)))):=by
 intro p9 s Y H xs us Q I r h;obtain ⟨p,kvs,rfl,ha,q⟩:=h;obtain ⟨u,rfl,ru⟩:=vals1 r;cases ru;obtain ⟨z,hd,ys,rel,o,es,ep,ho,h2,h3,h4,_⟩:=kY I.hok ha;have hy:es.size=ys.length:=by rw[<-cq,h4,af]
 have hl:ys.length=kvs.length:=(gt rel).symm;refine kdl_call (Ve (es:=es) (ep:=ep) hd) (I.ok.hd hc) ⟨o,ho,h2,h3⟩ (by rw[hy,hl];exact z) λh' tk acc c kp e it=>?_;have hv:acc=((ys.map (·.2.1)).map Value.ref).toArray:=by
  refine Array.ext (by rw[it.1,hy];simp) λi h1 h2=>?_;obtain ⟨hi,ev⟩:=it.2 i _ (gv h1);rw[ev];have e1:es[i]=es.toList[i]'(by rw[cq];exact hi):=by rw[Array.getElem_toList]
  rw[e1];simp only[h4,g9,entryOfKey,List.getElem_toArray]
 refine ⟨.ref (~~~s),_,I.laid (t':=tk) kp (ax _) (show ObjOk X.prog X.w _ h' _ (.lst ((ys.map (·.2.1)).map V.ref)) from ⟨by rw[af,af,hl];exact z,_,c,CP _,by rw[e,hv]⟩),rfl,q _ (KT.adrs rel) _ (I.hok.fresh (ax _))⟩
end
def CQ(X:Cx)(t:TE):TE:=λY H Q=>t Y H λv H1=>∃p,v=.ref p/\SqL X.K H1 p []/\∀D,H1 D=none->Q (.ref D) (upd H1 D (.dT []))
def na{a b c:Nat}(h:a=c)(l:b < c)(e:a=b):False:=by omega
def Vj{X:Cx}{kx vx iter:AO}{x:Str}{px:Pos}{ifs:AE}{scope:Scope}{pos:Pos}{t:TE}{p9:AC}{s:AI}{Y:St}{H:Hp}{Q:VK}{RR:AN->AQ->Result->AI->Prop}(hc:X.calm=true)(he:PE X iter t)
  (hcell:scope.names.all (λy=>y.2 != NameKind.cell)=true) (hkind:scope.kind=.function) (hx:scope.names.lookup x=some .local) (I:Inv X p9 Y H s) (h:CQ X t Y H Q)
  (fin:∀(D C:AQ)(H':Hp)(s4:AI)(m:AH),Inv X p9 Y H' s4->Q (.ref D) H'->s4.heap.Ns C m->cM X p9 H' C->RR (.ref D) C (.ok .next) s4):
  ↥X (eval iter X.env) (λxv s₁=>↥X (pyIter xv) (λit s₂=>↥X newDict (λacc s₃=>
   ↥X (newFunctionEnv scope X.env.globals (bW X.env scope.names []) [] X.env.qual none .none (some X.env)) (λcenv s₄=>
    codeAny (model X.prog X.w) X.A (.compStart (.DictComp kx vx [⟨.Name x px,iter,ifs,0⟩] scope pos) 0 it acc { cenv with scope:=relabel scope X.env }) (RR acc cenv.locals) s₄) X.xe s₃) X.xe s₂) X.xe s₁) X.xe s:=by
 have hcell':∀y∈scope.names,y.2≠NameKind.cell:=λy hy=>by
  have:=bP.mp hcell y hy;simpa using this
 generalize bW X.env scope.names []=cl;refine thn (he p9 s Y H _ I h) λxv s1 h1=>?_;obtain ⟨v,H1,I1,rv,p,ev,hp,q⟩:=h1;subst ev;cases rv;obtain ⟨its,r,pl,_⟩:=I1.list hp;cases r;have hl:s1.heap.IsList p #[]:=pl.isList;have hlt:p < s1.heap.objs.size:=by obtain ⟨_,e,_⟩:=hl;exact ay e
 refine fv hl ?_;refine df (wpAny_newFunctionEnv hcell' (by intro y hy;simp at hy) (λh₁ hns₁ hsb₁=>?_) hkind);dsimp only at hns₁ hsb₁ ⊢;generalize hH1:s1.heap.push { cls:=.type "list_iterator",data:=.fields #[.ref p,.int 0 0] }=h2 at hns₁ hsb₁ ⊢;generalize hH2:h2.push { cls:=.type "dict",dict:=none,data:=.dict #[] }=HP at hns₁ hsb₁ ⊢;have z1:h2.objs.size=s1.heap.objs.size+1:=by rw[<-hH1,dA]
 have z2:HP.objs.size=s1.heap.objs.size+2:=by rw[<-hH2,dA,z1]
 have up:∀b o,HP.get? b=some o->h₁.get? b=some o:=λb o e=>hsb₁.extBut b o (b3 (ay e)) (ag _ e);have up2:∀b o,h2.get? b=some o->h₁.get? b=some o:=λb o e=>up b o (hH2 ▸ ag _ e);have old:∀b o,s1.heap.get? b=some o->h₁.get? b=some o:=λb o e=>up2 b o (hH1 ▸ ag _ e);have hacc:h₁.DictOf (bU X.prog X.w) h2.objs.size []:=(Heap.DictOf.new h2 (knd:=bU X.prog X.w)).at λo e=>up _ _ (hH2 ▸ e);have hit:h₁.IsListIter s1.heap.objs.size p 0:=⟨_,up2 _ _ (hH1 ▸ aI _ rfl),rfl,rfl⟩;have loop:∀s₃:AI,s₃={ s1 with heap:=h₁,toks:=s1.toks+([]:List (Str×AN)).length }->
   codeAny (model X.prog X.w) X.A (.compLoop (.DictComp kx vx [⟨.Name x px,iter,ifs,0⟩] scope pos) 0 (.ref s1.heap.objs.size) (.ref h2.objs.size) (compEnvC scope cl HP.objs.size X.env))
    (RR (.ref h2.objs.size) HP.objs.size) s₃:=by
  rintro s₃ rfl;refine codeAny_compLoop_walkD (knd:=bU X.prog X.w) (cenv:=compEnvC scope cl HP.objs.size X.env) (Walks.list (I1.ok.hd hc) s1.heap.objs.size p (b3 hlt) #[]) (λ_=>true) (λ_ _=>True) (λ_ _=>True) (lookup_relabel_local hx) (by simp[compEnvC,relabel,hkind])
   (show h2.objs.size≠HP.objs.size by omega) (λz=>?_) (λz=>?_) ⟨hit,hl.at λo e=>old _ _ e⟩ hacc hns₁ (λi v _ _ z=>by simp at z) (λi v _ _ z=>by simp at z) (λi v _ _ z=>by simp at z) (λh' tk m' kvs vs hn ha hlen hP hF hk=>?_) (cr _)
  .rcases bB.mp z with e |e
   .exact na z1 (Nat.lt_succ_self _) e
   .exact na z1 (fq hlt) (ah.mp e)
  .have z:HP.objs.size∈[s1.heap.objs.size,p]:=z;rcases bB.mp z with e |e
   .exact na z2 (!0) e
   .exact na z2 (bm hlt (!0)) (ah.mp e)
  .have e0:vs=[]:=List.eq_nil_of_length_eq_zero hlen;subst e0;have e1:kvs=[]:=List.eq_nil_of_length_eq_zero (Nat.le_zero.mp hF.length_le);subst e1;obtain ⟨o,es,ep,g1,g2,g3,_,g4,_⟩:=ha;have e2:es.toList=[]:=List.eq_nil_of_length_eq_zero g4.length;have keep:∀b o,s1.heap.get? b=some o->h'.get? b=some o:=λb o e=>by
    have lb:=ay e;exact hk b o (λz=>na z2 (bm lb (!0)) (Eq.symm z)) (λz=>na rfl lb (Eq.symm (ah.mp z))) (λz=>na z1 (fq lb) (Eq.symm z)) (old b o e)
   have nd:H1 h2.objs.size=none:=I1.hok.fresh (!0);have hne:HP.objs.size≠h2.objs.size:=by omega
   exact fin _ _ _ { s1 with heap:=h',toks:=tk } m' (I1.laid (t':=tk) (o:=.dT []) keep (!0) ⟨cr _,d4.mpr (λz=>na z1 (fq I1.big) z),[],.nil,o,es,ep,g1,g2,g3,e2,fb⟩) (q _ nd) hn (I1.fpOk (!0) (by rw[aJ hne];exact I1.hok.fresh (!0)))
 exact codeAny_compStart_dict (loop _ rfl) ((Walks.list (I1.ok.hd hc) s1.heap.objs.size p (b3 hlt) #[]).self 0 _ _ _ ⟨hit,hl.at λo e=>old _ _ e⟩ (loop _ rfl))
def aii{X:Cx}{kx vx iter:AO}{x:Str}{px:Pos}{ifs:AE}{scope:Scope}{pos py spos:Pos}{t:TE}{i:Nat}{y:Str}(hN:X.N.Nodup)(hiy:X.N[i]?=some y)(hy:Loc X.env.scope y)(hc:X.calm=true)(he:PE X iter t)
  (hcell:scope.names.all (λy=>y.2 != NameKind.cell)=true) (hnames:scope.names.all (λy=>y.2 != NameKind.local||scope.names.lookup y.1==some NameKind.local)=true)
  (hfr:scope.names.all (λy=>y.2 != NameKind.free||(X.env.kindOf y.1==some NameKind.cell||X.env.kindOf y.1==some NameKind.free))=true)
  (hkind:scope.kind=.function) (hx:scope.names.lookup x=some .local) (hs:∀x,foldedSetIterable iter X.env x=pure x)
  (hsw:swapsWith (.DictComp kx vx [⟨.Name x px,iter,ifs,0⟩] scope pos) (some (.Name y py)) spos.line X.env=pure true)
  (hf:X.fn y=true\/X.env.scope.names.lookup y=some .local):
  PS X (.Assign [.Name y py] (.DictComp kx vx [⟨.Name x px,iter,ifs,0⟩] scope pos) spos) (jh (CQ X t) (jg i)):=by
 intro p9 s Y H D I h;have hnames':∀y∈scope.names,y.2=NameKind.local->scope.names.lookup y.1=some NameKind.local:=λy hy hl=>by
  have:=bP.mp hnames y hy;simpa [hl] using this
 have hcs:∀y∈scope.names,y.2=NameKind.free->(X.env.cells.lookup y.1).isSome=true:=λy hy hl=>by
  have:=bP.mp hfr y hy;obtain ⟨c,e⟩:=I.ok.has y.1 (by simpa [hl] using this);rw[e];rfl
 rw[exec_Assign_Name_used _ _ _ _ hsw];refine ab (fw (ab ?_));show wpAny _ X.A (do let _ <-comprehension (.DictComp kx vx [⟨.Name x px,iter,ifs,0⟩] scope pos) scope X.env _ newDict false (eval iter X.env) (some (assign (.Name y py) X.env))) _ _ s;refine ab (dc (fx (use:=some (assign (.Name y py) X.env)) (Q:=λ_ s'=>SP X p9 D .next s') rfl hs (kI hcs) hkind hnames'
  (Vj (RR:=λacc C=>compPost (model X.prog X.w) X.A X.xe (some (assign (.Name y py) X.env)) (λ_ s'=>SP X p9 D .next s') acc C) hc he hcell hkind hx I h λL C H' s4 m I4 q hn fC=>?_)) (λ_ s' hq=>am (am hq)) λ_ _ e=>e)
 obtain ⟨oC,es,ep,eC,rC⟩:=id hn;obtain ⟨f0,f1,f2,f3,f4,f5⟩:=fC;have ncell:∀v,oC.data≠.cell v:=λv z=>by rw[rC.1]at z;cases z
 have I5:Inv X (p9++[(C,oC)]) Y H' s4:=I4.pins_of λp hp=>by
  rcases aT.mp hp with z |z
  .exact I4.pin p (al _ z)
  .have e:p=_:=ah.mp z;subst e;exact ⟨eC,f0,f1,f2,ncell⟩
 refine hX (jf I5 hN hiy hy (v:=.ref L) (u:=.ref L) rfl (λs5 I6=>?_) hf);have eC5:s5.heap.get? C=some oC:=(I6.pin (C,oC) (al _ (al _ (ah.mpr rfl)))).1;have I7:Inv X p9 (Y.set i (some (.ref L))) H' s5:=I6.pins_of λp hp=>I6.pin p (al _ (cf _ hp));refine ⟨m,⟨oC,es,ep,eC5,rC⟩,λh'' hs''=>?_⟩;exact ⟨_,H',I7.turned (t':=s5.toks) (it:=C) (λb o hb e=>hs''.extBut b o hb e) f0 f1 f3 f4 f5,q⟩
open PySem.W (findIn mroIn clsIn typeIn Looks looks_findIn looks_mroIn looks_typeIn)
section
variable {X:Cx}
theorem Vk:bootBuiltins "any"=some (.builtin "any"):=by ac_rfl
theorem any_range(bs:List Bool)(n:Nat)(hn:n=bs.length):((List.range n).any λi=>(bs[i]?).getD true)=bs.any id:=by
 subst hn;rw[fk,hJ,hJ];constructor
 .rintro ⟨i,hi,h⟩;have hi':=eh.mp hi;rw[ai hi']at h;exact ⟨_,cp hi',h⟩
 .rintro ⟨b,hb,h⟩;obtain ⟨i,hi,e⟩:=gi.mp hb;exact ⟨i,eh.mpr hi,by rw[ai hi,e];exact h⟩
theorem Vl (hc:X.calm=true):bh X (.builtin "any") (λxs H Q=>∃(p:AQ) (bs:List Bool),xs=[.ref p]/\SqL X.K H p (bs.map V.bl)/\Q (.bl (bs.any id)) H):=by
 intro p9 s Y H xs us Q I r h;obtain ⟨p,bs,rfl,hq,q⟩:=h;obtain ⟨u,rfl,ru⟩:=vals1 r;cases ru;obtain ⟨its,rv,pl,hz⟩:=I.list hq;have hl:=pl.isList;have hlt:p < (~~~s):=by obtain ⟨_,e,_⟩:=hl;exact ay e
 refine call_any_walk (fv hl ?_);refine ⟨(~~~s),[(~~~s),p],[(~~~s)],its.toArray.size,_,_,λi=>(bs[i]?).getD true,rfl,Walks.list (A:=X.A.in1) (I.ok.hd hc) _ p (b3 hlt) its.toArray,
  ⟨⟨_,aI _ rfl,rfl,rfl⟩,hl.push _⟩,λi v s' Q' E' hP hQ=>?_,λh' tk hk=>?_⟩
 .obtain ⟨b,e,rfl⟩:=u9 rv (i:=i) (v:=v) (!!hP);simp only[e,Option.getD_some]at hQ;exact eK hQ
 .have e:=any_range bs its.toArray.size (by rw[av,<-rv.length,af]);rw[e];exact ⟨.bl _,H,I.kept (λb o q=>hk b o (λhm=>by rw[ah.mp hm]at q;exact eS _ (ay q)) (ag _ q)),rfl,q⟩
def cB(ks:List (List Key)):List (List Key×V):=ks.foldl (λkv k=>putD kv k (.bl true)) []
theorem CW:∀(ks:List (List Key))(kv:List (List Key×V)),(ks.foldl (λkv k=>putD kv k (V.bl true)) kv).length<=kv.length+ks.length
 |[],kv=>ax _
 |k::ks,kv=>by
  have h1:=CW ks (putD kv k (.bl true));have h2:=length_putD kv k (V.bl true);rw[List.foldl_cons,da];omega
def isT(H:Hp)(v:V)(k:List Key):Prop:=∃b,v=.ref b/\H b=some (.tup (k.map kV))
def vp(X:Cx)(t:TE):TE:=λY H Q=>t Y H λv H1=>∃p vs ks,v=.ref p/\SqL X.K H1 p vs/\Paired (isT H1) vs ks/\ks.length < sizeLine/\∀D,H1 D=none->Q (.ref D) (upd H1 D (.dT (cB ks)))
theorem Paired.at{α β:Type}{F:α->β->Prop}:∀{xs:List α}{ys:List β},Paired F xs ys->∀{i:Nat}{a:α},xs[i]?=some a->∃b,ys[i]?=some b/\F a b
 |_,_,.nil,_,_,e=>by simp at e
 |_,_,.cons r t,0,_,e=>by simp at e;subst e;exact ⟨_,rfl,r⟩
 |_,_,.cons r t,i+1,_,e=>Paired.at t (i:=i) (!!e)
theorem vq:∀{vs:AR}{us:AB},Vals vs us->∀{i:Nat}{u:AN},us[i]?=some u->∃v,vs[i]?=some v/\RelV v u
 |_,_,.nil,_,_,e=>by simp at e
 |_,_,.cons r t,0,_,e=>by simp at e;subst e;exact ⟨_,rfl,r⟩
 |_,_,.cons r t,i+1,_,e=>vq t (i:=i) (!!e)
theorem CZ{iter:AO}{x:Str}{px pk pv:Pos}{j:Nat}{scope:Scope}{pos:Pos}{t:TE}{p9:AC}{s:AI}{Y:St}{H:Hp}{Q:VK}{RR:AN->AQ->Result->AI->Prop}(hc:X.calm=true)(hu:X.A.units+1 < cLine)(he:PE X iter t)
  (hcell:scope.names.all (λy=>y.2 != NameKind.cell)=true) (hkind:scope.kind=.function) (hx:scope.names.lookup x=some .local) (hd:(x==("__debug__":Str))=false) (I:Inv X p9 Y H s) (h:vp X t Y H Q)
  (fin:∀(D C:AQ)(H':Hp)(s4:AI)(m:AH),Inv X p9 Y H' s4->Q (.ref D) H'->s4.heap.Ns C m->cM X p9 H' C->RR (.ref D) C (.ok .next) s4):
  ↥X (eval iter X.env) (λxv s₁=>↥X (pyIter xv) (λit s₂=>↥X newDict (λacc s₃=>
   ↥X (newFunctionEnv scope X.env.globals (bW X.env scope.names []) [] X.env.qual none .none (some X.env)) (λcenv s₄=>
    codeAny (model X.prog X.w) X.A (.compStart (.DictComp (.Name x pk) (.Constant (.bool true) j pv) [⟨.Name x px,iter,[],0⟩] scope pos) 0 it acc { cenv with scope:=relabel scope X.env }) (RR acc cenv.locals) s₄) X.xe s₃) X.xe s₂) X.xe s₁) X.xe s:=by
 have hcell':∀y∈scope.names,y.2≠NameKind.cell:=λy hy=>by
  have:=bP.mp hcell y hy;simpa using this
 generalize bW X.env scope.names []=cl;refine thn (he p9 s Y H _ I h) λxv s1 h1=>?_;obtain ⟨v,H1,I1,rv,p,vs,ks,ev,hp,hpk,hkl,q⟩:=h1;subst ev;cases rv;obtain ⟨its,r,pl,_⟩:=I1.list hp;have hl:s1.heap.IsList p its.toArray:=pl.isList;have hlen:its.length=ks.length:=by rw[<-r.length];exact gt hpk
 have hlt:p < s1.heap.objs.size:=by obtain ⟨_,e,_⟩:=hl;exact ay e
 refine fv hl ?_;refine df (wpAny_newFunctionEnv hcell' (by intro y hy;simp at hy) (λh₁ hns₁ hsb₁=>?_) hkind);dsimp only at hns₁ hsb₁ ⊢;generalize hH1:s1.heap.push { cls:=.type "list_iterator",data:=.fields #[.ref p,.int 0 0] }=h2 at hns₁ hsb₁ ⊢;generalize hH2:h2.push { cls:=.type "dict",dict:=none,data:=.dict #[] }=HP at hns₁ hsb₁ ⊢;have z1:h2.objs.size=s1.heap.objs.size+1:=by rw[<-hH1,dA]
 have z2:HP.objs.size=s1.heap.objs.size+2:=by rw[<-hH2,dA,z1]
 have up:∀b o,HP.get? b=some o->h₁.get? b=some o:=λb o e=>hsb₁.extBut b o (b3 (ay e)) (ag _ e);have up2:∀b o,h2.get? b=some o->h₁.get? b=some o:=λb o e=>up b o (hH2 ▸ ag _ e);have old:∀b o,s1.heap.get? b=some o->h₁.get? b=some o:=λb o e=>up2 b o (hH1 ▸ ag _ e);have hit:h₁.IsListIter s1.heap.objs.size p 0:=⟨_,up2 _ _ (hH1 ▸ aI _ rfl),rfl,rfl⟩;have nd:H1 h2.objs.size=none:=I1.hok.fresh (!0);have hneC:HP.objs.size≠h2.objs.size:=by omega
 have hneI:s1.heap.objs.size≠h2.objs.size:=by omega
 have hneIC:s1.heap.objs.size≠HP.objs.size:=by omega
 have fC:∀kv,cM X p9 (upd H1 h2.objs.size (.dT kv)) HP.objs.size:=λkv=>I1.fpOk (!0) (by rw[aJ hneC];exact I1.hok.fresh (!0));have fI:∀kv,cM X p9 (upd H1 h2.objs.size (.dT kv)) s1.heap.objs.size:=λkv=>I1.fpOk (ax _) (by rw[aJ hneI];exact I1.hok.fresh (ax _));have hdict:h₁.get? h2.objs.size=some { cls:=.type "dict",dict:=none,data:=.dict #[] }:=up _ _ (hH2 ▸ aI _ rfl);have hsm:(h2.objs.size==sysModules)=false:=d4.mpr (λz=>na z1 (fq I1.big) z);have tupk:∀{kv:List (List Key×V)}{b:AQ}{k:List Key},H1 b=some (.tup (k.map kV))->upd H1 h2.objs.size (.dT kv) b=some (.tup (k.map kV)):=λe=>by rw[aJ (bz e nd)];exact e
 have loop:∀s₃:AI,s₃={ s1 with heap:=h₁,toks:=s1.toks+([]:List (Str×AN)).length }->
   codeAny (model X.prog X.w) X.A (.compLoop (.DictComp (.Name x pk) (.Constant (.bool true) j pv) [⟨.Name x px,iter,[],0⟩] scope pos) 0 (.ref s1.heap.objs.size) (.ref h2.objs.size) (compEnvC scope cl HP.objs.size X.env))
    (RR (.ref h2.objs.size) HP.objs.size) s₃:=by
  rintro s₃ rfl;have W:=Walks.list (prog:=X.prog) (w:=X.w) (I1.ok.hd hc) s1.heap.objs.size p (b3 hlt) its.toArray;refine codeAny_compLoop_testsD (λn s'=>∃i m,n=its.length - i/\i<=its.length/\Inv X p9 Y (upd H1 h2.objs.size (.dT (cB (ks.take i)))) s'/\(s'.heap.IsListIter s1.heap.objs.size p i/\s'.heap.IsList p its.toArray)/\s'.heap.Ns HP.objs.size m) ?_ its.length
   ⟨0,_,rfl,cr _,I1.laid (t':=s1.toks+([]:List (Str×AN)).length) (o:=.dT []) old (!0) ⟨cr _,hsm,[],.nil,_,#[],_,hdict,⟨rfl,rfl,rfl⟩,rfl,rfl,fb⟩,⟨hit,hl.at λo e=>old _ _ e⟩,hns₁⟩
  rintro n s' ⟨i,m,rfl,hi,I',⟨st1,st2⟩,hns⟩;by_cases hlt':i < its.length
  .refine W.item i s' _ _ (!!hlt') ⟨st1,st2⟩ λv h' tk hP st' hk'=>?_;have I2:Inv X p9 Y (upd H1 h2.objs.size (.dT (cB (ks.take i)))) { s' with heap:=h',toks:=tk }:=by
    obtain ⟨f0,f1,f2,f3,f4,f5⟩:=fI (cB (ks.take i));exact I'.turned (t':=tk) (it:=s1.heap.objs.size) (λb o hb e=>hk' b o (!!hb) e) f0 f1 f3 f4 f5
   have hns2:h'.Ns HP.objs.size m:=hns.at' λo e=>hk' _ o (λz=>hneIC (ah.mp z).symm) e;refine hX (wpAny_storeName_local (env:=compEnvC scope cl HP.objs.size X.env) (lookup_relabel_local hx) hns2 (λh3 hn3 hs3=>?_) (by simp[compEnvC,relabel,hkind]));have I3:Inv X p9 Y (upd H1 h2.objs.size (.dT (cB (ks.take i)))) { s' with heap:=h3,toks:=tk+1 }:=by obtain ⟨f0,f1,f2,f3,f4,f5⟩:=fC (cB (ks.take i));exact Inv.turned (s:={ s' with heap:=h',toks:=tk }) (h':=h3) (t':=tk+1) (it:=HP.objs.size) I2 (λb o hb e=>hs3.extBut b o hb e) f0 f1 f3 f4 f5
   refine am ?_;rw[if_pos rfl];refine wpAny_Name (wpAny_loadName_local (env:=compEnvC scope cl HP.objs.size X.env) hkind (lookup_relabel_local hx) hn3 (if_pos rfl) ?_) hd;refine Constant_bool ?_;obtain ⟨u,k,ek,e1,b,e2,eb⟩:∃u k,ks[i]?=some k/\RelV u v/\isT H1 u k:=by
    have hv:its[i]?=some v:=by simpa using hP
    obtain ⟨u,eu,ru⟩:=vq r hv;obtain ⟨k,ek,hk⟩:=Paired.at hpk eu;exact ⟨u,k,ek,ru,hk⟩
   subst e2;cases (show v=Value.ref b from e1);have eb3:=tupk (kv:=cB (ks.take i)) eb;obtain ⟨z,hsm',xs,rel,dd⟩:=kY I3.hok cQ;have hz:xs.length<=sizeLine:=by rw[<-gt rel];exact z
   have hkt:ks.take (i+1)=ks.take i++[k]:=by rw[gI,ek];rfl
   have htr:cB (ks.take (i+1))=putD (cB (ks.take i)) k (.bl true):=by unfold cB;rw[hkt,List.foldl_append];rfl
   have hl4:(putD (cB (ks.take i)) k (.bl true)).length<=sizeLine:=by rw[<-htr];have:=CW (ks.take (i+1)) [];have h5:=List.length_take_le (i+1) ks;have h6:=List.length_take_le' (i+1) ks;unfold cB;simp only[fN]at this;omega
   refine wpAny_dictSet_heap (hsz:=hz) (Nat.lt_of_succ_lt hu) (gZ I3.hok eb3) dd λh4 dd4 hs4=>⟨its.length - (i+1),!0,i+1,_,rfl,hlt',?_,⟨st'.1.at λo e=>?_,st'.2.at λo e=>?_⟩,hn3.at' λo e=>?_⟩
   .obtain ⟨o4,es,ep,hq,g2,g3,g4,_,g5⟩:=dd4;rw[htr];have I4:=vo (t':=tk+1+(tupleKind (bU X.prog X.w)).draws k) (ob:=.dT (putD (cB (ks.take i)) k (.bl true))) I3 (by rw[cQ];exact gc) hs4 ⟨o4,hq⟩ ⟨hl4,hsm,_,(rel.put k eb3 (show RelV (.bl true) (.bool true) from rfl)).keeps λc ys ec=>?_,o4,es,ep,hq,g2,g3,g4,g5⟩
    .rw[Pb]at I4;exact I4
    .rw[aJ (je ec cQ (λz=>nomatch z))];exact ec
   .exact (hs4.2 _ hneI).trans (hs3.extBut _ _ hneIC e)
   .have hpD:p≠h2.objs.size:=λz=>na z1 (fq hlt) z.symm;have hpC:p≠HP.objs.size:=λz=>na z2 (bm hlt (!0)) z.symm;exact (hs4.2 _ hpD).trans (hs3.extBut _ _ hpC e)
   .exact (hs4.2 _ hneC).trans e
  .have ei:i=its.length:=by omega
   subst ei;refine W.done s' _ _ (by simpa using ⟨st1,st2⟩) λh' tk hk'=>?_;have et:ks.take its.length=ks:=by rw[hlen];exact g6
   rw[et]at I';have I2:Inv X p9 Y (upd H1 h2.objs.size (.dT (cB ks))) { s' with heap:=h',toks:=tk }:=by obtain ⟨f0,f1,f2,f3,f4,f5⟩:=fI (cB ks);exact I'.turned (t':=tk) (it:=s1.heap.objs.size) (λb o hb e=>hk' b o (!!hb) e) f0 f1 f3 f4 f5
   exact fin _ _ _ _ m I2 (q _ nd) (hns.at' λo e=>hk' _ o (λz=>hneIC (ah.mp z).symm) e) (fC _)
 exact codeAny_compStart_dict (loop _ rfl) ((Walks.list (I1.ok.hd hc) s1.heap.objs.size p (b3 hlt) its.toArray).self 0 _ _ _ ⟨hit,hl.at λo e=>old _ _ e⟩ (loop _ rfl))
end
def Vm{X:Cx}{iter:AO}{x:Str}{px pk pv:Pos}{j:Nat}{scope:Scope}{pos:Pos}{t:TE}(hc:X.calm=true)(hu:X.A.units+1 < cLine)(he:PE X iter t)
  (hcell:scope.names.all (λy=>y.2 != NameKind.cell)=true) (hnames:scope.names.all (λy=>y.2 != NameKind.local||scope.names.lookup y.1==some NameKind.local)=true)
  (hfr:scope.names.all (λy=>y.2 != NameKind.free||(X.env.kindOf y.1==some NameKind.cell||X.env.kindOf y.1==some NameKind.free))=true)
  (hkind:scope.kind=.function) (hx:scope.names.lookup x=some .local) (hd:(x==("__debug__":Str))=false) (hs:∀x,foldedSetIterable iter X.env x=pure x):PE X (.DictComp (.Name x pk) (.Constant (.bool true) j pv) [⟨.Name x px,iter,[],0⟩] scope pos) (vp X t):=by
 intro p9 s Y H Q I h;have hnames':∀y∈scope.names,y.2=NameKind.local->scope.names.lookup y.1=some NameKind.local:=λy hy hl=>by
  have:=bP.mp hnames y hy;simpa [hl] using this
 have hcs:∀y∈scope.names,y.2=NameKind.free->(X.env.cells.lookup y.1).isSome=true:=λy hy hl=>by
  have:=bP.mp hfr y hy;obtain ⟨c,e⟩:=I.ok.has y.1 (by simpa [hl] using this);rw[e];rfl
 rw[arm_eval_DictComp];refine fx (use:=none) (Q:=EP X p9 Y Q) rfl hs (kI hcs) hkind hnames'
  (CZ (RR:=λacc C=>compPost (model X.prog X.w) X.A X.xe none (EP X p9 Y Q) acc C) hc hu he hcell hkind hx hd I h λL C H' s4 m I4 q hn fC=>?_)
 obtain ⟨f0,f1,f2,f3,f4,f5⟩:=fC;exact ⟨m,hn,λh' hs'=>⟨.ref L,H',I4.turned (t':=s4.toks) (it:=C) (λb o hb e=>hs'.extBut b o hb e) f0 f1 f3 f4 f5,rfl,q⟩⟩
def Vn{X:Cx}{iter:AO}{x:Str}{px pk pv:Pos}{j:Nat}{scope:Scope}{pos py spos:Pos}{t:TE}{i:Nat}{y:Str}(hN:X.N.Nodup)(hiy:X.N[i]?=some y)(hy:Loc X.env.scope y)(hc:X.calm=true)(hu:X.A.units+1 < cLine)(he:PE X iter t)
  (hcell:scope.names.all (λy=>y.2 != NameKind.cell)=true) (hnames:scope.names.all (λy=>y.2 != NameKind.local||scope.names.lookup y.1==some NameKind.local)=true)
  (hfr:scope.names.all (λy=>y.2 != NameKind.free||(X.env.kindOf y.1==some NameKind.cell||X.env.kindOf y.1==some NameKind.free))=true)
  (hkind:scope.kind=.function) (hx:scope.names.lookup x=some .local) (hd:(x==("__debug__":Str))=false) (hs:∀x,foldedSetIterable iter X.env x=pure x)
  (hsw:swapsWith (.DictComp (.Name x pk) (.Constant (.bool true) j pv) [⟨.Name x px,iter,[],0⟩] scope pos) (some (.Name y py)) spos.line X.env=pure true)
  (hf:X.fn y=true\/X.env.scope.names.lookup y=some .local):
  PS X (.Assign [.Name y py] (.DictComp (.Name x pk) (.Constant (.bool true) j pv) [⟨.Name x px,iter,[],0⟩] scope pos) spos) (jh (vp X t) (jg i)):=by
 intro p9 s Y H D I h;have hnames':∀y∈scope.names,y.2=NameKind.local->scope.names.lookup y.1=some NameKind.local:=λy hy hl=>by
  have:=bP.mp hnames y hy;simpa [hl] using this
 have hcs:∀y∈scope.names,y.2=NameKind.free->(X.env.cells.lookup y.1).isSome=true:=λy hy hl=>by
  have:=bP.mp hfr y hy;obtain ⟨c,e⟩:=I.ok.has y.1 (by simpa [hl] using this);rw[e];rfl
 rw[exec_Assign_Name_used _ _ _ _ hsw];refine ab (fw (ab ?_));show wpAny _ X.A (do let _ <-comprehension (.DictComp (.Name x pk) (.Constant (.bool true) j pv) [⟨.Name x px,iter,[],0⟩] scope pos) scope X.env _ newDict false (eval iter X.env) (some (assign (.Name y py) X.env))) _ _ s;refine ab (dc (fx (use:=some (assign (.Name y py) X.env)) (Q:=λ_ s'=>SP X p9 D .next s') rfl hs (kI hcs) hkind hnames'
  (CZ (RR:=λacc C=>compPost (model X.prog X.w) X.A X.xe (some (assign (.Name y py) X.env)) (λ_ s'=>SP X p9 D .next s') acc C) hc hu he hcell hkind hx hd I h λL C H' s4 m I4 q hn fC=>?_)) (λ_ s' hq=>am (am hq)) λ_ _ e=>e)
 obtain ⟨oC,es,ep,eC,rC⟩:=id hn;obtain ⟨f0,f1,f2,f3,f4,f5⟩:=fC;have ncell:∀v,oC.data≠.cell v:=λv z=>by rw[rC.1]at z;cases z
 have I5:Inv X (p9++[(C,oC)]) Y H' s4:=I4.pins_of λp hp=>by
  rcases aT.mp hp with z |z
  .exact I4.pin p (al _ z)
  .have e:p=_:=ah.mp z;subst e;exact ⟨eC,f0,f1,f2,ncell⟩
 refine hX (jf I5 hN hiy hy (v:=.ref L) (u:=.ref L) rfl (λs5 I6=>?_) hf);have eC5:s5.heap.get? C=some oC:=(I6.pin (C,oC) (al _ (al _ (ah.mpr rfl)))).1;have I7:Inv X p9 (Y.set i (some (.ref L))) H' s5:=I6.pins_of λp hp=>I6.pin p (al _ (cf _ hp));refine ⟨m,⟨oC,es,ep,eC5,rC⟩,λh'' hs''=>?_⟩;exact ⟨_,H',I7.turned (t':=s5.toks) (it:=C) (λb o hb e=>hs''.extBut b o hb e) f0 f1 f3 f4 f5,q⟩
open PySem.SeqAt
def lg(items:Array AN)(x:AN)(i:Nat)(_:Option Fin×Unit):Sem (ForInStep (Option Fin×Unit)):=match items[i]? with
 |some y=>do
  let b <-eqBool y x
  if b=true then do
   let f <-retInt (i:Int)
   pure (ForInStep.done (some f,()))
  else pure (ForInStep.yield (none,()))
 |_=>pure (ForInStep.yield (none,()))
def Dc{prog:AK}{w:World}{A:AM}{Q:Option Fin×Unit->AI->Prop}{E:AG}{s:AI}(items:Array AN)(x:AN)(e:AN->Bool)(j:Nat)(hj:j < items.size)(he:∀y,y∈items->EqAt A s y x (e y))(hit:e items[j]=true)(h:Q (some (.done (.ret (.int j s.toks))),()) { s with toks:=s.toks+1 }):
  ∀(k i r:Nat),j=i+k->(∀m (hm:m < items.size),i<=m->m < j->e items[m]=false)->
  wpAny (model prog w) A (forIn (List.range' i (k+1+r) 1) ((none,()):Option Fin×Unit) (lg items x)) Q E s
 |0,i,r,hji,hno=>by
  have hji:j=i:=hji;subst hji;rw[Nat.zero_add,Nat.add_comm,List.range'_succ,fA];have hi:items[j]?=some items[j]:=gv hj;unfold lg;simp only[hi];refine ab (ab (he _ (Array.getElem_mem hj) prog w _ _ ?_));rw[hit,if_pos rfl];wp_walk
  exact h
 |k+1,i,r,hji,hno=>by
  have hlt:i < items.size:=by omega
  rw[show k+1+1+r=(k+1+r)+1 by omega,List.range'_succ,fA];have hi:items[i]?=some items[i]:=gv hlt;have e0:lg items x i (none,())=(do
   let b <-eqBool items[i] x
   if b=true then do
    let f <-retInt (i:Int)
    pure (ForInStep.done (some f,()))
   else pure (ForInStep.yield (none,()))):=by unfold lg;simp only[hi]
  rw[e0];refine ab (ab (he _ (Array.getElem_mem hlt) prog w _ _ ?_));rw[hno i hlt (ax _) (!0),if_neg br];refine am ?_;exact Dc items x e j hj he hit h k (i+1) r (!0) λm hm h1 h2=>hno m hm (!0) h2
def Vo(l:AQ)(items:Array AN)(n:Nat)(dd:Option AQ)(sl:Array (Option AN))(x:AN)(e:AN->Bool)(j:Nat)(hj:j < items.size)
  (hit:e items[j]=true) (hno:∀m (hm:m < items.size),m < j->e items[m]=false):
  Meets (Builtin.«tuple.index» ⟨[.ref l,x],[]⟩)
   (λA R s=>s.heap.get? l=some { cls:=.type "tuple",dict:=dd,data:=.seq items n,slots:=sl }/\(∀y,y∈items->EqAt A.in1 s y x (e y))/\R (.ok (.ret (.int j s.toks))) { s with toks:=s.toks+1 }):=by
 intro prog w A R s h;obtain ⟨hp,g,d,tk,os⟩:=s;obtain ⟨hl,he,h⟩:=h;unfold Builtin.«tuple.index»;simp only[Std.Legacy.Range.forIn_eq_forIn_range'];wp_walk using wpAny_loadPart' hl
 have ez:[:min items.size items.size].size=j+1+(items.size - (j+1)):=by simp[Std.Legacy.Range.size];omega
 show wpAny (model prog w) A.in1 (forIn (List.range' 0 [:min items.size items.size].size 1) ((none,()):Option Fin×Unit) (lg items x)) _ _ _;rw[ez];refine Dc items x e j hj he hit ?_ j 0 _ (!0) λm hm _ h2=>hno m hm h2;exact am h
def vy(i:Int):AN->Bool
 |.int a _=>a==i
 |_=>false
def Vp(K:PF):V->AR->Hp->VK->Prop:=λx vs H Q=>∃(p:AQ)(ns:List Int)(i:Int),x=.ref p/\vs=[.int i]/\SqT K H p (ns.map V.int)/\i∈ns/\Q (.int (ns.idxOf i:Nat)) H
def vz{ns:List Int}{us:AB}(r:Vals (ns.map V.int) us){k:Nat}(h:k < us.length)(h':k < ns.length):∃t,us[k]=.int ns[k] t:=by obtain ⟨v,e1,e2⟩:=vq r (ai h);rw[bq,ai h']at e1;cases e1;exact e2
def Vq {X:Cx}:MtR X "tuple.index" (Vp X.K):=by
 intro p9 s Y H x xs v us Q I rx rs h;obtain ⟨p,ns,i,rfl,rfl,hq,hin,q⟩:=h;cases rx;obtain ⟨u,rfl,ru⟩:=vals1 rs;obtain ⟨tk,rfl⟩:=ru;obtain ⟨its,rv,⟨o,ho,hc,n,hd⟩,hz⟩:=I.tuple hq;obtain ⟨cls,dd,data,sl⟩:=o;simp only at hc hd;subst hc hd;have hlen:its.length=ns.length:=by rw[<-rv.length,af]
 have hj:ns.idxOf i < ns.length:=List.idxOf_lt_length_iff.mpr hin;refine call_meets PySem.F.slot_tuple_index ⟨_,ho,rfl⟩ PySem.F.entry_tuple_index (PySem.F.args_tuple_index_2 _ _) (Vo p _ n _ sl (.int i tk) (vy i) (ns.idxOf i) (by rw[av];omega) ?_ ?_) ⟨ho,λy hy=>?_,?_⟩
 .obtain ⟨t,e⟩:=vz rv (k:=ns.idxOf i) (!0) hj;show vy i (its[ns.idxOf i]'(!0))=true;rw[e];show (ns[ns.idxOf i]==i)=true;rw[List.getElem_idxOf hj];exact beq_self_eq_true i
 .intro m hm hlt;rw[av]at hm;obtain ⟨t,e⟩:=vz rv (k:=m) hm (!0);show vy i (its[m]'hm)=false;rw[e];show (ns[m]==i)=false;have h4:m < ns.findIdx (·==i):=hlt;simpa using List.not_of_lt_findIdx h4
 .obtain ⟨m,hm,e⟩:=gi.mp (show y∈its by simpa using hy);obtain ⟨t,e2⟩:=vz rv hm (!0);rw[e]at e2;rw[e2];exact EqAt.int_int _ _ _ _
 .exact ⟨.int _,H,I.tok _,⟨_,rfl⟩,q⟩
def Vr(r:V->AR->Hp->VK->Prop)(to:TE)(t:TA):TE:=λY H Q=>to Y H λx H1=>(∃p xs,x=.ref p/\H1 p=some (.tup xs))/\t Y H1 λvs H2=>r x vs H2 Q
def Vs {X:Cx} {o e:AO} {es:AE} {to:TE} {t:TA} {name:Str} {apos cpos:Pos} {id:AL} {r:V->AR->Hp->VK->Prop} (pa:PlainAttrs "tuple") (slot:Slot "tuple" name id) (hty:typeOf (.builtin id)=pure (.type "method_descriptor")) (hm:MtR X id r) (ho:PE X o to) (ha:PA X (e::es) t)
  (hbase:attributeBase o name X.env (eval o X.env)=eval o X.env)
  (hfew:((backTo cpos (starEach (e::es) X.env)).all (λx=>!x.1)&&(backToKw cpos (keywordEach [] X.env)).all (λx=>x.1.isSome)
  &&decide ((e::es).length+([]:List Keyword).length+(if ([]:List Keyword).isEmpty then 0 else 1) < 30))=true)
  (hline:(apos.endLine==cpos.line)=true) (hs:starEach (e::es) X.env=(false,eval e X.env)::starEach es X.env) (hplain:(backTo cpos (starEach es X.env)).any (·.1)=false):
  PE X (.Call (.Attribute o name apos) (e::es) [] cpos) (Vr r to t):=by
 intro p9 s Y H Q I h;refine wpAny_Call_method_late hbase hfew hline rfl (thn (ho p9 s Y H _ I h) λv s1 ⟨x,H1,I1,r1,⟨p,xs,ex,hp⟩,q1⟩=>?_);subst ex;obtain rfl:v=Value.ref p:=r1;obtain ⟨_,its,rv,ob,e1,e2,_⟩:=(show ObjOk X.prog X.w H1 s1.heap p (.tup xs) from I1.hok p _ hp);refine ⟨"tuple",id,pa,slot,hty,⟨ob,e1,e2.1⟩,λa ea=>by cases ea;exact ⟨ob,e1,e2.2⟩,?_⟩;have hA:=ha cpos p9 s1 Y H1 _ I1 q1;rw[hs]at hA ⊢;refine Calls.callWith_builtin (by show (false||(backTo cpos (starEach es X.env)).any (·.1))=false;rw[hplain] <;> rfl) (Calls.evalArgs_plain ?_);exact thn hA λus s2 ⟨vs,H2,I2,r2,q2⟩=>hm p9 s2 Y H2 (.ref p) vs _ us Q I2 rfl r2 q2
end L2
namespace RF
open PySem PySem.Spec PyProof.Rows L2
inductive D where
 |non |bl (b:Bool) |int (i:Int) |str (l:AA) |tup (xs:List D) |lst (xs:List D) |ref (a:AQ) |scr (ns:List Int) |exn (C:AL) |exa (C f:AL) (d:D) |obj (C f:AL) (q:AQ) |dct (ks:List (List Int)) (ds:List D)
 deriving Inhabited
abbrev AS:=List D
inductive DO where
 |lst (xs:AS)
 |dct (ks:List (List Int)) (ds:AS)
 deriving Inhabited
abbrev DH:=AQ->Option DO
abbrev AT:=D->DH->Prop
def aL(G:DH)(a:AQ)(o:DO):DH:=λb=>if b=a then some o else G b
def gk(G:DH)(a:AQ):DH:=λb=>if b=a then none else G b
def bA{G:DH}{a:AQ}{o:DO}:aL G a o a=some o:=if_pos rfl
def bY{G:DH}{a b:AQ}{o:DO}(h:b≠a):aL G a o b=G b:=if_neg h
def vA{G:DH}{a:AQ}:gk G a a=none:=if_pos rfl
def lq{G:DH}{a b:AQ}(h:b≠a):gk G a b=G b:=if_neg h
def Vt{G:DH}{a:AQ}{o u:DO}:aL (aL G a o) a u=aL G a u:=by funext b;unfold aL;split <;> rfl
def Dd{G:DH}{a:AQ}{o:DO}(h:G a=none):gk (aL G a o) a=G:=by
 funext b;unfold aL gk;split
 .rename_i e;rw[e,h]
 .rename_i e;exact if_neg e
def qR{G:DH}{a b:AQ}{o:DO}(h:G a=some o)(h':G b=none):a≠b:=by intro e;subst e;rw[h]at h';cases h'
abbrev sz:Nat:=1000000
abbrev FZ:=AQ->Prop
def FzL(H:Hp)(F:FZ)(a:AQ)(vs:AR):Prop:=F a/\H a=some (.lst vs)
def FzL.sq{K:PF}{H:Hp}{F:FZ}{a:AQ}{vs:AR}(h:FzL H F a vs):SqL K H a vs:=.inl (.inl h.2)
structure TpT(K:PF)(H:Hp)(a:AQ)(vs:AR):Prop where
 it:H a=some (.tup vs)
def TpT.sq{K:PF}{H:Hp}{a:AQ}{vs:AR}(h:TpT K H a vs):SqT K H a vs:=.inl (.inl h.it)
def ScL(K:PF)(H:Hp)(a:AQ)(vs:AR):Prop:=
 (∃o,H a=some (.frz o (.lst vs)))\/
  ∃(o:Obj) (its:Array AN) (n:Nat),K.lookup a=some o/\o.cls=.type "list"/\o.dict=none/\o.data=.seq its n/\its.size<=sizeLine/\Vals vs its.toList
def ScL.sq{K:PF}{H:Hp}{a:AQ}{vs:AR}(h:ScL K H a vs):SqL K H a vs:=by
 rcases h with ⟨o,h⟩ |h
 .exact .inl (.inr ⟨o,h⟩)
 .exact .inr h
def aQ(k:List Int):List Key:=k.map Sum.inl
def FzO(H:Hp)(F:FZ)(a c dx:AQ)(f:Str)(q:AQ):Prop:=F a/\H a=some (.ins c dx [(f,.ref q)])
mutual
def Rep(K:PF)(H:Hp)(F:FZ):D->V->Prop
 |.non,v=>v=.non
 |.bl b,v=>v=.bl b
 |.int i,v=>v=.int i
 |.str l,v=>v=.str (tx l)/\l.length<=sz
 |.tup ds,v=>∃a vs,v=.ref a/\TpT K H a vs/\Reps K H F ds vs
 |.lst ds,v=>∃a vs,v=.ref a/\FzL H F a vs/\Reps K H F ds vs
 |.ref a,v=>v=.ref a
 |.scr ns,v=>∃a,v=.ref a/\ScL K H a (ns.map V.int)
 |.obj C f q,v=>∃a c dx,v=.ref a/\FzO H F a c dx (⇑f) q/\PySem.W.nsIn K mainGlobals (⇑C)=some (some (.ref c))
 |.exa C f d,v=>∃a c dx ob od,∃(y:AQ)(u:V),v=.ref a/\(H a=some (.frz ob (.own y))/\ob.cls=.ref c/\ob.dict=some dx/\PySem.W.notCls ob=true)/\H dx=some (.frz od (.xd [(⇑f,u)]))/\Rep K H F d u/\PySem.W.nsIn K mainGlobals (⇑C)=some (some (.ref c))
 |.dct ks ds,v=>∃(a:AQ)(kv:List (List Key×V)),v=.ref a/\(F a/\H a=some (.dT kv))/\kv.map (·.1)=ks.map aQ/\Reps K H F ds (kv.map (·.2))
 |.exn C,v=>∃a c,v=.ref a/\XO H a c/\PySem.W.nsIn K mainGlobals (⇑C)=some (some (.ref c))
def Reps(K:PF)(H:Hp)(F:FZ):AS->AR->Prop
 |[],vs=>vs=[]
 |d::ds,vs=>∃v r,vs=v::r/\Rep K H F d v/\Reps K H F ds r
end
structure Ext(H:Hp)(F:FZ)(H':Hp)(F':FZ):Prop where
 sub:∀a,F a->F' a
 keep:∀a,F a->H' a=H a
 tups:∀a xs,H a=some (.tup xs)->H' a=some (.tup xs)
 frzs:∀a o u,H a=some (.frz o u)->H' a=some (.frz o u)
def Ext.refl(H:Hp)(F:FZ):Ext H F H F:=⟨λ_ h=>h,λ_ _=>rfl,λ_ _ h=>h,λ_ _ _ h=>h⟩
def Ext.trans{H H1 H2:Hp}{F F1 F2:FZ}(a:Ext H F H1 F1)(b:Ext H1 F1 H2 F2):Ext H F H2 F2:=
 ⟨λc h=>b.sub c (a.sub c h),λc h=>(b.keep c (a.sub c h)).trans (a.keep c h),λc xs h=>b.tups c xs (a.tups c xs h),λc o u h=>b.frzs c o u (a.frzs c o u h)⟩
section
variable {K:PF} {H H':Hp} {F F':FZ}
theorem TpT.ext{a:AQ}{vs:AR}(x:Ext H F H' F')(h:TpT K H a vs):TpT K H' a vs:=⟨x.tups _ _ h.it⟩
theorem FzL.ext{a:AQ}{vs:AR}(x:Ext H F H' F')(h:FzL H F a vs):FzL H' F' a vs:=⟨x.sub _ h.1,(x.keep _ h.1).trans h.2⟩
theorem ScL.ext{a:AQ}{vs:AR}(x:Ext H F H' F')(h:ScL K H a vs):ScL K H' a vs:=by
 rcases h with ⟨o,h⟩ |h
 .exact .inl ⟨o,x.frzs _ _ _ h⟩
 .exact .inr h
mutual
theorem Rep.ext(x:Ext H F H' F'):∀{d:D}{v:V},Rep K H F d v->Rep K H' F' d v
 |.non,_,h=>h
 |.bl _,_,h=>h
 |.int _,_,h=>h
 |.str _,_,h=>h
 |.tup _,_,⟨a,vs,e,q,r⟩=>⟨a,vs,e,TpT.ext x q,Reps.ext x r⟩
 |.lst _,_,⟨a,vs,e,q,r⟩=>⟨a,vs,e,FzL.ext x q,Reps.ext x r⟩
 |.ref _,_,h=>h
 |.scr _,_,⟨a,e,q⟩=>⟨a,e,ScL.ext x q⟩
 |.obj _ _ _,_,⟨a,c,dx,e,⟨hf,hh⟩,n⟩=>⟨a,c,dx,e,⟨x.sub _ hf,(x.keep _ hf).trans hh⟩,n⟩
 |.dct _ _,_,⟨a,kv,e,⟨hf,hh⟩,hk,t⟩=>⟨a,kv,e,⟨x.sub _ hf,(x.keep _ hf).trans hh⟩,hk,Reps.ext x t⟩
 |.exn _,_,⟨a,c,e,⟨o,y,q,hc⟩,n⟩=>⟨a,c,e,⟨o,y,x.frzs _ _ _ q,hc⟩,n⟩
 |.exa _ _ _,_,⟨a,c,dx,ob,od,y,u,e,⟨q,h1,h2,h3⟩,qd,r,n⟩=>⟨a,c,dx,ob,od,y,u,e,⟨x.frzs _ _ _ q,h1,h2,h3⟩,x.frzs _ _ _ qd,Rep.ext x r,n⟩
theorem Reps.ext(x:Ext H F H' F'):∀{ds:AS}{vs:AR},Reps K H F ds vs->Reps K H' F' ds vs
 |[],_,h=>h
 |_::_,_,⟨v,r,e,h,t⟩=>⟨v,r,e,Rep.ext x h,Reps.ext x t⟩
end
theorem Reps.nil:Reps K H F [] []:=rfl
theorem Reps.cons{d:D}{v:V}{ds:AS}{vs:AR}(h:Rep K H F d v)(t:Reps K H F ds vs):Reps K H F (d::ds) (v::vs):=⟨v,vs,rfl,h,t⟩
theorem Reps.length:∀{ds:AS}{vs:AR},Reps K H F ds vs->ds.length=vs.length
 |[],_,h=>by cases h;rfl
 |_::_,_,⟨v,r,e,_,t⟩=>by subst e;simp[Reps.length t]
theorem Reps.append:∀{ds es:AS}{vs us:AR},Reps K H F ds vs->Reps K H F es us->Reps K H F (ds++es) (vs++us)
 |[],_,_,_,h,t=>by cases h;exact t
 |_::_,_,_,_,⟨v,r,e,h,t⟩,t'=>by subst e;exact ⟨v,_,rfl,h,Reps.append t t'⟩
theorem Reps.get:∀{ds:AS}{vs:AR}{i:Nat}{d:D},Reps K H F ds vs->ds[i]?=some d->∃v,vs[i]?=some v/\Rep K H F d v
 |[],_,_,_,_,e=>by simp at e
 |_::_,_,0,_,⟨v,r,e,h,t⟩,q=>by subst e;simp at q;subst q;exact ⟨v,rfl,h⟩
 |_::_,_,i+1,d,⟨v,r,e,h,t⟩,q=>by
  subst e;obtain ⟨u,h1,h2⟩:=Reps.get (i:=i) (d:=d) t (!!q);exact ⟨u,!!h1,h2⟩
theorem Reps.set{d:D}{v:V}(r:Rep K H F d v):∀{ds:AS}{vs:AR}(i:Nat),Reps K H F ds vs->Reps K H F (ds.set i d) (vs.set i v)
 |[],_,_,h=>by cases h;exact rfl
 |_::_,_,0,⟨v',r',e,h,t⟩=>by subst e;exact ⟨_,_,rfl,r,t⟩
 |_::_,_,i+1,⟨v',r',e,h,t⟩=>by subst e;exact ⟨_,_,rfl,h,Reps.set r i t⟩
theorem Reps.take:∀{ds:AS}{vs:AR}(n:Nat),Reps K H F ds vs->Reps K H F (ds.take n) (vs.take n)
 |_,_,0,_=>rfl
 |[],_,_+1,h=>by cases h;exact rfl
 |_::_,_,n+1,⟨v',r',e,h,t⟩=>by subst e;exact ⟨_,_,rfl,h,Reps.take n t⟩
theorem Reps.drop:∀{ds:AS}{vs:AR}(n:Nat),Reps K H F ds vs->Reps K H F (ds.drop n) (vs.drop n)
 |_,_,0,h=>h
 |[],_,_+1,h=>by cases h;exact rfl
 |_::_,_,n+1,⟨v',r',e,h,t⟩=>by subst e;exact Reps.drop n t
theorem Reps.cut{ds:AS}{vs:AR}(h:Reps K H F ds vs)(lo hi:Option Int):
  Reps K H F ((ds.drop (HT.sIx ds.length 0 lo)).take (HT.sIx ds.length ds.length hi - HT.sIx ds.length 0 lo)) (dU vs lo hi):=by
 unfold dU;rw[<-h.length];exact (h.drop _).take _
theorem Reps.reverse:∀{ds:AS}{vs:AR},Reps K H F ds vs->Reps K H F ds.reverse vs.reverse
 |[],_,h=>by cases h;exact rfl
 |_::_,_,⟨v',r',e,h,t⟩=>by
  subst e;rw[List.reverse_cons,List.reverse_cons];exact Reps.append (Reps.reverse t) (Reps.cons h rfl)
theorem Reps.rep{ds:AS}{vs:AR}(h:Reps K H F ds vs):∀k:Nat,Reps K H F (List.replicate k ds).flatten (List.replicate k vs).flatten
 |0=>rfl
 |k+1=>by
  rw[ft,ft,ia,ia];exact Reps.append h (Reps.rep h k)
end
def Vu(K:PF)(H:Hp)(F:FZ)(a:AQ):DO->Prop
 |.lst ds=>∃vs,H a=some (.lst vs)/\Reps K H F ds vs
 |.dct ks ds=>∃kv:List (List Key×V),H a=some (.dT kv)/\kv.map (·.1)=ks.map aQ/\Reps K H F ds (kv.map (·.2))
structure R(K:PF)(H:Hp)(F:FZ)(G:DH):Prop where
 fz:∀a,F a->G a=none/\∃o,H a=some o
 ob:∀a o,G a=some o->Vu K H F a o
section
variable {K:PF} {H:Hp} {F:FZ} {G:DH} {p:AQ} {vs:AR} {ds:AS}
theorem R.lst(r:R K H F G)(h:G p=some (.lst ds)):∃vs,H p=some (.lst vs)/\Reps K H F ds vs:=r.ob p _ h
theorem R.dct{ks:List (List Int)}(r:R K H F G)(h:G p=some (.dct ks ds)):∃kv:List (List Key×V),H p=some (.dT kv)/\kv.map (·.1)=ks.map aQ/\Reps K H F ds (kv.map (·.2)):=r.ob p _ h
theorem R.free(r:R K H F G)(h:H p=none):G p=none:=by
 cases e:G p with
 |none=>rfl
 |some o=>
  cases o with
  |lst ds=>obtain ⟨vs,q,_⟩:=r.lst e;rw[h]at q;cases q
  |dct ks ds=>obtain ⟨kv,q,_⟩:=r.dct e;rw[h]at q;cases q
theorem R.notF(r:R K H F G)(h:H p=none):¬F p:=λf=>by
 obtain ⟨_,vs,q⟩:=r.fz p f;rw[h]at q;cases q
theorem cR{o:HO}(r:R K H F G)(h:H p=none):Ext H F (upd H p o) F:=
 ⟨λ_ f=>f,λa f=>aJ λe=>r.notF h (by rw[<-e];exact f),λa xs q=>by rw[aJ (bz q h)];exact q,λa ob u q=>by rw[aJ (bz q h)];exact q⟩
theorem R.new{o:HO}(r:R K H F G)(h:H p=none):R K (upd H p o) F G:=by
 have x:Ext H F (upd H p o) F:=cR r h;refine ⟨λa f=>⟨(r.fz a f).1,?_⟩,λa u e=>?_⟩
 .obtain ⟨_,vs,q⟩:=r.fz a f;exact ⟨vs,by rw[x.keep a f];exact q⟩
 .cases u with
  |lst ds=>
   obtain ⟨vs,q,t⟩:=r.lst e;exact ⟨vs,by rw[aJ (bz q h)];exact q,Reps.ext x t⟩
  |dct ks ds=>
   obtain ⟨kv,q,hk,t⟩:=r.dct e;exact ⟨kv,by rw[aJ (bz q h)];exact q,hk,Reps.ext x t⟩
theorem R.newL(r:R K H F G)(h:H p=none)(t:Reps K H F ds vs):R K (upd H p (.lst vs)) F (aL G p (.lst ds)):=by
 have x:Ext H F (upd H p (.lst vs)) F:=cR r h;have r':R K (upd H p (.lst vs)) F G:=r.new h;refine ⟨λa f=>⟨?_,(r'.fz a f).2⟩,λa u e=>?_⟩
 .rw[bY λe=>r.notF h (by rw[<-e];exact f)];exact (r.fz a f).1
 .by_cases ha:a=p
  .subst ha;rw[bA]at e;cases e;exact ⟨vs,cQ,Reps.ext x t⟩
  .rw[bY ha]at e;exact r'.ob a u e
theorem vB(r:R K H F G)(h:H p=none):Ext H F (upd H p (.lst vs)) (λa=>F a\/a=p):=
 ⟨λ_ f=>.inl f,(cR r h).keep,(cR r h).tups,(cR r h).frzs⟩
theorem R.newF(r:R K H F G)(h:H p=none):R K (upd H p (.lst vs)) (λa=>F a\/a=p) G:=by
 have x:Ext H F (upd H p (.lst vs)) (λa=>F a\/a=p):=vB r h;refine ⟨λa f=>?_,λa u e=>?_⟩
 .rcases f with f |f
  .obtain ⟨g,vs',q⟩:=r.fz a f;exact ⟨g,vs',by rw[x.keep a f];exact q⟩
  .subst f;exact ⟨r.free h,_,cQ⟩
 .cases u with
  |lst ds=>
   obtain ⟨vs',q,t⟩:=r.lst e;exact ⟨vs',by rw[aJ (bz q h)];exact q,Reps.ext x t⟩
  |dct ks ds=>
   obtain ⟨kv,q,hk,t⟩:=r.dct e;exact ⟨kv,by rw[aJ (bz q h)];exact q,hk,Reps.ext x t⟩
theorem Vv(r:R K H F G)(h:H p=none)(t:Reps K H F ds vs):Rep K (upd H p (.lst vs)) (λa=>F a\/a=p) (.lst ds) (.ref p):=
 ⟨p,vs,rfl,⟨.inr rfl,cQ⟩,Reps.ext (vB r h) t⟩
theorem vC(r:R K H F G)(h:H p=none)(t:Reps K H F ds vs):Rep K (upd H p (.tup vs)) F (.tup ds) (.ref p):=
 ⟨p,vs,rfl,⟨cQ⟩,Reps.ext (cR r h) t⟩
theorem jn{ds0:AS}{o:HO}(r:R K H F G)(h:G p=some (.lst ds0)):Ext H F (upd H p o) F:=by
 obtain ⟨vs0,q,_⟩:=r.lst h;refine ⟨λ_ f=>f,λa f=>aJ λe=>?_,λa xs z=>?_,λa ob u z=>?_⟩
 .subst e;rw[(r.fz a f).1]at h;cases h
 .rw[aJ (je z q (by intro w;cases w))];exact z
 .rw[aJ (je z q (by intro w;cases w))];exact z
theorem R.write{ds0:AS}(r:R K H F G)(h:G p=some (.lst ds0))(t:Reps K H F ds vs):R K (upd H p (.lst vs)) F (aL G p (.lst ds)):=by
 have x:Ext H F (upd H p (.lst vs)) F:=jn r h;refine ⟨λa f=>⟨?_,?_⟩,λa u e=>?_⟩
 .rw[bY λe=>by subst e;rw[(r.fz a f).1]at h;cases h];exact (r.fz a f).1
 .obtain ⟨_,vs',q⟩:=r.fz a f;exact ⟨vs',by rw[x.keep a f];exact q⟩
 .by_cases ha:a=p
  .subst ha;rw[bA]at e;cases e;exact ⟨vs,cQ,Reps.ext x t⟩
  .rw[bY ha]at e;cases u with
   |lst ds'=>
    obtain ⟨vs',q,t'⟩:=r.lst e;exact ⟨vs',by rw[aJ ha];exact q,Reps.ext x t'⟩
   |dct ks ds=>
    obtain ⟨kv,q,hk,t'⟩:=r.dct e;exact ⟨kv,by rw[aJ ha];exact q,hk,Reps.ext x t'⟩
theorem vD{ks0:List (List Int)}{ds0:AS}{o:HO}(r:R K H F G)(h:G p=some (.dct ks0 ds0)):Ext H F (upd H p o) F:=by
 obtain ⟨vs0,q,_⟩:=r.dct h;refine ⟨λ_ f=>f,λa f=>aJ λe=>?_,λa xs z=>?_,λa ob u z=>?_⟩
 .subst e;rw[(r.fz a f).1]at h;cases h
 .rw[aJ (je z q (by intro w;cases w))];exact z
 .rw[aJ (je z q (by intro w;cases w))];exact z
theorem R.dctAt{ks:List (List Int)}{kv:List (List Key×V)}(r:R K H F G)(x:Ext H F (upd H p (.dT kv)) F)(hp:¬F p)(hk:kv.map (·.1)=ks.map aQ)(t:Reps K H F ds (kv.map (·.2))):R K (upd H p (.dT kv)) F (aL G p (.dct ks ds)):=by
 refine ⟨λa f=>⟨?_,?_⟩,λa u e=>?_⟩
 .rw[bY λe=>hp (by rw[<-e];exact f)];exact (r.fz a f).1
 .obtain ⟨_,vs',q⟩:=r.fz a f;exact ⟨vs',by rw[x.keep a f];exact q⟩
 .by_cases ha:a=p
  .subst ha;rw[bA]at e;cases e;exact ⟨kv,cQ,hk,Reps.ext x t⟩
  .rw[bY ha]at e;cases u with
   |lst ds'=>
    obtain ⟨vs',q,t'⟩:=r.lst e;exact ⟨vs',by rw[aJ ha];exact q,Reps.ext x t'⟩
   |dct ks' ds'=>
    obtain ⟨kv',q,hk',t'⟩:=r.dct e;exact ⟨kv',by rw[aJ ha];exact q,hk',Reps.ext x t'⟩
theorem R.notFD{ks0:List (List Int)}{ds0:AS}(r:R K H F G)(h:G p=some (.dct ks0 ds0)):¬F p:=λf=>by rw[(r.fz p f).1]at h;cases h
theorem vG:Ext H F H (λa=>F a\/a=p):=⟨λ_ f=>.inl f,λ_ _=>rfl,λ_ _ h=>h,λ_ _ _ h=>h⟩
theorem R.frz(r:R K H F G)(h:G p=some (.lst ds)):R K H (λa=>F a\/a=p) (gk G p):=by
 have x:Ext H F H (λa=>F a\/a=p):=vG;refine ⟨λa f=>?_,λa u e=>?_⟩
 .rcases f with f |f
  .obtain ⟨g,vs',q⟩:=r.fz a f;refine ⟨?_,vs',q⟩;by_cases ha:a=p
   .rw[ha];exact vA
   .rw[lq ha];exact g
  .subst f;obtain ⟨vs,q,_⟩:=r.lst h;exact ⟨vA,_,q⟩
 .by_cases ha:a=p
  .rw[ha,vA]at e;cases e
  .rw[lq ha]at e;cases u with
   |lst ds'=>
    obtain ⟨vs',q,t'⟩:=r.lst e;exact ⟨vs',q,Reps.ext x t'⟩
   |dct ks ds=>
    obtain ⟨kv,q,hk,t'⟩:=r.dct e;exact ⟨kv,q,hk,Reps.ext x t'⟩
theorem Vw(r:R K H F G)(h:G p=some (.lst ds)):Rep K H (λa=>F a\/a=p) (.lst ds) (.ref p):=by obtain ⟨vs,q,t⟩:=r.lst h;exact ⟨p,vs,rfl,⟨.inr rfl,q⟩,Reps.ext vG t⟩
end
def view(G:DH):D->D
 |.ref p=>match G p with |some (.lst ds)=>.lst ds |some (.dct ks ds)=>.dct ks ds |none=>.ref p
 |d=>d
def Rep.list{K:PF}{H:Hp}{F:FZ}{G:DH}{d:D}{v:V}{ds:AS}(r:R K H F G)(h:Rep K H F d v)(e:view G d=.lst ds):∃a vs,v=.ref a/\SqL K H a vs/\Reps K H F ds vs:=by
 cases d with
 |lst xs=>
  have e':D.lst xs=.lst ds:=e;cases e';obtain ⟨a,vs,e1,q,t⟩:=h;exact ⟨a,vs,e1,q.sq,t⟩
 |ref p=>
  have hv:v=.ref p:=h;unfold view at e;cases g:G p with
  |none=>simp only[g]at e;cases e
  |some o=>
   cases o with
   |lst xs=>
    simp only[g]at e;cases e;obtain ⟨vs,q,t⟩:=r.lst g;exact ⟨p,vs,hv,.inl (.inl q),t⟩
   |dct ks xs=>simp only[g]at e;cases e
 |_=>cases (show _=D.lst ds from e)
def fP{G:DH}{d:D}{ds:AS}(e:view G d=.tup ds):d=.tup ds:=by
 cases d with
 |ref p=>
  unfold view at e;cases g:G p with
  |none=>simp only[g]at e;cases e
  |some o=>cases o <;> (simp only[g]at e;cases e)
 |_=>exact e
def gm{G:DH}{d:D}{l:AA}(e:view G d=.str l):d=.str l:=by
 cases d with
 |ref p=>
  unfold view at e;cases g:G p with
  |none=>simp only[g]at e;cases e
  |some o=>cases o <;> (simp only[g]at e;cases e)
 |_=>exact e
def fQ{G:DH}{d:D}{l:Int}(e:view G d=.int l):d=.int l:=by
 cases d with
 |ref p=>
  unfold view at e;cases g:G p with
  |none=>simp only[g]at e;cases e
  |some o=>cases o <;> (simp only[g]at e;cases e)
 |_=>exact e
def Vx{G:DH}{d:D}{l:Bool}(e:view G d=.bl l):d=.bl l:=by
 cases d with
 |ref p=>
  unfold view at e;cases g:G p with
  |none=>simp only[g]at e;cases e
  |some o=>cases o <;> (simp only[g]at e;cases e)
 |_=>exact e
abbrev ak:=List (Option D)
def EnvR(K:PF)(H:Hp)(F:FZ):ak->L2.St->Prop
 |[],X=>X=[]
 |o::Y,X=>∃u τ,X=u::τ/\(∀d,o=some d->∃v,u=some v/\Rep K H F d v)/\EnvR K H F Y τ
section
variable {K:PF} {H H':Hp} {F F':FZ}
theorem EnvR.ext(x:Ext H F H' F'):∀{Y:ak}{X:L2.St},EnvR K H F Y X->EnvR K H' F' Y X
 |[],_,h=>h
 |_::_,_,⟨u,τ,e,h,t⟩=>⟨u,τ,e,λd q=>by obtain ⟨v,e1,r⟩:=h d q;exact ⟨v,e1,Rep.ext x r⟩,EnvR.ext x t⟩
theorem EnvR.get:∀{Y:ak}{X:L2.St}{i:Nat}{d:D},EnvR K H F Y X->Y[i]?=some (some d)->∃v,X[i]?=some (some v)/\Rep K H F d v
 |[],_,_,_,_,e=>by simp at e
 |_::_,_,0,d,⟨u,τ,e,h,t⟩,q=>by
  subst e;obtain ⟨v,e1,r⟩:=h d (!!q);exact ⟨v,by simp[e1],r⟩
 |_::_,_,i+1,d,⟨u,τ,e,h,t⟩,q=>by
  subst e;obtain ⟨v,e1,r⟩:=EnvR.get (i:=i) (d:=d) t (!!q);exact ⟨v,!!e1,r⟩
theorem EnvR.set{d:D}{v:V}(r:Rep K H F d v):∀{Y:ak}{X:L2.St}(i:Nat),EnvR K H F Y X->EnvR K H F (Y.set i (some d)) (X.set i (some v))
 |[],_,_,h=>by cases h;exact rfl
 |_::_,_,0,⟨u,τ,e,h,t⟩=>by subst e;exact ⟨_,_,rfl,λd' q=>⟨v,rfl,by cases q;exact r⟩,t⟩
 |_::_,_,i+1,⟨u,τ,e,h,t⟩=>by subst e;exact ⟨_,_,rfl,h,EnvR.set r i t⟩
theorem EnvR.none:∀(n:Nat),EnvR K H F (List.replicate n Option.none) (List.replicate n Option.none)
 |0=>rfl
 |n+1=>⟨_,_,rfl,λd q=>(nomatch q),EnvR.none n⟩
theorem EnvR.start:∀{ds:AS}{vs:AR}(n:Nat),Reps K H F ds vs->EnvR K H F (ds.map some++List.replicate n Option.none) (vs.map some++List.replicate n Option.none)
 |[],_,n,h=>by cases h;exact EnvR.none n
 |d::ds,_,n,⟨v,r,e,h,t⟩=>by
  subst e;exact ⟨_,_,rfl,λd' q=>⟨v,rfl,by cases q;exact h⟩,EnvR.start n t⟩
theorem EnvR.cap{Y:ak}{X:L2.St}(h:EnvR K H F Y X):∀(cap:List (Option Nat)),EnvR K H F (cap.map λo=>match o with |Option.none=>Option.none |some j=>(Y[j]?).join) (dI cap X)
 |[]=>rfl
 |Option.none::cap=>⟨_,_,rfl,λd q=>(nomatch q),EnvR.cap h cap⟩
 |some j::cap=>by
  refine ⟨_,_,rfl,λd q=>?_,EnvR.cap h cap⟩;have q':(Y[j]?).join=some d:=q;have z:Y[j]?=some (some d):=by
   cases e:Y[j]? with
   |none=>rw[e]at q';cases q'
   |some o=>rw[e]at q';exact eT some q'
  obtain ⟨v,e1,r⟩:=h.get z;exact ⟨v,by show (X[j]?).join=some v;rw[e1];rfl,r⟩
end
mutual
def deq:D->D->Bool
 |.non,.non=>true
 |.bl a,.bl b=>a==b
 |.bl a,.int b=>(if a then 1 else 0)==b
 |.int a,.bl b=>a==(if b then 1 else 0)
 |.int a,.int b=>a==b
 |.str a,.str b=>a==b
 |.tup a,.tup b=>cg a b
 |.lst a,.lst b=>cg a b
 |_,_=>false
def cg:AS->AS->Bool
 |[],[]=>true
 |a::as,b::bs=>deq a b&&cg as bs
 |_,_=>false
end
mutual
/-- no tracked object within -/
def nr:D->Bool
 |.tup a=>nrs a
 |.lst a=>nrs a
 |.ref _=>false
 |.scr _=>false
 |.exn _=>false
 |.exa _ _ _=>false
 |.obj _ _ _=>false
 |.dct _ _=>false
 |_=>true
def nrs:AS->Bool
 |[]=>true
 |a::as=>nr a&&nrs as
end
mutual
def dpt:D->Nat
 |.tup a=>bf a+1
 |.lst a=>bf a+1
 |_=>0
def bf:AS->Nat
 |[]=>0
 |a::as=>max (dpt a) (bf as)
end
def truth:D->Option Bool
 |.non=>some false
 |.bl b=>some b
 |.int i=>some (i != 0)
 |.str l=>some (!l.isEmpty)
 |.tup l=>some (!l.isEmpty)
 |.lst l=>some (!l.isEmpty)
 |_=>none
def cut{α:Type}(xs:List α)(lo hi:Option Int):List α:=(xs.drop (HT.sIx xs.length 0 lo)).take (HT.sIx xs.length xs.length hi - HT.sIx xs.length 0 lo)
def reps{α:Type}(xs:List α)(n:Nat):List α:=(List.replicate n xs).flatten
def mk(fz:Bool)(xs:AS)(G:DH)(k:AT):Prop:=
 match fz with
 |true=>k (.lst xs) G
 |false=>∀p,G p=none->k (.ref p) (aL G p (.lst xs))
def jo(fz:Bool)(a b:D)(G:DH)(k:AT):Prop:=
 match a with
 |.int i=>(match b with |.int j=>k (.int (i+j)) G |_=>False)
 |.str x=>(match b with |.str y=>x.length+y.length<=sz/\k (.str (x++y)) G |_=>False)
 |.lst x=>(match b with |.lst y=>x.length+y.length<=sz/\mk fz (x++y) G k |_=>False)
 |.tup x=>(match b with |.tup y=>x.length+y.length<=sz/\k (.tup (x++y)) G |_=>False)
 |_=>False
def gn(a b:D)(p:Int->Int->Prop):Prop:=
 match a with
 |.int i=>(match b with |.int j=>p i j |_=>False)
 |_=>False
def jq(fz:Bool)(a b:D)(G:DH)(k:AT):Prop:=
 match b with
 |.int n=>(match a with |.int i=>CMul i n/\k (.int (i * n)) G |.str x=>0<=n/\n<=1000/\x.length * n.toNat<=sz/\k (.str (reps x n.toNat)) G |_=>False)
 |_=>False
def cT(op:Operator)(fz:Bool)(a b:D)(G:DH)(k:AT):Prop:=
 match op with
 |.Add=>jo fz a b G k
 |.Sub=>gn a b λi j=>k (.int (i - j)) G
 |.Mult=>jq fz a b G k
 |.FloorDiv=>gn a b λi j=>(0 < j/\j < 1152921504606846976)/\k (.int (i / j)) G
 |.Mod=>gn a b λi j=>0 < j/\k (.int (i % j)) G
 |.Pow=>gn a b λi j=>qH i j/\k (.int (i ^ j.toNat)) G
 |_=>False
def aZ:AS->Option (List Int)
 |[]=>some []
 |.int b::r=>match aZ r with |some s=>some (b::s) |none=>none
 |_=>none
def kIx(ks:List (List Int))(n:List Int):Option Nat:=ks.findIdx? λk=>decide (k=n)
def bZ(d:D)(k:List Int->Prop):Prop:=match d with |.tup l=>(match aZ l with |some ns=>k ns |none=>False) |_=>False
def isE(d:D):Prop:=match d with |.lst []=>True |_=>False
def gr:AS->Option (List (List Int))
 |[]=>some []
 |.tup l::r=>match aZ l,gr r with |some k,some ks=>some (k::ks) |_,_=>none
 |_::_=>none
def gA(ks:List (List Int)):List (List Int):=ks.foldl (λacc k=>if k∈acc then acc else acc++[k]) []
def dcK(d:D)(k:List (List Int)->Prop):Prop:=match d with |.lst ds=>(match gr ds with |some ks=>ks.length < sz/\k ks |none=>False) |_=>False
def dput(ks:List (List Int))(ds:AS)(n:List Int)(x:D):DO:=match kIx ks n with |some i=>.dct ks (ds.set i x) |none=>.dct (ks++[n]) (ds++[x])
def isIn(x:D)(ys:AS):Bool:=ys.any λy=>deq y x
def De(a b:D):Prop:=nr a=true/\nr b=true/\min (dpt a) (dpt b)<=60
def inG(a:D)(l:AS):Prop:=nr a=true/\nrs l=true/\bf l<=60
def jr(a b:D)(k:Bool->Prop):Prop:=
 match a,b with
 |.int i,.int j=>k (decide (i < j))
 |.str i,.str j=>k (decide (i < j))
 |_,_=>False
def jt(a b:D)(k:Bool->Prop):Prop:=
 match a,b with
 |.int i,.int j=>k (decide (i<=j))
 |.str i,.str j=>k (!decide (j < i))
 |_,_=>False
def ju(a b:D)(k:Bool->Prop):Prop:=
 match a,b with
 |.int i,.int j=>k (decide (j < i))
 |_,_=>False
def jw(a b:D)(k:Bool->Prop):Prop:=
 match a,b with
 |.int i,.int j=>k (decide (j<=i))
 |_,_=>False
def vH(a:D):Bool:=match a with |.non=>true |_=>false
def jx(a b:D)(k:Bool->Prop):Prop:=
 match b with
 |.non=>k (vH a)
 |.bl b=>(match a with |.bl a=>k (a==b) |_=>False)
 |_=>False
def jy(a b:D)(k:Bool->Prop):Prop:=
 match b with
 |.non=>k (!vH a)
 |.bl b=>(match a with |.bl a=>k (a != b) |_=>False)
 |_=>False
def fU(a b:D)(k:Bool->Prop):Prop:=
 match b with
 |.str l=>(match a with |.str [c]=>k (l.contains c) |_=>False)
 |.lst l=>inG a l/\k (isIn a l)
 |.tup l=>inG a l/\k (isIn a l)
 |.dct ks _=>bZ a λn=>k (kIx ks n).isSome
 |_=>False
def aX(op:CmpOp)(a b:D)(k:Bool->Prop):Prop:=
 match op with
 |.Eq=>De a b/\k (deq a b)
 |.NotEq=>De a b/\k (!deq a b)
 |.Lt=>jr a b k
 |.LtE=>jt a b k
 |.Gt=>ju a b k
 |.GtE=>jw a b k
 |.Is=>jx a b k
 |.IsNot=>jy a b k
 |.In=>fU a b k
 |.NotIn=>fU a b λc=>k (!c)
def cN(a i:D)(k:D->Prop):Prop:=
 match a,i with
 |.lst ds,.int i=>match atI ds i with |some d=>k d |none=>False
 |.tup ds,.int i=>match atI ds i with |some d=>k d |none=>False
 |.str l,.int i=>match atI l i with |some c=>k (.str [c]) |none=>False
 |.dct ks ds,y=>bZ y λn=>match kIx ks n with |some i=>(match ds[i]? with |some d=>k d |none=>False) |none=>False
 |_,_=>False
def dW(fz:Bool)(a:D)(lo hi:Option Int)(G:DH)(k:AT):Prop:=
 match a with
 |.lst ds=>mk fz (cut ds lo hi) G k
 |.scr ns=>mk fz ((cut ns lo hi).map .int) G k
 |.tup ds=>k (.tup (cut ds lo hi)) G
 |.str l=>k (.str (cut l lo hi)) G
 |_=>False
def g8(fz:Bool)(a y:D)(G:DH)(k:AT):Prop:=
 match a with
 |.lst ds=>y=.int (-1)/\mk fz ds.reverse G k
 |.tup ds=>y=.int (-1)/\k (.tup ds.reverse) G
 |_=>False
def bools:AS->Option (List Bool)
 |[]=>some []
 |.bl b::r=>match bools r with |some s=>some (b::s) |none=>none
 |_=>none
def bw:AS->Option (List (AA))
 |[]=>some []
 |.str b::r=>match bw r with |some s=>some (b::s) |none=>none
 |_=>none
def dX(s:AA):List (AA)->AA
 |[]=>[]
 |[x]=>x
 |x::y::r=>x++s++dX s (y::r)
inductive Bf where
 |len |all |any |int |tuple |sum |min |max |str |abs |min2
inductive Lf where
 |list |sorted
inductive Mf where
 |join |append |extend |idxT |pop
def vI(as:AS)(k:D->Prop):Prop:=
 match as with
 |[.lst ds]=>k (.int ds.length)
 |[.tup ds]=>k (.int ds.length)
 |[.str l]=>k (.int l.length)
 |[.dct ks _]=>k (.int ks.length)
 |_=>False
def qT(as:AS)(k:D->Prop):Prop:=
 match as with
 |[.lst ds]=>match bools ds with |some bs=>k (.bl (bs.all id)) |none=>False
 |_=>False
def qU(as:AS)(k:D->Prop):Prop:=
 match as with
 |[.lst ds]=>match bools ds with |some bs=>k (.bl (bs.any id)) |none=>False
 |_=>False
def qW(as:AS)(k:D->Prop):Prop:=
 match as with
 |[.bl b]=>k (.int (if b then 1 else 0))
 |[.int i]=>k (.int i)
 |[.str l]=>match PySem.intText? (tx l) with |some n=>l.length<=640/\k (.int n) |none=>False
 |_=>False
def vJ(as:AS)(k:D->Prop):Prop:=
 match as with
 |[.lst ds]=>k (.tup ds)
 |[.tup ds]=>k (.tup ds)
 |_=>False
def vK(as:AS)(k:D->Prop):Prop:=
 match as with
 |[.lst ds]=>match aZ ds with |some ns=>k (.int ns.sum) |none=>False
 |_=>False
def lr(as:AS)(k:D->Prop):Prop:=
 match as with
 |[.lst ds]=>match aZ ds with
  |some ns=>ns≠[]/\∀m,m∈ns->(∀a,a∈ns->m<=a)->k (.int m)
  |none=>match bw ds with
   |some ls=>∀m,m∈ls->(∀a,a∈ls->¬a < m)->k (.str m)
   |none=>False
 |_=>False
def Df(as:AS)(k:D->Prop):Prop:=match as with
 |[.int a]=>k (.int (if a < 0 then -a else a))
 |_=>False
def Dg(as:AS)(k:D->Prop):Prop:=match as with
 |[.int a,.int b]=>k (.int (if b < a then b else a))
 |_=>False
def Dh(as:AS)(k:D->Prop):Prop:=
 match as with
 |[.int a,.int b]=>k (.int (if b > a then b else a))
 |_=>False
def gB(m:Nat):AA:=(vg m).cps.toList
def vL(as:AS)(k:D->Prop):Prop:=
 match as with
 |[.int i]=>(0<=i/\i < 100)/\k (.str (gB i.toNat))
 |_=>False
def opB:Bf->AS->(D->Prop)->Prop
 |.len=>vI
 |.all=>qT
 |.any=>qU
 |.int=>qW
 |.tuple=>vJ
 |.sum=>vK
 |.min=>lr
 |.max=>Dh
 |.abs=>Df
 |.min2=>Dg
 |.str=>vL
def vM(as:AS)(k:AS->Prop):Prop:=
 match as with
 |[.lst ds]=>k ds
 |[.tup ds]=>k ds
 |[.str l]=>k (l.map λc=>.str [c])
 |[.dct ks _]=>k (ks.map λn=>.tup (n.map .int))
 |_=>False
def lu(as:AS)(k:AS->Prop):Prop:=
 match as with
 |[.lst ds]=>match bw ds with |some ls=>ls.length < 64/\∀ls':List (AA),ls'.Perm ls->PyProof.Rows.sortedS (ls'.map tx)=true->k (ls'.map D.str) |none=>False
 |[.tup ds]=>match aZ ds with |some ns=>ns.length < 64/\∀ns':List Int,ns'.Perm ns->ns'.Pairwise (·<=·)->k (ns'.map D.int) |none=>False
 |_=>False
def putN(ks:List (AA))(k:AA):List (AA):=if k∈ks then ks else ks++[k]
def qX(ls:List (AA)):List (AA):=ls.foldl putN []
def lw(d:D)(k:AS->Prop):Prop:=
 match d with
 |.lst ds=>match bw ds with |some ls=>(ls.length<=1000/\(qX ls).length<=64)/\∀ls':List (AA),ls'.Perm (qX ls)->k (ls'.map D.str) |none=>False
 |_=>False
def cG:Lf->AS->(AS->Prop)->Prop
 |.list=>vM
 |.sorted=>lu
def isT(t:AL)(d:D):Option Bool:=
 match d with
 |.non=>some false
 |.bl _=>some (t=="bool"||t=="int")
 |.int _=>some (t=="int")
 |.str _=>some (t=="str")
 |.tup _=>some (t=="tuple")
 |.lst _=>some (t=="list")
 |_=>none
def fV (t:AL):Bool:=t=="bool"||t=="int"||t=="str"||t=="tuple"||t=="list"
def qY(o:D)(as:AS)(G:DH)(k:AT):Prop:=
 match o,as with
 |.str s,[.lst ds]=>match bw ds with |some ls=>((ls.map (·.length)).sum+ls.length * s.length<=sz)/\k (.str (dX s ls)) G |none=>False
 |_,_=>False
def qZ(o:D)(as:AS)(G:DH)(k:AT):Prop:=
 match o,as with
 |.ref p,[x]=>match G p with |some (.lst ds)=>ds.length < sz/\k .non (aL G p (.lst (ds++[x]))) |_=>False
 |_,_=>False
def q8(o:D)(as:AS)(G:DH)(k:AT):Prop:=
 match o,as with
 |.ref p,[.lst xs]=>match G p with |some (.lst ds)=>ds.length+xs.length < sz/\k .non (aL G p (.lst (ds++xs))) |_=>False
 |_,_=>False
def aij(o:D)(as:AS)(G:DH)(k:AT):Prop:=
 match o,as with
 |.ref p,[.int i,x]=>match G p with |some (.lst ds)=>ds.length < sz/\0<=i/\i<=1000000/\k .non (aL G p (.lst (ds.take i.toNat++x::ds.drop i.toNat))) |_=>False
 |_,_=>False
def rm(o:D)(as:AS)(G:DH)(k:AT):Prop:=
 match o,as with
 |.ref p,[.int i]=>match G p with |some (.lst ds)=>0<=i/\i<=1000000/\(match ds[i.toNat]? with |some y=>k y (aL G p (.lst (ds.eraseIdx i.toNat))) |none=>False) |_=>False
 |_,_=>False
def aik(o:D)(as:AS)(G:DH)(k:AT):Prop:=
 match o,as with
 |.lst ds,[.bl true]=>match bools ds with |some bs=>k (.int (bs.count true:Nat)) G |none=>False
 |_,_=>False
def ail(o:D)(as:AS)(G:DH)(k:AT):Prop:=
 match o,as with
 |.lst ds,[.bl true]=>match bools ds with |some bs=>true∈bs/\k (.int (bs.idxOf true:Nat)) G |none=>False
 |_,_=>False
def rn(o:D)(as:AS)(G:DH)(k:AT):Prop:=
 match o,as with
 |.tup ds,[.int i]=>match aZ ds with |some ns=>i∈ns/\k (.int (ns.idxOf i:Nat)) G |none=>False
 |_,_=>False
def aim(o:D)(as:AS)(G:DH)(k:AT):Prop:=
 match o,as with
 |.str l,[.str [c]]=>k (.int (-1)) G/\∀i:Nat,l[i]?=some c->k (.int (i:Int)) G
 |_,_=>False
def ain(o:D)(as:AS)(G:DH)(k:AT):Prop:=
 match o,as with
 |.str l,[.str [c]]=>(c < 256/\l.length+2<=sz)/\k (.lst ((qN c l).map .str)) G
 |_,_=>False
def Vy:D->Prop
 |.tup _=>True
 |_=>False
def Vz:D->Prop
 |.lst _=>True
 |_=>False
def recv(m:Mf)(o:D)(G:DH):Prop:=
 match m,o with
 |.join,.str _=>True
 |.append,.ref p=>match G p with |some (.lst _)=>True |_=>False
 |.extend,.ref p=>match G p with |some (.lst _)=>True |_=>False
 |.pop,.ref p=>match G p with |some (.lst _)=>True |_=>False
 |.idxT,o=>Vy o
 |_,_=>False
def opM:Mf->D->AS->DH->(AT)->Prop
 |.join,o,as,G,k=>qY o (as.map (view G)) G k
 |.append,o,as,G,k=>qZ o as G k
 |.extend,o,as,G,k=>q8 o (as.map (view G)) G k
 |.pop,o,as,G,k=>rm o as G k
 |.idxT,o,as,G,k=>rn o as G k
def gC (C C':AL):Bool:=C==C'||C'=="SieveError"||C'=="ValueError"
def vN(C:AL)(xs:List AL)(d:D)(k:Bool->Prop):Prop:=match d with
 |.exn c=>xs.contains c=true/\k (gC c C)
 |.exa c _ _=>xs.contains c=true/\k (gC c C)
 |.non=>k false
 |_=>False
def okA(d:D):Prop:=match d with
 |.int i=>0<=i/\i < 100
 |.str l=>l.length<=1000
 |_=>False
def Di(C f:AL)(d:D)(k:D->Prop):Prop:=match d with
 |.exa C' f' v=>C'=C/\f'=f/\k v
 |_=>False
mutual
inductive Tg where
 |nm (i:Nat)
 |tp (ts:Tgs)
inductive Tgs where
 |nil
 |cons (t:Tg) (r:Tgs)
end
mutual
inductive Ex where
 |var (i:Nat)
 |cst (d:D)
 |glb (x:AL) (d:D)
 |bin (op:Operator) (fz:Bool) (a b:Ex)
 |neg (a:Ex)
 |cmp (op:CmpOp) (a b:Ex)
 |chn (op op':CmpOp) (a b c:Ex)
 |not (a:Ex)
 |boo (isAnd:Bool) (e:Ex) (es:Exs)
 |ife (c:Tx) (a b:Ex)
 |tup (es:Exs)
 |lst (fz:Bool) (es:Exs)
 |idx (a i:Ex)
 |slc (fz:Bool) (a:Ex) (lo hi:Ox)
 |rvs (fz:Bool) (a s:Ex)
 |call (f:AL) (es:Exs)
 |bcl (f:Bf) (es:Exs)
 |lcl (fz:Bool) (f:Lf) (es:Exs)
 |isi (a:Ex) (t:AL)
 |rgl (fz:Bool) (a:Ex)
 |rgt (a:Ex)
 |mth (m:Mf) (o:Ex) (es:Exs)
 |comp (fz:Bool) (elt:Ex) (tg:Tg) (it:It') (cond:Tx) (N:List AL) (cap:List (Option Nat))
 |frz (a:Ex)
 |dnw
 |dp1 (a b:Ex)
 |dcT (a:Ex)
 |cm2 (elt:Ex) (t1:Tg) (i1:It') (t2:Tg) (i2:It') (cond:Tx) (N:List AL) (cap:List (Option Nat))
inductive Exs where
 |nil
 |cons (e:Ex) (es:Exs)
/-- a test -/
inductive Tx where
 |val (e:Ex)
 |not (t:Tx)
 |boo (isAnd:Bool) (t:Tx) (ts:Txs)
 |yes
inductive Txs where
 |nil
 |cons (t:Tx) (ts:Txs)
/-- a bound of a slice -/
inductive Ox where
 |no
 |ob (e:Ex)
/-- what a loop walks -/
inductive It' where
 |seq (e:Ex)
 |rng (a:Ex)
 |enm (e:Ex)
 |zip (a b:Ex)
end
mutual
inductive Sx where
 |exp (e:Ex)
 |asg (t:Tg) (e:Ex)
 |set (o i e:Ex)
 |aug (i:Nat) (op:Operator) (e:Ex)
 |ret (e:Ex)
 |rtn
 |ite (c:Tx) (a b:Sxs)
 |for_ (t:Tg) (it:It') (body:Sxs)
 |whl (c:Tx) (body:Sxs)
 |pas
 |brk
 |cnt
 |nev
inductive Sxs where
 |nil
 |cons (s:Sx) (r:Sxs)
end
structure Xn where
 cls:AL
 fld:D
structure Spec where
 A:Type
 pre:AS->DH->A->Prop
 post:A->D->DH->Prop
 exc:A->Xn->DH->Prop
abbrev EK:=Xn->DH->Prop
def Spec.t(S:Spec)(ds:AS)(G:DH)(Q:AT)(E:EK):Prop:=
 ∃a,S.pre ds G a/\(∀d G',S.post a d G'->Q d G')/\∀x G',S.exc a x G'->E x G'
def Spec.mono{S:Spec}{ds:AS}{G:DH}{Q Q':AT}{E E':EK}(h:S.t ds G Q E)(hq:∀d G',Q d G'->Q' d G')(he:∀x G',E x G'->E' x G'):S.t ds G Q' E':=by obtain ⟨a,h1,h2,h3⟩:=h;exact ⟨a,h1,λd G' q=>hq _ _ (h2 d G' q),λx G' q=>he _ _ (h3 x G' q)⟩
abbrev aj:=AL->Spec
def aio(C f:AL)(d:D)(k:AQ->Prop):Prop:=match d with |.obj C' f' q=>C'=C/\f'=f/\k q |_=>False
def aip(C m:AL)(d:D):Prop:=match d with |.obj C' f' _=>C'=C/\(⇑m==⇑f')=false |_=>False
def aiq(d:D)(G:DH)(k:AT):Prop:=match d with |.ref p=>(match G p with |some (.lst ds)=>(match ds[ds.length - 1]? with |some y=>k y (aL G p (.lst ds.dropLast)) |none=>False) |_=>False) |_=>False
def air(d:D)(k:AA->Prop):Prop:=match d with |.str l=>l.length<=1000/\k l |_=>False
def ais(i:D)(l:AA)(k:AA->Prop):Prop:=match i with |.int n=>(match atI [48,49] n with |some c=>k (l.map λa=>if a=42 then c else a) |none=>False) |_=>False
def VB(i j:Nat)(d:D)(Y:ak)(G:DH)(k:ak->DH->Prop):Prop:=
 match d with
 |.lst ds=>ds≠[]/\∀xs y,ds=xs++[y]->k ((Y.set i (some (.lst xs))).set j (some y)) G
 |_=>False
mutual
def aU:Tg->D->ak->DH->(ak->Prop)->Prop
 |.nm i,d,Y,_,k=>k (Y.set i (some d))
 |.tp ts,d,Y,G,k=>match d with |.tup ds=>bQ ts ds Y G k |.lst ds=>bQ ts ds Y G k |_=>False
def bQ:Tgs->AS->ak->DH->(ak->Prop)->Prop
 |.nil,ds,Y,_,k=>match ds with |[]=>k Y |_=>False
 |.cons t r,ds,Y,G,k=>match ds with |d::ds=>aU t d Y G (λρ'=>bQ r ds ρ' G k) |[]=>False
end
abbrev Hld:=List (AQ×AS)
def held:Hld->DH->Prop
 |[],_=>True
 | (a,ds)::r,G=>G a=some (.lst ds)/\held r G
def compLoop(step:D->ak->DH->(Option D->ak->DH->Prop)->Prop)(g:Hld):AS->AS->ak->DH->(AS->DH->Prop)->Prop
 |[],acc,_,G,k=>held g G/\acc.length<=sz/\k acc G
 |d::ds,acc,Y,G,k=>held g G/\acc.length < sz/\step d Y G (λo ρ' G'=>match o with |some y=>compLoop step g ds (acc++[y]) ρ' G' k |none=>compLoop step g ds acc ρ' G' k)
def dY(step:D->AS->ak->DH->(AS->ak->DH->Prop)->Prop)(g:Hld):AS->AS->ak->DH->(AS->ak->DH->Prop)->Prop
 |[],acc,Y,G,k=>held g G/\k acc Y G
 |d::ds,acc,Y,G,k=>held g G/\step d acc Y G (λacc' ρ' G'=>dY step g ds acc' ρ' G' k)
def dJ:Nat->AS->AS
 |_,[]=>[]
 |i,d::ds=>.tup [.int i,d]::dJ (i+1) ds
def cj:AS->AS->AS
 |a::as,b::bs=>.tup [a,b]::cj as bs
 |_,_=>[]
def itemsOf(G:DH):D->Option (AS×Hld)
 |.lst ds=>some (ds,[])
 |.tup ds=>some (ds,[])
 |.str l=>some (l.map λc=>.str [c],[])
 |.ref p=>match G p with |some (.lst ds)=>some (ds,[(p,ds)]) |_=>none
 |_=>none
def aR(lo:Int)(n:Nat):AS:=(List.range n).map λi=>.int (lo+(i:Nat))
def ait(lo:Int)(n:Nat):AS:=(List.range n).map λi=>.int (lo - (i:Nat))
def noE:EK:=λ_ _=>False
def jz:Exs->Prop->Prop
 |.nil,P=>P
 |.cons _ _,_=>False
mutual
def wpE(Z:aj):Ex->EK->ak->DH->(AT)->Prop
 |.var i,_,Y,G,k=>match Y[i]? with |some (some d)=>k d G |_=>False
 |.cst d,_,_,G,k=>k d G
 |.glb _ d,_,_,G,k=>k d G
 |.bin op fz a b,E,Y,G,k=>wpE Z a E Y G λx G1=>wpE Z b E Y G1 λy G2=>cT op fz (view G2 x) (view G2 y) G2 k
 |.neg a,E,Y,G,k=>wpE Z a E Y G λx G1=>match x with |.int i=>k (.int (-i)) G1 |_=>False
 |.cmp op a b,E,Y,G,k=>wpE Z a E Y G λx G1=>wpE Z b E Y G1 λy G2=>aX op (view G2 x) (view G2 y) λc=>k (.bl c) G2
 |.chn op op' a b c,E,Y,G,k=>wpE Z a E Y G λx G1=>wpE Z b E Y G1 λy G2=>aX op (view G2 x) (view G2 y) λt=>
   match t with
   |true=>wpE Z c E Y G2 λz G3=>aX op' (view G3 y) (view G3 z) λt'=>k (.bl t') G3
   |false=>k (.bl false) G2
 |.not a,E,Y,G,k=>wpE Z a E Y G λx G1=>match truth (view G1 x) with |some b=>k (.bl (!b)) G1 |none=>False
 |.boo isAnd e es,E,Y,G,k=>wpE Z e E Y G λd G1=>match d with |.bl b=>wpB Z es isAnd b E Y G1 k |_=>False
 |.ife c a b,E,Y,G,k=>wpT Z c E Y G λt G1=>match t with |true=>wpE Z a E Y G1 k |false=>wpE Z b E Y G1 k
 |.tup es,E,Y,G,k=>bj Z es E Y G λds G1=>ds.length<=sz/\k (.tup ds) G1
 |.lst fz es,E,Y,G,k=>bj Z es E Y G λds G1=>ds.length<=sz/\mk fz ds G1 k
 |.idx a i,E,Y,G,k=>wpE Z a E Y G λx G1=>wpE Z i E Y G1 λy G2=>cN (view G2 x) y λd=>k d G2
 |.slc fz a lo hi,E,Y,G,k=>wpE Z a E Y G λx G1=>wpO Z lo E Y G1 λl G2=>wpO Z hi E Y G2 λh G3=>dW fz (view G3 x) l h G3 k
 |.rvs fz a s,E,Y,G,k=>wpE Z a E Y G λx G1=>wpE Z s E Y G1 λy G2=>g8 fz (view G2 x) y G2 k
 |.call f es,E,Y,G,k=>bj Z es E Y G λds G1=>(Z f).t ds G1 k E
 |.bcl f es,E,Y,G,k=>bj Z es E Y G λds G1=>opB f (ds.map (view G1)) λd=>k d G1
 |.lcl fz f es,E,Y,G,k=>bj Z es E Y G λds G1=>cG f (ds.map (view G1)) λxs=>mk fz xs G1 k
 |.isi a t,E,Y,G,k=>wpE Z a E Y G λx G1=>match isT t (view G1 x) with |some b=>k (.bl b) G1 |none=>False
 |.rgl fz a,E,Y,G,k=>wpE Z a E Y G λd G1=>match d with |.int n=>(0<=n/\n<=1000)/\mk fz (aR 0 n.toNat) G1 k |_=>False
 |.rgt a,E,Y,G,k=>wpE Z a E Y G λd G1=>match d with |.int n=>(0<=n/\n<=1000)/\k (.tup (aR 0 n.toNat)) G1 |_=>False
 |.mth m o es,E,Y,G,k=>wpE Z o E Y G λx G1=>recv m x G1/\bj Z es E Y G1 λds G2=>opM m x ds G2 k
 |.comp fz elt tg it cond _ cap,E,Y,G,k=>wpI Z it E Y G λitems g G1=>
   compLoop (λd ρ' G' k'=>aU tg d ρ' G' λρ1=>wpT Z cond noE ρ1 G' λb G2=>match b with |true=>wpE Z elt noE ρ1 G2 λy G3=>k' (some y) ρ1 G3 |false=>k' none ρ1 G2)
    g items [] (cap.map λo=>match o with |none=>none |some j=>(Y[j]?).join) G1 λds G2=>mk fz ds G2 k
 |.frz a,E,Y,G,k=>wpE Z a E Y G λx G1=>match x with |.ref p=>(match G1 p with |some (.lst ds)=>k (.lst ds) (gk G1 p) |_=>False) |d=>k d G1
 |.dnw,_,_,G,k=>∀p,G p=none->k (.ref p) (aL G p (.dct [] []))
 |.dcT a,E,Y,G,k=>wpE Z a E Y G λx G1=>dcK (view G1 x) λks=>∀p,G1 p=none->k (.ref p) (aL G1 p (.dct (gA ks) (List.replicate (gA ks).length (.bl true))))
 |.cm2 elt t1 i1 t2 i2 cond _ cap,E,Y,G,k=>wpI Z i1 E Y G λitems g G1=>dY (λd acc ρ' G' k1=>aU t1 d ρ' G' λρ1=>wpI Z i2 noE ρ1 G' λitems2 g2 G2=>dY (λd acc ρ' G' k2=>aU t2 d ρ' G' λρ1=>acc.length < sz/\wpT Z cond noE ρ1 G' λb G3=>match b with |true=>wpE Z elt noE ρ1 G3 λy G4=>k2 (acc++[y]) ρ1 G4 |false=>k2 acc ρ1 G3) g2 items2 acc ρ1 G2 k1) g items [] (cap.map λo=>match o with |none=>none |some j=>(Y[j]?).join) G1 λds _ G2=>ds.length<=sz/\mk true ds G2 k
 |.dp1 a b,E,Y,G,k=>wpE Z a E Y G λx G1=>wpE Z b E Y G1 λy G2=>bZ x λn=>∀p,G2 p=none->k (.ref p) (aL G2 p (.dct [n] [y]))
/-- a test -/
def wpT(Z:aj):Tx->EK->ak->DH->(Bool->DH->Prop)->Prop
 |.not a,E,Y,G,k=>wpT Z a E Y G λb G1=>k (!b) G1
 |.boo isAnd e es,E,Y,G,k=>wpT Z e E Y G λb G1=>fW Z es isAnd b E Y G1 k
 |.yes,_,_,G,k=>k true G
 |.val x,E,Y,G,k=>wpE Z x E Y G λd G1=>match truth (view G1 d) with |some b=>k b G1 |none=>False
def wpF(Z:aj):Exs->EK->ak->DH->(AA->DH->Prop)->Prop
 |.nil,_,_,G,k=>k [] G
 |.cons e es,E,Y,G,k=>wpE Z e E Y G λd G1=>match d with
  |.str l=>l.length<=1000/\wpF Z es E Y G1 λx G2=>k (l++x) G2
  |.int i=>(0<=i/\i < 100)/\wpF Z es E Y G1 λx G2=>k (gB i.toNat++x) G2
  |_=>False
def bj(Z:aj):Exs->EK->ak->DH->(AS->DH->Prop)->Prop
 |.nil,_,_,G,k=>k [] G
 |.cons e es,E,Y,G,k=>wpE Z e E Y G λd G1=>bj Z es E Y G1 λds G2=>k (d::ds) G2
/-- and,or as values:truths,the last one anything;b:the one ahead -/
def wpB(Z:aj):Exs->Bool->Bool->EK->ak->DH->(AT)->Prop
 |.nil,_,b,_,_,G,k=>k (.bl b) G
 |.cons e es,isAnd,b,E,Y,G,k=>match isAnd,b with
  |true,false=>k (.bl false) G
  |false,true=>k (.bl true) G
  |_,_=>wpE Z e E Y G λd G1=>match d with |.bl b'=>wpB Z es isAnd b' E Y G1 k |d=>jz es (k d G1)
def fW(Z:aj):Txs->Bool->Bool->EK->ak->DH->(Bool->DH->Prop)->Prop
 |.nil,_,b,_,_,G,k=>k b G
 |.cons e es,isAnd,b,E,Y,G,k=>match isAnd,b with
  |true,false=>k false G
  |false,true=>k true G
  |_,_=>wpT Z e E Y G λb' G1=>fW Z es isAnd b' E Y G1 k
/-- a bound of a slice -/
def wpO(Z:aj):Ox->EK->ak->DH->(Option Int->DH->Prop)->Prop
 |.no,_,_,G,k=>k none G
 |.ob x,E,Y,G,k=>wpE Z x E Y G λd G1=>match d with |.int i=>k (some i) G1 |_=>False
def wpI(Z:aj):It'->EK->ak->DH->(AS->Hld->DH->Prop)->Prop
 |.seq e,E,Y,G,k=>wpE Z e E Y G λd G1=>match itemsOf G1 d with |some ds=>k ds.1 ds.2 G1 |none=>False
 |.rng a,E,Y,G,k=>wpE Z a E Y G λd G1=>match d with |.int n=>(-(2 ^ 62)<=n/\n < 2 ^ 62)/\k (aR 0 n.toNat) [] G1 |_=>False
 |.enm e,E,Y,G,k=>wpE Z e E Y G λd G1=>match itemsOf G1 d with |some ds=>k (dJ 0 ds.1) ds.2 G1 |none=>False
 |.zip a b,E,Y,G,k=>wpE Z a E Y G λx G1=>wpE Z b E Y G1 λy G2=>match itemsOf G2 x,itemsOf G2 y with |some ds,some es=>k (cj ds.1 es.1) (ds.2++es.2) G2 |_,_=>False
end
structure En where
 nx:ak->DH->Prop
 rt:D->DH->Prop
 bk:ak->DH->Prop
 ct:ak->DH->Prop
def forLoop(step:D->ak->DH->(ak->DH->Prop)->Prop)(g:Hld):AS->ak->DH->(ak->DH->Prop)->Prop
 |[],Y,G,k=>held g G/\k Y G
 |d::ds,Y,G,k=>held g G/\step d Y G λρ' G'=>forLoop step g ds ρ' G' k
def whileLoop(test:ak->DH->(Bool->DH->Prop)->Prop)(body:ak->DH->(ak->DH->Prop)->Prop):Nat->ak->DH->(ak->DH->Prop)->Prop
 |0,_,_,_=>False
 |n+1,Y,G,k=>test Y G λb G1=>match b with |true=>body Y G1 λρ' G'=>whileLoop test body n ρ' G' k |false=>k Y G1
def dM(o i x:D)(G:DH)(k:DH->Prop):Prop:=
 match o with
 |.ref p=>match G p with
  |some (.lst ds)=>(match i with |.int i=>(match ixN ds.length i with |some j=>k (aL G p (.lst (ds.set j x))) |none=>False) |_=>False)
  |some (.dct ks ds)=>bZ i λn=>ks.length < sz/\k (aL G p (dput ks ds n x))
  |none=>False
 |_=>False
def eV(op:Operator)(a b:D)(k:D->Prop):Prop:=
 match op,a,b with
 |.Add,.int i,.int j=>k (.int (i+j))
 |.Add,.str x,.str y=>x.length+y.length<=sz/\k (.str (x++y))
 |.Sub,.int i,.int j=>k (.int (i - j))
 |_,_,_=>False
def Dj:D->Bool
 |.int i=>decide (0<=i)&&decide (i < 100)
 |_=>false
def wpM(Z:aj):Exs->EK->ak->DH->(DH->Prop)->Prop
 |.nil,_,_,G,k=>k G
 |.cons e es,E,Y,G,k=>wpE Z e E Y G λd G1=>Dj d=true/\wpM Z es E Y G1 k
mutual
def wpS(Z:aj):Sx->EK->ak->DH->En->Prop
 |.exp e,E,Y,G,D=>wpE Z e E Y G λ_ G1=>D.nx Y G1
 |.asg t e,E,Y,G,D=>wpE Z e E Y G λd G1=>aU t d Y G1 λρ'=>D.nx ρ' G1
 |.set o i e,E,Y,G,D=>wpE Z e E Y G λx G1=>wpE Z o E Y G1 λa G2=>wpE Z i E Y G2 λy G3=>dM a y x G3 λG4=>D.nx Y G4
 |.aug i op e,E,Y,G,D=>match Y[i]? with
  |some (some a)=>wpE Z e E Y G λb G1=>eV op a b λc=>D.nx (Y.set i (some c)) G1
  |_=>False
 |.ret e,E,Y,G,D=>wpE Z e E Y G D.rt
 |.rtn,_,_,G,D=>D.rt .non G
 |.ite c a b,E,Y,G,D=>wpT Z c E Y G λt G1=>match t with |true=>az Z a E Y G1 D |false=>az Z b E Y G1 D
 |.for_ t it body,E,Y,G,D=>wpI Z it E Y G λitems g G1=>
   forLoop (λd ρ' G' k=>aU t d ρ' G' λρ1=>az Z body E ρ1 G' { D with nx:=k,ct:=k,bk:=D.nx }) g items Y G1 D.nx
 |.whl c body,E,Y,G,D=>∃n,whileLoop (λρ' G' k=>wpT Z c E ρ' G' k) (λρ' G' k=>az Z body E ρ' G' { D with nx:=k,ct:=k,bk:=D.nx }) n Y G D.nx
 |.pas,_,Y,G,D=>D.nx Y G
 |.brk,_,Y,G,D=>D.bk Y G
 |.cnt,_,Y,G,D=>D.ct Y G
 |.nev,_,_,_,_=>False
def az(Z:aj):Sxs->EK->ak->DH->En->Prop
 |.nil,_,Y,G,D=>D.nx Y G
 |.cons s r,E,Y,G,D=>wpS Z s E Y G { D with nx:=λρ' G'=>az Z r E ρ' G' D }
end
theorem vO{Z:aj}{a}{E}{Y}{G}{k}:wpT Z (.not a) E Y G k=(wpT Z a E Y G λb G1=>k (!b) G1):=rfl
theorem vP{Z:aj}{isAnd}{e}{es}{E}{Y}{G}{k}:wpT Z (.boo isAnd e es) E Y G k=(wpT Z e E Y G λb G1=>fW Z es isAnd b E Y G1 k):=rfl
theorem vQ{Z:aj}{E}{Y}{G}{k}:wpT Z .yes E Y G k=(k true G):=rfl
theorem lz{Z:aj}{x}{E}{Y}{G}{k}:wpT Z (.val x) E Y G k=(wpE Z x E Y G λd G1=>match truth (view G1 d) with |some b=>k b G1 |none=>False):=rfl
theorem jA{Z:aj}{E}{Y}{G}{k}:bj Z .nil E Y G k=(k [] G):=rfl
theorem ie{Z:aj}{e}{es}{E}{Y}{G}{k}:bj Z (.cons e es) E Y G k=(wpE Z e E Y G λd G1=>bj Z es E Y G1 λds G2=>k (d::ds) G2):=rfl
theorem vR{Z:aj}{isAnd:Bool}{b:Bool}{E}{Y}{G}{k}:wpB Z .nil isAnd b E Y G k=(k (.bl b) G):=rfl
theorem rA{Z:aj}{e}{es}{isAnd:Bool}{b:Bool}{E}{Y}{G}{k}:wpB Z (.cons e es) isAnd b E Y G k=(match isAnd,b with
  |true,false=>k (.bl false) G
  |false,true=>k (.bl true) G
  |_,_=>wpE Z e E Y G λd G1=>match d with |.bl b'=>wpB Z es isAnd b' E Y G1 k |d=>jz es (k d G1)):=rfl
theorem VD{P:Prop}:jz .nil P=P:=rfl
theorem vU{Z:aj}{isAnd:Bool}{b:Bool}{E}{Y}{G}{k}:fW Z .nil isAnd b E Y G k=(k b G):=rfl
theorem rB{Z:aj}{e}{es}{isAnd:Bool}{b:Bool}{E}{Y}{G}{k}:fW Z (.cons e es) isAnd b E Y G k=(match isAnd,b with
  |true,false=>k false G
  |false,true=>k true G
  |_,_=>wpT Z e E Y G λb' G1=>fW Z es isAnd b' E Y G1 k):=rfl
theorem vV{Z:aj}{E}{Y}{G}{k}:wpO Z .no E Y G k=(k none G):=rfl
theorem vW{Z:aj}{x}{E}{Y}{G}{k}:wpO Z (.ob x) E Y G k=(wpE Z x E Y G λd G1=>match d with |.int i=>k (some i) G1 |_=>False):=rfl
theorem vX{Z:aj}{e}{E}{Y}{G}{k}:wpI Z (.seq e) E Y G k=(wpE Z e E Y G λd G1=>match itemsOf G1 d with |some ds=>k ds.1 ds.2 G1 |none=>False):=rfl
theorem vY{Z:aj}{a}{E}{Y}{G}{k}:wpI Z (.rng a) E Y G k=(wpE Z a E Y G λd G1=>match d with |.int n=>(-(2 ^ 62)<=n/\n < 2 ^ 62)/\k (aR 0 n.toNat) [] G1 |_=>False):=rfl
theorem vZ{Z:aj}{e}{E}{Y}{G}{k}:wpI Z (.enm e) E Y G k=(wpE Z e E Y G λd G1=>match itemsOf G1 d with |some ds=>k (dJ 0 ds.1) ds.2 G1 |none=>False):=rfl
theorem v6{Z:aj}{a}{b}{E}{Y}{G}{k}:wpI Z (.zip a b) E Y G k=(wpE Z a E Y G λx G1=>wpE Z b E Y G1 λy G2=>match itemsOf G2 x,itemsOf G2 y with |some ds,some es=>k (cj ds.1 es.1) (ds.2++es.2) G2 |_,_=>False):=rfl
theorem lA{Z:aj}{E}{Y}{G}{D}:az Z .nil E Y G D=(D.nx Y G):=rfl
theorem lB{Z:aj}{s}{r}{E}{Y}{G}{D}:az Z (.cons s r) E Y G D=(wpS Z s E Y G { D with nx:=λρ' G'=>az Z r E ρ' G' D }):=rfl
theorem v7{Z:aj}{i E Y G k}:wpE Z (.var i) E Y G k=(match Y[i]? with |some (some d)=>k d G |_=>False):=rfl
theorem jB{Z:aj}{d E Y G k}:wpE Z (.cst d) E Y G k=(k d G):=rfl
theorem v8{Z:aj}{u0 d E Y G k}:wpE Z (.glb u0 d) E Y G k=(k d G):=rfl
theorem v9{Z:aj}{op fz a b E Y G k}:wpE Z (.bin op fz a b) E Y G k=(wpE Z a E Y G λx G1=>wpE Z b E Y G1 λy G2=>cT op fz (view G2 x) (view G2 y) G2 k):=rfl
theorem wj{Z:aj}{a E Y G k}:wpE Z (.neg a) E Y G k=(wpE Z a E Y G λx G1=>match x with |.int i=>k (.int (-i)) G1 |_=>False):=rfl
theorem rD{Z:aj}{op a b E Y G k}:wpE Z (.cmp op a b) E Y G k=(wpE Z a E Y G λx G1=>wpE Z b E Y G1 λy G2=>aX op (view G2 x) (view G2 y) λc=>k (.bl c) G2):=rfl
theorem rE{Z:aj}{op op' a b c E Y G k}:wpE Z (.chn op op' a b c) E Y G k=(wpE Z a E Y G λx G1=>wpE Z b E Y G1 λy G2=>aX op (view G2 x) (view G2 y) λt=>
   match t with
   |true=>wpE Z c E Y G2 λz G3=>aX op' (view G3 y) (view G3 z) λt'=>k (.bl t') G3
   |false=>k (.bl false) G2):=rfl
theorem wk{Z:aj}{a E Y G k}:wpE Z (.not a) E Y G k=(wpE Z a E Y G λx G1=>match truth (view G1 x) with |some b=>k (.bl (!b)) G1 |none=>False):=rfl
theorem wu{Z:aj}{isAnd e es E Y G k}:wpE Z (.boo isAnd e es) E Y G k=(wpE Z e E Y G λd G1=>match d with |.bl b=>wpB Z es isAnd b E Y G1 k |_=>False):=rfl
theorem ww{Z:aj}{c a b E Y G k}:wpE Z (.ife c a b) E Y G k=(wpT Z c E Y G λt G1=>match t with |true=>wpE Z a E Y G1 k |false=>wpE Z b E Y G1 k):=rfl
theorem wy{Z:aj}{es E Y G k}:wpE Z (.tup es) E Y G k=(bj Z es E Y G λds G1=>ds.length<=sz/\k (.tup ds) G1):=rfl
theorem wz{Z:aj}{fz es E Y G k}:wpE Z (.lst fz es) E Y G k=(bj Z es E Y G λds G1=>ds.length<=sz/\mk fz ds G1 k):=rfl
theorem wA{Z:aj}{a i E Y G k}:wpE Z (.idx a i) E Y G k=(wpE Z a E Y G λx G1=>wpE Z i E Y G1 λy G2=>cN (view G2 x) y λd=>k d G2):=rfl
theorem wB{Z:aj}{fz a s E Y G k}:wpE Z (.rvs fz a s) E Y G k=(wpE Z a E Y G λx G1=>wpE Z s E Y G1 λy G2=>g8 fz (view G2 x) y G2 k):=rfl
theorem wC{Z:aj}{fz a lo hi E Y G k}:wpE Z (.slc fz a lo hi) E Y G k=(wpE Z a E Y G λx G1=>wpO Z lo E Y G1 λl G2=>wpO Z hi E Y G2 λh G3=>dW fz (view G3 x) l h G3 k):=rfl
theorem wD{Z:aj}{f es E Y G k}:wpE Z (.call f es) E Y G k=(bj Z es E Y G λds G1=>(Z f).t ds G1 k E):=rfl
theorem wF{Z:aj}{f es E Y G k}:wpE Z (.bcl f es) E Y G k=(bj Z es E Y G λds G1=>opB f (ds.map (view G1)) λd=>k d G1):=rfl
theorem wG{Z:aj}{fz f es E Y G k}:wpE Z (.lcl fz f es) E Y G k=(bj Z es E Y G λds G1=>cG f (ds.map (view G1)) λxs=>mk fz xs G1 k):=rfl
theorem wH{Z:aj}{a t E Y G k}:wpE Z (.isi a t) E Y G k=(wpE Z a E Y G λx G1=>match isT t (view G1 x) with |some b=>k (.bl b) G1 |none=>False):=rfl
theorem wI{Z:aj}{fz a E Y G k}:wpE Z (.rgl fz a) E Y G k=(wpE Z a E Y G λd G1=>match d with |.int n=>(0<=n/\n<=1000)/\mk fz (aR 0 n.toNat) G1 k |_=>False):=rfl
theorem wJ{Z:aj}{a E Y G k}:wpE Z (.rgt a) E Y G k=(wpE Z a E Y G λd G1=>match d with |.int n=>(0<=n/\n<=1000)/\k (.tup (aR 0 n.toNat)) G1 |_=>False):=rfl
theorem Dk{Z:aj}{E Y G k}:wpF Z .nil E Y G k=k [] G:=rfl
theorem Dl{Z:aj}{e es E Y G k}:wpF Z (.cons e es) E Y G k=(wpE Z e E Y G λd G1=>match d with
  |.str l=>l.length<=1000/\wpF Z es E Y G1 λx G2=>k (l++x) G2
  |.int i=>(0<=i/\i < 100)/\wpF Z es E Y G1 λx G2=>k (gB i.toNat++x) G2
  |_=>False):=rfl
theorem ig{Z:aj}{m o es E Y G k}:wpE Z (.mth m o es) E Y G k=(wpE Z o E Y G λx G1=>recv m x G1/\bj Z es E Y G1 λds G2=>opM m x ds G2 k):=rfl
theorem wK{Z:aj}{a E Y G k}:wpE Z (.frz a) E Y G k=(wpE Z a E Y G λx G1=>match x with |.ref p=>(match G1 p with |some (.lst ds)=>k (.lst ds) (gk G1 p) |_=>False) |d=>k d G1):=rfl
theorem wL{Z:aj}{E Y G k}:wpE Z .dnw E Y G k=(∀p,G p=none->k (.ref p) (aL G p (.dct [] []))):=rfl
theorem rF{Z:aj}{a E Y G k}:wpE Z (.dcT a) E Y G k=(wpE Z a E Y G λx G1=>dcK (view G1 x) λks=>∀p,G1 p=none->k (.ref p) (aL G1 p (.dct (gA ks) (List.replicate (gA ks).length (.bl true))))):=rfl
theorem wM{Z:aj}{elt t1 i1 t2 i2 cond N cap E Y G k}:wpE Z (.cm2 elt t1 i1 t2 i2 cond N cap) E Y G k=(wpI Z i1 E Y G λitems g G1=>dY (λd acc ρ' G' k1=>aU t1 d ρ' G' λρ1=>wpI Z i2 noE ρ1 G' λitems2 g2 G2=>dY (λd acc ρ' G' k2=>aU t2 d ρ' G' λρ1=>acc.length < sz/\wpT Z cond noE ρ1 G' λb G3=>match b with |true=>wpE Z elt noE ρ1 G3 λy G4=>k2 (acc++[y]) ρ1 G4 |false=>k2 acc ρ1 G3) g2 items2 acc ρ1 G2 k1) g items [] (cap.map λo=>match o with |none=>none |some j=>(Y[j]?).join) G1 λds _ G2=>ds.length<=sz/\mk true ds G2 k):=rfl
theorem wN{Z:aj}{a b E Y G k}:wpE Z (.dp1 a b) E Y G k=(wpE Z a E Y G λx G1=>wpE Z b E Y G1 λy G2=>bZ x λn=>∀p,G2 p=none->k (.ref p) (aL G2 p (.dct [n] [y]))):=rfl
theorem wO{Z:aj}{e E Y G D}:wpS Z (.exp e) E Y G D=(wpE Z e E Y G λ_ G1=>D.nx Y G1):=rfl
theorem ik{Z:aj}{t e E Y G D}:wpS Z (.asg t e) E Y G D=(wpE Z e E Y G λd G1=>aU t d Y G1 λρ'=>D.nx ρ' G1):=rfl
theorem wQ{Z:aj}{o i e E Y G D}:wpS Z (.set o i e) E Y G D=(wpE Z e E Y G λx G1=>wpE Z o E Y G1 λa G2=>wpE Z i E Y G2 λy G3=>dM a y x G3 λG4=>D.nx Y G4):=rfl
theorem wR{Z:aj}{i op e E Y G D}:wpS Z (.aug i op e) E Y G D=(match Y[i]? with
  |some (some a)=>wpE Z e E Y G λb G1=>eV op a b λc=>D.nx (Y.set i (some c)) G1
  |_=>False):=rfl
theorem wU{Z:aj}{e E Y G D}:wpS Z (.ret e) E Y G D=(wpE Z e E Y G D.rt):=rfl
theorem wV{Z:aj}{E Y G D}:wpS Z .rtn E Y G D=(D.rt .non G):=rfl
theorem wW{Z:aj}{c a b E Y G D}:wpS Z (.ite c a b) E Y G D=(wpT Z c E Y G λt G1=>match t with |true=>az Z a E Y G1 D |false=>az Z b E Y G1 D):=rfl
theorem wX{Z:aj}{E Y G D}:wpS Z .pas E Y G D=(D.nx Y G):=rfl
theorem wY{Z:aj}{E Y G D}:wpS Z .brk E Y G D=(D.bk Y G):=rfl
theorem wZ{Z:aj}{E Y G D}:wpS Z .cnt E Y G D=(D.ct Y G):=rfl
theorem VF{Z:aj}{E Y G k}:wpM Z .nil E Y G k=k G:=rfl
theorem VG{Z:aj}{e es E Y G k}:wpM Z (.cons e es) E Y G k=(wpE Z e E Y G λd G1=>Dj d=true/\wpM Z es E Y G1 k):=rfl
theorem w5{Z:aj}{E Y G D}:wpS Z .nev E Y G D=(False):=rfl
theorem xf{Z:aj}{fz elt tg it cond N cap E Y G k}:wpE Z (.comp fz elt tg it cond N cap) E Y G k=(wpI Z it E Y G λitems g G1=>
   compLoop (λd ρ' G' k'=>aU tg d ρ' G' λρ1=>wpT Z cond noE ρ1 G' λb G2=>match b with |true=>wpE Z elt noE ρ1 G2 λy G3=>k' (some y) ρ1 G3 |false=>k' none ρ1 G2)
    g items [] (cap.map λo=>match o with |none=>none |some j=>(Y[j]?).join) G1 λds G2=>mk fz ds G2 k):=rfl
theorem Dm{Z:aj}{t it body E Y G D}:wpS Z (.for_ t it body) E Y G D=(wpI Z it E Y G λitems g G1=>
   forLoop (λd ρ' G' k=>aU t d ρ' G' λρ1=>az Z body E ρ1 G' { D with nx:=k,ct:=k,bk:=D.nx }) g items Y G1 D.nx):=rfl
theorem Do{Z:aj}{c body E Y G D}:wpS Z (.whl c body) E Y G D=(∃n,whileLoop (λρ' G' k=>wpT Z c E ρ' G' k) (λρ' G' k=>az Z body E ρ' G' { D with nx:=k,ct:=k,bk:=D.nx }) n Y G D.nx):=rfl
section
variable {k k':AT} {G:DH}
theorem cU{fz:Bool}{xs:AS}(h:∀d G',k d G'->k' d G')(q:mk fz xs G k):mk fz xs G k':=by
 cases fz with
 |true=>exact h _ _ q
 |false=>exact λp hp=>h _ _ (q p hp)
theorem Dp{a b:D}{p:Int->Int->Prop}(h:gn a b p):∃i j,a=.int i/\b=.int j/\p i j:=by
 cases a with
 |int i=>cases b with
  |int j=>exact ⟨i,j,rfl,rfl,h⟩
  |_=>exact h.elim
 |_=>exact h.elim
theorem rG{a b:D}{p q:Int->Int->Prop}(h:∀i j,p i j->q i j)(z:gn a b p):gn a b q:=by obtain ⟨i,j,rfl,rfl,z⟩:=Dp z;exact h i j z
theorem Dq{op:Operator}{fz:Bool}{a b:D}(h:∀d G',k d G'->k' d G')(q:cT op fz a b G k):cT op fz a b G k':=by
 cases op with
 |Add=>
  have q:jo fz a b G k:=q;show jo fz a b G k';unfold jo at q ⊢;cases a with
  |int i=>cases b <;> first |exact h _ _ q |exact q
  |str i=>cases b <;> first |exact ⟨q.1,h _ _ q.2⟩ |exact q
  |lst i=>cases b <;> first |exact ⟨q.1,cU h q.2⟩ |exact q
  |tup i=>cases b <;> first |exact ⟨q.1,h _ _ q.2⟩ |exact q
  |_=>exact q
 |Sub=>exact rG (λ_ _ z=>h _ _ z) q
 |Mult=>
  have q:jq fz a b G k:=q;show jq fz a b G k';unfold jq at q ⊢;cases b with
  |int n=>cases a <;> first |exact ⟨q.1,h _ _ q.2⟩ |exact ⟨q.1,q.2.1,q.2.2.1,h _ _ q.2.2.2⟩ |exact ⟨q.1,q.2.1,q.2.2.1,cU h q.2.2.2⟩ |exact ⟨q.1,q.2.1,q.2.2.1,q.2.2.2.1,h _ _ q.2.2.2.2⟩ |exact q
  |_=>exact q
 |FloorDiv=>exact rG (λ_ _ z=>⟨z.1,h _ _ z.2⟩) q
 |Mod=>exact rG (λ_ _ z=>⟨z.1,h _ _ z.2⟩) q
 |Pow=>exact rG (λ_ _ z=>⟨z.1,h _ _ z.2⟩) q
 |_=>exact q
theorem rH{d:D}{k k':List Int->Prop}(h:∀n,k n->k' n)(q:bZ d k):bZ d k':=by
 unfold bZ at q ⊢;split at q
 .split at q
  .exact h _ q
  .exact q
 .exact q
theorem Ds{a b:D}{k k':Bool->Prop}(h:∀c,k c->k' c)(q:fU a b k):fU a b k':=by
 unfold fU at q ⊢;split at q
 .split at q
  .exact h _ q
  .exact q
 .exact ⟨q.1,h _ q.2⟩
 .exact ⟨q.1,h _ q.2⟩
 .exact rH (λ_ z=>h _ z) q
 .exact q
theorem il{op:CmpOp}{a b:D}{k k':Bool->Prop}(h:∀c,k c->k' c)(q:aX op a b k):aX op a b k':=by
 cases op with
 |Eq=>exact ⟨q.1,h _ q.2⟩
 |NotEq=>exact ⟨q.1,h _ q.2⟩
 |Lt=>have q:jr a b k:=q;show jr a b k';unfold jr at q ⊢;split at q <;> first |exact h _ q |exact q
 |LtE=>have q:jt a b k:=q;show jt a b k';unfold jt at q ⊢;split at q <;> first |exact h _ q |exact q
 |Gt=>have q:ju a b k:=q;show ju a b k';unfold ju at q ⊢;split at q <;> first |exact h _ q |exact q
 |GtE=>have q:jw a b k:=q;show jw a b k';unfold jw at q ⊢;split at q <;> first |exact h _ q |exact q
 |Is=>
  have q:jx a b k:=q;show jx a b k';unfold jx at q ⊢;split at q
  .exact h _ q
  .split at q
   .exact h _ q
   .exact q
  .exact q
 |IsNot=>
  have q:jy a b k:=q;show jy a b k';unfold jy at q ⊢;split at q
  .exact h _ q
  .split at q
   .exact h _ q
   .exact q
  .exact q
 |In=>exact Ds h q
 |NotIn=>exact Ds (λc=>h _) q
theorem Dt{a i:D}{k k':D->Prop}(h:∀c,k c->k' c)(q:cN a i k):cN a i k':=by
 unfold cN at q ⊢;split at q
 .split at q
  .exact h _ q
  .exact q
 .split at q
  .exact h _ q
  .exact q
 .split at q
  .exact h _ q
  .exact q
 .refine rH (λ_ q=>?_) q;split at q
  .split at q
   .exact h _ q
   .exact q
  .exact q
 .exact q
theorem Du{fz:Bool}{a:D}{lo hi:Option Int}(h:∀d G',k d G'->k' d G')(q:dW fz a lo hi G k):dW fz a lo hi G k':=by
 unfold dW at q ⊢;split at q <;> first
  |exact cU h q
  |exact h _ _ q
  |exact q.elim
theorem Dv{fz:Bool}{a y:D}(h:∀d G',k d G'->k' d G')(q:g8 fz a y G k):g8 fz a y G k':=by
 unfold g8 at q ⊢;split at q
 .exact ⟨q.1,cU h q.2⟩
 .exact ⟨q.1,h _ _ q.2⟩
 .exact q.elim
theorem Dw{f:Bf}{as:AS}{k k':D->Prop}(h:∀c,k c->k' c)(q:opB f as k):opB f as k':=by
 cases f with
 |len=>simp only[opB,vI]at q ⊢;split at q <;> first |exact h _ q |exact q.elim
 |all=>
  simp only[opB,qT]at q ⊢;split at q
  .split at q
   .exact h _ q
   .exact q
  .exact q
 |any=>
  simp only[opB,qU]at q ⊢;split at q
  .split at q
   .exact h _ q
   .exact q
  .exact q
 |int=>
  simp only[opB,qW]at q ⊢;split at q
  .exact h _ q
  .exact h _ q
  .split at q
   .exact ⟨q.1,h _ q.2⟩
   .exact q
  .exact q
 |tuple=>simp only[opB,vJ]at q ⊢;split at q <;> first |exact h _ q |exact q.elim
 |sum=>
  simp only[opB,vK]at q ⊢;split at q
  .split at q
   .exact h _ q
   .exact q
  .exact q
 |min=>
  simp only[opB,lr]at q ⊢;split at q
  .split at q
   .exact ⟨q.1,λm h1 h2=>h _ (q.2 m h1 h2)⟩
   .split at q
    .exact λm h1 h2=>h _ (q m h1 h2)
    .exact q
  .exact q
 |max=>simp only[opB,Dh]at q ⊢;split at q <;> first |exact h _ q |exact q.elim
 |abs=>simp only[opB,Df]at q ⊢;split at q <;> first |exact h _ q |exact q.elim
 |min2=>simp only[opB,Dg]at q ⊢;split at q <;> first |exact h _ q |exact q.elim
 |str=>
  simp only[opB,vL]at q ⊢;split at q
  .exact ⟨q.1,h _ q.2⟩
  .exact q
theorem aiu{d:D}{k k':AS->Prop}(h:∀c,k c->k' c)(q:lw d k):lw d k':=by
 unfold lw at q ⊢;split at q
 .split at q
  .exact ⟨q.1,λls p=>h _ (q.2 ls p)⟩
  .exact q
 .exact q
theorem Dy{f:Lf}{as:AS}{k k':AS->Prop}(h:∀c,k c->k' c)(q:cG f as k):cG f as k':=by
 cases f with
 |list=>simp only[cG,vM]at q ⊢;split at q <;> first |exact h _ q |exact q.elim
 |sorted=>
  simp only[cG,lu]at q ⊢;split at q
  .split at q
   .exact ⟨q.1,λls p z=>h _ (q.2 ls p z)⟩
   .exact q
  .split at q
   .exact ⟨q.1,λls p z=>h _ (q.2 ls p z)⟩
   .exact q
  .exact q
theorem jC{m:Mf}{o:D}{as:AS}(h:∀d G',k d G'->k' d G')(q:opM m o as G k):opM m o as G k':=by
 cases m with
 |join=>
  simp only[opM,qY]at q ⊢;split at q
  .split at q
   .exact ⟨q.1,h _ _ q.2⟩
   .exact q
  .exact q
 |append=>
  simp only[opM,qZ]at q ⊢;split at q
  .split at q
   .exact ⟨q.1,h _ _ q.2⟩
   .exact q
  .exact q
 |extend=>
  simp only[opM,q8]at q ⊢;split at q
  .split at q
   .exact ⟨q.1,h _ _ q.2⟩
   .exact q
  .exact q
 |pop=>
  simp only[opM,rm]at q ⊢;split at q
  .split at q
   .refine ⟨q.1,q.2.1,?_⟩;have q2:=q.2.2;split at q2
    .exact h _ _ q2
    .exact q2
   .exact q
  .exact q
 |idxT=>
  simp only[opM,rn]at q ⊢;split at q
  .split at q
   .exact ⟨q.1,h _ _ q.2⟩
   .exact q
  .exact q
theorem Dz{o i x:D}{k k':DH->Prop}(h:∀G',k G'->k' G')(q:dM o i x G k):dM o i x G k':=by
 unfold dM at q ⊢;split at q
 .split at q
  .split at q
   .split at q
    .exact h _ q
    .exact q
   .exact q
  .exact rH (λ_ z=>⟨z.1,h _ z.2⟩) q
  .exact q
 .exact q
theorem DG{op:Operator}{a b:D}{k k':D->Prop}(h:∀c,k c->k' c)(q:eV op a b k):eV op a b k':=by
 unfold eV at q ⊢;split at q <;> first
  |exact h _ q
  |exact ⟨q.1,h _ q.2⟩
  |exact q.elim
mutual
theorem dN{k k':ak->Prop}(h:∀Y,k Y->k' Y):∀(t:Tg){d:D}{Y:ak},aU t d Y G k->aU t d Y G k'
 |.nm i,d,Y,q=>h _ q
 |.tp ts,d,Y,q=>by
  unfold aU at q ⊢;split at q
  .exact xg h ts q
  .exact xg h ts q
  .exact q
theorem xg{k k':ak->Prop}(h:∀Y,k Y->k' Y):∀(ts:Tgs){ds:AS}{Y:ak},bQ ts ds Y G k->bQ ts ds Y G k'
 |.nil,ds,Y,q=>by
  unfold bQ at q ⊢;split at q
  .exact h _ q
  .exact q
 |.cons t r,ds,Y,q=>by
  unfold bQ at q ⊢;split at q
  .exact dN (λρ' q'=>xg h r q') t q
  .exact q
end
theorem rJ{step step':D->ak->DH->(Option D->ak->DH->Prop)->Prop}(hs:∀d Y G (k k':Option D->ak->DH->Prop),(∀o ρ' G',k o ρ' G'->k' o ρ' G')->step d Y G k->step' d Y G k')
  {g:Hld} {k k':AS->DH->Prop} (h:∀ds G',k ds G'->k' ds G'):∀(ds acc:AS)(Y:ak)(G:DH),compLoop step g ds acc Y G k->compLoop step' g ds acc Y G k'
 |[],acc,Y,G,q=>⟨q.1,q.2.1,h _ _ q.2.2⟩
 |d::ds,acc,Y,G,q=>by
  refine ⟨q.1,q.2.1,hs d Y G _ _ (λo ρ' G' z=>?_) q.2.2⟩;cases o with
  |some y=>exact rJ hs h ds (acc++[y]) ρ' G' z
  |none=>exact rJ hs h ds acc ρ' G' z
theorem xj{step step':D->AS->ak->DH->(AS->ak->DH->Prop)->Prop}(hs:∀d acc Y G (k k':AS->ak->DH->Prop),(∀a ρ' G',k a ρ' G'->k' a ρ' G')->step d acc Y G k->step' d acc Y G k')
  {g:Hld} {k k':AS->ak->DH->Prop} (h:∀a Y G',k a Y G'->k' a Y G'):∀(ds acc:AS)(Y:ak)(G:DH),dY step g ds acc Y G k->dY step' g ds acc Y G k'
 |[],acc,Y,G,q=>⟨q.1,h _ _ _ q.2⟩
 |d::ds,acc,Y,G,q=>⟨q.1,hs d acc Y G _ _ (λa ρ' G' z=>xj hs h ds a ρ' G' z) q.2⟩
theorem DK{step step':D->ak->DH->(ak->DH->Prop)->Prop}(hs:∀d Y G (k k':ak->DH->Prop),(∀ρ' G',k ρ' G'->k' ρ' G')->step d Y G k->step' d Y G k')
  {g:Hld} {k k':ak->DH->Prop} (h:∀Y G',k Y G'->k' Y G'):∀(ds:AS)(Y:ak)(G:DH),forLoop step g ds Y G k->forLoop step' g ds Y G k'
 |[],Y,G,q=>⟨q.1,h _ _ q.2⟩
 |d::ds,Y,G,q=>⟨q.1,hs d Y G _ _ (λρ' G' z=>DK hs h ds ρ' G' z) q.2⟩
theorem DN{test test':ak->DH->(Bool->DH->Prop)->Prop}{body body':ak->DH->(ak->DH->Prop)->Prop}
  (ht:∀Y G (k k':Bool->DH->Prop),(∀b G',k b G'->k' b G')->test Y G k->test' Y G k') (hb:∀Y G (k k':ak->DH->Prop),(∀ρ' G',k ρ' G'->k' ρ' G')->body Y G k->body' Y G k')
  {k k':ak->DH->Prop} (h:∀Y G',k Y G'->k' Y G'):∀(n:Nat)(Y:ak)(G:DH),whileLoop test body n Y G k->whileLoop test' body' n Y G k'
 |0,Y,G,q=>q
 |n+1,Y,G,q=>ht Y G _ _ (λb G' z=>by
   cases b with
   |true=>exact hb Y G' _ _ (λρ' G'' z'=>DN ht hb h n ρ' G'' z') z
   |false=>exact h _ _ z) q
end
section
variable {Z:aj} {G:DH}
theorem xm:∀(x:Exs){P Q:Prop},(P->Q)->jz x P->jz x Q
 |.nil,_,_,h,q=>h q
 |.cons _ _,_,_,_,q=>q
mutual
theorem aH{E:EK}{Y:ak}:∀(x:Ex){G:DH}{k k':AT},(∀d G',k d G'->k' d G')->wpE Z x E Y G k->wpE Z x E Y G k'
 |.var i,G,k,k',h,q=>by
  rw[v7]at q ⊢;split at q
  .exact h _ _ q
  .exact q
 |.cst d,G,k,k',h,q=>by rw[jB]at q ⊢;exact h _ _ q
 |.glb x d,G,k,k',h,q=>by rw[v8]at q ⊢;exact h _ _ q
 |.bin op fz a b,G,k,k',h,q=>by
  rw[v9]at q ⊢;exact aH a (λ_ _ q=>aH b (λ_ _ q=>Dq h q) q) q
 |.neg a,G,k,k',h,q=>by
  rw[wj]at q ⊢;refine aH a (λx _ q=>?_) q;split at q
  .exact h _ _ q
  .exact q
 |.cmp op a b,G,k,k',h,q=>by
  rw[rD]at q ⊢;exact aH a (λ_ _ q=>aH b (λ_ _ q=>il (λ_ q=>h _ _ q) q) q) q
 |.chn op op' a b c,G,k,k',h,q=>by
  rw[rE]at q ⊢;refine aH a (λ_ _ q=>aH b (λ_ _ q=>il (λt q=>?_) q) q) q;cases t with
  |true=>exact aH c (λ_ _ q=>il (λ_ q=>h _ _ q) q) q
  |false=>exact h _ _ q
 |.not a,G,k,k',h,q=>by
  rw[wk]at q ⊢;refine aH a (λx _ q=>?_) q;split at q
  .exact h _ _ q
  .exact q
 |.boo isAnd e es,G,k,k',h,q=>by
  rw[wu]at q ⊢;refine aH e (λx _ q=>?_) q;split at q
  .exact rK es h q
  .exact q
 |.ife c a b,G,k,k',h,q=>by
  rw[ww]at q ⊢;refine cV c (λt _ q=>?_) q;cases t with
  |true=>exact aH a h q
  |false=>exact aH b h q
 |.tup es,G,k,k',h,q=>by
  rw[wy]at q ⊢;exact fX es (λ_ _ q=>⟨q.1,h _ _ q.2⟩) q
 |.lst fz es,G,k,k',h,q=>by
  rw[wz]at q ⊢;exact fX es (λ_ _ q=>⟨q.1,cU h q.2⟩) q
 |.idx a i,G,k,k',h,q=>by
  rw[wA]at q ⊢;exact aH a (λ_ _ q=>aH i (λ_ _ q=>Dt (λ_ q=>h _ _ q) q) q) q
 |.slc fz a lo hi,G,k,k',h,q=>by
  rw[wC]at q ⊢;exact aH a (λ_ _ q=>xq lo (λ_ _ q=>xq hi (λ_ _ q=>Du h q) q) q) q
 |.rvs fz a s,G,k,k',h,q=>by
  rw[wB]at q ⊢;exact aH a (λ_ _ q=>aH s (λ_ _ q=>Dv h q) q) q
 |.call f es,G,k,k',h,q=>by
  rw[wD]at q ⊢;exact fX es (λ_ _ q=>Spec.mono q h λ_ _ z=>z) q
 |.bcl f es,G,k,k',h,q=>by
  rw[wF]at q ⊢;exact fX es (λ_ _ q=>Dw (λ_ q=>h _ _ q) q) q
 |.lcl fz f es,G,k,k',h,q=>by
  rw[wG]at q ⊢;exact fX es (λ_ _ q=>Dy (λ_ q=>cU h q) q) q
 |.isi a t,G,k,k',h,q=>by
  rw[wH]at q ⊢;refine aH a (λx _ q=>?_) q;split at q
  .exact h _ _ q
  .exact q
 |.rgl fz a,G,k,k',h,q=>by
  rw[wI]at q ⊢;refine aH a (λd _ q=>?_) q;split at q
  .exact ⟨q.1,cU h q.2⟩
  .exact q
 |.rgt a,G,k,k',h,q=>by
  rw[wJ]at q ⊢;refine aH a (λd _ q=>?_) q;split at q
  .exact ⟨q.1,h _ _ q.2⟩
  .exact q
 |.mth m o es,G,k,k',h,q=>by
  rw[ig]at q ⊢;exact aH o (λ_ _ q=>⟨q.1,fX es (λ_ _ q=>jC h q) q.2⟩) q
 |.comp fz elt tg it cond N cap,G,k,k',h,q=>by
  rw[xf]at q ⊢;refine fY it (λitems g G1 q=>?_) q;refine rJ ?_ (λds G2 z=>cU h z) items [] _ G1 q;intro d ρ' G' k k' hk z;refine dN (λρ1 z=>?_) tg z;refine cV cond (λb G2 z=>?_) z;cases b with
  |true=>exact aH elt (λy G3 z=>hk _ _ _ z) z
  |false=>exact hk _ _ _ z
 |.dnw,G,k,k',h,q=>by rw[wL]at q ⊢;exact λp hp=>h _ _ (q p hp)
 |.dcT a,G,k,k',h,q=>by
  rw[rF]at q ⊢;refine aH a (λx G1 q=>?_) q;unfold dcK at q ⊢;split at q
  .split at q
   .exact ⟨q.1,λp hp=>h _ _ (q.2 p hp)⟩
   .exact q
  .exact q
 |.cm2 elt t1 i1 t2 i2 cond N cap,G,k,k',h,q=>by
  rw[wM]at q ⊢;refine fY i1 (λitems g G1 q=>?_) q;refine xj ?_ (λds _ G2 z=>⟨z.1,cU h z.2⟩) items [] _ G1 q;intro d acc ρ' G' k k' hk z;refine dN (λρ1 z=>fY i2 (λitems g G1 q=>?_) z) t1 z;refine xj ?_ hk items _ _ G1 q;intro d acc ρ' G' k k' hk z;refine dN (λρ1 z=>⟨z.1,cV cond (λb G2 z=>?_) z.2⟩) t2 z;cases b with
  |true=>exact aH elt (λy G3 z=>hk _ _ _ z) z
  |false=>exact hk _ _ _ z
 |.dp1 a b,G,k,k',h,q=>by rw[wN]at q ⊢;exact aH a (λ_ _ q=>aH b (λ_ _ q=>rH (λ_ z p hp=>h _ _ (z p hp)) q) q) q
 |.frz a,G,k,k',h,q=>by
  rw[wK]at q ⊢;refine aH a (λx G1 q=>?_) q;split at q
  .split at q
   .exact h _ _ q
   .exact q
  .exact h _ _ q
theorem cV{E:EK}{Y:ak}:∀(x:Tx){G:DH}{k k':Bool->DH->Prop},(∀d G',k d G'->k' d G')->wpT Z x E Y G k->wpT Z x E Y G k'
 |.not a,G,k,k',h,q=>by rw[vO]at q ⊢;exact cV a (λ_ _ q=>h _ _ q) q
 |.boo isAnd e es,G,k,k',h,q=>by rw[vP]at q ⊢;exact cV e (λ_ _ q=>rM es h q) q
 |.yes,G,k,k',h,q=>by rw[vQ]at q ⊢;exact h _ _ q
 |.val a,G,k,k',h,q=>by
  rw[lz]at q ⊢;refine aH a (λx _ q=>?_) q;split at q
  .exact h _ _ q
  .exact q
theorem DP{E:EK}{Y:ak}:∀(x:Exs){G:DH}{k k':AA->DH->Prop},(∀d G',k d G'->k' d G')->wpF Z x E Y G k->wpF Z x E Y G k'
 |.nil,G,k,k',h,q=>by rw[Dk]at q ⊢;exact h _ _ q
 |.cons e es,G,k,k',h,q=>by
  rw[Dl]at q ⊢;refine aH e (λd _ q=>?_) q;split at q
  .exact ⟨q.1,DP es (λ_ _ q=>h _ _ q) q.2⟩
  .exact ⟨q.1,DP es (λ_ _ q=>h _ _ q) q.2⟩
  .exact q
theorem fX{E:EK}{Y:ak}:∀(x:Exs){G:DH}{k k':AS->DH->Prop},(∀d G',k d G'->k' d G')->bj Z x E Y G k->bj Z x E Y G k'
 |.nil,G,k,k',h,q=>by rw[jA]at q ⊢;exact h _ _ q
 |.cons e es,G,k,k',h,q=>by rw[ie]at q ⊢;exact aH e (λ_ _ q=>fX es (λ_ _ q=>h _ _ q) q) q
theorem rK{E:EK}{Y:ak}:∀(x:Exs){isAnd b:Bool}{G:DH}{k k':AT},(∀d G',k d G'->k' d G')->wpB Z x isAnd b E Y G k->wpB Z x isAnd b E Y G k'
 |.nil,_,_,G,k,k',h,q=>by rw[vR]at q ⊢;exact h _ _ q
 |.cons e es,isAnd,b,G,k,k',h,q=>by
  rw[rA]at q ⊢;cases isAnd <;> cases b <;> first
   |exact h _ _ q
   | (refine aH e (λd _ q=>?_) q
      split at q
      .exact rK es h q
      .exact xm es (h _ _) q)
theorem rM{E:EK}{Y:ak}:∀(x:Txs){isAnd b:Bool}{G:DH}{k k':Bool->DH->Prop},(∀d G',k d G'->k' d G')->fW Z x isAnd b E Y G k->fW Z x isAnd b E Y G k'
 |.nil,_,_,G,k,k',h,q=>by rw[vU]at q ⊢;exact h _ _ q
 |.cons e es,isAnd,b,G,k,k',h,q=>by
  rw[rB]at q ⊢;cases isAnd <;> cases b <;> first
   |exact h _ _ q
   |exact cV e (λd _ q=>rM es h q) q
theorem xq{E:EK}{Y:ak}:∀(x:Ox){G:DH}{k k':Option Int->DH->Prop},(∀d G',k d G'->k' d G')->wpO Z x E Y G k->wpO Z x E Y G k'
 |.no,G,k,k',h,q=>by rw[vV]at q ⊢;exact h _ _ q
 |.ob a,G,k,k',h,q=>by
  rw[vW]at q ⊢;refine aH a (λx _ q=>?_) q;split at q
  .exact h _ _ q
  .exact q
theorem fY{E:EK}{Y:ak}:∀(x:It'){G:DH}{k k':AS->Hld->DH->Prop},(∀d g G',k d g G'->k' d g G')->wpI Z x E Y G k->wpI Z x E Y G k'
 |.seq a,G,k,k',h,q=>by
  rw[vX]at q ⊢;refine aH a (λx _ q=>?_) q;split at q
  .exact h _ _ _ q
  .exact q
 |.rng a,G,k,k',h,q=>by
  rw[vY]at q ⊢;refine aH a (λx _ q=>?_) q;split at q
  .exact ⟨q.1,h _ _ _ q.2⟩
  .exact q
 |.enm a,G,k,k',h,q=>by
  rw[vZ]at q ⊢;refine aH a (λx _ q=>?_) q;split at q
  .exact h _ _ _ q
  .exact q
 |.zip a b,G,k,k',h,q=>by
  rw[v6]at q ⊢;refine aH a (λx _ q=>aH b (λy _ q=>?_) q) q;split at q
  .exact h _ _ _ q
  .exact q
end
structure En.Le(D D':En):Prop where
 nx:∀Y G,D.nx Y G->D'.nx Y G
 rt:∀d G,D.rt d G->D'.rt d G
 bk:∀Y G,D.bk Y G->D'.bk Y G
 ct:∀Y G,D.ct Y G->D'.ct Y G
mutual
theorem wpS_mono{E:EK}:∀(x:Sx){Y:ak}{G:DH}{D D':En},D.Le D'->wpS Z x E Y G D->wpS Z x E Y G D'
 |.exp e,Y,G,D,D',h,q=>by rw[wO]at q ⊢;exact aH e (λ_ _ q=>h.nx _ _ q) q
 |.asg t e,Y,G,D,D',h,q=>by rw[ik]at q ⊢;exact aH e (λ_ _ q=>dN (λ_ q=>h.nx _ _ q) t q) q
 |.set o i e,Y,G,D,D',h,q=>by rw[wQ]at q ⊢;exact aH e (λ_ _ q=>aH o (λ_ _ q=>aH i (λ_ _ q=>Dz (λ_ q=>h.nx _ _ q) q) q) q) q
 |.aug i op e,Y,G,D,D',h,q=>by
  rw[wR]at q ⊢;split at q
  .exact aH e (λ_ _ q=>DG (λ_ q=>h.nx _ _ q) q) q
  .exact q
 |.ret e,Y,G,D,D',h,q=>by rw[wU]at q ⊢;exact aH e (λ_ _ q=>h.rt _ _ q) q
 |.rtn,Y,G,D,D',h,q=>by rw[wV]at q ⊢;exact h.rt _ _ q
 |.ite c a b,Y,G,D,D',h,q=>by
  rw[wW]at q ⊢;refine cV c (λt _ q=>?_) q;cases t with
  |true=>exact dz a h q
  |false=>exact dz b h q
 |.for_ t it body,Y,G,D,D',h,q=>by
  rw[Dm]at q ⊢;exact fY it (λitems g G1 q=>DK (λd ρ' G' k k' hk z=>dN (λρ1 z=>dz body (D:={ D with nx:=k,ct:=k,bk:=D.nx }) (D':={ D' with nx:=k',ct:=k',bk:=D'.nx }) ⟨hk,h.rt,h.nx,hk⟩ z) t z) h.nx items Y G1 q) q
 |.whl c body,Y,G,D,D',h,q=>by
  rw[Do]at q ⊢;obtain ⟨n,q⟩:=q;refine ⟨n,?_⟩;refine DN ?_ ?_ h.nx n Y G q
  .exact λρ' G' k k' hk z=>cV c hk z
  .exact λρ' G' k k' hk z=>dz body (D:={ D with nx:=k,ct:=k,bk:=D.nx }) (D':={ D' with nx:=k',ct:=k',bk:=D'.nx }) ⟨hk,h.rt,h.nx,hk⟩ z
 |.pas,Y,G,D,D',h,q=>by rw[wX]at q ⊢;exact h.nx _ _ q
 |.brk,Y,G,D,D',h,q=>by rw[wY]at q ⊢;exact h.bk _ _ q
 |.cnt,Y,G,D,D',h,q=>by rw[wZ]at q ⊢;exact h.ct _ _ q
 |.nev,Y,G,D,D',h,q=>by rw[w5]at q;exact q.elim
theorem dz{E:EK}:∀(x:Sxs){Y:ak}{G:DH}{D D':En},D.Le D'->az Z x E Y G D->az Z x E Y G D'
 |.nil,Y,G,D,D',h,q=>by rw[lA]at q ⊢;exact h.nx _ _ q
 |.cons s r,Y,G,D,D',h,q=>by rw[lB]at q ⊢;exact wpS_mono s (D:={ D with nx:=λρ' G'=>az Z r E ρ' G' D }) (D':={ D' with nx:=λρ' G'=>az Z r E ρ' G' D' }) ⟨λ_ _ z=>dz r h z,h.rt,h.bk,h.ct⟩ q
end
end
def PV(K:PF)(H:Hp)(F:FZ)(Q:VK):D->DH->Prop:=λd G'=>∀H' F' v,Ext H F H' F'->R K H' F' G'->Rep K H' F' d v->Q v H'
def PB(K:PF)(H:Hp)(F:FZ)(Q:Bool->Hp->Prop):Bool->DH->Prop:=λb G'=>∀H' F',Ext H F H' F'->R K H' F' G'->Q b H'
def PLs(K:PF)(H:Hp)(F:FZ)(Q:AR->Hp->Prop):AS->DH->Prop:=λds G'=>∀H' F' vs,Ext H F H' F'->R K H' F' G'->Reps K H' F' ds vs->Q vs H'
section
variable {K:PF} {H:Hp} {F:FZ} {G:DH} {Q:VK}
theorem PV.now{d:D}{v:V}(h:PV K H F Q d G)(r:R K H F G)(q:Rep K H F d v):Q v H:=h H F v (Ext.refl H F) r q
theorem dh{fz:Bool}{ds:AS}{vs:AR}(h:mk fz ds G (PV K H F Q))(r:R K H F G)(t:Reps K H F ds vs)(p:AQ)(hp:H p=none):Q (.ref p) (upd H p (.lst vs)):=by
 cases fz with
 |true=>exact h _ _ _ (vB r hp) (r.newF hp) (Vv r hp t)
 |false=>exact h p (r.free hp) _ _ _ (cR r hp) (r.newL hp t) rfl
theorem jD{ds:AS}{vs:AR}(h:PV K H F Q (.tup ds) G)(r:R K H F G)(t:Reps K H F ds vs)(p:AQ)(hp:H p=none):Q (.ref p) (upd H p (.tup vs)):=
 h _ _ _ (cR r hp) (r.new hp) (vC r hp t)
end
def szl:sz<=sizeLine:=by rw[fS];decide
def di{n:Nat}(h:n<=sz):n<=sizeLine:=ca h szl
def rB2(K:PF)(f:D->D->DH->(AT)->Prop):R2:=λx y H Q=>∃F G a b,R K H F G/\Rep K H F a x/\Rep K H F b y/\f (view G a) (view G b) G (PV K H F Q)
section
variable {X:Cx}
theorem VH:OpR X (binaryOp .Add) (λx y H Q=>∃a b xs ys,x=.ref a/\y=.ref b/\SqL X.K H a xs/\SqL X.K H b ys/\xs.length+ys.length<=sizeLine/\∀p,H p=none->Q (.ref p) (upd H p (.lst (xs++ys)))):=by
 intro p9 s Y H x y v u Q I rx ry h;obtain ⟨a,b,xs,ys,rfl,rfl,ha,hb,hz,q⟩:=h;cases rx;cases ry;obtain ⟨its,r1,p1,_⟩:=I.list ha;obtain ⟨its2,r2,p2,_⟩:=I.list hb;obtain ⟨⟨cls,dd,data,sl⟩,ho,hc,n,hd⟩:=p1.isList;obtain ⟨⟨cls2,dd2,data2,sl2⟩,ho2,hc2,n2,hd2⟩:=p2.isList;simp only at hc hd hc2 hd2;subst hc hd hc2 hd2;have e:its.toArray++its2.toArray=(its++its2).toArray:=by simp
 refine concat_meets ⟨_,ho,rfl⟩ ⟨_,ho2,rfl⟩ noFill_list_add seq_list_add PySem.F.slot_list_add PySem.F.entry_list_add (PySem.F.args_list_add_2 _ _)
  (list_addW a b its.toArray its2.toArray n n2 dd dd2 sl sl2 (by rw[av,av,<-r1.length,<-r2.length];exact hz)) ⟨ho,ho2,?_⟩
 rw[e];exact ⟨.ref _,_,I.lnew (t':=s.toks) (r1.append r2) (by rw[aw];exact hz),rfl,q _ I.fresh⟩
theorem VJ:OpR X (binaryOp .Add) (λx y H Q=>∃a b ys,x=.ref a/\y=.ref b/\SqT X.K H a []/\SqT X.K H b ys/\Q (.ref b) H):=by
 intro p9 s Y H x y v u Q I rx ry h;obtain ⟨a,b,ys,rfl,rfl,ha,hb,q⟩:=h;cases rx;cases ry;obtain ⟨its,r1,p1,_⟩:=I.tuple ha;obtain ⟨its2,r2,p2,_⟩:=I.tuple hb;obtain ⟨⟨cls,dd,data,sl⟩,ho,hc,n,hd⟩:=id p1;obtain ⟨⟨cls2,dd2,data2,sl2⟩,ho2,hc2,n2,hd2⟩:=id p2;simp only at hc hd hc2 hd2;subst hc hd hc2 hd2;cases r1;exact concat_meets ⟨_,ho,rfl⟩ ⟨_,ho2,rfl⟩ noFill_tuple_add seq_tuple_add PySem.F.slot_tuple_add PySem.F.entry_tuple_add (PySem.F.args_tuple_add_2 _ _)
   (tuple_addW0 a b _ its2.toArray n n2 dd dd2 sl sl2 (by simp)) ⟨ho,ho2,⟨.ref b,H,I,rfl,q⟩⟩
theorem DQ{K:PF}{H:Hp}{F:FZ}{ds:AS}{vs:AR}(t:Reps K H F ds vs):ds=[]↔vs=[]:=by
 have:=t.length;constructor
 .intro e;subst e;exact cS.mp this.symm
 .intro e;subst e;exact cS.mp this
theorem VL{x:Str}{n:Nat}(h1:n<=1000)(h:x.length * n<=sz):MulOk x (n:Int):=by
 have h2:((x.length * n:Nat):Int)<=((1000000:Nat):Int):=Int.ofNat_le.mpr h;rw[Int.natCast_mul]at h2;refine ⟨?_,?_,?_⟩
 .rw[ce (!0),ce (!0)];rfl
 .intro hn _ hh;have hp:(0:Int) < n:=by omega
  have h3:(x.length:Int)<=(2 ^ 63 - 1) / n:=(Int.le_ediv_iff_mul_le hp).mpr (Int.le_trans h2 (!1));exact absurd hh (Int.not_lt.mpr h3)
 .intro _ _;unfold Builtin.Str.tooLong;rw[fS,bS];exact ce (by have:sz=1000000:=rfl;omega)
theorem DR(l:AA):∀(n:Nat)(acc:AA),(List.replicate n l.toArray).foldl (· ++ ·) acc.toArray=(acc++reps l n).toArray
 |0,acc=>by simp[reps]
 |n+1,acc=>by
  rw[ft,List.foldl_cons];have e:acc.toArray++l.toArray=(acc++l).toArray:=by simp
  rw[e,DR l n (acc++l)];unfold reps;rw[ft,ia,fT]
theorem VM(n:Nat):reps ([]:AA) n=[]:=by
 unfold reps;induction n with
 |zero=>rfl
 |succ n ih=>rw[ft,ia,ih];rfl
theorem VN{α:Type}(l:List α)(n:Nat):(reps l n).length=n * l.length:=len_rep l n
theorem VP(l:AA)(n:Nat):Txt.mul (tx l) (n:Int)=tx (reps l n):=by
 unfold Txt.mul;by_cases h:(n:Int) < 1
 .rw[if_pos h];have:n=0:=by omega
  subst this;rfl
 .rw[if_neg h];by_cases h2:((n:Int)==1||(tx l).length==0)=true
  .rw[if_pos h2];rw[dP]at h2;rcases h2 with h2 |h2
   .have:n=1:=by have:=eq_of_beq h2;omega
    subst this;simp[reps]
   .have h3:=eq_of_beq h2;rw[b8]at h3;have:l=[]:=cS.mp h3;subst this;rw[VM]
  .rw[if_neg h2];have e:=DR l n [];rw[List.nil_append]at e;exact eT Str.mk (!!e)
theorem VR(op:Operator)(fz:Bool):OpR X (binaryOp op) (rB2 X.K (cT op fz)):=by
 intro p9 s Y H x y v u Q I rx ry h;obtain ⟨F,G,a,b,r,ra,rb,h⟩:=h;generalize ea:view G a=va at h;generalize eb:view G b=vb at h;have twoI:∀{p:Int->Int->Prop},gn va vb p->∃i j,x=.int i/\y=.int j/\p i j:=λ{p} h=>by
  obtain ⟨i,j,rfl,rfl,h⟩:=Dp h;cases fQ ea;cases fQ eb;exact ⟨i,j,ra,rb,h⟩
 cases op with
 |Add=>
  have h:jo fz va vb G _:=h;unfold jo at h;cases va with
  |int _=>cases vb with
   |int _=>
    cases fQ ea;cases fQ eb;have ha:x=.int _:=ra;have hb:y=.int _:=rb;subst ha;subst hb;exact Q6 p9 s Y H _ _ v u Q I rx ry ⟨_,_,rfl,rfl,h.now r rfl⟩
   |_=>exact h.elim
  |str _=>cases vb with
   |str _=>
    cases gm ea;cases gm eb;obtain ⟨ha,la⟩:=ra;obtain ⟨hb,lb⟩:=rb;subst ha;subst hb;refine Rp p9 s Y H _ _ v u Q I rx ry ⟨_,_,rfl,rfl,?_,?_⟩
    .rw[b8,b8];exact di h.1
    .rw[qK];exact h.2.now r ⟨rfl,by rw[aw];exact h.1⟩
   |_=>exact h.elim
  |lst _=>cases vb with
   |lst _=>
    obtain ⟨p,vs,rfl,q1,t1⟩:=Rep.list r ra ea;obtain ⟨p',vs',rfl,q2,t2⟩:=Rep.list r rb eb;exact VH p9 s Y H _ _ v u Q I rx ry ⟨p,p',vs,vs',rfl,rfl,q1,q2,by rw[<-t1.length,<-t2.length];exact di h.1,dh h.2 r (t1.append t2)⟩
   |_=>exact h.elim
  |tup xs=>cases vb with
   |tup ys=>
    cases fP ea;cases fP eb;obtain ⟨p,vs,rfl,q1,t1⟩:=id ra;obtain ⟨p',vs',rfl,q2,t2⟩:=id rb;by_cases hx:vs=[]
    .subst hx;have:xs=[]:=(DQ t1).mpr rfl;subst this;exact VJ p9 s Y H _ _ v u Q I rx ry ⟨p,p',vs',rfl,rfl,q1.sq,q2.sq,h.2.now r rb⟩
    .refine R3 p9 s Y H _ _ v u Q I rx ry ⟨p,p',vs,vs',rfl,rfl,q1.sq,q2.sq,hx,by rw[<-t1.length,<-t2.length];exact di h.1,λe=>?_,λ_=>jD h.2 r (t1.append t2)⟩;subst e;have:ys=[]:=(DQ t2).mpr rfl;subst this;have h2:=h.2;rw[fi]at h2;exact h2.now r ra
   |_=>exact h.elim
  |_=>exact h.elim
 |Sub=>
  obtain ⟨i,j,rfl,rfl,h⟩:=twoI h;exact Q7 p9 s Y H _ _ v u Q I rx ry ⟨_,_,rfl,rfl,h.now r rfl⟩
 |Mult=>
  have h:jq fz va vb G _:=h;unfold jq at h;cases vb with
  |int _=>cases va with
   |int _=>
    cases fQ ea;cases fQ eb;have ha:x=.int _:=ra;have hb:y=.int _:=rb;subst ha;subst hb;exact Q8 p9 s Y H _ _ v u Q I rx ry ⟨_,_,rfl,rfl,h.1,h.2.now r rfl⟩
   |str _=>
    cases gm ea;cases fQ eb;obtain ⟨ha,la⟩:=ra;have hb:y=.int _:=rb;subst ha;subst hb;obtain ⟨h0,h1,h2,h3⟩:=h;obtain ⟨n,rfl⟩:=ci h0;rw[bS]at h2 h3;refine Tu p9 s Y H _ _ v u Q I rx ry ⟨_,_,rfl,rfl,VL (!0) (by rw[b8];exact h2),?_⟩;rw[VP];exact h3.now r ⟨rfl,by rw[VN,Nat.mul_comm];exact h2⟩
   |_=>exact h.elim
  |_=>exact h.elim
 |FloorDiv=>
  obtain ⟨i,j,rfl,rfl,h⟩:=twoI h;exact T9 p9 s Y H _ _ v u Q I rx ry ⟨_,_,rfl,rfl,h.1,h.2.now r rfl⟩
 |Mod=>
  obtain ⟨i,j,rfl,rfl,h⟩:=twoI h;exact Q9 p9 s Y H _ _ v u Q I rx ry ⟨_,_,rfl,rfl,h.1,h.2.now r rfl⟩
 |Pow=>
  obtain ⟨i,j,rfl,rfl,h⟩:=twoI h;exact Ra p9 s Y H _ _ v u Q I rx ry ⟨_,_,rfl,rfl,h.1,h.2.now r rfl⟩
 |_=>exact h.elim
end
mutual
theorem ir:∀{d:D},nr d=true->deq d d=true
 |.non,_=>rfl
 |.bl b,_=>by simp[deq]
 |.int i,_=>by simp[deq]
 |.str l,_=>by simp[deq]
 |.tup xs,h=>by rw[deq];exact rN (by rw[nr]at h;exact h)
 |.lst xs,h=>by rw[deq];exact rN (by rw[nr]at h;exact h)
 |.ref a,h=>by rw[nr]at h;cases h
 |.scr a,h=>by rw[nr]at h;cases h
 |.exn a,h=>by rw[nr]at h;cases h
 |.exa _ _ _,h=>by rw[nr]at h;cases h
 |.obj _ _ _,h=>by rw[nr]at h;cases h
 |.dct _ _,h=>by rw[nr]at h;cases h
theorem rN:∀{ds:AS},nrs ds=true->cg ds ds=true
 |[],_=>rfl
 |d::ds,h=>by
  rw[nrs,ae]at h;rw[cg,ir h.1,rN h.2];rfl
end
def rO:∀(xs ys:AS),cg xs ys=((List.range (min xs.length ys.length)).all (λj=>deq (xs.getD j .non) (ys.getD j .non))&&xs.length==ys.length)
 |[],[]=>rfl
 |[],y::ys=>by simp[cg]
 |x::xs,[]=>by simp[cg]
 |x::xs,y::ys=>by
  have e:min (x::xs).length (y::ys).length=(min xs.length ys.length)+1:=by simp only[da];omega
  rw[cg,rO xs ys,e,List.range_succ_eq_map,List.all_cons,List.all_map];simp only[List.getD_cons_zero,da,Bool.and_assoc];congr 1;congr 1;rw[fk];simp
def VV{xs ys:AS}(h:xs.length≠ys.length):cg xs ys=false:=by rw[rO];rw[show (xs.length==ys.length)=false from d4.mpr h,gl]
def lC:∀{xs:AS}{i:Nat},nrs xs=true->nr (xs.getD i .non)=true
 |[],_,_=>rfl
 |x::xs,0,h=>by rw[nrs,ae]at h;exact h.1
 |x::xs,i+1,h=>by rw[nrs,ae]at h;rw[List.getD_cons_succ];exact lC h.2
def lE:∀{xs:AS}{i:Nat},dpt (xs.getD i .non)<=bf xs
 |[],_=>cr _
 |x::xs,0=>by rw[bf,List.getD_cons_zero];omega
 |x::xs,i+1=>by rw[bf,List.getD_cons_succ];have:=@lE xs i;omega
section
variable {X:Cx} {p9:AC} {σ:L2.St} {H:Hp} {s:AI} {F:FZ}
mutual
theorem rP(I:Inv X p9 σ H s):∀{d d':D}{v:V},nr d=true->nr d'=true->Rep X.K H F d v->Rep X.K H F d' v->d=d'
 |.non,d',v,_,n',h,h'=>by
  have h:v=.non:=h;subst h;cases d' with
  |non=>rfl
  |bl _=>simp only[Rep]at h';cases h'
  |int _=>simp only[Rep]at h';cases h'
  |ref _=>simp only[Rep]at h';cases h'
  |scr _=>rw[nr]at n';cases n'
  |exn _=>rw[nr]at n';cases n'
  |exa _ _ _=>rw[nr]at n';cases n'
  |obj _ _ _=>rw[nr]at n';cases n'
  |dct _ _=>rw[nr]at n';cases n'
  |str _=>simp only[Rep]at h';obtain ⟨e,_⟩:=h';cases e
  |tup _=>simp only[Rep]at h';obtain ⟨_,_,e,_⟩:=h';cases e
  |lst _=>simp only[Rep]at h';obtain ⟨_,_,e,_⟩:=h';cases e
 |.bl b,d',v,_,n',h,h'=>by
  have h:v=.bl b:=h;subst h;cases d' with
  |non=>simp only[Rep]at h';cases h'
  |bl _=>simp only[Rep]at h';cases h';rfl
  |int _=>simp only[Rep]at h';cases h'
  |ref _=>simp only[Rep]at h';cases h'
  |scr _=>rw[nr]at n';cases n'
  |exn _=>rw[nr]at n';cases n'
  |exa _ _ _=>rw[nr]at n';cases n'
  |obj _ _ _=>rw[nr]at n';cases n'
  |dct _ _=>rw[nr]at n';cases n'
  |str _=>simp only[Rep]at h';obtain ⟨e,_⟩:=h';cases e
  |tup _=>simp only[Rep]at h';obtain ⟨_,_,e,_⟩:=h';cases e
  |lst _=>simp only[Rep]at h';obtain ⟨_,_,e,_⟩:=h';cases e
 |.int b,d',v,_,n',h,h'=>by
  have h:v=.int b:=h;subst h;cases d' with
  |non=>simp only[Rep]at h';cases h'
  |bl _=>simp only[Rep]at h';cases h'
  |int _=>simp only[Rep]at h';cases h';rfl
  |ref _=>simp only[Rep]at h';cases h'
  |scr _=>rw[nr]at n';cases n'
  |exn _=>rw[nr]at n';cases n'
  |exa _ _ _=>rw[nr]at n';cases n'
  |obj _ _ _=>rw[nr]at n';cases n'
  |dct _ _=>rw[nr]at n';cases n'
  |str _=>simp only[Rep]at h';obtain ⟨e,_⟩:=h';cases e
  |tup _=>simp only[Rep]at h';obtain ⟨_,_,e,_⟩:=h';cases e
  |lst _=>simp only[Rep]at h';obtain ⟨_,_,e,_⟩:=h';cases e
 |.str l,d',v,_,n',h,h'=>by
  obtain ⟨h,_⟩:=h;subst h;cases d' with
  |str l'=>
   obtain ⟨e,_⟩:=h';injection e with e;rw[BL e]
  |non=>simp only[Rep]at h';cases h'
  |bl _=>simp only[Rep]at h';cases h'
  |int _=>simp only[Rep]at h';cases h'
  |ref _=>simp only[Rep]at h';cases h'
  |scr _=>rw[nr]at n';cases n'
  |exn _=>rw[nr]at n';cases n'
  |exa _ _ _=>rw[nr]at n';cases n'
  |obj _ _ _=>rw[nr]at n';cases n'
  |dct _ _=>rw[nr]at n';cases n'
  |tup _=>simp only[Rep]at h';obtain ⟨_,_,e,_⟩:=h';cases e
  |lst _=>simp only[Rep]at h';obtain ⟨_,_,e,_⟩:=h';cases e
 |.tup xs,d',v,n,n',h,h'=>by
  obtain ⟨a,vs,e,q,t⟩:=h;subst e;cases d' with
  |tup ys=>
   obtain ⟨a',vs',e,q',t'⟩:=h';injection e with e;subst e;have:=I.tuple_inj q.sq q'.sq;subst this;rw[nr]at n n';rw[xr I n n' t t']
  |lst ys=>
   obtain ⟨a',vs',e,q',t'⟩:=h';injection e with e;subst e;obtain ⟨its,_,⟨o,e1,c1,_⟩,_⟩:=I.tuple q.sq;obtain ⟨its',_,⟨o',n',e2,c2,_⟩,_⟩:=I.list q'.sq;rw[e1]at e2;cases e2;rw[c1]at c2;exact absurd c2 (by ac_rfl)
  |ref _=>rw[nr]at n';cases n'
  |scr _=>rw[nr]at n';cases n'
  |exn _=>rw[nr]at n';cases n'
  |exa _ _ _=>rw[nr]at n';cases n'
  |obj _ _ _=>rw[nr]at n';cases n'
  |dct _ _=>rw[nr]at n';cases n'
  |str _=>simp only[Rep]at h';obtain ⟨e,_⟩:=h';cases e
  |non=>simp only[Rep]at h';cases h'
  |bl _=>simp only[Rep]at h';cases h'
  |int _=>simp only[Rep]at h';cases h'
 |.lst xs,d',v,n,n',h,h'=>by
  obtain ⟨a,vs,e,q,t⟩:=h;subst e;cases d' with
  |lst ys=>
   obtain ⟨a',vs',e,q',t'⟩:=h';injection e with e;subst e;have:=I.list_inj q.sq q'.sq;subst this;rw[nr]at n n';rw[xr I n n' t t']
  |tup ys=>
   obtain ⟨a',vs',e,q',t'⟩:=h';injection e with e;subst e;obtain ⟨its,_,⟨o,e1,c1,_⟩,_⟩:=I.tuple q'.sq;obtain ⟨its',_,⟨o',n',e2,c2,_⟩,_⟩:=I.list q.sq;rw[e1]at e2;cases e2;rw[c1]at c2;exact absurd c2 (by ac_rfl)
  |ref _=>rw[nr]at n';cases n'
  |scr _=>rw[nr]at n';cases n'
  |exn _=>rw[nr]at n';cases n'
  |exa _ _ _=>rw[nr]at n';cases n'
  |obj _ _ _=>rw[nr]at n';cases n'
  |dct _ _=>rw[nr]at n';cases n'
  |str _=>simp only[Rep]at h';obtain ⟨e,_⟩:=h';cases e
  |non=>simp only[Rep]at h';cases h'
  |bl _=>simp only[Rep]at h';cases h'
  |int _=>simp only[Rep]at h';cases h'
 |.ref a,d',v,n,_,_,_=>by rw[nr]at n;cases n
 |.scr a,d',v,n,_,_,_=>by rw[nr]at n;cases n
 |.exn a,d',v,n,_,_,_=>by rw[nr]at n;cases n
 |.exa _ _ _,d',v,n,_,_,_=>by rw[nr]at n;cases n
 |.obj _ _ _,d',v,n,_,_,_=>by rw[nr]at n;cases n
 |.dct _ _,d',v,n,_,_,_=>by rw[nr]at n;cases n
theorem xr(I:Inv X p9 σ H s):∀{ds ds':AS}{vs:AR},nrs ds=true->nrs ds'=true->Reps X.K H F ds vs->Reps X.K H F ds' vs->ds=ds'
 |[],[],_,_,_,_,_=>rfl
 |[],_::_,_,_,_,h,⟨v,r,e,_⟩=>by have h:_=[]:=h;rw[h]at e;cases e
 |_::_,[],_,_,_,⟨v,r,e,_⟩,h=>by have h:_=[]:=h;rw[h]at e;cases e
 |d::ds,d'::ds',_,n,n',⟨v,r,e,h,t⟩,⟨v',r',e',h',t'⟩=>by
  subst e;injection e' with e1 e2;subst e1;subst e2;rw[nrs,ae]at n n';rw[rP I n.1 n'.1 h h',xr I n.2 n'.2 t t']
end
theorem rQ{I:Inv X p9 Y H s}{ds:AS}{vs:AR}{its:AB}(t:Reps X.K H F ds vs)(r:Vals vs its)(j:Nat)(h:j < its.length):∃v,Rep X.K H F (ds.getD j .non) v/\RelV v its[j]:=by
 have hl:j < ds.length:=by rw[t.length,r.length];exact h
 have e1:ds[j]?=some (ds.getD j .non):=by rw[aE,ai hl];rfl
 obtain ⟨v,e2,r2⟩:=t.get e1;obtain ⟨u,e3,r3⟩:=r.get e2;rw[ai h]at e3;cases e3;exact ⟨v,r2,r3⟩
theorem V0(a b:AA):(tx a==tx b)=(a==b):=by rw[fk,a9,a9];exact ⟨λh=>BL h,λh=>by rw[h]⟩
theorem V1(I:Inv X p9 Y H s){n:Nat}{A:AM}{xs ys:AS}{a a':AQ}{vs vs':AR}{its its':AB}
  (ih:∀m,m < n->∀(A:AM)(d d':D)(v v':V)(u u':AN),A.units+m < cLine->min (dpt d) (dpt d')<=m->nr d=true->nr d'=true->Rep X.K H F d v->Rep X.K H F d' v'->RelV v u->RelV v' u'->
   SeqAt.RcAt A s u u' (deq d d')/\SeqAt.EqAt A s u u' (deq d d')/\SeqAt.RcNeAt A s u u' (!deq d d'))
  (hu:A.units+n < cLine) (hd:min (dpt (.tup xs)) (dpt (.tup ys))<=n) (n1:nr (.tup xs)=true) (n2:nr (.tup ys)=true) (h:Rep X.K H F (.tup xs) (.ref a)) (h':Rep X.K H F (.tup ys) (.ref a'))
  (pt:s.heap.IsTuple a its.toArray) (pt':s.heap.IsTuple a' its'.toArray) (rv:Vals vs its) (rv':Vals vs' its') (tt:Reps X.K H F xs vs) (tt':Reps X.K H F ys vs'):
  SeqAt.RcAt A s (.ref a) (.ref a') (deq (.tup xs) (.tup ys))/\SeqAt.EqAt A s (.ref a) (.ref a') (deq (.tup xs) (.tup ys))/\SeqAt.RcNeAt A s (.ref a) (.ref a') (!deq (.tup xs) (.tup ys)):=by
 have hd':min (bf xs+1) (bf ys+1)<=n:=by rw[dpt,dpt]at hd;exact hd
 have hn1:nrs xs=true:=by rw[nr]at n1;exact n1
 have hn2:nrs ys=true:=by rw[nr]at n2;exact n2
 have l1:its.toArray.size=xs.length:=by rw[av,<-rv.length,tt.length]
 have l2:its'.toArray.size=ys.length:=by rw[av,<-rv'.length,tt'.length]
 have he:∀j (h1:j < its.toArray.size) (h2:j < its'.toArray.size),SeqAt.EqAt A.in1 s its.toArray[j] its'.toArray[j] (deq (xs.getD j .non) (ys.getD j .non)):=by intro j h1 h2;obtain ⟨w1,q1,q2⟩:=rQ (I:=I) tt rv j (!!h1);obtain ⟨w2,q3,q4⟩:=rQ (I:=I) tt' rv' j (!!h2);have d1:=@lE xs j;have d2:=@lE ys j;exact (ih (n - 1) (!0) A.in1 _ _ w1 w2 _ _ (by show A.units+1+(n - 1) < cLine;omega) (!0) (lC hn1) (lC hn2) q1 q3 (!!q2) (!!q4)).2.1
 have e:deq (.tup xs) (.tup ys)=((List.range (min its.toArray.size its'.toArray.size)).all (λj=>deq (xs.getD j .non) (ys.getD j .non))&&its.toArray.size==its'.toArray.size):=by rw[deq,rO,l1,l2]
 have rc:SeqAt.RcAt A s (.ref a) (.ref a') (deq (.tup xs) (.tup ys)):=by rw[e];exact .tuples pt pt' (!0) he
 refine ⟨rc,?_,by rw[e];exact .tuples pt pt' (!0) he⟩;by_cases z:a=a'
 .subst z;have:=rP I n1 n2 h h';rw[<-this,ir n1];exact .same _
 .exact .of_refs z rc
theorem V2(I:Inv X p9 Y H s){n:Nat}{A:AM}{xs ys:AS}{a a':AQ}{vs vs':AR}{its its':AB}
  (ih:∀m,m < n->∀(A:AM)(d d':D)(v v':V)(u u':AN),A.units+m < cLine->min (dpt d) (dpt d')<=m->nr d=true->nr d'=true->Rep X.K H F d v->Rep X.K H F d' v'->RelV v u->RelV v' u'->
   SeqAt.RcAt A s u u' (deq d d')/\SeqAt.EqAt A s u u' (deq d d')/\SeqAt.RcNeAt A s u u' (!deq d d'))
  (hu:A.units+n < cLine) (hd:min (dpt (.lst xs)) (dpt (.lst ys))<=n) (n1:nr (.lst xs)=true) (n2:nr (.lst ys)=true) (h:a=a'->xs=ys)
  (pt:s.heap.IsList a its.toArray) (pt':s.heap.IsList a' its'.toArray) (rv:Vals vs its) (rv':Vals vs' its') (tt:Reps X.K H F xs vs) (tt':Reps X.K H F ys vs'):
  SeqAt.RcAt A s (.ref a) (.ref a') (deq (.lst xs) (.lst ys))/\SeqAt.EqAt A s (.ref a) (.ref a') (deq (.lst xs) (.lst ys))/\SeqAt.RcNeAt A s (.ref a) (.ref a') (!deq (.lst xs) (.lst ys)):=by
 have hd':min (bf xs+1) (bf ys+1)<=n:=by rw[dpt,dpt]at hd;exact hd
 have hn1:nrs xs=true:=by rw[nr]at n1;exact n1
 have hn2:nrs ys=true:=by rw[nr]at n2;exact n2
 have l1:its.toArray.size=xs.length:=by rw[av,<-rv.length,tt.length]
 have l2:its'.toArray.size=ys.length:=by rw[av,<-rv'.length,tt'.length]
 have eqs:∀(rc:SeqAt.RcAt A s (.ref a) (.ref a') (deq (.lst xs) (.lst ys))),SeqAt.EqAt A s (.ref a) (.ref a') (deq (.lst xs) (.lst ys)):=λrc=>by
  by_cases z:a=a'
  .have:=h z;subst z;subst this;rw[ir n1];exact .same _
  .exact .of_refs z rc
 by_cases hl:xs.length=ys.length
 .have he:∀j (h1:j < its.toArray.size) (h2:j < its'.toArray.size),SeqAt.EqAt A.in1 s its.toArray[j] its'.toArray[j] (deq (xs.getD j .non) (ys.getD j .non)):=by
   intro j h1 h2;obtain ⟨w1,q1,q2⟩:=rQ (I:=I) tt rv j (!!h1);obtain ⟨w2,q3,q4⟩:=rQ (I:=I) tt' rv' j (!!h2);have d1:=@lE xs j;have d2:=@lE ys j;exact (ih (n - 1) (!0) A.in1 _ _ w1 w2 _ _ (by show A.units+1+(n - 1) < cLine;omega) (!0) (lC hn1) (lC hn2) q1 q3 (!!q2) (!!q4)).2.1
  have e:deq (.lst xs) (.lst ys)=(List.range its.toArray.size).all (λj=>deq (xs.getD j .non) (ys.getD j .non)):=by rw[deq,rO,l1,hl,Nat.min_self];simp
  have rc:SeqAt.RcAt A s (.ref a) (.ref a') (deq (.lst xs) (.lst ys)):=by rw[e];exact .lists pt pt' (by rw[l1,l2];exact hl) (!0) he
  exact ⟨rc,eqs rc,by rw[e];exact .lists pt pt' (by rw[l1,l2];exact hl) (!0) he⟩
 .have e:deq (.lst xs) (.lst ys)=false:=by rw[deq];exact VV hl
  have hne:(its.toArray.size != its'.toArray.size)=true:=by rw[l1,l2];simpa using hl
  have rc:SeqAt.RcAt A s (.ref a) (.ref a') (deq (.lst xs) (.lst ys)):=by rw[e];exact .lists_lengths pt pt' hne (!0)
  exact ⟨rc,eqs rc,by rw[e];exact .lists_lengths pt pt' hne (!0)⟩
inductive Sh (K:PF) (H:Hp) (F:FZ) (s:AI):D->V->AN->Prop
 |non:Sh K H F s .non .non .none
 |bl {b:Bool}:Sh K H F s (.bl b) (.bl b) (.bool b)
 |int {i:Int} {t:Tok}:Sh K H F s (.int i) (.int i) (.int i t)
 |str {l:AA} {t:Tok}:Sh K H F s (.str l) (.str (tx l)) (.str (tx l) t)
 |tup {ds:AS} {a:AQ} {vs:AR} {its:AB} (p:s.heap.IsTuple a its.toArray) (r:Vals vs its) (t:Reps K H F ds vs):Sh K H F s (.tup ds) (.ref a) (.ref a)
 |lst {ds:AS} {a:AQ} {vs:AR} {its:AB} (p:s.heap.IsList a its.toArray) (r:Vals vs its) (t:Reps K H F ds vs):Sh K H F s (.lst ds) (.ref a) (.ref a)
theorem DW(I:Inv X p9 Y H s){d:D}{v:V}{u:AN}(n:nr d=true)(h:Rep X.K H F d v)(r:RelV v u):Sh X.K H F s d v u:=by
 cases d with
 |non=>have e:v=.non:=h;subst e;have e:u=Value.none:=r;subst e;exact .non
 |bl b=>have e:v=.bl b:=h;subst e;have e:u=Value.bool b:=r;subst e;exact .bl
 |int i=>have e:v=.int i:=h;subst e;obtain ⟨t,e⟩:∃t,u=Value.int i t:=r;subst e;exact .int
 |str l=>obtain ⟨e,_⟩:=h;subst e;obtain ⟨t,e⟩:∃t,u=Value.str (tx l) t:=r;subst e;exact .str
 |tup ds=>obtain ⟨a,vs,e,q,tt⟩:=h;subst e;have e:u=Value.ref a:=r;subst e;obtain ⟨its,rv,pt,_⟩:=I.tuple q.sq;exact .tup pt rv tt
 |lst ds=>obtain ⟨a,vs,e,q,tt⟩:=h;subst e;have e:u=Value.ref a:=r;subst e;obtain ⟨its,rv,pl,_⟩:=I.list q.sq;exact .lst pl.isList rv tt
 |_=>rw[nr]at n;cases n
theorem xu(I:Inv X p9 Y H s):∀(n:Nat)(A:AM)(d d':D)(v v':V)(u u':AN),A.units+n < cLine->min (dpt d) (dpt d')<=n->nr d=true->nr d'=true->Rep X.K H F d v->Rep X.K H F d' v'->RelV v u->RelV v' u'->
  SeqAt.RcAt A s u u' (deq d d')/\SeqAt.EqAt A s u u' (deq d d')/\SeqAt.RcNeAt A s u u' (!deq d d'):=by
 intro n;induction n using Nat.strongRecOn with
 |_ n ih=>
  intro A d d' v v' u u' hu hd n1 n2 h h' r r';have hu0:A.units < cLine:=by omega
  have k2:=DW I n2 h' r';cases DW I n1 h r with
  |non=>
   cases k2 with
   |non=>exact ⟨.none_none,.same _,.none_none⟩
   |bl=>exact ⟨.none_bool _,.none_bool _,.none_bool _⟩
   |int=>exact ⟨.none_int _ _,.none_int _ _,.none_int _ _⟩
   |str=>exact ⟨.none_str _ _,.none_str _ _,.none_str _ _⟩
   |tup p' rv' tt'=>exact ⟨.none_tuple p' hu0,.none_tuple p' hu0,.none_tuple p' hu0⟩
   |lst p' rv' tt'=>exact ⟨.none_list p' hu0,.none_list p' hu0,.none_list p' hu0⟩
  |bl=>
   cases k2 with
   |non=>exact ⟨.bool_none _,.bool_none _,.bool_none _⟩
   |bl=>exact ⟨.bool_bool _ _,.bool_bool _ _,.bool_bool _ _⟩
   |int=>exact ⟨.bool_int _ _ _,.bool_int _ _ _,.bool_int _ _ _⟩
   |str=>exact ⟨.bool_str _ _ _,.bool_str _ _ _,.bool_str _ _ _⟩
   |tup p' rv' tt'=>exact ⟨.bool_tuple _ p' hu0,.bool_tuple _ p' hu0,.bool_tuple _ p' hu0⟩
   |lst p' rv' tt'=>exact ⟨.bool_list _ p' hu0,.bool_list _ p' hu0,.bool_list _ p' hu0⟩
  |int=>
   cases k2 with
   |non=>exact ⟨.int_none _ _,.int_none _ _,.int_none _ _⟩
   |bl=>exact ⟨.int_bool _ _ _,.int_bool _ _ _,.int_bool _ _ _⟩
   |int=>exact ⟨.int_int _ _ _ _,.int_int _ _ _ _,.int_int _ _ _ _⟩
   |str=>exact ⟨.int_str _ _ _ _,.int_str _ _ _ _,.int_str _ _ _ _⟩
   |tup p' rv' tt'=>exact ⟨.int_tuple _ _ p' hu0,.int_tuple _ _ p' hu0,.int_tuple _ _ p' hu0⟩
   |lst p' rv' tt'=>exact ⟨.int_list _ _ p' hu0,.int_list _ _ p' hu0,.int_list _ _ p' hu0⟩
  |str=>
   cases k2 with
   |non=>exact ⟨.str_none _ _,.str_none _ _,.str_none _ _⟩
   |bl=>exact ⟨.str_bool _ _ _,.str_bool _ _ _,.str_bool _ _ _⟩
   |int=>exact ⟨.str_int _ _ _ _,.str_int _ _ _ _,.str_int _ _ _ _⟩
   |str=>rw[deq,<-V0];exact ⟨.str_str _ _ _ _,.str_str _ _ _ _,.str_str _ _ _ _⟩
   |tup p' rv' tt'=>exact ⟨.str_tuple _ _ p' hu0,.str_tuple _ _ p' hu0,.str_tuple _ _ p' hu0⟩
   |lst p' rv' tt'=>exact ⟨.str_list _ _ p' hu0,.str_list _ _ p' hu0,.str_list _ _ p' hu0⟩
  |tup p rv tt=>
   cases k2 with
   |non=>exact ⟨.tuple_none p hu0,.tuple_none p hu0,.tuple_none p hu0⟩
   |bl=>exact ⟨.tuple_bool _ p hu0,.tuple_bool _ p hu0,.tuple_bool _ p hu0⟩
   |int=>exact ⟨.tuple_int _ _ p hu0,.tuple_int _ _ p hu0,.tuple_int _ _ p hu0⟩
   |str=>exact ⟨.tuple_str _ _ p hu0,.tuple_str _ _ p hu0,.tuple_str _ _ p hu0⟩
   |tup p' rv' tt'=>exact V1 I ih hu hd n1 n2 h h' p p' rv rv' tt tt'
   |lst p' rv' tt'=>exact ⟨.tuple_list p p' hu0,.tuple_list p p' hu0,.tuple_list p p' hu0⟩
  |lst p rv tt=>
   cases k2 with
   |non=>exact ⟨.list_none p hu0,.list_none p hu0,.list_none p hu0⟩
   |bl=>exact ⟨.list_bool _ p hu0,.list_bool _ p hu0,.list_bool _ p hu0⟩
   |int=>exact ⟨.list_int _ _ p hu0,.list_int _ _ p hu0,.list_int _ _ p hu0⟩
   |str=>exact ⟨.list_str _ _ p hu0,.list_str _ _ p hu0,.list_str _ _ p hu0⟩
   |tup p' rv' tt'=>exact ⟨.list_tuple p p' hu0,.list_tuple p p' hu0,.list_tuple p p' hu0⟩
   |lst p' rv' tt'=>exact V2 I ih hu hd n1 n2 (λz=>by subst z;have e:=rP I n1 n2 h h';injection e) p p' rv rv' tt tt'
end
def FA(F:FZ)(G:DH):FZ:=λa=>F a\/∃o,G a=some o
def xF{H:Hp}{F:FZ}{G:DH}:Ext H F H (FA F G):=⟨λ_ f=>.inl f,λ_ _=>rfl,λ_ _ h=>h,λ_ _ _ h=>h⟩
def rR{K:PF}{H:Hp}{F:FZ}{G:DH}{d:D}{v:V}(r:R K H F G)(h:Rep K H F d v):Rep K H (FA F G) (view G d) v:=by
 cases d with
 |ref p=>
  have hv:v=.ref p:=h;cases g:G p with
  |none=>
   have e:view G (.ref p)=.ref p:=by simp only[view,g]
   rw[e];exact hv
  |some o=>
   cases o with
   |lst ds=>
    have e:view G (.ref p)=.lst ds:=by simp only[view,g]
    rw[e];obtain ⟨vs,q,t⟩:=r.lst g;exact ⟨p,vs,hv,⟨.inr ⟨_,g⟩,q⟩,Reps.ext xF t⟩
   |dct ks ds=>
    have e:view G (.ref p)=.dct ks ds:=by simp only[view,g]
    rw[e];obtain ⟨kv,q,hk,t⟩:=r.dct g;exact ⟨p,kv,hv,⟨.inr ⟨_,g⟩,q⟩,hk,Reps.ext xF t⟩
 |_=>exact Rep.ext xF h
def xG{a b:List Int}(h:aQ a=aQ b):a=b:=by unfold aQ at h;exact (List.map_inj_right λ_ _ e=>Sum.inl.inj e).mp h
def DX(n:List Int):(aQ n).map kV=n.map V.int:=by unfold aQ;rw[cb];rfl
def xH:∀(ks:List (List Int))(kv:List (List Key×V))(n:List Int),kv.map (·.1)=ks.map aQ->cA kv (aQ n)=(kIx ks n).bind λi=>(kv.map (·.2))[i]?
 |[],kv,n,h=>by cases List.map_eq_nil_iff.mp h;rfl
 |k::ks,[],n,h=>by cases h
 |k::ks,p::kv,n,h=>by
  have h1:p.1=aQ k:=(hU h).1;have h2:kv.map (·.1)=ks.map aQ:=(hU h).2;have ih:=xH ks kv n h2;by_cases e:k=n
  .subst e;rw[qO h1];simp[kIx,eR]
  .rw[qP (by rw[h1];exact λz=>e (xG z)),ih];unfold kIx;rw[eR,if_neg (!!e)];cases ks.findIdx? (λk=>decide (k=n)) <;> rfl
def DY{K:PF}{H:Hp}{F:FZ}:∀{ds:AS}{vs:AR}{ns:List Int},aZ ds=some ns->Reps K H F ds vs->vs=ns.map V.int
 |[],_,_,e,h=>by cases e;exact h
 |d::ds,_,ns,e,⟨v,r,ev,hd,ht⟩=>by
  cases d with
  |int i=>
   simp only[aZ]at e;cases q:aZ ds with
   |none=>rw[q]at e;cases e
   |some l=>
    rw[q]at e;cases e;rw[ev,DY q ht,show v=.int i from hd];rfl
  |_=>cases e
def jE{K:PF}{H:Hp}{F:FZ}{d:D}{v:V}{k:List Int->Prop}(h:Rep K H F d v)(q:bZ d k):∃n b,k n/\v=.ref b/\H b=some (.tup ((aQ n).map kV))/\d=.tup (n.map D.int):=by
 unfold bZ at q;split at q
 .rename_i l;split at q
  .rename_i ns e;obtain ⟨b,vs,hv,ht,rs⟩:=h;have e2:=DY e rs;subst e2;refine ⟨ns,b,q,hv,by rw[DX];exact ht.it,?_⟩;congr 1;clear rs ht hv q;induction l generalizing ns with
   |nil=>cases e;rfl
   |cons d l ih=>
    cases d with
    |int i=>
     simp only[aZ]at e;cases z:aZ l with
     |none=>rw[z]at e;cases e
     |some m=>rw[z]at e;cases e;rw[ih m z];rfl
    |_=>cases e
  .exact q.elim
 .exact q.elim
def rT{ks:List (List Int)}{kv:List (List Key×V)}{n:List Int}(h:kv.map (·.1)=ks.map aQ):(cA kv (aQ n)).isSome=(kIx ks n).isSome:=by
 rw[xH ks kv n h];cases e:kIx ks n with
 |none=>rfl
 |some i=>
  have hl:i < ks.length:=(dy.mp e).1;have hl2:kv.length=ks.length:=by have:=eT List.length h;simpa using this
  rw[Option.bind_some,ai (by rw[af];omega)];rfl
def rC2(K:PF)(f:D->D->(Bool->Prop)->Prop):R2:=λx y H Q=>∃F G a b,R K H F G/\Rep K H F a x/\Rep K H F b y/\f (view G a) (view G b) (λc=>PV K H F Q (.bl c) G)
section
variable {X:Cx}
theorem Ea(c:Nat)(l:AA):(!(Builtin.Str.occurrences (tx l) (tx [c]) 0 (tx l).length 1).isEmpty)=l.contains c:=by have:=StrLaws.found_one (tx l) c;rw[this,fk];simp
theorem V3{p9:AC}{Y:L2.St}{H:Hp}{s:AI}{F:FZ}(I:Inv X p9 Y H s){A:AM}{x:D}{v:V}{u:AN}(hu:A.units+64 < cLine)(hx:nr x=true)(rx:Rep X.K H F x v)(ru:RelV v u):
  ∀{ds:AS}{vs:AR}{us:AB},nrs ds=true->bf ds<=60->Reps X.K H F ds vs->Vals vs us->∃e:AN->Bool,(∀y∈us,SeqAt.EqAt A s y u (e y))/\us.any e=isIn x ds:=by
 intro ds vs us hn hd t r;let P:AN->D->Prop:=λy d=>nr d=true/\∃v,Rep X.K H F d v/\RelV v y
 have one:∀y d d',P y d->P y d'->d=d':=λy d d' ⟨n,v,q,z⟩ ⟨n',v',q',z'⟩=>by
  have e:=z.inj z';subst e;exact rP I n n' q q'
 have ⟨f,hf⟩:∃f:AN->D,∀y d,P y d->f y=d:=by refine ⟨λy=>Classical.epsilon (P y),λy d h=>?_⟩;exact one y _ _ (Classical.epsilon_spec ⟨d,h⟩) h
 refine ⟨λy=>deq (f y) x,?_,?_⟩
 .skip;have key:∀{ds:AS}{vs:AR}{us:AB},nrs ds=true->bf ds<=60->Reps X.K H F ds vs->Vals vs us->∀y∈us,SeqAt.EqAt A s y u (deq (f y) x):=by
   intro ds;induction ds with
   |nil=>
    intro vs us _ _ t r y hy;have t:vs=[]:=t;subst t;cases r;cases hy
   |cons d ds ih=>
    intro vs us hn hd t r y hy;obtain ⟨v1,r1,e,h1,t1⟩:=t;subst e;rw[nrs,ae]at hn;rw[bf]at hd;cases r with
    |cons p q=>
     rcases bB.mp hy with e |hy
     .subst e;rw[hf _ d ⟨hn.1,_,h1,p⟩];exact (xu I 60 A d x v1 v _ u (!0) (!0) hn.1 hx h1 rx p ru).2.1
     .exact ih hn.2 (!0) t1 q y hy
  exact key hn hd t r
 .have key:∀{ds:AS}{vs:AR}{us:AB},nrs ds=true->Reps X.K H F ds vs->Vals vs us->us.any (λy=>deq (f y) x)=isIn x ds:=by
   intro ds;induction ds with
   |nil=>
    intro vs us _ t r;have t:vs=[]:=t;subst t;cases r;rfl
   |cons d ds ih=>
    intro vs us hn t r;obtain ⟨v1,r1,e,h1,t1⟩:=t;subst e;rw[nrs,ae]at hn;cases r with
    |cons p q=>
     rw[List.any_cons,hf _ d ⟨hn.1,_,h1,p⟩,ih hn.2 t1 q];rfl
  exact key hn t r
theorem jF(op:CmpOp)(hu:X.A.units+100 < cLine):OpR X (compareOp op) (rC2 X.K (aX op)):=by
 intro p9 s Y H x y v u Q I rx ry h;obtain ⟨F,G,a,b,r,ra,rb,h⟩:=h;have ra':=rR r ra;have rb':=rR r rb;generalize view G a=va at h ra';generalize view G b=vb at h rb';have fin:∀c:Bool,PV X.K H F Q (.bl c) G->EP X p9 Y Q (.bool c) s:=λc q=>⟨.bl c,H,I,rfl,q.now r rfl⟩;have hin:∀(l:AS){vs:AR}{us:AB},inG va l->Reps X.K H (FA F G) l vs->Vals vs us->∃e:AN->Bool,(∀z∈us.toArray,SeqAt.EqAt X.A.in1 s z v (e z))/\us.toArray.any e=isIn va l:=λl {vs us} hh t rv=>by
  obtain ⟨e,he,hany⟩:=V3 I (A:=X.A.in1) (by show X.A.units+1+64 < cLine;omega) hh.1 ra' rx hh.2.1 hh.2.2 t rv;exact ⟨e,λw hw=>he w (!!hw),!!hany⟩
 have ii:∀{i j:Int},Rep X.K H (FA F G) (.int i) x->Rep X.K H (FA F G) (.int j) y->∃t t',v=.int i t/\u=.int j t':=λe1 e2=>by
  cases (show x=.int _ from e1);cases (show y=.int _ from e2);obtain ⟨t,e⟩:=rx;obtain ⟨t',e'⟩:=ry;exact ⟨t,t',e,e'⟩
 have ss:∀{i j:AA},Rep X.K H (FA F G) (.str i) x->Rep X.K H (FA F G) (.str j) y->∃t t',v=.str (tx i) t/\u=.str (tx j) t':=λe1 e2=>by
  cases e1.1;cases e2.1;obtain ⟨t,e⟩:=rx;obtain ⟨t',e'⟩:=ry;exact ⟨t,t',e,e'⟩
 have hnon:vH va=decide (x=.non):=by
  cases va with
  |non=>cases (show x=.non from ra');rfl
  |bl _=>cases (show x=.bl _ from ra');rfl
  |int _=>cases (show x=.int _ from ra');rfl
  |str _=>cases ra'.1;rfl
  |tup _=>obtain ⟨_,_,e1,_⟩:=ra';cases e1;rfl
  |lst _=>obtain ⟨_,_,e1,_⟩:=ra';cases e1;rfl
  |ref _=>cases (show x=.ref _ from ra');rfl
  |scr _=>obtain ⟨_,e1,_⟩:=ra';cases e1;rfl
  |exn _=>obtain ⟨_,_,e1,_⟩:=ra';cases e1;rfl
  |exa _ _ _=>obtain ⟨_,_,_,_,_,_,_,e1,_⟩:=ra';cases e1;rfl
  |obj _ _ _=>obtain ⟨_,_,_,e1,_⟩:=ra';cases e1;rfl
  |dct _ _=>obtain ⟨_,_,e1,_⟩:=ra';cases e1;rfl
 cases op with
 |Eq=>exact (xu I 60 X.A _ _ x y v u (!0) h.1.2.2 h.1.1 h.1.2.1 ra' rb' rx ry).1 _ _ _ _ (fin _ h.2)
 |NotEq=>exact (xu I 60 X.A _ _ x y v u (!0) h.1.2.2 h.1.1 h.1.2.1 ra' rb' rx ry).2.2 _ _ _ _ (fin _ h.2)
 |Lt=>
  have h:jr va vb (λc=>PV X.K H F Q (.bl c) G):=h;unfold jr at h;split at h
  .obtain ⟨t,t',e,e'⟩:=ii ra' rb';subst e e';exact lt_int (fin _ h)
  .obtain ⟨t,t',e,e'⟩:=ss ra' rb';subst e e';exact lt_str (fin _ h)
  .exact h.elim
 |LtE=>
  have h:jt va vb (λc=>PV X.K H F Q (.bl c) G):=h;unfold jt at h;split at h
  .obtain ⟨t,t',e,e'⟩:=ii ra' rb';subst e e';exact le_int (fin _ h)
  .obtain ⟨t,t',e,e'⟩:=ss ra' rb';subst e e';exact PySem.P.le_str (fin _ h)
  .exact h.elim
 |Gt=>
  have h:ju va vb (λc=>PV X.K H F Q (.bl c) G):=h;unfold ju at h;split at h
  .obtain ⟨t,t',e,e'⟩:=ii ra' rb';subst e e';exact gt_int (fin _ h)
  .exact h.elim
 |GtE=>
  have h:jw va vb (λc=>PV X.K H F Q (.bl c) G):=h;unfold jw at h;split at h
  .obtain ⟨t,t',e,e'⟩:=ii ra' rb';subst e e';exact ge_int (fin _ h)
  .exact h.elim
 |Is=>
  have h:jx va vb (λc=>PV X.K H F Q (.bl c) G):=h;unfold jx at h;split at h
  .cases (show y=.non from rb');exact Rg p9 s Y H _ _ v u Q I rx ry ⟨rfl,by rw[<-hnon];exact h.now r rfl⟩
  .split at h
   .cases (show x=.bl _ from ra');cases (show y=.bl _ from rb');exact TY p9 s Y H _ _ v u Q I rx ry ⟨_,_,rfl,rfl,h.now r rfl⟩
   .exact h.elim
  .exact h.elim
 |IsNot=>
  have h:jy va vb (λc=>PV X.K H F Q (.bl c) G):=h;unfold jy at h;split at h
  .cases (show y=.non from rb');exact Rh p9 s Y H _ _ v u Q I rx ry ⟨rfl,by rw[<-hnon];exact h.now r rfl⟩
  .split at h
   .cases (show x=.bl _ from ra');cases (show y=.bl _ from rb');exact T6 p9 s Y H _ _ v u Q I rx ry ⟨_,_,rfl,rfl,h.now r rfl⟩
   .exact h.elim
  .exact h.elim
 |In=>
  have h:fU va vb (λc=>PV X.K H F Q (.bl c) G):=h;unfold fU at h;split at h
  .split at h
   .obtain ⟨t,t',e,e'⟩:=ss ra' rb';subst e e';exact in_str (by rw[Ea];exact fin _ h)
   .exact h.elim
  .obtain ⟨p,vs,e2,q2,t⟩:=rb';cases e2;cases ry;obtain ⟨its,rv,pl,hz⟩:=I.list q2.sq;obtain ⟨e,he,hany⟩:=hin _ h.1 t rv;exact SeqAt.in_listAt e pl.isList he (by rw[hany];exact fin _ h.2)
  .obtain ⟨p,vs,e2,q2,t⟩:=rb';cases e2;cases ry;obtain ⟨its,rv,pl,hz⟩:=I.tuple q2.sq;obtain ⟨e,he,hany⟩:=hin _ h.1 t rv;exact SeqAt.in_tupleAt e pl he (by rw[hany];exact fin _ h.2)
  .obtain ⟨n,c,q,e1,eb,_⟩:=jE ra' h;obtain ⟨p,kv,e2,hp,hk,t⟩:=rb';cases e1;cases e2;cases ry;refine UV (!0) I (DGet.t hp.2 eb) rx λs' I'=>?_;rw[rT hk];exact ⟨.bl _,H,I',rfl,q.now r rfl⟩
  .exact h.elim
 |NotIn=>
  have h:fU va vb (λc=>PV X.K H F Q (.bl (!c)) G):=h;unfold fU at h;split at h
  .split at h
   .obtain ⟨t,t',e,e'⟩:=ss ra' rb';subst e e';exact notIn_str (by rw[Ea];exact fin _ h)
   .exact h.elim
  .obtain ⟨p,vs,e2,q2,t⟩:=rb';cases e2;cases ry;obtain ⟨its,rv,pl,hz⟩:=I.list q2.sq;obtain ⟨e,he,hany⟩:=hin _ h.1 t rv;exact SeqAt.notIn_listAt e pl.isList he (by rw[hany];exact fin _ h.2)
  .obtain ⟨p,vs,e2,q2,t⟩:=rb';cases e2;cases ry;obtain ⟨its,rv,pl,hz⟩:=I.tuple q2.sq;obtain ⟨e,he,hany⟩:=hin _ h.1 t rv;exact SeqAt.notIn_tupleAt e pl he (by rw[hany];exact fin _ h.2)
  .obtain ⟨n,c,q,e1,eb,_⟩:=jE ra' h;obtain ⟨p,kv,e2,hp,hk,t⟩:=rb';cases e1;cases e2;cases ry;refine UW (!0) I (DGet.t hp.2 eb) rx λs' I'=>?_;rw[rT hk];exact ⟨.bl _,H,I',rfl,q.now r rfl⟩
  .exact h.elim
end
section
variable {X:Cx}
def V4(K:PF):R2:=λx y H Q=>∃F G a b,R K H F G/\Rep K H F a x/\Rep K H F b y/\cN (view G a) b (λd=>PV K H F Q d G)
theorem Eb{K:PF}{H:Hp}{F:FZ}{ds:AS}{vs:AR}{i:Int}{d:D}(t:Reps K H F ds vs)(h:atI ds i=some d):∃v,atI vs i=some v/\Rep K H F d v:=by
 unfold atI at h ⊢;rw[<-t.length];cases e:ixN ds.length i with
 |none=>rw[e]at h;cases h
 |some j=>
  rw[e]at h;obtain ⟨v,e1,r⟩:=t.get (show ds[j]?=some d from h);exact ⟨v,e1,r⟩
theorem xJ{K:PF}{H:Hp}{F:FZ}{G:DH}{d:D}{v:V}{ks:List (List Int)}{ds:AS}(r:R K H F G)(h:Rep K H F d v)(e:view G d=.dct ks ds):∃p kv,v=.ref p/\H p=some (.dT kv)/\kv.map (·.1)=ks.map aQ/\Reps K H F ds (kv.map (·.2)):=by
 cases d with
 |dct ks' ds'=>
  have e':D.dct ks' ds'=.dct ks ds:=e;cases e';obtain ⟨a,kv,e1,q,hk,t⟩:=h;exact ⟨a,kv,e1,q.2,hk,t⟩
 |ref p=>
  have hv:v=.ref p:=h;unfold view at e;cases g:G p with
  |none=>simp only[g]at e;cases e
  |some o=>
   cases o with
   |lst xs=>simp only[g]at e;cases e
   |dct ks' xs=>
    simp only[g]at e;cases e;obtain ⟨kv,q,hk,t⟩:=r.dct g;exact ⟨p,kv,hv,q,hk,t⟩
 |_=>cases (show _=D.dct ks ds from e)
theorem V5{value slice:AO}{p9:AC}{s:AI}{Y:L2.St}{H:Hp}{p:AQ}{y z:V}{u:AN}{Q:VK}(hu:X.A.units+100 < cLine)(I:Inv X p9 Y H s)(g:DGet H p y (some z))(ry:RelV y u)
  (hs:subscripted slice false (.ref p) u=operate [.ref p,u] (getItem (.ref p) u)) (q:Q z H):↥X (subscriptTail value slice (.ref p) u) (EP X p9 Y Q) X.xe s:=by
 have hT:=U4 I g;unfold subscriptTail;refine ab ?_;rw[getitemInPython_of_ne hT.not_modules];refine ab (wpAny_specialOf hT slot_dict_getitem.lookup ?_);have fin:↥X (subscripted slice false (.ref p) u) (λr s₃=>↥X (letTemporaryGo value (.ref p) r >>= λ_=>pure r) (EP X p9 Y Q) X.xe s₃) X.xe s:=by rw[hs];exact wpAny_operating (UT (!0) I g ry λw' s' I' rw'=>ab (wpAny_letTemporaryGo (am ⟨z,H,I',rw',q⟩)))
 first
  |exact am (ab fin)
  |exact ab (am (ab fin))
  |exact ab fin
theorem V6{K:PF}{H:Hp}{F:FZ}{G:DH}{d i:D}{v y:V}{ks:List (List Int)}{ds:AS}{k:D->Prop}(r:R K H F G)(h:Rep K H F d v)(e:view G d=.dct ks ds)(hi:Rep K H F i y)
  (q:bZ i λn=>match kIx ks n with |some i=>(match ds[i]? with |some d=>k d |none=>False) |none=>False):∃p z d',v=.ref p/\DGet H p y (some z)/\Rep K H F d' z/\k d':=by
 obtain ⟨n,b,q,e1,eb,_⟩:=jE hi q;obtain ⟨p,kv,e2,hp,hk,t⟩:=xJ r h e;subst e1;split at q
 .rename_i j hj;split at q
  .rename_i d' hd;obtain ⟨z,hz,rz⟩:=t.get hd;have hv:cA kv (aQ n)=some z:=by rw[xH ks kv n hk,hj];exact hz
   exact ⟨p,z,d',e2,by rw[<-hv];exact DGet.t hp eb,rz,q⟩
  .exact q.elim
 .exact q.elim
theorem V7(hu:X.A.units+100 < cLine):IxR X (V4 X.K):=by
 intro value slice p9 s Y H x y v u Q I rx ry h hs;obtain ⟨F,G,a,b,r,ra,rb,h⟩:=h;generalize ea:view G a=va at h;unfold cN at h;split at h
 .obtain ⟨p,vs,e,q,t⟩:=Rep.list r ra ea;subst e;have e2:y=.int _:=rb;subst e2;split at h
  .rename_i d hd;obtain ⟨w,hw,rw'⟩:=Eb t hd;exact R8 value slice p9 s Y H _ _ v u Q I rx ry ⟨p,vs,_,w,rfl,rfl,q,hw,h.now r rw'⟩ hs
  .exact h.elim
 .cases fP ea;obtain ⟨p,vs,e,q,t⟩:=ra;subst e;have e2:y=.int _:=rb;subst e2;split at h
  .rename_i d hd;obtain ⟨w,hw,rw'⟩:=Eb t hd;exact R9 value slice p9 s Y H _ _ v u Q I rx ry ⟨p,vs,_,w,rfl,rfl,q.sq,hw,h.now r rw'⟩ hs
  .exact h.elim
 .cases gm ea;obtain ⟨e,hl⟩:=ra;subst e;have e2:y=.int _:=rb;subst e2;split at h
  .rename_i c hc;exact Sd value slice p9 s Y H _ _ v u Q I rx ry ⟨_,_,c,rfl,rfl,by rw[b8];exact di hl,hc,h.now r ⟨rfl,by show 1<=sz;decide⟩⟩ hs
  .exact h.elim
 .obtain ⟨p,z,d',e2,g,rz,q⟩:=V6 r ra ea rb h;subst e2;cases rx;exact V5 hu I g ry hs (q.now r rz)
 .exact h.elim
theorem V8(l:AA)(lo hi:Option Int):Txt.slice (tx l) lo hi=tx (cut l lo hi):=by
 have e:Builtin.Str.strSliceIndices lo hi 1 (tx l).length=sliceRange (sliceBounds lo hi none (tx l).length).1 (sliceBounds lo hi none (tx l).length).2.1 1:=by unfold Builtin.Str.strSliceIndices sliceBounds;cases lo <;> cases hi <;> rfl
 obtain ⟨h1,h2,h3⟩:=Bq lo hi (tx l).length;rw[h1,h2,sliceRange_one]at e;have e2:((Builtin.Str.strSliceIndices lo hi 1 (tx l).length).filterMap ((tx l).cps[·]?))=cut l lo hi:=by rw[e,pick_run];unfold cut;rw[b8]
 unfold Txt.slice;split
 .rename_i hh;rw[ae]at hh;have hl:=eq_of_beq hh.2;rw[e,af,b6,b8]at hl;have b1:HT.sIx l.length l.length hi<=l.length:=HT.Bh _ _ (ax _) hi;unfold cut;by_cases hz:l=[]
  .subst hz;simp
  .have hp:0 < l.length:=List.length_pos_iff.mpr hz;have e3:HT.sIx l.length 0 lo=0:=by omega
   have e4:HT.sIx l.length l.length hi=l.length:=by omega
   rw[e3,e4];simp
 .rw[e2]
theorem V9{α:Type}(xs:List α)(lo hi:Option Int):(cut xs lo hi).length<=xs.length:=by unfold cut;rw[eL,eM];omega
theorem Wa{prog:AK}{w:World}{A:AM}{E:AG}{s:AI}{t sl:AQ}{items:Array AN}{vl vu:AN}{lo hi:Option Int}{Q:AG}(ht:IsTup s.heap t items)(hs:s.heap.IsSliceOf sl vl vu .none)(pl:IsPart vl lo)(pu:IsPart vu hi)
  (hw:HT.sIx items.size 0 lo=0/\HT.sIx items.size items.size hi=items.size) (h:Q (.ref t) s):wpAny (model prog w) A (getItem (.ref t) (.ref sl)) Q E s:=by
 obtain ⟨os,hos,hcs,hds⟩:=id hs;have hTs:s.TypeIs (.ref sl) "slice":=⟨os,hos,hcs⟩;unfold getItem;try with_reducible refine dE ?_
 first |refine ab (am ?_) |skip
 refine ab (wpAny_sequenceKey ht.typeIs (!1) ?_);refine ab (de (name:=⇑"__getitem__") ht.typeIs cy
  (eW cy ht.typeIs entry_tuple_getitem ?_ (args_tuple_getitem _ _)))
 show wpAny _ _ (Builtin.Tuple.tupleItemsOf (.ref t) >>= _) _ _ s;refine ab (tupleItemsOf_ ht ?_);refine ab (wpAny_typeOf hTs ?_);rw[if_pos (!1)];refine ab (HT.Bk hs pl pu ?_);have hyes:(((HT.sIx items.size 0 lo:Nat):Int)==0&&(1:Int)==1&&(HT.sIx items.size items.size hi - HT.sIx items.size 0 lo)==items.size)=true:=by rw[hw.1,hw.2];simp
 show wpAny _ _ (if (((HT.sIx items.size 0 lo:Nat):Int)==0&&(1:Int)==1&&(HT.sIx items.size items.size hi - HT.sIx items.size 0 lo)==items.size)=true then _ else _) _ _ s;rw[if_pos hyes];refine ab (m:=Builtin.Tuple.tupleIsExact _) (ab (wpAny_typeOf ht.typeIs (am ?_)));rw[if_pos (!1)];exact ab (wpAny_rule (am ⟨_,rfl,am h⟩))
theorem Wb:SlR X (λx lo hi H Q=>∃a xs,x=.ref a/\SqT X.K H a xs/\(HT.sIx xs.length 0 lo=0/\HT.sIx xs.length xs.length hi=xs.length)/\Q (.ref a) H):=by
 intro p9 s Y H x v vl vu lo hi sl Q I rx hs pl pu h;obtain ⟨a,xs,rfl,hx,hw,q⟩:=h;cases rx;obtain ⟨its,r,ht,hz⟩:=I.tuple hx;have hlen:its.toArray.size=xs.length:=by rw[av];exact r.length.symm
 exact ⟨"tuple",_,cy.lookup,ht.typeIs,Wa ht hs pl pu (by rw[hlen];exact hw) ⟨.ref a,H,I,rfl,q⟩⟩
theorem lF{K:PF}{H:Hp}{F:FZ}:∀ns:List Int,Reps K H F (ns.map D.int) (ns.map V.int)
 |[]=>rfl
 |n::ns=>⟨_,_,rfl,rfl,lF ns⟩
def Wc(K:PF)(fz:Bool):V->Option Int->Option Int->Hp->VK->Prop:=λx lo hi H Q=>∃F G a,R K H F G/\Rep K H F a x/\dW fz (view G a) lo hi G (PV K H F Q)
theorem Ec{K:PF}{H:Hp}{F:FZ}{ds:AS}{vs:AR}(t:Reps K H F ds vs)(lo hi:Option Int):Reps K H F (cut ds lo hi) (dU vs lo hi):=t.cut lo hi
theorem Wd(fz:Bool):SlR X (Wc X.K fz):=by
 intro p9 s Y H x v vl vu lo hi sl Q I rx hs pl pu h;obtain ⟨F,G,a,r,ra,h⟩:=h;generalize ea:view G a=va at h;unfold dW at h;split at h
 .obtain ⟨p,vs,e,q,t⟩:=Rep.list r ra ea;subst e;exact Br p9 s Y H _ v vl vu lo hi sl Q I rx hs pl pu ⟨p,vs,rfl,q,dh h r (Ec t lo hi)⟩
 .rename_i ns;have ea':a=.scr ns:=by
   cases a with
   |ref p=>
    unfold view at ea;cases g:G p with
    |none=>simp only[g]at ea;cases ea
    |some o=>cases o <;> (simp only[g]at ea;cases ea)
   |_=>exact ea
  subst ea';obtain ⟨p,e,q⟩:=ra;subst e;refine Br p9 s Y H _ v vl vu lo hi sl Q I rx hs pl pu ⟨p,_,rfl,q.sq,dh h r ?_⟩;have e2:dU (ns.map V.int) lo hi=(cut ns lo hi).map V.int:=by unfold dU cut;rw[af,List.map_take,List.map_drop]
  rw[e2];exact lF (cut ns lo hi)
 .cases fP ea;obtain ⟨p,vs,e,q,t⟩:=id ra;subst e;by_cases hw:HT.sIx vs.length 0 lo=0/\HT.sIx vs.length vs.length hi=vs.length
  .refine Wb p9 s Y H _ v vl vu lo hi sl Q I rx hs pl pu ⟨p,vs,rfl,q.sq,hw,?_⟩;refine h.now r ?_;rename_i ds;have:cut ds lo hi=ds:=by
    unfold cut;rw[t.length,hw.1,hw.2];simp[<-t.length]
   rw[this];exact ra
  .exact R0 p9 s Y H _ v vl vu lo hi sl Q I rx hs pl pu ⟨p,vs,rfl,q.sq,hw,jD h r (Ec t lo hi)⟩
 .cases gm ea;obtain ⟨e,hl⟩:=ra;subst e;refine T5 p9 s Y H _ v vl vu lo hi sl Q I rx hs pl pu ⟨_,rfl,by rw[b8];exact di hl,?_⟩;rw[V8];exact h.now r ⟨rfl,ca (V9 _ _ _) hl⟩
 .exact h.elim
theorem Ed{K:PF}{H:Hp}{F:FZ}{G:DH}{d:D}{v:V}{b:Bool}(r:R K H F G)(h:Rep K H F d v)(e:truth (view G d)=some b):qI K v H b:=by
 have h':=rR r h;generalize view G d=w at e h';cases w with
 |non=>have e1:v=.non:=h';subst e1;simp only[truth,ba]at e;exact e.symm
 |bl x=>have e1:v=.bl x:=h';subst e1;simp only[truth,ba]at e;exact e.symm
 |int i=>have e1:v=.int i:=h';subst e1;simp only[truth,ba]at e;exact e.symm
 |str l=>
  obtain ⟨e1,hl⟩:=h';subst e1;simp only[truth,ba]at e;refine ⟨by rw[b8];exact di hl,?_⟩;rw[b8,<-e];cases l with
  |nil=>rfl
  |cons c l=>simp;omega
 |tup l=>
  obtain ⟨a,vs,e1,q,t⟩:=h';subst e1;simp only[truth,ba]at e;refine .inr (.inl ⟨vs,q.sq,?_⟩);rw[<-e];cases l with
  |nil=>have t:vs=[]:=t;subst t;rfl
  |cons c l=>obtain ⟨_,_,e2,_⟩:=t;subst e2;rfl
 |lst l=>
  obtain ⟨a,vs,e1,q,t⟩:=h';subst e1;simp only[truth,ba]at e;refine .inl ⟨vs,q.sq,?_⟩;rw[<-e];cases l with
  |nil=>have t:vs=[]:=t;subst t;rfl
  |cons c l=>obtain ⟨_,_,e2,_⟩:=t;subst e2;rfl
 |ref a=>simp[truth]at e
 |scr a=>simp[truth]at e
 |exn a=>simp[truth]at e
 |exa _ _ _=>simp[truth]at e
 |obj _ _ _=>simp[truth]at e
 |dct _ _=>simp[truth]at e
theorem xK{K:PF}{H:Hp}{F:FZ}:∀{ds:AS}{vs:AR}{bs:List Bool},bools ds=some bs->Reps K H F ds vs->vs=bs.map V.bl
 |[],_,bs,e,h=>by
  simp only[bools,ba]at e;subst e;exact h
 |d::ds,_,bs,e,⟨v,w,e1,h,t⟩=>by
  cases d with
  |bl b=>
   simp only[bools]at e;cases q:bools ds with
   |none=>rw[q]at e;cases e
   |some s=>
    rw[q]at e;cases e;have hv:v=.bl b:=h;rw[e1,hv,xK q t];rfl
  |_=>simp[bools]at e
theorem bC{K:PF}{H:Hp}{F:FZ}{d:D}{vs:AR}(t:Reps K H F [d] vs):∃v,vs=[v]/\Rep K H F d v:=by obtain ⟨v,r,e,h,t⟩:=t;have t:r=[]:=t;subst t;exact ⟨v,e,h⟩
def gD(K:PF)(f:Bf):AR->Hp->VK->Prop:=λvs H Q=>∃F G ds,R K H F G/\Reps K H F ds vs/\opB f (ds.map (view G)) (λd=>PV K H F Q d G)
theorem map_one{G:DH}{ds:AS}{x:D}(h:ds.map (view G)=[x]):∃d,ds=[d]/\view G d=x:=by
 match ds,h with
 |[d],h=>exact ⟨d,rfl,!!h⟩
theorem We:bh X (.builtin "len") (gD X.K .len):=by
 intro p9 s Y H xs us Q I rs h;obtain ⟨F,G,ds,r,t,h⟩:=h;generalize ea:ds.map (view G)=va at h;simp only[opB,vI]at h;split at h
 .obtain ⟨d,rfl,ev⟩:=map_one ea;obtain ⟨v,rfl,rv⟩:=bC t;obtain ⟨a,vs,e,q,t'⟩:=Rep.list r rv ev;subst e;exact Bt p9 s Y H _ us Q I rs ⟨a,vs,rfl,.inl q,by rw[<-t'.length];exact h.now r rfl⟩
 .obtain ⟨d,rfl,ev⟩:=map_one ea;obtain ⟨v,rfl,rv⟩:=bC t;cases fP ev;obtain ⟨a,vs,e,q,t'⟩:=rv;subst e;exact Bt p9 s Y H _ us Q I rs ⟨a,vs,rfl,.inr q.sq,by rw[<-t'.length];exact h.now r rfl⟩
 .obtain ⟨d,rfl,ev⟩:=map_one ea;obtain ⟨v,rfl,rv⟩:=bC t;cases gm ev;obtain ⟨e,hl⟩:=rv;subst e;exact Sv p9 s Y H _ us Q I rs ⟨_,rfl,by rw[b8];exact di hl,by rw[b8];exact h.now r rfl⟩
 .obtain ⟨d,rfl,ev⟩:=map_one ea;obtain ⟨v,rfl,rv⟩:=bC t;obtain ⟨a,kv,e,q,hk,t'⟩:=xJ r rv ev;subst e;have hl:=eT List.length hk;rw[af,af]at hl;exact Vh p9 s Y H _ us Q I rs ⟨a,kv,rfl,q,by rw[hl];exact h.now r rfl⟩
 .exact h.elim
theorem Wf (hc:X.calm=true):bh X (.builtin "all") (gD X.K .all):=by
 intro p9 s Y H xs us Q I rs h;obtain ⟨F,G,ds,r,t,h⟩:=h;generalize ea:ds.map (view G)=va at h;simp only[opB,qT]at h;split at h
 .obtain ⟨d,rfl,ev⟩:=map_one ea;obtain ⟨v,rfl,rv⟩:=bC t;obtain ⟨a,vs,e,q,t'⟩:=Rep.list r rv ev;subst e;split at h
  .rename_i bs hb;have e2:=xK hb t';subst e2;exact TX hc p9 s Y H _ us Q I rs ⟨a,bs,rfl,q,h.now r rfl⟩
  .exact h.elim
 .exact h.elim
theorem Wg (hc:X.calm=true):bh X (.builtin "any") (gD X.K .any):=by
 intro p9 s Y H xs us Q I rs h;obtain ⟨F,G,ds,r,t,h⟩:=h;generalize ea:ds.map (view G)=va at h;simp only[opB,qU]at h;split at h
 .obtain ⟨d,rfl,ev⟩:=map_one ea;obtain ⟨v,rfl,rv⟩:=bC t;obtain ⟨a,vs,e,q,t'⟩:=Rep.list r rv ev;subst e;split at h
  .rename_i bs hb;have e2:=xK hb t';subst e2;exact Vl hc p9 s Y H _ us Q I rs ⟨a,bs,rfl,q,h.now r rfl⟩
  .exact h.elim
 .exact h.elim
theorem Wh:bh X (.type "int") (gD X.K .int):=by
 intro p9 s Y H xs us Q I rs h;obtain ⟨F,G,ds,r,t,h⟩:=h;generalize ea:ds.map (view G)=va at h;simp only[opB,qW]at h;split at h
 .obtain ⟨d,rfl,ev⟩:=map_one ea;obtain ⟨v,rfl,rv⟩:=bC t;cases Vx ev;have e:v=.bl _:=rv;subst e;exact Ax p9 s Y H _ us Q I rs (.inr ⟨_,rfl,h.now r rfl⟩)
 .obtain ⟨d,rfl,ev⟩:=map_one ea;obtain ⟨v,rfl,rv⟩:=bC t;cases fQ ev;have e:v=.int _:=rv;subst e;exact Ax p9 s Y H _ us Q I rs (.inl ⟨_,rfl,h.now r rfl⟩)
 .obtain ⟨d,rfl,ev⟩:=map_one ea;obtain ⟨v,rfl,rv⟩:=bC t;cases gm ev;obtain ⟨e,hl⟩:=rv;subst e;split at h
  .rename_i n hn;exact T3 p9 s Y H _ us Q I rs ⟨_,n,rfl,hn,by rw[b8];exact h.1,h.2.now r rfl⟩
  .exact h.elim
 .exact h.elim
theorem Wi:bh X (.type "tuple") (gD X.K .tuple):=by
 intro p9 s Y H xs us Q I rs h;obtain ⟨F,G,ds,r,t,h⟩:=h;generalize ea:ds.map (view G)=va at h;simp only[opB,vJ]at h;split at h
 .obtain ⟨d,rfl,ev⟩:=map_one ea;obtain ⟨v,rfl,rv⟩:=bC t;obtain ⟨a,vs,e,q,t'⟩:=Rep.list r rv ev;subst e;exact Bv p9 s Y H _ us Q I rs ⟨a,vs,rfl,.inl ⟨q,jD h r t'⟩⟩
 .obtain ⟨d,rfl,ev⟩:=map_one ea;obtain ⟨v,rfl,rv⟩:=bC t;cases fP ev;obtain ⟨a,vs,e,q,t'⟩:=id rv;subst e;exact Bv p9 s Y H _ us Q I rs ⟨a,vs,rfl,.inr ⟨q.sq,h.now r rv⟩⟩
 .exact h.elim
def xM(K:PF)(fz:Bool)(f:Lf):AR->Hp->VK->Prop:=λvs H Q=>∃F G ds,R K H F G/\Reps K H F ds vs/\cG f (ds.map (view G)) (λxs=>mk fz xs G (PV K H F Q))
theorem Wj(l:AA):∀(us:AB),us.length=l.length->(∀(j:Nat)(v:AN),us[j]?=some v->∃(c:Nat)(u:Tok),l[j]?=some c/\v=Value.str ⟨#[c]⟩ u)->Vals (l.map λc=>V.str (tx [c])) us:=by
 induction l with
 |nil=>intro us h _;cases us with |nil=>exact .nil |cons _ _=>cases h
 |cons c l ih=>
  intro us h q;cases us with
  |nil=>cases h
  |cons u us=>
   obtain ⟨c',t,e1,e2⟩:=q 0 u (by simp);have e1:c=c':=by simpa using e1
   subst e1;exact .cons ⟨t,e2⟩ (ih us (!!h) λj v hv=>by simpa using q (j+1) v (!!hv))
theorem Wl (hc:X.calm=true):bh X (.type "list") (λxs H Q=>∃l:AA,xs=[.str (tx l)]/\l.length<=sizeLine/\∀p,H p=none->Q (.ref p) (upd H p (.lst (l.map λc=>V.str (tx [c]))))):=by
 intro p9 s Y H xs us Q I r h;obtain ⟨l,rfl,hz,q⟩:=h;obtain ⟨u,rfl,t,rfl⟩:=vals1 r;have hz':(tx l).cps.size<=sizeLine:=by simpa using hz
 refine call_list_str (hn:=hz') (I.ok.hd hc) (tx l) t λh' tk acc' c' kp e hi=>?_;have hv:Vals (l.map λc=>V.str (tx [c])) acc'.toList:=by
  refine Wj l _ ?_ λj v hv=>?_
  .rw[cq,hi.1];simp
  .obtain ⟨c,u,e1,e2⟩:=hi.2 j v (by rw[<-fg];exact hv);exact ⟨c,u,!!e1,e2⟩
 exact ⟨.ref (~~~s),_,I.laid (t':=tk) kp (ax _) (show ObjOk X.prog X.w _ h' _ (.lst _) from ⟨by rw[af];exact hz,acc'.toList,c',hv,by rw[Array.toArray_toList];exact e⟩),rfl,q _ (I.hok.fresh (ax _))⟩
theorem xN{K:PF}{H:Hp}{F:FZ}:∀l:AA,Reps K H F (l.map λc=>D.str [c]) (l.map λc=>V.str (tx [c]))
 |[]=>rfl
 |c::l=>⟨_,_,rfl,⟨rfl,by show 1<=sz;decide⟩,xN l⟩
theorem Ef{K:PF}{H:Hp}{F:FZ}:∀{ks:List (List Int)}{kv:List (List Key×V)}{as:List AQ},kv.map (·.1)=ks.map aQ->Paired (λ(k:List Key×V) (a:AQ)=>H a=some (.tup (k.1.map kV))) kv as->Reps K H F (ks.map λn=>.tup (n.map D.int)) (as.map V.ref)
 |[],_,_,h,p=>by cases List.map_eq_nil_iff.mp h;cases p;exact rfl
 |k::ks,[],_,h,_=>by cases h
 |k::ks,q::kv,_,h,p=>by
  have h1:q.1=aQ k:=(hU h).1;cases p with
  |cons a t=>
   rw[h1,DX]at a;exact ⟨_,_,rfl,⟨_,_,rfl,⟨a⟩,lF k⟩,Ef (hU h).2 t⟩
theorem Wm (hc:X.calm=true) (fz:Bool):bh X (.type "list") (xM X.K fz .list):=by
 intro p9 s Y H xs us Q I rs h;obtain ⟨F,G,ds,r,t,h⟩:=h;generalize ea:ds.map (view G)=va at h;simp only[cG,vM]at h;split at h
 .obtain ⟨d,rfl,ev⟩:=map_one ea;obtain ⟨v,rfl,rv⟩:=bC t;obtain ⟨a,vs,e,q,t'⟩:=Rep.list r rv ev;subst e;exact Bu p9 s Y H _ us Q I rs ⟨a,vs,rfl,.inl q,dh h r t'⟩
 .obtain ⟨d,rfl,ev⟩:=map_one ea;obtain ⟨v,rfl,rv⟩:=bC t;cases fP ev;obtain ⟨a,vs,e,q,t'⟩:=id rv;subst e;exact Bu p9 s Y H _ us Q I rs ⟨a,vs,rfl,.inr q.sq,dh h r t'⟩
 .obtain ⟨d,rfl,ev⟩:=map_one ea;obtain ⟨v,rfl,rv⟩:=bC t;cases gm ev;obtain ⟨e,hl⟩:=rv;subst e;exact Wl hc p9 s Y H _ us Q I rs ⟨_,rfl,di hl,dh h r (xN _)⟩
 .obtain ⟨d,rfl,ev⟩:=map_one ea;obtain ⟨v,rfl,rv⟩:=bC t;obtain ⟨a,kv,e,q,hk,t'⟩:=xJ r rv ev;subst e;exact Vi hc p9 s Y H _ us Q I rs ⟨a,kv,rfl,q,λas pr=>dh h r (Ef hk pr)⟩
 .exact h.elim
theorem rW{K:PF}{H:Hp}{F:FZ}:∀{ds:AS}{vs:AR}{ls:List (AA)},bw ds=some ls->Reps K H F ds vs->vs=(ls.map tx).map V.str
 |[],_,bs,e,h=>by
  simp only[bw,ba]at e;subst e;exact h
 |d::ds,_,bs,e,⟨v,w,e1,h,t⟩=>by
  cases d with
  |str b=>
   simp only[bw]at e;cases q:bw ds with
   |none=>rw[q]at e;cases e
   |some s=>
    rw[q]at e;cases e;obtain ⟨hv,_⟩:=h;rw[e1,hv,rW q t];rfl
  |_=>simp[bw]at e
theorem rY{K:PF}{H:Hp}{F:FZ}:∀{ds:AS}{vs:AR}{ns:List Int},aZ ds=some ns->Reps K H F ds vs->vs=ns.map V.int
 |[],vs,ns,e,t=>by
  simp only[aZ,ba]at e;subst e;have t:vs=[]:=t;rw[t];rfl
 |d::ds,vs,ns,e,t=>by
  obtain ⟨v,r,e1,h,t⟩:=t;cases d with
  |int b=>
   simp only[aZ]at e;cases q:aZ ds with
   |none=>rw[q]at e;cases e
   |some s=>
    rw[q]at e;cases e;have hv:v=.int b:=h;rw[e1,hv,rY q t];rfl
  |_=>simp[aZ]at e
theorem Eg:∀{ns:List Int}{its:AB},Vals (ns.map V.int) its->IntsAre its ns
 |[],its,h=>by cases h;exact .nil
 |n::ns,its,h=>by
  cases h with
  |cons a b=>
   obtain ⟨t,rfl⟩:=a;exact .cons n t (Eg b)
theorem Wn:bootBuiltins "sorted"=some (.builtin "sorted"):=by ac_rfl
theorem xO:∀{ls:List (AA)}{its:AB},Vals ((ls.map tx).map V.str) its->StrsAre its (ls.map tx)
 |[],its,h=>by cases h;exact .nil
 |n::ns,its,h=>by
  cases h with
  |cons a b=>
   obtain ⟨t,rfl⟩:=a;exact .cons _ t (xO b)
theorem Eh:∀{ss:AD}{its:AB},StrsAre its ss->Vals (ss.map V.str) its
 |_,_,.nil=>.nil
 |_,_,.cons y t h=>.cons ⟨t,rfl⟩ (Eh h)
theorem Wo{ss:AD}{ls:List (AA)}(h:ss.Perm (ls.map tx)):∃ls':List (AA),ss=ls'.map tx/\ls'.Perm ls:=by
 refine ⟨ss.map λs=>s.cps.toList,?_,?_⟩
 .rw[cb];refine (List.map_id ss).symm.trans (b9 λs _=>?_);show s=tx s.cps.toList;exact qL s
 .have:=h.map λs=>s.cps.toList;rw[cb]at this;have e:(λs:Str=>s.cps.toList)∘tx=id:=by funext l;rfl
  rw[e,List.map_id]at this;exact this
theorem Wq:bh X (.builtin "sorted") (λxs H Q=>∃(p:AQ) (ls:List (AA)),xs=[.ref p]/\SqL X.K H p ((ls.map tx).map V.str)/\ls.length < 64/\∀ls':List (AA),ls'.Perm ls->PyProof.Rows.sortedS (ls'.map tx)=true->∀l,H l=none->Q (.ref l) (upd H l (.lst ((ls'.map tx).map V.str)))):=by
 intro p9 s Y H xs us Q I r h;obtain ⟨p,ls,rfl,hq,h64,q⟩:=h;obtain ⟨u,rfl,ru⟩:=vals1 r;cases ru;obtain ⟨its,rv,pl,hz⟩:=I.list hq;have hlen:its.length=ls.length:=by rw[<-rv.length];simp
 refine sorted_strs pl.isList (xO rv) (!0) λout ss' a1 a2 a3=>?_;obtain ⟨ls',rfl,pm⟩:=Wo a2;obtain ⟨e,he⟩:=sortedAll_at s.heap its out;have hsz:((ls'.map tx).map V.str).length<=sizeLine:=by rw[af,af,pm.length_eq];exact ca (Nat.le_of_lt h64) (!1)
 exact ⟨.ref ((~~~s)+1),_,I.laid (t':=s.toks) (λ_ _=>sortedAll_old) (gg _) (show ObjOk X.prog X.w _ _ _ (.lst ((ls'.map tx).map V.str)) from ⟨hsz,out.toList,e,Eh a1,he⟩),rfl,q ls' pm a3 _ (I.hok.fresh (gg _))⟩
theorem Ei{K:PF}{H:Hp}{F:FZ}:∀{ls:List (AA)},(∀l∈ls,l.length<=sz)->Reps K H F (ls.map D.str) ((ls.map tx).map V.str)
 |[],_=>rfl
 |l::ls,h=>⟨_,_,rfl,⟨rfl,h l bg⟩,Ei λx hx=>h x (bi _ hx)⟩
theorem xP{K:PF}{H:Hp}{F:FZ}:∀{ds:AS}{vs:AR}{ls:List (AA)},bw ds=some ls->Reps K H F ds vs->∀l∈ls,l.length<=sz
 |[],vs,ls,e,t=>by simp only[bw,ba]at e;subst e;intro l hl;cases hl
 |d::ds,vs,ls,e,t=>by
  obtain ⟨v,r,e1,h,t⟩:=t;cases d with
  |str b=>
   simp only[bw]at e;cases q:bw ds with
   |none=>rw[q]at e;cases e
   |some s=>
    rw[q]at e;cases e;intro l hl;rcases bB.mp hl with e |hl
    .rw[e];exact h.2
    .exact xP q t l hl
  |_=>simp[bw]at e
theorem Wr (fz:Bool):bh X (.builtin "sorted") (xM X.K fz .sorted):=by
 intro p9 s Y H xs us Q I rs h;obtain ⟨F,G,ds,r,t,h⟩:=h;generalize ea:ds.map (view G)=va at h;simp only[cG,lu]at h;split at h
 .obtain ⟨d,rfl,ev⟩:=map_one ea;obtain ⟨v,rfl,rv⟩:=bC t;obtain ⟨a,vs,e,q,t'⟩:=Rep.list r rv ev;subst e;split at h
  .rename_i ls hb;have e2:=rW hb t';have hsz:=xP hb t';subst e2;exact Wq p9 s Y H _ us Q I rs ⟨a,ls,rfl,q,h.1,λls' pm so=>dh (h.2 ls' pm so) r (Ei λl hl=>hsz l (pm.mem_iff.mp hl))⟩
  .exact h.elim
 .obtain ⟨d,rfl,ev⟩:=map_one ea;obtain ⟨v,rfl,rv⟩:=bC t;cases fP ev;obtain ⟨a,vs,e,q,t'⟩:=rv;subst e;split at h
  .rename_i ns hb;have e2:=rY hb t';subst e2;exact Ul p9 s Y H _ us Q I rs ⟨a,ns,rfl,q.sq,h.1,λns' pm so=>dh (h.2 ns' pm so) r (lF ns')⟩
  .exact h.elim
 .exact h.elim
theorem Ej(val:Nat->AA):∀k,argBest (λi j=>decide (val i < val j)) k<=k/\∀j,j<=k->¬val j < val (argBest (λi j=>decide (val i < val j)) k)
 |0=>⟨ax _,λj hj=>by
  have:j=0:=by omega
  subst this;exact List.lt_irrefl _⟩
 |k+1=>by
  obtain ⟨h1,h2⟩:=Ej val k;simp only[argBest];by_cases hc:val (k+1) < val (argBest (λi j=>decide (val i < val j)) k)
  .rw[if_pos (!!hc)];refine ⟨ax _,λj hj=>?_⟩;rcases Nat.lt_or_ge j (k+1) with hlt |hge
   .exact λh=>h2 j (!0) (List.lt_trans h hc)
   .have:j=k+1:=by omega
    subst this;exact List.lt_irrefl _
  .rw[if_neg (!!hc)];refine ⟨!0,λj hj=>?_⟩;rcases Nat.lt_or_ge j (k+1) with hlt |hge
   .exact h2 j (!0)
   .have:j=k+1:=by omega
    subst this;exact hc
section
variable {prog:AK} {w:World} {A:AM} {E:AG} {s:AI} {l:AQ}
theorem rZ:∀{its:AB}{ls:List (AA)}{i:Nat}{v:AN},StrsAre its (ls.map tx)->its[i]?=some v->∃t,v=.str (tx (ls.getD i [])) t
 |[],ls,i,v,_,h=>by simp at h
 |x::its,[],i,v,hs,h=>by cases hs
 |x::its,a::ls,0,v,hs,h=>by
  cases hs with
  |cons y t q=>exact ⟨t,!!h.symm⟩
 |x::its,a::ls,i+1,v,hs,h=>by
  cases hs with
  |cons y t q=>
   have:=rZ (i:=i) (v:=v) q (!!h);simpa using this
theorem Ws{Q:AG}{its:AB}{ls:List (AA)}(hh:A.handled=none)(hl:s.heap.IsList l its.toArray)(hs:StrsAre its (ls.map tx))(hn:its.length=ls.length)(hne:0 < ls.length)
  (h:∀(m:AA)(t:Tok)(h':Heap)(tk:Nat),m∈ls->(∀a,a∈ls->¬a < m)->(∀b o,s.heap.get? b=some o->h'.get? b=some o)->Q (.str (tx m) t) { s with heap:=h',toks:=tk }):
  wpAny (model prog w) A (call (.builtin "min") [.ref l]) Q E s:=by
 have hlt:l < (~~~s):=by obtain ⟨_,e,_⟩:=hl;exact ay e
 refine call_min_walk (fv hl ?_);refine ⟨_,_,_,_,_,_,λi j=>decide (ls.getD i [] < ls.getD j []),rfl,Walks.list (A:=A.in1) hh _ l (b3 hlt) its.toArray,⟨⟨_,aI _ rfl,rfl,rfl⟩,hl.push _⟩,?_,?_,?_,?_⟩
 .intro b hb;show b < (s.heap.push _).objs.size;rw[dA];rcases bB.mp hb with rfl |hb
  .exact Nat.lt_succ_self _
  .rcases bB.mp hb with rfl |hb
   .exact fq hlt
   .cases hb
 .simpa [hn] using hne
 .intro i j vi vj s Q E hi hj h;obtain ⟨t,rfl⟩:=rZ hs (!!hi);obtain ⟨u,rfl⟩:=rZ hs (!!hj);exact richCompare_gives (op:=.Lt) (typeIs_str s _ t) (typeIs_str s _ u) F.slot_str_lt F.entry_str_lt (F.args_str_lt_2 _ _) (gives_str_lt _ _ t u) (λe=>nomatch e) h
 .intro v h' tk hP hk;obtain ⟨t,rfl⟩:=rZ hs (show its[_]?=some v by rw[<-List.getElem?_toArray];exact hP);obtain ⟨b1,b2⟩:=Ej (λi=>ls.getD i []) (its.toArray.size - 1);have hsz:its.toArray.size=ls.length:=by simpa using hn
  refine h _ t h' tk ?_ (λa ha=>?_) (old_kept hk)
  .rw[aE,ai (!0)];exact cp _
  .obtain ⟨j,hj,rfl⟩:=List.getElem_of_mem ha;have:=b2 j (!0);rwa [show ls.getD j []=ls[j] by rw[aE,ai hj];rfl]at this
end
theorem Wt (hc:X.calm=true):bh X (.builtin "min") (λxs H Q=>∃(p:AQ) (ns:List Int),xs=[.ref p]/\SqL X.K H p (ns.map V.int)/\ns≠[]/\∀m,m∈ns->(∀a,a∈ns->m<=a)->Q (.int m) H):=by
 intro p9 s Y H xs us Q I r h;obtain ⟨p,ns,rfl,hq,hne,q⟩:=h;obtain ⟨u,rfl,ru⟩:=vals1 r;cases ru;obtain ⟨its,rv,pl,hz⟩:=I.list hq;have hi:=Eg rv;obtain ⟨xs,ex⟩:=hi.allInts.items;have hl:=pl.isList;rw[ex]at hl;have e1:xs.toList.map (·.1)=ns:=by rw[<-PySem.nums_intItems,<-ex];exact hi.numsOf
 have hsz:0 < xs.size:=by have:=List.length_pos_iff.mpr hne;rw[<-e1,af,cq]at this;exact this
 refine PySem.min_intList (I.ok.hd hc) hl hsz λv h' tk hv hk=>?_;obtain ⟨t,rfl⟩:=PySem.intItems_at hv;obtain ⟨b1,b2⟩:=PySem.argBest_lt (PySem.numAt xs) (xs.size - 1);refine ⟨.int _,H,I.kept hk,⟨t,rfl⟩,q _ ?_ λa ha=>?_⟩
 .rw[<-e1,PySem.numAt_eq];exact PySem.getD_mem (by rw[af,cq];omega)
 .rw[<-e1]at ha;obtain ⟨j,hj,rfl⟩:=PySem.mem_getD ha;rw[af,cq]at hj;rw[<-PySem.numAt_eq];exact b2 j (!0)
theorem Wu (hc:X.calm=true):bh X (.builtin "min") (λxs H Q=>∃(p:AQ) (ls:List (AA)),xs=[.ref p]/\SqL X.K H p ((ls.map tx).map V.str)/\ls≠[]/\∀m,m∈ls->(∀a,a∈ls->¬a < m)->Q (.str (tx m)) H):=by
 intro p9 s Y H xs us Q I r h;obtain ⟨p,ls,rfl,hq,hne,q⟩:=h;obtain ⟨u,rfl,ru⟩:=vals1 r;cases ru;obtain ⟨its,rv,pl,hz⟩:=I.list hq;have hlen:its.length=ls.length:=by rw[<-rv.length];simp
 refine Ws (I.ok.hd hc) pl.isList (xO rv) hlen (List.length_pos_iff.mpr hne) λm t h' tk h1 h2 hk=>?_;exact ⟨.str (tx m),H,I.kept hk,⟨t,rfl⟩,q m h1 h2⟩
theorem Wv{ds:AS}{ls:List (AA)}(h0:aZ ds=none)(h1:bw ds=some ls):ls≠[]:=by
 rintro rfl;cases ds with
 |nil=>simp[aZ]at h0
 |cons x y=>cases x <;> simp only[bw]at h1 <;> first | (cases h1;done) | (cases hd:bw y <;> rw[hd]at h1 <;> cases h1)
theorem Ww (hc:X.calm=true):bh X (.builtin "min") (gD X.K .min):=by
 intro p9 s Y H xs us Q I rs h;obtain ⟨F,G,ds,r,t,h⟩:=h;generalize ea:ds.map (view G)=va at h;simp only[opB,lr]at h;split at h
 .obtain ⟨d,rfl,ev⟩:=map_one ea;obtain ⟨v,rfl,rv⟩:=bC t;obtain ⟨a,vs,e,q,t'⟩:=Rep.list r rv ev;subst e;split at h
  .rename_i ns hb;have e2:=rY hb t';subst e2;exact Wt hc p9 s Y H _ us Q I rs ⟨a,ns,rfl,q,h.1,λm h1 h2=>(h.2 m h1 h2).now r rfl⟩
  .split at h
   .rename_i hb0 _ ls hb;have e2:=rW hb t';have hsz:=xP hb t';subst e2;refine Wu hc p9 s Y H _ us Q I rs ⟨a,ls,rfl,q,?_,λm h1 h2=>(h m h1 h2).now r ⟨rfl,hsz m h1⟩⟩;exact Wv (by assumption) hb
   .exact h.elim
 .exact h.elim
theorem Wx:bootBuiltins "min"=some (.builtin "min"):=by ac_rfl
theorem Wy:bh X (.type "str") (gD X.K .str):=by
 intro p9 s Y H xs us Q I r h;obtain ⟨F,G,ds,rr,t,h⟩:=h;generalize ea:ds.map (view G)=va at h;simp only[opB,vL]at h;split at h
 .rename_i i;obtain ⟨d',rfl,ev⟩:=map_one ea;obtain ⟨v',rfl,rv⟩:=bC t;have e1:=fQ ev;subst e1;have e2:v'=.int i:=rv;subst e2;obtain ⟨⟨h0,h1⟩,h2⟩:=h;have hm:(i.toNat:Int)=i:=Int.toNat_of_nonneg h0;have hl:(gB i.toNat).length<=3:=by
   have:=digits_le ⟨i.toNat,!0⟩;unfold gB;rw[cq];exact this
  have hs:=h2.now rr (v:=.str (tx (gB i.toNat))) ⟨rfl,by have hz:sz=1000000:=rfl;omega⟩;have ht:tx (gB i.toNat)=vg i.toNat:=(qL _).symm;rw[ht]at hs;exact Ub p9 s Y H _ us Q I r ⟨i.toNat,by rw[hm],!0,hs⟩
 .exact h.elim
def dj:D->Option AL
 |.non=>some "NoneType"
 |.bl _=>some "bool"
 |.int _=>some "int"
 |.str _=>some "str"
 |.tup _=>some "tuple"
 |.lst _=>some "list"
 |_=>none
theorem Wz{K:PF}{H:Hp}{F:FZ}{G:DH}{d:D}{v:V}{T:AL}(r:R K H F G)(h:Rep K H F d v)(e:dj (view G d)=some T):TyOf K H v (.type T):=by
 have h':=rR r h;generalize view G d=w at e h';cases w with
 |non=>have e1:v=.non:=h';subst e1;simp only[dj,ba]at e;subst e;exact .non
 |bl x=>have e1:v=.bl x:=h';subst e1;simp only[dj,ba]at e;subst e;exact .bl x
 |int i=>have e1:v=.int i:=h';subst e1;simp only[dj,ba]at e;subst e;exact .int i
 |str l=>obtain ⟨e1,hl⟩:=h';subst e1;simp only[dj,ba]at e;subst e;exact .str _
 |tup l=>obtain ⟨a,vs,e1,q,t⟩:=h';subst e1;simp only[dj,ba]at e;subst e;exact .tup q.it
 |lst l=>obtain ⟨a,vs,e1,q,t⟩:=h';subst e1;simp only[dj,ba]at e;subst e;exact .lst q.2
 |ref a=>simp[dj]at e
 |scr a=>simp[dj]at e
 |exn a=>simp[dj]at e
 |exa _ _ _=>simp[dj]at e
 |obj _ _ _=>simp[dj]at e
 |dct _ _=>simp[dj]at e
def WD (K:PF):Prop:=∀T t:AL,T∈["NoneType","bool","int","str","tuple","list"]->fV t=true->PySem.W.kitOne K (.type T) (.type t)=some (T==t||(T=="bool"&&t=="int"))
theorem WF{K:PF}:WD K:=by intro T t hT ht;simp only[bB,dS,or_false]at hT;simp only[fV,dP,a9]at ht;rcases hT with rfl |rfl |rfl |rfl |rfl |rfl <;> rcases ht with (((rfl |rfl) |rfl) |rfl) |rfl <;> (with_unfolding_all rfl)
theorem WK {d:D} {t:AL} {b:Bool} (e:isT t d=some b):∃T,dj d=some T/\T∈["NoneType","bool","int","str","tuple","list"]/\(fV t=true->b=(T==t||(T=="bool"&&t=="int"))):=by
 have comm:∀a b:AL,(a==b)=(b==a):=λa b=>by rw[fk,a9,a9];exact ⟨Eq.symm,Eq.symm⟩
 cases d with
 |non=>
  refine ⟨"NoneType",rfl,by simp,λht=>?_⟩;simp only[isT,ba]at e;simp only[fV,dP,a9]at ht;subst e;rcases ht with (((rfl |rfl) |rfl) |rfl) |rfl <;> rfl
 |bl _=>
  refine ⟨"bool",rfl,by simp,λht=>?_⟩;simp only[isT,ba]at e;rw[<-e,comm t "bool"];rfl
 |int _=>
  refine ⟨"int",rfl,by simp,λht=>?_⟩;simp only[isT,ba]at e;rw[<-e,comm t "int"];simp
 |str _=>
  refine ⟨"str",rfl,by simp,λht=>?_⟩;simp only[isT,ba]at e;rw[<-e,comm t "str"];simp
 |tup _=>
  refine ⟨"tuple",rfl,by simp,λht=>?_⟩;simp only[isT,ba]at e;rw[<-e,comm t "tuple"];simp
 |lst _=>
  refine ⟨"list",rfl,by simp,λht=>?_⟩;simp only[isT,ba]at e;rw[<-e,comm t "list"];simp
 |ref a=>simp[isT]at e
 |scr a=>simp[isT]at e
 |exn a=>simp[isT]at e
 |exa _ _ _=>simp[isT]at e
 |obj _ _ _=>simp[isT]at e
 |dct _ _=>simp[isT]at e
theorem Ek(s:AA):∀ls:List (AA),Str.join (tx s) (ls.map tx)=tx (dX s ls)
 |[]=>rfl
 |[x]=>rfl
 |x::y::r=>by
  have ih:=Ek s (y::r);show tx x++tx s++Str.join (tx s) ((y::r).map tx)=_;rw[ih,qK,qK];rfl
theorem El(s:AA):∀ls:List (AA),(dX s ls).length<=(ls.map (·.length)).sum+ls.length * s.length
 |[]=>by simp[dX]
 |[x]=>by simp[dX]
 |x::y::r=>by
  have ih:=El s (y::r);simp only[dX,aw,aS,List.sum_cons,da]at ih ⊢;have:(r.length+1+1) * s.length=(r.length+1) * s.length+s.length:=by rw[Nat.succ_mul]
  omega
def lG(K:PF)(m:Mf):V->AR->Hp->VK->Prop:=λx vs H Q=>∃F G d ds,R K H F G/\Rep K H F d x/\Reps K H F ds vs/\opM m d ds G (PV K H F Q)
theorem WL:MtR X "str.join" (lG X.K .join):=by
 intro p9 s Y H x xs v us Q I rx rs h;obtain ⟨F,G,d,ds,r,rd,t,h⟩:=h;simp only[opM]at h;generalize ea:ds.map (view G)=va at h;simp only[qY]at h;split at h
 .obtain ⟨d',rfl,ev⟩:=map_one ea;obtain ⟨v',rfl,rv⟩:=bC t;obtain ⟨a,vs,e,q,t'⟩:=Rep.list r rv ev;subst e;obtain ⟨e1,hl⟩:=rd;subst e1;split at h
  .rename_i ls hls;have e2:=rW hls t';subst e2;refine Ti p9 s Y H _ _ v us Q I rx rs ⟨_,a,_,rfl,rfl,q,?_,?_⟩
   .have hz:=h.1;rw[cb,af,b8,show (λx:Str=>x.length)∘tx=λl=>l.length from funext b8];have:sz=1000000:=rfl;omega
   .rw[Ek];exact h.2.now r ⟨rfl,ca (El _ _) h.1⟩
  .exact h.elim
 .exact h.elim
theorem WM:MtM X "list.append" (lG X.K .append):=by
 intro p9 s Y H x xs v us Q I rx rs h;obtain ⟨F,G,d,ds,r,rd,t,h⟩:=h;simp only[opM,qZ]at h;split at h
 .obtain ⟨v',rfl,rv⟩:=bC t;have e1:x=.ref _:=rd;subst e1;split at h
  .rename_i ds0 hg;obtain ⟨vs,q,t'⟩:=r.lst hg;refine SM p9 s Y H _ _ v us Q I rx rs ⟨_,vs,v',rfl,rfl,q,?_,?_⟩
   .rw[<-t'.length];exact bm h.1 szl
   .exact h.2 _ _ _ (jn r hg) (r.write hg (t'.append (Reps.cons rv Reps.nil))) rfl
  .exact h.elim
 .exact h.elim
theorem WN:MtR X "tuple.index" (lG X.K .idxT):=by
 intro p9 s Y H x xs v us Q I rx rs h;obtain ⟨F,G,d,ds,r,rd,t,h⟩:=h;simp only[opM,rn]at h;split at h
 .rename_i l i;obtain ⟨a,vs,e,q,t'⟩:=rd;subst e;obtain ⟨v',rfl,rv⟩:=bC t;have e2:v'=.int i:=rv;subst e2;split at h
  .rename_i ns hns;have e3:=rY hns t';subst e3;exact Vq p9 s Y H _ _ v us Q I rx rs ⟨a,ns,i,rfl,rfl,q.sq,h.1,h.2.now r rfl⟩
  .exact h.elim
 .exact h.elim
theorem WP:MtM X "list.pop" (lG X.K .pop):=by
 intro p9 s Y H x xs v us Q I rx rs h;obtain ⟨F,G,d,ds,r,rd,t,h⟩:=h;simp only[opM,rm]at h;split at h
 .rename_i i;obtain ⟨v',rfl,rv⟩:=bC t;have e1:x=.ref _:=rd;subst e1;have e2:v'=.int i:=rv;subst e2;split at h
  .rename_i ds0 hg;obtain ⟨h1,h2,h3⟩:=h;obtain ⟨vs,q,t'⟩:=r.lst hg;split at h3
   .rename_i y hy;obtain ⟨u,hu,ru⟩:=t'.get hy;have hlt:i.toNat < vs.length:=(ar.mp hu).1;refine S5 p9 s Y H _ _ v us Q I rx rs ⟨_,vs,i,i.toNat,u,rfl,rfl,q,!0,!0,?_,hu,?_⟩
    .unfold seqIndex?;have e3:¬i < 0:=by omega
     simp[e3];omega
    .rw[eJ];rw[eJ]at h3;have rw2:=r.write hg ((t'.take i.toNat).append (t'.drop (i.toNat+1)));exact h3 _ _ _ (jn r hg) rw2 (Rep.ext (jn r hg) ru)
   .exact h3.elim
  .exact h.elim
 .exact h.elim
theorem WQ{K:PF}{H:Hp}{F:FZ}{G:DH}{d:D}{v:V}{ds:AS}(r:R K H F G)(h:Rep K H F d v)(e:view G d=.lst ds):∃a vs,v=.ref a/\H a=some (.lst vs)/\Reps K H F ds vs:=by
 cases d with
 |lst xs=>
  have e':D.lst xs=.lst ds:=e;cases e';obtain ⟨a,vs,e1,q,t⟩:=h;exact ⟨a,vs,e1,q.2,t⟩
 |ref p=>
  have hv:v=.ref p:=h;unfold view at e;cases g:G p with
  |none=>simp only[g]at e;cases e
  |some o=>
   cases o with
   |lst xs=>
    simp only[g]at e;cases e;obtain ⟨vs,q,t⟩:=r.lst g;exact ⟨p,vs,hv,q,t⟩
   |dct _ _=>simp only[g]at e;cases e
 |_=>cases (show _=D.lst ds from e)
theorem WR:MtM X "list.extend" (lG X.K .extend):=by
 intro p9 s Y H x xs v us Q I rx rs h;obtain ⟨F,G,d,ds,r,rd,t,h⟩:=h;simp only[opM]at h;generalize ea:ds.map (view G)=va at h;simp only[q8]at h;split at h
 .obtain ⟨d',rfl,ev⟩:=map_one ea;obtain ⟨v',rfl,rv⟩:=bC t;obtain ⟨b,vs2,e2,q2,t2⟩:=WQ r rv ev;subst e2;have e1:x=.ref _:=rd;subst e1;split at h
  .rename_i ds0 hg;obtain ⟨vs,q,t'⟩:=r.lst hg;refine SQ p9 s Y H _ _ v us Q I rx rs ⟨_,b,vs,vs2,rfl,rfl,q,q2,?_,?_⟩
   .rw[<-t'.length,<-t2.length];exact Nat.le_of_lt (bm h.1 szl)
   .exact h.2 _ _ _ (jn r hg) (r.write hg (t'.append t2)) rfl
  .exact h.elim
 .exact h.elim
theorem Em:∀{ks:List (List Int)}{kv:List (List Key×V)}{n:List Int}{i:Nat}(v:V),kv.map (·.1)=ks.map aQ->(kv.map (·.1)).Nodup->kIx ks n=some i->
  (kv.map λp=>if p.1=aQ n then (p.1,v) else p).map (·.2)=(kv.map (·.2)).set i v
 |[],_,n,i,v,h,_,e=>by cases e
 |k::ks,[],n,i,v,h,_,_=>by cases h
 |k::ks,p::kv,n,i,v,h,nd,e=>by
  have h1:p.1=aQ k:=(hU h).1;have h2:kv.map (·.1)=ks.map aQ:=(hU h).2;obtain ⟨nd1,nd2⟩:=dr.mp nd;unfold kIx at e;rw[eR]at e;by_cases z:k=n
  .subst z;rw[if_pos (by simp)]at e;cases e;rw[aS,if_pos h1,aS,aS,List.set_cons_zero];congr 2;rw[b9 (g:=id)]
   .exact List.map_id _
   .intro q hq;exact if_neg λz=>nd1 (bp.mpr ⟨q,hq,z.trans h1.symm⟩)
  .rw[if_neg (!!z)]at e;obtain ⟨j,hj,rfl⟩:=a7.mp e;rw[aS,if_neg (by rw[h1];exact λw=>z (xG w)),aS,aS,List.set_cons_succ,Em v h2 nd2 hj]
theorem KT.fst{H:Hp}{kv:List (List Key×V)}{xs:List (List Key×AQ×AN)}(r:KT H kv xs):kv.map (·.1)=xs.map (·.1):=by
 induction r with
 |nil=>rfl
 |cons h t ih=>rw[aS,aS,h.1,ih]
theorem Eo{kv:List (List Key×V)}{k:List Key}{v:V}(h:(cA kv k).isSome=true):putD kv k v=kv.map λp=>if p.1=k then (p.1,v) else p:=by unfold putD;rw[qQ,if_pos h]
theorem WT(hu:X.A.units+100 < cLine):uP X (λo i x H Q=>∃F G a b c,R X.K H F G/\Rep X.K H F a o/\Rep X.K H F b i/\Rep X.K H F c x/\dM a b c G (λG'=>∀H' F',Ext H F H' F'->R X.K H' F' G'->Q H')):=by
 intro p9 s Y H o i v ov iv u Q I ro ri rv h;obtain ⟨F,G,a,b,c,r,ra,rb,rc,h⟩:=h;unfold dM at h;split at h
 .have e1:o=.ref _:=ra;subst e1;split at h
  .rename_i ds hg;obtain ⟨vs,q,t⟩:=r.lst hg;split at h
   .have e2:i=.int _:=rb;subst e2;split at h
    .rename_i j hj;refine set_list p9 s Y H _ _ v ov iv u Q I ro ri rv ⟨_,vs,_,j,rfl,rfl,q,by rw[<-t.length];exact hj,?_⟩;exact h _ _ (jn r hg) (r.write hg (t.set rc j))
    .exact h.elim
   .exact h.elim
  .rename_i ks ds hg;obtain ⟨n,bb,⟨hz,q⟩,e1,eb,_⟩:=jE rb h;obtain ⟨kv,hp,hk,t⟩:=r.dct hg;subst e1;cases ro;have hl:=eT List.length hk;rw[af,af]at hl;have nd:(kv.map (·.1)).Nodup:=by
    obtain ⟨_,_,xs,rel,_,_,_,_,_,_,_,_,nd⟩:=kY I.hok hp;rw[KT.fst rel];exact nd
   refine U3 (!0) I (DPut.t hp eb (by rw[hl];exact bm hz (di (ax _)))) ri rv λs' I'=>⟨_,I',?_⟩;refine q _ _ (vD r hg) ?_;unfold dput;cases e:kIx ks n with
   |some j=>
    have hs:(cA kv (aQ n)).isSome=true:=by rw[rT hk,e];rfl
    refine r.dctAt (vD r hg) (r.notFD hg) ?_ ?_
    .rw[Eo hs,cb,<-hk];refine b9 λp _=>?_;show (if p.1=aQ n then (p.1,v) else p).1=p.1;split <;> rfl
    .rw[Eo hs,Em v hk nd e];exact t.set rc j
   |none=>
    have hs:cA kv (aQ n)=none:=by have:=rT (n:=n) hk;rw[e]at this;exact fh.mp (by rw[<-Option.not_isSome,this];rfl)
    refine r.dctAt (vD r hg) (r.notFD hg) ?_ ?_
    .rw[CG v hs,b4,b4,hk];rfl
    .rw[CG v hs,b4];exact t.append ⟨_,_,rfl,rc,rfl⟩
  .exact h.elim
 .exact h.elim
theorem WX(op:Operator):PIp X op (λx y H Q=>∃F G a b,R X.K H F G/\Rep X.K H F a x/\Rep X.K H F b y/\eV op a b (λd=>PV X.K H F Q d G)):=by
 intro p9 s Y H x y v u Q I rx ry h;obtain ⟨F,G,a,b,r,ra,rb,h⟩:=h;unfold eV at h;split at h
 .have e1:x=.int _:=ra;have e2:y=.int _:=rb;subst e1;subst e2;exact Rb p9 s Y H _ _ v u Q I rx ry ⟨_,_,rfl,rfl,h.now r rfl⟩
 .obtain ⟨e1,l1⟩:=ra;obtain ⟨e2,l2⟩:=rb;subst e1;subst e2;refine Rq p9 s Y H _ _ v u Q I rx ry ⟨_,_,rfl,rfl,by rw[b8,b8];exact di h.1,?_⟩;rw[qK];exact h.2.now r ⟨rfl,by rw[aw];exact h.1⟩
 .have e1:x=.int _:=ra;have e2:y=.int _:=rb;subst e1;subst e2;exact Rc p9 s Y H _ _ v u Q I rx ry ⟨_,_,rfl,rfl,h.now r rfl⟩
 .exact h.elim
end
inductive SK where
 |lst (a:AQ) |tup (a:AQ) |str (x:Str) (t:Tok)
def SK.val:SK->AN
 |.lst a=>.ref a
 |.tup a=>.ref a
 |.str x t=>.str x t
def SK.cls:SK->AL
 |.lst _=>"list_iterator"
 |.tup _=>"tuple_iterator"
 |.str x _=>strIterType x
def SK.obj(k:SK):Obj:={ cls:=.type k.cls,data:=.fields #[k.val,.int 0 0] }
def SK.pos(k:SK)(it:AQ)(i:Nat)(h:Heap):Prop:=∃o,h.get? it=some o/\o.cls=.type k.cls/\o.data=.fields #[k.val,.int i 0]
def SK.Sat(H:Hp)(vs:AR):SK->Prop
 |.lst a=>H a=some (.lst vs)
 |.tup a=>H a=some (.tup vs)
 |.str x _=>vs=x.cps.toList.map λc=>V.str ⟨#[c]⟩
def SK.No(e:AQ):SK->Prop
 |.lst a=>a≠e
 |.tup a=>a≠e
 |.str _ _=>True
def SK.Sat.no{H:Hp}{vs:AR}{k:SK}{e:AQ}(h:k.Sat H vs)(he:H e=none):k.No e:=by
 cases k with
 |lst a=>exact bz (show H a=some _ from h) he
 |tup a=>exact bz (show H a=some _ from h) he
 |str x t=>trivial
def SK.On(its:Array AN)(h:Heap):SK->Prop
 |.lst a=>h.IsList a its
 |.tup a=>h.IsTuple a its
 |.str _ _=>True
def SK.On.keeps{its:Array AN}{h h':Heap}{k:SK}(x:k.On its h)(kk:∀b o,k.val=.ref b->h.get? b=some o->h'.get? b=some o):k.On its h':=by
 cases k with
 |lst a=>obtain ⟨o,e,r⟩:=x;exact ⟨o,kk a o rfl e,r⟩
 |tup a=>obtain ⟨o,e,r⟩:=x;exact ⟨o,kk a o rfl e,r⟩
 |str _ _=>trivial
section
variable {prog:AK} {w:World} {A:AM} {E:AG} {s:AI}
theorem SK.iter{k:SK}{its:Array AN}{Q:AG}(h:k.On its s.heap)(q:Q (.ref (~~~s)) { s with heap:=s.heap.push k.obj }):wpAny (model prog w) A (pyIter k.val) Q E s:=by
 cases k with
 |lst a=>exact fv h q
 |tup a=>exact wpAny_pyIter_tuple h q
 |str x t=>exact wpAny_pyIter_strU q
theorem SK.pos0{k:SK}{h:Heap}:k.pos h.objs.size 0 (h.push k.obj):=⟨_,aI _ rfl,rfl,rfl⟩
theorem SK.pos.keep{k:SK}{it:AQ}{i:Nat}{h h':Heap}(x:k.pos it i h)(kk:∀o,h.get? it=some o->h'.get? it=some o):k.pos it i h':=let ⟨o,e,r⟩:=x;⟨o,kk o e,r⟩
theorem WY{it t:AQ}{i:Nat}{items}{x:AN}{Q:AG}(hit:s.heap.IsTupleIter it t i)
  (ht:s.heap.IsTuple t items) (hx:items[i]?=some x)
  (hQ:∀h',h'.IsTupleIter it t (i+1)->Heap.SameBut it s.heap h'->Q x { s with heap:=h' }):
  wpAny (model prog w) A (Builtin.SmallTypes.nextOf (.ref it)) Q E s:=by
 obtain ⟨o,ho,hc,hd⟩:=id hit;obtain ⟨ol,hol,_,nl,hdl⟩:=ht;unfold Builtin.SmallTypes.nextOf;refine ab (de (name:=⇑"__next__") hit.typeIs gx
  (eW gx hit.typeIs F.entry_tuple_iterator_next ?_ (F.args_tuple_iterator_next_1 _)))
 show wpAny _ _ (field (.ref it) 0 >>= _) _ _ s;refine ab (dk ho hd (x:=.ref t) rfl ?_);show wpAny _ _ (if (Value.ref t==Value.none)=true then _ else _) _ _ s;rw[if_neg (show ¬((Value.ref t==Value.none)=true) from br)];show wpAny _ _ (field (.ref it) 1 >>= _) _ _ s;refine ab (dk ho hd (x:=.int i 0) rfl ?_);show wpAny _ _ (seqItems? (.ref t) >>= _) _ _ s;refine ab (fo hol hdl ?_);simp only[bS,hx];refine ab (wpAny_setField ho hd (by simp) (am ⟨x,rfl,am (hQ _ ?_ (Heap.SameBut.update ..))⟩));exact ⟨_,Heap.get?_update_self _ ho (Obj.isFreed_of_fields (Obj.data_mapFields hd _)),(Obj.cls_mapFields ..).trans hc,by
  rw[Obj.data_mapFields hd];simp[rawInt]⟩
theorem W0{it t:AQ}{i:Nat}{items}{Q:AG}(hh:A.handled=none)
  (hit:s.heap.IsTupleIter it t i) (ht:s.heap.IsTuple t items) (hx:items[i]?=none)
  (hE:∀h' e,Heap.ExtBut it s.heap h'->(∃o,h'.get? e=some o/\o.cls=.type "StopIteration")->E (.ref e) { s with heap:=h' }):
  wpAny (model prog w) A (Builtin.SmallTypes.nextOf (.ref it)) Q E s:=by
 obtain ⟨o,ho,hc,hd⟩:=id hit;obtain ⟨ol,hol,_,nl,hdl⟩:=ht;unfold Builtin.SmallTypes.nextOf;refine ab (de (name:=⇑"__next__") hit.typeIs gx
  (eW gx hit.typeIs F.entry_tuple_iterator_next ?_ (F.args_tuple_iterator_next_1 _)))
 show wpAny _ _ (field (.ref it) 0 >>= _) _ _ s;refine ab (dk ho hd (x:=.ref t) rfl ?_);show wpAny _ _ (if (Value.ref t==Value.none)=true then _ else _) _ _ s;rw[if_neg (show ¬((Value.ref t==Value.none)=true) from br)];show wpAny _ _ (field (.ref it) 1 >>= _) _ _ s;refine ab (dk ho hd (x:=.int i 0) rfl ?_);show wpAny _ _ (seqItems? (.ref t) >>= _) _ _ s;refine ab (fo hol hdl ?_);simp only[bS,hx];refine ab (wpAny_rule (ab (wpAny_setField ho hd (by simp) ?_)));show wpAny _ _ (newExc (.type "StopIteration") [] >>= _) _ _ _;refine ab ?_;simp only[newExc,newTuple];refine ab (df ?_ (by size_fits));refine ab (m:=firstArgMember _ _) (wpAny_of_eq (a:=Value.none) (by first |rfl | (simp only[firstArgMember];rfl)) ?_);refine df ?_ (by size_fits);simp only[raiseNew];refine ab (wpAny_handled ?_);first |rw[show A.in1.handled=none from hh] |rw[hh]
 refine ab (am (wpAny_throw ?_));exact hE _ _ (((Heap.SameBut.update ..).extBut.push _).push _) ⟨_,aI _ rfl,rfl⟩
theorem W2(hh:A.handled=none)(it l:AQ)(hne:l≠it)(items:Array AN):
  Draws prog w A it [it,l] items.size (λi v=>items[i]?=some v) (λi h=>h.IsTupleIter it l i/\h.IsTuple l items) where
 live:=λ_ _ st=>let ⟨o,ho,_⟩:=st.1;⟨o,ho⟩
 frame:=λ_ _ _ st hk=>⟨let ⟨o,e,r⟩:=st.1;⟨o,hk it (by simp) o e,r⟩,let ⟨o,e,r⟩:=st.2;⟨o,hk l (by simp) o e,r⟩⟩
 item:=λi s Q E hi st hQ=>by
  refine WY st.1 st.2 (x:=items[i]) (by simp[hi]) λh' hit' hs'=>?_;exact hQ _ h' s.toks (by simp[hi]) ⟨hit',let ⟨o,e,r⟩:=st.2;⟨o,hs'.extBut l o hne e,r⟩⟩ hs'
 done:=λs Q E st hE=>W0 hh st.1 st.2 (by simp) hE
end
structure Drawn(P:AK)(w:World)(A:AM)(k:SK)(it:AQ)(i:Nat)(vs:AR)(h:Heap)(fp:List AQ)(Pd:Nat->AN->Prop)(S:Nat->Heap->Prop):Prop where
 D:Draws P w A it fp vs.length Pd S
 st:S i h
 val:∀j v,Pd j v->∃x,vs[j]?=some x/\RelV x v
 pos:∀j h,S j h->k.pos it j h
 fp:∀b∈fp,b=it\/k.val=.ref b
def drawn{X:Cx}{p9:AC}{Y:L2.St}{H:Hp}{s:AI}{A:AM}(hh:A.handled=none)(I:Inv X p9 Y H s){k:SK}{it:AQ}{i:Nat}{vs:AR}(sat:k.Sat H vs)(hit:H it=none)(p:k.pos it i s.heap):
  ∃fp Pd S,Drawn X.prog X.w A k it i vs s.heap fp Pd S:=by
 cases k with
 |lst a=>
  have sat:H a=some (.lst vs):=sat;obtain ⟨its,r,pl,_⟩:=I.list (SqL.of sat);refine ⟨[it,a],λj v=>its.toArray[j]?=some v,λj h=>h.IsListIter it a j/\h.IsList a its.toArray,?_,⟨p,pl.isList⟩,?_,λj h st=>st.1,?_⟩
  .have D:=Draws.list (prog:=X.prog) (w:=X.w) hh it a (bz sat hit) its.toArray;rw[av,<-r.length]at D;exact D
  .intro j v e;have e:its.toArray[j]?=some v:=e;have hj:j < vs.length:=by
    rw[r.length];have:=(Array.getElem?_eq_some_iff.mp e).1;simpa using this
   obtain ⟨u,e2,r2⟩:=r.get (show vs[j]?=some vs[j] by simp[hj]);refine ⟨vs[j],by simp[hj],?_⟩;have:its[j]?=some v:=by simpa using e
   rw[this]at e2;cases e2;exact r2
  .intro b hb;have hb:b=it\/b=a:=by simpa using hb
   rcases hb with e |e
   .exact .inl e
   .exact .inr (by rw[e];rfl)
 |tup a=>
  have sat:H a=some (.tup vs):=sat;obtain ⟨its,r,pl,_⟩:=I.tuple (SqT.of sat);refine ⟨[it,a],λj v=>its.toArray[j]?=some v,λj h=>h.IsTupleIter it a j/\h.IsTuple a its.toArray,?_,⟨p,pl⟩,?_,λj h st=>st.1,?_⟩
  .have D:=W2 (prog:=X.prog) (w:=X.w) hh it a (bz sat hit) its.toArray;rw[av,<-r.length]at D;exact D
  .intro j v e;have e:its.toArray[j]?=some v:=e;have hj:j < vs.length:=by
    rw[r.length];have:=(Array.getElem?_eq_some_iff.mp e).1;simpa using this
   obtain ⟨u,e2,r2⟩:=r.get (show vs[j]?=some vs[j] by simp[hj]);refine ⟨vs[j],by simp[hj],?_⟩;have:its[j]?=some v:=by simpa using e
   rw[this]at e2;cases e2;exact r2
  .intro b hb;have hb:b=it\/b=a:=by simpa using hb
   rcases hb with e |e
   .exact .inl e
   .exact .inr (by rw[e];rfl)
 |str x t=>
  have sat:vs=x.cps.toList.map λc=>V.str ⟨#[c]⟩:=sat;refine ⟨[it],λi v=>∃c u,x.cps[i]?=some c/\v=.str ⟨#[c]⟩ u,λi h=>h.IsStrIter it (strIterType x) x t i,?_,p,?_,λj h st=>st,?_⟩
  .have D:=TJ (prog:=X.prog) (w:=X.w) hh it x t;have e:x.cps.size=vs.length:=by rw[sat,af,cq]
   rw[e]at D;exact D
  .rintro j v ⟨c,u,e1,e2⟩;refine ⟨V.str ⟨#[c]⟩,?_,u,e2⟩;rw[sat,bq,fg,e1];rfl
  .intro b hb;exact .inl (!!hb)
def Jk(k:SK):It:=⟨λi H=>∃vs,k.Sat H vs/\i < vs.length,λi H x H'=>H'=H/\∀vs,k.Sat H vs->vs[i]?=some x,λi H=>∃vs,k.Sat H vs/\vs.length=i⟩
def Je(k:SK):It:=⟨λi H=>∃vs,k.Sat H vs/\i < vs.length,λi H x H'=>∃T y,H T=none/\x=.ref T/\H'=upd H T (.tup [.int i,y])/\∀vs,k.Sat H vs->vs[i]?=some y,λi H=>∃vs,k.Sat H vs/\vs.length=i⟩
def xQ{H:Hp}{k:SK}{vs ws:AR}(h:k.Sat H vs)(h':k.Sat H ws):vs=ws:=by
 cases k with
 |lst a=>have e:=(show H a=some _ from h).symm.trans h';cases e;rfl
 |tup a=>have e:=(show H a=some _ from h).symm.trans h';cases e;rfl
 |str x t=>exact (show vs=_ from h).trans (show ws=_ from h').symm
def W3{P:AK}{w:World}{K:PF}{elts:AE}{x1:Nat}{pos:Pos}(k:SK)(e it:AQ)(hne:e≠it):
  Turn P w K (.Tuple elts x1 pos) (Je k) [e,it] e (λi h=>(∃old,IsEnum h e it i old)/\k.pos it i h) where
 mem:=by simp
 obj:=λi h st b hb=>by
  obtain ⟨⟨old,he⟩,o,ho,c,d⟩:=st;have hb:b=e\/b=it:=by simpa using hb
  rcases hb with rfl |rfl
  .exact ⟨_,he,λv z=>by have z':Data.fields _=Data.cell v:=z;cases z'⟩
  .exact ⟨o,ho,λv z=>by rw[d]at z;cases z⟩
 keep:=λi h h' st kk=>⟨let ⟨old,he⟩:=st.1;⟨old,kk e (by simp) _ he⟩,st.2.keep λo ho=>kk it (by simp) o ho⟩
 item:=by
  intro X hP hw hK hc i p9 s Y H E I hf st hg;subst hP hw hK;obtain ⟨vs,sat,hi⟩:=hg;obtain ⟨⟨old,he⟩,hit⟩:=st;have hfe:=hf e (by simp);have hfi:=hf it (by simp);obtain ⟨fp,Pd,S,Dr⟩:=drawn (A:=X.A.in1) (I.ok.hd hc) I sat hfi.1 hit;have helt:e < (~~~s):=ay he;have hef:e∉fp:=λhb=>by
   rcases Dr.fp e hb with z |z
   .exact hne z
   .have:=sat.no hfe.1;cases k with
    |lst a=>cases z;exact this rfl
    |tup a=>cases z;exact this rfl
    |str _ _=>cases z
  refine wpAny_pyNext_enum_itemD Dr.D he Dr.st hi hne hef λu h1 tk hu heo hit1 ht1 hz1 hk1=>?_;obtain ⟨x,hx,ru⟩:=Dr.val _ _ hu;refine ⟨_,rfl,?_⟩;refine wpAny_letOwnedTupleGo_enum heo λh2 he2 hs2=>?_;have hs2':Heap.SameBut e h1 h2:=hs2;have hn:H (~~~s)=none:=I.hok.fresh (ax _);have k2:∀b o,b∉[e,it]->s.heap.get? b=some o->h2.get? b=some o:=λb o hb q=>by
   have hb':b≠e/\b≠it:=by simpa using hb
   exact hs2'.extBut b o hb'.1 (hk1 b o hb'.1 hb'.2 q)
  have I2:Inv X p9 Y H { s with heap:=h2,toks:=tk+1 }:=I.turnedL hf k2;have ht2:h2.get? (~~~s)=some { cls:=.type "tuple",data:=.seq #[.int i tk,u] }:=hs2'.extBut _ _ (gu helt) ht1;have ob:ObjOk X.prog X.w (upd H (~~~s) (.tup [.int i,x])) h2 (~~~s) (.tup [.int i,x]):=
   ⟨by rw[fS];simp,[.int i tk,u],.cons ⟨_,rfl⟩ (.cons ru .nil),⟨_,ht2,⟨rfl,rfl⟩,_,rfl⟩⟩
  have I3:=I2.track (I.fpOk (ax _) hn) ob;have nee:(~~~s)≠e:=gu helt;have nei:(~~~s)≠it:=by obtain ⟨o,ho,_⟩:=hit;exact gu (ay ho)
  refine ⟨.ref (~~~s),_,I3,rfl,⟨(~~~s),x,hn,rfl,rfl,λys hy=>by rw[xQ hy sat];exact hx⟩,⟨⟨u,?_⟩,?_⟩,λb hb=>?_⟩
  .show IsEnum h2 e it (((i+1:Nat)):Int) u;rw[show (((i+1:Nat):Int))=(i:Int)+1 by omega];exact he2
  .exact (Dr.pos _ _ hit1).keep λo ho=>hs2'.extBut _ _ (Ne.symm hne) ho
  .have hb':b=e\/b=it:=by simpa using hb
   rw[aJ (by rcases hb' with rfl |rfl;exact Ne.symm nee;exact Ne.symm nei)];exact (hf b hb).1
 done:=by
  intro X hP hw hK hc i p9 s Y H E I hf st hg;subst hP hw hK;obtain ⟨vs,sat,hi⟩:=hg;subst hi;obtain ⟨⟨old,he⟩,hit⟩:=st;have hfi:=hf it (by simp);obtain ⟨fp,Pd,S,Dr⟩:=drawn (A:=X.A.in1) (I.ok.hd hc) I sat hfi.1 hit;refine wpAny_pyNext_enum_endD Dr.D he Dr.st λh' eb=>⟨rfl,I.turnedL (t':=s.toks) hf λb o hb q=>?_⟩;have hb':b≠e/\b≠it:=by simpa using hb
  exact eb b o hb'.2 q
 self:=λA i s Q E st h=>by
  obtain ⟨⟨old,he⟩,_⟩:=st;exact wpAny_pyIter_enum he h
def W4{P:AK}{w:World}{K:PF}{tg:AO}(k:SK)(it:AQ):Turn P w K tg (Jk k) [it] it (λi h=>k.pos it i h) where
 mem:=by simp
 obj:=λi h st b hb=>by
  have e:b=it:=by simpa using hb
  subst e;obtain ⟨o,e,c,d⟩:=st;exact ⟨o,e,λv z=>by rw[d]at z;cases z⟩
 keep:=λi h h' st kk=>st.keep λo e=>kk it (by simp) o e
 item:=by
  intro X hP hw hK hc i p9 s Y H E I hf st hg;obtain ⟨vs,sat,hi⟩:=hg;have hfi:=hf it (by simp);cases k with
  |lst a=>
   have sat':H a=some (.lst vs):=sat;refine dc ((An (tg:=tg) a it).item X hP hw hK hc i p9 s Y H E I hf st ⟨vs,vs[i],SqL.of sat',by simp[hi]⟩) ?_ (λ_ _ e=>e);rintro r s1 ⟨u,hr,h1⟩;refine ⟨u,hr,dc h1 ?_ (λ_ _ e=>e)⟩;rintro _ s2 ⟨x,H',I',rx,⟨e1,e2⟩,st',fr⟩;exact ⟨x,H',I',rx,⟨e1,λws hw'=>e2 ws (SqL.of (show H a=some (.lst ws) from hw'))⟩,st',fr⟩
  |tup a=>
   have sat':H a=some (.tup vs):=sat;refine dc ((Ao (tg:=tg) a it).item X hP hw hK hc i p9 s Y H E I hf st ⟨vs,vs[i],SqT.of sat',by simp[hi]⟩) ?_ (λ_ _ e=>e);rintro r s1 ⟨u,hr,h1⟩;refine ⟨u,hr,dc h1 ?_ (λ_ _ e=>e)⟩;rintro _ s2 ⟨x,H',I',rx,⟨e1,e2⟩,st',fr⟩;exact ⟨x,H',I',rx,⟨e1,λws hw'=>e2 ws (SqT.of (show H a=some (.tup ws) from hw'))⟩,st',fr⟩
  |str y t=>
   have sat':vs=y.cps.toList.map λc=>V.str ⟨#[c]⟩:=sat;have hlen:vs.length=y.cps.size:=by rw[sat',af,cq]
   refine dc ((uX (tg:=tg) it y t).item X hP hw hK hc i p9 s Y H E I hf st (show i < y.cps.size by omega)) ?_ (λ_ _ e=>e);rintro r s1 ⟨u,hr,h1⟩;refine ⟨u,hr,dc h1 ?_ (λ_ _ e=>e)⟩;rintro _ s2 ⟨x,H',I',rx,⟨e1,c,e2,e3⟩,st',fr⟩;refine ⟨x,H',I',rx,⟨e1,λws hw'=>?_⟩,st',fr⟩;have hw':ws=y.cps.toList.map λc=>V.str ⟨#[c]⟩:=hw';rw[hw',e3,bq,fg,e2];rfl
 done:=by
  intro X hP hw hK hc i p9 s Y H E I hf st hg;obtain ⟨vs,sat,hi⟩:=hg;cases k with
  |lst a=>exact (An (tg:=tg) a it).done X hP hw hK hc i p9 s Y H E I hf st ⟨vs,SqL.of (show H a=some (.lst vs) from sat),!0⟩
  |tup a=>exact (Ao (tg:=tg) a it).done X hP hw hK hc i p9 s Y H E I hf st ⟨vs,SqT.of (show H a=some (.tup vs) from sat),!0⟩
  |str y t=>
   have sat':vs=y.cps.toList.map λc=>V.str ⟨#[c]⟩:=sat;have hlen:vs.length=y.cps.size:=by rw[sat',af,cq]
   exact (uX (tg:=tg) it y t).done X hP hw hK hc i p9 s Y H E I hf st (show i=y.cps.size by omega)
 self:=λA i s Q E st h=>by
  cases k with
  |lst a=>exact wpAny_pyIter_listiter st h
  |tup a=>exact wpAny_pyIter_tupleiter st h
  |str y t=>exact (uX (K:=K) (tg:=tg) it y t).self A i s Q E st h
open Builtin Builtin.Str
section
variable {prog:AK} {w:World} {A:AM} {E:AG} {s:AI}
theorem W5{z TI TO i1 i2:AQ}{k n1 n2:Nat}{fp1 fp2:List AQ}{P1 P2:Nat->AN->Prop}{S1 S2:Nat->Heap->Prop}{a b:AN}{Q:AG}(D:ZApart z TI TO i1 i2)
  (D1:Draws prog w A i1 fp1 n1 P1 S1) (D2:Draws prog w A i2 fp2 n2 P2 S2) (f1:∀c∈fp1,c≠z/\c≠TO/\c≠i2) (f2:∀c∈fp2,c≠z/\c≠TO/\c≠i1)
  (hz:IsZip s.heap z TI TO .none) (hTI:IsPair s.heap TI (.ref i1) (.ref i2)) (hTO:IsPair s.heap TO a b)
  (h1:S1 k s.heap) (h2:S2 k s.heap) (hx:k < n1) (hy:k < n2)
  (hQ:∀h' tk c d,P1 k c->P2 k d->IsZip h' z TI TO (rawInt (~~~s))->IsPair h' TO c d->S1 (k+1) h'->S2 (k+1) h'->
   IsPair h' (~~~s) c d->h'.objs.size=(~~~s)+1->
   (∀c o,c≠z->c≠TO->c≠i1->c≠i2->s.heap.get? c=some o->h'.get? c=some o)->Q (.ref (~~~s)) { s with heap:=h',toks:=tk }):
  wpAny (model prog w) A (Builtin.«zip.__next__» ⟨[.ref z],[]⟩) (λfin s'=>∃v,fin=.done (.ret v)/\Q v s') E s:=by
 have e1:∀{h h':Heap}{c:AQ}{j:Nat},S1 j h->Heap.ExtBut c h h'->(∀b∈fp1,b≠c)->S1 j h':=λq e n=>D1.frame _ _ _ q λb hb o y=>e b o (n b hb) y;have e2:∀{h h':Heap}{c:AQ}{j:Nat},S2 j h->Heap.ExtBut c h h'->(∀b∈fp2,b≠c)->S2 j h':=λq e n=>D2.frame _ _ _ q λb hb o y=>e b o (n b hb) y;have z1:∀b∈fp1,b≠z:=λb hb=>(f1 b hb).1;have t1:∀b∈fp1,b≠TO:=λb hb=>(f1 b hb).2.1;have j1:∀b∈fp1,b≠i2:=λb hb=>(f1 b hb).2.2;have z2:∀b∈fp2,b≠z:=λb hb=>(f2 b hb).1;have t2:∀b∈fp2,b≠TO:=λb hb=>(f2 b hb).2.1;have j2:∀b∈fp2,b≠i1:=λb hb=>(f2 b hb).2.2;show wpAny _ _ (field (.ref z) 2 >>= _) _ _ _;refine ab (dk hz rfl (x:=.bool false) rfl ?_);show wpAny _ _ (field (.ref z) 3 >>= _) _ _ _;refine ab (dk hz rfl (x:=.ref TI) rfl ?_);refine ab (fo hTI rfl ?_);show wpAny _ _ (Builtin.SmallTypes.ownedTupleIsFree (.ref z) >>= _) _ _ _;refine ab ?_;unfold Builtin.SmallTypes.ownedTupleIsFree;refine ab (dk hz rfl (x:=.none) rfl (am ?_));simp only[if_true];refine ab (wpAny_rule ?_);refine ab (dk hz rfl (x:=.ref TO) rfl ?_);refine ab (fm hz (by simp) λh₁ hz₁ hs₁=>?_);replace hz₁:IsZip h₁ z TI TO .ellipsis:=hz₁;replace hs₁:Heap.SameBut z s.heap h₁:=hs₁;refine ab ?_;simp only[List.zipIdx_cons,List.zipIdx_nil,fA,List.forIn_nil];refine ab (ab (wpAny_onRaise ?_));show wpAny _ _ (Builtin.SmallTypes.nextOf (.ref i1) >>= _) _ _ _;refine ab (D1.item k _ _ _ hx (e1 h1 hs₁.extBut z1) λc h₂ tk₂ hc h1₂ hs₂=>am ?_);replace hs₂:Heap.SameBut i1 h₁ h₂:=hs₂;have hTO₂:IsPair h₂ TO a b:=hs₂.extBut _ _ D.TOi1 (hs₁.extBut _ _ D.TOz hTO);refine ab (fo hTO₂ rfl ?_);refine ab (wpAny_updateSeq_pair hTO₂ λh₃ hTO₃ hs₃=>?_);replace hTO₃:IsPair h₃ TO c b:=hTO₃;replace hs₃:Heap.SameBut TO h₂ h₃:=hs₃;refine ab (wpAny_letGo (am ?_));refine ab (ab (wpAny_onRaise ?_));show wpAny _ _ (Builtin.SmallTypes.nextOf (.ref i2) >>= _) _ _ _;refine ab (D2.item k _ _ _ hy (e2 (e2 (e2 h2 hs₁.extBut z2) hs₂.extBut j2) hs₃.extBut t2) λd h₄ tk₄ hd h2₄ hs₄=>am ?_);replace hs₄:Heap.SameBut i2 h₃ h₄:=hs₄;have hTO₄:IsPair h₄ TO c b:=hs₄.extBut _ _ D.TOi2 hTO₃;refine ab (fo hTO₄ rfl ?_);refine ab (wpAny_updateSeq_pair hTO₄ λh₅ hTO₅ hs₅=>?_);replace hTO₅:IsPair h₅ TO c d:=hTO₅;replace hs₅:Heap.SameBut TO h₄ h₅:=hs₅;refine ab (wpAny_letGo (am (am ?_)));refine ab (fo hTO₅ rfl ?_);refine ab (wpAny_newTuple ?_);have hsz:h₅.objs.size=(~~~s):=by rw[hs₅.1,hs₄.1,hs₃.1,hs₂.1,hs₁.1]
 have hz₅:IsZip h₅ z TI TO .ellipsis:=hs₅.extBut _ _ D.TOz.symm (hs₄.extBut _ _ D.i2z.symm (hs₃.extBut _ _ D.TOz.symm (hs₂.extBut _ _ D.i1z.symm hz₁)));have hk₅:∀c o,c≠z->c≠TO->c≠i1->c≠i2->s.heap.get? c=some o->h₅.get? c=some o:=λc o c1 c2 c3 c4 e=>
  hs₅.extBut _ _ c2 (hs₄.extBut _ _ c4 (hs₃.extBut _ _ c2 (hs₂.extBut _ _ c3 (hs₁.extBut _ _ c1 e))))
 have h1₅:S1 (k+1) h₅:=e1 (e1 (e1 h1₂ hs₃.extBut t1) hs₄.extBut j1) hs₅.extBut t1;have h2₅:S2 (k+1) h₅:=e2 h2₄ hs₅.extBut t2;have hzlt:z < h₅.objs.size:=ay hz₅;show wpAny _ _ (Builtin.SmallTypes.ownedTupleHandOut (.ref z) (.ref h₅.objs.size) >>= _) _ _ _;refine ab ?_;unfold Builtin.SmallTypes.ownedTupleHandOut;have hz₆:IsZip (h₅.push { cls:=.type "tuple",data:=.seq #[c,d] }) z TI TO .ellipsis:=ag _ hz₅;refine ab (fm hz₆ (by simp) λh₇ hz₇ hs₇=>?_);replace hz₇:IsZip h₇ z TI TO (rawInt h₅.objs.size):=hz₇;refine fm hz₇ (by simp) λh₈ hz₈ hs₈=>?_;replace hz₈:IsZip h₈ z TI TO (rawInt h₅.objs.size):=hz₈;have up:∀c o,c≠z->h₅.get? c=some o->h₈.get? c=some o:=λc o c1 e=>hs₈.extBut _ _ c1 (hs₇.extBut _ _ c1 (ag _ e));have hT₈:IsPair h₈ h₅.objs.size c d:=hs₈.extBut _ _ (gu hzlt) (hs₇.extBut _ _ (gu hzlt) (aI _ rfl));have hz8:h₈.objs.size=h₅.objs.size+1:=by rw[hs₈.1,hs₇.1,dA]
 rw[hsz]at hz₈ hT₈ hz8;refine am ⟨_,rfl,?_⟩;show Q (.ref h₅.objs.size) _;rw[hsz];exact hQ h₈ tk₄ c d hc hd hz₈ (up _ _ D.TOz hTO₅) (D1.frame _ _ _ h1₅ λb hb o y=>up b o (z1 b hb) y) (D2.frame _ _ _ h2₅ λb hb o y=>up b o (z2 b hb) y) hT₈ hz8 λc o c1 c2 c3 c4 e=>up c o c1 (hk₅ c o c1 c2 c3 c4 e)
theorem W6{z TI TO i1 i2:AQ}{n1:Nat}{fp1:List AQ}{P1:Nat->AN->Prop}{S1:Nat->Heap->Prop}{a b:AN}{Q:Fin->AI->Prop}(D:ZApart z TI TO i1 i2)
  (D1:Draws prog w A i1 fp1 n1 P1 S1) (f1:∀c∈fp1,c≠z)
  (hz:IsZip s.heap z TI TO .none) (hTI:IsPair s.heap TI (.ref i1) (.ref i2)) (hTO:IsPair s.heap TO a b) (h1:S1 n1 s.heap)
  (hE:∀h' e,(∀c o,c≠z->c≠TO->c≠i1->c≠i2->s.heap.get? c=some o->h'.get? c=some o)->(∃o,h'.get? e=some o/\o.cls=.type "StopIteration")->E (.ref e) { s with heap:=h' }):
  wpAny (model prog w) A (Builtin.«zip.__next__» ⟨[.ref z],[]⟩) Q E s:=by
 show wpAny _ _ (field (.ref z) 2 >>= _) _ _ _;refine ab (dk hz rfl (x:=.bool false) rfl ?_);show wpAny _ _ (field (.ref z) 3 >>= _) _ _ _;refine ab (dk hz rfl (x:=.ref TI) rfl ?_);refine ab (fo hTI rfl ?_);show wpAny _ _ (Builtin.SmallTypes.ownedTupleIsFree (.ref z) >>= _) _ _ _;refine ab ?_;unfold Builtin.SmallTypes.ownedTupleIsFree;refine ab (dk hz rfl (x:=.none) rfl (am ?_));simp only[if_true];refine ab (wpAny_rule ?_);refine ab (dk hz rfl (x:=.ref TO) rfl ?_);refine ab (fm hz (by simp) λh₁ hz₁ hs₁=>?_);replace hz₁:IsZip h₁ z TI TO .ellipsis:=hz₁;replace hs₁:Heap.SameBut z s.heap h₁:=hs₁;refine ab ?_;simp only[List.zipIdx_cons,List.zipIdx_nil,fA,List.forIn_nil];refine ab (ab (wpAny_onRaise ?_));show wpAny _ _ (Builtin.SmallTypes.nextOf (.ref i1) >>= _) _ _ _;refine ab (D1.done _ _ _ (D1.frame _ _ _ h1 λb hb o y=>hs₁.extBut b o (f1 b hb) y) λh₂ e hs₂ he=>?_);obtain ⟨oe,hoe,hce⟩:=he;have hz₂:IsZip h₂ z TI TO .ellipsis:=hs₂ _ _ D.i1z.symm hz₁;have hez:e≠z:=λx=>by subst x;rw[hz₂]at hoe;cases hoe;simp at hce
 refine fm hz₂ (by simp) λh₃ _ hs₃=>hE h₃ e (λc o c1 _ c3 _ x=>hs₃.extBut _ _ c1 (hs₂ _ _ c3 (hs₁.extBut _ _ c1 x))) ⟨oe,hs₃.extBut _ _ hez hoe,hce⟩
theorem W7{z TI TO i1 i2:AQ}{k n1 n2:Nat}{fp1 fp2:List AQ}{P1 P2:Nat->AN->Prop}{S1 S2:Nat->Heap->Prop}{a b:AN}{Q:Fin->AI->Prop}(D:ZApart z TI TO i1 i2)
  (D1:Draws prog w A i1 fp1 n1 P1 S1) (D2:Draws prog w A i2 fp2 n2 P2 S2) (f1:∀c∈fp1,c≠z/\c≠TO/\c≠i2) (f2:∀c∈fp2,c≠z/\c≠TO/\c≠i1)
  (hz:IsZip s.heap z TI TO .none) (hTI:IsPair s.heap TI (.ref i1) (.ref i2)) (hTO:IsPair s.heap TO a b) (h1:S1 k s.heap) (h2:S2 k s.heap) (hx:k < n1) (hy:k=n2)
  (hE:∀h' tk e,(∀c o,c≠z->c≠TO->c≠i1->c≠i2->s.heap.get? c=some o->h'.get? c=some o)->(∃o,h'.get? e=some o/\o.cls=.type "StopIteration")->E (.ref e) { s with heap:=h',toks:=tk }):
  wpAny (model prog w) A (Builtin.«zip.__next__» ⟨[.ref z],[]⟩) Q E s:=by
 have e1:∀{h h':Heap}{c:AQ}{j:Nat},S1 j h->Heap.ExtBut c h h'->(∀b∈fp1,b≠c)->S1 j h':=λq e n=>D1.frame _ _ _ q λb hb o y=>e b o (n b hb) y;have e2:∀{h h':Heap}{c:AQ}{j:Nat},S2 j h->Heap.ExtBut c h h'->(∀b∈fp2,b≠c)->S2 j h':=λq e n=>D2.frame _ _ _ q λb hb o y=>e b o (n b hb) y;have z1:∀b∈fp1,b≠z:=λb hb=>(f1 b hb).1;have z2:∀b∈fp2,b≠z:=λb hb=>(f2 b hb).1;have t2:∀b∈fp2,b≠TO:=λb hb=>(f2 b hb).2.1;have j2:∀b∈fp2,b≠i1:=λb hb=>(f2 b hb).2.2;show wpAny _ _ (field (.ref z) 2 >>= _) _ _ _;refine ab (dk hz rfl (x:=.bool false) rfl ?_);show wpAny _ _ (field (.ref z) 3 >>= _) _ _ _;refine ab (dk hz rfl (x:=.ref TI) rfl ?_);refine ab (fo hTI rfl ?_);show wpAny _ _ (Builtin.SmallTypes.ownedTupleIsFree (.ref z) >>= _) _ _ _;refine ab ?_;unfold Builtin.SmallTypes.ownedTupleIsFree;refine ab (dk hz rfl (x:=.none) rfl (am ?_));simp only[if_true];refine ab (wpAny_rule ?_);refine ab (dk hz rfl (x:=.ref TO) rfl ?_);refine ab (fm hz (by simp) λh₁ hz₁ hs₁=>?_);replace hz₁:IsZip h₁ z TI TO .ellipsis:=hz₁;replace hs₁:Heap.SameBut z s.heap h₁:=hs₁;refine ab ?_;simp only[List.zipIdx_cons,List.zipIdx_nil,fA,List.forIn_nil];refine ab (ab (wpAny_onRaise ?_));show wpAny _ _ (Builtin.SmallTypes.nextOf (.ref i1) >>= _) _ _ _;refine ab (D1.item k _ _ _ hx (e1 h1 hs₁.extBut z1) λc h₂ tk₂ hc h1₂ hs₂=>am ?_);replace hs₂:Heap.SameBut i1 h₁ h₂:=hs₂;have hTO₂:IsPair h₂ TO a b:=hs₂.extBut _ _ D.TOi1 (hs₁.extBut _ _ D.TOz hTO);refine ab (fo hTO₂ rfl ?_);refine ab (wpAny_updateSeq_pair hTO₂ λh₃ hTO₃ hs₃=>?_);replace hs₃:Heap.SameBut TO h₂ h₃:=hs₃;refine ab (wpAny_letGo (am ?_));refine ab (ab (wpAny_onRaise ?_));show wpAny _ _ (Builtin.SmallTypes.nextOf (.ref i2) >>= _) _ _ _;subst hy;refine ab (D2.done _ _ _ (e2 (e2 (e2 h2 hs₁.extBut z2) hs₂.extBut j2) hs₃.extBut t2) λh₄ e hs₄ he=>?_);obtain ⟨oe,hoe,hce⟩:=he;have hz₄:IsZip h₄ z TI TO .ellipsis:=hs₄ _ _ D.i2z.symm (hs₃.extBut _ _ D.TOz.symm (hs₂.extBut _ _ D.i1z.symm hz₁));have hez:e≠z:=λx=>by subst x;rw[hz₄]at hoe;cases hoe;simp at hce
 refine fm hz₄ (by simp) λh₅ _ hs₅=>hE h₅ tk₂ e (λc o c1 c2 c3 c4 x=>hs₅.extBut _ _ c1 (hs₄ _ _ c4 (hs₃.extBut _ _ c2 (hs₂.extBut _ _ c3 (hs₁.extBut _ _ c1 x))))) ⟨oe,hs₅.extBut _ _ hez hoe,hce⟩
end
def Jz(k l:SK):It:=⟨λi H=>∃vs ws,k.Sat H vs/\l.Sat H ws/\i < vs.length/\i < ws.length,
 λi H x H'=>∃T y z,H T=none/\x=.ref T/\H'=upd H T (.tup [y,z])/\(∀vs,k.Sat H vs->vs[i]?=some y)/\(∀ws,l.Sat H ws->ws[i]?=some z),
 λi H=>∃vs ws,k.Sat H vs/\l.Sat H ws/\(vs.length=i/\i<=ws.length\/i < vs.length/\ws.length=i)⟩
def W8{P:AK}{w:World}{K:PF}{elts:AE}{x1:Nat}{pos:Pos}(k l:SK)(z TI TO i1 i2:AQ)(D:ZApart z TI TO i1 i2):
  Turn P w K (.Tuple elts x1 pos) (Jz k l) [z,TI,TO,i1,i2] z
   (λi h=>IsZip h z TI TO .none/\IsPair h TI (.ref i1) (.ref i2)/\(∃a b,IsPair h TO a b)/\k.pos i1 i h/\l.pos i2 i h) where
 mem:=by simp
 obj:=λi h st b hb=>by
  obtain ⟨hz,hTI,⟨a,c,hTO⟩,⟨o1,e1,_,d1⟩,⟨o2,e2,_,d2⟩⟩:=st;have hb':b=z\/b=TI\/b=TO\/b=i1\/b=i2:=by simpa using hb
  rcases hb' with rfl |rfl |rfl |rfl |rfl
  .exact ⟨_,hz,λv q=>by have q':Data.fields _=Data.cell v:=q;cases q'⟩
  .exact ⟨_,hTI,λv q=>by have q':Data.seq _ _=Data.cell v:=q;cases q'⟩
  .exact ⟨_,hTO,λv q=>by have q':Data.seq _ _=Data.cell v:=q;cases q'⟩
  .exact ⟨o1,e1,λv q=>by rw[d1]at q;cases q⟩
  .exact ⟨o2,e2,λv q=>by rw[d2]at q;cases q⟩
 keep:=λi h h' st kk=>by
  obtain ⟨hz,hTI,⟨a,c,hTO⟩,p1,p2⟩:=st;exact ⟨kk z (by simp) _ hz,kk TI (by simp) _ hTI,⟨a,c,kk TO (by simp) _ hTO⟩,p1.keep λo e=>kk i1 (by simp) o e,p2.keep λo e=>kk i2 (by simp) o e⟩
 item:=by
  intro X hP hw hK hc i p9 s Y H E I hf st hg;subst hP hw hK;obtain ⟨vs,ws,sat1,sat2,l1,l2⟩:=hg;obtain ⟨hz,hTI,⟨a,b,hTO⟩,h1,h2⟩:=st;have hT:s.TypeIs (.ref z) "zip":=⟨_,hz,rfl⟩;have fz:=hf z (by simp);have fTO:=hf TO (by simp);have fi1:=hf i1 (by simp);have fi2:=hf i2 (by simp);obtain ⟨fp1,P1,S1,Dr1⟩:=drawn (A:=X.A.in1) (I.ok.hd hc) I sat1 fi1.1 h1;obtain ⟨fp2,P2,S2,Dr2⟩:=drawn (A:=X.A.in1) (I.ok.hd hc) I sat2 fi2.1 h2;have no1:∀e,H e=none->e≠i1->∀c∈fp1,c≠e:=λe he hei c hc z=>by
   rcases Dr1.fp c hc with q |q
   .exact hei (z.symm.trans q)
   .have:=sat1.no he;cases k with
    |lst a=>injection q with q;exact this (q.trans z)
    |tup a=>injection q with q;exact this (q.trans z)
    |str _ _=>cases q
  have no2:∀e,H e=none->e≠i2->∀c∈fp2,c≠e:=λe he hei c hc z=>by
   rcases Dr2.fp c hc with q |q
   .exact hei (z.symm.trans q)
   .have:=sat2.no he;cases l with
    |lst a=>injection q with q;exact this (q.trans z)
    |tup a=>injection q with q;exact this (q.trans z)
    |str _ _=>cases q
  have f1:∀c∈fp1,c≠z/\c≠TO/\c≠i2:=λc hc=>⟨no1 z fz.1 D.i1z.symm c hc,no1 TO fTO.1 D.TOi1 c hc,no1 i2 fi2.1 D.i12.symm c hc⟩;have f2:∀c∈fp2,c≠z/\c≠TO/\c≠i1:=λc hc=>⟨no2 z fz.1 D.i2z.symm c hc,no2 TO fTO.1 D.TOi2 c hc,no2 i1 fi1.1 D.i12 c hc⟩;have ltz:z < (~~~s):=ay hz;have ltTI:TI < (~~~s):=ay hTI;have ltTO:TO < (~~~s):=ay hTO;have lti1:i1 < (~~~s):=by obtain ⟨_,e,_⟩:=h1;exact ay e
  have lti2:i2 < (~~~s):=by obtain ⟨_,e,_⟩:=h2;exact ay e
  unfold pyNext;refine ab (wpAny_attempt (de (name:=⇑"__next__") hT F.slot_zip_next
   (eW F.slot_zip_next hT F.entry_zip_next (W5 D Dr1.D Dr2.D f1 f2 hz hTI hTO Dr1.st Dr2.st l1 l2 λh' tk c d pc pd a1 a2 a3 a4 a5 a6 hk=>am ?_) (F.args_zip_next_1 _))))
  obtain ⟨y,hy,ry⟩:=Dr1.val _ _ pc;obtain ⟨y',hy',ry'⟩:=Dr2.val _ _ pd;refine ⟨_,rfl,?_⟩;refine wpAny_letOwnedTupleGo_zip a1 λh2' hz2 hs2=>?_;have hs2':Heap.SameBut z h' h2':=hs2;have hn:H (~~~s)=none:=I.hok.fresh (ax _);have k2:∀b o,b∉[z,TI,TO,i1,i2]->s.heap.get? b=some o->h2'.get? b=some o:=λb o hb q=>by
   have hb':b≠z/\b≠TI/\b≠TO/\b≠i1/\b≠i2:=by simpa using hb
   exact hs2'.extBut b o hb'.1 (hk b o hb'.1 hb'.2.2.1 hb'.2.2.2.1 hb'.2.2.2.2 q)
  have I2:Inv X p9 Y H { s with heap:=h2',toks:=tk }:=I.turnedL hf k2;have ht2:h2'.get? (~~~s)=some { cls:=.type "tuple",data:=.seq #[c,d] }:=hs2'.extBut _ _ (gu ltz) a5;have ob:ObjOk X.prog X.w (upd H (~~~s) (.tup [y,y'])) h2' (~~~s) (.tup [y,y']):=
   ⟨by rw[fS];simp,[c,d],.cons ry (.cons ry' .nil),⟨_,ht2,⟨rfl,rfl⟩,_,rfl⟩⟩
  have I3:=I2.track (I.fpOk (ax _) hn) ob;refine ⟨.ref (~~~s),_,I3,rfl,⟨(~~~s),y,y',hn,rfl,rfl,λus hu=>by rw[xQ hu sat1];exact hy,λus hu=>by rw[xQ hu sat2];exact hy'⟩,
   ⟨hz2,hs2'.extBut _ _ D.TIz (hk _ _ D.TIz D.TITO D.TIi1 D.TIi2 hTI),⟨_,_,hs2'.extBut _ _ D.TOz a2⟩,(Dr1.pos _ _ a3).keep λo e=>hs2'.extBut _ _ D.i1z e,(Dr2.pos _ _ a4).keep λo e=>hs2'.extBut _ _ D.i2z e⟩,λb hb=>?_⟩
  have hb':b=z\/b=TI\/b=TO\/b=i1\/b=i2:=by simpa using hb
  rw[aJ (by rcases hb' with rfl |rfl |rfl |rfl |rfl <;> exact b3 ‹_›)];exact (hf b hb).1
 done:=by
  intro X hP hw hK hc i p9 s Y H E I hf st hg;subst hP hw hK;obtain ⟨vs,ws,sat1,sat2,hend⟩:=hg;obtain ⟨hz,hTI,⟨a,b,hTO⟩,h1,h2⟩:=st;have hT:s.TypeIs (.ref z) "zip":=⟨_,hz,rfl⟩;have fz:=hf z (by simp);have fTO:=hf TO (by simp);have fi1:=hf i1 (by simp);have fi2:=hf i2 (by simp);obtain ⟨fp1,P1,S1,Dr1⟩:=drawn (A:=X.A.in1) (I.ok.hd hc) I sat1 fi1.1 h1;obtain ⟨fp2,P2,S2,Dr2⟩:=drawn (A:=X.A.in1) (I.ok.hd hc) I sat2 fi2.1 h2;have no1:∀e,H e=none->e≠i1->∀c∈fp1,c≠e:=λe he hei c hc z=>by
   rcases Dr1.fp c hc with q |q
   .exact hei (z.symm.trans q)
   .have:=sat1.no he;cases k with
    |lst a=>injection q with q;exact this (q.trans z)
    |tup a=>injection q with q;exact this (q.trans z)
    |str _ _=>cases q
  have no2:∀e,H e=none->e≠i2->∀c∈fp2,c≠e:=λe he hei c hc z=>by
   rcases Dr2.fp c hc with q |q
   .exact hei (z.symm.trans q)
   .have:=sat2.no he;cases l with
    |lst a=>injection q with q;exact this (q.trans z)
    |tup a=>injection q with q;exact this (q.trans z)
    |str _ _=>cases q
  have f1:∀c∈fp1,c≠z/\c≠TO/\c≠i2:=λc hc=>⟨no1 z fz.1 D.i1z.symm c hc,no1 TO fTO.1 D.TOi1 c hc,no1 i2 fi2.1 D.i12.symm c hc⟩;have f2:∀c∈fp2,c≠z/\c≠TO/\c≠i1:=λc hc=>⟨no2 z fz.1 D.i2z.symm c hc,no2 TO fTO.1 D.TOi2 c hc,no2 i1 fi1.1 D.i12 c hc⟩;have fin:∀(h':Heap)(tk:Nat)(e:AQ),(∀c o,c≠z->c≠TO->c≠i1->c≠i2->s.heap.get? c=some o->h'.get? c=some o)->Inv X p9 Y H { s with heap:=h',toks:=tk }:=λh' tk e hk=>I.turnedL (t':=tk) hf λb o hb q=>by
   have hb':b≠z/\b≠TI/\b≠TO/\b≠i1/\b≠i2:=by simpa using hb
   exact hk b o hb'.1 hb'.2.2.1 hb'.2.2.2.1 hb'.2.2.2.2 q
  unfold pyNext;refine ab (wpAny_attempt (de (name:=⇑"__next__") hT F.slot_zip_next
   (eW F.slot_zip_next hT F.entry_zip_next ?_ (F.args_zip_next_1 _))))
  rcases hend with ⟨e1,_⟩ |⟨e1,e2⟩
  .subst e1;refine W6 D Dr1.D (λc hc=>(f1 c hc).1) hz hTI hTO Dr1.st λh' e hk he=>?_;obtain ⟨o,ho,hc'⟩:=he;refine ab (wpAny_isInstance (T:="StopIteration") (b:=true) ⟨o,ho,hc'⟩ isSubtype_stop ?_);exact am ⟨rfl,fin h' s.toks e hk⟩
  .refine W7 D Dr1.D Dr2.D f1 f2 hz hTI hTO Dr1.st Dr2.st e1 e2.symm λh' tk e hk he=>?_;obtain ⟨o,ho,hc'⟩:=he;refine ab (wpAny_isInstance (T:="StopIteration") (b:=true) ⟨o,ho,hc'⟩ isSubtype_stop ?_);exact am ⟨rfl,fin h' tk e hk⟩
 self:=λA i s Q E st h=>wpAny_pyIter_zip st.1 h
open Sem (wp)
open AutoSeq1 (wpAny_loadPart')
set_option maxHeartbeats 1000000 in
theorem W9(l:AQ)(items:Array AN)(n:Nat)(dct:Option AQ)(sl:Array (Option AN)):
  Meets (Builtin.«enumerate.__new__» ⟨[.type "enumerate",.ref l],[]⟩) (λ_ R s=>s.heap.get? l=some { cls:=.type "tuple",dict:=dct,data:=.seq items n,slots:=sl }/\
   R (.ok (.ret (.ref (s.heap.push { cls:=.type "tuple_iterator",data:=.fields #[.ref l,.int 0 0] }).objs.size)))
    { s with heap:=(s.heap.push { cls:=.type "tuple_iterator",data:=.fields #[.ref l,.int 0 0] }).push { cls:=.type "enumerate",data:=.fields #[.none,.bool false,.ref (~~~s),rawInt 0,.none,.none] } }):=
 .of_wp λprog w A R s h=>by
  obtain ⟨hp,g,d,tk,os⟩:=s;obtain ⟨hl,h⟩:=h;have hsub:=sub_enumerate;have hL:Heap.IsTuple (Shared.heap ⟨hp,g,d,tk,os⟩) l items:=⟨_,hl,rfl,n,rfl⟩;wp_walk using wpAny_loadPart' hl
  refine wpAny_stack_any λst=>am ?_;split
  .rename_i c _ _ _ _ _;cases (c==Value.type "enumerate")
   .wp_walk using wpAny_loadPart' hl,wpAny_pyIter_tuple hL
    exact ⟨_,rfl,h⟩
   .wp_walk using wpAny_loadPart' hl,wpAny_pyIter_tuple hL
    exact ⟨_,rfl,h⟩
  .wp_walk using wpAny_loadPart' hl,wpAny_pyIter_tuple hL
   exact ⟨_,rfl,h⟩
abbrev sr(h:Heap)(k:SK):Heap:=h.push k.obj
abbrev su(h:Heap)(k l:SK):Heap:=(sr h k).push l.obj
abbrev sy (h:Heap) (k l:SK):Heap:=(su h k l).push { cls:=.type "tuple",data:=.seq #[.ref h.objs.size,.ref (sr h k).objs.size] }
abbrev sE (h:Heap) (k l:SK):Heap:=(sy h k l).push { cls:=.type "tuple",data:=.seq #[.none,.none] }
abbrev iu (h:Heap) (k l:SK):Heap:=(sE h k l).push { cls:=.type "zip",data:=.fields #[.none,.bool false,.bool false,.ref (su h k l).objs.size,.ref (sy h k l).objs.size] }
def Xa(k l:SK)(xs ys:Array AN):
  Meets (Builtin.«zip.__new__» ⟨[.type "zip",k.val,l.val],[]⟩) (λ_ R s=>k.On xs s.heap/\l.On ys s.heap/\R (.ok (.ret (.ref (sE s.heap k l).objs.size))) { s with heap:=iu s.heap k l }):=
 .of_wp λprog w A R s h=>by
  obtain ⟨hp,g,d,tk,os⟩:=s;obtain ⟨h1,h2,h⟩:=h;have hsub:=sub_zip;have h1':k.On xs (Shared.heap ⟨hp,g,d,tk,os⟩):=h1;have h2':l.On ys (Shared.heap ⟨hp.push k.obj,g,d,tk,os⟩):=SK.On.keeps h2 λb o _ e=>ag _ e;wp_walk using SK.iter h1',SK.iter h2'
  exact ⟨_,rfl,h⟩
section
variable {prog:AK} {w:World} {A:AM} {E:AG} {s:AI}
theorem Xb{k l:SK}{xs ys:Array AN}{Q:AG}(h1:k.On xs s.heap)(h2:l.On ys s.heap)
  (h:∀h',IsZip h' ((~~~s)+4) ((~~~s)+2) ((~~~s)+3) .none->IsPair h' ((~~~s)+2) (.ref (~~~s)) (.ref ((~~~s)+1))->
   IsPair h' ((~~~s)+3) .none .none->k.pos (~~~s) 0 h'->l.pos ((~~~s)+1) 0 h'->h'.objs.size=(~~~s)+5->
   (∀c o,s.heap.get? c=some o->h'.get? c=some o)->Q (.ref ((~~~s)+4)) { s with heap:=h' }):
  wpAny (model prog w) A (call (.type "zip") [k.val,l.val]) Q E s:=by
 refine callType_new F.called_zip (!1) (F.typeCall_zip_2 _ _) (F.newCall_zip_2 _ _) (λobj=>F.args_object_init_3 obj _ _) F.entry_zip_new
  (Xa k l xs ys) ⟨h1,h2,?_⟩
 have z1:(sr s.heap k).objs.size=(~~~s)+1:=dA ..;have z2:(su s.heap k l).objs.size=(~~~s)+2:=by rw[dA,z1]
 have z3:(sy s.heap k l).objs.size=(~~~s)+3:=by rw[dA,z2]
 have z4:(sE s.heap k l).objs.size=(~~~s)+4:=by rw[dA,z3]
 have z5:(iu s.heap k l).objs.size=(~~~s)+5:=by rw[dA,z4]
 have g5:(iu s.heap k l).get? (sE s.heap k l).objs.size=some _:=aI _ rfl;have g4:(iu s.heap k l).get? (sy s.heap k l).objs.size=some _:=ag _ (aI _ rfl);have g3:(iu s.heap k l).get? (su s.heap k l).objs.size=some _:=ag _ (ag _ (aI _ rfl));have g2:(iu s.heap k l).get? (sr s.heap k).objs.size=some _:=ag _ (ag _ (ag _ (aI _ rfl)));have g1:(iu s.heap k l).get? (~~~s)=some _:=ag _ (ag _ (ag _ (ag _ (aI _ rfl))));show _/\_;rw[z2,z3,z4]at g5;rw[z1,z2]at g3;rw[z3]at g4;rw[z1]at g2;rw[z4];exact ⟨⟨_,g5,rfl⟩,h _ g5 g3 g4 ⟨_,g1,rfl,rfl⟩ ⟨_,g2,rfl,rfl⟩ z5 λc o x=>
  ag _ (ag _ (ag _ (ag _ (ag _ x))))⟩
theorem Xc{l:AQ}{items:Array AN}{Q:AG}(hL:s.heap.IsTuple l items)
  (h:∀h',IsEnum h' ((~~~s)+1) (~~~s) 0 .none->h'.IsTupleIter (~~~s) l 0->h'.objs.size=(~~~s)+2->
   (∀b o,s.heap.get? b=some o->h'.get? b=some o)->Q (.ref ((~~~s)+1)) { s with heap:=h' }):
  wpAny (model prog w) A (call (.type "enumerate") [.ref l]) Q E s:=by
 obtain ⟨⟨c,dct,dt,sl⟩,hl,hc,n,hd⟩:=hL;replace hc:c=.type "tuple":=hc;replace hd:dt=.seq items n:=hd;subst hc hd;refine callType_new F.called_enumerate (!1) (F.typeCall_enumerate_1 _) (F.newCall_enumerate_1 _) (λobj=>F.args_object_init_2 obj _) F.entry_enumerate_new
  (W9 l items n dct sl) ⟨hl,?_⟩
 have hz:(s.heap.push { cls:=.type "tuple_iterator",data:=.fields #[.ref l,.int 0 0] }).objs.size=(~~~s)+1:=dA ..;show _/\_;rw[hz];have he:IsEnum ((s.heap.push { cls:=.type "tuple_iterator",data:=.fields #[.ref l,.int 0 0] }).push
   { cls:=.type "enumerate",data:=.fields #[.none,.bool false,.ref (~~~s),rawInt 0,.none,.none] }) ((~~~s)+1) (~~~s) 0 .none:=by
  have:=aI (s.heap.push { cls:=.type "tuple_iterator",data:=.fields #[.ref l,.int 0 0] })
   (o:={ cls:=.type "enumerate",data:=.fields #[.none,.bool false,.ref (~~~s),rawInt 0,.none,.none] }) rfl
  rw[hz]at this;exact this
 refine ⟨⟨_,he,rfl⟩,h _ he ⟨_,ag _ (aI _ rfl),rfl,rfl⟩ (by rw[dA,hz]) λb o x=>ag _ (ag _ x)⟩
theorem Xd{k:SK}{xs:Array AN}{Q:AG}(h1:k.On xs s.heap)
  (h:∀h',IsEnum h' ((~~~s)+1) (~~~s) 0 .none->k.pos (~~~s) 0 h'->h'.objs.size=(~~~s)+2->
   (∀b o,s.heap.get? b=some o->h'.get? b=some o)->Q (.ref ((~~~s)+1)) { s with heap:=h' }):
  wpAny (model prog w) A (call (.type "enumerate") [k.val]) Q E s:=by
 cases k with
 |lst a=>exact call_enumerate_list h1 h
 |tup a=>exact Xc h1 h
 |str x t=>exact call_enumerate_str h
end
set_option backward.match.sparseCases false
structure OT where
 ms:List (AL×AL×AL×Nat):=[]
 ks:List (AL×Nat):=[]
 fl:List (AL×AL):=[]
 xk:List (AL×AL):=[]
structure CT where
 N:AD
 kd:List (Str×NameKind)
 fn:Bool
 fs:List (AL×Nat)
 bt:List AL
 cn:List (AL×D)
 xs:List (AL×Bool):=[]
 ot:OT:={}
def iw:Option NameKind->Bool
 |some .local=>true
 |some .cell=>true
 |some .free=>true
 |_=>false
def CT.sto(c:CT)(x:Str):Bool:=c.kd.lookup x==some .local||(c.fn&&c.kd.lookup x==some .cell)
def okN (x:Str):Bool:=!(x==("__debug__":Str))&&!(x==("__classdict__":Str))&&!(x==("__name__":Str))
def CT.glo(c:CT)(x:Str):Bool:=c.kd.lookup x==some .globalImplicit&&okN x
def sEq:D->D->Bool
 |.non,.non=>true
 |.bl a,.bl b=>a==b
 |.int a,.int b=>a==b
 |.str a,.str b=>a==b
 |_,_=>false
def Xe{a b:D}(h:sEq a b=true):a=b:=by cases a <;> cases b <;> simp_all [sEq]
def iy(d:D)(k:Const):Bool:=
 match d,k with
 |.non,.none=>true
 |.bl a,.bool b=>a==b
 |.int a,.int b=>a==b
 |.str a,.str b=>a==b.cps.toList&&decide (a.length<=sz)
 |_,_=>false
def Bf.name:Bf->AL
 |.len=>"len"
 |.all=>"all"
 |.any=>"any"
 |.int=>"int"
 |.tuple=>"tuple"
 |.sum=>"sum"
 |.min=>"min"
 |.max=>"max"
 |.abs=>"abs"
 |.min2=>"min"
 |.str=>"str"
def xR:Bf->Bool
 |.sum=>false
 |.min=>true
 |.max=>false
 |.abs=>false
 |.min2=>false
 |.str=>true
 |_=>true
def xT:Lf->Bool
 |.sorted=>true
 |_=>true
def Lf.name:Lf->AL
 |.list=>"list"
 |.sorted=>"sorted"
def Mf.name:Mf->AL
 |.join=>"join"
 |.append=>"append"
 |.extend=>"extend"
 |.pop=>"pop"
 |.idxT=>"index"
def aiv:AO->Bool
 |.Name _ _=>true
 |.Subscript _ _ _=>true
 |_=>false
def sG:AO->Bool
 |.Call (.Name _ _) [] [] _=>true
 |_=>false
def dB:AO->Bool
 |.ListComp ..=>true
 |.SetComp ..=>true
 |.DictComp ..=>true
 |_=>false
def iz:AO->Bool
 |.UnaryOp .Not _ _=>false
 |.BoolOp ..=>false
 |.IfExp ..=>false
 |.Compare ..=>false
 |_=>true
def dZ(N:AD)(scope:Scope):AD->List (Option Nat)->Bool
 |[],[]=>true
 |_::N',none::cap=>dZ N scope N' cap
 |x::N',some j::cap=>(N[j]?==some x)&&(scope.names.lookup x==some NameKind.free)&&dZ N scope N' cap
 |_,_=>false
def dO(c:CT)(scope:Scope):Bool:=
 scope.names.all (λy=>y.2 != NameKind.cell)&&scope.names.all (λy=>y.2 != NameKind.local||scope.names.lookup y.1==some NameKind.local) &&
 scope.names.all (λy=>y.2 != NameKind.free||(c.kd.lookup y.1==some NameKind.cell||c.kd.lookup y.1==some NameKind.free))&&decide (scope.kind=.function)&&decide (c.kd=c.kd)
def CT.comp(c:CT)(N:AD)(scope:Scope):CT:={ N:=N,kd:=scope.names,fn:=false,fs:=c.fs,bt:=c.bt,cn:=c.cn,ot:=c.ot }
def dm:AD->Bool
 |[]=>true
 |x::r=>!r.contains x&&dm r
def asName(e:AO):Option { t:Str×Pos // e=.Name t.1 t.2 }:=match e with
 |.Name a0 a1=>some ⟨(a0,a1),rfl⟩
 |_=>none
def aiw(e:AO):Option { t:AO×Pos // e=.Starred t.1 t.2 }:=match e with
 |.Starred a0 a1=>some ⟨(a0,a1),rfl⟩
 |_=>none
def lH(e:AO):Option { t:Const×Nat×Pos // e=.Constant t.1 t.2.1 t.2.2 }:=match e with
 |.Constant a0 a1 a2=>some ⟨(a0,a1,a2),rfl⟩
 |_=>none
def Ep(e:AO):Option { t:AO×Operator×AO×Pos // e=.BinOp t.1 t.2.1 t.2.2.1 t.2.2.2 }:=match e with
 |.BinOp a0 a1 a2 a3=>some ⟨(a0,a1,a2,a3),rfl⟩
 |_=>none
def jG(e:AO):Option { t:UnaryOp×AO×Pos // e=.UnaryOp t.1 t.2.1 t.2.2 }:=match e with
 |.UnaryOp a0 a1 a2=>some ⟨(a0,a1,a2),rfl⟩
 |_=>none
def lJ(e:AO):Option { t:AO×List CmpOp×AE×Pos // e=.Compare t.1 t.2.1 t.2.2.1 t.2.2.2 }:=match e with
 |.Compare a0 a1 a2 a3=>some ⟨(a0,a1,a2,a3),rfl⟩
 |_=>none
def sH(e:AO):Option { t:BoolOp×AE×Pos // e=.BoolOp t.1 t.2.1 t.2.2 }:=match e with
 |.BoolOp a0 a1 a2=>some ⟨(a0,a1,a2),rfl⟩
 |_=>none
def Er(e:AO):Option { t:AO×AO×AO×Pos // e=.IfExp t.1 t.2.1 t.2.2.1 t.2.2.2 }:=match e with
 |.IfExp a0 a1 a2 a3=>some ⟨(a0,a1,a2,a3),rfl⟩
 |_=>none
def Es(e:AO):Option { t:AO×AO×List Comprehension×Scope×Pos // e=.DictComp t.1 t.2.1 t.2.2.1 t.2.2.2.1 t.2.2.2.2 }:=match e with
 |.DictComp a0 a1 a2 a3 a4=>some ⟨(a0,a1,a2,a3,a4),rfl⟩
 |_=>none
def sI(e:AO):Option { t:List (Option AO)×AE×Pos // e=.Dict t.1 t.2.1 t.2.2 }:=match e with
 |.Dict a b p=>some ⟨(a,b,p),rfl⟩
 |_=>none
def gF(e:AO):Option { t:AE×Nat×Pos // e=.Tuple t.1 t.2.1 t.2.2 }:=match e with
 |.Tuple a0 a1 a2=>some ⟨(a0,a1,a2),rfl⟩
 |_=>none
def asList(e:AO):Option { t:AE×Pos // e=.List t.1 t.2 }:=match e with
 |.List a0 a1=>some ⟨(a0,a1),rfl⟩
 |_=>none
def gG(e:AO):Option { t:AO×AO×Pos // e=.Subscript t.1 t.2.1 t.2.2 }:=match e with
 |.Subscript a0 a1 a2=>some ⟨(a0,a1,a2),rfl⟩
 |_=>none
def sJ(e:AO):Option { t:Option AO×Option AO×Option AO×Pos // e=.Slice t.1 t.2.1 t.2.2.1 t.2.2.2 }:=match e with
 |.Slice a0 a1 a2 a3=>some ⟨(a0,a1,a2,a3),rfl⟩
 |_=>none
def sO(e:AO):Option { t:AO×AE×List Keyword×Pos // e=.Call t.1 t.2.1 t.2.2.1 t.2.2.2 }:=match e with
 |.Call a0 a1 a2 a3=>some ⟨(a0,a1,a2,a3),rfl⟩
 |_=>none
def Et(e:AO):Option { t:AO×Str×Pos // e=.Attribute t.1 t.2.1 t.2.2 }:=match e with
 |.Attribute a0 a1 a2=>some ⟨(a0,a1,a2),rfl⟩
 |_=>none
def sS(e:AO):Option { t:AO×List Comprehension×Scope×Pos // e=.ListComp t.1 t.2.1 t.2.2.1 t.2.2.2 }:=match e with
 |.ListComp a0 a1 a2 a3=>some ⟨(a0,a1,a2,a3),rfl⟩
 |_=>none
def Eu(e:Stmt):Option { t:AO×Pos // e=.Expr t.1 t.2 }:=match e with
 |.Expr a0 a1=>some ⟨(a0,a1),rfl⟩
 |_=>none
def sU(e:Stmt):Option { t:AE×AO×Pos // e=.Assign t.1 t.2.1 t.2.2 }:=match e with
 |.Assign a0 a1 a2=>some ⟨(a0,a1,a2),rfl⟩
 |_=>none
def Ew(e:Stmt):Option { t:AO×Operator×AO×Pos // e=.AugAssign t.1 t.2.1 t.2.2.1 t.2.2.2 }:=match e with
 |.AugAssign a0 a1 a2 a3=>some ⟨(a0,a1,a2,a3),rfl⟩
 |_=>none
def aix(e:Stmt):Option { t:Option AO×Option AO×Pos // e=.Raise t.1 t.2.1 t.2.2 }:=match e with
 |.Raise a0 a1 a2=>some ⟨(a0,a1,a2),rfl⟩
 |_=>none
def aiy(e:Stmt):Option { t:AF×List ExceptHandler×AF×AF×Pos // e=.Try t.1 t.2.1 t.2.2.1 t.2.2.2.1 t.2.2.2.2 }:=match e with
 |.Try a0 a1 a2 a3 a4=>some ⟨(a0,a1,a2,a3,a4),rfl⟩
 |_=>none
def aiz(e:ExceptHandler):Option { t:Option AO×Option Str×AF×Pos // e=.ExceptHandler t.1 t.2.1 t.2.2.1 t.2.2.2 }:=match e with
 |.ExceptHandler a0 a1 a2 a3=>some ⟨(a0,a1,a2,a3),rfl⟩
def xU(e:AO):Option { t:AO×Int×Option AO×Pos // e=.FormattedValue t.1 t.2.1 t.2.2.1 t.2.2.2 }:=match e with
 |.FormattedValue a0 a1 a2 a3=>some ⟨(a0,a1,a2,a3),rfl⟩
 |_=>none
def Xf(e:AO):Option { t:AE×Pos // e=.JoinedStr t.1 t.2 }:=match e with
 |.JoinedStr a0 a1=>some ⟨(a0,a1),rfl⟩
 |_=>none
def Xg(k:Const):Option { x:Str // k=.str x }:=match k with
 |.str x=>some ⟨x,rfl⟩
 |_=>none
def aiA(b:Bool)(k:Const):Bool:=match k with
 |.bool c=>c==b
 |_=>false
def sV(e:Stmt):Option { t:Option AO×Pos // e=.Return t.1 t.2 }:=match e with
 |.Return a0 a1=>some ⟨(a0,a1),rfl⟩
 |_=>none
def Ey(e:Stmt):Option { t:AO×AF×AF×Pos // e=.If t.1 t.2.1 t.2.2.1 t.2.2.2 }:=match e with
 |.If a0 a1 a2 a3=>some ⟨(a0,a1,a2,a3),rfl⟩
 |_=>none
def Ez(e:Stmt):Option { t:AO×AO×AF×AF×Pos // e=.For t.1 t.2.1 t.2.2.1 t.2.2.2.1 t.2.2.2.2 }:=match e with
 |.For a0 a1 a2 a3 a4=>some ⟨(a0,a1,a2,a3,a4),rfl⟩
 |_=>none
def EY(e:Stmt):Option { t:AO×AF×AF×Pos // e=.While t.1 t.2.1 t.2.2.1 t.2.2.2 }:=match e with
 |.While a0 a1 a2 a3=>some ⟨(a0,a1,a2,a3),rfl⟩
 |_=>none
def Fb(e:Stmt):Option { t:Pos // e=.Pass t }:=match e with
 |.Pass a0=>some ⟨a0,rfl⟩
 |_=>none
def Fd(e:Stmt):Option { t:Pos // e=.Break t }:=match e with
 |.Break a0=>some ⟨a0,rfl⟩
 |_=>none
def Fe(e:Stmt):Option { t:Pos // e=.Continue t }:=match e with
 |.Continue a0=>some ⟨a0,rfl⟩
 |_=>none
def one{α:Type}:List α->Option α
 |[a]=>some a
 |_=>none
def three{α:Type}:List α->Option (α×α×α)
 |[x,y,z]=>some (x,y,z)
 |_=>none
def two{α:Type}:List α->Option (α×α)
 |[a,b]=>some (a,b)
 |_=>none
def hdT{α:Type}:List α->Option (α×List α)
 |a::r=>some (a,r)
 |[]=>none
def cW{α:Type}{l:List α}{a:α}(h:one l=some a):l=[a]:=by
 cases l with
 |nil=>cases h
 |cons x r=>cases r with
  |nil=>cases h;rfl
  |cons _ _=>cases h
def lK{α:Type}{l:List α}{a:α×α}(h:two l=some a):l=[a.1,a.2]:=by
 cases l with
 |nil=>cases h
 |cons x r=>cases r with
  |nil=>cases h
  |cons y r=>cases r with
   |nil=>cases h;rfl
   |cons _ _=>cases h
def Ff{α:Type}{l:List α}{a:α×List α}(h:hdT l=some a):l=a.1::a.2:=by
 cases l with
 |nil=>cases h
 |cons x r=>cases h;rfl
def aW{α:Type}{o:Option α}{p:α->Bool}(h:o.any p=true):∃t,o=some t/\p t=true:=by
 cases o with
 |none=>cases h
 |some t=>exact ⟨t,rfl,h⟩
def xV:UnaryOp->Bool
 |.USub=>true
 |_=>false
def lL:UnaryOp->Bool
 |.Not=>true
 |_=>false
def Xh{o:UnaryOp}(h:xV o=true):o=.USub:=by cases o <;> first |rfl |cases h
def Fg{o:UnaryOp}(h:lL o=true):o=.Not:=by cases o <;> first |rfl |cases h
def bK(e:AO):Option (Str×Pos×AE×Pos):=(sO e).bind λt=>(asName t.1.1).bind λn=>match t.1.2.2.1 with |[]=>some (n.1.1,n.1.2,t.1.2.1,t.1.2.2.2) |_::_=>none
def aA{α:Type}{q:α->Prop}(o:Option { t:α // q t })(P:α->Bool):Bool:=match o with |some t=>P t.1 |none=>false
def aO{α:Type}{q:α->Prop}{o:Option { t:α // q t }}{P:α->Bool}(h:aA o P=true):∃t,q t/\P t=true:=by
 cases o with
 |none=>cases h
 |some t=>exact ⟨t.1,t.2,h⟩
def Fi{α β:Type}{o:Option α}{f:α->Option β}{b:β}(h:o.bind f=some b):∃t,o=some t/\f t=some b:=by
 cases o with
 |none=>cases h
 |some t=>exact ⟨t,rfl,h⟩
def d7{e:AO}{t:Str×Pos×AE×Pos}(h:bK e=some t):e=.Call (.Name t.1 t.2.1) t.2.2.1 [] t.2.2.2:=by
 obtain ⟨⟨⟨f,as,ks,p⟩,hu⟩,_,h⟩:=Fi h;obtain ⟨⟨⟨x,p'⟩,hn⟩,_,h⟩:=Fi h;dsimp only at h hn hu;cases ks with
 |nil=>cases h;rw[hu,hn]
 |cons _ _=>cases h
def aiB (e:AO):Option (Str×Pos×AO×AO×Pos×Pos):=(sO e).bind λt=>(asName t.1.1).bind λn=>(one t.1.2.1).bind λv=>(one t.1.2.2.1).bind λkw=>if kw.arg=some (⇑"start") then some (n.1.1,n.1.2,v,kw.value,kw.pos,t.1.2.2.2) else none
def lM(e:AO):Bool:=(lJ e).isSome
def Fj:Ex->Bool
 |.frz _=>false
 |_=>true
def sW:Tx->Bool
 |.yes=>true
 |_=>false
mutual
def bH(c:CT):Tg->AO->Bool
 |.nm i,e=>aA (asName e) λt=>(c.N[i]?==some t.1)&&c.sto t.1
 |.tp ts,e=>aA (gF e) λt=>cH c ts t.1
def cH(c:CT):Tgs->AE->Bool
 |.nil,es=>es.isEmpty
 |.cons t r,es=>match es with
  |e::es=>bH c t e&&cH c r es
  |[]=>false
end
def Fl(e:AO):Bool:=aA (lH e) λt=>aA (Xg t.1) λx=>decide (x.length<=1000)
def unF(e:AO):AO:=match xU e with |some t=>t.1.1 |none=>e
def Xi:Ex->Bool
 |.cst (.str _)=>true
 |_=>false
def Xj:Exs->AE->Bool
 |.cons x xs,p::ps=>(match xU p with |some t=>decide (t.1.2.1=-1)&&t.1.2.2.1.isNone |none=>Xi x)&&Xj xs ps
 |.nil,ps=>ps.isEmpty
 |_,[]=>false
mutual
def aa(c:CT):Ex->AO->Bool
 |.var i,e=>aA (asName e) λt=>(c.N[i]?==some t.1)&&iw (c.kd.lookup t.1)&&okN t.1
 |.cst d,e=>aA (lH e) λt=>iy d t.1
 |.glb x d,e=>aA (asName e) λt=>t.1==⇑x&&c.glo t.1&&c.cn.any (λp=>p.1==x&&sEq p.2 d)
 |.bin op _ a b,e=>aA (Ep e) λt=>t.2.1==op&&aa c a t.1&&aa c b t.2.2.1
 |.neg a,e=>aA (jG e) λt=>xV t.1&&aa c a t.2.1
 |.cmp op a b,e=>aA (lJ e) λt=>(one t.2.1).any λo=>(one t.2.2.1).any λr=>o==op&&aa c a t.1&&aa c b r
 |.chn op op' a b d,e=>aA (lJ e) λt=>(two t.2.1).any λo=>(two t.2.2.1).any λr=>o.1==op&&o.2==op'&&aa c a t.1&&aa c b r.1&&aa c d r.2
 |.not a,e=>aA (jG e) λt=>lL t.1&&aa c a t.2.1
 |.boo isAnd x es,e=>aA (sH e) λt=>(hdT t.2.1).any λv=>t.1==(if isAnd then .And else .Or)&&aa c x v.1&&aM c es v.2
 |.ife t a b,e=>aA (Er e) λu=>bD c t u.1&&aa c a u.2.1&&aa c b u.2.2.1
 |.tup es,e=>aA (gF e) λt=>aM c es t.1
 |.lst _ es,e=>aA (asList e) λt=>aM c es t.1
 |.idx a i,e=>aA (gG e) λt=>aa c a t.1&&aa c i t.2.1
 |.slc _ a lo hi,e=>aA (gG e) λt=>aA (sJ t.2.1) λs=>s.2.2.1.isNone&&(aa c a t.1&&fZ c lo s.1&&fZ c hi s.2.1)
 |.rvs _ a s,e=>aA (gG e) λt=>aA (sJ t.2.1) λu=>u.1.isNone&&u.2.1.isNone&&(u.2.2.1.any λst=>aa c a t.1&&aa c s st)
 |.call f es,e=>(bK e).any λt=>t.1==⇑f&&c.glo t.1&&(c.fs.any λp=>p.1==f&&p.2==t.2.2.1.length)&&!t.2.2.1.isEmpty&&aM c es t.2.2.1
 |.bcl f es,e=>(bK e).any λt=>t.1==⇑f.name&&xR f&&c.glo t.1&&c.bt.contains f.name&&!t.2.2.1.isEmpty&&aM c es t.2.2.1
 |.lcl _ f es,e=>(bK e).any λt=>t.1==⇑f.name&&xT f&&c.glo t.1&&c.bt.contains f.name&&!t.2.2.1.isEmpty&&aM c es t.2.2.1
 |.isi a t,e=>(bK e).any λu=>(two u.2.2.1).any λv=>aA (asName v.2) λy=>u.1==⇑"isinstance"&&c.glo u.1&&c.bt.contains "isinstance"&&aa c a v.1&&y.1==⇑t&&c.glo y.1&&c.bt.contains t&&fV t
 |.rgl _ a,e=>(bK e).any λt=>(one t.2.2.1).any λe1=>(bK e1).any λu=>(one u.2.2.1).any λe2=>t.1==⇑"list"&&c.glo t.1&&c.bt.contains "list"&&u.1==⇑"range"&&c.glo u.1&&c.bt.contains "range"&&aa c a e2
 |.rgt a,e=>(bK e).any λt=>(one t.2.2.1).any λe1=>(bK e1).any λu=>(one u.2.2.1).any λe2=>t.1==⇑"tuple"&&c.glo t.1&&c.bt.contains "tuple"&&u.1==⇑"range"&&c.glo u.1&&c.bt.contains "range"&&aa c a e2
 |.mth m o es,e=>aA (sO e) λt=>aA (Et t.1) λv=>t.2.2.1.isEmpty&&(v.2.1==⇑m.name&&aa c o v.1&&!sG v.1&&(v.2.2.endLine==t.2.2.2.line)&&decide (t.2.1.length < 29)&&!t.2.1.isEmpty&&aM c es t.2.1)
 |.comp _ elt tg it cond N cap,e=>aA (sS e) λt=>(one t.2.1).any λg=>decide (g.is_async=0)&&bI c it g.target g.iter&&dZ c.N t.2.2.1 (N.map Str.ofString) cap&&dO c t.2.2.1&&dm (N.map Str.ofString) &&
    bH (c.comp (N.map Str.ofString) t.2.2.1) tg g.target&&((sW cond&&g.ifs.isEmpty)||(one g.ifs).any λf=>bD (c.comp (N.map Str.ofString) t.2.2.1) cond f)&&aa (c.comp (N.map Str.ofString) t.2.2.1) elt t.1
 |.frz a,e=>aa c a e
 |.dnw,e=>aA (sI e) λt=>t.1.isEmpty&&t.2.1.isEmpty
 |.dcT a,e=>aA (Es e) λt=>(one t.2.2.1).any λg=>decide (g.is_async=0)&&g.ifs.isEmpty&&aa c a g.iter&&dO c t.2.2.2.1&&(aA (asName g.target) λy=>t.2.2.2.1.names.lookup y.1==some NameKind.local&&okN y.1&&aA (asName t.1) λz=>z.1==y.1)&&aA (lH t.2.1) λk=>iy (.bl true) k.1
 |.cm2 elt t1 i1 t2 i2 cond N cap,e=>aA (sS e) λt=>(two t.2.1).any λg=>decide (g.1.is_async=0)&&decide (g.2.is_async=0)&&g.1.ifs.isEmpty&&bI c i1 g.1.target g.1.iter&&dZ c.N t.2.2.1 (N.map Str.ofString) cap&&dO c t.2.2.1&&dm (N.map Str.ofString)&&bH (c.comp (N.map Str.ofString) t.2.2.1) t1 g.1.target&&bI (c.comp (N.map Str.ofString) t.2.2.1) i2 g.2.target g.2.iter&&bH (c.comp (N.map Str.ofString) t.2.2.1) t2 g.2.target&&(sW cond&&g.2.ifs.isEmpty||(one g.2.ifs).any λf=>bD (c.comp (N.map Str.ofString) t.2.2.1) cond f)&&aa (c.comp (N.map Str.ofString) t.2.2.1) elt t.1
 |.dp1 a b,e=>aA (sI e) λt=>(one t.1).any λk=>k.any λk=>(one t.2.1).any λv=>aa c a k&&aa c b v
def bD(c:CT):Tx->AO->Bool
 |.val x,e=>(iz e||lM e)&&aa c x e&&Fj x
 |.not t,e=>aA (jG e) λu=>lL u.1&&bD c t u.2.1
 |.boo isAnd t ts,e=>aA (sH e) λu=>(hdT u.2.1).any λv=>u.1==(if isAnd then .And else .Or)&&bD c t v.1&&iB c ts v.2
 |.yes,_=>false
def iB(c:CT):Txs->AE->Bool
 |.nil,es=>es.isEmpty
 |.cons t r,es=>match es with
  |e::es=>bD c t e&&iB c r es
  |[]=>false
def aM(c:CT):Exs->AE->Bool
 |.nil,es=>es.isEmpty
 |.cons t r,es=>match es with
  |e::es=>aa c t e&&aM c r es
  |[]=>false
def fZ(c:CT):Ox->Option AO->Bool
 |.no,e=>e.isNone
 |.ob x,e=>match e with
  |some e=>aa c x e
  |none=>false
def bI(c:CT):It'->AO->AO->Bool
 |.seq x,_,e=>aa c x e
 |.rng a,_,e=>(bK e).any λt=>(one t.2.2.1).any λv=>t.1==⇑"range"&&c.glo t.1&&c.bt.contains "range"&&aa c a v
 |.enm a,tg,e=>aA (gF tg) λ_=>(bK e).any λt=>(one t.2.2.1).any λv=>t.1==⇑"enumerate"&&c.glo t.1&&c.bt.contains "enumerate"&&aa c a v
 |.zip a b,tg,e=>aA (gF tg) λ_=>(bK e).any λt=>(two t.2.2.1).any λv=>t.1==⇑"zip"&&c.glo t.1&&c.bt.contains "zip"&&aa c a v.1&&aa c b v.2
end
def gH(c:CT)(cond:Tx)(ifs:AE):Bool:=(sW cond&&ifs.isEmpty)||(one ifs).any λf=>bD c cond f
def Fp:Ex->Bool
 |.comp ..=>true
 |.cm2 ..=>true
 |.dcT _=>true
 |_=>false
def Fq:AO->Bool
 |.Tuple ..=>true
 |_=>false
def xW(g:Tg)(x:Ex)(e:AO):Bool:=match g with |.nm _=>!dB e||Fp x |.tp _=>!Fq e&&!dB e
def xX(c:CT):Exs->AE->Bool
 |es,[]=>(match es with |.nil=>true |_=>false)
 |es,p::ps=>match Fl p with
  |true=>xX c es ps
  |false=>(match es with |.cons x r=>(aA (xU p) λt=>decide (t.2.1=-1)&&t.2.2.1.isNone&&aa c x t.1)&&xX c r ps |.nil=>false)
def aiC(c:CT)(es:Exs)(e:AO):Bool:=(match es with |.nil=>Fl e |_=>false)||aA (Xf e) λt=>decide (2<=t.1.length)&&decide (t.1.length<=50)&&xX c es t.1
mutual
def bJ(c:CT):Sx->Stmt->Bool
 |.exp x,st=>aA (Eu st) λt=>!dB t.1&&aa c x t.1
 |.asg g x,st=>aA (sU st) λt=>(one t.1).any λtg=>bH c g tg&&aa c x t.2.1&&xW g x t.2.1
 |.set o i x,st=>aA (sU st) λt=>(one t.1).any λtg=>aA (gG tg) λu=>aa c o u.1&&aa c i u.2.1&&aa c x t.2.1&&!dB t.2.1
 |.aug i op x,st=>aA (Ew st) λt=>aA (asName t.1) λy=>t.2.1==op&&(c.N[i]?==some y.1)&&c.sto y.1&&okN y.1&&aa c x t.2.2.1
 |.ret x,st=>aA (sV st) λt=>t.1.any λe=>aa c x e
 |.rtn,st=>aA (sV st) λt=>t.1.isNone
 |.ite t a b,st=>aA (Ey st) λu=>bD c t u.1&&aD c a u.2.1&&aD c b u.2.2.1
 |.for_ g it b,st=>aA (Ez st) λt=>t.2.2.2.1.isEmpty&&(bH c g t.1&&bI c it t.1 t.2.1&&aD c b t.2.2.1)
 |.whl t b,st=>aA (EY st) λu=>u.2.2.1.isEmpty&&(bD c t u.1&&aD c b u.2.1)
 |.pas,st=>(Fb st).isSome
 |.brk,st=>(Fd st).isSome
 |.cnt,st=>(Fe st).isSome
 |.nev,_=>true
def aD(c:CT):Sxs->AF->Bool
 |.nil,es=>es.isEmpty
 |.cons t r,es=>match es with
  |e::es=>bJ c t e&&aD c r es
  |[]=>false
end
def xY{c:CT}{i:Nat}{e:AO}(h:bH c (.nm i) e=true):∃x p,e=.Name x p/\((c.N[i]?==some x)&&c.sto x)=true:=by have h:(aA (asName e) λt=>(c.N[i]?==some t.1)&&c.sto t.1)=true:=h;obtain ⟨t,ht,h⟩:=aO h;exact ⟨_,_,ht,h⟩
def xZ{c:CT}{ts:Tgs}{e:AO}(h:bH c (.tp ts) e=true):∃es k p,e=.Tuple es k p/\(cH c ts es)=true:=by have h:(aA (gF e) λt=>cH c ts t.1)=true:=h;obtain ⟨t,ht,h⟩:=aO h;exact ⟨_,_,_,ht,h⟩
def Ft{c:CT}{i:Nat}{e:AO}(h:aa c (.var i) e=true):∃x p,e=.Name x p/\((c.N[i]?==some x)&&iw (c.kd.lookup x)&&okN x)=true:=by have h:(aA (asName e) λt=>(c.N[i]?==some t.1)&&iw (c.kd.lookup t.1)&&okN t.1)=true:=h;obtain ⟨t,ht,h⟩:=aO h;exact ⟨_,_,ht,h⟩
def Fv{c:CT}{d:D}{e:AO}(h:aa c (.cst d) e=true):∃k n p,e=.Constant k n p/\(iy d k)=true:=by have h:(aA (lH e) λt=>iy d t.1)=true:=h;obtain ⟨t,ht,h⟩:=aO h;exact ⟨_,_,_,ht,h⟩
def Fw{c:CT}{x:AL}{d:D}{e:AO}(h:aa c (.glb x d) e=true):∃y p,e=.Name y p/\(y==⇑x&&c.glo y&&c.cn.any (λp=>p.1==x&&sEq p.2 d))=true:=by have h:(aA (asName e) λt=>t.1==⇑x&&c.glo t.1&&c.cn.any (λp=>p.1==x&&sEq p.2 d))=true:=h;obtain ⟨t,ht,h⟩:=aO h;exact ⟨_,_,ht,h⟩
def Fx{c:CT}{op:Operator}{fz:Bool}{a b:Ex}{e:AO}(h:aa c (.bin op fz a b) e=true):∃l o r p,e=.BinOp l o r p/\(o==op&&aa c a l&&aa c b r)=true:=by have h:(aA (Ep e) λt=>t.2.1==op&&aa c a t.1&&aa c b t.2.2.1)=true:=h;obtain ⟨t,ht,h⟩:=aO h;exact ⟨_,_,_,_,ht,h⟩
def Fy{c:CT}{a:Ex}{e:AO}(h:aa c (.neg a) e=true):∃x p,e=.UnaryOp .USub x p/\(aa c a x)=true:=by have h:(aA (jG e) λt=>xV t.1&&aa c a t.2.1)=true:=h;obtain ⟨t,ht,h⟩:=aO h;rw[ae]at h;exact ⟨_,_,by rw[ht,Xh h.1],h.2⟩
def FJ{c:CT}{a:Ex}{e:AO}(h:aa c (.not a) e=true):∃x p,e=.UnaryOp .Not x p/\(aa c a x)=true:=by have h:(aA (jG e) λt=>lL t.1&&aa c a t.2.1)=true:=h;obtain ⟨t,ht,h⟩:=aO h;rw[ae]at h;exact ⟨_,_,by rw[ht,Fg h.1],h.2⟩
def FN{c:CT}{op:CmpOp}{a b:Ex}{e:AO}(h:aa c (.cmp op a b) e=true):∃l o r p,e=.Compare l [o] [r] p/\(o==op&&aa c a l&&aa c b r)=true:=by have h:(aA (lJ e) λt=>(one t.2.1).any λo=>(one t.2.2.1).any λr=>o==op&&aa c a t.1&&aa c b r)=true:=h;obtain ⟨t,ht,h⟩:=aO h;obtain ⟨o,ho,h⟩:=aW h;obtain ⟨r,hr,h⟩:=aW h;exact ⟨_,_,_,_,by rw[ht,cW ho,cW hr],h⟩
def FP{c:CT}{op op':CmpOp}{a b d:Ex}{e:AO}(h:aa c (.chn op op' a b d) e=true):∃l o o' m r p,e=.Compare l [o,o'] [m,r] p/\(o==op&&o'==op'&&aa c a l&&aa c b m&&aa c d r)=true:=by have h:(aA (lJ e) λt=>(two t.2.1).any λo=>(two t.2.2.1).any λr=>o.1==op&&o.2==op'&&aa c a t.1&&aa c b r.1&&aa c d r.2)=true:=h;obtain ⟨t,ht,h⟩:=aO h;obtain ⟨o,ho,h⟩:=aW h;obtain ⟨r,hr,h⟩:=aW h;exact ⟨_,_,_,_,_,_,by rw[ht,lK ho,lK hr],h⟩
def FQ{c:CT}{isAnd:Bool}{x:Ex}{es:Exs}{e:AO}(h:aa c (.boo isAnd x es) e=true):∃op v vs p,e=.BoolOp op (v::vs) p/\(op==(if isAnd then .And else .Or)&&aa c x v&&aM c es vs)=true:=by have h:(aA (sH e) λt=>(hdT t.2.1).any λv=>t.1==(if isAnd then .And else .Or)&&aa c x v.1&&aM c es v.2)=true:=h;obtain ⟨t,ht,h⟩:=aO h;obtain ⟨v,hv,h⟩:=aW h;exact ⟨_,_,_,_,by rw[ht,Ff hv],h⟩
def FT{c:CT}{t:Tx}{a b:Ex}{e:AO}(h:aa c (.ife t a b) e=true):∃t' a' b' p,e=.IfExp t' a' b' p/\(bD c t t'&&aa c a a'&&aa c b b')=true:=by have h:(aA (Er e) λu=>bD c t u.1&&aa c a u.2.1&&aa c b u.2.2.1)=true:=h;obtain ⟨u,ht,h⟩:=aO h;exact ⟨_,_,_,_,ht,h⟩
def FW{c:CT}{es:Exs}{e:AO}(h:aa c (.tup es) e=true):∃vs k p,e=.Tuple vs k p/\(aM c es vs)=true:=by have h:(aA (gF e) λt=>aM c es t.1)=true:=h;obtain ⟨t,ht,h⟩:=aO h;exact ⟨_,_,_,ht,h⟩
def Ga{c:CT}{fz:Bool}{es:Exs}{e:AO}(h:aa c (.lst fz es) e=true):∃vs p,e=.List vs p/\(aM c es vs)=true:=by have h:(aA (asList e) λt=>aM c es t.1)=true:=h;obtain ⟨t,ht,h⟩:=aO h;exact ⟨_,_,ht,h⟩
def Gb{c:CT}{a i:Ex}{e:AO}(h:aa c (.idx a i) e=true):∃v s p,e=.Subscript v s p/\(aa c a v&&aa c i s)=true:=by have h:(aA (gG e) λt=>aa c a t.1&&aa c i t.2.1)=true:=h;obtain ⟨t,ht,h⟩:=aO h;exact ⟨_,_,_,ht,h⟩
def Gd{c:CT}{e:AO}(h:aa c .dnw e=true):∃p,e=.Dict [] [] p:=by have h:(aA (sI e) λt=>t.1.isEmpty&&t.2.1.isEmpty)=true:=h;obtain ⟨t,ht,h⟩:=aO h;rw[ae,eP,eP]at h;exact ⟨t.2.2,by rw[ht,h.1,h.2]⟩
def yc{c:CT}{a:Ex}{e:AO}(h:aa c (.dcT a) e=true):∃x pk j pv px iter scope pos,e=.DictComp (.Name x pk) (.Constant (.bool true) j pv) [⟨.Name x px,iter,[],0⟩] scope pos/\aa c a iter=true/\dO c scope=true/\scope.names.lookup x=some NameKind.local/\okN x=true:=by
 have h:(aA (Es e) λt=>(one t.2.2.1).any λg=>decide (g.is_async=0)&&g.ifs.isEmpty&&aa c a g.iter&&dO c t.2.2.2.1&&(aA (asName g.target) λy=>t.2.2.2.1.names.lookup y.1==some NameKind.local&&okN y.1&&aA (asName t.1) λz=>z.1==y.1)&&aA (lH t.2.1) λk=>iy (.bl true) k.1)=true:=h;obtain ⟨⟨kx,vx,gs,scope,pos⟩,ht,h⟩:=aO h;obtain ⟨⟨tg',iter,ifs,as⟩,hg,h⟩:=aW h;simp only[ae,ck,eP]at h;obtain ⟨⟨⟨⟨⟨h1,h2⟩,h3⟩,h4⟩,h5⟩,h6⟩:=h;obtain ⟨y,hy,h5⟩:=aO h5;simp only[ae,a9]at h5;obtain ⟨⟨h7,h8⟩,h9⟩:=h5;obtain ⟨z,hz,h9⟩:=aO h9;rw[a9]at h9;obtain ⟨⟨k,j,p⟩,hk,h6⟩:=aO h6;have hk2:k=.bool true:=by cases k <;> first | (cases h6;done) |skip;rw[show iy (.bl true) (.bool _)=(true==_) from rfl,a9]at h6;rw[<-h6]
 dsimp only at ht hg hy hz hk h3 h4 h7;subst h1 h2;exact ⟨y.1,z.2,j,p,y.2,iter,scope,pos,by rw[ht];(try dsimp only);rw[cW hg,hy,hz,hk,hk2,h9],h3,h4,h7,h8⟩
def Ge{c:CT}{a b:Ex}{e:AO}(h:aa c (.dp1 a b) e=true):∃k v p,e=.Dict [some k] [v] p/\(aa c a k&&aa c b v)=true:=by have h:(aA (sI e) λt=>(one t.1).any λk=>k.any λk=>(one t.2.1).any λv=>aa c a k&&aa c b v)=true:=h;obtain ⟨t,ht,h⟩:=aO h;obtain ⟨k,hk,h⟩:=aW h;obtain ⟨k',hk',h⟩:=aW h;obtain ⟨v,hv,h⟩:=aW h;exact ⟨k',v,t.2.2,by rw[ht,cW hk,cW hv,hk'],h⟩
def Gf{c:CT}{fz:Bool}{a:Ex}{lo hi:Ox}{e:AO}(h:aa c (.slc fz a lo hi) e=true):∃v l u p' p,e=.Subscript v (.Slice l u none p') p/\(aa c a v&&fZ c lo l&&fZ c hi u)=true:=by have h:(aA (gG e) λt=>aA (sJ t.2.1) λs=>s.2.2.1.isNone&&(aa c a t.1&&fZ c lo s.1&&fZ c hi s.2.1))=true:=h;obtain ⟨t,ht,h⟩:=aO h;obtain ⟨s,hs,h⟩:=aO h;rw[ae,fh]at h;exact ⟨_,_,_,_,_,by rw[ht,hs,h.1],h.2⟩
def Gg{c:CT}{fz:Bool}{a s:Ex}{e:AO}(h:aa c (.rvs fz a s) e=true):∃v st p' p,e=.Subscript v (.Slice none none (some st) p') p/\(aa c a v&&aa c s st)=true:=by have h:(aA (gG e) λt=>aA (sJ t.2.1) λu=>u.1.isNone&&u.2.1.isNone&&(u.2.2.1.any λst=>aa c a t.1&&aa c s st))=true:=h;obtain ⟨t,ht,h⟩:=aO h;obtain ⟨u,hu,h⟩:=aO h;rw[ae,ae,fh,fh]at h;obtain ⟨st,hst,h'⟩:=aW h.2;exact ⟨_,_,_,_,by rw[ht,hu,h.1.1,h.1.2,hst],h'⟩
def Gi{c:CT}{f:AL}{es:Exs}{e:AO}(h:aa c (.call f es) e=true):∃x p args pos,e=.Call (.Name x p) args [] pos/\(x==⇑f&&c.glo x&&(c.fs.any λp=>p.1==f&&p.2==args.length)&&!args.isEmpty&&aM c es args)=true:=by have h:((bK e).any λt=>t.1==⇑f&&c.glo t.1&&(c.fs.any λp=>p.1==f&&p.2==t.2.2.1.length)&&!t.2.2.1.isEmpty&&aM c es t.2.2.1)=true:=h;obtain ⟨t,ht,h⟩:=aW h;exact ⟨_,_,_,_,d7 ht,h⟩
def Gj{c:CT}{f:Bf}{es:Exs}{e:AO}(h:aa c (.bcl f es) e=true):∃x p args pos,e=.Call (.Name x p) args [] pos/\(x==⇑f.name&&xR f&&c.glo x&&c.bt.contains f.name&&!args.isEmpty&&aM c es args)=true:=by have h:((bK e).any λt=>t.1==⇑f.name&&xR f&&c.glo t.1&&c.bt.contains f.name&&!t.2.2.1.isEmpty&&aM c es t.2.2.1)=true:=h;obtain ⟨t,ht,h⟩:=aW h;exact ⟨_,_,_,_,d7 ht,h⟩
def Gk{c:CT}{fz:Bool}{f:Lf}{es:Exs}{e:AO}(h:aa c (.lcl fz f es) e=true):∃x p args pos,e=.Call (.Name x p) args [] pos/\(x==⇑f.name&&xT f&&c.glo x&&c.bt.contains f.name&&!args.isEmpty&&aM c es args)=true:=by have h:((bK e).any λt=>t.1==⇑f.name&&xT f&&c.glo t.1&&c.bt.contains f.name&&!t.2.2.1.isEmpty&&aM c es t.2.2.1)=true:=h;obtain ⟨t,ht,h⟩:=aW h;exact ⟨_,_,_,_,d7 ht,h⟩
def Gm {c:CT} {a:Ex} {t:AL} {e:AO} (h:aa c (.isi a t) e=true):∃x p v y p' pos,e=.Call (.Name x p) [v,.Name y p'] [] pos/\(x==⇑"isinstance"&&c.glo x&&c.bt.contains "isinstance"&&aa c a v&&y==⇑t&&c.glo y&&c.bt.contains t&&fV t)=true:=by have h:((bK e).any λu=>(two u.2.2.1).any λv=>aA (asName v.2) λy=>u.1==⇑"isinstance"&&c.glo u.1&&c.bt.contains "isinstance"&&aa c a v.1&&y.1==⇑t&&c.glo y.1&&c.bt.contains t&&fV t)=true:=h;obtain ⟨u,hu,h⟩:=aW h;obtain ⟨v,hv,h⟩:=aW h;obtain ⟨y,hy,h⟩:=aO h;exact ⟨_,_,_,_,_,_,by rw[d7 hu,lK hv,hy],h⟩
def Gn {c:CT} {fz:Bool} {a:Ex} {e:AO} (h:aa c (.rgl fz a) e=true):∃x p x' p' e2 pos' pos,e=.Call (.Name x p) [.Call (.Name x' p') [e2] [] pos'] [] pos/\(x==⇑"list"&&c.glo x&&c.bt.contains "list"&&x'==⇑"range"&&c.glo x'&&c.bt.contains "range"&&aa c a e2)=true:=by have h:((bK e).any λt=>(one t.2.2.1).any λe1=>(bK e1).any λu=>(one u.2.2.1).any λe2=>t.1==⇑"list"&&c.glo t.1&&c.bt.contains "list"&&u.1==⇑"range"&&c.glo u.1&&c.bt.contains "range"&&aa c a e2)=true:=h;obtain ⟨t,ht,h⟩:=aW h;obtain ⟨e1,he1,h⟩:=aW h;obtain ⟨u,hu,h⟩:=aW h;obtain ⟨e2,he2,h⟩:=aW h;exact ⟨_,_,_,_,_,_,_,by rw[d7 ht,cW he1,d7 hu,cW he2],h⟩
def Gp {c:CT} {a:Ex} {e:AO} (h:aa c (.rgt a) e=true):∃x p x' p' e2 pos' pos,e=.Call (.Name x p) [.Call (.Name x' p') [e2] [] pos'] [] pos/\(x==⇑"tuple"&&c.glo x&&c.bt.contains "tuple"&&x'==⇑"range"&&c.glo x'&&c.bt.contains "range"&&aa c a e2)=true:=by have h:((bK e).any λt=>(one t.2.2.1).any λe1=>(bK e1).any λu=>(one u.2.2.1).any λe2=>t.1==⇑"tuple"&&c.glo t.1&&c.bt.contains "tuple"&&u.1==⇑"range"&&c.glo u.1&&c.bt.contains "range"&&aa c a e2)=true:=h;obtain ⟨t,ht,h⟩:=aW h;obtain ⟨e1,he1,h⟩:=aW h;obtain ⟨u,hu,h⟩:=aW h;obtain ⟨e2,he2,h⟩:=aW h;exact ⟨_,_,_,_,_,_,_,by rw[d7 ht,cW he1,d7 hu,cW he2],h⟩
def Gq{c:CT}{m:Mf}{o:Ex}{es:Exs}{e:AO}(h:aa c (.mth m o es) e=true):∃v x apos args cpos,e=.Call (.Attribute v x apos) args [] cpos/\(x==⇑m.name&&aa c o v&&!sG v&&(apos.endLine==cpos.line)&&decide (args.length < 29)&&!args.isEmpty&&aM c es args)=true:=by have h:(aA (sO e) λt=>aA (Et t.1) λv=>t.2.2.1.isEmpty&&(v.2.1==⇑m.name&&aa c o v.1&&!sG v.1&&(v.2.2.endLine==t.2.2.2.line)&&decide (t.2.1.length < 29)&&!t.2.1.isEmpty&&aM c es t.2.1))=true:=h;obtain ⟨t,ht,h⟩:=aO h;obtain ⟨v,hv,h⟩:=aO h;rw[ae,eP]at h;exact ⟨_,_,_,_,_,by rw[ht,hv,h.1],h.2⟩
def Gs{c:CT}{fz:Bool}{elt:Ex}{tg:Tg}{it:It'}{cond:Tx}{N:List AL}{cap:List (Option Nat)}{e:AO}(h:aa c (.comp fz elt tg it cond N cap) e=true):∃elt' tg' iter ifs as scope pos,e=.ListComp elt' [⟨tg',iter,ifs,as⟩] scope pos/\(decide (as=0)&&bI c it tg' iter&&dZ c.N scope (N.map Str.ofString) cap&&dO c scope&&dm (N.map Str.ofString)&&bH (c.comp (N.map Str.ofString) scope) tg tg'&&gH (c.comp (N.map Str.ofString) scope) cond ifs&&aa (c.comp (N.map Str.ofString) scope) elt elt')=true:=by have h:(aA (sS e) λt=>(one t.2.1).any λg=>decide (g.is_async=0)&&bI c it g.target g.iter&&dZ c.N t.2.2.1 (N.map Str.ofString) cap&&dO c t.2.2.1&&dm (N.map Str.ofString)&&bH (c.comp (N.map Str.ofString) t.2.2.1) tg g.target&&((sW cond&&g.ifs.isEmpty)||(one g.ifs).any λf=>bD (c.comp (N.map Str.ofString) t.2.2.1) cond f)&&aa (c.comp (N.map Str.ofString) t.2.2.1) elt t.1)=true:=h;obtain ⟨t,ht,h⟩:=aO h;obtain ⟨⟨tg',iter,ifs,as⟩,hg,h⟩:=aW h;exact ⟨t.1,tg',iter,ifs,as,t.2.2.1,t.2.2.2,(ht).trans (by rw[cW hg]),h⟩
def yd{c:CT}{elt:Ex}{t1 t2:Tg}{i1 i2:It'}{cond:Tx}{N:List AL}{cap:List (Option Nat)}{e:AO}(h:aa c (.cm2 elt t1 i1 t2 i2 cond N cap) e=true):∃elt' a1 b1 a2 b2 ifs scope pos,e=.ListComp elt' [⟨a1,b1,[],0⟩,⟨a2,b2,ifs,0⟩] scope pos/\
  (bI c i1 a1 b1=true/\dZ c.N scope (N.map Str.ofString) cap=true/\dO c scope=true/\dm (N.map Str.ofString)=true/\bH (c.comp (N.map Str.ofString) scope) t1 a1=true/\bI (c.comp (N.map Str.ofString) scope) i2 a2 b2=true/\bH (c.comp (N.map Str.ofString) scope) t2 a2=true/\gH (c.comp (N.map Str.ofString) scope) cond ifs=true/\aa (c.comp (N.map Str.ofString) scope) elt elt'=true):=by
 have h:(aA (sS e) λt=>(two t.2.1).any λg=>decide (g.1.is_async=0)&&decide (g.2.is_async=0)&&g.1.ifs.isEmpty&&bI c i1 g.1.target g.1.iter&&dZ c.N t.2.2.1 (N.map Str.ofString) cap&&dO c t.2.2.1&&dm (N.map Str.ofString)&&bH (c.comp (N.map Str.ofString) t.2.2.1) t1 g.1.target&&bI (c.comp (N.map Str.ofString) t.2.2.1) i2 g.2.target g.2.iter&&bH (c.comp (N.map Str.ofString) t.2.2.1) t2 g.2.target&&gH (c.comp (N.map Str.ofString) t.2.2.1) cond g.2.ifs&&aa (c.comp (N.map Str.ofString) t.2.2.1) elt t.1)=true:=h;obtain ⟨t,ht,h⟩:=aO h;obtain ⟨⟨⟨a1,b1,f1,z1⟩,⟨a2,b2,f2,z2⟩⟩,hg,h⟩:=aW h;simp only[ae,ck,eP,and_assoc]at h;obtain ⟨rfl,rfl,rfl,h⟩:=h;exact ⟨t.1,a1,b1,a2,b2,f2,t.2.2.1,t.2.2.2,(ht).trans (by rw[lK hg]),h⟩
def Xk{c:CT}{t:Tx}{e:AO}(h:bD c (.not t) e=true):∃x p,e=.UnaryOp .Not x p/\(bD c t x)=true:=by have h:(aA (jG e) λu=>lL u.1&&bD c t u.2.1)=true:=h;obtain ⟨u,ht,h⟩:=aO h;rw[ae]at h;exact ⟨_,_,by rw[ht,Fg h.1],h.2⟩
def Xl{c:CT}{isAnd:Bool}{x:Tx}{es:Txs}{e:AO}(h:bD c (.boo isAnd x es) e=true):∃op v vs p,e=.BoolOp op (v::vs) p/\(op==(if isAnd then .And else .Or)&&bD c x v&&iB c es vs)=true:=by have h:(aA (sH e) λu=>(hdT u.2.1).any λv=>u.1==(if isAnd then .And else .Or)&&bD c x v.1&&iB c es v.2)=true:=h;obtain ⟨t,ht,h⟩:=aO h;obtain ⟨v,hv,h⟩:=aW h;exact ⟨_,_,_,_,by rw[ht,Ff hv],h⟩
def Gu {c:CT} {a:Ex} {tg e:AO} (h:bI c (.rng a) tg e=true):∃x p v pos,e=.Call (.Name x p) [v] [] pos/\(x==⇑"range"&&c.glo x&&c.bt.contains "range"&&aa c a v)=true:=by have h:((bK e).any λt=>(one t.2.2.1).any λv=>t.1==⇑"range"&&c.glo t.1&&c.bt.contains "range"&&aa c a v)=true:=h;obtain ⟨t,ht,h⟩:=aW h;obtain ⟨v,hv,h⟩:=aW h;exact ⟨_,_,_,_,by rw[d7 ht,cW hv],h⟩
def Gv {c:CT} {a:Ex} {tg e:AO} (h:bI c (.enm a) tg e=true):∃ts k p0 x p v pos,tg=.Tuple ts k p0/\e=.Call (.Name x p) [v] [] pos/\(x==⇑"enumerate"&&c.glo x&&c.bt.contains "enumerate"&&aa c a v)=true:=by have h:(aA (gF tg) λ_=>(bK e).any λt=>(one t.2.2.1).any λv=>t.1==⇑"enumerate"&&c.glo t.1&&c.bt.contains "enumerate"&&aa c a v)=true:=h;obtain ⟨g,hg,h⟩:=aO h;obtain ⟨t,ht,h⟩:=aW h;obtain ⟨v,hv,h⟩:=aW h;exact ⟨_,_,_,_,_,_,_,hg,by rw[d7 ht,cW hv],h⟩
def Gw {c:CT} {a b:Ex} {tg e:AO} (h:bI c (.zip a b) tg e=true):∃ts k p0 x p v v' pos,tg=.Tuple ts k p0/\e=.Call (.Name x p) [v,v'] [] pos/\(x==⇑"zip"&&c.glo x&&c.bt.contains "zip"&&aa c a v&&aa c b v')=true:=by have h:(aA (gF tg) λ_=>(bK e).any λt=>(two t.2.2.1).any λv=>t.1==⇑"zip"&&c.glo t.1&&c.bt.contains "zip"&&aa c a v.1&&aa c b v.2)=true:=h;obtain ⟨g,hg,h⟩:=aO h;obtain ⟨t,ht,h⟩:=aW h;obtain ⟨v,hv,h⟩:=aW h;exact ⟨_,_,_,_,_,_,_,_,hg,by rw[d7 ht,lK hv],h⟩
def Xm{c:CT}{x:Ex}{st:Stmt}(h:bJ c (.exp x) st=true):∃e pos,st=.Expr e pos/\(!dB e&&aa c x e)=true:=by have h:(aA (Eu st) λt=>!dB t.1&&aa c x t.1)=true:=h;obtain ⟨t,ht,h⟩:=aO h;exact ⟨_,_,ht,h⟩
def Gx{c:CT}{g:Tg}{x:Ex}{st:Stmt}(h:bJ c (.asg g x) st=true):∃tg e pos,st=.Assign [tg] e pos/\(bH c g tg&&aa c x e&&xW g x e)=true:=by have h:(aA (sU st) λt=>(one t.1).any λtg=>bH c g tg&&aa c x t.2.1&&xW g x t.2.1)=true:=h;obtain ⟨t,ht,h⟩:=aO h;obtain ⟨g,hg,h⟩:=aW h;exact ⟨_,_,_,by rw[ht,cW hg],h⟩
def Xo{c:CT}{o i x:Ex}{st:Stmt}(h:bJ c (.set o i x) st=true):∃o' i' tpos e pos,st=.Assign [.Subscript o' i' tpos] e pos/\(aa c o o'&&aa c i i'&&aa c x e&&!dB e)=true:=by have h:(aA (sU st) λt=>(one t.1).any λtg=>aA (gG tg) λu=>aa c o u.1&&aa c i u.2.1&&aa c x t.2.1&&!dB t.2.1)=true:=h;obtain ⟨t,ht,h⟩:=aO h;obtain ⟨g,hg,h⟩:=aW h;obtain ⟨u,hu,h⟩:=aO h;exact ⟨_,_,_,_,_,by rw[ht,cW hg,hu],h⟩
def Xp{c:CT}{i:Nat}{op:Operator}{x:Ex}{st:Stmt}(h:bJ c (.aug i op x) st=true):∃y py o e pos,st=.AugAssign (.Name y py) o e pos/\(o==op&&(c.N[i]?==some y)&&c.sto y&&okN y&&aa c x e)=true:=by have h:(aA (Ew st) λt=>aA (asName t.1) λy=>t.2.1==op&&(c.N[i]?==some y.1)&&c.sto y.1&&okN y.1&&aa c x t.2.2.1)=true:=h;obtain ⟨t,ht,h⟩:=aO h;obtain ⟨u,hu,h⟩:=aO h;exact ⟨_,_,_,_,_,by rw[ht,hu],h⟩
def Xq{c:CT}{x:Ex}{st:Stmt}(h:bJ c (.ret x) st=true):∃e pos,st=.Return (some e) pos/\(aa c x e)=true:=by have h:(aA (sV st) λt=>t.1.any λe=>aa c x e)=true:=h;obtain ⟨t,ht,h⟩:=aO h;obtain ⟨e,he,h⟩:=aW h;exact ⟨_,_,by rw[ht,he],h⟩
def Xr{c:CT}{st:Stmt}(h:bJ c .rtn st=true):∃pos,st=.Return none pos/\(true)=true:=by have h:(aA (sV st) λt=>t.1.isNone)=true:=h;obtain ⟨t,ht,h⟩:=aO h;rw[fh]at h;exact ⟨_,by rw[ht,h],rfl⟩
def Xu{c:CT}{t:Tx}{a b:Sxs}{st:Stmt}(h:bJ c (.ite t a b) st=true):∃t' a' b' pos,st=.If t' a' b' pos/\(bD c t t'&&aD c a a'&&aD c b b')=true:=by have h:(aA (Ey st) λu=>bD c t u.1&&aD c a u.2.1&&aD c b u.2.2.1)=true:=h;obtain ⟨u,ht,h⟩:=aO h;exact ⟨_,_,_,_,ht,h⟩
def Xv{c:CT}{g:Tg}{it:It'}{b:Sxs}{st:Stmt}(h:bJ c (.for_ g it b) st=true):∃tg iter body pos,st=.For tg iter body [] pos/\(bH c g tg&&bI c it tg iter&&aD c b body)=true:=by have h:(aA (Ez st) λt=>t.2.2.2.1.isEmpty&&(bH c g t.1&&bI c it t.1 t.2.1&&aD c b t.2.2.1))=true:=h;obtain ⟨t,ht,h⟩:=aO h;rw[ae,eP]at h;exact ⟨_,_,_,_,by rw[ht,h.1],h.2⟩
def Xw{c:CT}{t:Tx}{b:Sxs}{st:Stmt}(h:bJ c (.whl t b) st=true):∃t' body pos,st=.While t' body [] pos/\(bD c t t'&&aD c b body)=true:=by have h:(aA (EY st) λu=>u.2.2.1.isEmpty&&(bD c t u.1&&aD c b u.2.1))=true:=h;obtain ⟨u,ht,h⟩:=aO h;rw[ae,eP]at h;exact ⟨_,_,_,by rw[ht,h.1],h.2⟩
def Xx{c:CT}{st:Stmt}(h:bJ c .pas st=true):∃pos,st=.Pass pos/\(true)=true:=by obtain ⟨⟨t,ht⟩,_⟩:=cm.mp (show (Fb st).isSome=true from h);exact ⟨t,ht,rfl⟩
def Xy{c:CT}{st:Stmt}(h:bJ c .brk st=true):∃pos,st=.Break pos/\(true)=true:=by obtain ⟨⟨t,ht⟩,_⟩:=cm.mp (show (Fd st).isSome=true from h);exact ⟨t,ht,rfl⟩
def Xz{c:CT}{st:Stmt}(h:bJ c .cnt st=true):∃pos,st=.Continue pos/\(true)=true:=by obtain ⟨⟨t,ht⟩,_⟩:=cm.mp (show (Fe st).isSome=true from h);exact ⟨t,ht,rfl⟩
def lN:AO->Bool
 |.Starred ..=>false
 |.Set ..=>false
 |.Slice ..=>false
 |_=>true
def bR{c:CT}:∀(x:Ex){e:AO},aa c x e=true->lN e=true
 |.frz a,e,h=>bR a (show aa c a e=true from h)
 |.dnw,e,h=>by obtain ⟨_,rfl⟩:=Gd h;rfl
 |.dcT _,e,h=>by obtain ⟨_,_,_,_,_,_,_,_,rfl,_⟩:=yc h;rfl
 |.cm2 _ _ _ _ _ _ _ _,e,h=>by obtain ⟨_,_,_,_,_,_,_,_,rfl,_⟩:=yd h;rfl
 |.dp1 _ _,e,h=>by obtain ⟨_,_,_,rfl,_⟩:=Ge h;rfl
 |.var _,e,h=>by obtain ⟨_,_,rfl,_⟩:=Ft h;rfl
 |.cst _,e,h=>by obtain ⟨_,_,_,rfl,_⟩:=Fv h;rfl
 |.glb _ _,e,h=>by obtain ⟨_,_,rfl,_⟩:=Fw h;rfl
 |.bin _ _ _ _,e,h=>by obtain ⟨_,_,_,_,rfl,_⟩:=Fx h;rfl
 |.neg _,e,h=>by obtain ⟨_,_,rfl,_⟩:=Fy h;rfl
 |.cmp _ _ _,e,h=>by obtain ⟨_,_,_,_,rfl,_⟩:=FN h;rfl
 |.chn _ _ _ _ _,e,h=>by obtain ⟨_,_,_,_,_,_,rfl,_⟩:=FP h;rfl
 |.not _,e,h=>by obtain ⟨_,_,rfl,_⟩:=FJ h;rfl
 |.boo _ _ _,e,h=>by obtain ⟨_,_,_,_,rfl,_⟩:=FQ h;rfl
 |.ife _ _ _,e,h=>by obtain ⟨_,_,_,_,rfl,_⟩:=FT h;rfl
 |.tup _,e,h=>by obtain ⟨_,_,_,rfl,_⟩:=FW h;rfl
 |.lst _ _,e,h=>by obtain ⟨_,_,rfl,_⟩:=Ga h;rfl
 |.idx _ _,e,h=>by obtain ⟨_,_,_,rfl,_⟩:=Gb h;rfl
 |.slc _ _ _ _,e,h=>by obtain ⟨_,_,_,_,_,rfl,_⟩:=Gf h;rfl
 |.rvs _ _ _,e,h=>by obtain ⟨_,_,_,_,rfl,_⟩:=Gg h;rfl
 |.call _ _,e,h=>by obtain ⟨_,_,_,_,rfl,_⟩:=Gi h;rfl
 |.bcl _ _,e,h=>by obtain ⟨_,_,_,_,rfl,_⟩:=Gj h;rfl
 |.lcl _ _ _,e,h=>by obtain ⟨_,_,_,_,rfl,_⟩:=Gk h;rfl
 |.isi _ _,e,h=>by obtain ⟨_,_,_,_,_,_,rfl,_⟩:=Gm h;rfl
 |.rgl _ _,e,h=>by obtain ⟨_,_,_,_,_,_,_,rfl,_⟩:=Gn h;rfl
 |.rgt _,e,h=>by obtain ⟨_,_,_,_,_,_,_,rfl,_⟩:=Gp h;rfl
 |.mth _ _ _,e,h=>by obtain ⟨_,_,_,_,_,rfl,_⟩:=Gq h;rfl
 |.comp _ _ _ _ _ _ _,e,h=>by obtain ⟨_,_,_,_,_,_,_,rfl,_⟩:=Gs h;rfl
def dq{e:AO}(h:lN e=true):noStar e=true:=by cases e <;> first |rfl |exact nZf h
def Gy{e:AO}(h:lN e=true)(op:CmpOp):behindInMarks op e=false:=by cases e <;> first |rfl |exact nZf h
def ye{e:AO}(h:lN e=true)(env:Env)(x:AN):foldedSetIterable e env x=pure x:=by cases e <;> first |rfl |exact nZf h
def XC{e:AO}(h:lN e=true):Bp e:=by intro o i;cases e <;> first |rfl |exact nZf h
def XD{e:AO}(h:iz e=true)(env:Env)(whole:Sem AN):isTrue e env whole=(do let v <-whole;standAt e.pos;holding [v] (truthy v)):=by
 cases e with
 |UnaryOp op x p=>cases op <;> first |rfl |exact nZf h
 |_=>first |rfl |exact nZf h
set_option backward.match.sparseCases true
def XV(K:PF)(H:Hp)(F:FZ)(x:Xn)(cv:AN)(od:Option AQ):Prop:=
 ∃C,cv=.ref C/\PySem.W.nsIn K mainGlobals (⇑x.cls)=some (some (.ref C))/\
  match x.fld with
  |.non=>True
  |d=>∃a f v,od=some a/\H a=some (.xd [(f,v)])/\Rep K H F d v
def XR(K:PF)(H:Hp)(F:FZ)(x:Xn)(EX:XK):Prop:=∀cv od,XV K H F x cv od->EX cv od H
def PX(K:PF)(H:Hp)(F:FZ)(EX:XK):EK:=λx G'=>∀H' F',Ext H F H' F'->R K H' F' G'->XR K H' F' x EX
def el{α β γ:Type}{p q r s:α->β->γ->Prop}{C:Prop}(h:∃x y z,p x y z/\q x y z/\r x y z/\s x y z)(k:∀x y z,p x y z->q x y z->r x y z->s x y z->C):C:=by obtain ⟨x,y,z,h1,h2,h3,h4⟩:=h;exact k x y z h1 h2 h3 h4
def lift(K:PF)(n:Nat)(S:RF.Spec):Sp:=λvs H Q EX=>vs.length=n/\∃F G ds,R K H F G/\Reps K H F ds vs/\S.t ds G (PV K H F Q) (PX K H F EX)
def CV(K:PF)(mg:AH)(C':AL)(cv:V):Prop:=
 (∃a,cv=.ref a/\mg (⇑C')=some (.ref a)/\Cg K a=true)\/(C'="ValueError"/\cv=.ty "ValueError"/\mg (⇑C')=none)
def XI(K:PF)(C C':AL)(cv:V):Prop:=
 ∃c,PySem.W.nsIn K mainGlobals (⇑C)=some (some (.ref c))/\vf K c=true/\PySem.W.mroIn K c (valOf cv)=some (gC C C')/\(gC C C'=false->(Value.ref c==valOf cv)=false)
structure Bs where
 H:Hp
 F:FZ
def Gz(K:PF)(C f:AL):Prop:=∃c,PySem.W.nsIn K mainGlobals (⇑C)=some (some (.ref c))/\Cls K c/\Rv K c (⇑f)
def MthOk(Z:aj)(P:AK)(w:World)(K:PF)(mg:AH)(base:Heap)(CX:CXT)(k:Nat)(f C m:AL)(n:Nat):Prop:=
 ∃c fa fd ps,PySem.W.nsIn K mainGlobals (⇑C)=some (some (.ref c))/\Cls K c/\Meth K c (⇑m) fa/\Binds K fd ps []/\FnOk P w K mg base CX k fa fd ps (lift K n (Z f))
def MkoOk(Z:aj)(P:AK)(w:World)(K:PF)(mg:AH)(base:Heap)(CX:CXT)(k:Nat)(C:AL)(n:Nat):Prop:=
 ∃c fa fd ps sp j,j+1<=k/\mg (⇑C)=some (.ref c)/\Mk K c fa/\Binds K fd ps []/\FnOk P w K mg base CX j fa fd ps sp/\
  ∀vs H Q E,lift K n (Z C) vs H Q E->∀x dx,H x=none->H dx=none->dx≠x->sp (.ref x::vs) (upd (upd H dx (.own x)) x (.ins c dx [])) (λv H2=>v=.non/\Q (.ref x) H2) E
def XF(K:PF)(c:AQ)(f:AL):Sp:=λvs H Q _=>∃a b l d F G,vs=[.ref a,b]/\H a=some (.ext (Cz a c l none))/\¬F a/\R K H F G/\Rep K H F d b/\okA d/\
 ∀H2 F2 dx od ob l',Ext H F H2 F2->R K H2 F2 G->H2 a=some (.ext (Cz a c l' none))->H2 dx=none->dx≠a->ob.cls=.ref c->ob.dict=some dx->PySem.W.notCls ob=true->Q .non (upd (upd H2 a (.frz ob (.own a))) dx (.frz od (.xd [(⇑f,b)])))
def XH(P:AK)(w:World)(K:PF)(mg:AH)(base:Heap)(CX:CXT)(k:Nat)(C f:AL):Prop:=
 ∃c fa fd ps j,j+1<=k/\mg (⇑C)=some (.ref c)/\PySem.W.nsIn K mainGlobals (⇑C)=some (some (.ref c))/\UJ K c fa=true/\PySem.W.typeIn K (.ref fa)=some (.type "function")/\PySem.W.keepIn K (.ref c)=true/\
  (vf K c=true/\PySem.W.hasDictIn K c=true/\PySem.W.findIn K (.ref c) (⇑f)=some none)/\Binds K fd ps []/\FnOk P w K mg base CX j fa fd ps (XF K c f)
def XkoX(P:AK)(w:World)(K:PF)(mg:AH)(base:Heap)(CX:CXT)(k:Nat)(xs:List (AL×Bool))(C f:AL):Prop:=
 XH P w K mg base CX k C f/\∀C' cv,xs.contains (C',false)=true->CV K mg C' cv->XI K C C' cv
structure Stat(Z:aj)(CX:CXT)(k:Nat)(c:CT)(E:EK)(B:Bs)(X:Cx):Prop where
 N:X.N=c.N
 nd:X.N.Nodup
 calm:X.calm=true
 own:PassesOwn (model X.prog X.w) X.A X.env X.xe
 kd:X.env.kindOf=λx=>X.env.scope.names.lookup x
 vis:∀x,iw (c.kd.lookup x)=true->Vis X.env.scope x
 cel:∀x,(c.kd.lookup x=some .cell\/c.kd.lookup x=some .free)->(X.env.kindOf x=some .cell\/X.env.kindOf x=some .free)
 glo:∀x,c.kd.lookup x=some .globalImplicit->Gl X x
 sto:∀x,c.sto x=true->Loc X.env.scope x/\(X.fn x=true\/X.env.scope.names.lookup x=some .local)
 room:Room k X.A
 call:∀f n,(f,n)∈c.fs->∃fa fd ps,FnOk X.prog X.w X.K X.mg X.base CX k fa fd ps (lift X.K n (Z f))/\PySem.W.keepIn X.K (.ref fa)=true/\Binds X.K fd ps []/\X.mg (⇑f)=some (.ref fa)
 blt:∀f,f∈c.bt->X.mg (⇑f)=none
 con:∀x d,(x,d)∈c.cn->∃u v,X.mg (⇑x)=some u/\RelV v u/\∀H F,Rep X.K H F d v
 exc:∃EX,kj CX X EX/\Throws X EX/\∀x G' H' F',E x G'->Ext B.H B.F H' F'->R X.K H' F' G'->XR X.K H' F' x EX
 nox:∀(Y:Cx),kj CX Y λ_ _ _=>False
 xcl:∀C,c.xs.contains (C,true)=true->∃a,X.mg (⇑C)=some (.ref a)/\qM X.K a=true/\PySem.W.nsIn X.K mainGlobals (⇑C)=some (some (.ref a))
 loc:∀x,c.kd.lookup x=some .local->X.env.scope.names.lookup x=some .local
 xis:∀C',c.xs.contains (C',false)=true->∃cv,CV X.K X.mg C' cv/\∀C,c.xs.contains (C,true)=true->XI X.K C C' cv
 mth:∀f C m n,(f,C,m,n)∈c.ot.ms->MthOk Z X.prog X.w X.K X.mg X.base CX k f C m n
 mko:∀C n,(C,n)∈c.ot.ks->MkoOk Z X.prog X.w X.K X.mg X.base CX k C n
 fld:∀C f,(C,f)∈c.ot.fl->Gz X.K C f
 xko:∀C f,(C,f)∈c.ot.xk->XkoX X.prog X.w X.K X.mg X.base CX k c.xs C f
 trc:c.xs≠[]->CX=CX1 X.prog X.w/\X.stack=X.env::X.outer/\X.ex=[]
def tE(K:PF)(B:Bs)(w:ak->DH->(AT)->Prop):TE:=λX H Q=>∃Y F G,Ext B.H B.F H F/\EnvR K H F Y X/\R K H F G/\w Y G (PV K H F Q)
def tB'(K:PF)(B:Bs)(w:ak->DH->(Bool->DH->Prop)->Prop):TT:=λX H Q=>∃Y F G,Ext B.H B.F H F/\EnvR K H F Y X/\R K H F G/\w Y G (PB K H F Q)
def tL(K:PF)(B:Bs)(w:ak->DH->(AS->DH->Prop)->Prop):TA:=λX H Q=>∃Y F G,Ext B.H B.F H F/\EnvR K H F Y X/\R K H F G/\w Y G (PLs K H F Q)
def POp(K:PF)(H:Hp)(F:FZ)(Q:Option Int->Hp->Prop):Option Int->DH->Prop:=λb G'=>∀H' F',Ext H F H' F'->R K H' F' G'->Q b H'
def GC(K:PF)(B:Bs)(w:ak->DH->(Option Int->DH->Prop)->Prop):TO:=λX H Q=>∃Y F G,Ext B.H B.F H F/\EnvR K H F Y X/\R K H F G/\w Y G (POp K H F Q)
def peI{X:Cx}{e:AO}{t t':TE}(h:PE X e t)(i:∀Y H Q,t' Y H Q->t Y H Q):PE X e t':=λp9 s Y H Q I q=>h p9 s Y H Q I (i Y H Q q)
def ptI{X:Cx}{e:AO}{t t':TT}(h:PT X e t)(i:∀Y H Q,t' Y H Q->t Y H Q):PT X e t':=λp9 s Y H Q I q=>h p9 s Y H Q I (i Y H Q q)
def pwI{X:Cx}{e:AO}{t t':TT}(h:PW X e t)(i:∀Y H Q,t' Y H Q->t Y H Q):PW X e t':=λwh p9 s Y H Q I q=>h wh p9 s Y H Q I (i Y H Q q)
def paI{X:Cx}{e:AE}{t t':TA}(h:PA X e t)(i:∀Y H Q,t' Y H Q->t Y H Q):PA X e t':=λpos p9 s Y H Q I q=>h pos p9 s Y H Q I (i Y H Q q)
section
variable {Z:aj} {CX:CXT} {k:Nat} {c:CT} {E:EK} {B:Bs} {X:Cx}
theorem aN{K:PF}{x:Ex}{X:L2.St}{H:Hp}{F:FZ}{G:DH}{Y:ak}{W:AT}{Q:VK}(e0:Ext B.H B.F H F)(he:EnvR K H F Y X)(r:R K H F G)(hw:wpE Z x E Y G W)
  (h:∀d G1 H1 F1 v,W d G1->Ext B.H B.F H1 F1->Ext H F H1 F1->EnvR K H1 F1 Y X->R K H1 F1 G1->Rep K H1 F1 d v->Q v H1):tE K B (wpE Z x E) X H Q:=
 ⟨Y,F,G,e0,he,r,aH x (λd G1 q H1 F1 v x1 r1 rv=>h d G1 H1 F1 v q (e0.trans x1) x1 (he.ext x1) r1 rv) hw⟩
theorem dC{K:PF}{x:Exs}{X:L2.St}{H:Hp}{F:FZ}{G:DH}{Y:ak}{W:AS->DH->Prop}{Q:AR->Hp->Prop}(e0:Ext B.H B.F H F)(he:EnvR K H F Y X)(r:R K H F G)(hw:bj Z x E Y G W)
  (h:∀d G1 H1 F1 v,W d G1->Ext B.H B.F H1 F1->Ext H F H1 F1->EnvR K H1 F1 Y X->R K H1 F1 G1->Reps K H1 F1 d v->Q v H1):tL K B (bj Z x E) X H Q:=
 ⟨Y,F,G,e0,he,r,fX x (λd G1 q H1 F1 v x1 r1 rv=>h d G1 H1 F1 v q (e0.trans x1) x1 (he.ext x1) r1 rv) hw⟩
theorem gJ{K:PF}{x:Tx}{X:L2.St}{H:Hp}{F:FZ}{G:DH}{Y:ak}{W:Bool->DH->Prop}{Q:Bool->Hp->Prop}(e0:Ext B.H B.F H F)(he:EnvR K H F Y X)(r:R K H F G)(hw:wpT Z x E Y G W)
  (h:∀d G1 H1 F1,W d G1->Ext B.H B.F H1 F1->Ext H F H1 F1->EnvR K H1 F1 Y X->R K H1 F1 G1->Q d H1):tB' K B (wpT Z x E) X H Q:=
 ⟨Y,F,G,e0,he,r,cV x (λd G1 q H1 F1 x1 r1=>h d G1 H1 F1 q (e0.trans x1) x1 (he.ext x1) r1) hw⟩
theorem GD{K:PF}{x:Ox}{X:L2.St}{H:Hp}{F:FZ}{G:DH}{Y:ak}{W:Option Int->DH->Prop}{Q:Option Int->Hp->Prop}(e0:Ext B.H B.F H F)(he:EnvR K H F Y X)(r:R K H F G)(hw:wpO Z x E Y G W)
  (h:∀d G1 H1 F1,W d G1->Ext B.H B.F H1 F1->Ext H F H1 F1->EnvR K H1 F1 Y X->R K H1 F1 G1->Q d H1):GC K B (wpO Z x E) X H Q:=
 ⟨Y,F,G,e0,he,r,xq x (λd G1 q H1 F1 x1 r1=>h d G1 H1 F1 q (e0.trans x1) x1 (he.ext x1) r1) hw⟩
theorem PV.later{K:PF}{H H1:Hp}{F F1:FZ}{Q:VK}{d:D}{G:DH}(h:PV K H F Q d G)(x:Ext H F H1 F1):PV K H1 F1 Q d G:=λH' F' v x1=>h H' F' v (x.trans x1)
theorem PB.later{K:PF}{H H1:Hp}{F F1:FZ}{Q:Bool->Hp->Prop}{d:Bool}{G:DH}(h:PB K H F Q d G)(x:Ext H F H1 F1):PB K H1 F1 Q d G:=λH' F' x1=>h H' F' (x.trans x1)
theorem PB.now{K:PF}{H:Hp}{F:FZ}{Q:Bool->Hp->Prop}{d:Bool}{G:DH}(h:PB K H F Q d G)(r:R K H F G):Q d H:=h H F (Ext.refl H F) r
theorem d9(S:Stat Z CX k c E B X):X.A.units+100 < cLine:=by have:=S.room.un;omega
theorem b7 {x:Str} (h:okN x=true):(x==("__debug__":Str))=false:=by
 unfold okN at h;cases e:x==("__debug__":Str) with
 |false=>rfl
 |true=>rw[e]at h;simp at h
theorem XJ {x:Str} (h:okN x=true):(x==("__classdict__":Str))=false:=by
 unfold okN at h;cases e:x==("__classdict__":Str) with
 |false=>rfl
 |true=>rw[e]at h;simp at h
theorem cX {x:Str} (h:okN x=true):x≠"__name__":=by unfold okN at h;intro e;rw[a9.mpr e]at h;simp at h
theorem dD{x:Str}(h:c.glo x=true):c.kd.lookup x=some .globalImplicit/\okN x=true:=by unfold CT.glo at h;rw[ae,a9]at h;exact h
theorem XM(S:Stat Z CX k c E B X){i:Nat}{e:AO}(h:aa c (.var i) e=true):PE X e (tE X.K B (wpE Z (.var i) E)):=by
 replace h:=Ft h;obtain ⟨x,pos,rfl,h⟩:=h
 .rw[ae,ae,a9]at h;refine peI (Ai (i:=i) (by rw[S.N];exact h.1.1) (S.vis x h.1.2) (b7 h.2) (XJ h.2)) λW H Q q=>?_;obtain ⟨Y,F,G,_,he,r,hw⟩:=q;rw[v7]at hw;split at hw
  .rename_i d hd;obtain ⟨v,e1,rv⟩:=he.get hd;exact ⟨v,e1,hw.now r rv⟩
  .exact hw.elim
theorem XN(S:Stat Z CX k c E B X){d:D}{e:AO}(h:aa c (.cst d) e=true):PE X e (tE X.K B (wpE Z (.cst d) E)):=by
 replace h:=Fv h;obtain ⟨kk,_,_,rfl,h⟩:=h
 .unfold iy at h;split at h
  .exact peI Pu λW H Q hq=>el hq λY F G _ he r hw=>by rw[jB]at hw;exact hw.now r rfl
  .rw[a9]at h;subst h;exact peI Pr λW H Q hq=>el hq λY F G _ he r hw=>by rw[jB]at hw;exact hw.now r rfl
  .rw[a9]at h;subst h;exact peI Pq λW H Q hq=>el hq λY F G _ he r hw=>by rw[jB]at hw;exact hw.now r rfl
  .rename_i l b;rw[ae,a9,ck]at h;refine peI Px λW H Q hq=>el hq λY F G _ he r hw=>?_;rw[jB]at hw;refine hw.now r ⟨?_,h.2⟩;rw[h.1,<-qL]
  .cases h
theorem XQ(S:Stat Z CX k c E B X){x:AL}{d:D}{e:AO}(h:aa c (.glb x d) e=true):PE X e (tE X.K B (wpE Z (.glb x d) E)):=by
 replace h:=Fw h;obtain ⟨y,pos,rfl,h⟩:=h
 .rw[ae,ae,a9,hJ]at h;obtain ⟨⟨e1,h1⟩,⟨x',d'⟩,hm,h2⟩:=h;rw[ae,a9]at h2;obtain ⟨e2,e3⟩:=h2;have e3:=Xe e3;simp only at e2 e3;subst e1 e2 e3;obtain ⟨g1,g2⟩:=dD h1;obtain ⟨u,v,hu,ru,hr⟩:=S.con _ _ hm;exact peI (Py (S.glo _ g1) hu ru (b7 g2)) λW H Q hq=>el hq λY F G _ he r hw=>by rw[v8]at hw;exact hw.now r (hr H F)
theorem XS(S:Stat Z CX k c E B X){op:Operator}{fz:Bool}{a b:Ex}(iha:∀{e},aa c a e=true->PE X e (tE X.K B (wpE Z a E)))(ihb:∀{e},aa c b e=true->PE X e (tE X.K B (wpE Z b E))){e:AO}
  (h:aa c (.bin op fz a b) e=true):PE X e (tE X.K B (wpE Z (.bin op fz a b) E)):=by
 replace h:=Fx h;obtain ⟨l,o,r,pos,rfl,h⟩:=h
 .rw[ae,ae,a9]at h;obtain ⟨⟨e1,h1⟩,h2⟩:=h;subst e1;refine peI (Q4 (VR _ fz) (iha h1) (ihb h2)) λW H Q hq=>el hq λY F G e0 he r hw=>?_;rw[v9]at hw;refine aN e0 he r hw λx G1 H1 F1 v q e1 x1 he1 r1 rv=>aN e1 he1 r1 q λy G2 H2 F2 u q e2 x2 he2 r2 ru=>?_;exact ⟨F2,G2,x,y,r2,Rep.ext x2 rv,ru,Dq (λd G' z=>PV.later z (x1.trans x2)) q⟩
theorem XX(S:Stat Z CX k c E B X){a:Ex}(iha:∀{e},aa c a e=true->PE X e (tE X.K B (wpE Z a E))){e:AO}(h:aa c (.neg a) e=true):PE X e (tE X.K B (wpE Z (.neg a) E)):=by
 replace h:=Fy h;obtain ⟨_,_,rfl,h⟩:=h
 .refine peI (Q5 Rf (iha h)) λW H Q hq=>el hq λY F G e0 he r hw=>?_;rw[wj]at hw;refine aN e0 he r hw λx G1 H1 F1 v q e1 x1 he1 r1 rv=>?_;split at q
  .have e2:v=.int _:=rv;subst e2;exact ⟨_,rfl,q _ _ _ x1 r1 rfl⟩
  .exact q.elim
theorem GF(S:Stat Z CX k c E B X){op:CmpOp}{a b:Ex}(iha:∀{e},aa c a e=true->PE X e (tE X.K B (wpE Z a E)))(ihb:∀{e},aa c b e=true->PE X e (tE X.K B (wpE Z b E))){e:AO}
  (h:aa c (.cmp op a b) e=true):PE X e (tE X.K B (wpE Z (.cmp op a b) E))/\PT X e (tB' X.K B (wpT Z (.val (.cmp op a b)) E)):=by
 replace h:=FN h;obtain ⟨l,o,r,pos,rfl,h⟩:=h
 .rw[ae,ae,a9]at h;obtain ⟨⟨e1,h1⟩,h2⟩:=h;subst e1;have hm:=Gy (bR b h2) o;refine ⟨peI (Ri (jF _ (d9 S)) (iha h1) (ihb h2) hm) λW H Q hq=>el hq λY F G e0 he r hw=>?_,ptI (Rj (jF _ (d9 S)) (iha h1) (ihb h2) hm) λW H Q hq=>el hq λY F G e0 he r hw=>?_⟩
  .rw[rD]at hw;refine aN e0 he r hw λx G1 H1 F1 v q e1 x1 he1 r1 rv=>aN e1 he1 r1 q λy G2 H2 F2 u q e2 x2 he2 r2 ru=>?_;exact ⟨F2,G2,x,y,r2,Rep.ext x2 rv,ru,il (λd z=>PV.later z (x1.trans x2)) q⟩
  .rw[lz,rD]at hw;refine aN e0 he r hw λx G1 H1 F1 v q e1 x1 he1 r1 rv=>aN e1 he1 r1 q λy G2 H2 F2 u q e2 x2 he2 r2 ru=>?_;refine ⟨F2,G2,x,y,r2,Rep.ext x2 rv,ru,il (λd z=>?_) q⟩;intro H' F' v' x' r' rv';have e3:v'=.bl d:=rv';exact ⟨d,e3,z H' F' ((x1.trans x2).trans x') r'⟩
theorem GJ(S:Stat Z CX k c E B X){op op':CmpOp}{a b d:Ex}(iha:∀{e},aa c a e=true->PE X e (tE X.K B (wpE Z a E)))(ihb:∀{e},aa c b e=true->PE X e (tE X.K B (wpE Z b E)))(ihd:∀{e},aa c d e=true->PE X e (tE X.K B (wpE Z d E))){e:AO}
  (h:aa c (.chn op op' a b d) e=true):PE X e (tE X.K B (wpE Z (.chn op op' a b d) E))/\PT X e (tB' X.K B (wpT Z (.val (.chn op op' a b d)) E)):=by
 replace h:=FP h;obtain ⟨l,o,o',m,r,pos,rfl,h⟩:=h
 .simp only[ae,a9]at h;obtain ⟨⟨⟨⟨e1,e2⟩,h1⟩,h2⟩,h3⟩:=h;subst e1 e2;have hm:lastMarks [o,o'] [m,r]=false:=Gy (bR d h3) o';have go:∀{V H Q Y F G}{W:Bool->DH->Prop},Ext B.H B.F H F->EnvR X.K H F Y V->R X.K H F G->
    wpE Z a E Y G (λx G1=>wpE Z b E Y G1 λy G2=>aX o (view G2 x) (view G2 y) λt=>match t with |true=>wpE Z d E Y G2 λz G3=>aX o' (view G3 y) (view G3 z) λt'=>W t' G3 |false=>W false G2)->
    (∀t G' H' F',W t G'->Ext H F H' F'->R X.K H' F' G'->Q (.bl t) H')->
    uT (rC2 X.K (aX o)) (rC2 X.K (aX o')) (tE X.K B (wpE Z a E)) (tE X.K B (wpE Z b E)) (tE X.K B (wpE Z d E)) V H Q:=by
   intro V H Q Y F G W e0 he r hw fin;refine aN e0 he r hw λx G1 H1 F1 v q e1 x1 he1 r1 rv=>aN e1 he1 r1 q λy G2 H2 F2 u q e2 x2 he2 r2 ru=>?_;refine ⟨F2,G2,x,y,r2,Rep.ext x2 rv,ru,il (λt q=>?_) q⟩;intro H3 F3 v3 x3 r3 rv3;have e3:v3=.bl t:=rv3;refine ⟨t,e3,?_⟩;cases t with
   |true=>
    rw[if_pos rfl];refine aN (e2.trans x3) (he2.ext x3) r3 q λz G4 H4 F4 v4 q e4 x4 he4 r4 rv4=>?_;refine ⟨F4,G4,y,z,r4,Rep.ext (x3.trans x4) ru,rv4,il (λt' q=>?_) q⟩;intro H5 F5 v5 x5 r5 rv5;have e5:v5=.bl t':=rv5;subst e5;exact fin _ _ _ _ q ((((x1.trans x2).trans x3).trans x4).trans x5) r5
   |false=>
    rw[if_neg br];exact fin _ _ _ _ q ((x1.trans x2).trans x3) r3
  refine ⟨peI (Rk (jF _ (d9 S)) (jF _ (d9 S)) (iha h1) (ihb h2) (ihd h3) hm) λV H Q hq=>el hq λY F G e0 he r hw=>?_,ptI (Rm (jF _ (d9 S)) (jF _ (d9 S)) (iha h1) (ihb h2) (ihd h3) hm) λV H Q hq=>el hq λY F G e0 he r hw=>?_⟩
  .rw[rE]at hw;exact go (W:=λt G'=>PV X.K H F Q (.bl t) G') e0 he r hw λt G' H' F' z x' r'=>z H' F' _ x' r' rfl
  .rw[lz,rE]at hw;refine go (W:=λt G'=>PB X.K H F Q t G') e0 he r hw λt G' H' F' z x' r'=>⟨t,rfl,z H' F' x' r'⟩
end
section
variable {Z:aj} {CX:CXT} {k:Nat} {c:CT} {E:EK} {B:Bs} {X:Cx}
abbrev OkE(Z:aj)(c:CT)(E:EK)(B:Bs)(X:Cx)(x:Ex):Prop:=∀{e:AO},aa c x e=true->PE X e (tE X.K B (wpE Z x E))
abbrev gK(Z:aj)(c:CT)(E:EK)(B:Bs)(X:Cx)(x:Exs):Prop:=∀{es:AE},aM c x es=true->PA X es (tL X.K B (bj Z x E))
abbrev OkT(Z:aj)(c:CT)(E:EK)(B:Bs)(X:Cx)(x:Tx):Prop:=∀{e:AO},bD c x e=true->PT X e (tB' X.K B (wpT Z x E))
theorem X3(S:Stat Z CX k c E B X){a:Ex}(iha:OkE Z c E B X a){e:AO}(h:aa c (.not a) e=true):PE X e (tE X.K B (wpE Z (.not a) E)):=by
 replace h:=FJ h;obtain ⟨_,_,rfl,h⟩:=h
 .intro p9 s W H Q I q;obtain ⟨Y,F,G,e0,he,r,hw⟩:=q;rw[wk]at hw;have q':tE X.K B (wpE Z a E) W H (λx H1=>∃b,qI X.K x H1 b/\Q (.bl (!b)) H1):=aN e0 he r hw λx G1 H1 F1 v q e1 x1 he1 r1 rv=>by
   split at q
   .rename_i b hb;exact ⟨b,Ed r1 rv hb,q _ _ _ x1 r1 rfl⟩
   .exact q.elim
  refine UnaryOp_ (thn (iha h p9 s W H _ I q') λv s1 ⟨x,H1,I1,r1,b,tb,q1⟩=>?_);refine not_of (thn (Aw p9 s1 W H1 x v (λb' H'=>Q (.bl (!b')) H') I1 r1 ⟨b,tb,q1⟩) λb' s2 ⟨H2,I2,q2⟩=>?_);exact ⟨.bl (!b'),H2,I2,rfl,q2⟩
theorem yf{es:AE}(h:aM c .nil es=true):PA X es (tL X.K B (bj Z .nil E)):=by
 unfold aM at h;cases es with
 |nil=>exact paI gY λW H Q hq=>el hq λY F G e0 he r hw=>by rw[jA]at hw;exact hw H F [] (Ext.refl _ _) r rfl
 |cons _ _=>cases h
theorem sX{x:Ex}{xs:Exs}(ih:OkE Z c E B X x)(ihs:gK Z c E B X xs){es:AE}(h:aM c (.cons x xs) es=true):PA X es (tL X.K B (bj Z (.cons x xs) E)):=by
 unfold aM at h;split at h
 .rename_i e es;rw[ae]at h;refine paI (fM (ih h.1) (ihs h.2) (cF e es X.env (dq (bR x h.1)))) λW H Q hq=>el hq λY F G e0 he r hw=>?_;rw[ie]at hw;refine aN e0 he r hw λd G1 H1 F1 v q e1 x1 he1 r1 rv=>dC e1 he1 r1 q λds G2 H2 F2 vs q e2 x2 he2 r2 rvs=>?_;exact q H2 F2 _ (x1.trans x2) r2 ⟨v,vs,rfl,Rep.ext x2 rv,rvs⟩
 .cases h
theorem X4(S:Stat Z CX k c E B X){es:Exs}(ih:gK Z c E B X es){e:AO}(h:aa c (.tup es) e=true):PE X e (tE X.K B (wpE Z (.tup es) E)):=by
 replace h:=FW h;obtain ⟨_,_,_,rfl,h⟩:=h
 .refine peI (RB (ih h)) λW H Q hq=>el hq λY F G e0 he r hw=>?_;rw[wy]at hw;refine dC e0 he r hw λds G1 H1 F1 vs q e1 x1 he1 r1 rvs=>⟨by rw[<-rvs.length];exact di q.1,jD (PV.later q.2 x1) r1 rvs⟩
theorem X5(S:Stat Z CX k c E B X){fz:Bool}{es:Exs}(ih:gK Z c E B X es){e:AO}(h:aa c (.lst fz es) e=true):PE X e (tE X.K B (wpE Z (.lst fz es) E)):=by
 replace h:=Ga h;obtain ⟨_,_,rfl,h⟩:=h
 .refine peI (RC (ih h)) λW H Q hq=>el hq λY F G e0 he r hw=>?_;rw[wz]at hw;refine dC e0 he r hw λds G1 H1 F1 vs q e1 x1 he1 r1 rvs=>⟨by rw[<-rvs.length];exact di q.1,dh (cU (λd G' z=>PV.later z x1) q.2) r1 rvs⟩
theorem X6(S:Stat Z CX k c E B X){a i:Ex}(iha:OkE Z c E B X a)(ihi:OkE Z c E B X i){e:AO}(h:aa c (.idx a i) e=true):PE X e (tE X.K B (wpE Z (.idx a i) E)):=by
 replace h:=Gb h;obtain ⟨_,_,_,rfl,h⟩:=h
 .rw[ae]at h;refine peI (R4 (V7 (d9 S)) (iha h.1) (ihi h.2) (XC (bR i h.2))) λW H Q hq=>el hq λY F G e0 he r hw=>?_;rw[wA]at hw;refine aN e0 he r hw λx G1 H1 F1 v q e1 x1 he1 r1 rv=>aN e1 he1 r1 q λy G2 H2 F2 u q e2 x2 he2 r2 ru=>?_;exact ⟨F2,G2,x,y,r2,Rep.ext x2 rv,ru,Dt (λd z=>PV.later z (x1.trans x2)) q⟩
theorem X7(S:Stat Z CX k c E B X){e:AO}(h:aa c .dnw e=true):PE X e (tE X.K B (wpE Z .dnw E)):=by obtain ⟨p,rfl⟩:=Gd h;refine peI U7 λW H Q hq=>el hq λY F G e0 he r hw=>?_;rw[wL]at hw;intro p hp;have x:=cR (o:=.dT []) r hp;exact hw p (r.free hp) _ F _ x (r.dctAt x (λf=>by obtain ⟨vs,z⟩:=(r.fz p f).2;rw[hp]at z;cases z) rfl .nil) rfl
theorem X8(S:Stat Z CX k c E B X){a b:Ex}(iha:OkE Z c E B X a)(ihb:OkE Z c E B X b){e:AO}(h:aa c (.dp1 a b) e=true):PE X e (tE X.K B (wpE Z (.dp1 a b) E)):=by obtain ⟨ek,ev,p,rfl,hh⟩:=Ge h;rw[ae]at hh;refine peI (U9 (by have:=d9 S;omega) (iha hh.1) (ihb hh.2)) λW H Q hq=>el hq λY F G e0 he r hw=>?_;rw[wN]at hw;refine aN e0 he r hw λx G1 H1 F1 v q e1 x1 he1 r1 rv=>aN e1 he1 r1 q λy G2 H2 F2 u q e2 x2 he2 r2 ru=>?_;obtain ⟨n,b,q,rfl,hb,_⟩:=jE (Rep.ext x2 rv) q;refine ⟨b,aQ n,rfl,hb,λp hp=>?_⟩;have x:=cR (o:=.dT [(aQ n,u)]) r2 hp;exact q p (r2.free hp) _ F2 _ (x1.trans (x2.trans x)) (r2.dctAt x (λf=>by obtain ⟨vs,z⟩:=(r2.fz p f).2;rw[hp]at z;cases z) rfl (.cons ru .nil)) rfl
theorem GK{lo:Ox}(ih:∀x,lo=.ob x->OkE Z c E B X x){l:Option AO}(h:fZ c lo l=true):PO X l (GC X.K B (wpO Z lo E)):=by
 cases lo with
 |no=>
  unfold fZ at h;cases l with
  |none=>
   intro p9 s W H Q I q;refine uU p9 s W H Q I ?_;obtain ⟨Y,F,G,e0,he,r,hw⟩:=q;rw[vV]at hw;exact hw H F (Ext.refl _ _) r
  |some _=>cases h
 |ob x=>
  unfold fZ at h;split at h
  .intro p9 s W H Q I q;refine RW (ih x rfl h) p9 s W H Q I ?_;obtain ⟨Y,F,G,e0,he,r,hw⟩:=q;rw[vW]at hw;refine aN e0 he r hw λd G1 H1 F1 v q e1 x1 he1 r1 rv=>?_;split at q
   .have e2:v=.int _:=rv;exact ⟨_,e2,q H1 F1 x1 r1⟩
   .exact q.elim
  .cases h
theorem Yb(S:Stat Z CX k c E B X){fz:Bool}{a:Ex}{lo hi:Ox}(iha:OkE Z c E B X a)(ihl:∀x,lo=.ob x->OkE Z c E B X x)(ihh:∀x,hi=.ob x->OkE Z c E B X x){e:AO}(h:aa c (.slc fz a lo hi) e=true):
  PE X e (tE X.K B (wpE Z (.slc fz a lo hi) E)):=by
 replace h:=Gf h;obtain ⟨_,_,_,_,_,rfl,h⟩:=h
 .rw[ae,ae]at h;refine peI (RX (Wd fz) (iha h.1.1) (GK ihl h.1.2) (GK ihh h.2)) λW H Q hq=>el hq λY F G e0 he r hw=>?_;rw[wC]at hw;refine aN e0 he r hw λx G1 H1 F1 v q e1 x1 he1 r1 rv=>GD e1 he1 r1 q λl G2 H2 F2 q e2 x2 he2 r2=>GD e2 he2 r2 q λu G3 H3 F3 q e3 x3 he3 r3=>?_;exact ⟨F3,G3,x,r3,Rep.ext (x2.trans x3) rv,Du (λd G' z=>PV.later z ((x1.trans x2).trans x3)) q⟩
theorem Yc(S:Stat Z CX k c E B X){fz:Bool}{a s:Ex}(iha:OkE Z c E B X a)(ihs:OkE Z c E B X s){e:AO}(h:aa c (.rvs fz a s) e=true):PE X e (tE X.K B (wpE Z (.rvs fz a s) E)):=by
 replace h:=Gg h;obtain ⟨_,_,_,_,rfl,h⟩:=h;rw[ae]at h;refine peI (Uy (iha h.1) (ihs h.2)) λW H Q hq=>el hq λY F G e0 he r hw=>?_;rw[wB]at hw;refine aN e0 he r hw λx G1 H1 F1 v q e1 x1 he1 r1 rv=>aN e1 he1 r1 q λy G2 H2 F2 u q e2 x2 he2 r2 ru=>?_;have q:=Dv (λd G' z=>PV.later z (x1.trans x2)) q;have rv2:=Rep.ext x2 rv;generalize ea:view G2 x=va at q;unfold g8 at q;split at q
 .obtain ⟨p,vs,e,sq,t⟩:=Rep.list r2 rv2 ea;have ey:=q.1;subst ey;exact ⟨ru,p,vs,e,.inl ⟨sq,dh q.2 r2 t.reverse⟩⟩
 .obtain ⟨ey,q9⟩:=q;cases fP ea;subst ey;obtain ⟨p,vs,e,sq,t⟩:=rv2;exact ⟨ru,p,vs,e,.inr ⟨SqT.of sq.it,jD q9 r2 t.reverse⟩⟩
 .exact q.elim
theorem Yd(S:Stat Z CX k c E B X){a:Ex}(iha:OkE Z c E B X a){e:AO}(h:aa c (.frz a) e=true):PE X e (tE X.K B (wpE Z (.frz a) E)):=by
 have h:aa c a e=true:=h;refine peI (iha h) λW H Q hq=>el hq λY F G e0 he r hw=>?_;rw[wK]at hw;refine aN e0 he r hw λx G1 H1 F1 v q e1 x1 he1 r1 rv=>?_;split at q
 .rename_i p;have e2:v=.ref p:=rv;subst e2;split at q
  .rename_i ds hg;exact q _ _ _ (x1.trans vG) (r1.frz hg) (Vw r1 hg)
  .exact q.elim
 .exact q _ _ _ x1 r1 rv
theorem sY{es:AE}{xs:Exs}(h:aM c xs es=true)(env:Env)(pos:Pos):(backTo pos (starEach es env)).any (·.1)=false:=by
 induction es generalizing xs with
 |nil=>rfl
 |cons e es ih=>
  cases xs with
  |nil=>unfold aM at h;cases h
  |cons x xs=>
   unfold aM at h;rw[ae]at h;rw[cF e es env (dq (bR x h.1))];show (false||(backTo pos (starEach es env)).any (·.1))=false;rw[ih h.2];rfl
theorem lO{e:AO}{es:AE}{xs:Exs}(h:aM c xs (e::es)=true):∃x xs',xs=.cons x xs'/\aa c x e=true/\aM c xs' es=true:=by
 cases xs with
 |nil=>unfold aM at h;cases h
 |cons x xs'=>
  unfold aM at h;rw[ae]at h;exact ⟨x,xs',rfl,h.1,h.2⟩
theorem GQ{Y:ak}:∀(xs:Exs){es:AE}{G:DH}{Q:AS->DH->Prop},aM c xs es=true->bj Z xs E Y G Q->bj Z xs E Y G (λds G'=>ds.length=es.length/\Q ds G')
 |.nil,es,G,Q,h,q=>by
  unfold aM at h;rw[jA]at q ⊢;cases es with
  |nil=>exact ⟨rfl,q⟩
  |cons _ _=>cases h
 |.cons x xs,es,G,Q,h,q=>by
  unfold aM at h;split at h
  .rename_i e es;rw[ae]at h;rw[ie]at q ⊢;refine aH x (λd G1 q=>fX xs (λds G2 z=>?_) (GQ xs h.2 q)) q;exact ⟨by simp[z.1],z.2⟩
  .cases h
theorem Ye(S:Stat Z CX k c E B X){f:AL}{xs:Exs}(ih:gK Z c E B X xs){e:AO}(h:aa c (.call f xs) e=true):PE X e (tE X.K B (wpE Z (.call f xs) E)):=by
 replace h:=Gi h;obtain ⟨x,p,args,pos,rfl,h⟩:=h
 .simp only[ae,a9,hJ]at h;obtain ⟨⟨⟨⟨e1,h1⟩,⟨f',n⟩,hm,e2,e3⟩,h2⟩,h3⟩:=h;simp only at e2 e3;subst e1 e2 e3;obtain ⟨g1,g2⟩:=dD h1;obtain ⟨fa,fd,ps,F0,hk,hb,hmg⟩:=S.call _ _ hm;obtain ⟨EX,hpass,_,hEX⟩:=S.exc;cases args with
  |nil=>cases h2
  |cons e es=>
   obtain ⟨x0,xs',rfl,c1,c2⟩:=lO h3;refine peI (RJ F0 S.room (S.glo _ g1) hmg hk hb .nil hpass (ih h3) (b7 g2) (cF e es X.env (dq (bR x0 c1))) (sY c2 X.env pos)) λW H Q hq=>el hq λY F G e0 he r hw=>?_;rw[wD]at hw;refine dC e0 he r (GQ _ h3 hw) λds G1 H1 F1 vs q e1 x1 he1 r1 rvs=>?_;rw[fi];refine ⟨by rw[<-rvs.length];exact q.1,F1,G1,ds,r1,rvs,Spec.mono q.2 (λd G' z=>PV.later z x1) λx G' z H' F' x' r'=>?_⟩;exact hEX x G' H' F' z (e1.trans x') r'
theorem Yg(S:Stat Z CX k c E B X){f:Bf}{xs:Exs}(ih:gK Z c E B X xs){e:AO}(h:aa c (.bcl f xs) e=true):PE X e (tE X.K B (wpE Z (.bcl f xs) E)):=by
 replace h:=Gj h;obtain ⟨x,p,args,pos,rfl,h⟩:=h
 .simp only[ae,a9]at h;obtain ⟨⟨⟨⟨⟨e1,hok⟩,h1⟩,hm⟩,h2⟩,h3⟩:=h;subst e1;obtain ⟨g1,g2⟩:=dD h1;have hmg:=S.blt _ (bv.mp hm);cases args with
  |nil=>cases h2
  |cons e es=>
   obtain ⟨x0,xs',rfl,c1,c2⟩:=lO h3;have hs:=cF e es X.env (dq (bR x0 c1));have ha:=sY c2 X.env pos;have go:∀W H Q,tE X.K B (wpE Z (.bcl f (.cons x0 xs')) E) W H Q->tCB (gD X.K f) (tL X.K B (bj Z (.cons x0 xs') E)) W H Q:=λW H Q hq=>el hq λY F G e0 he r hw=>by
    rw[wF]at hw;refine dC e0 he r hw λds G1 H1 F1 vs q e1 x1 he1 r1 rvs=>?_;exact ⟨F1,G1,ds,r1,rvs,Dw (λd z=>PV.later z x1) q⟩
   cases f with
   |len=>exact peI (jl We (S.glo _ g1) hmg PySem.boot_len (ih h3) (cX g2) (b7 g2) hs ha) go
   |any=>exact peI (jl (Wg S.calm) (S.glo _ g1) hmg Vk (ih h3) (cX g2) (b7 g2) hs ha) go
   |all=>exact peI (jl (Wf S.calm) (S.glo _ g1) hmg TQ (ih h3) (cX g2) (b7 g2) hs ha) go
   |int=>exact peI (jm Wh (S.glo _ g1) hmg BR (ih h3) (cX g2) (b7 g2) hs ha) go
   |tuple=>exact peI (jm Wi (S.glo _ g1) hmg (by ac_rfl) (ih h3) (cX g2) (b7 g2) hs ha) go
   |sum=>cases hok
   |min=>exact peI (jl (Ww S.calm) (S.glo _ g1) hmg Wx (ih h3) (cX g2) (b7 g2) hs ha) go
   |max=>cases hok
   |abs=>cases hok
   |min2=>cases hok
   |str=>exact peI (jm Wy (S.glo _ g1) hmg BV (ih h3) (cX g2) (b7 g2) hs ha) go
theorem Yh(S:Stat Z CX k c E B X){fz:Bool}{f:Lf}{xs:Exs}(ih:gK Z c E B X xs){e:AO}(h:aa c (.lcl fz f xs) e=true):PE X e (tE X.K B (wpE Z (.lcl fz f xs) E)):=by
 replace h:=Gk h;obtain ⟨x,p,args,pos,rfl,h⟩:=h
 .simp only[ae,a9]at h;obtain ⟨⟨⟨⟨⟨e1,hok⟩,h1⟩,hm⟩,h2⟩,h3⟩:=h;subst e1;obtain ⟨g1,g2⟩:=dD h1;have hmg:=S.blt _ (bv.mp hm);cases args with
  |nil=>cases h2
  |cons e es=>
   obtain ⟨x0,xs',rfl,c1,c2⟩:=lO h3;have hs:=cF e es X.env (dq (bR x0 c1));have ha:=sY c2 X.env pos;have go:∀W H Q,tE X.K B (wpE Z (.lcl fz f (.cons x0 xs')) E) W H Q->tCB (xM X.K fz f) (tL X.K B (bj Z (.cons x0 xs') E)) W H Q:=λW H Q hq=>el hq λY F G e0 he r hw=>by
    rw[wG]at hw;refine dC e0 he r hw λds G1 H1 F1 vs q e1 x1 he1 r1 rvs=>?_;exact ⟨F1,G1,ds,r1,rvs,Dy (λd z=>cU (λd G' z=>PV.later z x1) z) q⟩
   cases f with
   |list=>exact peI (jm (Wm S.calm fz) (S.glo _ g1) hmg uZ (ih h3) (cX g2) (b7 g2) hs ha) go
   |sorted=>exact peI (jl (Wr fz) (S.glo _ g1) hmg Wn (ih h3) (cX g2) (b7 g2) hs ha) go
theorem GR{K:PF}{H:Hp}{F:FZ}(n:Nat):Reps K H F (aR 0 n) ((List.range n).map λi=>V.int (i:Nat)):=by
 have e1:aR 0 n=((List.range n).map λi:Nat=>(i:Int)).map D.int:=by unfold aR;rw[cb];refine b9 λi _=>?_;show D.int (0+(i:Int))=D.int i;rw[gS]
 have e2:((List.range n).map λi:Nat=>V.int (i:Nat))=((List.range n).map λi:Nat=>(i:Int)).map V.int:=by rw[cb];rfl
 rw[e1,e2];exact lF _
theorem Yi(S:Stat Z CX k c E B X){fz:Bool}{a:Ex}(iha:OkE Z c E B X a){e:AO}(h:aa c (.rgl fz a) e=true):PE X e (tE X.K B (wpE Z (.rgl fz a) E)):=by
 obtain ⟨x,p,x',p',e2,pos',pos,rfl,h'⟩:=Gn h;simp only[ae,a9]at h';obtain ⟨⟨⟨⟨⟨⟨e1,h1⟩,hm⟩,e3⟩,h2⟩,hr⟩,h3⟩:=h';subst e1 e3;obtain ⟨g1,g2⟩:=dD h1;obtain ⟨g1',g2'⟩:=dD h2;have hmg:=S.blt _ (bv.mp hm);have hmr:=S.blt _ (bv.mp hr);have hs:=cF e2 [] X.env (dq (bR a h3));refine peI (jm (Ui S.calm) (S.glo _ g1) hmg uZ (fM (Cj (S.glo _ g1') hmr (fM (iha h3) gY hs) hs) gY rfl) (cX g2) (b7 g2) rfl rfl) λW H Q hq=>el hq λY F G e0 he r hw=>?_;rw[wI]at hw;refine aN e0 he r hw λd G1 H1 F1 v q e1 x1 he1 r1 rv=>?_;split at q
 .rename_i n;have ev:v=.int n:=rv;subst ev;obtain ⟨⟨h0,hn⟩,q⟩:=q;obtain ⟨m,rfl⟩:=ci h0;refine ⟨_,rfl,λrr hrr=>⟨rr,m,rfl,cQ,!0,λl hl=>?_⟩⟩;have xn:=cR (o:=.rng 0 m) r1 hrr;exact dh (cU (λd G' z=>PV.later z (x1.trans xn)) q) (r1.new hrr) (GR m) l hl
 .exact q.elim
theorem Yj(S:Stat Z CX k c E B X){a:Ex}(iha:OkE Z c E B X a){e:AO}(h:aa c (.rgt a) e=true):PE X e (tE X.K B (wpE Z (.rgt a) E)):=by
 obtain ⟨x,p,x',p',e2,pos',pos,rfl,h'⟩:=Gp h;simp only[ae,a9]at h';obtain ⟨⟨⟨⟨⟨⟨e1,h1⟩,hm⟩,e3⟩,h2⟩,hr⟩,h3⟩:=h';subst e1 e3;obtain ⟨g1,g2⟩:=dD h1;obtain ⟨g1',g2'⟩:=dD h2;have hmg:=S.blt _ (bv.mp hm);have hmr:=S.blt _ (bv.mp hr);have hs:=cF e2 [] X.env (dq (bR a h3));refine peI (jm (Uj S.calm) (S.glo _ g1) hmg (by ac_rfl) (fM (Cj (S.glo _ g1') hmr (fM (iha h3) gY hs) hs) gY rfl) (cX g2) (b7 g2) rfl rfl) λW H Q hq=>el hq λY F G e0 he r hw=>?_;rw[wJ]at hw;refine aN e0 he r hw λd G1 H1 F1 v q e1 x1 he1 r1 rv=>?_;split at q
 .rename_i n;have ev:v=.int n:=rv;subst ev;obtain ⟨⟨h0,hn⟩,q⟩:=q;obtain ⟨m,rfl⟩:=ci h0;refine ⟨_,rfl,λrr hrr=>⟨rr,m,rfl,cQ,!0,λl hl=>?_⟩⟩;have xn:=cR (o:=.rng 0 m) r1 hrr;exact jD (PV.later q (x1.trans xn)) (r1.new hrr) (GR m) l hl
 .exact q.elim
theorem Yk{t:AL}(h:fV t=true):bootBuiltins (⇑t)=some (.type t):=by
 simp only[fV,dP,a9]at h;rcases h with (((rfl |rfl) |rfl) |rfl) |rfl
 .exact Tp
 .exact BR
 .exact BV
 .ac_rfl
 .exact uZ
theorem Yl(S:Stat Z CX k c E B X){a:Ex}{t:AL}(iha:OkE Z c E B X a){e:AO}(h:aa c (.isi a t) e=true):PE X e (tE X.K B (wpE Z (.isi a t) E)):=by
 replace h:=Gm h;obtain ⟨x,p,v,y,p2,pos,rfl,h⟩:=h
 .simp only[ae,a9]at h;obtain ⟨⟨⟨⟨⟨⟨⟨e1,h1⟩,hm1⟩,h2⟩,e2⟩,h3⟩,hm2⟩,h4⟩:=h;subst e1 e2;obtain ⟨g1,g2⟩:=dD h1;obtain ⟨g3,g4⟩:=dD h3;have hmg:=S.blt _ (bv.mp hm1);have hmt:=S.blt _ (bv.mp hm2);have hty:PE X (.Name (⇑t) p2) (tC (.ty t)):=Tt (S.glo _ g3) hmt (Yk h4) (cX g4) (b7 g4);have sv:=dq (bR a h2);refine peI (jl Tn (S.glo _ g1) hmg Tq (fM (iha h2) (fM hty gY (cF _ _ _ rfl)) (cF _ _ _ sv)) (cX g2) (b7 g2) (cF _ _ _ sv) rfl) λW H Q hq=>el hq λY F G e0 he r hw=>?_;rw[wH]at hw;refine aN e0 he r hw λd G1 H1 F1 v q e1 x1 he1 r1 rv=>?_;split at q
  .rename_i b hb;obtain ⟨T,hk,hT,hb'⟩:=WK hb;refine ⟨v,t,.type T,b,rfl,Wz r1 rv hk,?_,q _ _ _ x1 r1 rfl⟩;rw[WF T t hT h4,hb' h4]
  .exact q.elim
theorem Ym{v:AO}(h:(!sG v)=true)(name:Str)(env:Env):attributeBase v name env (eval v env)=eval v env:=by
 cases v with
 |Call f args kw pos=>
  cases f with
  |Name id p=>
   cases args with
   |nil=>
    cases kw with
    |nil=>cases h
    |cons _ _=>rfl
   |cons _ _=>rfl
  |_=>rfl
 |_=>rfl
theorem all_plain{es:AE}{xs:Exs}(h:aM c xs es=true)(env:Env)(pos:Pos):(backTo pos (starEach es env)).all (λx=>!x.1)=true:=by
 induction es generalizing xs with
 |nil=>rfl
 |cons e es ih=>
  obtain ⟨x0,xs',rfl,c1,c2⟩:=lO h;rw[cF e es env (dq (bR x0 c1))];show (!false&&(backTo pos (starEach es env)).all (λx=>!x.1))=true;rw[ih c2];rfl
theorem Yn(S:Stat Z CX k c E B X){m:Mf}{o:Ex}{xs:Exs}(iho:OkE Z c E B X o)(ih:gK Z c E B X xs){e:AO}(h:aa c (.mth m o xs) e=true):PE X e (tE X.K B (wpE Z (.mth m o xs) E)):=by
 replace h:=Gq h;obtain ⟨v,x,apos,args,cpos,rfl,h⟩:=h
 .simp only[ae,a9,ck]at h;obtain ⟨⟨⟨⟨⟨⟨e1,h1⟩,hb⟩,hl⟩,hn⟩,h2⟩,h3⟩:=h;subst e1;cases args with
  |nil=>cases h2
  |cons e es=>
   obtain ⟨x0,xs',rfl,c1,c2⟩:=lO h3;have hs:=cF e es X.env (dq (bR x0 c1));have ha:=sY c2 X.env cpos;have hbase:=Ym hb (⇑m.name) X.env;have hfew:((backTo cpos (starEach (e::es) X.env)).all (λx=>!x.1)&&(backToKw cpos (keywordEach [] X.env)).all (λx=>x.1.isSome)
    &&decide ((e::es).length+([]:List Keyword).length+(if ([]:List Keyword).isEmpty then 0 else 1) < 30))=true:=by
    rw[all_plain h3 X.env cpos];have:(e::es).length+([]:List Keyword).length+(if ([]:List Keyword).isEmpty then 0 else 1) < 30:=by have e0:(if ([]:List Keyword).isEmpty=true then 0 else 1)=0:=rfl;rw[e0];show (e::es).length+0+0 < 30;omega
    rw[bX this];rfl
   have hline:(apos.endLine==cpos.line)=true:=by rw[a9];exact hl
   have lst:∀{d:D} {u:V} {G1:DH} {H1:Hp} {F1:FZ},(match d with |.ref p=>(match G1 p with |some (.lst _)=>True |_=>False) |_=>False)->R X.K H1 F1 G1->Rep X.K H1 F1 d u->tyV X.K "list" u H1:=λ{d u G1 H1 F1} q r1 ru=>by
    split at q
    .rename_i p;split at q
     .rename_i ds hg;obtain ⟨vs,hv,_⟩:=r1.lst hg;have e2:u=.ref p:=ru;subst e2;exact .inl ⟨rfl,vs,SqL.of hv⟩
     .exact q.elim
    .exact q.elim
   have lstV:∀{d:D} {u:V} {G1:DH} {H1:Hp} {F1:FZ},Vz (view G1 d)->R X.K H1 F1 G1->Rep X.K H1 F1 d u->tyV X.K "list" u H1:=λ{d u G1 H1 F1} q r1 ru=>by
    generalize hv:view G1 d=w at q;cases w with
    |lst ds=>
     obtain ⟨a,vs,rfl,sq,_⟩:=Rep.list r1 ru hv;exact .inl ⟨rfl,vs,sq⟩
    |_=>exact (show False from q).elim
   cases m with
   |join=>
    refine peI (qJ PySem.F.plainAttrs_str PySem.F.slot_str_join PySem.F.type_str_join WL (iho h1) (ih h3) hbase hfew hline hs ha) λW H Q hq=>el hq λY F G e0 he r hw=>?_;rw[ig]at hw;refine aN e0 he r hw λd G1 H1 F1 u q e1 x1 he1 r1 ru=>⟨?_,dC e1 he1 r1 q.2 λds G2 H2 F2 vs q e2 x2 he2 r2 rvs=>?_⟩
    .have q1:=q.1;cases d with
     |str l=>obtain ⟨e2,_⟩:=ru;subst e2;exact rfl
     |_=>exact (show False from q1).elim
    .exact ⟨F2,G2,d,ds,r2,Rep.ext x2 ru,rvs,jC (λd G' z=>PV.later z (x1.trans x2)) q⟩
   |append=>
    refine peI (qJ PySem.F.plainAttrs_list PySem.F.slot_list_append PySem.F.type_list_append WM (iho h1) (ih h3) hbase hfew hline hs ha) λW H Q hq=>el hq λY F G e0 he r hw=>?_;rw[ig]at hw;refine aN e0 he r hw λd G1 H1 F1 u q e1 x1 he1 r1 ru=>⟨?_,dC e1 he1 r1 q.2 λds G2 H2 F2 vs q e2 x2 he2 r2 rvs=>?_⟩
    .refine lst (d:=d) (G1:=G1) ?_ r1 ru;have q1:=q.1;cases d <;> first |exact q1 |exact (show False from q1).elim
    .exact ⟨F2,G2,d,ds,r2,Rep.ext x2 ru,rvs,jC (λd G' z=>PV.later z (x1.trans x2)) q⟩
   |extend=>
    refine peI (qJ PySem.F.plainAttrs_list PySem.F.slot_list_extend PySem.F.type_list_extend WR (iho h1) (ih h3) hbase hfew hline hs ha) λW H Q hq=>el hq λY F G e0 he r hw=>?_;rw[ig]at hw;refine aN e0 he r hw λd G1 H1 F1 u q e1 x1 he1 r1 ru=>⟨?_,dC e1 he1 r1 q.2 λds G2 H2 F2 vs q e2 x2 he2 r2 rvs=>?_⟩
    .refine lst (d:=d) (G1:=G1) ?_ r1 ru;have q1:=q.1;cases d <;> first |exact q1 |exact (show False from q1).elim
    .exact ⟨F2,G2,d,ds,r2,Rep.ext x2 ru,rvs,jC (λd G' z=>PV.later z (x1.trans x2)) q⟩
   |pop=>
    refine peI (qJ PySem.F.plainAttrs_list PySem.F.slot_list_pop PySem.F.type_list_pop WP (iho h1) (ih h3) hbase hfew hline hs ha) λW H Q hq=>el hq λY F G e0 he r hw=>?_;rw[ig]at hw;refine aN e0 he r hw λd G1 H1 F1 u q e1 x1 he1 r1 ru=>⟨?_,dC e1 he1 r1 q.2 λds G2 H2 F2 vs q e2 x2 he2 r2 rvs=>?_⟩
    .refine lst (d:=d) (G1:=G1) ?_ r1 ru;have q1:=q.1;cases d <;> first |exact q1 |exact (show False from q1).elim
    .exact ⟨F2,G2,d,ds,r2,Rep.ext x2 ru,rvs,jC (λd G' z=>PV.later z (x1.trans x2)) q⟩
   |idxT=>
    refine peI (Vs PySem.F.plainAttrs_tuple PySem.F.slot_tuple_index PySem.F.type_tuple_index WN (iho h1) (ih h3) hbase hfew hline hs ha) λW H Q hq=>el hq λY F G e0 he r hw=>?_;rw[ig]at hw;refine aN e0 he r hw λd G1 H1 F1 u q e1 x1 he1 r1 ru=>⟨?_,dC e1 he1 r1 q.2 λds G2 H2 F2 vs q e2 x2 he2 r2 rvs=>?_⟩
    .have q1:=q.1;cases d with
     |tup l=>obtain ⟨a,vs,e,q,_⟩:=ru;exact ⟨a,vs,e,q.it⟩
     |_=>exact (show False from q1).elim
    .exact ⟨F2,G2,d,ds,r2,Rep.ext x2 ru,rvs,jC (λd G' z=>PV.later z (x1.trans x2)) q⟩
end
section
variable {Z:aj} {CX:CXT} {k:Nat} {c:CT} {E:EK} {B:Bs} {X:Cx}
def EachE(Z:aj)(c:CT)(E:EK)(B:Bs)(X:Cx):Exs->Prop
 |.nil=>True
 |.cons e es=>OkE Z c E B X e/\EachE Z c E B X es
def sZ(Z:aj)(c:CT)(E:EK)(B:Bs)(X:Cx):Txs->Prop
 |.nil=>True
 |.cons e es=>OkT Z c E B X e/\sZ Z c E B X es
theorem EachE.oks:∀{xs:Exs},EachE Z c E B X xs->gK Z c E B X xs
 |.nil,_=>λh=>yf h
 |.cons x xs,hh=>λh=>sX hh.1 (EachE.oks hh.2) h
def tu(Z:aj)(E:EK)(isAnd:Bool)(x:Ex)(xs:Exs):ak->DH->(AT)->Prop:=λY G kk=>wpE Z x E Y G λd G1=>match d with |.bl b=>wpB Z xs isAnd b E Y G1 kk |d=>jz xs (kk d G1)
theorem GX{isAnd:Bool}{pos:Pos}:∀(xs:Exs){x:Ex},OkE Z c E B X x->EachE Z c E B X xs->∀{v:AO}{vs:AE},aa c x v=true->aM c xs vs=true->
  PE X (.BoolOp (if isAnd then .And else .Or) (v::vs) pos) (tE X.K B (tu Z E isAnd x xs))
 |.nil,x,ih,_,v,vs,h1,h2=>by
  unfold aM at h2;cases vs with
  |nil=>
   refine peI (Qd (ih h1)) λW H Q hq=>el hq λY F G e0 he r hw=>?_;unfold tu at hw;refine aN e0 he r hw λd G1 H1 F1 u q e1 x1 he1 r1 ru=>?_;split at q
   .rw[vR]at q;exact q _ _ _ x1 r1 ru
   .exact (show PV X.K H F Q _ _ from q) _ _ _ x1 r1 ru
  |cons _ _=>cases h2
 |.cons y ys,x,ih,hh,v,vs,h1,h2=>by
  unfold aM at h2;split at h2
  .rename_i w ws;rw[ae]at h2;have rest:=GX (isAnd:=isAnd) (pos:=pos) ys hh.1 hh.2 h2.1 h2.2;cases isAnd with
   |true=>
    refine peI (Qe (ih h1) rest) λW H Q hq=>el hq λY F G e0 he r hw=>?_;unfold tu at hw;refine aN e0 he r hw λd G1 H1 F1 u q e1 x1 he1 r1 ru=>?_;split at q
    .rename_i b;refine ⟨b,ru,?_⟩;rw[rA]at q;cases b with
     |true=>
      rw[if_pos rfl];exact ⟨Y,F1,G1,e1,he1,r1,aH y (λd G' z=>by
       cases d <;> first |exact rK ys (λc G2 z=>PV.later z x1) z |exact xm ys (λz=>PV.later z x1) z) q⟩
     |false=>
      rw[if_neg br];exact q _ _ _ x1 r1 rfl
    .exact q.elim
   |false=>
    refine peI (Qf (ih h1) rest) λW H Q hq=>el hq λY F G e0 he r hw=>?_;unfold tu at hw;refine aN e0 he r hw λd G1 H1 F1 u q e1 x1 he1 r1 ru=>?_;split at q
    .rename_i b;refine ⟨b,ru,?_⟩;rw[rA]at q;cases b with
     |false=>
      rw[if_neg br];exact ⟨Y,F1,G1,e1,he1,r1,aH y (λd G' z=>by
       cases d <;> first |exact rK ys (λc G2 z=>PV.later z x1) z |exact xm ys (λz=>PV.later z x1) z) q⟩
     |true=>
      rw[if_pos rfl];exact q _ _ _ x1 r1 rfl
    .exact q.elim
  .cases h2
theorem Yo{isAnd:Bool}{x:Ex}{xs:Exs}(ih:OkE Z c E B X x)(hh:EachE Z c E B X xs){e:AO}(h:aa c (.boo isAnd x xs) e=true):PE X e (tE X.K B (wpE Z (.boo isAnd x xs) E)):=by
 replace h:=FQ h;obtain ⟨_,_,_,_,rfl,h⟩:=h
 .simp only[ae,a9]at h;obtain ⟨⟨e1,h1⟩,h2⟩:=h;subst e1;refine peI (GX xs ih hh h1 h2) λW H Q hq=>el hq λY F G e0 he r hw=>⟨Y,F,G,e0,he,r,?_⟩;rw[wu]at hw;refine aH x (λd G1 z=>?_) hw;split at z
  .exact z
  .exact z.elim
theorem Yp{t:Tx}{a b:Ex}(iht:OkT Z c E B X t)(iha:OkE Z c E B X a)(ihb:OkE Z c E B X b){e:AO}(h:aa c (.ife t a b) e=true):PE X e (tE X.K B (wpE Z (.ife t a b) E)):=by
 replace h:=FT h;obtain ⟨_,_,_,_,rfl,h⟩:=h
 .simp only[ae]at h;obtain ⟨⟨h1,h2⟩,h3⟩:=h;refine peI (Qg (iht h1) (iha h2) (ihb h3)) λW H Q hq=>el hq λY F G e0 he r hw=>?_;rw[ww]at hw;refine gJ e0 he r hw λb' G1 H1 F1 q e1 x1 he1 r1=>?_;cases b' with
  |true=>
   rw[if_pos rfl];exact ⟨Y,F1,G1,e1,he1,r1,aH a (λd G' z=>PV.later z x1) q⟩
  |false=>
   rw[if_neg br];exact ⟨Y,F1,G1,e1,he1,r1,aH b (λd G' z=>PV.later z x1) q⟩
theorem Yq{x:Ex}(ih:OkE Z c E B X x){e:AO}(hp:iz e=true)(h:aa c x e=true):PT X e (tB' X.K B (wpT Z (.val x) E)):=by
 refine ptI (Ro (ih h) (XD hp X.env)) λW H Q hq=>el hq λY F G e0 he r hw=>?_;rw[lz]at hw;refine aN e0 he r hw λd G1 H1 F1 u q e1 x1 he1 r1 ru=>?_;split at q
 .rename_i b hb;exact ⟨b,Ed r1 ru hb,q _ _ x1 r1⟩
 .exact q.elim
theorem Yr{t:Tx}(ih:OkT Z c E B X t){e:AO}(h:bD c (.not t) e=true):PT X e (tB' X.K B (wpT Z (.not t) E)):=by
 replace h:=Xk h;obtain ⟨_,_,rfl,h⟩:=h
 .refine ptI (P0 (ih h)) λW H Q hq=>el hq λY F G e0 he r hw=>?_;rw[vO]at hw;exact gJ e0 he r hw λb G1 H1 F1 q e1 x1 he1 r1=>q _ _ x1 r1
def lQ(Z:aj)(E:EK)(isAnd:Bool)(x:Tx)(xs:Txs):ak->DH->(Bool->DH->Prop)->Prop:=λY G kk=>wpT Z x E Y G λb G1=>fW Z xs isAnd b E Y G1 kk
theorem GZ{isAnd:Bool}{pos:Pos}:∀(xs:Txs){x:Tx},OkT Z c E B X x->sZ Z c E B X xs->∀{v:AO}{vs:AE},bD c x v=true->iB c xs vs=true->
  PW X (.BoolOp (if isAnd then .And else .Or) (v::vs) pos) (tB' X.K B (lQ Z E isAnd x xs))
 |.nil,x,ih,_,v,vs,h1,h2=>by
  unfold iB at h2;cases vs with
  |nil=>
   have go:∀W H Q,tB' X.K B (lQ Z E isAnd x .nil) W H Q->tB' X.K B (wpT Z x E) W H Q:=λW H Q hq=>el hq λY F G e0 he r hw=>by
    unfold lQ at hw;refine ⟨Y,F,G,e0,he,r,cV x (λb G1 q=>?_) hw⟩;rw[vU]at q;exact q
   cases isAnd with
   |true=>exact pwI (PL (ih h1)) go
   |false=>exact pwI (PN (ih h1)) go
  |cons _ _=>cases h2
 |.cons y ys,x,ih,hh,v,vs,h1,h2=>by
  unfold iB at h2;split at h2
  .rename_i w ws;rw[ae]at h2;have rest:=GZ (isAnd:=isAnd) (pos:=pos) ys hh.1 hh.2 h2.1 h2.2;cases isAnd with
   |true=>
    refine pwI (PP (ih h1) rest) λW H Q hq=>el hq λY F G e0 he r hw=>?_;unfold lQ at hw;refine gJ e0 he r hw λb G1 H1 F1 q e1 x1 he1 r1=>?_;rw[rB]at q;cases b with
    |true=>
     rw[if_pos rfl];exact ⟨Y,F1,G1,e1,he1,r1,cV y (λb' G' z=>rM ys (λc G2 z=>PB.later z x1) z) q⟩
    |false=>
     rw[if_neg br];exact q _ _ x1 r1
   |false=>
    refine pwI (PQ (ih h1) rest) λW H Q hq=>el hq λY F G e0 he r hw=>?_;unfold lQ at hw;refine gJ e0 he r hw λb G1 H1 F1 q e1 x1 he1 r1=>?_;rw[rB]at q;cases b with
    |false=>
     rw[if_neg br];exact ⟨Y,F1,G1,e1,he1,r1,cV y (λb' G' z=>rM ys (λc G2 z=>PB.later z x1) z) q⟩
    |true=>
     rw[if_pos rfl];exact q _ _ x1 r1
  .cases h2
theorem Ys{isAnd:Bool}{x:Tx}{xs:Txs}(ih:OkT Z c E B X x)(hh:sZ Z c E B X xs){e:AO}(h:bD c (.boo isAnd x xs) e=true):PT X e (tB' X.K B (wpT Z (.boo isAnd x xs) E)):=by
 replace h:=Xl h;obtain ⟨_,_,_,_,rfl,h⟩:=h
 .simp only[ae,a9]at h;obtain ⟨⟨e1,h1⟩,h2⟩:=h;subst e1;refine ptI (PW.pt (GZ xs ih hh h1 h2)) λW H Q hq=>el hq λY F G e0 he r hw=>⟨Y,F,G,e0,he,r,?_⟩;rw[vP]at hw;exact hw
def tG(K:PF)(B:Bs)(t:Tg):TG:=λv X H Q=>∃Y F G d,Ext B.H B.F H F/\EnvR K H F Y X/\R K H F G/\Rep K H F d v/\aU t d Y G (λρ'=>∀σ',EnvR K H F ρ' σ'->Q σ' H)
def tGs(K:PF)(B:Bs)(t:Tgs):TGs:=λvs X H Q=>∃Y F G ds,Ext B.H B.F H F/\EnvR K H F Y X/\R K H F G/\Reps K H F ds vs/\bQ t ds Y G (λρ'=>∀σ',EnvR K H F ρ' σ'->Q σ' H)
theorem tB:∀{ts:Tgs}{es:AE}{env:Env},cH c ts es=true->(assignEach es env).length=es.length/\(assignEach es env).findIdx? (·.1)=none/\(assignEach es env).map (·.2)=es.map λe=>assign e env
 |.nil,[],env,_=>⟨rfl,rfl,rfl⟩
 |.nil,_::_,env,h=>by unfold cH at h;cases h
 |.cons t r,[],env,h=>by unfold cH at h;cases h
 |.cons t r,e::es,env,h=>by
  unfold cH at h;rw[ae]at h;obtain ⟨h1,h2,h3⟩:=tB (env:=env) h.2;have hs:assignEach (e::es) env=(false,assign e env)::assignEach es env:=by
   cases t with
   |nm i=>
    have h':=h.1;obtain ⟨_,_,rfl,_⟩:=xY h';rfl
   |tp ts=>
    have h':=h.1;obtain ⟨_,_,_,rfl,_⟩:=xZ h';rfl
  rw[hs];refine ⟨by simp[h1],?_,by simp[h3]⟩;rw[eR];simp[h2]
section
variable {prog:AK} {w:World} {A:AM} {E:AG} {s:AI}
theorem Ha{it t:AQ}{items:Array AN}(hne:t≠it):∀(n i:Nat)(s:AI)(Q:AB->AI->Prop),s.heap.IsListIter it t i->s.heap.IsList t items->i+n<=items.size->
  (∀h',h'.IsListIter it t (i+n)->Heap.SameBut it s.heap h'->Q ((items.toList.drop i).take n) { s with heap:=h' })->wpAny (model prog w) A (draw (.ref it) n) Q E s
 |0,i,s,Q,hit,_,_,hQ=>by
  show wpAny _ _ (pure []) Q E s;exact am (by simpa using hQ s.heap hit (Heap.SameBut.refl ..))
 |n+1,i,s,Q,hit,ht,hle,hQ=>by
  have hlt:i < items.size:=by omega
  show wpAny _ _ (pyNext (.ref it) >>= _) Q E s;refine ab (wpAny_pyNext_list_item hit ht (x:=items[i]) (by simp[hlt]) λh₁ hit₁ hs₁=>?_);refine ab (dE (Ha hne n (i+1) _ _ hit₁ (ht.extBut hs₁.extBut hne) (!0) λh₂ hit₂ hs₂=>am ?_));have hd:items.toList.drop i=items[i]::items.toList.drop (i+1):=by simp[bo,hlt]
  have:=hQ h₂ (by rw[show i+(n+1)=i+1+n by omega];exact hit₂) (hs₁.trans hs₂);rw[hd,List.take_succ_cons]at this;exact this
theorem Yt{t:AQ}{items:Array AN}{Q:AB->AI->Prop}(hh:A.handled=none)(ht:s.heap.IsList t items)
  (hQ:∀h',Heap.ExtBut (~~~s) s.heap h'->Q items.toList { s with heap:=h' }):wpAny (model prog w) A (unpackItems (.ref t) items.size none) Q E s:=by
 have hlt:t≠(~~~s):=by obtain ⟨o,ho,_⟩:=ht;exact b3 (ay ho)
 unfold unpackItems;refine ab ?_;unfold notIterableAtAll;refine ab (wpAny_specialOf ht.typeIs PySem.F.slot_list_iter.lookup ?_);refine am ?_;simp only[Bool.false_eq_true,if_false];refine ab (dE (fv ht ?_));refine ab (dE (Ha hlt items.size 0 _ _ ⟨_,aI _ rfl,rfl,rfl⟩ (ht.push _) (!0) λh₁ hit₁ hs₁=>?_));have hall:List.take items.size (List.drop 0 items.toList)=items.toList:=by rw[List.drop_zero];exact gE (by simp)
 rw[hall];rw[if_neg (by simp)];have ht₁:h₁.IsList t items:=(ht.push _).extBut hs₁.extBut hlt;refine ab (dE (wpAny_pyNext_list_end hh hit₁ ht₁ (by simp) λh₂ he₂=>?_));simp only[Option.isSome_none,Bool.false_eq_true,if_false];refine am (hQ h₂ λb o hb e=>he₂ b o hb (hs₁.extBut b o hb (ag _ e)))
theorem Yu{env:Env}{elts:AE}{x1}{pos:Pos}{t:AQ}{items:Array AN}{Q:Unit->AI->Prop}(hh:A.handled=none)(ht:s.heap.IsList t items)
  (hn:(assignEach elts env).length=items.size) (hstar:(assignEach elts env).findIdx? (·.1)=none)
  (h:∀h',Heap.ExtBut (~~~s) s.heap h'->wpAny (model prog w) A (assignInOrder ((assignEach elts env).map (·.2)) items.toList) Q E { s with heap:=h' }):
  wpAny (model prog w) A (assign (.Tuple elts x1 pos) env (.ref t)) Q E s:=by
 rw[assign_Tuple];refine ab (fw ?_);unfold unpack;rw[hn,hstar];exact ab (dE (Yt hh ht h))
end
section
variable {X:Cx} {pos:Pos}
def Yv(K:PF)(n:Nat)(t:TGs):TG:=λv Y H Q=>∃a xs,v=.ref a/\SqL K H a xs/\xs.length=n/\t xs Y H Q
theorem Yw{es:AE}{k:Nat}{t:TGs}{n:Nat}(hc:X.calm=true)(h:PGs X es t)
  (hn:(assignEach es X.env).length=n:=by rfl) (hst:(assignEach es X.env).findIdx? (·.1)=none:=by rfl):PG X (.Tuple es k pos) (Yv X.K n t):=by
 intro p9 s Y H v u Q I r hw;obtain ⟨a,xs,e1,hq,hl,hw⟩:=hw;subst e1;cases r;obtain ⟨its,rv,pl,hz⟩:=I.list hq;refine Yu (I.ok.hd hc) pl.isList (by simp[hn,<-hl,rv.length]) hst λh' hx=>?_;have I1:Inv X p9 Y H { s with heap:=h' }:=I.kept (t':=s.toks) λb o e=>hx b o (b3 (ay e)) e;exact h p9 _ Y H xs _ Q I1 (!!rv) hw
end
mutual
theorem jH(S:Stat Z CX k c E B X):∀(t:Tg){e:AO},bH c t e=true->PG X e (tG X.K B t)
 |.nm i,e,h=>by
  replace h:=xY h;obtain ⟨x,pos,rfl,h⟩:=h
  .skip;rw[ae,a9]at h;obtain ⟨l,f⟩:=S.sto x h.2;intro p9 s W H v u Q I rv q;refine QB (i:=i) S.nd (by rw[S.N];exact h.1) l f p9 s W H v u Q I rv ?_;obtain ⟨Y,F,G,d,e0,he,r,rd,hw⟩:=q;unfold aU at hw;exact hw _ (he.set rd i)
 |.tp ts,e,h=>by
  replace h:=xZ h;obtain ⟨es,kk,pos,rfl,h⟩:=h
  .skip;obtain ⟨h1,h2,h3⟩:=tB (env:=X.env) h;intro p9 s W H v u Q I rv q;obtain ⟨Y,F,G,d,e0,he,r,rd,hw⟩:=q;unfold aU at hw;split at hw
   .rename_i ds;refine QJ (n:=es.length) S.calm (yg S ts h) h1 h2 p9 s W H v u Q I rv ?_;obtain ⟨a,vs,e1,q,t⟩:=rd;refine ⟨a,vs,e1,q.sq,?_,Y,F,G,ds,e0,he,r,t,hw⟩;rw[<-t.length];exact yh ts h hw
   .rename_i ds;refine Yw (n:=es.length) S.calm (yg S ts h) h1 h2 p9 s W H v u Q I rv ?_;obtain ⟨a,vs,e1,q,t⟩:=rd;refine ⟨a,vs,e1,q.sq,?_,Y,F,G,ds,e0,he,r,t,hw⟩;rw[<-t.length];exact yh ts h hw
   .exact hw.elim
theorem yg(S:Stat Z CX k c E B X):∀(ts:Tgs){es:AE},cH c ts es=true->PGs X es (tGs X.K B ts)
 |.nil,es,h=>by
  unfold cH at h;cases es with
  |nil=>
   intro p9 s W H vs us Q I rv q;refine QF p9 s W H vs us Q I rv ?_;obtain ⟨Y,F,G,ds,e0,he,r,rd,hw⟩:=q;unfold bQ at hw;split at hw
   .exact ⟨rd,hw _ he⟩
   .exact hw.elim
  |cons _ _=>cases h
 |.cons t r,es,h=>by
  unfold cH at h;split at h
  .rename_i e es;rw[ae]at h;intro p9 s W H vs us Q I rv q;have hs:(assignEach (e::es) X.env).map (·.2)=assign e X.env::(assignEach es X.env).map (·.2):=by
    have hh:cH c (.cons t r) (e::es)=true:=by unfold cH;show (bH c t e&&cH c r es)=true;rw[h.1,h.2];rfl
    rw[(tB (env:=X.env) hh).2.2,(tB (env:=X.env) h.2).2.2];rfl
   refine QG (jH S t h.1) (yg S r h.2) hs p9 s W H vs us Q I rv ?_;obtain ⟨Y,F,G,ds,e0,he,rr,rd,hw⟩:=q;unfold bQ at hw;split at hw
   .rename_i d ds;obtain ⟨v,vs',e1,rd1,rds⟩:=rd;refine ⟨v,vs',e1,Y,F,G,d,e0,he,rr,rd1,dN (λρ' z σ' he'=>?_) t hw⟩;exact ⟨ρ',F,G,ds,e0,he',rr,rds,z⟩
   .exact hw.elim
  .cases h
theorem yh{G:DH}:∀(ts:Tgs){es:AE}{ds:AS}{Y:ak}{Q:ak->Prop},cH c ts es=true->bQ ts ds Y G Q->ds.length=es.length
 |.nil,es,ds,Y,Q,h,q=>by
  unfold cH at h;unfold bQ at q;split at q
  .cases es with
   |nil=>rfl
   |cons _ _=>cases h
  .exact q.elim
 |.cons t r,es,ds,Y,Q,h,q=>by
  unfold cH at h;split at h
  .rw[ae]at h;unfold bQ at q;split at q
   .rename_i d ds;have:∃ρ',bQ r ds ρ' G Q:=Hb t q;obtain ⟨ρ',q'⟩:=this;have:=yh r h.2 q';simp[this]
   .exact q.elim
  .cases h
theorem Hb{G:DH}:∀(t:Tg){d:D}{Y:ak}{Q:ak->Prop},aU t d Y G Q->∃ρ',Q ρ'
 |.nm i,d,Y,Q,q=>⟨_,q⟩
 |.tp ts,d,Y,Q,q=>by
  unfold aU at q;split at q
  .exact yj ts q
  .exact yj ts q
  .exact q.elim
theorem yj{G:DH}:∀(ts:Tgs){ds:AS}{Y:ak}{Q:ak->Prop},bQ ts ds Y G Q->∃ρ',Q ρ'
 |.nil,ds,Y,Q,q=>by
  unfold bQ at q;split at q
  .exact ⟨_,q⟩
  .exact q.elim
 |.cons t r,ds,Y,Q,q=>by
  unfold bQ at q;split at q
  .obtain ⟨ρ',q'⟩:=Hb t q;exact yj r q'
  .exact q.elim
end
end
structure WalkJ(K:PF)(H:Hp)(F:FZ)(items:AS)(g:Hld)(J:It):Prop where
 go:∀H' F' G i,Ext H F H' F'->R K H' F' G->held g G->i < items.length->J.go i H'
 stop:∀H' F' G,Ext H F H' F'->R K H' F' G->held g G->J.stop items.length H'
 yld:∀H' F' i x H'' d G,Ext H F H' F'->R K H' F' G->held g G->items[i]?=some d->J.yld i H' x H''->Ext H' F' H'' F'/\R K H'' F' G/\Rep K H'' F' d x
section
variable {K:PF} {H:Hp} {F:FZ}
structure Src(K:PF)(H:Hp)(F:FZ)(u:AN)(ds:AS)(g:Hld)(k:SK):Prop where
 val:k.val=u
 sat:∀H' F' G,Ext H F H' F'->R K H' F' G->held g G->∃vs,k.Sat H' vs/\Reps K H' F' ds vs
theorem tD{d:D}{v:V}{u:AN}{G:DH}{ds:AS×Hld}(h:Rep K H F d v)(r:RelV v u)(e:itemsOf G d=some ds):∃k,Src K H F u ds.1 ds.2 k:=by
 cases d with
 |lst xs=>
  simp only[itemsOf,ba]at e;subst e;obtain ⟨a,vs,e1,q,t⟩:=h;subst e1;have hu:u=Value.ref a:=r;subst hu;exact ⟨.lst a,rfl,λH' F' G' x _ _=>⟨vs,(FzL.ext x q).2,Reps.ext x t⟩⟩
 |tup xs=>
  simp only[itemsOf,ba]at e;subst e;obtain ⟨a,vs,e1,q,t⟩:=h;subst e1;have hu:u=Value.ref a:=r;subst hu;exact ⟨.tup a,rfl,λH' F' G' x _ _=>⟨vs,(TpT.ext (K:=K) x q).it,Reps.ext x t⟩⟩
 |str l=>
  simp only[itemsOf,ba]at e;subst e;obtain ⟨e1,hl⟩:=h;subst e1;obtain ⟨t,hu⟩:∃t,u=Value.str (tx l) t:=r;subst hu;exact ⟨.str (tx l) t,rfl,λH' F' G' x _ _=>⟨_,rfl,by simpa using xN l⟩⟩
 |ref p=>
  simp only[itemsOf]at e;split at e
  .rename_i xs hg;simp only[ba]at e;subst e;have e1:v=.ref p:=h;subst e1;have hu:u=Value.ref p:=r;subst hu;exact ⟨.lst p,rfl,λH' F' G' x r' hh=>r'.lst hh.1⟩
  .cases e
 |_=>cases e
theorem tH{G:DH}{d:D}{ds:AS×Hld}(e:itemsOf G d=some ds):held ds.2 G:=by
 cases d with
 |ref p=>
  simp only[itemsOf]at e;split at e
  .rename_i xs hg;simp only[ba]at e;subst e;exact ⟨hg,trivial⟩
  .cases e
 |_=>simp only[itemsOf]at e;first | (cases e;done) | (simp only[ba]at e;subst e;exact trivial)
theorem Yx{u:AN}{ds:AS}{g:Hld}{k:SK}(s:Src K H F u ds g k):WalkJ K H F ds g (Jk k) where
 go:=λH' F' G i x r hh hi=>by
  obtain ⟨vs,h1,h2⟩:=s.sat H' F' G x r hh;exact ⟨vs,h1,by rw[<-h2.length];exact hi⟩
 stop:=λH' F' G x r hh=>by
  obtain ⟨vs,h1,h2⟩:=s.sat H' F' G x r hh;exact ⟨vs,h1,h2.length.symm⟩
 yld:=λH' F' i v H'' d G x r hh hd y=>by
  obtain ⟨e,hv⟩:=y;subst e;obtain ⟨vs,h1,h2⟩:=s.sat _ F' G x r hh;obtain ⟨w,e1,rw'⟩:=h2.get hd;have e2:=hv vs h1;rw[e1]at e2;cases e2;exact ⟨Ext.refl _ _,r,rw'⟩
theorem lR:∀(n:Nat)(ds:AS),(dJ n ds).length=ds.length
 |_,[]=>rfl
 |n,d::ds=>by simp[dJ,lR (n+1) ds]
theorem lU:∀(n:Nat)(ds:AS)(i:Nat),(dJ n ds)[i]?=(ds[i]?).map λd=>.tup [.int ((n+i:Nat):Int),d]
 |_,[],_=>by simp[dJ]
 |n,d::ds,0=>by simp[dJ]
 |n,d::ds,i+1=>by
  simp only[dJ,List.getElem?_cons_succ];rw[lU (n+1) ds i];congr 1;funext d;rw[show n+1+i=n+(i+1) by omega]
theorem yl:∀(as bs:AS),(cj as bs).length=min as.length bs.length
 |[],bs=>by simp[cj]
 |a::as,[]=>by simp[cj]
 |a::as,b::bs=>by simp[cj,yl as bs]
theorem Hc:∀(as bs:AS)(i:Nat)(d:D),(cj as bs)[i]?=some d->∃a b,as[i]?=some a/\bs[i]?=some b/\d=.tup [a,b]
 |[],bs,i,d,h=>by simp[cj]at h
 |a::as,[],i,d,h=>by simp[cj]at h
 |a::as,b::bs,0,d,h=>by simp[cj]at h;exact ⟨a,b,rfl,rfl,h.symm⟩
 |a::as,b::bs,i+1,d,h=>by
  simp only[cj,List.getElem?_cons_succ]at h;obtain ⟨x,y,h1,h2,h3⟩:=Hc as bs i d h;exact ⟨x,y,!!h1,!!h2,h3⟩
theorem Yy{u:AN}{ds:AS}{g:Hld}{k:SK}(s:Src K H F u ds g k):WalkJ K H F (dJ 0 ds) g (Je k) where
 go:=λH' F' G i x r hh hi=>by
  obtain ⟨vs,h1,h2⟩:=s.sat H' F' G x r hh;exact ⟨vs,h1,by rw[<-h2.length,<-lR 0];exact hi⟩
 stop:=λH' F' G x r hh=>by
  obtain ⟨vs,h1,h2⟩:=s.sat H' F' G x r hh;exact ⟨vs,h1,by rw[lR];exact h2.length.symm⟩
 yld:=λH' F' i v H'' d G x r hh hd y=>by
  obtain ⟨vs,h1,h2⟩:=s.sat H' F' G x r hh;obtain ⟨T,y,hT,e1,e2,hv⟩:=y;subst e1 e2;rw[lU]at hd;obtain ⟨d',hd',e3⟩:=a7.mp hd;subst e3;obtain ⟨w,e1,rw'⟩:=h2.get hd';have e2:=hv vs h1;rw[e1]at e2;cases e2;refine ⟨cR r hT,r.new hT,?_⟩;rw[Nat.zero_add];exact vC r hT (Reps.cons rfl (Reps.cons rw' Reps.nil))
theorem jJ{g g':Hld}{G:DH}:held (g++g') G->held g G/\held g' G:=by
 induction g with
 |nil=>exact λh=>⟨trivial,h⟩
 |cons p r ih=>
  intro h;obtain ⟨h1,h2⟩:=ih h.2;exact ⟨⟨h.1,h1⟩,h2⟩
theorem Yz{u u':AN}{ds es:AS}{g g':Hld}{k l:SK}(s:Src K H F u ds g k)(s':Src K H F u' es g' l):WalkJ K H F (cj ds es) (g++g') (Jz k l) where
 go:=λH' F' G i x r hh hi=>by
  obtain ⟨vs,h1,h2⟩:=s.sat H' F' G x r (jJ hh).1;obtain ⟨ws,h3,h4⟩:=s'.sat H' F' G x r (jJ hh).2;rw[yl]at hi;exact ⟨vs,ws,h1,h3,by rw[<-h2.length];omega,by rw[<-h4.length];omega⟩
 stop:=λH' F' G x r hh=>by
  obtain ⟨vs,h1,h2⟩:=s.sat H' F' G x r (jJ hh).1;obtain ⟨ws,h3,h4⟩:=s'.sat H' F' G x r (jJ hh).2;exact ⟨vs,ws,h1,h3,by rw[yl,<-h2.length,<-h4.length];omega⟩
 yld:=λH' F' i v H'' d G x r hh hd y=>by
  obtain ⟨T,y,z,hT,e1,e2,hv,hz⟩:=y;subst e1 e2;obtain ⟨a,b,ha,hb,e3⟩:=Hc _ _ _ _ hd;subst e3;obtain ⟨vs,h1,h2⟩:=s.sat H' F' G x r (jJ hh).1;obtain ⟨ws,h3,h4⟩:=s'.sat H' F' G x r (jJ hh).2;obtain ⟨w,e1,rw'⟩:=h2.get ha;obtain ⟨w2,e3,rw2⟩:=h4.get hb;have e2:=hv vs h1;have e4:=hz ws h3;rw[e1]at e2;cases e2;rw[e3]at e4;cases e4;exact ⟨cR r hT,r.new hT,vC r hT (Reps.cons rw' (Reps.cons rw2 Reps.nil))⟩
theorem YB(lo:Int)(n:Nat):WalkJ K H F (aR lo n) [] (Itr lo n) where
 go:=λH' F' G i x _ _ hi=>by show i < n;simpa [aR] using hi
 stop:=λH' F' G x _ _=>by show n<=(aR lo n).length;simp[aR]
 yld:=λH' F' i v H'' d G x r _ hd y=>by
  obtain ⟨e1,e2⟩:=y;subst e1 e2;refine ⟨Ext.refl _ _,r,?_⟩;unfold aR at hd;rw[bq]at hd;obtain ⟨j,hj,e3⟩:=a7.mp hd;have:j=i:=by have:=ar.mp hj;obtain ⟨h1,h2⟩:=this;simpa using h2.symm
  subst this;subst e3;rfl
end
def tI(K:PF)(B:Bs)(w:ak->DH->(AS->Hld->DH->Prop)->Prop):TI:=λX H Rr=>∃Y F G,Ext B.H B.F H F/\EnvR K H F Y X/\R K H F G/\
 w Y G (λitems g G'=>∀H' F' J,Ext H F H' F'->R K H' F' G'->WalkJ K H' F' items g J->Rr J H')
section
variable {Z:aj} {CX:CXT} {k:Nat} {c:CT} {E:EK} {B:Bs} {X:Cx}
theorem tM{p9:AC}{Y:L2.St}{H:Hp}{s:AI}(I:Inv X p9 Y H s){kk:SK}{vs:AR}(h:kk.Sat H vs):∃its:Array AN,kk.On its s.heap:=by
 cases kk with
 |lst a=>obtain ⟨its,_,pl,_⟩:=I.list (SqL.of (show H a=some _ from h));exact ⟨its.toArray,pl.isList⟩
 |tup a=>obtain ⟨its,_,pl,_⟩:=I.tuple (SqT.of (show H a=some _ from h));exact ⟨its.toArray,pl⟩
 |str x t=>exact ⟨#[],trivial⟩
theorem YC{x:Ex}(ih:OkE Z c E B X x){tg e:AO}(h:aa c x e=true):PI X tg e (tI X.K B (wpI Z (.seq x) E)):=by
 intro p9 s W H Rr I q;obtain ⟨Y,F,G,e0,he,r,hw⟩:=q;rw[vX]at hw;have q':tE X.K B (wpE Z x E) W H (λv H1=>∃F1 G1 d items,R X.K H1 F1 G1/\Rep X.K H1 F1 d v/\itemsOf G1 d=some items/\∀J,WalkJ X.K H1 F1 items.1 items.2 J->Rr J H1):=
  aN e0 he r hw λd G1 H1 F1 u q e1 x1 he1 r1 ru=>by
   split at q
   .rename_i ds hd;exact ⟨F1,G1,d,ds,r1,ru,hd,λJ w=>q H1 F1 J x1 r1 w⟩
   .exact q.elim
 refine thn (ih h p9 s W H _ I q') λu s1 ⟨v,H1,I1,rv,F1,G1,d,items,r1,rd,hd,q1⟩=>?_;obtain ⟨kk,src⟩:=tD rd rv hd;obtain ⟨vs,sat,_⟩:=src.sat H1 F1 G1 (Ext.refl _ _) r1 (tH hd);obtain ⟨its,on⟩:=tM I1 sat;rw[<-src.val];refine SK.iter on ?_;refine ⟨s1.heap.objs.size,[s1.heap.objs.size],_,_,H1,rfl,I1.kept (t':=s1.toks) λb o e=>ag _ e,W4 kk _,SK.pos0,λb hb=>?_,q1 _ (Yx src)⟩;have e:b=s1.heap.objs.size:=by simpa using hb
 subst e;exact I1.fpOk (ax _) (I1.hok.fresh (ax _))
theorem YD(S:Stat Z CX k c E B X){a:Ex}(ih:OkE Z c E B X a){tg e:AO}(h:bI c (.rng a) tg e=true):PI X tg e (tI X.K B (wpI Z (.rng a) E)):=by
 replace h:=Gu h;obtain ⟨_,_,_,_,rfl,h⟩:=h
 .simp only[ae,a9]at h;obtain ⟨⟨⟨e1,h1⟩,hm⟩,h2⟩:=h;subst e1;obtain ⟨g1,g2⟩:=dD h1;have hmg:=S.blt _ (bv.mp hm);have hs:=cF _ [] X.env (dq (bR a h2));intro p9 s W H Rr I q;refine QX (S.glo _ g1) hmg (fM (ih h2) gY hs) hs p9 s W H Rr I ?_;obtain ⟨Y,F,G,e0,he,r,hw⟩:=q;rw[vY]at hw;refine aN e0 he r hw λd G1 H1 F1 u q e1 x1 he1 r1 ru=>?_;split at q
  .rename_i n;have e2:u=.int n:=ru;subst e2;exact ⟨n,rfl,q.1.1,q.1.2,q.2 H1 F1 _ x1 r1 (YB 0 n.toNat)⟩
  .exact q.elim
theorem YF(S:Stat Z CX k c E B X){a:Ex}(ih:OkE Z c E B X a){tg e:AO}(h:bI c (.enm a) tg e=true):PI X tg e (tI X.K B (wpI Z (.enm a) E)):=by
 replace h:=Gv h;obtain ⟨_,_,_,_,_,_,_,rfl,rfl,h⟩:=h
 .skip
  .simp only[ae,a9]at h;obtain ⟨⟨⟨e1,h1⟩,hm⟩,h2⟩:=h;subst e1;obtain ⟨g1,g2⟩:=dD h1;have hmg:=S.blt _ (bv.mp hm);have hs:=cF _ [] X.env (dq (bR a h2));intro p9 s V H Rr I q;obtain ⟨Y,F,G,e0,he,r,hw⟩:=q;rw[vZ]at hw;have q':tL X.K B (bj Z (.cons a .nil) E) V H (λvs H1=>∃v F1 G1 d items,vs=[v]/\R X.K H1 F1 G1/\Rep X.K H1 F1 d v/\itemsOf G1 d=some items/\∀J,WalkJ X.K H1 F1 (dJ 0 items.1) items.2 J->Rr J H1):=by
    refine dC (W:=λds G1=>∃d items,ds=[d]/\itemsOf G1 d=some items/\∀H' F' J,Ext H F H' F'->R X.K H' F' G1->WalkJ X.K H' F' (dJ 0 items.1) items.2 J->Rr J H') e0 he r ?_ λds G1 H1 F1 vs q e1 x1 he1 r1 rvs=>?_
    .rw[ie];refine aH a (λd G1 q=>?_) hw;rw[jA];split at q
     .rename_i items hd;exact ⟨d,items,rfl,hd,q⟩
     .exact q.elim
    .obtain ⟨d,items,e2,hd,q⟩:=q;subst e2;obtain ⟨v,e3,rv⟩:=bC rvs;exact ⟨v,F1,G1,d,items,e3,r1,rv,hd,λJ w=>q H1 F1 J x1 r1 w⟩
   refine Call_ (gU I (S.glo _ g1) hmg (u:=.type "enumerate") boot_enumerate (e6 (thn (sX ih (λh=>yf h) (c:=c) (es:=[_]) (by unfold aM;show (aa c a _&&true)=true;rw[h2];rfl) _ p9 s V H _ I q') λus s1 ⟨vs,H1,I1,r1v,q1⟩=>?_) hs rfl) (cX g2) (b7 g2));obtain ⟨v,F1,G1,d,items,e1,r1,rd,hd,q1⟩:=q1;subst e1;obtain ⟨u,rfl,ru⟩:=vals1 r1v;obtain ⟨kk,src⟩:=tD rd ru hd;obtain ⟨vs,sat,_⟩:=src.sat H1 F1 G1 (Ext.refl _ _) r1 (tH hd);obtain ⟨its,on⟩:=tM I1 sat;rw[<-src.val];refine Xd on λh' hen hit hsz hk=>?_;refine wpAny_pyIter_enum hen ?_;have n1:H1 s1.heap.objs.size=none:=I1.hok.fresh (ax _);have n2:H1 (s1.heap.objs.size+1)=none:=I1.hok.fresh (gg _);refine ⟨s1.heap.objs.size+1,[s1.heap.objs.size+1,s1.heap.objs.size],_,_,H1,rfl,I1.kept (t':=s1.toks) hk,W3 kk _ _ (Nat.succ_ne_self _),⟨⟨_,hen⟩,hit⟩,λb hb=>?_,q1 _ (Yy src)⟩;have hb':b=s1.heap.objs.size+1\/b=s1.heap.objs.size:=by simpa using hb
   rcases hb' with rfl |rfl
   .exact I1.fpOk (gg _) n2
   .exact I1.fpOk (ax _) n1
theorem zap(n:Nat):ZApart (n+4) (n+2) (n+3) n (n+1):=
 ⟨(by omega:(n+2:Nat)≠n+4),(by omega:(n+3:Nat)≠n+4),(by omega:(n:Nat)≠n+4),(by omega:(n+1:Nat)≠n+4),(by omega:(n+2:Nat)≠n+3),(by omega:(n+2:Nat)≠n),(by omega:(n+2:Nat)≠n+1),(by omega:(n+3:Nat)≠n),(by omega:(n+3:Nat)≠n+1),(by omega:(n:Nat)≠n+1)⟩
theorem YG(S:Stat Z CX k c E B X){a b:Ex}(iha:OkE Z c E B X a)(ihb:OkE Z c E B X b){tg e:AO}(h:bI c (.zip a b) tg e=true):PI X tg e (tI X.K B (wpI Z (.zip a b) E)):=by
 replace h:=Gw h;obtain ⟨_,_,_,_,_,v,v',pos,rfl,rfl,h⟩:=h
 .skip
  .simp only[ae,a9]at h;obtain ⟨⟨⟨⟨e1,h1⟩,hm⟩,h2⟩,h3⟩:=h;subst e1;obtain ⟨g1,g2⟩:=dD h1;have hmg:=S.blt _ (bv.mp hm);have hs2:=cF v' [] X.env (dq (bR b h3));have hs:=cF v [v'] X.env (dq (bR a h2));intro p9 s V H Rr I q;obtain ⟨Y,F,G,e0,he,r,hw⟩:=q;rw[v6]at hw;have hA:aM c (.cons a (.cons b .nil)) [v,v']=true:=by
    unfold aM aM aM;show (aa c a v&&(aa c b v'&&true))=true;rw[h2,h3];rfl
   have q':tL X.K B (bj Z (.cons a (.cons b .nil)) E) V H (λvs H1=>∃v v' F1 G1 d d' items items',vs=[v,v']/\R X.K H1 F1 G1/\Rep X.K H1 F1 d v/\Rep X.K H1 F1 d' v'/\itemsOf G1 d=some items/\itemsOf G1 d'=some items'/\∀J,WalkJ X.K H1 F1 (cj items.1 items'.1) (items.2++items'.2) J->Rr J H1):=by
    refine dC (W:=λds G1=>∃d d' items items',ds=[d,d']/\itemsOf G1 d=some items/\itemsOf G1 d'=some items'/\∀H' F' J,Ext H F H' F'->R X.K H' F' G1->WalkJ X.K H' F' (cj items.1 items'.1) (items.2++items'.2) J->Rr J H') e0 he r ?_ λds G1 H1 F1 vs q e1 x1 he1 r1 rvs=>?_
    .rw[ie];refine aH a (λd G1 q=>?_) hw;rw[ie];refine aH b (λd' G2 q=>?_) q;rw[jA];split at q
     .rename_i items items' hd hd';exact ⟨d,d',items,items',rfl,hd,hd',q⟩
     .exact q.elim
    .obtain ⟨d,d',items,items',e2,hd,hd',q⟩:=q;subst e2;obtain ⟨w1,r2,e3,rw1,t2⟩:=rvs;obtain ⟨w2,e4,rw2⟩:=bC t2;subst e4;exact ⟨w1,w2,F1,G1,d,d',items,items',e3,r1,rw1,rw2,hd,hd',λJ w=>q H1 F1 J x1 r1 w⟩
   refine Call_ (gU I (S.glo _ g1) hmg (u:=.type "zip") TV (e6 (thn (sX iha (λh=>sX ihb (λh=>yf h) h) (c:=c) (es:=[v,v']) hA _ p9 s V H _ I q') λus s1 ⟨vs,H1,I1,r1v,q1⟩=>?_) hs (by rw[hs2];rfl)) (cX g2) (b7 g2));obtain ⟨w1,w2,F1,G1,d,d',items,items',e1,r1,rd,rd',hd,hd',q1⟩:=q1;subst e1;obtain ⟨u,u',rfl,ru,ru'⟩:=vals2 r1v;obtain ⟨kk,src⟩:=tD rd ru hd;obtain ⟨ll,src'⟩:=tD rd' ru' hd';obtain ⟨vs,sat,_⟩:=src.sat H1 F1 G1 (Ext.refl _ _) r1 (tH hd);obtain ⟨ws,sat',_⟩:=src'.sat H1 F1 G1 (Ext.refl _ _) r1 (tH hd');obtain ⟨its,on⟩:=tM I1 sat;obtain ⟨its',on'⟩:=tM I1 sat';rw[<-src.val,<-src'.val];refine Xb on on' λh' hz hTI hTO p1 p2 hsz hk=>?_;refine wpAny_pyIter_zip hz ?_;have fr:∀j,H1 (s1.heap.objs.size+j)=none:=λj=>I1.hok.fresh (dQ _ _);refine ⟨s1.heap.objs.size+4,[s1.heap.objs.size+4,s1.heap.objs.size+2,s1.heap.objs.size+3,s1.heap.objs.size,s1.heap.objs.size+1],_,_,H1,rfl,I1.kept (t':=s1.toks) hk,
    W8 kk ll (s1.heap.objs.size+4) (s1.heap.objs.size+2) (s1.heap.objs.size+3) s1.heap.objs.size (s1.heap.objs.size+1) (zap s1.heap.objs.size),⟨hz,hTI,⟨_,_,hTO⟩,p1,p2⟩,λb hb=>?_,q1 _ (Yz src src')⟩
   have hb':b=s1.heap.objs.size+4\/b=s1.heap.objs.size+2\/b=s1.heap.objs.size+3\/b=s1.heap.objs.size\/b=s1.heap.objs.size+1:=by simpa using hb
   rcases hb' with rfl |rfl |rfl |rfl |rfl
   .exact I1.fpOk (dQ _ _) (fr 4)
   .exact I1.fpOk (dQ _ _) (fr 2)
   .exact I1.fpOk (dQ _ _) (fr 3)
   .exact I1.fpOk (ax _) (fr 0)
   .exact I1.fpOk (dQ _ _) (fr 1)
end
section
variable {Z:aj} {CX:CXT} {k:Nat} {c:CT} {E:EK} {B:Bs} {X:Cx}
theorem ym:∀{l:AD},dm l=true->l.Nodup
 |[],_=>fb
 |x::r,h=>by
  unfold dm at h;rw[ae]at h;refine dr.mpr ⟨λhm=>?_,ym h.2⟩;have:=h.1;rw[bv.mpr hm]at this;cases this
theorem jK{N:AD}{scope:Scope}:∀{N':AD}{cap:List (Option Nat)},X.N=N->dZ N scope N' cap=true->Caps X scope N' cap
 |[],[],_,_=>trivial
 |_::N',none::cap,e,h=>jK (N':=N') (cap:=cap) e h
 |x::N',some j::cap,e,h=>by
  unfold dZ at h;simp only[ae,a9]at h;exact ⟨⟨by rw[e];exact h.1.1,h.1.2⟩,jK (N':=N') (cap:=cap) e h.2⟩
 |[],_::_,_,h=>by cases h
 |_::_,[],_,h=>by cases h
theorem lV{scope:Scope}{env:Env}(x:Str):(relabel scope env).names.lookup x=(scope.names.lookup x).map λkk=>if (kk==NameKind.free&&env.scope.kind==.function&&env.kindOf x==some .cell)=true then NameKind.cell else kk:=uY
theorem Stat.comp(S:Stat Z CX k c E B X){N':AD}{scope:Scope}(hn:dm N'=true)(cl:List (Str×AQ))(C:AQ)(s₁:AI)(H₁:Hp)(fp:List AQ)(pn:AC):
  Stat Z CX k (c.comp N' scope) noE B (X.comp N' scope cl C s₁ H₁ fp pn) where
 N:=rfl
 nd:=ym hn
 calm:=S.calm
 own:=PassesOwn.never
 kd:=rfl
 vis:=λx h=>by
  have h:iw (scope.names.lookup x)=true:=h;show (relabel scope X.env).names.lookup x=_\/(relabel scope X.env).names.lookup x=_\/(relabel scope X.env).names.lookup x=_;rw[lV];cases e:scope.names.lookup x with
  |none=>rw[e]at h;cases h
  |some kk=>
   rw[e]at h;cases kk with
   | «local»=>exact .inl (by simp[show (NameKind.«local»==NameKind.free)=false by decide])
   |cell=>exact .inr (.inl (by simp[show (NameKind.cell==NameKind.free)=false by decide]))
   |free=>
    by_cases q:(NameKind.free==NameKind.free&&X.env.scope.kind==ScopeKind.function&&X.env.kindOf x==some NameKind.cell)=true
    .exact .inr (.inl (by simp only[Option.map_some,if_pos q]))
    .exact .inr (.inr (by simp only[Option.map_some,if_neg q]))
   |globalExplicit=>cases h
   |globalImplicit=>cases h
 cel:=λx h=>by
  have h:scope.names.lookup x=some .cell\/scope.names.lookup x=some .free:=h;show (relabel scope X.env).names.lookup x=_\/(relabel scope X.env).names.lookup x=_;rw[lV];rcases h with h |h
  .exact .inl (by rw[h];simp[show (NameKind.cell==NameKind.free)=false by decide])
  .rw[h];by_cases q:(NameKind.free==NameKind.free&&X.env.scope.kind==ScopeKind.function&&X.env.kindOf x==some NameKind.cell)=true
   .exact .inl (by simp only[Option.map_some,if_pos q])
   .exact .inr (by simp only[Option.map_some,if_neg q])
 glo:=λx h=>by
  have h:scope.names.lookup x=some .globalImplicit:=h;show (relabel scope X.env).names.lookup x=_;rw[lV,h];simp[show (NameKind.globalImplicit==NameKind.free)=false by decide]
 sto:=λx h=>by
  have h:(scope.names.lookup x==some .local||(false&&scope.names.lookup x==some .cell))=true:=h;rw[gV,Bool.or_false,a9]at h;have e:(relabel scope X.env).names.lookup x=some .local:=by rw[lV,h];simp[show (NameKind.«local»==NameKind.free)=false by decide]
  exact ⟨.inl e,.inr e⟩
 room:=S.room
 call:=S.call
 blt:=S.blt
 con:=S.con
 exc:=⟨_,S.nox _,λ_ _ _ _ _ _ _ _ _ _ q=>q.elim,λx G' H' F' h=>h.elim⟩
 nox:=S.nox
 xcl:=λC h=>nZf h
 loc:=λx h=>by show (relabel scope X.env).names.lookup x=_;rw[lV,show scope.names.lookup x=some .local from h];simp[show (NameKind.«local»==NameKind.free)=false by decide]
 xis:=λC h=>nZf h
 mth:=S.mth
 mko:=S.mko
 fld:=S.fld
 xko:=λC f h=>⟨(S.xko C f h).1,λ_ _ z=>nomatch (show false=true from z)⟩
 trc:=λh=>absurd rfl h
theorem Hd(S:Stat Z CX k c E B X){t:Tx}(ih:OkT Z c E B X t){ifs:AE}(h:gH c t ifs=true):PIf X ifs (tB' X.K B (wpT Z t E)):=by
 unfold gH at h;rw[dP]at h;rcases h with h |h
 .rw[ae,eP]at h;obtain ⟨hy,rfl⟩:=h;cases t with
  |yes=>
   intro p9 s W H Q I q;refine Tf p9 s W H Q I ?_;obtain ⟨Y,F,G,e0,he,r,hw⟩:=q;rw[vQ]at hw;exact hw.now r
  |_=>cases hy
 .obtain ⟨e,he,h⟩:=aW h;rw[cW he];exact Th (ih h)
theorem Hf(S:Stat Z CX k c E B X){fz:Bool}{elt:Ex}{tg:Tg}{it:It'}{cond:Tx}{N':AD}{cap:List (Option Nat)}{scope:Scope}{elt' tg':AO}{ifs:AE}(hn:dm N'=true)
  (ihe:∀{X':Cx},Stat Z CX k (c.comp N' scope) noE B X'->OkE Z (c.comp N' scope) noE B X' elt) (iht:∀{X':Cx},Stat Z CX k (c.comp N' scope) noE B X'->OkT Z (c.comp N' scope) noE B X' cond)
  (hg:bH (c.comp N' scope) tg tg'=true) (hi:gH (c.comp N' scope) cond ifs=true) (he:aa (c.comp N' scope) elt elt'=true)
  {V:L2.St} {H:Hp} {Q:VK} {Y:ak} {F:FZ} {G:DH} (e0:Ext B.H B.F H F) (henv:EnvR X.K H F Y V) (r:R X.K H F G)
  (hw:wpI Z it E Y G λitems g G1=>
   compLoop (λd ρ' G' k'=>aU tg d ρ' G' λρ1=>wpT Z cond noE ρ1 G' λb G2=>match b with |true=>wpE Z elt noE ρ1 G2 λy G3=>k' (some y) ρ1 G3 |false=>k' none ρ1 G2)
    g items [] (cap.map λo=>match o with |none=>none |some j=>(Y[j]?).join) G1 λds G2=>mk fz ds G2 (PV X.K H F Q)):
  tI X.K B (wpI Z it E) V H (λJ H1=>vh true X N' scope tg' (emT ifs elt') J (dI cap V) H1 Q):=by
 refine ⟨Y,F,G,e0,henv,r,fY it (λitems g G1 q H1 F1 J x1 r1 W=>?_) hw⟩;let step:D->ak->DH->(Option D->ak->DH->Prop)->Prop:=λd ρ' G' k'=>aU tg d ρ' G' λρ1=>wpT Z cond noE ρ1 G' λb G2=>match b with |true=>wpE Z elt noE ρ1 G2 λy G3=>k' (some y) ρ1 G3 |false=>k' none ρ1 G2
 let fin:AS->DH->Prop:=λds G2=>mk fz ds G2 (PV X.K H F Q)
 refine ⟨λi m ys σ' H'=>m=items.length - i/\i<=items.length/\∃ρ' F' G' acc,Ext B.H B.F H' F'/\Ext H1 F1 H' F'/\EnvR X.K H' F' ρ' σ'/\R X.K H' F' G'/\Reps X.K H' F' acc ys/\compLoop step g (items.drop i) acc ρ' G' fin,
  ⟨items.length,by simp,cr _,_,F1,G1,[],e0.trans x1,Ext.refl _ _,(henv.ext x1).cap cap,r1,rfl,q⟩,?_⟩
 rintro i m ys σ' H' ⟨rfl,hle,ρ',F',G',acc,eB,e1,he',r',ra,hl⟩;by_cases hlt:i < items.length
 .have hd:items.drop i=items[i]::items.drop (i+1):=bo hlt;rw[hd]at hl;obtain ⟨hh,hz,hl⟩:=hl;refine .inr ⟨W.go H' F' G' i e1 r' hh hlt,λ_=>by rw[<-ra.length];exact bm hz szl,λcl C s₁ H₁ fp pn=>?_⟩;have S':=S.comp (scope:=scope) hn cl C s₁ H₁ fp pn;refine ⟨_,tmT _ _,jH S' tg hg,λa ha=>Cq rfl ha (Hd S' (iht S') hi) (ihe S' he),λx H2 hy=>?_⟩;obtain ⟨xy,ry,rx⟩:=W.yld H' F' i x H2 items[i] G' e1 r' hh (by simp[hlt]) hy;refine ⟨ρ',F',G',items[i],eB.trans xy,he'.ext xy,ry,rx,dN (λρ1 z σ1 hσ1=>?_) tg hl⟩;unfold tmT;refine gJ (eB.trans xy) hσ1 ry z λb G2 H3 F3 z e3 x3 he3 r3=>?_;cases b with
  |true=>
   rw[if_pos rfl];refine aN e3 he3 r3 z λy G4 H4 F4 v z e4 x4 he4 r4 rv=>?_;exact ⟨items.length - (i+1),!0,rfl,hlt,ρ1,F4,G4,acc++[y],e4,e1.trans (xy.trans (x3.trans x4)),he4,r4,(Reps.ext (xy.trans (x3.trans x4)) ra).append (Reps.cons rv Reps.nil),z⟩
  |false=>
   rw[if_neg br];exact ⟨items.length - (i+1),!0,rfl,hlt,ρ1,F3,G2,acc,e3,e1.trans (xy.trans x3),he3,r3,Reps.ext (xy.trans x3) ra,z⟩
 .have hi':i=items.length:=by omega
  subst hi';rw[e7]at hl;obtain ⟨hh,hz,hl⟩:=hl;refine .inl ⟨W.stop H' F' G' e1 r' hh,by rw[<-ra.length];exact di hz,λp hp=>?_⟩;exact dh (cU (λd G' z=>PV.later z (x1.trans e1)) hl) r' ra p hp
structure CompC(c:CT)(elt:Ex)(tg:Tg)(it:It')(cond:Tx)(N':AD)(cap:List (Option Nat))(elt' tg' iter:AO)(ifs:AE)(scope:Scope):Prop where
 it:bI c it tg' iter=true
 cap:dZ c.N scope N' cap=true
 sc:dO c scope=true
 nd:dm N'=true
 tg:bH (c.comp N' scope) tg tg'=true
 cd:gH (c.comp N' scope) cond ifs=true
 el:aa (c.comp N' scope) elt elt'=true
theorem jL(S:Stat Z CX k c E B X){scope:Scope}(h:dO c scope=true):scope.names.all (λy=>y.2 != NameKind.cell)=true/\scope.names.all (λy=>y.2 != NameKind.local||scope.names.lookup y.1==some NameKind.local)=true/\
  scope.names.all (λy=>y.2 != NameKind.free||(X.env.kindOf y.1==some NameKind.cell||X.env.kindOf y.1==some NameKind.free))=true/\scope.kind=.function:=by
 unfold dO at h;simp only[ae,ck]at h;obtain ⟨⟨⟨⟨h1,h2⟩,h3⟩,h4⟩,_⟩:=h;refine ⟨h1,h2,?_,h4⟩;rw[bP]at h3 ⊢;intro y hy;have:=h3 y hy;rw[dP,dP,a9,a9]at this;rw[dP,dP,a9,a9];rcases this with q |q
 .exact .inl q
 .exact .inr (S.cel y.1 q)
theorem Hg{fz:Bool}{elt:Ex}{tg:Tg}{it:It'}{cond:Tx}{N:List AL}{cap:List (Option Nat)}{e:AO}(h:aa c (.comp fz elt tg it cond N cap) e=true):
  ∃elt' tg' iter ifs scope pos,e=.ListComp elt' [⟨tg',iter,ifs,0⟩] scope pos/\CompC c elt tg it cond (N.map Str.ofString) cap elt' tg' iter ifs scope:=by
 replace h:=Gs h;obtain ⟨_,_,_,_,_,_,_,rfl,h⟩:=h;simp only[ae,ck]at h;obtain ⟨⟨⟨⟨⟨⟨⟨h1,h2⟩,h3⟩,h4⟩,h5⟩,h6⟩,h7⟩,h8⟩:=h;subst h1;exact ⟨_,_,_,_,_,_,rfl,h2,h3,h4,h5,h6,h7,h8⟩
theorem iC{it:It'}{tg' iter:AO}(h:bI c it tg' iter=true)(env:Env)(x:AN):foldedSetIterable iter env x=pure x:=by
 cases it with
 |seq y=>exact ye (bR y (show aa c y iter=true from h)) env x
 |rng a=>obtain ⟨_,_,_,_,rfl,_⟩:=Gu h;rfl
 |enm a=>obtain ⟨_,_,_,_,_,_,_,_,rfl,_⟩:=Gv h;rfl
 |zip a b=>obtain ⟨_,_,_,_,_,_,_,_,_,rfl,_⟩:=Gw h;rfl
theorem Hh{K:PF}{H:Hp}{F:FZ}:∀{ds:AS}{ks:List (List Int)}{vs:AR},gr ds=some ks->Reps K H F ds vs->Paired (L2.isT H) vs (ks.map aQ)
 |[],ks,vs,e,t=>by cases e;cases t;exact .nil
 |.tup l::r,ks,vs,e,t=>by
  unfold gr at e;split at e
  .rename_i k ks' e1 e2;cases e;obtain ⟨v,vs',rfl,rv,t'⟩:=t;obtain ⟨n,b,hn,e3,e4,_⟩:=jE (k:=λn=>n=k) rv (by unfold bZ;dsimp only;rw[e1]);subst hn;exact .cons ⟨b,e3,e4⟩ (Hh e2 t')
  .cases e
 |.non::_,ks,vs,e,t=>nomatch e
 |.bl _::_,ks,vs,e,t=>nomatch e
 |.int _::_,ks,vs,e,t=>nomatch e
 |.str _::_,ks,vs,e,t=>nomatch e
 |.lst _::_,ks,vs,e,t=>nomatch e
 |.ref _::_,ks,vs,e,t=>nomatch e
 |.scr _::_,ks,vs,e,t=>nomatch e
 |.exn _::_,ks,vs,e,t=>nomatch e
 |.exa _ _ _::_,ks,vs,e,t=>nomatch e
 |.obj _ _ _::_,ks,vs,e,t=>nomatch e
 |.dct _ _::_,ks,vs,e,t=>nomatch e
theorem Hi:∀(ks:List (List Int))(acc:List (List Int))(kv:List (List Key×V)),kv.map (·.1)=acc.map aQ->(∀p∈kv,p.2=.bl true)->
  ((ks.map aQ).foldl (λkv k=>putD kv k (.bl true)) kv).map (·.1)=(ks.foldl (λacc k=>if k∈acc then acc else acc++[k]) acc).map aQ/\∀p∈(ks.map aQ).foldl (λkv k=>putD kv k (V.bl true)) kv,p.2=.bl true
 |[],acc,kv,h1,h2=>⟨h1,h2⟩
 |k::ks,acc,kv,h1,h2=>by
  rw[aS,List.foldl_cons,List.foldl_cons];have hm:(kv.any λp=>decide (p.1=aQ k))=decide (k∈acc):=by
   rw[fk,ck,hJ];constructor
   .rintro ⟨p,hp,e⟩;have:p.1∈acc.map aQ:=by rw[<-h1];exact bp.mpr ⟨p,hp,rfl⟩
    obtain ⟨k',hk',e'⟩:=bp.mp this;rw[ee e]at e';rwa [xG e']at hk'
   .intro hk;have:aQ k∈kv.map (·.1):=by rw[h1];exact bp.mpr ⟨k,hk,rfl⟩
    obtain ⟨p,hp,e⟩:=bp.mp this;exact ⟨p,hp,bX e⟩
  refine Hi ks _ _ ?_ ?_
  .unfold putD;rw[hm];by_cases hk:k∈acc
   .rw[if_pos (bX hk),if_pos hk,<-h1,cb];refine b9 λp _=>?_;show (if p.1=aQ k then (p.1,V.bl true) else p).1=p.1;split <;> rfl
   .rw[if_neg (!!hk),if_neg hk,b4,b4,h1];rfl
  .unfold putD;intro p hp;split at hp
   .obtain ⟨p',hp',rfl⟩:=bp.mp hp;split
    .rfl
    .exact h2 p' hp'
   .rcases aT.mp hp with z |z
    .exact h2 p z
    .rw[ah.mp z]
theorem Hj{K:PF}{H:Hp}{F:FZ}:∀{kv:List (List Key×V)},(∀p∈kv,p.2=.bl true)->Reps K H F (List.replicate kv.length (.bl true)) (kv.map (·.2))
 |[],_=>rfl
 |p::kv,h=>⟨_,_,rfl,h p bg,Hj λq hq=>h q (bi _ hq)⟩
theorem Hk{Q:VK}{k':AT}{G1:DH}{H1:Hp}{F1:FZ}{d:D}{v:V}(r1:R X.K H1 F1 G1)(rv:Rep X.K H1 F1 d v)(q:dcK (view G1 d) λks=>∀p,G1 p=none->k' (.ref p) (aL G1 p (.dct (gA ks) (List.replicate (gA ks).length (.bl true)))))
  (h:∀d G' H2 F2 v,k' d G'->Ext H1 F1 H2 F2->R X.K H2 F2 G'->Rep X.K H2 F2 d v->Q v H2):∃p vs ks,v=.ref p/\SqL X.K H1 p vs/\Paired (L2.isT H1) vs ks/\ks.length < sizeLine/\∀D,H1 D=none->Q (.ref D) (upd H1 D (.dT (cB ks))):=by
 generalize hv:view G1 d=w at q;cases w with
 |lst ds=>
  have q:(match gr ds with |some ks=>ks.length < sz/\_ |none=>False):=q;cases hk:gr ds with
  |none=>rw[hk]at q;exact q.elim
  |some ks=>
   rw[hk]at q;obtain ⟨q1,q2⟩:=q;obtain ⟨p,vs,rfl,sq,t⟩:=Rep.list r1 rv hv;refine ⟨p,vs,ks.map aQ,rfl,sq,Hh hk t,by rw[af];exact bm q1 szl,λD hD=>?_⟩;have x:=cR (o:=.dT (cB (ks.map aQ))) r1 hD;obtain ⟨f1,f2⟩:=Hi ks [] [] rfl (λp hp=>nomatch hp);have hl:(gA ks).length=(cB (ks.map aQ)).length:=by have:=eT List.length f1;rw[af,af]at this;exact this.symm
   refine h _ _ _ _ _ (q2 D (r1.free hD)) x (r1.dctAt x (λf=>by obtain ⟨vs,z⟩:=(r1.fz D f).2;rw[hD]at z;cases z) f1 ?_) rfl;rw[hl];exact Hj f2
 |_=>exact (show False from q).elim
theorem YH(S:Stat Z CX k c E B X){a:Ex}(iha:OkE Z c E B X a){e:AO}(h:aa c (.dcT a) e=true):PE X e (tE X.K B (wpE Z (.dcT a) E)):=by obtain ⟨x,pk,j,pv,px,iter,scope,pos,rfl,ha,hs,hx,hok⟩:=yc h;obtain ⟨s1,s2,s3,s4⟩:=jL S hs;refine peI (Vm S.calm (by have:=d9 S;omega) (iha ha) s1 s2 s3 s4 hx (b7 hok) (ye (bR a ha) X.env)) λW H Q hq=>el hq λY F G e0 he r hw=>?_;rw[rF]at hw;exact aN e0 he r hw λd G1 H1 F1 v q e1 x1 he1 r1 rv=>Hk r1 rv q λd G' H2 F2 v z x2 r2 rv2=>z H2 F2 v (x1.trans x2) r2 rv2
theorem YJ(S:Stat Z CX k c E B X){fz:Bool}{elt:Ex}{tg:Tg}{it:It'}{cond:Tx}{N:List AL}{cap:List (Option Nat)}
  (ihe:∀{c':CT}{X':Cx},Stat Z CX k c' noE B X'->OkE Z c' noE B X' elt) (iht:∀{c':CT}{X':Cx},Stat Z CX k c' noE B X'->OkT Z c' noE B X' cond)
  (ihi:∀{tg' iter:AO},bI c it tg' iter=true->PI X tg' iter (tI X.K B (wpI Z it E))) {e:AO} (h:aa c (.comp fz elt tg it cond N cap) e=true):
  PE X e (tE X.K B (wpE Z (.comp fz elt tg it cond N cap) E)):=by
 obtain ⟨elt',tg',iter,ifs,scope,pos,rfl,C⟩:=Hg h;obtain ⟨s1,s2,s3,s4⟩:=jL S C.sc;refine peI (Cw (lim:=true) (N.map Str.ofString) cap S.calm (ihi C.it) (jK S.N C.cap) s1 s2 s3 s4 (iC C.it X.env) (Cp _ _ _ _ _ _)) λW H Q hq=>el hq λY F G e0 he r hw=>?_;rw[xf]at hw;exact Hf S C.nd (λS'=>ihe S') (λS'=>iht S') C.tg C.cd C.el e0 he r hw
def RelM(K:PF)(B:Bs)(eD:AS->ak->DH->(AS->ak->DH->Prop)->Prop)(tm:TM):Prop:=
 ∀(X:L2.St)(H:Hp)(Y:ak)(F:FZ)(G:DH)(acc:AS)(ys:AR)(W:AS->ak->DH->Prop)(Q:AR->L2.St->Hp->Prop),Ext B.H B.F H F->EnvR K H F Y X->R K H F G->Reps K H F acc ys->eD acc Y G W->
  (∀acc' ρ' G' H' F' σ' ys',W acc' ρ' G'->Ext H F H' F'->EnvR K H' F' ρ' σ'->R K H' F' G'->Reps K H' F' acc' ys'->Q ys' σ' H')->tm ys X H Q
theorem Hl{K:PF}{t:Tg}{eD:AS->ak->DH->(AS->ak->DH->Prop)->Prop}{tm:TM}(hr:RelM K B eD tm){items:AS}{g:Hld}{Y:ak}{G:DH}{acc:AS}{ys:AR}{X:L2.St}{H:Hp}{F:FZ}{J:It}{W:AS->ak->DH->Prop}{Q:AR->L2.St->Hp->Prop}
  (e0:Ext B.H B.F H F) (he:EnvR K H F Y X) (r:R K H F G) (ra:Reps K H F acc ys) (Wk:WalkJ K H F items g J) (hw:dY (λd acc ρ' G' k=>aU t d ρ' G' λρ1=>eD acc ρ1 G' k) g items acc Y G W)
  (hk:∀acc' ρ' G' H' F' σ' ys',W acc' ρ' G'->Ext H F H' F'->EnvR K H' F' ρ' σ'->R K H' F' G'->Reps K H' F' acc' ys'->Q ys' σ' H'):Cu J (tG K B t) tm ys X H Q:=by
 refine ⟨λi m ys σ' H'=>m=items.length - i/\i<=items.length/\∃ρ' F' G' acc,Ext B.H B.F H' F'/\Ext H F H' F'/\EnvR K H' F' ρ' σ'/\R K H' F' G'/\Reps K H' F' acc ys/\dY (λd acc ρ' G' k=>aU t d ρ' G' λρ1=>eD acc ρ1 G' k) g (items.drop i) acc ρ' G' W,
  ⟨items.length,by simp,cr _,Y,F,G,acc,e0,Ext.refl _ _,he,r,ra,hw⟩,?_⟩
 rintro i m ys σ' H' ⟨rfl,hle,ρ',F',G',acc,eB,e1,he',r',ra,hl⟩;by_cases hlt:i < items.length
 .have hd:items.drop i=items[i]::items.drop (i+1):=bo hlt;rw[hd]at hl;obtain ⟨hh,hl⟩:=hl;refine .inr ⟨Wk.go H' F' G' i e1 r' hh hlt,λx H2 hy=>?_⟩;obtain ⟨xy,ry,rx⟩:=Wk.yld H' F' i x H2 items[i] G' e1 r' hh (by simp[hlt]) hy;refine ⟨ρ',F',G',items[i],eB.trans xy,he'.ext xy,ry,rx,dN (λρ1 z σ1 hσ1=>?_) t hl⟩;refine hr _ _ _ _ _ _ _ _ _ (eB.trans xy) hσ1 ry (Reps.ext xy ra) z λacc' ρ2 G2 H3 F3 σ3 ys3 q x3 he3 r3 ra3=>?_;exact ⟨items.length - (i+1),!0,rfl,hlt,ρ2,F3,G2,acc',(eB.trans xy).trans x3,e1.trans (xy.trans x3),he3,r3,ra3,q⟩
 .have hi':i=items.length:=by omega
  subst hi';rw[e7]at hl;exact .inl ⟨Wk.stop H' F' G' e1 r' hl.1,hk _ _ _ _ _ _ _ hl.2 e1 he' r' ra⟩
theorem YK{K:PF}{t:Tg}{it:It'}{eD:AS->ak->DH->(AS->ak->DH->Prop)->Prop}{tm:TM}(hr:RelM K B eD tm):
  RelM K B (λacc Y G k=>wpI Z it noE Y G λitems g G1=>dY (λd acc ρ' G' k=>aU t d ρ' G' λρ1=>eD acc ρ1 G' k) g items acc Y G1 k) (tmG (tI K B (wpI Z it noE)) (tG K B t) tm):=by
 intro X H Y F G acc ys W Q e0 he r ra hw hk;refine ⟨Y,F,G,e0,he,r,fY it (λitems g G1 q H1 F1 J x1 r1 Wk=>?_) hw⟩;exact Hl hr (e0.trans x1) (he.ext x1) r1 (Reps.ext x1 ra) Wk q λacc' ρ' G' H' F' σ' ys' z x2 he2 r2 ra2=>hk _ _ _ _ _ _ _ z (x1.trans x2) he2 r2 ra2
theorem YL{K:PF}{elt:Ex}{cond:Tx}:RelM K B (λacc Y G k=>acc.length < sz/\wpT Z cond noE Y G λb G3=>match b with |true=>wpE Z elt noE Y G3 λy G4=>k (acc++[y]) Y G4 |false=>k acc Y G3)
  (λys X H Q=>ys.length < sizeLine/\tmT (tB' K B (wpT Z cond noE)) (tE K B (wpE Z elt noE)) ys X H Q):=by
 intro X H Y F G acc ys W Q e0 he r ra hw hk;refine ⟨by rw[<-ra.length];exact bm hw.1 szl,?_⟩;unfold tmT;refine gJ e0 he r hw.2 λb G2 H3 F3 z e3 x3 he3 r3=>?_;cases b with
 |true=>
  rw[if_pos rfl];exact aN e3 he3 r3 z λy G4 H4 F4 v z e4 x4 he4 r4 rv=>hk _ _ _ _ _ _ _ z (x3.trans x4) he4 r4 ((Reps.ext (x3.trans x4) ra).append (Reps.cons rv Reps.nil))
 |false=>
  rw[if_neg br];exact hk _ _ _ _ _ _ _ z x3 he3 r3 (Reps.ext x3 ra)
theorem Hm(S:Stat Z CX k c E B X){elt:Ex}{t1 t2:Tg}{i1 i2:It'}{cond:Tx}{N':AD}{cap:List (Option Nat)}{scope:Scope}{elt' a1 b1 a2 b2:AO}{ifs:AE}{pos:Pos}(hn:dm N'=true)
  (ihe:∀{X':Cx},Stat Z CX k (c.comp N' scope) noE B X'->OkE Z (c.comp N' scope) noE B X' elt) (iht:∀{X':Cx},Stat Z CX k (c.comp N' scope) noE B X'->OkT Z (c.comp N' scope) noE B X' cond)
  (ih2:∀{X':Cx},Stat Z CX k (c.comp N' scope) noE B X'->PI X' a2 b2 (tI X'.K B (wpI Z i2 noE)))
  (f2:∀env x,foldedSetIterable b2 env x=pure x)
  (hg1:bH (c.comp N' scope) t1 a1=true) (hg2:bH (c.comp N' scope) t2 a2=true) (hi:gH (c.comp N' scope) cond ifs=true) (he:aa (c.comp N' scope) elt elt'=true)
  {V:L2.St} {H:Hp} {Q:VK} {Y:ak} {F:FZ} {G:DH} (e0:Ext B.H B.F H F) (henv:EnvR X.K H F Y V) (r:R X.K H F G)
  (hw:wpE Z (.cm2 elt t1 i1 t2 i2 cond N0 cap) E Y G (PV X.K H F Q)):
  tI X.K B (wpI Z i1 E) V H (λJ H1=>vh false X N' scope a1 (emG (.ListComp elt' [⟨a1,b1,[],0⟩,⟨a2,b2,ifs,0⟩] scope pos) 1 b2) J (dI cap V) H1 Q):=by
 rw[wM]at hw;refine ⟨Y,F,G,e0,henv,r,fY i1 (λitems g G1 q H1 F1 J x1 r1 W=>?_) hw⟩;have rel:=YK (Z:=Z) (K:=X.K) (B:=B) (t:=t2) (it:=i2) (YL (Z:=Z) (elt:=elt) (cond:=cond));obtain ⟨WW,⟨m0,w0⟩,turn⟩:=Hl (t:=t1) (Q:=λys _ H'=>ys.length<=sizeLine/\∀D,H' D=none->Q (.ref D) (upd H' D (.lst ys))) rel (e0.trans x1) ((henv.ext x1).cap cap) r1 (Reps.nil) W q λacc' ρ' G' H' F' σ' ys' z x2 he2 r2 ra2=>
  ⟨by rw[<-ra2.length];exact di z.1,λp hp=>dh (cU (λd G' z=>PV.later z (x1.trans x2)) z.2) r2 ra2 p hp⟩
 refine ⟨WW,⟨m0,w0⟩,λi m ys σ' H' w=>?_⟩;rcases turn i m ys σ' H' w with ⟨st,z1,z2⟩ |⟨go,step⟩
 .exact .inl ⟨st,z1,z2⟩
 .refine .inr ⟨go,(λz=>nomatch z),λcl C s₁ H₁ fp pn=>?_⟩;have S':=S.comp (scope:=scope) hn cl C s₁ H₁ fp pn;exact ⟨_,_,jH S' t1 hg1,λa ha=>Ur rfl S'.calm rfl (Uq _ _ _ _ _ _ _ _) (ih2 S') (jH S' t2 hg2) (f2 _) (Up rfl ha (Hd S' (iht S') hi) (ihe S' he)),step⟩
theorem YM(S:Stat Z CX k c E B X){elt:Ex}{t1 t2:Tg}{i1 i2:It'}{cond:Tx}{N:List AL}{cap:List (Option Nat)}
  (ihe:∀{c':CT}{X':Cx},Stat Z CX k c' noE B X'->OkE Z c' noE B X' elt) (iht:∀{c':CT}{X':Cx},Stat Z CX k c' noE B X'->OkT Z c' noE B X' cond) (ih1:∀{tg' iter:AO},bI c i1 tg' iter=true->PI X tg' iter (tI X.K B (wpI Z i1 E)))
  (ih2:∀{c':CT}{X':Cx},Stat Z CX k c' noE B X'->∀{tg' iter:AO},bI c' i2 tg' iter=true->PI X' tg' iter (tI X'.K B (wpI Z i2 noE))) {e:AO} (h:aa c (.cm2 elt t1 i1 t2 i2 cond N cap) e=true):
  PE X e (tE X.K B (wpE Z (.cm2 elt t1 i1 t2 i2 cond N cap) E)):=by
 obtain ⟨elt',a1,b1,a2,b2,ifs,scope,pos,rfl,c1,c2,c3,c4,c5,c6,c7,c8,c9⟩:=yd h;obtain ⟨s1,s2,s3,s4⟩:=jL S c3;refine peI (Cw (lim:=false) (N.map Str.ofString) cap S.calm (ih1 c1) (jK S.N c2) s1 s2 s3 s4 (iC c1 X.env) (Cr _ _ _ _ _ _ _ _)) λW H Q hq=>el hq λY F G e0 he r hw=>?_;exact Hm S c4 (λS'=>ihe S') (λS'=>iht S') (λS'=>ih2 S' c6) (iC c6) c5 c7 c8 c9 e0 he r hw
theorem bF{x:Ex}(ih:OkE Z c E B X x)(hn:∀l os rs pos,aa c x (.Compare l os rs pos)=true->False){e:AO}(h:bD c (.val x) e=true):PT X e (tB' X.K B (wpT Z (.val x) E)):=by
 have h:((iz e||lM e)&&aa c x e&&Fj x)=true:=h;simp only[ae,dP]at h;obtain ⟨⟨h1,h2⟩,h3⟩:=h;rcases h1 with h1 |h1
 .exact Yq ih h1 h2
 .obtain ⟨⟨t,ht⟩,_⟩:=cm.mp h1;rw[ht]at h2;exact (hn _ _ _ _ h2).elim
end
mutual
theorem aB{Z:aj}{CX:CXT}{k:Nat}{B:Bs}:∀(x:Ex){c:CT}{E:EK}{X:Cx},Stat Z CX k c E B X->OkE Z c E B X x
 |.var i,c,E,X,S=>λh=>XM S h
 |.cst d,c,E,X,S=>λh=>XN S h
 |.glb x d,c,E,X,S=>λh=>XQ S h
 |.bin op fz a b,c,E,X,S=>λh=>XS S (aB a S) (aB b S) h
 |.neg a,c,E,X,S=>λh=>XX S (aB a S) h
 |.cmp op a b,c,E,X,S=>λh=>(GF S (aB a S) (aB b S) h).1
 |.chn op op' a b d,c,E,X,S=>λh=>(GJ S (aB a S) (aB b S) (aB d S) h).1
 |.not a,c,E,X,S=>λh=>X3 S (aB a S) h
 |.boo isAnd e es,c,E,X,S=>λh=>Yo (aB e S) (gM es S) h
 |.ife t a b,c,E,X,S=>λh=>Yp (eX t S) (aB a S) (aB b S) h
 |.tup es,c,E,X,S=>λh=>X4 S (EachE.oks (gM es S)) h
 |.lst fz es,c,E,X,S=>λh=>X5 S (EachE.oks (gM es S)) h
 |.idx a i,c,E,X,S=>λh=>X6 S (aB a S) (aB i S) h
 |.slc fz a lo hi,c,E,X,S=>λh=>Yb S (aB a S) (Ho lo S) (Ho hi S) h
 |.rvs fz a s,c,E,X,S=>λh=>Yc S (aB a S) (aB s S) h
 |.call f es,c,E,X,S=>λh=>Ye S (EachE.oks (gM es S)) h
 |.bcl f es,c,E,X,S=>λh=>Yg S (EachE.oks (gM es S)) h
 |.lcl fz f es,c,E,X,S=>λh=>Yh S (EachE.oks (gM es S)) h
 |.isi a t,c,E,X,S=>λh=>Yl S (aB a S) h
 |.rgl fz a,c,E,X,S=>λh=>Yi S (aB a S) h
 |.rgt a,c,E,X,S=>λh=>Yj S (aB a S) h
 |.mth m o es,c,E,X,S=>λh=>Yn S (aB o S) (EachE.oks (gM es S)) h
 |.comp fz elt tg it cond N cap,c,E,X,S=>λh=>YJ S (λS'=>aB elt S') (λS'=>eX cond S') (iD it S) h
 |.frz a,c,E,X,S=>λh=>Yd S (aB a S) h
 |.dnw,c,E,X,S=>λh=>X7 S h
 |.dcT a,c,E,X,S=>λh=>YH S (aB a S) h
 |.cm2 elt t1 i1 t2 i2 cond N cap,c,E,X,S=>λh=>YM S (λS'=>aB elt S') (λS'=>eX cond S') (iD i1 S) (λS'=>iD i2 S') h
 |.dp1 a b,c,E,X,S=>λh=>X8 S (aB a S) (aB b S) h
theorem gM{Z:aj}{CX:CXT}{k:Nat}{B:Bs}:∀(x:Exs){c:CT}{E:EK}{X:Cx},Stat Z CX k c E B X->EachE Z c E B X x
 |.nil,_,_,_,_=>trivial
 |.cons e es,c,E,X,S=>⟨aB e S,gM es S⟩
theorem eX{Z:aj}{CX:CXT}{k:Nat}{B:Bs}:∀(x:Tx){c:CT}{E:EK}{X:Cx},Stat Z CX k c E B X->OkT Z c E B X x
 |.not t,c,E,X,S=>λh=>Yr (eX t S) h
 |.boo isAnd t ts,c,E,X,S=>λh=>Ys (eX t S) (Hn ts S) h
 |.yes,c,E,X,S=>λh=>nZf h
 |.val (.cmp op a b),c,E,X,S=>by
  intro h;have h:((iz _||lM _)&&aa c (.cmp op a b) _&&true)=true:=h;simp only[ae]at h;exact (GF S (aB a S) (aB b S) h.1.2).2
 |.val (.chn op op' a b d),c,E,X,S=>by
  intro h;have h:((iz _||lM _)&&aa c (.chn op op' a b d) _&&true)=true:=h;simp only[ae]at h;exact (GJ S (aB a S) (aB b S) (aB d S) h.1.2).2
 |.val (.frz a),c,E,X,S=>by
  intro h;have h:((iz _||lM _)&&aa c (.frz a) _&&false)=true:=h;rw[gl]at h;cases h
 |.val .dnw,c,E,X,S=>λh=>bF (aB .dnw S) (λ_ _ _ _ h=>nZf h) h
 |.val (.dcT a),c,E,X,S=>λh=>bF (aB (.dcT a) S) (λ_ _ _ _ h=>nZf h) h
 |.val (.cm2 elt t1 i1 t2 i2 cond N cap),c,E,X,S=>λh=>bF (aB (.cm2 elt t1 i1 t2 i2 cond N cap) S) (λ_ _ _ _ h=>nZf h) h
 |.val (.dp1 a b),c,E,X,S=>λh=>bF (aB (.dp1 a b) S) (λ_ _ _ _ h=>nZf h) h
 |.val (.var i),c,E,X,S=>λh=>bF (aB (.var i) S) (λ_ _ _ _ h=>nZf h) h
 |.val (.cst d),c,E,X,S=>λh=>bF (aB (.cst d) S) (λ_ _ _ _ h=>nZf h) h
 |.val (.glb x d),c,E,X,S=>λh=>bF (aB (.glb x d) S) (λ_ _ _ _ h=>nZf h) h
 |.val (.bin op fz a b),c,E,X,S=>λh=>bF (aB (.bin op fz a b) S) (λ_ _ _ _ h=>nZf h) h
 |.val (.neg a),c,E,X,S=>λh=>bF (aB (.neg a) S) (λ_ _ _ _ h=>nZf h) h
 |.val (.not a),c,E,X,S=>λh=>bF (aB (.not a) S) (λ_ _ _ _ h=>nZf h) h
 |.val (.boo isAnd e es),c,E,X,S=>λh=>bF (aB (.boo isAnd e es) S) (λ_ _ _ _ h=>nZf h) h
 |.val (.ife t a b),c,E,X,S=>λh=>bF (aB (.ife t a b) S) (λ_ _ _ _ h=>nZf h) h
 |.val (.tup es),c,E,X,S=>λh=>bF (aB (.tup es) S) (λ_ _ _ _ h=>nZf h) h
 |.val (.lst fz es),c,E,X,S=>λh=>bF (aB (.lst fz es) S) (λ_ _ _ _ h=>nZf h) h
 |.val (.idx a i),c,E,X,S=>λh=>bF (aB (.idx a i) S) (λ_ _ _ _ h=>nZf h) h
 |.val (.slc fz a lo hi),c,E,X,S=>λh=>bF (aB (.slc fz a lo hi) S) (λ_ _ _ _ h=>nZf h) h
 |.val (.rvs fz a s),c,E,X,S=>λh=>bF (aB (.rvs fz a s) S) (λ_ _ _ _ h=>nZf h) h
 |.val (.call f es),c,E,X,S=>λh=>bF (aB (.call f es) S) (λ_ _ _ _ h=>nZf h) h
 |.val (.bcl f es),c,E,X,S=>λh=>bF (aB (.bcl f es) S) (λ_ _ _ _ h=>nZf h) h
 |.val (.lcl fz f es),c,E,X,S=>λh=>bF (aB (.lcl fz f es) S) (λ_ _ _ _ h=>nZf h) h
 |.val (.rgl fz a),c,E,X,S=>λh=>bF (aB (.rgl fz a) S) (λ_ _ _ _ h=>nZf h) h
 |.val (.rgt a),c,E,X,S=>λh=>bF (aB (.rgt a) S) (λ_ _ _ _ h=>nZf h) h
 |.val (.isi a t),c,E,X,S=>λh=>bF (aB (.isi a t) S) (λ_ _ _ _ h=>nZf h) h
 |.val (.mth m o es),c,E,X,S=>λh=>bF (aB (.mth m o es) S) (λ_ _ _ _ h=>nZf h) h
 |.val (.comp fz elt tg it cond N cap),c,E,X,S=>λh=>bF (aB (.comp fz elt tg it cond N cap) S) (λ_ _ _ _ h=>nZf h) h
theorem Hn{Z:aj}{CX:CXT}{k:Nat}{B:Bs}:∀(x:Txs){c:CT}{E:EK}{X:Cx},Stat Z CX k c E B X->sZ Z c E B X x
 |.nil,_,_,_,_=>trivial
 |.cons e es,c,E,X,S=>⟨eX e S,Hn es S⟩
theorem Ho{Z:aj}{CX:CXT}{k:Nat}{B:Bs}:∀(x:Ox){c:CT}{E:EK}{X:Cx},Stat Z CX k c E B X->∀y,x=.ob y->OkE Z c E B X y
 |.no,c,E,X,S,y,e=>by cases e
 |.ob z,c,E,X,S,y,e=>by injection e with e;subst e;exact aB z S
theorem iD{Z:aj}{CX:CXT}{k:Nat}{B:Bs}:∀(x:It'){c:CT}{E:EK}{X:Cx},Stat Z CX k c E B X->∀{tg e:AO},bI c x tg e=true->PI X tg e (tI X.K B (wpI Z x E))
 |.seq y,c,E,X,S,tg,e,h=>YC (aB y S) (show aa c y e=true from h)
 |.rng a,c,E,X,S,tg,e,h=>YD S (aB a S) h
 |.enm a,c,E,X,S,tg,e,h=>YF S (aB a S) h
 |.zip a b,c,E,X,S,tg,e,h=>YG S (aB a S) (aB b S) h
end
def EnD(K:PF)(H:Hp)(F:FZ)(D:Ends):En where
 nx:=λY G'=>∀H' F' σ',Ext H F H' F'->EnvR K H' F' Y σ'->R K H' F' G'->D.nx σ' H'
 rt:=PV K H F D.rt
 bk:=λY G'=>∀H' F' σ',Ext H F H' F'->EnvR K H' F' Y σ'->R K H' F' G'->D.bk σ' H'
 ct:=λY G'=>∀H' F' σ',Ext H F H' F'->EnvR K H' F' Y σ'->R K H' F' G'->D.ct σ' H'
def EnD.later{K:PF}{H H1:Hp}{F F1:FZ}{D:Ends}(x:Ext H F H1 F1):(EnD K H F D).Le (EnD K H1 F1 D):=
 ⟨λ_ _ h H' F' σ' x1=>h H' F' σ' (x.trans x1),λ_ _ h=>PV.later h x,λ_ _ h H' F' σ' x1=>h H' F' σ' (x.trans x1),λ_ _ h H' F' σ' x1=>h H' F' σ' (x.trans x1)⟩
def tS(K:PF)(B:Bs)(w:ak->DH->En->Prop):TS:=λD X H=>∃Y F G,Ext B.H B.F H F/\EnvR K H F Y X/\R K H F G/\w Y G (EnD K H F D)
def psI{X:Cx}{st:Stmt}{t t':TS}(h:PS X st t)(i:∀D Y H,t' D Y H->t D Y H):PS X st t':=λp9 s Y H D I q=>h p9 s Y H D I (i D Y H q)
def Hq{X:Cx}{st:AF}{t t':TS}(h:PSs X st t)(i:∀D Y H,t' D Y H->t D Y H):PSs X st t':=λp9 s Y H D I q=>h p9 s Y H D I (i D Y H q)
def yo{e:AO}(h:dB e=false)(t:Option AO)(n:Nat)(env:Env):swapsWith e t n env=pure false:=by cases e <;> first |rfl |exact nomatch (show true=false from h)
def Hr{e:AO}(h:dB e=false)(t:AO)(n:Nat)(env:Env):swapsWithSole [t] e n env=pure false:=yo h _ _ _
section
variable {Z:aj} {CX:CXT} {k:Nat} {c:CT} {E:EK} {B:Bs} {X:Cx}
abbrev OkS(Z:aj)(c:CT)(E:EK)(B:Bs)(X:Cx)(x:Sx):Prop:=∀{st:Stmt},bJ c x st=true->PS X st (tS X.K B (wpS Z x E))
abbrev jM(Z:aj)(c:CT)(E:EK)(B:Bs)(X:Cx)(x:Sxs):Prop:=∀{st:AF},aD c x st=true->PSs X st (tS X.K B (az Z x E))
theorem YQ(S:Stat Z CX k c E B X){x:Ex}{st:Stmt}(h:bJ c (.exp x) st=true):PS X st (tS X.K B (wpS Z (.exp x) E)):=by
 replace h:=Xm h;obtain ⟨_,_,rfl,h⟩:=h
 .rw[ae]at h;refine psI (Qs (aB x S h.2) (yo (!!h.1) _ _ _)) λD W H hq=>el hq λY F G e0 he r hw=>?_;rw[wO]at hw;exact aN e0 he r hw λd G1 H1 F1 v q e1 x1 he1 r1 rv=>q _ _ _ x1 he1 r1
theorem YS(S:Stat Z CX k c E B X){i:Nat}{x:Ex}{st:Stmt}(h:bJ c (.asg (.nm i) x) st=true):PS X st (tS X.K B (wpS Z (.asg (.nm i) x) E)):=by
 replace h:=Gx h;obtain ⟨tg,e,pos,rfl,h⟩:=h
 .simp only[ae]at h;obtain ⟨⟨h1,h2⟩,h3⟩:=h;have h3:(!dB e||Fp x)=true:=h3;replace h1:=xY h1;obtain ⟨y,py,rfl,h1⟩:=h1
  .rw[ae,a9]at h1;obtain ⟨l,f⟩:=S.sto y h1.2;have hi:X.N[i]?=some y:=by rw[S.N];exact h1.1
   have go:∀(D:Ends)(W:L2.St)(H:Hp),tS X.K B (wpS Z (.asg (.nm i) x) E) D W H->jh (tE X.K B (wpE Z x E)) (jg i) D W H:=λD W H hq=>el hq λY F G e0 he r hw=>by
    rw[ik]at hw;refine aN e0 he r hw λd G1 H1 F1 v q e1 x1 he1 r1 rv=>?_;unfold aU at q;exact q _ _ _ x1 (he1.set rv i) r1
   cases hc:dB e with
   |false=>exact psI (qD S.nd hi l (aB x S h2) (yo hc _ _ _) f) go
   |true=>
    rw[hc,hW,Bool.false_or]at h3;cases x with
    |comp fz elt tg it cond N cap=>
     obtain ⟨elt',tg',iter,ifs,scope,pos',rfl,C⟩:=Hg h2;obtain ⟨s1,s2,s3,s4⟩:=jL S C.sc;have hb:∃b:Bool,swapsWith (.ListComp elt' [⟨tg',iter,ifs,0⟩] scope pos') (some (.Name y py)) pos.line X.env=pure b:=⟨_,rfl⟩;obtain ⟨b,hb⟩:=hb;cases b with
     |false=>exact psI (qD S.nd hi l (aB _ S h2) hb f) go
     |true=>
      refine psI (Cy (lim:=true) (Cp _ _ _ _ _ _) S.nd hi l (N.map Str.ofString) cap S.calm (iD it S C.it) (jK S.N C.cap) s1 s2 s3 s4 (iC C.it X.env) hb f) λD W H hq=>el hq λY F G e0 he r hw=>?_;rw[ik]at hw;rw[xf]at hw;refine Hf (fz:=fz) (Q:=λv H1=>D.nx (W.set i (some v)) H1) S C.nd (λS'=>aB elt S') (λS'=>eX cond S') C.tg C.cd C.el e0 he r (fY it (λitems g G1 q=>?_) hw);refine rJ (λd ρ' G' k1 k2 hk z=>dN (λρ1 z=>cV cond (λb G2 z=>by
       cases b with
       |true=>exact aH elt (λy G3 z=>hk _ _ _ z) z
       |false=>exact hk _ _ _ z) z) tg z) ?_ _ _ _ _ q
      .intro ds G2 q;refine cU (λd G3 q=>?_) q;intro H1 F1 v x1 r1 rv;unfold aU at q;exact q _ _ _ x1 ((he.ext x1).set rv i) r1
    |dcT a=>
     obtain ⟨x',pk,j,pv,px,iter,scope,pos',rfl,ha,hs,hx,hok⟩:=yc h2;obtain ⟨s1,s2,s3,s4⟩:=jL S hs;have hb:∃b:Bool,swapsWith (.DictComp (.Name x' pk) (.Constant (.bool true) j pv) [⟨.Name x' px,iter,[],0⟩] scope pos') (some (.Name y py)) pos.line X.env=pure b:=⟨_,rfl⟩;obtain ⟨b,hb⟩:=hb;cases b with
     |false=>exact psI (qD S.nd hi l (aB _ S h2) hb f) go
     |true=>
      refine psI (Vn S.nd hi l S.calm (by have:=d9 S;omega) (aB a S ha) s1 s2 s3 s4 hx (b7 hok) (ye (bR a ha) X.env) hb f) λD W H hq=>el hq λY F G e0 he r hw=>?_;rw[ik]at hw;rw[rF]at hw;refine aN e0 he r hw λd G1 H1 F1 v q e1 x1 he1 r1 rv=>Hk (k':=λd G'=>aU (.nm i) d Y G' λρ'=>(EnD X.K H F D).nx ρ' G') (Q:=λv H1=>D.nx (W.set i (some v)) H1) r1 rv q λd G' H2 F2 v z x2 r2 rv2=>?_;unfold aU at z;exact z _ _ _ (x1.trans x2) ((he1.ext x2).set rv2 i) r2
    |cm2 elt t1 i1 t2 i2 cond N cap=>
     obtain ⟨elt',a1,b1,a2,b2,ifs,scope,pos',rfl,c1,c2,c3,c4,c5,c6,c7,c8,c9⟩:=yd h2;obtain ⟨s1,s2,s3,s4⟩:=jL S c3;have hb:∃b:Bool,swapsWith (.ListComp elt' [⟨a1,b1,[],0⟩,⟨a2,b2,ifs,0⟩] scope pos') (some (.Name y py)) pos.line X.env=pure b:=⟨_,rfl⟩;obtain ⟨b,hb⟩:=hb;cases b with
     |false=>exact psI (qD S.nd hi l (aB _ S h2) hb f) go
     |true=>
      refine psI (Cy (lim:=false) (Cr _ _ _ _ _ _ _ _) S.nd hi l (N.map Str.ofString) cap S.calm (iD i1 S c1) (jK S.N c2) s1 s2 s3 s4 (iC c1 X.env) hb f) λD W H hq=>el hq λY F G e0 he r hw=>?_;rw[ik]at hw;refine Hm (Q:=λv H1=>D.nx (W.set i (some v)) H1) S c4 (λS'=>aB elt S') (λS'=>eX cond S') (λS'=>iD i2 S' c6) (iC c6) c5 c7 c8 c9 e0 he r (aH _ (λd G3 q=>?_) hw);intro H1 F1 v x1 r1 rv;unfold aU at q;exact q _ _ _ x1 ((he.ext x1).set rv i) r1
    |_=>cases h3
theorem YT(S:Stat Z CX k c E B X){ts:Tgs}{x:Ex}{st:Stmt}(h:bJ c (.asg (.tp ts) x) st=true):PS X st (tS X.K B (wpS Z (.asg (.tp ts) x) E)):=by
 replace h:=Gx h;obtain ⟨tg,e,pos,rfl,h⟩:=h
 .rw[ae,ae]at h;have h34:(!Fq e&&!dB e)=true:=h.2;obtain ⟨h1,h2⟩:=h.1;rw[ae,gT,gT]at h34;obtain ⟨h3,h4⟩:=h34;have hg:=jH S (.tp ts) h1;replace h1:=xZ h1;obtain ⟨_,_,_,rfl,h1⟩:=h1
  .refine psI (Am (aB x S h2) hg (Hr h4 _ _ _) ?_ rfl) λD W H hq=>el hq λY F G e0 he r hw=>?_
   .cases e <;> first |rfl |exact nomatch (show true=false from h3)
   .rw[ik]at hw;refine aN e0 he r hw λd G1 H1 F1 v q e1 x1 he1 r1 rv=>?_;exact ⟨Y,F1,G1,d,e1,he1,r1,rv,dN (λρ' z σ' hσ=>z H1 F1 σ' x1 hσ r1) (.tp ts) q⟩
theorem YW(S:Stat Z CX k c E B X){o i x:Ex}{st:Stmt}(h:bJ c (.set o i x) st=true):PS X st (tS X.K B (wpS Z (.set o i x) E)):=by
 replace h:=Xo h;obtain ⟨o',i',tpos,e,pos,rfl,h⟩:=h
 .simp only[ae,gT]at h;obtain ⟨⟨⟨h1,h2⟩,h3⟩,h4⟩:=h;have hi:=bR i h2;refine psI (Am (aB x S h3) (QL (aB o S h1) (aB i S h2) (WT (d9 S)) ?_) (Hr h4 _ _ _) ?_ rfl) λD W H hq=>el hq λY F G e0 he r hw=>?_
  .intro v;cases i' <;> first |rfl |exact nomatch (show false=true from hi)
  .cases e <;> rfl
  .rw[wQ]at hw;refine aN e0 he r hw λd G1 H1 F1 v q e1 x1 he1 r1 rv=>?_;refine aN e1 he1 r1 q λa G2 H2 F2 w q e2 x2 he2 r2 rw'=>?_;refine aN e2 he2 r2 q λy G3 H3 F3 u q e3 x3 he3 r3 ru=>?_;refine ⟨F3,G3,a,y,d,r3,rw'.ext x3,ru,rv.ext (x2.trans x3),Dz (λG4 q=>?_) q⟩;intro H4 F4 x4 r4;exact q _ _ _ (x1.trans (x2.trans (x3.trans x4))) (he3.ext x4) r4
theorem YX(S:Stat Z CX k c E B X){i:Nat}{op:Operator}{x:Ex}{st:Stmt}(h:bJ c (.aug i op x) st=true):PS X st (tS X.K B (wpS Z (.aug i op x) E)):=by
 replace h:=Xp h;obtain ⟨y,py,o,e,pos,rfl,h⟩:=h
 .simp only[ae,a9]at h;obtain ⟨⟨⟨⟨rfl,h1⟩,h2⟩,h3⟩,h4⟩:=h;obtain ⟨l,f⟩:=S.sto y h2;refine psI (QQ S.nd (by rw[S.N];exact h1) l (aB x S h4) (WX o) f) λD W H hq=>el hq λY F G e0 he r hw=>?_;rw[wR]at hw;split at hw
  .rename_i a ha;obtain ⟨v,e1,rv⟩:=he.get ha;refine ⟨v,e1,aN e0 he r hw λb G1 H1 F1 u q e1 x1 he1 r1 ru=>?_⟩;refine ⟨F1,G1,a,b,r1,rv.ext x1,ru,DG (λd q=>?_) q⟩;intro H2 F2 w x2 r2 rw';exact q _ _ _ (x1.trans x2) ((he1.ext x2).set rw' i) r2
  .exact hw.elim
theorem YZ(S:Stat Z CX k c E B X){x:Ex}{st:Stmt}(h:bJ c (.ret x) st=true):PS X st (tS X.K B (wpS Z (.ret x) E)):=by
 replace h:=Xq h;obtain ⟨_,_,rfl,h⟩:=h
 .refine psI (Qt (aB x S h)) λD W H hq=>el hq λY F G e0 he r hw=>?_;rw[wU]at hw;exact ⟨Y,F,G,e0,he,r,hw⟩
theorem Y0{st:Stmt}(h:bJ c .rtn st=true):PS X st (tS X.K B (wpS Z .rtn E)):=by
 replace h:=Xr h;obtain ⟨_,rfl,h⟩:=h
 .refine psI Qv λD W H hq=>el hq λY F G e0 he r hw=>?_;rw[wV]at hw;exact hw.now r rfl
theorem Y4(S:Stat Z CX k c E B X){t:Tx}{a b:Sxs}(iha:jM Z c E B X a)(ihb:jM Z c E B X b){st:Stmt}(h:bJ c (.ite t a b) st=true):PS X st (tS X.K B (wpS Z (.ite t a b) E)):=by
 replace h:=Xu h;obtain ⟨_,_,_,_,rfl,h⟩:=h
 .simp only[ae]at h;obtain ⟨⟨h1,h2⟩,h3⟩:=h;refine psI (Qx (eX t S h1) (iha h2) (ihb h3)) λD W H hq=>el hq λY F G e0 he r hw=>?_;rw[wW]at hw;refine gJ e0 he r hw λb' G1 H1 F1 q e1 x1 he1 r1=>?_;cases b' with
  |true=>
   rw[if_pos rfl];exact ⟨Y,F1,G1,e1,he1,r1,dz a (EnD.later x1) q⟩
  |false=>
   rw[if_neg br];exact ⟨Y,F1,G1,e1,he1,r1,dz b (EnD.later x1) q⟩
theorem Y5(S:Stat Z CX k c E B X){t:Tg}{it:It'}{b:Sxs}(ihb:jM Z c E B X b){st:Stmt}(h:bJ c (.for_ t it b) st=true):PS X st (tS X.K B (wpS Z (.for_ t it b) E)):=by
 replace h:=Xv h;obtain ⟨tg,iter,body,pos,rfl,h⟩:=h
 .simp only[ae]at h;obtain ⟨⟨h1,h2⟩,h3⟩:=h;refine psI (Q0 S.own S.calm (iD it S h2) (jH S t h1) (ihb h3) (iC h2 X.env)) λD V H hq=>el hq λY F G e0 he r hw=>?_;rw[Dm]at hw;refine ⟨Y,F,G,e0,he,r,fY it (λitems g G1 q H1 F1 J x1 r1 W=>?_) hw⟩;let step:RF.D->ak->DH->(ak->DH->Prop)->Prop:=λd ρ' G' k=>aU t d ρ' G' λρ1=>az Z b E ρ1 G' { EnD X.K H F D with nx:=k,ct:=k,bk:=(EnD X.K H F D).nx }
  let P:Nat->L2.St->Hp->Prop:=λi σ' H'=>∃ρ' F' G',Ext B.H B.F H' F'/\Ext H1 F1 H' F'/\EnvR X.K H' F' ρ' σ'/\R X.K H' F' G'/\forLoop step g (items.drop i) ρ' G' (EnD X.K H F D).nx
  refine ⟨λi m σ' H'=>m=items.length - i/\i<=items.length/\P i σ' H',⟨items.length,by simp,cr _,Y,F1,G1,e0.trans x1,Ext.refl _ _,he.ext x1,r1,q⟩,?_⟩;rintro i m σ' H' ⟨rfl,hle,ρ',F',G',eB,e1,he',r',hl⟩;by_cases hlt:i < items.length
  .have hd:items.drop i=items[i]::items.drop (i+1):=bo hlt;rw[hd]at hl;obtain ⟨hh,hl⟩:=hl;refine .inr ⟨W.go H' F' G' i e1 r' hh hlt,P (i+1),λσ2 H2 p=>⟨items.length - (i+1),!0,rfl,hlt,p⟩,λx H2 hy=>?_⟩;obtain ⟨xy,ry,rx⟩:=W.yld H' F' i x H2 items[i] G' e1 r' hh (by simp[hlt]) hy;refine ⟨ρ',F',G',items[i],eB.trans xy,he'.ext xy,ry,rx,dN (λρ1 z σ1 hσ1=>?_) t hl⟩;refine ⟨ρ1,F',G',eB.trans xy,hσ1,ry,dz b (D:={ EnD X.K H F D with nx:=λρ' G'=>forLoop step g (items.drop (i+1)) ρ' G' (EnD X.K H F D).nx,ct:=λρ' G'=>forLoop step g (items.drop (i+1)) ρ' G' (EnD X.K H F D).nx,bk:=(EnD X.K H F D).nx }) ⟨λρ2 G2 z H3 F3 σ3 x3 he3 r3=>?_,λd G2 z=>PV.later z (x1.trans (e1.trans xy)),λρ2 G2 z H3 F3 σ3 x3=>z H3 F3 σ3 (x1.trans (e1.trans (xy.trans x3))),λρ2 G2 z H3 F3 σ3 x3 he3 r3=>?_⟩ z⟩
   .exact ⟨ρ2,F3,G2,eB.trans (xy.trans x3),e1.trans (xy.trans x3),he3,r3,z⟩
   .exact ⟨ρ2,F3,G2,eB.trans (xy.trans x3),e1.trans (xy.trans x3),he3,r3,z⟩
  .have hi':i=items.length:=by omega
   subst hi';rw[e7]at hl;exact .inl ⟨W.stop H' F' G' e1 r' hl.1,hl.2 _ _ _ (x1.trans e1) he' r'⟩
theorem Y6(S:Stat Z CX k c E B X){t:Tx}{b:Sxs}(ihb:jM Z c E B X b){st:Stmt}(h:bJ c (.whl t b) st=true):PS X st (tS X.K B (wpS Z (.whl t b) E)):=by
 replace h:=Xw h;obtain ⟨_,_,_,rfl,h⟩:=h
 .simp only[ae]at h;obtain ⟨h1,h2⟩:=h;refine psI (QS S.own (eX t S h1) (ihb h2)) λD W H hq=>el hq λY F G e0 he r hw=>?_;rw[Do]at hw;obtain ⟨n,hw⟩:=hw;let test:ak->DH->(Bool->DH->Prop)->Prop:=λρ' G' k=>wpT Z t E ρ' G' k
  let bd:ak->DH->(ak->DH->Prop)->Prop:=λρ' G' k=>az Z b E ρ' G' { EnD X.K H F D with nx:=k,ct:=k,bk:=(EnD X.K H F D).nx }
  let P:Nat->L2.St->Hp->Prop:=λm σ' H'=>∃ρ' F' G',Ext B.H B.F H' F'/\Ext H F H' F'/\EnvR X.K H' F' ρ' σ'/\R X.K H' F' G'/\whileLoop test bd m ρ' G' (EnD X.K H F D).nx
  refine ⟨P,⟨n,Y,F,G,e0,Ext.refl _ _,he,r,hw⟩,?_⟩;rintro m σ' H' ⟨ρ',F',G',eB,e1,he',r',hl⟩;cases m with
  |zero=>exact hl.elim
  |succ m=>
   refine gJ eB he' r' hl λb' G1 H1 F1 q e2 x2 he2 r2=>?_;cases b' with
   |true=>
    rw[if_pos rfl];refine ⟨P m,λσ2 H2 p=>⟨m,Nat.lt_succ_self _,p⟩,ρ',F1,G1,e2,he2,r2,dz b (D:={ EnD X.K H F D with nx:=λρ' G'=>whileLoop test bd m ρ' G' (EnD X.K H F D).nx,ct:=λρ' G'=>whileLoop test bd m ρ' G' (EnD X.K H F D).nx,bk:=(EnD X.K H F D).nx }) ⟨λρ2 G2 z H3 F3 σ3 x3 he3 r3=>?_,λd G2 z=>PV.later z (e1.trans x2),λρ2 G2 z H3 F3 σ3 x3=>z H3 F3 σ3 (e1.trans (x2.trans x3)),λρ2 G2 z H3 F3 σ3 x3 he3 r3=>?_⟩ q⟩
    .exact ⟨ρ2,F3,G2,e2.trans x3,e1.trans (x2.trans x3),he3,r3,z⟩
    .exact ⟨ρ2,F3,G2,e2.trans x3,e1.trans (x2.trans x3),he3,r3,z⟩
   |false=>
    rw[if_neg br];exact q _ _ _ (e1.trans x2) he2 r2
theorem Y7{st:AF}(h:aD c .nil st=true):PSs X st (tS X.K B (az Z .nil E)):=by
 unfold aD at h;cases st with
 |nil=>exact Hq Qj λD W H hq=>el hq λY F G e0 he r hw=>by rw[lA]at hw;exact hw _ _ _ (Ext.refl _ _) he r
 |cons _ _=>cases h
theorem Y8{x:Sx}{xs:Sxs}(ih:OkS Z c E B X x)(ihs:jM Z c E B X xs){st:AF}(h:aD c (.cons x xs) st=true):PSs X st (tS X.K B (az Z (.cons x xs) E)):=by
 unfold aD at h;split at h
 .rw[ae]at h;refine Hq (Qk (ih h.1) (ihs h.2)) λD W H hq=>el hq λY F G e0 he r hw=>?_;rw[lB]at hw;refine ⟨Y,F,G,e0,he,r,wpS_mono x (D:={ EnD X.K H F D with nx:=λρ' G'=>az Z xs E ρ' G' (EnD X.K H F D) }) ⟨λρ1 G1 q H1 F1 σ1 x1 he1 r1=>?_,λ_ _ z=>z,λ_ _ z=>z,λ_ _ z=>z⟩ hw⟩;exact ⟨ρ1,F1,G1,e0.trans x1,he1,r1,dz xs (EnD.later x1) q⟩
 .cases h
end
mutual
theorem Y9{Z:aj}{CX:CXT}{k:Nat}{B:Bs}{c:CT}{E:EK}{X:Cx}(S:Stat Z CX k c E B X):∀(x:Sx),OkS Z c E B X x
 |.exp e=>λh=>YQ S h
 |.asg (.nm i) e=>λh=>YS S h
 |.asg (.tp ts) e=>λh=>YT S h
 |.set o i e=>λh=>YW S h
 |.aug i op e=>λh=>YX S h
 |.ret e=>λh=>YZ S h
 |.rtn=>λh=>Y0 h
 |.ite t a b=>λh=>Y4 S (jN S a) (jN S b) h
 |.for_ t it b=>λh=>Y5 S (jN S b) h
 |.whl t b=>λh=>Y6 S (jN S b) h
 |.pas=>by
  intro h;obtain ⟨_,rfl,_⟩:=Xx h;exact psI Qn λD W H hq=>el hq λY F G e0 he r hw=>by rw[wX]at hw;exact hw _ _ _ (Ext.refl _ _) he r
 |.brk=>by
  intro h;obtain ⟨_,rfl,_⟩:=Xy h;exact psI Qo λD W H hq=>el hq λY F G e0 he r hw=>by rw[wY]at hw;exact hw _ _ _ (Ext.refl _ _) he r
 |.cnt=>by
  intro h;obtain ⟨_,rfl,_⟩:=Xz h;exact psI Qp λD W H hq=>el hq λY F G e0 he r hw=>by rw[wZ]at hw;exact hw _ _ _ (Ext.refl _ _) he r
 |.nev=>by
  intro h;exact psI Qz λD W H hq=>el hq λY F G e0 he r hw=>by rw[w5]at hw;exact hw.elim
theorem jN{Z:aj}{CX:CXT}{k:Nat}{B:Bs}{c:CT}{E:EK}{X:Cx}(S:Stat Z CX k c E B X):∀(x:Sxs),jM Z c E B X x
 |.nil=>λh=>Y7 h
 |.cons s r=>λh=>Y8 (Y9 S s) (jN S r) h
end
end RF
namespace L2
open PySem PySem.Spec PyProof.Rows
def Fun.okX{P:AK}{w:World}{K:PF}{mg:AH}{base:Heap}{CX:CXT}{x qual:Str}{st:Stmt}{f:AQ}{fd:AJ}{N ps:AD}{k:Nat}{sp:Sp}(F:Fun K x qual st f fd)(S:FnScope N ps (ao st))(len:∀vs H Q E,sp vs H Q E->vs.length=ps.length)
  (hbody:∀(cdv:AN)(A:AM)(outer:List Env)(s:AI)(H:Hp)(vs:AR)(Q:VK)(E:XK),Room k (A.deeper (envOfC qual (ao st) (~~~s) f cdv))->sp vs H Q E->
   ∃t,PSs (dH CX P w K mg base N qual (ao st) f cdv A outer s H E) (aG st) t/\t { nx:=λ_ H'=>Q .non H',rt:=Q } (start N vs) H):FnOk P w K mg base CX (k+1) f fd ps sp:=by
 obtain ⟨oc,od,kV,doc,pm,an,cdv,ct,osl,rfl,lk,hcd⟩:=F.ex;exact RK lk hcd S len λA outer s H vs Q E hr hsp=>hbody cdv A outer s H vs Q E hr hsp
def FnOk.cx{P:AK}{w:World}{K:PF}{mg:AH}{base:Heap}{k:Nat}{CX:CXT}{f:AQ}{fd:AJ}{ps:AD}{sp:Sp}(F:FnOk P w K mg base CX0 k f fd ps sp):FnOk P w K mg base CX k f fd ps sp:=
 ⟨F.len,λA outer s H args us vs Q E hr he hb hv hs=>codeAny_mono (F.run A outer s H args us vs Q E hr he hb hv hs) λr s' hq=>by
  cases r with
  |error e=>exact False.elim hq
  |ok fl=>cases fl <;> exact hq⟩
end L2
namespace RF
open PySem PySem.Spec PyProof.Rows L2
def fnB(N ps:AD)(sc:Scope):Bool:=
 decide (sc.kind=.function)&&!sc.isCoroutine&&!sc.isGenerator&&dm N&&(N.take ps.length==ps)&&ps.all (λx=>sc.names.lookup x==some .local||sc.names.lookup x==some .cell)&&sc.names.all (λy=>y.2 != .free)
def Hs{N ps:AD}{sc:Scope}(h:fnB N ps sc=true):FnScope N ps sc:=by unfold fnB at h;simp only[ae,gT,ck,a9,bP,dP,bne_iff_ne]at h;obtain ⟨⟨⟨⟨⟨⟨h1,h2⟩,h3⟩,h4⟩,h5⟩,h6⟩,h7⟩:=h;exact ⟨h1,h2,h3,ym h4,h5,h6,λy hy=>h7 y hy⟩
structure Bse(Z:aj)(P:AK)(w:World)(K:PF)(mg:AH)(base:Heap)(CX:CXT)(k:Nat)(fs:List (AL×Nat))(bt:List AL)(cn:List (AL×D))(xs:List (AL×Bool))(ot:OT):Prop where
 call:∀f n,(f,n)∈fs->∃fa fd ps,FnOk P w K mg base CX k fa fd ps (lift K n (Z f))/\PySem.W.keepIn K (.ref fa)=true/\Binds K fd ps []/\mg (⇑f)=some (.ref fa)
 blt:∀f,f∈bt->mg (⇑f)=none
 con:∀x d,(x,d)∈cn->∃u v,mg (⇑x)=some u/\RelV v u/\∀H F,Rep K H F d v
 xcl:∀C,xs.contains (C,true)=true->∃a,mg (⇑C)=some (.ref a)/\qM K a=true/\PySem.W.nsIn K mainGlobals (⇑C)=some (some (.ref a))
 xis:∀C',xs.contains (C',false)=true->∃cv,CV K mg C' cv/\∀C,xs.contains (C,true)=true->XI K C C' cv
 mth:∀f C m n,(f,C,m,n)∈ot.ms->MthOk Z P w K mg base CX k f C m n
 mko:∀C n,(C,n)∈ot.ks->MkoOk Z P w K mg base CX k C n
 fld:∀C f,(C,f)∈ot.fl->Gz K C f
 xko:∀C f,(C,f)∈ot.xk->XkoX P w K mg base CX k xs C f
def aK(N:AD)(sc:Scope)(fs:List (AL×Nat))(bt:List AL)(cn:List (AL×D))(xs:List (AL×Bool))(ot:OT):CT:={ N:=N,kd:=sc.names,fn:=true,fs:=fs,bt:=bt,cn:=cn,xs:=xs,ot:=ot }
section
variable {Z:aj} {P:AK} {w:World} {K:PF} {mg:AH} {base:Heap} {k:Nat} {fs:List (AL×Nat)} {bt:List AL} {cn:List (AL×D)} {xs:List (AL×Bool)} {ot:OT}
theorem Za{N ps:AD}{sc:Scope}{qual:Str}{f:AQ}{cdv:AN}{A:AM}{outer:List Env}{s:AI}{H:Hp}{EX:XK}{B:Bs}(T:Bse Z P w K mg base (CX1 P w) k fs bt cn xs ot)(hs:fnB N ps sc=true)
  (hr:Room k (A.deeper (envOfC qual sc (~~~s) f cdv))):Stat Z (CX1 P w) k (aK N sc fs bt cn xs ot) noE B (dH (CX1 P w) P w K mg base N qual sc f cdv A outer s H EX).nox where
 N:=rfl
 nd:=(Hs hs).nd
 calm:=rfl
 own:=PassesOwn.never
 kd:=rfl
 vis:=λx h=>by
  have h:iw (sc.names.lookup x)=true:=h;show sc.names.lookup x=_\/sc.names.lookup x=_\/sc.names.lookup x=_;unfold iw at h;split at h <;> first | (cases h;done) |simp_all
 cel:=λx h=>h
 glo:=λx h=>h
 sto:=λx h=>by
  have h:(sc.names.lookup x==some .local||(true&&sc.names.lookup x==some .cell))=true:=h;rw[hV,dP,a9,a9]at h;exact ⟨h,.inl rfl⟩
 room:=hr
 call:=T.call
 blt:=T.blt
 con:=T.con
 exc:=⟨_,Ca _,λ_ _ _ _ _ _ _ _ _ _ q=>q.elim,λ_ _ _ _ h=>h.elim⟩
 nox:=λY=>Ca Y
 xcl:=T.xcl
 loc:=λx h=>h
 xis:=T.xis
 mth:=T.mth
 mko:=T.mko
 fld:=T.fld
 xko:=T.xko
 trc:=λ_=>⟨rfl,rfl,rfl⟩
theorem Zb{outer:List Env}{H:Hp}{s s':AI}{e:AN}(h:CX1 P w outer H s (λ_ _ _=>False) e s'):False:=by obtain ⟨_,_,_,_,_,_,_,_,_,q⟩:=h;exact q
def ends(Q:AT):En:={ nx:=λ_ G=>Q .non G,rt:=Q,bk:=λ_ _=>False,ct:=λ_ _=>False }
def env0(ds:AS)(n:Nat):ak:=ds.map some++List.replicate n none
theorem tQ{x qual:Str}{st:Stmt}{f:AQ}{fd:AJ}(Fu:Fun K x qual st f fd)(T:Bse Z P w K mg base (CX1 P w) k fs bt cn xs ot){N ps:AD}{body:Sxs}(S:RF.Spec)(n m:Nat)(hs:fnB N ps (ao st)=true)
  (hc:aD (aK N (ao st) fs bt cn xs ot) body (aG st)=true) (hn:ps.length=n) (hm:N.length=n+m)
  (hw:∀ds G a,ds.length=n->S.pre ds G a->az Z body noE (env0 ds m) G (ends (S.post a))):FnOk P w K mg base (CX1 P w) (k+1) f fd ps (lift K n S):=by
 refine Fu.okX (Hs hs) (λvs H Q E h=>by rw[hn];exact h.1) λcdv A outer s H vs Q EX hr hsp=>?_;obtain ⟨hl,F,G,ds,r,rs,a,h1,h2,h3⟩:=hsp;have St:Stat Z (CX1 P w) k (aK N (ao st) fs bt cn xs ot) noE ⟨H,F⟩ (dH (CX1 P w) P w K mg base N qual (ao st) f cdv A outer s H EX).nox:=Za T hs hr;refine ⟨_,(jN St body hc).nox,?_⟩;refine ⟨env0 ds m,F,G,Ext.refl _ _,?_,r,dz body (D:=ends (S.post a)) ⟨λY G' q=>?_,λd G' q=>h2 d G' q,λ_ _ q=>False.elim q,λ_ _ q=>False.elim q⟩ (hw ds G a (by rw[rs.length];exact hl) h1)⟩
 .unfold L2.start;rw[show N.length - vs.length=m by omega];exact EnvR.start m rs
 .intro H' F' σ' x1 _ r1;exact h2 .non G' q H' F' .non x1 r1 rfl
end
def bL(pre:AS->DH->Prop)(post:AS->DH->D->DH->Prop):RF.Spec where
 A:=AS×DH
 pre:=λds G a=>a=(ds,G)/\pre ds G
 post:=λa d G'=>post a.1 a.2 d G'
 exc:=λ_ _ _=>False
def cC{pre:AS->DH->Prop}{post:AS->DH->D->DH->Prop}{ds:AS}{G:DH}{k:AT}{E:EK}(h:pre ds G)(hk:∀d G',post ds G d G'->k d G'):(bL pre post).t ds G k E:=
 ⟨(ds,G),⟨rfl,h⟩,hk,λ_ _ z=>z.elim⟩
def cI{Z:aj}{body:Sxs}{m n:Nat}{pre:AS->DH->Prop}{post:AS->DH->D->DH->Prop}(h:∀ds G,pre ds G->az Z body noE (env0 ds m) G (ends (post ds G))):
  ∀ds G a,ds.length=n->(bL pre post).pre ds G a->az Z body noE (env0 ds m) G (ends ((bL pre post).post a)):=by
 rintro ds G a _ ⟨rfl,h1⟩;exact h ds G h1
def aY(f:AS->Option D):RF.Spec:=bL (λds _=>(f ds).isSome=true) (λds G d G'=>G'=G/\f ds=some d)
def dR{f:AS->Option D}{ds:AS}{d:D}{G:DH}{k:AT}{E:EK}(h:f ds=some d)(hk:k d G):(aY f).t ds G k E:=
 cC (by rw[h];rfl) λd' G' ⟨e1,e2⟩=>by rw[h]at e2;cases e2;rw[e1];exact hk
def jO{Z:aj}{body:Sxs}{m n:Nat}{f:AS->Option D}(h:∀ds G d,f ds=some d->az Z body noE (env0 ds m) G (ends λd' G'=>G'=G/\d'=d)):
  ∀ds G a,ds.length=n->(aY f).pre ds G a->az Z body noE (env0 ds m) G (ends ((aY f).post a)):=by
 refine cI λds G hf=>?_;obtain ⟨d,e⟩:=cm.mp hf;refine dz body (D:=ends λd' G'=>G'=G/\d'=d) ⟨λY G' q=>?_,λd' G' q=>?_,λ_ _ q=>q,λ_ _ q=>q⟩ (h ds G d e)
 .exact ⟨q.1,by rw[e];exact eT some q.2.symm⟩
 .exact ⟨q.1,by rw[e];exact eT some q.2.symm⟩
def Zc{step:D->ak->DH->(ak->DH->Prop)->Prop}{g:Hld}{items:AS}{Y:ak}{G:DH}{k:ak->DH->Prop}(P:Nat->ak->DH->Prop)(h0:P 0 Y G)(hh:∀i Y G,P i Y G->held g G)
  (hs:∀i d Y G,items[i]?=some d->P i Y G->∀kk:ak->DH->Prop,(∀ρ' G',P (i+1) ρ' G'->kk ρ' G')->step d Y G kk) (he:∀Y G,P items.length Y G->k Y G):forLoop step g items Y G k:=by
 have go:∀(l:AS)(i:Nat)(Y:ak)(G:DH),items.drop i=l->i<=items.length->P i Y G->forLoop step g l Y G k:=by
  intro l;induction l with
  |nil=>
   intro i Y G e hi p;have:i=items.length:=by have:=eT List.length e;rw[eM]at this;simp at this;omega
   subst this;exact ⟨hh _ _ _ p,he _ _ p⟩
  |cons d l ih=>
   intro i Y G e hi p;have hl:i < items.length:=by
    by_cases h:i < items.length
    .exact h
    .rw[List.drop_eq_nil_of_le (!0)]at e;cases e
   rw[bo hl]at e;injection e with e1 e2;refine ⟨hh _ _ _ p,hs i d Y G (by rw[ai hl,e1]) p _ λρ' G' p'=>ih (i+1) ρ' G' e2 hl p'⟩
 exact go _ 0 Y G (by simp) (cr _) h0
def Ht{step:D->ak->DH->(Option D->ak->DH->Prop)->Prop}{g:Hld}{items acc:AS}{Y:ak}{G:DH}{k:AS->DH->Prop}(P:Nat->AS->ak->DH->Prop)(h0:P 0 acc Y G)(hh:∀i acc Y G,P i acc Y G->held g G)
  (hl:acc.length+items.length<=sz)
  (hs:∀i d acc Y G,items[i]?=some d->P i acc Y G->∀kk:Option D->ak->DH->Prop,(∀o ρ' G',P (i+1) (acc++o.toList) ρ' G'->kk o ρ' G')->step d Y G kk) (he:∀acc Y G,P items.length acc Y G->k acc G):compLoop step g items acc Y G k:=by
 have go:∀(l:AS)(i:Nat)(acc:AS)(Y:ak)(G:DH),items.drop i=l->i<=items.length->acc.length+l.length<=sz->P i acc Y G->compLoop step g l acc Y G k:=by
  intro l;induction l with
  |nil=>
   intro i acc Y G e hi ha p;have:i=items.length:=by have:=eT List.length e;rw[eM]at this;simp at this;omega
   subst this;exact ⟨hh _ _ _ _ p,!!ha,he _ _ _ p⟩
  |cons d l ih=>
   intro i acc Y G e hi ha p;have hl:i < items.length:=by
    by_cases h:i < items.length
    .exact h
    .rw[List.drop_eq_nil_of_le (!0)]at e;cases e
   rw[bo hl]at e;injection e with e1 e2;have ha':acc.length+(l.length+1)<=sz:=ha;refine ⟨hh _ _ _ _ p,!0,hs i d acc Y G (by rw[ai hl,e1]) p _ λo ρ' G' p'=>?_⟩;cases o with
   |some y=>exact ih (i+1) (acc++[y]) ρ' G' e2 hl (by rw[aw];simp;omega) p'
   |none=>exact ih (i+1) acc ρ' G' e2 hl (!0) (!!p')
 exact go _ 0 acc Y G (by simp) (cr _) hl h0
def Zd{step:D->ak->DH->(Option D->ak->DH->Prop)->Prop}{items:AS}{Y:ak}{G:DH}{k:AS->DH->Prop}(g:Hld)(f:D->Option D)(I:ak->Prop)(h0:I Y)(hg:held g G)(hl:items.length<=sz)
  (hs:∀d Y,d∈items->I Y->∀kk:Option D->ak->DH->Prop,(∀ρ',I ρ'->kk (f d) ρ' G)->step d Y G kk) (he:k (items.filterMap f) G):compLoop step g items [] Y G k:=by
 refine Ht (λi acc ρ' G'=>I ρ'/\G'=G/\acc=(items.take i).filterMap f) ⟨h0,rfl,rfl⟩ (λi acc ρ' G' p=>by rw[p.2.1];exact hg) (!!hl) ?_ ?_
 .rintro i d acc ρ' G' hd ⟨p1,rfl,rfl⟩ kk hk;refine hs d ρ' (cw hd) p1 kk λρ2 i2=>hk _ _ _ ⟨i2,rfl,?_⟩;rw[gI,hd,List.filterMap_append];congr 1
 .rintro acc ρ' G' ⟨_,rfl,rfl⟩;rw[g6];exact he
def Ze{step:D->ak->DH->(Option D->ak->DH->Prop)->Prop}{items:AS}{Y:ak}{G:DH}{k:AS->DH->Prop}(g:Hld)(f:D->D)(I:ak->Prop)(h0:I Y)(hg:held g G)(hl:items.length<=sz)
  (hs:∀d Y,d∈items->I Y->∀kk:Option D->ak->DH->Prop,(∀ρ',I ρ'->kk (some (f d)) ρ' G)->step d Y G kk) (he:k (items.map f) G):compLoop step g items [] Y G k:=
 Zd g (λd=>some (f d)) I h0 hg hl hs (by rw[<-List.filterMap_eq_map]at he;exact he)
def lW{α:Type}(f:α->Bool):∀l:List α,bools (l.map λx=>D.bl (f x))=some (l.map f)
 |[]=>rfl
 |x::l=>by simp[bools,lW f l]
def strs_map{α:Type}(f:α->AA):∀l:List α,bw (l.map λx=>D.str (f x))=some (l.map f)
 |[]=>rfl
 |x::l=>by simp[bw,strs_map f l]
def Hu:∀l:List (AA),dX [] l=l.flatten
 |[]=>rfl
 |[x]=>by simp[dX]
 |x::y::r=>by simp[dX,Hu (y::r)]
def Sa(G G':DH):Prop:=∀b o,G b=some o->G' b=some o
def Sb(p:AQ)(G G':DH):Prop:=∀b o,G b=some o->b≠p->G' b=some o
def Sb.refl(p:AQ)(G:DH):Sb p G G:=λ_ _ h _=>h
def Sa.trans{G G1 G2:DH}(a:Sa G G1)(b:Sa G1 G2):Sa G G2:=λc o h=>b c o (a c o h)
def Sb.trans{p:AQ}{G G1 G2:DH}(a:Sb p G G1)(b:Sb p G1 G2):Sb p G G2:=λc o h n=>b c o (a c o h n) n
def Sa.sb{p:AQ}{G G':DH}(a:Sa G G'):Sb p G G':=λc o h _=>a c o h
def Sa.new{G:DH}{p:AQ}{o:DO}(h:G p=none):Sa G (aL G p o):=λb u e=>by rw[bY (qR e h)];exact e
def Sb.upd{G:DH}{p:AQ}{o:DO}:Sb p G (aL G p o):=λb u e n=>by rw[bY n];exact e
def Sa.then{p:AQ}{G G1 G2:DH}(a:Sa G G1)(hp:G p=none)(b:Sb p G1 G2):Sa G G2:=λc o h=>b c o (a c o h) (qR h hp)
def Sa.frz{G G1:DH}{p:AQ}(a:Sa G G1)(hp:G p=none):Sa G (gk G1 p):=λc o h=>by rw[lq (qR h hp)];exact a c o h
def Zf{α:Type}{a:α}{l:List α}:atI (a::l) 0=some a:=cz (j:=0) rfl
def Zg{α:Type}{a b:α}{l:List α}:atI (a::b::l) 1=some b:=cz (j:=1) rfl
def Zh{α:Type}{a b c:α}{l:List α}:atI (a::b::c::l) 2=some c:=cz (j:=2) rfl
def Zi{α:Type}{a b c d:α}{l:List α}:atI (a::b::c::d::l) 3=some d:=cz (j:=3) rfl
def Zj{n j:Nat}(h:j < n):ixN n (j:Int)=some j:=by unfold ixN;rw[if_pos (!0),if_pos (!0)];simp
def Zk{n:Nat}:ixN (n+1) 0=some 0:=by unfold ixN;rw[if_pos (!0),if_pos (!0)];rfl
def Zm{n:Nat}:ixN (n+2) 1=some 1:=by unfold ixN;rw[if_pos (!0),if_pos (!0)];rfl
def Zn{n:Nat}:ixN (n+3) 2=some 2:=by unfold ixN;rw[if_pos (!0),if_pos (!0)];rfl
def Zo{α:Type}{xs:List α}{i:Int}(h0:0<=i)(h1:i < xs.length):∃a,atI xs i=some a/\a∈xs:=by
 obtain ⟨n,rfl⟩:=ci h0;have hn:n < xs.length:=by omega
 exact ⟨xs[n],cz (by simp[hn]),cp _⟩
def Hv{α:Type}(xs:List α)(lo hi:Option Int):(cut xs lo hi).length<=xs.length:=by unfold cut;rw[eL,eM];omega
def Zq{l:AS}:cg l []=l.isEmpty:=by cases l <;> rfl
def yp{α:Type}(l:List α)(n:Nat):cut l none (some (n:Int))=l.take n:=by
 unfold cut;rw[show HT.sIx l.length 0 none=0 from rfl,HT.Bg,List.drop_zero,Nat.sub_zero];by_cases h:n<=l.length
 .rw[Nat.min_eq_left h]
 .rw[g0 (!0),gE (ax _),gE (!0)]
def Hw{α:Type}(l:List α)(n:Nat):cut l (some (n:Int)) none=l.drop n:=by
 unfold cut;rw[show HT.sIx l.length l.length none=l.length from rfl,HT.Bg];by_cases h:n<=l.length
 .rw[Nat.min_eq_left h,gE (by rw[eM];exact ax _)]
 .rw[g0 (!0),Nat.sub_self,List.take_zero,List.drop_eq_nil_of_le (!0)]
def Hx{α:Type}(l:List α)(n:Nat):cut l (some ((n:Int)+1)) none=l.drop (n+1):=Hw l (n+1)
def Zr{α:Type}{motive:List α->Prop}(l:List α)(nil:motive [])(snoc:∀(l:List α)(a:α),motive l->motive (l++[a])):motive l:=by
 have go:∀(n:Nat)(l:List α),l.length=n->motive l:=by
  intro n;induction n with
  |zero=>intro l h;rw[cS.mp h];exact nil
  |succ n ih=>
   intro l h;have hne:l≠[]:=by rintro rfl;simp at h
   rw[<-fE hne];exact snoc _ _ (ih _ (by rw[List.length_dropLast];omega))
 exact go _ l rfl
section
variable {G:DH} {k:AT} {fz:Bool} {kb:Bool->Prop} {kd:D->Prop} {p:AQ}
theorem Zt{i j:Int}:cT .Add fz (.int i) (.int j) G k=k (.int (i+j)) G:=rfl
theorem Zu{x y:AA}:cT .Add fz (.str x) (.str y) G k=(x.length+y.length<=sz/\k (.str (x++y)) G):=rfl
theorem Zv{x y:AS}:cT .Add fz (.lst x) (.lst y) G k=(x.length+y.length<=sz/\mk fz (x++y) G k):=rfl
theorem Zw{x y:AS}:cT .Add fz (.tup x) (.tup y) G k=(x.length+y.length<=sz/\k (.tup (x++y)) G):=rfl
theorem Zx{i j:Int}:cT .Sub fz (.int i) (.int j) G k=k (.int (i - j)) G:=rfl
theorem Zy{i j:Int}:cT .Mult fz (.int i) (.int j) G k=(CMul i j/\k (.int (i * j)) G):=rfl
theorem Zz{x:AA}{n:Int}:cT .Mult fz (.str x) (.int n) G k=(0<=n/\n<=1000/\x.length * n.toNat<=sz/\k (.str (reps x n.toNat)) G):=rfl
theorem ZC{i j:Int}:cT .FloorDiv fz (.int i) (.int j) G k=((0 < j/\j < 1152921504606846976)/\k (.int (i / j)) G):=rfl
theorem ZD{i j:Int}:cT .Mod fz (.int i) (.int j) G k=(0 < j/\k (.int (i % j)) G):=rfl
theorem ZF{i j:Int}:cT .Pow fz (.int i) (.int j) G k=(qH i j/\k (.int (i ^ j.toNat)) G):=rfl
def eY:D->Bool
 |.non=>true
 |_=>false
theorem ZG{a b:D}:aX .Eq a b kb=((nr a=true/\nr b=true/\min (dpt a) (dpt b)<=60)/\kb (deq a b)):=rfl
theorem ZJ{a b:D}:aX .NotEq a b kb=((nr a=true/\nr b=true/\min (dpt a) (dpt b)<=60)/\kb (!deq a b)):=rfl
theorem ZK{i j:Int}:aX .Lt (.int i) (.int j) kb=kb (decide (i < j)):=rfl
theorem ZL{i j:Int}:aX .LtE (.int i) (.int j) kb=kb (decide (i<=j)):=rfl
theorem ZM{i j:Int}:aX .Gt (.int i) (.int j) kb=kb (decide (j < i)):=rfl
theorem ZP{i j:Int}:aX .GtE (.int i) (.int j) kb=kb (decide (j<=i)):=rfl
theorem ZQ{i j:AA}:aX .Lt (.str i) (.str j) kb=kb (decide (i < j)):=rfl
theorem ZR{i j:AA}:aX .LtE (.str i) (.str j) kb=kb (!decide (j < i)):=rfl
theorem ZS{a:D}:aX .Is a .non kb=kb (eY a):=by cases a <;> rfl
theorem ZV{a:D}:aX .IsNot a .non kb=kb (!eY a):=by cases a <;> rfl
theorem ZW{a b:Bool}:aX .Is (.bl a) (.bl b) kb=kb (a==b):=rfl
theorem ZX{a b:Bool}:aX .IsNot (.bl a) (.bl b) kb=kb (a != b):=rfl
theorem ZZ{c:Nat}{l:AA}:aX .In (.str [c]) (.str l) kb=kb (l.contains c):=rfl
theorem Z0{c:Nat}{l:AA}:aX .NotIn (.str [c]) (.str l) kb=kb (!l.contains c):=rfl
theorem Z1{a:D}{l:AS}:aX .In a (.lst l) kb=((nr a=true/\nrs l=true/\bf l<=60)/\kb (isIn a l)):=rfl
theorem Z2{a:D}{l:AS}:aX .In a (.tup l) kb=((nr a=true/\nrs l=true/\bf l<=60)/\kb (isIn a l)):=rfl
theorem Z3{a:D}{l:AS}:aX .NotIn a (.lst l) kb=((nr a=true/\nrs l=true/\bf l<=60)/\kb (!isIn a l)):=rfl
theorem Z4{a:D}{l:AS}:aX .NotIn a (.tup l) kb=((nr a=true/\nrs l=true/\bf l<=60)/\kb (!isIn a l)):=rfl
theorem Z5{i:Int}:eY (.int i)=false:=rfl
theorem Z6{i:Bool}:eY (.bl i)=false:=rfl
theorem Z7{i:AA}:eY (.str i)=false:=rfl
theorem Z8{i:AS}:eY (.tup i)=false:=rfl
theorem Z9{i:AS}:eY (.lst i)=false:=rfl
theorem aaa{i:AQ}:eY (.ref i)=false:=rfl
theorem aab:eY .non=true:=rfl
def aV{α:Type}(o:Option α)(k:α->Prop):Prop:=match o with |some a=>k a |none=>False
theorem Hy{α:Type}{a:α}{k:α->Prop}:aV (some a) k=k a:=rfl
theorem bM{α:Type}{o:Option α}{a:α}{k:α->Prop}(e:o=some a)(h:k a):aV o k:=by rw[e];exact h
theorem Hz{α:Type}{xs:List α}{i:Int}{k:α->Prop}(h0:0<=i)(h1:i < xs.length)(h:∀a,a∈xs->k a):aV (atI xs i) k:=by obtain ⟨a,e,m⟩:=Zo h0 h1;exact bM e (h a m)
theorem aac{ds:AS}{i:Int}:cN (.lst ds) (.int i) kd=aV (atI ds i) kd:=by unfold cN aV;(try dsimp only) <;> (cases atI ds i <;> rfl)
theorem aad{ds:AS}{i:Int}:cN (.tup ds) (.int i) kd=aV (atI ds i) kd:=by unfold cN aV;(try dsimp only) <;> (cases atI ds i <;> rfl)
theorem aae{l:AA}{i:Int}:cN (.str l) (.int i) kd=aV (atI l i) (λc=>kd (.str [c])):=by unfold cN aV;(try dsimp only) <;> (cases atI l i <;> rfl)
theorem aaf{ds:AS}{lo hi:Option Int}:dW fz (.lst ds) lo hi G k=mk fz (cut ds lo hi) G k:=rfl
theorem aag{ds:AS}{y:D}:g8 fz (.lst ds) y G k=(y=.int (-1)/\mk fz ds.reverse G k):=rfl
theorem aah{ds:List Int}{lo hi:Option Int}:dW fz (.scr ds) lo hi G k=mk fz ((cut ds lo hi).map .int) G k:=rfl
theorem aai{ds:AS}{lo hi:Option Int}:dW fz (.tup ds) lo hi G k=k (.tup (cut ds lo hi)) G:=rfl
theorem aaj{ds:AA}{lo hi:Option Int}:dW fz (.str ds) lo hi G k=k (.str (cut ds lo hi)) G:=rfl
theorem aak{ds:AS}:opB .len [.lst ds] kd=kd (.int ds.length):=rfl
theorem aal{ds:AS}:opB .len [.tup ds] kd=kd (.int ds.length):=rfl
theorem aam{ds:AA}:opB .len [.str ds] kd=kd (.int ds.length):=rfl
theorem aan{ds:AS}:opB .any [.lst ds] kd=aV (bools ds) (λbs=>kd (.bl (bs.any id))):=by unfold opB qU aV;(try dsimp only) <;> (cases bools ds <;> rfl)
theorem HB{ds:AS}{i:Int}:opM .idxT (.tup ds) [.int i] G k=aV (aZ ds) (λns=>i∈ns/\k (.int (ns.idxOf i:Nat)) G):=by unfold opM rn aV;(try dsimp only) <;> (cases aZ ds <;> rfl)
theorem aao{ds:AS}:recv .idxT (.tup ds) G=True:=rfl
theorem aap{ds:AS}:opB .all [.lst ds] kd=aV (bools ds) (λbs=>kd (.bl (bs.all id))):=by unfold opB qT aV;(try dsimp only) <;> (cases bools ds <;> rfl)
theorem aaq{b:Bool}:opB .int [.bl b] kd=kd (.int (if b then 1 else 0)):=rfl
theorem aar{b:Int}:opB .int [.int b] kd=kd (.int b):=rfl
theorem aas{l:AA}:opB .int [.str l] kd=aV (PySem.intText? (tx l)) (λn=>l.length<=640/\kd (.int n)):=by unfold opB qW aV;(try dsimp only) <;> (cases PySem.intText? (tx l) <;> rfl)
theorem aat{ds:AS}:opB .sum [.lst ds] kd=aV (aZ ds) (λns=>kd (.int ns.sum)):=by unfold opB vK aV;(try dsimp only) <;> (cases aZ ds <;> rfl)
theorem aau{a:Int}:opB .str [.int a] kd=((0<=a/\a < 100)/\kd (.str (gB a.toNat))):=rfl
theorem aav{a:Int}:opB .abs [.int a] kd=kd (.int (if a < 0 then -a else a)):=rfl
theorem aaw{a b:Int}:opB .min2 [.int a,.int b] kd=kd (.int (if b < a then b else a)):=rfl
theorem aax{a b:Int}:opB .max [.int a,.int b] kd=kd (.int (if b > a then b else a)):=rfl
theorem aay{ds:AS}{kl:AS->Prop}:cG .sorted [.tup ds] kl=aV (aZ ds) (λns=>ns.length < 64/\∀ns':List Int,ns'.Perm ns->ns'.Pairwise (·<=·)->kl (ns'.map D.int)):=by unfold cG lu aV;(try dsimp only) <;> (cases aZ ds <;> rfl)
theorem aaz{ds:AS}{kl:AS->Prop}:lw (.lst ds) kl=aV (bw ds) (λls=>(ls.length<=1000/\(qX ls).length<=64)/\∀ls':List (AA),ls'.Perm (qX ls)->kl (ls'.map D.str)):=by unfold lw aV;(try dsimp only) <;> (cases bw ds <;> rfl)
theorem aaA{ds:AS}{kl:AS->Prop}:cG .sorted [.lst ds] kl=aV (bw ds) (λls=>ls.length < 64/\∀ls':List (AA),ls'.Perm ls->PyProof.Rows.sortedS (ls'.map tx)=true->kl (ls'.map D.str)):=by unfold cG lu aV;(try dsimp only) <;> (cases bw ds <;> rfl)
theorem aaB{ds:AS}:opB .tuple [.lst ds] kd=kd (.tup ds):=rfl
theorem aaC{ds:AS}:opB .tuple [.tup ds] kd=kd (.tup ds):=rfl
theorem aaD{ds:AS}{kl:AS->Prop}:cG .list [.lst ds] kl=kl ds:=rfl
theorem aaE{ds:AS}{kl:AS->Prop}:cG .list [.tup ds] kl=kl ds:=rfl
theorem aaF{l:AA}{kl:AS->Prop}:cG .list [.str l] kl=kl (l.map λc=>.str [c]):=rfl
theorem aaG{s:AA}{ds:AS}:opM .join (.str s) [.lst ds] G k=aV (bw ds) (λls=>((ls.map (·.length)).sum+ls.length * s.length<=sz)/\k (.str (dX s ls)) G):=by unfold opM qY aV;(simp only[aS,gL,view]) <;> (cases bw ds <;> rfl)
def trk(G:DH)(p:AQ)(k:AS->Prop):Prop:=match G p with |some (.lst ds)=>k ds |_=>False
theorem cO{ds:AS}{k:AS->Prop}(e:G p=some (.lst ds)):trk G p k=k ds:=by unfold trk;rw[e]
theorem aaH{x:D}:opM .append (.ref p) [x] G k=trk G p (λds=>ds.length < sz/\k .non (aL G p (.lst (ds++[x])))):=by unfold opM qZ trk;(try dsimp only) <;> (cases G p <;> first |rfl | (rename_i o;cases o <;> rfl))
theorem HF{i:Int}:opM .pop (.ref p) [.int i] G k=trk G p (λds=>0<=i/\i<=1000000/\aV ds[i.toNat]? λy=>k y (aL G p (.lst (ds.eraseIdx i.toNat)))):=by
 unfold opM rm trk
 (try dsimp only) <;> (cases G p <;> first |rfl | (rename_i o;cases o with |lst ds=>unfold aV;dsimp only;cases ds[i.toNat]? <;> rfl |dct _ _=>rfl))
theorem aaI:recv .pop (.ref p) G=trk G p (λ_=>True):=by unfold recv trk;(try dsimp only) <;> (cases G p <;> first |rfl | (rename_i o;cases o <;> rfl))
theorem aaJ{xs:AS}:opM .extend (.ref p) [.lst xs] G k=trk G p (λds=>ds.length+xs.length < sz/\k .non (aL G p (.lst (ds++xs)))):=by unfold opM q8 trk;(simp only[aS,gL,view]) <;> (cases G p <;> first |rfl | (rename_i o;cases o <;> rfl))
theorem aaK{i j:Nat}{ds:AS}{Y:ak}{kk:ak->DH->Prop}:VB i j (.lst ds) Y G kk=(ds≠[]/\∀xs y,ds=xs++[y]->kk ((Y.set i (some (.lst xs))).set j (some y)) G):=rfl
theorem aaL{C:AL}{xs:List AL}{kk:Bool->Prop}:vN C xs .non kk=kk false:=rfl
theorem aaM{C c:AL}{xs:List AL}{kk:Bool->Prop}:vN C xs (.exn c) kk=(xs.contains c=true/\kk (gC c C)):=rfl
theorem aaN{C c f:AL}{d:D}{xs:List AL}{kk:Bool->Prop}:vN C xs (.exa c f d) kk=(xs.contains c=true/\kk (gC c C)):=rfl
theorem x_at{C f:AL}{v:D}{kk:D->Prop}:Di C f (.exa C f v) kk=kk v:=by simp[Di]
theorem aaO{b f:AL}{d:D}:view G (.exa b f d)=.exa b f d:=rfl
theorem aaP{s:AA}:recv .join (.str s) G=True:=rfl
theorem aaQ:recv .append (.ref p) G=trk G p (λ_=>True):=by unfold recv trk;(try dsimp only) <;> (cases G p <;> first |rfl | (rename_i o;cases o <;> rfl))
theorem aaR:recv .extend (.ref p) G=trk G p (λ_=>True):=by unfold recv trk;(try dsimp only) <;> (cases G p <;> first |rfl | (rename_i o;cases o <;> rfl))
theorem aaS{i:Int}{x:D}{kg:DH->Prop}:dM (.ref p) (.int i) x G kg=trk G p (λds=>aV (ixN ds.length i) (λj=>kg (aL G p (.lst (ds.set j x))))):=by
 unfold dM trk aV
 (try dsimp only) <;> (cases G p <;> first |rfl | (rename_i o;cases o with |lst ds=>dsimp only;cases ixN ds.length i <;> rfl |dct _ _=>rfl))
theorem tR{l:AS}{kk:List Int->Prop}:bZ (.tup l) kk=aV (aZ l) kk:=by unfold bZ aV;dsimp only;cases aZ l <;> rfl
theorem HH{a:D}{ks:List (List Int)}{ds:AS}:aX .In a (.dct ks ds) kb=bZ a λn=>kb (kIx ks n).isSome:=rfl
theorem HJ{a:D}{ks:List (List Int)}{ds:AS}:aX .NotIn a (.dct ks ds) kb=bZ a λn=>kb (!(kIx ks n).isSome):=rfl
theorem HN{ks:List (List Int)}{ds:AS}{l:AS}:cN (.dct ks ds) (.tup l) kd=bZ (.tup l) λn=>aV (kIx ks n) λi=>aV ds[i]? kd:=by
 unfold cN bZ aV;dsimp only;cases aZ l with
 |none=>rfl
 |some n=>dsimp only;cases kIx ks n with
  |none=>rfl
  |some i=>dsimp only;cases ds[i]? <;> rfl
theorem aaT{ks:List (List Int)}{ds:AS}:opB .len [.dct ks ds] kd=kd (.int ks.length):=rfl
theorem aaU{ks:List (List Int)}{ds:AS}{kl:AS->Prop}:cG .list [.dct ks ds] kl=kl (ks.map λn=>.tup (n.map .int)):=rfl
def lX(G:DH)(p:AQ)(k:List (List Int)->AS->Prop):Prop:=match G p with |some (.dct ks ds)=>k ks ds |_=>False
theorem HQ{ks:List (List Int)}{ds:AS}{k:List (List Int)->AS->Prop}(e:G p=some (.dct ks ds)):lX G p k=k ks ds:=by unfold lX;rw[e]
theorem HR{l:AS}{x:D}{kg:DH->Prop}:dM (.ref p) (.tup l) x G kg=lX G p (λks ds=>bZ (.tup l) λn=>ks.length < sz/\kg (aL G p (dput ks ds n x))):=by
 unfold dM lX;dsimp only;cases G p with
 |none=>rfl
 |some o=>cases o <;> rfl
theorem eE{ks:List (List Int)}{ds:AS}(e:G p=some (.dct ks ds)):view G (.ref p)=.dct ks ds:=by unfold view;dsimp only;rw[e]
theorem aaV{i j:Int}:eV .Add (.int i) (.int j) kd=kd (.int (i+j)):=rfl
theorem aaW{x y:AA}:eV .Add (.str x) (.str y) kd=(x.length+y.length<=sz/\kd (.str (x++y))):=rfl
theorem aaX{i j:Int}:eV .Sub (.int i) (.int j) kd=kd (.int (i - j)):=rfl
theorem aaY{xs:AS}:mk true xs G k=k (.lst xs) G:=rfl
theorem aaZ{xs:AS}:mk false xs G k=∀p,G p=none->k (.ref p) (aL G p (.lst xs)):=rfl
theorem aa0:view G .non=.non:=rfl
theorem aa1{b:Bool}:view G (.bl b)=.bl b:=rfl
theorem aa2{b:Int}:view G (.int b)=.int b:=rfl
theorem aa3{b:AA}:view G (.str b)=.str b:=rfl
theorem aa4{b:AS}:view G (.tup b)=.tup b:=rfl
theorem aa5{b:AS}:view G (.lst b)=.lst b:=rfl
theorem aa6{C f:AL}{q:AQ}:view G (.obj C f q)=.obj C f q:=rfl
theorem aa7{b:AL}:view G (.exn b)=.exn b:=rfl
theorem aa8{b:List Int}:view G (.scr b)=.scr b:=rfl
theorem eZ{ds:AS}(e:G p=some (.lst ds)):view G (.ref p)=.lst ds:=by unfold view;dsimp only;rw[e]
theorem aa9:truth .non=some false:=rfl
theorem aba{b:Bool}:truth (.bl b)=some b:=rfl
theorem abb{i:Int}:truth (.int i)=some (i != 0):=rfl
theorem abd{l:AA}:truth (.str l)=some (!l.isEmpty):=rfl
theorem abe{l:AS}:truth (.tup l)=some (!l.isEmpty):=rfl
theorem abf{l:AS}:truth (.lst l)=some (!l.isEmpty):=rfl
theorem abg{l:AS}:itemsOf G (.lst l)=some (l,[]):=rfl
theorem abh{l:AS}:itemsOf G (.tup l)=some (l,[]):=rfl
theorem abi{l:AA}:itemsOf G (.str l)=some (l.map λc=>.str [c],[]):=rfl
theorem abj{t:AL}:isT t .non=some false:=rfl
theorem abk {t:AL} {b:Bool}:isT t (.bl b)=some (t=="bool"||t=="int"):=rfl
theorem abl {t:AL} {b:Int}:isT t (.int b)=some (t=="int"):=rfl
theorem abm {t:AL} {b:AA}:isT t (.str b)=some (t=="str"):=rfl
theorem is_tup {t:AL} {b:AS}:isT t (.tup b)=some (t=="tuple"):=rfl
theorem abn {t:AL} {b:AS}:isT t (.lst b)=some (t=="list"):=rfl
theorem abo{i:Nat}{d:D}{Y:ak}{kr:ak->Prop}:aU (.nm i) d Y G kr=kr (Y.set i (some d)):=rfl
theorem abp{ts:Tgs}{ds:AS}{Y:ak}{kr:ak->Prop}:aU (.tp ts) (.lst ds) Y G kr=bQ ts ds Y G kr:=rfl
theorem abq{ts:Tgs}{ds:AS}{Y:ak}{kr:ak->Prop}:aU (.tp ts) (.tup ds) Y G kr=bQ ts ds Y G kr:=rfl
theorem abr{ρ:ak}{kr:ak->Prop}:bQ .nil [] ρ G kr=kr ρ:=rfl
theorem abt{t:Tg}{r:Tgs}{d:D}{ds:AS}{Y:ak}{kr:ak->Prop}:bQ (.cons t r) (d::ds) Y G kr=aU t d Y G (λρ'=>bQ r ds ρ' G kr):=rfl
theorem abu:deq .non .non=true:=rfl
theorem abv  {y:Bool}:deq .non (.bl y)=false:=rfl
theorem abw  {y:Int}:deq .non (.int y)=false:=rfl
theorem abx  {y:AA}:deq .non (.str y)=false:=rfl
theorem aby  {y:AS}:deq .non (.tup y)=false:=rfl
theorem abz  {y:AS}:deq .non (.lst y)=false:=rfl
theorem abA{x:Bool} :deq (.bl x) .non=false:=rfl
theorem abB{x:Bool}{y:Bool}:deq (.bl x) (.bl y)=(x==y):=by rw[deq]
theorem abC{x:Bool}{y:AA}:deq (.bl x) (.str y)=false:=rfl
theorem abD{x:Bool}{y:AS}:deq (.bl x) (.tup y)=false:=rfl
theorem abE{x:Bool}{y:AS}:deq (.bl x) (.lst y)=false:=rfl
theorem abF{x:Int} :deq (.int x) .non=false:=rfl
theorem abG{x:Int}{y:Int}:deq (.int x) (.int y)=(x==y):=by rw[deq]
theorem abH{x:Int}{y:AA}:deq (.int x) (.str y)=false:=rfl
theorem abI{x:Int}{y:AS}:deq (.int x) (.tup y)=false:=rfl
theorem abJ{x:Int}{y:AS}:deq (.int x) (.lst y)=false:=rfl
theorem abK{x:AA} :deq (.str x) .non=false:=rfl
theorem abL{x:AA}{y:Bool}:deq (.str x) (.bl y)=false:=rfl
theorem abM{x:AA}{y:Int}:deq (.str x) (.int y)=false:=rfl
theorem abN{x:AA}{y:AA}:deq (.str x) (.str y)=(x==y):=by rw[deq]
theorem abO{x:AA}{y:AS}:deq (.str x) (.tup y)=false:=rfl
theorem abP{x:AA}{y:AS}:deq (.str x) (.lst y)=false:=rfl
theorem abQ{x:AS} :deq (.tup x) .non=false:=rfl
theorem abR{x:AS}{y:Bool}:deq (.tup x) (.bl y)=false:=rfl
theorem abS{x:AS}{y:Int}:deq (.tup x) (.int y)=false:=rfl
theorem abT{x:AS}{y:AA}:deq (.tup x) (.str y)=false:=rfl
theorem abU{x:AS}{y:AS}:deq (.tup x) (.tup y)=cg x y:=by rw[deq]
theorem abV{x:AS}{y:AS}:deq (.tup x) (.lst y)=false:=rfl
theorem abW{x:AS} :deq (.lst x) .non=false:=rfl
theorem abX{x:AS}{y:Bool}:deq (.lst x) (.bl y)=false:=rfl
theorem abY{x:AS}{y:Int}:deq (.lst x) (.int y)=false:=rfl
theorem abZ{x:AS}{y:AA}:deq (.lst x) (.str y)=false:=rfl
theorem ab0{x:AS}{y:AS}:deq (.lst x) (.tup y)=false:=rfl
theorem ab1{x:AS}{y:AS}:deq (.lst x) (.lst y)=cg x y:=by rw[deq]
theorem ab2:cg [] []=true:=rfl
theorem ab3{a b:D}{as bs:AS}:cg (a::as) (b::bs)=(deq a b&&cg as bs):=by rw[cg]
theorem ab4{b:D}{bs:AS}:cg [] (b::bs)=false:=rfl
theorem ab5{b:D}{bs:AS}:cg (b::bs) []=false:=rfl
theorem ab6 :nr .non=true:=rfl
theorem ab7 :dpt .non=0:=rfl
theorem ab8{x:Bool}:nr (.bl x)=true:=rfl
theorem ab9{x:Bool}:dpt (.bl x)=0:=rfl
theorem aca{x:Int}:nr (.int x)=true:=rfl
theorem acb{x:Int}:dpt (.int x)=0:=rfl
theorem acd{x:AA}:nr (.str x)=true:=rfl
theorem ace{x:AA}:dpt (.str x)=0:=rfl
theorem acf{x:AS}:nr (.tup x)=nrs x:=by rw[nr]
theorem acg{x:AS}:dpt (.tup x)=bf x+1:=by rw[dpt]
theorem ach{x:AS}:nr (.lst x)=nrs x:=by rw[nr]
theorem aci{x:AS}:dpt (.lst x)=bf x+1:=by rw[dpt]
theorem acj:nrs []=true:=rfl
theorem ack{a:D}{l:AS}:nrs (a::l)=(nr a&&nrs l):=by rw[nrs]
theorem acl:bf []=0:=rfl
theorem acn{a:D}{l:AS}:bf (a::l)=max (dpt a) (bf l):=by rw[bf]
end
def seq{Z:aj}{s:Sx}{r:Sxs}{E:EK}{Y:ak}{G:DH}{D:En}(h:∀M:ak->DH->Prop,(∀ρ' G',az Z r E ρ' G' D->M ρ' G')->wpS Z s E Y G { D with nx:=M }):az Z (.cons s r) E Y G D:=by rw[lB];exact h _ λ_ _ x=>x
def last{Z:aj}{s:Sx}{E:EK}{Y:ak}{G:DH}{D:En}(h:wpS Z s E Y G D):az Z (.cons s .nil) E Y G D:=by rw[lB];exact wpS_mono s (D:=D) (D':={ D with nx:=λρ' G'=>az Z .nil E ρ' G' D }) ⟨λρ' G' q=>(show az Z .nil E ρ' G' D from by rw[lA];exact q),λ_ _ q=>q,λ_ _ q=>q,λ_ _ q=>q⟩ h
def done{Z:aj}{E:EK}{Y:ak}{G:DH}{D:En}(h:D.nx Y G):az Z .nil E Y G D:=by rw[lA];exact h
section
variable {Z:aj} {E:EK} {ρ:ak} {G:DH}
def ForG(Z:aj)(t:Tg)(body:Sxs)(E:EK)(D:En)(items:List RF.D)(g:Hld)(ρ:ak)(G:DH):Prop:=
 forLoop (λd ρ' G' k=>aU t d ρ' G' λρ1=>az Z body E ρ1 G' { D with nx:=k,ct:=k,bk:=D.nx }) g items ρ G D.nx
theorem aco{t:Tg}{it:It'}{body:Sxs}{D:En}:wpS Z (.for_ t it body) E ρ G D=wpI Z it E ρ G λitems g G1=>ForG Z t body E D items g ρ G1:=rfl
theorem ForG.inv{t:Tg}{body:Sxs}{D:En}{items:List RF.D}{g:Hld}(P:Nat->ak->DH->Prop)(h0:P 0 ρ G)(hh:∀i ρ G,P i ρ G->held g G)
  (hs:∀i d ρ G,items[i]?=some d->P i ρ G->∀kk:ak->DH->Prop,(∀ρ' G',P (i+1) ρ' G'->kk ρ' G')->aU t d ρ G λρ1=>az Z body E ρ1 G { D with nx:=kk,ct:=kk,bk:=D.nx })
  (he:∀ρ G,P items.length ρ G->D.nx ρ G):ForG Z t body E D items g ρ G:=Zc P h0 hh hs he
def CompG(Z:aj)(elt:Ex)(tg:Tg)(cond:Tx)(items:AS)(g:Hld)(ρ:ak)(G:DH)(k:AS->DH->Prop):Prop:=
 compLoop (λd ρ' G' k'=>aU tg d ρ' G' λρ1=>wpT Z cond noE ρ1 G' λb G2=>match b with |true=>wpE Z elt noE ρ1 G2 λy G3=>k' (some y) ρ1 G3 |false=>k' none ρ1 G2) g items [] ρ G k
def jP(cap:List (Option Nat))(ρ:ak):ak:=cap.map λo=>match o with |none=>none |some j=>(ρ[j]?).join
theorem acp{ρ:ak}:jP [] ρ=[]:=rfl
theorem acq{cap:List (Option Nat)}{ρ:ak}:jP (none::cap) ρ=none::jP cap ρ:=rfl
theorem acr{cap:List (Option Nat)}{ρ:ak}{j:Nat}:jP (some j::cap) ρ=(ρ[j]?).join::jP cap ρ:=rfl
theorem acs{fz:Bool}{elt:Ex}{tg:Tg}{it:It'}{cond:Tx}{N:List AL}{cap:List (Option Nat)}{k:AT}:
  wpE Z (.comp fz elt tg it cond N cap) E ρ G k=wpI Z it E ρ G λitems g G1=>CompG Z elt tg cond items g (jP cap ρ) G1 λds G2=>mk fz ds G2 k:=rfl
theorem CompG.inv{elt:Ex}{tg:Tg}{cond:Tx}{items:AS}{g:Hld}{k:AS->DH->Prop}(P:Nat->AS->ak->DH->Prop)(h0:P 0 [] ρ G)(hh:∀i acc ρ G,P i acc ρ G->held g G)(hl:items.length<=sz)
  (hs:∀i d acc ρ G,items[i]?=some d->P i acc ρ G->∀kk:Option D->ak->DH->Prop,(∀o ρ' G',P (i+1) (acc++o.toList) ρ' G'->kk o ρ' G')->
   aU tg d ρ G λρ1=>wpT Z cond noE ρ1 G λb G2=>match b with |true=>wpE Z elt noE ρ1 G2 λy G3=>kk (some y) ρ1 G3 |false=>kk none ρ1 G2)
  (he:∀acc ρ G,P items.length acc ρ G->k acc G):CompG Z elt tg cond items g ρ G k:=Ht P h0 hh (!!hl) hs he
theorem CompG.map{elt:Ex}{tg:Tg}{cond:Tx}{items:AS}{g:Hld}{k:AS->DH->Prop}(f:D->D)(I:ak->Prop)(h0:I ρ)(hg:held g G)(hl:items.length<=sz)
  (hs:∀d ρ,d∈items->I ρ->∀kk:Option D->ak->DH->Prop,(∀ρ',I ρ'->kk (some (f d)) ρ' G)->aU tg d ρ G λρ1=>wpT Z cond noE ρ1 G λb G2=>match b with |true=>wpE Z elt noE ρ1 G2 λy G3=>kk (some y) ρ1 G3 |false=>kk none ρ1 G2)
  (he:k (items.map f) G):CompG Z elt tg cond items g ρ G k:=Ze g f I h0 hg hl hs he
def WhlG(Z:aj)(c:Tx)(body:Sxs)(E:EK)(D:En)(n:Nat)(ρ:ak)(G:DH):Prop:=
 whileLoop (λρ' G' k=>wpT Z c E ρ' G' k) (λρ' G' k=>az Z body E ρ' G' { D with nx:=k,ct:=k,bk:=D.nx }) n ρ G D.nx
theorem acu{c:Tx}{body:Sxs}{D:En}:wpS Z (.whl c body) E ρ G D=∃n,WhlG Z c body E D n ρ G:=rfl
theorem WhlG.inv{c:Tx}{body:Sxs}{D:En}(P:Nat->ak->DH->Prop)(hs:∀n ρ G,P n ρ G->wpT Z c E ρ G λb G1=>match b with |true=>∀kk:ak->DH->Prop,(∀m ρ' G',m < n->P m ρ' G'->kk ρ' G')->az Z body E ρ G1 { D with nx:=kk,ct:=kk,bk:=D.nx } |false=>D.nx ρ G1):
  ∀n ρ G,P n ρ G->WhlG Z c body E D (n+1) ρ G:=by
 intro n;induction n using Nat.strongRecOn with
 |_ n ih=>
  intro ρ G p;refine cV c (λb G1 q=>?_) (hs n ρ G p);cases b with
  |false=>exact q
  |true=>
   refine q _ λm ρ' G' hm p'=>?_;have:=ih m hm ρ' G' p';have up:∀(i j:Nat)(ρ:ak)(G:DH),i<=j->WhlG Z c body E D i ρ G->WhlG Z c body E D j ρ G:=by
    intro i;induction i with
    |zero=>intro j ρ G _ h;exact h.elim
    |succ i ihi=>
     intro j ρ G hij h;cases j with
     |zero=>omega
     |succ j=>
      refine cV c (λb G1 q=>?_) h;cases b with
      |false=>exact q
      |true=>exact dz body (D:={ D with nx:=λρ' G'=>WhlG Z c body E D i ρ' G',ct:=λρ' G'=>WhlG Z c body E D i ρ' G',bk:=D.nx }) ⟨λρ' G' z=>ihi j ρ' G' (!0) z,λ_ _ z=>z,λ_ _ z=>z,λρ' G' z=>ihi j ρ' G' (!0) z⟩ q
   exact up (m+1) n ρ' G' hm this
end
def len0{α:Type}{l:List α}(h:l.length=0):l=[]:=cS.mp h
def yq{α:Type}{n:Nat}{l:List α}(h:l.length=n+1):∃a r,l=a::r/\r.length=n:=by
 cases l with
 |nil=>cases h
 |cons a r=>exact ⟨a,r,rfl,Nat.succ.inj h⟩
def du{α:Type}{l:List α}(h:l.length=1):∃a,l=[a]:=by obtain ⟨a,r,rfl,h2⟩:=yq h;cases len0 h2;exact ⟨a,rfl⟩
def bx{α:Type}{l:List α}(h:l.length=2):∃a b,l=[a,b]:=by obtain ⟨a,r,rfl,h2⟩:=yq h;obtain ⟨b,rfl⟩:=du h2;exact ⟨a,b,rfl⟩
def fj{α:Type}{l:List α}(h:l.length=3):∃a b c,l=[a,b,c]:=by obtain ⟨a,r,rfl,h2⟩:=yq h;obtain ⟨b,c,rfl⟩:=bx h2;exact ⟨a,b,c,rfl⟩
structure Fo(Z:aj)(P:AK)(w:World)(K:PF)(mg:AH)(base:Heap)(k:Nat)(f:AL)(n:Nat):Prop where
 ex:∃fa fd ps,FnOk P w K mg base (CX1 P w) k fa fd ps (lift K n (Z f))/\PySem.W.keepIn K (.ref fa)=true/\Binds K fd ps []/\mg (⇑f)=some (.ref fa)
section
variable {Z:aj} {P:AK} {w:World} {K:PF} {mg:AH} {base:Heap} {k:Nat} {xs:List (AL×Bool)} {ot:OT}
def AllF(Z:aj)(P:AK)(w:World)(K:PF)(mg:AH)(base:Heap)(k:Nat):List (AL×Nat)->Prop
 |[]=>True
 | (f,n)::r=>Fo Z P w K mg base k f n/\AllF Z P w K mg base k r
def AllB(mg:AH):List AL->Prop
 |[]=>True
 |f::r=>mg (⇑f)=none/\AllB mg r
def AllC(K:PF)(mg:AH):List (AL×D)->Prop
 |[]=>True
 | (x,d)::r=>(∃u v,mg (⇑x)=some u/\RelV v u/\∀H F,Rep K H F d v)/\AllC K mg r
theorem AllF.get:∀{fs:List (AL×Nat)}{f:AL}{n:Nat},AllF Z P w K mg base k fs->(f,n)∈fs->Fo Z P w K mg base k f n
 | (f',n')::r,f,n,h,m=>by
  rcases bB.mp m with e |m
  .cases e;exact h.1
  .exact AllF.get h.2 m
theorem AllB.get:∀{fs:List AL}{f:AL},AllB mg fs->f∈fs->mg (⇑f)=none
 |f'::r,f,h,m=>by
  rcases bB.mp m with e |m
  .cases e;exact h.1
  .exact AllB.get h.2 m
theorem AllC.get:∀{fs:List (AL×D)}{x:AL}{d:D},AllC K mg fs->(x,d)∈fs->∃u v,mg (⇑x)=some u/\RelV v u/\∀H F,Rep K H F d v
 | (f',n')::r,f,n,h,m=>by
  rcases bB.mp m with e |m
  .cases e;exact h.1
  .exact AllC.get h.2 m
def cvB(K:PF)(C':AL):Option V:=match PySem.W.nsIn K mainGlobals (⇑C') with
 |some (some (.ref a))=>if Cg K a then some (.ref a) else none
 |some none=>if C'=="ValueError" then some (.ty "ValueError") else none
 |_=>none
def xiB(K:PF)(C C':AL)(cv:V):Bool:=match PySem.W.nsIn K mainGlobals (⇑C) with
 |some (some (.ref c))=>vf K c&&PySem.W.mroIn K c (valOf cv)==some (gC C C')&&(gC C C'||!(Value.ref c==valOf cv))
 |_=>false
def yr(K:PF)(C:AL):Bool:=match PySem.W.nsIn K mainGlobals (⇑C) with
 |some (some (.ref c))=>qM K c
 |_=>false
def xsB(K:PF)(xs:List (AL×Bool)):Bool:=xs.all λp=>match p.2 with
 |true=>yr K p.1
 |false=>(cvB K p.1).any λcv=>xs.all λq=>!q.2||xiB K q.1 p.1 cv
theorem acv{h:Heap}(X:K.In h)(Gh:h.Ns mainGlobals mg){xs:List (AL×Bool)}(e:xsB K xs=true)(C:AL)(hC:xs.contains (C,true)=true):∃a,mg (⇑C)=some (.ref a)/\qM K a=true/\PySem.W.nsIn K mainGlobals (⇑C)=some (some (.ref a)):=by
 have e1:yr K C=true:=bP.mp e _ (bv.mp hC);unfold yr at e1;split at e1
 .rename_i a hn;exact ⟨a,PySem.W.mg_of X Gh hn,e1,hn⟩
 .cases e1
theorem acw{h:Heap}(X:K.In h)(Gh:h.Ns mainGlobals mg){xs:List (AL×Bool)}(e:xsB K xs=true)(C':AL)(hC:xs.contains (C',false)=true):∃cv,CV K mg C' cv/\∀C,xs.contains (C,true)=true->XI K C C' cv:=by
 have e1:((cvB K C').any λcv=>xs.all λq=>!q.2||xiB K q.1 C' cv)=true:=bP.mp e _ (bv.mp hC);obtain ⟨cv,hcv,h2⟩:=aW e1;refine ⟨cv,?_,λC hC=>?_⟩
 .unfold cvB at hcv;split at hcv
  .rename_i a hn;split at hcv
   .rename_i hb;cases hcv;exact .inl ⟨a,rfl,PySem.W.mg_of X Gh hn,hb⟩
   .cases hcv
  .rename_i hn;split at hcv
   .rename_i hb;cases hcv;exact .inr ⟨a9.mp hb,rfl,PySem.W.mg_none_of X Gh hn⟩
   .cases hcv
  .cases hcv
 .have e3:(!true||xiB K C C' cv)=true:=bP.mp h2 _ (bv.mp hC);have e3:xiB K C C' cv=true:=e3;unfold xiB at e3;split at e3
  .rename_i c hn;rw[ae,ae,a9]at e3;refine ⟨c,hn,e3.1.1,e3.1.2,λhs=>?_⟩;have:=e3.2;rw[hs,Bool.false_or,gT]at this;exact this
  .cases e3
theorem bse{h:Heap}{fs:List (AL×Nat)}{bt:List AL}{cn:List (AL×D)}(h1:AllF Z P w K mg base k fs)(h2:AllB mg bt)(h3:AllC K mg cn)(X:K.In h)(Gh:h.Ns mainGlobals mg)(e:xsB K xs=true):Bse Z P w K mg base (CX1 P w) k fs bt cn xs {}:=
 ⟨λ_ _ m=>(h1.get m).ex,λ_ m=>h2.get m,λ_ _ m=>h3.get m,acv X Gh e,acw X Gh e,(λ_ _ _ _ h=>(nomatch h)),(λ_ _ h=>(nomatch h)),(λ_ _ h=>(nomatch h)),(λ_ _ h=>(nomatch h))⟩
theorem lY{x:AL}{i:Int}{t:Tok}(h:mg (⇑x)=some (.int i t)):∃u v,mg (⇑x)=some u/\RelV v u/\∀H F,Rep K H F (.int i) v:=⟨_,.int i,h,⟨t,rfl⟩,λ_ _=>rfl⟩
theorem acx{x:AL}{l:AA}{s:Str}{t:Tok}(h:mg (⇑x)=some (.str s t))(e:s=tx l)(hl:l.length<=sz):∃u v,mg (⇑x)=some u/\RelV v u/\∀H F,Rep K H F (.str l) v:=⟨_,.str s,h,⟨t,rfl⟩,λ_ _=>⟨by rw[e],hl⟩⟩
theorem HS{n:Nat}{S:RF.Spec}{fa:AQ}{fd:AJ}{ps:AD}(h:∀ds G a,¬S.pre ds G a):FnOk P w K mg base (CX1 P w) k fa fd ps (lift K n S):=
 ⟨λ_ _ _ _ ⟨_,_,_,_,_,_,a,hp,_⟩=>absurd hp (h _ _ a),λ_ _ _ _ _ _ _ _ _ _ _ _ _ ⟨_,_,_,_,_,_,a,hp,_⟩=>absurd hp (h _ _ a)⟩
end
section
variable {Z:aj} {P:AK} {w:World} {K:PF} {mg:AH} {base:Heap} {k j n:Nat} {fs:List (AL×Nat)} {bt:List AL} {cn:List (AL×D)} {xs:List (AL×Bool)} {ot:OT} {x:AL} {S:RF.Spec} {fa:AQ} {fd:AJ} {ps:AD}
theorem MthOk.mono{f C m:AL}(h:MthOk Z P w K mg base (CX1 P w) k f C m n)(hk:k<=j):MthOk Z P w K mg base (CX1 P w) j f C m n:=by obtain ⟨c,fa,fd,ps,h1,h2,h3,h4,h5⟩:=h;exact ⟨c,fa,fd,ps,h1,h2,h3,h4,h5.mono hk⟩
theorem MkoOk.mono{C:AL}(h:MkoOk Z P w K mg base (CX1 P w) k C n)(hk:k<=j):MkoOk Z P w K mg base (CX1 P w) j C n:=by obtain ⟨c,fa,fd,ps,sp,i,h0,h⟩:=h;exact ⟨c,fa,fd,ps,sp,i,ca h0 hk,h⟩
theorem XkoX.mono{C f:AL}(h:XkoX P w K mg base (CX1 P w) k xs C f)(hk:k<=j):XkoX P w K mg base (CX1 P w) j xs C f:=by obtain ⟨⟨c,fa,fd,ps,i,h0,h⟩,h2⟩:=h;exact ⟨⟨c,fa,fd,ps,i,ca h0 hk,h⟩,h2⟩
theorem Bse.add(B:Bse Z P w K mg base (CX1 P w) k fs bt cn xs ot)(e:Z x=S)(o:FnOk P w K mg base (CX1 P w) (k+j) fa fd ps (lift K n S))(h2:PySem.W.keepIn K (.ref fa)=true)(h3:Binds K fd ps [])(h4:mg (⇑x)=some (.ref fa)):Bse Z P w K mg base (CX1 P w) (k+j) ((x,n)::fs) bt cn xs ot:=by
 refine ⟨λf m hm=>?_,B.blt,B.con,B.xcl,B.xis,λf C m n h=>(B.mth f C m n h).mono (dQ _ _),λC n h=>(B.mko C n h).mono (dQ _ _),B.fld,λC f h=>(B.xko C f h).mono (dQ _ _)⟩;rcases bB.mp hm with e' |hm
 .cases e';exact ⟨fa,fd,ps,by rw[e];exact o,h2,h3,h4⟩
 .obtain ⟨fa,fd,ps,h1,h⟩:=B.call f m hm;exact ⟨fa,fd,ps,h1.mono (dQ _ _),h⟩
theorem Bse.step{qual:Str}{st:Stmt}{N:AD}{body:Sxs}(B:Bse Z P w K mg base (CX1 P w) k fs bt cn xs ot)(F:Fun K (⇑x) qual st fa fd)(h3:Binds K fd ps [])(h4:mg (⇑x)=some (.ref fa))(e:Z x=S)(m:Nat)
  (hs:fnB N ps (ao st)=true) (hc:aD (aK N (ao st) fs bt cn xs ot) body (aG st)=true) (hn:ps.length=n) (hm:N.length=n+m)
  (hw:∀ds G a,ds.length=n->S.pre ds G a->az Z body noE (env0 ds m) G (ends (S.post a))):Bse Z P w K mg base (CX1 P w) (k+1) ((x,n)::fs) bt cn xs ot:=
 B.add e (tQ F B S n m hs hc hn hm hw) F.kp h3 h4
def iG(Z:aj)(x:AL)(S:RF.Spec):aj:=λf=>if f=x then S else Z f
theorem jQ{y:AL}(e:Z y=S){S':RF.Spec}(h:(y==x)=false):iG Z x S' y=S:=by unfold iG;rw[if_neg (!!h)];exact e
theorem Bse.self(B:Bse Z P w K mg base (CX1 P w) k fs bt cn xs {})(hx:(fs.map (·.1)).contains x=false)(o:FnOk P w K mg base (CX1 P w) (k+j) fa fd ps (lift K n S))(h2:PySem.W.keepIn K (.ref fa)=true)(h3:Binds K fd ps [])(h4:mg (⇑x)=some (.ref fa)):Bse (iG Z x S) P w K mg base (CX1 P w) (k+j) ((x,n)::fs) bt cn xs {}:=by
 refine ⟨λf m hm=>?_,B.blt,B.con,B.xcl,B.xis,(λ_ _ _ _ h=>(nomatch h)),(λ_ _ h=>(nomatch h)),(λ_ _ h=>(nomatch h)),(λ_ _ h=>(nomatch h))⟩;rcases bB.mp hm with e' |hm'
 .cases e';exact ⟨fa,fd,ps,by unfold iG;rw[if_pos rfl];exact o,h2,h3,h4⟩
 .obtain ⟨fa,fd,ps,h1,h⟩:=B.call f m hm';have hf:f≠x:=by
   rintro rfl;rw[<-Bool.not_eq_true,bv]at hx;exact hx (bp.mpr ⟨(f,m),hm',rfl⟩)
  exact ⟨fa,fd,ps,by unfold iG;rw[if_neg hf];exact h1.mono (dQ _ _),h⟩
end
def acy{S:RF.Spec}(hS:∀(ns:List Int)(G:DH),ns.length<=63->∃a,S.pre [.scr ns] G a/\(∀d G',S.post a d G'->d=.bl true)/\∀x G',¬S.exc a x G')(K:PF)(H:Hp)(a:AQ)(ns:List Int)(hl:ns.length<=63)(hO:Only H)(hs:SqL K H a (ns.map V.int)):
  lift K 1 S [.ref a] H (λv _=>v=.bl true) λ_ _ _=>False:=by
 obtain ⟨b,h1,h2,h3⟩:=hS ns (λ_=>none) hl;refine ⟨rfl,λ_=>False,λ_=>none,[.scr ns],⟨λ_ f=>f.elim,λ_ _ e=>by cases e⟩,⟨.ref a,[],rfl,⟨a,rfl,?_⟩,rfl⟩,b,h1,λd G' q H' F' v _ _ rv=>?_,λx G' q=>absurd q (h3 x G')⟩
 .rcases hs with (h |h) |h
  .exfalso;rcases hO a with z |⟨o,u,z⟩
   .rw[z]at h;cases h
   .rw[z]at h;cases h
  .exact .inl h
  .exact .inr h
 .rw[h2 d G' q]at rv;exact rv
def acz{pre:AS->DH->Prop}(h:∀(ns:List Int)(G:DH),ns.length<=63->pre [.scr ns] G):∀(ns:List Int)(G:DH),ns.length<=63->∃a,(bL pre (λ_ _ d _=>d=.bl true)).pre [.scr ns] G a/\(∀d G',(bL pre (λ_ _ d _=>d=.bl true)).post a d G'->d=.bl true)/\∀x G',¬(bL pre (λ_ _ d _=>d=.bl true)).exc a x G':=
 λns G hl=>⟨([.scr ns],G),⟨rfl,h ns G hl⟩,λ_ _ q=>q,λ_ _ z=>z⟩
def ghS{A:Type}(pre:A->AS->DH->Prop)(post:A->DH->D->DH->Prop):RF.Spec where
 A:=A×DH
 pre:=λds G a=>a.2=G/\pre a.1 ds G
 post:=λa d G'=>post a.1 a.2 d G'
 exc:=λ_ _ _=>False
def iH{A:Type}{pre:A->AS->DH->Prop}{post:A->DH->D->DH->Prop}{ds:AS}{G:DH}{k:AT}{E:EK}(a:A)(h:pre a ds G)(hk:∀d G',post a G d G'->k d G'):(ghS pre post).t ds G k E:=
 ⟨(a,G),⟨rfl,h⟩,hk,λ_ _ z=>z.elim⟩
def iI{A:Type}{Z:aj}{body:Sxs}{m n:Nat}{pre:A->AS->DH->Prop}{post:A->DH->D->DH->Prop}(h:∀a ds G,pre a ds G->az Z body noE (env0 ds m) G (ends (post a G))):
  ∀ds G a,ds.length=n->(ghS pre post).pre ds G a->az Z body noE (env0 ds m) G (ends ((ghS pre post).post a)):=by
 rintro ds G ⟨a,G0⟩ _ ⟨rfl,h1⟩;exact h a ds _ h1
def bG{A:Type}(args:A->AS)(ok:A->Prop)(val:A->D):RF.Spec:=ghS (λa ds _=>ds=args a/\ok a) (λa G d G'=>G'=G/\d=val a)
def bN{A:Type}{args:A->AS}{ok:A->Prop}{val:A->D}{ds:AS}{G:DH}{k:AT}{E:EK}(a:A)(e:ds=args a)(h:ok a)(hk:k (val a) G):(bG args ok val).t ds G k E:=
 iH a ⟨e,h⟩ λd G' ⟨e1,e2⟩=>by subst e1 e2;exact hk
def bT{A:Type}{Z:aj}{body:Sxs}{m n:Nat}{args:A->AS}{ok:A->Prop}{val:A->D}(h:∀a G,ok a->az Z body noE (env0 (args a) m) G (ends λd G'=>G'=G/\d=val a)):
  ∀ds G a,ds.length=n->(bG args ok val).pre ds G a->az Z body noE (env0 ds m) G (ends ((bG args ok val).post a)):=
 iI λa ds G ⟨e,h1⟩=>by subst e;exact h a G h1
section
local macro_rules|`(#[])=>`(.nil)|`(#[$x])=>`(.cons $x .nil)|`(#[$x,$y,*])=>`(.cons $x #[$y,*])
local macro_rules|`(-$x)=>`(.var $x)
local macro_rules|`(¬$x)=>`(.cst (.int $x))
local macro_rules|`(!$x)=>`(.cst (.str $x))
local macro_rules|`($x<|$y)=>`(.call $x $y)
def yt:Sxs:=#[.set (-0) (¬2) (¬0),.ret (-0)]
def yu:Sxs:=#[.ite (.val (.cmp .GtE (-0) (.bin .Pow true (¬10) (¬18)))) #[.ret (-0)] #[],.asg (.nm 2) (.bin .Mod true (.bin .Add true (.bin .Add true (.bin .Mult true (.bin .Mod true (-0) (¬1000000007)) (¬69069)) (.bin .Mult true (-1) (¬40503))) (¬977)) (¬2147483629)),.asg (.nm 3) (.bin .Mod true (.bin .Add true (.bin .Add true (.bin .Mult true (-2) (-2)) (.bin .Mult true (-1) (¬7919))) (.bin .Mod true (-0) (¬65537))) (¬2147483587)),.asg (.nm 4) (.bin .Mod true (.bin .Add true (.bin .Add true (.bin .Mult true (-3) (-3)) (.bin .Mult true (-2) (¬31))) (¬5)) (¬2147483563)),.ret (.bin .Add true (.bin .Mult true (.bin .Add true (.bin .Mult true (-2) (¬2147483659)) (-3)) (¬2147483693)) (-4))]
def yw:Sxs:=#[.ite (.val (.cmp .Lt (.idx (-0) (¬2)) (-1))) #[.asg (.nm 2) (.idx (-0) (¬1)),.asg (.nm 3) (¬0),.ite (.val (.cmp .Lt (-2) (.bcl .len #[.idx (-0) (¬0)]))) #[.asg (.nm 3) (.idx (.idx (-0) (¬0)) (-2))] #[.ite (.val (.cmp .Gt (.bcl .len #[.idx (-0) (¬0)]) (¬0))) #[.asg (.nm 3) (.bin .Mod true (.idx (.idx (-0) (¬0)) (.bin .Mod true (.bin .Add true (.bin .Mult true (-2) (¬5)) (¬3)) (.bcl .len #[.idx (-0) (¬0)]))) (.bin .Add true (.bin .Pow true (¬10) (¬17)) (-2)))] #[]],.set (-0) (¬1) (.bin .Add true (-2) (¬1)),.set (-0) (¬2) ("_law_spread"<|#[-3,-2])] #[],.asg (.nm 4) (.bin .Mod true (.idx (-0) (¬2)) (-1)),.set (-0) (¬2) (.bin .FloorDiv true (.idx (-0) (¬2)) (-1)),.ret (-4)]
def yx:Sxs:=#[.ret (.mth .join (![]) #[.comp true (.idx (-1) ("_law_take"<|#[-2,.bcl .len #[-1]])) (.nm 0) (.rng (-1)) .yes ["at","signs","pen"] [none,some 2,some 0]])]
def yz:Sxs:=#[.asg (.nm 2) (.lst true #[![97],![103,111],![115,116,97,121],![97,98,99,100,101,102,103,104],![110,111,110,101],![121,101,115],![105,110],![111,117,116],![107,101,101,112],![119,111,114,100],![122,122]]),.asg (.nm 3) ("_law_take"<|#[-0,¬11]),.asg (.nm 4) (.comp true (.idx (-1) (.bin .Mod true (.bin .Add true (-2) (.bin .Mult true (¬3) (-0))) (¬11))) (.nm 0) (.rng (.bin .Add true (¬1) ("_law_take"<|#[-0,-1]))) .yes ["k","some","turn"] [none,some 2,some 3]),.ite (.val (.cmp .Eq ("_law_take"<|#[-0,¬3]) (¬0))) #[.asg (.nm 5) (![97,98,99,100,101,102,103,104,105,106,107,108,109,110,111,112,113,114,115,116,117,118,119,120,121,122]),.asg (.nm 4) (.comp true ("_law_signs"<|#[-1,.bin .Add true (¬1) ("_law_take"<|#[-1,¬8]),-2]) (.nm 0) (.seq (-4)) .yes ["one","pen","letters"] [none,some 0,some 5])] #[],.ret (-4)]
def yC:Sxs:=#[.ret ("_law_signs"<|#[-0,-1,.idx (.lst true #[![48,49,42],![48,49,42,42],![48,49,42,42,42,42],![48,42],![48,49]]) ("_law_take"<|#[-0,¬5])])]
def yD:Sxs:=#[.asg (.nm 2) (![]),.for_ (.nm 3) (.seq (-1)) #[.ite (.val (.cmp .Eq ("_law_take"<|#[-0,¬3]) (¬0))) #[.asg (.nm 3) (![42])] #[],.asg (.nm 2) (.bin .Add true (-2) (-3))],.ret (-2)]
def yE:Sxs:=#[.asg (.nm 2) (![]),.for_ (.nm 3) (.seq (-1)) #[.ite (.boo true (.val (.cmp .Eq (-3) (![42]))) #[.val (.cmp .Eq ("_law_take"<|#[-0,¬2]) (¬0))]) #[.asg (.nm 3) (.idx (![48,49]) ("_law_take"<|#[-0,¬2]))] #[],.asg (.nm 2) (.bin .Add true (-2) (-3))],.ret (-2)]
def yF:Sxs:=#[.asg (.nm 3) ("_law_take"<|#[-0,¬7]),.ite (.boo false (.val (.cmp .Eq (-2) (.lst true #[]))) #[.val (.cmp .Lt (-3) (¬2))]) #[.ret ("_law_form"<|#[-0,-1])] #[],.asg (.nm 4) (.idx (-2) ("_law_take"<|#[-0,.bcl .len #[-2]])),.ite (.val (.cmp .Eq (-3) (¬2))) #[.ret (-4)] #[],.ite (.val (.cmp .Lt (-3) (¬5))) #[.asg (.nm 5) ("_law_take"<|#[-0,-1]),.ret (.bin .Add true (.bin .Add true (.slc true (-4) .no (.ob (-5))) (.idx (![48,49,42]) ("_law_take"<|#[-0,¬3]))) (.slc true (-4) (.ob (.bin .Add true (-5) (¬1))) .no))] #[],.ite (.val (.cmp .Eq (-3) (¬5))) #[.ret ("_law_within"<|#[-0,-4])] #[],.ret ("_law_wider"<|#[-0,-4])]
def yG:Sxs:=#[.asg (.nm 3) (.bin .Add true (¬1) ("_law_take"<|#[-0,-1])),.asg (.nm 4) ("_law_deeds_of"<|#[-0,¬3]),.asg (.nm 5) (.lst false #[]),.asg (.nm 6) (.lst false #[]),.for_ (.nm 7) (.rng ("_law_take"<|#[-0,.bin .Add true (-2) (¬1)])) #[.exp (.mth .append (-5) #["_law_form_like"<|#[-0,-3,-5]]),.exp (.mth .append (-6) #[.tup #[.idx (-5) (.neg (¬1)),.idx (-4) ("_law_take"<|#[-0,.bcl .len #[-4]])]])],.ret (.tup #[-3,.bcl .tuple #[-6]])]
def yH:Sxs:=#[.asg (.nm 1) (.lcl false .list #[.slc true (-0) .no (.ob (¬12))]),.for_ (.tp #[.nm 2,.nm 3]) (.enm (.slc true (-0) (.ob (¬12)) (.ob (¬63)))) #[.set (-1) (.bin .Mod true (-2) (¬12)) (.bin .Add true (.idx (-1) (.bin .Mod true (-2) (¬12))) (-3))],.ret (.lst false #[.frz (-1),¬0,¬0])]
def yI:Sxs:=#[.asg (.nm 2) (.rgl false (-1)),.ret (.bcl .tuple #[.comp true (.mth .pop (-1) #["_law_take"<|#[-2,.bcl .len #[-1]]]) (.nm 0) (.rng (-1)) .yes ["k","left","pen"] [none,some 2,some 0]])]
def yJ:Sxs:=#[.ret (.bcl .tuple #[.comp true (.mth .idxT (-1) #[-0]) (.nm 0) (.rng (.bcl .len #[-0])) .yes ["number","order"] [none,some 0]])]
def lZ:Sxs:=#[.asg (.nm 2) (![]),.for_ (.tp #[.nm 3,.nm 4]) (.zip (-0) (-1)) #[.ite (.val (.cmp .Eq (-3) (![42]))) #[.aug 2 .Add (-4)] #[.ite (.boo false (.val (.cmp .Eq (-4) (![42]))) #[.val (.cmp .Eq (-4) (-3))]) #[.aug 2 .Add (-3)] #[.ret (.cst .non)]]],.ret (-2)]
def mj:Sxs:=#[.for_ (.tp #[.nm 2,.nm 3]) (.enm (-0)) #[.ite (.val (.cmp .IsNot ("both"<|#[.idx (-3) (¬0),-1]) (.cst .non))) #[.ret (-2)] #[]],.ret (.cst .non)]
def mq:Sxs:=#[.asg (.nm 2) ("first_touching"<|#[-0,-1]),.ite (.val (.cmp .Is (-2) (.cst .non))) #[.ret (.cst .non)] #[],.for_ (.tp #[.nm 3,.nm 4]) (.enm (.idx (.idx (-0) (-2)) (¬0))) #[.ite (.boo true (.val (.cmp .Eq (.idx (-1) (-3)) (![42]))) #[.val (.cmp .NotEq (-4) (![42]))]) #[.ret (-3)] #[]],.ret (.cst .non)]
def my:Sxs:=#[.ret (.bin .Add true (.bin .Add true (.slc true (-0) .no (.ob (-1))) (-2)) (.slc true (-0) (.ob (.bin .Add true (-1) (¬1))) .no))]
def jR:Sxs:=#[.for_ (.nm 3) (.seq (-1)) #[.asg (.nm 4) ("splitting_place"<|#[-3,-2]),.ite (.val (.cmp .IsNot (-4) (.cst .non))) #[.asg (.nm 5) ("grown"<|#[-0,-1,"with_sign"<|#[-2,-4,![48]]]),.asg (.nm 6) ("grown"<|#[-0,-1,"with_sign"<|#[-2,-4,![49]]]),.ret (.tup #[![115,112,108,105,116],-4,-5,-6])] #[]],.ret (.bin .Add true (.tup #[-0]) (.bcl .tuple #[.comp true ("first_touching"<|#[-0,-1]) (.nm 0) (.seq (-1)) .yes ["rows","box"] [none,some 2]]))]
def mz:Sxs:=#[.ret (.boo true (.isi (-2) "tuple") #[.cmp .Eq (.bcl .len #[-2]) (.bin .Add true (-1) (¬1)),.cmp .Eq (.idx (-2) (¬0)) (-0)])]
def mC:Sxs:=#[.ret (.boo true (.isi (-0) "int") #[.not (.isi (-0) "bool")])]
def mD:Sxs:=#[.ret (.boo true ("is_whole"<|#[-1]) #[.chn .LtE .Lt (¬0) (-1) (-0)])]
def iJ:Sxs:=#[.ite (.not (.val ("is_named"<|#[![115,112,108,105,116],¬3,-1]))) #[.ret (.lst true #[.tup #[-0,-1]])] #[],.asg (.nm 2) (.idx (-1) (¬1)),.ite (.boo false (.not (.val ("is_place"<|#[.bcl .len #[-0],-2]))) #[.val (.cmp .NotEq (.idx (-0) (-2)) (![42]))]) #[.ret (.cst .non)] #[],.asg (.nm 3) ("leaves"<|#["with_sign"<|#[-0,-2,![48]],.idx (-1) (¬2)]),.asg (.nm 4) ("leaves"<|#["with_sign"<|#[-0,-2,![49]],.idx (-1) (¬3)]),.ite (.boo false (.val (.cmp .Is (-3) (.cst .non))) #[.val (.cmp .Is (-4) (.cst .non))]) #[.ret (.cst .non)] #[],.ret (.bin .Add true (-3) (-4))]
def mF:Sxs:=#[.ite (.boo false (.not (.val (.isi (-0) "str"))) #[.not (.val (.chn .LtE .LtE (¬1) (.bcl .len #[-0]) (.glb "LONGEST_DEED" (.int 8))))]) #[.ret (.cst (.bl false))] #[],.ret (.bcl .all #[.comp true (.cmp .In (-0) (.glb "LETTERS" (.str [97,98,99,100,101,102,103,104,105,106,107,108,109,110,111,112,113,114,115,116,117,118,119,120,121,122]))) (.nm 0) (.seq (-0)) .yes ["sign"] [none]])]
def mG:Sxs:=#[.ite (.boo false (.not (.val (.isi (-2) "str"))) #[.val (.cmp .NotEq (.bcl .len #[-2]) (-1))]) #[.ret (.cst (.bl false))] #[],.ret (.bcl .all #[.comp true (.cmp .In (-0) (-1)) (.nm 0) (.seq (-2)) .yes ["sign","signs"] [none,some 0]])]
def mH:Sxs:=#[.ret ("is_text_of"<|#[![48,49,42],-0,-1])]
def mJ:Sxs:=#[.ite (.boo false (.not (.val (.isi (-1) "tuple"))) #[.val (.cmp .NotEq (.bcl .len #[-1]) (¬2))]) #[.ret (.cst (.bl false))] #[],.ret (.boo true ("is_form"<|#[-0,.idx (-1) (¬0)]) #["is_deed"<|#[.idx (-1) (¬1)]])]
def mK:Sxs:=#[.ret (.boo true ("is_whole"<|#[-0]) #[.chn .LtE .LtE (¬1) (-0) (.glb "WIDEST" (.int 6))])]
def mL:Sxs:=#[.ite (.boo false (.not (.val (.isi (-0) "tuple"))) #[.val (.cmp .NotEq (.bcl .len #[-0]) (¬2))]) #[.ret (.cst (.bl false))] #[],.asg (.tp #[.nm 1,.nm 2]) (-0),.ite (.boo false (.not (.val ("is_width"<|#[-1]))) #[.not (.val (.isi (-2) "tuple")),.val (.cmp .Gt (.bcl .len #[-2]) (.glb "MOST_ROWS" (.int 12)))]) #[.ret (.cst (.bl false))] #[],.ret (.bcl .all #[.comp true ("is_row"<|#[-1,-0]) (.nm 0) (.seq (-2)) .yes ["row","width"] [none,some 1]])]
def mO:Sxs:=#[.ite (.not (.val ("is_book"<|#[-0]))) #[.nev] #[]]
def mQ:Sxs:=#[.exp ("need_book"<|#[-0]),.exp ("need_book"<|#[-1]),.ite (.val (.cmp .NotEq (.idx (-0) (¬0)) (.idx (-1) (¬0)))) #[.nev] #[]]
def jT:Sxs:=#[.ite (.val (.cmp .Is (-1) (.cst .non))) #[.ret (.cst .non)] #[],.ret (.idx (.idx (.idx (-0) (¬1)) (-1)) (¬1))]
def mR:Sxs:=#[.ret (.cmp .Eq ("deed_of"<|#[-0,.idx (-2) (¬1)]) ("deed_of"<|#[-1,.idx (-2) (¬2)]))]
def mU:Sxs:=#[.ret (.bin .Mult true (![42]) (-0))]
def mV:Sxs:=#[.exp ("need_two_books"<|#[-0,-1]),.asg (.nm 2) ("stars"<|#[.idx (-0) (¬0)]),.asg (.nm 3) ("grown"<|#[![115,97,109,101],.lst true #[.idx (-0) (¬1),.idx (-1) (¬1)],-2]),.asg (.nm 4) (.comp true ("least"<|#[-0]) (.tp #[.nm 0,.nm 1]) (.seq ("leaves"<|#[-2,-3])) (.not (.val ("same_deeds"<|#[-2,-3,-1]))) ["part","leaf","one","other"] [none,none,some 0,some 1]),.ite (.val (-4)) #[.ret (.tup #[![112,97,114,116,101,100],.bcl .min #[-4]])] #[],.ret (.tup #[![97,108,105,107,101],-3])]
def mW:Sxs:=#[.asg (.nm 2) (.bcl .len #[.idx (-0) (¬1)]),.ite (.boo false (.not (.val (.isi (-1) "tuple"))) #[.not (.val (.bcl .all #[.comp true ("is_place"<|#[-1,-0]) (.nm 0) (.seq (-1)) .yes ["number","many"] [none,some 2]]))]) #[.ret (.cst (.bl false))] #[],.ret (.cmp .Eq (.lcl true .sorted #[-1]) (.rgl true (-2)))]
def mX:Sxs:=#[.ite (.not (.val ("is_order"<|#[-0,-1]))) #[.nev] #[]]
def mY:Sxs:=#[.exp ("need_book"<|#[-0]),.exp ("need_order"<|#[-0,-1]),.asg (.tp #[.nm 2,.nm 3]) (-0),.ret (.tup #[-2,.bcl .tuple #[.comp true (.idx (-1) (-0)) (.nm 0) (.seq (-1)) .yes ["number","rows"] [none,some 3]]])]
def mZ:Sxs:=#[.ret (.rgt (.bcl .len #[.idx (-0) (¬1)]))]
def m5:Sxs:=#[.asg (.tp #[.nm 2,.nm 3]) ("alike"<|#[-0,-1]),.ret (.ife (.val (.cmp .Eq (-2) (![112,97,114,116,101,100]))) (-3) (.cst .non))]
def m6:Sxs:=#[.ret (.cmp .Is ("parting_word"<|#[-0,"by_order"<|#[-0,-1]]) (.cst .non))]
def m7:Sxs:=#[.exp ("need_book"<|#[-0]),.asg (.tp #[.nm 1,.nm 2]) (-0),.ite (.boo false (.val (.cmp .Gt (.bcl .len #[-2]) (.glb "MOST_ROWS_MOVED" (.int 5)))) #[.val (.cmp .Gt (-1) (.glb "WIDEST_MOVED" (.int 4)))]) #[.nev] #[]]
def m8:Sxs:=#[.ret (.bin .Add true (.bin .Add true (.slc true (-0) .no (.ob (-1))) (.tup #[.idx (-0) (.bin .Add true (-1) (¬1)),.idx (-0) (-1)])) (.slc true (-0) (.ob (.bin .Add true (-1) (¬2))) .no))]
def m9:Sxs:=#[.ret (.comp true (.tup #[-0,"exchanged"<|#[-1,-0]]) (.nm 0) (.rng (.bin .Sub true (.bcl .len #[-0]) (¬1))) .yes ["place","order"] [none,some 0])]
def ni:Sxs:=#[.exp ("need_movable"<|#[-0]),.exp ("need_order"<|#[-0,-1]),.ite (.not (.val (.bcl .all #[.comp true ("is_order"<|#[-1,-0]) (.nm 0) (.seq (-2)) .yes ["given","book"] [none,some 0]]))) #[.ret (.cst (.bl false))] #[],.asg (.nm 3) (.dcT (-2)),.ite (.boo false (.val (.cmp .NotEq (.bcl .len #[-3]) (.bcl .len #[-2]))) #[.val (.cmp .NotIn ("first_order"<|#[-0]) (-3)),.val (.cmp .In (-1) (-3))]) #[.ret (.cst (.bl false))] #[],.asg (.nm 4) (.cm2 (-2) (.nm 0) (.seq (-2)) (.tp #[.nm 1,.nm 2]) (.seq ("steps_from"<|#[-0])) (.val (.cmp .NotIn (-2) (-3))) ["given","place","there","standing"] [none,none,none,some 3]),.ret (.not (.bcl .any #[.comp true ("is_good"<|#[-1,-0]) (.nm 0) (.seq (-4)) .yes ["there","book"] [none,some 0]]))]
def nq:Sxs:=#[.exp ("need_movable"<|#[-0]),.exp ("need_order"<|#[-0,-1]),.asg (.nm 3) ("first_order"<|#[-0]),.for_ (.nm 4) (.seq (-2)) #[.ite (.not (.val ("is_place"<|#[.bin .Sub true (.bcl .len #[-3]) (¬1),-4]))) #[.ret (.cst (.bl false))] #[],.asg (.nm 3) ("exchanged"<|#[-3,-4]),.ite (.not (.val ("is_good"<|#[-0,-3]))) #[.ret (.cst (.bl false))] #[]],.ret (.cmp .Eq (-3) (-1))]
def nu:Sxs:=#[.asg (.nm 2) (.dp1 ("first_order"<|#[-0]) (.lst true #[])),.asg (.nm 3) .dnw,.asg (.nm 4) (.lcl true .list #[-2]),.whl (.boo true (.val (-4)) #[.val (.cmp .NotIn (-1) (-2))]) #[.asg (.nm 5) (.lst false #[]),.for_ (.nm 6) (.seq (-4)) #[.for_ (.tp #[.nm 7,.nm 8]) (.seq ("steps_from"<|#[-6])) #[.ite (.boo false (.val (.cmp .In (-8) (-2))) #[.val (.cmp .In (-8) (-3))]) #[.cnt] #[],.ite (.val ("is_good"<|#[-0,-8])) #[.set (-2) (-8) (.bin .Add true (.idx (-2) (-6)) (.lst true #[-7])),.exp (.mth .append (-5) #[-8])] #[.set (-3) (-8) (.cst (.bl true))]]],.asg (.nm 4) (.frz (-5))],.ret (-2)]
def nA:Sxs:=#[.exp ("need_movable"<|#[-0]),.exp ("need_order"<|#[-0,-1]),.asg (.nm 2) ("good_ways"<|#[-0,-1]),.ite (.val (.cmp .In (-1) (-2))) #[.ret (.tup #[![119,97,121],.idx (-2) (-1)])] #[],.ret (.tup #[![97,112,97,114,116],.lcl true .list #[-2]])]
def yK:Sxs:=#[.asg (.tp #[.nm 2,.nm 3]) ("way"<|#[-0,-1]),.asg (.nm 4) ("by_order"<|#[-0,-1]),.asg (.nm 5) ("_law_back"<|#[-1]),.asg (.nm 6) ("way"<|#[-4,-5]),.ite (.boo false (.val (.cmp .NotEq ("by_order"<|#[-4,-5]) (-0))) #[.val (.cmp .NotEq (.idx (-6) (¬0)) (-2))]) #[.ret (.cst (.bl false))] #[],.ite (.val (.cmp .Eq (-2) (![97,112,97,114,116]))) #[.ret (.cmp .Is ("is_apart"<|#[-0,-1,-3]) (.cst (.bl true)))] #[],.ite (.boo false (.val (.cmp .IsNot ("is_way"<|#[-0,-1,-3]) (.cst (.bl true)))) #[.val (.cmp .NotEq (.idx ("alike"<|#[-0,-4]) (¬0)) (![97,108,105,107,101]))]) #[.ret (.cst (.bl false))] #[],.ret (.boo true (.cmp .Is ("is_way"<|#[-4,-5,.rvs true (-3) (.neg (¬1))]) (.cst (.bl true))) #[.cmp .Eq (.bcl .len #[.idx (-6) (¬1)]) (.bcl .len #[-3])])]
def nF:Sxs:=#[.exp ("need_book"<|#[-0]),.asg (.tp #[.nm 2,.nm 3]) (-0),.ite (.not (.val ("is_place"<|#[.bin .Sub true (.bcl .len #[-3]) (¬1),-1]))) #[.nev] #[],.ret (.cmp .Is ("parting_word"<|#[-0,.tup #[-2,"exchanged"<|#[-3,-1]]]) (.cst .non))]
def yL:Sxs:=#[.asg (.nm 1) ("_law_open"<|#[-0]),.for_ (.nm 2) (.rng (¬2)) #[.asg (.nm 3) ("_law_book"<|#["_law_anew"<|#[-1],¬4,¬4]),.asg (.nm 4) (.bcl .len #[.idx (-3) (¬1)]),.for_ (.nm 5) (.rng (¬2)) #[.ite (.not (.val ("_law_right"<|#[-3,"_law_order"<|#[-1,-4]]))) #[.ret (.cst (.bl false))] #[]],.for_ (.nm 6) (.rng (.bin .Sub true (-4) (¬1))) #[.asg (.nm 7) (.rgl false (-4)),.set (-7) (-6) (.bin .Add true (-6) (¬1)),.set (-7) (.bin .Add true (-6) (¬1)) (-6),.asg (.nm 8) ("way"<|#[-3,.bcl .tuple #[-7]]),.ite (.val (.cmp .NotEq (.cmp .Eq (-8) (.tup #[![119,97,121],.lst true #[-6]])) ("may_swap"<|#[-3,-6]))) #[.ret (.cst (.bl false))] #[]]],.ret (.cst (.bl true))]
end
end RF
local macro_rules | `(tactic| simp_arith! [$l,*] $[$c:location]?) => `(tactic| simp only [↓RF.wO, ↓RF.ik, ↓RF.wQ, ↓RF.wR, ↓RF.wU, ↓RF.wV, ↓RF.wW, ↓RF.wX, ↓RF.wY, ↓RF.wZ, ↓RF.w5, ↓RF.v7, ↓RF.wI, ↓RF.wJ, ↓RF.Dk, ↓RF.Dl, ↓RF.VF, ↓RF.VG, ↓RF.aco, ↓RF.acu, ↓RF.vO, ↓RF.vP, ↓RF.vQ, ↓RF.lz, ↓RF.jA, ↓RF.ie, ↓RF.VD, ↓RF.vR, ↓RF.rA, ↓RF.vU, ↓RF.rB, ↓RF.vV, ↓RF.vW, ↓RF.vX, ↓RF.vY, ↓RF.vZ, ↓RF.v6, ↓RF.aaH, ↓RF.aaK, ↓RF.x_at, ↓RF.aaO, ↓RF.aaM, ↓RF.aaL, ↓RF.aaN, ↓RF.jB, ↓RF.v8, ↓RF.v9, ↓RF.wj, ↓RF.rD, ↓RF.rE, ↓RF.wk, ↓RF.wu, ↓RF.ww, ↓RF.wy, ↓RF.wz, ↓RF.wA, ↓RF.wC, ↓RF.wB, ↓RF.wD, ↓RF.wF, ↓RF.wG, ↓RF.wH, ↓RF.ig, ↓RF.wK, ↓RF.acs, ↓RF.Zt, ↓RF.Zu, ↓RF.Zv, ↓RF.Zw, ↓RF.Zx, ↓RF.Zy, ↓RF.Zz, ↓RF.ZC, ↓RF.ZD, ↓RF.ZF, ↓RF.ZG, ↓RF.ZJ, ↓RF.ZK, ↓RF.ZL, ↓RF.ZM, ↓RF.ZP, ↓RF.ZQ, ↓RF.ZR, ↓RF.ZS, ↓RF.ZV, ↓RF.ZW, ↓RF.ZX, ↓RF.ZZ, ↓RF.Z0, ↓RF.Z1, ↓RF.Z2, ↓RF.Z3, ↓RF.Z4, ↓RF.Z5, ↓RF.Z6, ↓RF.Z7, ↓RF.Z8, ↓RF.Z9, ↓RF.aaa, ↓RF.aab, ↓RF.aac, ↓RF.aad, ↓RF.aae, ↓RF.aaf, ↓RF.aah, ↓RF.aag, ↓RF.aai, ↓RF.aaj, ↓RF.aak, ↓RF.aal, ↓RF.aam, ↓RF.aap, ↓RF.aan, ↓RF.HB, ↓RF.aao, ↓RF.aaq, ↓RF.aar, ↓RF.aas, ↓RF.aat, ↓RF.aaz, ↓RF.aaA, ↓RF.aay, ↓RF.aaB, ↓RF.aax, ↓RF.aav, ↓RF.aaw, ↓RF.aau, ↓RF.aaC, ↓RF.aaD, ↓RF.aaE, ↓RF.aaF, ↓RF.aaG, ↓RF.aa7, ↓RF.aa6, ↓RF.aaJ, ↓RF.aaP, ↓RF.aaQ, ↓RF.aaR, ↓RF.aaS, ↓RF.HR, ↓RF.tR, ↓RF.HH, ↓RF.HJ, ↓RF.HN, ↓RF.aaT, ↓RF.aaU, ↓RF.wL, ↓RF.wM, ↓RF.rF, ↓RF.wN, ↓RF.aaV, ↓RF.aaW, ↓RF.aaX, ↓RF.aaY, ↓RF.aaZ, ↓RF.aa0, ↓RF.aa1, ↓RF.aa2, ↓RF.aa3, ↓RF.aa4, ↓RF.aa5, ↓RF.aa8, ↓RF.aa9, ↓RF.aba, ↓RF.abb, ↓RF.abd, ↓RF.abe, ↓RF.abf, ↓RF.abg, ↓RF.abh, ↓RF.abi, ↓RF.abj, ↓RF.abk, ↓RF.abl, ↓RF.abm, ↓RF.is_tup, ↓RF.abn, ↓RF.abo, ↓RF.abq, ↓RF.abp, ↓RF.abr, ↓RF.abt, ↓RF.Hy, RF.acp, RF.acq, RF.acr, Option.join_some, List.map_cons, List.map_nil, List.cons_append, List.nil_append, List.replicate_succ, List.replicate_zero, List.getElem?_cons_zero, List.getElem?_cons_succ, List.set_cons_zero, List.set_cons_succ, List.length_cons, List.length_nil, RF.Zf, RF.Zg, RF.Zh, RF.Zi, RF.Zk, RF.Zm, RF.Zn, true_and, and_true, Nat.min_self, Nat.zero_min, Nat.min_zero, Nat.zero_le, Bool.or_false, Bool.or_true, Bool.false_or, Bool.true_or, Bool.not_true, Bool.not_false, RF.abu, RF.abv, RF.abw, RF.abx, RF.aby, RF.abz, RF.abA, RF.abB, RF.abC, RF.abD, RF.abE, RF.abF, RF.abG, RF.abH, RF.abI, RF.abJ, RF.abK, RF.abL, RF.abM, RF.abN, RF.abO, RF.abP, RF.abQ, RF.abR, RF.abS, RF.abT, RF.abU, RF.abV, RF.abW, RF.abX, RF.abY, RF.abZ, RF.ab0, RF.ab1, RF.ab2, RF.ab3, RF.ab4, RF.ab5, RF.ab6, RF.ab7, RF.ab8, RF.ab9, RF.aca, RF.acb, RF.acd, RF.ace, RF.acf, RF.acg, RF.ach, RF.aci, RF.acj, RF.ack, RF.acl, RF.acn, RF.env0, RF.ends, String.reduceBEq, $l,*] $[$c:location]?)
local macro_rules | `(tactic| simp_arith [$l,*] $[$c:location]?) => `(tactic| simp_arith! [↓RF.lA, ↓RF.lB, $l,*] $[$c:location]?)
local macro_rules | `(tactic| simp_all_arith [$l,*]) => `(tactic| simp only [RF.env0, RF.ends, List.map_cons, List.map_nil, List.cons_append, List.nil_append, List.replicate_succ, List.replicate_zero, $l,*])
local macro_rules|`(tactic|bv_omega)=>`(tactic|(have hsz:RF.sz=1000000:=rfl;omega))
local macro_rules|`(tactic|symm)=>do let M:=Lean.mkIdent `M;let h:=Lean.mkIdent `hM;`(tactic|refine $h _ _ (RF.seq fun $M $h=>?_))
local macro_rules|`(tactic|nofun)=>do let M:=Lean.mkIdent `M;let h:=Lean.mkIdent `hM;`(tactic|refine RF.seq fun $M $h=>?_)
local macro_rules|`(tactic|ac_nf0)=>do let h:=Lean.mkIdent `hM;`(tactic|refine $h _ _ (RF.last ?_))
local macro_rules|`(tactic|erw[$[$x:term],*]$[$c:location]?)=>`(tactic|simp_arith[$[$x:term],*]$[$c:location]?)
namespace RF
open PySem L2
def iK{i j:Int}(h:-(2 ^ 64) < j/\j < 2 ^ 64):CMul i j:=.inr h
def yM{i j:Int}(h:-(2 ^ 64) < i/\i < 2 ^ 64):CMul i j:=.inl h
def HW{j:Int}(h:0<=j/\j<=1000):qH 10 j:=⟨h.1,!0,!1⟩
def tU:RF.Spec:=bL (λds _=>∃c k:Int,ds=[.int c,.int k]/\0<=k) (λ_ G d G'=>G'=G/\∃r:Int,d=.int r/\0<=r)
def acA(Z:aj)(ds:AS)(G:DH)(h:∃c k:Int,ds=[.int c,.int k]/\0<=k):az Z yu noE (env0 ds 3) G (ends λd G'=>G'=G/\∃r:Int,d=.int r/\0<=r):=by
 obtain ⟨c,k,rfl,hk⟩:=h;erw[yu];refine ⟨HW (!1),?_⟩;cases hc:decide (10 ^ Int.toNat 18<=c) with
 |true=>
  refine ⟨c,rfl,?_⟩;have:=ee hc;have h2:(0:Int)<=(10:Int) ^ (18:Int).toNat:=by decide
  exact Int.le_trans h2 this
 |false=>
  generalize hone:(c % 1000000007 * 69069+k * 40503+977) % 2147483629=one;have o1:0<=one:=by rw[<-hone];exact fF _ (!1)
  have o2:one < 2147483629:=by rw[<-hone];exact fy _ (!1)
  generalize htwo:(one * one+k * 7919+c % 65537) % 2147483587=two;have t1:0<=two:=by rw[<-htwo];exact fF _ (!1)
  have t2:two < 2147483587:=by rw[<-htwo];exact fy _ (!1)
  generalize hthree:(two * two+one * 31+5) % 2147483563=three;have h1:0<=three:=by rw[<-hthree];exact fF _ (!1)
  clear hone htwo hthree;refine ⟨!1,iK (!1),iK (!1),!1,yM (!0),iK (!1),!1,!1,yM (!0),iK (!1),!1,iK (!1),iK (!1),_,rfl,?_⟩;omega
def Pen(G:DH)(p:AQ):Prop:=∃(ns:List Int)(k st:Int),G p=some (.lst [.lst (ns.map D.int),.int k,.int st])/\0<=k/\0<=st
def Pen.sa{G G':DH}{p:AQ}(h:Pen G p)(s:Sa G G'):Pen G' p:=by obtain ⟨ns,k,st,e,h1⟩:=h;exact ⟨ns,k,st,s _ _ e,h1⟩
def Pen.ne{G:DH}{p q:AQ}(h:Pen G p)(e:G q=none):p≠q:=by obtain ⟨ns,k,st,e1,h1⟩:=h;exact qR e1 e
def Pen.sb{G G':DH}{p q:AQ}(h:Pen G p)(s:Sb q G G')(n:p≠q):Pen G' p:=by obtain ⟨ns,k,st,e,h1⟩:=h;exact ⟨ns,k,st,s _ _ e n,h1⟩
def tV:RF.Spec:=bL (λds G=>∃p,ds=[.ref p]/\Pen G p) (λds G d G'=>∃p,ds=[.ref p]/\d=.ref p/\Pen G' p/\Sb p G G')
def acB(Z:aj)(ds:AS)(G:DH)(h:∃p,ds=[.ref p]/\Pen G p):az Z yt noE (env0 ds 0) G (ends λd G'=>∃p,ds=[.ref p]/\d=.ref p/\Pen G' p/\Sb p G G'):=by obtain ⟨p,rfl,ns,k,st,e,h1,h2⟩:=h;erw[yt,cO e];exact ⟨p,rfl,rfl,⟨ns,k,0,bA,h1,!1⟩,Sb.upd⟩
def eF:RF.Spec:=bL (λds G=>∃p,∃m:Int,ds=[.ref p,.int m]/\Pen G p/\0 < m/\m < 1152921504606846976) (λds G d G'=>∃p,∃m r:Int,ds=[.ref p,.int m]/\d=.int r/\0<=r/\r < m/\Pen G' p/\Sb p G G')
def acC (Z:aj) (hΦ:Z "_law_spread"=tU) (ds:AS) (G:DH) (h:∃p,∃m:Int,ds=[.ref p,.int m]/\Pen G p/\0 < m/\m < 1152921504606846976):
  az Z yw noE (env0 ds 3) G (ends λd G'=>∃p,∃m r:Int,ds=[.ref p,.int m]/\d=.int r/\0<=r/\r < m/\Pen G' p/\Sb p G G'):=by
 obtain ⟨p,m,rfl,⟨ns,k,st,e,h1,h2⟩,h3,h4⟩:=h;simp_all_arith[yw];nofun;have fin:∀(ρ2 ρ3 ρ4:Option D)(G1:DH)(k1 s1:Int),0<=k1->0<=s1->G1 p=some (.lst [.lst (ns.map D.int),.int k1,.int s1])->Sb p G G1->M [some (.ref p),some (.int m),ρ2,ρ3,ρ4] G1:=by intro ρ2 ρ3 ρ4 G1 k1 s1 q1 q2 e1 sb;refine hM _ _ ?_;erw[eZ e1,cO e1];refine ⟨h3,⟨h3,h4⟩,p,m,_,rfl,rfl,fF _ (!0),fy _ h3,⟨ns,k1,_,bA,q1,?_⟩,sb.trans Sb.upd⟩;exact Int.ediv_nonneg q2 (!0)
 erw[eZ e,cO e,hΦ];have draw:∀c:Int,tU.t [.int c,.int k] (aL G p (.lst [.lst (ns.map D.int),.int (k+1),.int st])) (λx G1=>trk G1 p λds=>aV (ixN ds.length 2) λj=>M [some (.ref p),some (.int m),some (.int k),some (.int c),none] (aL G1 p (.lst (ds.set j x)))) noE:=by intro c;refine cC ⟨c,k,rfl,h1⟩ λd G' hx=>?_;obtain ⟨e1,r,e2,hr⟩:=hx;subst e1 e2;erw[cO bA];refine fin _ _ _ _ (k+1) r (!0) hr bA (Sb.trans Sb.upd Sb.upd)
 cases hc:decide (st < m) with
 |false=>exact fin _ _ _ _ k st h1 h2 e (Sb.refl _ _)
 |true=>
  cases hk:decide (k < ((ns.map D.int).length:Int)) with
  |true=>
   have hk:=ee hk;rw[af]at hk;refine bM (a:=.int ns[k.toNat]) ?_ ?_
   .obtain ⟨n,rfl⟩:=ci h1;exact cz (by simp at hk ⊢)
   .exact draw _
  |false=>
   cases hz:decide (0 < ((ns.map D.int).length:Int)) with
   |false=>exact draw 0
   |true=>
    have hz:=ee hz;have j1:0<=(k * 5+3) % ((ns.map D.int).length:Int):=fF _ (!0);have j2:(k * 5+3) % ((ns.map D.int).length:Int) < ((ns.map D.int).length:Int):=fy _ hz;obtain ⟨j,hj⟩:=ci j1;rw[hj]at j2;have j3:j < ns.length:=by rw[af]at j2;omega
    refine ⟨iK (!1),hz,bM (a:=.int ns[j]) ?_ ⟨HW (!1),?_⟩⟩
    .rw[hj];exact cz (by simp[j3])
    .erw[cO e];refine ⟨?_,draw _⟩;have:(0:Int) < 10 ^ Int.toNat 17:=by decide
     omega
def nG:RF.Spec:=bL (λds G=>∃p,∃n:Nat,∃cs:AA,ds=[.ref p,.int n,.str cs]/\Pen G p/\n<=1000/\cs≠[]/\cs.length<=1000)
 (λds G d G'=>∃p,∃n:Nat,∃cs l:AA,ds=[.ref p,.int n,.str cs]/\d=.str l/\l.length=n/\(∀c∈l,c∈cs)/\Pen G' p/\Sb p G G')
def acD(l:AA):((l.map λc=>[c]).map (·.length)).sum=l.length:=by
 induction l with
 |nil=>rfl
 |cons a l ih=>simp at ih ⊢;omega
def acE(l:AA):(l.map λc=>[c]).flatten=l:=by
 induction l with
 |nil=>rfl
 |cons a l ih=>simp at ih ⊢;exact ih
def acF (Z:aj) (hΦ:Z "_law_take"=eF) (ds:AS) (G:DH) (h:∃p,∃n:Nat,∃cs:AA,ds=[.ref p,.int n,.str cs]/\Pen G p/\n<=1000/\cs≠[]/\cs.length<=1000):
  az Z yx noE (env0 ds 0) G (ends λd G'=>∃p,∃n:Nat,∃cs l:AA,ds=[.ref p,.int n,.str cs]/\d=.str l/\l.length=n/\(∀c∈l,c∈cs)/\Pen G' p/\Sb p G G'):=by
 obtain ⟨p,n,cs,rfl,hp,hn,hc,hl⟩:=h;have hc1:0 < cs.length:=List.length_pos_iff.mpr hc;erw[yx,hΦ];refine ⟨!0,CompG.inv (P:=λi acc Y G'=>(∃o,Y=[o,some (.str cs),some (.ref p)])/\Pen G' p/\Sb p G G'/\∃l:AA,acc=l.map (λc=>D.str [c])/\l.length=i/\∀c∈l,c∈cs) (h0:=⟨⟨_,rfl⟩,hp,Sb.refl _ _,[],rfl,rfl,by simp⟩) (hh:=λ_ _ _ _ _=>trivial) (hl:=by simp[aR];bv_omega) (hs:=?_) (he:=?_)⟩
 .rintro i d acc Y G' hd ⟨⟨o,rfl⟩,hp',sb,l,rfl,hl',hm⟩ kk hk;erw[hΦ];refine cC ⟨p,_,rfl,hp',!0,!0⟩ λd' G2 hx=>?_;obtain ⟨p2,m2,r,e1,e2,r0,r1,pp2,sb2⟩:=hx;cases e1;subst e2;obtain ⟨j,rfl⟩:=ci r0;have hj:j < cs.length:=by omega
  erw[ends];refine bM (a:=cs[j]) (cz (by simp[hj])) (hk _ _ _ ⟨⟨_,rfl⟩,pp2,sb.trans sb2,l++[cs[j]],by simp,by simp[hl'],?_⟩);intro c hc;rcases aT.mp hc with h |h
  .exact hm c h
  .rw[ah.mp h];exact cp _
 .rintro acc Y G' ⟨_,hp',sb,l,rfl,hl',hm⟩;erw[strs_map];have hl2:l.length=n:=by rw[hl'];simp[aR]
  refine ⟨?_,p,n,cs,l,rfl,?_,hl2,hm,hp',sb⟩
  .rw[acD];simp;bv_omega
  .rw[Hu,acE]
def isF(c:Nat):Prop:=c=48\/c=49\/c=42
def yN:RF.Spec:=bL (λds G=>∃p,∃n:Nat,ds=[.ref p,.int n]/\Pen G p/\n<=1000) (λds G d G'=>∃p,∃n:Nat,∃l:AA,ds=[.ref p,.int n]/\d=.str l/\l.length=n/\(∀c∈l,isF c)/\Pen G' p/\Sb p G G')
def acG (Z:aj) (h1:Z "_law_take"=eF) (h2:Z "_law_signs"=nG) (ds:AS) (G:DH) (h:∃p,∃n:Nat,ds=[.ref p,.int n]/\Pen G p/\n<=1000):
  az Z yC noE (env0 ds 0) G (ends λd G'=>∃p,∃n:Nat,∃l:AA,ds=[.ref p,.int n]/\d=.str l/\l.length=n/\(∀c∈l,isF c)/\Pen G' p/\Sb p G G'):=by
 obtain ⟨p,n,rfl,hp,hn⟩:=h;erw[yC,h1,h2];refine ⟨!1,cC ⟨p,_,rfl,hp,!1,!1⟩ λd' G2 ⟨p2,m2,r,e1,e2,r0,r1,pp2,sb2⟩=>?_⟩;cases e1;subst e2;obtain ⟨j,rfl⟩:=ci r0;erw[ends];have:∃cs:AA,atI [D.str [48,49,42],D.str [48,49,42,42],D.str [48,49,42,42,42,42],D.str [48,42],D.str [48,49]] ((j:Nat):Int)=some (.str cs)/\cs≠[]/\cs.length<=1000/\∀c∈cs,isF c:=by
  have hj:j=0\/j=1\/j=2\/j=3\/j=4:=by omega
  rcases hj with rfl |rfl |rfl |rfl |rfl <;> exact ⟨_,rfl,!1,!1,by simp[isF]⟩
 obtain ⟨cs,e,c1,c2,c3⟩:=this;refine bM e (cC ⟨p,n,cs,rfl,pp2,hn,c1,c2⟩ λd G3 ⟨p3,n3,cs3,l,e1,e2,q1,q2,q3,q4⟩=>?_);cases e1;exact ⟨p,n,l,rfl,e2,q1,λc hc=>c3 c (q2 c hc),q3,sb2.trans q4⟩
def yO:RF.Spec:=bL (λds _=>∃ns:List Int,ds=[.scr ns]/\ns.length<=63) (λ_ G d G'=>∃p,d=.ref p/\G p=none/\Pen G' p/\Sa G G')
def acH(Z:aj)(ds:AS)(G:DH)(h:∃ns:List Int,ds=[.scr ns]/\ns.length<=63):az Z yH noE (env0 ds 3) G (ends λd G'=>∃p,d=.ref p/\G p=none/\Pen G' p/\Sa G G'):=by
 obtain ⟨ns,rfl,hl⟩:=h;simp_all_arith[yH];nofun;erw[ends];intro c hc;refine hM _ _ ?_;nofun;erw[ends];refine ForG.inv (λi Y G'=>∃(o2 o3:Option D)(xs:List Int),Y=[some (.scr ns),some (.ref c),o2,o3]/\G'=aL G c (.lst (xs.map D.int))/\(12<=xs.length\/cut ns (some 12) (some 63)=[])) ⟨_,_,cut ns none (some 12),rfl,rfl,?_⟩ (λ_ _ _ _=>trivial) ?_ ?_
 .by_cases h12:12<=ns.length
  .left;simp[cut,HT.sIx];omega
  .right;simp[cut,HT.sIx];omega
 .rintro i d Y G' hd ⟨o2,o3,xs,rfl,rfl,hx⟩ kk hk;rw[lU]at hd;obtain ⟨d',hd',e3⟩:=a7.mp hd;subst e3;rw[bq]at hd';obtain ⟨x,hx',e4⟩:=a7.mp hd';subst e4;have h12:12<=xs.length:=by
   rcases hx with h |h
   .exact h
   .rw[h]at hx';simp at hx'
  obtain ⟨j,hj⟩:=ci (fF ((0+i:Nat):Int) (by decide:(12:Int)≠0));have hj12:j < 12:=by have:=fy ((0+i:Nat):Int) (by decide:(0:Int) < 12);omega
  have hjx:j < xs.length:=by omega
  erw[hj,eZ bA,cO bA];refine ⟨!1,bM (a:=.int xs[j]) (cz (by simp[hjx])) ?_⟩;erw[hj,eZ bA,cO bA,af,Zj hjx];refine ⟨!1,hk _ _ ⟨_,_,xs.set j (xs[j]+x),rfl,?_,by simp[h12]⟩⟩;rw[Vt,List.map_set]
 .rintro Y G' ⟨o2,o3,xs,rfl,rfl,hx⟩;refine hM _ _ ?_;erw[bA];refine ⟨by bv_omega,λp hp=>⟨p,rfl,?_,⟨xs,0,0,bA,!1,!1⟩,?_⟩⟩
  .rw[Dd hc]at hp;exact hp
  .rw[Dd hc]at hp ⊢;exact Sa.new hp
def nH:RF.Spec:=bL (λds _=>∃ns:List Int,ds=[.scr ns]/\ns.length<=63) (λ_ _ d _=>d=.bl true)
def whole:D->Bool
 |.int _=>true
 |_=>false
def iM:AS->Option D
 |[x]=>if nr x then some (.bl (whole x)) else none
 |_=>none
def acI(Z:aj)(ds:AS)(G:DH)(d:D)(h:iM ds=some d):az Z mC noE (env0 ds 0) G (ends λd' G'=>G'=G/\d'=d):=by
 unfold iM at h;split at h
 .rename_i x;split at h
  .rename_i hx;cases h;cases x <;> first | (simp[nr]at hx;done) | (erw[mC,whole];try simp)
  .cases h
 .cases h
def okF(w:Nat)(l:AA):Prop:=l.length=w/\∀c∈l,isF c
def okF.app{w v:Nat}{l m:AA}(h:okF w l)(h':okF v m):okF (w+v) (l++m):=⟨by rw[aw,h.1,h'.1],λc hc=>(aT.mp hc).elim (h.2 c) (h'.2 c)⟩
def okF.one{c:Nat}(h:isF c):okF 1 [c]:=⟨rfl,λd hd=>by rw[ah.mp hd];exact h⟩
def cY{p:AQ}{m:Int}{G:DH}{k:AT}{E:EK}(hp:Pen G p)(h1:0 < m)(h2:m < 1152921504606846976)(hk:∀(r:Nat)(G':DH),(r:Int) < m->Pen G' p->Sb p G G'->k (.int r) G'):eF.t [.ref p,.int m] G k E:=by refine cC ⟨p,m,rfl,hp,h1,h2⟩ λd G' hx=>?_;obtain ⟨p2,m2,r,e1,e2,r0,r1,hp',sb⟩:=hx;cases e1;subst e2;obtain ⟨n,rfl⟩:=ci r0;exact hk n G' r1 hp' sb
def acJ{n:Nat}(h:(n:Int) < 2):∃c,atI [48,49] (n:Int)=some c/\isF c:=by
 have:n=0\/n=1:=by omega
 rcases this with rfl |rfl
 .exact ⟨48,rfl,.inl rfl⟩
 .exact ⟨49,rfl,.inr (.inl rfl)⟩
def acK{n:Nat}(h:(n:Int) < 3):∃c,atI [48,49,42] (n:Int)=some c/\isF c:=by
 have:n=0\/n=1\/n=2:=by omega
 rcases this with rfl |rfl |rfl
 .exact ⟨48,rfl,.inl rfl⟩
 .exact ⟨49,rfl,.inr (.inl rfl)⟩
 .exact ⟨42,rfl,.inr (.inr rfl)⟩
def yP(ds:AS)(G:DH):Prop:=∃p l,ds=[.ref p,.str l]/\Pen G p/\(∀c∈l,isF c)/\l.length<=1000
def yQ(ds:AS)(G:DH)(d:D)(G':DH):Prop:=∃p l m,ds=[.ref p,.str l]/\d=.str m/\okF l.length m/\Pen G' p/\Sb p G G'
def iQ:RF.Spec:=bL yP yQ
def HX{p:AQ}{l:AA}{G:DH}{k:AT}{E:EK}(hp:Pen G p)(hl:∀c∈l,isF c)(h2:l.length<=1000)(hk:∀(m:AA)(G':DH),okF l.length m->Pen G' p->Sb p G G'->k (.str m) G'):iQ.t [.ref p,.str l] G k E:=by refine cC ⟨p,l,rfl,hp,hl,h2⟩ λd G' hx=>?_;obtain ⟨p2,l2,m,e1,e2,h,hp',sb⟩:=hx;cases e1;subst e2;exact hk m G' h hp' sb
def acL (Z:aj) (h1:Z "_law_take"=eF) (ds:AS) (G:DH) (h:yP ds G):az Z yE noE (env0 ds 2) G (ends (yQ ds G)):=by
 obtain ⟨p,l,rfl,hp,hl,hl2⟩:=h;simp_all_arith[yE];nofun;erw[ends];symm;simp_arith![ends];refine ForG.inv (P:=λi Y G'=>(∃o m,Y=[some (.ref p),some (.str l),some (.str m),o]/\okF i m)/\Pen G' p/\Sb p G G') ⟨⟨_,_,rfl,rfl,by simp⟩,hp,Sb.refl _ _⟩ (λ_ _ _ _=>trivial) ?_ ?_
 .rintro i d Y G2 hd ⟨⟨o,m,rfl,hm⟩,hp2,sb2⟩ kk hk;rw[bq]at hd;obtain ⟨c,hc,rfl⟩:=a7.mp hd;have hi:i < l.length:=(ar.mp hc).1;have fc:=hl c (cw hc);have l1:=hm.1;simp_arith![ends];nofun;have fin:∀(c:Nat)(G3:DH),isF c->Pen G3 p->Sb p G2 G3->M [some (.ref p),some (.str l),some (.str m),some (.str [c])] G3:=by
   intro c G3 fc hp3 sb3;ac_nf0;erw[ends];exact ⟨by bv_omega,hk _ _ ⟨⟨_,_,rfl,hm.app (okF.one fc)⟩,hp3,sb2.trans sb3⟩⟩
  erw[h1];cases ht:([c]==[42]) with
  |false=>exact fin c G2 fc hp2 (Sb.refl _ _)
  |true=>
   refine cY hp2 (!1) (!1) λr G3 hr hp3 sb3=>?_;erw[ends];cases hr0:((r:Int)==0) with
   |false=>exact fin c G3 fc hp3 sb3
   |true=>
    refine cY hp3 (!1) (!1) λr' G4 hr' hp4 sb4=>?_;obtain ⟨c',e,fc'⟩:=acJ hr';erw[e];exact fin c' G4 fc' hp4 (sb3.trans sb4)
 .rintro Y G2 ⟨⟨o,m,rfl,hm⟩,hp2,sb2⟩;refine hM _ _ ?_;erw[ends];exact ⟨p,l,m,rfl,rfl,!!hm,hp2,sb2⟩
def acM (Z:aj) (h1:Z "_law_take"=eF) (ds:AS) (G:DH) (h:yP ds G):az Z yD noE (env0 ds 2) G (ends (yQ ds G)):=by
 obtain ⟨p,l,rfl,hp,hl,hl2⟩:=h;simp_all_arith[yD];nofun;erw[ends];symm;simp_arith![ends];refine ForG.inv (P:=λi Y G'=>(∃o m,Y=[some (.ref p),some (.str l),some (.str m),o]/\okF i m)/\Pen G' p/\Sb p G G') ⟨⟨_,_,rfl,rfl,by simp⟩,hp,Sb.refl _ _⟩ (λ_ _ _ _=>trivial) ?_ ?_
 .rintro i d Y G2 hd ⟨⟨o,m,rfl,hm⟩,hp2,sb2⟩ kk hk;rw[bq]at hd;obtain ⟨c,hc,rfl⟩:=a7.mp hd;have hi:i < l.length:=(ar.mp hc).1;have fc:=hl c (cw hc);have l1:=hm.1;simp_arith![ends];nofun;have fin:∀(c:Nat)(G3:DH),isF c->Pen G3 p->Sb p G2 G3->M [some (.ref p),some (.str l),some (.str m),some (.str [c])] G3:=by
   intro c G3 fc hp3 sb3;ac_nf0;erw[ends];exact ⟨by bv_omega,hk _ _ ⟨⟨_,_,rfl,hm.app (okF.one fc)⟩,hp3,sb2.trans sb3⟩⟩
  erw[h1];refine cY hp2 (!1) (!1) λr G3 hr hp3 sb3=>?_;erw[ends];cases hr0:((r:Int)==0) with
  |false=>exact fin c G3 fc hp3 sb3
  |true=>exact fin 42 G3 (.inr (.inr rfl)) hp3 sb3
 .rintro Y G2 ⟨⟨o,m,rfl,hm⟩,hp2,sb2⟩;refine hM _ _ ?_;erw[ends];exact ⟨p,l,m,rfl,rfl,!!hm,hp2,sb2⟩
def HY{G G':DH}{p:AQ}{x:D}{fs:List (AA)}(hv:view G x=.lst (fs.map D.str))(hp:Pen G p)(sb:Sb p G G'):view G' x=.lst (fs.map D.str):=by
 cases x with
 |ref q=>
  unfold view at hv;dsimp only at hv;cases g:G q with
  |none=>rw[g]at hv;cases hv
  |some o=>
   cases o with
   |lst ds=>
    rw[g]at hv;have e:ds=fs.map D.str:=by simpa using hv
    have hn:q≠p:=by
     rintro rfl;obtain ⟨ns,k,st,e1,_⟩:=hp;rw[g,e]at e1;cases fs with
     |nil=>simp at e1
     |cons a r=>simp at e1
    rw[eZ (sb q _ g hn),e]
   |dct _ _=>rw[g]at hv;cases hv
 |lst l=>exact hv
 |_=>cases hv
def H9(ds:AS)(G:DH):Prop:=∃p,∃w:Nat,∃x,∃fs:List (AA),ds=[.ref p,.int w,x]/\Pen G p/\0 < w/\w<=1000/\view G x=.lst (fs.map D.str)/\fs.length<=1000/\∀f∈fs,okF w f
def yR(ds:AS)(G:DH)(d:D)(G':DH):Prop:=∃p,∃w:Nat,∃x m,ds=[.ref p,.int w,x]/\d=.str m/\okF w m/\Pen G' p/\Sb p G G'
def tW:RF.Spec:=bL H9 yR
def acN{p:AQ}{w:Nat}{x:D}{fs:List (AA)}{G:DH}{k:AT}{E:EK}(hp:Pen G p)(h1:0 < w)(h2:w<=1000)(hv:view G x=.lst (fs.map D.str))(h3:fs.length<=1000)(h4:∀f∈fs,okF w f)
  (hk:∀(m:AA)(G':DH),okF w m->Pen G' p->Sb p G G'->k (.str m) G'):tW.t [.ref p,.int w,x] G k E:=by
 refine cC ⟨p,w,x,fs,rfl,hp,h1,h2,hv,h3,h4⟩ λd G' hx=>?_;obtain ⟨p2,w2,x2,m,e1,e2,h,hp',sb⟩:=hx;simp only[dL,D.ref.injEq,D.int.injEq,Int.ofNat_inj,and_true]at e1;obtain ⟨rfl,rfl,rfl⟩:=e1;subst e2;exact hk m G' h hp' sb
def acO(fs:List (AA)):nrs (fs.map D.str)=true:=by
 induction fs with
 |nil=>rfl
 |cons a l ih=>rw[aS,nrs,ih];rfl
def acP(fs:List (AA)):bf (fs.map D.str)=0:=by
 induction fs with
 |nil=>rfl
 |cons a l ih=>rw[aS,bf,ih];rfl
def acQ{w n:Nat}{l:AA}{c:Nat}(h:okF w l)(hn:n < w)(fc:isF c):okF w (cut l none (some (n:Int))++[c]++cut l (some ((n:Int)+1)) none):=by
 have h1:=h.1;rw[yp,Hx];refine ⟨?_,λd hd=>?_⟩
 .simp;omega
 .rcases aT.mp hd with hd |hd
  .rcases aT.mp hd with hd |hd
   .exact h.2 d (List.mem_of_mem_take hd)
   .rw[ah.mp hd];exact fc
  .exact h.2 d (List.mem_of_mem_drop hd)
def acR (Z:aj) (h1:Z "_law_take"=eF) (h2:Z "_law_form"=yN) (h3:Z "_law_within"=iQ) (h4:Z "_law_wider"=iQ) (ds:AS) (G:DH) (h:H9 ds G):az Z yF noE (env0 ds 3) G (ends (yR ds G)):=by
 obtain ⟨p,w,x,fs,rfl,hp,w1,w2,hv,hf,hfs⟩:=h;simp_all_arith[yF];nofun;erw[h1];refine cY hp (!1) (!1) λkd G2 hkd hp2 sb2=>?_;have hv2:=HY hv hp sb2;symm;have drawn:∀(Y:ak) (G3:DH),Pen G3 p->Sb p G G3->az Z (.cons (.ret (.call "_law_form" (.cons (.var 0) (.cons (.var 1) .nil)))) .nil) noE (some (.ref p)::some (.int w)::Y) G3 { nx:=M,rt:=yR [.ref p,.int w,x] G,bk:=λ_ _=>False,ct:=λ_ _=>False }:=by intro Y G3 hp3 sb3;erw[h2];refine cC ⟨p,w,rfl,hp3,w2⟩ λd G4 hx=>?_;obtain ⟨p4,n4,l,e1,e2,l1,l2,hp4,sb4⟩:=hx;simp only[dL,D.ref.injEq,D.int.injEq,Int.ofNat_inj,and_true]at e1;obtain ⟨rfl,rfl⟩:=e1;exact ⟨p,w,x,l,rfl,e2,⟨l1,l2⟩,hp4,sb3.trans sb4⟩
 simp_arith![hv2,Zq,acP,acO];refine ⟨!1,?_⟩;cases he:(fs.map D.str).isEmpty with
 |true=>exact drawn _ _ hp2 sb2
 |false=>
  have hlen:0 < fs.length:=by
   cases fs with
   |nil=>simp at he
   |cons a r=>simp
  simp_arith![ends];cases hk2:decide ((kd:Int) < 2) with
  |true=>exact drawn _ _ hp2 sb2
  |false=>
   erw[ends];symm;erw[h1,hv2,af];refine cY hp2 (!0) (!0) λr G3 hr hp3 sb3=>?_;have hv3:=HY hv2 hp2 sb3;erw[hv3];have hr':r < fs.length:=by omega
   refine bM (a:=.str fs[r]) (cz (by simp[hr'])) ?_;have fok:=hfs fs[r] (cp _);generalize fs[r]=f at fok;symm;have sb':=sb2.trans sb3;erw[ends];cases hk3:((kd:Int)==2) with
   |true=>exact ⟨p,w,x,f,rfl,rfl,fok,hp3,sb'⟩
   |false=>
    symm;simp_arith![ends];cases hk5:decide ((kd:Int) < 5) with
    |true=>
     erw[h1];refine cY hp3 (!0) (!0) λat' G4 hat hp4 sb4=>?_;refine cY hp4 (!1) (!1) λs G5 hs hp5 sb5=>?_;obtain ⟨c,e,fc⟩:=acK hs;have c1:=Hv f none (some (at':Int));have c2:=Hv f (some ((at':Int)+1)) none;have f1:=fok.1;erw[e,aw];exact ⟨by bv_omega,by bv_omega,p,w,x,_,rfl,rfl,acQ fok (!0) fc,hp5,sb'.trans (sb4.trans sb5)⟩
    |false=>
     erw[ends];symm;have f1:=fok.1;erw[h3];cases hk6:((kd:Int)==5) with
     |true=>
      refine HX hp3 fok.2 (!0) λm G4 hm hp4 sb4=>?_;rw[f1]at hm;exact ⟨p,w,x,m,rfl,rfl,hm,hp4,sb'.trans sb4⟩
     |false=>
      refine hM _ _ ?_;erw[h4];refine HX hp3 fok.2 (!0) λm G4 hm hp4 sb4=>?_;rw[f1]at hm;exact ⟨p,w,x,m,rfl,rfl,hm,hp4,sb'.trans sb4⟩
def okD(l:AA):Prop:=1<=l.length/\l.length<=8/\∀c∈l,97<=c/\c<=122
def acS{p:AQ}{n:Nat}{cs:AA}{G:DH}{k:AT}{E:EK}(hp:Pen G p)(hn:n<=1000)(h1:cs≠[])(h2:cs.length<=1000)(hk:∀(l:AA)(G':DH),l.length=n->(∀c∈l,c∈cs)->Pen G' p->Sb p G G'->k (.str l) G'):nG.t [.ref p,.int n,.str cs] G k E:=by refine cC ⟨p,n,cs,rfl,hp,hn,h1,h2⟩ λd G' hx=>?_;obtain ⟨p2,n2,cs2,l,e1,e2,l1,l2,hp',sb⟩:=hx;simp only[dL,D.ref.injEq,D.int.injEq,D.str.injEq,Int.ofNat_inj,and_true]at e1;obtain ⟨rfl,rfl,rfl⟩:=e1;subst e2;exact hk l G' l1 l2 hp' sb
def Ia(ds:AS)(G:DH):Prop:=∃p,∃m:Int,ds=[.ref p,.int m]/\Pen G p/\0 < m/\m<=100
def Ib(ds:AS)(G:DH)(d:D)(G':DH):Prop:=∃p,∃m:Int,∃xs:List (AA),ds=[.ref p,.int m]/\d=.lst (xs.map D.str)/\0 < xs.length/\xs.length<=100/\(∀x∈xs,okD x)/\Pen G' p/\Sb p G G'
def tX:RF.Spec:=bL Ia Ib
def yS:List (AA):=[[97],[103,111],[115,116,97,121],[97,98,99,100,101,102,103,104],[110,111,110,101],[121,101,115],[105,110],[111,117,116],[107,101,101,112],[119,111,114,100],[122,122]]
def acT:∀x∈yS,okD x:=by
 have h:∀x∈yS,1<=x.length/\x.length<=8/\∀c∈x,97<=c/\c<=122:=by decide
 exact h
def Ie{c:Nat}(h:c∈[97,98,99,100,101,102,103,104,105,106,107,108,109,110,111,112,113,114,115,116,117,118,119,120,121,122]):97<=c/\c<=122:=by
 have:∀c∈[97,98,99,100,101,102,103,104,105,106,107,108,109,110,111,112,113,114,115,116,117,118,119,120,121,122],97<=c/\c<=122:=by decide
 exact this c h
def acU (Z:aj) (h1:Z "_law_take"=eF) (h2:Z "_law_signs"=nG) (ds:AS) (G:DH) (h:Ia ds G):az Z yz noE (env0 ds 4) G (ends (Ib ds G)):=by
 obtain ⟨p,m,rfl,hp,m1,m2⟩:=h;simp_all_arith[yz];nofun;erw[ends];refine ⟨!1,hM _ _ ?_⟩;refine (λtail=>tail yS rfl acT) (?_:∀xs:List (AA),xs.length=11->(∀x∈xs,okD x)->az Z _ noE [some (.ref p),some (.int m),some (.lst (xs.map D.str)),none,none,none] G _);intro xs x1 x2;nofun;erw[h1];refine cY hp (!1) (!1) λt G2 ht hp2 sb2=>?_;symm;erw[h1];refine cY hp2 (!0) (!0) λr G3 hr hp3 sb3=>?_;erw[ends];refine ⟨!0,?_⟩;refine CompG.inv (P:=λi acc Y G'=>(∃o,Y=[o,some (.lst (xs.map D.str)),some (.int t)])/\G'=G3/\∃ys:List (AA),acc=ys.map D.str/\ys.length=i/\∀y∈ys,okD y) ⟨⟨_,rfl⟩,rfl,[],rfl,rfl,by simp⟩ (λ_ _ _ _ _=>trivial) (by simp[aR];bv_omega) ?_ ?_
 .rintro i d acc Y G' hd ⟨⟨o,rfl⟩,rfl,ys,rfl,y1,y2⟩ kk hk;unfold aR at hd;rw[bq]at hd;obtain ⟨j,hj,rfl⟩:=a7.mp hd;erw[ends];have q0:0<=((t:Int)+3 * (0+(j:Int))) % 11:=fF _ (!1);have q1:((t:Int)+3 * (0+(j:Int))) % 11 < 11:=fy _ (!1);refine ⟨yM (!1),!1,Hz q0 (by rw[af,x1];exact q1) λa ha=>?_⟩;obtain ⟨x,hx,rfl⟩:=bp.mp ha;refine hk _ _ _ ⟨⟨_,rfl⟩,rfl,ys++[x],by simp,by simp[y1],λy hy=>?_⟩;rcases aT.mp hy with h |h
  .exact y2 y h
  .rw[ah.mp h];exact x2 x hx
 .rintro acc Y G' ⟨_,rfl,ys,rfl,y1,y2⟩;have hy:ys.length=r+1:=by rw[y1];simp[aR];omega
  symm;erw[h1];refine cY hp3 (!1) (!1) λq G4 hq hp4 sb4=>?_;have sb':=sb2.trans (sb3.trans sb4);erw[ends];cases hq0:((q:Int)==0) with
  |false=>
   refine hM _ _ ?_;erw[ends];exact ⟨p,m,ys,rfl,rfl,!0,!0,y2,hp4,sb'⟩
  |true=>
   erw[ends];refine CompG.inv (P:=λi acc Y G'=>(∃o,Y=[o,some (.ref p),some (.str [97,98,99,100,101,102,103,104,105,106,107,108,109,110,111,112,113,114,115,116,117,118,119,120,121,122])])/\Pen G' p/\Sb p G G'/\∃zs:List (AA),acc=zs.map D.str/\zs.length=i/\∀z∈zs,okD z) ⟨⟨_,rfl⟩,hp4,sb',[],rfl,rfl,by simp⟩ (λ_ _ _ _ _=>trivial) (by simp;bv_omega) ?_ ?_
   .rintro i d acc Y G' hd ⟨⟨o,rfl⟩,hp5,sb5,zs,rfl,z1,z2⟩ kk hk;erw[h1,h2];refine cY hp5 (!1) (!1) λn G6 hn hp6 sb6=>?_;erw[ends];rw[show (1:Int)+(n:Int)=((n+1:Nat):Int) by omega];refine acS hp6 (!0) (by simp) (by simp) λl G7 l1 l2 hp7 sb7=>?_;refine hk _ _ _ ⟨⟨_,rfl⟩,hp7,sb5.trans (sb6.trans sb7),zs++[l],by simp,by simp[z1],λz hz=>?_⟩;rcases aT.mp hz with h |h
    .exact z2 z h
    .rw[ah.mp h];exact ⟨!0,!0,λc hc=>Ie (l2 c hc)⟩
   .rintro acc Y G' ⟨_,hp5,sb5,zs,rfl,z1,z2⟩;rw[af]at z1;refine hM _ _ ?_;erw[ends];exact ⟨p,m,zs,rfl,rfl,!0,!0,z2,hp5,sb5⟩
abbrev Row:=AA×AA
abbrev AU:=List Row
def aP(r:Row):D:=.tup [.str r.1,.str r.2]
def au(w:Nat)(rs:AU):D:=.tup [.int w,.tup (rs.map aP)]
structure okB(w:Nat)(rs:AU):Prop where
 w1:1<=w
 w6:w<=6
 len:rs.length<=12
 form:∀r∈rs,okF w r.1
 deed:∀r∈rs,okD r.2
def Ig(ds:AS)(G:DH):Prop:=∃p,∃w m:Nat,ds=[.ref p,.int w,.int m]/\Pen G p/\1<=w/\w<=6/\m<=12
def Ih(ds:AS)(G:DH)(d:D)(G':DH):Prop:=∃p,∃w m v:Nat,∃rs:AU,ds=[.ref p,.int w,.int m]/\d=au v rs/\okB v rs/\v<=w/\rs.length<=m/\Pen G' p/\Sb p G G'
def tY:RF.Spec:=bL Ig Ih
def acV{p:AQ}{w m:Nat}{G:DH}{k:AT}{E:EK}(hp:Pen G p)(h1:1<=w)(h2:w<=6)(h3:m<=12)(hk:∀(v:Nat)(rs:AU)(G':DH),okB v rs->v<=w->rs.length<=m->Pen G' p->Sb p G G'->k (au v rs) G'):tY.t [.ref p,.int w,.int m] G k E:=by refine cC ⟨p,w,m,rfl,hp,h1,h2,h3⟩ λd G' hx=>?_;obtain ⟨p2,w2,m2,v,rs,e1,e2,o,q1,q2,hp',sb⟩:=hx;simp only[dL,D.ref.injEq,D.int.injEq,Int.ofNat_inj,and_true]at e1;obtain ⟨rfl,rfl,rfl⟩:=e1;subst e2;exact hk v rs G' o q1 q2 hp' sb
def acW{p:AQ}{m:Int}{G:DH}{k:AT}{E:EK}(hp:Pen G p)(h1:0 < m)(h2:m<=100)(hk:∀(xs:List (AA))(G':DH),0 < xs.length->xs.length<=100->(∀x∈xs,okD x)->Pen G' p->Sb p G G'->k (.lst (xs.map D.str)) G'):tX.t [.ref p,.int m] G k E:=by refine cC ⟨p,m,rfl,hp,h1,h2⟩ λd G' hx=>?_;obtain ⟨p2,m2,xs,e1,e2,q1,q2,q3,hp',sb⟩:=hx;cases e1;subst e2;exact hk xs G' q1 q2 q3 hp' sb
def Bo{α:Type}{l:List α}{a:α}:atI (l++[a]) (-1)=some a:=by unfold atI ixN;rw[if_neg (!1),if_pos (by simp;omega),aw,dv,show (-1+((l.length+1:Nat):Int)).toNat=l.length by omega];simp
def acX (Z:aj) (h1:Z "_law_take"=eF) (h2:Z "_law_deeds_of"=tX) (h3:Z "_law_form_like"=tW) (ds:AS) (G:DH) (h:Ig ds G):az Z yG noE (env0 ds 5) G (ends (Ih ds G)):=by
 obtain ⟨p,w,m,rfl,hp,w1,w2,m1⟩:=h;simp_all_arith[yG];nofun;erw[h1];refine cY hp (!0) (!0) λn G2 hn hp2 sb2=>?_;erw[ends];rw[show (1:Int)+(n:Int)=((n+1:Nat):Int) by omega];symm;erw[h2];refine acW hp2 (!1) (!1) λxs G3 x1 x2 x3 hp3 sb3=>?_;symm;erw[ends];refine λq hq=>hM _ _ (seq λM hM=>?_);erw[ends];refine λs hs=>hM _ _ (seq λM hM=>?_);have hqs:q≠s:=by rintro rfl;rw[bA]at hs;cases hs
 have hs3:G3 s=none:=by rw[bY (Ne.symm hqs)]at hs;exact hs
 have npq:p≠q:=hp3.ne hq;have nps:p≠s:=hp3.ne hs3;have sa4:Sa G3 (aL (aL G3 q (.lst [])) s (.lst [])):=(Sa.new hq).trans (Sa.new hs);have hp4:=hp3.sa sa4;simp_arith![h1];refine cY hp4 (!0) (!0) λr G5 hr hp5 sb5=>?_;simp_arith![ends];refine ⟨!0,?_⟩;refine ForG.inv (P:=λi Y G'=>(∃o,Y=[some (.ref p),some (.int w),some (.int m),some (.int ((n+1:Nat):Int)),some (.lst (xs.map D.str)),some (.ref q),some (.ref s),o])/\Pen G' p/\Sb p G G'/\
   ∃rs:AU,G' q=some (.lst ((rs.map (·.1)).map D.str))/\G' s=some (.lst (rs.map aP))/\rs.length=i/\(∀r∈rs,okF (n+1) r.1)/\∀r∈rs,okD r.2) ⟨⟨_,rfl⟩,hp5,sb2.trans (sb3.trans (sa4.sb.trans sb5)),[],?_,?_,rfl,by simp,by simp⟩ (λ_ _ _ _=>trivial) ?_ ?_
 .exact sb5 q _ (by rw[bY hqs];exact bA) (Ne.symm npq)
 .exact sb5 s _ bA (Ne.symm nps)
 .rintro i d Y G' hd ⟨⟨o,rfl⟩,hp6,sb6,rs,g1,g2,r1,r2,r3⟩ kk hk;have hi:i < r:=by
   have:=(ar.mp hd).1;simpa [aR] using this
  simp_arith![ends];nofun;erw[h3,cO g1];refine acN (fs:=rs.map (·.1)) hp6 (!0) (!0) (eZ g1) (by simp;omega) (λf hf=>?_) λf G7 hf hp7 sb7=>?_
  .obtain ⟨r',hr',rfl⟩:=bp.mp hf;exact r2 r' hr'
  have g1':=sb7 q _ g1 (Ne.symm npq);have g2':=sb7 s _ g2 (Ne.symm nps);erw[cO g1'];refine ⟨by simp;bv_omega,hM _ _ (last ?_)⟩;have e2:aL G7 q (.lst ((rs.map (·.1)).map D.str++[.str f])) s=some (.lst (rs.map aP)):=by rw[bY (Ne.symm hqs)];exact g2'
  have hp8:Pen (aL G7 q (.lst ((rs.map (·.1)).map D.str++[.str f]))) p:=hp7.sb Sb.upd npq;erw[h1,cO e2,eZ bA,Bo,af];refine cY hp8 (!0) (!0) λt G9 ht hp9 sb9=>?_;have e1':=sb9 q _ bA (Ne.symm npq);have e2':=sb9 s _ e2 (Ne.symm nps);erw[cO e2'];refine Hz (!0) (by simp;omega) λx hx=>?_;obtain ⟨dd,hdd,rfl⟩:=bp.mp hx;refine ⟨!1,by simp;bv_omega,hk _ _ ⟨⟨_,rfl⟩,hp9.sb Sb.upd nps,?_,rs++[(f,dd)],?_,?_,by simp[r1],?_,?_⟩⟩
  .intro b ob hb nb;by_cases hbs:b=s
   .subst hbs;exfalso;have z:=sb2 b _ hb nb;have z:=sb3 b _ z nb;rw[hs3]at z;cases z
   .by_cases hbq:b=q
    .subst hbq;exfalso;have z:=sb2 b _ hb nb;have z:=sb3 b _ z nb;rw[hq]at z;cases z
    .rw[bY hbs];exact sb9 b _ (by rw[bY hbq];exact sb7 b _ (sb6 b _ hb nb) nb) nb
  .rw[bY hqs,e1'];simp
  .rw[bA];simp[aP]
  .intro r' hr';rcases aT.mp hr' with h |h
   .exact r2 r' h
   .rw[ah.mp h];exact hf
  .intro r' hr';rcases aT.mp hr' with h |h
   .exact r3 r' h
   .rw[ah.mp h];exact x3 dd hdd
 .rintro Y G' ⟨⟨o,rfl⟩,hp6,sb6,rs,g1,g2,r1,r2,r3⟩;have hl:rs.length=r:=by rw[r1];simp[aR]
  refine hM _ _ ?_;erw[eZ g2];exact ⟨!1,p,w,m,n+1,rs,rfl,rfl,⟨!0,!0,!0,r2,r3⟩,!0,!0,hp6,sb6⟩
def alt(c:Nat):AA:=if c=42 then [48,49] else [c]
def step1(acc:List (AA))(c:Nat):List (AA):=acc.flatMap λt=>(alt c).map λs=>t++[s]
def gO(f:AA):List (AA):=f.foldl step1 [[]]
def Fits(f w:AA):Prop:=f.length=w.length/\∀(i c s:Nat),f[i]?=some c->w[i]?=some s->s∈alt c
def acY(f:AA)(c:Nat):gO (f++[c])=step1 (gO f) c:=by unfold gO;rw[List.foldl_append];rfl
def acZ{acc:List (AA)}{c:Nat}{w:AA}:w∈step1 acc c↔∃t s,t∈acc/\s∈alt c/\w=t++[s]:=by
 unfold step1;rw[List.mem_flatMap];constructor
 .rintro ⟨t,ht,h⟩;obtain ⟨s,hs,rfl⟩:=bp.mp h;exact ⟨t,s,ht,hs,rfl⟩
 .rintro ⟨t,s,ht,hs,rfl⟩;exact ⟨t,ht,bp.mpr ⟨s,hs,rfl⟩⟩
def yU{f w:AA}{c s:Nat}:Fits (f++[c]) (w++[s])↔Fits f w/\s∈alt c:=by
 constructor
 .rintro ⟨h1,h2⟩;have hl:f.length=w.length:=by simpa using h1
  refine ⟨⟨hl,λi c' s' hc hs=>?_⟩,?_⟩
  .have i1:=(ar.mp hc).1;exact h2 i c' s' (by rw[d0 i1];exact hc) (by rw[d0 (!0)];exact hs)
  .exact h2 f.length c s (by simp) (by rw[hl];simp)
 .rintro ⟨⟨h1,h2⟩,h3⟩;refine ⟨by simp[h1],λi c' s' hc hs=>?_⟩;by_cases hi:i < f.length
  .rw[d0 hi]at hc;rw[d0 (!0)]at hs;exact h2 i c' s' hc hs
  .have i2:=(ar.mp hc).1;simp at i2;have e:i=f.length:=by omega
   subst e;simp at hc;rw[h1]at hs;simp at hs;subst hc hs;exact h3
def nJ{f w:AA}:w∈gO f↔Fits f w:=by
 induction f using Zr generalizing w with
 |nil=>
  simp[gO,Fits];constructor
  .rintro rfl;simp
  .intro h;exact cS.mp h.symm
 |snoc f c ih=>
  rw[acY,acZ];constructor
  .rintro ⟨t,s,ht,hs,rfl⟩;exact yU.mpr ⟨ih.mp ht,hs⟩
  .intro h;have hl:=h.1;simp at hl;have hne:w≠[]:=by rintro rfl;simp at hl
   refine ⟨w.dropLast,w.getLast hne,?_,?_,(fE hne).symm⟩
   .rw[<-fE hne]at h;exact ih.mpr (yU.mp h).1
   .rw[<-fE hne]at h;exact (yU.mp h).2
def letters:AA:=[97,98,99,100,101,102,103,104,105,106,107,108,109,110,111,112,113,114,115,116,117,118,119,120,121,122]
def ac0:∀c:Fin 123,97<=c.1->letters.contains c.1=true:=by decide
def ac1{c:Nat}:letters.contains c=true↔97<=c/\c<=122:=
 ⟨λh=>Ie (bv.mp h),λ⟨h1,h2⟩=>ac0 ⟨c,Nat.lt_succ_of_le h2⟩ h1⟩
def okW(w:Nat)(l:AA):Prop:=l.length=w/\∀c∈l,c=48\/c=49
def yV{α:Type}(l:List α):bools (l.map λ_=>D.bl true)=some (l.map λ_=>true):=lW _ l
def yW{α:Type}(l:List α):(l.map λ_=>true).all id=true:=bP.mpr λx hx=>by obtain ⟨_,_,rfl⟩:=bp.mp hx;rfl
def yX:RF.Spec:=bG (λa:AA×AA=>[.str a.1,.int a.2.length,.str a.2]) (λa=>a.2.length<=1000/\∀c∈a.2,a.1.contains c=true) (λ_=>.bl true)
def ac2(Z:aj)(a:AA×AA)(G:DH)(h:a.2.length<=1000/\∀c∈a.2,a.1.contains c=true):az Z mG noE (env0 [.str a.1,.int a.2.length,.str a.2] 0) G (ends λd G'=>G'=G/\d=.bl true):=by
 obtain ⟨s,l⟩:=a;obtain ⟨h1,h2⟩:=h;dsimp only at h1 h2;erw[mG,BEq.rfl];refine CompG.map (f:=λ_=>.bl true) (I:=λY=>∃o,Y=[o,some (.str s)]) ⟨_,rfl⟩ trivial (by simp;bv_omega) ?_ ?_
 .rintro d Y hd ⟨o,rfl⟩ kk hk;obtain ⟨c,hc,rfl⟩:=bp.mp hd;erw[h2 c hc];exact hk _ ⟨_,rfl⟩
 .erw[yV,yW]
def yZ:RF.Spec:=bG (λl:AA=>[.int l.length,.str l]) (λl=>l.length<=1000/\∀c∈l,isF c) (λ_=>.bl true)
def ac3 (Z:aj) (h1:Z "is_text_of"=yX) (l:AA) (G:DH) (h:l.length<=1000/\∀c∈l,isF c):az Z mH noE (env0 [.int l.length,.str l] 0) G (ends λd G'=>G'=G/\d=.bl true):=by erw[mH,h1];exact bN ([48,49,42],l) rfl ⟨h.1,λc hc=>by rcases h.2 c hc with rfl |rfl |rfl <;> rfl⟩ ⟨rfl,rfl⟩
def za:RF.Spec:=bG (λl:AA=>[.str l]) okD (λ_=>.bl true)
def ac4(Z:aj)(l:AA)(G:DH)(h:okD l):az Z mF noE (env0 [.str l] 0) G (ends λd G'=>G'=G/\d=.bl true):=by
 obtain ⟨h1,h2,h3⟩:=h;have b1:decide ((1:Int)<=(l.length:Int))=true:=bX (!0);have b2:decide ((l.length:Int)<=8)=true:=bX (!0);erw[mF,b1,b2];refine CompG.map (f:=λ_=>.bl true) (I:=λY=>∃o,Y=[o]) ⟨_,rfl⟩ trivial (by simp;bv_omega) ?_ ?_
 .rintro d Y hd ⟨o,rfl⟩ kk hk;obtain ⟨c,hc,rfl⟩:=bp.mp hd;have hcl:[97,98,99,100,101,102,103,104,105,106,107,108,109,110,111,112,113,114,115,116,117,118,119,120,121,122].contains c=true:=ac1.mpr (h3 c hc);erw[hcl];exact hk _ ⟨_,rfl⟩
 .erw[yV,yW]
def zb:RF.Spec:=bG (λa:Nat×Row=>[.int a.1,aP a.2]) (λa=>a.1<=6/\okF a.1 a.2.1/\okD a.2.2) (λ_=>.bl true)
def ac5 (Z:aj) (h1:Z "is_form"=yZ) (h2:Z "is_deed"=za) (a:Nat×Row) (G:DH) (h:a.1<=6/\okF a.1 a.2.1/\okD a.2.2):az Z mJ noE (env0 [.int a.1,aP a.2] 0) G (ends λd G'=>G'=G/\d=.bl true):=by obtain ⟨w,f,d⟩:=a;obtain ⟨hw,hf,hd⟩:=h;dsimp only at hw hf hd;erw[mJ,aP,h1,h2];erw[show ((0+1+1:Nat):Int)=2 from rfl,BEq.rfl];refine bN f (by rw[hf.1]) ⟨by rw[hf.1];omega,hf.2⟩ ?_;erw[ends];exact bN d rfl hd ⟨rfl,rfl⟩
def zc:RF.Spec:=bG (λw:Nat=>[.int w]) (λw=>1<=w/\w<=6) (λ_=>.bl true)
def ac6 (Z:aj) (h1:Z "is_whole"=aY iM) (w:Nat) (G:DH) (h:1<=w/\w<=6):az Z mK noE (env0 [.int w] 0) G (ends λd G'=>G'=G/\d=.bl true):=by have b1:decide ((1:Int)<=(w:Int))=true:=bX (!0);have b2:decide ((w:Int)<=6)=true:=bX (!0);erw[mK,h1];refine dR (d:=.bl true) rfl ?_;erw[b1,b2]
def zf:RF.Spec:=bG (λa:Nat×AU=>[au a.1 a.2]) (λa=>okB a.1 a.2) (λ_=>.bl true)
def ac7 (Z:aj) (h1:Z "is_width"=zc) (h2:Z "is_row"=zb) (a:Nat×AU) (G:DH) (h:okB a.1 a.2):az Z mL noE (env0 [au a.1 a.2] 2) G (ends λd G'=>G'=G/\d=.bl true):=by
 obtain ⟨w,rs⟩:=a;dsimp only at h ⊢;have hlen:=h.len;simp_all_arith[mL,au];nofun;erw[ends];erw[show ((0+1+1:Nat):Int)=2 from rfl,BEq.rfl];symm;erw[ends];symm;erw[h1];refine bN w rfl ⟨h.w1,h.w6⟩ ?_;have hd:decide ((12:Int) < ((rs.map aP).length:Int))=false:=ce (by rw[af];omega);erw[hd];refine hM _ _ ?_;erw[ends];refine CompG.map (f:=λ_=>.bl true) (I:=λY=>∃o,Y=[o,some (.int w)]) ⟨_,rfl⟩ trivial (by rw[af];bv_omega) ?_ ?_
 .rintro d Y hd ⟨o,rfl⟩ kk hk;obtain ⟨r,hr,rfl⟩:=bp.mp hd;erw[h2];exact bN (w,r) rfl ⟨h.w6,h.form r hr,h.deed r hr⟩ (hk _ ⟨_,rfl⟩)
 .erw[yV,yW]
def iR:RF.Spec:=bG (λa:Nat×AU=>[au a.1 a.2]) (λa=>okB a.1 a.2) (λ_=>.non)
def nM{w:Nat}{rs:AU}{G:DH}{k:AT}{E:EK}(h:okB w rs)(hk:k .non G):iR.t [au w rs] G k E:=bN (w,rs) rfl h hk
def ac8 (Z:aj) (h1:Z "is_book"=zf) (a:Nat×AU) (G:DH) (h:okB a.1 a.2):az Z mO noE (env0 [au a.1 a.2] 0) G (ends λd G'=>G'=G/\d=.non):=by erw[mO,h1];refine bN a rfl h ?_;erw[ends]
def zg(c s:Nat):Bool:=c==42||c==s
def jU:AA->AA->Bool
 |c::f,s::w=>zg c s&&jU f w
 |_,_=>true
def fB(f w:AA):Bool:=decide (f.length=w.length)&&jU f w
def Ii:∀(f w:AA),cj (f.map λc=>D.str [c]) (w.map λc=>D.str [c])=(f.zip w).map λp=>D.tup [.str [p.1],.str [p.2]]
 |[],w=>by simp[cj]
 |c::f,[]=>by simp[cj]
 |c::f,s::w=>by simp[cj,Ii f w]
def jV{c s:Nat}:(([c]==[s]):Bool)=(c==s):=by
 by_cases h:c=s
 .subst h;simp
 .rw[d4.mpr h,d4.mpr (by simp[h])]
def Ij{c s:Nat}(hs:s=48\/s=49):zg c s=true↔s∈alt c:=by
 unfold zg alt;by_cases h:c=42
 .subst h;simp;rcases hs with rfl |rfl <;> simp
 .simp[h];exact eq_comm
def dF(rs:AU)(w:AA):Option Nat:=rs.findIdx? λr=>fB r.1 w
def bc:Option Nat->D
 |some n=>.int n
 |none=>.non
def Ik{w v:Nat}{rs ss:AU}(h:au w rs=au v ss):w=v/\rs=ss:=by
 unfold au at h;simp only[D.tup.injEq,dL,D.int.injEq,Int.ofNat_inj,and_true]at h;refine ⟨h.1,?_⟩;have h2:=h.2;clear h;induction rs generalizing ss with
 |nil=>cases ss with
  |nil=>rfl
  |cons _ _=>simp at h2
 |cons r rs ih=>cases ss with
  |nil=>simp at h2
  |cons s ss=>
   simp only[aS,dL]at h2;have e:r=s:=by have:=h2.1;unfold aP at this;simp only[D.tup.injEq,dL,D.str.injEq,and_true]at this;exact Prod.ext this.1 this.2
   rw[e,ih h2.2]
def ac9{rs:AU}{l:AA}{i:Nat}{r:Row}(h:rs[i]?=some r):dF (rs.drop i) l=if fB r.1 l then some 0 else (dF (rs.drop (i+1)) l).map (·+1):=by
 have hi:=(ar.mp h).1;have e:rs.drop i=r::rs.drop (i+1):=by rw[bo hi];rw[(ar.mp h).2]
 rw[e];unfold dF;rw[eR]
def jW(rs:AU):Option Nat->D
 |some n=>match rs[n]? with |some r=>.str r.2 |none=>.non
 |none=>.non
def tZ:RF.Spec:=bL (λds _=>∃w rs o,ds=[au w rs,bc o]/\∀n,o=some n->n < rs.length) (λds G d G'=>G'=G/\∃w rs o,ds=[au w rs,bc o]/\d=jW rs o)
def ada{a b:Option Nat}(h:bc a=bc b):a=b:=by cases a <;> cases b <;> simp[bc]at h ⊢ <;> omega
def Il{w:Nat}{rs:AU}{o:Option Nat}{G:DH}{k:AT}{E:EK}(h:∀n,o=some n->n < rs.length)(hk:k (jW rs o) G):tZ.t [au w rs,bc o] G k E:=by refine cC ⟨w,rs,o,rfl,h⟩ λd G' hx=>?_;obtain ⟨e1,w2,rs2,o2,e2,e3⟩:=hx;simp only[dL,and_true]at e2;obtain ⟨e2,e4⟩:=e2;obtain ⟨rfl,rfl⟩:=Ik e2;cases ada e4;subst e1 e3;exact hk
def adb(Z:aj)(ds:AS)(G:DH)(h:∃w rs o,ds=[au w rs,bc o]/\∀n,o=some n->n < rs.length):az Z jT noE (env0 ds 0) G (ends λd G'=>G'=G/\∃w rs o,ds=[au w rs,bc o]/\d=jW rs o):=by
 obtain ⟨w,rs,o,rfl,ho⟩:=h;cases o with
 |none=>
  erw[jT,bc];exact ⟨w,rs,none,rfl,rfl⟩
 |some n=>
  have hn:=ho n rfl;erw[jT,bc,au];refine bM (a:=aP rs[n]) (cz (by simp[hn])) ?_;erw[aP];exact ⟨w,rs,some n,rfl,by simp[jW,hn]⟩
def okB.sub{w:Nat}{rs ss:AU}(h:okB w rs)(hl:ss.length<=rs.length)(hs:∀r∈ss,r∈rs):okB w ss:=
 ⟨h.w1,h.w6,ca hl h.len,λr hr=>h.form r (hs r hr),λr hr=>h.deed r (hs r hr)⟩
def adc(c:Nat)(n:Nat):reps [c] n=List.replicate n c:=by
 unfold reps;induction n with
 |zero=>rfl
 |succ n ih=>rw[ft,ia,ih,ft];rfl
def ade(w:Nat):okF w (List.replicate w 42):=⟨cK,λc hc=>.inr (.inr (List.eq_of_mem_replicate hc))⟩
def Im{w:Nat}{l:AA}:Fits (List.replicate w 42) l↔okW w l:=by
 constructor
 .rintro ⟨h1,h2⟩;rw[cK]at h1;refine ⟨h1.symm,λc hc=>?_⟩;obtain ⟨i,hi,rfl⟩:=List.getElem_of_mem hc;have:=h2 i 42 l[i] (by rw[List.getElem?_replicate];rw[if_pos (!0)]) (by simp[hi]);simpa [alt] using this
 .rintro ⟨h1,h2⟩;refine ⟨by rw[cK,h1],λi c s hc hs=>?_⟩;rw[List.getElem?_replicate]at hc;split at hc
  .cases hc;have:=h2 s (cw hs);simpa [alt] using this
  .cases hc
def adf{p:AQ}{G:DH}{k:AT}{E:EK}(hp:Pen G p)(hk:∀G',Pen G' p->Sb p G G'->k (.ref p) G'):tV.t [.ref p] G k E:=
 cC ⟨p,rfl,hp⟩ λd G' hx=>by obtain ⟨p2,e1,e2,hp',sb⟩:=hx;cases e1;subst e2;exact hk G' hp' sb
def eG(a b:Nat):Option Nat:=if a=42 then some b else if b=42\/b=a then some a else none
def cJ:AA->AA->Option (AA)
 |a::f,b::g=>match eG a b with |some c=>(cJ f g).map (c::·) |none=>none
 |_,_=>some []
def cZ:Option (AA)->D
 |some l=>.str l
 |none=>.non
def nO:AS->Option D
 |[.str f,.str g]=>if decide (f.length<=100000) then some (cZ (cJ f g)) else none
 |_=>none
def adg{f g:AA}{i a b:Nat}(h:(f.zip g)[i]?=some (a,b)):cJ (f.drop i) (g.drop i)=match eG a b with |some c=>(cJ (f.drop (i+1)) (g.drop (i+1))).map (c::·) |none=>none:=by
 have hz:=ar.mp h;obtain ⟨hl,he⟩:=hz;rw[List.length_zip]at hl;have h1:i < f.length:=by omega
 have h2:i < g.length:=by omega
 rw[List.getElem_zip]at he;rw[bo h1,bo h2];simp only[Prod.mk.injEq]at he;rw[he.1,he.2];rfl
def adh{f g:AA}:cJ (f.drop (f.zip g).length) (g.drop (f.zip g).length)=some []:=by
 rw[List.length_zip];by_cases h:f.length<=g.length
 .rw[Nat.min_eq_left h,e7];cases g.drop f.length <;> rfl
 .rw[g0 (!0),e7];cases f.drop g.length <;> rfl
def adi(Z:aj)(ds:AS)(G:DH)(d:D)(h:nO ds=some d):az Z lZ noE (env0 ds 3) G (ends λd' G'=>G'=G/\d'=d):=by
 unfold nO at h;split at h
 .rename_i f g;split at h
  .rename_i hl;have hl:=ee hl;cases h;simp_all_arith[lZ];nofun;erw[ends];symm;simp_arith![Ii];refine ForG.inv (P:=λi Y G'=>(∃o3 o4 m,Y=[some (.str f),some (.str g),some (.str m),o3,o4]/\m.length=i/\cJ f g=(cJ (f.drop i) (g.drop i)).map (m ++ ·))/\G'=G) ⟨⟨_,_,[],rfl,rfl,by simp⟩,rfl⟩ (λ_ _ _ _=>trivial) ?_ ?_
   .rintro i d Y G' hd ⟨⟨o3,o4,m,rfl,hm,hb⟩,rfl⟩ kk hk;rw[bq]at hd;obtain ⟨⟨a,b⟩,hab,rfl⟩:=a7.mp hd;have hi:=(ar.mp hab).1;rw[List.length_zip]at hi;rw[adg hab]at hb;simp_arith![ends];refine last ?_;have put:∀(c:Nat)(o3 o4:Option D),eG a b=some c->m.length+1<=sz/\kk [some (.str f),some (.str g),some (.str (m++[c])),o3,o4] G':=by
     intro c o3 o4 hc;rw[hc]at hb;refine ⟨by bv_omega,hk _ _ ⟨⟨_,_,_,rfl,by simp[hm],?_⟩,rfl⟩⟩;rw[hb,Option.map_map];congr 1;funext x;simp
    erw[jV];by_cases h42:a=42
    .have:((a==42):Bool)=true:=by simp[h42]
     erw[this];exact put b _ _ (if_pos h42)
    .have h0:((a==42):Bool)=false:=by simp[h42]
     erw[h0,jV];by_cases hb42:b=42
     .have:((b==42):Bool)=true:=by simp[hb42]
      erw[this];exact put a _ _ (by unfold eG;rw[if_neg h42,if_pos (.inl hb42)])
     .have h1:((b==42):Bool)=false:=by simp[hb42]
      erw[h1,jV];by_cases hba:b=a
      .have:((b==a):Bool)=true:=by simp[hba]
       erw[this];exact put a _ _ (by unfold eG;rw[if_neg h42,if_pos (.inr hba)])
      .have:((b==a):Bool)=false:=by simp[hba]
       erw[this];have hn:eG a b=none:=by unfold eG;rw[if_neg h42,if_neg (by rintro (h |h);exact hb42 h;exact hba h)]
       rw[hn]at hb;rw[hb];rfl
   .rintro Y G' ⟨⟨o3,o4,m,rfl,hm,hb⟩,rfl⟩;rw[af,adh]at hb;refine hM _ _ ?_;erw[ends];rw[hb];simp[cZ]
  .cases h
 .cases h
def gP:AS->Option D
 |[.str f,.int n,.str [c]]=>if decide (0<=n)&&decide (n < f.length)&&decide (f.length<=1000) then some (.str (f.set n.toNat c)) else none
 |_=>none
def adk{l:AA}{n c:Nat}(h:n < l.length):l.take n++[c]++l.drop (n+1)=l.set n c:=by rw[List.set_eq_take_append_cons_drop,if_pos h];simp
def adl(Z:aj)(ds:AS)(G:DH)(d:D)(h:gP ds=some d):az Z my noE (env0 ds 0) G (ends λd' G'=>G'=G/\d'=d):=by
 unfold gP at h;split at h
 .rename_i f n c;split at h
  .rename_i hl;simp only[ae,ck]at hl;obtain ⟨⟨h0,h1⟩,h2⟩:=hl;cases h;obtain ⟨k,rfl⟩:=ci h0;erw[my,yp,Hx,aw,eL,eM,bS,adk (show k < f.length by omega)];exact ⟨by bv_omega,by bv_omega⟩
  .cases h
 .cases h
def iT:AS->Option D
 |[.int n]=>if decide (0<=n)&&decide (n<=1000) then some (.str (List.replicate n.toNat 42)) else none
 |_=>none
def adm(Z:aj)(ds:AS)(G:DH)(d:D)(h:iT ds=some d):az Z mU noE (env0 ds 0) G (ends λd' G'=>G'=G/\d'=d):=by
 unfold iT at h;split at h
 .rename_i n;split at h
  .rename_i hl;simp only[ae,ck]at hl;cases h;erw[mU,adc];exact ⟨hl.1,hl.2,by bv_omega⟩
  .cases h
 .cases h
def bO(rs:AU)(b:AA):Option Nat:=rs.findIdx? λr=>(cJ r.1 b).isSome
def Io(ds:AS)(_:DH):Prop:=∃(rs:AU)(b:AA),ds=[.tup (rs.map aP),.str b]/\∀r∈rs,r.1.length<=1000
def Ip(ds:AS)(G:DH)(d:D)(G':DH):Prop:=G'=G/\∃(rs:AU)(b:AA),ds=[.tup (rs.map aP),.str b]/\d=bc (bO rs b)
def nP:RF.Spec:=bL Io Ip
def zj{rs ss:AU}(h:rs.map aP=ss.map aP):rs=ss:=(Ik (w:=0) (v:=0) (by unfold au;rw[h])).2
def Ir{rs:AU}{b:AA}{G:DH}{k:AT}{E:EK}(h:∀r∈rs,r.1.length<=1000)(hk:k (bc (bO rs b)) G):nP.t [.tup (rs.map aP),.str b] G k E:=by refine cC ⟨rs,b,rfl,h⟩ λd G' hx=>?_;obtain ⟨e1,rs2,b2,e2,e3⟩:=hx;simp only[dL,D.str.injEq,D.tup.injEq,and_true]at e2;obtain ⟨e2,rfl⟩:=e2;cases zj e2;subst e1 e3;exact hk
def adn{o:Option (AA)}:eY (cZ o)=!o.isSome:=by cases o <;> rfl
def ado{G:DH}{o:Option (AA)}:view G (cZ o)=cZ o:=by cases o <;> rfl
def adp{rs:AU}{b:AA}{i:Nat}{r:Row}(h:rs[i]?=some r):bO (rs.drop i) b=if (cJ r.1 b).isSome then some 0 else (bO (rs.drop (i+1)) b).map (·+1):=by
 have hi:=(ar.mp h).1;have e:rs.drop i=r::rs.drop (i+1):=by rw[bo hi];rw[(ar.mp h).2]
 rw[e];unfold bO;rw[eR]
def adq (Z:aj) (h1:Z "both"=aY nO) (ds:AS) (G:DH) (h:Io ds G):az Z mj noE (env0 ds 2) G (ends (Ip ds G)):=by
 obtain ⟨rs,b,rfl,hb⟩:=h;simp_all_arith[mj];nofun;simp_arith![ends];refine ForG.inv (P:=λi Y G'=>(∃o2 o3,Y=[some (.tup (rs.map aP)),some (.str b),o2,o3])/\G'=G/\bO rs b=(bO (rs.drop i) b).map (·+i)) ⟨⟨_,_,rfl⟩,rfl,by simp⟩ (λ_ _ _ _=>trivial) ?_ ?_
 .rintro i d Y G' hd ⟨⟨o2,o3,rfl⟩,rfl,hmet⟩ kk hk;rw[lU]at hd;obtain ⟨d',hd',rfl⟩:=a7.mp hd;rw[bq]at hd';obtain ⟨r,hr,rfl⟩:=a7.mp hd';have hrl:=hb r (cw hr);rw[adp hr]at hmet;simp_arith![ends];refine last ?_;erw[h1,aP];refine dR (d:=cZ (cJ r.1 b)) (if_pos (bX (!0))) ?_;erw[ado,adn];cases hf:(cJ r.1 b).isSome with
  |true=>
   rw[hf,if_pos rfl]at hmet;exact ⟨rfl,rs,b,rfl,by rw[hmet];simp[bc]⟩
  |false=>
   rw[hf,if_neg br]at hmet;refine hk _ _ ⟨⟨_,_,rfl⟩,rfl,?_⟩;rw[hmet,Option.map_map];congr 1;funext n;simp;omega
 .rintro Y G' ⟨⟨o2,o3,rfl⟩,rfl,hmet⟩;rw[lR,af,e7]at hmet;refine hM _ _ ?_;erw[ends];exact ⟨rfl,rs,b,rfl,by rw[hmet];rfl⟩
def dg(f b:AA):Option Nat:=(f.zip b).findIdx? λp=>p.2==42&&!(p.1==42)
def dw(rs:AU)(b:AA):Option Nat:=match bO rs b with |some n=>(match rs[n]? with |some r=>dg r.1 b |none=>none) |none=>none
def Iu(ds:AS)(_:DH):Prop:=∃(rs:AU)(b:AA),ds=[.tup (rs.map aP),.str b]/\(∀r∈rs,r.1.length=b.length)/\b.length<=1000
def Iv(ds:AS)(G:DH)(d:D)(G':DH):Prop:=G'=G/\∃(rs:AU)(b:AA),ds=[.tup (rs.map aP),.str b]/\d=bc (dw rs b)
def t6:RF.Spec:=bL Iu Iv
def adt{rs:AU}{b:AA}{G:DH}{k:AT}{E:EK}(h:∀r∈rs,r.1.length=b.length)(hl:b.length<=1000)(hk:k (bc (dw rs b)) G):t6.t [.tup (rs.map aP),.str b] G k E:=by refine cC ⟨rs,b,rfl,h,hl⟩ λd G' hx=>?_;obtain ⟨e1,rs2,b2,e2,e3⟩:=hx;simp only[dL,D.str.injEq,D.tup.injEq,and_true]at e2;obtain ⟨e2,rfl⟩:=e2;cases zj e2;subst e1 e3;exact hk
def t7{rs:AU}{b:AA}{n:Nat}(h:bO rs b=some n):n < rs.length:=(List.findIdx?_eq_some_iff_findIdx_eq.mp h).1
def adu{f b:AA}{i s c:Nat}(hs:f[i]?=some s)(hc:b[i]?=some c):dg (f.drop i) (b.drop i)=if (c==42&&!(s==42))=true then some 0 else (dg (f.drop (i+1)) (b.drop (i+1))).map (·+1):=by have h1:=ar.mp hs;have h2:=ar.mp hc;rw[bo h1.1,bo h2.1,h1.2,h2.2];unfold dg;rw[List.zip_cons_cons,eR]
def adv (Z:aj) (h1:Z "first_touching"=nP) (ds:AS) (G:DH) (h:Iu ds G):az Z mq noE (env0 ds 3) G (ends (Iv ds G)):=by
 obtain ⟨rs,b,rfl,hb,hbl⟩:=h;simp_all_arith[mq];nofun;erw[h1];refine Ir (λr hr=>by rw[hb r hr];exact hbl) (hM _ _ (seq λM hM=>?_));cases ht:bO rs b with
 |none=>
  erw[bc];exact ⟨rfl,rs,b,rfl,by unfold dw;rw[ht];rfl⟩
 |some n=>
  have hn:=t7 ht;have hlen:=hb rs[n] (cp _);have hsp:dw rs b=dg rs[n].1 b:=by unfold dw;rw[ht];simp[hn]
  erw[bc];symm;simp_arith![ends];refine bM (a:=aP rs[n]) (cz (by simp[hn])) ?_;simp_arith![aP];generalize rs[n].1=f at hlen hsp;refine ForG.inv (P:=λi Y G'=>(∃o3 o4,Y=[some (.tup (rs.map aP)),some (.str b),some (.int (n:Int)),o3,o4])/\G'=G/\dg f b=(dg (f.drop i) (b.drop i)).map (·+i)) ⟨⟨_,_,rfl⟩,rfl,by simp⟩ (λ_ _ _ _=>trivial) ?_ ?_
  .rintro i d Y G' hd ⟨⟨o3,o4,rfl⟩,rfl,hs⟩ kk hk;rw[lU]at hd;obtain ⟨d',hd',rfl⟩:=a7.mp hd;rw[bq]at hd';obtain ⟨s,hsi,rfl⟩:=a7.mp hd';have hi:=(ar.mp hsi).1;have hib:i < b.length:=by omega
   have hbi:b[i]?=some b[i]:=by simp[hib]
   rw[adu hsi hbi]at hs;simp_arith![ends];refine last ?_;erw[ends];refine bM (a:=b[i]) (by rw[Nat.zero_add];exact cz hbi) ?_;erw[jV];cases h42:(b[i]==42) with
   |false=>
    simp only[h42,gV,if_neg br]at hs;erw[ends];refine hk _ _ ⟨⟨_,_,rfl⟩,rfl,?_⟩;rw[hs,Option.map_map];congr 1;funext n;simp;omega
   |true=>
    erw[jV];cases hs42:(s==42) with
    |true=>
     simp only[h42,hs42,hW,gl,if_neg br]at hs;erw[ends];refine hk _ _ ⟨⟨_,_,rfl⟩,rfl,?_⟩;rw[hs,Option.map_map];congr 1;funext n;simp;omega
    |false=>
     simp only[h42,hs42,Bool.not_false,Bool.and_true,if_pos]at hs;erw[ends];exact ⟨rfl,rs,b,rfl,by rw[hsp,hs];simp[bc]⟩
  .rintro Y G' ⟨⟨o3,o4,rfl⟩,rfl,hs⟩;rw[lR,af,e7]at hs;refine hM _ _ ?_;erw[ends];exact ⟨rfl,rs,b,rfl,by rw[hsp,hs];simp[dg,bc]⟩
def jX:AA:=[115,112,108,105,116]
def stc(b:AA):Nat:=b.countP (·==42)
def jY{b:AA}{n c:Nat}(h:b[n]?=some 42)(hc:c≠42):stc (b.set n c)+1=stc b:=by
 obtain ⟨hl,he⟩:=ar.mp h;have e1:b=b.take n++42::b.drop (n+1):=by rw[<-he,<-bo hl,List.take_append_drop]
 have e2:b.set n c=b.take n++c::b.drop (n+1):=by rw[List.set_eq_take_append_cons_drop,if_pos hl]
 unfold stc;rw[e2];conv=>rhs;rw[e1]
 rw[List.countP_append,List.countP_append,List.countP_cons_of_neg (by simp[hc]),List.countP_cons_of_pos (by simp)];omega
def Iw{w n c:Nat}{b:AA}(h:okF w b)(hc:isF c):okF w (b.set n c):=⟨by rw[eg];exact h.1,λd hd=>by
 rcases List.mem_or_eq_of_mem_set hd with h' |h'
 .exact h.2 d h'
 .rw[h'];exact hc⟩
def adw:isF 48:=.inl rfl
def adx:isF 49:=.inr (.inl rfl)
inductive Gr (name:AA) (rss:List (AU)):AA->D->Prop
 |leaf (b:AA) (h:∀rs∈rss,dw rs b=none):Gr name rss b (.tup (.str name::rss.map λrs=>bc (bO rs b)))
 |node (b:AA) (n:Nat) (z o:D) (h:b[n]?=some 42) (hz:Gr name rss (b.set n 48) z) (ho:Gr name rss (b.set n 49) o):Gr name rss b (.tup [.str jX,.int n,z,o])
def eN(rss:List (AU)):AS:=rss.map λrs=>.tup (rs.map aP)
structure okG(w:Nat)(name:AA)(rss:List (AU)):Prop where
 len:rss.length<=100
 nl:name.length<=100
 form:∀rs∈rss,∀r∈rs,r.1.length=w
 w1000:w<=1000
def Iz(n:Nat)(ds:AS)(_:DH):Prop:=∃(w:Nat)(name:AA)(rss:List (AU))(b:AA),ds=[.str name,.lst (eN rss),.str b]/\okG w name rss/\b.length=w/\stc b < n
def IK(ds:AS)(G:DH)(d:D)(G':DH):Prop:=G'=G/\∃(name:AA)(rss:List (AU))(b:AA),ds=[.str name,.lst (eN rss),.str b]/\Gr name rss b d
def fG(n:Nat):RF.Spec:=bL (Iz n) IK
def ady{a b:List (AU)}(h:eN a=eN b):a=b:=by
 unfold eN at h;induction a generalizing b with
 |nil=>cases b with
  |nil=>rfl
  |cons _ _=>simp at h
 |cons x a ih=>cases b with
  |nil=>simp at h
  |cons y b=>
   simp only[aS,dL,D.tup.injEq]at h;rw[zj h.1,ih h.2]
def zm{n w:Nat}{name:AA}{rss:List (AU)}{b:AA}{G:DH}{k:AT}{E:EK}(h:okG w name rss)(hb:b.length=w)(hs:stc b < n)(hk:∀d,Gr name rss b d->k d G):(fG n).t [.str name,.lst (eN rss),.str b] G k E:=by refine cC ⟨w,name,rss,b,rfl,h,hb,hs⟩ λd G' hx=>?_;obtain ⟨e1,name2,rss2,b2,e2,e3⟩:=hx;simp only[dL,D.str.injEq,D.lst.injEq,and_true]at e2;obtain ⟨rfl,e2,rfl⟩:=e2;cases ady e2;subst e1;exact hk d e3
def adz{f b:AA}{n:Nat}(h:dg f b=some n):b[n]?=some 42:=by unfold dg at h;have h2:=dy.mp h;obtain ⟨hl,hp,_⟩:=h2;rw[List.length_zip]at hl;rw[List.getElem_zip]at hp;simp only[ae,a9]at hp;rw[ai (!0),hp.1]
def adA{rs:AU}{b:AA}{n:Nat}(h:dw rs b=some n):b[n]?=some 42:=by
 unfold dw at h;split at h
 .split at h
  .exact adz h
  .cases h
 .cases h
def t8{b:AA}{n c:Nat}{G:DH}{k:AT}{E:EK}(h:n < b.length)(hl:b.length<=1000)(hk:k (.str (b.set n c)) G):(aY gP).t [.str b,.int n,.str [c]] G k E:=
 dR (by
  unfold gP;dsimp only;rw[if_pos (by simp only[ae,ck];omega),bS]) hk
def adB (Z:aj) (n:Nat) (h0:Z "grown"=fG n) (h1:Z "first_touching"=nP) (h2:Z "splitting_place"=t6) (h3:Z "with_sign"=aY gP) (ds:AS) (G:DH) (h:Iz (n+1) ds G):az Z jR noE (env0 ds 4) G (ends (IK ds G)):=by
 obtain ⟨w,name,rss,b,rfl,hg,hb,hs⟩:=h;have hw:=hg.w1000;simp_all_arith[jR];nofun;simp_arith![ends];refine ForG.inv (P:=λi Y G'=>(∃o3 o4 o5 o6,Y=[some (.str name),some (.lst (eN rss)),some (.str b),o3,o4,o5,o6])/\G'=G/\∀rs∈rss.take i,dw rs b=none) ⟨⟨_,_,_,_,rfl⟩,rfl,by simp⟩ (λ_ _ _ _=>trivial) ?_ ?_
 .rintro i d Y G' hd ⟨⟨o3,o4,o5,o6,rfl⟩,rfl,hall⟩ kk hk;unfold eN at hd;rw[bq]at hd;obtain ⟨rs,hrs,rfl⟩:=a7.mp hd;simp_arith![ends];nofun;erw[h2];refine adt (λr hr=>by rw[hg.form rs (cw hrs) r hr,hb]) (!0) (hM _ _ (last ?_));cases hsp:dw rs b with
  |none=>
   erw[bc];refine hk _ _ ⟨⟨_,_,_,_,rfl⟩,rfl,λrs' hrs'=>?_⟩;rw[gI,hrs]at hrs';rcases aT.mp hrs' with h |h
   .exact hall rs' h
   .have:rs'=rs:=by simpa using h
    rw[this];exact hsp
  |some at'=>
   have hst:=adA hsp;have hat:=(ar.mp hst).1;simp_arith![bc];nofun;erw[h0,h3];refine t8 hat (!0) (zm hg (by rw[eg];exact hb) (by have:=jY hst (show 48≠42 by decide);omega) λz hz=>hM _ _ (seq λM hM=>?_));erw[h0,h3];refine t8 hat (!0) (zm hg (by rw[eg];exact hb) (by have:=jY hst (show 49≠42 by decide);omega) λo ho=>hM _ _ (last ?_));erw[ends];exact ⟨!1,rfl,name,rss,b,rfl,.node b at' z o hst hz ho⟩
 .rintro Y G' ⟨⟨o3,o4,o5,o6,rfl⟩,rfl,hall⟩;have hlen:(eN rss).length=rss.length:=af _;rw[hlen,g6]at hall;have hrl:=hg.len;refine hM _ _ ?_;erw[h1];refine ⟨!1,CompG.inv (P:=λi acc Y G''=>(∃o,Y=[o,some (.str b)])/\G''=G'/\acc=(rss.take i).map λrs=>bc (bO rs b)) ⟨⟨_,rfl⟩,rfl,rfl⟩ (λ_ _ _ _ _=>trivial) (by rw[hlen];bv_omega) ?_ ?_⟩
  .rintro i d acc Y G'' hd ⟨⟨o,rfl⟩,rfl,rfl⟩ kk hk;unfold eN at hd;rw[bq]at hd;obtain ⟨rs,hrs,rfl⟩:=a7.mp hd;erw[h1];refine Ir (λr hr=>by rw[hg.form rs (cw hrs) r hr];omega) (hk _ _ _ ⟨⟨_,rfl⟩,rfl,?_⟩);rw[gI,hrs];simp
  .rintro acc Y G'' ⟨_,rfl,rfl⟩;rw[hlen,g6];erw[af];exact ⟨by bv_omega,rfl,name,rss,b,rfl,.leaf b hall⟩
def adC(ds:AS)(G:DH)(a:(fG 0).A):¬(fG 0).pre ds G a:=λ⟨_,_,_,_,_,_,_,_,h⟩=>by omega
def adD(w:Nat):stc (List.replicate w 42)<=w:=by have:=List.countP_le_length (p:=(·==42)) (l:=List.replicate w 42);rw[cK]at this;exact this
def IV:∀{f b w:AA},cJ f b=none->(∀s∈w,s=48\/s=49)->Fits b w->jU f w=true->False
 |[],b,w,h,_,_,_=>by cases b <;> cases h
 |a::f,[],w,h,_,_,_=>by cases h
 |a::f,c::b,[],h,_,hf,_=>by have:=hf.1;simp at this
 |a::f,c::b,s::w,h,hw,hf,hz=>by
  rw[jU,ae]at hz;have hs:=hf.2 0 c s rfl rfl;have hf':Fits b w:=⟨by have:=hf.1;simpa using this,λi c' s' h1 h2=>hf.2 (i+1) c' s' (!!h1) (!!h2)⟩;unfold cJ at h;cases h1:eG a c with
  |some x=>
   rw[h1]at h;simp only[Option.map_eq_none_iff]at h;exact IV h (λs hs=>hw s (bi _ hs)) hf' hz.2
  |none=>
   unfold eG at h1;split at h1
   .cases h1
   .split at h1
    .cases h1
    .rename_i ha hc;have h2:=(Ij (hw s bg)).mp hz.1;unfold alt at hs h2;rw[if_neg ha]at h2;have es:s=a:=by simpa using h2
     split at hs
     .rename_i e;exact hc (.inl e)
     .have:s=c:=by simpa using hs
      exact hc (.inr (!0))
def IW:∀{f b w:AA},f.length=b.length->(cJ f b).isSome=true->dg f b=none->(∀s∈w,s=48\/s=49)->Fits b w->jU f w=true
 |[],b,w,_,_,_,_,_=>rfl
 |a::f,[],w,h,_,_,_,_=>by simp at h
 |a::f,c::b,[],_,_,_,_,hf=>rfl
 |a::f,c::b,s::w,hl,hb,hs,hw,hf=>by
  have hs0:=hf.2 0 c s rfl rfl;have hf':Fits b w:=⟨by have:=hf.1;simpa using this,λi c' s' h1 h2=>hf.2 (i+1) c' s' (!!h1) (!!h2)⟩;unfold dg at hs;rw[List.zip_cons_cons,eR]at hs;split at hs
  .cases hs
  .rename_i hne;have hs':dg f b=none:=by unfold dg;simpa using hs
   unfold cJ at hb;cases h1:eG a c with
   |none=>rw[h1]at hb;cases hb
   |some x=>
    rw[h1]at hb;have hb':(cJ f b).isSome=true:=by simpa using hb
    rw[jU,ae];refine ⟨?_,IW (!!hl) hb' hs' (λs hs=>hw s (bi _ hs)) hf'⟩;rw[Ij (hw s bg)];by_cases ha:a=42
    .unfold alt;rw[if_pos ha];rcases hw s bg with e |e <;> simp[e]
    .have hc:c≠42:=by
      rintro rfl;exact hne (by simp[ha])
     unfold alt at hs0 ⊢;rw[if_neg hc]at hs0;rw[if_neg ha];unfold eG at h1;rw[if_neg ha]at h1;split at h1
     .rename_i h2;rcases h2 with h2 |h2
      .exact absurd h2 hc
      .rw[<-h2];exact hs0
     .cases h1
def adE{rs:AU}{b l:AA}(hf:∀r∈rs,r.1.length=b.length)(hs:dw rs b=none)(hl:∀s∈l,s=48\/s=49)(hb:Fits b l):dF rs l=bO rs b:=by
 have no:∀r∈rs,(cJ r.1 b).isSome=false->fB r.1 l=false:=by
  intro r hr h;cases e:fB r.1 l with
  |false=>rfl
  |true=>
   unfold fB at e;rw[ae]at e;exact (IV (!!h) hl hb e.2).elim
 cases ht:bO rs b with
 |none=>
  unfold bO at ht;unfold dF;rw[List.findIdx?_eq_none_iff]at ht ⊢;exact λr hr=>no r hr (by simpa using ht r hr)
 |some n=>
  have hn:=t7 ht;have ht':=dy.mp ht;obtain ⟨_,t1,t2⟩:=ht';unfold dF;rw[dy];refine ⟨hn,?_,λj hj=>?_⟩
  .have hsf:dg rs[n].1 b=none:=by
    unfold dw at hs;rw[ht]at hs;simpa [hn] using hs
   have hlen:=hf rs[n] (cp _);unfold fB;rw[ae];exact ⟨bX (by rw[hlen,hb.1]),IW hlen t1 hsf hl hb⟩
  .have:=no rs[j] (cp _) (by simpa using t2 j hj);simp[this]
def uc(name:AA)(rss:List (AU))(b:AA):D:=.tup (.str name::rss.map λrs=>bc (bO rs b))
def nQ(name:AA)(rss:List (AU))(b:AA):D:=.tup [.str b,uc name rss b]
inductive Lv (name:AA) (rss:List (AU)):AA->D->List (AA)->Prop
 |leaf (b:AA) (h:∀rs∈rss,dw rs b=none):Lv name rss b (uc name rss b) [b]
 |node (b:AA) (n:Nat) (z o:D) (l m:List (AA)) (h:b[n]?=some 42) (hz:Lv name rss (b.set n 48) z l) (ho:Lv name rss (b.set n 49) o m):Lv name rss b (.tup [.str jX,.int n,z,o]) (l++m)
def Gr.lv{name:AA}{rss:List (AU)}{b:AA}{d:D}(h:Gr name rss b d):∃bs,Lv name rss b d bs:=by
 induction h with
 |leaf b h=>exact ⟨_,.leaf b h⟩
 |node b n z o h _ _ hz ho=>
  obtain ⟨l,hl⟩:=hz;obtain ⟨m,hm⟩:=ho;exact ⟨_,.node b n z o l m h hl hm⟩
def Lv.len{name:AA}{rss:List (AU)}{b:AA}{d:D}{bs:List (AA)}(h:Lv name rss b d bs):bs.length<=2 ^ stc b:=by
 induction h with
 |leaf b h=>exact Nat.one_le_two_pow
 |node b n z o l m h _ _ hz ho=>
  have e1:=jY h (show 48≠42 by decide);have e2:=jY h (show 49≠42 by decide);rw[<-e1,Nat.pow_succ,aw];have e3:stc (b.set n 49)=stc (b.set n 48):=by omega
  rw[e3]at ho;omega
def Lv.len'{name:AA}{rss:List (AU)}{b:AA}{d:D}{bs:List (AA)}(h:Lv name rss b d bs)(hb:b.length<=12):bs.length<=4096:=by
 have h1:=h.len;have h2:stc b<=12:=ca (List.countP_le_length) hb;have h3:=ge (show 0 < 2 by decide) h2;have h4:2 ^ 12=4096:=by decide
 omega
def Lv.box{name:AA}{rss:List (AU)}{b:AA}{d:D}{bs:List (AA)}(h:Lv name rss b d bs):∀c∈bs,c.length=b.length/\∀rs∈rss,dw rs c=none:=by
 induction h with
 |leaf b h=>intro c hc;rw[ah.mp hc];exact ⟨rfl,h⟩
 |node b n z o l m h _ _ hz ho=>
  intro c hc;rcases aT.mp hc with hc |hc
  .have:=hz c hc;rw[eg]at this;exact this
  .have:=ho c hc;rw[eg]at this;exact this
def Lv.okf{w:Nat}{name:AA}{rss:List (AU)}{b:AA}{d:D}{bs:List (AA)}(h:Lv name rss b d bs):okF w b->∀c∈bs,okF w c:=by
 induction h with
 |leaf b h=>intro hb c hc;rw[ah.mp hc];exact hb
 |node b n z o l m h _ _ hz ho=>
  intro hb c hc;rcases aT.mp hc with hc |hc
  .exact hz (Iw hb adw) c hc
  .exact ho (Iw hb adx) c hc
def adF{w:Nat}{f l:AA}(h:okF w f)(hf:Fits f l):∀s∈l,s=48\/s=49:=by
 intro s hs;obtain ⟨i,hi,rfl⟩:=List.getElem_of_mem hs;have hif:i < f.length:=by rw[hf.1];exact hi
 have:=hf.2 i f[i] l[i] (by simp[hif]) (by simp[hi]);rcases h.2 f[i] (cp _) with e |e |e <;> rw[e]at this <;> simp[alt]at this <;> omega
def isPlace(m:Int):D->Bool
 |.int i=>decide (0<=i)&&decide (i < m)
 |_=>false
def fH:AS->Option D
 |[.int m,x]=>if nr x then some (.bl (isPlace m x)) else none
 |_=>none
def adG (Z:aj) (h1:Z "is_whole"=aY iM) (ds:AS) (G:DH) (d:D) (h:fH ds=some d):az Z mD noE (env0 ds 0) G (ends λd' G'=>G'=G/\d'=d):=by
 unfold fH at h;split at h
 .rename_i m x;split at h
  .rename_i hx;cases h;have hf:iM [x]=some (.bl (whole x)):=if_pos hx;erw[mD,h1];refine dR hf ?_;cases x <;> first | (simp[nr]at hx;done) | (erw[whole,isPlace];first | (simp;done) |skip)
   rename_i i;cases hi:decide (0<=i) with
   |true=>simp
   |false=>simp
  .cases h
 .cases h
def gb:AS->Option D
 |[.str name,.int many,.tup (.str s::r)]=>some (.bl ((((r.length+1:Nat):Int)==many+1)&&(s==name)))
 |_=>none
def adH(Z:aj)(ds:AS)(G:DH)(d:D)(h:gb ds=some d):az Z mz noE (env0 ds 0) G (ends λd' G'=>G'=G/\d'=d):=by
 unfold gb at h;split at h
 .rename_i name many s r;cases h;erw[mz];cases he:(((r.length+1:Nat):Int)==many+1) with
  |false=>erw[gV]
  |true=>erw[hV]
 .cases h
def adI{name s:AA}{m:Int}{r:AS}{G:DH}{k:AT}{E:EK}(h:s≠name)(hk:k (.bl false) G):(aY gb).t [.str name,.int m,.tup (.str s::r)] G k E:=
 dR (by unfold gb;dsimp only;rw[d4.mpr h,gl]) hk
def adJ{name:AA}{m:Int}{r:AS}{G:DH}{k:AT}{E:EK}(h:(r.length:Int)=m)(hk:k (.bl true) G):(aY gb).t [.str name,.int m,.tup (.str name::r)] G k E:=
 dR (by unfold gb;dsimp only;rw[BEq.rfl,Bool.and_true,a9.mpr (!0)]) hk
def oI:Option Int->D
 |some i=>.int i
 |none=>.non
inductive T where
 |lf (r:List (Option Int))
 |sp (i:Int) (z o:T)
def T.d(name:AA):T->D
 |.lf r=>.tup (.str name::r.map oI)
 |.sp i z o=>.tup [.str jX,.int i,z.d name,o.d name]
def T.dep:T->Nat
 |.lf _=>0
 |.sp _ z o=>max z.dep o.dep+1
def iU(b:AA)(i:Int):Bool:=decide (0<=i)&&b[i.toNat]?==some 42
def T.lvs:T->AA->Option (List (AA×List (Option Int)))
 |.lf r,b=>some [(b,r)]
 |.sp i z o,b=>match iU b i with
  |true=>(match z.lvs (b.set i.toNat 48),o.lvs (b.set i.toNat 49) with |some l,some m=>some (l++m) |_,_=>none)
  |false=>none
def nR(name:AA)(x:AA×List (Option Int)):D:=.tup [.str x.1,.tup (.str name::x.2.map oI)]
def eO(name:AA):Option (List (AA×List (Option Int)))->D
 |none=>.non
 |some l=>.lst (l.map (nR name))
def T.lvs_len:∀(t:T){b:AA}{l:List (AA×List (Option Int))},t.lvs b=some l->l.length<=2 ^ t.dep
 |.lf r,b,l,h=>by cases h;exact Nat.one_le_two_pow
 |.sp i z o,b,l,h=>by
  rw[T.lvs]at h;split at h
  .split at h
   .rename_i l1 l2 h1 h2;cases h;have e1:=z.lvs_len h1;have e2:=o.lvs_len h2;have e3:=ge (show 0 < 2 by decide) (Nat.le_max_left z.dep o.dep);have e4:=ge (show 0 < 2 by decide) (Nat.le_max_right z.dep o.dep);rw[aw,T.dep,Nat.pow_succ];omega
   .cases h
  .cases h
def T.lvs_len'{n:Nat}{t:T}{b:AA}{l:List (AA×List (Option Int))}(h:t.lvs b=some l)(hn:t.dep < n)(hn':n<=12):l.length<=4096:=by
 have h1:=t.lvs_len h;have h3:=ge (show 0 < 2 by decide) (show t.dep<=12 by omega);have h4:2 ^ 12=4096:=by decide
 omega
structure TA where
 name:AA
 b:AA
 t:T
def Ja(n:Nat)(a:TA):Prop:=a.name≠jX/\a.b.length<=12/\a.t.dep < n/\n<=12
def eQ(n:Nat):RF.Spec:=bG (λa:TA=>[.str a.b,a.t.d a.name]) (Ja n) (λa=>eO a.name (a.t.lvs a.b))
def zu{n:Nat}{name b:AA}{t:T}{G:DH}{k:AT}{E:EK}(h1:name≠jX)(h2:b.length<=12)(h3:t.dep < n)(h4:n<=12)(hk:k (eO name (t.lvs b)) G):(eQ n).t [.str b,t.d name] G k E:=bN ⟨name,b,t⟩ rfl ⟨h1,h2,h3,h4⟩ hk
def adK(ds:AS)(G:DH)(a:(eQ 0).A):¬(eQ 0).pre ds G a:=λ⟨_,_,_,_,h,_⟩=>by omega
def adL{b:AA}{i:Int}(h:iU b i=true):0<=i/\∃n:Nat,i=n/\n < b.length/\b[n]?=some 42:=by
 unfold iU at h;rw[ae]at h;have h1:=ee h.1;have h2:b[i.toNat]?=some 42:=by simpa using h.2
 exact ⟨h1,i.toNat,!0,(ar.mp h2).1,h2⟩
def adM (Z:aj) (n:Nat) (h0:Z "leaves"=eQ n) (h1:Z "is_named"=aY gb) (h2:Z "is_place"=aY fH) (h3:Z "with_sign"=aY gP) (a:TA) (G:DH) (h:Ja (n+1) a):az Z iJ noE (env0 [.str a.b,a.t.d a.name] 3) G (ends λd G'=>G'=G/\d=eO a.name (a.t.lvs a.b)):=by
 obtain ⟨name,b,t⟩:=a;obtain ⟨hne,hbl,hd,hn⟩:=h;dsimp only at hne hbl hd ⊢;cases t with
 |lf r=>
  simp_all_arith[iJ];nofun;erw[h1,T.d];refine adI hne ?_;erw[T.lvs,eO,nR];exact ⟨!1,!1⟩
 |sp i z o=>
  rw[T.dep]at hd;simp_all_arith[iJ];nofun;erw[h1,T.d];refine adJ rfl ?_;erw[ends];symm;erw[ends];symm;erw[h2];refine dR (d:=.bl (isPlace b.length (.int i))) rfl ?_;cases hst:iU b i with
  |false=>
   rw[T.lvs,hst];cases hp:isPlace b.length (.int i) with
   |false=>erw[eO]
   |true=>
    unfold isPlace at hp;rw[ae]at hp;have p1:=ee hp.1;have p2:=ee hp.2;obtain ⟨m,rfl⟩:∃m:Nat,i=m:=⟨i.toNat,!0⟩;have hm:m < b.length:=by omega
    have hc:b[m]?=some b[m]:=ai hm;have hne42:((b[m]==42):Bool)=false:=by unfold iU at hst;rw[bX (!0),hV,bS,hc]at hst;simpa using hst
    erw[ends];refine bM (a:=b[m]) (cz hc) ?_;erw[jV,hne42,eO]
  |true=>
   obtain ⟨_,m,rfl,hm,hc⟩:=adL hst;have hp:isPlace b.length (.int (m:Int))=true:=by show (decide (0<=(m:Int))&&decide ((m:Int) < b.length))=true;rw[bX (!0),bX (!0)];rfl
   have hl:(T.sp (m:Int) z o).lvs b=match z.lvs (b.set m 48),o.lvs (b.set m 49) with |some l,some m=>some (l++m) |_,_=>none:=by rw[T.lvs,hst,bS]
   rw[hp];erw[ends];refine bM (a:=42) (cz hc) ?_;erw[BEq.rfl];symm;erw[h0,h3];refine t8 hm (!0) (zu hne (by rw[eg];exact hbl) (!0) (!0) (hM _ _ (seq λM hM=>?_)));erw[h0,h3];refine t8 hm (!0) (zu hne (by rw[eg];exact hbl) (!0) (!0) (hM _ _ (seq λM hM=>?_)));cases e1:z.lvs (b.set m 48) with
   |none=>
    rw[e1]at hl;erw[hl,eO]
   |some l1=>
    cases e2:o.lvs (b.set m 49) with
    |none=>
     rw[e1,e2]at hl;erw[hl,eO]
    |some l2=>
     rw[e1,e2]at hl;have q1:=T.lvs_len' e1 (n:=n) (!0) (!0);have q2:=T.lvs_len' e2 (n:=n) (!0) (!0);erw[eO];ac_nf0;erw[af,b4,hl,eO];bv_omega
def adN(o:Option Nat):bc o=oI (o.map λn=>(n:Int)):=by cases o <;> rfl
def jZ(rss:List (AU))(c:AA):List (Option Int):=rss.map λrs=>(bO rs c).map λn=>(n:Int)
def Jb{rss:List (AU)}{c:AA}:(jZ rss c).map oI=rss.map λrs=>bc (bO rs c):=by unfold jZ;rw[cb];exact b9 λrs _=>(adN _).symm
def Lv.tree{name:AA}{rss:List (AU)}{b:AA}{d:D}{bs:List (AA)}(h:Lv name rss b d bs):∃t:T,d=t.d name/\t.dep<=stc b/\t.lvs b=some (bs.map λc=>(c,jZ rss c)):=by
 induction h with
 |leaf b h=>exact ⟨.lf (jZ rss b),by rw[T.d,Jb];rfl,cr _,rfl⟩
 |node b n z o l m h _ _ hz ho=>
  obtain ⟨tz,rfl,d1,e1⟩:=hz;obtain ⟨tO,rfl,d2,e2⟩:=ho;have s1:=jY h (show 48≠42 by decide);have s2:=jY h (show 49≠42 by decide);refine ⟨.sp n tz tO,rfl,?_,?_⟩
  .rw[T.dep];have:=Nat.max_le.mpr ⟨show tz.dep<=stc (b.set n 48) from d1,show tO.dep<=stc (b.set n 48) by omega⟩;omega
  .have hs:iU b (n:Int)=true:=by unfold iU;rw[bX (!0),bS,h];rfl
   rw[T.lvs,hs,bS,e1,e2];simp
def adO{name:AA}{rss:List (AU)}{c:AA}:nR name (c,jZ rss c)=nQ name rss c:=by unfold nR nQ uc;rw[Jb]
def adP{n:Nat}{name:AA}{rss:List (AU)}{b:AA}{d:D}{bs:List (AA)}{G:DH}{k:AT}{E:EK}(h:Lv name rss b d bs)(h1:name≠jX)(h2:b.length<=12)(h3:stc b < n)(hk:k (.lst (bs.map (nQ name rss))) G)(h4:n<=12:=by decide):(eQ n).t [.str b,d] G k E:=by
 obtain ⟨t,rfl,e1,e2⟩:=h.tree;refine zu h1 h2 (!0) h4 ?_;rw[e2,eO,cb];have:(nR name∘λc=>(c,jZ rss c))=nQ name rss:=by funext c;exact adO
 rw[this];exact hk
def gf:AA->List (AA)
 |[]=>[[]]
 |c::f=>(alt c).flatMap λs=>(gf f).map (s::·)
def Jc:∀(f:AA)(acc:List (AA)),f.foldl step1 acc=acc.flatMap λt=>(gf f).map (t ++ ·)
 |[],acc=>by simp[gf]
 |c::f,acc=>by
  rw[List.foldl_cons,Jc f,step1,List.flatMap_assoc];congr 1;funext t;rw[gf,List.flatMap_map,List.map_flatMap];congr 1;funext s;rw[cb];congr 1;funext x;simp
def adQ(f:AA):gO f=gf f:=by unfold gO;rw[Jc];simp
def adR{w:Nat}{G:DH}{k:AT}{E:EK}(h:w<=1000)(hk:k (.str (List.replicate w 42)) G):(aY iT).t [.int w] G k E:=
 dR (d:=.str (List.replicate w 42)) (by unfold iT;dsimp only;rw[if_pos (by simp only[ae,ck];omega),bS]) hk
def cL(l:AA):AA:=l.map λa=>if a=42 then 48 else a
def j0:AS->Option D
 |[.str l]=>if decide (l.length<=1000) then some (.str (cL l)) else none
 |_=>none
def adS{l:AA}{G:DH}{k:AT}{E:EK}(h:l.length<=1000)(hk:k (.str (cL l)) G):(aY j0).t [.str l] G k E:=dR (if_pos (bX h)) hk
def adT{b l:AA}{n:Nat}(h:Fits b l)(hn:b[n]?=some 42):Fits (b.set n 48) l\/Fits (b.set n 49) l:=by
 obtain ⟨hl,he⟩:=ar.mp hn;have hnl:n < l.length:=by rw[<-h.1];exact hl
 have hs:=h.2 n 42 l[n] hn (ai hnl);have put:∀c,l[n]=c->c≠42->Fits (b.set n c) l:=by
  intro c hc hc42;refine ⟨by rw[eg];exact h.1,λi x y hx hy=>?_⟩;rw[List.getElem?_set]at hx;by_cases hi:n=i
  .subst hi;rw[if_pos rfl,if_pos hl]at hx;rw[ai hnl]at hy;cases hx;cases hy;unfold alt;rw[if_neg hc42,hc];simp
  .rw[if_neg hi]at hx;exact h.2 i x y hx hy
 unfold alt at hs;rw[if_pos rfl]at hs;have:l[n]=48\/l[n]=49:=by simpa using hs
 rcases this with e |e
 .exact .inl (put 48 e (!1))
 .exact .inr (put 49 e (!1))
def Jd{b l:AA}{n c:Nat}(h:Fits (b.set n c) l)(hn:b[n]?=some 42)(hc:c=48\/c=49):Fits b l:=by
 have hl:=(ar.mp hn).1;refine ⟨by have:=h.1;rwa [eg]at this,λi x y hx hy=>?_⟩;by_cases hi:n=i
 .subst hi;rw[hn]at hx;cases hx;have:=h.2 n c y (by rw[List.getElem?_set,if_pos rfl,if_pos hl]) hy;unfold alt at this ⊢;rw[if_neg (!0)]at this;rw[if_pos rfl];have e:y=c:=by simpa using this
  rw[e];simpa using hc
 .exact h.2 i x y (by rw[List.getElem?_set,if_neg hi];exact hx) hy
def Lv.cover{name:AA}{rss:List (AU)}{b:AA}{d:D}{bs:List (AA)}(h:Lv name rss b d bs):∀l,Fits b l->∃c∈bs,Fits c l:=by
 induction h with
 |leaf b h=>exact λl hl=>⟨b,by simp,hl⟩
 |node b n z o l m h _ _ hz ho=>
  intro w hw;rcases adT hw h with e |e
  .obtain ⟨c,hc,hf⟩:=hz w e;exact ⟨c,aT.mpr (.inl hc),hf⟩
  .obtain ⟨c,hc,hf⟩:=ho w e;exact ⟨c,aT.mpr (.inr hc),hf⟩
def Lv.within{name:AA}{rss:List (AU)}{b:AA}{d:D}{bs:List (AA)}(h:Lv name rss b d bs):∀c∈bs,∀l,Fits c l->Fits b l:=by
 induction h with
 |leaf b h=>intro c hc l hl;rw[ah.mp hc]at hl;exact hl
 |node b n z o l m h _ _ hz ho=>
  intro c hc w hw;rcases aT.mp hc with hc |hc
  .exact Jd (hz c hc w hw) h (.inl rfl)
  .exact Jd (ho c hc w hw) h (.inr rfl)
def adU{a s:Nat}{f l:AA}(h:Fits (a::f) (s::l)):s∈alt a/\Fits f l:=
 ⟨h.2 0 a s rfl rfl,by have:=h.1;simpa using this,λi c t h1 h2=>h.2 (i+1) c t (!!h1) (!!h2)⟩
def adV{a s:Nat}{f l:AA}(h1:s∈alt a)(h2:Fits f l):Fits (a::f) (s::l):=⟨by simp[h2.1],λi c t hc ht=>by
 cases i with
 |zero=>simp at hc ht;rw[<-hc,<-ht];exact h1
 |succ i=>exact h2.2 i c t (!!hc) (!!ht)⟩
def zx:∀c:AA,Fits c (cL c)
 |[]=>⟨rfl,λi c s h=>by simp at h⟩
 |a::c=>by
  show Fits (a::c) ((if a=42 then 48 else a)::cL c);refine adV ?_ (zx c);unfold alt;split <;> simp
def Jf:∀{c l:AA},Fits c l->¬l < cL c
 |[],l,h=>by
  have:l=[]:=cS.mp h.1.symm;subst this;exact List.lt_irrefl _
 |a::c,[],h=>by have:=h.1;simp at this
 |a::c,s::l,h=>by
  obtain ⟨h1,h2⟩:=adU h;show ¬(s::l) < ((if a=42 then 48 else a)::cL c);rw[gX];have ih:=Jf h2;unfold alt at h1;split at h1
  .rename_i e;rw[if_pos e];have:s=48\/s=49:=by simpa using h1
   rintro (q |q)
   .omega
   .exact ih q.2
  .rename_i e;rw[if_neg e];have:s=a:=by simpa using h1
   rintro (q |q)
   .omega
   .exact ih q.2
def Jg:∀{x m a:AA},x < m->¬a < m->x < a
 |x,[],a,h,_=>absurd h (by simp)
 |x,b::m,[],_,h=>absurd (by simp) h
 |[],b::m,y::a,_,_=>by simp
 |c::x,b::m,y::a,h,g=>by
  rw[gX]at h g ⊢;have g1:¬y < b:=λe=>g (.inl e);rcases h with h |⟨h1,h2⟩
  .exact .inl (!0)
  .by_cases e:y=b
   .exact .inr ⟨!0,Jg h2 λz=>g (.inr ⟨e,z⟩)⟩
   .exact .inl (!0)
def Jh:∀f:AA,(gf f).Pairwise (· < ·)
 |[]=>by simp[gf]
 |c::f=>by
  have ih:=Jh f;have one:∀s:Nat,((gf f).map (s::·)).Pairwise (· < ·):=λs=>List.pairwise_map.mpr (ih.imp λh=>gX.mpr (.inr ⟨rfl,h⟩));rw[gf];unfold alt;split
  .rw[List.flatMap_cons,List.flatMap_cons,List.flatMap_nil,fi,List.pairwise_append];refine ⟨one 48,one 49,λa ha b hb=>?_⟩;obtain ⟨x,_,rfl⟩:=bp.mp ha;obtain ⟨y,_,rfl⟩:=bp.mp hb;exact gX.mpr (.inl (!1))
  .rw[List.flatMap_cons,List.flatMap_nil,fi];exact one c
def adW{u:List (AA)}{m:AA}(h:u.Pairwise (· < ·))(hm:m∈u)(hl:∀x∈u,¬x < m):u.head?=some m:=by
 cases u with
 |nil=>cases hm
 |cons a u=>
  rcases bB.mp hm with e |hm
  .rw[e];rfl
  .exact absurd ((List.pairwise_cons.mp h).1 m hm) (hl a bg)
def adX{ds:AS}{ls:List (AA)}{k:D->Prop}(h0:aZ ds=none)(h:bw ds=some ls)(hk:∀m,m∈ls->(∀a,a∈ls->¬a < m)->k (.str m)):opB .min [.lst ds] k:=by show lr [.lst ds] k;unfold lr;dsimp only;rw[h0,h];exact hk
def Ji:AA:=[115,97,109,101]
def Jj:AA:=[112,97,114,116,101,100]
def ud:AA:=[97,108,105,107,101]
def ue:RF.Spec:=bG (λa:Nat×AU×AU=>[au a.1 a.2.1,au a.1 a.2.2]) (λa=>okB a.1 a.2.1/\okB a.1 a.2.2) (λ_=>.non)
def adY{w:Nat}{rs ss:AU}{G:DH}{k:AT}{E:EK}(h:okB w rs)(h':okB w ss)(hk:k .non G):ue.t [au w rs,au w ss] G k E:=bN (w,rs,ss) rfl ⟨h,h'⟩ hk
def adZ (Z:aj) (h1:Z "need_book"=iR) (a:Nat×AU×AU) (G:DH) (h:okB a.1 a.2.1/\okB a.1 a.2.2):az Z mQ noE (env0 [au a.1 a.2.1,au a.1 a.2.2] 0) G (ends λd G'=>G'=G/\d=.non):=by obtain ⟨w,rs,ss⟩:=a;obtain ⟨hb,hc⟩:=h;dsimp only at hb hc ⊢;simp_all_arith[mQ];nofun;erw[h1];refine nM hb (hM _ _ (seq λM hM=>?_));erw[h1];refine nM hc (hM _ _ (last ?_));erw[au,BEq.rfl,and_self]
def cu(rs:AU)(o:Option Nat):Option (AA):=o.bind λn=>rs[n]?.map (·.2)
def Jl{rs:AU}{o:Option Nat}:jW rs o=cZ (cu rs o):=by
 cases o with
 |none=>rfl
 |some n=>
  unfold jW cu;dsimp only[Option.bind];cases rs[n]? <;> rfl
structure SD where
 w:Nat
 rs:AU
 ss:AU
 name:AA
 o:Option Nat
 p:Option Nat
def sSD:RF.Spec:=bG (λa:SD=>[au a.w a.rs,au a.w a.ss,.tup [.str a.name,bc a.o,bc a.p]]) (λa=>(∀n,a.o=some n->n < a.rs.length)/\∀n,a.p=some n->n < a.ss.length) (λa=>.bl (cu a.rs a.o==cu a.ss a.p))
def ad0{w:Nat}{rs ss:AU}{name:AA}{o p:Option Nat}{G:DH}{k:AT}{E:EK}(h1:∀n,o=some n->n < rs.length)(h2:∀n,p=some n->n < ss.length)(hk:k (.bl (cu rs o==cu ss p)) G):sSD.t [au w rs,au w ss,.tup [.str name,bc o,bc p]] G k E:=bN ⟨w,rs,ss,name,o,p⟩ rfl ⟨h1,h2⟩ hk
def ad1 (Z:aj) (h1:Z "deed_of"=tZ) (a:SD) (G:DH) (h:(∀n,a.o=some n->n < a.rs.length)/\∀n,a.p=some n->n < a.ss.length):az Z mR noE (env0 [au a.w a.rs,au a.w a.ss,.tup [.str a.name,bc a.o,bc a.p]] 0) G (ends λd G'=>G'=G/\d=.bl (cu a.rs a.o==cu a.ss a.p)):=by obtain ⟨w,rs,ss,name,o,p⟩:=a;obtain ⟨ho,hp⟩:=h;dsimp only at ho hp ⊢;erw[mR,h1];refine Il ho (Il hp ?_);rw[Jl,Jl];cases cu rs o <;> cases cu ss p <;> erw[cZ] <;> first |done | (simp;done) | (refine ⟨!1,?_⟩;simp;done)
def bu(w:Nat)(rs ss:AU):List (AA):=(gO (List.replicate w 42)).filter λl=>!(cu rs (dF rs l)==cu ss (dF ss l))
def eU(rs ss:AU)(c:AA):Bool:=cu rs (bO rs c)==cu ss (bO ss c)
def uf(w:Nat)(rs ss:AU)(d:D):Prop:=
 (∃m,(bu w rs ss).head?=some m/\d=.tup [.str Jj,.str m])\/(bu w rs ss=[]/\∃t bs,d=.tup [.str ud,t]/\Lv Ji [rs,ss] (List.replicate w 42) t bs/\∀c∈bs,eU rs ss c=true)
def nT:RF.Spec:=ghS (A:=Nat×AU×AU) (λa ds _=>ds=[au a.1 a.2.1,au a.1 a.2.2]/\okB a.1 a.2.1/\okB a.1 a.2.2) (λa G d G'=>G'=G/\uf a.1 a.2.1 a.2.2 d)
def Jm{w:Nat}{rs ss:AU}{G:DH}{k:AT}{E:EK}(h:okB w rs)(h':okB w ss)(hk:∀d,uf w rs ss d->k d G):nT.t [au w rs,au w ss] G k E:=
 iH (w,rs,ss) ⟨rfl,h,h'⟩ λd G' hx=>by
  obtain ⟨e,q⟩:=hx;subst e;exact hk d q
def ad2 (Z:aj) (h1:Z "need_two_books"=ue) (h2:Z "grown"=fG 9) (h3:Z "leaves"=eQ 9) (h4:Z "least"=aY j0) (h5:Z "stars"=aY iT) (h6:Z "same_deeds"=sSD) (a:Nat×AU×AU) (ds:AS) (G:DH) (h:ds=[au a.1 a.2.1,au a.1 a.2.2]/\okB a.1 a.2.1/\okB a.1 a.2.2):
  az Z mV noE (env0 ds 3) G (ends λd G'=>G'=G/\uf a.1 a.2.1 a.2.2 d):=by
 obtain ⟨w,rs,ss⟩:=a;obtain ⟨rfl,hb,hb'⟩:=h;dsimp only at hb hb' ⊢;have hw6:=hb.w6;have hst:=adD w;have hrl:∀r∈rs,r.1.length=w:=λr hr=>(hb.form r hr).1;have hsl:∀r∈ss,r.1.length=w:=λr hr=>(hb'.form r hr).1;have e0:∀xs:AU,D.tup [.int w,.tup (xs.map aP)]=au w xs:=λ_=>rfl;simp_all_arith[mV];nofun;erw[h1];refine adY hb hb' (hM _ _ (seq λM hM=>?_));erw[au,h5];refine adR (!0) (hM _ _ (seq λM hM=>?_));erw[h2];have er:[D.tup (rs.map aP),.tup (ss.map aP)]=eN [rs,ss]:=rfl;rw[er];refine ⟨!1,zm (name:=Ji) ⟨by simp,!1,λxs hxs r hr=>?_,!0⟩ cK (!0) λt ht=>hM _ _ (seq λM hM=>?_)⟩
 .rcases bB.mp hxs with e |hxs
  .rw[e]at hr;exact hrl r hr
  .rw[ah.mp hxs]at hr;exact hsl r hr
 obtain ⟨bs,hL⟩:=ht.lv;have hlen:=hL.len' (by rw[cK];omega);erw[h3];refine adP hL (!1) (by rw[cK];omega) (!0) ?_;erw[ends];refine CompG.inv (P:=λi acc Y G'=>(∃o1 o2,Y=[o1,o2,some (.tup [.int w,.tup (rs.map aP)]),some (.tup [.int w,.tup (ss.map aP)])])/\G'=G/\acc=((bs.take i).filter λc=>!eU rs ss c).map λc=>D.str (cL c)) ⟨⟨_,_,rfl⟩,rfl,rfl⟩ (λ_ _ _ _ _=>trivial) (by rw[af];bv_omega) ?_ ?_
 .rintro i d acc Y G' hd ⟨⟨o1,o2,rfl⟩,rfl,rfl⟩ kk hk;rw[bq]at hd;obtain ⟨c,hcb,rfl⟩:=a7.mp hd;have hcl:=(hL.box c (cw hcb)).1;rw[cK]at hcl;have htk:bs.take (i+1)=bs.take i++[c]:=by rw[gI,hcb];rfl
  erw[nQ,uc,h6];rw[e0,e0];refine ad0 (λn hn=>t7 hn) (λn hn=>t7 hn) ?_;have es:(cu rs (bO rs c)==cu ss (bO ss c))=eU rs ss c:=rfl;rw[es];cases hsb:eU rs ss c with
  |true=>
   erw[ends];exact hk _ _ _ ⟨⟨_,_,rfl⟩,rfl,by rw[htk,List.filter_append];simp[hsb]⟩
  |false=>
   erw[h4];refine adS (!0) (hk _ _ _ ⟨⟨_,_,rfl⟩,rfl,by rw[htk,List.filter_append];simp[hsb]⟩)
 .rintro acc Y G' ⟨_,rfl,rfl⟩;rw[af,g6];symm;have meet:∀xs∈[rs,ss],∀c∈bs,∀l,Fits c l->dF xs l=bO xs c:=by
   intro xs hxs c hc l hl;obtain ⟨e1,e2⟩:=hL.box c hc;rw[cK]at e1;have okc:=hL.okf (ade w) c hc;refine adE (λr hr=>?_) (e2 _ hxs) (adF okc hl) hl;rcases bB.mp hxs with e |hxs
   .rw[e]at hr;rw[hrl r hr,e1]
   .rw[ah.mp hxs]at hr;rw[hsl r hr,e1]
  have both:∀c∈bs,∀l,Fits c l->(cu rs (dF rs l)==cu ss (dF ss l))=eU rs ss c:=by intro c hc l hl;rw[meet rs (by simp) c hc l hl,meet ss (by simp) c hc l hl];rfl
  cases hfr:bs.filter λc=>!eU rs ss c with
  |nil=>
   have hall:∀c∈bs,eU rs ss c=true:=by
    intro c hc;have:=List.filter_eq_nil_iff.mp hfr c hc;cases h:eU rs ss c with
    |false=>rw[h]at this;exact absurd rfl this
    |true=>rfl
   erw[ends];ac_nf0;erw[ends];refine ⟨!1,.inr ⟨?_,t,bs,rfl,hL,hall⟩⟩;unfold bu;rw[List.filter_eq_nil_iff];intro l hl;obtain ⟨c,hc',hfc⟩:=hL.cover l (nJ.mp hl);rw[both c hc' l hfc,hall c hc'];simp
  |cons c0 cs=>
   have hne:(!(List.isEmpty (D.str (cL c0)::cs.map λc=>D.str (cL c))))=true:=rfl;erw[hne];rw[<-aS (f:=λc=>D.str (cL c)),<-hfr];have es:bw ((bs.filter λc=>!eU rs ss c).map λc=>D.str (cL c))=some ((bs.filter λc=>!eU rs ss c).map cL):=strs_map _ _;have ei:aZ ((bs.filter λc=>!eU rs ss c).map λc=>D.str (cL c))=none:=by rw[hfr];rfl
   refine adX ei es λm hm hlow=>?_;obtain ⟨c,hcm,rfl⟩:=bp.mp hm;obtain ⟨hcb,hcn⟩:=gy.mp hcm;refine ⟨!1,.inl ⟨cL c,?_,rfl⟩⟩;refine adW ?_ ?_ ?_
   .unfold bu;rw[adQ];exact (Jh _).filter _
   .unfold bu;rw[gy];refine ⟨nJ.mpr (hL.within c hcb _ (zx c)),?_⟩;rw[both c hcb _ (zx c)];exact hcn
   .intro x hx hlt;unfold bu at hx;obtain ⟨hx1,hx2⟩:=gy.mp hx;obtain ⟨c',hc',hfc⟩:=hL.cover x (nJ.mp hx1);rw[both c' hc' x hfc]at hx2;have hlow':=hlow (cL c') (bp.mpr ⟨c',gy.mpr ⟨hc',hx2⟩,rfl⟩);exact Jf hfc (Jg hlt hlow')
def nU:RF.Spec:=bG (λa:Nat×AU×AU=>[au a.1 a.2.1,au a.1 a.2.2]) (λa=>okB a.1 a.2.1/\okB a.1 a.2.2) (λa=>cZ (bu a.1 a.2.1 a.2.2).head?)
def Jo{w:Nat}{rs ss:AU}{G:DH}{k:AT}{E:EK}(h:okB w rs)(h':okB w ss)(hk:k (cZ (bu w rs ss).head?) G):nU.t [au w rs,au w ss] G k E:=bN (w,rs,ss) rfl ⟨h,h'⟩ hk
def ad3 (Z:aj) (h1:Z "alike"=nT) (a:Nat×AU×AU) (G:DH) (h:okB a.1 a.2.1/\okB a.1 a.2.2):az Z m5 noE (env0 [au a.1 a.2.1,au a.1 a.2.2] 2) G (ends λd G'=>G'=G/\d=cZ (bu a.1 a.2.1 a.2.2).head?):=by
 obtain ⟨w,rs,ss⟩:=a;obtain ⟨hb,hb'⟩:=h;dsimp only at hb hb' ⊢;have eb:(([97,108,105,107,101]==[112,97,114,116,101,100]):Bool)=false:=by decide
 simp_all_arith[m5];nofun;erw[h1];refine Jm hb hb' λd hq=>?_;rcases hq with ⟨m,hm,rfl⟩ |⟨hnil,t,bs,rfl,_,_⟩
 .erw[Jj];ac_nf0;erw[BEq.rfl,hm,cZ,and_self]
 .erw[ud];ac_nf0;erw[eb,hnil,List.head?_nil,cZ,and_self]
def swp(rs:AU)(n:Nat):AU:=rs.take n++[rs.getD (n+1) ([],[]),rs.getD n ([],[])]++rs.drop (n+2)
def ad4{w n:Nat}{rs:AU}(hb:okB w rs)(hn:n+1 < rs.length):okB w (swp rs n):=by
 refine hb.sub ?_ λr hr=>?_
 .unfold swp;rw[aw,aw,eL,eM];simp only[da,fN];have:=hb.len;omega
 .unfold swp at hr;rcases aT.mp hr with h |h
  .rcases aT.mp h with h |h
   .exact List.mem_of_mem_take h
   .simp only[bB,dS,or_false]at h;rcases h with e |e
    .rw[e,aE,ai hn];exact cp hn
    .rw[e,aE,ai (!0)];exact cp _
  .exact List.mem_of_mem_drop h
def ad5{α:Type}(l:List α)(n:Nat):cut l (some ((n:Int)+2)) none=l.drop (n+2):=Hw l (n+2)
def ad6{rs:AU}{n:Nat}(h:n < rs.length):(rs.map aP)[n]?=some (aP (rs.getD n ([],[]))):=by rw[bq,aE,ai h];rfl
def ddF(rs:AU)(l:AA):Option (AA):=(rs.find? λr=>fB r.1 l).map (·.2)
def ad7(r:Row)(rs:AU)(l:AA):ddF (r::rs) l=if fB r.1 l then some r.2 else ddF rs l:=by unfold ddF;rw[hZ];cases fB r.1 l <;> rfl
def nW(l:AA):∀rs:AU,cu rs (dF rs l)=ddF rs l
 |[]=>rfl
 |r::rs=>by
  have ih:=nW l rs;have e:=ac9 (rs:=r::rs) (i:=0) (l:=l) (r:=r) rfl;rw[List.drop_zero,Nat.zero_add,List.drop_succ_cons,List.drop_zero]at e;rw[e,ad7,<-ih];cases fB r.1 l with
  |true=>rfl
  |false=>cases dF rs l <;> rfl
def ug{w:Nat}{rs ss:AU}:bu w rs ss=[]↔∀l,okW w l->ddF rs l=ddF ss l:=by
 unfold bu;rw[List.filter_eq_nil_iff];constructor
 .intro h l hl;have:=h l (nJ.mpr (Im.mpr hl));rw[nW,nW]at this;simpa using this
 .intro h l hl;rw[nW,nW,h l (Im.mp (nJ.mp hl))];simp
def ad8{w:Nat}{rs ss ts:AU}(h1:bu w rs ss=[])(h2:bu w ss ts=[]):bu w rs ts=[]:=by rw[ug]at h1 h2 ⊢;intro l hl;rw[h1 l hl,h2 l hl]
def ad9{w:Nat}(rs:AU):bu w rs rs=[]:=ug.mpr λ_ _=>rfl
def aea{w:Nat}{rs ss:AU}(h:bu w rs ss=[]):bu w ss rs=[]:=ug.mpr λl hl=>(ug.mp h l hl).symm
def aq(o:AA):D:=.tup (o.map λi:Nat=>D.int (i:Int))
def okO(n:Nat)(o:AA):Prop:=o.Perm (List.range n)
def okO.len{n:Nat}{o:AA}(h:okO n o):o.length=n:=by rw[List.Perm.length_eq h,b6]
def okO.mem{n i:Nat}{o:AA}(h:okO n o)(hi:i∈o):i < n:=eh.mp ((List.Perm.mem_iff h).mp hi)
def zy(n:Nat):D.tup (aR 0 n)=aq (List.range n):=by unfold aR aq;congr 1;exact b9 (λ(i:Nat) _=>by rw[gS])
def aC(o:AA):List Int:=o.map λi:Nat=>(i:Int)
def j4(o:AA):o.map (λi:Nat=>D.int (i:Int))=(aC o).map D.int:=by unfold aC;rw[cb];rfl
def aeb(n:Nat):aR 0 n=(aC (List.range n)).map D.int:=by have:=zy n;unfold aq at this;rw[j4]at this;exact D.tup.inj this
def iV:∀l:List Int,aZ (l.map D.int)=some l
 |[]=>rfl
 |a::l=>by rw[aS,aZ,iV l]
def aec:∀n:Fin 13,(aC (List.range n.1)).Pairwise (·<=·):=by decide
def Jp:∀{a b:List Int},a.Perm b->a.Pairwise (·<=·)->b.Pairwise (·<=·)->a=b
 |[],b,h,_,_=>h.nil_eq
 |x::a,[],h,_,_=>absurd h.length_eq (by simp)
 |x::a,y::b,h,ha,hb=>by
  rw[List.pairwise_cons]at ha hb;have h1:x∈y::b:=h.mem_iff.mp bg;have h2:y∈x::a:=h.mem_iff.mpr bg;have e:x=y:=by
   rcases bB.mp h1 with e |m
   .exact e
   .rcases bB.mp h2 with e |m'
    .exact e.symm
    .have:=hb.1 x m;have:=ha.1 y m';omega
  subst e;rw[Jp (List.perm_cons x |>.mp h) ha.2 hb.2]
def uh:∀l:List Int,nrs (l.map D.int)=true/\bf (l.map D.int)=0
 |[]=>⟨rfl,rfl⟩
 |a::l=>by
  obtain ⟨h1,h2⟩:=uh l;rw[aS,nrs,bf,h1,h2];exact ⟨rfl,rfl⟩
def ul(o:AA):nr (aq o)=true/\dpt (aq o)<=1:=by unfold aq;rw[j4,nr,dpt,(uh _).1,(uh _).2];exact ⟨rfl,ax _⟩
def j5:RF.Spec:=bG (λa:Nat×AU=>[au a.1 a.2]) (λa=>okB a.1 a.2) (λa=>aq (List.range a.2.length))
def zz{w:Nat}{rs:AU}{G:DH}{k:AT}{E:EK}(h:okB w rs)(hk:k (aq (List.range rs.length)) G):j5.t [au w rs] G k E:=bN (w,rs) rfl h hk
def aed(Z:aj)(a:Nat×AU)(G:DH)(h:okB a.1 a.2):az Z mZ noE (env0 [au a.1 a.2] 0) G (ends λd G'=>G'=G/\d=aq (List.range a.2.length)):=by obtain ⟨w,rs⟩:=a;dsimp only at h ⊢;have hlen:=h.len;erw[mZ,au,af,bS];exact ⟨⟨!0,!0⟩,zy _⟩
def byR(rs:AU)(o:AA):AU:=o.map λi=>rs.getD i ([],[])
def Jq{w:Nat}{rs:AU}{o:AA}(hb:okB w rs)(ho:okO rs.length o):okB w (byR rs o):=by
 refine hb.sub ?_ λr hr=>?_
 .unfold byR;rw[af,ho.len];first |exact hb.len |exact ax _
 .obtain ⟨i,hi,rfl⟩:=bp.mp hr;have:=ho.mem hi;rw[aE,ai this];exact cp _
def aee{rs:AU}{o:AA}{d:D}{n:Nat}(ho:okO n o)(hn:rs.length=n)(hd:d∈o.map λi:Nat=>D.int (i:Int)):∃i:Nat,d=.int (i:Int)/\atI (rs.map aP) (i:Int)=some (aP (rs.getD i ([],[]))):=by obtain ⟨i,hi,rfl⟩:=bp.mp hd;exact ⟨i,rfl,cz (ad6 (by rw[hn];exact ho.mem hi))⟩
def Jr(rs:AU):D->D
 |.int i=>aP (rs.getD i.toNat ([],[]))
 |_=>.non
def aef(rs:AU)(o:AA):(o.map λi:Nat=>D.int (i:Int)).map (Jr rs)=(byR rs o).map aP:=by unfold byR;rw[cb,cb];exact b9 λi _=>rfl
def good(w:Nat)(rs:AU)(o:AA):Bool:=(bu w rs (byR rs o)).isEmpty
def j6:RF.Spec:=bG (A:=Nat×AU×AA) (λa=>[au a.1 a.2.1,aq a.2.2]) (λa=>okB a.1 a.2.1/\okO a.2.1.length a.2.2) (λa=>.bl (good a.1 a.2.1 a.2.2))
def zA{w:Nat}{rs:AU}{o:AA}{G:DH}{k:AT}{E:EK}(h:okB w rs)(ho:okO rs.length o)(hk:k (.bl (good w rs o)) G):j6.t [au w rs,aq o] G k E:=bN (w,rs,o) rfl ⟨h,ho⟩ hk
def aF(o:AA)(n:Nat):AA:=o.take n++[o.getD (n+1) 0,o.getD n 0]++o.drop (n+2)
def Js{l:AA}{n:Nat}(h:n+1 < l.length):l=l.take n++(l.getD n 0::l.getD (n+1) 0::l.drop (n+2)):=by
 have e:l.drop n=l.getD n 0::l.getD (n+1) 0::l.drop (n+2):=by rw[bo (show n < l.length by omega),bo h,aE,aE,ai (show n < l.length by omega),ai h];rfl
 rw[<-e,List.take_append_drop]
def j7{m n:Nat}{o:AA}(ho:okO m o)(h:n+1 < m):okO m (aF o n):=by
 have hl:n+1 < o.length:=by rw[ho.len];exact h
 refine List.Perm.trans ?_ ho;conv=>rhs;rw[Js hl]
 unfold aF;rw[fT];exact List.Perm.append_left _ (List.Perm.swap _ _ _)
def nY(l:AS)(n:Nat):AS:=l.take n++[l.getD (n+1) .non,l.getD n .non]++l.drop (n+2)
def Jt{α:Type}{l:List α}{n:Nat}(f:α->D)(z:α)(h:n+1 < l.length):nY (l.map f) n=(l.take n++[l.getD (n+1) z,l.getD n z]++l.drop (n+2)).map f:=by
 have h':n < l.length:=by omega
 unfold nY;rw[b4,b4,List.map_take,List.map_drop];simp[aE,ai h,ai h']
def iW:RF.Spec:=bG (A:=AS×Nat) (λa=>[.tup a.1,.int (a.2:Nat)]) (λa=>a.2+1 < a.1.length/\a.1.length<=12) (λa=>.tup (nY a.1 a.2))
def Ju{o:AA}{n:Nat}{G:DH}{k:AT}{E:EK}(h1:n+1 < o.length)(h2:o.length<=12)(hk:k (aq (aF o n)) G):iW.t [aq o,.int (n:Nat)] G k E:=bN (o.map (λi:Nat=>D.int (i:Int)),n) rfl ⟨by rw[af];exact h1,by rw[af];exact h2⟩ (by dsimp only;rw[Jt _ 0 h1];exact hk)
def aeg{rs:AU}{n:Nat}{G:DH}{k:AT}{E:EK}(h1:n+1 < rs.length)(h2:rs.length<=12)(hk:k (.tup ((swp rs n).map aP)) G):iW.t [.tup (rs.map aP),.int (n:Nat)] G k E:=bN (rs.map aP,n) rfl ⟨by rw[af];exact h1,by rw[af];exact h2⟩ (by dsimp only;rw[Jt _ ([],[]) h1];exact hk)
def Jv{l:AS}{n:Nat}(h:n < l.length):l[n]?=some (l.getD n .non):=by rw[aE,ai h];rfl
def aeh(Z:aj)(a:AS×Nat)(G:DH)(h:a.2+1 < a.1.length/\a.1.length<=12):az Z m8 noE (env0 [.tup a.1,.int (a.2:Nat)] 0) G (ends λd G'=>G'=G/\d=.tup (nY a.1 a.2)):=by obtain ⟨o,n⟩:=a;obtain ⟨h1,h2⟩:=h;dsimp only at h1 h2 ⊢;simp_all_arith[m8];refine last ?_;erw[yp,ad5];refine bM (a:=o.getD (n+1) .non) (cz (j:=n+1) (Jv h1)) (bM (a:=o.getD n .non) (cz (Jv (!0))) ?_);refine ⟨!1,by rw[eL];bv_omega,by simp only[aw,eL,eM,da,fN];bv_omega,?_⟩;unfold nY;first |trivial |exact ⟨rfl,rfl⟩ |rfl
def gh(o:AA):AS:=(List.range (o.length - 1)).map λi:Nat=>D.tup [.int (i:Int),aq (aF o i)]
def nZ:RF.Spec:=bG (A:=AA) (λo=>[aq o]) (λo=>o.length<=12) (λo=>.lst (gh o))
def Jw{o:AA}{G:DH}{k:AT}{E:EK}(h:o.length<=12)(hk:k (.lst (gh o)) G):nZ.t [aq o] G k E:=bN o rfl h hk
def stepI(o:AA):D->D
 |.int i=>.tup [.int i,aq (aF o i.toNat)]
 |_=>.non
def aei(o:AA):(aR 0 (o.length - 1)).map (stepI o)=gh o:=by unfold aR gh;rw[cb];refine b9 λi _=>?_;show stepI o (.int (0+(i:Nat)))=_;rw[gS];rfl
def aej (Z:aj) (h1:Z "exchanged"=iW) (o:AA) (G:DH) (h:o.length<=12):az Z m9 noE (env0 [aq o] 0) G (ends λd G'=>G'=G/\d=.lst (gh o)):=by
 have ed:aq o=.tup (o.map λi:Nat=>D.int (i:Int)):=rfl;have e1:((o.length:Int) - 1).toNat=o.length - 1:=by omega
 simp_all_arith[m9];refine last ?_;erw[h1];rw[ed];erw[af,e1];refine ⟨⟨!0,!0⟩,?_⟩;refine CompG.map (f:=stepI o) (I:=λY=>∃x,Y=[x,some (aq o)]) ⟨_,rfl⟩ trivial (by unfold aR;rw[af,b6];bv_omega) ?_ ?_
 .rintro d Y hd ⟨x,rfl⟩ kk hk;unfold aR at hd;obtain ⟨i,hi,rfl⟩:=bp.mp hd;have hi:=eh.mp hi;have e0:(0:Int)+(i:Nat)=(i:Int):=gS _;rw[e0]at hk ⊢;erw[h1];refine Ju (!0) h ⟨!1,?_⟩;exact hk _ ⟨_,rfl⟩
 .rw[aei];erw[and_self]
def iY(o:AA):aq o=.tup ((aC o).map D.int):=by unfold aq;rw[j4]
def zB{o:AA}{kk:List Int->Prop}:bZ (aq o) kk=kk (aC o):=by rw[iY,tR,iV];rfl
def zE{o:AA}{ks:List (List Int)}{ds:AS}{kb:Bool->Prop}:aX .In (aq o) (.dct ks ds) kb=kb (kIx ks (aC o)).isSome:=by rw[HH,zB]
def zF{o:AA}{ks:List (List Int)}{ds:AS}{kb:Bool->Prop}:aX .NotIn (aq o) (.dct ks ds) kb=kb (!(kIx ks (aC o)).isSome):=by rw[HJ,zB]
def Jx{o:AA}{ks:List (List Int)}{ds:AS}{kd:D->Prop}:cN (.dct ks ds) (aq o) kd=aV (kIx ks (aC o)) λi=>aV ds[i]? kd:=by rw[iY,HN,tR,iV];rfl
def Jy{o:AA}{p:AQ}{x:D}{G:DH}{kg:DH->Prop}:dM (.ref p) (aq o) x G kg=lX G p (λks ds=>ks.length < sz/\kg (aL G p (dput ks ds (aC o) x))):=by rw[iY,HR];simp only[tR,iV,Hy]
theorem iZ{o:AA}{G:DH}:view G (aq o)=aq o:=rfl
def JB{ks:List (List Int)}{n:List Int}(h:n∉ks):kIx ks n=none:=by unfold kIx;rw[List.findIdx?_eq_none_iff];exact λx hx=>ce λe=>h (e ▸ hx)
def JC{ks:List (List Int)}{n:List Int}{i:Nat}(h:kIx ks n=some i):i < ks.length/\n∈ks:=by unfold kIx at h;obtain ⟨hi,hp,_⟩:=dy.mp h;have e:=ee hp;exact ⟨hi,e ▸ cp hi⟩
def um{ks:List (List Int)}{n:List Int}(h:n∈ks):∃i,kIx ks n=some i:=by
 cases e:kIx ks n with
 |some i=>exact ⟨i,rfl⟩
 |none=>
  unfold kIx at e;rw[List.findIdx?_eq_none_iff]at e;have:=e n h;rw[bX rfl]at this;cases this
def uo{ks:List (List Int)}{n:List Int}(h:(kIx ks n).isSome=false):n∉ks:=λm=>by
 obtain ⟨i,e⟩:=um m;rw[e]at h;cases h
def JD{ks:List (List Int)}{ds:AS}{n:List Int}{x:D}(h:n∉ks):dput ks ds n x=.dct (ks++[n]) (ds++[x]):=by unfold dput;rw[JB h]
def JF{α:Type}[DecidableEq α]:∀{l m:List α},l.Nodup->(∀x∈l,x∈m)->l.length<=m.length
 |[],m,_,_=>cr _
 |a::l,m,h,hm=>by
  rw[dr]at h;have ha:=hm a bg;have:=JF (m:=m.erase a) h.2 λx hx=>(List.mem_erase_of_ne (λ(e:x=a)=>h.1 (e ▸ hx))).mpr (hm x (bi _ hx));rw[List.length_erase_of_mem ha]at this;have:=List.length_pos_of_mem ha;rw[da];omega
def jb:Nat->List (List Int)
 |0=>[[]]
 |k+1=>(jb k).flatMap λl=>[0::l,1::l,2::l,3::l,4::l]
def aek(k:Nat):(jb k).length=5 ^ k:=by
 induction k with
 |zero=>rfl
 |succ k ih=>
  rw[jb,Nat.pow_succ,<-ih];generalize jb k=m;induction m with
  |nil=>rfl
  |cons a m ihm=>rw[List.flatMap_cons,aw,ihm];simp only[da,fN];omega
def JG:∀l:List Int,(∀x∈l,0<=x/\x < 5)->l∈jb l.length
 |[],_=>ah.mpr rfl
 |a::l,h=>by
  rw[da,jb];refine List.mem_flatMap.mpr ⟨l,JG l λx hx=>h x (bi _ hx),?_⟩;obtain ⟨h0,h5⟩:=h a bg;have:a=0\/a=1\/a=2\/a=3\/a=4:=by omega
  rcases this with rfl |rfl |rfl |rfl |rfl <;> simp
def isKey(n:Nat)(k:List Int):Prop:=∃o,okO n o/\k=aC o
def uq{n:Nat}{ks:List (List Int)}(hn:n<=5)(nd:ks.Nodup)(h:∀k∈ks,isKey n k):ks.length<=3125:=by
 have h1:ks.length<=(jb n).length:=JF nd λk hk=>by
  obtain ⟨o,ho,rfl⟩:=h k hk;have e:(aC o).length=n:=by unfold aC;rw[af,ho.len]
  rw[<-e];refine JG _ λx hx=>?_;unfold aC at hx;obtain ⟨i,hi,rfl⟩:=bp.mp hx;have:=ho.mem hi;omega
 rw[aek]at h1;exact ca h1 (ge (!1) hn)
structure WInv(n:Nat)(ks:List (List Int))(ds:AS):Prop where
 nd:ks.Nodup
 ok:∀k∈ks,isKey n k
 len:ds.length=ks.length
 val:∀d∈ds,∃l:AS,d=.lst l/\l.length<=ks.length
def JH{ks:List (List Int)}{k:List Int}(h:ks.Nodup)(hk:k∉ks):(ks++[k]).Nodup:=by rw[List.nodup_append];exact ⟨h,dr.mpr ⟨dS,fb⟩,λa ha b hb e=>hk (by rw[<-ah.mp hb,<-e];exact ha)⟩
def WInv.add{n:Nat}{ks:List (List Int)}{ds:AS}{k:List Int}{l:AS}(h:WInv n ks ds)(hk:k∉ks)(ho:isKey n k)(hl:l.length<=ks.length+1):WInv n (ks++[k]) (ds++[.lst l]) where
 nd:=JH h.nd hk
 ok:=λx hx=>by
  rcases aT.mp hx with z |z
  .exact h.ok x z
  .rw[ah.mp z];exact ho
 len:=by rw[aw,aw,h.len];rfl
 val:=λd hd=>by
  rw[aw];rcases aT.mp hd with z |z
  .obtain ⟨l',e,hl'⟩:=h.val d z;exact ⟨l',e,ca hl' (dQ _ _)⟩
  .exact ⟨l,ah.mp z,hl⟩
def ur(a b:AA)(x y:Nat):aF (a++x::y::b) a.length=a++y::x::b:=by
 unfold aF;have e1:(a++x::y::b).getD a.length 0=x:=by rw[aE,ff (ax _),Nat.sub_self];rfl
 have e2:(a++x::y::b).getD (a.length+1) 0=y:=by rw[aE,ff (!0),show a.length+1 - a.length=1 by omega];rfl
 rw[e1,e2,List.take_left' rfl,fT,<-List.drop_drop,List.drop_left' rfl];rfl
def JK{l:AA}{n:Nat}(h:n+1 < l.length):∃a x y b,l=a++x::y::b/\a.length=n:=⟨_,_,_,_,Js h,by rw[eL];omega⟩
def ael{o:AA}{j:Nat}(h:j+1 < o.length):aF (aF o j) j=o:=by obtain ⟨a,x,y,b,rfl,rfl⟩:=JK h;rw[ur,ur]
def aem{o:AA}{j:Nat}(f:Nat->Nat)(h:j+1 < o.length):(aF o j).map f=aF (o.map f) j:=by obtain ⟨a,x,y,b,rfl,rfl⟩:=JK h;rw[ur,b4,b4];have:=ur (a.map f) (b.map f) (f x) (f y);rw[af]at this;exact this.symm
def okO.nd{n:Nat}{o:AA}(h:okO n o):o.Nodup:=(List.Perm.nodup_iff h).mpr List.nodup_range
def okO.has{n i:Nat}{o:AA}(h:okO n o)(hi:i < n):i∈o:=(List.Perm.mem_iff h).mpr (eh.mpr hi)
def dG(o q:AA):AA:=q.map λi=>o.getD i 0
def bV(o:AA):AA:=(List.range o.length).map λi=>o.idxOf i
def aen{o:AA}(nd:o.Nodup){i:Nat}(h:i < o.length):o.idxOf (o.getD i 0)=i:=by rw[aE,ai h];exact List.Nodup.idxOf_getElem nd i h
def aeo{o:AA}{x:Nat}(h:x∈o):o.getD (o.idxOf x) 0=x:=by have hl:=List.idxOf_lt_length_iff.mpr h;rw[aE,ai hl];exact List.getElem_idxOf hl
def aep(o:AA):dG o (List.range o.length)=o:=by unfold dG;refine List.ext_getElem (by rw[af,b6]) λi h1 h2=>?_;rw[g9,fe,aE,ai h2];rfl
def JL{o:AA}(nd:o.Nodup):o.map (λi=>o.idxOf i)=List.range o.length:=by refine List.ext_getElem (by rw[af,b6]) λi h1 h2=>?_;rw[g9,fe];exact List.Nodup.idxOf_getElem nd i _
def zG{n:Nat}{o:AA}(h:okO n o):okO n (bV o):=by unfold okO bV;have p:((List.range n).map λi=>o.idxOf i).Perm (o.map λi=>o.idxOf i):=List.Perm.map _ (List.Perm.symm h);rw[JL h.nd,h.len]at p;rw[h.len];exact p
def aeq{n:Nat}{o:AA}(h:okO n o):dG o (bV o)=List.range n:=by
 unfold dG bV;rw[cb,h.len];conv=>rhs;rw[<-List.map_id (List.range n)]
 exact b9 λi hi=>aeo (h.has (eh.mp hi))
def JM{n:Nat}{o q:AA}(h:okO n o)(hq:okO n q)(e:dG o q=List.range n):q=bV o:=by
 unfold bV;rw[h.len,<-e];unfold dG;rw[cb];conv=>lhs;rw[<-List.map_id q]
 exact b9 λi hi=>(aen h.nd (by rw[h.len];exact hq.mem hi)).symm
def aer{n:Nat}{o:AA}(h:okO n o):bV (bV o)=o:=by
 refine (JM (zG h) h ?_).symm;unfold dG;have e:o.map (λi=>(bV o).getD i 0)=o.map (λi=>o.idxOf i):=b9 λi hi=>by
  unfold bV;have hi:=h.mem hi;rw[aE,bq,List.getElem?_range (by rw[h.len];exact hi)];rfl
 rw[e,JL h.nd,h.len]
inductive GP (gd:AA->Bool) (n:Nat):AA->AA->Prop
 |nil:GP gd n [] (List.range n)
 |snoc {st o:AA} {j:Nat}:GP gd n st o->j+1 < n->gd (aF o j)=true->GP gd n (st++[j]) (aF o j)
def GP.ok{gd:AA->Bool}{n:Nat}{st o:AA}(h:GP gd n st o):okO n o:=by
 induction h with
 |nil=>exact gN _
 |snoc h hj g ih=>exact j7 ih hj
def lea(gd:AA->Bool)(n:Nat)(st o:AA):Prop:=GP gd n st o/\∀st',GP gd n st' o->st.length<=st'.length
def GP.last{gd:AA->Bool}{n:Nat}{st o:AA}(h:GP gd n st o):(st=[]/\o=List.range n)\/∃st0 o0 j,st=st0++[j]/\o=aF o0 j/\GP gd n st0 o0/\j+1 < n/\gd o=true:=by
 cases h with
 |nil=>exact .inl ⟨rfl,rfl⟩
 |snoc h hj g=>exact .inr ⟨_,_,_,rfl,rfl,h,hj,g⟩
def GP.turn{g1 g2:AA->Bool}{n:Nat}{o st r:AA}(ho:okO n o)(h:GP g1 n st r)(c:∀s q,GP g1 n s (dG o q)->okO n q->g2 q=true):∀t q,dG o q=r->GP g2 n t q->GP g2 n (t++st.reverse) (bV o):=by
 induction h with
 |nil=>
  intro t q e h;rw[<-JM ho h.ok e];simpa using h
 |snoc h hj g ih=>
  rename_i st r j;intro t q e hq;have hl:j+1 < q.length:=by rw[hq.ok.len];exact hj
  have e':dG o (aF q j)=r:=by unfold dG at e ⊢;rw[aem _ hl,e,ael (by rw[h.ok.len];exact hj)]
  have:=ih (t++[j]) (aF q j) e' (.snoc hq hj (c st _ (by rw[e'];exact h) (j7 hq.ok hj)));simpa using this
structure LI(gd:AA->Bool)(n t:Nat)(A B:AA->Prop):Prop where
 all:∀st o,GP gd n st o->st.length<=t->A o
 top:∀o,B o->A o/\∃st,lea gd n st o/\st.length=t
 has:∀st o,lea gd n st o->st.length=t->B o
open Classical in
def JN{gd:AA->Bool}{n:Nat}{st o:AA}(h:GP gd n st o):∃st',lea gd n st' o/\st'.length<=st.length:=by
 induction hm:st.length using Nat.strongRecOn generalizing st with
 |_ m ih=>
  subst hm;by_cases hx:∀st',GP gd n st' o->st.length<=st'.length
  .exact ⟨st,⟨h,hx⟩,ax _⟩
  .have ⟨st',hs⟩:=Classical.not_forall.mp hx;have ⟨h1,h2⟩:=Classical.not_imp.mp hs;obtain ⟨s,a,b⟩:=ih st'.length (!0) h1 rfl;exact ⟨s,a,!0⟩
def LI.done{gd:AA->Bool}{n t:Nat}{A B:AA->Prop}(h:LI gd n t A B)(hb:∀o,¬B o):∀st o,GP gd n st o->A o:=by
 have key:∀st o,GP gd n st o->∃s,GP gd n s o/\s.length<=t:=by
  intro st o hg;induction hg with
  |nil=>exact ⟨[],.nil,cr _⟩
  |snoc hg hj g ih=>
   obtain ⟨s,hs,hl⟩:=ih;obtain ⟨s',hs',hl'⟩:=JN hs;by_cases e:s'.length=t
   .exact absurd (h.has _ _ hs' e) (hb _)
   .exact ⟨_,.snoc hs'.1 hj g,by rw[aw,dv];omega⟩
 intro st o hg;obtain ⟨s,hs,hl⟩:=key st o hg;exact h.all s o hs hl
def LI.next{gd:AA->Bool}{n t:Nat}{A B A' B':AA->Prop}(h:LI gd n t A B)(hA:∀o,A o->A' o)(hp:∀o j,B o->j+1 < n->gd (aF o j)=true->A' (aF o j))(ht:∀o,B' o->A' o/\∃st,lea gd n st o/\st.length=t+1)(hn:∀o,A' o->A o\/B' o)(hl:∀o,A o->∃st,GP gd n st o/\st.length<=t):LI gd n (t+1) A' B' where
 all:=λst o hg hs=>by
  rcases hg.last with ⟨rfl,rfl⟩ |⟨st0,o0,j,rfl,rfl,h0,hj,g⟩
  .exact hA _ (h.all _ _ hg (cr _))
  .obtain ⟨s,hl,hle⟩:=JN h0;rw[aw,dv]at hs;by_cases e:s.length=t
   .exact hp _ _ (h.has _ _ hl e) hj g
   .exact hA _ (h.all _ _ (.snoc hl.1 hj g) (by rw[aw,dv];omega))
 top:=ht
 has:=λst o hl' e=>by
  have ha:A' o:=by
   rcases hl'.1.last with ⟨rfl,rfl⟩ |⟨st0,o0,j,rfl,rfl,h0,hj,g⟩
   .cases e
   .rw[aw,dv]at e;have l0:lea gd n st0 o0:=⟨h0,λs hs=>by
     have:=hl'.2 _ (.snoc hs hj g);rw[aw,aw]at this;simpa using this⟩
    exact hp _ _ (h.has _ _ l0 (!0)) hj g
  rcases hn o ha with z |z
  .obtain ⟨s,hs,hle⟩:=hl o z;have:=hl'.2 s hs;omega
  .exact z
def n6{Z:aj}{ss:Sxs}{E:EK}{Y:ak}{G:DH}{q:AQ}{o:DO}{Dn:En}(hq:G q=none)(h:∀G1,G1 q=some o->Sa G G1->az Z ss E Y G1 Dn):az Z ss E Y (aL G q o) Dn:=h _ bA (Sa.new hq)
structure FGW(Z:aj):Prop where
 first:Z "first_order"=j5
 steps:Z "steps_from"=nZ
 good:Z "is_good"=j6
structure GI(n:Nat)(G0 G':DH)(p q:AQ)(ks:List (List Int))(ds:AS)(kb:List (List Int))(db:AS):Prop where
 gp:G' p=some (.dct ks ds)
 gq:G' q=some (.dct kb db)
 bn:kb.Nodup
 bk:∀k∈kb,isKey n k
 w:WInv n ks ds
 sa:Sa G0 G'
 zp:G0 p=none
 zq:G0 q=none
 pq:p≠q
def GI.to{n:Nat}{G0 G1 G2:DH}{p q:AQ}{ks:List (List Int)}{ds:AS}{kb:List (List Int)}{db:AS}(h:GI n G0 G1 p q ks ds kb db)(s:Sa G1 G2):GI n G0 G2 p q ks ds kb db:=⟨s _ _ h.gp,s _ _ h.gq,h.bn,h.bk,h.w,h.sa.trans s,h.zp,h.zq,h.pq⟩
def GI.ne{n:Nat}{G0 G1:DH}{p q r:AQ}{ks:List (List Int)}{ds:AS}{kb:List (List Int)}{db:AS}(h:GI n G0 G1 p q ks ds kb db)(hr:G1 r=none):r≠p/\r≠q/\G0 r=none:=by
 refine ⟨λe=>?_,λe=>?_,?_⟩
 .rw[e,h.gp]at hr;cases hr
 .rw[e,h.gq]at hr;cases hr
 .cases e:G0 r with
  |none=>rfl
  |some o=>rw[h.sa _ _ e]at hr;cases hr
def nwOk(n:Nat)(ks:List (List Int))(nw:List (AA)):Prop:=∀o∈nw,okO n o/\aC o∈ks
def nwOk.more{n:Nat}{ks:List (List Int)}{nw:List (AA)}{k:List Int}(h:nwOk n ks nw):nwOk n (ks++[k]) nw:=λo ho=>⟨(h o ho).1,cf _ (h o ho).2⟩
def ut{a b:AA}(h:aC a=aC b):a=b:=by
 unfold aC at h;have:(a.map λi:Nat=>(i:Int)).map Int.toNat=(b.map λi:Nat=>(i:Int)).map Int.toNat:=by rw[h]
 rw[cb,cb]at this;have e:(Int.toNat∘λi:Nat=>(i:Int))=id:=funext λi=>bS i;rw[e,List.map_id,List.map_id]at this;exact this
def dSt(st:AA):D:=.lst (st.map λi:Nat=>D.int (i:Int))
def WG(gd:AA->Bool)(n t:Nat)(ks:List (List Int))(ds:AS):Prop:=∀(i:Nat)(k:List Int),ks[i]?=some k->∃o st,k=aC o/\ds[i]?=some (dSt st)/\lea gd n st o/\st.length<=t
def WG.has{gd:AA->Bool}{n t:Nat}{ks:List (List Int)}{ds:AS}(h:WG gd n t ks ds){o:AA}{i:Nat}(hi:kIx ks (aC o)=some i):∃st,ds[i]?=some (dSt st)/\lea gd n st o/\st.length<=t:=by unfold kIx at hi;obtain ⟨hl,hp,_⟩:=dy.mp hi;have e:=ee hp;obtain ⟨o',st,e1,e2,e3,e4⟩:=h i _ (ai hl);rw[e]at e1;rw[ut e1];exact ⟨st,e2,e3,e4⟩
def WG.of{gd:AA->Bool}{n t:Nat}{ks:List (List Int)}{ds:AS}(h:WG gd n t ks ds){o:AA}(hm:aC o∈ks):∃st,lea gd n st o/\st.length<=t:=by obtain ⟨i,hi⟩:=um hm;obtain ⟨st,_,e⟩:=h.has hi;exact ⟨st,e⟩
def WG.add{gd:AA->Bool}{n t:Nat}{ks:List (List Int)}{ds:AS}(h:WG gd n t ks ds)(hl:ds.length=ks.length){o st:AA}(h1:lea gd n st o)(h2:st.length<=t):WG gd n t (ks++[aC o]) (ds++[dSt st]):=λi k hk=>by
 by_cases hi:i < ks.length
 .rw[d0 hi]at hk;obtain ⟨o',st',e1,e2,e3,e4⟩:=h i k hk;exact ⟨o',st',e1,by rw[d0 (!0)];exact e2,e3,e4⟩
 .rw[ff (!0)]at hk;have:i - ks.length=0:=by
   have:=(ar.mp hk).1;simp only[da,fN]at this;omega
  rw[this]at hk;cases hk;exact ⟨o,st,rfl,by rw[ff (!0),hl,this];rfl,h1,h2⟩
structure TI(gd:AA->Bool)(n t:Nat)(ks0 ks:List (List Int))(ds:AS)(kb:List (List Int))(fu:List (AA))(dn:AA->Nat->Prop):Prop where
 wg:WG gd n (t+1) ks ds
 sub:∀k∈ks0,k∈ks
 new:∀o,aC o∈ks->aC o∈ks0\/o∈fu
 fu:∀o∈fu,aC o∈ks/\∃st,lea gd n st o/\st.length=t+1
 bad:∀o,aC o∈kb->gd o=false
 dn:∀o j,dn o j->j+1 < n->gd (aF o j)=true->aC (aF o j)∈ks
def TI.mono{gd:AA->Bool}{n t:Nat}{ks0 ks:List (List Int)}{ds:AS}{kb:List (List Int)}{fu:List (AA)}{dn dn':AA->Nat->Prop}(h:TI gd n t ks0 ks ds kb fu dn)(hd:∀o j,j+1 < n->dn' o j->dn o j\/(gd (aF o j)=true->aC (aF o j)∈ks)):TI gd n t ks0 ks ds kb fu dn':=
 ⟨h.wg,h.sub,h.new,h.fu,h.bad,λo j h1 h2 h3=>(hd o j h2 h1).elim (λz=>h.dn o j z h2 h3) λz=>z h3⟩
def TI.add{gd:AA->Bool}{n t:Nat}{ks0 ks:List (List Int)}{ds:AS}{kb:List (List Int)}{fu:List (AA)}{dn:AA->Nat->Prop}{B:AA->Prop}(h:TI gd n t ks0 ks ds kb fu dn)(L:LI gd n t (λo=>aC o∈ks0) B)(hl:ds.length=ks.length){o st:AA}{j:Nat}(hB:B o)(hs:lea gd n st o)(hj:j+1 < n)(hg:gd (aF o j)=true)(hn:aC (aF o j)∉ks):TI gd n t ks0 (ks++[aC (aF o j)]) (ds++[dSt (st++[j])]) kb (fu++[aF o j]) (λo' j'=>dn o' j'\/(o'=o/\j'=j)):=by
 obtain ⟨_,s0,l0,e0⟩:=L.top o hB;have es:st.length=t:=by have:=hs.2 _ l0.1;have:=l0.2 _ hs.1;omega
 have lt:lea gd n (st++[j]) (aF o j):=⟨.snoc hs.1 hj hg,λs hs'=>by
  rw[aw,dv,es];by_cases hle:s.length<=t
  .exact absurd (h.sub _ (L.all s _ hs' hle)) hn
  .omega⟩
 have el:(st++[j]).length=t+1:=by rw[aw,dv,es]
 refine ⟨h.wg.add hl lt (!0),λk hk=>cf _ (h.sub k hk),λo' ho'=>?_,λo' ho'=>?_,h.bad,λo' j' hd h2 h3=>?_⟩
 .rcases aT.mp ho' with z |z
  .rcases h.new o' z with y |y
   .exact .inl y
   .exact .inr (cf _ y)
  .rw[ut (ah.mp z)];exact .inr (al _ (ah.mpr rfl))
 .rcases aT.mp ho' with z |z
  .exact ⟨cf _ (h.fu o' z).1,(h.fu o' z).2⟩
  .rw[ah.mp z];exact ⟨al _ (ah.mpr rfl),_,lt,el⟩
 .rcases hd with z |⟨rfl,rfl⟩
  .exact cf _ (h.dn o' j' z h2 h3)
  .exact al _ (ah.mpr rfl)
def TI.badd{gd:AA->Bool}{n t:Nat}{ks0 ks:List (List Int)}{ds:AS}{kb:List (List Int)}{fu:List (AA)}{dn:AA->Nat->Prop}(h:TI gd n t ks0 ks ds kb fu dn){o:AA}(hg:gd o=false):TI gd n t ks0 ks ds (kb++[aC o]) fu dn:=
 ⟨h.wg,h.sub,h.new,h.fu,λo' ho'=>by
  rcases aT.mp ho' with z |z
  .exact h.bad o' z
  .rw[ut (ah.mp z)];exact hg,h.dn⟩
def zH(gd:AA->Bool)(n:Nat)(o:AA)(ks:List (List Int))(ds:AS):Prop:=(∃t,WG gd n t ks ds)/\(aC o∈ks\/∀st o',GP gd n st o'->aC o'∈ks)
def zJ{ks:List (List Int)}{n:List Int}(h:(kIx ks n).isSome=true):n∈ks:=by obtain ⟨i,e⟩:=cm.mp h;exact (JC e).2
def uv:RF.Spec:=ghS (A:=Nat×AU×AA) (λa ds _=>ds=[au a.1 a.2.1,aq a.2.2]/\okB a.1 a.2.1/\a.2.1.length<=5) (λa G d G'=>∃p ks ds,d=.ref p/\G p=none/\G' p=some (.dct ks ds)/\Sa G G'/\WInv a.2.1.length ks ds/\zH (good a.1 a.2.1) a.2.1.length a.2.2 ks ds)
def aes{w:Nat}{rs:AU}{o:AA}{G:DH}{k:AT}{E:EK}(h:okB w rs)(h5:rs.length<=5)(hk:∀p ks ds G',G p=none->G' p=some (.dct ks ds)->Sa G G'->WInv rs.length ks ds->zH (good w rs) rs.length o ks ds->k (.ref p) G'):uv.t [au w rs,aq o] G k E:=iH (w,rs,o) ⟨rfl,h,h5⟩ λd G' hx=>by
 obtain ⟨p,ks,ds,rfl,h1,h2,h3,h4,h5⟩:=hx;exact hk p ks ds G' h1 h2 h3 h4 h5
def aet(Z:aj)(F:FGW Z)(a:Nat×AU×AA)(ds:AS)(G:DH)(h:ds=[au a.1 a.2.1,aq a.2.2]/\okB a.1 a.2.1/\a.2.1.length<=5):az Z nu noE (env0 ds 7) G (ends λd G'=>∃p ks ds,d=.ref p/\G p=none/\G' p=some (.dct ks ds)/\Sa G G'/\WInv a.2.1.length ks ds/\zH (good a.1 a.2.1) a.2.1.length a.2.2 ks ds):=by
 obtain ⟨w,rs,o⟩:=a;obtain ⟨rfl,hb,h5⟩:=h;dsimp only at hb h5 ⊢;simp_all_arith[nu];nofun;erw[F.first];refine zz hb ?_;simp only[zB];intro p hp;refine hM _ _ (n6 hp λG1 g1 s1=>seq λM hM=>?_);erw[ends];intro q hq;refine hM _ _ (n6 hq λG2 g2 s2=>seq λM hM=>?_);simp_arith[eE (s2 _ _ g1),<-iY];have zq:G q=none:=by
  cases e:G q with
  |none=>rfl
  |some o=>rw[s1 _ _ e]at hq;cases hq
 have k0:isKey rs.length (aC (List.range rs.length)):=⟨_,gN _,rfl⟩;have w0:WInv rs.length [aC (List.range rs.length)] [.lst []]:=⟨dr.mpr ⟨dS,fb⟩,λk hk=>by rw[ah.mp hk];exact k0,rfl,λd hd=>⟨[],ah.mp hd,cr _⟩⟩;have l0:lea (good w rs) rs.length [] (List.range rs.length):=⟨.nil,λ_ _=>cr _⟩;have wg0:WG (good w rs) rs.length 0 [aC (List.range rs.length)] [.lst []]:=WG.add (ks:=[]) (ds:=[]) (λi k hk=>by simp at hk) rfl l0 (ax _);have li0:LI (good w rs) rs.length 0 (λo=>aC o∈[aC (List.range rs.length)]) (λo=>o∈[List.range rs.length]):=by
  have z:∀st o,GP (good w rs) rs.length st o->st.length<=0->o=List.range rs.length:=λst o hg hs=>by
   rcases hg.last with ⟨_,e⟩ |⟨_,_,_,e,_⟩
   .exact e
   .rw[e,aw,dv]at hs;omega
  exact ⟨λst o hg hs=>by rw[z st o hg hs];exact ah.mpr rfl,λo ho=>by rw[ah.mp ho];exact ⟨ah.mpr rfl,[],l0,rfl⟩,λst o hl hs=>by rw[z st o hl.1 (!0)];exact ah.mpr rfl⟩
 symm;simp_arith![ends];refine ⟨_,WhlG.inv (P:=λm Y G'=>∃ks ds kb db nw o5 o6 o7 o8,Y=[some (au w rs),some (aq o),some (.ref p),some (.ref q),some (.lst (nw.map aq)),o5,o6,o7,o8]/\GI rs.length G G' p q ks ds kb db/\nwOk rs.length ks nw/\(∃t,WG (good w rs) rs.length t ks ds/\LI (good w rs) rs.length t (λo=>aC o∈ks) (λo=>o∈nw))/\(∀o,aC o∈kb->good w rs o=false)/\m=2 * (4000 - ks.length)+nw.length.min 1) ?_ _ _ _ ⟨_,_,_,_,[List.range rs.length],_,_,_,_,rfl,⟨s2 _ _ g1,g2,fb,(λk hk=>absurd hk dS),w0,s1.trans s2,hp,zq,λe=>by rw[<-e,g1]at hq;cases hq⟩,λx hx=>⟨by rw[ah.mp hx];exact gN _,by rw[ah.mp hx];exact ah.mpr rfl⟩,⟨0,wg0,li0⟩,(λo ho=>absurd ho dS),rfl⟩⟩;rintro m Y G' ⟨ks,ds,kb,db,nw,o5,o6,o7,o8,rfl,hg,hn,⟨t,hwg,hli⟩,hbad,rfl⟩;have hend:(nw=[]\/aC o∈ks)->M [some (au w rs),some (aq o),some (.ref p),some (.ref q),some (.lst (nw.map aq)),o5,o6,o7,o8] G':=λhz=>by
  ac_nf0;erw[ends];exact ⟨p,ks,ds,rfl,hp,hg.gp,hg.sa,hg.w,⟨t,hwg⟩,hz.symm.imp id λe=>hli.done λo ho=>by rw[e]at ho;exact absurd ho dS⟩
 cases nw with
 |nil=>
  erw[List.isEmpty_nil];exact hend (.inl rfl)
 |cons o1 nw=>
  simp_arith![List.isEmpty_cons,eE hg.gp,iZ,zF];cases hin:(kIx ks (aC o)).isSome with
  |true=>
   simp only[hW];exact hend (.inr (zJ hin))
  |false=>
   simp only[Bool.not_false];intro kk hk;nofun;erw[ends];refine λr hr=>hM _ _ (n6 hr λG3 g3 s3=>seq λM hM=>?_);obtain ⟨nrp,nrq,zr⟩:=hg.ne hr;simp_arith![ends];refine ForG.inv (P:=λi Y G'=>∃ks' ds' kb' db' fu o6 o7 o8,Y=[some (au w rs),some (aq o),some (.ref p),some (.ref q),some (.lst (aq o1::nw.map aq)),some (.ref r),o6,o7,o8]/\GI rs.length G G' p q ks' ds' kb' db'/\nwOk rs.length ks' (o1::nw)/\G' r=some (.lst (fu.map aq))/\nwOk rs.length ks' fu/\TI (good w rs) rs.length t ks ks' ds' kb' fu (λo j=>∃i' < i,(o1::nw)[i']?=some o)/\ks'.length=ks.length+fu.length) ⟨_,_,_,_,[],_,_,_,rfl,hg.to s3,hn,g3,(λx hx=>absurd hx dS),⟨λi k hk=>by
    obtain ⟨o',st,e1,e2,e3,e4⟩:=hwg i k hk;exact ⟨o',st,e1,e2,e3,!0⟩,λ_ h=>h,λ_ h=>.inl h,(λx hx=>absurd hx dS),hbad,λo j ⟨i',hi',_⟩=>absurd hi' (Nat.not_lt_zero _)⟩,rfl⟩ (λ_ _ _ _=>trivial) ?_ ?_
   .rintro i d Y G4 hd ⟨ks4,ds4,kb4,db4,fu4,o6,o7,o8,rfl,hg4,hn4,g4,hf4,ht4,hl4⟩ kk1 hk1;obtain ⟨here,hat,rfl⟩:∃here,(o1::nw)[i]?=some here/\d=aq here:=by
     have:=hd;rw[<-aS (f:=aq),bq]at this;obtain ⟨x,hx,e⟩:=a7.mp this;exact ⟨x,hx,e.symm⟩
    have hm:here∈o1::nw:=cw hat;have hho:=(hn4 here hm).1;have hhl:=hho.len;simp_arith![F.steps];refine last ?_;simp_arith![F.steps];refine Jw (!0) ?_;simp_arith![ends];refine ForG.inv (P:=λjj Y G'=>∃ks' ds' kb' db' fu o7 o8,Y=[some (au w rs),some (aq o),some (.ref p),some (.ref q),some (.lst (aq o1::nw.map aq)),some (.ref r),some (aq here),o7,o8]/\GI rs.length G G' p q ks' ds' kb' db'/\nwOk rs.length ks' (o1::nw)/\G' r=some (.lst (fu.map aq))/\nwOk rs.length ks' fu/\TI (good w rs) rs.length t ks ks' ds' kb' fu (λo j=>(∃i' < i,(o1::nw)[i']?=some o)\/(o=here/\j < jj))/\ks'.length=ks.length+fu.length) ⟨_,_,_,_,_,_,_,rfl,hg4,hn4,g4,hf4,ht4.mono (λo j _ h=>h.elim .inl λz=>absurd z.2 (Nat.not_lt_zero _)),hl4⟩ (λ_ _ _ _=>trivial) ?_ ?_
    .rintro j d Y G5 hd ⟨ks5,ds5,kb5,db5,fu5,o7,o8,rfl,hg5,hn5,g5,hf5,ht5,hl5⟩ kk2 hk2;obtain ⟨hj,rfl⟩:j+1 < rs.length/\d=.tup [.int (j:Int),aq (aF here j)]:=by
      unfold gh at hd;rw[bq]at hd;obtain ⟨x,hx,e⟩:=a7.mp hd;obtain ⟨hx1,hx2⟩:=ar.mp hx;rw[b6]at hx1;rw[fe]at hx2;subst hx2;exact ⟨!0,e.symm⟩
     have next:(good w rs (aF here j)=true->aC (aF here j)∈ks5)->TI (good w rs) rs.length t ks ks5 ds5 kb5 fu5 (λo j'=>(∃i' < i,(o1::nw)[i']?=some o)\/(o=here/\j' < j+1)):=λhz=>ht5.mono λo' j' _ hd=>by
      rcases hd with z |⟨rfl,z⟩
      .exact .inl (.inl z)
      .by_cases e:j'=j
       .rw[e];exact .inr hz
       .exact .inl (.inr ⟨rfl,!0⟩)
     have hok:=j7 hho hj;have c5:=uq h5 hg5.w.nd hg5.w.ok;have b5:=uq h5 hg5.bn hg5.bk;have ky:isKey rs.length (aC (aF here j)):=⟨_,hok,rfl⟩;simp_arith![ends];nofun;simp_arith![eE hg5.gp,eE hg5.gq,iZ,zE];cases hi1:(kIx ks5 (aC (aF here j))).isSome with
     |true=>
      erw[ends];exact hk2 _ _ ⟨_,_,_,_,_,_,_,rfl,hg5,hn5,g5,hf5,next (λ_=>zJ hi1),hl5⟩
     |false=>
      cases hi2:(kIx kb5 (aC (aF here j))).isSome with
      |true=>
       erw[ends];exact hk2 _ _ ⟨_,_,_,_,_,_,_,rfl,hg5,hn5,g5,hf5,next (λhz=>absurd (ht5.bad _ (zJ hi2)) (by rw[hz];exact Bool.noConfusion)),hl5⟩
      |false=>
       have n1:=uo hi1;have n2:=uo hi2;erw[ends];ac_nf0;simp_arith![F.good];refine zA hb hok ?_;cases hgd:good w rs (aF here j) with
       |true=>
        obtain ⟨ix,hix⟩:=um (hn5 here hm).2;have hil:ix < ds5.length:=by rw[hg5.w.len];exact (JC hix).1
        obtain ⟨st,est,hst,_⟩:=ht5.wg.has hix;have hl:st.length<=ks5.length:=by obtain ⟨l',el',hl'⟩:=hg5.w.val _ (cp hil);rw[ai hil,el']at est;cases est;rwa [af]at hl'
        simp_arith![ends];nofun;simp_arith![eE hg5.gp,iZ,Jx];refine bM hix (bM (a:=dSt st) est ?_);have ed:dSt st=.lst (st.map λi:Nat=>D.int (i:Int)):=rfl;have es:.lst ((st.map λi:Nat=>D.int (i:Int))++[.int (j:Int)])=dSt (st++[j]):=by unfold dSt;rw[b4];rfl
        erw[ed,Jy,HQ hg5.gp,JD n1,af];rw[es];refine ⟨!1,by bv_omega,by bv_omega,hM _ _ (last ?_)⟩;have gr6:(aL G5 p (.dct (ks5++[aC (aF here j)]) (ds5++[dSt (st++[j])]))) r=some (.lst (fu5.map aq)):=by rw[bY nrp];exact g5
        erw[cO gr6];refine ⟨by rw[af];bv_omega,hk2 _ _ ⟨ks5++[aC (aF here j)],ds5++[dSt (st++[j])],kb5,db5,fu5++[aF here j],_,_,rfl,⟨by rw[bY nrp.symm,bA],by rw[bY nrq.symm,bY hg5.pq.symm];exact hg5.gq,hg5.bn,hg5.bk,hg5.w.add n1 ky (by rw[af,aw,dv];omega),(hg5.sa.then hg5.zp Sb.upd).then zr Sb.upd,hg5.zp,hg5.zq,hg5.pq⟩,hn5.more,by rw[bA,b4];rfl,λx hx=>?_,(ht5.add hli hg5.w.len hm hst hj hgd n1).mono (λo' j' _ hd=>?_),by rw[aw,aw];simp only[da,fN];omega⟩⟩;rcases aT.mp hx with z |z
        .exact hf5.more x z
        .rw[ah.mp z];exact ⟨hok,al _ (ah.mpr rfl)⟩
        .rcases hd with z |⟨rfl,z⟩
         .exact .inl (.inl (.inl z))
         .by_cases e:j'=j
          .exact .inl (.inr ⟨rfl,e⟩)
          .exact .inl (.inl (.inr ⟨rfl,!0⟩))
       |false=>
        simp_arith![ends];refine last ?_;erw[Jy,HQ hg5.gq,JD n2];have npq:=hg5.pq;refine ⟨by bv_omega,hk2 _ _ ⟨ks5,ds5,kb5++[aC (aF here j)],db5++[.bl true],fu5,_,_,rfl,⟨by rw[bY npq];exact hg5.gp,bA,JH hg5.bn n2,(λk hk=>?_),hg5.w,hg5.sa.then hg5.zq Sb.upd,hg5.zp,hg5.zq,hg5.pq⟩,hn5,by rw[bY nrq];exact g5,hf5,(next (λhz=>by rw[hgd]at hz;cases hz)).badd hgd,hl5⟩⟩;rcases aT.mp hk with z |z
        .exact hg5.bk k z
        .rw[ah.mp z];exact ky
    .rintro Y G5 ⟨ks5,ds5,kb5,db5,fu5,o7,o8,rfl,hg5,hn5,g5,hf5,ht5,hl5⟩;have hsl:(gh here).length=rs.length - 1:=by unfold gh;rw[af,b6,hhl]
     refine hk1 _ _ ⟨_,_,_,_,_,_,_,_,rfl,hg5,hn5,g5,hf5,ht5.mono (λo' j' hj' ⟨i',hi',e'⟩=>?_),hl5⟩;by_cases e:i'=i
     .subst e;rw[hat]at e';cases e';exact .inl (.inr ⟨rfl,!0⟩)
     .exact .inl (.inl ⟨i',!0,e'⟩)
   .rintro Y G5 ⟨ks5,ds5,kb5,db5,fu5,o6,o7,o8,rfl,hg5,hn5,g5,hf5,ht5,hl5⟩;ac_nf0;have c5:=uq h5 hg5.w.nd hg5.w.ok;erw[g5];refine hk _ _ _ ?_ ⟨ks5,ds5,kb5,db5,fu5,_,_,_,_,rfl,⟨by rw[lq nrp.symm];exact hg5.gp,by rw[lq nrq.symm];exact hg5.gq,hg5.bn,hg5.bk,hg5.w,hg5.sa.frz zr,hg5.zp,hg5.zq,hg5.pq⟩,hf5,⟨t+1,ht5.wg,hli.next (λo' ho'=>ht5.sub _ ho') ?_ ht5.fu ht5.new (λo' ho'=>?_)⟩,ht5.bad,rfl⟩;rotate_left
    .intro o' j hB hj hgd;obtain ⟨i',hi',e'⟩:=gi.mp hB;exact ht5.dn o' j ⟨i',!!hi',by rw[ai hi',e']⟩ hj hgd
    .obtain ⟨st,h1,h2⟩:=hwg.of ho';exact ⟨st,h1.1,h2⟩
    rw[hl5];have e1:(nw.length+1).min 1=1:=g0 (!0);rw[e1];cases fu5 with
    |nil=>rw[fN];show _+0 < _;omega
    |cons x y=>
     have e2:(x::y).length.min 1=1:=g0 (by rw[da];omega);rw[e2];rw[hl5]at c5;rw[da]at c5 ⊢;omega
def oh:RF.Spec:=bG (A:=Nat×AU×AA) (λa=>[au a.1 a.2.1,aq a.2.2]) (λa=>okB a.1 a.2.1/\okO a.2.1.length a.2.2) (λ_=>.bl true)
def JP{w:Nat}{rs:AU}{o:AA}{G:DH}{k:AT}{E:EK}(h:okB w rs)(ho:okO rs.length o)(hk:k (.bl true) G):oh.t [au w rs,aq o] G k E:=bN (w,rs,o) rfl ⟨h,ho⟩ hk
def aeu (Z:aj) (h1:Z "is_place"=aY fH) (a:Nat×AU×AA) (G:DH) (h:okB a.1 a.2.1/\okO a.2.1.length a.2.2):az Z mW noE (env0 [au a.1 a.2.1,aq a.2.2] 1) G (ends λd G'=>G'=G/\d=.bl true):=by
 obtain ⟨w,rs,o⟩:=a;obtain ⟨hb,ho⟩:=h;dsimp only at hb ho ⊢;have hlen:=hb.len;have hol:=ho.len;unfold aq;simp_all_arith[mW];nofun;erw[au,af];symm;erw[h1];refine CompG.map (f:=λ_=>.bl true) (I:=λY=>∃o,Y=[o,some (.int (rs.length:Nat))]) ⟨_,rfl⟩ trivial (by rw[af];bv_omega) ?_ ?_
 .rintro d Y hd ⟨o,rfl⟩ kk hk;obtain ⟨i,hm,rfl⟩:=bp.mp hd;have hi:=ho.mem hm;have hp:isPlace (rs.length:Int) (.int (i:Int))=true:=by
   show (decide (0<=(i:Int))&&decide ((i:Int) < (rs.length:Int)))=true;rw[bX (!0),bX (!0)];rfl
  erw[h1];refine dR (show fH [.int (rs.length:Int),.int (i:Int)]=some (.bl true) from by rw[<-hp];rfl) ?_;exact hk _ ⟨_,rfl⟩
 .have ea:∀m:AS,(m.map λ_=>true).all id=true:=λm=>by induction m with |nil=>rfl |cons _ _ ih=>rw[aS,List.all_cons,ih];rfl
  erw[lW,ea];ac_nf0;erw[ends];rw[j4];refine bM (iV _) ⟨by unfold aC;rw[af];omega,λns hp hs=>?_⟩;have hpn:ns.Perm (aC (List.range rs.length)):=hp.trans (List.Perm.map _ ho);rw[Jp hpn hs (aec ⟨rs.length,!0⟩)];have hn2:=uh (aC (List.range rs.length));refine ⟨⟨!0,!0⟩,?_⟩;simp only[bS];rw[aeb];refine ⟨⟨hn2.1,hn2.1,by rw[hn2.2];decide⟩,?_⟩;rw[rN hn2.1]
def jc:RF.Spec:=bG (A:=Nat×AU×AA) (λa=>[au a.1 a.2.1,aq a.2.2]) (λa=>okB a.1 a.2.1/\okO a.2.1.length a.2.2) (λ_=>.non)
def uw{w:Nat}{rs:AU}{o:AA}{G:DH}{k:AT}{E:EK}(h:okB w rs)(ho:okO rs.length o)(hk:k .non G):jc.t [au w rs,aq o] G k E:=bN (w,rs,o) rfl ⟨h,ho⟩ hk
def aev (Z:aj) (h1:Z "is_order"=oh) (a:Nat×AU×AA) (G:DH) (h:okB a.1 a.2.1/\okO a.2.1.length a.2.2):az Z mX noE (env0 [au a.1 a.2.1,aq a.2.2] 0) G (ends λd G'=>G'=G/\d=.non):=by erw[mX,h1];refine JP h.1 h.2 ?_;erw[ends]
def j8:RF.Spec:=bG (A:=Nat×AU) (λa=>[au a.1 a.2]) (λa=>okB a.1 a.2/\a.1<=4/\a.2.length<=5) (λ_=>.non)
def zK{w:Nat}{rs:AU}{G:DH}{k:AT}{E:EK}(h:okB w rs)(h4:w<=4)(h5:rs.length<=5)(hk:k .non G):j8.t [au w rs] G k E:=bN (w,rs) rfl ⟨h,h4,h5⟩ hk
def aew (Z:aj) (h1:Z "need_book"=iR) (a:Nat×AU) (G:DH) (h:okB a.1 a.2/\a.1<=4/\a.2.length<=5):az Z m7 noE (env0 [au a.1 a.2] 2) G (ends λd G'=>G'=G/\d=.non):=by obtain ⟨w,rs⟩:=a;obtain ⟨hb,h4,h5⟩:=h;dsimp only at hb h4 h5 ⊢;simp_all_arith[m7];nofun;erw[h1];refine nM hb (hM _ _ (seq λM hM=>?_));erw[au];ac_nf0;erw[af,ce (show ¬(5:Int) < (rs.length:Int) by omega),ce (show ¬(4:Int) < (w:Int) by omega)]
def sBy:RF.Spec:=bG (A:=Nat×AU×AA) (λa=>[au a.1 a.2.1,aq a.2.2]) (λa=>okB a.1 a.2.1/\okO a.2.1.length a.2.2) (λa=>au a.1 (byR a.2.1 a.2.2))
def ou{w:Nat}{rs:AU}{o:AA}{G:DH}{k:AT}{E:EK}(h:okB w rs)(ho:okO rs.length o)(hk:k (au w (byR rs o)) G):sBy.t [au w rs,aq o] G k E:=bN (w,rs,o) rfl ⟨h,ho⟩ hk
def aex (Z:aj) (h1:Z "need_book"=iR) (h2:Z "need_order"=jc) (a:Nat×AU×AA) (G:DH) (h:okB a.1 a.2.1/\okO a.2.1.length a.2.2):az Z mY noE (env0 [au a.1 a.2.1,aq a.2.2] 2) G (ends λd G'=>G'=G/\d=au a.1 (byR a.2.1 a.2.2)):=by
 obtain ⟨w,rs,o⟩:=a;obtain ⟨hb,ho⟩:=h;dsimp only at hb ho ⊢;have hlen:=hb.len;have hol:=ho.len;simp_all_arith[mY];nofun;erw[h1];refine nM hb (hM _ _ (seq λM hM=>?_));erw[h2];refine uw hb ho (hM _ _ (seq λM hM=>?_));erw[au];ac_nf0;erw[aq];refine CompG.map (f:=Jr rs) (I:=λY=>∃o,Y=[o,some (.tup (rs.map aP))]) ⟨_,rfl⟩ trivial (by rw[af];bv_omega) ?_ ?_
 .rintro d Y hd ⟨o',rfl⟩ kk hk;obtain ⟨i,rfl,e⟩:=aee ho rfl hd;erw[ends];exact bM e (hk _ ⟨_,rfl⟩)
 .rw[aef];erw[ends];exact ⟨!1,rfl⟩
def aey (Z:aj) (h1:Z "parting_word"=nU) (h2:Z "by_order"=sBy) (a:Nat×AU×AA) (G:DH) (h:okB a.1 a.2.1/\okO a.2.1.length a.2.2):az Z m6 noE (env0 [au a.1 a.2.1,aq a.2.2] 0) G (ends λd G'=>G'=G/\d=.bl (good a.1 a.2.1 a.2.2)):=by obtain ⟨w,rs,o⟩:=a;obtain ⟨hb,ho⟩:=h;dsimp only at hb ho ⊢;erw[m6,h1,h2];refine ou hb ho (Jo hb (Jq hb ho) ?_);unfold good;cases bu w rs (byR rs o) <;> erw[List.head?_nil,List.head?_cons,cZ,List.isEmpty_nil,List.isEmpty_cons]
def cP(w:Nat)(rs:AU)(o:AA):List Int->AA->Bool
 |[],here=>deq (aq here) (aq o)
 |p::ps,here=>decide (0<=p)&&decide (p < (rs.length:Int) - 1)&&(good w rs (aF here p.toNat)&&cP w rs o ps (aF here p.toNat))
def JQ{w:Nat}{rs:AU}{o here:AA}{p:Int}{ps:List Int}(n:Nat)(hp:p=n)(hn:n+1 < rs.length):cP w rs o (p::ps) here=(good w rs (aF here n)&&cP w rs o ps (aF here n)):=by subst hp;rw[cP,bX (!0),bX (!0),bS];rfl
def aez{w:Nat}{rs:AU}{o here:AA}{p:Int}{ps:List Int}(h:p < 0\/(rs.length:Int) - 1<=p):cP w rs o (p::ps) here=false:=by
 rw[cP];rcases h with h |h
 .rw[ce (!0)];rfl
 .rw[ce (show ¬p < (rs.length:Int) - 1 by omega),gl];rfl
def aeA{α:Type}{l:List α}{i:Nat}{a:α}(h:l[i]?=some a):l.drop i=a::l.drop (i+1):=by obtain ⟨hl,e⟩:=ar.mp h;rw[bo hl,e]
def aeB{m:Nat}{d:D}(h:isPlace ((m:Int) - 1) d=true):∃n:Nat,d=.int n/\n+1 < m:=by
 unfold isPlace at h;split at h
 .rename_i i;rw[ae,ck,ck]at h;exact ⟨i.toNat,by congr 1;omega,!0⟩
 .cases h
structure W35 where
 w:Nat
 rs:AU
 o:AA
 st:List Int
def JR(a:W35):Prop:=okB a.w a.rs/\okO a.rs.length a.o/\a.w<=4/\a.rs.length<=5
def zL(a:W35):AS:=[au a.w a.rs,aq a.o,.lst (a.st.map D.int)]
def ux:RF.Spec:=bG (A:=W35) zL JR (λa=>.bl (cP a.w a.rs a.o a.st (List.range a.rs.length)))
def JS{w:Nat}{rs:AU}{o:AA}{st:List Int}{G:DH}{k:AT}{E:EK}(h:okB w rs)(ho:okO rs.length o)(h4:w<=4)(h5:rs.length<=5)(hk:k (.bl (cP w rs o st (List.range rs.length))) G):ux.t [au w rs,aq o,.lst (st.map D.int)] G k E:=bN (⟨w,rs,o,st⟩:W35) rfl ⟨h,ho,h4,h5⟩ hk
structure FW35(Z:aj):Prop where
 mov:Z "need_movable"=j8
 need:Z "need_order"=jc
 first:Z "first_order"=j5
 place:Z "is_place"=aY fH
 ex:Z "exchanged"=iW
 good:Z "is_good"=j6
def aeC(Z:aj)(F:FW35 Z)(a:W35)(G:DH)(h:JR a):az Z nq noE (env0 (zL a) 2) G (ends λd G'=>G'=G/\d=.bl (cP a.w a.rs a.o a.st (List.range a.rs.length))):=by
 obtain ⟨w,rs,o,st⟩:=a;obtain ⟨hb,ho,h4,h5⟩:=h;dsimp only at hb ho h4 h5 ⊢;have hlen:=hb.len;simp_all_arith[nq,zL];nofun;erw[F.mov];refine zK hb h4 h5 (hM _ _ (seq λM hM=>?_));erw[F.need];refine uw hb ho (hM _ _ (seq λM hM=>?_));erw[F.first];refine zz hb (hM _ _ (seq λM hM=>?_));simp_arith![ends];refine ForG.inv (P:=λi Y G'=>∃here o4,Y=[some (au w rs),some (aq o),some (.lst (st.map D.int)),some (aq here),o4]/\G'=G/\okO rs.length here/\cP w rs o st (List.range rs.length)=cP w rs o (st.drop i) here) ⟨_,_,rfl,rfl,gN _,rfl⟩ (λ_ _ _ _=>trivial) ?_ ?_
 .rintro i d Y G' hd ⟨here,o4,rfl,rfl,hh,hway⟩ kk hk;rw[bq]at hd;obtain ⟨p,hp,rfl⟩:=a7.mp hd;rw[aeA hp]at hway;have hhl:=hh.len;simp_arith![ends];nofun;erw[F.place,aq,af,hhl];refine dR (d:=.bl (isPlace ((rs.length:Int) - 1) (.int p))) rfl ?_;cases hip:isPlace ((rs.length:Int) - 1) (.int p) with
  |false=>
   have hno:p < 0\/(rs.length:Int) - 1<=p:=by
    have hip:(decide (0<=p)&&decide (p < (rs.length:Int) - 1))=false:=hip;by_cases h0:0<=p
    .rw[bX h0,hV,decide_eq_false_iff_not]at hip;exact .inr (!0)
    .exact .inl (!0)
   rw[aez hno]at hway;erw[hway,and_self]
  |true=>
   obtain ⟨n,en,hn⟩:=aeB hip;have en:p=(n:Int):=by simpa using en
   rw[JQ n en hn]at hway;subst en;erw[ends];symm;erw[F.ex];refine Ju (!0) (!0) (hM _ _ (last ?_));have hok:=j7 hh hn;erw[F.good];refine zA hb hok ?_;cases hg:good w rs (aF here n) with
   |false=>
    rw[hg,gV]at hway;erw[hway,and_self]
   |true=>
    rw[hg,hV]at hway;erw[ends];exact hk _ _ ⟨_,_,rfl,rfl,hok,hway⟩
 .rintro Y G' ⟨here,o4,rfl,rfl,hh,hway⟩;rw[af,e7,cP]at hway;ac_nf0;have h1:=ul here;have h2:=ul o;erw[ends];exact ⟨⟨h1.1,h2.1,ca (Nat.min_le_left _ _) (ca h1.2 (!1))⟩,by rw[hway];rfl⟩
def uy:RF.Spec:=ghS (A:=AQ×Nat) (λa ds G=>ds=[.ref a.1,.int (a.2:Nat)]/\Pen G a.1/\a.2<=12) (λa _ d G'=>∃o,d=aq o/\okO a.2 o/\Pen G' a.1)
def aeD{p:AQ}{n:Nat}{G:DH}{k:AT}{E:EK}(hp:Pen G p)(hn:n<=12)(hk:∀o G',okO n o->Pen G' p->k (aq o) G'):uy.t [.ref p,.int (n:Nat)] G k E:=iH (p,n) ⟨rfl,hp,hn⟩ λd G' hx=>by
 obtain ⟨o,rfl,h1,h2⟩:=hx;exact hk o G' h1 h2
def aeE (Z:aj) (h1:Z "_law_take"=eF) (a:AQ×Nat) (ds:AS) (G:DH) (h:ds=[.ref a.1,.int (a.2:Nat)]/\Pen G a.1/\a.2<=12):az Z yI noE (env0 ds 1) G (ends λd G'=>∃o,d=aq o/\okO a.2 o/\Pen G' a.1):=by
 obtain ⟨p,n⟩:=a;obtain ⟨rfl,hp,hn⟩:=h;dsimp only at hp hn ⊢;simp_all_arith[yI];nofun;erw[bS];refine ⟨⟨!0,!0⟩,λq hq=>hM _ _ (last ?_)⟩;have hqp:q≠p:=(hp.ne hq).symm;erw[h1,bS];refine ⟨!0,CompG.inv (P:=λi acc Y G'=>(∃o,Y=[o,some (.ref q),some (.ref p)])/\Pen G' p/\∃os left:AA,acc=(os.map λi:Nat=>D.int (i:Int))/\G' q=some (.lst (left.map λi:Nat=>D.int (i:Int)))/\(os++left).Perm (List.range n)/\os.length=i) ⟨⟨_,rfl⟩,hp.sa (Sa.new hq),[],List.range n,rfl,?_,gN _,rfl⟩ (λ_ _ _ _ _=>trivial) ?_ ?_ ?_⟩
 .rw[bA];have e:=zy n;unfold aq at e;rw[D.tup.inj e]
 .simp[aR];bv_omega
 .rintro i d acc Y G' hd ⟨⟨o,rfl⟩,hp',os,left,rfl,g,hperm,hos⟩ kk hk;have hi:i < n:=by
   have:=(ar.mp hd).1;simpa [aR] using this
  have hll:os.length+left.length=n:=by have:=hperm.length_eq;rwa [aw,b6]at this
  erw[h1,aaI,HF,cO g,eZ g,af];refine cY hp' (!0) (!0) λr G2 hr hp2 sb2=>?_;have g2:=sb2 _ _ g hqp;have hrl:r < left.length:=by omega
  simp only[HF,cO g2,bS];refine ⟨!0,!0,bM (a:=D.int (left[r]:Nat)) (by rw[bq,ai hrl];rfl) ?_⟩;refine hk _ _ _ ⟨⟨_,rfl⟩,hp2.sb Sb.upd hqp.symm,os++[left[r]],left.eraseIdx r,?_,?_,?_,by simp;omega⟩
  .rw[b4];rfl
  .rw[bA];congr 2;rw[eJ,eJ,b4,List.map_take,List.map_drop]
  .refine List.Perm.trans ?_ hperm;rw[fT];refine List.Perm.append_left _ ?_;have e:left.take r++left[r]::left.drop (r+1)=left:=by rw[<-bo hrl,List.take_append_drop]
   rw[eJ];have pm:(left[r]::(left.take r++left.drop (r+1))).Perm (left.take r++left[r]::left.drop (r+1)):=List.perm_middle.symm;rw[e]at pm;exact pm
 .rintro acc Y G' ⟨⟨o,rfl⟩,hp',os,left,rfl,g,hperm,hos⟩;have hos:os.length=n:=by simpa [aR] using hos
  have hll:os.length+left.length=n:=by have:=hperm.length_eq;rwa [aw,b6]at this
  have hl0:left=[]:=cS.mp (!0);subst hl0;rw[fi]at hperm;exact ⟨os,rfl,hperm,hp'⟩
def uz:RF.Spec:=bG (A:=Nat×AU×Nat) (λa=>[au a.1 a.2.1,.int (a.2.2:Nat)]) (λa=>okB a.1 a.2.1/\a.2.2+1 < a.2.1.length) (λa=>.bl (bu a.1 a.2.1 (swp a.2.1 a.2.2)).isEmpty)
def JT{w n:Nat}{rs:AU}{G:DH}{k:AT}{E:EK}(h:okB w rs)(hn:n+1 < rs.length)(hk:k (.bl (bu w rs (swp rs n)).isEmpty) G):uz.t [au w rs,.int (n:Nat)] G k E:=bN (w,rs,n) rfl ⟨h,hn⟩ hk
def aeF (Z:aj) (h1:Z "need_book"=iR) (h2:Z "is_place"=aY fH) (h3:Z "parting_word"=nU) (h4:Z "exchanged"=iW) (a:Nat×AU×Nat) (G:DH) (h:okB a.1 a.2.1/\a.2.2+1 < a.2.1.length):az Z nF noE (env0 [au a.1 a.2.1,.int (a.2.2:Nat)] 2) G (ends λd G'=>G'=G/\d=.bl (bu a.1 a.2.1 (swp a.2.1 a.2.2)).isEmpty):=by
 obtain ⟨w,rs,n⟩:=a;obtain ⟨hb,hn⟩:=h;dsimp only at hb hn ⊢;have hlen:=hb.len;have ed:∀xs:AU,au w xs=.tup [.int w,.tup (xs.map aP)]:=λ_=>rfl;simp_all_arith[nF];nofun;erw[h1];refine nM hb (hM _ _ (seq λM hM=>?_));erw[ed];symm;erw[h2,af];have hp:isPlace ((rs.length:Int) - 1) (.int (n:Int))=true:=by show (decide (0<=(n:Int))&&decide ((n:Int) < (rs.length:Int) - 1))=true;rw[bX (!0),bX (!0)];rfl
 refine dR (show fH [.int ((rs.length:Int) - 1),.int (n:Int)]=some (.bl true) from by rw[<-hp];rfl) ?_;erw[ends];ac_nf0;erw[h3,h4];refine aeg hn hlen ⟨!1,?_⟩;rw[<-ed,<-ed];refine Jo hb (ad4 hb hn) ?_;cases bu w rs (swp rs n) <;> erw[List.head?_nil,List.head?_cons,cZ,List.isEmpty_nil,List.isEmpty_cons,and_self]
def zM{step:D->AS->ak->DH->(AS->ak->DH->Prop)->Prop}{g:Hld}{k:AS->ak->DH->Prop}:∀{items:AS}{acc:AS}{Y:ak}{G:DH}(P:Nat->AS->ak->DH->Prop)(_:P 0 acc Y G)(_:∀i a Y G,P i a Y G->held g G)
  (_:∀i d a Y G,items[i]?=some d->P i a Y G->∀kk:AS->ak->DH->Prop,(∀a' ρ' G',P (i+1) a' ρ' G'->kk a' ρ' G')->step d a Y G kk) (_:∀a Y G,P items.length a Y G->k a Y G),dY step g items acc Y G k
 |[],acc,Y,G,P,h0,hh,_,he=>⟨hh _ _ _ _ h0,he _ _ _ h0⟩
 |d::ds,acc,Y,G,P,h0,hh,hs,he=>⟨hh _ _ _ _ h0,hs 0 d acc Y G rfl h0 _ λa' ρ' G' p=>zM (λi=>P (i+1)) p (λi=>hh (i+1)) (λi d a Y G e=>hs (i+1) d a Y G (by rw[List.getElem?_cons_succ];exact e)) he⟩
def aeG{w:Nat}{rs ss:AU}{d:D}(h:bu w rs ss=[])(hq:uf w rs ss d):∃t,d=.tup [.str ud,t]:=by
 rcases hq with ⟨m,hm,_⟩ |⟨_,t,_,e,_⟩
 .rw[h]at hm;cases hm
 .exact ⟨t,e⟩
def j9:AA:=[119,97,121]
def oA:AA:=[97,112,97,114,116]
structure apQ(w:Nat)(rs:AU)(o:AA)(os:List (AA)):Prop where
 nd:os.Nodup
 ok:∀x∈os,okO rs.length x
 fst:List.range rs.length∈os
 no:o∉os
 len:os.length<=3125
 cl:∀x∈os,∀j,j+1 < rs.length->good w rs (aF x j)=true->aF x j∈os
def zN(w:Nat)(rs:AU)(o:AA)(d:D):Prop:=(∃st,d=.tup [.str j9,dSt st]/\lea (good w rs) rs.length st o)\/(∃os,d=.tup [.str oA,.lst (os.map aq)]/\apQ w rs o os/\∀st,¬GP (good w rs) rs.length st o)
def kh(a:Nat×AU×AA):Prop:=okB a.1 a.2.1/\okO a.2.1.length a.2.2/\a.1<=4/\a.2.1.length<=5
def oE:RF.Spec:=ghS (A:=Nat×AU×AA) (λa ds _=>ds=[au a.1 a.2.1,aq a.2.2]/\kh a) (λa G d G'=>Sa G G'/\zN a.1 a.2.1 a.2.2 d)
def uA{w:Nat}{rs:AU}{o:AA}{G:DH}{k:AT}{E:EK}(h:okB w rs)(ho:okO rs.length o)(h4:w<=4)(h5:rs.length<=5)(hk:∀d G',Sa G G'->zN w rs o d->k d G'):oE.t [au w rs,aq o] G k E:=iH (w,rs,o) ⟨rfl,h,ho,h4,h5⟩ λd G' hx=>hk d G' hx.1 hx.2
def JV{n:Nat}:∀{ks:List (List Int)},(∀k∈ks,isKey n k)->∃os:List (AA),ks=os.map aC/\∀o∈os,okO n o
 |[],_=>⟨[],rfl,λ_ h=>absurd h dS⟩
 |k::ks,h=>by
  obtain ⟨o,h1,e⟩:=h k bg;obtain ⟨os,e',h2⟩:=JV λx hx=>h x (bi _ hx);refine ⟨o::os,by rw[aS,<-e,<-e'],λx hx=>?_⟩;rcases bB.mp hx with rfl |hx
  .exact h1
  .exact h2 x hx
def uB{o:AA}{os:List (AA)}(h:aC o∈os.map aC):o∈os:=by obtain ⟨x,hx,e⟩:=bp.mp h;rw[<-ut e];exact hx
def aeH{os:List (AA)}(h:(os.map aC).Nodup):os.Nodup:=by
 induction os with
 |nil=>exact fb
 |cons o os ih=>
  rw[aS,dr]at h;rw[dr];exact ⟨λhm=>h.1 (bp.mpr ⟨o,hm,rfl⟩),ih h.2⟩
structure FWay(Z:aj):Prop where
 mov:Z "need_movable"=j8
 need:Z "need_order"=jc
 gw:Z "good_ways"=uv
def aeI(Z:aj)(F:FWay Z)(a:Nat×AU×AA)(ds:AS)(G:DH)(h:ds=[au a.1 a.2.1,aq a.2.2]/\kh a):az Z nA noE (env0 ds 1) G (ends λd G'=>Sa G G'/\zN a.1 a.2.1 a.2.2 d):=by
 obtain ⟨w,rs,o⟩:=a;obtain ⟨rfl,hb,ho,h4,h5⟩:=h;dsimp only at hb ho h4 h5 ⊢;simp_all_arith[nA];nofun;erw[F.mov];refine zK hb h4 h5 (hM _ _ (seq λM hM=>?_));erw[F.need];refine uw hb ho (hM _ _ (seq λM hM=>?_));erw[F.gw];refine aes hb h5 λp ks ds G' hp gp sa wi wq=>hM _ _ (seq λM hM=>?_);obtain ⟨⟨t,wg⟩,hcl⟩:=wq;simp_arith![eE gp,iZ,zE];cases hi:kIx ks (aC o) with
 |some i=>
  obtain ⟨st,est,hst,_⟩:=wg.has hi;erw[Option.isSome_some,eE gp,iZ,Jx,hi];exact bM est ⟨!1,sa,.inl ⟨st,rfl,hst⟩⟩
 |none=>
  erw[Option.isSome_none];ac_nf0;erw[eE gp];have hno:aC o∉ks:=uo (by rw[hi];rfl);have hall:=hcl.resolve_left hno;obtain ⟨os,rfl,hos⟩:=JV wi.ok;have hl:=uq h5 wi.nd wi.ok;refine ⟨!1,sa,.inr ⟨os,?_,⟨?_,hos,uB (hall _ _ .nil),λhm=>hno (bp.mpr ⟨o,hm,rfl⟩),by rwa [af]at hl,λx hx j hj hg=>?_⟩,λst hg=>hno (hall _ _ hg)⟩⟩
  .rw[cb];have:((λn:List Int=>D.tup (n.map .int))∘aC)=aq:=funext λo=>(iY o).symm;rw[this];rfl
  .exact aeH wi.nd
  .obtain ⟨st,hst,_⟩:=wg.of (bp.mpr ⟨x,hx,rfl⟩);exact uB (hall _ _ (.snoc hst.1 hj hg))
def aeJ(os:List (AA)):gr (os.map aq)=some (os.map aC):=by
 induction os with
 |nil=>rfl
 |cons o os ih=>rw[aS,aS,iY,gr,iV,ih]
def JW:∀(ks acc:List (List Int)),(acc++ks).Nodup->ks.foldl (λacc k=>if k∈acc then acc else acc++[k]) acc=acc++ks
 |[],acc,_=>by rw[fi];rfl
 |k::ks,acc,h=>by
  have hn:k∉acc:=λhk=>by
   rw[List.nodup_append]at h;exact h.2.2 k hk k bg rfl
  rw[List.foldl_cons,if_neg hn];have e:acc++k::ks=(acc++[k])++ks:=by rw[fT];rfl
  rw[e]at h ⊢;exact JW ks _ h
def aeK{ks:List (List Int)}(h:ks.Nodup):gA ks=ks:=JW ks [] h
def aeL{os:List (AA)}(h:os.Nodup):(os.map aC).Nodup:=by
 induction os with
 |nil=>exact fb
 |cons o os ih=>
  rw[dr]at h;rw[aS,dr];exact ⟨λhm=>h.1 (uB hm),ih h.2⟩
def aeM{ks:List (List Int)}{n:List Int}(h:n∈ks):(kIx ks n).isSome=true:=by obtain ⟨i,e⟩:=um h;rw[e];rfl
def aeN{ks:List (List Int)}{n:List Int}(h:n∉ks):(kIx ks n).isSome=false:=by rw[JB h];rfl
def uC:RF.Spec:=ghS (A:=(Nat×AU×AA)×List (AA)) (λa ds _=>ds=[au a.1.1 a.1.2.1,aq a.1.2.2,.lst (a.2.map aq)]/\kh a.1/\apQ a.1.1 a.1.2.1 a.1.2.2 a.2) (λ_ G d G'=>Sa G G'/\d=.bl true)
def aeO{w:Nat}{rs:AU}{o:AA}{os:List (AA)}{G:DH}{k:AT}{E:EK}(h:okB w rs)(ho:okO rs.length o)(h4:w<=4)(h5:rs.length<=5)(ha:apQ w rs o os)(hk:∀G',Sa G G'->k (.bl true) G'):uC.t [au w rs,aq o,.lst (os.map aq)] G k E:=iH ((w,rs,o),os) ⟨rfl,⟨h,ho,h4,h5⟩,ha⟩ λd G' hx=>by
 obtain ⟨s,rfl⟩:=hx;exact hk G' s
structure FAp(Z:aj):Prop where
 mov:Z "need_movable"=j8
 need:Z "need_order"=jc
 ord:Z "is_order"=oh
 first:Z "first_order"=j5
 steps:Z "steps_from"=nZ
 good:Z "is_good"=j6
def aeP(Z:aj)(F:FAp Z)(a:(Nat×AU×AA)×List (AA))(ds:AS)(G:DH)(h:ds=[au a.1.1 a.1.2.1,aq a.1.2.2,.lst (a.2.map aq)]/\kh a.1/\apQ a.1.1 a.1.2.1 a.1.2.2 a.2):az Z ni noE (env0 ds 2) G (ends λd G'=>Sa G G'/\d=.bl true):=by
 obtain ⟨⟨w,rs,o⟩,os⟩:=a;obtain ⟨rfl,⟨hb,ho,h4,h5⟩,ha⟩:=h;dsimp only at hb ho h4 h5 ha ⊢;have hln:=ha.len;simp_all_arith[ni];nofun;erw[F.mov];refine zK hb h4 h5 (hM _ _ (seq λM hM=>?_));erw[F.need];refine uw hb ho (hM _ _ (seq λM hM=>?_));simp_arith![F.ord];refine CompG.map (f:=λ_=>.bl true) (I:=λY=>∃x,Y=[x,some (au w rs)]) ⟨_,rfl⟩ trivial (by rw[af];bv_omega) ?_ ?_
 .rintro d Y hd ⟨x,rfl⟩ kk hk;obtain ⟨y,hy,rfl⟩:=bp.mp hd;erw[F.ord];exact JP hb (ha.ok y hy) (hk _ ⟨_,rfl⟩)
 have ea:∀m:AS,(m.map λ_=>true).all id=true:=λm=>by induction m with |nil=>rfl |cons _ _ ih=>rw[aS,List.all_cons,ih];rfl
 erw[lW,ea];symm;erw[dcK,aeJ,aeK (aeL ha.nd)];refine ⟨by rw[af];bv_omega,λp hp=>hM _ _ (n6 hp λG1 g1 s1=>seq λM hM=>?_)⟩;erw[eE g1,F.first,af];simp only[BEq.rfl,hW];refine zz hb ?_;simp only[iZ,eE g1,zF,zE,aeM (bp.mpr ⟨_,ha.fst,rfl⟩),aeN (λhm=>ha.no (uB hm)),hW];symm;erw[F.steps];refine zM (P:=λi acc Y G'=>(∃o0 o1 o2,Y=[o0,o1,o2,some (.ref p)])/\G'=G1/\(∃rc:List (AA),acc=rc.map aq/\rc.length<=i * 4/\∀x∈rc,okO rs.length x/\good w rs x=false)) ⟨⟨_,_,_,rfl⟩,rfl,[],rfl,cr _,λx hx=>absurd hx dS⟩ (λ_ _ _ _ _=>trivial) ?_ ?_
 .rintro i d acc Y G' hd ⟨⟨o0,o1,o2,rfl⟩,rfl,rc,rfl,hrl,hrc⟩ kk hk;have hil:=(ar.mp hd).1;rw[af]at hil;obtain ⟨y,hy,rfl⟩:=bp.mp (cw hd);have hyo:=ha.ok y hy;have hyl:=hyo.len;erw[F.steps];refine Jw (!0) ?_;erw[ends];refine zM (P:=λj acc Y G''=>(∃o1 o2,Y=[some (aq y),o1,o2,some (.ref p)])/\G''=G'/\j<=rs.length - 1/\(∃rc:List (AA),acc=rc.map aq/\rc.length<=i * 4+j/\∀x∈rc,okO rs.length x/\good w rs x=false)) ⟨⟨_,_,rfl⟩,rfl,cr _,rc,rfl,hrl,hrc⟩ (λ_ _ _ _ _=>trivial) ?_ ?_
  .rintro j d acc Y G' hd ⟨⟨o1,o2,rfl⟩,rfl,hjl,rc,rfl,hrl,hrc⟩ kk2 hk2;obtain ⟨hj,rfl⟩:j+1 < rs.length/\d=.tup [.int (j:Int),aq (aF y j)]:=by
    unfold gh at hd;rw[bq]at hd;obtain ⟨x,hx,e⟩:=a7.mp hd;obtain ⟨hx1,hx2⟩:=ar.mp hx;rw[b6]at hx1;rw[fe]at hx2;subst hx2;exact ⟨!0,e.symm⟩
   have hok:=j7 hyo hj;erw[iZ,eE g1,zF,af];refine ⟨by bv_omega,?_⟩;cases hi:(kIx (os.map aC) (aC (aF y j))).isSome with
   |true=>
    simp only[hW];exact hk2 _ _ _ ⟨⟨_,_,rfl⟩,rfl,!0,rc,rfl,!0,hrc⟩
   |false=>
    have hn:aF y j∉os:=λhm=>uo hi (bp.mpr ⟨_,hm,rfl⟩);have hgd:good w rs (aF y j)=false:=by
     cases e:good w rs (aF y j) with
     |false=>rfl
     |true=>exact absurd (ha.cl y hy j hj e) hn
    erw[ends];refine hk2 _ _ _ ⟨⟨_,_,rfl⟩,rfl,!0,rc++[aF y j],by rw[b4];rfl,by rw[aw,dv];omega,λx hx=>?_⟩;rcases aT.mp hx with z |z
    .exact hrc x z
    .rw[ah.mp z];exact ⟨hok,hgd⟩
  .rintro acc Y G' ⟨⟨o1,o2,rfl⟩,rfl,hjl,rc,rfl,hrl,hrc⟩;exact hk _ _ _ ⟨⟨_,_,_,rfl⟩,rfl,rc,rfl,!0,hrc⟩
 .rintro acc Y G' ⟨⟨o0,o1,o2,rfl⟩,rfl,rc,rfl,hrl,hrc⟩;rw[af]at hrl;erw[af];refine ⟨by bv_omega,hM _ _ (last ?_)⟩;simp_arith![F.good];refine CompG.map (f:=λ_=>.bl false) (I:=λY=>∃x,Y=[x,some (au w rs)]) ⟨_,rfl⟩ trivial (by rw[af];bv_omega) ?_ ?_
  .rintro d Y hd ⟨x,rfl⟩ kk hk;obtain ⟨y,hy,rfl⟩:=bp.mp hd;erw[F.good];refine zA hb (hrc y hy).1 ?_;rw[(hrc y hy).2];exact hk _ ⟨_,rfl⟩
  have ea:∀m:AS,(m.map λ_=>false).any id=false:=λm=>by induction m with |nil=>rfl |cons _ _ ih=>rw[aS,List.any_cons,ih];rfl
  erw[lW,ea];first |exact ⟨s1,rfl⟩ |exact s1
def uD:RF.Spec:=bG (A:=AA) (λo=>[aq o]) (λo=>o.length<=12/\okO o.length o) (λo=>aq (bV o))
def JX{n:Nat}{o:AA}{G:DH}{k:AT}{E:EK}(h:okO n o)(hn:n<=12)(hk:k (aq (bV o)) G):uD.t [aq o] G k E:=bN o rfl ⟨by rw[h.len];exact hn,by rw[h.len];exact h⟩ hk
def zO(o:AA):D->D
 |.int i=>.int (o.idxOf i.toNat:Nat)
 |_=>.non
def aeQ{o:AA}{i:Nat}:(aC o).idxOf (i:Int)=o.idxOf i:=by
 unfold aC;induction o with
 |nil=>rfl
 |cons a o ih=>
  rw[aS,List.idxOf_cons,List.idxOf_cons,ih];have:((a:Int)==(i:Int))=(a==i):=by rw[fk,a9,a9];omega
  rw[this]
def aeR(Z:aj)(o:AA)(G:DH)(h:o.length<=12/\okO o.length o):az Z yJ noE (env0 [aq o] 0) G (ends λd G'=>G'=G/\d=aq (bV o)):=by
 obtain ⟨h12,ho⟩:=h;have ed:aq o=.tup (o.map λi:Nat=>D.int (i:Int)):=rfl;simp_all_arith[yJ];refine last ?_;erw[ends];rw[ed];erw[af,bS];refine ⟨!0,CompG.map (f:=zO o) (I:=λY=>∃x,Y=[x,some (aq o)]) ⟨_,rfl⟩ trivial (by unfold aR;rw[af,b6];bv_omega) ?_ ?_⟩
 .rintro d Y hd ⟨x,rfl⟩ kk hk;unfold aR at hd;obtain ⟨i,hi,rfl⟩:=bp.mp hd;have hi:=eh.mp hi;have e0:(0:Int)+(i:Nat)=(i:Int):=gS _;rw[e0]at hk ⊢;erw[ed,HB];rw[j4];refine bM (iV _) ⟨bp.mpr ⟨i,ho.has hi,rfl⟩,?_⟩;rw[aeQ];exact hk _ ⟨_,by rw[iY]⟩
 .have e:(aR 0 o.length).map (zO o)=(bV o).map λi:Nat=>D.int (i:Int):=by
   unfold aR bV;rw[cb,cb];refine b9 λi _=>?_;show zO o (.int (0+(i:Nat)))=_;rw[gS];rfl
  rw[e];erw[ends];first |exact ⟨rfl,rfl⟩ |trivial |rfl
def zP{o:AA}{f:Nat->Row}{i:Nat}{z:Row}(h:i < o.length):(o.map f).getD i z=f (o.getD i 0):=by rw[aE,aE,bq,ai h];rfl
def JZ{rs:AU}{o q:AA}(ho:okO rs.length o)(hq:okO rs.length q):byR (byR rs o) q=byR rs (dG o q):=by unfold byR dG;rw[cb];exact b9 λi hi=>zP (by rw[ho.len];exact hq.mem hi)
def zQ(rs:AU):byR rs (List.range rs.length)=rs:=by unfold byR;refine List.ext_getElem (by rw[af,b6]) λi h1 h2=>?_;rw[g9,fe,aE,ai h2];rfl
def zR{rs:AU}{o:AA}(ho:okO rs.length o):(byR rs o).length=rs.length:=by unfold byR;rw[af,ho.len]
def zT{rs:AU}{o:AA}(ho:okO rs.length o):byR (byR rs o) (bV o)=rs:=by rw[JZ ho (zG ho),aeq ho,zQ]
def J0{w:Nat}{rs:AU}{o:AA}:good w rs o=true↔bu w rs (byR rs o)=[]:=by unfold good;rw[eP]
def zU{w:Nat}{rs:AU}{st o:AA}(h:GP (good w rs) rs.length st o):bu w rs (byR rs o)=[]:=by
 rcases h.last with ⟨_,rfl⟩ |⟨_,_,_,_,_,_,_,g⟩
 .rw[zQ];exact ad9 rs
 .exact J0.mp g
def uE{w:Nat}{rs:AU}{st o:AA}(h:GP (good w rs) rs.length st o):GP (good w (byR rs o)) rs.length st.reverse (bV o):=by have ho:=h.ok;have:=h.turn (g2:=good w (byR rs o)) ho (λs q hg hq=>J0.mpr (by rw[JZ ho hq];exact ad8 (aea (zU h)) (zU hg))) [] (List.range rs.length) (by rw[<-ho.len];exact aep o) .nil;simpa using this
def J1{w:Nat}{rs:AU}{st o:AA}(ho:okO rs.length o)(h:GP (good w (byR rs o)) rs.length st (bV o)):GP (good w rs) rs.length st.reverse o:=by have e:=zR ho;have:=uE (rs:=byR rs o) (by rw[e];exact h);rw[zT ho,aer ho,e]at this;exact this
def aeS{w:Nat}{rs:AU}{st st' o:AA}(h:lea (good w rs) rs.length st o)(h':lea (good w (byR rs o)) (byR rs o).length st' (bV o)):st'.length=st.length:=by have ho:=h.1.ok;rw[zR ho]at h';have h1:=h.2 _ (J1 ho h'.1);have h2:=h'.2 _ (uE h.1);rw[List.length_reverse]at h1 h2;omega
def aeT{w:Nat}{rs:AU}{o st r:AA}(h:GP (good w rs) rs.length st r):∀ps:List Int,cP w rs o ((st.map λi:Nat=>(i:Int))++ps) (List.range rs.length)=cP w rs o ps r:=by
 induction h with
 |nil=>intro ps;rfl
 |snoc h hj g ih=>
  intro ps;rw[b4,fT,ih,aS,gL,List.cons_append,List.nil_append,JQ _ rfl hj,g,hV]
def J2{w:Nat}{rs:AU}{o st:AA}(h:GP (good w rs) rs.length st o):cP w rs o (aC st) (List.range rs.length)=true:=by have:=aeT (o:=o) h [];rw[fi]at this;unfold aC;rw[this,cP];exact ir (ul o).1
def J3(st:AA):dSt st=.lst ((aC st).map D.int):=by unfold dSt;rw[j4]
def J4:∀os:List (AA),nrs (os.map aq)=true
 |[]=>rfl
 |o::os=>by rw[aS,nrs,(ul o).1,J4 os];rfl
def aeU(rs:AU):nrs (rs.map aP)=true/\bf (rs.map aP)<=1:=by
 induction rs with
 |nil=>exact ⟨rfl,cr _⟩
 |cons r rs ih=>
  rw[aS,nrs,bf,ih.1];exact ⟨rfl,Nat.max_le.mpr ⟨ax _,ih.2⟩⟩
def aeV(w:Nat)(rs:AU):nr (au w rs)=true/\dpt (au w rs)<=3:=by
 obtain ⟨h1,h2⟩:=aeU rs;refine ⟨?_,?_⟩
 .simp only[au,nr,nrs,h1,Bool.and_true]
 .simp only[au,dpt,bf];omega
theorem J5{G:DH}{w:Nat}{rs:AU}:view G (au w rs)=au w rs:=rfl
def aeW:∀(n:Fin 5)(i j:Fin 4),i.1+1 < n.1->j.1+1 < n.1->aF (List.range n.1) i.1=aF (List.range n.1) j.1->i=j:=by decide
def J6:∀(n:Fin 5)(i:Fin 4),i.1+1 < n.1->aF (List.range n.1) i.1≠List.range n.1:=by decide
def J7{w:Nat}{rs:AU}{j:Nat}{st:AA}(h4:rs.length<=4)(hj:j+1 < rs.length)(h:GP (good w rs) rs.length st (aF (List.range rs.length) j)):good w rs (aF (List.range rs.length) j)=true:=by
 rcases h.last with ⟨_,e⟩ |⟨_,_,_,_,_,_,_,g⟩
 .exact absurd e (J6 ⟨rs.length,!0⟩ ⟨j,!0⟩ hj)
 .exact g
def aeX{w:Nat}{rs:AU}{j:Nat}{st:AA}(h4:rs.length<=4)(hj:j+1 < rs.length)(h:lea (good w rs) rs.length st (aF (List.range rs.length) j)):st=[j]:=by
 have hg:=J7 h4 hj h.1;have hl:=h.2 _ (.snoc .nil hj hg);rcases h.1.last with ⟨_,e⟩ |⟨st0,o0,i,e1,e2,h0,hi,_⟩
 .exact absurd e (J6 ⟨rs.length,!0⟩ ⟨j,!0⟩ hj)
 .rw[e1,aw,aw]at hl;have:st0=[]:=cS.mp (by simp only[da,fN]at hl;omega);subst this;rcases h0.last with ⟨_,rfl⟩ |⟨_,_,_,e,_⟩
  .have:=aeW ⟨rs.length,!0⟩ ⟨j,!0⟩ ⟨i,!0⟩ hj hi e2;have:j=i:=eT Fin.val this;rw[e1,this];rfl
  .exact absurd e (by simp)
def aeY{rs:AU}{j:Nat}(hj:j+1 < rs.length):byR rs (aF (List.range rs.length) j)=swp rs j:=by
 have hl:(List.range rs.length).length=rs.length:=b6;conv=>rhs;rw[<-zQ rs]
 unfold byR aF swp;rw[zP (!0),zP (!0),b4,b4,List.map_take,List.map_drop];rfl
def J8{w:Nat}{rs:AU}{j:Nat}(hj:j+1 < rs.length):good w rs (aF (List.range rs.length) j)=(bu w rs (swp rs j)).isEmpty:=by unfold good;rw[aeY hj]
def J9(o:AA):(aC o).length=o.length:=by unfold aC;rw[af]
def uF:RF.Spec:=ghS (A:=Nat×AU×AA) (λa ds _=>ds=[au a.1 a.2.1,aq a.2.2]/\kh a) (λ_ G d G'=>Sa G G'/\d=.bl true)
def aeZ{w:Nat}{rs:AU}{o:AA}{G:DH}{k:AT}{E:EK}(h:okB w rs)(ho:okO rs.length o)(h4:w<=4)(h5:rs.length<=5)(hk:∀G',Sa G G'->k (.bl true) G'):uF.t [au w rs,aq o] G k E:=iH (w,rs,o) ⟨rfl,h,ho,h4,h5⟩ λd G' hx=>by
 obtain ⟨s,rfl⟩:=hx;exact hk G' s
structure FR38(Z:aj):Prop where
 way:Z "way"=oE
 byo:Z "by_order"=sBy
 back:Z "_law_back"=uD
 isa:Z "is_apart"=uC
 isw:Z "is_way"=ux
 alk:Z "alike"=nT
def ae0(Z:aj)(F:FR38 Z)(a:Nat×AU×AA)(ds:AS)(G:DH)(h:ds=[au a.1 a.2.1,aq a.2.2]/\kh a):az Z yK noE (env0 ds 5) G (ends λd G'=>Sa G G'/\d=.bl true):=by
 obtain ⟨w,rs,o⟩:=a;obtain ⟨rfl,hb,ho,h4,h5⟩:=h;dsimp only at hb ho h4 h5 ⊢;have el:=zR ho;have hb':=Jq hb ho;have ho':okO (byR rs o).length (bV o):=by rw[el];exact zG ho
 have h5':(byR rs o).length<=5:=by omega
 obtain ⟨nb,db⟩:=aeV w rs;simp_all_arith[yK];nofun;simp_arith![F.way];refine uA hb ho h4 h5 λd1 G1 s1 r1=>?_;rcases r1 with ⟨st,rfl,l1⟩ |⟨os,rfl,a1,n1⟩
 .simp_arith![ends];symm;simp_arith![F.byo];refine ou hb ho (hM _ _ (seq λM hM=>?_));simp_arith![F.back];refine JX ho (!0) (hM _ _ (seq λM hM=>?_));simp_arith![F.way];refine uA hb' ho' h4 h5' λd2 G2 s2 r2=>hM _ _ (seq λM hM=>?_);rcases r2 with ⟨st2,rfl,l2⟩ |⟨os2,rfl,a2,n2⟩
  .simp_arith![F.byo];refine ou hb' ho' ?_;rw[zT ho];simp_arith![J5,ir nb,BEq.rfl];refine ⟨⟨nb,nb,!0⟩,?_⟩;symm;have e2:((j9==[97,112,97,114,116]):Bool)=false:=rfl;simp_arith![e2];symm;simp_arith![F.isw,J3];refine JS hb ho h4 h5 ?_;rw[J2 l1.1];simp_arith![F.alk];refine Jm hb hb' λd3 q3=>?_;obtain ⟨t3,rfl⟩:=aeG (zU l1.1) q3;simp_arith![ud,BEq.rfl];ac_nf0;have e4:((aC st).map D.int).reverse=(aC st.reverse).map D.int:=by unfold aC;rw[List.map_reverse,List.map_reverse]
   simp_arith![F.isw,e4];refine JS hb' ho' h4 h5' ?_;rw[J2 (rs:=byR rs o) (by rw[el];exact uE l1.1)];simp_arith![J3,af];show Sa G G2/\D.bl (((aC st2).length:Int)==((aC st).length:Int))=D.bl true;rw[J9,J9,aeS l1 l2,BEq.rfl];exact ⟨s1.trans s2,rfl⟩
  .exact absurd (uE l1.1) (by rw[<-el];exact n2 _)
 .simp_arith![ends];symm;simp_arith![F.byo];refine ou hb ho (hM _ _ (seq λM hM=>?_));simp_arith![F.back];refine JX ho (!0) (hM _ _ (seq λM hM=>?_));simp_arith![F.way];refine uA hb' ho' h4 h5' λd2 G2 s2 r2=>hM _ _ (seq λM hM=>?_);rcases r2 with ⟨st2,rfl,l2⟩ |⟨os2,rfl,a2,n2⟩
  .exact absurd (J1 ho (by rw[<-el];exact l2.1)) (n1 _)
  .simp_arith![F.byo];refine ou hb' ho' ?_;rw[zT ho];simp_arith![J5,ir nb,BEq.rfl];refine ⟨⟨nb,nb,!0⟩,?_⟩;symm;have e2:((oA==[97,112,97,114,116]):Bool)=true:=rfl;simp_arith![e2];refine last ?_;simp_arith![F.isa];refine aeO hb ho h4 h5 a1 λG3 s3=>?_;simp_arith![ends];exact ⟨(s1.trans s2).trans s3,rfl⟩
structure F38(Z:aj):Prop where
 opn:Z "_law_open"=yO
 anew:Z "_law_anew"=tV
 book:Z "_law_book"=tY
 order:Z "_law_order"=uy
 right:Z "_law_right"=uF
 way:Z "way"=oE
 may:Z "may_swap"=uz
def ae1{n j:Nat}(hj:j+1 < n)(h4:n<=4):D.tup (((aR 0 n).set j (.int ((j:Int)+1))).set (j+1) (.int (j:Int)))=aq (aF (List.range n) j):=by
 have:(n=2/\j=0)\/(n=3/\j=0)\/(n=3/\j=1)\/(n=4/\j=0)\/(n=4/\j=1)\/(n=4/\j=2):=by omega
 rcases this with ⟨rfl,rfl⟩ |⟨rfl,rfl⟩ |⟨rfl,rfl⟩ |⟨rfl,rfl⟩ |⟨rfl,rfl⟩ |⟨rfl,rfl⟩ <;> rfl
def Ka{n j:Nat}(h:j < n):ixN n (j:Int)=some j:=by unfold ixN;simp;omega
def ae2(Z:aj)(F:F38 Z)(ds:AS)(G:DH)(h:∃ns:List Int,ds=[.scr ns]/\ns.length<=63):az Z yL noE (env0 ds 8) G (ends λd _=>d=.bl true):=by
 obtain ⟨ns,rfl,hl⟩:=h;simp_all_arith[yL];nofun;erw[F.opn];refine cC ⟨ns,rfl,hl⟩ λd' G1 hx=>?_;obtain ⟨p,e1,_,hp,_⟩:=hx;subst e1;symm;simp_arith![ends];refine ⟨!1,ForG.inv (P:=λi Y G'=>(∃o2 o3 o4 o5 o6 o7 o8,Y=[some (.scr ns),some (.ref p),o2,o3,o4,o5,o6,o7,o8])/\Pen G' p) ⟨⟨_,_,_,_,_,_,_,rfl⟩,hp⟩ (λ_ _ _ _=>trivial) ?_ ?_⟩
 .rintro i d Y G2 hd ⟨⟨o2,o3,o4,o5,o6,o7,o8,rfl⟩,hp2⟩ kk hk;simp_arith![ends];nofun;erw[F.anew,F.book];refine adf hp2 λG3 hp3 _=>?_;refine acV (w:=4) (m:=4) hp3 (!1) (!1) (!1) λw rs G4 hb hw hrs hp4 _=>hM _ _ (seq λM hM=>?_);have e0:au w rs=.tup [.int w,.tup (rs.map aP)]:=rfl;erw[e0,af];rw[<-e0];symm;simp_arith![ends];refine ⟨!1,ForG.inv (P:=λi Y G'=>(∃o5,Y=[some (.scr ns),some (.ref p),some d,some (au w rs),some (.int (rs.length:Int)),o5,o6,o7,o8])/\Pen G' p) ⟨⟨_,rfl⟩,hp4⟩ (λ_ _ _ _=>trivial) ?_ ?_⟩
  .rintro i5 d5 Y G5 hd5 ⟨⟨o5,rfl⟩,hp5⟩ kk5 hk5;simp_arith![ends];refine last ?_;simp_arith![F.order,F.right];refine aeD hp5 (!0) λo G6 ho hp6=>aeZ hb ho hw (!0) λG7 s7=>?_;erw[ends];exact hk5 _ _ ⟨⟨_,rfl⟩,hp6.sa s7⟩
  .rintro Y G5 ⟨⟨o5,rfl⟩,hp5⟩;ac_nf0;have e1:((rs.length:Int) - 1).toNat=rs.length - 1:=by omega
   simp_arith![e1];refine ⟨!0,ForG.inv (P:=λi Y G'=>(∃o6 o7 o8,Y=[some (.scr ns),some (.ref p),some d,some (au w rs),some (.int (rs.length:Int)),o5,o6,o7,o8])/\Pen G' p) ⟨⟨_,_,_,rfl⟩,hp5⟩ (λ_ _ _ _=>trivial) ?_ ?_⟩
   .rintro j d6 Y G6 hd6 ⟨⟨o6,o7,o8,rfl⟩,hp6⟩ kk6 hk6;obtain ⟨hj,rfl⟩:j+1 < rs.length/\d6=.int (j:Int):=by
     unfold aR at hd6;rw[bq]at hd6;obtain ⟨x,hx,e⟩:=a7.mp hd6;obtain ⟨hx1,hx2⟩:=ar.mp hx;rw[b6]at hx1;rw[fe]at hx2;subst hx2;exact ⟨!0,by rw[<-e,gS]⟩
    simp_arith![ends];nofun;erw[ends];refine ⟨⟨!0,!0⟩,λq hq=>hM _ _ ?_⟩;have hqp:q≠p:=(hp6.ne hq).symm;have hrl:(aR 0 rs.length).length=rs.length:=by unfold aR;rw[af,b6]
    simp only[bS];refine n6 hq λG7 g7 s7=>seq λM hM=>?_;erw[cO g7];refine bM (Ka (!0)) (hM _ _ (seq λM hM=>?_));erw[cO bA];refine bM (a:=j+1) (Ka (j:=j+1) (by rw[eg];omega)) (hM _ _ (seq λM hM=>?_));erw[F.way,eZ bA,ae1 hj hrs];have hp8:Pen (aL (aL G7 q (.lst ((aR 0 rs.length).set j (.int ((j:Int)+1))))) q (.lst (((aR 0 rs.length).set j (.int ((j:Int)+1))).set (j+1) (.int (j:Int))))) p:=((hp6.sa s7).sb Sb.upd hqp.symm).sb Sb.upd hqp.symm;refine uA hb (j7 (gN _) hj) hw (!0) λd8 G8 s8 r8=>hM _ _ (last ?_);simp_arith![F.may];rcases r8 with ⟨st,rfl,l8⟩ |⟨os,rfl,a8,n8⟩
    .have hg:=J7 hrs hj l8.1;rw[J8 hj]at hg;rw[aeX hrs hj l8];have e8:deq (.tup [.str j9,dSt [j]]) (.tup [.str [119,97,121],.lst [.int (j:Int)]])=true:=ir (d:=.tup [.str j9,dSt [j]]) rfl;refine ⟨by bv_omega,by bv_omega,⟨rfl,rfl,ca (Nat.min_le_right _ _) (!1)⟩,JT hb hj ?_⟩;rw[hg];show nr (.bl true)=true/\_;rw[show view G8 (D.tup [.str j9,dSt [j]])=.tup [.str j9,dSt [j]] from rfl,e8];refine ⟨rfl,?_⟩;show az Z Sxs.nil _ _ _ _;erw[ends];exact hk6 _ _ ⟨⟨_,_,_,rfl⟩,hp8.sa s8⟩
    .have hg:(bu w rs (swp rs j)).isEmpty=false:=by
      cases e:(bu w rs (swp rs j)).isEmpty with
      |false=>rfl
      |true=>exact absurd (.snoc .nil hj (by rw[J8 hj];exact e)) (n8 [j])
     have e8:deq (.tup [.str oA,.lst (os.map aq)]) (.tup [.str [119,97,121],.lst [.int (j:Int)]])=false:=rfl;refine ⟨by bv_omega,by bv_omega,⟨?_,rfl,ca (Nat.min_le_right _ _) (!1)⟩,JT hb hj ?_⟩
     .show (true&&(nrs (os.map aq)&&true))=true;rw[J4];rfl
     rw[hg];show nr (.bl false)=true/\_;rw[show view G8 (D.tup [.str oA,.lst (os.map aq)])=.tup [.str oA,.lst (os.map aq)] from rfl,e8];refine ⟨rfl,?_⟩;show az Z Sxs.nil _ _ _ _;erw[ends];exact hk6 _ _ ⟨⟨_,_,_,rfl⟩,hp8.sa s8⟩
   .rintro Y G6 ⟨⟨o6,o7,o8,rfl⟩,hp6⟩;exact hk _ _ ⟨⟨_,_,_,_,_,_,_,rfl⟩,hp6⟩
 .rintro Y G2 ⟨_,hp2⟩;ac_nf0;erw[ends]
end RF
namespace HD
open PySem PySem.W
def sv(x:Str)(t:Nat):AN:=.str x t
def ri(n:Nat):AN:=.int n 0
def gQ (l:AB):Obj:=⟨.type "tuple",none,.seq ⟨l⟩ 0,⟨[]⟩⟩
def fJ(c:AN)(l:AB):Obj:=⟨c,none,.fields ⟨l⟩,⟨[]⟩⟩
def oF:Str:="/claim/cut.py"
def zV(n q:Str)(ln ac fl a b:Nat)(isf:Bool)(l1 l2 tm:AN)(t t2:Nat):Obj:=
 fJ (.type "code") [sv n t,sv q (t+1),sv oF (t+2),ri ln,ri ac,ri 0,ri 0,ri fl,.ref a,.bool isf,ri 181,.ref b,.none,l1,l2,tm,ri t2,ri ln,sv oF (t2+1)]
def toks(t:Nat):AD->AB
 |[]=>[]
 |x::r=>sv x t::toks (t+1) r
def fdO(n q:Str)(p:Arguments)(b:AF)(sc:Scope)(g:Nat)(md cd:AN):Data:=
 .func { name:=n,qualname:=q,params:=p,body:=.stmts b,scope:=sc,globals:=g,closure:=[],defaults:=.none,kwdefaults:=.none,pyModule:=md,code:=cd }
def enO(P:Params)(k:Str)(t:Nat)(v:AN):DictEntry:={ hash:=PyData.keyHash P k,key:=sv k t,val:=v }
def oG (l:List DictEntry) (e:Nat):Obj:=⟨.type "dict",none,.dict ⟨l⟩ e,⟨[]⟩⟩
def frO (c l:Nat) (md:AN):Obj:=⟨.type "frame",none,.plain,⟨[some (.ref c),some (.ref 3),some (.ref l),none,some md,none,some (.ref 0)]⟩⟩
def bfO (s:AL) (v:AN):Obj:=fJ (.type "builtin_function_or_method") [.builtin s,v]
def veM:AB:=[.type "ValueError",.type "Exception",.type "BaseException",.type "object"]
def uG (b:AO):Bool:=match b with |.Name n _=>n==("ValueError":Str) |_=>false
def fnO(q:Str)(a t:Nat)(md:AN)(n:Str)(p:Arguments)(b:AF)(sc:Scope)(ln:Nat):List Obj:=match localNames p sc (.stmts b) with
 |some l=>[gQ [],fJ .none [],gQ (toks (t+3) l.1),gQ [],⟨.none,none,fdO n q p b sc 0 .none .none,⟨[]⟩⟩,
   zV n q ln p.args.length 3 a (a+1) true (.ref (a+2)) (.ref (a+3)) (.ref (a+4)) t (t+3+l.1.length),⟨.type "function",none,fdO n q p b sc 3 md (.ref (a+5)),⟨[]⟩⟩]
 |none=>[gQ [],fJ .none [],⟨.none,none,fdO n q p b sc 0 .none .none,⟨[]⟩⟩,
   zV n q ln p.args.length 3 a (a+1) true .none .none (.ref (a+2)) t (t+3),⟨.type "function",none,fdO n q p b sc 3 md (.ref (a+3)),⟨[]⟩⟩]
def fnA(p:Arguments)(b:AF)(sc:Scope):Nat:=match localNames p sc (.stmts b) with |some _=>7 |none=>5
def fnT(p:Arguments)(b:AF)(sc:Scope):Nat:=match localNames p sc (.stmts b) with |some l=>l.1.length+5 |none=>5
def dot:Str:="."
structure MO where
 os:List Obj
 es:List DictEntry
 cs:AB
 a:Nat
 t:Nat
def uH(P:Params)(c:Str)(md:AN):AF->Nat->Nat->MO
 |.FunctionDef n p b _ _ _ sc _ _ pos::r,a,t=>
  let m:=uH P c md r (a+fnA p b sc) (t+fnT p b sc+1)
  ⟨fnO (c++dot++n) a t md n p b sc pos.line++m.os,enO P n (t+fnT p b sc) (.ref (a+fnA p b sc - 1))::m.es,ri pos.line::ri pos.col::.ref (a+fnA p b sc - 2)::m.cs,m.a,m.t⟩
 |_::r,a,t=>uH P c md r a t
 |[],a,t=>⟨[],[],[],a,t⟩
def clA(P:Params)(a:Nat)(b:AF):Nat:=(uH P dot .none b (a+7) 0).a+2
def stO(P:Params)(r:Nat)(sub:AB)(a t:Nat)(md:AN)(s:Stmt):List Obj:=match s with
 |.FunctionDef n p b _ _ _ sc _ _ pos=>fnO n a t md n p b sc pos.line
 |.ClassDef n bs _ body _ _ _ _ _ st pos=>
  let m:=uH P n md body (a+7) (t+12)
  let c:=m.a+2
  let u:=m.t+st.length
  let d1:=[enO P "__module__" (t+7) md]
  let d2:=enO P "__firstlineno__" (t+11) (.int pos.line (t+10))::m.es++[enO P "__static_attributes__" u (.ref m.a)]
  let b:AB:=match bs with |b::_=>(match uG b with |true=>[.type "ValueError"] |false=>[.ref r]) |[]=>[]
  let own:Bool:=match bs with |[]=>true |_=>false
  let ve:Bool:=match bs with |b::_=>uG b |[]=>false
  let wr (v:Nat):Obj:=fJ (.type "getset_descriptor") [sv "__weakref__" v,.ref c,.builtin "ExceptionGroup.__weakref__",.none]
  let typ (mro:AB) (sub:AB) (nw:AL):Obj:=
   ⟨.type "type",none,.cls { name:=n,bases:=(match own with |true=>[.type "object"] |false=>b),mro:=.ref c::mro,ns:=m.a+1,qualname:=n,subclasses:=sub },
    ⟨[(match own with |true=>none |false=>some (.ref a)),none,some (sv n t),some (sv n (t+8)),some (.builtin nw),some (.bool true)]⟩⟩
  [gQ b,bfO "type.__prepare__" (.type "type"),oG (d1++enO P "__qualname__" (t+9) (sv n (t+8))::d2) (4+m.es.length),gQ [],fJ .none m.cs,
   zV n n pos.line 0 0 (a+3) (a+4) false .none .none .none (t+2) (t+5),frO (a+5) (a+2) md]++m.os++[gQ (toks m.t st)] ++
  (match own with
  |true=>[oG (d1++d2++[enO P "__dict__" (u+2) (.ref (c+1)),enO P "__weakref__" (u+4) (.ref (c+2)),enO P "__doc__" (u+5) .none]) 4,typ [.type "object"] [] "object.__new__",
    fJ (.type "getset_descriptor") [sv "__dict__" (u+1),.ref c,.builtin "function.__dict__",.builtin "function.__dict__#set"],wr (u+3)]
  |false=>(match ve with
   |true=>[oG (d1++d2++[enO P "__weakref__" (u+2) (.ref (c+1)),enO P "__doc__" (u+3) .none]) 3,typ veM sub "ValueError.__new__",wr (u+1)]
   |false=>[oG (d1++d2++[enO P "__doc__" (u+1) .none]) 2,typ (.ref r::veM) [] "ValueError.__new__"])) ++
  [fJ (.type "super") [.ref c,.ref c,.ref c],bfO "object.__init_subclass__" (.ref c)]
 |_=>[]
def mdO(t:Nat)(md:AN)(s:Stmt):AN:=match s with
 |.Assign [.Name n _] (.Constant (.str x) _ _) _=>(match n==("__name__":Str) with |true=>sv x t |false=>md)
 |_=>md
def enS(P:Params)(lk:Str->AN)(t u a a':Nat)(s:Stmt):List DictEntry:=match s with
 |.Assign [.Name n _] (.Name y _) _=>[enO P n t (lk y)]
 |.FunctionDef n _ _ _ _ _ _ _ _ _=>[enO P n (u-1) (.ref (a'-1))]
 |.ClassDef n _ _ b _ _ _ _ _ _ _=>[enO P n (u-1) (.ref (clA P a b))]
 |.Assign [.Name n _] (.Constant c _ _) _=>(match n==("__name__":Str) with
  |true=>[]
  |false=>[enO P n (t+1) (match c with |.int i=>.int i t |.str x=>sv x t |_=>.none)])
 |_=>[]
def fnS(a':Nat)(s:Stmt):List (Str×AN):=match s with
 |.FunctionDef n _ _ _ _ _ _ _ _ _=>[(n,.ref (a'-1))]
 |_=>[]
def cdS(a a':Nat)(s:Stmt):AB:=match s with
 |.FunctionDef _ _ _ _ _ _ _ _ _ pos=>[ri pos.line,ri pos.col,.ref (a'-2)]
 |.ClassDef _ _ _ _ _ _ _ _ _ _ pos=>[ri pos.line,ri pos.col,.ref (a+5)]
 |_=>[]
def sbS(P:Params)(a:Nat)(s:Stmt):AB:=match s with
 |.ClassDef _ bs _ b0 _ _ _ _ _ _ _=>(match bs with |b::_=>(match uG b with |true=>[] |false=>[.ref (clA P a b0)]) |[]=>[])
 |_=>[]
def ae3(P:Params)(a:Nat)(s:Stmt):AA:=match s with
 |.ClassDef _ bs _ b0 _ _ _ _ _ _ _=>(match bs with |b::_=>(match uG b with |true=>[clA P a b0] |false=>[]) |[]=>[])
 |_=>[]
def fold{α:Type}(f:Nat->Nat->Nat->Nat->AN->Stmt->List α):List (Nat×Nat)->AN->AF->List α
 | (a,t)::(a',u)::r,md,s::ss=>f a a' t u md s++fold f ((a',u)::r) (mdO t md s) ss
 |_,_,_=>[]
def Kc:List (Nat×Nat)->AN->AF->AN
 | (_,t)::r,md,s::ss=>Kc r (mdO t md s) ss
 |_,md,_=>md
def gR:AN:=sv "__main__" 164
def ae4(P:Params)(v:AN):List DictEntry:=
 [enO P "__name__" 165 v,enO P "__doc__" 166 .none,enO P "__package__" 167 .none,enO P "__loader__" 168 (.builtin "__main__.__loader__#opaque"),enO P "__spec__" 169 .none,
  enO P "__annotations__" 170 (.ref 6),enO P "__builtins__" 171 (.ref 4),enO P "__file__" 173 (sv oF 172),enO P "__cached__" 174 .none]
def ents(N:List (Nat×Nat))(b:AF)(P:Params):List DictEntry:=ae4 P (Kc N gR b)++fold (λa a' t u _ s=>enS P (λy=>((fold (λ_ a' _ _ _ s=>fnS a' s) N gR b).lookup y).getD .none) t u a a' s) N gR b
def put{α:Type}:Nat->α->List α->List α
 |_,_,[]=>[]
 |0,x,_::r=>x::r
 |n+1,x,y::r=>y::put n x r
def Kd(cs:AB):List Obj:=[gQ [],fJ .none cs,
 fJ (.type "code") [sv "<module>" 182,sv "<module>" 183,sv oF 184,ri 1,ri 0,ri 0,ri 0,ri 0,.ref 11,.bool false,ri 181,.ref 12,.none,.none,.none,.none,ri 185,ri 1,sv oF 186],frO 13 3 gR]
def ae5(B:List Obj):List Obj:=B++Kd []
def objs(B:List Obj)(N:List (Nat×Nat))(b:AF)(P:Params):List Obj:=
 let es:=ents N b P
 put 3 (oG es es.length) (B++Kd (fold (λa a' _ _ _ s=>cdS a a' s) N gR b) ++
  fold (λa _ t _ md s=>stO P ((fold (λa _ _ _ _ s=>ae3 P a s) N gR b).headD 0) (fold (λa _ _ _ _ s=>sbS P a s) N gR b) a t md s) N gR b)
def evs{α:Type}:List α->List α
 |[]=>[]
 |[x]=>[x]
 |x::_::r=>x::evs r
def bt:Nat->List Obj->BT
 |0,_=>.nil
 |_,[]=>.nil
 |n+1,x::r=>.node x (bt n (evs r)) (bt n (evs r.tail))
def nameless(s:Stmt):Bool:=match s with
 |.Assign [.Name n _] _ _=>!(n==("__name__":Str))
 |_=>true
def pick:Nat->AA->List Obj->Frag
 |i,a::r,o::os=>(match Nat.beq a i with |true=>(a,o)::pick (i+1) r os |false=>pick (i+1) (a::r) os)
 |_,_,_=>[]
end HD
def PySem.W.Fast.tw7153108246447447164:PySem.Program:=PySem.Challenge.pw_starsieve_k38_whole_ways_there_and_back
theorem PySem.W.Fast.te7153108246447447164:PySem.Challenge.pw_starsieve_k38_whole_ways_there_and_back=PySem.W.Fast.tw7153108246447447164:=rfl
namespace HK
open PySem PySem.W PySem.W.Fast
def pw:AK:=PySem.Challenge.pw_starsieve_k38_whole_ways_there_and_back
def rl:OpenLaw:=PySem.Challenge.rw_starsieve_k38_whole_ways_there_and_back
def NN:List (Nat×Nat):=[(15,187),(15,189),(28,207),(40,223),(52,239),(64,255),(76,271),(88,287),(88,289),(88,291),(95,298),(102,305),(109,313),(114,319),(121,327),(128,336),(135,347),(142,354),(142,356),(142,358),(142,360),(142,362),(147,368),(154,376),(159,382),(166,389),(173,397),(180,405),(180,407),(187,414),(194,423),(201,434),(208,444),(215,455),(220,461),(220,463),(227,472),(232,478),(239,488),(239,490),(239,492),(239,494),(246,501),(251,507),(258,515),(265,524),(270,530),(277,538),(284,548),(291,556),(296,562),(303,577),(310,586),(317,597),(322,603),(322,605),(329,616),(336,626),(343,633),(350,644),(355,650),(362,658),(369,668),(376,678),(383,690),(388,696),(395,710),(400,716),(405,722),(412,735),(419,750)]
def L1(P:Params):List Obj:=HD.objs (boot_heap P).objs.toList NN pw.main.body P
def H1(P:Params):Heap:=⟨⟨L1 P⟩,{}⟩
def T1(P:Params):BT:=HD.bt 12 (L1 P)
def LA(P:Params):List Obj:=HD.ae5 (boot_heap P).objs.toList
def HA(P:Params):Heap:=⟨⟨LA P⟩,{}⟩
def T0(P:Params):BT:=HD.bt 5 (LA P)
def env:Env:={ scope:=pw.main.scope,locals:=mainNs,globals:=mainNs,cells:=[],code:=.ref 13,frame:=some 14 }
def bE:AF:=behindTheImports pw
def cE:Code:=.body bE env
def p0:Pos:=⟨0,0,0,0⟩
def B:List Frame:=[topFrame p0]
def ann:Option AN:=some (.ref 6)
def qv:AK:={ pw with main:={ pw.main with body:=pw.main.body.filter HD.nameless } }
def as:AA:=[3,23,24,36,37,48,49,60,61,72,73,84,85,93,94,100,101,107,108,112,113,119,120,126,127,133,134,140,141,145,146,152,153,157,158,164,165,171,172,178,179,185,186,192,193,199,200,206,207,213,214,218,219,225,226,230,231,237,238,244,245,249,250,256,257,263,264,268,269,275,276,282,283,289,290,294,295,301,302,308,309,315,316,320,321,327,328,334,335,341,342,348,349,353,354,360,361,367,368,374,375,381,382,386,387,393,394,398,399,403,404,410,411,417,418]
def K(P:Params):Frag:=HD.pick 0 as (L1 P)
def Xt(s:AI):Bool:=xlAt qv [] s&&recOk (RowW.records rl.row.toRowW) s
def see{α:Type}(_:α):Bool:=true
def primed:(see T1&&see T0&&see H1&&see HA&&see cE&&see B&&see env&&see bE&&see qv&&see K&&see Xt)=true:=by k_qdec
theorem pre(w:World)(os:OsState):topGo treeTable pw w 11 ann 12 ⟨boot_heap w.params,⟨[]⟩,boot_drawn,boot_toks,os⟩ (topStub pw)=some (⟨HA w.params,⟨[]⟩,{},187,os⟩,⟨denote treeTable cE,cE,p0,B⟩):=by have _:=primed;rw[PySem.W.Fast.te15667345088766844465,PySem.W.Fast.te14364793385576792824,PySem.W.Fast.te1032975242618825031,PySem.W.Fast.te8093259214132618727,PySem.W.Fast.te1718297227530528222,PySem.W.Fast.te11892475500146522536];rfl'
theorem block(w:World)(os:OsState):segRun treeTable pw w 11 ann 1 2 ⟨HA w.params,⟨[]⟩,{},187,os⟩ (blockOf bE env cE p0 B)=some (.next,SharedT.abs ⟨T0 w.params,15,{},⟨[]⟩,{},187,os⟩,cE,p0):=by rw[PySem.W.Fast.te14374325043358763698,PySem.W.Fast.te14364793385576792824,PySem.W.Fast.te1032975242618825031,PySem.W.Fast.te8093259214132618727,PySem.W.Fast.te1718297227530528222,PySem.W.Fast.te14938417808399470215,PySem.W.Fast.te16330338443398637341,PySem.W.Fast.te10239294469119128424];rfl'
theorem piece(w:World)(os:OsState):segRunT treeTable pw w 11 ann 1 9000 ⟨T0 w.params,15,{},⟨[]⟩,{},187,os⟩ (piecesOf bE env cE p0 B)=some (.next,⟨T1 w.params,419,{},⟨[]⟩,{},750,os⟩,cE,⟨298,0,313,15⟩):=by rw[PySem.W.Fast.te10110043849684766642,PySem.W.Fast.te14364793385576792824,PySem.W.Fast.te1032975242618825031,PySem.W.Fast.te13069687644243786066,PySem.W.Fast.te14938417808399470215,PySem.W.Fast.te1718297227530528222,PySem.W.Fast.te16330338443398637341,PySem.W.Fast.te10239294469119128424];rfl'
theorem fin(w:World)(os:OsState):topRun treeTable pw w 11 ann 3 (SharedT.abs ⟨T1 w.params,419,{},⟨[]⟩,{},750,os⟩) ⟨doneF .next,cE,⟨298,0,313,15⟩,B⟩=some ⟨H1 w.params,⟨[]⟩,{},750,os⟩:=by rw[PySem.W.Fast.te14082659384304107361,PySem.W.Fast.te14364793385576792824,PySem.W.Fast.te1032975242618825031,PySem.W.Fast.te13069687644243786066,PySem.W.Fast.te1718297227530528222,PySem.W.Fast.te14158929756966004236];rfl'
def run(w:World)(os:OsState):topRun treeTable pw w 11 ann (12+(2+(9000+3))) ⟨boot_heap w.params,⟨[]⟩,boot_drawn,boot_toks,os⟩ (topStub pw)=some ⟨H1 w.params,⟨[]⟩,{},750,os⟩:=by refine go_top (pre w os) (piece_block (block w os) ?_);have h:=piece_app (rest:=[]) (segRun_of (piece w os)) (piece_nil (fin w os));rw[List.append_nil]at h;exact h
def size (w:World):((boot_heap w.params).isNs mainGlobals&&(Array.mk []:Array GenState).size==0,(boot_heap w.params).objs.size,(boot_heap w.params).nsMap mainGlobals "__annotations__")=(true,11,ann):=by rfl'
theorem ae6(w:World)(os:OsState):(staticsOk (importedModules pw.main.body) (boot_heap w.params) (H1 w.params)&&namesBound pw (H1 w.params)&&gensDone ⟨H1 w.params,⟨[]⟩,{},750,os⟩&&laidKept (boot_heap w.params) (H1 w.params))=true:=by rw[PySem.W.Fast.te1032975242618825031,PySem.W.Fast.te14158929756966004236,PySem.W.Fast.te5923862056798008813];rfl'
theorem ae7(w:World)(os:OsState):openSeen qv [] (importedModules pw.main.body) Xt true ⟨H1 w.params,⟨[]⟩,{},750,os⟩=openGood qv []:=by rw[PySem.W.Fast.te1032975242618825031,PySem.W.Fast.te14158929756966004236,PySem.W.Fast.te5923862056798008813,PySem.W.Fast.te3994408356199485718,PySem.W.Fast.te3154452736318265832,PySem.W.Fast.te4187177175401517315];rfl'
theorem ae8(w:World):as.map (H1 w.params).get?=(K w.params).map (λp=>some p.2):=by rw[PySem.W.Fast.te14158929756966004236,PySem.W.Fast.te538113369711794958];rfl'
theorem eAs(P:Params):as=(K P).map (·.1):=by rw[PySem.W.Fast.te538113369711794958];rfl'
def hook:Hook:=kHook K as eAs
def left:LeftO pw qv [] Xt hook.obs hook.val 12000:=by refine LeftO.of_pieces (boot_open (by rfl') (!1) (λs=>by rfl')) size run (!1) λw=>funext λos=>?_;exact Prod.ext (ae6 w os) (Prod.ext (ae7 w os) (ae8 w))
end HK
namespace Lk38
open PySem PySem.Spec PyProof.Rows L2 RF
open PySem.W (mg_of mg_none_of)
def Z:aj:=λf=>if f="_law_anew" then tV else if f="_law_spread" then tU else if f="_law_take" then eF else if f="_law_signs" then nG else if f="_law_deeds_of" then tX else if f="_law_form" then yN else if f="_law_wider" then iQ else if f="_law_within" then iQ else if f="_law_form_like" then tW else if f="_law_book" then tY else if f="_law_open" then yO else if f="_law_order" then uy else if f="_law_back" then uD else if f="both" then aY nO else if f="first_touching" then nP else if f="splitting_place" then t6 else if f="with_sign" then aY gP else if f="grown" then fG 9 else if f="least" then aY j0 else if f="is_named" then aY gb else if f="is_whole" then aY iM else if f="is_place" then aY fH else if f="leaves" then eQ 9 else if f="is_deed" then za else if f="is_text_of" then yX else if f="is_form" then yZ else if f="is_row" then zb else if f="is_width" then zc else if f="is_book" then zf else if f="need_book" then iR else if f="need_two_books" then ue else if f="deed_of" then tZ else if f="same_deeds" then sSD else if f="stars" then aY iT else if f="alike" then nT else if f="is_order" then oh else if f="need_order" then jc else if f="by_order" then sBy else if f="first_order" then j5 else if f="parting_word" then nU else if f="is_good" then j6 else if f="need_movable" then j8 else if f="exchanged" then iW else if f="steps_from" then nZ else if f="is_apart" then uC else if f="is_way" then ux else if f="good_ways" then uv else if f="way" then oE else if f="_law_right" then uF else if f="may_swap" then uz else if f="law" then nH else bL (λ_ _=>False) (λ_ _ _ _=>False)
def Ke:Z "_law_anew"=tV:=by rfl'
def Kf:Z "_law_spread"=tU:=by rfl'
def gj:Z "_law_take"=eF:=by rfl'
def zW:Z "_law_signs"=nG:=by rfl'
def Kg:Z "_law_deeds_of"=tX:=by rfl'
def Kh:Z "_law_form"=yN:=by rfl'
def Kl:Z "_law_wider"=iQ:=by rfl'
def Km:Z "_law_within"=iQ:=by rfl'
def Ko:Z "_law_form_like"=tW:=by rfl'
def Kp:Z "_law_book"=tY:=by rfl'
def Kq:Z "_law_open"=yO:=by rfl'
def Kr:Z "_law_order"=uy:=by rfl'
def Ks:Z "_law_back"=uD:=by rfl'
def Ku:Z "both"=aY nO:=by rfl'
def zX:Z "first_touching"=nP:=by rfl'
def Kv:Z "splitting_place"=t6:=by rfl'
def zY:Z "with_sign"=aY gP:=by rfl'
def Kw:Z "grown"=fG 9:=by rfl'
def Ky:Z "least"=aY j0:=by rfl'
def Kz:Z "is_named"=aY gb:=by rfl'
def zZ:Z "is_whole"=aY iM:=by rfl'
def oH:Z "is_place"=aY fH:=by rfl'
def KC:Z "leaves"=eQ 9:=by rfl'
def KD:Z "is_deed"=za:=by rfl'
def KH:Z "is_text_of"=yX:=by rfl'
def KJ:Z "is_form"=yZ:=by rfl'
def KN:Z "is_row"=zb:=by rfl'
def KQ:Z "is_width"=zc:=by rfl'
def KR:Z "is_book"=zf:=by rfl'
def oJ:Z "need_book"=iR:=by rfl'
def KY:Z "need_two_books"=ue:=by rfl'
def KZ:Z "deed_of"=tZ:=by rfl'
def K1:Z "same_deeds"=sSD:=by rfl'
def K3:Z "stars"=aY iT:=by rfl'
def z6:Z "alike"=nT:=by rfl'
def z7:Z "is_order"=oh:=by rfl'
def oK:Z "need_order"=jc:=by rfl'
def z8:Z "by_order"=sBy:=by rfl'
def uI:Z "first_order"=j5:=by rfl'
def z9:Z "parting_word"=nU:=by rfl'
def uJ:Z "is_good"=j6:=by rfl'
def uK:Z "need_movable"=j8:=by rfl'
def uL:Z "exchanged"=iW:=by rfl'
def Aa:Z "steps_from"=nZ:=by rfl'
def K4:Z "is_apart"=uC:=by rfl'
def K5:Z "is_way"=ux:=by rfl'
def K6:Z "good_ways"=uv:=by rfl'
def Ab:Z "way"=oE:=by rfl'
def K7:Z "_law_right"=uF:=by rfl'
def K8:Z "may_swap"=uz:=by rfl'
def bt:List AL:=["all","any","bool","enumerate","int","isinstance","len","list","min","range","sorted","str","tuple","zip"]
def cn:List (AL×D):=[("LETTERS",(.str [97,98,99,100,101,102,103,104,105,106,107,108,109,110,111,112,113,114,115,116,117,118,119,120,121,122])),("LONGEST_DEED",(.int 8)),("MOST_ROWS",(.int 12)),("MOST_ROWS_MOVED",(.int 5)),("WIDEST",(.int 6)),("WIDEST_MOVED",(.int 4))]
def xs:List (AL×Bool):=[("NoBook",true),("NoMatch",true),("NoRow",true),("NoOrder",true),("TooMany",true)]
abbrev CK:=λN s f o b=>aD (aK N (ao s) f bt cn xs o) b (aG s)=true
abbrev BB:=λ(l:PySem.W.OpenLaw) (w:World) (mg:AH) (base:Heap) k f o=>Bse Z l.prog w (HK.K w.params) mg base (CX1 l.prog w) k f bt cn xs o
abbrev NQ:=λP (s:Str) (n:Nat)=>PySem.W.nsIn (HK.K P) mainGlobals s=some (some (.ref n))
abbrev BQ:=λP fd ps=>Binds (HK.K P) fd ps []
abbrev LN:Str:="law_starsieve_k38_whole_ways_there_and_back"
def f0:List (AL×Nat):=[]
def f1:=("_law_anew",1)::f0
def f2:=("_law_spread",2)::f1
def f3:=("_law_take",2)::f2
def f4:=("_law_signs",3)::f3
def f5:=("_law_deeds_of",2)::f4
def f6:=("_law_form",2)::f5
def f7:=("_law_wider",2)::f6
def f8:=("_law_within",2)::f7
def f9:=("_law_form_like",3)::f8
def f10:=("_law_book",3)::f9
def f11:=("_law_open",1)::f10
def f12:=("_law_order",2)::f11
def f13:=("_law_back",1)::f12
def f14:=("both",2)::f13
def f15:=("first_touching",2)::f14
def f16:=("splitting_place",2)::f15
def f17:=("with_sign",3)::f16
def f18:=("grown",3)::f17
def f19:=("least",1)::f18
def f20:=("is_named",3)::f19
def f21:=("is_whole",1)::f20
def f22:=("is_place",2)::f21
def f23:=("leaves",2)::f22
def f24:=("is_deed",1)::f23
def f25:=("is_text_of",3)::f24
def f26:=("is_form",2)::f25
def f27:=("is_row",2)::f26
def f28:=("is_width",1)::f27
def f29:=("is_book",1)::f28
def f30:=("need_book",1)::f29
def f31:=("need_two_books",2)::f30
def f32:=("deed_of",2)::f31
def f33:=("same_deeds",3)::f32
def f34:=("stars",1)::f33
def f35:=("alike",2)::f34
def f36:=("is_order",2)::f35
def f37:=("need_order",2)::f36
def f38:=("by_order",2)::f37
def f39:=("first_order",1)::f38
def f40:=("parting_word",2)::f39
def f41:=("is_good",2)::f40
def f42:=("need_movable",1)::f41
def f43:=("exchanged",2)::f42
def f44:=("steps_from",1)::f43
def f45:=("is_apart",3)::f44
def f46:=("is_way",3)::f45
def f47:=("good_ways",2)::f46
def f48:=("way",2)::f47
def f49:=("_law_right",2)::f48
def f50:=("may_swap",2)::f49
def S(i:Nat):Stmt:=HK.pw.main.body.getD i (.Pass ⟨0,0,0,0⟩)
def oM:Stmt:=S 57
def ae9:fnB ["pen"] ["pen"] (ao oM)=true:=by ac_rfl
def afa:CK ["pen"] oM f0 {} yt:=by ac_rfl
def oN:Stmt:=S 55
def afb:fnB ["cell","at","one","two","three"] ["cell","at"] (ao oN)=true:=by ac_rfl
def afc:CK ["cell","at","one","two","three"] oN f1 {} yu:=by ac_rfl
def oO:Stmt:=S 58
def afd:fnB ["pen","many","at","cell","found"] ["pen","many"] (ao oO)=true:=by ac_rfl
def afe:CK ["pen","many","at","cell","found"] oO f2 {} yw:=by ac_rfl
def oR:Stmt:=S 59
def afg:fnB ["pen","width","signs"] ["pen","width","signs"] (ao oR)=true:=by ac_rfl
def afh:CK ["pen","width","signs"] oR f3 {} yx:=by ac_rfl
def oU:Stmt:=S 64
def afi:fnB ["pen","most","some","turn","found","letters"] ["pen","most"] (ao oU)=true:=by ac_rfl
def afj:CK ["pen","most","some","turn","found","letters"] oU f4 {} yz:=by ac_rfl
def oV:Stmt:=S 60
def afk:fnB ["pen","width"] ["pen","width"] (ao oV)=true:=by ac_rfl
def afl:CK ["pen","width"] oV f5 {} yC:=by ac_rfl
def oW:Stmt:=S 62
def afm:fnB ["pen","form","found","sign"] ["pen","form"] (ao oW)=true:=by ac_rfl
def afn:CK ["pen","form","found","sign"] oW f6 {} yD:=by ac_rfl
def oX:Stmt:=S 61
def afo:fnB ["pen","form","found","sign"] ["pen","form"] (ao oX)=true:=by ac_rfl
def afp:CK ["pen","form","found","sign"] oX f7 {} yE:=by ac_rfl
def oY:Stmt:=S 63
def afq:fnB ["pen","width","forms","kind","form","at"] ["pen","width","forms"] (ao oY)=true:=by ac_rfl
def afr:CK ["pen","width","forms","kind","form","at"] oY f8 {} yF:=by ac_rfl
def oZ:Stmt:=S 65
def afs:fnB ["pen","widest","most","width","deeds","forms","rows","k"] ["pen","widest","most"] (ao oZ)=true:=by ac_rfl
def aft:CK ["pen","widest","most","width","deeds","forms","rows","k"] oZ f9 {} yG:=by ac_rfl
def o9:Stmt:=S 56
def afu:fnB ["script","cells","k","cell"] ["script"] (ao o9)=true:=by ac_rfl
def afv:CK ["script","cells","k","cell"] o9 f10 {} yH:=by ac_rfl
def ph:Stmt:=S 66
def afw:fnB ["pen","many","left"] ["pen","many"] (ao ph)=true:=by ac_rfl
def afx:CK ["pen","many","left"] ph f11 {} yI:=by ac_rfl
def pA:Stmt:=S 67
def afy:fnB ["order"] ["order"] (ao pA)=true:=by ac_rfl
def afz:CK ["order"] pA f12 {} yJ:=by ac_rfl
def pB:Stmt:=S 15
def afA:fnB ["form","other","shared","one","two"] ["form","other"] (ao pB)=true:=by ac_rfl
def afB:CK ["form","other","shared","one","two"] pB f13 {} lZ:=by ac_rfl
def pC:Stmt:=S 31
def afC:fnB ["rows","box","number","row"] ["rows","box"] (ao pC)=true:=by ac_rfl
def afD:CK ["rows","box","number","row"] pC f14 {} mj:=by ac_rfl
def pF:Stmt:=S 32
def afE:fnB ["rows","box","number","at","sign"] ["rows","box"] (ao pF)=true:=by ac_rfl
def afF:CK ["rows","box","number","at","sign"] pF f15 {} mq:=by ac_rfl
def pG:Stmt:=S 14
def afG:fnB ["form","at","sign"] ["form","at","sign"] (ao pG)=true:=by ac_rfl
def afH:CK ["form","at","sign"] pG f16 {} my:=by ac_rfl
def pH:Stmt:=S 33
def afI:fnB ["name","many_rows","box","rows","at","zero","one"] ["name","many_rows","box"] (ao pH)=true:=by ac_rfl
def afJ:CK ["name","many_rows","box","rows","at","zero","one"] pH f18 {} jR:=by ac_rfl
def pI:Stmt:=S 16
def pJ:Stmt:=S 29
def afK:fnB ["name","many","thing"] ["name","many","thing"] (ao pJ)=true:=by ac_rfl
def afL:CK ["name","many","thing"] pJ f19 {} mz:=by ac_rfl
def pK:Stmt:=S 9
def afM:fnB ["thing"] ["thing"] (ao pK)=true:=by ac_rfl
def afN:CK ["thing"] pK f20 {} mC:=by ac_rfl
def pL:Stmt:=S 11
def afO:fnB ["many","thing"] ["many","thing"] (ao pL)=true:=by ac_rfl
def afP:CK ["many","thing"] pL f21 {} mD:=by ac_rfl
def pM:Stmt:=S 30
def afQ:fnB ["box","tree","at","zero","one"] ["box","tree"] (ao pM)=true:=by ac_rfl
def afR:CK ["box","tree","at","zero","one"] pM f23 {} iJ:=by ac_rfl
def pN:Stmt:=S 21
def afS:fnB ["thing"] ["thing"] (ao pN)=true:=by ac_rfl
def afT:CK ["thing"] pN f23 {} mF:=by ac_rfl
def pO:Stmt:=S 12
def afU:fnB ["signs","width","thing"] ["signs","width","thing"] (ao pO)=true:=by ac_rfl
def afV:CK ["signs","width","thing"] pO f24 {} mG:=by ac_rfl
def pP:Stmt:=S 13
def afW:fnB ["width","thing"] ["width","thing"] (ao pP)=true:=by ac_rfl
def afX:CK ["width","thing"] pP f25 {} mH:=by ac_rfl
def pQ:Stmt:=S 22
def afY:fnB ["width","thing"] ["width","thing"] (ao pQ)=true:=by ac_rfl
def afZ:CK ["width","thing"] pQ f26 {} mJ:=by ac_rfl
def pR:Stmt:=S 10
def af0:fnB ["thing"] ["thing"] (ao pR)=true:=by ac_rfl
def af1:CK ["thing"] pR f27 {} mK:=by ac_rfl
def pU:Stmt:=S 23
def af2:fnB ["thing","width","rows"] ["thing"] (ao pU)=true:=by ac_rfl
def af3:CK ["thing","width","rows"] pU f28 {} mL:=by ac_rfl
def pW:Stmt:=S 24
def af4:fnB ["book"] ["book"] (ao pW)=true:=by ac_rfl
def af5:CK ["book"] pW f29 {} mO:=by ac_rfl
def pX:Stmt:=S 25
def af6:fnB ["one","other"] ["one","other"] (ao pX)=true:=by ac_rfl
def af7:CK ["one","other"] pX f30 {} mQ:=by ac_rfl
def pY:Stmt:=S 26
def af8:fnB ["book","number"] ["book","number"] (ao pY)=true:=by ac_rfl
def af9:CK ["book","number"] pY f31 {} jT:=by ac_rfl
def pZ:Stmt:=S 35
def aga:fnB ["one","other","leaf"] ["one","other","leaf"] (ao pZ)=true:=by ac_rfl
def agb:CK ["one","other","leaf"] pZ f32 {} mR:=by ac_rfl
def p6:Stmt:=S 28
def agc:fnB ["width"] ["width"] (ao p6)=true:=by ac_rfl
def agd:CK ["width"] p6 f33 {} mU:=by ac_rfl
def p7:Stmt:=S 36
def age:fnB ["one","other","box","tree","parting"] ["one","other"] (ao p7)=true:=by ac_rfl
def agf:CK ["one","other","box","tree","parting"] p7 f34 {} mV:=by ac_rfl
def p8:Stmt:=S 42
def agg:fnB ["book","thing","many"] ["book","thing"] (ao p8)=true:=by ac_rfl
def agh:CK ["book","thing","many"] p8 f35 {} mW:=by ac_rfl
def qb:Stmt:=S 43
def agi:fnB ["book","order"] ["book","order"] (ao qb)=true:=by ac_rfl
def agj:CK ["book","order"] qb f36 {} mX:=by ac_rfl
def qe:Stmt:=S 45
def agk:fnB ["book","order","width","rows"] ["book","order"] (ao qe)=true:=by ac_rfl
def agl:CK ["book","order","width","rows"] qe f37 {} mY:=by ac_rfl
def qg:Stmt:=S 41
def agm:fnB ["book"] ["book"] (ao qg)=true:=by ac_rfl
def agn:CK ["book"] qg f38 {} mZ:=by ac_rfl
def qi:Stmt:=S 37
def ago:fnB ["one","other","name","shown"] ["one","other"] (ao qi)=true:=by ac_rfl
def agp:CK ["one","other","name","shown"] qi f39 {} m5:=by ac_rfl
def qj:Stmt:=S 48
def agq:fnB ["book","order"] ["book","order"] (ao qj)=true:=by ac_rfl
def agr:CK ["book","order"] qj f40 {} m6:=by ac_rfl
def ql:Stmt:=S 44
def ags:fnB ["book","width","rows"] ["book"] (ao ql)=true:=by ac_rfl
def agt:CK ["book","width","rows"] ql f41 {} m7:=by ac_rfl
def qm:Stmt:=S 46
def agu:fnB ["things","place"] ["things","place"] (ao qm)=true:=by ac_rfl
def agv:CK ["things","place"] qm f42 {} m8:=by ac_rfl
def qp:Stmt:=S 49
def agw:fnB ["order"] ["order"] (ao qp)=true:=by ac_rfl
def agx:CK ["order"] qp f43 {} m9:=by ac_rfl
def qt:Stmt:=S 53
def agy:fnB ["book","order","orders","standing","reached"] ["book","order","orders"] (ao qt)=true:=by ac_rfl
def agz:CK ["book","order","orders","standing","reached"] qt f44 {} ni:=by ac_rfl
def qu:Stmt:=S 52
def agA:fnB ["book","order","steps","here","place"] ["book","order","steps"] (ao qu)=true:=by ac_rfl
def agB:CK ["book","order","steps","here","place"] qu f45 {} nq:=by ac_rfl
def qw:Stmt:=S 50
def agC:fnB ["book","order","ways","bad","newest","further","here","place","there"] ["book","order"] (ao qw)=true:=by ac_rfl
def agD:CK ["book","order","ways","bad","newest","further","here","place","there"] qw f46 {} nu:=by ac_rfl
def qx:Stmt:=S 51
def agE:fnB ["book","order","ways"] ["book","order"] (ao qx)=true:=by ac_rfl
def agF:CK ["book","order","ways"] qx f47 {} nA:=by ac_rfl
def qy:Stmt:=S 68
def agG:fnB ["book","order","word","paper","other","back","again"] ["book","order"] (ao qy)=true:=by ac_rfl
def agH:CK ["book","order","word","paper","other","back","again"] qy f48 {} yK:=by ac_rfl
def qz:Stmt:=S 47
def agI:fnB ["book","place","width","rows"] ["book","place"] (ao qz)=true:=by ac_rfl
def agJ:CK ["book","place","width","rows"] qz f49 {} nF:=by ac_rfl
def qC:Stmt:=S 69
def agK:fnB ["script","pen","turn","book","many","k","place","order","found"] ["script"] (ao qC)=true:=by ac_rfl
def agL:CK ["script","pen","turn","book","many","k","place","order","found"] qC f50 {} yL:=by ac_rfl
def K9:(⇑"0":Str)=tx [48]:=by ac_rfl
def agM:(⇑"*":Str)=tx [42]:=by ac_rfl
def agN:FnScope ["form"] ["form"] (ao pI):=⟨rfl,rfl,rfl,by ac_rfl,rfl,by ac_rfl,by ac_rfl⟩
def agO:Sp:=λvs H Q _=>∃l:AA,vs=[.str (tx l)]/\l.length<=1000/\Q (.str (tx (cL l))) H
def agP {P:AK} {w:World} {K:PF} {mg:AH} {base:Heap} {f:AQ} {fd:AJ} (F:Fun K "least" "least" pI f fd):FnOk P w K mg base CX0 1 f fd ["form"] agO:=by
 refine F.ok1 agN rfl (by ac_rfl) (λ_=>rfl) (λvs H Q E h=>?_) (λcdv A outer s H vs Q E hr h=>?_)
 .obtain ⟨l,rfl,_⟩:=h;rfl
 .obtain ⟨l,rfl,hl,q⟩:=h;refine ⟨_,Tv (Tz (pv 0) (by ac_rfl)),?_⟩;refine ⟨_,rfl,_,rfl,?_,?_⟩
  .rw[K9,b8,b8];simp;omega
  .rw[agM,K9,Tw];exact q
def agQ {P:AK} {w:World} {K:PF} {mg:AH} {base:Heap} {f:AQ} {fd:AJ} (F:Fun K "least" "least" pI f fd):FnOk P w K mg base CX0 1 f fd ["form"] (lift K 1 (aY j0)):=by
 refine (agP F).imp λvs H Q E h=>?_;obtain ⟨e0,Fz,G,ds,r,t,⟨ds',G'⟩,⟨e1,e2⟩,e3,e4⟩:=h;cases e1;obtain ⟨d,hd⟩:=Option.isSome_iff_exists.mp e2;have hd2:=hd;unfold j0 at hd;split at hd
 .rename_i l;split at hd
  .rename_i hl;cases hd;obtain ⟨v,rfl,rv⟩:=bC t;obtain ⟨rfl,_⟩:=rv;have hl':l.length<=1000:=of_decide_eq_true hl;exact ⟨l,rfl,hl',(e3 _ _ ⟨rfl,hd2⟩).now r ⟨rfl,by unfold cL;rw[List.length_map];exact Nat.le_trans hl' (!1)⟩⟩
  .cases hd
 .cases hd
def fdM(n:Str)(st:Stmt)(m:Str)(t c:Nat):AJ:=PySem.W.fnOf n n (kE st) (aG st) (ao st) .none .none .none (.str m t) none (.ref c) .none
def mkF {K:PF} {n m:Str} {st:Stmt} {a t c:Nat}(l:K.lookup a=some ⟨.type "function",none,.func (fdM n st m t c),⟨[]⟩⟩:=by rfl')(h1:PySem.W.codeIn K (.ref c) n=true:=by eq_refl)(h2:PySem.W.keepIn K (.ref a)=true:=by eq_refl):Fun K n n st a (fdM n st m t c):=Td l h1 h2
theorem tK:type_of% @PySem.W.Fast.te538113369711794958:=PySem.W.Fast.te538113369711794958
local macro_rules|`(tactic|ac_nf)=>`(tactic|(intro _ _ _ _ _ _ us hl;first|(obtain ⟨_,h⟩:=du hl;subst h;rfl)|(obtain ⟨_,_,h⟩:=bx hl;subst h;rfl)|(obtain ⟨_,_,_,h⟩:=fj hl;subst h;rfl)))
local macro_rules|`(tactic|eq_refl)=>`(tactic|(first|rw[tK]|(unfold NQ;rw[tK]));rfl')
section
variable {P:Params}
def La:AJ:=fdM "_law_anew" oM LN 603 341
theorem Lb:Fun (HK.K P) "_law_anew" "_law_anew" oM 342 La:=mkF
theorem agR:NQ P "_law_anew" 342:=by eq_refl
theorem agS:BQ P La ["pen"]:=Lb.binds (by ac_nf)
def Ld:AJ:=fdM "_law_spread" oN LN 603 327
theorem Lg:Fun (HK.K P) "_law_spread" "_law_spread" oN 328 Ld:=mkF
theorem agT:NQ P "_law_spread" 328:=by eq_refl
theorem agU:BQ P Ld ["cell","at"]:=Lg.binds (by ac_nf)
def Lh:AJ:=fdM "_law_take" oO LN 603 348
theorem Li:Fun (HK.K P) "_law_take" "_law_take" oO 349 Lh:=mkF
theorem agV:NQ P "_law_take" 349:=by eq_refl
theorem agW:BQ P Lh ["pen","many"]:=Li.binds (by ac_nf)
def Lj:AJ:=fdM "_law_signs" oR LN 603 353
theorem Lk:Fun (HK.K P) "_law_signs" "_law_signs" oR 354 Lj:=mkF
theorem agX:NQ P "_law_signs" 354:=by eq_refl
theorem agY:BQ P Lj ["pen","width","signs"]:=Lk.binds (by ac_nf)
def Ln:AJ:=fdM "_law_deeds_of" oU LN 603 386
theorem Lp:Fun (HK.K P) "_law_deeds_of" "_law_deeds_of" oU 387 Ln:=mkF
theorem agZ:NQ P "_law_deeds_of" 387:=by eq_refl
theorem ag0:BQ P Ln ["pen","most"]:=Lp.binds (by ac_nf)
def Lq:AJ:=fdM "_law_form" oV LN 603 360
theorem Lr:Fun (HK.K P) "_law_form" "_law_form" oV 361 Lq:=mkF
theorem ag1:NQ P "_law_form" 361:=by eq_refl
theorem ag2:BQ P Lq ["pen","width"]:=Lr.binds (by ac_nf)
def Ls:AJ:=fdM "_law_wider" oW LN 603 374
theorem Lw:Fun (HK.K P) "_law_wider" "_law_wider" oW 375 Ls:=mkF
theorem ag3:NQ P "_law_wider" 375:=by eq_refl
theorem ag4:BQ P Ls ["pen","form"]:=Lw.binds (by ac_nf)
def Lx:AJ:=fdM "_law_within" oX LN 603 367
theorem Ly:Fun (HK.K P) "_law_within" "_law_within" oX 368 Lx:=mkF
theorem ag5:NQ P "_law_within" 368:=by eq_refl
theorem ag6:BQ P Lx ["pen","form"]:=Ly.binds (by ac_nf)
def Lz:AJ:=fdM "_law_form_like" oY LN 603 381
theorem LC:Fun (HK.K P) "_law_form_like" "_law_form_like" oY 382 Lz:=mkF
theorem ag7:NQ P "_law_form_like" 382:=by eq_refl
theorem ag8:BQ P Lz ["pen","width","forms"]:=LC.binds (by ac_nf)
def LK:AJ:=fdM "_law_book" oZ LN 603 393
theorem LQ:Fun (HK.K P) "_law_book" "_law_book" oZ 394 LK:=mkF
theorem ag9:NQ P "_law_book" 394:=by eq_refl
theorem aha:BQ P LK ["pen","widest","most"]:=LQ.binds (by ac_nf)
def LR:AJ:=fdM "_law_open" o9 LN 603 334
theorem Ma:Fun (HK.K P) "_law_open" "_law_open" o9 335 LR:=mkF
theorem ahb:NQ P "_law_open" 335:=by eq_refl
theorem ahc:BQ P LR ["script"]:=Ma.binds (by ac_nf)
def Mg:AJ:=fdM "_law_order" ph LN 603 398
theorem Mh:Fun (HK.K P) "_law_order" "_law_order" ph 399 Mg:=mkF
theorem ahd:NQ P "_law_order" 399:=by eq_refl
theorem ahe:BQ P Mg ["pen","many"]:=Mh.binds (by ac_nf)
def Mi:AJ:=fdM "_law_back" pA LN 603 403
theorem Mj:Fun (HK.K P) "_law_back" "_law_back" pA 404 Mi:=mkF
theorem ahf:NQ P "_law_back" 404:=by eq_refl
theorem ahg:BQ P Mi ["order"]:=Mj.binds (by ac_nf)
def Ml:AJ:=fdM "both" pB "starsieve.forms" 287 133
theorem Mm:Fun (HK.K P) "both" "both" pB 134 Ml:=mkF
theorem ahh:NQ P "both" 134:=by eq_refl
theorem lZ:BQ P Ml ["form","other"]:=Mm.binds (by ac_nf)
def Mp:AJ:=fdM "first_touching" pC "starsieve.laid" 405 206
theorem Mq:Fun (HK.K P) "first_touching" "first_touching" pC 207 Mp:=mkF
theorem ahi:NQ P "first_touching" 207:=by eq_refl
theorem mj:BQ P Mp ["rows","box"]:=Mq.binds (by ac_nf)
def Mr:AJ:=fdM "splitting_place" pF "starsieve.laid" 405 213
theorem Ms:Fun (HK.K P) "splitting_place" "splitting_place" pF 214 Mr:=mkF
theorem ahj:NQ P "splitting_place" 214:=by eq_refl
theorem mq:BQ P Mr ["rows","box"]:=Ms.binds (by ac_nf)
def Mt:AJ:=fdM "with_sign" pG "starsieve.forms" 287 126
theorem Mu:Fun (HK.K P) "with_sign" "with_sign" pG 127 Mt:=mkF
theorem ahk:NQ P "with_sign" 127:=by eq_refl
theorem my:BQ P Mt ["form","at","sign"]:=Mu.binds (by ac_nf)
def Ac:AJ:=fdM "grown" pH "starsieve.laid" 405 218
theorem uM:Fun (HK.K P) "grown" "grown" pH 219 Ac:=mkF
theorem Mv:NQ P "grown" 219:=by eq_refl
theorem jR:BQ P Ac ["name","many_rows","box"]:=uM.binds (by ac_nf)
def Mw:AJ:=fdM "least" pI "starsieve.forms" 287 140
theorem Ad:Fun (HK.K P) "least" "least" pI 141 Mw:=mkF
theorem ahl:NQ P "least" 141:=by eq_refl
theorem ahm:BQ P Mw ["form"]:=Ad.binds (by ac_nf)
def Mx:AJ:=fdM "is_named" pJ "starsieve.laid" 405 192
theorem My:Fun (HK.K P) "is_named" "is_named" pJ 193 Mx:=mkF
theorem ahn:NQ P "is_named" 193:=by eq_refl
theorem mz:BQ P Mx ["name","many","thing"]:=My.binds (by ac_nf)
def Mz:AJ:=fdM "is_whole" pK "starsieve.forms" 287 93
theorem MF:Fun (HK.K P) "is_whole" "is_whole" pK 94 Mz:=mkF
theorem aho:NQ P "is_whole" 94:=by eq_refl
theorem mC:BQ P Mz ["thing"]:=MF.binds (by ac_nf)
def MJ:AJ:=fdM "is_place" pL "starsieve.forms" 287 107
theorem MK:Fun (HK.K P) "is_place" "is_place" pL 108 MJ:=mkF
theorem ahp:NQ P "is_place" 108:=by eq_refl
theorem mD:BQ P MJ ["many","thing"]:=MK.binds (by ac_nf)
def Ae:AJ:=fdM "leaves" pM "starsieve.laid" 405 199
theorem uN:Fun (HK.K P) "leaves" "leaves" pM 200 Ae:=mkF
theorem MN:NQ P "leaves" 200:=by eq_refl
theorem iJ:BQ P Ae ["box","tree"]:=uN.binds (by ac_nf)
def MP:AJ:=fdM "is_deed" pN "starsieve.books" 354 145
theorem MT:Fun (HK.K P) "is_deed" "is_deed" pN 146 MP:=mkF
theorem ahq:NQ P "is_deed" 146:=by eq_refl
theorem mF:BQ P MP ["thing"]:=MT.binds (by ac_nf)
def M3:AJ:=fdM "is_text_of" pO "starsieve.forms" 287 112
theorem M4:Fun (HK.K P) "is_text_of" "is_text_of" pO 113 M3:=mkF
theorem ahr:NQ P "is_text_of" 113:=by eq_refl
theorem mG:BQ P M3 ["signs","width","thing"]:=M4.binds (by ac_nf)
def M5:AJ:=fdM "is_form" pP "starsieve.forms" 287 119
theorem M6:Fun (HK.K P) "is_form" "is_form" pP 120 M5:=mkF
theorem ahs:NQ P "is_form" 120:=by eq_refl
theorem mH:BQ P M5 ["width","thing"]:=M6.binds (by ac_nf)
def M7:AJ:=fdM "is_row" pQ "starsieve.books" 354 152
theorem M8:Fun (HK.K P) "is_row" "is_row" pQ 153 M7:=mkF
theorem aht:NQ P "is_row" 153:=by eq_refl
theorem mJ:BQ P M7 ["width","thing"]:=M8.binds (by ac_nf)
def M9:AJ:=fdM "is_width" pR "starsieve.forms" 287 100
theorem Nb:Fun (HK.K P) "is_width" "is_width" pR 101 M9:=mkF
theorem ahu:NQ P "is_width" 101:=by eq_refl
theorem mK:BQ P M9 ["thing"]:=Nb.binds (by ac_nf)
def Nf:AJ:=fdM "is_book" pU "starsieve.books" 354 157
theorem Ng:Fun (HK.K P) "is_book" "is_book" pU 158 Nf:=mkF
theorem ahv:NQ P "is_book" 158:=by eq_refl
theorem mL:BQ P Nf ["thing"]:=Ng.binds (by ac_nf)
def Nh:AJ:=fdM "need_book" pW "starsieve.books" 354 164
theorem Ni:Fun (HK.K P) "need_book" "need_book" pW 165 Nh:=mkF
theorem ahw:NQ P "need_book" 165:=by eq_refl
theorem mO:BQ P Nh ["book"]:=Ni.binds (by ac_nf)
def Nj:AJ:=fdM "need_two_books" pX "starsieve.books" 354 171
theorem Nk:Fun (HK.K P) "need_two_books" "need_two_books" pX 172 Nj:=mkF
theorem ahx:NQ P "need_two_books" 172:=by eq_refl
theorem mQ:BQ P Nj ["one","other"]:=Nk.binds (by ac_nf)
def Nm:AJ:=fdM "deed_of" pY "starsieve.books" 354 178
theorem Np:Fun (HK.K P) "deed_of" "deed_of" pY 179 Nm:=mkF
theorem ahy:NQ P "deed_of" 179:=by eq_refl
theorem jT:BQ P Nm ["book","number"]:=Np.binds (by ac_nf)
def Nq:AJ:=fdM "same_deeds" pZ "starsieve.alike" 461 225
theorem Nr:Fun (HK.K P) "same_deeds" "same_deeds" pZ 226 Nq:=mkF
theorem ahz:NQ P "same_deeds" 226:=by eq_refl
theorem mR:BQ P Nq ["one","other","leaf"]:=Nr.binds (by ac_nf)
def Nt:AJ:=fdM "stars" p6 "starsieve.laid" 405 185
theorem Nu:Fun (HK.K P) "stars" "stars" p6 186 Nt:=mkF
theorem ahA:NQ P "stars" 186:=by eq_refl
theorem mU:BQ P Nt ["width"]:=Nu.binds (by ac_nf)
def Nv:AJ:=fdM "alike" p7 "starsieve.alike" 461 230
theorem Nx:Fun (HK.K P) "alike" "alike" p7 231 Nv:=mkF
theorem ahB:NQ P "alike" 231:=by eq_refl
theorem mV:BQ P Nv ["one","other"]:=Nx.binds (by ac_nf)
def Ny:AJ:=fdM "is_order" p8 "starsieve.moves" 488 249
theorem Nz:Fun (HK.K P) "is_order" "is_order" p8 250 Ny:=mkF
theorem ahC:NQ P "is_order" 250:=by eq_refl
theorem mW:BQ P Ny ["book","thing"]:=Nz.binds (by ac_nf)
def NB:AJ:=fdM "need_order" qb "starsieve.moves" 488 256
theorem NK:Fun (HK.K P) "need_order" "need_order" qb 257 NB:=mkF
theorem ahD:NQ P "need_order" 257:=by eq_refl
theorem mX:BQ P NB ["book","order"]:=NK.binds (by ac_nf)
def NP:AJ:=fdM "by_order" qe "starsieve.moves" 488 268
theorem NT:Fun (HK.K P) "by_order" "by_order" qe 269 NP:=mkF
theorem ahE:NQ P "by_order" 269:=by eq_refl
theorem mY:BQ P NP ["book","order"]:=NT.binds (by ac_nf)
def NZ:AJ:=fdM "first_order" qg "starsieve.moves" 488 244
theorem N5:Fun (HK.K P) "first_order" "first_order" qg 245 NZ:=mkF
theorem ahF:NQ P "first_order" 245:=by eq_refl
theorem mZ:BQ P NZ ["book"]:=N5.binds (by ac_nf)
def N6:AJ:=fdM "parting_word" qi "starsieve.alike" 461 237
theorem N7:Fun (HK.K P) "parting_word" "parting_word" qi 238 N6:=mkF
theorem ahG:NQ P "parting_word" 238:=by eq_refl
theorem m5:BQ P N6 ["one","other"]:=N7.binds (by ac_nf)
def N8:AJ:=fdM "is_good" qj "starsieve.moves" 488 289
theorem Oa:Fun (HK.K P) "is_good" "is_good" qj 290 N8:=mkF
theorem ahH:NQ P "is_good" 290:=by eq_refl
theorem m6:BQ P N8 ["book","order"]:=Oa.binds (by ac_nf)
def Ob:AJ:=fdM "need_movable" ql "starsieve.moves" 488 263
theorem Oc:Fun (HK.K P) "need_movable" "need_movable" ql 264 Ob:=mkF
theorem ahI:NQ P "need_movable" 264:=by eq_refl
theorem m7:BQ P Ob ["book"]:=Oc.binds (by ac_nf)
def Od:AJ:=fdM "exchanged" qm "starsieve.moves" 488 275
theorem Oe:Fun (HK.K P) "exchanged" "exchanged" qm 276 Od:=mkF
theorem ahJ:NQ P "exchanged" 276:=by eq_refl
theorem m8:BQ P Od ["things","place"]:=Oe.binds (by ac_nf)
def Og:AJ:=fdM "steps_from" qp "starsieve.moves" 488 294
theorem Oh:Fun (HK.K P) "steps_from" "steps_from" qp 295 Og:=mkF
theorem ahK:NQ P "steps_from" 295:=by eq_refl
theorem m9:BQ P Og ["order"]:=Oh.binds (by ac_nf)
def Oi:AJ:=fdM "is_apart" qt "starsieve.moves" 488 320
theorem Oj:Fun (HK.K P) "is_apart" "is_apart" qt 321 Oi:=mkF
theorem ahL:NQ P "is_apart" 321:=by eq_refl
theorem ni:BQ P Oi ["book","order","orders"]:=Oj.binds (by ac_nf)
def Ol:AJ:=fdM "is_way" qu "starsieve.moves" 488 315
theorem Om:Fun (HK.K P) "is_way" "is_way" qu 316 Ol:=mkF
theorem ahM:NQ P "is_way" 316:=by eq_refl
theorem nq:BQ P Ol ["book","order","steps"]:=Om.binds (by ac_nf)
def Oo:AJ:=fdM "good_ways" qw "starsieve.moves" 488 301
theorem Oq:Fun (HK.K P) "good_ways" "good_ways" qw 302 Oo:=mkF
theorem ahN:NQ P "good_ways" 302:=by eq_refl
theorem nu:BQ P Oo ["book","order"]:=Oq.binds (by ac_nf)
def Ot:AJ:=fdM "way" qx "starsieve.moves" 488 308
theorem Ou:Fun (HK.K P) "way" "way" qx 309 Ot:=mkF
theorem ahO:NQ P "way" 309:=by eq_refl
theorem nA:BQ P Ot ["book","order"]:=Ou.binds (by ac_nf)
def Ov:AJ:=fdM "_law_right" qy LN 603 410
theorem Ow:Fun (HK.K P) "_law_right" "_law_right" qy 411 Ov:=mkF
theorem ahP:NQ P "_law_right" 411:=by eq_refl
theorem ahQ:BQ P Ov ["book","order"]:=Ow.binds (by ac_nf)
def Oz:AJ:=fdM "may_swap" qz "starsieve.moves" 488 282
theorem OD:Fun (HK.K P) "may_swap" "may_swap" qz 283 Oz:=mkF
theorem ahR:NQ P "may_swap" 283:=by eq_refl
theorem nF:BQ P Oz ["book","place"]:=OD.binds (by ac_nf)
def Af:AJ:=fdM "law" qC LN 603 417
theorem ahS:Fun (HK.K P) "law" "law" qC 418 Af:=mkF
theorem ahT:NQ P "law" 418:=by eq_refl
theorem ahU:PySem.W.nsIn (HK.K P) mainGlobals "all"=some none:=by eq_refl
theorem ahV:PySem.W.nsIn (HK.K P) mainGlobals "any"=some none:=by eq_refl
theorem ahW:PySem.W.nsIn (HK.K P) mainGlobals "bool"=some none:=by eq_refl
theorem ahX:PySem.W.nsIn (HK.K P) mainGlobals "enumerate"=some none:=by eq_refl
theorem ahY:PySem.W.nsIn (HK.K P) mainGlobals "int"=some none:=by eq_refl
theorem ahZ:PySem.W.nsIn (HK.K P) mainGlobals "isinstance"=some none:=by eq_refl
theorem ah0:PySem.W.nsIn (HK.K P) mainGlobals "len"=some none:=by eq_refl
theorem ah1:PySem.W.nsIn (HK.K P) mainGlobals "list"=some none:=by eq_refl
theorem ah2:PySem.W.nsIn (HK.K P) mainGlobals "min"=some none:=by eq_refl
theorem ah3:PySem.W.nsIn (HK.K P) mainGlobals "range"=some none:=by eq_refl
theorem ah4:PySem.W.nsIn (HK.K P) mainGlobals "sorted"=some none:=by eq_refl
theorem ah5:PySem.W.nsIn (HK.K P) mainGlobals "str"=some none:=by eq_refl
theorem ah6:PySem.W.nsIn (HK.K P) mainGlobals "tuple"=some none:=by eq_refl
theorem ah7:PySem.W.nsIn (HK.K P) mainGlobals "zip"=some none:=by eq_refl
theorem ah8:PySem.W.nsIn (HK.K P) mainGlobals "LETTERS"=some (some (.str "abcdefghijklmnopqrstuvwxyz" 360)):=by eq_refl
theorem ah9:PySem.W.nsIn (HK.K P) mainGlobals "LONGEST_DEED"=some (some (.int 8 358)):=by eq_refl
theorem aia:PySem.W.nsIn (HK.K P) mainGlobals "MOST_ROWS"=some (some (.int 12 356)):=by eq_refl
theorem aib:PySem.W.nsIn (HK.K P) mainGlobals "MOST_ROWS_MOVED"=some (some (.int 5 490)):=by eq_refl
theorem aic:PySem.W.nsIn (HK.K P) mainGlobals "WIDEST"=some (some (.int 6 289)):=by eq_refl
theorem aid:PySem.W.nsIn (HK.K P) mainGlobals "WIDEST_MOVED"=some (some (.int 4 492)):=by eq_refl
theorem x_s:xsB (HK.K P) xs=true:=by eq_refl
end
section
variable {l:PySem.W.OpenLaw} {w:World} {h:Heap} {mg:AH} {base:Heap} (X:(HK.K w.params).In h) (G:h.Ns mainGlobals mg)
include X G
theorem B0:BB l w mg base 0 f0 {}:=bse trivial ⟨mg_none_of X G ahU,mg_none_of X G ahV,mg_none_of X G ahW,mg_none_of X G ahX,mg_none_of X G ahY,mg_none_of X G ahZ,mg_none_of X G ah0,mg_none_of X G ah1,mg_none_of X G ah2,mg_none_of X G ah3,mg_none_of X G ah4,mg_none_of X G ah5,mg_none_of X G ah6,mg_none_of X G ah7,trivial⟩ ⟨acx (mg_of X G ah8) (by ac_rfl) (!1),lY (mg_of X G ah9),lY (mg_of X G aia),lY (mg_of X G aib),lY (mg_of X G aic),lY (mg_of X G aid),trivial⟩ X G x_s
theorem B1:BB l w mg base 1 f1 {}:=(B0 X G).step Lb agS (mg_of X G agR) Ke 0 ae9 afa rfl rfl (cI (λds G h=>acB Z  ds G h))
theorem B2:BB l w mg base 2 f2 {}:=(B1 X G).step Lg agU (mg_of X G agT) Kf 3 afb afc rfl rfl (cI (λds G h=>acA Z  ds G h))
theorem B3:BB l w mg base 3 f3 {}:=(B2 X G).step Li agW (mg_of X G agV) gj 3 afd afe rfl rfl (cI (λds G h=>acC Z Kf ds G h))
theorem B4:BB l w mg base 4 f4 {}:=(B3 X G).step Lk agY (mg_of X G agX) zW 0 afg afh rfl rfl (cI (λds G h=>acF Z gj ds G h))
theorem B5:BB l w mg base 5 f5 {}:=(B4 X G).step Lp ag0 (mg_of X G agZ) Kg 4 afi afj rfl rfl (cI (λds G h=>acU Z gj zW ds G h))
theorem B6:BB l w mg base 6 f6 {}:=(B5 X G).step Lr ag2 (mg_of X G ag1) Kh 0 afk afl rfl rfl (cI (λds G h=>acG Z gj zW ds G h))
theorem B7:BB l w mg base 7 f7 {}:=(B6 X G).step Lw ag4 (mg_of X G ag3) Kl 2 afm afn rfl rfl (cI (λds G h=>acM Z gj ds G h))
theorem B8:BB l w mg base 8 f8 {}:=(B7 X G).step Ly ag6 (mg_of X G ag5) Km 2 afo afp rfl rfl (cI (λds G h=>acL Z gj ds G h))
theorem B9:BB l w mg base 9 f9 {}:=(B8 X G).step LC ag8 (mg_of X G ag7) Ko 3 afq afr rfl rfl (cI (λds G h=>acR Z gj Kh Km Kl ds G h))
theorem B10:BB l w mg base 10 f10 {}:=(B9 X G).step LQ aha (mg_of X G ag9) Kp 5 afs aft rfl rfl (cI (λds G h=>acX Z gj Kg Ko ds G h))
theorem B11:BB l w mg base 11 f11 {}:=(B10 X G).step Ma ahc (mg_of X G ahb) Kq 3 afu afv rfl rfl (cI (λds G h=>acH Z  ds G h))
theorem B12:BB l w mg base 12 f12 {}:=(B11 X G).step Mh ahe (mg_of X G ahd) Kr 1 afw afx rfl rfl (iI (λa ds G h=>aeE Z gj a ds G h))
theorem B13:BB l w mg base 13 f13 {}:=(B12 X G).step Mj ahg (mg_of X G ahf) Ks 0 afy afz rfl rfl (bT (λa G h=>aeR Z  a G h))
theorem B14:BB l w mg base 14 f14 {}:=(B13 X G).step Mm lZ (mg_of X G ahh) Ku 3 afA afB rfl rfl (jO (λds G d h=>adi Z  ds G d h))
theorem B15:BB l w mg base 15 f15 {}:=(B14 X G).step Mq mj (mg_of X G ahi) zX 2 afC afD rfl rfl (cI (λds G h=>adq Z Ku ds G h))
theorem B16:BB l w mg base 16 f16 {}:=(B15 X G).step Ms mq (mg_of X G ahj) Kv 3 afE afF rfl rfl (cI (λds G h=>adv Z zX ds G h))
theorem B17:BB l w mg base 17 f17 {}:=(B16 X G).step Mu my (mg_of X G ahk) zY 0 afG afH rfl rfl (jO (λds G d h=>adl Z  ds G d h))
theorem OJ:∀n:Nat,FnOk l.prog w (HK.K w.params) mg base (CX1 l.prog w) (17+n) 219 Ac ["name","many_rows","box"] (lift (HK.K w.params) 3 (fG n))
 |0=>HS adC
 |n+1=>tQ (fs:=f18) uM ((B17 X G).self (by ac_rfl) (OJ n) uM.kp jR (mg_of X G Mv)) (fG (n+1)) 3 4 afI afJ rfl rfl (cI (λds G h=>adB (iG Z "grown" (fG n)) n (if_pos rfl) (jQ zX rfl) (jQ Kv rfl) (jQ zY rfl) ds G h))
theorem B18:BB l w mg base 26 f18 {}:=(B17 X G).add (j:=9) Kw (OJ X G 9) uM.kp jR (mg_of X G Mv)
theorem B19:BB l w mg base 27 f19 {}:=(B18 X G).add (j:=1) Ky ((agQ Ad).cx.mono (!1)) Ad.kp ahm (mg_of X G ahl)
theorem B20:BB l w mg base 28 f20 {}:=(B19 X G).step My mz (mg_of X G ahn) Kz 0 afK afL rfl rfl (jO (λds G d h=>adH Z  ds G d h))
theorem B21:BB l w mg base 29 f21 {}:=(B20 X G).step MF mC (mg_of X G aho) zZ 0 afM afN rfl rfl (jO (λds G d h=>acI Z  ds G d h))
theorem B22:BB l w mg base 30 f22 {}:=(B21 X G).step MK mD (mg_of X G ahp) oH 0 afO afP rfl rfl (jO (λds G d h=>adG Z zZ ds G d h))
theorem O1:∀n:Nat,FnOk l.prog w (HK.K w.params) mg base (CX1 l.prog w) (30+n) 200 Ae ["box","tree"] (lift (HK.K w.params) 2 (eQ n))
 |0=>HS adK
 |n+1=>tQ (fs:=f23) uN ((B22 X G).self (by ac_rfl) (O1 n) uN.kp iJ (mg_of X G MN)) (eQ (n+1)) 2 3 afQ afR rfl rfl (bT (λa G h=>adM (iG Z "leaves" (eQ n)) n (if_pos rfl) (jQ Kz rfl) (jQ oH rfl) (jQ zY rfl) a G h))
theorem B23:BB l w mg base 39 f23 {}:=(B22 X G).add (j:=9) KC (O1 X G 9) uN.kp iJ (mg_of X G MN)
theorem B24:BB l w mg base 40 f24 {}:=(B23 X G).step MT mF (mg_of X G ahq) KD 0 afS afT rfl rfl (bT (λa G h=>ac4 Z  a G h))
theorem B25:BB l w mg base 41 f25 {}:=(B24 X G).step M4 mG (mg_of X G ahr) KH 0 afU afV rfl rfl (bT (λa G h=>ac2 Z  a G h))
theorem B26:BB l w mg base 42 f26 {}:=(B25 X G).step M6 mH (mg_of X G ahs) KJ 0 afW afX rfl rfl (bT (λa G h=>ac3 Z KH a G h))
theorem B27:BB l w mg base 43 f27 {}:=(B26 X G).step M8 mJ (mg_of X G aht) KN 0 afY afZ rfl rfl (bT (λa G h=>ac5 Z KJ KD a G h))
theorem B28:BB l w mg base 44 f28 {}:=(B27 X G).step Nb mK (mg_of X G ahu) KQ 0 af0 af1 rfl rfl (bT (λa G h=>ac6 Z zZ a G h))
theorem B29:BB l w mg base 45 f29 {}:=(B28 X G).step Ng mL (mg_of X G ahv) KR 2 af2 af3 rfl rfl (bT (λa G h=>ac7 Z KQ KN a G h))
theorem B30:BB l w mg base 46 f30 {}:=(B29 X G).step Ni mO (mg_of X G ahw) oJ 0 af4 af5 rfl rfl (bT (λa G h=>ac8 Z KR a G h))
theorem B31:BB l w mg base 47 f31 {}:=(B30 X G).step Nk mQ (mg_of X G ahx) KY 0 af6 af7 rfl rfl (bT (λa G h=>adZ Z oJ a G h))
theorem B32:BB l w mg base 48 f32 {}:=(B31 X G).step Np jT (mg_of X G ahy) KZ 0 af8 af9 rfl rfl (cI (λds G h=>adb Z  ds G h))
theorem B33:BB l w mg base 49 f33 {}:=(B32 X G).step Nr mR (mg_of X G ahz) K1 0 aga agb rfl rfl (bT (λa G h=>ad1 Z KZ a G h))
theorem B34:BB l w mg base 50 f34 {}:=(B33 X G).step Nu mU (mg_of X G ahA) K3 0 agc agd rfl rfl (jO (λds G d h=>adm Z  ds G d h))
theorem B35:BB l w mg base 51 f35 {}:=(B34 X G).step Nx mV (mg_of X G ahB) z6 3 age agf rfl rfl (iI (λa ds G h=>ad2 Z KY Kw KC Ky K3 K1 a ds G h))
theorem B36:BB l w mg base 52 f36 {}:=(B35 X G).step Nz mW (mg_of X G ahC) z7 1 agg agh rfl rfl (bT (λa G h=>aeu Z oH a G h))
theorem B37:BB l w mg base 53 f37 {}:=(B36 X G).step NK mX (mg_of X G ahD) oK 0 agi agj rfl rfl (bT (λa G h=>aev Z z7 a G h))
theorem B38:BB l w mg base 54 f38 {}:=(B37 X G).step NT mY (mg_of X G ahE) z8 2 agk agl rfl rfl (bT (λa G h=>aex Z oJ oK a G h))
theorem B39:BB l w mg base 55 f39 {}:=(B38 X G).step N5 mZ (mg_of X G ahF) uI 0 agm agn rfl rfl (bT (λa G h=>aed Z  a G h))
theorem B40:BB l w mg base 56 f40 {}:=(B39 X G).step N7 m5 (mg_of X G ahG) z9 2 ago agp rfl rfl (bT (λa G h=>ad3 Z z6 a G h))
theorem B41:BB l w mg base 57 f41 {}:=(B40 X G).step Oa m6 (mg_of X G ahH) uJ 0 agq agr rfl rfl (bT (λa G h=>aey Z z9 z8 a G h))
theorem B42:BB l w mg base 58 f42 {}:=(B41 X G).step Oc m7 (mg_of X G ahI) uK 2 ags agt rfl rfl (bT (λa G h=>aew Z oJ a G h))
theorem B43:BB l w mg base 59 f43 {}:=(B42 X G).step Oe m8 (mg_of X G ahJ) uL 0 agu agv rfl rfl (bT (λa G h=>aeh Z  a G h))
theorem B44:BB l w mg base 60 f44 {}:=(B43 X G).step Oh m9 (mg_of X G ahK) Aa 0 agw agx rfl rfl (bT (λa G h=>aej Z uL a G h))
theorem B45:BB l w mg base 61 f45 {}:=(B44 X G).step Oj ni (mg_of X G ahL) K4 2 agy agz rfl rfl (iI (λa ds G h=>aeP Z ⟨uK,oK,z7,uI,Aa,uJ⟩ a ds G h))
theorem B46:BB l w mg base 62 f46 {}:=(B45 X G).step Om nq (mg_of X G ahM) K5 2 agA agB rfl rfl (bT (λa G h=>aeC Z ⟨uK,oK,uI,oH,uL,uJ⟩ a G h))
theorem B47:BB l w mg base 63 f47 {}:=(B46 X G).step Oq nu (mg_of X G ahN) K6 7 agC agD rfl rfl (iI (λa ds G h=>aet Z ⟨uI,Aa,uJ⟩ a ds G h))
theorem B48:BB l w mg base 64 f48 {}:=(B47 X G).step Ou nA (mg_of X G ahO) Ab 1 agE agF rfl rfl (iI (λa ds G h=>aeI Z ⟨uK,oK,K6⟩ a ds G h))
theorem B49:BB l w mg base 65 f49 {}:=(B48 X G).step Ow ahQ (mg_of X G ahP) K7 5 agG agH rfl rfl (iI (λa ds G h=>ae0 Z ⟨Ab,z8,Ks,K4,K5,z6⟩ a ds G h))
theorem B50:BB l w mg base 66 f50 {}:=(B49 X G).step OD nF (mg_of X G ahR) K8 2 agI agJ rfl rfl (bT (λa G h=>aeF Z oJ oH z9 uL a G h))
theorem aie:FnOk l.prog w (HK.K w.params) mg base (CX1 l.prog w) 67 418 Af ["script"] (lift (HK.K w.params) 1 (nH)):=tQ ahS (B50 X G) (nH) 1 8 agK agL rfl rfl (cI (λds G h=>ae2 Z ⟨Kq,Ke,Kp,Kr,K7,Ab,K8⟩ ds G h))
omit X G in
theorem all (fa:AQ) (X:(HK.K w.params).In h) (G:h.Ns mainGlobals mg) (hfa:mg "law"=some (.ref fa)):∃fd:AJ,(∀(s:AI) (v:AN),BindsTo s fd ⟨[v],[]⟩ [("script",v)])/\∀base:Heap,(HK.K w.params).In base->base.Ns mainGlobals mg->FnOk l.prog w (HK.K w.params) mg base (CX1 l.prog w) 67 fa fd ["script"] (lift (HK.K w.params) 1 (nH)):=by have e:=hfa.symm.trans (PySem.W.mg_of X G ahT);cases e;exact ⟨Af,λs v=>.of_eq rfl,λbase _ _=>aie X G⟩
end
def walk {l:PySem.W.OpenLaw} {q:AK} {loose:AD} {XP:(AH)->Heap->Prop} {d:DefRec} (hn:l.most=some 63) (hdf:d.params.defaults=[]) (hdn:d.name="law"):
  PySem.W.WalkO q loose XP HK.hook.says l.row.toRowW d [] (λf vs=>PySem.call f vs):=
 L2.Tc (n:=63) (k:=67) (x:="script") (K:=HK.K) (CX:=λw=>CX1 l.prog w) (sp:=λw=>lift (HK.K w.params) 1 (nH)) hn (!1) hdf ⟨rfl,!1,!1⟩ (λ_ _ Y=>Y) (λw mg fa h X G hmg=>all fa X G (hdn ▸ hmg)) (λw H a ns hl hO hS=>acy (acz λns _ hl=>⟨ns,rfl,hl⟩) (HK.K w.params) H a ns hl hO hS) λ_ _ _ _ _ z=>Zb z
end Lk38
end
open PySem PySem.W PyProof.Rows
set_option maxHeartbeats 0 in
theorem PySem.Challenge.cw_starsieve_k38_whole_ways_there_and_back_holds : PySem.Challenge.rw_starsieve_k38_whole_ways_there_and_back.Holds := by
 have said:PySem.Challenge.rw_starsieve_k38_whole_ways_there_and_back.row.wellSaid=true:=by decide +kernel
 refine ⟨by decide +kernel,?_⟩;refine PySem.W.holds_open (q:=HK.qv) (loose:=[]) (Xt:=HK.Xt) (XP:=XL HK.qv []) (Yf:=HK.hook.obs) (Ya:=HK.hook.val) (YP:=HK.hook.says) (N:=12000) HK.left HK.hook.of HK.hook.keeps
  (λs e=>xl_of s (Bool.and_eq_true_iff.mp e).1) XL.keeps (by rfl) (by rfl) (by rfl) (λs e=>recFacts_of (Bool.and_eq_true_iff.mp e).2) (by rfl) (by assumption) (by decide +kernel) ⟨rfl,rfl,rfl,rfl,rfl,by decide +kernel⟩ ?hw ?hc
 case hw=>exact ⟨[.list []],by decide +kernel,by decide +kernel⟩
 exact Lk38.walk rfl rfl rfl
