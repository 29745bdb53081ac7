import PyProof.Rows.All
import Wide.All
import OpenK.AllK
import Wide.FinOn
import Lean
import PyProof.EqAt
import PyProof.EqKinds
import PyProof.TupleCall
import PyProof.NeKinds
import PyProof.FactsAll.range_2
import PyProof.FactsAll.tuple_2
import PyProof.FactsAll.tuple_3
import PyProof.FactsAll.tuple
import PyProof.ListRange
import PyProof.ExcInit
import KE.KDictList
import PyProof.DictCompW
import PyProof.IsiNone
import PyProof.TupleKey
import PyProof.SetRoads
import PySem.Challenge.RW_starsieve_k34_ways_or_apart
set_option compiler.extract_closed false
set_option bootstrap.genMatcherCode false
set_option genSizeOf false
set_option Elab.async false
set_option maxRecDepth 100000
set_option tactic.hygienic false
noncomputable section
local macro_rules|`($x⁻¹)=>`(($x).length)
local macro_rules|`(tactic|show $x)=>`(tactic|refine $x)
local macro_rules|`(!2)=>`(by simp)
open Lean in
def pZ:Nat->TSyntax `term->MacroM (TSyntax `rcasesPat)
 |0,_=>Macro.throwUnsupported
 |n+1,t=>do
  match t with
  |`(⟨$a,*⟩)=>do
   let l←a.getElems.mapM λx=>do let p←pZ n x;`(Lean.Parser.Tactic.rcasesPatLo|$p:rcasesPat)
   `(rcasesPat|⟨$l,*⟩)
  |`(($b,$a,*))=>do
   let l←(#[b]++a.getElems).mapM λx=>do let p←pZ n x;`(Lean.Parser.Tactic.rcasesPatLo|$p:rcasesPat)
   `(rcasesPat|⟨$l,*⟩)
  |`($i:ident)=>`(rcasesPat|$i:ident)
  |`(_)=>`(rcasesPat|_)
  |_=>Macro.throwUnsupported
local macro_rules|`(tactic|let $p:term:=$e)=>do let q←pZ 9 p;`(tactic|obtain $q:rcasesPat:=$e)
local macro_rules|`(-$x)=>`(some $x)
def hY(v r:Lean.Syntax):Lean.MacroM Lean.Syntax:=do if (v.find? fun x=>x.isOfKind `Lean.Parser.Tactic.renameI||x.isOfKind `Lean.Parser.Tactic.«tacticNext_=>_»||x.isOfKind `Lean.Parser.Tactic.case).isSome then let r:Lean.TSyntax `command:=⟨r⟩;return ←`(set_option tactic.hygienic true in $r:command) else return r
local macro_rules|`(def $n:declId $s:optDeclSig $v:declVal)=>do hY v ((←`(noncomputable def $n:declId $s:optDeclSig $v:declVal)).raw.rewriteBottomUp (·.setInfo .none))
local macro_rules|`(abbrev $n:declId $s:optDeclSig $v:declVal)=>do return (←`(noncomputable abbrev $n:declId $s:optDeclSig $v:declVal)).raw.rewriteBottomUp (·.setInfo .none)
local macro_rules|`(theorem $n:declId $s:declSig $v:declVal)=>do
 if n.raw.getPos?.isNone then Lean.Macro.throwUnsupported
 hY v ((←`(theorem $n:declId $s:declSig $v:declVal)).raw.rewriteBottomUp (·.setInfo .none))
def nZf.{u}{a:Sort u}(h:false=true):a:=nomatch h
local macro_rules|`(~~~$x)=>`(($x).heap.objs.size)
local macro_rules|`(↥$x)=>`(PySem.wpAny (PySem.model ($x).prog ($x).w) ($x).A)
local macro_rules|`(!0)=>`(by lia)
local macro_rules|`(!1)=>`(by decide)
local macro_rules|`(!!$x)=>`(by simpa using $x)
local macro_rules|`(⇑$x)=>`(PySem.Str.ofString $x)
abbrev AA:=List Nat
abbrev AB:=List PySem.Value
abbrev AC:=List (PySem.Addr×PySem.Obj)
abbrev AD:=List PySem.Str
abbrev AE:=List PySem.Expr
abbrev AF:=List PySem.Stmt
abbrev AG:=PySem.Value->PySem.Shared->Prop
abbrev AH:=PySem.Str->Option PySem.Value
abbrev AI:=PySem.Shared
abbrev AJ:=PySem.FuncData
abbrev AK:=PySem.Program
abbrev AL:=String
abbrev AM:=PySem.Around
abbrev AN:=PySem.Value
abbrev AO:=PySem.Expr
abbrev AQ:=PySem.Addr
local macro_rules|`(tactic|rfl')=>`(tactic|kernel_rfl)
local macro_rules|`(tactic|ac_rfl)=>`(tactic|decide +kernel)
abbrev PF:=PySem.W.Frag
set_option linter.all false
theorem wsR:PySem.Challenge.rw_starsieve_k34_ways_or_apart.row.wellSaid=true:=by decide +kernel
theorem wsL:PySem.Challenge.rw_starsieve_k34_ways_or_apart.wellSaid=true:=by decide +kernel
namespace HD
open PySem PySem.W
def sv(x:Str)(t:Nat):AN:=.str x t
def ri(n:Nat):AN:=.int n 0
def ir (l:AB):Obj:=⟨.type "tuple",none,.seq ⟨l⟩ 0,⟨[]⟩⟩
def fL(c:AN)(l:AB):Obj:=⟨c,none,.fields ⟨l⟩,⟨[]⟩⟩
def oF:Str:="/claim/cut.py"
def Am(n q:Str)(z L N a b:Nat)(g:Bool)(O U Y:AN)(t J:Nat):Obj:=
 fL (.type "code") [sv n t,sv q (t+1),sv oF (t+2),ri z,ri L,ri 0,ri 0,ri N,.ref a,.bool g,ri 181,.ref b,.none,O,U,Y,ri J,ri z,sv oF (J+1)]
def toks(t:Nat):AD->AB
 |[]=>[]
 |x::r=>sv x t::toks (t+1) r
def fdO(n q:Str)(p:Arguments)(b:AF)(L:Scope)(g:Nat)(J z:AN):Data:=
 .func {name:=n,qualname:=q,params:=p,body:=.stmts b,scope:=L,globals:=g,closure:=[],defaults:=.none,kwdefaults:=.none,pyModule:=J,code:=z}
def enO(P:Params)(k:Str)(t:Nat)(v:AN):DictEntry:={hash:=PyData.keyHash P k,key:=sv k t,val:=v}
def oG (l:List DictEntry) (e:Nat):Obj:=⟨.type "dict",none,.dict ⟨l⟩ e,⟨[]⟩⟩
def frO (c l:Nat) (g:AN):Obj:=⟨.type "frame",none,.plain,⟨[-(.ref c),-(.ref 3),-(.ref l),none,-g,none,-(.ref 0)]⟩⟩
def bfO (s:AL) (v:AN):Obj:=fL (.type "builtin_function_or_method") [.builtin s,v]
def veM:AB:=[.type "ValueError",.type "Exception",.type "BaseException",.type "object"]
def uT (b:AO):Bool:=match b with |.Name n _=>n==("ValueError":Str)|_=>false
def fnO(q:Str)(a t:Nat)(J:AN)(n:Str)(p:Arguments)(b:AF)(g:Scope)(z:Nat):List Obj:=match localNames p g (.stmts b) with
 |some l=>[ir [],fL .none [],ir (toks (t+3) l.1),ir [],⟨.none,none,fdO n q p b g 0 .none .none,⟨[]⟩⟩,
   Am n q z p.args⁻¹ 3 a (a+1) true (.ref (a+2)) (.ref (a+3)) (.ref (a+4)) t (t+3+l.1⁻¹),⟨.type "function",none,fdO n q p b g 3 J (.ref (a+5)),⟨[]⟩⟩]
 |none=>[ir [],fL .none [],⟨.none,none,fdO n q p b g 0 .none .none,⟨[]⟩⟩,
   Am n q z p.args⁻¹ 3 a (a+1) true .none .none (.ref (a+2)) t (t+3),⟨.type "function",none,fdO n q p b g 3 J (.ref (a+3)),⟨[]⟩⟩]
def fnA(p:Arguments)(b:AF)(g:Scope):Nat:=match localNames p g (.stmts b) with|some _=>7|none=>5
def fnT(p:Arguments)(b:AF)(g:Scope):Nat:=match localNames p g (.stmts b) with|some l=>l.1⁻¹+5|none=>5
def dot:Str:="."
structure MO where
 os:List Obj
 es:List DictEntry
 cs:AB
 a:Nat
 t:Nat
def uU(P:Params)(c:Str)(g:AN):AF->Nat->Nat->MO
 |.FunctionDef n p b _ _ _ sc _ _ pos::r,a,t=>
  let m:=uU P c g r (a+fnA p b sc) (t+fnT p b sc+1)
  ⟨fnO (c++dot++n) a t g n p b sc pos.line++m.os,enO P n (t+fnT p b sc) (.ref (a+fnA p b sc-1))::m.es,ri pos.line::ri pos.col::.ref (a+fnA p b sc-2)::m.cs,m.a,m.t⟩
 |_::r,a,t=>uU P c g r a t
 |[],a,t=>⟨[],[],[],a,t⟩
def clA(P:Params)(a:Nat)(b:AF):Nat:=(uU P dot .none b (a+7) 0).a+2
def stO(P:Params)(r:Nat)(sub:AB)(a t:Nat)(z:AN)(s:Stmt):List Obj:=match s with
 |.FunctionDef n p b _ _ _ sc _ _ pos=>fnO n a t z n p b sc pos.line
 |.ClassDef n bs _ body _ _ _ _ _ st pos=>
  let m:=uU P n z body (a+7) (t+12)
  let c:=m.a+2
  let u:=m.t+st⁻¹
  let g:=[enO P "__module__" (t+7) z]
  let q:=enO P "__firstlineno__" (t+11) (.int pos.line (t+10))::m.es++[enO P "__static_attributes__" u (.ref m.a)]
  let b:AB:=match bs with|b::_=>(match uT b with|true=>[.type "ValueError"]|false=>[.ref r]) |[]=>[]
  let own:Bool:=match bs with |[]=>true|_=>false
  let J:Bool:=match bs with|b::_=>uT b |[]=>false
  let wr (v:Nat):Obj:=fL (.type "getset_descriptor") [sv "__weakref__" v,.ref c,.builtin "ExceptionGroup.__weakref__",.none]
  let typ (mro:AB) (sub:AB) (nw:AL):Obj:=
   ⟨.type "type",none,.cls {name:=n,bases:=(match own with|true=>[.type "object"]|false=>b),mro:=.ref c::mro,ns:=m.a+1,qualname:=n,subclasses:=sub},
    ⟨[(match own with|true=>none|false=>-(.ref a)),none,-(sv n t),-(sv n (t+8)),-(.builtin nw),-(.bool true)]⟩⟩
  [ir b,bfO "type.__prepare__" (.type "type"),oG (g++enO P "__qualname__" (t+9) (sv n (t+8))::q) (4+m.es⁻¹),ir [],fL .none m.cs,
   Am n n pos.line 0 0 (a+3) (a+4) false .none .none .none (t+2) (t+5),frO (a+5) (a+2) z]++m.os++[ir (toks m.t st)] ++
  (match own with
  |true=>[oG (g++q++[enO P "__dict__" (u+2) (.ref (c+1)),enO P "__weakref__" (u+4) (.ref (c+2)),enO P "__doc__" (u+5) .none]) 4,typ [.type "object"] [] "object.__new__",
    fL (.type "getset_descriptor") [sv "__dict__" (u+1),.ref c,.builtin "function.__dict__",.builtin "function.__dict__#set"],wr (u+3)]
  |false=>(match J with
   |true=>[oG (g++q++[enO P "__weakref__" (u+2) (.ref (c+1)),enO P "__doc__" (u+3) .none]) 3,typ veM sub "ValueError.__new__",wr (u+1)]
   |false=>[oG (g++q++[enO P "__doc__" (u+1) .none]) 2,typ (.ref r::veM) [] "ValueError.__new__"])) ++
  [fL (.type "super") [.ref c,.ref c,.ref c],bfO "object.__init_subclass__" (.ref c)]
 |_=>[]
def mdO(t:Nat)(g:AN)(s:Stmt):AN:=match s with
 |.Assign [.Name n _] (.Constant (.str x) _ _) _=>(match n==("__name__":Str) with|true=>sv x t|false=>g)
 |_=>g
def enS(P:Params)(q:Str->AN)(t u a g:Nat)(s:Stmt):List DictEntry:=match s with
 |.Assign [.Name n _] (.Name y _) _=>[enO P n t (q y)]
 |.FunctionDef n _ _ _ _ _ _ _ _ _=>[enO P n (u-1) (.ref (g-1))]
 |.ClassDef n _ _ b _ _ _ _ _ _ _=>[enO P n (u-1) (.ref (clA P a b))]
 |.Assign [.Name n _] (.Constant c _ _) _=>(match n==("__name__":Str) with
  |true=>[]
  |false=>[enO P n (t+1) (match c with |.int i=>.int i t |.str x=>sv x t|_=>.none)])
 |_=>[]
def fnS(g:Nat)(s:Stmt):List (Str×AN):=match s with
 |.FunctionDef n _ _ _ _ _ _ _ _ _=>[(n,.ref (g-1))]
 |_=>[]
def cdS(a g:Nat)(s:Stmt):AB:=match s with
 |.FunctionDef _ _ _ _ _ _ _ _ _ pos=>[ri pos.line,ri pos.col,.ref (g-2)]
 |.ClassDef _ _ _ _ _ _ _ _ _ _ pos=>[ri pos.line,ri pos.col,.ref (a+5)]
 |_=>[]
def sbS(P:Params)(a:Nat)(s:Stmt):AB:=match s with
 |.ClassDef _ bs _ b0 _ _ _ _ _ _ _=>(match bs with|b::_=>(match uT b with|true=>[]|false=>[.ref (clA P a b0)]) |[]=>[])
 |_=>[]
def agq(P:Params)(a:Nat)(s:Stmt):AA:=match s with
 |.ClassDef _ bs _ b0 _ _ _ _ _ _ _=>(match bs with|b::_=>(match uT b with|true=>[clA P a b0]|false=>[]) |[]=>[])
 |_=>[]
def fold{g:Type}(f:Nat->Nat->Nat->Nat->AN->Stmt->List g):List (Nat×Nat)->AN->AF->List g
 | (a,t)::(a',u)::r,md,s::ss=>f a a' t u md s++fold f ((a',u)::r) (mdO t md s) ss
 |_,_,_=>[]
def K6:List (Nat×Nat)->AN->AF->AN
 | (_,t)::r,md,s::ss=>K6 r (mdO t md s) ss
 |_,md,_=>md
def iu:AN:=sv "__main__" 164
def agr(P:Params)(v:AN):List DictEntry:=
 [enO P "__name__" 165 v,enO P "__doc__" 166 .none,enO P "__package__" 167 .none,enO P "__loader__" 168 (.builtin "__main__.__loader__#opaque"),enO P "__spec__" 169 .none,
  enO P "__annotations__" 170 (.ref 6),enO P "__builtins__" 171 (.ref 4),enO P "__file__" 173 (sv oF 172),enO P "__cached__" 174 .none]
def ents(N:List (Nat×Nat))(b:AF)(P:Params):List DictEntry:=agr P (K6 N iu b)++fold (λa g t u z s=>enS P (λy=>((fold (λz g z z z s=>fnS g s) N iu b).lookup y).getD .none) t u a g s) N iu b
def put{g:Type}:Nat->g->List g->List g
 |_,_,[]=>[]
 |0,x,_::r=>x::r
 |n+1,x,y::r=>y::put n x r
def K7(cs:AB):List Obj:=[ir [],fL .none cs,
 fL (.type "code") [sv "<module>" 182,sv "<module>" 183,sv oF 184,ri 1,ri 0,ri 0,ri 0,ri 0,.ref 11,.bool false,ri 181,.ref 12,.none,.none,.none,.none,ri 185,ri 1,sv oF 186],frO 13 3 iu]
def ags(B:List Obj):List Obj:=B++K7 []
def objs(B:List Obj)(N:List (Nat×Nat))(b:AF)(P:Params):List Obj:=
 let es:=ents N b P
 put 3 (oG es es⁻¹) (B++K7 (fold (λa g z z z s=>cdS a g s) N iu b) ++
  fold (λa z t z q s=>stO P ((fold (λa z z z z s=>agq P a s) N iu b).headD 0) (fold (λa z z z z s=>sbS P a s) N iu b) a t q s) N iu b)
def evs{g:Type}:List g->List g
 |[]=>[]
 |[x]=>[x]
 |x::_::r=>x::evs r
def bt:Nat->List Obj->BT
 |0,_=>.nil
 |_,[]=>.nil
 |n+1,x::r=>.node x (bt n (evs r)) (bt n (evs r.tail))
def nameless(s:Stmt):Bool:=match s with
 |.Assign [.Name n _] _ _=>!(n==("__name__":Str))
 |_=>true
def pick:Nat->AA->List Obj->Frag
 |i,a::r,o::os=>(match Nat.beq a i with|true=>(a,o)::pick (i+1) r os|false=>pick (i+1) (a::r) os)
 |_,_,_=>[]
end HD
def PySem.W.Fast.tw13500820567699901705:PySem.Program:=PySem.Challenge.pw_starsieve_k34_ways_or_apart
theorem PySem.W.Fast.te13500820567699901705:PySem.Challenge.pw_starsieve_k34_ways_or_apart=PySem.W.Fast.tw13500820567699901705:=rfl
namespace HK
open PySem PySem.W PySem.W.Fast
def pw:AK:=PySem.Challenge.pw_starsieve_k34_ways_or_apart
def rl:OpenLaw:=PySem.Challenge.rw_starsieve_k34_ways_or_apart
def NN:List (Nat×Nat):=[(15,187),(15,189),(28,207),(40,223),(52,239),(64,255),(76,271),(76,273),(76,275),(83,282),(90,289),(97,297),(102,303),(109,311),(116,320),(123,331),(130,338),(130,340),(130,342),(130,344),(130,346),(135,352),(142,360),(147,366),(154,373),(161,381),(168,389),(168,391),(175,398),(182,407),(189,418),(196,428),(203,439),(208,445),(208,447),(215,456),(220,462),(227,472),(227,474),(227,476),(227,478),(234,485),(239,491),(246,499),(253,508),(258,514),(265,522),(272,530),(277,536),(284,551),(291,560),(291,562),(298,573),(305,583),(312,590),(319,601),(324,607),(331,615),(338,625),(345,635),(352,647),(357,653),(364,667),(369,673),(376,683),(383,693),(390,702),(397,709),(402,715),(407,721),(414,729),(419,735),(426,748),(433,759),(438,765),(443,771),(450,785)]
def L1(P:Params):List Obj:=HD.objs (boot_heap P).objs.toList NN pw.main.body P
def H1(P:Params):Heap:=⟨⟨L1 P⟩,{}⟩
def T1(P:Params):BT:=HD.bt 12 (L1 P)
def LA(P:Params):List Obj:=HD.ags (boot_heap P).objs.toList
def HA(P:Params):Heap:=⟨⟨LA P⟩,{}⟩
def T0(P:Params):BT:=HD.bt 5 (LA P)
def env:Env:={scope:=pw.main.scope,locals:=mainNs,globals:=mainNs,cells:=[],code:=.ref 13,frame:=-14}
def bE:AF:=behindTheImports pw
def cE:Code:=.body bE env
def p0:Pos:=⟨0,0,0,0⟩
def B:List Frame:=[topFrame p0]
def ann:Option AN:=-(.ref 6)
def qv:AK:={pw with main:={pw.main with body:=pw.main.body.filter HD.nameless}}
def as:AA:=[3,23,24,36,37,48,49,60,61,72,73,81,82,88,89,95,96,100,101,107,108,114,115,121,122,128,129,133,134,140,141,145,146,152,153,159,160,166,167,173,174,180,181,187,188,194,195,201,202,206,207,213,214,218,219,225,226,232,233,237,238,244,245,251,252,256,257,263,264,270,271,275,276,282,283,289,290,296,297,303,304,310,311,317,318,322,323,329,330,336,337,343,344,350,351,355,356,362,363,367,368,374,375,381,382,388,389,395,396,400,401,405,406,412,413,417,418,424,425,431,432,436,437,441,442,448,449]
def K(P:Params):Frag:=HD.pick 0 as (L1 P)
def Xt(s:AI):Bool:=xlAt qv [] s&&recOk (RowW.records rl.row.toRowW) s
def see{g:Type}(_:g):Bool:=true
def primed:(see T1&&see T0&&see H1&&see HA&&see cE&&see B&&see env&&see bE&&see qv&&see K&&see Xt)=true:=by k_qdec
theorem pre(w:World)(os:OsState):topGo treeTable pw w 11 ann 12 ⟨boot_heap w.params,⟨[]⟩,boot_drawn,boot_toks,os⟩ (topStub pw)=-(⟨HA w.params,⟨[]⟩,{},187,os⟩,⟨denote treeTable cE,cE,p0,B⟩):=by have _:=primed;rw[PySem.W.Fast.te15667345088766844465,PySem.W.Fast.te14364793385576792824,PySem.W.Fast.te1032975242618825031,PySem.W.Fast.te8093259214132618727,PySem.W.Fast.te1718297227530528222,PySem.W.Fast.te11892475500146522536];rfl'
theorem block(w:World)(os:OsState):segRun treeTable pw w 11 ann 1 2 ⟨HA w.params,⟨[]⟩,{},187,os⟩ (blockOf bE env cE p0 B)=-(.next,SharedT.abs ⟨T0 w.params,15,{},⟨[]⟩,{},187,os⟩,cE,p0):=by rw[PySem.W.Fast.te14374325043358763698,PySem.W.Fast.te14364793385576792824,PySem.W.Fast.te1032975242618825031,PySem.W.Fast.te8093259214132618727,PySem.W.Fast.te1718297227530528222,PySem.W.Fast.te14938417808399470215,PySem.W.Fast.te16330338443398637341,PySem.W.Fast.te10239294469119128424];rfl'
theorem piece(w:World)(os:OsState):segRunT treeTable pw w 11 ann 1 9000 ⟨T0 w.params,15,{},⟨[]⟩,{},187,os⟩ (piecesOf bE env cE p0 B)=-(.next,⟨T1 w.params,450,{},⟨[]⟩,{},785,os⟩,cE,⟨325,0,343,15⟩):=by rw[PySem.W.Fast.te10110043849684766642,PySem.W.Fast.te14364793385576792824,PySem.W.Fast.te1032975242618825031,PySem.W.Fast.te13069687644243786066,PySem.W.Fast.te14938417808399470215,PySem.W.Fast.te1718297227530528222,PySem.W.Fast.te16330338443398637341,PySem.W.Fast.te10239294469119128424];rfl'
theorem fin(w:World)(os:OsState):topRun treeTable pw w 11 ann 3 (SharedT.abs ⟨T1 w.params,450,{},⟨[]⟩,{},785,os⟩) ⟨doneF .next,cE,⟨325,0,343,15⟩,B⟩=-⟨H1 w.params,⟨[]⟩,{},785,os⟩:=by rw[PySem.W.Fast.te14082659384304107361,PySem.W.Fast.te14364793385576792824,PySem.W.Fast.te1032975242618825031,PySem.W.Fast.te13069687644243786066,PySem.W.Fast.te1718297227530528222,PySem.W.Fast.te14158929756966004236];rfl'
def run(w:World)(os:OsState):topRun treeTable pw w 11 ann (12+(2+(9000+3))) ⟨boot_heap w.params,⟨[]⟩,boot_drawn,boot_toks,os⟩ (topStub pw)=-⟨H1 w.params,⟨[]⟩,{},785,os⟩:=by show go_top (pre w os) (piece_block (block w os) ?_);have h:=piece_app (rest:=[]) (segRun_of (piece w os)) (piece_nil (fin w os));rw[List.append_nil]at h;exact h
def size (w:World):((boot_heap w.params).isNs mainGlobals&&(Array.mk []:Array GenState).size==0,(boot_heap w.params).objs.size,(boot_heap w.params).nsMap mainGlobals "__annotations__")=(true,11,ann):=by rfl'
theorem agt(w:World)(os:OsState):(staticsOk (importedModules pw.main.body) (boot_heap w.params) (H1 w.params)&&namesBound pw (H1 w.params)&&gensDone ⟨H1 w.params,⟨[]⟩,{},785,os⟩&&laidKept (boot_heap w.params) (H1 w.params))=true:=by rw[PySem.W.Fast.te1032975242618825031,PySem.W.Fast.te14158929756966004236,PySem.W.Fast.te5923862056798008813];rfl'
theorem agu(w:World)(os:OsState):openSeen qv [] (importedModules pw.main.body) Xt true ⟨H1 w.params,⟨[]⟩,{},785,os⟩=openGood qv []:=by rw[PySem.W.Fast.te1032975242618825031,PySem.W.Fast.te14158929756966004236,PySem.W.Fast.te5923862056798008813,PySem.W.Fast.te3994408356199485718,PySem.W.Fast.te3154452736318265832,PySem.W.Fast.te4187177175401517315];rfl'
theorem agv(w:World):as.map (H1 w.params).get?=(K w.params).map (λp=>-p.2):=by rw[PySem.W.Fast.te14158929756966004236,PySem.W.Fast.te538113369711794958];rfl'
theorem eAs(P:Params):as=(K P).map (·.1):=by rw[PySem.W.Fast.te538113369711794958];rfl'
def hook:Hook:=kHook K as eAs
def left:LeftO pw qv [] Xt hook.obs hook.val 12000:=by show LeftO.of_pieces (boot_open (by rfl') (!1) (λs=>by rfl')) size run (!1) λw=>funext λos=>?_;exact Prod.ext (agt w os) (Prod.ext (agu w os) (agv w))
end HK
namespace L2
open PySem PySem.Spec PyProof.Rows
def ab:=@PySem.wpAny_bind
def ae:=@Bool.and_eq_true
def af:=@List.length_map
def ag:=@PySem.Heap.get?_push_of_some
def ah:=@List.mem_singleton
def ai:=@List.getElem?_eq_some_iff
def al:=@List.getElem?_eq_getElem
def am:=@List.length_append
def av:=@Nat.le_refl
def aw:=@PySem.wpAny_pure
def ax:=@List.size_toArray
def ay:=@List.mem_append_right
def aE:=@PySem.Heap.lt_size
def aI:=@Option.map_eq_some_iff
def aS:=@List.getElem?_map
def aT:=@PySem.Heap.get?_push_size
def a7:=@List.map_cons
def a8:=@beq_iff_eq
def a9:=@List.mem_append
def ba:=@Option.some.injEq
def bg:=@List.drop_eq_getElem_cons
def bi:=@List.mem_map
def bm:=@List.contains_iff_mem
def bo:=@Nat.lt_of_lt_of_le
def bp:=@List.mem_cons_self
def bq:type_of% @Int.toNat_natCast:=@Int.toNat_natCast
def br:=@List.mem_of_getElem?
def bv:=@Nat.ne_of_lt
def bB:=@Bool.false_ne_true
def bP:=@List.mem_cons
def bS:=@List.mem_cons_of_mem
def bX:=@decide_eq_false
def b3:=@List.all_eq_true
def b4:=@List.getElem?_append_left
def b6:=@List.getD_eq_getElem?_getD
def b9:=@decide_eq_true
def ca:type_of% @List.length_singleton:=@List.length_singleton
def cb:=@Nat.zero_le
def ce:=@List.mem_append_left
def cf:=@Nat.le_trans
def ck:=@Int.eq_ofNat_of_zero_le
def cm:=@List.length_replicate
def cp:=@List.map_map
def cq:=@Option.isSome_iff_exists
def cr:=@PySem.Heap.size_push
def cw:=@List.not_mem_nil
def cy:=@List.map_append
def cK:type_of% @Array.length_toList:=@Array.length_toList
def cS:=@List.findIdx?_eq_some_iff_getElem
def c6:=@List.nodup_cons
def c8:=@List.getElem_mem
def c9:type_of% @List.length_cons:=@List.length_cons
def da:=@List.length_range
def dc:=@decide_eq_true_iff
def de:=@PySem.wpAny_holding
def df:=@Option.some.inj
def dk:=@Nat.le_add_right
def dr:=@List.map_congr_left
def dv:=@of_decide_eq_true
def dy:=@List.length_eq_zero_iff
def dA:=@List.mem_iff_getElem
def dE:=@List.cons.injEq
def dL:=@Bool.or_eq_true
def dP:=@PySem.wpAny_callSpecial?_slot
def dQ:=@PySem.wpAny_mono
def dS:=@beq_eq_false_iff_ne
def d0:=@PySem.W.kia_one
def d3:=@PySem.wpAny_field
def d4:=@List.length_take
def d5:=@Nat.lt_succ_of_lt
def d6:=@List.nodup_nil
def ee:=@PySem.mem_of_lookup
def ef:=@List.length_set
def eh:=@Bool.eq_iff_iff
def eA:=@List.eraseIdx_eq_take_drop_succ
def eD:=@PySem.wpAny_truthy_bool
def eI:=@Array.getElem?_toList
def eJ:=@PySem.F.called_set
def eK:=@List.take_length
def eL:=@List.findIdx?_cons
def eM:=@List.drop_length
def eP:=@Nat.lt_irrefl
def eR:=@List.take_add_one
def eS:=@PyProof.Rows.callWith_type1
def eT:=@PySem.wpAny_pyIter_list
def eW:=@PySem.wpAny_newObj_type
def e6:=@Nat.le_succ
def e7:=@List.length_drop
def e8:=@List.isEmpty_iff
def e9:=@PySem.F.slot_dict_keyiterator_next
def fb:=@congrArg
def fe:=@List.getElem?_append_right
def ff:=@PySem.wpAny_call_entry
def fg:=@PySem.wpAny_setField_rec
def fh:=@PySem.wpAny_seqItems
def fi:=@Nat.pow_le_pow_right
def fk:=@PyProof.Rows.slot_tuple_getitem
def fm:type_of% @List.replicate_succ:=@List.replicate_succ
def fo:=@Nat.ne_of_gt
def fq:=@List.take_of_length_le
def ft:=@Int.emod_lt_of_pos
def fv:=@List.mem_filter
def fw:=@List.forIn_cons
def fx:=@List.dropLast_concat_getLast
def fy:=@List.append_nil
def fA:=@Int.emod_nonneg
def fE:=@PySem.wpAny_typeNameOfWhole_keyiter
def fF:=@PySem.sizeLine_eq
def fN:=@List.foldl_append
def fR:=@PySem.wpAny_passesOwn
def fS:=@True.intro
def fT:=@List.mem_range
def ga:=@PySem.Paired.length
def gc:=@Nat.min_eq_right
def ge:=@Array.getElem?_eq_getElem
def gg:=@PyProof.Rows.F.plain_set_update_loop
def gi:=@PySem.F.slot_tuple_iterator_next
def gl:=@List.length_zip
def gu:=@PySem.F.plainAttrs_list
def gv:=@PySem.wpAny_typeNameOf_keyiter
def gx:=@PySem.wpAny_standAt
def gy:=@PySem.wpAny_comprehension_free
def gE:=@Nat.le_of_lt
def gI:=@List.Perm.refl
def gL:=@Int.zero_add
def gN:=@Bool.not_eq_true'
def gS:=@List.cons_lt_cons_iff
def gT:=@Nat.lt_succ_self
def gV:=@List.any_eq_true
def gX:=@List.cons.inj
def g6:=@PySem.wpAny_assign_Name
def g9:=@PySem.Calls.callWith_builtin
def hG:=@PySem.Walks.list
def hJ:type_of% @List.length_nil:=@List.length_nil
def hU:type_of% @List.flatten_cons:=@List.flatten_cons
abbrev Key:=Sum Int Str
def jh:Key->AN->Bool
 |.inl k,v=>Value.isInt k v
 |.inr x,v=>Value.isStrOf x v
def QJ(w:World):Key->Int
 |.inl k=>hashInt k
 |.inr x=>hashStr w x
def fO:∀{k:Key}{v:AN},jh k v=true->(∃i t,k=Sum.inl i/\v=Value.int i t)\/(∃x t,k=Sum.inr x/\v=Value.str x t)
 |.inl i,v,h=>by
  let(t,e):=Value.isInt_shape (k:=i) (v:=v) h;exact .inl ⟨i,t,rfl,e⟩
 |.inr x,v,h=>by
  let(t,e):=Value.isStrOf_shape (x:=x) (v:=v) h;exact .inr ⟨x,t,rfl,e⟩
def QK(i:Int)(t:Tok):jh (.inl i) (.int i t)=true:=by simp[jh,Value.isInt]
def QL(x:Str)(t:Tok):jh (.inr x) (.str x t)=true:=by simp[jh,Value.isStrOf]
def QM(a b:Int):decide ((Sum.inl a:Key)=Sum.inl b)=(a==b):=by
 by_cases e:a=b
 .subst e;simp
 .have h:¬(Sum.inl a:Key)=Sum.inl b:=λq=>e (Sum.inl.inj q);rw[bX h];exact(dS.mpr e).symm
def QQ(a b:Str):decide ((Sum.inr a:Key)=Sum.inr b)=decide (a=b):=by
 by_cases e:a=b
 .subst e;simp
 .have h:¬(Sum.inr a:Key)=Sum.inr b:=λq=>e (Sum.inr.inj q);rw[bX h,bX e]
def QR(a:Int)(b:Str):decide ((Sum.inl a:Key)=Sum.inr b)=false:=bX (λq=>nomatch q)
def QS(a:Str)(b:Int):decide ((Sum.inr a:Key)=Sum.inl b)=false:=bX (λq=>nomatch q)
def b7(prog:AK)(w:World):PySem.KeyKind prog w Key where
 is:=jh
 hash:=QJ w
 inj:=λv a b z q=>by
  rcases fO z with⟨i,t,rfl,rfl⟩|⟨x,t,rfl,rfl⟩
  .rcases fO q with⟨j,u,rfl,e⟩|⟨y,u,rfl,e⟩
   .injection e with e1 _;rw[e1]
   .exact nomatch e
  .rcases fO q with⟨j,u,rfl,e⟩|⟨y,u,rfl,e⟩
   .exact nomatch e
   .injection e with e1 _;rw[e1]
 byValue:=λk v h=>by
  rcases fO h with⟨i,t,rfl,rfl⟩|⟨x,t,rfl,rfl⟩<;>rfl
 pyHash:=λg h=>by
  rcases fO g with⟨i,t,rfl,rfl⟩|⟨x,t,rfl,rfl⟩
  .exact wpAny_pyHash_int h
  .exact wpAny_pyHash_str h
 eqBool:=λJ g h=>by
  rcases fO J with⟨i,t,rfl,rfl⟩|⟨x,t,rfl,rfl⟩
  .rcases fO g with⟨j,u,rfl,rfl⟩|⟨y,u,rfl,rfl⟩
   .rw[QM]at h;exact wpAny_eqBool_int h
   .rw[QR]at h;exact SeqAt.EqAt.int_str i t y u _ _ _ _ h
  .rcases fO g with⟨j,u,rfl,rfl⟩|⟨y,u,rfl,rfl⟩
   .rw[QS]at h;exact SeqAt.EqAt.str_int x t j u _ _ _ _ h
   .rw[QQ]at h;exact wpAny_eqBool_str h
 «strs»:=λk x t v h=>by
  rcases fO h with⟨i,u,rfl,e⟩|⟨y,u,rfl,e⟩
  .exact nomatch e
  .injection e with e1 _;subst e1;cases v<;>rfl
def QT(prog:AK)(w:World)(i:Int)(t:Tok):(b7 prog w).is (.inl i) (.int i t)=true:=QK i t
def QV(prog:AK)(w:World)(x:Str)(t:Tok):(b7 prog w).is (.inr x) (.str x t)=true:=QL x t
inductive V where
 |non |bl (b:Bool) |int (i:Int) |str (x:Str) |byt (b:Array UInt8) |flt (b:UInt64) |ref (a:AQ) |ty (n:AL)
 deriving DecidableEq
abbrev AR:=List V
def RelV:V->AN->Prop
 |.non,u=>u=Value.none
 |.bl b,u=>u=Value.bool b
 |.int i,u=>∃t,u=Value.int i t
 |.str x,u=>∃t,u=Value.str x t
 |.byt b,u=>∃t,u=Value.bytes b t
 |.flt b,u=>∃t,u=Value.float b t
 |.ref a,u=>u=Value.ref a
 |.ty n,u=>u=Value.type n
abbrev Vals:AR->AB->Prop:=Paired RelV
def Vals.length{xs:AR}{g:AB}(r:Vals xs g):xs⁻¹=g⁻¹:=ga r
def Vals.get:∀{xs:AR}{g:AB}{i:Nat}{x:V},Vals xs g->xs[i]?=-x->∃u,g[i]?=-u/\RelV x u
 |_,_,_,_,.nil,e=>by simp at e
 |_,_,0,_,.cons r _,e=>by simp at e;subst e;exact⟨_,rfl,r⟩
 |_,_,i+1,x,.cons _ t,e=>by
  let(u,h1,h2):=Vals.get (i:=i) (x:=x) t (!!e);exact⟨u,!!h1,h2⟩
def Vals.set{x:V}{u:AN}(r:RelV x u):∀{xs:AR}{g:AB}(i:Nat),Vals xs g->Vals (xs.set i x) (g.set i u)
 |_,_,_,.nil=>.nil
 |_,_,0,.cons _ t=>.cons r t
 |_,_,i+1,.cons q t=>.cons q (Vals.set r i t)
def Vals.append:∀{xs ys:AR}{g q:AB},Vals xs g->Vals ys q->Vals (xs++ys) (g++q)
 |_,_,_,_,.nil,s=>s
 |_,_,_,_,.cons r t,s=>.cons r (Vals.append t s)
def Vals.take:∀{xs:AR}{g:AB}(n:Nat),Vals xs g->Vals (xs.take n) (g.take n)
 |_,_,0,_=>.nil
 |_,_,_+1,.nil=>.nil
 |_,_,n+1,.cons r t=>.cons r (Vals.take n t)
def Vals.drop:∀{xs:AR}{g:AB}(n:Nat),Vals xs g->Vals (xs.drop n) (g.drop n)
 |_,_,0,r=>r
 |_,_,_+1,.nil=>.nil
 |_,_,n+1,.cons _ t=>Vals.drop n t
def RelO:Option V->Option AN->Prop
 |some v,-u=>RelV v u
 |none,none=>True
 |_,_=>False
def KV{κ:Type}:List (κ×V)->List (κ×AN)->Prop:=Paired λ(p:κ×V) (q:κ×AN)=>p.1=q.1/\RelV p.2 q.2
def kV:Key->V
 |.inl i=>.int i
 |.inr x=>.str x
inductive HO where
 |lst (xs:AR)
 |tup (xs:AR)
 |dK (kvs:List (Key×V)) |dT (kvs:List (List Key×V))
 |set (S:Int->Bool) (n:Nat)
 |ins (C dx:AQ) (fs:List (Str×V))
 |own (x:AQ)
 |xd (fs:List (Str×V))
 |met (f x:AQ)
 |rng (lo hi:Int)
 |frz (o:Obj) (u:HO)
 |tbl (ps:Array AN)
 |ext (φ:Heap->Prop)
abbrev Hp:=AQ->Option HO
def upd(H:Hp)(a:AQ)(o:HO):Hp:=λb=>if b=a then some o else H b
def cU{H:Hp}{a:AQ}{o:HO}:upd H a o a=-o:=by unfold upd;rw[if_pos rfl]
def aK{H:Hp}{a b:AQ}{o:HO}(h:b≠a):upd H a o b=H b:=by unfold upd;rw[if_neg h]
def QW{H:Hp}{a:AQ}{o u:HO}:upd (upd H a o) a u=upd H a u:=by funext b;unfold upd;split<;>rfl
def ji{H:Hp}{a b:AQ}{o u:HO}(h:H a=-o)(h':H b=-u)(d:o≠u):a≠b:=by intro e;subst e;rw[h]at h';exact d (df h')
def bH{H:Hp}{a b:AQ}{o:HO}(h:H a=-o)(h':H b=none):a≠b:=by intro e;subst e;rw[h]at h';cases h'
def IsTupX (h:Heap) (a:AQ) (g:Array AN):Prop:=∃o,h.get? a=-o/\(o.cls=.type "tuple"/\o.dict=none)/\∃n,o.data=.seq g n
def IsTupX.tup{h:Heap}{a:AQ}{g:Array AN}(x:IsTupX h a g):IsTup h a g:=let⟨o,e,c,r⟩:=x;⟨o,e,c.1,r⟩
def IsTupX.lt{h:Heap}{a:AQ}{g:Array AN}(x:IsTupX h a g):a<h.objs.size:=let⟨_,e,_⟩:=x;aE e
def IsTupX.new (h:Heap) (g:Array AN):IsTupX (h.push {cls:=.type "tuple",data:=.seq g}) h.objs.size g:=⟨_,aT h rfl,⟨rfl,rfl⟩,0,rfl⟩
section
variable (P:AK) (w:World)
def ObjOk(H:Hp)(h:Heap)(a:AQ):HO->Prop
 |.lst xs=>xs⁻¹<=sizeLine/\∃(g:AB) (n:Nat),Vals xs g/\h.get? a=-{cls:=.type "list",data:=.seq g.toArray n}
 |.tup xs=>xs⁻¹<=sizeLine/\∃g:AB,Vals xs g/\IsTupX h a g.toArray
 |.dK kvs=>kvs⁻¹<=sizeLine/\(a==sysModules)=false/\∃vs,KV kvs vs/\h.DictOf (b7 P w) a vs
 |.dT kvs=>kvs⁻¹<=sizeLine/\(a==sysModules)=false/\∃xs:List (List Key×AQ×AN),
   Paired (λ(p:List Key×V) (q:List Key×AQ×AN)=>p.1=q.1/\H q.2.1=-(.tup (p.1.map kV))/\RelV p.2 q.2.2) kvs xs/\
   ∃o es ep,h.get? a=-o/\o.ExactDict/\o.data=.dict es ep/\es.toList=xs.map (entryOfKey (tupleKind (b7 P w)))/\(xs.map (·.1)).Nodup
 |.set S n=>h.SetOf (intKind P w) a S n
 |.ins C dx fs=>H dx=-(.own a)/\fs⁻¹<=1000/\dx≠a/\h.get? a=-(PySem.W.instObj C dx)/\
   ∃z,h.Ns1 dx z/\(∀f,RelO (fs.lookup f) (z f))/\PySem.Within z (fs.map (·.1))
 |.own _=>∃o,h.get? a=-o
 |.xd fs=>∃z,h.Ns1 a z/\∀f,RelO (fs.lookup f) (z f)
 |.rng lo hi=>∃t u v,h.get? a=-{cls:=.type "range",data:=.fields #[.int lo t,.int hi u,.int 1 v]}
 |.frz o u=>h.get? a=-o/\ObjOk H h a u
 |.tbl ps=>h.get? a=-{cls:=.none,data:=.fields ps}
 |.met f x=>h.get? a=-(PySem.W.methodObj (.ref f) (.ref x))
 |.ext φ=>φ h/\(∃o,h.get? a=-o)/\∀h1 h2:Heap,φ h1->(∀o,h1.get? a=-o->h2.get? a=-o)->φ h2
def HOk(H:Hp)(h:Heap):Prop:=∀a o,H a=-o->ObjOk P w H h a o
end
section
variable {P:AK} {w:World} {H H':Hp} {h h':Heap} {a:AQ} {o:HO}
theorem ObjOk.lt(x:ObjOk P w H h a o):a<h.objs.size:=by
 cases o with
 |lst xs=>let(_,_,_,_,e):=x;exact aE e
 |tup xs=>let(_,_,_,p):=x;exact p.lt
 |dK g=>let(_,_,_,_,o,_,_,e,_):=x;exact aE e
 |dT g=>let(_,_,_,_,o,_,_,e,_):=x;exact aE e
 |set S n=>let(o,_,_,_,e,_):=x;exact aE e
 |ins C dx fs=>let(_,_,_,e,_):=x;exact aE e
 |own y=>let(_,e):=x;exact aE e
 |xd fs=>let(_,(_,_,_,e,_),_):=x;exact aE e
 |rng lo hi=>let(_,_,_,e):=x;exact aE e
 |frz ob u=>let(e,_):=x;exact aE e
 |tbl ps=>exact aE (show h.get? a=-_ from x)
 |met f y=>exact aE (show h.get? a=-_ from x)
 |ext q=>let(_,(_,e),_):=x;exact aE e
theorem Paired.mapP{z J:Type}{F G:z->J->Prop}:∀{g:List z}{q:List J},Paired F g q->(∀a b,F a b->G a b)->Paired G g q
 |_,_,.nil,_=>.nil
 |_,_,.cons r t,f=>.cons (f _ _ r) (Paired.mapP t f)
theorem ObjOk.stay(x:ObjOk P w H h a o)(k:∀b u,(b=a\/H b=-(.own a))->h.get? b=-u->h'.get? b=-u)
  (U:∀b,H b=-(.own a)->H' b=-(.own a)) (Y:∀b xs,H b=-(.tup xs)->H' b=-(.tup xs)):ObjOk P w H' h' a o:=by
 induction o with
 |lst xs=>let(z,g,n,r,e):=x;exact⟨z,g,n,r,k _ _ (.inl rfl) e⟩
 |tup xs=>let(z,g,r,ob,e,c):=x;exact⟨z,g,r,ob,k _ _ (.inl rfl) e,c⟩
 |dK J=>let(z,y,vs,r,ob,es,ep,e,c):=x;exact⟨z,y,vs,r,ob,es,ep,k _ _ (.inl rfl) e,c⟩
 |dT J=>
  let(z,y,xs,r,ob,es,ep,e,c):=x;exact⟨z,y,xs,Paired.mapP r λp q z=>⟨z.1,Y _ _ z.2.1,z.2.2⟩,ob,es,ep,k _ _ (.inl rfl) e,c⟩
 |set S n=>let(ob,es,ep,t,e,c):=x;exact⟨ob,es,ep,t,k _ _ (.inl rfl) e,c⟩
 |ins C dx fs=>
  let(d,z,ne,e,L,(N,es,ep,O,c),r):=x;exact⟨U _ d,z,ne,k _ _ (.inl rfl) e,L,⟨N,es,ep,k _ _ (.inr d) O,c⟩,r⟩
 |own y=>let(ob,e):=x;exact⟨ob,k _ _ (.inl rfl) e⟩
 |xd fs=>let(L,(N,es,ep,e,c),r):=x;exact⟨L,⟨N,es,ep,k _ _ (.inl rfl) e,c⟩,r⟩
 |rng lo hi=>let(t,u,v,e):=x;exact⟨t,u,v,k _ _ (.inl rfl) e⟩
 |frz ob u ih=>let(e,q):=x;exact⟨k _ _ (.inl rfl) e,ih q⟩
 |tbl ps=>
  have e:h.get? a=-{cls:=.none,data:=.fields ps}:=x;change h'.get? a=-{cls:=.none,data:=.fields ps};exact k a _ (.inl rfl) e
 |met f y=>
  have e:h.get? a=-(PySem.W.methodObj (.ref f) (.ref y)):=x;change h'.get? a=-(PySem.W.methodObj (.ref f) (.ref y));exact k a _ (.inl rfl) e
 |ext φ=>let(p,(o,e),st):=x;exact⟨st _ _ p λo q=>k _ _ (.inl rfl) q,⟨o,k _ _ (.inl rfl) e⟩,st⟩
theorem HOk.lt(x:HOk P w H h)(e:H a=-o):a<h.objs.size:=(x a o e).lt
theorem HOk.fresh(x:HOk P w H h)(e:h.objs.size<=a):H a=none:=by
 cases q:H a with
 |none=>rfl
 |some u=>exact absurd (bo (x.lt q) e) (eP _)
theorem HOk.kept(x:HOk P w H h)(k:∀b u,h.get? b=-u->h'.get? b=-u):HOk P w H h':=λa o e=>
 (x a o e).stay (λb u z q=>k b u q) (λz q=>q) λz z q=>q
theorem HOk.laid(x:HOk P w H h)(k:∀b u,h.get? b=-u->h'.get? b=-u)(z:h.objs.size<=a)(new:ObjOk P w (upd H a o) h' a o):HOk P w (upd H a o) h':=λb u e=>by
 have hn:=x.fresh z;by_cases g:b=a
 .subst g;rw[cU]at e;cases e;exact new
 .rw[aK g]at e;exact(x b u e).stay (λc v y q=>k c v q) (λc q=>by rw[aK (bH q hn)];exact q) λc xs q=>by rw[aK (bH q hn)];exact q
end
def Rd(H:Hp)(a:AQ)(u:HO):Prop:=H a=-u\/∃o,H a=-(.frz o u)
def Rd.ok{P:AK}{w:World}{H:Hp}{h:Heap}{a:AQ}{u:HO}(r:Rd H a u)(x:HOk P w H h):ObjOk P w H h a u:=by
 rcases r with r|⟨o,r⟩
 .exact x a u r
 .let(_,q):=x a _ r;exact q
def Mut:Option HO->Prop
 |some (.lst _)=>True
 |some (.dK _)=>True
 |some (.dT _)=>True
 |some (.set _ _)=>True
 |some (.ins _ _ _)=>True
 |some (.ext _)=>True
 |_=>False
section
variable {P:AK} {w:World} {H:Hp} {h h':Heap} {x e:AQ} {o':HO}
theorem HOk.write(ok:HOk P w H h)(O:Mut (H x))(he:e=x\/H e=-(.own x))(k:∀b u,b≠e->h.get? b=-u->h'.get? b=-u)(U:∃u,h'.get? e=-u)
  (new:ObjOk P w (upd H x o') h' x o'):HOk P w (upd H x o') h':=λb u q=>by
 have J:∀c y,H c=-(.own y)->c≠x:=λc y r z=>by subst z;rw[r]at O;exact O
 have L:∀c xs,H c=-(.tup xs)->c≠x:=λc xs r z=>by subst z;rw[r]at O;exact O
 by_cases N:b=x
 .subst N;rw[cU]at q;cases q;exact new
 .rw[aK N]at q;by_cases g:b=e
  .have Y:H b=-(.own x):=by
    rcases he with z|z
    .exact absurd (g.trans z) N
    .rw[g];exact z
   rw[q]at Y;cases Y;let(v,hv):=U;exact⟨v,by rw[g];exact hv⟩
  .show (ok b u q).stay (λc v hc r=>k c v ?_ r) (λc r=>by rw[aK (J c b r)];exact r) λc xs r=>by rw[aK (L c xs r)];exact r
   rcases hc with rfl|hc
   .exact g
   .rintro rfl;rcases he with z|z
    .exact J c b hc z
    .rw[hc]at z;cases z;exact N rfl
end
structure Un(fs ex:List AQ)(H H':Hp)(h h':Heap):Prop where
 keep:∀b o,h.get? b=some o->H b=none->b∉fs->b∉ex->h'.get? b=some o
 slot:∀b o,h.get? b=some o->H b=none->b∈fs->b∉ex->∃sl,h'.get? b=some { o with slots:=sl }
 free:∀b o,h.get? b=some o->H b=none->b∉ex->H' b=none
 there:∀b o,h.get? b=some o->b∉ex->∃o',h'.get? b=some o'
 tups:∀b xs,H b=some (.tup xs)->H' b=some (.tup xs)
 frzs:∀b o u,H b=some (.frz o u)->H' b=some (.frz o u)
 tbls:∀b ps,H b=some (.tbl ps)->∃more,H' b=some (.tbl (ps++more))
section
variable {fs fs' ex ex':List AQ} {H H1 H2:Hp} {h h1 h2 h':Heap} {a x e:AQ} {o:HO}
theorem Un.any(u:Un fs ex H H1 h h1){b:AQ}{ob:Obj}(q:h.get? b=-ob)(n:H b=none)(z:b∉ex):∃J,h1.get? b=-{ob with slots:=J}:=by
 by_cases g:b∈fs
 .exact u.slot b ob q n g z
 .exact ⟨ob.slots,u.keep b ob q n g z⟩
theorem Un.kept(k:∀b u,h.get? b=-u->h'.get? b=-u):Un fs ex H H h h':=
 ⟨λb ob q z z z=>k b ob q,λb ob q z z z=>⟨ob.slots,k b ob q⟩,λz z z n z=>n,λb ob q z=>⟨ob,k b ob q⟩,λz z q=>q,λz z z q=>q,λz ps q=>⟨#[],by rw[q];simp⟩⟩
theorem Un.refl:Un fs ex H H h h:=Un.kept λz z q=>q
theorem Un.laid(k:∀b u,h.get? b=-u->h'.get? b=-u)(g:h.objs.size<=a)(hn:H a=none):Un fs ex H (upd H a o) h h' where
 keep:=λb u q z z z=>k b u q
 slot:=λb u q z z z=>⟨u.slots,k b u q⟩
 free:=λb u q n z=>by rw[aK (bv (bo (aE q) g))];exact n
 there:=λb u q z=>⟨u,k b u q⟩
 tups:=λb xs q=>by rw[aK (bH q hn)];exact q
 frzs:=λb u xs q=>by rw[aK (bH q hn)];exact q
 tbls:=λb ps q=>⟨#[],by rw[aK (bH q hn),q];simp⟩
theorem Un.write(J:Mut (H x))(he:e=x\/H e=-(.own x))(k:∀b u,b≠e->h.get? b=-u->h'.get? b=-u)(L:∃u,h'.get? e=-u):Un fs ex H (upd H x o) h h':=by
 have U:∀b,H b=none->b≠x:=λb n z=>by subst z;rw[n]at J;exact J
 have O:∀b,H b=none->b≠e:=λb n z=>by
  subst z;rcases he with r|r
  .exact U b n r
  .rw[n]at r;cases r
 have N:∀b u,H b=-u->¬Mut (-u)->b≠x:=λb u q nm z=>by subst z;rw[q]at J;exact nm J
 show⟨λb u q n y y=>k b u (O b n) q,λb u q n y y=>⟨u.slots,k b u (O b n) q⟩,λb u q n y=>by rw[aK (U b n)];exact n,λb u q y=>?_,
  λb xs q=>by rw[aK (N b _ q λz=>z)];exact q,λb u xs q=>by rw[aK (N b _ q λz=>z)];exact q,λb ps q=>⟨#[],by rw[aK (N b _ q λz=>z),q];simp⟩⟩
 by_cases g:b=e
 .subst g;exact L
 .exact ⟨u,k b u g q⟩
end
def trk(h:Heap)(H:Hp):List AQ:=(List.range h.objs.size).filter λa=>(H a).isSome
def fP(h:Heap)(H:Hp):Heap:=PySem.W.hideAll h (trk h H)
def QX(h:Heap)(H:Hp):(fP h H).objs.size=h.objs.size:=PySem.W.hideAll_size _ _
def QZ{h:Heap}{H:Hp}{b:AQ}{o:Obj}(e:h.get? b=-o)(n:H b=none):(fP h H).get? b=-o:=
 PySem.W.hideAll_get _ e λg=>by
  have q:(H b).isSome=true:=(fv.mp g).2;rw[n]at q;simp at q
def Q0{h:Heap}{H:Hp}{b:AQ}{o:Obj}(e:(fP h H).get? b=-o):h.get? b=-o/\H b=none:=by
 have g:h.get? b=-o:=PySem.W.of_hideAll (trk h H) e;show⟨g,?_⟩;cases q:H b with
 |none=>rfl
 |some x=>
  have J:b∈trk h H:=fv.mpr ⟨fT.mpr (aE g),by simp[q]⟩;have z:(fP h H).get? b=none:=PySem.W.hideAll_none (trk h H) J;rw[z]at e;cases e
def Q3(g h:Heap)(L:AQ):AC:=(List.range h.objs.size).filterMap λa=>if a=L\/(g.get? a).isSome=true then none else(h.get? a).map λo=>(a,o)
def rest(g h:Heap)(L d:AQ):AC:=(Q3 g h L).filter λp=>decide (p.1≠d)
structure Mod(K:PF)(mg:AH)(base:Heap):Prop where
 kin:K.In base
 glob:base.Ns mainGlobals mg
 blt:∃mb,base.Ns builtinsNs mb/\∀x:Str,x≠"__name__"->mb x=bootBuiltins x
 nolimit:base.NoLimit
structure Cx where
 prog:AK
 w:World
 K:PF
 mg:Str->Option AN
 base:Heap
 A:AM
 N:AD
 s₀:AI
 H₀:Hp
 env:Env
 outer:List Env
 stack:List Env
 ex:List AQ
 fn:Str->Bool
 calm:Bool
 pn:AC
 xe:AN->AI->Prop
def frs(l:List Env):List AQ:=l.filterMap (·.frame)
abbrev Cx.fs(X:Cx):List AQ:=frs X.outer
def Vis(g:Scope)(x:Str):Prop:=g.names.lookup x=-.local\/g.names.lookup x=-.cell\/g.names.lookup x=-.free
def Loc(g:Scope)(x:Str):Prop:=g.names.lookup x=-.local\/g.names.lookup x=-.cell
def Look(env:Env)(h:Heap)(m:AH)(x:Str)(u:AN):Prop:=
 (env.kindOf x=-.local/\m x=-u)\/((env.kindOf x=-.cell\/env.kindOf x=-.free)/\∃c,env.cells.lookup x=-c/\h.IsCell c (-u))
structure Cx.Ok(X:Cx):Prop where
 mod:Mod X.K X.mg X.base
 kind:X.env.scope.kind=.function
 glob:X.env.globals=mainGlobals
 blt:X.env.builtins=builtinsNs
 above:X.s₀.heap.objs.size<=X.env.locals
 inj:∀x y c,X.env.cells.lookup x=some c->X.env.cells.lookup y=some c->x=y
 has:∀x,(X.env.kindOf x=some .cell\/X.env.kindOf x=some .free)->∃c,X.env.cells.lookup x=some c
 cab:∀x c,X.fn x=true->X.env.cells.lookup x=some c->X.s₀.heap.objs.size<=c
 hd:X.calm=true->X.A.handled=none
 frames:X.A.frames=some X.stack
 stk:X.stack=X.outer\/(X.stack=X.env::X.outer/\X.env.frame=some X.env.locals)
 exf:∀b∈X.ex,b≠X.env.locals/\∀x c,X.env.cells.lookup x=some c->c≠b
 bs:∀b o,X.base.get? b=some o->X.s₀.heap.get? b=some o/\X.H₀ b=none
 bsz:X.base.objs.size<=X.s₀.heap.objs.size
 noex:∀b o,X.base.get? b=some o->b∉X.ex
 exfs:∀b∈X.ex,b∉X.fs
 funs:X.s₀.heap.FunFrames X.base X.outer
 frf:∀b∈X.fs,X.H₀ b=none
structure Inv(X:Cx)(p9:AC)(Y:List (Option V))(H:Hp)(s:AI):Prop where
 ok:X.Ok
 os:s.os=X.s₀.os
 bare:AllBare s.gens
 base:Un X.fs X.ex X.H₀ H X.s₀.heap s.heap
 loc:∃m,s.heap.Ns X.env.locals m/\∀(i:Nat)(x:Str)(v:V),X.N[i]?=some x->Y[i]?=some (some v)->Vis X.env.scope x->∃u,RelV v u/\Look X.env s.heap m x u
 cell:∀x c,X.env.cells.lookup x=some c->∃v,s.heap.IsCell c v
 free:H X.env.locals=none
 freeC:∀x c,X.env.cells.lookup x=some c->H c=none
 pin:∀p∈X.pn++p9,s.heap.get? p.1=some p.2/\H p.1=none/\p.1≠X.env.locals/\p.1∉X.fs/\∀v,p.2.data≠.cell v
 hok:HOk X.prog X.w H s.heap
 len:Y.length=X.N.length
section
variable {X:Cx} {p9:AC} {σ:List (Option V)} {H H':Hp} {s:AI} {h':Heap}
theorem Cx.Ok.nofr(ok:X.Ok){b:AQ}{o:Obj}(e:X.base.get? b=-o):b∉X.fs:=λg=>by
 have:=(ok.funs.mem g).1;rw[e]at this;cases this
theorem Inv.bs(I:Inv X p9 σ H s):∀b o,X.base.get? b=-o->s.heap.get? b=-o/\H b=none:=λb o e=>
 ⟨I.base.keep b o (I.ok.bs b o e).1 (I.ok.bs b o e).2 (I.ok.nofr e) (I.ok.noex b o e),I.base.free b o (I.ok.bs b o e).1 (I.ok.bs b o e).2 (I.ok.noex b o e)⟩
theorem Inv.bk(I:Inv X p9 σ H s):∀b o,X.base.get? b=-o->s.heap.get? b=-o:=λb o e=>(I.bs b o e).1
theorem Inv.mod(I:Inv X p9 σ H s):Mod X.K X.mg X.base:=I.ok.mod
theorem Inv.kIn(I:Inv X p9 σ H s):X.K.In s.heap:=I.ok.mod.kin.keeps I.bk
theorem Inv.lt(I:Inv X p9 σ H s):X.env.locals<(~~~s):=let⟨_,hn,_⟩:=I.loc;hn.lt
theorem Inv.sz(I:Inv X p9 σ H s):X.s₀.heap.objs.size<=(~~~s):=cf I.ok.above (gE I.lt)
theorem Inv.nofs(I:Inv X p9 σ H s){a:AQ}(h:(~~~s)<=a):a∉X.fs:=λg=>by
 let(_,o,q,_):=I.ok.funs.mem g;exact absurd (bo (aE q) (cf I.sz h)) (eP _)
theorem Inv.cne(I:Inv X p9 σ H s):∀x c,X.env.cells.lookup x=-c->c≠X.env.locals:=λx c e z=>by
 let(v,o,L,J):=I.cell x c e;let(m,(o',es,ep,q,g,_),_):=I.loc;rw[z,q]at L;cases L;rw[g]at J;cases J
theorem Inv.funs(I:Inv X p9 σ H s):s.heap.FunFrames X.base X.outer:=by
 have all:∀(l:List Env),(∀b∈frs l,b∈X.fs)->X.s₀.heap.FunFrames X.base l->s.heap.FunFrames X.base l:=by
  intro l;induction l with
  |nil=>intro _ _;trivial
  |cons env r ih=>
   intro hs hl;let(O,(L,o,J,hn,U,N),Y):=hl;have g:L∈X.fs:=hs L (by unfold frs;rw[List.filterMap_cons,J];exact bp);let(sl,e):=I.base.slot L o U (I.ok.frf L g) g λz=>I.ok.exfs L z g;exact⟨O,⟨L,_,J,hn,e,N⟩,ih (λb q=>hs b (by unfold frs;rw[List.filterMap_cons,J];exact bS _ q)) Y⟩
 exact all X.outer (λy q=>q) I.ok.funs
theorem Inv.stack(I:Inv X p9 σ H s):s.heap.FunFrames X.base X.stack:=by
 rcases I.ok.stk with e|⟨e,g⟩
 .rw[e];exact I.funs
 .rw[e];let(m,hn,_):=I.loc;show .cons (by rw[I.ok.kind];decide) g hn ?_ I.funs;exact Heap.get?_none_of_le (cf I.ok.bsz I.ok.above)
theorem Inv.stkSub(I:Inv X p9 σ H s):∀b∈frs X.stack,b∈X.env.locals::X.fs:=λb g=>by
 rcases I.ok.stk with e|⟨e,q⟩
 .rw[e]at g;exact bS _ g
 .rw[e]at g;unfold frs at g;rw[List.filterMap_cons,q]at g;exact g
theorem Inv.stkFree(I:Inv X p9 σ H s):∀b∈frs X.stack,H b=none:=λb g=>by
 rcases bP.mp (I.stkSub b g) with e|g
 .rw[e];exact I.free
 .let(_,o,q,_):=I.ok.funs.mem g;exact I.base.free b o q (I.ok.frf b g) λz=>I.ok.exfs b z g
theorem Inv.step{g':Array GenState}{t':Nat}{d':Drawn}{ch:List AQ}(I:Inv X p9 σ H s)
  (L:∀b∈ch,(b∈X.ex\/X.s₀.heap.objs.size<=b)/\b≠X.env.locals/\(∀x c,X.env.cells.lookup x=-c->c≠b)/\∀p∈X.pn++p9,p.1≠b)
  (keep:∀b o,b≠X.env.locals->b∉X.fs->b∉ch->s.heap.get? b=-o->H b=none->h'.get? b=-o)
  (slot:∀b o,b≠X.env.locals->b∈X.fs->b∉ch->s.heap.get? b=-o->H b=none->∃sl,h'.get? b=-{o with slots:=sl}) (free:∀b o,b∉ch->s.heap.get? b=-o->H b=none->H' b=none)
  (there:∀b o,b∉ch->s.heap.get? b=-o->∃o',h'.get? b=-o')
  (tups:∀b xs,H b=-(.tup xs)->H' b=-(.tup xs)) (frzs:∀b o u,H b=-(.frz o u)->H' b=-(.frz o u)) (tbls:∀b ps,H b=-(.tbl ps)->∃more,H' b=-(.tbl (ps++more)))
  (ns:∀m,s.heap.Ns X.env.locals m->h'.Ns X.env.locals m) (hok:HOk X.prog X.w H' h') (hg:AllBare g'):
  Inv X p9 σ H' {s with heap:=h',gens:=g',drawn:=d',toks:=t'}:=by
 have neL:∀b o,X.s₀.heap.get? b=-o->b≠X.env.locals:=λb o e=>bv (bo (aE e) I.ok.above);have U:∀b o,X.s₀.heap.get? b=-o->b∉X.ex->b∉ch:=λb o e g Y=>by
  rcases(L b Y).1 with z|z
  .exact g z
  .exact absurd (bo (aE e) z) (eP _)
 have J:∀x c,X.env.cells.lookup x=-c->∀v,s.heap.IsCell c v->h'.IsCell c v:=λx c e v zZ=>by
  let(o,ho,hd):=zZ;have N:c∉ch:=λz=>(L c z).2.2.1 x c e rfl;by_cases hc:c∈X.fs
  .let(sl,q):=slot c o (I.cne x c e) hc N ho (I.freeC x c e);exact⟨_,q,hd⟩
  .exact ⟨o,keep c o (I.cne x c e) hc N ho (I.freeC x c e),hd⟩
 show⟨I.ok,I.os,hg,⟨λb o e n Y g=>?_,λb o e n Y g=>?_,λb o e n g=>?_,λb o e g=>?_,λb xs e=>tups b xs (I.base.tups b xs e),λb o xs e=>frzs b o xs (I.base.frzs b o xs e),λb ps e=>?_⟩,?_,λx c e=>?_,?_,λx c e=>?_,λp hp=>?_,hok,I.len⟩
 .exact keep b o (neL b o e) Y (U b o e g) (I.base.keep b o e n Y g) (I.base.free b o e n g)
 .let(sl,O):=I.base.slot b o e n Y g;let(sl',e2):=slot b _ (neL b o e) Y (U b o e g) O (I.base.free b o e n g);exact⟨sl',e2⟩
 .let(o',O):=I.base.there b o e g;exact free b o' (U b o e g) O (I.base.free b o e n g)
 .let(o',O):=I.base.there b o e g;exact there b o' (U b o e g) O
 .let(m1,O):=I.base.tbls b ps e;let(m2,e2):=tbls b _ O;exact⟨m1++m2,by rw[e2,Array.append_assoc]⟩
 .let(m,hn,hl):=I.loc;show⟨m,ns m hn,λi x v O e2 e3=>?_⟩;let(u,r,l):=hl i x v O e2 e3;show⟨u,r,?_⟩;rcases l with l|⟨k,c,e,z⟩
  .exact .inl l
  .exact .inr ⟨k,c,e,J x c e _ z⟩
 .let(v,z):=I.cell x c e;exact⟨v,J x c e v z⟩
 .let(m,(o,_,_,ho,_),_):=I.loc;exact free _ o (λz=>(L _ z).2.1 rfl) ho I.free
 .let(v,o,ho,hd):=I.cell x c e;exact free c o (λz=>(L c z).2.2.1 x c e rfl) ho (I.freeC x c e)
 .let(e,n,ne,nf,d):=I.pin p hp;have N:p.1∉ch:=λz=>(L p.1 z).2.2.2 p hp rfl;exact⟨keep p.1 p.2 ne nf N e n,free p.1 p.2 N e n,ne,nf,d⟩
theorem Inv.un{t':Nat}(I:Inv X p9 σ H s)(u:Un X.fs [] H H' s.heap h')(L:HOk X.prog X.w H' h'):Inv X p9 σ H' {s with heap:=h',toks:=t'}:=by
 let(m,(o,es,ep,N,r),_):=id I.loc;let(sl,O):=u.any N I.free (!2);exact I.step (g':=s.gens) (d':=s.drawn) (ch:=[]) (λy z=>nomatch z) (λb o y J y e n=>u.keep b o e n J (!2)) (λb o y J y e n=>u.slot b o e n J (!2)) (λb o y e n=>u.free b o e n (!2)) (λb o y e=>u.there b o e (!2)) u.tups u.frzs u.tbls (λm' U=>by
  let(o',es',q,g,Y):=U;rw[N]at g;cases g;exact⟨_,es',q,O,Y⟩) L I.bare
theorem Inv.call{g':Array GenState}{t':Nat}{d':Drawn}{ch:List AQ}(I:Inv X p9 σ H s)(u:Un (frs X.stack) ch H H' s.heap h')(N:HOk X.prog X.w H' h')(Y:AllBare g')
  (g:∀b∈ch,(b∈X.ex\/X.s₀.heap.objs.size<=b)/\b≠X.env.locals/\(∀x c,X.env.cells.lookup x=-c->c≠b)/\∀p∈X.pn++p9,p.1≠b):
  Inv X p9 σ H' {s with heap:=h',gens:=g',drawn:=d',toks:=t'}:=by
 let(m,(o,es,ep,O,r),_):=id I.loc;let(sl,L):=u.any O I.free λz=>(g _ z).2.1 rfl;exact I.step (ch:=ch) g (λb o L U hc e n=>u.keep b o e n (λz=>(bP.mp (I.stkSub b z)).elim L U) hc) (λb o y y hc e n=>u.any e n hc) (λb o hc e n=>u.free b o e n hc) (λb o hc e=>u.there b o e hc) u.tups u.frzs u.tbls (λm' hm=>by
  let(o',es',J,q,r'):=hm;rw[O]at q;cases q;exact⟨_,es',J,L,r'⟩) N Y
theorem Inv.turned{t':Nat}{it:AQ}(I:Inv X p9 σ H s)(k:∀b o,b≠it->s.heap.get? b=-o->h'.get? b=-o)(hn:H it=none)(J:it≠X.env.locals)
  (h1:it∈X.ex\/X.s₀.heap.objs.size<=it) (h2:∀x c,X.env.cells.lookup x=-c->c≠it) (L:∀p∈X.pn++p9,p.1≠it):Inv X p9 σ H {s with heap:=h',toks:=t'}:=by
 have g:∀b u,H b=-u->b≠it:=λb u e z=>by rw[z,hn]at e;cases e
 show I.step (g':=s.gens) (d':=s.drawn) (ch:=[it]) (λb N=>?_) (λb o y y hc e y=>k b o (λz=>hc (by simp[z])) e) (λb o y y hc e y=>⟨o.slots,k b o (λz=>hc (by simp[z])) e⟩) (λy y y y n=>n)
  (λb o hc e=>⟨o,k b o (λz=>hc (by simp[z])) e⟩) (λy y e=>e) (λy y y e=>e) (λb ps e=>⟨#[],by rw[e];simp⟩) (λm O=>?_) (λb u e=>?_) I.bare
 .have e:b=it:=by simpa using N
  subst e;exact⟨h1,J,h2,L⟩
 .let(o,es,ep,U,r):=O;exact⟨o,es,ep,k _ o (Ne.symm J) U,r⟩
 .show (I.hok b u e).stay (λc v hc q=>k c v ?_ q) (λy q=>q) λy y q=>q;rcases hc with z|z
  .rw[z];exact g b u e
  .exact g c _ z
theorem Inv.tok(I:Inv X p9 σ H s)(t:Nat):Inv X p9 σ H {s with toks:=t}:=I.un (h':=s.heap) (t':=t) Un.refl I.hok
theorem Inv.kept{t':Nat}(I:Inv X p9 σ H s)(k:∀b u,s.heap.get? b=-u->h'.get? b=-u):Inv X p9 σ H {s with heap:=h',toks:=t'}:=I.un (Un.kept k) (I.hok.kept k)
theorem Inv.laid{a:AQ}{o:HO}{t':Nat}(I:Inv X p9 σ H s)(k:∀b u,s.heap.get? b=-u->h'.get? b=-u)(g:(~~~s)<=a)(new:ObjOk X.prog X.w (upd H a o) h' a o):
  Inv X p9 σ (upd H a o) {s with heap:=h',toks:=t'}:=I.un (Un.laid k g (I.hok.fresh g)) (I.hok.laid k g new)
theorem Inv.write{x e:AQ}{o:HO}{t':Nat}(I:Inv X p9 σ H s)(q:Mut (H x))(he:e=x\/H e=-(.own x))(k:∀b u,b≠e->s.heap.get? b=-u->h'.get? b=-u)(g:∃u,h'.get? e=-u)
  (new:ObjOk X.prog X.w (upd H x o) h' x o):Inv X p9 σ (upd H x o) {s with heap:=h',toks:=t'}:=I.un (Un.write q he k g) (I.hok.write q he k g new)
theorem Inv.pins_of{g:AC}(I:Inv X p9 σ H s)(h:∀p∈g,s.heap.get? p.1=-p.2/\H p.1=none/\p.1≠X.env.locals/\p.1∉X.fs/\∀v,p.2.data≠.cell v):Inv X g σ H s:=
 ⟨I.ok,I.os,I.bare,I.base,I.loc,I.cell,I.free,I.freeC,λp q=>(a9.mp q).elim (λz=>I.pin p (ce _ z)) (h p),I.hok,I.len⟩
theorem Be{N:AD}(z:N.Nodup){i j:Nat}{x:Str}(a:N[i]?=-x)(b:N[j]?=-x):i=j:=by let(h1,g):=ai.mp a;let(h2,q):=ai.mp b;exact(List.getElem_inj z).mp (g.trans q.symm)
theorem Q4{M:Model}{A:AM}{E:AG}{i:Nat}{x:Str}{v:V}{u:AN}{Q:Unit->AI->Prop}(I:Inv X p9 σ H s)(hN:X.N.Nodup)(hi:X.N[i]?=-x)(L:Loc X.env.scope x)(r:RelV v u)
  (h:∀s',Inv X p9 (σ.set i (-v)) H s'->(∃a,Heap.SameBut a s.heap s'.heap/\(a=X.env.locals\/X.env.cells.lookup x=-a))->Q () s') (hf:X.fn x=true\/X.env.scope.names.lookup x=-.local:=by first|exact .inl rfl|exact .inr rfl|assumption):wpAny M A (storeName X.env x u) Q E s:=by
 let(m,hn,hl):=id I.loc;have hcls:(X.env.scope.kind==.class||(X.env.scope.kind==.module&&X.env.locals != X.env.globals))=false:=by rw[I.ok.kind];rfl
 have U:i<σ.length:=by rw[I.len];exact(ai.mp hi).1
 have cne:=I.cne;have J:∀{a:AQ}{h':Heap},(∃o,s.heap.get? a=-o/\H a=none)->Heap.SameBut a s.heap h'->HOk X.prog X.w H h':=λ{a h'} ha hs b ob e=>by
  let(_,_,N):=ha;show(I.hok b ob e).stay (λc w' hc q=>(hs.2 c ?_).trans q) (λt q=>q) λt t q=>q;rintro rfl;rcases hc with rfl|hc
  .rw[N]at e;cases e
  .rw[N]at hc;cases hc
 rcases L with Y|Y
 .show wpAny_storeName_local Y hn (λh' hn' hs=>?_) hcls;let(oL,_,_,hoL,_):=id hn;show h _ ⟨I.ok,I.os,I.bare,⟨λb o e n hb L=>?_,λb o e n hb L=>?_,I.base.free,λb o e L=>?_,I.base.tups,I.base.frzs,I.base.tbls⟩,⟨_,hn',λj y v' g O e3=>?_⟩,λy c e=>?_,I.free,I.freeC,λp hp=>?_,J ⟨oL,hoL,I.free⟩ hs,!!I.len⟩ ⟨_,hs,.inl rfl⟩
  .exact (hs.2 b (bv (bo (aE e) I.ok.above))).trans (I.base.keep b o e n hb L)
  .let(sl,g):=I.base.slot b o e n hb L;exact⟨sl,(hs.2 b (bv (bo (aE e) I.ok.above))).trans g⟩
  .let(o',g):=I.base.there b o e L;exact⟨o',(hs.2 b (bv (bo (aE e) I.ok.above))).trans g⟩
  .by_cases hj:j=i
   .subst hj;rw[hi]at g;cases g;rw[List.getElem?_set_self U]at O;cases O;exact⟨u,r,.inl ⟨Y,!2⟩⟩
   .rw[List.getElem?_set_ne (Ne.symm hj)]at O;let(u',r',q):=hl j y v' g O e3;show⟨u',r',?_⟩;rcases q with⟨k,e⟩|⟨k,c,e,z⟩
    .show .inl ⟨k,?_⟩;have:y≠x:=λe=>hj (Be hN g (e ▸ hi));simp[this,e]
    .exact .inr ⟨k,c,e,z.sameBut hs (cne y c e)⟩
  .let(w',z):=I.cell y c e;exact⟨w',z.sameBut hs (cne y c e)⟩
  .let(e,n,ne,nf,d):=I.pin p hp;exact⟨(hs.2 p.1 ne).trans e,n,ne,nf,d⟩
 .have hfn:X.fn x=true:=by
   rcases hf with z|z
   .exact z
   .rw[z]at Y;cases Y
  let(c,hc):=I.ok.has x (.inl Y);let(w',z):=I.cell x c hc;show wpAny_storeName_cell I.ok.kind Y hc z (λh' hc' hs=>?_);let(oc,hoc,hocd):=id z;show h {s with heap:=h'} ⟨I.ok,I.os,I.bare,⟨λb o e n hb L=>?_,λb o e n hb L=>?_,I.base.free,λb o e L=>?_,I.base.tups,I.base.frzs,I.base.tbls⟩,⟨m,hn.sameBut hs (Ne.symm (cne x c hc)),λj y v' g O e3=>?_⟩,λy c' e=>?_,I.free,I.freeC,λp hp=>?_,J ⟨oc,hoc,I.freeC x c hc⟩ hs,!!I.len⟩ ⟨c,hs,.inr hc⟩
  .exact (hs.2 b (bv (bo (aE e) (I.ok.cab x c hfn hc)))).trans (I.base.keep b o e n hb L)
  .let(sl,g):=I.base.slot b o e n hb L;exact⟨sl,(hs.2 b (bv (bo (aE e) (I.ok.cab x c hfn hc)))).trans g⟩
  .let(o',g):=I.base.there b o e L;exact⟨o',(hs.2 b (bv (bo (aE e) (I.ok.cab x c hfn hc)))).trans g⟩
  .by_cases hj:j=i
   .subst hj;rw[hi]at g;cases g;rw[List.getElem?_set_self U]at O;cases O;exact⟨u,r,.inr ⟨.inl Y,c,hc,hc'⟩⟩
   .rw[List.getElem?_set_ne (Ne.symm hj)]at O;let(u',r',q):=hl j y v' g O e3;show⟨u',r',?_⟩;rcases q with q|⟨k,c',e,z'⟩
    .exact .inl q
    .show .inr ⟨k,c',e,z'.sameBut hs ?_⟩;rintro rfl;exact hj (Be hN g (I.ok.inj _ _ _ e hc ▸ hi))
  .by_cases hcc:c'=c
   .subst hcc;exact⟨_,hc'⟩
   .let(w2,z2):=I.cell y c' e;exact⟨w2,z2.sameBut hs hcc⟩
  .let(e,n,ne,nf,d):=I.pin p hp;show⟨(hs.2 p.1 ?_).trans e,n,ne,nf,d⟩;intro q;rw[q,hoc]at e;have q':oc=p.2:=df e;exact d w' (by rw[<-q'];exact hocd)
theorem jk{M:Model}{A:AM}{E:AG}{i:Nat}{x:Str}{v:V}{u:AN}{Q:Unit->AI->Prop}(I:Inv X p9 σ H s)(q:X.N.Nodup)(hi:X.N[i]?=-x)(J:Loc X.env.scope x)(r:RelV v u)
  (h:∀s',Inv X p9 (σ.set i (-v)) H s'->Q () s') (z:X.fn x=true\/X.env.scope.names.lookup x=-.local:=by first|exact .inl rfl|exact .inr rfl|assumption):wpAny M A (storeName X.env x u) Q E s:=
 Q4 I q hi J r (λs' g y=>h s' g) z
theorem Inv.call'{s':AI}{ch:List AQ}(I:Inv X p9 σ H s)(J:s'.os=s.os)(u:Un (frs X.stack) ch H H' s.heap s'.heap)(q:HOk X.prog X.w H' s'.heap)(z:AllBare s'.gens)
  (g:∀b∈ch,(b∈X.ex\/X.s₀.heap.objs.size<=b)/\b≠X.env.locals/\(∀x c,X.env.cells.lookup x=-c->c≠b)/\∀p∈X.pn++p9,p.1≠b):Inv X p9 σ H' s':=by
 let(h',g',d',t',o'):=s';have e:o'=s.os:=J;subst e;exact I.call (g':=g') (t':=t') (d':=d') u q z g
end
abbrev XK:=AN->Option AQ->Hp->Prop
abbrev St:=List (Option V)
abbrev VK:=V->Hp->Prop
abbrev TE:=St->Hp->VK->Prop
abbrev TT:=St->Hp->(Bool->Hp->Prop)->Prop
abbrev TA:=St->Hp->(AR->Hp->Prop)->Prop
structure Ends where
 nx:St->Hp->Prop
 rt:VK
 bk:St->Hp->Prop:=λz z=>False
 ct:St->Hp->Prop:=λz z=>False
abbrev TS:=Ends->St->Hp->Prop
def EP(X:Cx)(p9:AC)(Y:St)(Q:VK)(u:AN)(s':AI):Prop:=∃v H',Inv X p9 Y H' s'/\RelV v u/\Q v H'
def TP(X:Cx)(p9:AC)(Y:St)(Q:Bool->Hp->Prop)(b:Bool)(s':AI):Prop:=∃H',Inv X p9 Y H' s'/\Q b H'
def AP(X:Cx)(p9:AC)(Y:St)(Q:AR->Hp->Prop)(g:AB)(s':AI):Prop:=∃vs H',Inv X p9 Y H' s'/\Vals vs g/\Q vs H'
def SP(X:Cx)(p9:AC)(D:Ends)(f:Flow)(s':AI):Prop:=
 match f with
 |.next=>∃g H',Inv X p9 g H' s'/\D.nx g H'
 |.brk=>∃g H',Inv X p9 g H' s'/\D.bk g H'
 |.cont=>∃g H',Inv X p9 g H' s'/\D.ct g H'
 |.ret u=>∃v g H',Inv X p9 g H' s'/\RelV v u/\D.rt v H'
def PE(X:Cx)(e:AO)(t:TE):Prop:=
 ∀(p9:AC)(s:AI)(Y:St)(H:Hp)(Q:VK),Inv X p9 Y H s->t Y H Q->↥X (eval e X.env) (EP X p9 Y Q) X.xe s
def PT(X:Cx)(e:AO)(t:TT):Prop:=
 ∀(p9:AC)(s:AI)(Y:St)(H:Hp)(Q:Bool->Hp->Prop),Inv X p9 Y H s->t Y H Q->↥X (isTrue e X.env (eval e X.env)) (TP X p9 Y Q) X.xe s
def PW(X:Cx)(e:AO)(t:TT):Prop:=
 ∀(whole:Sem AN)(p9:AC)(s:AI)(Y:St)(H:Hp)(Q:Bool->Hp->Prop),Inv X p9 Y H s->t Y H Q->↥X (isTrue e X.env whole) (TP X p9 Y Q) X.xe s
def PW.pt{X:Cx}{e:AO}{t:TT}(h:PW X e t):PT X e t:=h _
def PA(X:Cx)(es:AE)(t:TA):Prop:=
 ∀(pos:Pos)(p9:AC)(s:AI)(Y:St)(H:Hp)(Q:AR->Hp->Prop),Inv X p9 Y H s->t Y H Q->↥X (spliced (backTo pos (starEach es X.env))) (AP X p9 Y Q) X.xe s
def PS(X:Cx)(st:Stmt)(t:TS):Prop:=
 ∀(p9:AC)(s:AI)(Y:St)(H:Hp)(D:Ends),Inv X p9 Y H s->t D Y H->↥X (exec st X.env) (SP X p9 D) X.xe s
def PSs(X:Cx)(st:AF)(t:TS):Prop:=
 ∀(p9:AC)(s:AI)(Y:St)(H:Hp)(D:Ends),Inv X p9 Y H s->t D Y H->↥X (execs st X.env) (SP X p9 D) X.xe s
def thn{q:Type}{t:Sem q}{Q g:q->AI->Prop}{M:Model}{A:AM}{E:AG}{s:AI}(h:wpAny M A t Q E s)(z:∀a s,Q a s->g a s):wpAny M A t g E s:=dQ h z λy y x=>x
section
variable {X:Cx}
theorem bin{a b:AO}{ta tb:TE}(O:PE X a ta)(U:PE X b tb){p9:AC}{s:AI}{Y:St}{H:Hp}{R:V->V->Hp->Prop}(I:Inv X p9 Y H s)(h:ta Y H λx H1=>tb Y H1 λy H2=>R x y H2)
  {J:Type} {Q:J->AI->Prop} {f:AN->AN->Sem J}
  (hf:∀v u z x y H2,Inv X p9 Y H2 z->RelV x v->RelV y u->R x y H2->↥X (f v u) Q X.xe z):
  ↥X (eval a X.env) (λv g=>↥X (eval b X.env) (λu q=>↥X (f v u) Q X.xe q) X.xe g) X.xe s:=by
 show thn (O p9 s Y H _ I h) λv s1 zZ=>?_;let(x,H1,L,r1,q1):=zZ;show thn (U p9 s1 Y H1 _ L q1) λu z zZ=>?_;let(y,H2,N,r2,q2):=zZ;exact hf v u z x y H2 N r1 r2 q2
def Bg(i:Nat):TE:=λY H Q=>∃v,Y[i]?=-(-v)/\Q v H
def tC(v:V):TE:=λz H Q=>Q v H
theorem Bh {i:Nat} {x:Str} {pos:Pos} (L:X.N[i]?=-x) (O:Vis X.env.scope x) (J:(x==("__debug__":Str))=false:=by decide) (z:(x==("__classdict__":Str))=false:=by decide):PE X (.Name x pos) (Bg i):=by
 intro p9 s Y H Q I h;let(v,e,h):=h;let(m,hn,hl):=I.loc;let(u,r,l):=hl i x v L e O;have fin:EP X p9 Y Q u s:=⟨v,H,I,r,h⟩;rcases l with⟨q,N⟩|⟨q,c,hc,g⟩
 .exact wpAny_Name (wpAny_loadName_local I.ok.kind q hn N fin) J
 .rcases q with q|q
  .exact wpAny_Name (wpAny_loadName_cell I.ok.kind q hc g fin) J
  .exact wpAny_Name (wpAny_loadName_free I.ok.kind q hc g fin z) J
theorem Q5{i j pos}:PE X (.Constant (.int i) j pos) (tC (.int i)):=λz z z H z I h=>wpAny_Constant_int ⟨.int i,H,I.tok _,⟨_,rfl⟩,h⟩
theorem Q6{b j pos}:PE X (.Constant (.bool b) j pos) (tC (.bl b)):=λz z z H z I h=>Constant_bool ⟨.bl b,H,I,rfl,h⟩
theorem Q7{j pos}:PE X (.Constant .none j pos) (tC .non):=λz z z H z I h=>Constant_none ⟨.non,H,I,rfl,h⟩
theorem Q8{x j pos}:PE X (.Constant (.str x) j pos) (tC (.str x)):=λz z z H z I h=>Calls.Constant_str ⟨.str x,H,I.tok _,⟨_,rfl⟩,h⟩
def Gl(X:Cx)(x:Str):Prop:=X.env.kindOf x=-.globalImplicit
theorem Bj{E:AG}{p9:AC}{s:AI}{Y:St}{H:Hp}{x:Str}{u:AN}{pos:Pos}{Q:AG}(I:Inv X p9 Y H s)(q:Gl X x)(z:X.mg x=-u)(h:Q u s)
  (g:(x==("__debug__":Str))=false:=by decide):↥X (eval (.Name x pos) X.env) Q E s:=
 Calls.Name_function_global I.ok.kind q (Calls.loadGlobal_global (by rw[I.ok.glob];exact I.mod.glob.keeps I.bk) z h) g
theorem iw{E:AG}{p9:AC}{s:AI}{Y:St}{H:Hp}{x:Str}{u:AN}{pos:Pos}{Q:AG}(I:Inv X p9 Y H s)(q:Gl X x)(z:X.mg x=none)(J:bootBuiltins x=-u)(h:Q u s)
  (hn:x≠"__name__":=by decide) (g:(x==("__debug__":Str))=false:=by decide):↥X (eval (.Name x pos) X.env) Q E s:=by
 let(L,h1,h2):=I.mod.blt;exact Calls.Name_function_global I.ok.kind q (Calls.loadGlobal_builtin (by rw[I.ok.glob];exact I.mod.glob.keeps I.bk) z (by rw[I.ok.blt];exact h1.keeps I.bk) ((h2 x hn).trans J) h) g
theorem Q9 {x:Str} {v:V} {u:AN} {pos:Pos} (q:Gl X x) (z:X.mg x=-u) (r:RelV v u) (g:(x==("__debug__":Str))=false:=by decide):PE X (.Name x pos) (tC v):=
 λy y y H y I h=>Bj I q z ⟨v,H,I,r,h⟩ g
theorem Ra {x:Str} {v:V} {u:AN} {pos:Pos} (q:Gl X x) (z:X.mg x=none) (J:bootBuiltins x=-u) (r:RelV v u) (hn:x≠"__name__":=by decide) (g:(x==("__debug__":Str))=false:=by decide):PE X (.Name x pos) (tC v):=
 λy y y H y I h=>iw I q z J ⟨v,H,I,r,h⟩ hn g
variable {a b:AO} {ta tb:TE} {pos:Pos}
variable {tA tB':TT} {rest:AE}
def Rb(t u:TT):TT:=λY H Q=>t Y H λc H1=>if c=true then u Y H1 Q else Q false H1
def tOr(t u:TT):TT:=λY H Q=>t Y H λc H1=>if c=true then Q true H1 else u Y H1 Q
def Rc(t:TT):TT:=λY H Q=>t Y H λc H1=>Q (!c) H1
theorem Rf(g:PT X a tA):PW X (.BoolOp .And [a] pos) tA:=by
 intro z p9 s Y H Q I h;show isTrue_and (thn (g p9 s Y H Q I h) λc q e=>?_);cases c with
 |true=>exact isTrue_and_nil e
 |false=>exact e
theorem Rg(g:PT X a tA):PW X (.BoolOp .Or [a] pos) tA:=by
 intro z p9 s Y H Q I h;show isTrue_or (thn (g p9 s Y H Q I h) λc q e=>?_);cases c with
 |false=>exact isTrue_or_nil e
 |true=>exact e
theorem Rh(z:PT X a tA)(J:PW X (.BoolOp .And (b::rest) pos) tB'):PW X (.BoolOp .And (a::b::rest) pos) (Rb tA tB'):=by
 intro N p9 s Y H Q I h;show isTrue_and (thn (z p9 s Y H _ I h) λc L zZ=>?_);let(H1,g,q):=zZ;cases c with
 |true=>exact J N p9 L Y H1 Q g q
 |false=>exact⟨H1,g,q⟩
theorem Ri(z:PT X a tA)(J:PW X (.BoolOp .Or (b::rest) pos) tB'):PW X (.BoolOp .Or (a::b::rest) pos) (tOr tA tB'):=by
 intro N p9 s Y H Q I h;show isTrue_or (thn (z p9 s Y H _ I h) λc L zZ=>?_);let(H1,g,q):=zZ;cases c with
 |true=>exact⟨H1,g,q⟩
 |false=>exact J N p9 L Y H1 Q g q
theorem Rj(g:PT X a tA):PT X (.UnaryOp .Not a pos) (Rc tA):=by intro p9 s Y H Q I h;exact isTrue_not (g p9 s Y H (λc H1=>Q (!c) H1) I h)
def Rk(ta tb:TE):TE:=λY H Q=>ta Y H λx H1=>∃c,x=.bl c/\if c=true then tb Y H1 Q else Q (.bl false) H1
def Rm(ta tb:TE):TE:=λY H Q=>ta Y H λx H1=>∃c,x=.bl c/\if c=true then Q (.bl true) H1 else tb Y H1 Q
theorem Rn{op}{t:TE}(h:PE X a t):PE X (.BoolOp op [a] pos) t:=λp9 s Y H Q I hw=>BoolOp_one (h p9 s Y H Q I hw)
theorem Ro(z:PE X a ta)(J:PE X (.BoolOp .And (b::rest) pos) tb):PE X (.BoolOp .And (a::b::rest) pos) (Rk ta tb):=by
 intro p9 s Y H Q I h;show BoolOp_and (thn (z p9 s Y H _ I h) λv N zZ=>?_);let(x,H1,q,L,g):=zZ;let(c,rfl,g):=g;cases L;show eD ?_;cases c with
 |true=>exact J p9 N Y H1 Q q g
 |false=>exact⟨.bl false,H1,q,rfl,g⟩
theorem Rp(z:PE X a ta)(J:PE X (.BoolOp .Or (b::rest) pos) tb):PE X (.BoolOp .Or (a::b::rest) pos) (Rm ta tb):=by
 intro p9 s Y H Q I h;show BoolOp_or (thn (z p9 s Y H _ I h) λv N zZ=>?_);let(x,H1,q,L,g):=zZ;let(c,rfl,g):=g;cases L;show eD ?_;cases c with
 |false=>exact J p9 N Y H1 Q q g
 |true=>exact⟨.bl true,H1,q,rfl,g⟩
def tIf(t:TT)(ta tb:TE):TE:=λY H Q=>t Y H λc H1=>if c=true then ta Y H1 Q else tb Y H1 Q
theorem Rq{c:AO}(hc:PT X c tA)(J:PE X a ta)(L:PE X b tb):PE X (.IfExp c a b pos) (tIf tA ta tb):=by
 intro p9 s Y H Q I h;show wpAny_IfExp (thn (hc p9 s Y H _ I h) λd z zZ=>?_);let(H1,g,q):=zZ;cases d with
 |true=>exact J p9 z Y H1 Q g q
 |false=>exact L p9 z Y H1 Q g q
end
def SqL(K:PF)(H:Hp)(a:AQ)(xs:AR):Prop:=
 Rd H a (.lst xs)\/
  ∃(o:Obj) (its:Array AN) (n:Nat),K.lookup a=-o/\o.cls=.type "list"/\o.dict=none/\o.data=.seq its n/\its.size<=sizeLine/\Vals xs its.toList
def SqT(K:PF)(H:Hp)(a:AQ)(xs:AR):Prop:=
 Rd H a (.tup xs)\/
  ∃(o:Obj) (its:Array AN) (n:Nat),K.lookup a=-o/\o.cls=.type "tuple"/\o.data=.seq its n/\its.size<=sizeLine/\Vals xs its.toList
def Rt:AN->Option V
 |.none=>-.non
 |.bool b=>-(.bl b)
 |.int i _=>-(.int i)
 |.str x _=>-(.str x)
 |.bytes b _=>-(.byt b)
 |.float b _=>-(.flt b)
 |.ref a=>-(.ref a)
 |.type n=>-(.ty n)
 |_=>none
def RelV.abs{x:V}{u:AN}(r:RelV x u):Rt u=-x:=by
 cases x with
 |non=>cases r;rfl
 |bl _=>cases r;rfl
 |int _=>let(t,rfl):=r;rfl
 |str _=>let(t,rfl):=r;rfl
 |byt _=>let(t,rfl):=r;rfl
 |flt _=>let(t,rfl):=r;rfl
 |ref _=>cases r;rfl
 |ty _=>cases r;rfl
def RelV.inj{x y:V}{u:AN}(r:RelV x u)(q:RelV y u):x=y:=df (r.abs.symm.trans q.abs)
def Vals.inj:∀{xs ys:AR}{g:AB},Vals xs g->Vals ys g->xs=ys
 |_,_,_,.nil,.nil=>rfl
 |_,_,_,.cons r t,.cons r' t'=>by rw[r.inj r',Vals.inj t t']
section
variable {X:Cx} {p9:AC} {σ:St} {H:Hp} {s:AI} {a:AQ} {xs ys:AR}
theorem SqL.of{K:PF}(h:H a=-(.lst xs)):SqL K H a xs:=.inl (.inl h)
theorem SqT.of{K:PF}(h:H a=-(.tup xs)):SqT K H a xs:=.inl (.inl h)
theorem Inv.list(I:Inv X p9 σ H s)(h:SqL X.K H a xs):∃g:AB,Vals xs g/\PlainL s.heap a g.toArray/\xs⁻¹<=sizeLine:=by
 rcases h with h|⟨o,g,n,J,hc,q,hs,L,r⟩
 .let(z,g,n,r,e):=h.ok I.hok;exact⟨g,r,⟨_,n,e,rfl,rfl,rfl⟩,z⟩
 .show ⟨g.toList,r,⟨o,n,I.kIn a o J,hc,q,!!hs⟩,?_⟩;have e:=r⁻¹;simp only[cK]at e;lia
theorem Inv.tuple(I:Inv X p9 σ H s)(h:SqT X.K H a xs):∃g:AB,Vals xs g/\IsTup s.heap a g.toArray/\xs⁻¹<=sizeLine:=by
 rcases h with h|⟨o,g,n,q,hc,hs,J,r⟩
 .let(z,g,r,p):=h.ok I.hok;exact⟨g,r,p.tup,z⟩
 .show ⟨g.toList,r,⟨o,I.kIn a o q,hc,n,!!hs⟩,?_⟩;have e:=r⁻¹;simp only[cK]at e;lia
theorem Inv.list_inj(I:Inv X p9 σ H s)(h:SqL X.K H a xs)(h':SqL X.K H a ys):xs=ys:=by
 let(g,r,(o,n,e,_,_,d),_):=I.list h;let(its',z,(o',J,q,_,_,d'),_):=I.list h';rw[e]at q;cases q;rw[d]at d';injection d' with d1 _;have:g=its':=by simpa using fb Array.toList d1
 subst this;exact r.inj z
theorem Inv.tuple_inj(I:Inv X p9 σ H s)(h:SqT X.K H a xs)(h':SqT X.K H a ys):xs=ys:=by
 let(g,r,(o,e,_,n,d),_):=I.tuple h;let(its',z,(o',q,_,J,d'),_):=I.tuple h';rw[e]at q;cases q;rw[d]at d';injection d' with d1 _;have:g=its':=by simpa using fb Array.toList d1
 subst this;exact r.inj z
end
abbrev Cx.wish(X:Cx)(E:AG):Cx:={X with xe:=E}
abbrev Cx.nox(X:Cx):Cx:=X.wish λz z=>False
def Cx.Ok.wish{X:Cx}(ok:X.Ok)(E:AG):(X.wish E).Ok:=
 ⟨ok.mod,ok.kind,ok.glob,ok.blt,ok.above,ok.inj,ok.has,ok.cab,ok.hd,ok.frames,ok.stk,ok.exf,ok.bs,ok.bsz,ok.noex,ok.exfs,ok.funs,ok.frf⟩
def Cx.Ok.unwish{X:Cx}{E:AG}(ok:(X.wish E).Ok):X.Ok:=
 ⟨ok.mod,ok.kind,ok.glob,ok.blt,ok.above,ok.inj,ok.has,ok.cab,ok.hd,ok.frames,ok.stk,ok.exf,ok.bs,ok.bsz,ok.noex,ok.exfs,ok.funs,ok.frf⟩
section
variable {X:Cx} {p9:AC} {σ:St} {H:Hp} {s:AI} {E:AG}
theorem Inv.wish(I:Inv X p9 σ H s)(E:AG):Inv (X.wish E) p9 σ H s:=⟨I.ok.wish E,I.os,I.bare,I.base,I.loc,I.cell,I.free,I.freeC,I.pin,I.hok,I.len⟩
theorem Inv.unwish(I:Inv (X.wish E) p9 σ H s):Inv X p9 σ H s:=⟨I.ok.unwish,I.os,I.bare,I.base,I.loc,I.cell,I.free,I.freeC,I.pin,I.hok,I.len⟩
theorem SP.unwish{D:Ends}{f:Flow}{s':AI}(h:SP (X.wish E) p9 D f s'):SP X p9 D f s':=by
 cases f with
 |next=>let(g,H',I,q):=h;exact⟨g,H',I.unwish,q⟩
 |brk=>let(g,H',I,q):=h;exact⟨g,H',I.unwish,q⟩
 |cont=>let(g,H',I,q):=h;exact⟨g,H',I.unwish,q⟩
 |ret u=>let(v,g,H',I,r,q):=h;exact⟨v,g,H',I.unwish,r,q⟩
theorem PSs.nox{st:AF}{t:TS}(h:PSs X.nox st t):PSs X st t:=λp9 s σ H D I hw=>
 dQ (h p9 s σ H D (I.wish _) hw) (λy y q=>q.unwish) λy y z=>False.elim z
end
section
variable {X:Cx} {st:Stmt} {rest:AF} {t u:TS} {e:AO} {te:TE} {pos:Pos}
def Bk:TS:=λD Y H=>D.nx Y H
def Ru(t u:TS):TS:=λD Y H=>t {D with nx:=u D} Y H
theorem Rv:PSs X [] Bk:=λz z Y H z I h=>wpAny_execs_nil ⟨Y,H,I,h⟩
theorem Rw(h1:PS X st t)(h2:PSs X rest u):PSs X (st::rest) (Ru t u):=by
 intro p9 s Y H D I h;show wpAny_execs_cons (thn (h1 p9 s Y H {D with nx:=u D} I h) λf J q=>?_);cases f with
 |next=>
  let(g,H',z,q):=q;exact h2 p9 J g H' D z q
 |ret v=>exact q
 |brk=>exact q
 |cont=>exact q
def Rx:TS:=λD Y H=>D.bk Y H
def Ry:TS:=λD Y H=>D.ct Y H
theorem Rz:PS X (.Pass pos) Bk:=λz z Y H z I h=>wpAny_Pass ⟨Y,H,I,h⟩
theorem RB:PS X (.Break pos) Rx:=λz z Y H z I h=>wpAny_Break ⟨Y,H,I,h⟩
theorem RC:PS X (.Continue pos) Ry:=λz z Y H z I h=>wpAny_Continue ⟨Y,H,I,h⟩
theorem Inv.quiet{p9:AC}{Y:St}{H:Hp}{s:AI}(I:Inv X p9 Y H s):interactive X.env=false:=by simp[interactive,I.ok.kind]
def RD(te:TE):TS:=λD Y H=>te Y H λz H1=>D.nx Y H1
theorem RG(he:PE X e te)(hs:swapsWith e none pos.line X.env=pure false:=by rfl):PS X (.Expr e pos) (RD te):=by intro p9 s Y H D I h;show wpAny_Expr_any (thn (he p9 s Y H _ I h) λv J zZ=>?_) I.quiet hs;let(x,H1,g,z,q):=zZ;exact⟨Y,H1,g,q⟩
def Bl(te:TE):TS:=λD Y H=>te Y H D.rt
theorem RJ(he:PE X e te):PS X (.Return (-e) pos) (Bl te):=by intro p9 s Y H D I h;show wpAny_Return_some (thn (he p9 s Y H _ I h) λv J zZ=>?_);let(x,H1,g,z,q):=zZ;exact⟨x,Y,H1,g,z,q⟩
def RK:TS:=λD z H=>D.rt .non H
theorem RL:PS X (.Return none pos) RK:=λz z Y H z I h=>wpAny_Return_none ⟨.non,Y,H,I,rfl,h⟩
def RM(c:TT)(t u:TS):TS:=λD Y H=>c Y H λb H1=>if b=true then t D Y H1 else u D Y H1
theorem RN{c:AO}{a b:AF}{tc:TT}(hc:PT X c tc)(J:PSs X a t)(L:PSs X b u):PS X (.If c a b pos) (RM tc t u):=by
 intro p9 s Y H D I h;show wpAny_If (thn (hc p9 s Y H _ I h) λd z zZ=>?_);let(H1,g,q):=zZ;cases d with
 |true=>exact J p9 z Y H1 D g q
 |false=>exact L p9 z Y H1 D g q
def RP:TS:=λz z z=>False
theorem RQ:PS X st RP:=λz z z z z z h=>h.elim
end
abbrev TG:=V->St->Hp->(St->Hp->Prop)->Prop
abbrev TGs:=AR->St->Hp->(St->Hp->Prop)->Prop
def PG(X:Cx)(g:AO)(t:TG):Prop:=
 ∀(p9:AC)(s:AI)(Y:St)(H:Hp)(v:V)(u:AN)(Q:St->Hp->Prop),Inv X p9 Y H s->RelV v u->t v Y H Q->
  ↥X (assign g X.env u) (λz s'=>∃q H',Inv X p9 q H' s'/\Q q H') X.xe s
def PGs(X:Cx)(ts:AE)(t:TGs):Prop:=
 ∀(p9:AC)(s:AI)(Y:St)(H:Hp)(vs:AR)(q:AB)(Q:St->Hp->Prop),Inv X p9 Y H s->Vals vs q->t vs Y H Q->
  ↥X (assignInOrder ((assignEach ts X.env).map (·.2)) q) (λz s'=>∃g H',Inv X p9 g H' s'/\Q g H') X.xe s
abbrev uZ:=V->V->V->Hp->(Hp->Prop)->Prop
def u5(X:Cx)(t:uZ):Prop:=
 ∀(p9:AC)(s:AI)(Y:St)(H:Hp)(o i v:V)(q g u:AN)(Q:Hp->Prop),Inv X p9 Y H s->RelV o q->RelV i g->RelV v u->t o i v H Q->
  ↥X (setItem q g u) (λz s'=>∃H',Inv X p9 Y H' s'/\Q H') X.xe s
abbrev TIp:=V->V->Hp->VK->Prop
def PIp(X:Cx)(op:Operator)(t:TIp):Prop:=
 ∀(p9:AC)(s:AI)(Y:St)(H:Hp)(x y:V)(v u:AN)(Q:VK),Inv X p9 Y H s->RelV x v->RelV y u->t x y H Q->
  ↥X (inplaceOp op v u) (EP X p9 Y Q) X.xe s
section
variable {X:Cx} {pos:Pos}
def jl(i:Nat):TG:=λv Y H Q=>Q (Y.set i (-v)) H
theorem RT{i:Nat}{x:Str}(q:X.N.Nodup)(hi:X.N[i]?=-x)(J:Loc X.env.scope x)(z:X.fn x=true\/X.env.scope.names.lookup x=-.local:=by first|exact .inl rfl|exact .inr rfl|assumption):PG X (.Name x pos) (jl i):=by intro p9 s Y H v u Q I r h;exact g6 (jk I q hi J r (λs' g=>⟨_,H,g,h⟩) z)
def RV:TGs:=λvs Y H Q=>vs=[]/\Q Y H
def RW(t:TG)(u:TGs):TGs:=λvs Y H Q=>∃v r,vs=v::r/\t v Y H λg H'=>u r g H' Q
theorem RX:PGs X [] RV:=by intro p9 s Y H vs g Q I r h;let(e,h):=h;subst e;cases r;exact assignInOrder_nil ⟨Y,H,I,h⟩
theorem RZ{e:AO}{es:AE}{t:TG}{u:TGs}(h1:PG X e t)(h2:PGs X es u)
  (hs:(assignEach (e::es) X.env).map (·.2)=assign e X.env::(assignEach es X.env).map (·.2):=by rfl):PGs X (e::es) (RW t u):=by
 intro p9 s Y H vs O Q I r h;let(v,U,z,h):=h;subst z;cases r with
 |cons r L=>
  rw[hs];show assignInOrder_cons (thn (h1 p9 s Y H _ _ _ I r h) λy N zZ=>?_);let(g,H1,q,J):=zZ;exact h2 p9 N g H1 _ _ Q q L J
def R0(K:PF)(n:Nat)(t:TGs):TG:=λv Y H Q=>∃a xs,v=.ref a/\SqT K H a xs/\xs⁻¹=n/\t xs Y H Q
theorem R1{es:AE}{k:Nat}{t:TGs}{n:Nat}(hc:X.calm=true)(h:PGs X es t)
  (hn:(assignEach es X.env)⁻¹=n:=by rfl) (g:(assignEach es X.env).findIdx? (·.1)=none:=by rfl):PG X (.Tuple es k pos) (R0 X.K n t):=by
 intro p9 s Y H v u Q I r hw;let(a,xs,J,L,hl,hw):=hw;subst J;cases r;let(U,q,N,hz):=I.tuple L;show assign_Tuple_tuple (I.ok.hd hc) N (by simp[hn,<-hl,q⁻¹]) g λh' O=>?_;have z:Inv X p9 Y H {s with heap:=h'}:=I.kept (t':=s.toks) λb o e=>O b o (bv (aE e)) e;exact h p9 _ Y H xs _ Q z (!!q) hw
def R3(to q:TE)(t:uZ):TG:=λv Y H Q=>to Y H λo H1=>q Y H1 λi H2=>t o i v H2 λg=>Q Y g
theorem R4{o i:AO}{to z:TE}{t:uZ}(ho:PE X o to)(hi:PE X i z)(hs:u5 X t)
  (U:∀v,assign (.Subscript o i pos) X.env v=(do
   let g <-holding [v] (eval o X.env)
   let q <-holding [v,g] (eval i X.env)
   standAt pos
   holding [v,g,q] (setItem g q v)
   release [v,g,q] []):=by intro _;rfl):PG X (.Subscript o i pos) (R3 to z t):=by
 intro p9 s Y H v u Q I r h;rw[U];show ab (de (thn (ho p9 s Y H _ I h) λg s1 zZ=>?_));let(x,H1,L,r1,q1):=zZ;show ab (de (thn (hi p9 s1 Y H1 _ L q1) λq s2 zZ=>?_));let(y,H2,N,r2,q2):=zZ;show ab (gx (ab (de (thn (hs p9 s2 Y H2 x y v g q u _ N r1 r2 r q2) λp s3 zZ=>?_))));let(J,O,q3):=zZ;exact wpAny_release ⟨Y,J,O,q3⟩
def jm(te:TE)(g:TG):TS:=λD Y H=>te Y H λx H1=>g x Y H1 D.nx
theorem Bm{tg e:AO}{te:TE}{g:TG}(he:PE X e te)(J:PG X tg g)(hs:swapsWithSole [tg] e pos.line X.env=pure false:=by rfl)(hw:swappedStores [tg] e X.env=pure none:=by rfl)
  (h1:(assignEach [tg] X.env).map (·.2)=[assign tg X.env]:=by rfl):PS X (.Assign [tg] e pos) (jm te g):=by
 intro p9 s Y H D I h;show wpAny_Assign_stores (thn (he p9 s Y H _ I h) λv O zZ=>?_) hs hw;let(x,H1,z,N,L):=zZ;rw[h1];exact thn (J p9 O Y H1 x v _ z N L) λy U q=>q
theorem Bo{i:Nat}{x:Str}{e:AO}{te:TE}{g:Pos}(J:X.N.Nodup)(hi:X.N[i]?=-x)(N:Loc X.env.scope x)(he:PE X e te)(hs:swapsWith e (-(.Name x g)) pos.line X.env=pure false:=by rfl)(L:X.fn x=true\/X.env.scope.names.lookup x=-.local:=by first|exact .inl rfl|exact .inr rfl|assumption):
  PS X (.Assign [.Name x g] e pos) (jm te (jl i)):=by
 intro p9 s Y H D I h;show wpAny_Assign_Name (thn (he p9 s Y H _ I h) λv s1 zZ=>?_) hs;let(y,H1,q,U,O):=zZ;exact jk q J hi N U (λs2 z=>⟨_,H1,z,O⟩) L
def R5(i:Nat)(te:TE)(g:TIp):TS:=λD Y H=>∃x,Y[i]?=-(-x)/\te Y H λy H1=>g x y H1 λz H2=>D.nx (Y.set i (-z)) H2
theorem R6{i:Nat}{x:Str}{e:AO}{te:TE}{op:Operator}{U:TIp}{J:Pos}(hN:X.N.Nodup)(hi:X.N[i]?=-x)(O:Loc X.env.scope x)(he:PE X e te)(ho:PIp X op U)(hf:X.fn x=true\/X.env.scope.names.lookup x=-.local:=by first|exact .inl rfl|exact .inr rfl|assumption):
  PS X (.AugAssign (.Name x J) op e pos) (R5 i te U):=by
 intro p9 s Y H D I h;let(v,e1,h):=h;let(m,hn,hl):=I.loc;have vis:Vis X.env.scope x:=by rcases O with k|k;exact .inl k;exact .inr (.inl k)
 let(u,r,l):=hl i x v hi e1 vis;show wpAny_AugAssign_Name ?_;have go:↥X (eval e X.env) (λw L=>↥X (inplaceOp op u w) (λr N=>↥X (storeName X.env x r) (λt=>SP X p9 D .next) X.xe N) X.xe L) X.xe s:=by show thn (he p9 s Y H _ I h) λw s1 zZ=>?_;let(y,H1,I1,r1,q1):=zZ;show thn (ho p9 s1 Y H1 v y u w _ I1 r r1 q1) λz s2 zZ=>?_;let(zv,H2,I2,r2,q2):=zZ;exact jk I2 hN hi O r2 (λs3 I3=>⟨_,H2,I3,q2⟩) hf
 rcases l with⟨g,hm⟩|⟨g,c,hc,q⟩
 .exact wpAny_loadName_local I.ok.kind g hn hm go
 .rcases g with g|g
  .exact wpAny_loadName_cell I.ok.kind g hc q go
  .rcases O with k|k
   .have:X.env.scope.names.lookup x=-.free:=g;rw[k]at this;cases this
   .have:X.env.scope.names.lookup x=-.free:=g;rw[k]at this;cases this
end
section
variable {X:Cx} {pos:Pos}
def R7(c:TT)(tb:TS):TS:=λD Y H=>∃W:Nat->St->Hp->Prop,(∃m,W m Y H)/\∀m Y H,W m Y H->
 c Y H λb H1=>if b=true then ∃N:St->Hp->Prop,(∀g H',N g H'->∃q,q<m/\W q g H')/\tb {D with nx:=N,ct:=N,bk:=D.nx} Y H1 else D.nx Y H1
theorem R8{c:AO}{body:AF}{tc:TT}{tb:TS}(hp:PassesOwn (model X.prog X.w) X.A X.env X.xe)(hc:PT X c tc)(hb:PSs X body tb):PS X (.While c body [] pos) (R7 tc tb):=by
 intro p9 s Y H D I h;let(W,(m0,w0),J):=h;show wpAny_While (codeAny_whileLoop (λn s'=>∃L H',Inv X p9 L H' s'/\W n L H') ?_ m0 ⟨Y,H,I,w0⟩);rintro n s1 ⟨q,H1,I1,w1⟩;show fR hp (thn (hc p9 s1 q H1 _ I1 (J n q H1 w1)) λb s2 zZ=>?_);let(H2,I2,O):=zZ;cases b with
 |true=>
  let(N,hN,O):=O;rw[if_pos rfl];show fR hp (thn (hb p9 s2 q H2 _ I2 O) λf s3 U=>?_);cases f with
  |next=>
   let(g,z,I3,n3):=U;let(m',hm,w3):=hN g z n3;exact⟨m',hm,g,z,I3,w3⟩
  |cont=>
   let(g,z,I3,n3):=U;let(m',hm,w3):=hN g z n3;exact⟨m',hm,g,z,I3,w3⟩
  |brk=>exact U
  |ret v=>exact U
 |false=>
  rw[if_neg bB];exact wpAny_execs_nil ⟨q,H2,I2,O⟩
end
structure It where
 go:Nat->Hp->Prop
 yld:Nat->Hp->V->Hp->Prop
 stop:Nat->Hp->Prop
def c7(X:Cx)(p9:AC)(H:Hp)(b:AQ):Prop:=
 H b=none/\b≠X.env.locals/\b∉X.fs/\(b∈X.ex\/X.s₀.heap.objs.size<=b)/\(∀x c,X.env.cells.lookup x=-c->c≠b)/\∀p∈X.pn++p9,p.1≠b
def Inv.fpOk{X:Cx}{p9:AC}{Y:St}{H H':Hp}{s:AI}{b:AQ}(I:Inv X p9 Y H s)(g:(~~~s)<=b)(hn:H' b=none):c7 X p9 H' b:=by
 show⟨hn,fo (bo I.lt g),I.nofs g,.inr (cf I.sz g),λx c e z=>?_,λp J z=>?_⟩
 .let(v,q):=I.cell x c e;exact absurd (bo q.lt (by rw[z];exact g)) (eP _)
 .exact absurd (bo (aE (I.pin p J).1) (by rw[z];exact g)) (eP _)
structure Turn(P:AK)(w:World)(K:PF)(tg:AO)(J:It)(fp:List AQ)(it:AQ)(tn:Nat->Heap->Prop):Prop where
 mem:it∈fp
 obj:∀i h,tn i h->∀b∈fp,∃o,h.get? b=some o/\∀v,o.data≠.cell v
 keep:∀i h h',tn i h->(∀b∈fp,∀o,h.get? b=some o->h'.get? b=some o)->tn i h'
 item:∀(X:Cx),X.prog=P->X.w=w->X.K=K->X.calm=true->∀(i:Nat)(p9:AC)(s:AI)(Y:St)(H:Hp)(E:AG),Inv X p9 Y H s->(∀b∈fp,c7 X p9 H b)->tn i s.heap->J.go i H->
  wpAny (model P w) X.A (pyNext (.ref it)) (λr s1=>∃u,r=some u/\
   wpAny (model P w) X.A (letOwnedTupleGo tg (.ref it) u) (λz s2=>∃x H',Inv X p9 Y H' s2/\RelV x u/\J.yld i H x H'/\tn (i+1) s2.heap/\∀b∈fp,H' b=none) E s1) E s
 done:∀(X:Cx),X.prog=P->X.w=w->X.K=K->X.calm=true->∀(i:Nat)(p9:AC)(s:AI)(Y:St)(H:Hp)(E:AG),Inv X p9 Y H s->(∀b∈fp,c7 X p9 H b)->tn i s.heap->J.stop i H->
  wpAny (model P w) X.A (pyNext (.ref it)) (λr s1=>r=none/\Inv X p9 Y H s1) E s
 self:∀(A:AM)(i:Nat)(s:AI)(Q:AG)(E:AG),tn i s.heap->Q (.ref it) s->wpAny (model P w) A (pyIter (.ref it)) Q E s
abbrev TI:=St->Hp->(It->Hp->Prop)->Prop
def PIE(X:Cx)(p9:AC)(Y:St)(tg:AO)(R:It->Hp->Prop)(g:AN)(q:AI):Prop:=
 ∃(it:AQ)(fp:List AQ)(z:Nat->Heap->Prop)(J:It)(H':Hp),g=.ref it/\Inv X p9 Y H' q/\Turn X.prog X.w X.K tg J fp it z/\z 0 q.heap/\(∀b∈fp,c7 X p9 H' b)/\R J H'
def PI(X:Cx)(tg iter:AO)(q:TI):Prop:=
 ∀(p9:AC)(s:AI)(Y:St)(H:Hp)(R:It->Hp->Prop),Inv X p9 Y H s->q Y H R->
  ↥X (eval iter X.env) (λv g=>↥X (pyIter v) (PIE X p9 Y tg R) X.xe g) X.xe s
def qI{M:Model}{A:AM}{E:AG}{s:AI}{tg:AO}{it:AQ}{u:AN}{o:Obj}{n:AL}{vs:Array AN}{Q:Unit->AI->Prop}(z:s.heap.get? it=-o)(hc:o.cls=.type n)(q:o.data=.fields vs)
  (hn:["enumerate","zip","dict_itemiterator","dict_reverseitemiterator","odict_iterator","itertools.zip_longest","itertools.pairwise"].contains n=false) (g:Q () s):wpAny M A (letOwnedTupleGo tg (.ref it) u) Q E s:=by
 unfold letOwnedTupleGo;cases tg<;>first
  |exact aw g
  | (cases u<;>first
    |exact aw g
    | (show ab (wpAny_load z ?_)
       rw[hc,q];change wpAny M A (if(["enumerate","zip","dict_itemiterator","dict_reverseitemiterator","odict_iterator","itertools.zip_longest","itertools.pairwise"].contains n&&vs[0]?==-(rawInt _))=true then _ else _) Q E s;rw[if_neg (by intro h;rw[hn,Bool.false_and]at h;cases h)];exact aw g))
def Itl(K:PF)(a:AQ):It:=
 ⟨λi H=>∃xs x,SqL K H a xs/\xs[i]?=-x,λi H x H'=>H'=H/\∀xs,SqL K H a xs->xs[i]?=-x,λi H=>∃xs,SqL K H a xs/\xs⁻¹<=i⟩
def Itt(K:PF)(a:AQ):It:=
 ⟨λi H=>∃xs x,SqT K H a xs/\xs[i]?=-x,λi H x H'=>H'=H/\∀xs,SqT K H a xs->xs[i]?=-x,λi H=>∃xs,SqT K H a xs/\xs⁻¹<=i⟩
def Itr(lo:Int)(n:Nat):It:=⟨λi z=>i<n,λi H x H'=>H'=H/\x=.int (lo+i),λi z=>n<=i⟩
def Bp{P:AK}{w:World}{K:PF}{tg:AO}(a it:AQ):Turn P w K tg (Itl K a) [it] it (λi h=>h.IsListIter it a i) where
 mem:=by simp
 obj:=λi h st b g=>by
  have e:b=it:=by simpa using g
  subst e;let(o,e,c,d):=st;exact⟨o,e,λv z=>by rw[d]at z;cases z⟩
 keep:=λi h h' st k=>st.at λo e=>k it (!2) o e
 item:=by intro X O hw N hc i p9 s Y H E I J st U;subst O hw N;let(xs,x,L,hx):=U;let(its,rv,p,hz):=I.list L;let(u,hu,ru):=rv.get hx;let(f0,f1,f2,f3,f4,f5):=J it (!2);show wpAny_pyNext_list_item st p.isList (x:=u) (!!hu) λh' q sb=>?_;have I1:Inv X p9 Y H {s with heap:=h'}:=I.turned (t':=s.toks) (λb o g e=>(sb.2 b g).trans e) f0 f1 f3 f4 f5;let(o,e,c,d):=id q;exact⟨u,rfl,qI (s:={s with heap:=h'}) e c d (!1) ⟨x,H,I1,ru,⟨rfl,λys hy=>by rw[I.list_inj hy L];exact hx⟩,q,λb g=>(J b g).1⟩⟩
 done:=by intro X O hw N hc i p9 s Y H E I J st U;subst O hw N;let(xs,L,hx):=U;let(its,rv,p,hz):=I.list L;let(f0,f1,f2,f3,f4,f5):=J it (!2);have hl:=rv⁻¹;exact wpAny_pyNext_list_end (I.ok.hd hc) st p.isList (by simp;lia) λh' eb=>⟨rfl,I.turned (t':=s.toks) (λb o g e=>eb b o g e) f0 f1 f3 f4 f5⟩
 self:=λy y y y y st h=>wpAny_pyIter_listiter st h
def Bq{P:AK}{w:World}{K:PF}{tg:AO}(a it:AQ):Turn P w K tg (Itt K a) [it] it (λi h=>h.IsTupleIter it a i) where
 mem:=by simp
 obj:=λi h st b g=>by
  have e:b=it:=by simpa using g
  subst e;let(o,e,c,d):=st;exact⟨o,e,λv z=>by rw[d]at z;cases z⟩
 keep:=λi h h' st k=>st.at λo e=>k it (!2) o e
 item:=by intro X U hw O hc i p9 s Y H E I L st hg;subst U hw O;let(xs,x,N,hx):=hg;let(q,rv,p,hz):=I.tuple N;let(u,hu,ru):=rv.get hx;let(f0,f1,f2,f3,f4,f5):=L it (!2);show wpAny_pyNext_tuple_item st (show s.heap.IsTuple a q.toArray from p) (x:=u) (!!hu) λh' J sb=>?_;have I1:Inv X p9 Y H {s with heap:=h'}:=I.turned (t':=s.toks) (λb o g e=>(sb.2 b g).trans e) f0 f1 f3 f4 f5;let(o,e,c,d):=id J;exact⟨u,rfl,qI (s:={s with heap:=h'}) e c d (!1) ⟨x,H,I1,ru,⟨rfl,λys hy=>by rw[I.tuple_inj hy N];exact hx⟩,J,λb g=>(L b g).1⟩⟩
 done:=by intro X U hw O hc i p9 s Y H E I L st hg;subst U hw O;let(xs,N,hx):=hg;let(q,rv,p,hz):=I.tuple N;let(f0,f1,f2,f3,f4,f5):=L it (!2);have hl:=rv⁻¹;exact wpAny_pyNext_tuple_end (I.ok.hd hc) st (show s.heap.IsTuple a q.toArray from p) (by simp;lia) λh' eb=>⟨rfl,I.turned (t':=s.toks) (λb o g e=>eb b o g e) f0 f1 f3 f4 f5⟩
 self:=λy y y y y st h=>wpAny_pyIter_tupleiter st h
def R9{P:AK}{w:World}{K:PF}{tg:AO}(it:AQ)(lo:Int)(n:Nat):Turn P w K tg (Itr lo n) [it] it (λi h=>IsRangeIter h it (lo+(i:Nat)*1) ((n:Int)-(i:Nat)) 1) where
 mem:=by simp
 obj:=λi h st b g=>by
  have e:b=it:=by simpa using g
  subst e;exact⟨_,st,λv z=>by
   have z':Data.fields _=Data.cell v:=z;cases z'⟩
 keep:=λi h h' st k=>k it (!2) _ st
 item:=by intro X N hw L hc i p9 s Y H E I J st O;subst N hw L;let(f0,f1,f2,f3,f4,f5):=J it (!2);have W:=Walks.range (prog:=X.prog) (w:=X.w) (I.ok.hd hc) it lo 1 n;show W.item i s _ _ O st λv h' U hv q kk=>?_;let(t,rfl):=hv;have I1:Inv X p9 Y H {s with heap:=h',toks:=U}:=I.turned (λb o g e=>kk b o (!!g) e) f0 f1 f3 f4 f5;show⟨_,rfl,qI (s:={s with heap:=h',toks:=U}) (n:="range_iterator") q rfl rfl (!1) ⟨.int (lo+i),H,I1,⟨t,?_⟩,⟨rfl,rfl⟩,q,λb g=>(J b g).1⟩⟩;rw[Int.mul_one]
 done:=by intro X N hw L hc i p9 s Y H E I J st O;subst N hw L;let(f0,f1,f2,f3,f4,f5):=J it (!2);exact wpAny_pyNext_range_end (I.ok.hd hc) st (by have:n<=i:=O;lia) λh' eb=>⟨rfl,I.turned (t':=s.toks) (λb o g e=>eb b o g e) f0 f1 f3 f4 f5⟩
 self:=λy y y y y st h=>wpAny_pyIter_rangeiter st h
section
variable {X:Cx} {tg:AO}
theorem Sd{p9:AC}{Y:St}{H:Hp}{s:AI}{R:It->Hp->Prop}{E:AG}{lo hi:Int}{t u v:Tok}{z:Nat}(I:Inv X p9 Y H s)(h1:Neg.neg (2 ^ 62)<=lo)(h2:lo<2 ^ 62)(N:Neg.neg (2 ^ 62)<=hi)(O:hi<2 ^ 62)
  (q:R (Itr lo (hi-lo).toNat) H):↥X (pyIter (.ref (~~~s))) (PIE X p9 Y tg R) E {s with heap:=s.heap.push {cls:=.type "range",data:=.fields #[.int lo t,.int hi u,.int 1 v]},toks:=z}:=by
 show wpAny_pyIter_range (IsRange.new ..) (small_one h1 h2 N O) ?_;have g:Inv X p9 Y H {s with heap:=s.heap.push {cls:=.type "range",data:=.fields #[.int lo t,.int hi u,.int 1 v]},toks:=z}:=I.kept λb o e=>ag _ e;show⟨(s.heap.push {cls:=.type "range",data:=.fields #[.int lo t,.int hi u,.int 1 v]}).objs.size,[(s.heap.push {cls:=.type "range",data:=.fields #[.int lo t,.int hi u,.int 1 v]}).objs.size],_,_,H,rfl,
  g.kept (t':=z) λb o e=>ag _ e,R9 _ lo (hi-lo).toNat,?_,λb U=>?_,q⟩
 .have J:lo+((0:Nat):Int)*1=lo:=by simp
  have L:(((hi-lo).toNat:Nat):Int)-((0:Nat):Int)=Builtin.Range.rangeSize lo hi 1:=by rw[rangeSize_one];split<;>lia
  change IsRangeIter _ _ (lo+((0:Nat):Int)*1) ((((hi-lo).toNat:Nat):Int)-((0:Nat):Int)) 1;rw[J,L];exact aT _ rfl
 .have e:b=(s.heap.push {cls:=.type "range",data:=.fields #[.int lo t,.int hi u,.int 1 v]}).objs.size:=by simpa using U
  subst e;exact g.fpOk (av _) (g.hok.fresh (av _))
def Sg(ta:TA):TI:=λY H R=>ta Y H λvs H1=>∃j:Int,vs=[.int j]/\Neg.neg (2 ^ 62)<=j/\j<2 ^ 62/\R (Itr 0 j.toNat) H1
theorem Sq {a:AO} {ta:TA} {p pos:Pos} (L:Gl X "range") (N:X.mg "range"=none) (J:PA X [a] ta) (hs:starEach [a] X.env=[(false,eval a X.env)]:=by rfl):PI X tg (.Call (.Name "range" p) [a] [] pos) (Sg ta):=by
 intro p9 s Y H R I h;show Call_ (iw I L N boot_range (eS (thn (J pos p9 s Y H _ I h) λus s1 zZ=>?_) hs rfl));let(vs,H1,z,U,g):=zZ;let(j,e,g,O,q):=g;subst e;cases U with
 |cons r rr=>
  cases rr;let(t,rfl):=r;exact call_range_1 (Sd z (!0) (!0) g O (!!q))
def Ss(O:TI)(g:TG)(tb:TS):TS:=λD Y H=>O Y H λJ H1=>∃W:Nat->Nat->St->Hp->Prop,(∃m,W 0 m Y H1)/\∀i m Y H,W i m Y H->
 (J.stop i H/\D.nx Y H)\/(J.go i H/\∃N:St->Hp->Prop,(∀q H',N q H'->∃L,L<m/\W (i+1) L q H')/\∀x H',J.yld i H x H'->g x Y H' λz H2=>tb {D with nx:=N,ct:=N,bk:=D.nx} z H2)
def j9(fp:List AQ)(h:Heap):AC:=fp.filterMap λb=>(h.get? b).map λo=>(b,o)
theorem qJ{fp:List AQ}{h:Heap}{b:AQ}{o:Obj}(g:b∈fp)(e:h.get? b=-o):(b,o)∈j9 fp h:=List.mem_filterMap.mpr ⟨b,g,by rw[e];rfl⟩
theorem Br{fp:List AQ}{h:Heap}{p:AQ×Obj}(J:p∈j9 fp h):p.1∈fp/\h.get? p.1=-p.2:=by
 let(b,z,e):=List.mem_filterMap.mp J;cases q:h.get? b with
 |none=>rw[q]at e;cases e
 |some o=>
  rw[q]at e;have g:(b,o)=p:=df e;subst g;exact⟨z,q⟩
theorem Inv.pinned{p9:AC}{Y:St}{H:Hp}{s:AI}{fp:List AQ}(I:Inv X p9 Y H s)(J:∀b∈fp,c7 X p9 H b)(L:∀b∈fp,∃o,s.heap.get? b=-o/\∀v,o.data≠.cell v):Inv X (p9++j9 fp s.heap) Y H s:=
 I.pins_of λp N=>(a9.mp N).elim (λz=>I.pin p (ay _ z)) λz=>by
  let(q,e):=Br z;let(f0,f1,f2,_):=J p.1 q;let(o,g,d):=L p.1 q;rw[e]at g;cases g;exact⟨e,f0,f1,f2,d⟩
theorem Inv.unpinned{p9 q:AC}{Y:St}{H:Hp}{s:AI}(I:Inv X (p9++q) Y H s):Inv X p9 Y H s:=I.pins_of λp g=>I.pin p (ay _ (ce _ g))
theorem Su{iter:AO}{body:AF}{wi:TI}{g:TG}{tb:TS}{pos:Pos}(hp:PassesOwn (model X.prog X.w) X.A X.env X.xe)(hc:X.calm=true)(hi:PI X tg iter wi)(hg:PG X tg g)(U:PSs X body tb)
  (hs:∀x,foldedSetIterable iter X.env x=pure x:=by intro _;rfl):PS X (.For tg iter body [] pos) (Ss wi g tb):=by
 intro p9 s Y H D I h;show wpAny_For (thn (hi p9 s Y H _ I h) λv s1 h1=>thn h1 λitv s2 h2=>?_) hs;let(it,fp,tn,J,H2,e,I2,T,st2,f2,W,(m0,w0),turn):=h2;subst e
 -- what stays true of the iterator's objects through the loop
 have stat:∀{H':Hp},(∀b∈fp,H' b=none)->∀b∈fp,c7 X p9 H' b:=λhn b U=>⟨hn b U,(f2 b U).2⟩;show codeAny_forLoop_any (λn s'=>∃i σ' H',Inv X p9 σ' H' s'/\tn i s'.heap/\(∀b∈fp,H' b=none)/\W i n σ' H') ?_ m0 ⟨0,Y,H2,I2,st2,λb U=>(f2 b U).1,w0⟩;rintro n s3 ⟨i,σ3,H3,I3,st3,fr3,w3⟩;rcases turn i n σ3 H3 w3 with⟨stop,qn⟩|⟨go,N,hN,step⟩
 .show fR hp (thn (T.done X rfl rfl rfl hc i p9 s3 σ3 H3 X.xe I3 (stat fr3) st3 stop) λr s4 zZ=>?_);let(hr,I4):=zZ;subst hr;exact wpAny_execs_nil ⟨σ3,H3,I4,qn⟩
 .show fR hp (thn (T.item X rfl rfl rfl hc i p9 s3 σ3 H3 X.xe I3 (stat fr3) st3 go) λr s4 zZ=>?_);let(u,hr,h4):=zZ;subst hr;show fR hp (thn h4 λy s5 zZ=>?_);let(x,H5,I5,r5,y5,st5,fr5):=zZ;have I5':=I5.pinned (stat fr5) (T.obj _ _ st5);show fR hp (thn (hg _ s5 σ3 H5 x u _ I5' r5 (step x H5 y5)) λy s6 zZ=>?_);let(σ6,H6,I6,q6):=zZ;show fR hp (thn (U _ s6 σ6 H6 _ I6 q6) λf s7 q7=>?_);have O:∀{q:St}{z:Hp},Inv X (p9++j9 fp s5.heap) q z s7->N q z->∃m,m<n/\∃i σ' H',Inv X p9 σ' H' s7/\tn i s7.heap/\(∀b∈fp,H' b=none)/\W i m σ' H':=λ{q z} L n7=>by
   let(m',hm,w7):=hN q z n7;show⟨m',hm,i+1,q,z,L.unpinned,T.keep _ _ _ st5 λb U o e=>(L.pin (b,o) (ay _ (ay _ (qJ U e)))).1,λb U=>?_,w7⟩;let(o,e,d):=T.obj _ _ st5 b U;exact(L.pin (b,o) (ay _ (ay _ (qJ U e)))).2.1
  cases f with
  |next=>let(q,z,L,n7):=q7;exact O L n7
  |cont=>let(q,z,L,n7):=q7;exact O L n7
  |brk=>let(q,z,L,q7):=q7;exact⟨q,z,L.unpinned,q7⟩
  |ret v=>let(x7,q,z,L,r7,q7):=q7;exact⟨x7,q,z,L.unpinned,r7,q7⟩
end
abbrev R2:=V->V->Hp->VK->Prop
def OpR(X:Cx)(f:AN->AN->Sem AN)(r:R2):Prop:=
 ∀(p9:AC)(s:AI)(Y:St)(H:Hp)(x y:V)(v u:AN)(Q:VK),Inv X p9 Y H s->RelV x v->RelV y u->r x y H Q->
  ↥X (f v u) (EP X p9 Y Q) X.xe s
def UnR(X:Cx)(f:AN->Sem AN)(r:V->Hp->VK->Prop):Prop:=
 ∀(p9:AC)(s:AI)(Y:St)(H:Hp)(x:V)(v:AN)(Q:VK),Inv X p9 Y H s->RelV x v->r x H Q->
  ↥X (f v) (EP X p9 Y Q) X.xe s
def bf(X:Cx)(f:AN)(r:AR->Hp->VK->Prop):Prop:=
 ∀(p9:AC)(s:AI)(Y:St)(H:Hp)(xs:AR)(g:AB)(Q:VK),Inv X p9 Y H s->Vals xs g->r xs H Q->
  ↥X (call f g) (EP X p9 Y Q) X.xe s
def Sv(X:Cx)(r:V->Hp->(Bool->Hp->Prop)->Prop):Prop:=
 ∀(p9:AC)(s:AI)(Y:St)(H:Hp)(x:V)(v:AN)(Q:Bool->Hp->Prop),Inv X p9 Y H s->RelV x v->r x H Q->
  ↥X (truthy v) (TP X p9 Y Q) X.xe s
def tOp(r:R2)(ta tb:TE):TE:=λY H Q=>ta Y H λx H1=>tb Y H1 λy H2=>r x y H2 Q
def tUn(r:V->Hp->VK->Prop)(ta:TE):TE:=λY H Q=>ta Y H λx H1=>r x H1 Q
def rI(C:Int->Int->Prop)(g:Int->Int->V):R2:=λx y H Q=>∃i j,x=.int i/\y=.int j/\C i j/\Q (g i j) H
def rI0(g:Int->Int->V):R2:=λx y H Q=>∃i j,x=.int i/\y=.int j/\Q (g i j) H
def rU(g:Int->V):V->Hp->VK->Prop:=λx H Q=>∃i,x=.int i/\Q (g i) H
section
variable {X:Cx} {a b c:AO} {ta tb tc:TE} {pos:Pos}
theorem u6(N:PE X a ta)(O:PE X b tb){p9:AC}{s:AI}{Y:St}{H:Hp}{R:V->V->Hp->Prop}(I:Inv X p9 Y H s)
  (h:ta Y H λx H1=>tb Y H1 λy H2=>R x y H2) {Q:AG} {f:AN->AN->Sem AN}
  (U:∀v u z x y H2,Inv X p9 Y H2 z->RelV x v->RelV y u->R x y H2->↥X (f v u) Q X.xe z):
  ↥X (eval a X.env) (λv g=>↥X (eval b X.env) (λu q=>↥X (f v u) Q X.xe q) X.xe g) X.xe s:=by
 show thn (N p9 s Y H _ I h) λv s1 zZ=>?_;let(x,H1,J,r1,q1):=zZ;show thn (O p9 s1 Y H1 _ J q1) λu z zZ=>?_;let(y,H2,L,r2,q2):=zZ;exact U v u z x y H2 L r1 r2 q2
theorem Sw{op:Operator}{r:R2}(L:OpR X (binaryOp op) r)(z:PE X a ta)(J:PE X b tb):PE X (.BinOp a op b pos) (tOp r ta tb):=by intro p9 s Y H Q I h;exact wpAny_BinOp (u6 z J I h λv u U x y H2 g N O q=>L p9 U Y H2 x y v u Q g N O q)
theorem Sy{op:UnaryOp}{r:V->Hp->VK->Prop}(z:UnR X (unaryOp op) r)(q:PE X a ta):PE X (.UnaryOp op a pos) (tUn r ta):=by intro p9 s Y H Q I h;show UnaryOp_ (thn (q p9 s Y H _ I h) λv N zZ=>?_);let(x,H1,g,L,J):=zZ;exact z p9 N Y H1 x v Q g L J
theorem opI{f:AN->AN->Sem AN}{C:Int->Int->Prop}{g:Int->Int->Int}
  (z:∀(i j:Int)(t u:Tok)(s:AI)(Q:AG)(E:AG),C i j->Q (.int (g i j) s.toks) {s with toks:=s.toks+1}->↥X (f (.int i t) (.int j u)) Q E s):
  OpR X f (rI C λi j=>.int (g i j)):=by
 intro p9 s Y H x y v u Q I J L h;let(i,j,rfl,rfl,hc,q):=h;let(t,rfl):=J;let(t',rfl):=L;exact z i j t t' s _ _ hc ⟨.int (g i j),H,I.tok _,⟨_,rfl⟩,q⟩
theorem qK{f:AN->AN->Sem AN}{g:Int->Int->Int}
  (z:∀(i j:Int)(t u:Tok)(s:AI)(Q:AG)(E:AG),Q (.int (g i j) s.toks) {s with toks:=s.toks+1}->↥X (f (.int i t) (.int j u)) Q E s):
  OpR X f (rI0 λi j=>.int (g i j)):=by
 intro p9 s Y H x y v u Q I J L h;let(i,j,rfl,rfl,q):=h;let(t,rfl):=J;let(t',rfl):=L;exact z i j t t' s _ _ ⟨.int (g i j),H,I.tok _,⟨_,rfl⟩,q⟩
def qL(i j:Int):Prop:=0<=j/\j<=1000000/\i.natAbs<2 ^ 64
def CMul(i j:Int):Prop:=(Neg.neg (2 ^ 64)<i/\i<2 ^ 64)\/(Neg.neg (2 ^ 64)<j/\j<2 ^ 64)
theorem CMul.ok{i j:Int}(h:CMul i j):IntMulOk i j:=by
 rcases h with⟨h1,h2⟩|⟨h1,h2⟩
 .exact .of_left (intBits_le_64 h1 h2)
 .exact .of_right (intBits_le_64 h1 h2)
theorem SJ:OpR X (binaryOp .Add) (rI0 λi j=>.int (i+j)):=qK λz z z z z z z q=>add_int q
theorem SM:OpR X (binaryOp .Sub) (rI0 λi j=>.int (i-j)):=qK λz z z z z z z q=>sub_int q
theorem SN:OpR X (binaryOp .Mult) (rI CMul λi j=>.int (i*j)):=opI λz z z z z z z hc q=>mul_int q hc.ok
theorem SQ:OpR X (binaryOp .Mod) (rI (λz j=>0<j) λi j=>.int (i%j)):=opI λi j z z z z z hc q=>by
 have h1:(0:Int)<j:=hc;exact mod_int' (!0) (by rw[Int.fmod_eq_emod_of_nonneg i (!0)];exact q)
theorem SX:OpR X (binaryOp .Pow) (rI qL λi j=>.int (i ^ j.toNat)):=opI λz z z z z z z hc q=>pow_int_small hc.1 hc.2.1 hc.2.2 q
theorem S5:OpR X (inplaceOp .Add) (rI0 λi j=>.int (i+j)):=qK λz z z z z z z q=>iadd_int q
theorem S6:OpR X (inplaceOp .Sub) (rI0 λi j=>.int (i-j)):=qK λz z z z z z z q=>isub_int q
theorem unI{f:AN->Sem AN}{g:Int->Int}
  (z:∀(i:Int)(t:Tok)(s:AI)(Q:AG)(E:AG),Q (.int (g i) s.toks) {s with toks:=s.toks+1}->↥X (f (.int i t)) Q E s):
  UnR X f (rU λi=>.int (g i)):=by
 intro p9 s Y H x v Q I J h;let(i,rfl,q):=h;let(t,rfl):=J;exact z i t s _ _ ⟨.int (g i),H,I.tok _,⟨_,rfl⟩,q⟩
theorem S7:UnR X (unaryOp .USub) (rU λi=>.int (Neg.neg i)):=unI λz z z z z q=>neg_int q
end
section
variable {X:Cx} {a b c:AO} {ta tb tc:TE} {pos:Pos}
theorem Bt{p9:AC}{Y:St}{H:Hp}{s:AI}{Q:VK}{k k':Bool}(I:Inv X p9 Y H s)(q:Q (.bl k) H)(e:k=k'):EP X p9 Y Q (.bool k') s:=by subst e;exact⟨.bl k,H,I,rfl,q⟩
theorem S8:OpR X (compareOp .Is) (λx y H Q=>y=.non/\Q (.bl (decide (x=.non))) H):=by
 intro p9 s Y H x y v u Q I g z h;let(rfl,q):=h;cases z;show is_none_gen (Bt I q ?_);cases x<;>first
  | (cases g;rfl)
  | (let(t,rfl):=g;rfl)
theorem S9:OpR X (compareOp .IsNot) (λx y H Q=>y=.non/\Q (.bl (!decide (x=.non))) H):=by
 intro p9 s Y H x y v u Q I g z h;let(rfl,q):=h;cases z;show isnot_none_gen (Bt I q ?_);cases x<;>first
  | (cases g;rfl)
  | (let(t,rfl):=g;rfl)
theorem Tc{op:CmpOp}{r:R2}(N:OpR X (compareOp op) r)(z:PE X a ta)(J:PE X b tb)(L:behindInMarks op b=false):PE X (.Compare a [op] [b] pos) (tOp r ta tb):=by intro p9 s Y H Q I h;exact wpAny_Compare1 (u6 z J I h λv u s2 x y H2 g O U q=>N p9 s2 Y H2 x y v u Q g O U q) L
def Bu(t:TE):TT:=λY H Q=>t Y H λx H'=>∃k,x=.bl k/\Q k H'
theorem Td{op:CmpOp}{r:R2}(ho:OpR X (compareOp op) r)(N:PE X a ta)(O:PE X b tb)(U:behindInMarks op b=false):PT X (.Compare a [op] [b] pos) (Bu (tOp r ta tb)):=by
 intro p9 s Y H Q I h;show wpAny_isTrue_Compare1 (thn (N p9 s Y H _ I h) λv s1 zZ=>?_) U;let(x,H1,q,r1,q1):=zZ;show thn (O p9 s1 Y H1 _ q q1) λu s2 zZ=>?_;let(y,H2,J,r2,q2):=zZ;show thn (ho p9 s2 Y H2 x y v u _ J r1 r2 q2) λc s3 zZ=>?_;let(z,g,L,r3,k,e,q3):=zZ
 subst e;cases r3;exact eD ⟨g,L,q3⟩
def u9(r J:R2)(ta tb tc:TE):TE:=λY H Q=>ta Y H λx H1=>tb Y H1 λy H2=>r x y H2 λz g=>∃k,z=.bl k/\
 (if k=true then tc Y g λL q=>J y L q Q else Q (.bl false) g)
theorem Te{op g:CmpOp}{r O:R2}(ho:OpR X (compareOp op) r)(q:OpR X (compareOp g) O)(ha:PE X a ta)(hb:PE X b tb)(hc:PE X c tc)
  (hm:lastMarks [op,g] [b,c]=false:=by with_unfolding_all rfl):PE X (.Compare a [op,g] [b,c] pos) (u9 r O ta tb tc):=by
 intro p9 s Y H Q I h;show Compare_chain (thn (ha p9 s Y H _ I h) λv s1 zZ=>?_) hm;let(x,H1,I1,r1,q1):=zZ;show chain_link (thn (hb p9 s1 Y H1 _ I1 q1) λu s2 zZ=>?_);let(y,H2,I2,U,q2):=zZ;show thn (ho p9 s2 Y H2 x y v u _ I2 r1 U q2) λd s3 zZ=>?_;let(z,J,L,r3,k,e,N):=zZ
 subst e;cases r3;show eD ?_;cases k with
 |false=>exact ite_ff ⟨.bl false,J,L,rfl,N⟩
 |true=>show ite_tt (chain_last (thn (hc p9 s3 Y J _ L N) λw' s4 zZ=>?_));let(z',H4,I4,r4,q4):=zZ;exact q p9 s4 Y H4 y z' u w' Q I4 U r4 q4
theorem Tf{op g:CmpOp}{r O:R2}(ho:OpR X (compareOp op) r)(q:OpR X (compareOp g) O)(ha:PE X a ta)(hb:PE X b tb)(hc:PE X c tc)
  (hm:lastMarks [op,g] [b,c]=false:=by with_unfolding_all rfl):PT X (.Compare a [op,g] [b,c] pos) (Bu (u9 r O ta tb tc)):=by
 intro p9 s Y H Q I h;show isTrue_chain (thn (ha p9 s Y H _ I h) λv s1 zZ=>?_) hm;let(x,H1,I1,r1,q1):=zZ;show test_link (thn (hb p9 s1 Y H1 _ I1 q1) λu s2 zZ=>?_);let(y,H2,I2,U,q2):=zZ;show thn (ho p9 s2 Y H2 x y v u _ I2 r1 U q2) λd s3 zZ=>?_;let(z,J,L,r3,k,e,N):=zZ
 subst e;cases r3;show eD ?_;cases k with
 |false=>
  let(k',e',q'):=N;cases e';exact ite_ff ⟨J,L,q'⟩
 |true=>
  show ite_tt (test_last (thn (hc p9 s3 Y J _ L N) λw' s4 zZ=>?_));let(z',H4,I4,r4,q4):=zZ;show thn (q p9 s4 Y H4 y z' u w' _ I4 U r4 q4) λd' s5 zZ=>?_;let(z2,H5,I5,r5,k2,e2,q5):=zZ;subst e2;cases r5;exact eD ⟨H5,I5,q5⟩
def qM(K:PF)(x:V)(H:Hp)(k:Bool):Prop:=
 match x with
 |.non=>k=false
 |.bl b=>k=b
 |.int i=>k=(i != 0)
 |.str y=>y⁻¹<=sizeLine/\k=((y⁻¹:Int) != 0)
 |.byt y=>y.size<=sizeLine/\k=((y.size:Int) != 0)
 |.ref p=>(∃xs,SqL K H p xs/\k=!xs.isEmpty)\/(∃xs,SqT K H p xs/\k=!xs.isEmpty)\/∃g,H p=-(.dK g)/\k=!g.isEmpty
 |_=>False
theorem Th{κ:Type}{g:List (κ×V)}{vs:List (κ×AN)}(r:KV g vs):(!vs.isEmpty)=!g.isEmpty:=by cases r<;>rfl
theorem Bv{xs:AR}{g:AB}(r:Vals xs g):(!g.toArray.isEmpty)=!xs.isEmpty:=by cases r<;>simp
theorem iy:(sizeLine:Nat)<2 ^ 63:=by rw[fF];decide
theorem Bw:Sv X (λx H Q=>∃k,qM X.K x H k/\Q k H):=by
 intro p9 s Y H x v Q I L h;let(k,e,q):=h;have hl:=iy;have hs:sizeLine=16777216:=fF;cases x with
 |non=>
  cases L;have g:k=false:=e;subst g;exact truthy_none ⟨H,I,q⟩
 |bl b=>
  cases L;have g:k=b:=e;subst g;exact eD ⟨H,I,q⟩
 |int i=>
  let(t,rfl):=L;have g:k=(i != 0):=e;subst g;exact PySem.P.truthy_int ⟨H,I,q⟩
 |str y=>
  let(t,rfl):=L;obtain⟨hy,g⟩:y⁻¹<=sizeLine/\k=((y⁻¹:Int) != 0):=e;subst g;exact PySem.P.truthy_str (!0) ⟨H,I.tok _,q⟩
 |byt y=>
  let(t,rfl):=L;obtain⟨hy,g⟩:y.size<=sizeLine/\k=((y.size:Int) != 0):=e;subst g;exact PySem.W.truthy_bytes (!0) ⟨H,I.tok _,q⟩
 |ref p=>
  cases L;have g:(∃xs,SqL X.K H p xs/\k=!xs.isEmpty)\/(∃xs,SqT X.K H p xs/\k=!xs.isEmpty)\/∃z,H p=-(.dK z)/\k=!z.isEmpty:=e;rcases g with⟨xs,N,g⟩|⟨xs,N,g⟩|⟨z,N,g⟩
  .subst g;let(O,r,U,hz):=I.list N;have J:=r⁻¹;exact wpAny_truthy_list U.isList (by simp only[ax];lia) ⟨H,I.tok _,by rw[Bv r];exact q⟩
  .subst g;let(O,r,U,hz):=I.tuple N;have J:=r⁻¹;exact truthy_tuple U (by simp only[ax];lia) ⟨H,I.tok _,by rw[Bv r];exact q⟩
  .subst g;obtain⟨hz,hS,vs,r,m⟩:z⁻¹<=sizeLine/\(p==sysModules)=false/\∃vs,KV z vs/\s.heap.DictOf (b7 X.prog X.w) p vs:=I.hok p _ N;have J:z⁻¹=vs⁻¹:=ga r;exact wpAny_truthy_dict hS m (!0) ⟨H,I.tok _,by rw[Th r];exact q⟩
 |_=>exact(show False from e).elim
theorem Ti(q:PE X a ta)(he:∀whole,isTrue a X.env whole=(do let v <-whole;standAt a.pos;holding [v] (truthy v))):
  PT X a (λY H Q=>ta Y H λx H'=>∃k,qM X.K x H' k/\Q k H'):=by
 intro p9 s Y H Q I h;show isTrue_plain (thn (q p9 s Y H _ I h) λv L zZ=>?_) (he _);let(x,H1,g,J,z):=zZ;exact Bw p9 L Y H1 x v Q g J z
theorem Tj:OpR X (binaryOp .Add) (λx y H Q=>∃i j,x=.str i/\y=.str j/\i⁻¹+j⁻¹<=sizeLine/\Q (.str (i++j)) H):=by intro p9 s Y H x y v u Q I z J h;let(i,j,rfl,rfl,g,q):=h;let(t,rfl):=z;let(t',rfl):=J;exact add_str (λt' L=>⟨.str (i++j),H,I.tok _,⟨_,rfl⟩,q⟩) g
theorem Tn:OpR X (inplaceOp .Add) (λx y H Q=>∃i j,x=.str i/\y=.str j/\i⁻¹+j⁻¹<=sizeLine/\Q (.str (i++j)) H):=by intro p9 s Y H x y v u Q I z J h;let(i,j,rfl,rfl,g,q):=h;let(t,rfl):=z;let(t',rfl):=J;exact iadd_str (λt' L=>⟨.str (i++j),H,I.tok _,⟨_,rfl⟩,q⟩) g
theorem vals1{x:V}{g:AB}(r:Vals [x] g):∃u,g=[u]/\RelV x u:=by
 cases r with
 |cons q z=>cases z;exact⟨_,rfl,q⟩
theorem vals2{x y:V}{g:AB}(r:Vals [x,y] g):∃u q,g=[u,q]/\RelV x u/\RelV y q:=by
 cases r with
 |cons z J=>
  cases J with
  |cons L N=>cases N;exact⟨_,_,rfl,z,L⟩
theorem Bx:bf X (.type "int") (λxs H Q=>(∃i,xs=[.int i]/\Q (.int i) H)\/∃k,xs=[.bl k]/\Q (.int (if k then 1 else 0)) H):=by
 intro p9 s Y H xs z Q I r h;rcases h with⟨i,rfl,q⟩|⟨k,rfl,q⟩
 .let(u,rfl,t,rfl):=vals1 r;exact call_int_int ⟨.int i,H,I,⟨_,rfl⟩,q⟩
 .let(u,rfl,g):=vals1 r;cases g;exact call_int_bool ⟨.int (if k then 1 else 0),H,I.tok _,⟨_,rfl⟩,q⟩
end
structure ObjM(h:Heap)(x dx C:AQ)(mA:AH):Prop where
 obj:h.get? x=some (PySem.W.instObj C dx)
 ns:h.Ns1 dx mA
 ne:dx≠x
def Tp{h:Heap}{dx:AQ}{J:AH}(n:h.Ns1 dx J):∃L,h.get? dx=-L/\∀name,PySem.W.lookIn name L=-(J name):=by
 let(o,es,ep,ho,O,U,_,Y):=n;show⟨o,ho,λname=>?_⟩;have e:=Y name;unfold nsFind findBy at e;rw[<-Array.find?_toList]at e;unfold PySem.W.lookIn;rw[O];dsimp only;split
 .rename_i y q;rw[q]at e;exact fb some e
 .rename_i q;rw[q]at e;have a:es.toList.any (·.refKey)=false:=by
   rw[List.any_eq_false];intro y hy;let(z,t,g):=U y (Array.mem_toList_iff.mp hy);simp[DictEntry.refKey,g]
  have N:¬es.toList.any (·.refKey)=true:=by rw[a];exact bB
  rw[if_neg N];exact fb some e
def ObjM.look{h:Heap}{x dx C:AQ}{q:AH}(I:ObjM h x dx C q):∃g,PySem.W.InstAt h x (PySem.W.instObj C dx) C (-g)/\∀name,PySem.W.lookIn name g=-(q name):=
 let⟨g,ho,hl⟩:=Tp I.ns
 ⟨g,⟨I.obj,rfl,rfl,ho⟩,hl⟩
def RelO.some_of{v:V}{o:Option AN}(r:RelO (-v) o):∃u,o=-u/\RelV v u:=by
 cases o with
 |none=>exact(show False from r).elim
 |some u=>exact⟨u,rfl,r⟩
section
variable {P:AK} {w:World} {H H':Hp} {h h':Heap} {a C dx:AQ} {fs fs':List (Str×V)}
theorem Tq(J:HOk P w H h)(e:H a=-(.ins C dx fs)):∃g,ObjM h a dx C g/\(∀f,RelO (fs.lookup f) (g f))/\PySem.Within g (fs.map (·.1))/\fs⁻¹<=1000/\H dx=-(.own a):=by let(d,z,ne,ob,g,n,r,q):=(show ObjOk P w H h a (.ins C dx fs) from J a _ e);exact⟨g,⟨ob,n,ne⟩,r,q,z,d⟩
end
structure Cls(K:PF)(C:AQ):Prop where
 pg:PySem.W.plainGet K C Str.empty=true
 hd:PySem.W.hasDictIn K C=true
 po:PySem.W.plainOver K C=true
 sa:PySem.W.findIn K (.ref C) "__setattr__"=some (some (.builtin "object.__setattr__"))
def Cls.get{K:PF}{C:AQ}(c:Cls K C)(f:Str):PySem.W.plainGet K C f=true:=c.pg
def Tt(K:PF)(C:AQ)(f:Str):Prop:=PySem.W.findIn K (.ref C) f=-none
structure Meth(K:PF)(C:AQ)(m:Str)(f:AQ):Prop where
 at_:PySem.W.findIn K (.ref C) m=some (some (.ref f))
 fn:PySem.W.isFn K (.ref f)=true
 kp:PySem.W.keepIn K (.ref f)=true
section
variable {X:Cx} {p9:AC} {σ:St} {H:Hp} {s:AI} {A:AM} {E:AG} {Q:AG} {c:AN} {b:Bool}
inductive TyOf (K:PF) (H:Hp):V->AN->Prop where
 |non:TyOf K H .non (.type "NoneType")
 |bl (x:Bool):TyOf K H (.bl x) (.type "bool")
 |int (i:Int):TyOf K H (.int i) (.type "int")
 |str (x:Str):TyOf K H (.str x) (.type "str")
 |flt (x:UInt64):TyOf K H (.flt x) (.type "float")
 |lst {a:AQ} {xs:AR} (e:H a=some (.lst xs)):TyOf K H (.ref a) (.type "list")
 |frz {a:AQ} {o:Obj} {xs:AR} (e:H a=some (.frz o (.lst xs))):TyOf K H (.ref a) (.type "list")
 |tup {a:AQ} {xs:AR} (e:H a=some (.tup xs)):TyOf K H (.ref a) (.type "tuple")
 |dK {a:AQ} {kvs:List (Key×V)} (e:H a=some (.dK kvs)):TyOf K H (.ref a) (.type "dict")
 |dT {a:AQ} {kvs:List (List Key×V)} (e:H a=some (.dT kvs)):TyOf K H (.ref a) (.type "dict")
 |ins {a C dx:AQ} {fs:List (Str×V)} (e:H a=some (.ins C dx fs)) (cl:Cls K C) (ha:PySem.W.findIn K (.ref C) "__class__"=some (some (.builtin "object.__class__")))
   (hn:PySem.W.specialIn K (.builtin "object.__class__") "__get__"=some (some (.builtin "getset_descriptor.__get__"))) (htk:PySem.W.takesIn K (.builtin "object.__class__")=some true)
   (hm:PySem.W.mroIn K C (.type "object")=some true):TyOf K H (.ref a) (.ref C)
theorem Tu{x:V}{u t:AN}(I:Inv X p9 σ H s)(g:RelV x u)(ty:TyOf X.K H x t)(e:PySem.W.kitOne X.K t c=-b)(h:∀L,Q (.bool b) {s with toks:=L}):
  wpAny (model X.prog X.w) A (call (.builtin "isinstance") [u,c]) Q E s:=by
 cases ty with
 |non=>cases(show u=Value.none from g);exact d0 PySem.W.kitx_none I.kIn fS e (λz=>nomatch z) h
 |bl y=>cases(show u=Value.bool y from g);exact d0 PySem.W.kitx_bool I.kIn fS e (λz=>nomatch z) h
 |int i=>let(t,q):=(show ∃t,u=Value.int i t from g);cases q;exact d0 PySem.W.kitx_int I.kIn fS e (λz=>nomatch z) h
 |str y=>let(t,q):=(show ∃t,u=Value.str y t from g);cases q;exact d0 PySem.W.kitx_str I.kIn fS e (λz=>nomatch z) h
 |flt y=>let(t,q):=(show ∃t,u=Value.float y t from g);cases q;exact d0 PySem.W.kitx_float I.kIn fS e (λz=>nomatch z) h
 | @lst a xs ea=>
  cases(show u=Value.ref a from g);let(_,_,n,_,h1):=(show ObjOk X.prog X.w H s.heap a (.lst xs) from I.hok a _ ea);exact d0 PySem.W.kitx_list I.kIn ⟨_,h1,rfl⟩ e (λz=>nomatch z) h
 | @frz a ob xs ea=>
  cases(show u=Value.ref a from g);let(_,_,_,n,_,h1):=(show ObjOk X.prog X.w H s.heap a (.frz ob (.lst xs)) from I.hok a _ ea);exact d0 PySem.W.kitx_list I.kIn ⟨_,h1,rfl⟩ e (λz=>nomatch z) h
 | @tup a xs ea=>
  cases(show u=Value.ref a from g);let(_,_,_,p):=(show ObjOk X.prog X.w H s.heap a (.tup xs) from I.hok a _ ea);let(o,h1,h2,_):=p;exact d0 PySem.W.kitx_tuple I.kIn ⟨o,h1,h2.1⟩ e (λz=>nomatch z) h
 | @dK a kvs ea=>
  cases(show u=Value.ref a from g);let(_,_,vs,_,p):=(show ObjOk X.prog X.w H s.heap a (.dK kvs) from I.hok a _ ea);let(o,es,ep,h1,h2,_):=p;exact d0 PySem.W.kitx_dict I.kIn ⟨o,h1,h2.1⟩ e (λz=>nomatch z) h
 | @dT a kvs ea=>
  cases(show u=Value.ref a from g);let(_,_,xs,_,o,es,ep,h1,h2,_):=(show ObjOk X.prog X.w H s.heap a (.dT kvs) from I.hok a _ ea);exact d0 PySem.W.kitx_dict I.kIn ⟨o,h1,h2.1⟩ e (λz=>nomatch z) h
 | @ins a C dx fs ea cl ha hn htk hm=>
  cases(show u=Value.ref a from g);let(N,O,_):=Tq I.hok ea;let(U,J,_):=O.look;exact d0 (PySem.W.kitx_own (cl.get _) cl.hd ha hn htk hm) I.kIn J e (λz=>nomatch z) h
end
structure Room(k:Nat)(A:AM):Prop where
 hd:A.handled=none
 dp:A.depth+3 * k+5 < recursionLimit
 un:A.units+16 * k+200 < cLine
def Room.mono{j k:Nat}{A:AM}(r:Room k A)(h:j<=k):Room j A:=⟨r.hd,by have:=r.dp;lia,by have:=r.un;lia⟩
def Room.deeper{k:Nat}{A:AM}(r:Room (k+1) A)(env:Env):Room k (A.deeper env):=
 ⟨r.hd,by have:=r.dp;change A.depth+1+3*k+5<_;lia,by have:=r.un;change A.units+3+16*k+200<_;lia⟩
def Room.depth{k:Nat}{A:AM}(r:Room k A):A.depth<recursionLimit:=by have:=r.dp;lia
def Tv:TA:=λz H Q=>Q [] H
def By(ta:TE)(g:TA):TA:=λY H Q=>ta Y H λx H1=>g Y H1 λxs H2=>Q (x::xs) H2
section
variable {X:Cx} {e:AO} {es:AE} {te:TE} {t:TA} {pos:Pos}
theorem fQ:PA X [] Tv:=λz z z z H Q I h=>Calls.spliced_nil ⟨[],H,I,.nil,h⟩
theorem eE(z:PE X e te)(J:PA X es t)(hs:starEach (e::es) X.env=(false,eval e X.env)::starEach es X.env:=by rfl):PA X (e::es) (By te t):=by intro pos p9 s Y H Q I h;rw[hs];change wpAny _ _ (spliced ((false,eval e X.env)::backTo pos (starEach es X.env))) _ _ s;show Calls.spliced_cons (thn (z p9 s Y H _ I h) λu s1 zZ=>?_);let(x,H1,g,O,L):=zZ;show thn (J pos p9 s1 Y H1 _ g L) λus s2 zZ=>?_;let(xs,H2,q,U,N):=zZ;exact⟨x::xs,H2,q,.cons O U,N⟩
def Tw(t:TA):TE:=λY H Q=>t Y H λxs H1=>xs⁻¹<=sizeLine/\∀p,H1 p=none->Q (.ref p) (upd H1 p (.tup xs))
def Tz(t:TA):TE:=λY H Q=>t Y H λxs H1=>xs⁻¹<=sizeLine/\∀p,H1 p=none->Q (.ref p) (upd H1 p (.lst xs))
theorem TF{x1}(h:PA X es t):PE X (.Tuple es x1 pos) (Tw t):=by intro p9 s Y H Q I N;show wpAny_Tuple_spliced (thn (h pos p9 s Y H _ I N) λO g zZ=>?_);let(xs,H1,J,r,z,q):=zZ;show⟨by rw[<-r⁻¹];exact z,?_⟩;have L:H1 g.heap.objs.size=none:=J.hok.fresh (av _);show⟨.ref g.heap.objs.size,upd H1 g.heap.objs.size (.tup xs),J.laid (t':=g.toks) (λb u e=>ag _ e) (av _) ?_,rfl,q _ L⟩;exact⟨z,O,r,⟨_,aT _ rfl,⟨rfl,rfl⟩,_,rfl⟩⟩
theorem TJ(h:PA X es t):PE X (.List es pos) (Tz t):=by intro p9 s Y H Q I N;show wpAny_List_spliced (thn (h pos p9 s Y H _ I N) λO g zZ=>?_);let(xs,H1,J,r,z,q):=zZ;show⟨by rw[<-r⁻¹];exact z,?_⟩;have L:H1 g.heap.objs.size=none:=J.hok.fresh (av _);show⟨.ref g.heap.objs.size,upd H1 g.heap.objs.size (.lst xs),J.laid (t':=g.toks) (λb u e=>ag _ e) (av _) ?_,rfl,q _ L⟩;exact⟨z,O,0,r,aT _ rfl⟩
end
abbrev Sp:=AR->Hp->VK->XK->Prop
abbrev CXT:=List Env->Hp->AI->XK->AN->AI->Prop
structure Env0(P:AK)(w:World)(K:PF)(mg:AH)(base:Heap)(A:AM)(outer:List Env)(s:AI)(H:Hp):Prop where
 frames:A.frames=some outer
 mod:Mod K mg base
 bs:∀b o,base.get? b=some o->s.heap.get? b=some o/\H b=none
 bsz:base.objs.size<=(~~~s)
 funs:s.heap.FunFrames base outer
 frf:∀b∈frs outer,H b=none
 hok:HOk P w H s.heap
 bare:AllBare s.gens
def CE(outer:List Env)(P:AK)(w:World)(H:Hp)(s:AI)(Q:VK)(u:AN)(s':AI):Prop:=
 ∃v H',s'.os=s.os/\AllBare s'.gens/\Un (frs outer) [] H H' s.heap s'.heap/\HOk P w H' s'.heap/\RelV v u/\Q v H'
def CR(CX:CXT)(outer:List Env)(P:AK)(w:World)(H:Hp)(s:AI)(Q:VK)(E:XK)(r:Result)(s':AI):Prop:=
 match r with
 |.ok (.ret u)=>CE outer P w H s Q u s'
 |.ok _=>False
 |.error e=>CX outer H s E e s'
structure FnOk(P:AK)(w:World)(K:PF)(mg:AH)(base:Heap)(CX:CXT)(k:Nat)(f:AQ)(fd:AJ)(ps:AD)(sp:Sp):Prop where
 len:∀vs H Q E,sp vs H Q E->vs.length=ps.length
 run:∀(A:AM)(outer:List Env)(s:AI)(H:Hp)(args:Args)(us:AB)(vs:AR)(Q:VK)(E:XK),Room k A->Env0 P w K mg base A outer s H->BindsTo s fd args (ps.zip us)->Vals vs us->sp vs H Q E->
  codeAny (model P w) A (.call (.ref f) args) (CR CX outer P w H s Q E) s
def FnOk.mono{P:AK}{w:World}{K:PF}{mg:AH}{base:Heap}{CX:CXT}{j k:Nat}{f:AQ}{fd:AJ}{ps:AD}{sp:Sp}(F:FnOk P w K mg base CX j f fd ps sp)(h:j<=k):
  FnOk P w K mg base CX k f fd ps sp:=⟨F.len,λA outer s H args q vs Q E g=>F.run A outer s H args q vs Q E (g.mono h)⟩
def FnOk.imp{P:AK}{w:World}{K:PF}{mg:AH}{base:Heap}{CX:CXT}{k:Nat}{f:AQ}{fd:AJ}{ps:AD}{sp g:Sp}(F:FnOk P w K mg base CX k f fd ps sp)
  (h:∀vs H Q E,g vs H Q E->sp vs H Q E):FnOk P w K mg base CX k f fd ps g:=
 ⟨λvs H Q E q=>F.len vs H Q E (h _ _ _ _ q),λA outer s H args N vs Q E J he z L hs=>F.run A outer s H args N vs Q E J he z L (h _ _ _ _ hs)⟩
section
variable {X:Cx} {p9:AC} {σ:St} {H:Hp} {s s':AI}
theorem Inv.env0(I:Inv X p9 σ H s):Env0 X.prog X.w X.K X.mg X.base X.A X.stack s H:=
 ⟨I.ok.frames,I.ok.mod,I.bs,cf I.ok.bsz I.sz,I.stack,I.stkFree,I.hok,I.bare⟩
theorem Inv.after{Q:VK}{u:AN}(I:Inv X p9 σ H s)(h:CE X.stack X.prog X.w H s Q u s'):EP X p9 σ Q u s':=by let(v,H',os,J,un,L,r,q):=h;let(hh,g,d,t,N):=s';obtain rfl:N=s.os:=os;exact⟨v,H',I.call (h':=hh) (g':=g) (d':=d) (t':=t) (ch:=[]) un L J (λb z=>absurd z (!2)),r,q⟩
end
def TQ(sp:Sp)(dvs:AR)(E:XK)(t:TA):TE:=λY H Q=>t Y H λvs H1=>sp (vs++dvs) H1 Q E
def Binds(K:PF)(fd:AJ)(ps:AD)(ds:AB):Prop:=
 ∀(s:AI)(g:AB),K.In s.heap->(g++ds)⁻¹=ps⁻¹->BindsTo s fd ⟨g,[]⟩ (ps.zip (g++ds))
def Binds.all{K:PF}{fd:AJ}{ps:AD}(h:∀g:AB,g⁻¹=ps⁻¹->bindArgs fd ⟨g,[]⟩=pure (ps.zip g)):Binds K fd ps []:=λs g z hl=>by
 rw[fy]at hl ⊢;exact .of_eq (h g hl)
def kh(CX:CXT)(X:Cx)(E:XK):Prop:=∀(p9:AC)(Y:St)(H:Hp)(s:AI)(e:AN)(s':AI),Inv X p9 Y H s->CX X.stack H s E e s'->X.xe e s'
section
variable {X:Cx} {CX:CXT} {k:Nat} {f C:AQ} {fd:AJ} {ps:AD} {sp:Sp} {dvs:AR} {ds:AB} {E:XK} {x m:Str} {p pos apos:Pos} {e o:AO} {es:AE} {ta:TE} {t:TA}
theorem TV{p9:AC}{Y:St}{H:Hp}{s:AI}{Q:VK}{g:AB}{vs:AR}(F:FnOk X.prog X.w X.K X.mg X.base CX k f fd ps sp)(O:Room k X.A)(L:Binds X.K fd ps ds)(N:Vals dvs ds)(U:kh CX X E)
  (I:Inv X p9 Y H s) (r:Vals vs g) (h:sp (vs++dvs) H Q E):↥X (call (.ref f) g) (EP X p9 Y Q) X.xe s:=by
 have z:Vals (vs++dvs) (g++ds):=r.append N;have hl:(g++ds)⁻¹=ps⁻¹:=by rw[<-z⁻¹];exact F.len _ _ _ _ h
 show wpAny_call (codeAny_mono (F.run X.A X.stack s H ⟨g,[]⟩ (g++ds) (vs++dvs) Q E O I.env0 (L s g I.kIn hl) z h) λr s' q=>?_);cases r with
 |error e=>exact U p9 Y H s e s' I q
 |ok J=>
  cases J with
  |ret u=>exact I.after q
  |next=>exact False.elim q
  |brk=>exact False.elim q
  |cont=>exact False.elim q
theorem TX(F:FnOk X.prog X.w X.K X.mg X.base CX k f fd ps sp)(hr:Room k X.A)(U:Gl X x)(hm:X.mg x=-(.ref f))(hk:PySem.W.keepIn X.K (.ref f)=true)(N:Binds X.K fd ps ds)(O:Vals dvs ds)(hx:kh CX X E)
  (L:PA X (e::es) t) (g:(x==("__debug__":Str))=false:=by decide) (he:starEach (e::es) X.env=(false,eval e X.env)::starEach es X.env:=by rfl) (z:(backTo pos (starEach es X.env)).any (·.1)=false:=by rfl):
  PE X (.Call (.Name x p) (e::es) [] pos) (TQ sp dvs E t):=by
 intro p9 s Y H Q I h;show wpAny_Call_Name_kw (Bj I U hm ?_ g);show PySem.W.callWith_K (h₀:=X.base) I.ok.mod.kin hk (thn (L pos p9 s Y H _ I h) λus s1 zZ=>?_) he z;let(vs,H1,J,r,q):=zZ;show⟨J.kIn,?_⟩;exact TV F hr N O hx J r q
structure Mk(K:PF)(C f:AQ):Prop where
 makes:PySem.W.makesIn K C=true
 init:PySem.W.findIn K (.ref C) "__init__"=some (some (.ref f))
 fn:PySem.W.isFn K (.ref f)=true
 kp:PySem.W.keepIn K (.ref C)=true
end
structure FnScope(N P:AD)(sc:Scope):Prop where
 kind:sc.kind=.function
 co:sc.isCoroutine=false
 gen:sc.isGenerator=false
 nd:N.Nodup
 pre:N.take P.length=P
 par:∀x∈P,sc.names.lookup x=some .local\/sc.names.lookup x=some .cell
 nofree:∀y∈sc.names,y.2≠.free
def BJ{g:Str->Option NameKind}{x:Str}:∀{binds:List (Str×AN)}{m:AH},(∀v,(x,v)∉binds)->bindL g binds m x=m x
 |[],_,_=>rfl
 | (n,v)::r,m,h=>by
  unfold bindL;rw[BJ λw hw=>h w (bS _ hw)];split
  .have:x≠n:=by rintro rfl;exact h v bp
   simp[this]
  .rfl
def BK{g:Str->Option NameKind}{x:Str}:∀{binds:List (Str×AN)}{m:AH},(∀v,(x,v)∉binds)->bindC g binds m x=m x
 |[],_,_=>rfl
 | (n,v)::r,m,h=>by
  unfold bindC;rw[BK λw hw=>h w (bS _ hw)];split
  .rfl
  .have:x≠n:=by rintro rfl;exact h v bp
   simp[this]
def BL{g:Str->Option NameKind}{x:Str}{v:AN}:∀{P:AD}{vs:AB}{i:Nat}{m:AH},P.Nodup->P[i]?=-x->vs[i]?=-v->g x=-.local->
  bindL g (P.zip vs) m x=-v
 |[],_,_,_,_,h,_,_=>by simp at h
 |_::_,[],_,_,_,_,h,_=>by simp at h
 |p::P,w::vs,0,m,nd,h1,h2,hk=>by
  simp at h1 h2;subst h1;subst h2;change bindL g ((p,w)::P.zip vs) m p=_;unfold bindL;rw[BJ λv q=>(c6.mp nd).1 (List.of_mem_zip q).1,if_pos hk];simp
 |p::P,w::vs,i+1,m,nd,h1,h2,hk=>by
  change bindL g ((p,w)::P.zip vs) m x=_;unfold bindL;exact BL (i:=i) (c6.mp nd).2 (!!h1) (!!h2) hk
def BP{g:Str->Option NameKind}{x:Str}{v:AN}:∀{P:AD}{vs:AB}{i:Nat}{m:AH},P.Nodup->P[i]?=-x->vs[i]?=-v->g x≠some .local->
  bindC g (P.zip vs) m x=-v
 |[],_,_,_,_,h,_,_=>by simp at h
 |_::_,[],_,_,_,_,h,_=>by simp at h
 |p::P,w::vs,0,m,nd,h1,h2,hk=>by
  simp at h1 h2;subst h1;subst h2;change bindC g ((p,w)::P.zip vs) m p=_;unfold bindC;rw[BK λv q=>(c6.mp nd).1 (List.of_mem_zip q).1,if_neg hk];simp
 |p::P,w::vs,i+1,m,nd,h1,h2,hk=>by
  change bindC g ((p,w)::P.zip vs) m x=_;unfold bindC;exact BP (i:=i) (c6.mp nd).2 (!!h1) (!!h2) hk
def start(N:AD)(vs:AR):St:=vs.map some++List.replicate (N⁻¹-vs⁻¹) none
def dX(CX:CXT)(P:AK)(w:World)(K:PF)(mg:AH)(base:Heap)(N:AD)(g:Str)(scope:Scope)(f:AQ)(z:AN)(A:AM)(outer:List Env)(s:AI)(H:Hp)(E:XK):Cx where
 prog:=P
 w:=w
 K:=K
 mg:=mg
 base:=base
 A:=A.deeper (envOfC g scope (~~~s) f z)
 N:=N
 s₀:=s
 H₀:=H
 env:=envOfC g scope (~~~s) f z
 outer:=outer
 stack:=envOfC g scope (~~~s) f z::outer
 ex:=[]
 calm:=true
 fn:=λy=>true
 pn:=[]
 xe:=λe s'=>wpAny (model P w) (A.deeper (envOfC g scope (~~~s) f z)) (leaving (envOfC g scope (~~~s) f z) e) (λy q=>CX outer H s E e q) (λJ q=>CX outer H s E J q) s'
def BR{g:Scope}{n:Nat}{x:Str}(h:g.names.lookup x=-.cell):∃c,(cellsFrom n g.names []).lookup x=-c:=by have q:=PySem.W.cellsFrom_some g.names n [] (.inl h);exact cq.mp q
def BV{CX:CXT}{P:AK}{w:World}{K:PF}{mg:AH}{base:Heap}{N ps:AD}{g:Str}{scope:Scope}{f:AQ}{cd:AN}{A:AM}{outer:List Env}{s s1:AI}{H:Hp}{E:XK}{us:AB}{vs:AR}
  (S:FnScope N ps scope) (hd:A.handled=none) (J:Env0 P w K mg base A outer s H) (hl:vs⁻¹=ps⁻¹) (r:Vals vs us)
  (x:InCallC s (~~~s) (bindL (envOfC g scope (~~~s) f cd).kindOf (ps.zip us) λt=>none) (cellsFrom ((~~~s)+1) scope.names []) (bindC (envOfC g scope (~~~s) f cd).kindOf (ps.zip us) λt=>none) s1):
  Inv (dX CX P w K mg base N g scope f cd A outer s H E) [] (start N vs) H s1:=by
 have hpl:ps⁻¹<=N⁻¹:=by have:=fb List.length S.pre;rw[d4]at this;lia
 let(h1,tk,rfl,hk):=x.done;have O:∀b:AQ,b∉(dX CX P w K mg base N g scope f cd A outer s H E).ex:=λb z=>absurd (show b∈([]:List AQ) from z) (!2);show⟨⟨J.mod,S.kind,rfl,rfl,av _,λy z c h1 h2=>?_,λy L=>?_,λy c t h=>?_,λt=>hd,Around.frames_deeper J.frames,.inr ⟨rfl,rfl⟩,λb z=>absurd z (O b),J.bs,J.bsz,λb t t=>O b,λb z=>absurd z (O b),J.funs,J.frf⟩,
  rfl,J.bare,Un.kept hk,⟨_,x.toInCall.ns,λi y v h1 h2 h3=>?_⟩,λy c h=>⟨_,x.cell y c h⟩,J.hok.fresh (av _),λy c h=>?_,λp U=>absurd (show p∈([]:AC) from U) (!2),J.hok.kept hk,?_⟩
 .exact name_of_addr x.apart (ee h1) (ee h2)
 .have L:scope.names.lookup y=-.cell\/scope.names.lookup y=-.free:=L;rcases L with L|L
  .exact BR L
  .exact absurd rfl (S.nofree _ (ee L))
 .exact gE (x.above y c (ee h))
 .have hi:i<vs⁻¹:=by
   unfold start at h2;by_cases hi:i<vs⁻¹
   .exact hi
   .rw[fe (!!hi)]at h2;rw[List.getElem?_replicate]at h2;split at h2<;>cases h2
  have ha:vs[i]?=-v:=by
   unfold start at h2;rw[b4 (!!hi),aS]at h2;cases e:vs[i]? with
   |none=>rw[e]at h2;cases h2
   |some a=>rw[e]at h2;cases h2;rfl
  let(u,hu,rv):=r.get ha;have U:ps[i]?=-y:=by rw[<-S.pre,List.getElem?_take_of_lt (!0)];exact h1
  have Y:ps.Nodup:=by rw[<-S.pre];exact S.nd.sublist (List.take_sublist _ _)
  show⟨u,rv,?_⟩;rcases S.par y (br U) with k|k
  .exact .inl ⟨k,BL Y U hu k⟩
  .let(c,e):=BR (n:=(~~~s)+1) k;show .inr ⟨.inl k,c,e,?_⟩;have q:=x.cell y c e;rw[BP Y U hu (by change scope.names.lookup y≠_;rw[k];decide)]at q;exact q
 .exact J.hok.fresh (gE (x.above y c (ee h)))
 .unfold start;change _=N⁻¹;rw[am,af,cm];lia
def TY{CX:CXT}{P:AK}{w:World}{K:PF}{mg:AH}{base:Heap}{k:Nat}{f:AQ}{name g:Str}{params:Arguments}{body:AF}{scope:Scope}{dV kV Y pm z ct oc:AN}{an od:Option AQ}
  {osl:Array (Option AN)} {N ps:AD} {sp:Sp} (lk:K.lookup f=-⟨oc,od,.func (PySem.W.fnOf name g params body scope dV kV Y pm an z ct),osl⟩) (hcd:PySem.W.codeIn K z g=true) (S:FnScope N ps scope)
  (len:∀vs H Q E,sp vs H Q E->vs⁻¹=ps⁻¹)
  (O:∀(A:AM)(outer:List Env)(s:AI)(H:Hp)(vs:AR)(Q:VK)(E:XK),Room k (A.deeper (envOfC g scope (~~~s) f z))->sp vs H Q E->
   ∃t,PSs (dX CX P w K mg base N g scope f z A outer s H E) body t/\t {nx:=λp H'=>Q .non H',rt:=Q} (start N vs) H):
  FnOk P w K mg base CX (k+1) f (PySem.W.fnOf name g params body scope dV kV Y pm an z ct) ps sp:=by
 show⟨len,λA outer s H args us vs Q E hr e0 hb r hsp=>?_⟩;have hl:=len _ _ _ _ hsp;have KX:K.In s.heap:=e0.mod.kin.keeps λb o e=>(e0.bs b o e).1;have lim:s.heap.NoLimit:=e0.mod.nolimit.keeps λb o e=>(e0.bs b o e).1;have U:∀y∈ps.zip us,scope.names.lookup y.1=-.local\/(scope.names.lookup y.1=-.cell/\((cellsFrom ((~~~s)+1) scope.names []).lookup y.1).isSome=true):=λzZ hy=>by
  let(n,v):=zZ;rcases S.par n (List.of_mem_zip hy).1 with q|q
  .exact .inl q
  .exact .inr ⟨q,PySem.W.cellsFrom_some _ _ _ (.inl q)⟩
 show codeAny_call_function hr.depth (KX _ _ lk) rfl S.co S.gen rfl (PySem.W.codeRec_of KX hcd) (hb _ _ _ _ ?_);show wpAny_newFunctionEnv_cells S.kind U λenv he s1 x=>?_;subst he;show⟨lim.keeps x.toInCall.keep,codeAny_func ?_⟩;let(t,ht,hq):=O A outer s H vs Q E (hr.deeper _) hsp;have I:Inv (dX CX P w K mg base N g scope f z A outer s H E) [] (start N vs) H s1:=BV S hr.hd e0 hl r x;show dQ (ht [] s1 (start N vs) H _ I hq) (λfl s' hs=>?_) λe s' hs=>hs;have fin:∀{L:St}{H':Hp}{v:V}{u:AN},Inv (dX CX P w K mg base N g scope f z A outer s H E) [] L H' s'->RelV v u->Q v H'->CE outer P w H s Q u s':=
  λ{L H' v u} J rv q=>⟨v,H',J.os,J.bare,J.base,J.hok,rv,q⟩
 cases fl with
 |ret u=>
  let(v,L,H',J,rv,q):=hs;exact fin J rv q
 |next=>
  let(L,H',J,q):=hs;exact fin (v:=V.non) (u:=Value.none) J rfl q
 |brk=>
  let(_,_,_,q):=hs;exact False.elim q
 |cont=>
  let(_,_,_,q):=hs;exact False.elim q
section
variable {X:Cx} {x:Str} {p pos:Pos} {e:AO} {es:AE} {t:TA} {id T:AL} {r:AR->Hp->VK->Prop}
def tCB(r:AR->Hp->VK->Prop)(t:TA):TE:=λY H Q=>t Y H λvs H1=>r vs H1 Q
theorem iz (hc:bf X (.builtin id) r) (L:Gl X x) (N:X.mg x=none) (O:bootBuiltins x=-(.builtin id)) (J:PA X (e::es) t) (hn:x≠"__name__":=by decide) (g:(x==("__debug__":Str))=false:=by decide)
  (he:starEach (e::es) X.env=(false,eval e X.env)::starEach es X.env:=by rfl) (q:(backTo pos (starEach es X.env)).any (·.1)=false:=by rfl):PE X (.Call (.Name x p) (e::es) [] pos) (tCB r t):=by
 intro p9 s Y H Q I h;show wpAny_Call_Name_kw (iw I L N O ?_ hn g);show PyProof.Rows.callWith_builtin1 (thn (J pos p9 s Y H _ I h) λus s1 zZ=>?_) he q;let(vs,H1,z,r1,U):=zZ;exact hc p9 s1 Y H1 vs us Q z r1 U
theorem iB (hc:bf X (.type T) r) (L:Gl X x) (N:X.mg x=none) (O:bootBuiltins x=-(.type T)) (J:PA X (e::es) t) (hn:x≠"__name__":=by decide) (g:(x==("__debug__":Str))=false:=by decide)
  (he:starEach (e::es) X.env=(false,eval e X.env)::starEach es X.env:=by rfl) (q:(backTo pos (starEach es X.env)).any (·.1)=false:=by rfl):PE X (.Call (.Name x p) (e::es) [] pos) (tCB r t):=by
 intro p9 s Y H Q I h;show wpAny_Call_Name_kw (iw I L N O ?_ hn g);show eS (thn (J pos p9 s Y H _ I h) λus s1 zZ=>?_) he q;let(vs,H1,z,r1,U):=zZ;exact hc p9 s1 Y H1 vs us Q z r1 U
end
end L2
namespace HT
open PySem PyProof.Rows
section
variable {prog:AK} {w:World} {A:AM} {E:AG} {s:AI}
theorem T3{t b:AQ}{vs g:AB}{Q:AG}(ht:IsTup s.heap t vs.toArray)(hb:IsTup s.heap b g.toArray)(hv:vs≠[])
  (h1:g=[]->Q (.ref t) s) (h2:g≠[]->Q (.ref (~~~s)) {s with heap:=s.heap.push {cls:=.type "tuple",data:=.seq (vs++g).toArray}})
  (hsz:vs⁻¹+g⁻¹<=sizeLine):wpAny (model prog w) A (binaryOp .Add (.ref t) (.ref b)) Q E s:=by
 let((cls,dd,data,sl),O,hc,n,hd):=id ht;let((Y,z,U,N),q,J,n2,L):=id hb;simp only at hc hd J L;subst hc hd J L;have e:vs.toArray++g.toArray=(vs++g).toArray:=by simp
 by_cases hw:g=[]
 .exact concat_meets ⟨_,O,rfl⟩ ⟨_,q,rfl⟩ noFill_tuple_add seq_tuple_add PySem.F.slot_tuple_add PySem.F.entry_tuple_add (PySem.F.args_tuple_add_2 _ _)
   (tuple_addW1 t b vs.toArray g.toArray n n2 dd z sl N (!!hv) (by simp[hw])) ⟨O,q,h1 hw⟩
 .show concat_meets ⟨_,O,rfl⟩ ⟨_,q,rfl⟩ noFill_tuple_add seq_tuple_add PySem.F.slot_tuple_add PySem.F.entry_tuple_add (PySem.F.args_tuple_add_2 _ _)
   (tuple_addW2 t b vs.toArray g.toArray n n2 dd z sl N (!!hv) (!!hw) (by rw[List.size_toArray,List.size_toArray];exact hsz)) ⟨O,q,?_⟩
  rw[e];exact h2 hw
def sIx(n d:Nat):Option Int->Nat
 |none=>d
 |some v=>if v<0 then(v+(n:Int)).toNat else min v.toNat n
theorem BW(n d k:Nat):sIx n d (-(k:Int))=min k n:=by change(if(k:Int)<0 then((k:Int)+(n:Int)).toNat else min (k:Int).toNat n)=min k n;rw[if_neg (!0),Int.toNat_natCast]
theorem BX(n d:Nat)(q:d<=n)(o:Option Int):sIx n d o<=n:=by
 cases o with
 |none=>exact q
 |some v=>
  change(if v<0 then(v+(n:Int)).toNat else min v.toNat n)<=n;by_cases g:v<0
  .rw[if_pos g];lia
  .rw[if_neg g];exact Nat.min_le_right _ _
theorem BZ(v:Int)(n d:Nat):(if v<0 then max (v+(n:Int)) 0 else min v (n:Int))=((sIx n d (-v):Nat):Int):=by
 change(if v<0 then max (v+(n:Int)) 0 else min v (n:Int))=(((if v<0 then(v+(n:Int)).toNat else min v.toNat n):Nat):Int);by_cases g:v<0
 .simp only[if_pos g];lia
 .simp only[if_neg g];lia
theorem T4(lo hi:Option Int)(n:Nat):Builtin.Slice.sliceAdjust lo hi 1 (n:Int)=(((sIx n 0 lo:Nat):Int),((sIx n n hi:Nat):Int)):=by
 have h1:¬((1:Int)<0):=by lia
 unfold Builtin.Slice.sliceAdjust;simp only[h1,if_false];show Prod.ext ?_ ?_
 .cases lo with
  |none=>rfl
  |some v=>exact BZ v n 0
 .cases hi with
  |none=>rfl
  |some v=>exact BZ v n n
theorem T5(i j:Nat):Builtin.Slice.slicePlaces (i:Int) (j:Int) 1=j-i:=by
 unfold Builtin.Slice.slicePlaces;have h1:(1:Int) > 0:=by lia
 simp only[h1,if_true,Int.ediv_one];split<;>lia
theorem Ca{v:AN}{o:Option Int}{Q:Option Int->AI->Prop}(p:IsPart v o)(h:Q o s):wpAny (model prog w) A (Builtin.Slice.slicePartIndex v) Q E s:=by
 cases p with
 |none=>exact slicePart_none h
 |int i t=>exact slicePart_int h
theorem Cd{L:AQ}{z J:AN}{lo hi:Option Int}{n:Nat}{Q:Int×Int×Nat->AI->Prop}(hs:s.heap.IsSliceOf L z J .none)(O:IsPart z lo)(U:IsPart J hi)
  (h:Q (((sIx n 0 lo:Nat):Int),1,sIx n n hi-sIx n 0 lo) s):wpAny (model prog w) A (Builtin.Slice.sliceApplied (.ref L) (pure (n:Int))) Q E s:=by
 let(os,q,N,g):=id hs;unfold Builtin.Slice.sliceApplied Builtin.Slice.sliceFields;show wpAny_bind (wpAny_bind (wpAny_field q g (x:=z) rfl (wpAny_bind (wpAny_field q g (x:=J) rfl (wpAny_bind (wpAny_field q g (x:=.none) rfl (wpAny_pure ?_)))))));show wpAny_bind (slicePart_none ?_);change wpAny _ _ (if((1:Int)==0)=true then _ else _) _ _ s;rw[if_neg (!1)];show wpAny_bind (Ca O (wpAny_bind (Ca U (wpAny_bind (wpAny_pure ?_)))));change wpAny _ _ (match Builtin.Slice.sliceAdjust lo hi 1 (n:Int) with | (lo,hi)=>pure (lo,(1:Int),Builtin.Slice.slicePlaces lo hi 1)) _ _ s;rw[T4 lo hi n];change wpAny _ _ (pure (((sIx n 0 lo:Nat):Int),(1:Int),Builtin.Slice.slicePlaces ((sIx n 0 lo:Nat):Int) ((sIx n n hi:Nat):Int) 1)) _ _ s;rw[T5];exact wpAny_pure h
theorem T6(xs:Array AN)(i k:Nat):((List.range k).filterMap λ(m:Nat)=>xs[((i:Int)+(m:Int)*1).toNat]?).toArray=((xs.toList.drop i).take k).toArray:=by
 have e:(λ(m:Nat)=>xs[((i:Int)+(m:Int)*1).toNat]?)=λm=>xs[i+m]?:=by
  funext m;have:((i:Int)+(m:Int)*1).toNat=i+m:=by lia
  rw[this]
 rw[e];have:=pick_run xs i k;rw[List.filterMap_map]at this;have g:((λx=>xs[x]?)∘λx=>i+x)=λm=>xs[i+m]?:=rfl;rw[g]at this;rw[this]
theorem T7{t Y:AQ}{g:Array AN}{vl vu:AN}{lo hi:Option Int}{Q:AG}(J:IsTup s.heap t g)(hs:s.heap.IsSliceOf Y vl vu .none)(pl:IsPart vl lo)(pu:IsPart vu hi)
  (hw:¬(sIx g.size 0 lo=0/\sIx g.size g.size hi=g.size))
  (h:Q (.ref (~~~s)) {s with heap:=s.heap.push {cls:=.type "tuple",data:=.seq ((g.toList.drop (sIx g.size 0 lo)).take (sIx g.size g.size hi-sIx g.size 0 lo)).toArray}})
  (hsz:g.size<=sizeLine):wpAny (model prog w) A (getItem (.ref t) (.ref Y)) Q E s:=by
 have z:sizeOk (.seq ((g.toList.drop (sIx g.size 0 lo)).take (sIx g.size g.size hi-sIx g.size 0 lo)).toArray):=by change((g.toList.drop (sIx g.size 0 lo)).take (sIx g.size g.size hi-sIx g.size 0 lo)).toArray.size<=sizeLine;rw[List.size_toArray,List.length_take,List.length_drop,Array.length_toList];lia
 have hj:sIx g.size g.size hi<=g.size:=BX _ _ (Nat.le_refl _) hi;let(os,U,N,hds):=id hs;have L:s.TypeIs (.ref Y) "slice":=⟨os,U,N⟩;unfold getItem;try with_reducible show wpAny_holding ?_
 first|show wpAny_bind (wpAny_pure ?_)|skip
 show wpAny_bind (wpAny_sequenceKey J.typeIs (!1) ?_);show wpAny_bind (wpAny_callSpecial?_slot (name:=⇑"__getitem__") J.typeIs PyProof.Rows.slot_tuple_getitem
  (wpAny_call_entry PyProof.Rows.slot_tuple_getitem J.typeIs entry_tuple_getitem ?_ (args_tuple_getitem _ _)))
 change wpAny _ _ (Builtin.Tuple.tupleItemsOf (.ref t) >>= _) _ _ s;show wpAny_bind (tupleItemsOf_ J ?_);show wpAny_bind (wpAny_typeOf L ?_);rw[if_pos (!1)];show wpAny_bind (Cd hs pl pu ?_);have O:¬((((sIx g.size 0 lo:Nat):Int)==0&&(1:Int)==1&&(sIx g.size g.size hi-sIx g.size 0 lo)==g.size)=true):=by intro q;rw[Bool.and_eq_true,Bool.and_eq_true]at q;have q1:((sIx g.size 0 lo:Nat):Int)=0:=eq_of_beq q.1.1;have q2:sIx g.size g.size hi-sIx g.size 0 lo=g.size:=eq_of_beq q.2;exact hw ⟨!0,!0⟩
 change wpAny _ _ (if(((sIx g.size 0 lo:Nat):Int)==0&&(1:Int)==1&&(sIx g.size g.size hi-sIx g.size 0 lo)==g.size)=true then _ else _) _ _ s;rw[if_neg O,T6];first
  |exact wpAny_bind (m:=Builtin.Tuple.tupleExact _) (wpAny_newObj_type (wpAny_pure ⟨_,rfl,wpAny_pure h⟩) z)
  |exact wpAny_bind (m:=Builtin.Tuple.tupleExact _) (wpAny_newObj_type (wpAny_bind (wpAny_pure (wpAny_pure ⟨_,rfl,wpAny_pure h⟩))) z)
  |exact wpAny_bind (wpAny_bind (m:=Builtin.Tuple.tupleExact _) (wpAny_newObj_type (wpAny_pure (wpAny_pure ⟨_,rfl,wpAny_pure h⟩)) z))
  |exact wpAny_bind (wpAny_bind (m:=Builtin.Tuple.tupleExact _) (wpAny_newObj_type (wpAny_pure ⟨_,rfl,wpAny_pure h⟩) z))
end
end HT
namespace L2
open PySem PySem.Spec PyProof.Rows
abbrev TO:=St->Hp->(Option Int->Hp->Prop)->Prop
def PO(X:Cx)(e:Option AO)(t:TO):Prop:=
 ∀(p9:AC)(s:AI)(Y:St)(H:Hp)(Q:Option Int->Hp->Prop),Inv X p9 Y H s->t Y H Q->
  ↥X (evalPart e X.env) (λu s'=>∃o H',Inv X p9 Y H' s'/\IsPart u o/\Q o H') X.xe s
def T8:TO:=λz H Q=>Q none H
def T9(t:TE):TO:=λY H Q=>t Y H λx H1=>∃i,x=.int i/\Q (-i) H1
def intsAre_of{ns:List Int}:∀{g:AB},Vals (ns.map V.int) g->IntsAre g ns:=by
 induction ns with
 |nil=>intro g r;rw[List.map_nil]at r;cases r;exact .nil
 |cons n ns q=>
  intro g r;rw[a7]at r;cases r with
  |cons z J=>
   let(t,e):=z;subst e;exact .cons n t (q J)
section
variable {X:Cx} {e:AO} {te:TE} {lo hi:Option AO} {tl th:TO} {pos p2:Pos}
theorem Ua:PO X none T8:=by intro p9 s Y H Q I h;rw[evalPart_none];exact aw ⟨none,H,I,.none,h⟩
theorem Ub(h:PE X e te):PO X (-e) (T9 te):=by intro p9 s Y H Q I hw;rw[evalPart_some];show thn (h p9 s Y H _ I hw) λu L zZ=>?_;let(x,H1,g,J,z):=zZ;let(i,rfl,q):=z;let(t,rfl):=J;exact⟨-i,H1,g,.int i t,q⟩
def SlR(X:Cx)(r:V->Option Int->Option Int->Hp->VK->Prop):Prop:=
 ∀(p9:AC)(s:AI)(Y:St)(H:Hp)(x:V)(v q z:AN)(lo hi:Option Int)(g:AQ)(Q:VK),Inv X p9 Y H s->RelV x v->s.heap.IsSliceOf g q z .none->IsPart q lo->IsPart z hi->r x lo hi H Q->
  ∃T id,typeLookup (.type T) "__getitem__"=pure (-(.builtin id))/\s.TypeIs v T/\↥X (getItem v (.ref g)) (EP X p9 Y Q) X.xe s
def tSl(r:V->Option Int->Option Int->Hp->VK->Prop)(te:TE)(tl th:TO):TE:=λY H Q=>te Y H λx H1=>tl Y H1 λl H2=>th Y H2 λu g=>r x l u g Q
theorem Uc{r:V->Option Int->Option Int->Hp->VK->Prop}(hr:SlR X r)(he:PE X e te)(hl:PO X lo tl)(hu:PO X hi th):PE X (.Subscript e (.Slice lo hi none p2) pos) (tSl r te tl th):=by intro p9 s Y H Q I h;show Subscript_ (thn (he p9 s Y H _ I h) λv s1 zZ=>?_);let(x,H1,N,r1,q1):=zZ;show wpAny_Slice (thn (hl p9 s1 Y H1 _ N q1) λz s2 zZ=>?_);let(l,H2,O,pl,q2):=zZ;show thn (hu p9 s2 Y H2 _ O q2) λJ g zZ=>?_;let(u,L,U,pu,q3):=zZ;rw[evalPart_none];show aw ?_;have I4:Inv X p9 Y L {g with heap:=g.heap.push {cls:=.type "slice",data:=.fields #[z,J,.none]}}:=U.kept (t':=g.toks) λb ob q=>ag _ q;let(T,id,hT,ht,hg):=hr p9 {g with heap:=g.heap.push {cls:=.type "slice",data:=.fields #[z,J,.none]}} Y L x v z J l u g.heap.objs.size Q I4 r1 (Heap.IsSliceOf.new ..) pl pu q3;change ↥X (subscriptTail e (.Slice lo hi none p2) v (.ref g.heap.objs.size)) (EP X p9 Y Q) X.xe {g with heap:=g.heap.push {cls:=.type "slice",data:=.fields #[z,J,.none]}};exact tail_any (ops:=[.ref g.heap.objs.size,v]) ht hT hg (by with_unfolding_all rfl)
def eF(xs:AR)(lo hi:Option Int):AR:=(xs.drop (HT.sIx xs⁻¹ 0 lo)).take (HT.sIx xs⁻¹ xs⁻¹ hi-HT.sIx xs⁻¹ 0 lo)
theorem Ce(xs:AR)(lo hi:Option Int):(eF xs lo hi)⁻¹<=xs⁻¹:=by unfold eF;rw[d4,e7];lia
def Ud(K:PF):V->Option Int->Option Int->Hp->VK->Prop:=λx lo hi H Q=>∃a xs,x=.ref a/\SqT K H a xs/\
 ¬(HT.sIx xs⁻¹ 0 lo=0/\HT.sIx xs⁻¹ xs⁻¹ hi=xs⁻¹)/\∀p,H p=none->Q (.ref p) (upd H p (.tup (eF xs lo hi)))
theorem Ue:SlR X (Ud X.K):=by
 intro p9 s Y H x v vl vu lo hi sl Q I rx hs O U h;let(a,xs,rfl,N,hw,q):=h;cases rx;let(z,r,J,L):=I.tuple N;have g:z.toArray.size=xs⁻¹:=by rw[ax];exact r.length.symm
 show⟨"tuple",_,fk.lookup,J.typeIs,?_⟩;show HT.T7 J hs O U (by rw[g];exact hw) ?_ (by rw[g];exact L);rw[g];show⟨.ref (~~~s),_,I.laid (t':=s.toks) (o:=.tup (eF xs lo hi)) (λb ob q=>ag _ q) (av _) ?_,rfl,q _ (I.hok.fresh (av _))⟩;exact⟨cf (Ce xs lo hi) L,_,(r.drop (HT.sIx xs⁻¹ 0 lo)).take (HT.sIx xs⁻¹ xs⁻¹ hi-HT.sIx xs⁻¹ 0 lo),IsTupX.new _ _⟩
def Ug(K:PF):R2:=λx y H Q=>∃a b xs ys,x=.ref a/\y=.ref b/\SqT K H a xs/\SqT K H b ys/\xs≠[]/\xs⁻¹+ys⁻¹<=sizeLine/\
 (ys=[]->Q (.ref a) H)/\(ys≠[]->∀p,H p=none->Q (.ref p) (upd H p (.tup (xs++ys))))
theorem Vals.nil_iff{xs:AR}{g:AB}(r:Vals xs g):g=[]↔xs=[]:=by
 cases r with
 |nil=>simp
 |cons _ _=>simp
theorem Uh:OpR X (binaryOp .Add) (Ug X.K):=by intro p9 s Y H x y v u Q I rx ry h;let(a,b,xs,ys,rfl,rfl,O,U,hx,L,q1,q2):=h;cases rx;cases ry;let(its,J,p1,_):=I.tuple O;let(N,g,p2,_):=I.tuple U;show HT.T3 p1 p2 (λz=>hx (J.nil_iff.mp z)) (λz=>⟨.ref a,H,I,rfl,q1 (g.nil_iff.mp z)⟩) (λz=>?_) (by rw[<-J⁻¹,<-g⁻¹];exact L);show⟨.ref (~~~s),_,I.laid (t':=s.toks) (o:=.tup (xs++ys)) (λb ob q=>ag _ q) (av _) ?_,rfl,q2 (λw=>z (g.nil_iff.mpr w)) _ (I.hok.fresh (av _))⟩;exact⟨by rw[am];exact L,_,J.append g,IsTupX.new _ _⟩
end
def ixN(n:Nat)(i:Int):Option Nat:=if 0<=i then(if i<n then some i.toNat else none) else if Neg.neg (n:Int)<=i then some (i+n).toNat else none
def atI{g:Type}(xs:List g)(i:Int):Option g:=(ixN xs⁻¹ i).bind λj=>xs[j]?
def Cg{n:Nat}{i:Int}{j:Nat}(h:ixN n i=-j):seqIndex? i n=-j/\j<n/\Neg.neg (n:Int)<=i/\i<n:=by
 unfold ixN at h;by_cases h0:0<=i
 .rw[if_pos h0]at h;by_cases h1:i<n
  .rw[if_pos h1]at h;have e:i.toNat=j:=df h;exact⟨by rw[seqIndex_of h0 h1,e],!0,!0,h1⟩
  .rw[if_neg h1]at h;cases h
 .rw[if_neg h0]at h;by_cases h1:Neg.neg (n:Int)<=i
  .rw[if_pos h1]at h;have e:(i+n).toNat=j:=df h;exact⟨by rw[seqIndex_neg (!0) h1,e],!0,h1,!0⟩
  .rw[if_neg h1]at h;cases h
def vd{g:Type}{xs:List g}{i:Int}{v:g}(h:atI xs i=-v):∃j,seqIndex? i xs⁻¹=-j/\xs[j]?=-v/\j<xs⁻¹/\Neg.neg (xs⁻¹:Int)<=i/\i<xs⁻¹:=by
 unfold atI at h;cases e:ixN xs⁻¹ i with
 |none=>rw[e]at h;cases h
 |some j=>
  rw[e]at h;let(h1,h2,q,z):=Cg e;exact⟨j,h1,h,h2,q,z⟩
def bW{g:Type}{xs:List g}{j:Nat}{v:g}(h:xs[j]?=-v):atI xs (j:Int)=-v:=by
 have q:j<xs⁻¹:=(ai.mp h).1;have e:ixN xs⁻¹ (j:Int)=-j:=by unfold ixN;rw[if_pos (!0),if_pos (!0)];simp
 unfold atI;rw[e];exact h
def Ci{g:Type}(xs:List g)(v:g):atI (xs++[v]) (Neg.neg 1)=-v:=by
 have hl:(xs++[v])⁻¹=xs⁻¹+1:=by simp
 have e:ixN (xs++[v])⁻¹ (Neg.neg 1)=-xs⁻¹:=by unfold ixN;rw[hl,if_neg (!1),if_pos (!0)];congr 1;lia
 unfold atI;rw[e];change(xs++[v])[xs⁻¹]?=-v;simp
def Cj(b:AO):Prop:=∀o i,subscripted b false o i=operate [o,i] (getItem o i)
def IxR(X:Cx)(r:R2):Prop:=
 ∀(q g:AO)(p9:AC)(s:AI)(Y:St)(H:Hp)(x y:V)(v u:AN)(Q:VK),Inv X p9 Y H s->RelV x v->RelV y u->r x y H Q->
  subscripted g false v u=operate [v,u] (getItem v u)->↥X (subscriptTail q g v u) (EP X p9 Y Q) X.xe s
def MtR(X:Cx)(id:AL)(r:V->AR->Hp->VK->Prop):Prop:=
 ∀(p9:AC)(s:AI)(Y:St)(H:Hp)(x:V)(xs:AR)(v:AN)(g:AB)(Q:VK),Inv X p9 Y H s->RelV x v->Vals xs g->r x xs H Q->
  ↥X (call (.builtin id) (v::g)) (EP X p9 Y Q) X.xe s
section
variable {X:Cx} {a b:AO} {ta tb:TE} {pos:Pos}
theorem Ui{r:R2}(L:IxR X r)(z:PE X a ta)(J:PE X b tb)(hs:Cj b):PE X (.Subscript a b pos) (tOp r ta tb):=by intro p9 s Y H Q I h;exact Subscript_ (u6 z J I h λv u U x y H2 g N O q=>L a b p9 U Y H2 x y v u Q g N O q (hs _ _))
def Uj(K:PF):R2:=λx y H Q=>∃p xs i v,x=.ref p/\y=.int i/\SqL K H p xs/\atI xs i=-v/\Q v H
def Uk(K:PF):R2:=λx y H Q=>∃p xs i v,x=.ref p/\y=.int i/\SqT K H p xs/\atI xs i=-v/\Q v H
def Ul:R2:=λx y H Q=>∃z i c,x=.str z/\y=.int i/\z⁻¹<=sizeLine/\atI z.cps.toList i=-c/\Q (.str ⟨#[c]⟩) H
theorem Um:IxR X (Uj X.K):=by
 intro U O p9 s Y H x y v u Q I rx ry h hs;let(p,xs,i,z,rfl,rfl,hq,he,q):=h;cases rx;let(t,rfl):=ry;let(J,r,L,hz):=I.list hq;let(j,h1,h2,h3,h4,h5):=vd he;let(w,ew,N):=r.get h2;have hl:=r⁻¹;have hn:=iy;have fin:EP X p9 Y Q w s:=⟨z,H,I,N,q⟩;by_cases h0:0<=i
 .have g:i.toNat=j:=by
   rw[seqIndex_of h0 h5]at h1;exact df h1
  exact item_listR L.isList h0 (!0) (by rw[g];simpa using ew) fin hs
 .have g:(i+(J.toArray.size:Int)).toNat=j:=by
   rw[seqIndex_neg (!0) h4]at h1;rw[ax,<-hl];exact df h1
  exact subscriptTail_builtinR (x:=w) L.isList.typeIs slot_list_getitem.lookup
   (wpAny_getItem_list_neg (Q:=λr s'=>r=w/\EP X p9 Y Q r s') L.isList (!0) (by rw[ax]<;>lia) (!0) (by rw[g];simpa using ew) ⟨rfl,fin⟩) hs
theorem Uo:IxR X (Uk X.K):=by
 intro L J p9 s Y H x y v u Q I rx ry h hs;let(p,xs,i,z,rfl,rfl,U,he,q):=h;cases rx;let(t,rfl):=ry;let(its,r,N,hz):=I.tuple U;let(j,h1,h2,h3,h4,h5):=vd he;let(w,O,g):=r.get h2;have hl:=r⁻¹;have hn:=iy;have fin:EP X p9 Y Q w s:=⟨z,H,I,g,q⟩;exact subscriptTail_builtinR (x:=w) N.typeIs slot_tuple_getitem.lookup
  (getItem_tuple (j:=j) (Q:=λr s'=>r=w/\EP X p9 Y Q r s') N (!0) (!0) (by rw[ax,<-hl];exact h1) (!!O) ⟨rfl,fin⟩) hs
theorem Up:IxR X Ul:=by
 intro J g p9 s Y H x y v u Q I rx ry h hs;let(z,i,c,rfl,rfl,hz,he,q):=h;let(t,rfl):=rx;let(t',rfl):=ry;let(j,h1,h2,h3,O,U):=vd he;have hl:z.cps.toList⁻¹=z⁻¹:=by simp[Str.length]
 rw[hl]at h1 O U;have hn:=iy;exact tail_any (typeIs_str s z t) slot_str_getitem.lookup (getItem_str (c:=c) (by
  have L:decide (i < Neg.neg (2 ^ 63:Int))=false:=bX (!0);have N:decide (i≥2 ^ 63)=false:=bX (!0);rw[L,N,Bool.or_false]) (by rw[h1];simpa using h2) ⟨.str ⟨#[c]⟩,H,I.tok _,⟨_,rfl⟩,q⟩) hs
theorem Uq (g:AB) (n j:Nat) (u:AN):Obj.mapSeq (·.setIfInBounds j u) {cls:=.type "list",data:=.seq g.toArray n}={cls:=.type "list",data:=.seq (g.set j u).toArray n}:=by simp[Obj.mapSeq]
theorem Inv.lst{p9:AC}{Y:St}{H:Hp}{s:AI}{p:AQ}{xs:AR}(I:Inv X p9 Y H s)(h:H p=-(.lst xs)):
  ∃(g:AB) (n:Nat),Vals xs g/\s.heap.get? p=-{cls:=.type "list",data:=.seq g.toArray n}/\xs⁻¹<=sizeLine:=by
 let(z,g,n,r,e):=I.hok p _ h;exact⟨g,n,r,e,z⟩
theorem Inv.lstUpd{p9:AC}{Y:St}{H:Hp}{s:AI}{p:AQ}{xs ys:AR}{g its':AB}{n z:Nat}{f:Obj->Obj}(I:Inv X p9 Y H s)(h:H p=-(.lst xs))
  (N:s.heap.get? p=-{cls:=.type "list",data:=.seq g.toArray n}) (J:f {cls:=.type "list",data:=.seq g.toArray n}={cls:=.type "list",data:=.seq its'.toArray z}) (r:Vals ys its') (O:ys⁻¹<=sizeLine) (t:Nat):
  Inv X p9 Y (upd H p (.lst ys)) {s with heap:=s.heap.update p f,toks:=t}:=by
 have e:(s.heap.update p f).get? p=-{cls:=.type "list",data:=.seq its'.toArray z}:=by rw[Heap.get?_update_self f N (by rw[J]<;>rfl),J]
 show I.write (x:=p) (e:=p) (by rw[h];trivial) (.inl rfl) (λb u L q=>(Heap.get?_update_other _ _ (Ne.symm L)).trans q) ⟨_,e⟩ ?_;exact⟨O,its',z,r,e⟩
def Ur:V->V->V->Hp->(Hp->Prop)->Prop:=λo i v H Q=>∃p xs k j,o=.ref p/\i=.int k/\H p=-(.lst xs)/\ixN xs⁻¹ k=-j/\Q (upd H p (.lst (xs.set j v)))
theorem set_list:u5 X Ur:=by
 intro p9 s Y H o i v ov iv u Q I ro ri rv h;let(p,xs,k,j,rfl,rfl,U,hj,q):=h;cases ro;let(t,rfl):=ri;let(g,n,r,J,hz):=I.lst U;let(h1,h2,N,O):=Cg hj;have hl:=r⁻¹;have hn:=iy;have L:Inv X p9 Y (upd H p (.lst (xs.set j v))) {s with heap:=s.heap.update p (Obj.mapSeq (·.setIfInBounds j u))}:=
  I.lstUpd U J (Uq g n j u) (r.set rv j) (by rw[ef];exact hz) s.toks
 by_cases h0:0<=k
 .have z:k.toNat=j:=by
   rw[seqIndex_of h0 O]at h1;exact df h1
  exact PySem.W.ki_setAt J h0 (!0) (by rw[ax,<-hl];exact O) (by rw[z];exact⟨_,L,q⟩)
 .have z:(k+(g.toArray.size:Int)).toNat=j:=by
   rw[seqIndex_neg (!0) N]at h1;rw[ax,<-hl];exact df h1
  exact PySem.W.ki_setBack J (!0) (by rw[ax,<-hl];exact N) (!0) (by rw[z];exact⟨_,L,q⟩)
theorem Ck(lo hi:Option Int)(n:Nat):(sliceBounds lo hi none n).1=((HT.sIx n 0 lo:Nat):Int)/\(sliceBounds lo hi none n).2.1=((HT.sIx n n hi:Nat):Int)/\(sliceBounds lo hi none n).2.2=1:=by
 show⟨?_,?_,rfl⟩
 .cases lo with
  |none=>simp[sliceBounds,HT.sIx]
  |some i=>
   simp only[sliceBounds,HT.sIx,Option.getD_none,show(1:Int) > 0 by decide,if_true];by_cases h:i<0
   .simp only[h,if_true]<;>lia
   .simp only[h,if_false]<;>lia
 .cases hi with
  |none=>simp[sliceBounds,HT.sIx]
  |some i=>
   simp only[sliceBounds,HT.sIx,Option.getD_none,show(1:Int) > 0 by decide,if_true];by_cases h:i<0
   .simp only[h,if_true]<;>lia
   .simp only[h,if_false]<;>lia
theorem Us(g:AB)(lo hi:Option Int):slicePick g.toArray lo hi none=((g.drop (HT.sIx g⁻¹ 0 lo)).take (HT.sIx g⁻¹ g⁻¹ hi-HT.sIx g⁻¹ 0 lo)).toArray:=by let(h1,h2,q):=Ck lo hi g.toArray.size;unfold slicePick;rw[h1,h2,q];simp only[sliceRange_one,pick_run,ax]<;>rfl
def Ut(K:PF):V->Option Int->Option Int->Hp->VK->Prop:=λx lo hi H Q=>∃a xs,x=.ref a/\SqL K H a xs/\∀p,H p=none->Q (.ref p) (upd H p (.lst (eF xs lo hi)))
theorem Cm:SlR X (Ut X.K):=by intro p9 s Y H x v vl vu lo hi sl Q I rx hs O U h;let(a,xs,rfl,J,q):=h;cases rx;let(N,r,z,L):=I.list J;have g:=r⁻¹;show⟨"list",_,slot_list_getitem.lookup,z.isList.typeIs,?_⟩;show wpAny_getItem_list_slice z.isList hs O U .none (!2) ?_ (by rw[ax]<;>lia);rw[Us,<-g];show⟨.ref (~~~s),_,I.laid (t':=s.toks) (o:=.lst (eF xs lo hi)) (λb ob q=>ag _ q) (av _) ?_,rfl,q _ (I.hok.fresh (av _))⟩;exact⟨cf (Ce xs lo hi) L,_,0,(r.drop (HT.sIx xs⁻¹ 0 lo)).take (HT.sIx xs⁻¹ xs⁻¹ hi-HT.sIx xs⁻¹ 0 lo),aT _ rfl⟩
theorem Cp:bf X (.builtin "len") (λxs H Q=>∃p ys,xs=[.ref p]/\(SqL X.K H p ys\/SqT X.K H p ys)/\Q (.int ys⁻¹) H):=by
 intro p9 s Y H xs us Q I r h;let(p,ys,rfl,z,q):=h;let(u,rfl,U):=vals1 r;cases U;have hn:=iy;rcases z with z|z
 .let(J,N,L,O):=I.list z;have g:=N⁻¹;exact Calls.call_len_list L.isList (by simp only[ax]<;>lia) ⟨.int ys⁻¹,H,I.tok _,⟨s.toks+1,by rw[ax,g]⟩,q⟩
 .let(J,N,L,O):=I.tuple z;have g:=N⁻¹;exact len_tuple L (by simp only[ax]<;>lia) ⟨.int ys⁻¹,H,I.tok _,⟨s.toks+1,by rw[ax,g]⟩,q⟩
theorem Uu:bf X (.builtin "len") (λxs H Q=>∃z,xs=[.str z]/\z⁻¹<=sizeLine/\Q (.int z⁻¹) H):=by intro p9 s Y H xs J Q I r h;let(z,rfl,g,q):=h;let(u,rfl,t,rfl):=vals1 r;have hn:=iy;exact len_str (!0) ⟨.int z⁻¹,H,I.tok _,⟨_,rfl⟩,q⟩
theorem Cq:bf X (.type "list") (λxs H Q=>∃p ys,xs=[.ref p]/\(SqL X.K H p ys\/SqT X.K H p ys)/\∀l,H l=none->Q (.ref l) (upd H l (.lst ys))):=by
 intro p9 s Y H xs us Q I r h;let(p,ys,rfl,N,q):=h;let(u,rfl,rx):=vals1 r;cases rx;have fin:∀(g:AB),Vals ys g->ys⁻¹<=sizeLine->∀(h':Heap)(z:Nat),(∀b o',s.heap.get? b=-o'->h'.get? b=-o')->
   h'.get? (~~~s)=-{cls:=.type "list",dict:=none,data:=.seq g.toArray z,slots:=#[]}->EP X p9 Y Q (.ref (~~~s)) {s with heap:=h'}:=λg J O h' z kp e=>
  ⟨.ref (~~~s),_,I.laid (t':=s.toks) kp (av _) (show ObjOk X.prog X.w _ h' _ (.lst ys) from⟨O,g,z,J,e⟩),rfl,q _ (I.hok.fresh (av _))⟩
 rcases N with N|N
 .let(g,J,pl,O):=I.list N;have L:=J⁻¹;let(o,ho,hc,n,U):=pl.isList;exact call_list_seq p (.inl rfl) ho hc U (λh' z kp e=>fin g J O h' z kp e) (by simp only[ax]<;>lia)
 .let(g,J,pl,O):=I.tuple N;have L:=J⁻¹;let(o,ho,hc,n,U):=pl;exact call_list_seq p (.inr rfl) ho hc U (λh' z kp e=>fin g J O h' z kp e) (by simp only[ax]<;>lia)
theorem Cr:bf X (.type "tuple") (λxs H Q=>∃p ys,xs=[.ref p]/\((SqL X.K H p ys/\∀l,H l=none->Q (.ref l) (upd H l (.tup ys)))\/(SqT X.K H p ys/\Q (.ref p) H))):=by
 intro p9 s Y H xs us Q I r h;let(p,ys,rfl,h):=h;let(u,rfl,rx):=vals1 r;cases rx;rcases h with⟨z,q⟩|⟨z,q⟩
 .let(g,L,J,U):=I.list z;have O:=L⁻¹;show call_tuple_list J.isList (λh' kp=>?_) (by simp only[ax]<;>lia);have N:Inv X p9 Y H {s with heap:=h'}:=I.kept (t':=s.toks) kp;have I2:Inv X p9 Y (upd H h'.objs.size (.tup ys)) {s with heap:=h'.push {cls:=.type "tuple",data:=.seq g.toArray}}:=
   N.laid (t':=s.toks) (λb o e=>ag _ e) (av _) (show ObjOk X.prog X.w _ _ _ (.tup ys) from⟨U,g,L,IsTupX.new _ _⟩)
  exact⟨.ref h'.objs.size,_,I2,rfl,q _ (N.hok.fresh (av _))⟩
 .let(g,L,J,U):=I.tuple z;exact call_tuple_same J ⟨.ref p,H,I,rfl,q⟩
def tyV(K:PF)(T:AL)(x:V)(H:Hp):Prop:=match x with
 |.str _=>T="str"
 |.int _=>T="int"
 |.ref p=>(T="list"/\∃xs,SqL K H p xs)\/(T="tuple"/\∃o,K.lookup p=-o/\o.cls=.type "tuple"/\o.dict=none)\/
   (T="dict"/\((∃g,H p=-(.dK g))\/∃g,H p=-(.dT g)))\/(T="set"/\∃S n,H p=-(.set S n))
 |_=>False
theorem Cu{p9:AC}{Y:St}{H:Hp}{s:AI}{T:AL}{x:V}{v:AN}(I:Inv X p9 Y H s)(r:RelV x v)(ty:tyV X.K T x H):
  s.TypeIs v T/\∀a,v=.ref a->∃ob,s.heap.get? a=-ob/\ob.dict=none:=by
 cases x with
 |str z=>
  let(t,rfl):=r;cases(show T="str" from ty);exact⟨typeIs_str s z t,λy e=>nomatch e⟩
 |int i=>
  let(t,rfl):=r;cases(show T="int" from ty);exact⟨typeIs_int s i t,λy e=>nomatch e⟩
 |ref p=>
  cases r;rcases ty with⟨rfl,xs,O⟩|⟨rfl,o,g,hc,J⟩|⟨rfl,g⟩|⟨rfl,S,n,g⟩
  .let(U,_,N,_):=I.list O;show⟨N.isList.typeIs,λa e=>?_⟩;cases e;let(o,n,e,c,J,_):=N;exact⟨o,e,J⟩
  .show ⟨⟨o,I.kIn p o g,hc⟩,λa e=>?_⟩;cases e;exact⟨o,I.kIn _ o g,J⟩
  .have z:∃o,s.heap.get? p=-o/\o.ExactDict:=by
    rcases g with⟨L,g⟩|⟨L,g⟩
    .let(_,_,_,_,o,_,_,e,ex,_):=I.hok p _ g;exact⟨o,e,ex⟩
    .let(_,_,_,_,o,_,_,e,ex,_):=I.hok p _ g;exact⟨o,e,ex⟩
   let(o,e,ex):=z;show⟨⟨o,e,ex.1⟩,λa q=>?_⟩;cases q;exact⟨o,e,ex.2.1⟩
  .let(o,_,_,_,e,ex,_):=I.hok p _ g;show⟨⟨o,e,ex.1⟩,λa q=>?_⟩;cases q;exact⟨o,e,ex.2.1⟩
 |_=>exact False.elim ty
def Uv(K:PF)(T:AL)(r:V->AR->Hp->VK->Prop)(to:TE):TE:=λY H Q=>to Y H λx H1=>tyV K T x H1/\r x [] H1 Q
def tBM(K:PF)(T:AL)(r:V->AR->Hp->VK->Prop)(to:TE)(t:TA):TE:=λY H Q=>to Y H λx H1=>tyV K T x H1/\t Y H1 λxs H2=>r x xs H2 Q
variable {o e:AO} {es:AE} {to:TE} {t:TA} {name:Str} {apos cpos:Pos} {T id:AL} {r:V->AR->Hp->VK->Prop}
theorem Uw (U:PlainAttrs T) (slot:Slot T name id) (z:typeOf (.builtin id)=pure (.type "method_descriptor")) (N:MtR X id r) (O:PE X o to)
  (g:attributeBase o name X.env (eval o X.env)=eval o X.env:=by rfl) (q:(apos.endLine==cpos.line)=true:=by rfl):PE X (.Call (.Attribute o name apos) [] [] cpos) (Uv X.K T r to):=by
 intro p9 s Y H Q I h;show wpAny_Call_method0_late g q (thn (O p9 s Y H _ I h) λv s1 zZ=>?_);let(x,H1,J,L,ty,q1):=zZ;let(h1,h2):=Cu J L ty;exact⟨T,id,U,slot,z,h1,h2,g9 rfl (PySem.evalArgs_none (N p9 s1 Y H1 x [] v [] Q J L .nil q1))⟩
theorem qN (pa:PlainAttrs T) (slot:Slot T name id) (L:typeOf (.builtin id)=pure (.type "method_descriptor")) (hm:MtR X id r) (ho:PE X o to) (ha:PA X (e::es) t)
  (q:attributeBase o name X.env (eval o X.env)=eval o X.env:=by rfl)
  (J:((backTo cpos (starEach (e::es) X.env)).all (λx=>!x.1)&&(backToKw cpos (keywordEach [] X.env)).all (λx=>x.1.isSome)
  &&decide ((e::es)⁻¹+([]:List Keyword)⁻¹+(if([]:List Keyword).isEmpty then 0 else 1)<30))=true:=by rfl)
  (z:(apos.endLine==cpos.line)=true:=by rfl) (hs:starEach (e::es) X.env=(false,eval e X.env)::starEach es X.env:=by rfl) (g:(backTo cpos (starEach es X.env)).any (·.1)=false:=by rfl):
  PE X (.Call (.Attribute o name apos) (e::es) [] cpos) (tBM X.K T r to t):=by
 intro p9 s Y H Q I h;show wpAny_Call_method_late q J z rfl (thn (ho p9 s Y H _ I h) λv s1 zZ=>?_);let(x,H1,N,U,ty,q1):=zZ;let(h1,h2):=Cu N U ty;show⟨T,id,pa,slot,L,h1,h2,?_⟩;have O:=ha cpos p9 s1 Y H1 _ N q1;rw[hs]at O ⊢;show g9 (by change(false||(backTo cpos (starEach es X.env)).any (·.1))=false;rw[g]<;>rfl) (Calls.evalArgs_plain ?_);show thn O λus s2 zZ=>?_;let(vs,H2,I2,r2,q2):=zZ;exact hm p9 s2 Y H2 x vs v us Q I2 U r2 q2
end
def MtM(X:Cx)(id:AL)(r:V->AR->Hp->VK->Prop):Prop:=
 ∀(p9:AC)(s:AI)(Y:St)(H:Hp)(x:V)(xs:AR)(v:AN)(g:AB)(Q:VK),Inv X p9 Y H s->RelV x v->Vals xs g->r x xs H Q->
  ↥X (call (.builtin id) (v::g)) (EP X p9 Y Q) X.xe s
def Vals.one:∀{x:V}{g:AB},Vals [x] g->∃u,g=[u]/\RelV x u
 |_,_,.cons r .nil=>⟨_,rfl,r⟩
def Vals.zero:∀{g:AB},Vals [] g->g=[]
 |_,.nil=>rfl
def Vals.eraseIdx:∀{xs:AR}{g:AB}(i:Nat),Vals xs g->Vals (xs.eraseIdx i) (g.eraseIdx i)
 |_,_,_,.nil=>.nil
 |_,_,0,.cons _ t=>t
 |_,_,i+1,.cons r t=>.cons r (Vals.eraseIdx i t)
def Cv{g:Type}:∀(l:List g)(i:Nat),(l.eraseIdx i)⁻¹<=l⁻¹
 |[],_=>av _
 |_::_,0=>e6 _
 |_::r,i+1=>Nat.succ_le_succ (Cv r i)
section
variable {X:Cx} {p9:AC} {σ:St} {H:Hp} {s:AI} {l b:AQ} {xs ys zs:AR}
theorem Inv.lset{g its':AB}{n:Nat}{f:Array AN->Array AN}{t':Nat}(I:Inv X p9 σ H s)(z:H l=-(.lst xs))
  (e:s.heap.get? l=-{cls:=.type "list",data:=.seq g.toArray n}) (L:f g.toArray=its'.toArray) (O:Vals ys its') (U:ys⁻¹<=sizeLine):
  Inv X p9 σ (upd H l (.lst ys)) {s with heap:=s.heap.update l (Obj.mapSeq f),toks:=t'}:=by
 have q:=PySem.IsL.update e f;rw[L]at q;show I.write (x:=l) (e:=l) (by rw[z];exact trivial) (.inl rfl) (λY u J N=>(Heap.get?_update_other s.heap (Obj.mapSeq f) (Ne.symm J)).trans N) ⟨_,q⟩ ?_;exact⟨U,its',_,O,q⟩
theorem Inv.lnew{g:AB}{t':Nat}(I:Inv X p9 σ H s)(z:Vals ys g)(J:ys⁻¹<=sizeLine):
  Inv X p9 σ (upd H (~~~s) (.lst ys)) {s with heap:=s.heap.push {cls:=.type "list",data:=.seq g.toArray},toks:=t'}:=
 I.laid (λy y q=>ag _ q) (av _) ⟨J,g,0,z,aT _ rfl⟩
theorem Inv.fresh(I:Inv X p9 σ H s):H (~~~s)=none:=I.hok.fresh (av _)
theorem Inv.lstM (I:Inv X p9 σ H s) (q:H l=-(.lst xs)):xs⁻¹<=sizeLine/\∃(g:AB) (n:Nat),Vals xs g/\xs⁻¹=g⁻¹/\s.heap.get? l=-{cls:=.type "list",data:=.seq g.toArray n}:=by let(z,g,n,r,e):=I.hok l _ q;exact⟨z,g,n,r,r⁻¹,e⟩
theorem Ux{n:Nat}(h:n<=sizeLine):Builtin.List.listTooLong n=false:=by unfold Builtin.List.listTooLong;exact bX (!0)
end
section
variable {X:Cx}
def Uy:V->AR->Hp->VK->Prop:=λx vs H Q=>∃l xs y,x=.ref l/\vs=[y]/\H l=-(.lst xs)/\xs⁻¹<sizeLine/\Q .non (upd H l (.lst (xs++[y])))
theorem Uz:MtM X "list.append" Uy:=by intro p9 s Y H x vs v us Q I O N h;let(l,xs,y,rfl,rfl,J,U,q):=h;cases O;let(u,rfl,L):=N.one;let(z,g,n,r,hl,e):=I.lstM J;show call_meets F.slot_list_append ⟨_,e,rfl⟩ F.entry_list_append (F.args_list_append_2 _ _) (PySem.list_append l g.toArray n u (by rw[ax];lia)) ⟨e,?_⟩;show⟨.non,_,I.lset (its':=g++[u]) J e (!2) (r.append (.cons L .nil)) ?_,rfl,q⟩;rw[am,ca];lia
def UG:V->AR->Hp->VK->Prop:=λx vs H Q=>∃l b xs zs,x=.ref l/\vs=[.ref b]/\H l=-(.lst xs)/\H b=-(.lst zs)/\xs⁻¹+zs⁻¹<=sizeLine/\Q .non (upd H l (.lst (xs++zs)))
theorem UJ:MtM X "list.extend" UG:=by
 intro p9 s Y H x vs v us Q I rx rv h;let(l,b,xs,zs,rfl,rfl,N,U,hz,q):=h;cases rx;let(u,rfl,ru):=rv.one;cases ru;let(z,J,n,r,hl,e):=I.lstM N;let(z2,g,n2,r2,hl2,O):=I.lstM U;have hsz:J.toArray.size+g.toArray.size<=sizeLine:=by rw[ax,ax];lia
 have L:¬(!J.toArray.isEmpty&&Builtin.List.listTooLong (J.toArray.size+g.toArray.size))=true:=by rw[Ux hsz,Bool.and_false];exact bB
 show call_meets F.slot_list_extend ⟨_,e,rfl⟩ F.entry_list_extend (F.args_list_extend_2 _ _)
  (AutoSeq1.list_extend_list_list_0 l J.toArray n b g.toArray n2 L (by rw[ax];lia) (!0)) ⟨e,O,?_⟩
 show⟨.non,_,I.lset (its':=J++g) N e (!2) (r.append r2) ?_,rfl,q⟩;rw[am];lia
def UL:V->AR->Hp->VK->Prop:=λx vs H Q=>∃l xs i k y,x=.ref l/\vs=[.int i]/\H l=-(.lst xs)/\Neg.neg (2 ^ 63)<=i/\i<2 ^ 63/\seqIndex? i xs⁻¹=-k/\xs[k]?=-y/\Q y (upd H l (.lst (xs.eraseIdx k)))
theorem UT:MtM X "list.pop" UL:=by
 intro p9 s Y H x vs v us Q I rx rv h;let(l,xs,i,k,y,rfl,rfl,L,h1,h2,N,O,q):=h;cases rx;let(u,rfl,U):=rv.one;let(t,rfl):=U;let(z,g,n,r,hl,e):=I.lstM L;let(w,hw,J):=r.get O;show call_meets F.slot_list_pop ⟨_,e,rfl⟩ F.entry_list_pop (F.args_list_pop_2 _ _)
  (MeetsSeq.list_pop_at l g.toArray n i t k w (fitsIndex_both h1 h2) (by rw[ax,<-hl];exact N) (by rw[<-eI];exact hw) (by rw[ax];lia)) ⟨e,?_⟩
 show⟨y,_,I.lset (its':=g.eraseIdx k) L e ?_ (r.eraseIdx k) ?_,J,q⟩
 .change g.toArray.eraseIdxIfInBounds k=(g.eraseIdx k).toArray;rw[List.eraseIdxIfInBounds_toArray]
 .have:=Cv xs k;lia
def vf:V->AR->Hp->VK->Prop:=λx vs H Q=>∃l xs,x=.ref l/\vs=[]/\H l=-(.lst xs)/\Q .non (upd H l (.lst []))
theorem Cw:MtM X "list.clear" vf:=by intro p9 s Y H x vs v U Q I O N h;let(l,xs,rfl,rfl,L,q):=h;cases O;have g:=N.zero;subst g;let(z,J,n,r,hl,e):=I.lstM L;show call_meets F.slot_list_clear ⟨_,e,rfl⟩ F.entry_list_clear (F.args_list_clear_1 _) (AutoSeq1.list_clear_list_0 l J.toArray n (by rw[ax];lia)) ⟨e,?_⟩;exact⟨.non,_,I.lset (its':=[]) (ys:=[]) L e rfl .nil (cb _),rfl,q⟩
theorem len_rep{q:Type}(xs:List q)(k:Nat):(List.replicate k xs).flatten⁻¹=k*xs⁻¹:=by
 induction k with
 |zero=>simp
 |succ k g=>rw[fm,hU,am,g,Nat.succ_mul,Nat.add_comm]
end
end L2
namespace Att
open PySem PySem.W PySem.Calls PyProof.Rows
def UV{P:Params}{h:Heap}:∀(ns:List Int)(vs:AB),WellAll P h vs (ns.map WData.int)->IntsAre vs ns:=by
 intro ns;induction ns with
 |nil=>
  intro vs w;rw[List.map_nil]at w;cases w;exact .nil
 |cons n ns g=>
  intro vs w;rw[List.map_cons]at w;cases w with
  |cons a b=>
   cases a;exact .cons _ _ (g _ b)
def UW{l:OpenLaw}{n:Nat}(hn:l.most=-n){P:Params}{h:Heap}{args:List WData}{z:AB}
  (g:l.row.toRowW.claim.pre args=true) (Y:WellAll P h z args):
  ∃a vs ns,z=[Value.ref a]/\args=[WData.list (ns.map WData.int)]/\h.get? a=-{cls:=.type "list",data:=.seq vs.toArray}/\IntsAre vs ns/\ns⁻¹<=n:=by
 have U:WShape.hasAll [] args [.list .int]=true:=(pre_splitW g).1;have hc:l.pre.holds [] {args:=args}=true:=(pre_splitW g).2;let(d,r,rfl,h1,h2):=hasAllW_cons U;obtain rfl:=hasAllW_nil h2;let(xs,rfl,h3):=hasW_list h1;let(ns,rfl):=items_int h3;have L:ns⁻¹<=n:=by
  unfold OpenLaw.pre at hc;have N:(WTm.not (.lt (.lit (.int (n:Int))) (.len (.arg 0)))).holds [] {args:=[.list (ns.map .int)]}=true:=by have N:=(holds_andW hc).1;rw[hn]at N;exact N
  have O:=condW_of N (w_not (w_lt w_lit (w_len_list (w_arg rfl))));rw[List.length_map]at O;show Nat.le_of_not_lt λq=>?_;have q':(n:Int)<((ns⁻¹:Nat):Int):=by lia
  first
   | (rw[decide_eq_true q']at O;exact absurd O (!1))
   | (simp at O;lia)
 cases Y with
 |cons w1 w2=>
  cases w2;cases w1 with
  |list ho J=>exact⟨_,_,ns,rfl,rfl,ho,UV ns _ J,L⟩
def U0(l:OpenLaw)(args:List WData):l.row.toRowW.claim.post args (.bool true) args=true:=
 postW_of (r:=l.row.toRowW) (X:=(true==true))
  (show WShape.has [] (.bool true) .bool=true by first|rfl|decide|simp[WShape.has,WShape.arms,WShape.armsAll])
  (show(WTm.eq .res (.lit (.bool true))).value [] {args:=args,res:=-(.bool true),after:=args}=-(.bool (true==true)) from w_eq_bool (w_res rfl) w_lit) rfl
def attach_call{l:OpenLaw}{n:Nat}{q:AK}{loose:AD}{XP:(AH)->Heap->Prop}{YP:World->Heap->Prop}{d:DefRec}
  (hn:l.most=-n) (hdf:d.params.defaults=[])
  (call:∀(w:World)(s₀ g:AI)(mg mb:AH)(fa:AQ)(o:Obj)(pm U z:AN)(a:AQ)(vs:AB)(ns:List Int),
   Ground q loose [] XP w s₀ mg mb g.heap->YP w g.heap->
   g.heap.get? fa=-o->o.data=.func (docDef d.name d.params d.body d.scope pm U z)->g.heap.CodeRec U d.name->mg d.name=-(.ref fa)->
   g.heap.get? a=-{cls:=.type "list",data:=.seq vs.toArray}->IntsAre vs ns->ns⁻¹<=n->g.gens=#[]->
   codeAny (model l.prog w) callerA (.call (.ref fa) ⟨[.ref a],[]⟩) (λr s'=>r=.ok (.ret (.bool true))/\OldK g.heap s'.heap/\s'.os=g.os/\AllBare s'.gens) g):
  WalkO q loose XP YP l.row.toRowW d [] (λf vs=>PySem.call f vs):=by
 intro w s₀ g mg mb G Y fa o pm U z dV kV ho hd hcd hD hmg hg args vals as O hlay hrd hwl hlo;obtain rfl:dV=.none:=Dflts.none hD hdf;obtain rfl:kV=.none:=Dflts.noKw hD;let(a,vs,ns,rfl,rfl,N,J,L):=UW hn O hwl;show enter_call (codeAny_mono (call w s₀ g mg mb fa o pm U z a vs ns G Y ho (fd_plain hd) hcd hmg N J L hg) λr s' hq=>?_);let(rfl,h2,h3,h4):=hq;exact⟨.inl ⟨.bool true,.bool true,[],rfl,λy=>rfl,.bool true,U0 l _,λy=>⟨List.Pairwise.nil,λy hm=>(nomatch hm)⟩⟩,h2,h3,h4⟩
end Att
namespace L2
open PySem PySem.Spec PyProof.Rows
def vg:∀{vs:AB}{ns:List Int},IntsAre vs ns->Vals (ns.map V.int) vs
 |_,_,.nil=>.nil
 |_,_,.cons n t h=>.cons ⟨t,rfl⟩ (vg h)
def Only(H:Hp):Prop:=∀b,H b=none\/∃o xs,H b=-(.frz o (.lst xs))
def U3{P:AK}{w:World}{K:PF}{mg mb:AH}{CX:CXT}{k:Nat}{fa a:AQ}{fd:AJ}{x:Str}{sp:Sp}{g:AI}{vs:AB}{ns:List Int}
  (KX:K.In g.heap) (hns:g.heap.Ns mainGlobals mg) (L:g.heap.Ns builtinsNs mb) (hbb:∀x:Str,x≠"__name__"->mb x=bootBuiltins x) (hlim:g.heap.NoLimit) (hg:g.gens=#[])
  (ha:g.heap.get? a=-{cls:=.type "list",data:=.seq vs.toArray}) (hi:IntsAre vs ns) (hl:ns⁻¹<=sizeLine) (hr:Room k callerA)
  (F:∀base:Heap,K.In base->base.Ns mainGlobals mg->FnOk P w K mg base CX k fa fd [x] sp) (U:∀(s:AI)(u:AN),BindsTo s fd ⟨[u],[]⟩ [(x,u)])
  (hsp:∀H:Hp,Only H->SqL K H a (ns.map V.int)->sp [.ref a] H (λv y=>v=.bl true) λy y y=>False)
  (hCX:∀H e s',CX [] H g (λy y y=>False) e s'->False):
  codeAny (model P w) callerA (.call (.ref fa) ⟨[.ref a],[]⟩) (λr s'=>r=.ok (.ret (.bool true))/\OldK g.heap s'.heap/\s'.os=g.os/\AllBare s'.gens) g:=by
 have rv:=vg hi;have lenV:=hi⁻¹
 -- from an abstract heap in which nothing but the script may be tracked
 have O:∀H:Hp,Only H->SqL K H a (ns.map V.int)->HOk P w H g.heap->(∀b,H b≠none->b=a)->(H a≠none->K.lookup a=none)->
   codeAny (model P w) callerA (.call (.ref fa) ⟨[.ref a],[]⟩) (λr s'=>r=.ok (.ret (.bool true))/\OldK g.heap s'.heap/\s'.os=g.os/\AllBare s'.gens) g:=by
  intro H hO hS hok hA hK;have J:∀{b:AQ}{o:Obj},g.heap.get? b=-o->H b=none->(fP g.heap H).get? b=-o:=λe n=>QZ e n;have noA:∀{b:AQ}{o:Obj}{es:Array DictEntry}{ep:Nat},g.heap.get? b=-o->o.data=.dict es ep->H b=none:=λ{b o es ep} e d=>by
   cases q:H b with
   |none=>rfl
   |some u=>
    have e':b=a:=hA b (by rw[q];simp);subst e';rw[ha]at e;cases e;have d':Data.seq vs.toArray _=Data.dict es ep:=d;cases d'
  have N:∀{b:AQ}{m:AH},g.heap.Ns b m->(fP g.heap H).Ns b m:=λ{b m} ⟨o,es,ep,e,d,r⟩=>⟨o,es,ep,J e (noA e d),d,r⟩;have hKb:K.In (fP g.heap H):=λb o e=>J (KX b o e) (by
   cases q:H b with
   |none=>rfl
   |some u=>
    have e':b=a:=hA b (by rw[q];simp);subst e';rw[hK (by rw[q];simp)]at e;cases e)
  have hM:Mod K mg (fP g.heap H):=⟨hKb,N hns,⟨mb,N L,hbb⟩,let⟨mc,h1,h2⟩:=hlim;⟨mc,N h1,h2⟩⟩;have e0:Env0 P w K mg (fP g.heap H) callerA [] g H:=⟨rfl,hM,λb o e=>Q0 e,Nat.le_of_eq (QX _ _),trivial,λb L=>absurd (show b∈([]:List AQ) from L) (!2),hok,.of_eq hg⟩;show codeAny_mono ((F _ hKb (N hns)).run callerA [] g H ⟨[.ref a],[]⟩ [.ref a] [.ref a] _ _ hr e0 (U g (.ref a)) (.cons rfl .nil) (hsp H hO hS)) λr s' h=>?_;cases r with
  |error e=>exact(hCX H e s' h).elim
  |ok fl=>
   cases fl with
   |next=>exact False.elim h
   |brk=>exact False.elim h
   |cont=>exact False.elim h
   |ret u=>
    let(v,H',os,Y,un,hok',r',q):=h;have q':v=.bl true:=q;subst q';obtain rfl:u=Value.bool true:=r';show⟨rfl,OldK.of_keep λb o e=>?_,os,Y⟩;cases q:H b with
    |none=>exact un.keep b o e q (by intro z;exact absurd (show b∈([]:List AQ) from z) (!2)) (!2)
    |some u=>
     rcases hO b with z|⟨ob,xs,z⟩
     .rw[q]at z;cases z
     .have z2:=un.frzs b ob _ z;let(e1,_):=hok b _ z;let(e2,_):=hok' b _ z2;rw[e]at e1;cases e1;exact e2
 cases hk:K.lookup a with
 |some o=>
  -- the script is one of the module's own objects
  have e:=KX a o hk;rw[ha]at e;cases e;show O (λy=>none) (λy=>.inl rfl) (.inr ⟨_,vs.toArray,_,hk,rfl,rfl,rfl,by rw[ax,lenV];exact hl,!!rv⟩) (λb u z=>by have z':(none:Option HO)=-u:=z;cases z') (λb z=>absurd rfl z) λz=>absurd rfl z
 |none=>
  show O (λb=>if b=a then some (.frz {cls:=.type "list",data:=.seq vs.toArray} (.lst (ns.map V.int))) else none) (λb=>?_) (.inl (.inr ⟨{cls:=.type "list",data:=.seq vs.toArray},if_pos rfl⟩)) (λb u z=>?_) (λb z=>?_) λy=>hk
  .by_cases L:b=a
   .exact .inr ⟨_,_,if_pos L⟩
   .exact .inl (if_neg L)
  .by_cases L:b=a
   .have z':=(if_pos L).symm.trans z;cases z';subst L;exact⟨ha,by rw[af];exact hl,vs,_,rv,ha⟩
   .have z':=(if_neg L).symm.trans z;cases z'
  .by_cases L:b=a
   .exact L
   .exact absurd (if_neg L) z
def U4{l:PySem.W.OpenLaw}{n k:Nat}{q:AK}{loose:AD}{XP:(AH)->Heap->Prop}{YP:World->Heap->Prop}{d:DefRec}{K:Params->PF}{CX:World->CXT}{sp:World->Sp}{x:Str}
  (hn:l.most=-n) (hn2:n<=sizeLine) (O:d.params.defaults=[]) (hr:Room k callerA)
  (hY:∀(w:World)(h:Heap),YP w h->(K w.params).In h)
  (F:∀(w:World)(mg:AH)(fa:AQ)(h:Heap),(K w.params).In h->h.Ns mainGlobals mg->mg d.name=-(.ref fa)->
   ∃fd:AJ,(∀(s:AI)(u:AN),BindsTo s fd ⟨[u],[]⟩ [(x,u)])/\
    ∀base:Heap,(K w.params).In base->base.Ns mainGlobals mg->FnOk l.prog w (K w.params) mg base (CX w) k fa fd [x] (sp w))
  (hsp:∀(w:World)(H:Hp)(a:AQ)(ns:List Int),ns⁻¹<=n->Only H->SqL (K w.params) H a (ns.map V.int)->sp w [.ref a] H (λv y=>v=.bl true) λy y y=>False)
  (N:∀(w:World)(H:Hp)(s:AI)(e:AN)(s':AI),CX w [] H s (λy y y=>False) e s'->False):
  PySem.W.WalkO q loose XP YP l.row.toRowW d [] (λf vs=>PySem.call f vs):=by
 show Att.attach_call hn O λw s₀ L mg mb fa o pm cd doc a vs ns G Y ho hd hcd U J z g hg=>?_;have KX:=hY w _ Y;let(fd,hb,hF):=F w mg fa _ KX G.T.g U;exact U3 KX G.T.g G.T.b G.T.builtins G.T.nolimit hg J z (cf g hn2) hr hF hb (λH hO hS=>hsp w H a ns g hO hS) λH e s'=>N w H L e s'
def kj(s:Stmt):Arguments:=match s with
 |.FunctionDef _ a _ _ _ _ _ _ _ _=>a
 |_=>{posonlyargs:=[],args:=[],vararg:=none,kwonlyargs:=[],kw_defaults:=[],kwarg:=none,defaults:=[]}
def aH(s:Stmt):AF:=match s with
 |.FunctionDef _ _ b _ _ _ _ _ _ _=>b
 |_=>[]
def aq(s:Stmt):Scope:=match s with
 |.FunctionDef _ _ _ _ _ _ sc _ _ _=>sc
 |_=>{kind:=.function,names:=[],isGenerator:=false,isCoroutine:=false}
abbrev CX0:CXT:=λz z z z z z=>False
structure Fun(K:PF)(x qual:Str)(st:Stmt)(f:AQ)(fd:AJ):Prop where
 ex:∃(oc:AN)(od:Option AQ)(kV doc pm:AN)(an:Option AQ)(cdv ct:AN)(osl:Array (Option AN)),
  fd=PySem.W.fnOf x qual (kj st) (aH st) (aq st) .none kV doc pm an cdv ct/\K.lookup f=some ⟨oc,od,.func fd,osl⟩/\PySem.W.codeIn K cdv qual=true
 kp:PySem.W.keepIn K (.ref f)=true
section
variable {P:AK} {w:World} {K:PF} {mg:AH} {base:Heap}
theorem Fun.binds{x g:Str}{st:Stmt}{f:AQ}{fd:AJ}{ps:AD}(F:Fun K x g st f fd)
  (h:∀(kV z L:AN)(J:Option AQ)(q ct:AN)(N:AB),N⁻¹=ps⁻¹->bindArgs (PySem.W.fnOf x g (kj st) (aH st) (aq st) .none kV z L J q ct) ⟨N,[]⟩=pure (ps.zip N)):Binds K fd ps []:=by
 let(oc,od,kV,z,L,J,q,ct,U,rfl,Y,O):=F.ex;exact .all (h kV z L J q ct)
theorem U5{x g:Str}{st:Stmt}{f:AQ}{O:AN}{U L:Option AQ}{J:Array (Option AN)}{kV z N q ct:AN}(l:K.lookup f=-⟨O,U,.func (PySem.W.fnOf x g (kj st) (aH st) (aq st) .none kV z N L q ct),J⟩)
  (c:PySem.W.codeIn K q g=true) (k:PySem.W.keepIn K (.ref f)=true):Fun K x g st f (PySem.W.fnOf x g (kj st) (aH st) (aq st) .none kV z N L q ct):=⟨⟨O,U,kV,z,N,L,q,ct,J,rfl,l,c⟩,k⟩
end
section
variable {X:Cx}
theorem pv (i:Nat) {x:Str} {pos:Pos} (q:X.N[i]?=-x:=by rfl) (J:Vis X.env.scope x:=by first|exact Or.inl rfl|exact Or.inr (Or.inl rfl)|exact Or.inr (Or.inr rfl)) (z:(x==("__debug__":Str))=false:=by decide)
  (g:(x==("__classdict__":Str))=false:=by decide):PE X (.Name x pos) (Bg i):=Bh q J z g
end
end L2
set_option maxHeartbeats 4000000
namespace L2
open PySem PySem.Spec PyProof.Rows
section
variable {X:Cx} {p9:AC} {σ:St} {H:Hp} {s:AI} {h':Heap}
theorem Inv.turnedL{t':Nat}{ch:List AQ}(I:Inv X p9 σ H s)(J:∀b∈ch,c7 X p9 H b)(k:∀b o,b∉ch->s.heap.get? b=-o->h'.get? b=-o):
  Inv X p9 σ H {s with heap:=h',toks:=t'}:=by
 have g:∀b u,H b=-u->b∉ch:=λb u e z=>by
  have q:=(J b z).1;rw[q]at e;cases e
 show I.step (g':=s.gens) (d':=s.drawn) (ch:=ch) (λb L=>?_) (λb o y y hc e y=>k b o hc e) (λb o y y hc e y=>⟨o.slots,k b o hc e⟩) (λy y y y n=>n)
  (λb o hc e=>⟨o,k b o hc e⟩) (λy y e=>e) (λy y y e=>e) (λb ps e=>⟨#[],by rw[e];simp⟩) (λm N=>?_) (λb u e=>?_) I.bare
 .let(_,f1,_,f3,f4,f5):=J b L;exact⟨f3,f1,f4,f5⟩
 .let(o,es,ep,O,r):=N;exact⟨o,es,ep,k _ o (λz=>(J _ z).2.1 rfl) O,r⟩
 .show (I.hok b u e).stay (λc v hc q=>k c v ?_ q) (λy q=>q) λy y q=>q;rcases hc with z|z
  .rw[z];exact g b u e
  .exact g c _ z
theorem Inv.track{T:AQ}{o:HO}(I:Inv X p9 σ H s)(L:c7 X p9 H T)(new:ObjOk X.prog X.w (upd H T o) s.heap T o):Inv X p9 σ (upd H T o) s:=by
 have hn:=L.1;have J:HOk X.prog X.w (upd H T o) s.heap:=λb u e=>by
  by_cases z:b=T
  .subst z;rw[cU]at e;cases e;exact new
  .rw[aK z]at e;exact(I.hok b u e).stay (λc v y q=>q) (λc q=>by rw[aK (bH q hn)];exact q) λc xs q=>by rw[aK (bH q hn)];exact q
 let(O,g,d,U,os):=s;show I.step (h':=O) (g':=g) (d':=d) (t':=U) (ch:=[T]) (λb z=>?_) (λb o y y y e y=>e) (λb o y y y e y=>⟨o.slots,e⟩) (λb u hc y n=>?_)
  (λb o y e=>⟨o,e⟩) (λb xs e=>by rw[aK (bH e hn)];exact e) (λb u v e=>by rw[aK (bH e hn)];exact e) (λb ps e=>⟨#[],by rw[aK (bH e hn),e];simp⟩) (λm N=>N) J I.bare
 .have e:b=T:=by simpa using z
  subst e;let(_,f1,_,f3,f4,f5):=L;exact⟨f3,f1,f4,f5⟩
 .rw[aK (!!hc)];exact n
end
def Its(x:Str):It:=⟨λi z=>i<x.cps.size,λi H v H'=>H'=H/\∃c,x.cps[i]?=-c/\v=.str ⟨#[c]⟩,λi z=>i=x.cps.size⟩
def Cy{prog:AK}{w:World}{A:AM}(hh:A.handled=none)(I:AQ)(x:Str)(t:Tok):
  Walks prog w A I [I] [I] x.cps.size (SignAt x) (λi h=>h.IsStrIter I (strIterType x) x t i):=by
 unfold strIterType;split
 .exact Walks.strAscii hh I x t
 .exact Walks.strWide hh I x t
def vh{P:AK}{w:World}{K:PF}{tg:AO}(it:AQ)(x:Str)(t:Tok):Turn P w K tg (Its x) [it] it (λi h=>h.IsStrIter it (strIterType x) x t i) where
 mem:=by simp
 obj:=λi h st b g=>by
  have e:b=it:=by simpa using g
  subst e;let(o,e,c,d):=st;exact⟨o,e,λv z=>by rw[d]at z;cases z⟩
 keep:=λi h h' st k=>let⟨o,ho,r⟩:=st;⟨o,k it (!2) o ho,r⟩
 item:=by intro X N hw L hc i p9 s Y H E I J st O;subst N hw L;let(f0,f1,f2,f3,f4,f5):=J it (!2);have W:=Cy (prog:=X.prog) (w:=X.w) (I.ok.hd hc) it x t;show W.item i s _ _ O st λv h' tk hv q kk=>?_;let(c,u,e,rfl):=hv;have I1:Inv X p9 Y H {s with heap:=h',toks:=tk}:=I.turned (λb o g e=>kk b o (!!g) e) f0 f1 f3 f4 f5;let(o,eo,cc,d):=id q;exact⟨_,rfl,qI (s:={s with heap:=h',toks:=tk}) (n:=strIterType x) eo cc d (by unfold strIterType;split<;>decide) ⟨.str ⟨#[c]⟩,H,I1,⟨u,rfl⟩,⟨rfl,c,e,rfl⟩,q,λb g=>(J b g).1⟩⟩
 done:=by intro X N hw L hc i p9 s Y H E I J st O;subst N hw L;let(f0,f1,f2,f3,f4,f5):=J it (!2);have W:=Cy (prog:=X.prog) (w:=X.w) (I.ok.hd hc) it x t;have U:i=x.cps.size:=O;subst U;exact W.done s _ _ st λh' tk kk=>⟨rfl,I.turned (λb o g e=>kk b o (!!g) e) f0 f1 f3 f4 f5⟩
 self:=λA i s Q E st h=>by
  unfold strIterType at st;split at st
  .exact wpAny_pyIter_striter_ascii st h
  .exact wpAny_pyIter_striter_wide st h
def cu(env:Env):List (Str×NameKind)->List (Str×AQ)->List (Str×AQ)
 |[],cs=>cs
 | (n,k)::r,cs=>cu env r (if(k==.free)=true then(match env.cells.lookup n with|some c=>(n,c)::cs|none=>cs) else cs)
def Cz{env:Env}:∀{l:List (Str×NameKind)}{cs:List (Str×AQ)},(∀x c,cs.lookup x=-c->env.cells.lookup x=-c)->∀x c,(cu env l cs).lookup x=-c->env.cells.lookup x=-c
 |[],_,h,x,c,e=>h x c e
 | (n,k)::r,cs,h,x,c,e=>by
  show Cz (l:=r) (cs:=_) ?_ x c e;intro y d q;by_cases z:(k==NameKind.free)=true
  .rw[if_pos z]at q;cases hn:env.cells.lookup n with
   |none=>rw[hn]at q;exact h y d q
   |some L=>
    rw[hn]at q;simp only[List.lookup_cons]at q;cases g:y==n with
    |true=>
     rw[g]at q;have J:y=n:=eq_of_beq g;rw[J,hn];exact q
    |false=>rw[g]at q;exact h y d q
  .rw[if_neg z]at q;exact h y d q
def CG{env:Env}{x:Str}:∀{l:List (Str×NameKind)}{cs:List (Str×AQ)},(cs.lookup x).isSome=true->((cu env l cs).lookup x).isSome=true
 |[],_,h=>h
 | (n,k)::r,cs,h=>by
  show CG (l:=r) (cs:=_) ?_;by_cases g:(k==NameKind.free)=true
  .rw[if_pos g];cases hn:env.cells.lookup n with
   |none=>exact h
   |some q=>
    simp only[List.lookup_cons];cases z:x==n with
    |true=>rfl
    |false=>exact h
  .rw[if_neg g];exact h
def CJ{env:Env}{x:Str}(g:(env.cells.lookup x).isSome=true):∀{l:List (Str×NameKind)}{cs:List (Str×AQ)},(x,NameKind.free)∈l->((cu env l cs).lookup x).isSome=true
 | (n,k)::r,cs,h=>by
  rcases bP.mp h with e|h
  .cases e;show CG (l:=r) (cs:=_) ?_;rw[if_pos (show(NameKind.free==NameKind.free)=true by decide)];let(c,hc):=cq.mp g;rw[hc];simp
  .exact CJ g (l:=r) h
def qO{scope:Scope}{env:Env}(h:∀y∈scope.names,y.2=NameKind.free->(env.cells.lookup y.1).isSome=true):closureFor scope env=pure (cu env scope.names []):=by
 simp only[closureFor];generalize ([]:List (Str×AQ))=cs;generalize scope.names=l at h;induction l generalizing cs with
 |nil=>rfl
 |cons y r U=>
  let(n,k):=y;have z:=λcs=>U cs λy O=>h y (bS _ O);rw[fw];by_cases q:(k==NameKind.free)=true
  .have L:k=NameKind.free:=eq_of_beq q;let(c,hc):=cq.mp (h (n,k) bp L);have J:cu env ((n,k)::r) cs=cu env r ((n,c)::cs):=by
    rw[cu,if_pos q];change cu env r (match env.cells.lookup n with|some c=>(n,c)::cs|none=>cs)=_;have g:env.cells.lookup n=-c:=hc;rw[g]
   have N:cellOf env n=pure c:=by unfold cellOf;have g:env.cells.lookup n=-c:=hc;rw[g]
   rw[J,<-z ((n,c)::cs)];simp only[q,if_true,N];rfl
  .have J:cu env ((n,k)::r) cs=cu env r cs:=by rw[cu,if_neg q]
   rw[J,<-z cs];simp only[q,if_false];rfl
def vm{env:Env}{x:Str}:∀{names:List (Str×NameKind)},
  (names.map λ(n,k)=>if(k==NameKind.free&&env.scope.kind==.function&&env.kindOf n==-.cell) then(n,NameKind.cell) else(n,k)).lookup x=
   (names.lookup x).map λk=>if(k==NameKind.free&&env.scope.kind==.function&&env.kindOf x==-.cell)=true then NameKind.cell else k
 |[]=>rfl
 | (n,k)::r=>by
  have z:=@vm env x r;rw[a7];have hh:∀(c:Prop)[Decidable c],(if c then(n,NameKind.cell) else(n,k))=(n,if c then NameKind.cell else k):=λc y=>by split<;>rfl
  change List.lookup x ((if(k==NameKind.free&&env.scope.kind==.function&&env.kindOf n==-.cell)=true then(n,NameKind.cell) else(n,k))::_)=_;rw[hh];simp only[List.lookup_cons];cases q:x==n with
  |true=>
   have g:x=n:=eq_of_beq q;subst g;rfl
  |false=>exact z
abbrev Cx.comp(X:Cx)(N':AD)(scope:Scope)(z:List (Str×AQ))(C:AQ)(q:AI)(g:Hp)(fp:List AQ)(pn:AC):Cx where
 prog:=X.prog
 w:=X.w
 K:=X.K
 mg:=X.mg
 base:=X.base
 A:=X.A
 N:=N'
 s₀:=q
 H₀:=g
 env:=compEnvC scope z C X.env
 outer:=X.stack
 stack:=X.stack
 ex:=fp
 fn:=λy=>false
 calm:=X.calm
 pn:=pn
 xe:=λy y=>False
def PIf(X:Cx)(g:AE)(t:TT):Prop:=
 ∀(p9:AC)(s:AI)(Y:St)(H:Hp)(Q:Bool->Hp->Prop),Inv X p9 Y H s->t Y H Q->
  ↥X (forIn g true λc r=>if r=true then do let ok <-isTrue c X.env (eval c X.env);pure (ForInStep.yield ok) else pure (ForInStep.yield r)) (TP X p9 Y Q) X.xe s
def U6:TT:=λz H Q=>Q true H
def U7{X:Cx}:PIf X [] U6:=λz z z H z I h=>wpAny_tests_nil ⟨H,I,h⟩
def U8{X:Cx}{c:AO}{t:TT}(h:PT X c t):PIf X [c] t:=λp9 s Y H Q I q=>wpAny_tests_one (h p9 s Y H Q I q)
def eG(cap:List (Option Nat))(Y:St):St:=cap.map λo=>match o with|none=>none|some j=>(Y[j]?).join
def Caps(X:Cx)(scope:Scope):AD->List (Option Nat)->Prop
 |[],[]=>True
 |_::N',none::cap=>Caps X scope N' cap
 |x::N',-j::cap=>(X.N[j]?=-x/\scope.names.lookup x=-NameKind.free)/\Caps X scope N' cap
 |_,_=>False
def Caps.len{X:Cx}{scope:Scope}:∀{N':AD}{cap:List (Option Nat)},Caps X scope N' cap->cap⁻¹=N'⁻¹
 |[],[],_=>rfl
 |_::N',none::cap,h=>by
  have:=Caps.len (N':=N') (cap:=cap) h;simp[this]
 |_::N',-_::cap,h=>by
  have:=Caps.len (N':=N') (cap:=cap) h.2;simp[this]
 |[],_::_,h=>False.elim h
 |_::_,[],h=>False.elim h
def Caps.at{X:Cx}{scope:Scope}:∀{N':AD}{cap:List (Option Nat)}{i:Nat}{x:Str}{v:V}{Y:St},Caps X scope N' cap->N'[i]?=-x->(eG cap Y)[i]?=-(-v)->
  ∃j:Nat,X.N[j]?=-x/\scope.names.lookup x=-NameKind.free/\Y[j]?=-(-v)
 |[],[],i,x,v,Y,_,e,_=>by simp at e
 |y::N',none::cap,0,x,v,Y,h,e,q=>by simp[eG]at q
 |y::N',-j::cap,0,x,v,Y,h,e,q=>by
  have J:y=x:=by simpa using e
  subst J;have g:(Y[j]?).join=-v:=by simpa [eG] using q
  show⟨j,h.1.1,h.1.2,?_⟩;cases z:Y[j]? with
  |none=>rw[z]at g;cases g
  |some o=>rw[z]at g;exact fb some g
 |y::N',none::cap,i+1,x,v,Y,h,e,q=>Caps.at (N':=N') (cap:=cap) (i:=i) h (!!e) (by simpa [eG] using q)
 |y::N',-_::cap,i+1,x,v,Y,h,e,q=>Caps.at (N':=N') (cap:=cap) (i:=i) h.2 (!!e) (by simpa [eG] using q)
 |[],_::_,_,_,_,_,h,_,_=>False.elim h
 |_::_,[],_,_,_,_,h,_,_=>False.elim h
abbrev tx(l:AA):Str:=⟨l.toArray⟩
def cA(l:AA):(tx l)⁻¹=l⁻¹:=by simp[Str.length]
def qP(a b:AA):tx a++tx b=tx (a++b):=by change(⟨a.toArray++b.toArray⟩:Str)=⟨(a++b).toArray⟩;simp
def CN{a b:AA}(h:tx a=tx b):a=b:=by have:=fb (λx:Str=>x.cps.toList) h;simpa using this
def qQ(x:Str):x=tx x.cps.toList:=by cases x;simp
section
variable {X:Cx}
theorem CP:∀{ys:AD}{g:AB},Vals (ys.map V.str) g->StrsAre g ys
 |[],g,r=>by
  rw[List.map_nil]at r;cases r;exact .nil
 |y::ys,g,r=>by
  rw[a7]at r;cases r with
  |cons q z=>
   let(t,e):=q;subst e;exact .cons y t (CP z)
def rJoin(K:PF):V->AR->Hp->VK->Prop:=λx vs H Q=>∃z p ys,x=.str z/\vs=[.ref p]/\SqL K H p (ys.map V.str)/\(ys.map (·.length)).sum+ys⁻¹*z⁻¹<=16777216/\Q (.str (Str.join z ys)) H
theorem U9:MtR X "str.join" (rJoin X.K):=by intro p9 s Y H x xs v us Q I rx rs h;let(z,p,ys,rfl,rfl,J,g,q):=h;let(t,rfl):=rx;let(u,rfl,O):=vals1 rs;cases O;let(L,U,N,hz):=I.list J;show join_list N.isList (by simpa using CP U) g λt' k=>⟨.str _,H,I.tok _,⟨_,rfl⟩,?_⟩;have e:Txt.join z ys=Str.join z ys:=StrLaws.glued_eq_join z ys;rw[e];exact q
def Va(K:PF):AR->Hp->VK->Prop:=λxs H Q=>∃x n t b,xs=[x,.ty n]/\TyOf K H x t/\PySem.W.kitOne K t (.type n)=-b/\Q (.bl b) H
theorem Vb:bf X (.builtin "isinstance") (Va X.K):=by intro p9 s Y H xs L Q I r h;let(x,n,t,b,rfl,ty,e,q):=h;let(u,N,rfl,g,z):=vals2 r;cases z;exact Tu I g ty e λJ=>⟨.bl b,H,I.tok _,rfl,q⟩
theorem Vc:bootBuiltins "bool"=-(.type "bool"):=by ac_rfl
theorem CQ:bootBuiltins "int"=-(.type "int"):=by ac_rfl
theorem CW:bootBuiltins "str"=-(.type "str"):=by ac_rfl
theorem vo:bootBuiltins "list"=-(.type "list"):=by ac_rfl
theorem Vd:bootBuiltins "isinstance"=-(.builtin "isinstance"):=by ac_rfl
theorem Ve {x:Str} {T:AL} {pos:Pos} (q:Gl X x) (z:X.mg x=none) (J:bootBuiltins x=-(.type T)) (hn:x≠"__name__":=by decide) (g:(x==("__debug__":Str))=false:=by decide):PE X (.Name x pos) (tC (.ty T)):=
 Ra q z J (v:=.ty T) rfl hn g
theorem Vf:OpR X (binaryOp .Mult) (λx y H Q=>∃i n,x=.str i/\y=.int n/\MulOk i n/\Q (.str (Txt.mul i n)) H):=by intro p9 s Y H x y v u Q I z J h;let(i,n,rfl,rfl,g,q):=h;let(t,rfl):=z;let(t',rfl):=J;exact SB.mul g λt' k=>⟨.str _,H,I.tok _,⟨_,rfl⟩,q⟩
end
def vp(X:Cx)(st:AF)(t:TS):Prop:=
 ∀(p9:AC)(s:AI)(Y:St)(H:Hp)(D:Ends),1<=s.toks->Inv X p9 Y H s->t D Y H->↥X (execs st X.env) (SP X p9 D) X.xe s
def PE1(X:Cx)(e:AO)(t:TE):Prop:=
 ∀(p9:AC)(s:AI)(Y:St)(H:Hp)(Q:VK),1<=s.toks->Inv X p9 Y H s->t Y H Q->↥X (eval e X.env) (EP X p9 Y Q) X.xe s
def Vg{X:Cx}{e:AO}{te:TE}{pos:Pos}(he:PE1 X e te):vp X [.Return (-e) pos] (Bl te):=by intro p9 s Y H D h1 I h;show wpAny_execs_cons (wpAny_Return_some (thn (he p9 s Y H _ h1 I h) λv J zZ=>?_));let(x,H1,g,z,q):=zZ;exact⟨x,Y,H1,g,z,q⟩
def vq{c d:Nat}:∀l:AA,c∉l->l.map (λa=>if a=c then d else a)=l
 |[],_=>rfl
 |a::r,h=>by
  have h1:a≠c:=λe=>h (by rw[e];exact bp);rw[a7,if_neg h1,vq r λz=>h (bS _ z)]
def CZ(c d:Nat):∀g:AD,(∀p∈g,c∉p.cps.toList)->(Str.join ⟨#[c]⟩ g).cps.toList.map (λa=>if a=c then d else a)=(Str.join ⟨#[d]⟩ g).cps.toList
 |[],_=>rfl
 |[x],h=>by
  simp only[Str.join];exact vq _ (h x bp)
 |x::y::r,h=>by
  have L:=CZ c d (y::r) λp J=>h p (bS _ J);have e:∀z:Str,Str.join z (x::y::r)=x++z++Str.join z (y::r):=λz=>by simp only[Str.join]
  have q:∀u v:Str,(u++v).cps.toList=u.cps.toList++v.cps.toList:=λu v=>by
   change(u.cps++v.cps).toList=_;simp
  rw[e,e,q,q,q,q,cy,cy,L,vq _ (h x bp)];simp
def Vh(l:AA)(c d:Nat):Txt.replace (tx l) (tx [c]) (tx [d])=tx (l.map λa=>if a=c then d else a):=by
 have e:(Txt.replace (tx l) ⟨#[c]⟩ ⟨#[d]⟩).cps.toList=l.map λa=>if a=c then d else a:=by rw[StrLaws.replace_one,<-CZ c d _ (StrLaws.split_free (tx l) c),StrLaws.join_split]
 rw[qQ (Txt.replace (tx l) (tx [c]) (tx [d]))];exact fb tx e
section
variable {X:Cx}
theorem Vi{o:AO}{to:TE}{y z:Str}{O U:Nat}{py pz apos cpos:Pos}(ho:PE X o to)(hyz:(y==z)=false)
  (g:attributeBase o "replace" X.env (eval o X.env)=eval o X.env:=by rfl)
  (L:((backTo cpos (starEach [.Constant (.str y) O py,.Constant (.str z) U pz] X.env)).all (λx=>!x.1)&&(backToKw cpos (keywordEach [] X.env)).all (λx=>x.1.isSome)
  &&decide (([.Constant (.str y) O py,.Constant (.str z) U pz]:AE)⁻¹+([]:List Keyword)⁻¹+(if([]:List Keyword).isEmpty then 0 else 1)<30))=true:=by rfl)
  (J:(apos.endLine==cpos.line)=true:=by rfl):
  PE1 X (.Call (.Attribute o "replace" apos) [.Constant (.str y) O py,.Constant (.str z) U pz] [] cpos)
   (λY H Q=>to Y H λv H1=>∃x,v=.str x/\x⁻¹+(x⁻¹+1)*z⁻¹<=16777216/\Q (.str (Txt.replace x y z)) H1):=by
 intro p9 s Y H Q h1 I h;show wpAny_Call_method_late g L J rfl (dQ (wpAny_toks_of (n:=1) h1 (ho p9 s Y H _ I h)) (λv N h2=>?_) (λu u e=>e.2));let(t1,v',H1,I1,r1,x,e,hb,q):=h2;subst e;let(t,rfl):=r1;show⟨"str","str.replace",F.plainAttrs_str,F.slot_str_replace,F.type_str_replace,typeIs_str _ _ _,(λu e=>nomatch e),?_⟩;show g9 (by rfl) (Calls.evalArgs_plain ?_);change wpAny _ _ (spliced [(false,eval (.Constant (.str y) O py) X.env),(false,eval (.Constant (.str z) U pz) X.env)]) _ _ N;show Calls.spliced_cons (Calls.Constant_str (Calls.spliced_cons (Calls.Constant_str (Calls.spliced_nil ?_))));exact SC.replace (by change @Ne Nat N.toks 0;lia) (by change @Ne Nat (N.toks+1) 0;lia) (by change @Ne Nat N.toks (N.toks+1);lia) hyz hb λt' k=>⟨.str _,H1,I1.tok _,⟨_,rfl⟩,q⟩
end
def Vj{CX:CXT}{P:AK}{w:World}{K:PF}{mg:AH}{base:Heap}{k:Nat}{f:AQ}{name g:Str}{params:Arguments}{body:AF}{scope:Scope}{dV kV Y pm z ct oc:AN}{an od:Option AQ}
  {osl:Array (Option AN)} {N:AD} {x:Str} {sp:Sp} (lk:K.lookup f=-⟨oc,od,.func (PySem.W.fnOf name g params body scope dV kV Y pm an z ct),osl⟩) (hcd:PySem.W.codeIn K z g=true) (S:FnScope N [x] scope)
  (hx:scope.names.lookup x=-.local) (hnc:∀y∈scope.names,y.2≠NameKind.cell) (hcf:∀n,cellsFrom n scope.names []=[])
  (len:∀vs H Q E,sp vs H Q E->vs⁻¹=[x]⁻¹)
  (U:∀(A:AM)(outer:List Env)(s:AI)(H:Hp)(vs:AR)(Q:VK)(E:XK),Room k (A.deeper (envOfC g scope (~~~s) f z))->sp vs H Q E->
   ∃t,vp (dX CX P w K mg base N g scope f z A outer s H E) body t/\t {nx:=λp H'=>Q .non H',rt:=Q} (start N vs) H):
  FnOk P w K mg base CX (k+1) f (PySem.W.fnOf name g params body scope dV kV Y pm an z ct) [x] sp:=by
 show⟨len,λA outer s H args us vs Q E hr e0 hb r hsp=>?_⟩;have hl:=len _ _ _ _ hsp;have KX:K.In s.heap:=e0.mod.kin.keeps λb o e=>(e0.bs b o e).1;have lim:s.heap.NoLimit:=e0.mod.nolimit.keeps λb o e=>(e0.bs b o e).1;obtain⟨u,rfl⟩:∃u,us=[u]:=by
  have h2:=r⁻¹;rw[hl]at h2;match us,h2 with
  |[u],_=>exact⟨u,rfl⟩
 show codeAny_call_function hr.depth (KX _ _ lk) rfl S.co S.gen rfl (PySem.W.codeRec_of KX hcd) (hb _ _ _ _ ?_);show wpAny_newFunctionEnv (binds:=[x].zip [u]) hnc (λy hy=>?_) (λh' hns hsb=>?_) S.kind
 .have e:y=(x,u):=by simpa using hy
  rw[e];exact hx
 have O:newEnv scope (~~~s) mainGlobals [] (g++⇑".<locals>.") (-f) z none builtinsNs=envOfC g scope (~~~s) f z:=by unfold envOfC newEnv;rw[hcf]
 have kp:∀b o,s.heap.get? b=-o->h'.get? b=-o:=λb o e=>hsb.extBut b o (bv (aE e)) (ag _ e);have mEq:bindL (envOfC g scope (~~~s) f z).kindOf ([x].zip [u]) (λp=>none)=λy=>(([x].zip [u]).reverse).lookup y:=by
  funext y;have hk:(envOfC g scope (~~~s) f z).kindOf x=-.local:=hx;change bindL (envOfC g scope (~~~s) f z).kindOf [(x,u)] (λp=>none) y=List.lookup y [(x,u)];unfold bindL;rw[if_pos hk];unfold bindL;by_cases hy:y=x
  .subst hy;simp
  .have:(y==x)=false:=by simpa using hy
   simp[hy,List.lookup_cons,this]
 have xx:InCallC s (~~~s) (bindL (envOfC g scope (~~~s) f z).kindOf ([x].zip [u]) λp=>none) (cellsFrom ((~~~s)+1) scope.names []) (bindC (envOfC g scope (~~~s) f z).kindOf ([x].zip [u]) λp=>none)
   {s with heap:=h',toks:=s.toks+([x].zip [u])⁻¹}:=by
  rw[mEq,hcf];exact⟨⟨⟨h',_,rfl⟩,hns,kp,av _⟩,(λn c e=>by simp at e),List.Pairwise.nil,(λn c e=>nomatch e)⟩
 change _/\codeAny (model P w) A (.func body (newEnv scope (~~~s) mainGlobals [] (g++⇑".<locals>.") (-f) z none builtinsNs)) _ _;rw[O];show⟨lim.keeps kp,codeAny_func ?_⟩;let(t,ht,hq):=U A outer s H vs Q E (hr.deeper _) hsp;have I:Inv (dX CX P w K mg base N g scope f z A outer s H E) [] (start N vs) H {s with heap:=h',toks:=s.toks+([x].zip [u])⁻¹}:=BV S hr.hd e0 hl r xx;show dQ (ht [] _ (start N vs) H _ (Nat.le_add_left 1 s.toks) I hq) (λfl s' hs=>?_) λe s' hs=>hs;have fin:∀{L:St}{H':Hp}{v:V}{u:AN},Inv (dX CX P w K mg base N g scope f z A outer s H E) [] L H' s'->RelV v u->Q v H'->CE outer P w H s Q u s':=
  λ{L H' v u} J rv q=>⟨v,H',J.os,J.bare,J.base,J.hok,rv,q⟩
 cases fl with
 |ret u=>
  let(v,L,H',J,rv,q):=hs;exact fin J rv q
 |next=>
  let(L,H',J,q):=hs;exact fin (v:=V.non) (u:=Value.none) J rfl q
 |brk=>
  let(_,_,_,q):=hs;exact False.elim q
 |cont=>
  let(_,_,_,q):=hs;exact False.elim q
def Fun.ok1{P:AK}{w:World}{K:PF}{mg:AH}{base:Heap}{x g:Str}{st:Stmt}{f:AQ}{fd:AJ}{N:AD}{y:Str}{k:Nat}{sp:Sp}(F:Fun K x g st f fd)(S:FnScope N [y] (aq st))
  (hx:(aq st).names.lookup y=-.local) (U:∀z∈(aq st).names,z.2≠NameKind.cell) (O:∀n,cellsFrom n (aq st).names []=[]) (len:∀vs H Q E,sp vs H Q E->vs⁻¹=[y]⁻¹)
  (J:∀(q:AN)(A:AM)(outer:List Env)(s:AI)(H:Hp)(vs:AR)(Q:VK)(E:XK),Room k (A.deeper (envOfC g (aq st) (~~~s) f q))->sp vs H Q E->
   ∃t,vp (dX CX0 P w K mg base N g (aq st) f q A outer s H E) (aH st) t/\t {nx:=λv H'=>Q .non H',rt:=Q} (start N vs) H):FnOk P w K mg base CX0 (k+1) f fd [y] sp:=by
 let(oc,od,kV,doc,pm,an,q,ct,osl,rfl,lk,L):=F.ex;exact Vj lk L S hx U O len λA outer s H vs Q E hr Y=>J q A outer s H vs Q E hr Y
open Builtin Builtin.Str
def Vk{prog:AK}{w:World}{A:AM}(hh:A.handled=none)(it:AQ)(x:Str)(t:Tok):
  Draws prog w A it [it] x.cps.size (λi v=>∃c u,x.cps[i]?=-c/\v=.str ⟨#[c]⟩ u) (λi h=>h.IsStrIter it (strIterType x) x t i):=by
 unfold strIterType;split
 .exact Draws.strAscii hh it x t
 .exact Draws.strWide hh it x t
structure ZApart(z TI TO i1 i2:AQ):Prop where
 TIz:TI≠z
 TOz:TO≠z
 i1z:i1≠z
 i2z:i2≠z
 TITO:TI≠TO
 TIi1:TI≠i1
 TIi2:TI≠i2
 TOi1:TO≠i1
 TOi2:TO≠i2
 i12:i1≠i2
section
variable {X:Cx}
theorem vy:∀{bs:List Bool}{g:AB}{i:Nat}{v:AN},Vals (bs.map V.bl) g->g[i]?=-v->∃b,bs[i]?=-b/\v=.bool b
 |[],g,i,v,r,e=>by
  rw[List.map_nil]at r;cases r;simp at e
 |b::bs,g,i,v,r,e=>by
  rw[a7]at r;cases r with
  |cons q z=>
   cases i with
   |zero=>
    cases(show _=Value.bool b from q);exact⟨b,rfl,!!e.symm⟩
   |succ i=>exact vy (i:=i) z (!!e)
theorem Vl:bootBuiltins "all"=-(.builtin "all"):=by ac_rfl
theorem Vm:bootBuiltins "zip"=-(.type "zip"):=by ac_rfl
theorem all_range(bs:List Bool)(n:Nat)(hn:n=bs⁻¹):((List.range n).all λi=>(bs[i]?).getD true)=bs.all id:=by
 subst hn;rw[eh,b3,b3];constructor
 .intro h b q;let(i,hi,e):=dA.mp q;have:=h i (fT.mpr hi);rw[al hi,e]at this;simpa using this
 .intro h i hi;have g:=fT.mp hi;rw[al g];simpa using h _ (c8 g)
theorem Vn (hc:X.calm=true):bf X (.builtin "all") (λxs H Q=>∃(p:AQ) (bs:List Bool),xs=[.ref p]/\SqL X.K H p (bs.map V.bl)/\Q (.bl (bs.all id)) H):=by
 intro p9 s Y H xs us Q I r h;let(p,bs,rfl,hq,q):=h;let(u,rfl,ru):=vals1 r;cases ru;let(g,L,pl,hz):=I.list hq;have hl:=pl.isList;have z:p<(~~~s):=by let(_,e,_):=hl;exact aE e
 show call_all_walk (eT hl ?_);show⟨(~~~s),[(~~~s),p],[(~~~s)],g.toArray.size,_,_,λi=>(bs[i]?).getD true,rfl,hG (A:=X.A.in1) (I.ok.hd hc) _ p (bv z) g.toArray,
  ⟨⟨_,aT _ rfl,rfl,rfl⟩,hl.push _⟩,λi v s' Q' E' N J=>?_,λh' tk O=>?_⟩
 .let(b,e,rfl):=vy L (i:=i) (v:=v) (!!N);simp only[e,Option.getD_some]at J;exact eD J
 .have e:=all_range bs g.toArray.size (by rw[ax,<-L⁻¹,af]);rw[e];exact⟨.bl _,H,I.kept (λb o q=>O b o (λU=>by rw[ah.mp U]at q;exact eP _ (aE q)) (ag _ q)),rfl,q⟩
theorem Vo:OpR X (compareOp .Is) (λx y H Q=>∃i j,x=.bl i/\y=.bl j/\Q (.bl (i==j)) H):=by intro p9 s Y H x y v u Q I g z h;let(i,j,rfl,rfl,q):=h;cases g;cases z;exact is_bool ⟨.bl _,H,I,rfl,q⟩
theorem Vp:bf X (.type "int") (λxs H Q=>∃z n,xs=[.str z]/\PySem.intText? z=-n/\z⁻¹<=640/\Q (.int n) H):=by intro p9 s Y H xs g Q I r h;let(z,n,rfl,hn,hl,q):=h;let(u,rfl,t,rfl):=vals1 r;exact PySem.W.KIN.call_text hn hl ⟨.int n,H,I.tok _,⟨_,rfl⟩,q⟩
def Vq:V->Option Int->Option Int->Hp->VK->Prop:=λx lo hi H Q=>∃z,x=.str z/\z⁻¹<=sizeLine/\Q (.str (Txt.slice z lo hi)) H
theorem Vr:SlR X Vq:=by
 intro p9 s Y H x v vl vu lo hi sl Q I U hs N O h;let(z,rfl,hz,q):=h;let(t,rfl):=U;show⟨"str",_,slot_str_getitem.lookup,typeIs_str _ _ _,?_⟩;obtain⟨l,el,g⟩:∃l:Option (Int×Tok),vl=partValue l/\l.map (·.1)=lo:=by
  cases N with
  |none=>exact⟨none,rfl,rfl⟩
  |int i t=>exact⟨-(i,t),rfl,rfl⟩
 obtain⟨u,L,J⟩:∃u:Option (Int×Tok),vu=partValue u/\u.map (·.1)=hi:=by
  cases O with
  |none=>exact⟨none,rfl,rfl⟩
  |int i t=>exact⟨-(i,t),rfl,rfl⟩
 subst el L g J;show wpAny_getItem_str_slice (l:=l) (u:=u) (st:=none) hs rfl ?_;unfold sliceMade;unfold Txt.slice at q;change(if((1:Int)==1&&(slicePicked z l u none)⁻¹==z⁻¹)=true then Made.val (.str z t) else Made.str ⟨((slicePicked z l u none).filterMap (z.cps[·]?)).toArray⟩).post _ _;have ep:slicePicked z l u none=Builtin.Str.strSliceIndices (l.map (·.1)) (u.map (·.1)) 1 z⁻¹:=rfl;rw[ep];by_cases hc:((1:Int)==1&&(Builtin.Str.strSliceIndices (l.map (·.1)) (u.map (·.1)) 1 z⁻¹)⁻¹==z⁻¹)=true
 .rw[if_pos hc]at q ⊢;exact⟨.str z,H,I,⟨t,rfl⟩,q⟩
 .rw[if_neg hc]at q ⊢;show⟨?_,⟨.str _,H,I.tok _,⟨_,rfl⟩,q⟩⟩;change(List.filterMap _ _).toArray.size<=sizeLine;rw[ax];have h1:=sliceIndices_le (l.map (·.1)) (u.map (·.1)) z⁻¹;have h2:=List.length_filterMap_le (λx=>z.cps[x]?) (Builtin.Str.strSliceIndices (l.map (·.1)) (u.map (·.1)) 1 z⁻¹);lia
end
section
variable {X:Cx}
theorem Vs:OpR X (compareOp .IsNot) (λx y H Q=>∃i j,x=.bl i/\y=.bl j/\Q (.bl (i != j)) H):=by intro p9 s Y H x y v u Q I g z h;let(i,j,rfl,rfl,q):=h;cases g;cases z;exact isnot_bool ⟨.bl _,H,I,rfl,q⟩
theorem Dc:∀g:AB,(∀v∈g,∃x:V,RelV x v)->∃xs,Vals xs g
 |[],_=>⟨[],.nil⟩
 |u::r,h=>by
  let(x,J):=h u bp;let(xs,q):=Dc r λv z=>h v (bS _ z);exact⟨x::xs,.cons J q⟩
end
def noStar:AO->Bool
 |.Starred ..=>false
 |_=>true
def cH(e:AO)(es:AE)(env:Env)(h:noStar e=true):starEach (e::es) env=(false,eval e env)::starEach es env:=by cases e<;>first|rfl|cases h
def pk{X:Cx}{e:AO}{es:AE}{te:TE}{t:TA}(g:PE X e te)(q:PA X es t)(h:noStar e=true:=by rfl):PA X (e::es) (By te t):=eE g q (cH e es X.env h)
variable {X:Cx} {e st:AO} {te ts:TE} {p2 pos:Pos}
def Tr(h0:Heap)(H:Hp)(h:Heap)(a:AQ)(c:AN):Prop:=
 ∃g vs T q ts,h.get? a=-g/\g.cls=c/\g.data=.fields vs/\vs[1]?=-(.ref T)/\T≠a/\h.get? T=-q/\q.data=.fields ts/\ts[3]?=-.none/\
  h0.get? a=none/\h0.get? T=none/\H a=none/\H T=none
def CX1(P:AK)(w:World):CXT:=λouter H s E e s'=>
 ∃(a:AQ)(c:AN)(H':Hp),e=.ref a/\s'.os=s.os/\AllBare s'.gens/\Un (frs outer) [] H H' s.heap s'.heap/\HOk P w H' s'.heap/\Tr s.heap H' s'.heap a c/\E c none H'
section
variable {X:Cx} {p9:AC} {σ:St} {H:Hp} {s:AI}
theorem Dd{P:AK}{w:World}(Y:Cx):kh (CX1 P w) Y λz z z=>False:=λz z z z z z z h=>by
 let(_,_,_,_,_,_,_,_,_,q):=h;exact q.elim
end
abbrev veM:AB:=[.type "ValueError",.type "Exception",.type "BaseException",.type "object"]
def Vt:AB->Bool
 |[.type a,.type b,.type c,.type d]=>a=="ValueError"&&b=="Exception"&&c=="BaseException"&&d=="object"
 |_=>false
def De:AN->Bool
 |.str _ _=>true
 |_=>false
def nsB(K:PF)(N:AQ):Bool:=match K.lookup N with
 |some ⟨_,_,.dict es _,_⟩=>es.toList.all (λe=>De e.key)&&quietNames.all λn=>(nsFind es n).isNone
 |_=>false
def Vu(K:PF)(A:AQ):Bool:=match K.lookup A with
 |some ⟨_,_,.cls cd,_⟩=>nsB K cd.ns
 |_=>false
def vz(K:PF):AB->Bool
 |[]=>false
 |v::tl=>(match v with |.ref A=>Vu K A&&vz K tl|_=>Vt (v::tl))
def isRef(C:AQ):AN->Bool
 |.ref a=>a==C
 |_=>false
def isNew:Option AN->Bool
 |some (.builtin s)=>s=="ValueError.__new__"
 |_=>false
def Df:AN->Bool
 |.type s=>s=="type"
 |_=>false
def qR(K:PF)(C:AQ):Bool:=match K.lookup C with
 |some ⟨ty,_,.cls cd,⟨[_,_,_,_,k,_]⟩⟩=>Df ty&&isNew k&&nsB K cd.ns&&!cd.hasDel&&(match cd.mro with|v::tl=>isRef C v&&vz K tl |[]=>false)
 |_=>false
section
variable {X:Cx}
theorem digits_le:∀n:Fin 100,(⇑(toString (n.val:Int)))⁻¹<=3:=by ac_rfl
def Throws(X:Cx)(E:XK):Prop:=∀(p9:AC)(Y:St)(H:Hp)(s:AI)(h':Heap)(a:AQ)(c:AN)(args:AB),Inv X p9 Y H s->s.heap.MadeExcOf h' a c args->E c none H->X.xe (.ref a) {s with heap:=h'}
end
section
variable {X:Cx}
variable {p9:AC} {σ:St} {H:Hp} {s:AI}
structure Caught(X:Cx)(H:Hp)(s:AI)(H':Hp)(a:AQ)(c:AN)(s':AI):Prop where
 os:s'.os=s.os
 bare:AllBare s'.gens
 un:Un (frs X.stack) [] H H' s.heap s'.heap
 hok:HOk X.prog X.w H' s'.heap
 tr:Tr s.heap H' s'.heap a c
variable {H':Hp} {a:AQ} {c:AN} {s':AI}
end
open Builtin.ObjectAttr Builtin.Getset_descriptor
open PySem.W (findIn mroIn clsIn typeIn Looks InstAt looks_findIn looks_mroIn looks_typeIn)
def vA(K:PF)(D:AQ):Bool:=
 findIn K (.ref D) "__class__"==-(-(.builtin "object.__class__"))&&findIn K (.ref D) "__getattribute__"==-(-(.builtin "BaseException.__getattribute__"))&&findIn K (.ref D) "__getattr__"==-none &&
  mroIn K D (.type "object")==-true&&mroIn K D (.type "BaseException")==-true&&(clsIn K D).isSome
open PySem.W (findIn mroIn clsIn typeIn Looks looks_findIn looks_mroIn looks_typeIn)
section
variable {X:Cx}
def XO(H:Hp)(a c:AQ):Prop:=∃o y,H a=-(.frz o (.own y))/\o.cls=.ref c
def valOf:V->AN
 |.ref a=>.ref a
 |.ty n=>.type n
 |_=>.none
end
section
variable {X:Cx}
def XP(X:Cx)(p9:AC)(ex:AN->St->Hp->Prop)(Y:St)(e:AN)(q:AI):Prop:=∃a c H1 g H',e=.ref a/\Inv X p9 Y H1 g/\Caught X H1 g H' a c q/\ex c Y H'
def Dg (K:PF) (C:AQ):Bool:=typeIn K (.ref C)==-(.type "type")&&(clsIn K C).isSome&&mroIn K C (.type "BaseException")==-true
end
open PySem.SeqAt
section
variable {X:Cx}
theorem Vv:OpR X (binaryOp .FloorDiv) (rI (λz j=>0<j/\j<1152921504606846976) λi j=>.int (i/j)):=opI λi j z z z z z hc q=>by
 have h1:(0:Int)<j:=hc.1;have h2:j<1152921504606846976:=hc.2;show floordiv_int (!0) (by rw[Int.fdiv_eq_ediv_of_nonneg i (!0)];exact q) (.inl (PyProof.noPylong_of_log2 ?_));have:j.natAbs.log2<60:=(Nat.log2_lt (!0)).mpr (by change j.natAbs<1152921504606846976;lia);lia
def vB(m:Nat):Str:=⇑(toString (m:Int))
theorem Vw{m:Nat}(h:m<100):(m:Int).natAbs.log2<1920:=by have:(m:Int).natAbs=m:=Int.natAbs_natCast m;rw[this];exact Nat.lt_of_le_of_lt (Nat.log2_le_self m) (!0)
theorem Vx:bf X (.type "str") (λxs H Q=>∃m:Nat,xs=[.int m]/\m<100/\Q (.str (vB m)) H):=by intro p9 s Y H xs J Q I r h;let(m,rfl,g,q):=h;let(u,rfl,z):=vals1 r;let(t,rfl):=z;exact PySem.P.str_of_int (Vw g) ⟨.str _,H,I.tok _,⟨_,rfl⟩,q⟩
end
end L2
namespace HT
open PySem PySem.Spec PyProof.Rows Builtin
end HT
namespace L2
open PySem PySem.Spec PyProof.Rows
section
variable {X:Cx}
def aj8(K:PF):R2:=λx y H Q=>∃(l:AQ)(k:Int)(xs:AR),x=.ref l/\y=.int k/\SqT K H l xs/\xs≠[]/\2<=k/\k<=1000/\xs⁻¹*k.toNat<=sizeLine/\∀p,H p=none->Q (.ref p) (upd H p (.tup (List.replicate k.toNat xs).flatten))
end
end L2
namespace HT
open PySem PySem.Spec PyProof.Rows Builtin
end HT
namespace L2
open PySem PySem.Spec PyProof.Rows
section
variable {X:Cx}
def aj9(K:PF):R2:=λx y H Q=>∃(l:AQ)(k:Int)(xs:AR),x=.ref l/\y=.int k/\SqL K H l xs/\0<=k/\k<=1000/\xs⁻¹*k.toNat<=sizeLine/\∀p,H p=none->Q (.ref p) (upd H p (.lst (List.replicate k.toNat xs).flatten))
end
end L2
namespace PySem
def Vy:plainId "list.__iadd__"=true:=by ac_rfl
def Vz:plainId "proto.collect"=true:=by ac_rfl
def VB{prog:AK}{w:World}{A:AM}{R:Result->AI->Prop}{s:AI}{r:AQ}{a b c:Int}{t u v:Tok}{n:Nat}(hh:A.handled=none)(hr:IsRange s.heap r a b c t u v)(q:Builtin.Range.small a b c=true)
  (hn:Builtin.Range.rangeSize a b c=n) (J:n<=2 ^ 24)
  (hR:∀h' O g L,(∀b o,s.heap.get? b=-o->h'.get? b=-o)->h'.get? (~~~s)=-{cls:=.type "list",dict:=none,data:=.seq g L,slots:=#[]}->ItemsOf (λi v=>∃t,v=.int (a+i*c) t) g n->R (.ok (.ret (.ref (~~~s)))) {s with heap:=h',toks:=O}):
  codeAny (model prog w) A (.builtin "proto.collect" ⟨[.ref r],[]⟩) R s:=by
 show codeAny_builtin PyProof.Rows.entry_proto_collect' ?_;rw[Around.under_plainId Vz _];change wpAny _ _ (do again (.builtin "list.__iadd__" ⟨[<-newList [],.ref r],[]⟩)) _ _ s;show wpAny_bind (wpAny_newList (wpAny_pure ⟨Code.quiet_builtin _ (by ac_rfl),codeAny_builtin PyProof.Rows.entry_list_iadd' ?_⟩));rw[Around.under_plainId Vy _];have U:(s.heap.push {cls:=.type "list",data:=.seq #[]}).get? (~~~s)=-{cls:=.type "list",data:=.seq #[]}:=Heap.get?_push_size _ rfl;exact wpAny_extend_range (R:=R) (s:={s with heap:=s.heap.push {cls:=.type "list",data:=.seq #[]}}) hh (Heap.get?_push_of_some _ hr) q hn J (~~~s) (.ref (~~~s)) _ U λh' O g L Y N z=>
  hR h' O g L (λb o e=>Y b o (Nat.ne_of_lt (Heap.lt_size e)) (Heap.get?_push_of_some _ e)) N z
open AutoSeq1 (wpAny_loadPart') in
def VD(r:AQ)(lo hi:Int)(t u v:Tok)(n:Nat)(z:Builtin.Range.small lo hi 1=true)(hn:Builtin.Range.rangeSize lo hi 1=n)(hlen:n<=1000):
  Meets (Builtin.«tuple.__new__» ⟨[.type "tuple",.ref r],[]⟩)
   (λA R s=>A.handled=none/\IsRange s.heap r lo hi 1 t u v/\∀(h':Heap) (U:Nat) (q:Array AN),(∀b o',s.heap.get? b=-o'->h'.get? b=-o')->ItemsOf (λi v=>∃t,v=.int (lo+i*1) t) q n->R (.ok (.ret (.ref h'.objs.size))) {s with heap:=h'.push {cls:=.type "tuple",data:=.seq q},toks:=U}):=
 .of_wp λprog w A R s h=>by
  let(hp,g,d,U,os):=s;let(hh,O,h):=h;have hsub:=sub_tuple_self;have N:=init_tuple_lookup;have hmh:=madeHere_tuple;have hT:Shared.TypeIs ⟨hp,g,d,U,os⟩ (.ref r) "range":=⟨_,O,rfl⟩;wp_walk using wpAny_loadPart' O,wpAny_typeOf hT
  show VB (A:=A.in1) hh O z hn (!0) λh' Y q c' hk L J=>?_;dsimp only;show wpAny_bind (wpAny_load L (wpAny_pure ?_));change wpAny _ _ (Builtin.Tuple.tupleExact q.toList.toArray >>= λv=>ret v) _ _ _;unfold Builtin.Tuple.tupleExact;show wpAny_bind (wpAny_newObj_type ?_ (by change q.toList.toArray.size<=sizeLine;rw[show q.toList.toArray=q by simp,J.1,sizeLine_eq];lia));show wpAny_pure ⟨_,rfl,?_⟩;have e:q.toList.toArray=q:=by simp
  rw[e];exact h h' Y q hk J
def VF{prog:AK}{w:World}{A:AM}{E:AG}{s:AI}{Q:AG}{r:AQ}{lo hi:Int}{t u v:Tok}{n:Nat}(hh:A.handled=none)(O:IsRange s.heap r lo hi 1 t u v)(q:Builtin.Range.small lo hi 1=true)(hn:Builtin.Range.rangeSize lo hi 1=n)(z:n<=1000)
  (h:∀(h':Heap) (J:Nat) (g:Array AN),(∀b o',s.heap.get? b=-o'->h'.get? b=-o')->ItemsOf (λi v=>∃t,v=.int (lo+i*1) t) g n->Q (.ref h'.objs.size) {s with heap:=h'.push {cls:=.type "tuple",data:=.seq g},toks:=J}):
  wpAny (model prog w) A (call (.type "tuple") [.ref r]) Q E s:=
 callType_new F.called_tuple (!1) (F.typeCall_tuple_1 _) (F.newCall_tuple_1 _) (λobj=>F.args_object_init_2 obj _) F.entry_tuple_new
  (VD r lo hi t u v n q hn z) ⟨hh,O,λh' J g N L=>⟨⟨_,Heap.get?_push_size _ rfl,rfl⟩,h h' J g N L⟩⟩
end PySem
namespace L2
open PySem PySem.Spec PyProof.Rows
section
variable {X:Cx}
theorem Dh{q:Array AN}{n:Nat}(h:ItemsOf (λi v=>∃t,v=.int (0+i*1) t) q n):Vals ((List.range n).map λi=>V.int (i:Nat)) q.toList:=by
 have hz:=h.1;let(ys,J):=Dc q.toList λv J=>by
  let(j,hj,U):=dA.mp J;have L:q[j]?=-v:=by rw[<-eI,al hj,U]
  let(t,e):=h.2 j v L;exact⟨.int (0+j*1),t,e⟩
 have hl:ys⁻¹=n:=by rw[J⁻¹,cK,hz]
 have e:ys=(List.range n).map λi=>V.int (i:Nat):=by
  show List.ext_getElem? λi=>?_;by_cases hi:i<n
  .obtain ⟨y,O⟩:∃y,ys[i]?=-y:=⟨_,al (!0)⟩;let(w,Y,g):=J.get O;let(t,e):=h.2 i w (by rw[<-eI];exact Y);rw[O,aS,List.getElem?_range hi,Option.map_some];subst e;cases y with
   |int k=>
    let(t',N):=(show ∃t',Value.int (0+i*1) t=Value.int k t' from g);simp only[Value.int.injEq]at N;rw[<-N.1];simp
   |non=>cases(show Value.int _ _=Value.none from g)
   |bl b=>cases(show Value.int _ _=Value.bool b from g)
   |str x=>let(_,z):=(show ∃t',Value.int _ _=Value.str x t' from g);cases z
   |byt x=>let(_,z):=(show ∃t',Value.int _ _=Value.bytes x t' from g);cases z
   |flt x=>let(_,z):=(show ∃t',Value.int _ _=Value.float x t' from g);cases z
   |ref a=>cases(show Value.int _ _=Value.ref a from g)
   |ty a=>cases(show Value.int _ _=Value.type a from g)
  .rw[List.getElem?_eq_none (!0),List.getElem?_eq_none (by simp;lia)]
 rw[<-e];exact J
theorem Di {a:AO} {ta:TA} {p pos:Pos} (N:Gl X "range") (O:X.mg "range"=none) (L:PA X [a] ta) (hs:starEach [a] X.env=[(false,eval a X.env)]:=by rfl):
  PE X (.Call (.Name "range" p) [a] [] pos) (λY H Q=>ta Y H λvs H1=>∃j:Int,vs=[.int j]/\∀r,H1 r=none->Q (.ref r) (upd H1 r (.rng 0 j))):=by
 intro p9 s Y H Q I h;show Call_ (iw I N O boot_range (eS (thn (L pos p9 s Y H _ I h) λus J zZ=>?_) hs rfl));let(vs,H1,g,r1,U):=zZ;let(j,e,q):=U;subst e;cases r1 with
 |cons r rr=>
  cases rr;let(t,rfl):=r;exact call_range_1 ⟨.ref J.heap.objs.size,_,g.laid (t':=J.toks+1+1) (λb u z=>ag _ z) (av _) (show ObjOk X.prog X.w _ _ _ (.rng 0 j) from⟨_,_,_,aT _ rfl⟩),rfl,q _ (g.hok.fresh (av _))⟩
theorem Dj(n:Nat):Builtin.Range.rangeSize 0 (n:Int) 1=n:=by rw[rangeSize_one];split<;>lia
theorem VG (hc:X.calm=true):bf X (.type "list") (λxs H Q=>∃(r:AQ) (n:Nat),xs=[.ref r]/\H r=-(.rng 0 n)/\n<=1000/\∀l,H l=none->Q (.ref l) (upd H l (.lst ((List.range n).map λi=>V.int (i:Nat))))):=by
 intro p9 s Y H xs us Q I r h;let(p,n,rfl,L,hn,q):=h;let(u,rfl,O):=vals1 r;cases O;let(t1,t2,t3,J):=(show ObjOk X.prog X.w H s.heap p (.rng 0 n) from I.hok p _ L);show call_list_range (I.ok.hd hc) J (small_one (!1) (!1) (!0) (!0)) (Dj n) (!0) λh' U g z kp e hi=>?_;have N:=Dh hi;have hl:((List.range n).map λi=>V.int (i:Nat))⁻¹<=sizeLine:=by rw[af,da,fF];lia
 exact⟨.ref (~~~s),_,I.laid (t':=U) kp (av _) (show ObjOk X.prog X.w _ h' _ (.lst _) from⟨hl,g.toList,z,N,by rw[Array.toArray_toList];exact e⟩),rfl,q _ (I.hok.fresh (av _))⟩
theorem VH (hc:X.calm=true):bf X (.type "tuple") (λxs H Q=>∃(r:AQ) (n:Nat),xs=[.ref r]/\H r=-(.rng 0 n)/\n<=1000/\∀l,H l=none->Q (.ref l) (upd H l (.tup ((List.range n).map λi=>V.int (i:Nat))))):=by
 intro p9 s Y H xs us Q I r h;let(p,n,rfl,O,hn,q):=h;let(u,rfl,rx):=vals1 r;cases rx;let(t1,t2,t3,N):=(show ObjOk X.prog X.w H s.heap p (.rng 0 n) from I.hok p _ O);show VF (I.ok.hd hc) N (small_one (!1) (!1) (!0) (!0)) (Dj n) hn λh' z g kp hi=>?_;have U:=Dh hi;have hl:((List.range n).map λi=>V.int (i:Nat))⁻¹<=sizeLine:=by rw[af,da,fF];lia
 have J:Inv X p9 Y H {s with heap:=h',toks:=z}:=I.kept (t':=z) kp;have L:Inv X p9 Y (upd H h'.objs.size (.tup ((List.range n).map λi=>V.int (i:Nat)))) {s with heap:=h'.push {cls:=.type "tuple",data:=.seq g},toks:=z}:=
  J.laid (t':=z) (λb o e=>ag _ e) (av _) (show ObjOk X.prog X.w _ _ _ (.tup _) from⟨hl,g.toList,U,by have:=IsTupX.new h' g.toList.toArray;rwa [Array.toArray_toList]at this⟩)
 exact⟨.ref h'.objs.size,_,L,rfl,q _ (J.hok.fresh (av _))⟩
end
end L2
namespace PyProof.Rows
open PySem
def VJ {prog:AK} {w:World} {A:AM} {E:AG} {s:AI} {it:AQ} {T:AL} {o:Obj} {g:AB} {n:Nat} {ns:List Int} {Q:AG} (hT:T="list"\/T="tuple")
  (ho:s.heap.get? it=-o) (hc:o.cls=.type T) (hd:o.data=.seq g.toArray n) (hI:IntsAre g ns) (L:g⁻¹<64)
  (h:∀(h1 h':Heap) (e:Nat) (out:Array AN) (q:List Int),IntsAre out.toList q->q.Perm ns->q.Pairwise (·<=·)->(∀b o',s.heap.get? b=-o'->h1.get? b=-o')->(∀b o',h1.get? b=-o'->h'.get? b=-o')->h'.get? h1.objs.size=-(seqObj "list" out e)->Q (.ref h1.objs.size) {s with heap:=h'}):
  wpAny (model prog w) A (call (.builtin "sorted") [.ref it]) Q E s:=by
 show Calls.call_function_entry kind_sorted plain_sorted entry_sorted (args_sorted1 _) ?_;unfold Builtin.«sorted»;show wpAny_bind (m:=checkCount "sorted" 1 1 _) (wpAny_pure ?_);show wpAny_bind (wpAny_collect_seq it hT ho hc hd (λh1 k1=>?_) (by rw[List.size_toArray,sizeLine_eq];lia));show wpAny_bind (wpAny_newList ?_);have Y:g.toArray.toList=g:=by simp
 rw[Y];have J:(h1.push (seqObj "list" g.toArray 0)).get? h1.objs.size=-(seqObj "list" g.toArray 0):=Heap.get?_push_size _ rfl;change wpAny _ _ _ _ _ {s with heap:=h1.push (seqObj "list" g.toArray 0)};show wpAny_bind (wpAny_holding (wpAny_call_entry slot_list_sort ⟨_,J,rfl⟩ entry_list_sort (list_sort_tree J hI L λout q N O U=>⟨_,rfl,?_⟩) (args_list_sort _)));let(e,he):=sortedHeap_at (vs:=g) (out:=out) J;show wpAny_pure ⟨_,rfl,h h1 _ e out q N O U k1 (λb o' z=>?_) he⟩;rw[sortedHeap_old (Nat.ne_of_lt (Heap.lt_size z)) (by rw[size_push'];exact Nat.lt_succ_of_lt (Heap.lt_size z))];exact Heap.get?_push_of_some _ z
end PyProof.Rows
namespace L2
open PySem PySem.Spec PyProof.Rows
def VL {X:Cx}:bf X (.builtin "sorted") (λxs H Q=>∃(p:AQ) (ns:List Int),xs=[.ref p]/\SqT X.K H p (ns.map V.int)/\ns⁻¹<64/\∀g:List Int,g.Perm ns->g.Pairwise (·<=·)->∀l,H l=none->Q (.ref l) (upd H l (.lst (g.map V.int)))):=by
 intro p9 s Y H xs us Q I r h;let(p,ns,rfl,hq,h64,q):=h;let(u,rfl,ru):=vals1 r;cases ru;let(z,O,(o,ho,hc,n,hd),hz):=I.tuple hq;have N:z⁻¹=ns⁻¹:=by rw[<-O⁻¹];simp
 show VJ (.inr rfl) ho hc hd (intsAre_of O) (!0) λh1 h' e out g U L a3 k1 k2 he=>?_;have J:Inv X p9 Y H {s with heap:=h1}:=I.kept (t':=s.toks) k1;have hsz:(g.map V.int)⁻¹<=sizeLine:=by rw[af,L.length_eq,fF];lia
 exact⟨.ref h1.objs.size,_,J.laid (t':=s.toks) k2 (av _) (show ObjOk X.prog X.w _ _ _ (.lst (g.map V.int)) from⟨hsz,out.toList,e,vg U,by rw[Array.toArray_toList];exact he⟩),rfl,q g L a3 _ (J.hok.fresh (av _))⟩
section
variable {prog:AK} {w:World} {A:AM} {R:Result->AI->Prop} {s:AI}
def iC(e:AO)(d:Nat)(g iter:AO)(z:AN->Env->Sem Fin->Sem Fin):Prop:=
 ∀it q env,compTurn e d it q env=(standAt iter.pos >>= λy=>pyNext it >>= λr=>match r with
   |none=>pure (.done .next)
   |some v=>letOwnedTupleGo g it v >>= λy=>assign g env v >>= λy=>z q env (again (.compLoop e d it q env)))
def emE (q:AO) (g:AN) (env:Env) (k:Sem Fin):Sem Fin:=(eval q env >>= λx=>call (.builtin "list.append") [g,x] >>= λz=>pure ()) >>= λz=>k
def emG(e:AO)(d:Nat)(iter:AO)(g:AN)(env:Env)(k:Sem Fin):Sem Fin:=
 eval iter env >>= λx=>standAt iter.pos >>= λz=>foldedSetIterable iter env x >>= λx=>holding [x] (pyIter x) >>= λit=>runOwn (.compStart e d it g env) env >>= λz=>k
theorem aka(g J q N z O L:AO)(scope:Scope)(pos:Pos):iC (.ListComp g [⟨J,q,[],0⟩,⟨N,z,[],0⟩,⟨O,L,[],0⟩] scope pos) 0 J q (emG (.ListComp g [⟨J,q,[],0⟩,⟨N,z,[],0⟩,⟨O,L,[],0⟩] scope pos) 1 z):=λy y y=>rfl
theorem VM{U:AO}{gens:List Comprehension}{scope:Scope}{pos:Pos}{d:Nat}{g iter:AO}{em:AN->Env->Sem Fin->Sem Fin}{it O:AN}{env:Env}(hT:iC (.ListComp U gens scope pos) d g iter em)(I:Nat->AI->Prop)
  (turn:∀n s,I n s->wpAny (model prog w) A (pyNext it) (λr q=>match r with
   |none=>R (.ok .next) q
   |some v=>wpAny (model prog w) A (letOwnedTupleGo g it v) (λy z=>wpAny (model prog w) A (assign g env v) (λy L=>
     ∀(k:Sem Fin)(Q:Fin->AI->Prop)(E:AG),(∀N,(∃m,m<n/\I m N)->wpAny (model prog w) A k Q E N)->wpAny (model prog w) A (em O env k) Q E L) (λy y=>False) z) (λy y=>False) q) (λy y=>False) s)
  (n:Nat) (h:I n s):codeAny (model prog w) A (.compLoop (.ListComp U gens scope pos) d it O env) R s:=by
 show codeAny_loop rfl I (λn s hI=>?_) n h;change wpAny _ A ((compTurn (.ListComp U gens scope pos) d it O env).onRaise (λx=>do noteFrame x env;theTreesLotGoes x)) _ _ s;show wpAny_noted ?_;rw[hT];show ab (gx (ab (dQ (turn n s hI) (λr q J=>?_) λy y h'=>False.elim h')));cases r with
 |none=>exact aw J
 |some v=>
  show ab (dQ J (λy z Y=>?_) λy y h'=>False.elim h');exact ab (dQ Y (λy L h₂=>h₂ _ _ _ λs₃ h₃=>aw ⟨rfl,h₃⟩) λy y h'=>False.elim h')
end
abbrev TM:=AR->St->Hp->(AR->St->Hp->Prop)->Prop
def lob (g:AB) (n:Nat):Obj:={cls:=.type "list",data:=.seq g.toArray n}
structure AccOk(X:Cx)(a:AQ):Prop where
 new:a∈X.ex\/X.s₀.heap.objs.size<=a
 cel:∀x c,X.env.cells.lookup x=some c->c≠a
 pin:∀p∈X.pn,p.1≠a
def PM(X:Cx)(lim:Bool)(a:AQ)(J:Sem Fin->Sem Fin)(t:TM):Prop:=
 ∀(p9:AC)(g:AB)(n:Nat)(ys:AR)(Y:St)(H:Hp)(s:AI)(K:AR->St->Hp->Prop),Inv X ((a,lob g n)::p9) Y H s->(∀p∈p9,p.1≠a)->Vals ys g->(lim=true->ys⁻¹<sizeLine)->t ys Y H K->
  ∀(k:Sem Fin)(Q:Fin->AI->Prop)(E:AG),(∀s' its' L q z H',Inv X ((a,lob its' L)::p9) z H' s'->Vals q its'->K q z H'->↥X k Q E s')->↥X (J k) Q E s
def tmE(te:TE):TM:=λys Y H K=>ys⁻¹<sizeLine/\te Y H λy H'=>K (ys++[y]) Y H'
def VN{X:Cx}{a:AQ}{J:AO}{te:TE}(hx:X.xe=λx x=>False)(ha:AccOk X a)(he:PE X J te):PM X false a (emE J (.ref a) X.env) (tmE te):=by
 intro p9 q n ys Y H s K I hp rv _ h kk Q E hk;let(hz,h):=h;have h0:=he _ s Y H _ I h;rw[hx]at h0;show ab (ab (dQ h0 (λv s8 h8=>?_) λx x z=>False.elim z));let(y,N,O,r8,k8):=h8;let(pD,nD,lD,fD,cD):=O.pin (a,lob q n) (ay _ bp);have hl:=rv⁻¹;show ab (append_at (hsz:=by rw[ax];lia) pD λh9 hs9 hD9=>aw ?_);have U:Inv X p9 Y N s8:=O.pins_of λp hp=>O.pin p (ay _ (bS _ hp));have I9:Inv X p9 Y N {s8 with heap:=h9}:=U.turned (t':=s8.toks) (it:=a) (λb o hb e=>hs9.extBut b o hb e) nD lD ha.new ha.cel (λp g=>by
  rcases a9.mp g with z|z
  .exact ha.pin p z
  .exact hp p z)
 have L:h9.get? a=-(lob (q++[v]) (n+1)):=by rw[hD9,List.push_toArray];rfl
 show hk _ (q++[v]) (n+1) (ys++[y]) Y N (I9.pins_of λp g=>?_) (rv.append (.cons r8 .nil)) k8;rcases bP.mp g with e|z
 .subst e;exact⟨L,nD,lD,fD,λv z=>by have z':Data.seq _ _=Data.cell v:=z;cases z'⟩
 .exact I9.pin p (ay _ z)
def emT(z:AE)(q:AO)(g:AN)(env:Env)(k:Sem Fin):Sem Fin:=
 (forIn z true λc r=>if r=true then do let ok <-isTrue c env (eval c env);pure (ForInStep.yield ok) else pure (ForInStep.yield r)) >>= λok=>if ok=true then emE q g env k else k
def Dk(g tg iter:AO)(q:AE)(scope:Scope)(pos:Pos):iC (.ListComp g [⟨tg,iter,q,0⟩] scope pos) 0 tg iter (emT q g):=λz z z=>rfl
def tmT(z:TT)(te:TE):TM:=λys Y H K=>z Y H λb g=>if b=true then te Y g λy q=>K (ys++[y]) Y q else K ys Y g
def VP{X:Cx}{a:AQ}{g:AO}{q:AE}{tt:TT}{te:TE}(U:X.xe=λy y=>False)(ha:AccOk X a)(ht:PIf X q tt)(he:PE X g te):PM X true a (emT q g (.ref a) X.env) (tmT tt te):=by
 intro p9 J n ys Y H s K I hp rv hl h kk Q E O;have h0:=ht _ s Y H _ I h;rw[U]at h0;show ab (dQ h0 (λb s4 h4=>?_) λy y z=>False.elim z);let(L,N,q4):=h4;cases b with
 |false=>exact O s4 J n ys Y L N rv q4
 |true=>exact VN U ha he p9 J n ys Y L s4 K N hp rv (λz=>nomatch z) ⟨hl rfl,q4⟩ kk Q E O
def akb(g L z N J:AO)(q:AE)(scope:Scope)(pos:Pos):iC (.ListComp g [⟨L,z,[],0⟩,⟨N,J,q,0⟩] scope pos) 0 L z (emG (.ListComp g [⟨L,z,[],0⟩,⟨N,J,q,0⟩] scope pos) 1 J):=λy y y=>rfl
def Dl(lim:Bool)(X:Cx)(N':AD)(scope:Scope)(tg:AO)(em:AN->Env->Sem Fin->Sem Fin)(J:It)(U:St)(H1:Hp)(Q:VK):Prop:=
 ∃W:Nat->Nat->AR->St->Hp->Prop,(∃m,W 0 m [] U H1)/\∀i m ys L H',W i m ys L H'->
  (J.stop i H'/\ys⁻¹<=sizeLine/\∀D,H' D=none->Q (.ref D) (upd H' D (.lst ys)))\/
  (J.go i H'/\(lim=true->ys⁻¹<sizeLine)/\∀N C z q fp pn,∃g tm,PG (X.comp N' scope N C z q fp pn) tg g/\(∀a,AccOk (X.comp N' scope N C z q fp pn) a->PM (X.comp N' scope N C z q fp pn) lim a (em (.ref a) (X.comp N' scope N C z q fp pn).env) tm)/\
   ∀x H2,J.yld i H' x H2->g x L H2 λY H3=>tm ys Y H3 λO σ4 H4=>∃m',m'<m/\W (i+1) m' O σ4 H4)
def vC(lim:Bool)(X:Cx)(N':AD)(scope:Scope)(tg:AO)(g:AN->Env->Sem Fin->Sem Fin)(q:TI)(cap:List (Option Nat)):TE:=λY H Q=>q Y H λJ H1=>Dl lim X N' scope tg g J (eG cap Y) H1 Q
def Dm{X:Cx}{elt tg iter:AO}{ifs:AE}{lim:Bool}{rest:List Comprehension}{em:AN->Env->Sem Fin->Sem Fin}{scope:Scope}{pos:Pos}{wi:TI}{p9:AC}{s:AI}{Y:St}{H:Hp}{Q:VK}{RR:AN->AQ->Result->AI->Prop}(N':AD)(cap:List (Option Nat))(hc:X.calm=true)(hi:PI X tg iter wi)(hcap:Caps X scope N' cap)
  (hcell:scope.names.all (λy=>y.2 != NameKind.cell)=true)
  (hfr:scope.names.all (λy=>y.2 != NameKind.free||(X.env.kindOf y.1==-NameKind.cell||X.env.kindOf y.1==-NameKind.free))=true)
  (hkind:scope.kind=.function) (hT:iC (.ListComp elt (⟨tg,iter,ifs,0⟩::rest) scope pos) 0 tg iter em) (I:Inv X p9 Y H s) (h:vC lim X N' scope tg em wi cap Y H Q)
  (fin:∀(D C:AQ)(H':Hp)(s4:AI)(m:AH),Inv X p9 Y H' s4->Q (.ref D) H'->s4.heap.Ns C m->c7 X p9 H' C->RR (.ref D) C (.ok .next) s4):
  ↥X (eval iter X.env) (λx s₁=>↥X (pyIter x) (λit s₂=>↥X (newList []) (λacc s₃=>
   ↥X (newFunctionEnv scope X.env.globals (cu X.env scope.names []) [] X.env.qual none .none (-X.env)) (λcenv s₄=>
    codeAny (model X.prog X.w) X.A (.compStart (.ListComp elt (⟨tg,iter,ifs,0⟩::rest) scope pos) 0 it acc {cenv with scope:=relabel scope X.env}) (RR acc cenv.locals) s₄) X.xe s₃) X.xe s₂) X.xe s₁) X.xe s:=by
 have hcell':∀y∈scope.names,y.2≠NameKind.cell:=λy hy=>by
  have:=b3.mp hcell y hy;simpa using this
 have hfr':∀y∈scope.names,y.2=NameKind.free->(X.env.kindOf y.1=-NameKind.cell\/X.env.kindOf y.1=-NameKind.free):=λy hy hl=>by
  have:=b3.mp hfr y hy;simpa [hl] using this
 have hcs:∀y∈scope.names,y.2=NameKind.free->(X.env.cells.lookup y.1).isSome=true:=λy hy hl=>by
  let(c,e):=I.ok.has y.1 (hfr' y hy hl);rw[e];rfl
 have N:∀x c,(cu X.env scope.names []).lookup x=-c->X.env.cells.lookup x=-c:=Cz (λx c e=>by simp at e);have clhas:∀x,scope.names.lookup x=-NameKind.free->∃c,(cu X.env scope.names []).lookup x=-c:=λx e=>by
  have hm:=ee e;exact cq.mp (CJ (hcs _ hm rfl) hm)
 have rel:∀x,(relabel scope X.env).names.lookup x=(scope.names.lookup x).map λk=>if(k==NameKind.free&&X.env.scope.kind==.function&&X.env.kindOf x==-.cell)=true then NameKind.cell else k:=λx=>vm
 have relfree:∀x,((relabel scope X.env).names.lookup x=-NameKind.cell\/(relabel scope X.env).names.lookup x=-NameKind.free)->scope.names.lookup x=-NameKind.free:=λx e=>by
  rw[rel x]at e;cases z:scope.names.lookup x with
  |none=>rw[z]at e;rcases e with e|e<;>cases e
  |some k=>
   have nk:=hcell' _ (ee z);rw[z]at e;cases k with
   |free=>rfl
   |cell=>exact absurd rfl nk
   | «local»=>rcases e with e|e<;>simp[show(NameKind.«local»==NameKind.free)=false by decide]at e
   |globalExplicit=>rcases e with e|e<;>simp[show(NameKind.globalExplicit==NameKind.free)=false by decide]at e
   |globalImplicit=>rcases e with e|e<;>simp[show(NameKind.globalImplicit==NameKind.free)=false by decide]at e
 generalize hcl:cu X.env scope.names []=cl at N clhas;show thn (hi p9 s Y H _ I h) λxv s0 h0=>thn h0 λitv O h2=>?_;let(it,fp,tn,J,H2,e,I2,T,st2,f2,W,(m0,w0),turn):=h2;subst e;show eW (wpAny_newFunctionEnv hcell' (by intro y hy;simp at hy) (λh₁ hns₁ hsb₁=>?_) hkind);dsimp only at hns₁ hsb₁ ⊢;generalize hH2:O.heap.push {cls:=.type "list",dict:=none,data:=.seq ([]:AB).toArray}=HP at hns₁ hsb₁ ⊢;have hC:HP.objs.size=O.heap.objs.size+1:=by rw[<-hH2,cr]
 have hDC:O.heap.objs.size≠HP.objs.size:=by rw[hC];exact bv (gT _)
 have U:∀b,b<O.heap.objs.size->b≠HP.objs.size/\b≠O.heap.objs.size:=λb L=>⟨by rw[hC];exact bv (d5 L),bv L⟩;have old:∀b o,O.heap.get? b=-o->h₁.get? b=-o:=λb o e=>hsb₁.extBut b o (U b (aE e)).1 (ag _ (hH2 ▸ ag _ e));have hacc:h₁.get? O.heap.objs.size=-{cls:=.type "list",data:=.seq ([]:AB).toArray 0}:=hsb₁.extBut _ _ hDC (ag _ (hH2 ▸ aT _ rfl));have hst₁:tn 0 h₁:=T.keep _ _ _ st2 λb f o e=>old b o e;have fplt:∀b∈fp,b<O.heap.objs.size:=λb L=>by
  let(o,e,_):=T.obj _ _ st2 b L;exact aE e
 have fslt:∀b∈frs X.stack,b<O.heap.objs.size:=λb L=>by
  let(_,o,e,_):=I2.stack.mem L;exact aE e
 have celllt:∀x c,cl.lookup x=-c->c<O.heap.objs.size:=λx c e=>by
  let(v,q):=I2.cell x c (N x c e);exact q.lt
 have hDf:H2 O.heap.objs.size=none:=I2.hok.fresh (av _);have hCf:H2 HP.objs.size=none:=I2.hok.fresh (by rw[hC];exact e6 _);have nofs:∀b∈fp,b∉frs X.stack:=λb L z=>by
  let(_,f1,f2',_):=f2 b L;rcases bP.mp (I2.stkSub b z) with e|e
  .exact f1 e
  .exact f2' e
 have ok':(X.comp N' scope cl HP.objs.size O H2 fp (X.pn++p9)).Ok:=
  ⟨I2.ok.mod,hkind,I2.ok.glob,I2.ok.blt,(by change O.heap.objs.size<=HP.objs.size;rw[hC];exact e6 _),
   λx y c e1 e2=>I2.ok.inj x y c (N x c e1) (N y c e2),λx hx=>clhas x (relfree x hx),λx c hf f=>(by cases hf),I2.ok.hd,I2.ok.frames,.inl rfl,
   λb L=>⟨(U b (fplt b L)).1,λx c e=>(f2 b L).2.2.2.2.1 x c (N x c e)⟩,I2.bs,cf I2.ok.bsz I2.sz,
   λb o e L=>(by
    rcases(f2 b L).2.2.2.1 with z|z
    .exact I2.ok.noex b o e z
    .exact absurd (bo (aE e) (cf I2.ok.bsz z)) (eP _)),
   nofs,I2.stack,I2.stkFree⟩
 have pnOk:∀p∈X.pn++p9,p.1<O.heap.objs.size/\p.1∉frs X.stack:=λp hp=>by
  let(e,_,n1,n2,_):=I2.pin p hp;show⟨aE e,λz=>?_⟩;rcases bP.mp (I2.stkSub _ z) with e|e
  .exact n1 e
  .exact n2 e
 have I0:∀t,Inv (X.comp N' scope cl HP.objs.size O H2 fp (X.pn++p9)) [(O.heap.objs.size,{cls:=.type "list",data:=.seq ([]:AB).toArray 0})] (eG cap Y) H2 {O with heap:=h₁,toks:=t}:=λt=>
  ⟨ok',rfl,I2.bare,Un.kept old,⟨_,hns₁,λi x v e1 e2 f=>by
    let(j,nj,fr,sj):=hcap.at e1 e2;let(m,_,hl):=I2.loc;have hk:=hfr' (x,NameKind.free) (ee fr) rfl;let(u,r,l):=hl j x v nj sj (by rcases hk with hk|hk;exact .inr (.inl hk);exact .inr (.inr hk));show⟨u,r,.inr ⟨?_,?_⟩⟩
    .change (relabel scope X.env).names.lookup x=-.cell\/(relabel scope X.env).names.lookup x=-.free;rw[rel x,fr,Option.map_some];by_cases hh:(NameKind.free==NameKind.free&&X.env.scope.kind==ScopeKind.function&&X.env.kindOf x==-NameKind.cell)=true
     .exact .inl (by rw[if_pos hh])
     .exact .inr (by rw[if_neg hh])
    .let(c,ec):=clhas x fr;have ec':=N x c ec;rcases l with⟨k1,_⟩|⟨_,c',e',q⟩
     .rcases hk with hk|hk<;>(rw[hk]at k1;cases k1)
     .have ecc:X.env.cells.lookup x=-c:=ec';rw[e']at ecc;cases ecc;let(o,ho,hd):=q;exact⟨_,ec,o,old _ _ ho,hd⟩⟩,
   λx c e=>(by let(v,o,ho,hd):=I2.cell x c (N x c e);exact⟨v,o,old _ _ ho,hd⟩),hCf,λx c e=>I2.freeC x c (N x c e),
   λp hp=>by
    rcases a9.mp hp with z|z
    .let(e,n0,_,_,d):=I2.pin p z;exact⟨old _ _ e,n0,(U _ (pnOk p z).1).1,(pnOk p z).2,d⟩
    .have e:p=_:=ah.mp z;subst e;exact⟨hacc,hDf,hDC,λz=>absurd (fslt _ z) (eP _),λv z=>by have z':Data.seq _ _=Data.cell v:=z;cases z'⟩,
   I2.hok.kept old,by change(eG cap Y)⁻¹=N'⁻¹;unfold eG;rw[af];exact hcap.len⟩
 have fpok:∀{H':Hp}{o:Obj},(∀b∈fp,H' b=none)->∀b∈fp,c7 (X.comp N' scope cl HP.objs.size O H2 fp (X.pn++p9)) [(O.heap.objs.size,o)] H' b:=λhn b L=>
  ⟨hn b L,(U b (fplt b L)).1,nofs b L,.inl L,λx c e=>(f2 b L).2.2.2.2.1 x c (N x c e),λp hp=>by
   rcases a9.mp hp with z|z
   .exact (f2 b L).2.2.2.2.2 p z
   .have e:p=_:=ah.mp z;subst e;exact Ne.symm (U b (fplt b L)).2⟩
 have loop:∀s₃:AI,s₃={O with heap:=h₁,toks:=O.toks+([]:List (Str×AN))⁻¹}->
   codeAny (model X.prog X.w) X.A (.compLoop (.ListComp elt (⟨tg,iter,ifs,0⟩::rest) scope pos) 0 (.ref it) (.ref O.heap.objs.size) (compEnvC scope cl HP.objs.size X.env))
    (RR (.ref O.heap.objs.size) HP.objs.size) s₃:=by
  rintro s₃ rfl;show VM hT
   (λk s'=>∃(i:Nat) (ys:AR) (its:AB) (n:Nat) (σ':St) (H':Hp),Inv (X.comp N' scope cl HP.objs.size O H2 fp (X.pn++p9)) [(O.heap.objs.size,{cls:=.type "list",data:=.seq its.toArray n})] σ' H' s'/\Vals ys its/\
    tn i s'.heap/\(∀b∈fp,H' b=none)/\W i k ys σ' H') ?_ m0 ⟨0,[],[],0,_,H2,I0 _,.nil,hst₁,λb L=>(f2 b L).1,w0⟩
  rintro k s3 ⟨i,ys,its,n,σ3,H3,I3,rv3,st3,fr3,w3⟩;rcases turn i k ys σ3 H3 w3 with⟨stop,hz,qn⟩|⟨go,hlim,step⟩
  .show thn (T.done (X.comp N' scope cl HP.objs.size O H2 fp (X.pn++p9)) rfl rfl rfl hc i _ s3 σ3 H3 _ I3 (fpok fr3) st3 stop) λr s4 zZ=>?_;let(hr,I4):=zZ;subst hr;let(m,hn,_):=I4.loc;let(pD,nD,_,_,_):=I4.pin (O.heap.objs.size,{cls:=.type "list",data:=.seq its.toArray n}) (ay _ (ah.mpr rfl));have nC:H3 HP.objs.size=none:=I4.free;have u:Un (frs X.stack) fp H2 H3 O.heap s4.heap:=I4.base;show fin O.heap.objs.size HP.objs.size (upd H3 O.heap.objs.size (.lst ys)) s4 m ?_ (qn _ nD) hn ?_
   .show I2.call' (s':=s4) (ch:=fp) I4.os ?_ ?_ I4.bare λb L=>⟨(f2 b L).2.2.2.1,(f2 b L).2.1,(f2 b L).2.2.2.2.1,(f2 b L).2.2.2.2.2⟩
    .show ⟨λb o e n0 L hx=>u.keep b o e n0 L hx,λb o e n0 L hx=>u.slot b o e n0 L hx,λb o e n0 hx=>?_,λb o e hx=>u.there b o e hx,λb xs e=>?_,λb o v e=>?_,λb ps e=>?_⟩
     .rw[aK (U b (aE e)).2];exact u.free b o e n0 hx
     .rw[aK (bH e hDf)];exact u.tups b xs e
     .rw[aK (bH e hDf)];exact u.frzs b o v e
     .rw[aK (bH e hDf)];exact u.tbls b ps e
    .intro b o e;by_cases L:b=O.heap.objs.size
     .subst L;rw[cU]at e;cases e;exact⟨hz,its,n,rv3,pD⟩
     .rw[aK L]at e;exact(I4.hok b o e).stay (λc v f q=>q) (λc q=>by rw[aK (bH q nD)];exact q) λc xs q=>by rw[aK (bH q nD)];exact q
   .have hle:O.heap.objs.size<=HP.objs.size:=by rw[hC];exact e6 _
    exact I2.fpOk hle (by rw[aK (Ne.symm hDC)];exact nC)
  .show thn (T.item (X.comp N' scope cl HP.objs.size O H2 fp (X.pn++p9)) rfl rfl rfl hc i _ s3 σ3 H3 _ I3 (fpok fr3) st3 go) λr s4 zZ=>?_;let(u,hr,h4):=zZ;subst hr;show thn h4 λf s5 zZ=>?_;let(x,H5,I5,r5,y5,st5,fr5):=zZ;let(g,tm,hg,hm,body):=step cl HP.objs.size O H2 fp (X.pn++p9);have acc:AccOk (X.comp N' scope cl HP.objs.size O H2 fp (X.pn++p9)) O.heap.objs.size:=
    ⟨.inr (av _),λx c e z=>absurd (celllt x c e) (by rw[z];exact eP _),λp hp z=>absurd (pnOk p hp).1 (by rw[z];exact eP _)⟩
   have I5':=I5.pinned (fpok fr5) (T.obj _ _ st5);show thn (hg _ s5 σ3 H5 x u _ I5' r5 (body x H5 y5)) λf s6 zZ=>?_;let(σ6,H6,I6,q6):=zZ;intro kk Q' E' hk';show hm _ acc (j9 fp s5.heap) its n ys σ6 H6 s6 _ I6 (λp hp' e=>?_) rv3 hlim q6 kk Q' E' λs7 its' n' ys' σ7 H7 I7 rv7 ⟨m',hm',w7⟩=>hk' s7 ⟨m',hm',i+1,ys',its',n',σ7,H7,I7.pins_of λp hp'=>?_,rv7,?_,λb L=>?_,w7⟩
   .exact (U p.1 (fplt p.1 (Br hp').1)).2 e
   .show I7.pin p (ay _ ?_);rw[ah.mp hp'];exact bp
   .exact T.keep _ _ _ st5 λb L o e=>(I7.pin (b,o) (ay _ (bS _ (qJ L e)))).1
   .let(o,e,_):=T.obj _ _ st5 b L;exact(I7.pin (b,o) (ay _ (bS _ (qJ L e)))).2.1
 exact codeAny_compStart_list (loop _ rfl) (T.self X.A 0 _ _ _ hst₁ (loop _ rfl))
def VR{X:Cx}{O tg iter:AO}{ifs:AE}{lim:Bool}{rest:List Comprehension}{em:AN->Env->Sem Fin->Sem Fin}{scope:Scope}{pos:Pos}{wi:TI}(N':AD)(cap:List (Option Nat))(hc:X.calm=true)(hi:PI X tg iter wi)(U:Caps X scope N' cap)
  (N:scope.names.all (λy=>y.2 != NameKind.cell)=true) (J:scope.names.all (λy=>y.2 != NameKind.local||scope.names.lookup y.1==-NameKind.local)=true)
  (hfr:scope.names.all (λy=>y.2 != NameKind.free||(X.env.kindOf y.1==-NameKind.cell||X.env.kindOf y.1==-NameKind.free))=true)
  (g:scope.kind=.function) (hs:∀x,foldedSetIterable iter X.env x=pure x) (hT:iC (.ListComp O (⟨tg,iter,ifs,0⟩::rest) scope pos) 0 tg iter em):
  PE X (.ListComp O (⟨tg,iter,ifs,0⟩::rest) scope pos) (vC lim X N' scope tg em wi cap):=by
 intro p9 s Y H Q I h;have z:∀y∈scope.names,y.2=NameKind.local->scope.names.lookup y.1=-NameKind.local:=λy hy hl=>by
  have:=b3.mp J y hy;simpa [hl] using this
 have hcs:∀y∈scope.names,y.2=NameKind.free->(X.env.cells.lookup y.1).isSome=true:=λy hy hl=>by
  have:=b3.mp hfr y hy;let(c,e):=I.ok.has y.1 (by simpa [hl] using this);rw[e];rfl
 rw[eval_ListComp];show gy (use:=none) (Q:=EP X p9 Y Q) rfl hs (qO hcs) g z
  (Dm (RR:=λacc C=>compPost (model X.prog X.w) X.A X.xe none (EP X p9 Y Q) acc C) N' cap hc hi U N hfr g hT I h λL C H' s4 m I4 q hn fC=>?_)
 let(f0,f1,f2,f3,f4,f5):=fC;exact⟨m,hn,λh' hs'=>⟨.ref L,H',I4.turned (t':=s4.toks) (it:=C) (λb o hb e=>hs'.extBut b o hb e) f0 f1 f3 f4 f5,rfl,q⟩⟩
def VV{X:Cx}{N tg iter:AO}{U:AE}{lim:Bool}{rest:List Comprehension}{em:AN->Env->Sem Fin->Sem Fin}{scope:Scope}{pos py spos:Pos}{wi:TI}{i:Nat}{y:Str}(hT:iC (.ListComp N (⟨tg,iter,U,0⟩::rest) scope pos) 0 tg iter em)(hN:X.N.Nodup)(hiy:X.N[i]?=-y)(hy:Loc X.env.scope y)(N':AD)(cap:List (Option Nat))(hc:X.calm=true)(hi:PI X tg iter wi)(hcap:Caps X scope N' cap)
  (hcell:scope.names.all (λy=>y.2 != NameKind.cell)=true:=by rfl) (O:scope.names.all (λy=>y.2 != NameKind.local||scope.names.lookup y.1==-NameKind.local)=true:=by rfl)
  (hfr:scope.names.all (λy=>y.2 != NameKind.free||(X.env.kindOf y.1==-NameKind.cell||X.env.kindOf y.1==-NameKind.free))=true:=by rfl)
  (g:scope.kind=.function:=by rfl) (hs:∀x,foldedSetIterable iter X.env x=pure x:=by intro _;rfl)
  (hsw:swapsWith (.ListComp N (⟨tg,iter,U,0⟩::rest) scope pos) (-(.Name y py)) spos.line X.env=pure true:=by rfl)
  (hf:X.fn y=true\/X.env.scope.names.lookup y=-.local:=by first|exact .inl rfl|exact .inr rfl|assumption):
  PS X (.Assign [.Name y py] (.ListComp N (⟨tg,iter,U,0⟩::rest) scope pos) spos) (jm (vC lim X N' scope tg em wi cap) (jl i)):=by
 intro p9 s Y H D I h;have J:∀y∈scope.names,y.2=NameKind.local->scope.names.lookup y.1=-NameKind.local:=λy hy hl=>by
  have:=b3.mp O y hy;simpa [hl] using this
 have hcs:∀y∈scope.names,y.2=NameKind.free->(X.env.cells.lookup y.1).isSome=true:=λy hy hl=>by
  have:=b3.mp hfr y hy;let(c,e):=I.ok.has y.1 (by simpa [hl] using this);rw[e];rfl
 rw[exec_Assign_Name_used _ _ _ _ hsw];show ab (gx (ab ?_));change wpAny _ X.A (do let _ <-comprehension (.ListComp N (⟨tg,iter,U,0⟩::rest) scope pos) scope X.env _ (newList []) false (eval iter X.env) (-(assign (.Name y py) X.env))) _ _ s;show ab (dQ (gy (use:=-(assign (.Name y py) X.env)) (Q:=λt s'=>SP X p9 D .next s') rfl hs (qO hcs) g J
  (Dm (RR:=λacc C=>compPost (model X.prog X.w) X.A X.xe (-(assign (.Name y py) X.env)) (λt s'=>SP X p9 D .next s') acc C) N' cap hc hi hcap hcell hfr g hT I h λL C H' s4 m I4 q hn fC=>?_)) (λt s' hq=>aw (aw hq)) λt t e=>e)
 let(oC,es,ep,eC,rC):=id hn;let(f0,f1,f2,f3,f4,f5):=fC;have ncell:∀v,oC.data≠.cell v:=λv z=>by rw[rC.1]at z;cases z
 have I5:Inv X (p9++[(C,oC)]) Y H' s4:=I4.pins_of λp hp=>by
  rcases a9.mp hp with z|z
  .exact I4.pin p (ay _ z)
  .have e:p=_:=ah.mp z;subst e;exact⟨eC,f0,f1,f2,ncell⟩
 show g6 (jk I5 hN hiy hy (v:=.ref L) (u:=.ref L) rfl (λs5 I6=>?_) hf);have eC5:s5.heap.get? C=-oC:=(I6.pin (C,oC) (ay _ (ay _ (ah.mpr rfl)))).1;have I7:Inv X p9 (Y.set i (-(.ref L))) H' s5:=I6.pins_of λp hp=>I6.pin p (ay _ (ce _ hp));show⟨m,⟨oC,es,ep,eC5,rC⟩,λh'' hs''=>?_⟩;exact⟨_,H',I7.turned (t':=s5.toks) (it:=C) (λb o hb e=>hs''.extBut b o hb e) f0 f1 f3 f4 f5,q⟩
open HT
end L2
namespace PySem
open Sem (wp)
open Builtin Builtin.Str
open AutoSeq1 (wpAny_loadPart')
end PySem
namespace RF
open PySem L2 PySem.Builtin PySem.Builtin.Str PySem.StrLaws
def qT(c:Nat):AA->List (AA)
 |[]=>[[]]
 |x::r=>if x=c then[]::qT c r else(x::(qT c r).headD [])::(qT c r).tail
end RF
namespace L2
open PySem PySem.Spec PyProof.Rows
open Builtin Builtin.ObjectAttr
open PySem.W (findIn mroIn clsIn typeIn Looks InstAt looks_findIn looks_mroIn looks_typeIn looks_clsIn takerIn takesIn hasDictIn looks_takesIn check_slot osa_eq)
def exO(C l:AQ)(dx:Option AQ):Obj:=⟨.ref C,dx,.fields #[.ref l,.none,.none,.none,.bool false,.none],#[]⟩
open PySem.W (findIn mroIn clsIn typeIn takerIn specialIn findCls readsIn)
def V0(f:AQ):Option AN->Bool
 |some (.ref a)=>a==f
 |_=>false
def V1(K:PF)(N f:AQ):Bool:=match K.lookup N with
 |some ⟨_,_,.dict es _,_⟩=>es.toList.all (λe=>De e.key)&&V0 f (nsFind es "__init__")
 |_=>false
def V2(K:PF)(C f:AQ):Bool:=match K.lookup C with
 |some ⟨ty,_,.cls cd,⟨[_,_,_,_,k,_]⟩⟩=>Df ty&&isNew k&&V1 K cd.ns f&&!cd.hasDel&&(match cd.mro with|v::tl=>isRef C v&&vz K tl |[]=>false)
 |_=>false
def Do(e C l:AQ)(dx:Option AQ):Heap->Prop:=λh=>h.get? e=-(exO C l dx)
def Dp (w:World):Bool:=w.params.followText "set-order"
section
variable {prog:AK} {w:World} {A:AM} {E:AG} {s:AI}
def dB (w:World):Obj:={cls:=.type "set",dict:=none,data:=.set #[] 0 (.fresh 0 0 (!Dp w))}
theorem V3(a:AN){Q₁:AG}(h:Q₁ (.ref (~~~s)) {s with heap:=s.heap.push (dB w)}):
  codeAny (model prog w) A (.call (.builtin "set.__new__") ⟨[.type "set",a],[]⟩) (wants Q₁ E) s:=by
 show codeAny_of_tree ?_;change wpAny _ A.in1 (do checkBuiltinCall "set.__new__" ⟨[.type "set",a],[]⟩;again (.builtin "set.__new__" ⟨[.type "set",a],[]⟩)) _ _ s;show ab (wpAny_of_eq (PySem.F.newCall_set_1 a) (aw ⟨plainId_quiet PySem.F.plain_set_new _,codeAny_builtin PySem.F.entry_set_new ?_⟩));rw[Around.under_plainId PySem.F.plain_set_new _];unfold Builtin.«set.__new__» Builtin.Frozenset.newClass;have q:=sub_set_self;let(z,g,d,J,os):=s;dsimp only;wp_walk
 show wpAny_askSetting (aw ?_);dsimp only;simp only[newObj];show ab (wpAny_alloc (aw ?_));exact aw h
end
section
variable {prog:AK} {w:World} {A:AM} {E:AG} {s:AI} {κ:PyProof.Rows.KeyKind}
def okK(κ:PyProof.Rows.KeyKind)(p:Keyed):Prop:=∃a,κ.keyOf p.1=-a
def okA(κ:PyProof.Rows.KeyKind)(xs:Array Keyed):Prop:=∀p,p∈xs.toList->okK κ p
theorem nb{a b:Nat}(h:¬(a==b)=true):a≠b:=λz=>h (a8.mpr z)
end
section
variable {κ:Type} [DecidableEq κ]
def cI(g:List (κ×V))(k:κ):Option V:=(g.find? λkv=>decide (kv.1=k)).map (·.2)
def putD(g:List (κ×V))(k:κ)(v:V):List (κ×V):=
 if(g.any λkv=>decide (kv.1=k))=true then g.map (λkv=>if kv.1=k then(kv.1,v) else kv) else g++[(k,v)]
theorem qU{p:κ×V}{r:List (κ×V)}{k:κ}(e:p.1=k):cI (p::r) k=-p.2:=by simp[cI,List.find?_cons,e]
theorem qW{p:κ×V}{r:List (κ×V)}{k:κ}(e:¬p.1=k):cI (p::r) k=cI r k:=by simp[cI,List.find?_cons,e]
theorem qX(k:κ):∀g:List (κ×V),(g.any λkv=>decide (kv.1=k))=(cI g k).isSome
 |[]=>rfl
 |p::r=>by
  rw[List.any_cons];by_cases e:p.1=k
  .simp only[qU e,b9 e,Bool.true_or,Option.isSome_some]
  .rw[qW e,bX e,Bool.false_or];exact qX k r
theorem length_putD(g:List (κ×V))(k:κ)(v:V):(putD g k v)⁻¹<=g⁻¹+1:=by
 unfold putD;split
 .rw[af];lia
 .rw[am,c9,hJ];lia
theorem Dq{g:List (κ×V)}{k:κ}(v:V)(h:cI g k=none):putD g k v=g++[(k,v)]:=by unfold putD;rw[qX,h];exact if_neg (!1)
theorem RelO.isSome_eq{o:Option V}{u:Option AN}(r:RelO o u):o.isSome=u.isSome:=by
 cases o with
 |none=>cases u with
  |none=>rfl
  |some _=>exact(show False from r).elim
 |some _=>cases u with
  |none=>exact(show False from r).elim
  |some _=>rfl
theorem KV.val{g:List (κ×V)}{vs:List (κ×AN)}(r:KV g vs)(k:κ):RelO (cI g k) (valueAt vs k):=by
 unfold KV at r;induction r with
 |nil=>exact fS
 | @cons p q ps qs h t ih=>
  let(h1,h2):=h;by_cases e:p.1=k
  .have J:q.1=k:=h1.symm.trans e;have b:valueAt (q::qs) k=-q.2:=by simp[valueAt,List.find?_cons,J]
   rw[qU e,b];exact h2
  .have J:¬q.1=k:=λz=>e (h1.trans z);have b:valueAt (q::qs) k=valueAt qs k:=by simp[valueAt,List.find?_cons,J]
   rw[qW e,b];exact ih
theorem KV.any{g:List (κ×V)}{vs:List (κ×AN)}(r:KV g vs)(k:κ):(g.any λkv=>decide (kv.1=k))=vs.any λkv=>decide (kv.1=k):=by
 unfold KV at r;induction r with
 |nil=>rfl
 |cons h t q=>rw[List.any_cons,List.any_cons,q,h.1]
theorem KV.repl{g:List (κ×V)}{vs:List (κ×AN)}(r:KV g vs)(k:κ){y:V}{u:AN}(J:RelV y u):
  KV (g.map λkv=>if kv.1=k then(kv.1,y) else kv) (vs.map λkv=>if kv.1=k then(kv.1,u) else kv):=by
 unfold KV at r ⊢;induction r with
 |nil=>exact .nil
 | @cons p q ps qs h t ih=>
  rw[a7,a7];show .cons ?_ ih;let(h1,h2):=h;by_cases e:p.1=k
  .rw[if_pos e,if_pos (h1.symm.trans e)];exact⟨h1,J⟩
  .rw[if_neg e,if_neg (λz=>e (h1.trans z))];exact⟨h1,h2⟩
theorem KV.put{g:List (κ×V)}{vs:List (κ×AN)}(r:KV g vs)(k:κ){y:V}{u:AN}(q:RelV y u):KV (putD g k y) (stored vs k u):=by
 unfold putD stored;rw[r.any k];by_cases e:(vs.any λkv=>decide (kv.1=k))=true
 .rw[if_pos e,if_pos e];exact r.repl k q
 .rw[if_neg e,if_neg e];exact Paired.snoc r ⟨rfl,q⟩
theorem KV.length{g:List (κ×V)}{vs:List (κ×AN)}(r:KV g vs):g⁻¹=vs⁻¹:=ga r
end
def km{P:AK}{w:World}{k:Key}{u:AN}(r:RelV (kV k) u):(b7 P w).is k u=true:=by
 cases k with
 |inl i=>let(t,e):=(show ∃t,u=Value.int i t from r);subst e;exact QT P w i t
 |inr x=>let(t,e):=(show ∃t,u=Value.str x t from r);subst e;exact QV P w x t
def Ds{P:AK}{w:World}:∀{ks:List Key}{g:AB},Vals (ks.map kV) g->ItemsAre (b7 P w) ks g
 |[],_,r=>by rw[List.map_nil]at r;cases r;exact .nil
 |k::ks,_,r=>by
  rw[a7]at r;cases r with
  |cons h t=>exact .cons (km h) (Ds t)
abbrev KT(H:Hp):List (List Key×V)->List (List Key×AQ×AN)->Prop:=Paired λp q=>p.1=q.1/\H q.2.1=-(.tup (p.1.map kV))/\RelV p.2 q.2.2
def KT.val{H:Hp}{g:List (List Key×V)}{xs:List (List Key×AQ×AN)}(r:KT H g xs)(k:List Key):RelO (cI g k) ((atKey xs k).map (·.2)):=by
 induction r with
 |nil=>exact fS
 | @cons p q ps qs h t ih=>
  let(h1,_,h2):=h;by_cases e:p.1=k
  .have J:q.1=k:=h1.symm.trans e;have b:atKey (q::qs) k=-q.2:=by simp[atKey,List.find?_cons,J]
   rw[qU e,b];exact h2
  .have J:¬q.1=k:=λz=>e (h1.trans z);have b:atKey (q::qs) k=atKey qs k:=by simp[atKey,List.find?_cons,J]
   rw[qW e,b];exact ih
def KT.repl{H:Hp}{g:List (List Key×V)}{xs:List (List Key×AQ×AN)}(r:KT H g xs)(k:List Key){y:V}{u:AN}(L:RelV y u):
  KT H (g.map λkv=>if kv.1=k then(kv.1,y) else kv) (xs.map (putAt k u)):=by
 induction r with
 |nil=>exact .nil
 | @cons p q ps qs h t ih=>
  rw[a7,a7];show .cons ?_ ih;let(h1,h2,J):=h;unfold putAt;by_cases e:p.1=k
  .rw[if_pos e,if_pos (h1.symm.trans e)];exact⟨h1,h2,L⟩
  .rw[if_neg e,if_neg (λz=>e (h1.trans z))];exact⟨h1,h2,J⟩
def KT.put{H:Hp}{g:List (List Key×V)}{xs:List (List Key×AQ×AN)}(r:KT H g xs)(k:List Key){b:AQ}{y:V}{u:AN}(J:H b=-(.tup (k.map kV)))(z:RelV y u):
  KT H (putD g k y) (storedH xs k b u):=by
 have e:(g.any λkv=>decide (kv.1=k))=(atKey xs k).isSome:=by rw[qX,(r.val k).isSome_eq,Option.isSome_map]
 unfold putD storedH;rw[e];by_cases q:(atKey xs k).isSome=true
 .rw[if_pos q,if_pos q];exact r.repl k z
 .rw[if_neg q,if_neg q];exact Paired.snoc r ⟨rfl,J,z⟩
def KT.keeps{H H':Hp}{g:List (List Key×V)}{xs:List (List Key×AQ×AN)}(r:KT H g xs)(q:∀b ys,H b=-(.tup ys)->H' b=-(.tup ys)):KT H' g xs:=
 Paired.mapP r λy y z=>⟨z.1,q _ _ z.2.1,z.2.2⟩
section
variable {P:AK} {w:World} {H:Hp} {h:Heap} {a:AQ}
theorem Dt{u:HO}(ok:HOk P w H h)(e:Rd H a u):ObjOk P w H h a u:=e.ok ok
theorem kE{g:List (Key×V)}(ok:HOk P w H h)(e:Rd H a (.dK g)):g⁻¹<=sizeLine/\(a==sysModules)=false/\∃vs,KV g vs/\h.DictOf (b7 P w) a vs:=
 show ObjOk P w H h a (.dK g) from Dt ok e
theorem V4{g:List (Key×V)}(ok:HOk P w H h)(e:H a=-(.dK g)):g⁻¹<=sizeLine/\(a==sysModules)=false/\∃vs,KV g vs/\h.DictOf (b7 P w) a vs:=kE ok (.inl e)
theorem iD{ks:List Key}(ok:HOk P w H h)(e:H a=-(.tup (ks.map kV))):(tupleKind (b7 P w)).is h ks a:=by let(_,g,r,o,h1,h2,n,q):=(show ObjOk P w H h a (.tup (ks.map kV)) from ok a _ e);exact⟨o,g.toArray,n,h1,h2.1,q,by simpa using Ds r⟩
theorem kI{g:List (List Key×V)}(ok:HOk P w H h)(e:Rd H a (.dT g)):g⁻¹<=sizeLine/\(a==sysModules)=false/\
  ∃xs,KT H g xs/\h.DictOfH (tupleKind (b7 P w)) a xs:=by
 let(z,y,xs,r,o,es,ep,h1,h2,L,N,O):=(show ObjOk P w H h a (.dT g) from Dt ok e);show⟨z,y,xs,r,o,es,ep,h1,h2,L,N,λx J=>?_,O⟩;have all:∀{l:List (List Key×V)}{m:List (List Key×AQ×AN)},KT H l m->∀x∈m,(tupleKind (b7 P w)).is h x.1 x.2.1:=by
  intro l m q;induction q with
  |nil=>intro x J;exact nomatch J
  | @cons p q ps qs hq t ih=>
   intro x J;rcases bP.mp J with e|J
   .subst e;exact iD ok (by rw[<-hq.1];exact hq.2.1)
   .exact ih x J
 exact all r x J
theorem kJ{g:List (List Key×V)}(ok:HOk P w H h)(e:H a=-(.dT g)):g⁻¹<=sizeLine/\(a==sysModules)=false/\
  ∃xs,KT H g xs/\h.DictOfH (tupleKind (b7 P w)) a xs:=kI ok (.inl e)
end
def DGet(H:Hp)(a:AQ)(y:V)(r:Option V):Prop:=
 (∃g k,Rd H a (.dK g)/\y=kV k/\r=cI g k)\/∃g k b,Rd H a (.dT g)/\y=.ref b/\H b=-(.tup (k.map kV))/\r=cI g k
def DPut(H:Hp)(a:AQ)(y v:V)(H':Hp):Prop:=
 (∃g k,H a=-(.dK g)/\y=kV k/\g⁻¹<sizeLine/\H'=upd H a (.dK (putD g k v)))\/
 ∃g k b,H a=-(.dT g)/\y=.ref b/\H b=-(.tup (k.map kV))/\g⁻¹<sizeLine/\H'=upd H a (.dT (putD g k v))
def DGet.t{H:Hp}{a b:AQ}{g:List (List Key×V)}{k:List Key}(e:H a=-(.dT g))(q:H b=-(.tup (k.map kV))):DGet H a (.ref b) (cI g k):=.inr ⟨g,k,b,.inl e,rfl,q,rfl⟩
def DPut.t{H:Hp}{a b:AQ}{g:List (List Key×V)}{k:List Key}{v:V}(e:H a=-(.dT g))(q:H b=-(.tup (k.map kV)))(hl:g⁻¹<sizeLine):
  DPut H a (.ref b) v (upd H a (.dT (putD g k v))):=.inr ⟨g,k,b,e,rfl,q,hl,rfl⟩
section
variable {X:Cx} {p9:AC} {σ:St} {H:Hp} {s:AI} {a:AQ} {y v:V} {u r:AN} {o:Option V} {A:AM} {E:AG}
theorem Inv.big(I:Inv X p9 σ H s):sysModules<(~~~s):=by have h:mainGlobals<(~~~s):=(I.mod.glob.keeps I.bk).lt;exact Nat.lt_trans (!1) h
theorem V5{Q:AG}(hu:A.units+1<cLine)(I:Inv X p9 σ H s)(g:DGet H a y (-v))(ry:RelV y u)(h:∀L s',Inv X p9 σ H s'->RelV v L->Q L s'):
  wpAny (model X.prog X.w) A (getItem (.ref a) u) Q E s:=by
 rcases g with⟨Y,k,e,O,l⟩|⟨Y,k,b,e,O,eb,l⟩
 .subst O;let(z,hd,vs,q,N):=kE I.hok e;let(L,hw,J):=RelO.some_of (v:=v) (o:=valueAt vs k) (by rw[l];exact q.val k);exact wpAny_getItem_of (km ry) N.mapOf hw (h L _ (I.tok _) J)
 .subst O;cases(show u=Value.ref b from ry);let(z,hd,xs,q,N):=kI I.hok e;let(L,hw,J):=RelO.some_of (v:=v) (o:=(atKey xs k).map (·.2)) (by rw[l];exact q.val k);let(p,hp,U):=aI.mp hw;show wpAny_getItem_heap (tupleKind_room_in1 hu) (iD I.hok eb) N hp ?_;rw[U];exact h L _ (I.tok _) J
theorem V6{Q:AG}(hu:A.units+1<cLine)(I:Inv X p9 σ H s)(g:DGet H a y o)(Y:RelV y u)(h:∀s',Inv X p9 σ H s'->Q (.bool o.isSome) s'):
  wpAny (model X.prog X.w) A (compareOp .In u (.ref a)) Q E s:=by
 rcases g with⟨U,k,e,N,l⟩|⟨U,k,b,e,N,eb,l⟩
 .subst N;let(z,O,vs,J,L):=kE I.hok e;show wpAny_in_of (km Y) O L.mapOf ?_;rw[<-(J.val k).isSome_eq,<-l];exact h _ (I.tok _)
 .subst N;cases(show u=Value.ref b from Y);let(z,O,xs,J,L):=kI I.hok e;show wpAny_in_heap (tupleKind_room_in1 hu) (iD I.hok eb) O L ?_;have q:=(J.val k).isSome_eq;rw[Option.isSome_map]at q;rw[<-q,<-l];exact h _ (I.tok _)
theorem V7{Q:AG}(hu:A.units+1<cLine)(I:Inv X p9 σ H s)(g:DGet H a y o)(Y:RelV y u)(h:∀s',Inv X p9 σ H s'->Q (.bool (!o.isSome)) s'):
  wpAny (model X.prog X.w) A (compareOp .NotIn u (.ref a)) Q E s:=by
 rcases g with⟨U,k,e,N,l⟩|⟨U,k,b,e,N,eb,l⟩
 .subst N;let(z,O,vs,J,L):=kE I.hok e;show wpAny_notIn_of (km Y) O L.mapOf ?_;rw[<-(J.val k).isSome_eq,<-l];exact h _ (I.tok _)
 .subst N;cases(show u=Value.ref b from Y);let(z,O,xs,J,L):=kI I.hok e;show wpAny_notIn_heap (tupleKind_room_in1 hu) (iD I.hok eb) O L ?_;have q:=(J.val k).isSome_eq;rw[Option.isSome_map]at q;rw[<-q,<-l];exact h _ (I.tok _)
theorem vD{h':Heap}{t':Nat}{ob:HO}(I:Inv X p9 σ H s)(J:Mut (H a))(hs:Heap.SameBut a s.heap h')(he:∃q,h'.get? a=-q)(new:ObjOk X.prog X.w (upd H a ob) h' a ob):
  Inv X p9 σ (upd H a ob) {s with heap:=h',toks:=t'}:=
 I.write (x:=a) (e:=a) J (.inl rfl) (λb q g z=>(hs.2 b g).trans z) he new
theorem V8{P:AK}{w:World}{H':Hp}{h':Heap}{g:List (Key×V)}{vs:List (Key×AN)}(z:g⁻¹<=sizeLine)(L:(a==sysModules)=false)(q:KV g vs)(J:h'.DictOf (b7 P w) a vs):
  ObjOk P w H' h' a (.dK g):=⟨z,L,vs,q,J⟩
theorem V9{H':Hp}{Q:Unit->AI->Prop}(hu:A.units+1<cLine)(I:Inv X p9 σ H s)(g:DPut H a y v H')(ry:RelV y u)(rv:RelV v r)(h:∀s',Inv X p9 σ H' s'->Q () s'):
  wpAny (model X.prog X.w) A (setItem (.ref a) u r) Q E s:=by
 rcases g with⟨J,k,e,ey,l,Y⟩|⟨J,k,b,e,ey,eb,l,Y⟩
 .subst ey Y;let(z,hd,vs,L,U):=V4 I.hok e;have hz:vs⁻¹<=sizeLine:=by rw[<-L⁻¹];exact z
  have hl:(putD J k v)⁻¹<=sizeLine:=by have:=length_putD J k v;lia
  show wpAny_setItem_pairs (hsz:=hz) (km ry) U λh' N hs=>h _ ?_;have he:∃q,h'.get? a=-q:=let⟨q,_,_,O,_⟩:=N;⟨q,O⟩;exact vD I (by rw[e];exact fS) hs he (V8 hl hd (L.put k rv) N)
 .subst ey Y;cases(show u=Value.ref b from ry);let(z,hd,xs,L,U):=kJ I.hok e;have hz:xs⁻¹<=sizeLine:=by rw[<-ga L];exact z
  have hl:(putD J k v)⁻¹<=sizeLine:=by have:=length_putD J k v;lia
  show wpAny_setItem_heap (hsz:=hz) (tupleKind_room_in1 hu) (iD I.hok eb) U λh' N hs=>h _ ?_;let(q,es,ep,O,h2,h3,h4,_,h5):=N;show vD I (by rw[e];exact fS) hs ⟨q,O⟩ ⟨hl,hd,_,(L.put k eb rv).keeps λc ys ec=>?_,q,es,ep,O,h2,h3,h4,h5⟩;rw[aK (ji ec e (λz=>nomatch z))];exact ec
end
def Wa {X:Cx} {p9:AC} {Y:St} {H:Hp} {s:AI} {a:AQ} {y:V} {o:Option V} (I:Inv X p9 Y H s) (g:DGet H a y o):s.TypeIs (.ref a) "dict":=by
 rcases g with⟨z,k,e,_,_⟩|⟨z,k,b,e,_,_,_⟩
 .let(_,_,vs,_,q):=kE I.hok e;exact q.typeIs
 .let(_,_,xs,_,q):=kI I.hok e;exact q.typeIs
def Wb {P:AK} {w:World} {H:Hp} (h:Heap) (g:sysModules<h.objs.size):ObjOk P w H (h.push {cls:=.type "dict",data:=.dict #[]}) h.objs.size (.dT []):=
 ⟨cb _,dS.mpr (Ne.symm (bv g)),[],.nil,_,#[],0,aT _ rfl,⟨rfl,rfl,rfl⟩,rfl,rfl,d6⟩
def Wc:TE:=λz H Q=>∀p,H p=none->Q (.ref p) (upd H p (.dT []))
section
variable {X:Cx} {pos:Pos}
theorem Wd:PE X (.Dict [] [] pos) Wc:=λp9 s Y H Q I h=>
 wpAny_Dict_empty ⟨.ref (~~~s),_,I.laid (a:=(~~~s)) (o:=.dT []) (t':=s.toks) (λz z q=>ag _ q) (av _) (Wb s.heap I.big),rfl,h _ (I.hok.fresh (av _))⟩
end
def We(g q:TE):TE:=λY H Q=>g Y H λy H1=>q Y H1 λv H2=>∃(b:AQ)(k:List Key),y=.ref b/\H2 b=-(.tup (k.map kV))/\∀p,H2 p=none->Q (.ref p) (upd H2 p (.dT [(k,v)]))
section
variable {X:Cx}
def kO:Obj:={cls:=.type "dict",data:=.dict #[]}
theorem Wf{k v:AO}{pos:Pos}{tk tv:TE}(hu:X.A.units+1<cLine)(hk:PE X k tk)(hv:PE X v tv):PE X (.Dict [-k] [v] pos) (We tk tv):=by
 intro p9 s Y H Q I q;have fp:∀{H':Hp},H' (~~~s)=none->c7 X p9 H' (~~~s):=λhn=>I.fpOk (av _) hn;have I0:Inv X p9 Y H {s with heap:=s.heap.push kO}:=I.kept (t':=s.toks) λt t q=>ag _ q;have L:Inv X (p9++[((~~~s),kO)]) Y H {s with heap:=s.heap.push kO}:=I0.pins_of λx g=>by
  rcases a9.mp g with z|z
  .exact I0.pin x (ay _ z)
  .have e:x=_:=ah.mp z;subst e;let(f0,f1,f2,_):=fp (I.hok.fresh (av _));exact⟨aT _ rfl,f0,f1,f2,λv z=>nomatch z⟩
 have sh:=zip_pairTrees [-k] [v] X.env pos rfl rfl;rw[arm_eval_Dict,sh,dictDisplay_pairs _ (by simp[pairTrees]) (by simp[pairTrees])];show ab (gx (ab ?_));unfold subDict;show ab (wpAny_alloc ?_);show ab (de ?_);rw[if_pos (by simp[pairTrees])];show ab (pairTrees_cons_walk (thn (hk _ _ Y _ _ L q) λu s1 zZ=>?_));let(y,H1,L,ry,q1):=zZ;show thn (hv _ s1 Y H1 _ L q1) λr J zZ=>?_;let(x,H2,N,rx,b,kk,ey,U,q2):=zZ;show pairTrees_nil_walk ?_;subst ey;cases(show u=Value.ref b from ry);let(p1,p2,_):=N.pin ((~~~s),kO) (ay _ (ay _ (ah.mpr rfl)));have I3:Inv X p9 Y H2 J:=N.pins_of λx g=>N.pin x (ay _ (ce _ g));have dd:J.heap.DictOfH (tupleKind (b7 X.prog X.w)) (~~~s) []:=⟨kO,#[],0,p1,⟨rfl,rfl,rfl⟩,rfl,rfl,(λx g=>nomatch g),List.Pairwise.nil⟩;show de ?_;rw[fw];show ab (ab ?_);change wpAny _ _ (dictSet (~~~s) (.ref b) r >>= _) _ _ _;show ab (wpAny_dictSet_heap (hsz:=cb _) (show(tupleKind (b7 X.prog X.w)).room X.A from Nat.lt_of_le_of_lt (e6 _) hu) (iD I3.hok U) dd λh' O hs=>aw ?_);change wpAny _ _ (forIn [] PUnit.unit _) _ _ _;rw[List.forIn_nil];show aw (aw (aw (aw ⟨.ref (~~~s),_,?_,rfl,q2 _ p2⟩)));let(o,es,ep,ho,h2,h3,h4,_,h5):=O;have I4:Inv X p9 Y H2 {J with heap:=h',toks:=J.toks+(tupleKind (b7 X.prog X.w)).draws kk}:=I3.turnedL (ch:=[(~~~s)]) (λb hb=>by rw[ah.mp hb];exact fp p2) λb o hb e=>(hs.2 b λz=>hb (by rw[z];exact ah.mpr rfl)).trans e;have hsm:((~~~s)==sysModules)=false:=dS.mpr (fo I.big);show I4.track (fp p2) ⟨by change 1<=sizeLine;decide,hsm,_,.cons ⟨rfl,?_,rx⟩ .nil,o,es,ep,ho,h2,h3,h4,h5⟩;rw[aK (bH U p2)];exact U
end
open Sem (wp)
open PySem.W (KdlSrc kdl_call kdl_hint_dict)
section
variable {prog:AK} {w:World} {A:AM} {E:AG} {s:AI} {d it:AQ} {es:Array DictEntry} {ep i:Nat}
def DE(h:Heap)(d:AQ)(es:Array DictEntry)(ep:Nat):Prop:=∃o,h.get? d=-o/\o.ExactDict/\o.data=.dict es ep
theorem DE.ty (x:DE s.heap d es ep):s.TypeIs (.ref d) "dict":=by let(o,g,hc,q):=x;exact⟨o,g,hc.1⟩
theorem DE.lt{h:Heap}(x:DE h d es ep):d<h.objs.size:=by let(o,g,_):=x;exact aE g
theorem DE.kp{h h':Heap}(x:DE h d es ep)(k:∀o,h.get? d=-o->h'.get? d=-o):DE h' d es ep:=by let(o,g,r):=x;exact⟨o,k o g,r⟩
theorem Wg{Q:AG}(J:(d==sysModules)=false)(x:DE s.heap d es ep)
  (q:Q (.ref (~~~s)) {s with heap:=s.heap.push {cls:=.type "dict_keyiterator",data:=.fields #[.ref d,.int 0 0,.int es.size 0,.int ep 0]}}):wpAny (model prog w) A (pyIter (.ref d)) Q E s:=by
 have ty:=x.ty;let(o,z,hc,g):=x;show wpAny_pyIter_slot ty F.slot_dict_iter (ff F.slot_dict_iter ty F.entry_dict_iter ?_ (F.args_dict_iter_1 _));unfold Builtin.«dict.__iter__» Builtin.Dict.dictSlotNone;show ab (ab (wpAny_notOrdered_dict ty ?_));change wpAny _ _ (pure (Value.ref d)) _ _ s;show aw ?_;change wpAny _ _ (Builtin.Dict.showsAll d >>= _) _ _ s;unfold Builtin.Dict.showsAll;rw[J];show ab (aw (ab (wpAny_dictEntries z g (ab (wpAny_dictEpoch z g (ab (eW (aw ⟨_,rfl,"dict_keyiterator",_,⟨_,aT _ rfl,rfl⟩,e9.lookup,q⟩))))))))
theorem Wh{Q:Option AN->AI->Prop}(J:s.heap.IsKeyIter it d i es.size ep)(x:DE s.heap d es ep)(hi:i<es.size)
  (q:∀h',h'.IsKeyIter it d (i+1) es.size ep->Heap.SameBut it s.heap h'->Q (-es[i].key) {s with heap:=h'}):wpAny (model prog w) A (pyNext (.ref it)) Q E s:=by
 have ty:=J.typeIs;let(o,O,hc,N):=id J;let(U,L,_,z):=x;have hn:¬((i:Int)<0):=by lia
 have own:Builtin.Dict_items.ownsTuple "dict_keyiterator"=false:=by decide
 unfold pyNext;show ab (wpAny_attempt (dP (name:=⇑"__next__") ty e9 (ff e9 ty F.entry_dict_keyiterator_next ?_ (F.args_dict_keyiterator_next_1 _))));show ab (aw (ab (ab ?_)));first|show ab (fE ty (aw ?_))|show ab (gv ty (aw ?_))
 show ab (wpAny_fieldsOf O N ?_);simp only[own,Bool.false_eq_true,if_false];change wpAny _ _ (if(Value.ref d==Value.none)=true then _ else _) _ _ s;rw[if_neg (show¬((Value.ref d==Value.none)=true) from bB)];show ab (aw (ab (wpAny_dictEntries L z ?_)));rw[if_neg (!2)];show ab (aw (ab (wpAny_dictEpoch L z ?_)));rw[if_neg (!2)];show aw ?_;simp only[hn,if_false,bq,ge hi];show ab ?_;first|show ab (fE ty (aw ?_))|show ab (gv ty (aw ?_))
 show ab (wpAny_isOneOf_keyiter ty ?_);change wpAny _ _ (setField (.ref it) 1 (rawInt ((i:Int)+1)) >>= _) _ _ s;show ab (wpAny_setField O N (!2) ?_);have g:(s.heap.update it (Obj.mapFields (·.setIfInBounds 1 (rawInt ((i:Int)+1))))).IsKeyIter it d (i+1) es.size ep:=
  ⟨_,Heap.get?_update_self _ O (Obj.isFreed_of_fields (Obj.data_mapFields N _)),(Obj.cls_mapFields ..).trans hc,by rw[Obj.data_mapFields N];simp[rawInt]⟩
 show ab (de (ab (wpAny_isOneOf_keyiter (s:={s with heap:=s.heap.update it (Obj.mapFields (·.setIfInBounds 1 (rawInt ((i:Int)+1))))}) g.typeIs ?_)));change wpAny _ _ (pure es[i].key) _ _ _;exact aw (aw ⟨_,rfl,aw (q _ g (Heap.SameBut.update ..))⟩)
theorem Wi{Q:Option AN->AI->Prop}(hh:A.handled=none)(z:s.heap.IsKeyIter it d es.size es.size ep)(x:DE s.heap d es ep)
  (q:∀h',Heap.ExtBut it s.heap h'->Q none {s with heap:=h'}):wpAny (model prog w) A (pyNext (.ref it)) Q E s:=by
 have ty:=z.typeIs;let(o,N,hc,L):=id z;let(O,J,_,g):=x;have hn:¬((es.size:Int)<0):=by lia
 have own:Builtin.Dict_items.ownsTuple "dict_keyiterator"=false:=by decide
 unfold pyNext;show ab (wpAny_attempt (dP (name:=⇑"__next__") ty e9 (ff e9 ty F.entry_dict_keyiterator_next ?_ (F.args_dict_keyiterator_next_1 _))));show ab (aw (ab (ab ?_)));first|show ab (fE ty (aw ?_))|show ab (gv ty (aw ?_))
 show ab (wpAny_fieldsOf N L ?_);simp only[own,Bool.false_eq_true,if_false];change wpAny _ _ (if(Value.ref d==Value.none)=true then _ else _) _ _ s;rw[if_neg (show¬((Value.ref d==Value.none)=true) from bB)];show ab (aw (ab (wpAny_dictEntries J g ?_)));rw[if_neg (!2)];show ab (aw (ab (wpAny_dictEpoch J g ?_)));rw[if_neg (!2)];show aw ?_;simp only[hn,if_false,bq,Array.getElem?_eq_none (av es.size)];show ab ?_;first|show ab (fE ty (aw ?_))|show ab (gv ty (aw ?_))
 change wpAny _ _ (setField (.ref it) 0 .none >>= _) _ _ s;show ab (wpAny_setField N L (!2) ?_);change wpAny _ _ (newExc (.type "StopIteration") [] >>= _) _ _ _;show ab ?_;simp only[newExc,newTuple];show ab (eW ?_ (by size_fits));show ab (m:=firstArgMember _ _) (wpAny_of_eq (a:=Value.none) (by first|rfl | (simp only[firstArgMember];rfl)) ?_);show eW ?_ (by size_fits);simp only[raiseNew];show ab (wpAny_handled ?_);rw[show A.in1.handled=none from hh];show ab (aw (wpAny_throw ?_));show ab (wpAny_isInstance (T:="StopIteration") (b:=true) ⟨_,aT _ rfl,rfl⟩ isSubtype_stop ?_);exact aw (q _ (((Heap.SameBut.update ..).extBut.push _).push _))
theorem Wj(hh:A.handled=none)(I d:AQ)(J:d≠I)(es:Array DictEntry)(ep:Nat):
  Walks prog w A I [I,d] [I] es.size (λi v=>∃h:i<es.size,v=es[i].key) (λi h=>h.IsKeyIter I d i es.size ep/\DE h d es ep) where
 sub:=λb g=>by simp at g;simp[g]
 frame:=λy y y st L=>⟨st.1.at λo e=>L I (!2) o e,st.2.kp λo e=>L d (!2) o e⟩
 item:=λi s Q E hi st q=>Wh st.1 st.2 hi λh' z hs=>q _ h' s.toks ⟨hi,rfl⟩ ⟨z,st.2.kp λo e=>hs.extBut d o J e⟩ λb o g e=>hs.extBut b o (λh=>g (by simp[h])) e
 done:=λs Q E st q=>Wi hh st.1 st.2 λh' he=>q h' s.toks λb o g e=>he b o (λh=>g (by simp[h])) e
 self:=λy y y y st q=>wpAny_pyIter_keyiter st.1 q
theorem Wk (lo:(d==sysModules)=false):KdlSrc prog w "dict" d d es.size (λi v=>∃h:i<es.size,v=es[i].key) (λh=>DE h d es ep) where
 type:=λy g=>g.ty
 there:=λy g=>⟨g.lt,g.lt⟩
 keep:=λy y g z=>g.kp λo e=>z d (.inl rfl) o e
 notList:=by decide
 notTuple:=by decide
 hint:=λy y y y g q=>kdl_hint_dict g.ty q
 iter:=λy y hh g=>⟨_,_,(λy y q=>Wg lo g q),Wj hh _ d (bv g.lt) es ep,⟨⟨_,aT _ rfl,rfl,rfl⟩,g.kp λo e=>ag _ e⟩⟩
theorem Wl(q:(d==sysModules)=false):MeetsIn prog w (Builtin.«dict.__len__» ⟨[.ref d],[]⟩) (λy R s=>∃es ep,DE s.heap d es ep/\R (.ok (.ret (.int es.size s.toks))) {s with toks:=s.toks+1}):=
 .of_wp λA R s zZ=>by
  let(es,ep,(o,z,_,g),h):=zZ;change wpAny _ _ (dictSize d >>= _) _ _ s;unfold dictSize;show ab (ab (wpAny_dictEntries z g (aw ?_)));change wpAny _ _ (Builtin.Dict.pendingCount d >>= _) _ _ s;exact ab (wpAny_pendingCount_other q (wpAny_ret_mkInt (by rw[Nat.add_zero];exact h)))
theorem Wm {Q:AG} (g:(d==sysModules)=false) (x:DE s.heap d es ep) (z:(es.size:Int)<2 ^ 63) (q:Q (.int es.size (s.toks+1)) {s with toks:=s.toks+1+1}):wpAny (model prog w) A (call (.builtin "len") [.ref d]) Q E s:=by show Calls.call_function_entry kind_len plain_len entry_len (args_len1 _) ?_;unfold Builtin.«len»;show ab (m:=oneArg "len" _) (aw ?_);show ab (m:=callSpecial? (.ref d) (⇑"__len__")) (dP (name:=⇑"__len__") x.ty F.slot_dict_len (call_meetsIn F.slot_dict_len x.ty F.entry_dict_len (F.args_dict_len_1 _) (Wl g) ⟨es,ep,x,?_⟩));change wpAny _ _ _ _ _ {s with toks:=s.toks+1};show ab (de (aw (ab (wpAny_letGo ?_))));change wpAny _ _ (if((es.size:Nat):Int)<0 then _ else _) _ _ _;rw[if_neg (!0)];change wpAny _ _ (if((es.size:Nat):Int)≥2 ^ 63 then _ else _) _ _ _;rw[if_neg (!0)];exact ab (wpAny_mkInt (aw ⟨_,rfl,q⟩))
end
section
variable {X:Cx}
theorem Wn:bf X (.builtin "len") (λxs H Q=>∃a g,xs=[V.ref a]/\H a=-(.dT g)/\Q (.int g⁻¹) H):=by
 intro p9 s Y H xs us Q I r h;let(a,g,rfl,O,q):=h;let(u,rfl,ru):=vals1 r;cases ru;let(z,U,ys,J,o,es,ep,ho,h2,L,N,_):=kJ I.hok O;have hl:es.size=g⁻¹:=by rw[<-cK,N,af,<-ga J]
 show Wm U ⟨o,ho,h2,L⟩ (by rw[fF]at z;lia) ⟨.int g⁻¹,H,(I.tok _).tok _,⟨_,by rw[hl]⟩,q⟩
theorem KT.adrs{H:Hp}{g:List (List Key×V)}{ys:List (List Key×AQ×AN)}(r:KT H g ys):Paired (λ(k:List Key×V) (a:AQ)=>H a=-(.tup (k.1.map kV))) g (ys.map (·.2.1)):=by
 induction r with
 |nil=>exact .nil
 |cons h t q=>exact .cons h.2.1 q
theorem Du:∀as:List AQ,Vals (as.map V.ref) (as.map Value.ref)
 |[]=>.nil
 |_::as=>.cons rfl (Du as)
theorem Wo (hc:X.calm=true):bf X (.type "list") (λxs H Q=>∃p g,xs=[V.ref p]/\H p=-(.dT g)/\∀as:List AQ,Paired (λ(k:List Key×V) (a:AQ)=>H a=-(.tup (k.1.map kV))) g as->∀l,H l=none->Q (.ref l) (upd H l (.lst (as.map V.ref)))):=by
 intro p9 s Y H xs us Q I r h;let(p,g,rfl,ha,q):=h;let(u,rfl,ru):=vals1 r;cases ru;let(z,hd,ys,J,o,es,ep,ho,h2,h3,N,_):=kJ I.hok ha;have O:es.size=ys⁻¹:=by rw[<-cK,N,af]
 have hl:ys⁻¹=g⁻¹:=(ga J).symm;show kdl_call (Wk (es:=es) (ep:=ep) hd) (I.ok.hd hc) ⟨o,ho,h2,h3⟩ (by rw[O,hl];exact z) λh' tk L c kp e it=>?_;have hv:L=((ys.map (·.2.1)).map Value.ref).toArray:=by
  show Array.ext (by rw[it.1,O];simp) λi h1 h2=>?_;let(hi,ev):=it.2 i _ (ge h1);rw[ev];have U:es[i]=es.toList[i]'(by rw[cK];exact hi):=by rw[Array.getElem_toList]
  rw[U];simp only[N,List.getElem_map,entryOfKey,List.getElem_toArray]
 show⟨.ref (~~~s),_,I.laid (t':=tk) kp (av _) (show ObjOk X.prog X.w _ h' _ (.lst ((ys.map (·.2.1)).map V.ref)) from⟨by rw[af,af,hl];exact z,_,c,Du _,by rw[e,hv]⟩),rfl,q _ (KT.adrs J) _ (I.hok.fresh (av _))⟩
end
def Dv(X:Cx)(t:TE):TE:=λY H Q=>t Y H λv H1=>∃p,v=.ref p/\SqL X.K H1 p []/\∀D,H1 D=none->Q (.ref D) (upd H1 D (.dT []))
def na{a b c:Nat}(h:a=c)(l:b<c)(e:a=b):False:=by lia
def Wq{X:Cx}{kx vx iter:AO}{x:Str}{px:Pos}{ifs:AE}{scope:Scope}{pos:Pos}{t:TE}{p9:AC}{s:AI}{Y:St}{H:Hp}{Q:VK}{RR:AN->AQ->Result->AI->Prop}(hc:X.calm=true)(he:PE X iter t)
  (hcell:scope.names.all (λy=>y.2 != NameKind.cell)=true) (U:scope.kind=.function) (hx:scope.names.lookup x=-.local) (I:Inv X p9 Y H s) (h:Dv X t Y H Q)
  (fin:∀(D C:AQ)(H':Hp)(s4:AI)(m:AH),Inv X p9 Y H' s4->Q (.ref D) H'->s4.heap.Ns C m->c7 X p9 H' C->RR (.ref D) C (.ok .next) s4):
  ↥X (eval iter X.env) (λxv s₁=>↥X (pyIter xv) (λit s₂=>↥X newDict (λacc N=>
   ↥X (newFunctionEnv scope X.env.globals (cu X.env scope.names []) [] X.env.qual none .none (-X.env)) (λcenv s₄=>
    codeAny (model X.prog X.w) X.A (.compStart (.DictComp kx vx [⟨.Name x px,iter,ifs,0⟩] scope pos) 0 it acc {cenv with scope:=relabel scope X.env}) (RR acc cenv.locals) s₄) X.xe N) X.xe s₂) X.xe s₁) X.xe s:=by
 have hcell':∀y∈scope.names,y.2≠NameKind.cell:=λy hy=>by
  have:=b3.mp hcell y hy;simpa using this
 generalize cu X.env scope.names []=cl;show thn (he p9 s Y H _ I h) λxv O h1=>?_;let(v,H1,I1,rv,p,ev,hp,q):=h1;subst ev;cases rv;let(its,r,pl,_):=I1.list hp;cases r;have hl:O.heap.IsList p #[]:=pl.isList;have hlt:p<O.heap.objs.size:=by let(_,e,_):=hl;exact aE e
 show eT hl ?_;show eW (wpAny_newFunctionEnv hcell' (by intro y hy;simp at hy) (λL g J=>?_) U);dsimp only at g J ⊢;generalize hH1:O.heap.push {cls:=.type "list_iterator",data:=.fields #[.ref p,.int 0 0]}=h2 at g J ⊢;generalize hH2:h2.push {cls:=.type "dict",dict:=none,data:=.dict #[]}=HP at g J ⊢;have z1:h2.objs.size=O.heap.objs.size+1:=by rw[<-hH1,cr]
 have z2:HP.objs.size=O.heap.objs.size+2:=by rw[<-hH2,cr,z1]
 have up:∀b o,HP.get? b=-o->L.get? b=-o:=λb o e=>J.extBut b o (bv (aE e)) (ag _ e);have up2:∀b o,h2.get? b=-o->L.get? b=-o:=λb o e=>up b o (hH2 ▸ ag _ e);have old:∀b o,O.heap.get? b=-o->L.get? b=-o:=λb o e=>up2 b o (hH1 ▸ ag _ e);have hacc:L.DictOf (b7 X.prog X.w) h2.objs.size []:=(Heap.DictOf.new h2 (knd:=b7 X.prog X.w)).at λo e=>up _ _ (hH2 ▸ e);have hit:L.IsListIter O.heap.objs.size p 0:=⟨_,up2 _ _ (hH1 ▸ aT _ rfl),rfl,rfl⟩;have loop:∀N:AI,N={O with heap:=L,toks:=O.toks+([]:List (Str×AN))⁻¹}->
   codeAny (model X.prog X.w) X.A (.compLoop (.DictComp kx vx [⟨.Name x px,iter,ifs,0⟩] scope pos) 0 (.ref O.heap.objs.size) (.ref h2.objs.size) (compEnvC scope cl HP.objs.size X.env))
    (RR (.ref h2.objs.size) HP.objs.size) N:=by
  rintro N rfl;show codeAny_compLoop_walkD (knd:=b7 X.prog X.w) (cenv:=compEnvC scope cl HP.objs.size X.env) (hG (I1.ok.hd hc) O.heap.objs.size p (bv hlt) #[]) (λu=>true) (λu u=>True) (λu u=>True) (lookup_relabel_local hx) (by simp[compEnvC,relabel,U])
   (show h2.objs.size≠HP.objs.size by lia) (λz=>?_) (λz=>?_) ⟨hit,hl.at λo e=>old _ _ e⟩ hacc g (λi v u u z=>by simp at z) (λi v u u z=>by simp at z) (λi v u u z=>by simp at z) (λh' tk m' kvs vs hn ha hlen hP hF hk=>?_) (cb _)
  .rcases bP.mp z with e|e
   .exact na z1 (gT _) e
   .exact na z1 (d5 hlt) (ah.mp e)
  .have z:HP.objs.size∈[O.heap.objs.size,p]:=z;rcases bP.mp z with e|e
   .exact na z2 (!0) e
   .exact na z2 (bo hlt (!0)) (ah.mp e)
  .have e0:vs=[]:=List.eq_nil_of_length_eq_zero hlen;subst e0;have e1:kvs=[]:=List.eq_nil_of_length_eq_zero (Nat.le_zero.mp hF.length_le);subst e1;let(o,es,ep,g1,g2,g3,_,g4,_):=ha;have e2:es.toList=[]:=List.eq_nil_of_length_eq_zero g4⁻¹;have keep:∀b o,O.heap.get? b=-o->h'.get? b=-o:=λb o e=>by
    have lb:=aE e;exact hk b o (λz=>na z2 (bo lb (!0)) (Eq.symm z)) (λz=>na rfl lb (Eq.symm (ah.mp z))) (λz=>na z1 (d5 lb) (Eq.symm z)) (old b o e)
   have nd:H1 h2.objs.size=none:=I1.hok.fresh (!0);have hne:HP.objs.size≠h2.objs.size:=by lia
   exact fin _ _ _ {O with heap:=h',toks:=tk} m' (I1.laid (t':=tk) (o:=.dT []) keep (!0) ⟨cb _,dS.mpr (λz=>na z1 (d5 I1.big) z),[],.nil,o,es,ep,g1,g2,g3,e2,d6⟩) (q _ nd) hn (I1.fpOk (!0) (by rw[aK hne];exact I1.hok.fresh (!0)))
 exact codeAny_compStart_dict (loop _ rfl) ((hG (I1.ok.hd hc) O.heap.objs.size p (bv hlt) #[]).self 0 _ _ _ ⟨hit,hl.at λo e=>old _ _ e⟩ (loop _ rfl))
def akc{X:Cx}{kx vx iter:AO}{x:Str}{px:Pos}{ifs:AE}{scope:Scope}{pos py O:Pos}{t:TE}{i:Nat}{y:Str}(hN:X.N.Nodup)(hiy:X.N[i]?=-y)(hy:Loc X.env.scope y)(hc:X.calm=true)(he:PE X iter t)
  (U:scope.names.all (λy=>y.2 != NameKind.cell)=true) (N:scope.names.all (λy=>y.2 != NameKind.local||scope.names.lookup y.1==-NameKind.local)=true)
  (hfr:scope.names.all (λy=>y.2 != NameKind.free||(X.env.kindOf y.1==-NameKind.cell||X.env.kindOf y.1==-NameKind.free))=true)
  (g:scope.kind=.function) (hx:scope.names.lookup x=-.local) (hs:∀x,foldedSetIterable iter X.env x=pure x)
  (hsw:swapsWith (.DictComp kx vx [⟨.Name x px,iter,ifs,0⟩] scope pos) (-(.Name y py)) O.line X.env=pure true)
  (hf:X.fn y=true\/X.env.scope.names.lookup y=-.local):
  PS X (.Assign [.Name y py] (.DictComp kx vx [⟨.Name x px,iter,ifs,0⟩] scope pos) O) (jm (Dv X t) (jl i)):=by
 intro p9 s Y H D I h;have J:∀y∈scope.names,y.2=NameKind.local->scope.names.lookup y.1=-NameKind.local:=λy hy hl=>by
  have:=b3.mp N y hy;simpa [hl] using this
 have hcs:∀y∈scope.names,y.2=NameKind.free->(X.env.cells.lookup y.1).isSome=true:=λy hy hl=>by
  have:=b3.mp hfr y hy;let(c,e):=I.ok.has y.1 (by simpa [hl] using this);rw[e];rfl
 rw[exec_Assign_Name_used _ _ _ _ hsw];show ab (gx (ab ?_));change wpAny _ X.A (do let _ <-comprehension (.DictComp kx vx [⟨.Name x px,iter,ifs,0⟩] scope pos) scope X.env _ newDict false (eval iter X.env) (-(assign (.Name y py) X.env))) _ _ s;show ab (dQ (gy (use:=-(assign (.Name y py) X.env)) (Q:=λr s'=>SP X p9 D .next s') rfl hs (qO hcs) g J
  (Wq (RR:=λacc C=>compPost (model X.prog X.w) X.A X.xe (-(assign (.Name y py) X.env)) (λr s'=>SP X p9 D .next s') acc C) hc he U g hx I h λL C H' s4 m I4 q hn fC=>?_)) (λr s' hq=>aw (aw hq)) λr r e=>e)
 let(oC,es,ep,eC,rC):=id hn;let(f0,f1,f2,f3,f4,f5):=fC;have ncell:∀v,oC.data≠.cell v:=λv z=>by rw[rC.1]at z;cases z
 have I5:Inv X (p9++[(C,oC)]) Y H' s4:=I4.pins_of λp hp=>by
  rcases a9.mp hp with z|z
  .exact I4.pin p (ay _ z)
  .have e:p=_:=ah.mp z;subst e;exact⟨eC,f0,f1,f2,ncell⟩
 show g6 (jk I5 hN hiy hy (v:=.ref L) (u:=.ref L) rfl (λs5 I6=>?_) hf);have eC5:s5.heap.get? C=-oC:=(I6.pin (C,oC) (ay _ (ay _ (ah.mpr rfl)))).1;have I7:Inv X p9 (Y.set i (-(.ref L))) H' s5:=I6.pins_of λp hp=>I6.pin p (ay _ (ce _ hp));show⟨m,⟨oC,es,ep,eC5,rC⟩,λh'' hs''=>?_⟩;exact⟨_,H',I7.turned (t':=s5.toks) (it:=C) (λb o hb e=>hs''.extBut b o hb e) f0 f1 f3 f4 f5,q⟩
open PySem.W (findIn mroIn clsIn typeIn Looks looks_findIn looks_mroIn looks_typeIn)
section
variable {X:Cx}
theorem Wr:bootBuiltins "any"=-(.builtin "any"):=by ac_rfl
theorem any_range(bs:List Bool)(n:Nat)(hn:n=bs⁻¹):((List.range n).any λi=>(bs[i]?).getD true)=bs.any id:=by
 subst hn;rw[eh,gV,gV];constructor
 .rintro ⟨i,hi,h⟩;have g:=fT.mp hi;rw[al g]at h;exact⟨_,c8 g,h⟩
 .rintro ⟨b,q,h⟩;let(i,hi,e):=dA.mp q;exact⟨i,fT.mpr hi,by rw[al hi,e];exact h⟩
theorem Ws (hc:X.calm=true):bf X (.builtin "any") (λxs H Q=>∃(p:AQ) (bs:List Bool),xs=[.ref p]/\SqL X.K H p (bs.map V.bl)/\Q (.bl (bs.any id)) H):=by
 intro p9 s Y H xs us Q I r h;let(p,bs,rfl,hq,q):=h;let(u,rfl,ru):=vals1 r;cases ru;let(g,L,pl,hz):=I.list hq;have hl:=pl.isList;have z:p<(~~~s):=by let(_,e,_):=hl;exact aE e
 show call_any_walk (eT hl ?_);show⟨(~~~s),[(~~~s),p],[(~~~s)],g.toArray.size,_,_,λi=>(bs[i]?).getD true,rfl,hG (A:=X.A.in1) (I.ok.hd hc) _ p (bv z) g.toArray,
  ⟨⟨_,aT _ rfl,rfl,rfl⟩,hl.push _⟩,λi v s' Q' E' N J=>?_,λh' tk O=>?_⟩
 .let(b,e,rfl):=vy L (i:=i) (v:=v) (!!N);simp only[e,Option.getD_some]at J;exact eD J
 .have e:=any_range bs g.toArray.size (by rw[ax,<-L⁻¹,af]);rw[e];exact⟨.bl _,H,I.kept (λb o q=>O b o (λU=>by rw[ah.mp U]at q;exact eP _ (aE q)) (ag _ q)),rfl,q⟩
def dg(ks:List (List Key)):List (List Key×V):=ks.foldl (λkv k=>putD kv k (.bl true)) []
theorem Dw:∀(ks:List (List Key))(kv:List (List Key×V)),(ks.foldl (λkv k=>putD kv k (V.bl true)) kv)⁻¹<=kv⁻¹+ks⁻¹
 |[],kv=>av _
 |k::ks,kv=>by
  have h1:=Dw ks (putD kv k (.bl true));have h2:=length_putD kv k (V.bl true);rw[List.foldl_cons,c9];lia
def isT(H:Hp)(v:V)(k:List Key):Prop:=∃b,v=.ref b/\H b=-(.tup (k.map kV))
def Dy(X:Cx)(t:TE):TE:=λY H Q=>t Y H λv H1=>∃p vs ks,v=.ref p/\SqL X.K H1 p vs/\Paired (isT H1) vs ks/\ks⁻¹<sizeLine/\∀D,H1 D=none->Q (.ref D) (upd H1 D (.dT (dg ks)))
theorem Paired.at{g q:Type}{F:g->q->Prop}:∀{xs:List g}{ys:List q},Paired F xs ys->∀{i:Nat}{a:g},xs[i]?=-a->∃b,ys[i]?=-b/\F a b
 |_,_,.nil,_,_,e=>by simp at e
 |_,_,.cons r t,0,_,e=>by simp at e;subst e;exact⟨_,rfl,r⟩
 |_,_,.cons r t,i+1,_,e=>Paired.at t (i:=i) (!!e)
theorem vG:∀{vs:AR}{g:AB},Vals vs g->∀{i:Nat}{u:AN},g[i]?=-u->∃v,vs[i]?=-v/\RelV v u
 |_,_,.nil,_,_,e=>by simp at e
 |_,_,.cons r t,0,_,e=>by simp at e;subst e;exact⟨_,rfl,r⟩
 |_,_,.cons r t,i+1,_,e=>vG t (i:=i) (!!e)
theorem Wt{iter:AO}{x:Str}{px pk pv:Pos}{j:Nat}{scope:Scope}{pos:Pos}{t:TE}{p9:AC}{s:AI}{Y:St}{H:Hp}{Q:VK}{RR:AN->AQ->Result->AI->Prop}(hc:X.calm=true)(hu:X.A.units+1<cLine)(he:PE X iter t)
  (hcell:scope.names.all (λy=>y.2 != NameKind.cell)=true) (hkind:scope.kind=.function) (hx:scope.names.lookup x=-.local) (hd:(x==("__debug__":Str))=false) (I:Inv X p9 Y H s) (h:Dy X t Y H Q)
  (fin:∀(D C:AQ)(H':Hp)(s4:AI)(m:AH),Inv X p9 Y H' s4->Q (.ref D) H'->s4.heap.Ns C m->c7 X p9 H' C->RR (.ref D) C (.ok .next) s4):
  ↥X (eval iter X.env) (λxv s₁=>↥X (pyIter xv) (λit s₂=>↥X newDict (λacc U=>
   ↥X (newFunctionEnv scope X.env.globals (cu X.env scope.names []) [] X.env.qual none .none (-X.env)) (λcenv s₄=>
    codeAny (model X.prog X.w) X.A (.compStart (.DictComp (.Name x pk) (.Constant (.bool true) j pv) [⟨.Name x px,iter,[],0⟩] scope pos) 0 it acc {cenv with scope:=relabel scope X.env}) (RR acc cenv.locals) s₄) X.xe U) X.xe s₂) X.xe s₁) X.xe s:=by
 have hcell':∀y∈scope.names,y.2≠NameKind.cell:=λy hy=>by
  have:=b3.mp hcell y hy;simpa using this
 generalize cu X.env scope.names []=cl;show thn (he p9 s Y H _ I h) λxv O h1=>?_;let(v,H1,I1,rv,p,vs,ks,ev,hp,hpk,hkl,q):=h1;subst ev;cases rv;let(g,r,pl,_):=I1.list hp;have hl:O.heap.IsList p g.toArray:=pl.isList;have hlen:g⁻¹=ks⁻¹:=by rw[<-r⁻¹];exact ga hpk
 have hlt:p<O.heap.objs.size:=by let(_,e,_):=hl;exact aE e
 show eT hl ?_;show eW (wpAny_newFunctionEnv hcell' (by intro y hy;simp at hy) (λN J L=>?_) hkind);dsimp only at J L ⊢;generalize hH1:O.heap.push {cls:=.type "list_iterator",data:=.fields #[.ref p,.int 0 0]}=h2 at J L ⊢;generalize hH2:h2.push {cls:=.type "dict",dict:=none,data:=.dict #[]}=HP at J L ⊢;have z1:h2.objs.size=O.heap.objs.size+1:=by rw[<-hH1,cr]
 have z2:HP.objs.size=O.heap.objs.size+2:=by rw[<-hH2,cr,z1]
 have up:∀b o,HP.get? b=-o->N.get? b=-o:=λb o e=>L.extBut b o (bv (aE e)) (ag _ e);have up2:∀b o,h2.get? b=-o->N.get? b=-o:=λb o e=>up b o (hH2 ▸ ag _ e);have old:∀b o,O.heap.get? b=-o->N.get? b=-o:=λb o e=>up2 b o (hH1 ▸ ag _ e);have hit:N.IsListIter O.heap.objs.size p 0:=⟨_,up2 _ _ (hH1 ▸ aT _ rfl),rfl,rfl⟩;have nd:H1 h2.objs.size=none:=I1.hok.fresh (!0);have hneC:HP.objs.size≠h2.objs.size:=by lia
 have hneI:O.heap.objs.size≠h2.objs.size:=by lia
 have hneIC:O.heap.objs.size≠HP.objs.size:=by lia
 have fC:∀kv,c7 X p9 (upd H1 h2.objs.size (.dT kv)) HP.objs.size:=λkv=>I1.fpOk (!0) (by rw[aK hneC];exact I1.hok.fresh (!0));have fI:∀kv,c7 X p9 (upd H1 h2.objs.size (.dT kv)) O.heap.objs.size:=λkv=>I1.fpOk (av _) (by rw[aK hneI];exact I1.hok.fresh (av _));have hdict:N.get? h2.objs.size=-{cls:=.type "dict",dict:=none,data:=.dict #[]}:=up _ _ (hH2 ▸ aT _ rfl);have hsm:(h2.objs.size==sysModules)=false:=dS.mpr (λz=>na z1 (d5 I1.big) z);have tupk:∀{kv:List (List Key×V)}{b:AQ}{k:List Key},H1 b=-(.tup (k.map kV))->upd H1 h2.objs.size (.dT kv) b=-(.tup (k.map kV)):=λe=>by rw[aK (bH e nd)];exact e
 have loop:∀U:AI,U={O with heap:=N,toks:=O.toks+([]:List (Str×AN))⁻¹}->
   codeAny (model X.prog X.w) X.A (.compLoop (.DictComp (.Name x pk) (.Constant (.bool true) j pv) [⟨.Name x px,iter,[],0⟩] scope pos) 0 (.ref O.heap.objs.size) (.ref h2.objs.size) (compEnvC scope cl HP.objs.size X.env))
    (RR (.ref h2.objs.size) HP.objs.size) U:=by
  rintro U rfl;have W:=hG (prog:=X.prog) (w:=X.w) (I1.ok.hd hc) O.heap.objs.size p (bv hlt) g.toArray;show codeAny_compLoop_testsD (λn s'=>∃i m,n=g⁻¹-i/\i<=g⁻¹/\Inv X p9 Y (upd H1 h2.objs.size (.dT (dg (ks.take i)))) s'/\(s'.heap.IsListIter O.heap.objs.size p i/\s'.heap.IsList p g.toArray)/\s'.heap.Ns HP.objs.size m) ?_ g⁻¹
   ⟨0,_,rfl,cb _,I1.laid (t':=O.toks+([]:List (Str×AN))⁻¹) (o:=.dT []) old (!0) ⟨cb _,hsm,[],.nil,_,#[],_,hdict,⟨rfl,rfl,rfl⟩,rfl,rfl,d6⟩,⟨hit,hl.at λo e=>old _ _ e⟩,J⟩
  rintro n s' ⟨i,m,rfl,hi,I',⟨st1,st2⟩,hns⟩;by_cases hlt':i<g⁻¹
  .show W.item i s' _ _ (!!hlt') ⟨st1,st2⟩ λv h' tk hP st' hk'=>?_;have I2:Inv X p9 Y (upd H1 h2.objs.size (.dT (dg (ks.take i)))) {s' with heap:=h',toks:=tk}:=by
    let(f0,f1,f2,f3,f4,f5):=fI (dg (ks.take i));exact I'.turned (t':=tk) (it:=O.heap.objs.size) (λb o hb e=>hk' b o (!!hb) e) f0 f1 f3 f4 f5
   have hns2:h'.Ns HP.objs.size m:=hns.at' λo e=>hk' _ o (λz=>hneIC (ah.mp z).symm) e;show g6 (wpAny_storeName_local (env:=compEnvC scope cl HP.objs.size X.env) (lookup_relabel_local hx) hns2 (λh3 hn3 hs3=>?_) (by simp[compEnvC,relabel,hkind]));have I3:Inv X p9 Y (upd H1 h2.objs.size (.dT (dg (ks.take i)))) {s' with heap:=h3,toks:=tk+1}:=by let(f0,f1,f2,f3,f4,f5):=fC (dg (ks.take i));exact Inv.turned (s:={s' with heap:=h',toks:=tk}) (h':=h3) (t':=tk+1) (it:=HP.objs.size) I2 (λb o hb e=>hs3.extBut b o hb e) f0 f1 f3 f4 f5
   show aw ?_;rw[if_pos rfl];show wpAny_Name (wpAny_loadName_local (env:=compEnvC scope cl HP.objs.size X.env) hkind (lookup_relabel_local hx) hn3 (if_pos rfl) ?_) hd;show Constant_bool ?_;obtain⟨u,k,ek,e1,b,e2,eb⟩:∃u k,ks[i]?=-k/\RelV u v/\isT H1 u k:=by
    have hv:g[i]?=-v:=by simpa using hP
    let(u,eu,ru):=vG r hv;let(k,ek,hk):=Paired.at hpk eu;exact⟨u,k,ek,ru,hk⟩
   subst e2;cases(show v=Value.ref b from e1);have eb3:=tupk (kv:=dg (ks.take i)) eb;let(z,hsm',xs,rel,dd):=kJ I3.hok cU;have hz:xs⁻¹<=sizeLine:=by rw[<-ga rel];exact z
   have hkt:ks.take (i+1)=ks.take i++[k]:=by rw[eR,ek];rfl
   have htr:dg (ks.take (i+1))=putD (dg (ks.take i)) k (.bl true):=by unfold dg;rw[hkt,fN];rfl
   have hl4:(putD (dg (ks.take i)) k (.bl true))⁻¹<=sizeLine:=by rw[<-htr];have:=Dw (ks.take (i+1)) [];have h5:=List.length_take_le (i+1) ks;have h6:=List.length_take_le' (i+1) ks;unfold dg;simp only[hJ]at this;lia
   show wpAny_dictSet_heap (hsz:=hz) (Nat.lt_of_succ_lt hu) (iD I3.hok eb3) dd λh4 dd4 hs4=>⟨g⁻¹-(i+1),!0,i+1,_,rfl,hlt',?_,⟨st'.1.at λo e=>?_,st'.2.at λo e=>?_⟩,hn3.at' λo e=>?_⟩
   .let(o4,es,ep,hq,g2,g3,g4,_,g5):=dd4;rw[htr];have I4:=vD (t':=tk+1+(tupleKind (b7 X.prog X.w)).draws k) (ob:=.dT (putD (dg (ks.take i)) k (.bl true))) I3 (by rw[cU];exact fS) hs4 ⟨o4,hq⟩ ⟨hl4,hsm,_,(rel.put k eb3 (show RelV (.bl true) (.bool true) from rfl)).keeps λc ys ec=>?_,o4,es,ep,hq,g2,g3,g4,g5⟩
    .rw[QW]at I4;exact I4
    .rw[aK (ji ec cU (λz=>nomatch z))];exact ec
   .exact (hs4.2 _ hneI).trans (hs3.extBut _ _ hneIC e)
   .have hpD:p≠h2.objs.size:=λz=>na z1 (d5 hlt) z.symm;have hpC:p≠HP.objs.size:=λz=>na z2 (bo hlt (!0)) z.symm;exact(hs4.2 _ hpD).trans (hs3.extBut _ _ hpC e)
   .exact (hs4.2 _ hneC).trans e
  .have ei:i=g⁻¹:=by lia
   subst ei;show W.done s' _ _ (by simpa using ⟨st1,st2⟩) λh' tk hk'=>?_;have et:ks.take g⁻¹=ks:=by rw[hlen];exact eK
   rw[et]at I';have I2:Inv X p9 Y (upd H1 h2.objs.size (.dT (dg ks))) {s' with heap:=h',toks:=tk}:=by let(f0,f1,f2,f3,f4,f5):=fI (dg ks);exact I'.turned (t':=tk) (it:=O.heap.objs.size) (λb o hb e=>hk' b o (!!hb) e) f0 f1 f3 f4 f5
   exact fin _ _ _ _ m I2 (q _ nd) (hns.at' λo e=>hk' _ o (λz=>hneIC (ah.mp z).symm) e) (fC _)
 exact codeAny_compStart_dict (loop _ rfl) ((hG (I1.ok.hd hc) O.heap.objs.size p (bv hlt) g.toArray).self 0 _ _ _ ⟨hit,hl.at λo e=>old _ _ e⟩ (loop _ rfl))
end
def akd{X:Cx}{iter:AO}{x:Str}{px pk pv:Pos}{j:Nat}{scope:Scope}{pos py O:Pos}{t:TE}{i:Nat}{y:Str}(hN:X.N.Nodup)(hiy:X.N[i]?=-y)(hy:Loc X.env.scope y)(hc:X.calm=true)(hu:X.A.units+1<cLine)(he:PE X iter t)
  (U:scope.names.all (λy=>y.2 != NameKind.cell)=true) (N:scope.names.all (λy=>y.2 != NameKind.local||scope.names.lookup y.1==-NameKind.local)=true)
  (hfr:scope.names.all (λy=>y.2 != NameKind.free||(X.env.kindOf y.1==-NameKind.cell||X.env.kindOf y.1==-NameKind.free))=true)
  (g:scope.kind=.function) (hx:scope.names.lookup x=-.local) (hd:(x==("__debug__":Str))=false) (hs:∀x,foldedSetIterable iter X.env x=pure x)
  (hsw:swapsWith (.DictComp (.Name x pk) (.Constant (.bool true) j pv) [⟨.Name x px,iter,[],0⟩] scope pos) (-(.Name y py)) O.line X.env=pure true)
  (hf:X.fn y=true\/X.env.scope.names.lookup y=-.local):
  PS X (.Assign [.Name y py] (.DictComp (.Name x pk) (.Constant (.bool true) j pv) [⟨.Name x px,iter,[],0⟩] scope pos) O) (jm (Dy X t) (jl i)):=by
 intro p9 s Y H D I h;have J:∀y∈scope.names,y.2=NameKind.local->scope.names.lookup y.1=-NameKind.local:=λy hy hl=>by
  have:=b3.mp N y hy;simpa [hl] using this
 have hcs:∀y∈scope.names,y.2=NameKind.free->(X.env.cells.lookup y.1).isSome=true:=λy hy hl=>by
  have:=b3.mp hfr y hy;let(c,e):=I.ok.has y.1 (by simpa [hl] using this);rw[e];rfl
 rw[exec_Assign_Name_used _ _ _ _ hsw];show ab (gx (ab ?_));change wpAny _ X.A (do let _ <-comprehension (.DictComp (.Name x pk) (.Constant (.bool true) j pv) [⟨.Name x px,iter,[],0⟩] scope pos) scope X.env _ newDict false (eval iter X.env) (-(assign (.Name y py) X.env))) _ _ s;show ab (dQ (gy (use:=-(assign (.Name y py) X.env)) (Q:=λr s'=>SP X p9 D .next s') rfl hs (qO hcs) g J
  (Wt (RR:=λacc C=>compPost (model X.prog X.w) X.A X.xe (-(assign (.Name y py) X.env)) (λr s'=>SP X p9 D .next s') acc C) hc hu he U g hx hd I h λL C H' s4 m I4 q hn fC=>?_)) (λr s' hq=>aw (aw hq)) λr r e=>e)
 let(oC,es,ep,eC,rC):=id hn;let(f0,f1,f2,f3,f4,f5):=fC;have ncell:∀v,oC.data≠.cell v:=λv z=>by rw[rC.1]at z;cases z
 have I5:Inv X (p9++[(C,oC)]) Y H' s4:=I4.pins_of λp hp=>by
  rcases a9.mp hp with z|z
  .exact I4.pin p (ay _ z)
  .have e:p=_:=ah.mp z;subst e;exact⟨eC,f0,f1,f2,ncell⟩
 show g6 (jk I5 hN hiy hy (v:=.ref L) (u:=.ref L) rfl (λs5 I6=>?_) hf);have eC5:s5.heap.get? C=-oC:=(I6.pin (C,oC) (ay _ (ay _ (ah.mpr rfl)))).1;have I7:Inv X p9 (Y.set i (-(.ref L))) H' s5:=I6.pins_of λp hp=>I6.pin p (ay _ (ce _ hp));show⟨m,⟨oC,es,ep,eC5,rC⟩,λh'' hs''=>?_⟩;exact⟨_,H',I7.turned (t':=s5.toks) (it:=C) (λb o hb e=>hs''.extBut b o hb e) f0 f1 f3 f4 f5,q⟩
open PySem.SeqAt
def kW(g:Array AN)(x:AN)(i:Nat)(_:Option Fin×Unit):Sem (ForInStep (Option Fin×Unit)):=match g[i]? with
 |some y=>do
  let b <-eqBool y x
  if b=true then do
   let f <-retInt (i:Int)
   pure (ForInStep.done (-f,()))
  else pure (ForInStep.yield (none,()))
 |_=>pure (ForInStep.yield (none,()))
def Dz{prog:AK}{w:World}{A:AM}{Q:Option Fin×Unit->AI->Prop}{E:AG}{s:AI}(g:Array AN)(x:AN)(e:AN->Bool)(j:Nat)(L:j<g.size)(he:∀y,y∈g->EqAt A s y x (e y))(J:e g[j]=true)(h:Q (-(.done (.ret (.int j s.toks))),()) {s with toks:=s.toks+1}):
  ∀(k i r:Nat),j=i+k->(∀m (N:m<g.size),i<=m->m<j->e g[m]=false)->
  wpAny (model prog w) A (forIn (List.range' i (k+1+r) 1) ((none,()):Option Fin×Unit) (kW g x)) Q E s
 |0,i,r,q,hno=>by
  have q:j=i:=q;subst q;rw[Nat.zero_add,Nat.add_comm,List.range'_succ,fw];have hi:g[j]?=-g[j]:=ge L;unfold kW;simp only[hi];show ab (ab (he _ (Array.getElem_mem L) prog w _ _ ?_));rw[J,if_pos rfl];wp_walk
  exact h
 |k+1,i,r,q,hno=>by
  have z:i<g.size:=by lia
  rw[show k+1+1+r=(k+1+r)+1 by lia,List.range'_succ,fw];have hi:g[i]?=-g[i]:=ge z;have O:kW g x i (none,())=(do
   let b <-eqBool g[i] x
   if b=true then do
    let f <-retInt (i:Int)
    pure (ForInStep.done (-f,()))
   else pure (ForInStep.yield (none,()))):=by unfold kW;simp only[hi]
  rw[O];show ab (ab (he _ (Array.getElem_mem z) prog w _ _ ?_));rw[hno i z (av _) (!0),if_neg bB];show aw ?_;exact Dz g x e j L he J h k (i+1) r (!0) λm N h1 h2=>hno m N (!0) h2
def Wu(l:AQ)(q:Array AN)(n:Nat)(N:Option AQ)(Y:Array (Option AN))(x:AN)(e:AN->Bool)(j:Nat)(U:j<q.size)
  (z:e q[j]=true) (J:∀m (L:m<q.size),m<j->e q[m]=false):
  Meets (Builtin.«tuple.index» ⟨[.ref l,x],[]⟩)
   (λA R s=>s.heap.get? l=-{cls:=.type "tuple",dict:=N,data:=.seq q n,slots:=Y}/\(∀y,y∈q->EqAt A.in1 s y x (e y))/\R (.ok (.ret (.int j s.toks))) {s with toks:=s.toks+1}):=by
 intro prog w A R s h;let(hp,g,d,tk,os):=s;let(hl,he,h):=h;unfold Builtin.«tuple.index»;simp only[Std.Legacy.Range.forIn_eq_forIn_range'];wp_walk using wpAny_loadPart' hl
 have O:[:min q.size q.size].size=j+1+(q.size-(j+1)):=by simp[Std.Legacy.Range.size];lia
 change wpAny (model prog w) A.in1 (forIn (List.range' 0 [:min q.size q.size].size 1) ((none,()):Option Fin×Unit) (kW q x)) _ _ _;rw[O];show Dz q x e j U he z ?_ j 0 _ (!0) λm L v h2=>J m L h2;exact aw h
def vH(i:Int):AN->Bool
 |.int a _=>a==i
 |_=>false
def Wv(K:PF):V->AR->Hp->VK->Prop:=λx vs H Q=>∃(p:AQ)(ns:List Int)(i:Int),x=.ref p/\vs=[.int i]/\SqT K H p (ns.map V.int)/\i∈ns/\Q (.int (ns.idxOf i:Nat)) H
def vI{ns:List Int}{g:AB}(r:Vals (ns.map V.int) g){k:Nat}(h:k<g⁻¹)(h':k<ns⁻¹):∃t,g[k]=.int ns[k] t:=by let(v,q,z):=vG r (al h);rw[aS,al h']at q;cases q;exact z
def Ww {X:Cx}:MtR X "tuple.index" (Wv X.K):=by
 intro p9 s Y H x xs v us Q I rx rs h;let(p,ns,i,rfl,rfl,hq,L,q):=h;cases rx;let(u,rfl,ru):=vals1 rs;let(tk,rfl):=ru;let(g,J,(o,ho,hc,n,U),hz):=I.tuple hq;let(cls,dd,data,sl):=o;simp only at hc U;subst hc U;have hlen:g⁻¹=ns⁻¹:=by rw[<-J⁻¹,af]
 have hj:ns.idxOf i<ns⁻¹:=List.idxOf_lt_length_iff.mpr L;show call_meets PySem.F.slot_tuple_index ⟨_,ho,rfl⟩ PySem.F.entry_tuple_index (PySem.F.args_tuple_index_2 _ _) (Wu p _ n _ sl (.int i tk) (vH i) (ns.idxOf i) (by rw[ax];lia) ?_ ?_) ⟨ho,λy hy=>?_,?_⟩
 .let(t,e):=vI J (k:=ns.idxOf i) (!0) hj;change vH i (g[ns.idxOf i]'(!0))=true;rw[e];change(ns[ns.idxOf i]==i)=true;rw[List.getElem_idxOf hj];exact beq_self_eq_true i
 .intro m z N;rw[ax]at z;let(t,e):=vI J (k:=m) z (!0);change vH i (g[m]'z)=false;rw[e];change(ns[m]==i)=false;have h4:m<ns.findIdx (·==i):=N;simpa using List.not_of_lt_findIdx h4
 .let(m,z,e):=dA.mp (show y∈g by simpa using hy);let(t,O):=vI J z (!0);rw[e]at O;rw[O];exact EqAt.int_int _ _ _ _
 .exact ⟨.int _,H,I.tok _,⟨_,rfl⟩,q⟩
def Wx(r:V->AR->Hp->VK->Prop)(to:TE)(t:TA):TE:=λY H Q=>to Y H λx H1=>(∃p xs,x=.ref p/\H1 p=-(.tup xs))/\t Y H1 λvs H2=>r x vs H2 Q
def Wy {X:Cx} {o e:AO} {es:AE} {to:TE} {t:TA} {name:Str} {apos cpos:Pos} {id:AL} {r:V->AR->Hp->VK->Prop} (pa:PlainAttrs "tuple") (slot:Slot "tuple" name id) (L:typeOf (.builtin id)=pure (.type "method_descriptor")) (hm:MtR X id r) (ho:PE X o to) (ha:PA X (e::es) t)
  (q:attributeBase o name X.env (eval o X.env)=eval o X.env)
  (J:((backTo cpos (starEach (e::es) X.env)).all (λx=>!x.1)&&(backToKw cpos (keywordEach [] X.env)).all (λx=>x.1.isSome)
  &&decide ((e::es)⁻¹+([]:List Keyword)⁻¹+(if([]:List Keyword).isEmpty then 0 else 1)<30))=true)
  (z:(apos.endLine==cpos.line)=true) (hs:starEach (e::es) X.env=(false,eval e X.env)::starEach es X.env) (g:(backTo cpos (starEach es X.env)).any (·.1)=false):
  PE X (.Call (.Attribute o name apos) (e::es) [] cpos) (Wx r to t):=by
 intro p9 s Y H Q I h;show wpAny_Call_method_late q J z rfl (thn (ho p9 s Y H _ I h) λv s1 zZ=>?_);let(x,H1,N,r1,(p,xs,ex,hp),q1):=zZ;subst ex;obtain rfl:v=Value.ref p:=r1;let(_,its,rv,ob,O,U,_):=(show ObjOk X.prog X.w H1 s1.heap p (.tup xs) from N.hok p _ hp);show⟨"tuple",id,pa,slot,L,⟨ob,O,U.1⟩,λa ea=>by cases ea;exact⟨ob,O,U.2⟩,?_⟩;have hA:=ha cpos p9 s1 Y H1 _ N q1;rw[hs]at hA ⊢;show g9 (by change(false||(backTo cpos (starEach es X.env)).any (·.1))=false;rw[g]<;>rfl) (Calls.evalArgs_plain ?_);show thn hA λus s2 zZ=>?_;let(vs,H2,I2,r2,q2):=zZ;exact hm p9 s2 Y H2 (.ref p) vs _ us Q I2 rfl r2 q2
end L2
namespace PySem.SetTable
def dC(xs:Array Nat):Prop:=∀(i j x y:Nat),xs[i]?=-x->xs[j]?=-y->i<j->x<y
def getD_some{xs:Array Nat}{i d x:Nat}(h:xs[i]?=-x):xs.getD i d=x:=by rw[Array.getD_eq_getD_getElem?,h];rfl
def vJ{xs:Array Nat}{j:Nat}(z:dC xs):∀(f lo hi:Nat),hi-lo<=f->lo<=hi->hi<=xs.size->(∀(k x:Nat),k<lo->xs[k]?=-x->x<j)->(∀(k x:Nat),hi<=k->xs[k]?=-x->j<=x)->
  (∀(k x:Nat),k<below.go xs j f lo hi->xs[k]?=-x->x<j)/\(∀(k x:Nat),below.go xs j f lo hi<=k->xs[k]?=-x->j<=x)/\below.go xs j f lo hi<=xs.size
 |0,lo,hi,h1,h2,h3,a,b=>by
  have e:lo=hi:=by lia
  subst e;exact⟨a,b,h3⟩
 |f+1,lo,hi,h1,h2,h3,a,b=>by
  unfold below.go;by_cases hl:lo<hi
  .rw[if_pos hl];dsimp only;have L:(lo+hi)/2<xs.size:=by lia
   have q:xs[(lo+hi)/2]?=-xs[(lo+hi)/2]:=Array.getElem?_eq_getElem L;by_cases hc:xs.getD ((lo+hi)/2) j<j
   .rw[if_pos hc];rw[getD_some q]at hc;show vJ z f _ hi (!0) (!0) h3 (λk x J g=>?_) b;by_cases e:k=(lo+hi)/2
    .subst e;rw[q]at g;cases g;exact hc
    .exact Nat.lt_trans (z k _ x _ g q (!0)) hc
   .rw[if_neg hc];rw[getD_some q]at hc;show vJ z f lo _ (!0) (!0) (!0) a (λk x J g=>?_);by_cases e:k=(lo+hi)/2
    .subst e;rw[q]at g;cases g;lia
    .have:=z _ k _ x q g (!0);lia
  .rw[if_neg hl];have e:lo=hi:=by lia
   subst e;exact⟨a,b,h3⟩
def kY{xs:Array Nat}(g:dC xs)(j:Nat):(∀(k x:Nat),k<below xs j->xs[k]?=-x->x<j)/\(∀(k x:Nat),below xs j<=k->xs[k]?=-x->j<=x)/\below xs j<=xs.size:=
 vJ g _ _ _ (!0) (Nat.zero_le _) (Nat.le_refl _) (λk x h=>by lia) λk x z q=>by
  have:=(Array.getElem?_eq_some_iff.mp q).1;lia
def below_at{xs:Array Nat}(g:dC xs){i j:Nat}(h:xs[i]?=-j):below xs j=i:=by
 let(a,b,c):=kY g j;have hi:=(Array.getElem?_eq_some_iff.mp h).1;by_cases h1:i<below xs j
 .exact absurd (a i j h1 h) (Nat.lt_irrefl _)
 .by_cases h2:below xs j<i
  .have q:below xs j<xs.size:=by lia
   have e:xs[below xs j]?=-xs[below xs j]:=Array.getElem?_eq_getElem q;have:=b _ _ (Nat.le_refl _) e;have:=g _ _ _ _ e h h2;lia
  .omega
def dh{q:Type}{xs:Array q}{p:Nat}{x:q}(z:p<=xs.size)(k:Nat):(insertAt xs p x)[k]?=if k<p then xs[k]? else if k=p then some x else xs[k-1]?:=by
 unfold insertAt;have hs:((xs.extract 0 p).push x).size=p+1:=by simp;lia
 by_cases h1:k<p
 .rw[if_pos h1,Array.getElem?_append_left (by rw[hs];lia),Array.getElem?_push,if_neg (by simp;lia)];simp[Array.getElem?_extract];lia
 .rw[if_neg h1];by_cases h2:k=p
  .subst h2;rw[if_pos rfl,Array.getElem?_append_left (by rw[hs];lia),Array.getElem?_push,if_pos (by simp;lia)]
  .rw[if_neg h2,Array.getElem?_append_right (by rw[hs];lia),hs];rw[Array.getElem?_extract];have e:p+(k-(p+1))=k-1:=by lia
   rw[e];by_cases g:k-(p+1)<min xs.size xs.size-p
   .rw[if_pos g]
   .rw[if_neg g];exact(Array.getElem?_eq_none (!0)).symm
def qY{g:Type}{xs:Array g}{p:Nat}{x:g}(q:p<=xs.size):(insertAt xs p x).size=xs.size+1:=by unfold insertAt;simp;lia
def DG{xs:Array Nat}(L:dC xs){j:Nat}(N:∀i:Nat,xs[i]?≠some j):dC (insertAt xs (below xs j) j):=by
 let(a,b,c):=kY L j;have lt:∀(k x:Nat),below xs j<=k->xs[k]?=-x->j<x:=λk x O g=>Nat.lt_of_le_of_ne (b k x O g) λe=>N k (by rw[e];exact g);intro i k x y g q J;rw[dh c]at g q;by_cases h1:i<below xs j
 .rw[if_pos h1]at g;by_cases h2:k<below xs j
  .rw[if_pos h2]at q;exact L i k x y g q J
  .rw[if_neg h2]at q;by_cases z:k=below xs j
   .rw[if_pos z]at q;cases q;exact a i x h1 g
   .rw[if_neg z]at q;exact Nat.lt_trans (a i x h1 g) (lt _ y (!0) q)
 .rw[if_neg h1]at g;rw[if_neg (!0),if_neg (!0)]at q;by_cases z:i=below xs j
  .rw[if_pos z]at g;cases g;exact lt _ y (!0) q
  .rw[if_neg z]at g;exact L _ _ x y g q (!0)
def atS{g:Type}(place:Array Nat)(es:Array g)(j:Nat):Option g:=if place[below place j]?=-j then es[below place j]? else none
def gB{q:Type}{place:Array Nat}{es:Array q}(g:dC place){i j:Nat}(h:place[i]?=-j):atS place es j=es[i]?:=by unfold atS;rw[below_at g h,if_pos h]
def Wz{O:Type}{place:Array Nat}{es:Array O}(L:dC place)(hs:place.size=es.size){j:Nat}(U:∀i:Nat,place[i]?≠some j)(x:O)(g:Nat):
  atS (insertAt place (below place j) j) (insertAt es (below place j) x) g=if g=j then some x else atS place es g:=by
 let(a,b,c):=kY L j;have z:=DG L U;have J:below place j<=es.size:=by rw[<-hs];exact c
 by_cases q:g=j
 .subst q;rw[if_pos rfl,gB z (i:=below place g) (by rw[dh c,if_neg (!0),if_pos rfl]),dh J,if_neg (!0),if_pos rfl]
 .rw[if_neg q];by_cases h:∃i:Nat,place[i]?=-g
  .let(i,hi):=h;rw[gB L hi];by_cases h1:i<below place j
   .rw[gB z (i:=i) (by rw[dh c,if_pos h1];exact hi),dh J,if_pos h1]
   .rw[gB z (i:=i+1) (by rw[dh c,if_neg (!0),if_neg (!0)];exact hi),dh J,if_neg (!0),if_neg (!0)];rfl
  .have no:∀i:Nat,place[i]?≠some g:=λi hi=>h ⟨i,hi⟩;have N:∀i:Nat,(insertAt place (below place j) j)[i]?≠some g:=λi hi=>by
    rw[dh c]at hi;split at hi
    .exact no _ hi
    .split at hi
     .cases hi;exact q rfl
     .exact no _ hi
   unfold atS;rw[if_neg (no _),if_neg (N _)]
end PySem.SetTable
namespace PySem.SetTable
def nth(t:SetTable):Nat->Probe->Probe
 |0,p=>p
 |n+1,p=>nth t n (t.advance p)
def kZ(t:SetTable):∀(n m:Nat)(p:Probe),nth t (n+m) p=nth t m (nth t n p)
 |0,m,p=>by rw[Nat.zero_add];rfl
 |n+1,m,p=>by rw[show n+1+m=(n+m)+1 by lia];exact kZ t n m (t.advance p)
def dD(t:SetTable)(i q:Nat)(d:Option Nat):Probe:={j:=i,more:=runEnd t.mask i-i,i:=i,perturb:=q,dummy:=d}
def WD(mask i:Nat):runEnd mask i-i<=9:=by unfold runEnd;split<;>lia
def DK(t:SetTable)(i q:Nat)(d:Option Nat):∀k r j,nth t (k+1) ⟨j,k+r,i,q,d⟩=(if r=0 then dD t (leap t.mask i q).1 (leap t.mask i q).2 d else⟨j+(k+1),r-1,i,q,d⟩)
 |0,0,j=>rfl
 |0,r+1,j=>by
  rw[if_neg (!0)];change t.advance ⟨j,0+(r+1),i,q,d⟩=_;unfold advance;rw[if_pos (by change 0+(r+1) > 0;lia)];simp
 |k+1,r,j=>by
  have e:nth t (k+1+1) ⟨j,k+1+r,i,q,d⟩=nth t (k+1) (t.advance ⟨j,k+1+r,i,q,d⟩):=rfl;rw[e];have g:t.advance ⟨j,k+1+r,i,q,d⟩=⟨j+1,k+r,i,q,d⟩:=by unfold advance;rw[if_pos (by change k+1+r > 0;lia)];change Probe.mk (j+1) (k+1+r-1) i q d=_;rw[show k+1+r-1=k+r by lia]
  rw[g,DK t i q d k r (j+1)];split
  .rfl
  .rw[show j+1+(k+1)=j+(k+1+1) by lia]
def DN(t:SetTable)(i q:Nat)(d:Option Nat):nth t (runEnd t.mask i-i+1) (dD t i q d)=dD t (leap t.mask i q).1 (leap t.mask i q).2 d:=by have:=DK t i q d (runEnd t.mask i-i) 0 i;rw[if_pos rfl,Nat.add_zero]at this;exact this
def bs(M:Nat):Nat->Nat->Nat->Nat
 |0,i,_=>i
 |n+1,i,q=>bs M n ((i*5+1+q/32)%(M+1)) (q/32)
def DP(t:SetTable)(d:Option Nat):∀n i q,∃s g,s<=10*n/\nth t s (dD t i q d)=dD t (bs t.mask n i q) g d
 |0,i,q=>⟨0,q,Nat.le_refl _,rfl⟩
 |n+1,i,q=>by
  let(s,g,h1,h2):=DP t d n ((i*5+1+q/32)%(t.mask+1)) (q/32);show⟨runEnd t.mask i-i+1+s,g,by have:=WD t.mask i;lia,?_⟩;rw[kZ,DN];exact h2
def jn(M:Nat):∀n m i q,bs M (n+m) i q=bs M m (bs M n i q) (q/32 ^ n)
 |0,m,i,q=>by rw[Nat.zero_add,Nat.pow_zero,Nat.div_one];rfl
 |n+1,m,i,q=>by
  rw[show n+1+m=(n+m)+1 by lia];change bs M (n+m) _ _=_;rw[jn M n m,Nat.div_div_eq_div_mul,Nat.pow_succ,Nat.mul_comm 32];rfl
def vK(M:Nat):∀n i q,i<=M->bs M n i q<=M
 |0,_,_,h=>h
 |n+1,i,q,h=>vK M n _ _ (Nat.le_of_lt_succ (Nat.mod_lt _ (Nat.succ_pos _)))
def orb(M:Nat):Nat->Nat->AA
 |0,_=>[]
 |n+1,i=>i::orb M n ((i*5+1)%(M+1))
def DQ(M:Nat):∀n i j,j∈orb M n i->∃k,k<n/\bs M k i 0=j
 |0,_,_,h=>nomatch h
 |n+1,i,j,h=>by
  rcases List.mem_cons.mp h with e|h
  .exact ⟨0,Nat.succ_pos _,e.symm⟩
  .let(k,h1,h2):=DQ M n _ j h;exact⟨k+1,!0,h2⟩
def qZ(M:Nat):Nat->Nat->Nat->Nat
 |0,_,a=>a
 |n+1,i,a=>qZ M n ((i*5+1)%(M+1)) (a ||| 2 ^ i)
def DR(M:Nat):∀n i a j,(qZ M n i a).testBit j=true->a.testBit j=true\/j∈orb M n i
 |0,_,_,_,h=>.inl h
 |n+1,i,a,j,h=>by
  rcases DR M n _ _ j h with h|h
  .rw[Nat.testBit_or,Bool.or_eq_true]at h;rcases h with h|h
   .exact .inl h
   .rw[Nat.testBit_two_pow,decide_eq_true_eq]at h;exact .inr (List.mem_cons.mpr (.inl h.symm))
  .exact .inr (List.mem_cons.mpr (.inr h))
def full(M:Nat):Bool:=qZ M (M+1) 0 0==2 ^ (M+1)-1&&bs M (M+1) 0 0==0
def WF:full 7=true:=by ac_rfl
def WK:full 31=true:=by ac_rfl
def WL:full 127=true:=by ac_rfl
def WM:full 511=true:=by ac_rfl
def DW{M:Nat}(h:full M=true){i j:Nat}(hi:i<=M)(J:j<=M):∃n,n<=M/\bs M n i 0=j:=by
 unfold full at h;rw[Bool.and_eq_true,beq_iff_eq,beq_iff_eq]at h;let(h1,h2):=h;have go:∀j,j<=M->∃n,n<=M/\bs M n 0 0=j:=λj J=>by
  have e:(qZ M (M+1) 0 0).testBit j=true:=by rw[h1,Nat.testBit_two_pow_sub_one,decide_eq_true_eq];lia
  rcases DR M _ _ _ j e with e|e
  .rw[Nat.zero_testBit]at e;cases e
  .let(k,L,e):=DQ M (M+1) 0 j e;exact⟨k,!0,e⟩
 let(p,N,rfl):=go i hi;let(q,O,rfl):=go j J;by_cases c:p<=q
 .have:=jn M p (q-p) 0 0;rw[Nat.zero_div,show p+(q-p)=q by lia]at this;exact⟨q-p,!0,this.symm⟩
 .have g:=jn M p (q+(M+1)-p) 0 0;have z:=jn M (M+1) q 0 0;rw[Nat.zero_div,show p+(q+(M+1)-p)=(M+1)+q by lia]at g;rw[Nat.zero_div,h2]at z;exact⟨q+(M+1)-p,!0,g.symm.trans z⟩
def DX(h:Int):bits h<2 ^ 64:=by unfold bits;have:=Int.emod_lt_of_pos h (show(0:Int)<2 ^ 64 by decide);have:=Int.emod_nonneg h (show(2 ^ 64:Int)≠0 by decide);lia
def WN{t:SetTable}(J:full t.mask=true)(h:Int){j:Nat}(z:j<=t.mask):∃n,n<10*turns t.mask/\(nth t n (t.probeStart h)).j=j:=by have hi:bits h%(t.mask+1)<=t.mask:=Nat.le_of_lt_succ (Nat.mod_lt _ (Nat.succ_pos _));have g:t.probeStart h=dD t (bits h%(t.mask+1)) (bits h) none:=rfl;let(n,hn,q):=DW J (vK t.mask 13 _ (bits h) hi) z;let(s,N,h1,h2):=DP t none (13+n) (bits h%(t.mask+1)) (bits h);have L:bits h/32 ^ 13=0:=Nat.div_eq_of_lt (Nat.lt_trans (DX h) (!1));rw[jn,L,q]at h2;show⟨s,?_,by rw[g,h2];rfl⟩;unfold turns;lia
end PySem.SetTable
namespace PySem.SetTable
def DY{t:SetTable}(g:dC t.place){i j:Nat}(h:t.place[i]?=-j):t.slot j=.live i:=by unfold slot;dsimp only;rw[below_at g h,h];simp
def WP{t:SetTable}(q:t.dummies=#[]){j:Nat}(h:∀i:Nat,t.place[i]?≠some j):t.slot j=.empty:=by
 unfold slot;dsimp only;have e:(t.place[below t.place j]?==-j)=false:=by rw[beq_eq_false_iff_ne];exact h _
 rw[e];have g:has t.dummies j=false:=by rw[q];unfold has;simp
 simp[g]
def Ea(t:SetTable)(p:Probe):(t.advance p).dummy=p.dummy:=by unfold advance;split<;>rfl
def q8{q:Type}{place:Array Nat}{es:Array q}(z:dC place)(hs:place.size=es.size)(j:Nat):(∃(i:Nat)(e:q),place[i]?=-j/\es[i]?=-e/\atS place es j=-e)\/((∀i:Nat,place[i]?≠some j)/\atS place es j=none):=by
 by_cases h:∃i:Nat,place[i]?=-j
 .let(i,hi):=h;have g:i<es.size:=by rw[<-hs];exact(Array.getElem?_eq_some_iff.mp hi).1
  show .inl ⟨i,es[i],hi,Array.getElem?_eq_getElem g,?_⟩;rw[gB z hi,Array.getElem?_eq_getElem g]
 .have no:∀i:Nat,place[i]?≠some j:=λi hi=>h ⟨i,hi⟩;show .inr ⟨no,?_⟩;unfold atS;rw[if_neg (no _)]
def Eb{t:SetTable}{es:Array (Int×AN)}{hashAt:Nat->Int}(hh:∀(i:Nat)(e:Int×AN),es[i]?=-e->hashAt i=e.1)(hd:t.dummies=#[])(O:dC t.place)(hs:t.place.size=es.size)(h:Int):∀(m g:Nat)(p:Probe),m<g->p.dummy=none->
  (∀k,k<m->atS t.place es (nth t k p).j≠none)->atS t.place es (nth t m p).j=none->
  (∃(k i:Nat)(y:AN),k<m/\(∀k' y,k'<k->atS t.place es (nth t k' p).j≠some (h,y))/\t.place[i]?=-(nth t k p).j/\es[i]?=-(h,y)/\probe.go t hashAt h g p=-(.candidate (nth t k p).j i (nth t (k+1) p)))\/
  ((∀k y,k<m->atS t.place es (nth t k p).j≠some (h,y))/\probe.go t hashAt h g p=-(.empty (nth t m p).j none))
 |0,0,_,hf,_,_,_=>absurd hf (Nat.lt_irrefl _)
 |0,g+1,p,_,hp,_,he=>by
  show .inr ⟨λk y N=>absurd N (Nat.not_lt_zero _),?_⟩;have no:∀i:Nat,t.place[i]?≠some p.j:=by
   rcases q8 O hs p.j with⟨i,e,_,_,q⟩|⟨no,_⟩
   .have Y:atS t.place es p.j=none:=he;rw[Y]at q;cases q
   .exact no
  unfold probe.go;rw[WP hd no];dsimp only;rw[hp];rfl
 |m+1,0,_,hf,_,_,_=>absurd hf (Nat.not_lt_zero _)
 |m+1,g+1,p,hf,hp,hl,he=>by
  obtain⟨i,e,h1,h2,q⟩:∃(i:Nat)(e:Int×AN),t.place[i]?=-p.j/\es[i]?=-e/\atS t.place es p.j=-e:=by
   rcases q8 O hs p.j with hx|⟨_,hn⟩
   .exact hx
   .exact absurd hn (hl 0 (Nat.succ_pos _))
  unfold probe.go;rw[DY O h1];dsimp only;rw[hh i e h2];by_cases hc:e.1=h
  .rw[if_pos (!!hc)];show .inl ⟨0,i,e.2,Nat.succ_pos _,λk' y N=>absurd N (Nat.not_lt_zero _),h1,by rw[h2,<-hc],rfl⟩
  .rw[if_neg (!!hc)];rcases Eb hh hd O hs h m g (t.advance p) (!0) ((Ea t p).trans hp) (λk N=>hl (k+1) (!0)) he with⟨k,i',y,a1,U,a3,a4,a5⟩|⟨a1,U⟩
   .show .inl ⟨k+1,i',y,!0,λk' J hk'=>?_,a3,a4,a5⟩;cases k' with
    |zero=>intro z;have L:atS t.place es p.j=-(h,J):=z;rw[q]at L;cases L;exact hc rfl
    |succ k'=>exact U k' J (!0)
   .show .inr ⟨λk' J hk'=>?_,U⟩;cases k' with
    |zero=>intro z;have L:atS t.place es p.j=-(h,J):=z;rw[q]at L;cases L;exact hc rfl
    |succ k'=>exact a1 k' J (!0)
def WQ{t:SetTable}{es:Array (Int×AN)}(hm:full t.mask=true)(hr:dC t.place)(hs:t.place.size=es.size)(hf:∃j,j<=t.mask/\∀i:Nat,t.place[i]?≠some j)(h:Int):
  ∃m,m<10*turns t.mask/\(∀k,k<m->atS t.place es (nth t k (t.probeStart h)).j≠none)/\atS t.place es (nth t m (t.probeStart h)).j=none:=by
 let(j,hj,no):=hf;let(n,hn,U):=WN hm h hj;have J:atS t.place es (nth t n (t.probeStart h)).j=none:=by rw[U];unfold atS;rw[if_neg (no _)]
 have key:∀b,∀n,n<=b->atS t.place es (nth t n (t.probeStart h)).j=none->∃m,m<=n/\(∀k,k<m->atS t.place es (nth t k (t.probeStart h)).j≠none)/\atS t.place es (nth t m (t.probeStart h)).j=none:=by
  intro b;induction b with
  |zero=>intro n Y h0;exact⟨n,Nat.le_refl _,λk g=>by lia,h0⟩
  |succ b ih=>
   intro n Y h0;by_cases O:∃k,k<n/\atS t.place es (nth t k (t.probeStart h)).j=none
   .let(k,g,q):=O;let(m,m1,L,N):=ih k (!0) q;exact⟨m,!0,L,N⟩
   .exact ⟨n,Nat.le_refl _,λk g z=>O ⟨k,g,z⟩,h0⟩
 let(m,m1,L,N):=key n n (Nat.le_refl _) J;exact⟨m,!0,L,N⟩
end PySem.SetTable
namespace PySem.SetTable
def WR{t t':SetTable}(h:t.mask=t'.mask)(p:Probe):t.advance p=t'.advance p:=by unfold advance;rw[h]
def Ec{t t':SetTable}(h:t.mask=t'.mask):∀(n:Nat)(p:Probe),nth t n p=nth t' n p
 |0,_=>rfl
 |n+1,p=>by
  change nth t n (t.advance p)=nth t' n (t'.advance p);rw[WR h,Ec h n]
def WT{t t':SetTable}(h:t.mask=t'.mask)(x:Int):t.probeStart x=t'.probeStart x:=by unfold probeStart;rw[h]
def aC(t:SetTable)(h:Int)(n:Nat):Nat:=(nth t n (t.probeStart h)).j
def jo{t t':SetTable}(e:t.mask=t'.mask)(h:Int)(n:Nat):aC t h n=aC t' h n:=by unfold aC;rw[Ec e,WT e]
structure Tab(t:SetTable)(es:Array (Int×AN)):Prop where
 rise:dC t.place
 size:t.place.size=es.size
 dum:t.dummies=#[]
 msk:full t.mask=true
 lt:∀i j:Nat,t.place[i]?=some j->j<=t.mask
 room:t.place.size<=t.mask
 way:∀(i j:Nat)(h:Int)(v:AN),t.place[i]?=some j->es[i]?=some (h,v)->∃r,aC t h r=j/\∀k,k < r->atS t.place es (aC t h k)≠none
def Ed{xs:Array Nat}(z:dC xs)(M:Nat)(all:∀j,j<=M->∃i:Nat,xs[i]?=-j):∀j,j<=M->∃i:Nat,xs[i]?=-j/\j<=i
 |0,h=>by let(i,hi):=all 0 h;exact⟨i,hi,Nat.zero_le _⟩
 |j+1,h=>by
  let(i,hi,J):=Ed z M all j (!0);let(q,g):=all (j+1) h;show⟨q,g,?_⟩;by_cases hc:i<q
  .omega
  .by_cases he:i=q
   .subst he;rw[hi]at g;cases g
   .have:=z q i _ _ g hi (!0);lia
def Tab.free{t:SetTable}{es:Array (Int×AN)}(T:Tab t es):∃j,j<=t.mask/\∀i:Nat,t.place[i]?≠some j:=by show Classical.byContradiction λhc=>?_;have all:∀j,j<=t.mask->∃i:Nat,t.place[i]?=-j:=λj g=>Classical.byContradiction λhn=>hc ⟨j,g,λi hi=>hn ⟨i,hi⟩⟩;let(i,hi,h):=Ed T.rise t.mask all t.mask (Nat.le_refl _);have:=(Array.getElem?_eq_some_iff.mp hi).1;have:=T.room;lia
def Tab.first{t:SetTable}{es:Array (Int×AN)}(T:Tab t es)(h:Int):∃m,m<10*turns t.mask/\(∀k,k<m->atS t.place es (aC t h k)≠none)/\atS t.place es (aC t h m)=none:=
 WQ T.msk T.rise T.size T.free h
def vL(t:SetTable)(h:Int):∀n,aC t h n<=t.mask:=by
 have key:∀(n:Nat)(p:Probe),p.j+p.more<=t.mask->(nth t n p).j<=t.mask:=by
  intro n;induction n with
  |zero=>intro p g;change p.j<=_;lia
  |succ n q=>
   intro p g;change(nth t n (t.advance p)).j<=_;show q _ ?_;unfold advance;split
   .rename_i z;change p.j+1+(p.more-1)<=_;lia
   .dsimp only[leap];have hl:(p.i*5+1+p.perturb/32)%(t.mask+1)<=t.mask:=Nat.le_of_lt_succ (Nat.mod_lt _ (Nat.succ_pos _));change _+(runEnd t.mask _-_)<=_;unfold runEnd;split<;>lia
 intro n;show key n _ ?_;unfold probeStart;dsimp only;have hl:bits h%(t.mask+1)<=t.mask:=Nat.le_of_lt_succ (Nat.mod_lt _ (Nat.succ_pos _));unfold runEnd;split<;>lia
def Tab.put{t:SetTable}{es:Array (Int×AN)}(T:Tab t es){h:Int}{x:AN}{m:Nat}(h1:∀k,k<m->atS t.place es (aC t h k)≠none)(h2:atS t.place es (aC t h m)=none)(hr:t.place.size+1<=t.mask):
  Tab (t.put (aC t h m)).1 (insertAt es (t.put (aC t h m)).2 (h,x)):=by
 have no:∀i:Nat,t.place[i]?≠some (aC t h m):=by
  rcases q8 T.rise T.size (aC t h m) with⟨i,e,_,_,h3⟩|⟨no,_⟩
  .rw[h2]at h3;cases h3
  .exact no
 let(_,_,J):=kY T.rise (aC t h m);have L:below t.place (aC t h m)<=es.size:=by rw[<-T.size];exact J
 have q:(t.put (aC t h m)).1.mask=t.mask:=rfl;have ed:(t.put (aC t h m)).1.dummies=#[]:=by change(if has t.dummies (aC t h m) then _ else t.dummies)=#[];rw[T.dum];simp[has]
 have z:∀j,atS (insertAt t.place (below t.place (aC t h m)) (aC t h m)) (insertAt es (below t.place (aC t h m)) (h,x)) j=if j=aC t h m then some (h,x) else atS t.place es j:=λj=>Wz T.rise T.size no (h,x) j
 show⟨DG T.rise no,?_,ed,by rw[q];exact T.msk,λi j hi=>?_,?_,λi j h' v hi g=>?_⟩
 .change (insertAt t.place (below t.place (aC t h m)) (aC t h m)).size=(insertAt es (below t.place (aC t h m)) (h,x)).size;rw[qY J,qY L,T.size]
 .have hi:(insertAt t.place (below t.place (aC t h m)) (aC t h m))[i]?=-j:=hi;rw[dh J]at hi;rw[q];split at hi
  .exact T.lt _ _ hi
  .split at hi
   .cases hi;exact vL t h m
   .exact T.lt _ _ hi
 .change (insertAt t.place _ _).size<=t.mask;rw[qY J];exact hr
 .have hi:(insertAt t.place (below t.place (aC t h m)) (aC t h m))[i]?=-j:=hi;have g:(insertAt es (below t.place (aC t h m)) (h,x))[i]?=-(h',v):=g;change ∃r,aC (t.put (aC t h m)).1 h' r=j/\∀k,k<r->atS (insertAt t.place (below t.place (aC t h m)) (aC t h m)) (insertAt es (below t.place (aC t h m)) (h,x)) (aC (t.put (aC t h m)).1 h' k)≠none;have N:∀(O:Nat),t.place[O]?=-j->es[O]?=-(h',v)->∃r,aC (t.put (aC t h m)).1 h' r=j/\∀k,k<r->atS (insertAt t.place (below t.place (aC t h m)) (aC t h m)) (insertAt es (below t.place (aC t h m)) (h,x)) (aC (t.put (aC t h m)).1 h' k)≠none:=λO a b=>by
   let(r,r1,r2):=T.way O j h' v a b;show⟨r,by rw[jo q];exact r1,λk U=>?_⟩;rw[z,jo q];split
   .simp
   .exact r2 k U
  rw[dh J]at hi;rw[dh L]at g;by_cases Y:i<below t.place (aC t h m)
  .rw[if_pos Y]at hi g;exact N i hi g
  .rw[if_neg Y]at hi g;by_cases c2:i=below t.place (aC t h m)
   .rw[if_pos c2]at hi g;cases hi;cases g;show⟨m,by rw[jo q],λk U=>?_⟩;rw[z,jo q];split
    .simp
    .exact h1 k U
   .rw[if_neg c2]at hi g;exact N _ hi g
end PySem.SetTable
namespace PySem.SetTable
def q9(t:SetTable)(i q:Nat)(d:Option Nat):∀k r j,k<=r->nth t k ⟨j,r,i,q,d⟩=⟨j+k,r-k,i,q,d⟩
 |0,_,_,_=>rfl
 |k+1,r,j,h=>by
  change nth t k (t.advance ⟨j,r,i,q,d⟩)=_;have g:t.advance ⟨j,r,i,q,d⟩=⟨j+1,r-1,i,q,d⟩:=by unfold advance;rw[if_pos (by change r > 0;lia)]
  rw[g,q9 t i q d k (r-1) (j+1) (!0)];rw[show j+1+k=j+(k+1) by lia,show r-1-k=r-(k+1) by lia]
def emp(g:Array (Option Nat))(j:Nat):Prop:=(g.getD j (-0)).isNone=true
def Ef(t:SetTable)(N:Array (Option Nat))(d:Option Nat):∀(L g i q:Nat),L<g->emp N (bs t.mask L i q)->
  ∃m,layClean.free t.mask N g i q=-(nth t m (dD t i q d)).j/\(∀k,k<m->¬emp N (nth t k (dD t i q d)).j)/\emp N (nth t m (dD t i q d)).j
 |L,0,_,_,h,_=>absurd h (Nat.not_lt_zero _)
 |L,g+1,i,q,hf,he=>by
  have hle:i<=runEnd t.mask i:=by unfold runEnd;split<;>lia
  unfold layClean.free;cases U:(List.range (runEnd t.mask i+1-i)).find? λk=>(N.getD (i+k) (-0)).isNone with
  |some k=>
   dsimp only;have hk:k<runEnd t.mask i+1-i:=List.mem_range.mp (List.mem_of_find?_eq_some U);have hn:=q9 t i q d k (runEnd t.mask i-i) i (!0);have e:nth t k (dD t i q d)=⟨i+k,runEnd t.mask i-i-k,i,q,d⟩:=hn;show⟨k,by rw[e],λk' hk'=>?_,?_⟩
   .have Y:nth t k' (dD t i q d)=⟨i+k',runEnd t.mask i-i-k',i,q,d⟩:=q9 t i q d k' (runEnd t.mask i-i) i (!0);rw[Y];intro z;let(_,as,bs',O,J):=List.find?_eq_some_iff_append.mp U;have hlen:as⁻¹=k:=by
     have h1:(List.range (runEnd t.mask i+1-i))[as⁻¹]?=-k:=by rw[O];simp
     have h2:=(List.getElem?_eq_some_iff.mp h1);let(h3,h4):=h2;simpa using h4
    have hm:k'∈as:=by
     have h1:(List.range (runEnd t.mask i+1-i))[k']?=-k':=by rw[List.getElem?_range (!0)]
     rw[O,List.getElem?_append_left (!0)]at h1;exact List.mem_of_getElem? h1
    have:=J k' hm;unfold emp at z;rw[z]at this;simp at this
   .rw[e];have:=List.find?_some U;exact this
  |none=>
   dsimp only;have J:=List.find?_eq_none.mp U;cases L with
   |zero=>
    have he':emp N i:=he;have:=J 0 (List.mem_range.mpr (!0));rw[Nat.add_zero]at this;exact absurd he' this
   |succ L=>
    let(m,m1,m2,m3):=Ef t N d L g ((i*5+1+q/32)%(t.mask+1)) (q/32) (!0) he;have hl:=DN t i q d;have step:∀k,nth t (runEnd t.mask i-i+1+k) (dD t i q d)=nth t k (dD t ((i*5+1+q/32)%(t.mask+1)) (q/32) d):=λk=>by
     rw[kZ,hl];rfl
    show⟨runEnd t.mask i-i+1+m,by rw[step];exact m1,λk hk=>?_,by rw[step];exact m3⟩;by_cases hc:k<runEnd t.mask i-i+1
    .have Y:nth t k (dD t i q d)=⟨i+k,runEnd t.mask i-i-k,i,q,d⟩:=q9 t i q d k (runEnd t.mask i-i) i (!0);rw[Y];exact J k (List.mem_range.mpr (!0))
    .have:=m2 (k-(runEnd t.mask i-i+1)) (!0);rw[<-step,show runEnd t.mask i-i+1+(k-(runEnd t.mask i-i+1))=k by lia]at this;exact this
def WW{t:SetTable}(L:full t.mask=true){g:Array (Option Nat)}(z:∃j,j<=t.mask/\emp g j)(h:Int):
  ∃m,layClean.free t.mask g (turns t.mask) (bits h%(t.mask+1)) (bits h)=-(aC t h m)/\(∀k,k<m->¬emp g (aC t h k))/\emp g (aC t h m):=by
 let(j,J,he):=z;have hi:bits h%(t.mask+1)<=t.mask:=Nat.le_of_lt_succ (Nat.mod_lt _ (Nat.succ_pos _));let(n,hn,q):=DW L (vK t.mask 13 _ (bits h) hi) J;have N:bits h/32 ^ 13=0:=Nat.div_eq_of_lt (Nat.lt_trans (DX h) (!1));show Ef t g none (13+n) (turns t.mask) _ _ (by unfold turns;lia) ?_;rw[jn,N,q];exact he
end PySem.SetTable
namespace PySem.SetTable
def lg{g:Array (Option Nat)}{j:Nat}:emp g j↔g[j]?=-none:=by
 unfold emp;rw[Array.getD_eq_getD_getElem?];cases h:g[j]? with
 |none=>simp
 |some o=>cases o<;>simp
structure Own(t:SetTable)(hs:List Int)(ow:Array (Option Nat)):Prop where
 size:ow.size=t.mask+1
 lt:∀j i:Nat,ow[j]?=some (some i)->i < hs.length
 uni:∀i j j':Nat,ow[j]?=some (some i)->ow[j']?=some (some i)->j=j'
 has:∀(i:Nat)(h:Int),hs[i]?=some h->∃r,ow[aC t h r]?=some (some i)/\∀k,k < r->¬emp ow (aC t h k)
 cnt:ow.toList.countP (·.isNone)+hs.length=t.mask+1
def Own.free{t:SetTable}{hs:List Int}{g:Array (Option Nat)}(O:Own t hs g)(hl:hs⁻¹<=t.mask):∃j,j<=t.mask/\emp g j:=by
 have h1:0<g.toList.countP (·.isNone):=by have:=O.cnt;lia
 let(a,J,hn):=List.countP_pos_iff.mp h1;let(j,L,e):=List.getElem_of_mem J;have q:j<g.size:=by simpa using L
 show⟨j,by have:=O.size;lia,lg.mpr ?_⟩;have z:g[j]=a:=by simpa using e
 rw[Array.getElem?_eq_getElem q,z];cases a with
 |none=>rfl
 |some x=>simp at hn
def Own.step{t:SetTable}{hs:List Int}{q:Array (Option Nat)}(O:Own t hs q){h:Int}{m:Nat}(h1:∀k,k<m->¬emp q (aC t h k))(h2:emp q (aC t h m)):
  Own t (hs++[h]) (q.setIfInBounds (aC t h m) (-hs⁻¹)):=by
 have N:=lg.mp h2;have hb:aC t h m<q.size:=(Array.getElem?_eq_some_iff.mp N).1;have g:∀i,(q.setIfInBounds (aC t h m) (-hs⁻¹))[i]?=if i=aC t h m then some (-hs⁻¹) else q[i]?:=λi=>by
  rw[Array.getElem?_setIfInBounds];by_cases c:aC t h m=i
  .subst c;simp[hb]
  .rw[if_neg c,if_neg (λz=>c z.symm)]
 have mono:∀j,¬emp q j->¬emp (q.setIfInBounds (aC t h m) (-hs⁻¹)) j:=λj hn he=>by
  have he:=lg.mp he;rw[g]at he;split at he
  .cases he
  .exact hn (lg.mpr he)
 show⟨by rw[Array.size_setIfInBounds];exact O.size,λj i L=>?_,λi j j' L J=>?_,λi h' hi=>?_,?_⟩
 .rw[g]at L;rw[List.length_append];split at L
  .cases L;simp
  .have:=O.lt _ _ L;lia
 .rw[g]at L J;split at L<;>split at J
  .rename_i a b;rw[a,b]
  .cases L;exact absurd (O.lt _ _ J) (Nat.lt_irrefl _)
  .cases J;exact absurd (O.lt _ _ L) (Nat.lt_irrefl _)
  .exact O.uni _ _ _ L J
 .by_cases c:i<hs⁻¹
  .rw[List.getElem?_append_left c]at hi;let(r,r1,r2):=O.has i h' hi;show⟨r,?_,λk Y=>mono _ (r2 k Y)⟩;rw[g,if_neg]
   .exact r1
   .intro z;rw[z,N]at r1;cases r1
  .rw[List.getElem?_append_right (!0)]at hi;have U:i-hs⁻¹=0:=by
    rcases Nat.eq_zero_or_pos (i-hs⁻¹) with z|z
    .exact z
    .rw[List.getElem?_eq_none (by simp;lia)]at hi;cases hi
   rw[U]at hi;have e:h=h':=by simpa using hi
   subst e;show⟨m,?_,λk Y=>mono _ (h1 k Y)⟩;rw[g,if_pos rfl,show i=hs⁻¹ by lia]
 .have hl:aC t h m<q.toList⁻¹:=by simpa using hb
  rw[Array.toList_setIfInBounds,List.countP_set hl,List.length_append];have e:q.toList[aC t h m]=none:=by have:=Array.getElem?_eq_some_iff.mp N;let(_,e):=this;simpa using e
  have hp:0<q.toList.countP (·.isNone):=List.countP_pos_iff.mpr ⟨none,by rw[<-e];exact List.getElem_mem _,rfl⟩;have:=O.cnt;rw[e];simp only[Option.isNone_none,Option.isNone_some,if_true,List.length_cons,List.length_nil,Bool.false_eq_true,if_false];lia
def lq(mask:Nat)(g:Option (Array (Option Nat)×Nat))(h:Int):Option (Array (Option Nat)×Nat):=do
 let(owner,k) <-g
 let j <-layClean.free mask owner (turns mask) (bits h%(mask+1)) (bits h)
 pure (owner.setIfInBounds j (-k),k+1)
def Eg{t:SetTable}(z:full t.mask=true):∀(rest hs:List Int)(q:Array (Option Nat)),Own t hs q->hs⁻¹+rest⁻¹<=t.mask->
  ∃g,rest.foldl (lq t.mask) (-(q,hs⁻¹))=-(g,(hs++rest)⁻¹)/\Own t (hs++rest) g
 |[],hs,q,O,_=>⟨q,!2,!!O⟩
 |h::rest,hs,q,O,hl=>by
  have L:hs⁻¹+(rest⁻¹+1)<=t.mask:=hl;let(m,N,U,Y):=WW z (O.free (!0)) h;let(g,e,J):=Eg z rest (hs++[h]) _ (O.step U Y) (by simp;lia);show⟨g,?_,!!J⟩;have s:lq t.mask (-(q,hs⁻¹)) h=-(q.setIfInBounds (aC t h m) (-hs⁻¹),(hs++[h])⁻¹):=by unfold lq;simp only[Option.bind_eq_bind,Option.bind_some,N];simp
  rw[List.foldl_cons,s,e];simp
def Own.nil(t:SetTable):Own t [] (Array.replicate (t.mask+1) none):=by
 show⟨!2,λj i h=>?_,λi j g h=>?_,λi h hi=>?_,?_⟩
 .rw[Array.getElem?_replicate]at h;split at h<;>cases h
 .rw[Array.getElem?_replicate]at h;split at h<;>cases h
 .simp at hi
 .rw[Array.toList_replicate,List.countP_replicate];simp
def WX{t:SetTable}(z:full t.mask=true)(hs:Array Int)(hl:hs.size<=t.mask):∃g,layClean t.mask hs=-g/\Own t hs.toList g:=by let(g,e,O):=Eg z hs.toList [] _ (Own.nil t) (!!hl);show⟨g,?_,!!O⟩;have q:layClean t.mask hs=(hs.foldl (lq t.mask) (-(Array.replicate (t.mask+1) none,0))).map (·.1):=rfl;rw[q,<-Array.foldl_toList];have e:hs.toList.foldl (lq t.mask) (-(Array.replicate (t.mask+1) none,0))=_:=e;rw[e];rfl
end PySem.SetTable
namespace PySem.SetTable
def Eh{q J:Type}{f:q->Option J}:∀(l:List q),(∀x,x∈l->(f x).isSome=true)->∀p:Nat,(l.filterMap f)[p]?=l[p]?.bind f
 |[],_,p=>by simp
 |a::l,h,p=>by
  let(b,g):=Option.isSome_iff_exists.mp (h a List.mem_cons_self);rw[List.filterMap_cons_some g];cases p with
  |zero=>simp[g]
  |succ p=>simpa using Eh l (λx z=>h x (List.mem_cons_of_mem _ z)) p
def Ei{g J:Type}{f:g->Option J}:∀(l:List g),(∀x,x∈l->(f x).isSome=true)->(l.filterMap f)⁻¹=l⁻¹
 |[],_=>rfl
 |a::l,h=>by
  let(b,q):=Option.isSome_iff_exists.mp (h a List.mem_cons_self);rw[List.filterMap_cons_some q,List.length_cons,List.length_cons,Ei l (λx z=>h x (List.mem_cons_of_mem _ z))]
def bD(mask:Nat)(g:Array (Option Nat)):List (Nat×Nat):=(List.range (mask+1)).filterMap λj=>(g.getD j none).map (j,·)
def lr{mask:Nat}{g:Array (Option Nat)}{j i:Nat}:(j,i)∈bD mask g↔j<=mask/\g[j]?=-(-i):=by
 unfold bD;rw[List.mem_filterMap];constructor
 .rintro ⟨a,q,e⟩;rw[Array.getD_eq_getD_getElem?]at e;cases h:g[a]? with
  |none=>rw[h]at e;simp at e
  |some o=>
   cases o with
   |none=>rw[h]at e;simp at e
   |some x=>
    rw[h]at e;simp at e;let(rfl,rfl):=e;exact⟨by have:=List.mem_range.mp q;lia,h⟩
 .rintro ⟨h1,h2⟩;show⟨j,List.mem_range.mpr (!0),?_⟩;rw[Array.getD_eq_getD_getElem?,h2];rfl
def Ej(mask:Nat)(q:Array (Option Nat)):dC ((bD mask q).map (·.1)).toArray:=by
 have hp:(bD mask q).Pairwise λa b=>a.1<b.1:=by
  unfold bD;show List.Pairwise.filterMap _ ?_ (List.pairwise_lt_range);intro a U O b z b' g;cases h:q.getD a none with
  |none=>rw[h]at z;simp at z
  |some x=>
   cases h':q.getD U none with
   |none=>rw[h']at g;simp at g
   |some x'=>
    rw[h]at z;rw[h']at g;simp at z g;rw[<-z,<-g];exact O
 intro i j x y J L N;rw[List.getElem?_toArray,List.getElem?_map]at J L;cases h1:(bD mask q)[i]? with
 |none=>rw[h1]at J;cases J
 |some a=>
  cases h2:(bD mask q)[j]? with
  |none=>rw[h2]at L;cases L
  |some b=>
   rw[h1]at J;rw[h2]at L;cases J;cases L;let(Y,e1):=List.getElem?_eq_some_iff.mp h1;let(b2,e2):=List.getElem?_eq_some_iff.mp h2;have:=(List.pairwise_iff_getElem.mp hp) i j Y b2 N;rw[e1,e2]at this;exact this
def WY{t:SetTable}{hs:List Int}{g:Array (Option Nat)}(O:Own t hs g):(bD t.mask g)⁻¹=hs⁻¹:=by
 have h1:(bD t.mask g)⁻¹=g.toList.countP (·.isSome):=by
  unfold bD;rw[List.length_filterMap_eq_countP];have e:g.toList=(List.range (t.mask+1)).map λj=>g.getD j none:=by
   show List.ext_getElem? λi=>?_;rw[List.getElem?_map,Array.getElem?_toList];by_cases c:i<t.mask+1
   .rw[List.getElem?_range c,Option.map_some,Array.getD_eq_getD_getElem?,Array.getElem?_eq_getElem (by rw[O.size];exact c)];rfl
   .rw[List.getElem?_eq_none (!!c),Array.getElem?_eq_none (by rw[O.size];lia)];rfl
  rw[e,List.countP_map];congr 1;funext j;simp
 have h2:=List.length_eq_countP_add_countP (p:=λo:Option Nat=>o.isSome) (l:=g.toList);have q:g.toList.countP (λo=>decide ¬o.isSome=true)=g.toList.countP (·.isNone):=by congr 1;funext o;cases o<;>rfl
 have z:g.toList⁻¹=t.mask+1:=by rw[Array.length_toList];exact O.size
 have:=O.cnt;rw[q]at h2;lia
def W0{mask finger moves:Nat}{led plain:Bool}{es:Array (Int×AN)}(hm:full mask=true)(hl:es.size<=mask):
  ∃t g,laid mask finger moves led plain (es.map (·.1))=-(t,g)/\t.mask=mask/\t.plain=plain/\t.led=led/\t.finger=finger/\(g.filterMap (es[·]?)).size=es.size/\Tab t (g.filterMap (es[·]?))/\
   (∀x,x∈(g.filterMap (es[·]?)).toList->x∈es.toList)/\(∀x,x∈es.toList->x∈(g.filterMap (es[·]?)).toList):=by
 have hm0:full (SetTable.mk mask #[] #[] finger led moves plain:SetTable).mask=true:=hm;let(z,e,O):=WX (t:={mask,place:=#[],dummies:=#[],finger,led,moves,plain}) hm0 (es.map (·.1)) (!!hl);have e:layClean mask (es.map (·.1))=-z:=e;show⟨{mask,place:=((bD mask z).map (·.1)).toArray,dummies:=#[],finger,led,moves,plain},((bD mask z).map (·.2)).toArray,?_,rfl,rfl,rfl,rfl,?_⟩
 .unfold laid;simp only[e,Option.bind_eq_bind,Option.bind_some];rfl
 have hlt:∀q,q∈bD mask z->(es[q.2]?).isSome=true:=λq L=>by
  let(_,h):=lr.mp L;have:=O.lt _ _ h;have hb:q.2<es.size:=by simpa using this
  rw[Array.getElem?_eq_getElem hb];rfl
 have ea:(((bD mask z).map (·.2)).toArray.filterMap (es[·]?))=((bD mask z).filterMap λq=>es[q.2]?).toArray:=by rw[List.filterMap_toArray,List.filterMap_map];rfl
 have eg:∀p:Nat,((bD mask z).filterMap λq=>es[q.2]?).toArray[p]?=(bD mask z)[p]?.bind λq=>es[q.2]?:=λp=>by
  rw[List.getElem?_toArray];exact Eh _ hlt p
 have J:(bD mask z)⁻¹=es.size:=by have:=WY O;simpa using this
 rw[ea];have U:((bD mask z).filterMap λq=>es[q.2]?).toArray.size=es.size:=by rw[List.size_toArray,Ei _ hlt,J]
 show⟨U,⟨Ej mask z,?_,rfl,hm,λi j hi=>?_,?_,λp j h v Y hv=>?_⟩,λx N=>?_,λx N=>?_⟩
 .change ((bD mask z).map (·.1)).toArray.size=_;rw[U,List.size_toArray,List.length_map,J]
 .have hi:((bD mask z).map (·.1)).toArray[i]?=-j:=hi;rw[List.getElem?_toArray]at hi;let(q,L,rfl):=List.mem_map.mp (List.mem_of_getElem? hi);exact(lr.mp L).1
 .change ((bD mask z).map (·.1)).toArray.size<=mask;rw[List.size_toArray,List.length_map,J];exact hl
 .have Y:((bD mask z).map (·.1)).toArray[p]?=-j:=Y;rw[List.getElem?_toArray,List.getElem?_map]at Y;rw[eg]at hv;cases L:(bD mask z)[p]? with
  |none=>rw[L]at Y;cases Y
  |some q=>
   rw[L]at Y hv;let(j0,i):=q;cases Y;have hv:es[i]?=-(h,v):=hv;have hin:=(lr.mp (List.mem_of_getElem? L)).2;have hh:(es.map (·.1)).toList[i]?=-h:=by rw[Array.getElem?_toList,Array.getElem?_map,hv];rfl
   let(r,r1,r2):=O.has i h hh;have pm:∀k,aC {mask,place:=((bD mask z).map (·.1)).toArray,dummies:=#[],finger,led,moves,plain} h k=aC {mask,place:=#[],dummies:=#[],finger,led,moves,plain} h k:=λk=>jo (t:={mask,place:=((bD mask z).map (·.1)).toArray,dummies:=#[],finger,led,moves,plain}) (t':={mask,place:=#[],dummies:=#[],finger,led,moves,plain}) rfl h k;show⟨r,by rw[pm];exact O.uni _ _ _ r1 hin,λk hk=>?_⟩;rw[pm];have hne:=r2 k hk;have hle:aC {mask,place:=#[],dummies:=#[],finger,led,moves,plain} h k<=mask:=vL _ h k;have hb:aC {mask,place:=#[],dummies:=#[],finger,led,moves,plain} h k<z.size:=by rw[O.size];exact Nat.lt_succ_of_le hle
   cases N:z[aC {mask,place:=#[],dummies:=#[],finger,led,moves,plain} h k]? with
   |none=>rw[Array.getElem?_eq_getElem hb]at N;cases N
   |some o=>
    cases o with
    |none=>exact absurd (lg.mpr N) hne
    |some i'=>
     have hmem:=lr.mpr ⟨hle,N⟩;let(p',hp',ep'):=List.getElem_of_mem hmem;rcases q8 (Ej mask z) (es:=((bD mask z).filterMap λq=>es[q.2]?).toArray) (by rw[U,List.size_toArray,List.length_map,J]) (aC {mask,place:=#[],dummies:=#[],finger,led,moves,plain} h k) with⟨_,e',_,_,h3⟩|⟨no,_⟩
     .change atS ((bD mask z).map (·.1)).toArray _ _≠none;rw[h3];simp
     .show absurd ?_ (no p');rw[List.getElem?_toArray,List.getElem?_map,List.getElem?_eq_getElem hp',ep'];rfl
 .rw[List.toList_toArray]at N;let(q,_,L):=List.mem_filterMap.mp N;exact Array.mem_toList_iff.mpr (Array.mem_of_getElem? L)
 .rw[List.toList_toArray];let(i,hi):=List.mem_iff_getElem?.mp N;rw[Array.getElem?_toList]at hi;have hh:(es.map (·.1)).toList[i]?=-x.1:=by rw[Array.getElem?_toList,Array.getElem?_map,hi];rfl
  let(r,r1,_):=O.has i x.1 hh;exact List.mem_filterMap.mpr ⟨(_,i),lr.mpr ⟨vL _ _ r,r1⟩,hi⟩
end PySem.SetTable
namespace PySem
open SetTable
def SetTable.Tab.fits{t:SetTable}{es:Array (Int×AN)}(T:Tab t es):t.fits es.size=true:=by simp only[SetTable.fits,SetTable.fill,T.dum,T.size,Bool.and_eq_true,beq_iff_eq,decide_eq_true_eq];have:=T.room;have:=T.size;exact⟨trivial,by simp;lia⟩
section
variable {prog:AK} {w:World} {A:AM} {E:AG} {s:AI} {a:AQ} {o:Obj} {es:Array (Int×AN)} {ep:Nat} {t:SetTable} {x:AN} {h:Int} {eqv:AN->Bool} {m:Nat}
theorem Ek(ho:s.heap.get? a=-o)(hd:o.data=.set es ep t)(T:Tab t es)(hg:t.gaveWay=false)
  (Y:∀(i:Nat)(y:AN),es[i]?=-(h,y)->∀{Q:Bool->AI->Prop},Q (eqv y) s->wpAny (model prog w) A (eqBool y x) Q E s)
  (L:∀{Q:Bool->AI->Prop},Q false s->wpAny (model prog w) A (searchCouldBeSeen x ((es.filter (·.1==h)).toList.map (·.2))) Q E s)
  (J:∀(i:Nat)(y:AN),es[i]?=-(h,y)->∀{Q:Bool->AI->Prop},Q true s->wpAny (model prog w) A (isSame y y) Q E s)
  (h1:∀k,k<m->atS t.place es (aC t h k)≠none) (h2:atS t.place es (aC t h m)=none) (h3:m<10*turns t.mask):
  ∀(g k:Nat)(q:Option Probe),q.getD (t.probeStart h)=nth t k (t.probeStart h)->m-k<g->k<=m->
   (∀k' y,k'<k->atS t.place es (aC t h k')=-(h,y)->eqv y=false)->∀{Q:SetFound->AI->Prop},
   ((∃(i:Nat)(y:AN),es[i]?=-(h,y)/\eqv y=true)->Q (.there none) s)->((∀(i:Nat)(y:AN),es[i]?=-(h,y)->eqv y=false)->Q (.free (aC t h m) false) s)->
   wpAny (model prog w) A (setSearchFrom a x h true g q) Q E s
 |0,_,_,_,hf,_,_,_,_,_=>absurd hf (Nat.not_lt_zero _)
 |g+1,k,q,hst,hf,hk,hno,Q,hq1,hq2=>by
  unfold setSearchFrom;show wpAny_bind (wpAny_setState_of ho hd T.fits ?_);dsimp only;rw[hg,hst];simp only[Bool.false_eq_true,↓reduceIte];have hdm:(nth t k (t.probeStart h)).dummy=none:=by
   have key:∀(n:Nat)(p:Probe),(nth t n p).dummy=p.dummy:=by
    intro n;induction n with
    |zero=>intro p;rfl
    |succ n ih=>intro p;change(nth t n (t.advance p)).dummy=_;rw[ih,Ea]
   rw[key];rfl
  have step:∀n,(nth t n (nth t k (t.probeStart h))).j=aC t h (k+n):=λn=>by rw[<-kZ];rfl
  have pg:=Eb (t:=t) (es:=es) (hashAt:=λi=>(es[i]?.map (·.1)).getD 0) (λi e he=>by rw[he];rfl) T.dum T.rise T.size h (m-k) (10*turns t.mask) (nth t k (t.probeStart h)) (!0) hdm (λn hn=>by rw[step];exact h1 _ (!0)) (by rw[step,show k+(m-k)=m by lia];exact h2);rcases pg with⟨n,i,y,hn,hb,hp,he,O⟩|⟨hb,O⟩
  .have z:t.probe _ h (nth t k (t.probeStart h))=_:=O;erw [z];dsimp only;have fin:wpAny (model prog w) A (do
     let some (_,y):=es[i]? |unsupported "internal:set-entry"
     let equal <-holding [y] (eqBool y x)
     let(es',_,t') <-setState a
     if true&&equal then return .there none
     let some same:=t'.sameMemory t.moves t.mask|unsupported "set.changed-during-lookup:is-the-new-block-at-the-old-address"
     let still <-match(if same then t'.slot (nth t n (nth t k (t.probeStart h))).j else .empty) with
      |.live i'=>match es'[i']? with
       |some (_,y')=>do pure (if <-isSame y' y then some i' else none)
       |none=>pure none
      |_=>pure none
     match still with
     |none=>rule "set.search.anew";setSearchFrom a x h true g none
     |some i'=>if equal then return .there (-i') else setSearchFrom a x h true g (-(nth t (n+1) (nth t k (t.probeStart h))))) Q E s:=by
    rw[he];dsimp only;show wpAny_bind (wpAny_holding (Y i y he ?_));show wpAny_bind (wpAny_setState_of ho hd T.fits ?_);dsimp only;cases hv:eqv y with
    |true=>exact wpAny_pure (hq1 ⟨i,y,he,hv⟩)
    |false=>
     simp only[Bool.and_false,Bool.false_eq_true,↓reduceIte];have hsm:t.sameMemory t.moves t.mask=-true:=by unfold sameMemory;simp
     rw[hsm];dsimp only;rw[DY T.rise hp];simp only[↓reduceIte,he];show wpAny_bind (J i y he (wpAny_bind (wpAny_pure ?_)));simp only[↓reduceIte];show Ek ho hd T hg Y L J h1 h2 h3 g (k+n+1) _ (by change nth t (n+1) _=_;rw[<-kZ];rfl) (!0) (!0) (λk' y' hk' N=>?_) hq1 hq2;by_cases c1:k'<k
     .exact hno k' y' c1 N
     .by_cases c2:k'<k+n
      .have:=hb (k'-k) y' (!0);rw[step,show k+(k'-k)=k' by lia]at this;exact absurd N this
      .have e:k'=k+n:=by lia
       subst e;rw[<-step,gB T.rise hp,he]at N;cases N;exact hv
   cases hl:t.led with
   |true=>simp only[Bool.not_true,Bool.false_eq_true,↓reduceIte];exact fin
   |false=>
    simp only[Bool.not_false,↓reduceIte];show wpAny_bind (L ?_);simp only[Bool.false_eq_true,↓reduceIte];exact fin
  .have z:t.probe _ h (nth t k (t.probeStart h))=_:=O;erw [z];dsimp only;rw[step,show k+(m-k)=m by lia];show wpAny_pure (hq2 λi y he=>?_);have hi:i<t.place.size:=by rw[T.size];exact(Array.getElem?_eq_some_iff.mp he).1
   let(r,r1,r2):=T.way i _ h y (Array.getElem?_eq_getElem hi) he;have hr:r<m:=by
    rcases Nat.lt_trichotomy r m with c|c|c
    .exact c
    .subst c;rw[r1,gB T.rise (Array.getElem?_eq_getElem hi),he]at h2;cases h2
    .exact absurd h2 (r2 m c)
   have U:atS t.place es (aC t h r)=-(h,y):=by rw[r1,gB T.rise (Array.getElem?_eq_getElem hi),he]
   by_cases c:r<k
   .exact hno r y c U
   .have:=hb (r-k) y (!0);rw[step,show k+(r-k)=r by lia]at this;exact absurd U this
end
def SetTable.Tab.plain{t:SetTable}{es:Array (Int×AN)}(T:Tab t es)(b:Bool):Tab {t with plain:=b} es:=
 ⟨T.rise,T.size,T.dum,T.msk,T.lt,T.room,λi j h v hi z=>by
  let(r,J,L):=T.way i j h v hi z;have g:∀k,aC {t with plain:=b} h k=aC t h k:=λk=>jo (t:={t with plain:=b}) (t':=t) rfl h k;show⟨r,by rw[g];exact J,λk q=>?_⟩;rw[g];exact L k q⟩
def Fit(t:SetTable)(n:Nat):Prop:=(t.mask=7/\n<5)\/(t.mask=31/\n<19)\/(t.mask=127/\n<77)\/(t.mask=511/\n<307)
def Fit.way{t:SetTable}{n:Nat}(h:Fit t n):t.gaveWay=false:=by rcases h with⟨e,_⟩|⟨e,_⟩|⟨e,_⟩|⟨e,_⟩<;>(unfold gaveWay;rw[e];rfl)
def Fit.turns{t:SetTable}{n:Nat}(h:Fit t n):10*turns t.mask<100000:=by rcases h with⟨e,_⟩|⟨e,_⟩|⟨e,_⟩|⟨e,_⟩<;>(rw[e];decide)
def STab(g:Heap)(a:AQ)(es:Array (Int×AN)):Prop:=
 ∃ep t,g.get? a=-⟨.type "set",none,.set es ep t,#[]⟩/\Tab t es/\Fit t es.size
def W2{z:Type}{xs:Array z}{i:Nat}{x:z}(h:i<=xs.size)(e:z):e∈(insertAt xs i x).toList↔e∈xs.toList\/e=x:=by
 constructor
 .intro q;let(k,g):=List.mem_iff_getElem?.mp q;rw[Array.getElem?_toList,dh h]at g;split at g
  .exact .inl (Array.mem_toList_iff.mpr (Array.mem_of_getElem? g))
  .split at g
   .cases g;exact .inr rfl
   .exact .inl (Array.mem_toList_iff.mpr (Array.mem_of_getElem? g))
 .rintro (q|rfl)
  .let(k,g):=List.mem_iff_getElem?.mp q;rw[Array.getElem?_toList]at g;by_cases c:k<i
   .show List.mem_iff_getElem?.mpr ⟨k,?_⟩;rw[Array.getElem?_toList,dh h,if_pos c];exact g
   .show List.mem_iff_getElem?.mpr ⟨k+1,?_⟩;rw[Array.getElem?_toList,dh h,if_neg (!0),if_neg (!0)];exact g
  .show List.mem_iff_getElem?.mpr ⟨i,?_⟩;rw[Array.getElem?_toList,dh h,if_neg (!0),if_pos rfl]
section
variable {prog:AK} {w:World} {A:AM} {E:AG} {s:AI} {a:AQ} {es:Array (Int×AN)} {ep:Nat} {t:SetTable} {x:AN} {h:Int} {eqv:AN->Bool}
theorem El {h:Heap} {es es':Array (Int×AN)} {ep:Nat} {t t':SetTable} (g:h.get? a=-⟨.type "set",none,.set es ep t,#[]⟩):
  (h.update a (Obj.putSet es' t')).get? a=-⟨.type "set",none,.set es' (ep+1) t',#[]⟩:=by
 have:=Heap.get?_update_self (Obj.putSet es' t') g (by rw[putSet_of es' t' rfl];rfl);rw[putSet_of es' t' rfl]at this;exact this
def vM(es:Array (Int×AN))(laid:Option (SetTable×Array Nat)):Sem (Array (Int×AN)×SetTable):=do
 let some (t,order):=laid|unsupported "internal:set-table-without-room"
 let es':=order.filterMap (es[·]?)
 if es'.size != es.size then unsupported "internal:set-table-lost-an-element"
 pure (es',t)
theorem W3 {n:Nat} {M:Nat} (J:s.heap.get? a=-⟨.type "set",none,.set es ep t,#[]⟩) (T:Tab t es) (hM:sizeAbove n-1=M) (hz:¬sizeAbove n > sizeLine) (hm:full M=true) (hl:es.size<M) (hb:es.size<scanBound) {Q:Unit->AI->Prop}
  (hq:∀es' z t',es'.size=es.size->Tab t' es'->t'.mask=M->(∀e,e∈es'.toList↔e∈es.toList)->(s.heap.update a (Obj.putSet es' t')).get? a=-⟨.type "set",none,.set es' z t',#[]⟩->Q () {s with heap:=s.heap.update a (Obj.putSet es' t')}):
  wpAny (model prog w) A (setRelay a n) Q E s:=by
 let(t',g,O,U,_,_,_,q,N,m1,m2):=W0 (mask:=M) (finger:=t.finger) (moves:=t.movedTo M) (led:=t.led) (plain:=t.plain) (es:=es) hm (!0);change wpAny (model prog w) A (do
  let(es,_,t) <-setState a
  if SetTable.sizeAbove n > sizeLine then unsupported "set:memory"
  let(es,t) <-vM es (t.relaid (es.map (·.1)) n)
  storeSet a es t) Q E s
 show wpAny_bind (wpAny_setState_of J rfl T.fits ?_);dsimp only;rw[if_neg hz];have Y:t.relaid (es.map (·.1)) n=-(t',g):=by unfold relaid;rw[hM];exact O
 rw[Y];have L:vM es (-(t',g))=pure (g.filterMap (es[·]?),t'):=by unfold vM;simp[q]
 rw[L];show wpAny_bind (wpAny_pure ?_);show wpAny_storeSet_of J rfl ?_ (fits_of_scanBound (by rw[q];exact hb));exact hq _ _ _ q N U (λe=>⟨m1 e,m2 e⟩) (El J)
theorem W4(hx:x.scannable=false)(S:STab s.heap a es)(hsz:es.size<300)
  (heq:∀(i:Nat)(y:AN),es[i]?=-(h,y)->∀{Q:Bool->AI->Prop},Q (eqv y) s->wpAny (model prog w) A (eqBool y x) Q E s)
  (hseen:∀{Q:Bool->AI->Prop},Q false s->wpAny (model prog w) A (searchCouldBeSeen x ((es.filter (·.1==h)).toList.map (·.2))) Q E s)
  (hsame:∀(i:Nat)(y:AN),es[i]?=-(h,y)->∀{Q:Bool->AI->Prop},Q true s->wpAny (model prog w) A (isSame y y) Q E s)
  (hby:∀{Q:Bool->AI->Prop},(∀b,Q b s)->wpAny (model prog w) A (hashByValue 8 x) Q E s) {Q:Bool->AI->Prop}
  (q1:(∃(i:Nat)(y:AN),es[i]?=-(h,y)/\eqv y=true)->Q false s)
  (q2:(∀(i:Nat)(y:AN),es[i]?=-(h,y)->eqv y=false)->∀h' es',Heap.SameBut a s.heap h'->STab h' a es'->es'.size=es.size+1->(∀e,e∈es'.toList↔e∈es.toList\/e=(h,x))->Q true {s with heap:=h'}) (fuel:Nat):
  wpAny (model prog w) A (setAddHashedIn a x h (fuel+1)) Q E s:=by
 let(ep,t,ho,T,F):=S;let(m,m3,m1,m2):=T.first h;unfold setAddHashedIn;show wpAny_bind (wpAny_setState_of ho rfl T.fits ?_);have hbs:byScan x es=false:=by unfold byScan;rw[hx];rfl
 dsimp only;rw[hbs];simp only[Bool.false_eq_true,↓reduceIte];unfold setSearch;have ht:=F.turns;show wpAny_bind (Ek ho rfl T F.way heq hseen hsame m1 m2 m3 100000 0 none rfl (!0) (Nat.zero_le _) (λk' y hk=>absurd hk (Nat.not_lt_zero _)) (λz=>?_) λz=>?_)
 .exact wpAny_pure (q1 z)
 dsimp only;show wpAny_bind (wpAny_setState_of ho rfl T.fits ?_);dsimp only;have hroom:t.place.size+1<=t.mask:=by rw[T.size];rcases F with⟨e,l⟩|⟨e,l⟩|⟨e,l⟩|⟨e,l⟩<;>lia
 have T1:=T.put (x:=x) m1 m2 hroom;have hb':(t.put (aC t h m)).2<=es.size:=by let(_,_,hb):=kY T.rise (aC t h m);rw[<-T.size];exact hb
 have O:=λe=>W2 (x:=(h,x)) hb' e;have U:(insertAt es (t.put (aC t h m)).2 (h,x)).size=es.size+1:=qY hb';generalize hes1:insertAt es (t.put (aC t h m)).2 (h,x)=es1 at T1 O U ⊢;have J:(t.put (aC t h m)).1.mask=t.mask:=rfl;generalize ht1:(t.put (aC t h m)).1=t1 at T1 J ⊢;have Y:∀N:SetTable,Tab N es1->N.mask=t.mask->wpAny (model prog w) A (do
   storeSet a es1 N
   if !false&&N.tooFull then setRelay a (SetTable.grown (es.size+1))
   return true) Q E s:=by
  intro N T2 q;have hsb:es1.size<scanBound:=by change _<4096;lia
  show wpAny_bind (wpAny_storeSet_of ho rfl ?_ (fits_of_scanBound hsb));have g1:=El (es':=es1) (t':=N) ho;have sb1:=Heap.SameBut.update s.heap a (Obj.putSet es1 N);have g:N.fill=es1.size:=by unfold fill;rw[T2.dum,T2.size];simp
  have big:∀M n0,es1.size=n0->sizeAbove (grown n0)-1=M->¬sizeAbove (grown n0) > sizeLine->full M=true->n0<M->(∀t',t'.mask=M->Fit t' n0)->N.tooFull=true->
    wpAny (model prog w) A (do
     if !false&&N.tooFull then setRelay a (SetTable.grown (es.size+1))
     return true) Q E {s with heap:=s.heap.update a (Obj.putSet es1 N)}:=by
   intro M n0 hn hM hz hfull hlt hF htf;rw[htf,show es.size+1=n0 by lia];simp only[Bool.not_false,Bool.and_self,↓reduceIte];show wpAny_bind (W3 (M:=M) g1 T2 hM hz hfull (!0) hsb λes' ep' t' s1 T' hm' hme hg=>?_);exact wpAny_pure (q2 z _ es' (sb1.trans (Heap.SameBut.update _ a _)) ⟨ep',t',hg,T',by rw[s1,hn];exact hF t' hm'⟩ (!0) λe=>(hme e).trans (O e))
  have L:N.tooFull=false->Fit N es1.size->wpAny (model prog w) A (do
     if !false&&N.tooFull then setRelay a (SetTable.grown (es.size+1))
     return true) Q E {s with heap:=s.heap.update a (Obj.putSet es1 N)}:=by
   intro htf hF;rw[htf];simp only[Bool.not_false,Bool.and_false,Bool.false_eq_true,↓reduceIte];exact wpAny_pure (q2 z _ es1 sb1 ⟨_,N,g1,T2,hF⟩ U O)
  rcases F with⟨e,l⟩|⟨e,l⟩|⟨e,l⟩|⟨e,l⟩
  .by_cases c:es1.size<5
   .show L ?_ (.inl ⟨q.trans e,c⟩);unfold tooFull;rw[g,q,e];simp;lia
   .show big 31 5 (!0) (!1) (by rw[sizeLine_eq];decide) WK (!1) (λt' e'=>.inr (.inl ⟨e',!1⟩)) ?_;unfold tooFull;rw[g,q,e];simp;lia
  .by_cases c:es1.size<19
   .show L ?_ (.inr (.inl ⟨q.trans e,c⟩));unfold tooFull;rw[g,q,e];simp;lia
   .show big 127 19 (!0) (!1) (by rw[sizeLine_eq];decide) WL (!1) (λt' e'=>.inr (.inr (.inl ⟨e',!1⟩))) ?_;unfold tooFull;rw[g,q,e];simp;lia
  .by_cases c:es1.size<77
   .show L ?_ (.inr (.inr (.inl ⟨q.trans e,c⟩)));unfold tooFull;rw[g,q,e];simp;lia
   .show big 511 77 (!0) (!1) (by rw[sizeLine_eq];decide) WM (!1) (λt' e'=>.inr (.inr (.inr ⟨e',!1⟩))) ?_;unfold tooFull;rw[g,q,e];simp;lia
  .show L ?_ (.inr (.inr (.inr ⟨q.trans e,!0⟩)));unfold tooFull;rw[g,q,e];simp;lia
 cases hp:t1.plain with
 |true=>
  simp only[↓reduceIte];show wpAny_bind (hby λb=>?_);cases b with
  |true=>exact Y t1 T1 J
  |false=>exact Y {t1 with plain:=false} (T1.plain false) J
 |false=>
  simp only[Bool.false_eq_true,↓reduceIte];show wpAny_bind (wpAny_pure ?_);exact Y t1 T1 J
end
end PySem
namespace L2
open PySem PySem.Spec PyProof.Rows
section
variable {prog:AK} {w:World} {A:AM} {E:AG} {R:Result->AI->Prop} {I:AQ} {fp wr:List AQ} {GG:Array GenState->Array GenState->Prop} {n:Nat} {P:Nat->AN->Prop} {St:Nat->AI->Prop} {Ok:Nat->Heap->Prop}
theorem W5(W:WalksS prog w A.in1 I fp wr GG n P St)(S:AQ)(N:S∉fp)(keep:∀(i:Nat)(h h':Heap),(∀b o,b∉wr->h.get? b=-o->h'.get? b=-o)->Ok i h->Ok i h')
  (add:∀(i:Nat)(v:AN)(s:AI){E:AG}{Q:Bool->AI->Prop},i<n->P i v->Ok i s.heap->(∀(h':Heap)(b:Bool)(tk:Nat),s.toks<=tk->Heap.SameBut S s.heap h'->Ok (i+1) h'->Q b {s with heap:=h',toks:=tk})->wpAny (model prog w) A.in1 (setAdd S v) Q E s):
  ∀(j i:Nat)(s:AI),n-i=j->i<=n->St i s->Ok i s.heap->
   (∀s',Moved (S::wr) GG s s'->Ok n s'.heap->R (.ok (.ret .none)) s')->
   codeAny (model prog w) A (.builtin "set.update.loop" ⟨[.ref S,.ref I],[]⟩) R s:=by
 have hSw:S∉wr:=λh=>N (W.sub _ h);have sub:∀b∈wr,b∈S::wr:=λb q=>bS _ q;have g:∀{s s':AI}{i:Nat},Moved wr GG s s'->Ok i s.heap->Ok i s'.heap:=λm J=>keep _ _ _ (λb o q e=>m.heap b o q e) J;intro j;induction j with
 |zero=>
  intro i s hj hi st J hR;obtain rfl:i=n:=by lia
  show codeAny_builtin PyProof.Rows.F.entry_set_update_loop ?_;rw[Around.under_plainId gg _];change wpAny _ A.in1 (pyNext (.ref I) >>= _) _ _ s;show ab (W.done s _ _ st λs' m=>?_);change wpAny _ A.in1 (ret Value.none) _ _ s';exact aw (hR s' (m.mono sub) (g m J))
 |succ j ih=>
  intro i s hj hi st J hR;have z:i<n:=by lia
  show codeAny_builtin PyProof.Rows.F.entry_set_update_loop ?_;rw[Around.under_plainId gg _];change wpAny _ A.in1 (pyNext (.ref I) >>= _) _ _ s;show ab (W.item i s _ _ z st λv s' hP st' m=>?_);have U:=g m J;change wpAny _ A.in1 (holding [v] (setAdd S v) >>= _) _ _ s';show ab (de (add i v s' z hP U λh' b tk O sb Y=>?_));show aw ⟨plainId_quiet gg _,ih (i+1) _ (!0) z (W.frame _ s' _ _ st' O λb q o e=>?_) Y λs'' m'' L=>?_⟩
  .rw[sb.2 b (λh:b=S=>N (by rw[<-h];exact q))];exact e
  .show hR s'' (Moved.trans W.gtrans ((m.mono sub).then_heap O λb o q e=>?_) m'') L;rw[sb.2 b (λh:b=S=>q (by rw[h];exact bp))];exact e
end
section
variable {prog:AK} {w:World} {A:AM} {E:AG} {s:AI}
theorem W6{l:AQ}{g:Array AN}{Ok:Nat->Heap->Prop}{Q:AG}(hh:A.handled=none)(hl:s.heap.IsList l g)
  (start:∀h':Heap,(∀b o,b<(~~~s)->s.heap.get? b=-o->h'.get? b=-o)->h'.get? (~~~s)=-(dB w)->Ok 0 h')
  (keep:∀(i:Nat)(h h':Heap),(∀b o,b<=(~~~s)->h.get? b=-o->h'.get? b=-o)->Ok i h->Ok i h')
  (add:∀(i:Nat)(v:AN)(q:AI){E:AG}{Q:Bool->AI->Prop},i<g.size->g[i]?=-v->Ok i q.heap->(∀(h':Heap)(b:Bool)(tk:Nat),q.toks<=tk->Heap.SameBut (~~~s) q.heap h'->Ok (i+1) h'->Q b {q with heap:=h',toks:=tk})->wpAny (model prog w) A.in1.in1.in1 (setAdd (~~~s) v) Q E q)
  (h:∀(h':Heap)(tk:Nat),Ok g.size h'->(∀b o,b<(~~~s)->s.heap.get? b=-o->h'.get? b=-o)->Q (.ref (~~~s)) {s with heap:=h',toks:=tk}):
  wpAny (model prog w) A (call (.type "set") [.ref l]) Q E s:=by
 let(c,tl,hmro):=eJ.mro;have hmade:=eJ.made;have hsub:=eJ.sub;show wpAny_call (codeAny_of_tree ?_);change wpAny _ _ (callAny (.type "set") _) _ _ _;show aw ⟨Code.quiet_builtin _ (by ac_rfl),codeAny_builtin PySem.F.entry_type_call ?_⟩;rw[Around.under_plain (weight_type_call_type "set" [.ref l] []) rfl];have h1:=eJ.notType;have h2:=eJ.canCreate;have hct:=PySem.F.typeCall_set_1 (.ref l);repeat (any_goals (first|assumption|wp_step))
 show codeAny_mono (V3 (.ref l) (E:=E) (Q₁:=λobj q=>obj=.ref (~~~s)/\q={s with heap:=s.heap.push (dB w)}) ⟨rfl,rfl⟩) λr q hr=>?_;cases r with
 |error e=>exact hr
 |ok fl=>
  cases fl with
  |ret obj=>
   let(rfl,rfl):=hr;have hS:(s.heap.push (dB w)).get? (~~~s)=-(dB w):=aT _ rfl;have hT:Shared.TypeIs {s with heap:=s.heap.push (dB w)} (.ref (~~~s)) "set":=⟨_,hS,rfl⟩;have hli:=eJ.init.lookup;have hbi:=eJ.init.bind (.ref (~~~s));repeat (any_goals (first|assumption|wp_step))
   show codeAny_mono (codeAny_call_builtin (R:=wants (λr L=>r=.none/\∃h' tk,L={s with heap:=h',toks:=tk}/\Ok g.size h'/\
     (∀b o,b<(~~~s)->s.heap.get? b=-o->h'.get? b=-o)) E) eJ.init.plain PySem.F.entry_set_init (check_set_init_1 hT ?_)) λr₂ L z=>?_
   .let(ol,hol,hcl,nl,hdl):=hl;let(ocls,Y,odata,J):=ol;simp only at hcl hdl;subst hcl;subst hdl;have hol':(s.heap.push (dB w)).get? l=-{cls:=.type "list",dict:=Y,data:=.seq g nl,slots:=J}:=ag _ hol;have hsls:=PySem.F.sub_list_set;have hslf:=PySem.F.sub_list_frozenset;have hne:(Value.type "list"==Value.type "dict")=false:=by decide
    have hl1:(s.heap.push (dB w)).IsList l g:=⟨_,hol',rfl,nl,rfl⟩;unfold Builtin.«set.__init__» noKeywords Builtin.Frozenset.updateFrom;generalize hPI:pyIter=PI;unfold dB at hS;wp_walk
    subst hPI;show eT hl1 ?_;show ab (wpAny_runValue ?_);have hlS:l<(~~~s):=aE hol;have hh3:A.in1.in1.in1.handled=none:=by simp[hh]
    have hneI:l≠(s.heap.push (dB w)).objs.size:=by rw[cr];exact bv (d5 hlS)
    have hSf:(~~~s)∉[(s.heap.push (dB w)).objs.size,l]:=by rw[cr];simp only[bP,ah,cw,or_false,not_or];exact⟨bv (gT _),fo hlS⟩
    show W5 (Ok:=Ok) ((hG hh3 _ l hneI g).toS) (~~~s)
     hSf (λi h1 h2 k1=>keep i h1 h2 λb o hb e=>k1 b o (by
      have U:b≠(s.heap.push (dB w)).objs.size:=by rw[cr];exact bv (Nat.lt_succ_of_le hb)
      simpa using U) e) (λi v q=>add i v q) (g.size-0) 0 _ (!0) (cb _)
     ⟨⟨_,aT _ rfl,rfl,rfl⟩,(hl1.push _)⟩ ?hS0 ?hR
    case hS0=>
     have hget:=ag {cls:=.type "list_iterator",data:=.fields #[.ref l,.int 0 0]} hS;exact start _ (λb o hb e=>ag _ (ag _ e)) hget
    case hR=>
     intro s' hm O;let(h',g',d',tk',os'):=s';have eg:g'=s.gens:=hm.gens;have ed:d'=s.drawn:=hm.drawn;have eo:os'=s.os:=hm.os;subst eg;subst ed;subst eo;change wpAny _ _ _ _ _ _;show aw ?_;change wpAny _ _ (ret Value.none) _ _ _;show aw ⟨rfl,h',tk',rfl,O,λb o hb e=>?_⟩;have hb1:b≠(~~~s):=bv hb;have U:b≠(s.heap.push (dB w)).objs.size:=by rw[cr];exact bv (d5 hb)
     exact hm.heap b o (by simp only[bP,ah,cw,or_false,not_or];exact⟨hb1,U⟩) (ag _ (ag _ e))
   .cases r₂ with
    |error e=>exact z
    |ok N=>
     cases N with
     |ret r=>
      let(rfl,h',tk,rfl,O,hk'):=z;repeat (any_goals (first|assumption|wp_step))
      exact h _ _ O hk'
     |_=>exact z.elim
  |_=>exact hr.elim
end
end L2
namespace PySem
open SetTable
section
variable {prog:AK} {w:World} {K:Type} [DecidableEq K] {knd:KeyKind prog w K} {A:AM} {E:AG} {s:AI}
theorem W7{b:AQ}{Q:Bool->AI->Prop}(h:Q true s):wpAny (model prog w) A (isSame (.ref b) (.ref b)) Q E s:=by unfold isSame;simp only[beq_self_eq_true,↓reduceIte];exact wpAny_pure h
theorem W8(n:Nat){v:AN}(h:carriedByValue v=true):ofAClassStatement n v=pure false:=by
 cases v with
 |ref a=>simp[carriedByValue]at h
 |_=>first|rfl|simp[ofAClassStatement] | (unfold ofAClassStatement;rfl)
theorem Em{ks:List K}{a:AQ}{Q:Bool->AI->Prop}(L:IsTupleKey knd s.heap ks a)(h:Q false s):wpAny (model prog w) A (ofAClassStatement 8 (.ref a)) Q E s:=by
 have N:=L.typeIs;let(o,q,n,U,hc,O,hi):=L;unfold ofAClassStatement;show wpAny_bind (wpAny_typeOf N ?_);dsimp only;simp only[beq_self_eq_true,↓reduceIte];show wpAny_bind (wpAny_pure ?_);simp only[Bool.not_true,Bool.false_eq_true,if_false];show wpAny_bind (wpAny_seqItems U O ?_);show wpAny_bind ?_;change wpAny _ _ (forIn q _ _) _ _ s;rw[<-Array.forIn_toList];show wpAny_forIn_list _ (λrest r s'=>r.1=none/\s'=s/\∀v∈rest,carriedByValue v=true) _ ?_ ?_ _ _ ⟨rfl,rfl,hi.byValue⟩
 .rintro v rest r s' ⟨z,rfl,g⟩;rw[W8 _ (g v List.mem_cons_self)];show wpAny_bind (wpAny_pure ?_);simp only[Bool.false_eq_true,if_false];exact wpAny_pure ⟨rfl,rfl,λu J=>g u (List.mem_cons_of_mem _ J)⟩
 .rintro ⟨Y,r2⟩ s' ⟨z,rfl,_⟩;simp only at z;subst z;exact wpAny_pure h
theorem W9{ks:List K}{a:AQ}{l:AB}{Q:Bool->AI->Prop}(N:IsTupleKey knd s.heap ks a)(hl:∀y∈l,∃q b,y=.ref b/\IsTupleKey knd s.heap q b)(h:Q false s):
  wpAny (model prog w) A (searchCouldBeSeen (.ref a) l) Q E s:=by
 unfold searchCouldBeSeen;show wpAny_bind ?_;show wpAny_forIn_list _ (λrest r s'=>r.1=none/\s'=s/\∀v∈rest,∃q b,v=.ref b/\IsTupleKey knd s.heap q b) _ ?_ ?_ _ _ ⟨rfl,rfl,hl⟩
 .rintro v rest r s' ⟨J,rfl,g⟩;let(q,b,rfl,L):=g v List.mem_cons_self;have fin:r.1=none->(λrest (r:Option Bool×PUnit) s'=>r.1=none/\s'=s'/\∀v∈rest,∃q b,v=Value.ref b/\IsTupleKey knd s'.heap q b) rest r s':=λe=>⟨e,rfl,λu z=>g u (List.mem_cons_of_mem _ z)⟩;dsimp only;split
  .exact wpAny_pure ⟨rfl,rfl,λu z=>g u (List.mem_cons_of_mem _ z)⟩
  .show wpAny_bind (wpAny_eqIsQuiet_tuple N ?_);simp only[Bool.not_true,Bool.false_eq_true,if_false];show wpAny_bind (wpAny_eqIsQuiet_tuple L ?_);simp only[Bool.not_true,Bool.false_eq_true,if_false];show wpAny_bind (Em N ?_);simp only[Bool.false_eq_true,if_false];show wpAny_bind (Em L ?_);simp only[Bool.false_eq_true,if_false];exact wpAny_pure ⟨rfl,rfl,λu z=>g u (List.mem_cons_of_mem _ z)⟩
 .rintro ⟨O,U⟩ s' ⟨J,rfl,_⟩;simp only at J;subst J;exact wpAny_pure h
end
section
variable {prog:AK} {w:World} {A:AM} {E:AG} {s:AI}
theorem Xa{ks:List Int}{a:AQ}{Q:Bool->AI->Prop}(J:IsTupleKey (intKind prog w) s.heap ks a)(h:∀b,Q b s):wpAny (model prog w) A (hashByValue 8 (.ref a)) Q E s:=by
 have L:=J.typeIs;let(o,q,n,O,hc,N,hi):=J;unfold hashByValue;show wpAny_bind (wpAny_specialOf L F.slot_tuple_hash.lookup ?_);dsimp only;show wpAny_bind (wpAny_seqItems O N ?_);show wpAny_bind ?_;change wpAny _ _ (forIn q _ _) _ _ s;rw[<-Array.forIn_toList];show wpAny_forIn_list _ (λrest r s'=>s'=s/\∀v∈rest,hashByValue 7 v=pure true\/hashByValue 7 v=pure false) _ ?_ ?_ _ _ ⟨rfl,?_⟩
 .rintro v rest r s' ⟨rfl,g⟩;rcases g v List.mem_cons_self with e|e<;>rw[e]<;>show wpAny_bind (wpAny_pure ?_)
  .simp only[Bool.not_true,Bool.false_eq_true,if_false];exact wpAny_pure ⟨rfl,λu z=>g u (List.mem_cons_of_mem _ z)⟩
  .simp only[Bool.not_false,if_true];exact wpAny_pure (wpAny_pure (h _))
 .rintro ⟨Y,r2⟩ s' ⟨rfl,_⟩;cases Y with
  |none=>exact wpAny_pure (h _)
  |some b=>exact wpAny_pure (h _)
 .intro v U;have:=hi.byValue v U;cases v with
  |ref a=>simp[carriedByValue]at this
  |float b t=>exact(by unfold hashByValue;cases(Float64.hash? b).isSome<;>simp)
  |_=>first|exact .inl rfl|exact .inr rfl | (left;unfold hashByValue;rfl) | (right;unfold hashByValue;rfl)
end
end PySem
namespace L2
open PySem PySem.Spec PyProof.Rows PySem.SetTable
def eN(ks:List (List Int))(k:List Int):List (List Int):=if k∈ks then ks else ks++[k]
def cL(val:Nat->List Int)(i:Nat):List (List Int):=(List.range i).foldl (λks j=>eN ks (val j)) []
def rm(val:Nat->List Int)(i:Nat):cL val (i+1)=eN (cL val i) (val i):=by unfold cL;rw[List.range_succ,fN];rfl
def Eo(val:Nat->List Int):∀i,(cL val i)⁻¹<=i
 |0=>av _
 |i+1=>by
  rw[rm];have:=Eo val i;unfold eN;split
  .omega
  .rw[am];simp;lia
def SetT(prog:AK)(w:World)(h:Heap)(S n:Nat)(adr:Nat->AQ)(val:Nat->List Int)(i:Nat):Prop:=
 (∀j,j<n->adr j<S/\IsTupleKey (intKind prog w) h (val j) (adr j))/\∃es,STab h S es/\es.size=(cL val i)⁻¹/\
  (∀e∈es.toList,∃j,j<n/\val j∈cL val i/\e=(tupleKeyHash (intKind prog w) (val j),.ref (adr j)))/\
  (∀k∈cL val i,∃j,j<n/\val j=k/\(tupleKeyHash (intKind prog w) k,Value.ref (adr j))∈es.toList)
section
variable {prog:AK} {w:World} {A:AM} {E:AG} {s:AI} {S n:Nat} {adr:Nat->AQ} {val:Nat->List Int}
theorem vN{h h':Heap}{ks:List Int}{a:AQ}(x:IsTupleKey (intKind prog w) h ks a)(k:∀o,h.get? a=-o->h'.get? a=-o):IsTupleKey (intKind prog w) h' ks a:=by let(o,g,m,q,r):=x;exact⟨o,g,m,k o q,r⟩
theorem SetT.keep{i:Nat}{h h':Heap}(z:SetT prog w h S n adr val i)(k:∀b o,b<=S->h.get? b=-o->h'.get? b=-o):SetT prog w h' S n adr val i:=by let(q,es,(ep,t,J,r),L):=z;exact⟨λj g=>⟨(q j g).1,vN (q j g).2 λo e=>k _ o (gE (q j g).1) e⟩,es,⟨ep,t,k S _ (av _) J,r⟩,L⟩
open Classical in
theorem SetT.add{i:Nat}(hu:A.units<cLine)(hi:i<n)(hn:n<=200)(hT:SetT prog w s.heap S n adr val i){Q:Bool->AI->Prop}
  (h:∀(h':Heap)(b:Bool)(tk:Nat),s.toks<=tk->Heap.SameBut S s.heap h'->SetT prog w h' S n adr val (i+1)->Q b {s with heap:=h',toks:=tk}):
  wpAny (model prog w) A (setAdd S (.ref (adr i))) Q E s:=by
 let(J,es,hS,hz,O,hin):=hT;unfold setAdd;show de (ab (wpAny_pyHash_tuple hu (J i hi).2 ?_));unfold setAddHashed;show de ?_;have hlen:=Eo val i;let eqv:AN->Bool:=λy=>decide (∃j,j<n/\y=.ref (adr j)/\val j=val i)
 have he:∀j,j<n->eqv (.ref (adr j))=decide (val j=val i):=λj g=>by
  change decide (∃j',j'<n/\Value.ref (adr j)=.ref (adr j')/\val j'=val i)=_;rw[decide_eq_decide];constructor
  .rintro ⟨j',hj',e,e'⟩;have e:adr j=adr j':=Value.ref.inj e;have:=(J j' hj').2;rw[<-e]at this;rw[(J j g).2.inj this];exact e'
  .intro e;exact⟨j,g,rfl,e⟩
 have Y:∀(N:Nat)(y:AN),es[N]?=-(tupleKeyHash (intKind prog w) (val i),y)->∃j,j<n/\y=.ref (adr j)/\val j∈cL val i:=λN y U=>by
  let(j,g,q,e):=O _ (Array.mem_toList_iff.mpr (Array.mem_of_getElem? U));exact⟨j,g,(Prod.mk.inj e).2,q⟩
 change wpAny (model prog w) A (setAddHashedIn S (.ref (adr i)) (tupleKeyHash (intKind prog w) (val i)) (99999+1)) Q E {s with toks:=s.toks+((val i)⁻¹+1)};show W4 (s:={s with toks:=s.toks+((val i)⁻¹+1)}) (eqv:=eqv) (es:=es) rfl hS (!0) (λN y U Q L=>?_) (λL=>?_) (λN y U Q L=>?_) (λL=>Xa (J i hi).2 L) (λz=>?_) (λz h' es' sb hS' hz' hm'=>?_) _
 .let(j,g,rfl,_):=Y N y U;show wpAny_eqBool_tuple hu (J j g).2 (J i hi).2 ?_;rw[he j g]at L;by_cases c:val j=val i
  .rw[b9 c]at L ⊢;exact L
  .rw[bX c]at L ⊢;exact L
 .show W9 (J i hi).2 (λy U=>?_) L;let(e,q,rfl):=bi.mp U;rw[Array.toList_filter]at q;let(j,g,_,rfl):=O e (fv.mp q).1;exact⟨val j,adr j,rfl,(J j g).2⟩
 .let(j,g,rfl,_):=Y N y U;exact W7 L
 .let(N,y,U,hv):=z;let(j,g,rfl,q):=Y N y U;rw[he j g]at hv;have hv:=dv hv;rw[hv]at q;have e:cL val (i+1)=cL val i:=by rw[rm];unfold eN;rw[if_pos q]
  exact h s.heap false _ (dk _ _) (Heap.SameBut.refl S s.heap) ⟨J,es,hS,by rw[e];exact hz,by rw[e];exact O,by rw[e];exact hin⟩
 .have hnin:val i∉cL val i:=λq=>by
   let(j,g,e,hmem):=hin _ q;let(N,hi'):=List.mem_iff_getElem?.mp hmem;rw[eI]at hi';have:=z N _ hi';rw[he j g,decide_eq_false_iff_not]at this;exact this e
  have e:cL val (i+1)=cL val i++[val i]:=by rw[rm];unfold eN;rw[if_neg hnin]
  show h h' true _ (dk _ _) sb ⟨λj g=>⟨(J j g).1,vN (J j g).2 λo eo=>?_⟩,es',hS',by rw[e,am,hz',hz];rfl,λx hx=>?_,λk hk=>?_⟩
  .rw[sb.2 _ (bv (J j g).1)];exact eo
  .rw[e];rcases(hm' x).mp hx with hx|rfl
   .let(j,g,q,rfl):=O x hx;exact⟨j,g,ce _ q,rfl⟩
   .exact ⟨i,hi,ay _ (ah.mpr rfl),rfl⟩
  .rw[e]at hk;rcases a9.mp hk with hk|hk
   .let(j,g,ej,q):=hin k hk;exact⟨j,g,ej,(hm' _).mpr (.inl q)⟩
   .rw[ah.mp hk];exact⟨i,hi,rfl,(hm' _).mpr (.inr rfl)⟩
end
section
variable {prog:AK} {w:World} {A:AM} {E:AG} {s:AI}
theorem STab.empty{h:Heap}{S:AQ}(q:h.get? S=-(dB w)):STab h S #[]:=by
 show⟨0,.fresh 0 0 (!Dp w),q,⟨λi j x y g=>?_,rfl,rfl,WF,λi j hi=>?_,?_,λi j h v hi=>?_⟩,.inl ⟨rfl,!1⟩⟩
 .have g:(#[]:Array Nat)[i]?=-x:=g;simp at g
 .have hi:(#[]:Array Nat)[i]?=-j:=hi;simp at hi
 .exact cb _
 .have hi:(#[]:Array Nat)[i]?=-j:=hi;simp at hi
theorem Xb{l:AQ}{g:Array AN}{adr:Nat->AQ}{val:Nat->List Int}{Q:AG}(hh:A.handled=none)(hu:A.in1.in1.in1.units<cLine)(hl:s.heap.IsList l g)
  (hv:∀(i:Nat)(v:AN),g[i]?=-v->v=.ref (adr i)) (z:∀i,i<g.size->IsTupleKey (intKind prog w) s.heap (val i) (adr i)) (hb:g.size<=200)
  (h:∀(h':Heap)(N:Nat)(es:Array (Int×AN)),STab h' (~~~s) es->es.size=(cL val g.size)⁻¹->(∀b o,b<(~~~s)->s.heap.get? b=-o->h'.get? b=-o)->Q (.ref (~~~s)) {s with heap:=h',toks:=N}):
  wpAny (model prog w) A (call (.type "set") [.ref l]) Q E s:=by
 show W6 (Ok:=λi hp=>SetT prog w hp (~~~s) g.size adr val i) hh hl (λh' k L=>?_) (λi h1 h2 k q=>SetT.keep q k) (λi v U E Q hi J q hq=>?_) (λh' N q k=>?_)
 .show ⟨λj O=>⟨?_,vN (z j O) λo e=>k _ o (aE e) e⟩,#[],STab.empty L,rfl,λe he=>by simp at he,λk z=>by simp[cL]at z⟩;let(o,_,_,L,_):=z j O;exact aE L
 .rw[hv i v J];exact SetT.add hu hi hb q hq
 .let(_,es,Y,hz,_):=q;exact h h' N es Y hz k
end
section
variable {prog:AK} {w:World} {A:AM} {E:AG} {s:AI} {d:AQ} {es:Array (Int×AN)}
theorem Xc {Q:AG} (x:STab s.heap d es) (g:(es.size:Int)<2 ^ 63) (q:Q (.int es.size (s.toks+1)) {s with toks:=s.toks+1+1}):wpAny (model prog w) A (call (.builtin "len") [.ref d]) Q E s:=by let(ep,t,z,T,_):=x;show Calls.call_function_entry kind_len plain_len entry_len (args_len1 _) ?_;exact wpAny_len_body_set z ⟨rfl,rfl,rfl⟩ rfl T.fits g q
theorem Ep{prog:AK}{w:World}:∀{ns:List Int}{g:AB},Vals (ns.map V.int) g->ItemsAre (intKind prog w) ns g
 |[],_,h=>by cases h;exact .nil
 |n::ns,_,h=>by
  cases h with
  |cons r t=>
   let(q,rfl):=r;exact .cons (intKind_is prog w n q) (Ep t)
end
section
variable {X:Cx}
def lu(l:AQ)(n:Nat):HO:=.ext λh=>∃es,STab h l es/\es.size=n
def gC(vs:List (List Int)):List (List Int):=vs.foldl eN []
theorem Xd(vs:List (List Int)):(gC vs)⁻¹<=vs⁻¹:=by
 have go:∀(vs g:List (List Int)),(vs.foldl eN g)⁻¹<=g⁻¹+vs⁻¹:=by
  intro vs;induction vs with
  |nil=>intro g;exact av _
  |cons v vs q=>
   intro g;have h1:=q (eN g v);have h2:(eN g v)⁻¹<=g⁻¹+1:=by
    unfold eN;split
    .omega
    .rw[am];exact av _
   rw[List.foldl_cons,c9];lia
 have:=go vs [];rwa [hJ,Nat.zero_add]at this
theorem Xe(vs:List (List Int)):cL (λi=>vs.getD i []) vs⁻¹=gC vs:=by
 have go:∀n,n<=vs⁻¹->cL (λi=>vs.getD i []) n=gC (vs.take n):=by
  intro n;induction n with
  |zero=>intro _;rfl
  |succ n q=>
   intro hn;have g:n<vs⁻¹:=hn;rw[rm,q (Nat.le_of_succ_le hn),List.take_succ_eq_append_getElem g];unfold gC;rw[fN];change _=eN _ vs[n];rw[b6,al g];rfl
 have:=go vs⁻¹ (av _);rw[eK]at this;exact this
theorem Xf (hc:X.calm=true) (hu:X.A.in1.in1.in1.units<cLine):bf X (.type "set") (λxs H Q=>∃(p:AQ) (as:List AQ) (vs:List (List Int)),xs=[.ref p]/\SqL X.K H p (as.map V.ref)/\as⁻¹=vs⁻¹/\
  (∀(i:Nat)(a:AQ)(v:List Int),as[i]?=-a->vs[i]?=-v->SqT X.K H a (v.map V.int))/\as⁻¹<=200/\∀l,H l=none->Q (.ref l) (upd H l (lu l (gC vs)⁻¹))):=by
 intro p9 s Y H xs us Q I r h;let(p,as,vs,rfl,hq,hl,ht,hz,q):=h;let(u,rfl,ru):=vals1 r;cases ru;let(g,rv,pl,_):=I.list hq;have hlen:g⁻¹=as⁻¹:=by rw[<-rv⁻¹];simp
 have hit:∀(i:Nat)(v:AN),g[i]?=-v->∃a,as[i]?=-a/\v=.ref a:=by
  have go:∀(as:List AQ)(g:AB),Vals (as.map V.ref) g->∀(i:Nat)(v:AN),g[i]?=-v->∃a,as[i]?=-a/\v=.ref a:=by
   intro as;induction as with
   |nil=>intro g h i v L;cases h;simp at L
   |cons a as ih=>
    intro g h i v L;cases h with
    |cons r t=>
     cases i with
     |zero=>cases r;cases L;exact⟨a,rfl,rfl⟩
     |succ i=>exact ih _ t i v L
  exact go as g rv
 show Xb (adr:=λi=>as.getD i 0) (val:=λi=>vs.getD i []) (I.ok.hd hc) hu pl.isList (λi v e=>?_) (λi hi=>?_) (by rw[ax];lia) λh' tk es hS he hk=>?_
 .rw[List.getElem?_toArray]at e;let(a,ha,rfl):=hit i v e;rw[b6,ha];rfl
 .rw[ax]at hi;have h1:i<as⁻¹:=by lia
  have h2:i<vs⁻¹:=by lia
  have e1:=al h1;have e2:=al h2;let(its',r',(o,ho,U,n,hd),_):=I.tuple (ht i _ _ e1 e2);rw[b6,b6,e1,e2];exact⟨o,its'.toArray,n,ho,U,hd,by simpa using Ep r'⟩
 .have ez:g.toArray.size=vs⁻¹:=by rw[ax];lia
  rw[ez,Xe]at he;show⟨.ref (~~~s),_,I.laid (t':=tk) (λb o e=>hk b o (aE e) e) (av _) (show ObjOk X.prog X.w _ _ _ (lu (~~~s) (gC vs)⁻¹) from⟨⟨es,hS,he⟩,?_,λh1 h2 z k=>?_⟩),rfl,q _ (I.hok.fresh (av _))⟩
  .let(ep,t,ho,_):=hS;exact⟨_,ho⟩
  .let(O,(N,t1,ho1,J),z1):=z;exact⟨O,⟨N,t1,k _ ho1,J⟩,z1⟩
theorem Xg:bf X (.builtin "len") (λxs H Q=>∃a n,xs=[V.ref a]/\H a=-(lu a n)/\n<=1000/\Q (.int n) H):=by intro p9 s Y H xs L Q I r h;let(a,n,rfl,z,hn,q):=h;let(u,rfl,J):=vals1 r;cases J;let(es,g,he):=(show ObjOk X.prog X.w H s.heap a (lu a n) from I.hok a _ z).1;exact Xc g (!0) ⟨.int n,H,(I.tok _).tok _,⟨_,by rw[he]⟩,q⟩
end
end L2
namespace HT
open PySem PySem.Spec PyProof.Rows Builtin
end HT
namespace L2
open PySem PySem.Spec PyProof.Rows
section
variable {X:Cx}
def ake(K:PF):R2:=λx y H Q=>∃(l:AQ)(k:Int)(xs:AR),x=.ref l/\y=.int k/\SqT K H l xs/\xs≠[]/\((k=1/\Q (.ref l) H)\/(k=0/\∀p,H p=none->Q (.ref p) (upd H p (.tup []))))
end
end L2
namespace RF
open PySem PySem.Spec PyProof.Rows L2
inductive D where
 |non |bl (b:Bool) |int (i:Int) |str (l:AA) |tup (xs:List D) |lst (xs:List D) |ref (a:AQ) |scr (ns:List Int) |exn (C:AL) |exa (C f:AL) (d:D) |obj (C f:AL) (q:AQ) |dct (ks:List (List Int)) (ds:List D)
 deriving Inhabited
abbrev AS:=List D
inductive DO where
 |lst (xs:AS)
 |dct (ks:List (List Int)) (ds:AS)
 deriving Inhabited
abbrev DH:=AQ->Option DO
abbrev AT:=D->DH->Prop
def aL(G:DH)(a:AQ)(o:DO):DH:=λb=>if b=a then some o else G b
def gD(G:DH)(a:AQ):DH:=λb=>if b=a then none else G b
def bc{G:DH}{a:AQ}{o:DO}:aL G a o a=-o:=if_pos rfl
def aY{G:DH}{a b:AQ}{o:DO}(h:b≠a):aL G a o b=G b:=if_neg h
def vO{G:DH}{a:AQ}:gD G a a=none:=if_pos rfl
def iG{G:DH}{a b:AQ}(h:b≠a):gD G a b=G b:=if_neg h
def Xh{G:DH}{a:AQ}{o u:DO}:aL (aL G a o) a u=aL G a u:=by funext b;unfold aL;split<;>rfl
def Er{G:DH}{a:AQ}{o:DO}(h:G a=none):gD (aL G a o) a=G:=by
 funext b;unfold aL gD;split
 .rename_i e;rw[e,h]
 .rename_i e;exact if_neg e
def lw{G:DH}{a b:AQ}{o:DO}(h:G a=-o)(h':G b=none):a≠b:=by intro e;subst e;rw[h]at h';cases h'
abbrev sz:Nat:=1000000
abbrev FZ:=AQ->Prop
def FzL(H:Hp)(F:FZ)(a:AQ)(vs:AR):Prop:=F a/\H a=-(.lst vs)
def FzL.sq{K:PF}{H:Hp}{F:FZ}{a:AQ}{vs:AR}(h:FzL H F a vs):SqL K H a vs:=.inl (.inl h.2)
structure TpT(K:PF)(H:Hp)(a:AQ)(vs:AR):Prop where
 it:H a=some (.tup vs)
def TpT.sq{K:PF}{H:Hp}{a:AQ}{vs:AR}(h:TpT K H a vs):SqT K H a vs:=.inl (.inl h.it)
def ScL(K:PF)(H:Hp)(a:AQ)(vs:AR):Prop:=
 (∃o,H a=-(.frz o (.lst vs)))\/
  ∃(o:Obj) (its:Array AN) (n:Nat),K.lookup a=-o/\o.cls=.type "list"/\o.dict=none/\o.data=.seq its n/\its.size<=sizeLine/\Vals vs its.toList
def ScL.sq{K:PF}{H:Hp}{a:AQ}{vs:AR}(h:ScL K H a vs):SqL K H a vs:=by
 rcases h with⟨o,h⟩|h
 .exact .inl (.inr ⟨o,h⟩)
 .exact .inr h
def bz(k:List Int):List Key:=k.map Sum.inl
def FzO(H:Hp)(F:FZ)(a c dx:AQ)(f:Str)(q:AQ):Prop:=F a/\H a=-(.ins c dx [(f,.ref q)])
mutual
def Rep(K:PF)(H:Hp)(F:FZ):D->V->Prop
 |.non,v=>v=.non
 |.bl b,v=>v=.bl b
 |.int i,v=>v=.int i
 |.str l,v=>v=.str (tx l)/\l⁻¹<=sz
 |.tup ds,v=>∃a vs,v=.ref a/\TpT K H a vs/\Reps K H F ds vs
 |.lst ds,v=>∃a vs,v=.ref a/\FzL H F a vs/\Reps K H F ds vs
 |.ref a,v=>v=.ref a
 |.scr ns,v=>∃a,v=.ref a/\ScL K H a (ns.map V.int)
 |.obj C f q,v=>∃a c dx,v=.ref a/\FzO H F a c dx (⇑f) q/\PySem.W.nsIn K mainGlobals (⇑C)=-(-(.ref c))
 |.exa C f d,v=>∃a c dx ob od,∃(y:AQ)(u:V),v=.ref a/\(H a=-(.frz ob (.own y))/\ob.cls=.ref c/\ob.dict=-dx/\PySem.W.notCls ob=true)/\H dx=-(.frz od (.xd [(⇑f,u)]))/\Rep K H F d u/\PySem.W.nsIn K mainGlobals (⇑C)=-(-(.ref c))
 |.dct ks ds,v=>∃(a:AQ)(kv:List (List Key×V)),v=.ref a/\(F a/\H a=-(.dT kv))/\kv.map (·.1)=ks.map bz/\Reps K H F ds (kv.map (·.2))
 |.exn C,v=>∃a c,v=.ref a/\XO H a c/\PySem.W.nsIn K mainGlobals (⇑C)=-(-(.ref c))
def Reps(K:PF)(H:Hp)(F:FZ):AS->AR->Prop
 |[],vs=>vs=[]
 |d::ds,vs=>∃v r,vs=v::r/\Rep K H F d v/\Reps K H F ds r
end
structure Ext(H:Hp)(F:FZ)(H':Hp)(F':FZ):Prop where
 sub:∀a,F a->F' a
 keep:∀a,F a->H' a=H a
 tups:∀a xs,H a=some (.tup xs)->H' a=some (.tup xs)
 frzs:∀a o u,H a=some (.frz o u)->H' a=some (.frz o u)
def Ext.refl(H:Hp)(F:FZ):Ext H F H F:=⟨λz h=>h,λz z=>rfl,λz z h=>h,λz z z h=>h⟩
def Ext.trans{H H1 H2:Hp}{F g q:FZ}(a:Ext H F H1 g)(b:Ext H1 g H2 q):Ext H F H2 q:=
 ⟨λc h=>b.sub c (a.sub c h),λc h=>(b.keep c (a.sub c h)).trans (a.keep c h),λc xs h=>b.tups c xs (a.tups c xs h),λc o u h=>b.frzs c o u (a.frzs c o u h)⟩
section
variable {K:PF} {H H':Hp} {F F':FZ}
theorem TpT.ext{a:AQ}{vs:AR}(x:Ext H F H' F')(h:TpT K H a vs):TpT K H' a vs:=⟨x.tups _ _ h.it⟩
theorem FzL.ext{a:AQ}{vs:AR}(x:Ext H F H' F')(h:FzL H F a vs):FzL H' F' a vs:=⟨x.sub _ h.1,(x.keep _ h.1).trans h.2⟩
theorem ScL.ext{a:AQ}{vs:AR}(x:Ext H F H' F')(h:ScL K H a vs):ScL K H' a vs:=by
 rcases h with⟨o,h⟩|h
 .exact .inl ⟨o,x.frzs _ _ _ h⟩
 .exact .inr h
mutual
theorem Rep.ext(x:Ext H F H' F'):∀{d:D}{v:V},Rep K H F d v->Rep K H' F' d v
 |.non,_,h=>h
 |.bl _,_,h=>h
 |.int _,_,h=>h
 |.str _,_,h=>h
 |.tup _,_,⟨a,vs,e,q,r⟩=>⟨a,vs,e,TpT.ext x q,Reps.ext x r⟩
 |.lst _,_,⟨a,vs,e,q,r⟩=>⟨a,vs,e,FzL.ext x q,Reps.ext x r⟩
 |.ref _,_,h=>h
 |.scr _,_,⟨a,e,q⟩=>⟨a,e,ScL.ext x q⟩
 |.obj _ _ _,_,⟨a,c,dx,e,⟨hf,hh⟩,n⟩=>⟨a,c,dx,e,⟨x.sub _ hf,(x.keep _ hf).trans hh⟩,n⟩
 |.dct _ _,_,⟨a,kv,e,⟨hf,hh⟩,hk,t⟩=>⟨a,kv,e,⟨x.sub _ hf,(x.keep _ hf).trans hh⟩,hk,Reps.ext x t⟩
 |.exn _,_,⟨a,c,e,⟨o,y,q,hc⟩,n⟩=>⟨a,c,e,⟨o,y,x.frzs _ _ _ q,hc⟩,n⟩
 |.exa _ _ _,_,⟨a,c,dx,ob,od,y,u,e,⟨q,h1,h2,h3⟩,qd,r,n⟩=>⟨a,c,dx,ob,od,y,u,e,⟨x.frzs _ _ _ q,h1,h2,h3⟩,x.frzs _ _ _ qd,Rep.ext x r,n⟩
theorem Reps.ext(x:Ext H F H' F'):∀{ds:AS}{vs:AR},Reps K H F ds vs->Reps K H' F' ds vs
 |[],_,h=>h
 |_::_,_,⟨v,r,e,h,t⟩=>⟨v,r,e,Rep.ext x h,Reps.ext x t⟩
end
theorem Reps.nil:Reps K H F [] []:=rfl
theorem Reps.cons{d:D}{v:V}{ds:AS}{vs:AR}(h:Rep K H F d v)(t:Reps K H F ds vs):Reps K H F (d::ds) (v::vs):=⟨v,vs,rfl,h,t⟩
theorem Reps.length:∀{ds:AS}{vs:AR},Reps K H F ds vs->ds⁻¹=vs⁻¹
 |[],_,h=>by cases h;rfl
 |_::_,_,⟨v,r,e,_,t⟩=>by subst e;simp[Reps.length t]
theorem Reps.append:∀{ds es:AS}{vs g:AR},Reps K H F ds vs->Reps K H F es g->Reps K H F (ds++es) (vs++g)
 |[],_,_,_,h,t=>by cases h;exact t
 |_::_,_,_,_,⟨v,r,e,h,t⟩,t'=>by subst e;exact⟨v,_,rfl,h,Reps.append t t'⟩
theorem Reps.get:∀{ds:AS}{vs:AR}{i:Nat}{d:D},Reps K H F ds vs->ds[i]?=-d->∃v,vs[i]?=-v/\Rep K H F d v
 |[],_,_,_,_,e=>by simp at e
 |_::_,_,0,_,⟨v,r,e,h,t⟩,q=>by subst e;simp at q;subst q;exact⟨v,rfl,h⟩
 |_::_,_,i+1,d,⟨v,r,e,h,t⟩,q=>by
  subst e;let(u,h1,h2):=Reps.get (i:=i) (d:=d) t (!!q);exact⟨u,!!h1,h2⟩
theorem Reps.set{d:D}{v:V}(r:Rep K H F d v):∀{ds:AS}{vs:AR}(i:Nat),Reps K H F ds vs->Reps K H F (ds.set i d) (vs.set i v)
 |[],_,_,h=>by cases h;exact rfl
 |_::_,_,0,⟨v',r',e,h,t⟩=>by subst e;exact⟨_,_,rfl,r,t⟩
 |_::_,_,i+1,⟨v',r',e,h,t⟩=>by subst e;exact⟨_,_,rfl,h,Reps.set r i t⟩
theorem Reps.take:∀{ds:AS}{vs:AR}(n:Nat),Reps K H F ds vs->Reps K H F (ds.take n) (vs.take n)
 |_,_,0,_=>rfl
 |[],_,_+1,h=>by cases h;exact rfl
 |_::_,_,n+1,⟨v',r',e,h,t⟩=>by subst e;exact⟨_,_,rfl,h,Reps.take n t⟩
theorem Reps.drop:∀{ds:AS}{vs:AR}(n:Nat),Reps K H F ds vs->Reps K H F (ds.drop n) (vs.drop n)
 |_,_,0,h=>h
 |[],_,_+1,h=>by cases h;exact rfl
 |_::_,_,n+1,⟨v',r',e,h,t⟩=>by subst e;exact Reps.drop n t
theorem Reps.cut{ds:AS}{vs:AR}(h:Reps K H F ds vs)(lo hi:Option Int):
  Reps K H F ((ds.drop (HT.sIx ds⁻¹ 0 lo)).take (HT.sIx ds⁻¹ ds⁻¹ hi-HT.sIx ds⁻¹ 0 lo)) (eF vs lo hi):=by
 unfold eF;rw[<-h⁻¹];exact(h.drop _).take _
theorem Reps.rep{ds:AS}{vs:AR}(h:Reps K H F ds vs):∀k:Nat,Reps K H F (List.replicate k ds).flatten (List.replicate k vs).flatten
 |0=>rfl
 |k+1=>by
  rw[fm,fm,hU,hU];exact Reps.append h (Reps.rep h k)
end
def Xi(K:PF)(H:Hp)(F:FZ)(a:AQ):DO->Prop
 |.lst ds=>∃vs,H a=-(.lst vs)/\Reps K H F ds vs
 |.dct ks ds=>∃kv:List (List Key×V),H a=-(.dT kv)/\kv.map (·.1)=ks.map bz/\Reps K H F ds (kv.map (·.2))
structure R(K:PF)(H:Hp)(F:FZ)(G:DH):Prop where
 fz:∀a,F a->G a=none/\∃o,H a=some o
 ob:∀a o,G a=some o->Xi K H F a o
section
variable {K:PF} {H:Hp} {F:FZ} {G:DH} {p:AQ} {vs:AR} {ds:AS}
theorem R.lst(r:R K H F G)(h:G p=-(.lst ds)):∃vs,H p=-(.lst vs)/\Reps K H F ds vs:=r.ob p _ h
theorem R.dct{ks:List (List Int)}(r:R K H F G)(h:G p=-(.dct ks ds)):∃kv:List (List Key×V),H p=-(.dT kv)/\kv.map (·.1)=ks.map bz/\Reps K H F ds (kv.map (·.2)):=r.ob p _ h
theorem R.free(r:R K H F G)(h:H p=none):G p=none:=by
 cases e:G p with
 |none=>rfl
 |some o=>
  cases o with
  |lst ds=>let(vs,q,_):=r.lst e;rw[h]at q;cases q
  |dct ks ds=>let(kv,q,_):=r.dct e;rw[h]at q;cases q
theorem R.notF(r:R K H F G)(h:H p=none):¬F p:=λf=>by
 let(_,vs,q):=r.fz p f;rw[h]at q;cases q
theorem di{o:HO}(r:R K H F G)(h:H p=none):Ext H F (upd H p o) F:=
 ⟨λz f=>f,λa f=>aK λe=>r.notF h (by rw[<-e];exact f),λa xs q=>by rw[aK (bH q h)];exact q,λa ob u q=>by rw[aK (bH q h)];exact q⟩
theorem R.new{o:HO}(r:R K H F G)(h:H p=none):R K (upd H p o) F G:=by
 have x:Ext H F (upd H p o) F:=di r h;show⟨λa f=>⟨(r.fz a f).1,?_⟩,λa u e=>?_⟩
 .let(_,vs,q):=r.fz a f;exact⟨vs,by rw[x.keep a f];exact q⟩
 .cases u with
  |lst ds=>
   let(vs,q,t):=r.lst e;exact⟨vs,by rw[aK (bH q h)];exact q,Reps.ext x t⟩
  |dct ks ds=>
   let(kv,q,g,t):=r.dct e;exact⟨kv,by rw[aK (bH q h)];exact q,g,Reps.ext x t⟩
theorem R.newL(r:R K H F G)(h:H p=none)(t:Reps K H F ds vs):R K (upd H p (.lst vs)) F (aL G p (.lst ds)):=by
 have x:Ext H F (upd H p (.lst vs)) F:=di r h;have q:R K (upd H p (.lst vs)) F G:=r.new h;show⟨λa f=>⟨?_,(q.fz a f).2⟩,λa u e=>?_⟩
 .rw[aY λe=>r.notF h (by rw[<-e];exact f)];exact(r.fz a f).1
 .by_cases g:a=p
  .subst g;rw[bc]at e;cases e;exact⟨vs,cU,Reps.ext x t⟩
  .rw[aY g]at e;exact q.ob a u e
theorem vP(r:R K H F G)(h:H p=none):Ext H F (upd H p (.lst vs)) (λa=>F a\/a=p):=
 ⟨λz f=>.inl f,(di r h).keep,(di r h).tups,(di r h).frzs⟩
theorem R.newF(r:R K H F G)(h:H p=none):R K (upd H p (.lst vs)) (λa=>F a\/a=p) G:=by
 have x:Ext H F (upd H p (.lst vs)) (λa=>F a\/a=p):=vP r h;show⟨λa f=>?_,λa u e=>?_⟩
 .rcases f with f|f
  .let(g,z,q):=r.fz a f;exact⟨g,z,by rw[x.keep a f];exact q⟩
  .subst f;exact⟨r.free h,_,cU⟩
 .cases u with
  |lst ds=>
   let(z,q,t):=r.lst e;exact⟨z,by rw[aK (bH q h)];exact q,Reps.ext x t⟩
  |dct ks ds=>
   let(kv,q,J,t):=r.dct e;exact⟨kv,by rw[aK (bH q h)];exact q,J,Reps.ext x t⟩
theorem Xj(r:R K H F G)(h:H p=none)(t:Reps K H F ds vs):Rep K (upd H p (.lst vs)) (λa=>F a\/a=p) (.lst ds) (.ref p):=
 ⟨p,vs,rfl,⟨.inr rfl,cU⟩,Reps.ext (vP r h) t⟩
theorem vQ(r:R K H F G)(h:H p=none)(t:Reps K H F ds vs):Rep K (upd H p (.tup vs)) F (.tup ds) (.ref p):=
 ⟨p,vs,rfl,⟨cU⟩,Reps.ext (di r h) t⟩
theorem iH{g:AS}{o:HO}(r:R K H F G)(h:G p=-(.lst g)):Ext H F (upd H p o) F:=by
 let(J,q,_):=r.lst h;show⟨λy f=>f,λa f=>aK λe=>?_,λa xs z=>?_,λa ob u z=>?_⟩
 .subst e;rw[(r.fz a f).1]at h;cases h
 .rw[aK (ji z q (by intro w;cases w))];exact z
 .rw[aK (ji z q (by intro w;cases w))];exact z
theorem R.write{J:AS}(r:R K H F G)(h:G p=-(.lst J))(t:Reps K H F ds vs):R K (upd H p (.lst vs)) F (aL G p (.lst ds)):=by
 have x:Ext H F (upd H p (.lst vs)) F:=iH r h;show⟨λa f=>⟨?_,?_⟩,λa u e=>?_⟩
 .rw[aY λe=>by subst e;rw[(r.fz a f).1]at h;cases h];exact(r.fz a f).1
 .let(_,g,q):=r.fz a f;exact⟨g,by rw[x.keep a f];exact q⟩
 .by_cases z:a=p
  .subst z;rw[bc]at e;cases e;exact⟨vs,cU,Reps.ext x t⟩
  .rw[aY z]at e;cases u with
   |lst L=>
    let(g,q,t'):=r.lst e;exact⟨g,by rw[aK z];exact q,Reps.ext x t'⟩
   |dct ks ds=>
    let(kv,q,N,t'):=r.dct e;exact⟨kv,by rw[aK z];exact q,N,Reps.ext x t'⟩
theorem vR{J:List (List Int)}{g:AS}{o:HO}(r:R K H F G)(h:G p=-(.dct J g)):Ext H F (upd H p o) F:=by
 let(L,q,_):=r.dct h;show⟨λy f=>f,λa f=>aK λe=>?_,λa xs z=>?_,λa ob u z=>?_⟩
 .subst e;rw[(r.fz a f).1]at h;cases h
 .rw[aK (ji z q (by intro w;cases w))];exact z
 .rw[aK (ji z q (by intro w;cases w))];exact z
theorem R.dctAt{ks:List (List Int)}{kv:List (List Key×V)}(r:R K H F G)(x:Ext H F (upd H p (.dT kv)) F)(U:¬F p)(O:kv.map (·.1)=ks.map bz)(t:Reps K H F ds (kv.map (·.2))):R K (upd H p (.dT kv)) F (aL G p (.dct ks ds)):=by
 show⟨λa f=>⟨?_,?_⟩,λa u e=>?_⟩
 .rw[aY λe=>U (by rw[<-e];exact f)];exact(r.fz a f).1
 .let(_,g,q):=r.fz a f;exact⟨g,by rw[x.keep a f];exact q⟩
 .by_cases z:a=p
  .subst z;rw[bc]at e;cases e;exact⟨kv,cU,O,Reps.ext x t⟩
  .rw[aY z]at e;cases u with
   |lst J=>
    let(g,q,t'):=r.lst e;exact⟨g,by rw[aK z];exact q,Reps.ext x t'⟩
   |dct Y J=>
    let(N,q,L,t'):=r.dct e;exact⟨N,by rw[aK z];exact q,L,Reps.ext x t'⟩
theorem R.notFD{q:List (List Int)}{g:AS}(r:R K H F G)(h:G p=-(.dct q g)):¬F p:=λf=>by rw[(r.fz p f).1]at h;cases h
theorem vU:Ext H F H (λa=>F a\/a=p):=⟨λz f=>.inl f,λz z=>rfl,λz z h=>h,λz z z h=>h⟩
theorem R.frz(r:R K H F G)(h:G p=-(.lst ds)):R K H (λa=>F a\/a=p) (gD G p):=by
 have x:Ext H F H (λa=>F a\/a=p):=vU;show⟨λa f=>?_,λa u e=>?_⟩
 .rcases f with f|f
  .let(g,z,q):=r.fz a f;show⟨?_,z,q⟩;by_cases J:a=p
   .rw[J];exact vO
   .rw[iG J];exact g
  .subst f;let(vs,q,_):=r.lst h;exact⟨vO,_,q⟩
 .by_cases J:a=p
  .rw[J,vO]at e;cases e
  .rw[iG J]at e;cases u with
   |lst L=>
    let(z,q,t'):=r.lst e;exact⟨z,q,Reps.ext x t'⟩
   |dct ks ds=>
    let(kv,q,N,t'):=r.dct e;exact⟨kv,q,N,Reps.ext x t'⟩
theorem Xk(r:R K H F G)(h:G p=-(.lst ds)):Rep K H (λa=>F a\/a=p) (.lst ds) (.ref p):=by let(vs,q,t):=r.lst h;exact⟨p,vs,rfl,⟨.inr rfl,q⟩,Reps.ext vU t⟩
end
def view(G:DH):D->D
 |.ref p=>match G p with|some (.lst ds)=>.lst ds|some (.dct ks ds)=>.dct ks ds|none=>.ref p
 |d=>d
def Rep.list{K:PF}{H:Hp}{F:FZ}{G:DH}{d:D}{v:V}{ds:AS}(r:R K H F G)(h:Rep K H F d v)(e:view G d=.lst ds):∃a vs,v=.ref a/\SqL K H a vs/\Reps K H F ds vs:=by
 cases d with
 |lst xs=>
  have z:D.lst xs=.lst ds:=e;cases z;let(a,vs,J,q,t):=h;exact⟨a,vs,J,q.sq,t⟩
 |ref p=>
  have L:v=.ref p:=h;unfold view at e;cases g:G p with
  |none=>simp only[g]at e;cases e
  |some o=>
   cases o with
   |lst xs=>
    simp only[g]at e;cases e;let(vs,q,t):=r.lst g;exact⟨p,vs,L,.inl (.inl q),t⟩
   |dct ks xs=>simp only[g]at e;cases e
 |_=>cases(show _=D.lst ds from e)
def gF{G:DH}{d:D}{ds:AS}(e:view G d=.tup ds):d=.tup ds:=by
 cases d with
 |ref p=>
  unfold view at e;cases g:G p with
  |none=>simp only[g]at e;cases e
  |some o=>cases o<;>(simp only[g]at e;cases e)
 |_=>exact e
def gG{G:DH}{d:D}{l:AA}(e:view G d=.str l):d=.str l:=by
 cases d with
 |ref p=>
  unfold view at e;cases g:G p with
  |none=>simp only[g]at e;cases e
  |some o=>cases o<;>(simp only[g]at e;cases e)
 |_=>exact e
def fU{G:DH}{d:D}{l:Int}(e:view G d=.int l):d=.int l:=by
 cases d with
 |ref p=>
  unfold view at e;cases g:G p with
  |none=>simp only[g]at e;cases e
  |some o=>cases o<;>(simp only[g]at e;cases e)
 |_=>exact e
def Xl{G:DH}{d:D}{l:Bool}(e:view G d=.bl l):d=.bl l:=by
 cases d with
 |ref p=>
  unfold view at e;cases g:G p with
  |none=>simp only[g]at e;cases e
  |some o=>cases o<;>(simp only[g]at e;cases e)
 |_=>exact e
abbrev ak:=List (Option D)
def EnvR(K:PF)(H:Hp)(F:FZ):ak->L2.St->Prop
 |[],X=>X=[]
 |o::Y,X=>∃u g,X=u::g/\(∀d,o=-d->∃v,u=-v/\Rep K H F d v)/\EnvR K H F Y g
section
variable {K:PF} {H H':Hp} {F F':FZ}
theorem EnvR.ext(x:Ext H F H' F'):∀{Y:ak}{X:L2.St},EnvR K H F Y X->EnvR K H' F' Y X
 |[],_,h=>h
 |_::_,_,⟨u,τ,e,h,t⟩=>⟨u,τ,e,λd q=>by let(v,g,r):=h d q;exact⟨v,g,Rep.ext x r⟩,EnvR.ext x t⟩
theorem EnvR.get:∀{Y:ak}{X:L2.St}{i:Nat}{d:D},EnvR K H F Y X->Y[i]?=-(-d)->∃v,X[i]?=-(-v)/\Rep K H F d v
 |[],_,_,_,_,e=>by simp at e
 |_::_,_,0,d,⟨u,τ,e,h,t⟩,q=>by
  subst e;let(v,g,r):=h d (!!q);exact⟨v,by simp[g],r⟩
 |_::_,_,i+1,d,⟨u,τ,e,h,t⟩,q=>by
  subst e;let(v,g,r):=EnvR.get (i:=i) (d:=d) t (!!q);exact⟨v,!!g,r⟩
theorem EnvR.set{d:D}{v:V}(r:Rep K H F d v):∀{Y:ak}{X:L2.St}(i:Nat),EnvR K H F Y X->EnvR K H F (Y.set i (-d)) (X.set i (-v))
 |[],_,_,h=>by cases h;exact rfl
 |_::_,_,0,⟨u,τ,e,h,t⟩=>by subst e;exact⟨_,_,rfl,λd' q=>⟨v,rfl,by cases q;exact r⟩,t⟩
 |_::_,_,i+1,⟨u,τ,e,h,t⟩=>by subst e;exact⟨_,_,rfl,h,EnvR.set r i t⟩
theorem EnvR.none:∀(n:Nat),EnvR K H F (List.replicate n Option.none) (List.replicate n Option.none)
 |0=>rfl
 |n+1=>⟨_,_,rfl,λd q=>(nomatch q),EnvR.none n⟩
theorem EnvR.start:∀{ds:AS}{vs:AR}(n:Nat),Reps K H F ds vs->EnvR K H F (ds.map some++List.replicate n Option.none) (vs.map some++List.replicate n Option.none)
 |[],_,n,h=>by cases h;exact EnvR.none n
 |d::ds,_,n,⟨v,r,e,h,t⟩=>by
  subst e;exact⟨_,_,rfl,λd' q=>⟨v,rfl,by cases q;exact h⟩,EnvR.start n t⟩
theorem EnvR.cap{Y:ak}{X:L2.St}(h:EnvR K H F Y X):∀(cap:List (Option Nat)),EnvR K H F (cap.map λo=>match o with|Option.none=>Option.none|some j=>(Y[j]?).join) (eG cap X)
 |[]=>rfl
 |Option.none::cap=>⟨_,_,rfl,λd q=>(nomatch q),EnvR.cap h cap⟩
 |some j::cap=>by
  show⟨_,_,rfl,λd q=>?_,EnvR.cap h cap⟩;have g:(Y[j]?).join=-d:=q;have z:Y[j]?=-(-d):=by
   cases e:Y[j]? with
   |none=>rw[e]at g;cases g
   |some o=>rw[e]at g;exact fb some g
  let(v,J,r):=h.get z;exact⟨v,by change(X[j]?).join=-v;rw[J];rfl,r⟩
end
mutual
def deq:D->D->Bool
 |.non,.non=>true
 |.bl a,.bl b=>a==b
 |.bl a,.int b=>(if a then 1 else 0)==b
 |.int a,.bl b=>a==(if b then 1 else 0)
 |.int a,.int b=>a==b
 |.str a,.str b=>a==b
 |.tup a,.tup b=>bN a b
 |.lst a,.lst b=>bN a b
 |_,_=>false
def bN:AS->AS->Bool
 |[],[]=>true
 |a::as,b::bs=>deq a b&&bN as bs
 |_,_=>false
end
mutual
/-- no tracked object within -/
def nr:D->Bool
 |.tup a=>nrs a
 |.lst a=>nrs a
 |.ref _=>false
 |.scr _=>false
 |.exn _=>false
 |.exa _ _ _=>false
 |.obj _ _ _=>false
 |.dct _ _=>false
 |_=>true
def nrs:AS->Bool
 |[]=>true
 |a::as=>nr a&&nrs as
end
mutual
def dpt:D->Nat
 |.tup a=>bh a+1
 |.lst a=>bh a+1
 |_=>0
def bh:AS->Nat
 |[]=>0
 |a::as=>max (dpt a) (bh as)
end
def truth:D->Option Bool
 |.non=>-false
 |.bl b=>-b
 |.int i=>-(i != 0)
 |.str l=>-(!l.isEmpty)
 |.tup l=>-(!l.isEmpty)
 |.lst l=>-(!l.isEmpty)
 |_=>none
def cut{g:Type}(xs:List g)(lo hi:Option Int):List g:=(xs.drop (HT.sIx xs⁻¹ 0 lo)).take (HT.sIx xs⁻¹ xs⁻¹ hi-HT.sIx xs⁻¹ 0 lo)
def reps{g:Type}(xs:List g)(n:Nat):List g:=(List.replicate n xs).flatten
def mk(fz:Bool)(xs:AS)(G:DH)(k:AT):Prop:=
 match fz with
 |true=>k (.lst xs) G
 |false=>∀p,G p=none->k (.ref p) (aL G p (.lst xs))
def jq(fz:Bool)(a b:D)(G:DH)(k:AT):Prop:=
 match a with
 |.int i=>(match b with |.int j=>k (.int (i+j)) G|_=>False)
 |.str x=>(match b with |.str y=>x⁻¹+y⁻¹<=sz/\k (.str (x++y)) G|_=>False)
 |.lst x=>(match b with |.lst y=>x⁻¹+y⁻¹<=sz/\mk fz (x++y) G k|_=>False)
 |.tup x=>(match b with |.tup y=>x⁻¹+y⁻¹<=sz/\k (.tup (x++y)) G|_=>False)
 |_=>False
def gH(a b:D)(p:Int->Int->Prop):Prop:=
 match a with
 |.int i=>(match b with |.int j=>p i j|_=>False)
 |_=>False
def jr(fz:Bool)(a b:D)(G:DH)(k:AT):Prop:=
 match b with
 |.int n=>(match a with |.int i=>CMul i n/\k (.int (i*n)) G |.str x=>0<=n/\n<=1000/\x⁻¹*n.toNat<=sz/\k (.str (reps x n.toNat)) G|_=>False)
 |_=>False
def dj(op:Operator)(fz:Bool)(a b:D)(G:DH)(k:AT):Prop:=
 match op with
 |.Add=>jq fz a b G k
 |.Sub=>gH a b λi j=>k (.int (i-j)) G
 |.Mult=>jr fz a b G k
 |.FloorDiv=>gH a b λi j=>(0<j/\j<1152921504606846976)/\k (.int (i/j)) G
 |.Mod=>gH a b λi j=>0<j/\k (.int (i%j)) G
 |.Pow=>gH a b λi j=>qL i j/\k (.int (i ^ j.toNat)) G
 |_=>False
def bj:AS->Option (List Int)
 |[]=>-[]
 |.int b::r=>match bj r with|some s=>-(b::s)|none=>none
 |_=>none
def kIx(ks:List (List Int))(n:List Int):Option Nat:=ks.findIdx? λk=>decide (k=n)
def cB(d:D)(k:List Int->Prop):Prop:=match d with |.tup l=>(match bj l with|some ns=>k ns|none=>False)|_=>False
def isE(d:D):Prop:=match d with |.lst []=>True|_=>False
def fV:AS->Option (List (List Int))
 |[]=>-[]
 |.tup l::r=>match bj l,fV r with|some k,-ks=>-(k::ks)|_,_=>none
 |_::_=>none
def vV(ks:List (List Int)):List (List Int):=ks.foldl (λg k=>if k∈g then g else g++[k]) []
def dcK(d:D)(k:List (List Int)->Prop):Prop:=match d with |.lst ds=>(match fV ds with|some ks=>ks⁻¹<sz/\k ks|none=>False)|_=>False
def dput(ks:List (List Int))(ds:AS)(n:List Int)(x:D):DO:=match kIx ks n with|some i=>.dct ks (ds.set i x)|none=>.dct (ks++[n]) (ds++[x])
def isIn(x:D)(ys:AS):Bool:=ys.any λy=>deq y x
def Es(a b:D):Prop:=nr a=true/\nr b=true/\min (dpt a) (dpt b)<=60
def inG(a:D)(l:AS):Prop:=nr a=true/\nrs l=true/\bh l<=60
def jt(a b:D)(k:Bool->Prop):Prop:=
 match a,b with
 |.int i,.int j=>k (decide (i<j))
 |.str i,.str j=>k (decide (i<j))
 |_,_=>False
def ju(a b:D)(k:Bool->Prop):Prop:=
 match a,b with
 |.int i,.int j=>k (decide (i<=j))
 |.str i,.str j=>k (!decide (j<i))
 |_,_=>False
def jw(a b:D)(k:Bool->Prop):Prop:=
 match a,b with
 |.int i,.int j=>k (decide (j<i))
 |_,_=>False
def jx(a b:D)(k:Bool->Prop):Prop:=
 match a,b with
 |.int i,.int j=>k (decide (j<=i))
 |_,_=>False
def vW(a:D):Bool:=match a with |.non=>true|_=>false
def jy(a b:D)(k:Bool->Prop):Prop:=
 match b with
 |.non=>k (vW a)
 |.bl b=>(match a with |.bl a=>k (a==b)|_=>False)
 |_=>False
def jz(a b:D)(k:Bool->Prop):Prop:=
 match b with
 |.non=>k (!vW a)
 |.bl b=>(match a with |.bl a=>k (a != b)|_=>False)
 |_=>False
def fW(a b:D)(k:Bool->Prop):Prop:=
 match b with
 |.str l=>(match a with |.str [c]=>k (l.contains c)|_=>False)
 |.lst l=>inG a l/\k (isIn a l)
 |.tup l=>inG a l/\k (isIn a l)
 |.dct ks _=>cB a λn=>k (kIx ks n).isSome
 |_=>False
def aZ(op:CmpOp)(a b:D)(k:Bool->Prop):Prop:=
 match op with
 |.Eq=>Es a b/\k (deq a b)
 |.NotEq=>Es a b/\k (!deq a b)
 |.Lt=>jt a b k
 |.LtE=>ju a b k
 |.Gt=>jw a b k
 |.GtE=>jx a b k
 |.Is=>jy a b k
 |.IsNot=>jz a b k
 |.In=>fW a b k
 |.NotIn=>fW a b λc=>k (!c)
def cV(a i:D)(k:D->Prop):Prop:=
 match a,i with
 |.lst ds,.int i=>match atI ds i with|some d=>k d|none=>False
 |.tup ds,.int i=>match atI ds i with|some d=>k d|none=>False
 |.str l,.int i=>match atI l i with|some c=>k (.str [c])|none=>False
 |.dct ks ds,y=>cB y λn=>match kIx ks n with|some i=>(match ds[i]? with|some d=>k d|none=>False)|none=>False
 |_,_=>False
def eO(fz:Bool)(a:D)(lo hi:Option Int)(G:DH)(k:AT):Prop:=
 match a with
 |.lst ds=>mk fz (cut ds lo hi) G k
 |.scr ns=>mk fz ((cut ns lo hi).map .int) G k
 |.tup ds=>k (.tup (cut ds lo hi)) G
 |.str l=>k (.str (cut l lo hi)) G
 |_=>False
def rn(fz:Bool)(a y:D)(G:DH)(k:AT):Prop:=
 match a with
 |.lst ds=>y=.int (Neg.neg 1)/\mk fz ds.reverse G k
 |.tup ds=>y=.int (Neg.neg 1)/\k (.tup ds.reverse) G
 |_=>False
def bools:AS->Option (List Bool)
 |[]=>-[]
 |.bl b::r=>match bools r with|some s=>-(b::s)|none=>none
 |_=>none
def bF:AS->Option (List (AA))
 |[]=>-[]
 |.str b::r=>match bF r with|some s=>-(b::s)|none=>none
 |_=>none
def eQ(s:AA):List (AA)->AA
 |[]=>[]
 |[x]=>x
 |x::y::r=>x++s++eQ s (y::r)
inductive Bf where
 |len |all |any |int |tuple |sum |min |max |str |abs |min2
inductive Lf where
 |list |sorted
inductive Mf where
 |join |append |extend |idxT |pop
def vX(as:AS)(k:D->Prop):Prop:=
 match as with
 |[.lst ds]=>k (.int ds⁻¹)
 |[.tup ds]=>k (.int ds⁻¹)
 |[.str l]=>k (.int l⁻¹)
 |[.dct ks _]=>k (.int ks⁻¹)
 |_=>False
def rA(as:AS)(k:D->Prop):Prop:=
 match as with
 |[.lst ds]=>match bools ds with|some bs=>k (.bl (bs.all id))|none=>False
 |_=>False
def rB(as:AS)(k:D->Prop):Prop:=
 match as with
 |[.lst ds]=>match bools ds with|some bs=>k (.bl (bs.any id))|none=>False
 |_=>False
def rD(as:AS)(k:D->Prop):Prop:=
 match as with
 |[.bl b]=>k (.int (if b then 1 else 0))
 |[.int i]=>k (.int i)
 |[.str l]=>match PySem.intText? (tx l) with|some n=>l⁻¹<=640/\k (.int n)|none=>False
 |_=>False
def vY(as:AS)(k:D->Prop):Prop:=
 match as with
 |[.lst ds]=>k (.tup ds)
 |[.tup ds]=>k (.tup ds)
 |_=>False
def vZ(as:AS)(k:D->Prop):Prop:=
 match as with
 |[.lst ds]=>match bj ds with|some ns=>k (.int ns.sum)|none=>False
 |_=>False
def lz(as:AS)(k:D->Prop):Prop:=
 match as with
 |[.lst ds]=>match bj ds with
  |some ns=>ns≠[]/\∀m,m∈ns->(∀a,a∈ns->m<=a)->k (.int m)
  |none=>match bF ds with
   |some ls=>∀m,m∈ls->(∀a,a∈ls->¬a<m)->k (.str m)
   |none=>False
 |_=>False
def Et(as:AS)(k:D->Prop):Prop:=match as with
 |[.int a]=>k (.int (if a<0 then Neg.neg a else a))
 |_=>False
def Eu(as:AS)(k:D->Prop):Prop:=match as with
 |[.int a,.int b]=>k (.int (if b<a then b else a))
 |_=>False
def Ew(as:AS)(k:D->Prop):Prop:=
 match as with
 |[.int a,.int b]=>k (.int (if b > a then b else a))
 |_=>False
def gJ(m:Nat):AA:=(vB m).cps.toList
def v6(as:AS)(k:D->Prop):Prop:=
 match as with
 |[.int i]=>(0<=i/\i<100)/\k (.str (gJ i.toNat))
 |_=>False
def opB:Bf->AS->(D->Prop)->Prop
 |.len=>vX
 |.all=>rA
 |.any=>rB
 |.int=>rD
 |.tuple=>vY
 |.sum=>vZ
 |.min=>lz
 |.max=>Ew
 |.abs=>Et
 |.min2=>Eu
 |.str=>v6
def v7(as:AS)(k:AS->Prop):Prop:=
 match as with
 |[.lst ds]=>k ds
 |[.tup ds]=>k ds
 |[.str l]=>k (l.map λc=>.str [c])
 |[.dct ks _]=>k (ks.map λn=>.tup (n.map .int))
 |_=>False
def lA(as:AS)(k:AS->Prop):Prop:=
 match as with
 |[.lst ds]=>match bF ds with|some ls=>ls⁻¹<64/\∀g:List (AA),g.Perm ls->PyProof.Rows.sortedS (g.map tx)=true->k (g.map D.str)|none=>False
 |[.tup ds]=>match bj ds with|some ns=>ns⁻¹<64/\∀q:List Int,q.Perm ns->q.Pairwise (·<=·)->k (q.map D.int)|none=>False
 |_=>False
def putN(ks:List (AA))(k:AA):List (AA):=if k∈ks then ks else ks++[k]
def rE(ls:List (AA)):List (AA):=ls.foldl putN []
def jA(d:D)(k:D->Prop):Prop:=
 match d with
 |.lst ds=>match fV ds with|some ks=>ks⁻¹<=200/\k (.int ((vV ks)⁻¹:Nat))|none=>False
 |_=>False
def lB(d:D)(k:AS->Prop):Prop:=
 match d with
 |.lst ds=>match bF ds with|some ls=>(ls⁻¹<=1000/\(rE ls)⁻¹<=64)/\∀g:List (AA),g.Perm (rE ls)->k (g.map D.str)|none=>False
 |_=>False
def cM:Lf->AS->(AS->Prop)->Prop
 |.list=>v7
 |.sorted=>lA
def isT(t:AL)(d:D):Option Bool:=
 match d with
 |.non=>-false
 |.bl _=>-(t=="bool"||t=="int")
 |.int _=>-(t=="int")
 |.str _=>-(t=="str")
 |.tup _=>-(t=="tuple")
 |.lst _=>-(t=="list")
 |_=>none
def fX (t:AL):Bool:=t=="bool"||t=="int"||t=="str"||t=="tuple"||t=="list"
def rF(o:D)(as:AS)(G:DH)(k:AT):Prop:=
 match o,as with
 |.str s,[.lst ds]=>match bF ds with|some ls=>((ls.map (·.length)).sum+ls⁻¹*s⁻¹<=sz)/\k (.str (eQ s ls)) G|none=>False
 |_,_=>False
def rG(o:D)(as:AS)(G:DH)(k:AT):Prop:=
 match o,as with
 |.ref p,[x]=>match G p with|some (.lst ds)=>ds⁻¹<sz/\k .non (aL G p (.lst (ds++[x])))|_=>False
 |_,_=>False
def rH(o:D)(as:AS)(G:DH)(k:AT):Prop:=
 match o,as with
 |.ref p,[.lst xs]=>match G p with|some (.lst ds)=>ds⁻¹+xs⁻¹<sz/\k .non (aL G p (.lst (ds++xs)))|_=>False
 |_,_=>False
def akf(o:D)(as:AS)(G:DH)(k:AT):Prop:=
 match o,as with
 |.ref p,[.int i,x]=>match G p with|some (.lst ds)=>ds⁻¹<sz/\0<=i/\i<=1000000/\k .non (aL G p (.lst (ds.take i.toNat++x::ds.drop i.toNat)))|_=>False
 |_,_=>False
def rJ(o:D)(as:AS)(G:DH)(k:AT):Prop:=
 match o,as with
 |.ref p,[.int i]=>match G p with|some (.lst ds)=>0<=i/\i<=1000000/\(match ds[i.toNat]? with|some y=>k y (aL G p (.lst (ds.eraseIdx i.toNat)))|none=>False)|_=>False
 |_,_=>False
def akg(o:D)(as:AS)(G:DH)(k:AT):Prop:=
 match o,as with
 |.lst ds,[.bl true]=>match bools ds with|some bs=>k (.int (bs.count true:Nat)) G|none=>False
 |_,_=>False
def akh(o:D)(as:AS)(G:DH)(k:AT):Prop:=
 match o,as with
 |.lst ds,[.bl true]=>match bools ds with|some bs=>true∈bs/\k (.int (bs.idxOf true:Nat)) G|none=>False
 |_,_=>False
def rK(o:D)(as:AS)(G:DH)(k:AT):Prop:=
 match o,as with
 |.tup ds,[.int i]=>match bj ds with|some ns=>i∈ns/\k (.int (ns.idxOf i:Nat)) G|none=>False
 |_,_=>False
def aki(o:D)(as:AS)(G:DH)(k:AT):Prop:=
 match o,as with
 |.str l,[.str [c]]=>k (.int (Neg.neg 1)) G/\∀i:Nat,l[i]?=-c->k (.int (i:Int)) G
 |_,_=>False
def akj(o:D)(as:AS)(G:DH)(k:AT):Prop:=
 match o,as with
 |.str l,[.str [c]]=>(c<256/\l⁻¹+2<=sz)/\k (.lst ((qT c l).map .str)) G
 |_,_=>False
def Xm:D->Prop
 |.tup _=>True
 |_=>False
def Xo:D->Prop
 |.lst _=>True
 |_=>False
def recv(m:Mf)(o:D)(G:DH):Prop:=
 match m,o with
 |.join,.str _=>True
 |.append,.ref p=>match G p with|some (.lst _)=>True|_=>False
 |.extend,.ref p=>match G p with|some (.lst _)=>True|_=>False
 |.pop,.ref p=>match G p with|some (.lst _)=>True|_=>False
 |.idxT,o=>Xm o
 |_,_=>False
def opM:Mf->D->AS->DH->(AT)->Prop
 |.join,o,as,G,k=>rF o (as.map (view G)) G k
 |.append,o,as,G,k=>rG o as G k
 |.extend,o,as,G,k=>rH o (as.map (view G)) G k
 |.pop,o,as,G,k=>rJ o as G k
 |.idxT,o,as,G,k=>rK o as G k
def gK (C g:AL):Bool:=C==g||g=="SieveError"||g=="ValueError"
def v8(C:AL)(xs:List AL)(d:D)(k:Bool->Prop):Prop:=match d with
 |.exn c=>xs.contains c=true/\k (gK c C)
 |.exa c _ _=>xs.contains c=true/\k (gK c C)
 |.non=>k false
 |_=>False
def okA(d:D):Prop:=match d with
 |.int i=>0<=i/\i<100
 |.str l=>l⁻¹<=1000
 |_=>False
def Ey(C f:AL)(d:D)(k:D->Prop):Prop:=match d with
 |.exa C' f' v=>C'=C/\f'=f/\k v
 |_=>False
mutual
inductive Tg where
 |nm (i:Nat)
 |tp (ts:Tgs)
inductive Tgs where
 |nil
 |cons (t:Tg) (r:Tgs)
end
mutual
inductive Ex where
 |var (i:Nat)
 |cst (d:D)
 |glb (x:AL) (d:D)
 |bin (op:Operator) (fz:Bool) (a b:Ex)
 |neg (a:Ex)
 |cmp (op:CmpOp) (a b:Ex)
 |chn (op op':CmpOp) (a b c:Ex)
 |not (a:Ex)
 |boo (isAnd:Bool) (e:Ex) (es:Exs)
 |ife (c:Tx) (a b:Ex)
 |tup (es:Exs)
 |lst (fz:Bool) (es:Exs)
 |idx (a i:Ex)
 |slc (fz:Bool) (a:Ex) (lo hi:Ox)
 |call (f:AL) (es:Exs)
 |bcl (f:Bf) (es:Exs)
 |lcl (fz:Bool) (f:Lf) (es:Exs)
 |isi (a:Ex) (t:AL)
 |rgl (fz:Bool) (a:Ex)
 |lns (a:Ex)
 |rgt (a:Ex)
 |clr (o:Ex)
 |mth (m:Mf) (o:Ex) (es:Exs)
 |comp (fz:Bool) (elt:Ex) (tg:Tg) (it:It') (cond:Tx) (N:List AL) (cap:List (Option Nat))
 |frz (a:Ex)
 |dnw
 |dp1 (a b:Ex)
inductive Exs where
 |nil
 |cons (e:Ex) (es:Exs)
/-- a test -/
inductive Tx where
 |val (e:Ex)
 |not (t:Tx)
 |boo (isAnd:Bool) (t:Tx) (ts:Txs)
 |yes
inductive Txs where
 |nil
 |cons (t:Tx) (ts:Txs)
/-- a bound of a slice -/
inductive Ox where
 |no
 |ob (e:Ex)
/-- what a loop walks -/
inductive It' where
 |seq (e:Ex)
 |rng (a:Ex)
 |enm (e:Ex)
 |zip (a b:Ex)
end
mutual
inductive Sx where
 |exp (e:Ex)
 |asg (t:Tg) (e:Ex)
 |set (o i e:Ex)
 |aug (i:Nat) (op:Operator) (e:Ex)
 |ret (e:Ex)
 |rtn
 |ite (c:Tx) (a b:Sxs)
 |for_ (t:Tg) (it:It') (body:Sxs)
 |whl (c:Tx) (body:Sxs)
 |pas
 |brk
 |cnt
 |nev
inductive Sxs where
 |nil
 |cons (s:Sx) (r:Sxs)
end
structure Xn where
 cls:AL
 fld:D
structure Spec where
 A:Type
 pre:AS->DH->A->Prop
 post:A->D->DH->Prop
 exc:A->Xn->DH->Prop
abbrev EK:=Xn->DH->Prop
def Spec.t(S:Spec)(ds:AS)(G:DH)(Q:AT)(E:EK):Prop:=
 ∃a,S.pre ds G a/\(∀d g,S.post a d g->Q d g)/\∀x g,S.exc a x g->E x g
def Spec.mono{S:Spec}{ds:AS}{G:DH}{Q J:AT}{E z:EK}(h:S.t ds G Q E)(N:∀d g,Q d g->J d g)(he:∀x g,E x g->z x g):S.t ds G J z:=by let(a,h1,h2,L):=h;exact⟨a,h1,λd g q=>N _ _ (h2 d g q),λx g q=>he _ _ (L x g q)⟩
abbrev aj:=AL->Spec
def akk(C f:AL)(d:D)(k:AQ->Prop):Prop:=match d with |.obj C' f' q=>C'=C/\f'=f/\k q|_=>False
def akl(C m:AL)(d:D):Prop:=match d with |.obj C' f' _=>C'=C/\(⇑m==⇑f')=false|_=>False
def fY(d:D)(G:DH)(k:AT):Prop:=match d with |.ref p=>(match G p with|some (.lst _)=>k .non (aL G p (.lst []))|_=>False)|_=>False
def akm(d:D)(G:DH)(k:AT):Prop:=match d with |.ref p=>(match G p with|some (.lst ds)=>(match ds[ds⁻¹-1]? with|some y=>k y (aL G p (.lst ds.dropLast))|none=>False)|_=>False)|_=>False
def akn(d:D)(k:AA->Prop):Prop:=match d with |.str l=>l⁻¹<=1000/\k l|_=>False
def ako(i:D)(l:AA)(k:AA->Prop):Prop:=match i with |.int n=>(match atI [48,49] n with|some c=>k (l.map λa=>if a=42 then c else a)|none=>False)|_=>False
def Xp(i j:Nat)(d:D)(Y:ak)(G:DH)(k:ak->DH->Prop):Prop:=
 match d with
 |.lst ds=>ds≠[]/\∀xs y,ds=xs++[y]->k ((Y.set i (-(.lst xs))).set j (-y)) G
 |_=>False
mutual
def bA:Tg->D->ak->DH->(ak->Prop)->Prop
 |.nm i,d,Y,_,k=>k (Y.set i (-d))
 |.tp ts,d,Y,G,k=>match d with |.tup ds=>bY ts ds Y G k |.lst ds=>bY ts ds Y G k|_=>False
def bY:Tgs->AS->ak->DH->(ak->Prop)->Prop
 |.nil,ds,Y,_,k=>match ds with |[]=>k Y|_=>False
 |.cons t r,ds,Y,G,k=>match ds with|d::ds=>bA t d Y G (λρ'=>bY r ds ρ' G k) |[]=>False
end
abbrev Hld:=List (AQ×AS)
def held:Hld->DH->Prop
 |[],_=>True
 | (a,ds)::r,G=>G a=-(.lst ds)/\held r G
def compLoop(step:D->ak->DH->(Option D->ak->DH->Prop)->Prop)(g:Hld):AS->AS->ak->DH->(AS->DH->Prop)->Prop
 |[],acc,_,G,k=>held g G/\acc⁻¹<=sz/\k acc G
 |d::ds,acc,Y,G,k=>held g G/\acc⁻¹<sz/\step d Y G (λo q z=>match o with|some y=>compLoop step g ds (acc++[y]) q z k|none=>compLoop step g ds acc q z k)
def v9(step:D->AS->ak->DH->(AS->ak->DH->Prop)->Prop)(g:Hld):AS->AS->ak->DH->(AS->ak->DH->Prop)->Prop
 |[],acc,Y,G,k=>held g G/\k acc Y G
 |d::ds,acc,Y,G,k=>held g G/\step d acc Y G (λq z J=>v9 step g ds q z J k)
def dY:Nat->AS->AS
 |_,[]=>[]
 |i,d::ds=>.tup [.int i,d]::dY (i+1) ds
def cC:AS->AS->AS
 |a::as,b::bs=>.tup [a,b]::cC as bs
 |_,_=>[]
def itemsOf(G:DH):D->Option (AS×Hld)
 |.lst ds=>-(ds,[])
 |.tup ds=>-(ds,[])
 |.str l=>-(l.map λc=>.str [c],[])
 |.ref p=>match G p with|some (.lst ds)=>-(ds,[(p,ds)])|_=>none
 |_=>none
def aX(lo:Int)(n:Nat):AS:=(List.range n).map λi=>.int (lo+(i:Nat))
def akp(lo:Int)(n:Nat):AS:=(List.range n).map λi=>.int (lo-(i:Nat))
def noE:EK:=λz z=>False
def jB:Exs->Prop->Prop
 |.nil,P=>P
 |.cons _ _,_=>False
mutual
def wpE(Z:aj):Ex->EK->ak->DH->(AT)->Prop
 |.var i,_,Y,G,k=>match Y[i]? with|some (-d)=>k d G|_=>False
 |.cst d,_,_,G,k=>k d G
 |.glb _ d,_,_,G,k=>k d G
 |.bin op fz a b,E,Y,G,k=>wpE Z a E Y G λx G1=>wpE Z b E Y G1 λy G2=>dj op fz (view G2 x) (view G2 y) G2 k
 |.neg a,E,Y,G,k=>wpE Z a E Y G λx G1=>match x with |.int i=>k (.int (Neg.neg i)) G1|_=>False
 |.cmp op a b,E,Y,G,k=>wpE Z a E Y G λx G1=>wpE Z b E Y G1 λy G2=>aZ op (view G2 x) (view G2 y) λc=>k (.bl c) G2
 |.chn op op' a b c,E,Y,G,k=>wpE Z a E Y G λx G1=>wpE Z b E Y G1 λy G2=>aZ op (view G2 x) (view G2 y) λt=>
   match t with
   |true=>wpE Z c E Y G2 λz G3=>aZ op' (view G3 y) (view G3 z) λt'=>k (.bl t') G3
   |false=>k (.bl false) G2
 |.not a,E,Y,G,k=>wpE Z a E Y G λx G1=>match truth (view G1 x) with|some b=>k (.bl (!b)) G1|none=>False
 |.boo isAnd e es,E,Y,G,k=>wpE Z e E Y G λd G1=>match d with |.bl b=>wpB Z es isAnd b E Y G1 k|_=>False
 |.ife c a b,E,Y,G,k=>wpT Z c E Y G λt G1=>match t with|true=>wpE Z a E Y G1 k|false=>wpE Z b E Y G1 k
 |.tup es,E,Y,G,k=>bC Z es E Y G λds G1=>ds⁻¹<=sz/\k (.tup ds) G1
 |.lst fz es,E,Y,G,k=>bC Z es E Y G λds G1=>ds⁻¹<=sz/\mk fz ds G1 k
 |.idx a i,E,Y,G,k=>wpE Z a E Y G λx G1=>wpE Z i E Y G1 λy G2=>cV (view G2 x) y λd=>k d G2
 |.slc fz a lo hi,E,Y,G,k=>wpE Z a E Y G λx G1=>wpO Z lo E Y G1 λl G2=>wpO Z hi E Y G2 λh G3=>eO fz (view G3 x) l h G3 k
 |.call f es,E,Y,G,k=>bC Z es E Y G λds G1=>(Z f).t ds G1 k E
 |.bcl f es,E,Y,G,k=>bC Z es E Y G λds G1=>opB f (ds.map (view G1)) λd=>k d G1
 |.lcl fz f es,E,Y,G,k=>bC Z es E Y G λds G1=>cM f (ds.map (view G1)) λxs=>mk fz xs G1 k
 |.isi a t,E,Y,G,k=>wpE Z a E Y G λx G1=>match isT t (view G1 x) with|some b=>k (.bl b) G1|none=>False
 |.lns a,E,Y,G,k=>wpE Z a E Y G λd G1=>jA (view G1 d) λx=>k x G1
 |.rgl fz a,E,Y,G,k=>wpE Z a E Y G λd G1=>match d with |.int n=>(0<=n/\n<=1000)/\mk fz (aX 0 n.toNat) G1 k|_=>False
 |.clr o,E,Y,G,k=>wpE Z o E Y G λd G1=>fY d G1 k
 |.rgt a,E,Y,G,k=>wpE Z a E Y G λd G1=>match d with |.int n=>(0<=n/\n<=1000)/\k (.tup (aX 0 n.toNat)) G1|_=>False
 |.mth m o es,E,Y,G,k=>wpE Z o E Y G λx G1=>recv m x G1/\bC Z es E Y G1 λds G2=>opM m x ds G2 k
 |.comp fz elt tg it cond _ cap,E,Y,G,k=>wpI Z it E Y G λitems g G1=>
   compLoop (λd ρ' G' k'=>bA tg d ρ' G' λρ1=>wpT Z cond noE ρ1 G' λb G2=>match b with|true=>wpE Z elt noE ρ1 G2 λy G3=>k' (-y) ρ1 G3|false=>k' none ρ1 G2)
    g items [] (cap.map λo=>match o with|none=>none|some j=>(Y[j]?).join) G1 λds G2=>mk fz ds G2 k
 |.frz a,E,Y,G,k=>wpE Z a E Y G λx G1=>match x with |.ref p=>(match G1 p with|some (.lst ds)=>k (.lst ds) (gD G1 p)|_=>False)|d=>k d G1
 |.dnw,_,_,G,k=>∀p,G p=none->k (.ref p) (aL G p (.dct [] []))
 |.dp1 a b,E,Y,G,k=>wpE Z a E Y G λx G1=>wpE Z b E Y G1 λy G2=>cB x λn=>∀p,G2 p=none->k (.ref p) (aL G2 p (.dct [n] [y]))
/-- a test -/
def wpT(Z:aj):Tx->EK->ak->DH->(Bool->DH->Prop)->Prop
 |.not a,E,Y,G,k=>wpT Z a E Y G λb G1=>k (!b) G1
 |.boo isAnd e es,E,Y,G,k=>wpT Z e E Y G λb G1=>fZ Z es isAnd b E Y G1 k
 |.yes,_,_,G,k=>k true G
 |.val x,E,Y,G,k=>wpE Z x E Y G λd G1=>match truth (view G1 d) with|some b=>k b G1|none=>False
def wpF(Z:aj):Exs->EK->ak->DH->(AA->DH->Prop)->Prop
 |.nil,_,_,G,k=>k [] G
 |.cons e es,E,Y,G,k=>wpE Z e E Y G λd G1=>match d with
  |.str l=>l⁻¹<=1000/\wpF Z es E Y G1 λx G2=>k (l++x) G2
  |.int i=>(0<=i/\i<100)/\wpF Z es E Y G1 λx G2=>k (gJ i.toNat++x) G2
  |_=>False
def bC(Z:aj):Exs->EK->ak->DH->(AS->DH->Prop)->Prop
 |.nil,_,_,G,k=>k [] G
 |.cons e es,E,Y,G,k=>wpE Z e E Y G λd G1=>bC Z es E Y G1 λds G2=>k (d::ds) G2
/-- and,or as values:truths,the last one anything;b:the one ahead -/
def wpB(Z:aj):Exs->Bool->Bool->EK->ak->DH->(AT)->Prop
 |.nil,_,b,_,_,G,k=>k (.bl b) G
 |.cons e es,isAnd,b,E,Y,G,k=>match isAnd,b with
  |true,false=>k (.bl false) G
  |false,true=>k (.bl true) G
  |_,_=>wpE Z e E Y G λd G1=>match d with |.bl b'=>wpB Z es isAnd b' E Y G1 k|d=>jB es (k d G1)
def fZ(Z:aj):Txs->Bool->Bool->EK->ak->DH->(Bool->DH->Prop)->Prop
 |.nil,_,b,_,_,G,k=>k b G
 |.cons e es,isAnd,b,E,Y,G,k=>match isAnd,b with
  |true,false=>k false G
  |false,true=>k true G
  |_,_=>wpT Z e E Y G λb' G1=>fZ Z es isAnd b' E Y G1 k
/-- a bound of a slice -/
def wpO(Z:aj):Ox->EK->ak->DH->(Option Int->DH->Prop)->Prop
 |.no,_,_,G,k=>k none G
 |.ob x,E,Y,G,k=>wpE Z x E Y G λd G1=>match d with |.int i=>k (-i) G1|_=>False
def wpI(Z:aj):It'->EK->ak->DH->(AS->Hld->DH->Prop)->Prop
 |.seq e,E,Y,G,k=>wpE Z e E Y G λd G1=>match itemsOf G1 d with|some ds=>k ds.1 ds.2 G1|none=>False
 |.rng a,E,Y,G,k=>wpE Z a E Y G λd G1=>match d with |.int n=>(Neg.neg (2 ^ 62)<=n/\n<2 ^ 62)/\k (aX 0 n.toNat) [] G1|_=>False
 |.enm e,E,Y,G,k=>wpE Z e E Y G λd G1=>match itemsOf G1 d with|some ds=>k (dY 0 ds.1) ds.2 G1|none=>False
 |.zip a b,E,Y,G,k=>wpE Z a E Y G λx G1=>wpE Z b E Y G1 λy G2=>match itemsOf G2 x,itemsOf G2 y with|some ds,-es=>k (cC ds.1 es.1) (ds.2++es.2) G2|_,_=>False
end
structure En where
 nx:ak->DH->Prop
 rt:D->DH->Prop
 bk:ak->DH->Prop
 ct:ak->DH->Prop
def forLoop(step:D->ak->DH->(ak->DH->Prop)->Prop)(g:Hld):AS->ak->DH->(ak->DH->Prop)->Prop
 |[],Y,G,k=>held g G/\k Y G
 |d::ds,Y,G,k=>held g G/\step d Y G λq z=>forLoop step g ds q z k
def whileLoop(g:ak->DH->(Bool->DH->Prop)->Prop)(body:ak->DH->(ak->DH->Prop)->Prop):Nat->ak->DH->(ak->DH->Prop)->Prop
 |0,_,_,_=>False
 |n+1,Y,G,k=>g Y G λb G1=>match b with|true=>body Y G1 λq z=>whileLoop g body n q z k|false=>k Y G1
def dZ(o i x:D)(G:DH)(k:DH->Prop):Prop:=
 match o with
 |.ref p=>match G p with
  |some (.lst ds)=>(match i with |.int i=>(match ixN ds⁻¹ i with|some j=>k (aL G p (.lst (ds.set j x)))|none=>False)|_=>False)
  |some (.dct ks ds)=>cB i λn=>ks⁻¹<sz/\k (aL G p (dput ks ds n x))
  |none=>False
 |_=>False
def fj(op:Operator)(a b:D)(k:D->Prop):Prop:=
 match op,a,b with
 |.Add,.int i,.int j=>k (.int (i+j))
 |.Add,.str x,.str y=>x⁻¹+y⁻¹<=sz/\k (.str (x++y))
 |.Sub,.int i,.int j=>k (.int (i-j))
 |_,_,_=>False
def Ez:D->Bool
 |.int i=>decide (0<=i)&&decide (i<100)
 |_=>false
def wpM(Z:aj):Exs->EK->ak->DH->(DH->Prop)->Prop
 |.nil,_,_,G,k=>k G
 |.cons e es,E,Y,G,k=>wpE Z e E Y G λd G1=>Ez d=true/\wpM Z es E Y G1 k
mutual
def wpS(Z:aj):Sx->EK->ak->DH->En->Prop
 |.exp e,E,Y,G,D=>wpE Z e E Y G λz G1=>D.nx Y G1
 |.asg t e,E,Y,G,D=>wpE Z e E Y G λd G1=>bA t d Y G1 λρ'=>D.nx ρ' G1
 |.set o i e,E,Y,G,D=>wpE Z e E Y G λx G1=>wpE Z o E Y G1 λa G2=>wpE Z i E Y G2 λy G3=>dZ a y x G3 λG4=>D.nx Y G4
 |.aug i op e,E,Y,G,D=>match Y[i]? with
  |some (-a)=>wpE Z e E Y G λb G1=>fj op a b λc=>D.nx (Y.set i (-c)) G1
  |_=>False
 |.ret e,E,Y,G,D=>wpE Z e E Y G D.rt
 |.rtn,_,_,G,D=>D.rt .non G
 |.ite c a b,E,Y,G,D=>wpT Z c E Y G λt G1=>match t with|true=>az Z a E Y G1 D|false=>az Z b E Y G1 D
 |.for_ t it body,E,Y,G,D=>wpI Z it E Y G λitems g G1=>
   forLoop (λd ρ' G' k=>bA t d ρ' G' λρ1=>az Z body E ρ1 G' {D with nx:=k,ct:=k,bk:=D.nx}) g items Y G1 D.nx
 |.whl c body,E,Y,G,D=>∃n,whileLoop (λρ' G' k=>wpT Z c E ρ' G' k) (λρ' G' k=>az Z body E ρ' G' {D with nx:=k,ct:=k,bk:=D.nx}) n Y G D.nx
 |.pas,_,Y,G,D=>D.nx Y G
 |.brk,_,Y,G,D=>D.bk Y G
 |.cnt,_,Y,G,D=>D.ct Y G
 |.nev,_,_,_,_=>False
def az(Z:aj):Sxs->EK->ak->DH->En->Prop
 |.nil,_,Y,G,D=>D.nx Y G
 |.cons s r,E,Y,G,D=>wpS Z s E Y G {D with nx:=λρ' G'=>az Z r E ρ' G' D}
end
theorem wj{Z:aj}{a}{E}{Y}{G}{k}:wpT Z (.not a) E Y G k=(wpT Z a E Y G λb G1=>k (!b) G1):=rfl
theorem wk{Z:aj}{isAnd}{e}{es}{E}{Y}{G}{k}:wpT Z (.boo isAnd e es) E Y G k=(wpT Z e E Y G λb G1=>fZ Z es isAnd b E Y G1 k):=rfl
theorem wu{Z:aj}{E}{Y}{G}{k}:wpT Z .yes E Y G k=(k true G):=rfl
theorem lC{Z:aj}{x}{E}{Y}{G}{k}:wpT Z (.val x) E Y G k=(wpE Z x E Y G λd G1=>match truth (view G1 d) with|some b=>k b G1|none=>False):=rfl
theorem jC{Z:aj}{E}{Y}{G}{k}:bC Z .nil E Y G k=(k [] G):=rfl
theorem iI{Z:aj}{e}{es}{E}{Y}{G}{k}:bC Z (.cons e es) E Y G k=(wpE Z e E Y G λd G1=>bC Z es E Y G1 λds G2=>k (d::ds) G2):=rfl
theorem ww{Z:aj}{isAnd:Bool}{b:Bool}{E}{Y}{G}{k}:wpB Z .nil isAnd b E Y G k=(k (.bl b) G):=rfl
theorem rM{Z:aj}{e}{es}{isAnd:Bool}{b:Bool}{E}{Y}{G}{k}:wpB Z (.cons e es) isAnd b E Y G k=(match isAnd,b with
  |true,false=>k (.bl false) G
  |false,true=>k (.bl true) G
  |_,_=>wpE Z e E Y G λd G1=>match d with |.bl b'=>wpB Z es isAnd b' E Y G1 k|d=>jB es (k d G1)):=rfl
theorem Xq{P:Prop}:jB .nil P=P:=rfl
theorem wy{Z:aj}{isAnd:Bool}{b:Bool}{E}{Y}{G}{k}:fZ Z .nil isAnd b E Y G k=(k b G):=rfl
theorem rN{Z:aj}{e}{es}{isAnd:Bool}{b:Bool}{E}{Y}{G}{k}:fZ Z (.cons e es) isAnd b E Y G k=(match isAnd,b with
  |true,false=>k false G
  |false,true=>k true G
  |_,_=>wpT Z e E Y G λg G1=>fZ Z es isAnd g E Y G1 k):=rfl
theorem wz{Z:aj}{E}{Y}{G}{k}:wpO Z .no E Y G k=(k none G):=rfl
theorem wA{Z:aj}{x}{E}{Y}{G}{k}:wpO Z (.ob x) E Y G k=(wpE Z x E Y G λd G1=>match d with |.int i=>k (-i) G1|_=>False):=rfl
theorem wB{Z:aj}{e}{E}{Y}{G}{k}:wpI Z (.seq e) E Y G k=(wpE Z e E Y G λd G1=>match itemsOf G1 d with|some ds=>k ds.1 ds.2 G1|none=>False):=rfl
theorem wC{Z:aj}{a}{E}{Y}{G}{k}:wpI Z (.rng a) E Y G k=(wpE Z a E Y G λd G1=>match d with |.int n=>(Neg.neg (2 ^ 62)<=n/\n<2 ^ 62)/\k (aX 0 n.toNat) [] G1|_=>False):=rfl
theorem wD{Z:aj}{e}{E}{Y}{G}{k}:wpI Z (.enm e) E Y G k=(wpE Z e E Y G λd G1=>match itemsOf G1 d with|some ds=>k (dY 0 ds.1) ds.2 G1|none=>False):=rfl
theorem wF{Z:aj}{a}{b}{E}{Y}{G}{k}:wpI Z (.zip a b) E Y G k=(wpE Z a E Y G λx G1=>wpE Z b E Y G1 λy G2=>match itemsOf G2 x,itemsOf G2 y with|some ds,-es=>k (cC ds.1 es.1) (ds.2++es.2) G2|_,_=>False):=rfl
theorem lE{Z:aj}{E}{Y}{G}{D}:az Z .nil E Y G D=(D.nx Y G):=rfl
theorem lF{Z:aj}{s}{r}{E}{Y}{G}{D}:az Z (.cons s r) E Y G D=(wpS Z s E Y G {D with nx:=λg q=>az Z r E g q D}):=rfl
theorem wG{Z:aj}{i E Y G k}:wpE Z (.var i) E Y G k=(match Y[i]? with|some (-d)=>k d G|_=>False):=rfl
theorem jD{Z:aj}{d E Y G k}:wpE Z (.cst d) E Y G k=(k d G):=rfl
theorem wH{Z:aj}{u0 d E Y G k}:wpE Z (.glb u0 d) E Y G k=(k d G):=rfl
theorem wI{Z:aj}{op fz a b E Y G k}:wpE Z (.bin op fz a b) E Y G k=(wpE Z a E Y G λx G1=>wpE Z b E Y G1 λy G2=>dj op fz (view G2 x) (view G2 y) G2 k):=rfl
theorem wJ{Z:aj}{a E Y G k}:wpE Z (.neg a) E Y G k=(wpE Z a E Y G λx G1=>match x with |.int i=>k (.int (Neg.neg i)) G1|_=>False):=rfl
theorem rO{Z:aj}{op a b E Y G k}:wpE Z (.cmp op a b) E Y G k=(wpE Z a E Y G λx G1=>wpE Z b E Y G1 λy G2=>aZ op (view G2 x) (view G2 y) λc=>k (.bl c) G2):=rfl
theorem rP{Z:aj}{op op' a b c E Y G k}:wpE Z (.chn op op' a b c) E Y G k=(wpE Z a E Y G λx G1=>wpE Z b E Y G1 λy G2=>aZ op (view G2 x) (view G2 y) λt=>
   match t with
   |true=>wpE Z c E Y G2 λz g=>aZ op' (view g y) (view g z) λt'=>k (.bl t') g
   |false=>k (.bl false) G2):=rfl
theorem wK{Z:aj}{a E Y G k}:wpE Z (.not a) E Y G k=(wpE Z a E Y G λx G1=>match truth (view G1 x) with|some b=>k (.bl (!b)) G1|none=>False):=rfl
theorem wL{Z:aj}{isAnd e es E Y G k}:wpE Z (.boo isAnd e es) E Y G k=(wpE Z e E Y G λd G1=>match d with |.bl b=>wpB Z es isAnd b E Y G1 k|_=>False):=rfl
theorem wM{Z:aj}{c a b E Y G k}:wpE Z (.ife c a b) E Y G k=(wpT Z c E Y G λt G1=>match t with|true=>wpE Z a E Y G1 k|false=>wpE Z b E Y G1 k):=rfl
theorem wN{Z:aj}{es E Y G k}:wpE Z (.tup es) E Y G k=(bC Z es E Y G λds G1=>ds⁻¹<=sz/\k (.tup ds) G1):=rfl
theorem wO{Z:aj}{fz es E Y G k}:wpE Z (.lst fz es) E Y G k=(bC Z es E Y G λds G1=>ds⁻¹<=sz/\mk fz ds G1 k):=rfl
theorem wQ{Z:aj}{a i E Y G k}:wpE Z (.idx a i) E Y G k=(wpE Z a E Y G λx G1=>wpE Z i E Y G1 λy G2=>cV (view G2 x) y λd=>k d G2):=rfl
theorem wR{Z:aj}{fz a lo hi E Y G k}:wpE Z (.slc fz a lo hi) E Y G k=(wpE Z a E Y G λx G1=>wpO Z lo E Y G1 λl G2=>wpO Z hi E Y G2 λh g=>eO fz (view g x) l h g k):=rfl
theorem wU{Z:aj}{f es E Y G k}:wpE Z (.call f es) E Y G k=(bC Z es E Y G λds G1=>(Z f).t ds G1 k E):=rfl
theorem wV{Z:aj}{f es E Y G k}:wpE Z (.bcl f es) E Y G k=(bC Z es E Y G λds G1=>opB f (ds.map (view G1)) λd=>k d G1):=rfl
theorem wW{Z:aj}{fz f es E Y G k}:wpE Z (.lcl fz f es) E Y G k=(bC Z es E Y G λds G1=>cM f (ds.map (view G1)) λxs=>mk fz xs G1 k):=rfl
theorem wX{Z:aj}{a t E Y G k}:wpE Z (.isi a t) E Y G k=(wpE Z a E Y G λx G1=>match isT t (view G1 x) with|some b=>k (.bl b) G1|none=>False):=rfl
theorem wY{Z:aj}{a E Y G k}:wpE Z (.lns a) E Y G k=(wpE Z a E Y G λd G1=>jA (view G1 d) λx=>k x G1):=rfl
theorem wZ{Z:aj}{fz a E Y G k}:wpE Z (.rgl fz a) E Y G k=(wpE Z a E Y G λd G1=>match d with |.int n=>(0<=n/\n<=1000)/\mk fz (aX 0 n.toNat) G1 k|_=>False):=rfl
theorem w5{Z:aj}{o E Y G k}:wpE Z (.clr o) E Y G k=(wpE Z o E Y G λd G1=>fY d G1 k):=rfl
theorem xf{Z:aj}{a E Y G k}:wpE Z (.rgt a) E Y G k=(wpE Z a E Y G λd G1=>match d with |.int n=>(0<=n/\n<=1000)/\k (.tup (aX 0 n.toNat)) G1|_=>False):=rfl
theorem EY{Z:aj}{E Y G k}:wpF Z .nil E Y G k=k [] G:=rfl
theorem Fb{Z:aj}{e es E Y G k}:wpF Z (.cons e es) E Y G k=(wpE Z e E Y G λd G1=>match d with
  |.str l=>l⁻¹<=1000/\wpF Z es E Y G1 λx G2=>k (l++x) G2
  |.int i=>(0<=i/\i<100)/\wpF Z es E Y G1 λx G2=>k (gJ i.toNat++x) G2
  |_=>False):=rfl
theorem iJ{Z:aj}{m o es E Y G k}:wpE Z (.mth m o es) E Y G k=(wpE Z o E Y G λx G1=>recv m x G1/\bC Z es E Y G1 λds G2=>opM m x ds G2 k):=rfl
theorem xg{Z:aj}{a E Y G k}:wpE Z (.frz a) E Y G k=(wpE Z a E Y G λx G1=>match x with |.ref p=>(match G1 p with|some (.lst ds)=>k (.lst ds) (gD G1 p)|_=>False)|d=>k d G1):=rfl
theorem xj{Z:aj}{E Y G k}:wpE Z .dnw E Y G k=(∀p,G p=none->k (.ref p) (aL G p (.dct [] []))):=rfl
theorem xm{Z:aj}{a b E Y G k}:wpE Z (.dp1 a b) E Y G k=(wpE Z a E Y G λx G1=>wpE Z b E Y G1 λy G2=>cB x λn=>∀p,G2 p=none->k (.ref p) (aL G2 p (.dct [n] [y]))):=rfl
theorem xq{Z:aj}{e E Y G D}:wpS Z (.exp e) E Y G D=(wpE Z e E Y G λz G1=>D.nx Y G1):=rfl
theorem lG{Z:aj}{t e E Y G D}:wpS Z (.asg t e) E Y G D=(wpE Z e E Y G λd G1=>bA t d Y G1 λg=>D.nx g G1):=rfl
theorem xr{Z:aj}{o i e E Y G D}:wpS Z (.set o i e) E Y G D=(wpE Z e E Y G λx G1=>wpE Z o E Y G1 λa G2=>wpE Z i E Y G2 λy g=>dZ a y x g λq=>D.nx Y q):=rfl
theorem xu{Z:aj}{i op e E Y G D}:wpS Z (.aug i op e) E Y G D=(match Y[i]? with
  |some (-a)=>wpE Z e E Y G λb G1=>fj op a b λc=>D.nx (Y.set i (-c)) G1
  |_=>False):=rfl
theorem xF{Z:aj}{e E Y G D}:wpS Z (.ret e) E Y G D=(wpE Z e E Y G D.rt):=rfl
theorem xG{Z:aj}{E Y G D}:wpS Z .rtn E Y G D=(D.rt .non G):=rfl
theorem xH{Z:aj}{c a b E Y G D}:wpS Z (.ite c a b) E Y G D=(wpT Z c E Y G λt G1=>match t with|true=>az Z a E Y G1 D|false=>az Z b E Y G1 D):=rfl
theorem xJ{Z:aj}{E Y G D}:wpS Z .pas E Y G D=(D.nx Y G):=rfl
theorem xK{Z:aj}{E Y G D}:wpS Z .brk E Y G D=(D.bk Y G):=rfl
theorem xM{Z:aj}{E Y G D}:wpS Z .cnt E Y G D=(D.ct Y G):=rfl
theorem Xr{Z:aj}{E Y G k}:wpM Z .nil E Y G k=k G:=rfl
theorem Xu{Z:aj}{e es E Y G k}:wpM Z (.cons e es) E Y G k=(wpE Z e E Y G λd G1=>Ez d=true/\wpM Z es E Y G1 k):=rfl
theorem xN{Z:aj}{E Y G D}:wpS Z .nev E Y G D=(False):=rfl
theorem xO{Z:aj}{fz elt tg it cond N cap E Y G k}:wpE Z (.comp fz elt tg it cond N cap) E Y G k=(wpI Z it E Y G λz g G1=>
   compLoop (λd J L k'=>bA tg d J L λq=>wpT Z cond noE q L λb G2=>match b with|true=>wpE Z elt noE q G2 λy O=>k' (-y) q O|false=>k' none q G2)
    g z [] (cap.map λo=>match o with|none=>none|some j=>(Y[j]?).join) G1 λds G2=>mk fz ds G2 k):=rfl
theorem Fd{Z:aj}{t it body E Y G D}:wpS Z (.for_ t it body) E Y G D=(wpI Z it E Y G λq g G1=>
   forLoop (λd z L k=>bA t d z L λJ=>az Z body E J L {D with nx:=k,ct:=k,bk:=D.nx}) g q Y G1 D.nx):=rfl
theorem Fe{Z:aj}{c body E Y G D}:wpS Z (.whl c body) E Y G D=(∃n,whileLoop (λg q k=>wpT Z c E g q k) (λg q k=>az Z body E g q {D with nx:=k,ct:=k,bk:=D.nx}) n Y G D.nx):=rfl
section
variable {k k':AT} {G:DH}
theorem dI{fz:Bool}{xs:AS}(h:∀d g,k d g->k' d g)(q:mk fz xs G k):mk fz xs G k':=by
 cases fz with
 |true=>exact h _ _ q
 |false=>exact λp z=>h _ _ (q p z)
theorem Ff{a b:D}{p:Int->Int->Prop}(h:gH a b p):∃i j,a=.int i/\b=.int j/\p i j:=by
 cases a with
 |int i=>cases b with
  |int j=>exact⟨i,j,rfl,rfl,h⟩
  |_=>exact h.elim
 |_=>exact h.elim
theorem rQ{a b:D}{p q:Int->Int->Prop}(h:∀i j,p i j->q i j)(z:gH a b p):gH a b q:=by let(i,j,rfl,rfl,z):=Ff z;exact h i j z
theorem Fg{op:Operator}{fz:Bool}{a b:D}(h:∀d g,k d g->k' d g)(q:dj op fz a b G k):dj op fz a b G k':=by
 cases op with
 |Add=>
  have q:jq fz a b G k:=q;change jq fz a b G k';unfold jq at q ⊢;cases a with
  |int i=>cases b<;>first|exact h _ _ q|exact q
  |str i=>cases b<;>first|exact⟨q.1,h _ _ q.2⟩|exact q
  |lst i=>cases b<;>first|exact⟨q.1,dI h q.2⟩|exact q
  |tup i=>cases b<;>first|exact⟨q.1,h _ _ q.2⟩|exact q
  |_=>exact q
 |Sub=>exact rQ (λy y z=>h _ _ z) q
 |Mult=>
  have q:jr fz a b G k:=q;change jr fz a b G k';unfold jr at q ⊢;cases b with
  |int n=>cases a<;>first|exact⟨q.1,h _ _ q.2⟩|exact⟨q.1,q.2.1,q.2.2.1,h _ _ q.2.2.2⟩|exact⟨q.1,q.2.1,q.2.2.1,dI h q.2.2.2⟩|exact⟨q.1,q.2.1,q.2.2.1,q.2.2.2.1,h _ _ q.2.2.2.2⟩|exact q
  |_=>exact q
 |FloorDiv=>exact rQ (λy y z=>⟨z.1,h _ _ z.2⟩) q
 |Mod=>exact rQ (λy y z=>⟨z.1,h _ _ z.2⟩) q
 |Pow=>exact rQ (λy y z=>⟨z.1,h _ _ z.2⟩) q
 |_=>exact q
theorem rR{d:D}{k k':List Int->Prop}(h:∀n,k n->k' n)(q:cB d k):cB d k':=by
 unfold cB at q ⊢;split at q
 .split at q
  .exact h _ q
  .exact q
 .exact q
theorem Fi{a b:D}{k k':Bool->Prop}(h:∀c,k c->k' c)(q:fW a b k):fW a b k':=by
 unfold fW at q ⊢;split at q
 .split at q
  .exact h _ q
  .exact q
 .exact ⟨q.1,h _ q.2⟩
 .exact ⟨q.1,h _ q.2⟩
 .exact rR (λy z=>h _ z) q
 .exact q
theorem iK{op:CmpOp}{a b:D}{k k':Bool->Prop}(h:∀c,k c->k' c)(q:aZ op a b k):aZ op a b k':=by
 cases op with
 |Eq=>exact⟨q.1,h _ q.2⟩
 |NotEq=>exact⟨q.1,h _ q.2⟩
 |Lt=>have q:jt a b k:=q;change jt a b k';unfold jt at q ⊢;split at q<;>first|exact h _ q|exact q
 |LtE=>have q:ju a b k:=q;change ju a b k';unfold ju at q ⊢;split at q<;>first|exact h _ q|exact q
 |Gt=>have q:jw a b k:=q;change jw a b k';unfold jw at q ⊢;split at q<;>first|exact h _ q|exact q
 |GtE=>have q:jx a b k:=q;change jx a b k';unfold jx at q ⊢;split at q<;>first|exact h _ q|exact q
 |Is=>
  have q:jy a b k:=q;change jy a b k';unfold jy at q ⊢;split at q
  .exact h _ q
  .split at q
   .exact h _ q
   .exact q
  .exact q
 |IsNot=>
  have q:jz a b k:=q;change jz a b k';unfold jz at q ⊢;split at q
  .exact h _ q
  .split at q
   .exact h _ q
   .exact q
  .exact q
 |In=>exact Fi h q
 |NotIn=>exact Fi (λc=>h _) q
theorem Fj{a i:D}{k k':D->Prop}(h:∀c,k c->k' c)(q:cV a i k):cV a i k':=by
 unfold cV at q ⊢;split at q
 .split at q
  .exact h _ q
  .exact q
 .split at q
  .exact h _ q
  .exact q
 .split at q
  .exact h _ q
  .exact q
 .show rR (λz q=>?_) q;split at q
  .split at q
   .exact h _ q
   .exact q
  .exact q
 .exact q
theorem Fl{fz:Bool}{a:D}{lo hi:Option Int}(h:∀d g,k d g->k' d g)(q:eO fz a lo hi G k):eO fz a lo hi G k':=by
 unfold eO at q ⊢;split at q<;>first
  |exact dI h q
  |exact h _ _ q
  |exact q.elim
theorem akq{fz:Bool}{a y:D}(h:∀d g,k d g->k' d g)(q:rn fz a y G k):rn fz a y G k':=by
 unfold rn at q ⊢;split at q
 .exact ⟨q.1,dI h q.2⟩
 .exact ⟨q.1,h _ _ q.2⟩
 .exact q.elim
theorem Fp{f:Bf}{as:AS}{k k':D->Prop}(h:∀c,k c->k' c)(q:opB f as k):opB f as k':=by
 cases f with
 |len=>simp only[opB,vX]at q ⊢;split at q<;>first|exact h _ q|exact q.elim
 |all=>
  simp only[opB,rA]at q ⊢;split at q
  .split at q
   .exact h _ q
   .exact q
  .exact q
 |any=>
  simp only[opB,rB]at q ⊢;split at q
  .split at q
   .exact h _ q
   .exact q
  .exact q
 |int=>
  simp only[opB,rD]at q ⊢;split at q
  .exact h _ q
  .exact h _ q
  .split at q
   .exact ⟨q.1,h _ q.2⟩
   .exact q
  .exact q
 |tuple=>simp only[opB,vY]at q ⊢;split at q<;>first|exact h _ q|exact q.elim
 |sum=>
  simp only[opB,vZ]at q ⊢;split at q
  .split at q
   .exact h _ q
   .exact q
  .exact q
 |min=>
  simp only[opB,lz]at q ⊢;split at q
  .split at q
   .exact ⟨q.1,λm h1 h2=>h _ (q.2 m h1 h2)⟩
   .split at q
    .exact λm h1 h2=>h _ (q m h1 h2)
    .exact q
  .exact q
 |max=>simp only[opB,Ew]at q ⊢;split at q<;>first|exact h _ q|exact q.elim
 |abs=>simp only[opB,Et]at q ⊢;split at q<;>first|exact h _ q|exact q.elim
 |min2=>simp only[opB,Eu]at q ⊢;split at q<;>first|exact h _ q|exact q.elim
 |str=>
  simp only[opB,v6]at q ⊢;split at q
  .exact ⟨q.1,h _ q.2⟩
  .exact q
theorem akr{d:D}{k k':AS->Prop}(h:∀c,k c->k' c)(q:lB d k):lB d k':=by
 unfold lB at q ⊢;split at q
 .split at q
  .exact ⟨q.1,λls p=>h _ (q.2 ls p)⟩
  .exact q
 .exact q
theorem Fq{f:Lf}{as:AS}{k k':AS->Prop}(h:∀c,k c->k' c)(q:cM f as k):cM f as k':=by
 cases f with
 |list=>simp only[cM,v7]at q ⊢;split at q<;>first|exact h _ q|exact q.elim
 |sorted=>
  simp only[cM,lA]at q ⊢;split at q
  .split at q
   .exact ⟨q.1,λls p z=>h _ (q.2 ls p z)⟩
   .exact q
  .split at q
   .exact ⟨q.1,λls p z=>h _ (q.2 ls p z)⟩
   .exact q
  .exact q
theorem jE{m:Mf}{o:D}{as:AS}(h:∀d z,k d z->k' d z)(q:opM m o as G k):opM m o as G k':=by
 cases m with
 |join=>
  simp only[opM,rF]at q ⊢;split at q
  .split at q
   .exact ⟨q.1,h _ _ q.2⟩
   .exact q
  .exact q
 |append=>
  simp only[opM,rG]at q ⊢;split at q
  .split at q
   .exact ⟨q.1,h _ _ q.2⟩
   .exact q
  .exact q
 |extend=>
  simp only[opM,rH]at q ⊢;split at q
  .split at q
   .exact ⟨q.1,h _ _ q.2⟩
   .exact q
  .exact q
 |pop=>
  simp only[opM,rJ]at q ⊢;split at q
  .split at q
   .show ⟨q.1,q.2.1,?_⟩;have g:=q.2.2;split at g
    .exact h _ _ g
    .exact g
   .exact q
  .exact q
 |idxT=>
  simp only[opM,rK]at q ⊢;split at q
  .split at q
   .exact ⟨q.1,h _ _ q.2⟩
   .exact q
  .exact q
theorem Ft{o i x:D}{k k':DH->Prop}(h:∀g,k g->k' g)(q:dZ o i x G k):dZ o i x G k':=by
 unfold dZ at q ⊢;split at q
 .split at q
  .split at q
   .split at q
    .exact h _ q
    .exact q
   .exact q
  .exact rR (λy z=>⟨z.1,h _ z.2⟩) q
  .exact q
 .exact q
theorem Fv{op:Operator}{a b:D}{k k':D->Prop}(h:∀c,k c->k' c)(q:fj op a b k):fj op a b k':=by
 unfold fj at q ⊢;split at q<;>first
  |exact h _ q
  |exact⟨q.1,h _ q.2⟩
  |exact q.elim
mutual
theorem gb{k k':ak->Prop}(h:∀Y,k Y->k' Y):∀(t:Tg){d:D}{Y:ak},bA t d Y G k->bA t d Y G k'
 |.nm i,d,Y,q=>h _ q
 |.tp ts,d,Y,q=>by
  unfold bA at q ⊢;split at q
  .exact xP h ts q
  .exact xP h ts q
  .exact q
theorem xP{k k':ak->Prop}(h:∀Y,k Y->k' Y):∀(ts:Tgs){ds:AS}{Y:ak},bY ts ds Y G k->bY ts ds Y G k'
 |.nil,ds,Y,q=>by
  unfold bY at q ⊢;split at q
  .exact h _ q
  .exact q
 |.cons t r,ds,Y,q=>by
  unfold bY at q ⊢;split at q
  .exact gb (λρ' q'=>xP h r q') t q
  .exact q
end
theorem rT{step L:D->ak->DH->(Option D->ak->DH->Prop)->Prop}(hs:∀d Y G (k k':Option D->ak->DH->Prop),(∀o N O,k o N O->k' o N O)->step d Y G k->L d Y G k')
  {g:Hld} {k k':AS->DH->Prop} (h:∀ds O,k ds O->k' ds O):∀(ds J:AS)(Y:ak)(G:DH),compLoop step g ds J Y G k->compLoop L g ds J Y G k'
 |[],J,Y,G,q=>⟨q.1,q.2.1,h _ _ q.2.2⟩
 |d::ds,J,Y,G,q=>by
  show⟨q.1,q.2.1,hs d Y G _ _ (λo N O z=>?_) q.2.2⟩;cases o with
  |some y=>exact rT hs h ds (J++[y]) N O z
  |none=>exact rT hs h ds J N O z
theorem Xv{step L:D->AS->ak->DH->(AS->ak->DH->Prop)->Prop}(hs:∀d J Y G (k k':AS->ak->DH->Prop),(∀a N O,k a N O->k' a N O)->step d J Y G k->L d J Y G k')
  {g:Hld} {k k':AS->ak->DH->Prop} (h:∀a Y O,k a Y O->k' a Y O):∀(ds J:AS)(Y:ak)(G:DH),v9 step g ds J Y G k->v9 L g ds J Y G k'
 |[],J,Y,G,q=>⟨q.1,h _ _ _ q.2⟩
 |d::ds,J,Y,G,q=>⟨q.1,hs d J Y G _ _ (λa N O z=>Xv hs h ds a N O z) q.2⟩
theorem Fw{step J:D->ak->DH->(ak->DH->Prop)->Prop}(hs:∀d Y G (k k':ak->DH->Prop),(∀L N,k L N->k' L N)->step d Y G k->J d Y G k')
  {g:Hld} {k k':ak->DH->Prop} (h:∀Y N,k Y N->k' Y N):∀(ds:AS)(Y:ak)(G:DH),forLoop step g ds Y G k->forLoop J g ds Y G k'
 |[],Y,G,q=>⟨q.1,h _ _ q.2⟩
 |d::ds,Y,G,q=>⟨q.1,hs d Y G _ _ (λL N z=>Fw hs h ds L N z) q.2⟩
theorem Fx{O J:ak->DH->(Bool->DH->Prop)->Prop}{body g:ak->DH->(ak->DH->Prop)->Prop}
  (ht:∀Y G (k k':Bool->DH->Prop),(∀b L,k b L->k' b L)->O Y G k->J Y G k') (hb:∀Y G (k k':ak->DH->Prop),(∀N L,k N L->k' N L)->body Y G k->g Y G k')
  {k k':ak->DH->Prop} (h:∀Y L,k Y L->k' Y L):∀(n:Nat)(Y:ak)(G:DH),whileLoop O body n Y G k->whileLoop J g n Y G k'
 |0,Y,G,q=>q
 |n+1,Y,G,q=>ht Y G _ _ (λb L z=>by
   cases b with
   |true=>exact hb Y L _ _ (λN U z'=>Fx ht hb h n N U z') z
   |false=>exact h _ _ z) q
end
section
variable {Z:aj} {G:DH}
theorem xQ:∀(x:Exs){P Q:Prop},(P->Q)->jB x P->jB x Q
 |.nil,_,_,h,q=>h q
 |.cons _ _,_,_,_,q=>q
mutual
theorem aM{E:EK}{Y:ak}:∀(x:Ex){G:DH}{k k':AT},(∀d G',k d G'->k' d G')->wpE Z x E Y G k->wpE Z x E Y G k'
 |.var i,G,k,k',h,q=>by
  rw[wG]at q ⊢;split at q
  .exact h _ _ q
  .exact q
 |.cst d,G,k,k',h,q=>by rw[jD]at q ⊢;exact h _ _ q
 |.glb x d,G,k,k',h,q=>by rw[wH]at q ⊢;exact h _ _ q
 |.bin op fz a b,G,k,k',h,q=>by
  rw[wI]at q ⊢;exact aM a (λv v q=>aM b (λv v q=>Fg h q) q) q
 |.neg a,G,k,k',h,q=>by
  rw[wJ]at q ⊢;show aM a (λx v q=>?_) q;split at q
  .exact h _ _ q
  .exact q
 |.cmp op a b,G,k,k',h,q=>by
  rw[rO]at q ⊢;exact aM a (λv v q=>aM b (λv v q=>iK (λv q=>h _ _ q) q) q) q
 |.chn op op' a b c,G,k,k',h,q=>by
  rw[rP]at q ⊢;show aM a (λv v q=>aM b (λv v q=>iK (λt q=>?_) q) q) q;cases t with
  |true=>exact aM c (λv v q=>iK (λv q=>h _ _ q) q) q
  |false=>exact h _ _ q
 |.not a,G,k,k',h,q=>by
  rw[wK]at q ⊢;show aM a (λx v q=>?_) q;split at q
  .exact h _ _ q
  .exact q
 |.boo isAnd e es,G,k,k',h,q=>by
  rw[wL]at q ⊢;show aM e (λx v q=>?_) q;split at q
  .exact rW es h q
  .exact q
 |.ife c a b,G,k,k',h,q=>by
  rw[wM]at q ⊢;show dF c (λt v q=>?_) q;cases t with
  |true=>exact aM a h q
  |false=>exact aM b h q
 |.tup es,G,k,k',h,q=>by
  rw[wN]at q ⊢;exact gf es (λv v q=>⟨q.1,h _ _ q.2⟩) q
 |.lst fz es,G,k,k',h,q=>by
  rw[wO]at q ⊢;exact gf es (λv v q=>⟨q.1,dI h q.2⟩) q
 |.idx a i,G,k,k',h,q=>by
  rw[wQ]at q ⊢;exact aM a (λv v q=>aM i (λv v q=>Fj (λv q=>h _ _ q) q) q) q
 |.slc fz a lo hi,G,k,k',h,q=>by
  rw[wR]at q ⊢;exact aM a (λv v q=>xR lo (λv v q=>xR hi (λv v q=>Fl h q) q) q) q
 |.call f es,G,k,k',h,q=>by
  rw[wU]at q ⊢;exact gf es (λv v q=>Spec.mono q h λv v z=>z) q
 |.bcl f es,G,k,k',h,q=>by
  rw[wV]at q ⊢;exact gf es (λv v q=>Fp (λv q=>h _ _ q) q) q
 |.lcl fz f es,G,k,k',h,q=>by
  rw[wW]at q ⊢;exact gf es (λv v q=>Fq (λv q=>dI h q) q) q
 |.isi a t,G,k,k',h,q=>by
  rw[wX]at q ⊢;show aM a (λx v q=>?_) q;split at q
  .exact h _ _ q
  .exact q
 |.lns a,G,k,k',h,q=>by
  rw[wY]at q ⊢;show aM a (λd v q=>?_) q;unfold jA at q ⊢;split at q
  .split at q
   .exact ⟨q.1,h _ _ q.2⟩
   .exact q
  .exact q
 |.rgl fz a,G,k,k',h,q=>by
  rw[wZ]at q ⊢;show aM a (λd v q=>?_) q;split at q
  .exact ⟨q.1,dI h q.2⟩
  .exact q
 |.clr o,G,k,k',h,q=>by
  rw[w5]at q ⊢;show aM o (λd v q=>?_) q;unfold fY at q ⊢;split at q
  .split at q
   .exact h _ _ q
   .exact q
  .exact q
 |.rgt a,G,k,k',h,q=>by
  rw[xf]at q ⊢;show aM a (λd v q=>?_) q;split at q
  .exact ⟨q.1,h _ _ q.2⟩
  .exact q
 |.mth m o es,G,k,k',h,q=>by
  rw[iJ]at q ⊢;exact aM o (λv v q=>⟨q.1,gf es (λv v q=>jE h q) q.2⟩) q
 |.comp fz elt tg it cond N cap,G,k,k',h,q=>by
  rw[xO]at q ⊢;show lH it (λitems g G1 q=>?_) q;show rT ?_ (λds G2 z=>dI h z) items [] _ G1 q;intro d ρ' G' k k' hk z;show gb (λρ1 z=>?_) tg z;show dF cond (λb G2 z=>?_) z;cases b with
  |true=>exact aM elt (λy G3 z=>hk _ _ _ z) z
  |false=>exact hk _ _ _ z
 |.dnw,G,k,k',h,q=>by rw[xj]at q ⊢;exact λp hp=>h _ _ (q p hp)
 |.dp1 a b,G,k,k',h,q=>by rw[xm]at q ⊢;exact aM a (λv v q=>aM b (λv v q=>rR (λv z p hp=>h _ _ (z p hp)) q) q) q
 |.frz a,G,k,k',h,q=>by
  rw[xg]at q ⊢;show aM a (λx G1 q=>?_) q;split at q
  .split at q
   .exact h _ _ q
   .exact q
  .exact h _ _ q
theorem dF{E:EK}{Y:ak}:∀(x:Tx){G:DH}{k k':Bool->DH->Prop},(∀d G',k d G'->k' d G')->wpT Z x E Y G k->wpT Z x E Y G k'
 |.not a,G,k,k',h,q=>by rw[wj]at q ⊢;exact dF a (λz z q=>h _ _ q) q
 |.boo isAnd e es,G,k,k',h,q=>by rw[wk]at q ⊢;exact dF e (λz z q=>rY es h q) q
 |.yes,G,k,k',h,q=>by rw[wu]at q ⊢;exact h _ _ q
 |.val a,G,k,k',h,q=>by
  rw[lC]at q ⊢;show aM a (λx z q=>?_) q;split at q
  .exact h _ _ q
  .exact q
theorem Fy{E:EK}{Y:ak}:∀(x:Exs){G:DH}{k k':AA->DH->Prop},(∀d G',k d G'->k' d G')->wpF Z x E Y G k->wpF Z x E Y G k'
 |.nil,G,k,k',h,q=>by rw[EY]at q ⊢;exact h _ _ q
 |.cons e es,G,k,k',h,q=>by
  rw[Fb]at q ⊢;show aM e (λd z q=>?_) q;split at q
  .exact ⟨q.1,Fy es (λz z q=>h _ _ q) q.2⟩
  .exact ⟨q.1,Fy es (λz z q=>h _ _ q) q.2⟩
  .exact q
theorem gf{E:EK}{Y:ak}:∀(x:Exs){G:DH}{k k':AS->DH->Prop},(∀d G',k d G'->k' d G')->bC Z x E Y G k->bC Z x E Y G k'
 |.nil,G,k,k',h,q=>by rw[jC]at q ⊢;exact h _ _ q
 |.cons e es,G,k,k',h,q=>by rw[iI]at q ⊢;exact aM e (λz z q=>gf es (λz z q=>h _ _ q) q) q
theorem rW{E:EK}{Y:ak}:∀(x:Exs){isAnd b:Bool}{G:DH}{k k':AT},(∀d G',k d G'->k' d G')->wpB Z x isAnd b E Y G k->wpB Z x isAnd b E Y G k'
 |.nil,_,_,G,k,k',h,q=>by rw[ww]at q ⊢;exact h _ _ q
 |.cons e es,isAnd,b,G,k,k',h,q=>by
  rw[rM]at q ⊢;cases isAnd<;>cases b<;>first
   |exact h _ _ q
   | (show aM e (λd z q=>?_) q
      split at q
      .exact rW es h q
      .exact xQ es (h _ _) q)
theorem rY{E:EK}{Y:ak}:∀(x:Txs){isAnd b:Bool}{G:DH}{k k':Bool->DH->Prop},(∀d G',k d G'->k' d G')->fZ Z x isAnd b E Y G k->fZ Z x isAnd b E Y G k'
 |.nil,_,_,G,k,k',h,q=>by rw[wy]at q ⊢;exact h _ _ q
 |.cons e es,isAnd,b,G,k,k',h,q=>by
  rw[rN]at q ⊢;cases isAnd<;>cases b<;>first
   |exact h _ _ q
   |exact dF e (λd z q=>rY es h q) q
theorem xR{E:EK}{Y:ak}:∀(x:Ox){G:DH}{k k':Option Int->DH->Prop},(∀d G',k d G'->k' d G')->wpO Z x E Y G k->wpO Z x E Y G k'
 |.no,G,k,k',h,q=>by rw[wz]at q ⊢;exact h _ _ q
 |.ob a,G,k,k',h,q=>by
  rw[wA]at q ⊢;show aM a (λx z q=>?_) q;split at q
  .exact h _ _ q
  .exact q
theorem lH{E:EK}{Y:ak}:∀(x:It'){G:DH}{k k':AS->Hld->DH->Prop},(∀d g G',k d g G'->k' d g G')->wpI Z x E Y G k->wpI Z x E Y G k'
 |.seq a,G,k,k',h,q=>by
  rw[wB]at q ⊢;show aM a (λx z q=>?_) q;split at q
  .exact h _ _ _ q
  .exact q
 |.rng a,G,k,k',h,q=>by
  rw[wC]at q ⊢;show aM a (λx z q=>?_) q;split at q
  .exact ⟨q.1,h _ _ _ q.2⟩
  .exact q
 |.enm a,G,k,k',h,q=>by
  rw[wD]at q ⊢;show aM a (λx z q=>?_) q;split at q
  .exact h _ _ _ q
  .exact q
 |.zip a b,G,k,k',h,q=>by
  rw[wF]at q ⊢;show aM a (λx z q=>aM b (λy z q=>?_) q) q;split at q
  .exact h _ _ _ q
  .exact q
end
structure En.Le(D D':En):Prop where
 nx:∀Y G,D.nx Y G->D'.nx Y G
 rt:∀d G,D.rt d G->D'.rt d G
 bk:∀Y G,D.bk Y G->D'.bk Y G
 ct:∀Y G,D.ct Y G->D'.ct Y G
mutual
theorem wpS_mono{E:EK}:∀(x:Sx){Y:ak}{G:DH}{D D':En},D.Le D'->wpS Z x E Y G D->wpS Z x E Y G D'
 |.exp e,Y,G,D,D',h,q=>by rw[xq]at q ⊢;exact aM e (λy y q=>h.nx _ _ q) q
 |.asg t e,Y,G,D,D',h,q=>by rw[lG]at q ⊢;exact aM e (λy y q=>gb (λy q=>h.nx _ _ q) t q) q
 |.set o i e,Y,G,D,D',h,q=>by rw[xr]at q ⊢;exact aM e (λy y q=>aM o (λy y q=>aM i (λy y q=>Ft (λy q=>h.nx _ _ q) q) q) q) q
 |.aug i op e,Y,G,D,D',h,q=>by
  rw[xu]at q ⊢;split at q
  .exact aM e (λy y q=>Fv (λy q=>h.nx _ _ q) q) q
  .exact q
 |.ret e,Y,G,D,D',h,q=>by rw[xF]at q ⊢;exact aM e (λy y q=>h.rt _ _ q) q
 |.rtn,Y,G,D,D',h,q=>by rw[xG]at q ⊢;exact h.rt _ _ q
 |.ite c a b,Y,G,D,D',h,q=>by
  rw[xH]at q ⊢;show dF c (λt y q=>?_) q;cases t with
  |true=>exact dJ a h q
  |false=>exact dJ b h q
 |.for_ t it body,Y,G,D,D',h,q=>by
  rw[Fd]at q ⊢;exact lH it (λitems g G1 q=>Fw (λd ρ' G' k k' hk z=>gb (λρ1 z=>dJ body (D:={D with nx:=k,ct:=k,bk:=D.nx}) (D':={D' with nx:=k',ct:=k',bk:=D'.nx}) ⟨hk,h.rt,h.nx,hk⟩ z) t z) h.nx items Y G1 q) q
 |.whl c body,Y,G,D,D',h,q=>by
  rw[Fe]at q ⊢;let(n,q):=q;show⟨n,?_⟩;show Fx ?_ ?_ h.nx n Y G q
  .exact λρ' G' k k' hk z=>dF c hk z
  .exact λρ' G' k k' hk z=>dJ body (D:={D with nx:=k,ct:=k,bk:=D.nx}) (D':={D' with nx:=k',ct:=k',bk:=D'.nx}) ⟨hk,h.rt,h.nx,hk⟩ z
 |.pas,Y,G,D,D',h,q=>by rw[xJ]at q ⊢;exact h.nx _ _ q
 |.brk,Y,G,D,D',h,q=>by rw[xK]at q ⊢;exact h.bk _ _ q
 |.cnt,Y,G,D,D',h,q=>by rw[xM]at q ⊢;exact h.ct _ _ q
 |.nev,Y,G,D,D',h,q=>by rw[xN]at q;exact q.elim
theorem dJ{E:EK}:∀(x:Sxs){Y:ak}{G:DH}{D D':En},D.Le D'->az Z x E Y G D->az Z x E Y G D'
 |.nil,Y,G,D,D',h,q=>by rw[lE]at q ⊢;exact h.nx _ _ q
 |.cons s r,Y,G,D,D',h,q=>by rw[lF]at q ⊢;exact wpS_mono s (D:={D with nx:=λρ' G'=>az Z r E ρ' G' D}) (D':={D' with nx:=λρ' G'=>az Z r E ρ' G' D'}) ⟨λy y z=>dJ r h z,h.rt,h.bk,h.ct⟩ q
end
end
def PV(K:PF)(H:Hp)(F:FZ)(Q:VK):D->DH->Prop:=λd g=>∀H' F' v,Ext H F H' F'->R K H' F' g->Rep K H' F' d v->Q v H'
def PB(K:PF)(H:Hp)(F:FZ)(Q:Bool->Hp->Prop):Bool->DH->Prop:=λb g=>∀H' F',Ext H F H' F'->R K H' F' g->Q b H'
def PLs(K:PF)(H:Hp)(F:FZ)(Q:AR->Hp->Prop):AS->DH->Prop:=λds g=>∀H' F' vs,Ext H F H' F'->R K H' F' g->Reps K H' F' ds vs->Q vs H'
section
variable {K:PF} {H:Hp} {F:FZ} {G:DH} {Q:VK}
theorem PV.now{d:D}{v:V}(h:PV K H F Q d G)(r:R K H F G)(q:Rep K H F d v):Q v H:=h H F v (Ext.refl H F) r q
theorem d7{fz:Bool}{ds:AS}{vs:AR}(h:mk fz ds G (PV K H F Q))(r:R K H F G)(t:Reps K H F ds vs)(p:AQ)(g:H p=none):Q (.ref p) (upd H p (.lst vs)):=by
 cases fz with
 |true=>exact h _ _ _ (vP r g) (r.newF g) (Xj r g t)
 |false=>exact h p (r.free g) _ _ _ (di r g) (r.newL g t) rfl
theorem lJ{ds:AS}{vs:AR}(h:PV K H F Q (.tup ds) G)(r:R K H F G)(t:Reps K H F ds vs)(p:AQ)(g:H p=none):Q (.ref p) (upd H p (.tup vs)):=
 h _ _ _ (di r g) (r.new g) (vQ r g t)
end
def szl:sz<=sizeLine:=by rw[fF];decide
def dM{n:Nat}(h:n<=sz):n<=sizeLine:=cf h szl
def rB2(K:PF)(f:D->D->DH->(AT)->Prop):R2:=λx y H Q=>∃F G a b,R K H F G/\Rep K H F a x/\Rep K H F b y/\f (view G a) (view G b) G (PV K H F Q)
section
variable {X:Cx}
theorem Xw:OpR X (binaryOp .Add) (λx y H Q=>∃a b xs ys,x=.ref a/\y=.ref b/\SqL X.K H a xs/\SqL X.K H b ys/\xs⁻¹+ys⁻¹<=sizeLine/\∀p,H p=none->Q (.ref p) (upd H p (.lst (xs++ys)))):=by
 intro p9 s Y H x y v u Q I rx ry h;let(a,b,xs,ys,rfl,rfl,ha,hb,hz,q):=h;cases rx;cases ry;let(z,r1,p1,_):=I.list ha;let(g,r2,p2,_):=I.list hb;let((cls,dd,data,sl),ho,hc,n,hd):=p1.isList;let((cls2,U,O,sl2),N,J,n2,L):=p2.isList;simp only at hc hd J L;subst hc hd J L;have e:z.toArray++g.toArray=(z++g).toArray:=by simp
 show concat_meets ⟨_,ho,rfl⟩ ⟨_,N,rfl⟩ noFill_list_add seq_list_add PySem.F.slot_list_add PySem.F.entry_list_add (PySem.F.args_list_add_2 _ _)
  (list_addW a b z.toArray g.toArray n n2 dd U sl sl2 (by rw[ax,ax,<-r1⁻¹,<-r2⁻¹];exact hz)) ⟨ho,N,?_⟩
 rw[e];exact⟨.ref _,_,I.lnew (t':=s.toks) (r1.append r2) (by rw[am];exact hz),rfl,q _ I.fresh⟩
theorem Xx:OpR X (binaryOp .Add) (λx y H Q=>∃a b ys,x=.ref a/\y=.ref b/\SqT X.K H a []/\SqT X.K H b ys/\Q (.ref b) H):=by
 intro p9 s Y H x y v u Q I rx ry h;let(a,b,ys,rfl,rfl,ha,hb,q):=h;cases rx;cases ry;let(its,r1,p1,_):=I.tuple ha;let(L,r2,p2,_):=I.tuple hb;let((cls,dd,data,sl),ho,hc,n,hd):=id p1;let((cls2,O,N,U),J,g,n2,z):=id p2;simp only at hc hd g z;subst hc hd g z;cases r1;exact concat_meets ⟨_,ho,rfl⟩ ⟨_,J,rfl⟩ noFill_tuple_add seq_tuple_add PySem.F.slot_tuple_add PySem.F.entry_tuple_add (PySem.F.args_tuple_add_2 _ _)
   (tuple_addW0 a b _ L.toArray n n2 dd O sl U (!2)) ⟨ho,J,⟨.ref b,H,I,rfl,q⟩⟩
theorem FJ{K:PF}{H:Hp}{F:FZ}{ds:AS}{vs:AR}(t:Reps K H F ds vs):ds=[]↔vs=[]:=by
 have:=t⁻¹;constructor
 .intro e;subst e;exact dy.mp this.symm
 .intro e;subst e;exact dy.mp this
theorem Xy{x:Str}{n:Nat}(h1:n<=1000)(h:x⁻¹*n<=sz):MulOk x (n:Int):=by
 have h2:((x⁻¹*n:Nat):Int)<=((1000000:Nat):Int):=Int.ofNat_le.mpr h;rw[Int.natCast_mul]at h2;show⟨?_,?_,?_⟩
 .rw[bX (!0),bX (!0)];rfl
 .intro hn _ hh;have q:(0:Int)<n:=by lia
  have g:(x⁻¹:Int)<=(2 ^ 63-1)/n:=(Int.le_ediv_iff_mul_le q).mpr (Int.le_trans h2 (!1));exact absurd hh (Int.not_lt.mpr g)
 .intro _ _;unfold Builtin.Str.tooLong;rw[fF,bq];exact bX (by have:sz=1000000:=rfl;lia)
theorem FN(l:AA):∀(n:Nat)(g:AA),(List.replicate n l.toArray).foldl (· ++ ·) g.toArray=(g++reps l n).toArray
 |0,g=>by simp[reps]
 |n+1,g=>by
  rw[fm,List.foldl_cons];have e:g.toArray++l.toArray=(g++l).toArray:=by simp
  rw[e,FN l n (g++l)];unfold reps;rw[fm,hU,List.append_assoc]
theorem Xz(n:Nat):reps ([]:AA) n=[]:=by
 unfold reps;induction n with
 |zero=>rfl
 |succ n g=>rw[fm,hU,g];rfl
theorem XC{g:Type}(l:List g)(n:Nat):(reps l n)⁻¹=n*l⁻¹:=len_rep l n
theorem XD(l:AA)(n:Nat):Txt.mul (tx l) (n:Int)=tx (reps l n):=by
 unfold Txt.mul;by_cases h:(n:Int)<1
 .rw[if_pos h];have:n=0:=by lia
  subst this;rfl
 .rw[if_neg h];by_cases h2:((n:Int)==1||(tx l)⁻¹==0)=true
  .rw[if_pos h2];rw[dL]at h2;rcases h2 with h2|h2
   .have:n=1:=by have:=eq_of_beq h2;lia
    subst this;simp[reps]
   .have g:=eq_of_beq h2;rw[cA]at g;have:l=[]:=dy.mp g;subst this;rw[Xz]
  .rw[if_neg h2];have e:=FN l n [];rw[List.nil_append]at e;exact fb Str.mk (!!e)
theorem XF(op:Operator)(fz:Bool):OpR X (binaryOp op) (rB2 X.K (dj op fz)):=by
 intro p9 s Y H x y v u Q I q z h;let(F,G,a,b,r,L,N,h):=h;generalize O:view G a=va at h;generalize U:view G b=vb at h;have g:∀{p:Int->Int->Prop},gH va vb p->∃i j,x=.int i/\y=.int j/\p i j:=λ{p} h=>by
  let(i,j,rfl,rfl,h):=Ff h;cases fU O;cases fU U;exact⟨i,j,L,N,h⟩
 cases op with
 |Add=>
  have h:jq fz va vb G _:=h;unfold jq at h;cases va with
  |int _=>cases vb with
   |int _=>
    cases fU O;cases fU U;have ha:x=.int _:=L;have hb:y=.int _:=N;subst ha;subst hb;exact SJ p9 s Y H _ _ v u Q I q z ⟨_,_,rfl,rfl,h.now r rfl⟩
   |_=>exact h.elim
  |str _=>cases vb with
   |str _=>
    cases gG O;cases gG U;let(ha,la):=L;let(hb,lb):=N;subst ha;subst hb;show Tj p9 s Y H _ _ v u Q I q z ⟨_,_,rfl,rfl,?_,?_⟩
    .rw[cA,cA];exact dM h.1
    .rw[qP];exact h.2.now r ⟨rfl,by rw[am];exact h.1⟩
   |_=>exact h.elim
  |lst _=>cases vb with
   |lst _=>
    let(p,vs,rfl,q1,t1):=Rep.list r L O;let(p',J,rfl,q2,t2):=Rep.list r N U;exact Xw p9 s Y H _ _ v u Q I q z ⟨p,p',vs,J,rfl,rfl,q1,q2,by rw[<-t1⁻¹,<-t2⁻¹];exact dM h.1,d7 h.2 r (t1.append t2)⟩
   |_=>exact h.elim
  |tup xs=>cases vb with
   |tup ys=>
    cases gF O;cases gF U;let(p,vs,rfl,q1,t1):=id L;let(p',J,rfl,q2,t2):=id N;by_cases hx:vs=[]
    .subst hx;have:xs=[]:=(FJ t1).mpr rfl;subst this;exact Xx p9 s Y H _ _ v u Q I q z ⟨p,p',J,rfl,rfl,q1.sq,q2.sq,h.2.now r N⟩
    .show Uh p9 s Y H _ _ v u Q I q z ⟨p,p',vs,J,rfl,rfl,q1.sq,q2.sq,hx,by rw[<-t1⁻¹,<-t2⁻¹];exact dM h.1,λe=>?_,λt=>lJ h.2 r (t1.append t2)⟩;subst e;have:ys=[]:=(FJ t2).mpr rfl;subst this;have h2:=h.2;rw[fy]at h2;exact h2.now r L
   |_=>exact h.elim
  |_=>exact h.elim
 |Sub=>
  let(i,j,rfl,rfl,h):=g h;exact SM p9 s Y H _ _ v u Q I q z ⟨_,_,rfl,rfl,h.now r rfl⟩
 |Mult=>
  have h:jr fz va vb G _:=h;unfold jr at h;cases vb with
  |int n=>cases va with
   |int _=>
    cases fU O;cases fU U;have ha:x=.int _:=L;have hb:y=.int _:=N;subst ha;subst hb;exact SN p9 s Y H _ _ v u Q I q z ⟨_,_,rfl,rfl,h.1,h.2.now r rfl⟩
   |str _=>
    cases gG O;cases fU U;let(ha,la):=L;have hb:y=.int _:=N;subst ha;subst hb;let(h0,h1,h2,h3):=h;let(n,rfl):=ck h0;rw[bq]at h2 h3;show Vf p9 s Y H _ _ v u Q I q z ⟨_,_,rfl,rfl,Xy (!0) (by rw[cA];exact h2),?_⟩;rw[XD];exact h3.now r ⟨rfl,by rw[XC,Nat.mul_comm];exact h2⟩
   |_=>exact h.elim
  |_=>exact h.elim
 |FloorDiv=>
  let(i,j,rfl,rfl,h):=g h;exact Vv p9 s Y H _ _ v u Q I q z ⟨_,_,rfl,rfl,h.1,h.2.now r rfl⟩
 |Mod=>
  let(i,j,rfl,rfl,h):=g h;exact SQ p9 s Y H _ _ v u Q I q z ⟨_,_,rfl,rfl,h.1,h.2.now r rfl⟩
 |Pow=>
  let(i,j,rfl,rfl,h):=g h;exact SX p9 s Y H _ _ v u Q I q z ⟨_,_,rfl,rfl,h.1,h.2.now r rfl⟩
 |_=>exact h.elim
end
mutual
theorem lK:∀{d:D},nr d=true->deq d d=true
 |.non,_=>rfl
 |.bl b,_=>by simp[deq]
 |.int i,_=>by simp[deq]
 |.str l,_=>by simp[deq]
 |.tup xs,h=>by rw[deq];exact xT (by rw[nr]at h;exact h)
 |.lst xs,h=>by rw[deq];exact xT (by rw[nr]at h;exact h)
 |.ref a,h=>by rw[nr]at h;cases h
 |.scr a,h=>by rw[nr]at h;cases h
 |.exn a,h=>by rw[nr]at h;cases h
 |.exa _ _ _,h=>by rw[nr]at h;cases h
 |.obj _ _ _,h=>by rw[nr]at h;cases h
 |.dct _ _,h=>by rw[nr]at h;cases h
theorem xT:∀{ds:AS},nrs ds=true->bN ds ds=true
 |[],_=>rfl
 |d::ds,h=>by
  rw[nrs,ae]at h;rw[bN,lK h.1,xT h.2];rfl
end
def rZ:∀(xs ys:AS),bN xs ys=((List.range (min xs⁻¹ ys⁻¹)).all (λj=>deq (xs.getD j .non) (ys.getD j .non))&&xs⁻¹==ys⁻¹)
 |[],[]=>rfl
 |[],y::ys=>by simp[bN]
 |x::xs,[]=>by simp[bN]
 |x::xs,y::ys=>by
  have e:min (x::xs)⁻¹ (y::ys)⁻¹=(min xs⁻¹ ys⁻¹)+1:=by simp only[c9];lia
  rw[bN,rZ xs ys,e,List.range_succ_eq_map,List.all_cons,List.all_map];simp only[List.getD_cons_zero,c9,Bool.and_assoc];congr 1;congr 1;rw[eh];simp
def XH{xs ys:AS}(h:xs⁻¹≠ys⁻¹):bN xs ys=false:=by rw[rZ];rw[show(xs⁻¹==ys⁻¹)=false from dS.mpr h,Bool.and_false]
def lL:∀{xs:AS}{i:Nat},nrs xs=true->nr (xs.getD i .non)=true
 |[],_,_=>rfl
 |x::xs,0,h=>by rw[nrs,ae]at h;exact h.1
 |x::xs,i+1,h=>by rw[nrs,ae]at h;rw[List.getD_cons_succ];exact lL h.2
def lM:∀{xs:AS}{i:Nat},dpt (xs.getD i .non)<=bh xs
 |[],_=>cb _
 |x::xs,0=>by rw[bh,List.getD_cons_zero];lia
 |x::xs,i+1=>by rw[bh,List.getD_cons_succ];have:=@lM xs i;lia
section
variable {X:Cx} {p9:AC} {σ:L2.St} {H:Hp} {s:AI} {F:FZ}
mutual
theorem sr(I:Inv X p9 σ H s):∀{d d':D}{v:V},nr d=true->nr d'=true->Rep X.K H F d v->Rep X.K H F d' v->d=d'
 |.non,d',v,_,n',h,h'=>by
  have h:v=.non:=h;subst h;cases d' with
  |non=>rfl
  |bl _=>simp only[Rep]at h';cases h'
  |int _=>simp only[Rep]at h';cases h'
  |ref _=>simp only[Rep]at h';cases h'
  |scr _=>rw[nr]at n';cases n'
  |exn _=>rw[nr]at n';cases n'
  |exa _ _ _=>rw[nr]at n';cases n'
  |obj _ _ _=>rw[nr]at n';cases n'
  |dct _ _=>rw[nr]at n';cases n'
  |str _=>simp only[Rep]at h';let(e,_):=h';cases e
  |tup _=>simp only[Rep]at h';let(_,_,e,_):=h';cases e
  |lst _=>simp only[Rep]at h';let(_,_,e,_):=h';cases e
 |.bl b,d',v,_,n',h,h'=>by
  have h:v=.bl b:=h;subst h;cases d' with
  |non=>simp only[Rep]at h';cases h'
  |bl _=>simp only[Rep]at h';cases h';rfl
  |int _=>simp only[Rep]at h';cases h'
  |ref _=>simp only[Rep]at h';cases h'
  |scr _=>rw[nr]at n';cases n'
  |exn _=>rw[nr]at n';cases n'
  |exa _ _ _=>rw[nr]at n';cases n'
  |obj _ _ _=>rw[nr]at n';cases n'
  |dct _ _=>rw[nr]at n';cases n'
  |str _=>simp only[Rep]at h';let(e,_):=h';cases e
  |tup _=>simp only[Rep]at h';let(_,_,e,_):=h';cases e
  |lst _=>simp only[Rep]at h';let(_,_,e,_):=h';cases e
 |.int b,d',v,_,n',h,h'=>by
  have h:v=.int b:=h;subst h;cases d' with
  |non=>simp only[Rep]at h';cases h'
  |bl _=>simp only[Rep]at h';cases h'
  |int _=>simp only[Rep]at h';cases h';rfl
  |ref _=>simp only[Rep]at h';cases h'
  |scr _=>rw[nr]at n';cases n'
  |exn _=>rw[nr]at n';cases n'
  |exa _ _ _=>rw[nr]at n';cases n'
  |obj _ _ _=>rw[nr]at n';cases n'
  |dct _ _=>rw[nr]at n';cases n'
  |str _=>simp only[Rep]at h';let(e,_):=h';cases e
  |tup _=>simp only[Rep]at h';let(_,_,e,_):=h';cases e
  |lst _=>simp only[Rep]at h';let(_,_,e,_):=h';cases e
 |.str l,d',v,_,n',h,h'=>by
  let(h,_):=h;subst h;cases d' with
  |str l'=>
   let(e,_):=h';injection e with e;rw[CN e]
  |non=>simp only[Rep]at h';cases h'
  |bl _=>simp only[Rep]at h';cases h'
  |int _=>simp only[Rep]at h';cases h'
  |ref _=>simp only[Rep]at h';cases h'
  |scr _=>rw[nr]at n';cases n'
  |exn _=>rw[nr]at n';cases n'
  |exa _ _ _=>rw[nr]at n';cases n'
  |obj _ _ _=>rw[nr]at n';cases n'
  |dct _ _=>rw[nr]at n';cases n'
  |tup _=>simp only[Rep]at h';let(_,_,e,_):=h';cases e
  |lst _=>simp only[Rep]at h';let(_,_,e,_):=h';cases e
 |.tup xs,d',v,n,n',h,h'=>by
  let(a,vs,e,q,t):=h;subst e;cases d' with
  |tup ys=>
   let(a',vs',e,q',t'):=h';injection e with e;subst e;have:=I.tuple_inj q.sq q'.sq;subst this;rw[nr]at n n';rw[xU I n n' t t']
  |lst ys=>
   let(a',vs',e,q',t'):=h';injection e with e;subst e;let(its,_,(o,e1,c1,_),_):=I.tuple q.sq;let(its',_,(o',n',e2,c2,_),_):=I.list q'.sq;rw[e1]at e2;cases e2;rw[c1]at c2;exact absurd c2 (by ac_rfl)
  |ref _=>rw[nr]at n';cases n'
  |scr _=>rw[nr]at n';cases n'
  |exn _=>rw[nr]at n';cases n'
  |exa _ _ _=>rw[nr]at n';cases n'
  |obj _ _ _=>rw[nr]at n';cases n'
  |dct _ _=>rw[nr]at n';cases n'
  |str _=>simp only[Rep]at h';let(e,_):=h';cases e
  |non=>simp only[Rep]at h';cases h'
  |bl _=>simp only[Rep]at h';cases h'
  |int _=>simp only[Rep]at h';cases h'
 |.lst xs,d',v,n,n',h,h'=>by
  let(a,vs,e,q,t):=h;subst e;cases d' with
  |lst ys=>
   let(a',vs',e,q',t'):=h';injection e with e;subst e;have:=I.list_inj q.sq q'.sq;subst this;rw[nr]at n n';rw[xU I n n' t t']
  |tup ys=>
   let(a',vs',e,q',t'):=h';injection e with e;subst e;let(its,_,(o,e1,c1,_),_):=I.tuple q'.sq;let(its',_,(o',n',e2,c2,_),_):=I.list q.sq;rw[e1]at e2;cases e2;rw[c1]at c2;exact absurd c2 (by ac_rfl)
  |ref _=>rw[nr]at n';cases n'
  |scr _=>rw[nr]at n';cases n'
  |exn _=>rw[nr]at n';cases n'
  |exa _ _ _=>rw[nr]at n';cases n'
  |obj _ _ _=>rw[nr]at n';cases n'
  |dct _ _=>rw[nr]at n';cases n'
  |str _=>simp only[Rep]at h';let(e,_):=h';cases e
  |non=>simp only[Rep]at h';cases h'
  |bl _=>simp only[Rep]at h';cases h'
  |int _=>simp only[Rep]at h';cases h'
 |.ref a,d',v,n,_,_,_=>by rw[nr]at n;cases n
 |.scr a,d',v,n,_,_,_=>by rw[nr]at n;cases n
 |.exn a,d',v,n,_,_,_=>by rw[nr]at n;cases n
 |.exa _ _ _,d',v,n,_,_,_=>by rw[nr]at n;cases n
 |.obj _ _ _,d',v,n,_,_,_=>by rw[nr]at n;cases n
 |.dct _ _,d',v,n,_,_,_=>by rw[nr]at n;cases n
theorem xU(I:Inv X p9 σ H s):∀{ds ds':AS}{vs:AR},nrs ds=true->nrs ds'=true->Reps X.K H F ds vs->Reps X.K H F ds' vs->ds=ds'
 |[],[],_,_,_,_,_=>rfl
 |[],_::_,_,_,_,h,⟨v,r,e,_⟩=>by have h:_=[]:=h;rw[h]at e;cases e
 |_::_,[],_,_,_,⟨v,r,e,_⟩,h=>by have h:_=[]:=h;rw[h]at e;cases e
 |d::ds,d'::ds',_,n,n',⟨v,r,e,h,t⟩,⟨v',r',e',h',t'⟩=>by
  subst e;injection e' with e1 e2;subst e1;subst e2;rw[nrs,ae]at n n';rw[sr I n.1 n'.1 h h',xU I n.2 n'.2 t t']
end
theorem su{I:Inv X p9 Y H s}{ds:AS}{vs:AR}{g:AB}(t:Reps X.K H F ds vs)(r:Vals vs g)(j:Nat)(h:j<g⁻¹):∃v,Rep X.K H F (ds.getD j .non) v/\RelV v g[j]:=by
 have hl:j<ds⁻¹:=by rw[t⁻¹,r⁻¹];exact h
 have z:ds[j]?=-(ds.getD j .non):=by rw[b6,al hl];rfl
 let(v,J,L):=t.get z;let(u,q,N):=r.get J;rw[al h]at q;cases q;exact⟨v,L,N⟩
theorem XJ(a b:AA):(tx a==tx b)=(a==b):=by rw[eh,a8,a8];exact⟨λh=>CN h,λh=>by rw[h]⟩
theorem XM(I:Inv X p9 Y H s){n:Nat}{A:AM}{xs ys:AS}{a q:AQ}{vs O:AR}{g its':AB}
  (ih:∀m,m<n->∀(A:AM)(d d':D)(v v':V)(u u':AN),A.units+m<cLine->min (dpt d) (dpt d')<=m->nr d=true->nr d'=true->Rep X.K H F d v->Rep X.K H F d' v'->RelV v u->RelV v' u'->
   SeqAt.RcAt A s u u' (deq d d')/\SeqAt.EqAt A s u u' (deq d d')/\SeqAt.RcNeAt A s u u' (!deq d d'))
  (hu:A.units+n<cLine) (hd:min (dpt (.tup xs)) (dpt (.tup ys))<=n) (U:nr (.tup xs)=true) (n2:nr (.tup ys)=true) (h:Rep X.K H F (.tup xs) (.ref a)) (h':Rep X.K H F (.tup ys) (.ref q))
  (pt:s.heap.IsTuple a g.toArray) (J:s.heap.IsTuple q its'.toArray) (rv:Vals vs g) (L:Vals O its') (tt:Reps X.K H F xs vs) (N:Reps X.K H F ys O):
  SeqAt.RcAt A s (.ref a) (.ref q) (deq (.tup xs) (.tup ys))/\SeqAt.EqAt A s (.ref a) (.ref q) (deq (.tup xs) (.tup ys))/\SeqAt.RcNeAt A s (.ref a) (.ref q) (!deq (.tup xs) (.tup ys)):=by
 have hd':min (bh xs+1) (bh ys+1)<=n:=by rw[dpt,dpt]at hd;exact hd
 have hn1:nrs xs=true:=by rw[nr]at U;exact U
 have hn2:nrs ys=true:=by rw[nr]at n2;exact n2
 have l1:g.toArray.size=xs⁻¹:=by rw[ax,<-rv⁻¹,tt⁻¹]
 have l2:its'.toArray.size=ys⁻¹:=by rw[ax,<-L⁻¹,N⁻¹]
 have he:∀j (h1:j<g.toArray.size) (h2:j<its'.toArray.size),SeqAt.EqAt A.in1 s g.toArray[j] its'.toArray[j] (deq (xs.getD j .non) (ys.getD j .non)):=by intro j h1 h2;let(w1,q1,q2):=su (I:=I) tt rv j (!!h1);let(w2,q3,q4):=su (I:=I) N L j (!!h2);have d1:=@lM xs j;have d2:=@lM ys j;exact(ih (n-1) (!0) A.in1 _ _ w1 w2 _ _ (by change A.units+1+(n-1)<cLine;lia) (!0) (lL hn1) (lL hn2) q1 q3 (!!q2) (!!q4)).2.1
 have e:deq (.tup xs) (.tup ys)=((List.range (min g.toArray.size its'.toArray.size)).all (λj=>deq (xs.getD j .non) (ys.getD j .non))&&g.toArray.size==its'.toArray.size):=by rw[deq,rZ,l1,l2]
 have rc:SeqAt.RcAt A s (.ref a) (.ref q) (deq (.tup xs) (.tup ys)):=by rw[e];exact .tuples pt J (!0) he
 show⟨rc,?_,by rw[e];exact .tuples pt J (!0) he⟩;by_cases z:a=q
 .subst z;have:=sr I U n2 h h';rw[<-this,lK U];exact .same _
 .exact .of_refs z rc
theorem XN(I:Inv X p9 Y H s){n:Nat}{A:AM}{xs ys:AS}{a q:AQ}{vs vs':AR}{g its':AB}
  (ih:∀m,m<n->∀(A:AM)(d d':D)(v v':V)(u u':AN),A.units+m<cLine->min (dpt d) (dpt d')<=m->nr d=true->nr d'=true->Rep X.K H F d v->Rep X.K H F d' v'->RelV v u->RelV v' u'->
   SeqAt.RcAt A s u u' (deq d d')/\SeqAt.EqAt A s u u' (deq d d')/\SeqAt.RcNeAt A s u u' (!deq d d'))
  (hu:A.units+n<cLine) (hd:min (dpt (.lst xs)) (dpt (.lst ys))<=n) (n1:nr (.lst xs)=true) (n2:nr (.lst ys)=true) (h:a=q->xs=ys)
  (pt:s.heap.IsList a g.toArray) (J:s.heap.IsList q its'.toArray) (rv:Vals vs g) (U:Vals vs' its') (tt:Reps X.K H F xs vs) (tt':Reps X.K H F ys vs'):
  SeqAt.RcAt A s (.ref a) (.ref q) (deq (.lst xs) (.lst ys))/\SeqAt.EqAt A s (.ref a) (.ref q) (deq (.lst xs) (.lst ys))/\SeqAt.RcNeAt A s (.ref a) (.ref q) (!deq (.lst xs) (.lst ys)):=by
 have hd':min (bh xs+1) (bh ys+1)<=n:=by rw[dpt,dpt]at hd;exact hd
 have hn1:nrs xs=true:=by rw[nr]at n1;exact n1
 have hn2:nrs ys=true:=by rw[nr]at n2;exact n2
 have l1:g.toArray.size=xs⁻¹:=by rw[ax,<-rv⁻¹,tt⁻¹]
 have l2:its'.toArray.size=ys⁻¹:=by rw[ax,<-U⁻¹,tt'⁻¹]
 have N:∀(L:SeqAt.RcAt A s (.ref a) (.ref q) (deq (.lst xs) (.lst ys))),SeqAt.EqAt A s (.ref a) (.ref q) (deq (.lst xs) (.lst ys)):=λL=>by
  by_cases z:a=q
  .have:=h z;subst z;subst this;rw[lK n1];exact .same _
  .exact .of_refs z L
 by_cases hl:xs⁻¹=ys⁻¹
 .have he:∀j (h1:j<g.toArray.size) (h2:j<its'.toArray.size),SeqAt.EqAt A.in1 s g.toArray[j] its'.toArray[j] (deq (xs.getD j .non) (ys.getD j .non)):=by
   intro j h1 h2;let(w1,q1,q2):=su (I:=I) tt rv j (!!h1);let(w2,q3,q4):=su (I:=I) tt' U j (!!h2);have d1:=@lM xs j;have d2:=@lM ys j;exact(ih (n-1) (!0) A.in1 _ _ w1 w2 _ _ (by change A.units+1+(n-1)<cLine;lia) (!0) (lL hn1) (lL hn2) q1 q3 (!!q2) (!!q4)).2.1
  have e:deq (.lst xs) (.lst ys)=(List.range g.toArray.size).all (λj=>deq (xs.getD j .non) (ys.getD j .non)):=by rw[deq,rZ,l1,hl,Nat.min_self];simp
  have L:SeqAt.RcAt A s (.ref a) (.ref q) (deq (.lst xs) (.lst ys)):=by rw[e];exact .lists pt J (by rw[l1,l2];exact hl) (!0) he
  exact⟨L,N L,by rw[e];exact .lists pt J (by rw[l1,l2];exact hl) (!0) he⟩
 .have e:deq (.lst xs) (.lst ys)=false:=by rw[deq];exact XH hl
  have O:(g.toArray.size != its'.toArray.size)=true:=by rw[l1,l2];simpa using hl
  have L:SeqAt.RcAt A s (.ref a) (.ref q) (deq (.lst xs) (.lst ys)):=by rw[e];exact .lists_lengths pt J O (!0)
  exact⟨L,N L,by rw[e];exact .lists_lengths pt J O (!0)⟩
inductive Sh (K:PF) (H:Hp) (F:FZ) (s:AI):D->V->AN->Prop
 |non:Sh K H F s .non .non .none
 |bl {b:Bool}:Sh K H F s (.bl b) (.bl b) (.bool b)
 |int {i:Int} {t:Tok}:Sh K H F s (.int i) (.int i) (.int i t)
 |str {l:AA} {t:Tok}:Sh K H F s (.str l) (.str (tx l)) (.str (tx l) t)
 |tup {ds:AS} {a:AQ} {vs:AR} {its:AB} (p:s.heap.IsTuple a its.toArray) (r:Vals vs its) (t:Reps K H F ds vs):Sh K H F s (.tup ds) (.ref a) (.ref a)
 |lst {ds:AS} {a:AQ} {vs:AR} {its:AB} (p:s.heap.IsList a its.toArray) (r:Vals vs its) (t:Reps K H F ds vs):Sh K H F s (.lst ds) (.ref a) (.ref a)
theorem FP(I:Inv X p9 Y H s){d:D}{v:V}{u:AN}(n:nr d=true)(h:Rep X.K H F d v)(r:RelV v u):Sh X.K H F s d v u:=by
 cases d with
 |non=>have e:v=.non:=h;subst e;have e:u=Value.none:=r;subst e;exact .non
 |bl b=>have e:v=.bl b:=h;subst e;have e:u=Value.bool b:=r;subst e;exact .bl
 |int i=>have e:v=.int i:=h;subst e;obtain⟨t,e⟩:∃t,u=Value.int i t:=r;subst e;exact .int
 |str l=>let(e,_):=h;subst e;obtain⟨t,e⟩:∃t,u=Value.str (tx l) t:=r;subst e;exact .str
 |tup ds=>let(a,vs,e,q,J):=h;subst e;have e:u=Value.ref a:=r;subst e;let(g,z,pt,_):=I.tuple q.sq;exact .tup pt z J
 |lst ds=>let(a,vs,e,q,J):=h;subst e;have e:u=Value.ref a:=r;subst e;let(g,z,L,_):=I.list q.sq;exact .lst L.isList z J
 |_=>rw[nr]at n;cases n
theorem xV(I:Inv X p9 Y H s):∀(n:Nat)(A:AM)(d d':D)(v v':V)(u O:AN),A.units+n<cLine->min (dpt d) (dpt d')<=n->nr d=true->nr d'=true->Rep X.K H F d v->Rep X.K H F d' v'->RelV v u->RelV v' O->
  SeqAt.RcAt A s u O (deq d d')/\SeqAt.EqAt A s u O (deq d d')/\SeqAt.RcNeAt A s u O (!deq d d'):=by
 intro n;induction n using Nat.strongRecOn with
 |_ n ih=>
  intro A d d' v v' u O hu hd U n2 h h' r r';have g:A.units<cLine:=by lia
  have N:=FP I n2 h' r';cases FP I U h r with
  |non=>
   cases N with
   |non=>exact⟨.none_none,.same _,.none_none⟩
   |bl=>exact⟨.none_bool _,.none_bool _,.none_bool _⟩
   |int=>exact⟨.none_int _ _,.none_int _ _,.none_int _ _⟩
   |str=>exact⟨.none_str _ _,.none_str _ _,.none_str _ _⟩
   |tup q J L=>exact⟨.none_tuple q g,.none_tuple q g,.none_tuple q g⟩
   |lst q J L=>exact⟨.none_list q g,.none_list q g,.none_list q g⟩
  |bl=>
   cases N with
   |non=>exact⟨.bool_none _,.bool_none _,.bool_none _⟩
   |bl=>exact⟨.bool_bool _ _,.bool_bool _ _,.bool_bool _ _⟩
   |int=>exact⟨.bool_int _ _ _,.bool_int _ _ _,.bool_int _ _ _⟩
   |str=>exact⟨.bool_str _ _ _,.bool_str _ _ _,.bool_str _ _ _⟩
   |tup q J L=>exact⟨.bool_tuple _ q g,.bool_tuple _ q g,.bool_tuple _ q g⟩
   |lst q J L=>exact⟨.bool_list _ q g,.bool_list _ q g,.bool_list _ q g⟩
  |int=>
   cases N with
   |non=>exact⟨.int_none _ _,.int_none _ _,.int_none _ _⟩
   |bl=>exact⟨.int_bool _ _ _,.int_bool _ _ _,.int_bool _ _ _⟩
   |int=>exact⟨.int_int _ _ _ _,.int_int _ _ _ _,.int_int _ _ _ _⟩
   |str=>exact⟨.int_str _ _ _ _,.int_str _ _ _ _,.int_str _ _ _ _⟩
   |tup q J L=>exact⟨.int_tuple _ _ q g,.int_tuple _ _ q g,.int_tuple _ _ q g⟩
   |lst q J L=>exact⟨.int_list _ _ q g,.int_list _ _ q g,.int_list _ _ q g⟩
  |str=>
   cases N with
   |non=>exact⟨.str_none _ _,.str_none _ _,.str_none _ _⟩
   |bl=>exact⟨.str_bool _ _ _,.str_bool _ _ _,.str_bool _ _ _⟩
   |int=>exact⟨.str_int _ _ _ _,.str_int _ _ _ _,.str_int _ _ _ _⟩
   |str=>rw[deq,<-XJ];exact⟨.str_str _ _ _ _,.str_str _ _ _ _,.str_str _ _ _ _⟩
   |tup q J L=>exact⟨.str_tuple _ _ q g,.str_tuple _ _ q g,.str_tuple _ _ q g⟩
   |lst q J L=>exact⟨.str_list _ _ q g,.str_list _ _ q g,.str_list _ _ q g⟩
  |tup p rv tt=>
   cases N with
   |non=>exact⟨.tuple_none p g,.tuple_none p g,.tuple_none p g⟩
   |bl=>exact⟨.tuple_bool _ p g,.tuple_bool _ p g,.tuple_bool _ p g⟩
   |int=>exact⟨.tuple_int _ _ p g,.tuple_int _ _ p g,.tuple_int _ _ p g⟩
   |str=>exact⟨.tuple_str _ _ p g,.tuple_str _ _ p g,.tuple_str _ _ p g⟩
   |tup q J L=>exact XM I ih hu hd U n2 h h' p q rv J tt L
   |lst q J L=>exact⟨.tuple_list p q g,.tuple_list p q g,.tuple_list p q g⟩
  |lst p rv tt=>
   cases N with
   |non=>exact⟨.list_none p g,.list_none p g,.list_none p g⟩
   |bl=>exact⟨.list_bool _ p g,.list_bool _ p g,.list_bool _ p g⟩
   |int=>exact⟨.list_int _ _ p g,.list_int _ _ p g,.list_int _ _ p g⟩
   |str=>exact⟨.list_str _ _ p g,.list_str _ _ p g,.list_str _ _ p g⟩
   |tup q J L=>exact⟨.list_tuple p q g,.list_tuple p q g,.list_tuple p q g⟩
   |lst q J L=>exact XN I ih hu hd U n2 (λz=>by subst z;have e:=sr I U n2 h h';injection e) p q rv J tt L
end
def FA(F:FZ)(G:DH):FZ:=λa=>F a\/∃o,G a=-o
def xW{H:Hp}{F:FZ}{G:DH}:Ext H F H (FA F G):=⟨λz f=>.inl f,λz z=>rfl,λz z h=>h,λz z z h=>h⟩
def sy{K:PF}{H:Hp}{F:FZ}{G:DH}{d:D}{v:V}(r:R K H F G)(h:Rep K H F d v):Rep K H (FA F G) (view G d) v:=by
 cases d with
 |ref p=>
  have z:v=.ref p:=h;cases g:G p with
  |none=>
   have e:view G (.ref p)=.ref p:=by simp only[view,g]
   rw[e];exact z
  |some o=>
   cases o with
   |lst ds=>
    have e:view G (.ref p)=.lst ds:=by simp only[view,g]
    rw[e];let(vs,q,t):=r.lst g;exact⟨p,vs,z,⟨.inr ⟨_,g⟩,q⟩,Reps.ext xW t⟩
   |dct ks ds=>
    have e:view G (.ref p)=.dct ks ds:=by simp only[view,g]
    rw[e];let(kv,q,J,t):=r.dct g;exact⟨p,kv,z,⟨.inr ⟨_,g⟩,q⟩,J,Reps.ext xW t⟩
 |_=>exact Rep.ext xW h
def FQ{a b:List Int}(h:bz a=bz b):a=b:=by unfold bz at h;exact(List.map_inj_right λz z e=>Sum.inl.inj e).mp h
def FT(n:List Int):(bz n).map kV=n.map V.int:=by unfold bz;rw[cp];rfl
def xX:∀(ks:List (List Int))(kv:List (List Key×V))(n:List Int),kv.map (·.1)=ks.map bz->cI kv (bz n)=(kIx ks n).bind λi=>(kv.map (·.2))[i]?
 |[],kv,n,h=>by cases List.map_eq_nil_iff.mp h;rfl
 |k::ks,[],n,h=>by cases h
 |k::ks,p::kv,n,h=>by
  have h1:p.1=bz k:=(gX h).1;have h2:kv.map (·.1)=ks.map bz:=(gX h).2;have g:=xX ks kv n h2;by_cases e:k=n
  .subst e;rw[qU h1];simp[kIx,eL]
  .rw[qW (by rw[h1];exact λz=>e (FQ z)),g];unfold kIx;rw[eL,if_neg (!!e)];cases ks.findIdx? (λk=>decide (k=n))<;>rfl
def FW{K:PF}{H:Hp}{F:FZ}:∀{ds:AS}{vs:AR}{ns:List Int},bj ds=-ns->Reps K H F ds vs->vs=ns.map V.int
 |[],_,_,e,h=>by cases e;exact h
 |d::ds,_,ns,e,⟨v,r,ev,hd,ht⟩=>by
  cases d with
  |int i=>
   simp only[bj]at e;cases q:bj ds with
   |none=>rw[q]at e;cases e
   |some l=>
    rw[q]at e;cases e;rw[ev,FW q ht,show v=.int i from hd];rfl
  |_=>cases e
def lN{K:PF}{H:Hp}{F:FZ}{d:D}{v:V}{k:List Int->Prop}(h:Rep K H F d v)(q:cB d k):∃n b,k n/\v=.ref b/\H b=-(.tup ((bz n).map kV))/\d=.tup (n.map D.int):=by
 unfold cB at q;split at q
 .rename_i l;split at q
  .rename_i ns e;let(b,vs,J,g,rs):=h;have L:=FW e rs;subst L;show⟨ns,b,q,J,by rw[FT];exact g.it,?_⟩;congr 1;clear rs g J q;induction l generalizing ns with
   |nil=>cases e;rfl
   |cons d l N=>
    cases d with
    |int i=>
     simp only[bj]at e;cases z:bj l with
     |none=>rw[z]at e;cases e
     |some m=>rw[z]at e;cases e;rw[N m z];rfl
    |_=>cases e
  .exact q.elim
 .exact q.elim
def sE{ks:List (List Int)}{kv:List (List Key×V)}{n:List Int}(h:kv.map (·.1)=ks.map bz):(cI kv (bz n)).isSome=(kIx ks n).isSome:=by
 rw[xX ks kv n h];cases e:kIx ks n with
 |none=>rfl
 |some i=>
  have hl:i<ks⁻¹:=(cS.mp e).1;have g:kv⁻¹=ks⁻¹:=by have:=fb List.length h;simpa using this
  rw[Option.bind_some,al (by rw[af];lia)];rfl
def rC2(K:PF)(f:D->D->(Bool->Prop)->Prop):R2:=λx y H Q=>∃F G a b,R K H F G/\Rep K H F a x/\Rep K H F b y/\f (view G a) (view G b) (λc=>PV K H F Q (.bl c) G)
section
variable {X:Cx}
theorem Gd(c:Nat)(l:AA):(!(Builtin.Str.occurrences (tx l) (tx [c]) 0 (tx l)⁻¹ 1).isEmpty)=l.contains c:=by have:=StrLaws.found_one (tx l) c;rw[this,eh];simp
theorem XQ{p9:AC}{Y:L2.St}{H:Hp}{s:AI}{F:FZ}(I:Inv X p9 Y H s){A:AM}{x:D}{v:V}{u:AN}(hu:A.units+64<cLine)(hx:nr x=true)(rx:Rep X.K H F x v)(ru:RelV v u):
  ∀{ds:AS}{vs:AR}{g:AB},nrs ds=true->bh ds<=60->Reps X.K H F ds vs->Vals vs g->∃e:AN->Bool,(∀y∈g,SeqAt.EqAt A s y u (e y))/\g.any e=isIn x ds:=by
 intro ds vs g hn L t r;let P:AN->D->Prop:=λy d=>nr d=true/\∃v,Rep X.K H F d v/\RelV v y
 have one:∀y d d',P y d->P y d'->d=d':=λy d d' zY zZ=>by
  let(n,v,q,z):=zY;let(n',v',q',z'):=zZ;have e:=z.inj z';subst e;exact sr I n n' q q'
 have⟨f,hf⟩:∃f:AN->D,∀y d,P y d->f y=d:=by show⟨λy=>Classical.epsilon (P y),λy d h=>?_⟩;exact one y _ _ (Classical.epsilon_spec ⟨d,h⟩) h
 show⟨λy=>deq (f y) x,?_,?_⟩
 .skip;have key:∀{ds:AS}{vs:AR}{g:AB},nrs ds=true->bh ds<=60->Reps X.K H F ds vs->Vals vs g->∀y∈g,SeqAt.EqAt A s y u (deq (f y) x):=by
   intro ds;induction ds with
   |nil=>
    intro vs g _ _ t r y J;have t:vs=[]:=t;subst t;cases r;cases J
   |cons d ds N=>
    intro vs g hn L t r y J;let(U,r1,e,h1,O):=t;subst e;rw[nrs,ae]at hn;rw[bh]at L;cases r with
    |cons p q=>
     rcases bP.mp J with e|J
     .subst e;rw[hf _ d ⟨hn.1,_,h1,p⟩];exact(xV I 60 A d x U v _ u (!0) (!0) hn.1 hx h1 rx p ru).2.1
     .exact N hn.2 (!0) O q y J
  exact key hn L t r
 .have key:∀{ds:AS}{vs:AR}{g:AB},nrs ds=true->Reps X.K H F ds vs->Vals vs g->g.any (λy=>deq (f y) x)=isIn x ds:=by
   intro ds;induction ds with
   |nil=>
    intro vs g _ t r;have t:vs=[]:=t;subst t;cases r;rfl
   |cons d ds N=>
    intro vs g hn t r;let(U,r1,e,h1,O):=t;subst e;rw[nrs,ae]at hn;cases r with
    |cons p q=>
     rw[List.any_cons,hf _ d ⟨hn.1,_,h1,p⟩,N hn.2 O q];rfl
  exact key hn t r
theorem jF(op:CmpOp)(hu:X.A.units+100<cLine):OpR X (compareOp op) (rC2 X.K (aZ op)):=by
 intro p9 s Y H x y v u Q I rx ry h;let(F,G,a,b,r,ra,rb,h):=h;have g:=sy r ra;have J:=sy r rb;generalize view G a=va at h g;generalize view G b=vb at h J;have fin:∀c:Bool,PV X.K H F Q (.bl c) G->EP X p9 Y Q (.bool c) s:=λc q=>⟨.bl c,H,I,rfl,q.now r rfl⟩;have hin:∀(l:AS){vs:AR}{us:AB},inG va l->Reps X.K H (FA F G) l vs->Vals vs us->∃e:AN->Bool,(∀z∈us.toArray,SeqAt.EqAt X.A.in1 s z v (e z))/\us.toArray.any e=isIn va l:=λl {vs us} hh t rv=>by
  let(e,he,L):=XQ I (A:=X.A.in1) (by change X.A.units+1+64<cLine;lia) hh.1 g rx hh.2.1 hh.2.2 t rv;exact⟨e,λw hw=>he w (!!hw),!!L⟩
 have ii:∀{i j:Int},Rep X.K H (FA F G) (.int i) x->Rep X.K H (FA F G) (.int j) y->∃t t',v=.int i t/\u=.int j t':=λN U=>by
  cases(show x=.int _ from N);cases(show y=.int _ from U);let(t,e):=rx;let(t',O):=ry;exact⟨t,t',e,O⟩
 have ss:∀{i j:AA},Rep X.K H (FA F G) (.str i) x->Rep X.K H (FA F G) (.str j) y->∃t t',v=.str (tx i) t/\u=.str (tx j) t':=λN U=>by
  cases N.1;cases U.1;let(t,e):=rx;let(t',O):=ry;exact⟨t,t',e,O⟩
 have hnon:vW va=decide (x=.non):=by
  cases va with
  |non=>cases(show x=.non from g);rfl
  |bl _=>cases(show x=.bl _ from g);rfl
  |int _=>cases(show x=.int _ from g);rfl
  |str _=>cases g.1;rfl
  |tup _=>let(_,_,N,_):=g;cases N;rfl
  |lst _=>let(_,_,N,_):=g;cases N;rfl
  |ref _=>cases(show x=.ref _ from g);rfl
  |scr _=>let(_,N,_):=g;cases N;rfl
  |exn _=>let(_,_,N,_):=g;cases N;rfl
  |exa _ _ _=>let(_,_,_,_,_,_,_,N,_):=g;cases N;rfl
  |obj _ _ _=>let(_,_,_,N,_):=g;cases N;rfl
  |dct _ _=>let(_,_,N,_):=g;cases N;rfl
 cases op with
 |Eq=>exact(xV I 60 X.A _ _ x y v u (!0) h.1.2.2 h.1.1 h.1.2.1 g J rx ry).1 _ _ _ _ (fin _ h.2)
 |NotEq=>exact(xV I 60 X.A _ _ x y v u (!0) h.1.2.2 h.1.1 h.1.2.1 g J rx ry).2.2 _ _ _ _ (fin _ h.2)
 |Lt=>
  have h:jt va vb (λc=>PV X.K H F Q (.bl c) G):=h;unfold jt at h;split at h
  .let(t,t',e,O):=ii g J;subst e O;exact lt_int (fin _ h)
  .let(t,t',e,O):=ss g J;subst e O;exact lt_str (fin _ h)
  .exact h.elim
 |LtE=>
  have h:ju va vb (λc=>PV X.K H F Q (.bl c) G):=h;unfold ju at h;split at h
  .let(t,t',e,O):=ii g J;subst e O;exact le_int (fin _ h)
  .let(t,t',e,O):=ss g J;subst e O;exact PySem.P.le_str (fin _ h)
  .exact h.elim
 |Gt=>
  have h:jw va vb (λc=>PV X.K H F Q (.bl c) G):=h;unfold jw at h;split at h
  .let(t,t',e,O):=ii g J;subst e O;exact gt_int (fin _ h)
  .exact h.elim
 |GtE=>
  have h:jx va vb (λc=>PV X.K H F Q (.bl c) G):=h;unfold jx at h;split at h
  .let(t,t',e,O):=ii g J;subst e O;exact ge_int (fin _ h)
  .exact h.elim
 |Is=>
  have h:jy va vb (λc=>PV X.K H F Q (.bl c) G):=h;unfold jy at h;split at h
  .cases (show y=.non from J);exact S8 p9 s Y H _ _ v u Q I rx ry ⟨rfl,by rw[<-hnon];exact h.now r rfl⟩
  .split at h
   .cases (show x=.bl _ from g);cases(show y=.bl _ from J);exact Vo p9 s Y H _ _ v u Q I rx ry ⟨_,_,rfl,rfl,h.now r rfl⟩
   .exact h.elim
  .exact h.elim
 |IsNot=>
  have h:jz va vb (λc=>PV X.K H F Q (.bl c) G):=h;unfold jz at h;split at h
  .cases (show y=.non from J);exact S9 p9 s Y H _ _ v u Q I rx ry ⟨rfl,by rw[<-hnon];exact h.now r rfl⟩
  .split at h
   .cases (show x=.bl _ from g);cases(show y=.bl _ from J);exact Vs p9 s Y H _ _ v u Q I rx ry ⟨_,_,rfl,rfl,h.now r rfl⟩
   .exact h.elim
  .exact h.elim
 |In=>
  have h:fW va vb (λc=>PV X.K H F Q (.bl c) G):=h;unfold fW at h;split at h
  .split at h
   .let(t,t',e,O):=ss g J;subst e O;exact in_str (by rw[Gd];exact fin _ h)
   .exact h.elim
  .let(p,vs,U,q2,t):=J;cases U;cases ry;let(its,rv,pl,hz):=I.list q2.sq;let(e,he,L):=hin _ h.1 t rv;exact SeqAt.in_listAt e pl.isList he (by rw[L];exact fin _ h.2)
  .let(p,vs,U,q2,t):=J;cases U;cases ry;let(its,rv,pl,hz):=I.tuple q2.sq;let(e,he,L):=hin _ h.1 t rv;exact SeqAt.in_tupleAt e pl he (by rw[L];exact fin _ h.2)
  .let(n,c,q,N,eb,_):=lN g h;let(p,kv,U,hp,hk,t):=J;cases N;cases U;cases ry;show V6 (!0) I (DGet.t hp.2 eb) rx λs' I'=>?_;rw[sE hk];exact⟨.bl _,H,I',rfl,q.now r rfl⟩
  .exact h.elim
 |NotIn=>
  have h:fW va vb (λc=>PV X.K H F Q (.bl (!c)) G):=h;unfold fW at h;split at h
  .split at h
   .let(t,t',e,O):=ss g J;subst e O;exact notIn_str (by rw[Gd];exact fin _ h)
   .exact h.elim
  .let(p,vs,U,q2,t):=J;cases U;cases ry;let(its,rv,pl,hz):=I.list q2.sq;let(e,he,L):=hin _ h.1 t rv;exact SeqAt.notIn_listAt e pl.isList he (by rw[L];exact fin _ h.2)
  .let(p,vs,U,q2,t):=J;cases U;cases ry;let(its,rv,pl,hz):=I.tuple q2.sq;let(e,he,L):=hin _ h.1 t rv;exact SeqAt.notIn_tupleAt e pl he (by rw[L];exact fin _ h.2)
  .let(n,c,q,N,eb,_):=lN g h;let(p,kv,U,hp,hk,t):=J;cases N;cases U;cases ry;show V7 (!0) I (DGet.t hp.2 eb) rx λs' I'=>?_;rw[sE hk];exact⟨.bl _,H,I',rfl,q.now r rfl⟩
  .exact h.elim
end
section
variable {X:Cx}
def XS(K:PF):R2:=λx y H Q=>∃F G a b,R K H F G/\Rep K H F a x/\Rep K H F b y/\cV (view G a) b (λd=>PV K H F Q d G)
theorem Ge{K:PF}{H:Hp}{F:FZ}{ds:AS}{vs:AR}{i:Int}{d:D}(t:Reps K H F ds vs)(h:atI ds i=-d):∃v,atI vs i=-v/\Rep K H F d v:=by
 unfold atI at h ⊢;rw[<-t⁻¹];cases e:ixN ds⁻¹ i with
 |none=>rw[e]at h;cases h
 |some j=>
  rw[e]at h;let(v,g,r):=t.get (show ds[j]?=-d from h);exact⟨v,g,r⟩
theorem xY{K:PF}{H:Hp}{F:FZ}{G:DH}{d:D}{v:V}{ks:List (List Int)}{ds:AS}(r:R K H F G)(h:Rep K H F d v)(e:view G d=.dct ks ds):∃p kv,v=.ref p/\H p=-(.dT kv)/\kv.map (·.1)=ks.map bz/\Reps K H F ds (kv.map (·.2)):=by
 cases d with
 |dct z J=>
  have N:D.dct z J=.dct ks ds:=e;cases N;let(a,kv,O,q,L,t):=h;exact⟨a,kv,O,q.2,L,t⟩
 |ref p=>
  have U:v=.ref p:=h;unfold view at e;cases g:G p with
  |none=>simp only[g]at e;cases e
  |some o=>
   cases o with
   |lst xs=>simp only[g]at e;cases e
   |dct z xs=>
    simp only[g]at e;cases e;let(kv,q,L,t):=r.dct g;exact⟨p,kv,U,q,L,t⟩
 |_=>cases(show _=D.dct ks ds from e)
theorem XX{L J:AO}{p9:AC}{s:AI}{Y:L2.St}{H:Hp}{p:AQ}{y z:V}{u:AN}{Q:VK}(hu:X.A.units+100<cLine)(I:Inv X p9 Y H s)(g:DGet H p y (-z))(ry:RelV y u)
  (hs:subscripted J false (.ref p) u=operate [.ref p,u] (getItem (.ref p) u)) (q:Q z H):↥X (subscriptTail L J (.ref p) u) (EP X p9 Y Q) X.xe s:=by
 have U:=Wa I g;unfold subscriptTail;show ab ?_;rw[getitemInPython_of_ne U.not_modules];show ab (wpAny_specialOf U slot_dict_getitem.lookup ?_);have fin:↥X (subscripted J false (.ref p) u) (λr N=>↥X (letTemporaryGo L (.ref p) r >>= λx=>pure r) (EP X p9 Y Q) X.xe N) X.xe s:=by rw[hs];exact wpAny_operating (V5 (!0) I g ry λw' s' I' O=>ab (wpAny_letTemporaryGo (aw ⟨z,H,I',O,q⟩)))
 first
  |exact aw (ab fin)
  |exact ab (aw (ab fin))
  |exact ab fin
theorem X3{K:PF}{H:Hp}{F:FZ}{G:DH}{d i:D}{v y:V}{ks:List (List Int)}{ds:AS}{k:D->Prop}(r:R K H F G)(h:Rep K H F d v)(e:view G d=.dct ks ds)(hi:Rep K H F i y)
  (q:cB i λn=>match kIx ks n with|some i=>(match ds[i]? with|some d=>k d|none=>False)|none=>False):∃p z d',v=.ref p/\DGet H p y (-z)/\Rep K H F d' z/\k d':=by
 let(n,b,q,g,L,_):=lN hi q;let(p,kv,J,Y,U,t):=xY r h e;subst g;split at q
 .rename_i j O;split at q
  .rename_i d' N;let(z,hz,rz):=t.get N;have hv:cI kv (bz n)=-z:=by rw[xX ks kv n U,O];exact hz
   exact⟨p,z,d',J,by rw[<-hv];exact DGet.t Y L,rz,q⟩
  .exact q.elim
 .exact q.elim
theorem X4(hu:X.A.units+100<cLine):IxR X (XS X.K):=by
 intro L J p9 s Y H x y v u Q I rx ry h hs;let(F,G,a,b,r,ra,rb,h):=h;generalize U:view G a=va at h;unfold cV at h;split at h
 .let(p,vs,e,q,t):=Rep.list r ra U;subst e;have N:y=.int _:=rb;subst N;split at h
  .rename_i d hd;let(w,hw,O):=Ge t hd;exact Um L J p9 s Y H _ _ v u Q I rx ry ⟨p,vs,_,w,rfl,rfl,q,hw,h.now r O⟩ hs
  .exact h.elim
 .cases gF U;let(p,vs,e,q,t):=ra;subst e;have N:y=.int _:=rb;subst N;split at h
  .rename_i d hd;let(w,hw,O):=Ge t hd;exact Uo L J p9 s Y H _ _ v u Q I rx ry ⟨p,vs,_,w,rfl,rfl,q.sq,hw,h.now r O⟩ hs
  .exact h.elim
 .cases gG U;let(e,hl):=ra;subst e;have N:y=.int _:=rb;subst N;split at h
  .rename_i c hc;exact Up L J p9 s Y H _ _ v u Q I rx ry ⟨_,_,c,rfl,rfl,by rw[cA];exact dM hl,hc,h.now r ⟨rfl,by change 1<=sz;decide⟩⟩ hs
  .exact h.elim
 .let(p,z,d',N,g,rz,q):=X3 r ra U rb h;subst N;cases rx;exact XX hu I g ry hs (q.now r rz)
 .exact h.elim
theorem X5(l:AA)(lo hi:Option Int):Txt.slice (tx l) lo hi=tx (cut l lo hi):=by
 have e:Builtin.Str.strSliceIndices lo hi 1 (tx l)⁻¹=sliceRange (sliceBounds lo hi none (tx l)⁻¹).1 (sliceBounds lo hi none (tx l)⁻¹).2.1 1:=by unfold Builtin.Str.strSliceIndices sliceBounds;cases lo<;>cases hi<;>rfl
 let(h1,h2,N):=Ck lo hi (tx l)⁻¹;rw[h1,h2,sliceRange_one]at e;have q:((Builtin.Str.strSliceIndices lo hi 1 (tx l)⁻¹).filterMap ((tx l).cps[·]?))=cut l lo hi:=by rw[e,pick_run];unfold cut;rw[cA]
 unfold Txt.slice;split
 .rename_i hh;rw[ae]at hh;have hl:=eq_of_beq hh.2;rw[e,af,da,cA]at hl;have L:HT.sIx l⁻¹ l⁻¹ hi<=l⁻¹:=HT.BX _ _ (av _) hi;unfold cut;by_cases g:l=[]
  .subst g;simp
  .have O:0<l⁻¹:=List.length_pos_iff.mpr g;have z:HT.sIx l⁻¹ 0 lo=0:=by lia
   have J:HT.sIx l⁻¹ l⁻¹ hi=l⁻¹:=by lia
   rw[z,J];simp
 .rw[q]
theorem X6{g:Type}(xs:List g)(lo hi:Option Int):(cut xs lo hi)⁻¹<=xs⁻¹:=by unfold cut;rw[d4,e7];lia
theorem X7{prog:AK}{w:World}{A:AM}{E:AG}{s:AI}{t O:AQ}{g:Array AN}{U Y:AN}{lo hi:Option Int}{Q:AG}(q:IsTup s.heap t g)(hs:s.heap.IsSliceOf O U Y .none)(pl:IsPart U lo)(pu:IsPart Y hi)
  (hw:HT.sIx g.size 0 lo=0/\HT.sIx g.size g.size hi=g.size) (h:Q (.ref t) s):wpAny (model prog w) A (getItem (.ref t) (.ref O)) Q E s:=by
 let(os,N,L,hds):=id hs;have J:s.TypeIs (.ref O) "slice":=⟨os,N,L⟩;unfold getItem;try with_reducible show de ?_
 first|show ab (aw ?_)|skip
 show ab (wpAny_sequenceKey q.typeIs (!1) ?_);show ab (dP (name:=⇑"__getitem__") q.typeIs fk
  (ff fk q.typeIs entry_tuple_getitem ?_ (args_tuple_getitem _ _)))
 change wpAny _ _ (Builtin.Tuple.tupleItemsOf (.ref t) >>= _) _ _ s;show ab (tupleItemsOf_ q ?_);show ab (wpAny_typeOf J ?_);rw[if_pos (!1)];show ab (HT.Cd hs pl pu ?_);have z:(((HT.sIx g.size 0 lo:Nat):Int)==0&&(1:Int)==1&&(HT.sIx g.size g.size hi-HT.sIx g.size 0 lo)==g.size)=true:=by rw[hw.1,hw.2];simp
 change wpAny _ _ (if(((HT.sIx g.size 0 lo:Nat):Int)==0&&(1:Int)==1&&(HT.sIx g.size g.size hi-HT.sIx g.size 0 lo)==g.size)=true then _ else _) _ _ s;rw[if_pos z];show ab (m:=Builtin.Tuple.tupleIsExact _) (ab (wpAny_typeOf q.typeIs (aw ?_)));rw[if_pos (!1)];exact ab (wpAny_rule (aw ⟨_,rfl,aw h⟩))
theorem X8:SlR X (λx lo hi H Q=>∃a xs,x=.ref a/\SqT X.K H a xs/\(HT.sIx xs⁻¹ 0 lo=0/\HT.sIx xs⁻¹ xs⁻¹ hi=xs⁻¹)/\Q (.ref a) H):=by
 intro p9 s Y H x v vl vu lo hi sl Q I U hs N O h;let(a,xs,rfl,L,hw,q):=h;cases U;let(z,r,J,hz):=I.tuple L;have g:z.toArray.size=xs⁻¹:=by rw[ax];exact r.length.symm
 exact⟨"tuple",_,fk.lookup,J.typeIs,X7 J hs N O (by rw[g];exact hw) ⟨.ref a,H,I,rfl,q⟩⟩
theorem lO{K:PF}{H:Hp}{F:FZ}:∀ns:List Int,Reps K H F (ns.map D.int) (ns.map V.int)
 |[]=>rfl
 |n::ns=>⟨_,_,rfl,rfl,lO ns⟩
def Yb(K:PF)(fz:Bool):V->Option Int->Option Int->Hp->VK->Prop:=λx lo hi H Q=>∃F G a,R K H F G/\Rep K H F a x/\eO fz (view G a) lo hi G (PV K H F Q)
theorem Gf{K:PF}{H:Hp}{F:FZ}{ds:AS}{vs:AR}(t:Reps K H F ds vs)(lo hi:Option Int):Reps K H F (cut ds lo hi) (eF vs lo hi):=t.cut lo hi
theorem Yc(fz:Bool):SlR X (Yb X.K fz):=by
 intro p9 s Y H x v vl vu lo hi U Q I O hs J L h;let(F,G,a,r,N,h):=h;generalize z:view G a=va at h;unfold eO at h;split at h
 .let(p,vs,e,q,t):=Rep.list r N z;subst e;exact Cm p9 s Y H _ v vl vu lo hi U Q I O hs J L ⟨p,vs,rfl,q,d7 h r (Gf t lo hi)⟩
 .rename_i ns;have ea':a=.scr ns:=by
   cases a with
   |ref p=>
    unfold view at z;cases g:G p with
    |none=>simp only[g]at z;cases z
    |some o=>cases o<;>(simp only[g]at z;cases z)
   |_=>exact z
  subst ea';let(p,e,q):=N;subst e;show Cm p9 s Y H _ v vl vu lo hi U Q I O hs J L ⟨p,_,rfl,q.sq,d7 h r ?_⟩;have e2:eF (ns.map V.int) lo hi=(cut ns lo hi).map V.int:=by unfold eF cut;rw[af,List.map_take,List.map_drop]
  rw[e2];exact lO (cut ns lo hi)
 .cases gF z;let(p,vs,e,q,t):=id N;subst e;by_cases hw:HT.sIx vs⁻¹ 0 lo=0/\HT.sIx vs⁻¹ vs⁻¹ hi=vs⁻¹
  .show X8 p9 s Y H _ v vl vu lo hi U Q I O hs J L ⟨p,vs,rfl,q.sq,hw,?_⟩;show h.now r ?_;rename_i ds;have:cut ds lo hi=ds:=by
    unfold cut;rw[t⁻¹,hw.1,hw.2];simp[<-t⁻¹]
   rw[this];exact N
  .exact Ue p9 s Y H _ v vl vu lo hi U Q I O hs J L ⟨p,vs,rfl,q.sq,hw,lJ h r (Gf t lo hi)⟩
 .cases gG z;let(e,hl):=N;subst e;show Vr p9 s Y H _ v vl vu lo hi U Q I O hs J L ⟨_,rfl,by rw[cA];exact dM hl,?_⟩;rw[X5];exact h.now r ⟨rfl,cf (X6 _ _ _) hl⟩
 .exact h.elim
theorem Gg{K:PF}{H:Hp}{F:FZ}{G:DH}{d:D}{v:V}{b:Bool}(r:R K H F G)(h:Rep K H F d v)(e:truth (view G d)=-b):qM K v H b:=by
 have h':=sy r h;generalize view G d=w at e h';cases w with
 |non=>have g:v=.non:=h';subst g;simp only[truth,ba]at e;exact e.symm
 |bl x=>have g:v=.bl x:=h';subst g;simp only[truth,ba]at e;exact e.symm
 |int i=>have g:v=.int i:=h';subst g;simp only[truth,ba]at e;exact e.symm
 |str l=>
  let(g,hl):=h';subst g;simp only[truth,ba]at e;show⟨by rw[cA];exact dM hl,?_⟩;rw[cA,<-e];cases l with
  |nil=>rfl
  |cons c l=>simp;lia
 |tup l=>
  let(a,vs,g,q,t):=h';subst g;simp only[truth,ba]at e;show .inr (.inl ⟨vs,q.sq,?_⟩);rw[<-e];cases l with
  |nil=>have t:vs=[]:=t;subst t;rfl
  |cons c l=>let(_,_,z,_):=t;subst z;rfl
 |lst l=>
  let(a,vs,g,q,t):=h';subst g;simp only[truth,ba]at e;show .inl ⟨vs,q.sq,?_⟩;rw[<-e];cases l with
  |nil=>have t:vs=[]:=t;subst t;rfl
  |cons c l=>let(_,_,z,_):=t;subst z;rfl
 |ref a=>simp[truth]at e
 |scr a=>simp[truth]at e
 |exn a=>simp[truth]at e
 |exa _ _ _=>simp[truth]at e
 |obj _ _ _=>simp[truth]at e
 |dct _ _=>simp[truth]at e
theorem xZ{K:PF}{H:Hp}{F:FZ}:∀{ds:AS}{vs:AR}{bs:List Bool},bools ds=-bs->Reps K H F ds vs->vs=bs.map V.bl
 |[],_,bs,e,h=>by
  simp only[bools,ba]at e;subst e;exact h
 |d::ds,_,bs,e,⟨v,w,e1,h,t⟩=>by
  cases d with
  |bl b=>
   simp only[bools]at e;cases q:bools ds with
   |none=>rw[q]at e;cases e
   |some s=>
    rw[q]at e;cases e;have g:v=.bl b:=h;rw[e1,g,xZ q t];rfl
  |_=>simp[bools]at e
theorem bI{K:PF}{H:Hp}{F:FZ}{d:D}{vs:AR}(t:Reps K H F [d] vs):∃v,vs=[v]/\Rep K H F d v:=by let(v,r,e,h,t):=t;have t:r=[]:=t;subst t;exact⟨v,e,h⟩
def gM(K:PF)(f:Bf):AR->Hp->VK->Prop:=λvs H Q=>∃F G ds,R K H F G/\Reps K H F ds vs/\opB f (ds.map (view G)) (λd=>PV K H F Q d G)
theorem map_one{G:DH}{ds:AS}{x:D}(h:ds.map (view G)=[x]):∃d,ds=[d]/\view G d=x:=by
 match ds,h with
 |[d],h=>exact⟨d,rfl,!!h⟩
theorem Yd:bf X (.builtin "len") (gM X.K .len):=by
 intro p9 s Y H xs L Q I rs h;let(F,G,ds,r,t,h):=h;generalize J:ds.map (view G)=va at h;simp only[opB,vX]at h;split at h
 .let(d,rfl,g):=map_one J;let(v,rfl,z):=bI t;let(a,vs,e,q,t'):=Rep.list r z g;subst e;exact Cp p9 s Y H _ L Q I rs ⟨a,vs,rfl,.inl q,by rw[<-t'⁻¹];exact h.now r rfl⟩
 .let(d,rfl,g):=map_one J;let(v,rfl,z):=bI t;cases gF g;let(a,vs,e,q,t'):=z;subst e;exact Cp p9 s Y H _ L Q I rs ⟨a,vs,rfl,.inr q.sq,by rw[<-t'⁻¹];exact h.now r rfl⟩
 .let(d,rfl,g):=map_one J;let(v,rfl,z):=bI t;cases gG g;let(e,hl):=z;subst e;exact Uu p9 s Y H _ L Q I rs ⟨_,rfl,by rw[cA];exact dM hl,by rw[cA];exact h.now r rfl⟩
 .let(d,rfl,g):=map_one J;let(v,rfl,z):=bI t;let(a,kv,e,q,N,t'):=xY r z g;subst e;have hl:=fb List.length N;rw[af,af]at hl;exact Wn p9 s Y H _ L Q I rs ⟨a,kv,rfl,q,by rw[hl];exact h.now r rfl⟩
 .exact h.elim
theorem Ye (hc:X.calm=true):bf X (.builtin "all") (gM X.K .all):=by
 intro p9 s Y H xs O Q I rs h;let(F,G,ds,r,t,h):=h;generalize z:ds.map (view G)=va at h;simp only[opB,rA]at h;split at h
 .let(d,rfl,J):=map_one z;let(v,rfl,N):=bI t;let(a,vs,e,q,t'):=Rep.list r N J;subst e;split at h
  .rename_i bs L;have g:=xZ L t';subst g;exact Vn hc p9 s Y H _ O Q I rs ⟨a,bs,rfl,q,h.now r rfl⟩
  .exact h.elim
 .exact h.elim
theorem Yg (hc:X.calm=true):bf X (.builtin "any") (gM X.K .any):=by
 intro p9 s Y H xs O Q I rs h;let(F,G,ds,r,t,h):=h;generalize z:ds.map (view G)=va at h;simp only[opB,rB]at h;split at h
 .let(d,rfl,J):=map_one z;let(v,rfl,N):=bI t;let(a,vs,e,q,t'):=Rep.list r N J;subst e;split at h
  .rename_i bs L;have g:=xZ L t';subst g;exact Ws hc p9 s Y H _ O Q I rs ⟨a,bs,rfl,q,h.now r rfl⟩
  .exact h.elim
 .exact h.elim
theorem Yh:bf X (.type "int") (gM X.K .int):=by
 intro p9 s Y H xs J Q I rs h;let(F,G,ds,r,t,h):=h;generalize z:ds.map (view G)=va at h;simp only[opB,rD]at h;split at h
 .let(d,rfl,g):=map_one z;let(v,rfl,q):=bI t;cases Xl g;have e:v=.bl _:=q;subst e;exact Bx p9 s Y H _ J Q I rs (.inr ⟨_,rfl,h.now r rfl⟩)
 .let(d,rfl,g):=map_one z;let(v,rfl,q):=bI t;cases fU g;have e:v=.int _:=q;subst e;exact Bx p9 s Y H _ J Q I rs (.inl ⟨_,rfl,h.now r rfl⟩)
 .let(d,rfl,g):=map_one z;let(v,rfl,q):=bI t;cases gG g;let(e,hl):=q;subst e;split at h
  .rename_i n hn;exact Vp p9 s Y H _ J Q I rs ⟨_,n,rfl,hn,by rw[cA];exact h.1,h.2.now r rfl⟩
  .exact h.elim
 .exact h.elim
theorem Yi:bf X (.type "tuple") (gM X.K .tuple):=by
 intro p9 s Y H xs L Q I rs h;let(F,G,ds,r,t,h):=h;generalize J:ds.map (view G)=va at h;simp only[opB,vY]at h;split at h
 .let(d,rfl,z):=map_one J;let(v,rfl,g):=bI t;let(a,vs,e,q,t'):=Rep.list r g z;subst e;exact Cr p9 s Y H _ L Q I rs ⟨a,vs,rfl,.inl ⟨q,lJ h r t'⟩⟩
 .let(d,rfl,z):=map_one J;let(v,rfl,g):=bI t;cases gF z;let(a,vs,e,q,t'):=id g;subst e;exact Cr p9 s Y H _ L Q I rs ⟨a,vs,rfl,.inr ⟨q.sq,h.now r g⟩⟩
 .exact h.elim
def yc(K:PF)(fz:Bool)(f:Lf):AR->Hp->VK->Prop:=λvs H Q=>∃F G ds,R K H F G/\Reps K H F ds vs/\cM f (ds.map (view G)) (λxs=>mk fz xs G (PV K H F Q))
theorem Yj(l:AA):∀(g:AB),g⁻¹=l⁻¹->(∀(j:Nat)(v:AN),g[j]?=-v->∃(c:Nat)(u:Tok),l[j]?=-c/\v=Value.str ⟨#[c]⟩ u)->Vals (l.map λc=>V.str (tx [c])) g:=by
 induction l with
 |nil=>intro g h _;cases g with|nil=>exact .nil|cons _ _=>cases h
 |cons c l O=>
  intro g h q;cases g with
  |nil=>cases h
  |cons u g=>
   let(J,t,z,L):=q 0 u (!2);have z:c=J:=by simpa using z
   subst z;exact .cons ⟨t,L⟩ (O g (!!h) λj v N=>by simpa using q (j+1) v (!!N))
theorem Yk (hc:X.calm=true):bf X (.type "list") (λxs H Q=>∃l:AA,xs=[.str (tx l)]/\l⁻¹<=sizeLine/\∀p,H p=none->Q (.ref p) (upd H p (.lst (l.map λc=>V.str (tx [c]))))):=by
 intro p9 s Y H xs us Q I r h;let(l,rfl,L,q):=h;let(u,rfl,t,rfl):=vals1 r;have J:(tx l).cps.size<=sizeLine:=by simpa using L
 show call_list_str (hn:=J) (I.ok.hd hc) (tx l) t λh' tk g N kp e hi=>?_;have z:Vals (l.map λc=>V.str (tx [c])) g.toList:=by
  show Yj l _ ?_ λj v z=>?_
  .rw[cK,hi.1];simp
  .let(c,u,O,U):=hi.2 j v (by rw[<-eI];exact z);exact⟨c,u,!!O,U⟩
 exact⟨.ref (~~~s),_,I.laid (t':=tk) kp (av _) (show ObjOk X.prog X.w _ h' _ (.lst _) from⟨by rw[af];exact L,g.toList,N,z,by rw[Array.toArray_toList];exact e⟩),rfl,q _ (I.hok.fresh (av _))⟩
theorem yd{K:PF}{H:Hp}{F:FZ}:∀l:AA,Reps K H F (l.map λc=>D.str [c]) (l.map λc=>V.str (tx [c]))
 |[]=>rfl
 |c::l=>⟨_,_,rfl,⟨rfl,by change 1<=sz;decide⟩,yd l⟩
theorem Gi{K:PF}{H:Hp}{F:FZ}:∀{ks:List (List Int)}{kv:List (List Key×V)}{as:List AQ},kv.map (·.1)=ks.map bz->Paired (λ(k:List Key×V) (a:AQ)=>H a=-(.tup (k.1.map kV))) kv as->Reps K H F (ks.map λn=>.tup (n.map D.int)) (as.map V.ref)
 |[],_,_,h,p=>by cases List.map_eq_nil_iff.mp h;cases p;exact rfl
 |k::ks,[],_,h,_=>by cases h
 |k::ks,q::kv,_,h,p=>by
  have h1:q.1=bz k:=(gX h).1;cases p with
  |cons a t=>
   rw[h1,FT]at a;exact⟨_,_,rfl,⟨_,_,rfl,⟨a⟩,lO k⟩,Gi (gX h).2 t⟩
theorem Yl (hc:X.calm=true) (fz:Bool):bf X (.type "list") (yc X.K fz .list):=by
 intro p9 s Y H xs L Q I rs h;let(F,G,ds,r,t,h):=h;generalize J:ds.map (view G)=va at h;simp only[cM,v7]at h;split at h
 .let(d,rfl,g):=map_one J;let(v,rfl,z):=bI t;let(a,vs,e,q,t'):=Rep.list r z g;subst e;exact Cq p9 s Y H _ L Q I rs ⟨a,vs,rfl,.inl q,d7 h r t'⟩
 .let(d,rfl,g):=map_one J;let(v,rfl,z):=bI t;cases gF g;let(a,vs,e,q,t'):=id z;subst e;exact Cq p9 s Y H _ L Q I rs ⟨a,vs,rfl,.inr q.sq,d7 h r t'⟩
 .let(d,rfl,g):=map_one J;let(v,rfl,z):=bI t;cases gG g;let(e,hl):=z;subst e;exact Yk hc p9 s Y H _ L Q I rs ⟨_,rfl,dM hl,d7 h r (yd _)⟩
 .let(d,rfl,g):=map_one J;let(v,rfl,z):=bI t;let(a,kv,e,q,N,t'):=xY r z g;subst e;exact Wo hc p9 s Y H _ L Q I rs ⟨a,kv,rfl,q,λas O=>d7 h r (Gi N O)⟩
 .exact h.elim
theorem sG{K:PF}{H:Hp}{F:FZ}:∀{ds:AS}{vs:AR}{ls:List (AA)},bF ds=-ls->Reps K H F ds vs->vs=(ls.map tx).map V.str
 |[],_,bs,e,h=>by
  simp only[bF,ba]at e;subst e;exact h
 |d::ds,_,bs,e,⟨v,w,e1,h,t⟩=>by
  cases d with
  |str b=>
   simp only[bF]at e;cases q:bF ds with
   |none=>rw[q]at e;cases e
   |some s=>
    rw[q]at e;cases e;let(g,_):=h;rw[e1,g,sG q t];rfl
  |_=>simp[bF]at e
theorem lQ{K:PF}{H:Hp}{F:FZ}:∀{ds:AS}{vs:AR}{ns:List Int},bj ds=-ns->Reps K H F ds vs->vs=ns.map V.int
 |[],vs,ns,e,t=>by
  simp only[bj,ba]at e;subst e;have t:vs=[]:=t;rw[t];rfl
 |d::ds,vs,ns,e,t=>by
  let(v,r,g,h,t):=t;cases d with
  |int b=>
   simp only[bj]at e;cases q:bj ds with
   |none=>rw[q]at e;cases e
   |some s=>
    rw[q]at e;cases e;have z:v=.int b:=h;rw[g,z,lQ q t];rfl
  |_=>simp[bj]at e
theorem Gj:∀{ns:List Int}{g:AB},Vals (ns.map V.int) g->IntsAre g ns
 |[],g,h=>by cases h;exact .nil
 |n::ns,g,h=>by
  cases h with
  |cons a b=>
   let(t,rfl):=a;exact .cons n t (Gj b)
theorem Ym:bootBuiltins "sorted"=-(.builtin "sorted"):=by ac_rfl
theorem ye:∀{ls:List (AA)}{g:AB},Vals ((ls.map tx).map V.str) g->StrsAre g (ls.map tx)
 |[],g,h=>by cases h;exact .nil
 |n::ns,g,h=>by
  cases h with
  |cons a b=>
   let(t,rfl):=a;exact .cons _ t (ye b)
theorem Gk:∀{q:AD}{g:AB},StrsAre g q->Vals (q.map V.str) g
 |_,_,.nil=>.nil
 |_,_,.cons y t h=>.cons ⟨t,rfl⟩ (Gk h)
theorem Yn{q:AD}{ls:List (AA)}(h:q.Perm (ls.map tx)):∃g:List (AA),q=g.map tx/\g.Perm ls:=by
 show⟨q.map λs=>s.cps.toList,?_,?_⟩
 .rw[cp];show(List.map_id q).symm.trans (dr λs z=>?_);change s=tx s.cps.toList;exact qQ s
 .have:=h.map λs=>s.cps.toList;rw[cp]at this;have e:(λs:Str=>s.cps.toList)∘tx=id:=by funext l;rfl
  rw[e,List.map_id]at this;exact this
theorem Yo:bf X (.builtin "sorted") (λxs H Q=>∃(p:AQ) (ls:List (AA)),xs=[.ref p]/\SqL X.K H p ((ls.map tx).map V.str)/\ls⁻¹<64/\∀g:List (AA),g.Perm ls->PyProof.Rows.sortedS (g.map tx)=true->∀l,H l=none->Q (.ref l) (upd H l (.lst ((g.map tx).map V.str)))):=by
 intro p9 s Y H xs us Q I r h;let(p,ls,rfl,hq,J,q):=h;let(u,rfl,ru):=vals1 r;cases ru;let(z,O,pl,hz):=I.list hq;have L:z⁻¹=ls⁻¹:=by rw[<-O⁻¹];simp
 show sorted_strs pl.isList (ye O) (!0) λout ss' U a2 a3=>?_;let(g,rfl,N):=Yn a2;let(e,he):=sortedAll_at s.heap z out;have hsz:((g.map tx).map V.str)⁻¹<=sizeLine:=by rw[af,af,N.length_eq];exact cf (gE J) (!1)
 exact⟨.ref ((~~~s)+1),_,I.laid (t':=s.toks) (λy y=>sortedAll_old) (e6 _) (show ObjOk X.prog X.w _ _ _ (.lst ((g.map tx).map V.str)) from⟨hsz,out.toList,e,Gk U,he⟩),rfl,q g N a3 _ (I.hok.fresh (e6 _))⟩
theorem Gm{K:PF}{H:Hp}{F:FZ}:∀{ls:List (AA)},(∀l∈ls,l⁻¹<=sz)->Reps K H F (ls.map D.str) ((ls.map tx).map V.str)
 |[],_=>rfl
 |l::ls,h=>⟨_,_,rfl,⟨rfl,h l bp⟩,Gm λx g=>h x (bS _ g)⟩
theorem yf{K:PF}{H:Hp}{F:FZ}:∀{ds:AS}{vs:AR}{ls:List (AA)},bF ds=-ls->Reps K H F ds vs->∀l∈ls,l⁻¹<=sz
 |[],vs,ls,e,t=>by simp only[bF,ba]at e;subst e;intro l hl;cases hl
 |d::ds,vs,ls,e,t=>by
  let(v,r,g,h,t):=t;cases d with
  |str b=>
   simp only[bF]at e;cases q:bF ds with
   |none=>rw[q]at e;cases e
   |some s=>
    rw[q]at e;cases e;intro l hl;rcases bP.mp hl with e|hl
    .rw[e];exact h.2
    .exact yf q t l hl
  |_=>simp[bF]at e
theorem Yp (fz:Bool):bf X (.builtin "sorted") (yc X.K fz .sorted):=by
 intro p9 s Y H xs us Q I rs h;let(F,G,ds,r,t,h):=h;generalize ea:ds.map (view G)=va at h;simp only[cM,lA]at h;split at h
 .let(d,rfl,N):=map_one ea;let(v,rfl,U):=bI t;let(a,vs,e,q,t'):=Rep.list r U N;subst e;split at h
  .rename_i ls z;have L:=sG z t';have hsz:=yf z t';subst L;exact Yo p9 s Y H _ us Q I rs ⟨a,ls,rfl,q,h.1,λO J so=>d7 (h.2 O J so) r (Gm λl hl=>hsz l (J.mem_iff.mp hl))⟩
  .exact h.elim
 .let(d,rfl,N):=map_one ea;let(v,rfl,U):=bI t;cases gF N;let(a,vs,e,q,t'):=U;subst e;split at h
  .rename_i ns z;have L:=lQ z t';subst L;exact VL p9 s Y H _ us Q I rs ⟨a,ns,rfl,q.sq,h.1,λg J so=>d7 (h.2 g J so) r (lO g)⟩
  .exact h.elim
 .exact h.elim
theorem Gn(val:Nat->AA):∀k,argBest (λi j=>decide (val i<val j)) k<=k/\∀j,j<=k->¬val j<val (argBest (λi j=>decide (val i<val j)) k)
 |0=>⟨av _,λj z=>by
  have:j=0:=by lia
  subst this;exact List.lt_irrefl _⟩
 |k+1=>by
  let(h1,h2):=Gn val k;simp only[argBest];by_cases hc:val (k+1)<val (argBest (λi j=>decide (val i<val j)) k)
  .rw[if_pos (!!hc)];show⟨av _,λj z=>?_⟩;rcases Nat.lt_or_ge j (k+1) with q|g
   .exact λh=>h2 j (!0) (List.lt_trans h hc)
   .have:j=k+1:=by lia
    subst this;exact List.lt_irrefl _
  .rw[if_neg (!!hc)];show⟨!0,λj z=>?_⟩;rcases Nat.lt_or_ge j (k+1) with q|g
   .exact h2 j (!0)
   .have:j=k+1:=by lia
    subst this;exact hc
section
variable {prog:AK} {w:World} {A:AM} {E:AG} {s:AI} {l:AQ}
theorem sH:∀{g:AB}{ls:List (AA)}{i:Nat}{v:AN},StrsAre g (ls.map tx)->g[i]?=-v->∃t,v=.str (tx (ls.getD i [])) t
 |[],ls,i,v,_,h=>by simp at h
 |x::g,[],i,v,hs,h=>by cases hs
 |x::g,a::ls,0,v,hs,h=>by
  cases hs with
  |cons y t q=>exact⟨t,!!h.symm⟩
 |x::g,a::ls,i+1,v,hs,h=>by
  cases hs with
  |cons y t q=>
   have:=sH (i:=i) (v:=v) q (!!h);simpa using this
theorem Yq{Q:AG}{g:AB}{ls:List (AA)}(hh:A.handled=none)(hl:s.heap.IsList l g.toArray)(hs:StrsAre g (ls.map tx))(hn:g⁻¹=ls⁻¹)(L:0<ls⁻¹)
  (h:∀(m:AA)(t:Tok)(h':Heap)(N:Nat),m∈ls->(∀a,a∈ls->¬a<m)->(∀b o,s.heap.get? b=-o->h'.get? b=-o)->Q (.str (tx m) t) {s with heap:=h',toks:=N}):
  wpAny (model prog w) A (call (.builtin "min") [.ref l]) Q E s:=by
 have z:l<(~~~s):=by let(_,e,_):=hl;exact aE e
 show call_min_walk (eT hl ?_);show⟨_,_,_,_,_,_,λi j=>decide (ls.getD i []<ls.getD j []),rfl,hG (A:=A.in1) hh _ l (bv z) g.toArray,⟨⟨_,aT _ rfl,rfl,rfl⟩,hl.push _⟩,?_,?_,?_,?_⟩
 .intro b q;change b<(s.heap.push _).objs.size;rw[cr];rcases bP.mp q with rfl|q
  .exact gT _
  .rcases bP.mp q with rfl|q
   .exact d5 z
   .cases q
 .simpa [hn] using L
 .intro i j vi vj s Q E hi J h;let(t,rfl):=sH hs (!!hi);let(u,rfl):=sH hs (!!J);exact richCompare_gives (op:=.Lt) (typeIs_str s _ t) (typeIs_str s _ u) F.slot_str_lt F.entry_str_lt (F.args_str_lt_2 _ _) (gives_str_lt _ _ t u) (λe=>nomatch e) h
 .intro v h' N U hk;let(t,rfl):=sH hs (show g[_]?=-v by rw[<-List.getElem?_toArray];exact U);let(b1,O):=Gn (λi=>ls.getD i []) (g.toArray.size-1);have hsz:g.toArray.size=ls⁻¹:=by simpa using hn
  show h _ t h' N ?_ (λa Y=>?_) (old_kept hk)
  .rw[b6,al (!0)];exact c8 _
  .let(j,J,rfl):=List.getElem_of_mem Y;have:=O j (!0);rwa [show ls.getD j []=ls[j] by rw[b6,al J];rfl]at this
end
theorem Yr (hc:X.calm=true):bf X (.builtin "min") (λxs H Q=>∃(p:AQ) (ns:List Int),xs=[.ref p]/\SqL X.K H p (ns.map V.int)/\ns≠[]/\∀m,m∈ns->(∀a,a∈ns->m<=a)->Q (.int m) H):=by
 intro p9 s Y H xs us Q I r h;let(p,ns,rfl,U,z,q):=h;let(u,rfl,ru):=vals1 r;cases ru;let(its,rv,pl,hz):=I.list U;have hi:=Gj rv;let(xs,ex):=hi.allInts.items;have hl:=pl.isList;rw[ex]at hl;have g:xs.toList.map (·.1)=ns:=by rw[<-PySem.nums_intItems,<-ex];exact hi.numsOf
 have hsz:0<xs.size:=by have:=List.length_pos_iff.mpr z;rw[<-g,af,cK]at this;exact this
 show PySem.min_intList (I.ok.hd hc) hl hsz λv h' tk hv O=>?_;let(t,rfl):=PySem.intItems_at hv;let(b1,L):=PySem.argBest_lt (PySem.numAt xs) (xs.size-1);show⟨.int _,H,I.kept O,⟨t,rfl⟩,q _ ?_ λa J=>?_⟩
 .rw[<-g,PySem.numAt_eq];exact PySem.getD_mem (by rw[af,cK];lia)
 .rw[<-g]at J;let(j,N,rfl):=PySem.mem_getD J;rw[af,cK]at N;rw[<-PySem.numAt_eq];exact L j (!0)
theorem Ys (hc:X.calm=true):bf X (.builtin "min") (λxs H Q=>∃(p:AQ) (ls:List (AA)),xs=[.ref p]/\SqL X.K H p ((ls.map tx).map V.str)/\ls≠[]/\∀m,m∈ls->(∀a,a∈ls->¬a<m)->Q (.str (tx m)) H):=by
 intro p9 s Y H xs us Q I r h;let(p,ls,rfl,O,z,q):=h;let(u,rfl,ru):=vals1 r;cases ru;let(J,L,U,hz):=I.list O;have g:J⁻¹=ls⁻¹:=by rw[<-L⁻¹];simp
 show Yq (I.ok.hd hc) U.isList (ye L) g (List.length_pos_iff.mpr z) λm t h' tk h1 h2 N=>?_;exact⟨.str (tx m),H,I.kept N,⟨t,rfl⟩,q m h1 h2⟩
theorem Yt{ds:AS}{ls:List (AA)}(h0:bj ds=none)(h1:bF ds=-ls):ls≠[]:=by
 rintro rfl;cases ds with
 |nil=>simp[bj]at h0
 |cons x y=>cases x<;>simp only[bF]at h1<;>first | (cases h1;done) | (cases g:bF y<;>rw[g]at h1<;>cases h1)
theorem Yu (hc:X.calm=true):bf X (.builtin "min") (gM X.K .min):=by
 intro p9 s Y H xs J Q I rs h;let(F,G,ds,r,t,h):=h;generalize L:ds.map (view G)=va at h;simp only[opB,lz]at h;split at h
 .let(d,rfl,N):=map_one L;let(v,rfl,U):=bI t;let(a,vs,e,q,t'):=Rep.list r U N;subst e;split at h
  .rename_i ns g;have z:=lQ g t';subst z;exact Yr hc p9 s Y H _ J Q I rs ⟨a,ns,rfl,q,h.1,λm h1 h2=>(h.2 m h1 h2).now r rfl⟩
  .split at h
   .rename_i O _ ls g;have z:=sG g t';have hsz:=yf g t';subst z;show Ys hc p9 s Y H _ J Q I rs ⟨a,ls,rfl,q,?_,λm h1 h2=>(h m h1 h2).now r ⟨rfl,hsz m h1⟩⟩;exact Yt (by assumption) g
   .exact h.elim
 .exact h.elim
theorem Yv:bootBuiltins "min"=-(.builtin "min"):=by ac_rfl
theorem Yw:bf X (.type "str") (gM X.K .str):=by
 intro p9 s Y H xs us Q I r h;let(F,G,ds,O,t,h):=h;generalize z:ds.map (view G)=va at h;simp only[opB,v6]at h;split at h
 .rename_i i;let(d',rfl,J):=map_one z;let(v',rfl,U):=bI t;have g:=fU J;subst g;have q:v'=.int i:=U;subst q;let((h0,h1),h2):=h;have L:(i.toNat:Int)=i:=Int.toNat_of_nonneg h0;have hl:(gJ i.toNat)⁻¹<=3:=by
   have:=digits_le ⟨i.toNat,!0⟩;unfold gJ;rw[cK];exact this
  have hs:=h2.now O (v:=.str (tx (gJ i.toNat))) ⟨rfl,by have hz:sz=1000000:=rfl;lia⟩;have N:tx (gJ i.toNat)=vB i.toNat:=(qQ _).symm;rw[N]at hs;exact Vx p9 s Y H _ us Q I r ⟨i.toNat,by rw[L],!0,hs⟩
 .exact h.elim
def dG:D->Option AL
 |.non=>some "NoneType"
 |.bl _=>some "bool"
 |.int _=>some "int"
 |.str _=>some "str"
 |.tup _=>some "tuple"
 |.lst _=>some "list"
 |_=>none
theorem Yx{K:PF}{H:Hp}{F:FZ}{G:DH}{d:D}{v:V}{T:AL}(r:R K H F G)(h:Rep K H F d v)(e:dG (view G d)=-T):TyOf K H v (.type T):=by
 have h':=sy r h;generalize view G d=w at e h';cases w with
 |non=>have g:v=.non:=h';subst g;simp only[dG,ba]at e;subst e;exact .non
 |bl x=>have g:v=.bl x:=h';subst g;simp only[dG,ba]at e;subst e;exact .bl x
 |int i=>have g:v=.int i:=h';subst g;simp only[dG,ba]at e;subst e;exact .int i
 |str l=>let(g,hl):=h';subst g;simp only[dG,ba]at e;subst e;exact .str _
 |tup l=>let(a,vs,g,q,t):=h';subst g;simp only[dG,ba]at e;subst e;exact .tup q.it
 |lst l=>let(a,vs,g,q,t):=h';subst g;simp only[dG,ba]at e;subst e;exact .lst q.2
 |ref a=>simp[dG]at e
 |scr a=>simp[dG]at e
 |exn a=>simp[dG]at e
 |exa _ _ _=>simp[dG]at e
 |obj _ _ _=>simp[dG]at e
 |dct _ _=>simp[dG]at e
def Yy (K:PF):Prop:=∀T t:AL,T∈["NoneType","bool","int","str","tuple","list"]->fX t=true->PySem.W.kitOne K (.type T) (.type t)=-(T==t||(T=="bool"&&t=="int"))
theorem Yz{K:PF}:Yy K:=by intro T t g q;simp only[bP,cw,or_false]at g;simp only[fX,dL,a8]at q;rcases g with rfl|rfl|rfl|rfl|rfl|rfl<;>rcases q with(((rfl|rfl)|rfl)|rfl)|rfl<;>(with_unfolding_all rfl)
theorem YB {d:D} {t:AL} {b:Bool} (e:isT t d=-b):∃T,dG d=-T/\T∈["NoneType","bool","int","str","tuple","list"]/\(fX t=true->b=(T==t||(T=="bool"&&t=="int"))):=by
 have g:∀a b:AL,(a==b)=(b==a):=λa b=>by rw[eh,a8,a8];exact⟨Eq.symm,Eq.symm⟩
 cases d with
 |non=>
  show⟨"NoneType",rfl,!2,λq=>?_⟩;simp only[isT,ba]at e;simp only[fX,dL,a8]at q;subst e;rcases q with(((rfl|rfl)|rfl)|rfl)|rfl<;>rfl
 |bl _=>
  show⟨"bool",rfl,!2,λq=>?_⟩;simp only[isT,ba]at e;rw[<-e,g t "bool"];rfl
 |int _=>
  show⟨"int",rfl,!2,λq=>?_⟩;simp only[isT,ba]at e;rw[<-e,g t "int"];simp
 |str _=>
  show⟨"str",rfl,!2,λq=>?_⟩;simp only[isT,ba]at e;rw[<-e,g t "str"];simp
 |tup _=>
  show⟨"tuple",rfl,!2,λq=>?_⟩;simp only[isT,ba]at e;rw[<-e,g t "tuple"];simp
 |lst _=>
  show⟨"list",rfl,!2,λq=>?_⟩;simp only[isT,ba]at e;rw[<-e,g t "list"];simp
 |ref a=>simp[isT]at e
 |scr a=>simp[isT]at e
 |exn a=>simp[isT]at e
 |exa _ _ _=>simp[isT]at e
 |obj _ _ _=>simp[isT]at e
 |dct _ _=>simp[isT]at e
theorem Gp(s:AA):∀ls:List (AA),Str.join (tx s) (ls.map tx)=tx (eQ s ls)
 |[]=>rfl
 |[x]=>rfl
 |x::y::r=>by
  have g:=Gp s (y::r);change tx x++tx s++Str.join (tx s) ((y::r).map tx)=_;rw[g,qP,qP];rfl
theorem Gq(s:AA):∀ls:List (AA),(eQ s ls)⁻¹<=(ls.map (·.length)).sum+ls⁻¹*s⁻¹
 |[]=>by simp[eQ]
 |[x]=>by simp[eQ]
 |x::y::r=>by
  have g:=Gq s (y::r);simp only[eQ,am,a7,List.sum_cons,c9]at g ⊢;have:(r⁻¹+1+1)*s⁻¹=(r⁻¹+1)*s⁻¹+s⁻¹:=by rw[Nat.succ_mul]
  lia
def lR(K:PF)(m:Mf):V->AR->Hp->VK->Prop:=λx vs H Q=>∃F G d ds,R K H F G/\Rep K H F d x/\Reps K H F ds vs/\opM m d ds G (PV K H F Q)
theorem YC:MtR X "str.join" (lR X.K .join):=by
 intro p9 s Y H x xs v us Q I rx rs h;let(F,G,d,ds,r,O,t,h):=h;simp only[opM]at h;generalize L:ds.map (view G)=va at h;simp only[rF]at h;split at h
 .let(d',rfl,N):=map_one L;let(v',rfl,U):=bI t;let(a,vs,e,q,t'):=Rep.list r U N;subst e;let(z,hl):=O;subst z;split at h
  .rename_i ls g;have J:=sG g t';subst J;show U9 p9 s Y H _ _ v us Q I rx rs ⟨_,a,_,rfl,rfl,q,?_,?_⟩
   .have hz:=h.1;rw[cp,af,cA,show(λx:Str=>x⁻¹)∘tx=λl=>l⁻¹ from funext cA];have:sz=1000000:=rfl;lia
   .rw[Gp];exact h.2.now r ⟨rfl,cf (Gq _ _) h.1⟩
  .exact h.elim
 .exact h.elim
theorem YD:MtM X "list.append" (lR X.K .append):=by
 intro p9 s Y H x xs v U Q I O rs h;let(F,G,d,ds,r,L,t,h):=h;simp only[opM,rG]at h;split at h
 .let(v',rfl,N):=bI t;have J:x=.ref _:=L;subst J;split at h
  .rename_i z g;let(vs,q,t'):=r.lst g;show Uz p9 s Y H _ _ v U Q I O rs ⟨_,vs,v',rfl,rfl,q,?_,?_⟩
   .rw[<-t'⁻¹];exact bo h.1 szl
   .exact h.2 _ _ _ (iH r g) (r.write g (t'.append (Reps.cons N Reps.nil))) rfl
  .exact h.elim
 .exact h.elim
theorem YF:MtR X "tuple.index" (lR X.K .idxT):=by
 intro p9 s Y H x xs v U Q I O rs h;let(F,G,d,ds,r,L,t,h):=h;simp only[opM,rK]at h;split at h
 .rename_i l i;let(a,vs,e,q,t'):=L;subst e;let(v',rfl,N):=bI t;have z:v'=.int i:=N;subst z;split at h
  .rename_i ns g;have J:=lQ g t';subst J;exact Ww p9 s Y H _ _ v U Q I O rs ⟨a,ns,i,rfl,rfl,q.sq,h.1,h.2.now r rfl⟩
  .exact h.elim
 .exact h.elim
theorem YG:MtM X "list.pop" (lR X.K .pop):=by
 intro p9 s Y H x xs v us Q I rx rs h;let(F,G,d,ds,r,rd,t,h):=h;simp only[opM,rJ]at h;split at h
 .rename_i i;let(v',rfl,rv):=bI t;have O:x=.ref _:=rd;subst O;have U:v'=.int i:=rv;subst U;split at h
  .rename_i N z;let(h1,h2,g):=h;let(vs,q,t'):=r.lst z;split at g
   .rename_i y hy;let(u,L,ru):=t'.get hy;have hlt:i.toNat<vs⁻¹:=(ai.mp L).1;show UT p9 s Y H _ _ v us Q I rx rs ⟨_,vs,i,i.toNat,u,rfl,rfl,q,!0,!0,?_,L,?_⟩
    .unfold seqIndex?;have e3:¬i<0:=by lia
     simp[e3];lia
    .rw[eA];rw[eA]at g;have J:=r.write z ((t'.take i.toNat).append (t'.drop (i.toNat+1)));exact g _ _ _ (iH r z) J (Rep.ext (iH r z) ru)
   .exact g.elim
  .exact h.elim
 .exact h.elim
def vf:V->AR->Hp->VK->Prop:=λx vs H Q=>∃l xs,x=.ref l/\vs=[]/\H l=-(.lst xs)/\Q .non (upd H l (.lst []))
theorem Cw:MtM X "list.clear" vf:=by intro p9 s Y H x vs v U Q I O N h;let(l,xs,rfl,rfl,L,q):=h;cases O;have g:=N.zero;subst g;let(z,J,n,r,hl,e):=I.lstM L;show call_meets F.slot_list_clear ⟨_,e,rfl⟩ F.entry_list_clear (F.args_list_clear_1 _) (AutoSeq1.list_clear_list_0 l J.toArray n (by rw[ax];lia)) ⟨e,?_⟩;exact⟨.non,_,I.lset (its':=[]) L e rfl .nil (cb _),rfl,q⟩
def YH(K:PF):V->AR->Hp->VK->Prop:=λx xs H Q=>∃F G d,R K H F G/\Rep K H F d x/\xs=[]/\fY d G (PV K H F Q)
theorem YJ:MtM X "list.clear" (YH X.K):=by
 intro p9 s Y H x xs v O Q I N rs h;let(F,G,d,r,L,rfl,h):=h;unfold fY at h;split at h
 .have J:x=.ref _:=L;subst J;split at h
  .rename_i z g;let(vs,q,t'):=r.lst g;exact Cw p9 s Y H _ _ v O Q I N rs ⟨_,vs,rfl,rfl,q,h _ _ _ (iH r g) (r.write g (Reps.nil)) rfl⟩
  .exact h.elim
 .exact h.elim
theorem YK{K:PF}{H:Hp}{F:FZ}{G:DH}{d:D}{v:V}{ds:AS}(r:R K H F G)(h:Rep K H F d v)(e:view G d=.lst ds):∃a vs,v=.ref a/\H a=-(.lst vs)/\Reps K H F ds vs:=by
 cases d with
 |lst xs=>
  have z:D.lst xs=.lst ds:=e;cases z;let(a,vs,J,q,t):=h;exact⟨a,vs,J,q.2,t⟩
 |ref p=>
  have L:v=.ref p:=h;unfold view at e;cases g:G p with
  |none=>simp only[g]at e;cases e
  |some o=>
   cases o with
   |lst xs=>
    simp only[g]at e;cases e;let(vs,q,t):=r.lst g;exact⟨p,vs,L,q,t⟩
   |dct _ _=>simp only[g]at e;cases e
 |_=>cases(show _=D.lst ds from e)
theorem YL:MtM X "list.extend" (lR X.K .extend):=by
 intro p9 s Y H x xs v us Q I rx rs h;let(F,G,d,ds,r,rd,t,h):=h;simp only[opM]at h;generalize U:ds.map (view G)=va at h;simp only[rH]at h;split at h
 .let(d',rfl,ev):=map_one U;let(v',rfl,rv):=bI t;let(b,z,O,q2,J):=YK r rv ev;subst O;have N:x=.ref _:=rd;subst N;split at h
  .rename_i L g;let(vs,q,t'):=r.lst g;show UJ p9 s Y H _ _ v us Q I rx rs ⟨_,b,vs,z,rfl,rfl,q,q2,?_,?_⟩
   .rw[<-t'⁻¹,<-J⁻¹];exact gE (bo h.1 szl)
   .exact h.2 _ _ _ (iH r g) (r.write g (t'.append J)) rfl
  .exact h.elim
 .exact h.elim
theorem Gs:∀{ks:List (List Int)}{kv:List (List Key×V)}{n:List Int}{i:Nat}(v:V),kv.map (·.1)=ks.map bz->(kv.map (·.1)).Nodup->kIx ks n=-i->
  (kv.map λp=>if p.1=bz n then(p.1,v) else p).map (·.2)=(kv.map (·.2)).set i v
 |[],_,n,i,v,h,_,e=>by cases e
 |k::ks,[],n,i,v,h,_,_=>by cases h
 |k::ks,p::kv,n,i,v,h,nd,e=>by
  have h1:p.1=bz k:=(gX h).1;have h2:kv.map (·.1)=ks.map bz:=(gX h).2;let(J,L):=c6.mp nd;unfold kIx at e;rw[eL]at e;by_cases z:k=n
  .subst z;rw[if_pos (!2)]at e;cases e;rw[a7,if_pos h1,a7,a7,List.set_cons_zero];congr 2;rw[dr (g:=id)]
   .exact List.map_id _
   .intro q O;exact if_neg λz=>J (bi.mpr ⟨q,O,z.trans h1.symm⟩)
  .rw[if_neg (!!z)]at e;let(j,N,rfl):=aI.mp e;rw[a7,if_neg (by rw[h1];exact λw=>z (FQ w)),a7,a7,List.set_cons_succ,Gs v h2 L N]
theorem KT.fst{H:Hp}{kv:List (List Key×V)}{xs:List (List Key×AQ×AN)}(r:KT H kv xs):kv.map (·.1)=xs.map (·.1):=by
 induction r with
 |nil=>rfl
 |cons h t g=>rw[a7,a7,h.1,g]
theorem Gu{kv:List (List Key×V)}{k:List Key}{v:V}(h:(cI kv k).isSome=true):putD kv k v=kv.map λp=>if p.1=k then(p.1,v) else p:=by unfold putD;rw[qX,if_pos h]
theorem YM(hu:X.A.units+100<cLine):u5 X (λo i x H Q=>∃F G a b c,R X.K H F G/\Rep X.K H F a o/\Rep X.K H F b i/\Rep X.K H F c x/\dZ a b c G (λG'=>∀H' F',Ext H F H' F'->R X.K H' F' G'->Q H')):=by
 intro p9 s Y H o i v ov iv u Q I ro ri rv h;let(F,G,a,b,c,r,ra,U,L,h):=h;unfold dZ at h;split at h
 .have J:o=.ref _:=ra;subst J;split at h
  .rename_i ds g;let(vs,q,t):=r.lst g;split at h
   .have e2:i=.int _:=U;subst e2;split at h
    .rename_i j hj;show set_list p9 s Y H _ _ v ov iv u Q I ro ri rv ⟨_,vs,_,j,rfl,rfl,q,by rw[<-t⁻¹];exact hj,?_⟩;exact h _ _ (iH r g) (r.write g (t.set L j))
    .exact h.elim
   .exact h.elim
  .rename_i ks ds g;let(n,bb,(hz,q),J,eb,_):=lN U h;let(kv,O,z,t):=r.dct g;subst J;cases ro;have hl:=fb List.length z;rw[af,af]at hl;have nd:(kv.map (·.1)).Nodup:=by
    let(_,_,xs,N,_,_,_,_,_,_,_,_,nd):=kJ I.hok O;rw[KT.fst N];exact nd
   show V9 (!0) I (DPut.t O eb (by rw[hl];exact bo hz (dM (av _)))) ri rv λs' I'=>⟨_,I',?_⟩;show q _ _ (vR r g) ?_;unfold dput;cases e:kIx ks n with
   |some j=>
    have hs:(cI kv (bz n)).isSome=true:=by rw[sE z,e];rfl
    show r.dctAt (vR r g) (r.notFD g) ?_ ?_
    .rw[Gu hs,cp,<-z];show dr λp y=>?_;change(if p.1=bz n then(p.1,v) else p).1=p.1;split<;>rfl
    .rw[Gu hs,Gs v z nd e];exact t.set L j
   |none=>
    have hs:cI kv (bz n)=none:=by have:=sE (n:=n) z;rw[e]at this;exact Option.isNone_iff_eq_none.mp (by rw[<-Option.not_isSome,this];rfl)
    show r.dctAt (vR r g) (r.notFD g) ?_ ?_
    .rw[Dq v hs,cy,cy,z];rfl
    .rw[Dq v hs,cy];exact t.append ⟨_,_,rfl,L,rfl⟩
  .exact h.elim
 .exact h.elim
theorem YQ(op:Operator):PIp X op (λx y H Q=>∃F G a b,R X.K H F G/\Rep X.K H F a x/\Rep X.K H F b y/\fj op a b (λd=>PV X.K H F Q d G)):=by
 intro p9 s Y H x y v u Q I L N h;let(F,G,a,b,r,z,J,h):=h;unfold fj at h;split at h
 .have g:x=.int _:=z;have q:y=.int _:=J;subst g;subst q;exact S5 p9 s Y H _ _ v u Q I L N ⟨_,_,rfl,rfl,h.now r rfl⟩
 .let(g,O):=z;let(q,U):=J;subst g;subst q;show Tn p9 s Y H _ _ v u Q I L N ⟨_,_,rfl,rfl,by rw[cA,cA];exact dM h.1,?_⟩;rw[qP];exact h.2.now r ⟨rfl,by rw[am];exact h.1⟩
 .have g:x=.int _:=z;have q:y=.int _:=J;subst g;subst q;exact S6 p9 s Y H _ _ v u Q I L N ⟨_,_,rfl,rfl,h.now r rfl⟩
 .exact h.elim
end
inductive SK where
 |lst (a:AQ) |tup (a:AQ) |str (x:Str) (t:Tok)
def SK.val:SK->AN
 |.lst a=>.ref a
 |.tup a=>.ref a
 |.str x t=>.str x t
def SK.cls:SK->AL
 |.lst _=>"list_iterator"
 |.tup _=>"tuple_iterator"
 |.str x _=>strIterType x
def SK.obj(k:SK):Obj:={cls:=.type k.cls,data:=.fields #[k.val,.int 0 0]}
def SK.pos(k:SK)(it:AQ)(i:Nat)(h:Heap):Prop:=∃o,h.get? it=-o/\o.cls=.type k.cls/\o.data=.fields #[k.val,.int i 0]
def SK.Sat(H:Hp)(vs:AR):SK->Prop
 |.lst a=>H a=-(.lst vs)
 |.tup a=>H a=-(.tup vs)
 |.str x _=>vs=x.cps.toList.map λc=>V.str ⟨#[c]⟩
def SK.No(e:AQ):SK->Prop
 |.lst a=>a≠e
 |.tup a=>a≠e
 |.str _ _=>True
def SK.Sat.no{H:Hp}{vs:AR}{k:SK}{e:AQ}(h:k.Sat H vs)(he:H e=none):k.No e:=by
 cases k with
 |lst a=>exact bH (show H a=-_ from h) he
 |tup a=>exact bH (show H a=-_ from h) he
 |str x t=>trivial
def SK.On(g:Array AN)(h:Heap):SK->Prop
 |.lst a=>h.IsList a g
 |.tup a=>h.IsTuple a g
 |.str _ _=>True
def SK.On.keeps{g:Array AN}{h h':Heap}{k:SK}(x:k.On g h)(q:∀b o,k.val=.ref b->h.get? b=-o->h'.get? b=-o):k.On g h':=by
 cases k with
 |lst a=>let(o,e,r):=x;exact⟨o,q a o rfl e,r⟩
 |tup a=>let(o,e,r):=x;exact⟨o,q a o rfl e,r⟩
 |str _ _=>trivial
section
variable {prog:AK} {w:World} {A:AM} {E:AG} {s:AI}
theorem SK.iter{k:SK}{g:Array AN}{Q:AG}(h:k.On g s.heap)(q:Q (.ref (~~~s)) {s with heap:=s.heap.push k.obj}):wpAny (model prog w) A (pyIter k.val) Q E s:=by
 cases k with
 |lst a=>exact eT h q
 |tup a=>exact wpAny_pyIter_tuple h q
 |str x t=>exact wpAny_pyIter_strU q
theorem SK.pos0{k:SK}{h:Heap}:k.pos h.objs.size 0 (h.push k.obj):=⟨_,aT _ rfl,rfl,rfl⟩
theorem SK.pos.keep{k:SK}{it:AQ}{i:Nat}{h h':Heap}(x:k.pos it i h)(g:∀o,h.get? it=-o->h'.get? it=-o):k.pos it i h':=let⟨o,e,r⟩:=x;⟨o,g o e,r⟩
theorem YS{it t:AQ}{i:Nat}{items}{x:AN}{Q:AG}(g:s.heap.IsTupleIter it t i)
  (O:s.heap.IsTuple t items) (U:items[i]?=-x)
  (N:∀h',h'.IsTupleIter it t (i+1)->Heap.SameBut it s.heap h'->Q x {s with heap:=h'}):
  wpAny (model prog w) A (Builtin.SmallTypes.nextOf (.ref it)) Q E s:=by
 let(o,z,hc,q):=id g;let(ol,L,_,Y,J):=O;unfold Builtin.SmallTypes.nextOf;show ab (dP (name:=⇑"__next__") g.typeIs gi
  (ff gi g.typeIs F.entry_tuple_iterator_next ?_ (F.args_tuple_iterator_next_1 _)))
 change wpAny _ _ (field (.ref it) 0 >>= _) _ _ s;show ab (d3 z q (x:=.ref t) rfl ?_);change wpAny _ _ (if(Value.ref t==Value.none)=true then _ else _) _ _ s;rw[if_neg (show¬((Value.ref t==Value.none)=true) from bB)];change wpAny _ _ (field (.ref it) 1 >>= _) _ _ s;show ab (d3 z q (x:=.int i 0) rfl ?_);change wpAny _ _ (seqItems? (.ref t) >>= _) _ _ s;show ab (fh L J ?_);simp only[bq,U];show ab (wpAny_setField z q (!2) (aw ⟨x,rfl,aw (N _ ?_ (Heap.SameBut.update ..))⟩));exact⟨_,Heap.get?_update_self _ z (Obj.isFreed_of_fields (Obj.data_mapFields q _)),(Obj.cls_mapFields ..).trans hc,by
  rw[Obj.data_mapFields q];simp[rawInt]⟩
theorem YT{it t:AQ}{i:Nat}{items}{Q:AG}(hh:A.handled=none)
  (g:s.heap.IsTupleIter it t i) (O:s.heap.IsTuple t items) (U:items[i]?=none)
  (N:∀h' e,Heap.ExtBut it s.heap h'->(∃o,h'.get? e=-o/\o.cls=.type "StopIteration")->E (.ref e) {s with heap:=h'}):
  wpAny (model prog w) A (Builtin.SmallTypes.nextOf (.ref it)) Q E s:=by
 let(o,J,hc,q):=id g;let(ol,L,_,Y,z):=O;unfold Builtin.SmallTypes.nextOf;show ab (dP (name:=⇑"__next__") g.typeIs gi
  (ff gi g.typeIs F.entry_tuple_iterator_next ?_ (F.args_tuple_iterator_next_1 _)))
 change wpAny _ _ (field (.ref it) 0 >>= _) _ _ s;show ab (d3 J q (x:=.ref t) rfl ?_);change wpAny _ _ (if(Value.ref t==Value.none)=true then _ else _) _ _ s;rw[if_neg (show¬((Value.ref t==Value.none)=true) from bB)];change wpAny _ _ (field (.ref it) 1 >>= _) _ _ s;show ab (d3 J q (x:=.int i 0) rfl ?_);change wpAny _ _ (seqItems? (.ref t) >>= _) _ _ s;show ab (fh L z ?_);simp only[bq,U];show ab (wpAny_rule (ab (wpAny_setField J q (!2) ?_)));change wpAny _ _ (newExc (.type "StopIteration") [] >>= _) _ _ _;show ab ?_;simp only[newExc,newTuple];show ab (eW ?_ (by size_fits));show ab (m:=firstArgMember _ _) (wpAny_of_eq (a:=Value.none) (by first|rfl | (simp only[firstArgMember];rfl)) ?_);show eW ?_ (by size_fits);simp only[raiseNew];show ab (wpAny_handled ?_);first|rw[show A.in1.handled=none from hh]|rw[hh]
 show ab (aw (wpAny_throw ?_));exact N _ _ (((Heap.SameBut.update ..).extBut.push _).push _) ⟨_,aT _ rfl,rfl⟩
theorem YW(hh:A.handled=none)(it l:AQ)(J:l≠it)(g:Array AN):
  Draws prog w A it [it,l] g.size (λi v=>g[i]?=-v) (λi h=>h.IsTupleIter it l i/\h.IsTuple l g) where
 live:=λy y st=>let⟨o,ho,_⟩:=st.1;⟨o,ho⟩
 frame:=λy y y st L=>⟨let⟨o,e,r⟩:=st.1;⟨o,L it (!2) o e,r⟩,let⟨o,e,r⟩:=st.2;⟨o,L l (!2) o e,r⟩⟩
 item:=λi s Q E hi st O=>by
  show YS st.1 st.2 (x:=g[i]) (by simp[hi]) λh' q z=>?_;exact O _ h' s.toks (by simp[hi]) ⟨q,let⟨o,e,r⟩:=st.2;⟨o,z.extBut l o J e,r⟩⟩ z
 done:=λs Q E st N=>YT hh st.1 st.2 (!2) N
end
structure Drawn(P:AK)(w:World)(A:AM)(k:SK)(it:AQ)(i:Nat)(vs:AR)(h:Heap)(fp:List AQ)(Pd:Nat->AN->Prop)(S:Nat->Heap->Prop):Prop where
 D:Draws P w A it fp vs.length Pd S
 st:S i h
 val:∀j v,Pd j v->∃x,vs[j]?=some x/\RelV x v
 pos:∀j h,S j h->k.pos it j h
 fp:∀b∈fp,b=it\/k.val=.ref b
def drawn{X:Cx}{p9:AC}{Y:L2.St}{H:Hp}{s:AI}{A:AM}(hh:A.handled=none)(I:Inv X p9 Y H s){k:SK}{it:AQ}{i:Nat}{vs:AR}(g:k.Sat H vs)(L:H it=none)(p:k.pos it i s.heap):
  ∃fp Pd S,Drawn X.prog X.w A k it i vs s.heap fp Pd S:=by
 cases k with
 |lst a=>
  have g:H a=-(.lst vs):=g;let(q,r,O,_):=I.list (SqL.of g);show⟨[it,a],λj v=>q.toArray[j]?=-v,λj h=>h.IsListIter it a j/\h.IsList a q.toArray,?_,⟨p,O.isList⟩,?_,λj h st=>st.1,?_⟩
  .have D:=Draws.list (prog:=X.prog) (w:=X.w) hh it a (bH g L) q.toArray;rw[ax,<-r⁻¹]at D;exact D
  .intro j v e;have e:q.toArray[j]?=-v:=e;have N:j<vs⁻¹:=by
    rw[r⁻¹];have:=(Array.getElem?_eq_some_iff.mp e).1;simpa using this
   let(u,J,U):=r.get (show vs[j]?=-vs[j] by simp[N]);show⟨vs[j],by simp[N],?_⟩;have:q[j]?=-v:=by simpa using e
   rw[this]at J;cases J;exact U
  .intro b z;have z:b=it\/b=a:=by simpa using z
   rcases z with e|e
   .exact .inl e
   .exact .inr (by rw[e];rfl)
 |tup a=>
  have g:H a=-(.tup vs):=g;let(q,r,O,_):=I.tuple (SqT.of g);show⟨[it,a],λj v=>q.toArray[j]?=-v,λj h=>h.IsTupleIter it a j/\h.IsTuple a q.toArray,?_,⟨p,O⟩,?_,λj h st=>st.1,?_⟩
  .have D:=YW (prog:=X.prog) (w:=X.w) hh it a (bH g L) q.toArray;rw[ax,<-r⁻¹]at D;exact D
  .intro j v e;have e:q.toArray[j]?=-v:=e;have N:j<vs⁻¹:=by
    rw[r⁻¹];have:=(Array.getElem?_eq_some_iff.mp e).1;simpa using this
   let(u,J,U):=r.get (show vs[j]?=-vs[j] by simp[N]);show⟨vs[j],by simp[N],?_⟩;have:q[j]?=-v:=by simpa using e
   rw[this]at J;cases J;exact U
  .intro b z;have z:b=it\/b=a:=by simpa using z
   rcases z with e|e
   .exact .inl e
   .exact .inr (by rw[e];rfl)
 |str x t=>
  have g:vs=x.cps.toList.map λc=>V.str ⟨#[c]⟩:=g;show⟨[it],λi v=>∃c u,x.cps[i]?=-c/\v=.str ⟨#[c]⟩ u,λi h=>h.IsStrIter it (strIterType x) x t i,?_,p,?_,λj h st=>st,?_⟩
  .have D:=Vk (prog:=X.prog) (w:=X.w) hh it x t;have e:x.cps.size=vs⁻¹:=by rw[g,af,cK]
   rw[e]at D;exact D
  .rintro j v ⟨c,u,e1,J⟩;show⟨V.str ⟨#[c]⟩,?_,u,J⟩;rw[g,aS,eI,e1];rfl
  .intro b z;exact .inl (!!z)
def Jk(k:SK):It:=⟨λi H=>∃vs,k.Sat H vs/\i<vs⁻¹,λi H x H'=>H'=H/\∀vs,k.Sat H vs->vs[i]?=-x,λi H=>∃vs,k.Sat H vs/\vs⁻¹=i⟩
def Je(k:SK):It:=⟨λi H=>∃vs,k.Sat H vs/\i<vs⁻¹,λi H x H'=>∃T y,H T=none/\x=.ref T/\H'=upd H T (.tup [.int i,y])/\∀vs,k.Sat H vs->vs[i]?=-y,λi H=>∃vs,k.Sat H vs/\vs⁻¹=i⟩
def yg{H:Hp}{k:SK}{vs g:AR}(h:k.Sat H vs)(h':k.Sat H g):vs=g:=by
 cases k with
 |lst a=>have e:=(show H a=-_ from h).symm.trans h';cases e;rfl
 |tup a=>have e:=(show H a=-_ from h).symm.trans h';cases e;rfl
 |str x t=>exact(show vs=_ from h).trans (show g=_ from h').symm
def YX{P:AK}{w:World}{K:PF}{elts:AE}{x1:Nat}{pos:Pos}(k:SK)(e it:AQ)(hne:e≠it):
  Turn P w K (.Tuple elts x1 pos) (Je k) [e,it] e (λi h=>(∃J,IsEnum h e it i J)/\k.pos it i h) where
 mem:=by simp
 obj:=λi h st b L=>by
  let((J,he),o,ho,c,d):=st;have L:b=e\/b=it:=by simpa using L
  rcases L with rfl|rfl
  .exact ⟨_,he,λv z=>by have z':Data.fields _=Data.cell v:=z;cases z'⟩
  .exact ⟨o,ho,λv z=>by rw[d]at z;cases z⟩
 keep:=λi h h' st kk=>⟨let⟨J,he⟩:=st.1;⟨J,kk e (!2) _ he⟩,st.2.keep λo ho=>kk it (!2) o ho⟩
 item:=by
  intro X hP hw hK hc i p9 s Y H E I hf st hg;subst hP hw hK;let(vs,O,hi):=hg;let((J,he),U):=st;have hfe:=hf e (!2);have hfi:=hf it (!2);let(fp,Pd,S,Dr):=drawn (A:=X.A.in1) (I.ok.hd hc) I O hfi.1 U;have helt:e<(~~~s):=aE he;have hef:e∉fp:=λL=>by
   rcases Dr.fp e L with z|z
   .exact hne z
   .have:=O.no hfe.1;cases k with
    |lst a=>cases z;exact this rfl
    |tup a=>cases z;exact this rfl
    |str _ _=>cases z
  show wpAny_pyNext_enum_itemD Dr.D he Dr.st hi hne hef λu h1 tk hu heo hit1 ht1 hz1 hk1=>?_;let(x,hx,ru):=Dr.val _ _ hu;show⟨_,rfl,?_⟩;show wpAny_letOwnedTupleGo_enum heo λh2 he2 hs2=>?_;have N:Heap.SameBut e h1 h2:=hs2;have hn:H (~~~s)=none:=I.hok.fresh (av _);have k2:∀b o,b∉[e,it]->s.heap.get? b=-o->h2.get? b=-o:=λb o L q=>by
   have g:b≠e/\b≠it:=by simpa using L
   exact N.extBut b o g.1 (hk1 b o g.1 g.2 q)
  have I2:Inv X p9 Y H {s with heap:=h2,toks:=tk+1}:=I.turnedL hf k2;have ht2:h2.get? (~~~s)=-{cls:=.type "tuple",data:=.seq #[.int i tk,u]}:=N.extBut _ _ (fo helt) ht1;have ob:ObjOk X.prog X.w (upd H (~~~s) (.tup [.int i,x])) h2 (~~~s) (.tup [.int i,x]):=
   ⟨by rw[fF];simp,[.int i tk,u],.cons ⟨_,rfl⟩ (.cons ru .nil),⟨_,ht2,⟨rfl,rfl⟩,_,rfl⟩⟩
  have I3:=I2.track (I.fpOk (av _) hn) ob;have nee:(~~~s)≠e:=fo helt;have nei:(~~~s)≠it:=by let(o,ho,_):=U;exact fo (aE ho)
  show⟨.ref (~~~s),_,I3,rfl,⟨(~~~s),x,hn,rfl,rfl,λys hy=>by rw[yg hy O];exact hx⟩,⟨⟨u,?_⟩,?_⟩,λb L=>?_⟩
  .change IsEnum h2 e it (((i+1:Nat)):Int) u;rw[show(((i+1:Nat):Int))=(i:Int)+1 by lia];exact he2
  .exact (Dr.pos _ _ hit1).keep λo ho=>N.extBut _ _ (Ne.symm hne) ho
  .have g:b=e\/b=it:=by simpa using L
   rw[aK (by rcases g with rfl|rfl;exact Ne.symm nee;exact Ne.symm nei)];exact(hf b L).1
 done:=by
  intro X hP hw hK hc i p9 s Y H E I hf st hg;subst hP hw hK;let(vs,O,hi):=hg;subst hi;let((J,he),U):=st;have hfi:=hf it (!2);let(fp,Pd,S,Dr):=drawn (A:=X.A.in1) (I.ok.hd hc) I O hfi.1 U;show wpAny_pyNext_enum_endD Dr.D he Dr.st λh' eb=>⟨rfl,I.turnedL (t':=s.toks) hf λb o L q=>?_⟩;have g:b≠e/\b≠it:=by simpa using L
  exact eb b o g.2 q
 self:=λA i s Q E st h=>by
  let((J,he),_):=st;exact wpAny_pyIter_enum he h
def YZ{P:AK}{w:World}{K:PF}{tg:AO}(k:SK)(it:AQ):Turn P w K tg (Jk k) [it] it (λi h=>k.pos it i h) where
 mem:=by simp
 obj:=λi h st b hb=>by
  have e:b=it:=by simpa using hb
  subst e;let(o,e,c,d):=st;exact⟨o,e,λv z=>by rw[d]at z;cases z⟩
 keep:=λi h h' st kk=>st.keep λo e=>kk it (!2) o e
 item:=by
  intro X U hw O hc i p9 s Y H E I N st hg;let(vs,J,hi):=hg;have hfi:=N it (!2);cases k with
  |lst a=>
   have g:H a=-(.lst vs):=J;show dQ ((Bp (tg:=tg) a it).item X U hw O hc i p9 s Y H E I N st ⟨vs,vs[i],SqL.of g,by simp[hi]⟩) ?_ (λp p e=>e);rintro r s1 ⟨u,hr,h1⟩;show⟨u,hr,dQ h1 ?_ (λp p e=>e)⟩;rintro _ s2 ⟨x,H',I',rx,⟨e1,e2⟩,L,fr⟩;exact⟨x,H',I',rx,⟨e1,λws q=>e2 ws (SqL.of (show H a=-(.lst ws) from q))⟩,L,fr⟩
  |tup a=>
   have g:H a=-(.tup vs):=J;show dQ ((Bq (tg:=tg) a it).item X U hw O hc i p9 s Y H E I N st ⟨vs,vs[i],SqT.of g,by simp[hi]⟩) ?_ (λp p e=>e);rintro r s1 ⟨u,hr,h1⟩;show⟨u,hr,dQ h1 ?_ (λp p e=>e)⟩;rintro _ s2 ⟨x,H',I',rx,⟨e1,e2⟩,L,fr⟩;exact⟨x,H',I',rx,⟨e1,λws q=>e2 ws (SqT.of (show H a=-(.tup ws) from q))⟩,L,fr⟩
  |str y t=>
   have g:vs=y.cps.toList.map λc=>V.str ⟨#[c]⟩:=J;have hlen:vs⁻¹=y.cps.size:=by rw[g,af,cK]
   show dQ ((vh (tg:=tg) it y t).item X U hw O hc i p9 s Y H E I N st (show i<y.cps.size by lia)) ?_ (λp p e=>e);rintro r s1 ⟨u,hr,h1⟩;show⟨u,hr,dQ h1 ?_ (λp p e=>e)⟩;rintro _ s2 ⟨x,H',I',rx,⟨e1,c,e2,e3⟩,L,fr⟩;show⟨x,H',I',rx,⟨e1,λws q=>?_⟩,L,fr⟩;have q:ws=y.cps.toList.map λc=>V.str ⟨#[c]⟩:=q;rw[q,e3,aS,eI,e2];rfl
 done:=by
  intro X U hw O hc i p9 s Y H E I N st hg;let(vs,J,hi):=hg;cases k with
  |lst a=>exact(Bp (tg:=tg) a it).done X U hw O hc i p9 s Y H E I N st ⟨vs,SqL.of (show H a=-(.lst vs) from J),!0⟩
  |tup a=>exact(Bq (tg:=tg) a it).done X U hw O hc i p9 s Y H E I N st ⟨vs,SqT.of (show H a=-(.tup vs) from J),!0⟩
  |str y t=>
   have g:vs=y.cps.toList.map λc=>V.str ⟨#[c]⟩:=J;have hlen:vs⁻¹=y.cps.size:=by rw[g,af,cK]
   exact(vh (tg:=tg) it y t).done X U hw O hc i p9 s Y H E I N st (show i=y.cps.size by lia)
 self:=λA i s Q E st h=>by
  cases k with
  |lst a=>exact wpAny_pyIter_listiter st h
  |tup a=>exact wpAny_pyIter_tupleiter st h
  |str y t=>exact(vh (K:=K) (tg:=tg) it y t).self A i s Q E st h
open Builtin Builtin.Str
section
variable {prog:AK} {w:World} {A:AM} {E:AG} {s:AI}
theorem Y0{z TI TO i1 i2:AQ}{k n1 n2:Nat}{fp1 fp2:List AQ}{P1 P2:Nat->AN->Prop}{S1 S2:Nat->Heap->Prop}{a b:AN}{Q:AG}(D:ZApart z TI TO i1 i2)
  (D1:Draws prog w A i1 fp1 n1 P1 S1) (D2:Draws prog w A i2 fp2 n2 P2 S2) (f1:∀c∈fp1,c≠z/\c≠TO/\c≠i2) (f2:∀c∈fp2,c≠z/\c≠TO/\c≠i1)
  (hz:IsZip s.heap z TI TO .none) (hTI:IsPair s.heap TI (.ref i1) (.ref i2)) (hTO:IsPair s.heap TO a b)
  (h1:S1 k s.heap) (h2:S2 k s.heap) (hx:k<n1) (hy:k<n2)
  (hQ:∀h' tk c d,P1 k c->P2 k d->IsZip h' z TI TO (rawInt (~~~s))->IsPair h' TO c d->S1 (k+1) h'->S2 (k+1) h'->
   IsPair h' (~~~s) c d->h'.objs.size=(~~~s)+1->
   (∀c o,c≠z->c≠TO->c≠i1->c≠i2->s.heap.get? c=-o->h'.get? c=-o)->Q (.ref (~~~s)) {s with heap:=h',toks:=tk}):
  wpAny (model prog w) A (Builtin.«zip.__next__» ⟨[.ref z],[]⟩) (λfin s'=>∃v,fin=.done (.ret v)/\Q v s') E s:=by
 have e1:∀{h h':Heap}{c:AQ}{j:Nat},S1 j h->Heap.ExtBut c h h'->(∀b∈fp1,b≠c)->S1 j h':=λq e n=>D1.frame _ _ _ q λb hb o y=>e b o (n b hb) y;have e2:∀{h h':Heap}{c:AQ}{j:Nat},S2 j h->Heap.ExtBut c h h'->(∀b∈fp2,b≠c)->S2 j h':=λq e n=>D2.frame _ _ _ q λb hb o y=>e b o (n b hb) y;have z1:∀b∈fp1,b≠z:=λb hb=>(f1 b hb).1;have t1:∀b∈fp1,b≠TO:=λb hb=>(f1 b hb).2.1;have j1:∀b∈fp1,b≠i2:=λb hb=>(f1 b hb).2.2;have z2:∀b∈fp2,b≠z:=λb hb=>(f2 b hb).1;have t2:∀b∈fp2,b≠TO:=λb hb=>(f2 b hb).2.1;have j2:∀b∈fp2,b≠i1:=λb hb=>(f2 b hb).2.2;change wpAny _ _ (field (.ref z) 2 >>= _) _ _ _;show ab (d3 hz rfl (x:=.bool false) rfl ?_);change wpAny _ _ (field (.ref z) 3 >>= _) _ _ _;show ab (d3 hz rfl (x:=.ref TI) rfl ?_);show ab (fh hTI rfl ?_);change wpAny _ _ (Builtin.SmallTypes.ownedTupleIsFree (.ref z) >>= _) _ _ _;show ab ?_;unfold Builtin.SmallTypes.ownedTupleIsFree;show ab (d3 hz rfl (x:=.none) rfl (aw ?_));simp only[if_true];show ab (wpAny_rule ?_);show ab (d3 hz rfl (x:=.ref TO) rfl ?_);show ab (fg hz (!2) λh₁ hz₁ J=>?_);replace hz₁:IsZip h₁ z TI TO .ellipsis:=hz₁;replace J:Heap.SameBut z s.heap h₁:=J;show ab ?_;simp only[List.zipIdx_cons,List.zipIdx_nil,fw,List.forIn_nil];show ab (ab (wpAny_onRaise ?_));change wpAny _ _ (Builtin.SmallTypes.nextOf (.ref i1) >>= _) _ _ _;show ab (D1.item k _ _ _ hx (e1 h1 J.extBut z1) λc h₂ tk₂ hc h1₂ L=>aw ?_);replace L:Heap.SameBut i1 h₁ h₂:=L;have hTO₂:IsPair h₂ TO a b:=L.extBut _ _ D.TOi1 (J.extBut _ _ D.TOz hTO);show ab (fh hTO₂ rfl ?_);show ab (wpAny_updateSeq_pair hTO₂ λh₃ hTO₃ N=>?_);replace hTO₃:IsPair h₃ TO c b:=hTO₃;replace N:Heap.SameBut TO h₂ h₃:=N;show ab (wpAny_letGo (aw ?_));show ab (ab (wpAny_onRaise ?_));change wpAny _ _ (Builtin.SmallTypes.nextOf (.ref i2) >>= _) _ _ _;show ab (D2.item k _ _ _ hy (e2 (e2 (e2 h2 J.extBut z2) L.extBut j2) N.extBut t2) λd h₄ tk₄ hd h2₄ O=>aw ?_);replace O:Heap.SameBut i2 h₃ h₄:=O;have hTO₄:IsPair h₄ TO c b:=O.extBut _ _ D.TOi2 hTO₃;show ab (fh hTO₄ rfl ?_);show ab (wpAny_updateSeq_pair hTO₄ λg Y U=>?_);replace Y:IsPair g TO c d:=Y;replace U:Heap.SameBut TO h₄ g:=U;show ab (wpAny_letGo (aw (aw ?_)));show ab (fh Y rfl ?_);show ab (wpAny_newTuple ?_);have hsz:g.objs.size=(~~~s):=by rw[U.1,O.1,N.1,L.1,J.1]
 have hz₅:IsZip g z TI TO .ellipsis:=U.extBut _ _ D.TOz.symm (O.extBut _ _ D.i2z.symm (N.extBut _ _ D.TOz.symm (L.extBut _ _ D.i1z.symm hz₁)));have hk₅:∀c o,c≠z->c≠TO->c≠i1->c≠i2->s.heap.get? c=-o->g.get? c=-o:=λc o c1 c2 c3 c4 e=>
  U.extBut _ _ c2 (O.extBut _ _ c4 (N.extBut _ _ c2 (L.extBut _ _ c3 (J.extBut _ _ c1 e))))
 have h1₅:S1 (k+1) g:=e1 (e1 (e1 h1₂ N.extBut t1) O.extBut j1) U.extBut t1;have h2₅:S2 (k+1) g:=e2 h2₄ U.extBut t2;have hzlt:z<g.objs.size:=aE hz₅;change wpAny _ _ (Builtin.SmallTypes.ownedTupleHandOut (.ref z) (.ref g.objs.size) >>= _) _ _ _;show ab ?_;unfold Builtin.SmallTypes.ownedTupleHandOut;have hz₆:IsZip (g.push {cls:=.type "tuple",data:=.seq #[c,d]}) z TI TO .ellipsis:=ag _ hz₅;show ab (fg hz₆ (!2) λh₇ hz₇ hs₇=>?_);replace hz₇:IsZip h₇ z TI TO (rawInt g.objs.size):=hz₇;show fg hz₇ (!2) λh₈ hz₈ hs₈=>?_;replace hz₈:IsZip h₈ z TI TO (rawInt g.objs.size):=hz₈;have up:∀c o,c≠z->g.get? c=-o->h₈.get? c=-o:=λc o c1 e=>hs₈.extBut _ _ c1 (hs₇.extBut _ _ c1 (ag _ e));have hT₈:IsPair h₈ g.objs.size c d:=hs₈.extBut _ _ (fo hzlt) (hs₇.extBut _ _ (fo hzlt) (aT _ rfl));have hz8:h₈.objs.size=g.objs.size+1:=by rw[hs₈.1,hs₇.1,cr]
 rw[hsz]at hz₈ hT₈ hz8;show aw ⟨_,rfl,?_⟩;change Q (.ref g.objs.size) _;rw[hsz];exact hQ h₈ tk₄ c d hc hd hz₈ (up _ _ D.TOz Y) (D1.frame _ _ _ h1₅ λb hb o y=>up b o (z1 b hb) y) (D2.frame _ _ _ h2₅ λb hb o y=>up b o (z2 b hb) y) hT₈ hz8 λc o c1 c2 c3 c4 e=>up c o c1 (hk₅ c o c1 c2 c3 c4 e)
theorem Y4{z TI TO i1 i2:AQ}{n1:Nat}{Y:List AQ}{P1:Nat->AN->Prop}{S1:Nat->Heap->Prop}{a b:AN}{Q:Fin->AI->Prop}(D:ZApart z TI TO i1 i2)
  (D1:Draws prog w A i1 Y n1 P1 S1) (f1:∀c∈Y,c≠z)
  (hz:IsZip s.heap z TI TO .none) (hTI:IsPair s.heap TI (.ref i1) (.ref i2)) (hTO:IsPair s.heap TO a b) (h1:S1 n1 s.heap)
  (hE:∀h' e,(∀c o,c≠z->c≠TO->c≠i1->c≠i2->s.heap.get? c=-o->h'.get? c=-o)->(∃o,h'.get? e=-o/\o.cls=.type "StopIteration")->E (.ref e) {s with heap:=h'}):
  wpAny (model prog w) A (Builtin.«zip.__next__» ⟨[.ref z],[]⟩) Q E s:=by
 change wpAny _ _ (field (.ref z) 2 >>= _) _ _ _;show ab (d3 hz rfl (x:=.bool false) rfl ?_);change wpAny _ _ (field (.ref z) 3 >>= _) _ _ _;show ab (d3 hz rfl (x:=.ref TI) rfl ?_);show ab (fh hTI rfl ?_);change wpAny _ _ (Builtin.SmallTypes.ownedTupleIsFree (.ref z) >>= _) _ _ _;show ab ?_;unfold Builtin.SmallTypes.ownedTupleIsFree;show ab (d3 hz rfl (x:=.none) rfl (aw ?_));simp only[if_true];show ab (wpAny_rule ?_);show ab (d3 hz rfl (x:=.ref TO) rfl ?_);show ab (fg hz (!2) λO q g=>?_);replace q:IsZip O z TI TO .ellipsis:=q;replace g:Heap.SameBut z s.heap O:=g;show ab ?_;simp only[List.zipIdx_cons,List.zipIdx_nil,fw,List.forIn_nil];show ab (ab (wpAny_onRaise ?_));change wpAny _ _ (Builtin.SmallTypes.nextOf (.ref i1) >>= _) _ _ _;show ab (D1.done _ _ _ (D1.frame _ _ _ h1 λb hb o y=>g.extBut b o (f1 b hb) y) λh₂ e J he=>?_);let(oe,U,hce):=he;have N:IsZip h₂ z TI TO .ellipsis:=J _ _ D.i1z.symm q;have hez:e≠z:=λx=>by subst x;rw[N]at U;cases U;simp at hce
 show fg N (!2) λh₃ v L=>hE h₃ e (λc o c1 v c3 v x=>L.extBut _ _ c1 (J _ _ c3 (g.extBut _ _ c1 x))) ⟨oe,L.extBut _ _ hez U,hce⟩
theorem Y5{z TI TO i1 i2:AQ}{k n1 n2:Nat}{fp1 U:List AQ}{P1 P2:Nat->AN->Prop}{S1 S2:Nat->Heap->Prop}{a b:AN}{Q:Fin->AI->Prop}(D:ZApart z TI TO i1 i2)
  (D1:Draws prog w A i1 fp1 n1 P1 S1) (D2:Draws prog w A i2 U n2 P2 S2) (f1:∀c∈fp1,c≠z/\c≠TO/\c≠i2) (f2:∀c∈U,c≠z/\c≠TO/\c≠i1)
  (hz:IsZip s.heap z TI TO .none) (hTI:IsPair s.heap TI (.ref i1) (.ref i2)) (hTO:IsPair s.heap TO a b) (h1:S1 k s.heap) (h2:S2 k s.heap) (hx:k<n1) (hy:k=n2)
  (hE:∀h' tk e,(∀c o,c≠z->c≠TO->c≠i1->c≠i2->s.heap.get? c=-o->h'.get? c=-o)->(∃o,h'.get? e=-o/\o.cls=.type "StopIteration")->E (.ref e) {s with heap:=h',toks:=tk}):
  wpAny (model prog w) A (Builtin.«zip.__next__» ⟨[.ref z],[]⟩) Q E s:=by
 have e1:∀{h h':Heap}{c:AQ}{j:Nat},S1 j h->Heap.ExtBut c h h'->(∀b∈fp1,b≠c)->S1 j h':=λq e n=>D1.frame _ _ _ q λb Y o y=>e b o (n b Y) y;have e2:∀{h h':Heap}{c:AQ}{j:Nat},S2 j h->Heap.ExtBut c h h'->(∀b∈U,b≠c)->S2 j h':=λq e n=>D2.frame _ _ _ q λb Y o y=>e b o (n b Y) y;have z1:∀b∈fp1,b≠z:=λb Y=>(f1 b Y).1;have z2:∀b∈U,b≠z:=λb Y=>(f2 b Y).1;have t2:∀b∈U,b≠TO:=λb Y=>(f2 b Y).2.1;have j2:∀b∈U,b≠i1:=λb Y=>(f2 b Y).2.2;change wpAny _ _ (field (.ref z) 2 >>= _) _ _ _;show ab (d3 hz rfl (x:=.bool false) rfl ?_);change wpAny _ _ (field (.ref z) 3 >>= _) _ _ _;show ab (d3 hz rfl (x:=.ref TI) rfl ?_);show ab (fh hTI rfl ?_);change wpAny _ _ (Builtin.SmallTypes.ownedTupleIsFree (.ref z) >>= _) _ _ _;show ab ?_;unfold Builtin.SmallTypes.ownedTupleIsFree;show ab (d3 hz rfl (x:=.none) rfl (aw ?_));simp only[if_true];show ab (wpAny_rule ?_);show ab (d3 hz rfl (x:=.ref TO) rfl ?_);show ab (fg hz (!2) λh₁ N g=>?_);replace N:IsZip h₁ z TI TO .ellipsis:=N;replace g:Heap.SameBut z s.heap h₁:=g;show ab ?_;simp only[List.zipIdx_cons,List.zipIdx_nil,fw,List.forIn_nil];show ab (ab (wpAny_onRaise ?_));change wpAny _ _ (Builtin.SmallTypes.nextOf (.ref i1) >>= _) _ _ _;show ab (D1.item k _ _ _ hx (e1 h1 g.extBut z1) λc h₂ tk₂ hc h1₂ J=>aw ?_);replace J:Heap.SameBut i1 h₁ h₂:=J;have O:IsPair h₂ TO a b:=J.extBut _ _ D.TOi1 (g.extBut _ _ D.TOz hTO);show ab (fh O rfl ?_);show ab (wpAny_updateSeq_pair O λh₃ hTO₃ L=>?_);replace L:Heap.SameBut TO h₂ h₃:=L;show ab (wpAny_letGo (aw ?_));show ab (ab (wpAny_onRaise ?_));change wpAny _ _ (Builtin.SmallTypes.nextOf (.ref i2) >>= _) _ _ _;subst hy;show ab (D2.done _ _ _ (e2 (e2 (e2 h2 g.extBut z2) J.extBut j2) L.extBut t2) λh₄ e hs₄ he=>?_);let(oe,hoe,hce):=he;have hz₄:IsZip h₄ z TI TO .ellipsis:=hs₄ _ _ D.i2z.symm (L.extBut _ _ D.TOz.symm (J.extBut _ _ D.i1z.symm N));have hez:e≠z:=λx=>by subst x;rw[hz₄]at hoe;cases hoe;simp at hce
 show fg hz₄ (!2) λh₅ v hs₅=>hE h₅ tk₂ e (λc o c1 c2 c3 c4 x=>hs₅.extBut _ _ c1 (hs₄ _ _ c4 (L.extBut _ _ c2 (J.extBut _ _ c3 (g.extBut _ _ c1 x))))) ⟨oe,hs₅.extBut _ _ hez hoe,hce⟩
end
def Jz(k l:SK):It:=⟨λi H=>∃vs g,k.Sat H vs/\l.Sat H g/\i<vs⁻¹/\i<g⁻¹,
 λi H x H'=>∃T y z,H T=none/\x=.ref T/\H'=upd H T (.tup [y,z])/\(∀vs,k.Sat H vs->vs[i]?=-y)/\(∀g,l.Sat H g->g[i]?=-z),
 λi H=>∃vs g,k.Sat H vs/\l.Sat H g/\(vs⁻¹=i/\i<=g⁻¹\/i<vs⁻¹/\g⁻¹=i)⟩
def Y6{P:AK}{w:World}{K:PF}{elts:AE}{x1:Nat}{pos:Pos}(k l:SK)(z TI TO O U:AQ)(D:ZApart z TI TO O U):
  Turn P w K (.Tuple elts x1 pos) (Jz k l) [z,TI,TO,O,U] z
   (λi h=>IsZip h z TI TO .none/\IsPair h TI (.ref O) (.ref U)/\(∃a b,IsPair h TO a b)/\k.pos O i h/\l.pos U i h) where
 mem:=by simp
 obj:=λi h st b hb=>by
  let(hz,L,(a,c,hTO),(o1,e1,_,d1),(o2,e2,_,d2)):=st;have g:b=z\/b=TI\/b=TO\/b=O\/b=U:=by simpa using hb
  rcases g with rfl|rfl|rfl|rfl|rfl
  .exact ⟨_,hz,λv q=>by have q':Data.fields _=Data.cell v:=q;cases q'⟩
  .exact ⟨_,L,λv q=>by have q':Data.seq _ _=Data.cell v:=q;cases q'⟩
  .exact ⟨_,hTO,λv q=>by have q':Data.seq _ _=Data.cell v:=q;cases q'⟩
  .exact ⟨o1,e1,λv q=>by rw[d1]at q;cases q⟩
  .exact ⟨o2,e2,λv q=>by rw[d2]at q;cases q⟩
 keep:=λi h h' st kk=>by
  let(hz,L,(a,c,hTO),p1,p2):=st;exact⟨kk z (!2) _ hz,kk TI (!2) _ L,⟨a,c,kk TO (!2) _ hTO⟩,p1.keep λo e=>kk O (!2) o e,p2.keep λo e=>kk U (!2) o e⟩
 item:=by
  intro X hP hw hK hc i p9 s Y H E I hf st hg;subst hP hw hK;let(vs,ws,sat1,sat2,l1,l2):=hg;let(hz,L,(a,b,hTO),h1,h2):=st;have hT:s.TypeIs (.ref z) "zip":=⟨_,hz,rfl⟩;have fz:=hf z (!2);have fTO:=hf TO (!2);have fi1:=hf O (!2);have fi2:=hf U (!2);let(fp1,P1,S1,J):=drawn (A:=X.A.in1) (I.ok.hd hc) I sat1 fi1.1 h1;let(fp2,P2,S2,Dr2):=drawn (A:=X.A.in1) (I.ok.hd hc) I sat2 fi2.1 h2;have no1:∀e,H e=none->e≠O->∀c∈fp1,c≠e:=λe he hei c hc z=>by
   rcases J.fp c hc with q|q
   .exact hei (z.symm.trans q)
   .have:=sat1.no he;cases k with
    |lst a=>injection q with q;exact this (q.trans z)
    |tup a=>injection q with q;exact this (q.trans z)
    |str _ _=>cases q
  have no2:∀e,H e=none->e≠U->∀c∈fp2,c≠e:=λe he hei c hc z=>by
   rcases Dr2.fp c hc with q|q
   .exact hei (z.symm.trans q)
   .have:=sat2.no he;cases l with
    |lst a=>injection q with q;exact this (q.trans z)
    |tup a=>injection q with q;exact this (q.trans z)
    |str _ _=>cases q
  have f1:∀c∈fp1,c≠z/\c≠TO/\c≠U:=λc hc=>⟨no1 z fz.1 D.i1z.symm c hc,no1 TO fTO.1 D.TOi1 c hc,no1 U fi2.1 D.i12.symm c hc⟩;have f2:∀c∈fp2,c≠z/\c≠TO/\c≠O:=λc hc=>⟨no2 z fz.1 D.i2z.symm c hc,no2 TO fTO.1 D.TOi2 c hc,no2 O fi1.1 D.i12 c hc⟩;have ltz:z<(~~~s):=aE hz;have ltTI:TI<(~~~s):=aE L;have ltTO:TO<(~~~s):=aE hTO;have lti1:O<(~~~s):=by let(_,e,_):=h1;exact aE e
  have lti2:U<(~~~s):=by let(_,e,_):=h2;exact aE e
  unfold pyNext;show ab (wpAny_attempt (dP (name:=⇑"__next__") hT F.slot_zip_next
   (ff F.slot_zip_next hT F.entry_zip_next (Y0 D J.D Dr2.D f1 f2 hz L hTO J.st Dr2.st l1 l2 λh' tk c d pc pd a1 a2 a3 a4 a5 a6 hk=>aw ?_) (F.args_zip_next_1 _))))
  let(y,hy,ry):=J.val _ _ pc;let(y',hy',ry'):=Dr2.val _ _ pd;show⟨_,rfl,?_⟩;show wpAny_letOwnedTupleGo_zip a1 λh2' hz2 hs2=>?_;have N:Heap.SameBut z h' h2':=hs2;have hn:H (~~~s)=none:=I.hok.fresh (av _);have k2:∀b o,b∉[z,TI,TO,O,U]->s.heap.get? b=-o->h2'.get? b=-o:=λb o hb q=>by
   have g:b≠z/\b≠TI/\b≠TO/\b≠O/\b≠U:=by simpa using hb
   exact N.extBut b o g.1 (hk b o g.1 g.2.2.1 g.2.2.2.1 g.2.2.2.2 q)
  have I2:Inv X p9 Y H {s with heap:=h2',toks:=tk}:=I.turnedL hf k2;have ht2:h2'.get? (~~~s)=-{cls:=.type "tuple",data:=.seq #[c,d]}:=N.extBut _ _ (fo ltz) a5;have ob:ObjOk X.prog X.w (upd H (~~~s) (.tup [y,y'])) h2' (~~~s) (.tup [y,y']):=
   ⟨by rw[fF];simp,[c,d],.cons ry (.cons ry' .nil),⟨_,ht2,⟨rfl,rfl⟩,_,rfl⟩⟩
  have I3:=I2.track (I.fpOk (av _) hn) ob;show⟨.ref (~~~s),_,I3,rfl,⟨(~~~s),y,y',hn,rfl,rfl,λus hu=>by rw[yg hu sat1];exact hy,λus hu=>by rw[yg hu sat2];exact hy'⟩,
   ⟨hz2,N.extBut _ _ D.TIz (hk _ _ D.TIz D.TITO D.TIi1 D.TIi2 L),⟨_,_,N.extBut _ _ D.TOz a2⟩,(J.pos _ _ a3).keep λo e=>N.extBut _ _ D.i1z e,(Dr2.pos _ _ a4).keep λo e=>N.extBut _ _ D.i2z e⟩,λb hb=>?_⟩
  have g:b=z\/b=TI\/b=TO\/b=O\/b=U:=by simpa using hb
  rw[aK (by rcases g with rfl|rfl|rfl|rfl|rfl<;>exact bv ‹_›)];exact(hf b hb).1
 done:=by
  intro X hP hw hK hc i p9 s Y H E I hf st hg;subst hP hw hK;let(vs,ws,sat1,sat2,hend):=hg;let(hz,L,(a,b,hTO),h1,h2):=st;have hT:s.TypeIs (.ref z) "zip":=⟨_,hz,rfl⟩;have fz:=hf z (!2);have fTO:=hf TO (!2);have fi1:=hf O (!2);have fi2:=hf U (!2);let(fp1,P1,S1,J):=drawn (A:=X.A.in1) (I.ok.hd hc) I sat1 fi1.1 h1;let(fp2,P2,S2,Dr2):=drawn (A:=X.A.in1) (I.ok.hd hc) I sat2 fi2.1 h2;have no1:∀e,H e=none->e≠O->∀c∈fp1,c≠e:=λe he hei c hc z=>by
   rcases J.fp c hc with q|q
   .exact hei (z.symm.trans q)
   .have:=sat1.no he;cases k with
    |lst a=>injection q with q;exact this (q.trans z)
    |tup a=>injection q with q;exact this (q.trans z)
    |str _ _=>cases q
  have no2:∀e,H e=none->e≠U->∀c∈fp2,c≠e:=λe he hei c hc z=>by
   rcases Dr2.fp c hc with q|q
   .exact hei (z.symm.trans q)
   .have:=sat2.no he;cases l with
    |lst a=>injection q with q;exact this (q.trans z)
    |tup a=>injection q with q;exact this (q.trans z)
    |str _ _=>cases q
  have f1:∀c∈fp1,c≠z/\c≠TO/\c≠U:=λc hc=>⟨no1 z fz.1 D.i1z.symm c hc,no1 TO fTO.1 D.TOi1 c hc,no1 U fi2.1 D.i12.symm c hc⟩;have f2:∀c∈fp2,c≠z/\c≠TO/\c≠O:=λc hc=>⟨no2 z fz.1 D.i2z.symm c hc,no2 TO fTO.1 D.TOi2 c hc,no2 O fi1.1 D.i12 c hc⟩;have fin:∀(h':Heap)(tk:Nat)(e:AQ),(∀c o,c≠z->c≠TO->c≠O->c≠U->s.heap.get? c=-o->h'.get? c=-o)->Inv X p9 Y H {s with heap:=h',toks:=tk}:=λh' tk e hk=>I.turnedL (t':=tk) hf λb o hb q=>by
   have g:b≠z/\b≠TI/\b≠TO/\b≠O/\b≠U:=by simpa using hb
   exact hk b o g.1 g.2.2.1 g.2.2.2.1 g.2.2.2.2 q
  unfold pyNext;show ab (wpAny_attempt (dP (name:=⇑"__next__") hT F.slot_zip_next
   (ff F.slot_zip_next hT F.entry_zip_next ?_ (F.args_zip_next_1 _))))
  rcases hend with⟨e1,_⟩|⟨e1,e2⟩
  .subst e1;show Y4 D J.D (λc hc=>(f1 c hc).1) hz L hTO J.st λh' e hk he=>?_;let(o,ho,hc'):=he;show ab (wpAny_isInstance (T:="StopIteration") (b:=true) ⟨o,ho,hc'⟩ isSubtype_stop ?_);exact aw ⟨rfl,fin h' s.toks e hk⟩
  .show Y5 D J.D Dr2.D f1 f2 hz L hTO J.st Dr2.st e1 e2.symm λh' tk e hk he=>?_;let(o,ho,hc'):=he;show ab (wpAny_isInstance (T:="StopIteration") (b:=true) ⟨o,ho,hc'⟩ isSubtype_stop ?_);exact aw ⟨rfl,fin h' tk e hk⟩
 self:=λA i s Q E st h=>wpAny_pyIter_zip st.1 h
open Sem (wp)
open AutoSeq1 (wpAny_loadPart')
set_option maxHeartbeats 1000000 in
theorem Y7(l:AQ)(q:Array AN)(n:Nat)(dct:Option AQ)(N:Array (Option AN)):
  Meets (Builtin.«enumerate.__new__» ⟨[.type "enumerate",.ref l],[]⟩) (λy R s=>s.heap.get? l=-{cls:=.type "tuple",dict:=dct,data:=.seq q n,slots:=N}/\
   R (.ok (.ret (.ref (s.heap.push {cls:=.type "tuple_iterator",data:=.fields #[.ref l,.int 0 0]}).objs.size)))
    {s with heap:=(s.heap.push {cls:=.type "tuple_iterator",data:=.fields #[.ref l,.int 0 0]}).push {cls:=.type "enumerate",data:=.fields #[.none,.bool false,.ref (~~~s),rawInt 0,.none,.none]}}):=
 .of_wp λprog w A R s h=>by
  let(L,g,d,O,os):=s;let(hl,h):=h;have J:=sub_enumerate;have z:Heap.IsTuple (Shared.heap ⟨L,g,d,O,os⟩) l q:=⟨_,hl,rfl,n,rfl⟩;wp_walk using wpAny_loadPart' hl
  show wpAny_stack_any λst=>aw ?_;split
  .rename_i c _ _ _ _ _;cases(c==Value.type "enumerate")
   .wp_walk using wpAny_loadPart' hl,wpAny_pyIter_tuple z
    exact⟨_,rfl,h⟩
   .wp_walk using wpAny_loadPart' hl,wpAny_pyIter_tuple z
    exact⟨_,rfl,h⟩
  .wp_walk using wpAny_loadPart' hl,wpAny_pyIter_tuple z
   exact⟨_,rfl,h⟩
abbrev sI(h:Heap)(k:SK):Heap:=h.push k.obj
abbrev sJ(h:Heap)(k l:SK):Heap:=(sI h k).push l.obj
abbrev sO (h:Heap) (k l:SK):Heap:=(sJ h k l).push {cls:=.type "tuple",data:=.seq #[.ref h.objs.size,.ref (sI h k).objs.size]}
abbrev sS (h:Heap) (k l:SK):Heap:=(sO h k l).push {cls:=.type "tuple",data:=.seq #[.none,.none]}
abbrev iM (h:Heap) (k l:SK):Heap:=(sS h k l).push {cls:=.type "zip",data:=.fields #[.none,.bool false,.bool false,.ref (sJ h k l).objs.size,.ref (sO h k l).objs.size]}
def Y8(k l:SK)(xs ys:Array AN):
  Meets (Builtin.«zip.__new__» ⟨[.type "zip",k.val,l.val],[]⟩) (λy R s=>k.On xs s.heap/\l.On ys s.heap/\R (.ok (.ret (.ref (sS s.heap k l).objs.size))) {s with heap:=iM s.heap k l}):=
 .of_wp λprog w A R s h=>by
  let(J,g,d,N,os):=s;let(h1,h2,h):=h;have L:=sub_zip;have q:k.On xs (Shared.heap ⟨J,g,d,N,os⟩):=h1;have z:l.On ys (Shared.heap ⟨J.push k.obj,g,d,N,os⟩):=SK.On.keeps h2 λb o y e=>ag _ e;wp_walk using SK.iter q,SK.iter z
  exact⟨_,rfl,h⟩
section
variable {prog:AK} {w:World} {A:AM} {E:AG} {s:AI}
theorem Y9{k l:SK}{xs ys:Array AN}{Q:AG}(h1:k.On xs s.heap)(h2:l.On ys s.heap)
  (h:∀h',IsZip h' ((~~~s)+4) ((~~~s)+2) ((~~~s)+3) .none->IsPair h' ((~~~s)+2) (.ref (~~~s)) (.ref ((~~~s)+1))->
   IsPair h' ((~~~s)+3) .none .none->k.pos (~~~s) 0 h'->l.pos ((~~~s)+1) 0 h'->h'.objs.size=(~~~s)+5->
   (∀c o,s.heap.get? c=-o->h'.get? c=-o)->Q (.ref ((~~~s)+4)) {s with heap:=h'}):
  wpAny (model prog w) A (call (.type "zip") [k.val,l.val]) Q E s:=by
 show callType_new F.called_zip (!1) (F.typeCall_zip_2 _ _) (F.newCall_zip_2 _ _) (λobj=>F.args_object_init_3 obj _ _) F.entry_zip_new
  (Y8 k l xs ys) ⟨h1,h2,?_⟩
 have q:(sI s.heap k).objs.size=(~~~s)+1:=cr ..;have z:(sJ s.heap k l).objs.size=(~~~s)+2:=by rw[cr,q]
 have J:(sO s.heap k l).objs.size=(~~~s)+3:=by rw[cr,z]
 have L:(sS s.heap k l).objs.size=(~~~s)+4:=by rw[cr,J]
 have z5:(iM s.heap k l).objs.size=(~~~s)+5:=by rw[cr,L]
 have g:(iM s.heap k l).get? (sS s.heap k l).objs.size=-_:=aT _ rfl;have U:(iM s.heap k l).get? (sO s.heap k l).objs.size=-_:=ag _ (aT _ rfl);have O:(iM s.heap k l).get? (sJ s.heap k l).objs.size=-_:=ag _ (ag _ (aT _ rfl));have N:(iM s.heap k l).get? (sI s.heap k).objs.size=-_:=ag _ (ag _ (ag _ (aT _ rfl)));have Y:(iM s.heap k l).get? (~~~s)=-_:=ag _ (ag _ (ag _ (ag _ (aT _ rfl))));change _/\_;rw[z,J,L]at g;rw[q,z]at O;rw[J]at U;rw[q]at N;rw[L];exact⟨⟨_,g,rfl⟩,h _ g O U ⟨_,Y,rfl,rfl⟩ ⟨_,N,rfl,rfl⟩ z5 λc o x=>
  ag _ (ag _ (ag _ (ag _ (ag _ x))))⟩
theorem Za{l:AQ}{g:Array AN}{Q:AG}(L:s.heap.IsTuple l g)
  (h:∀h',IsEnum h' ((~~~s)+1) (~~~s) 0 .none->h'.IsTupleIter (~~~s) l 0->h'.objs.size=(~~~s)+2->
   (∀b o,s.heap.get? b=-o->h'.get? b=-o)->Q (.ref ((~~~s)+1)) {s with heap:=h'}):
  wpAny (model prog w) A (call (.type "enumerate") [.ref l]) Q E s:=by
 let((c,dct,J,N),hl,hc,n,q):=L;replace hc:c=.type "tuple":=hc;replace q:J=.seq g n:=q;subst hc q;show callType_new F.called_enumerate (!1) (F.typeCall_enumerate_1 _) (F.newCall_enumerate_1 _) (λobj=>F.args_object_init_2 obj _) F.entry_enumerate_new
  (Y7 l g n dct N) ⟨hl,?_⟩
 have z:(s.heap.push {cls:=.type "tuple_iterator",data:=.fields #[.ref l,.int 0 0]}).objs.size=(~~~s)+1:=cr ..;change _/\_;rw[z];have he:IsEnum ((s.heap.push {cls:=.type "tuple_iterator",data:=.fields #[.ref l,.int 0 0]}).push
   {cls:=.type "enumerate",data:=.fields #[.none,.bool false,.ref (~~~s),rawInt 0,.none,.none]}) ((~~~s)+1) (~~~s) 0 .none:=by
  have:=aT (s.heap.push {cls:=.type "tuple_iterator",data:=.fields #[.ref l,.int 0 0]})
   (o:={cls:=.type "enumerate",data:=.fields #[.none,.bool false,.ref (~~~s),rawInt 0,.none,.none]}) rfl
  rw[z]at this;exact this
 show⟨⟨_,he,rfl⟩,h _ he ⟨_,ag _ (aT _ rfl),rfl,rfl⟩ (by rw[cr,z]) λb o x=>ag _ (ag _ x)⟩
theorem Zb{k:SK}{xs:Array AN}{Q:AG}(h1:k.On xs s.heap)
  (h:∀h',IsEnum h' ((~~~s)+1) (~~~s) 0 .none->k.pos (~~~s) 0 h'->h'.objs.size=(~~~s)+2->
   (∀b o,s.heap.get? b=-o->h'.get? b=-o)->Q (.ref ((~~~s)+1)) {s with heap:=h'}):
  wpAny (model prog w) A (call (.type "enumerate") [k.val]) Q E s:=by
 cases k with
 |lst a=>exact call_enumerate_list h1 h
 |tup a=>exact Za h1 h
 |str x t=>exact call_enumerate_str h
end
set_option backward.match.sparseCases false
structure OT where
 ms:List (AL×AL×AL×Nat):=[]
 ks:List (AL×Nat):=[]
 fl:List (AL×AL):=[]
 xk:List (AL×AL):=[]
structure CT where
 N:AD
 kd:List (Str×NameKind)
 fn:Bool
 fs:List (AL×Nat)
 bt:List AL
 cn:List (AL×D)
 xs:List (AL×Bool):=[]
 ot:OT:={}
def iQ:Option NameKind->Bool
 |some .local=>true
 |some .cell=>true
 |some .free=>true
 |_=>false
def CT.sto(c:CT)(x:Str):Bool:=c.kd.lookup x==-.local||(c.fn&&c.kd.lookup x==-.cell)
def okN (x:Str):Bool:=!(x==("__debug__":Str))&&!(x==("__classdict__":Str))&&!(x==("__name__":Str))
def CT.glo(c:CT)(x:Str):Bool:=c.kd.lookup x==-.globalImplicit&&okN x
def sEq:D->D->Bool
 |.non,.non=>true
 |.bl a,.bl b=>a==b
 |.int a,.int b=>a==b
 |.str a,.str b=>a==b
 |_,_=>false
def Zc{a b:D}(h:sEq a b=true):a=b:=by cases a<;>cases b<;>simp_all [sEq]
def sU(d:D)(k:Const):Bool:=
 match d,k with
 |.non,.none=>true
 |.bl a,.bool b=>a==b
 |.int a,.int b=>a==b
 |.str a,.str b=>a==b.cps.toList&&decide (a⁻¹<=sz)
 |_,_=>false
def Bf.name:Bf->AL
 |.len=>"len"
 |.all=>"all"
 |.any=>"any"
 |.int=>"int"
 |.tuple=>"tuple"
 |.sum=>"sum"
 |.min=>"min"
 |.max=>"max"
 |.abs=>"abs"
 |.min2=>"min"
 |.str=>"str"
def yh:Bf->Bool
 |.sum=>false
 |.min=>true
 |.max=>false
 |.abs=>false
 |.min2=>false
 |.str=>true
 |_=>true
def yj:Lf->Bool
 |.sorted=>true
 |_=>true
def Lf.name:Lf->AL
 |.list=>"list"
 |.sorted=>"sorted"
def Mf.name:Mf->AL
 |.join=>"join"
 |.append=>"append"
 |.extend=>"extend"
 |.pop=>"pop"
 |.idxT=>"index"
def aks:AO->Bool
 |.Name _ _=>true
 |.Subscript _ _ _=>true
 |_=>false
def iR:AO->Bool
 |.Call (.Name _ _) [] [] _=>true
 |_=>false
def dO:AO->Bool
 |.ListComp ..=>true
 |.SetComp ..=>true
 |.DictComp ..=>true
 |_=>false
def iT:AO->Bool
 |.UnaryOp .Not _ _=>false
 |.BoolOp ..=>false
 |.IfExp ..=>false
 |.Compare ..=>false
 |_=>true
def gO(N:AD)(scope:Scope):AD->List (Option Nat)->Bool
 |[],[]=>true
 |_::N',none::cap=>gO N scope N' cap
 |x::N',-j::cap=>(N[j]?==-x)&&(scope.names.lookup x==-NameKind.free)&&gO N scope N' cap
 |_,_=>false
def jG(c:CT)(scope:Scope):Bool:=
 scope.names.all (λy=>y.2 != NameKind.cell)&&scope.names.all (λy=>y.2 != NameKind.local||scope.names.lookup y.1==-NameKind.local) &&
 scope.names.all (λy=>y.2 != NameKind.free||(c.kd.lookup y.1==-NameKind.cell||c.kd.lookup y.1==-NameKind.free))&&decide (scope.kind=.function)&&decide (c.kd=c.kd)
def CT.comp(c:CT)(N:AD)(scope:Scope):CT:={N:=N,kd:=scope.names,fn:=false,fs:=c.fs,bt:=c.bt,cn:=c.cn,ot:=c.ot}
def fB:AD->Bool
 |[]=>true
 |x::r=>!r.contains x&&fB r
def asName(e:AO):Option {t:Str×Pos // e=.Name t.1 t.2}:=match e with
 |.Name a0 a1=>-⟨(a0,a1),rfl⟩
 |_=>none
def akt(e:AO):Option {t:AO×Pos // e=.Starred t.1 t.2}:=match e with
 |.Starred a0 a1=>-⟨(a0,a1),rfl⟩
 |_=>none
def yl(e:AO):Option {t:Const×Nat×Pos // e=.Constant t.1 t.2.1 t.2.2}:=match e with
 |.Constant a0 a1 a2=>-⟨(a0,a1,a2),rfl⟩
 |_=>none
def Gv(e:AO):Option {t:AO×Operator×AO×Pos // e=.BinOp t.1 t.2.1 t.2.2.1 t.2.2.2}:=match e with
 |.BinOp a0 a1 a2 a3=>-⟨(a0,a1,a2,a3),rfl⟩
 |_=>none
def jH(e:AO):Option {t:UnaryOp×AO×Pos // e=.UnaryOp t.1 t.2.1 t.2.2}:=match e with
 |.UnaryOp a0 a1 a2=>-⟨(a0,a1,a2),rfl⟩
 |_=>none
def lU(e:AO):Option {t:AO×List CmpOp×AE×Pos // e=.Compare t.1 t.2.1 t.2.2.1 t.2.2.2}:=match e with
 |.Compare a0 a1 a2 a3=>-⟨(a0,a1,a2,a3),rfl⟩
 |_=>none
def sV(e:AO):Option {t:BoolOp×AE×Pos // e=.BoolOp t.1 t.2.1 t.2.2}:=match e with
 |.BoolOp a0 a1 a2=>-⟨(a0,a1,a2),rfl⟩
 |_=>none
def Gw(e:AO):Option {t:AO×AO×AO×Pos // e=.IfExp t.1 t.2.1 t.2.2.1 t.2.2.2}:=match e with
 |.IfExp a0 a1 a2 a3=>-⟨(a0,a1,a2,a3),rfl⟩
 |_=>none
def aku(e:AO):Option {t:AO×AO×List Comprehension×Scope×Pos // e=.DictComp t.1 t.2.1 t.2.2.1 t.2.2.2.1 t.2.2.2.2}:=match e with
 |.DictComp a0 a1 a2 a3 a4=>-⟨(a0,a1,a2,a3,a4),rfl⟩
 |_=>none
def sW(e:AO):Option {t:List (Option AO)×AE×Pos // e=.Dict t.1 t.2.1 t.2.2}:=match e with
 |.Dict a b p=>-⟨(a,b,p),rfl⟩
 |_=>none
def gP(e:AO):Option {t:AE×Nat×Pos // e=.Tuple t.1 t.2.1 t.2.2}:=match e with
 |.Tuple a0 a1 a2=>-⟨(a0,a1,a2),rfl⟩
 |_=>none
def asList(e:AO):Option {t:AE×Pos // e=.List t.1 t.2}:=match e with
 |.List a0 a1=>-⟨(a0,a1),rfl⟩
 |_=>none
def jJ(e:AO):Option {t:AO×AO×Pos // e=.Subscript t.1 t.2.1 t.2.2}:=match e with
 |.Subscript a0 a1 a2=>-⟨(a0,a1,a2),rfl⟩
 |_=>none
def Gx(e:AO):Option {t:Option AO×Option AO×Option AO×Pos // e=.Slice t.1 t.2.1 t.2.2.1 t.2.2.2}:=match e with
 |.Slice a0 a1 a2 a3=>-⟨(a0,a1,a2,a3),rfl⟩
 |_=>none
def jK(e:AO):Option {t:AO×AE×List Keyword×Pos // e=.Call t.1 t.2.1 t.2.2.1 t.2.2.2}:=match e with
 |.Call a0 a1 a2 a3=>-⟨(a0,a1,a2,a3),rfl⟩
 |_=>none
def sX(e:AO):Option {t:AO×Str×Pos // e=.Attribute t.1 t.2.1 t.2.2}:=match e with
 |.Attribute a0 a1 a2=>-⟨(a0,a1,a2),rfl⟩
 |_=>none
def Gy(e:AO):Option {t:AO×List Comprehension×Scope×Pos // e=.ListComp t.1 t.2.1 t.2.2.1 t.2.2.2}:=match e with
 |.ListComp a0 a1 a2 a3=>-⟨(a0,a1,a2,a3),rfl⟩
 |_=>none
def Gz(e:Stmt):Option {t:AO×Pos // e=.Expr t.1 t.2}:=match e with
 |.Expr a0 a1=>-⟨(a0,a1),rfl⟩
 |_=>none
def sY(e:Stmt):Option {t:AE×AO×Pos // e=.Assign t.1 t.2.1 t.2.2}:=match e with
 |.Assign a0 a1 a2=>-⟨(a0,a1,a2),rfl⟩
 |_=>none
def GC(e:Stmt):Option {t:AO×Operator×AO×Pos // e=.AugAssign t.1 t.2.1 t.2.2.1 t.2.2.2}:=match e with
 |.AugAssign a0 a1 a2 a3=>-⟨(a0,a1,a2,a3),rfl⟩
 |_=>none
def akv(e:Stmt):Option {t:Option AO×Option AO×Pos // e=.Raise t.1 t.2.1 t.2.2}:=match e with
 |.Raise a0 a1 a2=>-⟨(a0,a1,a2),rfl⟩
 |_=>none
def akx(e:Stmt):Option {t:AF×List ExceptHandler×AF×AF×Pos // e=.Try t.1 t.2.1 t.2.2.1 t.2.2.2.1 t.2.2.2.2}:=match e with
 |.Try a0 a1 a2 a3 a4=>-⟨(a0,a1,a2,a3,a4),rfl⟩
 |_=>none
def aky(e:ExceptHandler):Option {t:Option AO×Option Str×AF×Pos // e=.ExceptHandler t.1 t.2.1 t.2.2.1 t.2.2.2}:=match e with
 |.ExceptHandler a0 a1 a2 a3=>-⟨(a0,a1,a2,a3),rfl⟩
def ym(e:AO):Option {t:AO×Int×Option AO×Pos // e=.FormattedValue t.1 t.2.1 t.2.2.1 t.2.2.2}:=match e with
 |.FormattedValue a0 a1 a2 a3=>-⟨(a0,a1,a2,a3),rfl⟩
 |_=>none
def Zd(e:AO):Option {t:AE×Pos // e=.JoinedStr t.1 t.2}:=match e with
 |.JoinedStr a0 a1=>-⟨(a0,a1),rfl⟩
 |_=>none
def Ze(k:Const):Option {x:Str // k=.str x}:=match k with
 |.str x=>-⟨x,rfl⟩
 |_=>none
def akz(b:Bool)(k:Const):Bool:=match k with
 |.bool c=>c==b
 |_=>false
def sZ(e:Stmt):Option {t:Option AO×Pos // e=.Return t.1 t.2}:=match e with
 |.Return a0 a1=>-⟨(a0,a1),rfl⟩
 |_=>none
def GD(e:Stmt):Option {t:AO×AF×AF×Pos // e=.If t.1 t.2.1 t.2.2.1 t.2.2.2}:=match e with
 |.If a0 a1 a2 a3=>-⟨(a0,a1,a2,a3),rfl⟩
 |_=>none
def GF(e:Stmt):Option {t:AO×AO×AF×AF×Pos // e=.For t.1 t.2.1 t.2.2.1 t.2.2.2.1 t.2.2.2.2}:=match e with
 |.For a0 a1 a2 a3 a4=>-⟨(a0,a1,a2,a3,a4),rfl⟩
 |_=>none
def GJ(e:Stmt):Option {t:AO×AF×AF×Pos // e=.While t.1 t.2.1 t.2.2.1 t.2.2.2}:=match e with
 |.While a0 a1 a2 a3=>-⟨(a0,a1,a2,a3),rfl⟩
 |_=>none
def GK(e:Stmt):Option {t:Pos // e=.Pass t}:=match e with
 |.Pass a0=>-⟨a0,rfl⟩
 |_=>none
def GQ(e:Stmt):Option {t:Pos // e=.Break t}:=match e with
 |.Break a0=>-⟨a0,rfl⟩
 |_=>none
def GR(e:Stmt):Option {t:Pos // e=.Continue t}:=match e with
 |.Continue a0=>-⟨a0,rfl⟩
 |_=>none
def one{g:Type}:List g->Option g
 |[a]=>-a
 |_=>none
def three{g:Type}:List g->Option (g×g×g)
 |[x,y,z]=>-(x,y,z)
 |_=>none
def two{g:Type}:List g->Option (g×g)
 |[a,b]=>-(a,b)
 |_=>none
def hdT{g:Type}:List g->Option (g×List g)
 |a::r=>-(a,r)
 |[]=>none
def cW{g:Type}{l:List g}{a:g}(h:one l=-a):l=[a]:=by
 cases l with
 |nil=>cases h
 |cons x r=>cases r with
  |nil=>cases h;rfl
  |cons _ _=>cases h
def tB{g:Type}{l:List g}{a:g×g}(h:two l=-a):l=[a.1,a.2]:=by
 cases l with
 |nil=>cases h
 |cons x r=>cases r with
  |nil=>cases h
  |cons y r=>cases r with
   |nil=>cases h;rfl
   |cons _ _=>cases h
def GX{g:Type}{l:List g}{a:g×List g}(h:hdT l=-a):l=a.1::a.2:=by
 cases l with
 |nil=>cases h
 |cons x r=>cases h;rfl
def aV{g:Type}{o:Option g}{p:g->Bool}(h:o.any p=true):∃t,o=-t/\p t=true:=by
 cases o with
 |none=>cases h
 |some t=>exact⟨t,rfl,h⟩
def yo:UnaryOp->Bool
 |.USub=>true
 |_=>false
def lV:UnaryOp->Bool
 |.Not=>true
 |_=>false
def Zf{o:UnaryOp}(h:yo o=true):o=.USub:=by cases o<;>first|rfl|cases h
def GZ{o:UnaryOp}(h:lV o=true):o=.Not:=by cases o<;>first|rfl|cases h
def bJ(e:AO):Option (Str×Pos×AE×Pos):=(jK e).bind λt=>(asName t.1.1).bind λn=>match t.1.2.2.1 with |[]=>-(n.1.1,n.1.2,t.1.2.1,t.1.2.2.2)|_::_=>none
def aB{g:Type}{q:g->Prop}(o:Option {t:g // q t})(P:g->Bool):Bool:=match o with|some t=>P t.1|none=>false
def aR{g:Type}{q:g->Prop}{o:Option {t:g // q t}}{P:g->Bool}(h:aB o P=true):∃t,q t/\P t=true:=by
 cases o with
 |none=>cases h
 |some t=>exact⟨t.1,t.2,h⟩
def Ha{g q:Type}{o:Option g}{f:g->Option q}{b:q}(h:o.bind f=-b):∃t,o=-t/\f t=-b:=by
 cases o with
 |none=>cases h
 |some t=>exact⟨t,rfl,h⟩
def dR{e:AO}{t:Str×Pos×AE×Pos}(h:bJ e=-t):e=.Call (.Name t.1 t.2.1) t.2.2.1 [] t.2.2.2:=by
 let(((f,as,ks,p),g),_,h):=Ha h;let(((x,q),hn),_,h):=Ha h;dsimp only at h hn g;cases ks with
 |nil=>cases h;rw[g,hn]
 |cons _ _=>cases h
def akA (e:AO):Option (Str×Pos×AO×AO×Pos×Pos):=(jK e).bind λt=>(asName t.1.1).bind λn=>(one t.1.2.1).bind λv=>(one t.1.2.2.1).bind λg=>if g.arg=-(⇑"start") then some (n.1.1,n.1.2,v,g.value,g.pos,t.1.2.2.2) else none
def lW(e:AO):Bool:=(lU e).isSome
def Hb:Ex->Bool
 |.frz _=>false
 |_=>true
def yp:Tx->Bool
 |.yes=>true
 |_=>false
mutual
def cX(c:CT):Tg->AO->Bool
 |.nm i,e=>aB (asName e) λt=>(c.N[i]?==-t.1)&&c.sto t.1
 |.tp ts,e=>aB (gP e) λt=>cN c ts t.1
def cN(c:CT):Tgs->AE->Bool
 |.nil,es=>es.isEmpty
 |.cons t r,es=>match es with
  |e::es=>cX c t e&&cN c r es
  |[]=>false
end
def Hc(e:AO):Bool:=aB (yl e) λt=>aB (Ze t.1) λx=>decide (x⁻¹<=1000)
def unF(e:AO):AO:=match ym e with|some t=>t.1.1|none=>e
def Zg:Ex->Bool
 |.cst (.str _)=>true
 |_=>false
def Zh:Exs->AE->Bool
 |.cons x xs,p::ps=>(match ym p with|some t=>decide (t.1.2.1=Neg.neg 1)&&t.1.2.2.1.isNone|none=>Zg x)&&Zh xs ps
 |.nil,ps=>ps.isEmpty
 |_,[]=>false
mutual
def aa(c:CT):Ex->AO->Bool
 |.var i,e=>aB (asName e) λt=>(c.N[i]?==-t.1)&&iQ (c.kd.lookup t.1)&&okN t.1
 |.cst d,e=>aB (yl e) λt=>sU d t.1
 |.glb x d,e=>aB (asName e) λt=>t.1==⇑x&&c.glo t.1&&c.cn.any (λp=>p.1==x&&sEq p.2 d)
 |.bin op _ a b,e=>aB (Gv e) λt=>t.2.1==op&&aa c a t.1&&aa c b t.2.2.1
 |.neg a,e=>aB (jH e) λt=>yo t.1&&aa c a t.2.1
 |.cmp op a b,e=>aB (lU e) λt=>(one t.2.1).any λo=>(one t.2.2.1).any λr=>o==op&&aa c a t.1&&aa c b r
 |.chn op op' a b d,e=>aB (lU e) λt=>(two t.2.1).any λo=>(two t.2.2.1).any λr=>o.1==op&&o.2==op'&&aa c a t.1&&aa c b r.1&&aa c d r.2
 |.not a,e=>aB (jH e) λt=>lV t.1&&aa c a t.2.1
 |.boo isAnd x es,e=>aB (sV e) λt=>(hdT t.2.1).any λv=>t.1==(if isAnd then .And else .Or)&&aa c x v.1&&aO c es v.2
 |.ife t a b,e=>aB (Gw e) λu=>bK c t u.1&&aa c a u.2.1&&aa c b u.2.2.1
 |.tup es,e=>aB (gP e) λt=>aO c es t.1
 |.lst _ es,e=>aB (asList e) λt=>aO c es t.1
 |.idx a i,e=>aB (jJ e) λt=>aa c a t.1&&aa c i t.2.1
 |.slc _ a lo hi,e=>aB (jJ e) λt=>aB (Gx t.2.1) λs=>s.2.2.1.isNone&&(aa c a t.1&&gh c lo s.1&&gh c hi s.2.1)
 |.call f es,e=>(bJ e).any λt=>t.1==⇑f&&c.glo t.1&&(c.fs.any λp=>p.1==f&&p.2==t.2.2.1⁻¹)&&!t.2.2.1.isEmpty&&aO c es t.2.2.1
 |.bcl f es,e=>(bJ e).any λt=>t.1==⇑f.name&&yh f&&c.glo t.1&&c.bt.contains f.name&&!t.2.2.1.isEmpty&&aO c es t.2.2.1
 |.lcl _ f es,e=>(bJ e).any λt=>t.1==⇑f.name&&yj f&&c.glo t.1&&c.bt.contains f.name&&!t.2.2.1.isEmpty&&aO c es t.2.2.1
 |.isi a t,e=>(bJ e).any λu=>(two u.2.2.1).any λv=>aB (asName v.2) λy=>u.1==⇑"isinstance"&&c.glo u.1&&c.bt.contains "isinstance"&&aa c a v.1&&y.1==⇑t&&c.glo y.1&&c.bt.contains t&&fX t
 |.rgl _ a,e=>(bJ e).any λt=>(one t.2.2.1).any λe1=>(bJ e1).any λu=>(one u.2.2.1).any λe2=>t.1==⇑"list"&&c.glo t.1&&c.bt.contains "list"&&u.1==⇑"range"&&c.glo u.1&&c.bt.contains "range"&&aa c a e2
 |.lns a,e=>(bJ e).any λt=>(one t.2.2.1).any λe1=>(bJ e1).any λu=>(one u.2.2.1).any λe2=>t.1==⇑"len"&&c.glo t.1&&c.bt.contains "len"&&u.1==⇑"set"&&c.glo u.1&&c.bt.contains "set"&&aa c a e2
 |.rgt a,e=>(bJ e).any λt=>(one t.2.2.1).any λe1=>(bJ e1).any λu=>(one u.2.2.1).any λe2=>t.1==⇑"tuple"&&c.glo t.1&&c.bt.contains "tuple"&&u.1==⇑"range"&&c.glo u.1&&c.bt.contains "range"&&aa c a e2
 |.clr o,e=>aB (jK e) λt=>aB (sX t.1) λv=>t.2.2.1.isEmpty&&(t.2.1.isEmpty&&(v.2.1==⇑"clear"&&!iR v.1&&(v.2.2.endLine==t.2.2.2.line)&&aa c o v.1))
 |.mth m o es,e=>aB (jK e) λt=>aB (sX t.1) λv=>t.2.2.1.isEmpty&&(v.2.1==⇑m.name&&aa c o v.1&&!iR v.1&&(v.2.2.endLine==t.2.2.2.line)&&decide (t.2.1⁻¹<29)&&!t.2.1.isEmpty&&aO c es t.2.1)
 |.comp _ elt tg it cond N cap,e=>aB (Gy e) λt=>(one t.2.1).any λg=>decide (g.is_async=0)&&cY c it g.target g.iter&&gO c.N t.2.2.1 (N.map Str.ofString) cap&&jG c t.2.2.1&&fB (N.map Str.ofString) &&
    cX (c.comp (N.map Str.ofString) t.2.2.1) tg g.target&&((yp cond&&g.ifs.isEmpty)||(one g.ifs).any λf=>bK (c.comp (N.map Str.ofString) t.2.2.1) cond f)&&aa (c.comp (N.map Str.ofString) t.2.2.1) elt t.1
 |.frz a,e=>aa c a e
 |.dnw,e=>aB (sW e) λt=>t.1.isEmpty&&t.2.1.isEmpty
 |.dp1 a b,e=>aB (sW e) λt=>(one t.1).any λk=>k.any λk=>(one t.2.1).any λv=>aa c a k&&aa c b v
def bK(c:CT):Tx->AO->Bool
 |.val x,e=>(iT e||lW e)&&aa c x e&&Hb x
 |.not t,e=>aB (jH e) λu=>lV u.1&&bK c t u.2.1
 |.boo isAnd t ts,e=>aB (sV e) λu=>(hdT u.2.1).any λv=>u.1==(if isAnd then .And else .Or)&&bK c t v.1&&iU c ts v.2
 |.yes,_=>false
def iU(c:CT):Txs->AE->Bool
 |.nil,es=>es.isEmpty
 |.cons t r,es=>match es with
  |e::es=>bK c t e&&iU c r es
  |[]=>false
def aO(c:CT):Exs->AE->Bool
 |.nil,es=>es.isEmpty
 |.cons t r,es=>match es with
  |e::es=>aa c t e&&aO c r es
  |[]=>false
def gh(c:CT):Ox->Option AO->Bool
 |.no,e=>e.isNone
 |.ob x,e=>match e with
  |some e=>aa c x e
  |none=>false
def cY(c:CT):It'->AO->AO->Bool
 |.seq x,_,e=>aa c x e
 |.rng a,_,e=>(bJ e).any λt=>(one t.2.2.1).any λv=>t.1==⇑"range"&&c.glo t.1&&c.bt.contains "range"&&aa c a v
 |.enm a,tg,e=>aB (gP tg) λz=>(bJ e).any λt=>(one t.2.2.1).any λv=>t.1==⇑"enumerate"&&c.glo t.1&&c.bt.contains "enumerate"&&aa c a v
 |.zip a b,tg,e=>aB (gP tg) λz=>(bJ e).any λt=>(two t.2.2.1).any λv=>t.1==⇑"zip"&&c.glo t.1&&c.bt.contains "zip"&&aa c a v.1&&aa c b v.2
end
def lX(c:CT)(g:Tx)(q:AE):Bool:=(yp g&&q.isEmpty)||(one q).any λf=>bK c g f
def Hd:Ex->Bool
 |.comp ..=>true
 |_=>false
def Hf:AO->Bool
 |.Tuple ..=>true
 |_=>false
def yq(g:Tg)(x:Ex)(e:AO):Bool:=match g with |.nm _=>!dO e||Hd x |.tp _=>!Hf e&&!dO e
def yr(c:CT):Exs->AE->Bool
 |es,[]=>(match es with |.nil=>true|_=>false)
 |es,p::ps=>match Hc p with
  |true=>yr c es ps
  |false=>(match es with |.cons x r=>(aB (ym p) λt=>decide (t.2.1=Neg.neg 1)&&t.2.2.1.isNone&&aa c x t.1)&&yr c r ps |.nil=>false)
def akB(c:CT)(es:Exs)(e:AO):Bool:=(match es with |.nil=>Hc e|_=>false)||aB (Zd e) λt=>decide (2<=t.1⁻¹)&&decide (t.1⁻¹<=50)&&yr c es t.1
mutual
def bO(c:CT):Sx->Stmt->Bool
 |.exp x,st=>aB (Gz st) λt=>!dO t.1&&aa c x t.1
 |.asg g x,st=>aB (sY st) λt=>(one t.1).any λtg=>cX c g tg&&aa c x t.2.1&&yq g x t.2.1
 |.set o i x,st=>aB (sY st) λt=>(one t.1).any λtg=>aB (jJ tg) λu=>aa c o u.1&&aa c i u.2.1&&aa c x t.2.1&&!dO t.2.1
 |.aug i op x,st=>aB (GC st) λt=>aB (asName t.1) λy=>t.2.1==op&&(c.N[i]?==-y.1)&&c.sto y.1&&okN y.1&&aa c x t.2.2.1
 |.ret x,st=>aB (sZ st) λt=>t.1.any λe=>aa c x e
 |.rtn,st=>aB (sZ st) λt=>t.1.isNone
 |.ite t a b,st=>aB (GD st) λu=>bK c t u.1&&aD c a u.2.1&&aD c b u.2.2.1
 |.for_ g it b,st=>aB (GF st) λt=>t.2.2.2.1.isEmpty&&(cX c g t.1&&cY c it t.1 t.2.1&&aD c b t.2.2.1)
 |.whl t b,st=>aB (GJ st) λu=>u.2.2.1.isEmpty&&(bK c t u.1&&aD c b u.2.1)
 |.pas,st=>(GK st).isSome
 |.brk,st=>(GQ st).isSome
 |.cnt,st=>(GR st).isSome
 |.nev,_=>true
def aD(c:CT):Sxs->AF->Bool
 |.nil,es=>es.isEmpty
 |.cons t r,es=>match es with
  |e::es=>bO c t e&&aD c r es
  |[]=>false
end
def yt{c:CT}{i:Nat}{e:AO}(h:cX c (.nm i) e=true):∃x p,e=.Name x p/\((c.N[i]?==-x)&&c.sto x)=true:=by have h:(aB (asName e) λt=>(c.N[i]?==-t.1)&&c.sto t.1)=true:=h;let(t,g,h):=aR h;exact⟨_,_,g,h⟩
def yu{c:CT}{ts:Tgs}{e:AO}(h:cX c (.tp ts) e=true):∃es k p,e=.Tuple es k p/\(cN c ts es)=true:=by have h:(aB (gP e) λt=>cN c ts t.1)=true:=h;let(t,g,h):=aR h;exact⟨_,_,_,g,h⟩
def Hg{c:CT}{i:Nat}{e:AO}(h:aa c (.var i) e=true):∃x p,e=.Name x p/\((c.N[i]?==-x)&&iQ (c.kd.lookup x)&&okN x)=true:=by have h:(aB (asName e) λt=>(c.N[i]?==-t.1)&&iQ (c.kd.lookup t.1)&&okN t.1)=true:=h;let(t,g,h):=aR h;exact⟨_,_,g,h⟩
def Hh{c:CT}{d:D}{e:AO}(h:aa c (.cst d) e=true):∃k n p,e=.Constant k n p/\(sU d k)=true:=by have h:(aB (yl e) λt=>sU d t.1)=true:=h;let(t,g,h):=aR h;exact⟨_,_,_,g,h⟩
def Hi{c:CT}{x:AL}{d:D}{e:AO}(h:aa c (.glb x d) e=true):∃y p,e=.Name y p/\(y==⇑x&&c.glo y&&c.cn.any (λp=>p.1==x&&sEq p.2 d))=true:=by have h:(aB (asName e) λt=>t.1==⇑x&&c.glo t.1&&c.cn.any (λp=>p.1==x&&sEq p.2 d))=true:=h;let(t,g,h):=aR h;exact⟨_,_,g,h⟩
def Hj{c:CT}{op:Operator}{fz:Bool}{a b:Ex}{e:AO}(h:aa c (.bin op fz a b) e=true):∃l o r p,e=.BinOp l o r p/\(o==op&&aa c a l&&aa c b r)=true:=by have h:(aB (Gv e) λt=>t.2.1==op&&aa c a t.1&&aa c b t.2.2.1)=true:=h;let(t,g,h):=aR h;exact⟨_,_,_,_,g,h⟩
def Hk{c:CT}{a:Ex}{e:AO}(h:aa c (.neg a) e=true):∃x p,e=.UnaryOp .USub x p/\(aa c a x)=true:=by have h:(aB (jH e) λt=>yo t.1&&aa c a t.2.1)=true:=h;let(t,g,h):=aR h;rw[ae]at h;exact⟨_,_,by rw[g,Zf h.1],h.2⟩
def Hl{c:CT}{a:Ex}{e:AO}(h:aa c (.not a) e=true):∃x p,e=.UnaryOp .Not x p/\(aa c a x)=true:=by have h:(aB (jH e) λt=>lV t.1&&aa c a t.2.1)=true:=h;let(t,g,h):=aR h;rw[ae]at h;exact⟨_,_,by rw[g,GZ h.1],h.2⟩
def Hm{c:CT}{op:CmpOp}{a b:Ex}{e:AO}(h:aa c (.cmp op a b) e=true):∃l o r p,e=.Compare l [o] [r] p/\(o==op&&aa c a l&&aa c b r)=true:=by have h:(aB (lU e) λt=>(one t.2.1).any λo=>(one t.2.2.1).any λr=>o==op&&aa c a t.1&&aa c b r)=true:=h;let(t,z,h):=aR h;let(o,g,h):=aV h;let(r,q,h):=aV h;exact⟨_,_,_,_,by rw[z,cW g,cW q],h⟩
def Hn{c:CT}{op g:CmpOp}{a b d:Ex}{e:AO}(h:aa c (.chn op g a b d) e=true):∃l o o' m r p,e=.Compare l [o,o'] [m,r] p/\(o==op&&o'==g&&aa c a l&&aa c b m&&aa c d r)=true:=by have h:(aB (lU e) λt=>(two t.2.1).any λo=>(two t.2.2.1).any λr=>o.1==op&&o.2==g&&aa c a t.1&&aa c b r.1&&aa c d r.2)=true:=h;let(t,J,h):=aR h;let(o,q,h):=aV h;let(r,z,h):=aV h;exact⟨_,_,_,_,_,_,by rw[J,tB q,tB z],h⟩
def Ho{c:CT}{isAnd:Bool}{x:Ex}{es:Exs}{e:AO}(h:aa c (.boo isAnd x es) e=true):∃op v vs p,e=.BoolOp op (v::vs) p/\(op==(if isAnd then .And else .Or)&&aa c x v&&aO c es vs)=true:=by have h:(aB (sV e) λt=>(hdT t.2.1).any λv=>t.1==(if isAnd then .And else .Or)&&aa c x v.1&&aO c es v.2)=true:=h;let(t,g,h):=aR h;let(v,q,h):=aV h;exact⟨_,_,_,_,by rw[g,GX q],h⟩
def Hq{c:CT}{t:Tx}{a b:Ex}{e:AO}(h:aa c (.ife t a b) e=true):∃t' g q p,e=.IfExp t' g q p/\(bK c t t'&&aa c a g&&aa c b q)=true:=by have h:(aB (Gw e) λu=>bK c t u.1&&aa c a u.2.1&&aa c b u.2.2.1)=true:=h;let(u,z,h):=aR h;exact⟨_,_,_,_,z,h⟩
def Hr{c:CT}{es:Exs}{e:AO}(h:aa c (.tup es) e=true):∃vs k p,e=.Tuple vs k p/\(aO c es vs)=true:=by have h:(aB (gP e) λt=>aO c es t.1)=true:=h;let(t,g,h):=aR h;exact⟨_,_,_,g,h⟩
def Hs{c:CT}{fz:Bool}{es:Exs}{e:AO}(h:aa c (.lst fz es) e=true):∃vs p,e=.List vs p/\(aO c es vs)=true:=by have h:(aB (asList e) λt=>aO c es t.1)=true:=h;let(t,g,h):=aR h;exact⟨_,_,g,h⟩
def Ht{c:CT}{a i:Ex}{e:AO}(h:aa c (.idx a i) e=true):∃v s p,e=.Subscript v s p/\(aa c a v&&aa c i s)=true:=by have h:(aB (jJ e) λt=>aa c a t.1&&aa c i t.2.1)=true:=h;let(t,g,h):=aR h;exact⟨_,_,_,g,h⟩
def Hu{c:CT}{e:AO}(h:aa c .dnw e=true):∃p,e=.Dict [] [] p:=by have h:(aB (sW e) λt=>t.1.isEmpty&&t.2.1.isEmpty)=true:=h;let(t,g,h):=aR h;rw[ae,e8,e8]at h;exact⟨t.2.2,by rw[g,h.1,h.2]⟩
def Hv{c:CT}{a b:Ex}{e:AO}(h:aa c (.dp1 a b) e=true):∃k v p,e=.Dict [-k] [v] p/\(aa c a k&&aa c b v)=true:=by have h:(aB (sW e) λt=>(one t.1).any λk=>k.any λk=>(one t.2.1).any λv=>aa c a k&&aa c b v)=true:=h;let(t,z,h):=aR h;let(k,q,h):=aV h;let(k',g,h):=aV h;let(v,J,h):=aV h;exact⟨k',v,t.2.2,by rw[z,cW q,cW J,g],h⟩
def Hw{c:CT}{fz:Bool}{a:Ex}{lo hi:Ox}{e:AO}(h:aa c (.slc fz a lo hi) e=true):∃v l u q p,e=.Subscript v (.Slice l u none q) p/\(aa c a v&&gh c lo l&&gh c hi u)=true:=by have h:(aB (jJ e) λt=>aB (Gx t.2.1) λs=>s.2.2.1.isNone&&(aa c a t.1&&gh c lo s.1&&gh c hi s.2.1))=true:=h;let(t,g,h):=aR h;let(s,hs,h):=aR h;rw[ae,Option.isNone_iff_eq_none]at h;exact⟨_,_,_,_,_,by rw[g,hs,h.1],h.2⟩
def Hx{c:CT}{f:AL}{es:Exs}{e:AO}(h:aa c (.call f es) e=true):∃x p args pos,e=.Call (.Name x p) args [] pos/\(x==⇑f&&c.glo x&&(c.fs.any λp=>p.1==f&&p.2==args⁻¹)&&!args.isEmpty&&aO c es args)=true:=by have h:((bJ e).any λt=>t.1==⇑f&&c.glo t.1&&(c.fs.any λp=>p.1==f&&p.2==t.2.2.1⁻¹)&&!t.2.2.1.isEmpty&&aO c es t.2.2.1)=true:=h;let(t,g,h):=aV h;exact⟨_,_,_,_,dR g,h⟩
def Hy{c:CT}{f:Bf}{es:Exs}{e:AO}(h:aa c (.bcl f es) e=true):∃x p args pos,e=.Call (.Name x p) args [] pos/\(x==⇑f.name&&yh f&&c.glo x&&c.bt.contains f.name&&!args.isEmpty&&aO c es args)=true:=by have h:((bJ e).any λt=>t.1==⇑f.name&&yh f&&c.glo t.1&&c.bt.contains f.name&&!t.2.2.1.isEmpty&&aO c es t.2.2.1)=true:=h;let(t,g,h):=aV h;exact⟨_,_,_,_,dR g,h⟩
def Hz{c:CT}{fz:Bool}{f:Lf}{es:Exs}{e:AO}(h:aa c (.lcl fz f es) e=true):∃x p args pos,e=.Call (.Name x p) args [] pos/\(x==⇑f.name&&yj f&&c.glo x&&c.bt.contains f.name&&!args.isEmpty&&aO c es args)=true:=by have h:((bJ e).any λt=>t.1==⇑f.name&&yj f&&c.glo t.1&&c.bt.contains f.name&&!t.2.2.1.isEmpty&&aO c es t.2.2.1)=true:=h;let(t,g,h):=aV h;exact⟨_,_,_,_,dR g,h⟩
def HB {c:CT} {a:Ex} {t:AL} {e:AO} (h:aa c (.isi a t) e=true):∃x p v y J pos,e=.Call (.Name x p) [v,.Name y J] [] pos/\(x==⇑"isinstance"&&c.glo x&&c.bt.contains "isinstance"&&aa c a v&&y==⇑t&&c.glo y&&c.bt.contains t&&fX t)=true:=by have h:((bJ e).any λu=>(two u.2.2.1).any λv=>aB (asName v.2) λy=>u.1==⇑"isinstance"&&c.glo u.1&&c.bt.contains "isinstance"&&aa c a v.1&&y.1==⇑t&&c.glo y.1&&c.bt.contains t&&fX t)=true:=h;let(u,g,h):=aV h;let(v,q,h):=aV h;let(y,z,h):=aR h;exact⟨_,_,_,_,_,_,by rw[dR g,tB q,z],h⟩
def HF {c:CT} {fz:Bool} {a:Ex} {e:AO} (h:aa c (.rgl fz a) e=true):∃x p L Y g q pos,e=.Call (.Name x p) [.Call (.Name L Y) [g] [] q] [] pos/\(x==⇑"list"&&c.glo x&&c.bt.contains "list"&&L==⇑"range"&&c.glo L&&c.bt.contains "range"&&aa c a g)=true:=by have h:((bJ e).any λt=>(one t.2.2.1).any λN=>(bJ N).any λu=>(one u.2.2.1).any λg=>t.1==⇑"list"&&c.glo t.1&&c.bt.contains "list"&&u.1==⇑"range"&&c.glo u.1&&c.bt.contains "range"&&aa c a g)=true:=h;let(t,O,h):=aV h;let(N,z,h):=aV h;let(u,U,h):=aV h;let(g,J,h):=aV h;exact⟨_,_,_,_,_,_,_,by rw[dR O,cW z,dR U,cW J],h⟩
def HH {c:CT} {a:Ex} {e:AO} (h:aa c (.lns a) e=true):∃x p L Y g q pos,e=.Call (.Name x p) [.Call (.Name L Y) [g] [] q] [] pos/\(x==⇑"len"&&c.glo x&&c.bt.contains "len"&&L==⇑"set"&&c.glo L&&c.bt.contains "set"&&aa c a g)=true:=by have h:((bJ e).any λt=>(one t.2.2.1).any λN=>(bJ N).any λu=>(one u.2.2.1).any λg=>t.1==⇑"len"&&c.glo t.1&&c.bt.contains "len"&&u.1==⇑"set"&&c.glo u.1&&c.bt.contains "set"&&aa c a g)=true:=h;let(t,O,h):=aV h;let(N,z,h):=aV h;let(u,U,h):=aV h;let(g,J,h):=aV h;exact⟨_,_,_,_,_,_,_,by rw[dR O,cW z,dR U,cW J],h⟩
def HJ {c:CT} {a:Ex} {e:AO} (h:aa c (.rgt a) e=true):∃x p L Y g q pos,e=.Call (.Name x p) [.Call (.Name L Y) [g] [] q] [] pos/\(x==⇑"tuple"&&c.glo x&&c.bt.contains "tuple"&&L==⇑"range"&&c.glo L&&c.bt.contains "range"&&aa c a g)=true:=by have h:((bJ e).any λt=>(one t.2.2.1).any λN=>(bJ N).any λu=>(one u.2.2.1).any λg=>t.1==⇑"tuple"&&c.glo t.1&&c.bt.contains "tuple"&&u.1==⇑"range"&&c.glo u.1&&c.bt.contains "range"&&aa c a g)=true:=h;let(t,O,h):=aV h;let(N,z,h):=aV h;let(u,U,h):=aV h;let(g,J,h):=aV h;exact⟨_,_,_,_,_,_,_,by rw[dR O,cW z,dR U,cW J],h⟩
def HN {c:CT} {o:Ex} {e:AO} (h:aa c (.clr o) e=true):∃v n apos cpos,e=.Call (.Attribute v n apos) [] [] cpos/\(n==⇑"clear"&&!iR v&&(apos.endLine==cpos.line)&&aa c o v)=true:=by have h:(aB (jK e) λt=>aB (sX t.1) λv=>t.2.2.1.isEmpty&&(t.2.1.isEmpty&&(v.2.1==⇑"clear"&&!iR v.1&&(v.2.2.endLine==t.2.2.2.line)&&aa c o v.1)))=true:=h;let(t,g,h):=aR h;let(v,q,h):=aR h;rw[ae,e8,ae,e8]at h;exact⟨_,_,_,_,by rw[g,q,h.1,h.2.1],h.2.2⟩
def HQ{c:CT}{m:Mf}{o:Ex}{es:Exs}{e:AO}(h:aa c (.mth m o es) e=true):∃v x apos args cpos,e=.Call (.Attribute v x apos) args [] cpos/\(x==⇑m.name&&aa c o v&&!iR v&&(apos.endLine==cpos.line)&&decide (args⁻¹<29)&&!args.isEmpty&&aO c es args)=true:=by have h:(aB (jK e) λt=>aB (sX t.1) λv=>t.2.2.1.isEmpty&&(v.2.1==⇑m.name&&aa c o v.1&&!iR v.1&&(v.2.2.endLine==t.2.2.2.line)&&decide (t.2.1⁻¹<29)&&!t.2.1.isEmpty&&aO c es t.2.1))=true:=h;let(t,g,h):=aR h;let(v,q,h):=aR h;rw[ae,e8]at h;exact⟨_,_,_,_,_,by rw[g,q,h.1],h.2⟩
def HR{c:CT}{fz:Bool}{O:Ex}{tg:Tg}{it:It'}{q:Tx}{N:List AL}{cap:List (Option Nat)}{e:AO}(h:aa c (.comp fz O tg it q N cap) e=true):∃L z iter J as scope pos,e=.ListComp L [⟨z,iter,J,as⟩] scope pos/\(decide (as=0)&&cY c it z iter&&gO c.N scope (N.map Str.ofString) cap&&jG c scope&&fB (N.map Str.ofString)&&cX (c.comp (N.map Str.ofString) scope) tg z&&lX (c.comp (N.map Str.ofString) scope) q J&&aa (c.comp (N.map Str.ofString) scope) O L)=true:=by have h:(aB (Gy e) λt=>(one t.2.1).any λg=>decide (g.is_async=0)&&cY c it g.target g.iter&&gO c.N t.2.2.1 (N.map Str.ofString) cap&&jG c t.2.2.1&&fB (N.map Str.ofString)&&cX (c.comp (N.map Str.ofString) t.2.2.1) tg g.target&&((yp q&&g.ifs.isEmpty)||(one g.ifs).any λf=>bK (c.comp (N.map Str.ofString) t.2.2.1) q f)&&aa (c.comp (N.map Str.ofString) t.2.2.1) O t.1)=true:=h;let(t,Y,h):=aR h;let((z,iter,J,as),U,h):=aV h;exact⟨t.1,z,iter,J,as,t.2.2.1,t.2.2.2,(Y).trans (by rw[cW U]),h⟩
def Zi{c:CT}{t:Tx}{e:AO}(h:bK c (.not t) e=true):∃x p,e=.UnaryOp .Not x p/\(bK c t x)=true:=by have h:(aB (jH e) λu=>lV u.1&&bK c t u.2.1)=true:=h;let(u,g,h):=aR h;rw[ae]at h;exact⟨_,_,by rw[g,GZ h.1],h.2⟩
def Zj{c:CT}{isAnd:Bool}{x:Tx}{es:Txs}{e:AO}(h:bK c (.boo isAnd x es) e=true):∃op v vs p,e=.BoolOp op (v::vs) p/\(op==(if isAnd then .And else .Or)&&bK c x v&&iU c es vs)=true:=by have h:(aB (sV e) λu=>(hdT u.2.1).any λv=>u.1==(if isAnd then .And else .Or)&&bK c x v.1&&iU c es v.2)=true:=h;let(t,g,h):=aR h;let(v,q,h):=aV h;exact⟨_,_,_,_,by rw[g,GX q],h⟩
def HS {c:CT} {a:Ex} {tg e:AO} (h:cY c (.rng a) tg e=true):∃x p v pos,e=.Call (.Name x p) [v] [] pos/\(x==⇑"range"&&c.glo x&&c.bt.contains "range"&&aa c a v)=true:=by have h:((bJ e).any λt=>(one t.2.2.1).any λv=>t.1==⇑"range"&&c.glo t.1&&c.bt.contains "range"&&aa c a v)=true:=h;let(t,g,h):=aV h;let(v,q,h):=aV h;exact⟨_,_,_,_,by rw[dR g,cW q],h⟩
def HW {c:CT} {a:Ex} {tg e:AO} (h:cY c (.enm a) tg e=true):∃ts k p0 x p v pos,tg=.Tuple ts k p0/\e=.Call (.Name x p) [v] [] pos/\(x==⇑"enumerate"&&c.glo x&&c.bt.contains "enumerate"&&aa c a v)=true:=by have h:(aB (gP tg) λy=>(bJ e).any λt=>(one t.2.2.1).any λv=>t.1==⇑"enumerate"&&c.glo t.1&&c.bt.contains "enumerate"&&aa c a v)=true:=h;let(g,q,h):=aR h;let(t,z,h):=aV h;let(v,J,h):=aV h;exact⟨_,_,_,_,_,_,_,q,by rw[dR z,cW J],h⟩
def HX {c:CT} {a b:Ex} {tg e:AO} (h:cY c (.zip a b) tg e=true):∃ts k p0 x p v q pos,tg=.Tuple ts k p0/\e=.Call (.Name x p) [v,q] [] pos/\(x==⇑"zip"&&c.glo x&&c.bt.contains "zip"&&aa c a v&&aa c b q)=true:=by have h:(aB (gP tg) λy=>(bJ e).any λt=>(two t.2.2.1).any λv=>t.1==⇑"zip"&&c.glo t.1&&c.bt.contains "zip"&&aa c a v.1&&aa c b v.2)=true:=h;let(g,z,h):=aR h;let(t,J,h):=aV h;let(v,L,h):=aV h;exact⟨_,_,_,_,_,_,_,_,z,by rw[dR J,tB L],h⟩
def Zk{c:CT}{x:Ex}{st:Stmt}(h:bO c (.exp x) st=true):∃e pos,st=.Expr e pos/\(!dO e&&aa c x e)=true:=by have h:(aB (Gz st) λt=>!dO t.1&&aa c x t.1)=true:=h;let(t,g,h):=aR h;exact⟨_,_,g,h⟩
def HY{c:CT}{g:Tg}{x:Ex}{st:Stmt}(h:bO c (.asg g x) st=true):∃tg e pos,st=.Assign [tg] e pos/\(cX c g tg&&aa c x e&&yq g x e)=true:=by have h:(aB (sY st) λt=>(one t.1).any λtg=>cX c g tg&&aa c x t.2.1&&yq g x t.2.1)=true:=h;let(t,z,h):=aR h;let(g,q,h):=aV h;exact⟨_,_,_,by rw[z,cW q],h⟩
def Zm{c:CT}{o i x:Ex}{st:Stmt}(h:bO c (.set o i x) st=true):∃o' z q e pos,st=.Assign [.Subscript o' z q] e pos/\(aa c o o'&&aa c i z&&aa c x e&&!dO e)=true:=by have h:(aB (sY st) λt=>(one t.1).any λtg=>aB (jJ tg) λu=>aa c o u.1&&aa c i u.2.1&&aa c x t.2.1&&!dO t.2.1)=true:=h;let(t,L,h):=aR h;let(g,J,h):=aV h;let(u,N,h):=aR h;exact⟨_,_,_,_,_,by rw[L,cW J,N],h⟩
def Zn{c:CT}{i:Nat}{op:Operator}{x:Ex}{st:Stmt}(h:bO c (.aug i op x) st=true):∃y z o e pos,st=.AugAssign (.Name y z) o e pos/\(o==op&&(c.N[i]?==-y)&&c.sto y&&okN y&&aa c x e)=true:=by have h:(aB (GC st) λt=>aB (asName t.1) λy=>t.2.1==op&&(c.N[i]?==-y.1)&&c.sto y.1&&okN y.1&&aa c x t.2.2.1)=true:=h;let(t,g,h):=aR h;let(u,q,h):=aR h;exact⟨_,_,_,_,_,by rw[g,q],h⟩
def Zo{c:CT}{x:Ex}{st:Stmt}(h:bO c (.ret x) st=true):∃e pos,st=.Return (-e) pos/\(aa c x e)=true:=by have h:(aB (sZ st) λt=>t.1.any λe=>aa c x e)=true:=h;let(t,g,h):=aR h;let(e,he,h):=aV h;exact⟨_,_,by rw[g,he],h⟩
def Zq{c:CT}{st:Stmt}(h:bO c .rtn st=true):∃pos,st=.Return none pos/\(true)=true:=by have h:(aB (sZ st) λt=>t.1.isNone)=true:=h;let(t,g,h):=aR h;rw[Option.isNone_iff_eq_none]at h;exact⟨_,by rw[g,h],rfl⟩
def Zr{c:CT}{t:Tx}{a b:Sxs}{st:Stmt}(h:bO c (.ite t a b) st=true):∃t' g q pos,st=.If t' g q pos/\(bK c t t'&&aD c a g&&aD c b q)=true:=by have h:(aB (GD st) λu=>bK c t u.1&&aD c a u.2.1&&aD c b u.2.2.1)=true:=h;let(u,z,h):=aR h;exact⟨_,_,_,_,z,h⟩
def Zt{c:CT}{g:Tg}{it:It'}{b:Sxs}{st:Stmt}(h:bO c (.for_ g it b) st=true):∃tg iter body pos,st=.For tg iter body [] pos/\(cX c g tg&&cY c it tg iter&&aD c b body)=true:=by have h:(aB (GF st) λt=>t.2.2.2.1.isEmpty&&(cX c g t.1&&cY c it t.1 t.2.1&&aD c b t.2.2.1))=true:=h;let(t,q,h):=aR h;rw[ae,e8]at h;exact⟨_,_,_,_,by rw[q,h.1],h.2⟩
def Zu{c:CT}{t:Tx}{b:Sxs}{st:Stmt}(h:bO c (.whl t b) st=true):∃t' body pos,st=.While t' body [] pos/\(bK c t t'&&aD c b body)=true:=by have h:(aB (GJ st) λu=>u.2.2.1.isEmpty&&(bK c t u.1&&aD c b u.2.1))=true:=h;let(u,g,h):=aR h;rw[ae,e8]at h;exact⟨_,_,_,by rw[g,h.1],h.2⟩
def Zv{c:CT}{st:Stmt}(h:bO c .pas st=true):∃pos,st=.Pass pos/\(true)=true:=by let((t,g),_):=cq.mp (show(GK st).isSome=true from h);exact⟨t,g,rfl⟩
def Zw{c:CT}{st:Stmt}(h:bO c .brk st=true):∃pos,st=.Break pos/\(true)=true:=by let((t,g),_):=cq.mp (show(GQ st).isSome=true from h);exact⟨t,g,rfl⟩
def Zx{c:CT}{st:Stmt}(h:bO c .cnt st=true):∃pos,st=.Continue pos/\(true)=true:=by let((t,g),_):=cq.mp (show(GR st).isSome=true from h);exact⟨t,g,rfl⟩
def lY:AO->Bool
 |.Starred ..=>false
 |.Set ..=>false
 |.Slice ..=>false
 |_=>true
def b8{c:CT}:∀(x:Ex){e:AO},aa c x e=true->lY e=true
 |.frz a,e,h=>b8 a (show aa c a e=true from h)
 |.dnw,e,h=>by let(_,rfl):=Hu h;rfl
 |.dp1 _ _,e,h=>by let(_,_,_,rfl,_):=Hv h;rfl
 |.var _,e,h=>by let(_,_,rfl,_):=Hg h;rfl
 |.cst _,e,h=>by let(_,_,_,rfl,_):=Hh h;rfl
 |.glb _ _,e,h=>by let(_,_,rfl,_):=Hi h;rfl
 |.bin _ _ _ _,e,h=>by let(_,_,_,_,rfl,_):=Hj h;rfl
 |.neg _,e,h=>by let(_,_,rfl,_):=Hk h;rfl
 |.cmp _ _ _,e,h=>by let(_,_,_,_,rfl,_):=Hm h;rfl
 |.chn _ _ _ _ _,e,h=>by let(_,_,_,_,_,_,rfl,_):=Hn h;rfl
 |.not _,e,h=>by let(_,_,rfl,_):=Hl h;rfl
 |.boo _ _ _,e,h=>by let(_,_,_,_,rfl,_):=Ho h;rfl
 |.ife _ _ _,e,h=>by let(_,_,_,_,rfl,_):=Hq h;rfl
 |.tup _,e,h=>by let(_,_,_,rfl,_):=Hr h;rfl
 |.lst _ _,e,h=>by let(_,_,rfl,_):=Hs h;rfl
 |.idx _ _,e,h=>by let(_,_,_,rfl,_):=Ht h;rfl
 |.slc _ _ _ _,e,h=>by let(_,_,_,_,_,rfl,_):=Hw h;rfl
 |.call _ _,e,h=>by let(_,_,_,_,rfl,_):=Hx h;rfl
 |.bcl _ _,e,h=>by let(_,_,_,_,rfl,_):=Hy h;rfl
 |.lcl _ _ _,e,h=>by let(_,_,_,_,rfl,_):=Hz h;rfl
 |.isi _ _,e,h=>by let(_,_,_,_,_,_,rfl,_):=HB h;rfl
 |.rgl _ _,e,h=>by let(_,_,_,_,_,_,_,rfl,_):=HF h;rfl
 |.lns _,e,h=>by let(_,_,_,_,_,_,_,rfl,_):=HH h;rfl
 |.rgt _,e,h=>by let(_,_,_,_,_,_,_,rfl,_):=HJ h;rfl
 |.clr _,e,h=>by let(_,_,_,_,rfl,_):=HN h;rfl
 |.mth _ _ _,e,h=>by let(_,_,_,_,_,rfl,_):=HQ h;rfl
 |.comp _ _ _ _ _ _ _,e,h=>by let(_,_,_,_,_,_,_,rfl,_):=HR h;rfl
def dm{e:AO}(h:lY e=true):noStar e=true:=by cases e<;>first|rfl|exact nZf h
def H9{e:AO}(h:lY e=true)(op:CmpOp):behindInMarks op e=false:=by cases e<;>first|rfl|exact nZf h
def Zy{e:AO}(h:lY e=true)(env:Env)(x:AN):foldedSetIterable e env x=pure x:=by cases e<;>first|rfl|exact nZf h
def Zz{e:AO}(h:lY e=true):Cj e:=by intro o i;cases e<;>first|rfl|exact nZf h
def ZC{e:AO}(h:iT e=true)(env:Env)(whole:Sem AN):isTrue e env whole=(do let v <-whole;standAt e.pos;holding [v] (truthy v)):=by
 cases e with
 |UnaryOp op x p=>cases op<;>first|rfl|exact nZf h
 |_=>first|rfl|exact nZf h
set_option backward.match.sparseCases true
def XV(K:PF)(H:Hp)(F:FZ)(x:Xn)(g:AN)(q:Option AQ):Prop:=
 ∃C,g=.ref C/\PySem.W.nsIn K mainGlobals (⇑x.cls)=-(-(.ref C))/\
  match x.fld with
  |.non=>True
  |d=>∃a f v,q=-a/\H a=-(.xd [(f,v)])/\Rep K H F d v
def XR(K:PF)(H:Hp)(F:FZ)(x:Xn)(z:XK):Prop:=∀g q,XV K H F x g q->z g q H
def PX(K:PF)(H:Hp)(F:FZ)(g:XK):EK:=λx q=>∀H' F',Ext H F H' F'->R K H' F' q->XR K H' F' x g
def el{L N O:Type}{p q r s:L->N->O->Prop}{C:Prop}(h:∃x y z,p x y z/\q x y z/\r x y z/\s x y z)(k:∀x y z,p x y z->q x y z->r x y z->s x y z->C):C:=by let(x,y,z,h1,h2,g,J):=h;exact k x y z h1 h2 g J
def lift(K:PF)(n:Nat)(S:RF.Spec):Sp:=λvs H Q g=>vs⁻¹=n/\∃F G ds,R K H F G/\Reps K H F ds vs/\S.t ds G (PV K H F Q) (PX K H F g)
def CV(K:PF)(mg:AH)(g:AL)(q:V):Prop:=
 (∃a,q=.ref a/\mg (⇑g)=-(.ref a)/\Dg K a=true)\/(g="ValueError"/\q=.ty "ValueError"/\mg (⇑g)=none)
def XI(K:PF)(C g:AL)(q:V):Prop:=
 ∃c,PySem.W.nsIn K mainGlobals (⇑C)=-(-(.ref c))/\vA K c=true/\PySem.W.mroIn K c (valOf q)=-(gK C g)/\(gK C g=false->(Value.ref c==valOf q)=false)
structure Bs where
 H:Hp
 F:FZ
def Ia(K:PF)(C f:AL):Prop:=∃c,PySem.W.nsIn K mainGlobals (⇑C)=-(-(.ref c))/\Cls K c/\Tt K c (⇑f)
def MthOk(Z:aj)(P:AK)(w:World)(K:PF)(mg:AH)(base:Heap)(CX:CXT)(k:Nat)(f C m:AL)(n:Nat):Prop:=
 ∃c fa fd ps,PySem.W.nsIn K mainGlobals (⇑C)=-(-(.ref c))/\Cls K c/\Meth K c (⇑m) fa/\Binds K fd ps []/\FnOk P w K mg base CX k fa fd ps (lift K n (Z f))
def MkoOk(Z:aj)(P:AK)(w:World)(K:PF)(mg:AH)(base:Heap)(CX:CXT)(k:Nat)(C:AL)(n:Nat):Prop:=
 ∃c fa fd ps sp j,j+1<=k/\mg (⇑C)=-(.ref c)/\Mk K c fa/\Binds K fd ps []/\FnOk P w K mg base CX j fa fd ps sp/\
  ∀vs H Q E,lift K n (Z C) vs H Q E->∀x dx,H x=none->H dx=none->dx≠x->sp (.ref x::vs) (upd (upd H dx (.own x)) x (.ins c dx [])) (λv H2=>v=.non/\Q (.ref x) H2) E
def ZD(K:PF)(c:AQ)(f:AL):Sp:=λvs H Q y=>∃a b l d F G,vs=[.ref a,b]/\H a=-(.ext (Do a c l none))/\¬F a/\R K H F G/\Rep K H F d b/\okA d/\
 ∀H2 g dx z ob q,Ext H F H2 g->R K H2 g G->H2 a=-(.ext (Do a c q none))->H2 dx=none->dx≠a->ob.cls=.ref c->ob.dict=-dx->PySem.W.notCls ob=true->Q .non (upd (upd H2 a (.frz ob (.own a))) dx (.frz z (.xd [(⇑f,b)])))
def ZF(P:AK)(w:World)(K:PF)(mg:AH)(base:Heap)(CX:CXT)(k:Nat)(C f:AL):Prop:=
 ∃c fa fd ps j,j+1<=k/\mg (⇑C)=-(.ref c)/\PySem.W.nsIn K mainGlobals (⇑C)=-(-(.ref c))/\V2 K c fa=true/\PySem.W.typeIn K (.ref fa)=-(.type "function")/\PySem.W.keepIn K (.ref c)=true/\
  (vA K c=true/\PySem.W.hasDictIn K c=true/\PySem.W.findIn K (.ref c) (⇑f)=-none)/\Binds K fd ps []/\FnOk P w K mg base CX j fa fd ps (ZD K c f)
def XkoX(P:AK)(w:World)(K:PF)(mg:AH)(base:Heap)(CX:CXT)(k:Nat)(xs:List (AL×Bool))(C f:AL):Prop:=
 ZF P w K mg base CX k C f/\∀g q,xs.contains (g,false)=true->CV K mg g q->XI K C g q
structure Stat(Z:aj)(CX:CXT)(k:Nat)(c:CT)(E:EK)(B:Bs)(X:Cx):Prop where
 N:X.N=c.N
 nd:X.N.Nodup
 calm:X.calm=true
 own:PassesOwn (model X.prog X.w) X.A X.env X.xe
 kd:X.env.kindOf=λx=>X.env.scope.names.lookup x
 vis:∀x,iQ (c.kd.lookup x)=true->Vis X.env.scope x
 cel:∀x,(c.kd.lookup x=some .cell\/c.kd.lookup x=some .free)->(X.env.kindOf x=some .cell\/X.env.kindOf x=some .free)
 glo:∀x,c.kd.lookup x=some .globalImplicit->Gl X x
 sto:∀x,c.sto x=true->Loc X.env.scope x/\(X.fn x=true\/X.env.scope.names.lookup x=some .local)
 room:Room k X.A
 call:∀f n,(f,n)∈c.fs->∃fa fd ps,FnOk X.prog X.w X.K X.mg X.base CX k fa fd ps (lift X.K n (Z f))/\PySem.W.keepIn X.K (.ref fa)=true/\Binds X.K fd ps []/\X.mg (⇑f)=some (.ref fa)
 blt:∀f,f∈c.bt->X.mg (⇑f)=none
 con:∀x d,(x,d)∈c.cn->∃u v,X.mg (⇑x)=some u/\RelV v u/\∀H F,Rep X.K H F d v
 exc:∃EX,kh CX X EX/\Throws X EX/\∀x G' H' F',E x G'->Ext B.H B.F H' F'->R X.K H' F' G'->XR X.K H' F' x EX
 nox:∀(Y:Cx),kh CX Y λz z z=>False
 xcl:∀C,c.xs.contains (C,true)=true->∃a,X.mg (⇑C)=some (.ref a)/\qR X.K a=true/\PySem.W.nsIn X.K mainGlobals (⇑C)=some (some (.ref a))
 loc:∀x,c.kd.lookup x=some .local->X.env.scope.names.lookup x=some .local
 xis:∀C',c.xs.contains (C',false)=true->∃cv,CV X.K X.mg C' cv/\∀C,c.xs.contains (C,true)=true->XI X.K C C' cv
 mth:∀f C m n,(f,C,m,n)∈c.ot.ms->MthOk Z X.prog X.w X.K X.mg X.base CX k f C m n
 mko:∀C n,(C,n)∈c.ot.ks->MkoOk Z X.prog X.w X.K X.mg X.base CX k C n
 fld:∀C f,(C,f)∈c.ot.fl->Ia X.K C f
 xko:∀C f,(C,f)∈c.ot.xk->XkoX X.prog X.w X.K X.mg X.base CX k c.xs C f
 trc:c.xs≠[]->CX=CX1 X.prog X.w/\X.stack=X.env::X.outer/\X.ex=[]
def tE(K:PF)(B:Bs)(w:ak->DH->(AT)->Prop):TE:=λX H Q=>∃Y F G,Ext B.H B.F H F/\EnvR K H F Y X/\R K H F G/\w Y G (PV K H F Q)
def tB'(K:PF)(B:Bs)(w:ak->DH->(Bool->DH->Prop)->Prop):TT:=λX H Q=>∃Y F G,Ext B.H B.F H F/\EnvR K H F Y X/\R K H F G/\w Y G (PB K H F Q)
def tL(K:PF)(B:Bs)(w:ak->DH->(AS->DH->Prop)->Prop):TA:=λX H Q=>∃Y F G,Ext B.H B.F H F/\EnvR K H F Y X/\R K H F G/\w Y G (PLs K H F Q)
def POp(K:PF)(H:Hp)(F:FZ)(Q:Option Int->Hp->Prop):Option Int->DH->Prop:=λb g=>∀H' F',Ext H F H' F'->R K H' F' g->Q b H'
def Ib(K:PF)(B:Bs)(w:ak->DH->(Option Int->DH->Prop)->Prop):TO:=λX H Q=>∃Y F G,Ext B.H B.F H F/\EnvR K H F Y X/\R K H F G/\w Y G (POp K H F Q)
def peI{X:Cx}{e:AO}{t t':TE}(h:PE X e t)(i:∀Y H Q,t' Y H Q->t Y H Q):PE X e t':=λp9 s Y H Q I q=>h p9 s Y H Q I (i Y H Q q)
def ptI{X:Cx}{e:AO}{t t':TT}(h:PT X e t)(i:∀Y H Q,t' Y H Q->t Y H Q):PT X e t':=λp9 s Y H Q I q=>h p9 s Y H Q I (i Y H Q q)
def pwI{X:Cx}{e:AO}{t t':TT}(h:PW X e t)(i:∀Y H Q,t' Y H Q->t Y H Q):PW X e t':=λg p9 s Y H Q I q=>h g p9 s Y H Q I (i Y H Q q)
def paI{X:Cx}{e:AE}{t t':TA}(h:PA X e t)(i:∀Y H Q,t' Y H Q->t Y H Q):PA X e t':=λpos p9 s Y H Q I q=>h pos p9 s Y H Q I (i Y H Q q)
section
variable {Z:aj} {CX:CXT} {k:Nat} {c:CT} {E:EK} {B:Bs} {X:Cx}
theorem aP{K:PF}{x:Ex}{X:L2.St}{H:Hp}{F:FZ}{G:DH}{Y:ak}{W:AT}{Q:VK}(J:Ext B.H B.F H F)(he:EnvR K H F Y X)(r:R K H F G)(hw:wpE Z x E Y G W)
  (h:∀d G1 H1 g v,W d G1->Ext B.H B.F H1 g->Ext H F H1 g->EnvR K H1 g Y X->R K H1 g G1->Rep K H1 g d v->Q v H1):tE K B (wpE Z x E) X H Q:=
 ⟨Y,F,G,J,he,r,aM x (λd G1 q H1 g v z L N=>h d G1 H1 g v q (J.trans z) z (he.ext z) L N) hw⟩
theorem dU{K:PF}{x:Exs}{X:L2.St}{H:Hp}{F:FZ}{G:DH}{Y:ak}{W:AS->DH->Prop}{Q:AR->Hp->Prop}(J:Ext B.H B.F H F)(he:EnvR K H F Y X)(r:R K H F G)(hw:bC Z x E Y G W)
  (h:∀d G1 H1 g v,W d G1->Ext B.H B.F H1 g->Ext H F H1 g->EnvR K H1 g Y X->R K H1 g G1->Reps K H1 g d v->Q v H1):tL K B (bC Z x E) X H Q:=
 ⟨Y,F,G,J,he,r,gf x (λd G1 q H1 g v z L N=>h d G1 H1 g v q (J.trans z) z (he.ext z) L N) hw⟩
theorem iV{K:PF}{x:Tx}{X:L2.St}{H:Hp}{F:FZ}{G:DH}{Y:ak}{W:Bool->DH->Prop}{Q:Bool->Hp->Prop}(J:Ext B.H B.F H F)(he:EnvR K H F Y X)(r:R K H F G)(hw:wpT Z x E Y G W)
  (h:∀d G1 H1 g,W d G1->Ext B.H B.F H1 g->Ext H F H1 g->EnvR K H1 g Y X->R K H1 g G1->Q d H1):tB' K B (wpT Z x E) X H Q:=
 ⟨Y,F,G,J,he,r,dF x (λd G1 q H1 g z L=>h d G1 H1 g q (J.trans z) z (he.ext z) L) hw⟩
theorem Ie{K:PF}{x:Ox}{X:L2.St}{H:Hp}{F:FZ}{G:DH}{Y:ak}{W:Option Int->DH->Prop}{Q:Option Int->Hp->Prop}(J:Ext B.H B.F H F)(he:EnvR K H F Y X)(r:R K H F G)(hw:wpO Z x E Y G W)
  (h:∀d G1 H1 g,W d G1->Ext B.H B.F H1 g->Ext H F H1 g->EnvR K H1 g Y X->R K H1 g G1->Q d H1):Ib K B (wpO Z x E) X H Q:=
 ⟨Y,F,G,J,he,r,xR x (λd G1 q H1 g z L=>h d G1 H1 g q (J.trans z) z (he.ext z) L) hw⟩
theorem PV.later{K:PF}{H H1:Hp}{F g:FZ}{Q:VK}{d:D}{G:DH}(h:PV K H F Q d G)(x:Ext H F H1 g):PV K H1 g Q d G:=λH' F' v q=>h H' F' v (x.trans q)
theorem PB.later{K:PF}{H H1:Hp}{F g:FZ}{Q:Bool->Hp->Prop}{d:Bool}{G:DH}(h:PB K H F Q d G)(x:Ext H F H1 g):PB K H1 g Q d G:=λH' F' q=>h H' F' (x.trans q)
theorem PB.now{K:PF}{H:Hp}{F:FZ}{Q:Bool->Hp->Prop}{d:Bool}{G:DH}(h:PB K H F Q d G)(r:R K H F G):Q d H:=h H F (Ext.refl H F) r
theorem fG(S:Stat Z CX k c E B X):X.A.units+100<cLine:=by have:=S.room.un;lia
theorem cz {x:Str} (h:okN x=true):(x==("__debug__":Str))=false:=by
 unfold okN at h;cases e:x==("__debug__":Str) with
 |false=>rfl
 |true=>rw[e]at h;simp at h
theorem ZG {x:Str} (h:okN x=true):(x==("__classdict__":Str))=false:=by
 unfold okN at h;cases e:x==("__classdict__":Str) with
 |false=>rfl
 |true=>rw[e]at h;simp at h
theorem cO {x:Str} (h:okN x=true):x≠"__name__":=by unfold okN at h;intro e;rw[a8.mpr e]at h;simp at h
theorem dq{x:Str}(h:c.glo x=true):c.kd.lookup x=-.globalImplicit/\okN x=true:=by unfold CT.glo at h;rw[ae,a8]at h;exact h
theorem ZJ(S:Stat Z CX k c E B X){i:Nat}{e:AO}(h:aa c (.var i) e=true):PE X e (tE X.K B (wpE Z (.var i) E)):=by
 replace h:=Hg h;let(x,pos,rfl,h):=h
 .rw[ae,ae,a8]at h;show peI (Bh (i:=i) (by rw[S.N];exact h.1.1) (S.vis x h.1.2) (cz h.2) (ZG h.2)) λW H Q q=>?_;let(Y,F,G,_,he,r,hw):=q;rw[wG]at hw;split at hw
  .rename_i d z;let(v,g,J):=he.get z;exact⟨v,g,hw.now r J⟩
  .exact hw.elim
theorem ZK(S:Stat Z CX k c E B X){d:D}{e:AO}(h:aa c (.cst d) e=true):PE X e (tE X.K B (wpE Z (.cst d) E)):=by
 replace h:=Hh h;let(q,_,_,rfl,h):=h
 .unfold sU at h;split at h
  .exact peI Q7 λW H Q g=>el g λY F G z he r hw=>by rw[jD]at hw;exact hw.now r rfl
  .rw[a8]at h;subst h;exact peI Q6 λW H Q g=>el g λY F G z he r hw=>by rw[jD]at hw;exact hw.now r rfl
  .rw[a8]at h;subst h;exact peI Q5 λW H Q g=>el g λY F G z he r hw=>by rw[jD]at hw;exact hw.now r rfl
  .rename_i l b;rw[ae,a8,dc]at h;show peI Q8 λW H Q g=>el g λY F G z he r hw=>?_;rw[jD]at hw;show hw.now r ⟨?_,h.2⟩;rw[h.1,<-qQ]
  .cases h
theorem ZL(S:Stat Z CX k c E B X){x:AL}{d:D}{e:AO}(h:aa c (.glb x d) e=true):PE X e (tE X.K B (wpE Z (.glb x d) E)):=by
 replace h:=Hi h;let(y,pos,rfl,h):=h
 .rw[ae,ae,a8,gV]at h;let((z,h1),(x',d'),N,h2):=h;rw[ae,a8]at h2;let(q,g):=h2;have g:=Zc g;simp only at q g;subst z q g;let(J,L):=dq h1;let(u,v,hu,ru,U):=S.con _ _ N;exact peI (Q9 (S.glo _ J) hu ru (cz L)) λW H Q O=>el O λY F G t he r hw=>by rw[wH]at hw;exact hw.now r (U H F)
theorem ZM(S:Stat Z CX k c E B X){op:Operator}{fz:Bool}{a b:Ex}(L:∀{e},aa c a e=true->PE X e (tE X.K B (wpE Z a E)))(N:∀{e},aa c b e=true->PE X e (tE X.K B (wpE Z b E))){e:AO}
  (h:aa c (.bin op fz a b) e=true):PE X e (tE X.K B (wpE Z (.bin op fz a b) E)):=by
 replace h:=Hj h;let(l,o,r,pos,rfl,h):=h
 .rw[ae,ae,a8]at h;let((g,h1),h2):=h;subst g;show peI (Sw (XF _ fz) (L h1) (N h2)) λW H Q hq=>el hq λY F G e0 he r hw=>?_;rw[wI]at hw;show aP e0 he r hw λx G1 H1 F1 v q g x1 J r1 rv=>aP g J r1 q λy G2 H2 U u q e2 O he2 r2 ru=>?_;exact⟨U,G2,x,y,r2,Rep.ext O rv,ru,Fg (λd G' z=>PV.later z (x1.trans O)) q⟩
theorem ZP(S:Stat Z CX k c E B X){a:Ex}(g:∀{e},aa c a e=true->PE X e (tE X.K B (wpE Z a E))){e:AO}(h:aa c (.neg a) e=true):PE X e (tE X.K B (wpE Z (.neg a) E)):=by
 replace h:=Hk h;let(_,_,rfl,h):=h
 .show peI (Sy S7 (g h)) λW H Q N=>el N λY F G z he r hw=>?_;rw[wJ]at hw;show aP z he r hw λx G1 H1 F1 v q e1 x1 L O U=>?_;split at q
  .have J:v=.int _:=U;subst J;exact⟨_,rfl,q _ _ _ x1 O rfl⟩
  .exact q.elim
theorem Ig(S:Stat Z CX k c E B X){op:CmpOp}{a b:Ex}(L:∀{e},aa c a e=true->PE X e (tE X.K B (wpE Z a E)))(N:∀{e},aa c b e=true->PE X e (tE X.K B (wpE Z b E))){e:AO}
  (h:aa c (.cmp op a b) e=true):PE X e (tE X.K B (wpE Z (.cmp op a b) E))/\PT X e (tB' X.K B (wpT Z (.val (.cmp op a b)) E)):=by
 replace h:=Hm h;let(l,o,r,pos,rfl,h):=h
 .rw[ae,ae,a8]at h;let((J,h1),h2):=h;subst J;have hm:=H9 (b8 b h2) o;show⟨peI (Tc (jF _ (fG S)) (L h1) (N h2) hm) λW H Q hq=>el hq λY F G e0 he r hw=>?_,ptI (Td (jF _ (fG S)) (L h1) (N h2) hm) λW H Q hq=>el hq λY F G e0 he r hw=>?_⟩
  .rw[rO]at hw;show aP e0 he r hw λx G1 H1 F1 v q J x1 g r1 rv=>aP J g r1 q λy G2 H2 U u q e2 O he2 r2 ru=>?_;exact⟨U,G2,x,y,r2,Rep.ext O rv,ru,iK (λd z=>PV.later z (x1.trans O)) q⟩
  .rw[lC,rO]at hw;show aP e0 he r hw λx G1 H1 F1 v q J x1 g r1 rv=>aP J g r1 q λy G2 H2 U u q e2 O he2 r2 ru=>?_;show⟨U,G2,x,y,r2,Rep.ext O rv,ru,iK (λd z=>?_) q⟩;intro H' F' v' x' r' rv';have e3:v'=.bl d:=rv';exact⟨d,e3,z H' F' ((x1.trans O).trans x') r'⟩
theorem Ih(S:Stat Z CX k c E B X){op J:CmpOp}{a b d:Ex}(N:∀{e},aa c a e=true->PE X e (tE X.K B (wpE Z a E)))(O:∀{e},aa c b e=true->PE X e (tE X.K B (wpE Z b E)))(U:∀{e},aa c d e=true->PE X e (tE X.K B (wpE Z d E))){e:AO}
  (h:aa c (.chn op J a b d) e=true):PE X e (tE X.K B (wpE Z (.chn op J a b d) E))/\PT X e (tB' X.K B (wpT Z (.val (.chn op J a b d)) E)):=by
 replace h:=Hn h;let(l,o,o',m,r,pos,rfl,h):=h
 .simp only[ae,a8]at h;let((((e1,e2),h1),h2),h3):=h;subst e1 e2;have hm:lastMarks [o,o'] [m,r]=false:=H9 (b8 d h3) o';have go:∀{V H Q Y F G}{W:Bool->DH->Prop},Ext B.H B.F H F->EnvR X.K H F Y V->R X.K H F G->
    wpE Z a E Y G (λx G1=>wpE Z b E Y G1 λy G2=>aZ o (view G2 x) (view G2 y) λt=>match t with|true=>wpE Z d E Y G2 λz G3=>aZ o' (view G3 y) (view G3 z) λt'=>W t' G3|false=>W false G2)->
    (∀t g H' F',W t g->Ext H F H' F'->R X.K H' F' g->Q (.bl t) H')->
    u9 (rC2 X.K (aZ o)) (rC2 X.K (aZ o')) (tE X.K B (wpE Z a E)) (tE X.K B (wpE Z b E)) (tE X.K B (wpE Z d E)) V H Q:=by
   intro V H Q Y F G W L he r hw fin;show aP L he r hw λx G1 H1 F1 v q e1 x1 he1 r1 rv=>aP e1 he1 r1 q λy G2 H2 F2 u q e2 x2 he2 r2 ru=>?_;show⟨F2,G2,x,y,r2,Rep.ext x2 rv,ru,iK (λt q=>?_) q⟩;intro H3 F3 v3 x3 r3 rv3;have e3:v3=.bl t:=rv3;show⟨t,e3,?_⟩;cases t with
   |true=>
    rw[if_pos rfl];show aP (e2.trans x3) (he2.ext x3) r3 q λz G4 H4 F4 v4 q e4 x4 he4 r4 rv4=>?_;show⟨F4,G4,y,z,r4,Rep.ext (x3.trans x4) ru,rv4,iK (λt' q=>?_) q⟩;intro H5 F5 v5 x5 r5 rv5;have e5:v5=.bl t':=rv5;subst e5;exact fin _ _ _ _ q ((((x1.trans x2).trans x3).trans x4).trans x5) r5
   |false=>
    rw[if_neg bB];exact fin _ _ _ _ q ((x1.trans x2).trans x3) r3
  show⟨peI (Te (jF _ (fG S)) (jF _ (fG S)) (N h1) (O h2) (U h3) hm) λV H Q hq=>el hq λY F G L he r hw=>?_,ptI (Tf (jF _ (fG S)) (jF _ (fG S)) (N h1) (O h2) (U h3) hm) λV H Q hq=>el hq λY F G L he r hw=>?_⟩
  .rw[rP]at hw;exact go (W:=λt g=>PV X.K H F Q (.bl t) g) L he r hw λt g H' F' z x' r'=>z H' F' _ x' r' rfl
  .rw[lC,rP]at hw;show go (W:=λt g=>PB X.K H F Q t g) L he r hw λt g H' F' z x' r'=>⟨t,rfl,z H' F' x' r'⟩
end
section
variable {Z:aj} {CX:CXT} {k:Nat} {c:CT} {E:EK} {B:Bs} {X:Cx}
abbrev OkE(Z:aj)(c:CT)(E:EK)(B:Bs)(X:Cx)(x:Ex):Prop:=∀{e:AO},aa c x e=true->PE X e (tE X.K B (wpE Z x E))
abbrev gQ(Z:aj)(c:CT)(E:EK)(B:Bs)(X:Cx)(x:Exs):Prop:=∀{es:AE},aO c x es=true->PA X es (tL X.K B (bC Z x E))
abbrev OkT(Z:aj)(c:CT)(E:EK)(B:Bs)(X:Cx)(x:Tx):Prop:=∀{e:AO},bK c x e=true->PT X e (tB' X.K B (wpT Z x E))
theorem ZQ(S:Stat Z CX k c E B X){a:Ex}(J:OkE Z c E B X a){e:AO}(h:aa c (.not a) e=true):PE X e (tE X.K B (wpE Z (.not a) E)):=by
 replace h:=Hl h;let(_,_,rfl,h):=h
 .intro p9 s W H Q I q;let(Y,F,G,O,he,r,hw):=q;rw[wK]at hw;have q':tE X.K B (wpE Z a E) W H (λx H1=>∃b,qM X.K x H1 b/\Q (.bl (!b)) H1):=aP O he r hw λx G1 H1 F1 v q e1 x1 he1 g rv=>by
   split at q
   .rename_i b U;exact⟨b,Gg g rv U,q _ _ _ x1 g rfl⟩
   .exact q.elim
  show UnaryOp_ (thn (J h p9 s W H _ I q') λv s1 zZ=>?_);let(x,H1,L,g,b,tb,q1):=zZ;show not_of (thn (Bw p9 s1 W H1 x v (λz H'=>Q (.bl (!z)) H') L g ⟨b,tb,q1⟩) λz s2 zZ=>?_);let(H2,N,q2):=zZ;exact⟨.bl (!z),H2,N,rfl,q2⟩
theorem yw{es:AE}(h:aO c .nil es=true):PA X es (tL X.K B (bC Z .nil E)):=by
 unfold aO at h;cases es with
 |nil=>exact paI fQ λW H Q g=>el g λY F G q he r hw=>by rw[jC]at hw;exact hw H F [] (Ext.refl _ _) r rfl
 |cons _ _=>cases h
theorem tD{x:Ex}{xs:Exs}(ih:OkE Z c E B X x)(z:gQ Z c E B X xs){es:AE}(h:aO c (.cons x xs) es=true):PA X es (tL X.K B (bC Z (.cons x xs) E)):=by
 unfold aO at h;split at h
 .rename_i e es;rw[ae]at h;show paI (eE (ih h.1) (z h.2) (cH e es X.env (dm (b8 x h.1)))) λW H Q hq=>el hq λY F G O he r hw=>?_;rw[iI]at hw;show aP O he r hw λd G1 H1 F1 v q U x1 g r1 rv=>dU U g r1 q λds G2 H2 N vs q e2 L he2 r2 J=>?_;exact q H2 N _ (x1.trans L) r2 ⟨v,vs,rfl,Rep.ext L rv,J⟩
 .cases h
theorem ZR(S:Stat Z CX k c E B X){es:Exs}(N:gQ Z c E B X es){e:AO}(h:aa c (.tup es) e=true):PE X e (tE X.K B (wpE Z (.tup es) E)):=by
 replace h:=Hr h;let(_,_,_,rfl,h):=h
 .show peI (TF (N h)) λW H Q L=>el L λY F G z he r hw=>?_;rw[wN]at hw;show dU z he r hw λds G1 H1 F1 vs q e1 U J O g=>⟨by rw[<-g⁻¹];exact dM q.1,lJ (PV.later q.2 U) O g⟩
theorem ZS(S:Stat Z CX k c E B X){fz:Bool}{es:Exs}(O:gQ Z c E B X es){e:AO}(h:aa c (.lst fz es) e=true):PE X e (tE X.K B (wpE Z (.lst fz es) E)):=by
 replace h:=Hs h;let(_,_,rfl,h):=h
 .show peI (TJ (O h)) λW H Q N=>el N λY F G J he r hw=>?_;rw[wO]at hw;show dU J he r hw λds G1 H1 F1 vs q e1 x1 L U g=>⟨by rw[<-g⁻¹];exact dM q.1,d7 (dI (λd G' z=>PV.later z x1) q.2) U g⟩
theorem ZV(S:Stat Z CX k c E B X){a i:Ex}(J:OkE Z c E B X a)(L:OkE Z c E B X i){e:AO}(h:aa c (.idx a i) e=true):PE X e (tE X.K B (wpE Z (.idx a i) E)):=by
 replace h:=Ht h;let(_,_,_,rfl,h):=h
 .rw[ae]at h;show peI (Ui (X4 (fG S)) (J h.1) (L h.2) (Zz (b8 i h.2))) λW H Q hq=>el hq λY F G U he r hw=>?_;rw[wQ]at hw;show aP U he r hw λx G1 H1 F1 v q e1 x1 g r1 rv=>aP e1 g r1 q λy G2 H2 O u q e2 N he2 r2 ru=>?_;exact⟨O,G2,x,y,r2,Rep.ext N rv,ru,Fj (λd z=>PV.later z (x1.trans N)) q⟩
theorem ZW(S:Stat Z CX k c E B X){e:AO}(h:aa c .dnw e=true):PE X e (tE X.K B (wpE Z .dnw E)):=by let(p,rfl):=Hu h;show peI Wd λW H Q q=>el q λY F G J he r hw=>?_;rw[xj]at hw;intro p g;have x:=di (o:=.dT []) r g;exact hw p (r.free g) _ F _ x (r.dctAt x (λf=>by let(vs,z):=(r.fz p f).2;rw[g]at z;cases z) rfl .nil) rfl
theorem ZX(S:Stat Z CX k c E B X){a b:Ex}(N:OkE Z c E B X a)(O:OkE Z c E B X b){e:AO}(h:aa c (.dp1 a b) e=true):PE X e (tE X.K B (wpE Z (.dp1 a b) E)):=by let(ek,ev,p,rfl,hh):=Hv h;rw[ae]at hh;show peI (Wf (by have:=fG S;lia) (N hh.1) (O hh.2)) λW H Q hq=>el hq λY F G e0 he r hw=>?_;rw[xm]at hw;show aP e0 he r hw λx G1 H1 F1 v q e1 x1 J r1 rv=>aP e1 J r1 q λy G2 H2 F2 u q e2 U he2 g ru=>?_;let(n,b,q,rfl,hb,_):=lN (Rep.ext U rv) q;show⟨b,bz n,rfl,hb,λp L=>?_⟩;have x:=di (o:=.dT [(bz n,u)]) g L;exact q p (g.free L) _ F2 _ (x1.trans (U.trans x)) (g.dctAt x (λf=>by let(vs,z):=(g.fz p f).2;rw[L]at z;cases z) rfl (.cons ru .nil)) rfl
theorem Ii{lo:Ox}(N:∀x,lo=.ob x->OkE Z c E B X x){l:Option AO}(h:gh c lo l=true):PO X l (Ib X.K B (wpO Z lo E)):=by
 cases lo with
 |no=>
  unfold gh at h;cases l with
  |none=>
   intro p9 s W H Q I q;show Ua p9 s W H Q I ?_;let(Y,F,G,g,he,r,hw):=q;rw[wz]at hw;exact hw H F (Ext.refl _ _) r
  |some _=>cases h
 |ob x=>
  unfold gh at h;split at h
  .intro p9 s W H Q I q;show Ub (N x rfl h) p9 s W H Q I ?_;let(Y,F,G,g,he,r,hw):=q;rw[wA]at hw;show aP g he r hw λd G1 H1 z v q e1 x1 L O U=>?_;split at q
   .have J:v=.int _:=U;exact⟨_,J,q H1 z x1 O⟩
   .exact q.elim
  .cases h
theorem ZZ(S:Stat Z CX k c E B X){fz:Bool}{a:Ex}{lo hi:Ox}(L:OkE Z c E B X a)(O:∀x,lo=.ob x->OkE Z c E B X x)(N:∀x,hi=.ob x->OkE Z c E B X x){e:AO}(h:aa c (.slc fz a lo hi) e=true):
  PE X e (tE X.K B (wpE Z (.slc fz a lo hi) E)):=by
 replace h:=Hw h;let(_,_,_,_,_,rfl,h):=h
 .rw[ae,ae]at h;show peI (Uc (Yc fz) (L h.1.1) (Ii O h.1.2) (Ii N h.2)) λW H Q hq=>el hq λY F G e0 he r hw=>?_;rw[wR]at hw;show aP e0 he r hw λx G1 H1 F1 v q e1 x1 g r1 rv=>Ie e1 g r1 q λl G2 H2 F2 q e2 U J r2=>Ie e2 J r2 q λu G3 H3 F3 q e3 x3 he3 r3=>?_;exact⟨F3,G3,x,r3,Rep.ext (U.trans x3) rv,Fl (λd G' z=>PV.later z ((x1.trans U).trans x3)) q⟩
theorem Z0(S:Stat Z CX k c E B X){a:Ex}(g:OkE Z c E B X a){e:AO}(h:aa c (.frz a) e=true):PE X e (tE X.K B (wpE Z (.frz a) E)):=by
 have h:aa c a e=true:=h;show peI (g h) λW H Q hq=>el hq λY F G O he r hw=>?_;rw[xg]at hw;show aP O he r hw λx G1 H1 F1 v q e1 N he1 z L=>?_;split at q
 .rename_i p;have U:v=.ref p:=L;subst U;split at q
  .rename_i ds J;exact q _ _ _ (N.trans vU) (z.frz J) (Xk z J)
  .exact q.elim
 .exact q _ _ _ N z L
theorem tH{es:AE}{xs:Exs}(h:aO c xs es=true)(env:Env)(pos:Pos):(backTo pos (starEach es env)).any (·.1)=false:=by
 induction es generalizing xs with
 |nil=>rfl
 |cons e es g=>
  cases xs with
  |nil=>unfold aO at h;cases h
  |cons x xs=>
   unfold aO at h;rw[ae]at h;rw[cH e es env (dm (b8 x h.1))];change(false||(backTo pos (starEach es env)).any (·.1))=false;rw[g h.2];rfl
theorem lZ{e:AO}{es:AE}{xs:Exs}(h:aO c xs (e::es)=true):∃x g,xs=.cons x g/\aa c x e=true/\aO c g es=true:=by
 cases xs with
 |nil=>unfold aO at h;cases h
 |cons x g=>
  unfold aO at h;rw[ae]at h;exact⟨x,g,rfl,h.1,h.2⟩
theorem Ij{Y:ak}:∀(xs:Exs){es:AE}{G:DH}{Q:AS->DH->Prop},aO c xs es=true->bC Z xs E Y G Q->bC Z xs E Y G (λds g=>ds⁻¹=es⁻¹/\Q ds g)
 |.nil,es,G,Q,h,q=>by
  unfold aO at h;rw[jC]at q ⊢;cases es with
  |nil=>exact⟨rfl,q⟩
  |cons _ _=>cases h
 |.cons x xs,es,G,Q,h,q=>by
  unfold aO at h;split at h
  .rename_i e es;rw[ae]at h;rw[iI]at q ⊢;show aM x (λd G1 q=>gf xs (λds G2 z=>?_) (Ij xs h.2 q)) q;exact⟨by simp[z.1],z.2⟩
  .cases h
theorem Z1(S:Stat Z CX k c E B X){f:AL}{xs:Exs}(ih:gQ Z c E B X xs){e:AO}(h:aa c (.call f xs) e=true):PE X e (tE X.K B (wpE Z (.call f xs) E)):=by
 replace h:=Hx h;let(x,p,args,pos,rfl,h):=h
 .simp only[ae,a8,gV]at h;let((((L,h1),(f',n),hm,e2,e3),h2),N):=h;simp only at e2 e3;subst L e2 e3;let(g1,g2):=dq h1;let(fa,fd,ps,F0,hk,hb,U):=S.call _ _ hm;let(EX,g,_,O):=S.exc;cases args with
  |nil=>cases h2
  |cons e es=>
   let(x0,xs',rfl,c1,c2):=lZ N;show peI (TX F0 S.room (S.glo _ g1) U hk hb .nil g (ih N) (cz g2) (cH e es X.env (dm (b8 x0 c1))) (tH c2 X.env pos)) λW H Q hq=>el hq λY F G e0 he r hw=>?_;rw[wU]at hw;show dU e0 he r (Ij _ N hw) λds G1 H1 F1 vs q L x1 he1 r1 J=>?_;rw[fy];show⟨by rw[<-J⁻¹];exact q.1,F1,G1,ds,r1,J,Spec.mono q.2 (λd G' z=>PV.later z x1) λx G' z H' F' x' r'=>?_⟩;exact O x G' H' F' z (L.trans x') r'
theorem Z2(S:Stat Z CX k c E B X){f:Bf}{xs:Exs}(ih:gQ Z c E B X xs){e:AO}(h:aa c (.bcl f xs) e=true):PE X e (tE X.K B (wpE Z (.bcl f xs) E)):=by
 replace h:=Hy h;let(x,p,args,pos,rfl,h):=h
 .simp only[ae,a8]at h;let(((((e1,L),h1),hm),h2),N):=h;subst e1;let(O,J):=dq h1;have g:=S.blt _ (bm.mp hm);cases args with
  |nil=>cases h2
  |cons e es=>
   let(x0,xs',rfl,c1,c2):=lZ N;have hs:=cH e es X.env (dm (b8 x0 c1));have U:=tH c2 X.env pos;have go:∀W H Q,tE X.K B (wpE Z (.bcl f (.cons x0 xs')) E) W H Q->tCB (gM X.K f) (tL X.K B (bC Z (.cons x0 xs') E)) W H Q:=λW H Q hq=>el hq λY F G e0 he r hw=>by
    rw[wV]at hw;show dU e0 he r hw λds G1 H1 F1 vs q e1 x1 he1 r1 rvs=>?_;exact⟨F1,G1,ds,r1,rvs,Fp (λd z=>PV.later z x1) q⟩
   cases f with
   |len=>exact peI (iz Yd (S.glo _ O) g PySem.boot_len (ih N) (cO J) (cz J) hs U) go
   |any=>exact peI (iz (Yg S.calm) (S.glo _ O) g Wr (ih N) (cO J) (cz J) hs U) go
   |all=>exact peI (iz (Ye S.calm) (S.glo _ O) g Vl (ih N) (cO J) (cz J) hs U) go
   |int=>exact peI (iB Yh (S.glo _ O) g CQ (ih N) (cO J) (cz J) hs U) go
   |tuple=>exact peI (iB Yi (S.glo _ O) g (by ac_rfl) (ih N) (cO J) (cz J) hs U) go
   |sum=>cases L
   |min=>exact peI (iz (Yu S.calm) (S.glo _ O) g Yv (ih N) (cO J) (cz J) hs U) go
   |max=>cases L
   |abs=>cases L
   |min2=>cases L
   |str=>exact peI (iB Yw (S.glo _ O) g CW (ih N) (cO J) (cz J) hs U) go
theorem Z3(S:Stat Z CX k c E B X){fz:Bool}{f:Lf}{xs:Exs}(ih:gQ Z c E B X xs){e:AO}(h:aa c (.lcl fz f xs) e=true):PE X e (tE X.K B (wpE Z (.lcl fz f xs) E)):=by
 replace h:=Hz h;let(x,p,args,pos,rfl,h):=h
 .simp only[ae,a8]at h;let(((((e1,hok),h1),hm),h2),N):=h;subst e1;let(g1,L):=dq h1;have g:=S.blt _ (bm.mp hm);cases args with
  |nil=>cases h2
  |cons e es=>
   let(U,J,rfl,c1,c2):=lZ N;have hs:=cH e es X.env (dm (b8 U c1));have ha:=tH c2 X.env pos;have go:∀W H Q,tE X.K B (wpE Z (.lcl fz f (.cons U J)) E) W H Q->tCB (yc X.K fz f) (tL X.K B (bC Z (.cons U J) E)) W H Q:=λW H Q hq=>el hq λY F G e0 he r hw=>by
    rw[wW]at hw;show dU e0 he r hw λds G1 H1 F1 vs q e1 x1 he1 r1 O=>?_;exact⟨F1,G1,ds,r1,O,Fq (λd z=>dI (λd G' z=>PV.later z x1) z) q⟩
   cases f with
   |list=>exact peI (iB (Yl S.calm fz) (S.glo _ g1) g vo (ih N) (cO L) (cz L) hs ha) go
   |sorted=>exact peI (iz (Yp fz) (S.glo _ g1) g Ym (ih N) (cO L) (cz L) hs ha) go
theorem Z4:bootBuiltins "set"=-(.type "set"):=by ac_rfl
theorem Ik{K:PF}{H:Hp}{F:FZ}:∀{ds:AS}{ks:List (List Int)}{vs:AR},fV ds=-ks->Reps K H F ds vs->∃as:List AQ,vs=as.map V.ref/\as⁻¹=ks⁻¹/\∀(i:Nat)(a:AQ)(v:List Int),as[i]?=-a->ks[i]?=-v->SqT K H a (v.map V.int)
 |[],ks,vs,e,t=>by cases e;cases t;exact⟨[],rfl,rfl,λi a v h=>by simp at h⟩
 |.tup l::r,ks,vs,e,t=>by
  unfold fV at e;split at e
  .rename_i k N J L;cases e;let(v,Y,rfl,O,t'):=t;let(a,us,rfl,q,U):=O;let(as,rfl,h1,h2):=Ik L t';show⟨a::as,rfl,by rw[c9,c9,h1],λi b v g z=>?_⟩;cases i with
   |zero=>cases g;cases z;rw[lQ J U]at q;exact q.sq
   |succ i=>exact h2 i b v g z
  .cases e
 |.non::_,ks,vs,e,t=>nomatch e
 |.bl _::_,ks,vs,e,t=>nomatch e
 |.int _::_,ks,vs,e,t=>nomatch e
 |.str _::_,ks,vs,e,t=>nomatch e
 |.lst _::_,ks,vs,e,t=>nomatch e
 |.ref _::_,ks,vs,e,t=>nomatch e
 |.scr _::_,ks,vs,e,t=>nomatch e
 |.exn _::_,ks,vs,e,t=>nomatch e
 |.exa _ _ _::_,ks,vs,e,t=>nomatch e
 |.obj _ _ _::_,ks,vs,e,t=>nomatch e
 |.dct _ _::_,ks,vs,e,t=>nomatch e
theorem Z5(S:Stat Z CX k c E B X){a:Ex}(N:OkE Z c E B X a){e:AO}(h:aa c (.lns a) e=true):PE X e (tE X.K B (wpE Z (.lns a) E)):=by
 let(x,p,x',p',e2,pos',pos,rfl,h'):=HH h;simp only[ae,a8]at h';let((((((U,h1),hm),e3),h2),hr),h3):=h';subst U e3;let(g1,g2):=dq h1;let(z,g):=dq h2;have J:=S.blt _ (bm.mp hm);have L:=S.blt _ (bm.mp hr);have hs:=cH e2 [] X.env (dm (b8 a h3));show peI (iz Xg (S.glo _ g1) J PySem.boot_len (eE (iB (Xf S.calm (by have:=fG S;change X.A.units+1+1+1<cLine;lia)) (S.glo _ z) L Z4 (eE (N h3) fQ hs) (cO g) (cz g) hs rfl) fQ rfl) (cO g2) (cz g2) rfl rfl) λW H Q hq=>el hq λY F G e0 he r hw=>?_;rw[wY]at hw;show aP e0 he r hw λd G1 H1 F1 v q U x1 he1 O rv=>?_;unfold jA at q;split at q
 .rename_i ds ev;let(p,vs,e,sq,t'):=Rep.list O rv ev;subst e;split at q
  .rename_i ks hb;let(as,rfl,hl,ht):=Ik hb t';have hlen:(L2.gC ks)⁻¹<=ks⁻¹:=Xd ks;show⟨p,as,ks,rfl,sq,hl,ht,by have:=q.1;lia,λl hl=>⟨l,_,rfl,cU,by have:=q.1;lia,?_⟩⟩;exact(PV.later q.2 (x1.trans (di (o:=lu l (L2.gC ks)⁻¹) O hl))).now (O.new hl) rfl
  .exact q.elim
 .exact q.elim
theorem Il{K:PF}{H:Hp}{F:FZ}(n:Nat):Reps K H F (aX 0 n) ((List.range n).map λi=>V.int (i:Nat)):=by
 have g:aX 0 n=((List.range n).map λi:Nat=>(i:Int)).map D.int:=by unfold aX;rw[cp];show dr λi z=>?_;change D.int (0+(i:Int))=D.int i;rw[gL]
 have q:((List.range n).map λi:Nat=>V.int (i:Nat))=((List.range n).map λi:Nat=>(i:Int)).map V.int:=by rw[cp];rfl
 rw[g,q];exact lO _
theorem Z6(S:Stat Z CX k c E B X){fz:Bool}{a:Ex}(O:OkE Z c E B X a){e:AO}(h:aa c (.rgl fz a) e=true):PE X e (tE X.K B (wpE Z (.rgl fz a) E)):=by
 let(x,p,x',p',e2,pos',pos,rfl,h'):=HF h;simp only[ae,a8]at h';let((((((U,h1),hm),e3),h2),hr),h3):=h';subst U e3;let(g1,g2):=dq h1;let(J,g2'):=dq h2;have L:=S.blt _ (bm.mp hm);have N:=S.blt _ (bm.mp hr);have hs:=cH e2 [] X.env (dm (b8 a h3));show peI (iB (VG S.calm) (S.glo _ g1) L vo (eE (Di (S.glo _ J) N (eE (O h3) fQ hs) hs) fQ rfl) (cO g2) (cz g2) rfl rfl) λW H Q hq=>el hq λY F G e0 he r hw=>?_;rw[wZ]at hw;show aP e0 he r hw λd G1 H1 F1 v q U x1 he1 r1 rv=>?_;split at q
 .rename_i n;have ev:v=.int n:=rv;subst ev;let((h0,hn),q):=q;let(m,rfl):=ck h0;show⟨_,rfl,λrr g=>⟨rr,m,rfl,cU,!0,λl hl=>?_⟩⟩;have xn:=di (o:=.rng 0 m) r1 g;exact d7 (dI (λd G' z=>PV.later z (x1.trans xn)) q) (r1.new g) (Il m) l hl
 .exact q.elim
theorem Z7(S:Stat Z CX k c E B X){a:Ex}(N:OkE Z c E B X a){e:AO}(h:aa c (.rgt a) e=true):PE X e (tE X.K B (wpE Z (.rgt a) E)):=by
 let(x,p,x',p',e2,pos',pos,rfl,h'):=HJ h;simp only[ae,a8]at h';let((((((O,h1),hm),e3),h2),hr),h3):=h';subst O e3;let(g1,U):=dq h1;let(z,g2'):=dq h2;have J:=S.blt _ (bm.mp hm);have L:=S.blt _ (bm.mp hr);have hs:=cH e2 [] X.env (dm (b8 a h3));show peI (iB (VH S.calm) (S.glo _ g1) J (by ac_rfl) (eE (Di (S.glo _ z) L (eE (N h3) fQ hs) hs) fQ rfl) (cO U) (cz U) rfl rfl) λW H Q hq=>el hq λY F G e0 he r hw=>?_;rw[xf]at hw;show aP e0 he r hw λd G1 H1 F1 v q O x1 he1 r1 rv=>?_;split at q
 .rename_i n;have ev:v=.int n:=rv;subst ev;let((h0,hn),q):=q;let(m,rfl):=ck h0;show⟨_,rfl,λrr g=>⟨rr,m,rfl,cU,!0,λl hl=>?_⟩⟩;have xn:=di (o:=.rng 0 m) r1 g;exact lJ (PV.later q (x1.trans xn)) (r1.new g) (Il m) l hl
 .exact q.elim
theorem Z8{t:AL}(h:fX t=true):bootBuiltins (⇑t)=-(.type t):=by
 simp only[fX,dL,a8]at h;rcases h with(((rfl|rfl)|rfl)|rfl)|rfl
 .exact Vc
 .exact CQ
 .exact CW
 .ac_rfl
 .exact vo
theorem Z9(S:Stat Z CX k c E B X){a:Ex}{t:AL}(iha:OkE Z c E B X a){e:AO}(h:aa c (.isi a t) e=true):PE X e (tE X.K B (wpE Z (.isi a t) E)):=by
 replace h:=HB h;let(x,p,v,y,p2,pos,rfl,h):=h
 .simp only[ae,a8]at h;let(((((((e1,h1),J),h2),e2),h3),L),g):=h;subst e1 e2;let(g1,g2):=dq h1;let(g3,g4):=dq h3;have N:=S.blt _ (bm.mp J);have O:=S.blt _ (bm.mp L);have U:PE X (.Name (⇑t) p2) (tC (.ty t)):=Ve (S.glo _ g3) O (Z8 g) (cO g4) (cz g4);have sv:=dm (b8 a h2);show peI (iz Vb (S.glo _ g1) N Vd (eE (iha h2) (eE U fQ (cH _ _ _ rfl)) (cH _ _ _ sv)) (cO g2) (cz g2) (cH _ _ _ sv) rfl) λW H Q hq=>el hq λY F G e0 he r hw=>?_;rw[wX]at hw;show aP e0 he r hw λd G1 H1 F1 v q e1 x1 he1 r1 rv=>?_;split at q
  .rename_i b hb;let(T,hk,hT,z):=YB hb;show⟨v,t,.type T,b,rfl,Yx r1 rv hk,?_,q _ _ _ x1 r1 rfl⟩;rw[Yz T t hT g,z g]
  .exact q.elim
theorem Im{v:AO}(h:(!iR v)=true)(name:Str)(env:Env):attributeBase v name env (eval v env)=eval v env:=by
 cases v with
 |Call f args g pos=>
  cases f with
  |Name id p=>
   cases args with
   |nil=>
    cases g with
    |nil=>cases h
    |cons _ _=>rfl
   |cons _ _=>rfl
  |_=>rfl
 |_=>rfl
theorem all_plain{es:AE}{xs:Exs}(h:aO c xs es=true)(env:Env)(pos:Pos):(backTo pos (starEach es env)).all (λx=>!x.1)=true:=by
 induction es generalizing xs with
 |nil=>rfl
 |cons e es z=>
  let(J,L,rfl,g,q):=lZ h;rw[cH e es env (dm (b8 J g))];change(!false&&(backTo pos (starEach es env)).all (λx=>!x.1))=true;rw[z q];rfl
theorem aaa(S:Stat Z CX k c E B X){o:Ex}(g:OkE Z c E B X o){e:AO}(h:aa c (.clr o) e=true):PE X e (tE X.K B (wpE Z (.clr o) E)):=by
 let(v,n,apos,cpos,rfl,hh):=HN h;rw[ae,ae,ae,a8]at hh;let(((U,hb),hl),ho):=hh;subst U;show peI (Uw gu PySem.F.slot_list_clear PySem.F.type_list_clear YJ (g ho) (Im hb _ X.env) hl) λW H Q hq=>el hq λY F G N he r hw=>?_;rw[w5]at hw;show aP N he r hw λd G1 H1 L u q e1 x1 he1 z J=>⟨?_,L,G1,d,z,J,rfl,?_⟩
 .unfold fY at q;split at q
  .rename_i p;split at q
   .rename_i ds hg;let(vs,hv,_):=z.lst hg;have O:u=.ref p:=J;subst O;exact .inl ⟨rfl,vs,SqL.of hv⟩
   .exact q.elim
  .exact q.elim
 .unfold fY at q ⊢;split at q
  .split at q
   .exact PV.later q x1
   .exact q
  .exact q
theorem aab(S:Stat Z CX k c E B X){m:Mf}{o:Ex}{xs:Exs}(iho:OkE Z c E B X o)(ih:gQ Z c E B X xs){e:AO}(h:aa c (.mth m o xs) e=true):PE X e (tE X.K B (wpE Z (.mth m o xs) E)):=by
 replace h:=HQ h;let(v,x,apos,args,cpos,rfl,h):=h
 .simp only[ae,a8,dc]at h;let((((((e1,h1),hb),hl),hn),h2),h3):=h;subst e1;cases args with
  |nil=>cases h2
  |cons e es=>
   let(x0,xs',rfl,c1,c2):=lZ h3;have hs:=cH e es X.env (dm (b8 x0 c1));have ha:=tH c2 X.env cpos;have g:=Im hb (⇑m.name) X.env;have U:((backTo cpos (starEach (e::es) X.env)).all (λx=>!x.1)&&(backToKw cpos (keywordEach [] X.env)).all (λx=>x.1.isSome)
    &&decide ((e::es)⁻¹+([]:List Keyword)⁻¹+(if([]:List Keyword).isEmpty then 0 else 1)<30))=true:=by
    rw[all_plain h3 X.env cpos];have:(e::es)⁻¹+([]:List Keyword)⁻¹+(if([]:List Keyword).isEmpty then 0 else 1)<30:=by have e0:(if([]:List Keyword).isEmpty=true then 0 else 1)=0:=rfl;rw[e0];change(e::es)⁻¹+0+0<30;lia
    rw[b9 this];rfl
   have J:(apos.endLine==cpos.line)=true:=by rw[a8];exact hl
   have lst:∀{d:D} {u:V} {G1:DH} {H1:Hp} {F1:FZ},(match d with |.ref p=>(match G1 p with|some (.lst _)=>True|_=>False)|_=>False)->R X.K H1 F1 G1->Rep X.K H1 F1 d u->tyV X.K "list" u H1:=λ{d u G1 H1 F1} q r1 O=>by
    split at q
    .rename_i p;split at q
     .rename_i ds hg;let(vs,hv,_):=r1.lst hg;have e2:u=.ref p:=O;subst e2;exact .inl ⟨rfl,vs,SqL.of hv⟩
     .exact q.elim
    .exact q.elim
   have lstV:∀{d:D} {u:V} {G1:DH} {H1:Hp} {F1:FZ},Xo (view G1 d)->R X.K H1 F1 G1->Rep X.K H1 F1 d u->tyV X.K "list" u H1:=λ{d u G1 H1 F1} q r1 O=>by
    generalize hv:view G1 d=w at q;cases w with
    |lst ds=>
     let(a,vs,rfl,sq,_):=Rep.list r1 O hv;exact .inl ⟨rfl,vs,sq⟩
    |_=>exact(show False from q).elim
   cases m with
   |join=>
    show peI (qN PySem.F.plainAttrs_str PySem.F.slot_str_join PySem.F.type_str_join YC (iho h1) (ih h3) g U J hs ha) λW H Q hq=>el hq λY F G e0 he r hw=>?_;rw[iJ]at hw;show aP e0 he r hw λd G1 H1 F1 u q e1 x1 L r1 O=>⟨?_,dU e1 L r1 q.2 λds G2 H2 F2 vs q e2 x2 he2 r2 N=>?_⟩
    .have q1:=q.1;cases d with
     |str l=>let(e2,_):=O;subst e2;exact rfl
     |_=>exact(show False from q1).elim
    .exact ⟨F2,G2,d,ds,r2,Rep.ext x2 O,N,jE (λd G' z=>PV.later z (x1.trans x2)) q⟩
   |append=>
    show peI (qN gu PySem.F.slot_list_append PySem.F.type_list_append YD (iho h1) (ih h3) g U J hs ha) λW H Q hq=>el hq λY F G e0 he r hw=>?_;rw[iJ]at hw;show aP e0 he r hw λd G1 H1 F1 u q e1 x1 L r1 O=>⟨?_,dU e1 L r1 q.2 λds G2 H2 F2 vs q e2 x2 he2 r2 N=>?_⟩
    .show lst (d:=d) (G1:=G1) ?_ r1 O;have q1:=q.1;cases d<;>first|exact q1|exact(show False from q1).elim
    .exact ⟨F2,G2,d,ds,r2,Rep.ext x2 O,N,jE (λd G' z=>PV.later z (x1.trans x2)) q⟩
   |extend=>
    show peI (qN gu PySem.F.slot_list_extend PySem.F.type_list_extend YL (iho h1) (ih h3) g U J hs ha) λW H Q hq=>el hq λY F G e0 he r hw=>?_;rw[iJ]at hw;show aP e0 he r hw λd G1 H1 F1 u q e1 x1 L r1 O=>⟨?_,dU e1 L r1 q.2 λds G2 H2 F2 vs q e2 x2 he2 r2 N=>?_⟩
    .show lst (d:=d) (G1:=G1) ?_ r1 O;have q1:=q.1;cases d<;>first|exact q1|exact(show False from q1).elim
    .exact ⟨F2,G2,d,ds,r2,Rep.ext x2 O,N,jE (λd G' z=>PV.later z (x1.trans x2)) q⟩
   |pop=>
    show peI (qN gu PySem.F.slot_list_pop PySem.F.type_list_pop YG (iho h1) (ih h3) g U J hs ha) λW H Q hq=>el hq λY F G e0 he r hw=>?_;rw[iJ]at hw;show aP e0 he r hw λd G1 H1 F1 u q e1 x1 L r1 O=>⟨?_,dU e1 L r1 q.2 λds G2 H2 F2 vs q e2 x2 he2 r2 N=>?_⟩
    .show lst (d:=d) (G1:=G1) ?_ r1 O;have q1:=q.1;cases d<;>first|exact q1|exact(show False from q1).elim
    .exact ⟨F2,G2,d,ds,r2,Rep.ext x2 O,N,jE (λd G' z=>PV.later z (x1.trans x2)) q⟩
   |idxT=>
    show peI (Wy PySem.F.plainAttrs_tuple PySem.F.slot_tuple_index PySem.F.type_tuple_index YF (iho h1) (ih h3) g U J hs ha) λW H Q hq=>el hq λY F G e0 he r hw=>?_;rw[iJ]at hw;show aP e0 he r hw λd G1 H1 F1 u q e1 x1 L r1 O=>⟨?_,dU e1 L r1 q.2 λds G2 H2 F2 vs q e2 x2 he2 r2 N=>?_⟩
    .have q1:=q.1;cases d with
     |tup l=>let(a,vs,e,q,_):=O;exact⟨a,vs,e,q.it⟩
     |_=>exact(show False from q1).elim
    .exact ⟨F2,G2,d,ds,r2,Rep.ext x2 O,N,jE (λd G' z=>PV.later z (x1.trans x2)) q⟩
end
section
variable {Z:aj} {CX:CXT} {k:Nat} {c:CT} {E:EK} {B:Bs} {X:Cx}
def EachE(Z:aj)(c:CT)(E:EK)(B:Bs)(X:Cx):Exs->Prop
 |.nil=>True
 |.cons e es=>OkE Z c E B X e/\EachE Z c E B X es
def tM(Z:aj)(c:CT)(E:EK)(B:Bs)(X:Cx):Txs->Prop
 |.nil=>True
 |.cons e es=>OkT Z c E B X e/\tM Z c E B X es
theorem EachE.oks:∀{xs:Exs},EachE Z c E B X xs->gQ Z c E B X xs
 |.nil,_=>λh=>yw h
 |.cons x xs,hh=>λh=>tD hh.1 (EachE.oks hh.2) h
def tQ(Z:aj)(E:EK)(isAnd:Bool)(x:Ex)(xs:Exs):ak->DH->(AT)->Prop:=λY G g=>wpE Z x E Y G λd G1=>match d with |.bl b=>wpB Z xs isAnd b E Y G1 g|d=>jB xs (g d G1)
theorem Io{isAnd:Bool}{pos:Pos}:∀(xs:Exs){x:Ex},OkE Z c E B X x->EachE Z c E B X xs->∀{v:AO}{vs:AE},aa c x v=true->aO c xs vs=true->
  PE X (.BoolOp (if isAnd then .And else .Or) (v::vs) pos) (tE X.K B (tQ Z E isAnd x xs))
 |.nil,x,ih,_,v,vs,h1,h2=>by
  unfold aO at h2;cases vs with
  |nil=>
   show peI (Rn (ih h1)) λW H Q U=>el U λY F G O he r hw=>?_;unfold tQ at hw;show aP O he r hw λd G1 H1 F1 u q e1 g J L N=>?_;split at q
   .rw[ww]at q;exact q _ _ _ g L N
   .exact (show PV X.K H F Q _ _ from q) _ _ _ g L N
  |cons _ _=>cases h2
 |.cons y ys,x,ih,hh,v,vs,h1,h2=>by
  unfold aO at h2;split at h2
  .rename_i w ws;rw[ae]at h2;have rest:=Io (isAnd:=isAnd) (pos:=pos) ys hh.1 hh.2 h2.1 h2.2;cases isAnd with
   |true=>
    show peI (Ro (ih h1) rest) λW H Q U=>el U λY F G O he r hw=>?_;unfold tQ at hw;show aP O he r hw λd G1 H1 F1 u q e1 g J L N=>?_;split at q
    .rename_i b;show⟨b,N,?_⟩;rw[rM]at q;cases b with
     |true=>
      rw[if_pos rfl];exact⟨Y,F1,G1,e1,J,L,aM y (λd G' z=>by
       cases d<;>first|exact rW ys (λc G2 z=>PV.later z g) z|exact xQ ys (λz=>PV.later z g) z) q⟩
     |false=>
      rw[if_neg bB];exact q _ _ _ g L rfl
    .exact q.elim
   |false=>
    show peI (Rp (ih h1) rest) λW H Q U=>el U λY F G O he r hw=>?_;unfold tQ at hw;show aP O he r hw λd G1 H1 F1 u q e1 g J L N=>?_;split at q
    .rename_i b;show⟨b,N,?_⟩;rw[rM]at q;cases b with
     |false=>
      rw[if_neg bB];exact⟨Y,F1,G1,e1,J,L,aM y (λd G' z=>by
       cases d<;>first|exact rW ys (λc G2 z=>PV.later z g) z|exact xQ ys (λz=>PV.later z g) z) q⟩
     |true=>
      rw[if_pos rfl];exact q _ _ _ g L rfl
    .exact q.elim
  .cases h2
theorem aac{isAnd:Bool}{x:Ex}{xs:Exs}(L:OkE Z c E B X x)(hh:EachE Z c E B X xs){e:AO}(h:aa c (.boo isAnd x xs) e=true):PE X e (tE X.K B (wpE Z (.boo isAnd x xs) E)):=by
 replace h:=Ho h;let(_,_,_,_,rfl,h):=h
 .simp only[ae,a8]at h;let((q,h1),h2):=h;subst q;show peI (Io xs L hh h1 h2) λW H Q J=>el J λY F G g he r hw=>⟨Y,F,G,g,he,r,?_⟩;rw[wL]at hw;show aM x (λd G1 z=>?_) hw;split at z
  .exact z
  .exact z.elim
theorem aad{t:Tx}{a b:Ex}(N:OkT Z c E B X t)(J:OkE Z c E B X a)(L:OkE Z c E B X b){e:AO}(h:aa c (.ife t a b) e=true):PE X e (tE X.K B (wpE Z (.ife t a b) E)):=by
 replace h:=Hq h;let(_,_,_,_,rfl,h):=h
 .simp only[ae]at h;let((h1,h2),h3):=h;show peI (Rq (N h1) (J h2) (L h3)) λW H Q hq=>el hq λY F G e0 he r hw=>?_;rw[wM]at hw;show iV e0 he r hw λb' G1 H1 O q U x1 g r1=>?_;cases b' with
  |true=>
   rw[if_pos rfl];exact⟨Y,O,G1,U,g,r1,aM a (λd G' z=>PV.later z x1) q⟩
  |false=>
   rw[if_neg bB];exact⟨Y,O,G1,U,g,r1,aM b (λd G' z=>PV.later z x1) q⟩
theorem aae{x:Ex}(U:OkE Z c E B X x){e:AO}(N:iT e=true)(h:aa c x e=true):PT X e (tB' X.K B (wpT Z (.val x) E)):=by
 show ptI (Ti (U h) (ZC N X.env)) λW H Q O=>el O λY F G z he r hw=>?_;rw[lC]at hw;show aP z he r hw λd G1 H1 F1 u q e1 x1 L g ru=>?_;split at q
 .rename_i b J;exact⟨b,Gg g ru J,q _ _ x1 g⟩
 .exact q.elim
theorem aaf{t:Tx}(L:OkT Z c E B X t){e:AO}(h:bK c (.not t) e=true):PT X e (tB' X.K B (wpT Z (.not t) E)):=by
 replace h:=Zi h;let(_,_,rfl,h):=h
 .show ptI (Rj (L h)) λW H Q J=>el J λY F G g he r hw=>?_;rw[wj]at hw;exact iV g he r hw λb G1 H1 U q e1 O z N=>q _ _ O N
def mj(Z:aj)(E:EK)(isAnd:Bool)(x:Tx)(xs:Txs):ak->DH->(Bool->DH->Prop)->Prop:=λY G g=>wpT Z x E Y G λb G1=>fZ Z xs isAnd b E Y G1 g
theorem Ip{isAnd:Bool}{pos:Pos}:∀(xs:Txs){x:Tx},OkT Z c E B X x->tM Z c E B X xs->∀{v:AO}{vs:AE},bK c x v=true->iU c xs vs=true->
  PW X (.BoolOp (if isAnd then .And else .Or) (v::vs) pos) (tB' X.K B (mj Z E isAnd x xs))
 |.nil,x,ih,_,v,vs,h1,h2=>by
  unfold iU at h2;cases vs with
  |nil=>
   have go:∀W H Q,tB' X.K B (mj Z E isAnd x .nil) W H Q->tB' X.K B (wpT Z x E) W H Q:=λW H Q L=>el L λY F G J he r hw=>by
    unfold mj at hw;show⟨Y,F,G,J,he,r,dF x (λb G1 q=>?_) hw⟩;rw[wy]at q;exact q
   cases isAnd with
   |true=>exact pwI (Rf (ih h1)) go
   |false=>exact pwI (Rg (ih h1)) go
  |cons _ _=>cases h2
 |.cons y ys,x,ih,hh,v,vs,h1,h2=>by
  unfold iU at h2;split at h2
  .rename_i w ws;rw[ae]at h2;have rest:=Ip (isAnd:=isAnd) (pos:=pos) ys hh.1 hh.2 h2.1 h2.2;cases isAnd with
   |true=>
    show pwI (Rh (ih h1) rest) λW H Q L=>el L λY F G J he r hw=>?_;unfold mj at hw;show iV J he r hw λb G1 H1 U q e1 O g N=>?_;rw[rN]at q;cases b with
    |true=>
     rw[if_pos rfl];exact⟨Y,U,G1,e1,g,N,dF y (λb' G' z=>rY ys (λc G2 z=>PB.later z O) z) q⟩
    |false=>
     rw[if_neg bB];exact q _ _ O N
   |false=>
    show pwI (Ri (ih h1) rest) λW H Q L=>el L λY F G J he r hw=>?_;unfold mj at hw;show iV J he r hw λb G1 H1 U q e1 O g N=>?_;rw[rN]at q;cases b with
    |false=>
     rw[if_neg bB];exact⟨Y,U,G1,e1,g,N,dF y (λb' G' z=>rY ys (λc G2 z=>PB.later z O) z) q⟩
    |true=>
     rw[if_pos rfl];exact q _ _ O N
  .cases h2
theorem aag{isAnd:Bool}{x:Tx}{xs:Txs}(J:OkT Z c E B X x)(hh:tM Z c E B X xs){e:AO}(h:bK c (.boo isAnd x xs) e=true):PT X e (tB' X.K B (wpT Z (.boo isAnd x xs) E)):=by
 replace h:=Zj h;let(_,_,_,_,rfl,h):=h
 .simp only[ae,a8]at h;let((q,h1),h2):=h;subst q;show ptI (PW.pt (Ip xs J hh h1 h2)) λW H Q z=>el z λY F G g he r hw=>⟨Y,F,G,g,he,r,?_⟩;rw[wk]at hw;exact hw
def tG(K:PF)(B:Bs)(t:Tg):TG:=λv X H Q=>∃Y F G d,Ext B.H B.F H F/\EnvR K H F Y X/\R K H F G/\Rep K H F d v/\bA t d Y G (λq=>∀g,EnvR K H F q g->Q g H)
def tGs(K:PF)(B:Bs)(t:Tgs):TGs:=λvs X H Q=>∃Y F G ds,Ext B.H B.F H F/\EnvR K H F Y X/\R K H F G/\Reps K H F ds vs/\bY t ds Y G (λq=>∀g,EnvR K H F q g->Q g H)
theorem tR:∀{ts:Tgs}{es:AE}{env:Env},cN c ts es=true->(assignEach es env)⁻¹=es⁻¹/\(assignEach es env).findIdx? (·.1)=none/\(assignEach es env).map (·.2)=es.map λe=>assign e env
 |.nil,[],env,_=>⟨rfl,rfl,rfl⟩
 |.nil,_::_,env,h=>by unfold cN at h;cases h
 |.cons t r,[],env,h=>by unfold cN at h;cases h
 |.cons t r,e::es,env,h=>by
  unfold cN at h;rw[ae]at h;let(h1,h2,g):=tR (env:=env) h.2;have hs:assignEach (e::es) env=(false,assign e env)::assignEach es env:=by
   cases t with
   |nm i=>
    have h':=h.1;let(_,_,rfl,_):=yt h';rfl
   |tp ts=>
    have h':=h.1;let(_,_,_,rfl,_):=yu h';rfl
  rw[hs];show⟨by simp[h1],?_,by simp[g]⟩;rw[eL];simp[h2]
section
variable {prog:AK} {w:World} {A:AM} {E:AG} {s:AI}
theorem Ir{it t:AQ}{g:Array AN}(O:t≠it):∀(n i:Nat)(s:AI)(Q:AB->AI->Prop),s.heap.IsListIter it t i->s.heap.IsList t g->i+n<=g.size->
  (∀h',h'.IsListIter it t (i+n)->Heap.SameBut it s.heap h'->Q ((g.toList.drop i).take n) {s with heap:=h'})->wpAny (model prog w) A (draw (.ref it) n) Q E s
 |0,i,s,Q,hit,_,_,hQ=>by
  change wpAny _ _ (pure []) Q E s;exact aw (by simpa using hQ s.heap hit (Heap.SameBut.refl ..))
 |n+1,i,s,Q,hit,ht,hle,hQ=>by
  have N:i<g.size:=by lia
  change wpAny _ _ (pyNext (.ref it) >>= _) Q E s;show ab (wpAny_pyNext_list_item hit ht (x:=g[i]) (by simp[N]) λY z q=>?_);show ab (de (Ir O n (i+1) _ _ z (ht.extBut q.extBut O) (!0) λU J L=>aw ?_));have hd:g.toList.drop i=g[i]::g.toList.drop (i+1):=by simp[bg,N]
  have:=hQ U (by rw[show i+(n+1)=i+1+n by lia];exact J) (q.trans L);rw[hd,List.take_succ_cons]at this;exact this
theorem aah{t:AQ}{g:Array AN}{Q:AB->AI->Prop}(hh:A.handled=none)(U:s.heap.IsList t g)
  (hQ:∀h',Heap.ExtBut (~~~s) s.heap h'->Q g.toList {s with heap:=h'}):wpAny (model prog w) A (unpackItems (.ref t) g.size none) Q E s:=by
 have O:t≠(~~~s):=by let(o,ho,_):=U;exact bv (aE ho)
 unfold unpackItems;show ab ?_;unfold notIterableAtAll;show ab (wpAny_specialOf U.typeIs PySem.F.slot_list_iter.lookup ?_);show aw ?_;simp only[Bool.false_eq_true,if_false];show ab (de (eT U ?_));show ab (de (Ir O g.size 0 _ _ ⟨_,aT _ rfl,rfl,rfl⟩ (U.push _) (!0) λY z q=>?_));have N:List.take g.size (List.drop 0 g.toList)=g.toList:=by rw[List.drop_zero];exact fq (!2)
 rw[N];rw[if_neg (!2)];have L:Y.IsList t g:=(U.push _).extBut q.extBut O;show ab (de (wpAny_pyNext_list_end hh z L (!2) λh₂ J=>?_));simp only[Option.isSome_none,Bool.false_eq_true,if_false];show aw (hQ h₂ λb o hb e=>J b o hb (q.extBut b o hb (ag _ e)))
theorem aai{env:Env}{q:AE}{x1}{pos:Pos}{t:AQ}{g:Array AN}{Q:Unit->AI->Prop}(hh:A.handled=none)(J:s.heap.IsList t g)
  (hn:(assignEach q env)⁻¹=g.size) (z:(assignEach q env).findIdx? (·.1)=none)
  (h:∀h',Heap.ExtBut (~~~s) s.heap h'->wpAny (model prog w) A (assignInOrder ((assignEach q env).map (·.2)) g.toList) Q E {s with heap:=h'}):
  wpAny (model prog w) A (assign (.Tuple q x1 pos) env (.ref t)) Q E s:=by
 rw[assign_Tuple];show ab (gx ?_);unfold unpack;rw[hn,z];exact ab (de (aah hh J h))
end
section
variable {X:Cx} {pos:Pos}
def aaj(K:PF)(n:Nat)(t:TGs):TG:=λv Y H Q=>∃a xs,v=.ref a/\SqL K H a xs/\xs⁻¹=n/\t xs Y H Q
theorem aak{es:AE}{k:Nat}{t:TGs}{n:Nat}(hc:X.calm=true)(h:PGs X es t)
  (hn:(assignEach es X.env)⁻¹=n:=by rfl) (g:(assignEach es X.env).findIdx? (·.1)=none:=by rfl):PG X (.Tuple es k pos) (aaj X.K n t):=by
 intro p9 s Y H v u Q I r hw;let(a,xs,J,L,hl,hw):=hw;subst J;cases r;let(O,q,U,hz):=I.list L;show aai (I.ok.hd hc) U.isList (by simp[hn,<-hl,q⁻¹]) g λh' N=>?_;have z:Inv X p9 Y H {s with heap:=h'}:=I.kept (t':=s.toks) λb o e=>N b o (bv (aE e)) e;exact h p9 _ Y H xs _ Q z (!!q) hw
end
set_option tactic.hygienic true in
mutual
theorem tU(S:Stat Z CX k c E B X):∀(t:Tg){e:AO},cX c t e=true->PG X e (tG X.K B t)
 |.nm i,e,h=>by
  replace h:=yt h;let(x,pos,rfl,h):=h
  .skip;rw[ae,a8]at h;let(l,f):=S.sto x h.2;intro p9 s W H v u Q I rv q;show RT (i:=i) S.nd (by rw[S.N];exact h.1) l f p9 s W H v u Q I rv ?_;let(Y,F,G,d,e0,he,r,rd,hw):=q;unfold bA at hw;exact hw _ (he.set rd i)
 |.tp ts,e,h=>by
  replace h:=yu h;let(es,kk,pos,rfl,h):=h
  .skip;let(h1,h2,h3):=tR (env:=X.env) h;intro p9 s W H v u Q I rv q;let(Y,F,G,d,e0,he,r,rd,hw):=q;unfold bA at hw;split at hw
   .rename_i ds;show R1 (n:=es⁻¹) S.calm (yx S ts h) h1 h2 p9 s W H v u Q I rv ?_;let(a,vs,e1,q,t):=rd;show⟨a,vs,e1,q.sq,?_,Y,F,G,ds,e0,he,r,t,hw⟩;rw[<-t⁻¹];exact yz ts h hw
   .rename_i ds;show aak (n:=es⁻¹) S.calm (yx S ts h) h1 h2 p9 s W H v u Q I rv ?_;let(a,vs,e1,q,t):=rd;show⟨a,vs,e1,q.sq,?_,Y,F,G,ds,e0,he,r,t,hw⟩;rw[<-t⁻¹];exact yz ts h hw
   .exact hw.elim
theorem yx(S:Stat Z CX k c E B X):∀(ts:Tgs){es:AE},cN c ts es=true->PGs X es (tGs X.K B ts)
 |.nil,es,h=>by
  unfold cN at h;cases es with
  |nil=>
   intro p9 s W H vs us Q I rv q;show RX p9 s W H vs us Q I rv ?_;let(Y,F,G,ds,e0,he,r,rd,hw):=q;unfold bY at hw;split at hw
   .exact ⟨rd,hw _ he⟩
   .exact hw.elim
  |cons _ _=>cases h
 |.cons t r,es,h=>by
  unfold cN at h;split at h
  .rename_i e es;rw[ae]at h;intro p9 s W H vs us Q I rv q;have hs:(assignEach (e::es) X.env).map (·.2)=assign e X.env::(assignEach es X.env).map (·.2):=by
    have hh:cN c (.cons t r) (e::es)=true:=by unfold cN;change(cX c t e&&cN c r es)=true;rw[h.1,h.2];rfl
    rw[(tR (env:=X.env) hh).2.2,(tR (env:=X.env) h.2).2.2];rfl
   show RZ (tU S t h.1) (yx S r h.2) hs p9 s W H vs us Q I rv ?_;let(Y,F,G,ds,e0,he,rr,rd,hw):=q;unfold bY at hw;split at hw
   .rename_i d ds;let(v,vs',e1,rd1,rds):=rd;show⟨v,vs',e1,Y,F,G,d,e0,he,rr,rd1,gb (λρ' z σ' he'=>?_) t hw⟩;exact⟨ρ',F,G,ds,e0,he',rr,rds,z⟩
   .exact hw.elim
  .cases h
theorem yz{G:DH}:∀(ts:Tgs){es:AE}{ds:AS}{Y:ak}{Q:ak->Prop},cN c ts es=true->bY ts ds Y G Q->ds⁻¹=es⁻¹
 |.nil,es,ds,Y,Q,h,q=>by
  unfold cN at h;unfold bY at q;split at q
  .cases es with
   |nil=>rfl
   |cons _ _=>cases h
  .exact q.elim
 |.cons t r,es,ds,Y,Q,h,q=>by
  unfold cN at h;split at h
  .rw[ae]at h;unfold bY at q;split at q
   .rename_i d ds;have:∃ρ',bY r ds ρ' G Q:=Iu t q;let(ρ',q'):=this;have:=yz r h.2 q';simp[this]
   .exact q.elim
  .cases h
theorem Iu{G:DH}:∀(t:Tg){d:D}{Y:ak}{Q:ak->Prop},bA t d Y G Q->∃ρ',Q ρ'
 |.nm i,d,Y,Q,q=>⟨_,q⟩
 |.tp ts,d,Y,Q,q=>by
  unfold bA at q;split at q
  .exact yC ts q
  .exact yC ts q
  .exact q.elim
theorem yC{G:DH}:∀(ts:Tgs){ds:AS}{Y:ak}{Q:ak->Prop},bY ts ds Y G Q->∃ρ',Q ρ'
 |.nil,ds,Y,Q,q=>by
  unfold bY at q;split at q
  .exact ⟨_,q⟩
  .exact q.elim
 |.cons t r,ds,Y,Q,q=>by
  unfold bY at q;split at q
  .let(ρ',q'):=Iu t q;exact yC r q'
  .exact q.elim
end
end
structure WalkJ(K:PF)(H:Hp)(F:FZ)(items:AS)(g:Hld)(J:It):Prop where
 go:∀H' F' G i,Ext H F H' F'->R K H' F' G->held g G->i < items.length->J.go i H'
 stop:∀H' F' G,Ext H F H' F'->R K H' F' G->held g G->J.stop items.length H'
 yld:∀H' F' i x H'' d G,Ext H F H' F'->R K H' F' G->held g G->items[i]?=some d->J.yld i H' x H''->Ext H' F' H'' F'/\R K H'' F' G/\Rep K H'' F' d x
section
variable {K:PF} {H:Hp} {F:FZ}
structure Src(K:PF)(H:Hp)(F:FZ)(u:AN)(ds:AS)(g:Hld)(k:SK):Prop where
 val:k.val=u
 sat:∀H' F' G,Ext H F H' F'->R K H' F' G->held g G->∃vs,k.Sat H' vs/\Reps K H' F' ds vs
theorem tV{d:D}{v:V}{u:AN}{G:DH}{ds:AS×Hld}(h:Rep K H F d v)(r:RelV v u)(e:itemsOf G d=-ds):∃k,Src K H F u ds.1 ds.2 k:=by
 cases d with
 |lst xs=>
  simp only[itemsOf,ba]at e;subst e;let(a,vs,g,q,t):=h;subst g;have z:u=Value.ref a:=r;subst z;exact⟨.lst a,rfl,λH' F' J x y y=>⟨vs,(FzL.ext x q).2,Reps.ext x t⟩⟩
 |tup xs=>
  simp only[itemsOf,ba]at e;subst e;let(a,vs,g,q,t):=h;subst g;have z:u=Value.ref a:=r;subst z;exact⟨.tup a,rfl,λH' F' J x y y=>⟨vs,(TpT.ext (K:=K) x q).it,Reps.ext x t⟩⟩
 |str l=>
  simp only[itemsOf,ba]at e;subst e;let(g,hl):=h;subst g;obtain⟨t,z⟩:∃t,u=Value.str (tx l) t:=r;subst z;exact⟨.str (tx l) t,rfl,λH' F' J x y y=>⟨_,rfl,by simpa using yd l⟩⟩
 |ref p=>
  simp only[itemsOf]at e;split at e
  .rename_i xs N;simp only[ba]at e;subst e;have g:v=.ref p:=h;subst g;have z:u=Value.ref p:=r;subst z;exact⟨.lst p,rfl,λH' F' J x L hh=>L.lst hh.1⟩
  .cases e
 |_=>cases e
theorem tW{G:DH}{d:D}{ds:AS×Hld}(e:itemsOf G d=-ds):held ds.2 G:=by
 cases d with
 |ref p=>
  simp only[itemsOf]at e;split at e
  .rename_i xs g;simp only[ba]at e;subst e;exact⟨g,trivial⟩
  .cases e
 |_=>simp only[itemsOf]at e;first | (cases e;done) | (simp only[ba]at e;subst e;exact trivial)
theorem aal{u:AN}{ds:AS}{g:Hld}{k:SK}(s:Src K H F u ds g k):WalkJ K H F ds g (Jk k) where
 go:=λH' F' G i x r hh hi=>by
  let(vs,h1,h2):=s.sat H' F' G x r hh;exact⟨vs,h1,by rw[<-h2⁻¹];exact hi⟩
 stop:=λH' F' G x r hh=>by
  let(vs,h1,h2):=s.sat H' F' G x r hh;exact⟨vs,h1,h2.length.symm⟩
 yld:=λH' F' i v J d G x r hh N y=>by
  let(e,O):=y;subst e;let(vs,h1,h2):=s.sat _ F' G x r hh;let(w,L,q):=h2.get N;have z:=O vs h1;rw[L]at z;cases z;exact⟨Ext.refl _ _,r,q⟩
theorem jL:∀(n:Nat)(ds:AS),(dY n ds)⁻¹=ds⁻¹
 |_,[]=>rfl
 |n,d::ds=>by simp[dY,jL (n+1) ds]
theorem jM:∀(n:Nat)(ds:AS)(i:Nat),(dY n ds)[i]?=(ds[i]?).map λd=>.tup [.int ((n+i:Nat):Int),d]
 |_,[],_=>by simp[dY]
 |n,d::ds,0=>by simp[dY]
 |n,d::ds,i+1=>by
  simp only[dY,List.getElem?_cons_succ];rw[jM (n+1) ds i];congr 1;funext d;rw[show n+1+i=n+(i+1) by lia]
theorem yD:∀(as bs:AS),(cC as bs)⁻¹=min as⁻¹ bs⁻¹
 |[],bs=>by simp[cC]
 |a::as,[]=>by simp[cC]
 |a::as,b::bs=>by simp[cC,yD as bs]
theorem Iv:∀(as bs:AS)(i:Nat)(d:D),(cC as bs)[i]?=-d->∃a b,as[i]?=-a/\bs[i]?=-b/\d=.tup [a,b]
 |[],bs,i,d,h=>by simp[cC]at h
 |a::as,[],i,d,h=>by simp[cC]at h
 |a::as,b::bs,0,d,h=>by simp[cC]at h;exact⟨a,b,rfl,rfl,h.symm⟩
 |a::as,b::bs,i+1,d,h=>by
  simp only[cC,List.getElem?_cons_succ]at h;let(x,y,h1,h2,g):=Iv as bs i d h;exact⟨x,y,!!h1,!!h2,g⟩
theorem aam{u:AN}{ds:AS}{g:Hld}{k:SK}(s:Src K H F u ds g k):WalkJ K H F (dY 0 ds) g (Je k) where
 go:=λH' F' G i x r hh hi=>by
  let(vs,h1,h2):=s.sat H' F' G x r hh;exact⟨vs,h1,by rw[<-h2⁻¹,<-jL 0];exact hi⟩
 stop:=λH' F' G x r hh=>by
  let(vs,h1,h2):=s.sat H' F' G x r hh;exact⟨vs,h1,by rw[jL];exact h2.length.symm⟩
 yld:=λH' F' i v U d G x r hh O y=>by
  let(vs,h1,h2):=s.sat H' F' G x r hh;let(T,y,J,z,q,hv):=y;subst z q;rw[jM]at O;let(d',L,Y):=aI.mp O;subst Y;let(w,z,N):=h2.get L;have q:=hv vs h1;rw[z]at q;cases q;show⟨di r J,r.new J,?_⟩;rw[Nat.zero_add];exact vQ r J (Reps.cons rfl (Reps.cons N Reps.nil))
theorem jN{g g':Hld}{G:DH}:held (g++g') G->held g G/\held g' G:=by
 induction g with
 |nil=>exact λh=>⟨trivial,h⟩
 |cons p r q=>
  intro h;let(h1,h2):=q h.2;exact⟨⟨h.1,h1⟩,h2⟩
theorem aan{u u':AN}{ds es:AS}{g g':Hld}{k l:SK}(s:Src K H F u ds g k)(s':Src K H F u' es g' l):WalkJ K H F (cC ds es) (g++g') (Jz k l) where
 go:=λH' F' G i x r hh hi=>by
  let(vs,h1,h2):=s.sat H' F' G x r (jN hh).1;let(L,q,J):=s'.sat H' F' G x r (jN hh).2;rw[yD]at hi;exact⟨vs,L,h1,q,by rw[<-h2⁻¹];lia,by rw[<-J⁻¹];lia⟩
 stop:=λH' F' G x r hh=>by
  let(vs,h1,h2):=s.sat H' F' G x r (jN hh).1;let(L,q,J):=s'.sat H' F' G x r (jN hh).2;exact⟨vs,L,h1,q,by rw[yD,<-h2⁻¹,<-J⁻¹];lia⟩
 yld:=λH' F' i v H'' d G x r hh hd y=>by
  let(T,y,z,Y,O,N,hv,hz):=y;subst O N;let(a,b,ha,hb,U):=Iv _ _ _ _ hd;subst U;let(vs,h1,h2):=s.sat H' F' G x r (jN hh).1;let(L,q,J):=s'.sat H' F' G x r (jN hh).2;let(w,O,rw'):=h2.get ha;let(w2,U,rw2):=J.get hb;have N:=hv vs h1;have e4:=hz L q;rw[O]at N;cases N;rw[U]at e4;cases e4;exact⟨di r Y,r.new Y,vQ r Y (Reps.cons rw' (Reps.cons rw2 Reps.nil))⟩
theorem aao(lo:Int)(n:Nat):WalkJ K H F (aX lo n) [] (Itr lo n) where
 go:=λH' F' G i x u u hi=>by change i<n;simpa [aX] using hi
 stop:=λH' F' G x u u=>by change n<=(aX lo n)⁻¹;simp[aX]
 yld:=λH' F' i v q d G x r u g y=>by
  let(z,J):=y;subst z J;show⟨Ext.refl _ _,r,?_⟩;unfold aX at g;rw[aS]at g;let(j,N,L):=aI.mp g;have:j=i:=by have:=ai.mp N;let(h1,h2):=this;simpa using h2.symm
  subst this;subst L;rfl
end
def tI(K:PF)(B:Bs)(w:ak->DH->(AS->Hld->DH->Prop)->Prop):TI:=λX H L=>∃Y F G,Ext B.H B.F H F/\EnvR K H F Y X/\R K H F G/\
 w Y G (λq g z=>∀H' F' J,Ext H F H' F'->R K H' F' z->WalkJ K H' F' q g J->L J H')
section
variable {Z:aj} {CX:CXT} {k:Nat} {c:CT} {E:EK} {B:Bs} {X:Cx}
theorem tX{p9:AC}{Y:L2.St}{H:Hp}{s:AI}(I:Inv X p9 Y H s){q:SK}{vs:AR}(h:q.Sat H vs):∃g:Array AN,q.On g s.heap:=by
 cases q with
 |lst a=>let(g,_,z,_):=I.list (SqL.of (show H a=-_ from h));exact⟨g.toArray,z.isList⟩
 |tup a=>let(g,_,z,_):=I.tuple (SqT.of (show H a=-_ from h));exact⟨g.toArray,z⟩
 |str x t=>exact⟨#[],trivial⟩
theorem aap{x:Ex}(ih:OkE Z c E B X x){tg e:AO}(h:aa c x e=true):PI X tg e (tI X.K B (wpI Z (.seq x) E)):=by
 intro p9 s W H Rr I q;let(Y,F,G,e0,he,r,hw):=q;rw[wB]at hw;have q':tE X.K B (wpE Z x E) W H (λv H1=>∃z G1 d g,R X.K H1 z G1/\Rep X.K H1 z d v/\itemsOf G1 d=-g/\∀J,WalkJ X.K H1 z g.1 g.2 J->Rr J H1):=
  aP e0 he r hw λd G1 H1 z u q e1 x1 he1 U ru=>by
   split at q
   .rename_i ds O;exact⟨z,G1,d,ds,U,ru,O,λJ w=>q H1 z J x1 U w⟩
   .exact q.elim
 show thn (ih h p9 s W H _ I q') λu s1 zZ=>?_;let(v,H1,N,rv,z,G1,d,g,U,rd,O,q1):=zZ;let(kk,L):=tV rd rv O;let(vs,sat,_):=L.sat H1 z G1 (Ext.refl _ _) U (tW O);let(its,on):=tX N sat;rw[<-L.val];show SK.iter on ?_;show⟨s1.heap.objs.size,[s1.heap.objs.size],_,_,H1,rfl,N.kept (t':=s1.toks) λb o e=>ag _ e,YZ kk _,SK.pos0,λb hb=>?_,q1 _ (aal L)⟩;have e:b=s1.heap.objs.size:=by simpa using hb
 subst e;exact N.fpOk (av _) (N.hok.fresh (av _))
theorem aaq(S:Stat Z CX k c E B X){a:Ex}(ih:OkE Z c E B X a){tg e:AO}(h:cY c (.rng a) tg e=true):PI X tg e (tI X.K B (wpI Z (.rng a) E)):=by
 replace h:=HS h;let(_,_,_,_,rfl,h):=h
 .simp only[ae,a8]at h;let(((z,h1),hm),h2):=h;subst z;let(U,g2):=dq h1;have g:=S.blt _ (bm.mp hm);have hs:=cH _ [] X.env (dm (b8 a h2));intro p9 s W H L I q;show Sq (S.glo _ U) g (eE (ih h2) fQ hs) hs p9 s W H L I ?_;let(Y,F,G,N,he,r,hw):=q;rw[wC]at hw;show aP N he r hw λd G1 H1 J u q z x1 he1 r1 ru=>?_;split at q
  .rename_i n;have O:u=.int n:=ru;subst O;exact⟨n,rfl,q.1.1,q.1.2,q.2 H1 J _ x1 r1 (aao 0 n.toNat)⟩
  .exact q.elim
theorem aar(S:Stat Z CX k c E B X){a:Ex}(ih:OkE Z c E B X a){tg e:AO}(h:cY c (.enm a) tg e=true):PI X tg e (tI X.K B (wpI Z (.enm a) E)):=by
 replace h:=HW h;let(_,_,_,_,_,_,_,rfl,rfl,h):=h
 .skip
  .simp only[ae,a8]at h;let(((e1,h1),hm),h2):=h;subst e1;let(g1,g2):=dq h1;have hmg:=S.blt _ (bm.mp hm);have hs:=cH _ [] X.env (dm (b8 a h2));intro p9 s V H Rr I q;let(Y,F,G,e0,he,r,hw):=q;rw[wD]at hw;have q':tL X.K B (bC Z (.cons a .nil) E) V H (λvs H1=>∃v z G1 d g,vs=[v]/\R X.K H1 z G1/\Rep X.K H1 z d v/\itemsOf G1 d=-g/\∀J,WalkJ X.K H1 z (dY 0 g.1) g.2 J->Rr J H1):=by
    show dU (W:=λds G1=>∃d g,ds=[d]/\itemsOf G1 d=-g/\∀H' F' J,Ext H F H' F'->R X.K H' F' G1->WalkJ X.K H' F' (dY 0 g.1) g.2 J->Rr J H') e0 he r ?_ λds G1 H1 z vs q e1 x1 he1 r1 rvs=>?_
    .rw[iI];show aM a (λd G1 q=>?_) hw;rw[jC];split at q
     .rename_i g U;exact⟨d,g,rfl,U,q⟩
     .exact q.elim
    .let(d,g,e2,U,q):=q;subst e2;let(v,e3,rv):=bI rvs;exact⟨v,z,G1,d,g,e3,r1,rv,U,λJ w=>q H1 z J x1 r1 w⟩
   show Call_ (iw I (S.glo _ g1) hmg (u:=.type "enumerate") boot_enumerate (eS (thn (tD ih (λh=>yw h) (c:=c) (es:=[_]) (by unfold aO;change(aa c a _&&true)=true;rw[h2];rfl) _ p9 s V H _ I q') λus L zZ=>?_) hs rfl) (cO g2) (cz g2));let(vs,H1,O,r1v,q1):=zZ;let(v,z,G1,d,g,e1,r1,rd,U,q1):=q1;subst e1;let(u,rfl,ru):=vals1 r1v;let(kk,N):=tV rd ru U;let(vs,sat,_):=N.sat H1 z G1 (Ext.refl _ _) r1 (tW U);let(its,on):=tX O sat;rw[<-N.val];show Zb on λh' hen hit hsz hk=>?_;show wpAny_pyIter_enum hen ?_;have n1:H1 L.heap.objs.size=none:=O.hok.fresh (av _);have n2:H1 (L.heap.objs.size+1)=none:=O.hok.fresh (e6 _);show⟨L.heap.objs.size+1,[L.heap.objs.size+1,L.heap.objs.size],_,_,H1,rfl,O.kept (t':=L.toks) hk,YX kk _ _ (Nat.succ_ne_self _),⟨⟨_,hen⟩,hit⟩,λb hb=>?_,q1 _ (aam N)⟩;have hb':b=L.heap.objs.size+1\/b=L.heap.objs.size:=by simpa using hb
   rcases hb' with rfl|rfl
   .exact O.fpOk (e6 _) n2
   .exact O.fpOk (av _) n1
theorem zap(n:Nat):ZApart (n+4) (n+2) (n+3) n (n+1):=
 ⟨(by lia:(n+2:Nat)≠n+4),(by lia:(n+3:Nat)≠n+4),(by lia:(n:Nat)≠n+4),(by lia:(n+1:Nat)≠n+4),(by lia:(n+2:Nat)≠n+3),(by lia:(n+2:Nat)≠n),(by lia:(n+2:Nat)≠n+1),(by lia:(n+3:Nat)≠n),(by lia:(n+3:Nat)≠n+1),(by lia:(n:Nat)≠n+1)⟩
theorem aas(S:Stat Z CX k c E B X){a b:Ex}(iha:OkE Z c E B X a)(ihb:OkE Z c E B X b){tg e:AO}(h:cY c (.zip a b) tg e=true):PI X tg e (tI X.K B (wpI Z (.zip a b) E)):=by
 replace h:=HX h;let(_,_,_,_,_,v,v',pos,rfl,rfl,h):=h
 .skip
  .simp only[ae,a8]at h;let((((e1,h1),hm),h2),h3):=h;subst e1;let(g1,g2):=dq h1;have hmg:=S.blt _ (bm.mp hm);have hs2:=cH v' [] X.env (dm (b8 b h3));have hs:=cH v [v'] X.env (dm (b8 a h2));intro p9 s V H Rr I q;let(Y,F,G,e0,he,r,hw):=q;rw[wF]at hw;have hA:aO c (.cons a (.cons b .nil)) [v,v']=true:=by
    unfold aO aO aO;change(aa c a v&&(aa c b v'&&true))=true;rw[h2,h3];rfl
   have q':tL X.K B (bC Z (.cons a (.cons b .nil)) E) V H (λvs H1=>∃v v' U G1 d d' z g,vs=[v,v']/\R X.K H1 U G1/\Rep X.K H1 U d v/\Rep X.K H1 U d' v'/\itemsOf G1 d=-z/\itemsOf G1 d'=-g/\∀J,WalkJ X.K H1 U (cC z.1 g.1) (z.2++g.2) J->Rr J H1):=by
    show dU (W:=λds G1=>∃d d' z g,ds=[d,d']/\itemsOf G1 d=-z/\itemsOf G1 d'=-g/\∀H' F' J,Ext H F H' F'->R X.K H' F' G1->WalkJ X.K H' F' (cC z.1 g.1) (z.2++g.2) J->Rr J H') e0 he r ?_ λds G1 H1 U vs q e1 x1 he1 r1 rvs=>?_
    .rw[iI];show aM a (λd G1 q=>?_) hw;rw[iI];show aM b (λd' G2 q=>?_) q;rw[jC];split at q
     .rename_i z g hd N;exact⟨d,d',z,g,rfl,hd,N,q⟩
     .exact q.elim
    .let(d,d',z,g,e2,hd,N,q):=q;subst e2;let(w1,r2,e3,rw1,t2):=rvs;let(w2,e4,rw2):=bI t2;subst e4;exact⟨w1,w2,U,G1,d,d',z,g,e3,r1,rw1,rw2,hd,N,λJ w=>q H1 U J x1 r1 w⟩
   show Call_ (iw I (S.glo _ g1) hmg (u:=.type "zip") Vm (eS (thn (tD iha (λh=>tD ihb (λh=>yw h) h) (c:=c) (es:=[v,v']) hA _ p9 s V H _ I q') λus L ⟨vs,H1,I1,r1v,q1⟩=>?_) hs (by rw[hs2];rfl)) (cO g2) (cz g2));let(w1,w2,U,G1,d,d',z,g,e1,r1,rd,rd',hd,N,q1):=q1;subst e1;let(u,u',rfl,ru,ru'):=vals2 r1v;let(kk,src):=tV rd ru hd;let(ll,O):=tV rd' ru' N;let(vs,sat,_):=src.sat H1 U G1 (Ext.refl _ _) r1 (tW hd);let(ws,sat',_):=O.sat H1 U G1 (Ext.refl _ _) r1 (tW N);let(its,on):=tX I1 sat;let(its',on'):=tX I1 sat';rw[<-src.val,<-O.val];show Y9 on on' λh' hz hTI hTO p1 p2 hsz hk=>?_;show wpAny_pyIter_zip hz ?_;have fr:∀j,H1 (L.heap.objs.size+j)=none:=λj=>I1.hok.fresh (dk _ _);show⟨L.heap.objs.size+4,[L.heap.objs.size+4,L.heap.objs.size+2,L.heap.objs.size+3,L.heap.objs.size,L.heap.objs.size+1],_,_,H1,rfl,I1.kept (t':=L.toks) hk,
    Y6 kk ll (L.heap.objs.size+4) (L.heap.objs.size+2) (L.heap.objs.size+3) L.heap.objs.size (L.heap.objs.size+1) (zap L.heap.objs.size),⟨hz,hTI,⟨_,_,hTO⟩,p1,p2⟩,λb hb=>?_,q1 _ (aan src O)⟩
   have hb':b=L.heap.objs.size+4\/b=L.heap.objs.size+2\/b=L.heap.objs.size+3\/b=L.heap.objs.size\/b=L.heap.objs.size+1:=by simpa using hb
   rcases hb' with rfl|rfl|rfl|rfl|rfl
   .exact I1.fpOk (dk _ _) (fr 4)
   .exact I1.fpOk (dk _ _) (fr 2)
   .exact I1.fpOk (dk _ _) (fr 3)
   .exact I1.fpOk (av _) (fr 0)
   .exact I1.fpOk (dk _ _) (fr 1)
end
section
variable {Z:aj} {CX:CXT} {k:Nat} {c:CT} {E:EK} {B:Bs} {X:Cx}
theorem yE:∀{l:AD},fB l=true->l.Nodup
 |[],_=>d6
 |x::r,h=>by
  unfold fB at h;rw[ae]at h;show c6.mpr ⟨λg=>?_,yE h.2⟩;have:=h.1;rw[bm.mpr g]at this;cases this
theorem tY{N:AD}{scope:Scope}:∀{N':AD}{cap:List (Option Nat)},X.N=N->gO N scope N' cap=true->Caps X scope N' cap
 |[],[],_,_=>trivial
 |_::N',none::cap,e,h=>tY (N':=N') (cap:=cap) e h
 |x::N',-j::cap,e,h=>by
  unfold gO at h;simp only[ae,a8]at h;exact⟨⟨by rw[e];exact h.1.1,h.1.2⟩,tY (N':=N') (cap:=cap) e h.2⟩
 |[],_::_,_,h=>by cases h
 |_::_,[],_,h=>by cases h
theorem mq{scope:Scope}{env:Env}(x:Str):(relabel scope env).names.lookup x=(scope.names.lookup x).map λg=>if(g==NameKind.free&&env.scope.kind==.function&&env.kindOf x==-.cell)=true then NameKind.cell else g:=vm
theorem Stat.comp(S:Stat Z CX k c E B X){N':AD}{scope:Scope}(hn:fB N'=true)(L:List (Str×AQ))(C:AQ)(J:AI)(g:Hp)(fp:List AQ)(pn:AC):
  Stat Z CX k (c.comp N' scope) noE B (X.comp N' scope L C J g fp pn) where
 N:=rfl
 nd:=yE hn
 calm:=S.calm
 own:=PassesOwn.never
 kd:=rfl
 vis:=λx h=>by
  have h:iQ (scope.names.lookup x)=true:=h;change(relabel scope X.env).names.lookup x=_\/(relabel scope X.env).names.lookup x=_\/(relabel scope X.env).names.lookup x=_;rw[mq];cases e:scope.names.lookup x with
  |none=>rw[e]at h;cases h
  |some O=>
   rw[e]at h;cases O with
   | «local»=>exact .inl (by simp[show(NameKind.«local»==NameKind.free)=false by decide])
   |cell=>exact .inr (.inl (by simp[show(NameKind.cell==NameKind.free)=false by decide]))
   |free=>
    by_cases q:(NameKind.free==NameKind.free&&X.env.scope.kind==ScopeKind.function&&X.env.kindOf x==-NameKind.cell)=true
    .exact .inr (.inl (by simp only[Option.map_some,if_pos q]))
    .exact .inr (.inr (by simp only[Option.map_some,if_neg q]))
   |globalExplicit=>cases h
   |globalImplicit=>cases h
 cel:=λx h=>by
  have h:scope.names.lookup x=-.cell\/scope.names.lookup x=-.free:=h;change(relabel scope X.env).names.lookup x=_\/(relabel scope X.env).names.lookup x=_;rw[mq];rcases h with h|h
  .exact .inl (by rw[h];simp[show(NameKind.cell==NameKind.free)=false by decide])
  .rw[h];by_cases q:(NameKind.free==NameKind.free&&X.env.scope.kind==ScopeKind.function&&X.env.kindOf x==-NameKind.cell)=true
   .exact .inl (by simp only[Option.map_some,if_pos q])
   .exact .inr (by simp only[Option.map_some,if_neg q])
 glo:=λx h=>by
  have h:scope.names.lookup x=-.globalImplicit:=h;change(relabel scope X.env).names.lookup x=_;rw[mq,h];simp[show(NameKind.globalImplicit==NameKind.free)=false by decide]
 sto:=λx h=>by
  have h:(scope.names.lookup x==-.local||(false&&scope.names.lookup x==-.cell))=true:=h;rw[Bool.false_and,Bool.or_false,a8]at h;have e:(relabel scope X.env).names.lookup x=-.local:=by rw[mq,h];simp[show(NameKind.«local»==NameKind.free)=false by decide]
  exact⟨.inl e,.inr e⟩
 room:=S.room
 call:=S.call
 blt:=S.blt
 con:=S.con
 exc:=⟨_,S.nox _,λy y y y y y y y y y q=>q.elim,λx U H' F' h=>h.elim⟩
 nox:=S.nox
 xcl:=λC h=>nZf h
 loc:=λx h=>by change(relabel scope X.env).names.lookup x=_;rw[mq,show scope.names.lookup x=-.local from h];simp[show(NameKind.«local»==NameKind.free)=false by decide]
 xis:=λC h=>nZf h
 mth:=S.mth
 mko:=S.mko
 fld:=S.fld
 xko:=λC f h=>⟨(S.xko C f h).1,λy y z=>nomatch (show false=true from z)⟩
 trc:=λh=>absurd rfl h
theorem aat(S:Stat Z CX k c E B X){t:Tx}(J:OkT Z c E B X t){g:AE}(h:lX c t g=true):PIf X g (tB' X.K B (wpT Z t E)):=by
 unfold lX at h;rw[dL]at h;rcases h with h|h
 .rw[ae,e8]at h;let(z,rfl):=h;cases t with
  |yes=>
   intro p9 s W H Q I q;show U7 p9 s W H Q I ?_;let(Y,F,G,L,he,r,hw):=q;rw[wu]at hw;exact hw.now r
  |_=>cases z
 .let(e,he,h):=aV h;rw[cW he];exact U8 (J h)
theorem Iw(S:Stat Z CX k c E B X){fz:Bool}{elt:Ex}{tg:Tg}{it:It'}{cond:Tx}{N':AD}{cap:List (Option Nat)}{scope:Scope}{elt' tg':AO}{ifs:AE}(hn:fB N'=true)
  (ihe:∀{X':Cx},Stat Z CX k (c.comp N' scope) noE B X'->OkE Z (c.comp N' scope) noE B X' elt) (iht:∀{X':Cx},Stat Z CX k (c.comp N' scope) noE B X'->OkT Z (c.comp N' scope) noE B X' cond)
  (hg:cX (c.comp N' scope) tg tg'=true) (hi:lX (c.comp N' scope) cond ifs=true) (he:aa (c.comp N' scope) elt elt'=true)
  {V:L2.St} {H:Hp} {Q:VK} {Y:ak} {F:FZ} {G:DH} (e0:Ext B.H B.F H F) (henv:EnvR X.K H F Y V) (r:R X.K H F G)
  (hw:wpI Z it E Y G λL g G1=>
   compLoop (λd O U k'=>bA tg d O U λN=>wpT Z cond noE N U λb G2=>match b with|true=>wpE Z elt noE N G2 λy G3=>k' (-y) N G3|false=>k' none N G2)
    g L [] (cap.map λo=>match o with|none=>none|some j=>(Y[j]?).join) G1 λds G2=>mk fz ds G2 (PV X.K H F Q)):
  tI X.K B (wpI Z it E) V H (λJ H1=>Dl true X N' scope tg' (emT ifs elt') J (eG cap V) H1 Q):=by
 show⟨Y,F,G,e0,henv,r,lH it (λL g G1 q H1 F1 J x1 r1 W=>?_) hw⟩;let step:D->ak->DH->(Option D->ak->DH->Prop)->Prop:=λd O U k'=>bA tg d O U λN=>wpT Z cond noE N U λb G2=>match b with|true=>wpE Z elt noE N G2 λy G3=>k' (-y) N G3|false=>k' none N G2
 let fin:AS->DH->Prop:=λds G2=>mk fz ds G2 (PV X.K H F Q)
 show⟨λi m ys σ' H'=>m=L⁻¹-i/\i<=L⁻¹/\∃O F' U acc,Ext B.H B.F H' F'/\Ext H1 F1 H' F'/\EnvR X.K H' F' O σ'/\R X.K H' F' U/\Reps X.K H' F' acc ys/\compLoop step g (L.drop i) acc O U fin,
  ⟨L⁻¹,!2,cb _,_,F1,G1,[],e0.trans x1,Ext.refl _ _,(henv.ext x1).cap cap,r1,rfl,q⟩,?_⟩
 rintro i m ys σ' H' ⟨rfl,hle,O,F',U,acc,eB,e1,he',r',ra,hl⟩;by_cases hlt:i<L⁻¹
 .have hd:L.drop i=L[i]::L.drop (i+1):=bg hlt;rw[hd]at hl;let(hh,hz,hl):=hl;show .inr ⟨W.go H' F' U i e1 r' hh hlt,λu=>by rw[<-ra⁻¹];exact bo hz szl,λcl C s₁ H₁ fp pn=>?_⟩;have S':=S.comp (scope:=scope) hn cl C s₁ H₁ fp pn;show⟨_,tmT _ _,tU S' tg hg,λa ha=>VP rfl ha (aat S' (iht S') hi) (ihe S' he),λx H2 hy=>?_⟩;let(xy,ry,rx):=W.yld H' F' i x H2 L[i] U e1 r' hh (by simp[hlt]) hy;show⟨O,F',U,L[i],eB.trans xy,he'.ext xy,ry,rx,gb (λN z σ1 hσ1=>?_) tg hl⟩;unfold tmT;show iV (eB.trans xy) hσ1 ry z λb G2 H3 F3 z e3 x3 he3 r3=>?_;cases b with
  |true=>
   rw[if_pos rfl];show aP e3 he3 r3 z λy G4 H4 F4 v z e4 x4 he4 r4 rv=>?_;exact⟨L⁻¹-(i+1),!0,rfl,hlt,N,F4,G4,acc++[y],e4,e1.trans (xy.trans (x3.trans x4)),he4,r4,(Reps.ext (xy.trans (x3.trans x4)) ra).append (Reps.cons rv Reps.nil),z⟩
  |false=>
   rw[if_neg bB];exact⟨L⁻¹-(i+1),!0,rfl,hlt,N,F3,G2,acc,e3,e1.trans (xy.trans x3),he3,r3,Reps.ext (xy.trans x3) ra,z⟩
 .have hi':i=L⁻¹:=by lia
  subst hi';rw[eM]at hl;let(hh,hz,hl):=hl;show .inl ⟨W.stop H' F' U e1 r' hh,by rw[<-ra⁻¹];exact dM hz,λp hp=>?_⟩;exact d7 (dI (λd U z=>PV.later z (x1.trans e1)) hl) r' ra p hp
structure CompC(c:CT)(elt:Ex)(tg:Tg)(it:It')(cond:Tx)(N':AD)(cap:List (Option Nat))(elt' tg' iter:AO)(ifs:AE)(scope:Scope):Prop where
 it:cY c it tg' iter=true
 cap:gO c.N scope N' cap=true
 sc:jG c scope=true
 nd:fB N'=true
 tg:cX (c.comp N' scope) tg tg'=true
 cd:lX (c.comp N' scope) cond ifs=true
 el:aa (c.comp N' scope) elt elt'=true
theorem Iz(S:Stat Z CX k c E B X){scope:Scope}(h:jG c scope=true):scope.names.all (λy=>y.2 != NameKind.cell)=true/\scope.names.all (λy=>y.2 != NameKind.local||scope.names.lookup y.1==-NameKind.local)=true/\
  scope.names.all (λy=>y.2 != NameKind.free||(X.env.kindOf y.1==-NameKind.cell||X.env.kindOf y.1==-NameKind.free))=true/\scope.kind=.function:=by
 unfold jG at h;simp only[ae,dc]at h;let((((h1,h2),g),z),_):=h;show⟨h1,h2,?_,z⟩;rw[b3]at g ⊢;intro y J;have:=g y J;rw[dL,dL,a8,a8]at this;rw[dL,dL,a8,a8];rcases this with q|q
 .exact .inl q
 .exact .inr (S.cel y.1 q)
theorem IK{fz:Bool}{z:Ex}{tg:Tg}{it:It'}{g:Tx}{N:List AL}{cap:List (Option Nat)}{e:AO}(h:aa c (.comp fz z tg it g N cap) e=true):
  ∃q L iter J scope pos,e=.ListComp q [⟨L,iter,J,0⟩] scope pos/\CompC c z tg it g (N.map Str.ofString) cap q L iter J scope:=by
 replace h:=HR h;let(_,_,_,_,_,_,_,rfl,h):=h;simp only[ae,dc]at h;let(((((((h1,h2),O),U),Y),h6),h7),h8):=h;subst h1;exact⟨_,_,_,_,_,_,rfl,h2,O,U,Y,h6,h7,h8⟩
theorem yF{it:It'}{g iter:AO}(h:cY c it g iter=true)(env:Env)(x:AN):foldedSetIterable iter env x=pure x:=by
 cases it with
 |seq y=>exact Zy (b8 y (show aa c y iter=true from h)) env x
 |rng a=>let(_,_,_,_,rfl,_):=HS h;rfl
 |enm a=>let(_,_,_,_,_,_,_,_,rfl,_):=HW h;rfl
 |zip a b=>let(_,_,_,_,_,_,_,_,_,rfl,_):=HX h;rfl
theorem aau(S:Stat Z CX k c E B X){fz:Bool}{q:Ex}{tg:Tg}{it:It'}{g:Tx}{N:List AL}{cap:List (Option Nat)}
  (U:∀{L:CT}{J:Cx},Stat Z CX k L noE B J->OkE Z L noE B J q) (iht:∀{L:CT}{J:Cx},Stat Z CX k L noE B J->OkT Z L noE B J g)
  (ihi:∀{z iter:AO},cY c it z iter=true->PI X z iter (tI X.K B (wpI Z it E))) {e:AO} (h:aa c (.comp fz q tg it g N cap) e=true):
  PE X e (tE X.K B (wpE Z (.comp fz q tg it g N cap) E)):=by
 let(elt',z,iter,ifs,scope,pos,rfl,C):=IK h;let(s1,s2,s3,s4):=Iz S C.sc;show peI (VR (lim:=true) (N.map Str.ofString) cap S.calm (ihi C.it) (tY S.N C.cap) s1 s2 s3 s4 (yF C.it X.env) (Dk _ _ _ _ _ _)) λW H Q hq=>el hq λY F G e0 he r hw=>?_;rw[xO]at hw;exact Iw S C.nd (λO=>U O) (λO=>iht O) C.tg C.cd C.el e0 he r hw
theorem bQ{x:Ex}(q:OkE Z c E B X x)(hn:∀l os rs pos,aa c x (.Compare l os rs pos)=true->False){e:AO}(h:bK c (.val x) e=true):PT X e (tB' X.K B (wpT Z (.val x) E)):=by
 have h:((iT e||lW e)&&aa c x e&&Hb x)=true:=h;simp only[ae,dL]at h;let((h1,h2),z):=h;rcases h1 with h1|h1
 .exact aae q h1 h2
 .let((t,g),_):=cq.mp h1;rw[g]at h2;exact(hn _ _ _ _ h2).elim
end
mutual
theorem aF{Z:aj}{CX:CXT}{k:Nat}{B:Bs}:∀(x:Ex){c:CT}{E:EK}{X:Cx},Stat Z CX k c E B X->OkE Z c E B X x
 |.var i,c,E,X,S=>λh=>ZJ S h
 |.cst d,c,E,X,S=>λh=>ZK S h
 |.glb x d,c,E,X,S=>λh=>ZL S h
 |.bin op fz a b,c,E,X,S=>λh=>ZM S (aF a S) (aF b S) h
 |.neg a,c,E,X,S=>λh=>ZP S (aF a S) h
 |.cmp op a b,c,E,X,S=>λh=>(Ig S (aF a S) (aF b S) h).1
 |.chn op op' a b d,c,E,X,S=>λh=>(Ih S (aF a S) (aF b S) (aF d S) h).1
 |.not a,c,E,X,S=>λh=>ZQ S (aF a S) h
 |.boo isAnd e es,c,E,X,S=>λh=>aac (aF e S) (gR es S) h
 |.ife t a b,c,E,X,S=>λh=>aad (gU t S) (aF a S) (aF b S) h
 |.tup es,c,E,X,S=>λh=>ZR S (EachE.oks (gR es S)) h
 |.lst fz es,c,E,X,S=>λh=>ZS S (EachE.oks (gR es S)) h
 |.idx a i,c,E,X,S=>λh=>ZV S (aF a S) (aF i S) h
 |.slc fz a lo hi,c,E,X,S=>λh=>ZZ S (aF a S) (IW lo S) (IW hi S) h
 |.call f es,c,E,X,S=>λh=>Z1 S (EachE.oks (gR es S)) h
 |.bcl f es,c,E,X,S=>λh=>Z2 S (EachE.oks (gR es S)) h
 |.lcl fz f es,c,E,X,S=>λh=>Z3 S (EachE.oks (gR es S)) h
 |.isi a t,c,E,X,S=>λh=>Z9 S (aF a S) h
 |.rgl fz a,c,E,X,S=>λh=>Z6 S (aF a S) h
 |.lns a,c,E,X,S=>λh=>Z5 S (aF a S) h
 |.rgt a,c,E,X,S=>λh=>Z7 S (aF a S) h
 |.clr o,c,E,X,S=>λh=>aaa S (aF o S) h
 |.mth m o es,c,E,X,S=>λh=>aab S (aF o S) (EachE.oks (gR es S)) h
 |.comp fz elt tg it cond N cap,c,E,X,S=>λh=>aau S (λS'=>aF elt S') (λS'=>gU cond S') (yG it S) h
 |.frz a,c,E,X,S=>λh=>Z0 S (aF a S) h
 |.dnw,c,E,X,S=>λh=>ZW S h
 |.dp1 a b,c,E,X,S=>λh=>ZX S (aF a S) (aF b S) h
theorem gR{Z:aj}{CX:CXT}{k:Nat}{B:Bs}:∀(x:Exs){c:CT}{E:EK}{X:Cx},Stat Z CX k c E B X->EachE Z c E B X x
 |.nil,_,_,_,_=>trivial
 |.cons e es,c,E,X,S=>⟨aF e S,gR es S⟩
theorem gU{Z:aj}{CX:CXT}{k:Nat}{B:Bs}:∀(x:Tx){c:CT}{E:EK}{X:Cx},Stat Z CX k c E B X->OkT Z c E B X x
 |.not t,c,E,X,S=>λh=>aaf (gU t S) h
 |.boo isAnd t ts,c,E,X,S=>λh=>aag (gU t S) (IV ts S) h
 |.yes,c,E,X,S=>λh=>nZf h
 |.val (.cmp op a b),c,E,X,S=>by
  intro h;have h:((iT _||lW _)&&aa c (.cmp op a b) _&&true)=true:=h;simp only[ae]at h;exact(Ig S (aF a S) (aF b S) h.1.2).2
 |.val (.chn op op' a b d),c,E,X,S=>by
  intro h;have h:((iT _||lW _)&&aa c (.chn op op' a b d) _&&true)=true:=h;simp only[ae]at h;exact(Ih S (aF a S) (aF b S) (aF d S) h.1.2).2
 |.val (.frz a),c,E,X,S=>by
  intro h;have h:((iT _||lW _)&&aa c (.frz a) _&&false)=true:=h;rw[Bool.and_false]at h;cases h
 |.val .dnw,c,E,X,S=>λh=>bQ (aF .dnw S) (λz z z z h=>nZf h) h
 |.val (.dp1 a b),c,E,X,S=>λh=>bQ (aF (.dp1 a b) S) (λz z z z h=>nZf h) h
 |.val (.var i),c,E,X,S=>λh=>bQ (aF (.var i) S) (λz z z z h=>nZf h) h
 |.val (.cst d),c,E,X,S=>λh=>bQ (aF (.cst d) S) (λz z z z h=>nZf h) h
 |.val (.glb x d),c,E,X,S=>λh=>bQ (aF (.glb x d) S) (λz z z z h=>nZf h) h
 |.val (.bin op fz a b),c,E,X,S=>λh=>bQ (aF (.bin op fz a b) S) (λz z z z h=>nZf h) h
 |.val (.neg a),c,E,X,S=>λh=>bQ (aF (.neg a) S) (λz z z z h=>nZf h) h
 |.val (.not a),c,E,X,S=>λh=>bQ (aF (.not a) S) (λz z z z h=>nZf h) h
 |.val (.boo isAnd e es),c,E,X,S=>λh=>bQ (aF (.boo isAnd e es) S) (λz z z z h=>nZf h) h
 |.val (.ife t a b),c,E,X,S=>λh=>bQ (aF (.ife t a b) S) (λz z z z h=>nZf h) h
 |.val (.tup es),c,E,X,S=>λh=>bQ (aF (.tup es) S) (λz z z z h=>nZf h) h
 |.val (.lst fz es),c,E,X,S=>λh=>bQ (aF (.lst fz es) S) (λz z z z h=>nZf h) h
 |.val (.idx a i),c,E,X,S=>λh=>bQ (aF (.idx a i) S) (λz z z z h=>nZf h) h
 |.val (.slc fz a lo hi),c,E,X,S=>λh=>bQ (aF (.slc fz a lo hi) S) (λz z z z h=>nZf h) h
 |.val (.call f es),c,E,X,S=>λh=>bQ (aF (.call f es) S) (λz z z z h=>nZf h) h
 |.val (.bcl f es),c,E,X,S=>λh=>bQ (aF (.bcl f es) S) (λz z z z h=>nZf h) h
 |.val (.lcl fz f es),c,E,X,S=>λh=>bQ (aF (.lcl fz f es) S) (λz z z z h=>nZf h) h
 |.val (.rgl fz a),c,E,X,S=>λh=>bQ (aF (.rgl fz a) S) (λz z z z h=>nZf h) h
 |.val (.lns a),c,E,X,S=>λh=>bQ (aF (.lns a) S) (λz z z z h=>nZf h) h
 |.val (.clr o),c,E,X,S=>λh=>bQ (aF (.clr o) S) (λz z z z h=>nZf h) h
 |.val (.rgt a),c,E,X,S=>λh=>bQ (aF (.rgt a) S) (λz z z z h=>nZf h) h
 |.val (.isi a t),c,E,X,S=>λh=>bQ (aF (.isi a t) S) (λz z z z h=>nZf h) h
 |.val (.mth m o es),c,E,X,S=>λh=>bQ (aF (.mth m o es) S) (λz z z z h=>nZf h) h
 |.val (.comp fz elt tg it cond N cap),c,E,X,S=>λh=>bQ (aF (.comp fz elt tg it cond N cap) S) (λz z z z h=>nZf h) h
theorem IV{Z:aj}{CX:CXT}{k:Nat}{B:Bs}:∀(x:Txs){c:CT}{E:EK}{X:Cx},Stat Z CX k c E B X->tM Z c E B X x
 |.nil,_,_,_,_=>trivial
 |.cons e es,c,E,X,S=>⟨gU e S,IV es S⟩
theorem IW{Z:aj}{CX:CXT}{k:Nat}{B:Bs}:∀(x:Ox){c:CT}{E:EK}{X:Cx},Stat Z CX k c E B X->∀y,x=.ob y->OkE Z c E B X y
 |.no,c,E,X,S,y,e=>by cases e
 |.ob z,c,E,X,S,y,e=>by injection e with e;subst e;exact aF z S
theorem yG{Z:aj}{CX:CXT}{k:Nat}{B:Bs}:∀(x:It'){c:CT}{E:EK}{X:Cx},Stat Z CX k c E B X->∀{tg e:AO},cY c x tg e=true->PI X tg e (tI X.K B (wpI Z x E))
 |.seq y,c,E,X,S,tg,e,h=>aap (aF y S) (show aa c y e=true from h)
 |.rng a,c,E,X,S,tg,e,h=>aaq S (aF a S) h
 |.enm a,c,E,X,S,tg,e,h=>aar S (aF a S) h
 |.zip a b,c,E,X,S,tg,e,h=>aas S (aF a S) (aF b S) h
end
def EnD(K:PF)(H:Hp)(F:FZ)(D:Ends):En where
 nx:=λY q=>∀H' F' g,Ext H F H' F'->EnvR K H' F' Y g->R K H' F' q->D.nx g H'
 rt:=PV K H F D.rt
 bk:=λY q=>∀H' F' g,Ext H F H' F'->EnvR K H' F' Y g->R K H' F' q->D.bk g H'
 ct:=λY q=>∀H' F' g,Ext H F H' F'->EnvR K H' F' Y g->R K H' F' q->D.ct g H'
def EnD.later{K:PF}{H H1:Hp}{F z:FZ}{D:Ends}(x:Ext H F H1 z):(EnD K H F D).Le (EnD K H1 z D):=
 ⟨λy y h H' F' g q=>h H' F' g (x.trans q),λy y h=>PV.later h x,λy y h H' F' g q=>h H' F' g (x.trans q),λy y h H' F' g q=>h H' F' g (x.trans q)⟩
def tS(K:PF)(B:Bs)(w:ak->DH->En->Prop):TS:=λD X H=>∃Y F G,Ext B.H B.F H F/\EnvR K H F Y X/\R K H F G/\w Y G (EnD K H F D)
def psI{X:Cx}{st:Stmt}{t t':TS}(h:PS X st t)(i:∀D Y H,t' D Y H->t D Y H):PS X st t':=λp9 s Y H D I q=>h p9 s Y H D I (i D Y H q)
def Ja{X:Cx}{st:AF}{t t':TS}(h:PSs X st t)(i:∀D Y H,t' D Y H->t D Y H):PSs X st t':=λp9 s Y H D I q=>h p9 s Y H D I (i D Y H q)
def yH{e:AO}(h:dO e=false)(t:Option AO)(n:Nat)(env:Env):swapsWith e t n env=pure false:=by cases e<;>first|rfl|exact nomatch (show true=false from h)
def Jb{e:AO}(h:dO e=false)(t:AO)(n:Nat)(env:Env):swapsWithSole [t] e n env=pure false:=yH h _ _ _
section
variable {Z:aj} {CX:CXT} {k:Nat} {c:CT} {E:EK} {B:Bs} {X:Cx}
abbrev OkS(Z:aj)(c:CT)(E:EK)(B:Bs)(X:Cx)(x:Sx):Prop:=∀{st:Stmt},bO c x st=true->PS X st (tS X.K B (wpS Z x E))
abbrev jO(Z:aj)(c:CT)(E:EK)(B:Bs)(X:Cx)(x:Sxs):Prop:=∀{st:AF},aD c x st=true->PSs X st (tS X.K B (az Z x E))
theorem aav(S:Stat Z CX k c E B X){x:Ex}{st:Stmt}(h:bO c (.exp x) st=true):PS X st (tS X.K B (wpS Z (.exp x) E)):=by
 replace h:=Zk h;let(_,_,rfl,h):=h
 .rw[ae]at h;show psI (RG (aF x S h.2) (yH (!!h.1) _ _ _)) λD W H J=>el J λY F G z he r hw=>?_;rw[xq]at hw;exact aP z he r hw λd G1 H1 O v q U N g L rv=>q _ _ _ N g L
theorem aaw(S:Stat Z CX k c E B X){i:Nat}{x:Ex}{st:Stmt}(h:bO c (.asg (.nm i) x) st=true):PS X st (tS X.K B (wpS Z (.asg (.nm i) x) E)):=by
 replace h:=HY h;let(tg,e,pos,rfl,h):=h
 .simp only[ae]at h;let((h1,h2),h3):=h;have h3:(!dO e||Hd x)=true:=h3;replace h1:=yt h1;let(y,py,rfl,h1):=h1
  .rw[ae,a8]at h1;let(l,f):=S.sto y h1.2;have hi:X.N[i]?=-y:=by rw[S.N];exact h1.1
   have go:∀(D:Ends)(W:L2.St)(H:Hp),tS X.K B (wpS Z (.asg (.nm i) x) E) D W H->jm (tE X.K B (wpE Z x E)) (jl i) D W H:=λD W H hq=>el hq λY F G e0 he r hw=>by
    rw[lG]at hw;show aP e0 he r hw λd G1 H1 F1 v q e1 x1 he1 r1 rv=>?_;unfold bA at q;exact q _ _ _ x1 (he1.set rv i) r1
   cases hc:dO e with
   |false=>exact psI (Bo S.nd hi l (aF x S h2) (yH hc _ _ _) f) go
   |true=>
    rw[hc,Bool.not_true,Bool.false_or]at h3;cases x with
    |comp fz L tg it J N cap=>
     let(O,tg',iter,ifs,scope,U,rfl,C):=IK h2;let(s1,s2,s3,s4):=Iz S C.sc;have hb:∃b:Bool,swapsWith (.ListComp O [⟨tg',iter,ifs,0⟩] scope U) (-(.Name y py)) pos.line X.env=pure b:=⟨_,rfl⟩;let(b,hb):=hb;cases b with
     |false=>exact psI (Bo S.nd hi l (aF _ S h2) hb f) go
     |true=>
      show psI (VV (lim:=true) (Dk _ _ _ _ _ _) S.nd hi l (N.map Str.ofString) cap S.calm (yG it S C.it) (tY S.N C.cap) s1 s2 s3 s4 (yF C.it X.env) hb f) λD W H hq=>el hq λY F G e0 he r hw=>?_;rw[lG]at hw;rw[xO]at hw;show Iw (fz:=fz) (Q:=λv H1=>D.nx (W.set i (-v)) H1) S C.nd (λS'=>aF L S') (λS'=>gU J S') C.tg C.cd C.el e0 he r (lH it (λitems g G1 q=>?_) hw);show rT (λd ρ' G' k1 k2 hk z=>gb (λρ1 z=>dF J (λb G2 z=>by
       cases b with
       |true=>exact aM L (λy G3 z=>hk _ _ _ z) z
       |false=>exact hk _ _ _ z) z) tg z) ?_ _ _ _ _ q
      .intro ds G2 q;show dI (λd G3 q=>?_) q;intro H1 F1 v x1 r1 rv;unfold bA at q;exact q _ _ _ x1 ((he.ext x1).set rv i) r1
    |_=>cases h3
theorem aax(S:Stat Z CX k c E B X){ts:Tgs}{x:Ex}{st:Stmt}(h:bO c (.asg (.tp ts) x) st=true):PS X st (tS X.K B (wpS Z (.asg (.tp ts) x) E)):=by
 replace h:=HY h;let(tg,e,pos,rfl,h):=h
 .rw[ae,ae]at h;have g:(!Hf e&&!dO e)=true:=h.2;let(h1,h2):=h.1;rw[ae,gN,gN]at g;let(h3,h4):=g;have hg:=tU S (.tp ts) h1;replace h1:=yu h1;let(_,_,_,rfl,h1):=h1
  .show psI (Bm (aF x S h2) hg (Jb h4 _ _ _) ?_ rfl) λD W H hq=>el hq λY F G e0 he r hw=>?_
   .cases e<;>first|rfl|exact nomatch (show true=false from h3)
   .rw[lG]at hw;show aP e0 he r hw λd G1 H1 O v q e1 x1 J U rv=>?_;exact⟨Y,O,G1,d,e1,J,U,rv,gb (λρ' z N L=>z H1 O N x1 L U) (.tp ts) q⟩
theorem aay(S:Stat Z CX k c E B X){o i x:Ex}{st:Stmt}(h:bO c (.set o i x) st=true):PS X st (tS X.K B (wpS Z (.set o i x) E)):=by
 replace h:=Zm h;let(o',i',O,e,pos,rfl,h):=h
 .simp only[ae,gN]at h;let(((h1,h2),h3),h4):=h;have hi:=b8 i h2;show psI (Bm (aF x S h3) (R4 (aF o S h1) (aF i S h2) (YM (fG S)) ?_) (Jb h4 _ _ _) ?_ rfl) λD W H hq=>el hq λY F G e0 he r hw=>?_
  .intro v;cases i'<;>first|rfl|exact nomatch (show false=true from hi)
  .cases e<;>rfl
  .rw[xr]at hw;show aP e0 he r hw λd G1 H1 F1 v q e1 x1 g r1 rv=>?_;show aP e1 g r1 q λa G2 H2 F2 w q e2 U z r2 L=>?_;show aP e2 z r2 q λy G3 H3 F3 u q e3 N J r3 ru=>?_;show⟨F3,G3,a,y,d,r3,L.ext N,ru,rv.ext (U.trans N),Ft (λG4 q=>?_) q⟩;intro H4 F4 x4 r4;exact q _ _ _ (x1.trans (U.trans (N.trans x4))) (J.ext x4) r4
theorem aaz(S:Stat Z CX k c E B X){i:Nat}{op:Operator}{x:Ex}{st:Stmt}(h:bO c (.aug i op x) st=true):PS X st (tS X.K B (wpS Z (.aug i op x) E)):=by
 replace h:=Zn h;let(y,py,o,e,pos,rfl,h):=h
 .simp only[ae,a8]at h;let((((rfl,h1),h2),h3),h4):=h;let(l,f):=S.sto y h2;show psI (R6 S.nd (by rw[S.N];exact h1) l (aF x S h4) (YQ o) f) λD W H hq=>el hq λY F G U he r hw=>?_;rw[xu]at hw;split at hw
  .rename_i a ha;let(v,J,rv):=he.get ha;show⟨v,J,aP U he r hw λb G1 H1 O u q J L g r1 ru=>?_⟩;show⟨O,G1,a,b,r1,rv.ext L,ru,Fv (λd q=>?_) q⟩;intro H2 F2 w N r2 z;exact q _ _ _ (L.trans N) ((g.ext N).set z i) r2
  .exact hw.elim
theorem aaA(S:Stat Z CX k c E B X){x:Ex}{st:Stmt}(h:bO c (.ret x) st=true):PS X st (tS X.K B (wpS Z (.ret x) E)):=by
 replace h:=Zo h;let(_,_,rfl,h):=h
 .show psI (RJ (aF x S h)) λD W H q=>el q λY F G g he r hw=>?_;rw[xF]at hw;exact⟨Y,F,G,g,he,r,hw⟩
theorem aaB{st:Stmt}(h:bO c .rtn st=true):PS X st (tS X.K B (wpS Z .rtn E)):=by
 replace h:=Zq h;let(_,rfl,h):=h
 .show psI RL λD W H g=>el g λY F G q he r hw=>?_;rw[xG]at hw;exact hw.now r rfl
theorem aaC(S:Stat Z CX k c E B X){t:Tx}{a b:Sxs}(z:jO Z c E B X a)(J:jO Z c E B X b){st:Stmt}(h:bO c (.ite t a b) st=true):PS X st (tS X.K B (wpS Z (.ite t a b) E)):=by
 replace h:=Zr h;let(_,_,_,_,rfl,h):=h
 .simp only[ae]at h;let((h1,h2),h3):=h;show psI (RN (gU t S h1) (z h2) (J h3)) λD W H hq=>el hq λY F G e0 he r hw=>?_;rw[xH]at hw;show iV e0 he r hw λb' G1 H1 L q N U g O=>?_;cases b' with
  |true=>
   rw[if_pos rfl];exact⟨Y,L,G1,N,g,O,dJ a (EnD.later U) q⟩
  |false=>
   rw[if_neg bB];exact⟨Y,L,G1,N,g,O,dJ b (EnD.later U) q⟩
theorem aaD(S:Stat Z CX k c E B X){t:Tg}{it:It'}{b:Sxs}(ihb:jO Z c E B X b){st:Stmt}(h:bO c (.for_ t it b) st=true):PS X st (tS X.K B (wpS Z (.for_ t it b) E)):=by
 replace h:=Zt h;let(tg,iter,body,pos,rfl,h):=h
 .simp only[ae]at h;let((h1,h2),h3):=h;show psI (Su S.own S.calm (yG it S h2) (tU S t h1) (ihb h3) (yF h2 X.env)) λD V H hq=>el hq λY F G e0 he r hw=>?_;rw[Fd]at hw;show⟨Y,F,G,e0,he,r,lH it (λL g G1 q H1 F1 J x1 r1 W=>?_) hw⟩;let step:RF.D->ak->DH->(ak->DH->Prop)->Prop:=λd N O k=>bA t d N O λρ1=>az Z b E ρ1 O {EnD X.K H F D with nx:=k,ct:=k,bk:=(EnD X.K H F D).nx}
  let P:Nat->L2.St->Hp->Prop:=λi σ' H'=>∃N F' O,Ext B.H B.F H' F'/\Ext H1 F1 H' F'/\EnvR X.K H' F' N σ'/\R X.K H' F' O/\forLoop step g (L.drop i) N O (EnD X.K H F D).nx
  show⟨λi m σ' H'=>m=L⁻¹-i/\i<=L⁻¹/\P i σ' H',⟨L⁻¹,!2,cb _,Y,F1,G1,e0.trans x1,Ext.refl _ _,he.ext x1,r1,q⟩,?_⟩;rintro i m σ' H' ⟨rfl,hle,N,F',O,eB,e1,he',r',hl⟩;by_cases U:i<L⁻¹
  .have hd:L.drop i=L[i]::L.drop (i+1):=bg U;rw[hd]at hl;let(hh,hl):=hl;show .inr ⟨W.go H' F' O i e1 r' hh U,P (i+1),λσ2 H2 p=>⟨L⁻¹-(i+1),!0,rfl,U,p⟩,λx H2 hy=>?_⟩;let(xy,ry,rx):=W.yld H' F' i x H2 L[i] O e1 r' hh (by simp[U]) hy;show⟨N,F',O,L[i],eB.trans xy,he'.ext xy,ry,rx,gb (λρ1 z σ1 hσ1=>?_) t hl⟩;show⟨ρ1,F',O,eB.trans xy,hσ1,ry,dJ b (D:={EnD X.K H F D with nx:=λN O=>forLoop step g (L.drop (i+1)) N O (EnD X.K H F D).nx,ct:=λN O=>forLoop step g (L.drop (i+1)) N O (EnD X.K H F D).nx,bk:=(EnD X.K H F D).nx}) ⟨λρ2 G2 z H3 F3 σ3 x3 he3 r3=>?_,λd G2 z=>PV.later z (x1.trans (e1.trans xy)),λρ2 G2 z H3 F3 σ3 x3=>z H3 F3 σ3 (x1.trans (e1.trans (xy.trans x3))),λρ2 G2 z H3 F3 σ3 x3 he3 r3=>?_⟩ z⟩
   .exact ⟨ρ2,F3,G2,eB.trans (xy.trans x3),e1.trans (xy.trans x3),he3,r3,z⟩
   .exact ⟨ρ2,F3,G2,eB.trans (xy.trans x3),e1.trans (xy.trans x3),he3,r3,z⟩
  .have hi':i=L⁻¹:=by lia
   subst hi';rw[eM]at hl;exact .inl ⟨W.stop H' F' O e1 r' hl.1,hl.2 _ _ _ (x1.trans e1) he' r'⟩
theorem aaE(S:Stat Z CX k c E B X){t:Tx}{b:Sxs}(ihb:jO Z c E B X b){st:Stmt}(h:bO c (.whl t b) st=true):PS X st (tS X.K B (wpS Z (.whl t b) E)):=by
 replace h:=Zu h;let(_,_,_,rfl,h):=h
 .simp only[ae]at h;let(h1,h2):=h;show psI (R8 S.own (gU t S h1) (ihb h2)) λD W H hq=>el hq λY F G e0 he r hw=>?_;rw[Fe]at hw;let(n,hw):=hw;let L:ak->DH->(Bool->DH->Prop)->Prop:=λg J k=>wpT Z t E g J k
  let bd:ak->DH->(ak->DH->Prop)->Prop:=λg J k=>az Z b E g J {EnD X.K H F D with nx:=k,ct:=k,bk:=(EnD X.K H F D).nx}
  let P:Nat->L2.St->Hp->Prop:=λm σ' H'=>∃g F' J,Ext B.H B.F H' F'/\Ext H F H' F'/\EnvR X.K H' F' g σ'/\R X.K H' F' J/\whileLoop L bd m g J (EnD X.K H F D).nx
  show⟨P,⟨n,Y,F,G,e0,Ext.refl _ _,he,r,hw⟩,?_⟩;rintro m σ' H' ⟨g,F',J,eB,e1,he',r',hl⟩;cases m with
  |zero=>exact hl.elim
  |succ m=>
   show iV eB he' r' hl λb' G1 H1 F1 q e2 x2 he2 r2=>?_;cases b' with
   |true=>
    rw[if_pos rfl];show⟨P m,λσ2 H2 p=>⟨m,gT _,p⟩,g,F1,G1,e2,he2,r2,dJ b (D:={EnD X.K H F D with nx:=λg J=>whileLoop L bd m g J (EnD X.K H F D).nx,ct:=λg J=>whileLoop L bd m g J (EnD X.K H F D).nx,bk:=(EnD X.K H F D).nx}) ⟨λN G2 z H3 F3 σ3 U O r3=>?_,λd G2 z=>PV.later z (e1.trans x2),λN G2 z H3 F3 σ3 U=>z H3 F3 σ3 (e1.trans (x2.trans U)),λN G2 z H3 F3 σ3 U O r3=>?_⟩ q⟩
    .exact ⟨N,F3,G2,e2.trans U,e1.trans (x2.trans U),O,r3,z⟩
    .exact ⟨N,F3,G2,e2.trans U,e1.trans (x2.trans U),O,r3,z⟩
   |false=>
    rw[if_neg bB];exact q _ _ _ (e1.trans x2) he2 r2
theorem aaF{st:AF}(h:aD c .nil st=true):PSs X st (tS X.K B (az Z .nil E)):=by
 unfold aD at h;cases st with
 |nil=>exact Ja Rv λD W H g=>el g λY F G q he r hw=>by rw[lE]at hw;exact hw _ _ _ (Ext.refl _ _) he r
 |cons _ _=>cases h
theorem aaG{x:Sx}{xs:Sxs}(ih:OkS Z c E B X x)(J:jO Z c E B X xs){st:AF}(h:aD c (.cons x xs) st=true):PSs X st (tS X.K B (az Z (.cons x xs) E)):=by
 unfold aD at h;split at h
 .rw[ae]at h;show Ja (Rw (ih h.1) (J h.2)) λD W H hq=>el hq λY F G O he r hw=>?_;rw[lF]at hw;show⟨Y,F,G,O,he,r,wpS_mono x (D:={EnD X.K H F D with nx:=λL G'=>az Z xs E L G' (EnD X.K H F D)}) ⟨λN G1 q H1 F1 σ1 U g r1=>?_,λy y z=>z,λy y z=>z,λy y z=>z⟩ hw⟩;exact⟨N,F1,G1,O.trans U,g,r1,dJ xs (EnD.later U) q⟩
 .cases h
end
mutual
theorem aaH{Z:aj}{CX:CXT}{k:Nat}{B:Bs}{c:CT}{E:EK}{X:Cx}(S:Stat Z CX k c E B X):∀(x:Sx),OkS Z c E B X x
 |.exp e=>λh=>aav S h
 |.asg (.nm i) e=>λh=>aaw S h
 |.asg (.tp ts) e=>λh=>aax S h
 |.set o i e=>λh=>aay S h
 |.aug i op e=>λh=>aaz S h
 |.ret e=>λh=>aaA S h
 |.rtn=>λh=>aaB h
 |.ite t a b=>λh=>aaC S (jP S a) (jP S b) h
 |.for_ t it b=>λh=>aaD S (jP S b) h
 |.whl t b=>λh=>aaE S (jP S b) h
 |.pas=>by
  intro h;let(_,rfl,_):=Zv h;exact psI Rz λD W H hq=>el hq λY F G e0 he r hw=>by rw[xJ]at hw;exact hw _ _ _ (Ext.refl _ _) he r
 |.brk=>by
  intro h;let(_,rfl,_):=Zw h;exact psI RB λD W H hq=>el hq λY F G e0 he r hw=>by rw[xK]at hw;exact hw _ _ _ (Ext.refl _ _) he r
 |.cnt=>by
  intro h;let(_,rfl,_):=Zx h;exact psI RC λD W H hq=>el hq λY F G e0 he r hw=>by rw[xM]at hw;exact hw _ _ _ (Ext.refl _ _) he r
 |.nev=>by
  intro h;exact psI RQ λD W H hq=>el hq λY F G e0 he r hw=>by rw[xN]at hw;exact hw.elim
theorem jP{Z:aj}{CX:CXT}{k:Nat}{B:Bs}{c:CT}{E:EK}{X:Cx}(S:Stat Z CX k c E B X):∀(x:Sxs),jO Z c E B X x
 |.nil=>λh=>aaF h
 |.cons s r=>λh=>aaG (aaH S s) (jP S r) h
end
end RF
namespace L2
open PySem PySem.Spec PyProof.Rows
def Fun.okX{P:AK}{w:World}{K:PF}{mg:AH}{base:Heap}{CX:CXT}{x g:Str}{st:Stmt}{f:AQ}{fd:AJ}{N ps:AD}{k:Nat}{sp:Sp}(F:Fun K x g st f fd)(S:FnScope N ps (aq st))(len:∀vs H Q E,sp vs H Q E->vs⁻¹=ps⁻¹)
  (z:∀(q:AN)(A:AM)(outer:List Env)(s:AI)(H:Hp)(vs:AR)(Q:VK)(E:XK),Room k (A.deeper (envOfC g (aq st) (~~~s) f q))->sp vs H Q E->
   ∃t,PSs (dX CX P w K mg base N g (aq st) f q A outer s H E) (aH st) t/\t {nx:=λy H'=>Q .non H',rt:=Q} (start N vs) H):FnOk P w K mg base CX (k+1) f fd ps sp:=by
 let(oc,od,kV,O,pm,an,q,ct,osl,rfl,Y,J):=F.ex;exact TY Y J S len λA outer s H vs Q E U L=>z q A outer s H vs Q E U L
def FnOk.cx{P:AK}{w:World}{K:PF}{mg:AH}{base:Heap}{k:Nat}{CX:CXT}{f:AQ}{fd:AJ}{ps:AD}{sp:Sp}(F:FnOk P w K mg base CX0 k f fd ps sp):FnOk P w K mg base CX k f fd ps sp:=
 ⟨F.len,λA outer s H args N vs Q E J he z L hs=>codeAny_mono (F.run A outer s H args N vs Q E J he z L hs) λr s' g=>by
  cases r with
  |error e=>exact False.elim g
  |ok q=>cases q<;>exact g⟩
end L2
namespace RF
open PySem PySem.Spec PyProof.Rows L2
def fnB(N ps:AD)(g:Scope):Bool:=
 decide (g.kind=.function)&&!g.isCoroutine&&!g.isGenerator&&fB N&&(N.take ps⁻¹==ps)&&ps.all (λx=>g.names.lookup x==-.local||g.names.lookup x==-.cell)&&g.names.all (λy=>y.2 != .free)
def Jc{N ps:AD}{g:Scope}(h:fnB N ps g=true):FnScope N ps g:=by unfold fnB at h;simp only[ae,gN,dc,a8,b3,dL,bne_iff_ne]at h;let((((((h1,h2),q),z),J),L),O):=h;exact⟨h1,h2,q,yE z,J,L,λy U=>O y U⟩
structure Bse(Z:aj)(P:AK)(w:World)(K:PF)(mg:AH)(base:Heap)(CX:CXT)(k:Nat)(fs:List (AL×Nat))(bt:List AL)(cn:List (AL×D))(xs:List (AL×Bool))(ot:OT):Prop where
 call:∀f n,(f,n)∈fs->∃fa fd ps,FnOk P w K mg base CX k fa fd ps (lift K n (Z f))/\PySem.W.keepIn K (.ref fa)=true/\Binds K fd ps []/\mg (⇑f)=some (.ref fa)
 blt:∀f,f∈bt->mg (⇑f)=none
 con:∀x d,(x,d)∈cn->∃u v,mg (⇑x)=some u/\RelV v u/\∀H F,Rep K H F d v
 xcl:∀C,xs.contains (C,true)=true->∃a,mg (⇑C)=some (.ref a)/\qR K a=true/\PySem.W.nsIn K mainGlobals (⇑C)=some (some (.ref a))
 xis:∀C',xs.contains (C',false)=true->∃cv,CV K mg C' cv/\∀C,xs.contains (C,true)=true->XI K C C' cv
 mth:∀f C m n,(f,C,m,n)∈ot.ms->MthOk Z P w K mg base CX k f C m n
 mko:∀C n,(C,n)∈ot.ks->MkoOk Z P w K mg base CX k C n
 fld:∀C f,(C,f)∈ot.fl->Ia K C f
 xko:∀C f,(C,f)∈ot.xk->XkoX P w K mg base CX k xs C f
def aJ(N:AD)(g:Scope)(fs:List (AL×Nat))(bt:List AL)(cn:List (AL×D))(xs:List (AL×Bool))(ot:OT):CT:={N:=N,kd:=g.names,fn:=true,fs:=fs,bt:=bt,cn:=cn,xs:=xs,ot:=ot}
section
variable {Z:aj} {P:AK} {w:World} {K:PF} {mg:AH} {base:Heap} {k:Nat} {fs:List (AL×Nat)} {bt:List AL} {cn:List (AL×D)} {xs:List (AL×Bool)} {ot:OT}
theorem aaI{N ps:AD}{g:Scope}{z:Str}{f:AQ}{J:AN}{A:AM}{outer:List Env}{s:AI}{H:Hp}{L:XK}{B:Bs}(T:Bse Z P w K mg base (CX1 P w) k fs bt cn xs ot)(hs:fnB N ps g=true)
  (O:Room k (A.deeper (envOfC z g (~~~s) f J))):Stat Z (CX1 P w) k (aJ N g fs bt cn xs ot) noE B (dX (CX1 P w) P w K mg base N z g f J A outer s H L).nox where
 N:=rfl
 nd:=(Jc hs).nd
 calm:=rfl
 own:=PassesOwn.never
 kd:=rfl
 vis:=λx h=>by
  have h:iQ (g.names.lookup x)=true:=h;change g.names.lookup x=_\/g.names.lookup x=_\/g.names.lookup x=_;unfold iQ at h;split at h<;>first | (cases h;done)|simp_all
 cel:=λx h=>h
 glo:=λx h=>h
 sto:=λx h=>by
  have h:(g.names.lookup x==-.local||(true&&g.names.lookup x==-.cell))=true:=h;rw[Bool.true_and,dL,a8,a8]at h;exact⟨h,.inl rfl⟩
 room:=O
 call:=T.call
 blt:=T.blt
 con:=T.con
 exc:=⟨_,Dd _,λy y y y y y y y y y q=>q.elim,λy y y y h=>h.elim⟩
 nox:=λY=>Dd Y
 xcl:=T.xcl
 loc:=λx h=>h
 xis:=T.xis
 mth:=T.mth
 mko:=T.mko
 fld:=T.fld
 xko:=T.xko
 trc:=λy=>⟨rfl,rfl,rfl⟩
theorem aaJ{outer:List Env}{H:Hp}{s s':AI}{e:AN}(h:CX1 P w outer H s (λz z z=>False) e s'):False:=by let(_,_,_,_,_,_,_,_,_,q):=h;exact q
def ends(Q:AT):En:={nx:=λz G=>Q .non G,rt:=Q,bk:=λz z=>False,ct:=λz z=>False}
def env0(ds:AS)(n:Nat):ak:=ds.map some++List.replicate n none
theorem tZ{x g:Str}{st:Stmt}{f:AQ}{fd:AJ}(U:Fun K x g st f fd)(T:Bse Z P w K mg base (CX1 P w) k fs bt cn xs ot){N ps:AD}{body:Sxs}(S:RF.Spec)(n m:Nat)(hs:fnB N ps (aq st)=true)
  (hc:aD (aJ N (aq st) fs bt cn xs ot) body (aH st)=true) (hn:ps⁻¹=n) (hm:N⁻¹=n+m)
  (hw:∀ds G a,ds⁻¹=n->S.pre ds G a->az Z body noE (env0 ds m) G (ends (S.post a))):FnOk P w K mg base (CX1 P w) (k+1) f fd ps (lift K n S):=by
 show U.okX (Jc hs) (λvs H Q E h=>by rw[hn];exact h.1) λJ A outer s H vs Q O hr L=>?_;let(hl,F,G,ds,r,rs,a,h1,h2,h3):=L;have St:Stat Z (CX1 P w) k (aJ N (aq st) fs bt cn xs ot) noE ⟨H,F⟩ (dX (CX1 P w) P w K mg base N g (aq st) f J A outer s H O).nox:=aaI T hs hr;show⟨_,(jP St body hc).nox,?_⟩;show⟨env0 ds m,F,G,Ext.refl _ _,?_,r,dJ body (D:=ends (S.post a)) ⟨λY z q=>?_,λd z q=>h2 d z q,λy y q=>False.elim q,λy y q=>False.elim q⟩ (hw ds G a (by rw[rs⁻¹];exact hl) h1)⟩
 .unfold L2.start;rw[show N⁻¹-vs⁻¹=m by lia];exact EnvR.start m rs
 .intro H' F' σ' x1 _ r1;exact h2 .non z q H' F' .non x1 r1 rfl
end
def bR(pre:AS->DH->Prop)(post:AS->DH->D->DH->Prop):RF.Spec where
 A:=AS×DH
 pre:=λds G a=>a=(ds,G)/\pre ds G
 post:=λa d g=>post a.1 a.2 d g
 exc:=λz z z=>False
def cF{pre:AS->DH->Prop}{post:AS->DH->D->DH->Prop}{ds:AS}{G:DH}{k:AT}{E:EK}(h:pre ds G)(q:∀d g,post ds G d g->k d g):(bR pre post).t ds G k E:=
 ⟨(ds,G),⟨rfl,h⟩,q,λy y z=>z.elim⟩
def cJ{Z:aj}{body:Sxs}{m n:Nat}{pre:AS->DH->Prop}{post:AS->DH->D->DH->Prop}(h:∀ds G,pre ds G->az Z body noE (env0 ds m) G (ends (post ds G))):
  ∀ds G a,ds⁻¹=n->(bR pre post).pre ds G a->az Z body noE (env0 ds m) G (ends ((bR pre post).post a)):=by
 rintro ds G a _ ⟨rfl,h1⟩;exact h ds G h1
def aU(f:AS->Option D):RF.Spec:=bR (λds z=>(f ds).isSome=true) (λds G d g=>g=G/\f ds=-d)
def dW{f:AS->Option D}{ds:AS}{d:D}{G:DH}{k:AT}{E:EK}(h:f ds=-d)(z:k d G):(aU f).t ds G k E:=
 cF (by rw[h];rfl) λd' J zZ=>by let(q,g):=zZ;rw[h]at g;cases g;rw[q];exact z
def gW{Z:aj}{body:Sxs}{m n:Nat}{f:AS->Option D}(h:∀ds G d,f ds=-d->az Z body noE (env0 ds m) G (ends λd' g=>g=G/\d'=d)):
  ∀ds G a,ds⁻¹=n->(aU f).pre ds G a->az Z body noE (env0 ds m) G (ends ((aU f).post a)):=by
 show cJ λds G z=>?_;let(d,e):=cq.mp z;show dJ body (D:=ends λd' g=>g=G/\d'=d) ⟨λY g q=>?_,λd' g q=>?_,λy y q=>q,λy y q=>q⟩ (h ds G d e)
 .exact ⟨q.1,by rw[e];exact fb some q.2.symm⟩
 .exact ⟨q.1,by rw[e];exact fb some q.2.symm⟩
def aaK{step:D->ak->DH->(ak->DH->Prop)->Prop}{g:Hld}{q:AS}{Y:ak}{G:DH}{k:ak->DH->Prop}(P:Nat->ak->DH->Prop)(h0:P 0 Y G)(hh:∀i Y G,P i Y G->held g G)
  (hs:∀i d Y G,q[i]?=-d->P i Y G->∀L:ak->DH->Prop,(∀z J,P (i+1) z J->L z J)->step d Y G L) (he:∀Y G,P q⁻¹ Y G->k Y G):forLoop step g q Y G k:=by
 have go:∀(l:AS)(i:Nat)(Y:ak)(G:DH),q.drop i=l->i<=q⁻¹->P i Y G->forLoop step g l Y G k:=by
  intro l;induction l with
  |nil=>
   intro i Y G e hi p;have:i=q⁻¹:=by have:=fb List.length e;rw[e7]at this;simp at this;lia
   subst this;exact⟨hh _ _ _ p,he _ _ p⟩
  |cons d l N=>
   intro i Y G e hi p;have hl:i<q⁻¹:=by
    by_cases h:i<q⁻¹
    .exact h
    .rw[List.drop_eq_nil_of_le (!0)]at e;cases e
   rw[bg hl]at e;injection e with e1 e2;show⟨hh _ _ _ p,hs i d Y G (by rw[al hl,e1]) p _ λz J O=>N (i+1) z J e2 hl O⟩
 exact go _ 0 Y G (!2) (cb _) h0
def Jd{step:D->ak->DH->(Option D->ak->DH->Prop)->Prop}{g:Hld}{z q:AS}{Y:ak}{G:DH}{k:AS->DH->Prop}(P:Nat->AS->ak->DH->Prop)(h0:P 0 q Y G)(hh:∀i q Y G,P i q Y G->held g G)
  (hl:q⁻¹+z⁻¹<=sz)
  (hs:∀i d q Y G,z[i]?=-d->P i q Y G->∀U:Option D->ak->DH->Prop,(∀o J L,P (i+1) (q++o.toList) J L->U o J L)->step d Y G U) (he:∀q Y G,P z⁻¹ q Y G->k q G):compLoop step g z q Y G k:=by
 have go:∀(l:AS)(i:Nat)(q:AS)(Y:ak)(G:DH),z.drop i=l->i<=z⁻¹->q⁻¹+l⁻¹<=sz->P i q Y G->compLoop step g l q Y G k:=by
  intro l;induction l with
  |nil=>
   intro i q Y G e hi N p;have:i=z⁻¹:=by have:=fb List.length e;rw[e7]at this;simp at this;lia
   subst this;exact⟨hh _ _ _ _ p,!!N,he _ _ _ p⟩
  |cons d l O=>
   intro i q Y G e hi N p;have hl:i<z⁻¹:=by
    by_cases h:i<z⁻¹
    .exact h
    .rw[List.drop_eq_nil_of_le (!0)]at e;cases e
   rw[bg hl]at e;injection e with e1 e2;have ha':q⁻¹+(l⁻¹+1)<=sz:=N;show⟨hh _ _ _ _ p,!0,hs i d q Y G (by rw[al hl,e1]) p _ λo J L p'=>?_⟩;cases o with
   |some y=>exact O (i+1) (q++[y]) J L e2 hl (by rw[am];simp;lia) p'
   |none=>exact O (i+1) q J L e2 hl (!0) (!!p')
 exact go _ 0 q Y G (!2) (cb _) hl h0
def aaL{step:D->ak->DH->(Option D->ak->DH->Prop)->Prop}{q:AS}{Y:ak}{G:DH}{k:AS->DH->Prop}(g:Hld)(f:D->Option D)(I:ak->Prop)(h0:I Y)(U:held g G)(hl:q⁻¹<=sz)
  (hs:∀d Y,d∈q->I Y->∀N:Option D->ak->DH->Prop,(∀z,I z->N (f d) z G)->step d Y G N) (he:k (q.filterMap f) G):compLoop step g q [] Y G k:=by
 show Jd (λi J z L=>I z/\L=G/\J=(q.take i).filterMap f) ⟨h0,rfl,rfl⟩ (λi J z L p=>by rw[p.2.1];exact U) (!!hl) ?_ ?_
 .rintro i d J z L O ⟨p1,rfl,rfl⟩ N hk;show hs d z (br O) p1 N λρ2 i2=>hk _ _ _ ⟨i2,rfl,?_⟩;rw[eR,O,List.filterMap_append];congr 1
 .rintro J z L ⟨_,rfl,rfl⟩;rw[eK];exact he
def aaM{step:D->ak->DH->(Option D->ak->DH->Prop)->Prop}{q:AS}{Y:ak}{G:DH}{k:AS->DH->Prop}(g:Hld)(f:D->D)(I:ak->Prop)(h0:I Y)(L:held g G)(hl:q⁻¹<=sz)
  (hs:∀d Y,d∈q->I Y->∀J:Option D->ak->DH->Prop,(∀z,I z->J (-(f d)) z G)->step d Y G J) (he:k (q.map f) G):compLoop step g q [] Y G k:=
 aaL g (λd=>-(f d)) I h0 L hl hs (by rw[<-List.filterMap_eq_map]at he;exact he)
def my{g:Type}(f:g->Bool):∀l:List g,bools (l.map λx=>D.bl (f x))=-(l.map f)
 |[]=>rfl
 |x::l=>by simp[bools,my f l]
def strs_map{g:Type}(f:g->AA):∀l:List g,bF (l.map λx=>D.str (f x))=-(l.map f)
 |[]=>rfl
 |x::l=>by simp[bF,strs_map f l]
def Jf:∀l:List (AA),eQ [] l=l.flatten
 |[]=>rfl
 |[x]=>by simp[eQ]
 |x::y::r=>by simp[eQ,Jf (y::r)]
def Sa(G g:DH):Prop:=∀b o,G b=-o->g b=-o
def Sb(p:AQ)(G g:DH):Prop:=∀b o,G b=-o->b≠p->g b=-o
def Sa.refl(G:DH):Sa G G:=λz z h=>h
def Sb.refl(p:AQ)(G:DH):Sb p G G:=λz z h z=>h
def Sa.trans{G G1 G2:DH}(a:Sa G G1)(b:Sa G1 G2):Sa G G2:=λc o h=>b c o (a c o h)
def Sb.trans{p:AQ}{G G1 G2:DH}(a:Sb p G G1)(b:Sb p G1 G2):Sb p G G2:=λc o h n=>b c o (a c o h n) n
def Sa.sb{p:AQ}{G g:DH}(a:Sa G g):Sb p G g:=λc o h z=>a c o h
def Sa.new{G:DH}{p:AQ}{o:DO}(h:G p=none):Sa G (aL G p o):=λb u e=>by rw[aY (lw e h)];exact e
def Sb.upd{G:DH}{p:AQ}{o:DO}:Sb p G (aL G p o):=λb u e n=>by rw[aY n];exact e
def Sa.then{p:AQ}{G G1 G2:DH}(a:Sa G G1)(g:G p=none)(b:Sb p G1 G2):Sa G G2:=λc o h=>b c o (a c o h) (lw h g)
def Sa.frz{G G1:DH}{p:AQ}(a:Sa G G1)(g:G p=none):Sa G (gD G1 p):=λc o h=>by rw[iG (lw h g)];exact a c o h
def aaN{g:Type}{a:g}{l:List g}:atI (a::l) 0=-a:=bW (j:=0) rfl
def aaO{g:Type}{a b:g}{l:List g}:atI (a::b::l) 1=-b:=bW (j:=1) rfl
def aaP{g:Type}{a b c:g}{l:List g}:atI (a::b::c::l) 2=-c:=bW (j:=2) rfl
def aaQ{g:Type}{a b c d:g}{l:List g}:atI (a::b::c::d::l) 3=-d:=bW (j:=3) rfl
def aaR{n j:Nat}(h:j<n):ixN n (j:Int)=-j:=by unfold ixN;rw[if_pos (!0),if_pos (!0)];simp
def aaS{n:Nat}:ixN (n+1) 0=-0:=by unfold ixN;rw[if_pos (!0),if_pos (!0)];rfl
def aaT{n:Nat}:ixN (n+2) 1=-1:=by unfold ixN;rw[if_pos (!0),if_pos (!0)];rfl
def aaU{n:Nat}:ixN (n+3) 2=-2:=by unfold ixN;rw[if_pos (!0),if_pos (!0)];rfl
def aaV{g:Type}{xs:List g}{i:Int}(h0:0<=i)(h1:i<xs⁻¹):∃a,atI xs i=-a/\a∈xs:=by
 let(n,rfl):=ck h0;have hn:n<xs⁻¹:=by lia
 exact⟨xs[n],bW (by simp[hn]),c8 _⟩
def Jg{g:Type}(xs:List g)(lo hi:Option Int):(cut xs lo hi)⁻¹<=xs⁻¹:=by unfold cut;rw[d4,e7];lia
def aaW{l:AS}:bN l []=l.isEmpty:=by cases l<;>rfl
def yI{g:Type}(l:List g)(n:Nat):cut l none (-(n:Int))=l.take n:=by
 unfold cut;rw[show HT.sIx l⁻¹ 0 none=0 from rfl,HT.BW,List.drop_zero,Nat.sub_zero];by_cases h:n<=l⁻¹
 .rw[Nat.min_eq_left h]
 .rw[gc (!0),fq (av _),fq (!0)]
def Jh{g:Type}(l:List g)(n:Nat):cut l (-(n:Int)) none=l.drop n:=by
 unfold cut;rw[show HT.sIx l⁻¹ l⁻¹ none=l⁻¹ from rfl,HT.BW];by_cases h:n<=l⁻¹
 .rw[Nat.min_eq_left h,fq (by rw[e7];exact av _)]
 .rw[gc (!0),Nat.sub_self,List.take_zero,List.drop_eq_nil_of_le (!0)]
def Ji{g:Type}(l:List g)(n:Nat):cut l (-((n:Int)+1)) none=l.drop (n+1):=Jh l (n+1)
def Jj{q:Type}{g:List q->Prop}(l:List q)(nil:g [])(snoc:∀(l:List q)(a:q),g l->g (l++[a])):g l:=by
 have go:∀(n:Nat)(l:List q),l⁻¹=n->g l:=by
  intro n;induction n with
  |zero=>intro l h;rw[dy.mp h];exact nil
  |succ n J=>
   intro l h;have z:l≠[]:=by rintro rfl;simp at h
   rw[<-fx z];exact snoc _ _ (J _ (by rw[List.length_dropLast];lia))
 exact go _ l rfl
section
variable {G:DH} {k:AT} {fz:Bool} {kb:Bool->Prop} {kd:D->Prop} {p:AQ}
theorem aaX{i j:Int}:dj .Add fz (.int i) (.int j) G k=k (.int (i+j)) G:=rfl
theorem aaY{x y:AA}:dj .Add fz (.str x) (.str y) G k=(x⁻¹+y⁻¹<=sz/\k (.str (x++y)) G):=rfl
theorem aaZ{x y:AS}:dj .Add fz (.lst x) (.lst y) G k=(x⁻¹+y⁻¹<=sz/\mk fz (x++y) G k):=rfl
theorem aa0{x y:AS}:dj .Add fz (.tup x) (.tup y) G k=(x⁻¹+y⁻¹<=sz/\k (.tup (x++y)) G):=rfl
theorem aa1{i j:Int}:dj .Sub fz (.int i) (.int j) G k=k (.int (i-j)) G:=rfl
theorem aa2{i j:Int}:dj .Mult fz (.int i) (.int j) G k=(CMul i j/\k (.int (i*j)) G):=rfl
theorem aa3{x:AA}{n:Int}:dj .Mult fz (.str x) (.int n) G k=(0<=n/\n<=1000/\x⁻¹*n.toNat<=sz/\k (.str (reps x n.toNat)) G):=rfl
theorem aa4{i j:Int}:dj .FloorDiv fz (.int i) (.int j) G k=((0<j/\j<1152921504606846976)/\k (.int (i/j)) G):=rfl
theorem aa5{i j:Int}:dj .Mod fz (.int i) (.int j) G k=(0<j/\k (.int (i%j)) G):=rfl
theorem aa6{i j:Int}:dj .Pow fz (.int i) (.int j) G k=(qL i j/\k (.int (i ^ j.toNat)) G):=rfl
def fH:D->Bool
 |.non=>true
 |_=>false
theorem aa7{a b:D}:aZ .Eq a b kb=((nr a=true/\nr b=true/\min (dpt a) (dpt b)<=60)/\kb (deq a b)):=rfl
theorem aa8{a b:D}:aZ .NotEq a b kb=((nr a=true/\nr b=true/\min (dpt a) (dpt b)<=60)/\kb (!deq a b)):=rfl
theorem aa9{i j:Int}:aZ .Lt (.int i) (.int j) kb=kb (decide (i<j)):=rfl
theorem aba{i j:Int}:aZ .LtE (.int i) (.int j) kb=kb (decide (i<=j)):=rfl
theorem abb{i j:Int}:aZ .Gt (.int i) (.int j) kb=kb (decide (j<i)):=rfl
theorem abd{i j:Int}:aZ .GtE (.int i) (.int j) kb=kb (decide (j<=i)):=rfl
theorem abe{i j:AA}:aZ .Lt (.str i) (.str j) kb=kb (decide (i<j)):=rfl
theorem abf{i j:AA}:aZ .LtE (.str i) (.str j) kb=kb (!decide (j<i)):=rfl
theorem abg{a:D}:aZ .Is a .non kb=kb (fH a):=by cases a<;>rfl
theorem abh{a:D}:aZ .IsNot a .non kb=kb (!fH a):=by cases a<;>rfl
theorem abi{a b:Bool}:aZ .Is (.bl a) (.bl b) kb=kb (a==b):=rfl
theorem abj{a b:Bool}:aZ .IsNot (.bl a) (.bl b) kb=kb (a != b):=rfl
theorem abk{c:Nat}{l:AA}:aZ .In (.str [c]) (.str l) kb=kb (l.contains c):=rfl
theorem abl{c:Nat}{l:AA}:aZ .NotIn (.str [c]) (.str l) kb=kb (!l.contains c):=rfl
theorem abm{a:D}{l:AS}:aZ .In a (.lst l) kb=((nr a=true/\nrs l=true/\bh l<=60)/\kb (isIn a l)):=rfl
theorem abn{a:D}{l:AS}:aZ .In a (.tup l) kb=((nr a=true/\nrs l=true/\bh l<=60)/\kb (isIn a l)):=rfl
theorem abo{a:D}{l:AS}:aZ .NotIn a (.lst l) kb=((nr a=true/\nrs l=true/\bh l<=60)/\kb (!isIn a l)):=rfl
theorem abp{a:D}{l:AS}:aZ .NotIn a (.tup l) kb=((nr a=true/\nrs l=true/\bh l<=60)/\kb (!isIn a l)):=rfl
theorem abq{i:Int}:fH (.int i)=false:=rfl
theorem abr{i:Bool}:fH (.bl i)=false:=rfl
theorem abt{i:AA}:fH (.str i)=false:=rfl
theorem abu{i:AS}:fH (.tup i)=false:=rfl
theorem abv{i:AS}:fH (.lst i)=false:=rfl
theorem abw{i:AQ}:fH (.ref i)=false:=rfl
theorem abx:fH .non=true:=rfl
def aQ{g:Type}(o:Option g)(k:g->Prop):Prop:=match o with|some a=>k a|none=>False
theorem gj{g:Type}{a:g}{k:g->Prop}:aQ (-a) k=k a:=rfl
theorem bL{g:Type}{o:Option g}{a:g}{k:g->Prop}(e:o=-a)(h:k a):aQ o k:=by rw[e];exact h
theorem Jl{g:Type}{xs:List g}{i:Int}{k:g->Prop}(h0:0<=i)(h1:i<xs⁻¹)(h:∀a,a∈xs->k a):aQ (atI xs i) k:=by let(a,e,m):=aaV h0 h1;exact bL e (h a m)
theorem aby{ds:AS}{i:Int}:cV (.lst ds) (.int i) kd=aQ (atI ds i) kd:=by unfold cV aQ;(try dsimp only)<;>(cases atI ds i<;>rfl)
theorem abz{ds:AS}{i:Int}:cV (.tup ds) (.int i) kd=aQ (atI ds i) kd:=by unfold cV aQ;(try dsimp only)<;>(cases atI ds i<;>rfl)
theorem abA{l:AA}{i:Int}:cV (.str l) (.int i) kd=aQ (atI l i) (λc=>kd (.str [c])):=by unfold cV aQ;(try dsimp only)<;>(cases atI l i<;>rfl)
theorem abB{ds:AS}{lo hi:Option Int}:eO fz (.lst ds) lo hi G k=mk fz (cut ds lo hi) G k:=rfl
theorem abC{ds:AS}{y:D}:rn fz (.lst ds) y G k=(y=.int (Neg.neg 1)/\mk fz ds.reverse G k):=rfl
theorem abD{ds:List Int}{lo hi:Option Int}:eO fz (.scr ds) lo hi G k=mk fz ((cut ds lo hi).map .int) G k:=rfl
theorem abE{ds:AS}{lo hi:Option Int}:eO fz (.tup ds) lo hi G k=k (.tup (cut ds lo hi)) G:=rfl
theorem abF{ds:AA}{lo hi:Option Int}:eO fz (.str ds) lo hi G k=k (.str (cut ds lo hi)) G:=rfl
theorem abG{ds:AS}:opB .len [.lst ds] kd=kd (.int ds⁻¹):=rfl
theorem abH{ds:AS}:opB .len [.tup ds] kd=kd (.int ds⁻¹):=rfl
theorem abI{ds:AA}:opB .len [.str ds] kd=kd (.int ds⁻¹):=rfl
theorem abJ{ds:AS}:opB .any [.lst ds] kd=aQ (bools ds) (λbs=>kd (.bl (bs.any id))):=by unfold opB rB aQ;(try dsimp only)<;>(cases bools ds<;>rfl)
theorem abK{ds:AS}{i:Int}:opM .idxT (.tup ds) [.int i] G k=aQ (bj ds) (λns=>i∈ns/\k (.int (ns.idxOf i:Nat)) G):=by unfold opM rK aQ;(try dsimp only)<;>(cases bj ds<;>rfl)
theorem abL{ds:AS}:recv .idxT (.tup ds) G=True:=rfl
theorem abM{ds:AS}:opB .all [.lst ds] kd=aQ (bools ds) (λbs=>kd (.bl (bs.all id))):=by unfold opB rA aQ;(try dsimp only)<;>(cases bools ds<;>rfl)
theorem abN{b:Bool}:opB .int [.bl b] kd=kd (.int (if b then 1 else 0)):=rfl
theorem abO{b:Int}:opB .int [.int b] kd=kd (.int b):=rfl
theorem abP{l:AA}:opB .int [.str l] kd=aQ (PySem.intText? (tx l)) (λn=>l⁻¹<=640/\kd (.int n)):=by unfold opB rD aQ;(try dsimp only)<;>(cases PySem.intText? (tx l)<;>rfl)
theorem abQ{ds:AS}:opB .sum [.lst ds] kd=aQ (bj ds) (λns=>kd (.int ns.sum)):=by unfold opB vZ aQ;(try dsimp only)<;>(cases bj ds<;>rfl)
theorem abR{a:Int}:opB .str [.int a] kd=((0<=a/\a<100)/\kd (.str (gJ a.toNat))):=rfl
theorem abS{a:Int}:opB .abs [.int a] kd=kd (.int (if a<0 then Neg.neg a else a)):=rfl
theorem abT{a b:Int}:opB .min2 [.int a,.int b] kd=kd (.int (if b<a then b else a)):=rfl
theorem abU{a b:Int}:opB .max [.int a,.int b] kd=kd (.int (if b > a then b else a)):=rfl
theorem abV{ds:AS}{q:AS->Prop}:cM .sorted [.tup ds] q=aQ (bj ds) (λns=>ns⁻¹<64/\∀g:List Int,g.Perm ns->g.Pairwise (·<=·)->q (g.map D.int)):=by unfold cM lA aQ;(try dsimp only)<;>(cases bj ds<;>rfl)
theorem abW{ds:AS}{kd:D->Prop}:jA (.lst ds) kd=aQ (fV ds) (λks=>ks⁻¹<=200/\kd (.int ((vV ks)⁻¹:Nat))):=by unfold jA aQ;(try dsimp only)<;>(cases fV ds<;>rfl)
theorem abX{ds:AS}{q:AS->Prop}:lB (.lst ds) q=aQ (bF ds) (λls=>(ls⁻¹<=1000/\(rE ls)⁻¹<=64)/\∀g:List (AA),g.Perm (rE ls)->q (g.map D.str)):=by unfold lB aQ;(try dsimp only)<;>(cases bF ds<;>rfl)
theorem abY{ds:AS}{q:AS->Prop}:cM .sorted [.lst ds] q=aQ (bF ds) (λls=>ls⁻¹<64/\∀g:List (AA),g.Perm ls->PyProof.Rows.sortedS (g.map tx)=true->q (g.map D.str)):=by unfold cM lA aQ;(try dsimp only)<;>(cases bF ds<;>rfl)
theorem abZ{ds:AS}:opB .tuple [.lst ds] kd=kd (.tup ds):=rfl
theorem ab0{ds:AS}:opB .tuple [.tup ds] kd=kd (.tup ds):=rfl
theorem ab1{ds:AS}{g:AS->Prop}:cM .list [.lst ds] g=g ds:=rfl
theorem ab2{ds:AS}{g:AS->Prop}:cM .list [.tup ds] g=g ds:=rfl
theorem ab3{l:AA}{g:AS->Prop}:cM .list [.str l] g=g (l.map λc=>.str [c]):=rfl
theorem ab4{s:AA}{ds:AS}:opM .join (.str s) [.lst ds] G k=aQ (bF ds) (λls=>((ls.map (·.length)).sum+ls⁻¹*s⁻¹<=sz)/\k (.str (eQ s ls)) G):=by unfold opM rF aQ;(simp only[a7,List.map_nil,view])<;>(cases bF ds<;>rfl)
def trk(G:DH)(p:AQ)(k:AS->Prop):Prop:=match G p with|some (.lst ds)=>k ds|_=>False
theorem ab5:fY (.ref p) G k=trk G p (λz=>k .non (aL G p (.lst []))):=by unfold fY trk;(try dsimp only)<;>(cases G p<;>first|rfl | (rename_i o;cases o<;>rfl))
theorem cg{ds:AS}{k:AS->Prop}(e:G p=-(.lst ds)):trk G p k=k ds:=by unfold trk;rw[e]
theorem ab6{x:D}:opM .append (.ref p) [x] G k=trk G p (λds=>ds⁻¹<sz/\k .non (aL G p (.lst (ds++[x])))):=by unfold opM rG trk;(try dsimp only)<;>(cases G p<;>first|rfl | (rename_i o;cases o<;>rfl))
theorem Jm{i:Int}:opM .pop (.ref p) [.int i] G k=trk G p (λds=>0<=i/\i<=1000000/\aQ ds[i.toNat]? λy=>k y (aL G p (.lst (ds.eraseIdx i.toNat)))):=by
 unfold opM rJ trk
 (try dsimp only)<;>(cases G p<;>first|rfl | (rename_i o;cases o with|lst ds=>unfold aQ;dsimp only;cases ds[i.toNat]?<;>rfl|dct _ _=>rfl))
theorem Jo:recv .pop (.ref p) G=trk G p (λz=>True):=by unfold recv trk;(try dsimp only)<;>(cases G p<;>first|rfl | (rename_i o;cases o<;>rfl))
theorem ab7{xs:AS}:opM .extend (.ref p) [.lst xs] G k=trk G p (λds=>ds⁻¹+xs⁻¹<sz/\k .non (aL G p (.lst (ds++xs)))):=by unfold opM rH trk;(simp only[a7,List.map_nil,view])<;>(cases G p<;>first|rfl | (rename_i o;cases o<;>rfl))
theorem ab8{i j:Nat}{ds:AS}{Y:ak}{g:ak->DH->Prop}:Xp i j (.lst ds) Y G g=(ds≠[]/\∀xs y,ds=xs++[y]->g ((Y.set i (-(.lst xs))).set j (-y)) G):=rfl
theorem ab9{C:AL}{xs:List AL}{g:Bool->Prop}:v8 C xs .non g=g false:=rfl
theorem aca{C c:AL}{xs:List AL}{g:Bool->Prop}:v8 C xs (.exn c) g=(xs.contains c=true/\g (gK c C)):=rfl
theorem acb{C c f:AL}{d:D}{xs:List AL}{g:Bool->Prop}:v8 C xs (.exa c f d) g=(xs.contains c=true/\g (gK c C)):=rfl
theorem x_at{C f:AL}{v:D}{g:D->Prop}:Ey C f (.exa C f v) g=g v:=by simp[Ey]
theorem acd{b f:AL}{d:D}:view G (.exa b f d)=.exa b f d:=rfl
theorem ace{s:AA}:recv .join (.str s) G=True:=rfl
theorem acf:recv .append (.ref p) G=trk G p (λz=>True):=by unfold recv trk;(try dsimp only)<;>(cases G p<;>first|rfl | (rename_i o;cases o<;>rfl))
theorem acg:recv .extend (.ref p) G=trk G p (λz=>True):=by unfold recv trk;(try dsimp only)<;>(cases G p<;>first|rfl | (rename_i o;cases o<;>rfl))
theorem ach{i:Int}{x:D}{g:DH->Prop}:dZ (.ref p) (.int i) x G g=trk G p (λds=>aQ (ixN ds⁻¹ i) (λj=>g (aL G p (.lst (ds.set j x))))):=by
 unfold dZ trk aQ
 (try dsimp only)<;>(cases G p<;>first|rfl | (rename_i o;cases o with|lst ds=>dsimp only;cases ixN ds⁻¹ i<;>rfl|dct _ _=>rfl))
theorem t6{l:AS}{g:List Int->Prop}:cB (.tup l) g=aQ (bj l) g:=by unfold cB aQ;dsimp only;cases bj l<;>rfl
theorem Jp{a:D}{ks:List (List Int)}{ds:AS}:aZ .In a (.dct ks ds) kb=cB a λn=>kb (kIx ks n).isSome:=rfl
theorem Jq{a:D}{ks:List (List Int)}{ds:AS}:aZ .NotIn a (.dct ks ds) kb=cB a λn=>kb (!(kIx ks n).isSome):=rfl
theorem Jr{ks:List (List Int)}{ds:AS}{l:AS}:cV (.dct ks ds) (.tup l) kd=cB (.tup l) λn=>aQ (kIx ks n) λi=>aQ ds[i]? kd:=by
 unfold cV cB aQ;dsimp only;cases bj l with
 |none=>rfl
 |some n=>dsimp only;cases kIx ks n with
  |none=>rfl
  |some i=>dsimp only;cases ds[i]?<;>rfl
theorem aci{ks:List (List Int)}{ds:AS}:opB .len [.dct ks ds] kd=kd (.int ks⁻¹):=rfl
theorem acj{ks:List (List Int)}{ds:AS}{g:AS->Prop}:cM .list [.dct ks ds] g=g (ks.map λn=>.tup (n.map .int)):=rfl
def mz(G:DH)(p:AQ)(k:List (List Int)->AS->Prop):Prop:=match G p with|some (.dct ks ds)=>k ks ds|_=>False
theorem yJ{ks:List (List Int)}{ds:AS}{k:List (List Int)->AS->Prop}(e:G p=-(.dct ks ds)):mz G p k=k ks ds:=by unfold mz;rw[e]
theorem Js{l:AS}{x:D}{g:DH->Prop}:dZ (.ref p) (.tup l) x G g=mz G p (λks ds=>cB (.tup l) λn=>ks⁻¹<sz/\g (aL G p (dput ks ds n x))):=by
 unfold dZ mz;dsimp only;cases G p with
 |none=>rfl
 |some o=>cases o<;>rfl
theorem cG{ks:List (List Int)}{ds:AS}(e:G p=-(.dct ks ds)):view G (.ref p)=.dct ks ds:=by unfold view;dsimp only;rw[e]
theorem ack{i j:Int}:fj .Add (.int i) (.int j) kd=kd (.int (i+j)):=rfl
theorem acl{x y:AA}:fj .Add (.str x) (.str y) kd=(x⁻¹+y⁻¹<=sz/\kd (.str (x++y))):=rfl
theorem acn{i j:Int}:fj .Sub (.int i) (.int j) kd=kd (.int (i-j)):=rfl
theorem aco{xs:AS}:mk true xs G k=k (.lst xs) G:=rfl
theorem acp{xs:AS}:mk false xs G k=∀p,G p=none->k (.ref p) (aL G p (.lst xs)):=rfl
theorem acq:view G .non=.non:=rfl
theorem acr{b:Bool}:view G (.bl b)=.bl b:=rfl
theorem acs{b:Int}:view G (.int b)=.int b:=rfl
theorem acu{b:AA}:view G (.str b)=.str b:=rfl
theorem acv{b:AS}:view G (.tup b)=.tup b:=rfl
theorem acw{b:AS}:view G (.lst b)=.lst b:=rfl
theorem acx{C f:AL}{q:AQ}:view G (.obj C f q)=.obj C f q:=rfl
theorem acy{b:AL}:view G (.exn b)=.exn b:=rfl
theorem acz{b:List Int}:view G (.scr b)=.scr b:=rfl
theorem cj{ds:AS}(e:G p=-(.lst ds)):view G (.ref p)=.lst ds:=by unfold view;dsimp only;rw[e]
theorem acA:truth .non=-false:=rfl
theorem acB{b:Bool}:truth (.bl b)=-b:=rfl
theorem acC{i:Int}:truth (.int i)=-(i != 0):=rfl
theorem acD{l:AA}:truth (.str l)=-(!l.isEmpty):=rfl
theorem acE{l:AS}:truth (.tup l)=-(!l.isEmpty):=rfl
theorem acF{l:AS}:truth (.lst l)=-(!l.isEmpty):=rfl
theorem acG{l:AS}:itemsOf G (.lst l)=-(l,[]):=rfl
theorem acH{l:AS}:itemsOf G (.tup l)=-(l,[]):=rfl
theorem acI{l:AA}:itemsOf G (.str l)=-(l.map λc=>.str [c],[]):=rfl
theorem acJ{t:AL}:isT t .non=-false:=rfl
theorem acK {t:AL} {b:Bool}:isT t (.bl b)=-(t=="bool"||t=="int"):=rfl
theorem acL {t:AL} {b:Int}:isT t (.int b)=-(t=="int"):=rfl
theorem acM {t:AL} {b:AA}:isT t (.str b)=-(t=="str"):=rfl
theorem is_tup {t:AL} {b:AS}:isT t (.tup b)=-(t=="tuple"):=rfl
theorem acN {t:AL} {b:AS}:isT t (.lst b)=-(t=="list"):=rfl
theorem acO{i:Nat}{d:D}{Y:ak}{g:ak->Prop}:bA (.nm i) d Y G g=g (Y.set i (-d)):=rfl
theorem acP{ts:Tgs}{ds:AS}{Y:ak}{g:ak->Prop}:bA (.tp ts) (.lst ds) Y G g=bY ts ds Y G g:=rfl
theorem acQ{ts:Tgs}{ds:AS}{Y:ak}{g:ak->Prop}:bA (.tp ts) (.tup ds) Y G g=bY ts ds Y G g:=rfl
theorem acR{ρ:ak}{g:ak->Prop}:bY .nil [] ρ G g=g ρ:=rfl
theorem acS{t:Tg}{r:Tgs}{d:D}{ds:AS}{Y:ak}{q:ak->Prop}:bY (.cons t r) (d::ds) Y G q=bA t d Y G (λg=>bY r ds g G q):=rfl
theorem acT:deq .non .non=true:=rfl
theorem acU  {y:Bool}:deq .non (.bl y)=false:=rfl
theorem acV  {y:Int}:deq .non (.int y)=false:=rfl
theorem acW  {y:AA}:deq .non (.str y)=false:=rfl
theorem acX  {y:AS}:deq .non (.tup y)=false:=rfl
theorem acY  {y:AS}:deq .non (.lst y)=false:=rfl
theorem acZ{x:Bool} :deq (.bl x) .non=false:=rfl
theorem ac0{x:Bool}{y:Bool}:deq (.bl x) (.bl y)=(x==y):=by rw[deq]
theorem ac1{x:Bool}{y:AA}:deq (.bl x) (.str y)=false:=rfl
theorem ac2{x:Bool}{y:AS}:deq (.bl x) (.tup y)=false:=rfl
theorem ac3{x:Bool}{y:AS}:deq (.bl x) (.lst y)=false:=rfl
theorem ac4{x:Int} :deq (.int x) .non=false:=rfl
theorem ac5{x:Int}{y:Int}:deq (.int x) (.int y)=(x==y):=by rw[deq]
theorem ac6{x:Int}{y:AA}:deq (.int x) (.str y)=false:=rfl
theorem ac7{x:Int}{y:AS}:deq (.int x) (.tup y)=false:=rfl
theorem ac8{x:Int}{y:AS}:deq (.int x) (.lst y)=false:=rfl
theorem ac9{x:AA} :deq (.str x) .non=false:=rfl
theorem ada{x:AA}{y:Bool}:deq (.str x) (.bl y)=false:=rfl
theorem adb{x:AA}{y:Int}:deq (.str x) (.int y)=false:=rfl
theorem adc{x:AA}{y:AA}:deq (.str x) (.str y)=(x==y):=by rw[deq]
theorem ade{x:AA}{y:AS}:deq (.str x) (.tup y)=false:=rfl
theorem adf{x:AA}{y:AS}:deq (.str x) (.lst y)=false:=rfl
theorem adg{x:AS} :deq (.tup x) .non=false:=rfl
theorem adh{x:AS}{y:Bool}:deq (.tup x) (.bl y)=false:=rfl
theorem adi{x:AS}{y:Int}:deq (.tup x) (.int y)=false:=rfl
theorem adk{x:AS}{y:AA}:deq (.tup x) (.str y)=false:=rfl
theorem adl{x:AS}{y:AS}:deq (.tup x) (.tup y)=bN x y:=by rw[deq]
theorem adm{x:AS}{y:AS}:deq (.tup x) (.lst y)=false:=rfl
theorem adn{x:AS} :deq (.lst x) .non=false:=rfl
theorem ado{x:AS}{y:Bool}:deq (.lst x) (.bl y)=false:=rfl
theorem adp{x:AS}{y:Int}:deq (.lst x) (.int y)=false:=rfl
theorem adq{x:AS}{y:AA}:deq (.lst x) (.str y)=false:=rfl
theorem adt{x:AS}{y:AS}:deq (.lst x) (.tup y)=false:=rfl
theorem adu{x:AS}{y:AS}:deq (.lst x) (.lst y)=bN x y:=by rw[deq]
theorem adv:bN [] []=true:=rfl
theorem adw{a b:D}{as bs:AS}:bN (a::as) (b::bs)=(deq a b&&bN as bs):=by rw[bN]
theorem adx{b:D}{bs:AS}:bN [] (b::bs)=false:=rfl
theorem ady{b:D}{bs:AS}:bN (b::bs) []=false:=rfl
theorem adz :nr .non=true:=rfl
theorem adA :dpt .non=0:=rfl
theorem adB{x:Bool}:nr (.bl x)=true:=rfl
theorem adC{x:Bool}:dpt (.bl x)=0:=rfl
theorem adD{x:Int}:nr (.int x)=true:=rfl
theorem adE{x:Int}:dpt (.int x)=0:=rfl
theorem adF{x:AA}:nr (.str x)=true:=rfl
theorem adG{x:AA}:dpt (.str x)=0:=rfl
theorem adH{x:AS}:nr (.tup x)=nrs x:=by rw[nr]
theorem adI{x:AS}:dpt (.tup x)=bh x+1:=by rw[dpt]
theorem adJ{x:AS}:nr (.lst x)=nrs x:=by rw[nr]
theorem adK{x:AS}:dpt (.lst x)=bh x+1:=by rw[dpt]
theorem adL:nrs []=true:=rfl
theorem adM{a:D}{l:AS}:nrs (a::l)=(nr a&&nrs l):=by rw[nrs]
theorem adN:bh []=0:=rfl
theorem adO{a:D}{l:AS}:bh (a::l)=max (dpt a) (bh l):=by rw[bh]
end
def seq{Z:aj}{s:Sx}{r:Sxs}{E:EK}{Y:ak}{G:DH}{D:En}(h:∀M:ak->DH->Prop,(∀g q,az Z r E g q D->M g q)->wpS Z s E Y G {D with nx:=M}):az Z (.cons s r) E Y G D:=by rw[lF];exact h _ λz z x=>x
def last{Z:aj}{s:Sx}{E:EK}{Y:ak}{G:DH}{D:En}(h:wpS Z s E Y G D):az Z (.cons s .nil) E Y G D:=by rw[lF];exact wpS_mono s (D:=D) (D':={D with nx:=λg z=>az Z .nil E g z D}) ⟨λg z q=>(show az Z .nil E g z D from by rw[lE];exact q),λy y q=>q,λy y q=>q,λy y q=>q⟩ h
def done{Z:aj}{E:EK}{Y:ak}{G:DH}{D:En}(h:D.nx Y G):az Z .nil E Y G D:=by rw[lE];exact h
section
variable {Z:aj} {E:EK} {ρ:ak} {G:DH}
def ForG(Z:aj)(t:Tg)(body:Sxs)(E:EK)(D:En)(q:List RF.D)(g:Hld)(ρ:ak)(G:DH):Prop:=
 forLoop (λd z L k=>bA t d z L λJ=>az Z body E J L {D with nx:=k,ct:=k,bk:=D.nx}) g q ρ G D.nx
theorem adP{t:Tg}{it:It'}{body:Sxs}{D:En}:wpS Z (.for_ t it body) E ρ G D=wpI Z it E ρ G λq g G1=>ForG Z t body E D q g ρ G1:=rfl
theorem ForG.inv{t:Tg}{body:Sxs}{D:En}{q:List RF.D}{g:Hld}(P:Nat->ak->DH->Prop)(h0:P 0 ρ G)(hh:∀i ρ G,P i ρ G->held g G)
  (hs:∀i d ρ G,q[i]?=-d->P i ρ G->∀J:ak->DH->Prop,(∀z N,P (i+1) z N->J z N)->bA t d ρ G λL=>az Z body E L G {D with nx:=J,ct:=J,bk:=D.nx})
  (he:∀ρ G,P q⁻¹ ρ G->D.nx ρ G):ForG Z t body E D q g ρ G:=aaK P h0 hh hs he
def CompG(Z:aj)(L:Ex)(tg:Tg)(J:Tx)(z:AS)(g:Hld)(ρ:ak)(G:DH)(k:AS->DH->Prop):Prop:=
 compLoop (λd N O k'=>bA tg d N O λq=>wpT Z J noE q O λb G2=>match b with|true=>wpE Z L noE q G2 λy U=>k' (-y) q U|false=>k' none q G2) g z [] ρ G k
def jQ(cap:List (Option Nat))(ρ:ak):ak:=cap.map λo=>match o with|none=>none|some j=>(ρ[j]?).join
theorem adQ{ρ:ak}:jQ [] ρ=[]:=rfl
theorem adR{cap:List (Option Nat)}{ρ:ak}:jQ (none::cap) ρ=none::jQ cap ρ:=rfl
theorem adS{cap:List (Option Nat)}{ρ:ak}{j:Nat}:jQ (-j::cap) ρ=(ρ[j]?).join::jQ cap ρ:=rfl
theorem adT{fz:Bool}{J:Ex}{tg:Tg}{it:It'}{q:Tx}{N:List AL}{cap:List (Option Nat)}{k:AT}:
  wpE Z (.comp fz J tg it q N cap) E ρ G k=wpI Z it E ρ G λz g G1=>CompG Z J tg q z g (jQ cap ρ) G1 λds G2=>mk fz ds G2 k:=rfl
theorem CompG.inv{N:Ex}{tg:Tg}{L:Tx}{q:AS}{g:Hld}{k:AS->DH->Prop}(P:Nat->AS->ak->DH->Prop)(h0:P 0 [] ρ G)(hh:∀i z ρ G,P i z ρ G->held g G)(hl:q⁻¹<=sz)
  (hs:∀i d z ρ G,q[i]?=-d->P i z ρ G->∀U:Option D->ak->DH->Prop,(∀o O Y,P (i+1) (z++o.toList) O Y->U o O Y)->
   bA tg d ρ G λJ=>wpT Z L noE J G λb G2=>match b with|true=>wpE Z N noE J G2 λy G3=>U (-y) J G3|false=>U none J G2)
  (he:∀z ρ G,P q⁻¹ z ρ G->k z G):CompG Z N tg L q g ρ G k:=Jd P h0 hh (!!hl) hs he
theorem CompG.map{L:Ex}{tg:Tg}{J:Tx}{q:AS}{g:Hld}{k:AS->DH->Prop}(f:D->D)(I:ak->Prop)(h0:I ρ)(Y:held g G)(hl:q⁻¹<=sz)
  (hs:∀d ρ,d∈q->I ρ->∀O:Option D->ak->DH->Prop,(∀N,I N->O (-(f d)) N G)->bA tg d ρ G λz=>wpT Z J noE z G λb G2=>match b with|true=>wpE Z L noE z G2 λy U=>O (-y) z U|false=>O none z G2)
  (he:k (q.map f) G):CompG Z L tg J q g ρ G k:=aaM g f I h0 Y hl hs he
def WhlG(Z:aj)(c:Tx)(body:Sxs)(E:EK)(D:En)(n:Nat)(ρ:ak)(G:DH):Prop:=
 whileLoop (λg q k=>wpT Z c E g q k) (λg q k=>az Z body E g q {D with nx:=k,ct:=k,bk:=D.nx}) n ρ G D.nx
theorem adU{c:Tx}{body:Sxs}{D:En}:wpS Z (.whl c body) E ρ G D=∃n,WhlG Z c body E D n ρ G:=rfl
theorem WhlG.inv{c:Tx}{body:Sxs}{D:En}(P:Nat->ak->DH->Prop)(hs:∀n ρ G,P n ρ G->wpT Z c E ρ G λb G1=>match b with|true=>∀N:ak->DH->Prop,(∀m g J,m<n->P m g J->N g J)->az Z body E ρ G1 {D with nx:=N,ct:=N,bk:=D.nx} |false=>D.nx ρ G1):
  ∀n ρ G,P n ρ G->WhlG Z c body E D (n+1) ρ G:=by
 intro n;induction n using Nat.strongRecOn with
 |_ n Y=>
  intro ρ G p;show dF c (λb G1 q=>?_) (hs n ρ G p);cases b with
  |false=>exact q
  |true=>
   show q _ λm g J O p'=>?_;have:=Y m O g J p';have up:∀(i j:Nat)(ρ:ak)(G:DH),i<=j->WhlG Z c body E D i ρ G->WhlG Z c body E D j ρ G:=by
    intro i;induction i with
    |zero=>intro j ρ G _ h;exact h.elim
    |succ i L=>
     intro j ρ G U h;cases j with
     |zero=>lia
     |succ j=>
      show dF c (λb G1 q=>?_) h;cases b with
      |false=>exact q
      |true=>exact dJ body (D:={D with nx:=λg J=>WhlG Z c body E D i g J,ct:=λg J=>WhlG Z c body E D i g J,bk:=D.nx}) ⟨λg J z=>L j g J (!0) z,λy y z=>z,λy y z=>z,λg J z=>L j g J (!0) z⟩ q
   exact up (m+1) n g J O this
end
def len0{g:Type}{l:List g}(h:l⁻¹=0):l=[]:=dy.mp h
def yK{g:Type}{n:Nat}{l:List g}(h:l⁻¹=n+1):∃a r,l=a::r/\r⁻¹=n:=by
 cases l with
 |nil=>cases h
 |cons a r=>exact⟨a,r,rfl,Nat.succ.inj h⟩
def cP{g:Type}{l:List g}(h:l⁻¹=1):∃a,l=[a]:=by let(a,r,rfl,h2):=yK h;cases len0 h2;exact⟨a,rfl⟩
def bu{g:Type}{l:List g}(h:l⁻¹=2):∃a b,l=[a,b]:=by let(a,r,rfl,h2):=yK h;let(b,rfl):=cP h2;exact⟨a,b,rfl⟩
def fJ{g:Type}{l:List g}(h:l⁻¹=3):∃a b c,l=[a,b,c]:=by let(a,r,rfl,h2):=yK h;let(b,c,rfl):=bu h2;exact⟨a,b,c,rfl⟩
structure Fo(Z:aj)(P:AK)(w:World)(K:PF)(mg:AH)(base:Heap)(k:Nat)(f:AL)(n:Nat):Prop where
 ex:∃fa fd ps,FnOk P w K mg base (CX1 P w) k fa fd ps (lift K n (Z f))/\PySem.W.keepIn K (.ref fa)=true/\Binds K fd ps []/\mg (⇑f)=some (.ref fa)
section
variable {Z:aj} {P:AK} {w:World} {K:PF} {mg:AH} {base:Heap} {k:Nat} {xs:List (AL×Bool)} {ot:OT}
def AllF(Z:aj)(P:AK)(w:World)(K:PF)(mg:AH)(base:Heap)(k:Nat):List (AL×Nat)->Prop
 |[]=>True
 | (f,n)::r=>Fo Z P w K mg base k f n/\AllF Z P w K mg base k r
def AllB(mg:AH):List AL->Prop
 |[]=>True
 |f::r=>mg (⇑f)=none/\AllB mg r
def AllC(K:PF)(mg:AH):List (AL×D)->Prop
 |[]=>True
 | (x,d)::r=>(∃u v,mg (⇑x)=-u/\RelV v u/\∀H F,Rep K H F d v)/\AllC K mg r
theorem AllF.get:∀{fs:List (AL×Nat)}{f:AL}{n:Nat},AllF Z P w K mg base k fs->(f,n)∈fs->Fo Z P w K mg base k f n
 | (f',n')::r,f,n,h,m=>by
  rcases bP.mp m with e|m
  .cases e;exact h.1
  .exact AllF.get h.2 m
theorem AllB.get:∀{fs:List AL}{f:AL},AllB mg fs->f∈fs->mg (⇑f)=none
 |f'::r,f,h,m=>by
  rcases bP.mp m with e|m
  .cases e;exact h.1
  .exact AllB.get h.2 m
theorem AllC.get:∀{fs:List (AL×D)}{x:AL}{d:D},AllC K mg fs->(x,d)∈fs->∃u v,mg (⇑x)=-u/\RelV v u/\∀H F,Rep K H F d v
 | (f',n')::r,f,n,h,m=>by
  rcases bP.mp m with e|m
  .cases e;exact h.1
  .exact AllC.get h.2 m
def cvB(K:PF)(g:AL):Option V:=match PySem.W.nsIn K mainGlobals (⇑g) with
 |some (-(.ref a))=>if Dg K a then some (.ref a) else none
 |some none=>if g=="ValueError" then some (.ty "ValueError") else none
 |_=>none
def xiB(K:PF)(C g:AL)(q:V):Bool:=match PySem.W.nsIn K mainGlobals (⇑C) with
 |some (-(.ref c))=>vA K c&&PySem.W.mroIn K c (valOf q)==-(gK C g)&&(gK C g||!(Value.ref c==valOf q))
 |_=>false
def yL(K:PF)(C:AL):Bool:=match PySem.W.nsIn K mainGlobals (⇑C) with
 |some (-(.ref c))=>qR K c
 |_=>false
def xsB(K:PF)(xs:List (AL×Bool)):Bool:=xs.all λp=>match p.2 with
 |true=>yL K p.1
 |false=>(cvB K p.1).any λg=>xs.all λq=>!q.2||xiB K q.1 p.1 g
theorem adV{h:Heap}(X:K.In h)(q:h.Ns mainGlobals mg){xs:List (AL×Bool)}(e:xsB K xs=true)(C:AL)(z:xs.contains (C,true)=true):∃a,mg (⇑C)=-(.ref a)/\qR K a=true/\PySem.W.nsIn K mainGlobals (⇑C)=-(-(.ref a)):=by
 have g:yL K C=true:=b3.mp e _ (bm.mp z);unfold yL at g;split at g
 .rename_i a hn;exact⟨a,PySem.W.mg_of X q hn,g,hn⟩
 .cases g
theorem adW{h:Heap}(X:K.In h)(U:h.Ns mainGlobals mg){xs:List (AL×Bool)}(e:xsB K xs=true)(L:AL)(N:xs.contains (L,false)=true):∃J,CV K mg L J/\∀C,xs.contains (C,true)=true->XI K C L J:=by
 have Y:((cvB K L).any λJ=>xs.all λq=>!q.2||xiB K q.1 L J)=true:=b3.mp e _ (bm.mp N);let(J,g,h2):=aV Y;show⟨J,?_,λC N=>?_⟩
 .unfold cvB at g;split at g
  .rename_i a hn;split at g
   .rename_i O;cases g;exact .inl ⟨a,rfl,PySem.W.mg_of X U hn,O⟩
   .cases g
  .rename_i hn;split at g
   .rename_i O;cases g;exact .inr ⟨a8.mp O,rfl,PySem.W.mg_none_of X U hn⟩
   .cases g
  .cases g
 .have z:(!true||xiB K C L J)=true:=b3.mp h2 _ (bm.mp N);have z:xiB K C L J=true:=z;unfold xiB at z;split at z
  .rename_i c hn;rw[ae,ae,a8]at z;show⟨c,hn,z.1.1,z.1.2,λhs=>?_⟩;have:=z.2;rw[hs,Bool.false_or,gN]at this;exact this
  .cases z
theorem bse{h:Heap}{fs:List (AL×Nat)}{bt:List AL}{cn:List (AL×D)}(h1:AllF Z P w K mg base k fs)(h2:AllB mg bt)(q:AllC K mg cn)(X:K.In h)(g:h.Ns mainGlobals mg)(e:xsB K xs=true):Bse Z P w K mg base (CX1 P w) k fs bt cn xs {}:=
 ⟨λz z m=>(h1.get m).ex,λz m=>h2.get m,λz z m=>q.get m,adV X g e,adW X g e,(λz z z z h=>(nomatch h)),(λz z h=>(nomatch h)),(λz z h=>(nomatch h)),(λz z h=>(nomatch h))⟩
theorem mC{x:AL}{i:Int}{t:Tok}(h:mg (⇑x)=-(.int i t)):∃u v,mg (⇑x)=-u/\RelV v u/\∀H F,Rep K H F (.int i) v:=⟨_,.int i,h,⟨t,rfl⟩,λz z=>rfl⟩
theorem adX{x:AL}{l:AA}{s:Str}{t:Tok}(h:mg (⇑x)=-(.str s t))(e:s=tx l)(hl:l⁻¹<=sz):∃u v,mg (⇑x)=-u/\RelV v u/\∀H F,Rep K H F (.str l) v:=⟨_,.str s,h,⟨t,rfl⟩,λz z=>⟨by rw[e],hl⟩⟩
theorem Jt{n:Nat}{S:RF.Spec}{fa:AQ}{fd:AJ}{ps:AD}(h:∀ds G a,¬S.pre ds G a):FnOk P w K mg base (CX1 P w) k fa fd ps (lift K n S):=
 ⟨λz z z z ⟨_,_,_,_,_,_,a,g,_⟩=>absurd g (h _ _ a),λz z z z z z z z z z z z z ⟨_,_,_,_,_,_,a,g,_⟩=>absurd g (h _ _ a)⟩
end
section
variable {Z:aj} {P:AK} {w:World} {K:PF} {mg:AH} {base:Heap} {k j n:Nat} {fs:List (AL×Nat)} {bt:List AL} {cn:List (AL×D)} {xs:List (AL×Bool)} {ot:OT} {x:AL} {S:RF.Spec} {fa:AQ} {fd:AJ} {ps:AD}
theorem MthOk.mono{f C m:AL}(h:MthOk Z P w K mg base (CX1 P w) k f C m n)(J:k<=j):MthOk Z P w K mg base (CX1 P w) j f C m n:=by let(c,fa,fd,ps,h1,h2,g,q,z):=h;exact⟨c,fa,fd,ps,h1,h2,g,q,z.mono J⟩
theorem MkoOk.mono{C:AL}(h:MkoOk Z P w K mg base (CX1 P w) k C n)(g:k<=j):MkoOk Z P w K mg base (CX1 P w) j C n:=by let(c,fa,fd,ps,sp,i,h0,h):=h;exact⟨c,fa,fd,ps,sp,i,cf h0 g,h⟩
theorem XkoX.mono{C f:AL}(h:XkoX P w K mg base (CX1 P w) k xs C f)(g:k<=j):XkoX P w K mg base (CX1 P w) j xs C f:=by let((c,fa,fd,ps,i,h0,h),h2):=h;exact⟨⟨c,fa,fd,ps,i,cf h0 g,h⟩,h2⟩
theorem Bse.add(B:Bse Z P w K mg base (CX1 P w) k fs bt cn xs ot)(e:Z x=S)(o:FnOk P w K mg base (CX1 P w) (k+j) fa fd ps (lift K n S))(h2:PySem.W.keepIn K (.ref fa)=true)(z:Binds K fd ps [])(J:mg (⇑x)=-(.ref fa)):Bse Z P w K mg base (CX1 P w) (k+j) ((x,n)::fs) bt cn xs ot:=by
 show⟨λf m g=>?_,B.blt,B.con,B.xcl,B.xis,λf C m n h=>(B.mth f C m n h).mono (dk _ _),λC n h=>(B.mko C n h).mono (dk _ _),B.fld,λC f h=>(B.xko C f h).mono (dk _ _)⟩;rcases bP.mp g with q|g
 .cases q;exact⟨fa,fd,ps,by rw[e];exact o,h2,z,J⟩
 .let(fa,fd,ps,h1,h):=B.call f m g;exact⟨fa,fd,ps,h1.mono (dk _ _),h⟩
theorem Bse.step{g:Str}{st:Stmt}{N:AD}{body:Sxs}(B:Bse Z P w K mg base (CX1 P w) k fs bt cn xs ot)(F:Fun K (⇑x) g st fa fd)(q:Binds K fd ps [])(z:mg (⇑x)=-(.ref fa))(e:Z x=S)(m:Nat)
  (hs:fnB N ps (aq st)=true) (hc:aD (aJ N (aq st) fs bt cn xs ot) body (aH st)=true) (hn:ps⁻¹=n) (J:N⁻¹=n+m)
  (hw:∀ds G a,ds⁻¹=n->S.pre ds G a->az Z body noE (env0 ds m) G (ends (S.post a))):Bse Z P w K mg base (CX1 P w) (k+1) ((x,n)::fs) bt cn xs ot:=
 B.add e (tZ F B S n m hs hc hn J hw) F.kp q z
def iW(Z:aj)(x:AL)(S:RF.Spec):aj:=λf=>if f=x then S else Z f
theorem jR{y:AL}(e:Z y=S){g:RF.Spec}(h:(y==x)=false):iW Z x g y=S:=by unfold iW;rw[if_neg (!!h)];exact e
theorem Bse.self(B:Bse Z P w K mg base (CX1 P w) k fs bt cn xs {})(q:(fs.map (·.1)).contains x=false)(o:FnOk P w K mg base (CX1 P w) (k+j) fa fd ps (lift K n S))(h2:PySem.W.keepIn K (.ref fa)=true)(J:Binds K fd ps [])(L:mg (⇑x)=-(.ref fa)):Bse (iW Z x S) P w K mg base (CX1 P w) (k+j) ((x,n)::fs) bt cn xs {}:=by
 show⟨λf m O=>?_,B.blt,B.con,B.xcl,B.xis,(λy y y y h=>(nomatch h)),(λy y h=>(nomatch h)),(λy y h=>(nomatch h)),(λy y h=>(nomatch h))⟩;rcases bP.mp O with z|g
 .cases z;exact⟨fa,fd,ps,by unfold iW;rw[if_pos rfl];exact o,h2,J,L⟩
 .let(fa,fd,ps,h1,h):=B.call f m g;have N:f≠x:=by
   rintro rfl;rw[<-Bool.not_eq_true,bm]at q;exact q (bi.mpr ⟨(f,m),g,rfl⟩)
  exact⟨fa,fd,ps,by unfold iW;rw[if_neg N];exact h1.mono (dk _ _),h⟩
end
def adY{S:RF.Spec}(O:∀(ns:List Int)(G:DH),ns⁻¹<=63->∃a,S.pre [.scr ns] G a/\(∀d g,S.post a d g->d=.bl true)/\∀x g,¬S.exc a x g)(K:PF)(H:Hp)(a:AQ)(ns:List Int)(hl:ns⁻¹<=63)(N:Only H)(hs:SqL K H a (ns.map V.int)):
  lift K 1 S [.ref a] H (λv y=>v=.bl true) λy y y=>False:=by
 let(b,h1,h2,L):=O ns (λy=>none) hl;show⟨rfl,λy=>False,λy=>none,[.scr ns],⟨λy f=>f.elim,λy y e=>by cases e⟩,⟨.ref a,[],rfl,⟨a,rfl,?_⟩,rfl⟩,b,h1,λd g q H' F' v y y J=>?_,λx g q=>absurd q (L x g)⟩
 .rcases hs with(h|h)|h
  .exfalso;rcases N a with z|⟨o,u,z⟩
   .rw[z]at h;cases h
   .rw[z]at h;cases h
  .exact .inl h
  .exact .inr h
 .rw[h2 d g q]at J;exact J
def adZ{pre:AS->DH->Prop}(h:∀(ns:List Int)(G:DH),ns⁻¹<=63->pre [.scr ns] G):∀(ns:List Int)(G:DH),ns⁻¹<=63->∃a,(bR pre (λy y d y=>d=.bl true)).pre [.scr ns] G a/\(∀d g,(bR pre (λy y d y=>d=.bl true)).post a d g->d=.bl true)/\∀x g,¬(bR pre (λy y d y=>d=.bl true)).exc a x g:=
 λns G hl=>⟨([.scr ns],G),⟨rfl,h ns G hl⟩,λy y q=>q,λy y z=>z⟩
def ghS{A:Type}(pre:A->AS->DH->Prop)(post:A->DH->D->DH->Prop):RF.Spec where
 A:=A×DH
 pre:=λds G a=>a.2=G/\pre a.1 ds G
 post:=λa d g=>post a.1 a.2 d g
 exc:=λz z z=>False
def gk{A:Type}{pre:A->AS->DH->Prop}{post:A->DH->D->DH->Prop}{ds:AS}{G:DH}{k:AT}{E:EK}(a:A)(h:pre a ds G)(q:∀d g,post a G d g->k d g):(ghS pre post).t ds G k E:=
 ⟨(a,G),⟨rfl,h⟩,q,λy y z=>z.elim⟩
def gm{A:Type}{Z:aj}{body:Sxs}{m n:Nat}{pre:A->AS->DH->Prop}{post:A->DH->D->DH->Prop}(h:∀a ds G,pre a ds G->az Z body noE (env0 ds m) G (ends (post a G))):
  ∀ds G a,ds⁻¹=n->(ghS pre post).pre ds G a->az Z body noE (env0 ds m) G (ends ((ghS pre post).post a)):=by
 rintro ds G ⟨a,G0⟩ _ ⟨rfl,h1⟩;exact h a ds _ h1
def bM{A:Type}(args:A->AS)(ok:A->Prop)(val:A->D):RF.Spec:=ghS (λa ds z=>ds=args a/\ok a) (λa G d g=>g=G/\d=val a)
def bZ{A:Type}{args:A->AS}{ok:A->Prop}{val:A->D}{ds:AS}{G:DH}{k:AT}{E:EK}(a:A)(e:ds=args a)(h:ok a)(z:k (val a) G):(bM args ok val).t ds G k E:=
 gk a ⟨e,h⟩ λd J zZ=>by let(g,q):=zZ;subst g q;exact z
def bT{A:Type}{Z:aj}{body:Sxs}{m n:Nat}{args:A->AS}{ok:A->Prop}{val:A->D}(h:∀a G,ok a->az Z body noE (env0 (args a) m) G (ends λd g=>g=G/\d=val a)):
  ∀ds G a,ds⁻¹=n->(bM args ok val).pre ds G a->az Z body noE (env0 ds m) G (ends ((bM args ok val).post a)):=
 gm λa ds G zZ=>by let(e,h1):=zZ;subst e;exact h a G h1
section
local macro_rules|`(#[])=>`(.nil)|`(#[$x])=>`(.cons $x .nil)|`(#[$x,$y,*])=>`(.cons $x #[$y,*])
local macro_rules|`(-$x)=>`(.var $x)
local macro_rules|`(¬$x)=>`(.cst (.int $x))
local macro_rules|`(!$x)=>`(.cst (.str $x))
local macro_rules|`($x<|$y)=>`(.call $x $y)
def yM:Sxs:=#[.set (-0) (¬2) (¬0),.ret (-0)]
def yN:Sxs:=#[.for_ (.tp #[.nm 2,.nm 3]) (.zip (-0) (-1)) #[.ite (.boo true (.val (.cmp .NotEq (-2) (![42]))) #[.val (.cmp .NotEq (-2) (-3))]) #[.ret (.cst (.bl false))] #[]],.ret (.cst (.bl true))]
def yO:Sxs:=#[.for_ (.tp #[.nm 2,.nm 3]) (.enm (.idx (-0) (¬1))) #[.ite (.val ("_law_fits"<|#[.idx (-3) (¬0),-1])) #[.ret (-2)] #[]],.ret (.cst .non)]
def yP:Sxs:=#[.asg (.nm 2) ("_law_met"<|#[-0,-1]),.ite (.val (.cmp .Is (-2) (.cst .non))) #[.ret (.cst .non)] #[],.ret (.idx (.idx (.idx (-0) (¬1)) (-2)) (¬1))]
def yQ:Sxs:=#[.asg (.nm 1) (.lst true #[![]]),.for_ (.nm 2) (.seq (-0)) #[.asg (.nm 3) (.lst false #[]),.for_ (.nm 4) (.seq (-1)) #[.exp (.mth .extend (-3) #[.comp true (.bin .Add true (-1) (-0)) (.nm 0) (.seq (.idx (.lst true #[![48,49],-2]) (.bcl .int #[.cmp .NotEq (-2) (![42])]))) .yes ["one","text"] [none,some 4]])],.asg (.nm 1) (.frz (-3))],.ret (-1)]
def yR:Sxs:=#[.ret (.comp true ("_law_deed"<|#[-1,-0]) (.nm 0) (.seq ("_law_words"<|#[.bin .Mult true (![42]) (.idx (-0) (¬0))])) .yes ["word","book"] [none,some 0])]
def yS:Sxs:=#[.ret (.tup #[.idx (-0) (¬0),.bcl .tuple #[.comp true (.idx (.idx (-1) (¬1)) (-0)) (.nm 0) (.seq (-1)) .yes ["number","book"] [none,some 0]]])]
def Ju:Sxs:=#[.ret (.boo true (.isi (-0) "int") #[.not (.isi (-0) "bool")])]
def yU:Sxs:=#[.ite (.boo false (.not (.val (.isi (-0) "tuple"))) #[.not (.val (.bcl .all #[.comp true ("_law_is_whole"<|#[-0]) (.nm 0) (.seq (-0)) .yes ["number"] [none]]))]) #[.ret (.cst (.bl false))] #[],.ret (.cmp .Eq (.lcl true .sorted #[-0]) (.rgl true (-1)))]
def Jv:Sxs:=#[.ret (.bin .Add true (.bin .Add true (.slc true (-0) .no (.ob (-1))) (.tup #[.idx (-0) (.bin .Add true (-1) (¬1)),.idx (-0) (-1)])) (.slc true (-0) (.ob (.bin .Add true (-1) (¬2))) .no))]
def yV:Sxs:=#[.asg (.nm 3) (.bcl .len #[.idx (-0) (¬1)]),.ite (.boo false (.not (.val (.isi (-2) "list"))) #[.not (.val (.bcl .all #[.comp true ("_law_is_numbers"<|#[-0,-1]) (.nm 0) (.seq (-2)) .yes ["one","many"] [none,some 3]]))]) #[.ret (.cst (.bl false))] #[],.ite (.boo false (.val (.cmp .Lt (.lns (-2)) (.bcl .len #[-2]))) #[.val (.cmp .In (-1) (-2)),.val (.cmp .NotIn (.rgt (-3)) (-2))]) #[.ret (.cst (.bl false))] #[],.asg (.nm 4) ("_law_all_deeds"<|#[-0]),.for_ (.nm 5) (.seq (-2)) #[.for_ (.nm 6) (.rng (.bin .Sub true (-3) (¬1))) #[.asg (.nm 7) ("_law_stepped"<|#[-5,-6]),.ite (.boo true (.val (.cmp .NotIn (-7) (-2))) #[.val (.cmp .Eq ("_law_all_deeds"<|#["_law_by"<|#[-0,-7]]) (-4))]) #[.ret (.cst (.bl false))] #[]]],.ret (.cst (.bl true))]
def yW:Sxs:=#[.ite (.val (.cmp .GtE (-0) (.bin .Pow true (¬10) (¬18)))) #[.ret (-0)] #[],.asg (.nm 2) (.bin .Mod true (.bin .Add true (.bin .Add true (.bin .Mult true (.bin .Mod true (-0) (¬1000000007)) (¬69069)) (.bin .Mult true (-1) (¬40503))) (¬977)) (¬2147483629)),.asg (.nm 3) (.bin .Mod true (.bin .Add true (.bin .Add true (.bin .Mult true (-2) (-2)) (.bin .Mult true (-1) (¬7919))) (.bin .Mod true (-0) (¬65537))) (¬2147483587)),.asg (.nm 4) (.bin .Mod true (.bin .Add true (.bin .Add true (.bin .Mult true (-3) (-3)) (.bin .Mult true (-2) (¬31))) (¬5)) (¬2147483563)),.ret (.bin .Add true (.bin .Mult true (.bin .Add true (.bin .Mult true (-2) (¬2147483659)) (-3)) (¬2147483693)) (-4))]
def yX:Sxs:=#[.ite (.val (.cmp .Lt (.idx (-0) (¬2)) (-1))) #[.asg (.nm 2) (.idx (-0) (¬1)),.asg (.nm 3) (¬0),.ite (.val (.cmp .Lt (-2) (.bcl .len #[.idx (-0) (¬0)]))) #[.asg (.nm 3) (.idx (.idx (-0) (¬0)) (-2))] #[.ite (.val (.cmp .Gt (.bcl .len #[.idx (-0) (¬0)]) (¬0))) #[.asg (.nm 3) (.bin .Mod true (.idx (.idx (-0) (¬0)) (.bin .Mod true (.bin .Add true (.bin .Mult true (-2) (¬5)) (¬3)) (.bcl .len #[.idx (-0) (¬0)]))) (.bin .Add true (.bin .Pow true (¬10) (¬17)) (-2)))] #[]],.set (-0) (¬1) (.bin .Add true (-2) (¬1)),.set (-0) (¬2) ("_law_spread"<|#[-3,-2])] #[],.asg (.nm 4) (.bin .Mod true (.idx (-0) (¬2)) (-1)),.set (-0) (¬2) (.bin .FloorDiv true (.idx (-0) (¬2)) (-1)),.ret (-4)]
def yZ:Sxs:=#[.ret (.mth .join (![]) #[.comp true (.idx (-1) ("_law_take"<|#[-2,.bcl .len #[-1]])) (.nm 0) (.rng (-1)) .yes ["at","signs","pen"] [none,some 2,some 0]])]
def za:Sxs:=#[.asg (.nm 2) (.lst true #[![97],![103,111],![115,116,97,121],![97,98,99,100,101,102,103,104],![110,111,110,101],![121,101,115],![105,110],![111,117,116],![107,101,101,112],![119,111,114,100],![122,122]]),.asg (.nm 3) ("_law_take"<|#[-0,¬11]),.asg (.nm 4) (.comp true (.idx (-1) (.bin .Mod true (.bin .Add true (-2) (.bin .Mult true (¬3) (-0))) (¬11))) (.nm 0) (.rng (.bin .Add true (¬1) ("_law_take"<|#[-0,-1]))) .yes ["k","some","turn"] [none,some 2,some 3]),.ite (.val (.cmp .Eq ("_law_take"<|#[-0,¬3]) (¬0))) #[.asg (.nm 5) (![97,98,99,100,101,102,103,104,105,106,107,108,109,110,111,112,113,114,115,116,117,118,119,120,121,122]),.asg (.nm 4) (.comp true ("_law_signs"<|#[-1,.bin .Add true (¬1) ("_law_take"<|#[-1,¬8]),-2]) (.nm 0) (.seq (-4)) .yes ["one","pen","letters"] [none,some 0,some 5])] #[],.ret (-4)]
def zb:Sxs:=#[.ret ("_law_signs"<|#[-0,-1,.idx (.lst true #[![48,49,42],![48,49,42,42],![48,49,42,42,42,42],![48,42],![48,49]]) ("_law_take"<|#[-0,¬5])])]
def zc:Sxs:=#[.asg (.nm 2) (![]),.for_ (.nm 3) (.seq (-1)) #[.ite (.val (.cmp .Eq ("_law_take"<|#[-0,¬3]) (¬0))) #[.asg (.nm 3) (![42])] #[],.asg (.nm 2) (.bin .Add true (-2) (-3))],.ret (-2)]
def zf:Sxs:=#[.asg (.nm 2) (![]),.for_ (.nm 3) (.seq (-1)) #[.ite (.boo true (.val (.cmp .Eq (-3) (![42]))) #[.val (.cmp .Eq ("_law_take"<|#[-0,¬2]) (¬0))]) #[.asg (.nm 3) (.idx (![48,49]) ("_law_take"<|#[-0,¬2]))] #[],.asg (.nm 2) (.bin .Add true (-2) (-3))],.ret (-2)]
def zg:Sxs:=#[.asg (.nm 3) ("_law_take"<|#[-0,¬7]),.ite (.boo false (.val (.cmp .Eq (-2) (.lst true #[]))) #[.val (.cmp .Lt (-3) (¬2))]) #[.ret ("_law_form"<|#[-0,-1])] #[],.asg (.nm 4) (.idx (-2) ("_law_take"<|#[-0,.bcl .len #[-2]])),.ite (.val (.cmp .Eq (-3) (¬2))) #[.ret (-4)] #[],.ite (.val (.cmp .Lt (-3) (¬5))) #[.asg (.nm 5) ("_law_take"<|#[-0,-1]),.ret (.bin .Add true (.bin .Add true (.slc true (-4) .no (.ob (-5))) (.idx (![48,49,42]) ("_law_take"<|#[-0,¬3]))) (.slc true (-4) (.ob (.bin .Add true (-5) (¬1))) .no))] #[],.ite (.val (.cmp .Eq (-3) (¬5))) #[.ret ("_law_within"<|#[-0,-4])] #[],.ret ("_law_wider"<|#[-0,-4])]
def zj:Sxs:=#[.asg (.nm 3) (.bin .Add true (¬1) ("_law_take"<|#[-0,-1])),.asg (.nm 4) ("_law_deeds_of"<|#[-0,¬3]),.asg (.nm 5) (.lst false #[]),.asg (.nm 6) (.lst false #[]),.for_ (.nm 7) (.rng ("_law_take"<|#[-0,.bin .Add true (-2) (¬1)])) #[.exp (.mth .append (-5) #["_law_form_like"<|#[-0,-3,-5]]),.exp (.mth .append (-6) #[.tup #[.idx (-5) (.neg (¬1)),.idx (-4) ("_law_take"<|#[-0,.bcl .len #[-4]])]])],.ret (.tup #[-3,.bcl .tuple #[-6]])]
def zm:Sxs:=#[.asg (.nm 1) ("_law_all_deeds"<|#[-0]),.asg (.nm 2) (.lst false #[.rgt (.bcl .len #[.idx (-0) (¬1)])]),.asg (.nm 3) (.dp1 (.idx (-2) (¬0)) (¬0)),.asg (.nm 4) (¬0),.whl (.val (.cmp .Lt (-4) (.bcl .len #[-2]))) #[.for_ (.nm 5) (.rng (.bin .Sub true (.bcl .len #[.idx (-2) (-4)]) (¬1))) #[.asg (.nm 6) ("_law_stepped"<|#[.idx (-2) (-4),-5]),.ite (.boo true (.val (.cmp .NotIn (-6) (-3))) #[.val (.cmp .Eq ("_law_all_deeds"<|#["_law_by"<|#[-0,-6]]) (-1))]) #[.set (-3) (-6) (.bin .Add true (.idx (-3) (.idx (-2) (-4))) (¬1)),.exp (.mth .append (-2) #[-6])] #[]],.asg (.nm 4) (.bin .Add true (-4) (¬1))],.ret (-3)]
def zu:Sxs:=#[.asg (.nm 1) (.lcl false .list #[.slc true (-0) .no (.ob (¬12))]),.for_ (.tp #[.nm 2,.nm 3]) (.enm (.slc true (-0) (.ob (¬12)) (.ob (¬63)))) #[.set (-1) (.bin .Mod true (-2) (¬12)) (.bin .Add true (.idx (-1) (.bin .Mod true (-2) (¬12))) (-3))],.ret (.lst false #[.frz (-1),¬0,¬0])]
def zx:Sxs:=#[.asg (.nm 2) (.rgl false (-1)),.ret (.bcl .tuple #[.comp true (.mth .pop (-1) #["_law_take"<|#[-2,.bcl .len #[-1]]]) (.nm 0) (.rng (-1)) .yes ["k","left","pen"] [none,some 2,some 0]])]
def zy:Sxs:=#[.asg (.nm 3) (.rgt (.bcl .len #[-1])),.for_ (.nm 4) (.seq (-2)) #[.ite (.boo false (.not (.val ("_law_is_whole"<|#[-4]))) #[.val (.cmp .Lt (-4) (¬0)),.val (.cmp .Gt (-4) (.bin .Sub true (.bcl .len #[-1]) (¬2)))]) #[.ret (.cst (.bl false))] #[],.asg (.nm 3) ("_law_stepped"<|#[-3,-4]),.ite (.val (.cmp .NotIn (-3) (-0))) #[.ret (.cst (.bl false))] #[]],.ret (.boo true (.cmp .Eq (-3) (-1)) #[.cmp .Eq (.bcl .len #[-2]) (.idx (-0) (-1))])]
def mD:Sxs:=#[.ret (.rgt (.bcl .len #[.idx (-0) (¬1)]))]
def mF:Sxs:=#[.ite (.boo false (.not (.val (.isi (-0) "str"))) #[.not (.val (.chn .LtE .LtE (¬1) (.bcl .len #[-0]) (.glb "LONGEST_DEED" (.int 8))))]) #[.ret (.cst (.bl false))] #[],.ret (.bcl .all #[.comp true (.cmp .In (-0) (.glb "LETTERS" (.str [97,98,99,100,101,102,103,104,105,106,107,108,109,110,111,112,113,114,115,116,117,118,119,120,121,122]))) (.nm 0) (.seq (-0)) .yes ["sign"] [none]])]
def mG:Sxs:=#[.ite (.boo false (.not (.val (.isi (-2) "str"))) #[.val (.cmp .NotEq (.bcl .len #[-2]) (-1))]) #[.ret (.cst (.bl false))] #[],.ret (.bcl .all #[.comp true (.cmp .In (-0) (-1)) (.nm 0) (.seq (-2)) .yes ["sign","signs"] [none,some 0]])]
def mH:Sxs:=#[.ret ("is_text_of"<|#[![48,49,42],-0,-1])]
def mJ:Sxs:=#[.ite (.boo false (.not (.val (.isi (-1) "tuple"))) #[.val (.cmp .NotEq (.bcl .len #[-1]) (¬2))]) #[.ret (.cst (.bl false))] #[],.ret (.boo true ("is_form"<|#[-0,.idx (-1) (¬0)]) #["is_deed"<|#[.idx (-1) (¬1)]])]
def mK:Sxs:=#[.ret (.boo true (.isi (-0) "int") #[.not (.isi (-0) "bool")])]
def mL:Sxs:=#[.ret (.boo true ("is_whole"<|#[-0]) #[.chn .LtE .LtE (¬1) (-0) (.glb "WIDEST" (.int 6))])]
def mO:Sxs:=#[.ite (.boo false (.not (.val (.isi (-0) "tuple"))) #[.val (.cmp .NotEq (.bcl .len #[-0]) (¬2))]) #[.ret (.cst (.bl false))] #[],.asg (.tp #[.nm 1,.nm 2]) (-0),.ite (.boo false (.not (.val ("is_width"<|#[-1]))) #[.not (.val (.isi (-2) "tuple")),.val (.cmp .Gt (.bcl .len #[-2]) (.glb "MOST_ROWS" (.int 12)))]) #[.ret (.cst (.bl false))] #[],.ret (.bcl .all #[.comp true ("is_row"<|#[-1,-0]) (.nm 0) (.seq (-2)) .yes ["row","width"] [none,some 1]])]
def mQ:Sxs:=#[.ite (.not (.val ("is_book"<|#[-0]))) #[.nev] #[]]
def mR:Sxs:=#[.ret (.boo true ("is_whole"<|#[-1]) #[.chn .LtE .Lt (¬0) (-1) (-0)])]
def mU:Sxs:=#[.asg (.nm 2) (.bcl .len #[.idx (-0) (¬1)]),.ite (.boo false (.not (.val (.isi (-1) "tuple"))) #[.not (.val (.bcl .all #[.comp true ("is_place"<|#[-1,-0]) (.nm 0) (.seq (-1)) .yes ["number","many"] [none,some 2]]))]) #[.ret (.cst (.bl false))] #[],.ret (.cmp .Eq (.lcl true .sorted #[-1]) (.rgl true (-2)))]
def mV:Sxs:=#[.ite (.not (.val ("is_order"<|#[-0,-1]))) #[.nev] #[]]
def mW:Sxs:=#[.exp ("need_book"<|#[-0]),.exp ("need_order"<|#[-0,-1]),.asg (.tp #[.nm 2,.nm 3]) (-0),.ret (.tup #[-2,.bcl .tuple #[.comp true (.idx (-1) (-0)) (.nm 0) (.seq (-1)) .yes ["number","rows"] [none,some 3]]])]
def mX:Sxs:=#[.asg (.nm 2) (![]),.for_ (.tp #[.nm 3,.nm 4]) (.zip (-0) (-1)) #[.ite (.val (.cmp .Eq (-3) (![42]))) #[.aug 2 .Add (-4)] #[.ite (.boo false (.val (.cmp .Eq (-4) (![42]))) #[.val (.cmp .Eq (-4) (-3))]) #[.aug 2 .Add (-3)] #[.ret (.cst .non)]]],.ret (-2)]
def mY:Sxs:=#[.for_ (.tp #[.nm 2,.nm 3]) (.enm (-0)) #[.ite (.val (.cmp .IsNot ("both"<|#[.idx (-3) (¬0),-1]) (.cst .non))) #[.ret (-2)] #[]],.ret (.cst .non)]
def mZ:Sxs:=#[.asg (.nm 2) ("first_touching"<|#[-0,-1]),.ite (.val (.cmp .Is (-2) (.cst .non))) #[.ret (.cst .non)] #[],.for_ (.tp #[.nm 3,.nm 4]) (.enm (.idx (.idx (-0) (-2)) (¬0))) #[.ite (.boo true (.val (.cmp .Eq (.idx (-1) (-3)) (![42]))) #[.val (.cmp .NotEq (-4) (![42]))]) #[.ret (-3)] #[]],.ret (.cst .non)]
def m6:Sxs:=#[.ret (.bin .Add true (.bin .Add true (.slc true (-0) .no (.ob (-1))) (-2)) (.slc true (-0) (.ob (.bin .Add true (-1) (¬1))) .no))]
def jT:Sxs:=#[.for_ (.nm 3) (.seq (-1)) #[.asg (.nm 4) ("splitting_place"<|#[-3,-2]),.ite (.val (.cmp .IsNot (-4) (.cst .non))) #[.asg (.nm 5) ("grown"<|#[-0,-1,"with_sign"<|#[-2,-4,![48]]]),.asg (.nm 6) ("grown"<|#[-0,-1,"with_sign"<|#[-2,-4,![49]]]),.ret (.tup #[![115,112,108,105,116],-4,-5,-6])] #[]],.ret (.bin .Add true (.tup #[-0]) (.bcl .tuple #[.comp true ("first_touching"<|#[-0,-1]) (.nm 0) (.seq (-1)) .yes ["rows","box"] [none,some 2]]))]
def m7:Sxs:=#[.ret (.boo true (.isi (-2) "tuple") #[.cmp .Eq (.bcl .len #[-2]) (.bin .Add true (-1) (¬1)),.cmp .Eq (.idx (-2) (¬0)) (-0)])]
def iY:Sxs:=#[.ite (.not (.val ("is_named"<|#[![115,112,108,105,116],¬3,-1]))) #[.ret (.lst true #[.tup #[-0,-1]])] #[],.asg (.nm 2) (.idx (-1) (¬1)),.ite (.boo false (.not (.val ("is_place"<|#[.bcl .len #[-0],-2]))) #[.val (.cmp .NotEq (.idx (-0) (-2)) (![42]))]) #[.ret (.cst .non)] #[],.asg (.nm 3) ("leaves"<|#["with_sign"<|#[-0,-2,![48]],.idx (-1) (¬2)]),.asg (.nm 4) ("leaves"<|#["with_sign"<|#[-0,-2,![49]],.idx (-1) (¬3)]),.ite (.boo false (.val (.cmp .Is (-3) (.cst .non))) #[.val (.cmp .Is (-4) (.cst .non))]) #[.ret (.cst .non)] #[],.ret (.bin .Add true (-3) (-4))]
def m8:Sxs:=#[.exp ("need_book"<|#[-0]),.exp ("need_book"<|#[-1]),.ite (.val (.cmp .NotEq (.idx (-0) (¬0)) (.idx (-1) (¬0)))) #[.nev] #[]]
def jU:Sxs:=#[.ite (.val (.cmp .Is (-1) (.cst .non))) #[.ret (.cst .non)] #[],.ret (.idx (.idx (.idx (-0) (¬1)) (-1)) (¬1))]
def m9:Sxs:=#[.ret (.cmp .Eq ("deed_of"<|#[-0,.idx (-2) (¬1)]) ("deed_of"<|#[-1,.idx (-2) (¬2)]))]
def ni:Sxs:=#[.ret (.bin .Mult true (![42]) (-0))]
def nq:Sxs:=#[.exp ("need_two_books"<|#[-0,-1]),.asg (.nm 2) ("stars"<|#[.idx (-0) (¬0)]),.asg (.nm 3) ("grown"<|#[![115,97,109,101],.lst true #[.idx (-0) (¬1),.idx (-1) (¬1)],-2]),.asg (.nm 4) (.comp true ("least"<|#[-0]) (.tp #[.nm 0,.nm 1]) (.seq ("leaves"<|#[-2,-3])) (.not (.val ("same_deeds"<|#[-2,-3,-1]))) ["part","leaf","one","other"] [none,none,some 0,some 1]),.ite (.val (-4)) #[.ret (.tup #[![112,97,114,116,101,100],.bcl .min #[-4]])] #[],.ret (.tup #[![97,108,105,107,101],-3])]
def nu:Sxs:=#[.asg (.tp #[.nm 2,.nm 3]) ("alike"<|#[-0,-1]),.ret (.ife (.val (.cmp .Eq (-2) (![112,97,114,116,101,100]))) (-3) (.cst .non))]
def nA:Sxs:=#[.ret (.cmp .Is ("parting_word"<|#[-0,"by_order"<|#[-0,-1]]) (.cst .non))]
def nF:Sxs:=#[.ret (.bin .Add true (.bin .Add true (.slc true (-0) .no (.ob (-1))) (.tup #[.idx (-0) (.bin .Add true (-1) (¬1)),.idx (-0) (-1)])) (.slc true (-0) (.ob (.bin .Add true (-1) (¬2))) .no))]
def nG:Sxs:=#[.ret (.comp true (.tup #[-0,"exchanged"<|#[-1,-0]]) (.nm 0) (.rng (.bin .Sub true (.bcl .len #[-0]) (¬1))) .yes ["place","order"] [none,some 0])]
def zz:Sxs:=#[.asg (.nm 2) (.dp1 ("first_order"<|#[-0]) (.lst false #[])),.asg (.nm 3) .dnw,.asg (.nm 4) (.lcl true .list #[-2]),.whl (.boo true (.val (-4)) #[.val (.cmp .NotIn (-1) (-2))]) #[.asg (.nm 5) (.lst false #[]),.for_ (.nm 6) (.seq (-4)) #[.for_ (.tp #[.nm 7,.nm 8]) (.seq ("steps_from"<|#[-6])) #[.ite (.boo false (.val (.cmp .In (-8) (-2))) #[.val (.cmp .In (-8) (-3))]) #[.cnt] #[],.ite (.val ("is_good"<|#[-0,-8])) #[.set (-2) (-8) (.bin .Add false (.idx (-2) (-6)) (.lst true #[-7])),.exp (.mth .append (-5) #[-8])] #[.set (-3) (-8) (.cst (.bl true))]]],.asg (.nm 4) (.frz (-5))],.ret (-2)]
def nH:Sxs:=#[.exp ("need_book"<|#[-0]),.asg (.tp #[.nm 1,.nm 2]) (-0),.ite (.boo false (.val (.cmp .Gt (.bcl .len #[-2]) (.glb "MOST_ROWS_MOVED" (.int 5)))) #[.val (.cmp .Gt (-1) (.glb "WIDEST_MOVED" (.int 4)))]) #[.nev] #[]]
def zA:Sxs:=#[.exp ("need_movable"<|#[-0]),.exp ("need_order"<|#[-0,-1]),.asg (.nm 2) ("good_ways"<|#[-0,-1]),.ite (.val (.cmp .In (-1) (-2))) #[.ret (.tup #[![119,97,121],.idx (-2) (-1)])] #[],.ret (.tup #[![97,112,97,114,116],.lcl false .list #[-2]])]
def zB:Sxs:=#[.asg (.nm 1) ("_law_open"<|#[-0]),.for_ (.nm 2) (.rng (¬2)) #[.asg (.nm 3) ("_law_book"<|#["_law_anew"<|#[-1],¬4,.idx (.lst true #[¬5,¬4]) (-2)]),.asg (.nm 4) ("_law_good_orders"<|#[-3]),.asg (.nm 5) (.lst false #[.rgt (.bcl .len #[.idx (-3) (¬1)]),.idx (.lcl true .list #[-4]) ("_law_take"<|#[-1,.bcl .len #[-4]])]),.exp (.mth .append (-5) #["_law_order"<|#[-1,.bcl .len #[.idx (-3) (¬1)]]]),.for_ (.nm 6) (.seq (.bin .Add true (-5) (.slc true (-5) (.ob (.neg (¬1))) .no))) #[.asg (.nm 7) ("way"<|#[-3,-6]),.ite (.boo false (.not (.val (.isi (-7) "tuple"))) #[.val (.cmp .NotEq (.bcl .len #[-7]) (¬2)),.not (.val (.isi (.idx (-7) (¬1)) "list"))]) #[.ret (.cst (.bl false))] #[],.ite (.val (.cmp .NotEq (.idx (-7) (¬0)) (.idx (.lst true #[![97,112,97,114,116],![119,97,121]]) (.bcl .int #[.cmp .In (-6) (-4)])))) #[.ret (.cst (.bl false))] #[],.ite (.boo true (.val (.cmp .In (-6) (-4))) #[.not (.val ("_law_way_right"<|#[-4,-6,.idx (-7) (¬1)]))]) #[.ret (.cst (.bl false))] #[],.ite (.boo true (.val (.cmp .NotIn (-6) (-4))) #[.not (.val ("_law_apart_right"<|#[-3,-6,.idx (-7) (¬1)]))]) #[.ret (.cst (.bl false))] #[],.exp (.clr (.idx (-7) (¬1)))]],.ret (.cst (.bl true))]
end
end RF
local macro_rules | `(tactic| simp_arith! [$l,*] $[$c:location]?) => `(tactic| simp only [↓RF.xq, ↓RF.lG, ↓RF.xr, ↓RF.xu, ↓RF.xF, ↓RF.xG, ↓RF.xH, ↓RF.xJ, ↓RF.xK, ↓RF.xM, ↓RF.xN, ↓RF.wG, ↓RF.wZ, ↓RF.xf, ↓RF.EY, ↓RF.Fb, ↓RF.Xr, ↓RF.Xu, ↓RF.adP, ↓RF.adU, ↓RF.wj, ↓RF.wk, ↓RF.wu, ↓RF.lC, ↓RF.jC, ↓RF.iI, ↓RF.Xq, ↓RF.ww, ↓RF.rM, ↓RF.wy, ↓RF.rN, ↓RF.wz, ↓RF.wA, ↓RF.wB, ↓RF.wC, ↓RF.wD, ↓RF.wF, ↓RF.ab6, ↓RF.ab8, ↓RF.x_at, ↓RF.acd, ↓RF.aca, ↓RF.ab9, ↓RF.acb, ↓RF.jD, ↓RF.wH, ↓RF.wI, ↓RF.wJ, ↓RF.rO, ↓RF.rP, ↓RF.wK, ↓RF.wL, ↓RF.wM, ↓RF.wN, ↓RF.wO, ↓RF.wQ, ↓RF.wR, ↓RF.wU, ↓RF.wV, ↓RF.wW, ↓RF.wX, ↓RF.iJ, ↓RF.xg, ↓RF.adT, ↓RF.aaX, ↓RF.aaY, ↓RF.aaZ, ↓RF.aa0, ↓RF.aa1, ↓RF.aa2, ↓RF.aa3, ↓RF.aa4, ↓RF.aa5, ↓RF.aa6, ↓RF.aa7, ↓RF.aa8, ↓RF.aa9, ↓RF.aba, ↓RF.abb, ↓RF.abd, ↓RF.abe, ↓RF.abf, ↓RF.abg, ↓RF.abh, ↓RF.abi, ↓RF.abj, ↓RF.abk, ↓RF.abl, ↓RF.abm, ↓RF.abn, ↓RF.abo, ↓RF.abp, ↓RF.abq, ↓RF.abr, ↓RF.abt, ↓RF.abu, ↓RF.abv, ↓RF.abw, ↓RF.abx, ↓RF.aby, ↓RF.abz, ↓RF.abA, ↓RF.abB, ↓RF.abD, ↓RF.abC, ↓RF.abE, ↓RF.abF, ↓RF.abG, ↓RF.abH, ↓RF.abI, ↓RF.abM, ↓RF.abJ, ↓RF.abK, ↓RF.abW, ↓RF.ab5, ↓RF.abL, ↓RF.abN, ↓RF.abO, ↓RF.abP, ↓RF.abQ, ↓RF.abX, ↓RF.abY, ↓RF.abV, ↓RF.abZ, ↓RF.abU, ↓RF.abS, ↓RF.abT, ↓RF.abR, ↓RF.ab0, ↓RF.ab1, ↓RF.ab2, ↓RF.ab3, ↓RF.ab4, ↓RF.acy, ↓RF.acx, ↓RF.ab7, ↓RF.ace, ↓RF.acf, ↓RF.acg, ↓RF.ach, ↓RF.Js, ↓RF.t6, ↓RF.Jp, ↓RF.Jq, ↓RF.Jr, ↓RF.aci, ↓RF.acj, ↓RF.xj, ↓RF.wY, ↓RF.w5, ↓RF.xm, ↓RF.ack, ↓RF.acl, ↓RF.acn, ↓RF.aco, ↓RF.acp, ↓RF.acq, ↓RF.acr, ↓RF.acs, ↓RF.acu, ↓RF.acv, ↓RF.acw, ↓RF.acz, ↓RF.acA, ↓RF.acB, ↓RF.acC, ↓RF.acD, ↓RF.acE, ↓RF.acF, ↓RF.acG, ↓RF.acH, ↓RF.acI, ↓RF.acJ, ↓RF.acK, ↓RF.acL, ↓RF.acM, ↓RF.is_tup, ↓RF.acN, ↓RF.acO, ↓RF.acQ, ↓RF.acP, ↓RF.acR, ↓RF.acS, ↓RF.gj, RF.adQ, RF.adR, RF.adS, Option.join_some, List.map_cons, List.map_nil, List.cons_append, List.nil_append, List.replicate_succ, List.replicate_zero, List.getElem?_cons_zero, List.getElem?_cons_succ, List.set_cons_zero, List.set_cons_succ, List.length_cons, List.length_nil, RF.aaN, RF.aaO, RF.aaP, RF.aaQ, RF.aaS, RF.aaT, RF.aaU, true_and, and_true, Nat.min_self, Nat.zero_min, Nat.min_zero, Nat.zero_le, Bool.or_false, Bool.or_true, Bool.false_or, Bool.true_or, Bool.not_true, Bool.not_false, RF.acT, RF.acU, RF.acV, RF.acW, RF.acX, RF.acY, RF.acZ, RF.ac0, RF.ac1, RF.ac2, RF.ac3, RF.ac4, RF.ac5, RF.ac6, RF.ac7, RF.ac8, RF.ac9, RF.ada, RF.adb, RF.adc, RF.ade, RF.adf, RF.adg, RF.adh, RF.adi, RF.adk, RF.adl, RF.adm, RF.adn, RF.ado, RF.adp, RF.adq, RF.adt, RF.adu, RF.adv, RF.adw, RF.adx, RF.ady, RF.adz, RF.adA, RF.adB, RF.adC, RF.adD, RF.adE, RF.adF, RF.adG, RF.adH, RF.adI, RF.adJ, RF.adK, RF.adL, RF.adM, RF.adN, RF.adO, RF.env0, RF.ends, String.reduceBEq, $l,*] $[$c:location]?)
local macro_rules | `(tactic| simp_arith [$l,*] $[$c:location]?) => `(tactic| simp_arith! [↓RF.lE, ↓RF.lF, $l,*] $[$c:location]?)
local macro_rules | `(tactic| simp_all_arith [$l,*]) => `(tactic| simp only [RF.env0, RF.ends, List.map_cons, List.map_nil, List.cons_append, List.nil_append, List.replicate_succ, List.replicate_zero, $l,*])
local macro_rules|`(tactic|bv_omega)=>`(tactic|(have hsz:RF.sz=1000000:=rfl;lia))
local macro_rules|`(tactic|symm)=>do let M:=Lean.mkIdent `M;let h:=Lean.mkIdent `hM;`(tactic|refine $h _ _ (RF.seq fun $M $h=>?_))
local macro_rules|`(tactic|nofun)=>do let M:=Lean.mkIdent `M;let h:=Lean.mkIdent `hM;`(tactic|refine RF.seq fun $M $h=>?_)
local macro_rules|`(tactic|ac_nf0)=>do let h:=Lean.mkIdent `hM;`(tactic|refine $h _ _ (RF.last ?_))
local macro_rules|`(tactic|erw[$[$x:term],*]$[$c:location]?)=>`(tactic|simp_arith[$[$x:term],*]$[$c:location]?)
namespace RF
open PySem L2
def iZ{i j:Int}(h:Neg.neg (2 ^ 64)<j/\j<2 ^ 64):CMul i j:=.inr h
def zE{i j:Int}(h:Neg.neg (2 ^ 64)<i/\i<2 ^ 64):CMul i j:=.inl h
def Jw{j:Int}(h:0<=j/\j<=1000):qL 10 j:=⟨h.1,!0,!1⟩
def t7:RF.Spec:=bR (λds z=>∃c k:Int,ds=[.int c,.int k]/\0<=k) (λz G d g=>g=G/\∃r:Int,d=.int r/\0<=r)
def ad0(Z:aj)(ds:AS)(G:DH)(h:∃c k:Int,ds=[.int c,.int k]/\0<=k):az Z yW noE (env0 ds 3) G (ends λd J=>J=G/\∃r:Int,d=.int r/\0<=r):=by
 let(c,k,rfl,L):=h;erw[yW];show⟨Jw (!1),?_⟩;cases hc:decide (10 ^ Int.toNat 18<=c) with
 |true=>
  show⟨c,rfl,?_⟩;have:=dv hc;have h2:(0:Int)<=(10:Int) ^ (18:Int).toNat:=by decide
  exact Int.le_trans h2 this
 |false=>
  generalize q:(c%1000000007*69069+k*40503+977)%2147483629=one;have N:0<=one:=by rw[<-q];exact fA _ (!1)
  have O:one<2147483629:=by rw[<-q];exact ft _ (!1)
  generalize z:(one*one+k*7919+c%65537)%2147483587=two;have U:0<=two:=by rw[<-z];exact fA _ (!1)
  have Y:two<2147483587:=by rw[<-z];exact ft _ (!1)
  generalize g:(two*two+one*31+5)%2147483563=three;have h1:0<=three:=by rw[<-g];exact fA _ (!1)
  clear q z g;show⟨!1,iZ (!1),iZ (!1),!1,zE (!0),iZ (!1),!1,!1,zE (!0),iZ (!1),!1,iZ (!1),iZ (!1),_,rfl,?_⟩;lia
def Pen(G:DH)(p:AQ):Prop:=∃(ns:List Int)(k st:Int),G p=-(.lst [.lst (ns.map D.int),.int k,.int st])/\0<=k/\0<=st
def Pen.sa{G g:DH}{p:AQ}(h:Pen G p)(s:Sa G g):Pen g p:=by let(ns,k,st,e,h1):=h;exact⟨ns,k,st,s _ _ e,h1⟩
def Pen.ne{G:DH}{p q:AQ}(h:Pen G p)(e:G q=none):p≠q:=by let(ns,k,st,g,h1):=h;exact lw g e
def Pen.sb{G g:DH}{p q:AQ}(h:Pen G p)(s:Sb q G g)(n:p≠q):Pen g p:=by let(ns,k,st,e,h1):=h;exact⟨ns,k,st,s _ _ e n,h1⟩
def t8:RF.Spec:=bR (λds G=>∃p,ds=[.ref p]/\Pen G p) (λds G d g=>∃p,ds=[.ref p]/\d=.ref p/\Pen g p/\Sb p G g)
def ad1(Z:aj)(ds:AS)(G:DH)(h:∃p,ds=[.ref p]/\Pen G p):az Z yM noE (env0 ds 0) G (ends λd g=>∃p,ds=[.ref p]/\d=.ref p/\Pen g p/\Sb p G g):=by let(p,rfl,ns,k,st,e,h1,h2):=h;erw[yM,cg e];exact⟨p,rfl,rfl,⟨ns,k,0,bc,h1,!1⟩,Sb.upd⟩
def d8:RF.Spec:=bR (λds G=>∃p,∃m:Int,ds=[.ref p,.int m]/\Pen G p/\0<m/\m<1152921504606846976) (λds G d g=>∃p,∃m r:Int,ds=[.ref p,.int m]/\d=.int r/\0<=r/\r<m/\Pen g p/\Sb p G g)
def ad2 (Z:aj) (hΦ:Z "_law_spread"=t7) (ds:AS) (G:DH) (h:∃p,∃m:Int,ds=[.ref p,.int m]/\Pen G p/\0<m/\m<1152921504606846976):
  az Z yX noE (env0 ds 3) G (ends λd Y=>∃p,∃m r:Int,ds=[.ref p,.int m]/\d=.int r/\0<=r/\r<m/\Pen Y p/\Sb p G Y):=by
 let(p,m,rfl,(ns,k,st,e,h1,h2),h3,h4):=h;simp_all_arith[yX];nofun;have fin:∀(q z J:Option D)(G1:DH)(U s1:Int),0<=U->0<=s1->G1 p=-(.lst [.lst (ns.map D.int),.int U,.int s1])->Sb p G G1->M [-(.ref p),-(.int m),q,z,J] G1:=by intro q z J G1 U s1 q1 q2 L sb;show hM _ _ ?_;erw[cj L,cg L];show⟨h3,⟨h3,h4⟩,p,m,_,rfl,rfl,fA _ (!0),ft _ h3,⟨ns,U,_,bc,q1,?_⟩,sb.trans Sb.upd⟩;exact Int.ediv_nonneg q2 (!0)
 erw[cj e,cg e,hΦ];have g:∀c:Int,t7.t [.int c,.int k] (aL G p (.lst [.lst (ns.map D.int),.int (k+1),.int st])) (λx G1=>trk G1 p λds=>aQ (ixN ds⁻¹ 2) λj=>M [-(.ref p),-(.int m),-(.int k),-(.int c),none] (aL G1 p (.lst (ds.set j x)))) noE:=by intro c;show cF ⟨c,k,rfl,h1⟩ λd Y hx=>?_;let(L,r,e2,hr):=hx;subst L e2;erw[cg bc];show fin _ _ _ _ (k+1) r (!0) hr bc (Sb.trans Sb.upd Sb.upd)
 cases hc:decide (st<m) with
 |false=>exact fin _ _ _ _ k st h1 h2 e (Sb.refl _ _)
 |true=>
  cases N:decide (k<((ns.map D.int)⁻¹:Int)) with
  |true=>
   have N:=dv N;rw[af]at N;show bL (a:=.int ns[k.toNat]) ?_ ?_
   .let(n,rfl):=ck h1;exact bW (by simp at N ⊢)
   .exact g _
  |false=>
   cases O:decide (0<((ns.map D.int)⁻¹:Int)) with
   |false=>exact g 0
   |true=>
    have O:=dv O;have j1:0<=(k*5+3)%((ns.map D.int)⁻¹:Int):=fA _ (!0);have j2:(k*5+3)%((ns.map D.int)⁻¹:Int)<((ns.map D.int)⁻¹:Int):=ft _ O;let(j,hj):=ck j1;rw[hj]at j2;have j3:j<ns⁻¹:=by rw[af]at j2;lia
    show⟨iZ (!1),O,bL (a:=.int ns[j]) ?_ ⟨Jw (!1),?_⟩⟩
    .rw[hj];exact bW (by simp[j3])
    .erw[cg e];show⟨?_,g _⟩;have:(0:Int)<10 ^ Int.toNat 17:=by decide
     lia
def nJ:RF.Spec:=bR (λds G=>∃p,∃n:Nat,∃cs:AA,ds=[.ref p,.int n,.str cs]/\Pen G p/\n<=1000/\cs≠[]/\cs⁻¹<=1000)
 (λds G d g=>∃p,∃n:Nat,∃cs l:AA,ds=[.ref p,.int n,.str cs]/\d=.str l/\l⁻¹=n/\(∀c∈l,c∈cs)/\Pen g p/\Sb p G g)
def ad3(l:AA):((l.map λc=>[c]).map (·.length)).sum=l⁻¹:=by
 induction l with
 |nil=>rfl
 |cons a l g=>simp at g ⊢;lia
def ad4(l:AA):(l.map λc=>[c]).flatten=l:=by
 induction l with
 |nil=>rfl
 |cons a l g=>simp at g ⊢;exact g
def ad5 (Z:aj) (L:Z "_law_take"=d8) (ds:AS) (G:DH) (h:∃p,∃n:Nat,∃cs:AA,ds=[.ref p,.int n,.str cs]/\Pen G p/\n<=1000/\cs≠[]/\cs⁻¹<=1000):
  az Z yZ noE (env0 ds 0) G (ends λd g=>∃p,∃n:Nat,∃cs l:AA,ds=[.ref p,.int n,.str cs]/\d=.str l/\l⁻¹=n/\(∀c∈l,c∈cs)/\Pen g p/\Sb p G g):=by
 let(p,n,cs,rfl,hp,hn,hc,hl):=h;have hc1:0<cs⁻¹:=List.length_pos_iff.mpr hc;erw[yZ,L];show⟨!0,CompG.inv (P:=λi q Y g=>(∃o,Y=[o,-(.str cs),-(.ref p)])/\Pen g p/\Sb p G g/\∃l:AA,q=l.map (λc=>D.str [c])/\l⁻¹=i/\∀c∈l,c∈cs) (h0:=⟨⟨_,rfl⟩,hp,Sb.refl _ _,[],rfl,rfl,!2⟩) (hh:=λy y y y y=>trivial) (hl:=by simp[aX];bv_omega) (hs:=?_) (he:=?_)⟩
 .rintro i d q Y g hd ⟨⟨o,rfl⟩,J,sb,l,rfl,z,O⟩ kk hk;erw[L];show cF ⟨p,_,rfl,J,!0,!0⟩ λd' G2 hx=>?_;let(p2,m2,r,e1,e2,r0,r1,U,sb2):=hx;cases e1;subst e2;let(j,rfl):=ck r0;have hj:j<cs⁻¹:=by lia
  erw[ends];show bL (a:=cs[j]) (bW (by simp[hj])) (hk _ _ _ ⟨⟨_,rfl⟩,U,sb.trans sb2,l++[cs[j]],!2,by simp[z],?_⟩);intro c hc;rcases a9.mp hc with h|h
  .exact O c h
  .rw[ah.mp h];exact c8 _
 .rintro q Y g ⟨_,J,sb,l,rfl,z,O⟩;erw[strs_map];have N:l⁻¹=n:=by rw[z];simp[aX]
  show⟨?_,p,n,cs,l,rfl,?_,N,O,J,sb⟩
  .rw[ad3];simp;bv_omega
  .rw[Jf,ad4]
def isF(c:Nat):Prop:=c=48\/c=49\/c=42
def zF:RF.Spec:=bR (λds G=>∃p,∃n:Nat,ds=[.ref p,.int n]/\Pen G p/\n<=1000) (λds G d g=>∃p,∃n:Nat,∃l:AA,ds=[.ref p,.int n]/\d=.str l/\l⁻¹=n/\(∀c∈l,isF c)/\Pen g p/\Sb p G g)
def ad6 (Z:aj) (h1:Z "_law_take"=d8) (h2:Z "_law_signs"=nJ) (ds:AS) (G:DH) (h:∃p,∃n:Nat,ds=[.ref p,.int n]/\Pen G p/\n<=1000):
  az Z zb noE (env0 ds 0) G (ends λd L=>∃p,∃n:Nat,∃l:AA,ds=[.ref p,.int n]/\d=.str l/\l⁻¹=n/\(∀c∈l,isF c)/\Pen L p/\Sb p G L):=by
 let(p,n,rfl,hp,hn):=h;erw[zb,h1,h2];show⟨!1,cF ⟨p,_,rfl,hp,!1,!1⟩ λd' G2 zZ=>?_⟩;let(p2,m2,r,g,q,r0,r1,z,J):=zZ;cases g;subst q;let(j,rfl):=ck r0;erw[ends];have:∃cs:AA,atI [D.str [48,49,42],D.str [48,49,42,42],D.str [48,49,42,42,42,42],D.str [48,42],D.str [48,49]] ((j:Nat):Int)=-(.str cs)/\cs≠[]/\cs⁻¹<=1000/\∀c∈cs,isF c:=by
  have hj:j=0\/j=1\/j=2\/j=3\/j=4:=by lia
  rcases hj with rfl|rfl|rfl|rfl|rfl<;>exact⟨_,rfl,!1,!1,by simp[isF]⟩
 let(cs,e,N,O,U):=this;show bL e (cF ⟨p,n,cs,rfl,z,hn,N,O⟩ λd G3 zZ=>?_);let(p3,n3,Y,l,g,q,q1,q2,q3,q4):=zZ;cases g;exact⟨p,n,l,rfl,q,q1,λc hc=>U c (q2 c hc),q3,J.trans q4⟩
def zG:RF.Spec:=bR (λds z=>∃ns:List Int,ds=[.scr ns]/\ns⁻¹<=63) (λz G d g=>∃p,d=.ref p/\G p=none/\Pen g p/\Sa G g)
def ad7(Z:aj)(ds:AS)(G:DH)(h:∃ns:List Int,ds=[.scr ns]/\ns⁻¹<=63):az Z zu noE (env0 ds 3) G (ends λd g=>∃p,d=.ref p/\G p=none/\Pen g p/\Sa G g):=by
 let(ns,rfl,hl):=h;simp_all_arith[zu];nofun;erw[ends];intro c hc;show hM _ _ ?_;nofun;erw[ends];show ForG.inv (λi Y g=>∃(O U:Option D)(xs:List Int),Y=[-(.scr ns),-(.ref c),O,U]/\g=aL G c (.lst (xs.map D.int))/\(12<=xs⁻¹\/cut ns (-12) (-63)=[])) ⟨_,_,cut ns none (-12),rfl,rfl,?_⟩ (λy y y y=>trivial) ?_ ?_
 .by_cases q:12<=ns⁻¹
  .left;simp[cut,HT.sIx];lia
  .right;simp[cut,HT.sIx];lia
 .rintro i d Y g hd ⟨O,U,xs,rfl,rfl,hx⟩ kk hk;rw[jM]at hd;let(d',z,e3):=aI.mp hd;subst e3;rw[aS]at z;let(x,L,e4):=aI.mp z;subst e4;have q:12<=xs⁻¹:=by
   rcases hx with h|h
   .exact h
   .rw[h]at L;simp at L
  let(j,hj):=ck (fA ((0+i:Nat):Int) (by decide:(12:Int)≠0));have hj12:j<12:=by have:=ft ((0+i:Nat):Int) (by decide:(0:Int)<12);lia
  have J:j<xs⁻¹:=by lia
  erw[hj,cj bc,cg bc];show⟨!1,bL (a:=.int xs[j]) (bW (by simp[J])) ?_⟩;erw[hj,cj bc,cg bc,af,aaR J];show⟨!1,hk _ _ ⟨_,_,xs.set j (xs[j]+x),rfl,?_,by simp[q]⟩⟩;rw[Xh,List.map_set]
 .rintro Y g ⟨O,U,xs,rfl,rfl,hx⟩;show hM _ _ ?_;erw[bc];show⟨by bv_omega,λp N=>⟨p,rfl,?_,⟨xs,0,0,bc,!1,!1⟩,?_⟩⟩
  .rw[Er hc]at N;exact N
  .rw[Er hc]at N ⊢;exact Sa.new N
def nM:RF.Spec:=bR (λds z=>∃ns:List Int,ds=[.scr ns]/\ns⁻¹<=63) (λz z d z=>d=.bl true)
def whole:D->Bool
 |.int _=>true
 |_=>false
def d9:AS->Option D
 |[x]=>if nr x then some (.bl (whole x)) else none
 |_=>none
def Jx(Z:aj)(ds:AS)(G:DH)(d:D)(h:d9 ds=-d):az Z mK noE (env0 ds 0) G (ends λd' g=>g=G/\d'=d):=by
 unfold d9 at h;split at h
 .rename_i x;split at h
  .rename_i q;cases h;cases x<;>first | (simp[nr]at q;done) | (erw[mK,whole];try simp)
  .cases h
 .cases h
def ad8(Z:aj)(ds:AS)(G:DH)(d:D)(h:d9 ds=-d):az Z Ju noE (env0 ds 0) G (ends λd' g=>g=G/\d'=d):=Jx Z ds G d h
def okF(w:Nat)(l:AA):Prop:=l⁻¹=w/\∀c∈l,isF c
def okF.app{w v:Nat}{l m:AA}(h:okF w l)(h':okF v m):okF (w+v) (l++m):=⟨by rw[am,h.1,h'.1],λc hc=>(a9.mp hc).elim (h.2 c) (h'.2 c)⟩
def okF.one{c:Nat}(h:isF c):okF 1 [c]:=⟨rfl,λd g=>by rw[ah.mp g];exact h⟩
def cZ{p:AQ}{m:Int}{G:DH}{k:AT}{E:EK}(N:Pen G p)(h1:0<m)(h2:m<1152921504606846976)(L:∀(r:Nat)(g:DH),(r:Int)<m->Pen g p->Sb p G g->k (.int r) g):d8.t [.ref p,.int m] G k E:=by show cF ⟨p,m,rfl,N,h1,h2⟩ λd g O=>?_;let(p2,m2,r,z,J,U,Y,q,sb):=O;cases z;subst J;let(n,rfl):=ck U;exact L n g Y q sb
def ad9{n:Nat}(h:(n:Int)<2):∃c,atI [48,49] (n:Int)=-c/\isF c:=by
 have:n=0\/n=1:=by lia
 rcases this with rfl|rfl
 .exact ⟨48,rfl,.inl rfl⟩
 .exact ⟨49,rfl,.inr (.inl rfl)⟩
def aea{n:Nat}(h:(n:Int)<3):∃c,atI [48,49,42] (n:Int)=-c/\isF c:=by
 have:n=0\/n=1\/n=2:=by lia
 rcases this with rfl|rfl|rfl
 .exact ⟨48,rfl,.inl rfl⟩
 .exact ⟨49,rfl,.inr (.inl rfl)⟩
 .exact ⟨42,rfl,.inr (.inr rfl)⟩
def zH(ds:AS)(G:DH):Prop:=∃p l,ds=[.ref p,.str l]/\Pen G p/\(∀c∈l,isF c)/\l⁻¹<=1000
def zJ(ds:AS)(G:DH)(d:D)(g:DH):Prop:=∃p l m,ds=[.ref p,.str l]/\d=.str m/\okF l⁻¹ m/\Pen g p/\Sb p G g
def jb:RF.Spec:=bR zH zJ
def Jy{p:AQ}{l:AA}{G:DH}{k:AT}{E:EK}(N:Pen G p)(hl:∀c∈l,isF c)(h2:l⁻¹<=1000)(L:∀(m:AA)(g:DH),okF l⁻¹ m->Pen g p->Sb p G g->k (.str m) g):jb.t [.ref p,.str l] G k E:=by show cF ⟨p,l,rfl,N,hl,h2⟩ λd g O=>?_;let(p2,U,m,z,J,h,q,sb):=O;cases z;subst J;exact L m g h q sb
def aeb (Z:aj) (h1:Z "_law_take"=d8) (ds:AS) (G:DH) (h:zH ds G):az Z zf noE (env0 ds 2) G (ends (zJ ds G)):=by
 let(p,l,rfl,hp,hl,hl2):=h;simp_all_arith[zf];nofun;erw[ends];symm;simp_arith![ends];show ForG.inv (P:=λi Y G'=>(∃o m,Y=[-(.ref p),-(.str l),-(.str m),o]/\okF i m)/\Pen G' p/\Sb p G G') ⟨⟨_,_,rfl,rfl,!2⟩,hp,Sb.refl _ _⟩ (λy y y y=>trivial) ?_ ?_
 .rintro i d Y G2 hd ⟨⟨o,m,rfl,O⟩,g,J⟩ kk hk;rw[aS]at hd;let(c,hc,rfl):=aI.mp hd;have hi:i<l⁻¹:=(ai.mp hc).1;have N:=hl c (br hc);have l1:=O.1;simp_arith![ends];nofun;have fin:∀(c:Nat)(L:DH),isF c->Pen L p->Sb p G2 L->M [-(.ref p),-(.str l),-(.str m),-(.str [c])] L:=by
   intro c L N q z;ac_nf0;erw[ends];exact⟨by bv_omega,hk _ _ ⟨⟨_,_,rfl,O.app (okF.one N)⟩,q,J.trans z⟩⟩
  erw[h1];cases ht:([c]==[42]) with
  |false=>exact fin c G2 N g (Sb.refl _ _)
  |true=>
   show cZ g (!1) (!1) λr L hr q z=>?_;erw[ends];cases hr0:((r:Int)==0) with
   |false=>exact fin c L N q z
   |true=>
    show cZ q (!1) (!1) λr' G4 hr' hp4 sb4=>?_;let(c',e,U):=ad9 hr';erw[e];exact fin c' G4 U hp4 (z.trans sb4)
 .rintro Y G2 ⟨⟨o,m,rfl,O⟩,g,J⟩;show hM _ _ ?_;erw[ends];exact⟨p,l,m,rfl,rfl,!!O,g,J⟩
def aec (Z:aj) (h1:Z "_law_take"=d8) (ds:AS) (G:DH) (h:zH ds G):az Z zc noE (env0 ds 2) G (ends (zJ ds G)):=by
 let(p,l,rfl,hp,hl,hl2):=h;simp_all_arith[zc];nofun;erw[ends];symm;simp_arith![ends];show ForG.inv (P:=λi Y U=>(∃o m,Y=[-(.ref p),-(.str l),-(.str m),o]/\okF i m)/\Pen U p/\Sb p G U) ⟨⟨_,_,rfl,rfl,!2⟩,hp,Sb.refl _ _⟩ (λy y y y=>trivial) ?_ ?_
 .rintro i d Y G2 hd ⟨⟨o,m,rfl,N⟩,J,L⟩ kk hk;rw[aS]at hd;let(c,hc,rfl):=aI.mp hd;have hi:i<l⁻¹:=(ai.mp hc).1;have O:=hl c (br hc);have l1:=N.1;simp_arith![ends];nofun;have fin:∀(c:Nat)(z:DH),isF c->Pen z p->Sb p G2 z->M [-(.ref p),-(.str l),-(.str m),-(.str [c])] z:=by
   intro c z O g q;ac_nf0;erw[ends];exact⟨by bv_omega,hk _ _ ⟨⟨_,_,rfl,N.app (okF.one O)⟩,g,L.trans q⟩⟩
  erw[h1];show cZ J (!1) (!1) λr z hr g q=>?_;erw[ends];cases hr0:((r:Int)==0) with
  |false=>exact fin c z O g q
  |true=>exact fin 42 z (.inr (.inr rfl)) g q
 .rintro Y G2 ⟨⟨o,m,rfl,N⟩,J,L⟩;show hM _ _ ?_;erw[ends];exact⟨p,l,m,rfl,rfl,!!N,J,L⟩
def JB{G L:DH}{p:AQ}{x:D}{fs:List (AA)}(z:view G x=.lst (fs.map D.str))(N:Pen G p)(sb:Sb p G L):view L x=.lst (fs.map D.str):=by
 cases x with
 |ref q=>
  unfold view at z;dsimp only at z;cases g:G q with
  |none=>rw[g]at z;cases z
  |some o=>
   cases o with
   |lst ds=>
    rw[g]at z;have e:ds=fs.map D.str:=by simpa using z
    have hn:q≠p:=by
     rintro rfl;let(ns,k,st,J,_):=N;rw[g,e]at J;cases fs with
     |nil=>simp at J
     |cons a r=>simp at J
    rw[cj (sb q _ g hn),e]
   |dct _ _=>rw[g]at z;cases z
 |lst l=>exact z
 |_=>cases z
def JC(ds:AS)(G:DH):Prop:=∃p,∃w:Nat,∃x,∃fs:List (AA),ds=[.ref p,.int w,x]/\Pen G p/\0<w/\w<=1000/\view G x=.lst (fs.map D.str)/\fs⁻¹<=1000/\∀f∈fs,okF w f
def zK(ds:AS)(G:DH)(d:D)(g:DH):Prop:=∃p,∃w:Nat,∃x m,ds=[.ref p,.int w,x]/\d=.str m/\okF w m/\Pen g p/\Sb p G g
def uc:RF.Spec:=bR JC zK
def aed{p:AQ}{w:Nat}{x:D}{fs:List (AA)}{G:DH}{k:AT}{E:EK}(U:Pen G p)(h1:0<w)(h2:w<=1000)(Y:view G x=.lst (fs.map D.str))(L:fs⁻¹<=1000)(N:∀f∈fs,okF w f)
  (O:∀(m:AA)(g:DH),okF w m->Pen g p->Sb p G g->k (.str m) g):uc.t [.ref p,.int w,x] G k E:=by
 show cF ⟨p,w,x,fs,rfl,U,h1,h2,Y,L,N⟩ λd g hx=>?_;let(p2,w2,x2,m,z,J,h,q,sb):=hx;simp only[dE,D.ref.injEq,D.int.injEq,Int.ofNat_inj,and_true]at z;let(rfl,rfl,rfl):=z;subst J;exact O m g h q sb
def aee(fs:List (AA)):nrs (fs.map D.str)=true:=by
 induction fs with
 |nil=>rfl
 |cons a l g=>rw[a7,nrs,g];rfl
def aef(fs:List (AA)):bh (fs.map D.str)=0:=by
 induction fs with
 |nil=>rfl
 |cons a l g=>rw[a7,bh,g];rfl
def aeg{w n:Nat}{l:AA}{c:Nat}(h:okF w l)(hn:n<w)(q:isF c):okF w (cut l none (-(n:Int))++[c]++cut l (-((n:Int)+1)) none):=by
 have h1:=h.1;rw[yI,Ji];show⟨?_,λd g=>?_⟩
 .simp;lia
 .rcases a9.mp g with g|g
  .rcases a9.mp g with g|g
   .exact h.2 d (List.mem_of_mem_take g)
   .rw[ah.mp g];exact q
  .exact h.2 d (List.mem_of_mem_drop g)
def aeh (Z:aj) (h1:Z "_law_take"=d8) (h2:Z "_law_form"=zF) (h3:Z "_law_within"=jb) (h4:Z "_law_wider"=jb) (ds:AS) (G:DH) (h:JC ds G):az Z zg noE (env0 ds 3) G (ends (zK ds G)):=by
 let(p,w,x,fs,rfl,hp,w1,w2,hv,hf,hfs):=h;simp_all_arith[zg];nofun;erw[h1];show cZ hp (!1) (!1) λkd G2 hkd L O=>?_;have hv2:=JB hv hp O;symm;have drawn:∀(Y:ak) (G3:DH),Pen G3 p->Sb p G G3->az Z (.cons (.ret (.call "_law_form" (.cons (.var 0) (.cons (.var 1) .nil)))) .nil) noE (-(.ref p)::-(.int w)::Y) G3 {nx:=M,rt:=zK [.ref p,.int w,x] G,bk:=λy y=>False,ct:=λy y=>False}:=by intro Y G3 J U;erw[h2];show cF ⟨p,w,rfl,J,w2⟩ λd G4 hx=>?_;let(p4,n4,l,e1,e2,l1,l2,q,z):=hx;simp only[dE,D.ref.injEq,D.int.injEq,Int.ofNat_inj,and_true]at e1;let(rfl,rfl):=e1;exact⟨p,w,x,l,rfl,e2,⟨l1,l2⟩,q,U.trans z⟩
 simp_arith![hv2,aaW,aef,aee];show⟨!1,?_⟩;cases he:(fs.map D.str).isEmpty with
 |true=>exact drawn _ _ L O
 |false=>
  have hlen:0<fs⁻¹:=by
   cases fs with
   |nil=>simp at he
   |cons a r=>simp
  simp_arith![ends];cases hk2:decide ((kd:Int)<2) with
  |true=>exact drawn _ _ L O
  |false=>
   erw[ends];symm;erw[h1,hv2,af];show cZ L (!0) (!0) λr G3 hr J U=>?_;have hv3:=JB hv2 L U;erw[hv3];have hr':r<fs⁻¹:=by lia
   show bL (a:=.str fs[r]) (bW (by simp[hr'])) ?_;have g:=hfs fs[r] (c8 _);generalize fs[r]=f at g;symm;have N:=O.trans U;erw[ends];cases hk3:((kd:Int)==2) with
   |true=>exact⟨p,w,x,f,rfl,rfl,g,J,N⟩
   |false=>
    symm;simp_arith![ends];cases hk5:decide ((kd:Int)<5) with
    |true=>
     erw[h1];show cZ J (!0) (!0) λat' G4 hat q z=>?_;show cZ q (!1) (!1) λs G5 hs hp5 sb5=>?_;let(c,e,fc):=aea hs;have c1:=Jg f none (-(at':Int));have c2:=Jg f (-((at':Int)+1)) none;have f1:=g.1;erw[e,am];exact⟨by bv_omega,by bv_omega,p,w,x,_,rfl,rfl,aeg g (!0) fc,hp5,N.trans (z.trans sb5)⟩
    |false=>
     erw[ends];symm;have f1:=g.1;erw[h3];cases hk6:((kd:Int)==5) with
     |true=>
      show Jy J g.2 (!0) λm G4 hm q z=>?_;rw[f1]at hm;exact⟨p,w,x,m,rfl,rfl,hm,q,N.trans z⟩
     |false=>
      show hM _ _ ?_;erw[h4];show Jy J g.2 (!0) λm G4 hm q z=>?_;rw[f1]at hm;exact⟨p,w,x,m,rfl,rfl,hm,q,N.trans z⟩
def okD(l:AA):Prop:=1<=l⁻¹/\l⁻¹<=8/\∀c∈l,97<=c/\c<=122
def aei{p:AQ}{n:Nat}{cs:AA}{G:DH}{k:AT}{E:EK}(O:Pen G p)(hn:n<=1000)(h1:cs≠[])(h2:cs⁻¹<=1000)(N:∀(l:AA)(g:DH),l⁻¹=n->(∀c∈l,c∈cs)->Pen g p->Sb p G g->k (.str l) g):nJ.t [.ref p,.int n,.str cs] G k E:=by show cF ⟨p,n,cs,rfl,O,hn,h1,h2⟩ λd g U=>?_;let(p2,n2,J,l,z,L,Y,l2,q,sb):=U;simp only[dE,D.ref.injEq,D.int.injEq,D.str.injEq,Int.ofNat_inj,and_true]at z;let(rfl,rfl,rfl):=z;subst L;exact N l g Y l2 q sb
def JD(ds:AS)(G:DH):Prop:=∃p,∃m:Int,ds=[.ref p,.int m]/\Pen G p/\0<m/\m<=100
def JF(ds:AS)(G:DH)(d:D)(g:DH):Prop:=∃p,∃m:Int,∃xs:List (AA),ds=[.ref p,.int m]/\d=.lst (xs.map D.str)/\0<xs⁻¹/\xs⁻¹<=100/\(∀x∈xs,okD x)/\Pen g p/\Sb p G g
def ud:RF.Spec:=bR JD JF
def zL:List (AA):=[[97],[103,111],[115,116,97,121],[97,98,99,100,101,102,103,104],[110,111,110,101],[121,101,115],[105,110],[111,117,116],[107,101,101,112],[119,111,114,100],[122,122]]
def aej:∀x∈zL,okD x:=by
 have h:∀x∈zL,1<=x⁻¹/\x⁻¹<=8/\∀c∈x,97<=c/\c<=122:=by decide
 exact h
def JG{c:Nat}(h:c∈[97,98,99,100,101,102,103,104,105,106,107,108,109,110,111,112,113,114,115,116,117,118,119,120,121,122]):97<=c/\c<=122:=by
 have:∀c∈[97,98,99,100,101,102,103,104,105,106,107,108,109,110,111,112,113,114,115,116,117,118,119,120,121,122],97<=c/\c<=122:=by decide
 exact this c h
def aek (Z:aj) (h1:Z "_law_take"=d8) (h2:Z "_law_signs"=nJ) (ds:AS) (G:DH) (h:JD ds G):az Z za noE (env0 ds 4) G (ends (JF ds G)):=by
 let(p,m,rfl,hp,m1,m2):=h;simp_all_arith[za];nofun;erw[ends];show⟨!1,hM _ _ ?_⟩;show(λtail=>tail zL rfl aej) (?_:∀xs:List (AA),xs⁻¹=11->(∀x∈xs,okD x)->az Z _ noE [-(.ref p),-(.int m),-(.lst (xs.map D.str)),none,none,none] G _);intro xs x1 x2;nofun;erw[h1];show cZ hp (!1) (!1) λt G2 ht hp2 sb2=>?_;symm;erw[h1];show cZ hp2 (!0) (!0) λr G3 hr hp3 sb3=>?_;erw[ends];show⟨!0,?_⟩;show CompG.inv (P:=λi g Y J=>(∃o,Y=[o,-(.lst (xs.map D.str)),-(.int t)])/\J=G3/\∃ys:List (AA),g=ys.map D.str/\ys⁻¹=i/\∀y∈ys,okD y) ⟨⟨_,rfl⟩,rfl,[],rfl,rfl,!2⟩ (λv v v v v=>trivial) (by simp[aX];bv_omega) ?_ ?_
 .rintro i d g Y J hd ⟨⟨o,rfl⟩,rfl,ys,rfl,y1,y2⟩ kk hk;unfold aX at hd;rw[aS]at hd;let(j,hj,rfl):=aI.mp hd;erw[ends];have q0:0<=((t:Int)+3*(0+(j:Int)))%11:=fA _ (!1);have q1:((t:Int)+3*(0+(j:Int)))%11<11:=ft _ (!1);show⟨zE (!1),!1,Jl q0 (by rw[af,x1];exact q1) λa ha=>?_⟩;let(x,hx,rfl):=bi.mp ha;show hk _ _ _ ⟨⟨_,rfl⟩,rfl,ys++[x],!2,by simp[y1],λy hy=>?_⟩;rcases a9.mp hy with h|h
  .exact y2 y h
  .rw[ah.mp h];exact x2 x hx
 .rintro g Y J ⟨_,rfl,ys,rfl,y1,y2⟩;have hy:ys⁻¹=r+1:=by rw[y1];simp[aX];lia
  symm;erw[h1];show cZ hp3 (!1) (!1) λq G4 hq O sb4=>?_;have U:=sb2.trans (sb3.trans sb4);erw[ends];cases hq0:((q:Int)==0) with
  |false=>
   show hM _ _ ?_;erw[ends];exact⟨p,m,ys,rfl,rfl,!0,!0,y2,O,U⟩
  |true=>
   erw[ends];show CompG.inv (P:=λi g Y J=>(∃o,Y=[o,-(.ref p),-(.str [97,98,99,100,101,102,103,104,105,106,107,108,109,110,111,112,113,114,115,116,117,118,119,120,121,122])])/\Pen J p/\Sb p G J/\∃zs:List (AA),g=zs.map D.str/\zs⁻¹=i/\∀z∈zs,okD z) ⟨⟨_,rfl⟩,O,U,[],rfl,rfl,!2⟩ (λv v v v v=>trivial) (by simp;bv_omega) ?_ ?_
   .rintro i d g Y J hd ⟨⟨o,rfl⟩,L,N,zs,rfl,z1,z2⟩ kk hk;erw[h1,h2];show cZ L (!1) (!1) λn G6 hn hp6 sb6=>?_;erw[ends];rw[show(1:Int)+(n:Int)=((n+1:Nat):Int) by lia];show aei hp6 (!0) (!2) (!2) λl G7 l1 l2 hp7 sb7=>?_;show hk _ _ _ ⟨⟨_,rfl⟩,hp7,N.trans (sb6.trans sb7),zs++[l],!2,by simp[z1],λz hz=>?_⟩;rcases a9.mp hz with h|h
    .exact z2 z h
    .rw[ah.mp h];exact⟨!0,!0,λc hc=>JG (l2 c hc)⟩
   .rintro g Y J ⟨_,L,N,zs,rfl,z1,z2⟩;rw[af]at z1;show hM _ _ ?_;erw[ends];exact⟨p,m,zs,rfl,rfl,!0,!0,z2,L,N⟩
abbrev Row:=AA×AA
abbrev AU:=List Row
def aN(r:Row):D:=.tup [.str r.1,.str r.2]
def au(w:Nat)(rs:AU):D:=.tup [.int w,.tup (rs.map aN)]
structure okB(w:Nat)(rs:AU):Prop where
 w1:1<=w
 w6:w<=6
 len:rs.length<=12
 form:∀r∈rs,okF w r.1
 deed:∀r∈rs,okD r.2
def JH(ds:AS)(G:DH):Prop:=∃p,∃w m:Nat,ds=[.ref p,.int w,.int m]/\Pen G p/\1<=w/\w<=6/\m<=12
def JK(ds:AS)(G:DH)(d:D)(g:DH):Prop:=∃p,∃w m v:Nat,∃rs:AU,ds=[.ref p,.int w,.int m]/\d=au v rs/\okB v rs/\v<=w/\rs⁻¹<=m/\Pen g p/\Sb p G g
def ue:RF.Spec:=bR JH JK
def ael{p:AQ}{w m:Nat}{G:DH}{k:AT}{E:EK}(O:Pen G p)(h1:1<=w)(h2:w<=6)(L:m<=12)(N:∀(v:Nat)(rs:AU)(g:DH),okB v rs->v<=w->rs⁻¹<=m->Pen g p->Sb p G g->k (au v rs) g):ue.t [.ref p,.int w,.int m] G k E:=by show cF ⟨p,w,m,rfl,O,h1,h2,L⟩ λd g U=>?_;let(p2,w2,m2,v,rs,z,J,o,Y,q2,q,sb):=U;simp only[dE,D.ref.injEq,D.int.injEq,Int.ofNat_inj,and_true]at z;let(rfl,rfl,rfl):=z;subst J;exact N v rs g o Y q2 q sb
def aem{p:AQ}{m:Int}{G:DH}{k:AT}{E:EK}(N:Pen G p)(h1:0<m)(h2:m<=100)(L:∀(xs:List (AA))(g:DH),0<xs⁻¹->xs⁻¹<=100->(∀x∈xs,okD x)->Pen g p->Sb p G g->k (.lst (xs.map D.str)) g):ud.t [.ref p,.int m] G k E:=by show cF ⟨p,m,rfl,N,h1,h2⟩ λd g O=>?_;let(p2,m2,xs,z,J,U,Y,q3,q,sb):=O;cases z;subst J;exact L xs g U Y q3 q sb
def Ci{g:Type}{l:List g}{a:g}:atI (l++[a]) (Neg.neg 1)=-a:=by unfold atI ixN;rw[if_neg (!1),if_pos (by simp;lia),am,ca,show(Neg.neg 1+((l⁻¹+1:Nat):Int)).toNat=l⁻¹ by lia];simp
def aen (Z:aj) (h1:Z "_law_take"=d8) (h2:Z "_law_deeds_of"=ud) (h3:Z "_law_form_like"=uc) (ds:AS) (G:DH) (h:JH ds G):az Z zj noE (env0 ds 5) G (ends (JK ds G)):=by
 let(p,w,m,rfl,hp,w1,w2,m1):=h;simp_all_arith[zj];nofun;erw[h1];show cZ hp (!0) (!0) λn G2 hn hp2 sb2=>?_;erw[ends];rw[show(1:Int)+(n:Int)=((n+1:Nat):Int) by lia];symm;erw[h2];show aem hp2 (!1) (!1) λxs G3 x1 x2 x3 O sb3=>?_;symm;erw[ends];show λq hq=>hM _ _ (seq λM hM=>?_);erw[ends];show λs hs=>hM _ _ (seq λM hM=>?_);have J:q≠s:=by rintro rfl;rw[bc]at hs;cases hs
 have hs3:G3 s=none:=by rw[aY (Ne.symm J)]at hs;exact hs
 have L:p≠q:=O.ne hq;have N:p≠s:=O.ne hs3;have sa4:Sa G3 (aL (aL G3 q (.lst [])) s (.lst [])):=(Sa.new hq).trans (Sa.new hs);have hp4:=O.sa sa4;simp_arith![h1];show cZ hp4 (!0) (!0) λr G5 hr hp5 sb5=>?_;simp_arith![ends];show⟨!0,?_⟩;show ForG.inv (P:=λi Y G'=>(∃o,Y=[-(.ref p),-(.int w),-(.int m),-(.int ((n+1:Nat):Int)),-(.lst (xs.map D.str)),-(.ref q),-(.ref s),o])/\Pen G' p/\Sb p G G'/\
   ∃rs:AU,G' q=-(.lst ((rs.map (·.1)).map D.str))/\G' s=-(.lst (rs.map aN))/\rs⁻¹=i/\(∀r∈rs,okF (n+1) r.1)/\∀r∈rs,okD r.2) ⟨⟨_,rfl⟩,hp5,sb2.trans (sb3.trans (sa4.sb.trans sb5)),[],?_,?_,rfl,!2,!2⟩ (λy y y y=>trivial) ?_ ?_
 .exact sb5 q _ (by rw[aY J];exact bc) (Ne.symm L)
 .exact sb5 s _ bc (Ne.symm N)
 .rintro i d Y G' hd ⟨⟨o,rfl⟩,U,sb6,rs,g1,g2,r1,r2,r3⟩ kk hk;have hi:i<r:=by
   have:=(ai.mp hd).1;simpa [aX] using this
  simp_arith![ends];nofun;erw[h3,cg g1];show aed (fs:=rs.map (·.1)) U (!0) (!0) (cj g1) (by simp;lia) (λf hf=>?_) λf G7 hf hp7 sb7=>?_
  .let(r',g,rfl):=bi.mp hf;exact r2 r' g
  have g1':=sb7 q _ g1 (Ne.symm L);have g2':=sb7 s _ g2 (Ne.symm N);erw[cg g1'];show⟨by simp;bv_omega,hM _ _ (last ?_)⟩;have e2:aL G7 q (.lst ((rs.map (·.1)).map D.str++[.str f])) s=-(.lst (rs.map aN)):=by rw[aY (Ne.symm J)];exact g2'
  have hp8:Pen (aL G7 q (.lst ((rs.map (·.1)).map D.str++[.str f]))) p:=hp7.sb Sb.upd L;erw[h1,cg e2,cj bc,Ci,af];show cZ hp8 (!0) (!0) λt G9 ht hp9 sb9=>?_;have e1':=sb9 q _ bc (Ne.symm L);have e2':=sb9 s _ e2 (Ne.symm N);erw[cg e2'];show Jl (!0) (by simp;lia) λx hx=>?_;let(dd,hdd,rfl):=bi.mp hx;show⟨!1,by simp;bv_omega,hk _ _ ⟨⟨_,rfl⟩,hp9.sb Sb.upd N,?_,rs++[(f,dd)],?_,?_,by simp[r1],?_,?_⟩⟩
  .intro b ob hb nb;by_cases hbs:b=s
   .subst hbs;exfalso;have z:=sb2 b _ hb nb;have z:=sb3 b _ z nb;rw[hs3]at z;cases z
   .by_cases hbq:b=q
    .subst hbq;exfalso;have z:=sb2 b _ hb nb;have z:=sb3 b _ z nb;rw[hq]at z;cases z
    .rw[aY hbs];exact sb9 b _ (by rw[aY hbq];exact sb7 b _ (sb6 b _ hb nb) nb) nb
  .rw[aY J,e1'];simp
  .rw[bc];simp[aN]
  .intro r' g;rcases a9.mp g with h|h
   .exact r2 r' h
   .rw[ah.mp h];exact hf
  .intro r' g;rcases a9.mp g with h|h
   .exact r3 r' h
   .rw[ah.mp h];exact x3 dd hdd
 .rintro Y G' ⟨⟨o,rfl⟩,U,sb6,rs,g1,g2,r1,r2,r3⟩;have hl:rs⁻¹=r:=by rw[r1];simp[aX]
  show hM _ _ ?_;erw[cj g2];exact⟨!1,p,w,m,n+1,rs,rfl,rfl,⟨!0,!0,!0,r2,r3⟩,!0,!0,U,sb6⟩
def alt(c:Nat):AA:=if c=42 then[48,49] else[c]
def step1(g:List (AA))(c:Nat):List (AA):=g.flatMap λt=>(alt c).map λs=>t++[s]
def bG(f:AA):List (AA):=f.foldl step1 [[]]
def Fits(f w:AA):Prop:=f⁻¹=w⁻¹/\∀(i c s:Nat),f[i]?=-c->w[i]?=-s->s∈alt c
def zM(f:AA)(c:Nat):bG (f++[c])=step1 (bG f) c:=by unfold bG;rw[fN];rfl
def aeo{g:List (AA)}{c:Nat}{w:AA}:w∈step1 g c↔∃t s,t∈g/\s∈alt c/\w=t++[s]:=by
 unfold step1;rw[List.mem_flatMap];constructor
 .rintro ⟨t,q,h⟩;let(s,hs,rfl):=bi.mp h;exact⟨t,s,q,hs,rfl⟩
 .rintro ⟨t,s,q,hs,rfl⟩;exact⟨t,q,bi.mpr ⟨s,hs,rfl⟩⟩
def zN{f w:AA}{c s:Nat}:Fits (f++[c]) (w++[s])↔Fits f w/\s∈alt c:=by
 constructor
 .rintro ⟨h1,h2⟩;have hl:f⁻¹=w⁻¹:=by simpa using h1
  show⟨⟨hl,λi g s' hc hs=>?_⟩,?_⟩
  .have z:=(ai.mp hc).1;exact h2 i g s' (by rw[b4 z];exact hc) (by rw[b4 (!0)];exact hs)
  .exact h2 f⁻¹ c s (!2) (by rw[hl];simp)
 .rintro ⟨⟨h1,h2⟩,q⟩;show⟨by simp[h1],λi g s' hc hs=>?_⟩;by_cases hi:i<f⁻¹
  .rw[b4 hi]at hc;rw[b4 (!0)]at hs;exact h2 i g s' hc hs
  .have J:=(ai.mp hc).1;simp at J;have e:i=f⁻¹:=by lia
   subst e;simp at hc;rw[h1]at hs;simp at hs;subst hc hs;exact q
def nO{f w:AA}:w∈bG f↔Fits f w:=by
 induction f using Jj generalizing w with
 |nil=>
  simp[bG,Fits];constructor
  .rintro rfl;simp
  .intro h;exact dy.mp h.symm
 |snoc f c q=>
  rw[zM,aeo];constructor
  .rintro ⟨t,s,z,hs,rfl⟩;exact zN.mpr ⟨q.mp z,hs⟩
  .intro h;have hl:=h.1;simp at hl;have g:w≠[]:=by rintro rfl;simp at hl
   show⟨w.dropLast,w.getLast g,?_,?_,(fx g).symm⟩
   .rw[<-fx g]at h;exact q.mpr (zN.mp h).1
   .rw[<-fx g]at h;exact(zN.mp h).2
def aep{f w:AA}(h:w∈bG f):w⁻¹=f⁻¹:=(nO.mp h).1.symm
def JL{g:List (AA)}{c:Nat}:(step1 g c)⁻¹<=2*g⁻¹:=by
 unfold step1;induction g with
 |nil=>simp
 |cons a r q=>
  rw[List.flatMap_cons,am,af,c9];have:(alt c)⁻¹<=2:=by unfold alt;split<;>simp
  lia
def JM(f:AA):(bG f)⁻¹<=2 ^ f⁻¹:=by
 induction f using Jj with
 |nil=>simp[bG]
 |snoc f c g=>
  rw[zM,am,ca,Nat.pow_succ];have:=@JL (bG f) c;lia
def aeq{a b:List (AA)}{c:Nat}:step1 (a++b) c=step1 a c++step1 b c:=by unfold step1;rw[List.flatMap_append]
def JN(ds:AS)(_:DH):Prop:=∃f:AA,ds=[.str f]/\f⁻¹<=12
def JP(ds:AS)(G:DH)(d:D)(g:DH):Prop:=∃f:AA,ds=[.str f]/\d=.lst ((bG f).map D.str)/\Sa G g
def uf:RF.Spec:=bR JN JP
def aer{f:AA}{G:DH}{k:AT}{E:EK}(h:f⁻¹<=12)(J:∀g,Sa G g->k (.lst ((bG f).map D.str)) g):uf.t [.str f] G k E:=by show cF ⟨f,rfl,h⟩ λd g L=>?_;let(f2,q,z,sa):=L;cases q;subst z;exact J g sa
def aes(Z:aj)(ds:AS)(G:DH)(h:JN ds G):az Z yQ noE (env0 ds 4) G (ends (JP ds G)):=by
 let(f,rfl,hf):=h;simp_all_arith[yQ];nofun;erw[ends];show⟨!1,hM _ _ (seq λM hM=>?_)⟩;simp_arith![ends];show ForG.inv (P:=λi Y G'=>(∃o2 o3 L,Y=[-(.str f),-(.lst ((bG (f.take i)).map D.str)),o2,o3,L])/\Sa G G') ⟨⟨_,_,_,rfl⟩,Sa.refl G⟩ (λy y y y=>trivial) ?_ ?_
 .rintro i d Y G2 hd ⟨⟨o2,o3,L,rfl⟩,sa⟩ kk hk;rw[aS]at hd;let(c,hc,rfl):=aI.mp hd;have hi:=(ai.mp hc).1;have ht:f.take (i+1)=f.take i++[c]:=by rw[eR,hc];rfl
  have hcard:(bG (f.take i))⁻¹<=4096:=by
   have h1:=JM (f.take i);have h2:(f.take i)⁻¹<=12:=by rw[d4];lia
   have h3:=fi (show 0<2 by decide) h2;have h4:2 ^ 12=4096:=by decide
   lia
  simp_arith![ends];nofun;erw[ends];show λq hq=>hM _ _ (seq λM hM=>?_);simp_arith![ends];show ForG.inv (P:=λj Y G'=>(∃L,Y=[-(.str f),-(.lst ((bG (f.take i)).map D.str)),-(.str [c]),-(.ref q),L])/\Sa G G'/\G' q=-(.lst ((step1 ((bG (f.take i)).take j) c).map D.str))) ⟨⟨_,rfl⟩,sa.trans (Sa.new hq),bc⟩ (λy y y y=>trivial) ?_ ?_
  .rintro j d Y G3 hd3 ⟨⟨L,rfl⟩,N,O⟩ kk' hk';rw[aS]at hd3;let(t,J,rfl):=aI.mp hd3;have hj:=(ai.mp J).1;have tlen:t⁻¹<=12:=by rw[aep (br J),d4];lia
   have tk:(bG (f.take i)).take (j+1)=(bG (f.take i)).take j++[t]:=by rw[eR,J];rfl
   have st:step1 [t] c=(alt c).map λs=>t++[s]:=by simp[step1]
   have l1:(step1 ((bG (f.take i)).take j) c)⁻¹<=8192:=by
    have:=@JL ((bG (f.take i)).take j) c;have:((bG (f.take i)).take j)⁻¹<=4096:=by rw[d4];lia
    lia
   have al2:(alt c)⁻¹<=2:=by unfold alt;split<;>simp
   simp_arith![ends];show last ?_;erw[cg O];show⟨!1,?_⟩;have ix:atI [D.str [48,49],D.str [c]] (if(!([c]==[42]))=true then 1 else 0)=-(.str (alt c)):=by
    unfold alt;by_cases z:c=42
    .subst z;rfl
    .have:([c]==[42])=false:=by simp[z]
     rw[this,if_neg z];rfl
   erw[ix];show CompG.map (f:=λd=>match d with |.str [s]=>.str (t++[s])|_=>.non) (I:=λY=>∃o,Y=[o,-(.str t)]) ⟨_,rfl⟩ trivial (by simp;bv_omega) ?_ ?_
   .rintro d Y hd ⟨o,rfl⟩ kk2 hk2;let(s,_,rfl):=bi.mp hd;erw[ends];exact⟨by bv_omega,hk2 _ ⟨_,rfl⟩⟩
   .rw[cp];erw[Function.comp_def,cg O,af];show⟨by bv_omega,hk' _ _ ⟨⟨_,rfl⟩,?_,?_⟩⟩
    .intro b ob U;by_cases g:b=q
     .subst g;exfalso;have:=sa b _ U;rw[hq]at this;cases this
     .rw[aY g];exact N b _ U
    .rw[bc,tk,aeq,st,cy,cp];rfl
  .rintro Y G3 ⟨⟨L,rfl⟩,N,O⟩;rw[af,eK]at O;ac_nf0;erw[O];show hk _ _ ⟨⟨_,_,_,by rw[ht,zM]⟩,?_⟩;intro b ob U;have g:b≠q:=by
    rintro rfl;have:=sa b _ U;rw[hq]at this;cases this
   rw[iG g];exact N b _ U
 .rintro Y G2 ⟨⟨o2,o3,L,rfl⟩,sa⟩;rw[af,eK];show hM _ _ ?_;erw[ends];exact⟨f,rfl,rfl,sa⟩
def letters:AA:=[97,98,99,100,101,102,103,104,105,106,107,108,109,110,111,112,113,114,115,116,117,118,119,120,121,122]
def aet:∀c:Fin 123,97<=c.1->letters.contains c.1=true:=by decide
def aeu{c:Nat}:letters.contains c=true↔97<=c/\c<=122:=
 ⟨λh=>JG (bm.mp h),λ⟨h1,h2⟩=>aet ⟨c,Nat.lt_succ_of_le h2⟩ h1⟩
def okW(w:Nat)(l:AA):Prop:=l⁻¹=w/\∀c∈l,c=48\/c=49
def zO{g:Type}(l:List g):bools (l.map λz=>D.bl true)=-(l.map λz=>true):=my _ l
def zP{q:Type}(l:List q):(l.map λz=>true).all id=true:=b3.mpr λx g=>by let(_,_,rfl):=bi.mp g;rfl
def zQ:RF.Spec:=bM (λa:AA×AA=>[.str a.1,.int a.2⁻¹,.str a.2]) (λa=>a.2⁻¹<=1000/\∀c∈a.2,a.1.contains c=true) (λz=>.bl true)
def aev(Z:aj)(a:AA×AA)(G:DH)(h:a.2⁻¹<=1000/\∀c∈a.2,a.1.contains c=true):az Z mG noE (env0 [.str a.1,.int a.2⁻¹,.str a.2] 0) G (ends λd g=>g=G/\d=.bl true):=by
 let(s,l):=a;let(h1,h2):=h;dsimp only at h1 h2;erw[mG,BEq.rfl];show CompG.map (f:=λy=>.bl true) (I:=λY=>∃o,Y=[o,-(.str s)]) ⟨_,rfl⟩ trivial (by simp;bv_omega) ?_ ?_
 .rintro d Y q ⟨o,rfl⟩ J z;let(c,hc,rfl):=bi.mp q;erw[h2 c hc];exact z _ ⟨_,rfl⟩
 .erw[zO,zP]
def zR:RF.Spec:=bM (λl:AA=>[.int l⁻¹,.str l]) (λl=>l⁻¹<=1000/\∀c∈l,isF c) (λz=>.bl true)
def aew (Z:aj) (h1:Z "is_text_of"=zQ) (l:AA) (G:DH) (h:l⁻¹<=1000/\∀c∈l,isF c):az Z mH noE (env0 [.int l⁻¹,.str l] 0) G (ends λd g=>g=G/\d=.bl true):=by erw[mH,h1];exact bZ ([48,49,42],l) rfl ⟨h.1,λc hc=>by rcases h.2 c hc with rfl|rfl|rfl<;>rfl⟩ ⟨rfl,rfl⟩
def zT:RF.Spec:=bM (λl:AA=>[.str l]) okD (λz=>.bl true)
def aex(Z:aj)(l:AA)(G:DH)(h:okD l):az Z mF noE (env0 [.str l] 0) G (ends λd q=>q=G/\d=.bl true):=by
 let(h1,h2,L):=h;have z:decide ((1:Int)<=(l⁻¹:Int))=true:=b9 (!0);have J:decide ((l⁻¹:Int)<=8)=true:=b9 (!0);erw[mF,z,J];show CompG.map (f:=λy=>.bl true) (I:=λY=>∃o,Y=[o]) ⟨_,rfl⟩ trivial (by simp;bv_omega) ?_ ?_
 .rintro d Y N ⟨o,rfl⟩ U O;let(c,hc,rfl):=bi.mp N;have g:[97,98,99,100,101,102,103,104,105,106,107,108,109,110,111,112,113,114,115,116,117,118,119,120,121,122].contains c=true:=aeu.mpr (L c hc);erw[g];exact O _ ⟨_,rfl⟩
 .erw[zO,zP]
def zU:RF.Spec:=bM (λa:Nat×Row=>[.int a.1,aN a.2]) (λa=>a.1<=6/\okF a.1 a.2.1/\okD a.2.2) (λz=>.bl true)
def aey (Z:aj) (h1:Z "is_form"=zR) (h2:Z "is_deed"=zT) (a:Nat×Row) (G:DH) (h:a.1<=6/\okF a.1 a.2.1/\okD a.2.2):az Z mJ noE (env0 [.int a.1,aN a.2] 0) G (ends λd z=>z=G/\d=.bl true):=by let(w,f,d):=a;let(hw,g,q):=h;dsimp only at hw g q;erw[mJ,aN,h1,h2];erw[show((0+1+1:Nat):Int)=2 from rfl,BEq.rfl];show bZ f (by rw[g.1]) ⟨by rw[g.1];lia,g.2⟩ ?_;erw[ends];exact bZ d rfl q ⟨rfl,rfl⟩
def zV:RF.Spec:=bM (λw:Nat=>[.int w]) (λw=>1<=w/\w<=6) (λz=>.bl true)
def aez (Z:aj) (h1:Z "is_whole"=aU d9) (w:Nat) (G:DH) (h:1<=w/\w<=6):az Z mL noE (env0 [.int w] 0) G (ends λd g=>g=G/\d=.bl true):=by have q:decide ((1:Int)<=(w:Int))=true:=b9 (!0);have z:decide ((w:Int)<=6)=true:=b9 (!0);erw[mL,h1];show dW (d:=.bl true) rfl ?_;erw[q,z]
def zW:RF.Spec:=bM (λa:Nat×AU=>[au a.1 a.2]) (λa=>okB a.1 a.2) (λz=>.bl true)
def aeA (Z:aj) (h1:Z "is_width"=zV) (h2:Z "is_row"=zU) (a:Nat×AU) (G:DH) (h:okB a.1 a.2):az Z mO noE (env0 [au a.1 a.2] 2) G (ends λd J=>J=G/\d=.bl true):=by
 let(w,rs):=a;dsimp only at h ⊢;have q:=h.len;simp_all_arith[mO,au];nofun;erw[ends];erw[show((0+1+1:Nat):Int)=2 from rfl,BEq.rfl];symm;erw[ends];symm;erw[h1];show bZ w rfl ⟨h.w1,h.w6⟩ ?_;have g:decide ((12:Int)<((rs.map aN)⁻¹:Int))=false:=bX (by rw[af];lia);erw[g];show hM _ _ ?_;erw[ends];show CompG.map (f:=λy=>.bl true) (I:=λY=>∃o,Y=[o,-(.int w)]) ⟨_,rfl⟩ trivial (by rw[af];bv_omega) ?_ ?_
 .rintro d Y g ⟨o,rfl⟩ N L;let(r,z,rfl):=bi.mp g;erw[h2];exact bZ (w,r) rfl ⟨h.w6,h.form r z,h.deed r z⟩ (L _ ⟨_,rfl⟩)
 .erw[zO,zP]
def jV:RF.Spec:=bM (λa:Nat×AU=>[au a.1 a.2]) (λa=>okB a.1 a.2) (λz=>.non)
def ug{w:Nat}{rs:AU}{G:DH}{k:AT}{E:EK}(h:okB w rs)(g:k .non G):jV.t [au w rs] G k E:=bZ (w,rs) rfl h g
def aeB (Z:aj) (h1:Z "is_book"=zW) (a:Nat×AU) (G:DH) (h:okB a.1 a.2):az Z mQ noE (env0 [au a.1 a.2] 0) G (ends λd g=>g=G/\d=.non):=by erw[mQ,h1];show bZ a rfl h ?_;erw[ends]
def nP(c s:Nat):Bool:=c==42||c==s
def du:AA->AA->Bool
 |c::f,s::w=>nP c s&&du f w
 |_,_=>true
def gY(f w:AA):Bool:=decide (f⁻¹=w⁻¹)&&du f w
def zX:∀(f w:AA),cC (f.map λc=>D.str [c]) (w.map λc=>D.str [c])=(f.zip w).map λp=>D.tup [.str [p.1],.str [p.2]]
 |[],w=>by simp[cC]
 |c::f,[]=>by simp[cC]
 |c::f,s::w=>by simp[cC,zX f w]
def gZ{c s:Nat}:(([c]==[s]):Bool)=(c==s):=by
 by_cases h:c=s
 .subst h;simp
 .rw[dS.mpr h,dS.mpr (by simp[h])]
def JQ{c s:Nat}(hs:s=48\/s=49):nP c s=true↔s∈alt c:=by
 unfold nP alt;by_cases h:c=42
 .subst h;simp;rcases hs with rfl|rfl<;>simp
 .simp[h];exact eq_comm
def bx(rs:AU)(w:AA):Option Nat:=rs.findIdx? λr=>gY r.1 w
def aW:Option Nat->D
 |some n=>.int n
 |none=>.non
def JR{w v:Nat}{rs g:AU}(h:au w rs=au v g):w=v/\rs=g:=by
 unfold au at h;simp only[D.tup.injEq,dE,D.int.injEq,Int.ofNat_inj,and_true]at h;show⟨h.1,?_⟩;have h2:=h.2;clear h;induction rs generalizing g with
 |nil=>cases g with
  |nil=>rfl
  |cons _ _=>simp at h2
 |cons r rs q=>cases g with
  |nil=>simp at h2
  |cons s g=>
   simp only[a7,dE]at h2;have e:r=s:=by have:=h2.1;unfold aN at this;simp only[D.tup.injEq,dE,D.str.injEq,and_true]at this;exact Prod.ext this.1 this.2
   rw[e,q h2.2]
def aeC{rs:AU}{l:AA}{i:Nat}{r:Row}(h:rs[i]?=-r):bx (rs.drop i) l=if gY r.1 l then some 0 else(bx (rs.drop (i+1)) l).map (·+1):=by
 have hi:=(ai.mp h).1;have e:rs.drop i=r::rs.drop (i+1):=by rw[bg hi];rw[(ai.mp h).2]
 rw[e];unfold bx;rw[eL]
def jW(rs:AU):Option Nat->D
 |some n=>match rs[n]? with|some r=>.str r.2|none=>.non
 |none=>.non
def aeD{rs:AU}{l:AA}{n:Nat}(h:bx rs l=-n):n<rs⁻¹:=by unfold bx at h;exact(List.findIdx?_eq_some_iff_findIdx_eq.mp h).1
def uh:RF.Spec:=bR (λds z=>∃w rs o,ds=[au w rs,aW o]/\∀n,o=-n->n<rs⁻¹) (λds G d g=>g=G/\∃w rs o,ds=[au w rs,aW o]/\d=jW rs o)
def aeE{a b:Option Nat}(h:aW a=aW b):a=b:=by cases a<;>cases b<;>simp[aW]at h ⊢<;>lia
def JS{w:Nat}{rs:AU}{o:Option Nat}{G:DH}{k:AT}{E:EK}(h:∀n,o=-n->n<rs⁻¹)(L:k (jW rs o) G):uh.t [au w rs,aW o] G k E:=by show cF ⟨w,rs,o,rfl,h⟩ λd U N=>?_;let(q,w2,O,Y,g,z):=N;simp only[dE,and_true]at g;let(g,J):=g;let(rfl,rfl):=JR g;cases aeE J;subst q z;exact L
def aeF(Z:aj)(ds:AS)(G:DH)(h:∃w rs o,ds=[au w rs,aW o]/\∀n,o=-n->n<rs⁻¹):az Z jU noE (env0 ds 0) G (ends λd g=>g=G/\∃w rs o,ds=[au w rs,aW o]/\d=jW rs o):=by
 let(w,rs,o,rfl,q):=h;cases o with
 |none=>
  erw[jU,aW];exact⟨w,rs,none,rfl,rfl⟩
 |some n=>
  have hn:=q n rfl;erw[jU,aW,au];show bL (a:=aN rs[n]) (bW (by simp[hn])) ?_;erw[aN];exact⟨w,rs,-n,rfl,by simp[jW,hn]⟩
def aeG{g q:Type}(f:g->q)(l:List g)(n:Nat):cut (l.map f) none (-(n:Int))=(l.take n).map f:=by rw[yI,List.map_take]
def okB.sub{w:Nat}{rs q:AU}(h:okB w rs)(hl:q⁻¹<=rs⁻¹)(hs:∀r∈q,r∈rs):okB w q:=
 ⟨h.w1,h.w6,cf hl h.len,λr g=>h.form r (hs r g),λr g=>h.deed r (hs r g)⟩
def JT(c:Nat)(n:Nat):reps [c] n=List.replicate n c:=by
 unfold reps;induction n with
 |zero=>rfl
 |succ n g=>rw[fm,hU,g,fm];rfl
def aeH(w:Nat):okF w (List.replicate w 42):=⟨cm,λc hc=>.inr (.inr (List.eq_of_mem_replicate hc))⟩
def aeI{w:Nat}{l:AA}:Fits (List.replicate w 42) l↔okW w l:=by
 constructor
 .rintro ⟨h1,h2⟩;rw[cm]at h1;show⟨h1.symm,λc hc=>?_⟩;let(i,hi,rfl):=List.getElem_of_mem hc;have:=h2 i 42 l[i] (by rw[List.getElem?_replicate];rw[if_pos (!0)]) (by simp[hi]);simpa [alt] using this
 .rintro ⟨h1,h2⟩;show⟨by rw[cm,h1],λi c s hc hs=>?_⟩;rw[List.getElem?_replicate]at hc;split at hc
  .cases hc;have:=h2 s (br hs);simpa [alt] using this
  .cases hc
def aeJ{p:AQ}{G:DH}{k:AT}{E:EK}(N:Pen G p)(L:∀g,Pen g p->Sb p G g->k (.ref p) g):t8.t [.ref p] G k E:=
 cF ⟨p,rfl,N⟩ λd g O=>by let(p2,z,J,q,sb):=O;cases z;subst J;exact L g q sb
def eU(a b:Nat):Option Nat:=if a=42 then some b else if b=42\/b=a then some a else none
def cQ:AA->AA->Option (AA)
 |a::f,b::g=>match eU a b with|some c=>(cQ f g).map (c::·)|none=>none
 |_,_=>-[]
def bU:Option (AA)->D
 |some l=>.str l
 |none=>.non
def nQ:AS->Option D
 |[.str f,.str g]=>if decide (f⁻¹<=100000) then some (bU (cQ f g)) else none
 |_=>none
def aeK{f g:AA}{i a b:Nat}(h:(f.zip g)[i]?=-(a,b)):cQ (f.drop i) (g.drop i)=match eU a b with|some c=>(cQ (f.drop (i+1)) (g.drop (i+1))).map (c::·)|none=>none:=by
 have q:=ai.mp h;let(hl,he):=q;rw[gl]at hl;have h1:i<f⁻¹:=by lia
 have h2:i<g⁻¹:=by lia
 rw[List.getElem_zip]at he;rw[bg h1,bg h2];simp only[Prod.mk.injEq]at he;rw[he.1,he.2];rfl
def aeL{f g:AA}:cQ (f.drop (f.zip g)⁻¹) (g.drop (f.zip g)⁻¹)=-[]:=by
 rw[gl];by_cases h:f⁻¹<=g⁻¹
 .rw[Nat.min_eq_left h,eM];cases g.drop f⁻¹<;>rfl
 .rw[gc (!0),eM];cases f.drop g⁻¹<;>rfl
def aeM(Z:aj)(ds:AS)(G:DH)(d:D)(h:nQ ds=-d):az Z mX noE (env0 ds 3) G (ends λd' N=>N=G/\d'=d):=by
 unfold nQ at h;split at h
 .rename_i f g;split at h
  .rename_i hl;have hl:=dv hl;cases h;simp_all_arith[mX];nofun;erw[ends];symm;simp_arith![zX];show ForG.inv (P:=λi Y N=>(∃O U m,Y=[-(.str f),-(.str g),-(.str m),O,U]/\m⁻¹=i/\cQ f g=(cQ (f.drop i) (g.drop i)).map (m ++ ·))/\N=G) ⟨⟨_,_,[],rfl,rfl,!2⟩,rfl⟩ (λy y y y=>trivial) ?_ ?_
   .rintro i d Y N hd ⟨⟨O,U,m,rfl,hm,L⟩,rfl⟩ kk hk;rw[aS]at hd;let((a,b),hab,rfl):=aI.mp hd;have hi:=(ai.mp hab).1;rw[gl]at hi;rw[aeK hab]at L;simp_arith![ends];show last ?_;have put:∀(c:Nat)(O U:Option D),eU a b=-c->m⁻¹+1<=sz/\kk [-(.str f),-(.str g),-(.str (m++[c])),O,U] N:=by
     intro c O U hc;rw[hc]at L;show⟨by bv_omega,hk _ _ ⟨⟨_,_,_,rfl,by simp[hm],?_⟩,rfl⟩⟩;rw[L,Option.map_map];congr 1;funext x;simp
    erw[gZ];by_cases z:a=42
    .have:((a==42):Bool)=true:=by simp[z]
     erw[this];exact put b _ _ (if_pos z)
    .have h0:((a==42):Bool)=false:=by simp[z]
     erw[h0,gZ];by_cases q:b=42
     .have:((b==42):Bool)=true:=by simp[q]
      erw[this];exact put a _ _ (by unfold eU;rw[if_neg z,if_pos (.inl q)])
     .have h1:((b==42):Bool)=false:=by simp[q]
      erw[h1,gZ];by_cases J:b=a
      .have:((b==a):Bool)=true:=by simp[J]
       erw[this];exact put a _ _ (by unfold eU;rw[if_neg z,if_pos (.inr J)])
      .have:((b==a):Bool)=false:=by simp[J]
       erw[this];have hn:eU a b=none:=by unfold eU;rw[if_neg z,if_neg (by rintro(h|h);exact q h;exact J h)]
       rw[hn]at L;rw[L];rfl
   .rintro Y N ⟨⟨O,U,m,rfl,hm,L⟩,rfl⟩;rw[af,aeL]at L;show hM _ _ ?_;erw[ends];rw[L];simp[bU]
  .cases h
 .cases h
def ie:AS->Option D
 |[.str f,.int n,.str [c]]=>if decide (0<=n)&&decide (n<f⁻¹)&&decide (f⁻¹<=1000) then some (.str (f.set n.toNat c)) else none
 |_=>none
def aeN{l:AA}{n c:Nat}(h:n<l⁻¹):l.take n++[c]++l.drop (n+1)=l.set n c:=by rw[List.set_eq_take_append_cons_drop,if_pos h];simp
def aeO(Z:aj)(ds:AS)(G:DH)(d:D)(h:ie ds=-d):az Z m6 noE (env0 ds 0) G (ends λd' g=>g=G/\d'=d):=by
 unfold ie at h;split at h
 .rename_i f n c;split at h
  .rename_i hl;simp only[ae,dc]at hl;let((h0,h1),h2):=hl;cases h;let(k,rfl):=ck h0;erw[m6,yI,Ji,am,d4,e7,bq,aeN (show k<f⁻¹ by lia)];exact⟨by bv_omega,by bv_omega⟩
  .cases h
 .cases h
def jc:AS->Option D
 |[.int n]=>if decide (0<=n)&&decide (n<=1000) then some (.str (List.replicate n.toNat 42)) else none
 |_=>none
def aeP(Z:aj)(ds:AS)(G:DH)(d:D)(h:jc ds=-d):az Z ni noE (env0 ds 0) G (ends λd' g=>g=G/\d'=d):=by
 unfold jc at h;split at h
 .rename_i n;split at h
  .rename_i hl;simp only[ae,dc]at hl;cases h;erw[ni,JT];exact⟨hl.1,hl.2,by bv_omega⟩
  .cases h
 .cases h
def bV(rs:AU)(b:AA):Option Nat:=rs.findIdx? λr=>(cQ r.1 b).isSome
def JV(ds:AS)(_:DH):Prop:=∃(rs:AU)(b:AA),ds=[.tup (rs.map aN),.str b]/\∀r∈rs,r.1⁻¹<=1000
def JW(ds:AS)(G:DH)(d:D)(g:DH):Prop:=g=G/\∃(rs:AU)(b:AA),ds=[.tup (rs.map aN),.str b]/\d=aW (bV rs b)
def nR:RF.Spec:=bR JV JW
def zY{rs g:AU}(h:rs.map aN=g.map aN):rs=g:=(JR (w:=0) (v:=0) (by unfold au;rw[h])).2
def JX{rs:AU}{b:AA}{G:DH}{k:AT}{E:EK}(h:∀r∈rs,r.1⁻¹<=1000)(J:k (aW (bV rs b)) G):nR.t [.tup (rs.map aN),.str b] G k E:=by show cF ⟨rs,b,rfl,h⟩ λd O L=>?_;let(q,N,U,g,z):=L;simp only[dE,D.str.injEq,D.tup.injEq,and_true]at g;let(g,rfl):=g;cases zY g;subst q z;exact J
def aeQ{o:Option (AA)}:fH (bU o)=!o.isSome:=by cases o<;>rfl
def aeR{G:DH}{o:Option (AA)}:view G (bU o)=bU o:=by cases o<;>rfl
def aeS{rs:AU}{b:AA}{i:Nat}{r:Row}(h:rs[i]?=-r):bV (rs.drop i) b=if(cQ r.1 b).isSome then some 0 else(bV (rs.drop (i+1)) b).map (·+1):=by
 have hi:=(ai.mp h).1;have e:rs.drop i=r::rs.drop (i+1):=by rw[bg hi];rw[(ai.mp h).2]
 rw[e];unfold bV;rw[eL]
def aeT (Z:aj) (h1:Z "both"=aU nQ) (ds:AS) (G:DH) (h:JV ds G):az Z mY noE (env0 ds 2) G (ends (JW ds G)):=by
 let(rs,b,rfl,hb):=h;simp_all_arith[mY];nofun;simp_arith![ends];show ForG.inv (P:=λi Y z=>(∃J L,Y=[-(.tup (rs.map aN)),-(.str b),J,L])/\z=G/\bV rs b=(bV (rs.drop i) b).map (·+i)) ⟨⟨_,_,rfl⟩,rfl,!2⟩ (λy y y y=>trivial) ?_ ?_
 .rintro i d Y z N ⟨⟨J,L,rfl⟩,rfl,g⟩ kk hk;rw[jM]at N;let(d',q,rfl):=aI.mp N;rw[aS]at q;let(r,U,rfl):=aI.mp q;have hrl:=hb r (br U);rw[aeS U]at g;simp_arith![ends];show last ?_;erw[h1,aN];show dW (d:=bU (cQ r.1 b)) (if_pos (b9 (!0))) ?_;erw[aeR,aeQ];cases O:(cQ r.1 b).isSome with
  |true=>
   rw[O,if_pos rfl]at g;exact⟨rfl,rs,b,rfl,by rw[g];simp[aW]⟩
  |false=>
   rw[O,if_neg bB]at g;show hk _ _ ⟨⟨_,_,rfl⟩,rfl,?_⟩;rw[g,Option.map_map];congr 1;funext n;simp;lia
 .rintro Y z ⟨⟨J,L,rfl⟩,rfl,g⟩;rw[jL,af,eM]at g;show hM _ _ ?_;erw[ends];exact⟨rfl,rs,b,rfl,by rw[g];rfl⟩
def dw(f b:AA):Option Nat:=(f.zip b).findIdx? λp=>p.2==42&&!(p.1==42)
def dH(rs:AU)(b:AA):Option Nat:=match bV rs b with|some n=>(match rs[n]? with|some r=>dw r.1 b|none=>none)|none=>none
def JZ(ds:AS)(_:DH):Prop:=∃(rs:AU)(b:AA),ds=[.tup (rs.map aN),.str b]/\(∀r∈rs,r.1⁻¹=b⁻¹)/\b⁻¹<=1000
def J0(ds:AS)(G:DH)(d:D)(g:DH):Prop:=g=G/\∃(rs:AU)(b:AA),ds=[.tup (rs.map aN),.str b]/\d=aW (dH rs b)
def ul:RF.Spec:=bR JZ J0
def aeU{rs:AU}{b:AA}{G:DH}{k:AT}{E:EK}(h:∀r∈rs,r.1⁻¹=b⁻¹)(hl:b⁻¹<=1000)(J:k (aW (dH rs b)) G):ul.t [.tup (rs.map aN),.str b] G k E:=by show cF ⟨rs,b,rfl,h,hl⟩ λd O L=>?_;let(q,N,U,g,z):=L;simp only[dE,D.str.injEq,D.tup.injEq,and_true]at g;let(g,rfl):=g;cases zY g;subst q z;exact J
def um{rs:AU}{b:AA}{n:Nat}(h:bV rs b=-n):n<rs⁻¹:=(List.findIdx?_eq_some_iff_findIdx_eq.mp h).1
def aeV{f b:AA}{i s c:Nat}(hs:f[i]?=-s)(hc:b[i]?=-c):dw (f.drop i) (b.drop i)=if(c==42&&!(s==42))=true then some 0 else(dw (f.drop (i+1)) (b.drop (i+1))).map (·+1):=by have h1:=ai.mp hs;have h2:=ai.mp hc;rw[bg h1.1,bg h2.1,h1.2,h2.2];unfold dw;rw[List.zip_cons_cons,eL]
def aeW (Z:aj) (h1:Z "first_touching"=nR) (ds:AS) (G:DH) (h:JZ ds G):az Z mZ noE (env0 ds 3) G (ends (J0 ds G)):=by
 let(rs,b,rfl,hb,hbl):=h;simp_all_arith[mZ];nofun;erw[h1];show JX (λr hr=>by rw[hb r hr];exact hbl) (hM _ _ (seq λM hM=>?_));cases ht:bV rs b with
 |none=>
  erw[aW];exact⟨rfl,rs,b,rfl,by unfold dH;rw[ht];rfl⟩
 |some n=>
  have hn:=um ht;have N:=hb rs[n] (c8 _);have z:dH rs b=dw rs[n].1 b:=by unfold dH;rw[ht];simp[hn]
  erw[aW];symm;simp_arith![ends];show bL (a:=aN rs[n]) (bW (by simp[hn])) ?_;simp_arith![aN];generalize rs[n].1=f at N z;show ForG.inv (P:=λi Y U=>(∃o3 o4,Y=[-(.tup (rs.map aN)),-(.str b),-(.int (n:Int)),o3,o4])/\U=G/\dw f b=(dw (f.drop i) (b.drop i)).map (·+i)) ⟨⟨_,_,rfl⟩,rfl,!2⟩ (λy y y y=>trivial) ?_ ?_
  .rintro i d Y U hd ⟨⟨o3,o4,rfl⟩,rfl,hs⟩ kk hk;rw[jM]at hd;let(d',L,rfl):=aI.mp hd;rw[aS]at L;let(s,O,rfl):=aI.mp L;have hi:=(ai.mp O).1;have hib:i<b⁻¹:=by lia
   have J:b[i]?=-b[i]:=by simp[hib]
   rw[aeV O J]at hs;simp_arith![ends];show last ?_;erw[ends];show bL (a:=b[i]) (by rw[Nat.zero_add];exact bW J) ?_;erw[gZ];cases q:(b[i]==42) with
   |false=>
    simp only[q,Bool.false_and,if_neg bB]at hs;erw[ends];show hk _ _ ⟨⟨_,_,rfl⟩,rfl,?_⟩;rw[hs,Option.map_map];congr 1;funext n;simp;lia
   |true=>
    erw[gZ];cases g:(s==42) with
    |true=>
     simp only[q,g,Bool.not_true,Bool.and_false,if_neg bB]at hs;erw[ends];show hk _ _ ⟨⟨_,_,rfl⟩,rfl,?_⟩;rw[hs,Option.map_map];congr 1;funext n;simp;lia
    |false=>
     simp only[q,g,Bool.not_false,Bool.and_true,if_pos]at hs;erw[ends];exact⟨rfl,rs,b,rfl,by rw[z,hs];simp[aW]⟩
  .rintro Y U ⟨⟨o3,o4,rfl⟩,rfl,hs⟩;rw[jL,af,eM]at hs;show hM _ _ ?_;erw[ends];exact⟨rfl,rs,b,rfl,by rw[z,hs];simp[dw,aW]⟩
def jX:AA:=[115,112,108,105,116]
def stc(b:AA):Nat:=b.countP (·==42)
def jY{b:AA}{n c:Nat}(h:b[n]?=-42)(hc:c≠42):stc (b.set n c)+1=stc b:=by
 let(hl,he):=ai.mp h;have g:b=b.take n++42::b.drop (n+1):=by rw[<-he,<-bg hl,List.take_append_drop]
 have q:b.set n c=b.take n++c::b.drop (n+1):=by rw[List.set_eq_take_append_cons_drop,if_pos hl]
 unfold stc;rw[q];conv=>rhs;rw[g]
 rw[List.countP_append,List.countP_append,List.countP_cons_of_neg (by simp[hc]),List.countP_cons_of_pos (!2)];lia
def J1{w n c:Nat}{b:AA}(h:okF w b)(hc:isF c):okF w (b.set n c):=⟨by rw[ef];exact h.1,λd g=>by
 rcases List.mem_or_eq_of_mem_set g with h'|h'
 .exact h.2 d h'
 .rw[h'];exact hc⟩
def aeX:isF 48:=.inl rfl
def aeY:isF 49:=.inr (.inl rfl)
inductive Gr (name:AA) (rss:List (AU)):AA->D->Prop
 |leaf (b:AA) (h:∀rs∈rss,dH rs b=none):Gr name rss b (.tup (.str name::rss.map λrs=>aW (bV rs b)))
 |node (b:AA) (n:Nat) (z o:D) (h:b[n]?=some 42) (hz:Gr name rss (b.set n 48) z) (ho:Gr name rss (b.set n 49) o):Gr name rss b (.tup [.str jX,.int n,z,o])
def eV(g:List (AU)):AS:=g.map λrs=>.tup (rs.map aN)
structure okG(w:Nat)(name:AA)(rss:List (AU)):Prop where
 len:rss.length<=100
 nl:name.length<=100
 form:∀rs∈rss,∀r∈rs,r.1.length=w
 w1000:w<=1000
def J2(n:Nat)(ds:AS)(_:DH):Prop:=∃(w:Nat)(name:AA)(g:List (AU))(b:AA),ds=[.str name,.lst (eV g),.str b]/\okG w name g/\b⁻¹=w/\stc b<n
def J3(ds:AS)(G:DH)(d:D)(q:DH):Prop:=q=G/\∃(name:AA)(g:List (AU))(b:AA),ds=[.str name,.lst (eV g),.str b]/\Gr name g b d
def fK(n:Nat):RF.Spec:=bR (J2 n) J3
def aeZ{a b:List (AU)}(h:eV a=eV b):a=b:=by
 unfold eV at h;induction a generalizing b with
 |nil=>cases b with
  |nil=>rfl
  |cons _ _=>simp at h
 |cons x a g=>cases b with
  |nil=>simp at h
  |cons y b=>
   simp only[a7,dE,D.tup.injEq]at h;rw[zY h.1,g h.2]
def zZ{n w:Nat}{name:AA}{g:List (AU)}{b:AA}{G:DH}{k:AT}{E:EK}(h:okG w name g)(O:b⁻¹=w)(hs:stc b<n)(U:∀d,Gr name g b d->k d G):(fK n).t [.str name,.lst (eV g),.str b] G k E:=by show cF ⟨w,name,g,b,rfl,h,O,hs⟩ λd G' Y=>?_;let(L,z,J,b2,q,N):=Y;simp only[dE,D.str.injEq,D.lst.injEq,and_true]at q;let(rfl,q,rfl):=q;cases aeZ q;subst L;exact U d N
def ae0{f b:AA}{n:Nat}(h:dw f b=-n):b[n]?=-42:=by unfold dw at h;have h2:=cS.mp h;let(hl,g,_):=h2;rw[gl]at hl;rw[List.getElem_zip]at g;simp only[ae,a8]at g;rw[al (!0),g.1]
def ae1{rs:AU}{b:AA}{n:Nat}(h:dH rs b=-n):b[n]?=-42:=by
 unfold dH at h;split at h
 .split at h
  .exact ae0 h
  .cases h
 .cases h
def uo{b:AA}{n c:Nat}{G:DH}{k:AT}{E:EK}(h:n<b⁻¹)(hl:b⁻¹<=1000)(g:k (.str (b.set n c)) G):(aU ie).t [.str b,.int n,.str [c]] G k E:=
 dW (by
  unfold ie;dsimp only;rw[if_pos (by simp only[ae,dc];lia),bq]) g
def ae2 (Z:aj) (n:Nat) (h0:Z "grown"=fK n) (h1:Z "first_touching"=nR) (h2:Z "splitting_place"=ul) (h3:Z "with_sign"=aU ie) (ds:AS) (G:DH) (h:J2 (n+1) ds G):az Z jT noE (env0 ds 4) G (ends (J3 ds G)):=by
 let(w,name,g,b,rfl,hg,hb,hs):=h;have hw:=hg.w1000;simp_all_arith[jT];nofun;simp_arith![ends];show ForG.inv (P:=λi Y G'=>(∃o3 o4 o5 o6,Y=[-(.str name),-(.lst (eV g)),-(.str b),o3,o4,o5,o6])/\G'=G/\∀rs∈g.take i,dH rs b=none) ⟨⟨_,_,_,_,rfl⟩,rfl,!2⟩ (λy y y y=>trivial) ?_ ?_
 .rintro i d Y G' hd ⟨⟨o3,o4,o5,o6,rfl⟩,rfl,q⟩ kk hk;unfold eV at hd;rw[aS]at hd;let(rs,L,rfl):=aI.mp hd;simp_arith![ends];nofun;erw[h2];show aeU (λr hr=>by rw[hg.form rs (br L) r hr,hb]) (!0) (hM _ _ (last ?_));cases hsp:dH rs b with
  |none=>
   erw[aW];show hk _ _ ⟨⟨_,_,_,_,rfl⟩,rfl,λrs' O=>?_⟩;rw[eR,L]at O;rcases a9.mp O with h|h
   .exact q rs' h
   .have:rs'=rs:=by simpa using h
    rw[this];exact hsp
  |some at'=>
   have N:=ae1 hsp;have hat:=(ai.mp N).1;simp_arith![aW];nofun;erw[h0,h3];show uo hat (!0) (zZ hg (by rw[ef];exact hb) (by have:=jY N (show 48≠42 by decide);lia) λz hz=>hM _ _ (seq λM hM=>?_));erw[h0,h3];show uo hat (!0) (zZ hg (by rw[ef];exact hb) (by have:=jY N (show 49≠42 by decide);lia) λo ho=>hM _ _ (last ?_));erw[ends];exact⟨!1,rfl,name,g,b,rfl,.node b at' z o N hz ho⟩
 .rintro Y G' ⟨⟨o3,o4,o5,o6,rfl⟩,rfl,q⟩;have J:(eV g)⁻¹=g⁻¹:=af _;rw[J,eK]at q;have hrl:=hg.len;show hM _ _ ?_;erw[h1];show⟨!1,CompG.inv (P:=λi acc Y U=>(∃o,Y=[o,-(.str b)])/\U=G'/\acc=(g.take i).map λrs=>aW (bV rs b)) ⟨⟨_,rfl⟩,rfl,rfl⟩ (λy y y y y=>trivial) (by rw[J];bv_omega) ?_ ?_⟩
  .rintro i d acc Y U hd ⟨⟨o,rfl⟩,rfl,rfl⟩ kk hk;unfold eV at hd;rw[aS]at hd;let(rs,L,rfl):=aI.mp hd;erw[h1];show JX (λr hr=>by rw[hg.form rs (br L) r hr];lia) (hk _ _ _ ⟨⟨_,rfl⟩,rfl,?_⟩);rw[eR,L];simp
  .rintro acc Y U ⟨_,rfl,rfl⟩;rw[J,eK];erw[af];exact⟨by bv_omega,rfl,name,g,b,rfl,.leaf b q⟩
def ae3(ds:AS)(G:DH)(a:(fK 0).A):¬(fK 0).pre ds G a:=λzZ=>by let(_,_,_,_,_,_,_,_,h):=zZ;lia
def ae4(w:Nat):stc (List.replicate w 42)<=w:=by have:=List.countP_le_length (p:=(·==42)) (l:=List.replicate w 42);rw[cm]at this;exact this
def J4:∀{f b w:AA},cQ f b=none->(∀s∈w,s=48\/s=49)->Fits b w->du f w=true->False
 |[],b,w,h,_,_,_=>by cases b<;>cases h
 |a::f,[],w,h,_,_,_=>by cases h
 |a::f,c::b,[],h,_,hf,_=>by have:=hf.1;simp at this
 |a::f,c::b,s::w,h,hw,hf,hz=>by
  rw[du,ae]at hz;have hs:=hf.2 0 c s rfl rfl;have g:Fits b w:=⟨by have:=hf.1;simpa using this,λi q s' h1 h2=>hf.2 (i+1) q s' (!!h1) (!!h2)⟩;unfold cQ at h;cases h1:eU a c with
  |some x=>
   rw[h1]at h;simp only[Option.map_eq_none_iff]at h;exact J4 h (λs hs=>hw s (bS _ hs)) g hz.2
  |none=>
   unfold eU at h1;split at h1
   .cases h1
   .split at h1
    .cases h1
    .rename_i z hc;have h2:=(JQ (hw s bp)).mp hz.1;unfold alt at hs h2;rw[if_neg z]at h2;have es:s=a:=by simpa using h2
     split at hs
     .rename_i e;exact hc (.inl e)
     .have:s=c:=by simpa using hs
      exact hc (.inr (!0))
def J5:∀{f b w:AA},f⁻¹=b⁻¹->(cQ f b).isSome=true->dw f b=none->(∀s∈w,s=48\/s=49)->Fits b w->du f w=true
 |[],b,w,_,_,_,_,_=>rfl
 |a::f,[],w,h,_,_,_,_=>by simp at h
 |a::f,c::b,[],_,_,_,_,hf=>rfl
 |a::f,c::b,s::w,hl,hb,hs,hw,hf=>by
  have g:=hf.2 0 c s rfl rfl;have J:Fits b w:=⟨by have:=hf.1;simpa using this,λi O s' h1 h2=>hf.2 (i+1) O s' (!!h1) (!!h2)⟩;unfold dw at hs;rw[List.zip_cons_cons,eL]at hs;split at hs
  .cases hs
  .rename_i L;have N:dw f b=none:=by unfold dw;simpa using hs
   unfold cQ at hb;cases h1:eU a c with
   |none=>rw[h1]at hb;cases hb
   |some x=>
    rw[h1]at hb;have z:(cQ f b).isSome=true:=by simpa using hb
    rw[du,ae];show⟨?_,J5 (!!hl) z N (λs hs=>hw s (bS _ hs)) J⟩;rw[JQ (hw s bp)];by_cases q:a=42
    .unfold alt;rw[if_pos q];rcases hw s bp with e|e<;>simp[e]
    .have hc:c≠42:=by
      rintro rfl;exact L (by simp[q])
     unfold alt at g ⊢;rw[if_neg hc]at g;rw[if_neg q];unfold eU at h1;rw[if_neg q]at h1;split at h1
     .rename_i h2;rcases h2 with h2|h2
      .exact absurd h2 hc
      .rw[<-h2];exact g
     .cases h1
def ae5{rs:AU}{b l:AA}(O:∀r∈rs,r.1⁻¹=b⁻¹)(hs:dH rs b=none)(hl:∀s∈l,s=48\/s=49)(z:Fits b l):bx rs l=bV rs b:=by
 have no:∀r∈rs,(cQ r.1 b).isSome=false->gY r.1 l=false:=by
  intro r J h;cases e:gY r.1 l with
  |false=>rfl
  |true=>
   unfold gY at e;rw[ae]at e;exact(J4 (!!h) hl z e.2).elim
 cases q:bV rs b with
 |none=>
  unfold bV at q;unfold bx;rw[List.findIdx?_eq_none_iff]at q ⊢;exact λr J=>no r J (by simpa using q r J)
 |some n=>
  have hn:=um q;have N:=cS.mp q;let(_,Y,t2):=N;unfold bx;rw[cS];show⟨hn,?_,λj U=>?_⟩
  .have L:dw rs[n].1 b=none:=by
    unfold dH at hs;rw[q]at hs;simpa [hn] using hs
   have g:=O rs[n] (c8 _);unfold gY;rw[ae];exact⟨b9 (by rw[g,z.1]),J5 g Y L hl z⟩
  .have:=no rs[j] (c8 _) (by simpa using t2 j U);simp[this]
def ae6{f w:AA}{i a b:Nat}(h:(f.zip w)[i]?=-(a,b)):du (f.drop i) (w.drop i)=(nP a b&&du (f.drop (i+1)) (w.drop (i+1))):=by
 have g:=ai.mp h;let(hl,he):=g;rw[gl]at hl;have h1:i<f⁻¹:=by lia
 have h2:i<w⁻¹:=by lia
 rw[List.getElem_zip]at he;rw[bg h1,bg h2];simp only[Prod.mk.injEq]at he;rw[he.1,he.2];rfl
def ae7{f w:AA}:du (f.drop (f.zip w)⁻¹) (w.drop (f.zip w)⁻¹)=true:=by
 rw[gl];by_cases h:f⁻¹<=w⁻¹
 .rw[Nat.min_eq_left h,eM];rfl
 .rw[gc (!0),eM];cases f.drop w⁻¹<;>rfl
def nT:AS->Option D
 |[.str f,.str w]=>-(.bl (du f w))
 |_=>none
def ae8(Z:aj)(ds:AS)(G:DH)(d:D)(h:nT ds=-d):az Z yN noE (env0 ds 2) G (ends λd' q=>q=G/\d'=d):=by
 unfold nT at h;split at h
 .rename_i f w;cases h;simp_all_arith[yN];nofun;simp_arith![zX];show ForG.inv (P:=λi Y q=>(∃L N,Y=[-(.str f),-(.str w),L,N])/\q=G/\du f w=du (f.drop i) (w.drop i)) ⟨⟨_,_,rfl⟩,rfl,!2⟩ (λy y y y=>trivial) ?_ ?_
  .rintro i d Y q O ⟨⟨L,N,rfl⟩,rfl,g⟩ kk U;rw[aS]at O;let((a,b),J,rfl):=aI.mp O;rw[ae6 J]at g;unfold nP at g;simp_arith![ends];show last ?_;erw[gZ];cases z:(a==42) with
   |true=>
    erw[ends];exact U _ _ ⟨⟨_,_,rfl⟩,rfl,by rw[g,z];rfl⟩
   |false=>
    erw[gZ];cases hs:(a==b) with
    |true=>
     erw[ends];exact U _ _ ⟨⟨_,_,rfl⟩,rfl,by rw[g,hs];simp⟩
    |false=>
     erw[ends];rw[g,z,hs];simp
  .rintro Y q ⟨⟨L,N,rfl⟩,rfl,g⟩;rw[af,ae7]at g;show hM _ _ ?_;erw[g]
 .cases h
def ae9{f l:AA}(h:f⁻¹=l⁻¹):gY f l=du f l:=by unfold gY;rw[b9 h];rfl
def uq:RF.Spec:=bM (A:=Nat×AU×AA) (λa=>[au a.1 a.2.1,.str a.2.2]) (λa=>∀r∈a.2.1,r.1⁻¹=a.2.2⁻¹) (λa=>aW (bx a.2.1 a.2.2))
def afa{w:Nat}{rs:AU}{l:AA}{G:DH}{k:AT}{E:EK}(h:∀r∈rs,r.1⁻¹=l⁻¹)(g:k (aW (bx rs l)) G):uq.t [au w rs,.str l] G k E:=bZ (w,rs,l) rfl h g
def afb (Z:aj) (h1:Z "_law_fits"=aU nT) (a:Nat×AU×AA) (G:DH) (h:∀r∈a.2.1,r.1⁻¹=a.2.2⁻¹):
  az Z yO noE (env0 [au a.1 a.2.1,.str a.2.2] 2) G (ends λd q=>q=G/\d=aW (bx a.2.1 a.2.2)):=by
 let(w,rs,l):=a;dsimp only at h ⊢;simp_all_arith[yO];nofun;simp_arith![au];show ForG.inv (P:=λi Y q=>(∃J L,Y=[-(.tup [.int w,.tup (rs.map aN)]),-(.str l),J,L])/\q=G/\bx rs l=(bx (rs.drop i) l).map (·+i)) ⟨⟨_,_,rfl⟩,rfl,!2⟩ (λy y y y=>trivial) ?_ ?_
 .rintro i d Y q N ⟨⟨J,L,rfl⟩,rfl,g⟩ kk hk;rw[jM]at N;let(d',z,rfl):=aI.mp N;rw[aS]at z;let(r,U,rfl):=aI.mp z;rw[aeC U,ae9 (h r (br U))]at g;simp_arith![ends];show last ?_;erw[h1,aN];show dW (d:=.bl (du r.1 l)) rfl ?_;erw[ends];cases O:du r.1 l with
  |true=>
   rw[O,if_pos rfl]at g;rw[g];simp[aW]
  |false=>
   rw[O,if_neg bB]at g;show hk _ _ ⟨⟨_,_,rfl⟩,rfl,?_⟩;rw[g,Option.map_map];congr 1;funext n;simp;lia
 .rintro Y q ⟨⟨J,L,rfl⟩,rfl,g⟩;rw[jL,af,eM]at g;show hM _ _ ?_;erw[ends];rw[g];rfl
def ur(name:AA)(g:List (AU))(b:AA):D:=.tup (.str name::g.map λrs=>aW (bV rs b))
def nU(name:AA)(g:List (AU))(b:AA):D:=.tup [.str b,ur name g b]
inductive Lv (name:AA) (rss:List (AU)):AA->D->List (AA)->Prop
 |leaf (b:AA) (h:∀rs∈rss,dH rs b=none):Lv name rss b (ur name rss b) [b]
 |node (b:AA) (n:Nat) (z o:D) (l m:List (AA)) (h:b[n]?=some 42) (hz:Lv name rss (b.set n 48) z l) (ho:Lv name rss (b.set n 49) o m):Lv name rss b (.tup [.str jX,.int n,z,o]) (l++m)
def Gr.lv{name:AA}{g:List (AU)}{b:AA}{d:D}(h:Gr name g b d):∃bs,Lv name g b d bs:=by
 induction h with
 |leaf b h=>exact⟨_,.leaf b h⟩
 |node b n z o h _ _ L J=>
  let(l,hl):=L;let(m,q):=J;exact⟨_,.node b n z o l m h hl q⟩
def Lv.len{name:AA}{g:List (AU)}{b:AA}{d:D}{bs:List (AA)}(h:Lv name g b d bs):bs⁻¹<=2 ^ stc b:=by
 induction h with
 |leaf b h=>exact Nat.one_le_two_pow
 |node b n z o l m h _ _ O L=>
  have q:=jY h (show 48≠42 by decide);have N:=jY h (show 49≠42 by decide);rw[<-q,Nat.pow_succ,am];have J:stc (b.set n 49)=stc (b.set n 48):=by lia
  rw[J]at L;lia
def Lv.len'{name:AA}{g:List (AU)}{b:AA}{d:D}{bs:List (AA)}(h:Lv name g b d bs)(q:b⁻¹<=12):bs⁻¹<=4096:=by
 have h1:=h.len;have h2:stc b<=12:=cf (List.countP_le_length) q;have z:=fi (show 0<2 by decide) h2;have J:2 ^ 12=4096:=by decide
 lia
def Lv.box{name:AA}{g:List (AU)}{b:AA}{d:D}{bs:List (AA)}(h:Lv name g b d bs):∀c∈bs,c⁻¹=b⁻¹/\∀rs∈g,dH rs c=none:=by
 induction h with
 |leaf b h=>intro c hc;rw[ah.mp hc];exact⟨rfl,h⟩
 |node b n z o l m h _ _ J q=>
  intro c hc;rcases a9.mp hc with hc|hc
  .have:=J c hc;rw[ef]at this;exact this
  .have:=q c hc;rw[ef]at this;exact this
def Lv.okf{w:Nat}{name:AA}{q:List (AU)}{b:AA}{d:D}{bs:List (AA)}(h:Lv name q b d bs):okF w b->∀c∈bs,okF w c:=by
 induction h with
 |leaf b h=>intro g c hc;rw[ah.mp hc];exact g
 |node b n z o l m h _ _ L J=>
  intro g c hc;rcases a9.mp hc with hc|hc
  .exact L (J1 g aeX) c hc
  .exact J (J1 g aeY) c hc
def afc{w:Nat}{f l:AA}(h:okF w f)(q:Fits f l):∀s∈l,s=48\/s=49:=by
 intro s hs;let(i,hi,rfl):=List.getElem_of_mem hs;have g:i<f⁻¹:=by rw[q.1];exact hi
 have:=q.2 i f[i] l[i] (by simp[g]) (by simp[hi]);rcases h.2 f[i] (c8 _) with e|e|e<;>rw[e]at this<;>simp[alt]at this<;>lia
def isPlace(m:Int):D->Bool
 |.int i=>decide (0<=i)&&decide (i<m)
 |_=>false
def jd:AS->Option D
 |[.int m,x]=>if nr x then some (.bl (isPlace m x)) else none
 |_=>none
def afd (Z:aj) (h1:Z "is_whole"=aU d9) (ds:AS) (G:DH) (d:D) (h:jd ds=-d):az Z mR noE (env0 ds 0) G (ends λd' q=>q=G/\d'=d):=by
 unfold jd at h;split at h
 .rename_i m x;split at h
  .rename_i g;cases h;have z:d9 [x]=-(.bl (whole x)):=if_pos g;erw[mR,h1];show dW z ?_;cases x<;>first | (simp[nr]at g;done) | (erw[whole,isPlace];first | (simp;done)|skip)
   rename_i i;cases hi:decide (0<=i) with
   |true=>simp
   |false=>simp
  .cases h
 .cases h
def gn:AS->Option D
 |[.str name,.int many,.tup (.str s::r)]=>-(.bl ((((r⁻¹+1:Nat):Int)==many+1)&&(s==name)))
 |_=>none
def afe(Z:aj)(ds:AS)(G:DH)(d:D)(h:gn ds=-d):az Z m7 noE (env0 ds 0) G (ends λd' q=>q=G/\d'=d):=by
 unfold gn at h;split at h
 .rename_i name g s r;cases h;erw[m7];cases he:(((r⁻¹+1:Nat):Int)==g+1) with
  |false=>erw[Bool.false_and]
  |true=>erw[Bool.true_and]
 .cases h
def afg{name s:AA}{m:Int}{r:AS}{G:DH}{k:AT}{E:EK}(h:s≠name)(g:k (.bl false) G):(aU gn).t [.str name,.int m,.tup (.str s::r)] G k E:=
 dW (by unfold gn;dsimp only;rw[dS.mpr h,Bool.and_false]) g
def afh{name:AA}{m:Int}{r:AS}{G:DH}{k:AT}{E:EK}(h:(r⁻¹:Int)=m)(g:k (.bl true) G):(aU gn).t [.str name,.int m,.tup (.str name::r)] G k E:=
 dW (by unfold gn;dsimp only;rw[BEq.rfl,Bool.and_true,a8.mpr (!0)]) g
def oI:Option Int->D
 |some i=>.int i
 |none=>.non
inductive T where
 |lf (r:List (Option Int))
 |sp (i:Int) (z o:T)
def T.d(name:AA):T->D
 |.lf r=>.tup (.str name::r.map oI)
 |.sp i z o=>.tup [.str jX,.int i,z.d name,o.d name]
def T.dep:T->Nat
 |.lf _=>0
 |.sp _ z o=>max z.dep o.dep+1
def je(b:AA)(i:Int):Bool:=decide (0<=i)&&b[i.toNat]?==-42
def T.lvs:T->AA->Option (List (AA×List (Option Int)))
 |.lf r,b=>-[(b,r)]
 |.sp i z o,b=>match je b i with
  |true=>(match z.lvs (b.set i.toNat 48),o.lvs (b.set i.toNat 49) with|some l,-m=>-(l++m)|_,_=>none)
  |false=>none
def nW(name:AA)(x:AA×List (Option Int)):D:=.tup [.str x.1,.tup (.str name::x.2.map oI)]
def eX(name:AA):Option (List (AA×List (Option Int)))->D
 |none=>.non
 |some l=>.lst (l.map (nW name))
def T.lvs_len:∀(t:T){b:AA}{l:List (AA×List (Option Int))},t.lvs b=-l->l⁻¹<=2 ^ t.dep
 |.lf r,b,l,h=>by cases h;exact Nat.one_le_two_pow
 |.sp i z o,b,l,h=>by
  rw[T.lvs]at h;split at h
  .split at h
   .rename_i N O h1 h2;cases h;have g:=z.lvs_len h1;have q:=o.lvs_len h2;have J:=fi (show 0<2 by decide) (Nat.le_max_left z.dep o.dep);have L:=fi (show 0<2 by decide) (Nat.le_max_right z.dep o.dep);rw[am,T.dep,Nat.pow_succ];lia
   .cases h
  .cases h
def T.lvs_len'{n:Nat}{t:T}{b:AA}{l:List (AA×List (Option Int))}(h:t.lvs b=-l)(hn:t.dep<n)(g:n<=12):l⁻¹<=4096:=by
 have h1:=t.lvs_len h;have q:=fi (show 0<2 by decide) (show t.dep<=12 by lia);have z:2 ^ 12=4096:=by decide
 lia
structure TA where
 name:AA
 b:AA
 t:T
def J6(n:Nat)(a:TA):Prop:=a.name≠jX/\a.b⁻¹<=12/\a.t.dep<n/\n<=12
def eY(n:Nat):RF.Spec:=bM (λa:TA=>[.str a.b,a.t.d a.name]) (J6 n) (λa=>eX a.name (a.t.lvs a.b))
def z6{n:Nat}{name b:AA}{t:T}{G:DH}{k:AT}{E:EK}(h1:name≠jX)(h2:b⁻¹<=12)(g:t.dep<n)(q:n<=12)(z:k (eX name (t.lvs b)) G):(eY n).t [.str b,t.d name] G k E:=bZ ⟨name,b,t⟩ rfl ⟨h1,h2,g,q⟩ z
def afi(ds:AS)(G:DH)(a:(eY 0).A):¬(eY 0).pre ds G a:=λzZ=>by let(_,_,_,_,h,_):=zZ;lia
def afj{b:AA}{i:Int}(h:je b i=true):0<=i/\∃n:Nat,i=n/\n<b⁻¹/\b[n]?=-42:=by
 unfold je at h;rw[ae]at h;have h1:=dv h.1;have h2:b[i.toNat]?=-42:=by simpa using h.2
 exact⟨h1,i.toNat,!0,(ai.mp h2).1,h2⟩
def afk (Z:aj) (n:Nat) (h0:Z "leaves"=eY n) (h1:Z "is_named"=aU gn) (h2:Z "is_place"=aU jd) (h3:Z "with_sign"=aU ie) (a:TA) (G:DH) (h:J6 (n+1) a):az Z iY noE (env0 [.str a.b,a.t.d a.name] 3) G (ends λd G'=>G'=G/\d=eX a.name (a.t.lvs a.b)):=by
 let(name,b,t):=a;let(q,J,hd,hn):=h;dsimp only at q J hd ⊢;cases t with
 |lf r=>
  simp_all_arith[iY];nofun;erw[h1,T.d];show afg q ?_;erw[T.lvs,eX,nW];exact⟨!1,!1⟩
 |sp i z o=>
  rw[T.dep]at hd;simp_all_arith[iY];nofun;erw[h1,T.d];show afh rfl ?_;erw[ends];symm;erw[ends];symm;erw[h2];show dW (d:=.bl (isPlace b⁻¹ (.int i))) rfl ?_;cases g:je b i with
  |false=>
   rw[T.lvs,g];cases N:isPlace b⁻¹ (.int i) with
   |false=>erw[eX]
   |true=>
    unfold isPlace at N;rw[ae]at N;have p1:=dv N.1;have p2:=dv N.2;obtain⟨m,rfl⟩:∃m:Nat,i=m:=⟨i.toNat,!0⟩;have U:m<b⁻¹:=by lia
    have hc:b[m]?=-b[m]:=al U;have L:((b[m]==42):Bool)=false:=by unfold je at g;rw[b9 (!0),Bool.true_and,bq,hc]at g;simpa using g
    erw[ends];show bL (a:=b[m]) (bW hc) ?_;erw[gZ,L,eX]
  |true=>
   let(_,m,rfl,U,hc):=afj g;have N:isPlace b⁻¹ (.int (m:Int))=true:=by change(decide (0<=(m:Int))&&decide ((m:Int)<b⁻¹))=true;rw[b9 (!0),b9 (!0)];rfl
   have hl:(T.sp (m:Int) z o).lvs b=match z.lvs (b.set m 48),o.lvs (b.set m 49) with|some l,-m=>-(l++m)|_,_=>none:=by rw[T.lvs,g,bq]
   rw[N];erw[ends];show bL (a:=42) (bW hc) ?_;erw[BEq.rfl];symm;erw[h0,h3];show uo U (!0) (z6 q (by rw[ef];exact J) (!0) (!0) (hM _ _ (seq λM hM=>?_)));erw[h0,h3];show uo U (!0) (z6 q (by rw[ef];exact J) (!0) (!0) (hM _ _ (seq λM hM=>?_)));cases O:z.lvs (b.set m 48) with
   |none=>
    rw[O]at hl;erw[hl,eX]
   |some l1=>
    cases Y:o.lvs (b.set m 49) with
    |none=>
     rw[O,Y]at hl;erw[hl,eX]
    |some l2=>
     rw[O,Y]at hl;have q1:=T.lvs_len' O (n:=n) (!0) (!0);have q2:=T.lvs_len' Y (n:=n) (!0) (!0);erw[eX];ac_nf0;erw[af,cy,hl,eX];bv_omega
def afl(o:Option Nat):aW o=oI (o.map λn=>(n:Int)):=by cases o<;>rfl
def jZ(g:List (AU))(c:AA):List (Option Int):=g.map λrs=>(bV rs c).map λn=>(n:Int)
def J7{g:List (AU)}{c:AA}:(jZ g c).map oI=g.map λrs=>aW (bV rs c):=by unfold jZ;rw[cp];exact dr λrs z=>(afl _).symm
def Lv.tree{name:AA}{g:List (AU)}{b:AA}{d:D}{bs:List (AA)}(h:Lv name g b d bs):∃t:T,d=t.d name/\t.dep<=stc b/\t.lvs b=-(bs.map λc=>(c,jZ g c)):=by
 induction h with
 |leaf b h=>exact⟨.lf (jZ g b),by rw[T.d,J7];rfl,cb _,rfl⟩
 |node b n z o l m h _ _ Y U=>
  let(J,rfl,L,N):=Y;let(q,rfl,d2,O):=U;have s1:=jY h (show 48≠42 by decide);have s2:=jY h (show 49≠42 by decide);show⟨.sp n J q,rfl,?_,?_⟩
  .rw[T.dep];have:=Nat.max_le.mpr ⟨show J.dep<=stc (b.set n 48) from L,show q.dep<=stc (b.set n 48) by lia⟩;lia
  .have hs:je b (n:Int)=true:=by unfold je;rw[b9 (!0),bq,h];rfl
   rw[T.lvs,hs,bq,N,O];simp
def afm{name:AA}{g:List (AU)}{c:AA}:nW name (c,jZ g c)=nU name g c:=by unfold nW nU ur;rw[J7]
def afn{n:Nat}{name:AA}{g:List (AU)}{b:AA}{d:D}{bs:List (AA)}{G:DH}{k:AT}{E:EK}(h:Lv name g b d bs)(h1:name≠jX)(h2:b⁻¹<=12)(N:stc b<n)(J:k (.lst (bs.map (nU name g))) G)(z:n<=12:=by decide):(eY n).t [.str b,d] G k E:=by
 let(t,rfl,L,q):=h.tree;show z6 h1 h2 (!0) z ?_;rw[q,eX,cp];have:(nW name∘λc=>(c,jZ g c))=nU name g:=by funext c;exact afm
 rw[this];exact J
def gr:AA->List (AA)
 |[]=>[[]]
 |c::f=>(alt c).flatMap λs=>(gr f).map (s::·)
def J8:∀(f:AA)(g:List (AA)),f.foldl step1 g=g.flatMap λt=>(gr f).map (t ++ ·)
 |[],g=>by simp[gr]
 |c::f,g=>by
  rw[List.foldl_cons,J8 f,step1,List.flatMap_assoc];congr 1;funext t;rw[gr,List.flatMap_map,List.map_flatMap];congr 1;funext s;rw[cp];congr 1;funext x;simp
def afo(f:AA):bG f=gr f:=by unfold bG;rw[J8];simp
def afp{w:Nat}{G:DH}{k:AT}{E:EK}(h:w<=1000)(g:k (.str (List.replicate w 42)) G):(aU jc).t [.int w] G k E:=
 dW (d:=.str (List.replicate w 42)) (by unfold jc;dsimp only;rw[if_pos (by simp only[ae,dc];lia),bq]) g
def cR(l:AA):AA:=l.map λa=>if a=42 then 48 else a
def j4:AS->Option D
 |[.str l]=>if decide (l⁻¹<=1000) then some (.str (cR l)) else none
 |_=>none
def afq{l:AA}{G:DH}{k:AT}{E:EK}(h:l⁻¹<=1000)(g:k (.str (cR l)) G):(aU j4).t [.str l] G k E:=dW (if_pos (b9 h)) g
def afr{b l:AA}{n:Nat}(h:Fits b l)(hn:b[n]?=-42):Fits (b.set n 48) l\/Fits (b.set n 49) l:=by
 let(hl,he):=ai.mp hn;have q:n<l⁻¹:=by rw[<-h.1];exact hl
 have hs:=h.2 n 42 l[n] hn (al q);have put:∀c,l[n]=c->c≠42->Fits (b.set n c) l:=by
  intro c hc g;show⟨by rw[ef];exact h.1,λi x y z J=>?_⟩;rw[List.getElem?_set]at z;by_cases hi:n=i
  .subst hi;rw[if_pos rfl,if_pos hl]at z;rw[al q]at J;cases z;cases J;unfold alt;rw[if_neg g,hc];simp
  .rw[if_neg hi]at z;exact h.2 i x y z J
 unfold alt at hs;rw[if_pos rfl]at hs;have:l[n]=48\/l[n]=49:=by simpa using hs
 rcases this with e|e
 .exact .inl (put 48 e (!1))
 .exact .inr (put 49 e (!1))
def J9{b l:AA}{n c:Nat}(h:Fits (b.set n c) l)(hn:b[n]?=-42)(hc:c=48\/c=49):Fits b l:=by
 have hl:=(ai.mp hn).1;show⟨by have:=h.1;rwa [ef]at this,λi x y g q=>?_⟩;by_cases hi:n=i
 .subst hi;rw[hn]at g;cases g;have:=h.2 n c y (by rw[List.getElem?_set,if_pos rfl,if_pos hl]) q;unfold alt at this ⊢;rw[if_neg (!0)]at this;rw[if_pos rfl];have e:y=c:=by simpa using this
  rw[e];simpa using hc
 .exact h.2 i x y (by rw[List.getElem?_set,if_neg hi];exact g) q
def Lv.cover{name:AA}{q:List (AU)}{b:AA}{d:D}{bs:List (AA)}(h:Lv name q b d bs):∀l,Fits b l->∃c∈bs,Fits c l:=by
 induction h with
 |leaf b h=>exact λl hl=>⟨b,!2,hl⟩
 |node b n z o l m h _ _ L J=>
  intro w hw;rcases afr hw h with e|e
  .let(c,hc,g):=L w e;exact⟨c,a9.mpr (.inl hc),g⟩
  .let(c,hc,g):=J w e;exact⟨c,a9.mpr (.inr hc),g⟩
def Lv.within{name:AA}{g:List (AU)}{b:AA}{d:D}{bs:List (AA)}(h:Lv name g b d bs):∀c∈bs,∀l,Fits c l->Fits b l:=by
 induction h with
 |leaf b h=>intro c hc l hl;rw[ah.mp hc]at hl;exact hl
 |node b n z o l m h _ _ J q=>
  intro c hc w hw;rcases a9.mp hc with hc|hc
  .exact J9 (J c hc w hw) h (.inl rfl)
  .exact J9 (q c hc w hw) h (.inr rfl)
def afs{a s:Nat}{f l:AA}(h:Fits (a::f) (s::l)):s∈alt a/\Fits f l:=
 ⟨h.2 0 a s rfl rfl,by have:=h.1;simpa using this,λi c t h1 h2=>h.2 (i+1) c t (!!h1) (!!h2)⟩
def aft{a s:Nat}{f l:AA}(h1:s∈alt a)(h2:Fits f l):Fits (a::f) (s::l):=⟨by simp[h2.1],λi c t hc g=>by
 cases i with
 |zero=>simp at hc g;rw[<-hc,<-g];exact h1
 |succ i=>exact h2.2 i c t (!!hc) (!!g)⟩
def z7:∀c:AA,Fits c (cR c)
 |[]=>⟨rfl,λi c s h=>by simp at h⟩
 |a::c=>by
  change Fits (a::c) ((if a=42 then 48 else a)::cR c);show aft ?_ (z7 c);unfold alt;split<;>simp
def Ka:∀{c l:AA},Fits c l->¬l<cR c
 |[],l,h=>by
  have:l=[]:=dy.mp h.1.symm;subst this;exact List.lt_irrefl _
 |a::c,[],h=>by have:=h.1;simp at this
 |a::c,s::l,h=>by
  let(h1,h2):=afs h;change¬(s::l)<((if a=42 then 48 else a)::cR c);rw[gS];have g:=Ka h2;unfold alt at h1;split at h1
  .rename_i e;rw[if_pos e];have:s=48\/s=49:=by simpa using h1
   rintro(q|q)
   .omega
   .exact g q.2
  .rename_i e;rw[if_neg e];have:s=a:=by simpa using h1
   rintro(q|q)
   .omega
   .exact g q.2
def Kc:∀{x m a:AA},x<m->¬a<m->x<a
 |x,[],a,h,_=>absurd h (!2)
 |x,b::m,[],_,h=>absurd (!2) h
 |[],b::m,y::a,_,_=>by simp
 |c::x,b::m,y::a,h,g=>by
  rw[gS]at h g ⊢;have q:¬y<b:=λe=>g (.inl e);rcases h with h|⟨h1,h2⟩
  .exact .inl (!0)
  .by_cases e:y=b
   .exact .inr ⟨!0,Kc h2 λz=>g (.inr ⟨e,z⟩)⟩
   .exact .inl (!0)
def Kd:∀f:AA,(gr f).Pairwise (· < ·)
 |[]=>by simp[gr]
 |c::f=>by
  have z:=Kd f;have one:∀s:Nat,((gr f).map (s::·)).Pairwise (· < ·):=λs=>List.pairwise_map.mpr (z.imp λh=>gS.mpr (.inr ⟨rfl,h⟩));rw[gr];unfold alt;split
  .rw[List.flatMap_cons,List.flatMap_cons,List.flatMap_nil,fy,List.pairwise_append];show⟨one 48,one 49,λa g b q=>?_⟩;let(x,_,rfl):=bi.mp g;let(y,_,rfl):=bi.mp q;exact gS.mpr (.inl (!1))
  .rw[List.flatMap_cons,List.flatMap_nil,fy];exact one c
def afu{u:List (AA)}{m:AA}(h:u.Pairwise (· < ·))(g:m∈u)(hl:∀x∈u,¬x<m):u.head?=-m:=by
 cases u with
 |nil=>cases g
 |cons a u=>
  rcases bP.mp g with e|g
  .rw[e];rfl
  .exact absurd ((List.pairwise_cons.mp h).1 m g) (hl a bp)
def afv{ds:AS}{ls:List (AA)}{k:D->Prop}(h0:bj ds=none)(h:bF ds=-ls)(g:∀m,m∈ls->(∀a,a∈ls->¬a<m)->k (.str m)):opB .min [.lst ds] k:=by change lz [.lst ds] k;unfold lz;dsimp only;rw[h0,h];exact g
def Ke:AA:=[115,97,109,101]
def Kf:AA:=[112,97,114,116,101,100]
def Kg:AA:=[97,108,105,107,101]
def uv:RF.Spec:=bM (λa:Nat×AU×AU=>[au a.1 a.2.1,au a.1 a.2.2]) (λa=>okB a.1 a.2.1/\okB a.1 a.2.2) (λz=>.non)
def afw{w:Nat}{rs g:AU}{G:DH}{k:AT}{E:EK}(h:okB w rs)(h':okB w g)(q:k .non G):uv.t [au w rs,au w g] G k E:=bZ (w,rs,g) rfl ⟨h,h'⟩ q
def afx (Z:aj) (h1:Z "need_book"=jV) (a:Nat×AU×AU) (G:DH) (h:okB a.1 a.2.1/\okB a.1 a.2.2):az Z m8 noE (env0 [au a.1 a.2.1,au a.1 a.2.2] 0) G (ends λd q=>q=G/\d=.non):=by let(w,rs,z):=a;let(g,hc):=h;dsimp only at g hc ⊢;simp_all_arith[m8];nofun;erw[h1];show ug g (hM _ _ (seq λM hM=>?_));erw[h1];show ug hc (hM _ _ (last ?_));erw[au,BEq.rfl,and_self]
def bw(rs:AU)(o:Option Nat):Option (AA):=o.bind λn=>rs[n]?.map (·.2)
def Kh{rs:AU}{o:Option Nat}:jW rs o=bU (bw rs o):=by
 cases o with
 |none=>rfl
 |some n=>
  unfold jW bw;dsimp only[Option.bind];cases rs[n]?<;>rfl
structure SD where
 w:Nat
 rs:AU
 ss:AU
 name:AA
 o:Option Nat
 p:Option Nat
def sSD:RF.Spec:=bM (λa:SD=>[au a.w a.rs,au a.w a.ss,.tup [.str a.name,aW a.o,aW a.p]]) (λa=>(∀n,a.o=-n->n<a.rs⁻¹)/\∀n,a.p=-n->n<a.ss⁻¹) (λa=>.bl (bw a.rs a.o==bw a.ss a.p))
def afy{w:Nat}{rs g:AU}{name:AA}{o p:Option Nat}{G:DH}{k:AT}{E:EK}(h1:∀n,o=-n->n<rs⁻¹)(h2:∀n,p=-n->n<g⁻¹)(q:k (.bl (bw rs o==bw g p)) G):sSD.t [au w rs,au w g,.tup [.str name,aW o,aW p]] G k E:=bZ ⟨w,rs,g,name,o,p⟩ rfl ⟨h1,h2⟩ q
def afz (Z:aj) (h1:Z "deed_of"=uh) (a:SD) (G:DH) (h:(∀n,a.o=-n->n<a.rs⁻¹)/\∀n,a.p=-n->n<a.ss⁻¹):az Z m9 noE (env0 [au a.w a.rs,au a.w a.ss,.tup [.str a.name,aW a.o,aW a.p]] 0) G (ends λd z=>z=G/\d=.bl (bw a.rs a.o==bw a.ss a.p)):=by let(w,rs,J,name,o,p):=a;let(g,q):=h;dsimp only at g q ⊢;erw[m9,h1];show JS g (JS q ?_);rw[Kh,Kh];cases bw rs o<;>cases bw J p<;>erw[bU]<;>first|done | (simp;done) | (show⟨!1,?_⟩;simp;done)
def dz(w:Nat)(rs g:AU):List (AA):=(bG (List.replicate w 42)).filter λl=>!(bw rs (bx rs l)==bw g (bx g l))
def eZ(rs g:AU)(c:AA):Bool:=bw rs (bV rs c)==bw g (bV g c)
def z8(w:Nat)(rs g:AU)(d:D):Prop:=
 (∃m,(dz w rs g).head?=-m/\d=.tup [.str Kf,.str m])\/(dz w rs g=[]/\∃t bs,d=.tup [.str Kg,t]/\Lv Ke [rs,g] (List.replicate w 42) t bs/\∀c∈bs,eZ rs g c=true)
def uw:RF.Spec:=ghS (A:=Nat×AU×AU) (λa ds z=>ds=[au a.1 a.2.1,au a.1 a.2.2]/\okB a.1 a.2.1/\okB a.1 a.2.2) (λa G d g=>g=G/\z8 a.1 a.2.1 a.2.2 d)
def afA{w:Nat}{rs g:AU}{G:DH}{k:AT}{E:EK}(h:okB w rs)(h':okB w g)(z:∀d,z8 w rs g d->k d G):uw.t [au w rs,au w g] G k E:=
 gk (w,rs,g) ⟨rfl,h,h'⟩ λd L J=>by
  let(e,q):=J;subst e;exact z d q
def afB (Z:aj) (h1:Z "need_two_books"=uv) (h2:Z "grown"=fK 9) (h3:Z "leaves"=eY 9) (h4:Z "least"=aU j4) (h5:Z "stars"=aU jc) (h6:Z "same_deeds"=sSD) (a:Nat×AU×AU) (ds:AS) (G:DH) (h:ds=[au a.1 a.2.1,au a.1 a.2.2]/\okB a.1 a.2.1/\okB a.1 a.2.2):
  az Z nq noE (env0 ds 3) G (ends λd G'=>G'=G/\z8 a.1 a.2.1 a.2.2 d):=by
 let(w,rs,g):=a;let(rfl,hb,hb'):=h;dsimp only at hb hb' ⊢;have hw6:=hb.w6;have hst:=ae4 w;have hrl:∀r∈rs,r.1⁻¹=w:=λr z=>(hb.form r z).1;have hsl:∀r∈g,r.1⁻¹=w:=λr z=>(hb'.form r z).1;have e0:∀xs:AU,D.tup [.int w,.tup (xs.map aN)]=au w xs:=λy=>rfl;simp_all_arith[nq];nofun;erw[h1];show afw hb hb' (hM _ _ (seq λM hM=>?_));erw[au,h5];show afp (!0) (hM _ _ (seq λM hM=>?_));erw[h2];have er:[D.tup (rs.map aN),.tup (g.map aN)]=eV [rs,g]:=rfl;rw[er];show⟨!1,zZ (name:=Ke) ⟨!2,!1,λxs q r z=>?_,!0⟩ cm (!0) λt ht=>hM _ _ (seq λM hM=>?_)⟩
 .rcases bP.mp q with e|q
  .rw[e]at z;exact hrl r z
  .rw[ah.mp q]at z;exact hsl r z
 let(bs,O):=ht.lv;have hlen:=O.len' (by rw[cm];lia);erw[h3];show afn O (!1) (by rw[cm];lia) (!0) ?_;erw[ends];show CompG.inv (P:=λi acc Y G'=>(∃o1 o2,Y=[o1,o2,-(.tup [.int w,.tup (rs.map aN)]),-(.tup [.int w,.tup (g.map aN)])])/\G'=G/\acc=((bs.take i).filter λc=>!eZ rs g c).map λc=>D.str (cR c)) ⟨⟨_,_,rfl⟩,rfl,rfl⟩ (λy y y y y=>trivial) (by rw[af];bv_omega) ?_ ?_
 .rintro i d acc Y G' hd ⟨⟨o1,o2,rfl⟩,rfl,rfl⟩ kk hk;rw[aS]at hd;let(c,N,rfl):=aI.mp hd;have hcl:=(O.box c (br N)).1;rw[cm]at hcl;have htk:bs.take (i+1)=bs.take i++[c]:=by rw[eR,N];rfl
  erw[nU,ur,h6];rw[e0,e0];show afy (λn hn=>um hn) (λn hn=>um hn) ?_;have es:(bw rs (bV rs c)==bw g (bV g c))=eZ rs g c:=rfl;rw[es];cases hsb:eZ rs g c with
  |true=>
   erw[ends];exact hk _ _ _ ⟨⟨_,_,rfl⟩,rfl,by rw[htk,List.filter_append];simp[hsb]⟩
  |false=>
   erw[h4];show afq (!0) (hk _ _ _ ⟨⟨_,_,rfl⟩,rfl,by rw[htk,List.filter_append];simp[hsb]⟩)
 .rintro acc Y G' ⟨_,rfl,rfl⟩;rw[af,eK];symm;have meet:∀xs∈[rs,g],∀c∈bs,∀l,Fits c l->bx xs l=bV xs c:=by
   intro xs q c hc l hl;let(e1,e2):=O.box c hc;rw[cm]at e1;have okc:=O.okf (aeH w) c hc;show ae5 (λr z=>?_) (e2 _ q) (afc okc hl) hl;rcases bP.mp q with e|q
   .rw[e]at z;rw[hrl r z,e1]
   .rw[ah.mp q]at z;rw[hsl r z,e1]
  have J:∀c∈bs,∀l,Fits c l->(bw rs (bx rs l)==bw g (bx g l))=eZ rs g c:=by intro c hc l hl;rw[meet rs (!2) c hc l hl,meet g (!2) c hc l hl];rfl
  cases hfr:bs.filter λc=>!eZ rs g c with
  |nil=>
   have hall:∀c∈bs,eZ rs g c=true:=by
    intro c hc;have:=List.filter_eq_nil_iff.mp hfr c hc;cases h:eZ rs g c with
    |false=>rw[h]at this;exact absurd rfl this
    |true=>rfl
   erw[ends];ac_nf0;erw[ends];show⟨!1,.inr ⟨?_,t,bs,rfl,O,hall⟩⟩;unfold dz;rw[List.filter_eq_nil_iff];intro l hl;let(c,L,U):=O.cover l (nO.mp hl);rw[J c L l U,hall c L];simp
  |cons c0 cs=>
   have hne:(!(List.isEmpty (D.str (cR c0)::cs.map λc=>D.str (cR c))))=true:=rfl;erw[hne];rw[<-a7 (f:=λc=>D.str (cR c)),<-hfr];have es:bF ((bs.filter λc=>!eZ rs g c).map λc=>D.str (cR c))=-((bs.filter λc=>!eZ rs g c).map cR):=strs_map _ _;have ei:bj ((bs.filter λc=>!eZ rs g c).map λc=>D.str (cR c))=none:=by rw[hfr];rfl
   show afv ei es λm hm hlow=>?_;let(c,hcm,rfl):=bi.mp hm;let(N,hcn):=fv.mp hcm;show⟨!1,.inl ⟨cR c,?_,rfl⟩⟩;show afu ?_ ?_ ?_
   .unfold dz;rw[afo];exact(Kd _).filter _
   .unfold dz;rw[fv];show⟨nO.mpr (O.within c N _ (z7 c)),?_⟩;rw[J c N _ (z7 c)];exact hcn
   .intro x hx hlt;unfold dz at hx;let(hx1,hx2):=fv.mp hx;let(c',L,U):=O.cover x (nO.mp hx1);rw[J c' L x U]at hx2;have hlow':=hlow (cR c') (bi.mpr ⟨c',fv.mpr ⟨L,hx2⟩,rfl⟩);exact Ka U (Kc hlt hlow')
def ux:RF.Spec:=bM (A:=Nat×AU×AA) (λa=>[au a.1 a.2.1,.str a.2.2]) (λa=>∀r∈a.2.1,r.1⁻¹=a.2.2⁻¹) (λa=>bU (bw a.2.1 (bx a.2.1 a.2.2)))
def afC{w:Nat}{rs:AU}{l:AA}{G:DH}{k:AT}{E:EK}(h:∀r∈rs,r.1⁻¹=l⁻¹)(g:k (bU (bw rs (bx rs l))) G):ux.t [au w rs,.str l] G k E:=bZ (w,rs,l) rfl h g
def afD (Z:aj) (h1:Z "_law_met"=uq) (a:Nat×AU×AA) (G:DH) (h:∀r∈a.2.1,r.1⁻¹=a.2.2⁻¹):
  az Z yP noE (env0 [au a.1 a.2.1,.str a.2.2] 1) G (ends λd q=>q=G/\d=bU (bw a.2.1 (bx a.2.1 a.2.2))):=by
 let(w,rs,l):=a;dsimp only at h ⊢;simp_all_arith[yP];nofun;erw[h1];show afa h (hM _ _ (seq λM hM=>?_));cases g:bx rs l with
 |none=>erw[aW,bw,Option.bind,bU,and_self]
 |some n=>
  have hn:=aeD g;have hc:rs[n]?=-rs[n]:=al hn;erw[aW];ac_nf0;erw[au];show bL (a:=aN rs[n]) (bW (by rw[aS,hc];rfl)) ?_;erw[aN];simp[bw,hc,g,bU]
def afE(a b:Option (AA)):deq (bU a) (bU b)=(a==b):=by cases a<;>cases b<;>simp[bU,deq]
def uy:RF.Spec:=bM (λa:Nat×AU×AU=>[au a.1 a.2.1,au a.1 a.2.2]) (λa=>okB a.1 a.2.1/\okB a.1 a.2.2) (λa=>bU (dz a.1 a.2.1 a.2.2).head?)
def afF{w:Nat}{rs g:AU}{G:DH}{k:AT}{E:EK}(h:okB w rs)(h':okB w g)(q:k (bU (dz w rs g).head?) G):uy.t [au w rs,au w g] G k E:=bZ (w,rs,g) rfl ⟨h,h'⟩ q
def afG (Z:aj) (h1:Z "alike"=uw) (a:Nat×AU×AU) (G:DH) (h:okB a.1 a.2.1/\okB a.1 a.2.2):az Z nu noE (env0 [au a.1 a.2.1,au a.1 a.2.2] 2) G (ends λd J=>J=G/\d=bU (dz a.1 a.2.1 a.2.2).head?):=by
 let(w,rs,U):=a;let(z,g):=h;dsimp only at z g ⊢;have L:(([97,108,105,107,101]==[112,97,114,116,101,100]):Bool)=false:=by decide
 simp_all_arith[nu];nofun;erw[h1];show afA z g λd O=>?_;rcases O with⟨m,N,rfl⟩|⟨q,t,bs,rfl,_,_⟩
 .erw[Kf];ac_nf0;erw[BEq.rfl,N,bU,and_self]
 .erw[Kg];ac_nf0;erw[L,q,List.head?_nil,bU,and_self]
def afH{g:Type}(l:List g)(n:Nat):cut l (-((n:Int)+2)) none=l.drop (n+2):=Jh l (n+2)
def afI{rs:AU}{n:Nat}(h:n<rs⁻¹):(rs.map aN)[n]?=-(aN (rs.getD n ([],[]))):=by rw[aS,b6,al h];rfl
def ao(o:AA):D:=.tup (o.map λi:Nat=>D.int (i:Int))
def okO(n:Nat)(o:AA):Prop:=o.Perm (List.range n)
def okO.len{n:Nat}{o:AA}(h:okO n o):o⁻¹=n:=by rw[List.Perm.length_eq h,da]
def okO.mem{n i:Nat}{o:AA}(h:okO n o)(hi:i∈o):i<n:=fT.mp ((List.Perm.mem_iff h).mp hi)
def jf(n:Nat):D.tup (aX 0 n)=ao (List.range n):=by unfold aX ao;congr 1;exact dr (λ(i:Nat) z=>by rw[gL])
def aA(o:AA):List Int:=o.map λi:Nat=>(i:Int)
def z9(o:AA):o.map (λi:Nat=>D.int (i:Int))=(aA o).map D.int:=by unfold aA;rw[cp];rfl
def Aa(n:Nat):aX 0 n=(aA (List.range n)).map D.int:=by have:=jf n;unfold ao at this;rw[z9]at this;exact D.tup.inj this
def jg:∀l:List Int,bj (l.map D.int)=-l
 |[]=>rfl
 |a::l=>by rw[a7,bj,jg l]
def afJ:∀n:Fin 13,(aA (List.range n.1)).Pairwise (·<=·):=by decide
def Kl:∀{a b:List Int},a.Perm b->a.Pairwise (·<=·)->b.Pairwise (·<=·)->a=b
 |[],b,h,_,_=>h.nil_eq
 |x::a,[],h,_,_=>absurd h.length_eq (!2)
 |x::a,y::b,h,ha,hb=>by
  rw[List.pairwise_cons]at ha hb;have h1:x∈y::b:=h.mem_iff.mp bp;have h2:y∈x::a:=h.mem_iff.mpr bp;have e:x=y:=by
   rcases bP.mp h1 with e|m
   .exact e
   .rcases bP.mp h2 with e|g
    .exact e.symm
    .have:=hb.1 x m;have:=ha.1 y g;lia
  subst e;rw[Kl (List.perm_cons x |>.mp h) ha.2 hb.2]
def ig:∀l:List Int,nrs (l.map D.int)=true/\bh (l.map D.int)=0
 |[]=>⟨rfl,rfl⟩
 |a::l=>by
  let(h1,h2):=ig l;rw[a7,nrs,bh,h1,h2];exact⟨rfl,rfl⟩
def nY(o:AA):nr (ao o)=true/\dpt (ao o)<=1:=by unfold ao;rw[z9,nr,dpt,(ig _).1,(ig _).2];exact⟨rfl,av _⟩
def uz:RF.Spec:=bM (λa:Nat×AU=>[au a.1 a.2]) (λa=>okB a.1 a.2) (λa=>ao (List.range a.2⁻¹))
def afK{w:Nat}{rs:AU}{G:DH}{k:AT}{E:EK}(h:okB w rs)(g:k (ao (List.range rs⁻¹)) G):uz.t [au w rs] G k E:=bZ (w,rs) rfl h g
def afL(Z:aj)(a:Nat×AU)(G:DH)(h:okB a.1 a.2):az Z mD noE (env0 [au a.1 a.2] 0) G (ends λd q=>q=G/\d=ao (List.range a.2⁻¹)):=by let(w,rs):=a;dsimp only at h ⊢;have g:=h.len;erw[mD,au,af,bq];exact⟨⟨!0,!0⟩,jf _⟩
def dTup(v:List Int):D:=.tup (v.map D.int)
def Ab(o:AA):ao o=dTup (aA o):=by unfold ao dTup;rw[z9]
def isO(n:Nat)(v:List Int):Bool:=v.isPerm (aA (List.range n))
def toO(v:List Int):AA:=v.map Int.toNat
def Ac(o:AA):toO (aA o)=o:=by unfold toO aA;rw[cp];have e:(Int.toNat∘λi:Nat=>(i:Int))=id:=funext λi=>bq i;rw[e,List.map_id]
def Km{n:Nat}{o:AA}(h:okO n o):isO n (aA o)=true:=List.isPerm_iff.mpr (List.Perm.map _ h)
def afM{n:Nat}{v:List Int}(h:isO n v=true):okO n (toO v)/\v=aA (toO v):=by
 have h:=List.isPerm_iff.mp h;constructor
 .have:=List.Perm.map Int.toNat h;change(v.map Int.toNat).Perm _;rw[show(aA (List.range n)).map Int.toNat=List.range n from Ac _]at this;exact this
 .unfold aA toO;rw[cp];conv=>lhs;rw[<-List.map_id v]
  show dr λx g=>?_;have:=h.mem_iff.mp g;unfold aA at this;let(i,_,rfl):=bi.mp this;rfl
def uA:∀a b:List Int,bN (a.map D.int) (b.map D.int)=(a==b)
 |[],[]=>rfl
 |[],_::_=>rfl
 |_::_,[]=>rfl
 |x::a,y::b=>by
  rw[a7,a7,bN,uA a b];rfl
def Ko{n:Nat}{v ns:List Int}(hn:n<=12)(g:ns.Perm v)(hs:ns.Pairwise (·<=·)):(ns==aA (List.range n))=isO n v:=by
 rw[eh,a8];unfold isO;rw[List.isPerm_iff];constructor
 .rintro rfl;exact g.symm
 .intro h;exact Kl (g.trans h) hs (afJ ⟨n,!0⟩)
def Kp(n:Nat):D->D
 |.int i=>.bl (isPlace (n:Int) (.int i))
 |_=>.non
def afN{n:Nat}{v:List Int}(h:isO n v=true):v.all (λi=>isPlace (n:Int) (.int i))=true:=by let(h1,h2):=afM h;rw[h2,b3];intro x g;unfold aA at g;let(i,hi,rfl):=bi.mp g;have:=h1.mem hi;change(decide (0<=(i:Int))&&decide ((i:Int)<(n:Int)))=true;rw[b9 (!0),b9 (!0)];rfl
def uB:RF.Spec:=bM (A:=Nat×AU×List Int) (λa=>[au a.1 a.2.1,dTup a.2.2]) (λa=>okB a.1 a.2.1/\a.2.2⁻¹<=30) (λa=>.bl (isO a.2.1⁻¹ a.2.2))
def afO{w:Nat}{rs:AU}{v:List Int}{G:DH}{k:AT}{E:EK}(h:okB w rs)(q:v⁻¹<=30)(g:k (.bl (isO rs⁻¹ v)) G):uB.t [au w rs,dTup v] G k E:=bZ (w,rs,v) rfl ⟨h,q⟩ g
def afP (Z:aj) (h1:Z "is_place"=aU jd) (a:Nat×AU×List Int) (G:DH) (h:okB a.1 a.2.1/\a.2.2⁻¹<=30):az Z mU noE (env0 [au a.1 a.2.1,dTup a.2.2] 1) G (ends λd N=>N=G/\d=.bl (isO a.2.1⁻¹ a.2.2)):=by
 let(w,rs,v):=a;let(J,hv):=h;dsimp only at J hv ⊢;have L:=J.len;unfold dTup;simp_all_arith[mU];nofun;erw[au,af];symm;erw[h1];show CompG.map (f:=Kp rs⁻¹) (I:=λY=>∃o,Y=[o,-(.int (rs⁻¹:Nat))]) ⟨_,rfl⟩ trivial (by rw[af];bv_omega) ?_ ?_
 .rintro d Y hd ⟨o,rfl⟩ kk hk;let(i,hm,rfl):=bi.mp hd;erw[h1];show dW (show jd [.int (rs⁻¹:Int),.int i]=-(.bl (isPlace (rs⁻¹:Int) (.int i))) from rfl) ?_;exact hk _ ⟨_,rfl⟩
 .have U:(v.map D.int).map (Kp rs⁻¹)=v.map λi=>D.bl (isPlace (rs⁻¹:Int) (.int i)):=by rw[cp];rfl
  rw[U];have O:(v.map λi=>isPlace (rs⁻¹:Int) (.int i)).all id=v.all λi=>isPlace (rs⁻¹:Int) (.int i):=by rw[List.all_map];rfl
  erw[my,O];cases q:v.all λi=>isPlace (rs⁻¹:Int) (.int i) with
  |false=>
   have:isO rs⁻¹ v=false:=by
    cases e:isO rs⁻¹ v with
    |false=>rfl
    |true=>rw[afN e]at q;cases q
   erw[this,and_self]
  |true=>
   erw[ends];ac_nf0;erw[ends];show bL (jg _) ⟨!0,λns q hs=>?_⟩;have z:=ig ns;have g:=ig (aA (List.range rs⁻¹));show⟨⟨!0,!0⟩,?_⟩;simp only[bq];rw[Aa];show⟨⟨z.1,g.1,by rw[g.2];exact cf (Nat.min_le_right _ _) (!1)⟩,?_⟩;rw[uA,Ko (!0) q hs]
def nZ:RF.Spec:=bM (A:=Nat×AU×AA) (λa=>[au a.1 a.2.1,ao a.2.2]) (λa=>okB a.1 a.2.1/\okO a.2.1⁻¹ a.2.2) (λz=>.non)
def Kq{w:Nat}{rs:AU}{o:AA}{G:DH}{k:AT}{E:EK}(h:okB w rs)(q:okO rs⁻¹ o)(g:k .non G):nZ.t [au w rs,ao o] G k E:=bZ (w,rs,o) rfl ⟨h,q⟩ g
def afQ (Z:aj) (h1:Z "is_order"=uB) (a:Nat×AU×AA) (G:DH) (h:okB a.1 a.2.1/\okO a.2.1⁻¹ a.2.2):az Z mV noE (env0 [au a.1 a.2.1,ao a.2.2] 0) G (ends λd g=>g=G/\d=.non):=by erw[mV,h1,Ab];show afO h.1 (by have:=h.1.len;have:=h.2.len;unfold aA;rw[af];lia) ?_;rw[Km h.2];erw[ends]
def uC:RF.Spec:=bM (A:=Nat×AU) (λa=>[au a.1 a.2]) (λa=>okB a.1 a.2/\a.1<=4/\a.2⁻¹<=5) (λz=>.non)
def afR{w:Nat}{rs:AU}{G:DH}{k:AT}{E:EK}(h:okB w rs)(g:w<=4)(q:rs⁻¹<=5)(z:k .non G):uC.t [au w rs] G k E:=bZ (w,rs) rfl ⟨h,g,q⟩ z
def afS (Z:aj) (h1:Z "need_book"=jV) (a:Nat×AU) (G:DH) (h:okB a.1 a.2/\a.1<=4/\a.2⁻¹<=5):az Z nH noE (env0 [au a.1 a.2] 2) G (ends λd q=>q=G/\d=.non):=by let(w,rs):=a;let(g,z,J):=h;dsimp only at g z J ⊢;simp_all_arith[nH];nofun;erw[h1];show ug g (hM _ _ (seq λM hM=>?_));erw[au];ac_nf0;erw[af,bX (show¬(5:Int)<(rs⁻¹:Int) by lia),bX (show¬(4:Int)<(w:Int) by lia)]
def byR(rs:AU)(o:AA):AU:=o.map λi=>rs.getD i ([],[])
def Ad{w:Nat}{rs:AU}{o:AA}(g:okB w rs)(q:okO rs⁻¹ o):okB w (byR rs o):=by
 show g.sub ?_ λr z=>?_
 .unfold byR;rw[af,q.len];first|exact g.len|exact av _
 .let(i,hi,rfl):=bi.mp z;have:=q.mem hi;rw[b6,al this];exact c8 _
def sBy:RF.Spec:=bM (A:=Nat×AU×AA) (λa=>[au a.1 a.2.1,ao a.2.2]) (λa=>okB a.1 a.2.1/\okO a.2.1⁻¹ a.2.2) (λa=>au a.1 (byR a.2.1 a.2.2))
def Ae{w:Nat}{rs:AU}{o:AA}{G:DH}{k:AT}{E:EK}(h:okB w rs)(q:okO rs⁻¹ o)(g:k (au w (byR rs o)) G):sBy.t [au w rs,ao o] G k E:=bZ (w,rs,o) rfl ⟨h,q⟩ g
def Kr{rs:AU}{o:AA}{d:D}{n:Nat}(q:okO n o)(hn:rs⁻¹=n)(g:d∈o.map λi:Nat=>D.int (i:Int)):∃i:Nat,d=.int (i:Int)/\atI (rs.map aN) (i:Int)=-(aN (rs.getD i ([],[]))):=by let(i,hi,rfl):=bi.mp g;exact⟨i,rfl,bW (afI (by rw[hn];exact q.mem hi))⟩
def Af(rs:AU):D->D
 |.int i=>aN (rs.getD i.toNat ([],[]))
 |_=>.non
def Ks(rs:AU)(o:AA):(o.map λi:Nat=>D.int (i:Int)).map (Af rs)=(byR rs o).map aN:=by unfold byR;rw[cp,cp];exact dr λi z=>rfl
def afT (Z:aj) (h1:Z "need_book"=jV) (h2:Z "need_order"=nZ) (a:Nat×AU×AA) (G:DH) (h:okB a.1 a.2.1/\okO a.2.1⁻¹ a.2.2):az Z mW noE (env0 [au a.1 a.2.1,ao a.2.2] 2) G (ends λd J=>J=G/\d=au a.1 (byR a.2.1 a.2.2)):=by
 let(w,rs,o):=a;let(g,q):=h;dsimp only at g q ⊢;have z:=g.len;have O:=q.len;simp_all_arith[mW];nofun;erw[h1];show ug g (hM _ _ (seq λM hM=>?_));erw[h2];show Kq g q (hM _ _ (seq λM hM=>?_));erw[au];ac_nf0;erw[ao];show CompG.map (f:=Af rs) (I:=λY=>∃o,Y=[o,-(.tup (rs.map aN))]) ⟨_,rfl⟩ trivial (by rw[af];bv_omega) ?_ ?_
 .rintro d Y L ⟨o',rfl⟩ U N;let(i,rfl,e):=Kr q rfl L;erw[ends];exact bL e (N _ ⟨_,rfl⟩)
 .rw[Ks];erw[ends];exact⟨!1,rfl⟩
def afU(Z:aj)(a:Nat×AU×AA)(G:DH)(h:okB a.1 a.2.1/\okO a.2.1⁻¹ a.2.2):az Z yS noE (env0 [au a.1 a.2.1,ao a.2.2] 0) G (ends λd J=>J=G/\d=au a.1 (byR a.2.1 a.2.2)):=by
 let(w,rs,o):=a;let(q,g):=h;dsimp only at q g ⊢;have z:=q.len;have O:=g.len;simp_all_arith[yS,au];show last ?_;erw[ao];show CompG.map (f:=Af rs) (I:=λY=>∃o,Y=[o,-(.tup [.int w,.tup (rs.map aN)])]) ⟨_,rfl⟩ trivial (by rw[af];bv_omega) ?_ ?_
 .rintro d Y L ⟨o',rfl⟩ U N;let(i,rfl,e):=Kr g rfl L;erw[ends];exact bL e (N _ ⟨_,rfl⟩)
 .rw[Ks];erw[ends];decide
def good(w:Nat)(rs:AU)(o:AA):Bool:=(dz w rs (byR rs o)).isEmpty
def uD:RF.Spec:=bM (A:=Nat×AU×AA) (λa=>[au a.1 a.2.1,ao a.2.2]) (λa=>okB a.1 a.2.1/\okO a.2.1⁻¹ a.2.2) (λa=>.bl (good a.1 a.2.1 a.2.2))
def afV{w:Nat}{rs:AU}{o:AA}{G:DH}{k:AT}{E:EK}(h:okB w rs)(q:okO rs⁻¹ o)(g:k (.bl (good w rs o)) G):uD.t [au w rs,ao o] G k E:=bZ (w,rs,o) rfl ⟨h,q⟩ g
def afW (Z:aj) (h1:Z "parting_word"=uy) (h2:Z "by_order"=sBy) (a:Nat×AU×AA) (G:DH) (h:okB a.1 a.2.1/\okO a.2.1⁻¹ a.2.2):az Z nA noE (env0 [au a.1 a.2.1,ao a.2.2] 0) G (ends λd z=>z=G/\d=.bl (good a.1 a.2.1 a.2.2)):=by let(w,rs,o):=a;let(g,q):=h;dsimp only at g q ⊢;erw[nA,h1,h2];show Ae g q (afF g (Ad g q) ?_);unfold good;cases dz w rs (byR rs o)<;>erw[List.head?_nil,List.head?_cons,bU,List.isEmpty_nil,List.isEmpty_cons]
def aG(o:AA)(n:Nat):AA:=o.take n++[o.getD (n+1) 0,o.getD n 0]++o.drop (n+2)
def afX{l:AA}{n:Nat}(h:n+1<l⁻¹):l=l.take n++(l.getD n 0::l.getD (n+1) 0::l.drop (n+2)):=by
 have e:l.drop n=l.getD n 0::l.getD (n+1) 0::l.drop (n+2):=by rw[bg (show n<l⁻¹ by lia),bg h,b6,b6,al (show n<l⁻¹ by lia),al h];rfl
 rw[<-e,List.take_append_drop]
def uE{m n:Nat}{o:AA}(g:okO m o)(h:n+1<m):okO m (aG o n):=by
 have hl:n+1<o⁻¹:=by rw[g.len];exact h
 show List.Perm.trans ?_ g;conv=>rhs;rw[afX hl]
 unfold aG;rw[List.append_assoc];exact List.Perm.append_left _ (List.Perm.swap _ _ _)
def gA:RF.Spec:=bM (A:=AA×Nat) (λa=>[ao a.1,.int (a.2:Nat)]) (λa=>a.2+1<a.1⁻¹/\a.1⁻¹<=12) (λa=>ao (aG a.1 a.2))
def uF{o:AA}{n:Nat}{G:DH}{k:AT}{E:EK}(h1:n+1<o⁻¹)(h2:o⁻¹<=12)(g:k (ao (aG o n)) G):gA.t [ao o,.int (n:Nat)] G k E:=bZ (o,n) rfl ⟨h1,h2⟩ g
def Ku{o:AA}{n:Nat}(h:n<o⁻¹):(o.map λi:Nat=>D.int (i:Int))[n]?=-(.int (o.getD n 0:Nat)):=by rw[aS,b6,al h];rfl
def Kv(Z:aj)(a:AA×Nat)(G:DH)(h:a.2+1<a.1⁻¹/\a.1⁻¹<=12):az Z nF noE (env0 [ao a.1,.int (a.2:Nat)] 0) G (ends λd g=>g=G/\d=ao (aG a.1 a.2)):=by let(o,n):=a;let(h1,h2):=h;dsimp only at h1 h2 ⊢;simp_all_arith[nF,ao];show last ?_;simp_arith[aeG,afH,<-List.map_drop,af];show bL (a:=.int (o.getD (n+1) 0:Nat)) (bW (j:=n+1) (Ku h1)) (bL (a:=.int (o.getD n 0:Nat)) (bW (Ku (!0))) ?_);show⟨!1,by rw[d4];bv_omega,by simp only[am,af,d4,e7,c9,hJ];bv_omega,?_⟩;unfold aG;rw[cy,cy];first|trivial|exact⟨rfl,rfl⟩|rfl
def afY(Z:aj)(a:AA×Nat)(G:DH)(h:a.2+1<a.1⁻¹/\a.1⁻¹<=12):az Z Jv noE (env0 [ao a.1,.int (a.2:Nat)] 0) G (ends λd g=>g=G/\d=ao (aG a.1 a.2)):=Kv Z a G h
def afZ{p q:AQ}{G G1 G2:DH}(a:Sb p G G1)(g:G q=none)(b:Sb q G1 G2):Sb p G G2:=λc o h n=>b c o (a c o h n) (lw h g)
def uG:RF.Spec:=ghS (A:=AQ×Nat) (λa ds G=>ds=[.ref a.1,.int (a.2:Nat)]/\Pen G a.1/\a.2<=12) (λa G d g=>∃o,d=ao o/\okO a.2 o/\Pen g a.1/\Sb a.1 G g)
def af0{p:AQ}{n:Nat}{G:DH}{k:AT}{E:EK}(J:Pen G p)(hn:n<=12)(z:∀o g,okO n o->Pen g p->Sb p G g->k (ao o) g):uG.t [.ref p,.int (n:Nat)] G k E:=gk (p,n) ⟨rfl,J,hn⟩ λd g L=>by
 let(o,rfl,h1,h2,q):=L;exact z o g h1 h2 q
def af1 (Z:aj) (h1:Z "_law_take"=d8) (a:AQ×Nat) (ds:AS) (G:DH) (h:ds=[.ref a.1,.int (a.2:Nat)]/\Pen G a.1/\a.2<=12):az Z zx noE (env0 ds 1) G (ends λd J=>∃o,d=ao o/\okO a.2 o/\Pen J a.1/\Sb a.1 G J):=by
 let(p,n):=a;let(rfl,hp,hn):=h;dsimp only at hp hn ⊢;simp_all_arith[zx];nofun;erw[bq];show⟨⟨!0,!0⟩,λq hq=>hM _ _ (last ?_)⟩;have hqp:q≠p:=(hp.ne hq).symm;erw[h1,bq];show⟨!0,CompG.inv (P:=λi L Y J=>(∃o,Y=[o,-(.ref q),-(.ref p)])/\(Pen J p/\Sb p G J)/\∃os left:AA,L=(os.map λi:Nat=>D.int (i:Int))/\J q=-(.lst (left.map λi:Nat=>D.int (i:Int)))/\(os++left).Perm (List.range n)/\os⁻¹=i) ⟨⟨_,rfl⟩,⟨hp.sa (Sa.new hq),(Sa.new hq).sb⟩,[],List.range n,rfl,?_,gI _,rfl⟩ (λy y y y y=>trivial) ?_ ?_ ?_⟩
 .rw[bc];have e:=jf n;unfold ao at e;rw[D.tup.inj e]
 .simp[aX];bv_omega
 .rintro i d L Y J hd ⟨⟨o,rfl⟩,⟨O,U⟩,os,left,rfl,g,z,N⟩ kk hk;have hi:i<n:=by
   have:=(ai.mp hd).1;simpa [aX] using this
  have hll:os⁻¹+left⁻¹=n:=by have:=z.length_eq;rwa [am,da]at this
  erw[h1,Jo,Jm,cg g,cj g,af];show cZ O (!0) (!0) λr G2 hr hp2 sb2=>?_;have g2:=sb2 _ _ g hqp;have hrl:r<left⁻¹:=by lia
  simp only[Jm,cg g2,bq];show⟨!0,!0,bL (a:=D.int (left[r]:Nat)) (by rw[aS,al hrl];rfl) ?_⟩;show hk _ _ _ ⟨⟨_,rfl⟩,⟨hp2.sb Sb.upd hqp.symm,afZ (U.trans sb2) hq Sb.upd⟩,os++[left[r]],left.eraseIdx r,?_,?_,?_,by simp;lia⟩
  .rw[cy];rfl
  .rw[bc];congr 2;rw[eA,eA,cy,List.map_take,List.map_drop]
  .show List.Perm.trans ?_ z;rw[List.append_assoc];show List.Perm.append_left _ ?_;have e:left.take r++left[r]::left.drop (r+1)=left:=by rw[<-bg hrl,List.take_append_drop]
   rw[eA];have pm:(left[r]::(left.take r++left.drop (r+1))).Perm (left.take r++left[r]::left.drop (r+1)):=List.perm_middle.symm;rw[e]at pm;exact pm
 .rintro L Y J ⟨⟨o,rfl⟩,⟨O,U⟩,os,left,rfl,g,z,N⟩;have N:os⁻¹=n:=by simpa [aX] using N
  have hll:os⁻¹+left⁻¹=n:=by have:=z.length_eq;rwa [am,da]at this
  have hl0:left=[]:=dy.mp (!0);subst hl0;rw[fy]at z;exact⟨os,rfl,z,O,U⟩
def ik(o:AA):AS:=(List.range (o⁻¹-1)).map λi:Nat=>D.tup [.int (i:Int),ao (aG o i)]
def uH:RF.Spec:=bM (A:=AA) (λo=>[ao o]) (λo=>o⁻¹<=12) (λo=>.lst (ik o))
def af2{o:AA}{G:DH}{k:AT}{E:EK}(h:o⁻¹<=12)(g:k (.lst (ik o)) G):uH.t [ao o] G k E:=bZ o rfl h g
def stepI(o:AA):D->D
 |.int i=>.tup [.int i,ao (aG o i.toNat)]
 |_=>.non
def af3(o:AA):(aX 0 (o⁻¹-1)).map (stepI o)=ik o:=by unfold aX ik;rw[cp];show dr λi z=>?_;change stepI o (.int (0+(i:Nat)))=_;rw[gL];rfl
def af4 (Z:aj) (h1:Z "exchanged"=gA) (o:AA) (G:DH) (h:o⁻¹<=12):az Z nG noE (env0 [ao o] 0) G (ends λd z=>z=G/\d=.lst (ik o)):=by
 have N:ao o=.tup (o.map λi:Nat=>D.int (i:Int)):=rfl;have L:((o⁻¹:Int)-1).toNat=o⁻¹-1:=by lia
 simp_all_arith[nG];show last ?_;erw[h1];rw[N];erw[af,L];show⟨⟨!0,!0⟩,?_⟩;show CompG.map (f:=stepI o) (I:=λY=>∃x,Y=[x,-(ao o)]) ⟨_,rfl⟩ trivial (by unfold aX;rw[af,da];bv_omega) ?_ ?_
 .rintro d Y g ⟨x,rfl⟩ O q;unfold aX at g;let(i,hi,rfl):=bi.mp g;have hi:=fT.mp hi;have J:(0:Int)+(i:Nat)=(i:Int):=gL _;rw[J]at q ⊢;erw[h1];show uF (!0) h ⟨!1,?_⟩;exact q _ ⟨_,rfl⟩
 .rw[af3];erw[and_self]
def il(o:AA):ao o=.tup ((aA o).map D.int):=Ab o
def uI{o:AA}{g:List Int->Prop}:cB (ao o) g=g (aA o):=by rw[il,t6,jg];rfl
def j5{o:AA}{ks:List (List Int)}{ds:AS}{kb:Bool->Prop}:aZ .In (ao o) (.dct ks ds) kb=kb (kIx ks (aA o)).isSome:=by rw[Jp,uI]
def n6{o:AA}{ks:List (List Int)}{ds:AS}{kb:Bool->Prop}:aZ .NotIn (ao o) (.dct ks ds) kb=kb (!(kIx ks (aA o)).isSome):=by rw[Jq,uI]
def uJ{o:AA}{ks:List (List Int)}{ds:AS}{kd:D->Prop}:cV (.dct ks ds) (ao o) kd=aQ (kIx ks (aA o)) λi=>aQ ds[i]? kd:=by rw[il,Jr,t6,jg];rfl
def Ag{o:AA}{p:AQ}{x:D}{G:DH}{g:DH->Prop}:dZ (.ref p) (ao o) x G g=mz G p (λks ds=>ks⁻¹<sz/\g (aL G p (dput ks ds (aA o) x))):=by rw[il,Js];simp only[t6,jg,gj]
theorem cT{o:AA}{G:DH}:view G (ao o)=ao o:=rfl
def Kw{ks:List (List Int)}{n:List Int}(h:n∉ks):kIx ks n=none:=by unfold kIx;rw[List.findIdx?_eq_none_iff];exact λx g=>bX λe=>h (e ▸ g)
def Ky{ks:List (List Int)}{n:List Int}{i:Nat}(h:kIx ks n=-i):i<ks⁻¹/\n∈ks:=by unfold kIx at h;let(hi,g,_):=cS.mp h;have e:=dv g;exact⟨hi,e ▸ c8 hi⟩
def n8{ks:List (List Int)}{n:List Int}(h:n∈ks):∃i,kIx ks n=-i:=by
 cases e:kIx ks n with
 |some i=>exact⟨i,rfl⟩
 |none=>
  unfold kIx at e;rw[List.findIdx?_eq_none_iff]at e;have:=e n h;rw[b9 rfl]at this;cases this
def uK{ks:List (List Int)}{n:List Int}(h:(kIx ks n).isSome=false):n∉ks:=λm=>by
 let(i,e):=n8 m;rw[e]at h;cases h
def Ah{ks:List (List Int)}{ds:AS}{n:List Int}{x:D}(h:n∉ks):dput ks ds n x=.dct (ks++[n]) (ds++[x]):=by unfold dput;rw[Kw h]
def Kz{z:Type}[DecidableEq z]:∀{l m:List z},l.Nodup->(∀x∈l,x∈m)->l⁻¹<=m⁻¹
 |[],m,_,_=>cb _
 |a::l,m,h,hm=>by
  rw[c6]at h;have g:=hm a bp;have:=Kz (m:=m.erase a) h.2 λx q=>(List.mem_erase_of_ne (λ(e:x=a)=>h.1 (e ▸ q))).mpr (hm x (bS _ q));rw[List.length_erase_of_mem g]at this;have:=List.length_pos_of_mem g;rw[c9];lia
def uL:Nat->List Int->List (List Int)
 |0,_=>[[]]
 |k+1,l=>l.flatMap λa=>(uL k (l.erase a)).map (a::·)
def KC:∀(v l:List Int),v.Perm l->v∈uL v⁻¹ l
 |[],l,_=>ah.mpr rfl
 |a::v,l,h=>by
  rw[c9,uL];exact List.mem_flatMap.mpr ⟨a,h.mem_iff.mp bp,bi.mpr ⟨v,KC v _ (List.cons_perm_iff_perm_erase.mp h).2,rfl⟩⟩
def af5:∀n:Fin 6,(uL n.1 (aA (List.range n.1)))⁻¹<=120:=by ac_rfl
def isKey(n:Nat)(k:List Int):Prop:=∃o,okO n o/\k=aA o
def oh{n:Nat}{ks:List (List Int)}(hn:n<=5)(nd:ks.Nodup)(h:∀k∈ks,isKey n k):ks⁻¹<=120:=by
 show cf (Kz nd λk q=>?_) (af5 ⟨n,!0⟩);let(o,g,rfl):=h k q;have e:(aA o)⁻¹=n:=by unfold aA;rw[af,g.len]
 have:=KC (aA o) (aA (List.range n)) (List.Perm.map _ g);rwa [e]at this
def KD{ks:List (List Int)}{k:List Int}(h:ks.Nodup)(z:k∉ks):(ks++[k]).Nodup:=by rw[List.nodup_append];exact⟨h,c6.mpr ⟨cw,d6⟩,λa g b q e=>z (by rw[<-ah.mp q,<-e];exact g)⟩
def j6{Z:aj}{z:Sxs}{E:EK}{Y:ak}{G:DH}{q:AQ}{o:DO}{g:En}(J:G q=none)(h:∀G1,G1 q=-o->Sa G G1->az Z z E Y G1 g):az Z z E Y (aL G q o) g:=h _ bc (Sa.new J)
def j7{a b:AA}(h:aA a=aA b):a=b:=by rw[<-Ac a,h,Ac]
def uM{ks:List (List Int)}{n:List Int}(h:(kIx ks n).isSome=true):n∈ks:=by let(i,e):=cq.mp h;exact(Ky e).2
def KH{n:Nat}:∀{ks:List (List Int)},(∀k∈ks,isKey n k)->∃os:List (AA),ks=os.map aA/\∀o∈os,okO n o
 |[],_=>⟨[],rfl,λz h=>absurd h cw⟩
 |k::ks,h=>by
  let(o,h1,e):=h k bp;let(os,q,h2):=KH λx g=>h x (bS _ g);show⟨o::os,by rw[a7,<-e,<-q],λx g=>?_⟩;rcases bP.mp g with rfl|g
  .exact h1
  .exact h2 x g
def ou{o:AA}{os:List (AA)}(h:aA o∈os.map aA):o∈os:=by let(x,g,e):=bi.mp h;rw[<-j7 e];exact g
def af6{os:List (AA)}(h:(os.map aA).Nodup):os.Nodup:=by
 induction os with
 |nil=>exact d6
 |cons o os q=>
  rw[a7,c6]at h;rw[c6];exact⟨λg=>h.1 (bi.mpr ⟨o,g,rfl⟩),q h.2⟩
def af7(os:List (AA)):fV (os.map ao)=-(os.map aA):=by
 induction os with
 |nil=>rfl
 |cons o os g=>rw[a7,a7,il,fV,jg,g]
def KJ:∀(ks g:List (List Int)),(g++ks).Nodup->ks.foldl (λg k=>if k∈g then g else g++[k]) g=g++ks
 |[],g,_=>by rw[fy];rfl
 |k::ks,g,h=>by
  have hn:k∉g:=λq=>by
   rw[List.nodup_append]at h;exact h.2.2 k q k bp rfl
  rw[List.foldl_cons,if_neg hn];have e:g++k::ks=(g++[k])++ks:=by rw[List.append_assoc];rfl
  rw[e]at h ⊢;exact KJ ks _ h
def af8{ks:List (List Int)}(h:ks.Nodup):vV ks=ks:=KJ ks [] h
def KN{os:List (AA)}(h:os.Nodup):(os.map aA).Nodup:=by
 induction os with
 |nil=>exact d6
 |cons o os q=>
  rw[c6]at h;rw[a7,c6];exact⟨λg=>h.1 (ou g),q h.2⟩
def KQ{ks:List (List Int)}{n:List Int}(h:n∈ks):(kIx ks n).isSome=true:=by let(i,e):=n8 h;rw[e];rfl
def af9{ks:List (List Int)}{n:List Int}(h:n∉ks):(kIx ks n).isSome=false:=by rw[Kw h];rfl
def KR(os:List (AA)):(os.map aA).map dTup=os.map ao:=by rw[cp];exact dr λo z=>(Ab o).symm
def dls(w:Nat)(rs:AU):AS:=(bG (List.replicate w 42)).map λl=>bU (bw rs (bx rs l))
def KY{w:Nat}{rs g:AU}:bN (dls w g) (dls w rs)=(dz w rs g).isEmpty:=by
 unfold dls dz;induction bG (List.replicate w 42) with
 |nil=>rfl
 |cons l ls q=>
  rw[a7,a7,bN,q,afE,List.filter_cons];have e:(bw g (bx g l)==bw rs (bx rs l))=(bw rs (bx rs l)==bw g (bx g l)):=by rw[eh,a8,a8];exact eq_comm
  rw[e];cases bw rs (bx rs l)==bw g (bx g l)<;>simp
def uN(w:Nat)(rs:AU):nrs (dls w rs)=true/\bh (dls w rs)=0:=by
 unfold dls;induction bG (List.replicate w 42) with
 |nil=>exact⟨rfl,rfl⟩
 |cons l ls g=>
  rw[a7,nrs,bh,g.1,g.2];cases bw rs (bx rs l)<;>exact⟨rfl,rfl⟩
def oA:RF.Spec:=ghS (A:=Nat×AU) (λa ds z=>ds=[au a.1 a.2]/\okB a.1 a.2) (λa G d g=>Sa G g/\d=.lst (dls a.1 a.2))
def uO{w:Nat}{rs:AU}{G:DH}{k:AT}{E:EK}(h:okB w rs)(q:∀g,Sa G g->k (.lst (dls w rs)) g):oA.t [au w rs] G k E:=gk (w,rs) ⟨rfl,h⟩ λd g z=>by
 let(s,rfl):=z;exact q g s
def KZ(rs:AU):D->D
 |.str l=>bU (bw rs (bx rs l))
 |_=>.non
def aga (Z:aj) (h1:Z "_law_words"=uf) (h2:Z "_law_deed"=ux) (a:Nat×AU) (ds:AS) (G:DH) (h:ds=[au a.1 a.2]/\okB a.1 a.2):az Z yR noE (env0 ds 0) G (ends λd L=>Sa G L/\d=.lst (dls a.1 a.2)):=by
 let(w,rs):=a;let(rfl,g):=h;dsimp only at g ⊢;have z:=g.w6;have N:D.tup [.int w,.tup (rs.map aN)]=au w rs:=rfl;have hwl:(bG (List.replicate w 42))⁻¹<=64:=cf (JM _) (fi (show 0<2 by decide) (show(List.replicate w 42)⁻¹<=6 by rw[cm];exact z));simp_all_arith[yR];show last ?_;simp_arith![au,h1,bq,JT];show⟨!0,!0,by bv_omega,aer (by rw[cm];lia) λG1 J=>?_⟩;simp_arith![ends];show CompG.map (f:=KZ rs) (I:=λY=>∃o,Y=[o,-(.tup [.int w,.tup (rs.map aN)])]) ⟨_,rfl⟩ trivial (by rw[af];bv_omega) ?_ ?_
 .rintro d Y O ⟨o,rfl⟩ kk U;let(l,hl,rfl):=bi.mp O;have q:l⁻¹=w:=(aeI.mp (nO.mp hl)).1;erw[h2];rw[N];exact afC (λr hr=>by rw[(g.form r hr).1,q]) (U _ ⟨_,rfl⟩)
 .have e:((bG (List.replicate w 42)).map D.str).map (KZ rs)=dls w rs:=by rw[cp];rfl
  rw[e];erw[ends];exact J
def Ai{n:Nat}{os:List (AA)}(hn:n<=5)(nd:os.Nodup)(h:∀o∈os,okO n o):os⁻¹<=120:=by
 have:=oh hn (KN nd) λk g=>by
  let(o,q,rfl):=bi.mp g;exact⟨o,h o q,rfl⟩
 rwa [af]at this
def Aj(a b:AA):deq (ao a) (ao b)=decide (a=b):=by rw[il,il];change bN _ _=_;rw[uA,eh,a8,dc];exact⟨j7,λe=>by rw[e]⟩
def Ak(o:AA)(os:List (AA)):isIn (ao o) (os.map ao)=decide (o∈os):=by
 unfold isIn;rw[List.any_map,eh,gV,dc];constructor
 .rintro ⟨x,g,e⟩;have e:deq (ao x) (ao o)=true:=e;rw[Aj,dc]at e;exact e ▸ g
 .intro h;exact⟨o,h,by change deq (ao o) (ao o)=true;rw[Aj];exact b9 rfl⟩
def agb(os:List (AA)):nrs (os.map ao)=true/\bh (os.map ao)<=1:=by
 induction os with
 |nil=>exact⟨rfl,cb _⟩
 |cons o os g=>
  rw[a7,nrs,bh,g.1,(nY o).1];exact⟨rfl,Nat.max_le.mpr ⟨(nY o).2,g.2⟩⟩
inductive GP (gd:AA->Bool) (n:Nat):AA->AA->Prop
 |nil:GP gd n [] (List.range n)
 |snoc {st o:AA} {j:Nat}:GP gd n st o->j+1 < n->gd (aG o j)=true->GP gd n (st++[j]) (aG o j)
def GP.ok{gd:AA->Bool}{n:Nat}{st o:AA}(h:GP gd n st o):okO n o:=by
 induction h with
 |nil=>exact gI _
 |snoc h q g z=>exact uE z q
def lea(gd:AA->Bool)(n:Nat)(st o:AA):Prop:=GP gd n st o/\∀g,GP gd n g o->st⁻¹<=g⁻¹
def GP.last{gd:AA->Bool}{n:Nat}{st o:AA}(h:GP gd n st o):(st=[]/\o=List.range n)\/∃q z j,st=q++[j]/\o=aG z j/\GP gd n q z/\j+1<n/\gd o=true:=by
 cases h with
 |nil=>exact .inl ⟨rfl,rfl⟩
 |snoc h J g=>exact .inr ⟨_,_,_,rfl,rfl,h,J,g⟩
structure LI(gd:AA->Bool)(n t:Nat)(A B:AA->Prop):Prop where
 all:∀st o,GP gd n st o->st.length<=t->A o
 top:∀o,B o->A o/\∃st,lea gd n st o/\st.length=t
 has:∀st o,lea gd n st o->st.length=t->B o
open Classical in
def K1{gd:AA->Bool}{n:Nat}{st o:AA}(h:GP gd n st o):∃g,lea gd n g o/\g⁻¹<=st⁻¹:=by
 induction z:st⁻¹ using Nat.strongRecOn generalizing st with
 |_ m J=>
  subst z;by_cases q:∀g,GP gd n g o->st⁻¹<=g⁻¹
  .exact ⟨st,⟨h,q⟩,av _⟩
  .have ⟨g,hs⟩:=Classical.not_forall.mp q;have⟨h1,h2⟩:=Classical.not_imp.mp hs;let(s,a,b):=J g⁻¹ (!0) h1 rfl;exact⟨s,a,!0⟩
def LI.done{gd:AA->Bool}{n t:Nat}{A B:AA->Prop}(h:LI gd n t A B)(J:∀o,¬B o):∀st o,GP gd n st o->A o:=by
 have key:∀st o,GP gd n st o->∃s,GP gd n s o/\s⁻¹<=t:=by
  intro st o z;induction z with
  |nil=>exact⟨[],.nil,cb _⟩
  |snoc z L g O=>
   let(s,hs,hl):=O;let(s',q,N):=K1 hs;by_cases e:s'⁻¹=t
   .exact absurd (h.has _ _ q e) (J _)
   .exact ⟨_,.snoc q.1 L g,by rw[am,ca];lia⟩
 intro st o z;let(s,hs,hl):=key st o z;exact h.all s o hs hl
def LI.next{gd:AA->Bool}{n t:Nat}{A B J O:AA->Prop}(h:LI gd n t A B)(Y:∀o,A o->J o)(hp:∀o j,B o->j+1<n->gd (aG o j)=true->J (aG o j))(ht:∀o,O o->J o/\∃st,lea gd n st o/\st⁻¹=t+1)(hn:∀o,J o->A o\/O o)(hl:∀o,A o->∃st,GP gd n st o/\st⁻¹<=t):LI gd n (t+1) J O where
 all:=λst o hg hs=>by
  rcases hg.last with⟨rfl,rfl⟩|⟨N,o0,j,rfl,rfl,h0,L,g⟩
  .exact Y _ (h.all _ _ hg (cb _))
  .let(s,hl,U):=K1 h0;rw[am,ca]at hs;by_cases e:s⁻¹=t
   .exact hp _ _ (h.has _ _ hl e) L g
   .exact Y _ (h.all _ _ (.snoc hl.1 L g) (by rw[am,ca];lia))
 top:=ht
 has:=λst o q e=>by
  have ha:J o:=by
   rcases q.1.last with⟨rfl,rfl⟩|⟨N,o0,j,rfl,rfl,h0,L,g⟩
   .cases e
   .rw[am,ca]at e;have l0:lea gd n N o0:=⟨h0,λs hs=>by
     have:=q.2 _ (.snoc hs L g);rw[am,am]at this;simpa using this⟩
    exact hp _ _ (h.has _ _ l0 (!0)) L g
  rcases hn o ha with z|z
  .let(s,hs,U):=hl o z;have:=q.2 s hs;lia
  .exact z
structure BQ(gd:AA->Bool)(n at_:Nat)(dn:Nat->Prop)(os:List (AA))(ls:AA):Prop where
 len:ls.length=os.length
 lea:∀(i:Nat)(o:AA),os[i]?=some o->∃st,RF.lea gd n st o/\ls[i]?=some st.length
 srt:ls.Pairwise (·<=·)
 top:∀t,ls[at_]?=some t->(∀x∈ls,x<=t+1)/\∀st o,GP gd n st o->st.length<=t->o∈os
 prc:∀(i:Nat)(o:AA),i < at_->os[i]?=some o->∀j,j+1 < n->gd (aG o j)=true->aG o j∈os
 cur:∀o,os[at_]?=some o->∀j,dn j->j+1 < n->gd (aG o j)=true->aG o j∈os
 fst:os[0]?=some (List.range n)
def BQ.mono{gd:AA->Bool}{n g:Nat}{z q:Nat->Prop}{os:List (AA)}{ls:AA}(h:BQ gd n g z os ls)(J:∀o,os[g]?=-o->∀j,q j->j+1<n->gd (aG o j)=true->aG o j∈os):BQ gd n g q os ls:=⟨h.len,h.lea,h.srt,h.top,h.prc,J,h.fst⟩
def BQ.init(gd:AA->Bool)(n:Nat):BQ gd n 0 (λy=>False) [List.range n] [0]:=by
 have z:∀st o,GP gd n st o->st⁻¹<=0->o=List.range n:=λst o g hs=>by
  rcases g.last with⟨_,e⟩|⟨_,_,_,e,_⟩
  .exact e
  .rw[e,am,ca]at hs;lia
 show⟨rfl,λi o h=>?_,List.pairwise_singleton _ _,λt q=>?_,λi o hi=>absurd hi (Nat.not_lt_zero _),λy y y h=>h.elim,rfl⟩
 .cases i with
  |zero=>cases h;exact⟨[],⟨.nil,λy y=>cb _⟩,rfl⟩
  |succ i=>cases h
 .cases q;exact⟨λx J=>by rw[ah.mp J];exact cb _,λst o g hs=>by rw[z st o g hs];exact ah.mpr rfl⟩
def BQ.add{gd:AA->Bool}{n g j t:Nat}{dn:Nat->Prop}{os:List (AA)}{ls:AA}{o:AA}(h:BQ gd n g dn os ls)(U:os[g]?=-o)(Y:ls[g]?=-t)(hj:j+1<n)(hg:gd (aG o j)=true)(hn:aG o j∉os):BQ gd n g (λq=>dn q\/q=j) (os++[aG o j]) (ls++[t+1]):=by
 have hl:=h.len;have hat:=(ai.mp U).1;let(up,all):=h.top t Y;have sub:∀{x},x∈os->x∈os++[aG o j]:=λhx=>ce _ hx;have L:∀{i:Nat}{x:AA},i<=g->(os++[aG o j])[i]?=-x->os[i]?=-x:=λhi e=>by rwa [b4 (!0)]at e
 show⟨by rw[am,am,hl];rfl,λi x e=>?_,?_,λu hu=>?_,λi x hi e q h1 h2=>sub (h.prc i x hi (L (gE hi) e) q h1 h2),λx e q O h1 h2=>?_,by rw[b4 (!0)];exact h.fst⟩
 .by_cases hi:i<os⁻¹
  .rw[b4 hi]at e;let(st,l1,J):=h.lea i x e;exact⟨st,l1,by rw[b4 (!0)];exact J⟩
  .rw[fe (!0)]at e;have e0:i-os⁻¹=0:=by
    have:=(ai.mp e).1;rw[ca]at this;lia
   rw[e0]at e;cases e;let(st,l1,J):=h.lea g o U;rw[Y]at J;have J:t=st⁻¹:=df J;show⟨st++[j],⟨.snoc l1.1 hj hg,λs hs=>?_⟩,?_⟩
   .rw[am,ca];by_cases c:s⁻¹<=t
    .exact absurd (all s _ hs c) hn
    .omega
   .rw[fe (!0),hl,e0,J,am];rfl
 .rw[List.pairwise_append];exact⟨h.srt,List.pairwise_singleton _ _,λa ha b hb=>by rw[ah.mp hb];exact up a ha⟩
 .rw[b4 (!0),Y]at hu;cases hu;show⟨λx hx=>?_,λst x h1 h2=>sub (all st x h1 h2)⟩;rcases a9.mp hx with z|z
  .exact up x z
  .rw[ah.mp z];exact av _
 .have N:=L (av _) e;rcases O with O|rfl
  .exact sub (h.cur x N q O h1 h2)
  .rw[U]at N;cases N;exact ay _ (ah.mpr rfl)
def K3{ls:AA}(h:ls.Pairwise (·<=·)){i j a b:Nat}(J:i<=j)(hi:ls[i]?=-a)(g:ls[j]?=-b):a<=b:=by
 let(h1,q):=ai.mp hi;let(h2,z):=ai.mp g;by_cases c:i=j
 .subst c;rw[hi]at g;cases g;exact av _
 .have:=List.pairwise_iff_getElem.mp h i j h1 h2 (!0);rwa [q,z]at this
def BQ.next{gd:AA->Bool}{n q:Nat}{U:Nat->Prop}{os:List (AA)}{ls:AA}(h:BQ gd n q U os ls)(hat:q<os⁻¹)(hd:∀j,j+1<n->U j):BQ gd n (q+1) (λy=>False) os ls:=by
 have hl:=h.len;have J:∀(i:Nat)(o:AA),i<q+1->os[i]?=-o->∀j,j+1<n->gd (aG o j)=true->aG o j∈os:=λi o hi e j h1 h2=>by
  by_cases c:i=q
  .subst c;exact h.cur o e j (hd j h1) h1 h2
  .exact h.prc i o (!0) e j h1 h2
 show⟨hl,h.lea,h.srt,λu O=>?_,J,λy y y z=>z.elim,h.fst⟩;obtain⟨t,ht⟩:∃t,ls[q]?=-t:=⟨_,al (!0)⟩;let(up,all):=h.top t ht;have tu:=K3 h.srt (e6 q) ht O;have ut:=up u (br O);show⟨λx hx=>by have:=up x hx;lia,λst o Y hs=>?_⟩;by_cases c:st⁻¹<=t
 .exact all st o Y c
 .rcases Y.last with⟨rfl,_⟩|⟨L,N,j,rfl,rfl,h0,hj,g⟩
  .exact absurd (cb _) c
  .rw[am,ca]at hs c;have m0:=all L N h0 (!0);let(i,hi,e):=dA.mp m0;have e:os[i]?=-N:=by rw[al hi,e]
   let(s,l1,l2):=h.lea i N e;show J i N ?_ e j hj g;by_cases ci:i<q+1
   .exact ci
   .have:=K3 h.srt (show q+1<=i by lia) O l2;have:=l1.2 L h0;lia
def BQ.all{gd:AA->Bool}{n q:Nat}{J:Nat->Prop}{os:List (AA)}{ls:AA}(h:BQ gd n q J os ls)(L:os⁻¹<=q){st o:AA}(z:GP gd n st o):o∈os:=by
 induction z with
 |nil=>exact br h.fst
 |snoc z N g O=>
  let(i,hi,e):=dA.mp O;exact h.prc i _ (!0) (by rw[al hi,e]) _ N g
def wlk(n:Nat)(st:AA):AA:=st.foldl aG (List.range n)
def GP.wlk{gd:AA->Bool}{n:Nat}{st o:AA}(h:GP gd n st o):o=RF.wlk n st:=by
 induction h with
 |nil=>rfl
 |snoc h z g q=>unfold RF.wlk;rw[fN,q];rfl
def GP.take{gd:AA->Bool}{n:Nat}{st o:AA}(h:GP gd n st o):∀i,GP gd n (st.take i) (RF.wlk n (st.take i)):=by
 induction h with
 |nil=>intro i;rw[List.take_nil];exact .nil
 |snoc h z g J=>
  rename_i st o j;intro i;by_cases c:i<=st⁻¹
  .rw[List.take_append_of_le_length c];exact J i
  .have e:(st++[j]).take i=st++[j]:=fq (by rw[am,ca];lia);rw[e];have q:GP gd n (st++[j]) (aG o j):=.snoc h z g;rw[<-q.wlk];exact q
def GP.mem{gd:AA->Bool}{n:Nat}{st o:AA}(h:GP gd n st o):∀j∈st,j+1<n:=by
 induction h with
 |nil=>intro j q;exact absurd q cw
 |snoc h q g L=>
  intro N J;rcases a9.mp J with z|z
  .exact L N z
  .rw[ah.mp z];exact q
structure WI(n:Nat)(ks:List (List Int))(ds:AS):Prop where
 nd:ks.Nodup
 ok:∀k∈ks,isKey n k
 len:ds.length=ks.length
def WI.add{n:Nat}{ks:List (List Int)}{ds:AS}{k:List Int}{d:D}(h:WI n ks ds)(g:k∉ks)(q:isKey n k):WI n (ks++[k]) (ds++[d]) where
 nd:=KD h.nd g
 ok:=λx J=>by
  rcases a9.mp J with z|z
  .exact h.ok x z
  .rw[ah.mp z];exact q
 len:=by rw[am,am,h.len];rfl
def stO(st:AA):DO:=.lst (st.map λi:Nat=>D.int (i:Int))
def LE(gd:AA->Bool)(n t m:Nat)(G0 g:DH)(r:Option AQ)(o:AA)(d:D):Prop:=∃st q,d=.ref q/\g q=-(stO st)/\G0 q=none/\r≠some q/\lea gd n st o/\st⁻¹<=t/\st⁻¹<=m
def LW(gd:AA->Bool)(n t:Nat)(G0 g:DH)(r:Option AQ)(ks:List (List Int))(ds:AS):Prop:=∀(i:Nat)(k:List Int),ks[i]?=-k->∃o d,k=aA o/\ds[i]?=-d/\LE gd n t ks⁻¹ G0 g r o d
section
variable {gd:AA->Bool} {n t:Nat} {G0 G1 G2:DH} {r:Option AQ} {ks:List (List Int)} {ds:AS}
theorem LE.to{t' m L:Nat}{N:Option AQ}{o:AA}{d:D}(h:LE gd n t m G0 G1 r o d)(Y:t<=t')(U:m<=L)(hs:∀q l,G1 q=-(.lst l)->r≠some q->G2 q=-(.lst l)/\N≠some q):LE gd n t' L G0 G2 N o d:=by let(st,q,e,g,z,nr,l,h1,h2):=h;let(O,J):=hs q _ g nr;exact⟨st,q,e,O,z,J,l,!0,!0⟩
theorem LW.to{t':Nat}{g:Option AQ}(h:LW gd n t G0 G1 r ks ds)(O:t<=t')(hs:∀q l,G1 q=-(.lst l)->r≠some q->G2 q=-(.lst l)/\g≠some q):LW gd n t' G0 G2 g ks ds:=λi k N=>by
 let(o,d,z,J,L):=h i k N;exact⟨o,d,z,J,L.to O (av _) hs⟩
theorem LW.has(h:LW gd n t G0 G1 r ks ds){o:AA}{i:Nat}(hi:kIx ks (aA o)=-i):∃d,ds[i]?=-d/\LE gd n t ks⁻¹ G0 G1 r o d:=by unfold kIx at hi;let(hl,J,_):=cS.mp hi;have e:=dv J;let(o',d,g,q,z):=h i _ (al hl);rw[e]at g;rw[j7 g];exact⟨d,q,z⟩
theorem LW.of(h:LW gd n t G0 G1 r ks ds){o:AA}(g:aA o∈ks):∃st,lea gd n st o/\st⁻¹<=t:=by let(i,hi):=n8 g;let(d,_,st,_,_,_,_,_,l,h1,_):=h.has hi;exact⟨st,l,h1⟩
theorem LW.add(h:LW gd n t G0 G1 r ks ds)(hl:ds⁻¹=ks⁻¹){o:AA}{d:D}(h1:LE gd n t (ks⁻¹+1) G0 G1 r o d):LW gd n t G0 G1 r (ks++[aA o]) (ds++[d]):=λi k z=>by
 have el:(ks++[aA o])⁻¹=ks⁻¹+1:=by rw[am];rfl
 rw[el];by_cases hi:i<ks⁻¹
 .rw[b4 hi]at z;let(o',d',L,N,O):=h i k z;exact⟨o',d',L,by rw[b4 (!0)];exact N,O.to (av _) (e6 _) λq l g nr=>⟨g,nr⟩⟩
 .rw[fe (!0)]at z;have J:i-ks⁻¹=0:=by
   have:=(ai.mp z).1;simp only[c9,hJ]at this;lia
  rw[J]at z;cases z;exact⟨o,d,rfl,by rw[fe (!0),hl,J];rfl,h1⟩
end
structure FGW(Z:aj):Prop where
 first:Z "first_order"=uz
 steps:Z "steps_from"=uH
 good:Z "is_good"=uD
structure GI(n:Nat)(G0 G':DH)(p q:AQ)(ks:List (List Int))(ds:AS)(kb:List (List Int))(db:AS):Prop where
 gp:G' p=some (.dct ks ds)
 gq:G' q=some (.dct kb db)
 bn:kb.Nodup
 bk:∀k∈kb,isKey n k
 w:WI n ks ds
 sa:Sa G0 G'
 zp:G0 p=none
 zq:G0 q=none
 pq:p≠q
def GI.to{n:Nat}{G0 G1 G2:DH}{p q:AQ}{ks:List (List Int)}{ds:AS}{kb:List (List Int)}{g:AS}(h:GI n G0 G1 p q ks ds kb g)(s:Sa G1 G2):GI n G0 G2 p q ks ds kb g:=⟨s _ _ h.gp,s _ _ h.gq,h.bn,h.bk,h.w,h.sa.trans s,h.zp,h.zq,h.pq⟩
def GI.ne{n:Nat}{G0 G1:DH}{p q r:AQ}{ks:List (List Int)}{ds:AS}{kb:List (List Int)}{z:AS}(h:GI n G0 G1 p q ks ds kb z)(g:G1 r=none):r≠p/\r≠q/\G0 r=none:=by
 show⟨λe=>?_,λe=>?_,?_⟩
 .rw[e,h.gp]at g;cases g
 .rw[e,h.gq]at g;cases g
 .cases e:G0 r with
  |none=>rfl
  |some o=>rw[h.sa _ _ e]at g;cases g
def nwOk(n:Nat)(ks:List (List Int))(g:List (AA)):Prop:=∀o∈g,okO n o/\aA o∈ks
def nwOk.more{n:Nat}{ks:List (List Int)}{q:List (AA)}{k:List Int}(h:nwOk n ks q):nwOk n (ks++[k]) q:=λo g=>⟨(h o g).1,ce _ (h o g).2⟩
structure TI(gd:AA->Bool)(n t:Nat)(ks0 ks:List (List Int))(kb:List (List Int))(fu:List (AA))(dn:AA->Nat->Prop):Prop where
 sub:∀k∈ks0,k∈ks
 new:∀o,aA o∈ks->aA o∈ks0\/o∈fu
 fu:∀o∈fu,aA o∈ks/\∃st,lea gd n st o/\st.length=t+1
 bad:∀o,aA o∈kb->gd o=false
 dn:∀o j,dn o j->j+1 < n->gd (aG o j)=true->aA (aG o j)∈ks
def TI.mono{gd:AA->Bool}{n t:Nat}{q ks:List (List Int)}{kb:List (List Int)}{L:List (AA)}{J g:AA->Nat->Prop}(h:TI gd n t q ks kb L J)(O:∀o j,j+1<n->g o j->J o j\/(gd (aG o j)=true->aA (aG o j)∈ks)):TI gd n t q ks kb L g:=
 ⟨h.sub,h.new,h.fu,h.bad,λo j h1 h2 N=>(O o j h2 h1).elim (λz=>h.dn o j z h2 N) λz=>z N⟩
def TI.add{gd:AA->Bool}{n t:Nat}{q ks:List (List Int)}{kb:List (List Int)}{Y:List (AA)}{U:AA->Nat->Prop}{B:AA->Prop}(h:TI gd n t q ks kb Y U)(L:LI gd n t (λo=>aA o∈q) B){o st:AA}{j:Nat}(hB:B o)(hs:lea gd n st o)(hj:j+1<n)(hg:gd (aG o j)=true)(hn:aA (aG o j)∉ks):lea gd n (st++[j]) (aG o j)/\(st++[j])⁻¹=t+1/\TI gd n t q (ks++[aA (aG o j)]) kb (Y++[aG o j]) (λo' J=>U o' J\/(o'=o/\J=j)):=by
 let(_,s0,l0,e0):=L.top o hB;have es:st⁻¹=t:=by have:=hs.2 _ l0.1;have:=l0.2 _ hs.1;lia
 have lt:lea gd n (st++[j]) (aG o j):=⟨.snoc hs.1 hj hg,λs O=>by
  rw[am,ca,es];by_cases N:s⁻¹<=t
  .exact absurd (h.sub _ (L.all s _ O N)) hn
  .omega⟩
 have el:(st++[j])⁻¹=t+1:=by rw[am,ca,es]
 show⟨lt,el,λk hk=>ce _ (h.sub k hk),λo' g=>?_,λo' g=>?_,h.bad,λo' J hd h2 h3=>?_⟩
 .rcases a9.mp g with z|z
  .rcases h.new o' z with y|y
   .exact .inl y
   .exact .inr (ce _ y)
  .rw[j7 (ah.mp z)];exact .inr (ay _ (ah.mpr rfl))
 .rcases a9.mp g with z|z
  .exact ⟨ce _ (h.fu o' z).1,(h.fu o' z).2⟩
  .rw[ah.mp z];exact⟨ay _ (ah.mpr rfl),_,lt,el⟩
 .rcases hd with z|⟨rfl,rfl⟩
  .exact ce _ (h.dn o' J z h2 h3)
  .exact ay _ (ah.mpr rfl)
def TI.badd{gd:AA->Bool}{n t:Nat}{g ks:List (List Int)}{kb:List (List Int)}{L:List (AA)}{J:AA->Nat->Prop}(h:TI gd n t g ks kb L J){o:AA}(N:gd o=false):TI gd n t g ks (kb++[aA o]) L J:=
 ⟨h.sub,h.new,h.fu,λo' q=>by
  rcases a9.mp q with z|z
  .exact h.bad o' z
  .rw[j7 (ah.mp z)];exact N,h.dn⟩
def K4(gd:AA->Bool)(n:Nat)(o:AA)(G g:DH)(ks:List (List Int))(ds:AS):Prop:=(∃t,LW gd n t G g none ks ds)/\(aA o∈ks\/∀st o',GP gd n st o'->aA o'∈ks)
def pGW(a:Nat×AU×AA)(ds:AS):Prop:=ds=[au a.1 a.2.1,ao a.2.2]/\okB a.1 a.2.1/\a.2.1⁻¹<=5
def qGW(a:Nat×AU×AA)(G:DH)(d:D)(g:DH):Prop:=∃p ks ds,d=.ref p/\G p=none/\g p=-(.dct ks ds)/\Sa G g/\WI a.2.1⁻¹ ks ds/\K4 (good a.1 a.2.1) a.2.1⁻¹ a.2.2 G g ks ds
def uP:RF.Spec:=ghS (A:=Nat×AU×AA) (λa ds z=>pGW a ds) qGW
def agc{w:Nat}{rs:AU}{o:AA}{G:DH}{k:AT}{E:EK}(h:okB w rs)(q:rs⁻¹<=5)(L:∀p ks ds g,G p=none->g p=-(.dct ks ds)->Sa G g->WI rs⁻¹ ks ds->K4 (good w rs) rs⁻¹ o G g ks ds->k (.ref p) g):uP.t [au w rs,ao o] G k E:=gk (w,rs,o) ⟨rfl,h,q⟩ λd g N=>by
 let(p,ks,ds,rfl,h1,h2,z,J,q):=N;exact L p ks ds g h1 h2 z J q
def agd(Z:aj)(F:FGW Z)(a:Nat×AU×AA)(ds:AS)(G:DH)(h:pGW a ds):az Z zz noE (env0 ds 7) G (ends (qGW a G)):=by
 let(w,rs,o):=a;let(rfl,hb,h5):=h;dsimp only at hb h5 ⊢;simp_all_arith[zz];nofun;erw[F.first];show afK hb ?_;simp only[uI];intro q0 hq0 p hp;have np0:q0≠p:=λe=>by rw[<-e,bc]at hp;cases hp
 show hM _ _ (j6 hp λG1 g1 s1=>seq λM hM=>?_);have g0:G1 q0=-(stO []):=s1 _ _ bc;have hp:G p=none:=by
  cases e:G p with
  |none=>rfl
  |some o=>rw[Sa.new hq0 _ _ e]at hp;cases hp
 have s1:Sa G G1:=(Sa.new hq0).trans s1;erw[ends];intro q hq;show hM _ _ (j6 hq λG2 g2 s2=>seq λM hM=>?_);simp_arith[cG (s2 _ _ g1),<-il];have zq:G q=none:=by
  cases e:G q with
  |none=>rfl
  |some o=>rw[s1 _ _ e]at hq;cases hq
 have k0:isKey rs⁻¹ (aA (List.range rs⁻¹)):=⟨_,gI _,rfl⟩;have w0:WI rs⁻¹ [aA (List.range rs⁻¹)] [.ref q0]:=⟨c6.mpr ⟨cw,d6⟩,λk hk=>by rw[ah.mp hk];exact k0,rfl⟩;have l0:lea (good w rs) rs⁻¹ [] (List.range rs⁻¹):=⟨.nil,λv v=>cb _⟩;have wg0:LW (good w rs) rs⁻¹ 0 G G2 none [aA (List.range rs⁻¹)] [.ref q0]:=LW.add (ks:=[]) (ds:=[]) (λi k hk=>by simp at hk) rfl ⟨[],q0,rfl,s2 _ _ g0,hq0,(λe=>nomatch e),l0,av _,cb _⟩;have li0:LI (good w rs) rs⁻¹ 0 (λo=>aA o∈[aA (List.range rs⁻¹)]) (λo=>o∈[List.range rs⁻¹]):=by
  have z:∀st o,GP (good w rs) rs⁻¹ st o->st⁻¹<=0->o=List.range rs⁻¹:=λst o hg hs=>by
   rcases hg.last with⟨_,e⟩|⟨_,_,_,e,_⟩
   .exact e
   .rw[e,am,ca]at hs;lia
  exact⟨λst o hg hs=>by rw[z st o hg hs];exact ah.mpr rfl,λo ho=>by rw[ah.mp ho];exact⟨ah.mpr rfl,[],l0,rfl⟩,λst o hl hs=>by rw[z st o hl.1 (!0)];exact ah.mpr rfl⟩
 symm;simp_arith![ends];show⟨_,WhlG.inv (P:=λm Y G'=>∃ks ds kb db nw o5 o6 o7 o8,Y=[-(au w rs),-(ao o),-(.ref p),-(.ref q),-(.lst (nw.map ao)),o5,o6,o7,o8]/\GI rs⁻¹ G G' p q ks ds kb db/\nwOk rs⁻¹ ks nw/\(∃t,LW (good w rs) rs⁻¹ t G G' none ks ds/\LI (good w rs) rs⁻¹ t (λo=>aA o∈ks) (λo=>o∈nw))/\(∀o,aA o∈kb->good w rs o=false)/\m=2*(4000-ks⁻¹)+nw.length.min 1) ?_ _ _ _ ⟨_,_,_,_,[List.range rs⁻¹],_,_,_,_,rfl,⟨s2 _ _ g1,g2,d6,(λk hk=>absurd hk cw),w0,s1.trans s2,hp,zq,λe=>by rw[<-e,g1]at hq;cases hq⟩,λx hx=>⟨by rw[ah.mp hx];exact gI _,by rw[ah.mp hx];exact ah.mpr rfl⟩,⟨0,wg0,li0⟩,(λo ho=>absurd ho cw),rfl⟩⟩;rintro m Y G' ⟨ks,ds,kb,db,nw,o5,o6,o7,o8,rfl,hg,hn,⟨t,hwg,hli⟩,hbad,rfl⟩;have hend:(nw=[]\/aA o∈ks)->M [-(au w rs),-(ao o),-(.ref p),-(.ref q),-(.lst (nw.map ao)),o5,o6,o7,o8] G':=λhz=>by
  ac_nf0;erw[ends];exact⟨p,ks,ds,rfl,hp,hg.gp,hg.sa,hg.w,⟨t,hwg⟩,hz.symm.imp id λe=>hli.done λo ho=>by rw[e]at ho;exact absurd ho cw⟩
 cases nw with
 |nil=>
  erw[List.isEmpty_nil];exact hend (.inl rfl)
 |cons o1 nw=>
  simp_arith![List.isEmpty_cons,cG hg.gp,cT,n6];cases hin:(kIx ks (aA o)).isSome with
  |true=>
   simp only[Bool.not_true];exact hend (.inr (uM hin))
  |false=>
   simp only[Bool.not_false];intro kk hk;nofun;erw[ends];show λr hr=>hM _ _ (j6 hr λG3 g3 s3=>seq λM hM=>?_);let(nrp,nrq,zr):=hg.ne hr;have hwg3:LW (good w rs) rs⁻¹ (t+1) G G3 (-r) ks ds:=hwg.to (e6 _) λq' l g nr=>⟨s3 _ _ g,λe=>by rw[<-df e,hr]at g;cases g⟩;simp_arith![ends];show ForG.inv (P:=λi Y G'=>∃N ds' kb' db' fu o6 o7 o8,Y=[-(au w rs),-(ao o),-(.ref p),-(.ref q),-(.lst (ao o1::nw.map ao)),-(.ref r),o6,o7,o8]/\GI rs⁻¹ G G' p q N ds' kb' db'/\nwOk rs⁻¹ N (o1::nw)/\G' r=-(.lst (fu.map ao))/\nwOk rs⁻¹ N fu/\LW (good w rs) rs⁻¹ (t+1) G G' (-r) N ds'/\TI (good w rs) rs⁻¹ t ks N kb' fu (λo j=>∃i'<i,(o1::nw)[i']?=-o)/\N⁻¹=ks⁻¹+fu⁻¹) ⟨_,_,_,_,[],_,_,_,rfl,hg.to s3,hn,g3,(λx hx=>absurd hx cw),hwg3,⟨λv h=>h,λv h=>.inl h,(λx hx=>absurd hx cw),hbad,λo j ⟨i',hi',_⟩=>absurd hi' (Nat.not_lt_zero _)⟩,rfl⟩ (λv v v v=>trivial) ?_ ?_
   .rintro i d Y G4 hd ⟨ks4,ds4,kb4,db4,fu4,o6,o7,o8,rfl,hg4,hn4,g4,hf4,hw4,ht4,hl4⟩ kk1 hk1;obtain⟨L,hat,rfl⟩:∃L,(o1::nw)[i]?=-L/\d=ao L:=by
     have:=hd;rw[<-a7 (f:=ao),aS]at this;let(x,hx,e):=aI.mp this;exact⟨x,hx,e.symm⟩
    have hm:L∈o1::nw:=br hat;have hho:=(hn4 L hm).1;have hhl:=hho.len;simp_arith![F.steps];show last ?_;simp_arith![F.steps];show af2 (!0) ?_;simp_arith![ends];show ForG.inv (P:=λjj Y G'=>∃N ds' kb' db' fu o7 o8,Y=[-(au w rs),-(ao o),-(.ref p),-(.ref q),-(.lst (ao o1::nw.map ao)),-(.ref r),-(ao L),o7,o8]/\GI rs⁻¹ G G' p q N ds' kb' db'/\nwOk rs⁻¹ N (o1::nw)/\G' r=-(.lst (fu.map ao))/\nwOk rs⁻¹ N fu/\LW (good w rs) rs⁻¹ (t+1) G G' (-r) N ds'/\TI (good w rs) rs⁻¹ t ks N kb' fu (λo j=>(∃i'<i,(o1::nw)[i']?=-o)\/(o=L/\j<jj))/\N⁻¹=ks⁻¹+fu⁻¹) ⟨_,_,_,_,_,_,_,rfl,hg4,hn4,g4,hf4,hw4,ht4.mono (λo j v h=>h.elim .inl λz=>absurd z.2 (Nat.not_lt_zero _)),hl4⟩ (λv v v v=>trivial) ?_ ?_
    .rintro j d Y G5 hd ⟨U,ds5,kb5,db5,fu5,o7,o8,rfl,J,hn5,g5,hf5,hw5,O,hl5⟩ kk2 hk2;obtain⟨hj,rfl⟩:j+1<rs⁻¹/\d=.tup [.int (j:Int),ao (aG L j)]:=by
      unfold ik at hd;rw[aS]at hd;let(x,hx,e):=aI.mp hd;let(hx1,hx2):=ai.mp hx;rw[da]at hx1;rw[List.getElem_range]at hx2;subst hx2;exact⟨!0,e.symm⟩
     have next:(good w rs (aG L j)=true->aA (aG L j)∈U)->TI (good w rs) rs⁻¹ t ks U kb5 fu5 (λo j'=>(∃i'<i,(o1::nw)[i']?=-o)\/(o=L/\j'<j+1)):=λhz=>O.mono λo' j' v hd=>by
      rcases hd with z|⟨rfl,z⟩
      .exact .inl (.inl z)
      .by_cases e:j'=j
       .rw[e];exact .inr hz
       .exact .inl (.inr ⟨rfl,!0⟩)
     have hok:=uE hho hj;have c5:=oh h5 J.w.nd J.w.ok;have b5:=oh h5 J.bn J.bk;have ky:isKey rs⁻¹ (aA (aG L j)):=⟨_,hok,rfl⟩;simp_arith![ends];nofun;simp_arith![cG J.gp,cG J.gq,cT,j5];cases hi1:(kIx U (aA (aG L j))).isSome with
     |true=>
      erw[ends];exact hk2 _ _ ⟨_,_,_,_,_,_,_,rfl,J,hn5,g5,hf5,hw5,next (λv=>uM hi1),hl5⟩
     |false=>
      cases hi2:(kIx kb5 (aA (aG L j))).isSome with
      |true=>
       erw[ends];exact hk2 _ _ ⟨_,_,_,_,_,_,_,rfl,J,hn5,g5,hf5,hw5,next (λhz=>absurd (O.bad _ (uM hi2)) (by rw[hz];exact Bool.noConfusion)),hl5⟩
      |false=>
       have n1:=uK hi1;have n2:=uK hi2;erw[ends];ac_nf0;simp_arith![F.good];show afV hb hok ?_;cases hgd:good w rs (aG L j) with
       |true=>
        let(ix,hix):=n8 (hn5 L hm).2;have hil:ix<ds5⁻¹:=by rw[J.w.len];exact(Ky hix).1
        let(_,est,st,qs,rfl,gs,_,nrs,hst,_,hl):=hw5.has hix;simp_arith![ends];nofun;simp_arith![cG J.gp,cT,uJ];show bL hix (bL est ?_);let(lt,el,ht6):=O.add hli hm hst hj hgd n1;have es:DO.lst ((st.map λi:Nat=>D.int (i:Int))++[.int (j:Int)])=stO (st++[j]):=by unfold stO;rw[cy];rfl
        have eg:view G5 (.ref qs)=.lst (st.map λi:Nat=>D.int (i:Int)):=cj gs;erw[eg,af];rw[es];show⟨!1,by bv_omega,λqn hqn=>?_⟩;let(nqp,nqq,zqn):=J.ne hqn;have nqr:qn≠r:=λe=>by rw[e,g5]at hqn;cases hqn
        have gp5:(aL G5 qn (stO (st++[j]))) p=-(.dct U ds5):=by rw[aY nqp.symm];exact J.gp
        simp only[Ag,yJ gp5,Ah n1];show⟨by bv_omega,hM _ _ (last ?_)⟩;have gr6:(aL (aL G5 qn (stO (st++[j]))) p (.dct (U++[aA (aG L j)]) (ds5++[.ref qn]))) r=-(.lst (fu5.map ao)):=by rw[aY nrp,aY nqr.symm];exact g5
        erw[cg gr6];have hkeep:∀q' l,G5 q'=-(.lst l)->-r≠some q'->(aL (aL (aL G5 qn (stO (st++[j]))) p (.dct (U++[aA (aG L j)]) (ds5++[.ref qn]))) r (.lst (fu5.map ao++[ao (aG L j)]))) q'=-(.lst l)/\some r≠some q':=λq' l g nr=>by
         show⟨?_,nr⟩;rw[aY (λe=>nr (by rw[e])),aY (λe=>by rw[e,J.gp]at g;cases g),aY (λe=>by rw[e,hqn]at g;cases g)];exact g
        show⟨by rw[af];bv_omega,hk2 _ _ ⟨U++[aA (aG L j)],ds5++[.ref qn],kb5,db5,fu5++[aG L j],_,_,rfl,⟨by rw[aY nrp.symm,bc],by rw[aY nrq.symm,aY J.pq.symm,aY nqq.symm];exact J.gq,J.bn,J.bk,J.w.add n1 ky,((J.sa.then zqn Sb.upd).then J.zp Sb.upd).then zr Sb.upd,J.zp,J.zq,J.pq⟩,hn5.more,by rw[bc,cy];rfl,λx hx=>?_,LW.add (hw5.to (av _) hkeep) J.w.len ⟨st++[j],qn,rfl,by rw[aY nqr,aY nqp,bc],zqn,(λe=>nqr (df e).symm),lt,!0,by rw[am,ca];lia⟩,ht6.mono (λo' j' v hd=>?_),by rw[am,am];simp only[c9,hJ];lia⟩⟩;rcases a9.mp hx with z|z
        .exact hf5.more x z
        .rw[ah.mp z];exact⟨hok,ay _ (ah.mpr rfl)⟩
        .rcases hd with z|⟨rfl,z⟩
         .exact .inl (.inl (.inl z))
         .by_cases e:j'=j
          .exact .inl (.inr ⟨rfl,e⟩)
          .exact .inl (.inl (.inr ⟨rfl,!0⟩))
       |false=>
        simp_arith![ends];show last ?_;erw[Ag,yJ J.gq,Ah n2];have npq:=J.pq;show⟨by bv_omega,hk2 _ _ ⟨U,ds5,kb5++[aA (aG L j)],db5++[.bl true],fu5,_,_,rfl,⟨by rw[aY npq];exact J.gp,bc,KD J.bn n2,(λk hk=>?_),J.w,J.sa.then J.zq Sb.upd,J.zp,J.zq,J.pq⟩,hn5,by rw[aY nrq];exact g5,hf5,hw5.to (av _) (λq' l g nr=>⟨by rw[aY (λe=>by rw[e,J.gq]at g;cases g)];exact g,nr⟩),(next (λhz=>by rw[hgd]at hz;cases hz)).badd hgd,hl5⟩⟩;rcases a9.mp hk with z|z
        .exact J.bk k z
        .rw[ah.mp z];exact ky
    .rintro Y G5 ⟨U,ds5,kb5,db5,fu5,o7,o8,rfl,J,hn5,g5,hf5,hw5,O,hl5⟩;have hsl:(ik L)⁻¹=rs⁻¹-1:=by unfold ik;rw[af,da,hhl]
     show hk1 _ _ ⟨_,_,_,_,_,_,_,_,rfl,J,hn5,g5,hf5,hw5,O.mono (λo' j' hj' zZ=>?_),hl5⟩;let(i',hi',e'):=zZ;by_cases e:i'=i
     .subst e;rw[hat]at e';cases e';exact .inl (.inr ⟨rfl,!0⟩)
     .exact .inl (.inl ⟨i',!0,e'⟩)
   .rintro Y G5 ⟨U,ds5,kb5,db5,fu5,o6,o7,o8,rfl,J,hn5,g5,hf5,hw5,O,hl5⟩;ac_nf0;have c5:=oh h5 J.w.nd J.w.ok;erw[g5];show hk _ _ _ ?_ ⟨U,ds5,kb5,db5,fu5,_,_,_,_,rfl,⟨by rw[iG nrp.symm];exact J.gp,by rw[iG nrq.symm];exact J.gq,J.bn,J.bk,J.w,J.sa.frz zr,J.zp,J.zq,J.pq⟩,hf5,⟨t+1,hw5.to (av _) (λq' l g nr=>⟨by rw[iG (λe=>nr (by rw[e]))];exact g,λe=>nomatch e⟩),hli.next (λo' ho'=>O.sub _ ho') ?_ O.fu O.new (λo' ho'=>?_)⟩,O.bad,rfl⟩;rotate_left
    .intro o' j hB hj hgd;let(i',hi',e'):=dA.mp hB;exact O.dn o' j ⟨i',!!hi',by rw[al hi',e']⟩ hj hgd
    .let(st,h1,h2):=hwg.of ho';exact⟨st,h1.1,h2⟩
    rw[hl5];have e1:(nw⁻¹+1).min 1=1:=gc (!0);rw[e1];cases fu5 with
    |nil=>rw[hJ];change _+0<_;lia
    |cons x y=>
     have e2:(x::y).length.min 1=1:=gc (by rw[c9];lia);rw[e2];rw[hl5]at c5;rw[c9]at c5 ⊢;lia
def j8:AA:=[119,97,121]
def oE:AA:=[97,112,97,114,116]
structure apQ(w:Nat)(rs:AU)(o:AA)(os:List (AA)):Prop where
 nd:os.Nodup
 ok:∀x∈os,okO rs.length x
 fst:List.range rs.length∈os
 no:o∉os
 len:os.length<=120
 cl:∀x∈os,∀j,j+1 < rs.length->good w rs (aG x j)=true->aG x j∈os
structure okWay(a:Nat×AU×AA):Prop where
 b:okB a.1 a.2.1
 o:okO a.2.1.length a.2.2
 w4:a.1<=4
 r5:a.2.1.length<=5
def Al(w:Nat)(rs:AU)(o:AA)(G:DH)(d:D)(g:DH):Prop:=∃q,G q=none/\((∃st,d=.tup [.str j8,.ref q]/\g q=-(stO st)/\lea (good w rs) rs⁻¹ st o/\st⁻¹<=120)\/(∃os,d=.tup [.str oE,.ref q]/\g q=-(.lst (os.map ao))/\apQ w rs o os/\∀st,¬GP (good w rs) rs⁻¹ st o))
def uQ:RF.Spec:=ghS (A:=Nat×AU×AA) (λa ds z=>ds=[au a.1 a.2.1,ao a.2.2]/\okWay a) (λa G d g=>Sa G g/\Al a.1 a.2.1 a.2.2 G d g)
def age{w:Nat}{rs:AU}{o:AA}{G:DH}{k:AT}{E:EK}(h:okWay (w,rs,o))(z:∀d g,Sa G g->Al w rs o G d g->k d g):uQ.t [au w rs,ao o] G k E:=gk (w,rs,o) ⟨rfl,h⟩ λd g q=>z d g q.1 q.2
def agf{G g:DH}{p:AQ}(s:Sa G g)(h:g p=none):G p=none:=by
 cases e:G p with
 |none=>rfl
 |some o=>rw[s _ _ e]at h;cases h
structure FWay(Z:aj):Prop where
 mov:Z "need_movable"=uC
 need:Z "need_order"=nZ
 gw:Z "good_ways"=uP
def agg(Z:aj)(F:FWay Z)(a:Nat×AU×AA)(ds:AS)(G:DH)(h:ds=[au a.1 a.2.1,ao a.2.2]/\okWay a):az Z zA noE (env0 ds 1) G (ends λd U=>Sa G U/\Al a.1 a.2.1 a.2.2 G d U):=by
 let(w,rs,o):=a;let(rfl,N,ho,h4,L):=h;dsimp only at N ho h4 L ⊢;simp_all_arith[zA];nofun;erw[F.mov];show afR N h4 L (hM _ _ (seq λM hM=>?_));erw[F.need];show Kq N ho (hM _ _ (seq λM hM=>?_));erw[F.gw];show agc N L λp ks ds U hp gp sa O wq=>hM _ _ (seq λM hM=>?_);let((t,wg),hcl):=wq;have hl:=oh L O.nd O.ok;simp_arith![cG gp,cT,j5];cases hi:kIx ks (aA o) with
 |some i=>
  let(d,Y,st,q,rfl,gq,zq,_,J,_,hsl):=wg.has hi;erw[Option.isSome_some,cG gp,cT,uJ,hi];exact bL Y ⟨!1,sa,q,zq,.inl ⟨st,rfl,gq,J,!0⟩⟩
 |none=>
  erw[Option.isSome_none];ac_nf0;erw[cG gp];intro q hq;have z:aA o∉ks:=uK (by rw[hi];rfl);have g:=hcl.resolve_left z;let(os,rfl,hos):=KH O.ok;rw[af]at hl;show⟨!1,sa.trans (Sa.new hq),q,agf sa hq,.inr ⟨os,rfl,?_,⟨af6 O.nd,hos,ou (g _ _ .nil),λhm=>z (bi.mpr ⟨o,hm,rfl⟩),hl,λx hx j hj hg=>?_⟩,λst hg=>z (g _ _ hg)⟩⟩
  .rw[bc,<-KR];rfl
  .let(st,J,_):=wg.of (bi.mpr ⟨x,hx,rfl⟩);exact ou (g _ _ (.snoc J.1 hj hg))
def dN(ls:AA):AS:=ls.map λi:Nat=>D.int (i:Int)
structure GT(n:Nat)(G0 G':DH)(p q:AQ)(os:List (AA))(ls:AA):Prop where
 gq:G' q=some (.lst (os.map ao))
 gp:G' p=some (.dct (os.map aA) (dN ls))
 nd:os.Nodup
 ok:∀o∈os,okO n o
 sa:Sa G0 G'
 zp:G0 p=none
 zq:G0 q=none
 pq:p≠q
def GT.to{n:Nat}{G0 G1 G2:DH}{p q:AQ}{os:List (AA)}{ls:AA}(h:GT n G0 G1 p q os ls)(s:Sa G1 G2):GT n G0 G2 p q os ls:=⟨s _ _ h.gq,s _ _ h.gp,h.nd,h.ok,h.sa.trans s,h.zp,h.zq,h.pq⟩
structure GS(gd:AA->Bool)(n:Nat)(os:List (AA))(ls:AA):Prop where
 nd:os.Nodup
 ok:∀o∈os,okO n o
 lea:∀(i:Nat)(o:AA),os[i]?=some o->∃st,RF.lea gd n st o/\ls[i]?=some st.length
 all:∀st o,GP gd n st o->o∈os
 fst:os[0]?=some (List.range n)
def qGT(a:Nat×AU)(G:DH)(d:D)(g:DH):Prop:=∃p os ls,d=.ref p/\g p=-(.dct (os.map aA) (dN ls))/\Sa G g/\GS (good a.1 a.2) a.2⁻¹ os ls
def sGT:RF.Spec:=ghS (A:=Nat×AU) (λa ds z=>ds=[au a.1 a.2]/\okB a.1 a.2/\a.2⁻¹<=5) qGT
def agh{w:Nat}{rs:AU}{G:DH}{k:AT}{E:EK}(h:okB w rs)(z:rs⁻¹<=5)(J:∀p os ls g,g p=-(.dct (os.map aA) (dN ls))->Sa G g->GS (good w rs) rs⁻¹ os ls->k (.ref p) g):sGT.t [au w rs] G k E:=gk (w,rs) ⟨rfl,h,z⟩ λd g L=>by
 let(p,os,ls,rfl,h1,h2,q):=L;exact J p os ls g h1 h2 q
def K5{os:List (AA)}{i:Nat}{o:AA}(nd:os.Nodup)(h:os[i]?=-o):kIx (os.map aA) (aA o)=-i:=by
 let(k,g):=n8 (bi.mpr ⟨o,br h,rfl⟩);rw[g];unfold kIx at g;let(hl,z,_):=cS.mp g;have e:=dv z;rw[List.getElem_map]at e;have e:=j7 e;let(hi,q):=ai.mp h;rw[af]at hl;congr 1;have e:=e.trans q.symm;have pw:=List.pairwise_iff_getElem.mp nd;rcases Nat.lt_trichotomy k i with c|c|c
 .exact absurd e (pw k i hl hi c)
 .exact c
 .exact absurd e.symm (pw i k hi hl c)
structure FGT(Z:aj):Prop where
 alld:Z "_law_all_deeds"=oA
 stp:Z "_law_stepped"=gA
 by_:Z "_law_by"=sBy
def agi(Z:aj)(F:FGT Z)(a:Nat×AU)(ds:AS)(G:DH)(h:ds=[au a.1 a.2]/\okB a.1 a.2/\a.2⁻¹<=5):az Z zm noE (env0 ds 6) G (ends (qGT (a.1,a.2) G)):=by
 let(w,rs):=a;let(rfl,hb,h5):=h;dsimp only at hb h5 ⊢;have e0:D.tup [.int w,.tup (rs.map aN)]=au w rs:=rfl;simp_all_arith[zm];nofun;erw[F.alld];show uO hb λG1 s1=>hM _ _ (seq λM hM=>?_);erw[au,af,bq];rw[jf];show⟨⟨!0,!0⟩,by bv_omega,λq hq=>hM _ _ (j6 hq λG2 g2 s2=>seq λM hM=>?_)⟩;have zq:G q=none:=by
  cases e:G q with
  |none=>rfl
  |some o=>rw[s1 _ _ e]at hq;cases hq
 erw[cj g2,uI];intro p hp;have zp:G p=none:=by
  cases e:G p with
  |none=>rfl
  |some o=>rw[s2 _ _ (s1 _ _ e)]at hp;cases hp
 have hpq:p≠q:=λe=>by rw[e,g2]at hp;cases hp
 show hM _ _ (j6 hp λG3 g3 s3=>seq λM hM=>?_);erw[ends];symm;rw[e0];simp_arith![ends];show⟨_,WhlG.inv (P:=λm Y G'=>∃os ls J o5 o6,Y=[-(au w rs),-(.lst (dls w rs)),-(.ref q),-(.ref p),-(.int (J:Nat)),o5,o6]/\GT rs⁻¹ G G' p q os ls/\BQ (good w rs) rs⁻¹ J (λy=>False) os ls/\J<=os⁻¹/\m=121-J) ?_ _ _ _ ⟨[List.range rs⁻¹],[0],0,_,_,rfl,⟨s3 _ _ g2,g3,c6.mpr ⟨cw,d6⟩,λo U=>by rw[ah.mp U];exact gI _,(s1.trans s2).trans s3,zp,zq,hpq⟩,BQ.init _ _,cb _,rfl⟩⟩;rintro m Y G' ⟨os,ls,J,o5,o6,rfl,L,N,hat,rfl⟩;have hmn:=Ai h5 L.nd L.ok;simp_arith![cj L.gq,af];by_cases hlt:J<os⁻¹
 .simp only[b9 (show(J:Int)<(os⁻¹:Int) by lia)];intro kk hk;have g:os[J]?=-os[J]:=al hlt;have hoa:=L.ok _ (c8 hlt);have hla:=hoa.len;generalize os[J]=here at g hoa hla;have O:atI (os.map ao) (J:Int)=-(ao here):=bW (by rw[aS,g];rfl);nofun;have ed:ao here=.tup (here.map λi:Nat=>D.int (i:Int)):=rfl;have e1:((rs⁻¹:Int)-1).toNat=rs⁻¹-1:=by lia
  simp_arith![cj L.gq,O,gj];rw[ed];simp_arith![af,hla,e1];show⟨!0,ForG.inv (P:=λi Y G'=>∃os ls o5 o6,Y=[-(au w rs),-(.lst (dls w rs)),-(.ref q),-(.ref p),-(.int (J:Nat)),o5,o6]/\GT rs⁻¹ G G' p q os ls/\BQ (good w rs) rs⁻¹ J (λj=>j<i) os ls/\os[J]?=-here) ⟨_,_,_,_,rfl,L,N.mono (λy y j h=>absurd h (Nat.not_lt_zero _)),g⟩ (λy y y y=>trivial) ?_ ?_⟩
  .rintro j d Y G4 hd ⟨os,ls,o5,o6,rfl,L,N,g⟩ kk1 hk1;obtain⟨hj,rfl⟩:j+1<rs⁻¹/\d=.int (j:Int):=by
    unfold aX at hd;rw[aS]at hd;let(x,hx,e):=aI.mp hd;let(hx1,hx2):=ai.mp hx;rw[da]at hx1;rw[List.getElem_range]at hx2;subst hx2;exact⟨!0,by rw[<-e,gL]⟩
   have O:atI (os.map ao) (J:Int)=-(ao here):=bW (by rw[aS,g];rfl);have hok:=uE hoa hj;have next:(good w rs (aG here j)=true->aG here j∈os)->BQ (good w rs) rs⁻¹ J (λj'=>j'<j+1) os ls:=λhz=>N.mono λo U j' h1 h2 h3=>by
    by_cases e:j'=j
    .subst e;rw[g]at U;cases U;exact hz h3
    .exact N.cur o U j' (show j'<j by lia) h2 h3
   have hmn:=Ai h5 L.nd L.ok;simp_arith![ends];nofun;simp_arith![cj L.gq,O,gj,F.stp];show uF (!0) (!0) (hM _ _ (last ?_));simp_arith![cG L.gp,cT,n6];cases hin:(kIx (os.map aA) (aA (aG here j))).isSome with
   |true=>
    erw[ends];exact hk1 _ _ ⟨_,_,_,_,rfl,L,next (λy=>ou (uM hin)),g⟩
   |false=>
    have hn:=uK hin;have hno:aG here j∉os:=λhm=>hn (bi.mpr ⟨_,hm,rfl⟩);simp_arith![F.by_,F.alld];show Ae hb hok (uO (Ad hb hok) λG5 s5=>?_);have L:=L.to s5;let(n1,d1):=uN w rs;let(n2,d2):=uN w (byR rs (aG here j));have hls:=N.len;obtain⟨x,hx⟩:∃x,ls[J]?=-x:=⟨_,al (by have:=(ai.mp g).1;lia)⟩;have hix:kIx (os.map aA) (aA here)=-J:=K5 L.nd g;have hdx:(dN ls)[J]?=-(.int (x:Int)):=by unfold dN;rw[aS,hx];rfl
    simp_arith![KY,view];show⟨⟨n2,n1,by rw[d1,d2];decide⟩,?_⟩;cases hgd:(dz w rs (byR rs (aG here j))).isEmpty with
    |false=>
     erw[ends];exact hk1 _ _ ⟨_,_,_,_,rfl,L,next (λh=>by rw[show good w rs (aG here j)=false from hgd]at h;cases h),g⟩
    |true=>
     simp_arith![ends];nofun;erw[cj L.gq,cG L.gp,O,gj,cT,uJ,hix,hdx,Ag,yJ L.gp,Ah hn,af];show⟨by bv_omega,hM _ _ (last ?_)⟩;have npq:=L.pq;have e1:(x:Int)+1=((x+1:Nat):Int):=rfl;rw[e1];have gq6:(aL G5 p (.dct (os.map aA++[aA (aG here j)]) (dN ls++[.int ((x+1:Nat):Int)]))) q=-(.lst (os.map ao)):=by rw[aY npq.symm];exact L.gq
     erw[cg gq6];show⟨by rw[af];bv_omega,hk1 _ _ ⟨os++[aG here j],ls++[x+1],_,_,rfl,⟨by rw[bc,cy];rfl,by rw[aY npq,bc,cy];unfold dN;rw[cy];rfl,?_,λo U=>?_,(L.sa.then L.zp Sb.upd).then L.zq Sb.upd,L.zp,L.zq,L.pq⟩,(N.add g hx hj hgd hno).mono (λo U j' h1 h2 h3=>(N.add g hx hj hgd hno).cur o U j' (show j'<j\/j'=j by lia) h2 h3),?_⟩⟩
     .rw[List.nodup_append];exact⟨L.nd,c6.mpr ⟨cw,d6⟩,λa ha b hb e=>hno (by rw[<-ah.mp hb,<-e];exact ha)⟩
     .rcases a9.mp U with z|z
      .exact L.ok o z
      .rw[ah.mp z];exact hok
     .rw[b4 (ai.mp g).1];exact g
  .rintro Y G4 ⟨os,ls,o5,o6,rfl,L,N,g⟩;ac_nf0;erw[ends];have:=(ai.mp g).1;exact hk _ _ _ (!0) ⟨os,ls,J+1,_,_,rfl,L,N.next this (λj hj=>by change j<(aX 0 (rs⁻¹-1))⁻¹;unfold aX;rw[af,da];lia),!0,rfl⟩
 .simp only[bX (show¬(J:Int)<(os⁻¹:Int) by lia)];ac_nf0;erw[ends];exact⟨p,os,ls,rfl,L.gp,L.sa,L.nd,L.ok,N.lea,λst o h=>N.all (!0) h,N.fst⟩
structure W34 where
 w:Nat
 rs:AU
 o:AA
 st:AA
 os:List (AA)
 ls:AA
 p:AQ
 q:AQ
structure okW34(a:W34)(G:DH):Prop where
 r5:a.rs.length<=5
 gp:G a.p=some (.dct (a.os.map aA) (dN a.ls))
 gq:G a.q=some (stO a.st)
 lea:RF.lea (good a.w a.rs) a.rs.length a.st a.o
 gs:GS (good a.w a.rs) a.rs.length a.os a.ls
 sl:a.st.length<=120
def sWR:RF.Spec:=ghS (A:=W34) (λa ds G=>ds=[.ref a.p,ao a.o,.ref a.q]/\okW34 a G) (λz G d g=>g=G/\d=.bl true)
def agj{w:Nat}{rs:AU}{o st:AA}{os:List (AA)}{ls:AA}{p q:AQ}{G:DH}{k:AT}{E:EK}(h:okW34 ⟨w,rs,o,st,os,ls,p,q⟩ G)(g:k (.bl true) G):sWR.t [.ref p,ao o,.ref q] G k E:=gk (⟨w,rs,o,st,os,ls,p,q⟩:W34) ⟨rfl,h⟩ λd J z=>by
 let(rfl,rfl):=z;exact g
def agk (Z:aj) (h1:Z "_law_is_whole"=aU d9) (h2:Z "_law_stepped"=gA) (a:W34) (ds:AS) (G:DH) (h:ds=[.ref a.p,ao a.o,.ref a.q]/\okW34 a G):az Z zy noE (env0 ds 2) G (ends λd g=>g=G/\d=.bl true):=by
 let(w,rs,o,st,os,ls,p,q):=a;let(rfl,h5,gp,O,hl,z,sl):=h;dsimp only at h5 gp O hl z sl ⊢;have ho:=hl.1.ok;have J:=ho.len;have N:ao o=.tup (o.map λi:Nat=>D.int (i:Int)):=rfl;simp_all_arith[zy];nofun;simp_arith![ends];rw[N];simp_arith![af,J,bq];rw[<-N,jf];show⟨⟨!0,!0⟩,hM _ _ (seq λM hM=>?_)⟩;simp_arith![itemsOf,O,stO];show ForG.inv (P:=λi Y g=>(∃o4,Y=[-(.ref p),-(ao o),-(.ref q),-(ao (wlk rs⁻¹ (st.take i))),o4])/\g=G) ⟨⟨_,rfl⟩,rfl⟩ ?_ ?_ ?_
 .rintro _ _ _ ⟨_,rfl⟩;exact⟨O,trivial⟩
 .rintro i d Y g hd ⟨⟨o4,rfl⟩,rfl⟩ kk hk;rw[aS]at hd;let(j,hj,rfl):=aI.mp hd;have hjm:=hl.1.mem j (br hj);have hgi:=hl.1.take i;have hgn:=hl.1.take (i+1);have hlen:=hgi.ok.len;have U:wlk rs⁻¹ (st.take (i+1))=aG (wlk rs⁻¹ (st.take i)) j:=by
   rw[eR,hj];unfold wlk;rw[fN];rfl
  simp_arith![ends];nofun;simp_arith![h1];show dW (d:=.bl true) rfl ?_;rw[N];simp_arith![af,J,bX (show¬(j:Int)<0 by lia),bX (show¬(rs⁻¹:Int)-2<(j:Int) by lia)];rw[<-N];symm;simp_arith![h2];show uF (!0) (!0) (hM _ _ (last ?_));rw[<-U];have hin:=z.all _ _ hgn;simp_arith![cG gp,cT,n6,KQ (bi.mpr ⟨_,hin,rfl⟩)];exact hk _ _ ⟨⟨_,rfl⟩,rfl⟩
 .rintro Y g ⟨⟨o4,rfl⟩,rfl⟩;rw[af,eK,<-hl.1.wlk];ac_nf0;let(i,hi,e):=dA.mp (z.all _ _ hl.1);have e:os[i]?=-o:=by rw[al hi,e]
  let(s,l1,l2):=z.lea i o e;have es:s⁻¹=st⁻¹:=Nat.le_antisymm (l1.2 _ hl.1) (hl.2 _ l1.1);have hdx:(dN ls)[i]?=-(.int (st⁻¹:Int)):=by unfold dN;rw[aS,l2,es];rfl
  have eg:view g (.ref q)=.lst (st.map λi:Nat=>D.int (i:Int)):=cj O;have L:=nY o;simp_arith![cT,Aj,decide_true,eg,cG gp,uJ,K5 z.nd e,gj,hdx,af];exact⟨⟨L.1,L.1,!0⟩,by rw[BEq.rfl]⟩
def uR:RF.Spec:=bM (A:=Nat×AA) (λa=>[ao a.2,.int (a.1:Nat)]) (λa=>okO a.1 a.2/\a.1<=12) (λz=>.bl true)
def agl{n:Nat}{o:AA}{G:DH}{k:AT}{E:EK}(h:okO n o)(hn:n<=12)(g:k (.bl true) G):uR.t [ao o,.int (n:Nat)] G k E:=bZ (n,o) rfl ⟨h,hn⟩ g
def agm (Z:aj) (h1:Z "_law_is_whole"=aU d9) (a:Nat×AA) (G:DH) (h:okO a.1 a.2/\a.1<=12):az Z yU noE (env0 [ao a.2,.int (a.1:Nat)] 0) G (ends λd J=>J=G/\d=.bl true):=by
 let(n,o):=a;let(z,hn):=h;dsimp only at z hn ⊢;have U:=z.len;rw[il];simp_all_arith[yU];nofun;simp_arith![h1];show CompG.map (f:=λy=>.bl true) (I:=λY=>∃x,Y=[x]) ⟨_,rfl⟩ trivial (by rw[af];unfold aA;rw[af];bv_omega) ?_ ?_
 .rintro d Y N ⟨x,rfl⟩ kk O;let(i,_,rfl):=bi.mp N;simp_arith![h1];exact dW (d:=.bl true) rfl (O _ ⟨_,rfl⟩)
 .have L:∀m:AS,(m.map λy=>true).all id=true:=λm=>by induction m with|nil=>rfl|cons _ _ ih=>rw[a7,List.all_cons,ih];rfl
  simp_arith![my,L];ac_nf0;simp_arith![bq];show bL (jg _) ⟨by unfold aA;rw[af];lia,λns hp hs=>⟨⟨!0,!0⟩,?_⟩⟩;have q:=ig ns;have g:=ig (aA (List.range n));rw[Aa];show⟨⟨q.1,g.1,cf (Nat.min_le_right _ _) (by rw[g.2];decide)⟩,?_⟩;rw[uA,Ko hn hp hs,Km z]
structure P34 where
 w:Nat
 rs:AU
 o:AA
 os:List (AA)
 q:AQ
structure okP34(a:P34)(G:DH):Prop where
 b:okB a.w a.rs
 r5:a.rs.length<=5
 gq:G a.q=some (.lst (a.os.map ao))
 ap:apQ a.w a.rs a.o a.os
def sAR:RF.Spec:=ghS (A:=P34) (λa ds G=>ds=[au a.w a.rs,ao a.o,.ref a.q]/\okP34 a G) (λz G d g=>Sa G g/\d=.bl true)
def agn{w:Nat}{rs:AU}{o:AA}{os:List (AA)}{q:AQ}{G:DH}{k:AT}{E:EK}(h:okP34 ⟨w,rs,o,os,q⟩ G)(z:∀g,Sa G g->k (.bl true) g):sAR.t [au w rs,ao o,.ref q] G k E:=gk (⟨w,rs,o,os,q⟩:P34) ⟨rfl,h⟩ λd g J=>by
 let(s,rfl):=J;exact z g s
structure FAR(Z:aj):Prop where
 num:Z "_law_is_numbers"=uR
 alld:Z "_law_all_deeds"=oA
 stp:Z "_law_stepped"=gA
 by_:Z "_law_by"=sBy
def ago(Z:aj)(F:FAR Z)(a:P34)(ds:AS)(G:DH)(h:ds=[au a.w a.rs,ao a.o,.ref a.q]/\okP34 a G):az Z yV noE (env0 ds 5) G (ends λd g=>Sa G g/\d=.bl true):=by
 let(w,rs,o,os,q):=a;let(rfl,hb,h5,gq,z):=h;dsimp only at hb h5 gq z ⊢;have hln:=z.len;have e0:D.tup [.int w,.tup (rs.map aN)]=au w rs:=rfl;let(n1,d1):=agb os;have eg:view G (.ref q)=.lst (os.map ao):=cj gq;simp_all_arith[yV];nofun;erw[au,af];rw[e0];symm;simp_arith![eg,F.num,itemsOf,gq];show CompG.inv (P:=λi L Y g=>(∃x,Y=[x,-(.int (rs⁻¹:Nat))])/\g=G/\L=List.replicate i (.bl true)) ⟨⟨_,rfl⟩,rfl,rfl⟩ ?_ (by rw[af];bv_omega) ?_ ?_
 .rintro _ _ _ _ ⟨_,rfl,_⟩;exact⟨gq,trivial⟩
 .rintro i d L Y g J ⟨⟨x,rfl⟩,rfl,rfl⟩ kk hk;let(y,hy,rfl):=bi.mp (br J);simp_arith![F.num];exact agl (z.ok y hy) (!0) (hk _ _ _ ⟨⟨_,rfl⟩,rfl,by rw[List.replicate_succ'];rfl⟩)
 rintro L Y g ⟨⟨x,rfl⟩,rfl,rfl⟩;have er:∀n:Nat,List.replicate n (D.bl true)=(List.replicate n true).map D.bl:=λn=>by rw[List.map_replicate]
 have ea:∀n:Nat,(List.replicate n true).all id=true:=λn=>by rw[List.all_replicate];simp
 have eb:∀l:List Bool,bools (l.map D.bl)=-l:=λl=>by
  have:=my (λb:Bool=>b) l;rwa [List.map_id']at this
 rw[er,eb];simp_arith![gj,ea];symm;simp_arith![eg,af7,gj,af,Ak,cT,af8 (KN z.nd),bX (show¬(os⁻¹:Int)<(os⁻¹:Int) by lia),bX z.no,bq];rw[jf];simp only[Ak,b9 z.fst,Bool.not_true];have hrn:nrs (aX 0 rs⁻¹)=true:=by rw[Aa];exact(ig _).1
 show⟨!0,⟨(nY o).1,n1,!0⟩,⟨!0,!0⟩,⟨hrn,n1,!0⟩,?_⟩;symm;erw[F.alld];show uO hb λG1 s1=>hM _ _ (seq λM hM=>?_);let(m1,b1):=uN w rs;have N:=s1 _ _ gq;have e1:((rs⁻¹:Int)-1).toNat=rs⁻¹-1:=by lia
 simp_arith![itemsOf,N];show ForG.inv (P:=λi Y g=>∃o5 U o7,Y=[-(au w rs),-(ao o),-(.ref q),-(.int (rs⁻¹:Nat)),-(.lst (dls w rs)),o5,U,o7]/\Sa G1 g) ⟨_,_,_,rfl,λv v h=>h⟩ ?_ ?_ ?_
 .rintro _ _ _ ⟨_,_,_,_,s⟩;exact⟨s _ _ N,trivial⟩
 .rintro i d Y G2 J ⟨o5,U,o7,rfl,s2⟩ kk hk;rw[aS]at J;let(x,hx,rfl):=aI.mp J;have hxm:=br hx;have hxo:=z.ok x hxm;have hxl:=hxo.len;simp_arith![ends];show last ?_;simp_arith![e1];show⟨!0,ForG.inv (P:=λj Y g=>∃U o7,Y=[-(au w rs),-(ao o),-(.ref q),-(.int (rs⁻¹:Nat)),-(.lst (dls w rs)),-(ao x),U,o7]/\Sa G1 g) ⟨_,_,rfl,s2⟩ (λv v v v=>trivial) ?_ ?_⟩
  .rintro j d Y G3 J ⟨U,o7,rfl,s3⟩ kk1 hk1;obtain⟨hj,rfl⟩:j+1<rs⁻¹/\d=.int (j:Int):=by
    unfold aX at J;rw[aS]at J;let(x,hx,e):=aI.mp J;let(hx1,hx2):=ai.mp hx;rw[da]at hx1;rw[List.getElem_range]at hx2;subst hx2;exact⟨!0,by rw[<-e,gL]⟩
   have hok:=uE hxo hj;have eg3:view G3 (.ref q)=.lst (os.map ao):=cj (s3 _ _ N);simp_arith![ends];nofun;simp_arith![F.stp];show uF (!0) (!0) (hM _ _ (last ?_));simp_arith![cT,eg3,Ak];show⟨⟨(nY _).1,n1,!0⟩,?_⟩;by_cases O:aG x j∈os
   .erw[b9 O];exact hk1 _ _ ⟨_,_,rfl,s3⟩
   .simp_arith![bX O,F.by_,F.alld];show Ae hb hok (uO (Ad hb hok) λG4 s4=>?_);let(m2,b2):=uN w (byR rs (aG x j));simp_arith![KY,view];show⟨⟨m2,m1,by rw[b1,b2];decide⟩,?_⟩;cases hgd:(dz w rs (byR rs (aG x j))).isEmpty with
    |false=>
     erw[ends];exact hk1 _ _ ⟨_,_,rfl,s3.trans s4⟩
    |true=>exact absurd (z.cl x hxm j hj hgd) O
  .rintro Y G3 ⟨U,o7,rfl,s3⟩;exact hk _ _ ⟨_,_,_,rfl,s3⟩
 .rintro Y G2 ⟨o5,U,o7,rfl,s2⟩;ac_nf0;erw[ends];exact s1.trans s2
structure F34(Z:aj):Prop where
 opn:Z "_law_open"=zG
 anew:Z "_law_anew"=t8
 book:Z "_law_book"=ue
 gt:Z "_law_good_orders"=sGT
 order:Z "_law_order"=uG
 take:Z "_law_take"=d8
 way:Z "way"=uQ
 wr:Z "_law_way_right"=sWR
 ar:Z "_law_apart_right"=sAR
def agp(Z:aj)(F:F34 Z)(ds:AS)(G:DH)(h:∃ns:List Int,ds=[.scr ns]/\ns⁻¹<=63):az Z zB noE (env0 ds 7) G (ends λd y=>d=.bl true):=by
 let(ns,rfl,hl):=h;simp_all_arith[zB];nofun;erw[F.opn];show cF ⟨ns,rfl,hl⟩ λd' G1 hx=>?_;let(p,e1,_,hp,_):=hx;subst e1;symm;simp_arith![ends];show⟨!1,ForG.inv (P:=λi Y G'=>(∃o2 o3 o4 o5 o6 o7,Y=[-(.scr ns),-(.ref p),o2,o3,o4,o5,o6,o7])/\Pen G' p) ⟨⟨_,_,_,_,_,_,rfl⟩,hp⟩ (λy y y y=>trivial) ?_ ?_⟩
 .rintro i d Y G2 hd ⟨⟨o2,o3,o4,o5,o6,o7,rfl⟩,hp2⟩ kk hk;obtain⟨hi,rfl⟩:i<2/\d=.int (i:Int):=by
   unfold aX at hd;rw[aS]at hd;let(x,hx,e):=aI.mp hd;let(hx1,hx2):=ai.mp hx;rw[da]at hx1;rw[List.getElem_range]at hx2;subst hx2;exact⟨hx1,by rw[<-e,gL]⟩
  simp_arith![ends];nofun;simp_arith![F.anew,F.book];show aeJ hp2 λG3 hp3 y=>?_;have hwm:∃m5:Nat,atI [D.int 5,D.int 4] (i:Int)=-(.int (m5:Nat))/\m5<=5:=by
   rcases(show i=0\/i=1 by lia) with rfl|rfl
   .exact ⟨5,rfl,!1⟩
   .exact ⟨4,rfl,!1⟩
  let(m5,em,hm5):=hwm;rw[em];simp only[gj];show⟨by bv_omega,ael (w:=4) hp3 (!1) (!1) (!0) λw rs G4 hb hw hrs hp4 y=>hM _ _ (seq λM hM=>?_)⟩;have e0:au w rs=.tup [.int w,.tup (rs.map aN)]:=rfl;erw[F.gt];show agh hb (!0) λq os ls G5 gq s5 O=>hM _ _ (seq λM hM=>?_);have hp5:=hp4.sa s5;have hqp:q≠p:=λe=>by
   let(_,_,_,e2,_):=hp5;rw[e,e2]at gq;cases gq
  have hmn:=Ai (!0) O.nd O.ok;have hne:1<=os⁻¹:=(ai.mp O.fst).1;have hod:(os.map aA).map (λn:List Int=>D.tup (n.map .int))=os.map ao:=KR os;simp_arith![F.take,e0,cG gq,hod,af,bq];rw[<-e0,jf];show⟨⟨!0,!0⟩,cZ hp5 (!0) (!0) λm G6 hm hp6 s6=>?_⟩;have hml:m<os⁻¹:=by lia
  have hom:=O.ok _ (c8 hml);simp_arith![ends];show bL (a:=ao os[m]) (bW (by rw[aS,al hml];rfl)) ⟨by bv_omega,λr L=>hM _ _ ?_⟩;generalize os[m]=om at hom;have hrp:r≠p:=(hp6.ne L).symm;have hrq:r≠q:=λe=>by rw[e,s6 _ _ gq hqp]at L;cases L
  show j6 L λG7 g7 s7=>seq λM hM=>?_;have gq7:=s7 _ _ (s6 _ _ gq hqp);have hp7:=hp6.sa s7;simp_arith![F.order,e0,af,Jo];rw[<-e0];show⟨by rw[cg g7];trivial,af0 hp7 (!0) λo1 G8 ho1 hp8 s8=>?_⟩;have g8:=s8 _ _ g7 hrp;have gq8:=s8 _ _ gq7 hqp;rw[cg g8];show⟨by change(2:Nat)<1000000;decide,hM _ _ (last ?_)⟩;have hp9:Pen (aL G8 r (.lst ([ao (List.range rs⁻¹),ao om]++[ao o1]))) p:=hp8.sb Sb.upd hrp.symm;have gq9:(aL G8 r (.lst ([ao (List.range rs⁻¹),ao om]++[ao o1]))) q=-(.dct (os.map aA) (dN ls)):=by rw[aY hrq.symm];exact gq8
  have eg9:view (aL G8 r (.lst ([ao (List.range rs⁻¹),ao om]++[ao o1]))) (.ref r)=.lst [ao (List.range rs⁻¹),ao om,ao o1]:=cj bc;generalize aL G8 r (.lst ([ao (List.range rs⁻¹),ao om]++[ao o1]))=G9 at hp9 gq9 eg9;have ec:cut [ao (List.range rs⁻¹),ao om,ao o1] (-(Neg.neg 1)) none=[ao o1]:=rfl;simp_arith![eg9,ec];show⟨by change(4:Nat)<=1000000;decide,ForG.inv (P:=λi' Y G'=>(∃o6 o7,Y=[-(.scr ns),-(.ref p),-(.int (i:Int)),-(au w rs),-(.ref q),-(.ref r),o6,o7])/\Pen G' p/\G' q=-(.dct (os.map aA) (dN ls))) ⟨⟨_,_,rfl⟩,hp9,gq9⟩ (λy y y y=>trivial) ?_ ?_⟩
  .rintro j d Y Ga hd ⟨⟨o6,o7,rfl⟩,J,N⟩ kk1 hk1;obtain⟨o,ho,rfl⟩:∃o,okO rs⁻¹ o/\d=ao o:=by
    have:=br hd;simp only[bP,cw,or_false]at this;rcases this with rfl|rfl|rfl|rfl
    .exact ⟨_,gI _,rfl⟩
    .exact ⟨_,hom,rfl⟩
    .exact ⟨_,ho1,rfl⟩
    .exact ⟨_,ho1,rfl⟩
   simp_arith![ends];nofun;simp_arith![F.way];show age ⟨hb,ho,hw,show rs⁻¹<=5 by lia⟩ λd Gb sb L=>hM _ _ (seq λM hM=>?_);have hpb:=J.sa sb;have g:=sb _ _ N;let(z,hz,L):=L;have nzp:z≠p:=(J.ne hz).symm;have nzq:z≠q:=λe=>by rw[e,N]at hz;cases hz
   rcases L with⟨st,rfl,U,hst,hsl⟩|⟨zs,rfl,U,hap,hno⟩
   .have hin:=O.all _ _ hst.1;have ez:view Gb (.ref z)=.lst (st.map λi:Nat=>D.int (i:Int)):=cj U;have ki:(kIx (os.map aA) (aA o)).isSome=true:=KQ (bi.mpr ⟨_,hin,rfl⟩);simp_arith![ez];symm;have ew:((j8==[119,97,121]):Bool)=true:=rfl;simp_arith![cT,cG g,j5,ki];show⟨by change(2:Nat)<=1000000;decide,bL (a:=.str j8) rfl ⟨rfl,?_⟩⟩;rw[show view Gb (.str j8)=.str j8 from rfl,lK (d:=.str j8) rfl];simp_arith![ends];symm;simp_arith![cT,cG g,j5,ki,F.wr];show agj (w:=w) (rs:=rs) (os:=os) (ls:=ls) (st:=st) ⟨show rs⁻¹<=5 by lia,g,U,hst,O,hsl⟩ ?_;simp_arith![ends];symm;simp_arith![cT,cG g,n6,ki];ac_nf0;simp_arith![ends];rw[cg U];exact hk1 _ _ ⟨⟨_,_,rfl⟩,hpb.sb Sb.upd nzp.symm,by rw[aY nzq.symm];exact g⟩
   .have hout:o∉os:=λhm=>by
     let(i',hi',e):=dA.mp hm;let(st,l1,_):=O.lea i' o (by rw[al hi',e]);exact hno st l1.1
    have ez:view Gb (.ref z)=.lst (zs.map ao):=cj U;have ki:(kIx (os.map aA) (aA o)).isSome=false:=af9 (λhm=>hout (ou hm));simp_arith![ez];symm;simp_arith![cT,cG g,j5,ki];show⟨by change(2:Nat)<=1000000;decide,bL (a:=.str oE) rfl ⟨rfl,?_⟩⟩;rw[show view Gb (.str oE)=.str oE from rfl,lK (d:=.str oE) rfl];simp_arith![ends];symm;simp_arith![cT,cG g,j5,ki];symm;simp_arith![cT,cG g,n6,ki,F.ar];show agn (w:=w) (rs:=rs) (os:=zs) ⟨hb,show rs⁻¹<=5 by lia,U,hap⟩ λGc sc=>?_;simp_arith![ends];ac_nf0;simp_arith![ends];rw[cg (sc _ _ U)];exact hk1 _ _ ⟨⟨_,_,rfl⟩,(hpb.sa sc).sb Sb.upd nzp.symm,by rw[aY nzq.symm];exact sc _ _ g⟩
  .rintro Y Ga ⟨⟨o6,o7,rfl⟩,J,N⟩;exact hk _ _ ⟨⟨_,_,_,_,_,_,rfl⟩,J⟩
 .rintro Y G2 ⟨_,hp2⟩;ac_nf0;erw[ends]
end RF
namespace Lk34
open PySem PySem.Spec PyProof.Rows L2 RF
open PySem.W (mg_of mg_none_of)
def Z:aj:=λf=>if f="_law_anew" then t8 else if f="_law_fits" then aU nT else if f="_law_met" then uq else if f="_law_deed" then ux else if f="_law_words" then uf else if f="_law_all_deeds" then oA else if f="_law_by" then sBy else if f="_law_is_whole" then aU d9 else if f="_law_is_numbers" then uR else if f="_law_stepped" then gA else if f="_law_apart_right" then sAR else if f="_law_spread" then t7 else if f="_law_take" then d8 else if f="_law_signs" then nJ else if f="_law_deeds_of" then ud else if f="_law_form" then zF else if f="_law_wider" then jb else if f="_law_within" then jb else if f="_law_form_like" then uc else if f="_law_book" then ue else if f="_law_good_orders" then sGT else if f="_law_open" then zG else if f="_law_order" then uG else if f="_law_way_right" then sWR else if f="first_order" then uz else if f="is_deed" then zT else if f="is_text_of" then zQ else if f="is_form" then zR else if f="is_row" then zU else if f="is_whole" then aU d9 else if f="is_width" then zV else if f="is_book" then zW else if f="need_book" then jV else if f="is_place" then aU jd else if f="is_order" then uB else if f="need_order" then nZ else if f="by_order" then sBy else if f="both" then aU nQ else if f="first_touching" then nR else if f="splitting_place" then ul else if f="with_sign" then aU ie else if f="grown" then fK 9 else if f="least" then aU j4 else if f="is_named" then aU gn else if f="leaves" then eY 9 else if f="need_two_books" then uv else if f="deed_of" then uh else if f="same_deeds" then sSD else if f="stars" then aU jc else if f="alike" then uw else if f="parting_word" then uy else if f="is_good" then uD else if f="exchanged" then gA else if f="steps_from" then uH else if f="good_ways" then uP else if f="need_movable" then uC else if f="way" then uQ else if f="law" then nM else bR (λz z=>False) (λz z z z=>False)
def K8:Z "_law_anew"=t8:=by rfl'
def K9:Z "_law_fits"=aU nT:=by rfl'
def La:Z "_law_met"=uq:=by rfl'
def Lb:Z "_law_deed"=ux:=by rfl'
def Ld:Z "_law_words"=uf:=by rfl'
def An:Z "_law_all_deeds"=oA:=by rfl'
def Ao:Z "_law_by"=sBy:=by rfl'
def Aq:Z "_law_is_whole"=aU d9:=by rfl'
def Lg:Z "_law_is_numbers"=uR:=by rfl'
def uV:Z "_law_stepped"=gA:=by rfl'
def Lh:Z "_law_apart_right"=sAR:=by rfl'
def Li:Z "_law_spread"=t7:=by rfl'
def fM:Z "_law_take"=d8:=by rfl'
def Ar:Z "_law_signs"=nJ:=by rfl'
def Lj:Z "_law_deeds_of"=ud:=by rfl'
def Lk:Z "_law_form"=zF:=by rfl'
def Ln:Z "_law_wider"=jb:=by rfl'
def Lp:Z "_law_within"=jb:=by rfl'
def Lq:Z "_law_form_like"=uc:=by rfl'
def Lr:Z "_law_book"=ue:=by rfl'
def Ls:Z "_law_good_orders"=sGT:=by rfl'
def Lw:Z "_law_open"=zG:=by rfl'
def Lx:Z "_law_order"=uG:=by rfl'
def Ly:Z "_law_way_right"=sWR:=by rfl'
def Lz:Z "first_order"=uz:=by rfl'
def LC:Z "is_deed"=zT:=by rfl'
def LK:Z "is_text_of"=zQ:=by rfl'
def LQ:Z "is_form"=zR:=by rfl'
def LR:Z "is_row"=zU:=by rfl'
def Av:Z "is_whole"=aU d9:=by rfl'
def Ma:Z "is_width"=zV:=by rfl'
def Mg:Z "is_book"=zW:=by rfl'
def uW:Z "need_book"=jV:=by rfl'
def Aw:Z "is_place"=aU jd:=by rfl'
def Mh:Z "is_order"=uB:=by rfl'
def Ax:Z "need_order"=nZ:=by rfl'
def Mi:Z "by_order"=sBy:=by rfl'
def Mj:Z "both"=aU nQ:=by rfl'
def Ay:Z "first_touching"=nR:=by rfl'
def Ml:Z "splitting_place"=ul:=by rfl'
def Az:Z "with_sign"=aU ie:=by rfl'
def Mm:Z "grown"=fK 9:=by rfl'
def Mp:Z "least"=aU j4:=by rfl'
def Mq:Z "is_named"=aU gn:=by rfl'
def Mr:Z "leaves"=eY 9:=by rfl'
def Ms:Z "need_two_books"=uv:=by rfl'
def Mt:Z "deed_of"=uh:=by rfl'
def Mu:Z "same_deeds"=sSD:=by rfl'
def Mv:Z "stars"=aU jc:=by rfl'
def Mw:Z "alike"=uw:=by rfl'
def Mx:Z "parting_word"=uy:=by rfl'
def My:Z "is_good"=uD:=by rfl'
def Mz:Z "exchanged"=gA:=by rfl'
def MF:Z "steps_from"=uH:=by rfl'
def MJ:Z "good_ways"=uP:=by rfl'
def MK:Z "need_movable"=uC:=by rfl'
def MN:Z "way"=uQ:=by rfl'
def bt:List AL:=["all","bool","enumerate","int","isinstance","len","list","min","range","set","sorted","str","tuple","zip"]
def cn:List (AL×D):=[("LETTERS",(.str [97,98,99,100,101,102,103,104,105,106,107,108,109,110,111,112,113,114,115,116,117,118,119,120,121,122])),("LONGEST_DEED",(.int 8)),("MOST_ROWS",(.int 12)),("MOST_ROWS_MOVED",(.int 5)),("WIDEST",(.int 6)),("WIDEST_MOVED",(.int 4))]
def xs:List (AL×Bool):=[("NoBook",true),("NoMatch",true),("NoOrder",true),("TooMany",true)]
abbrev CK:=λN s f o b=>aD (aJ N (aq s) f bt cn xs o) b (aH s)=true
abbrev BB:=λ(l:PySem.W.OpenLaw) (w:World) (mg:AH) (base:Heap) k f o=>Bse Z l.prog w (HK.K w.params) mg base (CX1 l.prog w) k f bt cn xs o
abbrev NQ:=λP (s:Str) (n:Nat)=>PySem.W.nsIn (HK.K P) mainGlobals s=-(-(.ref n))
abbrev BQ:=λP fd ps=>Binds (HK.K P) fd ps []
abbrev LN:Str:="law_starsieve_k34_ways_or_apart"
def f0:List (AL×Nat):=[]
def f1:=("_law_anew",1)::f0
def f2:=("_law_fits",2)::f1
def f3:=("_law_met",2)::f2
def f4:=("_law_deed",2)::f3
def f5:=("_law_words",1)::f4
def f6:=("_law_all_deeds",1)::f5
def f7:=("_law_by",2)::f6
def f8:=("_law_is_whole",1)::f7
def f9:=("_law_is_numbers",2)::f8
def f10:=("_law_stepped",2)::f9
def f11:=("_law_apart_right",3)::f10
def f12:=("_law_spread",2)::f11
def f13:=("_law_take",2)::f12
def f14:=("_law_signs",3)::f13
def f15:=("_law_deeds_of",2)::f14
def f16:=("_law_form",2)::f15
def f17:=("_law_wider",2)::f16
def f18:=("_law_within",2)::f17
def f19:=("_law_form_like",3)::f18
def f20:=("_law_book",3)::f19
def f21:=("_law_good_orders",1)::f20
def f22:=("_law_open",1)::f21
def f23:=("_law_order",2)::f22
def f24:=("_law_way_right",3)::f23
def f25:=("first_order",1)::f24
def f26:=("is_deed",1)::f25
def f27:=("is_text_of",3)::f26
def f28:=("is_form",2)::f27
def f29:=("is_row",2)::f28
def f30:=("is_whole",1)::f29
def f31:=("is_width",1)::f30
def f32:=("is_book",1)::f31
def f33:=("need_book",1)::f32
def f34:=("is_place",2)::f33
def f35:=("is_order",2)::f34
def f36:=("need_order",2)::f35
def f37:=("by_order",2)::f36
def f38:=("both",2)::f37
def f39:=("first_touching",2)::f38
def f40:=("splitting_place",2)::f39
def f41:=("with_sign",3)::f40
def f42:=("grown",3)::f41
def f43:=("least",1)::f42
def f44:=("is_named",3)::f43
def f45:=("leaves",2)::f44
def f46:=("need_two_books",2)::f45
def f47:=("deed_of",2)::f46
def f48:=("same_deeds",3)::f47
def f49:=("stars",1)::f48
def f50:=("alike",2)::f49
def f51:=("parting_word",2)::f50
def f52:=("is_good",2)::f51
def f53:=("exchanged",2)::f52
def f54:=("steps_from",1)::f53
def f55:=("good_ways",2)::f54
def f56:=("need_movable",1)::f55
def f57:=("way",2)::f56
def S(i:Nat):Stmt:=HK.pw.main.body.getD i (.Pass ⟨0,0,0,0⟩)
def oH:Stmt:=S 53
def agw:fnB ["pen"] ["pen"] (aq oH)=true:=by ac_rfl
def agx:CK ["pen"] oH f0 {} yM:=by ac_rfl
def oJ:Stmt:=S 63
def agy:fnB ["form","word","sign","other"] ["form","word"] (aq oJ)=true:=by ac_rfl
def agz:CK ["form","word","sign","other"] oJ f1 {} yN:=by ac_rfl
def oK:Stmt:=S 64
def agA:fnB ["book","word","number","row"] ["book","word"] (aq oK)=true:=by ac_rfl
def agB:CK ["book","word","number","row"] oK f2 {} yO:=by ac_rfl
def oM:Stmt:=S 65
def agC:fnB ["book","word","number"] ["book","word"] (aq oM)=true:=by ac_rfl
def agD:CK ["book","word","number"] oM f3 {} yP:=by ac_rfl
def oN:Stmt:=S 62
def agE:fnB ["form","found","sign","longer","text"] ["form"] (aq oN)=true:=by ac_rfl
def agF:CK ["form","found","sign","longer","text"] oN f4 {} yQ:=by ac_rfl
def oO:Stmt:=S 70
def agG:fnB ["book"] ["book"] (aq oO)=true:=by ac_rfl
def agH:CK ["book"] oO f5 {} yR:=by ac_rfl
def oR:Stmt:=S 68
def agI:fnB ["book","order"] ["book","order"] (aq oR)=true:=by ac_rfl
def agJ:CK ["book","order"] oR f6 {} yS:=by ac_rfl
def oU:Stmt:=S 66
def agK:fnB ["thing"] ["thing"] (aq oU)=true:=by ac_rfl
def agL:CK ["thing"] oU f7 {} Ju:=by ac_rfl
def oV:Stmt:=S 73
def agM:fnB ["order","many"] ["order","many"] (aq oV)=true:=by ac_rfl
def agN:CK ["order","many"] oV f8 {} yU:=by ac_rfl
def oW:Stmt:=S 69
def agO:fnB ["order","place"] ["order","place"] (aq oW)=true:=by ac_rfl
def agP:CK ["order","place"] oW f9 {} Jv:=by ac_rfl
def oX:Stmt:=S 74
def agQ:fnB ["book","order","orders","many","due","one","place","there"] ["book","order","orders"] (aq oX)=true:=by ac_rfl
def agR:CK ["book","order","orders","many","due","one","place","there"] oX f10 {} yV:=by ac_rfl
def oY:Stmt:=S 51
def agS:fnB ["cell","at","one","two","three"] ["cell","at"] (aq oY)=true:=by ac_rfl
def agT:CK ["cell","at","one","two","three"] oY f11 {} yW:=by ac_rfl
def oZ:Stmt:=S 54
def agU:fnB ["pen","many","at","cell","found"] ["pen","many"] (aq oZ)=true:=by ac_rfl
def agV:CK ["pen","many","at","cell","found"] oZ f12 {} yX:=by ac_rfl
def o9:Stmt:=S 55
def agW:fnB ["pen","width","signs"] ["pen","width","signs"] (aq o9)=true:=by ac_rfl
def agX:CK ["pen","width","signs"] o9 f13 {} yZ:=by ac_rfl
def ph:Stmt:=S 60
def agY:fnB ["pen","most","some","turn","found","letters"] ["pen","most"] (aq ph)=true:=by ac_rfl
def agZ:CK ["pen","most","some","turn","found","letters"] ph f14 {} za:=by ac_rfl
def pA:Stmt:=S 56
def ag0:fnB ["pen","width"] ["pen","width"] (aq pA)=true:=by ac_rfl
def ag1:CK ["pen","width"] pA f15 {} zb:=by ac_rfl
def pB:Stmt:=S 58
def ag2:fnB ["pen","form","found","sign"] ["pen","form"] (aq pB)=true:=by ac_rfl
def ag3:CK ["pen","form","found","sign"] pB f16 {} zc:=by ac_rfl
def pC:Stmt:=S 57
def ag4:fnB ["pen","form","found","sign"] ["pen","form"] (aq pC)=true:=by ac_rfl
def ag5:CK ["pen","form","found","sign"] pC f17 {} zf:=by ac_rfl
def pF:Stmt:=S 59
def ag6:fnB ["pen","width","forms","kind","form","at"] ["pen","width","forms"] (aq pF)=true:=by ac_rfl
def ag7:CK ["pen","width","forms","kind","form","at"] pF f18 {} zg:=by ac_rfl
def pG:Stmt:=S 61
def ag8:fnB ["pen","widest","most","width","deeds","forms","rows","k"] ["pen","widest","most"] (aq pG)=true:=by ac_rfl
def ag9:CK ["pen","widest","most","width","deeds","forms","rows","k"] pG f19 {} zj:=by ac_rfl
def pH:Stmt:=S 71
def aha:fnB ["book","due","row","found","at","place","there"] ["book"] (aq pH)=true:=by ac_rfl
def ahb:CK ["book","due","row","found","at","place","there"] pH f20 {} zm:=by ac_rfl
def pI:Stmt:=S 52
def ahc:fnB ["script","cells","k","cell"] ["script"] (aq pI)=true:=by ac_rfl
def ahd:CK ["script","cells","k","cell"] pI f21 {} zu:=by ac_rfl
def pJ:Stmt:=S 67
def ahe:fnB ["pen","many","left"] ["pen","many"] (aq pJ)=true:=by ac_rfl
def ahf:CK ["pen","many","left"] pJ f22 {} zx:=by ac_rfl
def pK:Stmt:=S 72
def ahg:fnB ["good","order","steps","here","place"] ["good","order","steps"] (aq pK)=true:=by ac_rfl
def ahh:CK ["good","order","steps","here","place"] pK f23 {} zy:=by ac_rfl
def pL:Stmt:=S 40
def ahi:fnB ["book"] ["book"] (aq pL)=true:=by ac_rfl
def ahj:CK ["book"] pL f24 {} mD:=by ac_rfl
def pM:Stmt:=S 20
def ahk:fnB ["thing"] ["thing"] (aq pM)=true:=by ac_rfl
def ahl:CK ["thing"] pM f25 {} mF:=by ac_rfl
def pN:Stmt:=S 11
def ahm:fnB ["signs","width","thing"] ["signs","width","thing"] (aq pN)=true:=by ac_rfl
def ahn:CK ["signs","width","thing"] pN f26 {} mG:=by ac_rfl
def pO:Stmt:=S 12
def aho:fnB ["width","thing"] ["width","thing"] (aq pO)=true:=by ac_rfl
def ahp:CK ["width","thing"] pO f27 {} mH:=by ac_rfl
def pP:Stmt:=S 21
def ahq:fnB ["width","thing"] ["width","thing"] (aq pP)=true:=by ac_rfl
def ahr:CK ["width","thing"] pP f28 {} mJ:=by ac_rfl
def pQ:Stmt:=S 8
def ahs:fnB ["thing"] ["thing"] (aq pQ)=true:=by ac_rfl
def aht:CK ["thing"] pQ f29 {} mK:=by ac_rfl
def pR:Stmt:=S 9
def ahu:fnB ["thing"] ["thing"] (aq pR)=true:=by ac_rfl
def ahv:CK ["thing"] pR f30 {} mL:=by ac_rfl
def pU:Stmt:=S 22
def ahw:fnB ["thing","width","rows"] ["thing"] (aq pU)=true:=by ac_rfl
def ahx:CK ["thing","width","rows"] pU f31 {} mO:=by ac_rfl
def pW:Stmt:=S 23
def ahy:fnB ["book"] ["book"] (aq pW)=true:=by ac_rfl
def ahz:CK ["book"] pW f32 {} mQ:=by ac_rfl
def pX:Stmt:=S 10
def ahA:fnB ["many","thing"] ["many","thing"] (aq pX)=true:=by ac_rfl
def ahB:CK ["many","thing"] pX f33 {} mR:=by ac_rfl
def pY:Stmt:=S 41
def ahC:fnB ["book","thing","many"] ["book","thing"] (aq pY)=true:=by ac_rfl
def ahD:CK ["book","thing","many"] pY f34 {} mU:=by ac_rfl
def pZ:Stmt:=S 42
def ahE:fnB ["book","order"] ["book","order"] (aq pZ)=true:=by ac_rfl
def ahF:CK ["book","order"] pZ f35 {} mV:=by ac_rfl
def p6:Stmt:=S 44
def ahG:fnB ["book","order","width","rows"] ["book","order"] (aq p6)=true:=by ac_rfl
def ahH:CK ["book","order","width","rows"] p6 f36 {} mW:=by ac_rfl
def p7:Stmt:=S 14
def ahI:fnB ["form","other","shared","one","two"] ["form","other"] (aq p7)=true:=by ac_rfl
def ahJ:CK ["form","other","shared","one","two"] p7 f37 {} mX:=by ac_rfl
def p8:Stmt:=S 30
def ahK:fnB ["rows","box","number","row"] ["rows","box"] (aq p8)=true:=by ac_rfl
def ahL:CK ["rows","box","number","row"] p8 f38 {} mY:=by ac_rfl
def qb:Stmt:=S 31
def ahM:fnB ["rows","box","number","at","sign"] ["rows","box"] (aq qb)=true:=by ac_rfl
def ahN:CK ["rows","box","number","at","sign"] qb f39 {} mZ:=by ac_rfl
def qe:Stmt:=S 13
def ahO:fnB ["form","at","sign"] ["form","at","sign"] (aq qe)=true:=by ac_rfl
def ahP:CK ["form","at","sign"] qe f40 {} m6:=by ac_rfl
def qg:Stmt:=S 32
def ahQ:fnB ["name","many_rows","box","rows","at","zero","one"] ["name","many_rows","box"] (aq qg)=true:=by ac_rfl
def ahR:CK ["name","many_rows","box","rows","at","zero","one"] qg f42 {} jT:=by ac_rfl
def qi:Stmt:=S 15
def qj:Stmt:=S 28
def ahS:fnB ["name","many","thing"] ["name","many","thing"] (aq qj)=true:=by ac_rfl
def ahT:CK ["name","many","thing"] qj f43 {} m7:=by ac_rfl
def ql:Stmt:=S 29
def ahU:fnB ["box","tree","at","zero","one"] ["box","tree"] (aq ql)=true:=by ac_rfl
def ahV:CK ["box","tree","at","zero","one"] ql f45 {} iY:=by ac_rfl
def qm:Stmt:=S 24
def ahW:fnB ["one","other"] ["one","other"] (aq qm)=true:=by ac_rfl
def ahX:CK ["one","other"] qm f45 {} m8:=by ac_rfl
def qp:Stmt:=S 25
def ahY:fnB ["book","number"] ["book","number"] (aq qp)=true:=by ac_rfl
def ahZ:CK ["book","number"] qp f46 {} jU:=by ac_rfl
def qt:Stmt:=S 34
def ah0:fnB ["one","other","leaf"] ["one","other","leaf"] (aq qt)=true:=by ac_rfl
def ah1:CK ["one","other","leaf"] qt f47 {} m9:=by ac_rfl
def qu:Stmt:=S 27
def ah2:fnB ["width"] ["width"] (aq qu)=true:=by ac_rfl
def ah3:CK ["width"] qu f48 {} ni:=by ac_rfl
def qw:Stmt:=S 35
def ah4:fnB ["one","other","box","tree","parting"] ["one","other"] (aq qw)=true:=by ac_rfl
def ah5:CK ["one","other","box","tree","parting"] qw f49 {} nq:=by ac_rfl
def qx:Stmt:=S 36
def ah6:fnB ["one","other","name","shown"] ["one","other"] (aq qx)=true:=by ac_rfl
def ah7:CK ["one","other","name","shown"] qx f50 {} nu:=by ac_rfl
def qy:Stmt:=S 46
def ah8:fnB ["book","order"] ["book","order"] (aq qy)=true:=by ac_rfl
def ah9:CK ["book","order"] qy f51 {} nA:=by ac_rfl
def qz:Stmt:=S 45
def aia:fnB ["things","place"] ["things","place"] (aq qz)=true:=by ac_rfl
def aib:CK ["things","place"] qz f52 {} nF:=by ac_rfl
def qC:Stmt:=S 47
def aic:fnB ["order"] ["order"] (aq qC)=true:=by ac_rfl
def aid:CK ["order"] qC f53 {} nG:=by ac_rfl
def qD:Stmt:=S 48
def aie:fnB ["book","order","ways","bad","newest","further","here","place","there"] ["book","order"] (aq qD)=true:=by ac_rfl
def aif:CK ["book","order","ways","bad","newest","further","here","place","there"] qD f54 {} zz:=by ac_rfl
def qF:Stmt:=S 43
def aig:fnB ["book","width","rows"] ["book"] (aq qF)=true:=by ac_rfl
def aih:CK ["book","width","rows"] qF f55 {} nH:=by ac_rfl
def qG:Stmt:=S 49
def aii:fnB ["book","order","ways"] ["book","order"] (aq qG)=true:=by ac_rfl
def aij:CK ["book","order","ways"] qG f56 {} zA:=by ac_rfl
def qH:Stmt:=S 75
def aik:fnB ["script","pen","turn","book","good","orders","order","found"] ["script"] (aq qH)=true:=by ac_rfl
def ail:CK ["script","pen","turn","book","good","orders","order","found"] qH f57 {} zB:=by ac_rfl
def MP:(⇑"0":Str)=tx [48]:=by ac_rfl
def aim:(⇑"*":Str)=tx [42]:=by ac_rfl
def ain:FnScope ["form"] ["form"] (aq qi):=⟨rfl,rfl,rfl,by ac_rfl,rfl,by ac_rfl,by ac_rfl⟩
def aio:Sp:=λvs H Q z=>∃l:AA,vs=[.str (tx l)]/\l⁻¹<=1000/\Q (.str (tx (cR l))) H
def aip {P:AK} {w:World} {K:PF} {mg:AH} {base:Heap} {f:AQ} {fd:AJ} (F:Fun K "least" "least" qi f fd):FnOk P w K mg base CX0 1 f fd ["form"] aio:=by
 show F.ok1 ain rfl (by ac_rfl) (λy=>rfl) (λvs H Q E h=>?_) (λg A outer s H vs Q E z h=>?_)
 .let(l,rfl,_):=h;rfl
 .let(l,rfl,hl,q):=h;show⟨_,Vg (Vi (pv 0) (by ac_rfl)),?_⟩;show⟨_,rfl,_,rfl,?_,?_⟩
  .rw[MP,cA,cA];simp;lia
  .rw[aim,MP,Vh];exact q
def aiq {P:AK} {w:World} {K:PF} {mg:AH} {base:Heap} {f:AQ} {fd:AJ} (F:Fun K "least" "least" qi f fd):FnOk P w K mg base CX0 1 f fd ["form"] (lift K 1 (aU j4)):=by
 show(aip F).imp λvs H Q E h=>?_;let(e0,Y,G,ds,r,t,(J,G'),(L,N),O,e4):=h;cases L;let(d,g):=Option.isSome_iff_exists.mp N;have z:=g;unfold j4 at g;split at g
 .rename_i l;split at g
  .rename_i hl;cases g;let(v,rfl,U):=bI t;let(rfl,_):=U;have q:l⁻¹<=1000:=of_decide_eq_true hl;exact⟨l,rfl,q,(O _ _ ⟨rfl,z⟩).now r ⟨rfl,by unfold cR;rw[List.length_map];exact Nat.le_trans q (!1)⟩⟩
  .cases g
 .cases g
def fdM(n:Str)(st:Stmt)(m:Str)(t c:Nat):AJ:=PySem.W.fnOf n n (kj st) (aH st) (aq st) .none .none .none (.str m t) none (.ref c) .none
def mkF {K:PF} {n m:Str} {st:Stmt} {a t c:Nat}(l:K.lookup a=-⟨.type "function",none,.func (fdM n st m t c),⟨[]⟩⟩:=by rfl')(h1:PySem.W.codeIn K (.ref c) n=true:=by eq_refl)(h2:PySem.W.keepIn K (.ref a)=true:=by eq_refl):Fun K n n st a (fdM n st m t c):=U5 l h1 h2
theorem tK:type_of% @PySem.W.Fast.te538113369711794958:=PySem.W.Fast.te538113369711794958
local macro_rules|`(tactic|ac_nf)=>`(tactic|(intro _ _ _ _ _ _ us hl;first|(obtain ⟨_,h⟩:=cP hl;subst h;rfl)|(obtain ⟨_,_,h⟩:=bu hl;subst h;rfl)|(obtain ⟨_,_,_,h⟩:=fJ hl;subst h;rfl)))
local macro_rules|`(tactic|eq_refl)=>`(tactic|(first|rw[tK]|(unfold NQ;rw[tK]));rfl')
section
variable {P:Params}
def MT:AJ:=fdM "_law_anew" oH LN 560 310
theorem M3:Fun (HK.K P) "_law_anew" "_law_anew" oH 311 MT:=mkF
theorem air:NQ P "_law_anew" 311:=by eq_refl
theorem ais:BQ P MT ["pen"]:=M3.binds (by ac_nf)
def M4:AJ:=fdM "_law_fits" oJ LN 560 374
theorem M5:Fun (HK.K P) "_law_fits" "_law_fits" oJ 375 M4:=mkF
theorem ait:NQ P "_law_fits" 375:=by eq_refl
theorem aiu:BQ P M4 ["form","word"]:=M5.binds (by ac_nf)
def M6:AJ:=fdM "_law_met" oK LN 560 381
theorem M7:Fun (HK.K P) "_law_met" "_law_met" oK 382 M6:=mkF
theorem aiv:NQ P "_law_met" 382:=by eq_refl
theorem aiw:BQ P M6 ["book","word"]:=M7.binds (by ac_nf)
def M8:AJ:=fdM "_law_deed" oM LN 560 388
theorem M9:Fun (HK.K P) "_law_deed" "_law_deed" oM 389 M8:=mkF
theorem aix:NQ P "_law_deed" 389:=by eq_refl
theorem aiy:BQ P M8 ["book","word"]:=M9.binds (by ac_nf)
def Nb:AJ:=fdM "_law_words" oN LN 560 367
theorem Nf:Fun (HK.K P) "_law_words" "_law_words" oN 368 Nb:=mkF
theorem aiz:NQ P "_law_words" 368:=by eq_refl
theorem aiA:BQ P Nb ["form"]:=Nf.binds (by ac_nf)
def Ng:AJ:=fdM "_law_all_deeds" oO LN 560 417
theorem Nh:Fun (HK.K P) "_law_all_deeds" "_law_all_deeds" oO 418 Ng:=mkF
theorem aiB:NQ P "_law_all_deeds" 418:=by eq_refl
theorem aiC:BQ P Ng ["book"]:=Nh.binds (by ac_nf)
def Ni:AJ:=fdM "_law_by" oR LN 560 405
theorem Nj:Fun (HK.K P) "_law_by" "_law_by" oR 406 Ni:=mkF
theorem aiD:NQ P "_law_by" 406:=by eq_refl
theorem aiE:BQ P Ni ["book","order"]:=Nj.binds (by ac_nf)
def Nk:AJ:=fdM "_law_is_whole" oU LN 560 395
theorem Nm:Fun (HK.K P) "_law_is_whole" "_law_is_whole" oU 396 Nk:=mkF
theorem aiF:NQ P "_law_is_whole" 396:=by eq_refl
theorem aiG:BQ P Nk ["thing"]:=Nm.binds (by ac_nf)
def Np:AJ:=fdM "_law_is_numbers" oV LN 560 436
theorem Nq:Fun (HK.K P) "_law_is_numbers" "_law_is_numbers" oV 437 Np:=mkF
theorem aiH:NQ P "_law_is_numbers" 437:=by eq_refl
theorem aiI:BQ P Np ["order","many"]:=Nq.binds (by ac_nf)
def Nr:AJ:=fdM "_law_stepped" oW LN 560 412
theorem Nt:Fun (HK.K P) "_law_stepped" "_law_stepped" oW 413 Nr:=mkF
theorem aiJ:NQ P "_law_stepped" 413:=by eq_refl
theorem aiK:BQ P Nr ["order","place"]:=Nt.binds (by ac_nf)
def Nu:AJ:=fdM "_law_apart_right" oX LN 560 441
theorem Nv:Fun (HK.K P) "_law_apart_right" "_law_apart_right" oX 442 Nu:=mkF
theorem aiL:NQ P "_law_apart_right" 442:=by eq_refl
theorem aiM:BQ P Nu ["book","order","orders"]:=Nv.binds (by ac_nf)
def Nx:AJ:=fdM "_law_spread" oY LN 560 296
theorem Ny:Fun (HK.K P) "_law_spread" "_law_spread" oY 297 Nx:=mkF
theorem aiN:NQ P "_law_spread" 297:=by eq_refl
theorem aiO:BQ P Nx ["cell","at"]:=Ny.binds (by ac_nf)
def Nz:AJ:=fdM "_law_take" oZ LN 560 317
theorem NB:Fun (HK.K P) "_law_take" "_law_take" oZ 318 Nz:=mkF
theorem aiP:NQ P "_law_take" 318:=by eq_refl
theorem aiQ:BQ P Nz ["pen","many"]:=NB.binds (by ac_nf)
def NK:AJ:=fdM "_law_signs" o9 LN 560 322
theorem NP:Fun (HK.K P) "_law_signs" "_law_signs" o9 323 NK:=mkF
theorem aiR:NQ P "_law_signs" 323:=by eq_refl
theorem aiS:BQ P NK ["pen","width","signs"]:=NP.binds (by ac_nf)
def NT:AJ:=fdM "_law_deeds_of" ph LN 560 355
theorem NZ:Fun (HK.K P) "_law_deeds_of" "_law_deeds_of" ph 356 NT:=mkF
theorem aiT:NQ P "_law_deeds_of" 356:=by eq_refl
theorem aiU:BQ P NT ["pen","most"]:=NZ.binds (by ac_nf)
def N5:AJ:=fdM "_law_form" pA LN 560 329
theorem N6:Fun (HK.K P) "_law_form" "_law_form" pA 330 N5:=mkF
theorem aiV:NQ P "_law_form" 330:=by eq_refl
theorem aiW:BQ P N5 ["pen","width"]:=N6.binds (by ac_nf)
def N7:AJ:=fdM "_law_wider" pB LN 560 343
theorem N8:Fun (HK.K P) "_law_wider" "_law_wider" pB 344 N7:=mkF
theorem aiX:NQ P "_law_wider" 344:=by eq_refl
theorem aiY:BQ P N7 ["pen","form"]:=N8.binds (by ac_nf)
def Oa:AJ:=fdM "_law_within" pC LN 560 336
theorem Ob:Fun (HK.K P) "_law_within" "_law_within" pC 337 Oa:=mkF
theorem aiZ:NQ P "_law_within" 337:=by eq_refl
theorem ai0:BQ P Oa ["pen","form"]:=Ob.binds (by ac_nf)
def Oc:AJ:=fdM "_law_form_like" pF LN 560 350
theorem Od:Fun (HK.K P) "_law_form_like" "_law_form_like" pF 351 Oc:=mkF
theorem ai1:NQ P "_law_form_like" 351:=by eq_refl
theorem ai2:BQ P Oc ["pen","width","forms"]:=Od.binds (by ac_nf)
def Oe:AJ:=fdM "_law_book" pG LN 560 362
theorem Og:Fun (HK.K P) "_law_book" "_law_book" pG 363 Oe:=mkF
theorem ai3:NQ P "_law_book" 363:=by eq_refl
theorem ai4:BQ P Oe ["pen","widest","most"]:=Og.binds (by ac_nf)
def Oh:AJ:=fdM "_law_good_orders" pH LN 560 424
theorem Oi:Fun (HK.K P) "_law_good_orders" "_law_good_orders" pH 425 Oh:=mkF
theorem ai5:NQ P "_law_good_orders" 425:=by eq_refl
theorem ai6:BQ P Oh ["book"]:=Oi.binds (by ac_nf)
def Oj:AJ:=fdM "_law_open" pI LN 560 303
theorem Ol:Fun (HK.K P) "_law_open" "_law_open" pI 304 Oj:=mkF
theorem ai7:NQ P "_law_open" 304:=by eq_refl
theorem ai8:BQ P Oj ["script"]:=Ol.binds (by ac_nf)
def Om:AJ:=fdM "_law_order" pJ LN 560 400
theorem Oo:Fun (HK.K P) "_law_order" "_law_order" pJ 401 Om:=mkF
theorem ai9:NQ P "_law_order" 401:=by eq_refl
theorem aja:BQ P Om ["pen","many"]:=Oo.binds (by ac_nf)
def Oq:AJ:=fdM "_law_way_right" pK LN 560 431
theorem Ot:Fun (HK.K P) "_law_way_right" "_law_way_right" pK 432 Oq:=mkF
theorem ajb:NQ P "_law_way_right" 432:=by eq_refl
theorem ajc:BQ P Oq ["good","order","steps"]:=Ot.binds (by ac_nf)
def Ou:AJ:=fdM "first_order" pL "starsieve.moves" 472 232
theorem Ov:Fun (HK.K P) "first_order" "first_order" pL 233 Ou:=mkF
theorem ajd:NQ P "first_order" 233:=by eq_refl
theorem mD:BQ P Ou ["book"]:=Ov.binds (by ac_nf)
def Ow:AJ:=fdM "is_deed" pM "starsieve.books" 338 133
theorem Oz:Fun (HK.K P) "is_deed" "is_deed" pM 134 Ow:=mkF
theorem aje:NQ P "is_deed" 134:=by eq_refl
theorem mF:BQ P Ow ["thing"]:=Oz.binds (by ac_nf)
def OD:AJ:=fdM "is_text_of" pN "starsieve.forms" 271 100
theorem OJ:Fun (HK.K P) "is_text_of" "is_text_of" pN 101 OD:=mkF
theorem ajf:NQ P "is_text_of" 101:=by eq_refl
theorem mG:BQ P OD ["signs","width","thing"]:=OJ.binds (by ac_nf)
def O1:AJ:=fdM "is_form" pO "starsieve.forms" 271 107
theorem O2:Fun (HK.K P) "is_form" "is_form" pO 108 O1:=mkF
theorem ajg:NQ P "is_form" 108:=by eq_refl
theorem mH:BQ P O1 ["width","thing"]:=O2.binds (by ac_nf)
def O3:AJ:=fdM "is_row" pP "starsieve.books" 338 140
theorem O4:Fun (HK.K P) "is_row" "is_row" pP 141 O3:=mkF
theorem ajh:NQ P "is_row" 141:=by eq_refl
theorem mJ:BQ P O3 ["width","thing"]:=O4.binds (by ac_nf)
def O5:AJ:=fdM "is_whole" pQ "starsieve.forms" 271 81
theorem O6:Fun (HK.K P) "is_whole" "is_whole" pQ 82 O5:=mkF
theorem aji:NQ P "is_whole" 82:=by eq_refl
theorem mK:BQ P O5 ["thing"]:=O6.binds (by ac_nf)
def O7:AJ:=fdM "is_width" pR "starsieve.forms" 271 88
theorem O8:Fun (HK.K P) "is_width" "is_width" pR 89 O7:=mkF
theorem ajj:NQ P "is_width" 89:=by eq_refl
theorem mL:BQ P O7 ["thing"]:=O8.binds (by ac_nf)
def O9:AJ:=fdM "is_book" pU "starsieve.books" 338 145
theorem Pa:Fun (HK.K P) "is_book" "is_book" pU 146 O9:=mkF
theorem ajk:NQ P "is_book" 146:=by eq_refl
theorem mO:BQ P O9 ["thing"]:=Pa.binds (by ac_nf)
def Pb:AJ:=fdM "need_book" pW "starsieve.books" 338 152
theorem Pg:Fun (HK.K P) "need_book" "need_book" pW 153 Pb:=mkF
theorem ajl:NQ P "need_book" 153:=by eq_refl
theorem mQ:BQ P Pb ["book"]:=Pg.binds (by ac_nf)
def Ph:AJ:=fdM "is_place" pX "starsieve.forms" 271 95
theorem Pj:Fun (HK.K P) "is_place" "is_place" pX 96 Ph:=mkF
theorem ajm:NQ P "is_place" 96:=by eq_refl
theorem mR:BQ P Ph ["many","thing"]:=Pj.binds (by ac_nf)
def Pk:AJ:=fdM "is_order" pY "starsieve.moves" 472 237
theorem Pn:Fun (HK.K P) "is_order" "is_order" pY 238 Pk:=mkF
theorem ajn:NQ P "is_order" 238:=by eq_refl
theorem mU:BQ P Pk ["book","thing"]:=Pn.binds (by ac_nf)
def Pq:AJ:=fdM "need_order" pZ "starsieve.moves" 472 244
theorem Pr:Fun (HK.K P) "need_order" "need_order" pZ 245 Pq:=mkF
theorem ajo:NQ P "need_order" 245:=by eq_refl
theorem mV:BQ P Pq ["book","order"]:=Pr.binds (by ac_nf)
def Pu:AJ:=fdM "by_order" p6 "starsieve.moves" 472 256
theorem Px:Fun (HK.K P) "by_order" "by_order" p6 257 Pu:=mkF
theorem ajp:NQ P "by_order" 257:=by eq_refl
theorem mW:BQ P Pu ["book","order"]:=Px.binds (by ac_nf)
def Py:AJ:=fdM "both" p7 "starsieve.forms" 271 121
theorem Pz:Fun (HK.K P) "both" "both" p7 122 Py:=mkF
theorem ajq:NQ P "both" 122:=by eq_refl
theorem mX:BQ P Py ["form","other"]:=Pz.binds (by ac_nf)
def PJ:AJ:=fdM "first_touching" p8 "starsieve.laid" 389 194
theorem PK:Fun (HK.K P) "first_touching" "first_touching" p8 195 PJ:=mkF
theorem ajr:NQ P "first_touching" 195:=by eq_refl
theorem mY:BQ P PJ ["rows","box"]:=PK.binds (by ac_nf)
def PL:AJ:=fdM "splitting_place" qb "starsieve.laid" 389 201
theorem PN:Fun (HK.K P) "splitting_place" "splitting_place" qb 202 PL:=mkF
theorem ajs:NQ P "splitting_place" 202:=by eq_refl
theorem mZ:BQ P PL ["rows","box"]:=PN.binds (by ac_nf)
def PP:AJ:=fdM "with_sign" qe "starsieve.forms" 271 114
theorem PQ:Fun (HK.K P) "with_sign" "with_sign" qe 115 PP:=mkF
theorem ajt:NQ P "with_sign" 115:=by eq_refl
theorem m6:BQ P PP ["form","at","sign"]:=PQ.binds (by ac_nf)
def Ba:AJ:=fdM "grown" qg "starsieve.laid" 389 206
theorem uX:Fun (HK.K P) "grown" "grown" qg 207 Ba:=mkF
theorem P0:NQ P "grown" 207:=by eq_refl
theorem jT:BQ P Ba ["name","many_rows","box"]:=uX.binds (by ac_nf)
def Qa:AJ:=fdM "least" qi "starsieve.forms" 271 128
theorem Bb:Fun (HK.K P) "least" "least" qi 129 Qa:=mkF
theorem aju:NQ P "least" 129:=by eq_refl
theorem ajv:BQ P Qa ["form"]:=Bb.binds (by ac_nf)
def Qc:AJ:=fdM "is_named" qj "starsieve.laid" 389 180
theorem Qd:Fun (HK.K P) "is_named" "is_named" qj 181 Qc:=mkF
theorem ajw:NQ P "is_named" 181:=by eq_refl
theorem m7:BQ P Qc ["name","many","thing"]:=Qd.binds (by ac_nf)
def Bc:AJ:=fdM "leaves" ql "starsieve.laid" 389 187
theorem uY:Fun (HK.K P) "leaves" "leaves" ql 188 Bc:=mkF
theorem Qe:NQ P "leaves" 188:=by eq_refl
theorem iY:BQ P Bc ["box","tree"]:=uY.binds (by ac_nf)
def Qf:AJ:=fdM "need_two_books" qm "starsieve.books" 338 159
theorem Qg:Fun (HK.K P) "need_two_books" "need_two_books" qm 160 Qf:=mkF
theorem ajx:NQ P "need_two_books" 160:=by eq_refl
theorem m8:BQ P Qf ["one","other"]:=Qg.binds (by ac_nf)
def Qh:AJ:=fdM "deed_of" qp "starsieve.books" 338 166
theorem Qi:Fun (HK.K P) "deed_of" "deed_of" qp 167 Qh:=mkF
theorem ajy:NQ P "deed_of" 167:=by eq_refl
theorem jU:BQ P Qh ["book","number"]:=Qi.binds (by ac_nf)
def Qj:AJ:=fdM "same_deeds" qt "starsieve.alike" 445 213
theorem Qk:Fun (HK.K P) "same_deeds" "same_deeds" qt 214 Qj:=mkF
theorem ajz:NQ P "same_deeds" 214:=by eq_refl
theorem m9:BQ P Qj ["one","other","leaf"]:=Qk.binds (by ac_nf)
def Ql:AJ:=fdM "stars" qu "starsieve.laid" 389 173
theorem Qm:Fun (HK.K P) "stars" "stars" qu 174 Ql:=mkF
theorem ajA:NQ P "stars" 174:=by eq_refl
theorem ni:BQ P Ql ["width"]:=Qm.binds (by ac_nf)
def Qn:AJ:=fdM "alike" qw "starsieve.alike" 445 218
theorem Qo:Fun (HK.K P) "alike" "alike" qw 219 Qn:=mkF
theorem ajB:NQ P "alike" 219:=by eq_refl
theorem nq:BQ P Qn ["one","other"]:=Qo.binds (by ac_nf)
def Qp:AJ:=fdM "parting_word" qx "starsieve.alike" 445 225
theorem Qq:Fun (HK.K P) "parting_word" "parting_word" qx 226 Qp:=mkF
theorem ajC:NQ P "parting_word" 226:=by eq_refl
theorem nu:BQ P Qp ["one","other"]:=Qq.binds (by ac_nf)
def Qs:AJ:=fdM "is_good" qy "starsieve.moves" 472 270
theorem Qt:Fun (HK.K P) "is_good" "is_good" qy 271 Qs:=mkF
theorem ajD:NQ P "is_good" 271:=by eq_refl
theorem nA:BQ P Qs ["book","order"]:=Qt.binds (by ac_nf)
def Qu:AJ:=fdM "exchanged" qz "starsieve.moves" 472 263
theorem Qv:Fun (HK.K P) "exchanged" "exchanged" qz 264 Qu:=mkF
theorem ajE:NQ P "exchanged" 264:=by eq_refl
theorem nF:BQ P Qu ["things","place"]:=Qv.binds (by ac_nf)
def Qw:AJ:=fdM "steps_from" qC "starsieve.moves" 472 275
theorem Qx:Fun (HK.K P) "steps_from" "steps_from" qC 276 Qw:=mkF
theorem ajF:NQ P "steps_from" 276:=by eq_refl
theorem nG:BQ P Qw ["order"]:=Qx.binds (by ac_nf)
def Qy:AJ:=fdM "good_ways" qD "starsieve.moves" 472 282
theorem Qz:Fun (HK.K P) "good_ways" "good_ways" qD 283 Qy:=mkF
theorem ajG:NQ P "good_ways" 283:=by eq_refl
theorem ajH:BQ P Qy ["book","order"]:=Qz.binds (by ac_nf)
def QB:AJ:=fdM "need_movable" qF "starsieve.moves" 472 251
theorem QC:Fun (HK.K P) "need_movable" "need_movable" qF 252 QB:=mkF
theorem ajI:NQ P "need_movable" 252:=by eq_refl
theorem nH:BQ P QB ["book"]:=QC.binds (by ac_nf)
def QD:AJ:=fdM "way" qG "starsieve.moves" 472 289
theorem QF:Fun (HK.K P) "way" "way" qG 290 QD:=mkF
theorem ajJ:NQ P "way" 290:=by eq_refl
theorem ajK:BQ P QD ["book","order"]:=QF.binds (by ac_nf)
def Bd:AJ:=fdM "law" qH LN 560 448
theorem ajL:Fun (HK.K P) "law" "law" qH 449 Bd:=mkF
theorem ajM:NQ P "law" 449:=by eq_refl
theorem ajN:PySem.W.nsIn (HK.K P) mainGlobals "all"=-none:=by eq_refl
theorem ajO:PySem.W.nsIn (HK.K P) mainGlobals "bool"=-none:=by eq_refl
theorem ajP:PySem.W.nsIn (HK.K P) mainGlobals "enumerate"=-none:=by eq_refl
theorem ajQ:PySem.W.nsIn (HK.K P) mainGlobals "int"=-none:=by eq_refl
theorem ajR:PySem.W.nsIn (HK.K P) mainGlobals "isinstance"=-none:=by eq_refl
theorem ajS:PySem.W.nsIn (HK.K P) mainGlobals "len"=-none:=by eq_refl
theorem ajT:PySem.W.nsIn (HK.K P) mainGlobals "list"=-none:=by eq_refl
theorem ajU:PySem.W.nsIn (HK.K P) mainGlobals "min"=-none:=by eq_refl
theorem ajV:PySem.W.nsIn (HK.K P) mainGlobals "range"=-none:=by eq_refl
theorem ajW:PySem.W.nsIn (HK.K P) mainGlobals "set"=-none:=by eq_refl
theorem ajX:PySem.W.nsIn (HK.K P) mainGlobals "sorted"=-none:=by eq_refl
theorem ajY:PySem.W.nsIn (HK.K P) mainGlobals "str"=-none:=by eq_refl
theorem ajZ:PySem.W.nsIn (HK.K P) mainGlobals "tuple"=-none:=by eq_refl
theorem aj0:PySem.W.nsIn (HK.K P) mainGlobals "zip"=-none:=by eq_refl
theorem aj1:PySem.W.nsIn (HK.K P) mainGlobals "LETTERS"=-(-(.str "abcdefghijklmnopqrstuvwxyz" 344)):=by eq_refl
theorem aj2:PySem.W.nsIn (HK.K P) mainGlobals "LONGEST_DEED"=-(-(.int 8 342)):=by eq_refl
theorem aj3:PySem.W.nsIn (HK.K P) mainGlobals "MOST_ROWS"=-(-(.int 12 340)):=by eq_refl
theorem aj4:PySem.W.nsIn (HK.K P) mainGlobals "MOST_ROWS_MOVED"=-(-(.int 5 474)):=by eq_refl
theorem aj5:PySem.W.nsIn (HK.K P) mainGlobals "WIDEST"=-(-(.int 6 273)):=by eq_refl
theorem aj6:PySem.W.nsIn (HK.K P) mainGlobals "WIDEST_MOVED"=-(-(.int 4 476)):=by eq_refl
theorem x_s:xsB (HK.K P) xs=true:=by eq_refl
end
section
variable {l:PySem.W.OpenLaw} {w:World} {h:Heap} {mg:AH} {base:Heap} (X:(HK.K w.params).In h) (G:h.Ns mainGlobals mg)
include X G
theorem B0:BB l w mg base 0 f0 {}:=bse trivial ⟨mg_none_of X G ajN,mg_none_of X G ajO,mg_none_of X G ajP,mg_none_of X G ajQ,mg_none_of X G ajR,mg_none_of X G ajS,mg_none_of X G ajT,mg_none_of X G ajU,mg_none_of X G ajV,mg_none_of X G ajW,mg_none_of X G ajX,mg_none_of X G ajY,mg_none_of X G ajZ,mg_none_of X G aj0,trivial⟩ ⟨adX (mg_of X G aj1) (by ac_rfl) (!1),mC (mg_of X G aj2),mC (mg_of X G aj3),mC (mg_of X G aj4),mC (mg_of X G aj5),mC (mg_of X G aj6),trivial⟩ X G x_s
theorem B1:BB l w mg base 1 f1 {}:=(B0 X G).step M3 ais (mg_of X G air) K8 0 agw agx rfl rfl (cJ (λds G h=>ad1 Z  ds G h))
theorem B2:BB l w mg base 2 f2 {}:=(B1 X G).step M5 aiu (mg_of X G ait) K9 2 agy agz rfl rfl (gW (λds G d h=>ae8 Z  ds G d h))
theorem B3:BB l w mg base 3 f3 {}:=(B2 X G).step M7 aiw (mg_of X G aiv) La 2 agA agB rfl rfl (bT (λa G h=>afb Z K9 a G h))
theorem B4:BB l w mg base 4 f4 {}:=(B3 X G).step M9 aiy (mg_of X G aix) Lb 1 agC agD rfl rfl (bT (λa G h=>afD Z La a G h))
theorem B5:BB l w mg base 5 f5 {}:=(B4 X G).step Nf aiA (mg_of X G aiz) Ld 4 agE agF rfl rfl (cJ (λds G h=>aes Z  ds G h))
theorem B6:BB l w mg base 6 f6 {}:=(B5 X G).step Nh aiC (mg_of X G aiB) An 0 agG agH rfl rfl (gm (λa ds G h=>aga Z Ld Lb a ds G h))
theorem B7:BB l w mg base 7 f7 {}:=(B6 X G).step Nj aiE (mg_of X G aiD) Ao 0 agI agJ rfl rfl (bT (λa G h=>afU Z  a G h))
theorem B8:BB l w mg base 8 f8 {}:=(B7 X G).step Nm aiG (mg_of X G aiF) Aq 0 agK agL rfl rfl (gW (λds G d h=>ad8 Z  ds G d h))
theorem B9:BB l w mg base 9 f9 {}:=(B8 X G).step Nq aiI (mg_of X G aiH) Lg 0 agM agN rfl rfl (bT (λa G h=>agm Z Aq a G h))
theorem B10:BB l w mg base 10 f10 {}:=(B9 X G).step Nt aiK (mg_of X G aiJ) uV 0 agO agP rfl rfl (bT (λa G h=>afY Z  a G h))
theorem B11:BB l w mg base 11 f11 {}:=(B10 X G).step Nv aiM (mg_of X G aiL) Lh 5 agQ agR rfl rfl (gm (λa ds G h=>ago Z ⟨Lg,An,uV,Ao⟩ a ds G h))
theorem B12:BB l w mg base 12 f12 {}:=(B11 X G).step Ny aiO (mg_of X G aiN) Li 3 agS agT rfl rfl (cJ (λds G h=>ad0 Z  ds G h))
theorem B13:BB l w mg base 13 f13 {}:=(B12 X G).step NB aiQ (mg_of X G aiP) fM 3 agU agV rfl rfl (cJ (λds G h=>ad2 Z Li ds G h))
theorem B14:BB l w mg base 14 f14 {}:=(B13 X G).step NP aiS (mg_of X G aiR) Ar 0 agW agX rfl rfl (cJ (λds G h=>ad5 Z fM ds G h))
theorem B15:BB l w mg base 15 f15 {}:=(B14 X G).step NZ aiU (mg_of X G aiT) Lj 4 agY agZ rfl rfl (cJ (λds G h=>aek Z fM Ar ds G h))
theorem B16:BB l w mg base 16 f16 {}:=(B15 X G).step N6 aiW (mg_of X G aiV) Lk 0 ag0 ag1 rfl rfl (cJ (λds G h=>ad6 Z fM Ar ds G h))
theorem B17:BB l w mg base 17 f17 {}:=(B16 X G).step N8 aiY (mg_of X G aiX) Ln 2 ag2 ag3 rfl rfl (cJ (λds G h=>aec Z fM ds G h))
theorem B18:BB l w mg base 18 f18 {}:=(B17 X G).step Ob ai0 (mg_of X G aiZ) Lp 2 ag4 ag5 rfl rfl (cJ (λds G h=>aeb Z fM ds G h))
theorem B19:BB l w mg base 19 f19 {}:=(B18 X G).step Od ai2 (mg_of X G ai1) Lq 3 ag6 ag7 rfl rfl (cJ (λds G h=>aeh Z fM Lk Lp Ln ds G h))
theorem B20:BB l w mg base 20 f20 {}:=(B19 X G).step Og ai4 (mg_of X G ai3) Lr 5 ag8 ag9 rfl rfl (cJ (λds G h=>aen Z fM Lj Lq ds G h))
theorem B21:BB l w mg base 21 f21 {}:=(B20 X G).step Oi ai6 (mg_of X G ai5) Ls 6 aha ahb rfl rfl (gm (λa ds G h=>agi Z ⟨An,uV,Ao⟩ a ds G h))
theorem B22:BB l w mg base 22 f22 {}:=(B21 X G).step Ol ai8 (mg_of X G ai7) Lw 3 ahc ahd rfl rfl (cJ (λds G h=>ad7 Z  ds G h))
theorem B23:BB l w mg base 23 f23 {}:=(B22 X G).step Oo aja (mg_of X G ai9) Lx 1 ahe ahf rfl rfl (gm (λa ds G h=>af1 Z fM a ds G h))
theorem B24:BB l w mg base 24 f24 {}:=(B23 X G).step Ot ajc (mg_of X G ajb) Ly 2 ahg ahh rfl rfl (gm (λa ds G h=>agk Z Aq uV a ds G h))
theorem B25:BB l w mg base 25 f25 {}:=(B24 X G).step Ov mD (mg_of X G ajd) Lz 0 ahi ahj rfl rfl (bT (λa G h=>afL Z  a G h))
theorem B26:BB l w mg base 26 f26 {}:=(B25 X G).step Oz mF (mg_of X G aje) LC 0 ahk ahl rfl rfl (bT (λa G h=>aex Z  a G h))
theorem B27:BB l w mg base 27 f27 {}:=(B26 X G).step OJ mG (mg_of X G ajf) LK 0 ahm ahn rfl rfl (bT (λa G h=>aev Z  a G h))
theorem B28:BB l w mg base 28 f28 {}:=(B27 X G).step O2 mH (mg_of X G ajg) LQ 0 aho ahp rfl rfl (bT (λa G h=>aew Z LK a G h))
theorem B29:BB l w mg base 29 f29 {}:=(B28 X G).step O4 mJ (mg_of X G ajh) LR 0 ahq ahr rfl rfl (bT (λa G h=>aey Z LQ LC a G h))
theorem B30:BB l w mg base 30 f30 {}:=(B29 X G).step O6 mK (mg_of X G aji) Av 0 ahs aht rfl rfl (gW (λds G d h=>Jx Z  ds G d h))
theorem B31:BB l w mg base 31 f31 {}:=(B30 X G).step O8 mL (mg_of X G ajj) Ma 0 ahu ahv rfl rfl (bT (λa G h=>aez Z Av a G h))
theorem B32:BB l w mg base 32 f32 {}:=(B31 X G).step Pa mO (mg_of X G ajk) Mg 2 ahw ahx rfl rfl (bT (λa G h=>aeA Z Ma LR a G h))
theorem B33:BB l w mg base 33 f33 {}:=(B32 X G).step Pg mQ (mg_of X G ajl) uW 0 ahy ahz rfl rfl (bT (λa G h=>aeB Z Mg a G h))
theorem B34:BB l w mg base 34 f34 {}:=(B33 X G).step Pj mR (mg_of X G ajm) Aw 0 ahA ahB rfl rfl (gW (λds G d h=>afd Z Av ds G d h))
theorem B35:BB l w mg base 35 f35 {}:=(B34 X G).step Pn mU (mg_of X G ajn) Mh 1 ahC ahD rfl rfl (bT (λa G h=>afP Z Aw a G h))
theorem B36:BB l w mg base 36 f36 {}:=(B35 X G).step Pr mV (mg_of X G ajo) Ax 0 ahE ahF rfl rfl (bT (λa G h=>afQ Z Mh a G h))
theorem B37:BB l w mg base 37 f37 {}:=(B36 X G).step Px mW (mg_of X G ajp) Mi 2 ahG ahH rfl rfl (bT (λa G h=>afT Z uW Ax a G h))
theorem B38:BB l w mg base 38 f38 {}:=(B37 X G).step Pz mX (mg_of X G ajq) Mj 3 ahI ahJ rfl rfl (gW (λds G d h=>aeM Z  ds G d h))
theorem B39:BB l w mg base 39 f39 {}:=(B38 X G).step PK mY (mg_of X G ajr) Ay 2 ahK ahL rfl rfl (cJ (λds G h=>aeT Z Mj ds G h))
theorem B40:BB l w mg base 40 f40 {}:=(B39 X G).step PN mZ (mg_of X G ajs) Ml 3 ahM ahN rfl rfl (cJ (λds G h=>aeW Z Ay ds G h))
theorem B41:BB l w mg base 41 f41 {}:=(B40 X G).step PQ m6 (mg_of X G ajt) Az 0 ahO ahP rfl rfl (gW (λds G d h=>aeO Z  ds G d h))
theorem QG:∀n:Nat,FnOk l.prog w (HK.K w.params) mg base (CX1 l.prog w) (41+n) 207 Ba ["name","many_rows","box"] (lift (HK.K w.params) 3 (fK n))
 |0=>Jt ae3
 |n+1=>tZ (fs:=f42) uX ((B41 X G).self (by ac_rfl) (QG n) uX.kp jT (mg_of X G P0)) (fK (n+1)) 3 4 ahQ ahR rfl rfl (cJ (λds G h=>ae2 (iW Z "grown" (fK n)) n (if_pos rfl) (jR Ay rfl) (jR Ml rfl) (jR Az rfl) ds G h))
theorem B42:BB l w mg base 50 f42 {}:=(B41 X G).add (j:=9) Mm (QG X G 9) uX.kp jT (mg_of X G P0)
theorem B43:BB l w mg base 51 f43 {}:=(B42 X G).add (j:=1) Mp ((aiq Bb).cx.mono (!1)) Bb.kp ajv (mg_of X G aju)
theorem B44:BB l w mg base 52 f44 {}:=(B43 X G).step Qd m7 (mg_of X G ajw) Mq 0 ahS ahT rfl rfl (gW (λds G d h=>afe Z  ds G d h))
theorem QH:∀n:Nat,FnOk l.prog w (HK.K w.params) mg base (CX1 l.prog w) (52+n) 188 Bc ["box","tree"] (lift (HK.K w.params) 2 (eY n))
 |0=>Jt afi
 |n+1=>tZ (fs:=f45) uY ((B44 X G).self (by ac_rfl) (QH n) uY.kp iY (mg_of X G Qe)) (eY (n+1)) 2 3 ahU ahV rfl rfl (bT (λa G h=>afk (iW Z "leaves" (eY n)) n (if_pos rfl) (jR Mq rfl) (jR Aw rfl) (jR Az rfl) a G h))
theorem B45:BB l w mg base 61 f45 {}:=(B44 X G).add (j:=9) Mr (QH X G 9) uY.kp iY (mg_of X G Qe)
theorem B46:BB l w mg base 62 f46 {}:=(B45 X G).step Qg m8 (mg_of X G ajx) Ms 0 ahW ahX rfl rfl (bT (λa G h=>afx Z uW a G h))
theorem B47:BB l w mg base 63 f47 {}:=(B46 X G).step Qi jU (mg_of X G ajy) Mt 0 ahY ahZ rfl rfl (cJ (λds G h=>aeF Z  ds G h))
theorem B48:BB l w mg base 64 f48 {}:=(B47 X G).step Qk m9 (mg_of X G ajz) Mu 0 ah0 ah1 rfl rfl (bT (λa G h=>afz Z Mt a G h))
theorem B49:BB l w mg base 65 f49 {}:=(B48 X G).step Qm ni (mg_of X G ajA) Mv 0 ah2 ah3 rfl rfl (gW (λds G d h=>aeP Z  ds G d h))
theorem B50:BB l w mg base 66 f50 {}:=(B49 X G).step Qo nq (mg_of X G ajB) Mw 3 ah4 ah5 rfl rfl (gm (λa ds G h=>afB Z Ms Mm Mr Mp Mv Mu a ds G h))
theorem B51:BB l w mg base 67 f51 {}:=(B50 X G).step Qq nu (mg_of X G ajC) Mx 2 ah6 ah7 rfl rfl (bT (λa G h=>afG Z Mw a G h))
theorem B52:BB l w mg base 68 f52 {}:=(B51 X G).step Qt nA (mg_of X G ajD) My 0 ah8 ah9 rfl rfl (bT (λa G h=>afW Z Mx Mi a G h))
theorem B53:BB l w mg base 69 f53 {}:=(B52 X G).step Qv nF (mg_of X G ajE) Mz 0 aia aib rfl rfl (bT (λa G h=>Kv Z  a G h))
theorem B54:BB l w mg base 70 f54 {}:=(B53 X G).step Qx nG (mg_of X G ajF) MF 0 aic aid rfl rfl (bT (λa G h=>af4 Z Mz a G h))
theorem B55:BB l w mg base 71 f55 {}:=(B54 X G).step Qz ajH (mg_of X G ajG) MJ 7 aie aif rfl rfl (gm (λa ds G h=>agd Z ⟨Lz,MF,My⟩ a ds G h))
theorem B56:BB l w mg base 72 f56 {}:=(B55 X G).step QC nH (mg_of X G ajI) MK 2 aig aih rfl rfl (bT (λa G h=>afS Z uW a G h))
theorem B57:BB l w mg base 73 f57 {}:=(B56 X G).step QF ajK (mg_of X G ajJ) MN 1 aii aij rfl rfl (gm (λa ds G h=>agg Z ⟨MK,Ax,MJ⟩ a ds G h))
theorem aj7:FnOk l.prog w (HK.K w.params) mg base (CX1 l.prog w) 74 449 Bd ["script"] (lift (HK.K w.params) 1 (nM)):=tZ ajL (B57 X G) (nM) 1 7 aik ail rfl rfl (cJ (λds G h=>agp Z ⟨Lw,K8,Lr,Ls,Lx,fM,MN,Ly,Lh⟩ ds G h))
omit X G in
theorem all (fa:AQ) (X:(HK.K w.params).In h) (G:h.Ns mainGlobals mg) (g:mg "law"=-(.ref fa)):∃fd:AJ,(∀(s:AI) (v:AN),BindsTo s fd ⟨[v],[]⟩ [("script",v)])/\∀base:Heap,(HK.K w.params).In base->base.Ns mainGlobals mg->FnOk l.prog w (HK.K w.params) mg base (CX1 l.prog w) 74 fa fd ["script"] (lift (HK.K w.params) 1 (nM)):=by have e:=g.symm.trans (PySem.W.mg_of X G ajM);cases e;exact⟨Bd,λs v=>.of_eq rfl,λbase z z=>aj7 X G⟩
end
def walk {l:PySem.W.OpenLaw} {q:AK} {loose:AD} {XP:(AH)->Heap->Prop} {d:DefRec} (hn:l.most=-63) (g:d.params.defaults=[]) (J:d.name="law"):
  PySem.W.WalkO q loose XP HK.hook.says l.row.toRowW d [] (λf vs=>PySem.call f vs):=
 L2.U4 (n:=63) (k:=74) (x:="script") (K:=HK.K) (CX:=λw=>CX1 l.prog w) (sp:=λw=>lift (HK.K w.params) 1 (nM)) hn (!1) g ⟨rfl,!1,!1⟩ (λy y Y=>Y) (λw mg fa h X G L=>all fa X G (J ▸ L)) (λw H a ns hl N O=>adY (adZ λns y hl=>⟨ns,rfl,hl⟩) (HK.K w.params) H a ns hl N O) λy y y y y z=>aaJ z
end Lk34
end
open PySem PySem.W PyProof.Rows
set_option maxHeartbeats 0 in
theorem PySem.Challenge.cw_starsieve_k34_ways_or_apart_holds : PySem.Challenge.rw_starsieve_k34_ways_or_apart.Holds := by
 have said:PySem.Challenge.rw_starsieve_k34_ways_or_apart.row.wellSaid=true:=wsR
 refine ⟨wsL,?_⟩;refine PySem.W.holds_open (q:=HK.qv) (loose:=[]) (Xt:=HK.Xt) (XP:=XL HK.qv []) (Yf:=HK.hook.obs) (Ya:=HK.hook.val) (YP:=HK.hook.says) (N:=12000) HK.left HK.hook.of HK.hook.keeps
  (λs e=>xl_of s (Bool.and_eq_true_iff.mp e).1) XL.keeps (by rfl) (by rfl) (by rfl) (λs e=>recFacts_of (Bool.and_eq_true_iff.mp e).2) (by rfl) (by assumption) (by decide +kernel) ⟨rfl,rfl,rfl,rfl,rfl,by decide +kernel⟩ ?hw ?hc
 case hw=>exact ⟨[.list []],by decide +kernel,by decide +kernel⟩
 exact Lk34.walk rfl rfl rfl
