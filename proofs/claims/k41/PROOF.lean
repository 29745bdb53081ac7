import PyProof.Rows.All
import Wide.All
import OpenK.AllK
import Wide.FinOn
import Lean
import PyProof.EqAt
import PyProof.EqKinds
import PyProof.TupleCall
import PyProof.NeKinds
import PyProof.FactsAll.range_2
import PyProof.FactsAll.tuple_2
import PyProof.FactsAll.tuple
import PyProof.ListRange
import PyProof.ExcInit
import PySem.Challenge.RW_starsieve_k41_rows_joined
set_option compiler.extract_closed false
set_option bootstrap.genMatcherCode false
set_option genInjectivity false
set_option genSizeOf false
set_option Elab.async false
set_option maxRecDepth 100000
set_option tactic.hygienic false
noncomputable section
local macro_rules|`($x⁻¹)=>`(($x).length)
local macro_rules|`(tactic|show $x)=>`(tactic|refine $x)
local macro_rules|`(!2)=>`(by simp)
open Lean in
def pZ:Nat->TSyntax `term->MacroM (TSyntax `rcasesPat)
 |0,_=>Macro.throwUnsupported
 |n+1,t=>do
  match t with
  |`(⟨$a,*⟩)=>do
   let l←a.getElems.mapM λx=>do let p←pZ n x;`(Lean.Parser.Tactic.rcasesPatLo|$p:rcasesPat)
   `(rcasesPat|⟨$l,*⟩)
  |`(($b,$a,*))=>do
   let l←(#[b]++a.getElems).mapM λx=>do let p←pZ n x;`(Lean.Parser.Tactic.rcasesPatLo|$p:rcasesPat)
   `(rcasesPat|⟨$l,*⟩)
  |`($i:ident)=>`(rcasesPat|$i:ident)
  |`(_)=>`(rcasesPat|_)
  |_=>Macro.throwUnsupported
local macro_rules|`(tactic|let $p:term:=$e)=>do let q←pZ 9 p;`(tactic|obtain $q:rcasesPat:=$e)
local macro_rules|`(-$x)=>`(some $x)
local macro_rules|`(($a,$b,*))=>`(⟨$a,$b,*⟩)
def hY(v r:Lean.Syntax):Lean.MacroM Lean.Syntax:=do if (v.find? fun x=>x.isOfKind `Lean.Parser.Tactic.renameI||x.isOfKind `Lean.Parser.Tactic.«tacticNext_=>_»||x.isOfKind `Lean.Parser.Tactic.case).isSome then let r:Lean.TSyntax `command:=⟨r⟩;return ←`(set_option tactic.hygienic true in $r:command) else return r
local macro_rules|`(def $n:declId $s:optDeclSig $v:declVal)=>do hY v ((←`(noncomputable def $n:declId $s:optDeclSig $v:declVal)).raw.rewriteBottomUp (·.setInfo .none))
local macro_rules|`(abbrev $n:declId $s:optDeclSig $v:declVal)=>do return (←`(noncomputable abbrev $n:declId $s:optDeclSig $v:declVal)).raw.rewriteBottomUp (·.setInfo .none)
local macro_rules|`(theorem $n:declId $s:declSig $v:declVal)=>do
 if n.raw.getPos?.isNone then Lean.Macro.throwUnsupported
 hY v ((←`(theorem $n:declId $s:declSig $v:declVal)).raw.rewriteBottomUp (·.setInfo .none))
def nZf.{u}{a:Sort u}(h:false=true):a:=nomatch h
local macro_rules|`(~~~$x)=>`(($x).heap.objs.size)
local macro_rules|`(↥$x)=>`(PySem.wpAny (PySem.model ($x).prog ($x).w) ($x).A)
local macro_rules|`(!0)=>`(by lia)
local macro_rules|`(!1)=>`(by decide)
local macro_rules|`(!!$x)=>`(by simpa using $x)
local macro_rules|`(⇑$x)=>`(PySem.Str.ofString $x)
abbrev AA:=List Nat
abbrev AB:=List PySem.Value
abbrev AC:=List (PySem.Addr×PySem.Obj)
abbrev AD:=List PySem.Str
abbrev AE:=List PySem.Expr
abbrev AF:=List PySem.Stmt
abbrev AG:=PySem.Value->PySem.Shared->Prop
abbrev AH:=PySem.Str->Option PySem.Value
abbrev AI:=PySem.Shared
abbrev AJ:=PySem.FuncData
abbrev AK:=PySem.Program
abbrev AL:=String
abbrev AM:=PySem.Around
abbrev AN:=PySem.Value
abbrev AO:=PySem.Expr
abbrev AQ:=PySem.Addr
local macro_rules|`(tactic|rfl')=>`(tactic|kernel_rfl)
local macro_rules|`(tactic|ac_rfl)=>`(tactic|decide +kernel)
abbrev PF:=PySem.W.Frag
set_option linter.all false
theorem wsR:PySem.Challenge.rw_starsieve_k41_rows_joined.row.wellSaid=true:=by decide +kernel
theorem wsL:PySem.Challenge.rw_starsieve_k41_rows_joined.wellSaid=true:=by decide +kernel
namespace HD
open PySem PySem.W
def sv(x:Str)(t:Nat):AN:=.str x t
def ri(n:Nat):AN:=.int n 0
def iQ(l:AB):Obj:=(.type "tuple",none,.seq ⟨l⟩ 0,⟨[]⟩)
def gn(c:AN)(l:AB):Obj:=(c,none,.fields ⟨l⟩,⟨[]⟩)
def ph:Str:="/claim/cut.py"
def BW(n q:Str)(z O fl a b:Nat)(y:Bool)(U Y tm:AN)(t J:Nat):Obj:=
 gn (.type "code") [sv n t,sv q (t+1),sv ph (t+2),ri z,ri O,ri 0,ri 0,ri fl,.ref a,.bool y,ri 181,.ref b,.none,U,Y,tm,ri J,ri z,sv ph (J+1)]
def toks(t:Nat):AD->AB
 |[]=>[]
 |x::r=>sv x t::toks (t+1) r
def fdO(n q:Str)(p:Arguments)(b:AF)(z:Scope)(g:Nat)(y cd:AN):Data:=
 .func {name:=n,qualname:=q,params:=p,body:=.stmts b,scope:=z,globals:=g,closure:=[],defaults:=.none,kwdefaults:=.none,pyModule:=y,code:=cd}
def enO(P:Params)(k:Str)(t:Nat)(v:AN):DictEntry:={hash:=PyData.keyHash P k,key:=sv k t,val:=v}
def pq(l:List DictEntry)(e:Nat):Obj:=(.type "dict",none,.dict ⟨l⟩ e,⟨[]⟩)
def frO(c l:Nat)(y:AN):Obj:=(.type "frame",none,.plain,⟨[-(.ref c),-(.ref 3),-(.ref l),none,-y,none,-(.ref 0)]⟩)
def bfO(s:AL)(v:AN):Obj:=gn (.type "builtin_function_or_method") [.builtin s,v]
def veM:AB:=[.type "ValueError",.type "Exception",.type "BaseException",.type "object"]
def tU(b:AO):Bool:=match b with |.Name n _=>n==("ValueError":Str)|_=>false
def fnO(q:Str)(a t:Nat)(J:AN)(n:Str)(p:Arguments)(b:AF)(y:Scope)(z:Nat):List Obj:=match localNames p y (.stmts b) with
 |some l=>[iQ [],gn .none [],iQ (toks (t+3) l.1),iQ [],(.none,none,fdO n q p b y 0 .none .none,⟨[]⟩),
   BW n q z p.args⁻¹ 3 a (a+1) true (.ref (a+2)) (.ref (a+3)) (.ref (a+4)) t (t+3+l.1⁻¹),(.type "function",none,fdO n q p b y 3 J (.ref (a+5)),⟨[]⟩)]
 |none=>[iQ [],gn .none [],(.none,none,fdO n q p b y 0 .none .none,⟨[]⟩),
   BW n q z p.args⁻¹ 3 a (a+1) true .none .none (.ref (a+2)) t (t+3),(.type "function",none,fdO n q p b y 3 J (.ref (a+3)),⟨[]⟩)]
def fnA(p:Arguments)(b:AF)(y:Scope):Nat:=match localNames p y (.stmts b) with|some _=>7|none=>5
def fnT(p:Arguments)(b:AF)(y:Scope):Nat:=match localNames p y (.stmts b) with|some l=>l.1⁻¹+5|none=>5
def dot:Str:="."
structure MO where
 os:List Obj
 es:List DictEntry
 cs:AB
 a:Nat
 t:Nat
def tV(P:Params)(c:Str)(y:AN):AF->Nat->Nat->MO
 |.FunctionDef n p b _ _ _ sc _ _ pos::r,a,t=>
  let m:=tV P c y r (a+fnA p b sc) (t+fnT p b sc+1)
  (fnO (c++dot++n) a t y n p b sc pos.line++m.os,enO P n (t+fnT p b sc) (.ref (a+fnA p b sc-1))::m.es,ri pos.line::ri pos.col::.ref (a+fnA p b sc-2)::m.cs,m.a,m.t)
 |_::r,a,t=>tV P c y r a t
 |[],a,t=>([],[],[],a,t)
def clA(P:Params)(a:Nat)(b:AF):Nat:=(tV P dot .none b (a+7) 0).a+2
def stO(P:Params)(r:Nat)(sub:AB)(a t:Nat)(J:AN)(s:Stmt):List Obj:=match s with
 |.FunctionDef n p b _ _ _ sc _ _ pos=>fnO n a t J n p b sc pos.line
 |.ClassDef n bs _ body _ _ _ _ _ st pos=>
  let m:=tV P n J body (a+7) (t+12)
  let c:=m.a+2
  let u:=m.t+st⁻¹
  let y:=[enO P "__module__" (t+7) J]
  let z:=enO P "__firstlineno__" (t+11) (.int pos.line (t+10))::m.es++[enO P "__static_attributes__" u (.ref m.a)]
  let b:AB:=match bs with|b::_=>(match tU b with|true=>[.type "ValueError"]|false=>[.ref r]) |[]=>[]
  let own:Bool:=match bs with |[]=>true|_=>false
  let O:Bool:=match bs with|b::_=>tU b |[]=>false
  let wr (v:Nat):Obj:=gn (.type "getset_descriptor") [sv "__weakref__" v,.ref c,.builtin "ExceptionGroup.__weakref__",.none]
  let typ (mro:AB) (sub:AB) (nw:AL):Obj:=
   (.type "type",none,.cls {name:=n,bases:=(match own with|true=>[.type "object"]|false=>b),mro:=.ref c::mro,ns:=m.a+1,qualname:=n,subclasses:=sub},
    ⟨[(match own with|true=>none|false=>-(.ref a)),none,-(sv n t),-(sv n (t+8)),-(.builtin nw),-(.bool true)]⟩)
  [iQ b,bfO "type.__prepare__" (.type "type"),pq (y++enO P "__qualname__" (t+9) (sv n (t+8))::z) (4+m.es⁻¹),iQ [],gn .none m.cs,
   BW n n pos.line 0 0 (a+3) (a+4) false .none .none .none (t+2) (t+5),frO (a+5) (a+2) J]++m.os++[iQ (toks m.t st)] ++
  (match own with
  |true=>[pq (y++z++[enO P "__dict__" (u+2) (.ref (c+1)),enO P "__weakref__" (u+4) (.ref (c+2)),enO P "__doc__" (u+5) .none]) 4,typ [.type "object"] [] "object.__new__",
    gn (.type "getset_descriptor") [sv "__dict__" (u+1),.ref c,.builtin "function.__dict__",.builtin "function.__dict__#set"],wr (u+3)]
  |false=>(match O with
   |true=>[pq (y++z++[enO P "__weakref__" (u+2) (.ref (c+1)),enO P "__doc__" (u+3) .none]) 3,typ veM sub "ValueError.__new__",wr (u+1)]
   |false=>[pq (y++z++[enO P "__doc__" (u+1) .none]) 2,typ (.ref r::veM) [] "ValueError.__new__"])) ++
  [gn (.type "super") [.ref c,.ref c,.ref c],bfO "object.__init_subclass__" (.ref c)]
 |_=>[]
def mdO(t:Nat)(y:AN)(s:Stmt):AN:=match s with
 |.Assign [.Name n _] (.Constant (.str x) _ _) _=>(match n==("__name__":Str) with|true=>sv x t|false=>y)
 |_=>y
def enS(P:Params)(J:Str->AN)(t u a z:Nat)(s:Stmt):List DictEntry:=match s with
 |.Assign [.Name n _] (.Name y _) _=>[enO P n t (J y)]
 |.FunctionDef n _ _ _ _ _ _ _ _ _=>[enO P n (u-1) (.ref (z-1))]
 |.ClassDef n _ _ b _ _ _ _ _ _ _=>[enO P n (u-1) (.ref (clA P a b))]
 |.Assign [.Name n _] (.Constant c _ _) _=>(match n==("__name__":Str) with
  |true=>[]
  |false=>[enO P n (t+1) (match c with |.int i=>.int i t |.str x=>sv x t|_=>.none)])
 |_=>[]
def fnS(y:Nat)(s:Stmt):List (Str×AN):=match s with
 |.FunctionDef n _ _ _ _ _ _ _ _ _=>[(n,.ref (y-1))]
 |_=>[]
def cdS(a y:Nat)(s:Stmt):AB:=match s with
 |.FunctionDef _ _ _ _ _ _ _ _ _ pos=>[ri pos.line,ri pos.col,.ref (y-2)]
 |.ClassDef _ _ _ _ _ _ _ _ _ _ pos=>[ri pos.line,ri pos.col,.ref (a+5)]
 |_=>[]
def sbS(P:Params)(a:Nat)(s:Stmt):AB:=match s with
 |.ClassDef _ bs _ b0 _ _ _ _ _ _ _=>(match bs with|b::_=>(match tU b with|true=>[]|false=>[.ref (clA P a b0)]) |[]=>[])
 |_=>[]
def ahE(P:Params)(a:Nat)(s:Stmt):AA:=match s with
 |.ClassDef _ bs _ b0 _ _ _ _ _ _ _=>(match bs with|b::_=>(match tU b with|true=>[clA P a b0]|false=>[]) |[]=>[])
 |_=>[]
def fold{y:Type}(f:Nat->Nat->Nat->Nat->AN->Stmt->List y):List (Nat×Nat)->AN->AF->List y
 | (a,t)::(a',u)::r,md,s::ss=>f a a' t u md s++fold f ((a',u)::r) (mdO t md s) ss
 |_,_,_=>[]
def Nj:List (Nat×Nat)->AN->AF->AN
 | (_,t)::r,md,s::ss=>Nj r (mdO t md s) ss
 |_,md,_=>md
def iR:AN:=sv "__main__" 164
def ahF(P:Params)(v:AN):List DictEntry:=
 [enO P "__name__" 165 v,enO P "__doc__" 166 .none,enO P "__package__" 167 .none,enO P "__loader__" 168 (.builtin "__main__.__loader__#opaque"),enO P "__spec__" 169 .none,
  enO P "__annotations__" 170 (.ref 6),enO P "__builtins__" 171 (.ref 4),enO P "__file__" 173 (sv ph 172),enO P "__cached__" 174 .none]
def ents(N:List (Nat×Nat))(b:AF)(P:Params):List DictEntry:=ahF P (Nj N iR b)++fold (λa z t u x s=>enS P (λy=>((fold (λx z x x x s=>fnS z s) N iR b).lookup y).getD .none) t u a z s) N iR b
def put{z:Type}:Nat->z->List z->List z
 |_,_,[]=>[]
 |0,x,_::r=>x::r
 |n+1,x,y::r=>y::put n x r
def Nk(cs:AB):List Obj:=[iQ [],gn .none cs,
 gn (.type "code") [sv "<module>" 182,sv "<module>" 183,sv ph 184,ri 1,ri 0,ri 0,ri 0,ri 0,.ref 11,.bool false,ri 181,.ref 12,.none,.none,.none,.none,ri 185,ri 1,sv ph 186],frO 13 3 iR]
def ahG(B:List Obj):List Obj:=B++Nk []
def objs(B:List Obj)(N:List (Nat×Nat))(b:AF)(P:Params):List Obj:=
 let es:=ents N b P
 put 3 (pq es es⁻¹) (B++Nk (fold (λa y x x x s=>cdS a y s) N iR b) ++
  fold (λa x t x z s=>stO P ((fold (λa x x x x s=>ahE P a s) N iR b).headD 0) (fold (λa x x x x s=>sbS P a s) N iR b) a t z s) N iR b)
def evs{y:Type}:List y->List y
 |[]=>[]
 |[x]=>[x]
 |x::_::r=>x::evs r
def bt:Nat->List Obj->BT
 |0,_=>.nil
 |_,[]=>.nil
 |n+1,x::r=>.node x (bt n (evs r)) (bt n (evs r.tail))
def nameless(s:Stmt):Bool:=match s with
 |.Assign [.Name n _] _ _=>!(n==("__name__":Str))
 |_=>true
def pick:Nat->AA->List Obj->Frag
 |i,a::r,o::os=>(match Nat.beq a i with|true=>(a,o)::pick (i+1) r os|false=>pick (i+1) (a::r) os)
 |_,_,_=>[]
end HD
def PySem.W.Fast.tw11085318370385447667:PySem.Program:=PySem.Challenge.pw_starsieve_k41_rows_joined
theorem PySem.W.Fast.te11085318370385447667:PySem.Challenge.pw_starsieve_k41_rows_joined=PySem.W.Fast.tw11085318370385447667:=rfl
namespace HK
open PySem PySem.W PySem.W.Fast
def pw:AK:=PySem.Challenge.pw_starsieve_k41_rows_joined
def rl:OpenLaw:=PySem.Challenge.rw_starsieve_k41_rows_joined
def NN:List (Nat×Nat):=[(15,187),(15,189),(28,207),(47,232),(66,257),(78,273),(90,289),(102,305),(114,321),(126,337),(138,353),(150,369),(162,385),(174,401),(186,417),(198,433),(198,435),(198,437),(205,444),(212,451),(219,459),(224,465),(231,473),(236,479),(243,487),(250,496),(257,507),(262,513),(269,520),(269,522),(269,524),(269,526),(269,528),(274,534),(281,542),(286,548),(293,555),(300,563),(307,571),(314,579),(314,581),(321,588),(328,597),(335,608),(342,618),(349,629),(354,635),(354,637),(361,646),(366,652),(373,662),(373,664),(380,674),(380,676),(387,690),(394,702),(394,704),(401,715),(408,725),(415,732),(422,743),(427,749),(434,757),(441,767),(448,777),(455,789),(460,795),(467,809),(472,815),(477,821),(482,827),(489,838),(496,848),(503,858),(510,867),(517,876),(522,882),(527,888),(534,897),(541,907),(546,913),(553,923),(560,932),(567,946),(574,958),(581,971)]
def L1(P:Params):List Obj:=HD.objs (boot_heap P).objs.toList NN pw.main.body P
def H1(P:Params):Heap:=(⟨L1 P⟩,{})
def T1(P:Params):BT:=HD.bt 12 (L1 P)
def LA(P:Params):List Obj:=HD.ahG (boot_heap P).objs.toList
def HA(P:Params):Heap:=(⟨LA P⟩,{})
def T0(P:Params):BT:=HD.bt 5 (LA P)
def env:Env:={scope:=pw.main.scope,locals:=mainNs,globals:=mainNs,cells:=[],code:=.ref 13,frame:=-14}
def bE:AF:=behindTheImports pw
def cE:Code:=.body bE env
def p0:Pos:=(0,0,0,0)
def B:List Frame:=[topFrame p0]
def ann:Option AN:=-(.ref 6)
def qv:AK:={pw with main:={pw.main with body:=pw.main.body.filter HD.nameless}}
def as:AA:=[2,3,23,24,40,41,43,44,62,63,74,75,86,87,98,99,110,111,122,123,134,135,146,147,158,159,170,171,182,183,194,195,203,204,210,211,217,218,222,223,229,230,234,235,241,242,248,249,255,256,260,261,267,268,272,273,279,280,284,285,291,292,298,299,305,306,312,313,319,320,326,327,333,334,340,341,347,348,352,353,359,360,364,365,371,372,378,379,385,386,392,393,399,400,406,407,413,414,420,421,425,426,432,433,439,440,446,447,453,454,458,459,465,466,470,471,475,476,480,481,487,488,494,495,501,502,508,509,515,516,520,521,525,526,532,533,539,540,544,545,551,552,558,559,565,566,572,573,579,580]
def K(P:Params):Frag:=HD.pick 0 as (L1 P)
def Xt(s:AI):Bool:=xlAt qv [] s&&recOk (RowW.records rl.row.toRowW) s
def see{y:Type}(_:y):Bool:=true
def primed:(see T1&&see T0&&see H1&&see HA&&see cE&&see B&&see env&&see bE&&see qv&&see K&&see Xt)=true:=by k_qdec
theorem pre(w:World)(os:OsState):topGo treeTable pw w 11 ann 12 (boot_heap w.params,⟨[]⟩,boot_drawn,boot_toks,os) (topStub pw)=-((HA w.params,⟨[]⟩,{},187,os),(denote treeTable cE,cE,p0,B)):=by have _:=primed;rw[PySem.W.Fast.te15667345088766844465,PySem.W.Fast.te14364793385576792824,PySem.W.Fast.te1032975242618825031,PySem.W.Fast.te8093259214132618727,PySem.W.Fast.te1718297227530528222,PySem.W.Fast.te11892475500146522536];rfl'
theorem block(w:World)(os:OsState):segRun treeTable pw w 11 ann 1 2 (HA w.params,⟨[]⟩,{},187,os) (blockOf bE env cE p0 B)=-(.next,SharedT.abs (T0 w.params,15,{},⟨[]⟩,{},187,os),cE,p0):=by rw[PySem.W.Fast.te14374325043358763698,PySem.W.Fast.te14364793385576792824,PySem.W.Fast.te1032975242618825031,PySem.W.Fast.te8093259214132618727,PySem.W.Fast.te1718297227530528222,PySem.W.Fast.te14938417808399470215,PySem.W.Fast.te16330338443398637341,PySem.W.Fast.te10239294469119128424];rfl'
theorem piece(w:World)(os:OsState):segRunT treeTable pw w 11 ann 1 9000 (T0 w.params,15,{},⟨[]⟩,{},187,os) (piecesOf bE env cE p0 B)=-(.next,(T1 w.params,581,{},⟨[]⟩,{},971,os),cE,(391,0,400,15)):=by rw[PySem.W.Fast.te10110043849684766642,PySem.W.Fast.te14364793385576792824,PySem.W.Fast.te1032975242618825031,PySem.W.Fast.te13069687644243786066,PySem.W.Fast.te14938417808399470215,PySem.W.Fast.te1718297227530528222,PySem.W.Fast.te16330338443398637341,PySem.W.Fast.te10239294469119128424];rfl'
theorem fin(w:World)(os:OsState):topRun treeTable pw w 11 ann 3 (SharedT.abs (T1 w.params,581,{},⟨[]⟩,{},971,os)) (doneF .next,cE,(391,0,400,15),B)=-(H1 w.params,⟨[]⟩,{},971,os):=by rw[PySem.W.Fast.te14082659384304107361,PySem.W.Fast.te14364793385576792824,PySem.W.Fast.te1032975242618825031,PySem.W.Fast.te13069687644243786066,PySem.W.Fast.te1718297227530528222,PySem.W.Fast.te14158929756966004236];rfl'
def run(w:World)(os:OsState):topRun treeTable pw w 11 ann (12+(2+(9000+3))) (boot_heap w.params,⟨[]⟩,boot_drawn,boot_toks,os) (topStub pw)=-(H1 w.params,⟨[]⟩,{},971,os):=by show go_top (pre w os) (piece_block (block w os) ?_);have h:=piece_app (rest:=[]) (segRun_of (piece w os)) (piece_nil (fin w os));rw[List.append_nil]at h;exact h
def size(w:World):(Prod.mk ((boot_heap w.params).isNs mainGlobals&&(Array.mk []:Array GenState).size==0) (Prod.mk ((boot_heap w.params).objs.size) ((boot_heap w.params).nsMap mainGlobals "__annotations__")))=(Prod.mk (true) (Prod.mk (11) (ann))):=by rfl'
theorem ahH(w:World)(os:OsState):(staticsOk (importedModules pw.main.body) (boot_heap w.params) (H1 w.params)&&namesBound pw (H1 w.params)&&gensDone (H1 w.params,⟨[]⟩,{},971,os)&&laidKept (boot_heap w.params) (H1 w.params))=true:=by rw[PySem.W.Fast.te1032975242618825031,PySem.W.Fast.te14158929756966004236,PySem.W.Fast.te5923862056798008813];rfl'
theorem ahI(w:World)(os:OsState):openSeen qv [] (importedModules pw.main.body) Xt true (H1 w.params,⟨[]⟩,{},971,os)=openGood qv []:=by rw[PySem.W.Fast.te1032975242618825031,PySem.W.Fast.te14158929756966004236,PySem.W.Fast.te5923862056798008813,PySem.W.Fast.te3994408356199485718,PySem.W.Fast.te3154452736318265832,PySem.W.Fast.te4187177175401517315];rfl'
theorem ahJ(w:World):as.map (H1 w.params).get?=(K w.params).map (λp=>-p.2):=by rw[PySem.W.Fast.te14158929756966004236,PySem.W.Fast.te538113369711794958];rfl'
theorem eAs(P:Params):as=(K P).map (·.1):=by rw[PySem.W.Fast.te538113369711794958];rfl'
def hook:Hook:=kHook K as eAs
def left:LeftO pw qv [] Xt hook.obs hook.val 12000:=by show LeftO.of_pieces (boot_open (by rfl') (!1) (λs=>by rfl')) size run (!1) λw=>funext λos=>?_;exact Prod.ext (ahH w os) (Prod.ext (ahI w os) (ahJ w))
end HK
namespace L2
open PySem PySem.Spec PyProof.Rows
variable {x qual:Str}{s s':AI}{u:AN}{p9:AC}{b a C f it dx:AQ}{P:AK}{E Q:AG}{us:AB}{h:Heap}{t' i j n:Nat}{e tg:AO}{ps:AD}{M:Model}{op op':CmpOp}{kindOf:Str->Option NameKind}{ch fp:List AQ}{fd:AJ}{g':Array GenState}{es:AE}{pos':Pos}{body:AF}{mA:AH}{kw:List (Str×AN)}{scope:Scope}
def ae:=@Bool.and_eq_true
def af:=@PySem.wpAny_bind
def ag:=@PySem.Heap.get?_push_of_some
def ah:=@List.length_map
def al:=@List.getElem?_eq_some_iff
def am:=@PySem.wpAny_pure
def av:=@PyProof.Rows.wpS_bind
def aw:=@beq_iff_eq
def ax:=@List.length_append
def ay:=@Nat.le_refl
def aE:=@PySem.Heap.lt_size
def aI:=@List.getElem?_eq_getElem
def aS:=@List.getElem?_map
def aT:=@List.mem_cons_self
def a7:=@PyProof.Rows.wpS_pure
def a8:=@List.size_toArray
def a9:=@Option.map_eq_some_iff
def ba:=@List.mem_singleton
def bb:=@List.mem_cons
def bd:=@PySem.Heap.get?_push_size
def bg:=@List.mem_of_getElem?
def bn:=@List.contains_iff_mem
def bo:=@Option.some.injEq
def bp:=@List.mem_append
def bq:type_of% @Array.length_toList:=@Array.length_toList
def br:=@decide_eq_true_iff
def bv:=@List.length_take
def bP:=@List.mem_cons_of_mem
def bS:=@Nat.lt_of_lt_of_le
def bX:=@List.mem_map
def b6:=@List.append_assoc
def b9:=@List.mem_append_right
def cb:=@Nat.le_trans
def ce:type_of% @List.length_cons:=@List.length_cons
def cf:=@List.drop_eq_getElem_cons
def ci:=@Nat.ne_of_lt
def ck:=@Bool.false_ne_true
def cm:=@PySem.wpAny_mono
def cp:=@decide_eq_true
def cq:=@List.length_drop
def cr:=@List.all_eq_true
def cw:=@decide_eq_false
def cy:=@Option.some.inj
def cK:=@PySem.Heap.size_push
def cS:=@Array.toList_append
def c8:=@PySem.Heap.SameBut.update
def c9:=@List.map_append
def da:=@List.length_set
def db:=@List.map_cons
def dc:=@Nat.le_add_right
def de:=@List.length_replicate
def df:=@Bool.or_eq_true
def dn:=@List.getD_eq_getElem?_getD
def dv:=@List.perm_append_comm
def dy:=@List.take_add_one
def dA:=@Option.isSome_iff_exists
def dE:=@PySem.wpAny_holding
def dL:=@beq_eq_false_iff_ne
def dP:=@List.not_mem_nil
def dQ:=@List.length_eq_zero_iff
def dS:=@Int.eq_ofNat_of_zero_le
def d0:=@PyProof.Rows.wpS_forRange
def eh:=@List.getElem?_set_self
def eA:type_of% @List.filterMap_cons:=@List.filterMap_cons
def eD:=@List.getElem?_eq_none
def eI:=@Nat.lt_succ_of_lt
def eJ:=@PySem.wpAny_loadPart_at
def eK:=@List.mem_append_left
def eL:=@List.cons.injEq
def eM:=@List.append_nil
def eP:=@List.map_map
def eR:=@List.drop_length
def eS:=@PySem.wpAny_rule
def eT:=@PySem.sizeLine_eq
def eW:=@Option.isNone_iff_eq_none
def e6:type_of% @List.replicate_succ:=@List.replicate_succ
def e7:=@Array.getElem?_eq_getElem
def e8:type_of% @Int.toNat_natCast:=@Int.toNat_natCast
def e9:=@List.take_append_drop
def fb:=@Nat.lt_irrefl
def fe:=@PySem.W.kia_one
def ff:=@PySem.wpAny_field
def fg:=@Bool.false_eq_true
def fh:=@PySem.Heap.get?_update_self
def fm:=@Nat.le_succ
def fo:=@List.take_length
def fq:=@List.getElem_mem
def ft:=@List.getElem?_set_ne
def fv:=@PySem.wpAny_call_entry
def fw:=@of_decide_eq_true
def fx:=@List.Perm.refl
def fy:=@PySem.mem_of_lookup
def fA:=@List.nodup_cons
def fE:=@PySem.wpAny_seqItems
def fF:=@PySem.F.called_set
def fN:=@List.filter_append
def fR:=@Array.toList_extract
def fS:=@Bool.not_eq_true'
def fT:=@congrArg
def gc:=@Nat.ne_of_gt
def gd:=@List.take_of_length_le
def ge:type_of% @List.extract_eq_take_drop:=@List.extract_eq_take_drop
def gl:=@PySem.wpAny_truthy_bool
def gp:=@PySem.wpAny_setState_of
def gs:=@PySem.wpAny_newObj_type
def gt:=@PySem.wpAny_callSpecial?_slot
def gu:=@Nat.lt_succ_self
def gx:=@Array.getElem?_eq_some_iff
def gy:=@Array.getElem?_toList
def gz:=@List.findIdx?_eq_some_iff_getElem
def gE:=@List.getElem?_append_left
def gI:=@List.mem_filter
def gL:=@List.Perm.of_eq
def gN:=@PySem.wpAny_setField_rec
def gS:=@Nat.zero_le
def gT:=@Nat.pow_le_pow_right
def gV:=@PyProof.Rows.slot_tuple_getitem
def gX:=@List.map_congr_left
def g0:=@PySem.codeAny_call_builtin
def g6:=@Bool.and_false
def g7:=@PyProof.Rows.wpS_modify
def g9:=@Int.emod_lt_of_pos
def hJ:=@PySem.wpAny_setField
def hV:=@List.length_zip
def hW:=@List.dropLast_concat_getLast
def hX:=@Int.emod_nonneg
def hZ:=@Bool.eq_iff_iff
def ia:type_of% @List.length_nil:=@List.length_nil
def ib:=@List.getElem?_toArray
def ic:=@PyProof.Rows.callWith_type1
def ij:=@Array.toList_push
def im:=@PySem.Heap.get?_update_other
def io:=@or_false
def ip:=@PySem.codeAny_builtin
def iq:=@List.mem_of_mem_take
def iA:=@List.mem_of_mem_drop
def iE:=@Nat.lt_or_ge
def iF:=@PyProof.Rows.F.plain_set_update_loop
def iL:=@Nat.add_sub_cancel'
def iN:=@List.length_pos_iff
def iO:=@PySem.F.slot_tuple_iterator_next
def iP:=@Bool.true_and
def iS:=@PySem.Around.under_plainId
def iX:=@List.Perm.trans
def i0:=@List.findIdx?_cons
def i7:=@PySem.F.plainAttrs_list
def i8:=@List.set_eq_take_append_cons_drop
def i9:type_of% @List.length_singleton:=@List.length_singleton
def ja:=@if_false
def jp:=@List.length_range
def js:=@PySem.wpAny_execs_nil
def jv:=@PySem.wpAny_Call_Name_kw
def jI:=@List.cons_lt_cons_iff
def jS:=@List.mem_flatMap
def ka:=@List.isEmpty_iff
def ke:=@Int.ofNat_inj
def kf:=@Bool.not_true
def ki:=@PySem.wpAny_pyIter_list
def kn:=@PySem.codeAny_mono
def ko:=@PySem.wpAny_standAt
def kq:type_of% @List.flatten_cons:=@List.flatten_cons
abbrev Key:=Sum Int Str
def Cr:Key->AN->Bool
 |.inl k,v=>Value.isInt k v
 |.inr x,v=>Value.isStrOf x v
def Sw(w:World):Key->Int
 |.inl k=>hashInt k
 |.inr x=>hashStr w x
def gw:∀{k:Key}{v:AN},Cr k v=true->(∃i t,k=Sum.inl i/\v=Value.int i t)\/(∃x t,k=Sum.inr x/\v=Value.str x t)
 |.inl i,v,h=>by
  let(t,e):=Value.isInt_shape (k:=i) (v:=v) h;exact .inl (i,t,rfl,e)
 |.inr x,v,h=>by
  let(t,e):=Value.isStrOf_shape (x:=x) (v:=v) h;exact .inr (x,t,rfl,e)
def Sy(a b:Int):decide ((Sum.inl a:Key)=Sum.inl b)=(a==b):=by
 by_cases e:a=b
 .subst e;simp
 .have h:¬(Sum.inl a:Key)=Sum.inl b:=λq=>e (Sum.inl.inj q);rw[cw h];exact(dL.mpr e).symm
def SJ(a b:Str):decide ((Sum.inr a:Key)=Sum.inr b)=decide (a=b):=by
 by_cases e:a=b
 .subst e;simp
 .have h:¬(Sum.inr a:Key)=Sum.inr b:=λq=>e (Sum.inr.inj q);rw[cw h,cw e]
def SN(a:Int)(b:Str):decide ((Sum.inl a:Key)=Sum.inr b)=false:=cw (λq=>nomatch q)
def SQ(a:Str)(b:Int):decide ((Sum.inr a:Key)=Sum.inl b)=false:=cw (λq=>nomatch q)
def vI(prog:AK)(w:World):PySem.KeyKind prog w Key where
 is:=Cr
 hash:=Sw w
 inj:=λv a b O J=>by
  rcases gw O with⟨i,t,rfl,rfl⟩|⟨x,t,rfl,rfl⟩
  .rcases gw J with⟨j,u,rfl,e⟩|⟨y,u,rfl,e⟩
   .injection e with e1 _;rw[e1]
   .exact nomatch e
  .rcases gw J with⟨j,u,rfl,e⟩|⟨y,u,rfl,e⟩
   .exact nomatch e
   .injection e with e1 _;rw[e1]
 byValue:=λk v h=>by
  rcases gw h with⟨i,t,rfl,rfl⟩|⟨x,t,rfl,rfl⟩<;>rfl
 pyHash:=λz h=>by
  rcases gw z with⟨i,t,rfl,rfl⟩|⟨x,t,rfl,rfl⟩
  .exact wpAny_pyHash_int h
  .exact wpAny_pyHash_str h
 eqBool:=λU z h=>by
  rcases gw U with⟨i,t,rfl,rfl⟩|⟨x,t,rfl,rfl⟩
  .rcases gw z with⟨j,u,rfl,rfl⟩|⟨y,u,rfl,rfl⟩
   .rw[Sy]at h;exact wpAny_eqBool_int h
   .rw[SN]at h;exact SeqAt.EqAt.int_str i t y u _ _ _ _ h
  .rcases gw z with⟨j,u,rfl,rfl⟩|⟨y,u,rfl,rfl⟩
   .rw[SQ]at h;exact SeqAt.EqAt.str_int x t j u _ _ _ _ h
   .rw[SJ]at h;exact wpAny_eqBool_str h
 «strs»:=λk x t v h=>by
  rcases gw h with⟨i,u,rfl,e⟩|⟨y,u,rfl,e⟩
  .exact nomatch e
  .injection e with e1 _;subst e1;cases v<;>rfl
set_option genInjectivity true in
inductive V where
 |non |bl (b:Bool) |int (i:Int) |str (x:Str) |byt (b:Array UInt8) |flt (b:UInt64) |ref (a:AQ) |ty (n:AL)
 deriving DecidableEq
variable {y:V}
abbrev AR:=List V
variable {vs:AR}
def RelV:V->AN->Prop
 |.non,u=>u=Value.none
 |.bl b,u=>u=Value.bool b
 |.int i,u=>∃t,u=Value.int i t
 |.str x,u=>∃t,u=Value.str x t
 |.byt b,u=>∃t,u=Value.bytes b t
 |.flt b,u=>∃t,u=Value.float b t
 |.ref a,u=>u=Value.ref a
 |.ty n,u=>u=Value.type n
abbrev Vals:AR->AB->Prop:=Paired RelV
def Vals.length{xs:AR}(r:Vals xs us):xs⁻¹=us⁻¹:=Paired.length r
def Vals.get:∀{xs:AR}{us:AB}{i:Nat}{x:V},Vals xs us->xs[i]?=-x->∃u,us[i]?=-u/\RelV x u
 |_,_,_,_,.nil,e=>by simp at e
 |_,_,0,_,.cons r _,e=>by simp at e;subst e;exact(_,rfl,r)
 |_,_,i+1,x,.cons _ t,e=>by
  let(u,h1,h2):=Vals.get (i:=i) (x:=x) t (!!e);exact(u,!!h1,h2)
def Vals.set{x:V}(r:RelV x u):∀{xs:AR}{us:AB}(i:Nat),Vals xs us->Vals (xs.set i x) (us.set i u)
 |_,_,_,.nil=>.nil
 |_,_,0,.cons _ t=>.cons r t
 |_,_,i+1,.cons q t=>.cons q (Vals.set r i t)
def Vals.append:∀{xs ys:AR}{us y:AB},Vals xs us->Vals ys y->Vals (xs++ys) (us++y)
 |_,_,_,_,.nil,s=>s
 |_,_,_,_,.cons r t,s=>.cons r (Vals.append t s)
def Vals.take:∀{xs:AR}{us:AB}(n:Nat),Vals xs us->Vals (xs.take n) (us.take n)
 |_,_,0,_=>.nil
 |_,_,_+1,.nil=>.nil
 |_,_,n+1,.cons r t=>.cons r (Vals.take n t)
def Vals.drop:∀{xs:AR}{us:AB}(n:Nat),Vals xs us->Vals (xs.drop n) (us.drop n)
 |_,_,0,r=>r
 |_,_,_+1,.nil=>.nil
 |_,_,n+1,.cons _ t=>Vals.drop n t
def RelO:Option V->Option AN->Prop
 |some v,-u=>RelV v u
 |none,none=>True
 |_,_=>False
def KV{κ:Type}:List (κ×V)->List (κ×AN)->Prop:=Paired λ(p:κ×V) (q:κ×AN)=>p.1=q.1/\RelV p.2 q.2
def kV:Key->V
 |.inl i=>.int i
 |.inr x=>.str x
set_option genInjectivity true in
inductive HO where
 |lst (xs:AR)
 |tup (xs:AR)
 |dK (kvs:List (Key×V)) |dT (kvs:List (List Key×V))
 |set (S:Int->Bool) (n:Nat)
 |ins (C dx:AQ) (fs:List (Str×V))
 |own (x:AQ)
 |xd (fs:List (Str×V))
 |met (f x:AQ)
 |rng (lo hi:Int)
 |frz (o:Obj) (u:HO)
 |tbl (ps:Array AN)
 |ext (φ:Heap->Prop)
variable {o:HO}
abbrev Hp:=AQ->Option HO
variable {H:Hp}
def upd(H:Hp)(a:AQ)(o:HO):Hp:=λb=>if b=a then some o else H b
def cu:upd H a o a=-o:=by unfold upd;rw[if_pos rfl]
def aH(h:b≠a):upd H a o b=H b:=by unfold upd;rw[if_neg h]
def Cu{u:HO}(h:H a=-o)(h':H b=-u)(d:o≠u):a≠b:=by intro e;subst e;rw[h]at h';exact d (cy h')
def bw(h:H a=-o)(h':H b=none):a≠b:=by intro e;subst e;rw[h]at h';cases h'
section
variable (P:AK) (w:World)
def ObjOk(H:Hp)(h:Heap)(a:AQ):HO->Prop
 |.lst xs=>xs⁻¹<=sizeLine/\∃(y:AB) (n:Nat),Vals xs y/\h.get? a=-{cls:=.type "list",data:=.seq y.toArray n}
 |.tup xs=>xs⁻¹<=sizeLine/\∃y:AB,Vals xs y/\IsTup h a y.toArray
 |.dK kvs=>kvs⁻¹<=sizeLine/\(a==sysModules)=false/\∃vs,KV kvs vs/\h.DictOf (vI P w) a vs
 |.dT kvs=>kvs⁻¹<=sizeLine/\(a==sysModules)=false/\∃xs:List (List Key×AQ×AN),
   Paired (λ(p:List Key×V) (q:List Key×AQ×AN)=>p.1=q.1/\H q.2.1=-(.tup (p.1.map kV))/\RelV p.2 q.2.2) kvs xs/\
   ∃o es ep,h.get? a=-o/\o.ExactDict/\o.data=.dict es ep/\es.toList=xs.map (entryOfKey (tupleKind (vI P w)))/\(xs.map (·.1)).Nodup
 |.set S n=>h.SetOf (intKind P w) a S n
 |.ins C dx fs=>H dx=-(.own a)/\fs⁻¹<=1000/\dx≠a/\h.get? a=-(PySem.W.instObj C dx)/\
   ∃z,h.Ns1 dx z/\(∀f,RelO (fs.lookup f) (z f))/\PySem.Within z (fs.map (·.1))
 |.own _=>∃o,h.get? a=-o
 |.xd fs=>∃z,h.Ns1 a z/\∀f,RelO (fs.lookup f) (z f)
 |.rng lo hi=>∃t u v,h.get? a=-{cls:=.type "range",data:=.fields #[.int lo t,.int hi u,.int 1 v]}
 |.frz o u=>h.get? a=-o/\ObjOk H h a u
 |.tbl ps=>h.get? a=-{cls:=.none,data:=.fields ps}
 |.met f x=>h.get? a=-(PySem.W.methodObj (.ref f) (.ref x))
 |.ext φ=>φ h/\(∃o,h.get? a=-o)/\∀h1 h2:Heap,φ h1->(∀o,h1.get? a=-o->h2.get? a=-o)->φ h2
def HOk(H:Hp)(h:Heap):Prop:=∀a o,H a=-o->ObjOk P w H h a o
end
section
variable {P:AK} {w:World} {H H':Hp} {h h':Heap} {a:AQ} {o:HO}
def ObjOk.lt(x:ObjOk P w H h a o):a<h.objs.size:=by
 cases o with
 |lst xs=>let(_,_,_,_,e):=x;exact aE e
 |tup xs=>let(_,_,_,p):=x;exact p.lt
 |dK z=>let(_,_,_,_,o,_,_,e,_):=x;exact aE e
 |dT z=>let(_,_,_,_,o,_,_,e,_):=x;exact aE e
 |set S n=>let(o,_,_,_,e,_):=x;exact aE e
 |ins C dx fs=>let(_,_,_,e,_):=x;exact aE e
 |own y=>let(_,e):=x;exact aE e
 |xd fs=>let(_,(_,_,_,e,_),_):=x;exact aE e
 |rng lo hi=>let(_,_,_,e):=x;exact aE e
 |frz ob u=>let(e,_):=x;exact aE e
 |tbl ps=>exact aE (show h.get? a=-_ from x)
 |met f y=>exact aE (show h.get? a=-_ from x)
 |ext J=>let(_,(_,e),_):=x;exact aE e
def Paired.mapP{J O:Type}{F G:J->O->Prop}:∀{y:List J}{z:List O},Paired F y z->(∀a b,F a b->G a b)->Paired G y z
 |_,_,.nil,_=>.nil
 |_,_,.cons r t,f=>.cons (f _ _ r) (Paired.mapP t f)
def ObjOk.stay(x:ObjOk P w H h a o)(k:∀b u,(b=a\/H b=-(.own a))->h.get? b=-u->h'.get? b=-u)(ho:∀b,H b=-(.own a)->H' b=-(.own a))(ht:∀b xs,H b=-(.tup xs)->H' b=-(.tup xs)):ObjOk P w H' h' a o:=by
 induction o with
 |lst xs=>let(z,J,n,r,e):=x;exact(z,J,n,r,k _ _ (.inl rfl) e)
 |tup xs=>let(z,J,r,ob,e,c):=x;exact(z,J,r,ob,k _ _ (.inl rfl) e,c)
 |dK O=>let(z,y,vs,r,ob,es,ep,e,c):=x;exact(z,y,vs,r,ob,es,ep,k _ _ (.inl rfl) e,c)
 |dT O=>
  let(z,y,xs,r,ob,es,ep,e,c):=x;exact(z,y,xs,Paired.mapP r λp q z=>(z.1,ht _ _ z.2.1,z.2.2),ob,es,ep,k _ _ (.inl rfl) e,c)
 |set S n=>let(ob,es,ep,t,e,c):=x;exact(ob,es,ep,t,k _ _ (.inl rfl) e,c)
 |ins C dx fs=>
  let(d,z,ne,e,U,(od,es,ep,Y,c),r):=x;exact(ho _ d,z,ne,k _ _ (.inl rfl) e,U,(od,es,ep,k _ _ (.inr d) Y,c),r)
 |own y=>let(ob,e):=x;exact(ob,k _ _ (.inl rfl) e)
 |xd fs=>let(U,(od,es,ep,e,c),r):=x;exact(U,(od,es,ep,k _ _ (.inl rfl) e,c),r)
 |rng lo hi=>let(t,u,v,e):=x;exact(t,u,v,k _ _ (.inl rfl) e)
 |frz ob u ih=>let(e,q):=x;exact(k _ _ (.inl rfl) e,ih q)
 |tbl ps=>
  have e:h.get? a=-{cls:=.none,data:=.fields ps}:=x;change h'.get? a=-{cls:=.none,data:=.fields ps};exact k a _ (.inl rfl) e
 |met f y=>
  have e:h.get? a=-(PySem.W.methodObj (.ref f) (.ref y)):=x;change h'.get? a=-(PySem.W.methodObj (.ref f) (.ref y));exact k a _ (.inl rfl) e
 |ext φ=>let(p,(o,e),st):=x;exact(st _ _ p λo q=>k _ _ (.inl rfl) q,(o,k _ _ (.inl rfl) e),st)
def HOk.lt(x:HOk P w H h)(e:H a=-o):a<h.objs.size:=(x a o e).lt
def HOk.fresh(x:HOk P w H h)(e:h.objs.size<=a):H a=none:=by
 cases q:H a with
 |none=>rfl
 |some u=>exact absurd (bS (x.lt q) e) (fb _)
def HOk.kept(x:HOk P w H h)(k:∀b u,h.get? b=-u->h'.get? b=-u):HOk P w H h':=λa o e=>
 (x a o e).stay (λb u z q=>k b u q) (λz q=>q) λz z q=>q
def HOk.laid(x:HOk P w H h)(k:∀b u,h.get? b=-u->h'.get? b=-u)(z:h.objs.size<=a)(new:ObjOk P w (upd H a o) h' a o):HOk P w (upd H a o) h':=λb u e=>by
 have hn:=x.fresh z;by_cases y:b=a
 .subst y;rw[cu]at e;cases e;exact new
 .rw[aH y]at e;exact(x b u e).stay (λc v t q=>k c v q) (λc q=>by rw[aH (bw q hn)];exact q) λc xs q=>by rw[aH (bw q hn)];exact q
end
def Rd(H:Hp)(a:AQ)(u:HO):Prop:=H a=-u\/∃o,H a=-(.frz o u)
def Rd.ok{w:World}{u:HO}(r:Rd H a u)(x:HOk P w H h):ObjOk P w H h a u:=by
 rcases r with r|⟨o,r⟩
 .exact x a u r
 .let(_,q):=x a _ r;exact q
def Mut:Option HO->Prop
 |some (.lst _)=>True
 |some (.dK _)=>True
 |some (.dT _)=>True
 |some (.set _ _)=>True
 |some (.ins _ _ _)=>True
 |some (.ext _)=>True
 |_=>False
section
variable {P:AK} {w:World} {H:Hp} {h h':Heap} {x e:AQ} {o':HO}
def HOk.write(ok:HOk P w H h)(mu:Mut (H x))(he:e=x\/H e=-(.own x))(k:∀b u,b≠e->h.get? b=-u->h'.get? b=-u)(heo:∃u,h'.get? e=-u)(new:ObjOk P w (upd H x o') h' x o'):HOk P w (upd H x o') h':=λb u q=>by
 have O:∀c y,H c=-(.own y)->c≠x:=λc y r z=>by subst z;rw[r]at mu;exact mu
 have U:∀c xs,H c=-(.tup xs)->c≠x:=λc xs r z=>by subst z;rw[r]at mu;exact mu
 by_cases Y:b=x
 .subst Y;rw[cu]at q;cases q;exact new
 .rw[aH Y]at q;by_cases J:b=e
  .have q':H b=-(.own x):=by
    rcases he with z|z
    .exact absurd (J.trans z) Y
    .rw[J];exact z
   rw[q]at q';cases q';let(v,hv):=heo;exact(v,by rw[J];exact hv)
  .show (ok b u q).stay (λc v hc r=>k c v ?_ r) (λc r=>by rw[aH (O c b r)];exact r) λc xs r=>by rw[aH (U c xs r)];exact r
   rcases hc with rfl|hc
   .exact J
   .rintro rfl;rcases he with z|z
    .exact O c b hc z
    .rw[hc]at z;cases z;exact Y rfl
end
structure Un(fs ex:List AQ)(H H':Hp)(h h':Heap):Prop where
 keep:∀b o,h.get? b=some o->H b=none->b∉fs->b∉ex->h'.get? b=some o
 slot:∀b o,h.get? b=some o->H b=none->b∈fs->b∉ex->∃sl,h'.get? b=some { o with slots:=sl }
 free:∀b o,h.get? b=some o->H b=none->b∉ex->H' b=none
 there:∀b o,h.get? b=some o->b∉ex->∃o',h'.get? b=some o'
 tups:∀b xs,H b=some (.tup xs)->H' b=some (.tup xs)
 frzs:∀b o u,H b=some (.frz o u)->H' b=some (.frz o u)
 tbls:∀b ps,H b=some (.tbl ps)->∃more,H' b=some (.tbl (ps++more))
section
variable {fs fs' ex ex':List AQ} {H H1 H2:Hp} {h h1 h2 h':Heap} {a x e:AQ} {o:HO}
def Un.any(u:Un fs ex H H1 h h1){ob:Obj}(q:h.get? b=-ob)(n:H b=none)(z:b∉ex):∃J,h1.get? b=-{ob with slots:=J}:=by
 by_cases y:b∈fs
 .exact u.slot b ob q n y z
 .exact (ob.slots,u.keep b ob q n y z)
def Un.kept(k:∀b u,h.get? b=-u->h'.get? b=-u):Un fs ex H H h h':=
 (λb ob q z z z=>k b ob q,λb ob q z z z=>(ob.slots,k b ob q),λz z z n z=>n,λb ob q z=>(ob,k b ob q),λz z q=>q,λz z z q=>q,λz ps q=>(#[],by rw[q];simp))
def Un.refl:Un fs ex H H h h:=Un.kept λz z q=>q
def Un.laid(k:∀b u,h.get? b=-u->h'.get? b=-u)(y:h.objs.size<=a)(hn:H a=none):Un fs ex H (upd H a o) h h' where
 keep:=λb u q z z z=>k b u q
 slot:=λb u q z z z=>(u.slots,k b u q)
 free:=λb u q n z=>by rw[aH (ci (bS (aE q) y))];exact n
 there:=λb u q z=>(u,k b u q)
 tups:=λb xs q=>by rw[aH (bw q hn)];exact q
 frzs:=λb u xs q=>by rw[aH (bw q hn)];exact q
 tbls:=λb ps q=>(#[],by rw[aH (bw q hn),q];simp)
def Un.write(J:Mut (H x))(he:e=x\/H e=-(.own x))(k:∀b u,b≠e->h.get? b=-u->h'.get? b=-u)(O:∃u,h'.get? e=-u):Un fs ex H (upd H x o) h h':=by
 have hx:∀b,H b=none->b≠x:=λb n z=>by subst z;rw[n]at J;exact J
 have Y:∀b,H b=none->b≠e:=λb n z=>by
  subst z;rcases he with r|r
  .exact hx b n r
  .rw[n]at r;cases r
 have U:∀b u,H b=-u->¬Mut (-u)->b≠x:=λb u q nm z=>by subst z;rw[q]at J;exact nm J
 show(λb u q n v v=>k b u (Y b n) q,λb u q n v v=>(u.slots,k b u (Y b n) q),λb u q n v=>by rw[aH (hx b n)];exact n,λb u q v=>?_,
  λb xs q=>by rw[aH (U b _ q λz=>z)];exact q,λb u xs q=>by rw[aH (U b _ q λz=>z)];exact q,λb ps q=>(#[],by rw[aH (U b _ q λz=>z),q];simp))
 by_cases y:b=e
 .subst y;exact O
 .exact (u,k b u y q)
end
def trk(h:Heap)(H:Hp):List AQ:=(List.range h.objs.size).filter λa=>(H a).isSome
def gA(h:Heap)(H:Hp):Heap:=PySem.W.hideAll h (trk h H)
def SX(h:Heap)(H:Hp):(gA h H).objs.size=h.objs.size:=PySem.W.hideAll_size _ _
def S5{o:Obj}(e:h.get? b=-o)(n:H b=none):(gA h H).get? b=-o:=
 PySem.W.hideAll_get _ e λy=>by
  have q:(H b).isSome=true:=(gI.mp y).2;rw[n]at q;simp at q
def S6{o:Obj}(e:(gA h H).get? b=-o):h.get? b=-o/\H b=none:=by
 have y:h.get? b=-o:=PySem.W.of_hideAll (trk h H) e;show(y,?_);cases q:H b with
 |none=>rfl
 |some x=>
  have J:b∈trk h H:=gI.mpr (List.mem_range.mpr (aE y),by simp[q]);have z:(gA h H).get? b=none:=PySem.W.hideAll_none (trk h H) J;rw[z]at e;cases e
def S7(g h:Heap)(L:AQ):AC:=(List.range h.objs.size).filterMap λa=>if a=L\/(g.get? a).isSome=true then none else(h.get? a).map λo=>(a,o)
def rest(g h:Heap)(L d:AQ):AC:=(S7 g h L).filter λp=>decide (p.1≠d)
structure Mod(K:PF)(mg:AH)(base:Heap):Prop where
 kin:K.In base
 glob:base.Ns mainGlobals mg
 blt:∃mb,base.Ns builtinsNs mb/\∀x:Str,x≠"__name__"->mb x=bootBuiltins x
 nolimit:base.NoLimit
structure Cx where
 prog:AK
 w:World
 K:PF
 mg:Str->Option AN
 base:Heap
 A:AM
 N:AD
 s₀:AI
 H₀:Hp
 env:Env
 outer:List Env
 stack:List Env
 ex:List AQ
 fn:Str->Bool
 calm:Bool
 pn:AC
 xe:AN->AI->Prop
variable {X:Cx}
def frs(l:List Env):List AQ:=l.filterMap (·.frame)
abbrev Cx.fs(X:Cx):List AQ:=frs X.outer
def Vis(y:Scope)(x:Str):Prop:=y.names.lookup x=-.local\/y.names.lookup x=-.cell\/y.names.lookup x=-.free
def Loc(y:Scope)(x:Str):Prop:=y.names.lookup x=-.local\/y.names.lookup x=-.cell
def Look(env:Env)(h:Heap)(m:AH)(x:Str)(u:AN):Prop:=
 (env.kindOf x=-.local/\m x=-u)\/((env.kindOf x=-.cell\/env.kindOf x=-.free)/\∃c,env.cells.lookup x=-c/\h.IsCell c (-u))
structure Cx.Ok(X:Cx):Prop where
 mod:Mod X.K X.mg X.base
 kind:X.env.scope.kind=.function
 glob:X.env.globals=mainGlobals
 blt:X.env.builtins=builtinsNs
 above:X.s₀.heap.objs.size<=X.env.locals
 inj:∀x y c,X.env.cells.lookup x=some c->X.env.cells.lookup y=some c->x=y
 has:∀x,(X.env.kindOf x=some .cell\/X.env.kindOf x=some .free)->∃c,X.env.cells.lookup x=some c
 cab:∀x c,X.fn x=true->X.env.cells.lookup x=some c->X.s₀.heap.objs.size<=c
 hd:X.calm=true->X.A.handled=none
 frames:X.A.frames=some X.stack
 stk:X.stack=X.outer\/(X.stack=X.env::X.outer/\X.env.frame=some X.env.locals)
 exf:∀b∈X.ex,b≠X.env.locals/\∀x c,X.env.cells.lookup x=some c->c≠b
 bs:∀b o,X.base.get? b=some o->X.s₀.heap.get? b=some o/\X.H₀ b=none
 bsz:X.base.objs.size<=X.s₀.heap.objs.size
 noex:∀b o,X.base.get? b=some o->b∉X.ex
 exfs:∀b∈X.ex,b∉X.fs
 funs:X.s₀.heap.FunFrames X.base X.outer
 frf:∀b∈X.fs,X.H₀ b=none
structure Inv(X:Cx)(p9:AC)(Y:List (Option V))(H:Hp)(s:AI):Prop where
 ok:X.Ok
 os:s.os=X.s₀.os
 bare:AllBare s.gens
 base:Un X.fs X.ex X.H₀ H X.s₀.heap s.heap
 loc:∃m,s.heap.Ns X.env.locals m/\∀(i:Nat)(x:Str)(v:V),X.N[i]?=some x->Y[i]?=some (some v)->Vis X.env.scope x->∃u,RelV v u/\Look X.env s.heap m x u
 cell:∀x c,X.env.cells.lookup x=some c->∃v,s.heap.IsCell c v
 free:H X.env.locals=none
 freeC:∀x c,X.env.cells.lookup x=some c->H c=none
 pin:∀p∈X.pn++p9,s.heap.get? p.1=some p.2/\H p.1=none/\p.1≠X.env.locals/\p.1∉X.fs/\∀v,p.2.data≠.cell v
 hok:HOk X.prog X.w H s.heap
 len:Y.length=X.N.length
section
variable {X:Cx} {p9:AC} {σ:List (Option V)} {H H':Hp} {s:AI} {h':Heap}
def Cx.Ok.nofr(ok:X.Ok){o:Obj}(e:X.base.get? b=-o):b∉X.fs:=λy=>by
 have:=(ok.funs.mem y).1;rw[e]at this;cases this
def Inv.bs(I:Inv X p9 σ H s):∀b o,X.base.get? b=-o->s.heap.get? b=-o/\H b=none:=λb o e=>
 (I.base.keep b o (I.ok.bs b o e).1 (I.ok.bs b o e).2 (I.ok.nofr e) (I.ok.noex b o e),I.base.free b o (I.ok.bs b o e).1 (I.ok.bs b o e).2 (I.ok.noex b o e))
def Inv.bk(I:Inv X p9 σ H s):∀b o,X.base.get? b=-o->s.heap.get? b=-o:=λb o e=>(I.bs b o e).1
def Inv.mod(I:Inv X p9 σ H s):Mod X.K X.mg X.base:=I.ok.mod
def Inv.kIn(I:Inv X p9 σ H s):X.K.In s.heap:=I.ok.mod.kin.keeps I.bk
def Inv.lt(I:Inv X p9 σ H s):X.env.locals<(~~~s):=let(_,hn,_):=I.loc;hn.lt
def Inv.sz(I:Inv X p9 σ H s):X.s₀.heap.objs.size<=(~~~s):=cb I.ok.above (Nat.le_of_lt I.lt)
def Inv.nofs(I:Inv X p9 σ H s)(h:(~~~s)<=a):a∉X.fs:=λy=>by
 let(_,o,ho,_):=I.ok.funs.mem y;exact absurd (bS (aE ho) (cb I.sz h)) (fb _)
def Inv.cne(I:Inv X p9 σ H s):∀x c,X.env.cells.lookup x=-c->c≠X.env.locals:=λx c e z=>by
 let(v,o,ho,hd):=I.cell x c e;let(m,(o',es,ep,J,y,_),_):=I.loc;rw[z,J]at ho;cases ho;rw[y]at hd;cases hd
def Inv.funs(I:Inv X p9 σ H s):s.heap.FunFrames X.base X.outer:=by
 have all:∀(l:List Env),(∀b∈frs l,b∈X.fs)->X.s₀.heap.FunFrames X.base l->s.heap.FunFrames X.base l:=by
  intro l;induction l with
  |nil=>intro _ _;trivial
  |cons env r ih=>
   intro hs hl;let(U,(L,o,O,hn,ho,hd),Y):=hl;have y:L∈X.fs:=hs L (by unfold frs;rw[eA,O];exact aT);let(sl,e):=I.base.slot L o ho (I.ok.frf L y) y λz=>I.ok.exfs L z y;exact(U,(L,_,O,hn,e,hd),ih (λb J=>hs b (by unfold frs;rw[eA,O];exact bP _ J)) Y)
 exact all X.outer (λx J=>J) I.ok.funs
def Inv.stack(I:Inv X p9 σ H s):s.heap.FunFrames X.base X.stack:=by
 rcases I.ok.stk with e|⟨e,y⟩
 .rw[e];exact I.funs
 .rw[e];let(m,hn,_):=I.loc;show .cons (by rw[I.ok.kind];decide) y hn ?_ I.funs;exact Heap.get?_none_of_le (cb I.ok.bsz I.ok.above)
def Inv.stkSub(I:Inv X p9 σ H s):∀b∈frs X.stack,b∈X.env.locals::X.fs:=λb y=>by
 rcases I.ok.stk with e|⟨e,z⟩
 .rw[e]at y;exact bP _ y
 .rw[e]at y;unfold frs at y;rw[eA,z]at y;exact y
def Inv.stkFree(I:Inv X p9 σ H s):∀b∈frs X.stack,H b=none:=λb y=>by
 rcases bb.mp (I.stkSub b y) with e|y
 .rw[e];exact I.free
 .let(_,o,ho,_):=I.ok.funs.mem y;exact I.base.free b o ho (I.ok.frf b y) λz=>I.ok.exfs b z y
def Inv.step{d':Drawn}(I:Inv X p9 σ H s)(O:∀b∈ch,(b∈X.ex\/X.s₀.heap.objs.size<=b)/\b≠X.env.locals/\(∀x c,X.env.cells.lookup x=-c->c≠b)/\∀p∈X.pn++p9,p.1≠b)(keep:∀b o,b≠X.env.locals->b∉X.fs->b∉ch->s.heap.get? b=-o->H b=none->h'.get? b=-o)(slot:∀b o,b≠X.env.locals->b∈X.fs->b∉ch->s.heap.get? b=-o->H b=none->∃sl,h'.get? b=-{o with slots:=sl})(free:∀b o,b∉ch->s.heap.get? b=-o->H b=none->H' b=none)(there:∀b o,b∉ch->s.heap.get? b=-o->∃o',h'.get? b=-o')(tups:∀b xs,H b=-(.tup xs)->H' b=-(.tup xs))(frzs:∀b o u,H b=-(.frz o u)->H' b=-(.frz o u))(tbls:∀b ps,H b=-(.tbl ps)->∃more,H' b=-(.tbl (ps++more)))(ns:∀m,s.heap.Ns X.env.locals m->h'.Ns X.env.locals m)(hok:HOk X.prog X.w H' h')(hg:AllBare g'):
  Inv X p9 σ H' {s with heap:=h',gens:=g',drawn:=d',toks:=t'}:=by
 have neL:∀b o,X.s₀.heap.get? b=-o->b≠X.env.locals:=λb o e=>ci (bS (aE e) I.ok.above);have neC:∀b o,X.s₀.heap.get? b=-o->b∉X.ex->b∉ch:=λb o e y hb=>by
  rcases(O b hb).1 with z|z
  .exact y z
  .exact absurd (bS (aE e) z) (fb _)
 have J:∀x c,X.env.cells.lookup x=-c->∀v,s.heap.IsCell c v->h'.IsCell c v:=λx c e v zZ=>by
  let(o,ho,hd):=zZ;have U:c∉ch:=λz=>(O c z).2.2.1 x c e rfl;by_cases hc:c∈X.fs
  .let(sl,q):=slot c o (I.cne x c e) hc U ho (I.freeC x c e);exact(_,q,hd)
  .exact (o,keep c o (I.cne x c e) hc U ho (I.freeC x c e),hd)
 show(I.ok,I.os,hg,(λb o e n hb y=>?_,λb o e n hb y=>?_,λb o e n y=>?_,λb o e y=>?_,λb xs e=>tups b xs (I.base.tups b xs e),λb o xs e=>frzs b o xs (I.base.frzs b o xs e),λb ps e=>?_),?_,λx c e=>?_,?_,λx c e=>?_,λp hp=>?_,hok,I.len)
 .exact keep b o (neL b o e) hb (neC b o e y) (I.base.keep b o e n hb y) (I.base.free b o e n y)
 .let(sl,Y):=I.base.slot b o e n hb y;let(sl',e2):=slot b _ (neL b o e) hb (neC b o e y) Y (I.base.free b o e n y);exact(sl',e2)
 .let(o',Y):=I.base.there b o e y;exact free b o' (neC b o e y) Y (I.base.free b o e n y)
 .let(o',Y):=I.base.there b o e y;exact there b o' (neC b o e y) Y
 .let(m1,Y):=I.base.tbls b ps e;let(m2,e2):=tbls b _ Y;exact(m1++m2,by rw[e2,Array.append_assoc])
 .let(m,hn,hl):=I.loc;show(m,ns m hn,λi x v Y e2 e3=>?_);let(u,r,l):=hl i x v Y e2 e3;show(u,r,?_);rcases l with l|⟨k,c,e,z⟩
  .exact .inl l
  .exact .inr (k,c,e,J x c e _ z)
 .let(v,z):=I.cell x c e;exact(v,J x c e v z)
 .let(m,(o,_,_,ho,_),_):=I.loc;exact free _ o (λz=>(O _ z).2.1 rfl) ho I.free
 .let(v,o,ho,hd):=I.cell x c e;exact free c o (λz=>(O c z).2.2.1 x c e rfl) ho (I.freeC x c e)
 .let(e,n,ne,nf,d):=I.pin p hp;have U:p.1∉ch:=λz=>(O p.1 z).2.2.2 p hp rfl;exact(keep p.1 p.2 ne nf U e n,free p.1 p.2 U e n,ne,nf,d)
def Inv.un(I:Inv X p9 σ H s)(u:Un X.fs [] H H' s.heap h')(U:HOk X.prog X.w H' h'):Inv X p9 σ H' {s with heap:=h',toks:=t'}:=by
 let(m,(o,es,ep,ho,r),_):=id I.loc;let(sl,Y):=u.any ho I.free (!2);exact I.step (g':=s.gens) (d':=s.drawn) (ch:=[]) (λx z=>nomatch z) (λb o x O x e n=>u.keep b o e n O (!2)) (λb o x O x e n=>u.slot b o e n O (!2)) (λb o x e n=>u.free b o e n (!2)) (λb o x e=>u.there b o e (!2)) u.tups u.frzs u.tbls (λm' hm=>by
  let(o',es',J,y,r'):=hm;rw[ho]at y;cases y;exact(_,es',J,Y,r')) U I.bare
def Inv.call{d':Drawn}(I:Inv X p9 σ H s)(u:Un (frs X.stack) ch H H' s.heap h')(Y:HOk X.prog X.w H' h')(hg:AllBare g')(y:∀b∈ch,(b∈X.ex\/X.s₀.heap.objs.size<=b)/\b≠X.env.locals/\(∀x c,X.env.cells.lookup x=-c->c≠b)/\∀p∈X.pn++p9,p.1≠b):
  Inv X p9 σ H' {s with heap:=h',gens:=g',drawn:=d',toks:=t'}:=by
 let(m,(o,es,ep,ho,r),_):=id I.loc;let(sl,U):=u.any ho I.free λz=>(y _ z).2.1 rfl;exact I.step (ch:=ch) y (λb o U hb hc e n=>u.keep b o e n (λz=>(bb.mp (I.stkSub b z)).elim U hb) hc) (λb o v v hc e n=>u.any e n hc) (λb o hc e n=>u.free b o e n hc) (λb o hc e=>u.there b o e hc) u.tups u.frzs u.tbls (λm' hm=>by
  let(o',es',O,J,r'):=hm;rw[ho]at J;cases J;exact(_,es',O,U,r')) Y hg
def Inv.turned(I:Inv X p9 σ H s)(k:∀b o,b≠it->s.heap.get? b=-o->h'.get? b=-o)(hn:H it=none)(J:it≠X.env.locals)(h1:it∈X.ex\/X.s₀.heap.objs.size<=it)(h2:∀x c,X.env.cells.lookup x=-c->c≠it)(O:∀p∈X.pn++p9,p.1≠it):Inv X p9 σ H {s with heap:=h',toks:=t'}:=by
 have y:∀b u,H b=-u->b≠it:=λb u e z=>by rw[z,hn]at e;cases e
 show I.step (g':=s.gens) (d':=s.drawn) (ch:=[it]) (λb U=>?_) (λb o t t hc e t=>k b o (λz=>hc (by simp[z])) e) (λb o t t hc e t=>(o.slots,k b o (λz=>hc (by simp[z])) e)) (λt t t t n=>n)
  (λb o hc e=>(o,k b o (λz=>hc (by simp[z])) e)) (λt t e=>e) (λt t t e=>e) (λb ps e=>(#[],by rw[e];simp)) (λm Y=>?_) (λb u e=>?_) I.bare
 .have e:b=it:=by simpa using U
  subst e;exact(h1,J,h2,O)
 .let(o,es,ep,ho,r):=Y;exact(o,es,ep,k _ o (Ne.symm J) ho,r)
 .show (I.hok b u e).stay (λc v hc q=>k c v ?_ q) (λt q=>q) λt t q=>q;rcases hc with z|z
  .rw[z];exact y b u e
  .exact y c _ z
def Inv.tok(I:Inv X p9 σ H s)(t:Nat):Inv X p9 σ H {s with toks:=t}:=I.un (h':=s.heap) (t':=t) Un.refl I.hok
def Inv.kept(I:Inv X p9 σ H s)(k:∀b u,s.heap.get? b=-u->h'.get? b=-u):Inv X p9 σ H {s with heap:=h',toks:=t'}:=I.un (Un.kept k) (I.hok.kept k)
def Inv.laid(I:Inv X p9 σ H s)(k:∀b u,s.heap.get? b=-u->h'.get? b=-u)(y:(~~~s)<=a)(new:ObjOk X.prog X.w (upd H a o) h' a o):
  Inv X p9 σ (upd H a o) {s with heap:=h',toks:=t'}:=I.un (Un.laid k y (I.hok.fresh y)) (I.hok.laid k y new)
def Inv.write{x e:AQ}(I:Inv X p9 σ H s)(z:Mut (H x))(he:e=x\/H e=-(.own x))(k:∀b u,b≠e->s.heap.get? b=-u->h'.get? b=-u)(y:∃u,h'.get? e=-u)(new:ObjOk X.prog X.w (upd H x o) h' x o):Inv X p9 σ (upd H x o) {s with heap:=h',toks:=t'}:=I.un (Un.write z he k y) (I.hok.write z he k y new)
def Inv.pins_of{y:AC}(I:Inv X p9 σ H s)(h:∀p∈y,s.heap.get? p.1=-p.2/\H p.1=none/\p.1≠X.env.locals/\p.1∉X.fs/\∀v,p.2.data≠.cell v):Inv X y σ H s:=
 (I.ok,I.os,I.bare,I.base,I.loc,I.cell,I.free,I.freeC,λp J=>(bp.mp J).elim (λz=>I.pin p (eK _ z)) (h p),I.hok,I.len)
def vJ{N:AD}(J:N.Nodup)(a:N[i]?=-x)(b:N[j]?=-x):i=j:=by let(h1,y):=al.mp a;let(h2,z):=al.mp b;exact(List.getElem_inj J).mp (y.trans z.symm)
def S8{A:AM}{v:V}{Q:Unit->AI->Prop}(I:Inv X p9 σ H s)(hN:X.N.Nodup)(hi:X.N[i]?=-x)(U:Loc X.env.scope x)(r:RelV v u)(h:∀s',Inv X p9 (σ.set i (-v)) H s'->(∃a,Heap.SameBut a s.heap s'.heap/\(a=X.env.locals\/X.env.cells.lookup x=-a))->Q () s')(hf:X.fn x=true\/X.env.scope.names.lookup x=-.local:=by first|exact .inl rfl|exact .inr rfl|assumption):wpAny M A (storeName X.env x u) Q E s:=by
 let(m,hn,hl):=id I.loc;have hcls:(X.env.scope.kind==.class||(X.env.scope.kind==.module&&X.env.locals != X.env.globals))=false:=by rw[I.ok.kind];rfl
 have hiσ:i<σ.length:=by rw[I.len];exact(al.mp hi).1
 have cne:=I.cne;have O:∀{a:AQ}{h':Heap},(∃o,s.heap.get? a=-o/\H a=none)->Heap.SameBut a s.heap h'->HOk X.prog X.w H h':=λ{a h'} ha hs b ob e=>by
  let(_,_,Y):=ha;show(I.hok b ob e).stay (λc w' hc q=>(hs.2 c ?_).trans q) (λt q=>q) λt t q=>q;rintro rfl;rcases hc with rfl|hc
  .rw[Y]at e;cases e
  .rw[Y]at hc;cases hc
 rcases U with hk|hk
 .show wpAny_storeName_local hk hn (λh' hn' hs=>?_) hcls;let(oL,_,_,hoL,_):=id hn;show h _ (I.ok,I.os,I.bare,(λb o e n hb U=>?_,λb o e n hb U=>?_,I.base.free,λb o e U=>?_,I.base.tups,I.base.frzs,I.base.tbls),(_,hn',λj y v' J e2 e3=>?_),λy c e=>?_,I.free,I.freeC,λp hp=>?_,O (oL,hoL,I.free) hs,!!I.len) (_,hs,.inl rfl)
  .exact (hs.2 b (ci (bS (aE e) I.ok.above))).trans (I.base.keep b o e n hb U)
  .let(sl,J):=I.base.slot b o e n hb U;exact(sl,(hs.2 b (ci (bS (aE e) I.ok.above))).trans J)
  .let(o',J):=I.base.there b o e U;exact(o',(hs.2 b (ci (bS (aE e) I.ok.above))).trans J)
  .by_cases hj:j=i
   .subst hj;rw[hi]at J;cases J;rw[eh hiσ]at e2;cases e2;exact(u,r,.inl (hk,!2))
   .rw[ft (Ne.symm hj)]at e2;let(u',r',q):=hl j y v' J e2 e3;show(u',r',?_);rcases q with⟨k,e⟩|⟨k,c,e,z⟩
    .show .inl (k,?_);have:y≠x:=λe=>hj (vJ hN J (e ▸ hi));simp[this,e]
    .exact .inr (k,c,e,z.sameBut hs (cne y c e))
  .let(w',z):=I.cell y c e;exact(w',z.sameBut hs (cne y c e))
  .let(e,n,ne,nf,d):=I.pin p hp;exact((hs.2 p.1 ne).trans e,n,ne,nf,d)
 .have hfn:X.fn x=true:=by
   rcases hf with z|z
   .exact z
   .rw[z]at hk;cases hk
  let(c,hc):=I.ok.has x (.inl hk);let(w',z):=I.cell x c hc;show wpAny_storeName_cell I.ok.kind hk hc z (λh' hc' hs=>?_);let(oc,hoc,hocd):=id z;show h {s with heap:=h'} (I.ok,I.os,I.bare,(λb o e n hb U=>?_,λb o e n hb U=>?_,I.base.free,λb o e U=>?_,I.base.tups,I.base.frzs,I.base.tbls),(m,hn.sameBut hs (Ne.symm (cne x c hc)),λj y v' J e2 e3=>?_),λy c' e=>?_,I.free,I.freeC,λp hp=>?_,O (oc,hoc,I.freeC x c hc) hs,!!I.len) (c,hs,.inr hc)
  .exact (hs.2 b (ci (bS (aE e) (I.ok.cab x c hfn hc)))).trans (I.base.keep b o e n hb U)
  .let(sl,J):=I.base.slot b o e n hb U;exact(sl,(hs.2 b (ci (bS (aE e) (I.ok.cab x c hfn hc)))).trans J)
  .let(o',J):=I.base.there b o e U;exact(o',(hs.2 b (ci (bS (aE e) (I.ok.cab x c hfn hc)))).trans J)
  .by_cases hj:j=i
   .subst hj;rw[hi]at J;cases J;rw[eh hiσ]at e2;cases e2;exact(u,r,.inr (.inl hk,c,hc,hc'))
   .rw[ft (Ne.symm hj)]at e2;let(u',r',q):=hl j y v' J e2 e3;show(u',r',?_);rcases q with q|⟨k,c',e,z'⟩
    .exact .inl q
    .show .inr (k,c',e,z'.sameBut hs ?_);rintro rfl;exact hj (vJ hN J (I.ok.inj _ _ _ e hc ▸ hi))
  .by_cases hcc:c'=c
   .subst hcc;exact(_,hc')
   .let(w2,z2):=I.cell y c' e;exact(w2,z2.sameBut hs hcc)
  .let(e,n,ne,nf,d):=I.pin p hp;show((hs.2 p.1 ?_).trans e,n,ne,nf,d);intro q;rw[q,hoc]at e;have q':oc=p.2:=cy e;exact d w' (by rw[<-q'];exact hocd)
def jA{A:AM}{v:V}{Q:Unit->AI->Prop}(I:Inv X p9 σ H s)(z:X.N.Nodup)(hi:X.N[i]?=-x)(O:Loc X.env.scope x)(r:RelV v u)(h:∀s',Inv X p9 (σ.set i (-v)) H s'->Q () s')(J:X.fn x=true\/X.env.scope.names.lookup x=-.local:=by first|exact .inl rfl|exact .inr rfl|assumption):wpAny M A (storeName X.env x u) Q E s:=
 S8 I z hi O r (λs' y t=>h s' y) J
def Inv.call'(I:Inv X p9 σ H s)(ho:s'.os=s.os)(u:Un (frs X.stack) ch H H' s.heap s'.heap)(z:HOk X.prog X.w H' s'.heap)(J:AllBare s'.gens)(y:∀b∈ch,(b∈X.ex\/X.s₀.heap.objs.size<=b)/\b≠X.env.locals/\(∀x c,X.env.cells.lookup x=-c->c≠b)/\∀p∈X.pn++p9,p.1≠b):Inv X p9 σ H' s':=by
 let(h',g',d',t',o'):=s';have e:o'=s.os:=ho;subst e;exact I.call (g':=g') (t':=t') (d':=d') u z J y
end
abbrev XK:=AN->Option AQ->Hp->Prop
abbrev St:=List (Option V)
variable {Y:St}
abbrev VK:=V->Hp->Prop
abbrev TE:=St->Hp->VK->Prop
variable {te:TE}
abbrev TT:=St->Hp->(Bool->Hp->Prop)->Prop
abbrev TA:=St->Hp->(AR->Hp->Prop)->Prop
structure Ends where
 nx:St->Hp->Prop
 rt:VK
 bk:St->Hp->Prop:=λz z=>False
 ct:St->Hp->Prop:=λz z=>False
abbrev TS:=Ends->St->Hp->Prop
def EP(X:Cx)(p9:AC)(Y:St)(Q:VK)(u:AN)(s':AI):Prop:=∃v H',Inv X p9 Y H' s'/\RelV v u/\Q v H'
def TP(X:Cx)(p9:AC)(Y:St)(Q:Bool->Hp->Prop)(b:Bool)(s':AI):Prop:=∃H',Inv X p9 Y H' s'/\Q b H'
def AP(X:Cx)(p9:AC)(Y:St)(Q:AR->Hp->Prop)(us:AB)(s':AI):Prop:=∃vs H',Inv X p9 Y H' s'/\Vals vs us/\Q vs H'
def SP(X:Cx)(p9:AC)(D:Ends)(f:Flow)(s':AI):Prop:=
 match f with
 |.next=>∃y H',Inv X p9 y H' s'/\D.nx y H'
 |.brk=>∃y H',Inv X p9 y H' s'/\D.bk y H'
 |.cont=>∃y H',Inv X p9 y H' s'/\D.ct y H'
 |.ret u=>∃v y H',Inv X p9 y H' s'/\RelV v u/\D.rt v H'
def PE(X:Cx)(e:AO)(t:TE):Prop:=
 ∀(p9:AC)(s:AI)(Y:St)(H:Hp)(Q:VK),Inv X p9 Y H s->t Y H Q->↥X (eval e X.env) (EP X p9 Y Q) X.xe s
def PT(X:Cx)(e:AO)(t:TT):Prop:=
 ∀(p9:AC)(s:AI)(Y:St)(H:Hp)(Q:Bool->Hp->Prop),Inv X p9 Y H s->t Y H Q->↥X (isTrue e X.env (eval e X.env)) (TP X p9 Y Q) X.xe s
def PW(X:Cx)(e:AO)(t:TT):Prop:=
 ∀(whole:Sem AN)(p9:AC)(s:AI)(Y:St)(H:Hp)(Q:Bool->Hp->Prop),Inv X p9 Y H s->t Y H Q->↥X (isTrue e X.env whole) (TP X p9 Y Q) X.xe s
def PW.pt{t:TT}(h:PW X e t):PT X e t:=h _
def PA(X:Cx)(es:AE)(t:TA):Prop:=
 ∀(pos:Pos)(p9:AC)(s:AI)(Y:St)(H:Hp)(Q:AR->Hp->Prop),Inv X p9 Y H s->t Y H Q->↥X (spliced (backTo pos (starEach es X.env))) (AP X p9 Y Q) X.xe s
def PS(X:Cx)(st:Stmt)(t:TS):Prop:=
 ∀(p9:AC)(s:AI)(Y:St)(H:Hp)(D:Ends),Inv X p9 Y H s->t D Y H->↥X (exec st X.env) (SP X p9 D) X.xe s
def PSs(X:Cx)(st:AF)(t:TS):Prop:=
 ∀(p9:AC)(s:AI)(Y:St)(H:Hp)(D:Ends),Inv X p9 Y H s->t D Y H->↥X (execs st X.env) (SP X p9 D) X.xe s
def thn{z:Type}{t:Sem z}{Q y:z->AI->Prop}{A:AM}(h:wpAny M A t Q E s)(J:∀a s,Q a s->y a s):wpAny M A t y E s:=cm h J λv v x=>x
section
variable {X:Cx}
def bin{a b:AO}{ta tb:TE}(ha:PE X a ta)(hb:PE X b tb){R:V->V->Hp->Prop}(I:Inv X p9 Y H s)(h:ta Y H λx H1=>tb Y H1 λy H2=>R x y H2){U:Type}{Q:U->AI->Prop}{f:AN->AN->Sem U}(hf:∀v u O x y H2,Inv X p9 Y H2 O->RelV x v->RelV y u->R x y H2->↥X (f v u) Q X.xe O):
  ↥X (eval a X.env) (λv z=>↥X (eval b X.env) (λu J=>↥X (f v u) Q X.xe J) X.xe z) X.xe s:=by
 show thn (ha p9 s Y H _ I h) λv s1 zZ=>?_;let(x,H1,I1,r1,q1):=zZ;show thn (hb p9 s1 Y H1 _ I1 q1) λu O zZ=>?_;let(y,H2,I2,r2,q2):=zZ;exact hf v u O x y H2 I2 r1 r2 q2
def Cv(i:Nat):TE:=λY H Q=>∃v,Y[i]?=-(-v)/\Q v H
def tC(v:V):TE:=λz H Q=>Q v H
def vK{pos:Pos}(O:X.N[i]?=-x)(hv:Vis X.env.scope x)(hd:(x==("__debug__":Str))=false:=by decide)(J:(x==("__classdict__":Str))=false:=by decide):PE X (.Name x pos) (Cv i):=by
 intro p9 s Y H Q I h;let(v,e,h):=h;let(m,hn,hl):=I.loc;let(u,r,l):=hl i x v O e hv;have fin:EP X p9 Y Q u s:=(v,H,I,r,h);rcases l with⟨z,U⟩|⟨z,c,hc,y⟩
 .exact wpAny_Name (wpAny_loadName_local I.ok.kind z hn U fin) hd
 .rcases z with z|z
  .exact wpAny_Name (wpAny_loadName_cell I.ok.kind z hc y fin) hd
  .exact wpAny_Name (wpAny_loadName_free I.ok.kind z hc y fin J) hd
def S9{i j pos}:PE X (.Constant (.int i) j pos) (tC (.int i)):=λz z z H z I h=>wpAny_Constant_int (.int i,H,I.tok _,(_,rfl),h)
def Cw{b j pos}:PE X (.Constant (.bool b) j pos) (tC (.bl b)):=λz z z H z I h=>Constant_bool (.bl b,H,I,rfl,h)
def Tc{j pos}:PE X (.Constant .none j pos) (tC .non):=λz z z H z I h=>Constant_none (.non,H,I,rfl,h)
def Cy{x j pos}:PE X (.Constant (.str x) j pos) (tC (.str x)):=λz z z H z I h=>Calls.Constant_str (.str x,H,I.tok _,(_,rfl),h)
def Gl(X:Cx)(x:Str):Prop:=X.env.kindOf x=-.globalImplicit
def gY{pos:Pos}(I:Inv X p9 Y H s)(y:Gl X x)(z:X.mg x=-u)(h:Q u s)(hd:(x==("__debug__":Str))=false:=by decide):↥X (eval (.Name x pos) X.env) Q E s:=
 Calls.Name_function_global I.ok.kind y (Calls.loadGlobal_global (by rw[I.ok.glob];exact I.mod.glob.keeps I.bk) z h) hd
def jB{pos:Pos}(I:Inv X p9 Y H s)(y:Gl X x)(z:X.mg x=none)(J:bootBuiltins x=-u)(h:Q u s)(hn:x≠"__name__":=by decide)(hd:(x==("__debug__":Str))=false:=by decide):↥X (eval (.Name x pos) X.env) Q E s:=by
 let(O,h1,h2):=I.mod.blt;exact Calls.Name_function_global I.ok.kind y (Calls.loadGlobal_builtin (by rw[I.ok.glob];exact I.mod.glob.keeps I.bk) z (by rw[I.ok.blt];exact h1.keeps I.bk) ((h2 x hn).trans J) h) hd
def Cz{v:V}{pos:Pos}(y:Gl X x)(z:X.mg x=-u)(r:RelV v u)(hd:(x==("__debug__":Str))=false:=by decide):PE X (.Name x pos) (tC v):=
 λt t t H t I h=>gY I y z (v,H,I,r,h) hd
def Td{v:V}{pos:Pos}(y:Gl X x)(z:X.mg x=none)(J:bootBuiltins x=-u)(r:RelV v u)(hn:x≠"__name__":=by decide)(hd:(x==("__debug__":Str))=false:=by decide):PE X (.Name x pos) (tC v):=
 λt t t H t I h=>jB I y z J (v,H,I,r,h) hn hd
variable {a b:AO} {ta tb:TE} {pos:Pos}
variable {tA tB':TT} {rest:AE}
def Te(t u:TT):TT:=λY H Q=>t Y H λc H1=>if c=true then u Y H1 Q else Q false H1
def tOr(t u:TT):TT:=λY H Q=>t Y H λc H1=>if c=true then Q true H1 else u Y H1 Q
def Tf(t:TT):TT:=λY H Q=>t Y H λc H1=>Q (!c) H1
def Th(y:PT X a tA):PW X (.BoolOp .And [a] pos) tA:=by
 intro J p9 s Y H Q I h;show isTrue_and (thn (y p9 s Y H Q I h) λc z e=>?_);cases c with
 |true=>exact isTrue_and_nil e
 |false=>exact e
def Ti(y:PT X a tA):PW X (.BoolOp .Or [a] pos) tA:=by
 intro J p9 s Y H Q I h;show isTrue_or (thn (y p9 s Y H Q I h) λc z e=>?_);cases c with
 |false=>exact isTrue_or_nil e
 |true=>exact e
def Tj(J:PT X a tA)(O:PW X (.BoolOp .And (b::rest) pos) tB'):PW X (.BoolOp .And (a::b::rest) pos) (Te tA tB'):=by
 intro wh p9 s Y H Q I h;show isTrue_and (thn (J p9 s Y H _ I h) λc U zZ=>?_);let(H1,y,z):=zZ;cases c with
 |true=>exact O wh p9 U Y H1 Q y z
 |false=>exact(H1,y,z)
def Tn(J:PT X a tA)(O:PW X (.BoolOp .Or (b::rest) pos) tB'):PW X (.BoolOp .Or (a::b::rest) pos) (tOr tA tB'):=by
 intro wh p9 s Y H Q I h;show isTrue_or (thn (J p9 s Y H _ I h) λc U zZ=>?_);let(H1,y,z):=zZ;cases c with
 |true=>exact(H1,y,z)
 |false=>exact O wh p9 U Y H1 Q y z
def Tp(y:PT X a tA):PT X (.UnaryOp .Not a pos) (Tf tA):=by intro p9 s Y H Q I h;exact isTrue_not (y p9 s Y H (λc H1=>Q (!c) H1) I h)
def Tq(ta tb:TE):TE:=λY H Q=>ta Y H λx H1=>∃c,x=.bl c/\if c=true then tb Y H1 Q else Q (.bl false) H1
def Tt(ta tb:TE):TE:=λY H Q=>ta Y H λx H1=>∃c,x=.bl c/\if c=true then Q (.bl true) H1 else tb Y H1 Q
def Tu{op}{t:TE}(h:PE X a t):PE X (.BoolOp op [a] pos) t:=λp9 s Y H Q I hw=>BoolOp_one (h p9 s Y H Q I hw)
def Tv(J:PE X a ta)(O:PE X (.BoolOp .And (b::rest) pos) tb):PE X (.BoolOp .And (a::b::rest) pos) (Tq ta tb):=by
 intro p9 s Y H Q I h;show BoolOp_and (thn (J p9 s Y H _ I h) λv s1 zZ=>?_);let(x,H1,z,U,y):=zZ;let(c,rfl,y):=y;cases U;show gl ?_;cases c with
 |true=>exact O p9 s1 Y H1 Q z y
 |false=>exact(.bl false,H1,z,rfl,y)
def Tw(J:PE X a ta)(O:PE X (.BoolOp .Or (b::rest) pos) tb):PE X (.BoolOp .Or (a::b::rest) pos) (Tt ta tb):=by
 intro p9 s Y H Q I h;show BoolOp_or (thn (J p9 s Y H _ I h) λv s1 zZ=>?_);let(x,H1,z,U,y):=zZ;let(c,rfl,y):=y;cases U;show gl ?_;cases c with
 |false=>exact O p9 s1 Y H1 Q z y
 |true=>exact(.bl true,H1,z,rfl,y)
def tIf(t:TT)(ta tb:TE):TE:=λY H Q=>t Y H λc H1=>if c=true then ta Y H1 Q else tb Y H1 Q
def Tz{c:AO}(hc:PT X c tA)(O:PE X a ta)(U:PE X b tb):PE X (.IfExp c a b pos) (tIf tA ta tb):=by
 intro p9 s Y H Q I h;show wpAny_IfExp (thn (hc p9 s Y H _ I h) λd J zZ=>?_);let(H1,y,z):=zZ;cases d with
 |true=>exact O p9 J Y H1 Q y z
 |false=>exact U p9 J Y H1 Q y z
end
def SqL(K:PF)(H:Hp)(a:AQ)(xs:AR):Prop:=
 Rd H a (.lst xs)\/
  ∃(o:Obj) (its:Array AN) (n:Nat),K.lookup a=-o/\o.cls=.type "list"/\o.dict=none/\o.data=.seq its n/\its.size<=sizeLine/\Vals xs its.toList
def SqT(K:PF)(H:Hp)(a:AQ)(xs:AR):Prop:=
 Rd H a (.tup xs)\/
  ∃(o:Obj) (its:Array AN) (n:Nat),K.lookup a=-o/\o.cls=.type "tuple"/\o.data=.seq its n/\its.size<=sizeLine/\Vals xs its.toList
def TF:AN->Option V
 |.none=>-.non
 |.bool b=>-(.bl b)
 |.int i _=>-(.int i)
 |.str x _=>-(.str x)
 |.bytes b _=>-(.byt b)
 |.float b _=>-(.flt b)
 |.ref a=>-(.ref a)
 |.type n=>-(.ty n)
 |_=>none
def RelV.abs{x:V}(r:RelV x u):TF u=-x:=by
 cases x with
 |non=>cases r;rfl
 |bl _=>cases r;rfl
 |int _=>let(t,rfl):=r;rfl
 |str _=>let(t,rfl):=r;rfl
 |byt _=>let(t,rfl):=r;rfl
 |flt _=>let(t,rfl):=r;rfl
 |ref _=>cases r;rfl
 |ty _=>cases r;rfl
def RelV.inj{x:V}(r:RelV x u)(q:RelV y u):x=y:=cy (r.abs.symm.trans q.abs)
def Vals.inj:∀{xs ys:AR}{us:AB},Vals xs us->Vals ys us->xs=ys
 |_,_,_,.nil,.nil=>rfl
 |_,_,_,.cons r t,.cons r' t'=>by rw[r.inj r',Vals.inj t t']
section
variable {X:Cx} {p9:AC} {σ:St} {H:Hp} {s:AI} {a:AQ} {xs ys:AR}
def SqL.of{K:PF}(h:H a=-(.lst xs)):SqL K H a xs:=.inl (.inl h)
def SqT.of{K:PF}(h:H a=-(.tup xs)):SqT K H a xs:=.inl (.inl h)
theorem Inv.list(I:Inv X p9 σ H s)(h:SqL X.K H a xs):∃y:AB,Vals xs y/\PlainL s.heap a y.toArray/\xs⁻¹<=sizeLine:=by
 rcases h with h|⟨o,y,n,J,hc,hd,hs,O,r⟩
 .let(z,y,n,r,e):=h.ok I.hok;exact(y,r,(_,n,e,rfl,rfl,rfl),z)
 .show (y.toList,r,(o,n,I.kIn a o J,hc,hd,!!hs),?_);have e:=r⁻¹;simp only[bq]at e;lia
theorem Inv.tuple(I:Inv X p9 σ H s)(h:SqT X.K H a xs):∃y:AB,Vals xs y/\IsTup s.heap a y.toArray/\xs⁻¹<=sizeLine:=by
 rcases h with h|⟨o,y,n,J,hc,hs,O,r⟩
 .let(z,y,r,p):=h.ok I.hok;exact(y,r,p,z)
 .show (y.toList,r,(o,I.kIn a o J,hc,n,!!hs),?_);have e:=r⁻¹;simp only[bq]at e;lia
def Inv.list_inj(I:Inv X p9 σ H s)(h:SqL X.K H a xs)(h':SqL X.K H a ys):xs=ys:=by
 let(y,r,(o,n,e,_,_,d),_):=I.list h;let(its',J,(o',O,z,_,_,d'),_):=I.list h';rw[e]at z;cases z;rw[d]at d';injection d' with d1 _;have:y=its':=by simpa using fT Array.toList d1
 subst this;exact r.inj J
def Inv.tuple_inj(I:Inv X p9 σ H s)(h:SqT X.K H a xs)(h':SqT X.K H a ys):xs=ys:=by
 let(y,r,(o,e,_,n,d),_):=I.tuple h;let(its',J,(o',z,_,O,d'),_):=I.tuple h';rw[e]at z;cases z;rw[d]at d';injection d' with d1 _;have:y=its':=by simpa using fT Array.toList d1
 subst this;exact r.inj J
end
abbrev Cx.wish(X:Cx)(E:AG):Cx:={X with xe:=E}
abbrev Cx.nox(X:Cx):Cx:=X.wish λz z=>False
def Cx.Ok.wish(ok:X.Ok)(E:AG):(X.wish E).Ok:=
 (ok.mod,ok.kind,ok.glob,ok.blt,ok.above,ok.inj,ok.has,ok.cab,ok.hd,ok.frames,ok.stk,ok.exf,ok.bs,ok.bsz,ok.noex,ok.exfs,ok.funs,ok.frf)
def Cx.Ok.unwish(ok:(X.wish E).Ok):X.Ok:=
 (ok.mod,ok.kind,ok.glob,ok.blt,ok.above,ok.inj,ok.has,ok.cab,ok.hd,ok.frames,ok.stk,ok.exf,ok.bs,ok.bsz,ok.noex,ok.exfs,ok.funs,ok.frf)
section
variable {X:Cx} {p9:AC} {σ:St} {H:Hp} {s:AI} {E:AG}
def Inv.wish(I:Inv X p9 σ H s)(E:AG):Inv (X.wish E) p9 σ H s:=(I.ok.wish E,I.os,I.bare,I.base,I.loc,I.cell,I.free,I.freeC,I.pin,I.hok,I.len)
def Inv.unwish(I:Inv (X.wish E) p9 σ H s):Inv X p9 σ H s:=(I.ok.unwish,I.os,I.bare,I.base,I.loc,I.cell,I.free,I.freeC,I.pin,I.hok,I.len)
def SP.unwish{D:Ends}{f:Flow}(h:SP (X.wish E) p9 D f s'):SP X p9 D f s':=by
 cases f with
 |next=>let(y,H',I,q):=h;exact(y,H',I.unwish,q)
 |brk=>let(y,H',I,q):=h;exact(y,H',I.unwish,q)
 |cont=>let(y,H',I,q):=h;exact(y,H',I.unwish,q)
 |ret u=>let(v,y,H',I,r,q):=h;exact(v,y,H',I.unwish,r,q)
def PSs.nox{st:AF}{t:TS}(h:PSs X.nox st t):PSs X st t:=λp9 s σ H D I hw=>
 cm (h p9 s σ H D (I.wish _) hw) (λy y q=>q.unwish) λy y z=>False.elim z
end
section
variable {X:Cx} {st:Stmt} {rest:AF} {t u:TS} {e:AO} {te:TE} {pos:Pos}
def CG:TS:=λD Y H=>D.nx Y H
def TQ(t u:TS):TS:=λD Y H=>t {D with nx:=u D} Y H
def TV:PSs X [] CG:=λz z Y H z I h=>js (Y,H,I,h)
def CJ(h1:PS X st t)(h2:PSs X rest u):PSs X (st::rest) (TQ t u):=by
 intro p9 s Y H D I h;show wpAny_execs_cons (thn (h1 p9 s Y H {D with nx:=u D} I h) λf J q=>?_);cases f with
 |next=>
  let(y,H',z,q):=q;exact h2 p9 J y H' D z q
 |ret v=>exact q
 |brk=>exact q
 |cont=>exact q
def vL(h1:PS X st t):PSs X [st] t:=by
 intro p9 s Y H D I h;show wpAny_execs_cons (thn (h1 p9 s Y H D I h) λf y q=>?_);cases f with
 |next=>exact js q
 |ret v=>exact q
 |brk=>exact q
 |cont=>exact q
def TY:TS:=λD Y H=>D.bk Y H
def T3:TS:=λD Y H=>D.ct Y H
def T4:PS X (.Pass pos) CG:=λz z Y H z I h=>wpAny_Pass (Y,H,I,h)
def T5:PS X (.Break pos) TY:=λz z Y H z I h=>wpAny_Break (Y,H,I,h)
def T6:PS X (.Continue pos) T3:=λz z Y H z I h=>wpAny_Continue (Y,H,I,h)
def Inv.quiet(I:Inv X p9 Y H s):interactive X.env=false:=by simp[interactive,I.ok.kind]
def T7(te:TE):TS:=λD Y H=>te Y H λz H1=>D.nx Y H1
def CN(he:PE X e te)(hs:swapsWith e none pos.line X.env=pure false:=by rfl):PS X (.Expr e pos) (T7 te):=by intro p9 s Y H D I h;show wpAny_Expr_any (thn (he p9 s Y H _ I h) λv O zZ=>?_) I.quiet hs;let(x,H1,y,J,z):=zZ;exact(Y,H1,y,z)
def CP(te:TE):TS:=λD Y H=>te Y H D.rt
def T8(he:PE X e te):PS X (.Return (-e) pos) (CP te):=by intro p9 s Y H D I h;show wpAny_Return_some (thn (he p9 s Y H _ I h) λv O zZ=>?_);let(x,H1,y,J,z):=zZ;exact(x,Y,H1,y,J,z)
def T9:TS:=λD z H=>D.rt .non H
def Ua:PS X (.Return none pos) T9:=λz z Y H z I h=>wpAny_Return_none (.non,Y,H,I,rfl,h)
def Ub(c:TT)(t u:TS):TS:=λD Y H=>c Y H λb H1=>if b=true then t D Y H1 else u D Y H1
def Uc{c:AO}{a b:AF}{tc:TT}(hc:PT X c tc)(O:PSs X a t)(U:PSs X b u):PS X (.If c a b pos) (Ub tc t u):=by
 intro p9 s Y H D I h;show wpAny_If (thn (hc p9 s Y H _ I h) λd J zZ=>?_);let(H1,y,z):=zZ;cases d with
 |true=>exact O p9 J Y H1 D y z
 |false=>exact U p9 J Y H1 D y z
def Ud:TS:=λz z z=>False
def Ue:PS X st Ud:=λz z z z z z h=>h.elim
end
abbrev TG:=V->St->Hp->(St->Hp->Prop)->Prop
variable {g:TG}
abbrev TGs:=AR->St->Hp->(St->Hp->Prop)->Prop
def PG(X:Cx)(y:AO)(t:TG):Prop:=
 ∀(p9:AC)(s:AI)(Y:St)(H:Hp)(v:V)(u:AN)(Q:St->Hp->Prop),Inv X p9 Y H s->RelV v u->t v Y H Q->
  ↥X (assign y X.env u) (λx s'=>∃z H',Inv X p9 z H' s'/\Q z H') X.xe s
def PGs(X:Cx)(ts:AE)(t:TGs):Prop:=
 ∀(p9:AC)(s:AI)(Y:St)(H:Hp)(vs:AR)(us:AB)(Q:St->Hp->Prop),Inv X p9 Y H s->Vals vs us->t vs Y H Q->
  ↥X (assignInOrder ((assignEach ts X.env).map (·.2)) us) (λz s'=>∃y H',Inv X p9 y H' s'/\Q y H') X.xe s
abbrev vM:=V->V->V->Hp->(Hp->Prop)->Prop
def vN(X:Cx)(t:vM):Prop:=
 ∀(p9:AC)(s:AI)(Y:St)(H:Hp)(o i v:V)(z y u:AN)(Q:Hp->Prop),Inv X p9 Y H s->RelV o z->RelV i y->RelV v u->t o i v H Q->
  ↥X (setItem z y u) (λx s'=>∃H',Inv X p9 Y H' s'/\Q H') X.xe s
abbrev TIp:=V->V->Hp->VK->Prop
def PIp(X:Cx)(op:Operator)(t:TIp):Prop:=
 ∀(p9:AC)(s:AI)(Y:St)(H:Hp)(x y:V)(v u:AN)(Q:VK),Inv X p9 Y H s->RelV x v->RelV y u->t x y H Q->
  ↥X (inplaceOp op v u) (EP X p9 Y Q) X.xe s
section
variable {X:Cx} {pos:Pos}
def pC(i:Nat):TG:=λv Y H Q=>Q (Y.set i (-v)) H
def Ug(z:X.N.Nodup)(hi:X.N[i]?=-x)(O:Loc X.env.scope x)(J:X.fn x=true\/X.env.scope.names.lookup x=-.local:=by first|exact .inl rfl|exact .inr rfl|assumption):PG X (.Name x pos) (pC i):=by intro p9 s Y H v u Q I r h;exact wpAny_assign_Name (jA I z hi O r (λs' y=>(_,H,y,h)) J)
def Uh:TGs:=λvs Y H Q=>vs=[]/\Q Y H
def Ui(t:TG)(u:TGs):TGs:=λvs Y H Q=>∃v r,vs=v::r/\t v Y H λy H'=>u r y H' Q
def Uj:PGs X [] Uh:=by intro p9 s Y H vs us Q I r h;let(e,h):=h;subst e;cases r;exact assignInOrder_nil (Y,H,I,h)
def Uk{t:TG}{u:TGs}(h1:PG X e t)(h2:PGs X es u)(hs:(assignEach (e::es) X.env).map (·.2)=assign e X.env::(assignEach es X.env).map (·.2):=by rfl):PGs X (e::es) (Ui t u):=by
 intro p9 s Y H vs us Q I r h;let(v,vr,J,h):=h;subst J;cases r with
 |cons r U=>
  rw[hs];show assignInOrder_cons (thn (h1 p9 s Y H _ _ _ I r h) λx s1 zZ=>?_);let(y,H1,z,O):=zZ;exact h2 p9 s1 y H1 _ _ Q z U O
def Ul(K:PF)(n:Nat)(t:TGs):TG:=λv Y H Q=>∃a xs,v=.ref a/\SqT K H a xs/\xs⁻¹=n/\t xs Y H Q
def Um{k:Nat}{t:TGs}(hc:X.calm)(h:PGs X es t)(hn:(assignEach es X.env)⁻¹=n:=by rfl)(y:(assignEach es X.env).findIdx? (·.1)=none:=by rfl):PG X (.Tuple es k pos) (Ul X.K n t):=by
 intro p9 s Y H v u Q I r hw;let(a,xs,O,U,hl,hw):=hw;subst O;cases r;let(its,z,ht,hz):=I.tuple U;show assign_Tuple_tuple (I.ok.hd hc) ht (by simp[hn,<-hl,z⁻¹]) y λh' hx=>?_;have J:Inv X p9 Y H {s with heap:=h'}:=I.kept (t':=s.toks) λb o e=>hx b o (ci (aE e)) e;exact h p9 _ Y H xs _ Q J (!!z) hw
def Uo(to z:TE)(t:vM):TG:=λv Y H Q=>to Y H λo H1=>z Y H1 λi H2=>t o i v H2 λy=>Q Y y
def Up{o i:AO}{to O:TE}{t:vM}(ho:PE X o to)(hi:PE X i O)(hs:vN X t)(ha:∀v,assign (.Subscript o i pos) X.env v=(do
   let z <-holding [v] (eval o X.env)
   let J <-holding [v,z] (eval i X.env)
   standAt pos
   holding [v,z,J] (setItem z J v)
   release [v,z,J] []):=by intro _;rfl):PG X (.Subscript o i pos) (Uo to O t):=by
 intro p9 s Y H v u Q I r h;rw[ha];show af (dE (thn (ho p9 s Y H _ I h) λz s1 zZ=>?_));let(x,H1,I1,r1,q1):=zZ;show af (dE (thn (hi p9 s1 Y H1 _ I1 q1) λJ s2 zZ=>?_));let(y,H2,I2,r2,q2):=zZ;show af (ko (af (dE (thn (hs p9 s2 Y H2 x y v z J u _ I2 r1 r2 r q2) λq s3 zZ=>?_))));let(U,I3,q3):=zZ;exact wpAny_release (Y,U,I3,q3)
def pF(te:TE)(g:TG):TS:=λD Y H=>te Y H λx H1=>g x Y H1 D.nx
def CQ(he:PE X e te)(z:PG X tg g)(hs:swapsWithSole [tg] e pos.line X.env=pure false:=by rfl)(hw:swappedStores [tg] e X.env=pure none:=by rfl)(h1:(assignEach [tg] X.env).map (·.2)=[assign tg X.env]:=by rfl):PS X (.Assign [tg] e pos) (pF te g):=by
 intro p9 s Y H D I h;show wpAny_Assign_stores (thn (he p9 s Y H _ I h) λv U zZ=>?_) hs hw;let(x,H1,y,O,J):=zZ;rw[h1];exact thn (z p9 U Y H1 x v _ y O J) λu s2 q=>q
def pG(O:X.N.Nodup)(hi:X.N[i]?=-x)(hx:Loc X.env.scope x)(he:PE X e te)(hs:swapsWith e (-(.Name x pos')) pos.line X.env=pure false:=by rfl)(U:X.fn x=true\/X.env.scope.names.lookup x=-.local:=by first|exact .inl rfl|exact .inr rfl|assumption):
  PS X (.Assign [.Name x pos'] e pos) (pF te (pC i)):=by
 intro p9 s Y H D I h;show wpAny_Assign_Name (thn (he p9 s Y H _ I h) λv s1 zZ=>?_) hs;let(y,H1,z,r1,q1):=zZ;exact jA z O hi hx r1 (λs2 J=>(_,H1,J,q1)) U
def Uq(i:Nat)(te:TE)(J:TIp):TS:=λD Y H=>∃x,Y[i]?=-(-x)/\te Y H λy H1=>J x y H1 λz H2=>D.nx (Y.set i (-z)) H2
def Ur{op:Operator}{ti:TIp}(hN:X.N.Nodup)(hi:X.N[i]?=-x)(hx:Loc X.env.scope x)(he:PE X e te)(ho:PIp X op ti)(hf:X.fn x=true\/X.env.scope.names.lookup x=-.local:=by first|exact .inl rfl|exact .inr rfl|assumption):
  PS X (.AugAssign (.Name x pos') op e pos) (Uq i te ti):=by
 intro p9 s Y H D I h;let(v,e1,h):=h;let(m,hn,hl):=I.loc;have vis:Vis X.env.scope x:=by rcases hx with k|k;exact .inl k;exact .inr (.inl k)
 let(u,r,l):=hl i x v hi e1 vis;show wpAny_AugAssign_Name ?_;have go:↥X (eval e X.env) (λw U=>↥X (inplaceOp op u w) (λr s₃=>↥X (storeName X.env x r) (λt=>SP X p9 D .next) X.xe s₃) X.xe U) X.xe s:=by show thn (he p9 s Y H _ I h) λw s1 zZ=>?_;let(y,H1,I1,r1,q1):=zZ;show thn (ho p9 s1 Y H1 v y u w _ I1 r r1 q1) λz s2 zZ=>?_;let(zv,H2,I2,r2,q2):=zZ;exact jA I2 hN hi hx r2 (λs3 I3=>(_,H2,I3,q2)) hf
 rcases l with⟨J,hm⟩|⟨J,c,hc,O⟩
 .exact wpAny_loadName_local I.ok.kind J hn hm go
 .rcases J with J|J
  .exact wpAny_loadName_cell I.ok.kind J hc O go
  .rcases hx with k|k
   .have:X.env.scope.names.lookup x=-.free:=J;rw[k]at this;cases this
   .have:X.env.scope.names.lookup x=-.free:=J;rw[k]at this;cases this
end
structure It where
 go:Nat->Hp->Prop
 yld:Nat->Hp->V->Hp->Prop
 stop:Nat->Hp->Prop
def fP(X:Cx)(p9:AC)(H:Hp)(b:AQ):Prop:=
 H b=none/\b≠X.env.locals/\b∉X.fs/\(b∈X.ex\/X.s₀.heap.objs.size<=b)/\(∀x c,X.env.cells.lookup x=-c->c≠b)/\∀p∈X.pn++p9,p.1≠b
def Inv.fpOk{H':Hp}(I:Inv X p9 Y H s)(y:(~~~s)<=b)(hn:H' b=none):fP X p9 H' b:=by
 show(hn,gc (bS I.lt y),I.nofs y,.inr (cb I.sz y),λx c e z=>?_,λp J z=>?_)
 .let(v,q):=I.cell x c e;exact absurd (bS q.lt (by rw[z];exact y)) (fb _)
 .exact absurd (bS (aE (I.pin p J).1) (by rw[z];exact y)) (fb _)
structure Turn(P:AK)(w:World)(K:PF)(tg:AO)(J:It)(fp:List AQ)(it:AQ)(tn:Nat->Heap->Prop):Prop where
 mem:it∈fp
 obj:∀i h,tn i h->∀b∈fp,∃o,h.get? b=some o/\∀v,o.data≠.cell v
 keep:∀i h h',tn i h->(∀b∈fp,∀o,h.get? b=some o->h'.get? b=some o)->tn i h'
 item:∀(X:Cx),X.prog=P->X.w=w->X.K=K->X.calm=true->∀(i:Nat)(p9:AC)(s:AI)(Y:St)(H:Hp)(E:AG),Inv X p9 Y H s->(∀b∈fp,fP X p9 H b)->tn i s.heap->J.go i H->
  wpAny (model P w) X.A (pyNext (.ref it)) (λr s1=>∃u,r=some u/\
   wpAny (model P w) X.A (letOwnedTupleGo tg (.ref it) u) (λz s2=>∃x H',Inv X p9 Y H' s2/\RelV x u/\J.yld i H x H'/\tn (i+1) s2.heap/\∀b∈fp,H' b=none) E s1) E s
 done:∀(X:Cx),X.prog=P->X.w=w->X.K=K->X.calm=true->∀(i:Nat)(p9:AC)(s:AI)(Y:St)(H:Hp)(E:AG),Inv X p9 Y H s->(∀b∈fp,fP X p9 H b)->tn i s.heap->J.stop i H->
  wpAny (model P w) X.A (pyNext (.ref it)) (λr s1=>r=none/\Inv X p9 Y H s1) E s
 self:∀(A:AM)(i:Nat)(s:AI)(Q:AG)(E:AG),tn i s.heap->Q (.ref it) s->wpAny (model P w) A (pyIter (.ref it)) Q E s
abbrev TI:=St->Hp->(It->Hp->Prop)->Prop
def PIE(X:Cx)(p9:AC)(Y:St)(tg:AO)(R:It->Hp->Prop)(y:AN)(z:AI):Prop:=
 ∃(it:AQ)(fp:List AQ)(O:Nat->Heap->Prop)(J:It)(H':Hp),y=.ref it/\Inv X p9 Y H' z/\Turn X.prog X.w X.K tg J fp it O/\O 0 z.heap/\(∀b∈fp,fP X p9 H' b)/\R J H'
def PI(X:Cx)(tg iter:AO)(z:TI):Prop:=
 ∀(p9:AC)(s:AI)(Y:St)(H:Hp)(R:It->Hp->Prop),Inv X p9 Y H s->z Y H R->
  ↥X (eval iter X.env) (λv y=>↥X (pyIter v) (PIE X p9 Y tg R) X.xe y) X.xe s
def pH{A:AM}{o:Obj}{n:AL}{vs:Array AN}{Q:Unit->AI->Prop}(ho:s.heap.get? it=-o)(hc:o.cls=.type n)(hd:o.data=.fields vs)(hn:["enumerate","zip","dict_itemiterator","dict_reverseitemiterator","odict_iterator","itertools.zip_longest","itertools.pairwise"].contains n=false)(y:Q () s):wpAny M A (letOwnedTupleGo tg (.ref it) u) Q E s:=by
 unfold letOwnedTupleGo;cases tg<;>first
  |exact am y
  | (cases u<;>first
    |exact am y
    | (show af (wpAny_load ho ?_)
       rw[hc,hd];change wpAny M A (if(["enumerate","zip","dict_itemiterator","dict_reverseitemiterator","odict_iterator","itertools.zip_longest","itertools.pairwise"].contains n&&vs[0]?==-(rawInt _))=true then _ else _) Q E s;rw[if_neg (by intro h;rw[hn,Bool.false_and]at h;cases h)];exact am y))
def Itl(K:PF)(a:AQ):It:=
 (λi H=>∃xs x,SqL K H a xs/\xs[i]?=-x,λi H x H'=>H'=H/\∀xs,SqL K H a xs->xs[i]?=-x,λi H=>∃xs,SqL K H a xs/\xs⁻¹<=i)
def Itt(K:PF)(a:AQ):It:=
 (λi H=>∃xs x,SqT K H a xs/\xs[i]?=-x,λi H x H'=>H'=H/\∀xs,SqT K H a xs->xs[i]?=-x,λi H=>∃xs,SqT K H a xs/\xs⁻¹<=i)
def Itr(lo:Int)(n:Nat):It:=(λi z=>i<n,λi H x H'=>H'=H/\x=.int (lo+i),λi z=>n<=i)
def CW{w:World}{K:PF}(a it:AQ):Turn P w K tg (Itl K a) [it] it (λi h=>h.IsListIter it a i) where
 mem:=by simp
 obj:=λi h st b y=>by
  have e:b=it:=by simpa using y
  subst e;let(o,e,c,d):=st;exact(o,e,λv z=>by rw[d]at z;cases z)
 keep:=λi h h' st k=>st.at λo e=>k it (!2) o e
 item:=by intro X hP hw U hc i p9 s Y H E I J st hg;subst hP hw U;let(xs,x,O,hx):=hg;let(its,rv,p,hz):=I.list O;let(u,hu,ru):=rv.get hx;let(f0,f1,f2,f3,f4,f5):=J it (!2);show wpAny_pyNext_list_item st p.isList (x:=u) (!!hu) λh' st' sb=>?_;have I1:Inv X p9 Y H {s with heap:=h'}:=I.turned (t':=s.toks) (λb o y e=>(sb.2 b y).trans e) f0 f1 f3 f4 f5;let(o,e,c,d):=id st';exact(u,rfl,pH (s:={s with heap:=h'}) e c d (!1) (x,H,I1,ru,(rfl,λys hy=>by rw[I.list_inj hy O];exact hx),st',λb y=>(J b y).1))
 done:=by intro X hP hw U hc i p9 s Y H E I J st hg;subst hP hw U;let(xs,O,hx):=hg;let(its,rv,p,hz):=I.list O;let(f0,f1,f2,f3,f4,f5):=J it (!2);have hl:=rv⁻¹;exact wpAny_pyNext_list_end (I.ok.hd hc) st p.isList (by simp;lia) λh' eb=>(rfl,I.turned (t':=s.toks) (λb o y e=>eb b o y e) f0 f1 f3 f4 f5)
 self:=λt t t t t st h=>wpAny_pyIter_listiter st h
def CZ{w:World}{K:PF}(a it:AQ):Turn P w K tg (Itt K a) [it] it (λi h=>h.IsTupleIter it a i) where
 mem:=by simp
 obj:=λi h st b y=>by
  have e:b=it:=by simpa using y
  subst e;let(o,e,c,d):=st;exact(o,e,λv z=>by rw[d]at z;cases z)
 keep:=λi h h' st k=>st.at λo e=>k it (!2) o e
 item:=by intro X hP hw hK hc i p9 s Y H E I O st hg;subst hP hw hK;let(xs,x,U,hx):=hg;let(J,rv,p,hz):=I.tuple U;let(u,hu,ru):=rv.get hx;let(f0,f1,f2,f3,f4,f5):=O it (!2);show wpAny_pyNext_tuple_item st (show s.heap.IsTuple a J.toArray from p) (x:=u) (!!hu) λh' st' sb=>?_;have I1:Inv X p9 Y H {s with heap:=h'}:=I.turned (t':=s.toks) (λb o y e=>(sb.2 b y).trans e) f0 f1 f3 f4 f5;let(o,e,c,d):=id st';exact(u,rfl,pH (s:={s with heap:=h'}) e c d (!1) (x,H,I1,ru,(rfl,λys hy=>by rw[I.tuple_inj hy U];exact hx),st',λb y=>(O b y).1))
 done:=by intro X hP hw hK hc i p9 s Y H E I O st hg;subst hP hw hK;let(xs,U,hx):=hg;let(J,rv,p,hz):=I.tuple U;let(f0,f1,f2,f3,f4,f5):=O it (!2);have hl:=rv⁻¹;exact wpAny_pyNext_tuple_end (I.ok.hd hc) st (show s.heap.IsTuple a J.toArray from p) (by simp;lia) λh' eb=>(rfl,I.turned (t':=s.toks) (λb o y e=>eb b o y e) f0 f1 f3 f4 f5)
 self:=λt t t t t st h=>wpAny_pyIter_tupleiter st h
def Us{w:World}{K:PF}(it:AQ)(lo:Int)(n:Nat):Turn P w K tg (Itr lo n) [it] it (λi h=>IsRangeIter h it (lo+(i:Nat)*1) ((n:Int)-(i:Nat)) 1) where
 mem:=by simp
 obj:=λi h st b y=>by
  have e:b=it:=by simpa using y
  subst e;exact(_,st,λv z=>by
   have z':Data.fields _=Data.cell v:=z;cases z')
 keep:=λi h h' st k=>k it (!2) _ st
 item:=by intro X U hw O hc i p9 s Y H E I J st hg;subst U hw O;let(f0,f1,f2,f3,f4,f5):=J it (!2);have W:=Walks.range (prog:=X.prog) (w:=X.w) (I.ok.hd hc) it lo 1 n;show W.item i s _ _ hg st λv h' tk hv st' kk=>?_;let(t,rfl):=hv;have I1:Inv X p9 Y H {s with heap:=h',toks:=tk}:=I.turned (λb o y e=>kk b o (!!y) e) f0 f1 f3 f4 f5;show(_,rfl,pH (s:={s with heap:=h',toks:=tk}) (n:="range_iterator") st' rfl rfl (!1) (.int (lo+i),H,I1,(t,?_),(rfl,rfl),st',λb y=>(J b y).1));rw[Int.mul_one]
 done:=by intro X U hw O hc i p9 s Y H E I J st hg;subst U hw O;let(f0,f1,f2,f3,f4,f5):=J it (!2);exact wpAny_pyNext_range_end (I.ok.hd hc) st (by have:n<=i:=hg;lia) λh' eb=>(rfl,I.turned (t':=s.toks) (λb o y e=>eb b o y e) f0 f1 f3 f4 f5)
 self:=λx x x x x st h=>wpAny_pyIter_rangeiter st h
section
variable {X:Cx} {tg:AO}
theorem Ut{R:It->Hp->Prop}{lo hi:Int}{t u v:Tok}{tk:Nat}(I:Inv X p9 Y H s)(h1:Neg.neg (2 ^ 62)<=lo)(h2:lo<2 ^ 62)(O:Neg.neg (2 ^ 62)<=hi)(U:hi<2 ^ 62)(q:R (Itr lo (hi-lo).toNat) H):↥X (pyIter (.ref (~~~s))) (PIE X p9 Y tg R) E {s with heap:=s.heap.push {cls:=.type "range",data:=.fields #[.int lo t,.int hi u,.int 1 v]},toks:=tk}:=by
 show wpAny_pyIter_range (IsRange.new ..) (small_one h1 h2 O U) ?_;have y:Inv X p9 Y H {s with heap:=s.heap.push {cls:=.type "range",data:=.fields #[.int lo t,.int hi u,.int 1 v]},toks:=tk}:=I.kept λb o e=>ag _ e;show((s.heap.push {cls:=.type "range",data:=.fields #[.int lo t,.int hi u,.int 1 v]}).objs.size,[(s.heap.push {cls:=.type "range",data:=.fields #[.int lo t,.int hi u,.int 1 v]}).objs.size],_,_,H,rfl,
  y.kept (t':=tk) λb o e=>ag _ e,Us _ lo (hi-lo).toNat,?_,λb hb=>?_,q)
 .have z:lo+((0:Nat):Int)*1=lo:=by simp
  have J:(((hi-lo).toNat:Nat):Int)-((0:Nat):Int)=Builtin.Range.rangeSize lo hi 1:=by rw[rangeSize_one];split<;>lia
  change IsRangeIter _ _ (lo+((0:Nat):Int)*1) ((((hi-lo).toNat:Nat):Int)-((0:Nat):Int)) 1;rw[z,J];exact bd _ rfl
 .have e:b=(s.heap.push {cls:=.type "range",data:=.fields #[.int lo t,.int hi u,.int 1 v]}).objs.size:=by simpa using hb
  subst e;exact y.fpOk (ay _) (y.hok.fresh (ay _))
def Uu(ta:TA):TI:=λY H R=>ta Y H λvs H1=>∃j:Int,vs=[.int j]/\Neg.neg (2 ^ 62)<=j/\j<2 ^ 62/\R (Itr 0 j.toNat) H1
theorem Uv{a:AO}{ta:TA}{p pos:Pos}(O:Gl X "range")(U:X.mg "range"=none)(J:PA X [a] ta)(hs:starEach [a] X.env=[(false,eval a X.env)]:=by rfl):PI X tg (.Call (.Name "range" p) [a] [] pos) (Uu ta):=by
 intro p9 s Y H R I h;show Call_ (jB I O U boot_range (ic (thn (J pos p9 s Y H _ I h) λus s1 zZ=>?_) hs rfl));let(vs,H1,z,r1,y):=zZ;let(j,e,y,q2,q):=y;subst e;cases r1 with
 |cons r rr=>
  cases rr;let(t,rfl):=r;exact call_range_1 (Ut z (!0) (!0) y q2 (!!q))
def Uw(U:TI)(g:TG)(tb:TS):TS:=λD Y H=>U Y H λJ H1=>∃W:Nat->Nat->St->Hp->Prop,(∃m,W 0 m Y H1)/\∀i m Y H,W i m Y H->
 (J.stop i H/\D.nx Y H)\/(J.go i H/\∃N:St->Hp->Prop,(∀y H',N y H'->∃O,O<m/\W (i+1) O y H')/\∀x H',J.yld i H x H'->g x Y H' λz H2=>tb {D with nx:=N,ct:=N,bk:=D.nx} z H2)
def lB(fp:List AQ)(h:Heap):AC:=fp.filterMap λb=>(h.get? b).map λo=>(b,o)
def pI{o:Obj}(y:b∈fp)(e:h.get? b=-o):(b,o)∈lB fp h:=List.mem_filterMap.mpr (b,y,by rw[e];rfl)
def Dc{p:AQ×Obj}(J:p∈lB fp h):p.1∈fp/\h.get? p.1=-p.2:=by
 let(b,z,e):=List.mem_filterMap.mp J;cases q:h.get? b with
 |none=>rw[q]at e;cases e
 |some o=>
  rw[q]at e;have y:(b,o)=p:=cy e;subst y;exact(z,q)
def Inv.pinned(I:Inv X p9 Y H s)(O:∀b∈fp,fP X p9 H b)(ho:∀b∈fp,∃o,s.heap.get? b=-o/\∀v,o.data≠.cell v):Inv X (p9++lB fp s.heap) Y H s:=
 I.pins_of λp U=>(bp.mp U).elim (λz=>I.pin p (b9 _ z)) λz=>by
  let(J,e):=Dc z;let(f0,f1,f2,_):=O p.1 J;let(o,y,d):=ho p.1 J;rw[e]at y;cases y;exact(e,f0,f1,f2,d)
def Inv.unpinned{pl:AC}(I:Inv X (p9++pl) Y H s):Inv X p9 Y H s:=I.pins_of λp y=>I.pin p (b9 _ (eK _ y))
def Ux{iter:AO}{wi:TI}{tb:TS}{pos:Pos}(hp:PassesOwn (model X.prog X.w) X.A X.env X.xe)(hc:X.calm)(hi:PI X tg iter wi)(hg:PG X tg g)(hb:PSs X body tb)(hs:∀x,foldedSetIterable iter X.env x=pure x:=by intro _;rfl):PS X (.For tg iter body [] pos) (Uw wi g tb):=by
 intro p9 s Y H D I h;show wpAny_For (thn (hi p9 s Y H _ I h) λv s1 h1=>thn h1 λitv s2 h2=>?_) hs;let(it,fp,tn,J,H2,e,I2,T,st2,f2,W,(m0,w0),turn):=h2;subst e
 -- what stays true of the iterator's objects through the loop
 have stat:∀{H':Hp},(∀b∈fp,H' b=none)->∀b∈fp,fP X p9 H' b:=λhn b hb=>(hn b hb,(f2 b hb).2);show codeAny_forLoop_any (λn s'=>∃i σ' H',Inv X p9 σ' H' s'/\tn i s'.heap/\(∀b∈fp,H' b=none)/\W i n σ' H') ?_ m0 (0,Y,H2,I2,st2,λb hb=>(f2 b hb).1,w0);rintro n s3 ⟨i,σ3,H3,I3,st3,fr3,w3⟩;rcases turn i n σ3 H3 w3 with⟨stop,qn⟩|⟨go,N,hN,step⟩
 .show wpAny_passesOwn hp (thn (T.done X rfl rfl rfl hc i p9 s3 σ3 H3 X.xe I3 (stat fr3) st3 stop) λr s4 zZ=>?_);let(hr,I4):=zZ;subst hr;exact js (σ3,H3,I4,qn)
 .show wpAny_passesOwn hp (thn (T.item X rfl rfl rfl hc i p9 s3 σ3 H3 X.xe I3 (stat fr3) st3 go) λr s4 zZ=>?_);let(u,hr,h4):=zZ;subst hr;show wpAny_passesOwn hp (thn h4 λt s5 zZ=>?_);let(x,H5,I5,r5,y5,st5,fr5):=zZ;have I5':=I5.pinned (stat fr5) (T.obj _ _ st5);show wpAny_passesOwn hp (thn (hg _ s5 σ3 H5 x u _ I5' r5 (step x H5 y5)) λt s6 zZ=>?_);let(σ6,H6,I6,q6):=zZ;show wpAny_passesOwn hp (thn (hb _ s6 σ6 H6 _ I6 q6) λf s7 q7=>?_);have U:∀{y:St}{z:Hp},Inv X (p9++lB fp s5.heap) y z s7->N y z->∃m,m<n/\∃i σ' H',Inv X p9 σ' H' s7/\tn i s7.heap/\(∀b∈fp,H' b=none)/\W i m σ' H':=λ{y z} O n7=>by
   let(m',hm,w7):=hN y z n7;show(m',hm,i+1,y,z,O.unpinned,T.keep _ _ _ st5 λb hb o e=>(O.pin (b,o) (b9 _ (b9 _ (pI hb e)))).1,λb hb=>?_,w7);let(o,e,d):=T.obj _ _ st5 b hb;exact(O.pin (b,o) (b9 _ (b9 _ (pI hb e)))).2.1
  cases f with
  |next=>let(y,z,O,n7):=q7;exact U O n7
  |cont=>let(y,z,O,n7):=q7;exact U O n7
  |brk=>let(y,z,O,q7):=q7;exact(y,z,O.unpinned,q7)
  |ret v=>let(x7,y,z,O,r7,q7):=q7;exact(x7,y,z,O.unpinned,r7,q7)
end
abbrev R2:=V->V->Hp->VK->Prop
variable {r':R2}
def OpR(X:Cx)(f:AN->AN->Sem AN)(r:R2):Prop:=
 ∀(p9:AC)(s:AI)(Y:St)(H:Hp)(x y:V)(v u:AN)(Q:VK),Inv X p9 Y H s->RelV x v->RelV y u->r x y H Q->
  ↥X (f v u) (EP X p9 Y Q) X.xe s
def UnR(X:Cx)(f:AN->Sem AN)(r:V->Hp->VK->Prop):Prop:=
 ∀(p9:AC)(s:AI)(Y:St)(H:Hp)(x:V)(v:AN)(Q:VK),Inv X p9 Y H s->RelV x v->r x H Q->
  ↥X (f v) (EP X p9 Y Q) X.xe s
def bM(X:Cx)(f:AN)(r:AR->Hp->VK->Prop):Prop:=
 ∀(p9:AC)(s:AI)(Y:St)(H:Hp)(xs:AR)(us:AB)(Q:VK),Inv X p9 Y H s->Vals xs us->r xs H Q->
  ↥X (call f us) (EP X p9 Y Q) X.xe s
def Uy(X:Cx)(r:V->Hp->(Bool->Hp->Prop)->Prop):Prop:=
 ∀(p9:AC)(s:AI)(Y:St)(H:Hp)(x:V)(v:AN)(Q:Bool->Hp->Prop),Inv X p9 Y H s->RelV x v->r x H Q->
  ↥X (truthy v) (TP X p9 Y Q) X.xe s
def tOp(r:R2)(ta tb:TE):TE:=λY H Q=>ta Y H λx H1=>tb Y H1 λy H2=>r x y H2 Q
def tUn(r:V->Hp->VK->Prop)(ta:TE):TE:=λY H Q=>ta Y H λx H1=>r x H1 Q
def rI(C:Int->Int->Prop)(g:Int->Int->V):R2:=λx y H Q=>∃i j,x=.int i/\y=.int j/\C i j/\Q (g i j) H
def rI0(g:Int->Int->V):R2:=λx y H Q=>∃i j,x=.int i/\y=.int j/\Q (g i j) H
def rU(g:Int->V):V->Hp->VK->Prop:=λx H Q=>∃i,x=.int i/\Q (g i) H
section
variable {X:Cx} {a b c:AO} {ta tb tc:TE} {pos:Pos}
def vO(ha:PE X a ta)(hb:PE X b tb){R:V->V->Hp->Prop}(I:Inv X p9 Y H s)(h:ta Y H λx H1=>tb Y H1 λy H2=>R x y H2){f:AN->AN->Sem AN}(hf:∀v u O x y H2,Inv X p9 Y H2 O->RelV x v->RelV y u->R x y H2->↥X (f v u) Q X.xe O):
  ↥X (eval a X.env) (λv z=>↥X (eval b X.env) (λu J=>↥X (f v u) Q X.xe J) X.xe z) X.xe s:=by
 show thn (ha p9 s Y H _ I h) λv s1 zZ=>?_;let(x,H1,U,r1,q1):=zZ;show thn (hb p9 s1 Y H1 _ U q1) λu O zZ=>?_;let(y,H2,I2,r2,q2):=zZ;exact hf v u O x y H2 I2 r1 r2 q2
def Uz{op:Operator}{r:R2}(ho:OpR X (binaryOp op) r)(J:PE X a ta)(O:PE X b tb):PE X (.BinOp a op b pos) (tOp r ta tb):=by intro p9 s Y H Q I h;exact wpAny_BinOp (vO J O I h λv u s2 x y H2 z U ry q=>ho p9 s2 Y H2 x y v u Q z U ry q)
def UG{op:UnaryOp}{r:V->Hp->VK->Prop}(ho:UnR X (unaryOp op) r)(z:PE X a ta):PE X (.UnaryOp op a pos) (tUn r ta):=by intro p9 s Y H Q I h;show UnaryOp_ (thn (z p9 s Y H _ I h) λv U zZ=>?_);let(x,H1,y,O,J):=zZ;exact ho p9 U Y H1 x v Q y O J
def opI{f:AN->AN->Sem AN}{C:Int->Int->Prop}{g:Int->Int->Int}(rule:∀(i j:Int)(t u:Tok)(s:AI)(Q:AG)(E:AG),C i j->Q (.int (g i j) s.toks) {s with toks:=s.toks+1}->↥X (f (.int i t) (.int j u)) Q E s):
  OpR X f (rI C λi j=>.int (g i j)):=by
 intro p9 s Y H x y v u Q I z J h;let(i,j,rfl,rfl,hc,q):=h;let(t,rfl):=z;let(t',rfl):=J;exact rule i j t t' s _ _ hc (.int (g i j),H,I.tok _,(_,rfl),q)
def pJ{f:AN->AN->Sem AN}{g:Int->Int->Int}(rule:∀(i j:Int)(t u:Tok)(s:AI)(Q:AG)(E:AG),Q (.int (g i j) s.toks) {s with toks:=s.toks+1}->↥X (f (.int i t) (.int j u)) Q E s):
  OpR X f (rI0 λi j=>.int (g i j)):=by
 intro p9 s Y H x y v u Q I z J h;let(i,j,rfl,rfl,q):=h;let(t,rfl):=z;let(t',rfl):=J;exact rule i j t t' s _ _ (.int (g i j),H,I.tok _,(_,rfl),q)
def pK(i j:Int):Prop:=0<=j/\j<=1000000/\i.natAbs<2 ^ 64
def CMul(i j:Int):Prop:=(Neg.neg (2 ^ 64)<i/\i<2 ^ 64)\/(Neg.neg (2 ^ 64)<j/\j<2 ^ 64)
def CMul.ok{i j:Int}(h:CMul i j):IntMulOk i j:=by
 rcases h with⟨h1,h2⟩|⟨h1,h2⟩
 .exact .of_left (intBits_le_64 h1 h2)
 .exact .of_right (intBits_le_64 h1 h2)
def UJ:OpR X (binaryOp .Add) (rI0 λi j=>.int (i+j)):=pJ λz z z z z z z q=>add_int q
def UL:OpR X (binaryOp .Sub) (rI0 λi j=>.int (i-j)):=pJ λz z z z z z z q=>sub_int q
def UT:OpR X (binaryOp .Mult) (rI CMul λi j=>.int (i*j)):=opI λz z z z z z z hc q=>mul_int q hc.ok
theorem UV:OpR X (binaryOp .Mod) (rI (λz j=>0<j) λi j=>.int (i%j)):=opI λi j z z z z z hc q=>by
 have h1:(0:Int)<j:=hc;exact mod_int' (!0) (by rw[Int.fmod_eq_emod_of_nonneg i (!0)];exact q)
def UW:OpR X (binaryOp .Pow) (rI pK λi j=>.int (i ^ j.toNat)):=opI λz z z z z z z hc q=>pow_int_small hc.1 hc.2.1 hc.2.2 q
def U0:OpR X (inplaceOp .Add) (rI0 λi j=>.int (i+j)):=pJ λz z z z z z z q=>iadd_int q
def U3:OpR X (inplaceOp .Sub) (rI0 λi j=>.int (i-j)):=pJ λz z z z z z z q=>isub_int q
def unI{f:AN->Sem AN}{g:Int->Int}(rule:∀(i:Int)(t:Tok)(s:AI)(Q:AG)(E:AG),Q (.int (g i) s.toks) {s with toks:=s.toks+1}->↥X (f (.int i t)) Q E s):
  UnR X f (rU λi=>.int (g i)):=by
 intro p9 s Y H x v Q I y h;let(i,rfl,q):=h;let(t,rfl):=y;exact rule i t s _ _ (.int (g i),H,I.tok _,(_,rfl),q)
def U4:UnR X (unaryOp .USub) (rU λi=>.int (Neg.neg i)):=unI λz z z z z q=>neg_int q
end
section
variable {X:Cx} {a b c:AO} {ta tb tc:TE} {pos:Pos}
def Dd{Q:VK}{k k':Bool}(I:Inv X p9 Y H s)(q:Q (.bl k) H)(e:k=k'):EP X p9 Y Q (.bool k') s:=by subst e;exact(.bl k,H,I,rfl,q)
def U5:OpR X (compareOp .Is) (λx y H Q=>y=.non/\Q (.bl (decide (x=.non))) H):=by
 intro p9 s Y H x y v u Q I z J h;let(rfl,q):=h;cases J;show is_none_gen (Dd I q ?_);cases x<;>first
  | (cases z;rfl)
  | (let(t,rfl):=z;rfl)
def U6:OpR X (compareOp .IsNot) (λx y H Q=>y=.non/\Q (.bl (!decide (x=.non))) H):=by
 intro p9 s Y H x y v u Q I z J h;let(rfl,q):=h;cases J;show isnot_none_gen (Dd I q ?_);cases x<;>first
  | (cases z;rfl)
  | (let(t,rfl):=z;rfl)
def U7{r:R2}(ho:OpR X (compareOp op) r)(J:PE X a ta)(O:PE X b tb)(U:behindInMarks op b=false):PE X (.Compare a [op] [b] pos) (tOp r ta tb):=by intro p9 s Y H Q I h;exact wpAny_Compare1 (vO J O I h λv u s2 x y H2 z rx ry q=>ho p9 s2 Y H2 x y v u Q z rx ry q) U
def De(t:TE):TT:=λY H Q=>t Y H λx H'=>∃k,x=.bl k/\Q k H'
def U8{r:R2}(ho:OpR X (compareOp op) r)(ha:PE X a ta)(hb:PE X b tb)(hm:behindInMarks op b=false):PT X (.Compare a [op] [b] pos) (De (tOp r ta tb)):=by
 intro p9 s Y H Q I h;show wpAny_isTrue_Compare1 (thn (ha p9 s Y H _ I h) λv s1 zZ=>?_) hm;let(x,H1,O,r1,q1):=zZ;show thn (hb p9 s1 Y H1 _ O q1) λu s2 zZ=>?_;let(y,H2,U,r2,q2):=zZ;show thn (ho p9 s2 Y H2 x y v u _ U r1 r2 q2) λc s3 zZ=>?_;let(z,J,I3,r3,k,e,q3):=zZ
 subst e;cases r3;exact gl (J,I3,q3)
def vP(r U:R2)(ta tb tc:TE):TE:=λY H Q=>ta Y H λx H1=>tb Y H1 λy H2=>r x y H2 λz J=>∃k,z=.bl k/\
 (if k=true then tc Y J λw' O=>U y w' O Q else Q (.bl false) J)
def U9{r:R2}(ho:OpR X (compareOp op) r)(J:OpR X (compareOp op') r')(ha:PE X a ta)(hb:PE X b tb)(hc:PE X c tc)(hm:lastMarks [op,op'] [b,c]=false:=by with_unfolding_all rfl):PE X (.Compare a [op,op'] [b,c] pos) (vP r r' ta tb tc):=by
 intro p9 s Y H Q I h;show Compare_chain (thn (ha p9 s Y H _ I h) λv s1 zZ=>?_) hm;let(x,H1,I1,r1,q1):=zZ;show chain_link (thn (hb p9 s1 Y H1 _ I1 q1) λu s2 zZ=>?_);let(y,H2,I2,r2,q2):=zZ;show thn (ho p9 s2 Y H2 x y v u _ I2 r1 r2 q2) λd s3 zZ=>?_;let(z,O,U,r3,k,e,q3):=zZ
 subst e;cases r3;show gl ?_;cases k with
 |false=>exact ite_ff (.bl false,O,U,rfl,q3)
 |true=>show ite_tt (chain_last (thn (hc p9 s3 Y O _ U q3) λw' s4 zZ=>?_));let(z',H4,I4,r4,q4):=zZ;exact J p9 s4 Y H4 y z' u w' Q I4 r2 r4 q4
def Va{r:R2}(ho:OpR X (compareOp op) r)(J:OpR X (compareOp op') r')(ha:PE X a ta)(hb:PE X b tb)(hc:PE X c tc)(hm:lastMarks [op,op'] [b,c]=false:=by with_unfolding_all rfl):PT X (.Compare a [op,op'] [b,c] pos) (De (vP r r' ta tb tc)):=by
 intro p9 s Y H Q I h;show isTrue_chain (thn (ha p9 s Y H _ I h) λv s1 zZ=>?_) hm;let(x,H1,I1,r1,q1):=zZ;show test_link (thn (hb p9 s1 Y H1 _ I1 q1) λu s2 zZ=>?_);let(y,H2,I2,r2,q2):=zZ;show thn (ho p9 s2 Y H2 x y v u _ I2 r1 r2 q2) λd s3 zZ=>?_;let(z,O,U,r3,k,e,q3):=zZ
 subst e;cases r3;show gl ?_;cases k with
 |false=>
  let(k',e',q'):=q3;cases e';exact ite_ff (O,U,q')
 |true=>
  show ite_tt (test_last (thn (hc p9 s3 Y O _ U q3) λw' s4 zZ=>?_));let(z',H4,I4,r4,q4):=zZ;show thn (J p9 s4 Y H4 y z' u w' _ I4 r2 r4 q4) λd' s5 zZ=>?_;let(z2,H5,I5,r5,k2,e2,q5):=zZ;subst e2;cases r5;exact gl (H5,I5,q5)
def pL(K:PF)(x:V)(H:Hp)(k:Bool):Prop:=
 match x with
 |.non=>k=false
 |.bl b=>k=b
 |.int i=>k=(i != 0)
 |.str y=>y⁻¹<=sizeLine/\k=((y⁻¹:Int) != 0)
 |.byt y=>y.size<=sizeLine/\k=((y.size:Int) != 0)
 |.ref p=>(∃xs,SqL K H p xs/\k=!xs.isEmpty)\/(∃xs,SqT K H p xs/\k=!xs.isEmpty)\/∃z,H p=-(.dK z)/\k=!z.isEmpty
 |_=>False
def Vb{κ:Type}{y:List (κ×V)}{vs:List (κ×AN)}(r:KV y vs):(!vs.isEmpty)=!y.isEmpty:=by cases r<;>rfl
def Df{xs:AR}{y:AB}(r:Vals xs y):(!y.toArray.isEmpty)=!xs.isEmpty:=by cases r<;>simp
def iT:(sizeLine:Nat)<2 ^ 63:=by rw[eT];decide
theorem Dg:Uy X (λx H Q=>∃k,pL X.K x H k/\Q k H):=by
 intro p9 s Y H x v Q I rx h;let(k,e,q):=h;have hl:=iT;have hs:sizeLine=16777216:=eT;cases x with
 |non=>
  cases rx;have e':k=false:=e;subst e';exact truthy_none (H,I,q)
 |bl b=>
  cases rx;have e':k=b:=e;subst e';exact gl (H,I,q)
 |int i=>
  let(t,rfl):=rx;have e':k=(i != 0):=e;subst e';exact PySem.P.truthy_int (H,I,q)
 |str y=>
  let(t,rfl):=rx;obtain⟨hy,e'⟩:y⁻¹<=sizeLine/\k=((y⁻¹:Int) != 0):=e;subst e';exact PySem.P.truthy_str (!0) (H,I.tok _,q)
 |byt y=>
  let(t,rfl):=rx;obtain⟨hy,e'⟩:y.size<=sizeLine/\k=((y.size:Int) != 0):=e;subst e';exact PySem.W.truthy_bytes (!0) (H,I.tok _,q)
 |ref p=>
  cases rx;have e':(∃xs,SqL X.K H p xs/\k=!xs.isEmpty)\/(∃xs,SqT X.K H p xs/\k=!xs.isEmpty)\/∃kvs,H p=-(.dK kvs)/\k=!kvs.isEmpty:=e;rcases e' with⟨xs,hx,e'⟩|⟨xs,hx,e'⟩|⟨kvs,hx,e'⟩
  .subst e';let(its,r,pl,hz):=I.list hx;have hlen:=r⁻¹;exact wpAny_truthy_list pl.isList (by simp only[a8];lia) (H,I.tok _,by rw[Df r];exact q)
  .subst e';let(its,r,pl,hz):=I.tuple hx;have hlen:=r⁻¹;exact truthy_tuple pl (by simp only[a8];lia) (H,I.tok _,by rw[Df r];exact q)
  .subst e';obtain⟨hz,hS,vs,r,m⟩:kvs⁻¹<=sizeLine/\(p==sysModules)=false/\∃vs,KV kvs vs/\s.heap.DictOf (vI X.prog X.w) p vs:=I.hok p _ hx;have hlen:kvs⁻¹=vs⁻¹:=Paired.length r;exact wpAny_truthy_dict hS m (!0) (H,I.tok _,by rw[Vb r];exact q)
 |_=>exact(show False from e).elim
def Vc(z:PE X a ta)(he:∀whole,isTrue a X.env whole=(do let v <-whole;standAt a.pos;holding [v] (truthy v))):
  PT X a (λY H Q=>ta Y H λx H'=>∃k,pL X.K x H' k/\Q k H'):=by
 intro p9 s Y H Q I h;show isTrue_plain (thn (z p9 s Y H _ I h) λv U zZ=>?_) (he _);let(x,H1,y,O,J):=zZ;exact Dg p9 U Y H1 x v Q y O J
def Vd:OpR X (binaryOp .Add) (λx y H Q=>∃i j,x=.str i/\y=.str j/\i⁻¹+j⁻¹<=sizeLine/\Q (.str (i++j)) H):=by intro p9 s Y H x y v u Q I J O h;let(i,j,rfl,rfl,z,q):=h;let(t,rfl):=J;let(t',rfl):=O;exact add_str (λt' tk=>(.str (i++j),H,I.tok _,(_,rfl),q)) z
def Ve:OpR X (inplaceOp .Add) (λx y H Q=>∃i j,x=.str i/\y=.str j/\i⁻¹+j⁻¹<=sizeLine/\Q (.str (i++j)) H):=by intro p9 s Y H x y v u Q I J O h;let(i,j,rfl,rfl,z,q):=h;let(t,rfl):=J;let(t',rfl):=O;exact iadd_str (λt' tk=>(.str (i++j),H,I.tok _,(_,rfl),q)) z
def vals1{x:V}(r:Vals [x] us):∃u,us=[u]/\RelV x u:=by
 cases r with
 |cons y z=>cases z;exact(_,rfl,y)
def vals2{x:V}(r:Vals [x,y] us):∃u z,us=[u,z]/\RelV x u/\RelV y z:=by
 cases r with
 |cons J O=>
  cases O with
  |cons U Y=>cases Y;exact(_,_,rfl,J,U)
def Dh:bM X (.type "int") (λxs H Q=>(∃i,xs=[.int i]/\Q (.int i) H)\/∃k,xs=[.bl k]/\Q (.int (if k then 1 else 0)) H):=by
 intro p9 s Y H xs us Q I r h;rcases h with⟨i,rfl,q⟩|⟨k,rfl,q⟩
 .let(u,rfl,t,rfl):=vals1 r;exact call_int_int (.int i,H,I,(_,rfl),q)
 .let(u,rfl,y):=vals1 r;cases y;exact call_int_bool (.int (if k then 1 else 0),H,I.tok _,(_,rfl),q)
end
structure ObjM(h:Heap)(x dx C:AQ)(mA:AH):Prop where
 obj:h.get? x=some (PySem.W.instObj C dx)
 ns:h.Ns1 dx mA
 ne:dx≠x
def Di(n:h.Ns1 dx mA):∃od,h.get? dx=-od/\∀name,PySem.W.lookIn name od=-(mA name):=by
 let(o,es,ep,ho,hd,U,_,Y):=n;show(o,ho,λname=>?_);have e:=Y name;unfold nsFind findBy at e;rw[<-Array.find?_toList]at e;unfold PySem.W.lookIn;rw[hd];dsimp only;split
 .rename_i y q;rw[q]at e;exact fT some e
 .rename_i q;rw[q]at e;have a:es.toList.any (·.refKey)=false:=by
   rw[List.any_eq_false];intro y hy;let(z,t,J):=U y (Array.mem_toList_iff.mp hy);simp[DictEntry.refKey,J]
  have O:¬es.toList.any (·.refKey)=true:=by rw[a];exact ck
  rw[if_neg O];exact fT some e
def ObjM.look{x:AQ}(I:ObjM h x dx C mA):∃od,PySem.W.InstAt h x (PySem.W.instObj C dx) C (-od)/\∀name,PySem.W.lookIn name od=-(mA name):=
 let(od,ho,hl):=Di I.ns
 (od,(I.obj,rfl,rfl,ho),hl)
def RelO.some_of{v:V}{o:Option AN}(r:RelO (-v) o):∃u,o=-u/\RelV v u:=by
 cases o with
 |none=>exact(show False from r).elim
 |some u=>exact(u,rfl,r)
def Vf{v:V}(r:RelV v u):PySem.W.handedIn u=true:=by
 cases v with
 |non=>cases(show u=Value.none from r);rfl
 |bl b=>cases(show u=Value.bool b from r);rfl
 |int i=>let(t,e):=(show ∃t,u=Value.int i t from r);cases e;rfl
 |str x=>let(t,e):=(show ∃t,u=Value.str x t from r);cases e;rfl
 |byt b=>let(t,e):=(show ∃t,u=Value.bytes b t from r);cases e;rfl
 |flt b=>let(t,e):=(show ∃t,u=Value.float b t from r);cases e;rfl
 |ref a=>cases(show u=Value.ref a from r);rfl
 |ty n=>cases(show u=Value.type n from r);rfl
section
variable {P:AK} {w:World} {H H':Hp} {h h':Heap} {a C dx:AQ} {fs fs':List (Str×V)}
def Vg(J:HOk P w H h)(e:H a=-(.ins C dx fs)):∃y,ObjM h a dx C y/\(∀f,RelO (fs.lookup f) (y f))/\PySem.Within y (fs.map (·.1))/\fs⁻¹<=1000/\H dx=-(.own a):=by let(d,z,ne,ob,y,n,r,q):=(show ObjOk P w H h a (.ins C dx fs) from J a _ e);exact(y,(ob,n,ne),r,q,z,d)
end
structure Cls(K:PF)(C:AQ):Prop where
 pg:PySem.W.plainGet K C Str.empty=true
 hd:PySem.W.hasDictIn K C=true
 po:PySem.W.plainOver K C=true
 sa:PySem.W.findIn K (.ref C) "__setattr__"=some (some (.builtin "object.__setattr__"))
def Cls.get{K:PF}(c:Cls K C)(f:Str):PySem.W.plainGet K C f=true:=c.pg
def Vh(K:PF)(C:AQ)(f:Str):Prop:=PySem.W.findIn K (.ref C) f=-none
structure Meth(K:PF)(C:AQ)(m:Str)(f:AQ):Prop where
 at_:PySem.W.findIn K (.ref C) m=some (some (.ref f))
 fn:PySem.W.isFn K (.ref f)=true
 kp:PySem.W.keepIn K (.ref f)=true
section
variable {X:Cx} {p9:AC} {σ:St} {H:Hp} {s:AI} {a C dx:AQ} {fs:List (Str×V)} {f:Str} {v:V} {A:AM} {E:AG}
def Vi{prog:AK}{w:World}{env:Env}{pos:Pos}(z:attributeBase e f env (eval e env)=eval e env)(h:wpAny (model prog w) A (eval e env) (λo y=>wpAny (model prog w) A (getAttr o f true) Q E y) E s):wpAny (model prog w) A (eval (.Attribute e f pos) env) Q E s:=
 Attribute_any_ h (by rw[arm_eval_Attribute,z])
end
section
variable {X:Cx} {p9:AC} {σ:St} {H:Hp} {s:AI} {A:AM} {E:AG} {Q:AG} {c:AN} {b:Bool}
inductive TyOf (K:PF) (H:Hp):V->AN->Prop where
 |non:TyOf K H .non (.type "NoneType")
 |bl (x:Bool):TyOf K H (.bl x) (.type "bool")
 |int (i:Int):TyOf K H (.int i) (.type "int")
 |str (x:Str):TyOf K H (.str x) (.type "str")
 |flt (x:UInt64):TyOf K H (.flt x) (.type "float")
 |lst {a:AQ} {xs:AR} (e:H a=some (.lst xs)):TyOf K H (.ref a) (.type "list")
 |frz {a:AQ} {o:Obj} {xs:AR} (e:H a=some (.frz o (.lst xs))):TyOf K H (.ref a) (.type "list")
 |tup {a:AQ} {xs:AR} (e:H a=some (.tup xs)):TyOf K H (.ref a) (.type "tuple")
 |dK {a:AQ} {kvs:List (Key×V)} (e:H a=some (.dK kvs)):TyOf K H (.ref a) (.type "dict")
 |dT {a:AQ} {kvs:List (List Key×V)} (e:H a=some (.dT kvs)):TyOf K H (.ref a) (.type "dict")
 |ins {a C dx:AQ} {fs:List (Str×V)} (e:H a=some (.ins C dx fs)) (cl:Cls K C) (ha:PySem.W.findIn K (.ref C) "__class__"=some (some (.builtin "object.__class__")))
   (hn:PySem.W.specialIn K (.builtin "object.__class__") "__get__"=some (some (.builtin "getset_descriptor.__get__"))) (htk:PySem.W.takesIn K (.builtin "object.__class__")=some true)
   (hm:PySem.W.mroIn K C (.type "object")=some true):TyOf K H (.ref a) (.ref C)
def Vj{x:V}{t:AN}(I:Inv X p9 σ H s)(U:RelV x u)(ty:TyOf X.K H x t)(e:PySem.W.kitOne X.K t c=-b)(h:∀tk,Q (.bool b) {s with toks:=tk}):
  wpAny (model X.prog X.w) A (call (.builtin "isinstance") [u,c]) Q E s:=by
 cases ty with
 |non=>cases(show u=Value.none from U);exact fe PySem.W.kitx_none I.kIn True.intro e (λz=>nomatch z) h
 |bl y=>cases(show u=Value.bool y from U);exact fe PySem.W.kitx_bool I.kIn True.intro e (λz=>nomatch z) h
 |int i=>let(t,q):=(show ∃t,u=Value.int i t from U);cases q;exact fe PySem.W.kitx_int I.kIn True.intro e (λz=>nomatch z) h
 |str y=>let(t,q):=(show ∃t,u=Value.str y t from U);cases q;exact fe PySem.W.kitx_str I.kIn True.intro e (λz=>nomatch z) h
 |flt y=>let(t,q):=(show ∃t,u=Value.float y t from U);cases q;exact fe PySem.W.kitx_float I.kIn True.intro e (λz=>nomatch z) h
 | @lst a xs ea=>
  cases(show u=Value.ref a from U);let(_,_,n,_,h1):=(show ObjOk X.prog X.w H s.heap a (.lst xs) from I.hok a _ ea);exact fe PySem.W.kitx_list I.kIn (_,h1,rfl) e (λz=>nomatch z) h
 | @frz a ob xs ea=>
  cases(show u=Value.ref a from U);let(_,_,_,n,_,h1):=(show ObjOk X.prog X.w H s.heap a (.frz ob (.lst xs)) from I.hok a _ ea);exact fe PySem.W.kitx_list I.kIn (_,h1,rfl) e (λz=>nomatch z) h
 | @tup a xs ea=>
  cases(show u=Value.ref a from U);let(_,_,_,p):=(show ObjOk X.prog X.w H s.heap a (.tup xs) from I.hok a _ ea);let(o,h1,h2,_):=p;exact fe PySem.W.kitx_tuple I.kIn (o,h1,h2) e (λz=>nomatch z) h
 | @dK a kvs ea=>
  cases(show u=Value.ref a from U);let(_,_,vs,_,p):=(show ObjOk X.prog X.w H s.heap a (.dK kvs) from I.hok a _ ea);let(o,es,ep,h1,h2,_):=p;exact fe PySem.W.kitx_dict I.kIn (o,h1,h2.1) e (λz=>nomatch z) h
 | @dT a kvs ea=>
  cases(show u=Value.ref a from U);let(_,_,xs,_,o,es,ep,h1,h2,_):=(show ObjOk X.prog X.w H s.heap a (.dT kvs) from I.hok a _ ea);exact fe PySem.W.kitx_dict I.kIn (o,h1,h2.1) e (λz=>nomatch z) h
 | @ins a C dx fs ea cl ha hn htk hm=>
  cases(show u=Value.ref a from U);let(Y,O,_):=Vg I.hok ea;let(od,J,_):=O.look;exact fe (PySem.W.kitx_own (cl.get _) cl.hd ha hn htk hm) I.kIn J e (λz=>nomatch z) h
end
structure Room(k:Nat)(A:AM):Prop where
 hd:A.handled=none
 dp:A.depth+3 * k+5 < recursionLimit
 un:A.units+16 * k+200 < cLine
def Room.mono{k:Nat}{A:AM}(r:Room k A)(h:j<=k):Room j A:=(r.hd,by have:=r.dp;lia,by have:=r.un;lia)
def Room.deeper{k:Nat}{A:AM}(r:Room (k+1) A)(env:Env):Room k (A.deeper env):=
 (r.hd,by have:=r.dp;change A.depth+1+3*k+5<_;lia,by have:=r.un;change A.units+3+16*k+200<_;lia)
def Vk{A:AM}:(A.under (.builtin "type.__call__" (.ref C::us,kw))).depth=A.depth+1:=by first|rfl|simp[Around.under,Code.weight,Code.isCreation,Code.isGuard,Code.isCaller,Code.frames,Code.isFrame,guardIds]
def Vl{A:AM}:(A.under (.builtin "type.__call__" (.ref C::us,kw))).units=A.units+1:=by first|rfl|simp[Around.under,Code.cUnits,Code.frames,Code.isFrame]
def Room.make{k:Nat}{A:AM}(r:Room (k+1) A)(C:AQ)(us:AB)(y:List (Str×AN)):Room k (A.under (.builtin "type.__call__" (.ref C::us,y))):=
 (r.hd,by have:=r.dp;rw[Vk];lia,by have:=r.un;rw[Vl];lia)
def Room.depth{k:Nat}{A:AM}(r:Room k A):A.depth<recursionLimit:=by have:=r.dp;lia
def Vm:TA:=λz H Q=>Q [] H
def Vn(ta:TE)(y:TA):TA:=λY H Q=>ta Y H λx H1=>y Y H1 λxs H2=>Q (x::xs) H2
section
variable {X:Cx} {e:AO} {es:AE} {te:TE} {t:TA} {pos:Pos}
def fQ:PA X [] Vm:=λz z z z H Q I h=>Calls.spliced_nil ([],H,I,.nil,h)
def dI(J:PE X e te)(O:PA X es t)(hs:starEach (e::es) X.env=(false,eval e X.env)::starEach es X.env:=by rfl):PA X (e::es) (Vn te t):=by intro pos p9 s Y H Q I h;rw[hs];change wpAny _ _ (spliced ((false,eval e X.env)::backTo pos (starEach es X.env))) _ _ s;show Calls.spliced_cons (thn (J p9 s Y H _ I h) λu s1 zZ=>?_);let(x,H1,y,r1,U):=zZ;show thn (O pos p9 s1 Y H1 _ y U) λus s2 zZ=>?_;let(xs,H2,z,r2,q2):=zZ;exact(x::xs,H2,z,.cons r1 r2,q2)
def Vo(t:TA):TE:=λY H Q=>t Y H λxs H1=>xs⁻¹<=sizeLine/\∀p,H1 p=none->Q (.ref p) (upd H1 p (.tup xs))
def Vp(t:TA):TE:=λY H Q=>t Y H λxs H1=>xs⁻¹<=sizeLine/\∀p,H1 p=none->Q (.ref p) (upd H1 p (.lst xs))
def Vq{x1}(h:PA X es t):PE X (.Tuple es x1 pos) (Vo t):=by intro p9 s Y H Q I U;show wpAny_Tuple_spliced (thn (h pos p9 s Y H _ I U) λus y zZ=>?_);let(xs,H1,J,r,z,q):=zZ;show(by rw[<-r⁻¹];exact z,?_);have O:H1 y.heap.objs.size=none:=J.hok.fresh (ay _);show(.ref y.heap.objs.size,upd H1 y.heap.objs.size (.tup xs),J.laid (t':=y.toks) (λb u e=>ag _ e) (ay _) ?_,rfl,q _ O);exact(z,us,r,(_,bd _ rfl,rfl,_,rfl))
def Vr(h:PA X es t):PE X (.List es pos) (Vp t):=by intro p9 s Y H Q I U;show wpAny_List_spliced (thn (h pos p9 s Y H _ I U) λus y zZ=>?_);let(xs,H1,J,r,z,q):=zZ;show(by rw[<-r⁻¹];exact z,?_);have O:H1 y.heap.objs.size=none:=J.hok.fresh (ay _);show(.ref y.heap.objs.size,upd H1 y.heap.objs.size (.lst xs),J.laid (t':=y.toks) (λb u e=>ag _ e) (ay _) ?_,rfl,q _ O);exact(z,us,0,r,bd _ rfl)
end
abbrev Sp:=AR->Hp->VK->XK->Prop
variable {sp:Sp}
abbrev CXT:=List Env->Hp->AI->XK->AN->AI->Prop
variable {CX:CXT}
structure Env0(P:AK)(w:World)(K:PF)(mg:AH)(base:Heap)(A:AM)(outer:List Env)(s:AI)(H:Hp):Prop where
 frames:A.frames=some outer
 mod:Mod K mg base
 bs:∀b o,base.get? b=some o->s.heap.get? b=some o/\H b=none
 bsz:base.objs.size<=(~~~s)
 funs:s.heap.FunFrames base outer
 frf:∀b∈frs outer,H b=none
 hok:HOk P w H s.heap
 bare:AllBare s.gens
def CE(outer:List Env)(P:AK)(w:World)(H:Hp)(s:AI)(Q:VK)(u:AN)(s':AI):Prop:=
 ∃v H',s'.os=s.os/\AllBare s'.gens/\Un (frs outer) [] H H' s.heap s'.heap/\HOk P w H' s'.heap/\RelV v u/\Q v H'
def CR(CX:CXT)(outer:List Env)(P:AK)(w:World)(H:Hp)(s:AI)(Q:VK)(E:XK)(r:Result)(s':AI):Prop:=
 match r with
 |.ok (.ret u)=>CE outer P w H s Q u s'
 |.ok _=>False
 |.error e=>CX outer H s E e s'
structure FnOk(P:AK)(w:World)(K:PF)(mg:AH)(base:Heap)(CX:CXT)(k:Nat)(f:AQ)(fd:AJ)(ps:AD)(sp:Sp):Prop where
 len:∀vs H Q E,sp vs H Q E->vs.length=ps.length
 run:∀(A:AM)(outer:List Env)(s:AI)(H:Hp)(args:Args)(us:AB)(vs:AR)(Q:VK)(E:XK),Room k A->Env0 P w K mg base A outer s H->BindsTo s fd args (ps.zip us)->Vals vs us->sp vs H Q E->
  codeAny (model P w) A (.call (.ref f) args) (CR CX outer P w H s Q E) s
def FnOk.mono{w:World}{K:PF}{mg:AH}{base:Heap}{k:Nat}(F:FnOk P w K mg base CX j f fd ps sp)(h:j<=k):
  FnOk P w K mg base CX k f fd ps sp:=(F.len,λA outer s H args us vs Q E y=>F.run A outer s H args us vs Q E (y.mono h))
def FnOk.imp{w:World}{K:PF}{mg:AH}{base:Heap}{k:Nat}{y:Sp}(F:FnOk P w K mg base CX k f fd ps sp)(h:∀vs H Q E,y vs H Q E->sp vs H Q E):FnOk P w K mg base CX k f fd ps y:=
 (λvs H Q E q=>F.len vs H Q E (h _ _ _ _ q),λA outer s H args us vs Q E J he z O hs=>F.run A outer s H args us vs Q E J he z O (h _ _ _ _ hs))
def Env0.make{w:World}{K:PF}{mg:AH}{base:Heap}{A:AM}{outer:List Env}(e:Env0 P w K mg base A outer s H)(C:AQ)(us:AB)(y:List (Str×AN)):
  Env0 P w K mg base (A.under (.builtin "type.__call__" (.ref C::us,y))) outer s H:=(by first|exact e.frames | (simpa [Around.under,Code.envs,Code.isFrame,pushEnvs] using e.frames),e.mod,e.bs,e.bsz,e.funs,e.frf,e.hok,e.bare)
section
variable {X:Cx} {p9:AC} {σ:St} {H:Hp} {s s':AI}
def Inv.env0(I:Inv X p9 σ H s):Env0 X.prog X.w X.K X.mg X.base X.A X.stack s H:=
 (I.ok.frames,I.ok.mod,I.bs,cb I.ok.bsz I.sz,I.stack,I.stkFree,I.hok,I.bare)
def Inv.after{Q:VK}(I:Inv X p9 σ H s)(h:CE X.stack X.prog X.w H s Q u s'):EP X p9 σ Q u s':=by let(v,H',os,y,un,J,r,q):=h;let(hh,g,d,t,O):=s';obtain rfl:O=s.os:=os;exact(v,H',I.call (h':=hh) (g':=g) (d':=d) (t':=t) (ch:=[]) un J y (λb z=>absurd z (!2)),r,q)
end
def Vs(sp:Sp)(dvs:AR)(E:XK)(t:TA):TE:=λY H Q=>t Y H λvs H1=>sp (vs++dvs) H1 Q E
def Binds(K:PF)(fd:AJ)(ps:AD)(ds:AB):Prop:=
 ∀(s:AI)(us:AB),K.In s.heap->(us++ds)⁻¹=ps⁻¹->BindsTo s fd (us,[]) (ps.zip (us++ds))
def Binds.all{K:PF}(h:∀us:AB,us⁻¹=ps⁻¹->bindArgs fd (us,[])=pure (ps.zip us)):Binds K fd ps []:=λs us z hl=>by
 rw[eM]at hl ⊢;exact .of_eq (h us hl)
def gZ(CX:CXT)(X:Cx)(E:XK):Prop:=∀(p9:AC)(Y:St)(H:Hp)(s:AI)(e:AN)(s':AI),Inv X p9 Y H s->CX X.stack H s E e s'->X.xe e s'
section
variable {X:Cx} {CX:CXT} {k:Nat} {f C:AQ} {fd:AJ} {ps:AD} {sp:Sp} {dvs:AR} {ds:AB} {E:XK} {x m:Str} {p pos apos:Pos} {e o:AO} {es:AE} {ta:TE} {t:TA}
def Vt{Q:VK}(F:FnOk X.prog X.w X.K X.mg X.base CX k f fd ps sp)(O:Room k X.A)(J:Binds X.K fd ps ds)(hd:Vals dvs ds)(U:gZ CX X E)(I:Inv X p9 Y H s)(r:Vals vs us)(h:sp (vs++dvs) H Q E):↥X (call (.ref f) us) (EP X p9 Y Q) X.xe s:=by
 have z:Vals (vs++dvs) (us++ds):=r.append hd;have hl:(us++ds)⁻¹=ps⁻¹:=by rw[<-z⁻¹];exact F.len _ _ _ _ h
 show wpAny_call (kn (F.run X.A X.stack s H (us,[]) (us++ds) (vs++dvs) Q E O I.env0 (J s us I.kIn hl) z h) λr s' y=>?_);cases r with
 |error e=>exact U p9 Y H s e s' I y
 |ok fl=>
  cases fl with
  |ret u=>exact I.after y
  |next=>exact False.elim y
  |brk=>exact False.elim y
  |cont=>exact False.elim y
def Vu(F:FnOk X.prog X.w X.K X.mg X.base CX k f fd ps sp)(hr:Room k X.A)(hg:Gl X x)(hm:X.mg x=-(.ref f))(hk:PySem.W.keepIn X.K (.ref f))(U:Binds X.K fd ps ds)(hd:Vals dvs ds)(hx:gZ CX X E)(O:PA X (e::es) t)(y:(x==("__debug__":Str))=false:=by decide)(he:starEach (e::es) X.env=(false,eval e X.env)::starEach es X.env:=by rfl)(z:(backTo pos (starEach es X.env)).any (·.1)=false:=by rfl):
  PE X (.Call (.Name x p) (e::es) [] pos) (Vs sp dvs E t):=by
 intro p9 s Y H Q I h;show jv (gY I hg hm ?_ y);show PySem.W.callWith_K (h₀:=X.base) I.ok.mod.kin hk (thn (O pos p9 s Y H _ I h) λus s1 zZ=>?_) he z;let(vs,H1,J,r,q):=zZ;show(J.kIn,?_);exact Vt F hr U hd hx J r q
structure Mk(K:PF)(C f:AQ):Prop where
 makes:PySem.W.makesIn K C=true
 init:PySem.W.findIn K (.ref C) "__init__"=some (some (.ref f))
 fn:PySem.W.isFn K (.ref f)=true
 kp:PySem.W.keepIn K (.ref C)=true
end
structure FnScope(N P:AD)(sc:Scope):Prop where
 kind:sc.kind=.function
 co:sc.isCoroutine=false
 gen:sc.isGenerator=false
 nd:N.Nodup
 pre:N.take P.length=P
 par:∀x∈P,sc.names.lookup x=some .local\/sc.names.lookup x=some .cell
 nofree:∀y∈sc.names,y.2≠.free
def Dj:∀{binds:List (Str×AN)}{m:AH},(∀v,(x,v)∉binds)->bindL kindOf binds m x=m x
 |[],_,_=>rfl
 | (n,v)::r,m,h=>by
  unfold bindL;rw[Dj λw hw=>h w (bP _ hw)];split
  .have:x≠n:=by rintro rfl;exact h v aT
   simp[this]
  .rfl
def Dk:∀{binds:List (Str×AN)}{m:AH},(∀v,(x,v)∉binds)->bindC kindOf binds m x=m x
 |[],_,_=>rfl
 | (n,v)::r,m,h=>by
  unfold bindC;rw[Dk λw hw=>h w (bP _ hw)];split
  .rfl
  .have:x≠n:=by rintro rfl;exact h v aT
   simp[this]
def Dl{v:AN}:∀{P:AD}{vs:AB}{i:Nat}{m:AH},P.Nodup->P[i]?=-x->vs[i]?=-v->kindOf x=-.local->
  bindL kindOf (P.zip vs) m x=-v
 |[],_,_,_,_,h,_,_=>by simp at h
 |_::_,[],_,_,_,_,h,_=>by simp at h
 |p::P,w::vs,0,m,nd,h1,h2,hk=>by
  simp at h1 h2;subst h1;subst h2;change bindL kindOf ((p,w)::P.zip vs) m p=_;unfold bindL;rw[Dj λv y=>(fA.mp nd).1 (List.of_mem_zip y).1,if_pos hk];simp
 |p::P,w::vs,i+1,m,nd,h1,h2,hk=>by
  change bindL kindOf ((p,w)::P.zip vs) m x=_;unfold bindL;exact Dl (i:=i) (fA.mp nd).2 (!!h1) (!!h2) hk
def Dm{v:AN}:∀{P:AD}{vs:AB}{i:Nat}{m:AH},P.Nodup->P[i]?=-x->vs[i]?=-v->kindOf x≠some .local->
  bindC kindOf (P.zip vs) m x=-v
 |[],_,_,_,_,h,_,_=>by simp at h
 |_::_,[],_,_,_,_,h,_=>by simp at h
 |p::P,w::vs,0,m,nd,h1,h2,hk=>by
  simp at h1 h2;subst h1;subst h2;change bindC kindOf ((p,w)::P.zip vs) m p=_;unfold bindC;rw[Dk λv y=>(fA.mp nd).1 (List.of_mem_zip y).1,if_neg hk];simp
 |p::P,w::vs,i+1,m,nd,h1,h2,hk=>by
  change bindC kindOf ((p,w)::P.zip vs) m x=_;unfold bindC;exact Dm (i:=i) (fA.mp nd).2 (!!h1) (!!h2) hk
def start(N:AD)(vs:AR):St:=vs.map some++List.replicate (N⁻¹-vs⁻¹) none
def dg(CX:CXT)(P:AK)(w:World)(K:PF)(mg:AH)(base:Heap)(N:AD)(qual:Str)(scope:Scope)(f:AQ)(cd:AN)(A:AM)(outer:List Env)(s:AI)(H:Hp)(E:XK):Cx where
 prog:=P
 w:=w
 K:=K
 mg:=mg
 base:=base
 A:=A.deeper (envOfC qual scope (~~~s) f cd)
 N:=N
 s₀:=s
 H₀:=H
 env:=envOfC qual scope (~~~s) f cd
 outer:=outer
 stack:=envOfC qual scope (~~~s) f cd::outer
 ex:=[]
 calm:=true
 fn:=λx=>true
 pn:=[]
 xe:=λe s'=>wpAny (model P w) (A.deeper (envOfC qual scope (~~~s) f cd)) (leaving (envOfC qual scope (~~~s) f cd) e) (λx y=>CX outer H s E e y) (λz y=>CX outer H s E z y) s'
def Do{y:Scope}(h:y.names.lookup x=-.cell):∃c,(cellsFrom n y.names []).lookup x=-c:=by have q:=PySem.W.cellsFrom_some y.names n [] (.inl h);exact dA.mp q
def Dp{w:World}{K:PF}{mg:AH}{base:Heap}{N:AD}{cd:AN}{A:AM}{outer:List Env}{s1:AI}{E:XK}(S:FnScope N ps scope)(hd:A.handled=none)(J:Env0 P w K mg base A outer s H)(hl:vs⁻¹=ps⁻¹)(r:Vals vs us)(x:InCallC s (~~~s) (bindL (envOfC qual scope (~~~s) f cd).kindOf (ps.zip us) λt=>none) (cellsFrom ((~~~s)+1) scope.names []) (bindC (envOfC qual scope (~~~s) f cd).kindOf (ps.zip us) λt=>none) s1):
  Inv (dg CX P w K mg base N qual scope f cd A outer s H E) [] (start N vs) H s1:=by
 have hpl:ps⁻¹<=N⁻¹:=by have:=fT List.length S.pre;rw[bv]at this;lia
 let(h1,tk,rfl,hk):=x.done;have U:∀b:AQ,b∉(dg CX P w K mg base N qual scope f cd A outer s H E).ex:=λb z=>absurd (show b∈([]:List AQ) from z) (!2);show((J.mod,S.kind,rfl,rfl,ay _,λy z c h1 h2=>?_,λy O=>?_,λy c t h=>?_,λt=>hd,Around.frames_deeper J.frames,.inr (rfl,rfl),λb z=>absurd z (U b),J.bs,J.bsz,λb t t=>U b,λb z=>absurd z (U b),J.funs,J.frf),
  rfl,J.bare,Un.kept hk,(_,x.toInCall.ns,λi y v h1 h2 h3=>?_),λy c h=>(_,x.cell y c h),J.hok.fresh (ay _),λy c h=>?_,λp Y=>absurd (show p∈([]:AC) from Y) (!2),J.hok.kept hk,?_)
 .exact name_of_addr x.apart (fy h1) (fy h2)
 .have O:scope.names.lookup y=-.cell\/scope.names.lookup y=-.free:=O;rcases O with O|O
  .exact Do O
  .exact absurd rfl (S.nofree _ (fy O))
 .exact Nat.le_of_lt (x.above y c (fy h))
 .have hi:i<vs⁻¹:=by
   unfold start at h2;by_cases hi:i<vs⁻¹
   .exact hi
   .rw[List.getElem?_append_right (!!hi)]at h2;rw[List.getElem?_replicate]at h2;split at h2<;>cases h2
  have ha:vs[i]?=-v:=by
   unfold start at h2;rw[gE (!!hi),aS]at h2;cases e:vs[i]? with
   |none=>rw[e]at h2;cases h2
   |some a=>rw[e]at h2;cases h2;rfl
  let(u,hu,rv):=r.get ha;have Y:ps[i]?=-y:=by rw[<-S.pre,List.getElem?_take_of_lt (!0)];exact h1
  have ndP:ps.Nodup:=by rw[<-S.pre];exact S.nd.sublist (List.take_sublist _ _)
  show(u,rv,?_);rcases S.par y (bg Y) with k|k
  .exact .inl (k,Dl ndP Y hu k)
  .let(c,e):=Do (n:=(~~~s)+1) k;show .inr (.inl k,c,e,?_);have q:=x.cell y c e;rw[Dm ndP Y hu (by change scope.names.lookup y≠_;rw[k];decide)]at q;exact q
 .exact J.hok.fresh (Nat.le_of_lt (x.above y c (fy h)))
 .unfold start;change _=N⁻¹;rw[ax,ah,de];lia
def Vv{w:World}{K:PF}{mg:AH}{base:Heap}{k:Nat}{name:Str}{params:Arguments}{dV kV Y pm cdv ct oc:AN}{an od:Option AQ}{osl:Array (Option AN)}{N:AD}(lk:K.lookup f=-(oc,od,.func (PySem.W.fnOf name qual params body scope dV kV Y pm an cdv ct),osl))(hcd:PySem.W.codeIn K cdv qual)(S:FnScope N ps scope)(len:∀vs H Q E,sp vs H Q E->vs⁻¹=ps⁻¹)(O:∀(A:AM)(outer:List Env)(s:AI)(H:Hp)(vs:AR)(Q:VK)(E:XK),Room k (A.deeper (envOfC qual scope (~~~s) f cdv))->sp vs H Q E->
   ∃t,PSs (dg CX P w K mg base N qual scope f cdv A outer s H E) body t/\t {nx:=λp H'=>Q .non H',rt:=Q} (start N vs) H):
  FnOk P w K mg base CX (k+1) f (PySem.W.fnOf name qual params body scope dV kV Y pm an cdv ct) ps sp:=by
 show(len,λA outer s H args us vs Q E hr e0 hb r hsp=>?_);have hl:=len _ _ _ _ hsp;have KX:K.In s.heap:=e0.mod.kin.keeps λb o e=>(e0.bs b o e).1;have lim:s.heap.NoLimit:=e0.mod.nolimit.keeps λb o e=>(e0.bs b o e).1;have U:∀y∈ps.zip us,scope.names.lookup y.1=-.local\/(scope.names.lookup y.1=-.cell/\((cellsFrom ((~~~s)+1) scope.names []).lookup y.1).isSome=true):=λzZ hy=>by
  let(n,v):=zZ;rcases S.par n (List.of_mem_zip hy).1 with q|q
  .exact .inl q
  .exact .inr (q,PySem.W.cellsFrom_some _ _ _ (.inl q))
 show codeAny_call_function hr.depth (KX _ _ lk) rfl S.co S.gen rfl (PySem.W.codeRec_of KX hcd) (hb _ _ _ _ ?_);show wpAny_newFunctionEnv_cells S.kind U λenv he s1 x=>?_;subst he;show(lim.keeps x.toInCall.keep,codeAny_func ?_);let(t,ht,hq):=O A outer s H vs Q E (hr.deeper _) hsp;have I:Inv (dg CX P w K mg base N qual scope f cdv A outer s H E) [] (start N vs) H s1:=Dp S hr.hd e0 hl r x;show cm (ht [] s1 (start N vs) H _ I hq) (λfl s' hs=>?_) λe s' hs=>hs;have fin:∀{z:St}{H':Hp}{v:V}{u:AN},Inv (dg CX P w K mg base N qual scope f cdv A outer s H E) [] z H' s'->RelV v u->Q v H'->CE outer P w H s Q u s':=
  λ{z H' v u} J rv q=>(v,H',J.os,J.bare,J.base,J.hok,rv,q)
 cases fl with
 |ret u=>
  let(v,z,H',J,rv,q):=hs;exact fin J rv q
 |next=>
  let(z,H',J,q):=hs;exact fin (v:=V.non) (u:=Value.none) J rfl q
 |brk=>
  let(_,_,_,q):=hs;exact False.elim q
 |cont=>
  let(_,_,_,q):=hs;exact False.elim q
section
variable {X:Cx} {x:Str} {p pos:Pos} {e:AO} {es:AE} {t:TA} {id T:AL} {r:AR->Hp->VK->Prop}
def tCB(r:AR->Hp->VK->Prop)(t:TA):TE:=λY H Q=>t Y H λvs H1=>r vs H1 Q
def jC(hc:bM X (.builtin id) r)(U:Gl X x)(hm:X.mg x=none)(hv:bootBuiltins x=-(.builtin id))(O:PA X (e::es) t)(hn:x≠"__name__":=by decide)(y:(x==("__debug__":Str))=false:=by decide)(he:starEach (e::es) X.env=(false,eval e X.env)::starEach es X.env:=by rfl)(z:(backTo pos (starEach es X.env)).any (·.1)=false:=by rfl):PE X (.Call (.Name x p) (e::es) [] pos) (tCB r t):=by
 intro p9 s Y H Q I h;show jv (jB I U hm hv ?_ hn y);show PyProof.Rows.callWith_builtin1 (thn (O pos p9 s Y H _ I h) λus s1 zZ=>?_) he z;let(vs,H1,J,r1,q1):=zZ;exact hc p9 s1 Y H1 vs us Q J r1 q1
def lC(hc:bM X (.type T) r)(U:Gl X x)(hm:X.mg x=none)(hv:bootBuiltins x=-(.type T))(O:PA X (e::es) t)(hn:x≠"__name__":=by decide)(y:(x==("__debug__":Str))=false:=by decide)(he:starEach (e::es) X.env=(false,eval e X.env)::starEach es X.env:=by rfl)(z:(backTo pos (starEach es X.env)).any (·.1)=false:=by rfl):PE X (.Call (.Name x p) (e::es) [] pos) (tCB r t):=by
 intro p9 s Y H Q I h;show jv (jB I U hm hv ?_ hn y);show ic (thn (O pos p9 s Y H _ I h) λus s1 zZ=>?_) he z;let(vs,H1,J,r1,q1):=zZ;exact hc p9 s1 Y H1 vs us Q J r1 q1
end
end L2
namespace HT
open PySem PyProof.Rows
variable {Q:AG}{sl:AQ}{vl vu:AN}{lo hi:Option Int}
section
variable {prog:AK} {w:World} {A:AM} {E:AG} {s:AI}
def Vw{t b:AQ}{vs y:AB}(ht:IsTup s.heap t vs.toArray)(hb:IsTup s.heap b y.toArray)(hv:vs≠[])(h1:y=[]->Q (.ref t) s)(h2:y≠[]->Q (.ref (~~~s)) {s with heap:=s.heap.push {cls:=.type "tuple",data:=.seq (vs++y).toArray}})(hsz:vs⁻¹+y⁻¹<=sizeLine):wpAny (model prog w) A (binaryOp .Add (.ref t) (.ref b)) Q E s:=by
 let((cls,dd,data,sl),ho,hc,n,hd):=id ht;let((cls2,J,data2,Y),z,O,n2,U):=id hb;simp only at hc hd O U;subst hc hd O U;have e:vs.toArray++y.toArray=(vs++y).toArray:=by simp
 by_cases hw:y=[]
 .exact concat_meets (_,ho,rfl) (_,z,rfl) noFill_tuple_add seq_tuple_add PySem.F.slot_tuple_add PySem.F.entry_tuple_add (PySem.F.args_tuple_add_2 _ _)
   (tuple_addW1 t b vs.toArray y.toArray n n2 dd J sl Y (!!hv) (by simp[hw])) (ho,z,h1 hw)
 .show concat_meets (_,ho,rfl) (_,z,rfl) noFill_tuple_add seq_tuple_add PySem.F.slot_tuple_add PySem.F.entry_tuple_add (PySem.F.args_tuple_add_2 _ _)
   (tuple_addW2 t b vs.toArray y.toArray n n2 dd J sl Y (!!hv) (!!hw) (by rw[List.size_toArray,List.size_toArray];exact hsz)) (ho,z,?_)
  rw[e];exact h2 hw
def sIx(n d:Nat):Option Int->Nat
 |none=>d
 |some v=>if v<0 then(v+(n:Int)).toNat else min v.toNat n
theorem Dq(n d k:Nat):sIx n d (-(k:Int))=min k n:=by change(if(k:Int)<0 then((k:Int)+(n:Int)).toNat else min (k:Int).toNat n)=min k n;rw[if_neg (!0),Int.toNat_natCast]
theorem Ds(n d:Nat)(hd:d<=n)(o:Option Int):sIx n d o<=n:=by
 cases o with
 |none=>exact hd
 |some v=>
  change(if v<0 then(v+(n:Int)).toNat else min v.toNat n)<=n;by_cases y:v<0
  .rw[if_pos y];lia
  .rw[if_neg y];exact Nat.min_le_right _ _
theorem Dt(v:Int)(n d:Nat):(if v<0 then max (v+(n:Int)) 0 else min v (n:Int))=((sIx n d (-v):Nat):Int):=by
 change(if v<0 then max (v+(n:Int)) 0 else min v (n:Int))=(((if v<0 then(v+(n:Int)).toNat else min v.toNat n):Nat):Int);by_cases y:v<0
 .simp only[if_pos y];lia
 .simp only[if_neg y];lia
theorem Vx(lo hi:Option Int)(n:Nat):Builtin.Slice.sliceAdjust lo hi 1 (n:Int)=(((sIx n 0 lo:Nat):Int),((sIx n n hi:Nat):Int)):=by
 have h1:¬((1:Int)<0):=by lia
 unfold Builtin.Slice.sliceAdjust;simp only[h1,if_false];show Prod.ext ?_ ?_
 .cases lo with
  |none=>rfl
  |some v=>exact Dt v n 0
 .cases hi with
  |none=>rfl
  |some v=>exact Dt v n n
theorem Vy(i j:Nat):Builtin.Slice.slicePlaces (i:Int) (j:Int) 1=j-i:=by
 unfold Builtin.Slice.slicePlaces;have h1:(1:Int) > 0:=by lia
 simp only[h1,if_true,Int.ediv_one];split<;>lia
def Du{v:AN}{o:Option Int}{Q:Option Int->AI->Prop}(p:IsPart v o)(h:Q o s):wpAny (model prog w) A (Builtin.Slice.slicePartIndex v) Q E s:=by
 cases p with
 |none=>exact slicePart_none h
 |int i t=>exact slicePart_int h
def Dv{n:Nat}{Q:Int×Int×Nat->AI->Prop}(hs:s.heap.IsSliceOf sl vl vu .none)(pl:IsPart vl lo)(O:IsPart vu hi)(h:Q (Prod.mk (((sIx n 0 lo:Nat):Int)) (Prod.mk (1) (sIx n n hi-sIx n 0 lo))) s):wpAny (model prog w) A (Builtin.Slice.sliceApplied (.ref sl) (pure (n:Int))) Q E s:=by
 let(os,z,J,y):=id hs;unfold Builtin.Slice.sliceApplied Builtin.Slice.sliceFields;show wpAny_bind (wpAny_bind (wpAny_field z y (x:=vl) rfl (wpAny_bind (wpAny_field z y (x:=vu) rfl (wpAny_bind (wpAny_field z y (x:=.none) rfl (wpAny_pure ?_)))))));show wpAny_bind (slicePart_none ?_);change wpAny _ _ (if((1:Int)==0)=true then _ else _) _ _ s;rw[if_neg (!1)];show wpAny_bind (Du pl (wpAny_bind (Du O (wpAny_bind (wpAny_pure ?_)))));change wpAny _ _ (match Builtin.Slice.sliceAdjust lo hi 1 (n:Int) with | (Prod.mk (lo) (hi))=>pure (Prod.mk (lo) (Prod.mk ((1:Int)) (Builtin.Slice.slicePlaces lo hi 1)))) _ _ s;rw[Vx lo hi n];change wpAny _ _ (pure (Prod.mk (((sIx n 0 lo:Nat):Int)) (Prod.mk ((1:Int)) (Builtin.Slice.slicePlaces ((sIx n 0 lo:Nat):Int) ((sIx n n hi:Nat):Int) 1)))) _ _ s;rw[Vy];exact wpAny_pure h
theorem Vz(xs:Array AN)(i k:Nat):((List.range k).filterMap λ(m:Nat)=>xs[((i:Int)+(m:Int)*1).toNat]?).toArray=((xs.toList.drop i).take k).toArray:=by
 have e:(λ(m:Nat)=>xs[((i:Int)+(m:Int)*1).toNat]?)=λm=>xs[i+m]?:=by
  funext m;have:((i:Int)+(m:Int)*1).toNat=i+m:=by lia
  rw[this]
 rw[e];have:=pick_run xs i k;rw[List.filterMap_map]at this;have y:((λx=>xs[x]?)∘λx=>i+x)=λm=>xs[i+m]?:=rfl;rw[y]at this;rw[this]
theorem VB{t:AQ}{y:Array AN}(J:IsTup s.heap t y)(hs:s.heap.IsSliceOf sl vl vu .none)(pl:IsPart vl lo)(pu:IsPart vu hi)(hw:¬(sIx y.size 0 lo=0/\sIx y.size y.size hi=y.size))(h:Q (.ref (~~~s)) {s with heap:=s.heap.push {cls:=.type "tuple",data:=.seq ((y.toList.drop (sIx y.size 0 lo)).take (sIx y.size y.size hi-sIx y.size 0 lo)).toArray}})(hsz:y.size<=sizeLine):wpAny (model prog w) A (getItem (.ref t) (.ref sl)) Q E s:=by
 have z:sizeOk (.seq ((y.toList.drop (sIx y.size 0 lo)).take (sIx y.size y.size hi-sIx y.size 0 lo)).toArray):=by change((y.toList.drop (sIx y.size 0 lo)).take (sIx y.size y.size hi-sIx y.size 0 lo)).toArray.size<=sizeLine;rw[List.size_toArray,List.length_take,List.length_drop,Array.length_toList];lia
 have hj:sIx y.size y.size hi<=y.size:=Ds _ _ (Nat.le_refl _) hi;let(os,hos,U,hds):=id hs;have O:s.TypeIs (.ref sl) "slice":=(os,hos,U);unfold getItem;try with_reducible show wpAny_holding ?_
 first|show wpAny_bind (wpAny_pure ?_)|skip
 show wpAny_bind (wpAny_sequenceKey J.typeIs (!1) ?_);show wpAny_bind (wpAny_callSpecial?_slot (name:=⇑"__getitem__") J.typeIs PyProof.Rows.slot_tuple_getitem
  (wpAny_call_entry PyProof.Rows.slot_tuple_getitem J.typeIs entry_tuple_getitem ?_ (args_tuple_getitem _ _)))
 change wpAny _ _ (Builtin.Tuple.tupleItemsOf (.ref t) >>= _) _ _ s;show wpAny_bind (tupleItemsOf_ J ?_);show wpAny_bind (wpAny_typeOf O ?_);rw[if_pos (!1)];show wpAny_bind (Dv hs pl pu ?_);have Y:¬((((sIx y.size 0 lo:Nat):Int)==0&&(1:Int)==1&&(sIx y.size y.size hi-sIx y.size 0 lo)==y.size)=true):=by intro q;rw[Bool.and_eq_true,Bool.and_eq_true]at q;have q1:((sIx y.size 0 lo:Nat):Int)=0:=eq_of_beq q.1.1;have q2:sIx y.size y.size hi-sIx y.size 0 lo=y.size:=eq_of_beq q.2;exact hw (!0,!0)
 change wpAny _ _ (if(((sIx y.size 0 lo:Nat):Int)==0&&(1:Int)==1&&(sIx y.size y.size hi-sIx y.size 0 lo)==y.size)=true then _ else _) _ _ s;rw[if_neg Y,Vz];first
  |exact wpAny_bind (m:=Builtin.Tuple.tupleExact _) (wpAny_newObj_type (wpAny_pure (_,rfl,wpAny_pure h)) z)
  |exact wpAny_bind (m:=Builtin.Tuple.tupleExact _) (wpAny_newObj_type (wpAny_bind (wpAny_pure (wpAny_pure (_,rfl,wpAny_pure h)))) z)
  |exact wpAny_bind (wpAny_bind (m:=Builtin.Tuple.tupleExact _) (wpAny_newObj_type (wpAny_pure (wpAny_pure (_,rfl,wpAny_pure h))) z))
  |exact wpAny_bind (wpAny_bind (m:=Builtin.Tuple.tupleExact _) (wpAny_newObj_type (wpAny_pure (_,rfl,wpAny_pure h)) z))
end
end HT
namespace L2
open PySem PySem.Spec PyProof.Rows
variable {n j t':Nat}{us its its':AB}{p9:AC}{Y:St}{H:Hp}{s:AI}{x:V}{i:Int}{p:AQ}
abbrev TO:=St->Hp->(Option Int->Hp->Prop)->Prop
def PO(X:Cx)(e:Option AO)(t:TO):Prop:=
 ∀(p9:AC)(s:AI)(Y:St)(H:Hp)(Q:Option Int->Hp->Prop),Inv X p9 Y H s->t Y H Q->
  ↥X (evalPart e X.env) (λu s'=>∃o H',Inv X p9 Y H' s'/\IsPart u o/\Q o H') X.xe s
def VD:TO:=λz H Q=>Q none H
def VF(t:TE):TO:=λY H Q=>t Y H λx H1=>∃i,x=.int i/\Q (-i) H1
def intsAre_of{ns:List Int}:∀{us:AB},Vals (ns.map V.int) us->IntsAre us ns:=by
 induction ns with
 |nil=>intro us r;rw[List.map_nil]at r;cases r;exact .nil
 |cons n ns y=>
  intro us r;rw[db]at r;cases r with
  |cons z J=>
   let(t,e):=z;subst e;exact .cons n t (y J)
section
variable {X:Cx} {e:AO} {te:TE} {lo hi:Option AO} {tl th:TO} {pos p2:Pos}
def VG:PO X none VD:=by intro p9 s Y H Q I h;rw[evalPart_none];exact am (none,H,I,.none,h)
def VH(h:PE X e te):PO X (-e) (VF te):=by intro p9 s Y H Q I hw;rw[evalPart_some];show thn (h p9 s Y H _ I hw) λu O zZ=>?_;let(x,H1,y,J,z):=zZ;let(i,rfl,q):=z;let(t,rfl):=J;exact(-i,H1,y,.int i t,q)
def SlR(X:Cx)(r:V->Option Int->Option Int->Hp->VK->Prop):Prop:=
 ∀(p9:AC)(s:AI)(Y:St)(H:Hp)(x:V)(v z J:AN)(lo hi:Option Int)(y:AQ)(Q:VK),Inv X p9 Y H s->RelV x v->s.heap.IsSliceOf y z J .none->IsPart z lo->IsPart J hi->r x lo hi H Q->
  ∃T id,typeLookup (.type T) "__getitem__"=pure (-(.builtin id))/\s.TypeIs v T/\↥X (getItem v (.ref y)) (EP X p9 Y Q) X.xe s
def tSl(r:V->Option Int->Option Int->Hp->VK->Prop)(te:TE)(tl th:TO):TE:=λY H Q=>te Y H λx H1=>tl Y H1 λl H2=>th Y H2 λu y=>r x l u y Q
def VJ{r:V->Option Int->Option Int->Hp->VK->Prop}(hr:SlR X r)(he:PE X e te)(hl:PO X lo tl)(hu:PO X hi th):PE X (.Subscript e (.Slice lo hi none p2) pos) (tSl r te tl th):=by intro p9 s Y H Q I h;show Subscript_ (thn (he p9 s Y H _ I h) λv s1 zZ=>?_);let(x,H1,U,r1,q1):=zZ;show wpAny_Slice (thn (hl p9 s1 Y H1 _ U q1) λz s2 zZ=>?_);let(l,H2,I2,pl,q2):=zZ;show thn (hu p9 s2 Y H2 _ I2 q2) λJ y zZ=>?_;let(u,O,I3,pu,q3):=zZ;rw[evalPart_none];show am ?_;have I4:Inv X p9 Y O {y with heap:=y.heap.push {cls:=.type "slice",data:=.fields #[z,J,.none]}}:=I3.kept (t':=y.toks) λb ob q=>ag _ q;let(T,id,hT,ht,hg):=hr p9 {y with heap:=y.heap.push {cls:=.type "slice",data:=.fields #[z,J,.none]}} Y O x v z J l u y.heap.objs.size Q I4 r1 (Heap.IsSliceOf.new ..) pl pu q3;change ↥X (subscriptTail e (.Slice lo hi none p2) v (.ref y.heap.objs.size)) (EP X p9 Y Q) X.xe {y with heap:=y.heap.push {cls:=.type "slice",data:=.fields #[z,J,.none]}};exact tail_any (ops:=[.ref y.heap.objs.size,v]) ht hT hg (by with_unfolding_all rfl)
def eN(xs:AR)(lo hi:Option Int):AR:=(xs.drop (HT.sIx xs⁻¹ 0 lo)).take (HT.sIx xs⁻¹ xs⁻¹ hi-HT.sIx xs⁻¹ 0 lo)
theorem Dw(xs:AR)(lo hi:Option Int):(eN xs lo hi)⁻¹<=xs⁻¹:=by unfold eN;rw[bv,cq];lia
def VL(K:PF):V->Option Int->Option Int->Hp->VK->Prop:=λx lo hi H Q=>∃a xs,x=.ref a/\SqT K H a xs/\
 ¬(HT.sIx xs⁻¹ 0 lo=0/\HT.sIx xs⁻¹ xs⁻¹ hi=xs⁻¹)/\∀p,H p=none->Q (.ref p) (upd H p (.tup (eN xs lo hi)))
def VM:SlR X (VL X.K):=by
 intro p9 s Y H x v vl vu lo hi sl Q I rx hs pl pu h;let(a,xs,rfl,U,hw,q):=h;cases rx;let(z,r,J,O):=I.tuple U;have y:z.toArray.size=xs⁻¹:=by rw[a8];exact r.length.symm
 show("tuple",_,gV.lookup,J.typeIs,?_);show HT.VB J hs pl pu (by rw[y];exact hw) ?_ (by rw[y];exact O);rw[y];show(.ref (~~~s),_,I.laid (t':=s.toks) (o:=.tup (eN xs lo hi)) (λb ob q=>ag _ q) (ay _) ?_,rfl,q _ (I.hok.fresh (ay _)));exact(cb (Dw xs lo hi) O,_,(r.drop (HT.sIx xs⁻¹ 0 lo)).take (HT.sIx xs⁻¹ xs⁻¹ hi-HT.sIx xs⁻¹ 0 lo),IsTup.new _ _)
def VN(K:PF):R2:=λx y H Q=>∃a b xs ys,x=.ref a/\y=.ref b/\SqT K H a xs/\SqT K H b ys/\xs≠[]/\xs⁻¹+ys⁻¹<=sizeLine/\
 (ys=[]->Q (.ref a) H)/\(ys≠[]->∀p,H p=none->Q (.ref p) (upd H p (.tup (xs++ys))))
def Vals.nil_iff{xs:AR}(r:Vals xs us):us=[]↔xs=[]:=by
 cases r with
 |nil=>simp
 |cons _ _=>simp
def VP:OpR X (binaryOp .Add) (VN X.K):=by intro p9 s Y H x y v u Q I rx ry h;let(a,b,xs,ys,rfl,rfl,ha,hb,hx,U,q1,q2):=h;cases rx;cases ry;let(its,O,p1,_):=I.tuple ha;let(its2,J,p2,_):=I.tuple hb;show HT.Vw p1 p2 (λz=>hx (O.nil_iff.mp z)) (λz=>(.ref a,H,I,rfl,q1 (J.nil_iff.mp z))) (λz=>?_) (by rw[<-O⁻¹,<-J⁻¹];exact U);show(.ref (~~~s),_,I.laid (t':=s.toks) (o:=.tup (xs++ys)) (λb ob q=>ag _ q) (ay _) ?_,rfl,q2 (λw=>z (J.nil_iff.mpr w)) _ (I.hok.fresh (ay _)));exact(by rw[ax];exact U,_,O.append J,IsTup.new _ _)
end
def ixN(n:Nat)(i:Int):Option Nat:=if 0<=i then(if i<n then some i.toNat else none) else if Neg.neg (n:Int)<=i then some (i+n).toNat else none
def atI{y:Type}(xs:List y)(i:Int):Option y:=(ixN xs⁻¹ i).bind λj=>xs[j]?
def Dy(h:ixN n i=-j):seqIndex? i n=-j/\j<n/\Neg.neg (n:Int)<=i/\i<n:=by
 unfold ixN at h;by_cases h0:0<=i
 .rw[if_pos h0]at h;by_cases h1:i<n
  .rw[if_pos h1]at h;have e:i.toNat=j:=cy h;exact(by rw[seqIndex_of h0 h1,e],!0,!0,h1)
  .rw[if_neg h1]at h;cases h
 .rw[if_neg h0]at h;by_cases h1:Neg.neg (n:Int)<=i
  .rw[if_pos h1]at h;have e:(i+n).toNat=j:=cy h;exact(by rw[seqIndex_neg (!0) h1,e],!0,h1,!0)
  .rw[if_neg h1]at h;cases h
def vQ{y:Type}{xs:List y}{v:y}(h:atI xs i=-v):∃j,seqIndex? i xs⁻¹=-j/\xs[j]?=-v/\j<xs⁻¹/\Neg.neg (xs⁻¹:Int)<=i/\i<xs⁻¹:=by
 unfold atI at h;cases e:ixN xs⁻¹ i with
 |none=>rw[e]at h;cases h
 |some j=>
  rw[e]at h;let(h1,h2,z,J):=Dy e;exact(j,h1,h,h2,z,J)
def bA{y:Type}{xs:List y}{v:y}(h:xs[j]?=-v):atI xs (j:Int)=-v:=by
 have z:j<xs⁻¹:=(al.mp h).1;have e:ixN xs⁻¹ (j:Int)=-j:=by unfold ixN;rw[if_pos (!0),if_pos (!0)];simp
 unfold atI;rw[e];exact h
theorem Dz{y:Type}(xs:List y)(v:y):atI (xs++[v]) (Neg.neg 1)=-v:=by
 have hl:(xs++[v])⁻¹=xs⁻¹+1:=by simp
 have e:ixN (xs++[v])⁻¹ (Neg.neg 1)=-xs⁻¹:=by unfold ixN;rw[hl,if_neg (!1),if_pos (!0)];congr 1;lia
 unfold atI;rw[e];change(xs++[v])[xs⁻¹]?=-v;simp
def DG(b:AO):Prop:=∀o i,subscripted b false o i=operate [o,i] (getItem o i)
def IxR(X:Cx)(r:R2):Prop:=
 ∀(J z:AO)(p9:AC)(s:AI)(Y:St)(H:Hp)(x y:V)(v u:AN)(Q:VK),Inv X p9 Y H s->RelV x v->RelV y u->r x y H Q->
  subscripted z false v u=operate [v,u] (getItem v u)->↥X (subscriptTail J z v u) (EP X p9 Y Q) X.xe s
def MtR(X:Cx)(id:AL)(r:V->AR->Hp->VK->Prop):Prop:=
 ∀(p9:AC)(s:AI)(Y:St)(H:Hp)(x:V)(xs:AR)(v:AN)(us:AB)(Q:VK),Inv X p9 Y H s->RelV x v->Vals xs us->r x xs H Q->
  ↥X (call (.builtin id) (v::us)) (EP X p9 Y Q) X.xe s
section
variable {X:Cx} {a b:AO} {ta tb:TE} {pos:Pos}
def VR{r:R2}(U:IxR X r)(J:PE X a ta)(O:PE X b tb)(hs:DG b):PE X (.Subscript a b pos) (tOp r ta tb):=by intro p9 s Y H Q I h;exact Subscript_ (vO J O I h λv u s2 x y H2 z rx ry q=>U a b p9 s2 Y H2 x y v u Q z rx ry q (hs _ _))
def VV(K:PF):R2:=λx y H Q=>∃p xs i v,x=.ref p/\y=.int i/\SqL K H p xs/\atI xs i=-v/\Q v H
def V0(K:PF):R2:=λx y H Q=>∃p xs i v,x=.ref p/\y=.int i/\SqT K H p xs/\atI xs i=-v/\Q v H
def V1:R2:=λx y H Q=>∃z i c,x=.str z/\y=.int i/\z⁻¹<=sizeLine/\atI z.cps.toList i=-c/\Q (.str ⟨#[c]⟩) H
theorem V2:IxR X (VV X.K):=by
 intro value slice p9 s Y H x y v u Q I rx ry h hs;let(p,xs,i,z,rfl,rfl,hq,he,q):=h;cases rx;let(t,rfl):=ry;let(O,r,pl,hz):=I.list hq;let(j,h1,h2,h3,h4,h5):=vQ he;let(w,ew,U):=r.get h2;have hl:=r⁻¹;have hn:=iT;have fin:EP X p9 Y Q w s:=(z,H,I,U,q);by_cases h0:0<=i
 .have J:i.toNat=j:=by
   rw[seqIndex_of h0 h5]at h1;exact cy h1
  exact item_listR pl.isList h0 (!0) (by rw[J];simpa using ew) fin hs
 .have J:(i+(O.toArray.size:Int)).toNat=j:=by
   rw[seqIndex_neg (!0) h4]at h1;rw[a8,<-hl];exact cy h1
  exact subscriptTail_builtinR (x:=w) pl.isList.typeIs slot_list_getitem.lookup
   (wpAny_getItem_list_neg (Q:=λr s'=>r=w/\EP X p9 Y Q r s') pl.isList (!0) (by rw[a8]<;>lia) (!0) (by rw[J];simpa using ew) (rfl,fin)) hs
theorem V3:IxR X (V0 X.K):=by
 intro U O p9 s Y H x y v u Q I rx ry h hs;let(p,xs,i,z,rfl,rfl,hq,he,q):=h;cases rx;let(t,rfl):=ry;let(its,r,pl,hz):=I.tuple hq;let(j,h1,h2,h3,h4,h5):=vQ he;let(w,ew,J):=r.get h2;have hl:=r⁻¹;have hn:=iT;have fin:EP X p9 Y Q w s:=(z,H,I,J,q);exact subscriptTail_builtinR (x:=w) pl.typeIs slot_tuple_getitem.lookup
  (getItem_tuple (j:=j) (Q:=λr s'=>r=w/\EP X p9 Y Q r s') pl (!0) (!0) (by rw[a8,<-hl];exact h1) (!!ew) (rfl,fin)) hs
theorem V4:IxR X V1:=by
 intro O J p9 s Y H x y v u Q I rx ry h hs;let(z,i,c,rfl,rfl,hz,he,q):=h;let(t,rfl):=rx;let(t',rfl):=ry;let(j,h1,h2,h3,h4,h5):=vQ he;have hl:z.cps.toList⁻¹=z⁻¹:=by simp[Str.length]
 rw[hl]at h1 h4 h5;have hn:=iT;exact tail_any (typeIs_str s z t) slot_str_getitem.lookup (getItem_str (c:=c) (by
  have U:decide (i < Neg.neg (2 ^ 63:Int))=false:=cw (!0);have e2:decide (i≥2 ^ 63)=false:=cw (!0);rw[U,e2,Bool.or_false]) (by rw[h1];simpa using h2) (.str ⟨#[c]⟩,H,I.tok _,(_,rfl),q)) hs
def V5(y:AB)(n j:Nat)(u:AN):Obj.mapSeq (·.setIfInBounds j u) {cls:=.type "list",data:=.seq y.toArray n}={cls:=.type "list",data:=.seq (y.set j u).toArray n}:=by simp[Obj.mapSeq]
def Inv.lst{xs:AR}(I:Inv X p9 Y H s)(h:H p=-(.lst xs)):
  ∃(y:AB) (n:Nat),Vals xs y/\s.heap.get? p=-{cls:=.type "list",data:=.seq y.toArray n}/\xs⁻¹<=sizeLine:=by
 let(z,y,n,r,e):=I.hok p _ h;exact(y,n,r,e,z)
def Inv.lstUpd{xs ys:AR}{y:Nat}{f:Obj->Obj}(I:Inv X p9 Y H s)(h:H p=-(.lst xs))(ho:s.heap.get? p=-{cls:=.type "list",data:=.seq its.toArray n})(z:f {cls:=.type "list",data:=.seq its.toArray n}={cls:=.type "list",data:=.seq its'.toArray y})(r:Vals ys its')(O:ys⁻¹<=sizeLine)(t:Nat):
  Inv X p9 Y (upd H p (.lst ys)) {s with heap:=s.heap.update p f,toks:=t}:=by
 have e:(s.heap.update p f).get? p=-{cls:=.type "list",data:=.seq its'.toArray y}:=by rw[fh f ho (by rw[z]<;>rfl),z]
 show I.write (x:=p) (e:=p) (by rw[h];trivial) (.inl rfl) (λb u J q=>(im _ _ (Ne.symm J)).trans q) (_,e) ?_;exact(O,its',y,r,e)
def V6:V->V->V->Hp->(Hp->Prop)->Prop:=λo i v H Q=>∃p xs k j,o=.ref p/\i=.int k/\H p=-(.lst xs)/\ixN xs⁻¹ k=-j/\Q (upd H p (.lst (xs.set j v)))
theorem set_list:vN X V6:=by
 intro p9 s Y H o i v ov iv u Q I ro ri rv h;let(p,xs,k,j,rfl,rfl,hp,hj,q):=h;cases ro;let(t,rfl):=ri;let(y,n,r,ho,hz):=I.lst hp;let(h1,h2,O,U):=Dy hj;have hl:=r⁻¹;have hn:=iT;have J:Inv X p9 Y (upd H p (.lst (xs.set j v))) {s with heap:=s.heap.update p (Obj.mapSeq (·.setIfInBounds j u))}:=
  I.lstUpd hp ho (V5 y n j u) (r.set rv j) (by rw[da];exact hz) s.toks
 by_cases h0:0<=k
 .have z:k.toNat=j:=by
   rw[seqIndex_of h0 U]at h1;exact cy h1
  exact PySem.W.ki_setAt ho h0 (!0) (by rw[a8,<-hl];exact U) (by rw[z];exact(_,J,q))
 .have z:(k+(y.toArray.size:Int)).toNat=j:=by
   rw[seqIndex_neg (!0) O]at h1;rw[a8,<-hl];exact cy h1
  exact PySem.W.ki_setBack ho (!0) (by rw[a8,<-hl];exact O) (!0) (by rw[z];exact(_,J,q))
theorem DK(lo hi:Option Int)(n:Nat):(sliceBounds lo hi none n).1=((HT.sIx n 0 lo:Nat):Int)/\(sliceBounds lo hi none n).2.1=((HT.sIx n n hi:Nat):Int)/\(sliceBounds lo hi none n).2.2=1:=by
 show(?_,?_,rfl)
 .cases lo with
  |none=>simp[sliceBounds,HT.sIx]
  |some i=>
   simp only[sliceBounds,HT.sIx,Option.getD_none,show(1:Int) > 0 by decide,if_true];by_cases h:i<0
   .simp only[h,if_true]<;>lia
   .simp only[h,ja]<;>lia
 .cases hi with
  |none=>simp[sliceBounds,HT.sIx]
  |some i=>
   simp only[sliceBounds,HT.sIx,Option.getD_none,show(1:Int) > 0 by decide,if_true];by_cases h:i<0
   .simp only[h,if_true]<;>lia
   .simp only[h,ja]<;>lia
def V7(y:AB)(lo hi:Option Int):slicePick y.toArray lo hi none=((y.drop (HT.sIx y⁻¹ 0 lo)).take (HT.sIx y⁻¹ y⁻¹ hi-HT.sIx y⁻¹ 0 lo)).toArray:=by let(h1,h2,z):=DK lo hi y.toArray.size;unfold slicePick;rw[h1,h2,z];simp only[sliceRange_one,pick_run,a8]<;>rfl
def V8(K:PF):V->Option Int->Option Int->Hp->VK->Prop:=λx lo hi H Q=>∃a xs,x=.ref a/\SqL K H a xs/\∀p,H p=none->Q (.ref p) (upd H p (.lst (eN xs lo hi)))
theorem DN:SlR X (V8 X.K):=by intro p9 s Y H x v vl vu lo hi sl Q I rx hs pl pu h;let(a,xs,rfl,J,q):=h;cases rx;let(U,r,z,O):=I.list J;have y:=r⁻¹;show("list",_,slot_list_getitem.lookup,z.isList.typeIs,?_);show wpAny_getItem_list_slice z.isList hs pl pu .none (!2) ?_ (by rw[a8]<;>lia);rw[V7,<-y];show(.ref (~~~s),_,I.laid (t':=s.toks) (o:=.lst (eN xs lo hi)) (λb ob q=>ag _ q) (ay _) ?_,rfl,q _ (I.hok.fresh (ay _)));exact(cb (Dw xs lo hi) O,_,0,(r.drop (HT.sIx xs⁻¹ 0 lo)).take (HT.sIx xs⁻¹ xs⁻¹ hi-HT.sIx xs⁻¹ 0 lo),bd _ rfl)
theorem DP:bM X (.builtin "len") (λxs H Q=>∃p ys,xs=[.ref p]/\(SqL X.K H p ys\/SqT X.K H p ys)/\Q (.int ys⁻¹) H):=by
 intro p9 s Y H xs us Q I r h;let(p,ys,rfl,z,q):=h;let(u,rfl,rx):=vals1 r;cases rx;have hn:=iT;rcases z with z|z
 .let(J,O,pl,U):=I.list z;have y:=O⁻¹;exact Calls.call_len_list pl.isList (by simp only[a8]<;>lia) (.int ys⁻¹,H,I.tok _,(s.toks+1,by rw[a8,y]),q)
 .let(J,O,pl,U):=I.tuple z;have y:=O⁻¹;exact len_tuple pl (by simp only[a8]<;>lia) (.int ys⁻¹,H,I.tok _,(s.toks+1,by rw[a8,y]),q)
theorem V9:bM X (.builtin "len") (λxs H Q=>∃z,xs=[.str z]/\z⁻¹<=sizeLine/\Q (.int z⁻¹) H):=by intro p9 s Y H xs us Q I r h;let(z,rfl,y,q):=h;let(u,rfl,t,rfl):=vals1 r;have hn:=iT;exact len_str (!0) (.int z⁻¹,H,I.tok _,(_,rfl),q)
theorem DQ:bM X (.type "list") (λxs H Q=>∃p ys,xs=[.ref p]/\(SqL X.K H p ys\/SqT X.K H p ys)/\∀l,H l=none->Q (.ref l) (upd H l (.lst ys))):=by
 intro p9 s Y H xs us Q I r h;let(p,ys,rfl,U,q):=h;let(u,rfl,rx):=vals1 r;cases rx;have fin:∀(y:AB),Vals ys y->ys⁻¹<=sizeLine->∀(h':Heap)(z:Nat),(∀b o',s.heap.get? b=-o'->h'.get? b=-o')->
   h'.get? (~~~s)=-{cls:=.type "list",dict:=none,data:=.seq y.toArray z,slots:=#[]}->EP X p9 Y Q (.ref (~~~s)) {s with heap:=h'}:=λy J hz h' z kp e=>
  (.ref (~~~s),_,I.laid (t':=s.toks) kp (ay _) (show ObjOk X.prog X.w _ h' _ (.lst ys) from(hz,y,z,J,e)),rfl,q _ (I.hok.fresh (ay _)))
 rcases U with U|U
 .let(y,J,pl,hz):=I.list U;have O:=J⁻¹;let(o,ho,hc,n,hd):=pl.isList;exact call_list_seq p (.inl rfl) ho hc hd (λh' z kp e=>fin y J hz h' z kp e) (by simp only[a8]<;>lia)
 .let(y,J,pl,hz):=I.tuple U;have O:=J⁻¹;let(o,ho,hc,n,hd):=pl;exact call_list_seq p (.inr rfl) ho hc hd (λh' z kp e=>fin y J hz h' z kp e) (by simp only[a8]<;>lia)
theorem DR:bM X (.type "tuple") (λxs H Q=>∃p ys,xs=[.ref p]/\((SqL X.K H p ys/\∀l,H l=none->Q (.ref l) (upd H l (.tup ys)))\/(SqT X.K H p ys/\Q (.ref p) H))):=by
 intro p9 s Y H xs us Q I r h;let(p,ys,rfl,h):=h;let(u,rfl,rx):=vals1 r;cases rx;rcases h with⟨z,q⟩|⟨z,q⟩
 .let(y,J,pl,hz):=I.list z;have U:=J⁻¹;show call_tuple_list pl.isList (λh' kp=>?_) (by simp only[a8]<;>lia);have O:Inv X p9 Y H {s with heap:=h'}:=I.kept (t':=s.toks) kp;have I2:Inv X p9 Y (upd H h'.objs.size (.tup ys)) {s with heap:=h'.push {cls:=.type "tuple",data:=.seq y.toArray}}:=
   O.laid (t':=s.toks) (λb o e=>ag _ e) (ay _) (show ObjOk X.prog X.w _ _ _ (.tup ys) from(hz,y,J,IsTup.new _ _))
  exact(.ref h'.objs.size,_,I2,rfl,q _ (O.hok.fresh (ay _)))
 .let(y,J,pl,hz):=I.tuple z;exact call_tuple_same pl (.ref p,H,I,rfl,q)
def tyV(K:PF)(T:AL)(x:V)(H:Hp):Prop:=match x with
 |.str _=>T="str"
 |.int _=>T="int"
 |.ref p=>(T="list"/\∃xs,SqL K H p xs)\/(T="tuple"/\∃o,K.lookup p=-o/\o.cls=.type "tuple"/\o.dict=none)\/
   (T="dict"/\((∃y,H p=-(.dK y))\/∃y,H p=-(.dT y)))\/(T="set"/\∃S n,H p=-(.set S n))
 |_=>False
def Wa{T:AL}{v:AN}(I:Inv X p9 Y H s)(r:RelV x v)(ty:tyV X.K T x H):
  s.TypeIs v T/\∀a,v=.ref a->∃ob,s.heap.get? a=-ob/\ob.dict=none:=by
 cases x with
 |str z=>
  let(t,rfl):=r;cases(show T="str" from ty);exact(typeIs_str s z t,λu e=>nomatch e)
 |int i=>
  let(t,rfl):=r;cases(show T="int" from ty);exact(typeIs_int s i t,λu e=>nomatch e)
 |ref p=>
  cases r;rcases ty with⟨rfl,xs,U⟩|⟨rfl,o,y,hc,hd⟩|⟨rfl,y⟩|⟨rfl,S,n,y⟩
  .let(its,_,pl,_):=I.list U;show(pl.isList.typeIs,λa e=>?_);cases e;let(o,n,e,c,hd,_):=pl;exact(o,e,hd)
  .show ((o,I.kIn p o y,hc),λa e=>?_);cases e;exact(o,I.kIn _ o y,hd)
  .have z:∃o,s.heap.get? p=-o/\o.ExactDict:=by
    rcases y with⟨O,y⟩|⟨O,y⟩
    .let(_,_,_,_,o,_,_,e,ex,_):=I.hok p _ y;exact(o,e,ex)
    .let(_,_,_,_,o,_,_,e,ex,_):=I.hok p _ y;exact(o,e,ex)
   let(o,e,ex):=z;show((o,e,ex.1),λa J=>?_);cases J;exact(o,e,ex.2.1)
  .let(o,_,_,_,e,ex,_):=I.hok p _ y;show((o,e,ex.1),λa J=>?_);cases J;exact(o,e,ex.2.1)
 |_=>exact False.elim ty
def tBM(K:PF)(T:AL)(r:V->AR->Hp->VK->Prop)(to:TE)(t:TA):TE:=λY H Q=>to Y H λx H1=>tyV K T x H1/\t Y H1 λxs H2=>r x xs H2 Q
variable {o e:AO} {es:AE} {to:TE} {t:TA} {name:Str} {apos cpos:Pos} {T id:AL} {r:V->AR->Hp->VK->Prop}
def lE(pa:PlainAttrs T)(slot:Slot T name id)(U:typeOf (.builtin id)=pure (.type "method_descriptor"))(hm:MtR X id r)(ho:PE X o to)(ha:PA X (e::es) t)(z:attributeBase o name X.env (eval o X.env)=eval o X.env:=by rfl)(O:((backTo cpos (starEach (e::es) X.env)).all (λx=>!x.1)&&(backToKw cpos (keywordEach [] X.env)).all (λx=>x.1.isSome)
  &&decide ((e::es)⁻¹+([]:List Keyword)⁻¹+(if([]:List Keyword).isEmpty then 0 else 1)<30))=true:=by rfl)(J:(apos.endLine==cpos.line)=true:=by rfl)(hs:starEach (e::es) X.env=(false,eval e X.env)::starEach es X.env:=by rfl)(y:(backTo cpos (starEach es X.env)).any (·.1)=false:=by rfl):
  PE X (.Call (.Attribute o name apos) (e::es) [] cpos) (tBM X.K T r to t):=by
 intro p9 s Y H Q I h;show wpAny_Call_method_late z O J rfl (thn (ho p9 s Y H _ I h) λv s1 zZ=>?_);let(x,H1,I1,r1,ty,q1):=zZ;let(h1,h2):=Wa I1 r1 ty;show(T,id,pa,slot,U,h1,h2,?_);have hA:=ha cpos p9 s1 Y H1 _ I1 q1;rw[hs]at hA ⊢;show Calls.callWith_builtin (by change(false||(backTo cpos (starEach es X.env)).any (·.1))=false;rw[y]<;>rfl) (Calls.evalArgs_plain ?_);show thn hA λus s2 zZ=>?_;let(vs,H2,I2,r2,q2):=zZ;exact hm p9 s2 Y H2 x vs v us Q I2 r1 r2 q2
end
def MtM(X:Cx)(id:AL)(r:V->AR->Hp->VK->Prop):Prop:=
 ∀(p9:AC)(s:AI)(Y:St)(H:Hp)(x:V)(xs:AR)(v:AN)(us:AB)(Q:VK),Inv X p9 Y H s->RelV x v->Vals xs us->r x xs H Q->
  ↥X (call (.builtin id) (v::us)) (EP X p9 Y Q) X.xe s
def Vals.one(h:Vals [x] us):∃u,us=[u]/\RelV x u:=by
 cases h with
 |cons r t=>cases t;exact(_,rfl,r)
def Vals.two{y:V}(h:Vals [x,y] us):∃u v,us=[u,v]/\RelV x u/\RelV y v:=by
 cases h with
 |cons r t=>cases t with
  |cons q t=>cases t;exact(_,_,rfl,r,q)
section
variable {X:Cx} {p9:AC} {σ:St} {H:Hp} {s:AI} {l b:AQ} {xs ys zs:AR}
def Inv.lset{f:Array AN->Array AN}(I:Inv X p9 σ H s)(y:H l=-(.lst xs))(e:s.heap.get? l=-{cls:=.type "list",data:=.seq its.toArray n})(J:f its.toArray=its'.toArray)(U:Vals ys its')(Y:ys⁻¹<=sizeLine):
  Inv X p9 σ (upd H l (.lst ys)) {s with heap:=s.heap.update l (Obj.mapSeq f),toks:=t'}:=by
 have q:=PySem.IsL.update e f;rw[J]at q;show I.write (x:=l) (e:=l) (by rw[y];exact trivial) (.inl rfl) (λb' u z O=>(im s.heap (Obj.mapSeq f) (Ne.symm z)).trans O) (_,q) ?_;exact(Y,its',_,U,q)
def Inv.lnew(I:Inv X p9 σ H s)(y:Vals ys its)(z:ys⁻¹<=sizeLine):
  Inv X p9 σ (upd H (~~~s) (.lst ys)) {s with heap:=s.heap.push {cls:=.type "list",data:=.seq its.toArray},toks:=t'}:=
 I.laid (λx x q=>ag _ q) (ay _) (z,its,0,y,bd _ rfl)
def Inv.fresh(I:Inv X p9 σ H s):H (~~~s)=none:=I.hok.fresh (ay _)
def Inv.lstM(I:Inv X p9 σ H s)(J:H l=-(.lst xs)):xs⁻¹<=sizeLine/\∃(y:AB) (n:Nat),Vals xs y/\xs⁻¹=y⁻¹/\s.heap.get? l=-{cls:=.type "list",data:=.seq y.toArray n}:=by let(z,y,n,r,e):=I.hok l _ J;exact(z,y,n,r,r⁻¹,e)
theorem Wb(h:n<=sizeLine):Builtin.List.listTooLong n=false:=by unfold Builtin.List.listTooLong;exact cw (!0)
end
section
variable {X:Cx}
def Wc:V->AR->Hp->VK->Prop:=λx vs H Q=>∃l xs y,x=.ref l/\vs=[y]/\H l=-(.lst xs)/\xs⁻¹<sizeLine/\Q .non (upd H l (.lst (xs++[y])))
theorem Wd:MtM X "list.append" Wc:=by intro p9 s Y H x vs v us Q I rx rv h;let(l,xs,y,rfl,rfl,O,hz,q):=h;cases rx;let(u,rfl,U):=rv.one;let(z,J,n,r,hl,e):=I.lstM O;show call_meets F.slot_list_append (_,e,rfl) F.entry_list_append (F.args_list_append_2 _ _) (PySem.list_append l J.toArray n u (by rw[a8];lia)) (e,?_);show(.non,_,I.lset (its':=J++[u]) O e (!2) (r.append (.cons U .nil)) ?_,rfl,q);rw[ax,i9];lia
def We:V->AR->Hp->VK->Prop:=λx vs H Q=>∃l b xs zs,x=.ref l/\vs=[.ref b]/\H l=-(.lst xs)/\H b=-(.lst zs)/\xs⁻¹+zs⁻¹<=sizeLine/\Q .non (upd H l (.lst (xs++zs)))
theorem Wf:MtM X "list.extend" We:=by
 intro p9 s Y H x vs v us Q I rx rv h;let(l,b,xs,zs,rfl,rfl,U,hB,hz,q):=h;cases rx;let(u,rfl,ru):=rv.one;cases ru;let(z,J,n,r,hl,e):=I.lstM U;let(z2,y,n2,r2,hl2,e2):=I.lstM hB;have hsz:J.toArray.size+y.toArray.size<=sizeLine:=by rw[a8,a8];lia
 have O:¬(!J.toArray.isEmpty&&Builtin.List.listTooLong (J.toArray.size+y.toArray.size))=true:=by rw[Wb hsz,g6];exact ck
 show call_meets F.slot_list_extend (_,e,rfl) F.entry_list_extend (F.args_list_extend_2 _ _)
  (AutoSeq1.list_extend_list_list_0 l J.toArray n b y.toArray n2 O (by rw[a8];lia) (!0)) (e,e2,?_)
 show(.non,_,I.lset (its':=J++y) U e (!2) (r.append r2) ?_,rfl,q);rw[ax];lia
def len_rep{z:Type}(xs:List z)(k:Nat):(List.replicate k xs).flatten⁻¹=k*xs⁻¹:=by
 induction k with
 |zero=>simp
 |succ k y=>rw[e6,kq,ax,y,Nat.succ_mul,Nat.add_comm]
end
end L2
namespace Att
open PySem PySem.W PySem.Calls PyProof.Rows
variable {P:Params}{h:Heap}{l:OpenLaw}{n:Nat}
def Wg:∀(ns:List Int)(vs:AB),WellAll P h vs (ns.map WData.int)->IntsAre vs ns:=by
 intro ns;induction ns with
 |nil=>
  intro vs w;rw[List.map_nil]at w;cases w;exact .nil
 |cons n ns y=>
  intro vs w;rw[List.map_cons]at w;cases w with
  |cons a b=>
   cases a;exact .cons _ _ (y _ b)
def Wh(hn:l.most=-n){args:List WData}{z:AB}(y:l.row.toRowW.claim.pre args)(hwl:WellAll P h z args):
  ∃a vs ns,z=[Value.ref a]/\args=[WData.list (ns.map WData.int)]/\h.get? a=-{cls:=.type "list",data:=.seq vs.toArray}/\IntsAre vs ns/\ns⁻¹<=n:=by
 have hsh:WShape.hasAll [] args [.list .int]=true:=(pre_splitW y).1;have hc:l.pre.holds [] {args:=args}=true:=(pre_splitW y).2;let(d,r,rfl,h1,h2):=hasAllW_cons hsh;obtain rfl:=hasAllW_nil h2;let(xs,rfl,h3):=hasW_list h1;let(ns,rfl):=items_int h3;have O:ns⁻¹<=n:=by
  unfold OpenLaw.pre at hc;have U:(WTm.not (.lt (.lit (.int (n:Int))) (.len (.arg 0)))).holds [] {args:=[.list (ns.map .int)]}=true:=by have U:=(holds_andW hc).1;rw[hn]at U;exact U
  have Y:=condW_of U (w_not (w_lt w_lit (w_len_list (w_arg rfl))));rw[List.length_map]at Y;show Nat.le_of_not_lt λq=>?_;have q':(n:Int)<((ns⁻¹:Nat):Int):=by lia
  first
   | (rw[decide_eq_true q']at Y;exact absurd Y (!1))
   | (simp at Y;lia)
 cases hwl with
 |cons w1 w2=>
  cases w2;cases w1 with
  |list ho J=>exact(_,_,ns,rfl,rfl,ho,Wg ns _ J,O)
def Wi(l:OpenLaw)(args:List WData):l.row.toRowW.claim.post args (.bool true) args=true:=
 postW_of (r:=l.row.toRowW) (X:=(true==true))
  (show WShape.has [] (.bool true) .bool=true by first|rfl|decide|simp[WShape.has,WShape.arms,WShape.armsAll])
  (show(WTm.eq .res (.lit (.bool true))).value [] {args:=args,res:=-(.bool true),after:=args}=-(.bool (true==true)) from w_eq_bool (w_res rfl) w_lit) rfl
def attach_call{q:AK}{loose:AD}{XP:(AH)->Heap->Prop}{YP:World->Heap->Prop}{d:DefRec}(hn:l.most=-n)(hdf:d.params.defaults=[])(call:∀(w:World)(s₀ y:AI)(mg mb:AH)(fa:AQ)(o:Obj)(pm cd z:AN)(a:AQ)(vs:AB)(ns:List Int),
   Ground q loose [] XP w s₀ mg mb y.heap->YP w y.heap->
   y.heap.get? fa=-o->o.data=.func (docDef d.name d.params d.body d.scope pm cd z)->y.heap.CodeRec cd d.name->mg d.name=-(.ref fa)->
   y.heap.get? a=-{cls:=.type "list",data:=.seq vs.toArray}->IntsAre vs ns->ns⁻¹<=n->y.gens=#[]->
   codeAny (model l.prog w) callerA (.call (.ref fa) ([.ref a],[])) (λr s'=>r=.ok (.ret (.bool true))/\OldK y.heap s'.heap/\s'.os=y.os/\AllBare s'.gens) y):
  WalkO q loose XP YP l.row.toRowW d [] (λf vs=>PySem.call f vs):=by
 intro w s₀ y mg mb G Y fa o pm cd z dV kV ho hd hcd hD hmg hg args vals as hpre hlay hrd hwl hlo;obtain rfl:dV=.none:=Dflts.none hD hdf;obtain rfl:kV=.none:=Dflts.noKw hD;let(a,vs,ns,rfl,rfl,U,J,O):=Wh hn hpre hwl;show enter_call (codeAny_mono (call w s₀ y mg mb fa o pm cd z a vs ns G Y ho (fd_plain hd) hcd hmg U J O hg) λr s' hq=>?_);let(rfl,h2,h3,h4):=hq;exact(.inl (.bool true,.bool true,[],rfl,λx=>rfl,.bool true,Wi l _,λx=>(List.Pairwise.nil,λx hm=>(nomatch hm))),h2,h3,h4)
end Att
namespace L2
open PySem PySem.Spec PyProof.Rows
variable {x qual:Str}{fd:AJ}{st:Stmt}{f:AQ}
def vR:∀{vs:AB}{ns:List Int},IntsAre vs ns->Vals (ns.map V.int) vs
 |_,_,.nil=>.nil
 |_,_,.cons n t h=>.cons (t,rfl) (vR h)
def Only(H:Hp):Prop:=∀b,H b=none\/∃o xs,H b=-(.frz o (.lst xs))
def Wj{P:AK}{w:World}{K:PF}{mg mb:AH}{CX:CXT}{k:Nat}{fa a:AQ}{sp:Sp}{y:AI}{vs:AB}{ns:List Int}(KX:K.In y.heap)(hns:y.heap.Ns mainGlobals mg)(O:y.heap.Ns builtinsNs mb)(hbb:∀x:Str,x≠"__name__"->mb x=bootBuiltins x)(hlim:y.heap.NoLimit)(hg:y.gens=#[])(ha:y.heap.get? a=-{cls:=.type "list",data:=.seq vs.toArray})(hi:IntsAre vs ns)(hl:ns⁻¹<=sizeLine)(hr:Room k callerA)(F:∀base:Heap,K.In base->base.Ns mainGlobals mg->FnOk P w K mg base CX k fa fd [x] sp)(hbind:∀(s:AI)(u:AN),BindsTo s fd ([u],[]) [(x,u)])(hsp:∀H:Hp,Only H->SqL K H a (ns.map V.int)->sp [.ref a] H (λv t=>v=.bl true) λt t t=>False)(hCX:∀H e s',CX [] H y (λt t t=>False) e s'->False):
  codeAny (model P w) callerA (.call (.ref fa) ([.ref a],[])) (λr s'=>r=.ok (.ret (.bool true))/\OldK y.heap s'.heap/\s'.os=y.os/\AllBare s'.gens) y:=by
 have rv:=vR hi;have lenV:=hi⁻¹
 -- from an abstract heap in which nothing but the script may be tracked
 have Y:∀H:Hp,Only H->SqL K H a (ns.map V.int)->HOk P w H y.heap->(∀b,H b≠none->b=a)->(H a≠none->K.lookup a=none)->
   codeAny (model P w) callerA (.call (.ref fa) ([.ref a],[])) (λr s'=>r=.ok (.ret (.bool true))/\OldK y.heap s'.heap/\s'.os=y.os/\AllBare s'.gens) y:=by
  intro H hO hS hok hA hK;have J:∀{b:AQ}{o:Obj},y.heap.get? b=-o->H b=none->(gA y.heap H).get? b=-o:=λe n=>S5 e n;have noA:∀{b:AQ}{o:Obj}{es:Array DictEntry}{ep:Nat},y.heap.get? b=-o->o.data=.dict es ep->H b=none:=λ{b o es ep} e d=>by
   cases q:H b with
   |none=>rfl
   |some u=>
    have e':b=a:=hA b (by rw[q];simp);subst e';rw[ha]at e;cases e;have d':Data.seq vs.toArray _=Data.dict es ep:=d;cases d'
  have U:∀{b:AQ}{m:AH},y.heap.Ns b m->(gA y.heap H).Ns b m:=λ{b m} (o,es,ep,e,d,r)=>(o,es,ep,J e (noA e d),d,r);have hKb:K.In (gA y.heap H):=λb o e=>J (KX b o e) (by
   cases q:H b with
   |none=>rfl
   |some u=>
    have e':b=a:=hA b (by rw[q];simp);subst e';rw[hK (by rw[q];simp)]at e;cases e)
  have hM:Mod K mg (gA y.heap H):=(hKb,U hns,(mb,U O,hbb),let(mc,h1,h2):=hlim;(mc,U h1,h2));have e0:Env0 P w K mg (gA y.heap H) callerA [] y H:=(rfl,hM,λb o e=>S6 e,Nat.le_of_eq (SX _ _),trivial,λb O=>absurd (show b∈([]:List AQ) from O) (!2),hok,.of_eq hg);show kn ((F _ hKb (U hns)).run callerA [] y H ([.ref a],[]) [.ref a] [.ref a] _ _ hr e0 (hbind y (.ref a)) (.cons rfl .nil) (hsp H hO hS)) λr s' h=>?_;cases r with
  |error e=>exact(hCX H e s' h).elim
  |ok fl=>
   cases fl with
   |next=>exact False.elim h
   |brk=>exact False.elim h
   |cont=>exact False.elim h
   |ret u=>
    let(v,H',os,bare,un,hok',r',q):=h;have q':v=.bl true:=q;subst q';obtain rfl:u=Value.bool true:=r';show(rfl,OldK.of_keep λb o e=>?_,os,bare);cases q:H b with
    |none=>exact un.keep b o e q (by intro z;exact absurd (show b∈([]:List AQ) from z) (!2)) (!2)
    |some u=>
     rcases hO b with z|⟨ob,xs,z⟩
     .rw[q]at z;cases z
     .have z2:=un.frzs b ob _ z;let(e1,_):=hok b _ z;let(e2,_):=hok' b _ z2;rw[e]at e1;cases e1;exact e2
 cases hk:K.lookup a with
 |some o=>
  -- the script is one of the module's own objects
  have e:=KX a o hk;rw[ha]at e;cases e;show Y (λt=>none) (λt=>.inl rfl) (.inr (_,vs.toArray,_,hk,rfl,rfl,rfl,by rw[a8,lenV];exact hl,!!rv)) (λb u z=>by have z':(none:Option HO)=-u:=z;cases z') (λb z=>absurd rfl z) λz=>absurd rfl z
 |none=>
  show Y (λb=>if b=a then some (.frz {cls:=.type "list",data:=.seq vs.toArray} (.lst (ns.map V.int))) else none) (λb=>?_) (.inl (.inr ({cls:=.type "list",data:=.seq vs.toArray},if_pos rfl))) (λb u z=>?_) (λb z=>?_) λt=>hk
  .by_cases O:b=a
   .exact .inr (_,_,if_pos O)
   .exact .inl (if_neg O)
  .by_cases O:b=a
   .have z':=(if_pos O).symm.trans z;cases z';subst O;exact(ha,by rw[ah];exact hl,vs,_,rv,ha)
   .have z':=(if_neg O).symm.trans z;cases z'
  .by_cases O:b=a
   .exact O
   .exact absurd (if_neg O) z
def Wk{l:PySem.W.OpenLaw}{n k:Nat}{q:AK}{loose:AD}{XP:(AH)->Heap->Prop}{YP:World->Heap->Prop}{d:DefRec}{K:Params->PF}{CX:World->CXT}{sp:World->Sp}(hn:l.most=-n)(hn2:n<=sizeLine)(hdf:d.params.defaults=[])(hr:Room k callerA)(hY:∀(w:World)(h:Heap),YP w h->(K w.params).In h)(F:∀(w:World)(mg:AH)(fa:AQ)(h:Heap),(K w.params).In h->h.Ns mainGlobals mg->mg d.name=-(.ref fa)->
   ∃fd:AJ,(∀(s:AI)(u:AN),BindsTo s fd ([u],[]) [(x,u)])/\
    ∀base:Heap,(K w.params).In base->base.Ns mainGlobals mg->FnOk l.prog w (K w.params) mg base (CX w) k fa fd [x] (sp w))(hsp:∀(w:World)(H:Hp)(a:AQ)(ns:List Int),ns⁻¹<=n->Only H->SqL (K w.params) H a (ns.map V.int)->sp w [.ref a] H (λv t=>v=.bl true) λt t t=>False)(U:∀(w:World)(H:Hp)(s:AI)(e:AN)(s':AI),CX w [] H s (λt t t=>False) e s'->False):
  PySem.W.WalkO q loose XP YP l.row.toRowW d [] (λf vs=>PySem.call f vs):=by
 show Att.attach_call hn hdf λw s₀ O mg mb fa o pm cd doc a vs ns G Y ho hd hcd hmg J z y hg=>?_;have KX:=hY w _ Y;let(fd,hb,hF):=F w mg fa _ KX G.T.g hmg;exact Wj KX G.T.g G.T.b G.T.builtins G.T.nolimit hg J z (cb y hn2) hr hF hb (λH hO hS=>hsp w H a ns y hO hS) λH e s'=>U w H O e s'
def jD(s:Stmt):Arguments:=match s with
 |.FunctionDef _ a _ _ _ _ _ _ _ _=>a
 |_=>{posonlyargs:=[],args:=[],vararg:=none,kwonlyargs:=[],kw_defaults:=[],kwarg:=none,defaults:=[]}
def aD(s:Stmt):AF:=match s with
 |.FunctionDef _ _ b _ _ _ _ _ _ _=>b
 |_=>[]
def aB(s:Stmt):Scope:=match s with
 |.FunctionDef _ _ _ _ _ _ sc _ _ _=>sc
 |_=>{kind:=.function,names:=[],isGenerator:=false,isCoroutine:=false}
abbrev CX0:CXT:=λz z z z z z=>False
structure Fun(K:PF)(x qual:Str)(st:Stmt)(f:AQ)(fd:AJ):Prop where
 ex:∃(oc:AN)(od:Option AQ)(kV doc pm:AN)(an:Option AQ)(cdv ct:AN)(osl:Array (Option AN)),
  fd=PySem.W.fnOf x qual (jD st) (aD st) (aB st) .none kV doc pm an cdv ct/\K.lookup f=some ⟨oc,od,.func fd,osl⟩/\PySem.W.codeIn K cdv qual=true
 kp:PySem.W.keepIn K (.ref f)=true
section
variable {P:AK} {w:World} {K:PF} {mg:AH} {base:Heap}
def Fun.binds{ps:AD}(F:Fun K x qual st f fd)(h:∀(kV y J:AN)(z:Option AQ)(cdv ct:AN)(us:AB),us⁻¹=ps⁻¹->bindArgs (PySem.W.fnOf x qual (jD st) (aD st) (aB st) .none kV y J z cdv ct) (us,[])=pure (ps.zip us)):Binds K fd ps []:=by
 let(oc,od,kV,y,J,z,cdv,ct,U,rfl,Y,O):=F.ex;exact .all (h kV y J z cdv ct)
def DW{U:AN}{od J:Option AQ}{z:Array (Option AN)}{kV y O cdv ct:AN}(l:K.lookup f=-(U,od,.func (PySem.W.fnOf x qual (jD st) (aD st) (aB st) .none kV y O J cdv ct),z))(c:PySem.W.codeIn K cdv qual)(k:PySem.W.keepIn K (.ref f)):Fun K x qual st f (PySem.W.fnOf x qual (jD st) (aD st) (aB st) .none kV y O J cdv ct):=((U,od,kV,y,O,J,cdv,ct,z,rfl,l,c),k)
end
section
variable {X:Cx}
def pv(i:Nat){pos:Pos}(z:X.N[i]?=-x:=by rfl)(J:Vis X.env.scope x:=by first|exact Or.inl rfl|exact Or.inr (Or.inl rfl)|exact Or.inr (Or.inr rfl))(hd:(x==("__debug__":Str))=false:=by decide)(y:(x==("__classdict__":Str))=false:=by decide):PE X (.Name x pos) (Cv i):=vK z J hd y
end
end L2
set_option maxHeartbeats 4000000
namespace L2
open PySem PySem.Spec PyProof.Rows
variable {h h' base:Heap}{a C f:AQ}{w:World}{x y qual:Str}{es:AE}{A:AM}{P:AK}{s:AI}{E:XK}{X:Cx}{e v1 v2:AO}{M:Model}{n i:Nat}{H:Hp}{scope:Scope}{te:TE}{od:Option AQ}{l:List AQ}{p cpos p2 p1 p3 p4 p5:Pos}{mg:AH}{body suite:AF}{sp:Sp}{tk:Tok}{N:AD}{fd:AJ}{E' E1:AG}{vs:Array AN}{bmB bm:AB}{p9:AC}{Y:St}{ta:TA}{Q:AI->Prop}{b₀:Stmt}
section
variable {X:Cx} {p9:AC} {σ:St} {H:Hp} {s:AI} {h':Heap}
def Inv.turnedL{t':Nat}{ch:List AQ}(I:Inv X p9 σ H s)(J:∀b∈ch,fP X p9 H b)(k:∀b o,b∉ch->s.heap.get? b=-o->h'.get? b=-o):
  Inv X p9 σ H {s with heap:=h',toks:=t'}:=by
 have y:∀b u,H b=-u->b∉ch:=λb u e z=>by
  have q:=(J b z).1;rw[q]at e;cases e
 show I.step (g':=s.gens) (d':=s.drawn) (ch:=ch) (λb O=>?_) (λb o x x hc e x=>k b o hc e) (λb o x x hc e x=>(o.slots,k b o hc e)) (λx x x x n=>n)
  (λb o hc e=>(o,k b o hc e)) (λx x e=>e) (λx x x e=>e) (λb ps e=>(#[],by rw[e];simp)) (λm U=>?_) (λb u e=>?_) I.bare
 .let(_,f1,_,f3,f4,f5):=J b O;exact(f3,f1,f4,f5)
 .let(o,es,ep,ho,r):=U;exact(o,es,ep,k _ o (λz=>(J _ z).2.1 rfl) ho,r)
 .show (I.hok b u e).stay (λc v hc q=>k c v ?_ q) (λx q=>q) λx x q=>q;rcases hc with z|z
  .rw[z];exact y b u e
  .exact y c _ z
def Inv.track{T:AQ}{o:HO}(I:Inv X p9 σ H s)(J:fP X p9 H T)(new:ObjOk X.prog X.w (upd H T o) s.heap T o):Inv X p9 σ (upd H T o) s:=by
 have hn:=J.1;have z:HOk X.prog X.w (upd H T o) s.heap:=λb u e=>by
  by_cases y:b=T
  .subst y;rw[cu]at e;cases e;exact new
  .rw[aH y]at e;exact(I.hok b u e).stay (λc v x q=>q) (λc q=>by rw[aH (bw q hn)];exact q) λc xs q=>by rw[aH (bw q hn)];exact q
 let(U,g,d,tk,os):=s;show I.step (h':=U) (g':=g) (d':=d) (t':=tk) (ch:=[T]) (λb y=>?_) (λb o x x x e x=>e) (λb o x x x e x=>(o.slots,e)) (λb u hc x n=>?_)
  (λb o x e=>(o,e)) (λb xs e=>by rw[aH (bw e hn)];exact e) (λb u v e=>by rw[aH (bw e hn)];exact e) (λb ps e=>(#[],by rw[aH (bw e hn),e];simp)) (λm O=>O) z I.bare
 .have e:b=T:=by simpa using y
  subst e;let(_,f1,_,f3,f4,f5):=J;exact(f3,f1,f4,f5)
 .rw[aH (!!hc)];exact n
end
def Its(x:Str):It:=(λi z=>i<x.cps.size,λi H v H'=>H'=H/\∃c,x.cps[i]?=-c/\v=.str ⟨#[c]⟩,λi z=>i=x.cps.size)
def DX{prog:AK}(hh:A.handled=none)(I:AQ)(x:Str)(t:Tok):
  Walks prog w A I [I] [I] x.cps.size (SignAt x) (λi h=>h.IsStrIter I (strIterType x) x t i):=by
 unfold strIterType;split
 .exact Walks.strAscii hh I x t
 .exact Walks.strWide hh I x t
def vU{K:PF}{tg:AO}(it:AQ)(x:Str)(t:Tok):Turn P w K tg (Its x) [it] it (λi h=>h.IsStrIter it (strIterType x) x t i) where
 mem:=by simp
 obj:=λi h st b y=>by
  have e:b=it:=by simpa using y
  subst e;let(o,e,c,d):=st;exact(o,e,λv z=>by rw[d]at z;cases z)
 keep:=λi h h' st k=>let(o,ho,r):=st;(o,k it (!2) o ho,r)
 item:=by intro X U hw O hc i p9 s Y H E I J st hg;subst U hw O;let(f0,f1,f2,f3,f4,f5):=J it (!2);have W:=DX (prog:=X.prog) (w:=X.w) (I.ok.hd hc) it x t;show W.item i s _ _ hg st λv h' tk hv st' kk=>?_;let(c,u,e,rfl):=hv;have I1:Inv X p9 Y H {s with heap:=h',toks:=tk}:=I.turned (λb o y e=>kk b o (!!y) e) f0 f1 f3 f4 f5;let(o,eo,cc,d):=id st';exact(_,rfl,pH (s:={s with heap:=h',toks:=tk}) (n:=strIterType x) eo cc d (by unfold strIterType;split<;>decide) (.str ⟨#[c]⟩,H,I1,(u,rfl),(rfl,c,e,rfl),st',λb y=>(J b y).1))
 done:=by intro X U hw O hc i p9 s Y H E I J st hg;subst U hw O;let(f0,f1,f2,f3,f4,f5):=J it (!2);have W:=DX (prog:=X.prog) (w:=X.w) (I.ok.hd hc) it x t;have hg':i=x.cps.size:=hg;subst hg';exact W.done s _ _ st λh' tk kk=>(rfl,I.turned (λb o y e=>kk b o (!!y) e) f0 f1 f3 f4 f5)
 self:=λA i s Q E st h=>by
  unfold strIterType at st;split at st
  .exact wpAny_pyIter_striter_ascii st h
  .exact wpAny_pyIter_striter_wide st h
def cW(env:Env):List (Str×NameKind)->List (Str×AQ)->List (Str×AQ)
 |[],cs=>cs
 | (n,k)::r,cs=>cW env r (if(k==.free)=true then(match env.cells.lookup n with|some c=>(n,c)::cs|none=>cs) else cs)
def DY{env:Env}:∀{l:List (Str×NameKind)}{cs:List (Str×AQ)},(∀x c,cs.lookup x=-c->env.cells.lookup x=-c)->∀x c,(cW env l cs).lookup x=-c->env.cells.lookup x=-c
 |[],_,h,x,c,e=>h x c e
 | (n,k)::r,cs,h,x,c,e=>by
  show DY (l:=r) (cs:=_) ?_ x c e;intro y d q;by_cases J:(k==NameKind.free)=true
  .rw[if_pos J]at q;cases hn:env.cells.lookup n with
   |none=>rw[hn]at q;exact h y d q
   |some U=>
    rw[hn]at q;simp only[List.lookup_cons]at q;cases z:y==n with
    |true=>
     rw[z]at q;have O:y=n:=eq_of_beq z;rw[O,hn];exact q
    |false=>rw[z]at q;exact h y d q
  .rw[if_neg J]at q;exact h y d q
def Ea{env:Env}:∀{l:List (Str×NameKind)}{cs:List (Str×AQ)},(cs.lookup x).isSome=true->((cW env l cs).lookup x).isSome=true
 |[],_,h=>h
 | (n,k)::r,cs,h=>by
  show Ea (l:=r) (cs:=_) ?_;by_cases y:(k==NameKind.free)=true
  .rw[if_pos y];cases hn:env.cells.lookup n with
   |none=>exact h
   |some z=>
    simp only[List.lookup_cons];cases J:x==n with
    |true=>rfl
    |false=>exact h
  .rw[if_neg y];exact h
def Eb{env:Env}(y:(env.cells.lookup x).isSome):∀{l:List (Str×NameKind)}{cs:List (Str×AQ)},(x,NameKind.free)∈l->((cW env l cs).lookup x).isSome=true
 | (n,k)::r,cs,h=>by
  rcases bb.mp h with e|h
  .cases e;show Ea (l:=r) (cs:=_) ?_;rw[if_pos (show(NameKind.free==NameKind.free)=true by decide)];let(c,hc):=dA.mp y;rw[hc];simp
  .exact Eb y (l:=r) h
def Ec{env:Env}(h:∀y∈scope.names,y.2=NameKind.free->(env.cells.lookup y.1).isSome=true):closureFor scope env=pure (cW env scope.names []):=by
 simp only[closureFor];generalize ([]:List (Str×AQ))=cs;generalize scope.names=l at h;induction l generalizing cs with
 |nil=>rfl
 |cons y r ih=>
  let(n,k):=y;have O:=λcs=>ih cs λy hy=>h y (bP _ hy);rw[List.forIn_cons];by_cases J:(k==NameKind.free)=true
  .have Y:k=NameKind.free:=eq_of_beq J;let(c,hc):=dA.mp (h (n,k) aT Y);have U:cW env ((n,k)::r) cs=cW env r ((n,c)::cs):=by
    rw[cW,if_pos J];change cW env r (match env.cells.lookup n with|some c=>(n,c)::cs|none=>cs)=_;have z:env.cells.lookup n=-c:=hc;rw[z]
   have e2:cellOf env n=pure c:=by unfold cellOf;have z:env.cells.lookup n=-c:=hc;rw[z]
   rw[U,<-O ((n,c)::cs)];simp only[J,if_true,e2];rfl
  .have U:cW env ((n,k)::r) cs=cW env r cs:=by rw[cW,if_neg J]
   rw[U,<-O cs];simp only[J,ja];rfl
def vV{env:Env}{x:Str}:∀{names:List (Str×NameKind)},
  (names.map λ(Prod.mk (n) (k))=>if(k==NameKind.free&&env.scope.kind==.function&&env.kindOf n==-.cell) then(Prod.mk (n) (NameKind.cell)) else(Prod.mk (n) (k))).lookup x=
   (names.lookup x).map λk=>if(k==NameKind.free&&env.scope.kind==.function&&env.kindOf x==-.cell)=true then NameKind.cell else k
 |[]=>rfl
 | (Prod.mk (n) (k))::r=>by
  have J:=@vV env x r;rw[db];have hh:∀(c:Prop)[Decidable c],(if c then(Prod.mk (n) (NameKind.cell)) else(Prod.mk (n) (k)))=(Prod.mk (n) (if c then NameKind.cell else k)):=λc v=>by split<;>rfl
  change List.lookup x ((if(k==NameKind.free&&env.scope.kind==.function&&env.kindOf n==-.cell)=true then(Prod.mk (n) (NameKind.cell)) else(Prod.mk (n) (k)))::_)=_;rw[hh];simp only[List.lookup_cons];cases z:x==n with
  |true=>
   have y:x=n:=eq_of_beq z;subst y;rfl
  |false=>exact J
abbrev Cx.comp(X:Cx)(N':AD)(scope:Scope)(J:List (Str×AQ))(C:AQ)(z:AI)(y:Hp)(fp:List AQ)(pn:AC):Cx where
 prog:=X.prog
 w:=X.w
 K:=X.K
 mg:=X.mg
 base:=X.base
 A:=X.A
 N:=N'
 s₀:=z
 H₀:=y
 env:=compEnvC scope J C X.env
 outer:=X.stack
 stack:=X.stack
 ex:=fp
 fn:=λx=>false
 calm:=X.calm
 pn:=pn
 xe:=λx x=>False
def PIf(X:Cx)(y:AE)(t:TT):Prop:=
 ∀(p9:AC)(s:AI)(Y:St)(H:Hp)(Q:Bool->Hp->Prop),Inv X p9 Y H s->t Y H Q->
  ↥X (forIn y true λc r=>if r=true then do let ok <-isTrue c X.env (eval c X.env);pure (ForInStep.yield ok) else pure (ForInStep.yield r)) (TP X p9 Y Q) X.xe s
def Wl:TT:=λz H Q=>Q true H
def Wm:PIf X [] Wl:=λz z z H z I h=>wpAny_tests_nil (H,I,h)
def Wn{c:AO}{t:TT}(h:PT X c t):PIf X [c] t:=λp9 s Y H Q I q=>wpAny_tests_one (h p9 s Y H Q I q)
def eO(cap:List (Option Nat))(Y:St):St:=cap.map λo=>match o with|none=>none|some j=>(Y[j]?).join
def Caps(X:Cx)(scope:Scope):AD->List (Option Nat)->Prop
 |[],[]=>True
 |_::N',none::cap=>Caps X scope N' cap
 |x::N',-j::cap=>(X.N[j]?=-x/\scope.names.lookup x=-NameKind.free)/\Caps X scope N' cap
 |_,_=>False
def Caps.len:∀{N':AD}{cap:List (Option Nat)},Caps X scope N' cap->cap⁻¹=N'⁻¹
 |[],[],_=>rfl
 |_::N',none::cap,h=>by
  have:=Caps.len (N':=N') (cap:=cap) h;simp[this]
 |_::N',-_::cap,h=>by
  have:=Caps.len (N':=N') (cap:=cap) h.2;simp[this]
 |[],_::_,h=>False.elim h
 |_::_,[],h=>False.elim h
def Caps.at:∀{N':AD}{cap:List (Option Nat)}{i:Nat}{x:Str}{v:V}{Y:St},Caps X scope N' cap->N'[i]?=-x->(eO cap Y)[i]?=-(-v)->
  ∃j:Nat,X.N[j]?=-x/\scope.names.lookup x=-NameKind.free/\Y[j]?=-(-v)
 |[],[],i,x,v,Y,_,e,_=>by simp at e
 |y::N',none::cap,0,x,v,Y,h,e,q=>by simp[eO]at q
 |y::N',-j::cap,0,x,v,Y,h,e,q=>by
  have O:y=x:=by simpa using e
  subst O;have J:(Y[j]?).join=-v:=by simpa [eO] using q
  show(j,h.1.1,h.1.2,?_);cases z:Y[j]? with
  |none=>rw[z]at J;cases J
  |some o=>rw[z]at J;exact fT some J
 |y::N',none::cap,i+1,x,v,Y,h,e,q=>Caps.at (N':=N') (cap:=cap) (i:=i) h (!!e) (by simpa [eO] using q)
 |y::N',-_::cap,i+1,x,v,Y,h,e,q=>Caps.at (N':=N') (cap:=cap) (i:=i) h.2 (!!e) (by simpa [eO] using q)
 |[],_::_,_,_,_,_,h,_,_=>False.elim h
 |_::_,[],_,_,_,_,h,_,_=>False.elim h
abbrev tx(l:AA):Str:=⟨l.toArray⟩
def cz(l:AA):(tx l)⁻¹=l⁻¹:=by simp[Str.length]
def iU(a b:AA):tx a++tx b=tx (a++b):=by change(⟨a.toArray++b.toArray⟩:Str)=⟨(a++b).toArray⟩;simp
def Ed{a b:AA}(h:tx a=tx b):a=b:=by have:=fT (λx:Str=>x.cps.toList) h;simpa using this
def lF(x:Str):x=tx x.cps.toList:=by cases x;simp
section
variable {X:Cx}
def Ef:∀{ys:AD}{us:AB},Vals (ys.map V.str) us->StrsAre us ys
 |[],us,r=>by
  rw[List.map_nil]at r;cases r;exact .nil
 |y::ys,us,r=>by
  rw[db]at r;cases r with
  |cons z J=>
   let(t,e):=z;subst e;exact .cons y t (Ef J)
def rJoin(K:PF):V->AR->Hp->VK->Prop:=λx vs H Q=>∃z p ys,x=.str z/\vs=[.ref p]/\SqL K H p (ys.map V.str)/\(ys.map (·.length)).sum+ys⁻¹*z⁻¹<=16777216/\Q (.str (Str.join z ys)) H
def Wo:MtR X "str.join" (rJoin X.K):=by intro p9 s Y H x xs v us Q I rx rs h;let(z,p,ys,rfl,rfl,J,y,q):=h;let(t,rfl):=rx;let(u,rfl,U):=vals1 rs;cases U;let(O,rv,pl,hz):=I.list J;show join_list pl.isList (by simpa using Ef rv) y λt' k=>(.str _,H,I.tok _,(_,rfl),?_);have e:Txt.join z ys=Str.join z ys:=StrLaws.glued_eq_join z ys;rw[e];exact q
def Wq(K:PF):AR->Hp->VK->Prop:=λxs H Q=>∃x n t b,xs=[x,.ty n]/\TyOf K H x t/\PySem.W.kitOne K t (.type n)=-b/\Q (.bl b) H
def Wr:bM X (.builtin "isinstance") (Wq X.K):=by intro p9 s Y H xs us Q I r h;let(x,n,t,b,rfl,ty,e,q):=h;let(u,J,rfl,y,z):=vals2 r;cases z;exact Vj I y ty e λtk=>(.bl b,H,I.tok _,rfl,q)
def Ws:bootBuiltins "bool"=-(.type "bool"):=by ac_rfl
def Eg:bootBuiltins "int"=-(.type "int"):=by ac_rfl
def Eh:bootBuiltins "str"=-(.type "str"):=by ac_rfl
def Ei:bootBuiltins "list"=-(.type "list"):=by ac_rfl
def Ej:bootBuiltins "isinstance"=-(.builtin "isinstance"):=by ac_rfl
def Ek{T:AL}{pos:Pos}(y:Gl X x)(z:X.mg x=none)(J:bootBuiltins x=-(.type T))(hn:x≠"__name__":=by decide)(hd:(x==("__debug__":Str))=false:=by decide):PE X (.Name x pos) (tC (.ty T)):=
 Td y z J (v:=.ty T) rfl hn hd
def Wt:OpR X (binaryOp .Mult) (λx y H Q=>∃i n,x=.str i/\y=.int n/\MulOk i n/\Q (.str (Txt.mul i n)) H):=by intro p9 s Y H x y v u Q I J O h;let(i,n,rfl,rfl,z,q):=h;let(t,rfl):=J;let(t',rfl):=O;exact SB.mul z λt' k=>(.str _,H,I.tok _,(_,rfl),q)
end
def vW(X:Cx)(st:AF)(t:TS):Prop:=
 ∀(p9:AC)(s:AI)(Y:St)(H:Hp)(D:Ends),1<=s.toks->Inv X p9 Y H s->t D Y H->↥X (execs st X.env) (SP X p9 D) X.xe s
def PE1(X:Cx)(e:AO)(t:TE):Prop:=
 ∀(p9:AC)(s:AI)(Y:St)(H:Hp)(Q:VK),1<=s.toks->Inv X p9 Y H s->t Y H Q->↥X (eval e X.env) (EP X p9 Y Q) X.xe s
def Wu{pos:Pos}(he:PE1 X e te):vW X [.Return (-e) pos] (CP te):=by intro p9 s Y H D h1 I h;show wpAny_execs_cons (wpAny_Return_some (thn (he p9 s Y H _ h1 I h) λv O zZ=>?_));let(x,H1,y,J,z):=zZ;exact(x,Y,H1,y,J,z)
def vX{c d:Nat}:∀l:AA,c∉l->l.map (λa=>if a=c then d else a)=l
 |[],_=>rfl
 |a::r,h=>by
  have h1:a≠c:=λe=>h (by rw[e];exact aT);rw[db,if_neg h1,vX r λz=>h (bP _ z)]
def El(c d:Nat):∀J:AD,(∀p∈J,c∉p.cps.toList)->(Str.join ⟨#[c]⟩ J).cps.toList.map (λa=>if a=c then d else a)=(Str.join ⟨#[d]⟩ J).cps.toList
 |[],_=>rfl
 |[x],h=>by
  simp only[Str.join];exact vX _ (h x aT)
 |x::y::r,h=>by
  have Y:=El c d (y::r) λp U=>h p (bP _ U);have e:∀z:Str,Str.join z (x::y::r)=x++z++Str.join z (y::r):=λz=>by simp only[Str.join]
  have O:∀u v:Str,(u++v).cps.toList=u.cps.toList++v.cps.toList:=λu v=>by
   change(u.cps++v.cps).toList=_;simp
  rw[e,e,O,O,O,O,c9,c9,Y,vX _ (h x aT)];simp
def Wv(l:AA)(c d:Nat):Txt.replace (tx l) (tx [c]) (tx [d])=tx (l.map λa=>if a=c then d else a):=by
 have e:(Txt.replace (tx l) ⟨#[c]⟩ ⟨#[d]⟩).cps.toList=l.map λa=>if a=c then d else a:=by rw[StrLaws.replace_one,<-El c d _ (StrLaws.split_free (tx l) c),StrLaws.join_split]
 rw[lF (Txt.replace (tx l) (tx [c]) (tx [d]))];exact fT tx e
section
variable {X:Cx}
theorem Ww{o:AO}{to:TE}{z:Str}{ky kz:Nat}{py pz apos:Pos}(ho:PE X o to)(hyz:(y==z)=false)(J:attributeBase o "replace" X.env (eval o X.env)=eval o X.env:=by rfl)(U:((backTo cpos (starEach [.Constant (.str y) ky py,.Constant (.str z) kz pz] X.env)).all (λx=>!x.1)&&(backToKw cpos (keywordEach [] X.env)).all (λx=>x.1.isSome)
  &&decide (([.Constant (.str y) ky py,.Constant (.str z) kz pz]:AE)⁻¹+([]:List Keyword)⁻¹+(if([]:List Keyword).isEmpty then 0 else 1)<30))=true:=by rfl)(O:(apos.endLine==cpos.line)=true:=by rfl):
  PE1 X (.Call (.Attribute o "replace" apos) [.Constant (.str y) ky py,.Constant (.str z) kz pz] [] cpos)
   (λY H Q=>to Y H λv H1=>∃x,v=.str x/\x⁻¹+(x⁻¹+1)*z⁻¹<=16777216/\Q (.str (Txt.replace x y z)) H1):=by
 intro p9 s Y H Q h1 I h;show wpAny_Call_method_late J U O rfl (cm (wpAny_toks_of (n:=1) h1 (ho p9 s Y H _ I h)) (λv s1 h2=>?_) (λu u e=>e.2));let(t1,v',H1,I1,r1,x,e,hb,q):=h2;subst e;let(t,rfl):=r1;show("str","str.replace",F.plainAttrs_str,F.slot_str_replace,F.type_str_replace,typeIs_str _ _ _,(λu e=>nomatch e),?_);show Calls.callWith_builtin (by rfl) (Calls.evalArgs_plain ?_);change wpAny _ _ (spliced [(false,eval (.Constant (.str y) ky py) X.env),(false,eval (.Constant (.str z) kz pz) X.env)]) _ _ s1;show Calls.spliced_cons (Calls.Constant_str (Calls.spliced_cons (Calls.Constant_str (Calls.spliced_nil ?_))));exact SC.replace (by change @Ne Nat s1.toks 0;lia) (by change @Ne Nat (s1.toks+1) 0;lia) (by change @Ne Nat s1.toks (s1.toks+1);lia) hyz hb λt' k=>(.str _,H1,I1.tok _,(_,rfl),q)
end
def Wx{CX:CXT}{K:PF}{k:Nat}{name:Str}{params:Arguments}{dV kV Y pm cdv ct oc:AN}{an:Option AQ}{osl:Array (Option AN)}(lk:K.lookup f=-(oc,od,.func (PySem.W.fnOf name qual params body scope dV kV Y pm an cdv ct),osl))(hcd:PySem.W.codeIn K cdv qual)(S:FnScope N [x] scope)(hx:scope.names.lookup x=-.local)(hnc:∀y∈scope.names,y.2≠NameKind.cell)(hcf:∀n,cellsFrom n scope.names []=[])(len:∀vs H Q E,sp vs H Q E->vs⁻¹=[x]⁻¹)(U:∀(A:AM)(outer:List Env)(s:AI)(H:Hp)(vs:AR)(Q:VK)(E:XK),Room k (A.deeper (envOfC qual scope (~~~s) f cdv))->sp vs H Q E->
   ∃t,vW (dg CX P w K mg base N qual scope f cdv A outer s H E) body t/\t {nx:=λp H'=>Q .non H',rt:=Q} (start N vs) H):
  FnOk P w K mg base CX (k+1) f (PySem.W.fnOf name qual params body scope dV kV Y pm an cdv ct) [x] sp:=by
 show(len,λA outer s H args us vs Q E hr e0 hb r hsp=>?_);have hl:=len _ _ _ _ hsp;have KX:K.In s.heap:=e0.mod.kin.keeps λb o e=>(e0.bs b o e).1;have lim:s.heap.NoLimit:=e0.mod.nolimit.keeps λb o e=>(e0.bs b o e).1;obtain⟨u,rfl⟩:∃u,us=[u]:=by
  have h2:=r⁻¹;rw[hl]at h2;match us,h2 with
  |[u],_=>exact(u,rfl)
 show codeAny_call_function hr.depth (KX _ _ lk) rfl S.co S.gen rfl (PySem.W.codeRec_of KX hcd) (hb _ _ _ _ ?_);show wpAny_newFunctionEnv (binds:=[x].zip [u]) hnc (λy hy=>?_) (λh' hns hsb=>?_) S.kind
 .have e:y=(x,u):=by simpa using hy
  rw[e];exact hx
 have O:newEnv scope (~~~s) mainGlobals [] (qual++⇑".<locals>.") (-f) cdv none builtinsNs=envOfC qual scope (~~~s) f cdv:=by unfold envOfC newEnv;rw[hcf]
 have kp:∀b o,s.heap.get? b=-o->h'.get? b=-o:=λb o e=>hsb.extBut b o (ci (aE e)) (ag _ e);have mEq:bindL (envOfC qual scope (~~~s) f cdv).kindOf ([x].zip [u]) (λp=>none)=λy=>(([x].zip [u]).reverse).lookup y:=by
  funext y;have hk:(envOfC qual scope (~~~s) f cdv).kindOf x=-.local:=hx;change bindL (envOfC qual scope (~~~s) f cdv).kindOf [(x,u)] (λp=>none) y=List.lookup y [(x,u)];unfold bindL;rw[if_pos hk];unfold bindL;by_cases hy:y=x
  .subst hy;simp
  .have:(y==x)=false:=by simpa using hy
   simp[hy,List.lookup_cons,this]
 have xx:InCallC s (~~~s) (bindL (envOfC qual scope (~~~s) f cdv).kindOf ([x].zip [u]) λp=>none) (cellsFrom ((~~~s)+1) scope.names []) (bindC (envOfC qual scope (~~~s) f cdv).kindOf ([x].zip [u]) λp=>none)
   {s with heap:=h',toks:=s.toks+([x].zip [u])⁻¹}:=by
  rw[mEq,hcf];exact(((h',_,rfl),hns,kp,ay _),(λn c e=>by simp at e),List.Pairwise.nil,(λn c e=>nomatch e))
 change _/\codeAny (model P w) A (.func body (newEnv scope (~~~s) mainGlobals [] (qual++⇑".<locals>.") (-f) cdv none builtinsNs)) _ _;rw[O];show(lim.keeps kp,codeAny_func ?_);let(t,ht,hq):=U A outer s H vs Q E (hr.deeper _) hsp;have I:Inv (dg CX P w K mg base N qual scope f cdv A outer s H E) [] (start N vs) H {s with heap:=h',toks:=s.toks+([x].zip [u])⁻¹}:=Dp S hr.hd e0 hl r xx;show cm (ht [] _ (start N vs) H _ (Nat.le_add_left 1 s.toks) I hq) (λfl s' hs=>?_) λe s' hs=>hs;have fin:∀{z:St}{H':Hp}{v:V}{u:AN},Inv (dg CX P w K mg base N qual scope f cdv A outer s H E) [] z H' s'->RelV v u->Q v H'->CE outer P w H s Q u s':=
  λ{z H' v u} J rv q=>(v,H',J.os,J.bare,J.base,J.hok,rv,q)
 cases fl with
 |ret u=>
  let(v,z,H',J,rv,q):=hs;exact fin J rv q
 |next=>
  let(z,H',J,q):=hs;exact fin (v:=V.non) (u:=Value.none) J rfl q
 |brk=>
  let(_,_,_,q):=hs;exact False.elim q
 |cont=>
  let(_,_,_,q):=hs;exact False.elim q
def Fun.ok1{K:PF}{st:Stmt}{k:Nat}(F:Fun K x qual st f fd)(S:FnScope N [y] (aB st))(hx:(aB st).names.lookup y=-.local)(Y:∀z∈(aB st).names,z.2≠NameKind.cell)(U:∀n,cellsFrom n (aB st).names []=[])(len:∀vs H Q E,sp vs H Q E->vs⁻¹=[y]⁻¹)(J:∀(cdv:AN)(A:AM)(outer:List Env)(s:AI)(H:Hp)(vs:AR)(Q:VK)(E:XK),Room k (A.deeper (envOfC qual (aB st) (~~~s) f cdv))->sp vs H Q E->
   ∃t,vW (dg CX0 P w K mg base N qual (aB st) f cdv A outer s H E) (aD st) t/\t {nx:=λv H'=>Q .non H',rt:=Q} (start N vs) H):FnOk P w K mg base CX0 (k+1) f fd [y] sp:=by
 let(oc,od,kV,doc,pm,an,cdv,ct,osl,rfl,lk,O):=F.ex;exact Wx lk O S hx Y U len λA outer s H vs Q E hr hsp=>J cdv A outer s H vs Q E hr hsp
open Builtin Builtin.Str
def Wy{prog:AK}(hh:A.handled=none)(it:AQ)(x:Str)(t:Tok):
  Draws prog w A it [it] x.cps.size (λi v=>∃c u,x.cps[i]?=-c/\v=.str ⟨#[c]⟩ u) (λi h=>h.IsStrIter it (strIterType x) x t i):=by
 unfold strIterType;split
 .exact Draws.strAscii hh it x t
 .exact Draws.strWide hh it x t
structure ZApart(z TI TO i1 i2:AQ):Prop where
 TIz:TI≠z
 TOz:TO≠z
 i1z:i1≠z
 i2z:i2≠z
 TITO:TI≠TO
 TIi1:TI≠i1
 TIi2:TI≠i2
 TOi1:TO≠i1
 TOi2:TO≠i2
 i12:i1≠i2
section
variable {X:Cx}
def Em:∀{bs:List Bool}{us:AB}{i:Nat}{v:AN},Vals (bs.map V.bl) us->us[i]?=-v->∃b,bs[i]?=-b/\v=.bool b
 |[],us,i,v,r,e=>by
  rw[List.map_nil]at r;cases r;simp at e
 |b::bs,us,i,v,r,e=>by
  rw[db]at r;cases r with
  |cons y z=>
   cases i with
   |zero=>
    cases(show _=Value.bool b from y);exact(b,rfl,!!e.symm)
   |succ i=>exact Em (i:=i) z (!!e)
def Wz:bootBuiltins "all"=-(.builtin "all"):=by ac_rfl
def WD:bootBuiltins "zip"=-(.type "zip"):=by ac_rfl
def all_range(bs:List Bool)(n:Nat)(hn:n=bs⁻¹):((List.range n).all λi=>(bs[i]?).getD true)=bs.all id:=by
 subst hn;rw[hZ,cr,cr];constructor
 .intro h b z;let(i,hi,e):=List.mem_iff_getElem.mp z;have:=h i (List.mem_range.mpr hi);rw[aI hi,e]at this;simpa using this
 .intro h i hi;have y:=List.mem_range.mp hi;rw[aI y];simpa using h _ (fq y)
def WF(hc:X.calm):bM X (.builtin "all") (λxs H Q=>∃(p:AQ) (bs:List Bool),xs=[.ref p]/\SqL X.K H p (bs.map V.bl)/\Q (.bl (bs.all id)) H):=by
 intro p9 s Y H xs us Q I r h;let(p,bs,rfl,hq,q):=h;let(u,rfl,ru):=vals1 r;cases ru;let(y,O,pl,hz):=I.list hq;have hl:=pl.isList;have z:p<(~~~s):=by let(_,e,_):=hl;exact aE e
 show call_all_walk (ki hl ?_);show((~~~s),[(~~~s),p],[(~~~s)],y.toArray.size,_,_,λi=>(bs[i]?).getD true,rfl,Walks.list (A:=X.A.in1) (I.ok.hd hc) _ p (ci z) y.toArray,
  ((_,bd _ rfl,rfl,rfl),hl.push _),λi v s' Q' E' U J=>?_,λh' tk hk=>?_)
 .let(b,e,rfl):=Em O (i:=i) (v:=v) (!!U);simp only[e,Option.getD_some]at J;exact gl J
 .have e:=all_range bs y.toArray.size (by rw[a8,<-O⁻¹,ah]);rw[e];exact(.bl _,H,I.kept (λb o q=>hk b o (λhm=>by rw[ba.mp hm]at q;exact fb _ (aE q)) (ag _ q)),rfl,q)
def WK:OpR X (compareOp .Is) (λx y H Q=>∃i j,x=.bl i/\y=.bl j/\Q (.bl (i==j)) H):=by intro p9 s Y H x y v u Q I z J h;let(i,j,rfl,rfl,q):=h;cases z;cases J;exact is_bool (.bl _,H,I,rfl,q)
def WL:bM X (.type "int") (λxs H Q=>∃z n,xs=[.str z]/\PySem.intText? z=-n/\z⁻¹<=640/\Q (.int n) H):=by intro p9 s Y H xs us Q I r h;let(z,n,rfl,hn,hl,q):=h;let(u,rfl,t,rfl):=vals1 r;exact PySem.W.KIN.call_text hn hl (.int n,H,I.tok _,(_,rfl),q)
def WM:V->Option Int->Option Int->Hp->VK->Prop:=λx lo hi H Q=>∃z,x=.str z/\z⁻¹<=sizeLine/\Q (.str (Txt.slice z lo hi)) H
theorem WN:SlR X WM:=by
 intro p9 s Y H x v vl vu lo hi sl Q I rx hs pl pu h;let(z,rfl,hz,q):=h;let(t,rfl):=rx;show("str",_,slot_str_getitem.lookup,typeIs_str _ _ _,?_);obtain⟨l,el,e1⟩:∃l:Option (Int×Tok),vl=partValue l/\l.map (·.1)=lo:=by
  cases pl with
  |none=>exact(none,rfl,rfl)
  |int i t=>exact(-(i,t),rfl,rfl)
 obtain⟨u,eu,e2⟩:∃u:Option (Int×Tok),vu=partValue u/\u.map (·.1)=hi:=by
  cases pu with
  |none=>exact(none,rfl,rfl)
  |int i t=>exact(-(i,t),rfl,rfl)
 subst el eu e1 e2;show wpAny_getItem_str_slice (l:=l) (u:=u) (st:=none) hs rfl ?_;unfold sliceMade;unfold Txt.slice at q;change(if((1:Int)==1&&(slicePicked z l u none)⁻¹==z⁻¹)=true then Made.val (.str z t) else Made.str ⟨((slicePicked z l u none).filterMap (z.cps[·]?)).toArray⟩).post _ _;have ep:slicePicked z l u none=Builtin.Str.strSliceIndices (l.map (·.1)) (u.map (·.1)) 1 z⁻¹:=rfl;rw[ep];by_cases hc:((1:Int)==1&&(Builtin.Str.strSliceIndices (l.map (·.1)) (u.map (·.1)) 1 z⁻¹)⁻¹==z⁻¹)=true
 .rw[if_pos hc]at q ⊢;exact(.str z,H,I,(t,rfl),q)
 .rw[if_neg hc]at q ⊢;show(?_,(.str _,H,I.tok _,(_,rfl),q));change(List.filterMap _ _).toArray.size<=sizeLine;rw[a8];have h1:=sliceIndices_le (l.map (·.1)) (u.map (·.1)) z⁻¹;have h2:=List.length_filterMap_le (λx=>z.cps[x]?) (Builtin.Str.strSliceIndices (l.map (·.1)) (u.map (·.1)) 1 z⁻¹);lia
end
section
variable {X:Cx}
def WP:OpR X (compareOp .IsNot) (λx y H Q=>∃i j,x=.bl i/\y=.bl j/\Q (.bl (i != j)) H):=by intro p9 s Y H x y v u Q I z J h;let(i,j,rfl,rfl,q):=h;cases z;cases J;exact isnot_bool (.bl _,H,I,rfl,q)
end
def noStar:AO->Bool
 |.Starred ..=>false
 |_=>true
def bH(e:AO)(es:AE)(env:Env)(h:noStar e):starEach (e::es) env=(false,eval e env)::starEach es env:=by cases e<;>first|rfl|cases h
variable {X:Cx} {e st:AO} {te ts:TE} {p2 pos:Pos}
open Sem (wp)
inductive KD {α:Type}:Sem α->Prop
 |pure (a:α):KD (.pure a)
 |raise (e:AN):KD (.raise e)
 |uns (w:AL):KD (.unsupported w)
 |rule {t:AL} {k:Unit->Sem α} (h:∀x,KD (k x)):KD (.rule t k)
 |load {a:AQ} {p:Option AN} {k:Obj->Sem α} (h:∀x,KD (k x)):KD (.load a p k)
 |update {a:AQ} {p:Option AN} {f:Obj->Obj} {k:Unit->Sem α} (hf:∀o,(f o).dict=o.dict) (h:∀x,KD (k x)):KD (.update a p f k)
 |alloc {o:Obj} {k:AQ->Sem α} (h:∀x,KD (k x)):KD (.alloc o k)
 |register {a:AQ} {k:Unit->Sem α}:KD (.register a k)
 |ask {k:Setting->Sem α} (h:∀x,KD (k x)):KD (.ask k)
 |stack {k:List (Code×Pos)->Sem α} (h:∀x,KD (k x)):KD (.stack k)
 |fresh {k:Tok->Sem α} (h:∀x,KD (k x)):KD (.fresh k)
def KD.bind{z O:Type}{m:Sem z}{f:z->Sem O}(h:KD m)(J:∀a,KD (f a)):KD (m >>= f):=by
 change KD (Sem.bind m f);induction h with
 |pure a=>exact J a
 |raise e=>exact .raise e
 |uns w=>exact .uns w
 |rule _ y=>exact .rule y
 |load _ y=>exact .load y
 |update q _ y=>exact .update q y
 |alloc _ y=>exact .alloc y
 |register=>exact .register
 |ask _ y=>exact .ask y
 |stack _ y=>exact .stack y
 |fresh _ y=>exact .fresh y
def DKp(h h':Heap):Prop:=∀(b:AQ)(o:Obj),h.objs[b]?=-o->∃o':Obj,h'.objs[b]?=-o'/\o'.dict=o.dict
def DKp.refl(h:Heap):DKp h h:=λz o e=>(o,e,rfl)
def DKp.trans{z J O:Heap}(x:DKp z J)(y:DKp J O):DKp z O:=λb o e=>by
 let(o1,e1,U):=x b o e;let(o2,e2,Y):=y b o1 e1;exact(o2,e2,Y.trans U)
def DKp.push(h:Heap)(o:Obj):DKp h (h.push o):=λb u e=>by
 show(u,?_,rfl);have y:=(gx.mp e).1;let(objs,l):=h;change(objs.push o)[b]?=-u;rw[Array.getElem?_push,if_neg (ci y)];exact e
def DKp.update(h:Heap)(a:AQ){f:Obj->Obj}(y:∀o,(f o).dict=o.dict):DKp h (h.update a f):=λb u e=>by
 let(objs,l):=h;have e:objs[b]?=-u:=e;change ∃o':Obj,(objs.modify a f)[b]?=-o'/\o'.dict=u.dict;rw[Array.getElem?_modify,e];by_cases q:a=b
 .rw[if_pos q];exact(f u,rfl,y u)
 .rw[if_neg q];exact(u,rfl,rfl)
def DKp.at{o o':Obj}(x:DKp h h')(e:h.get? a=-o)(J:h'.get? a=-o'):o'.dict=o.dict:=by let(o1,y,z):=x a o (Heap.get?_some_iff.mp e).1;rw[(Heap.get?_some_iff.mp J).1]at y;cases y;exact z
def WQ{U:Type}{J:PySem.Ctx}{t:Sem U}(k:KD t):∀{Q:U->Pos->AI->Prop}{E:AN->Pos->AI->Prop}{p:Pos}{s:AI},wp M J t Q E p s->
  wp M J t (λa O s'=>Q a O s'/\DKp s.heap s'.heap) (λe O s'=>E e O s'/\DKp s.heap s'.heap) p s:=by
 induction k with
 |pure a=>intro Q E p s h;exact(h,.refl _)
 |raise e=>intro Q E p s h;exact(h,.refl _)
 |uns w=>intro Q E p s h;exact h
 |rule _ y=>intro Q E p s h;exact y () h
 |load _ y=>intro Q E p s h;let(o,e,h):=h;exact(o,e,y o h)
 |update q _ y=>
  intro Q E p s h;exact(h.1,Sem.wp_mono M J _ (λx x x z=>(z.1,(DKp.update _ _ q).trans z.2)) (λx x x z=>(z.1,(DKp.update _ _ q).trans z.2)) _ _ (y () h.2))
 |alloc _ y=>
  intro Q E p s h;exact Sem.wp_mono M J _ (λx x x z=>(z.1,(DKp.push _ _).trans z.2)) (λx x x z=>(z.1,(DKp.push _ _).trans z.2)) _ _ (y _ h)
 |register=>intro Q E p s h;exact h
 |ask _ y=>intro Q E p s h;exact y _ h
 |stack _ y=>intro Q E p s h;exact y _ h
 |fresh _ y=>intro Q E p s h;exact y _ h
def lG{y:Type}{t:Sem y}{Q:y->AI->Prop}{E:AG}(k:KD t)(h:wpAny M A t Q E s):wpAny M A t (λa s'=>Q a s'/\DKp s.heap s'.heap) E s:=
 fun Γ p hΓ=>Sem.wp_mono M Γ t (λx x x z=>z) (λx x x z=>And.left z) p s (WQ k (h Γ p hΓ))
def vY{y:Type}{c:Prop}[Decidable c]{a b:Sem y}(z:KD a)(J:KD b):KD (if c then a else b):=by split<;>assumption
def vZ(a:AQ):KD (load a):=.load λx=>.pure x
def Eo{f:Obj->Obj}(y:∀o,(f o).dict=o.dict):KD (update a f):=.update y λx=>.pure x
def v7:KD stack:=.stack λx=>.pure x
def WR(v:AN):KD (fieldsOf v):=by
 unfold fieldsOf;split
 .show KD.bind (vZ _) λx=>?_;split
  .exact .pure _
  .exact .uns _
 .exact .uns _
def pM(v:AN)(i:Nat):KD (field v i):=by
 unfold field;show KD.bind (WR v) λx=>?_;split
 .exact .pure _
 .exact .uns _
def WT(f:Array AN->Array AN)(o:Obj):(Obj.mapFields f o).dict=o.dict:=by unfold Obj.mapFields;split<;>rfl
def v8(v:AN)(i:Nat)(x:AN):KD (setField v i x):=by
 unfold setField;split
 .unfold updateField;show KD.bind (vZ _) λo=>?_;split
  .exact vY (Eo (WT _)) (.uns _)
  .exact .uns _
 .exact .uns _
def v9(e:AN)(f:Option AQ):KD (setFlight e f):=by
 unfold setFlight;show KD.bind (pM _ _) λx=>?_;split
 .exact v8 _ _ _
 .exact .pure _
def WW(env:Env)(l:List Env):KD (behindIsImport env l):=by
 unfold behindIsImport;split
 .exact .pure _
 .split
  .exact .pure _
  .exact KD.bind (pM _ _) λx=>.pure _
def WX(env:Env)(b:Bool):∀l:List Env,KD (keptBack env b l)
 |[]=>vY (.pure _) (KD.bind (KD.bind v7 λx=>.pure _) λx=>.pure _)
 |_::_=>.pure _
def Ep:∀l:List Env,KD (readyFrames l)
 |[]=>.pure _
 |env::l=>by
  unfold readyFrames;split
  .show KD.bind (vZ _) λo=>?_;split
   .exact .pure _
   .show KD.bind (WW _ _) λb=>KD.bind (WX _ _ _) λv=>KD.bind (Eo λo=>rfl) λz=>Ep l
  .exact .uns _
def WY(env:Env):KD (PySem.frameOf env):=by
 unfold PySem.frameOf frameEnvs;show KD.bind (KD.bind v7 λz=>.pure _) λl=>KD.bind ?_ λf=>?_
 .unfold frameObject;split
  .exact .pure _
  .exact KD.bind (Ep _) λz=>.pure _
 .split
  .exact .pure _
  .exact .uns _
def W0(f:AQ)(b:Bool):KD (entryPlaceOf f b):=by unfold entryPlaceOf;show KD.bind v7 λl=>?_;split<;>exact .pure _
def W2(a b c d e:AN)(l:AB):KD (EntryCells.newEntry a b c d e l):=by exact vY (.uns _) (KD.bind (.alloc λx=>.pure x) λx=>.pure _)
def Er(e:AN)(env:Env):KD (noteFrame e env):=by
 unfold noteFrame;split
 .show KD.bind (pM _ _) λhd=>?_;have fin:∀f:AQ,KD (do let a <-PySem.frameOf env;let pl <-entryPlaceOf f (hd != .none);let b <-EntryCells.newEntry hd a .none (rawInt f) .none pl;setField e 1 b):=λf=>
   KD.bind (WY _) λz=>KD.bind (W0 _ _) λz=>KD.bind (W2 _ _ _ _ _ _) λz=>v8 _ _ _
  split
  .show KD.bind (pM _ _) λx=>?_;split
   .exact .pure _
   .exact KD.bind (v8 _ _ _) λz=>fin _
  .exact fin _
 .exact .uns _
def Es(env:Env)(e:AN):KD (leaving env e):=KD.bind (Er _ _) λz=>v9 _ _
def holes(h:Heap)(l:List AQ):Heap:={h with objs:=h.objs.mapIdx λi o=>if l.contains i then{o with data:=.freed} else o}
def Et{b:AQ}:(holes h l).get? b=if l.contains b then none else h.get? b:=by
 unfold holes Heap.get?;simp only[Array.getElem?_mapIdx];cases y:h.objs[b]? with
 |none=>simp
 |some o=>
  cases hc:l.contains b with
  |true=>simp[hc]
  |false=>simp[hc]
def g8{b:AQ}(y:b∈l):(holes h l).get? b=none:=by rw[Et,bn.mpr y];rfl
def wj{b:AQ}(y:b∉l):(holes h l).get? b=h.get? b:=by
 rw[Et];cases hc:l.contains b with
 |true=>exact absurd (bn.mp hc) y
 |false=>rfl
def pN:(holes h l).StaysIn h:=λb o e=>by
 by_cases y:b∈l
 .rw[g8 y]at e;cases e
 .rw[wj y]at e;exact e
def ObjOk.at{o:HO}(x:ObjOk P w H h a o):∃u,h.get? a=-u:=by
 cases o with
 |lst xs=>let(_,_,_,_,e):=x;exact(_,e)
 |tup xs=>let(_,_,_,o,e,_):=x;exact(_,e)
 |dK z=>let(_,_,_,_,o,_,_,e,_):=x;exact(_,e)
 |dT z=>let(_,_,_,_,o,_,_,e,_):=x;exact(_,e)
 |set S n=>let(o,_,_,_,e,_):=x;exact(_,e)
 |ins C dx fs=>let(_,_,_,e,_):=x;exact(_,e)
 |own y=>exact x
 |xd fs=>let(_,(_,_,_,e,_),_):=x;exact(_,e)
 |rng lo hi=>let(_,_,_,e):=x;exact(_,e)
 |frz ob u=>let(e,_):=x;exact(_,e)
 |tbl ps=>exact(_,(show h.get? a=-_ from x))
 |met f y=>exact(_,(show h.get? a=-_ from x))
 |ext J=>let(_,e,_):=x;exact e
def HOk.gone(x:HOk P w H h)(e:h.get? a=none):H a=none:=by
 cases q:H a with
 |none=>rfl
 |some u=>let(o,ho):=(x a u q).at;rw[ho]at e;cases e
def wu:∀{l:List Env},h.FunFrames base l->∀b∈frs l,∃o,h.get? b=-o/\∀vs,o.data≠.fields vs
 |[],_,b,y=>by cases y
 |env::l,hf,b,y=>by
  unfold Heap.FunFrames at hf;let(_,(L,o,z,_,J,O),U):=hf;unfold frs at y;rw[eA,z]at y;rcases bb.mp y with rfl|y
  .exact (o,J,O)
  .exact wu U b y
def lH{x:List AQ}:∀{l:List Env},h.FunFrames base l->(∀b∈frs l,b∈x)->h.FunFrames (holes h x) l
 |[],_,_=>by unfold Heap.FunFrames;trivial
 |env::l,hf,hx=>by
  unfold Heap.FunFrames at hf ⊢;let(h1,(L,o,y,_,J,O),Y):=hf;have U:L∈frs (env::l):=by unfold frs;rw[eA,y];exact aT
  show(h1,(L,o,y,g8 (hx L U),J,O),lH Y λb z=>hx b ?_);unfold frs at z ⊢;rw[eA,y];exact bP _ z
def ww{env:Env}{l:List Env}(y:h.FunFrames base (env::l)):∃L,env.frame=-L:=by unfold Heap.FunFrames at y;let(_,(L,o,z,_),_):=y;exact(L,z)
def Tr(h0:Heap)(H:Hp)(h:Heap)(a:AQ)(c:AN)(od:Option AQ):Prop:=
 ∃oe vs T y ts,h.get? a=-oe/\oe.cls=c/\oe.data=.fields vs/\vs[1]?=-(.ref T)/\T≠a/\h.get? T=-y/\y.data=.fields ts/\ts[3]?=-.none/\
  h0.get? a=none/\h0.get? T=none/\H a=none/\H T=none/\oe.dict=od
def CX1(P:AK)(w:World):CXT:=λouter H s E e s'=>
 ∃(a:AQ)(c:AN)(od:Option AQ)(H':Hp),e=.ref a/\s'.os=s.os/\AllBare s'.gens/\Un (frs outer) [] H H' s.heap s'.heap/\HOk P w H' s'.heap/\Tr s.heap H' s'.heap a c od/\E c od H'
def Eu{fs st:List AQ}{H0:Hp}{h0:Heap}{l:List Env}{xs:List AQ}{c:AN}(un:Un fs [] H0 H h0 h)(hok:HOk P w H h)(up:∀b∈fs,b∈st)(old:∀b o,h0.get? b=-o->b∉fs->b∉st)(fr:∀b∈st,H b=none/\∃o,h.get? b=-o/\∀vs,o.data≠.fields vs)(ha:h0.get? a=none)(hHa:H a=none)(Y:∀x∈xs,h0.get? x=none/\H x=none)(L:(holes h (st++a::xs)).Left l a c h h')(hdk:∀o,h'.get? a=-o->o.dict=od):Un fs [] H0 H h0 h'/\HOk P w H h'/\Tr h0 H h' a c od:=by
 let(stay,_,tr,slots):=L;have old:∀b o,h0.get? b=-o->b∉fs->b∉st++a::xs:=by
  intro b o J hf y;rcases bp.mp y with y|y
  .exact old b o J hf y
  .rcases bb.mp y with e|e
   .rw[e,ha]at J;cases J
   .rw[(Y b e).1]at J;cases J
 have kept:∀b o,h.get? b=-o->b∉st++a::xs->h'.get? b=-o:=λb o e hn=>stay b o (by rw[wj hn];exact e);have trk:∀b o,H b=-o->b∉st++a::xs:=by
  intro b o J y;rcases bp.mp y with y|y
  .rw[(fr b y).1]at J;cases J
  .rcases bb.mp y with e|e
   .rw[e,hHa]at J;cases J
   .rw[(Y b e).2]at J;cases J
 have O:∀b:AQ,b∉([]:List AQ):=λb J=>by cases J
 have frd:∀b∈st,∀o,h.get? b=-o->∀vs,o.data≠.fields vs:=by intro b J o ho vs;let(_,o',e1,U):=fr b J;rw[e1]at ho;cases ho;exact U vs
 show((?_,?_,?_,?_,un.tups,un.frzs,un.tbls),?_,?_)
 .intro b o J hn hf _;exact kept b o (un.keep b o J hn hf (O b)) (old b o J hf)
 .intro b o J hn hf _;let(sl,e):=un.slot b o J hn hf (O b);let(sl',e'):=slots b _ e (frd b (up b hf) _ e);exact(sl',e')
 .intro b o J hn _;exact un.free b o J hn (O b)
 .intro b o J _;let(o',e):=un.there b o J (O b);by_cases y:b∈st++a::xs
  .rcases bp.mp y with h1|h1
   .let(sl',e'):=slots b _ e (frd b h1 _ e);exact(_,e')
   .rcases bb.mp h1 with U|U
    .rw[U,ha]at J;cases J
    .rw[(Y b U).1]at J;cases J
  .exact (_,kept b o' e y)
 .intro b o J;show(hok b o J).stay (λb' u hb' e=>kept b' u e ?_) (λv z=>z) λv v z=>z;rcases hb' with rfl|hb'
  .exact trk _ _ J
  .exact trk _ _ hb'
 .let(oe,vs,T,oT,ts,t1,t2,t3,t4,t5,t6,t7,t8,t9):=tr;have hT:T∈xs\/h.get? T=none:=by
   by_cases y:T∈st++a::xs
   .rcases bp.mp y with h1|h1
    .exfalso;let(_,o,e1,U):=fr T h1;let(sl,e3):=slots T o e1 U;rw[e3]at t7;cases t7;exact U ts t8
    .rcases bb.mp h1 with U|U
     .exact absurd U t6
     .exact .inl U
   .rw[wj y]at t5;exact .inr t5
  show(oe,vs,T,oT,ts,t1,t2,t3,t4,t6,t7,t8,t9,ha,?_,hHa,?_,hdk oe t1)
  .rcases hT with h1|h1
   .exact (Y T h1).1
   .cases e:h0.get? T with
    |none=>rfl
    |some o=>let(o',e'):=un.there T o e (O T);rw[e']at h1;cases h1
  .rcases hT with h1|h1
   .exact (Y T h1).2
   .exact hok.gone h1
section
variable {X:Cx} {p9:AC} {σ:St} {H:Hp} {s:AI}
def Ew(J:Inv X p9 σ H s)(hst:X.stack=X.env::X.outer)(Y:X.ex=[]){xs:List AQ}{c:AN}(ha:X.s₀.heap.get? a=none)(O:H a=none)(hxs:∀x∈xs,X.s₀.heap.get? x=none/\H x=none)(L:(holes s.heap (frs X.stack++a::xs)).Left (X.env::X.outer) a c s.heap h')(U:∀o,h'.get? a=-o->o.dict=od)(q:E c od H):
  CX1 X.prog X.w X.outer X.H₀ X.s₀ E (.ref a) {s with heap:=h'}:=by
 have sub:=J.stkSub;have z:=J.base;rw[Y]at z;have up:∀b∈X.fs,b∈frs X.stack:=by
  intro b y;rw[hst];unfold Cx.fs at y;unfold frs at y ⊢;rw[eA];split
  .exact y
  .exact bP _ y
 have old:∀b o,X.s₀.heap.get? b=-o->b∉X.fs->b∉frs X.stack:=by
  intro b o y hf hin;rcases bb.mp (sub b hin) with e|e
  .have h1:=aE y;have h2:=J.ok.above;rw[e]at h1;exact absurd h1 (Nat.not_lt.mpr h2)
  .exact hf e
 let(u,k,t):=Eu z J.hok up old (λb y=>(J.stkFree b y,wu J.stack b y)) ha O hxs L U;exact(a,c,od,H,rfl,J.os,J.bare,u,k,t,q)
def W3(J:Inv X p9 σ H s)(y:X.stack=X.env::X.outer)(U:X.ex=[]){c:AN}(t:Tr X.s₀.heap H s.heap a c od)(q:E c od H):
  ↥X (leaving X.env (.ref a)) (λv Y=>CX1 X.prog X.w X.outer X.H₀ X.s₀ E (.ref a) Y) E' s:=by
 let(oe,vs,T,oT,ts,t1,t2,t3,t4,t6,t7,t8,t9,n1,n2,n3,n4,n5):=t;have O:=J.stack;rw[y]at O;let(L,hL):=ww O;have sub:∀b∈frs (X.env::X.outer),b∈frs X.stack++a::[T]:=λb hb=>by rw[y];exact eK _ hb
 show cm (lG (Es _ _) (wpAny_leaving_next (base:=holes s.heap (frs X.stack++a::[T])) (cls:=c) (Q:=λv s'=>∃h',s'={s with heap:=h'}/\(holes s.heap (frs X.stack++a::[T])).Left (X.env::X.outer) a c s.heap h') (by rw[J.ok.frames,y]) (lH O sub) hL ?_ pN (g8 (!2)) λh' hl=>(h',rfl,hl))) (λv s' z=>?_) λv v z=>z
 .exact (oe,vs,T,oT,ts,t1,t2,t3,t4,g8 (!2),t6,t7,t8,t9)
 .let((h',rfl,hl),dk):=z;exact Ew J y U n1 n3 (λx hx=>by rw[ba.mp hx];exact(n2,n4)) hl (λo eo=>(dk.at t1 eo).trans n5) q
def leave_new(J:Inv X p9 σ H s)(y:X.stack=X.env::X.outer)(U:X.ex=[]){oe:Obj}(e:s.heap.get? a=-oe)(hd:oe.data=.fields vs)(h1:vs[1]?=-.none)(n1:X.s₀.heap.get? a=none)(hH:H a=none)(q:E oe.cls oe.dict H):
  ↥X (leaving X.env (.ref a)) (λv Y=>CX1 X.prog X.w X.outer X.H₀ X.s₀ E (.ref a) Y) E' s:=by
 have O:=J.stack;rw[y]at O;let(L,hL):=ww O;have sub:∀b∈frs (X.env::X.outer),b∈frs X.stack++a::[]:=λb hb=>by rw[y];exact eK _ hb
 show cm (lG (Es _ _) (wpAny_leaving_first (base:=holes s.heap (frs X.stack++a::[])) (Q:=λv s'=>∃h',s'={s with heap:=h'}/\(holes s.heap (frs X.stack++a::[])).Left (X.env::X.outer) a oe.cls s.heap h') (by rw[J.ok.frames,y]) (lH O sub) hL e pN (g8 (!2)) hd h1 λh' hl=>(h',rfl,hl))) (λv s' z=>?_) λv v z=>z;let((h',rfl,hl),dk):=z;exact Ew J y U n1 hH (λx hx=>by cases hx) hl (λo eo=>dk.at e eo) q
def W4(hst:X.stack=X.env::X.outer)(O:X.ex=[])(hxe:∀e s',↥X (leaving X.env e) (λx y=>CX1 X.prog X.w X.outer X.H₀ X.s₀ E e y) (λY y=>CX1 X.prog X.w X.outer X.H₀ X.s₀ E Y y) s'->X.xe e s'):
  gZ (CX1 X.prog X.w) X E:=by
 intro p9 σ H s e s' I h;let(a,c,od,H',rfl,ho,hg,un,hok,tr,q):=h;have J:Inv X p9 σ H' s':=I.call' (ch:=[]) ho un hok hg (λb z=>absurd z (!2));show hxe _ _ (W3 J hst O ?_ q);let(oe,vs,T,oT,ts,t1,t2,t3,t4,t6,t7,t8,t9,n1,n2,n3,n4,n5):=tr;have U:∀b,s.heap.get? b=none->X.s₀.heap.get? b=none:=λb hb=>by
  cases e:X.s₀.heap.get? b with
  |none=>rfl
  |some o=>
   let(o',Y):=I.base.there b o e (by rw[O];simp);rw[hb]at Y;cases Y
 exact(oe,vs,T,oT,ts,t1,t2,t3,t4,t6,t7,t8,t9,U a n1,U T n2,n3,n4,n5)
def Ey(Y:Cx):gZ (CX1 P w) Y λz z z=>False:=λz z z z z z z h=>by
 let(_,_,_,_,_,_,_,_,_,_,q):=h;exact q.elim
end
abbrev veM:AB:=[.type "ValueError",.type "Exception",.type "BaseException",.type "object"]
def pO:AB->Bool
 |[.type a,.type b,.type c,.type d]=>a=="ValueError"&&b=="Exception"&&c=="BaseException"&&d=="object"
 |_=>false
def Ez{l:AB}(h:pO l):l=veM:=by
 unfold pO at h;split at h
 .simp only[ae,aw]at h;let(((rfl,rfl),rfl),rfl):=h;rfl
 .cases h
def pP:AN->Bool
 |.str _ _=>true
 |_=>false
def nsB(K:PF)(N:AQ):Bool:=match K.lookup N with
 |some (_,_,.dict es _,_)=>es.toList.all (λe=>pP e.key)&&quietNames.all λn=>(nsFind es n).isNone
 |_=>false
def EY{K:PF}{N:AQ}(z:K.In h)(b:nsB K N):∃m,h.Ns N m/\∀n∈quietNames,m n=none:=by
 unfold nsB at b;split at b
 .rename_i c d es ep O e;rw[ae,cr,cr]at b;show(nsFind es,(_,es,ep,z _ _ e,rfl,λx J=>?_,λv=>rfl),λn hn=>by simpa using b.2 n hn);have:=b.1 x (Array.mem_toList_iff.mpr J);unfold pP at this;split at this
  .rename_i y t e;exact(_,_,e)
  .cases this
 .cases b
def Fb(K:PF)(A:AQ):Bool:=match K.lookup A with
 |some (_,_,.cls cd,_)=>nsB K cd.ns
 |_=>false
def lJ(K:PF):AB->Bool
 |[]=>false
 |v::tl=>(match v with |.ref A=>Fb K A&&lJ K tl|_=>pO (v::tl))
def wy{K:PF}(z:K.In h):∀{l:AB},lJ K l=true->OwnTailQ h veM l
 |[],b=>by cases b
 |v::tl,b=>by
  unfold lJ at b;split at b
  .rename_i A;rw[ae]at b;have y:=b.1;unfold Fb at y;split at y
   .rename_i c d cd U e;let(m,J,O):=EY z y;exact .own (z _ _ e) J O (wy z b.2)
   .cases y
  .rw[Ez b];exact .base
def isRef(C:AQ):AN->Bool
 |.ref a=>a==C
 |_=>false
def isNew:Option AN->Bool
 |some (.builtin s)=>s=="ValueError.__new__"
 |_=>false
def pQ:AN->Bool
 |.type s=>s=="type"
 |_=>false
def iV(K:PF)(C:AQ):Bool:=match K.lookup C with
 |some (ty,_,.cls cd,⟨[_,_,_,_,k,_]⟩)=>pQ ty&&isNew k&&nsB K cd.ns&&!cd.hasDel&&(match cd.mro with|v::tl=>isRef C v&&lJ K tl |[]=>false)
 |_=>false
def W5{K:PF}(U:K.In h)(b:iV K C)(hm:mg x=-(.ref C)):OwnClsQ x C veM "ValueError.__new__" mg h:=by
 unfold iV at b;split at b
 .rename_i ty dd cd k0 k1 k2 k3 k k5 e;simp only[ae]at b;let((((z,J),b3),b5),y):=b;let(m,O,hq):=EY U b3;have e1:ty=.type "type":=by
   unfold pQ at z;split at z
   .rw[aw]at z;rw[z]
   .cases z
  have e2:k=-(.builtin "ValueError.__new__"):=by
   unfold isNew at J;split at J
   .rw[aw]at J;rw[J]
   .cases J
  let(nm,bs,mro,ns,q,hd,sn,sub,ab,col,Y):=cd;dsimp only at y O b5;have e4:Y=false:=by simpa using b5
  subst e4;split at y
  .rename_i v tl;rw[ae]at y;have e3:v=.ref C:=by
    have:=y.1;unfold isRef at this;split at this
    .rw[aw]at this;rw[this]
    .cases this
   subst e1 e2 e3;exact(hm,tl,ns,nm,q,bs,hd,sn,sub,ab,col,dd,k0,k1,k2,k3,k5,m,U _ _ e,O,hq,wy U y.2)
  .cases y
 .cases b
def Fd(t:OwnTail h bmB bm){v:AN}(y:bmB.contains v):bm.contains v=true:=by
 induction t with
 |base=>exact y
 |own _ _ _ _ z=>rw[List.contains_cons,z,Bool.or_true]
def Fe(k:∀b o,h.get? b=-o->h'.get? b=-o){N:AQ}{m:AH}(n:h.Ns N m):h'.Ns N m:=by let(o,es,ep,e,r):=n;exact(o,es,ep,k _ _ e,r)
def W6(k:∀b o,h.get? b=-o->h'.get? b=-o)(t:OwnTail h bmB bm):OwnTail h' bmB bm:=by
 induction t with
 |base=>exact .base
 |own e n i _ y=>exact .own (k _ _ e) (Fe k n) i y
section
variable {X:Cx}
abbrev TJ:=St->Hp->(Hp->Prop)->Prop
def PJ(X:Cx)(es:AE)(t:TJ)(n:Nat):Prop:=∀(p9:AC)(s:AI)(Y:St)(H:Hp)(Q:Hp->Prop)(out:Str),Inv X p9 Y H s->out⁻¹+n<=100000->t Y H Q->
 ↥X (joinParts out (evalEach es X.env)) (EP X p9 Y λv H'=>(∃x,v=.str x)/\Q H') X.xe s
theorem W7:PJ X [] (λz H Q=>Q H) 0:=λp9 s Y H Q out I hl q=>by
 show joinParts_nil (.str out,H,I.tok _,(_,rfl),(_,rfl),q) ?_;have:sizeLine≥100000:=by decide
 lia
def ie(x y:Str):(x++y)⁻¹=x⁻¹+y⁻¹:=by change(x.cps++y.cps).size=_;rw[Array.size_append];rfl
theorem W8{k:Nat}{t:TJ}(h:PJ X es t n):PJ X (.Constant (.str y) k p::es) t (y⁻¹+n):=λp9 s Y H Q out I hl q=>by
 have z:sizeLine≥100000:=by decide
 show joinParts_consE (joinParts_cons (Calls.Constant_str ?_));dsimp only;show(by rw[ie];lia,h p9 _ Y H Q _ (I.tok _) (by rw[ie];lia) q)
def digits_le:∀n:Fin 100,(⇑(toString (n.val:Int)))⁻¹<=3:=by ac_rfl
theorem W9{t:TJ}(he:PE X e te)(h:PJ X es t n):PJ X (.FormattedValue e (Neg.neg 1) none p::es) (λY H Q=>te Y H λv H1=>(∃m:Nat,v=.int m/\m<100)/\t Y H1 Q) (3+n):=λp9 s Y H Q out I hl q=>by
 have hz:sizeLine≥100000:=by decide
 show joinParts_consE (joinParts_cons (FormattedValue_plain (thn (he p9 s Y H _ I q) λv s1 J=>?_)));let(x,H1,y,U,(m,rfl,z),O):=J;let(tk,rfl):=U;have hd:(⇑(toString (m:Int)))⁻¹<=3:=digits_le (m,z);show formatField_int_small ?_ ?_
 .have:(m:Int).natAbs=m:=Int.natAbs_natCast m;rw[this];exact Nat.lt_of_le_of_lt (Nat.log2_le_self m) (!0)
 .dsimp only;exact(by rw[ie];lia,h p9 _ Y H1 Q _ ((y.tok _)) (by rw[ie];lia) O)
theorem Xa{t:TJ}(h:PJ X (v1::v2::es) t n)(hn:n<=100000):PE X (.JoinedStr (v1::v2::es) pos) (λY H Q=>t Y H λH1=>∀x,Q (.str x) H1):=λp9 s Y H Q I q=>by
 show JoinedStr_many ?_;show cm (h p9 s Y H _ Str.empty I (by change 0+n<=_;lia) q) (λv s1 O=>?_) λu u z=>z;let(x,H1,J,r1,(y,rfl),U):=O;exact(_,H1,J,r1,U y)
def Throws(X:Cx)(E:XK):Prop:=∀(p9:AC)(Y:St)(H:Hp)(s:AI)(a:AQ)(oe:Obj)(vs:Array AN),Inv X p9 Y H s->s.heap.get? a=-oe->oe.data=.fields vs->vs[1]?=-.none->(∀o,X.s₀.heap.get? a=-o->a∈X.ex)->H a=none->E oe.cls oe.dict H->X.xe (.ref a) s
def Xb(J:X.stack=X.env::X.outer)(z:X.ex=[])(O:∀e s',↥X (leaving X.env e) (λx y=>CX1 X.prog X.w X.outer X.H₀ X.s₀ E e y) (λU y=>CX1 X.prog X.w X.outer X.H₀ X.s₀ E U y) s'->X.xe e s'):Throws X E:=
 λx x x x a x x I e hd h1 n hH q=>O _ _ (leave_new I J z e hd h1 (by
  cases Y:X.s₀.heap.get? a with
  |none=>rfl
  |some o=>have:=n o Y;rw[z]at this;cases this) hH q)
def Throws.made(T:Throws X E){c:AN}{args:AB}(I:Inv X p9 Y H s)(m:s.heap.MadeExcOf h' a c args)(q:E c none H):X.xe (.ref a) {s with heap:=h'}:=by
 let(t,e,_,_):=m.there;show T p9 Y H {s with heap:=h'} a _ _ (I.kept (t':=s.toks) m.keeps) e rfl rfl (λo ho=>?_) (I.hok.gone m.new) q;by_cases z:a∈X.ex
 .exact z
 .let(o',y):=I.base.there a o ho z;rw[m.new]at y;cases y
def Ff{np:Pos}(hc:X.calm)(hg:Gl X x)(hm:X.mg x=-(.ref C))(hb:iV X.K C)(hE:Throws X E)(ha:PA X (e::es) ta)(O:(x==("__debug__":Str))=false:=by decide)(he:starEach (e::es) X.env=(false,eval e X.env)::starEach es X.env:=by rfl)(U:(backTo cpos (starEach es X.env)).any (·.1)=false:=by rfl):
  PS X (.Raise (-(.Call (.Name x np) (e::es) [] cpos)) none pos) (λv Y H=>ta Y H λvs H1=>vs⁻¹<=sizeLine/\E (.ref C) none H1):=by
 intro p9 s Y H D I h;have kb:=I.ok.mod.kin;let(bm,N,nm,q,bs,hd,sn,sub,ab,col,dd,k0,k1,k2,k3,k5,mN,b1,b2,b3,b4):=(W5 kb hb hm:OwnClsQ x C veM "ValueError.__new__" X.mg X.base).own.obj;show wpAny_Raise_call_subT (nm:=nm) (q:=q) (N:=N) (bs:=bs) (hdct:=hd) (sn:=sn) (sub:=sub) (ab:=ab) (col:=col) (dd:=dd) (k0:=k0) (k1:=k1) (k2:=k2) (k3:=k3) (k5:=k5) (F.excBase_ValueError) (Fd b4 (!1)) (I.ok.hd hc) ?_ b3 (gY I hg hm (rfl,?_) O)
 .rw[he];exact U
 .have y:=ha cpos p9 s Y H _ I h;rw[he]at y ⊢;show Calls.evalArgs_plain (cm y (λvs s2 hy=>?_) λv v z=>z);let(ws,H2,J,r2,hl,q2):=hy;show(rfl,by rw[<-r2⁻¹];exact hl,J.bk _ _ b1,Fe J.bk b2,W6 J.bk b4,λh' a m=>hE.made J m q2)
end
section
variable {X:Cx}
abbrev Cx.marked(X:Cx)(a:AQ)(E:AG):Cx:={X with A:=X.A.mark (-(.ref a)),calm:=false,xe:=E}
def Cx.Ok.marked(ok:X.Ok)(a:AQ)(E:AG):(X.marked a E).Ok:=
 (ok.mod,ok.kind,ok.glob,ok.blt,ok.above,ok.inj,ok.has,ok.cab,λh=>(by cases h),ok.frames,ok.stk,ok.exf,ok.bs,ok.bsz,ok.noex,ok.exfs,ok.funs,ok.frf)
variable {p9:AC} {σ:St} {H:Hp} {s:AI}
def Inv.marked(I:Inv X p9 σ H s)(a:AQ)(E:AG):Inv (X.marked a E) p9 σ H s:=(I.ok.marked a E,I.os,I.bare,I.base,I.loc,I.cell,I.free,I.freeC,I.pin,I.hok,I.len)
def Inv.unmarked{E:AG}(I:Inv (X.marked a E) p9 σ H s)(ok:X.Ok):Inv X p9 σ H s:=(ok,I.os,I.bare,I.base,I.loc,I.cell,I.free,I.freeC,I.pin,I.hok,I.len)
def SP.unmarked{E:AG}{D:Ends}{f:Flow}{s':AI}(ok:X.Ok)(h:SP (X.marked a E) p9 D f s'):SP X p9 D f s':=by
 cases f with
 |next=>let(y,H',I,q):=h;exact(y,H',I.unmarked ok,q)
 |brk=>let(y,H',I,q):=h;exact(y,H',I.unmarked ok,q)
 |cont=>let(y,H',I,q):=h;exact(y,H',I.unmarked ok,q)
 |ret u=>let(v,y,H',I,r,q):=h;exact(v,y,H',I.unmarked ok,r,q)
structure Caught(X:Cx)(H:Hp)(s:AI)(H':Hp)(a:AQ)(c:AN)(od:Option AQ)(s':AI):Prop where
 os:s'.os=s.os
 bare:AllBare s'.gens
 un:Un (frs X.stack) [] H H' s.heap s'.heap
 hok:HOk X.prog X.w H' s'.heap
 tr:Tr s.heap H' s'.heap a c od
variable {H':Hp} {a:AQ} {c:AN} {od:Option AQ} {s':AI}
def Caught.inv(K:Caught X H s H' a c od s')(I:Inv X p9 σ H s):Inv X p9 σ H' s':=I.call' (ch:=[]) K.os K.un K.hok K.bare (λb z=>absurd z (!2))
def Caught.left(K:Caught X H s H' a c od s')(I:Inv X p9 σ H s){T:AQ}{l:List Env}(O:s.heap.get? T=none/\H' T=none)(L:(holes s'.heap (frs X.stack++a::[T])).Left l a c s'.heap h')(z:∀o,h'.get? a=-o->o.dict=od):Caught X H s H' a c od {s' with heap:=h'}:=by have J:=K.inv I;let(_,_,_,_,_,_,_,_,_,_,_,_,_,Y,_,n3,_):=K.tr;let(u,k,t):=Eu K.un K.hok (λb y=>y) (λb o v hn=>hn) (λb y=>(J.stkFree b y,wu J.stack b y)) Y n3 (λx U=>by rw[ba.mp U];exact O) L z;exact(K.os,K.bare,u,k,t)
theorem Caught.note(K:Caught X H s H' a c od s')(I:Inv X p9 σ H s)(O:X.stack=X.env::X.outer){E2:AG}(hQ:∀h2,Caught X H s H' a c od {s' with heap:=h2}->Q {s' with heap:=h2}):
  ↥X (noteFrame (.ref a) X.env) (λx U=>↥X (setFlight (.ref a) none) (λx Y=>Q Y) E1 U) E2 s':=by
 have J:=K.inv I;let(oe,vs,T,oT,ts,t1,t2,t3,t4,t6,t7,t8,t9,n1,n2,n3,n4,n5):=K.tr;have y:=J.stack;rw[O]at y;let(L,hL):=ww y;have sub:∀b∈frs (X.env::X.outer),b∈frs X.stack++a::[T]:=λb hb=>by rw[O];exact eK _ hb
 obtain⟨a0,h0⟩:∃a0,vs[0]?=-a0:=by let(hi,_):=gx.mp t4;exact(vs[0],e7 (!0))
 show cm (lG (Er _ _) (wpAny_noteFrame_onW (base:=holes s'.heap (frs X.stack++a::[T])) (cls:=c) (a0:=a0) (Q:=λx U=>∃h1,U={s' with heap:=h1}/\Heap.NotedW (holes s'.heap (frs X.stack++a::[T])) (X.env::X.outer) a c a0 (rawInt L) s'.heap h1) (by rw[J.ok.frames,O]) (lH y sub) hL ?_ pN (g8 (!2)) λh1 hn=>(h1,rfl,hn))) (λx U z=>?_) λx x z=>z
 .exact (oe,vs,T,oT,ts,t1,(t2,h0),t3,t4,g8 (!2),t6,t7,t8,t9)
 .let((h1,rfl,m1,m2,m3,m4),dk1):=z;show cm (lG (v9 _ _) (wpAny_setFlight_noneW (Q:=λx Y=>∃h2,Y={s' with heap:=h2}/\(holes s'.heap (frs X.stack++a::[T])).StaysIn h2/\h2.FunFrames (holes s'.heap (frs X.stack++a::[T])) (X.env::X.outer)/\h2.TracedW (holes s'.heap (frs X.stack++a::[T])) a c a0/\∀b o,h1.get? b=-o->(∀vs,o.data≠.fields vs)->h2.get? b=-o) m1 m2 m3 λh2 p1 p2 p3 p4=>(h2,rfl,p1,p2,p3,p4))) (λx Y z=>?_) λx x z=>z;let((h2,rfl,p1,p2,p3,p4),dk2):=z;show hQ h2 (K.left I (n2,n4) (l:=X.env::X.outer) (p1,p2,?_,λb o e d=>?_) λo eo=>((dk1.trans dk2).at t1 eo).trans n5)
  .let(oe,vs,T,oT,ts,t1,(t2,_),r):=p3;exact(oe,vs,T,oT,ts,t1,t2,r)
  .let(sl,e'):=m4 b o e d;exact(sl,p4 b _ e' d)
theorem Caught.flight(K:Caught X H s H' a c od s')(I:Inv X p9 σ H s)(hQ:∀h2,Caught X H s H' a c od {s' with heap:=h2}->Q {s' with heap:=h2}):
  wpAny (model X.prog X.w) A (setFlight (.ref a) none) (λx y=>Q y) E1 s':=by
 have J:=K.inv I;let(oe,vs,T,U,ts,O,t2,t3,t4,t6,t7,t8,t9,n1,n2,n3,n4,n5):=K.tr;obtain⟨a0,h0⟩:∃a0,vs[0]?=-a0:=by let(hi,_):=gx.mp t4;exact(vs[0],e7 (!0))
 show cm (lG (v9 _ _) (wpAny_setFlight_noneW (base:=holes s'.heap (frs X.stack++a::[T])) (l:=X.stack) (cls:=c) (a0:=a0) (fl:=.none) (Q:=λx y=>∃h2,y={s' with heap:=h2}/\(holes s'.heap (frs X.stack++a::[T])).StaysIn h2/\h2.FunFrames (holes s'.heap (frs X.stack++a::[T])) X.stack/\h2.TracedW (holes s'.heap (frs X.stack++a::[T])) a c a0/\∀b o,s'.heap.get? b=-o->(∀vs,o.data≠.fields vs)->h2.get? b=-o) pN (lH J.stack λb hb=>eK _ hb) ?_ λh2 Y p2 p3 p4=>(h2,rfl,Y,p2,p3,p4))) (λx y z=>?_) λx x z=>z
 .exact (oe,vs,T,U,ts,O,(t2,h0),t3,t4,g8 (!2),t6,t7,t8,t9)
 .let((h2,rfl,Y,p2,p3,p4),dk):=z;show hQ h2 (K.left I (n2,n4) (l:=X.stack) (Y,p2,?_,λb o e d=>(o.slots,p4 b o e d)) λo eo=>(dk.at O eo).trans n5);let(oe,vs,T,U,ts,O,(t2,_),r):=p3;exact(oe,vs,T,U,ts,O,t2,r)
end
open Builtin.ObjectAttr Builtin.Getset_descriptor
open PySem.W (findIn mroIn clsIn typeIn Looks InstAt looks_findIn looks_mroIn looks_typeIn)
def gB(K:PF)(D:AQ):Bool:=
 findIn K (.ref D) "__class__"==-(-(.builtin "object.__class__"))&&findIn K (.ref D) "__getattribute__"==-(-(.builtin "BaseException.__getattribute__"))&&findIn K (.ref D) "__getattr__"==-none &&
  mroIn K D (.type "object")==-true&&mroIn K D (.type "BaseException")==-true&&(clsIn K D).isSome
structure Xin(K:PF)(D:AQ):Prop where
 c:findIn K (.ref D) "__class__"=some (some (.builtin "object.__class__"))
 ga:findIn K (.ref D) "__getattribute__"=some (some (.builtin "BaseException.__getattribute__"))
 g:findIn K (.ref D) "__getattr__"=some none
 o:mroIn K D (.type "object")=some true
 b:mroIn K D (.type "BaseException")=some true
 d:(clsIn K D).isSome=true
def Fg{K:PF}{D:AQ}(h:gB K D):Xin K D:=by unfold gB at h;simp only[ae,aw]at h;let(((((h1,h2),y),z),J),O):=h;exact(h1,h2,y,z,J,O)
section
variable {prog:AK} {w:World} {A:AM} {E:AG} {h:Heap} {g:Array GenState} {d:Drawn} {t:Nat} {os:OsState} {a:AQ} {o:Obj} {K:PF} {D:AQ}
def Fi(y:h.get? a=-o)(hc:o.cls=.ref D):Looks M h (typeOf (.ref a)) (.ref D):=by have:=(Looks.ld (M:=M) (part:=none) y).andThen (f:=λo=>pure o.cls) (b:=.ref D) (by rw[hc];exact .now);exact this
def Xc{R:Result->AI->Prop}{tp:AN}(X:K.In s.heap)(z:s.heap.get? a=-o)(hc:o.cls=.ref D)(y:mroIn K D (.type "object")=-true)(h:R (.ok (.ret (.ref D))) s):codeAny (model prog w) A (.call (.builtin "getset_descriptor.__get__") ([.builtin "object.__class__",.ref a,tp],[])) R s:=by
 let(hh,g,O,t,os):=s;have J:=Fi (M:=model prog w) z hc;have L1:=looks_mroIn (M:=model prog w) X y;show g0 PySem.W.KF.slot_gs.plain PySem.W.KF.entry_gs (PySem.W.KF.slot_gs.check _ _ _ _ _ _ _ _ PySem.W.KF.type_class (PySem.W.KF.args_gs _ _ _) ?_);unfold Builtin.«getset_descriptor.__get__» descrGet;rw[PySem.W.dga_obj];show af (am ?_);unfold descrGetter descrCheckInstance descrNameAndClass isInstance;simp only[PySem.W.KF.owner_class];repeat lk
 show(Code.quiet_builtin _ (by ac_rfl),ip PySem.W.KF.entry_class ?_);unfold Builtin.«object.__class__» shownTypeOf;repeat lk
 exact h
def Xd{Q:Fin->AI->Prop}(X:K.In h)(x:Xin K D)(y:h.get? a=-o)(hc:o.cls=.ref D)(J:Q (.done (.ret (.ref D))) (h,g,d,t,os)):
  wpAny (model prog w) A (Builtin.«object.__getattribute__» ([.ref a,.str "__class__" tk],[])) Q E (h,g,d,t,os):=by
 have z:((h,g,d,t,os):AI).TypeIs (.builtin "object.__class__") "getset_descriptor":=F.typeOf_object_class;have f5:=F.typeOf_object_class;have f6:=F.slot_gs_get.lookup;have f7:=F.slot_gs_set.lookup;have L1:=looks_findIn (M:=model prog w) X x.c;repeat (any_goals (first|assumption | (with_reducible show eJ y ?_;rw[hc])|with_reducible show L1.at ?_|wp_step))
 show Xc (s:=(h,g,d,t,os)) X y hc x.o ?_;repeat (any_goals (first|assumption|wp_step))
def Fj{y:AN}{Q:Unit->AI->Prop}(X:K.In h)(x:Xin K D)(U:h.get? a=-o)(hc:o.cls=.ref D)(O:Q () (h,g,d,t,os)):
  wpAny M A (checkBuiltinCall "BaseException.__getattribute__" ([.ref a,y],[])) Q E (h,g,d,t,os):=by
 have J:builtinKind "BaseException.__getattribute__"=-.slot:=by ac_rfl
 have z:splitId "BaseException.__getattribute__"=-("BaseException","__getattribute__"):=by ac_rfl
 have L1:=looks_mroIn (M:=M) X x.b;have Y:=F.args_bexc_ga (.ref a) y;simp only[checkBuiltinCall,J,z];show af ?_
 .unfold isInstance;repeat (first | (with_reducible show eJ U ?_;rw[hc])|with_reducible show L1.at ?_|wp_step)
  exact O
def Xe{R:Result->AI->Prop}(X:K.In h)(x:Xin K D)(y:h.get? a=-o)(hc:o.cls=.ref D)(z:R (.ok (.ret (.ref D))) (h,g,d,t,os)):
  codeAny (model prog w) A (.call (.builtin "BaseException.__getattribute__") ([.ref a,.str "__class__" tk],[])) R (h,g,d,t,os):=
 g0 (by ac_rfl) F.entry_bexc_ga (Fj X x y hc (Xd X x y hc z))
def Xf{Q:Option AN->AI->Prop}(X:K.In h)(x:Xin K D)(z:h.get? a=-o)(hc:o.cls=.ref D)(O:Q (-(.ref D)) (h,g,d,t+1,os)):
  wpAny (model prog w) A (getAttr? (.ref a) "__class__") Q E (h,g,d,t,os):=by
 have L1:=looks_findIn (M:=model prog w) X x.ga;have L2:=looks_findIn (M:=model prog w) X x.g;have f3:bindSpecial (.builtin "BaseException.__getattribute__") (.ref a)=pure (.builtin "BaseException.__getattribute__",[.ref a]):=(PySem.F.excAttr_ValueError).ga.bind (.ref a);have y:(Value.builtin "BaseException.__getattribute__"==Value.builtin "object.__getattribute__")=false:=by ac_rfl
 have J:(onTheHeap (Value.ref D)&&Value.builtin "BaseException.__getattribute__"==Value.builtin "object.__getattribute__")=false:=by rw[y];rfl
 unfold getAttr? getAttrBy? getAttrBy;repeat (any_goals (first|assumption | (with_reducible show eJ z ?_;rw[hc])|with_reducible show L1.at ?_|with_reducible show L2.at ?_|wp_step))
 show Xe X x z hc ?_;repeat (any_goals (first|assumption|wp_step))
def jE(K:PF)(c:AN):Bool:=match c with
 |.ref C=>(clsIn K C).isSome&&typeIn K (.ref C)==-(.type "type")
 |.type T=>T=="ValueError"
 |_=>false
def ty_ValueError:typeOf (.type "ValueError")=pure (.type "type"):=by rfl'
def Xg{c:AN}(X:K.In h)(e:jE K c):Looks M h (typeOf c) (.type "type")/\Looks M h (isType c) true:=by
 unfold jE at e;split at e
 .rename_i C;rw[ae,aw]at e;let(y,J):=e;show(looks_typeIn X J,?_);unfold clsIn at y;split at y
  .rename_i c' d' z O ho;intro U Q' Y s' k q;unfold isType loadHead;exact af (wpAny_loadPart (k _ _ (X _ _ ho)) (am q))
  .cases y
 .rename_i T;rw[aw]at e;subst e;exact(Looks.of_pure ty_ValueError,Looks.of_pure rfl)
 .cases e
def Xh{c:AN}{b:Bool}{dep:Int}{Q:Fin->AI->Prop}(X:K.In h)(x:Xin K D)(hx:h.get? a=-o)(hc:o.cls=.ref D)(hk:jE K c)(hm:mroIn K D c=-b)(Y:b=false->(Value.ref D==c)=false)(J:∀t',Q (.done (.ret (.bool b))) (h,g,d,t',os)):
  wpAny (model prog w) A (Builtin.«isinstance.nested» ([.ref a,c,.int dep tk],[])) Q E (h,g,d,t,os):=by
 let(hty,U):=Xg (M:=model prog w) X hk;have y:=looks_mroIn (M:=model prog w) X hm;have L0:=Fi (M:=model prog w) hx hc;have LI:Looks (model prog w) h (isInstance (.ref a) c) b:=L0.andThen y;have z:Looks (model prog w) h (isType (.ref D)) true:=by
  have O:=x.d;unfold clsIn at O;split at O
  .rename_i c' d' cd' sl' ho;intro A' Q' E' s' k q;unfold isType loadHead;exact af (wpAny_loadPart (k _ _ (X _ _ ho)) (am q))
  .cases O
 unfold Builtin.«isinstance.nested»;show af (L0.at ?_);by_cases he:(Value.ref D==c)=true
 .rw[if_pos he];cases b with
  |false=>rw[Y rfl]at he;cases he
  |true=>
   repeat (first|show am ?_|show eS ?_|show af ?_)
   exact J t
 .rw[if_neg he];show af (hty.at ?_);rw[if_pos (!1)]
  k_delta "plainIsInstance"
  show af (af (U.at ?_));simp only[kf,fg,ja];show af (LI.at ?_);cases b with
  |true=>
   simp only[if_true];repeat (first|show am ?_|show eS ?_|show af ?_)
   exact J t
  |false=>
   simp only[fg,ja];show af (Xf X x hx hc ?_);show af (z.at ?_);simp only[kf,fg,ja];show af (eS ?_);show y.at ?_;first
    |exact am (J _)
    |exact am (am (J _))
    |exact af (am (am (J _)))
def Xi{c:AN}{b:Bool}{Q:AG}(X:K.In s.heap)(x:Xin K D)(U:s.heap.get? a=-o)(hc:o.cls=.ref D)(z:jE K c)(J:mroIn K D c=-b)(y:b=false->(Value.ref D==c)=false)(O:∀t',Q (.bool b) {s with toks:=t'}):wpAny (model prog w) A (call (.builtin "isinstance") [.ref a,c]) Q E s:=by
 let(hh,g,d,t,os):=s;exact call_isinstance_of (Xh X x U hc z J y λt'=>O t') (by intro e;cases e)
end
open PySem.W (findIn mroIn clsIn typeIn Looks looks_findIn looks_mroIn looks_typeIn)
section
variable {X:Cx}
def XO(H:Hp)(a c:AQ):Prop:=∃o y,H a=-(.frz o (.own y))/\o.cls=.ref c
def valOf:V->AN
 |.ref a=>.ref a
 |.ty n=>.type n
 |_=>.none
def Xj(K:PF):AR->Hp->VK->Prop:=λxs H Q=>∃a c y b,xs=[.ref a,y]/\XO H a c/\gB K c=true/\jE K (valOf y)=true/\mroIn K c (valOf y)=-b/\(b=false->(Value.ref c==valOf y)=false)/\Q (.bl b) H
def Xk:bM X (.builtin "isinstance") (Xj X.K):=by
 intro p9 s Y H xs us Q I r h;let(a,c,O,b,rfl,(o,y,ho,hc),hx,U,hm,z,q):=h;let(u,w',rfl,rx,ry):=vals2 r;cases rx;have e2:w'=valOf O:=by
  cases O with
  |ref a=>exact ry
  |ty n=>exact ry
  |_=>cases U
 subst e2;have J:=(show ObjOk X.prog X.w H s.heap a (.frz o (.own y)) from I.hok a _ ho).1;exact Xi I.kIn (Fg hx) J hc U hm z λt'=>(.bl b,H,I.tok _,rfl,q)
end
section
variable {M:Model} {A:AM} {E:AG} {h:Heap} {g:Array GenState} {d:Drawn} {t:Nat} {os:OsState} {e:AQ} {oe:Obj} {K:PF} {D C:AQ}
def Fl{Q:Bool->AI->Prop}(X:K.In h)(he:h.get? e=-oe)(z:oe.cls=.ref D)(U:typeIn K (.ref C)=-(.type "type"))(J:(clsIn K C).isSome)(hB:mroIn K C (.type "BaseException")=-true)(hm:mroIn K D (.ref C)=-true)(hq:Q true (h,g,d,t,os)):wpAny M A (excMatches (.ref e) (.ref C)) Q E (h,g,d,t,os):=by
 have f:=tc_notTuple;have L0:=looks_typeIn (M:=M) X U;have L1:=looks_mroIn (M:=M) X hB;have L2:=looks_mroIn (M:=M) X hm;unfold clsIn at J;split at J
 .rename_i Y d' cd' sl' ho;have O:=X _ _ ho;unfold excMatches;have y:(K.lookup C).map (·.cls)=-(.type "type"):=U;rw[ho]at y;have ec:Y=.type "type":=by simpa using y
  subst ec;repeat (first | (with_reducible show eJ he ?_;rw[z])|with_reducible show eJ O ?_|with_reducible show L1.at ?_|with_reducible show L2.at ?_|wp_step)
  exact hq
 .cases J
end
section
variable {X:Cx} {p9:AC} {σ:St} {H:Hp} {s:AI}
def Inv.tell(I:Inv X p9 σ H s){o:Obj}(h0:X.s₀.heap.get? a=none)(U:H a=none)(ho:s.heap.get? a=-o)(hd:o.data=.fields vs)(hp:∀p∈X.pn++p9,p.1≠a):
  Inv X p9 σ (upd H a (.frz o (.own a))) s:=by
 have nl:X.env.locals≠a:=by intro e;let(m,(o',es,ep,J,O,_),_):=I.loc;rw[e,ho]at J;cases J;rw[hd]at O;cases O
 have nc:∀x c,X.env.cells.lookup x=-c->c≠a:=by intro x c hc e;let(v,o',J,O):=I.cell x c hc;rw[e,ho]at J;cases J;rw[hd]at O;cases O
 show(I.ok,I.os,I.bare,(I.base.keep,I.base.slot,λb u q n hx=>?_,I.base.there,λb xs q=>?_,λb u v q=>?_,λb ps q=>?_),I.loc,I.cell,by rw[aH nl];exact I.free,λx c e=>by rw[aH (nc x c e)];exact I.freeC x c e,λp Y=>?_,λb u q=>?_,I.len)
 .rw[aH (λe=>by rw[e,h0]at q;cases q)];exact I.base.free b u q n hx
 .have y:=I.base.tups b xs q;rw[aH (bw y U)];exact y
 .have y:=I.base.frzs b u v q;rw[aH (bw y U)];exact y
 .let(m,y):=I.base.tbls b ps q;exact(m,by rw[aH (bw y U)];exact y)
 .let(p1,p2,p3):=I.pin p Y;exact(p1,by rw[aH (hp p Y)];exact p2,p3)
 .by_cases hb:b=a
  .subst hb;rw[cu]at q;cases q;exact(ho,o,ho)
  .rw[aH hb]at q;exact(I.hok b u q).stay (λt t t z=>z) (λc z=>by rw[aH (bw z U)];exact z) λc xs z=>by rw[aH (bw z U)];exact z
end
section
variable {X:Cx}
abbrev TX:=(St->Hp->Prop)->(AN->Option AQ->St->Hp->Prop)->St->Hp->Prop
def XP(X:Cx)(p9:AC)(ex:AN->Option AQ->St->Hp->Prop)(Y:St)(e:AN)(z:AI):Prop:=∃a c od H1 y H',e=.ref a/\Inv X p9 Y H1 y/\Caught X H1 y H' a c od z/\ex c od Y H'
def NP(X:Cx)(p9:AC)(nx:St->Hp->Prop)(f:Flow)(z:AI):Prop:=f=.next/\∃y H',Inv X p9 y H' z/\nx y H'
def PXs(X:Cx)(z:AF)(t:TX):Prop:=
 ∀(p9:AC)(s:AI)(Y:St)(H:Hp)(nx:St->Hp->Prop)(ex:AN->Option AQ->St->Hp->Prop)(y:AG),Inv X p9 Y H s->PassesOwn (model X.prog X.w) X.A X.env y->(∀e J,XP X p9 ex Y e J->y e J)->t nx ex Y H->
  ↥X (execs z X.env) (NP X p9 nx) y s
def Xl{k:Nat}{ps:AD}{p0:Pos}(F:FnOk X.prog X.w X.K X.mg X.base (CX1 X.prog X.w) k f fd ps sp)(hr:Room k X.A)(hg:Gl X x)(hm:X.mg x=-(.ref f))(hk:PySem.W.keepIn X.K (.ref f))(hbd:Binds X.K fd ps [])(hN:X.N.Nodup)(hi:X.N[i]?=-y)(hx:Loc X.env.scope y)(hf:X.fn y=true\/X.env.scope.names.lookup y=-.local)(ha:∀J:AN->AI->Prop,PassesOwn (model X.prog X.w) X.A X.env J->PA (X.wish J) (e::es) ta)(hs:swapsWith (.Call (.Name x p) (e::es) [] cpos) (-(.Name y p2)) p0.line X.env=pure false)(hdb:(x==("__debug__":Str))=false:=by decide)(he:starEach (e::es) X.env=(false,eval e X.env)::starEach es X.env:=by rfl)(hpl:(backTo cpos (starEach es X.env)).any (·.1)=false:=by rfl):
  PXs X [.Assign [.Name y p2] (.Call (.Name x p) (e::es) [] cpos) p0] (λnx ex Y H=>ta Y H λvs H1=>sp vs H1 (λv H2=>nx (Y.set i (-v)) H2) (λc od H2=>ex c od Y H2)):=by
 intro p9 s Y H nx ex J I hpo hE h;show wpAny_execs_cons (wpAny_Assign_Name (jv (gY (X:=X.wish J) (I.wish J) hg hm ?_ hdb)) hs);show PySem.W.callWith_K (h₀:=X.base) I.ok.mod.kin hk (thn (ha _ hpo cpos p9 s Y H _ (I.wish _) h) λus s1 hy=>?_) he hpl;let(vs,H1,z,r,q):=hy;have z:=z.unwish;show(z.kIn,?_);have hl:us⁻¹=ps⁻¹:=by rw[<-r⁻¹];exact F.len _ _ _ _ q
 have O:=hbd s1 us z.kIn (by rw[eM];exact hl);rw[eM]at O;show wpAny_call (kn (F.run X.A X.stack s1 H1 (us,[]) us vs _ _ hr z.env0 O r q) λrr s2 U=>?_);cases rr with
 |error ev=>
  let(a,c,od,H2,rfl,ho,hgn,un,hok,tr,qn):=U;exact hE _ _ (a,c,od,H1,s1,H2,rfl,z,(ho,hgn,un,hok,tr),qn)
 |ok fl=>
  cases fl with
  |ret u=>
   let(v,H2,I2,r2,q2):=z.after U;exact jA I2 hN hi hx r2 (λs3 I3=>js (rfl,_,H2,I3,q2)) hf
  |next=>exact False.elim U
  |brk=>exact False.elim U
  |cont=>exact False.elim U
def Xm{prog:AK}{E:AG}{env:Env}{K:PF}{e D:AQ}{t:AO}{rest:List ExceptHandler}{Q:Flow->AI->Prop}(hC:typeIn K (.ref C)=-(.type "type"))(hk:(clsIn K C).isSome)(hB:mroIn K C (.type "BaseException")=-true)(hm:mroIn K D (.ref C)=-true)(h:wpAny (model prog w) (A.mark (-(.ref e))) (eval t env) (λc z=>c=.ref C/\K.In z.heap/\(∃oe,z.heap.get? e=-oe/\oe.cls=.ref D)/\
   wpAny (model prog w) (A.mark (-(.ref e))) (setFlight (.ref e) none) (λx Y=>wpAny (model prog w) (A.mark (-(.ref e))) (execs (b₀::suite) env) Q (notedBy (model prog w) (A.mark (-(.ref e))) env (cameBackBy (model prog w) A env E)) Y) (notedBy (model prog w) (A.mark (-(.ref e))) env (cameBackBy (model prog w) A env E)) z) (notedBy (model prog w) (A.mark (-(.ref e))) env (cameBackBy (model prog w) A env E)) s):
  wpAny (model prog w) A (handleBy (.ref e) env (.ExceptHandler (-t) none (b₀::suite) pos::rest)) Q E s:=by
 show wpAny_handleBy_cons (codeAny_handlers_test (cm h (λc z U=>?_) λx x y=>y)) (by intro q;cases q);let(rfl,O,(oe,he,J),hkk):=U;let(hh,g,d,tk,os):=z;exact Fl O he J hC hk hB hm (codeAny_handlers_suite hkk)
def Xo{prog:AK}{E:AG}{env:Env}{K:PF}{e D:AQ}{t:AO}{n:Str}{rest:List ExceptHandler}{Q:Flow->AI->Prop}(hC:typeIn K (.ref C)=-(.type "type"))(hk:(clsIn K C).isSome)(hB:mroIn K C (.type "BaseException")=-true)(hm:mroIn K D (.ref C)=-true)(h:wpAny (model prog w) (A.mark (-(.ref e))) (eval t env) (λc z=>c=.ref C/\K.In z.heap/\(∃oe,z.heap.get? e=-oe/\oe.cls=.ref D)/\
   wpAny (model prog w) (A.mark (-(.ref e))) (setFlight (.ref e) none) (λx Y=>
     wpAny (model prog w) (A.mark (-(.ref e))) (storeName env n (.ref e)) (λx s₃=>
      wpAny (model prog w) (A.mark (-(.ref e))) (execs (b₀::suite) env)
       (λf s₄=>wpAny (model prog w) A (do bindName env n .none;unbindBehindTheSuite env n pos) (λx s₅=>Q f s₅) E s₄)
       (AsSuiteRaised (model prog w) (A.mark (-(.ref e))) env n pos (notedBy (model prog w) (A.mark (-(.ref e))) env (cameBackBy (model prog w) A env E))) s₃) (notedBy (model prog w) (A.mark (-(.ref e))) env (cameBackBy (model prog w) A env E)) Y) (notedBy (model prog w) (A.mark (-(.ref e))) env (cameBackBy (model prog w) A env E)) z) (notedBy (model prog w) (A.mark (-(.ref e))) env (cameBackBy (model prog w) A env E)) s):
  wpAny (model prog w) A (handleBy (.ref e) env (.ExceptHandler (-t) (-n) (b₀::suite) pos::rest)) Q E s:=by
 show wpAny_handleBy_cons (codeAny_handlers_test (cm h (λc z U=>?_) λx x y=>y)) (by intro q;cases q);let(rfl,O,(oe,he,J),hkk):=U;let(hh,g,d,tk,os):=z;exact Fl O he J hC hk hB hm (codeAny_handlers_suite_as hkk)
structure Cat(K:PF)(C:AQ):Prop where
 t:typeIn K (.ref C)=some (.type "type")
 c:(clsIn K C).isSome=true
 b:mroIn K C (.type "BaseException")=some true
def pR(K:PF)(C:AQ):Bool:=typeIn K (.ref C)==-(.type "type")&&(clsIn K C).isSome&&mroIn K C (.type "BaseException")==-true
def Fp{K:PF}(h:pR K C):Cat K C:=by unfold pR at h;rw[ae,ae,aw,aw]at h;exact(h.1.1,h.1.2,h.2)
def Xp{cx:Str}{b:Bool}{j:Nat}{t:TX}(hb:PXs X body t)(hst:X.stack=X.env::X.outer)(hcg:Gl X cx)(hcm:X.mg cx=-(.ref C))(J:Cat X.K C)(hN:X.N.Nodup)(hi:X.N[i]?=-y)(hx:Loc X.env.scope y)(hf:X.fn y=true\/X.env.scope.names.lookup y=-.local)(hs2:swapsWith (.Constant (.bool b) j p3) (-(.Name y p2)) p4.line X.env=pure false:=by rfl)(hdc:(cx==("__debug__":Str))=false:=by decide):
  PS X (.Try body [.ExceptHandler (-(.Name cx p1)) none [.Assign [.Name y p2] (.Constant (.bool b) j p3) p4] p5] [] [] pos)
   (λD Y H=>t D.nx (λc x O H2=>∃d,c=.ref d/\mroIn X.K d (.ref C)=-true/\D.nx (O.set i (-(.bl b))) H2) Y H):=by
 intro p9 s Y H D I h;show wpAny_Try_except (cm (hb p9 s Y H _ _ _ I PassesOwn.looking (λe s1 q=>?_) h) (λf s1 q=>?_) λx x q=>q)
 .let(a,c,od,H1,s0,H2,rfl,U,K,d,rfl,hm,qn):=q;show K.note U hst λh3 K3=>Xm (K:=X.K) (C:=C) (D:=d) J.t J.c J.b hm ?_;have J3:=K3.inv U;have hcl:∃oe,h3.get? a=-oe/\oe.cls=.ref d:=by
   let(oe,_,_,_,_,t1,t2,_):=K3.tr;exact(oe,t1,t2)
  show gY (X:=X.marked a X.xe) (J3.marked a X.xe) hcg hcm (rfl,J3.kIn,hcl,?_) hdc;show K3.flight U λh4 K4=>?_;have J4:=K4.inv U;exact cm (vL (pG (X:=X.marked a _) hN hi hx Cw hs2 hf) p9 _ Y H2 D (J4.marked a _) qn) (λf s5 z=>z.unmarked J4.ok) λx x z=>z
 .let(rfl,O,H',I',q'):=q;exact js (O,H',I',q')
def Xq{E:AG}{Q:Unit->AI->Prop}(I:Inv X p9 Y H s)(hN:X.N.Nodup)(hi:X.N[i]?=-x)(hk:X.env.kindOf x=-.local)(h:∀s',Inv X p9 (Y.set i none) H s'->Q () s'):wpAny M A (do bindName X.env x .none;unbindBehindTheSuite X.env x pos) Q E s:=by
 let(m,hn,hl):=id I.loc;have hcls:(X.env.scope.kind==.class||(X.env.scope.kind==.module&&X.env.locals != X.env.globals))=false:=by rw[I.ok.kind];rfl
 have hiσ:i<Y⁻¹:=by rw[I.len];exact(al.mp hi).1
 have cne:=I.cne;have O:∀{a:AQ}{h':Heap},(∃o,s.heap.get? a=-o/\H a=none)->Heap.SameBut a s.heap h'->HOk X.prog X.w H h':=λ{a h'} ha hs b ob e=>by
  let(_,_,J):=ha;show(I.hok b ob e).stay (λc w' hc q=>(hs.2 c ?_).trans q) (λu q=>q) λu u q=>q;rintro rfl;rcases hc with rfl|hc
  .rw[J]at e;cases e
  .rw[J]at hc;cases hc
 show wpAny_nameGoes_keeps hk hn hcls λh' v hn' hs=>?_;let(oL,_,_,hoL,_):=id hn;show h _ (I.ok,I.os,I.bare,(λb o e n hb hx=>?_,λb o e n hb hx=>?_,I.base.free,λb o e hx=>?_,I.base.tups,I.base.frzs,I.base.tbls),(_,hn',λj y v' U e2 e3=>?_),λy c e=>?_,I.free,I.freeC,λp hp=>?_,O (oL,hoL,I.free) hs,!!I.len)
 .exact (hs.2 b (ci (bS (aE e) I.ok.above))).trans (I.base.keep b o e n hb hx)
 .let(sl,U):=I.base.slot b o e n hb hx;exact(sl,(hs.2 b (ci (bS (aE e) I.ok.above))).trans U)
 .let(o',U):=I.base.there b o e hx;exact(o',(hs.2 b (ci (bS (aE e) I.ok.above))).trans U)
 .by_cases hj:j=i
  .subst hj;rw[eh hiσ]at e2;cases e2
  .rw[ft (Ne.symm hj)]at e2;let(u',r',q):=hl j y v' U e2 e3;show(u',r',?_);rcases q with⟨k,e⟩|⟨k,c,e,z⟩
   .show .inl (k,?_);have:y≠x:=λe=>hj (vJ hN U (e ▸ hi));simp[this,e]
   .exact .inr (k,c,e,z.sameBut hs (cne y c e))
 .let(w',z):=I.cell y c e;exact(w',z.sameBut hs (cne y c e))
 .let(e,n,ne,nf,d):=I.pin p hp;exact((hs.2 p.1 ne).trans e,n,ne,nf,d)
def Xr{cx n:Str}{jn:Nat}{t:TX}(hb:PXs X body t)(hst:X.stack=X.env::X.outer)(hex:X.ex=[])(hcg:Gl X cx)(hcm:X.mg cx=-(.ref C))(U:Cat X.K C)(hN:X.N.Nodup)(hi:X.N[i]?=-y)(hx:Loc X.env.scope y)(hf:X.fn y=true\/X.env.scope.names.lookup y=-.local)(hj:X.N[jn]?=-n)(hnk:X.env.kindOf n=-.local)(hnl:X.env.scope.names.lookup n=-.local)(hnd:(n==("__debug__":Str))=false)(hnc:(n==("__classdict__":Str))=false)(hs2:swapsWith (.Name n p3) (-(.Name y p2)) p4.line X.env=pure false)(hdc:(cx==("__debug__":Str))=false:=by decide):
  PS X (.Try body [.ExceptHandler (-(.Name cx p1)) (-n) [.Assign [.Name y p2] (.Name n p3) p4] p5] [] [] pos)
   (λD Y H=>t D.nx (λc od J H2=>∃d,c=.ref d/\mroIn X.K d (.ref C)=-true/\∀a o,H2 a=none->o.cls=.ref d->o.dict=od->PySem.W.notCls o=true->D.nx (((J.set jn (-(.ref a))).set i (-(.ref a))).set jn none) (upd H2 a (.frz o (.own a)))) Y H):=by
 intro p9 s Y H D I h;show wpAny_Try_except (cm (hb p9 s Y H _ _ _ I PassesOwn.looking (λe s1 q=>?_) h) (λf s1 q=>?_) λx x q=>q)
 .let(a,c,od,H1,s0,H2,rfl,O,K,d,rfl,hm,qn):=q;show K.note O hst λh3 K3=>Xo (K:=X.K) (C:=C) (D:=d) U.t U.c U.b hm ?_;have J3:=K3.inv O;have hcl:∃oe,h3.get? a=-oe/\oe.cls=.ref d:=by
   let(oe,_,_,_,_,t1,t2,_):=K3.tr;exact(oe,t1,t2)
  show gY (X:=X.marked a X.xe) (J3.marked a X.xe) hcg hcm (rfl,J3.kIn,hcl,?_) hdc;show K3.flight O λh4 K4=>?_;have J4:=K4.inv O;let(oe,vs,T,oT,ts,t1,t2,t3,t4,t6,t7,t8,t9,n1,n2,n3,n4,n5):=K4.tr;have n0:X.s₀.heap.get? a=none:=by
   cases e:X.s₀.heap.get? a with
   |none=>rfl
   |some o=>
    let(o',e'):=O.base.there a o e (by rw[hex];simp);rw[n1]at e';cases e'
  have J5:=J4.tell n0 n3 t1 t3 (λp hp e=>by
   let(e1,_):=O.pin p hp;rw[e,n1]at e1;cases e1)
  have q5:=qn a oe n3 t2 n5 (by unfold PySem.W.notCls;rw[t3]);show jA (X:=X.marked a X.xe) (J5.marked a X.xe) hN hj (.inl hnl) (v:=.ref a) rfl (λs6 J6=>?_) (.inr hnl);have J6':Inv X p9 (Y.set jn (-(.ref a))) (upd H2 a (.frz oe (.own a))) s6:=J6.unmarked J4.ok;have hl6:jn<Y⁻¹:=by rw[O.len];exact(al.mp hj).1
  show cm (vL (pG (X:=X.marked a _) hN hi hx (vK (i:=jn) hj (.inl hnl) hnd hnc) hs2 hf) p9 s6 _ _ {nx:=λJ H'=>D.nx (J.set jn none) H',rt:=λx x=>False,bk:=λx x=>False,ct:=λx x=>False} (J6'.marked a _) (.ref a,eh hl6,q5)) (λf s7 z=>?_) λx x z=>z;have z':=z.unmarked (X:=X) J4.ok;cases f with
  |next=>
   let(σ7,H7,I7,q7):=z';exact Xq I7 hN hj hnk λs8 I8=>(_,H7,I8,q7)
  |brk=>let(_,_,_,q):=z';exact q.elim
  |cont=>let(_,_,_,q):=z';exact q.elim
  |ret u=>let(_,_,_,_,_,q):=z';exact q.elim
 .let(rfl,J,H',I',q'):=q;exact js (J,H',I',q')
end
open PySem.SeqAt
section
variable {X:Cx}
def wz:∀{bs:List Bool}{us:AB},Vals (bs.map V.bl) us->us=bs.map Value.bool
 |[],us,r=>by cases r;rfl
 |b::bs,us,r=>by
  cases r with
  |cons y z=>
   have e:_=Value.bool b:=y;rw[e,wz z];rfl
def Fq(k:Bool){bs:List Bool}:∀y,y∈(bs.map Value.bool)->∀(A:AM)(s:AI),EqAt A s y (.bool k) (isBoolOf k y):=by intro y z A s;let(b,_,rfl):=bX.mp z;exact EqAt.bool_bool b k
def Xu(k:Bool)(bs:List Bool):(bs.map Value.bool).countP (isBoolOf k)=bs.count k:=by
 induction bs with
 |nil=>rfl
 |cons b bs y=>
  rw[db,List.countP_cons,y,List.count_cons];rfl
def Xv(K:PF):V->AR->Hp->VK->Prop:=λx vs H Q=>∃(p:AQ)(bs:List Bool),x=.ref p/\vs=[.bl true]/\SqL K H p (bs.map V.bl)/\Q (.int (bs.count true:Nat)) H
def Xw:MtR X "list.count" (Xv X.K):=by intro p9 s Y H x xs v us Q I rx rs h;let(p,bs,rfl,rfl,J,q):=h;cases rx;let(u,rfl,ru):=vals1 rs;cases ru;let(U,rv,(o,n,ho,hc,hd,z),hz):=I.list J;let(cls,dd,data,sl):=o;simp only at hc hd z;subst hc hd z;have e:=wz rv;subst e;show call_meets PySem.F.slot_list_count (_,ho,rfl) PySem.F.entry_list_count (PySem.F.args_list_count_2 _ _) (list_countAt p _ n _ sl (.bool true) (isBoolOf true)) (ho,λy O=>Fq true y (!!O) _ _,?_);show(.int _,H,I.tok _,(_,rfl),?_);rw[show((bs.map Value.bool).toArray).toList=bs.map Value.bool from rfl,Xu];exact q
def Xx(K:PF):V->AR->Hp->VK->Prop:=λx vs H Q=>∃(p:AQ)(bs:List Bool),x=.ref p/\vs=[.bl true]/\SqL K H p (bs.map V.bl)/\true∈bs/\Q (.int (bs.idxOf true:Nat)) H
def Ft(bs:List Bool)(j:Nat)(h:j<(bs.map Value.bool)⁻¹)(h':j<bs⁻¹):isBoolOf true (bs.map Value.bool)[j]=(bs[j]==true):=by rw[List.getElem_map];rfl
theorem Xy:MtR X "list.index" (Xx X.K):=by
 intro p9 s Y H x xs v us Q I rx rs h;let(p,bs,rfl,rfl,hq,U,q):=h;cases rx;let(u,rfl,ru):=vals1 rs;cases ru;let(its,rv,(o,n,ho,hc,hd,J),hz):=I.list hq;let(cls,dd,data,sl):=o;simp only at hc hd J;subst hc hd J;have e:=wz rv;subst e;have O:bs.idxOf true<bs⁻¹:=List.idxOf_lt_length_iff.mpr U;have hz':bs⁻¹<=sizeLine:=by rw[ah]at hz;exact hz
 have hs:sizeLine<2 ^ 63-1:=by decide
 show call_meets PySem.F.slot_list_index (_,ho,rfl) PySem.F.entry_list_index (PySem.F.args_list_index_2 _ _) (list_indexAt p _ n _ sl (.bool true) (isBoolOf true) (bs.idxOf true) (!!O) (!0) ?_ ?_) (ho,λy hy=>Fq true y (!!hy) _ _,?_)
 .have z:bs.idxOf true<(bs.map Value.bool)⁻¹:=by rw[ah];exact O
  change isBoolOf true ((bs.map Value.bool)[bs.idxOf true]'z)=true;rw[Ft bs _ z O];simpa using List.getElem_idxOf O
 .intro j hjs hlt;have h2:j<bs⁻¹:=by lia
  have z:j<(bs.map Value.bool)⁻¹:=by rw[ah];exact h2
  change isBoolOf true ((bs.map Value.bool)[j]'z)=false;rw[Ft bs j z h2];have h4:j<bs.findIdx (·==true):=hlt;simpa using List.not_of_lt_findIdx h4
 .exact (.int _,H,I.tok _,(_,rfl),q)
end
section
variable {X:Cx}
theorem Xz:OpR X (binaryOp .FloorDiv) (rI (λz j=>0<j/\j<1152921504606846976) λi j=>.int (i/j)):=opI λi j z z z z z hc q=>by
 have h1:(0:Int)<j:=hc.1;have h2:j<1152921504606846976:=hc.2;show floordiv_int (!0) (by rw[Int.fdiv_eq_ediv_of_nonneg i (!0)];exact q) (.inl (PyProof.noPylong_of_log2 ?_));have:j.natAbs.log2<60:=(Nat.log2_lt (!0)).mpr (by change j.natAbs<1152921504606846976;lia);lia
def ig(m:Nat):Str:=⇑(toString (m:Int))
theorem Fv{m:Nat}(h:m<100):(m:Int).natAbs.log2<1920:=by have:(m:Int).natAbs=m:=Int.natAbs_natCast m;rw[this];exact Nat.lt_of_le_of_lt (Nat.log2_le_self m) (!0)
def XC:bM X (.type "str") (λxs H Q=>∃m:Nat,xs=[.int m]/\m<100/\Q (.str (ig m)) H):=by intro p9 s Y H xs us Q I r h;let(m,rfl,y,q):=h;let(u,rfl,z):=vals1 r;let(t,rfl):=z;exact PySem.P.str_of_int (Fv y) (.str _,H,I.tok _,(_,rfl),q)
abbrev TJ2:=St->Hp->(Str->Hp->Prop)->Prop
def PJ2(X:Cx)(es:AE)(t:TJ2)(n:Nat):Prop:=∀(p9:AC)(s:AI)(Y:St)(H:Hp)(Q:Str->Hp->Prop)(out:Str),Inv X p9 Y H s->out⁻¹+n<=100000->t Y H Q->
 ↥X (joinParts out (evalEach es X.env)) (EP X p9 Y λv H'=>∃x,v=.str (out++x)/\Q x H') X.xe s
def Fw(x y z:Str):(x++y)++z=x++(y++z):=by change(⟨(x.cps++y.cps)++z.cps⟩:Str)=⟨x.cps++(y.cps++z.cps)⟩;rw[Array.append_assoc]
def XD(x:Str):x++Str.empty=x:=by change(⟨x.cps ++ #[]⟩:Str)=x;rw[Array.append_empty]
def XF(x:Str):Str.empty++x=x:=by change(⟨#[]++x.cps⟩:Str)=x;rw[Array.empty_append]
theorem XH:PJ2 X [] (λz H Q=>Q Str.empty H) 0:=λp9 s Y H Q out I hl q=>by
 show joinParts_nil (.str out,H,I.tok _,(_,rfl),(Str.empty,by rw[XD],q)) ?_;have:sizeLine≥100000:=by decide
 lia
theorem XJ{t:TJ2}(he:PE X e te)(h:PJ2 X es t n):PJ2 X (.FormattedValue e (Neg.neg 1) none p::es) (λY H Q=>te Y H λv H1=>(∃m:Nat,v=.int m/\m<100/\t Y H1 λx H2=>Q (ig m++x) H2)\/(∃y,v=.str y/\y⁻¹<=1000/\t Y H1 λx H2=>Q (y++x) H2)) (1000+n):=λp9 s Y H Q out I hl q=>by
 have hz:sizeLine≥100000:=by decide
 show joinParts_consE (joinParts_cons (FormattedValue_plain (thn (he p9 s Y H _ I q) λv s1 O=>?_)));let(x,H1,I1,r1,hc):=O;have fin:∀(y:Str)(tk:Nat),y⁻¹<=1000->(t Y H1 λx H2=>Q (y++x) H2)->(out++y)⁻¹<=sizeLine/\↥X (joinParts (out++y) (evalEach es X.env)) (EP X p9 Y λv H'=>∃x,v=.str (out++x)/\Q x H') X.xe {s1 with toks:=tk}:=by intro y tk O J;show(by rw[ie];lia,cm (h p9 _ Y H1 _ _ (I1.tok _) (by rw[ie];lia) J) (λv s2 U=>?_) λu u z=>z);let(v',H2,I2,r2,(x2,rfl,q2)):=U;exact(_,H2,I2,r2,(y++x2,by rw[Fw],q2))
 rcases hc with⟨m,rfl,hm,J⟩|⟨y,rfl,O,J⟩
 .let(tk,rfl):=r1;have hd:(ig m)⁻¹<=3:=digits_le (m,hm);exact formatField_int_small (Fv hm) (fin (ig m) _ (!0) J)
 .let(tk,rfl):=r1;exact formatField_str (λt' tk'=>fin y tk' O J) (!0)
theorem XM{t:TJ2}(he:PE X e te)(h:PJ2 X es t n):PJ2 X (e::es) (λY H Q=>te Y H λv H1=>∃y,v=.str y/\y⁻¹<=1000/\t Y H1 λx H2=>Q (y++x) H2) (1000+n):=λp9 s Y H Q out I hl q=>by
 have hz:sizeLine≥100000:=by decide
 show joinParts_consE (joinParts_cons (thn (he p9 s Y H _ I q) λv s1 O=>?_));let(x,H1,U,r1,y,rfl,O,q1):=O;let(tk,rfl):=r1;dsimp only;show(by rw[ie];lia,cm (h p9 _ Y H1 _ _ U (by rw[ie];lia) q1) (λv s2 J=>?_) λu u z=>z);let(v',H2,I2,r2,(x2,rfl,q2)):=J;exact(_,H2,I2,r2,(y++x2,by rw[Fw],q2))
theorem XN{t:TJ2}(h:PJ2 X (v1::v2::es) t n)(hn:n<=100000):PE X (.JoinedStr (v1::v2::es) pos) (λY H Q=>t Y H λx H1=>Q (.str x) H1):=λp9 s Y H Q I q=>by
 show JoinedStr_many ?_;show cm (h p9 s Y H _ Str.empty I (by change 0+n<=_;lia) q) (λv s1 U=>?_) λu u z=>z;let(x,H1,O,J,(y,rfl,q1)):=U;rw[XF]at J;exact(_,H1,O,J,q1)
end
end L2
namespace HT
open PySem PySem.Spec PyProof.Rows Builtin
end HT
namespace L2
open PySem PySem.Spec PyProof.Rows
section
variable {X:Cx}
def akD(K:PF):R2:=λx y H Q=>∃(l:AQ)(k:Int)(xs:AR),x=.ref l/\y=.int k/\SqT K H l xs/\xs≠[]/\2<=k/\k<=1000/\xs⁻¹*k.toNat<=sizeLine/\∀p,H p=none->Q (.ref p) (upd H p (.tup (List.replicate k.toNat xs).flatten))
end
end L2
namespace HT
open PySem PySem.Spec PyProof.Rows Builtin
end HT
namespace L2
open PySem PySem.Spec PyProof.Rows
section
variable {X:Cx}
def akE(K:PF):R2:=λx y H Q=>∃(l:AQ)(k:Int)(xs:AR),x=.ref l/\y=.int k/\SqL K H l xs/\0<=k/\k<=1000/\xs⁻¹*k.toNat<=sizeLine/\∀p,H p=none->Q (.ref p) (upd H p (.lst (List.replicate k.toNat xs).flatten))
end
end L2
namespace PySem
end PySem
namespace L2
open PySem PySem.Spec PyProof.Rows
end L2
namespace PyProof.Rows
open PySem
def XQ{prog:AK}{w:World}{A:AM}{E:AG}{s:AI}{it:AQ}{T:AL}{o:Obj}{y:AB}{n:Nat}{ns:List Int}{Q:AG}(hT:T="list"\/T="tuple")(ho:s.heap.get? it=-o)(hc:o.cls=.type T)(hd:o.data=.seq y.toArray n)(hI:IntsAre y ns)(U:y⁻¹<64)(h:∀(h1 h':Heap) (e:Nat) (out:Array AN) (z:List Int),IntsAre out.toList z->z.Perm ns->z.Pairwise (·<=·)->(∀b o',s.heap.get? b=-o'->h1.get? b=-o')->(∀b o',h1.get? b=-o'->h'.get? b=-o')->h'.get? h1.objs.size=-(seqObj "list" out e)->Q (.ref h1.objs.size) {s with heap:=h'}):
  wpAny (model prog w) A (call (.builtin "sorted") [.ref it]) Q E s:=by
 show Calls.call_function_entry kind_sorted plain_sorted entry_sorted (args_sorted1 _) ?_;unfold Builtin.«sorted»;show wpAny_bind (m:=checkCount "sorted" 1 1 _) (wpAny_pure ?_);show wpAny_bind (wpAny_collect_seq it hT ho hc hd (λh1 k1=>?_) (by rw[List.size_toArray,sizeLine_eq];lia));show wpAny_bind (wpAny_newList ?_);have e1:y.toArray.toList=y:=by simp
 rw[e1];have O:(h1.push (seqObj "list" y.toArray 0)).get? h1.objs.size=-(seqObj "list" y.toArray 0):=Heap.get?_push_size _ rfl;change wpAny _ _ _ _ _ {s with heap:=h1.push (seqObj "list" y.toArray 0)};show wpAny_bind (wpAny_holding (wpAny_call_entry slot_list_sort (_,O,rfl) entry_list_sort (list_sort_tree O hI U λout z Y a2 a3=>(_,rfl,?_)) (args_list_sort _)));let(e,he):=sortedHeap_at (vs:=y) (out:=out) O;show wpAny_pure (_,rfl,h h1 _ e out z Y a2 a3 k1 (λb o' J=>?_) he);rw[sortedHeap_old (Nat.ne_of_lt (Heap.lt_size J)) (by rw[size_push'];exact Nat.lt_succ_of_lt (Heap.lt_size J))];exact Heap.get?_push_of_some _ J
end PyProof.Rows
namespace L2
open PySem PySem.Spec PyProof.Rows
variable {X:Cx}{elt tg:AO}{scope:Scope}{em:AN->Env->Sem Fin->Sem Fin}{ifs:AE}{lim:Bool}{wi:TI}{a:AQ}{te:TE}
def akF:bM X (.builtin "sorted") (λxs H Q=>∃(p:AQ) (ns:List Int),xs=[.ref p]/\SqT X.K H p (ns.map V.int)/\ns⁻¹<64/\∀y:List Int,y.Perm ns->y.Pairwise (·<=·)->∀l,H l=none->Q (.ref l) (upd H l (.lst (y.map V.int)))):=by
 intro p9 s Y H xs us Q I r h;let(p,ns,rfl,hq,h64,q):=h;let(u,rfl,ru):=vals1 r;cases ru;let(z,rv,(o,ho,hc,n,hd),hz):=I.tuple hq;have U:z⁻¹=ns⁻¹:=by rw[<-rv⁻¹];simp
 show XQ (.inr rfl) ho hc hd (intsAre_of rv) (!0) λh1 h' e out y a1 O a3 k1 k2 he=>?_;have J:Inv X p9 Y H {s with heap:=h1}:=I.kept (t':=s.toks) k1;have hsz:(y.map V.int)⁻¹<=sizeLine:=by rw[ah,O.length_eq,eT];lia
 exact(.ref h1.objs.size,_,J.laid (t':=s.toks) k2 (ay _) (show ObjOk X.prog X.w _ _ _ (.lst (y.map V.int)) from(hsz,out.toList,e,vR a1,by rw[Array.toArray_toList];exact he)),rfl,q y O a3 _ (J.hok.fresh (ay _)))
section
variable {prog:AK} {w:World} {A:AM} {R:Result->AI->Prop} {s:AI}
def jF(e:AO)(d:Nat)(y iter:AO)(J:AN->Env->Sem Fin->Sem Fin):Prop:=
 ∀it z env,compTurn e d it z env=(standAt iter.pos >>= λx=>pyNext it >>= λr=>match r with
   |none=>pure (.done .next)
   |some v=>letOwnedTupleGo y it v >>= λx=>assign y env v >>= λx=>J z env (again (.compLoop e d it z env)))
def emE(z:AO)(y:AN)(env:Env)(k:Sem Fin):Sem Fin:=(eval z env >>= λx=>call (.builtin "list.append") [y,x] >>= λv=>pure ()) >>= λv=>k
def emG(e:AO)(d:Nat)(iter:AO)(y:AN)(env:Env)(k:Sem Fin):Sem Fin:=
 eval iter env >>= λx=>standAt iter.pos >>= λz=>foldedSetIterable iter env x >>= λx=>holding [x] (pyIter x) >>= λit=>runOwn (.compStart e d it y env) env >>= λz=>k
def akG(y O z Y J t3 U:AO)(scope:Scope)(pos:Pos):jF (.ListComp y [(O,z,[],0),(Y,J,[],0),(t3,U,[],0)] scope pos) 0 O z (emG (.ListComp y [(O,z,[],0),(Y,J,[],0),(t3,U,[],0)] scope pos) 1 J):=λx x x=>rfl
def XS{gens:List Comprehension}{pos:Pos}{d:Nat}{y iter:AO}{it acc:AN}{env:Env}(hT:jF (.ListComp elt gens scope pos) d y iter em)(I:Nat->AI->Prop)(turn:∀n s,I n s->wpAny (model prog w) A (pyNext it) (λr z=>match r with
   |none=>R (.ok .next) z
   |some v=>wpAny (model prog w) A (letOwnedTupleGo y it v) (λu J=>wpAny (model prog w) A (assign y env v) (λu U=>
     ∀(k:Sem Fin)(Q:Fin->AI->Prop)(E:AG),(∀Y,(∃m,m<n/\I m Y)->wpAny (model prog w) A k Q E Y)->wpAny (model prog w) A (em acc env k) Q E U) (λu u=>False) J) (λu u=>False) z) (λu u=>False) s)(n:Nat)(h:I n s):codeAny (model prog w) A (.compLoop (.ListComp elt gens scope pos) d it acc env) R s:=by
 show codeAny_loop rfl I (λn s hI=>?_) n h;change wpAny _ A ((compTurn (.ListComp elt gens scope pos) d it acc env).onRaise (λx=>do noteFrame x env;theTreesLotGoes x)) _ _ s;show wpAny_noted ?_;rw[hT];show af (ko (af (cm (turn n s hI) (λr z O=>?_) λu u h'=>False.elim h')));cases r with
 |none=>exact am O
 |some v=>
  show af (cm O (λu J h₁'=>?_) λu u h'=>False.elim h');exact af (cm h₁' (λu U h₂=>h₂ _ _ _ λs₃ h₃=>am (rfl,h₃)) λu u h'=>False.elim h')
end
abbrev TM:=AR->St->Hp->(AR->St->Hp->Prop)->Prop
def lob(y:AB)(n:Nat):Obj:={cls:=.type "list",data:=.seq y.toArray n}
structure AccOk(X:Cx)(a:AQ):Prop where
 new:a∈X.ex\/X.s₀.heap.objs.size<=a
 cel:∀x c,X.env.cells.lookup x=some c->c≠a
 pin:∀p∈X.pn,p.1≠a
def PM(X:Cx)(lim:Bool)(a:AQ)(O:Sem Fin->Sem Fin)(t:TM):Prop:=
 ∀(p9:AC)(y:AB)(n:Nat)(ys:AR)(Y:St)(H:Hp)(s:AI)(K:AR->St->Hp->Prop),Inv X ((a,lob y n)::p9) Y H s->(∀p∈p9,p.1≠a)->Vals ys y->(lim=true->ys⁻¹<sizeLine)->t ys Y H K->
  ∀(k:Sem Fin)(Q:Fin->AI->Prop)(E:AG),(∀s' its' U z J H',Inv X ((a,lob its' U)::p9) J H' s'->Vals z its'->K z J H'->↥X k Q E s')->↥X (O k) Q E s
def tmE(te:TE):TM:=λys Y H K=>ys⁻¹<sizeLine/\te Y H λy H'=>K (ys++[y]) Y H'
def XX(hx:X.xe=λx x=>False)(ha:AccOk X a)(he:PE X elt te):PM X false a (emE elt (.ref a) X.env) (tmE te):=by
 intro p9 O n ys Y H s K I hp rv _ h kk Q E hk;let(hz,h):=h;have h0:=he _ s Y H _ I h;rw[hx]at h0;show af (af (cm h0 (λv s8 h8=>?_) λx x z=>False.elim z));let(y,H8,I8,r8,k8):=h8;let(pD,nD,lD,fD,cD):=I8.pin (a,lob O n) (b9 _ aT);have hl:=rv⁻¹;show af (append_at (hsz:=by rw[a8];lia) pD λh9 hs9 hD9=>am ?_);have I8a:Inv X p9 Y H8 s8:=I8.pins_of λp hp=>I8.pin p (b9 _ (bP _ hp));have I9:Inv X p9 Y H8 {s8 with heap:=h9}:=I8a.turned (t':=s8.toks) (it:=a) (λb o hb e=>hs9.extBut b o hb e) nD lD ha.new ha.cel (λp J=>by
  rcases bp.mp J with z|z
  .exact ha.pin p z
  .exact hp p z)
 have U:h9.get? a=-(lob (O++[v]) (n+1)):=by rw[hD9,List.push_toArray];rfl
 show hk _ (O++[v]) (n+1) (ys++[y]) Y H8 (I9.pins_of λp J=>?_) (rv.append (.cons r8 .nil)) k8;rcases bb.mp J with e|z
 .subst e;exact(U,nD,lD,fD,λv z=>by have z':Data.seq _ _=Data.cell v:=z;cases z')
 .exact I9.pin p (b9 _ z)
def emT(J:AE)(z:AO)(y:AN)(env:Env)(k:Sem Fin):Sem Fin:=
 (forIn J true λc r=>if r=true then do let ok <-isTrue c env (eval c env);pure (ForInStep.yield ok) else pure (ForInStep.yield r)) >>= λok=>if ok=true then emE z y env k else k
def Fx(y tg iter:AO)(z:AE)(scope:Scope)(pos:Pos):jF (.ListComp y [(tg,iter,z,0)] scope pos) 0 tg iter (emT z y):=λx x x=>rfl
def tmT(O:TT)(te:TE):TM:=λys Y H K=>O Y H λb z=>if b=true then te Y z λy J=>K (ys++[y]) Y J else K ys Y z
def X3{tt:TT}(hx:X.xe=λx x=>False)(ha:AccOk X a)(ht:PIf X ifs tt)(he:PE X elt te):PM X true a (emT ifs elt (.ref a) X.env) (tmT tt te):=by
 intro p9 y n ys Y H s K I hp rv hl h kk Q E U;have h0:=ht _ s Y H _ I h;rw[hx]at h0;show af (cm h0 (λb s4 h4=>?_) λx x z=>False.elim z);let(J,O,q4):=h4;cases b with
 |false=>exact U s4 y n ys Y J O rv q4
 |true=>exact XX hx ha he p9 y n ys Y J s4 K O hp rv (λz=>nomatch z) (hl rfl,q4) kk Q E U
def Fy(lim:Bool)(X:Cx)(N':AD)(scope:Scope)(tg:AO)(em:AN->Env->Sem Fin->Sem Fin)(J:It)(σ0:St)(H1:Hp)(Q:VK):Prop:=
 ∃W:Nat->Nat->AR->St->Hp->Prop,(∃m,W 0 m [] σ0 H1)/\∀i m ys O H',W i m ys O H'->
  (J.stop i H'/\ys⁻¹<=sizeLine/\∀D,H' D=none->Q (.ref D) (upd H' D (.lst ys)))\/
  (J.go i H'/\(lim=true->ys⁻¹<sizeLine)/\∀U C z y fp pn,∃g tm,PG (X.comp N' scope U C z y fp pn) tg g/\(∀a,AccOk (X.comp N' scope U C z y fp pn) a->PM (X.comp N' scope U C z y fp pn) lim a (em (.ref a) (X.comp N' scope U C z y fp pn).env) tm)/\
   ∀x H2,J.yld i H' x H2->g x O H2 λσ3 H3=>tm ys σ3 H3 λY σ4 H4=>∃m',m'<m/\W (i+1) m' Y σ4 H4)
def wA(lim:Bool)(X:Cx)(N':AD)(scope:Scope)(tg:AO)(y:AN->Env->Sem Fin->Sem Fin)(z:TI)(cap:List (Option Nat)):TE:=λY H Q=>z Y H λJ H1=>Fy lim X N' scope tg y J (eO cap Y) H1 Q
def FJ{iter:AO}{rest:List Comprehension}{pos:Pos}{p9:AC}{s:AI}{Y:St}{H:Hp}{Q:VK}{RR:AN->AQ->Result->AI->Prop}(N':AD)(cap:List (Option Nat))(hc:X.calm)(hi:PI X tg iter wi)(hcap:Caps X scope N' cap)(hcell:scope.names.all (λy=>y.2 != NameKind.cell)=true)(hfr:scope.names.all (λy=>y.2 != NameKind.free||(X.env.kindOf y.1==-NameKind.cell||X.env.kindOf y.1==-NameKind.free))=true)(hkind:scope.kind=.function)(hT:jF (.ListComp elt ((tg,iter,ifs,0)::rest) scope pos) 0 tg iter em)(I:Inv X p9 Y H s)(h:wA lim X N' scope tg em wi cap Y H Q)(fin:∀(D C:AQ)(H':Hp)(s4:AI)(m:AH),Inv X p9 Y H' s4->Q (.ref D) H'->s4.heap.Ns C m->fP X p9 H' C->RR (.ref D) C (.ok .next) s4):
  ↥X (eval iter X.env) (λx s₁=>↥X (pyIter x) (λit s₂=>↥X (newList []) (λacc s₃=>
   ↥X (newFunctionEnv scope X.env.globals (cW X.env scope.names []) [] X.env.qual none .none (-X.env)) (λcenv s₄=>
    codeAny (model X.prog X.w) X.A (.compStart (.ListComp elt ((tg,iter,ifs,0)::rest) scope pos) 0 it acc {cenv with scope:=relabel scope X.env}) (RR acc cenv.locals) s₄) X.xe s₃) X.xe s₂) X.xe s₁) X.xe s:=by
 have hcell':∀y∈scope.names,y.2≠NameKind.cell:=λy hy=>by
  have:=cr.mp hcell y hy;simpa using this
 have hfr':∀y∈scope.names,y.2=NameKind.free->(X.env.kindOf y.1=-NameKind.cell\/X.env.kindOf y.1=-NameKind.free):=λy hy hl=>by
  have:=cr.mp hfr y hy;simpa [hl] using this
 have hcs:∀y∈scope.names,y.2=NameKind.free->(X.env.cells.lookup y.1).isSome=true:=λy hy hl=>by
  let(c,e):=I.ok.has y.1 (hfr' y hy hl);rw[e];rfl
 have U:∀x c,(cW X.env scope.names []).lookup x=-c->X.env.cells.lookup x=-c:=DY (λx c e=>by simp at e);have clhas:∀x,scope.names.lookup x=-NameKind.free->∃c,(cW X.env scope.names []).lookup x=-c:=λx e=>by
  have hm:=fy e;exact dA.mp (Eb (hcs _ hm rfl) hm)
 have rel:∀x,(relabel scope X.env).names.lookup x=(scope.names.lookup x).map λk=>if(k==NameKind.free&&X.env.scope.kind==.function&&X.env.kindOf x==-.cell)=true then NameKind.cell else k:=λx=>vV
 have relfree:∀x,((relabel scope X.env).names.lookup x=-NameKind.cell\/(relabel scope X.env).names.lookup x=-NameKind.free)->scope.names.lookup x=-NameKind.free:=λx e=>by
  rw[rel x]at e;cases z:scope.names.lookup x with
  |none=>rw[z]at e;rcases e with e|e<;>cases e
  |some k=>
   have nk:=hcell' _ (fy z);rw[z]at e;cases k with
   |free=>rfl
   |cell=>exact absurd rfl nk
   | «local»=>rcases e with e|e<;>simp[show(NameKind.«local»==NameKind.free)=false by decide]at e
   |globalExplicit=>rcases e with e|e<;>simp[show(NameKind.globalExplicit==NameKind.free)=false by decide]at e
   |globalImplicit=>rcases e with e|e<;>simp[show(NameKind.globalImplicit==NameKind.free)=false by decide]at e
 generalize hcl:cW X.env scope.names []=cl at U clhas;show thn (hi p9 s Y H _ I h) λxv s0 h0=>thn h0 λitv s2 h2=>?_;let(it,fp,tn,J,H2,e,I2,T,st2,f2,W,(m0,w0),turn):=h2;subst e;show gs (wpAny_newFunctionEnv hcell' (by intro y hy;simp at hy) (λh₁ hns₁ hsb₁=>?_) hkind);dsimp only at hns₁ hsb₁ ⊢;generalize hH2:s2.heap.push {cls:=.type "list",dict:=none,data:=.seq ([]:AB).toArray}=HP at hns₁ hsb₁ ⊢;have hC:HP.objs.size=s2.heap.objs.size+1:=by rw[<-hH2,cK]
 have hDC:s2.heap.objs.size≠HP.objs.size:=by rw[hC];exact ci (gu _)
 have below:∀b,b<s2.heap.objs.size->b≠HP.objs.size/\b≠s2.heap.objs.size:=λb O=>(by rw[hC];exact ci (eI O),ci O);have old:∀b o,s2.heap.get? b=-o->h₁.get? b=-o:=λb o e=>hsb₁.extBut b o (below b (aE e)).1 (ag _ (hH2 ▸ ag _ e));have hacc:h₁.get? s2.heap.objs.size=-{cls:=.type "list",data:=.seq ([]:AB).toArray 0}:=hsb₁.extBut _ _ hDC (ag _ (hH2 ▸ bd _ rfl));have hst₁:tn 0 h₁:=T.keep _ _ _ st2 λb f o e=>old b o e;have fplt:∀b∈fp,b<s2.heap.objs.size:=λb O=>by
  let(o,e,_):=T.obj _ _ st2 b O;exact aE e
 have fslt:∀b∈frs X.stack,b<s2.heap.objs.size:=λb O=>by
  let(_,o,e,_):=I2.stack.mem O;exact aE e
 have celllt:∀x c,cl.lookup x=-c->c<s2.heap.objs.size:=λx c e=>by
  let(v,q):=I2.cell x c (U x c e);exact q.lt
 have hDf:H2 s2.heap.objs.size=none:=I2.hok.fresh (ay _);have hCf:H2 HP.objs.size=none:=I2.hok.fresh (by rw[hC];exact fm _);have nofs:∀b∈fp,b∉frs X.stack:=λb O z=>by
  let(_,f1,f2',_):=f2 b O;rcases bb.mp (I2.stkSub b z) with e|e
  .exact f1 e
  .exact f2' e
 have ok':(X.comp N' scope cl HP.objs.size s2 H2 fp (X.pn++p9)).Ok:=
  (I2.ok.mod,hkind,I2.ok.glob,I2.ok.blt,(by change s2.heap.objs.size<=HP.objs.size;rw[hC];exact fm _),
   λx y c e1 e2=>I2.ok.inj x y c (U x c e1) (U y c e2),λx hx=>clhas x (relfree x hx),λx c hf f=>(by cases hf),I2.ok.hd,I2.ok.frames,.inl rfl,
   λb O=>((below b (fplt b O)).1,λx c e=>(f2 b O).2.2.2.2.1 x c (U x c e)),I2.bs,cb I2.ok.bsz I2.sz,
   λb o e O=>(by
    rcases(f2 b O).2.2.2.1 with z|z
    .exact I2.ok.noex b o e z
    .exact absurd (bS (aE e) (cb I2.ok.bsz z)) (fb _)),
   nofs,I2.stack,I2.stkFree)
 have pnOk:∀p∈X.pn++p9,p.1<s2.heap.objs.size/\p.1∉frs X.stack:=λp hp=>by
  let(e,_,n1,n2,_):=I2.pin p hp;show(aE e,λz=>?_);rcases bb.mp (I2.stkSub _ z) with e|e
  .exact n1 e
  .exact n2 e
 have I0:∀t,Inv (X.comp N' scope cl HP.objs.size s2 H2 fp (X.pn++p9)) [(s2.heap.objs.size,{cls:=.type "list",data:=.seq ([]:AB).toArray 0})] (eO cap Y) H2 {s2 with heap:=h₁,toks:=t}:=λt=>
  (ok',rfl,I2.bare,Un.kept old,(_,hns₁,λi x v e1 e2 f=>by
    let(j,nj,fr,sj):=hcap.at e1 e2;let(m,_,hl):=I2.loc;have hk:=hfr' (x,NameKind.free) (fy fr) rfl;let(u,r,l):=hl j x v nj sj (by rcases hk with hk|hk;exact .inr (.inl hk);exact .inr (.inr hk));show(u,r,.inr (?_,?_))
    .change (relabel scope X.env).names.lookup x=-.cell\/(relabel scope X.env).names.lookup x=-.free;rw[rel x,fr,Option.map_some];by_cases hh:(NameKind.free==NameKind.free&&X.env.scope.kind==ScopeKind.function&&X.env.kindOf x==-NameKind.cell)=true
     .exact .inl (by rw[if_pos hh])
     .exact .inr (by rw[if_neg hh])
    .let(c,ec):=clhas x fr;have ec':=U x c ec;rcases l with⟨k1,_⟩|⟨_,c',e',q⟩
     .rcases hk with hk|hk<;>(rw[hk]at k1;cases k1)
     .have ecc:X.env.cells.lookup x=-c:=ec';rw[e']at ecc;cases ecc;let(o,ho,hd):=q;exact(_,ec,o,old _ _ ho,hd)),
   λx c e=>(by let(v,o,ho,hd):=I2.cell x c (U x c e);exact(v,o,old _ _ ho,hd)),hCf,λx c e=>I2.freeC x c (U x c e),
   λp hp=>by
    rcases bp.mp hp with z|z
    .let(e,n0,_,_,d):=I2.pin p z;exact(old _ _ e,n0,(below _ (pnOk p z).1).1,(pnOk p z).2,d)
    .have e:p=_:=ba.mp z;subst e;exact(hacc,hDf,hDC,λz=>absurd (fslt _ z) (fb _),λv z=>by have z':Data.seq _ _=Data.cell v:=z;cases z'),
   I2.hok.kept old,by change(eO cap Y)⁻¹=N'⁻¹;unfold eO;rw[ah];exact hcap.len)
 have fpok:∀{H':Hp}{o:Obj},(∀b∈fp,H' b=none)->∀b∈fp,fP (X.comp N' scope cl HP.objs.size s2 H2 fp (X.pn++p9)) [(s2.heap.objs.size,o)] H' b:=λhn b O=>
  (hn b O,(below b (fplt b O)).1,nofs b O,.inl O,λx c e=>(f2 b O).2.2.2.2.1 x c (U x c e),λp hp=>by
   rcases bp.mp hp with z|z
   .exact (f2 b O).2.2.2.2.2 p z
   .have e:p=_:=ba.mp z;subst e;exact Ne.symm (below b (fplt b O)).2)
 have loop:∀s₃:AI,s₃={s2 with heap:=h₁,toks:=s2.toks+([]:List (Str×AN))⁻¹}->
   codeAny (model X.prog X.w) X.A (.compLoop (.ListComp elt ((tg,iter,ifs,0)::rest) scope pos) 0 (.ref it) (.ref s2.heap.objs.size) (compEnvC scope cl HP.objs.size X.env))
    (RR (.ref s2.heap.objs.size) HP.objs.size) s₃:=by
  rintro s₃ rfl;show XS hT
   (λk s'=>∃(i:Nat) (ys:AR) (its:AB) (n:Nat) (σ':St) (H':Hp),Inv (X.comp N' scope cl HP.objs.size s2 H2 fp (X.pn++p9)) [(s2.heap.objs.size,{cls:=.type "list",data:=.seq its.toArray n})] σ' H' s'/\Vals ys its/\
    tn i s'.heap/\(∀b∈fp,H' b=none)/\W i k ys σ' H') ?_ m0 (0,[],[],0,_,H2,I0 _,.nil,hst₁,λb O=>(f2 b O).1,w0)
  rintro k s3 ⟨i,ys,its,n,σ3,H3,I3,rv3,st3,fr3,w3⟩;rcases turn i k ys σ3 H3 w3 with⟨stop,hz,qn⟩|⟨go,hlim,step⟩
  .show thn (T.done (X.comp N' scope cl HP.objs.size s2 H2 fp (X.pn++p9)) rfl rfl rfl hc i _ s3 σ3 H3 _ I3 (fpok fr3) st3 stop) λr s4 zZ=>?_;let(hr,I4):=zZ;subst hr;let(m,hn,_):=I4.loc;let(pD,nD,_,_,_):=I4.pin (s2.heap.objs.size,{cls:=.type "list",data:=.seq its.toArray n}) (b9 _ (ba.mpr rfl));have nC:H3 HP.objs.size=none:=I4.free;have u:Un (frs X.stack) fp H2 H3 s2.heap s4.heap:=I4.base;show fin s2.heap.objs.size HP.objs.size (upd H3 s2.heap.objs.size (.lst ys)) s4 m ?_ (qn _ nD) hn ?_
   .show I2.call' (s':=s4) (ch:=fp) I4.os ?_ ?_ I4.bare λb O=>((f2 b O).2.2.2.1,(f2 b O).2.1,(f2 b O).2.2.2.2.1,(f2 b O).2.2.2.2.2)
    .show (λb o e n0 O hx=>u.keep b o e n0 O hx,λb o e n0 O hx=>u.slot b o e n0 O hx,λb o e n0 hx=>?_,λb o e hx=>u.there b o e hx,λb xs e=>?_,λb o v e=>?_,λb ps e=>?_)
     .rw[aH (below b (aE e)).2];exact u.free b o e n0 hx
     .rw[aH (bw e hDf)];exact u.tups b xs e
     .rw[aH (bw e hDf)];exact u.frzs b o v e
     .rw[aH (bw e hDf)];exact u.tbls b ps e
    .intro b o e;by_cases O:b=s2.heap.objs.size
     .subst O;rw[cu]at e;cases e;exact(hz,its,n,rv3,pD)
     .rw[aH O]at e;exact(I4.hok b o e).stay (λc v f q=>q) (λc q=>by rw[aH (bw q nD)];exact q) λc xs q=>by rw[aH (bw q nD)];exact q
   .have hle:s2.heap.objs.size<=HP.objs.size:=by rw[hC];exact fm _
    exact I2.fpOk hle (by rw[aH (Ne.symm hDC)];exact nC)
  .show thn (T.item (X.comp N' scope cl HP.objs.size s2 H2 fp (X.pn++p9)) rfl rfl rfl hc i _ s3 σ3 H3 _ I3 (fpok fr3) st3 go) λr s4 zZ=>?_;let(u,hr,h4):=zZ;subst hr;show thn h4 λf s5 zZ=>?_;let(x,H5,I5,r5,y5,st5,fr5):=zZ;let(g,tm,hg,hm,body):=step cl HP.objs.size s2 H2 fp (X.pn++p9);have acc:AccOk (X.comp N' scope cl HP.objs.size s2 H2 fp (X.pn++p9)) s2.heap.objs.size:=
    (.inr (ay _),λx c e z=>absurd (celllt x c e) (by rw[z];exact fb _),λp hp z=>absurd (pnOk p hp).1 (by rw[z];exact fb _))
   have I5':=I5.pinned (fpok fr5) (T.obj _ _ st5);show thn (hg _ s5 σ3 H5 x u _ I5' r5 (body x H5 y5)) λf s6 zZ=>?_;let(σ6,H6,I6,q6):=zZ;intro kk Q' E' hk';show hm _ acc (lB fp s5.heap) its n ys σ6 H6 s6 _ I6 (λp hp' e=>?_) rv3 hlim q6 kk Q' E' λs7 its' n' ys' σ7 H7 I7 rv7 (m',hm',w7)=>hk' s7 (m',hm',i+1,ys',its',n',σ7,H7,I7.pins_of λp hp'=>?_,rv7,?_,λb O=>?_,w7)
   .exact (below p.1 (fplt p.1 (Dc hp').1)).2 e
   .show I7.pin p (b9 _ ?_);rw[ba.mp hp'];exact aT
   .exact T.keep _ _ _ st5 λb O o e=>(I7.pin (b,o) (b9 _ (bP _ (pI O e)))).1
   .let(o,e,_):=T.obj _ _ st5 b O;exact(I7.pin (b,o) (b9 _ (bP _ (pI O e)))).2.1
 exact codeAny_compStart_list (loop _ rfl) (T.self X.A 0 _ _ _ hst₁ (loop _ rfl))
def X4{iter:AO}{rest:List Comprehension}{pos:Pos}(N':AD)(cap:List (Option Nat))(hc:X.calm)(hi:PI X tg iter wi)(hcap:Caps X scope N' cap)(U:scope.names.all (λy=>y.2 != NameKind.cell)=true)(O:scope.names.all (λy=>y.2 != NameKind.local||scope.names.lookup y.1==-NameKind.local)=true)(hfr:scope.names.all (λy=>y.2 != NameKind.free||(X.env.kindOf y.1==-NameKind.cell||X.env.kindOf y.1==-NameKind.free))=true)(z:scope.kind=.function)(hs:∀x,foldedSetIterable iter X.env x=pure x)(hT:jF (.ListComp elt ((tg,iter,ifs,0)::rest) scope pos) 0 tg iter em):
  PE X (.ListComp elt ((tg,iter,ifs,0)::rest) scope pos) (wA lim X N' scope tg em wi cap):=by
 intro p9 s Y H Q I h;have J:∀y∈scope.names,y.2=NameKind.local->scope.names.lookup y.1=-NameKind.local:=λy hy hl=>by
  have:=cr.mp O y hy;simpa [hl] using this
 have hcs:∀y∈scope.names,y.2=NameKind.free->(X.env.cells.lookup y.1).isSome=true:=λy hy hl=>by
  have:=cr.mp hfr y hy;let(c,e):=I.ok.has y.1 (by simpa [hl] using this);rw[e];rfl
 rw[eval_ListComp];show wpAny_comprehension_free (use:=none) (Q:=EP X p9 Y Q) rfl hs (Ec hcs) z J
  (FJ (RR:=λacc C=>compPost (model X.prog X.w) X.A X.xe none (EP X p9 Y Q) acc C) N' cap hc hi hcap U hfr z hT I h λL C H' s4 m I4 q hn fC=>?_)
 let(f0,f1,f2,f3,f4,f5):=fC;exact(m,hn,λh' hs'=>(.ref L,H',I4.turned (t':=s4.toks) (it:=C) (λb o hb e=>hs'.extBut b o hb e) f0 f1 f3 f4 f5,rfl,q))
def X5{iter:AO}{rest:List Comprehension}{pos py spos:Pos}{i:Nat}{y:Str}(hT:jF (.ListComp elt ((tg,iter,ifs,0)::rest) scope pos) 0 tg iter em)(hN:X.N.Nodup)(hiy:X.N[i]?=-y)(hy:Loc X.env.scope y)(N':AD)(cap:List (Option Nat))(hc:X.calm)(hi:PI X tg iter wi)(hcap:Caps X scope N' cap)(hcell:scope.names.all (λy=>y.2 != NameKind.cell)=true:=by rfl)(U:scope.names.all (λy=>y.2 != NameKind.local||scope.names.lookup y.1==-NameKind.local)=true:=by rfl)(hfr:scope.names.all (λy=>y.2 != NameKind.free||(X.env.kindOf y.1==-NameKind.cell||X.env.kindOf y.1==-NameKind.free))=true:=by rfl)(J:scope.kind=.function:=by rfl)(hs:∀x,foldedSetIterable iter X.env x=pure x:=by intro _;rfl)(hsw:swapsWith (.ListComp elt ((tg,iter,ifs,0)::rest) scope pos) (-(.Name y py)) spos.line X.env=pure true:=by rfl)(hf:X.fn y=true\/X.env.scope.names.lookup y=-.local:=by first|exact .inl rfl|exact .inr rfl|assumption):
  PS X (.Assign [.Name y py] (.ListComp elt ((tg,iter,ifs,0)::rest) scope pos) spos) (pF (wA lim X N' scope tg em wi cap) (pC i)):=by
 intro p9 s Y H D I h;have O:∀y∈scope.names,y.2=NameKind.local->scope.names.lookup y.1=-NameKind.local:=λy hy hl=>by
  have:=cr.mp U y hy;simpa [hl] using this
 have hcs:∀y∈scope.names,y.2=NameKind.free->(X.env.cells.lookup y.1).isSome=true:=λy hy hl=>by
  have:=cr.mp hfr y hy;let(c,e):=I.ok.has y.1 (by simpa [hl] using this);rw[e];rfl
 rw[exec_Assign_Name_used _ _ _ _ hsw];show af (ko (af ?_));change wpAny _ X.A (do let _ <-comprehension (.ListComp elt ((tg,iter,ifs,0)::rest) scope pos) scope X.env _ (newList []) false (eval iter X.env) (-(assign (.Name y py) X.env))) _ _ s;show af (cm (wpAny_comprehension_free (use:=-(assign (.Name y py) X.env)) (Q:=λt s'=>SP X p9 D .next s') rfl hs (Ec hcs) J O
  (FJ (RR:=λacc C=>compPost (model X.prog X.w) X.A X.xe (-(assign (.Name y py) X.env)) (λt s'=>SP X p9 D .next s') acc C) N' cap hc hi hcap hcell hfr J hT I h λL C H' s4 m I4 q hn fC=>?_)) (λt s' hq=>am (am hq)) λt t e=>e)
 let(oC,es,ep,eC,rC):=id hn;let(f0,f1,f2,f3,f4,f5):=fC;have ncell:∀v,oC.data≠.cell v:=λv z=>by rw[rC.1]at z;cases z
 have I5:Inv X (p9++[(C,oC)]) Y H' s4:=I4.pins_of λp hp=>by
  rcases bp.mp hp with z|z
  .exact I4.pin p (b9 _ z)
  .have e:p=_:=ba.mp z;subst e;exact(eC,f0,f1,f2,ncell)
 show wpAny_assign_Name (jA I5 hN hiy hy (v:=.ref L) (u:=.ref L) rfl (λs5 I6=>?_) hf);have eC5:s5.heap.get? C=-oC:=(I6.pin (C,oC) (b9 _ (b9 _ (ba.mpr rfl)))).1;have I7:Inv X p9 (Y.set i (-(.ref L))) H' s5:=I6.pins_of λp hp=>I6.pin p (b9 _ (eK _ hp));show(m,(oC,es,ep,eC5,rC),λh'' hs''=>?_);exact(_,H',I7.turned (t':=s5.toks) (it:=C) (λb o hb e=>hs''.extBut b o hb e) f0 f1 f3 f4 f5,q)
open HT
end L2
namespace PySem
open Sem (wp)
open Builtin Builtin.Str
open AutoSeq1 (wpAny_loadPart')
end PySem
namespace RF
open PySem L2 PySem.Builtin PySem.Builtin.Str PySem.StrLaws
def pU(c:Nat):AA->List (AA)
 |[]=>[[]]
 |x::r=>if x=c then[]::pU c r else(x::(pU c r).headD [])::(pU c r).tail
end RF
namespace L2
open PySem PySem.Spec PyProof.Rows
variable {i n lo nrem:Nat}{Q E':AG}{h:Heap}{H:Hp}{a C b f l:AQ}{w:World}{ys out:Array Keyed}{s:AI}{prog:AK}{m:AH}{tk:Tok}{g:Array GenState}{os:OsState}{ox:Obj}{od:Option Obj}{us vs:AB}{p9:AC}{Y:St}{o:AO}{ta:TE}{L:Bool}{ks:AD}{p:Array (Nat×Nat×Nat)}
section
variable {prog:AK} {w:World} {A:AM} {E:AG} {h:Heap} {g:Array GenState} {d:Drawn} {t:Nat} {os:OsState}
variable {nm q:Str} {C N fI:AQ} {oI:Obj} {us bs bm bB:AB} {hd:Bool} {sn:AD} {sub:AB} {ab:Bool} {col:Option Bool} {dd:Option AQ} {k0 k1 k2 k3 k5:Option AN} {B nw ini:AL}
def exH(h:Heap)(C:AQ)(us:AB):Heap:=(h.push (.type "tuple",none,.seq us.toArray 0,#[])).push (.ref C,none,.fields #[.ref h.objs.size,.none,.none,.none,.bool false,.none],#[])
def lK{o:Obj}(e:h.get? b=-o):(exH h C us).get? b=-o:=ag _ (ag _ e)
def FN:(exH h C us).get? (h.objs.size+1)=-(.ref C,none,.fields #[.ref h.objs.size,.none,.none,.none,.bool false,.none],#[]):=by
 unfold exH
 heap_get
def X6{Q:Fin->AI->Prop}(F:ExcBaseFacts B nw ini bB)(T:OwnTail h bB bm)(y:h.get? C=-(excClassObj nm q C N bs bm hd sn sub ab col dd k0 k1 k2 k3 k5 nw))(hn:h.Ns N m)(hi:m "__init__"=-(.ref fI))(hf:h.get? fI=-oI)(J:oI.cls=.type "function")(hl:us⁻¹<=sizeLine)(hq:wpAny (model prog w) A (call (.ref fI) (.ref (h.objs.size+1)::us)) (λr s'=>r=.none/\Q (.done (.ret (.ref (h.objs.size+1)))) s') E (exH h C us,g,d,t,os)):
  wpAny (model prog w) A (Builtin.«type.__call__» (.ref C::us,[])) Q E (h,g,d,t,os):=by
 repeat (first|with_reducible show wpAny_madeBy_exc y ?_|with_reducible show eJ y ?_|wp_step)
 show codeAny_call_builtin_code (Code.quiet_builtin _ F.quiet) (wpAny_check_new_subT F T y (codeAny_exc_new_subT F T y ?_ hl));have U:=lK (C:=C) (us:=us) y;have Y:(exH h C us).Ns N m:=hn.keeps λx x=>lK;have c3:=T.keeps (h':=exH h C us) λx x=>lK;have c4:=FN (h:=h) (C:=C) (us:=us);have c5:=lK (C:=C) (us:=us) hf;have O:(Value.ref C::bm).contains (.ref C)=true:=by simp
 change wpAny _ _ _ _ _ (exH h C us,g,d,t,os);unfold isInstance;repeat (first | (with_reducible show wpAny_isSubtype_exc U ?_;rw[O])|with_reducible show eJ c4 ?_|wp_step)
 change wpAny _ _ (typeLookup (.ref C) _) _ _ _;show wpAny_typeLookup_tail U Y c3 F.mroIs F.init.lookup ?_;rw[hi];show dE (af ?_);unfold bindSpecial;show af (wpAny_typeOf (T:="function") (_,c5,J) ?_);rw[if_pos (!1)];show am (af (cm hq (λr s' hr=>?_) λx x z=>z));let(rfl,z):=hr;wp_walk
 exact z
end
section
variable {prog:AK} {w:World} {A:AM} {E:AG} {h:Heap} {g:Array GenState} {d:Drawn} {t:Nat} {os:OsState}
variable {nm q:Str} {C N fI:AQ} {oI:Obj} {us bs bm bB:AB} {hd:Bool} {sn:AD} {sub:AB} {ab:Bool} {col:Option Bool} {dd:Option AQ} {k0 k1 k2 k3 k5:Option AN} {B nw ini:AL}
def X7(F:ExcBaseFacts B nw ini bB)(T:OwnTail h bB bm)(y:h.get? C=-(excClassObj nm q C N bs bm hd sn sub ab col dd k0 k1 k2 k3 k5 nw))(hn:h.Ns N m)(hi:m "__init__"=-(.ref fI))(J:h.get? fI=-oI)(z:oI.cls=.type "function")(hl:us⁻¹<=sizeLine)(O:wpAny (model prog w) (A.under (.builtin "type.__call__" (.ref C::us,[]))) (call (.ref fI) (.ref (h.objs.size+1)::us)) (λr s'=>r=.none/\Q (.ref (h.objs.size+1)) s') E (exH h C us,g,d,t,os)):
  wpAny (model prog w) A (call (.ref C) us) Q E (h,g,d,t,os):=by
 have f1:=tc_bind (.ref C);have f2:=tc_lookup;have f3:((h,g,d,t,os):AI).TypeIs (.ref C) "type":=(_,y,rfl);show wpAny_call (codeAny_of_tree ?_);change wpAny _ _ (callAny (.ref C) _) _ _ _;repeat (any_goals (first|assumption|with_reducible show eJ y ?_|wp_step))
 show(rfl,codeAny_call_builtin_at (Code.quiet_builtin _ (by ac_rfl)) entry_typeCall (wpAny_check_type_call_sub y (X6 F T y hn hi J z hl ?_)));exact O
end
section
variable {prog:AK} {w:World} {A:AM} {E:AG} {h:Heap} {g:Array GenState} {d:Drawn} {t:Nat} {os:OsState}
variable {nm q:Str} {C N e l:AQ} {us bs bm bB:AB} {hd:Bool} {sn:AD} {sub:AB} {ab:Bool} {col:Option Bool} {dd dx:Option AQ} {k0 k1 k2 k3 k5:Option AN} {B nw ini:AL}
def X8(F:ExcBaseFacts B nw ini bB)(T:OwnTail h bB bm)(J:h.get? C=-(excClassObj nm q C N bs bm hd sn sub ab col dd k0 k1 k2 k3 k5 nw))(he:h.get? e=-(.ref C,dx,.fields #[.ref l,.none,.none,.none,.bool false,.none],#[]))(hl:us⁻¹<=sizeLine)(U:∀h':Heap,(∀b o,b≠e->h.get? b=-o->h'.get? b=-o)->(∃y,h.get? y=none/\h'.get? e=-(.ref C,dx,.fields #[.ref y,.none,.none,.none,.bool false,.none],#[]))->Q .none (h',g,d,t,os)):
  wpAny (model prog w) A (call (.builtin ini) (.ref e::us)) Q E (h,g,d,t,os):=by
 show wpAny_call (g0 F.init.plain F.initEntry (wpAny_check_init_subT F T J he rfl ?_));wp_walk
 change Q .none _;show U _ (λb o O z=>?_) (h.objs.size,Heap.get?_none_of_le (ay _),?_)
 .rw[im _ _ (Ne.symm O)];exact ag _ z
 .rw[fh _ (ag _ he) rfl];rfl
end
open Builtin Builtin.ObjectAttr
open PySem.W (findIn mroIn clsIn typeIn Looks InstAt looks_findIn looks_mroIn looks_typeIn looks_clsIn takerIn takesIn hasDictIn looks_takesIn check_slot osa_eq)
def exO(C l:AQ)(dx:Option AQ):Obj:=(.ref C,dx,.fields #[.ref l,.none,.none,.none,.bool false,.none],#[])
def lL:AB->Bool
 |.ref _::r=>lL r
 |l=>pO l
def Yb(self:AN):refuseLoop self "__setattr__" veM=pure ():=by rfl'
def FP(self:AN):∀{l:AB},lL l=true->refuseLoop self "__setattr__" l=pure ()/\l.contains (.type "object")=true/\l.isEmpty=false
 |.ref c::r,e=>by
  have y:=FP self (l:=r) e;show(?_,?_,rfl)
  .rw[refuseLoop_ref];exact y.1
  .rw[List.contains_cons,y.2.1,Bool.or_true]
 |[],e=>by cases e
 |.type a::r,e=>by
  have h:.type a::r=veM:=Ez e;rw[h];exact(Yb self,!1,rfl)
 |.none::r,e=>nomatch (show false=true from e)
 |.bool _::r,e=>nomatch (show false=true from e)
 |.int _ _::r,e=>nomatch (show false=true from e)
 |.str _ _::r,e=>nomatch (show false=true from e)
 |.bytes _ _::r,e=>nomatch (show false=true from e)
 |.float _ _::r,e=>nomatch (show false=true from e)
 |.builtin _::r,e=>nomatch (show false=true from e)
 |.ellipsis::r,e=>nomatch (show false=true from e)
 |.notImplemented::r,e=>nomatch (show false=true from e)
section
variable {prog:AK} {w:World} {A:AM} {E:AG} {s:AI} {x C l:AQ} {K:PF} {name:Str} {v:AN} {cd:ClassData}
def Yc{R:Result->AI->Prop}(J:K.In s.heap)(hx:s.heap.get? x=-(exO C l none))(hc:clsIn K C=-cd)(hm:lL cd.mro)(hd:cd.hasDict)(ht:takerIn K C name=-none)(h:∀h':Heap,(∀b o,b≠x->s.heap.get? b=-o->h'.get? b=-o)->h'.get? x=-(exO C l (-(~~~s)))->h'.Ns1 (~~~s) (λy=>if y=name then some v else none)->R (.ok (.ret .none)) {s with heap:=h',toks:=s.toks+1}):
  codeAny (model prog w) A (.call (.builtin "object.__setattr__") ([.ref x,.str name tk,v],[])) R s:=by
 have O:=PySem.F.store_object;have I:InstAt s.heap x (exO C l none) C none:=(hx,rfl,rfl,trivial);let(r1,r2,r3):=FP (.ref x) hm;have sub:Looks (model prog w) s.heap (isInstance (.ref x) (.type "object")) true:=I.type.andThen (looks_mroIn J (by unfold mroIn;rw[hc,Option.bind_some,if_neg (by rw[r3];decide),r2]));show g0 O.slot.plain O.entry (@check_slot (model prog w) _ _ s "object.__setattr__" "object" "__setattr__" (.ref x) [.str name tk,v] [] _ O.kind O.split sub (O.args (.ref x) (.str name tk) v) ?_);let(z,ha,hr):=Option.bind_eq_some_iff.mp ht;have Lm:Looks (model prog w) s.heap (mroOf (.ref C)) cd.mro:=(looks_clsIn J hc).andThen .now;have L3:Looks (model prog w) s.heap (storeTaker? z) none:=by
  cases z with
  |none=>exact .now
  |some a=>
   let(b,U,e):=a9.mp hr;show(looks_takesIn J U).andThen ?_;cases b
   .exact .now
   .cases e
 rw[osa_eq,refuse_eq];show af (af (I.type.here (af (Lm.here ?_))));rw[r1];show am (af (I.type.here (af ((looks_findIn J ha).here (af (L3.here ?_))))));dsimp only;have hcd:=looks_clsIn (M:=model prog w) J hc;show af (am (af (af (wpAny_loadPart hx (af (hcd.here ?_))))));rw[hd];change wpAny _ _ (do let d <-alloc {cls:=Value.type "dict",data:=Data.dict #[]};update x λo=>{o with dict:=-d};dictMade (.ref C) x d) _ _ _;show af (wpAny_alloc ?_);have hlt:=aE hx;have hne:(~~~s)≠x:=gc hlt;have e0:(s.heap.push {cls:=Value.type "dict",data:=Data.dict #[]}).get? x=-(exO C l none):=ag _ hx;show af (wpAny_update e0 (am ?_));have e1:(s.heap.push {cls:=Value.type "dict",data:=Data.dict #[]}).get? (~~~s)=-{cls:=Value.type "dict",data:=Data.dict #[]}:=bd s.heap rfl;have e2:((s.heap.push {cls:=Value.type "dict",data:=Data.dict #[]}).update x λo=>{o with dict:=-(~~~s)}).get? x=-(exO C l (-(~~~s))):=by rw[fh _ e0 rfl];rfl
 have e3:((s.heap.push {cls:=Value.type "dict",data:=Data.dict #[]}).update x λo=>{o with dict:=-(~~~s)}).get? (~~~s)=-{cls:=Value.type "dict",data:=Data.dict #[]}:=by rw[im _ _ (Ne.symm hne)];exact e1
 have e4:((s.heap.push {cls:=Value.type "dict",data:=Data.dict #[]}).update x λo=>{o with dict:=-(~~~s)}).Ns1 (~~~s) (λu=>none):=
  Heap.Ns1.of_empty (_,#[],_,e3,rfl,(λe he=>absurd he (!2)),λu=>rfl)
 have e5:∀b o,b≠x->s.heap.get? b=-o->((s.heap.push {cls:=Value.type "dict",data:=Data.dict #[]}).update x λo=>{o with dict:=-(~~~s)}).get? b=-o:=λb o U q=>by
  rw[im _ _ (Ne.symm U)];exact ag _ q
 show af (am (af ?_));generalize ((s.heap.push {cls:=Value.type "dict",data:=Data.dict #[]}).update x λo=>{o with dict:=-(~~~s)})=hB at e2 e3 e4 e5 ⊢;show wpAny_nsSet1 (s:={s with heap:=hB}) e4 λh' Y hs2=>?_;let(oD,esD,epD,hoD,hdD,hcD):=Y.count (PySem.Within.cons name v (show PySem.Within (λu=>none) [] from λy hy=>(hy rfl).elim));show af (wpAny_lookBehind hoD (by rw[hdD];exact pastItsLine_dict (cb hcD (by rw[eT];change 1<=_;decide))) ?_);show am (h h' (λb o U q=>?_) ((hs2.2 _ (Ne.symm hne)).trans e2) Y);have hbl:b≠(~~~s):=ci (aE q);rw[hs2.2 b hbl];exact e5 b o U q
def Yd{Q:Unit->AI->Prop}(z:K.In s.heap)(J:s.heap.get? x=-(exO C l none))(hc:clsIn K C=-cd)(O:lL cd.mro)(hd:cd.hasDict)(U:takerIn K C name=-none)(hs:findIn K (.ref C) "__setattr__"=-(-(.builtin "object.__setattr__")))(h:∀h':Heap,(∀b o,b≠x->s.heap.get? b=-o->h'.get? b=-o)->h'.get? x=-(exO C l (-(~~~s)))->h'.Ns1 (~~~s) (λy=>if y=name then some v else none)->Q () {s with heap:=h',toks:=s.toks+2}):
  wpAny (model prog w) A (setAttr (.ref x) name v) Q E s:=
 PySem.W.set_plain z ((J,rfl,rfl,trivial):InstAt s.heap x (exO C l none) C none) hs (Yc (s:={s with toks:=s.toks+1}) z J hc O hd U h)
def Ye{d:Drawn}{t:Nat}{Q:Fin->AI->Prop}(y:K.In h)(I:InstAt h x ox C od)(J:PySem.W.findObj K C od name=-(.value v))(O:Q (.done (.ret v)) (h,g,d,t,os)):
  wpAny (model prog w) A (Builtin.«object.__getattribute__» ([.ref x,.str name tk],[])) Q E (h,g,d,t,os):=by
 have z:=I.type (M:=model prog w);have L1:=PySem.W.looks_find (M:=model prog w) y I J;exact af (am (af (am (af (z.at (af (L1.at (am O))))))))
def Yg{d:Drawn}{t:Nat}{y:Bool}(z:K.In h)(O:Xin K C)(I:InstAt h x ox C od)(Y:PySem.W.findObj K C od name=-(.value v))(hv:PySem.W.handedIn v)(hq:Q v (h,g,d,t+1,os)):wpAny (model prog w) A (getAttr (.ref x) name y) Q E (h,g,d,t,os):=by
 have U:=I.at_;have hc:=I.cls;have L1:=looks_findIn (M:=model prog w) z O.ga;have L2:=looks_findIn (M:=model prog w) z O.g;have f3:bindSpecial (.builtin "BaseException.__getattribute__") (.ref x)=pure (.builtin "BaseException.__getattribute__",[.ref x]):=(PySem.F.excAttr_ValueError).ga.bind (.ref x);have J:(Value.builtin "BaseException.__getattribute__"==Value.builtin "object.__getattribute__")=false:=by ac_rfl
 have hx1:(onTheHeap (Value.ref C)&&Value.builtin "BaseException.__getattribute__"==Value.builtin "object.__getattribute__")=false:=by rw[J];rfl
 have ho:=PySem.W.handedOut_of hv;unfold getAttr getAttrBy;repeat (any_goals (first|assumption | (with_reducible show eJ U ?_;rw[hc])|with_reducible show L1.at ?_|with_reducible show L2.at ?_|wp_step))
 rw[show(y&&onTheHeap (Value.builtin "BaseException.__getattribute__"))=false from g6 _,if_neg (!1)];repeat (any_goals (first|assumption|wp_step))
 show g0 (by ac_rfl) F.entry_bexc_ga (Fj z O U hc (Ye z I Y ?_));repeat (any_goals (first|assumption|wp_step))
end
open PySem.W (findIn mroIn clsIn typeIn takerIn specialIn findCls readsIn)
def FQ(f:AQ):Option AN->Bool
 |some (.ref a)=>a==f
 |_=>false
def wB(K:PF)(N f:AQ):Bool:=match K.lookup N with
 |some (_,_,.dict es _,_)=>es.toList.all (λe=>pP e.key)&&FQ f (nsFind es "__init__")
 |_=>false
def Yh{K:PF}{N:AQ}(z:K.In h)(b:wB K N f):∃m,h.Ns N m/\m "__init__"=-(.ref f):=by
 unfold wB at b;split at b
 .rename_i c d es ep U e;rw[ae,cr]at b;show(nsFind es,(_,es,ep,z _ _ e,rfl,λx O=>?_,λv=>rfl),?_)
  .have:=b.1 x (Array.mem_toList_iff.mpr O);unfold pP at this;split at this
   .rename_i y t e;exact(_,_,e)
   .cases this
  .have h2:=b.2;unfold FQ at h2;split at h2
   .rename_i a J;rw[aw]at h2;rw[J,h2]
   .cases h2
 .cases b
def ik(K:PF)(C f:AQ):Bool:=match K.lookup C with
 |some (ty,_,.cls cd,⟨[_,_,_,_,k,_]⟩)=>pQ ty&&isNew k&&wB K cd.ns f&&!cd.hasDel&&(match cd.mro with|v::tl=>isRef C v&&lJ K tl |[]=>false)
 |_=>false
def FT(h:Heap)(C f:AQ):Prop:=∃nm q N bs bm hd sn sub ab col dd k0 k1 k2 k3 k5 m,h.get? C=-(excClassObj nm q C N bs bm hd sn sub ab col dd k0 k1 k2 k3 k5 "ValueError.__new__")/\h.Ns N m/\m "__init__"=-(.ref f)/\OwnTail h veM bm
def wC{K:PF}(U:K.In h)(b:ik K C f):FT h C f:=by
 unfold ik at b;split at b
 .rename_i ty dd cd k0 k1 k2 k3 k k5 e;simp only[ae]at b;let((((z,J),b3),b5),y):=b;let(m,O,hq):=Yh U b3;have e1:ty=.type "type":=by
   unfold pQ at z;split at z
   .rw[aw]at z;rw[z]
   .cases z
  have e2:k=-(.builtin "ValueError.__new__"):=by
   unfold isNew at J;split at J
   .rw[aw]at J;rw[J]
   .cases J
  let(nm,bs,mro,ns,q,hd,sn,sub,ab,col,Y):=cd;dsimp only at y O b5;have e4:Y=false:=by simpa using b5
  subst e4;split at y
  .rename_i v tl;rw[ae]at y;have e3:v=.ref C:=by
    have:=y.1;unfold isRef at this;split at this
    .rw[aw]at this;rw[this]
    .cases this
   subst e1 e2 e3;exact(nm,q,ns,bs,tl,hd,sn,sub,ab,col,dd,k0,k1,k2,k3,k5,m,U _ _ e,O,hq,(wy U y.2).tail)
  .cases y
 .cases b
def cO(e C l:AQ)(dx:Option AQ):Heap->Prop:=λh=>h.get? e=-(exO C l dx)
def FW{P:AK}{e:AQ}{dx:Option AQ}(he:h.get? e=-(exO C l dx)):ObjOk P w H h e (.ext (cO e C l dx)):=
 (he,(_,he),λh1 h2 a k=>k _ a)
def Yi:(exH h C us).get? (h.objs.size+1)=-(exO C h.objs.size none):=FN
section
variable {X:Cx} {CX:CXT} {k:Nat} {f C:AQ} {fd:AJ} {ps:AD} {sp:Sp} {E:XK} {x:Str} {p pos apos:Pos} {e:AO} {es:AE} {t:TA}
def Yj{Q:VK}{vs:AR}(hC:ik X.K C f)(hfn:typeIn X.K (.ref f)=-(.type "function"))(F0:FnOk X.prog X.w X.K X.mg X.base CX k f fd ps sp)(hr:Room (k+1) X.A)(hb:Binds X.K fd ps [])(hx:gZ CX X E)(I:Inv X p9 Y H s)(r:Vals vs us)(hl:us⁻¹<=sizeLine)(h:∀a l,H a=none->s.heap.get? a=none->sp (.ref a::vs) (upd H a (.ext (cO a C l none))) (λv H2=>v=.non/\Q (.ref a) H2) E):
  ↥X (call (.ref C) us) (EP X p9 Y Q) X.xe s:=by
 let(nm,q,N,bs,bm,hd,sn,sub,ab,col,dd,k0,k1,k2,k3,k5,m,a1,a2,a3,a4):=wC I.kIn hC;have hq:=h ((~~~s)+1) (~~~s) (I.hok.fresh (fm _)) (Heap.get?_none_of_le (fm _));have kp:∀b o,s.heap.get? b=-o->(exH s.heap C us).get? b=-o:=λb o e=>lK e;have O:Inv X p9 Y (upd H ((~~~s)+1) (.ext (cO ((~~~s)+1) C (~~~s) none))) {s with heap:=exH s.heap C us,toks:=s.toks}:=I.laid (t':=s.toks) kp (fm _) (FW Yi);have r2:Vals (V.ref ((~~~s)+1)::vs) (Value.ref ((~~~s)+1)::us):=.cons rfl r;have J:(Value.ref ((~~~s)+1)::us)⁻¹=ps⁻¹:=by have e:=r2⁻¹;rw[F0.len _ _ _ _ hq]at e;exact e.symm
 have z:=hb _ (Value.ref ((~~~s)+1)::us) O.kIn (by rw[eM];exact J);rw[eM]at z;obtain⟨of,hof,hfc⟩:∃o,s.heap.get? f=-o/\o.cls=.type "function":=by let(o,eo,ec):=a9.mp (show(X.K.lookup f).map (·.cls)=-(.type "function") from hfn);exact(o,I.kIn _ _ eo,ec)
 let(U,g,d,tk,os):=s;show X7 (h:=U) F.excBase_ValueError a4 a1 a2 a3 hof hfc hl ?_;show wpAny_call (kn (F0.run _ X.stack _ _ (Value.ref (U.objs.size+1)::us,[]) (Value.ref (U.objs.size+1)::us) _ _ E (hr.make C us [])
  (O.env0.make C us []) z r2 hq) λr s' y=>?_)
 cases r with
 |error e=>exact hx p9 Y _ _ e s' O y
 |ok fl=>
  cases fl with
  |ret u=>
   let(v,H',I3,rv,ev,q3):=O.after y;subst ev;exact(rv,(V.ref (U.objs.size+1),H',I3,rfl,q3))
  |next=>exact False.elim y
  |brk=>exact False.elim y
  |cont=>exact False.elim y
def drp(H:Hp)(a:AQ):Hp:=λb=>if b=a then none else H b
def pW:drp H a a=none:=by unfold drp;rw[if_pos rfl]
def dJ(h:b≠a):drp H a b=H b:=by unfold drp;rw[if_neg h]
def pX(h:H b=none):drp H a b=none:=by unfold drp;split<;>first|rfl|exact h
def Inv.drop{J:Hp}(I:Inv X p9 Y H s){ob:Obj}{y:HO}(U:H a=-(.frz ob y))(h0:J a=none)(ht:∀b xs,X.H₀ b=-(.tup xs)->J b=-(.tup xs))(hf:∀b o u,X.H₀ b=-(.frz o u)->J b=-(.frz o u))(O:∀b ps,X.H₀ b=-(.tbl ps)->∃m,J b=-(.tbl (ps++m))):Inv X p9 Y (drp H a) s:=by
 have ne:∀{b:AQ}{o:HO},H b=-o->(∀z w,o≠.frz z w)->b≠a:=λe n q=>by rw[q,U]at e;cases e;exact n _ _ rfl
 show(I.ok,I.os,I.bare,(I.base.keep,I.base.slot,λb u q n hx=>pX (I.base.free b u q n hx),I.base.there,λb xs q=>?_,λb u v q=>?_,λb ps q=>?_),I.loc,I.cell,pX I.free,λx c e=>pX (I.freeC x c e),λp hpp=>?_,λb u q=>?_,I.len)
 .rw[dJ (λe=>by have z:=ht b xs q;rw[e,h0]at z;cases z)];exact I.base.tups b xs q
 .rw[dJ (λe=>by have z:=hf b u v q;rw[e,h0]at z;cases z)];exact I.base.frzs b u v q
 .rw[dJ (λe=>by let(m,z):=O b ps q;rw[e,h0]at z;cases z)];exact I.base.tbls b ps q
 .let(p1,p2,p3):=I.pin p hpp;exact(p1,pX p2,p3)
 .by_cases O:b=a
  .rw[O,pW]at q;cases q
  .rw[dJ O]at q;exact(I.hok b u q).stay (λt t t z=>z) (λc z=>by rw[dJ (ne z λt t=>by simp)];exact z) λc xs z=>by rw[dJ (ne z λt t=>by simp)];exact z
def Yk{A:AM}{env:Env}{x:Sem AN}{Q:Flow->AI->Prop}(hh:A.handled=none)(h:wpAny (model prog w) A x (λv y=>∃e l dx,v=.ref e/\FT y.heap C f/\y.heap.get? e=-(exO C l dx)/\E' (.ref e) y) E' s):
  wpAny (model prog w) A (raiseStmt env (-x) none) Q E' s:=by
 unfold raiseStmt;show af (cm h (λv y z=>?_) λu u x=>x);let(e,l,dx,rfl,Y,he,hE):=z;let(nm,q,N,bs,bm,hd,sn,sub,ab,col,dd,k0,k1,k2,k3,k5,m,O,a2,a3,U):=Y;have J:(Value.ref C::bm).contains (.type "BaseException")=true:=by rw[List.contains_cons,Fd U (!1),Bool.or_true]
 unfold exO at he;let(hp,g,d,tk,os):=y;repeat (first|with_reducible show eJ he ?_|with_reducible show eJ O ?_ | (with_reducible show wpAny_isSubtype_exc O ?_;rw[J])|wp_step)
 exact wpAny_raiseNew_none hh hE
def Yl{E2:XK}(hc:X.calm)(hC:ik X.K C f)(hfn:typeIn X.K (.ref f)=-(.type "function"))(hk:PySem.W.keepIn X.K (.ref C))(F0:FnOk X.prog X.w X.K X.mg X.base CX k f fd ps sp)(hr:Room (k+1) X.A)(hg:Gl X x)(hm:X.mg x=-(.ref C))(hb:Binds X.K fd ps [])(hx:gZ CX X E)(hT:Throws X E2)(ha:PA X (e::es) t){rpos:Pos}(hdb:(x==("__debug__":Str))=false:=by decide)(he:starEach (e::es) X.env=(false,eval e X.env)::starEach es X.env:=by rfl)(hpl:(backTo pos (starEach es X.env)).any (·.1)=false:=by rfl):
  PS X (.Raise (-(.Call (.Name x p) (e::es) [] pos)) none rpos) (λu Y H=>t Y H λvs H1=>vs⁻¹<=sizeLine/\∀(a l:AQ)(Q':Hp->Prop),H1 a=none->(∀H2 ob dx y,H2 a=-(.frz ob y)->ob.cls=.ref C->ob.dict=-dx->(∃J,ob=exO C J (-dx))->E2 (.ref C) (-dx) (drp H2 a)->Q' H2)->sp (.ref a::vs) (upd H1 a (.ext (cO a C l none))) (λv H2=>v=.non/\Q' H2) E):=by
 intro p9 s Y H D I h;rw[arm_exec_Raise];show af (ko (Yk (C:=C) (f:=f) (I.ok.hd hc) (af (cm (jv (gY I hg hm ?_ hdb)) (λv s₃ h₃=>af (ko (am h₃))) λu u x=>x))));show PySem.W.callWith_K (h₀:=X.base) I.ok.mod.kin hk (thn (ha pos p9 s Y H _ I h) λus s1 zZ=>?_) he hpl;let(vs,H1,O,r,hl,q):=zZ;show(O.kIn,?_);show cm (Yj (Q:=λv H2=>∃a J dx y,v=.ref a/\s1.heap.get? a=none/\H1 a=none/\H2 a=-(.frz (exO C J (-dx)) y)/\E2 (.ref C) (-dx) (drp H2 a)) hC hfn F0 hr hb hx O r (by change us⁻¹<=sizeLine;rw[<-r⁻¹];exact hl) λa l hn hs=>?_) (λv s2 z=>?_) λu u z=>z
 .show q a l _ hn λH2 ob dx y e1 u u e2 e3=>?_;let(J,rfl):=e2;exact(a,J,dx,y,rfl,hs,hn,e1,e3)
 .let(v',H2,I2,rv,a,J,dx,y,rfl,hs,hn,h2,qE):=z;obtain rfl:v=Value.ref a:=rv;have U:=(show ObjOk X.prog X.w H2 s2.heap a (.frz (exO C J (-dx)) y) from I2.hok a _ h2).1;show(a,J,-dx,rfl,wC I2.kIn hC,U,?_);show hT p9 Y (drp H2 a) s2 a _ _ (I2.drop h2 hn O.base.tups O.base.frzs O.base.tbls) U rfl rfl (λo ho=>?_) pW qE;by_cases hx:a∈X.ex
  .exact hx
  .let(o',e'):=O.base.there a o ho hx;rw[hs]at e';cases e'
def lM(K:PF)(S:AQ):Bool:=specialIn K (.ref S) "__getattribute__"==-(-(.builtin "type.__getattribute__"))&&readsIn K S (.type "type")&&(match findCls K (.ref S) (.type "type") "__init__" with|some (.val (.builtin i))=>i=="ValueError.__init__" |_=>false)
def Ym{K:PF}{S:AQ}(h:lM K S):specialIn K (.ref S) "__getattribute__"=-(-(.builtin "type.__getattribute__"))/\readsIn K S (.type "type")=true/\findCls K (.ref S) (.type "type") "__init__"=-(.val (.builtin "ValueError.__init__")):=by
 unfold lM at h;rw[ae,ae,aw]at h;let((h1,h2),y):=h;show(h1,h2,?_);split at y
 .rename_i i e;rw[aw]at y;rw[e,y]
 .cases y
def Yn{S:AQ}{y:Str}{yp:Pos}{pl:Sem Bool}(hS:lM X.K S)(hC:ik X.K C f)(hg:Gl X y)(hm:X.mg y=-(.ref S))(ha:PA X (e::es) t)(O:(y==("__debug__":Str))=false:=by decide)(he:starEach (e::es) X.env=(false,eval e X.env)::starEach es X.env:=by rfl)(hpl:(backTo pos (starEach es X.env)).any (·.1)=false:=by rfl)(ht:eval (.Call (.Attribute (.Name y yp) "__init__" apos) (e::es) [] pos) X.env=(do
   let ov <-eval (.Name y yp) X.env
   standAt apos.atName
   let(f,first) <-holding [ov] (getMethod ov "__init__" pl)
   callWith pos f first (backTo pos (starEach (e::es) X.env)) (backToKw pos (keywordEach [] X.env))):=by rfl):
  PE X (.Call (.Attribute (.Name y yp) "__init__" apos) (e::es) [] pos) (λY H Q=>t Y H λvs H1=>∃a l v,vs=[.ref a,v]/\H1 a=-(.ext (cO a C l none))/\∀l',Q .non (upd H1 a (.ext (cO a C l' none)))):=by
 intro p9 s Y H Q I h;let(s1,s2,s3):=Ym hS;show PySem.W.methodCall_KW (pl:=pl) (gY I hg hm ?_ O) ht;show PySem.W.method_cls I.kIn s1 (PySem.W.cls_value I.kIn s2 s3 rfl ?_);have I0:=I.tok (s.toks+1);show callWith_builtin1 (thn (ha pos p9 _ Y H _ I0 h) λus s' zZ=>?_) he hpl;let(vs,H1,J,r,a,l,v,ev,hH,q):=zZ;subst ev;let(u1,u2,rfl,ru1,ru2):=Vals.two r;obtain rfl:u1=Value.ref a:=ru1;let(nm,qq,N,bs,bm,hd,sn,sub,ab,col,dd,k0,k1,k2,k3,k5,m,a1,a2,a3,a4):=wC J.kIn hC;have U:s'.heap.get? a=-(exO C l none):=(show ObjOk X.prog X.w H1 s'.heap a (.ext (cO a C l none)) from J.hok a _ hH).1;let(hp,g,d,tk,os):=s';show X8 (h:=hp) (e:=a) (us:=[u2]) F.excBase_ValueError a4 a1 U (by rw[eT];change 1<=_;decide) λh' kp hl'=>?_;let(l',_,z):=hl';exact(.non,_,J.write (t':=tk) (by rw[hH];trivial) (.inl rfl) (λb u hb q=>kp b u hb q) (_,z) (FW z),rfl,q l')
def pY(K:PF)(C:AQ)(f:Str):Bool:=(clsIn K C).any (λcd=>lL cd.mro&&cd.hasDict)&&takerIn K C f==-none&&findIn K (.ref C) "__setattr__"==-(-(.builtin "object.__setattr__"))
def Yo{J:AO}{tv:TE}{g:Str}{pos':Pos}(hs:pY X.K C g)(ho:PE X o ta)(hv:PE X J tv)(hw:swapsWith J (-(.Attribute o g pos')) pos.line X.env=pure false):
  PS X (.Assign [.Attribute o g pos'] J pos) (λD Y H=>tv Y H λv H1=>ta Y H1 λx H2=>∃a l,x=.ref a/\H2 a=-(.ext (cO a C l none))/\
   ∀dx od ob,H2 dx=none->dx≠a->ob.cls=.ref C->ob.dict=-dx->PySem.W.notCls ob=true->(∃l',ob=exO C l' (-dx))->D.nx Y (upd (upd H2 a (.frz ob (.own a))) dx (.frz od (.xd [(g,v)])))):=by
 intro p9 s Y H D I h;unfold pY at hs;rw[ae,ae,aw,aw]at hs;let((h1,h2),h3):=hs;let(cd,hc,hd):=PySem.W.any_some h1;rw[ae]at hd;show plainObj_wpAny_Assign_Attribute (thn (hv p9 s Y H _ I h) λu s1 zZ=>?_) hw;let(y,H1,I1,ry,q):=zZ;show thn (ho p9 s1 Y H1 _ I1 q) λov U zZ=>?_;let(x,H2,I2,rx,a,l,ex,ea,q2):=zZ;subst ex;obtain rfl:ov=Value.ref a:=rx;have hex:U.heap.get? a=-(exO C l none):=(show ObjOk X.prog X.w H2 U.heap a (.ext (cO a C l none)) from I2.hok a _ ea).1;show Yd I2.kIn hex hc hd.1 hd.2 h2 h3 λh' kp e1 hn=>?_;have hlt:=aE hex;have hne:U.heap.objs.size≠a:=gc hlt;let(od,es',ep',eo,rest):=id hn;have O:H2 U.heap.objs.size=none:=I2.hok.fresh (ay _);have I3:Inv X p9 Y (upd H2 a (.frz (exO C l (-U.heap.objs.size)) (.own a))) {U with heap:=h',toks:=U.toks+2}:=
  I2.write (t':=U.toks+2) (by rw[ea];trivial) (.inl rfl) (λb u hb q=>kp b u hb q) (_,e1) (e1,_,e1)
 have hn3:(upd H2 a (.frz (exO C l (-U.heap.objs.size)) (.own a))) U.heap.objs.size=none:=by rw[aH hne];exact O
 have I4:=I3.track (o:=.frz od (.xd [(g,y)])) (I2.fpOk (ay _) hn3) (eo,_,hn,λz=>by
  by_cases hz:z=g
  .subst hz;simp only[List.lookup,BEq.rfl,if_true];exact ry
  .have hb:(z==g)=false:=dL.mpr hz;simp only[List.lookup,hb,if_neg hz];trivial)
 exact(Y,_,I4,q2 U.heap.objs.size od _ O hne rfl rfl rfl (_,rfl))
def Yp{g:Str}(he:PE X o ta)(hb:attributeBase o g X.env (eval o X.env)=eval o X.env):
  PE X (.Attribute o g pos) (λY H Q=>ta Y H λx H1=>∃a C dx ob od y v,x=.ref a/\H1 a=-(.frz ob y)/\ob.cls=.ref C/\ob.dict=-dx/\PySem.W.notCls ob=true/\H1 dx=-(.frz od (.xd [(g,v)]))/\
   gB X.K C=true/\PySem.W.hasDictIn X.K C=true/\findIn X.K (.ref C) g=-none/\Q v H1):=by
 intro p9 s Y H Q I h;show Vi hb (thn (he p9 s Y H _ I h) λu s1 zZ=>?_);let(x,H1,I1,rx,a,C,dx,ob,od,y,v,ex,ea,hc,hd,hn,ed,x1,x2,x3,q):=zZ;subst ex;obtain rfl:u=Value.ref a:=rx;have ha:s1.heap.get? a=-ob:=(show ObjOk X.prog X.w H1 s1.heap a (.frz ob y) from I1.hok a _ ea).1;let(z,mA,hns,rl):=(show ObjOk X.prog X.w H1 s1.heap dx (.frz od (.xd [(g,v)])) from I1.hok dx _ ed);have rg:=rl g;rw[show List.lookup g [(g,v)]=-v by simp[List.lookup]]at rg;let(u',hu,ru):=RelO.some_of (v:=v) (o:=mA g) rg;have J:PySem.W.InstAt s1.heap a ob C (-od):=(ha,hc,hn,by rw[hd];exact z);let(U,O,hl'):=Di hns;have eo:U=od:=by rw[z]at O;exact(cy O).symm
 subst eo;have hl:PySem.W.lookIn g U=-(-u'):=by rw[hl' g,hu]
 let(hp,gg,dd,tk,os):=s1;exact Yg I1.kIn (Fg x1) J (PySem.W.findObj_own x2 x3 rfl hl) (Vf ru) (v,H1,I1.tok _,ru,q)
end
def Yq(t:SetTable)(es:Array (Int×AN))(h:Int)(x:AN):(layNew t es h x).2.1.led=t.led:=by
 unfold layNew;split
 .unfold SetTable.orStandIn;dsimp only;split<;>rfl
 .rfl
def Yr(t:SetTable)(es:Array (Int×AN))(n:Nat):(relayAll t es n).2.1.led=t.led/\((relayAll t es n).2.1.plain=true->t.plain=true):=by
 unfold relayAll;split
 .rename_i t' y e;dsimp only;unfold SetTable.relaid SetTable.laid at e;split
  .cases hc:SetTable.layClean (SetTable.sizeAbove n-1) (es.map (·.1)) with
   |none=>rw[hc]at e;cases e
   |some J=>rw[hc]at e;cases e;exact(rfl,λz=>z)
  .exact (rfl,λz=>nomatch (show false=true from z))
 .exact (rfl,λz=>nomatch (show false=true from z))
def isTx(prog:AK)(w:World)(e:Int×AN):Prop:=∃k tk,e=((strKind prog w).hash k,.str k tk)
def iW(e:Int×AN):Str:=match e.2 with |.str k _=>k|_=>⟨#[]⟩
def SetL(prog:AK)(w:World)(h:Heap)(a:AQ)(ks:AD)(L:Bool):Prop:=
 ∃es ep t,h.get? a=-(.type "set",none,.set es ep t,#[])/\(∀e∈es.toList,isTx prog w e)/\(es.toList.map iW).Perm ks/\es.size<scanBound/\t.fits es.size=true/\t.led=L/\(t.plain=true->es.size=0)
def isTx.el{l:List (Int×AN)}(h:∀e∈l,isTx prog w e):ElemsOf (strKind prog w) l:=λe he=>by
 let(k,tk,rfl):=h e he;exact((k,strKind_is prog w k tk,rfl),rfl)
def isTx.is{e:Int×AN}(h:isTx prog w e)(k:Str):(strKind prog w).is k e.2=decide (iW e=k):=by let(k',tk,rfl):=h;have:=KeyKind.is_eq_decide (knd:=strKind prog w) (strKind_is prog w k' tk) k;rw[this];change decide (k=k')=decide (k'=k);rw[hZ,br,br];exact eq_comm
section
variable {prog:AK} {w:World} {A:AM} {E:AG} {s:AI} {a:AQ} {ks:AD} {L:Bool} {k:Str} {tk:Tok}
def putK(ks:AD)(k:Str):AD:=if k∈ks then ks else ks++[k]
def SetL.store{es es':Array (Int×AN)}{ep:Nat}{t t':SetTable}(ho:h.get? a=-(.type "set",none,.set es ep t,#[])):
  (h.update a (Obj.putSet es' t')).get? a=-(.type "set",none,.set es' (ep+1) t',#[]):=by
 have:=fh (Obj.putSet es' t') ho (by rw[putSet_of es' t' rfl];rfl);rw[putSet_of es' t' rfl]at this;exact this
theorem Ys{Q:Bool->AI->Prop}(hS:SetL prog w s.heap a ks L)(hr:ks⁻¹+1<scanBound)(h:∀h' b,Heap.SameBut a s.heap h'->SetL prog w h' a (putK ks k) L->Q b {s with heap:=h'}):
  wpAny (model prog w) A (setAddHashed a (.str k tk) ((strKind prog w).hash k)) Q E s:=by
 let(es,ep,t,ho,hel,hp,hb,hf,hL,hpl):=hS;have hE:=isTx.el hel;have hn:es.size=ks⁻¹:=by rw[<-hp.length_eq,ah,bq]
 have hsc:(Value.str k tk).scannable=true:=rfl;have hkey:=strKind_is prog w k tk;unfold setAddHashed setAddHashedIn;show dE (af (gp ho rfl hf ?_));dsimp only;rw[byScan_of hsc hb hE];simp only[↓reduceIte];unfold setAddByScan;show af ?_;show af (eS ?_);show af (wpAny_setScan_of hkey ho rfl hf hE ?_);cases hr':List.findIdx? (λe=>(strKind prog w).is k e.2) es.toList with
 |some j=>
  dsimp only;let(hj,hpj,_):=gz.mp hr';have hin:k∈ks:=by have hm:=fq hj;rw[(hel _ hm).is k,br]at hpj;exact hp.mem_iff.mp (bX.mpr (_,hm,hpj))
  show am (am ?_);have e:s={s with heap:=s.heap}:=by cases s;rfl
  have q:=h s.heap false (Heap.SameBut.refl a s.heap) (by unfold putK;rw[if_pos hin];exact(es,ep,t,ho,hel,hp,hb,hf,hL,hpl));rw[e];exact q
 |none=>
  dsimp only;have hnin:k∉ks:=λhin=>by
   let(e,he,ek):=bX.mp (hp.mem_iff.mpr hin);have:=List.findIdx?_eq_none_iff.mp hr' e he;rw[(hel e he).is k,cp ek]at this;cases this
  have hgw:∀(b:Bool) {s₁:AI} {Q':Unit->AI->Prop},Q' () s₁->wpAny (model prog w) A (match b with|true=>rule "set.scan.the-table-gave-way" |false=>pure ()) Q' E s₁:=
   λb s₁ Q' hq=>by cases b<;>first|exact am hq|exact eS hq
  have J:=layNew_perm t es ((strKind prog w).hash k) (.str k tk);have O:=layNew_fits t es ((strKind prog w).hash k) (.str k tk);have Y:=Yq t es ((strKind prog w).hash k) (.str k tk);generalize hLy:layNew t es ((strKind prog w).hash k) (.str k tk)=Ly at J O Y ⊢;let(y,t1,wd,gv):=Ly;dsimp only at J O Y ⊢;rw[ij]at J;have hel1:∀e∈y.toList,isTx prog w e:=λe he=>by
   rcases bp.mp (J.mem_iff.mp he) with z|z
   .exact hel e z
   .rw[ba.mp z];exact(k,tk,rfl)
  have hp1:(y.toList.map iW).Perm (putK ks k):=by unfold putK;rw[if_neg hnin];show(J.map iW).trans ?_;rw[c9];exact hp.append_right [k]
  have hz1:y.size=ks⁻¹+1:=by rw[<-bq,J.length_eq,ax,bq,hn];rfl
  have hb1:y.size<scanBound:=by lia
  show af (hgw _ ?_);have tail:∀U:SetTable,U.fits y.size=true->U.led=L->U.plain=false->wpAny (model prog w) A (do
    storeSet a y U
    if(!wd&&U.tooFull)=true then do
      (match(relayAll U y (SetTable.grown y.size)).2.2 with|true=>rule "set.scan.the-table-gave-way" |false=>pure ())
      storeSet a (relayAll U y (SetTable.grown y.size)).1 (relayAll U y (SetTable.grown y.size)).2.1
      pure (-true)
     else pure (-true)) (λo s'=>o=-true/\∃h',s'={s with heap:=h'}/\Heap.SameBut a s.heap h'/\SetL prog w h' a (putK ks k) L) E s:=by
   intro U f2 l2 p2;show af (wpAny_storeSet_of ho rfl ?_ (fits_of_scanBound hb1));have g1:=SetL.store (es':=y) (t':=U) ho;have sb1:=c8 s.heap a (Obj.putSet y U);split
   .have rp:=relayAll_perm U y (SetTable.grown y.size);have rf':=relayAll_fits U y (SetTable.grown y.size);have rl:=Yr U y (SetTable.grown y.size);generalize relayAll U y (SetTable.grown y.size)=Rl at rp rf' rl ⊢;let(es2,t3,gv2):=Rl;dsimp only at rp rf' rl ⊢;have hz2:es2.size=y.size:=by rw[<-bq,rp.length_eq,bq]
    show af (hgw _ ?_);show af (wpAny_storeSet_of g1 rfl ?_ (fits_of_scanBound (by rw[hz2];exact hb1)));have g2:=SetL.store (es':=es2) (t':=t3) g1;show am (rfl,_,rfl,sb1.trans (c8 _ a _),es2,_,t3,g2,λe he=>hel1 e (rp.mem_iff.mp he),(rp.map iW).trans hp1,by rw[hz2];exact hb1,rf',rl.1.trans l2,λz=>?_);rw[p2]at rl;cases rl.2 z
   .exact am (rfl,_,rfl,sb1,y,_,U,g1,hel1,hp1,hb1,f2,l2,λz=>by rw[p2]at z;cases z)
  split
  .show af ?_;rw[hashByValue_scannable 8 hsc];show am ?_;show cm (tail {t1 with plain:=false} (SetTable.fits_plain_off O) (Y.trans hL) rfl) (λo s' z=>?_) λx x z=>z;let(rfl,h',rfl,sb,sl):=z;exact am (h h' true sb sl)
  .rename_i hnp;show af (am ?_);simp only[↓reduceIte];show cm (tail t1 O (Y.trans hL) (!!hnp)) (λo s' z=>?_) λx x z=>z;let(rfl,h',rfl,sb,sl):=z;exact am (h h' true sb sl)
end
def met(val:Nat->Str)(i:Nat):AD:=(List.range i).foldl (λks j=>putK ks (val j)) []
def wD(val:Nat->Str)(i:Nat):met val (i+1)=putK (met val i) (val i):=by unfold met;rw[List.range_succ,List.foldl_append];rfl
def Yt(ks:AD)(k:Str):(putK ks k)⁻¹<=ks⁻¹+1:=by
 unfold putK;split
 .omega
 .rw[ax];exact ay _
def Ga(val:Nat->Str):∀i,(met val i)⁻¹<=i
 |0=>ay _
 |i+1=>by
  rw[wD];have:=Yt (met val i) (val i);have:=Ga val i;lia
def cH(w:World):Bool:=w.params.followText "set-order"
section
variable {prog:AK} {w:World} {A:AM} {E:AG} {R:Result->AI->Prop} {I:AQ} {fp wr:List AQ} {GG:Array GenState->Array GenState->Prop} {n:Nat} {P:Nat->AN->Prop} {St:Nat->AI->Prop} {L:Bool}
theorem Yu(W:WalksS prog w A.in1 I fp wr GG n P St)(S:AQ)(hSf:S∉fp)(val:Nat->Str)(hval:∀i v,P i v->∃t,v=.str (val i) t)(J:n+1<scanBound):
  ∀(j i:Nat)(s:AI),n-i=j->i<=n->St i s->SetL prog w s.heap S (met val i) L->
   (∀s',Moved (S::wr) GG s s'->SetL prog w s'.heap S (met val n) L->R (.ok (.ret .none)) s')->
   codeAny (model prog w) A (.builtin "set.update.loop" ([.ref S,.ref I],[])) R s:=by
 have hSw:S∉wr:=λh=>hSf (W.sub _ h);have sub:∀b∈wr,b∈S::wr:=λb J=>bP _ J;have y:∀{s s':AI}{ks:AD},Moved wr GG s s'->SetL prog w s.heap S ks L->SetL prog w s'.heap S ks L:=λm O=>by
  let(es,ep,t,ho,r):=O;exact(es,ep,t,m.heap S _ hSw ho,r)
 intro j;induction j with
 |zero=>
  intro i s hj hi st O hR;obtain rfl:i=n:=by lia
  show ip PyProof.Rows.F.entry_set_update_loop ?_;rw[iS iF _];change wpAny _ A.in1 (pyNext (.ref I) >>= _) _ _ s;show af (W.done s _ _ st λs' m=>?_);change wpAny _ A.in1 (ret Value.none) _ _ s';exact am (hR s' (m.mono sub) (y m O))
 |succ j ih=>
  intro i s hj hi st O hR;have hlt:i<n:=by lia
  show ip PyProof.Rows.F.entry_set_update_loop ?_;rw[iS iF _];change wpAny _ A.in1 (pyNext (.ref I) >>= _) _ _ s;show af (W.item i s _ _ hlt st λv s' hP st' m=>?_);let(t,rfl):=hval i v hP;have hS':=y m O;change wpAny _ A.in1 (holding [Value.str (val i) t] (setAdd S (.str (val i) t)) >>= _) _ _ s';show af (dE ?_);unfold setAdd;show dE ?_;show af ((strKind prog w).pyHash (k:=val i) (strKind_is prog w _ _) ?_);have z:(met val i)⁻¹+1<scanBound:=by have:=Ga val i;lia
  show Ys (s:={s' with toks:=s'.toks+1}) hS' z λh' b sb Y=>?_;rw[<-wD]at Y;show am (plainId_quiet iF _,ih (i+1) _ (!0) hlt (W.frame _ s' _ _ st' (fm _) λb J o e=>?_) Y λs'' m'' U=>?_)
  .rw[sb.2 b (λh:b=S=>hSf (by rw[<-h];exact J))];exact e
  .show hR s'' (Moved.trans W.gtrans ((m.mono sub).then_heap (fm _) λb o J e=>?_) m'') U;rw[sb.2 b (λh:b=S=>J (by rw[h];exact aT))];exact e
end
section
variable {prog:AK} {w:World} {A:AM} {E:AG} {s:AI}
def eQ(w:World):Obj:={cls:=.type "set",dict:=none,data:=.set #[] 0 (.fresh 0 0 (!cH w))}
def Yv(a:AN){Q₁:AG}(h:Q₁ (.ref (~~~s)) {s with heap:=s.heap.push (eQ w)}):
  codeAny (model prog w) A (.call (.builtin "set.__new__") ([.type "set",a],[])) (wants Q₁ E) s:=by
 show codeAny_of_tree ?_;change wpAny _ A.in1 (do checkBuiltinCall "set.__new__" ([.type "set",a],[]);again (.builtin "set.__new__" ([.type "set",a],[]))) _ _ s;show af (wpAny_of_eq (PySem.F.newCall_set_1 a) (am (plainId_quiet PySem.F.plain_set_new _,ip PySem.F.entry_set_new ?_)));rw[iS PySem.F.plain_set_new _];unfold Builtin.«set.__new__» Builtin.Frozenset.newClass;have y:=sub_set_self;let(z,g,d,tk,os):=s;dsimp only;wp_walk
 show wpAny_askSetting (am ?_);dsimp only;simp only[newObj];show af (wpAny_alloc (am ?_));exact am h
theorem Yw{y:Array AN}{val:Nat->Str}(hh:A.handled=none)(hl:s.heap.IsList l y)(hv:∀(i:Nat)(v:AN),y[i]?=-v->∃t,v=Value.str (val i) t)(hb:y.size+1<scanBound)(h:∀(h':Heap)(tk:Nat),SetL prog w h' (~~~s) (met val y.size) (!cH w)->(∀b o,b<(~~~s)->s.heap.get? b=-o->h'.get? b=-o)->Q (.ref (~~~s)) {s with heap:=h',toks:=tk}):
  wpAny (model prog w) A (call (.type "set") [.ref l]) Q E s:=by
 let(c,tl,hmro):=fF.mro;have hmade:=fF.made;have hsub:=fF.sub;show wpAny_call (codeAny_of_tree ?_);change wpAny _ _ (callAny (.type "set") _) _ _ _;show am (Code.quiet_builtin _ (by ac_rfl),ip PySem.F.entry_type_call ?_);rw[Around.under_plain (weight_type_call_type "set" [.ref l] []) rfl];have h1:=fF.notType;have h2:=fF.canCreate;have hct:=PySem.F.typeCall_set_1 (.ref l);repeat (any_goals (first|assumption|wp_step))
 show kn (Yv (.ref l) (E:=E) (Q₁:=λobj O=>obj=.ref (~~~s)/\O={s with heap:=s.heap.push (eQ w)}) (rfl,rfl)) λr O hr=>?_;cases r with
 |error e=>exact hr
 |ok fl=>
  cases fl with
  |ret obj=>
   let(rfl,rfl):=hr;have hS:(s.heap.push (eQ w)).get? (~~~s)=-(eQ w):=bd _ rfl;have hT:Shared.TypeIs {s with heap:=s.heap.push (eQ w)} (.ref (~~~s)) "set":=(_,hS,rfl);have hli:=fF.init.lookup;have hbi:=fF.init.bind (.ref (~~~s));repeat (any_goals (first|assumption|wp_step))
   show kn (g0 (R:=wants (λr U=>r=.none/\∃h' tk,U={s with heap:=h',toks:=tk}/\SetL prog w h' (~~~s) (met val y.size) (!cH w)/\
     (∀b o,b<(~~~s)->s.heap.get? b=-o->h'.get? b=-o)) E) fF.init.plain PySem.F.entry_set_init (check_set_init_1 hT ?_)) λr₂ U z=>?_
   .let(ol,hol,hcl,nl,hdl):=hl;let(ocls,odict,odata,J):=ol;simp only at hcl hdl;subst hcl;subst hdl;have hol':(s.heap.push (eQ w)).get? l=-{cls:=.type "list",dict:=odict,data:=.seq y nl,slots:=J}:=ag _ hol;have hsls:=PySem.F.sub_list_set;have hslf:=PySem.F.sub_list_frozenset;have hne:(Value.type "list"==Value.type "dict")=false:=by decide
    have hl1:(s.heap.push (eQ w)).IsList l y:=(_,hol',rfl,nl,rfl);unfold Builtin.«set.__init__» noKeywords Builtin.Frozenset.updateFrom;generalize hPI:pyIter=PI;unfold eQ at hS;wp_walk
    subst hPI;show ki hl1 ?_;show af (wpAny_runValue ?_);have hlS:l<(~~~s):=aE hol;have hh3:A.in1.in1.in1.handled=none:=by simp[hh]
    have hneI:l≠(s.heap.push (eQ w)).objs.size:=by rw[cK];exact ci (eI hlS)
    have hSf:(~~~s)∉[(s.heap.push (eQ w)).objs.size,l]:=by rw[cK];simp only[bb,ba,dP,io,not_or];exact(ci (gu _),gc hlS)
    show Yu (L:=!cH w) ((Walks.list hh3 _ l hneI y).toS) (~~~s)
     hSf val hv hb (y.size-0) 0 _ (!0) (gS _)
     ((_,bd _ rfl,rfl,rfl),(hl1.push _)) ?hS0 ?hR
    case hS0=>
     have hget:=ag {cls:=.type "list_iterator",data:=.fields #[.ref l,.int 0 0]} hS;exact(#[],0,.fresh 0 0 (!cH w),hget,λe he=>(nomatch he),fx _,by unfold scanBound;exact Nat.zero_lt_succ _,(by cases(!cH w)<;>rfl),rfl,λx=>rfl)
    case hR=>
     intro s' hm hS';let(h',g',d',tk',os'):=s';have eg:g'=s.gens:=hm.gens;have ed:d'=s.drawn:=hm.drawn;have eo:os'=s.os:=hm.os;subst eg;subst ed;subst eo;change wpAny _ _ _ _ _ _;show am ?_;change wpAny _ _ (ret Value.none) _ _ _;show am (rfl,h',tk',rfl,hS',λb o hb e=>?_);have hb1:b≠(~~~s):=ci hb;have hb2:b≠(s.heap.push (eQ w)).objs.size:=by rw[cK];exact ci (eI hb)
     exact hm.heap b o (by simp only[bb,ba,dP,io,not_or];exact(hb1,hb2)) (ag _ (ag _ e))
   .cases r₂ with
    |error e=>exact z
    |ok Y=>
     cases Y with
     |ret r=>
      let(rfl,h',tk,rfl,hS',hk'):=z;repeat (any_goals (first|assumption|wp_step))
      exact h _ _ hS' hk'
     |_=>exact z.elim
  |_=>exact hr.elim
end
def Gb:Slot "set" "__iter__" "set.__iter__":=
 .of (owner:="set") (n:="__iter__") (by rw[typeLookup_type,builtinLookup_eq_fast];rfl') (by ac_rfl) (by ac_rfl) (by ac_rfl)
  (by first|exact .inl (by ac_rfl)|exact .inr (by ac_rfl)) (by rw[isSubtype_type];rfl')
def lN:Slot "set_iterator" "__next__" "set_iterator.__next__":=
 .of (owner:="set_iterator") (n:="__next__") (by rw[typeLookup_type,builtinLookup_eq_fast];rfl') (by ac_rfl) (by ac_rfl) (by ac_rfl)
  (by first|exact .inl (by ac_rfl)|exact .inr (by ac_rfl)) (by rw[isSubtype_type];rfl')
def Gd:Slot "set_iterator" "__iter__" "set_iterator.__iter__":=
 .of (owner:="set_iterator") (n:="__iter__") (by rw[typeLookup_type,builtinLookup_eq_fast];rfl') (by ac_rfl) (by ac_rfl) (by ac_rfl)
  (by first|exact .inl (by ac_rfl)|exact .inr (by ac_rfl)) (by rw[isSubtype_type];rfl')
def Yx:entryFor table "set.__iter__"=-Builtin.«frozenset.__iter__»:=
 entryFor_alias (id':="frozenset.__iter__") (by rfl') rfl (by ac_rfl) (by rfl')
def Yy:entryFor table "set_iterator.__next__"=-Builtin.«set_iterator.__next__»:=entryFor_of_fast (by rfl')
def Yz:entryFor table "set_iterator.__iter__"=-Builtin.«dict_keyiterator.__iter__»:=
 entryFor_alias (id':="dict_keyiterator.__iter__") (by rfl') rfl (by ac_rfl) (by rfl')
def YB(a:AN):argsOk "set.__iter__" ([a],[]):=by unfold argsOk;rfl'
def YC(a:AN):argsOk "set_iterator.__next__" ([a],[]):=by unfold argsOk;rfl'
def YD(a:AN):argsOk "set_iterator.__iter__" ([a],[]):=by unfold argsOk;rfl'
def siO(f:AN)(i:Nat)(S:AQ)(n ep:Nat):Obj:={cls:=.type "set_iterator",data:=.fields #[f,rawInt i,.ref S,rawInt n,rawInt ep]}
def dZ(es:Array (Int×AN))(ep:Nat)(t:SetTable):Obj:=(.type "set",none,.set es ep t,#[])
section
variable {prog:AK} {w:World} {A:AM} {E:AG} {s:AI} {I S T:AQ} {es:Array (Int×AN)} {ep:Nat} {t:SetTable}
def ite_no{y:Type}{c:Prop}[Decidable c]{a b:Sem y}{Q:y->AI->Prop}(hc:¬c)(h:wpAny (model prog w) A b Q E s):wpAny (model prog w) A (if c then a else b) Q E s:=by rw[if_neg hc];exact h
def ite_yes{y:Type}{c:Prop}[Decidable c]{a b:Sem y}{Q:y->AI->Prop}(hc:c)(h:wpAny (model prog w) A a Q E s):wpAny (model prog w) A (if c then a else b) Q E s:=by rw[if_pos hc];exact h
def Ge{f:AN}(hi:s.heap.get? I=-(siO f i S n ep))(h:Q (.ref I) s):wpAny (model prog w) A (pyIter (.ref I)) Q E s:=by have y:s.TypeIs (.ref I) "set_iterator":=(_,hi,rfl);show wpAny_pyIter_slot y Gd (fv Gd y Yz ?_ (YD _));change wpAny _ _ (ret (.ref I)) _ _ s;exact am (_,rfl,"set_iterator",_,y,lN.lookup,h)
def pZ{f:AN}{Q:Option AN->AI->Prop}(hi:s.heap.get? I=-(siO f i S es.size ep))(ho:s.heap.get? S=-(dZ es ep t))(J:t.fits es.size)(h:wpAny (model prog w) A.in1 (if let .int slot _:=f then do
   match <-setNext S slot.toNat i ep with
   |some (x,next)=>
    setField (.ref I) 0 (rawInt next)
    setField (.ref I) 1 (rawInt ((i:Int)+1))
    ret x
   |none=>setField (.ref I) 2 .none;raiseNew (<-newExc (.type "StopIteration") [])
   else do
   let some places <-seqItems? f|unsupported "internal:set_iterator"
   match places[i]? with
   |some (.int place _)=>
    let x <-setNextDrawn S place.toNat ep
    setField (.ref I) 1 (rawInt ((i:Int)+1))
    ret x
   |some _=>unsupported "internal:set_iterator"
   |none=>setField (.ref I) 0 (rawInt 0);setField (.ref I) 2 .none;raiseNew (<-newExc (.type "StopIteration") [])) (λfin s'=>∃v,fin=.done (.ret v)/\Q (-v) s') (λe s'=>s'.TypeIs e "StopIteration"/\Q none s') s):
  wpAny (model prog w) A (pyNext (.ref I)) Q E s:=by
 have y:s.TypeIs (.ref I) "set_iterator":=(_,hi,rfl);unfold pyNext;show af (wpAny_attempt (gt (name:=⇑"__next__") y lN
  (fv lN y Yy ?_ (YC _))))
 unfold Builtin.«set_iterator.__next__»;show af (am ?_);show af (wpAny_fieldsOf hi rfl ?_);dsimp only[siO,rawInt];show af (wpAny_setEntries_of ho rfl J ?_);show ite_no (!2) ?_;show cm h (λfin s' z=>?_) λe s' z=>?_
 .let(v,rfl,q):=z;exact(v,rfl,am q)
 .exact af (wpAny_isInstance z.1 isSubtype_stop (am z.2))
def Gf{Q:Fin->AI->Prop}(hh:A.handled=none)(h:∀e s',s'.TypeIs e "StopIteration"->(∀b o,s.heap.get? b=-o->s'.heap.get? b=-o)->s'={s with heap:=s'.heap}->E' e s'):
  wpAny (model prog w) A (do raiseNew (<-newExc (.type "StopIteration") [])) Q E' s:=by
 show af ?_;simp only[newExc,newTuple];show af (gs ?_ (by size_fits));show af (m:=firstArgMember _ _) (wpAny_of_eq (a:=Value.none) (by first|rfl | (simp only[firstArgMember];rfl)) ?_);show gs ?_ (by size_fits);simp only[raiseNew];show af (wpAny_handled ?_);rw[hh];show af (am (wpAny_throw ?_));exact h _ _ (_,bd _ rfl,rfl) (λb o e=>ag _ (ag _ e)) rfl
def p6{f:AN}{k:Nat}{v:AN}(hi:h.get? I=-(siO f i S n ep)):
  (h.update I (Obj.mapFields (·.setIfInBounds k v))).get? I=-{cls:=.type "set_iterator",data:=.fields (#[f,rawInt i,.ref S,rawInt n,rawInt ep].setIfInBounds k v)}:=by
 have:=fh (Obj.mapFields (·.setIfInBounds k v)) hi (Obj.isFreed_of_fields (Obj.data_mapFields rfl _));exact this
def YF(hh:A.handled=none)(Y:S≠I)(hf:t.fits es.size)(slot:Nat->Nat)(ord:Nat->AN)(hn:∀(i:Nat)(s:AI)(Q:Option (AN×Nat)->AI->Prop)(E:AG),i<es.size->s.heap.get? S=-(dZ es ep t)->Q (-(ord i,slot (i+1))) s->wpAny (model prog w) A.in1 (setNext S (slot i) i ep) Q E s)(he:∀(s:AI)(Q:Option (AN×Nat)->AI->Prop)(E:AG),s.heap.get? S=-(dZ es ep t)->Q none s->wpAny (model prog w) A.in1 (setNext S (slot es.size) es.size ep) Q E s):
  Walks prog w A I [I,S] [I] es.size (λi v=>v=ord i) (λi h=>h.get? I=-(siO (rawInt (slot i)) i S es.size ep)/\h.get? S=-(dZ es ep t)) where
 sub:=λb J=>by simp at J;simp[J]
 frame:=λx x x st hk=>(hk I (!2) _ st.1,hk S (!2) _ st.2)
 item:=λi s Q E hi st U=>by
  show pZ st.1 st.2 hf ?_;show af (hn i s _ _ hi st.2 ?_);dsimp only;show af (hJ st.1 rfl (!2) ?_);have g1:=p6 (k:=0) (v:=rawInt (slot (i+1))) st.1;have O:(s.heap.update I (Obj.mapFields (·.setIfInBounds 0 (rawInt (slot (i+1)))))).get? I=-(siO (rawInt (slot (i+1))) i S es.size ep):=g1;show af (hJ O rfl (!2) ?_);have g2:=p6 (k:=1) (v:=rawInt ((i:Int)+1)) O;show am (_,rfl,U _ _ s.toks rfl (g2,?_) λb o J e=>?_)
  .exact (c8 ..).extBut _ _ Y ((c8 ..).extBut _ _ Y st.2)
  .have y:b≠I:=λz=>J (by simp[z]);exact(c8 ..).extBut _ _ y ((c8 ..).extBut _ _ y e)
 done:=λs Q E st U=>by
  show pZ st.1 st.2 hf ?_;show af (he s _ _ st.2 ?_);dsimp only;show af (hJ st.1 rfl (!2) ?_);show Gf (!!hh) λe s' hT hk es'=>(hT,?_);rw[es'];show U _ s.toks λb o J e=>?_;have y:b≠I:=λz=>J (by simp[z]);exact hk _ _ ((c8 ..).extBut _ _ y e)
 self:=λx x x x st U=>Ge st.1 U
theorem YG(hh:A.handled=none)(hne:S≠I)(hTI:T≠I)(hf:t.fits es.size)(ps:AA)(hl:ps⁻¹=es.size)(Y:Nat->Int×AN)(ho:∀i p,ps[i]?=-p->es[p]?=-(Y i)):
  Walks prog w A I [I,S,T] [I] es.size (λi v=>v=(Y i).2) (λi h=>h.get? I=-(siO (.ref T) i S es.size ep)/\h.get? S=-(dZ es ep t)/\h.get? T=-{cls:=.type "tuple",data:=.seq (ps.map λ(i:Nat)=>rawInt i).toArray}) where
 sub:=λb y=>by simp at y;simp[y]
 frame:=λx x x st U=>(U I (!2) _ st.1,U S (!2) _ st.2.1,U T (!2) _ st.2.2)
 item:=λi s Q E hi st J=>by
  show pZ st.1 st.2.1 hf ?_;have hp:ps[i]?=-(ps[i]'(!0)):=aI _;generalize ps[i]'(!0)=p at hp;show af (fE st.2.2 rfl ?_);dsimp only;have e1:(ps.map λ(i:Nat)=>rawInt i).toArray[i]?=-(rawInt (p:Nat)):=by rw[ib,aS,hp];rfl
  rw[e1];dsimp only[rawInt];show af ?_;unfold setNextDrawn;show af (gp st.2.1 rfl hf ?_);dsimp only;show ite_no (!2) ?_;rw[show((p:Nat):Int).toNat=p from rfl,ho i p hp];show am ?_;show af (hJ st.1 rfl (!2) ?_);have g2:=p6 (k:=1) (v:=rawInt ((i:Int)+1)) st.1;show am (_,rfl,J _ _ s.toks rfl (g2,(c8 ..).extBut _ _ hne st.2.1,(c8 ..).extBut _ _ hTI st.2.2) λb o y e=>?_);exact(c8 ..).extBut _ _ (λz=>y (by simp[z])) e
 done:=λs Q E st J=>by
  show pZ st.1 st.2.1 hf ?_;show af (fE st.2.2 rfl ?_);dsimp only;have e1:(ps.map λ(i:Nat)=>rawInt i).toArray[es.size]?=none:=by rw[ib,aS,eD (!0)];rfl
  rw[e1];dsimp only;show af (hJ st.1 rfl (!2) ?_);have g1:(s.heap.update I (Obj.mapFields (·.setIfInBounds 0 (rawInt 0)))).get? I=-(siO (rawInt 0) es.size S es.size ep):=p6 (k:=0) (v:=rawInt 0) st.1;show af (hJ g1 rfl (!2) ?_);show Gf (!!hh) λe s' hT U es'=>(hT,?_);rw[es'];show J _ s.toks λb o y e=>?_;have O:b≠I:=λz=>y (by simp[z]);exact U _ _ ((c8 ..).extBut _ _ O ((c8 ..).extBut _ _ O e))
 self:=λx x x x st J=>Ge st.1 J
end
def wF{y:Type}:∀{l:List y}{i:Nat}(h:i<l⁻¹),(l[i]::l.eraseIdx i).Perm l
 |x::l,0,_=>fx _
 |x::l,i+1,h=>(List.Perm.swap _ _ _).trans ((wF (l:=l) (i:=i) (Nat.lt_of_succ_lt_succ h)).cons x)
theorem Gg{J:Type}(next:Nat->Nat):∀(y k:Nat)(left:List J)(out:Array J),left⁻¹=y->(pickOrder.go next y k left out).toList.Perm (out.toList++left)
 |0,k,left,out,h=>by
  have:left=[]:=dQ.mp h;subst this;unfold pickOrder.go;rw[eM]
 |y+1,k,left,out,h=>by
  have O:0<left⁻¹:=by lia
  have z:next k%left⁻¹<left⁻¹:=Nat.mod_lt _ O;unfold pickOrder.go;rw[aI z];dsimp only;show(Gg next y (k+1) _ _ (by rw[List.length_eraseIdx_of_lt z];lia)).trans ?_;rw[ij,b6];exact(wF z).append_left _
def YH{y:Type}(next:Nat->Nat)(xs:Array y):(pickOrder next xs).toList.Perm xs.toList:=by have:=Gg next xs.size 0 xs.toList #[] (!2);exact this
section
variable {prog:AK} {w:World} {A:AM} {E:AG} {s:AI} {I S T:AQ} {es:Array (Int×AN)} {ep:Nat} {t:SetTable}
def YJ{y:Source}{Q:Nat->AI->Prop}(h0:n≠0)(h:∀k,k<n->∀d,Q k {s with drawn:=d}):wpAny (model prog w) A (choose y n) Q E s:=λz z z=>by
 unfold choose;rw[Sem.wp_choose];exact(h0,by first|exact h _ (Nat.mod_lt _ (Nat.pos_of_ne_zero h0)) _ | (rw[Sem.wp_pure'];exact h _ (Nat.mod_lt _ (Nat.pos_of_ne_zero h0)) _))
theorem YK{z:Type}(n:Nat):∀(xs:List z){s:AI}{Q:List z->AI->Prop},xs⁻¹=n->(∀ys d,ys.Perm xs->Q ys {s with drawn:=d})->wpAny (model prog w) A (drawOrder n xs) Q E s:=by
 induction n with
 |zero=>
  intro xs s Q e h;have:xs=[]:=dQ.mp e;subst this;unfold drawOrder;exact am (h [] s.drawn (fx _))
 |succ n O=>
  intro xs s Q e h;cases xs with
  |nil=>cases e
  |cons x xs=>
   unfold drawOrder;show af (YJ (!2) λk y d=>?_);rw[aI y];dsimp only;show af (O _ (by rw[List.length_eraseIdx_of_lt y];simp only[ce]at e ⊢;lia) λys d' J=>am ?_);exact h _ d' ((J.cons _).trans (wF y))
def p7{Q:Bool->AI->Prop}(h:Q (cH w) s):wpAny (model prog w) A setsByText Q E s:=by unfold setsByText;exact af (wpAny_askSetting (am h))
def Gi(y:cH w)(z:t.fits es.size){k:Nat}{Q:Option (AN×Nat)->AI->Prop}(ho:s.heap.get? S=-(dZ es ep t))(h:Q (((pickOrder (w.params.setOrder S ep) es)[i]?).map λe=>(e.2,k)) s):wpAny (model prog w) A (setNext S k i ep) Q E s:=by
 unfold setNext;show af (gp ho rfl z ?_);dsimp only;show af (p7 ?_);show ite_yes y ?_;show ite_no (!2) ?_;show af ?_;unfold setWalk;show af (gp ho rfl z ?_);dsimp only;show af (p7 ?_);show ite_yes y ?_;show af (wpAny_askSetting (am ?_));exact am h
theorem wG(z:cH w=false)(J:t.fits es.size)(y:t.led)(h1:es.size<=1){k:Nat}{Q:Option (AN×Nat)->AI->Prop}(ho:s.heap.get? S=-(dZ es ep t))(h:Q (match es[SetTable.below t.place k]?,t.place[SetTable.below t.place k]? with
  |some (_,x),-j=>-(x,j+1)
  |_,_=>none) s):wpAny (model prog w) A (setNext S k i ep) Q E s:=by
 unfold setNext;show af (gp ho rfl J ?_);dsimp only;show af (p7 ?_);show ite_no (by rw[z];exact ck) ?_;show ite_no (show¬(!t.plain&&decide (es.size > 1))=true from by rw[cw (!0),g6];exact ck) ?_;show af ?_;show ite_no (show¬(!t.led&&!es.isEmpty)=true from by rw[y];exact ck) ?_;exact am (am h)
def YL(h:t.fits es.size):t.place.size=es.size:=by unfold SetTable.fits at h;simp only[ae,aw]at h;exact h.1
def Gj{y:Type}(d:y)(xs:List y):(List.range xs⁻¹).map (λi=>xs[i]?.getD d)=xs:=by show List.ext_getElem (!2) λi h1 h2=>?_;rw[List.getElem_map,List.getElem_range,aI h2];rfl
def Gk(y:Array (Int×AN))(J:y.toList.Perm es.toList)(ps:AA)(z:ps.Perm (List.range es.size)):(ps.map λi=>(y[i]?.getD (0,.none)).2).Perm (es.toList.map (·.2)):=by
 show(z.map _).trans ?_;have e:es.size=y.toList⁻¹:=by rw[J.length_eq,bq]
 rw[e];have:=fT (List.map (·.2)) (Gj (0,Value.none) y.toList);rw[eP]at this;have O:(List.range y.toList⁻¹).map (λi=>(y[i]?.getD (0,Value.none)).2)=y.toList.map (·.2):=by rw[<-this];show gX λi x=>?_;change _=(y.toList[i]?.getD (0,Value.none)).2;rw[gy]
 rw[O];exact J.map _
def Gm(es:Array (Int×AN))(n:Nat)(y:Nat->AN):Prop:=n=es.size/\((List.range n).map y).Perm (es.toList.map (·.2))
theorem YM(hh:A.handled=none)(hL:L=!cH w)(ho:s.heap.get? S=-(dZ es ep t))(U:t.fits es.size)(hl:t.led=L)(hpl:t.plain=true->es.size=0)(hz:es.size<=sizeLine)(h:∀(h':Heap) d I fp (J:Nat->AN) (St:Nat->Heap->Prop),(∀b o,s.heap.get? b=-o->h'.get? b=-o)->Gm es es.size J->Walks prog w A I fp [I] es.size (λi v=>v=J i) St->St 0 h'->(∀b∈fp,b<h'.objs.size)->I∈fp->(~~~s)<=I->(∀b∈fp,b=S\/(~~~s)<=b)->Q (.ref I) {s with heap:=h',drawn:=d}):
  wpAny (model prog w) A (pyIter (.ref S)) Q E s:=by
 have hT:s.TypeIs (.ref S) "set":=(_,ho,rfl);have hS:S<(~~~s):=aE ho;show wpAny_pyIter_slot hT Gb (fv Gb hT Yx ?_ (YB _));unfold Builtin.«frozenset.__iter__» Builtin.Frozenset.slot0;show af (am ?_);unfold Builtin.Frozenset.sizeOf;show af (af (wpAny_setEntries_of ho rfl U (am ?_)));show af ?_;unfold setDrawn;show af (gp ho rfl U ?_);dsimp only;show af (p7 (am ?_));by_cases hd:cH w=false/\1<es.size
 .have hp:t.plain=false:=by cases hp:t.plain with|false=>rfl|true=>have:=hpl hp;lia
  show ite_yes (show(!cH w&&(!t.plain&&decide (es.size > 1)))=true from by rw[hd.1,hp,cp hd.2];rfl) ?_;show af (YK es.size (List.range es.size) jp λps d hps=>?_);have O:ps⁻¹=es.size:=by rw[hps.length_eq,jp]
  show af (wpAny_newTuple ?_ (by rw[ah,O];exact hz));unfold setEpoch;have ho1:=ag {cls:=.type "tuple",data:=.seq (ps.map λ(i:Nat)=>rawInt i).toArray} ho;show af (af (gp (s:={s with drawn:=d,heap:=_}) ho1 rfl U (am ?_)));show af (gs (am (_,rfl,"set_iterator",_,(_,bd _ rfl,rfl),lN.lookup,?_)));have Y:∀(i p:Nat),ps[i]?=-p->p<es.size:=λi p e=>List.mem_range.mp (hps.mem_iff.mp (bg e));show h _ d _ _ (λi=>((ps[i]?.bind λp=>es[p]?).getD (0,.none)).2) _ (λb o e=>ag _ (ag _ e)) (rfl,?_) (YG (T:=(~~~s)) hh ?_ ?_ U ps O (λi=>(ps[i]?.bind λp=>es[p]?).getD (0,.none)) ?_) (bd _ rfl,ag _ ho1,ag _ (bd _ rfl)) ?_ ?_ ?_ ?_
  .have e:=Gk es (fx _) ps hps;show iX (gL ?_) e;have e3:(List.range es.size).map (λi=>ps[i]?.getD 0)=ps:=by rw[<-O];exact Gj 0 ps
   conv=>rhs;rw[<-e3]
   rw[eP];show gX λi hi=>?_;have hi':i<ps⁻¹:=by rw[O];exact List.mem_range.mp hi
   change((ps[i]?.bind λp=>es[p]?).getD (0,Value.none)).2=(es[ps[i]?.getD 0]?.getD (0,Value.none)).2;rw[aI hi'];rfl
  .rw[cK];exact ci (eI hS)
  .rw[cK];exact ci (gu _)
  .intro i p e;rw[e];change es[p]?=-(es[p]?.getD (0,.none));rw[e7 (Y i p e)];rfl
  .intro b y;rw[cK,cK];simp only[bb,dP,io,cK]at y;rcases y with rfl|rfl|rfl
   .exact gu _
   .exact eI (eI hS)
   .exact eI (gu _)
  .simp
  .rw[cK];exact fm _
  .intro b y;simp only[bb,dP,io,cK]at y;rcases y with rfl|rfl|rfl
   .exact .inr (fm _)
   .exact .inl rfl
   .exact .inr (ay _)
 .show ite_no (show¬(!cH w&&(!t.plain&&decide (es.size > 1)))=true from ?_) ?_
  .cases y:cH w with
   |true=>exact ck
   |false=>rw[cw (λz=>hd (y,z)),g6];exact ck
  show af (am ?_);unfold setEpoch;show af (af (gp ho rfl U (am ?_)));show af (gs (am (_,rfl,"set_iterator",_,(_,bd _ rfl,rfl),lN.lookup,?_)));have key:∃(slot:Nat->Nat)(J:Nat->AN),slot 0=0/\Gm es es.size J/\
    (∀(i:Nat)(s:AI)(Q:Option (AN×Nat)->AI->Prop)(E:AG),i<es.size->s.heap.get? S=-(dZ es ep t)->Q (-(J i,slot (i+1))) s->wpAny (model prog w) A.in1 (setNext S (slot i) i ep) Q E s)/\
    (∀(s:AI)(Q:Option (AN×Nat)->AI->Prop)(E:AG),s.heap.get? S=-(dZ es ep t)->Q none s->wpAny (model prog w) A.in1 (setNext S (slot es.size) es.size ep) Q E s):=by
   cases y:cH w with
   |true=>
    have pp:=YH (w.params.setOrder S ep) es;have pl:(pickOrder (w.params.setOrder S ep) es).size=es.size:=by rw[<-bq,pp.length_eq,bq]
    generalize hpo:pickOrder (w.params.setOrder S ep) es=po at pp pl;show(λu=>0,λi=>(po[i]?.getD (0,.none)).2,rfl,(rfl,?_),λi s Q E hi ho hq=>Gi y U ho ?_,λs Q E ho hq=>Gi y U ho ?_)
    .exact Gk po pp _ (fx _)
    .rw[hpo,e7 (!0)];have:po[i]?.getD (0,.none)=po[i]'(!0):=by rw[e7 (!0)];rfl
     have hq':Q (-((po[i]?.getD (0,.none)).2,0)) s:=hq;rw[this]at hq';exact hq'
    .rw[hpo,Array.getElem?_eq_none (!0)];exact hq
   |false=>
    have h1:es.size<=1:=Nat.not_lt.mp λz=>hd (y,z);have Y:t.led=true:=by rw[hl,hL,y];rfl
    have fl:=YL U;generalize hpc:t.place=pc at fl;rcases iE es.size 1 with h0|h0
    .have e0:es=#[]:=Array.size_eq_zero_iff.mp (!0);subst e0;show(λu=>0,λu=>.none,rfl,(rfl,fx _),λi s Q E hi=>absurd hi (Nat.not_lt_zero i),λs Q E ho hq=>wG y U Y h1 ho ?_);exact hq
    .have e1:es.size=1:=by lia
     obtain⟨e,rfl⟩:∃e,es=#[e]:=Array.size_eq_one_iff.mp e1;obtain⟨j,rfl⟩:∃j,pc=#[j]:=Array.size_eq_one_iff.mp (!0);have b0:SetTable.below #[j] 0=0:=by change SetTable.below.go #[j] 0 1 0 1=0;unfold SetTable.below.go;change(if j<0 then SetTable.below.go #[j] 0 0 1 1 else SetTable.below.go #[j] 0 0 0 0)=0;rw[if_neg (Nat.not_lt_zero j)];rfl
     have b1:SetTable.below #[j] (j+1)=1:=by change SetTable.below.go #[j] (j+1) 1 0 1=1;unfold SetTable.below.go;change(if j<j+1 then SetTable.below.go #[j] (j+1) 0 1 1 else SetTable.below.go #[j] (j+1) 0 0 0)=1;rw[if_pos (gu j)];rfl
     show(λi=>match i with|0=>0|_=>j+1,λu=>e.2,rfl,(rfl,fx _),λi s Q E hi ho hq=>wG y U Y h1 ho ?_,λs Q E ho hq=>wG y U Y h1 ho ?_)
     .have hi0:i=0:=by simp at hi;exact hi
      subst hi0;rw[hpc];change Q (match #[e][SetTable.below #[j] 0]?,#[j][SetTable.below #[j] 0]? with|some (_,x),-j=>-(x,j+1)|_,_=>none) s;rw[b0];exact hq
     .rw[hpc];change Q (match #[e][SetTable.below #[j] (j+1)]?,#[j][SetTable.below #[j] (j+1)]? with|some (_,x),-j=>-(x,j+1)|_,_=>none) s;rw[b1];exact hq
  let(slot,J,e0,od,k1,k2):=key;show h _ s.drawn _ _ J _ (λb o e=>ag _ e) od (YF hh ?_ U slot J k1 k2) (?_,ag _ ho) ?_ ?_ ?_ ?_
  .exact ci hS
  .rw[e0];exact bd _ rfl
  .intro b y;rw[cK];simp only[bb,dP,io]at y;rcases y with rfl|rfl
   .exact gu _
   .exact eI hS
  .simp
  .exact ay _
  .intro b y;simp only[bb,dP,io]at y;rcases y with rfl|rfl
   .exact .inr (ay _)
   .exact .inl rfl
end
section
variable {prog:AK} {w:World} {A:AM} {E:AG} {s:AI} {S:AQ} {es:Array (Int×AN)} {ep:Nat} {t:SetTable}
def YQ{Q:Bool->AI->Prop}(ho:s.heap.get? S=-(dZ es ep t))(h:Q false s):wpAny (model prog w) A (Builtin.List.listLengthHint (.ref S)) Q E s:=by
 have z:s.TypeIs (.ref S) "set":=(_,ho,rfl);unfold Builtin.List.listLengthHint;show af (wpAny_specialOf z PySem.F.slot_set_len.lookup ?_)
 (generalize y:("set.__len__":AL)=id0;(fail_if_success (clear y id0));wp_delta;rw[show splitId id0=-("set","__len__") from by subst y;ac_rfl];subst y)
 show af (wpAny_isInstance (b:=true) z (by rw[isSubtype_type];rfl') ?_);show af (wpAny_typeOf z ?_);exact am h
theorem touch{L:AQ}{Q:Unit->AI->Prop}(ho:s.heap.get? L=-{cls:=.type "list",dict:=none,data:=.seq #[] 0,slots:=#[]})(h:∀h' c,h'.get? L=-{cls:=.type "list",dict:=none,data:=.seq #[] c,slots:=#[]}->(∀b o,b≠L->s.heap.get? b=-o->h'.get? b=-o)->h'.objs.size=(~~~s)->Q () {s with heap:=h'}):
  wpAny (model prog w) A (Builtin.List.listTouch (.ref L)) Q E s:=by
 unfold Builtin.List.listTouch Builtin.List.listUpdate;show af (wpAny_updateSeq ho rfl ?_ (by size_fits) (by change 1<=sizeLine+1;lia));have y:=fh (Obj.mapSeq (·.push Value.none)) ho (by rfl);show wpAny_updateSeq (s:={s with heap:=_}) y rfl ?_ (by rw[eT];decide) (by change 0<=sizeLine+1;lia);have J:=fh (Obj.mapSeq (·.pop)) y (by rfl);show h _ _ J (λb o z e=>(c8 ..).extBut _ _ z ((c8 ..).extBut _ _ z e)) ?_;rw[Heap.size_update,Heap.size_update]
def Gn(hh:A.handled=none)(hL:L=!cH w){Q:AB->AI->Prop}(ho:s.heap.get? S=-(dZ es ep t))(hf:t.fits es.size)(hl:t.led=L)(hpl:t.plain=true->es.size=0)(hz:es.size<=sizeLine)(h:∀h' d tk acc,(∀b o,s.heap.get? b=-o->h'.get? b=-o)->s.toks<=tk->acc.Perm (es.toList.map (·.2))->Q acc {s with heap:=h',drawn:=d,toks:=tk}):
  wpAny (model prog w) A (collect (.ref S)) Q E s:=by
 have hS:S<(~~~s):=aE ho;have hSI:(~~~s)≠S:=gc hS;unfold collect;show af (wpAny_runValue (ip PySem.F.entry_proto_collect ?_));rw[iS PySem.F.plain_proto_collect _];change wpAny _ A.in1 (newList [] >>= λl=>again (.builtin "list.__iadd__" ([l,.ref S],[]))) _ _ s;show af (gs ?_);show am (plainId_quiet PySem.F.plain_list_iadd _,ip PySem.F.entry_list_iadd ?_);rw[iS PySem.F.plain_list_iadd _];have Y:(s.heap.push {cls:=.type "list",data:=.seq ([]:AB).toArray}).get? (~~~s)=-{cls:=.type "list",data:=.seq ([]:AB).toArray}:=bd _ rfl;have y:=ag {cls:=.type "list",data:=.seq ([]:AB).toArray} ho;have hT₁:Shared.TypeIs {s with heap:=s.heap.push {cls:=.type "list",data:=.seq ([]:AB).toArray}} (.ref S) "set":=(_,y,rfl);have h1:Builtin.List.listSameRef (.ref (~~~s)) (.ref S)=false:=by simp[Builtin.List.listSameRef,hSI]
 change wpAny _ A.in1 (Builtin.List.listExtendWith (.ref (~~~s)) (.ref S) (.ref (~~~s))) _ _ _;unfold Builtin.List.listExtendWith;show af (wpAny_typeOf hT₁ ?_);rw[if_neg (by rw[h1];decide)];show af (YM (!!hh) hL y hf hl hpl hz λh2 d I fp ord St k2 od W hst hfp hI hge hfo=>?_);show af (dE (YQ (k2 _ _ y) ?_));have U:(~~~s)∉fp:=λz=>by
  rcases hfo _ z with e|e
  .exact hSI e
  .rw[cK]at e;exact fb _ e
 have hIL:I≠(~~~s):=λe=>U (e ▸ hI);show ite_yes (by rfl) ?_;show af (eS ?_);show af (touch (k2 _ _ Y) λh3 c g3 k3 z3=>?_);have O:=W.frame 0 _ h3 hst λb hb o e=>k3 b o (λz=>U (z ▸ hb)) e;show am (plainId_quiet PySem.F.plain_extend_loop _,codeAny_extend_loopS W.toS hz _ U _ es.size 0 _ _ _ rfl (gS _) O g3 (ItemsOf.nil _) λs' acc' c' hm hS' J=>?_);change wpAny _ A (load (~~~s) >>= _) _ _ s';show af (wpAny_load hS' ?_);show am ?_;let(h',g',d',tk',os'):=s';have eg:g'=s.gens:=hm.gens;have ed:d'=d:=hm.drawn;have eo:os'=s.os:=hm.os;subst eg;subst ed;subst eo;show h h' d' tk' acc'.toList (λb o e=>?_) hm.toks ?_
 .have hb:=aE e;have hb1:b≠(~~~s):=ci hb;have hb2:b≠I:=λz=>by rw[cK]at hge;rw[z]at hb;exact fb _ (bS hb (Nat.le_of_succ_le hge))
  exact hm.heap b o (by simp only[bb,dP,io,not_or];exact(hb1,hb2)) (k3 _ _ hb1 (k2 _ _ (ag _ e)))
 .show iX (gL ?_) od.2;show List.ext_getElem? λi=>?_;rw[aS,gy];rcases iE i es.size with hi|hi
  .rw[List.getElem?_range hi,e7 (by rw[J.1];exact hi)];exact fT some (J.2 i _ (e7 (by rw[J.1];exact hi)))
  .rw[eD (!!hi),Array.getElem?_eq_none (by rw[J.1];exact hi)];rfl
theorem YS(hh:A.handled=none)(hS:SetL prog w s.heap S ks (!cH w))(h64:ks⁻¹<64)(h:∀(h1 h':Heap) d tk e (out:Array AN) (J:AD),StrsAre out.toList J->J.Perm ks->sortedS J=true->(∀b o',s.heap.get? b=-o'->h1.get? b=-o')->(∀b o',h1.get? b=-o'->h'.get? b=-o')->s.toks<=tk->h'.get? h1.objs.size=-(seqObj "list" out e)->Q (.ref h1.objs.size) {s with heap:=h',drawn:=d,toks:=tk}):
  wpAny (model prog w) A (call (.builtin "sorted") [.ref S]) Q E s:=by
 let(es,ep,t,ho,hel,hp,hb,hf,hl,hpl):=hS;show Calls.call_function_entry kind_sorted plain_sorted entry_sorted (args_sorted1 _) ?_;unfold Builtin.«sorted»;show af (m:=checkCount "sorted" 1 1 _) (am ?_);show af (Gn (!!hh) rfl ho hf hl hpl (by rw[eT];unfold scanBound at hb;lia) λh1 d tk y k1 htk z=>?_);have hall:∀v,v∈y->∃x u,v=Value.str x u:=λv hv=>by
  let(e,he,rfl):=bX.mp (z.mem_iff.mp hv);let(k,tk,rfl):=hel e he;exact(k,tk,rfl)
 have O:=strsAre_map y hall;have hlen:y⁻¹<64:=by rw[z.length_eq,ah,<-ah (f:=iW),hp.length_eq];exact h64
 show af (wpAny_newList ?_ (by rw[eT];lia));have Y:(h1.push (seqObj "list" y.toArray 0)).get? h1.objs.size=-(seqObj "list" y.toArray 0):=bd _ rfl;change wpAny _ _ _ _ _ {s with heap:=h1.push (seqObj "list" y.toArray 0),drawn:=d,toks:=tk};have hpk:(y.map strOf).Perm ks:=by show(z.map strOf).trans (iX (gL ?_) hp);rw[eP];show gX λe he=>?_;let(k,tk,rfl):=hel e he;rfl
 show af (dE (fv slot_list_sort (_,Y,rfl) entry_list_sort (list_sort_treeK strKind_oneLt Y O.keysOf (λv₁ v₂ rest e=>keyKind_strs (by rw[<-e];exact O)) hlen λst' hp' hs'=>(_,rfl,?_)) (args_list_sort _)));let(J,a1,a2,a3):=sorted_out_str O hp' hs';generalize (arrOf st').map (·.2)=out at a1;let(e,he):=sortedHeap_at (vs:=y) (out:=out) Y;show am (_,rfl,h h1 _ d tk e out J a1 (a2.trans hpk) a3 k1 (λb o' U=>?_) htk he);rw[sortedHeap_old (ci (aE U)) (by rw[size_push'];exact eI (aE U))];exact ag _ U
end
def Gp:Bool->Keyed->Array Keyed->Nat->Nat->Nat->StateT SortSt Sem (Option Nat):=sortPriv% PySem.Builtin.gallop
def Gq:Array Keyed->Array Keyed->StateT SortSt Sem (Array Keyed):=sortPriv% PySem.Builtin.mergeLo
def Gs:Array Keyed->Array Keyed->StateT SortSt Sem (Array Keyed):=sortPriv% PySem.Builtin.mergeHi
section
variable {prog:AK} {w:World} {A:AM} {E:AG} {s:AI} {κ:PyProof.Rows.KeyKind}
def okK(κ:PyProof.Rows.KeyKind)(p:Keyed):Prop:=∃a,κ.keyOf p.1=-a
def okA(κ:PyProof.Rows.KeyKind)(xs:Array Keyed):Prop:=∀p,p∈xs.toList->okK κ p
def aL{Y y:Type}{c:Prop}[Decidable c]{a b:StateT Y Sem y}{Q:y->Y->Prop}{st:Y}(z:c->PyProof.Rows.wpS (model prog w) A E s a Q st)(J:¬c->PyProof.Rows.wpS (model prog w) A E s b Q st):PyProof.Rows.wpS (model prog w) A E s (if c then a else b) Q st:=by
 by_cases h:c
 .rw[if_pos h];exact z h
 .rw[if_neg h];exact J h
def Gu{Y y:Type}{c:Prop}[Decidable c]{R:Nat->StateT Y Sem y}{m1 m2:Nat}{Q:y->Y->Prop}{st:Y}(h:∀m,PyProof.Rows.wpS (model prog w) A E s (R m) Q st):PyProof.Rows.wpS (model prog w) A E s (if c then R m1 else R m2) Q st:=
 aL (λz=>h _) λz=>h _
def p8{Y y z:Type}{c:Prop}[Decidable c]{R:z->Nat->StateT Y Sem y}{B:StateT Y Sem y}{a:z}{Q:y->Y->Prop}{st:Y}(P:z->Nat->Prop)(h0:P a i)(h:∀a i,P a i->PyProof.Rows.wpS (model prog w) A E s (R a i) Q st)(J:c->(∀a i,P a i->PyProof.Rows.wpS (model prog w) A E s (R a i) Q st)->PyProof.Rows.wpS (model prog w) A E s B Q st):PyProof.Rows.wpS (model prog w) A E s (if c then B else R a i) Q st:=
 aL (λhc=>J hc h) λx=>h _ _ h0
def nb{a b:Nat}(h:¬(a==b)=true):a≠b:=λz=>h (aw.mpr z)
def lO(z:κ.OneLt){st:SortSt}{x y:Keyed}{Q:Option Bool->SortSt->Prop}(U:kindOf st=oneType')(Y:okK κ x)(hy:okK κ y)(h:∀b,Q (-b) st):PyProof.Rows.wpS (model prog w) A E s (lt' x y) Q st:=by let(a,J):=Y;let(b,O):=hy;rw[lt'_eq];show av (wpS_get ?_);rw[U,keyLt'_oneType];show av (wpS_lift (wpAny_attempt (z _ _ _ _ _ _ _ a b J O (rfl,?_))));exact a7 (h _)
def bV{xs:Array Keyed}{st:SortSt}{Q:Keyed->SortSt->Prop}(hi:i<xs.size)(h:Q xs[i] st):PyProof.Rows.wpS (model prog w) A E s (elem' xs i) Q st:=by rw[elem'_eq,getElem?_pos xs i hi];exact a7 h
def okA.at{xs:Array Keyed}(h:okA κ xs)(hi:i<xs.size):okK κ xs[i]:=h _ (!2)
def lQ(J:κ.OneLt){left:Bool}{key:Keyed}{xs:Array Keyed}{st:SortSt}{Q:Option Bool->SortSt->Prop}(O:kindOf st=oneType')(y:okK κ key)(z:okA κ xs)(hi:i<xs.size)(h:∀b,Q (-b) st):PyProof.Rows.wpS (model prog w) A E s (do let x <-elem' xs i;if left=true then lt' x key else do let r <-lt' key x;pure (Option.map (λx=>!x) r)) Q st:=by
 show av (bV hi ?_);cases left with
 |true=>exact lO J O (z.at hi) y h
 |false=>exact av (lO J O y (z.at hi) λb=>a7 (h _))
theorem jG(Y:κ.OneLt){left:Bool}{key:Keyed}{xs:Array Keyed}{base z:Nat}{st:SortSt}{Q:Option Nat->SortSt->Prop}(hk:kindOf st=oneType')(J:okK κ key)(O:okA κ xs)(hb:base+n<=xs.size)(hh:z<n)(h:∀k,k<=n->Q (-k) st):PyProof.Rows.wpS (model prog w) A E s (Gp left key xs base n z) Q st:=by
 unfold Gp;show av (lQ Y hk J O (!0) λright=>?_);dsimp only;cases right with
 |true=>
  simp only[↓reduceIte];show av (wpS_mono (d0 (I:=λv c st'=>st'=st/\∃l o,c=(none,l,o)/\l<n-z) (Q:=λc st'=>st'=st/\∃l o,c=(none,l,o)/\l<n-z) ?step (λv v hh=>hh) (rfl,0,1,rfl,!0)) ?post);case step=>
   rintro x c st' _ _ ⟨rfl,l,o,rfl,hl⟩;dsimp only;split
   .exact a7 (rfl,l,o,rfl,hl)
   .show av (lQ Y hk J O (!0) λU=>?_);dsimp only;split
    .exact a7 (rfl,l,o,rfl,hl)
    .exact a7 (rfl,o,_,rfl,!0)
  case post=>
   rintro c st' ⟨rfl,l,o,rfl,hl⟩;dsimp only;show av (wpS_mono (d0 (I:=λv c y=>y=st'/\∃l o,c=(none,l,o)/\o<=n) (Q:=λc y=>y=st'/\∃l o,c=(none,l,o)/\o<=n) ?step2 (λv v hh=>hh) (rfl,_,_,rfl,!0)) ?post2);case step2=>
    rintro x c st' _ _ ⟨rfl,l,o,rfl,hl⟩;dsimp only;split
    .exact a7 (rfl,l,o,rfl,hl)
    .show av (lQ Y hk J O (!0) λU=>?_);dsimp only;split
     .exact a7 (rfl,_,o,rfl,hl)
     .exact a7 (rfl,_,_,rfl,!0)
   case post2=>
    rintro c y ⟨rfl,l,o,rfl,hl⟩;exact a7 (h o hl)
 |false=>
  simp only[fg,↓reduceIte];show av (wpS_mono (d0 (I:=λv c st'=>st'=st/\∃l o,c=(none,l,o)/\l<z+1) (Q:=λc st'=>st'=st/\∃l o,c=(none,l,o)/\l<z+1) ?step (λv v hh=>hh) (rfl,0,1,rfl,!0)) ?post);case step=>
   rintro x c st' _ _ ⟨rfl,l,o,rfl,hl⟩;dsimp only;split
   .exact a7 (rfl,l,o,rfl,hl)
   .show av (lQ Y hk J O (!0) λU=>?_);dsimp only;split
    .exact a7 (rfl,l,o,rfl,hl)
    .exact a7 (rfl,o,_,rfl,!0)
  case post=>
   rintro c st' ⟨rfl,l,o,rfl,hl⟩;dsimp only;show av (wpS_mono (d0 (I:=λv c y=>y=st'/\∃l o,c=(none,l,o)/\o<=n) (Q:=λc y=>y=st'/\∃l o,c=(none,l,o)/\o<=n) ?step2 (λv v hh=>hh) (rfl,_,_,rfl,!0)) ?post2);case step2=>
    rintro x c st' _ _ ⟨rfl,l,o,rfl,hl⟩;dsimp only;split
    .exact a7 (rfl,l,o,rfl,hl)
    .show av (lQ Y hk J O (!0) λU=>?_);dsimp only;split
     .exact a7 (rfl,_,o,rfl,hl)
     .exact a7 (rfl,_,_,rfl,!0)
   case post2=>
    rintro c y ⟨rfl,l,o,rfl,hl⟩;exact a7 (h o hl)
def Same1(st st':SortSt):Prop:=kindOf st'=kindOf st/\arrOf st'=arrOf st/\pendingOf st'=pendingOf st/\failedOf st'=failedOf st
def Same1.refl(st:SortSt):Same1 st st:=(rfl,rfl,rfl,rfl)
def Same1.k{st st':SortSt}(h:Same1 st st')(y:kindOf st=oneType'):kindOf st'=oneType':=h.1.trans y
section
variable {xs ys:Array Keyed}
def JL(xs ys:Array Keyed)(out:Array Keyed)(i j:Nat):Prop:=out.toList.Perm (xs.toList.take i++ys.toList.take j)
def All(xs ys out:Array Keyed):Prop:=out.toList.Perm (xs.toList++ys.toList)
def Gv(xs:Array Keyed)(i k:Nat):xs.toList.take (i+k)=xs.toList.take i++(xs.extract i (i+k)).toList:=by rw[fR,ge,List.take_add,Nat.add_sub_cancel_left]
def Gw(hi:i<xs.size):xs.toList.take (i+1)=xs.toList.take i++[xs[i]]:=by rw[dy,gy,getElem?_pos xs i hi];rfl
def Gx(xs:Array Keyed)(i:Nat):xs.toList=xs.toList.take i++(xs.extract i).toList:=by rw[fR,ge,gd (l:=List.drop i xs.toList) (by rw[cq,bq];exact ay _),e9]
variable {out:Array Keyed} {i j k:Nat}
def JL.appX(h:JL xs ys out i j):JL xs ys (out++xs.extract i (i+k)) (i+k) j:=by unfold JL at h ⊢;rw[cS,Gv,b6];show(h.append_right _).trans ?_;rw[b6];exact dv.append_left _
def JL.appY(h:JL xs ys out i j):JL xs ys (out++ys.extract j (j+k)) i (j+k):=by unfold JL at h ⊢;rw[cS,Gv,<-b6];exact h.append_right _
def JL.pushX(h:JL xs ys out i j)(hi:i<xs.size):JL xs ys (out.push xs[i]) (i+1) j:=by unfold JL at h ⊢;rw[ij,Gw hi,b6];show(h.append_right _).trans ?_;rw[b6];exact dv.append_left _
def JL.pushY(h:JL xs ys out i j)(y:j<ys.size):JL xs ys (out.push ys[j]) i (j+1):=by unfold JL at h ⊢;rw[ij,Gw y,<-b6];exact h.append_right _
def JL.done(h:JL xs ys out i j):All xs ys (out++xs.extract i++ys.extract j):=by
 unfold JL at h;unfold All;rw[cS,cS];conv=>rhs;rw[Gx xs i,Gx ys j]
 rw[b6,b6];show(h.append_right _).trans ?_;rw[b6];show List.Perm.append_left _ ?_;rw[<-b6,<-b6];exact dv.append_right _
def JL.last(h:JL xs ys out i j):All xs ys (out++ys.extract j++xs.extract i):=by show iX ?_ h.done;rw[cS,cS,cS,cS,b6,b6];exact dv.append_left _
end
def MQ(xs ys:Array Keyed)(st:SortSt)(lo:Nat)(r:Option (Array Keyed))(out:Array Keyed)(i j:Nat)(st':SortSt):Prop:=
 Same1 st st'/\match r with|some r=>All xs ys r|none=>JL xs ys out i j/\i+1<xs.size/\j<ys.size/\lo<=i+j
def lR{xs:Array Keyed}{st st':SortSt}{j:Nat}(lo:Nat)(J:Same1 st st')(z:JL xs ys out i j)(h1:i+1<xs.size)(h2:j<ys.size)(y:lo<=i+j):MQ xs ys st lo none out i j st':=(J,z,h1,h2,y)
theorem YT(hO:κ.OneLt){xs:Array Keyed}{st:SortSt}{Q:Array Keyed->SortSt->Prop}(hk:kindOf st=oneType')(hxs:okA κ xs)(hys:okA κ ys)(hx:0<xs.size)(hy:0<ys.size)(h:∀out st',All xs ys out->Same1 st st'->Q out st'):PyProof.Rows.wpS (model prog w) A E s (Gq xs ys) Q st:=by
 unfold Gq;show av (wpS_lift (eS (rfl,?_)));dsimp only;show av (bV hy ?_);have j0:JL xs ys #[ys[0]] 0 1:=by have:=JL.pushY (xs:=xs) (ys:=ys) (out:=#[]) (i:=0) (j:=0) (fx _) hy;exact this
 show aL (λv=>a7 (h _ _ j0.done (Same1.refl st))) λh1=>?_;show aL (λv=>a7 (h _ _ j0.last (Same1.refl st))) λh2=>?_;have h1:¬1=ys.size:=λz=>h1 (aw.mpr z);have h2:¬0+1=xs.size:=λz=>h2 (aw.mpr z);show av (wpS_get ?_);show av (wpS_mono (d0 (I:=λx c st'=>∃out i j mg,c=(none,out,i,j,mg)/\MQ xs ys st (x+1) none out i j st') (Q:=λc st'=>∃r,c.1=-r/\All xs ys r/\Same1 st st') ?step ?fin (_,0,1,_,rfl,Same1.refl st,j0,!0,!0,!0)) ?post);case post=>
  rintro⟨c1,c2⟩ st' ⟨r,e,hr,J⟩;dsimp only at e;subst e;exact a7 (h _ _ hr J)
 case fin=>
  rintro c st' ⟨out,i,j,mg,rfl,J,jl,b1,b2,b3⟩;lia
 case step=>
  rintro x c st' _ hxt ⟨out,i,j,mg,rfl,J,jl,b1,b2,b3⟩;dsimp only;show av (wpS_mono (d0 (I:=λy c st'=>∃out i' O ac bc,c=(none,out,i',O,ac,bc)/\MQ xs ys st (i+j+y) none out i' O st') (Q:=λc st'=>MQ xs ys st (i+j+1) c.1 c.2.1 c.2.2.1 c.2.2.2.1 st') ?step1 ?fin1 (_,i,j,_,_,rfl,J,jl,b1,b2,!0)) ?post1);case fin1=>
   rintro c st' ⟨out,i',O,ac,bc,rfl,J,jl,c1,c2,c3⟩;exact(J,jl,c1,c2,!0)
  case step1=>
   rintro y c st' _ hyt ⟨out,i',O,ac,bc,rfl,J,jl,c1,c2,c3⟩;dsimp only;show av (bV (!0) (av (bV (!0) ?_)));show av (lO hO (J.k hk) (hys.at (!0)) (hxs.at (!0)) λb=>?_);show aL (λv=>?_) λv=>?_
   .show av (bV (!0) ?_);have U:=jl.pushY (!0);show aL (λv=>a7 (J,U.done)) λh3=>?_;have h3:¬O+1=ys.size:=λz=>h3 (aw.mpr z);have q1:=lR (i+j+1) J U (!0) (!0) (!0);have q2:=lR (i+j+(y+1)) J U (!0) (!0) (!0);exact aL (λv=>a7 q1) λv=>a7 (_,_,_,_,_,rfl,q2)
   .show av (bV (!0) ?_);have U:=jl.pushX (!0);show aL (λv=>a7 (J,U.last)) λh3=>?_;have h3:¬i'+1+1=xs.size:=λz=>h3 (aw.mpr z);have q1:=lR (i+j+1) J U (!0) (!0) (!0);have q2:=lR (i+j+(y+1)) J U (!0) (!0) (!0);exact aL (λv=>a7 q1) λv=>a7 (_,_,_,_,_,rfl,q2)
  case post1=>
   rintro⟨r,out1,i1,j1,ac,bc⟩ st1 ⟨sm1,hr⟩;dsimp only at hr ⊢;cases r with
   |some r=>exact a7 (r,rfl,hr,sm1)
   |none=>
    let(jl1,d1,d2,d3):=hr;dsimp only;show av (wpS_lift (eS (rfl,?_)));show av (wpS_mono (d0 (I:=λy c st'=>∃out i' O mg ac bc,c=(none,out,i',O,mg,ac,bc)/\MQ xs ys st (i+j+1) none out i' O st') (Q:=λc st'=>MQ xs ys st (i+j+1) c.1 c.2.1 c.2.2.1 c.2.2.2.1 st') ?step2 ?fin2 (_,i1,j1,_,_,_,rfl,sm1,jl1,d1,d2,d3)) ?post2);case fin2=>
     rintro c st' ⟨out,i',O,mg,ac,bc,rfl,J,jl,c1,c2,c3⟩;exact(J,jl,c1,c2,c3)
    case post2=>
     rintro⟨r,out2,i2,j2,mg2,ac2,bc2⟩ st2 ⟨sm2,hr⟩;dsimp only at hr ⊢;cases r with
     |some r=>exact a7 (r,rfl,hr,sm2)
     |none=>
      let(Y,e1,e2,e3):=hr;dsimp only;show av (g7 ?_);exact a7 (_,i2,j2,_,rfl,sm2,Y,e1,e2,!0)
    case step2=>
     rintro y c st2 _ hyt ⟨out,i',O,mg,ac,bc,rfl,J,jl,c1,c2,c3⟩;dsimp only;generalize mg-1=m1;apply Gu (m1:=m1) (m2:=mg);intro m;show av (g7 ?_);show av (bV c2 ?_);show av (jG hO (J.k hk) (hys.at c2) hxs (!0) (!0) λk hk'=>?_);apply p8 (a:=out) (i:=i') (λo i2=>JL xs ys o i2 O/\i2+1<xs.size/\i'<=i2) (jl,c1,ay _)
     .rintro o2 i2 ⟨Y,e1,e2⟩;have e3:=Nat.lt_of_succ_lt e1;show av (bV c2 ?_);have jl3:=Y.pushY c2;show aL (λv=>a7 (J,jl3.done)) λh5=>?_;have h6:O+1<ys.size:=Nat.lt_of_le_of_ne c2 (nb h5);have hjj:O<=O+1:=fm _;show av (bV e3 ?_);show av (jG hO (J.k hk) (hxs.at e3) hys (!0) (!0) λk2 hk2=>?_);generalize O+1=j1' at *;generalize o2.push ys[O]=o3 at *;apply p8 (a:=o3) (i:=j1') (λo j2=>JL xs ys o i2 j2/\j2<ys.size/\j1'<=j2) (jl3,h6,ay _)
      .rintro o4 j4 ⟨jl4,f1,f2⟩;show av (bV e3 ?_);have jl5:=jl4.pushX e3;show aL (λv=>a7 (J,jl5.last)) λh7=>?_;have q:=lR (i+j+1) J jl5 (Nat.lt_of_le_of_ne e1 (nb h7)) f1 (cb c3 (Nat.add_le_add (Nat.le_succ_of_le e2) (cb hjj f2)));exact aL (λv=>a7 q) λv=>a7 (_,_,_,_,_,_,rfl,q)
      .intro _ R;have jl4:=jl3.appY (k:=k2);exact aL (λv=>a7 (J,jl4.done)) λh8=>R _ _ (jl4,by have:=nb h8;lia,dc _ _)
     .intro _ R;have Y:=jl.appX (k:=k);show aL (λv=>a7 (J,Y.last)) λh3=>?_;exact aL (λv=>a7 (J,Y.done)) λh4=>R _ _ (Y,by have:=nb h3;have:=nb h4;lia,dc _ _)
end
section
variable {xs ys:Array Keyed}
def JH(xs ys:Array Keyed)(out:Array Keyed)(i j:Nat):Prop:=out.toList.Perm (xs.toList.drop i++ys.toList.drop j)
def Gy(xs:Array Keyed){k:Nat}(y:k<=i)(hi:i<=xs.size):xs.toList.drop k=(xs.extract k i).toList++xs.toList.drop i:=by
 rw[fR,ge];conv=>lhs;rw[<-e9 (i-k) (xs.toList.drop k)]
 rw[List.drop_drop,iL y]
theorem Gz(h0:0<i)(hi:i<=xs.size):xs.toList.drop (i-1)=xs[i-1]::xs.toList.drop i:=by rw[cf (by rw[bq];lia),Nat.sub_add_cancel h0];rfl
def GC(xs:Array Keyed)(i:Nat):xs.toList=(xs.extract 0 i).toList++xs.toList.drop i:=by rw[fR,ge,List.drop_zero,Nat.sub_zero,e9]
variable {out:Array Keyed} {i j k:Nat}
def JH.appX(h:JH xs ys out i j)(y:k<=i)(hi:i<=xs.size):JH xs ys (out++(xs.extract k i).reverse) k j:=by unfold JH at h ⊢;rw[cS,Array.toList_reverse,Gy xs y hi,b6];exact((List.reverse_perm _).append h |> λz=>(dv.trans z))
def JH.appY(h:JH xs ys out i j)(z:k<=j)(y:j<=ys.size):JH xs ys (out++(ys.extract k j).reverse) i k:=by unfold JH at h ⊢;rw[cS,Array.toList_reverse,Gy ys z y];show dv.trans (((List.reverse_perm _).append h).trans ?_);rw[<-b6,<-b6];exact dv.append_right _
def JH.pushX(h:JH xs ys out i j)(h0:0<i)(hi:i<=xs.size):JH xs ys (out.push xs[i-1]) (i-1) j:=by unfold JH at h ⊢;rw[ij,Gz h0 hi,List.cons_append];exact dv.trans (h.cons _)
def JH.pushY(h:JH xs ys out i j)(h0:0<j)(y:j<=ys.size):JH xs ys (out.push ys[j-1]) i (j-1):=by unfold JH at h ⊢;rw[ij,Gz h0 y];show dv.trans ((h.cons _).trans ?_);exact List.perm_middle.symm
def JH.done(h:JH xs ys out i j):All xs ys (xs.extract 0 i++ys.extract 0 j++out.reverse):=by
 unfold JH at h;unfold All;rw[cS,cS,Array.toList_reverse];conv=>rhs;rw[GC xs i,GC ys j]
 rw[b6,b6];show List.Perm.append_left _ ?_;show(((List.reverse_perm _).trans h).append_left _).trans ?_;rw[<-b6,<-b6];exact dv.append_right _
def JH.fst(h:JH xs ys out i j):All xs ys (ys.extract 0 j++xs.extract 0 i++out.reverse):=by show iX ?_ h.done;rw[cS,cS,cS,cS];exact dv.append_right _
end
section
variable {prog:AK} {w:World} {A:AM} {E:AG} {s:AI} {κ:PyProof.Rows.KeyKind}
def MH(xs ys:Array Keyed)(st:SortSt)(lo:Nat)(r:Option (Array Keyed))(out:Array Keyed)(i j:Nat)(st':SortSt):Prop:=
 Same1 st st'/\match r with|some r=>All xs ys r|none=>JH xs ys out i j/\0<i/\i<=xs.size/\1<j/\j<=ys.size/\lo+i+j<=xs.size+ys.size
def jH{xs:Array Keyed}{st st':SortSt}{j:Nat}(lo:Nat)(U:Same1 st st')(O:JH xs ys out i j)(h1:0<i)(h2:i<=xs.size)(y:1<j)(z:j<=ys.size)(J:lo+i+j<=xs.size+ys.size):MH xs ys st lo none out i j st':=(U,O,h1,h2,y,z,J)
theorem YW(hO:κ.OneLt){xs:Array Keyed}{st:SortSt}{Q:Array Keyed->SortSt->Prop}(hk:kindOf st=oneType')(hxs:okA κ xs)(hys:okA κ ys)(hx:0<xs.size)(hy:0<ys.size)(h:∀out st',All xs ys out->Same1 st st'->Q out st'):PyProof.Rows.wpS (model prog w) A E s (Gs xs ys) Q st:=by
 unfold Gs;show av (wpS_lift (eS (rfl,?_)));dsimp only;show av (bV (show xs.size-1<xs.size by lia) ?_);have j0:JH xs ys #[xs[xs.size-1]] (xs.size-1) ys.size:=by have:=JH.pushX (xs:=xs) (ys:=ys) (out:=#[]) (i:=xs.size) (j:=ys.size) (by unfold JH;rw[<-bq,eR,<-bq,eR];exact fx _) hx (ay _);exact this
 show aL (λv=>a7 (h _ _ j0.done (Same1.refl st))) λh1=>?_;show aL (λv=>a7 (h _ _ j0.fst (Same1.refl st))) λh2=>?_;have h1:=nb h1;have h2:=nb h2;show av (wpS_get ?_);show av (wpS_mono (d0 (I:=λx c st'=>∃i j out mg,c=(none,i,j,out,mg)/\MH xs ys st (x+1) none out i j st') (Q:=λc st'=>∃r,c.1=-r/\All xs ys r/\Same1 st st') ?step ?fin (_,_,_,_,rfl,Same1.refl st,j0,!0,!0,!0,!0,!0)) ?post);case post=>
  rintro⟨c1,c2⟩ st' ⟨r,e,hr,z⟩;dsimp only at e;subst e;exact a7 (h _ _ hr z)
 case fin=>
  rintro c st' ⟨i,j,out,mg,rfl,z,jl,b1,b2,b3,b4,b5⟩;lia
 case step=>
  rintro x c st' _ hxt ⟨i,j,out,mg,rfl,z,jl,b1,b2,b3,b4,b5⟩;dsimp only;show av (wpS_mono (d0 (I:=λy c st'=>∃Y J out ac bc,c=(none,Y,J,out,ac,bc)/\MH xs ys st (x+1+y) none out Y J st') (Q:=λc st'=>MH xs ys st (x+2) c.1 c.2.2.2.1 c.2.1 c.2.2.1 st') ?step1 ?fin1 (i,j,_,_,_,rfl,z,jl,b1,b2,b3,b4,!0)) ?post1);case fin1=>
   rintro c st' ⟨Y,J,out,ac,bc,rfl,z,jl,c1,c2,c3,c4,c5⟩;exact jH (x+2) z jl c1 c2 c3 c4 (!0)
  case step1=>
   rintro y c st' _ hyt ⟨Y,J,out,ac,bc,rfl,z,jl,c1,c2,c3,c4,c5⟩;dsimp only;show av (bV (!0) (av (bV (!0) ?_)));show av (lO hO (z.k hk) (hys.at (!0)) (hxs.at (!0)) λb=>?_);show aL (λv=>?_) λv=>?_
   .show av (bV (!0) ?_);have O:=jl.pushX (!0) (!0);show aL (λv=>a7 (z,O.done)) λh3=>?_;have h3:=nb h3;have q1:=jH (x+2) z O (!0) (!0) (!0) (!0) (!0);have q2:=jH (x+1+(y+1)) z O (!0) (!0) (!0) (!0) (!0);exact aL (λv=>a7 q1) λv=>a7 (_,_,_,_,_,rfl,q2)
   .show av (bV (!0) ?_);have O:=jl.pushY (!0) (!0);show aL (λv=>a7 (z,O.fst)) λh3=>?_;have h3:=nb h3;have q1:=jH (x+2) z O (!0) (!0) (!0) (!0) (!0);have q2:=jH (x+1+(y+1)) z O (!0) (!0) (!0) (!0) (!0);exact aL (λv=>a7 q1) λv=>a7 (_,_,_,_,_,rfl,q2)
  case post1=>
   rintro⟨r,i1,j1,out1,ac,bc⟩ st1 ⟨sm1,hr⟩;dsimp only at hr ⊢;cases r with
   |some r=>exact a7 (r,rfl,hr,sm1)
   |none=>
    let(jl1,d1,d2,d3,d4,d5):=hr;dsimp only;show av (wpS_lift (eS (rfl,?_)));show av (wpS_mono (d0 (I:=λy c st'=>∃Y J out mg ac bc,c=(none,Y,J,out,mg,ac,bc)/\MH xs ys st (x+2) none out Y J st') (Q:=λc st'=>MH xs ys st (x+2) c.1 c.2.2.2.1 c.2.1 c.2.2.1 st') ?step2 ?fin2 (i1,j1,_,_,_,_,rfl,sm1,jl1,d1,d2,d3,d4,d5)) ?post2);case fin2=>
     rintro c st' ⟨Y,J,out,mg,ac,bc,rfl,z,q⟩;exact(z,q)
    case post2=>
     rintro⟨r,i2,j2,out2,mg2,ac2,bc2⟩ st2 ⟨sm2,hr⟩;dsimp only at hr ⊢;cases r with
     |some r=>exact a7 (r,rfl,hr,sm2)
     |none=>
      let(U,e1,e2,e3,e4,e5):=hr;dsimp only;show av (g7 ?_);exact a7 (i2,j2,_,_,rfl,sm2,U,e1,e2,e3,e4,!0)
    case step2=>
     rintro y c st2 _ hyt ⟨Y,J,out,mg,ac,bc,rfl,z,jl,c1,c2,c3,c4,c5⟩;dsimp only;generalize mg-1=m1;apply Gu (m1:=m1) (m2:=mg);intro m;have c6:J-1<ys.size:=by clear c5 c1 c2 hyt;lia
     show av (g7 ?_);show av (bV c6 ?_);show av (jG hO (z.k hk) (hys.at c6) hxs (!0) (!0) λk hk'=>?_);dsimp only;generalize Y-k=n1;apply p8 (a:=out) (i:=Y) (λo i2=>JH xs ys o i2 J/\0<i2/\i2<=Y) (jl,c1,ay _)
     .rintro o2 i2 ⟨U,e1,e2⟩;have e3:i2<=xs.size:=cb e2 c2;have e4:i2-1<xs.size:=bS (Nat.sub_lt e1 Nat.zero_lt_one) e3;show av (bV c6 ?_);have jl3:=U.pushY (Nat.lt_of_succ_lt c3) c4;show aL (λv=>a7 (z,jl3.fst)) λh5=>?_;have h6:1<J-1:=by have:=nb h5;clear c5 hyt;lia
      have hjj:J-1<=J:=Nat.sub_le _ _;show av (bV e4 ?_);show av (jG hO (z.k hk) (hxs.at e4) hys (!0) (!0) λk2 hk2=>?_);dsimp only;generalize o2.push ys[J-1]=o3 at *;generalize J-1=j1' at *;generalize j1'-k2=n2;apply p8 (a:=o3) (i:=j1') (λo j2=>JH xs ys o i2 j2/\1<j2/\j2<=j1') (jl3,h6,ay _)
      .rintro o4 j4 ⟨jl4,f1,f2⟩;have f3:=cb f2 hjj;show av (bV e4 ?_);have jl5:=jl4.pushX e1 e3;show aL (λv=>a7 (z,jl5.done)) λh7=>?_;have q:=jH (x+2) z jl5 (Nat.pos_of_ne_zero (nb h7)) (Nat.le_of_lt e4) f1 (cb f3 c4) (cb (Nat.add_le_add (Nat.add_le_add_left (cb (Nat.sub_le _ _) e2) _) f3) c5);exact aL (λv=>a7 q) λv=>a7 (_,_,_,_,_,_,rfl,q)
      .intro _ R;have jl4:=jl3.appY (k:=k2) hk2 (cb hjj c4);show aL (λv=>a7 (z,jl4.fst)) λh6=>?_;exact aL (λv=>a7 (z,jl4.done)) λh8=>R _ _ (jl4,by have:=nb h6;have:=nb h8;lia,hk2)
     .intro _ R;have U:=jl.appX (k:=k) hk' c2;exact aL (λv=>a7 (z,U.done)) λh3=>R _ _ (U,Nat.pos_of_ne_zero (nb h3),hk')
end
def GD(sa:Nat):∀(m:List Keyed)(n:Nat)(a:Array Keyed),sa+n+m⁻¹<=a.size->
  ((m.zipIdx n).foldl (λ(a:Array Keyed) (q:Keyed×Nat)=>a.setIfInBounds (sa+q.2) q.1) a).toList=a.toList.take (sa+n)++m++a.toList.drop (sa+n+m⁻¹)
 |[],n,a,h=>by simp
 |p::m,n,a,h=>by
  have hl:sa+n<a.toList⁻¹:=by rw[bq];simp only[ce]at h;lia
  have J:=GD sa m (n+1) (a.setIfInBounds (sa+n) p) (by rw[Array.size_setIfInBounds];simp only[ce]at h;lia);rw[List.zipIdx_cons,List.foldl_cons];show J.trans ?_;rw[Array.toList_setIfInBounds];have y:(a.toList.set (sa+n) p).take (sa+(n+1))=a.toList.take (sa+n)++[p]:=by rw[<-Nat.add_assoc,dy,eh hl,List.take_set_of_le (ay _)];rfl
  have z:(a.toList.set (sa+n) p).drop (sa+(n+1)+m⁻¹)=a.toList.drop (sa+n+(p::m)⁻¹):=by rw[List.drop_set_of_lt (!0),ce];congr 1;lia
  rw[y,z];simp
def YX(l:List Keyed)(a b c:Nat)(h1:a<=b):l=l.take a++((l.drop a).take (b-a)++(l.drop b).take c)++l.drop (b+c):=by
 conv=>lhs;rw[<-e9 a l,<-e9 (b-a) (l.drop a),List.drop_drop,iL h1,<-e9 c (l.drop b),List.drop_drop]
 simp
section
variable {prog:AK} {w:World} {A:AM} {E:AG} {s:AI} {κ:PyProof.Rows.KeyKind}
def Fin1(a₀:Array Keyed)(p:Array (Nat×Nat×Nat))(st:SortSt):Prop:=(arrOf st).Perm a₀/\kindOf st=oneType'/\failedOf st=none/\pendingOf st=p
variable {a₀:Array Keyed}
def Fin1.size{st:SortSt}(h:Fin1 a₀ p st):(arrOf st).size=a₀.size:=h.1.size_eq
def Fin1.okA{st:SortSt}(h:Fin1 a₀ p st)(h0:L2.okA κ a₀):L2.okA κ (arrOf st):=λq y=>h0 q ((Array.perm_iff_toList_perm.mp h.1).mem_iff.mp y)
def okA.cut{xs:Array Keyed}(h:L2.okA κ xs)(i j:Nat):L2.okA κ (xs.extract i j):=λq y=>h q (by
 rw[fR,ge]at y;exact iA (iq y))
theorem YZ(hO:κ.OneLt)(h0:L2.okA κ a₀){y U pw q2:Nat}{st:SortSt}{Q:Bool->SortSt->Prop}(hB:Fin1 a₀ #[(Prod.mk (0) (Prod.mk (y) (pw))),(Prod.mk (y) (Prod.mk (U) (q2)))] st)(h1:0<y)(h2:0<U)(hs:y+U=a₀.size)
  (h:∀st',Fin1 a₀ #[(Prod.mk (0) (Prod.mk (y+U) (pw)))] st'->Q true st'):PyProof.Rows.wpS (model prog w) A E s (mergeAt' 0) Q st:=by
 have hsz:=hB.size;have O:=hB.okA h0;let(kd,J,pd,mg,fl):=st;let(z,e1,e2,e3):=hB;have z:J.Perm a₀:=z;have e1:kd=oneType':=e1;have e2:fl=none:=e2;have e3:pd=#[(Prod.mk (0) (Prod.mk (y) (pw))),(Prod.mk (y) (Prod.mk (U) (q2)))]:=e3;have hsz:J.size=a₀.size:=hsz;have O:L2.okA κ J:=O;subst e1 e2 e3;unfold mergeAt';show av (wpS_get ?_);have ep:(#[(Prod.mk (0) (Prod.mk (y) (pw))),(Prod.mk (y) (Prod.mk (U) (q2)))].setIfInBounds 0 (Prod.mk (0) (Prod.mk (y+U) (pw)))).eraseIdxIfInBounds (0+1)=#[(Prod.mk (0) (Prod.mk (y+U) (pw)))]:=by simp
 generalize hP:(#[(Prod.mk (0) (Prod.mk (y) (pw))),(Prod.mk (y) (Prod.mk (U) (q2)))].setIfInBounds 0 (Prod.mk (0) (Prod.mk (y+U) (pw)))).eraseIdxIfInBounds (0+1)=P at ep;have Y:Fin1 a₀ #[(Prod.mk (0) (Prod.mk (y+U) (pw)))] (SortSt.mk' oneType' J P mg none):=(z,rfl,rfl,ep);have hset:∀{st st':SortSt}{Q:PUnit->SortSt->Prop},Q ⟨⟩ st'->PyProof.Rows.wpS (model prog w) A E s (set st':StateT SortSt Sem PUnit) Q st:=λhq=>by
  unfold PyProof.Rows.wpS;rw[StateT.run_set];exact am (rfl,hq)
 show av (hset (st':=SortSt.mk' oneType' J ((#[(Prod.mk (0) (Prod.mk (y) (pw))),(Prod.mk (y) (Prod.mk (U) (q2)))].setIfInBounds 0 (Prod.mk (0) (Prod.mk (y+U) (pw)))).eraseIdxIfInBounds (0+1)) mg none) ?_);rw[hP];show av (bV (xs:=J) (!0) ?_);show av (jG (xs:=J) hO rfl (O.at (!0)) O (!0) (!0) λk hk=>?_);dsimp only;show aL (λx=>a7 (h _ Y)) λh3=>?_;have h3:=nb h3;show av (bV (xs:=J) (!0) ?_);show av (jG (xs:=J) hO rfl (O.at (!0)) O (!0) (!0) λm hm=>?_);dsimp only;show aL (λx=>a7 (h _ Y)) λh4=>?_;have h4:=nb h4;have okx:=okA.cut O (0+k) y;have oky:=okA.cut O y (y+m);have zx:(J.extract (0+k) y).size=y-k:=by rw[Array.size_extract];lia
 have zy:(J.extract y (y+m)).size=m:=by rw[Array.size_extract];lia
 have tail:∀(out:Array Keyed)(st':SortSt),All (J.extract (0+k) y) (J.extract y (y+m)) out->Same1 (SortSt.mk' oneType' J P mg none) st'->
   PyProof.Rows.wpS (model prog w) A E s (do
    modify λs=>SortSt.mk' (kindOf s) (List.foldl (λ(a:Array Keyed) (q:Keyed×Nat)=>a.setIfInBounds (0+k+q.2) q.1) (arrOf s) out.toList.zipIdx) (pendingOf s) (gallopOf s) (failedOf s)
    let r <-get
    pure (failedOf r).isNone) Q st':=by
  intro out st' ha sm;let(m1,m2,m3,m4):=sm;show av (g7 (av (wpS_get ?_)));have ef:failedOf st'=none:=m4;have:(failedOf (SortSt.mk' (kindOf st') (List.foldl (λ(a:Array Keyed) (q:Keyed×Nat)=>a.setIfInBounds (0+k+q.2) q.1) (arrOf st') out.toList.zipIdx) (pendingOf st') (gallopOf st') (failedOf st'))).isNone=true:=by change(failedOf st').isNone=true;rw[ef];rfl
  rw[this];show a7 (h _ (?_,m1,m4,m3.trans ep));change(List.foldl (λ(a:Array Keyed) (q:Keyed×Nat)=>a.setIfInBounds (0+k+q.2) q.1) (arrOf st') out.toList.zipIdx).Perm a₀;have ea:arrOf st'=J:=m2;rw[ea];show Array.Perm.trans ?_ z;rw[Array.perm_iff_toList_perm];have zo:out.toList⁻¹=y-k+m:=by rw[ha.length_eq,ax,bq,bq,zx,zy]
  have pf:=GD (0+k) out.toList 0 J (by rw[zo];lia);show(gL pf).trans ?_;have ct:=YX J.toList (0+k) y m (!0);have ed:0+k+0+out.toList⁻¹=y+m:=by rw[zo];lia
  rw[ed,Nat.add_zero];conv=>rhs;rw[ct]
  show List.Perm.append_right _ (List.Perm.append_left _ ?_);show ha.trans (gL ?_);rw[fR,fR,ge,ge,Nat.add_sub_cancel_left]
 show aL (λx=>?_) λx=>?_
 .exact av (YT hO rfl okx oky (!0) (!0) tail)
 .exact av (YW hO rfl okx oky (!0) (!0) tail)
end
section
variable {prog:AK} {w:World} {A:AM} {E:AG} {s:AI} {κ:PyProof.Rows.KeyKind} {a₀:Array Keyed} {p:Array (Nat×Nat×Nat)}
theorem eU(J:κ.OneLt)(h0:L2.okA κ a₀){st:SortSt}{j:Nat}{Q:Option Bool->SortSt->Prop}(z:Fin1 a₀ p st)(hi:i<a₀.size)(O:j<a₀.size)(h:∀b,Q (-b) st):PyProof.Rows.wpS (model prog w) A E s (ltAt' i j) Q st:=by rw[ltAt'_eq];show av (wpS_get ?_);have hsz:=z.size;have y:=z.okA h0;show av (bV (xs:=arrOf st) (!0) (av (bV (xs:=arrOf st) (!0) ?_)));exact lO J z.2.1 (y.at (!0)) (y.at (!0)) h
def Fin1.arr{st:SortSt}{xs:Array Keyed}(y:Fin1 a₀ p st)(h:xs.Perm (arrOf st)):Fin1 a₀ p (setArr st xs):=(h.trans y.1,y.2.1,y.2.2.1,y.2.2.2)
theorem lU{lo a:Nat}{st:SortSt}{Q:Option Nat->SortSt->Prop}{f:Nat->Option (Option Nat)×Nat->StateT SortSt Sem (ForInStep (Option (Option Nat)×Nat))}{k:Option (Option Nat)×Nat->StateT SortSt Sem (Option Nat)}(O:a<=nrem)(U:∀y n (Q':ForInStep (Option (Option Nat)×Nat)->SortSt->Prop),a<=n->n<nrem->Q' (.done (none,n)) st->Q' (.yield (none,n+1)) st->PyProof.Rows.wpS (model prog w) A E s (f y (none,n)) Q' st)(h:∀n,a<=n->n<=nrem->PyProof.Rows.wpS (model prog w) A E s (k (none,n)) Q st):
  PyProof.Rows.wpS (model prog w) A E s ((forIn [a:nrem] ((none,a):Option (Option Nat)×Nat) f) >>= k) Q st:=by
 show av (wpS_mono (d0 (I:=λx c st'=>st'=st/\c=(none,x)) (Q:=λc st'=>st'=st/\∃n,c=(none,n)/\a<=n/\n<=nrem) ?step ?fin (rfl,rfl)) ?post);case step=>
  rintro x c st' z J ⟨rfl,rfl⟩;exact U x x _ z J (rfl,x,rfl,z,!0) (rfl,rfl)
 case fin=>
  rintro c st' ⟨rfl,rfl⟩;exact(rfl,_,rfl,!0,!0)
 case post=>
  rintro c st' ⟨rfl,n,rfl,h1,h2⟩;exact h n h1 h2
def gC{st:SortSt}{j:Nat}{Q:Unit->SortSt->Prop}(y:Fin1 a₀ p st)(h:∀st',Fin1 a₀ p st'->Q () st'):PyProof.Rows.wpS (model prog w) A E s (reverseSlice' i j) Q st:=by rw[reverseSlice'_eq];exact g7 (h _ (y.arr (mirror_perm _ _ _ _)))
theorem GF(hO:κ.OneLt)(h0:L2.okA κ a₀){lo O:Nat}{st:SortSt}{Q:Option Nat->SortSt->Prop}(hB:Fin1 a₀ p st)(hn:lo+O<=a₀.size)(h1:1<=O)
  (h:∀m st',Fin1 a₀ p st'->1<=m->m<=O->Q (-m) st'):PyProof.Rows.wpS (model prog w) A E s (countRun' lo O) Q st:=by
 rw[countRun'_eq];dsimp only;show lU (lo:=lo) h1 ?_ λn n1 n2=>?_
 .intro y n Q' q1 q2 q3 q4;dsimp only;show av (eU hO h0 hB (!0) (!0) λb=>?_);exact aL (λv=>a7 q3) λv=>a7 q4
 .dsimp only;show aL (λv=>a7 (h _ _ hB n1 n2)) λhne=>?_;have hne:=nb hne;show aL (λv=>?_) λv=>?_
  .show av (eU hO h0 hB (!0) (!0) λb=>?_);show aL (λv=>a7 (h _ _ hB n1 n2)) λv=>?_;show av (gC hB λst3 hB3=>?_);show av (wpS_lift (eS (rfl,?_)));show av (wpS_mono (d0 (I:=λx c st'=>Fin1 a₀ p st'/\∃q,c=(none,x,q)) (Q:=λc st'=>Fin1 a₀ p st'/\∃m q,c=(none,m,q)/\n+1<=m/\m<=O) ?_ ?_ (hB3,0,rfl)) ?_)
   .rintro x c Y hx1 hx2 ⟨z,q,rfl⟩;dsimp only;show av (eU hO h0 z (!0) (!0) λb=>?_);show aL (λv=>?_) λv=>?_
    .show aL (λv=>?_) λv=>a7 (z,_,rfl);exact av (gC z λst5 U=>a7 (U,_,rfl))
    .show av (eU hO h0 z (!0) (!0) λb=>?_);exact aL (λv=>a7 (z,_,_,rfl,!0,!0)) λv=>a7 (z,_,rfl)
   .rintro c Y ⟨z,q,rfl⟩;exact(z,_,_,rfl,!0,!0)
   .rintro c Y ⟨z,m,q,rfl,m1,m2⟩;dsimp only;show aL (λv=>?_) λv=>?_
    .show av (gC z λst5 U=>?_);show av (gC U λst9 J=>?_);show lU (lo:=lo) (!0) ?_ λn9 m1 m2=>?_
     .intro y n Q' q1 q2 q3 q4;dsimp only;show av (eU hO h0 J (!0) (!0) λb=>?_);exact aL (λv=>a7 q3) λv=>a7 q4
     .exact a7 (h _ _ J (!0) (!0))
    .skip;show av (gC z λst9 J=>?_);show lU (lo:=lo) (!0) ?_ λn9 m1 m2=>?_
     .intro y n Q' q1 q2 q3 q4;dsimp only;show av (eU hO h0 J (!0) (!0) λb=>?_);exact aL (λv=>a7 q3) λv=>a7 q4
     .exact a7 (h _ _ J (!0) (!0))
  .skip;show av (wpS_lift (eS (rfl,?_)));show av (wpS_mono (d0 (I:=λx c st'=>Fin1 a₀ p st'/\∃q,c=(none,x,q)) (Q:=λc st'=>Fin1 a₀ p st'/\∃m q,c=(none,m,q)/\n+1<=m/\m<=O) ?_ ?_ (hB,0,rfl)) ?_)
   .rintro x c Y hx1 hx2 ⟨z,q,rfl⟩;dsimp only;show av (eU hO h0 z (!0) (!0) λb=>?_);show aL (λv=>?_) λv=>?_
    .show aL (λv=>?_) λv=>a7 (z,_,rfl);exact av (gC z λst5 U=>a7 (U,_,rfl))
    .show av (eU hO h0 z (!0) (!0) λb=>?_);exact aL (λv=>a7 (z,_,_,rfl,!0,!0)) λv=>a7 (z,_,rfl)
   .rintro c Y ⟨z,q,rfl⟩;exact(z,_,_,rfl,!0,!0)
   .rintro c Y ⟨z,m,q,rfl,m1,m2⟩;dsimp only;show aL (λv=>?_) λv=>?_
    .show av (gC z λst5 U=>?_);show av (gC U λst9 J=>?_);show lU (lo:=lo) (!0) ?_ λn9 m1 m2=>?_
     .intro y n Q' q1 q2 q3 q4;dsimp only;show av (eU hO h0 J (!0) (!0) λb=>?_);exact aL (λv=>a7 q3) λv=>a7 q4
     .exact a7 (h _ _ J (!0) (!0))
    .skip;show av (gC z λst9 J=>?_);show lU (lo:=lo) (!0) ?_ λn9 m1 m2=>?_
     .intro y n Q' q1 q2 q3 q4;dsimp only;show av (eU hO h0 J (!0) (!0) λb=>?_);exact aL (λv=>a7 q3) λv=>a7 q4
     .exact a7 (h _ _ J (!0) (!0))
end
section
variable {prog:AK} {w:World} {A:AM} {E:AG} {s:AI} {κ:PyProof.Rows.KeyKind} {a₀:Array Keyed} {p:Array (Nat×Nat×Nat)}
theorem GJ(U:κ.OneLt)(h0:L2.okA κ a₀){ok:Nat}{st:SortSt}{Q:Bool->SortSt->Prop}(O:Fin1 a₀ p st)(hn:lo+n<=a₀.size)(h:∀st',Fin1 a₀ p st'->Q true st'):PyProof.Rows.wpS (model prog w) A E s (binarySort' lo n ok) Q st:=by
 rw[binarySort'_eq];dsimp only;show av (wpS_mono (d0 (I:=λv c st'=>c=(none,())/\Fin1 a₀ p st') (Q:=λc st'=>c=(none,())/\Fin1 a₀ p st') ?step (λv v z=>z) (rfl,O)) ?post);case post=>
  rintro c st' ⟨rfl,J⟩;exact a7 (h st' J)
 case step=>
  rintro k c st' Y hk2 ⟨rfl,J⟩;show av (wpS_mono (d0 (I:=λv c y=>y=st'/\∃l r,c=(none,l,r)/\r<=k) (Q:=λc y=>y=st'/\∃l r,c=(none,l,r)) ?step2 ?fin2 (rfl,0,k,rfl,ay _)) ?post2);case step2=>
   rintro x c y _ _ ⟨rfl,l,r,rfl,hr⟩;dsimp only;show aL (λv=>a7 (rfl,l,r,rfl)) λhlr=>?_;show av (eU U h0 J (!0) (!0) λb=>?_);exact aL (λv=>a7 (rfl,_,_,rfl,!0)) λv=>a7 (rfl,_,_,rfl,!0)
  case fin2=>
   rintro c y ⟨rfl,l,r,rfl,_⟩;exact(rfl,l,r,rfl)
  case post2=>
   rintro c y ⟨rfl,l,r,rfl⟩;dsimp only;rw[moveDown'_eq];exact av (g7 (a7 (rfl,J.arr (bubble_perm _ _ _))))
def Y0:minRun' 64 64 0=32:=by decide
theorem Y4(hO:κ.OneLt)(h0:L2.okA κ a₀){st:SortSt}{Q:Unit->SortSt->Prop}(hB:Fin1 a₀ #[] st)(h64:a₀.size=64)(h:∀st',(arrOf st').Perm a₀->failedOf st'=none->Q () st'):PyProof.Rows.wpS (model prog w) A E s sortRuns' Q st:=by
 rw[sortRuns'_eq];show av (wpS_get ?_);dsimp only;have hsz:=hB.size;simp only[hsz,h64,Y0];show av (wpS_mono (d0
  (I:=λx c st'=>(x=0/\c=(none,0)/\Fin1 a₀ #[] st')\/(x=1/\∃O,32<=O/\O<=64/\c=(none,O)/\Fin1 a₀ #[(0,O,0)] st')\/(∃O pw,0<O/\O<64/\c=(none,64)/\Fin1 a₀ #[(0,O,pw),(O,64-O,0)] st'))
  (Q:=λc st'=>c=(none,64)/\(Fin1 a₀ #[(0,64,0)] st'\/∃O pw,0<O/\O<64/\Fin1 a₀ #[(0,O,pw),(O,64-O,0)] st')) ?step ?fin (.inl (rfl,rfl,hB))) ?post)
 case fin=>
  rintro c st' (⟨hx,_,_⟩|⟨hx,_⟩|⟨O,pw,g1,g2,e,J⟩)
  .exact absurd hx (!1)
  .exact absurd hx (!1)
  .exact (e,.inr (O,pw,g1,g2,J))
 case step=>
  rintro x c st' _ hx (⟨rfl,rfl,J⟩|⟨rfl,O,g1,g2,rfl,J⟩|⟨O,pw,g1,g2,rfl,J⟩)
  .dsimp only;show aL (λz=>absurd z (!1)) λv=>?_;show av (GF hO h0 J (!0) (!0) λm st2 U m1 m2=>?_);dsimp only;show aL (λhm=>?_) λhm=>?_
   .show av (wpS_lift (eS (rfl,?_)));show av (GJ hO h0 U (!0) λst3 Y=>?_);simp only[kf,fg,ja];show av (wpS_get ?_);have hb:(pendingOf st3).back?=none:=by rw[Y.2.2.2];rfl
    rw[hb];dsimp only;exact av (g7 (a7 (.inr (.inl (by trivial,32,!0,!0,rfl,Y.1,Y.2.1,Y.2.2.1,by change(pendingOf st3).push _=_;rw[Y.2.2.2];rfl)))))
   .skip;show av (wpS_get ?_);have hb:(pendingOf st2).back?=none:=by rw[U.2.2.2];rfl
    rw[hb];dsimp only;exact av (g7 (a7 (.inr (.inl (by trivial,m,!0,!0,by rw[Nat.zero_add],U.1,U.2.1,U.2.2.1,by change(pendingOf st2).push _=_;rw[U.2.2.2];rfl)))))
  .dsimp only;show aL (λz=>?_) λhz=>?_
   .have e:O=64:=by lia
    subst e;exact a7 (rfl,.inl J)
   show av (GF hO h0 J (!0) (!0) λm st2 U m1 m2=>?_);dsimp only;show aL (λhm=>?_) λhm=>?_
   .show av (wpS_lift (eS (rfl,?_)));show av (GJ hO h0 U (!0) λst3 Y=>?_);simp only[kf,fg,ja];show av (wpS_get ?_);have hp:=Y.2.2.2;have hb:(pendingOf st3).back?=-(0,O,0):=by rw[hp];rfl
    rw[hb];dsimp only;show av (wpS_mono (d0 (I:=λv c y=>y=st3/\c=(none,())) (Q:=λc y=>y=st3/\c=(none,())) ?_ (λv v z=>z) (rfl,rfl)) ?_)
    .rintro x c y _ _ ⟨rfl,rfl⟩;show av (wpS_get ?_);rw[hp];exact a7 (rfl,rfl)
    .rintro c y ⟨rfl,rfl⟩;dsimp only;show av (g7 (av (g7 (a7 (.inr (.inr (O,power' 64 (2*0+O) (2*0+O+O+min (64-O) 32) 64,!0,!0,?_,Y.1,Y.2.1,Y.2.2.1,?_)))))))
     .have en:min (64-O) 32=64-O:=by lia
      rw[en,iL (!0)]
     .change ((pendingOf y).modify ((pendingOf y).size-1) _).push (O,min (64-O) 32,0)=_;have en:min (64-O) 32=64-O:=by lia
      rw[hp,en];rfl
   .skip;show av (wpS_get ?_);have hp:=U.2.2.2;have hb:(pendingOf st2).back?=-(0,O,0):=by rw[hp];rfl
    rw[hb];dsimp only;show av (wpS_mono (d0 (I:=λv c y=>y=st2/\c=(none,())) (Q:=λc y=>y=st2/\c=(none,())) ?_ (λv v z=>z) (rfl,rfl)) ?_)
    .rintro x c y _ _ ⟨rfl,rfl⟩;show av (wpS_get ?_);rw[hp];exact a7 (rfl,rfl)
    .rintro c y ⟨rfl,rfl⟩;dsimp only;show av (g7 (av (g7 (a7 (.inr (.inr (O,power' 64 (2*0+O) (2*0+O+O+m) 64,!0,!0,?_,U.1,U.2.1,U.2.2.1,?_)))))))
     .have en:m=64-O:=by lia
      rw[en,iL (!0)]
     .change ((pendingOf y).modify ((pendingOf y).size-1) _).push (O,m,0)=_;have en:m=64-O:=by lia
      rw[hp,en];rfl
  .dsimp only;rw[if_pos (ay _)];exact a7 (rfl,.inr (O,pw,g1,g2,J))
 case post=>
  rintro c st' ⟨rfl,hD⟩;dsimp only;show av (wpS_mono (d0 (I:=λx c y=>c=(none,())/\(Fin1 a₀ #[(0,64,0)] y\/(∃pw,Fin1 a₀ #[(0,64,pw)] y)\/x=0/\∃O pw,0<O/\O<64/\Fin1 a₀ #[(0,O,pw),(O,64-O,0)] y)) (Q:=λc y=>c=(none,())/\(arrOf y).Perm a₀/\failedOf y=none) ?_ ?_ (rfl,hD.elim .inl λz=>.inr (.inr (rfl,z)))) ?_)
  .rintro x c y _ _ ⟨rfl,hD⟩;show av (wpS_get ?_);rcases hD with J|⟨pw,J⟩|⟨_,O,pw,g1,g2,J⟩
   .show aL (λv=>a7 (rfl,J.1,J.2.2.1)) λz=>?_;rw[J.2.2.2]at z;exact absurd (ay 1) z
   .show aL (λv=>a7 (rfl,J.1,J.2.2.1)) λz=>?_;rw[J.2.2.2]at z;exact absurd (ay 1) z
   .rw[J.2.2.2];show aL (λz=>absurd z (show¬(2<=1) by decide)) λv=>?_;have hm:=YZ (prog:=prog) (w:=w) (A:=A) (E:=E) (s:=s) hO h0 J g1 (!0) (!0) (Q:=λb st'=>b=true/\∃pw,Fin1 a₀ #[(0,64,pw)] st') λst' hB4=>(rfl,pw,by rw[iL (!0)]at hB4;exact hB4);show av (wpS_mono hm λb st' hb=>?_);let(rfl,hb):=hb;exact a7 (rfl,.inr (.inl hb))
  .rintro c y ⟨rfl,hD⟩;rcases hD with J|⟨pw,J⟩|⟨z,_⟩
   .exact (rfl,J.1,J.2.2.1)
   .exact (rfl,J.1,J.2.2.1)
   .exact absurd z (!1)
  .rintro c y ⟨rfl,hp,hf⟩;exact a7 (h _ hp hf)
end
section
variable {prog:AK} {w:World} {A:AM} {E:AG} {s:AI}
theorem Y5{κ:PyProof.Rows.KeyKind}(Y:κ.OneLt){P:Fin->AI->Prop}(ho:s.heap.get? a=-(seqObj "list" vs.toArray n))(h0:L2.okA κ (pairsOf vs))(z:keyKind' vs.toArray=pure oneType')(y:vs⁻¹=64)(h:∀st':SortSt,(arrOf st').Perm (pairsOf vs)->P (.done (.ret .none)) {s with heap:=sortedHeap s.heap a vs ((arrOf st').map (·.2))}):wpAny (model prog w) A (Builtin.«list.sort» ([.ref a],[])) P E s:=by
 have la:=aE ho;have zv:vs.toArray.size=64:=by rw[a8];exact y
 have U:(pairsOf vs).size=64:=by rw[pairsOf_size];exact y
 have O:¬vs.toArray.size<2:=by lia
 rw[list_sort_plain];show af (listItems_at ho rfl (af (listUpdate_at ho rfl ?_)));have h1:=get?_update_seq ho (λx=>#[]);show af (seqEpoch_at h1 rfl (af (wpAny_newTuple ?_ (by rw[y,eT];decide))));show af (wpAny_newList (dE ?_));have h2:=ag (seqObj "list" #[] 0) (ag (seqObj "tuple" vs.toArray 0) h1);change wpAny (model prog w) A _ P E {s with heap:=((s.heap.update a (Obj.mapSeq λx=>#[])).push (seqObj "tuple" vs.toArray 0)).push (seqObj "list" #[] 0)};dsimp only;rw[if_neg O,if_neg O,z];show af (am ?_);have go:=Y4 (prog:=prog) (w:=w) (A:=A) (E:=E) (s:={s with heap:=((s.heap.update a (Obj.mapSeq λx=>#[])).push (seqObj "tuple" vs.toArray 0)).push (seqObj "list" #[] 0)}) Y h0 (st:=SortSt.mk' oneType' (vs.toArray.zip vs.toArray) #[] 7 none) (Q:=λx st'=>(arrOf st').Perm (pairsOf vs)/\failedOf st'=none) (Array.Perm.refl _,rfl,rfl,rfl) U λst' p f=>(p,f);show af (cm go ?_ λx x e=>e);rintro⟨⟨⟩,st'⟩ s' ⟨rfl,J,hf⟩;dsimp only;have zz:((arrOf st').map (·.2)).size<=sizeLine:=by rw[Array.size_map,J.size_eq,U,eT];decide
 show af (seqEpoch_at h2 rfl (af (listUpdate_at h2 rfl ?_ (hsz2:=Nat.le_succ_of_le zz))));rw[hf];simp only[bne_self_eq_false,fg,ja];exact am (h st' J)
def Y6{ss:AD}(J:StrsAre vs ss){xs:Array Keyed}(O:xs.Perm (pairsOf vs)):∃y,StrsAre (xs.map (·.2)).toList y/\y.Perm ss:=by
 have hl:=Array.perm_iff_toList_perm.mp O;rw[pairsOf_toList]at hl;have z:(xs.map (·.2)).toList.Perm vs:=by rw[Array.toList_map];show(hl.map (·.2)).trans (gL ?_);exact List.map_snd_zip (ay _)
 show((xs.map (·.2)).toList.map strOf,strsAre_map _ λv U=>J.all v (z.mem_iff.mp U),?_);show(z.map strOf).trans (gL J.strs)
theorem Y7{S:AQ}(hh:A.handled=none)(hS:SetL prog w s.heap S ks (!cH w))(h64:ks⁻¹<=64)(h:∀(h1 h':Heap) d tk e (out:Array AN) (J:AD),StrsAre out.toList J->J.Perm ks->(ks⁻¹<64->sortedS J=true)->(∀b o',s.heap.get? b=-o'->h1.get? b=-o')->(∀b o',h1.get? b=-o'->h'.get? b=-o')->s.toks<=tk->h'.get? h1.objs.size=-(seqObj "list" out e)->Q (.ref h1.objs.size) {s with heap:=h',drawn:=d,toks:=tk}):
  wpAny (model prog w) A (call (.builtin "sorted") [.ref S]) Q E s:=by
 rcases iE ks⁻¹ 64 with hlt|hge
 .exact YS hh hS hlt λh1 h' d tk e out J a1 a2 a3=>h h1 h' d tk e out J a1 a2 λr=>a3
 have e64:ks⁻¹=64:=by lia
 let(es,ep,t,ho,hel,hp,hb,hf,hl,hpl):=hS;show Calls.call_function_entry kind_sorted plain_sorted entry_sorted (args_sorted1 _) ?_;unfold Builtin.«sorted»;show af (m:=checkCount "sorted" 1 1 _) (am ?_);show af (Gn (!!hh) rfl ho hf hl hpl (by rw[eT];unfold scanBound at hb;lia) λh1 d tk y k1 htk U=>?_);have hall:∀v,v∈y->∃x u,v=Value.str x u:=λv hv=>by
  let(e,he,rfl):=bX.mp (U.mem_iff.mp hv);let(k,tk,rfl):=hel e he;exact(k,tk,rfl)
 have O:=strsAre_map y hall;have Y:y⁻¹=64:=by rw[U.length_eq,ah,<-ah (f:=iW),hp.length_eq];exact e64
 show af (wpAny_newList ?_ (by rw[eT];lia));have hoL:(h1.push (seqObj "list" y.toArray 0)).get? h1.objs.size=-(seqObj "list" y.toArray 0):=bd _ rfl;change wpAny _ _ _ _ _ {s with heap:=h1.push (seqObj "list" y.toArray 0),drawn:=d,toks:=tk};have hpk:(y.map strOf).Perm ks:=by show(U.map strOf).trans (iX (gL ?_) hp);rw[eP];show gX λe he=>?_;let(k,tk,rfl):=hel e he;rfl
 have hkk:keyKind' y.toArray=pure oneType':=by
  match y,Y,O with
  |v₁::v₂::rest,_,O=>exact keyKind_strs O
  |[_],hl,_=>exact absurd hl (show¬1=64 by decide)
  |[],hl,_=>exact absurd hl (show¬0=64 by decide)
 show af (dE (fv slot_list_sort (_,hoL,rfl) entry_list_sort (Y5 strKind_oneLt hoL O.keysOf hkk Y λst' hp'=>(_,rfl,?_)) (args_list_sort _)));let(J,a1,a2):=Y6 O hp';generalize (arrOf st').map (·.2)=out at a1;let(e,he):=sortedHeap_at (vs:=y) (out:=out) hoL;show am (_,rfl,h h1 _ d tk e out J a1 (a2.trans hpk) (λz=>by lia) k1 (λb o' hb1=>?_) htk he);rw[sortedHeap_old (ci (aE hb1)) (by rw[size_push'];exact eI (aE hb1))];exact ag _ hb1
end
end L2
namespace RF
open PySem PySem.Spec PyProof.Rows L2
set_option genInjectivity true in
inductive D where
 |non |bl (b:Bool) |int (i:Int) |str (l:AA) |tup (xs:List D) |lst (xs:List D) |ref (a:AQ) |scr (ns:List Int) |exn (C:AL) |exa (C f:AL) (d:D) |obj (C f:AL) (q:AQ)
 deriving Inhabited
variable {e tg tg':AO}{isAnd:Bool}{C:AL}{Q:AG}{φ:Heap->Prop}{op:Operator}{u:AN}{items:Array AN}{scope:Scope}{its its':AB}{w:World}{ho:HO}{k':D->Prop}{ls:List (AA)}{h h':Heap}{P:AK}{elts ifs:AE}{z i1 i2 a':AQ}{n1 x1 n2:Nat}{fp1 fp2:List AQ}{P1 P2:Nat->AN->Prop}{S1 S2:Nat->Heap->Prop}{sts:AF}{hi:Option Int}{vs':AR}{op':CmpOp}{t':TT}{N':AD}
abbrev AS:=List D
set_option genInjectivity true in
inductive DO where
 |lst (xs:AS)
 deriving Inhabited
variable {o:DO}{ys ds0:AS}
abbrev DH:=AQ->Option DO
abbrev AT:=D->DH->Prop
def aV(G:DH)(a:AQ)(o:DO):DH:=λb=>if b=a then some o else G b
def iY(G:DH)(a:AQ):DH:=λb=>if b=a then none else G b
def bQ{G:DH}{a:AQ}:aV G a o a=-o:=if_pos rfl
def dM{G:DH}{a b:AQ}(h:b≠a):aV G a o b=G b:=if_neg h
def wH{G:DH}{a:AQ}:iY G a a=none:=if_pos rfl
def wI{G:DH}{a b:AQ}(h:b≠a):iY G a b=G b:=if_neg h
def Y8{G:DH}{a:AQ}{u:DO}:aV (aV G a o) a u=aV G a u:=by funext b;unfold aV;split<;>rfl
def GK{G:DH}{a:AQ}(h:G a=none):iY (aV G a o) a=G:=by
 funext b;unfold aV iY;split
 .rename_i e;rw[e,h]
 .rename_i e;exact if_neg e
def wJ{G:DH}{a b:AQ}(h:G a=-o)(h':G b=none):a≠b:=by intro e;subst e;rw[h]at h';cases h'
abbrev sz:Nat:=1000000
abbrev FZ:=AQ->Prop
variable {F1:FZ}
def FzL(H:Hp)(F:FZ)(a:AQ)(vs:AR):Prop:=F a/\H a=-(.lst vs)
def FzL.sq{K:PF}{H:Hp}{F:FZ}{a:AQ}{vs:AR}(h:FzL H F a vs):SqL K H a vs:=.inl (.inl h.2)
structure TpT(K:PF)(H:Hp)(a:AQ)(vs:AR):Prop where
 it:H a=some (.tup vs)
def TpT.sq{K:PF}{H:Hp}{a:AQ}{vs:AR}(h:TpT K H a vs):SqT K H a vs:=.inl (.inl h.it)
def ScL(K:PF)(H:Hp)(a:AQ)(vs:AR):Prop:=
 (∃o,H a=-(.frz o (.lst vs)))\/
  ∃(o:Obj) (its:Array AN) (n:Nat),K.lookup a=-o/\o.cls=.type "list"/\o.dict=none/\o.data=.seq its n/\its.size<=sizeLine/\Vals vs its.toList
def ScL.sq{K:PF}{H:Hp}{a:AQ}{vs:AR}(h:ScL K H a vs):SqL K H a vs:=by
 rcases h with⟨o,h⟩|h
 .exact .inl (.inr (o,h))
 .exact .inr h
def FzO(H:Hp)(F:FZ)(a c dx:AQ)(f:Str)(q:AQ):Prop:=F a/\H a=-(.ins c dx [(f,.ref q)])
mutual
def Rep(K:PF)(H:Hp)(F:FZ):D->V->Prop
 |.non,v=>v=.non
 |.bl b,v=>v=.bl b
 |.int i,v=>v=.int i
 |.str l,v=>v=.str (tx l)/\l⁻¹<=sz
 |.tup ds,v=>∃a vs,v=.ref a/\TpT K H a vs/\Reps K H F ds vs
 |.lst ds,v=>∃a vs,v=.ref a/\FzL H F a vs/\Reps K H F ds vs
 |.ref a,v=>v=.ref a
 |.scr ns,v=>∃a,v=.ref a/\ScL K H a (ns.map V.int)
 |.obj C f q,v=>∃a c dx,v=.ref a/\FzO H F a c dx (⇑f) q/\PySem.W.nsIn K mainGlobals (⇑C)=-(-(.ref c))
 |.exa C f d,v=>∃a c dx ob od,∃(y:AQ)(u:V),v=.ref a/\(H a=-(.frz ob (.own y))/\ob.cls=.ref c/\ob.dict=-dx/\PySem.W.notCls ob=true)/\H dx=-(.frz od (.xd [(⇑f,u)]))/\Rep K H F d u/\PySem.W.nsIn K mainGlobals (⇑C)=-(-(.ref c))
 |.exn C,v=>∃a c,v=.ref a/\XO H a c/\PySem.W.nsIn K mainGlobals (⇑C)=-(-(.ref c))
def Reps(K:PF)(H:Hp)(F:FZ):AS->AR->Prop
 |[],vs=>vs=[]
 |d::ds,vs=>∃v r,vs=v::r/\Rep K H F d v/\Reps K H F ds r
end
structure Ext(H:Hp)(F:FZ)(H':Hp)(F':FZ):Prop where
 sub:∀a,F a->F' a
 keep:∀a,F a->H' a=H a
 tups:∀a xs,H a=some (.tup xs)->H' a=some (.tup xs)
 frzs:∀a o u,H a=some (.frz o u)->H' a=some (.frz o u)
def Ext.refl(H:Hp)(F:FZ):Ext H F H F:=(λz h=>h,λz z=>rfl,λz z h=>h,λz z z h=>h)
def Ext.trans{H H1 H2:Hp}{F y:FZ}(a:Ext H F H1 F1)(b:Ext H1 F1 H2 y):Ext H F H2 y:=
 (λc h=>b.sub c (a.sub c h),λc h=>(b.keep c (a.sub c h)).trans (a.keep c h),λc xs h=>b.tups c xs (a.tups c xs h),λc o u h=>b.frzs c o u (a.frzs c o u h))
section
variable {K:PF} {H H':Hp} {F F':FZ}
def TpT.ext{a:AQ}{vs:AR}(x:Ext H F H' F')(h:TpT K H a vs):TpT K H' a vs:=⟨x.tups _ _ h.it⟩
def FzL.ext{a:AQ}{vs:AR}(x:Ext H F H' F')(h:FzL H F a vs):FzL H' F' a vs:=(x.sub _ h.1,(x.keep _ h.1).trans h.2)
def ScL.ext{a:AQ}{vs:AR}(x:Ext H F H' F')(h:ScL K H a vs):ScL K H' a vs:=by
 rcases h with⟨o,h⟩|h
 .exact .inl (o,x.frzs _ _ _ h)
 .exact .inr h
mutual
theorem Rep.ext(x:Ext H F H' F'):∀{d:D}{v:V},Rep K H F d v->Rep K H' F' d v
 |.non,_,h=>h
 |.bl _,_,h=>h
 |.int _,_,h=>h
 |.str _,_,h=>h
 |.tup _,_,h=>by let(a,vs,e,q,r):=h;exact(a,vs,e,TpT.ext x q,Reps.ext x r)
 |.lst _,_,h=>by let(a,vs,e,q,r):=h;exact(a,vs,e,FzL.ext x q,Reps.ext x r)
 |.ref _,_,h=>h
 |.scr _,_,h=>by let(a,e,q):=h;exact(a,e,ScL.ext x q)
 |.obj _ _ _,_,h=>by let(a,c,dx,e,(hf,hh),n):=h;exact(a,c,dx,e,(x.sub _ hf,(x.keep _ hf).trans hh),n)
 |.exn _,_,h=>by let(a,c,e,(o,y,q,hc),n):=h;exact(a,c,e,(o,y,x.frzs _ _ _ q,hc),n)
 |.exa _ _ _,_,h=>by let(a,c,dx,ob,od,y,u,e,(q,h1,h2,h3),qd,r,n):=h;exact(a,c,dx,ob,od,y,u,e,(x.frzs _ _ _ q,h1,h2,h3),x.frzs _ _ _ qd,Rep.ext x r,n)
theorem Reps.ext(x:Ext H F H' F'):∀{ds:AS}{vs:AR},Reps K H F ds vs->Reps K H' F' ds vs
 |[],_,h=>h
 |_::_,_,h=>by let(v,r,e,h,t):=h;exact(v,r,e,Rep.ext x h,Reps.ext x t)
end
theorem Reps.nil:Reps K H F [] []:=rfl
def Reps.cons{d:D}{v:V}{ds:AS}{vs:AR}(h:Rep K H F d v)(t:Reps K H F ds vs):Reps K H F (d::ds) (v::vs):=(v,vs,rfl,h,t)
def Reps.length:∀{ds:AS}{vs:AR},Reps K H F ds vs->ds⁻¹=vs⁻¹
 |[],_,h=>by cases h;rfl
 |_::_,_,(v,r,e,_,t)=>by subst e;simp[Reps.length t]
def Reps.append:∀{ds es:AS}{vs us:AR},Reps K H F ds vs->Reps K H F es us->Reps K H F (ds++es) (vs++us)
 |[],_,_,_,h,t=>by cases h;exact t
 |_::_,_,_,_,(v,r,e,h,t),t'=>by subst e;exact(v,_,rfl,h,Reps.append t t')
def Reps.get:∀{ds:AS}{vs:AR}{i:Nat}{d:D},Reps K H F ds vs->ds[i]?=-d->∃v,vs[i]?=-v/\Rep K H F d v
 |[],_,_,_,_,e=>by simp at e
 |_::_,_,0,_,(v,r,e,h,t),q=>by subst e;simp at q;subst q;exact(v,rfl,h)
 |_::_,_,i+1,d,(v,r,e,h,t),q=>by
  subst e;let(u,h1,h2):=Reps.get (i:=i) (d:=d) t (!!q);exact(u,!!h1,h2)
def Reps.set{d:D}{v:V}(r:Rep K H F d v):∀{ds:AS}{vs:AR}(i:Nat),Reps K H F ds vs->Reps K H F (ds.set i d) (vs.set i v)
 |[],_,_,h=>by cases h;exact rfl
 |_::_,_,0,(v',r',e,h,t)=>by subst e;exact(_,_,rfl,r,t)
 |_::_,_,i+1,(v',r',e,h,t)=>by subst e;exact(_,_,rfl,h,Reps.set r i t)
def Reps.take:∀{ds:AS}{vs:AR}(n:Nat),Reps K H F ds vs->Reps K H F (ds.take n) (vs.take n)
 |_,_,0,_=>rfl
 |[],_,_+1,h=>by cases h;exact rfl
 |_::_,_,n+1,(v',r',e,h,t)=>by subst e;exact(_,_,rfl,h,Reps.take n t)
def Reps.drop:∀{ds:AS}{vs:AR}(n:Nat),Reps K H F ds vs->Reps K H F (ds.drop n) (vs.drop n)
 |_,_,0,h=>h
 |[],_,_+1,h=>by cases h;exact rfl
 |_::_,_,n+1,(v',r',e,h,t)=>by subst e;exact Reps.drop n t
def Reps.cut{ds:AS}{vs:AR}(h:Reps K H F ds vs)(lo hi:Option Int):
  Reps K H F ((ds.drop (HT.sIx ds⁻¹ 0 lo)).take (HT.sIx ds⁻¹ ds⁻¹ hi-HT.sIx ds⁻¹ 0 lo)) (eN vs lo hi):=by
 unfold eN;rw[<-h⁻¹];exact(h.drop _).take _
def Reps.rep{ds:AS}{vs:AR}(h:Reps K H F ds vs):∀k:Nat,Reps K H F (List.replicate k ds).flatten (List.replicate k vs).flatten
 |0=>rfl
 |k+1=>by
  rw[e6,e6,kq,kq];exact Reps.append h (Reps.rep h k)
end
def Y9(K:PF)(H:Hp)(F:FZ)(a:AQ):DO->Prop
 |.lst ds=>∃vs,H a=-(.lst vs)/\Reps K H F ds vs
structure R(K:PF)(H:Hp)(F:FZ)(G:DH):Prop where
 fz:∀a,F a->G a=none/\∃o,H a=some o
 ob:∀a o,G a=some o->Y9 K H F a o
section
variable {K:PF} {H:Hp} {F:FZ} {G:DH} {p:AQ} {vs:AR} {ds:AS}
def R.lst(r:R K H F G)(h:G p=-(.lst ds)):∃vs,H p=-(.lst vs)/\Reps K H F ds vs:=r.ob p _ h
def R.free(r:R K H F G)(h:H p=none):G p=none:=by
 cases e:G p with
 |none=>rfl
 |some o=>
  cases o with
  |lst ds=>let(vs,q,_):=r.lst e;rw[h]at q;cases q
def R.notF(r:R K H F G)(h:H p=none):¬F p:=λf=>by
 let(_,vs,q):=r.fz p f;rw[h]at q;cases q
def dN{o:HO}(r:R K H F G)(h:H p=none):Ext H F (upd H p o) F:=
 (λz f=>f,λa f=>aH λe=>r.notF h (by rw[<-e];exact f),λa xs q=>by rw[aH (bw q h)];exact q,λa ob u q=>by rw[aH (bw q h)];exact q)
def R.new{o:HO}(r:R K H F G)(h:H p=none):R K (upd H p o) F G:=by
 have x:Ext H F (upd H p o) F:=dN r h;show(λa f=>((r.fz a f).1,?_),λa u e=>?_)
 .let(_,vs,q):=r.fz a f;exact(vs,by rw[x.keep a f];exact q)
 .cases u with
  |lst ds=>
   let(vs,q,t):=r.lst e;exact(vs,by rw[aH (bw q h)];exact q,Reps.ext x t)
def R.newL(r:R K H F G)(h:H p=none)(t:Reps K H F ds vs):R K (upd H p (.lst vs)) F (aV G p (.lst ds)):=by
 have x:Ext H F (upd H p (.lst vs)) F:=dN r h;have z:R K (upd H p (.lst vs)) F G:=r.new h;show(λa f=>(?_,(z.fz a f).2),λa u e=>?_)
 .rw[dM λe=>r.notF h (by rw[<-e];exact f)];exact(r.fz a f).1
 .by_cases y:a=p
  .subst y;rw[bQ]at e;cases e;exact(vs,cu,Reps.ext x t)
  .rw[dM y]at e;exact z.ob a u e
def wK(r:R K H F G)(h:H p=none):Ext H F (upd H p (.lst vs)) (λa=>F a\/a=p):=
 (λz f=>.inl f,(dN r h).keep,(dN r h).tups,(dN r h).frzs)
def R.newF(r:R K H F G)(h:H p=none):R K (upd H p (.lst vs)) (λa=>F a\/a=p) G:=by
 have x:Ext H F (upd H p (.lst vs)) (λa=>F a\/a=p):=wK r h;show(λa f=>?_,λa u e=>?_)
 .rcases f with f|f
  .let(g,y,q):=r.fz a f;exact(g,y,by rw[x.keep a f];exact q)
  .subst f;exact(r.free h,_,cu)
 .cases u with
  |lst ds=>
   let(y,q,t):=r.lst e;exact(y,by rw[aH (bw q h)];exact q,Reps.ext x t)
def Za(r:R K H F G)(h:H p=none)(t:Reps K H F ds vs):Rep K (upd H p (.lst vs)) (λa=>F a\/a=p) (.lst ds) (.ref p):=
 (p,vs,rfl,(.inr rfl,cu),Reps.ext (wK r h) t)
def wL(r:R K H F G)(h:H p=none)(t:Reps K H F ds vs):Rep K (upd H p (.tup vs)) F (.tup ds) (.ref p):=
 (p,vs,rfl,⟨cu⟩,Reps.ext (dN r h) t)
def dz{a x:AQ}{u:HO}(h:H a=-u)(y:H x=-(.ext φ))(z:u≠.ext φ):a≠x:=λe=>z (by subst e;rw[h]at y;exact cy y)
mutual
theorem Rep.offX{x:AQ}{φ:Heap->Prop}{H':Hp}{F':FZ}(hx:H x=-(.ext φ))(hH:∀b,b≠x->H' b=H b)(hF:∀b,b≠x->F b->F' b):∀{d:D}{v:V},Rep K H F d v->Rep K H' F' d v
 |.non,_,h=>h
 |.bl _,_,h=>h
 |.int _,_,h=>h
 |.str _,_,h=>h
 |.tup _,_,(a,vs,e,q,r)=>(a,vs,e,⟨by rw[hH _ (dz q.it hx (by intro w;cases w))];exact q.it⟩,Reps.offX hx hH hF r)
 |.lst _,_,(a,vs,e,q,r)=>(a,vs,e,(hF _ (dz q.2 hx (by intro w;cases w)) q.1,by rw[hH _ (dz q.2 hx (by intro w;cases w))];exact q.2),Reps.offX hx hH hF r)
 |.ref _,_,h=>h
 |.scr _,_,(a,e,q)=>(a,e,by
   rcases q with⟨o,q⟩|q
   .exact .inl (o,by rw[hH _ (dz q hx (by intro w;cases w))];exact q)
   .exact .inr q)
 |.obj _ _ _,_,(a,c',dx',e,(hf,hh),n)=>(a,c',dx',e,(hF _ (dz hh hx (by intro w;cases w)) hf,by rw[hH _ (dz hh hx (by intro w;cases w))];exact hh),n)
 |.exn _,_,(a,c',e,(o,y,q,hc),n)=>(a,c',e,(o,y,by rw[hH _ (dz q hx (by intro w;cases w))];exact q,hc),n)
 |.exa _ _ _,_,(a,c',dx',ob,od,y,u,e,(q,h1,h2,h3),qd,r,n)=>(a,c',dx',ob,od,y,u,e,(by rw[hH _ (dz q hx (by intro w;cases w))];exact q,h1,h2,h3),by rw[hH _ (dz qd hx (by intro w;cases w))];exact qd,Rep.offX hx hH hF r,n)
theorem Reps.offX{x:AQ}{φ:Heap->Prop}{H':Hp}{F':FZ}(hx:H x=-(.ext φ))(hH:∀b,b≠x->H' b=H b)(hF:∀b,b≠x->F b->F' b):∀{ds:AS}{vs:AR},Reps K H F ds vs->Reps K H' F' ds vs
 |[],_,h=>h
 |_::_,_,(v,r,e,h,t)=>(v,r,e,Rep.offX hx hH hF h,Reps.offX hx hH hF t)
end
def Rep.setX{x:AQ}(z:H x=-(.ext φ)){d:D}{v:V}(h:Rep K H F d v):Rep K (upd H x ho) F d v:=Rep.offX z (λu y=>aH y) (λu u f=>f) h
def R.offX{x:AQ}{H':Hp}{F':FZ}(r:R K H F G)(z:H x=-(.ext φ))(y:∀b,b≠x->H' b=H b)(J:∀b,b≠x->F b->F' b)(hs:∀b,F' b->F b/\(b=x->∃o,H' x=-o)):R K H' F' G:=by
 show(λa f=>((r.fz a (hs a f).1).1,?_),λa u e=>?_)
 .by_cases h:a=x
  .rw[h];exact(hs a f).2 h
  .rw[y a h];exact(r.fz a (hs a f).1).2
 .cases u with
  |lst ds=>
   let(vs,q,t):=r.lst e;exact(vs,by rw[y _ (dz q z (by intro w;cases w))];exact q,Reps.offX z y J t)
def R.setX{x:AQ}(r:R K H F G)(z:H x=-(.ext φ)):R K (upd H x ho) F G:=r.offX z (λv y=>aH y) (λv v f=>f) λv f=>(f,λv=>(_,cu))
def R.holdX{x:AQ}(r:R K H F G)(z:H x=-(.ext φ)):R K H (λa=>F a\/a=x) G/\Ext H F H (λa=>F a\/a=x):=by
 have y:Ext H F H (λa=>F a\/a=x):=(λv f=>.inl f,λv v=>rfl,λv v q=>q,λv v v q=>q);show((λa f=>?_,λa u e=>?_),y)
 .rcases f with f|f
  .exact r.fz a f
  .subst f;show(?_,_,z);cases e:G a with
   |none=>rfl
   |some o=>
    cases o with
    |lst ds=>let(vs,q,_):=r.lst e;rw[z]at q;cases q
 .cases u with
  |lst ds=>
   let(vs,q,t):=r.lst e;exact(vs,q,Reps.ext y t)
def qb{o:HO}(r:R K H F G)(h:G p=-(.lst ds0)):Ext H F (upd H p o) F:=by
 let(y,q,_):=r.lst h;show(λx f=>f,λa f=>aH λe=>?_,λa xs z=>?_,λa ob u z=>?_)
 .subst e;rw[(r.fz a f).1]at h;cases h
 .rw[aH (Cu z q (by intro w;cases w))];exact z
 .rw[aH (Cu z q (by intro w;cases w))];exact z
def R.write(r:R K H F G)(h:G p=-(.lst ds0))(t:Reps K H F ds vs):R K (upd H p (.lst vs)) F (aV G p (.lst ds)):=by
 have x:Ext H F (upd H p (.lst vs)) F:=qb r h;show(λa f=>(?_,?_),λa u e=>?_)
 .rw[dM λe=>by subst e;rw[(r.fz a f).1]at h;cases h];exact(r.fz a f).1
 .let(_,y,q):=r.fz a f;exact(y,by rw[x.keep a f];exact q)
 .by_cases z:a=p
  .subst z;rw[bQ]at e;cases e;exact(vs,cu,Reps.ext x t)
  .rw[dM z]at e;cases u with
   |lst J=>
    let(y,q,t'):=r.lst e;exact(y,by rw[aH z];exact q,Reps.ext x t')
def wM:Ext H F H (λa=>F a\/a=p):=(λz f=>.inl f,λz z=>rfl,λz z h=>h,λz z z h=>h)
def R.frz(r:R K H F G)(h:G p=-(.lst ds)):R K H (λa=>F a\/a=p) (iY G p):=by
 have x:Ext H F H (λa=>F a\/a=p):=wM;show(λa f=>?_,λa u e=>?_)
 .rcases f with f|f
  .let(g,y,q):=r.fz a f;show(?_,y,q);by_cases z:a=p
   .rw[z];exact wH
   .rw[wI z];exact g
  .subst f;let(vs,q,_):=r.lst h;exact(wH,_,q)
 .by_cases z:a=p
  .rw[z,wH]at e;cases e
  .rw[wI z]at e;cases u with
   |lst J=>
    let(y,q,t'):=r.lst e;exact(y,q,Reps.ext x t')
def Zb(r:R K H F G)(h:G p=-(.lst ds)):Rep K H (λa=>F a\/a=p) (.lst ds) (.ref p):=by let(vs,q,t):=r.lst h;exact(p,vs,rfl,(.inr rfl,q),Reps.ext wM t)
end
def view(G:DH):D->D
 |.ref p=>match G p with|some (.lst ds)=>.lst ds|none=>.ref p
 |d=>d
def Rep.list{K:PF}{H:Hp}{F:FZ}{G:DH}{d:D}{v:V}{ds:AS}(r:R K H F G)(h:Rep K H F d v)(e:view G d=.lst ds):∃a vs,v=.ref a/\SqL K H a vs/\Reps K H F ds vs:=by
 cases d with
 |lst xs=>
  have y:D.lst xs=.lst ds:=e;cases y;let(a,vs,z,q,t):=h;exact(a,vs,z,q.sq,t)
 |ref p=>
  have J:v=.ref p:=h;unfold view at e;cases g:G p with
  |none=>simp only[g]at e;cases e
  |some o=>
   cases o with
   |lst xs=>
    simp only[g]at e;cases e;let(vs,q,t):=r.lst g;exact(p,vs,J,.inl (.inl q),t)
 |_=>cases(show _=D.lst ds from e)
def iZ{G:DH}{d:D}{ds:AS}(e:view G d=.tup ds):d=.tup ds:=by
 cases d with
 |ref p=>
  unfold view at e;cases g:G p with
  |none=>simp only[g]at e;cases e
  |some o=>cases o;simp only[g]at e;cases e
 |_=>exact e
def ir{G:DH}{d:D}{l:AA}(e:view G d=.str l):d=.str l:=by
 cases d with
 |ref p=>
  unfold view at e;cases g:G p with
  |none=>simp only[g]at e;cases e
  |some o=>cases o;simp only[g]at e;cases e
 |_=>exact e
def gD{G:DH}{d:D}{l:Int}(e:view G d=.int l):d=.int l:=by
 cases d with
 |ref p=>
  unfold view at e;cases g:G p with
  |none=>simp only[g]at e;cases e
  |some o=>cases o;simp only[g]at e;cases e
 |_=>exact e
def Zc{G:DH}{d:D}{l:Bool}(e:view G d=.bl l):d=.bl l:=by
 cases d with
 |ref p=>
  unfold view at e;cases g:G p with
  |none=>simp only[g]at e;cases e
  |some o=>cases o;simp only[g]at e;cases e
 |_=>exact e
abbrev ao:=List (Option D)
def EnvR(K:PF)(H:Hp)(F:FZ):ao->L2.St->Prop
 |[],X=>X=[]
 |o::Y,X=>∃u y,X=u::y/\(∀d,o=-d->∃v,u=-v/\Rep K H F d v)/\EnvR K H F Y y
section
variable {K:PF} {H H':Hp} {F F':FZ}
def EnvR.ext(x:Ext H F H' F'):∀{Y:ao}{X:L2.St},EnvR K H F Y X->EnvR K H' F' Y X
 |[],_,h=>h
 |_::_,_,(u,τ,e,h,t)=>(u,τ,e,λd q=>by let(v,y,r):=h d q;exact(v,y,Rep.ext x r),EnvR.ext x t)
def EnvR.setX{x:AQ}(y:H x=-(.ext φ)):∀{Y:ao}{X:L2.St},EnvR K H F Y X->EnvR K (upd H x ho) F Y X
 |[],_,h=>h
 |_::_,_,(u,τ,e,h,t)=>(u,τ,e,λd q=>by let(v,z,r):=h d q;exact(v,z,Rep.setX y r),EnvR.setX y t)
def EnvR.get:∀{Y:ao}{X:L2.St}{i:Nat}{d:D},EnvR K H F Y X->Y[i]?=-(-d)->∃v,X[i]?=-(-v)/\Rep K H F d v
 |[],_,_,_,_,e=>by simp at e
 |_::_,_,0,d,(u,τ,e,h,t),q=>by
  subst e;let(v,y,r):=h d (!!q);exact(v,by simp[y],r)
 |_::_,_,i+1,d,(u,τ,e,h,t),q=>by
  subst e;let(v,y,r):=EnvR.get (i:=i) (d:=d) t (!!q);exact(v,!!y,r)
def EnvR.set{d:D}{v:V}(r:Rep K H F d v):∀{Y:ao}{X:L2.St}(i:Nat),EnvR K H F Y X->EnvR K H F (Y.set i (-d)) (X.set i (-v))
 |[],_,_,h=>by cases h;exact rfl
 |_::_,_,0,(u,τ,e,h,t)=>by subst e;exact(_,_,rfl,λd' q=>(v,rfl,by cases q;exact r),t)
 |_::_,_,i+1,(u,τ,e,h,t)=>by subst e;exact(_,_,rfl,h,EnvR.set r i t)
def EnvR.unset:∀{Y:ao}{X:L2.St}(i:Nat),EnvR K H F Y X->EnvR K H F (Y.set i Option.none) (X.set i Option.none)
 |[],_,_,h=>by cases h;exact rfl
 |_::_,_,0,(u,τ,e,h,t)=>by subst e;exact(_,_,rfl,λd' q=>(nomatch q),t)
 |_::_,_,i+1,(u,τ,e,h,t)=>by subst e;exact(_,_,rfl,h,EnvR.unset i t)
def EnvR.none:∀(n:Nat),EnvR K H F (List.replicate n Option.none) (List.replicate n Option.none)
 |0=>rfl
 |n+1=>(_,_,rfl,λd q=>(nomatch q),EnvR.none n)
def EnvR.start:∀{ds:AS}{vs:AR}(n:Nat),Reps K H F ds vs->EnvR K H F (ds.map some++List.replicate n Option.none) (vs.map some++List.replicate n Option.none)
 |[],_,n,h=>by cases h;exact EnvR.none n
 |d::ds,_,n,(v,r,e,h,t)=>by
  subst e;exact(_,_,rfl,λd' q=>(v,rfl,by cases q;exact h),EnvR.start n t)
def EnvR.cap{Y:ao}{X:L2.St}(h:EnvR K H F Y X):∀(cap:List (Option Nat)),EnvR K H F (cap.map λo=>match o with|Option.none=>Option.none|some j=>(Y[j]?).join) (eO cap X)
 |[]=>rfl
 |Option.none::cap=>(_,_,rfl,λd q=>(nomatch q),EnvR.cap h cap)
 |some j::cap=>by
  show(_,_,rfl,λd q=>?_,EnvR.cap h cap);have y:(Y[j]?).join=-d:=q;have z:Y[j]?=-(-d):=by
   cases e:Y[j]? with
   |none=>rw[e]at y;cases y
   |some o=>rw[e]at y;exact fT some y
  let(v,J,r):=h.get z;exact(v,by change(X[j]?).join=-v;rw[J];rfl,r)
end
mutual
def deq:D->D->Bool
 |.non,.non=>true
 |.bl a,.bl b=>a==b
 |.bl a,.int b=>(if a then 1 else 0)==b
 |.int a,.bl b=>a==(if b then 1 else 0)
 |.int a,.int b=>a==b
 |.str a,.str b=>a==b
 |.tup a,.tup b=>cI a b
 |.lst a,.lst b=>cI a b
 |_,_=>false
def cI:AS->AS->Bool
 |[],[]=>true
 |a::as,b::bs=>deq a b&&cI as bs
 |_,_=>false
end
mutual
/-- no tracked object within -/
def nr:D->Bool
 |.tup a=>nrs a
 |.lst a=>nrs a
 |.ref _=>false
 |.scr _=>false
 |.exn _=>false
 |.exa _ _ _=>false
 |.obj _ _ _=>false
 |_=>true
def nrs:AS->Bool
 |[]=>true
 |a::as=>nr a&&nrs as
end
mutual
def dpt:D->Nat
 |.tup a=>aX a+1
 |.lst a=>aX a+1
 |_=>0
def aX:AS->Nat
 |[]=>0
 |a::as=>max (dpt a) (aX as)
end
def truth:D->Option Bool
 |.non=>-false
 |.bl b=>-b
 |.int i=>-(i != 0)
 |.str l=>-(!l.isEmpty)
 |.tup l=>-(!l.isEmpty)
 |.lst l=>-(!l.isEmpty)
 |_=>none
def cut{y:Type}(xs:List y)(lo hi:Option Int):List y:=(xs.drop (HT.sIx xs⁻¹ 0 lo)).take (HT.sIx xs⁻¹ xs⁻¹ hi-HT.sIx xs⁻¹ 0 lo)
def reps{y:Type}(xs:List y)(n:Nat):List y:=(List.replicate n xs).flatten
def mk(fz:Bool)(xs:AS)(G:DH)(k:AT):Prop:=
 match fz with
 |true=>k (.lst xs) G
 |false=>∀p,G p=none->k (.ref p) (aV G p (.lst xs))
def jJ(fz:Bool)(a b:D)(G:DH)(k:AT):Prop:=
 match a with
 |.int i=>(match b with |.int j=>k (.int (i+j)) G|_=>False)
 |.str x=>(match b with |.str y=>x⁻¹+y⁻¹<=sz/\k (.str (x++y)) G|_=>False)
 |.lst x=>(match b with |.lst y=>x⁻¹+y⁻¹<=sz/\mk fz (x++y) G k|_=>False)
 |.tup x=>(match b with |.tup y=>x⁻¹+y⁻¹<=sz/\k (.tup (x++y)) G|_=>False)
 |_=>False
def iu(a b:D)(p:Int->Int->Prop):Prop:=
 match a with
 |.int i=>(match b with |.int j=>p i j|_=>False)
 |_=>False
def jK(fz:Bool)(a b:D)(G:DH)(k:AT):Prop:=
 match b with
 |.int n=>(match a with |.int i=>CMul i n/\k (.int (i*n)) G |.str x=>0<=n/\n<=1000/\x⁻¹*n.toNat<=sz/\k (.str (reps x n.toNat)) G|_=>False)
 |_=>False
def dh(op:Operator)(fz:Bool)(a b:D)(G:DH)(k:AT):Prop:=
 match op with
 |.Add=>jJ fz a b G k
 |.Sub=>iu a b λi j=>k (.int (i-j)) G
 |.Mult=>jK fz a b G k
 |.FloorDiv=>iu a b λi j=>(0<j/\j<1152921504606846976)/\k (.int (i/j)) G
 |.Mod=>iu a b λi j=>0<j/\k (.int (i%j)) G
 |.Pow=>iu a b λi j=>pK i j/\k (.int (i ^ j.toNat)) G
 |_=>False
def isIn(x:D)(ys:AS):Bool:=ys.any λy=>deq y x
def GP(a b:D):Prop:=nr a=true/\nr b=true/\min (dpt a) (dpt b)<=60
def inG(a:D)(l:AS):Prop:=nr a=true/\nrs l=true/\aX l<=60
def jL(a b:D)(k:Bool->Prop):Prop:=
 match a,b with
 |.int i,.int j=>k (decide (i<j))
 |.str i,.str j=>k (decide (i<j))
 |_,_=>False
def jM(a b:D)(k:Bool->Prop):Prop:=
 match a,b with
 |.int i,.int j=>k (decide (i<=j))
 |.str i,.str j=>k (!decide (j<i))
 |_,_=>False
def jN(a b:D)(k:Bool->Prop):Prop:=
 match a,b with
 |.int i,.int j=>k (decide (j<i))
 |_,_=>False
def jO(a b:D)(k:Bool->Prop):Prop:=
 match a,b with
 |.int i,.int j=>k (decide (j<=i))
 |_,_=>False
def eV(a:D):Bool:=match a with |.non=>true|_=>false
def jP(a b:D)(k:Bool->Prop):Prop:=
 match b with
 |.non=>k (eV a)
 |.bl b=>(match a with |.bl a=>k (a==b)|_=>False)
 |_=>False
def jQ(a b:D)(k:Bool->Prop):Prop:=
 match b with
 |.non=>k (!eV a)
 |.bl b=>(match a with |.bl a=>k (a != b)|_=>False)
 |_=>False
def gF(a b:D)(k:Bool->Prop):Prop:=
 match b with
 |.str l=>(match a with |.str [c]=>k (l.contains c)|_=>False)
 |.lst l=>inG a l/\k (isIn a l)
 |.tup l=>inG a l/\k (isIn a l)
 |_=>False
def bx(op:CmpOp)(a b:D)(k:Bool->Prop):Prop:=
 match op with
 |.Eq=>GP a b/\k (deq a b)
 |.NotEq=>GP a b/\k (!deq a b)
 |.Lt=>jL a b k
 |.LtE=>jM a b k
 |.Gt=>jN a b k
 |.GtE=>jO a b k
 |.Is=>jP a b k
 |.IsNot=>jQ a b k
 |.In=>gF a b k
 |.NotIn=>gF a b λc=>k (!c)
def dB(a i:D)(k:D->Prop):Prop:=
 match a,i with
 |.lst ds,.int i=>match atI ds i with|some d=>k d|none=>False
 |.tup ds,.int i=>match atI ds i with|some d=>k d|none=>False
 |.str l,.int i=>match atI l i with|some c=>k (.str [c])|none=>False
 |_,_=>False
def eX(fz:Bool)(a:D)(lo hi:Option Int)(G:DH)(k:AT):Prop:=
 match a with
 |.lst ds=>mk fz (cut ds lo hi) G k
 |.scr ns=>mk fz ((cut ns lo hi).map .int) G k
 |.tup ds=>k (.tup (cut ds lo hi)) G
 |.str l=>k (.str (cut l lo hi)) G
 |_=>False
def qe(fz:Bool)(a y:D)(G:DH)(k:AT):Prop:=
 match a with
 |.lst ds=>y=.int (Neg.neg 1)/\mk fz ds.reverse G k
 |.tup ds=>y=.int (Neg.neg 1)/\k (.tup ds.reverse) G
 |_=>False
def bools:AS->Option (List Bool)
 |[]=>-[]
 |.bl b::r=>match bools r with|some s=>-(b::s)|none=>none
 |_=>none
def cT:AS->Option (List Int)
 |[]=>-[]
 |.int b::r=>match cT r with|some s=>-(b::s)|none=>none
 |_=>none
def bj:AS->Option (List (AA))
 |[]=>-[]
 |.str b::r=>match bj r with|some s=>-(b::s)|none=>none
 |_=>none
def eY(s:AA):List (AA)->AA
 |[]=>[]
 |[x]=>x
 |x::y::r=>x++s++eY s (y::r)
inductive Bf where
 |len |all |int |tuple |sum |min |max |str |abs |min2
inductive Lf where
 |list |sorted
inductive Mf where
 |join |append |extend |count |index
variable {m:Mf}
def wN(as:AS)(k:D->Prop):Prop:=
 match as with
 |[.lst ds]=>k (.int ds⁻¹)
 |[.tup ds]=>k (.int ds⁻¹)
 |[.str l]=>k (.int l⁻¹)
 |_=>False
def qg(as:AS)(k:D->Prop):Prop:=
 match as with
 |[.lst ds]=>match bools ds with|some bs=>k (.bl (bs.all id))|none=>False
 |_=>False
def qi(as:AS)(k:D->Prop):Prop:=
 match as with
 |[.bl b]=>k (.int (if b then 1 else 0))
 |[.int i]=>k (.int i)
 |[.str l]=>match PySem.intText? (tx l) with|some n=>l⁻¹<=640/\k (.int n)|none=>False
 |_=>False
def wO(as:AS)(k:D->Prop):Prop:=
 match as with
 |[.lst ds]=>k (.tup ds)
 |[.tup ds]=>k (.tup ds)
 |_=>False
def wQ(as:AS)(k:D->Prop):Prop:=
 match as with
 |[.lst ds]=>match cT ds with|some ns=>k (.int ns.sum)|none=>False
 |_=>False
def lV(as:AS)(k:D->Prop):Prop:=
 match as with
 |[.lst ds]=>match cT ds with
  |some ns=>ns≠[]/\∀m,m∈ns->(∀a,a∈ns->m<=a)->k (.int m)
  |none=>match bj ds with
   |some y=>∀m,m∈y->(∀a,a∈y->¬a<m)->k (.str m)
   |none=>False
 |_=>False
def GQ(as:AS)(k:D->Prop):Prop:=match as with
 |[.int a]=>k (.int (if a<0 then Neg.neg a else a))
 |_=>False
def GR(as:AS)(k:D->Prop):Prop:=match as with
 |[.int a,.int b]=>k (.int (if b<a then b else a))
 |_=>False
def GX(as:AS)(k:D->Prop):Prop:=
 match as with
 |[.int a,.int b]=>k (.int (if b > a then b else a))
 |_=>False
def fU(m:Nat):AA:=(ig m).cps.toList
def wR(as:AS)(k:D->Prop):Prop:=
 match as with
 |[.int i]=>(0<=i/\i<100)/\k (.str (fU i.toNat))
 |_=>False
def opB:Bf->AS->(D->Prop)->Prop
 |.len=>wN
 |.all=>qg
 |.int=>qi
 |.tuple=>wO
 |.sum=>wQ
 |.min=>lV
 |.max=>GX
 |.abs=>GQ
 |.min2=>GR
 |.str=>wR
def wU(as:AS)(k:AS->Prop):Prop:=
 match as with
 |[.lst ds]=>k ds
 |[.tup ds]=>k ds
 |[.str l]=>k (l.map λc=>.str [c])
 |_=>False
def qj(as:AS)(k:AS->Prop):Prop:=
 match as with
 |[.lst ds]=>match bj ds with|some ls=>ls⁻¹<64/\∀y:List (AA),y.Perm ls->PyProof.Rows.sortedS (y.map tx)=true->k (y.map D.str)|none=>False
 |[.tup ds]=>match cT ds with|some ns=>ns⁻¹<64/\∀z:List Int,z.Perm ns->z.Pairwise (·<=·)->k (z.map D.int)|none=>False
 |_=>False
def putN(ks:List (AA))(k:AA):List (AA):=if k∈ks then ks else ks++[k]
def cA(y:List (AA)):List (AA):=y.foldl putN []
def iw(d:D)(k:AS->Prop):Prop:=
 match d with
 |.lst ds=>match bj ds with|some ls=>(ls⁻¹<=1000/\(cA ls)⁻¹<=64)/\∀y:List (AA),y.Perm (cA ls)->k (y.map D.str)|none=>False
 |_=>False
def dj:Lf->AS->(AS->Prop)->Prop
 |.list=>wU
 |.sorted=>qj
def isT(t:AL)(d:D):Option Bool:=
 match d with
 |.non=>-false
 |.bl _=>-(t=="bool"||t=="int")
 |.int _=>-(t=="int")
 |.str _=>-(t=="str")
 |.tup _=>-(t=="tuple")
 |.lst _=>-(t=="list")
 |_=>none
def gG(t:AL):Bool:=t=="bool"||t=="int"||t=="str"||t=="tuple"||t=="list"
def ql(o:D)(as:AS)(G:DH)(k:AT):Prop:=
 match o,as with
 |.str s,[.lst ds]=>match bj ds with|some ls=>((ls.map (·.length)).sum+ls⁻¹*s⁻¹<=sz)/\k (.str (eY s ls)) G|none=>False
 |_,_=>False
def qm(o:D)(as:AS)(G:DH)(k:AT):Prop:=
 match o,as with
 |.ref p,[x]=>match G p with|some (.lst ds)=>ds⁻¹<sz/\k .non (aV G p (.lst (ds++[x])))|none=>False
 |_,_=>False
def qp(o:D)(as:AS)(G:DH)(k:AT):Prop:=
 match o,as with
 |.ref p,[.lst xs]=>match G p with|some (.lst ds)=>ds⁻¹+xs⁻¹<sz/\k .non (aV G p (.lst (ds++xs)))|none=>False
 |_,_=>False
def akH(o:D)(as:AS)(G:DH)(k:AT):Prop:=
 match o,as with
 |.ref p,[.int i,x]=>match G p with|some (.lst ds)=>ds⁻¹<sz/\0<=i/\i<=1000000/\k .non (aV G p (.lst (ds.take i.toNat++x::ds.drop i.toNat)))|none=>False
 |_,_=>False
def akI(o:D)(as:AS)(G:DH)(k:AT):Prop:=
 match o,as with
 |.ref p,[.int i]=>match G p with|some (.lst ds)=>0<=i/\i<=1000000/\(match ds[i.toNat]? with|some y=>k y (aV G p (.lst (ds.eraseIdx i.toNat)))|none=>False)|none=>False
 |_,_=>False
def qt(o:D)(as:AS)(G:DH)(k:AT):Prop:=
 match o,as with
 |.lst ds,[.bl true]=>match bools ds with|some bs=>k (.int (bs.count true:Nat)) G|none=>False
 |_,_=>False
def qu(o:D)(as:AS)(G:DH)(k:AT):Prop:=
 match o,as with
 |.lst ds,[.bl true]=>match bools ds with|some bs=>true∈bs/\k (.int (bs.idxOf true:Nat)) G|none=>False
 |_,_=>False
def akJ(o:D)(as:AS)(G:DH)(k:AT):Prop:=
 match o,as with
 |.str l,[.str [c]]=>k (.int (Neg.neg 1)) G/\∀i:Nat,l[i]?=-c->k (.int (i:Int)) G
 |_,_=>False
def akK(o:D)(as:AS)(G:DH)(k:AT):Prop:=
 match o,as with
 |.str l,[.str [c]]=>(c<256/\l⁻¹+2<=sz)/\k (.lst ((pU c l).map .str)) G
 |_,_=>False
def wV:D->Prop
 |.lst _=>True
 |_=>False
def recv(m:Mf)(o:D)(G:DH):Prop:=
 match m,o with
 |.join,.str _=>True
 |.append,.ref p=>match G p with|some (.lst _)=>True|none=>False
 |.extend,.ref p=>match G p with|some (.lst _)=>True|none=>False
 |.count,o=>wV (view G o)
 |.index,o=>wV (view G o)
 |_,_=>False
def opM:Mf->D->AS->DH->(AT)->Prop
 |.join,o,as,G,k=>ql o (as.map (view G)) G k
 |.append,o,as,G,k=>qm o as G k
 |.extend,o,as,G,k=>qp o (as.map (view G)) G k
 |.count,o,as,G,k=>qt (view G o) as G k
 |.index,o,as,G,k=>qu (view G o) as G k
def bF(C y:AL):Bool:=C==y||y=="SieveError"||y=="ValueError"
def jb(C:AL)(xs:List AL)(d:D)(k:Bool->Prop):Prop:=match d with
 |.exn c=>xs.contains c=true/\k (bF c C)
 |.exa c _ _=>xs.contains c=true/\k (bF c C)
 |_=>False
def okA(d:D):Prop:=match d with
 |.int i=>0<=i/\i<100
 |.str l=>l⁻¹<=1000
 |_=>False
def jT(C f:AL)(d:D)(k:D->Prop):Prop:=match d with
 |.exa C' f' v=>C'=C/\f'=f/\k v
 |_=>False
mutual
inductive Tg where
 |nm (i:Nat)
 |tp (ts:Tgs)
inductive Tgs where
 |nil
 |cons (t:Tg) (r:Tgs)
end
variable {ts:Tgs}
mutual
inductive Ex where
 |var (i:Nat)
 |cst (d:D)
 |glb (x:AL) (d:D)
 |bin (op:Operator) (fz:Bool) (a b:Ex)
 |neg (a:Ex)
 |cmp (op:CmpOp) (a b:Ex)
 |chn (op op':CmpOp) (a b c:Ex)
 |not (a:Ex)
 |boo (isAnd:Bool) (e:Ex) (es:Exs)
 |ife (c:Tx) (a b:Ex)
 |tup (es:Exs)
 |lst (fz:Bool) (es:Exs)
 |idx (a i:Ex)
 |slc (fz:Bool) (a:Ex) (lo hi:Ox)
 |call (f:AL) (es:Exs)
 |bcl (f:Bf) (es:Exs)
 |lcl (fz:Bool) (f:Lf) (es:Exs)
 |isi (a:Ex) (t:AL)
 |isx (a:Ex) (C:AL) (xs:List AL)
 |fst (es:Exs)
 |srs (fz:Bool) (a:Ex)
 |xat (C f:AL) (a:Ex)
 |mth (m:Mf) (o:Ex) (es:Exs)
 |comp (fz:Bool) (elt:Ex) (tg:Tg) (it:It') (cond:Tx) (N:List AL) (cap:List (Option Nat))
 |frz (a:Ex)
inductive Exs where
 |nil
 |cons (e:Ex) (es:Exs)
/-- a test -/
inductive Tx where
 |val (e:Ex)
 |not (t:Tx)
 |boo (isAnd:Bool) (t:Tx) (ts:Txs)
 |yes
inductive Txs where
 |nil
 |cons (t:Tx) (ts:Txs)
/-- a bound of a slice -/
inductive Ox where
 |no
 |ob (e:Ex)
/-- what a loop walks -/
inductive It' where
 |seq (e:Ex)
 |rng (a:Ex)
 |enm (e:Ex)
 |zip (a b:Ex)
end
variable {elt:Ex}{cond:Tx}{lo:Ox}
inductive Tb where
 |call (f:AL) (es:Exs)
 |asg (i:Nat) (f:AL) (es:Exs)
 |pick (f g:AL) (i:Nat) (es:Exs)
 |ite (c:Tx) (a b:Tb)
inductive Hd where
 |flag (i:Nat) (b:Bool)
 |bind (n i:Nat)
mutual
inductive Sx where
 |exp (e:Ex)
 |asg (t:Tg) (e:Ex)
 |set (o i e:Ex)
 |aug (i:Nat) (op:Operator) (e:Ex)
 |ret (e:Ex)
 |rtn
 |ite (c:Tx) (a b:Sxs)
 |for_ (t:Tg) (it:It') (body:Sxs)
 |pas
 |brk
 |cnt
 |nev
 |rse (C:AL) (es:Exs)
 |rsi (C:AL) (e:Ex)
 |tryx (b:Tb) (C:AL) (h:Hd) (xs:List AL)
inductive Sxs where
 |nil
 |cons (s:Sx) (r:Sxs)
end
structure Xn where
 cls:AL
 fld:D
structure Spec where
 A:Type
 pre:AS->DH->A->Prop
 post:A->D->DH->Prop
 exc:A->Xn->DH->Prop
abbrev EK:=Xn->DH->Prop
variable {E:EK}
def Spec.t(S:Spec)(ds:AS)(G:DH)(Q:AT)(E:EK):Prop:=
 ∃a,S.pre ds G a/\(∀d y,S.post a d y->Q d y)/\∀x y,S.exc a x y->E x y
def Spec.mono{S:Spec}{ds:AS}{G:DH}{Q J:AT}{z:EK}(h:S.t ds G Q E)(U:∀d y,Q d y->J d y)(he:∀x y,E x y->z x y):S.t ds G J z:=by let(a,h1,h2,O):=h;exact(a,h1,λd y q=>U _ _ (h2 d y q),λx y q=>he _ _ (O x y q))
abbrev aj:=AL->Spec
def akL(C f:AL)(d:D)(k:AQ->Prop):Prop:=match d with |.obj C' f' q=>C'=C/\f'=f/\k q|_=>False
def akM(C m:AL)(d:D):Prop:=match d with |.obj C' f' _=>C'=C/\(⇑m==⇑f')=false|_=>False
def akN(d:D)(G:DH)(k:AT):Prop:=match d with |.ref p=>(match G p with|some (.lst ds)=>(match ds[ds⁻¹-1]? with|some y=>k y (aV G p (.lst ds.dropLast))|none=>False)|none=>False)|_=>False
def akO(d:D)(k:AA->Prop):Prop:=match d with |.str l=>l⁻¹<=1000/\k l|_=>False
def akP(i:D)(l:AA)(k:AA->Prop):Prop:=match i with |.int n=>(match atI [48,49] n with|some c=>k (l.map λa=>if a=42 then c else a)|none=>False)|_=>False
def Zd(i j:Nat)(d:D)(Y:ao)(G:DH)(k:ao->DH->Prop):Prop:=
 match d with
 |.lst ds=>ds≠[]/\∀xs y,ds=xs++[y]->k ((Y.set i (-(.lst xs))).set j (-y)) G
 |_=>False
mutual
def bC:Tg->D->ao->DH->(ao->Prop)->Prop
 |.nm i,d,Y,_,k=>k (Y.set i (-d))
 |.tp ts,d,Y,G,k=>match d with |.tup ds=>b7 ts ds Y G k |.lst ds=>b7 ts ds Y G k|_=>False
def b7:Tgs->AS->ao->DH->(ao->Prop)->Prop
 |.nil,ds,Y,_,k=>match ds with |[]=>k Y|_=>False
 |.cons t r,ds,Y,G,k=>match ds with|d::ds=>bC t d Y G (λρ'=>b7 r ds ρ' G k) |[]=>False
end
abbrev Hld:=List (AQ×AS)
variable {g g':Hld}
def held:Hld->DH->Prop
 |[],_=>True
 | (a,ds)::r,G=>G a=-(.lst ds)/\held r G
def compLoop(step:D->ao->DH->(Option D->ao->DH->Prop)->Prop)(g:Hld):AS->AS->ao->DH->(AS->DH->Prop)->Prop
 |[],acc,_,G,k=>held g G/\acc⁻¹<=sz/\k acc G
 |d::ds,acc,Y,G,k=>held g G/\acc⁻¹<sz/\step d Y G (λo z J=>match o with|some y=>compLoop step g ds (acc++[y]) z J k|none=>compLoop step g ds acc z J k)
def wW(step:D->AS->ao->DH->(AS->ao->DH->Prop)->Prop)(g:Hld):AS->AS->ao->DH->(AS->ao->DH->Prop)->Prop
 |[],acc,Y,G,k=>held g G/\k acc Y G
 |d::ds,acc,Y,G,k=>held g G/\step d acc Y G (λy z J=>wW step g ds y z J k)
def d7:Nat->AS->AS
 |_,[]=>[]
 |i,d::ds=>.tup [.int i,d]::d7 (i+1) ds
def cF:AS->AS->AS
 |a::as,b::bs=>.tup [a,b]::cF as bs
 |_,_=>[]
def itemsOf(G:DH):D->Option (AS×Hld)
 |.lst ds=>-(ds,[])
 |.tup ds=>-(ds,[])
 |.str l=>-(l.map λc=>.str [c],[])
 |.ref p=>match G p with|some (.lst ds)=>-(ds,[(p,ds)])|none=>none
 |_=>none
def bf(lo:Int)(n:Nat):AS:=(List.range n).map λi=>.int (lo+(i:Nat))
def akQ(lo:Int)(n:Nat):AS:=(List.range n).map λi=>.int (lo-(i:Nat))
def noE:EK:=λz z=>False
mutual
def wpE(Z:aj):Ex->EK->ao->DH->(AT)->Prop
 |.var i,_,Y,G,k=>match Y[i]? with|some (-d)=>k d G|_=>False
 |.cst d,_,_,G,k=>k d G
 |.glb _ d,_,_,G,k=>k d G
 |.bin op fz a b,E,Y,G,k=>wpE Z a E Y G λx G1=>wpE Z b E Y G1 λy G2=>dh op fz (view G2 x) (view G2 y) G2 k
 |.neg a,E,Y,G,k=>wpE Z a E Y G λx G1=>match x with |.int i=>k (.int (Neg.neg i)) G1|_=>False
 |.cmp op a b,E,Y,G,k=>wpE Z a E Y G λx G1=>wpE Z b E Y G1 λy G2=>bx op (view G2 x) (view G2 y) λc=>k (.bl c) G2
 |.chn op op' a b c,E,Y,G,k=>wpE Z a E Y G λx G1=>wpE Z b E Y G1 λy G2=>bx op (view G2 x) (view G2 y) λt=>
   match t with
   |true=>wpE Z c E Y G2 λz G3=>bx op' (view G3 y) (view G3 z) λt'=>k (.bl t') G3
   |false=>k (.bl false) G2
 |.not a,E,Y,G,k=>wpE Z a E Y G λx G1=>match truth (view G1 x) with|some b=>k (.bl (!b)) G1|none=>False
 |.boo isAnd e es,E,Y,G,k=>wpE Z e E Y G λd G1=>match d with |.bl b=>wpB Z es isAnd b E Y G1 (λc G2=>k (.bl c) G2)|_=>False
 |.ife c a b,E,Y,G,k=>wpT Z c E Y G λt G1=>match t with|true=>wpE Z a E Y G1 k|false=>wpE Z b E Y G1 k
 |.tup es,E,Y,G,k=>aY Z es E Y G λds G1=>ds⁻¹<=sz/\k (.tup ds) G1
 |.lst fz es,E,Y,G,k=>aY Z es E Y G λds G1=>ds⁻¹<=sz/\mk fz ds G1 k
 |.idx a i,E,Y,G,k=>wpE Z a E Y G λx G1=>wpE Z i E Y G1 λy G2=>dB (view G2 x) y λd=>k d G2
 |.slc fz a lo hi,E,Y,G,k=>wpE Z a E Y G λx G1=>wpO Z lo E Y G1 λl G2=>wpO Z hi E Y G2 λh G3=>eX fz (view G3 x) l h G3 k
 |.call f es,E,Y,G,k=>aY Z es E Y G λds G1=>(Z f).t ds G1 k E
 |.bcl f es,E,Y,G,k=>aY Z es E Y G λds G1=>opB f (ds.map (view G1)) λd=>k d G1
 |.lcl fz f es,E,Y,G,k=>aY Z es E Y G λds G1=>dj f (ds.map (view G1)) λxs=>mk fz xs G1 k
 |.isi a t,E,Y,G,k=>wpE Z a E Y G λx G1=>match isT t (view G1 x) with|some b=>k (.bl b) G1|none=>False
 |.isx a C xs,E,Y,G,k=>wpE Z a E Y G λx G1=>jb C xs x λb=>k (.bl b) G1
 |.fst es,E,Y,G,k=>wpF Z es E Y G λl G1=>l⁻¹<=sz/\k (.str l) G1
 |.srs fz a,E,Y,G,k=>wpE Z a E Y G λd G1=>iw (view G1 d) λxs=>mk fz xs G1 k
 |.xat C f a,E,Y,G,k=>wpE Z a E Y G λd G1=>jT C f d λv=>k v G1
 |.mth m o es,E,Y,G,k=>wpE Z o E Y G λx G1=>recv m x G1/\aY Z es E Y G1 λds G2=>opM m x ds G2 k
 |.comp fz elt tg it cond _ cap,E,Y,G,k=>wpI Z it E Y G λitems g G1=>
   compLoop (λd ρ' G' k'=>bC tg d ρ' G' λρ1=>wpT Z cond noE ρ1 G' λb G2=>match b with|true=>wpE Z elt noE ρ1 G2 λy G3=>k' (-y) ρ1 G3|false=>k' none ρ1 G2)
    g items [] (cap.map λo=>match o with|none=>none|some j=>(Y[j]?).join) G1 λds G2=>mk fz ds G2 k
 |.frz a,E,Y,G,k=>wpE Z a E Y G λx G1=>match x with |.ref p=>(match G1 p with|some (.lst ds)=>k (.lst ds) (iY G1 p)|none=>False)|d=>k d G1
/-- a test -/
def wpT(Z:aj):Tx->EK->ao->DH->(Bool->DH->Prop)->Prop
 |.not a,E,Y,G,k=>wpT Z a E Y G λb G1=>k (!b) G1
 |.boo isAnd e es,E,Y,G,k=>wpT Z e E Y G λb G1=>gH Z es isAnd b E Y G1 k
 |.yes,_,_,G,k=>k true G
 |.val x,E,Y,G,k=>wpE Z x E Y G λd G1=>match truth (view G1 d) with|some b=>k b G1|none=>False
def wpF(Z:aj):Exs->EK->ao->DH->(AA->DH->Prop)->Prop
 |.nil,_,_,G,k=>k [] G
 |.cons e es,E,Y,G,k=>wpE Z e E Y G λd G1=>match d with
  |.str l=>l⁻¹<=1000/\wpF Z es E Y G1 λx G2=>k (l++x) G2
  |.int i=>(0<=i/\i<100)/\wpF Z es E Y G1 λx G2=>k (fU i.toNat++x) G2
  |_=>False
def aY(Z:aj):Exs->EK->ao->DH->(AS->DH->Prop)->Prop
 |.nil,_,_,G,k=>k [] G
 |.cons e es,E,Y,G,k=>wpE Z e E Y G λd G1=>aY Z es E Y G1 λds G2=>k (d::ds) G2
/-- and,or as values:truths alone;b:the one ahead -/
def wpB(Z:aj):Exs->Bool->Bool->EK->ao->DH->(Bool->DH->Prop)->Prop
 |.nil,_,b,_,_,G,k=>k b G
 |.cons e es,isAnd,b,E,Y,G,k=>match isAnd,b with
  |true,false=>k false G
  |false,true=>k true G
  |_,_=>wpE Z e E Y G λd G1=>match d with |.bl b'=>wpB Z es isAnd b' E Y G1 k|_=>False
def gH(Z:aj):Txs->Bool->Bool->EK->ao->DH->(Bool->DH->Prop)->Prop
 |.nil,_,b,_,_,G,k=>k b G
 |.cons e es,isAnd,b,E,Y,G,k=>match isAnd,b with
  |true,false=>k false G
  |false,true=>k true G
  |_,_=>wpT Z e E Y G λb' G1=>gH Z es isAnd b' E Y G1 k
/-- a bound of a slice -/
def wpO(Z:aj):Ox->EK->ao->DH->(Option Int->DH->Prop)->Prop
 |.no,_,_,G,k=>k none G
 |.ob x,E,Y,G,k=>wpE Z x E Y G λd G1=>match d with |.int i=>k (-i) G1|_=>False
def wpI(Z:aj):It'->EK->ao->DH->(AS->Hld->DH->Prop)->Prop
 |.seq e,E,Y,G,k=>wpE Z e E Y G λd G1=>match itemsOf G1 d with|some ds=>k ds.1 ds.2 G1|none=>False
 |.rng a,E,Y,G,k=>wpE Z a E Y G λd G1=>match d with |.int n=>(Neg.neg (2 ^ 62)<=n/\n<2 ^ 62)/\k (bf 0 n.toNat) [] G1|_=>False
 |.enm e,E,Y,G,k=>wpE Z e E Y G λd G1=>match itemsOf G1 d with|some ds=>k (d7 0 ds.1) ds.2 G1|none=>False
 |.zip a b,E,Y,G,k=>wpE Z a E Y G λx G1=>wpE Z b E Y G1 λy G2=>match itemsOf G2 x,itemsOf G2 y with|some ds,-es=>k (cF ds.1 es.1) (ds.2++es.2) G2|_,_=>False
end
structure En where
 nx:ao->DH->Prop
 rt:D->DH->Prop
 bk:ao->DH->Prop
 ct:ao->DH->Prop
def forLoop(step:D->ao->DH->(ao->DH->Prop)->Prop)(g:Hld):AS->ao->DH->(ao->DH->Prop)->Prop
 |[],Y,G,k=>held g G/\k Y G
 |d::ds,Y,G,k=>held g G/\step d Y G λy z=>forLoop step g ds y z k
def whileLoop(y:ao->DH->(Bool->DH->Prop)->Prop)(body:ao->DH->(ao->DH->Prop)->Prop):Nat->ao->DH->(ao->DH->Prop)->Prop
 |0,_,_,_=>False
 |n+1,Y,G,k=>y Y G λb G1=>match b with|true=>body Y G1 λz J=>whileLoop y body n z J k|false=>k Y G1
def gJ(o i x:D)(G:DH)(k:DH->Prop):Prop:=
 match o,i with
 |.ref p,.int i=>match G p with|some (.lst ds)=>(match ixN ds⁻¹ i with|some j=>k (aV G p (.lst (ds.set j x)))|none=>False)|none=>False
 |_,_=>False
def fV(op:Operator)(a b:D)(k:D->Prop):Prop:=
 match op,a,b with
 |.Add,.int i,.int j=>k (.int (i+j))
 |.Add,.str x,.str y=>x⁻¹+y⁻¹<=sz/\k (.str (x++y))
 |.Sub,.int i,.int j=>k (.int (i-j))
 |_,_,_=>False
def wX:D->Bool
 |.int i=>decide (0<=i)&&decide (i<100)
 |_=>false
def wpM(Z:aj):Exs->EK->ao->DH->(DH->Prop)->Prop
 |.nil,_,_,G,k=>k G
 |.cons e es,E,Y,G,k=>wpE Z e E Y G λd G1=>wX d=true/\wpM Z es E Y G1 k
def wpX(Z:aj):Tb->ao->DH->(ao->DH->Prop)->(Xn->ao->DH->Prop)->Prop
 |.call f es,Y,G,nx,ex=>aY Z es noE Y G λds G1=>(Z f).t ds G1 (λv y=>nx Y y) λx y=>ex x Y y
 |.asg i f es,Y,G,nx,ex=>aY Z es noE Y G λds G1=>(Z f).t ds G1 (λd y=>nx (Y.set i (-d)) y) λx y=>ex x Y y
 |.pick f g i es,Y,G,nx,ex=>wpE Z (.var i) noE Y G λd G1=>∃b:Bool,d=.int (if b then 1 else 0)/\aY Z es noE Y G1 λds y=>(Z (if b then g else f)).t ds y (λv z=>nx Y z) λx z=>ex x Y z
 |.ite c a b,Y,G,nx,ex=>wpT Z c noE Y G λt G1=>match t with|true=>wpX Z a Y G1 nx ex|false=>wpX Z b Y G1 nx ex
def dO(C:AL):AL:=if C=="NoText" then "number" else "word"
def xval(x:Xn):D:=match x.fld with
 |.non=>.exn x.cls
 |d=>.exa x.cls (dO x.cls) d
def caught(h:Hd)(x:Xn)(Y:ao):ao:=match h with
 |.flag i b=>Y.set i (-(.bl b))
 |.bind n i=>((Y.set n (-(xval x))).set i (-(xval x))).set n none
mutual
def wpS(Z:aj):Sx->EK->ao->DH->En->Prop
 |.exp e,E,Y,G,D=>wpE Z e E Y G λz G1=>D.nx Y G1
 |.asg t e,E,Y,G,D=>wpE Z e E Y G λd G1=>bC t d Y G1 λρ'=>D.nx ρ' G1
 |.set o i e,E,Y,G,D=>wpE Z e E Y G λx G1=>wpE Z o E Y G1 λa G2=>wpE Z i E Y G2 λy G3=>gJ a y x G3 λG4=>D.nx Y G4
 |.aug i op e,E,Y,G,D=>match Y[i]? with
  |some (-a)=>wpE Z e E Y G λb G1=>fV op a b λc=>D.nx (Y.set i (-c)) G1
  |_=>False
 |.ret e,E,Y,G,D=>wpE Z e E Y G D.rt
 |.rtn,_,_,G,D=>D.rt .non G
 |.ite c a b,E,Y,G,D=>wpT Z c E Y G λt G1=>match t with|true=>aA Z a E Y G1 D|false=>aA Z b E Y G1 D
 |.for_ t it body,E,Y,G,D=>wpI Z it E Y G λitems g G1=>
   forLoop (λd ρ' G' k=>bC t d ρ' G' λρ1=>aA Z body E ρ1 G' {D with nx:=k,ct:=k,bk:=D.nx}) g items Y G1 D.nx
 |.pas,_,Y,G,D=>D.nx Y G
 |.brk,_,Y,G,D=>D.bk Y G
 |.cnt,_,Y,G,D=>D.ct Y G
 |.nev,_,_,_,_=>False
 |.rse C es,E,Y,G,_=>wpM Z es E Y G λG1=>E (C,.non) G1
 |.rsi C e,E,Y,G,_=>wpE Z e E Y G λd G1=>okA d/\E (C,d) G1
 |.tryx b C h xs,_,Y,G,D=>wpX Z b Y G D.nx λx ρ' G'=>xs.contains x.cls=true/\bF x.cls C=true/\D.nx (caught h x ρ') G'
def aA(Z:aj):Sxs->EK->ao->DH->En->Prop
 |.nil,_,Y,G,D=>D.nx Y G
 |.cons s r,E,Y,G,D=>wpS Z s E Y G {D with nx:=λρ' G'=>aA Z r E ρ' G' D}
end
theorem wY{Z:aj}{a}{E}{Y}{G}{k}:wpT Z (.not a) E Y G k=(wpT Z a E Y G λb G1=>k (!b) G1):=rfl
theorem wZ{Z:aj}{isAnd}{e}{es}{E}{Y}{G}{k}:wpT Z (.boo isAnd e es) E Y G k=(wpT Z e E Y G λb G1=>gH Z es isAnd b E Y G1 k):=rfl
theorem w5{Z:aj}{E}{Y}{G}{k}:wpT Z .yes E Y G k=(k true G):=rfl
theorem lW{Z:aj}{x}{E}{Y}{G}{k}:wpT Z (.val x) E Y G k=(wpE Z x E Y G λd G1=>match truth (view G1 d) with|some b=>k b G1|none=>False):=rfl
theorem jU{Z:aj}{E}{Y}{G}{k}:aY Z .nil E Y G k=(k [] G):=rfl
theorem jc{Z:aj}{e}{es}{E}{Y}{G}{k}:aY Z (.cons e es) E Y G k=(wpE Z e E Y G λd G1=>aY Z es E Y G1 λds y=>k (d::ds) y):=rfl
theorem xf{Z:aj}{b:Bool}{E}{Y}{G}{k}:wpB Z .nil isAnd b E Y G k=(k b G):=rfl
theorem qw{Z:aj}{e}{es}{b:Bool}{E}{Y}{G}{k}:wpB Z (.cons e es) isAnd b E Y G k=(match isAnd,b with
  |true,false=>k false G
  |false,true=>k true G
  |_,_=>wpE Z e E Y G λd G1=>match d with |.bl b'=>wpB Z es isAnd b' E Y G1 k|_=>False):=rfl
theorem xg{Z:aj}{b:Bool}{E}{Y}{G}{k}:gH Z .nil isAnd b E Y G k=(k b G):=rfl
theorem qx{Z:aj}{e}{es}{b:Bool}{E}{Y}{G}{k}:gH Z (.cons e es) isAnd b E Y G k=(match isAnd,b with
  |true,false=>k false G
  |false,true=>k true G
  |_,_=>wpT Z e E Y G λy G1=>gH Z es isAnd y E Y G1 k):=rfl
theorem xj{Z:aj}{E}{Y}{G}{k}:wpO Z .no E Y G k=(k none G):=rfl
theorem xm{Z:aj}{x}{E}{Y}{G}{k}:wpO Z (.ob x) E Y G k=(wpE Z x E Y G λd G1=>match d with |.int i=>k (-i) G1|_=>False):=rfl
theorem xq{Z:aj}{e}{E}{Y}{G}{k}:wpI Z (.seq e) E Y G k=(wpE Z e E Y G λd G1=>match itemsOf G1 d with|some ds=>k ds.1 ds.2 G1|none=>False):=rfl
theorem xr{Z:aj}{a}{E}{Y}{G}{k}:wpI Z (.rng a) E Y G k=(wpE Z a E Y G λd G1=>match d with |.int n=>(Neg.neg (2 ^ 62)<=n/\n<2 ^ 62)/\k (bf 0 n.toNat) [] G1|_=>False):=rfl
theorem xu{Z:aj}{e}{E}{Y}{G}{k}:wpI Z (.enm e) E Y G k=(wpE Z e E Y G λd G1=>match itemsOf G1 d with|some ds=>k (d7 0 ds.1) ds.2 G1|none=>False):=rfl
theorem xF{Z:aj}{a}{b}{E}{Y}{G}{k}:wpI Z (.zip a b) E Y G k=(wpE Z a E Y G λx G1=>wpE Z b E Y G1 λy z=>match itemsOf z x,itemsOf z y with|some ds,-es=>k (cF ds.1 es.1) (ds.2++es.2) z|_,_=>False):=rfl
theorem lX{Z:aj}{E}{Y}{G}{D}:aA Z .nil E Y G D=(D.nx Y G):=rfl
theorem lY{Z:aj}{s}{r}{E}{Y}{G}{D}:aA Z (.cons s r) E Y G D=(wpS Z s E Y G {D with nx:=λy z=>aA Z r E y z D}):=rfl
theorem xG{Z:aj}{i E Y G k}:wpE Z (.var i) E Y G k=(match Y[i]? with|some (-d)=>k d G|_=>False):=rfl
theorem eZ{Z:aj}{d E Y G k}:wpE Z (.cst d) E Y G k=(k d G):=rfl
theorem xH{Z:aj}{u0 d E Y G k}:wpE Z (.glb u0 d) E Y G k=(k d G):=rfl
theorem xJ{Z:aj}{op fz a b E Y G k}:wpE Z (.bin op fz a b) E Y G k=(wpE Z a E Y G λx G1=>wpE Z b E Y G1 λy z=>dh op fz (view z x) (view z y) z k):=rfl
theorem xK{Z:aj}{a E Y G k}:wpE Z (.neg a) E Y G k=(wpE Z a E Y G λx G1=>match x with |.int i=>k (.int (Neg.neg i)) G1|_=>False):=rfl
theorem qy{Z:aj}{op a b E Y G k}:wpE Z (.cmp op a b) E Y G k=(wpE Z a E Y G λx G1=>wpE Z b E Y G1 λy z=>bx op (view z x) (view z y) λc=>k (.bl c) z):=rfl
theorem qz{Z:aj}{op op' a b c E Y G k}:wpE Z (.chn op op' a b c) E Y G k=(wpE Z a E Y G λx G1=>wpE Z b E Y G1 λy J=>bx op (view J x) (view J y) λt=>
   match t with
   |true=>wpE Z c E Y J λz O=>bx op' (view O y) (view O z) λt'=>k (.bl t') O
   |false=>k (.bl false) J):=rfl
theorem xM{Z:aj}{a E Y G k}:wpE Z (.not a) E Y G k=(wpE Z a E Y G λx G1=>match truth (view G1 x) with|some b=>k (.bl (!b)) G1|none=>False):=rfl
theorem xN{Z:aj}{isAnd e es E Y G k}:wpE Z (.boo isAnd e es) E Y G k=(wpE Z e E Y G λd G1=>match d with |.bl b=>wpB Z es isAnd b E Y G1 (λc y=>k (.bl c) y)|_=>False):=rfl
theorem xO{Z:aj}{c a b E Y G k}:wpE Z (.ife c a b) E Y G k=(wpT Z c E Y G λt G1=>match t with|true=>wpE Z a E Y G1 k|false=>wpE Z b E Y G1 k):=rfl
theorem xP{Z:aj}{es E Y G k}:wpE Z (.tup es) E Y G k=(aY Z es E Y G λds G1=>ds⁻¹<=sz/\k (.tup ds) G1):=rfl
theorem xQ{Z:aj}{fz es E Y G k}:wpE Z (.lst fz es) E Y G k=(aY Z es E Y G λds G1=>ds⁻¹<=sz/\mk fz ds G1 k):=rfl
theorem xR{Z:aj}{a i E Y G k}:wpE Z (.idx a i) E Y G k=(wpE Z a E Y G λx G1=>wpE Z i E Y G1 λy z=>dB (view z x) y λd=>k d z):=rfl
theorem xT{Z:aj}{fz a lo hi E Y G k}:wpE Z (.slc fz a lo hi) E Y G k=(wpE Z a E Y G λx G1=>wpO Z lo E Y G1 λl z=>wpO Z hi E Y z λh y=>eX fz (view y x) l h y k):=rfl
theorem xU{Z:aj}{f es E Y G k}:wpE Z (.call f es) E Y G k=(aY Z es E Y G λds G1=>(Z f).t ds G1 k E):=rfl
theorem xV{Z:aj}{f es E Y G k}:wpE Z (.bcl f es) E Y G k=(aY Z es E Y G λds G1=>opB f (ds.map (view G1)) λd=>k d G1):=rfl
theorem xW{Z:aj}{fz f es E Y G k}:wpE Z (.lcl fz f es) E Y G k=(aY Z es E Y G λds G1=>dj f (ds.map (view G1)) λxs=>mk fz xs G1 k):=rfl
theorem xX{Z:aj}{a t E Y G k}:wpE Z (.isi a t) E Y G k=(wpE Z a E Y G λx G1=>match isT t (view G1 x) with|some b=>k (.bl b) G1|none=>False):=rfl
theorem xY{Z:aj}{a C xs E Y G k}:wpE Z (.isx a C xs) E Y G k=(wpE Z a E Y G λx G1=>jb C xs x λb=>k (.bl b) G1):=rfl
theorem xZ{Z:aj}{fz a E Y G k}:wpE Z (.srs fz a) E Y G k=(wpE Z a E Y G λd G1=>iw (view G1 d) λxs=>mk fz xs G1 k):=rfl
theorem yc{Z:aj}{C f a E Y G k}:wpE Z (.xat C f a) E Y G k=(wpE Z a E Y G λd G1=>jT C f d λv=>k v G1):=rfl
theorem qC{Z:aj}{es E Y G k}:wpE Z (.fst es) E Y G k=(wpF Z es E Y G λl G1=>l⁻¹<=sz/\k (.str l) G1):=rfl
theorem lZ{Z:aj}{E Y G k}:wpF Z .nil E Y G k=k [] G:=rfl
theorem iy{Z:aj}{e es E Y G k}:wpF Z (.cons e es) E Y G k=(wpE Z e E Y G λd G1=>match d with
  |.str l=>l⁻¹<=1000/\wpF Z es E Y G1 λx y=>k (l++x) y
  |.int i=>(0<=i/\i<100)/\wpF Z es E Y G1 λx y=>k (fU i.toNat++x) y
  |_=>False):=rfl
theorem jd{Z:aj}{m o es E Y G k}:wpE Z (.mth m o es) E Y G k=(wpE Z o E Y G λx G1=>recv m x G1/\aY Z es E Y G1 λds y=>opM m x ds y k):=rfl
theorem yd{Z:aj}{a E Y G k}:wpE Z (.frz a) E Y G k=(wpE Z a E Y G λx G1=>match x with |.ref p=>(match G1 p with|some (.lst ds)=>k (.lst ds) (iY G1 p)|none=>False)|d=>k d G1):=rfl
theorem ye{Z:aj}{e E Y G D}:wpS Z (.exp e) E Y G D=(wpE Z e E Y G λz G1=>D.nx Y G1):=rfl
theorem mj{Z:aj}{t e E Y G D}:wpS Z (.asg t e) E Y G D=(wpE Z e E Y G λd G1=>bC t d Y G1 λy=>D.nx y G1):=rfl
theorem yf{Z:aj}{o i e E Y G D}:wpS Z (.set o i e) E Y G D=(wpE Z e E Y G λx G1=>wpE Z o E Y G1 λa z=>wpE Z i E Y z λy J=>gJ a y x J λO=>D.nx Y O):=rfl
theorem yg{Z:aj}{i op e E Y G D}:wpS Z (.aug i op e) E Y G D=(match Y[i]? with
  |some (-a)=>wpE Z e E Y G λb G1=>fV op a b λc=>D.nx (Y.set i (-c)) G1
  |_=>False):=rfl
theorem yh{Z:aj}{e E Y G D}:wpS Z (.ret e) E Y G D=(wpE Z e E Y G D.rt):=rfl
theorem yj{Z:aj}{E Y G D}:wpS Z .rtn E Y G D=(D.rt .non G):=rfl
theorem yl{Z:aj}{c a b E Y G D}:wpS Z (.ite c a b) E Y G D=(wpT Z c E Y G λt G1=>match t with|true=>aA Z a E Y G1 D|false=>aA Z b E Y G1 D):=rfl
theorem yo{Z:aj}{E Y G D}:wpS Z .pas E Y G D=(D.nx Y G):=rfl
theorem yq{Z:aj}{E Y G D}:wpS Z .brk E Y G D=(D.bk Y G):=rfl
theorem yr{Z:aj}{E Y G D}:wpS Z .cnt E Y G D=(D.ct Y G):=rfl
theorem yt{Z:aj}{C e E Y G D}:wpS Z (.rsi C e) E Y G D=(wpE Z e E Y G λd G1=>okA d/\E (C,d) G1):=rfl
theorem qD{Z:aj}{C es E Y G D}:wpS Z (.rse C es) E Y G D=(wpM Z es E Y G λG1=>E (C,.non) G1):=rfl
theorem GZ{Z:aj}{E Y G k}:wpM Z .nil E Y G k=k G:=rfl
theorem yu{Z:aj}{e es E Y G k}:wpM Z (.cons e es) E Y G k=(wpE Z e E Y G λd G1=>wX d=true/\wpM Z es E Y G1 k):=rfl
theorem qF{Z:aj}{b C h xs E Y G D}:wpS Z (.tryx b C h xs) E Y G D=(wpX Z b Y G D.nx λx y z=>xs.contains x.cls=true/\bF x.cls C=true/\D.nx (caught h x y) z):=rfl
theorem Ha{Z:aj}{f g i es Y G nx ex}:wpX Z (.pick f g i es) Y G nx ex=(wpE Z (.var i) noE Y G λd G1=>∃b:Bool,d=.int (if b then 1 else 0)/\aY Z es noE Y G1 λds z=>(Z (if b then g else f)).t ds z (λv y=>nx Y y) λx y=>ex x Y y):=rfl
theorem Hb{Z:aj}{f es Y G nx ex}:wpX Z (.call f es) Y G nx ex=(aY Z es noE Y G λds G1=>(Z f).t ds G1 (λz y=>nx Y y) λx y=>ex x Y y):=rfl
theorem yw{Z:aj}{i f es Y G nx ex}:wpX Z (.asg i f es) Y G nx ex=(aY Z es noE Y G λds G1=>(Z f).t ds G1 (λd y=>nx (Y.set i (-d)) y) λx y=>ex x Y y):=rfl
theorem Hc{Z:aj}{c a b Y G nx ex}:wpX Z (.ite c a b) Y G nx ex=(wpT Z c noE Y G λt G1=>match t with|true=>wpX Z a Y G1 nx ex|false=>wpX Z b Y G1 nx ex):=rfl
theorem yx{Z:aj}{E Y G D}:wpS Z .nev E Y G D=(False):=rfl
theorem yz{Z:aj}{fz elt tg it cond N cap E Y G k}:wpE Z (.comp fz elt tg it cond N cap) E Y G k=(wpI Z it E Y G λJ g G1=>
   compLoop (λd U G' k'=>bC tg d U G' λz=>wpT Z cond noE z G' λb O=>match b with|true=>wpE Z elt noE z O λy G3=>k' (-y) z G3|false=>k' none z O)
    g J [] (cap.map λo=>match o with|none=>none|some j=>(Y[j]?).join) G1 λds O=>mk fz ds O k):=rfl
theorem Hf{Z:aj}{t it body E Y G D}:wpS Z (.for_ t it body) E Y G D=(wpI Z it E Y G λy g G1=>
   forLoop (λd z O k=>bC t d z O λJ=>aA Z body E J O {D with nx:=k,ct:=k,bk:=D.nx}) g y Y G1 D.nx):=rfl
section
variable {k k':AT} {G:DH}
def dR{fz:Bool}{xs:AS}(h:∀d y,k d y->k' d y)(q:mk fz xs G k):mk fz xs G k':=by
 cases fz with
 |true=>exact h _ _ q
 |false=>exact λp z=>h _ _ (q p z)
def Hg{a b:D}{p:Int->Int->Prop}(h:iu a b p):∃i j,a=.int i/\b=.int j/\p i j:=by
 cases a with
 |int i=>cases b with
  |int j=>exact(i,j,rfl,rfl,h)
  |_=>exact h.elim
 |_=>exact h.elim
def qG{a b:D}{p q:Int->Int->Prop}(h:∀i j,p i j->q i j)(z:iu a b p):iu a b q:=by let(i,j,rfl,rfl,z):=Hg z;exact h i j z
def Hh{fz:Bool}{a b:D}(h:∀d y,k d y->k' d y)(q:dh op fz a b G k):dh op fz a b G k':=by
 cases op with
 |Add=>
  have q:jJ fz a b G k:=q;change jJ fz a b G k';unfold jJ at q ⊢;cases a with
  |int i=>cases b<;>first|exact h _ _ q|exact q
  |str i=>cases b<;>first|exact(q.1,h _ _ q.2)|exact q
  |lst i=>cases b<;>first|exact(q.1,dR h q.2)|exact q
  |tup i=>cases b<;>first|exact(q.1,h _ _ q.2)|exact q
  |_=>exact q
 |Sub=>exact qG (λx x z=>h _ _ z) q
 |Mult=>
  have q:jK fz a b G k:=q;change jK fz a b G k';unfold jK at q ⊢;cases b with
  |int n=>cases a<;>first|exact(q.1,h _ _ q.2)|exact(q.1,q.2.1,q.2.2.1,h _ _ q.2.2.2)|exact(q.1,q.2.1,q.2.2.1,dR h q.2.2.2)|exact(q.1,q.2.1,q.2.2.1,q.2.2.2.1,h _ _ q.2.2.2.2)|exact q
  |_=>exact q
 |FloorDiv=>exact qG (λx x z=>(z.1,h _ _ z.2)) q
 |Mod=>exact qG (λx x z=>(z.1,h _ _ z.2)) q
 |Pow=>exact qG (λx x z=>(z.1,h _ _ z.2)) q
 |_=>exact q
def Hi{a b:D}{k k':Bool->Prop}(h:∀c,k c->k' c)(q:gF a b k):gF a b k':=by
 unfold gF at q ⊢;split at q
 .split at q
  .exact h _ q
  .exact q
 .exact (q.1,h _ q.2)
 .exact (q.1,h _ q.2)
 .exact q
def je{op:CmpOp}{a b:D}{k k':Bool->Prop}(h:∀c,k c->k' c)(q:bx op a b k):bx op a b k':=by
 cases op with
 |Eq=>exact(q.1,h _ q.2)
 |NotEq=>exact(q.1,h _ q.2)
 |Lt=>have q:jL a b k:=q;change jL a b k';unfold jL at q ⊢;split at q<;>first|exact h _ q|exact q
 |LtE=>have q:jM a b k:=q;change jM a b k';unfold jM at q ⊢;split at q<;>first|exact h _ q|exact q
 |Gt=>have q:jN a b k:=q;change jN a b k';unfold jN at q ⊢;split at q<;>first|exact h _ q|exact q
 |GtE=>have q:jO a b k:=q;change jO a b k';unfold jO at q ⊢;split at q<;>first|exact h _ q|exact q
 |Is=>
  have q:jP a b k:=q;change jP a b k';unfold jP at q ⊢;split at q
  .exact h _ q
  .split at q
   .exact h _ q
   .exact q
  .exact q
 |IsNot=>
  have q:jQ a b k:=q;change jQ a b k';unfold jQ at q ⊢;split at q
  .exact h _ q
  .split at q
   .exact h _ q
   .exact q
  .exact q
 |In=>exact Hi h q
 |NotIn=>exact Hi (λc=>h _) q
def Hj{a i:D}{k k':D->Prop}(h:∀c,k c->k' c)(q:dB a i k):dB a i k':=by
 unfold dB at q ⊢;split at q
 .split at q
  .exact h _ q
  .exact q
 .split at q
  .exact h _ q
  .exact q
 .split at q
  .exact h _ q
  .exact q
 .exact q
def Hk{fz:Bool}{a:D}{lo:Option Int}(h:∀d y,k d y->k' d y)(q:eX fz a lo hi G k):eX fz a lo hi G k':=by
 unfold eX at q ⊢;split at q<;>first
  |exact dR h q
  |exact h _ _ q
  |exact q.elim
def akR{fz:Bool}{a y:D}(h:∀d z,k d z->k' d z)(q:qe fz a y G k):qe fz a y G k':=by
 unfold qe at q ⊢;split at q
 .exact (q.1,dR h q.2)
 .exact (q.1,h _ _ q.2)
 .exact q.elim
def Hl{f:Bf}{as:AS}{k k':D->Prop}(h:∀c,k c->k' c)(q:opB f as k):opB f as k':=by
 cases f with
 |len=>simp only[opB,wN]at q ⊢;split at q<;>first|exact h _ q|exact q.elim
 |all=>
  simp only[opB,qg]at q ⊢;split at q
  .split at q
   .exact h _ q
   .exact q
  .exact q
 |int=>
  simp only[opB,qi]at q ⊢;split at q
  .exact h _ q
  .exact h _ q
  .split at q
   .exact (q.1,h _ q.2)
   .exact q
  .exact q
 |tuple=>simp only[opB,wO]at q ⊢;split at q<;>first|exact h _ q|exact q.elim
 |sum=>
  simp only[opB,wQ]at q ⊢;split at q
  .split at q
   .exact h _ q
   .exact q
  .exact q
 |min=>
  simp only[opB,lV]at q ⊢;split at q
  .split at q
   .exact (q.1,λm h1 h2=>h _ (q.2 m h1 h2))
   .split at q
    .exact λm h1 h2=>h _ (q m h1 h2)
    .exact q
  .exact q
 |max=>simp only[opB,GX]at q ⊢;split at q<;>first|exact h _ q|exact q.elim
 |abs=>simp only[opB,GQ]at q ⊢;split at q<;>first|exact h _ q|exact q.elim
 |min2=>simp only[opB,GR]at q ⊢;split at q<;>first|exact h _ q|exact q.elim
 |str=>
  simp only[opB,wR]at q ⊢;split at q
  .exact (q.1,h _ q.2)
  .exact q
def Ze{d:D}{k k':AS->Prop}(h:∀c,k c->k' c)(q:iw d k):iw d k':=by
 unfold iw at q ⊢;split at q
 .split at q
  .exact (q.1,λy p=>h _ (q.2 y p))
  .exact q
 .exact q
def Hm{f:Lf}{as:AS}{k k':AS->Prop}(h:∀c,k c->k' c)(q:dj f as k):dj f as k':=by
 cases f with
 |list=>simp only[dj,wU]at q ⊢;split at q<;>first|exact h _ q|exact q.elim
 |sorted=>
  simp only[dj,qj]at q ⊢;split at q
  .split at q
   .exact (q.1,λy p z=>h _ (q.2 y p z))
   .exact q
  .split at q
   .exact (q.1,λy p z=>h _ (q.2 y p z))
   .exact q
  .exact q
def jV{o:D}{as:AS}(h:∀d y,k d y->k' d y)(q:opM m o as G k):opM m o as G k':=by
 cases m with
 |join=>
  simp only[opM,ql]at q ⊢;split at q
  .split at q
   .exact (q.1,h _ _ q.2)
   .exact q
  .exact q
 |append=>
  simp only[opM,qm]at q ⊢;split at q
  .split at q
   .exact (q.1,h _ _ q.2)
   .exact q
  .exact q
 |extend=>
  simp only[opM,qp]at q ⊢;split at q
  .split at q
   .exact (q.1,h _ _ q.2)
   .exact q
  .exact q
 |count=>
  simp only[opM,qt]at q ⊢;split at q
  .split at q
   .exact h _ _ q
   .exact q
  .exact q
 |index=>
  simp only[opM,qu]at q ⊢;split at q
  .split at q
   .exact (q.1,h _ _ q.2)
   .exact q
  .exact q
def Hn{o i x:D}{k k':DH->Prop}(h:∀y,k y->k' y)(q:gJ o i x G k):gJ o i x G k':=by
 unfold gJ at q ⊢;split at q
 .split at q
  .split at q
   .exact h _ q
   .exact q
  .exact q
 .exact q
def Ho{a b:D}{k k':D->Prop}(h:∀c,k c->k' c)(q:fV op a b k):fV op a b k':=by
 unfold fV at q ⊢;split at q<;>first
  |exact h _ q
  |exact(q.1,h _ q.2)
  |exact q.elim
mutual
theorem gK{k k':ao->Prop}(h:∀Y,k Y->k' Y):∀(t:Tg){d:D}{Y:ao},bC t d Y G k->bC t d Y G k'
 |.nm i,d,Y,q=>h _ q
 |.tp ts,d,Y,q=>by
  unfold bC at q ⊢;split at q
  .exact yC h ts q
  .exact yC h ts q
  .exact q
theorem yC{k k':ao->Prop}(h:∀Y,k Y->k' Y):∀(ts:Tgs){ds:AS}{Y:ao},b7 ts ds Y G k->b7 ts ds Y G k'
 |.nil,ds,Y,q=>by
  unfold b7 at q ⊢;split at q
  .exact h _ q
  .exact q
 |.cons t r,ds,Y,q=>by
  unfold b7 at q ⊢;split at q
  .exact gK (λρ' q'=>yC h r q') t q
  .exact q
end
def qH{step O:D->ao->DH->(Option D->ao->DH->Prop)->Prop}(hs:∀d Y G (k k':Option D->ao->DH->Prop),(∀o U G',k o U G'->k' o U G')->step d Y G k->O d Y G k'){k k':AS->DH->Prop}(h:∀ds G',k ds G'->k' ds G'):∀(ds J:AS)(Y:ao)(G:DH),compLoop step g ds J Y G k->compLoop O g ds J Y G k'
 |[],J,Y,G,q=>(q.1,q.2.1,h _ _ q.2.2)
 |d::ds,J,Y,G,q=>by
  show(q.1,q.2.1,hs d Y G _ _ (λo U G' z=>?_) q.2.2);cases o with
  |some y=>exact qH hs h ds (J++[y]) U G' z
  |none=>exact qH hs h ds J U G' z
def Zf{step J:D->AS->ao->DH->(AS->ao->DH->Prop)->Prop}(hs:∀d y Y G (k k':AS->ao->DH->Prop),(∀a O U,k a O U->k' a O U)->step d y Y G k->J d y Y G k'){k k':AS->ao->DH->Prop}(h:∀a Y U,k a Y U->k' a Y U):∀(ds y:AS)(Y:ao)(G:DH),wW step g ds y Y G k->wW J g ds y Y G k'
 |[],y,Y,G,q=>(q.1,h _ _ _ q.2)
 |d::ds,y,Y,G,q=>(q.1,hs d y Y G _ _ (λa O U z=>Zf hs h ds a O U z) q.2)
def Hq{step y:D->ao->DH->(ao->DH->Prop)->Prop}(hs:∀d Y G (k k':ao->DH->Prop),(∀J O,k J O->k' J O)->step d Y G k->y d Y G k'){k k':ao->DH->Prop}(h:∀Y O,k Y O->k' Y O):∀(ds:AS)(Y:ao)(G:DH),forLoop step g ds Y G k->forLoop y g ds Y G k'
 |[],Y,G,q=>(q.1,h _ _ q.2)
 |d::ds,Y,G,q=>(q.1,hs d Y G _ _ (λJ O z=>Hq hs h ds J O z) q.2)
def Zg{test J:ao->DH->(Bool->DH->Prop)->Prop}{body y:ao->DH->(ao->DH->Prop)->Prop}(ht:∀Y G (k k':Bool->DH->Prop),(∀b O,k b O->k' b O)->test Y G k->J Y G k')(hb:∀Y G (k k':ao->DH->Prop),(∀U O,k U O->k' U O)->body Y G k->y Y G k'){k k':ao->DH->Prop}(h:∀Y O,k Y O->k' Y O):∀(n:Nat)(Y:ao)(G:DH),whileLoop test body n Y G k->whileLoop J y n Y G k'
 |0,Y,G,q=>q
 |n+1,Y,G,q=>ht Y G _ _ (λb O z=>by
   cases b with
   |true=>exact hb Y O _ _ (λU G'' z'=>Zg ht hb h n U G'' z') z
   |false=>exact h _ _ z) q
end
section
variable {Z:aj} {G:DH}
mutual
theorem aN{E:EK}{Y:ao}:∀(x:Ex){G:DH}{k k':AT},(∀d G',k d G'->k' d G')->wpE Z x E Y G k->wpE Z x E Y G k'
 |.var i,G,k,k',h,q=>by
  rw[xG]at q ⊢;split at q
  .exact h _ _ q
  .exact q
 |.cst d,G,k,k',h,q=>by rw[eZ]at q ⊢;exact h _ _ q
 |.glb x d,G,k,k',h,q=>by rw[xH]at q ⊢;exact h _ _ q
 |.bin op fz a b,G,k,k',h,q=>by
  rw[xJ]at q ⊢;exact aN a (λv v q=>aN b (λv v q=>Hh h q) q) q
 |.neg a,G,k,k',h,q=>by
  rw[xK]at q ⊢;show aN a (λx v q=>?_) q;split at q
  .exact h _ _ q
  .exact q
 |.cmp op a b,G,k,k',h,q=>by
  rw[qy]at q ⊢;exact aN a (λv v q=>aN b (λv v q=>je (λv q=>h _ _ q) q) q) q
 |.chn op op' a b c,G,k,k',h,q=>by
  rw[qz]at q ⊢;show aN a (λv v q=>aN b (λv v q=>je (λt q=>?_) q) q) q;cases t with
  |true=>exact aN c (λv v q=>je (λv q=>h _ _ q) q) q
  |false=>exact h _ _ q
 |.not a,G,k,k',h,q=>by
  rw[xM]at q ⊢;show aN a (λx v q=>?_) q;split at q
  .exact h _ _ q
  .exact q
 |.boo isAnd e es,G,k,k',h,q=>by
  rw[xN]at q ⊢;show aN e (λx v q=>?_) q;split at q
  .exact qI es (λv v q=>h _ _ q) q
  .exact q
 |.ife c a b,G,k,k',h,q=>by
  rw[xO]at q ⊢;show d8 c (λt v q=>?_) q;cases t with
  |true=>exact aN a h q
  |false=>exact aN b h q
 |.tup es,G,k,k',h,q=>by
  rw[xP]at q ⊢;exact d9 es (λv v q=>(q.1,h _ _ q.2)) q
 |.lst fz es,G,k,k',h,q=>by
  rw[xQ]at q ⊢;exact d9 es (λv v q=>(q.1,dR h q.2)) q
 |.idx a i,G,k,k',h,q=>by
  rw[xR]at q ⊢;exact aN a (λv v q=>aN i (λv v q=>Hj (λv q=>h _ _ q) q) q) q
 |.slc fz a lo hi,G,k,k',h,q=>by
  rw[xT]at q ⊢;exact aN a (λv v q=>yD lo (λv v q=>yD hi (λv v q=>Hk h q) q) q) q
 |.call f es,G,k,k',h,q=>by
  rw[xU]at q ⊢;exact d9 es (λv v q=>Spec.mono q h λv v z=>z) q
 |.bcl f es,G,k,k',h,q=>by
  rw[xV]at q ⊢;exact d9 es (λv v q=>Hl (λv q=>h _ _ q) q) q
 |.lcl fz f es,G,k,k',h,q=>by
  rw[xW]at q ⊢;exact d9 es (λv v q=>Hm (λv q=>dR h q) q) q
 |.isi a t,G,k,k',h,q=>by
  rw[xX]at q ⊢;show aN a (λx v q=>?_) q;split at q
  .exact h _ _ q
  .exact q
 |.isx a C xs,G,k,k',h,q=>by
  rw[xY]at q ⊢;show aN a (λx v q=>?_) q;unfold jb at q ⊢;split at q
  .exact (q.1,h _ _ q.2)
  .exact (q.1,h _ _ q.2)
  .exact q
 |.srs fz a,G,k,k',h,q=>by
  rw[xZ]at q ⊢;exact aN a (λd v q=>Ze (λv z=>dR h z) q) q
 |.xat C f a,G,k,k',h,q=>by
  rw[yc]at q ⊢;show aN a (λd v q=>?_) q;unfold jT at q ⊢;split at q
  .exact (q.1,q.2.1,h _ _ q.2.2)
  .exact q
 |.fst es,G,k,k',h,q=>by
  rw[qC]at q ⊢;exact jf es (λv v q=>(q.1,h _ _ q.2)) q
 |.mth m o es,G,k,k',h,q=>by
  rw[jd]at q ⊢;exact aN o (λv v q=>(q.1,d9 es (λv v q=>jV h q) q.2)) q
 |.comp fz elt tg it cond N cap,G,k,k',h,q=>by
  rw[yz]at q ⊢;show mq it (λitems g G1 q=>?_) q;show qH ?_ (λds G2 z=>dR h z) items [] _ G1 q;intro d ρ' G' k k' hk z;show gK (λρ1 z=>?_) tg z;show d8 cond (λb G2 z=>?_) z;cases b with
  |true=>exact aN elt (λy G3 z=>hk _ _ _ z) z
  |false=>exact hk _ _ _ z
 |.frz a,G,k,k',h,q=>by
  rw[yd]at q ⊢;show aN a (λx G1 q=>?_) q;split at q
  .split at q
   .exact h _ _ q
   .exact q
  .exact h _ _ q
theorem d8{E:EK}{Y:ao}:∀(x:Tx){G:DH}{k k':Bool->DH->Prop},(∀d G',k d G'->k' d G')->wpT Z x E Y G k->wpT Z x E Y G k'
 |.not a,G,k,k',h,q=>by rw[wY]at q ⊢;exact d8 a (λz z q=>h _ _ q) q
 |.boo isAnd e es,G,k,k',h,q=>by rw[wZ]at q ⊢;exact d8 e (λz z q=>qJ es h q) q
 |.yes,G,k,k',h,q=>by rw[w5]at q ⊢;exact h _ _ q
 |.val a,G,k,k',h,q=>by
  rw[lW]at q ⊢;show aN a (λx z q=>?_) q;split at q
  .exact h _ _ q
  .exact q
theorem jf{E:EK}{Y:ao}:∀(x:Exs){G:DH}{k k':AA->DH->Prop},(∀d G',k d G'->k' d G')->wpF Z x E Y G k->wpF Z x E Y G k'
 |.nil,G,k,k',h,q=>by rw[lZ]at q ⊢;exact h _ _ q
 |.cons e es,G,k,k',h,q=>by
  rw[iy]at q ⊢;show aN e (λd z q=>?_) q;split at q
  .exact (q.1,jf es (λz z q=>h _ _ q) q.2)
  .exact (q.1,jf es (λz z q=>h _ _ q) q.2)
  .exact q
theorem d9{E:EK}{Y:ao}:∀(x:Exs){G:DH}{k k':AS->DH->Prop},(∀d G',k d G'->k' d G')->aY Z x E Y G k->aY Z x E Y G k'
 |.nil,G,k,k',h,q=>by rw[jU]at q ⊢;exact h _ _ q
 |.cons e es,G,k,k',h,q=>by rw[jc]at q ⊢;exact aN e (λz z q=>d9 es (λz z q=>h _ _ q) q) q
theorem qI{E:EK}{Y:ao}:∀(x:Exs){isAnd b:Bool}{G:DH}{k k':Bool->DH->Prop},(∀d G',k d G'->k' d G')->wpB Z x isAnd b E Y G k->wpB Z x isAnd b E Y G k'
 |.nil,_,_,G,k,k',h,q=>by rw[xf]at q ⊢;exact h _ _ q
 |.cons e es,isAnd,b,G,k,k',h,q=>by
  rw[qw]at q ⊢;cases isAnd<;>cases b<;>first
   |exact h _ _ q
   | (show aN e (λd z q=>?_) q
      split at q
      .exact qI es h q
      .exact q)
theorem qJ{E:EK}{Y:ao}:∀(x:Txs){isAnd b:Bool}{G:DH}{k k':Bool->DH->Prop},(∀d G',k d G'->k' d G')->gH Z x isAnd b E Y G k->gH Z x isAnd b E Y G k'
 |.nil,_,_,G,k,k',h,q=>by rw[xg]at q ⊢;exact h _ _ q
 |.cons e es,isAnd,b,G,k,k',h,q=>by
  rw[qx]at q ⊢;cases isAnd<;>cases b<;>first
   |exact h _ _ q
   |exact d8 e (λd z q=>qJ es h q) q
theorem yD{E:EK}{Y:ao}:∀(x:Ox){G:DH}{k k':Option Int->DH->Prop},(∀d G',k d G'->k' d G')->wpO Z x E Y G k->wpO Z x E Y G k'
 |.no,G,k,k',h,q=>by rw[xj]at q ⊢;exact h _ _ q
 |.ob a,G,k,k',h,q=>by
  rw[xm]at q ⊢;show aN a (λx z q=>?_) q;split at q
  .exact h _ _ q
  .exact q
theorem mq{E:EK}{Y:ao}:∀(x:It'){G:DH}{k k':AS->Hld->DH->Prop},(∀d g G',k d g G'->k' d g G')->wpI Z x E Y G k->wpI Z x E Y G k'
 |.seq a,G,k,k',h,q=>by
  rw[xq]at q ⊢;show aN a (λx z q=>?_) q;split at q
  .exact h _ _ _ q
  .exact q
 |.rng a,G,k,k',h,q=>by
  rw[xr]at q ⊢;show aN a (λx z q=>?_) q;split at q
  .exact (q.1,h _ _ _ q.2)
  .exact q
 |.enm a,G,k,k',h,q=>by
  rw[xu]at q ⊢;show aN a (λx z q=>?_) q;split at q
  .exact h _ _ _ q
  .exact q
 |.zip a b,G,k,k',h,q=>by
  rw[xF]at q ⊢;show aN a (λx z q=>aN b (λy z q=>?_) q) q;split at q
  .exact h _ _ _ q
  .exact q
end
structure En.Le(D D':En):Prop where
 nx:∀Y G,D.nx Y G->D'.nx Y G
 rt:∀d G,D.rt d G->D'.rt d G
 bk:∀Y G,D.bk Y G->D'.bk Y G
 ct:∀Y G,D.ct Y G->D'.ct Y G
def my:∀(b:Tb){Y:ao}{G:DH}{nx y:ao->DH->Prop}{ex ex':Xn->ao->DH->Prop},(∀Y G,nx Y G->y Y G)->(∀x Y G,ex x Y G->ex' x Y G)->wpX Z b Y G nx ex->wpX Z b Y G y ex'
 |.call f es,Y,G,nx,y,ex,ex',h,h',q=>by rw[Hb]at q ⊢;exact d9 es (λv v q=>Spec.mono q (λv v z=>h _ _ z) λv v z=>h' _ _ _ z) q
 |.pick f g i es,Y,G,nx,y,ex,ex',h,h',q=>by
  rw[Ha]at q ⊢;exact aN (.var i) (λv v q=>let(b,e,q):=q;(b,e,d9 es (λv v q=>Spec.mono q (λv v z=>h _ _ z) λv v z=>h' _ _ _ z) q)) q
 |.asg i f es,Y,G,nx,y,ex,ex',h,h',q=>by rw[yw]at q ⊢;exact d9 es (λv v q=>Spec.mono q (λv v z=>h _ _ z) λv v z=>h' _ _ _ z) q
 |.ite c a b,Y,G,nx,y,ex,ex',h,h',q=>by
  rw[Hc]at q ⊢;show d8 c (λt v q=>?_) q;cases t with
  |true=>exact my a h h' q
  |false=>exact my b h h' q
mutual
theorem wpS_mono{E:EK}:∀(x:Sx){Y:ao}{G:DH}{D D':En},D.Le D'->wpS Z x E Y G D->wpS Z x E Y G D'
 |.exp e,Y,G,D,D',h,q=>by rw[ye]at q ⊢;exact aN e (λy y q=>h.nx _ _ q) q
 |.asg t e,Y,G,D,D',h,q=>by rw[mj]at q ⊢;exact aN e (λy y q=>gK (λy q=>h.nx _ _ q) t q) q
 |.set o i e,Y,G,D,D',h,q=>by rw[yf]at q ⊢;exact aN e (λy y q=>aN o (λy y q=>aN i (λy y q=>Hn (λy q=>h.nx _ _ q) q) q) q) q
 |.aug i op e,Y,G,D,D',h,q=>by
  rw[yg]at q ⊢;split at q
  .exact aN e (λy y q=>Ho (λy q=>h.nx _ _ q) q) q
  .exact q
 |.ret e,Y,G,D,D',h,q=>by rw[yh]at q ⊢;exact aN e (λy y q=>h.rt _ _ q) q
 |.rtn,Y,G,D,D',h,q=>by rw[yj]at q ⊢;exact h.rt _ _ q
 |.ite c a b,Y,G,D,D',h,q=>by
  rw[yl]at q ⊢;show d8 c (λt y q=>?_) q;cases t with
  |true=>exact fu a h q
  |false=>exact fu b h q
 |.for_ t it body,Y,G,D,D',h,q=>by
  rw[Hf]at q ⊢;exact mq it (λitems g G1 q=>Hq (λd ρ' G' k k' hk z=>gK (λρ1 z=>fu body (D:={D with nx:=k,ct:=k,bk:=D.nx}) (D':={D' with nx:=k',ct:=k',bk:=D'.nx}) (hk,h.rt,h.nx,hk) z) t z) h.nx items Y G1 q) q
 |.pas,Y,G,D,D',h,q=>by rw[yo]at q ⊢;exact h.nx _ _ q
 |.brk,Y,G,D,D',h,q=>by rw[yq]at q ⊢;exact h.bk _ _ q
 |.cnt,Y,G,D,D',h,q=>by rw[yr]at q ⊢;exact h.ct _ _ q
 |.nev,Y,G,D,D',h,q=>by rw[yx]at q;exact q.elim
 |.rse C es,Y,G,D,D',h,q=>by rw[qD]at q ⊢;exact q
 |.rsi C e,Y,G,D,D',h,q=>by rw[yt]at q ⊢;exact q
 |.tryx b C hd xs,Y,G,D,D',h,q=>by rw[qF]at q ⊢;exact my b (λy y z=>h.nx _ _ z) (λy y y z=>(z.1,z.2.1,h.nx _ _ z.2.2)) q
theorem fu{E:EK}:∀(x:Sxs){Y:ao}{G:DH}{D D':En},D.Le D'->aA Z x E Y G D->aA Z x E Y G D'
 |.nil,Y,G,D,D',h,q=>by rw[lX]at q ⊢;exact h.nx _ _ q
 |.cons s r,Y,G,D,D',h,q=>by rw[lY]at q ⊢;exact wpS_mono s (D:={D with nx:=λρ' G'=>aA Z r E ρ' G' D}) (D':={D' with nx:=λρ' G'=>aA Z r E ρ' G' D'}) (λy y z=>fu r h z,h.rt,h.bk,h.ct) q
end
end
def PV(K:PF)(H:Hp)(F:FZ)(Q:VK):D->DH->Prop:=λd y=>∀H' F' v,Ext H F H' F'->R K H' F' y->Rep K H' F' d v->Q v H'
def PB(K:PF)(H:Hp)(F:FZ)(Q:Bool->Hp->Prop):Bool->DH->Prop:=λb y=>∀H' F',Ext H F H' F'->R K H' F' y->Q b H'
def PLs(K:PF)(H:Hp)(F:FZ)(Q:AR->Hp->Prop):AS->DH->Prop:=λds y=>∀H' F' vs,Ext H F H' F'->R K H' F' y->Reps K H' F' ds vs->Q vs H'
section
variable {K:PF} {H:Hp} {F:FZ} {G:DH} {Q:VK}
def PV.now{d:D}{v:V}(h:PV K H F Q d G)(r:R K H F G)(q:Rep K H F d v):Q v H:=h H F v (Ext.refl H F) r q
def gM{fz:Bool}{ds:AS}{vs:AR}(h:mk fz ds G (PV K H F Q))(r:R K H F G)(t:Reps K H F ds vs)(p:AQ)(y:H p=none):Q (.ref p) (upd H p (.lst vs)):=by
 cases fz with
 |true=>exact h _ _ _ (wK r y) (r.newF y) (Za r y t)
 |false=>exact h p (r.free y) _ _ _ (dN r y) (r.newL y t) rfl
def qK{ds:AS}{vs:AR}(h:PV K H F Q (.tup ds) G)(r:R K H F G)(t:Reps K H F ds vs)(p:AQ)(y:H p=none):Q (.ref p) (upd H p (.tup vs)):=
 h _ _ _ (dN r y) (r.new y) (wL r y t)
end
def szl:sz<=sizeLine:=by rw[eT];decide
def eE{n:Nat}(h:n<=sz):n<=sizeLine:=cb h szl
def rB2(K:PF)(f:D->D->DH->(AT)->Prop):R2:=λx y H Q=>∃F G a b,R K H F G/\Rep K H F a x/\Rep K H F b y/\f (view G a) (view G b) G (PV K H F Q)
section
variable {X:Cx}
def Zh:OpR X (binaryOp .Add) (λx y H Q=>∃a b xs ys,x=.ref a/\y=.ref b/\SqL X.K H a xs/\SqL X.K H b ys/\xs⁻¹+ys⁻¹<=sizeLine/\∀p,H p=none->Q (.ref p) (upd H p (.lst (xs++ys)))):=by
 intro p9 s Y H x y v u Q I rx ry h;let(a,b,xs,ys,rfl,rfl,ha,hb,hz,q):=h;cases rx;cases ry;let(J,r1,p1,_):=I.list ha;let(z,r2,p2,_):=I.list hb;let((cls,dd,data,sl),ho,hc,n,hd):=p1.isList;let((cls2,dd2,data2,sl2),ho2,O,n2,U):=p2.isList;simp only at hc hd O U;subst hc hd O U;have e:J.toArray++z.toArray=(J++z).toArray:=by simp
 show concat_meets (_,ho,rfl) (_,ho2,rfl) noFill_list_add seq_list_add PySem.F.slot_list_add PySem.F.entry_list_add (PySem.F.args_list_add_2 _ _)
  (list_addW a b J.toArray z.toArray n n2 dd dd2 sl sl2 (by rw[a8,a8,<-r1⁻¹,<-r2⁻¹];exact hz)) (ho,ho2,?_)
 rw[e];exact(.ref _,_,I.lnew (t':=s.toks) (r1.append r2) (by rw[ax];exact hz),rfl,q _ I.fresh)
def Zi:OpR X (binaryOp .Add) (λx y H Q=>∃a b ys,x=.ref a/\y=.ref b/\SqT X.K H a []/\SqT X.K H b ys/\Q (.ref b) H):=by
 intro p9 s Y H x y v u Q I rx ry h;let(a,b,ys,rfl,rfl,ha,hb,q):=h;cases rx;cases ry;let(its,r1,p1,_):=I.tuple ha;let(U,r2,p2,_):=I.tuple hb;let((cls,dd,data,sl),ho,hc,n,hd):=id p1;let((cls2,dd2,data2,sl2),O,z,n2,J):=id p2;simp only at hc hd z J;subst hc hd z J;cases r1;exact concat_meets (_,ho,rfl) (_,O,rfl) noFill_tuple_add seq_tuple_add PySem.F.slot_tuple_add PySem.F.entry_tuple_add (PySem.F.args_tuple_add_2 _ _)
   (tuple_addW0 a b _ U.toArray n n2 dd dd2 sl sl2 (!2)) (ho,O,(.ref b,H,I,rfl,q))
def Hr{K:PF}{H:Hp}{F:FZ}{ds:AS}{vs:AR}(t:Reps K H F ds vs):ds=[]↔vs=[]:=by
 have:=t⁻¹;constructor
 .intro e;subst e;exact dQ.mp this.symm
 .intro e;subst e;exact dQ.mp this
theorem Zj{x:Str}{n:Nat}(h1:n<=1000)(h:x⁻¹*n<=sz):MulOk x (n:Int):=by
 have h2:((x⁻¹*n:Nat):Int)<=((1000000:Nat):Int):=Int.ofNat_le.mpr h;rw[Int.natCast_mul]at h2;show(?_,?_,?_)
 .rw[cw (!0),cw (!0)];rfl
 .intro hn _ hh;have z:(0:Int)<n:=by lia
  have y:(x⁻¹:Int)<=(2 ^ 63-1)/n:=(Int.le_ediv_iff_mul_le z).mpr (Int.le_trans h2 (!1));exact absurd hh (Int.not_lt.mpr y)
 .intro _ _;unfold Builtin.Str.tooLong;rw[eT,e8];exact cw (by have:sz=1000000:=rfl;lia)
def Hs(l:AA):∀(n:Nat)(y:AA),(List.replicate n l.toArray).foldl (· ++ ·) y.toArray=(y++reps l n).toArray
 |0,y=>by simp[reps]
 |n+1,y=>by
  rw[e6,List.foldl_cons];have e:y.toArray++l.toArray=(y++l).toArray:=by simp
  rw[e,Hs l n (y++l)];unfold reps;rw[e6,kq,b6]
def Zk(n:Nat):reps ([]:AA) n=[]:=by
 unfold reps;induction n with
 |zero=>rfl
 |succ n y=>rw[e6,kq,y];rfl
def Zm{y:Type}(l:List y)(n:Nat):(reps l n)⁻¹=n*l⁻¹:=len_rep l n
theorem Zn(l:AA)(n:Nat):Txt.mul (tx l) (n:Int)=tx (reps l n):=by
 unfold Txt.mul;by_cases h:(n:Int)<1
 .rw[if_pos h];have:n=0:=by lia
  subst this;rfl
 .rw[if_neg h];by_cases h2:((n:Int)==1||(tx l)⁻¹==0)=true
  .rw[if_pos h2];rw[df]at h2;rcases h2 with h2|h2
   .have:n=1:=by have:=eq_of_beq h2;lia
    subst this;simp[reps]
   .have y:=eq_of_beq h2;rw[cz]at y;have:l=[]:=dQ.mp y;subst this;rw[Zk]
  .rw[if_neg h2];have e:=Hs l n [];rw[List.nil_append]at e;exact fT Str.mk (!!e)
theorem Zo(op:Operator)(fz:Bool):OpR X (binaryOp op) (rB2 X.K (dh op fz)):=by
 intro p9 s Y H x y v u Q I J O h;let(F,G,a,b,r,ra,rb,h):=h;generalize ea:view G a=va at h;generalize eb:view G b=vb at h;have z:∀{p:Int->Int->Prop},iu va vb p->∃i j,x=.int i/\y=.int j/\p i j:=λ{p} h=>by
  let(i,j,rfl,rfl,h):=Hg h;cases gD ea;cases gD eb;exact(i,j,ra,rb,h)
 cases op with
 |Add=>
  have h:jJ fz va vb G _:=h;unfold jJ at h;cases va with
  |int _=>cases vb with
   |int _=>
    cases gD ea;cases gD eb;have ha:x=.int _:=ra;have hb:y=.int _:=rb;subst ha;subst hb;exact UJ p9 s Y H _ _ v u Q I J O (_,_,rfl,rfl,h.now r rfl)
   |_=>exact h.elim
  |str _=>cases vb with
   |str _=>
    cases ir ea;cases ir eb;let(ha,la):=ra;let(hb,lb):=rb;subst ha;subst hb;show Vd p9 s Y H _ _ v u Q I J O (_,_,rfl,rfl,?_,?_)
    .rw[cz,cz];exact eE h.1
    .rw[iU];exact h.2.now r (rfl,by rw[ax];exact h.1)
   |_=>exact h.elim
  |lst _=>cases vb with
   |lst _=>
    let(p,vs,rfl,q1,t1):=Rep.list r ra ea;let(p',U,rfl,q2,t2):=Rep.list r rb eb;exact Zh p9 s Y H _ _ v u Q I J O (p,p',vs,U,rfl,rfl,q1,q2,by rw[<-t1⁻¹,<-t2⁻¹];exact eE h.1,gM h.2 r (t1.append t2))
   |_=>exact h.elim
  |tup xs=>cases vb with
   |tup ys=>
    cases iZ ea;cases iZ eb;let(p,vs,rfl,q1,t1):=id ra;let(p',U,rfl,q2,t2):=id rb;by_cases hx:vs=[]
    .subst hx;have:xs=[]:=(Hr t1).mpr rfl;subst this;exact Zi p9 s Y H _ _ v u Q I J O (p,p',U,rfl,rfl,q1.sq,q2.sq,h.2.now r rb)
    .show VP p9 s Y H _ _ v u Q I J O (p,p',vs,U,rfl,rfl,q1.sq,q2.sq,hx,by rw[<-t1⁻¹,<-t2⁻¹];exact eE h.1,λe=>?_,λt=>qK h.2 r (t1.append t2));subst e;have:ys=[]:=(Hr t2).mpr rfl;subst this;have h2:=h.2;rw[eM]at h2;exact h2.now r ra
   |_=>exact h.elim
  |_=>exact h.elim
 |Sub=>
  let(i,j,rfl,rfl,h):=z h;exact UL p9 s Y H _ _ v u Q I J O (_,_,rfl,rfl,h.now r rfl)
 |Mult=>
  have h:jK fz va vb G _:=h;unfold jK at h;cases vb with
  |int _=>cases va with
   |int _=>
    cases gD ea;cases gD eb;have ha:x=.int _:=ra;have hb:y=.int _:=rb;subst ha;subst hb;exact UT p9 s Y H _ _ v u Q I J O (_,_,rfl,rfl,h.1,h.2.now r rfl)
   |str _=>
    cases ir ea;cases gD eb;let(ha,la):=ra;have hb:y=.int _:=rb;subst ha;subst hb;let(h0,h1,h2,h3):=h;let(n,rfl):=dS h0;rw[e8]at h2 h3;show Wt p9 s Y H _ _ v u Q I J O (_,_,rfl,rfl,Zj (!0) (by rw[cz];exact h2),?_);rw[Zn];exact h3.now r (rfl,by rw[Zm,Nat.mul_comm];exact h2)
   |_=>exact h.elim
  |_=>exact h.elim
 |FloorDiv=>
  let(i,j,rfl,rfl,h):=z h;exact Xz p9 s Y H _ _ v u Q I J O (_,_,rfl,rfl,h.1,h.2.now r rfl)
 |Mod=>
  let(i,j,rfl,rfl,h):=z h;exact UV p9 s Y H _ _ v u Q I J O (_,_,rfl,rfl,h.1,h.2.now r rfl)
 |Pow=>
  let(i,j,rfl,rfl,h):=z h;exact UW p9 s Y H _ _ v u Q I J O (_,_,rfl,rfl,h.1,h.2.now r rfl)
 |_=>exact h.elim
end
mutual
theorem yE:∀{d:D},nr d=true->deq d d=true
 |.non,_=>rfl
 |.bl b,_=>by simp[deq]
 |.int i,_=>by simp[deq]
 |.str l,_=>by simp[deq]
 |.tup xs,h=>by rw[deq];exact yF (by rw[nr]at h;exact h)
 |.lst xs,h=>by rw[deq];exact yF (by rw[nr]at h;exact h)
 |.ref a,h=>by rw[nr]at h;cases h
 |.scr a,h=>by rw[nr]at h;cases h
 |.exn a,h=>by rw[nr]at h;cases h
 |.exa _ _ _,h=>by rw[nr]at h;cases h
 |.obj _ _ _,h=>by rw[nr]at h;cases h
theorem yF:∀{ds:AS},nrs ds=true->cI ds ds=true
 |[],_=>rfl
 |d::ds,h=>by
  rw[nrs,ae]at h;rw[cI,yE h.1,yF h.2];rfl
end
def qL:∀(xs ys:AS),cI xs ys=((List.range (min xs⁻¹ ys⁻¹)).all (λj=>deq (xs.getD j .non) (ys.getD j .non))&&xs⁻¹==ys⁻¹)
 |[],[]=>rfl
 |[],y::ys=>by simp[cI]
 |x::xs,[]=>by simp[cI]
 |x::xs,y::ys=>by
  have e:min (x::xs)⁻¹ (y::ys)⁻¹=(min xs⁻¹ ys⁻¹)+1:=by simp only[ce];lia
  rw[cI,qL xs ys,e,List.range_succ_eq_map,List.all_cons,List.all_map];simp only[List.getD_cons_zero,ce,Bool.and_assoc];congr 1;congr 1;rw[hZ];simp
def Zq{xs:AS}(h:xs⁻¹≠ys⁻¹):cI xs ys=false:=by rw[qL];rw[show(xs⁻¹==ys⁻¹)=false from dL.mpr h,g6]
def mz:∀{xs:AS}{i:Nat},nrs xs=true->nr (xs.getD i .non)=true
 |[],_,_=>rfl
 |x::xs,0,h=>by rw[nrs,ae]at h;exact h.1
 |x::xs,i+1,h=>by rw[nrs,ae]at h;rw[List.getD_cons_succ];exact mz h.2
def mC:∀{xs:AS}{i:Nat},dpt (xs.getD i .non)<=aX xs
 |[],_=>gS _
 |x::xs,0=>by rw[aX,List.getD_cons_zero];lia
 |x::xs,i+1=>by rw[aX,List.getD_cons_succ];have:=@mC xs i;lia
section
variable {X:Cx} {p9:AC} {σ:L2.St} {H:Hp} {s:AI} {F:FZ}
mutual
theorem qM(I:Inv X p9 σ H s):∀{d d':D}{v:V},nr d=true->nr d'=true->Rep X.K H F d v->Rep X.K H F d' v->d=d'
 |.non,d',v,_,n',h,h'=>by
  have h:v=.non:=h;subst h;cases d' with
  |non=>rfl
  |bl _=>simp only[Rep]at h';cases h'
  |int _=>simp only[Rep]at h';cases h'
  |ref _=>simp only[Rep]at h';cases h'
  |scr _=>rw[nr]at n';cases n'
  |exn _=>rw[nr]at n';cases n'
  |exa _ _ _=>rw[nr]at n';cases n'
  |obj _ _ _=>rw[nr]at n';cases n'
  |str _=>simp only[Rep]at h';let(e,_):=h';cases e
  |tup _=>simp only[Rep]at h';let(_,_,e,_):=h';cases e
  |lst _=>simp only[Rep]at h';let(_,_,e,_):=h';cases e
 |.bl b,d',v,_,n',h,h'=>by
  have h:v=.bl b:=h;subst h;cases d' with
  |non=>simp only[Rep]at h';cases h'
  |bl _=>simp only[Rep]at h';cases h';rfl
  |int _=>simp only[Rep]at h';cases h'
  |ref _=>simp only[Rep]at h';cases h'
  |scr _=>rw[nr]at n';cases n'
  |exn _=>rw[nr]at n';cases n'
  |exa _ _ _=>rw[nr]at n';cases n'
  |obj _ _ _=>rw[nr]at n';cases n'
  |str _=>simp only[Rep]at h';let(e,_):=h';cases e
  |tup _=>simp only[Rep]at h';let(_,_,e,_):=h';cases e
  |lst _=>simp only[Rep]at h';let(_,_,e,_):=h';cases e
 |.int b,d',v,_,n',h,h'=>by
  have h:v=.int b:=h;subst h;cases d' with
  |non=>simp only[Rep]at h';cases h'
  |bl _=>simp only[Rep]at h';cases h'
  |int _=>simp only[Rep]at h';cases h';rfl
  |ref _=>simp only[Rep]at h';cases h'
  |scr _=>rw[nr]at n';cases n'
  |exn _=>rw[nr]at n';cases n'
  |exa _ _ _=>rw[nr]at n';cases n'
  |obj _ _ _=>rw[nr]at n';cases n'
  |str _=>simp only[Rep]at h';let(e,_):=h';cases e
  |tup _=>simp only[Rep]at h';let(_,_,e,_):=h';cases e
  |lst _=>simp only[Rep]at h';let(_,_,e,_):=h';cases e
 |.str l,d',v,_,n',h,h'=>by
  let(h,_):=h;subst h;cases d' with
  |str l'=>
   let(e,_):=h';injection e with e;rw[Ed e]
  |non=>simp only[Rep]at h';cases h'
  |bl _=>simp only[Rep]at h';cases h'
  |int _=>simp only[Rep]at h';cases h'
  |ref _=>simp only[Rep]at h';cases h'
  |scr _=>rw[nr]at n';cases n'
  |exn _=>rw[nr]at n';cases n'
  |exa _ _ _=>rw[nr]at n';cases n'
  |obj _ _ _=>rw[nr]at n';cases n'
  |tup _=>simp only[Rep]at h';let(_,_,e,_):=h';cases e
  |lst _=>simp only[Rep]at h';let(_,_,e,_):=h';cases e
 |.tup xs,d',v,n,n',h,h'=>by
  let(a,vs,e,q,t):=h;subst e;cases d' with
  |tup ys=>
   let(a',vs',e,q',t'):=h';injection e with e;subst e;have:=I.tuple_inj q.sq q'.sq;subst this;rw[nr]at n n';rw[yG I n n' t t']
  |lst ys=>
   let(a',vs',e,q',t'):=h';injection e with e;subst e;let(its,_,(o,e1,c1,_),_):=I.tuple q.sq;let(its',_,(o',n',e2,c2,_),_):=I.list q'.sq;rw[e1]at e2;cases e2;rw[c1]at c2;exact absurd c2 (by ac_rfl)
  |ref _=>rw[nr]at n';cases n'
  |scr _=>rw[nr]at n';cases n'
  |exn _=>rw[nr]at n';cases n'
  |exa _ _ _=>rw[nr]at n';cases n'
  |obj _ _ _=>rw[nr]at n';cases n'
  |str _=>simp only[Rep]at h';let(e,_):=h';cases e
  |non=>simp only[Rep]at h';cases h'
  |bl _=>simp only[Rep]at h';cases h'
  |int _=>simp only[Rep]at h';cases h'
 |.lst xs,d',v,n,n',h,h'=>by
  let(a,vs,e,q,t):=h;subst e;cases d' with
  |lst ys=>
   let(a',vs',e,q',t'):=h';injection e with e;subst e;have:=I.list_inj q.sq q'.sq;subst this;rw[nr]at n n';rw[yG I n n' t t']
  |tup ys=>
   let(a',vs',e,q',t'):=h';injection e with e;subst e;let(its,_,(o,e1,c1,_),_):=I.tuple q'.sq;let(its',_,(o',n',e2,c2,_),_):=I.list q.sq;rw[e1]at e2;cases e2;rw[c1]at c2;exact absurd c2 (by ac_rfl)
  |ref _=>rw[nr]at n';cases n'
  |scr _=>rw[nr]at n';cases n'
  |exn _=>rw[nr]at n';cases n'
  |exa _ _ _=>rw[nr]at n';cases n'
  |obj _ _ _=>rw[nr]at n';cases n'
  |str _=>simp only[Rep]at h';let(e,_):=h';cases e
  |non=>simp only[Rep]at h';cases h'
  |bl _=>simp only[Rep]at h';cases h'
  |int _=>simp only[Rep]at h';cases h'
 |.ref a,d',v,n,_,_,_=>by rw[nr]at n;cases n
 |.scr a,d',v,n,_,_,_=>by rw[nr]at n;cases n
 |.exn a,d',v,n,_,_,_=>by rw[nr]at n;cases n
 |.exa _ _ _,d',v,n,_,_,_=>by rw[nr]at n;cases n
 |.obj _ _ _,d',v,n,_,_,_=>by rw[nr]at n;cases n
theorem yG(I:Inv X p9 σ H s):∀{ds ds':AS}{vs:AR},nrs ds=true->nrs ds'=true->Reps X.K H F ds vs->Reps X.K H F ds' vs->ds=ds'
 |[],[],_,_,_,_,_=>rfl
 |[],_::_,_,_,_,h,(v,r,e,_)=>by have h:_=[]:=h;rw[h]at e;cases e
 |_::_,[],_,_,_,(v,r,e,_),h=>by have h:_=[]:=h;rw[h]at e;cases e
 |d::ds,d'::ds',_,n,n',(v,r,e,h,t),(v',r',e',h',t')=>by
  subst e;injection e' with e1 e2;subst e1;subst e2;rw[nrs,ae]at n n';rw[qM I n.1 n'.1 h h',yG I n.2 n'.2 t t']
end
def qN{I:Inv X p9 Y H s}{ds:AS}{vs:AR}{y:AB}(t:Reps X.K H F ds vs)(r:Vals vs y)(j:Nat)(h:j<y⁻¹):∃v,Rep X.K H F (ds.getD j .non) v/\RelV v y[j]:=by
 have hl:j<ds⁻¹:=by rw[t⁻¹,r⁻¹];exact h
 have J:ds[j]?=-(ds.getD j .non):=by rw[dn,aI hl];rfl
 let(v,O,U):=t.get J;let(u,z,r3):=r.get O;rw[aI h]at z;cases z;exact(v,U,r3)
def Zr(a b:AA):(tx a==tx b)=(a==b):=by rw[hZ,aw,aw];exact(λh=>Ed h,λh=>by rw[h])
theorem Zt(I:Inv X p9 Y H s){n:Nat}{A:AM}{xs ys:AS}{a J:AQ}{vs vs':AR}{y its':AB}
  (ih:∀m,m<n->∀(A:AM)(d d':D)(v v':V)(u u':AN),A.units+m<cLine->min (dpt d) (dpt d')<=m->nr d=true->nr d'=true->Rep X.K H F d v->Rep X.K H F d' v'->RelV v u->RelV v' u'->
   SeqAt.RcAt A s u u' (deq d d')/\SeqAt.EqAt A s u u' (deq d d')/\SeqAt.RcNeAt A s u u' (!deq d d'))
  (hu:A.units+n<cLine) (hd:min (dpt (.tup xs)) (dpt (.tup ys))<=n) (n1:nr (.tup xs)) (n2:nr (.tup ys)) (h:Rep X.K H F (.tup xs) (.ref a)) (h':Rep X.K H F (.tup ys) (.ref J))
  (pt:s.heap.IsTuple a y.toArray) (O:s.heap.IsTuple J its'.toArray) (rv:Vals vs y) (U:Vals vs' its') (tt:Reps X.K H F xs vs) (tt':Reps X.K H F ys vs'):
  SeqAt.RcAt A s (.ref a) (.ref J) (deq (.tup xs) (.tup ys))/\SeqAt.EqAt A s (.ref a) (.ref J) (deq (.tup xs) (.tup ys))/\SeqAt.RcNeAt A s (.ref a) (.ref J) (!deq (.tup xs) (.tup ys)):=by
 have hd':min (aX xs+1) (aX ys+1)<=n:=by rw[dpt,dpt]at hd;exact hd
 have hn1:nrs xs=true:=by rw[nr]at n1;exact n1
 have hn2:nrs ys=true:=by rw[nr]at n2;exact n2
 have l1:y.toArray.size=xs⁻¹:=by rw[a8,<-rv⁻¹,tt⁻¹]
 have l2:its'.toArray.size=ys⁻¹:=by rw[a8,<-U⁻¹,tt'⁻¹]
 have he:∀j (h1:j<y.toArray.size) (h2:j<its'.toArray.size),SeqAt.EqAt A.in1 s y.toArray[j] its'.toArray[j] (deq (xs.getD j .non) (ys.getD j .non)):=by intro j h1 h2;let(w1,q1,q2):=qN (I:=I) tt rv j (!!h1);let(w2,q3,q4):=qN (I:=I) tt' U j (!!h2);have d1:=@mC xs j;have d2:=@mC ys j;exact(ih (n-1) (!0) A.in1 _ _ w1 w2 _ _ (by change A.units+1+(n-1)<cLine;lia) (!0) (mz hn1) (mz hn2) q1 q3 (!!q2) (!!q4)).2.1
 have e:deq (.tup xs) (.tup ys)=((List.range (min y.toArray.size its'.toArray.size)).all (λj=>deq (xs.getD j .non) (ys.getD j .non))&&y.toArray.size==its'.toArray.size):=by rw[deq,qL,l1,l2]
 have rc:SeqAt.RcAt A s (.ref a) (.ref J) (deq (.tup xs) (.tup ys)):=by rw[e];exact .tuples pt O (!0) he
 show(rc,?_,by rw[e];exact .tuples pt O (!0) he);by_cases z:a=J
 .subst z;have:=qM I n1 n2 h h';rw[<-this,yE n1];exact .same _
 .exact .of_refs z rc
theorem Zu(I:Inv X p9 Y H s){n:Nat}{A:AM}{xs ys:AS}{a J:AQ}{vs vs':AR}{y its':AB}
  (ih:∀m,m<n->∀(A:AM)(d d':D)(v v':V)(u u':AN),A.units+m<cLine->min (dpt d) (dpt d')<=m->nr d=true->nr d'=true->Rep X.K H F d v->Rep X.K H F d' v'->RelV v u->RelV v' u'->
   SeqAt.RcAt A s u u' (deq d d')/\SeqAt.EqAt A s u u' (deq d d')/\SeqAt.RcNeAt A s u u' (!deq d d'))
  (hu:A.units+n<cLine) (hd:min (dpt (.lst xs)) (dpt (.lst ys))<=n) (n1:nr (.lst xs)) (n2:nr (.lst ys)) (h:a=J->xs=ys)
  (pt:s.heap.IsList a y.toArray) (O:s.heap.IsList J its'.toArray) (rv:Vals vs y) (rv':Vals vs' its') (tt:Reps X.K H F xs vs) (tt':Reps X.K H F ys vs'):
  SeqAt.RcAt A s (.ref a) (.ref J) (deq (.lst xs) (.lst ys))/\SeqAt.EqAt A s (.ref a) (.ref J) (deq (.lst xs) (.lst ys))/\SeqAt.RcNeAt A s (.ref a) (.ref J) (!deq (.lst xs) (.lst ys)):=by
 have hd':min (aX xs+1) (aX ys+1)<=n:=by rw[dpt,dpt]at hd;exact hd
 have hn1:nrs xs=true:=by rw[nr]at n1;exact n1
 have hn2:nrs ys=true:=by rw[nr]at n2;exact n2
 have l1:y.toArray.size=xs⁻¹:=by rw[a8,<-rv⁻¹,tt⁻¹]
 have l2:its'.toArray.size=ys⁻¹:=by rw[a8,<-rv'⁻¹,tt'⁻¹]
 have eqs:∀(U:SeqAt.RcAt A s (.ref a) (.ref J) (deq (.lst xs) (.lst ys))),SeqAt.EqAt A s (.ref a) (.ref J) (deq (.lst xs) (.lst ys)):=λU=>by
  by_cases z:a=J
  .have:=h z;subst z;subst this;rw[yE n1];exact .same _
  .exact .of_refs z U
 by_cases hl:xs⁻¹=ys⁻¹
 .have he:∀j (h1:j<y.toArray.size) (h2:j<its'.toArray.size),SeqAt.EqAt A.in1 s y.toArray[j] its'.toArray[j] (deq (xs.getD j .non) (ys.getD j .non)):=by
   intro j h1 h2;let(w1,q1,q2):=qN (I:=I) tt rv j (!!h1);let(w2,q3,q4):=qN (I:=I) tt' rv' j (!!h2);have d1:=@mC xs j;have d2:=@mC ys j;exact(ih (n-1) (!0) A.in1 _ _ w1 w2 _ _ (by change A.units+1+(n-1)<cLine;lia) (!0) (mz hn1) (mz hn2) q1 q3 (!!q2) (!!q4)).2.1
  have e:deq (.lst xs) (.lst ys)=(List.range y.toArray.size).all (λj=>deq (xs.getD j .non) (ys.getD j .non)):=by rw[deq,qL,l1,hl,Nat.min_self];simp
  have U:SeqAt.RcAt A s (.ref a) (.ref J) (deq (.lst xs) (.lst ys)):=by rw[e];exact .lists pt O (by rw[l1,l2];exact hl) (!0) he
  exact(U,eqs U,by rw[e];exact .lists pt O (by rw[l1,l2];exact hl) (!0) he)
 .have e:deq (.lst xs) (.lst ys)=false:=by rw[deq];exact Zq hl
  have hne:(y.toArray.size != its'.toArray.size)=true:=by rw[l1,l2];simpa using hl
  have U:SeqAt.RcAt A s (.ref a) (.ref J) (deq (.lst xs) (.lst ys)):=by rw[e];exact .lists_lengths pt O hne (!0)
  exact(U,eqs U,by rw[e];exact .lists_lengths pt O hne (!0))
inductive Sh (K:PF) (H:Hp) (F:FZ) (s:AI):D->V->AN->Prop
 |non:Sh K H F s .non .non .none
 |bl {b:Bool}:Sh K H F s (.bl b) (.bl b) (.bool b)
 |int {i:Int} {t:Tok}:Sh K H F s (.int i) (.int i) (.int i t)
 |str {l:AA} {t:Tok}:Sh K H F s (.str l) (.str (tx l)) (.str (tx l) t)
 |tup {ds:AS} {a:AQ} {vs:AR} {its:AB} (p:s.heap.IsTuple a its.toArray) (r:Vals vs its) (t:Reps K H F ds vs):Sh K H F s (.tup ds) (.ref a) (.ref a)
 |lst {ds:AS} {a:AQ} {vs:AR} {its:AB} (p:s.heap.IsList a its.toArray) (r:Vals vs its) (t:Reps K H F ds vs):Sh K H F s (.lst ds) (.ref a) (.ref a)
def Ht(I:Inv X p9 Y H s){d:D}{v:V}{u:AN}(n:nr d)(h:Rep X.K H F d v)(r:RelV v u):Sh X.K H F s d v u:=by
 cases d with
 |non=>have e:v=.non:=h;subst e;have e:u=Value.none:=r;subst e;exact .non
 |bl b=>have e:v=.bl b:=h;subst e;have e:u=Value.bool b:=r;subst e;exact .bl
 |int i=>have e:v=.int i:=h;subst e;obtain⟨t,e⟩:∃t,u=Value.int i t:=r;subst e;exact .int
 |str l=>let(e,_):=h;subst e;obtain⟨t,e⟩:∃t,u=Value.str (tx l) t:=r;subst e;exact .str
 |tup ds=>let(a,vs,e,q,tt):=h;subst e;have e:u=Value.ref a:=r;subst e;let(its,rv,pt,_):=I.tuple q.sq;exact .tup pt rv tt
 |lst ds=>let(a,vs,e,q,tt):=h;subst e;have e:u=Value.ref a:=r;subst e;let(its,rv,pl,_):=I.list q.sq;exact .lst pl.isList rv tt
 |_=>rw[nr]at n;cases n
theorem yH(I:Inv X p9 Y H s):∀(n:Nat)(A:AM)(d d':D)(v v':V)(u u':AN),A.units+n<cLine->min (dpt d) (dpt d')<=n->nr d=true->nr d'=true->Rep X.K H F d v->Rep X.K H F d' v'->RelV v u->RelV v' u'->
  SeqAt.RcAt A s u u' (deq d d')/\SeqAt.EqAt A s u u' (deq d d')/\SeqAt.RcNeAt A s u u' (!deq d d'):=by
 intro n;induction n using Nat.strongRecOn with
 |_ n ih=>
  intro A d d' v v' u u' hu hd n1 n2 h h' r r';have y:A.units<cLine:=by lia
  have k2:=Ht I n2 h' r';cases Ht I n1 h r with
  |non=>
   cases k2 with
   |non=>exact(.none_none,.same _,.none_none)
   |bl=>exact(.none_bool _,.none_bool _,.none_bool _)
   |int=>exact(.none_int _ _,.none_int _ _,.none_int _ _)
   |str=>exact(.none_str _ _,.none_str _ _,.none_str _ _)
   |tup J O U=>exact(.none_tuple J y,.none_tuple J y,.none_tuple J y)
   |lst J O U=>exact(.none_list J y,.none_list J y,.none_list J y)
  |bl=>
   cases k2 with
   |non=>exact(.bool_none _,.bool_none _,.bool_none _)
   |bl=>exact(.bool_bool _ _,.bool_bool _ _,.bool_bool _ _)
   |int=>exact(.bool_int _ _ _,.bool_int _ _ _,.bool_int _ _ _)
   |str=>exact(.bool_str _ _ _,.bool_str _ _ _,.bool_str _ _ _)
   |tup J O U=>exact(.bool_tuple _ J y,.bool_tuple _ J y,.bool_tuple _ J y)
   |lst J O U=>exact(.bool_list _ J y,.bool_list _ J y,.bool_list _ J y)
  |int=>
   cases k2 with
   |non=>exact(.int_none _ _,.int_none _ _,.int_none _ _)
   |bl=>exact(.int_bool _ _ _,.int_bool _ _ _,.int_bool _ _ _)
   |int=>exact(.int_int _ _ _ _,.int_int _ _ _ _,.int_int _ _ _ _)
   |str=>exact(.int_str _ _ _ _,.int_str _ _ _ _,.int_str _ _ _ _)
   |tup J O U=>exact(.int_tuple _ _ J y,.int_tuple _ _ J y,.int_tuple _ _ J y)
   |lst J O U=>exact(.int_list _ _ J y,.int_list _ _ J y,.int_list _ _ J y)
  |str=>
   cases k2 with
   |non=>exact(.str_none _ _,.str_none _ _,.str_none _ _)
   |bl=>exact(.str_bool _ _ _,.str_bool _ _ _,.str_bool _ _ _)
   |int=>exact(.str_int _ _ _ _,.str_int _ _ _ _,.str_int _ _ _ _)
   |str=>rw[deq,<-Zr];exact(.str_str _ _ _ _,.str_str _ _ _ _,.str_str _ _ _ _)
   |tup J O U=>exact(.str_tuple _ _ J y,.str_tuple _ _ J y,.str_tuple _ _ J y)
   |lst J O U=>exact(.str_list _ _ J y,.str_list _ _ J y,.str_list _ _ J y)
  |tup p rv tt=>
   cases k2 with
   |non=>exact(.tuple_none p y,.tuple_none p y,.tuple_none p y)
   |bl=>exact(.tuple_bool _ p y,.tuple_bool _ p y,.tuple_bool _ p y)
   |int=>exact(.tuple_int _ _ p y,.tuple_int _ _ p y,.tuple_int _ _ p y)
   |str=>exact(.tuple_str _ _ p y,.tuple_str _ _ p y,.tuple_str _ _ p y)
   |tup J O U=>exact Zt I ih hu hd n1 n2 h h' p J rv O tt U
   |lst J O U=>exact(.tuple_list p J y,.tuple_list p J y,.tuple_list p J y)
  |lst p rv tt=>
   cases k2 with
   |non=>exact(.list_none p y,.list_none p y,.list_none p y)
   |bl=>exact(.list_bool _ p y,.list_bool _ p y,.list_bool _ p y)
   |int=>exact(.list_int _ _ p y,.list_int _ _ p y,.list_int _ _ p y)
   |str=>exact(.list_str _ _ p y,.list_str _ _ p y,.list_str _ _ p y)
   |tup J O U=>exact(.list_tuple p J y,.list_tuple p J y,.list_tuple p J y)
   |lst J O U=>exact Zu I ih hu hd n1 n2 (λz=>by subst z;have e:=qM I n1 n2 h h';injection e) p J rv O tt U
end
def FA(F:FZ)(G:DH):FZ:=λa=>F a\/∃o,G a=-o
def Hu{H:Hp}{F:FZ}{G:DH}:Ext H F H (FA F G):=(λz f=>.inl f,λz z=>rfl,λz z h=>h,λz z z h=>h)
def qO{K:PF}{H:Hp}{F:FZ}{G:DH}{d:D}{v:V}(r:R K H F G)(h:Rep K H F d v):Rep K H (FA F G) (view G d) v:=by
 cases d with
 |ref p=>
  have y:v=.ref p:=h;cases g:G p with
  |none=>
   have e:view G (.ref p)=.ref p:=by simp only[view,g]
   rw[e];exact y
  |some o=>
   cases o with
   |lst ds=>
    have e:view G (.ref p)=.lst ds:=by simp only[view,g]
    rw[e];let(vs,q,t):=r.lst g;exact(p,vs,y,(.inr (_,g),q),Reps.ext Hu t)
 |_=>exact Rep.ext Hu h
def rC2(K:PF)(f:D->D->(Bool->Prop)->Prop):R2:=λx y H Q=>∃F G a b,R K H F G/\Rep K H F a x/\Rep K H F b y/\f (view G a) (view G b) (λc=>PV K H F Q (.bl c) G)
section
variable {X:Cx}
def Hv(c:Nat)(l:AA):(!(Builtin.Str.occurrences (tx l) (tx [c]) 0 (tx l)⁻¹ 1).isEmpty)=l.contains c:=by have:=StrLaws.found_one (tx l) c;rw[this,hZ];simp
theorem Zv{p9:AC}{Y:L2.St}{H:Hp}{s:AI}{F:FZ}(I:Inv X p9 Y H s){A:AM}{x:D}{v:V}(hu:A.units+64<cLine)(hx:nr x)(rx:Rep X.K H F x v)(ru:RelV v u):
  ∀{ds:AS}{vs:AR}{us:AB},nrs ds=true->aX ds<=60->Reps X.K H F ds vs->Vals vs us->∃e:AN->Bool,(∀y∈us,SeqAt.EqAt A s y u (e y))/\us.any e=isIn x ds:=by
 intro ds vs us hn hd t r;let P:AN->D->Prop:=λy d=>nr d=true/\∃v,Rep X.K H F d v/\RelV v y
 have one:∀y d d',P y d->P y d'->d=d':=λy d d' zY zZ=>by
  let(n,v,q,z):=zY;let(n',v',q',z'):=zZ;have e:=z.inj z';subst e;exact qM I n n' q q'
 have(f,hf):∃f:AN->D,∀y d,P y d->f y=d:=by show(λy=>Classical.epsilon (P y),λy d h=>?_);exact one y _ _ (Classical.epsilon_spec (d,h)) h
 show(λy=>deq (f y) x,?_,?_)
 .skip;have key:∀{ds:AS}{vs:AR}{us:AB},nrs ds=true->aX ds<=60->Reps X.K H F ds vs->Vals vs us->∀y∈us,SeqAt.EqAt A s y u (deq (f y) x):=by
   intro ds;induction ds with
   |nil=>
    intro vs us _ _ t r y J;have t:vs=[]:=t;subst t;cases r;cases J
   |cons d ds O=>
    intro vs us hn hd t r y J;let(v1,r1,e,h1,U):=t;subst e;rw[nrs,ae]at hn;rw[aX]at hd;cases r with
    |cons p q=>
     rcases bb.mp J with e|J
     .subst e;rw[hf _ d (hn.1,_,h1,p)];exact(yH I 60 A d x v1 v _ u (!0) (!0) hn.1 hx h1 rx p ru).2.1
     .exact O hn.2 (!0) U q y J
  exact key hn hd t r
 .have key:∀{ds:AS}{vs:AR}{us:AB},nrs ds=true->Reps X.K H F ds vs->Vals vs us->us.any (λy=>deq (f y) x)=isIn x ds:=by
   intro ds;induction ds with
   |nil=>
    intro vs us _ t r;have t:vs=[]:=t;subst t;cases r;rfl
   |cons d ds O=>
    intro vs us hn t r;let(v1,r1,e,h1,U):=t;subst e;rw[nrs,ae]at hn;cases r with
    |cons p q=>
     rw[List.any_cons,hf _ d (hn.1,_,h1,p),O hn.2 U q];rfl
  exact key hn t r
theorem jW(op:CmpOp)(hu:X.A.units+100<cLine):OpR X (compareOp op) (rC2 X.K (bx op)):=by
 intro p9 s Y H x y v u Q I rx ry h;let(F,G,a,b,r,ra,rb,h):=h;have J:=qO r ra;have O:=qO r rb;generalize view G a=va at h J;generalize view G b=vb at h O;have fin:∀c:Bool,PV X.K H F Q (.bl c) G->EP X p9 Y Q (.bool c) s:=λc q=>(.bl c,H,I,rfl,q.now r rfl);have hin:∀(l:AS){vs:AR}{us:AB},inG va l->Reps X.K H (FA F G) l vs->Vals vs us->∃e:AN->Bool,(∀z∈us.toArray,SeqAt.EqAt X.A.in1 s z v (e z))/\us.toArray.any e=isIn va l:=λl {vs us} hh t rv=>by
  let(e,he,U):=Zv I (A:=X.A.in1) (by change X.A.units+1+64<cLine;lia) hh.1 J rx hh.2.1 hh.2.2 t rv;exact(e,λw hw=>he w (!!hw),!!U)
 have ii:∀{i j:Int},Rep X.K H (FA F G) (.int i) x->Rep X.K H (FA F G) (.int j) y->∃t t',v=.int i t/\u=.int j t':=λe1 e2=>by
  cases(show x=.int _ from e1);cases(show y=.int _ from e2);let(t,e):=rx;let(t',e'):=ry;exact(t,t',e,e')
 have ss:∀{i j:AA},Rep X.K H (FA F G) (.str i) x->Rep X.K H (FA F G) (.str j) y->∃t t',v=.str (tx i) t/\u=.str (tx j) t':=λe1 e2=>by
  cases e1.1;cases e2.1;let(t,e):=rx;let(t',e'):=ry;exact(t,t',e,e')
 have hnon:eV va=decide (x=.non):=by
  cases va with
  |non=>cases(show x=.non from J);rfl
  |bl _=>cases(show x=.bl _ from J);rfl
  |int _=>cases(show x=.int _ from J);rfl
  |str _=>cases J.1;rfl
  |tup _=>let(_,_,e1,_):=J;cases e1;rfl
  |lst _=>let(_,_,e1,_):=J;cases e1;rfl
  |ref _=>cases(show x=.ref _ from J);rfl
  |scr _=>let(_,e1,_):=J;cases e1;rfl
  |exn _=>let(_,_,e1,_):=J;cases e1;rfl
  |exa _ _ _=>let(_,_,_,_,_,_,_,e1,_):=J;cases e1;rfl
  |obj _ _ _=>let(_,_,_,e1,_):=J;cases e1;rfl
 cases op with
 |Eq=>exact(yH I 60 X.A _ _ x y v u (!0) h.1.2.2 h.1.1 h.1.2.1 J O rx ry).1 _ _ _ _ (fin _ h.2)
 |NotEq=>exact(yH I 60 X.A _ _ x y v u (!0) h.1.2.2 h.1.1 h.1.2.1 J O rx ry).2.2 _ _ _ _ (fin _ h.2)
 |Lt=>
  have h:jL va vb (λc=>PV X.K H F Q (.bl c) G):=h;unfold jL at h;split at h
  .let(t,t',e,e'):=ii J O;subst e e';exact lt_int (fin _ h)
  .let(t,t',e,e'):=ss J O;subst e e';exact lt_str (fin _ h)
  .exact h.elim
 |LtE=>
  have h:jM va vb (λc=>PV X.K H F Q (.bl c) G):=h;unfold jM at h;split at h
  .let(t,t',e,e'):=ii J O;subst e e';exact le_int (fin _ h)
  .let(t,t',e,e'):=ss J O;subst e e';exact PySem.P.le_str (fin _ h)
  .exact h.elim
 |Gt=>
  have h:jN va vb (λc=>PV X.K H F Q (.bl c) G):=h;unfold jN at h;split at h
  .let(t,t',e,e'):=ii J O;subst e e';exact gt_int (fin _ h)
  .exact h.elim
 |GtE=>
  have h:jO va vb (λc=>PV X.K H F Q (.bl c) G):=h;unfold jO at h;split at h
  .let(t,t',e,e'):=ii J O;subst e e';exact ge_int (fin _ h)
  .exact h.elim
 |Is=>
  have h:jP va vb (λc=>PV X.K H F Q (.bl c) G):=h;unfold jP at h;split at h
  .cases (show y=.non from O);exact U5 p9 s Y H _ _ v u Q I rx ry (rfl,by rw[<-hnon];exact h.now r rfl)
  .split at h
   .cases (show x=.bl _ from J);cases(show y=.bl _ from O);exact WK p9 s Y H _ _ v u Q I rx ry (_,_,rfl,rfl,h.now r rfl)
   .exact h.elim
  .exact h.elim
 |IsNot=>
  have h:jQ va vb (λc=>PV X.K H F Q (.bl c) G):=h;unfold jQ at h;split at h
  .cases (show y=.non from O);exact U6 p9 s Y H _ _ v u Q I rx ry (rfl,by rw[<-hnon];exact h.now r rfl)
  .split at h
   .cases (show x=.bl _ from J);cases(show y=.bl _ from O);exact WP p9 s Y H _ _ v u Q I rx ry (_,_,rfl,rfl,h.now r rfl)
   .exact h.elim
  .exact h.elim
 |In=>
  have h:gF va vb (λc=>PV X.K H F Q (.bl c) G):=h;unfold gF at h;split at h
  .split at h
   .let(t,t',e,e'):=ss J O;subst e e';exact in_str (by rw[Hv];exact fin _ h)
   .exact h.elim
  .let(p,vs,e2,q2,t):=O;cases e2;cases ry;let(its,rv,pl,hz):=I.list q2.sq;let(e,he,U):=hin _ h.1 t rv;exact SeqAt.in_listAt e pl.isList he (by rw[U];exact fin _ h.2)
  .let(p,vs,e2,q2,t):=O;cases e2;cases ry;let(its,rv,pl,hz):=I.tuple q2.sq;let(e,he,U):=hin _ h.1 t rv;exact SeqAt.in_tupleAt e pl he (by rw[U];exact fin _ h.2)
  .exact h.elim
 |NotIn=>
  have h:gF va vb (λc=>PV X.K H F Q (.bl (!c)) G):=h;unfold gF at h;split at h
  .split at h
   .let(t,t',e,e'):=ss J O;subst e e';exact notIn_str (by rw[Hv];exact fin _ h)
   .exact h.elim
  .let(p,vs,e2,q2,t):=O;cases e2;cases ry;let(its,rv,pl,hz):=I.list q2.sq;let(e,he,U):=hin _ h.1 t rv;exact SeqAt.notIn_listAt e pl.isList he (by rw[U];exact fin _ h.2)
  .let(p,vs,e2,q2,t):=O;cases e2;cases ry;let(its,rv,pl,hz):=I.tuple q2.sq;let(e,he,U):=hin _ h.1 t rv;exact SeqAt.notIn_tupleAt e pl he (by rw[U];exact fin _ h.2)
  .exact h.elim
end
section
variable {X:Cx}
def Zw(K:PF):R2:=λx y H Q=>∃F G a b,R K H F G/\Rep K H F a x/\Rep K H F b y/\dB (view G a) b (λd=>PV K H F Q d G)
def Hw{K:PF}{H:Hp}{F:FZ}{ds:AS}{vs:AR}{i:Int}{d:D}(t:Reps K H F ds vs)(h:atI ds i=-d):∃v,atI vs i=-v/\Rep K H F d v:=by
 unfold atI at h ⊢;rw[<-t⁻¹];cases e:ixN ds⁻¹ i with
 |none=>rw[e]at h;cases h
 |some j=>
  rw[e]at h;let(v,y,r):=t.get (show ds[j]?=-d from h);exact(v,y,r)
def Zx:IxR X (Zw X.K):=by
 intro J z p9 s Y H x y v u Q I rx ry h hs;let(F,G,a,b,r,ra,rb,h):=h;generalize ea:view G a=va at h;unfold dB at h;split at h
 .let(p,vs,e,q,t):=Rep.list r ra ea;subst e;have U:y=.int _:=rb;subst U;split at h
  .rename_i d hd;let(w,hw,O):=Hw t hd;exact V2 J z p9 s Y H _ _ v u Q I rx ry (p,vs,_,w,rfl,rfl,q,hw,h.now r O) hs
  .exact h.elim
 .cases iZ ea;let(p,vs,e,q,t):=ra;subst e;have U:y=.int _:=rb;subst U;split at h
  .rename_i d hd;let(w,hw,O):=Hw t hd;exact V3 J z p9 s Y H _ _ v u Q I rx ry (p,vs,_,w,rfl,rfl,q.sq,hw,h.now r O) hs
  .exact h.elim
 .cases ir ea;let(e,hl):=ra;subst e;have U:y=.int _:=rb;subst U;split at h
  .rename_i c hc;exact V4 J z p9 s Y H _ _ v u Q I rx ry (_,_,c,rfl,rfl,by rw[cz];exact eE hl,hc,h.now r (rfl,by change 1<=sz;decide)) hs
  .exact h.elim
 .exact h.elim
theorem Zy(l:AA)(lo hi:Option Int):Txt.slice (tx l) lo hi=tx (cut l lo hi):=by
 have e:Builtin.Str.strSliceIndices lo hi 1 (tx l)⁻¹=sliceRange (sliceBounds lo hi none (tx l)⁻¹).1 (sliceBounds lo hi none (tx l)⁻¹).2.1 1:=by unfold Builtin.Str.strSliceIndices sliceBounds;cases lo<;>cases hi<;>rfl
 let(h1,h2,Y):=DK lo hi (tx l)⁻¹;rw[h1,h2,sliceRange_one]at e;have z:((Builtin.Str.strSliceIndices lo hi 1 (tx l)⁻¹).filterMap ((tx l).cps[·]?))=cut l lo hi:=by rw[e,pick_run];unfold cut;rw[cz]
 unfold Txt.slice;split
 .rename_i hh;rw[ae]at hh;have hl:=eq_of_beq hh.2;rw[e,ah,jp,cz]at hl;have U:HT.sIx l⁻¹ l⁻¹ hi<=l⁻¹:=HT.Ds _ _ (ay _) hi;unfold cut;by_cases y:l=[]
  .subst y;simp
  .have hp:0<l⁻¹:=iN.mpr y;have J:HT.sIx l⁻¹ 0 lo=0:=by lia
   have O:HT.sIx l⁻¹ l⁻¹ hi=l⁻¹:=by lia
   rw[J,O];simp
 .rw[z]
theorem Zz{y:Type}(xs:List y)(lo hi:Option Int):(cut xs lo hi)⁻¹<=xs⁻¹:=by unfold cut;rw[bv,cq];lia
def ZC{prog:AK}{A:AM}{E:AG}{s:AI}{t Y:AQ}{vl vu:AN}{lo:Option Int}(y:IsTup s.heap t items)(hs:s.heap.IsSliceOf Y vl vu .none)(pl:IsPart vl lo)(pu:IsPart vu hi)(hw:HT.sIx items.size 0 lo=0/\HT.sIx items.size items.size hi=items.size)(h:Q (.ref t) s):wpAny (model prog w) A (getItem (.ref t) (.ref Y)) Q E s:=by
 let(os,U,O,hds):=id hs;have J:s.TypeIs (.ref Y) "slice":=(os,U,O);unfold getItem;try with_reducible show dE ?_
 first|show af (am ?_)|skip
 show af (wpAny_sequenceKey y.typeIs (!1) ?_);show af (gt (name:=⇑"__getitem__") y.typeIs gV
  (fv gV y.typeIs entry_tuple_getitem ?_ (args_tuple_getitem _ _)))
 change wpAny _ _ (Builtin.Tuple.tupleItemsOf (.ref t) >>= _) _ _ s;show af (tupleItemsOf_ y ?_);show af (wpAny_typeOf J ?_);rw[if_pos (!1)];show af (HT.Dv hs pl pu ?_);have z:(((HT.sIx items.size 0 lo:Nat):Int)==0&&(1:Int)==1&&(HT.sIx items.size items.size hi-HT.sIx items.size 0 lo)==items.size)=true:=by rw[hw.1,hw.2];simp
 change wpAny _ _ (if(((HT.sIx items.size 0 lo:Nat):Int)==0&&(1:Int)==1&&(HT.sIx items.size items.size hi-HT.sIx items.size 0 lo)==items.size)=true then _ else _) _ _ s;rw[if_pos z];show af (m:=Builtin.Tuple.tupleIsExact _) (af (wpAny_typeOf y.typeIs (am ?_)));rw[if_pos (!1)];exact af (eS (am (_,rfl,am h)))
def ZD:SlR X (λx lo hi H Q=>∃a xs,x=.ref a/\SqT X.K H a xs/\(HT.sIx xs⁻¹ 0 lo=0/\HT.sIx xs⁻¹ xs⁻¹ hi=xs⁻¹)/\Q (.ref a) H):=by
 intro p9 s Y H x v vl vu lo hi sl Q I rx hs pl U h;let(a,xs,rfl,O,hw,q):=h;cases rx;let(z,r,J,hz):=I.tuple O;have y:z.toArray.size=xs⁻¹:=by rw[a8];exact r.length.symm
 exact("tuple",_,gV.lookup,J.typeIs,ZC J hs pl U (by rw[y];exact hw) (.ref a,H,I,rfl,q))
def Hx{K:PF}{H:Hp}{F:FZ}:∀ns:List Int,Reps K H F (ns.map D.int) (ns.map V.int)
 |[]=>rfl
 |n::ns=>(_,_,rfl,rfl,Hx ns)
def ZF(K:PF)(fz:Bool):V->Option Int->Option Int->Hp->VK->Prop:=λx lo hi H Q=>∃F G a,R K H F G/\Rep K H F a x/\eX fz (view G a) lo hi G (PV K H F Q)
def Hy{K:PF}{H:Hp}{F:FZ}{ds:AS}{vs:AR}(t:Reps K H F ds vs)(lo hi:Option Int):Reps K H F (cut ds lo hi) (eN vs lo hi):=t.cut lo hi
def ZG(fz:Bool):SlR X (ZF X.K fz):=by
 intro p9 s Y H x v vl vu lo hi U Q I O hs pl z h;let(F,G,a,r,J,h):=h;generalize y:view G a=va at h;unfold eX at h;split at h
 .let(p,vs,e,q,t):=Rep.list r J y;subst e;exact DN p9 s Y H _ v vl vu lo hi U Q I O hs pl z (p,vs,rfl,q,gM h r (Hy t lo hi))
 .rename_i ns;have ea':a=.scr ns:=by
   cases a with
   |ref p=>
    unfold view at y;cases g:G p with
    |none=>simp only[g]at y;cases y
    |some o=>cases o;simp only[g]at y;cases y
   |_=>exact y
  subst ea';let(p,e,q):=J;subst e;show DN p9 s Y H _ v vl vu lo hi U Q I O hs pl z (p,_,rfl,q.sq,gM h r ?_);have e2:eN (ns.map V.int) lo hi=(cut ns lo hi).map V.int:=by unfold eN cut;rw[ah,List.map_take,List.map_drop]
  rw[e2];exact Hx (cut ns lo hi)
 .cases iZ y;let(p,vs,e,q,t):=id J;subst e;by_cases hw:HT.sIx vs⁻¹ 0 lo=0/\HT.sIx vs⁻¹ vs⁻¹ hi=vs⁻¹
  .show ZD p9 s Y H _ v vl vu lo hi U Q I O hs pl z (p,vs,rfl,q.sq,hw,?_);show h.now r ?_;rename_i ds;have:cut ds lo hi=ds:=by
    unfold cut;rw[t⁻¹,hw.1,hw.2];simp[<-t⁻¹]
   rw[this];exact J
  .exact VM p9 s Y H _ v vl vu lo hi U Q I O hs pl z (p,vs,rfl,q.sq,hw,qK h r (Hy t lo hi))
 .cases ir y;let(e,hl):=J;subst e;show WN p9 s Y H _ v vl vu lo hi U Q I O hs pl z (_,rfl,by rw[cz];exact eE hl,?_);rw[Zy];exact h.now r (rfl,cb (Zz _ _ _) hl)
 .exact h.elim
theorem Hz{K:PF}{H:Hp}{F:FZ}{G:DH}{d:D}{v:V}{b:Bool}(r:R K H F G)(h:Rep K H F d v)(e:truth (view G d)=-b):pL K v H b:=by
 have h':=qO r h;generalize view G d=w at e h';cases w with
 |non=>have y:v=.non:=h';subst y;simp only[truth,bo]at e;exact e.symm
 |bl x=>have y:v=.bl x:=h';subst y;simp only[truth,bo]at e;exact e.symm
 |int i=>have y:v=.int i:=h';subst y;simp only[truth,bo]at e;exact e.symm
 |str l=>
  let(y,hl):=h';subst y;simp only[truth,bo]at e;show(by rw[cz];exact eE hl,?_);rw[cz,<-e];cases l with
  |nil=>rfl
  |cons c l=>simp;lia
 |tup l=>
  let(a,vs,y,q,t):=h';subst y;simp only[truth,bo]at e;show .inr (.inl (vs,q.sq,?_));rw[<-e];cases l with
  |nil=>have t:vs=[]:=t;subst t;rfl
  |cons c l=>let(_,_,z,_):=t;subst z;rfl
 |lst l=>
  let(a,vs,y,q,t):=h';subst y;simp only[truth,bo]at e;show .inl (vs,q.sq,?_);rw[<-e];cases l with
  |nil=>have t:vs=[]:=t;subst t;rfl
  |cons c l=>let(_,_,z,_):=t;subst z;rfl
 |ref a=>simp[truth]at e
 |scr a=>simp[truth]at e
 |exn a=>simp[truth]at e
 |exa _ _ _=>simp[truth]at e
 |obj _ _ _=>simp[truth]at e
def qP{K:PF}{H:Hp}{F:FZ}:∀{ds:AS}{vs:AR}{bs:List Bool},bools ds=-bs->Reps K H F ds vs->vs=bs.map V.bl
 |[],_,bs,e,h=>by
  simp only[bools,bo]at e;subst e;exact h
 |d::ds,_,bs,e,(v,w,e1,h,t)=>by
  cases d with
  |bl b=>
   simp only[bools]at e;cases q:bools ds with
   |none=>rw[q]at e;cases e
   |some s=>
    rw[q]at e;cases e;have y:v=.bl b:=h;rw[e1,y,qP q t];rfl
  |_=>simp[bools]at e
def b8{K:PF}{H:Hp}{F:FZ}{d:D}{vs:AR}(t:Reps K H F [d] vs):∃v,vs=[v]/\Rep K H F d v:=by let(v,r,e,h,t):=t;have t:r=[]:=t;subst t;exact(v,e,h)
def jg(K:PF)(f:Bf):AR->Hp->VK->Prop:=λvs H Q=>∃F G ds,R K H F G/\Reps K H F ds vs/\opB f (ds.map (view G)) (λd=>PV K H F Q d G)
def map_one{G:DH}{ds:AS}{x:D}(h:ds.map (view G)=[x]):∃d,ds=[d]/\view G d=x:=by
 match ds,h with
 |[d],h=>exact(d,rfl,!!h)
def ZJ:bM X (.builtin "len") (jg X.K .len):=by
 intro p9 s Y H xs us Q I rs h;let(F,G,ds,r,t,h):=h;generalize J:ds.map (view G)=va at h;simp only[opB,wN]at h;split at h
 .let(d,rfl,y):=map_one J;let(v,rfl,z):=b8 t;let(a,vs,e,q,t'):=Rep.list r z y;subst e;exact DP p9 s Y H _ us Q I rs (a,vs,rfl,.inl q,by rw[<-t'⁻¹];exact h.now r rfl)
 .let(d,rfl,y):=map_one J;let(v,rfl,z):=b8 t;cases iZ y;let(a,vs,e,q,t'):=z;subst e;exact DP p9 s Y H _ us Q I rs (a,vs,rfl,.inr q.sq,by rw[<-t'⁻¹];exact h.now r rfl)
 .let(d,rfl,y):=map_one J;let(v,rfl,z):=b8 t;cases ir y;let(e,hl):=z;subst e;exact V9 p9 s Y H _ us Q I rs (_,rfl,by rw[cz];exact eE hl,by rw[cz];exact h.now r rfl)
 .exact h.elim
def ZK(hc:X.calm):bM X (.builtin "all") (jg X.K .all):=by
 intro p9 s Y H xs us Q I rs h;let(F,G,ds,r,t,h):=h;generalize z:ds.map (view G)=va at h;simp only[opB,qg]at h;split at h
 .let(d,rfl,J):=map_one z;let(v,rfl,U):=b8 t;let(a,vs,e,q,t'):=Rep.list r U J;subst e;split at h
  .rename_i bs O;have y:=qP O t';subst y;exact WF hc p9 s Y H _ us Q I rs (a,bs,rfl,q,h.now r rfl)
  .exact h.elim
 .exact h.elim
def ZL:bM X (.type "int") (jg X.K .int):=by
 intro p9 s Y H xs us Q I rs h;let(F,G,ds,r,t,h):=h;generalize J:ds.map (view G)=va at h;simp only[opB,qi]at h;split at h
 .let(d,rfl,y):=map_one J;let(v,rfl,z):=b8 t;cases Zc y;have e:v=.bl _:=z;subst e;exact Dh p9 s Y H _ us Q I rs (.inr (_,rfl,h.now r rfl))
 .let(d,rfl,y):=map_one J;let(v,rfl,z):=b8 t;cases gD y;have e:v=.int _:=z;subst e;exact Dh p9 s Y H _ us Q I rs (.inl (_,rfl,h.now r rfl))
 .let(d,rfl,y):=map_one J;let(v,rfl,z):=b8 t;cases ir y;let(e,hl):=z;subst e;split at h
  .rename_i n hn;exact WL p9 s Y H _ us Q I rs (_,n,rfl,hn,by rw[cz];exact h.1,h.2.now r rfl)
  .exact h.elim
 .exact h.elim
def ZM:bM X (.type "tuple") (jg X.K .tuple):=by
 intro p9 s Y H xs us Q I rs h;let(F,G,ds,r,t,h):=h;generalize J:ds.map (view G)=va at h;simp only[opB,wO]at h;split at h
 .let(d,rfl,z):=map_one J;let(v,rfl,y):=b8 t;let(a,vs,e,q,t'):=Rep.list r y z;subst e;exact DR p9 s Y H _ us Q I rs (a,vs,rfl,.inl (q,qK h r t'))
 .let(d,rfl,z):=map_one J;let(v,rfl,y):=b8 t;cases iZ z;let(a,vs,e,q,t'):=id y;subst e;exact DR p9 s Y H _ us Q I rs (a,vs,rfl,.inr (q.sq,h.now r y))
 .exact h.elim
def HB(K:PF)(fz:Bool)(f:Lf):AR->Hp->VK->Prop:=λvs H Q=>∃F G ds,R K H F G/\Reps K H F ds vs/\dj f (ds.map (view G)) (λxs=>mk fz xs G (PV K H F Q))
def ZP(l:AA):∀(us:AB),us⁻¹=l⁻¹->(∀(j:Nat)(v:AN),us[j]?=-v->∃(c:Nat)(u:Tok),l[j]?=-c/\v=Value.str ⟨#[c]⟩ u)->Vals (l.map λc=>V.str (tx [c])) us:=by
 induction l with
 |nil=>intro us h _;cases us with|nil=>exact .nil|cons _ _=>cases h
 |cons c l U=>
  intro us h q;cases us with
  |nil=>cases h
  |cons u us=>
   let(z,t,y,J):=q 0 u (!2);have y:c=z:=by simpa using y
   subst y;exact .cons (t,J) (U us (!!h) λj v O=>by simpa using q (j+1) v (!!O))
def ZQ(hc:X.calm):bM X (.type "list") (λxs H Q=>∃l:AA,xs=[.str (tx l)]/\l⁻¹<=sizeLine/\∀p,H p=none->Q (.ref p) (upd H p (.lst (l.map λc=>V.str (tx [c]))))):=by
 intro p9 s Y H xs us Q I r h;let(l,rfl,O,q):=h;let(u,rfl,t,rfl):=vals1 r;have J:(tx l).cps.size<=sizeLine:=by simpa using O
 show call_list_str (hn:=J) (I.ok.hd hc) (tx l) t λh' tk y U kp e hi=>?_;have z:Vals (l.map λc=>V.str (tx [c])) y.toList:=by
  show ZP l _ ?_ λj v z=>?_
  .rw[bq,hi.1];simp
  .let(c,u,e1,e2):=hi.2 j v (by rw[<-gy];exact z);exact(c,u,!!e1,e2)
 exact(.ref (~~~s),_,I.laid (t':=tk) kp (ay _) (show ObjOk X.prog X.w _ h' _ (.lst _) from(by rw[ah];exact O,y.toList,U,z,by rw[Array.toArray_toList];exact e)),rfl,q _ (I.hok.fresh (ay _)))
def yI{K:PF}{H:Hp}{F:FZ}:∀l:AA,Reps K H F (l.map λc=>D.str [c]) (l.map λc=>V.str (tx [c]))
 |[]=>rfl
 |c::l=>(_,_,rfl,(rfl,by change 1<=sz;decide),yI l)
def ZR(hc:X.calm)(fz:Bool):bM X (.type "list") (HB X.K fz .list):=by
 intro p9 s Y H xs us Q I rs h;let(F,G,ds,r,t,h):=h;generalize J:ds.map (view G)=va at h;simp only[dj,wU]at h;split at h
 .let(d,rfl,y):=map_one J;let(v,rfl,z):=b8 t;let(a,vs,e,q,t'):=Rep.list r z y;subst e;exact DQ p9 s Y H _ us Q I rs (a,vs,rfl,.inl q,gM h r t')
 .let(d,rfl,y):=map_one J;let(v,rfl,z):=b8 t;cases iZ y;let(a,vs,e,q,t'):=id z;subst e;exact DQ p9 s Y H _ us Q I rs (a,vs,rfl,.inr q.sq,gM h r t')
 .let(d,rfl,y):=map_one J;let(v,rfl,z):=b8 t;cases ir y;let(e,hl):=z;subst e;exact ZQ hc p9 s Y H _ us Q I rs (_,rfl,eE hl,gM h r (yI _))
 .exact h.elim
def qQ{K:PF}{H:Hp}{F:FZ}:∀{ds:AS}{vs:AR}{y:List (AA)},bj ds=-y->Reps K H F ds vs->vs=(y.map tx).map V.str
 |[],_,bs,e,h=>by
  simp only[bj,bo]at e;subst e;exact h
 |d::ds,_,bs,e,(v,w,e1,h,t)=>by
  cases d with
  |str b=>
   simp only[bj]at e;cases q:bj ds with
   |none=>rw[q]at e;cases e
   |some s=>
    rw[q]at e;cases e;let(z,_):=h;rw[e1,z,qQ q t];rfl
  |_=>simp[bj]at e
def HF{K:PF}{H:Hp}{F:FZ}:∀{ds:AS}{vs:AR}{ns:List Int},cT ds=-ns->Reps K H F ds vs->vs=ns.map V.int
 |[],vs,ns,e,t=>by
  simp only[cT,bo]at e;subst e;have t:vs=[]:=t;rw[t];rfl
 |d::ds,vs,ns,e,t=>by
  let(v,r,y,h,t):=t;cases d with
  |int b=>
   simp only[cT]at e;cases q:cT ds with
   |none=>rw[q]at e;cases e
   |some s=>
    rw[q]at e;cases e;have z:v=.int b:=h;rw[y,z,HF q t];rfl
  |_=>simp[cT]at e
def HH:∀{ns:List Int}{y:AB},Vals (ns.map V.int) y->IntsAre y ns
 |[],y,h=>by cases h;exact .nil
 |n::ns,y,h=>by
  cases h with
  |cons a b=>
   let(t,rfl):=a;exact .cons n t (HH b)
def ZS:bootBuiltins "sorted"=-(.builtin "sorted"):=by ac_rfl
def yJ:∀{z:List (AA)}{y:AB},Vals ((z.map tx).map V.str) y->StrsAre y (z.map tx)
 |[],y,h=>by cases h;exact .nil
 |n::ns,y,h=>by
  cases h with
  |cons a b=>
   let(t,rfl):=a;exact .cons _ t (yJ b)
def HJ:∀{ss:AD}{z:AB},StrsAre z ss->Vals (ss.map V.str) z
 |_,_,.nil=>.nil
 |_,_,.cons y t h=>.cons (t,rfl) (HJ h)
def ZV{ss:AD}(h:ss.Perm (ls.map tx)):∃y:List (AA),ss=y.map tx/\y.Perm ls:=by
 show(ss.map λs=>s.cps.toList,?_,?_)
 .rw[eP];show(List.map_id ss).symm.trans (gX λs z=>?_);change s=tx s.cps.toList;exact lF s
 .have:=h.map λs=>s.cps.toList;rw[eP]at this;have e:(λs:Str=>s.cps.toList)∘tx=id:=by funext l;rfl
  rw[e,List.map_id]at this;exact this
def txe{a b:AA}(h:tx a=tx b):a=b:=fT (λs:Str=>s.cps.toList) h
def ZW(ks:List (AA))(k:AA):putK (ks.map tx) (tx k)=(putN ks k).map tx:=by
 unfold putK putN;by_cases h:k∈ks
 .rw[if_pos h,if_pos (List.mem_map_of_mem h)]
 .rw[if_neg h,if_neg (λz=>by let(y,J,e):=bX.mp z;exact h (txe e ▸ J)),c9];rfl
def mD(X:Cx)(l:AQ)(ks:List (AA)):HO:=.ext λh=>SetL X.prog X.w h l (ks.map tx) (!cH X.w)
def HN:∀(J ks:List (AA))(y:AA),y∈J.foldl putN ks->y∈ks\/y∈J
 |[],ks,y,h=>.inl h
 |x::J,ks,y,h=>by
  rcases HN J (putN ks x) y h with z|z
  .unfold putN at z;split at z
   .exact .inl z
   .rcases bp.mp z with z|z
    .exact .inl z
    .exact .inr (by rw[ba.mp z];exact aT)
  .exact .inr (bP _ z)
def yK(J:List (AA)){y:AA}(h:y∈cA J):y∈J:=by
 rcases HN J [] y h with z|z
 .cases z
 .exact z
def ZX(y:List (AA)):met (λi=>tx (y.getD i [])) y⁻¹=(cA y).map tx:=by
 have go:∀n,n<=y⁻¹->met (λi=>tx (y.getD i [])) n=(cA (y.take n)).map tx:=by
  intro n;induction n with
  |zero=>intro _;rfl
  |succ n J=>
   intro hn;have z:n<y⁻¹:=hn;rw[wD,J (Nat.le_of_succ_le hn),ZW,List.take_succ_eq_append_getElem z];unfold cA;rw[List.foldl_append];change _=(putN _ y[n]).map tx;rw[dn,aI z];rfl
 have:=go y⁻¹ (ay _);rw[fo]at this;exact this
theorem ZZ(hc:X.calm):bM X (.type "set") (λxs H Q=>∃(p:AQ) (J:List (AA)),xs=[.ref p]/\SqL X.K H p ((J.map tx).map V.str)/\J⁻¹<=1000/\∀l,H l=none->Q (.ref l) (upd H l (mD X l (cA J)))):=by
 intro p9 s Y H xs us Q I r h;let(p,J,rfl,hq,hz,q):=h;let(u,rfl,ru):=vals1 r;cases ru;let(y,rv,pl,_):=I.list hq;have U:y⁻¹=J⁻¹:=by rw[<-rv⁻¹];simp
 have hsa:=yJ rv;show Yw (val:=λi=>tx (J.getD i [])) (I.ok.hd hc) pl.isList (λi v e=>?_) (by rw[a8];unfold scanBound;lia) λh' tk hS hk=>?_
 .have hi:i<y⁻¹:=by
   rcases iE i y⁻¹ with z|z
   .exact z
   .rw[ib,eD z]at e;cases e
  have e2:y[i]?=-v:=by rw[ib]at e;exact e
  let(x,t,rfl):=hsa.all v (bg e2);have e3:=fT (·[i]?) hsa.strs;simp only[aS,e2]at e3;rw[aI (!0)]at e3;show(t,?_);rw[dn,aI (!0)];have e4:x=tx (J[i]'(!0)):=cy e3;rw[e4];rfl
 .have ez:y.toArray.size=J⁻¹:=by rw[a8];exact U
  rw[ez,ZX]at hS;let(es,ep,t,ho,rest):=hS;show(.ref (~~~s),_,I.laid (t':=tk) (λb o e=>hk b o (aE e) e) (ay _) (show ObjOk X.prog X.w _ _ _ (mD X (~~~s) (cA J)) from((es,ep,t,ho,rest),(_,ho),λh1 h2 z k=>?_)),rfl,q _ (I.hok.fresh (ay _)));let(es1,ep1,t1,ho1,O):=z;exact(es1,ep1,t1,k _ ho1,O)
def Z0{p9:AC}{Y:L2.St}{H:Hp}{s:AI}{d:Drawn}(I:L2.Inv X p9 Y H s):L2.Inv X p9 Y H {s with drawn:=d}:=by cases I;constructor<;>assumption
def Z1(hc:X.calm):bM X (.builtin "sorted") (λxs H Q=>∃(p:AQ) (ks:List (AA)),xs=[.ref p]/\H p=-(mD X p ks)/\ks⁻¹<=64/\∀y:List (AA),y.Perm ks->∀l,H l=none->Q (.ref l) (upd H l (.lst ((y.map tx).map V.str)))):=by
 intro p9 s Y H xs us Q I r h;let(p,ks,rfl,hq,z,q):=h;let(u,rfl,ru):=vals1 r;cases ru;have hS:=(show ObjOk X.prog X.w H s.heap p (mD X p ks) from I.hok p _ hq).1;show Y7 (I.ok.hd hc) hS (by rw[ah];exact z) λh1 h' d tk e out ss' U a2 x k1 k2 htk he=>?_;let(y,rfl,O):=ZV a2;have hsz:((y.map tx).map V.str)⁻¹<=sizeLine:=by rw[ah,ah,O.length_eq];exact cb z (!1)
 have J:Inv X p9 Y H {s with heap:=h1,drawn:=d,toks:=tk}:=Z0 (I.kept (t':=tk) k1);exact(.ref h1.objs.size,_,J.laid k2 (ay _) (show ObjOk X.prog X.w _ _ _ (.lst ((y.map tx).map V.str)) from(hsz,out.toList,e,HJ U,by rw[Array.toArray_toList];exact he)),rfl,q y O _ (J.hok.fresh (ay _)))
def HQ{K:PF}{H:Hp}{F:FZ}:∀{y:List (AA)},(∀l∈y,l⁻¹<=sz)->Reps K H F (y.map D.str) ((y.map tx).map V.str)
 |[],_=>rfl
 |l::y,h=>(_,_,rfl,(rfl,h l aT),HQ λx z=>h x (bP _ z))
def yL{K:PF}{H:Hp}{F:FZ}:∀{ds:AS}{vs:AR}{y:List (AA)},bj ds=-y->Reps K H F ds vs->∀l∈y,l⁻¹<=sz
 |[],vs,y,e,t=>by simp only[bj,bo]at e;subst e;intro l hl;cases hl
 |d::ds,vs,y,e,t=>by
  let(v,r,z,h,t):=t;cases d with
  |str b=>
   simp only[bj]at e;cases q:bj ds with
   |none=>rw[q]at e;cases e
   |some s=>
    rw[q]at e;cases e;intro l hl;rcases bb.mp hl with e|hl
    .rw[e];exact h.2
    .exact yL q t l hl
  |_=>simp[bj]at e
theorem HR(val:Nat->AA):∀k,argBest (λi j=>decide (val i<val j)) k<=k/\∀j,j<=k->¬val j<val (argBest (λi j=>decide (val i<val j)) k)
 |0=>(ay _,λj J=>by
  have:j=0:=by lia
  subst this;exact List.lt_irrefl _)
 |k+1=>by
  let(h1,h2):=HR val k;simp only[argBest];by_cases hc:val (k+1)<val (argBest (λi j=>decide (val i<val j)) k)
  .rw[if_pos (!!hc)];show(ay _,λj J=>?_);rcases iE j (k+1) with z|y
   .exact λh=>h2 j (!0) (List.lt_trans h hc)
   .have:j=k+1:=by lia
    subst this;exact List.lt_irrefl _
  .rw[if_neg (!!hc)];show(!0,λj J=>?_);rcases iE j (k+1) with z|y
   .exact h2 j (!0)
   .have:j=k+1:=by lia
    subst this;exact hc
section
variable {prog:AK} {w:World} {A:AM} {E:AG} {s:AI} {l:AQ}
def qR:∀{z:AB}{J:List (AA)}{i:Nat}{v:AN},StrsAre z (J.map tx)->z[i]?=-v->∃t,v=.str (tx (J.getD i [])) t
 |[],J,i,v,_,h=>by simp at h
 |x::z,[],i,v,hs,h=>by cases hs
 |x::z,a::J,0,v,hs,h=>by
  cases hs with
  |cons y t q=>exact(t,!!h.symm)
 |x::z,a::J,i+1,v,hs,h=>by
  cases hs with
  |cons y t q=>
   have:=qR (i:=i) (v:=v) q (!!h);simpa using this
theorem Z2{Q:AG}{y:AB}{z:List (AA)}(hh:A.handled=none)(hl:s.heap.IsList l y.toArray)(hs:StrsAre y (z.map tx))(hn:y⁻¹=z⁻¹)(Y:0<z⁻¹)
  (h:∀(m:AA)(t:Tok)(h':Heap)(tk:Nat),m∈z->(∀a,a∈z->¬a<m)->(∀b o,s.heap.get? b=-o->h'.get? b=-o)->Q (.str (tx m) t) {s with heap:=h',toks:=tk}):
  wpAny (model prog w) A (call (.builtin "min") [.ref l]) Q E s:=by
 have O:l<(~~~s):=by let(_,e,_):=hl;exact aE e
 show call_min_walk (ki hl ?_);show(_,_,_,_,_,_,λi j=>decide (z.getD i []<z.getD j []),rfl,Walks.list (A:=A.in1) hh _ l (ci O) y.toArray,((_,bd _ rfl,rfl,rfl),hl.push _),?_,?_,?_,?_)
 .intro b J;change b<(s.heap.push _).objs.size;rw[cK];rcases bb.mp J with rfl|J
  .exact gu _
  .rcases bb.mp J with rfl|J
   .exact eI O
   .cases J
 .simpa [hn] using Y
 .intro i j vi vj s Q E hi U h;let(t,rfl):=qR hs (!!hi);let(u,rfl):=qR hs (!!U);exact richCompare_gives (op:=.Lt) (typeIs_str s _ t) (typeIs_str s _ u) F.slot_str_lt F.entry_str_lt (F.args_str_lt_2 _ _) (gives_str_lt _ _ t u) (λe=>nomatch e) h
 .intro v h' tk hP hk;let(t,rfl):=qR hs (show y[_]?=-v by rw[<-ib];exact hP);let(b1,b2):=HR (λi=>z.getD i []) (y.toArray.size-1);have hsz:y.toArray.size=z⁻¹:=by simpa using hn
  show h _ t h' tk ?_ (λa ha=>?_) (old_kept hk)
  .rw[dn,aI (!0)];exact fq _
  .let(j,U,rfl):=List.getElem_of_mem ha;have:=b2 j (!0);rwa [show z.getD j []=z[j] by rw[dn,aI U];rfl]at this
end
theorem Z3(hc:X.calm):bM X (.builtin "min") (λxs H Q=>∃(p:AQ) (ns:List Int),xs=[.ref p]/\SqL X.K H p (ns.map V.int)/\ns≠[]/\∀m,m∈ns->(∀a,a∈ns->m<=a)->Q (.int m) H):=by
 intro p9 s Y H xs us Q I r h;let(p,ns,rfl,hq,z,q):=h;let(u,rfl,ru):=vals1 r;cases ru;let(its,rv,pl,hz):=I.list hq;have hi:=HH rv;let(xs,ex):=hi.allInts.items;have hl:=pl.isList;rw[ex]at hl;have y:xs.toList.map (·.1)=ns:=by rw[<-PySem.nums_intItems,<-ex];exact hi.numsOf
 have hsz:0<xs.size:=by have:=iN.mpr z;rw[<-y,ah,bq]at this;exact this
 show PySem.min_intList (I.ok.hd hc) hl hsz λv h' tk hv hk=>?_;let(t,rfl):=PySem.intItems_at hv;let(b1,O):=PySem.argBest_lt (PySem.numAt xs) (xs.size-1);show(.int _,H,I.kept hk,(t,rfl),q _ ?_ λa J=>?_)
 .rw[<-y,PySem.numAt_eq];exact PySem.getD_mem (by rw[ah,bq];lia)
 .rw[<-y]at J;let(j,U,rfl):=PySem.mem_getD J;rw[ah,bq]at U;rw[<-PySem.numAt_eq];exact O j (!0)
def Z4(hc:X.calm):bM X (.builtin "min") (λxs H Q=>∃(p:AQ) (y:List (AA)),xs=[.ref p]/\SqL X.K H p ((y.map tx).map V.str)/\y≠[]/\∀m,m∈y->(∀a,a∈y->¬a<m)->Q (.str (tx m)) H):=by
 intro p9 s Y H xs us Q I r h;let(p,y,rfl,hq,J,q):=h;let(u,rfl,ru):=vals1 r;cases ru;let(O,U,pl,hz):=I.list hq;have z:O⁻¹=y⁻¹:=by rw[<-U⁻¹];simp
 show Z2 (I.ok.hd hc) pl.isList (yJ U) z (iN.mpr J) λm t h' tk h1 h2 hk=>?_;exact(.str (tx m),H,I.kept hk,(t,rfl),q m h1 h2)
def Z5{ds:AS}(h0:cT ds=none)(h1:bj ds=-ls):ls≠[]:=by
 rintro rfl;cases ds with
 |nil=>simp[cT]at h0
 |cons x y=>cases x<;>simp only[bj]at h1<;>first | (cases h1;done) | (cases hd:bj y<;>rw[hd]at h1<;>cases h1)
def Z6(hc:X.calm):bM X (.builtin "min") (jg X.K .min):=by
 intro p9 s Y H xs us Q I rs h;let(F,G,ds,r,t,h):=h;generalize J:ds.map (view G)=va at h;simp only[opB,lV]at h;split at h
 .let(d,rfl,O):=map_one J;let(v,rfl,rv):=b8 t;let(a,vs,e,q,t'):=Rep.list r rv O;subst e;split at h
  .rename_i ns y;have z:=HF y t';subst z;exact Z3 hc p9 s Y H _ us Q I rs (a,ns,rfl,q,h.1,λm h1 h2=>(h.2 m h1 h2).now r rfl)
  .split at h
   .rename_i U _ ls y;have z:=qQ y t';have hsz:=yL y t';subst z;show Z4 hc p9 s Y H _ us Q I rs (a,ls,rfl,q,?_,λm h1 h2=>(h m h1 h2).now r (rfl,hsz m h1));exact Z5 (by assumption) y
   .exact h.elim
 .exact h.elim
def Z7:bootBuiltins "min"=-(.builtin "min"):=by ac_rfl
theorem Z8:bM X (.type "str") (jg X.K .str):=by
 intro p9 s Y H xs us Q I r h;let(F,G,ds,rr,t,h):=h;generalize J:ds.map (view G)=va at h;simp only[opB,wR]at h;split at h
 .rename_i i;let(d',rfl,O):=map_one J;let(v',rfl,rv):=b8 t;have y:=gD O;subst y;have z:v'=.int i:=rv;subst z;let((h0,h1),h2):=h;have U:(i.toNat:Int)=i:=Int.toNat_of_nonneg h0;have hl:(fU i.toNat)⁻¹<=3:=by
   have:=digits_le (i.toNat,!0);unfold fU;rw[bq];exact this
  have hs:=h2.now rr (v:=.str (tx (fU i.toNat))) (rfl,by have hz:sz=1000000:=rfl;lia);have ht:tx (fU i.toNat)=ig i.toNat:=(lF _).symm;rw[ht]at hs;exact XC p9 s Y H _ us Q I r (i.toNat,by rw[U],!0,hs)
 .exact h.elim
def dU:D->Option AL
 |.non=>some "NoneType"
 |.bl _=>some "bool"
 |.int _=>some "int"
 |.str _=>some "str"
 |.tup _=>some "tuple"
 |.lst _=>some "list"
 |_=>none
def Z9{K:PF}{H:Hp}{F:FZ}{G:DH}{d:D}{v:V}{T:AL}(r:R K H F G)(h:Rep K H F d v)(e:dU (view G d)=-T):TyOf K H v (.type T):=by
 have h':=qO r h;generalize view G d=w at e h';cases w with
 |non=>have y:v=.non:=h';subst y;simp only[dU,bo]at e;subst e;exact .non
 |bl x=>have y:v=.bl x:=h';subst y;simp only[dU,bo]at e;subst e;exact .bl x
 |int i=>have y:v=.int i:=h';subst y;simp only[dU,bo]at e;subst e;exact .int i
 |str l=>let(y,hl):=h';subst y;simp only[dU,bo]at e;subst e;exact .str _
 |tup l=>let(a,vs,y,q,t):=h';subst y;simp only[dU,bo]at e;subst e;exact .tup q.it
 |lst l=>let(a,vs,y,q,t):=h';subst y;simp only[dU,bo]at e;subst e;exact .lst q.2
 |ref a=>simp[dU]at e
 |scr a=>simp[dU]at e
 |exn a=>simp[dU]at e
 |exa _ _ _=>simp[dU]at e
 |obj _ _ _=>simp[dU]at e
def aaa(K:PF):Prop:=∀T t:AL,T∈["NoneType","bool","int","str","tuple","list"]->gG t=true->PySem.W.kitOne K (.type T) (.type t)=-(T==t||(T=="bool"&&t=="int"))
def aab{K:PF}:aaa K:=by intro T t y z;simp only[bb,dP,io]at y;simp only[gG,df,aw]at z;rcases y with rfl|rfl|rfl|rfl|rfl|rfl<;>rcases z with(((rfl|rfl)|rfl)|rfl)|rfl<;>(with_unfolding_all rfl)
def aac{d:D}{t:AL}{b:Bool}(e:isT t d=-b):∃T,dU d=-T/\T∈["NoneType","bool","int","str","tuple","list"]/\(gG t=true->b=(T==t||(T=="bool"&&t=="int"))):=by
 have y:∀a b:AL,(a==b)=(b==a):=λa b=>by rw[hZ,aw,aw];exact(Eq.symm,Eq.symm)
 cases d with
 |non=>
  show("NoneType",rfl,!2,λz=>?_);simp only[isT,bo]at e;simp only[gG,df,aw]at z;subst e;rcases z with(((rfl|rfl)|rfl)|rfl)|rfl<;>rfl
 |bl _=>
  show("bool",rfl,!2,λz=>?_);simp only[isT,bo]at e;rw[<-e,y t "bool"];rfl
 |int _=>
  show("int",rfl,!2,λz=>?_);simp only[isT,bo]at e;rw[<-e,y t "int"];simp
 |str _=>
  show("str",rfl,!2,λz=>?_);simp only[isT,bo]at e;rw[<-e,y t "str"];simp
 |tup _=>
  show("tuple",rfl,!2,λz=>?_);simp only[isT,bo]at e;rw[<-e,y t "tuple"];simp
 |lst _=>
  show("list",rfl,!2,λz=>?_);simp only[isT,bo]at e;rw[<-e,y t "list"];simp
 |ref a=>simp[isT]at e
 |scr a=>simp[isT]at e
 |exn a=>simp[isT]at e
 |exa _ _ _=>simp[isT]at e
 |obj _ _ _=>simp[isT]at e
def HS(s:AA):∀z:List (AA),Str.join (tx s) (z.map tx)=tx (eY s z)
 |[]=>rfl
 |[x]=>rfl
 |x::y::r=>by
  have J:=HS s (y::r);change tx x++tx s++Str.join (tx s) ((y::r).map tx)=_;rw[J,iU,iU];rfl
theorem HW(s:AA):∀z:List (AA),(eY s z)⁻¹<=(z.map (·.length)).sum+z⁻¹*s⁻¹
 |[]=>by simp[eY]
 |[x]=>by simp[eY]
 |x::y::r=>by
  have J:=HW s (y::r);simp only[eY,ax,db,List.sum_cons,ce]at J ⊢;have:(r⁻¹+1+1)*s⁻¹=(r⁻¹+1)*s⁻¹+s⁻¹:=by rw[Nat.succ_mul]
  lia
def mF(K:PF)(m:Mf):V->AR->Hp->VK->Prop:=λx vs H Q=>∃F G d ds,R K H F G/\Rep K H F d x/\Reps K H F ds vs/\opM m d ds G (PV K H F Q)
theorem aad:MtR X "str.join" (mF X.K .join):=by
 intro p9 s Y H x xs v us Q I rx rs h;let(F,G,d,ds,r,rd,t,h):=h;simp only[opM]at h;generalize O:ds.map (view G)=va at h;simp only[ql]at h;split at h
 .let(d',rfl,U):=map_one O;let(v',rfl,rv):=b8 t;let(a,vs,e,q,t'):=Rep.list r rv U;subst e;let(z,hl):=rd;subst z;split at h
  .rename_i ls y;have J:=qQ y t';subst J;show Wo p9 s Y H _ _ v us Q I rx rs (_,a,_,rfl,rfl,q,?_,?_)
   .have hz:=h.1;rw[eP,ah,cz,show(λx:Str=>x⁻¹)∘tx=λl=>l⁻¹ from funext cz];have:sz=1000000:=rfl;lia
   .rw[HS];exact h.2.now r (rfl,cb (HW _ _) h.1)
  .exact h.elim
 .exact h.elim
def aae:MtM X "list.append" (mF X.K .append):=by
 intro p9 s Y H x xs v us Q I rx rs h;let(F,G,d,ds,r,O,t,h):=h;simp only[opM,qm]at h;split at h
 .let(v',rfl,U):=b8 t;have J:x=.ref _:=O;subst J;split at h
  .rename_i z y;let(vs,q,t'):=r.lst y;show Wd p9 s Y H _ _ v us Q I rx rs (_,vs,v',rfl,rfl,q,?_,?_)
   .rw[<-t'⁻¹];exact bS h.1 szl
   .exact h.2 _ _ _ (qb r y) (r.write y (t'.append (Reps.cons U Reps.nil))) rfl
  .exact h.elim
 .exact h.elim
def aaf:MtR X "list.count" (mF X.K .count):=by
 intro p9 s Y H x xs v us Q I rx rs h;let(F,G,d,ds,r,U,t,h):=h;simp only[opM]at h;generalize O:view G d=va at h;simp only[qt]at h;split at h
 .let(a,vs,e,q,t'):=Rep.list r U O;subst e;let(v',rfl,rv):=b8 t;have z:v'=.bl true:=rv;subst z;split at h
  .rename_i bs y;have J:=qP y t';subst J;exact Xw p9 s Y H _ _ v us Q I rx rs (a,bs,rfl,rfl,q,h.now r rfl)
  .exact h.elim
 .exact h.elim
def aag:MtR X "list.index" (mF X.K .index):=by
 intro p9 s Y H x xs v us Q I rx rs h;let(F,G,d,ds,r,U,t,h):=h;simp only[opM]at h;generalize O:view G d=va at h;simp only[qu]at h;split at h
 .let(a,vs,e,q,t'):=Rep.list r U O;subst e;let(v',rfl,rv):=b8 t;have z:v'=.bl true:=rv;subst z;split at h
  .rename_i bs y;have J:=qP y t';subst J;exact Xy p9 s Y H _ _ v us Q I rx rs (a,bs,rfl,rfl,q,h.1,h.2.now r rfl)
  .exact h.elim
 .exact h.elim
def aah{K:PF}{H:Hp}{F:FZ}{G:DH}{d:D}{v:V}{ds:AS}(r:R K H F G)(h:Rep K H F d v)(e:view G d=.lst ds):∃a vs,v=.ref a/\H a=-(.lst vs)/\Reps K H F ds vs:=by
 cases d with
 |lst xs=>
  have y:D.lst xs=.lst ds:=e;cases y;let(a,vs,z,q,t):=h;exact(a,vs,z,q.2,t)
 |ref p=>
  have J:v=.ref p:=h;unfold view at e;cases g:G p with
  |none=>simp only[g]at e;cases e
  |some o=>
   cases o with
   |lst xs=>
    simp only[g]at e;cases e;let(vs,q,t):=r.lst g;exact(p,vs,J,q,t)
 |_=>cases(show _=D.lst ds from e)
def aai:MtM X "list.extend" (mF X.K .extend):=by
 intro p9 s Y H x xs v us Q I rx rs h;let(F,G,d,ds,r,rd,t,h):=h;simp only[opM]at h;generalize ea:ds.map (view G)=va at h;simp only[qp]at h;split at h
 .let(d',rfl,ev):=map_one ea;let(v',rfl,rv):=b8 t;let(b,z,e2,q2,J):=aah r rv ev;subst e2;have U:x=.ref _:=rd;subst U;split at h
  .rename_i O y;let(vs,q,t'):=r.lst y;show Wf p9 s Y H _ _ v us Q I rx rs (_,b,vs,z,rfl,rfl,q,q2,?_,?_)
   .rw[<-t'⁻¹,<-J⁻¹];exact Nat.le_of_lt (bS h.1 szl)
   .exact h.2 _ _ _ (qb r y) (r.write y (t'.append J)) rfl
  .exact h.elim
 .exact h.elim
def aaj:vN X (λo i x H Q=>∃F G a b c,R X.K H F G/\Rep X.K H F a o/\Rep X.K H F b i/\Rep X.K H F c x/\gJ a b c G (λz=>∀H' F',Ext H F H' F'->R X.K H' F' z->Q H')):=by
 intro p9 s Y H o i v ov iv u Q I ro ri rv h;let(F,G,a,b,c,r,ra,rb,rc,h):=h;unfold gJ at h;split at h
 .have J:o=.ref _:=ra;have O:i=.int _:=rb;subst J;subst O;split at h
  .rename_i ds y;let(vs,q,t):=r.lst y;split at h
   .rename_i j U;show set_list p9 s Y H _ _ v ov iv u Q I ro ri rv (_,vs,_,j,rfl,rfl,q,by rw[<-t⁻¹];exact U,?_);exact h _ _ (qb r y) (r.write y (t.set rc j))
   .exact h.elim
  .exact h.elim
 .exact h.elim
def aak(op:Operator):PIp X op (λx y H Q=>∃F G a b,R X.K H F G/\Rep X.K H F a x/\Rep X.K H F b y/\fV op a b (λd=>PV X.K H F Q d G)):=by
 intro p9 s Y H x y v u Q I rx ry h;let(F,G,a,b,r,O,U,h):=h;unfold fV at h;split at h
 .have z:x=.int _:=O;have J:y=.int _:=U;subst z;subst J;exact U0 p9 s Y H _ _ v u Q I rx ry (_,_,rfl,rfl,h.now r rfl)
 .let(z,l1):=O;let(J,l2):=U;subst z;subst J;show Ve p9 s Y H _ _ v u Q I rx ry (_,_,rfl,rfl,by rw[cz,cz];exact eE h.1,?_);rw[iU];exact h.2.now r (rfl,by rw[ax];exact h.1)
 .have z:x=.int _:=O;have J:y=.int _:=U;subst z;subst J;exact U3 p9 s Y H _ _ v u Q I rx ry (_,_,rfl,rfl,h.now r rfl)
 .exact h.elim
end
inductive SK where
 |lst (a:AQ) |tup (a:AQ) |str (x:Str) (t:Tok)
def SK.val:SK->AN
 |.lst a=>.ref a
 |.tup a=>.ref a
 |.str x t=>.str x t
def SK.cls:SK->AL
 |.lst _=>"list_iterator"
 |.tup _=>"tuple_iterator"
 |.str x _=>strIterType x
def SK.obj(k:SK):Obj:={cls:=.type k.cls,data:=.fields #[k.val,.int 0 0]}
def SK.pos(k:SK)(it:AQ)(i:Nat)(h:Heap):Prop:=∃o,h.get? it=-o/\o.cls=.type k.cls/\o.data=.fields #[k.val,.int i 0]
def SK.Sat(H:Hp)(vs:AR):SK->Prop
 |.lst a=>H a=-(.lst vs)
 |.tup a=>H a=-(.tup vs)
 |.str x _=>vs=x.cps.toList.map λc=>V.str ⟨#[c]⟩
def SK.No(e:AQ):SK->Prop
 |.lst a=>a≠e
 |.tup a=>a≠e
 |.str _ _=>True
def SK.Sat.no{H:Hp}{vs:AR}{k:SK}{e:AQ}(h:k.Sat H vs)(he:H e=none):k.No e:=by
 cases k with
 |lst a=>exact bw (show H a=-_ from h) he
 |tup a=>exact bw (show H a=-_ from h) he
 |str x t=>trivial
def SK.On(y:Array AN)(h:Heap):SK->Prop
 |.lst a=>h.IsList a y
 |.tup a=>h.IsTuple a y
 |.str _ _=>True
def SK.On.keeps{y:Array AN}{k:SK}(x:k.On y h)(z:∀b o,k.val=.ref b->h.get? b=-o->h'.get? b=-o):k.On y h':=by
 cases k with
 |lst a=>let(o,e,r):=x;exact(o,z a o rfl e,r)
 |tup a=>let(o,e,r):=x;exact(o,z a o rfl e,r)
 |str _ _=>trivial
section
variable {prog:AK} {w:World} {A:AM} {E:AG} {s:AI}
def SK.iter{k:SK}{y:Array AN}(h:k.On y s.heap)(q:Q (.ref (~~~s)) {s with heap:=s.heap.push k.obj}):wpAny (model prog w) A (pyIter k.val) Q E s:=by
 cases k with
 |lst a=>exact ki h q
 |tup a=>exact wpAny_pyIter_tuple h q
 |str x t=>exact wpAny_pyIter_strU q
def SK.pos0{k:SK}{h:Heap}:k.pos h.objs.size 0 (h.push k.obj):=(_,bd _ rfl,rfl,rfl)
def SK.pos.keep{k:SK}{it:AQ}{i:Nat}(x:k.pos it i h)(y:∀o,h.get? it=-o->h'.get? it=-o):k.pos it i h':=let(o,e,r):=x;(o,y o e,r)
def aal{it t:AQ}{i:Nat}{items}{x:AN}(y:s.heap.IsTupleIter it t i)(U:s.heap.IsTuple t items)(Y:items[i]?=-x)(O:∀h',h'.IsTupleIter it t (i+1)->Heap.SameBut it s.heap h'->Q x {s with heap:=h'}):
  wpAny (model prog w) A (Builtin.SmallTypes.nextOf (.ref it)) Q E s:=by
 let(o,ho,hc,hd):=id y;let(ol,J,_,nl,z):=U;unfold Builtin.SmallTypes.nextOf;show af (gt (name:=⇑"__next__") y.typeIs iO
  (fv iO y.typeIs F.entry_tuple_iterator_next ?_ (F.args_tuple_iterator_next_1 _)))
 change wpAny _ _ (field (.ref it) 0 >>= _) _ _ s;show af (ff ho hd (x:=.ref t) rfl ?_);change wpAny _ _ (if(Value.ref t==Value.none)=true then _ else _) _ _ s;rw[if_neg (show¬((Value.ref t==Value.none)=true) from ck)];change wpAny _ _ (field (.ref it) 1 >>= _) _ _ s;show af (ff ho hd (x:=.int i 0) rfl ?_);change wpAny _ _ (seqItems? (.ref t) >>= _) _ _ s;show af (fE J z ?_);simp only[e8,Y];show af (hJ ho hd (!2) (am (x,rfl,am (O _ ?_ (c8 ..)))));exact(_,fh _ ho (Obj.isFreed_of_fields (Obj.data_mapFields hd _)),(Obj.cls_mapFields ..).trans hc,by
  rw[Obj.data_mapFields hd];simp[rawInt])
def aam{it t:AQ}{i:Nat}{items}(hh:A.handled=none)(y:s.heap.IsTupleIter it t i)(U:s.heap.IsTuple t items)(Y:items[i]?=none)(O:∀h' e,Heap.ExtBut it s.heap h'->(∃o,h'.get? e=-o/\o.cls=.type "StopIteration")->E (.ref e) {s with heap:=h'}):
  wpAny (model prog w) A (Builtin.SmallTypes.nextOf (.ref it)) Q E s:=by
 let(o,ho,hc,hd):=id y;let(ol,J,_,nl,z):=U;unfold Builtin.SmallTypes.nextOf;show af (gt (name:=⇑"__next__") y.typeIs iO
  (fv iO y.typeIs F.entry_tuple_iterator_next ?_ (F.args_tuple_iterator_next_1 _)))
 change wpAny _ _ (field (.ref it) 0 >>= _) _ _ s;show af (ff ho hd (x:=.ref t) rfl ?_);change wpAny _ _ (if(Value.ref t==Value.none)=true then _ else _) _ _ s;rw[if_neg (show¬((Value.ref t==Value.none)=true) from ck)];change wpAny _ _ (field (.ref it) 1 >>= _) _ _ s;show af (ff ho hd (x:=.int i 0) rfl ?_);change wpAny _ _ (seqItems? (.ref t) >>= _) _ _ s;show af (fE J z ?_);simp only[e8,Y];show af (eS (af (hJ ho hd (!2) ?_)));change wpAny _ _ (newExc (.type "StopIteration") [] >>= _) _ _ _;show af ?_;simp only[newExc,newTuple];show af (gs ?_ (by size_fits));show af (m:=firstArgMember _ _) (wpAny_of_eq (a:=Value.none) (by first|rfl | (simp only[firstArgMember];rfl)) ?_);show gs ?_ (by size_fits);simp only[raiseNew];show af (wpAny_handled ?_);first|rw[show A.in1.handled=none from hh]|rw[hh]
 show af (am (wpAny_throw ?_));exact O _ _ (((c8 ..).extBut.push _).push _) (_,bd _ rfl,rfl)
def aan(hh:A.handled=none)(it l:AQ)(O:l≠it)(y:Array AN):
  Draws prog w A it [it,l] y.size (λi v=>y[i]?=-v) (λi h=>h.IsTupleIter it l i/\h.IsTuple l y) where
 live:=λu u st=>let(o,ho,_):=st.1;(o,ho)
 frame:=λu u u st U=>(let(o,e,r):=st.1;(o,U it (!2) o e,r),let(o,e,r):=st.2;(o,U l (!2) o e,r))
 item:=λi s Q E hi st hQ=>by
  show aal st.1 st.2 (x:=y[i]) (by simp[hi]) λh' z J=>?_;exact hQ _ h' s.toks (by simp[hi]) (z,let(o,e,r):=st.2;(o,J.extBut l o O e,r)) J
 done:=λs Q E st Y=>aam hh st.1 st.2 (!2) Y
end
structure Drawn(P:AK)(w:World)(A:AM)(k:SK)(it:AQ)(i:Nat)(vs:AR)(h:Heap)(fp:List AQ)(Pd:Nat->AN->Prop)(S:Nat->Heap->Prop):Prop where
 D:Draws P w A it fp vs.length Pd S
 st:S i h
 val:∀j v,Pd j v->∃x,vs[j]?=some x/\RelV x v
 pos:∀j h,S j h->k.pos it j h
 fp:∀b∈fp,b=it\/k.val=.ref b
def drawn{X:Cx}{p9:AC}{Y:L2.St}{H:Hp}{s:AI}{A:AM}(hh:A.handled=none)(I:Inv X p9 Y H s){k:SK}{it:AQ}{i:Nat}{vs:AR}(y:k.Sat H vs)(U:H it=none)(p:k.pos it i s.heap):
  ∃fp Pd S,Drawn X.prog X.w A k it i vs s.heap fp Pd S:=by
 cases k with
 |lst a=>
  have y:H a=-(.lst vs):=y;let(z,r,pl,_):=I.list (SqL.of y);show([it,a],λj v=>z.toArray[j]?=-v,λj h=>h.IsListIter it a j/\h.IsList a z.toArray,?_,(p,pl.isList),?_,λj h st=>st.1,?_)
  .have D:=Draws.list (prog:=X.prog) (w:=X.w) hh it a (bw y U) z.toArray;rw[a8,<-r⁻¹]at D;exact D
  .intro j v e;have e:z.toArray[j]?=-v:=e;have hj:j<vs⁻¹:=by
    rw[r⁻¹];have:=(gx.mp e).1;simpa using this
   let(u,O,r2):=r.get (show vs[j]?=-vs[j] by simp[hj]);show(vs[j],by simp[hj],?_);have:z[j]?=-v:=by simpa using e
   rw[this]at O;cases O;exact r2
  .intro b J;have J:b=it\/b=a:=by simpa using J
   rcases J with e|e
   .exact .inl e
   .exact .inr (by rw[e];rfl)
 |tup a=>
  have y:H a=-(.tup vs):=y;let(z,r,pl,_):=I.tuple (SqT.of y);show([it,a],λj v=>z.toArray[j]?=-v,λj h=>h.IsTupleIter it a j/\h.IsTuple a z.toArray,?_,(p,pl),?_,λj h st=>st.1,?_)
  .have D:=aan (prog:=X.prog) (w:=X.w) hh it a (bw y U) z.toArray;rw[a8,<-r⁻¹]at D;exact D
  .intro j v e;have e:z.toArray[j]?=-v:=e;have hj:j<vs⁻¹:=by
    rw[r⁻¹];have:=(gx.mp e).1;simpa using this
   let(u,O,r2):=r.get (show vs[j]?=-vs[j] by simp[hj]);show(vs[j],by simp[hj],?_);have:z[j]?=-v:=by simpa using e
   rw[this]at O;cases O;exact r2
  .intro b J;have J:b=it\/b=a:=by simpa using J
   rcases J with e|e
   .exact .inl e
   .exact .inr (by rw[e];rfl)
 |str x t=>
  have y:vs=x.cps.toList.map λc=>V.str ⟨#[c]⟩:=y;show([it],λi v=>∃c u,x.cps[i]?=-c/\v=.str ⟨#[c]⟩ u,λi h=>h.IsStrIter it (strIterType x) x t i,?_,p,?_,λj h st=>st,?_)
  .have D:=Wy (prog:=X.prog) (w:=X.w) hh it x t;have e:x.cps.size=vs⁻¹:=by rw[y,ah,bq]
   rw[e]at D;exact D
  .rintro j v ⟨c,u,e1,O⟩;show(V.str ⟨#[c]⟩,?_,u,O);rw[y,aS,gy,e1];rfl
  .intro b J;exact .inl (!!J)
def Jk(k:SK):It:=(λi H=>∃vs,k.Sat H vs/\i<vs⁻¹,λi H x H'=>H'=H/\∀vs,k.Sat H vs->vs[i]?=-x,λi H=>∃vs,k.Sat H vs/\vs⁻¹=i)
def Je(k:SK):It:=(λi H=>∃vs,k.Sat H vs/\i<vs⁻¹,λi H x H'=>∃T y,H T=none/\x=.ref T/\H'=upd H T (.tup [.int i,y])/\∀vs,k.Sat H vs->vs[i]?=-y,λi H=>∃vs,k.Sat H vs/\vs⁻¹=i)
def yM{H:Hp}{k:SK}{vs y:AR}(h:k.Sat H vs)(h':k.Sat H y):vs=y:=by
 cases k with
 |lst a=>have e:=(show H a=-_ from h).symm.trans h';cases e;rfl
 |tup a=>have e:=(show H a=-_ from h).symm.trans h';cases e;rfl
 |str x t=>exact(show vs=_ from h).trans (show y=_ from h').symm
def aao{K:PF}{pos:Pos}(k:SK)(e it:AQ)(hne:e≠it):
  Turn P w K (.Tuple elts x1 pos) (Je k) [e,it] e (λi h=>(∃J,IsEnum h e it i J)/\k.pos it i h) where
 mem:=by simp
 obj:=λi h st b O=>by
  let((J,he),o,ho,c,d):=st;have O:b=e\/b=it:=by simpa using O
  rcases O with rfl|rfl
  .exact (_,he,λv z=>by have z':Data.fields _=Data.cell v:=z;cases z')
  .exact (o,ho,λv z=>by rw[d]at z;cases z)
 keep:=λi h h' st kk=>(let(J,he):=st.1;(J,kk e (!2) _ he),st.2.keep λo ho=>kk it (!2) o ho)
 item:=by
  intro X hP hw hK hc i p9 s Y H E I hf st hg;subst hP hw hK;let(vs,sat,hi):=hg;let((J,he),hit):=st;have hfe:=hf e (!2);have hfi:=hf it (!2);let(fp,Pd,S,Dr):=drawn (A:=X.A.in1) (I.ok.hd hc) I sat hfi.1 hit;have helt:e<(~~~s):=aE he;have hef:e∉fp:=λO=>by
   rcases Dr.fp e O with z|z
   .exact hne z
   .have:=sat.no hfe.1;cases k with
    |lst a=>cases z;exact this rfl
    |tup a=>cases z;exact this rfl
    |str _ _=>cases z
  show wpAny_pyNext_enum_itemD Dr.D he Dr.st hi hne hef λu h1 tk hu heo hit1 ht1 hz1 hk1=>?_;let(x,hx,ru):=Dr.val _ _ hu;show(_,rfl,?_);show wpAny_letOwnedTupleGo_enum heo λh2 he2 hs2=>?_;have U:Heap.SameBut e h1 h2:=hs2;have hn:H (~~~s)=none:=I.hok.fresh (ay _);have k2:∀b o,b∉[e,it]->s.heap.get? b=-o->h2.get? b=-o:=λb o O q=>by
   have y:b≠e/\b≠it:=by simpa using O
   exact U.extBut b o y.1 (hk1 b o y.1 y.2 q)
  have I2:Inv X p9 Y H {s with heap:=h2,toks:=tk+1}:=I.turnedL hf k2;have ht2:h2.get? (~~~s)=-{cls:=.type "tuple",data:=.seq #[.int i tk,u]}:=U.extBut _ _ (gc helt) ht1;have ob:ObjOk X.prog X.w (upd H (~~~s) (.tup [.int i,x])) h2 (~~~s) (.tup [.int i,x]):=
   (by rw[eT];simp,[.int i tk,u],.cons (_,rfl) (.cons ru .nil),(_,ht2,rfl,_,rfl))
  have I3:=I2.track (I.fpOk (ay _) hn) ob;have nee:(~~~s)≠e:=gc helt;have nei:(~~~s)≠it:=by let(o,ho,_):=hit;exact gc (aE ho)
  show(.ref (~~~s),_,I3,rfl,((~~~s),x,hn,rfl,rfl,λys hy=>by rw[yM hy sat];exact hx),((u,?_),?_),λb O=>?_)
  .change IsEnum h2 e it (((i+1:Nat)):Int) u;rw[show(((i+1:Nat):Int))=(i:Int)+1 by lia];exact he2
  .exact (Dr.pos _ _ hit1).keep λo ho=>U.extBut _ _ (Ne.symm hne) ho
  .have y:b=e\/b=it:=by simpa using O
   rw[aH (by rcases y with rfl|rfl;exact Ne.symm nee;exact Ne.symm nei)];exact(hf b O).1
 done:=by
  intro X hP hw hK hc i p9 s Y H E I hf st hg;subst hP hw hK;let(vs,sat,hi):=hg;subst hi;let((J,he),hit):=st;have hfi:=hf it (!2);let(fp,Pd,S,Dr):=drawn (A:=X.A.in1) (I.ok.hd hc) I sat hfi.1 hit;show wpAny_pyNext_enum_endD Dr.D he Dr.st λh' eb=>(rfl,I.turnedL (t':=s.toks) hf λb o O q=>?_);have y:b≠e/\b≠it:=by simpa using O
  exact eb b o y.2 q
 self:=λA i s Q E st h=>by
  let((J,he),_):=st;exact wpAny_pyIter_enum he h
def aap{K:PF}(k:SK)(it:AQ):Turn P w K tg (Jk k) [it] it (λi h=>k.pos it i h) where
 mem:=by simp
 obj:=λi h st b hb=>by
  have e:b=it:=by simpa using hb
  subst e;let(o,e,c,d):=st;exact(o,e,λv z=>by rw[d]at z;cases z)
 keep:=λi h h' st kk=>st.keep λo e=>kk it (!2) o e
 item:=by
  intro X hP hw hK hc i p9 s Y H E I hf st hg;let(vs,U,hi):=hg;have hfi:=hf it (!2);cases k with
  |lst a=>
   have J:H a=-(.lst vs):=U;show cm ((CW (tg:=tg) a it).item X hP hw hK hc i p9 s Y H E I hf st (vs,vs[i],SqL.of J,by simp[hi])) ?_ (λq q e=>e);rintro r s1 ⟨u,hr,h1⟩;show(u,hr,cm h1 ?_ (λq q e=>e));rintro _ s2 ⟨x,H',I',rx,⟨e1,e2⟩,st',fr⟩;exact(x,H',I',rx,(e1,λws O=>e2 ws (SqL.of (show H a=-(.lst ws) from O))),st',fr)
  |tup a=>
   have J:H a=-(.tup vs):=U;show cm ((CZ (tg:=tg) a it).item X hP hw hK hc i p9 s Y H E I hf st (vs,vs[i],SqT.of J,by simp[hi])) ?_ (λq q e=>e);rintro r s1 ⟨u,hr,h1⟩;show(u,hr,cm h1 ?_ (λq q e=>e));rintro _ s2 ⟨x,H',I',rx,⟨e1,e2⟩,st',fr⟩;exact(x,H',I',rx,(e1,λws O=>e2 ws (SqT.of (show H a=-(.tup ws) from O))),st',fr)
  |str y t=>
   have J:vs=y.cps.toList.map λc=>V.str ⟨#[c]⟩:=U;have hlen:vs⁻¹=y.cps.size:=by rw[J,ah,bq]
   show cm ((vU (tg:=tg) it y t).item X hP hw hK hc i p9 s Y H E I hf st (show i<y.cps.size by lia)) ?_ (λq q e=>e);rintro r s1 ⟨u,hr,h1⟩;show(u,hr,cm h1 ?_ (λq q e=>e));rintro _ s2 ⟨x,H',I',rx,⟨e1,c,e2,e3⟩,st',fr⟩;show(x,H',I',rx,(e1,λws O=>?_),st',fr);have O:ws=y.cps.toList.map λc=>V.str ⟨#[c]⟩:=O;rw[O,e3,aS,gy,e2];rfl
 done:=by
  intro X hP hw hK hc i p9 s Y H E I hf st hg;let(vs,U,hi):=hg;cases k with
  |lst a=>exact(CW (tg:=tg) a it).done X hP hw hK hc i p9 s Y H E I hf st (vs,SqL.of (show H a=-(.lst vs) from U),!0)
  |tup a=>exact(CZ (tg:=tg) a it).done X hP hw hK hc i p9 s Y H E I hf st (vs,SqT.of (show H a=-(.tup vs) from U),!0)
  |str y t=>
   have J:vs=y.cps.toList.map λc=>V.str ⟨#[c]⟩:=U;have hlen:vs⁻¹=y.cps.size:=by rw[J,ah,bq]
   exact(vU (tg:=tg) it y t).done X hP hw hK hc i p9 s Y H E I hf st (show i=y.cps.size by lia)
 self:=λA i s Q E st h=>by
  cases k with
  |lst a=>exact wpAny_pyIter_listiter st h
  |tup a=>exact wpAny_pyIter_tupleiter st h
  |str y t=>exact(vU (K:=K) (tg:=tg) it y t).self A i s Q E st h
open Builtin Builtin.Str
section
variable {prog:AK} {w:World} {A:AM} {E:AG} {s:AI}
def aaq{z TI TO i1 i2:AQ}{k n1 n2:Nat}{fp1 fp2:List AQ}{P1 P2:Nat->AN->Prop}{S1 S2:Nat->Heap->Prop}{a b:AN}{Q:AG}(D:ZApart z TI TO i1 i2)
  (D1:Draws prog w A i1 fp1 n1 P1 S1) (D2:Draws prog w A i2 fp2 n2 P2 S2) (f1:∀c∈fp1,c≠z/\c≠TO/\c≠i2) (f2:∀c∈fp2,c≠z/\c≠TO/\c≠i1)
  (hz:IsZip s.heap z TI TO .none) (hTI:IsPair s.heap TI (.ref i1) (.ref i2)) (hTO:IsPair s.heap TO a b)
  (h1:S1 k s.heap) (h2:S2 k s.heap) (hx:k<n1) (hy:k<n2)
  (hQ:∀h' tk c d,P1 k c->P2 k d->IsZip h' z TI TO (rawInt (~~~s))->IsPair h' TO c d->S1 (k+1) h'->S2 (k+1) h'->
   IsPair h' (~~~s) c d->h'.objs.size=(~~~s)+1->
   (∀c o,c≠z->c≠TO->c≠i1->c≠i2->s.heap.get? c=-o->h'.get? c=-o)->Q (.ref (~~~s)) {s with heap:=h',toks:=tk}):
  wpAny (model prog w) A (Builtin.«zip.__next__» ([.ref z],[])) (λfin s'=>∃v,fin=.done (.ret v)/\Q v s') E s:=by
 have e1:∀{h h':Heap}{c:AQ}{j:Nat},S1 j h->Heap.ExtBut c h h'->(∀b∈fp1,b≠c)->S1 j h':=λq e n=>D1.frame _ _ _ q λb hb o y=>e b o (n b hb) y;have e2:∀{h h':Heap}{c:AQ}{j:Nat},S2 j h->Heap.ExtBut c h h'->(∀b∈fp2,b≠c)->S2 j h':=λq e n=>D2.frame _ _ _ q λb hb o y=>e b o (n b hb) y;have z1:∀b∈fp1,b≠z:=λb hb=>(f1 b hb).1;have t1:∀b∈fp1,b≠TO:=λb hb=>(f1 b hb).2.1;have j1:∀b∈fp1,b≠i2:=λb hb=>(f1 b hb).2.2;have z2:∀b∈fp2,b≠z:=λb hb=>(f2 b hb).1;have t2:∀b∈fp2,b≠TO:=λb hb=>(f2 b hb).2.1;have j2:∀b∈fp2,b≠i1:=λb hb=>(f2 b hb).2.2;change wpAny _ _ (field (.ref z) 2 >>= _) _ _ _;show af (ff hz rfl (x:=.bool false) rfl ?_);change wpAny _ _ (field (.ref z) 3 >>= _) _ _ _;show af (ff hz rfl (x:=.ref TI) rfl ?_);show af (fE hTI rfl ?_);change wpAny _ _ (Builtin.SmallTypes.ownedTupleIsFree (.ref z) >>= _) _ _ _;show af ?_;unfold Builtin.SmallTypes.ownedTupleIsFree;show af (ff hz rfl (x:=.none) rfl (am ?_));simp only[if_true];show af (eS ?_);show af (ff hz rfl (x:=.ref TO) rfl ?_);show af (gN hz (!2) λh₁ hz₁ O=>?_);replace hz₁:IsZip h₁ z TI TO .ellipsis:=hz₁;replace O:Heap.SameBut z s.heap h₁:=O;show af ?_;simp only[List.zipIdx_cons,List.zipIdx_nil,List.forIn_cons,List.forIn_nil];show af (af (wpAny_onRaise ?_));change wpAny _ _ (Builtin.SmallTypes.nextOf (.ref i1) >>= _) _ _ _;show af (D1.item k _ _ _ hx (e1 h1 O.extBut z1) λc h₂ tk₂ hc h1₂ U=>am ?_);replace U:Heap.SameBut i1 h₁ h₂:=U;have hTO₂:IsPair h₂ TO a b:=U.extBut _ _ D.TOi1 (O.extBut _ _ D.TOz hTO);show af (fE hTO₂ rfl ?_);show af (wpAny_updateSeq_pair hTO₂ λh₃ hTO₃ Y=>?_);replace hTO₃:IsPair h₃ TO c b:=hTO₃;replace Y:Heap.SameBut TO h₂ h₃:=Y;show af (wpAny_letGo (am ?_));show af (af (wpAny_onRaise ?_));change wpAny _ _ (Builtin.SmallTypes.nextOf (.ref i2) >>= _) _ _ _;show af (D2.item k _ _ _ hy (e2 (e2 (e2 h2 O.extBut z2) U.extBut j2) Y.extBut t2) λd h₄ tk₄ hd h2₄ hs₄=>am ?_);replace hs₄:Heap.SameBut i2 h₃ h₄:=hs₄;have hTO₄:IsPair h₄ TO c b:=hs₄.extBut _ _ D.TOi2 hTO₃;show af (fE hTO₄ rfl ?_);show af (wpAny_updateSeq_pair hTO₄ λJ hTO₅ hs₅=>?_);replace hTO₅:IsPair J TO c d:=hTO₅;replace hs₅:Heap.SameBut TO h₄ J:=hs₅;show af (wpAny_letGo (am (am ?_)));show af (fE hTO₅ rfl ?_);show af (wpAny_newTuple ?_);have hsz:J.objs.size=(~~~s):=by rw[hs₅.1,hs₄.1,Y.1,U.1,O.1]
 have hz₅:IsZip J z TI TO .ellipsis:=hs₅.extBut _ _ D.TOz.symm (hs₄.extBut _ _ D.i2z.symm (Y.extBut _ _ D.TOz.symm (U.extBut _ _ D.i1z.symm hz₁)));have hk₅:∀c o,c≠z->c≠TO->c≠i1->c≠i2->s.heap.get? c=-o->J.get? c=-o:=λc o c1 c2 c3 c4 e=>
  hs₅.extBut _ _ c2 (hs₄.extBut _ _ c4 (Y.extBut _ _ c2 (U.extBut _ _ c3 (O.extBut _ _ c1 e))))
 have h1₅:S1 (k+1) J:=e1 (e1 (e1 h1₂ Y.extBut t1) hs₄.extBut j1) hs₅.extBut t1;have h2₅:S2 (k+1) J:=e2 h2₄ hs₅.extBut t2;have hzlt:z<J.objs.size:=aE hz₅;change wpAny _ _ (Builtin.SmallTypes.ownedTupleHandOut (.ref z) (.ref J.objs.size) >>= _) _ _ _;show af ?_;unfold Builtin.SmallTypes.ownedTupleHandOut;have hz₆:IsZip (J.push {cls:=.type "tuple",data:=.seq #[c,d]}) z TI TO .ellipsis:=ag _ hz₅;show af (gN hz₆ (!2) λh₇ hz₇ hs₇=>?_);replace hz₇:IsZip h₇ z TI TO (rawInt J.objs.size):=hz₇;show gN hz₇ (!2) λh₈ hz₈ hs₈=>?_;replace hz₈:IsZip h₈ z TI TO (rawInt J.objs.size):=hz₈;have up:∀c o,c≠z->J.get? c=-o->h₈.get? c=-o:=λc o c1 e=>hs₈.extBut _ _ c1 (hs₇.extBut _ _ c1 (ag _ e));have hT₈:IsPair h₈ J.objs.size c d:=hs₈.extBut _ _ (gc hzlt) (hs₇.extBut _ _ (gc hzlt) (bd _ rfl));have hz8:h₈.objs.size=J.objs.size+1:=by rw[hs₈.1,hs₇.1,cK]
 rw[hsz]at hz₈ hT₈ hz8;show am (_,rfl,?_);change Q (.ref J.objs.size) _;rw[hsz];exact hQ h₈ tk₄ c d hc hd hz₈ (up _ _ D.TOz hTO₅) (D1.frame _ _ _ h1₅ λb hb o y=>up b o (z1 b hb) y) (D2.frame _ _ _ h2₅ λb hb o y=>up b o (z2 b hb) y) hT₈ hz8 λc o c1 c2 c3 c4 e=>up c o c1 (hk₅ c o c1 c2 c3 c4 e)
def aar{TI TO:AQ}{a b:AN}{Q:Fin->AI->Prop}(D:ZApart z TI TO i1 i2)(D1:Draws prog w A i1 fp1 n1 P1 S1)(f1:∀c∈fp1,c≠z)(hz:IsZip s.heap z TI TO .none)(hTI:IsPair s.heap TI (.ref i1) (.ref i2))(hTO:IsPair s.heap TO a b)(h1:S1 n1 s.heap)(hE:∀h' e,(∀c o,c≠z->c≠TO->c≠i1->c≠i2->s.heap.get? c=-o->h'.get? c=-o)->(∃o,h'.get? e=-o/\o.cls=.type "StopIteration")->E (.ref e) {s with heap:=h'}):
  wpAny (model prog w) A (Builtin.«zip.__next__» ([.ref z],[])) Q E s:=by
 change wpAny _ _ (field (.ref z) 2 >>= _) _ _ _;show af (ff hz rfl (x:=.bool false) rfl ?_);change wpAny _ _ (field (.ref z) 3 >>= _) _ _ _;show af (ff hz rfl (x:=.ref TI) rfl ?_);show af (fE hTI rfl ?_);change wpAny _ _ (Builtin.SmallTypes.ownedTupleIsFree (.ref z) >>= _) _ _ _;show af ?_;unfold Builtin.SmallTypes.ownedTupleIsFree;show af (ff hz rfl (x:=.none) rfl (am ?_));simp only[if_true];show af (eS ?_);show af (ff hz rfl (x:=.ref TO) rfl ?_);show af (gN hz (!2) λh₁ O J=>?_);replace O:IsZip h₁ z TI TO .ellipsis:=O;replace J:Heap.SameBut z s.heap h₁:=J;show af ?_;simp only[List.zipIdx_cons,List.zipIdx_nil,List.forIn_cons,List.forIn_nil];show af (af (wpAny_onRaise ?_));change wpAny _ _ (Builtin.SmallTypes.nextOf (.ref i1) >>= _) _ _ _;show af (D1.done _ _ _ (D1.frame _ _ _ h1 λb hb o y=>J.extBut b o (f1 b hb) y) λh₂ e U he=>?_);let(oe,hoe,hce):=he;have hz₂:IsZip h₂ z TI TO .ellipsis:=U _ _ D.i1z.symm O;have hez:e≠z:=λx=>by subst x;rw[hz₂]at hoe;cases hoe;simp at hce
 show gN hz₂ (!2) λh₃ v Y=>hE h₃ e (λc o c1 v c3 v x=>Y.extBut _ _ c1 (U _ _ c3 (J.extBut _ _ c1 x))) (oe,Y.extBut _ _ hez hoe,hce)
def aas{TI TO:AQ}{k:Nat}{a b:AN}{Q:Fin->AI->Prop}(D:ZApart z TI TO i1 i2)(D1:Draws prog w A i1 fp1 n1 P1 S1)(D2:Draws prog w A i2 fp2 n2 P2 S2)(f1:∀c∈fp1,c≠z/\c≠TO/\c≠i2)(f2:∀c∈fp2,c≠z/\c≠TO/\c≠i1)(hz:IsZip s.heap z TI TO .none)(hTI:IsPair s.heap TI (.ref i1) (.ref i2))(hTO:IsPair s.heap TO a b)(h1:S1 k s.heap)(h2:S2 k s.heap)(hx:k<n1)(hy:k=n2)(hE:∀h' tk e,(∀c o,c≠z->c≠TO->c≠i1->c≠i2->s.heap.get? c=-o->h'.get? c=-o)->(∃o,h'.get? e=-o/\o.cls=.type "StopIteration")->E (.ref e) {s with heap:=h',toks:=tk}):
  wpAny (model prog w) A (Builtin.«zip.__next__» ([.ref z],[])) Q E s:=by
 have e1:∀{h h':Heap}{c:AQ}{j:Nat},S1 j h->Heap.ExtBut c h h'->(∀b∈fp1,b≠c)->S1 j h':=λq e n=>D1.frame _ _ _ q λb hb o y=>e b o (n b hb) y;have e2:∀{h h':Heap}{c:AQ}{j:Nat},S2 j h->Heap.ExtBut c h h'->(∀b∈fp2,b≠c)->S2 j h':=λq e n=>D2.frame _ _ _ q λb hb o y=>e b o (n b hb) y;have z1:∀b∈fp1,b≠z:=λb hb=>(f1 b hb).1;have z2:∀b∈fp2,b≠z:=λb hb=>(f2 b hb).1;have t2:∀b∈fp2,b≠TO:=λb hb=>(f2 b hb).2.1;have j2:∀b∈fp2,b≠i1:=λb hb=>(f2 b hb).2.2;change wpAny _ _ (field (.ref z) 2 >>= _) _ _ _;show af (ff hz rfl (x:=.bool false) rfl ?_);change wpAny _ _ (field (.ref z) 3 >>= _) _ _ _;show af (ff hz rfl (x:=.ref TI) rfl ?_);show af (fE hTI rfl ?_);change wpAny _ _ (Builtin.SmallTypes.ownedTupleIsFree (.ref z) >>= _) _ _ _;show af ?_;unfold Builtin.SmallTypes.ownedTupleIsFree;show af (ff hz rfl (x:=.none) rfl (am ?_));simp only[if_true];show af (eS ?_);show af (ff hz rfl (x:=.ref TO) rfl ?_);show af (gN hz (!2) λh₁ Y J=>?_);replace Y:IsZip h₁ z TI TO .ellipsis:=Y;replace J:Heap.SameBut z s.heap h₁:=J;show af ?_;simp only[List.zipIdx_cons,List.zipIdx_nil,List.forIn_cons,List.forIn_nil];show af (af (wpAny_onRaise ?_));change wpAny _ _ (Builtin.SmallTypes.nextOf (.ref i1) >>= _) _ _ _;show af (D1.item k _ _ _ hx (e1 h1 J.extBut z1) λc h₂ tk₂ hc h1₂ O=>am ?_);replace O:Heap.SameBut i1 h₁ h₂:=O;have hTO₂:IsPair h₂ TO a b:=O.extBut _ _ D.TOi1 (J.extBut _ _ D.TOz hTO);show af (fE hTO₂ rfl ?_);show af (wpAny_updateSeq_pair hTO₂ λh₃ hTO₃ U=>?_);replace U:Heap.SameBut TO h₂ h₃:=U;show af (wpAny_letGo (am ?_));show af (af (wpAny_onRaise ?_));change wpAny _ _ (Builtin.SmallTypes.nextOf (.ref i2) >>= _) _ _ _;subst hy;show af (D2.done _ _ _ (e2 (e2 (e2 h2 J.extBut z2) O.extBut j2) U.extBut t2) λh₄ e hs₄ he=>?_);let(oe,hoe,hce):=he;have hz₄:IsZip h₄ z TI TO .ellipsis:=hs₄ _ _ D.i2z.symm (U.extBut _ _ D.TOz.symm (O.extBut _ _ D.i1z.symm Y));have hez:e≠z:=λx=>by subst x;rw[hz₄]at hoe;cases hoe;simp at hce
 show gN hz₄ (!2) λh₅ v hs₅=>hE h₅ tk₂ e (λc o c1 c2 c3 c4 x=>hs₅.extBut _ _ c1 (hs₄ _ _ c4 (U.extBut _ _ c2 (O.extBut _ _ c3 (J.extBut _ _ c1 x))))) (oe,hs₅.extBut _ _ hez hoe,hce)
end
def Jz(k l:SK):It:=(λi H=>∃vs J,k.Sat H vs/\l.Sat H J/\i<vs⁻¹/\i<J⁻¹,
 λi H x H'=>∃T y z,H T=none/\x=.ref T/\H'=upd H T (.tup [y,z])/\(∀vs,k.Sat H vs->vs[i]?=-y)/\(∀J,l.Sat H J->J[i]?=-z),
 λi H=>∃vs J,k.Sat H vs/\l.Sat H J/\(vs⁻¹=i/\i<=J⁻¹\/i<vs⁻¹/\J⁻¹=i))
def aat{P:AK}{w:World}{K:PF}{elts:AE}{x1:Nat}{pos:Pos}(k l:SK)(z TI TO i1 i2:AQ)(D:ZApart z TI TO i1 i2):
  Turn P w K (.Tuple elts x1 pos) (Jz k l) [z,TI,TO,i1,i2] z
   (λi h=>IsZip h z TI TO .none/\IsPair h TI (.ref i1) (.ref i2)/\(∃a b,IsPair h TO a b)/\k.pos i1 i h/\l.pos i2 i h) where
 mem:=by simp
 obj:=λi h st b hb=>by
  let(hz,U,(a,c,hTO),(o1,e1,_,d1),(o2,e2,_,d2)):=st;have J:b=z\/b=TI\/b=TO\/b=i1\/b=i2:=by simpa using hb
  rcases J with rfl|rfl|rfl|rfl|rfl
  .exact (_,hz,λv q=>by have q':Data.fields _=Data.cell v:=q;cases q')
  .exact (_,U,λv q=>by have q':Data.seq _ _=Data.cell v:=q;cases q')
  .exact (_,hTO,λv q=>by have q':Data.seq _ _=Data.cell v:=q;cases q')
  .exact (o1,e1,λv q=>by rw[d1]at q;cases q)
  .exact (o2,e2,λv q=>by rw[d2]at q;cases q)
 keep:=λi h h' st kk=>by
  let(hz,U,(a,c,hTO),p1,p2):=st;exact(kk z (!2) _ hz,kk TI (!2) _ U,(a,c,kk TO (!2) _ hTO),p1.keep λo e=>kk i1 (!2) o e,p2.keep λo e=>kk i2 (!2) o e)
 item:=by
  intro X hP hw hK hc i p9 s Y H E I hf st hg;subst hP hw hK;let(vs,ws,sat1,sat2,l1,l2):=hg;let(hz,U,(a,b,hTO),h1,h2):=st;have hT:s.TypeIs (.ref z) "zip":=(_,hz,rfl);have fz:=hf z (!2);have fTO:=hf TO (!2);have fi1:=hf i1 (!2);have fi2:=hf i2 (!2);let(fp1,P1,S1,O):=drawn (A:=X.A.in1) (I.ok.hd hc) I sat1 fi1.1 h1;let(fp2,P2,S2,Dr2):=drawn (A:=X.A.in1) (I.ok.hd hc) I sat2 fi2.1 h2;have no1:∀e,H e=none->e≠i1->∀c∈fp1,c≠e:=λe he hei c hc z=>by
   rcases O.fp c hc with q|q
   .exact hei (z.symm.trans q)
   .have:=sat1.no he;cases k with
    |lst a=>injection q with q;exact this (q.trans z)
    |tup a=>injection q with q;exact this (q.trans z)
    |str _ _=>cases q
  have no2:∀e,H e=none->e≠i2->∀c∈fp2,c≠e:=λe he hei c hc z=>by
   rcases Dr2.fp c hc with q|q
   .exact hei (z.symm.trans q)
   .have:=sat2.no he;cases l with
    |lst a=>injection q with q;exact this (q.trans z)
    |tup a=>injection q with q;exact this (q.trans z)
    |str _ _=>cases q
  have f1:∀c∈fp1,c≠z/\c≠TO/\c≠i2:=λc hc=>(no1 z fz.1 D.i1z.symm c hc,no1 TO fTO.1 D.TOi1 c hc,no1 i2 fi2.1 D.i12.symm c hc);have f2:∀c∈fp2,c≠z/\c≠TO/\c≠i1:=λc hc=>(no2 z fz.1 D.i2z.symm c hc,no2 TO fTO.1 D.TOi2 c hc,no2 i1 fi1.1 D.i12 c hc);have ltz:z<(~~~s):=aE hz;have ltTI:TI<(~~~s):=aE U;have ltTO:TO<(~~~s):=aE hTO;have lti1:i1<(~~~s):=by let(_,e,_):=h1;exact aE e
  have lti2:i2<(~~~s):=by let(_,e,_):=h2;exact aE e
  unfold pyNext;show af (wpAny_attempt (gt (name:=⇑"__next__") hT F.slot_zip_next
   (fv F.slot_zip_next hT F.entry_zip_next (aaq D O.D Dr2.D f1 f2 hz U hTO O.st Dr2.st l1 l2 λh' tk c d pc pd a1 a2 a3 a4 a5 a6 hk=>am ?_) (F.args_zip_next_1 _))))
  let(y,hy,ry):=O.val _ _ pc;let(y',hy',ry'):=Dr2.val _ _ pd;show(_,rfl,?_);show wpAny_letOwnedTupleGo_zip a1 λh2' hz2 hs2=>?_;have hs2':Heap.SameBut z h' h2':=hs2;have hn:H (~~~s)=none:=I.hok.fresh (ay _);have k2:∀b o,b∉[z,TI,TO,i1,i2]->s.heap.get? b=-o->h2'.get? b=-o:=λb o hb q=>by
   have J:b≠z/\b≠TI/\b≠TO/\b≠i1/\b≠i2:=by simpa using hb
   exact hs2'.extBut b o J.1 (hk b o J.1 J.2.2.1 J.2.2.2.1 J.2.2.2.2 q)
  have I2:Inv X p9 Y H {s with heap:=h2',toks:=tk}:=I.turnedL hf k2;have ht2:h2'.get? (~~~s)=-{cls:=.type "tuple",data:=.seq #[c,d]}:=hs2'.extBut _ _ (gc ltz) a5;have ob:ObjOk X.prog X.w (upd H (~~~s) (.tup [y,y'])) h2' (~~~s) (.tup [y,y']):=
   (by rw[eT];simp,[c,d],.cons ry (.cons ry' .nil),(_,ht2,rfl,_,rfl))
  have I3:=I2.track (I.fpOk (ay _) hn) ob;show(.ref (~~~s),_,I3,rfl,((~~~s),y,y',hn,rfl,rfl,λus hu=>by rw[yM hu sat1];exact hy,λus hu=>by rw[yM hu sat2];exact hy'),
   (hz2,hs2'.extBut _ _ D.TIz (hk _ _ D.TIz D.TITO D.TIi1 D.TIi2 U),(_,_,hs2'.extBut _ _ D.TOz a2),(O.pos _ _ a3).keep λo e=>hs2'.extBut _ _ D.i1z e,(Dr2.pos _ _ a4).keep λo e=>hs2'.extBut _ _ D.i2z e),λb hb=>?_)
  have J:b=z\/b=TI\/b=TO\/b=i1\/b=i2:=by simpa using hb
  rw[aH (by rcases J with rfl|rfl|rfl|rfl|rfl<;>exact ci ‹_›)];exact(hf b hb).1
 done:=by
  intro X hP hw hK hc i p9 s Y H E I hf st hg;subst hP hw hK;let(vs,ws,sat1,sat2,hend):=hg;let(hz,U,(a,b,hTO),h1,h2):=st;have hT:s.TypeIs (.ref z) "zip":=(_,hz,rfl);have fz:=hf z (!2);have fTO:=hf TO (!2);have fi1:=hf i1 (!2);have fi2:=hf i2 (!2);let(fp1,P1,S1,O):=drawn (A:=X.A.in1) (I.ok.hd hc) I sat1 fi1.1 h1;let(fp2,P2,S2,Dr2):=drawn (A:=X.A.in1) (I.ok.hd hc) I sat2 fi2.1 h2;have no1:∀e,H e=none->e≠i1->∀c∈fp1,c≠e:=λe he hei c hc z=>by
   rcases O.fp c hc with q|q
   .exact hei (z.symm.trans q)
   .have:=sat1.no he;cases k with
    |lst a=>injection q with q;exact this (q.trans z)
    |tup a=>injection q with q;exact this (q.trans z)
    |str _ _=>cases q
  have no2:∀e,H e=none->e≠i2->∀c∈fp2,c≠e:=λe he hei c hc z=>by
   rcases Dr2.fp c hc with q|q
   .exact hei (z.symm.trans q)
   .have:=sat2.no he;cases l with
    |lst a=>injection q with q;exact this (q.trans z)
    |tup a=>injection q with q;exact this (q.trans z)
    |str _ _=>cases q
  have f1:∀c∈fp1,c≠z/\c≠TO/\c≠i2:=λc hc=>(no1 z fz.1 D.i1z.symm c hc,no1 TO fTO.1 D.TOi1 c hc,no1 i2 fi2.1 D.i12.symm c hc);have f2:∀c∈fp2,c≠z/\c≠TO/\c≠i1:=λc hc=>(no2 z fz.1 D.i2z.symm c hc,no2 TO fTO.1 D.TOi2 c hc,no2 i1 fi1.1 D.i12 c hc);have fin:∀(h':Heap)(tk:Nat)(e:AQ),(∀c o,c≠z->c≠TO->c≠i1->c≠i2->s.heap.get? c=-o->h'.get? c=-o)->Inv X p9 Y H {s with heap:=h',toks:=tk}:=λh' tk e hk=>I.turnedL (t':=tk) hf λb o hb q=>by
   have J:b≠z/\b≠TI/\b≠TO/\b≠i1/\b≠i2:=by simpa using hb
   exact hk b o J.1 J.2.2.1 J.2.2.2.1 J.2.2.2.2 q
  unfold pyNext;show af (wpAny_attempt (gt (name:=⇑"__next__") hT F.slot_zip_next
   (fv F.slot_zip_next hT F.entry_zip_next ?_ (F.args_zip_next_1 _))))
  rcases hend with⟨e1,_⟩|⟨e1,e2⟩
  .subst e1;show aar D O.D (λc hc=>(f1 c hc).1) hz U hTO O.st λh' e hk he=>?_;let(o,ho,hc'):=he;show af (wpAny_isInstance (T:="StopIteration") (b:=true) (o,ho,hc') isSubtype_stop ?_);exact am (rfl,fin h' s.toks e hk)
  .show aas D O.D Dr2.D f1 f2 hz U hTO O.st Dr2.st e1 e2.symm λh' tk e hk he=>?_;let(o,ho,hc'):=he;show af (wpAny_isInstance (T:="StopIteration") (b:=true) (o,ho,hc') isSubtype_stop ?_);exact am (rfl,fin h' tk e hk)
 self:=λA i s Q E st h=>wpAny_pyIter_zip st.1 h
open Sem (wp)
open AutoSeq1 (wpAny_loadPart')
set_option maxHeartbeats 1000000 in
theorem aau(l:AQ)(y:Array AN)(n:Nat)(z:Option AQ)(Y:Array (Option AN)):
  Meets (Builtin.«enumerate.__new__» ([.type "enumerate",.ref l],[])) (λx R s=>s.heap.get? l=-{cls:=.type "tuple",dict:=z,data:=.seq y n,slots:=Y}/\
   R (.ok (.ret (.ref (s.heap.push {cls:=.type "tuple_iterator",data:=.fields #[.ref l,.int 0 0]}).objs.size)))
    {s with heap:=(s.heap.push {cls:=.type "tuple_iterator",data:=.fields #[.ref l,.int 0 0]}).push {cls:=.type "enumerate",data:=.fields #[.none,.bool false,.ref (~~~s),rawInt 0,.none,.none]}}):=
 .of_wp λprog w A R s h=>by
  let(U,g,d,tk,os):=s;let(hl,h):=h;have O:=sub_enumerate;have J:Heap.IsTuple (Shared.heap (U,g,d,tk,os)) l y:=(_,hl,rfl,n,rfl);wp_walk using wpAny_loadPart' hl
  show wpAny_stack_any λst=>am ?_;split
  .rename_i c _ _ _ _ _;cases(c==Value.type "enumerate")
   .wp_walk using wpAny_loadPart' hl,wpAny_pyIter_tuple J
    exact(_,rfl,h)
   .wp_walk using wpAny_loadPart' hl,wpAny_pyIter_tuple J
    exact(_,rfl,h)
  .wp_walk using wpAny_loadPart' hl,wpAny_pyIter_tuple J
   exact(_,rfl,h)
abbrev qT(h:Heap)(k:SK):Heap:=h.push k.obj
abbrev qU(h:Heap)(k l:SK):Heap:=(qT h k).push l.obj
abbrev qW (h:Heap) (k l:SK):Heap:=(qU h k l).push {cls:=.type "tuple",data:=.seq #[.ref h.objs.size,.ref (qT h k).objs.size]}
abbrev qX (h:Heap) (k l:SK):Heap:=(qW h k l).push {cls:=.type "tuple",data:=.seq #[.none,.none]}
abbrev jh (h:Heap) (k l:SK):Heap:=(qX h k l).push {cls:=.type "zip",data:=.fields #[.none,.bool false,.bool false,.ref (qU h k l).objs.size,.ref (qW h k l).objs.size]}
def aav(k l:SK)(xs ys:Array AN):
  Meets (Builtin.«zip.__new__» ([.type "zip",k.val,l.val],[])) (λx R s=>k.On xs s.heap/\l.On ys s.heap/\R (.ok (.ret (.ref (qX s.heap k l).objs.size))) {s with heap:=jh s.heap k l}):=
 .of_wp λprog w A R s h=>by
  let(J,g,d,tk,os):=s;let(h1,h2,h):=h;have O:=sub_zip;have y:k.On xs (Shared.heap (J,g,d,tk,os)):=h1;have z:l.On ys (Shared.heap (J.push k.obj,g,d,tk,os)):=SK.On.keeps h2 λb o x e=>ag _ e;wp_walk using SK.iter y,SK.iter z
  exact(_,rfl,h)
section
variable {prog:AK} {w:World} {A:AM} {E:AG} {s:AI}
def aaw{k l:SK}{xs ys:Array AN}(h1:k.On xs s.heap)(h2:l.On ys s.heap)(h:∀h',IsZip h' ((~~~s)+4) ((~~~s)+2) ((~~~s)+3) .none->IsPair h' ((~~~s)+2) (.ref (~~~s)) (.ref ((~~~s)+1))->
   IsPair h' ((~~~s)+3) .none .none->k.pos (~~~s) 0 h'->l.pos ((~~~s)+1) 0 h'->h'.objs.size=(~~~s)+5->
   (∀c o,s.heap.get? c=-o->h'.get? c=-o)->Q (.ref ((~~~s)+4)) {s with heap:=h'}):
  wpAny (model prog w) A (call (.type "zip") [k.val,l.val]) Q E s:=by
 show callType_new F.called_zip (!1) (F.typeCall_zip_2 _ _) (F.newCall_zip_2 _ _) (λobj=>F.args_object_init_3 obj _ _) F.entry_zip_new
  (aav k l xs ys) (h1,h2,?_)
 have z:(qT s.heap k).objs.size=(~~~s)+1:=cK ..;have J:(qU s.heap k l).objs.size=(~~~s)+2:=by rw[cK,z]
 have O:(qW s.heap k l).objs.size=(~~~s)+3:=by rw[cK,J]
 have U:(qX s.heap k l).objs.size=(~~~s)+4:=by rw[cK,O]
 have z5:(jh s.heap k l).objs.size=(~~~s)+5:=by rw[cK,U]
 have y:(jh s.heap k l).get? (qX s.heap k l).objs.size=-_:=bd _ rfl;have g4:(jh s.heap k l).get? (qW s.heap k l).objs.size=-_:=ag _ (bd _ rfl);have g3:(jh s.heap k l).get? (qU s.heap k l).objs.size=-_:=ag _ (ag _ (bd _ rfl));have Y:(jh s.heap k l).get? (qT s.heap k).objs.size=-_:=ag _ (ag _ (ag _ (bd _ rfl)));have g1:(jh s.heap k l).get? (~~~s)=-_:=ag _ (ag _ (ag _ (ag _ (bd _ rfl))));change _/\_;rw[J,O,U]at y;rw[z,J]at g3;rw[O]at g4;rw[z]at Y;rw[U];exact((_,y,rfl),h _ y g3 g4 (_,g1,rfl,rfl) (_,Y,rfl,rfl) z5 λc o x=>
  ag _ (ag _ (ag _ (ag _ (ag _ x)))))
def aax{l:AQ}(O:s.heap.IsTuple l items)(h:∀h',IsEnum h' ((~~~s)+1) (~~~s) 0 .none->h'.IsTupleIter (~~~s) l 0->h'.objs.size=(~~~s)+2->
   (∀b o,s.heap.get? b=-o->h'.get? b=-o)->Q (.ref ((~~~s)+1)) {s with heap:=h'}):
  wpAny (model prog w) A (call (.type "enumerate") [.ref l]) Q E s:=by
 let((c,y,J,U),hl,hc,n,hd):=O;replace hc:c=.type "tuple":=hc;replace hd:J=.seq items n:=hd;subst hc hd;show callType_new F.called_enumerate (!1) (F.typeCall_enumerate_1 _) (F.newCall_enumerate_1 _) (λobj=>F.args_object_init_2 obj _) F.entry_enumerate_new
  (aau l items n y U) (hl,?_)
 have z:(s.heap.push {cls:=.type "tuple_iterator",data:=.fields #[.ref l,.int 0 0]}).objs.size=(~~~s)+1:=cK ..;change _/\_;rw[z];have he:IsEnum ((s.heap.push {cls:=.type "tuple_iterator",data:=.fields #[.ref l,.int 0 0]}).push
   {cls:=.type "enumerate",data:=.fields #[.none,.bool false,.ref (~~~s),rawInt 0,.none,.none]}) ((~~~s)+1) (~~~s) 0 .none:=by
  have:=bd (s.heap.push {cls:=.type "tuple_iterator",data:=.fields #[.ref l,.int 0 0]})
   (o:={cls:=.type "enumerate",data:=.fields #[.none,.bool false,.ref (~~~s),rawInt 0,.none,.none]}) rfl
  rw[z]at this;exact this
 show((_,he,rfl),h _ he (_,ag _ (bd _ rfl),rfl,rfl) (by rw[cK,z]) λb o x=>ag _ (ag _ x))
def aay{k:SK}{xs:Array AN}(h1:k.On xs s.heap)(h:∀h',IsEnum h' ((~~~s)+1) (~~~s) 0 .none->k.pos (~~~s) 0 h'->h'.objs.size=(~~~s)+2->
   (∀b o,s.heap.get? b=-o->h'.get? b=-o)->Q (.ref ((~~~s)+1)) {s with heap:=h'}):
  wpAny (model prog w) A (call (.type "enumerate") [k.val]) Q E s:=by
 cases k with
 |lst a=>exact call_enumerate_list h1 h
 |tup a=>exact aax h1 h
 |str x t=>exact call_enumerate_str h
end
set_option backward.match.sparseCases false
structure OT where
 ms:List (AL×AL×AL×Nat):=[]
 ks:List (AL×Nat):=[]
 fl:List (AL×AL):=[]
 xk:List (AL×AL):=[]
structure CT where
 N:AD
 kd:List (Str×NameKind)
 fn:Bool
 fs:List (AL×Nat)
 bt:List AL
 cn:List (AL×D)
 xs:List (AL×Bool):=[]
 ot:OT:={}
def ji:Option NameKind->Bool
 |some .local=>true
 |some .cell=>true
 |some .free=>true
 |_=>false
def CT.sto(c:CT)(x:Str):Bool:=c.kd.lookup x==-.local||(c.fn&&c.kd.lookup x==-.cell)
def okN(x:Str):Bool:=!(x==("__debug__":Str))&&!(x==("__classdict__":Str))&&!(x==("__name__":Str))
def CT.glo(c:CT)(x:Str):Bool:=c.kd.lookup x==-.globalImplicit&&okN x
def sEq:D->D->Bool
 |.non,.non=>true
 |.bl a,.bl b=>a==b
 |.int a,.int b=>a==b
 |.str a,.str b=>a==b
 |_,_=>false
def aaz{a b:D}(h:sEq a b):a=b:=by cases a<;>cases b<;>simp_all [sEq]
def qY(d:D)(k:Const):Bool:=
 match d,k with
 |.non,.none=>true
 |.bl a,.bool b=>a==b
 |.int a,.int b=>a==b
 |.str a,.str b=>a==b.cps.toList&&decide (a⁻¹<=sz)
 |_,_=>false
def Bf.name:Bf->AL
 |.len=>"len"
 |.all=>"all"
 |.int=>"int"
 |.tuple=>"tuple"
 |.sum=>"sum"
 |.min=>"min"
 |.max=>"max"
 |.abs=>"abs"
 |.min2=>"min"
 |.str=>"str"
def yN:Bf->Bool
 |.sum=>false
 |.min=>true
 |.max=>false
 |.abs=>false
 |.min2=>false
 |.str=>true
 |_=>true
def yO:Lf->Bool
 |.sorted=>false
 |_=>true
def Lf.name:Lf->AL
 |.list=>"list"
 |.sorted=>"sorted"
def Mf.name:Mf->AL
 |.join=>"join"
 |.append=>"append"
 |.extend=>"extend"
 |.count=>"count"
 |.index=>"index"
def qZ:AO->Bool
 |.Name _ _=>true
 |.Subscript _ _ _=>true
 |_=>false
def aaA{v:AO}(h:qZ v)(name:Str)(env:Env):attributeBase v name env (eval v env)=eval v env:=by cases v<;>first|rfl|cases h
def q8:AO->Bool
 |.Call (.Name _ _) [] [] _=>true
 |_=>false
def dm:AO->Bool
 |.ListComp ..=>true
 |.SetComp ..=>true
 |.DictComp ..=>true
 |_=>false
def jj:AO->Bool
 |.UnaryOp .Not _ _=>false
 |.BoolOp ..=>false
 |.IfExp ..=>false
 |.Compare ..=>false
 |_=>true
def iz(N:AD)(scope:Scope):AD->List (Option Nat)->Bool
 |[],[]=>true
 |_::N',none::cap=>iz N scope N' cap
 |x::N',-j::cap=>(N[j]?==-x)&&(scope.names.lookup x==-NameKind.free)&&iz N scope N' cap
 |_,_=>false
def jX(c:CT)(scope:Scope):Bool:=
 scope.names.all (λy=>y.2 != NameKind.cell)&&scope.names.all (λy=>y.2 != NameKind.local||scope.names.lookup y.1==-NameKind.local) &&
 scope.names.all (λy=>y.2 != NameKind.free||(c.kd.lookup y.1==-NameKind.cell||c.kd.lookup y.1==-NameKind.free))&&decide (scope.kind=.function)&&decide (c.kd=c.kd)
def CT.comp(c:CT)(N:AD)(scope:Scope):CT:={N:=N,kd:=scope.names,fn:=false,fs:=c.fs,bt:=c.bt,cn:=c.cn,ot:=c.ot}
def fW:AD->Bool
 |[]=>true
 |x::r=>!r.contains x&&fW r
def asName(e:AO):Option {t:Str×Pos // e=.Name t.1 t.2}:=match e with
 |.Name a0 a1=>-((a0,a1),rfl)
 |_=>none
def akS(e:AO):Option {t:AO×Pos // e=.Starred t.1 t.2}:=match e with
 |.Starred a0 a1=>-((a0,a1),rfl)
 |_=>none
def q9(e:AO):Option {t:Const×Nat×Pos // e=.Constant t.1 t.2.1 t.2.2}:=match e with
 |.Constant a0 a1 a2=>-((a0,a1,a2),rfl)
 |_=>none
def HX(e:AO):Option {t:AO×Operator×AO×Pos // e=.BinOp t.1 t.2.1 t.2.2.1 t.2.2.2}:=match e with
 |.BinOp a0 a1 a2 a3=>-((a0,a1,a2,a3),rfl)
 |_=>none
def jY(e:AO):Option {t:UnaryOp×AO×Pos // e=.UnaryOp t.1 t.2.1 t.2.2}:=match e with
 |.UnaryOp a0 a1 a2=>-((a0,a1,a2),rfl)
 |_=>none
def mG(e:AO):Option {t:AO×List CmpOp×AE×Pos // e=.Compare t.1 t.2.1 t.2.2.1 t.2.2.2}:=match e with
 |.Compare a0 a1 a2 a3=>-((a0,a1,a2,a3),rfl)
 |_=>none
def rm(e:AO):Option {t:BoolOp×AE×Pos // e=.BoolOp t.1 t.2.1 t.2.2}:=match e with
 |.BoolOp a0 a1 a2=>-((a0,a1,a2),rfl)
 |_=>none
def HY(e:AO):Option {t:AO×AO×AO×Pos // e=.IfExp t.1 t.2.1 t.2.2.1 t.2.2.2}:=match e with
 |.IfExp a0 a1 a2 a3=>-((a0,a1,a2,a3),rfl)
 |_=>none
def iB(e:AO):Option {t:AE×Nat×Pos // e=.Tuple t.1 t.2.1 t.2.2}:=match e with
 |.Tuple a0 a1 a2=>-((a0,a1,a2),rfl)
 |_=>none
def asList(e:AO):Option {t:AE×Pos // e=.List t.1 t.2}:=match e with
 |.List a0 a1=>-((a0,a1),rfl)
 |_=>none
def jZ(e:AO):Option {t:AO×AO×Pos // e=.Subscript t.1 t.2.1 t.2.2}:=match e with
 |.Subscript a0 a1 a2=>-((a0,a1,a2),rfl)
 |_=>none
def H9(e:AO):Option {t:Option AO×Option AO×Option AO×Pos // e=.Slice t.1 t.2.1 t.2.2.1 t.2.2.2}:=match e with
 |.Slice a0 a1 a2 a3=>-((a0,a1,a2,a3),rfl)
 |_=>none
def mH(e:AO):Option {t:AO×AE×List Keyword×Pos // e=.Call t.1 t.2.1 t.2.2.1 t.2.2.2}:=match e with
 |.Call a0 a1 a2 a3=>-((a0,a1,a2,a3),rfl)
 |_=>none
def j5(e:AO):Option {t:AO×Str×Pos // e=.Attribute t.1 t.2.1 t.2.2}:=match e with
 |.Attribute a0 a1 a2=>-((a0,a1,a2),rfl)
 |_=>none
def Ia(e:AO):Option {t:AO×List Comprehension×Scope×Pos // e=.ListComp t.1 t.2.1 t.2.2.1 t.2.2.2}:=match e with
 |.ListComp a0 a1 a2 a3=>-((a0,a1,a2,a3),rfl)
 |_=>none
def yP(e:Stmt):Option {t:AO×Pos // e=.Expr t.1 t.2}:=match e with
 |.Expr a0 a1=>-((a0,a1),rfl)
 |_=>none
def gO(e:Stmt):Option {t:AE×AO×Pos // e=.Assign t.1 t.2.1 t.2.2}:=match e with
 |.Assign a0 a1 a2=>-((a0,a1,a2),rfl)
 |_=>none
def Ib(e:Stmt):Option {t:AO×Operator×AO×Pos // e=.AugAssign t.1 t.2.1 t.2.2.1 t.2.2.2}:=match e with
 |.AugAssign a0 a1 a2 a3=>-((a0,a1,a2,a3),rfl)
 |_=>none
def rn(e:Stmt):Option {t:Option AO×Option AO×Pos // e=.Raise t.1 t.2.1 t.2.2}:=match e with
 |.Raise a0 a1 a2=>-((a0,a1,a2),rfl)
 |_=>none
def Ie(e:Stmt):Option {t:AF×List ExceptHandler×AF×AF×Pos // e=.Try t.1 t.2.1 t.2.2.1 t.2.2.2.1 t.2.2.2.2}:=match e with
 |.Try a0 a1 a2 a3 a4=>-((a0,a1,a2,a3,a4),rfl)
 |_=>none
def Ig(e:ExceptHandler):Option {t:Option AO×Option Str×AF×Pos // e=.ExceptHandler t.1 t.2.1 t.2.2.1 t.2.2.2}:=match e with
 |.ExceptHandler a0 a1 a2 a3=>-((a0,a1,a2,a3),rfl)
def rz(e:AO):Option {t:AO×Int×Option AO×Pos // e=.FormattedValue t.1 t.2.1 t.2.2.1 t.2.2.2}:=match e with
 |.FormattedValue a0 a1 a2 a3=>-((a0,a1,a2,a3),rfl)
 |_=>none
def yQ(e:AO):Option {t:AE×Pos // e=.JoinedStr t.1 t.2}:=match e with
 |.JoinedStr a0 a1=>-((a0,a1),rfl)
 |_=>none
def aaB(k:Const):Option {x:Str // k=.str x}:=match k with
 |.str x=>-(x,rfl)
 |_=>none
def akT(b:Bool)(k:Const):Bool:=match k with
 |.bool c=>c==b
 |_=>false
def rA(e:Stmt):Option {t:Option AO×Pos // e=.Return t.1 t.2}:=match e with
 |.Return a0 a1=>-((a0,a1),rfl)
 |_=>none
def Ih(e:Stmt):Option {t:AO×AF×AF×Pos // e=.If t.1 t.2.1 t.2.2.1 t.2.2.2}:=match e with
 |.If a0 a1 a2 a3=>-((a0,a1,a2,a3),rfl)
 |_=>none
def Ii(e:Stmt):Option {t:AO×AO×AF×AF×Pos // e=.For t.1 t.2.1 t.2.2.1 t.2.2.2.1 t.2.2.2.2}:=match e with
 |.For a0 a1 a2 a3 a4=>-((a0,a1,a2,a3,a4),rfl)
 |_=>none
def akU(e:Stmt):Option {t:AO×AF×AF×Pos // e=.While t.1 t.2.1 t.2.2.1 t.2.2.2}:=match e with
 |.While a0 a1 a2 a3=>-((a0,a1,a2,a3),rfl)
 |_=>none
def Ij(e:Stmt):Option {t:Pos // e=.Pass t}:=match e with
 |.Pass a0=>-(a0,rfl)
 |_=>none
def Ik(e:Stmt):Option {t:Pos // e=.Break t}:=match e with
 |.Break a0=>-(a0,rfl)
 |_=>none
def Il(e:Stmt):Option {t:Pos // e=.Continue t}:=match e with
 |.Continue a0=>-(a0,rfl)
 |_=>none
def one{y:Type}:List y->Option y
 |[a]=>-a
 |_=>none
def three{J:Type}:List J->Option (J×J×J)
 |[x,y,z]=>-(x,y,z)
 |_=>none
def two{y:Type}:List y->Option (y×y)
 |[a,b]=>-(a,b)
 |_=>none
def hdT{y:Type}:List y->Option (y×List y)
 |a::r=>-(a,r)
 |[]=>none
def cP{y:Type}{l:List y}{a:y}(h:one l=-a):l=[a]:=by
 cases l with
 |nil=>cases h
 |cons x r=>cases r with
  |nil=>cases h;rfl
  |cons _ _=>cases h
def jk{z:Type}{l:List z}{a:z×z}(h:two l=-a):l=[a.1,a.2]:=by
 cases l with
 |nil=>cases h
 |cons x r=>cases r with
  |nil=>cases h
  |cons y r=>cases r with
   |nil=>cases h;rfl
   |cons _ _=>cases h
def Im{y:Type}{l:List y}{a:y×List y}(h:hdT l=-a):l=a.1::a.2:=by
 cases l with
 |nil=>cases h
 |cons x r=>cases h;rfl
def aQ{y:Type}{o:Option y}{p:y->Bool}(h:o.any p):∃t,o=-t/\p t=true:=by
 cases o with
 |none=>cases h
 |some t=>exact(t,rfl,h)
def yR:UnaryOp->Bool
 |.USub=>true
 |_=>false
def mJ:UnaryOp->Bool
 |.Not=>true
 |_=>false
def aaC{o:UnaryOp}(h:yR o):o=.USub:=by cases o<;>first|rfl|cases h
def Io{o:UnaryOp}(h:mJ o):o=.Not:=by cases o<;>first|rfl|cases h
def bI(e:AO):Option (Str×Pos×AE×Pos):=(mH e).bind λt=>(asName t.1.1).bind λn=>match t.1.2.2.1 with |[]=>-(n.1.1,n.1.2,t.1.2.1,t.1.2.2.2)|_::_=>none
def az{y:Type}{q:y->Prop}(o:Option {t:y // q t})(P:y->Bool):Bool:=match o with|some t=>P t.1|none=>false
def aJ{y:Type}{q:y->Prop}{o:Option {t:y // q t}}{P:y->Bool}(h:az o P):∃t,q t/\P t=true:=by
 cases o with
 |none=>cases h
 |some t=>exact(t.1,t.2,h)
def Ip{y z:Type}{o:Option y}{f:y->Option z}{b:z}(h:o.bind f=-b):∃t,o=-t/\f t=-b:=by
 cases o with
 |none=>cases h
 |some t=>exact(t,rfl,h)
def dW{t:Str×Pos×AE×Pos}(h:bI e=-t):e=.Call (.Name t.1 t.2.1) t.2.2.1 [] t.2.2.2:=by
 let(((f,as,ks,p),y),_,h):=Ip h;let(((x,z),hn),_,h):=Ip h;dsimp only at h hn y;cases ks with
 |nil=>cases h;rw[y,hn]
 |cons _ _=>cases h
def akV(e:AO):Option (Str×Pos×AO×AO×Pos×Pos):=(mH e).bind λt=>(asName t.1.1).bind λn=>(one t.1.2.1).bind λv=>(one t.1.2.2.1).bind λy=>if y.arg=-(⇑"start") then some (n.1.1,n.1.2,v,y.value,y.pos,t.1.2.2.2) else none
def mK(e:AO):Bool:=(mG e).isSome
def Ir:Ex->Bool
 |.frz _=>false
 |_=>true
def yS:Tx->Bool
 |.yes=>true
 |_=>false
mutual
def cX(c:CT):Tg->AO->Bool
 |.nm i,e=>az (asName e) λt=>(c.N[i]?==-t.1)&&c.sto t.1
 |.tp ts,e=>az (iB e) λt=>cU c ts t.1
def cU(c:CT):Tgs->AE->Bool
 |.nil,es=>es.isEmpty
 |.cons t r,es=>match es with
  |e::es=>cX c t e&&cU c r es
  |[]=>false
end
def yU(e:AO):Bool:=az (q9 e) λt=>az (aaB t.1) λx=>decide (x⁻¹<=1000)
def unF(e:AO):AO:=match rz e with|some t=>t.1.1|none=>e
def yV:Ex->Bool
 |.cst (.str _)=>true
 |_=>false
def j6:Exs->AE->Bool
 |.cons x xs,p::ps=>(match rz p with|some t=>decide (t.1.2.1=Neg.neg 1)&&t.1.2.2.1.isNone|none=>yV x)&&j6 xs ps
 |.nil,ps=>ps.isEmpty
 |_,[]=>false
mutual
def aa(c:CT):Ex->AO->Bool
 |.var i,e=>az (asName e) λt=>(c.N[i]?==-t.1)&&ji (c.kd.lookup t.1)&&okN t.1
 |.cst d,e=>az (q9 e) λt=>qY d t.1
 |.glb x d,e=>az (asName e) λt=>t.1==⇑x&&c.glo t.1&&c.cn.any (λp=>p.1==x&&sEq p.2 d)
 |.bin op _ a b,e=>az (HX e) λt=>t.2.1==op&&aa c a t.1&&aa c b t.2.2.1
 |.neg a,e=>az (jY e) λt=>yR t.1&&aa c a t.2.1
 |.cmp op a b,e=>az (mG e) λt=>(one t.2.1).any λo=>(one t.2.2.1).any λr=>o==op&&aa c a t.1&&aa c b r
 |.chn op op' a b d,e=>az (mG e) λt=>(two t.2.1).any λo=>(two t.2.2.1).any λr=>o.1==op&&o.2==op'&&aa c a t.1&&aa c b r.1&&aa c d r.2
 |.not a,e=>az (jY e) λt=>mJ t.1&&aa c a t.2.1
 |.boo isAnd x es,e=>az (rm e) λt=>(hdT t.2.1).any λv=>t.1==(if isAnd then .And else .Or)&&aa c x v.1&&aM c es v.2
 |.ife t a b,e=>az (HY e) λu=>bW c t u.1&&aa c a u.2.1&&aa c b u.2.2.1
 |.tup es,e=>az (iB e) λt=>aM c es t.1
 |.lst _ es,e=>az (asList e) λt=>aM c es t.1
 |.idx a i,e=>az (jZ e) λt=>aa c a t.1&&aa c i t.2.1
 |.slc _ a lo hi,e=>az (jZ e) λt=>az (H9 t.2.1) λs=>s.2.2.1.isNone&&(aa c a t.1&&gP c lo s.1&&gP c hi s.2.1)
 |.call f es,e=>(bI e).any λt=>t.1==⇑f&&c.glo t.1&&(c.fs.any λp=>p.1==f&&p.2==t.2.2.1⁻¹)&&!t.2.2.1.isEmpty&&aM c es t.2.2.1
 |.bcl f es,e=>(bI e).any λt=>t.1==⇑f.name&&yN f&&c.glo t.1&&c.bt.contains f.name&&!t.2.2.1.isEmpty&&aM c es t.2.2.1
 |.lcl _ f es,e=>(bI e).any λt=>t.1==⇑f.name&&yO f&&c.glo t.1&&c.bt.contains f.name&&!t.2.2.1.isEmpty&&aM c es t.2.2.1
 |.isi a t,e=>(bI e).any λu=>(two u.2.2.1).any λv=>az (asName v.2) λy=>u.1==⇑"isinstance"&&c.glo u.1&&c.bt.contains "isinstance"&&aa c a v.1&&y.1==⇑t&&c.glo y.1&&c.bt.contains t&&gG t
 |.isx a C xs,e=>(bI e).any λu=>(two u.2.2.1).any λv=>az (asName v.2) λy=>u.1==⇑"isinstance"&&c.glo u.1&&c.bt.contains "isinstance"&&aa c a v.1&&y.1==⇑C&&c.glo y.1&&c.xs.contains (C,false)&&xs.all λx=>c.xs.contains (x,true)||c.ot.xk.any λp=>p.1==x
 |.fst es,e=>az (yQ e) λt=>decide (2<=t.1⁻¹)&&decide (t.1⁻¹<=50)&&j6 es t.1&&aM c es (t.1.map unF)
 |.srs _ a,e=>(bI e).any λt=>(one t.2.2.1).any λe1=>(bI e1).any λu=>(one u.2.2.1).any λe2=>t.1==⇑"sorted"&&c.glo t.1&&c.bt.contains "sorted"&&u.1==⇑"set"&&c.glo u.1&&c.bt.contains "set"&&aa c a e2
 |.xat C f a,e=>az (j5 e) λt=>qZ t.1&&(t.2.1==⇑f&&c.ot.xk.contains (C,f)&&aa c a t.1)
 |.mth m o es,e=>az (mH e) λt=>az (j5 t.1) λv=>t.2.2.1.isEmpty&&(v.2.1==⇑m.name&&aa c o v.1&&!q8 v.1&&(v.2.2.endLine==t.2.2.2.line)&&decide (t.2.1⁻¹<29)&&!t.2.1.isEmpty&&aM c es t.2.1)
 |.comp _ elt tg it cond N cap,e=>az (Ia e) λt=>(one t.2.1).any λg=>decide (g.is_async=0)&&cY c it g.target g.iter&&iz c.N t.2.2.1 (N.map Str.ofString) cap&&jX c t.2.2.1&&fW (N.map Str.ofString) &&
    cX (c.comp (N.map Str.ofString) t.2.2.1) tg g.target&&((yS cond&&g.ifs.isEmpty)||(one g.ifs).any λf=>bW (c.comp (N.map Str.ofString) t.2.2.1) cond f)&&aa (c.comp (N.map Str.ofString) t.2.2.1) elt t.1
 |.frz a,e=>aa c a e
def bW(c:CT):Tx->AO->Bool
 |.val x,e=>(jj e||mK e)&&aa c x e&&Ir x
 |.not t,e=>az (jY e) λu=>mJ u.1&&bW c t u.2.1
 |.boo isAnd t ts,e=>az (rm e) λu=>(hdT u.2.1).any λv=>u.1==(if isAnd then .And else .Or)&&bW c t v.1&&jm c ts v.2
 |.yes,_=>false
def jm(c:CT):Txs->AE->Bool
 |.nil,es=>es.isEmpty
 |.cons t r,es=>match es with
  |e::es=>bW c t e&&jm c r es
  |[]=>false
def aM(c:CT):Exs->AE->Bool
 |.nil,es=>es.isEmpty
 |.cons t r,es=>match es with
  |e::es=>aa c t e&&aM c r es
  |[]=>false
def gP(c:CT):Ox->Option AO->Bool
 |.no,e=>e.isNone
 |.ob x,e=>match e with
  |some e=>aa c x e
  |none=>false
def cY(c:CT):It'->AO->AO->Bool
 |.seq x,_,e=>aa c x e
 |.rng a,_,e=>(bI e).any λt=>(one t.2.2.1).any λv=>t.1==⇑"range"&&c.glo t.1&&c.bt.contains "range"&&aa c a v
 |.enm a,tg,e=>az (iB tg) λz=>(bI e).any λt=>(one t.2.2.1).any λv=>t.1==⇑"enumerate"&&c.glo t.1&&c.bt.contains "enumerate"&&aa c a v
 |.zip a b,tg,e=>az (iB tg) λz=>(bI e).any λt=>(two t.2.2.1).any λv=>t.1==⇑"zip"&&c.glo t.1&&c.bt.contains "zip"&&aa c a v.1&&aa c b v.2
end
def mL(c:CT)(y:Tx)(z:AE):Bool:=(yS y&&z.isEmpty)||(one z).any λf=>bW c y f
def Iu:Ex->Bool
 |.comp ..=>true
 |_=>false
def Iv:AO->Bool
 |.Tuple ..=>true
 |_=>false
def yW(g:Tg)(x:Ex)(e:AO):Bool:=match g with |.nm _=>!dm e||Iu x |.tp _=>!Iv e&&!dm e
def mO(c:CT):Exs->AE->Bool
 |es,[]=>(match es with |.nil=>true|_=>false)
 |es,p::ps=>match yU p with
  |true=>mO c es ps
  |false=>(match es with |.cons x r=>(az (rz p) λt=>decide (t.2.1=Neg.neg 1)&&t.2.2.1.isNone&&aa c x t.1)&&mO c r ps |.nil=>false)
def rB(c:CT)(es:Exs)(e:AO):Bool:=(match es with |.nil=>yU e|_=>false)||az (yQ e) λt=>decide (2<=t.1⁻¹)&&decide (t.1⁻¹<=50)&&mO c es t.1
def j7(c:CT):Tb->AF->Bool
 |.call _ _,_=>false
 |.pick _ _ _ _,_=>false
 |.asg i f es,sts=>(one sts).any λz=>az (gO z) λa=>(one a.1).any λtg=>az (asName tg) λy=>(bI a.2.1).any λu=>(c.N[i]?==-y.1&&c.sto y.1&&okN y.1)&&(u.1==⇑f&&c.glo u.1&&(c.fs.any λp=>p.1==f&&p.2==u.2.2.1⁻¹)&&!u.2.2.1.isEmpty&&aM c es u.2.2.1)
 |.ite _ _ _,_=>false
def yX(b:Bool):Const->Bool
 |.bool x=>x==b
 |_=>false
def rD(c:CT)(h:Hd)(nm:Option Str)(y:Str)(e:AO):Bool:=(match h with
 |.flag i b=>nm.isNone&&(c.N[i]?==-y)&&az (q9 e) λk=>yX b k.1
 |.bind n i=>nm.any λx=>(c.N[i]?==-y)&&(c.N[n]?==-x)&&(c.kd.lookup x==-.local)&&okN x&&az (asName e) λz=>z.1==x)&&c.sto y&&okN y
mutual
def bG(c:CT):Sx->Stmt->Bool
 |.exp x,st=>az (yP st) λt=>!dm t.1&&aa c x t.1
 |.asg g x,st=>az (gO st) λt=>(one t.1).any λtg=>cX c g tg&&aa c x t.2.1&&yW g x t.2.1
 |.set o i x,st=>az (gO st) λt=>(one t.1).any λtg=>az (jZ tg) λu=>aa c o u.1&&aa c i u.2.1&&aa c x t.2.1&&!dm t.2.1
 |.aug i op x,st=>az (Ib st) λt=>az (asName t.1) λy=>t.2.1==op&&(c.N[i]?==-y.1)&&c.sto y.1&&okN y.1&&aa c x t.2.2.1
 |.ret x,st=>az (rA st) λt=>t.1.any λe=>aa c x e
 |.rtn,st=>az (rA st) λt=>t.1.isNone
 |.ite t a b,st=>az (Ih st) λu=>bW c t u.1&&aC c a u.2.1&&aC c b u.2.2.1
 |.for_ g it b,st=>az (Ii st) λt=>t.2.2.2.1.isEmpty&&(cX c g t.1&&cY c it t.1 t.2.1&&aC c b t.2.2.1)
 |.pas,st=>(Ij st).isSome
 |.brk,st=>(Ik st).isSome
 |.cnt,st=>(Il st).isSome
 |.nev,_=>true
 |.rse C es,st=>az (rn st) λt=>t.2.1.isNone&&t.1.any λe=>(bI e).any λu=>u.1==⇑C&&c.glo u.1&&c.xs.contains (C,true)&&(one u.2.2.1).any λm=>rB c es m
 |.rsi C e,st=>az (rn st) λt=>t.2.1.isNone&&t.1.any λe0=>(bI e0).any λu=>(one u.2.2.1).any λv=>u.1==⇑C&&c.glo u.1&&c.ot.xk.contains (C,dO C)&&aa c e v
 |.tryx b C h xs,st=>az (Ie st) λt=>t.2.2.1.isEmpty&&t.2.2.2.1.isEmpty&&j7 c b t.1&&(xs.all λx=>c.xs.contains (x,true)||c.ot.xk.contains (x,dO x))&&!(C=="ValueError")&&(one t.2.1).any λhd=>az (Ig hd) λw=>w.1.any λte=>az (asName te) λn=>(n.1==⇑C&&c.glo n.1&&c.xs.contains (C,false))&&(one w.2.2.1).any λs1=>az (gO s1) λa=>(one a.1).any λtg=>az (asName tg) λy=>rD c h w.2.1 y.1 a.2.1
def aC(c:CT):Sxs->AF->Bool
 |.nil,es=>es.isEmpty
 |.cons t r,es=>match es with
  |e::es=>bG c t e&&aC c r es
  |[]=>false
end
def yZ{c:CT}{i:Nat}(h:cX c (.nm i) e):∃x p,e=.Name x p/\((c.N[i]?==-x)&&c.sto x)=true:=by have h:(az (asName e) λt=>(c.N[i]?==-t.1)&&c.sto t.1)=true:=h;let(t,y,h):=aJ h;exact(_,_,y,h)
def za{c:CT}(h:cX c (.tp ts) e):∃es k p,e=.Tuple es k p/\(cU c ts es)=true:=by have h:(az (iB e) λt=>cU c ts t.1)=true:=h;let(t,y,h):=aJ h;exact(_,_,_,y,h)
def Iw{c:CT}{i:Nat}(h:aa c (.var i) e):∃x p,e=.Name x p/\((c.N[i]?==-x)&&ji (c.kd.lookup x)&&okN x)=true:=by have h:(az (asName e) λt=>(c.N[i]?==-t.1)&&ji (c.kd.lookup t.1)&&okN t.1)=true:=h;let(t,y,h):=aJ h;exact(_,_,y,h)
def Iz{c:CT}{d:D}(h:aa c (.cst d) e):∃k n p,e=.Constant k n p/\(qY d k)=true:=by have h:(az (q9 e) λt=>qY d t.1)=true:=h;let(t,y,h):=aJ h;exact(_,_,_,y,h)
def IK{c:CT}{x:AL}{d:D}(h:aa c (.glb x d) e):∃y p,e=.Name y p/\(y==⇑x&&c.glo y&&c.cn.any (λp=>p.1==x&&sEq p.2 d))=true:=by have h:(az (asName e) λt=>t.1==⇑x&&c.glo t.1&&c.cn.any (λp=>p.1==x&&sEq p.2 d))=true:=h;let(t,z,h):=aJ h;exact(_,_,z,h)
def IV{c:CT}{fz:Bool}{a b:Ex}(h:aa c (.bin op fz a b) e):∃l o r p,e=.BinOp l o r p/\(o==op&&aa c a l&&aa c b r)=true:=by have h:(az (HX e) λt=>t.2.1==op&&aa c a t.1&&aa c b t.2.2.1)=true:=h;let(t,y,h):=aJ h;exact(_,_,_,_,y,h)
def IW{c:CT}{a:Ex}(h:aa c (.neg a) e):∃x p,e=.UnaryOp .USub x p/\(aa c a x)=true:=by have h:(az (jY e) λt=>yR t.1&&aa c a t.2.1)=true:=h;let(t,y,h):=aJ h;rw[ae]at h;exact(_,_,by rw[y,aaC h.1],h.2)
def Ja{c:CT}{a:Ex}(h:aa c (.not a) e):∃x p,e=.UnaryOp .Not x p/\(aa c a x)=true:=by have h:(az (jY e) λt=>mJ t.1&&aa c a t.2.1)=true:=h;let(t,y,h):=aJ h;rw[ae]at h;exact(_,_,by rw[y,Io h.1],h.2)
def Jb{c:CT}{op:CmpOp}{a b:Ex}(h:aa c (.cmp op a b) e):∃l o r p,e=.Compare l [o] [r] p/\(o==op&&aa c a l&&aa c b r)=true:=by have h:(az (mG e) λt=>(one t.2.1).any λo=>(one t.2.2.1).any λr=>o==op&&aa c a t.1&&aa c b r)=true:=h;let(t,z,h):=aJ h;let(o,ho,h):=aQ h;let(r,y,h):=aQ h;exact(_,_,_,_,by rw[z,cP ho,cP y],h)
def Jc{c:CT}{op:CmpOp}{a b d:Ex}(h:aa c (.chn op op' a b d) e):∃l o o' m r p,e=.Compare l [o,o'] [m,r] p/\(o==op&&o'==op'&&aa c a l&&aa c b m&&aa c d r)=true:=by have h:(az (mG e) λt=>(two t.2.1).any λo=>(two t.2.2.1).any λr=>o.1==op&&o.2==op'&&aa c a t.1&&aa c b r.1&&aa c d r.2)=true:=h;let(t,z,h):=aJ h;let(o,ho,h):=aQ h;let(r,y,h):=aQ h;exact(_,_,_,_,_,_,by rw[z,jk ho,jk y],h)
def Jd{c:CT}{x:Ex}{es:Exs}(h:aa c (.boo isAnd x es) e):∃op v vs p,e=.BoolOp op (v::vs) p/\(op==(if isAnd then .And else .Or)&&aa c x v&&aM c es vs)=true:=by have h:(az (rm e) λt=>(hdT t.2.1).any λv=>t.1==(if isAnd then .And else .Or)&&aa c x v.1&&aM c es v.2)=true:=h;let(t,y,h):=aJ h;let(v,z,h):=aQ h;exact(_,_,_,_,by rw[y,Im z],h)
def Jf{c:CT}{t:Tx}{a b:Ex}(h:aa c (.ife t a b) e):∃t' y z p,e=.IfExp t' y z p/\(bW c t t'&&aa c a y&&aa c b z)=true:=by have h:(az (HY e) λu=>bW c t u.1&&aa c a u.2.1&&aa c b u.2.2.1)=true:=h;let(u,J,h):=aJ h;exact(_,_,_,_,J,h)
def Jg{c:CT}{es:Exs}(h:aa c (.tup es) e):∃vs k p,e=.Tuple vs k p/\(aM c es vs)=true:=by have h:(az (iB e) λt=>aM c es t.1)=true:=h;let(t,y,h):=aJ h;exact(_,_,_,y,h)
def Jh{c:CT}{fz:Bool}{es:Exs}(h:aa c (.lst fz es) e):∃vs p,e=.List vs p/\(aM c es vs)=true:=by have h:(az (asList e) λt=>aM c es t.1)=true:=h;let(t,y,h):=aJ h;exact(_,_,y,h)
def Ji{c:CT}{a i:Ex}(h:aa c (.idx a i) e):∃v s p,e=.Subscript v s p/\(aa c a v&&aa c i s)=true:=by have h:(az (jZ e) λt=>aa c a t.1&&aa c i t.2.1)=true:=h;let(t,y,h):=aJ h;exact(_,_,_,y,h)
def Jj{c:CT}{fz:Bool}{a:Ex}{hi:Ox}(h:aa c (.slc fz a lo hi) e):∃v l u z p,e=.Subscript v (.Slice l u none z) p/\(aa c a v&&gP c lo l&&gP c hi u)=true:=by have h:(az (jZ e) λt=>az (H9 t.2.1) λs=>s.2.2.1.isNone&&(aa c a t.1&&gP c lo s.1&&gP c hi s.2.1))=true:=h;let(t,y,h):=aJ h;let(s,hs,h):=aJ h;rw[ae,eW]at h;exact(_,_,_,_,_,by rw[y,hs,h.1],h.2)
def Jl{c:CT}{f:AL}{es:Exs}(h:aa c (.call f es) e):∃x p args pos,e=.Call (.Name x p) args [] pos/\(x==⇑f&&c.glo x&&(c.fs.any λp=>p.1==f&&p.2==args⁻¹)&&!args.isEmpty&&aM c es args)=true:=by have h:((bI e).any λt=>t.1==⇑f&&c.glo t.1&&(c.fs.any λp=>p.1==f&&p.2==t.2.2.1⁻¹)&&!t.2.2.1.isEmpty&&aM c es t.2.2.1)=true:=h;let(t,y,h):=aQ h;exact(_,_,_,_,dW y,h)
def Jm{c:CT}{f:Bf}{es:Exs}(h:aa c (.bcl f es) e):∃x p args pos,e=.Call (.Name x p) args [] pos/\(x==⇑f.name&&yN f&&c.glo x&&c.bt.contains f.name&&!args.isEmpty&&aM c es args)=true:=by have h:((bI e).any λt=>t.1==⇑f.name&&yN f&&c.glo t.1&&c.bt.contains f.name&&!t.2.2.1.isEmpty&&aM c es t.2.2.1)=true:=h;let(t,y,h):=aQ h;exact(_,_,_,_,dW y,h)
def Jo{c:CT}{fz:Bool}{f:Lf}{es:Exs}(h:aa c (.lcl fz f es) e):∃x p args pos,e=.Call (.Name x p) args [] pos/\(x==⇑f.name&&yO f&&c.glo x&&c.bt.contains f.name&&!args.isEmpty&&aM c es args)=true:=by have h:((bI e).any λt=>t.1==⇑f.name&&yO f&&c.glo t.1&&c.bt.contains f.name&&!t.2.2.1.isEmpty&&aM c es t.2.2.1)=true:=h;let(t,y,h):=aQ h;exact(_,_,_,_,dW y,h)
def Jp{c:CT}{a:Ex}{t:AL}(h:aa c (.isi a t) e):∃x p v y U pos,e=.Call (.Name x p) [v,.Name y U] [] pos/\(x==⇑"isinstance"&&c.glo x&&c.bt.contains "isinstance"&&aa c a v&&y==⇑t&&c.glo y&&c.bt.contains t&&gG t)=true:=by have h:((bI e).any λu=>(two u.2.2.1).any λv=>az (asName v.2) λy=>u.1==⇑"isinstance"&&c.glo u.1&&c.bt.contains "isinstance"&&aa c a v.1&&y.1==⇑t&&c.glo y.1&&c.bt.contains t&&gG t)=true:=h;let(u,z,h):=aQ h;let(v,J,h):=aQ h;let(y,O,h):=aJ h;exact(_,_,_,_,_,_,by rw[dW z,jk J,O],h)
def Jq{c:CT}{a:Ex}{xs:List AL}(h:aa c (.isx a C xs) e):∃x p v y U pos,e=.Call (.Name x p) [v,.Name y U] [] pos/\(x==⇑"isinstance"&&c.glo x&&c.bt.contains "isinstance"&&aa c a v&&y==⇑C&&c.glo y&&c.xs.contains (C,false)&&xs.all λx=>c.xs.contains (x,true)||c.ot.xk.any λp=>p.1==x)=true:=by have h:((bI e).any λu=>(two u.2.2.1).any λv=>az (asName v.2) λy=>u.1==⇑"isinstance"&&c.glo u.1&&c.bt.contains "isinstance"&&aa c a v.1&&y.1==⇑C&&c.glo y.1&&c.xs.contains (C,false)&&xs.all λx=>c.xs.contains (x,true)||c.ot.xk.any λp=>p.1==x)=true:=h;let(u,z,h):=aQ h;let(v,J,h):=aQ h;let(y,O,h):=aJ h;exact(_,_,_,_,_,_,by rw[dW z,jk J,O],h)
def Jr{c:CT}{fz:Bool}{a:Ex}(h:aa c (.srs fz a) e):∃x p U p' y z pos,e=.Call (.Name x p) [.Call (.Name U p') [y] [] z] [] pos/\(x==⇑"sorted"&&c.glo x&&c.bt.contains "sorted"&&U==⇑"set"&&c.glo U&&c.bt.contains "set"&&aa c a y)=true:=by have h:((bI e).any λt=>(one t.2.2.1).any λY=>(bI Y).any λu=>(one u.2.2.1).any λy=>t.1==⇑"sorted"&&c.glo t.1&&c.bt.contains "sorted"&&u.1==⇑"set"&&c.glo u.1&&c.bt.contains "set"&&aa c a y)=true:=h;let(t,ht,h):=aQ h;let(Y,J,h):=aQ h;let(u,hu,h):=aQ h;let(y,O,h):=aQ h;exact(_,_,_,_,_,_,_,by rw[dW ht,cP J,dW hu,cP O],h)
def Js{c:CT}{es:Exs}(h:aa c (.fst es) e):∃ps pos,e=.JoinedStr ps pos/\(decide (2<=ps⁻¹)&&decide (ps⁻¹<=50)&&j6 es ps&&aM c es (ps.map unF))=true:=by have h:(az (yQ e) λt=>decide (2<=t.1⁻¹)&&decide (t.1⁻¹<=50)&&j6 es t.1&&aM c es (t.1.map unF))=true:=h;let(t,y,h):=aJ h;exact(_,_,y,h)
def Jt{c:CT}{f:AL}{a:Ex}(h:aa c (.xat C f a) e):∃v n pos,e=.Attribute v n pos/\qZ v=true/\(n==⇑f&&c.ot.xk.contains (C,f)&&aa c a v)=true:=by have h:(az (j5 e) λt=>qZ t.1&&(t.2.1==⇑f&&c.ot.xk.contains (C,f)&&aa c a t.1))=true:=h;let(t,y,h):=aJ h;rw[ae]at h;exact(_,_,_,y,h.1,h.2)
def Ju{c:CT}{o:Ex}{es:Exs}(h:aa c (.mth m o es) e):∃v x apos args cpos,e=.Call (.Attribute v x apos) args [] cpos/\(x==⇑m.name&&aa c o v&&!q8 v&&(apos.endLine==cpos.line)&&decide (args⁻¹<29)&&!args.isEmpty&&aM c es args)=true:=by have h:(az (mH e) λt=>az (j5 t.1) λv=>t.2.2.1.isEmpty&&(v.2.1==⇑m.name&&aa c o v.1&&!q8 v.1&&(v.2.2.endLine==t.2.2.2.line)&&decide (t.2.1⁻¹<29)&&!t.2.1.isEmpty&&aM c es t.2.1))=true:=h;let(t,y,h):=aJ h;let(v,z,h):=aJ h;rw[ae,ka]at h;exact(_,_,_,_,_,by rw[y,z,h.1],h.2)
def Jv{c:CT}{fz:Bool}{tg:Tg}{it:It'}{N:List AL}{cap:List (Option Nat)}(h:aa c (.comp fz elt tg it cond N cap) e):∃J y iter z as scope pos,e=.ListComp J [(y,iter,z,as)] scope pos/\(decide (as=0)&&cY c it y iter&&iz c.N scope (N.map Str.ofString) cap&&jX c scope&&fW (N.map Str.ofString)&&cX (c.comp (N.map Str.ofString) scope) tg y&&mL (c.comp (N.map Str.ofString) scope) cond z&&aa (c.comp (N.map Str.ofString) scope) elt J)=true:=by have h:(az (Ia e) λt=>(one t.2.1).any λg=>decide (g.is_async=0)&&cY c it g.target g.iter&&iz c.N t.2.2.1 (N.map Str.ofString) cap&&jX c t.2.2.1&&fW (N.map Str.ofString)&&cX (c.comp (N.map Str.ofString) t.2.2.1) tg g.target&&((yS cond&&g.ifs.isEmpty)||(one g.ifs).any λf=>bW (c.comp (N.map Str.ofString) t.2.2.1) cond f)&&aa (c.comp (N.map Str.ofString) t.2.2.1) elt t.1)=true:=h;let(t,U,h):=aJ h;let((y,iter,z,as),O,h):=aQ h;exact(t.1,y,iter,z,as,t.2.2.1,t.2.2.2,(U).trans (by rw[cP O]),h)
def aaD{c:CT}{t:Tx}(h:bW c (.not t) e):∃x p,e=.UnaryOp .Not x p/\(bW c t x)=true:=by have h:(az (jY e) λu=>mJ u.1&&bW c t u.2.1)=true:=h;let(u,y,h):=aJ h;rw[ae]at h;exact(_,_,by rw[y,Io h.1],h.2)
def aaE{c:CT}{x:Tx}{es:Txs}(h:bW c (.boo isAnd x es) e):∃op v vs p,e=.BoolOp op (v::vs) p/\(op==(if isAnd then .And else .Or)&&bW c x v&&jm c es vs)=true:=by have h:(az (rm e) λu=>(hdT u.2.1).any λv=>u.1==(if isAnd then .And else .Or)&&bW c x v.1&&jm c es v.2)=true:=h;let(t,y,h):=aJ h;let(v,z,h):=aQ h;exact(_,_,_,_,by rw[y,Im z],h)
def Jw{c:CT}{a:Ex}(h:cY c (.rng a) tg e):∃x p v pos,e=.Call (.Name x p) [v] [] pos/\(x==⇑"range"&&c.glo x&&c.bt.contains "range"&&aa c a v)=true:=by have h:((bI e).any λt=>(one t.2.2.1).any λv=>t.1==⇑"range"&&c.glo t.1&&c.bt.contains "range"&&aa c a v)=true:=h;let(t,y,h):=aQ h;let(v,z,h):=aQ h;exact(_,_,_,_,by rw[dW y,cP z],h)
def Jx{c:CT}{a:Ex}(h:cY c (.enm a) tg e):∃ts k p0 x p v pos,tg=.Tuple ts k p0/\e=.Call (.Name x p) [v] [] pos/\(x==⇑"enumerate"&&c.glo x&&c.bt.contains "enumerate"&&aa c a v)=true:=by have h:(az (iB tg) λu=>(bI e).any λt=>(one t.2.2.1).any λv=>t.1==⇑"enumerate"&&c.glo t.1&&c.bt.contains "enumerate"&&aa c a v)=true:=h;let(g,y,h):=aJ h;let(t,z,h):=aQ h;let(v,J,h):=aQ h;exact(_,_,_,_,_,_,_,y,by rw[dW z,cP J],h)
def Jy{c:CT}{a b:Ex}(h:cY c (.zip a b) tg e):∃ts k p0 x p v y pos,tg=.Tuple ts k p0/\e=.Call (.Name x p) [v,y] [] pos/\(x==⇑"zip"&&c.glo x&&c.bt.contains "zip"&&aa c a v&&aa c b y)=true:=by have h:(az (iB tg) λu=>(bI e).any λt=>(two t.2.2.1).any λv=>t.1==⇑"zip"&&c.glo t.1&&c.bt.contains "zip"&&aa c a v.1&&aa c b v.2)=true:=h;let(g,z,h):=aJ h;let(t,J,h):=aQ h;let(v,O,h):=aQ h;exact(_,_,_,_,_,_,_,_,z,by rw[dW J,jk O],h)
def aaF{c:CT}{x:Ex}{st:Stmt}(h:bG c (.exp x) st):∃e pos,st=.Expr e pos/\(!dm e&&aa c x e)=true:=by have h:(az (yP st) λt=>!dm t.1&&aa c x t.1)=true:=h;let(t,y,h):=aJ h;exact(_,_,y,h)
def JC{c:CT}{g:Tg}{x:Ex}{st:Stmt}(h:bG c (.asg g x) st):∃tg e pos,st=.Assign [tg] e pos/\(cX c g tg&&aa c x e&&yW g x e)=true:=by have h:(az (gO st) λt=>(one t.1).any λtg=>cX c g tg&&aa c x t.2.1&&yW g x t.2.1)=true:=h;let(t,z,h):=aJ h;let(g,y,h):=aQ h;exact(_,_,_,by rw[z,cP y],h)
def aaG{c:CT}{o i x:Ex}{st:Stmt}(h:bG c (.set o i x) st):∃o' z y e pos,st=.Assign [.Subscript o' z y] e pos/\(aa c o o'&&aa c i z&&aa c x e&&!dm e)=true:=by have h:(az (gO st) λt=>(one t.1).any λtg=>az (jZ tg) λu=>aa c o u.1&&aa c i u.2.1&&aa c x t.2.1&&!dm t.2.1)=true:=h;let(t,O,h):=aJ h;let(g,J,h):=aQ h;let(u,U,h):=aJ h;exact(_,_,_,_,_,by rw[O,cP J,U],h)
def aaH{c:CT}{i:Nat}{x:Ex}{st:Stmt}(h:bG c (.aug i op x) st):∃y O o e pos,st=.AugAssign (.Name y O) o e pos/\(o==op&&(c.N[i]?==-y)&&c.sto y&&okN y&&aa c x e)=true:=by have h:(az (Ib st) λt=>az (asName t.1) λy=>t.2.1==op&&(c.N[i]?==-y.1)&&c.sto y.1&&okN y.1&&aa c x t.2.2.1)=true:=h;let(t,z,h):=aJ h;let(u,J,h):=aJ h;exact(_,_,_,_,_,by rw[z,J],h)
def aaI{c:CT}{es:Exs}{st:Stmt}(h:bG c (.rse C es) st):∃x Y m cpos pos,st=.Raise (-(.Call (.Name x Y) [m] [] cpos)) none pos/\(x==⇑C&&c.glo x&&c.xs.contains (C,true)&&rB c es m)=true:=by have h:(az (rn st) λt=>t.2.1.isNone&&t.1.any λe=>(bI e).any λu=>u.1==⇑C&&c.glo u.1&&c.xs.contains (C,true)&&(one u.2.2.1).any λm=>rB c es m)=true:=h;let(t,O,h):=aJ h;rw[ae,eW]at h;let(e,he,h2):=aQ h.2;let(u,U,y):=aQ h2;rw[ae]at y;let(m,J,z):=aQ y.2;exact(_,_,m,_,_,by rw[O,h.1,he,dW U,cP J],by rw[ae];exact(y.1,z))
def aaJ{c:CT}{e:Ex}{st:Stmt}(h:bG c (.rsi C e) st):∃x np v cpos pos,st=.Raise (-(.Call (.Name x np) [v] [] cpos)) none pos/\(x==⇑C&&c.glo x&&c.ot.xk.contains (C,dO C)&&aa c e v)=true:=by have h:(az (rn st) λt=>t.2.1.isNone&&t.1.any λy=>(bI y).any λu=>(one u.2.2.1).any λv=>u.1==⇑C&&c.glo u.1&&c.ot.xk.contains (C,dO C)&&aa c e v)=true:=h;let(t,U,h):=aJ h;rw[ae,eW]at h;let(y,he,h2):=aQ h.2;let(u,Y,z):=aQ h2;let(m,O,J):=aQ z;exact(_,_,m,_,_,by rw[U,h.1,he,dW Y,cP O],J)
def aaK{b:Bool}{k:Const}(h:yX b k):k=.bool b:=by
 cases k<;>first | (cases h;done)|skip
 rw[show yX b (.bool _)=(_==b) from rfl,aw]at h;rw[h]
def aaL{c:CT}{b:Tb}{h:Hd}{xs:List AL}{st:Stmt}(hh:bG c (.tryx b C h xs) st):
  ∃body cx p1 nm y p2 e p4 p5 pos,st=.Try body [.ExceptHandler (-(.Name cx p1)) nm [.Assign [.Name y p2] e p4] p5] [] [] pos/\
   j7 c b body=true/\(xs.all λx=>c.xs.contains (x,true)||c.ot.xk.contains (x,dO x))=true/\(C=="ValueError")=false/\(cx==⇑C&&c.glo cx&&c.xs.contains (C,false))=true/\rD c h nm y e=true:=by
 have hh:(az (Ie st) λt=>t.2.2.1.isEmpty&&t.2.2.2.1.isEmpty&&j7 c b t.1&&(xs.all λx=>c.xs.contains (x,true)||c.ot.xk.contains (x,dO x))&&!(C=="ValueError")&&(one t.2.1).any λhd=>az (Ig hd) λw=>w.1.any λte=>az (asName te) λn=>(n.1==⇑C&&c.glo n.1&&c.xs.contains (C,false))&&(one w.2.2.1).any λs1=>az (gO s1) λa=>(one a.1).any λtg=>az (asName tg) λy=>rD c h w.2.1 y.1 a.2.1)=true:=hh;let(t,ht,h1):=aJ hh;simp only[ae,ka,fS]at h1;let(((((e1,e2),hx),ha),hv),h2):=h1;let(hd,Y,O):=aQ h2;let(w,hw,O):=aJ O;let(te,hte,J):=aQ O;let(n,hn',J):=aJ J;simp only[ae]at J;let(s1,hs1,z):=aQ J.2;let(a,U,z):=aJ z;let(tg,htg,z):=aQ z;let(y,hy,z):=aJ z;exact(_,_,_,_,_,_,_,_,_,_,by rw[ht,e1,e2,cP Y,hw,hte,hn',cP hs1,U,cP htg,hy],hx,ha,hv,by simp only[ae];exact J.1,z)
def aaM{c:CT}{i:Nat}{f:AL}{es:Exs}(h:j7 c (.asg i f es) sts):∃y p2 x p args cpos p0,sts=[.Assign [.Name y p2] (.Call (.Name x p) args [] cpos) p0]/\(c.N[i]?==-y&&c.sto y&&okN y)=true/\
   (x==⇑f&&c.glo x&&(c.fs.any λp=>p.1==f&&p.2==args⁻¹)&&!args.isEmpty&&aM c es args)=true:=by
 have h:((one sts).any λO=>az (gO O) λa=>(one a.1).any λtg=>az (asName tg) λy=>(bI a.2.1).any λu=>(c.N[i]?==-y.1&&c.sto y.1&&okN y.1)&&(u.1==⇑f&&c.glo u.1&&(c.fs.any λp=>p.1==f&&p.2==u.2.2.1⁻¹)&&!u.2.2.1.isEmpty&&aM c es u.2.2.1))=true:=h;let(O,z,h):=aQ h;let(a,U,h):=aJ h;let(tg,J,h):=aQ h;let(y,hy,h):=aJ h;let(u,Y,h):=aQ h;rw[ae]at h;exact(_,_,_,_,_,_,_,by rw[cP z,U,cP J,hy,dW Y],h.1,h.2)
def aaN{c:CT}{x:Ex}{st:Stmt}(h:bG c (.ret x) st):∃e pos,st=.Return (-e) pos/\(aa c x e)=true:=by have h:(az (rA st) λt=>t.1.any λe=>aa c x e)=true:=h;let(t,y,h):=aJ h;let(e,he,h):=aQ h;exact(_,_,by rw[y,he],h)
def aaO{c:CT}{st:Stmt}(h:bG c .rtn st):∃pos,st=.Return none pos/\(true)=true:=by have h:(az (rA st) λt=>t.1.isNone)=true:=h;let(t,y,h):=aJ h;rw[eW]at h;exact(_,by rw[y,h],rfl)
def aaP{c:CT}{t:Tx}{a b:Sxs}{st:Stmt}(h:bG c (.ite t a b) st):∃t' y z pos,st=.If t' y z pos/\(bW c t t'&&aC c a y&&aC c b z)=true:=by have h:(az (Ih st) λu=>bW c t u.1&&aC c a u.2.1&&aC c b u.2.2.1)=true:=h;let(u,J,h):=aJ h;exact(_,_,_,_,J,h)
def aaQ{c:CT}{g:Tg}{it:It'}{b:Sxs}{st:Stmt}(h:bG c (.for_ g it b) st):∃tg iter body pos,st=.For tg iter body [] pos/\(cX c g tg&&cY c it tg iter&&aC c b body)=true:=by have h:(az (Ii st) λt=>t.2.2.2.1.isEmpty&&(cX c g t.1&&cY c it t.1 t.2.1&&aC c b t.2.2.1))=true:=h;let(t,y,h):=aJ h;rw[ae,ka]at h;exact(_,_,_,_,by rw[y,h.1],h.2)
def aaR{c:CT}{st:Stmt}(h:bG c .pas st):∃pos,st=.Pass pos/\(true)=true:=by let((t,y),_):=dA.mp (show(Ij st).isSome=true from h);exact(t,y,rfl)
def aaS{c:CT}{st:Stmt}(h:bG c .brk st):∃pos,st=.Break pos/\(true)=true:=by let((t,y),_):=dA.mp (show(Ik st).isSome=true from h);exact(t,y,rfl)
def aaT{c:CT}{st:Stmt}(h:bG c .cnt st):∃pos,st=.Continue pos/\(true)=true:=by let((t,y),_):=dA.mp (show(Il st).isSome=true from h);exact(t,y,rfl)
def mQ:AO->Bool
 |.Starred ..=>false
 |.Set ..=>false
 |.Slice ..=>false
 |_=>true
def bR{c:CT}:∀(x:Ex){e:AO},aa c x e=true->mQ e=true
 |.frz a,e,h=>bR a (show aa c a e=true from h)
 |.var _,e,h=>by let(_,_,rfl,_):=Iw h;rfl
 |.cst _,e,h=>by let(_,_,_,rfl,_):=Iz h;rfl
 |.glb _ _,e,h=>by let(_,_,rfl,_):=IK h;rfl
 |.bin _ _ _ _,e,h=>by let(_,_,_,_,rfl,_):=IV h;rfl
 |.neg _,e,h=>by let(_,_,rfl,_):=IW h;rfl
 |.cmp _ _ _,e,h=>by let(_,_,_,_,rfl,_):=Jb h;rfl
 |.chn _ _ _ _ _,e,h=>by let(_,_,_,_,_,_,rfl,_):=Jc h;rfl
 |.not _,e,h=>by let(_,_,rfl,_):=Ja h;rfl
 |.boo _ _ _,e,h=>by let(_,_,_,_,rfl,_):=Jd h;rfl
 |.ife _ _ _,e,h=>by let(_,_,_,_,rfl,_):=Jf h;rfl
 |.tup _,e,h=>by let(_,_,_,rfl,_):=Jg h;rfl
 |.lst _ _,e,h=>by let(_,_,rfl,_):=Jh h;rfl
 |.idx _ _,e,h=>by let(_,_,_,rfl,_):=Ji h;rfl
 |.slc _ _ _ _,e,h=>by let(_,_,_,_,_,rfl,_):=Jj h;rfl
 |.call _ _,e,h=>by let(_,_,_,_,rfl,_):=Jl h;rfl
 |.bcl _ _,e,h=>by let(_,_,_,_,rfl,_):=Jm h;rfl
 |.lcl _ _ _,e,h=>by let(_,_,_,_,rfl,_):=Jo h;rfl
 |.isi _ _,e,h=>by let(_,_,_,_,_,_,rfl,_):=Jp h;rfl
 |.srs _ _,e,h=>by let(_,_,_,_,_,_,_,rfl,_):=Jr h;rfl
 |.fst _,e,h=>by let(_,_,rfl,_):=Js h;rfl
 |.isx _ _ _,e,h=>by let(_,_,_,_,_,_,rfl,_):=Jq h;rfl
 |.xat _ _ _,e,h=>by let(_,_,_,rfl,_):=Jt h;rfl
 |.mth _ _ _,e,h=>by let(_,_,_,_,_,rfl,_):=Ju h;rfl
 |.comp _ _ _ _ _ _ _,e,h=>by let(_,_,_,_,_,_,_,rfl,_):=Jv h;rfl
def cQ(h:mQ e):noStar e=true:=by cases e<;>first|rfl|exact nZf h
def JD(h:mQ e)(op:CmpOp):behindInMarks op e=false:=by cases e<;>first|rfl|exact nZf h
def aaU(h:mQ e)(env:Env)(x:AN):foldedSetIterable e env x=pure x:=by cases e<;>first|rfl|exact nZf h
def aaV(h:mQ e):DG e:=by intro o i;cases e<;>first|rfl|exact nZf h
def aaW(h:jj e)(env:Env)(whole:Sem AN):isTrue e env whole=(do let v <-whole;standAt e.pos;holding [v] (truthy v)):=by
 cases e with
 |UnaryOp op x p=>cases op<;>first|rfl|exact nZf h
 |_=>first|rfl|exact nZf h
set_option backward.match.sparseCases true
def XV(K:PF)(H:Hp)(F:FZ)(x:Xn)(y:AN)(od:Option AQ):Prop:=
 ∃C,y=.ref C/\PySem.W.nsIn K mainGlobals (⇑x.cls)=-(-(.ref C))/\
  match x.fld with
  |.non=>True
  |d=>∃a ob v,od=-a/\H a=-(.frz ob (.xd [(⇑(dO x.cls),v)]))/\Rep K H F d v
def XR(K:PF)(H:Hp)(F:FZ)(x:Xn)(EX:XK):Prop:=∀y od,XV K H F x y od->EX y od H
def PX(K:PF)(H:Hp)(F:FZ)(EX:XK):EK:=λx y=>∀H' F',Ext H F H' F'->R K H' F' y->XR K H' F' x EX
def el{U Y γ:Type}{p q r s:U->Y->γ->Prop}{C:Prop}(h:∃x y z,p x y z/\q x y z/\r x y z/\s x y z)(k:∀x y z,p x y z->q x y z->r x y z->s x y z->C):C:=by let(x,y,z,h1,h2,J,O):=h;exact k x y z h1 h2 J O
def lift(K:PF)(n:Nat)(S:RF.Spec):Sp:=λvs H Q EX=>vs⁻¹=n/\∃F G ds,R K H F G/\Reps K H F ds vs/\S.t ds G (PV K H F Q) (PX K H F EX)
def CV(K:PF)(mg:AH)(y:AL)(z:V):Prop:=
 (∃a,z=.ref a/\mg (⇑y)=-(.ref a)/\pR K a=true)\/(y="ValueError"/\z=.ty "ValueError"/\mg (⇑y)=none)
def XI(K:PF)(C y:AL)(z:V):Prop:=
 ∃c,PySem.W.nsIn K mainGlobals (⇑C)=-(-(.ref c))/\gB K c=true/\PySem.W.mroIn K c (valOf z)=-(bF C y)/\(bF C y=false->(Value.ref c==valOf z)=false)
def CV.ok{K:PF}{mg:AH}{J:AL}{y:V}(h:CV K mg J y):jE K (valOf y)=true:=by
 rcases h with⟨a,rfl,_,h⟩|⟨_,rfl,_⟩
 .have z:=Fp h;change((PySem.W.clsIn K a).isSome&&PySem.W.typeIn K (.ref a)==-(.type "type"))=true;rw[z.c,z.t];rfl
 .rfl
structure Bs where
 H:Hp
 F:FZ
def JF(K:PF)(C f:AL):Prop:=∃c,PySem.W.nsIn K mainGlobals (⇑C)=-(-(.ref c))/\Cls K c/\Vh K c (⇑f)
def MthOk(Z:aj)(P:AK)(w:World)(K:PF)(mg:AH)(base:Heap)(CX:CXT)(k:Nat)(f C m:AL)(n:Nat):Prop:=
 ∃c fa fd ps,PySem.W.nsIn K mainGlobals (⇑C)=-(-(.ref c))/\Cls K c/\Meth K c (⇑m) fa/\Binds K fd ps []/\FnOk P w K mg base CX k fa fd ps (lift K n (Z f))
def MkoOk(Z:aj)(P:AK)(w:World)(K:PF)(mg:AH)(base:Heap)(CX:CXT)(k:Nat)(C:AL)(n:Nat):Prop:=
 ∃c fa fd ps sp j,j+1<=k/\mg (⇑C)=-(.ref c)/\Mk K c fa/\Binds K fd ps []/\FnOk P w K mg base CX j fa fd ps sp/\
  ∀vs H Q E,lift K n (Z C) vs H Q E->∀x dx,H x=none->H dx=none->dx≠x->sp (.ref x::vs) (upd (upd H dx (.own x)) x (.ins c dx [])) (λv H2=>v=.non/\Q (.ref x) H2) E
def aaX(K:PF)(c:AQ)(f:AL):Sp:=λvs H Q x=>∃a b l d F G,vs=[.ref a,b]/\H a=-(.ext (cO a c l none))/\¬F a/\R K H F G/\Rep K H F d b/\okA d/\
 ∀H2 z dx od ob y,Ext H F H2 z->R K H2 z G->H2 a=-(.ext (cO a c y none))->H2 dx=none->dx≠a->ob.cls=.ref c->ob.dict=-dx->PySem.W.notCls ob=true->(∃y,ob=exO c y (-dx))->Q .non (upd (upd H2 a (.frz ob (.own a))) dx (.frz od (.xd [(⇑f,b)])))
def JG(P:AK)(w:World)(K:PF)(mg:AH)(base:Heap)(CX:CXT)(k:Nat)(C f:AL):Prop:=
 ∃c fa fd ps j,j+1<=k/\mg (⇑C)=-(.ref c)/\PySem.W.nsIn K mainGlobals (⇑C)=-(-(.ref c))/\ik K c fa=true/\PySem.W.typeIn K (.ref fa)=-(.type "function")/\PySem.W.keepIn K (.ref c)=true/\
  (gB K c=true/\PySem.W.hasDictIn K c=true/\PySem.W.findIn K (.ref c) (⇑f)=-none)/\Binds K fd ps []/\FnOk P w K mg base CX j fa fd ps (aaX K c f)
def XkoX(P:AK)(w:World)(K:PF)(mg:AH)(base:Heap)(CX:CXT)(k:Nat)(xs:List (AL×Bool))(C f:AL):Prop:=
 JG P w K mg base CX k C f/\∀y z,xs.contains (y,false)=true->CV K mg y z->XI K C y z
structure Stat(Z:aj)(CX:CXT)(k:Nat)(c:CT)(E:EK)(B:Bs)(X:Cx):Prop where
 N:X.N=c.N
 nd:X.N.Nodup
 calm:X.calm=true
 own:PassesOwn (model X.prog X.w) X.A X.env X.xe
 kd:X.env.kindOf=λx=>X.env.scope.names.lookup x
 vis:∀x,ji (c.kd.lookup x)=true->Vis X.env.scope x
 cel:∀x,(c.kd.lookup x=some .cell\/c.kd.lookup x=some .free)->(X.env.kindOf x=some .cell\/X.env.kindOf x=some .free)
 glo:∀x,c.kd.lookup x=some .globalImplicit->Gl X x
 sto:∀x,c.sto x=true->Loc X.env.scope x/\(X.fn x=true\/X.env.scope.names.lookup x=some .local)
 room:Room k X.A
 call:∀f n,(f,n)∈c.fs->∃fa fd ps,FnOk X.prog X.w X.K X.mg X.base CX k fa fd ps (lift X.K n (Z f))/\PySem.W.keepIn X.K (.ref fa)=true/\Binds X.K fd ps []/\X.mg (⇑f)=some (.ref fa)
 blt:∀f,f∈c.bt->X.mg (⇑f)=none
 con:∀x d,(x,d)∈c.cn->∃u v,X.mg (⇑x)=some u/\RelV v u/\∀H F,Rep X.K H F d v
 exc:∃EX,gZ CX X EX/\Throws X EX/\∀x G' H' F',E x G'->Ext B.H B.F H' F'->R X.K H' F' G'->XR X.K H' F' x EX
 nox:∀(Y:Cx),gZ CX Y λz z z=>False
 xcl:∀C,c.xs.contains (C,true)=true->∃a,X.mg (⇑C)=some (.ref a)/\iV X.K a=true/\PySem.W.nsIn X.K mainGlobals (⇑C)=some (some (.ref a))
 loc:∀x,c.kd.lookup x=some .local->X.env.scope.names.lookup x=some .local
 xis:∀C',c.xs.contains (C',false)=true->∃cv,CV X.K X.mg C' cv/\∀C,c.xs.contains (C,true)=true->XI X.K C C' cv
 mth:∀f C m n,(f,C,m,n)∈c.ot.ms->MthOk Z X.prog X.w X.K X.mg X.base CX k f C m n
 mko:∀C n,(C,n)∈c.ot.ks->MkoOk Z X.prog X.w X.K X.mg X.base CX k C n
 fld:∀C f,(C,f)∈c.ot.fl->JF X.K C f
 xko:∀C f,(C,f)∈c.ot.xk->XkoX X.prog X.w X.K X.mg X.base CX k c.xs C f
 trc:c.xs≠[]->CX=CX1 X.prog X.w/\X.stack=X.env::X.outer/\X.ex=[]
def tE(K:PF)(B:Bs)(w:ao->DH->(AT)->Prop):TE:=λX H Q=>∃Y F G,Ext B.H B.F H F/\EnvR K H F Y X/\R K H F G/\w Y G (PV K H F Q)
def tB'(K:PF)(B:Bs)(w:ao->DH->(Bool->DH->Prop)->Prop):TT:=λX H Q=>∃Y F G,Ext B.H B.F H F/\EnvR K H F Y X/\R K H F G/\w Y G (PB K H F Q)
def tL(K:PF)(B:Bs)(w:ao->DH->(AS->DH->Prop)->Prop):TA:=λX H Q=>∃Y F G,Ext B.H B.F H F/\EnvR K H F Y X/\R K H F G/\w Y G (PLs K H F Q)
def POp(K:PF)(H:Hp)(F:FZ)(Q:Option Int->Hp->Prop):Option Int->DH->Prop:=λb y=>∀H' F',Ext H F H' F'->R K H' F' y->Q b H'
def JK(K:PF)(B:Bs)(w:ao->DH->(Option Int->DH->Prop)->Prop):TO:=λX H Q=>∃Y F G,Ext B.H B.F H F/\EnvR K H F Y X/\R K H F G/\w Y G (POp K H F Q)
def peI{X:Cx}{t t':TE}(h:PE X e t)(i:∀Y H Q,t' Y H Q->t Y H Q):PE X e t':=λp9 s Y H Q I q=>h p9 s Y H Q I (i Y H Q q)
def ptI{X:Cx}{t:TT}(h:PT X e t)(i:∀Y H Q,t' Y H Q->t Y H Q):PT X e t':=λp9 s Y H Q I q=>h p9 s Y H Q I (i Y H Q q)
def pwI{X:Cx}{t:TT}(h:PW X e t)(i:∀Y H Q,t' Y H Q->t Y H Q):PW X e t':=λy p9 s Y H Q I q=>h y p9 s Y H Q I (i Y H Q q)
def paI{X:Cx}{e:AE}{t t':TA}(h:PA X e t)(i:∀Y H Q,t' Y H Q->t Y H Q):PA X e t':=λpos p9 s Y H Q I q=>h pos p9 s Y H Q I (i Y H Q q)
section
variable {Z:aj} {CX:CXT} {k:Nat} {c:CT} {E:EK} {B:Bs} {X:Cx}
def aP{K:PF}{x:Ex}{X:L2.St}{H:Hp}{F:FZ}{G:DH}{Y:ao}{W:AT}{Q:VK}(J:Ext B.H B.F H F)(he:EnvR K H F Y X)(r:R K H F G)(hw:wpE Z x E Y G W)(h:∀d G1 H1 y v,W d G1->Ext B.H B.F H1 y->Ext H F H1 y->EnvR K H1 y Y X->R K H1 y G1->Rep K H1 y d v->Q v H1):tE K B (wpE Z x E) X H Q:=
 (Y,F,G,J,he,r,aN x (λd G1 q H1 y v z O U=>h d G1 H1 y v q (J.trans z) z (he.ext z) O U) hw)
def dC{K:PF}{x:Exs}{X:L2.St}{H:Hp}{F:FZ}{G:DH}{Y:ao}{W:AS->DH->Prop}{Q:AR->Hp->Prop}(J:Ext B.H B.F H F)(he:EnvR K H F Y X)(r:R K H F G)(hw:aY Z x E Y G W)(h:∀d G1 H1 y v,W d G1->Ext B.H B.F H1 y->Ext H F H1 y->EnvR K H1 y Y X->R K H1 y G1->Reps K H1 y d v->Q v H1):tL K B (aY Z x E) X H Q:=
 (Y,F,G,J,he,r,d9 x (λd G1 q H1 y v z O U=>h d G1 H1 y v q (J.trans z) z (he.ext z) O U) hw)
def j8{K:PF}{x:Tx}{X:L2.St}{H:Hp}{F:FZ}{G:DH}{Y:ao}{W:Bool->DH->Prop}{Q:Bool->Hp->Prop}(J:Ext B.H B.F H F)(he:EnvR K H F Y X)(r:R K H F G)(hw:wpT Z x E Y G W)(h:∀d G1 H1 y,W d G1->Ext B.H B.F H1 y->Ext H F H1 y->EnvR K H1 y Y X->R K H1 y G1->Q d H1):tB' K B (wpT Z x E) X H Q:=
 (Y,F,G,J,he,r,d8 x (λd G1 q H1 y z O=>h d G1 H1 y q (J.trans z) z (he.ext z) O) hw)
def JM{K:PF}{x:Ox}{X:L2.St}{H:Hp}{F:FZ}{G:DH}{Y:ao}{W:Option Int->DH->Prop}{Q:Option Int->Hp->Prop}(J:Ext B.H B.F H F)(he:EnvR K H F Y X)(r:R K H F G)(hw:wpO Z x E Y G W)(h:∀d G1 H1 y,W d G1->Ext B.H B.F H1 y->Ext H F H1 y->EnvR K H1 y Y X->R K H1 y G1->Q d H1):JK K B (wpO Z x E) X H Q:=
 (Y,F,G,J,he,r,yD x (λd G1 q H1 y z O=>h d G1 H1 y q (J.trans z) z (he.ext z) O) hw)
def PV.later{K:PF}{H H1:Hp}{F:FZ}{Q:VK}{d:D}{G:DH}(h:PV K H F Q d G)(x:Ext H F H1 F1):PV K H1 F1 Q d G:=λH' F' v y=>h H' F' v (x.trans y)
def PB.later{K:PF}{H H1:Hp}{F:FZ}{Q:Bool->Hp->Prop}{d:Bool}{G:DH}(h:PB K H F Q d G)(x:Ext H F H1 F1):PB K H1 F1 Q d G:=λH' F' y=>h H' F' (x.trans y)
def PB.now{K:PF}{H:Hp}{F:FZ}{Q:Bool->Hp->Prop}{d:Bool}{G:DH}(h:PB K H F Q d G)(r:R K H F G):Q d H:=h H F (Ext.refl H F) r
theorem j9(S:Stat Z CX k c E B X):X.A.units+100<cLine:=by have:=S.room.un;lia
def bJ{x:Str}(h:okN x):(x==("__debug__":Str))=false:=by
 unfold okN at h;cases e:x==("__debug__":Str) with
 |false=>rfl
 |true=>rw[e]at h;simp at h
def JN{x:Str}(h:okN x):(x==("__classdict__":Str))=false:=by
 unfold okN at h;cases e:x==("__classdict__":Str) with
 |false=>rfl
 |true=>rw[e]at h;simp at h
def dq{x:Str}(h:okN x):x≠"__name__":=by unfold okN at h;intro e;rw[aw.mpr e]at h;simp at h
def cR{x:Str}(h:c.glo x):c.kd.lookup x=-.globalImplicit/\okN x=true:=by unfold CT.glo at h;rw[ae,aw]at h;exact h
def aaY(S:Stat Z CX k c E B X){i:Nat}(h:aa c (.var i) e):PE X e (tE X.K B (wpE Z (.var i) E)):=by
 replace h:=Iw h;let(x,pos,rfl,h):=h
 .rw[ae,ae,aw]at h;show peI (vK (i:=i) (by rw[S.N];exact h.1.1) (S.vis x h.1.2) (bJ h.2) (JN h.2)) λW H Q q=>?_;let(Y,F,G,_,he,r,hw):=q;rw[xG]at hw;split at hw
  .rename_i d hd;let(v,y,z):=he.get hd;exact(v,y,hw.now r z)
  .exact hw.elim
def aaZ(S:Stat Z CX k c E B X){d:D}(h:aa c (.cst d) e):PE X e (tE X.K B (wpE Z (.cst d) E)):=by
 replace h:=Iz h;let(z,_,_,rfl,h):=h
 .unfold qY at h;split at h
  .exact peI Tc λW H Q y=>el y λY F G x he r hw=>by rw[eZ]at hw;exact hw.now r rfl
  .rw[aw]at h;subst h;exact peI Cw λW H Q y=>el y λY F G x he r hw=>by rw[eZ]at hw;exact hw.now r rfl
  .rw[aw]at h;subst h;exact peI S9 λW H Q y=>el y λY F G x he r hw=>by rw[eZ]at hw;exact hw.now r rfl
  .rename_i l b;rw[ae,aw,br]at h;show peI Cy λW H Q y=>el y λY F G x he r hw=>?_;rw[eZ]at hw;show hw.now r (?_,h.2);rw[h.1,<-lF]
  .cases h
def aa0(S:Stat Z CX k c E B X){x:AL}{d:D}(h:aa c (.glb x d) e):PE X e (tE X.K B (wpE Z (.glb x d) E)):=by
 replace h:=IK h;let(y,pos,rfl,h):=h
 .rw[ae,ae,aw,List.any_eq_true]at h;let((O,h1),(x',d'),hm,h2):=h;rw[ae,aw]at h2;let(J,z):=h2;have z:=aaz z;simp only at J z;subst O J z;let(U,g2):=cR h1;let(u,v,hu,ru,hr):=S.con _ _ hm;exact peI (Cz (S.glo _ U) hu ru (bJ g2)) λW H Q hq=>el hq λY F G t he r hw=>by rw[xH]at hw;exact hw.now r (hr H F)
def aa1(S:Stat Z CX k c E B X){fz:Bool}{a b:Ex}(U:∀{e},aa c a e=true->PE X e (tE X.K B (wpE Z a E)))(ihb:∀{e},aa c b e=true->PE X e (tE X.K B (wpE Z b E)))(h:aa c (.bin op fz a b) e):PE X e (tE X.K B (wpE Z (.bin op fz a b) E)):=by
 replace h:=IV h;let(l,o,r,pos,rfl,h):=h
 .rw[ae,ae,aw]at h;let((J,h1),h2):=h;subst J;show peI (Uz (Zo _ fz) (U h1) (ihb h2)) λW H Q hq=>el hq λY F G e0 he r hw=>?_;rw[xJ]at hw;show aP e0 he r hw λx G1 H1 F1 v q J x1 O r1 rv=>aP J O r1 q λy G2 H2 F2 u q e2 x2 he2 r2 ru=>?_;exact(F2,G2,x,y,r2,Rep.ext x2 rv,ru,Hh (λd G' z=>PV.later z (x1.trans x2)) q)
def aa2(S:Stat Z CX k c E B X){a:Ex}(y:∀{e},aa c a e=true->PE X e (tE X.K B (wpE Z a E)))(h:aa c (.neg a) e):PE X e (tE X.K B (wpE Z (.neg a) E)):=by
 replace h:=IW h;let(_,_,rfl,h):=h
 .show peI (UG U4 (y h)) λW H Q U=>el U λY F G z he r hw=>?_;rw[xK]at hw;show aP z he r hw λx G1 H1 F1 v q e1 x1 O r1 rv=>?_;split at q
  .have J:v=.int _:=rv;subst J;exact(_,rfl,q _ _ _ x1 r1 rfl)
  .exact q.elim
def JP(S:Stat Z CX k c E B X){op:CmpOp}{a b:Ex}(U:∀{e},aa c a e=true->PE X e (tE X.K B (wpE Z a E)))(ihb:∀{e},aa c b e=true->PE X e (tE X.K B (wpE Z b E)))(h:aa c (.cmp op a b) e):PE X e (tE X.K B (wpE Z (.cmp op a b) E))/\PT X e (tB' X.K B (wpT Z (.val (.cmp op a b)) E)):=by
 replace h:=Jb h;let(l,o,r,pos,rfl,h):=h
 .rw[ae,ae,aw]at h;let((O,h1),h2):=h;subst O;have hm:=JD (bR b h2) o;show(peI (U7 (jW _ (j9 S)) (U h1) (ihb h2) hm) λW H Q hq=>el hq λY F G e0 he r hw=>?_,ptI (U8 (jW _ (j9 S)) (U h1) (ihb h2) hm) λW H Q hq=>el hq λY F G e0 he r hw=>?_)
  .rw[qy]at hw;show aP e0 he r hw λx G1 H1 F1 v q O x1 J r1 rv=>aP O J r1 q λy G2 H2 F2 u q e2 x2 he2 r2 ru=>?_;exact(F2,G2,x,y,r2,Rep.ext x2 rv,ru,je (λd z=>PV.later z (x1.trans x2)) q)
  .rw[lW,qy]at hw;show aP e0 he r hw λx G1 H1 F1 v q O x1 J r1 rv=>aP O J r1 q λy G2 H2 F2 u q e2 x2 he2 r2 ru=>?_;show(F2,G2,x,y,r2,Rep.ext x2 rv,ru,je (λd z=>?_) q);intro H' F' v' x' r' rv';have e3:v'=.bl d:=rv';exact(d,e3,z H' F' ((x1.trans x2).trans x') r')
def JQ(S:Stat Z CX k c E B X){op:CmpOp}{a b d:Ex}(iha:∀{e},aa c a e=true->PE X e (tE X.K B (wpE Z a E)))(ihb:∀{e},aa c b e=true->PE X e (tE X.K B (wpE Z b E)))(ihd:∀{e},aa c d e=true->PE X e (tE X.K B (wpE Z d E)))(h:aa c (.chn op op' a b d) e):PE X e (tE X.K B (wpE Z (.chn op op' a b d) E))/\PT X e (tB' X.K B (wpT Z (.val (.chn op op' a b d)) E)):=by
 replace h:=Jc h;let(l,o,o',m,r,pos,rfl,h):=h
 .simp only[ae,aw]at h;let((((e1,e2),h1),h2),h3):=h;subst e1 e2;have hm:lastMarks [o,o'] [m,r]=false:=JD (bR d h3) o';have go:∀{V H Q Y F G}{W:Bool->DH->Prop},Ext B.H B.F H F->EnvR X.K H F Y V->R X.K H F G->
    wpE Z a E Y G (λx G1=>wpE Z b E Y G1 λy O=>bx o (view O x) (view O y) λt=>match t with|true=>wpE Z d E Y O λz G3=>bx o' (view G3 y) (view G3 z) λt'=>W t' G3|false=>W false O)->
    (∀t J H' F',W t J->Ext H F H' F'->R X.K H' F' J->Q (.bl t) H')->
    vP (rC2 X.K (bx o)) (rC2 X.K (bx o')) (tE X.K B (wpE Z a E)) (tE X.K B (wpE Z b E)) (tE X.K B (wpE Z d E)) V H Q:=by
   intro V H Q Y F G W U he r hw fin;show aP U he r hw λx G1 H1 F1 v q e1 x1 he1 r1 rv=>aP e1 he1 r1 q λy O H2 F2 u q e2 x2 he2 r2 ru=>?_;show(F2,O,x,y,r2,Rep.ext x2 rv,ru,je (λt q=>?_) q);intro H3 F3 v3 x3 r3 rv3;have e3:v3=.bl t:=rv3;show(t,e3,?_);cases t with
   |true=>
    rw[if_pos rfl];show aP (e2.trans x3) (he2.ext x3) r3 q λz G4 H4 F4 v4 q e4 x4 he4 r4 rv4=>?_;show(F4,G4,y,z,r4,Rep.ext (x3.trans x4) ru,rv4,je (λt' q=>?_) q);intro H5 F5 v5 x5 r5 rv5;have e5:v5=.bl t':=rv5;subst e5;exact fin _ _ _ _ q ((((x1.trans x2).trans x3).trans x4).trans x5) r5
   |false=>
    rw[if_neg ck];exact fin _ _ _ _ q ((x1.trans x2).trans x3) r3
  show(peI (U9 (jW _ (j9 S)) (jW _ (j9 S)) (iha h1) (ihb h2) (ihd h3) hm) λV H Q hq=>el hq λY F G U he r hw=>?_,ptI (Va (jW _ (j9 S)) (jW _ (j9 S)) (iha h1) (ihb h2) (ihd h3) hm) λV H Q hq=>el hq λY F G U he r hw=>?_)
  .rw[qz]at hw;exact go (W:=λt J=>PV X.K H F Q (.bl t) J) U he r hw λt J H' F' z x' r'=>z H' F' _ x' r' rfl
  .rw[lW,qz]at hw;show go (W:=λt J=>PB X.K H F Q t J) U he r hw λt J H' F' z x' r'=>(t,rfl,z H' F' x' r')
end
section
variable {Z:aj} {CX:CXT} {k:Nat} {c:CT} {E:EK} {B:Bs} {X:Cx}
abbrev OkE(Z:aj)(c:CT)(E:EK)(B:Bs)(X:Cx)(x:Ex):Prop:=∀{e:AO},aa c x e=true->PE X e (tE X.K B (wpE Z x E))
abbrev iC(Z:aj)(c:CT)(E:EK)(B:Bs)(X:Cx)(x:Exs):Prop:=∀{es:AE},aM c x es=true->PA X es (tL X.K B (aY Z x E))
abbrev OkT(Z:aj)(c:CT)(E:EK)(B:Bs)(X:Cx)(x:Tx):Prop:=∀{e:AO},bW c x e=true->PT X e (tB' X.K B (wpT Z x E))
def aa3(S:Stat Z CX k c E B X){a:Ex}(J:OkE Z c E B X a)(h:aa c (.not a) e):PE X e (tE X.K B (wpE Z (.not a) E)):=by
 replace h:=Ja h;let(_,_,rfl,h):=h
 .intro p9 s W H Q I q;let(Y,F,G,e0,he,r,hw):=q;rw[xM]at hw;have q':tE X.K B (wpE Z a E) W H (λx H1=>∃b,pL X.K x H1 b/\Q (.bl (!b)) H1):=aP e0 he r hw λx G1 H1 F1 v q e1 x1 he1 y rv=>by
   split at q
   .rename_i b hb;exact(b,Hz y rv hb,q _ _ _ x1 y rfl)
   .exact q.elim
  show UnaryOp_ (thn (J h p9 s W H _ I q') λv s1 zZ=>?_);let(x,H1,O,y,b,tb,q1):=zZ;show not_of (thn (Dg p9 s1 W H1 x v (λz H'=>Q (.bl (!z)) H') O y (b,tb,q1)) λz s2 zZ=>?_);let(H2,U,q2):=zZ;exact(.bl (!z),H2,U,rfl,q2)
def zb{es:AE}(h:aM c .nil es):PA X es (tL X.K B (aY Z .nil E)):=by
 unfold aM at h;cases es with
 |nil=>exact paI fQ λW H Q y=>el y λY F G z he r hw=>by rw[jU]at hw;exact hw H F [] (Ext.refl _ _) r rfl
 |cons _ _=>cases h
def rE{x:Ex}{xs:Exs}(ih:OkE Z c E B X x)(z:iC Z c E B X xs){es:AE}(h:aM c (.cons x xs) es):PA X es (tL X.K B (aY Z (.cons x xs) E)):=by
 unfold aM at h;split at h
 .rename_i e es;rw[ae]at h;show paI (dI (ih h.1) (z h.2) (bH e es X.env (cQ (bR x h.1)))) λW H Q hq=>el hq λY F G e0 he r hw=>?_;rw[jc]at hw;show aP e0 he r hw λd G1 H1 F1 v q e1 x1 y r1 rv=>dC e1 y r1 q λds G2 H2 U vs q e2 O he2 r2 J=>?_;exact q H2 U _ (x1.trans O) r2 (v,vs,rfl,Rep.ext O rv,J)
 .cases h
def aa4(S:Stat Z CX k c E B X){es:Exs}(U:iC Z c E B X es)(h:aa c (.tup es) e):PE X e (tE X.K B (wpE Z (.tup es) E)):=by
 replace h:=Jg h;let(_,_,_,rfl,h):=h
 .show peI (Vq (U h)) λW H Q O=>el O λY F G z he r hw=>?_;rw[xP]at hw;show dC z he r hw λds G1 H1 F1 vs q e1 x1 J r1 y=>(by rw[<-y⁻¹];exact eE q.1,qK (PV.later q.2 x1) r1 y)
def aa5(S:Stat Z CX k c E B X){fz:Bool}{es:Exs}(ih:iC Z c E B X es)(h:aa c (.lst fz es) e):PE X e (tE X.K B (wpE Z (.lst fz es) E)):=by
 replace h:=Jh h;let(_,_,rfl,h):=h
 .show peI (Vr (ih h)) λW H Q U=>el U λY F G J he r hw=>?_;rw[xQ]at hw;show dC J he r hw λds G1 H1 F1 vs q e1 x1 O r1 y=>(by rw[<-y⁻¹];exact eE q.1,gM (dR (λd G' z=>PV.later z x1) q.2) r1 y)
def aa6(S:Stat Z CX k c E B X){a i:Ex}(O:OkE Z c E B X a)(U:OkE Z c E B X i)(h:aa c (.idx a i) e):PE X e (tE X.K B (wpE Z (.idx a i) E)):=by
 replace h:=Ji h;let(_,_,_,rfl,h):=h
 .rw[ae]at h;show peI (VR Zx (O h.1) (U h.2) (aaV (bR i h.2))) λW H Q hq=>el hq λY F G e0 he r hw=>?_;rw[xR]at hw;show aP e0 he r hw λx G1 H1 F1 v q e1 x1 J r1 rv=>aP e1 J r1 q λy G2 H2 F2 u q e2 x2 he2 r2 ru=>?_;exact(F2,G2,x,y,r2,Rep.ext x2 rv,ru,Hj (λd z=>PV.later z (x1.trans x2)) q)
def JR(U:∀x,lo=.ob x->OkE Z c E B X x){l:Option AO}(h:gP c lo l):PO X l (JK X.K B (wpO Z lo E)):=by
 cases lo with
 |no=>
  unfold gP at h;cases l with
  |none=>
   intro p9 s W H Q I q;show VG p9 s W H Q I ?_;let(Y,F,G,y,he,r,hw):=q;rw[xj]at hw;exact hw H F (Ext.refl _ _) r
  |some _=>cases h
 |ob x=>
  unfold gP at h;split at h
  .intro p9 s W H Q I q;show VH (U x rfl h) p9 s W H Q I ?_;let(Y,F,G,y,he,r,hw):=q;rw[xm]at hw;show aP y he r hw λd G1 H1 z v q e1 x1 O r1 rv=>?_;split at q
   .have J:v=.int _:=rv;exact(_,J,q H1 z x1 r1)
   .exact q.elim
  .cases h
def aa7(S:Stat Z CX k c E B X){fz:Bool}{a:Ex}{hi:Ox}(O:OkE Z c E B X a)(ihl:∀x,lo=.ob x->OkE Z c E B X x)(U:∀x,hi=.ob x->OkE Z c E B X x)(h:aa c (.slc fz a lo hi) e):
  PE X e (tE X.K B (wpE Z (.slc fz a lo hi) E)):=by
 replace h:=Jj h;let(_,_,_,_,_,rfl,h):=h
 .rw[ae,ae]at h;show peI (VJ (ZG fz) (O h.1.1) (JR ihl h.1.2) (JR U h.2)) λW H Q hq=>el hq λY F G e0 he r hw=>?_;rw[xT]at hw;show aP e0 he r hw λx G1 H1 F1 v q e1 x1 y r1 rv=>JM e1 y r1 q λl G2 H2 F2 q e2 x2 J r2=>JM e2 J r2 q λu G3 H3 F3 q e3 x3 he3 r3=>?_;exact(F3,G3,x,r3,Rep.ext (x2.trans x3) rv,Hk (λd G' z=>PV.later z ((x1.trans x2).trans x3)) q)
def aa8(S:Stat Z CX k c E B X){a:Ex}(y:OkE Z c E B X a)(h:aa c (.frz a) e):PE X e (tE X.K B (wpE Z (.frz a) E)):=by
 have h:aa c a e=true:=h;show peI (y h) λW H Q hq=>el hq λY F G e0 he r hw=>?_;rw[yd]at hw;show aP e0 he r hw λx G1 H1 F1 v q e1 U he1 z O=>?_;split at q
 .rename_i p;have e2:v=.ref p:=O;subst e2;split at q
  .rename_i ds J;exact q _ _ _ (U.trans wM) (z.frz J) (Zb z J)
  .exact q.elim
 .exact q _ _ _ U z O
def mR{es:AE}{xs:Exs}(h:aM c xs es)(env:Env)(pos:Pos):(backTo pos (starEach es env)).any (·.1)=false:=by
 induction es generalizing xs with
 |nil=>rfl
 |cons e es y=>
  cases xs with
  |nil=>unfold aM at h;cases h
  |cons x xs=>
   unfold aM at h;rw[ae]at h;rw[bH e es env (cQ (bR x h.1))];change(false||(backTo pos (starEach es env)).any (·.1))=false;rw[y h.2];rfl
def kh{es:AE}{xs:Exs}(h:aM c xs (e::es)):∃x y,xs=.cons x y/\aa c x e=true/\aM c y es=true:=by
 cases xs with
 |nil=>unfold aM at h;cases h
 |cons x y=>
  unfold aM at h;rw[ae]at h;exact(x,y,rfl,h.1,h.2)
def zc{Y:ao}:∀(xs:Exs){es:AE}{G:DH}{Q:AS->DH->Prop},aM c xs es=true->aY Z xs E Y G Q->aY Z xs E Y G (λds y=>ds⁻¹=es⁻¹/\Q ds y)
 |.nil,es,G,Q,h,q=>by
  unfold aM at h;rw[jU]at q ⊢;cases es with
  |nil=>exact(rfl,q)
  |cons _ _=>cases h
 |.cons x xs,es,G,Q,h,q=>by
  unfold aM at h;split at h
  .rename_i e es;rw[ae]at h;rw[jc]at q ⊢;show aN x (λd G1 q=>d9 xs (λds J z=>?_) (zc xs h.2 q)) q;exact(by simp[z.1],z.2)
  .cases h
def aa9(S:Stat Z CX k c E B X){f:AL}{xs:Exs}(ih:iC Z c E B X xs)(h:aa c (.call f xs) e):PE X e (tE X.K B (wpE Z (.call f xs) E)):=by
 replace h:=Jl h;let(x,p,args,pos,rfl,h):=h
 .simp only[ae,aw,List.any_eq_true]at h;let((((O,h1),(f',n),hm,e2,e3),h2),U):=h;simp only at e2 e3;subst O e2 e3;let(g1,g2):=cR h1;let(fa,fd,ps,F0,hk,hb,hmg):=S.call _ _ hm;let(EX,y,_,hEX):=S.exc;cases args with
  |nil=>cases h2
  |cons e es=>
   let(x0,xs',rfl,c1,c2):=kh U;show peI (Vu F0 S.room (S.glo _ g1) hmg hk hb .nil y (ih U) (bJ g2) (bH e es X.env (cQ (bR x0 c1))) (mR c2 X.env pos)) λW H Q hq=>el hq λY F G e0 he r hw=>?_;rw[xU]at hw;show dC e0 he r (zc _ U hw) λds G1 H1 F1 vs q O x1 he1 r1 J=>?_;rw[eM];show(by rw[<-J⁻¹];exact q.1,F1,G1,ds,r1,J,Spec.mono q.2 (λd G' z=>PV.later z x1) λx G' z H' F' x' r'=>?_);exact hEX x G' H' F' z (O.trans x') r'
def aba(S:Stat Z CX k c E B X){f:Bf}{xs:Exs}(ih:iC Z c E B X xs)(h:aa c (.bcl f xs) e):PE X e (tE X.K B (wpE Z (.bcl f xs) E)):=by
 replace h:=Jm h;let(x,p,args,pos,rfl,h):=h
 .simp only[ae,aw]at h;let(((((e1,O),h1),hm),h2),U):=h;subst e1;let(g1,J):=cR h1;have y:=S.blt _ (bn.mp hm);cases args with
  |nil=>cases h2
  |cons e es=>
   let(x0,xs',rfl,c1,c2):=kh U;have hs:=bH e es X.env (cQ (bR x0 c1));have ha:=mR c2 X.env pos;have go:∀W H Q,tE X.K B (wpE Z (.bcl f (.cons x0 xs')) E) W H Q->tCB (jg X.K f) (tL X.K B (aY Z (.cons x0 xs') E)) W H Q:=λW H Q hq=>el hq λY F G e0 he r hw=>by
    rw[xV]at hw;show dC e0 he r hw λds G1 H1 F1 vs q e1 x1 he1 r1 rvs=>?_;exact(F1,G1,ds,r1,rvs,Hl (λd z=>PV.later z x1) q)
   cases f with
   |len=>exact peI (jC ZJ (S.glo _ g1) y PySem.boot_len (ih U) (dq J) (bJ J) hs ha) go
   |all=>exact peI (jC (ZK S.calm) (S.glo _ g1) y Wz (ih U) (dq J) (bJ J) hs ha) go
   |int=>exact peI (lC ZL (S.glo _ g1) y Eg (ih U) (dq J) (bJ J) hs ha) go
   |tuple=>exact peI (lC ZM (S.glo _ g1) y (by ac_rfl) (ih U) (dq J) (bJ J) hs ha) go
   |sum=>cases O
   |min=>exact peI (jC (Z6 S.calm) (S.glo _ g1) y Z7 (ih U) (dq J) (bJ J) hs ha) go
   |max=>cases O
   |abs=>cases O
   |min2=>cases O
   |str=>exact peI (lC Z8 (S.glo _ g1) y Eh (ih U) (dq J) (bJ J) hs ha) go
def abb(S:Stat Z CX k c E B X){fz:Bool}{f:Lf}{xs:Exs}(ih:iC Z c E B X xs)(h:aa c (.lcl fz f xs) e):PE X e (tE X.K B (wpE Z (.lcl fz f xs) E)):=by
 replace h:=Jo h;let(x,p,args,pos,rfl,h):=h
 .simp only[ae,aw]at h;let(((((e1,O),h1),hm),h2),h3):=h;subst e1;let(g1,g2):=cR h1;have J:=S.blt _ (bn.mp hm);cases args with
  |nil=>cases h2
  |cons e es=>
   let(x0,y,rfl,c1,c2):=kh h3;have hs:=bH e es X.env (cQ (bR x0 c1));have ha:=mR c2 X.env pos;have go:∀W H Q,tE X.K B (wpE Z (.lcl fz f (.cons x0 y)) E) W H Q->tCB (HB X.K fz f) (tL X.K B (aY Z (.cons x0 y) E)) W H Q:=λW H Q hq=>el hq λY F G e0 he r hw=>by
    rw[xW]at hw;show dC e0 he r hw λds G1 H1 F1 vs q e1 x1 he1 r1 U=>?_;exact(F1,G1,ds,r1,U,Hm (λd z=>dR (λd G' z=>PV.later z x1) z) q)
   cases f with
   |list=>exact peI (lC (ZR S.calm fz) (S.glo _ g1) J Ei (ih h3) (dq g2) (bJ g2) hs ha) go
   |sorted=>cases O
def abd:bootBuiltins "set"=-(.type "set"):=by ac_rfl
def abe(S:Stat Z CX k c E B X){fz:Bool}{a:Ex}(iha:OkE Z c E B X a)(h:aa c (.srs fz a) e):PE X e (tE X.K B (wpE Z (.srs fz a) E)):=by
 let(x,p,x',p',O,pos',pos,rfl,h'):=Jr h;simp only[ae,aw]at h';let((((((e1,h1),hm),e3),h2),hr),h3):=h';subst e1 e3;let(g1,g2):=cR h1;let(U,J):=cR h2;have hmg:=S.blt _ (bn.mp hm);have hmr:=S.blt _ (bn.mp hr);have hs:=bH O [] X.env (cQ (bR a h3));show peI (jC (Z1 S.calm) (S.glo _ g1) hmg ZS (dI (lC (ZZ S.calm) (S.glo _ U) hmr abd (dI (iha h3) fQ hs) (dq J) (bJ J) hs rfl) fQ rfl) (dq g2) (bJ g2) rfl rfl) λW H Q hq=>el hq λY F G e0 he r hw=>?_;rw[xZ]at hw;show aP e0 he r hw λd G1 H1 F1 v q e1 x1 he1 r1 rv=>?_;unfold iw at q;split at q
 .rename_i ds ev;let(p,vs,e,sq,t'):=Rep.list r1 rv ev;subst e;split at q
  .rename_i ls hb;have O:=qQ hb t';have hsz:=yL hb t';subst O;let((hz,h64),q):=q;show(p,ls,rfl,sq,hz,λl hl=>(l,cA ls,rfl,cu,h64,λls' pm l2 hl2=>?_));have xn:=dN (o:=mD X l (cA ls)) r1 hl;show gM (dR (λd G' z=>PV.later z (x1.trans xn)) (q ls' pm)) (r1.new hl) (HQ λy hy=>?_) l2 hl2;exact hsz y (yK _ (pm.mem_iff.mp hy))
  .exact q.elim
 .exact q.elim
def abf{t:AL}(h:gG t):bootBuiltins (⇑t)=-(.type t):=by
 simp only[gG,df,aw]at h;rcases h with(((rfl|rfl)|rfl)|rfl)|rfl
 .exact Ws
 .exact Eg
 .exact Eh
 .ac_rfl
 .exact Ei
def abg(S:Stat Z CX k c E B X){a:Ex}{t:AL}(iha:OkE Z c E B X a)(h:aa c (.isi a t) e):PE X e (tE X.K B (wpE Z (.isi a t) E)):=by
 replace h:=Jp h;let(x,p,v,y,p2,pos,rfl,h):=h
 .simp only[ae,aw]at h;let(((((((e1,h1),O),h2),e2),h3),U),z):=h;subst e1 e2;let(g1,g2):=cR h1;let(g3,g4):=cR h3;have hmg:=S.blt _ (bn.mp O);have hmt:=S.blt _ (bn.mp U);have hty:PE X (.Name (⇑t) p2) (tC (.ty t)):=Ek (S.glo _ g3) hmt (abf z) (dq g4) (bJ g4);have sv:=cQ (bR a h2);show peI (jC Wr (S.glo _ g1) hmg Ej (dI (iha h2) (dI hty fQ (bH _ _ _ rfl)) (bH _ _ _ sv)) (dq g2) (bJ g2) (bH _ _ _ sv) rfl) λW H Q hq=>el hq λY F G e0 he r hw=>?_;rw[xX]at hw;show aP e0 he r hw λd G1 H1 F1 v q e1 x1 he1 r1 rv=>?_;split at q
  .rename_i b hb;let(T,hk,hT,J):=aac hb;show(v,t,.type T,b,rfl,Z9 r1 rv hk,?_,q _ _ _ x1 r1 rfl);rw[aab T t hT z,J z]
  .exact q.elim
def abh:bootBuiltins (⇑"ValueError")=-(.type "ValueError"):=by ac_rfl
def abi(S:Stat Z CX k c E B X){a:Ex}{xs:List AL}(iha:OkE Z c E B X a)(h:aa c (.isx a C xs) e):PE X e (tE X.K B (wpE Z (.isx a C xs) E)):=by
 replace h:=Jq h;let(x,p,v,y,p2,pos,rfl,h):=h;simp only[ae,aw]at h;let(((((((e1,h1),hm1),h2),e2),h3),hC),hxs):=h;subst e1 e2;let(g1,g2):=cR h1;let(g3,g4):=cR h3;have hmg:=S.blt _ (bn.mp hm1);have sv:=cQ (bR a h2);let(cv,hcv,U):=S.xis C hC;have O:∀J,(c.xs.contains (J,true)||c.ot.xk.any λp=>p.1==J)=true->XI X.K J C cv:=λJ z=>by
  rw[df]at z;rcases z with z|z
  .exact U J z
  .let((C2,f2),m1,m2):=List.any_eq_true.mp z;have:C2=J:=by simpa using m2
   subst this;exact(S.xko _ _ m1).2 C cv hC hcv
 have hok:=hcv.ok;have hty:PE X (.Name (⇑C) p2) (tC cv):=by
  rcases hcv with⟨a1,rfl,hm,_⟩|⟨rfl,rfl,hm⟩
  .exact Cz (S.glo _ g3) hm rfl (bJ g4)
  .exact Ek (S.glo _ g3) hm abh (dq g4) (bJ g4)
 show peI (jC Xk (S.glo _ g1) hmg Ej (dI (iha h2) (dI hty fQ (bH _ _ _ rfl)) (bH _ _ _ sv)) (dq g2) (bJ g2) (bH _ _ _ sv) rfl) λW H Q hq=>el hq λY F G e0 he r hw=>?_;rw[xY]at hw;show aP e0 he r hw λd G1 H1 F1 v q e1 x1 he1 r1 rv=>?_;unfold jb at q;split at q
 .rename_i J;let(c1,k1,k2,k4,k5):=O J (cr.mp hxs J (bn.mp q.1));let(a',c',e2,xo,hn):=rv;rw[k1]at hn;have ec:c1=c':=by simpa using hn
  subst ec;subst e2;exact(a',c1,cv,_,rfl,xo,k2,hok,k4,k5,q.2 _ _ _ x1 r1 rfl)
 .rename_i J f1 d1;let(c1,k1,k2,k4,k5):=O J (cr.mp hxs J (bn.mp q.1));let(a',c',dx,ob,od,y,u,e2,(xo,xc,_),_,_,hn):=rv;rw[k1]at hn;have ec:c1=c':=by simpa using hn
  subst ec;subst e2;exact(a',c1,cv,_,rfl,(ob,y,xo,xc),k2,hok,k4,k5,q.2 _ _ _ x1 r1 rfl)
 .exact q.elim
def abj{v:AO}(h:(!q8 v))(name:Str)(env:Env):attributeBase v name env (eval v env)=eval v env:=by
 cases v with
 |Call f args y pos=>
  cases f with
  |Name id p=>
   cases args with
   |nil=>
    cases y with
    |nil=>cases h
    |cons _ _=>rfl
   |cons _ _=>rfl
  |_=>rfl
 |_=>rfl
def all_plain{es:AE}{xs:Exs}(h:aM c xs es)(env:Env)(pos:Pos):(backTo pos (starEach es env)).all (λx=>!x.1)=true:=by
 induction es generalizing xs with
 |nil=>rfl
 |cons e es J=>
  let(O,U,rfl,y,z):=kh h;rw[bH e es env (cQ (bR O y))];change(!false&&(backTo pos (starEach es env)).all (λx=>!x.1))=true;rw[J z];rfl
def abk{o:AO}{name:Str}{apos pos:Pos}{args:AE}{env:Env}(y:attributeBase o name env (eval o env)=eval o env)(J:methodCallForm (args⁻¹+([]:List Keyword)⁻¹) (backTo pos (starEach args env)) (backToKw pos (keywordEach [] env))=true)(z:(apos.endLine==pos.line)=true):
  eval (.Call (.Attribute o name apos) args [] pos) env=(do
   let ov <-eval o env
   standAt apos.atName
   let(f,first) <-holding [ov] (getMethod ov name (do return(<-importBound o env).getD true))
   callWith pos f first (backTo pos (starEach args env)) (backToKw pos (keywordEach [] env))):=by
 have O:methodCallPos true o env apos pos=pure pos:=by unfold methodCallPos;simp[z]
 rw[arm_eval_Call,y];unfold methodCall;rw[J,O];rfl
def one_le:1<=sizeLine:=by rw[eT];decide
def abl(S:Stat Z CX k c E B X){f:AL}{a:Ex}(iha:OkE Z c E B X a)(h:aa c (.xat C f a) e):PE X e (tE X.K B (wpE Z (.xat C f a) E)):=by
 let(v,n,pos,rfl,J,hh):=Jt h;simp only[ae,aw]at hh;let((en,hx),ha):=hh;subst en;let((c0,fa,fd,ps,j,hj,hm,hn,hcl,hfn,hk,(O,U,hx3),hb,F0),_):=S.xko C f (bn.mp hx);show peI (Yp (iha ha) (aaA J _ _)) λW H Q hq=>el hq λY F G e0 he r hw=>?_;rw[yc]at hw;show aP e0 he r hw λd G1 H1 F1 v q e1 x1 he1 r1 rv=>?_;unfold jT at q;split at q
 .rename_i C1 g1 d1;let(rfl,rfl,q):=q;let(a,c1,dx,ob,od,y,u,e2,(q1,q2,q3,q4),qd,ru,z):=rv;have ec:c1=c0:=by rw[hn]at z;cases z;rfl
  subst ec;exact(a,c1,dx,ob,od,.own y,u,e2,q1,q2,q3,q4,qd,O,U,hx3,q _ _ _ x1 r1 ru)
 .exact q.elim
theorem abm(S:Stat Z CX k c E B X){o:Ex}{xs:Exs}(iho:OkE Z c E B X o)(ih:iC Z c E B X xs)(h:aa c (.mth m o xs) e):PE X e (tE X.K B (wpE Z (.mth m o xs) E)):=by
 replace h:=Ju h;let(v,x,apos,args,cpos,rfl,h):=h
 .simp only[ae,aw,br]at h;let((((((e1,h1),hb),hl),hn),h2),h3):=h;subst e1;cases args with
  |nil=>cases h2
  |cons e es=>
   let(x0,xs',rfl,c1,c2):=kh h3;have hs:=bH e es X.env (cQ (bR x0 c1));have ha:=mR c2 X.env cpos;have y:=abj hb (⇑m.name) X.env;have hfew:((backTo cpos (starEach (e::es) X.env)).all (λx=>!x.1)&&(backToKw cpos (keywordEach [] X.env)).all (λx=>x.1.isSome)
    &&decide ((e::es)⁻¹+([]:List Keyword)⁻¹+(if([]:List Keyword).isEmpty then 0 else 1)<30))=true:=by
    rw[all_plain h3 X.env cpos];have:(e::es)⁻¹+([]:List Keyword)⁻¹+(if([]:List Keyword).isEmpty then 0 else 1)<30:=by have e0:(if([]:List Keyword).isEmpty=true then 0 else 1)=0:=rfl;rw[e0];change(e::es)⁻¹+0+0<30;lia
    rw[cp this];rfl
   have J:(apos.endLine==cpos.line)=true:=by rw[aw];exact hl
   have lst:∀{d:D} {u:V} {G1:DH} {H1:Hp} {F1:FZ},(match d with |.ref p=>(match G1 p with|some (.lst _)=>True|none=>False)|_=>False)->R X.K H1 F1 G1->Rep X.K H1 F1 d u->tyV X.K "list" u H1:=λ{d u G1 H1 F1} q r1 ru=>by
    split at q
    .rename_i p;split at q
     .rename_i ds hg;let(vs,hv,_):=r1.lst hg;have e2:u=.ref p:=ru;subst e2;exact .inl (rfl,vs,SqL.of hv)
     .exact q.elim
    .exact q.elim
   have lstV:∀{d:D} {u:V} {G1:DH} {H1:Hp} {F1:FZ},wV (view G1 d)->R X.K H1 F1 G1->Rep X.K H1 F1 d u->tyV X.K "list" u H1:=λ{d u G1 H1 F1} q r1 ru=>by
    generalize hv:view G1 d=w at q;cases w with
    |lst ds=>
     let(a,vs,rfl,sq,_):=Rep.list r1 ru hv;exact .inl (rfl,vs,sq)
    |_=>exact(show False from q).elim
   cases m with
   |join=>
    show peI (lE PySem.F.plainAttrs_str PySem.F.slot_str_join PySem.F.type_str_join aad (iho h1) (ih h3) y hfew J hs ha) λW H Q hq=>el hq λY F G e0 he r hw=>?_;rw[jd]at hw;show aP e0 he r hw λd G1 H1 F1 u q e1 x1 O r1 ru=>(?_,dC e1 O r1 q.2 λds G2 H2 F2 vs q e2 x2 he2 r2 U=>?_)
    .have q1:=q.1;cases d with
     |str l=>let(e2,_):=ru;subst e2;exact rfl
     |_=>exact(show False from q1).elim
    .exact (F2,G2,d,ds,r2,Rep.ext x2 ru,U,jV (λd G' z=>PV.later z (x1.trans x2)) q)
   |append=>
    show peI (lE i7 PySem.F.slot_list_append PySem.F.type_list_append aae (iho h1) (ih h3) y hfew J hs ha) λW H Q hq=>el hq λY F G e0 he r hw=>?_;rw[jd]at hw;show aP e0 he r hw λd G1 H1 F1 u q e1 x1 O r1 ru=>(?_,dC e1 O r1 q.2 λds G2 H2 F2 vs q e2 x2 he2 r2 U=>?_)
    .show lst (d:=d) (G1:=G1) ?_ r1 ru;have q1:=q.1;cases d<;>first|exact q1|exact(show False from q1).elim
    .exact (F2,G2,d,ds,r2,Rep.ext x2 ru,U,jV (λd G' z=>PV.later z (x1.trans x2)) q)
   |extend=>
    show peI (lE i7 PySem.F.slot_list_extend PySem.F.type_list_extend aai (iho h1) (ih h3) y hfew J hs ha) λW H Q hq=>el hq λY F G e0 he r hw=>?_;rw[jd]at hw;show aP e0 he r hw λd G1 H1 F1 u q e1 x1 O r1 ru=>(?_,dC e1 O r1 q.2 λds G2 H2 F2 vs q e2 x2 he2 r2 U=>?_)
    .show lst (d:=d) (G1:=G1) ?_ r1 ru;have q1:=q.1;cases d<;>first|exact q1|exact(show False from q1).elim
    .exact (F2,G2,d,ds,r2,Rep.ext x2 ru,U,jV (λd G' z=>PV.later z (x1.trans x2)) q)
   |count=>
    show peI (lE i7 PySem.F.slot_list_count PySem.F.type_list_count aaf (iho h1) (ih h3) y hfew J hs ha) λW H Q hq=>el hq λY F G e0 he r hw=>?_;rw[jd]at hw;show aP e0 he r hw λd G1 H1 F1 u q e1 x1 O r1 ru=>(lstV q.1 r1 ru,dC e1 O r1 q.2 λds G2 H2 F2 vs q e2 x2 he2 r2 U=>?_);exact(F2,G2,d,ds,r2,Rep.ext x2 ru,U,jV (λd G' z=>PV.later z (x1.trans x2)) q)
   |index=>
    show peI (lE i7 PySem.F.slot_list_index PySem.F.type_list_index aag (iho h1) (ih h3) y hfew J hs ha) λW H Q hq=>el hq λY F G e0 he r hw=>?_;rw[jd]at hw;show aP e0 he r hw λd G1 H1 F1 u q e1 x1 O r1 ru=>(lstV q.1 r1 ru,dC e1 O r1 q.2 λds G2 H2 F2 vs q e2 x2 he2 r2 U=>?_);exact(F2,G2,d,ds,r2,Rep.ext x2 ru,U,jV (λd G' z=>PV.later z (x1.trans x2)) q)
end
section
variable {Z:aj} {CX:CXT} {k:Nat} {c:CT} {E:EK} {B:Bs} {X:Cx}
def EachE(Z:aj)(c:CT)(E:EK)(B:Bs)(X:Cx):Exs->Prop
 |.nil=>True
 |.cons e es=>OkE Z c E B X e/\EachE Z c E B X es
def rF(Z:aj)(c:CT)(E:EK)(B:Bs)(X:Cx):Txs->Prop
 |.nil=>True
 |.cons e es=>OkT Z c E B X e/\rF Z c E B X es
def tJF(K:PF)(B:Bs)(w:ao->DH->(AA->DH->Prop)->Prop):TJ2:=λX H Q=>∃Y F G,Ext B.H B.F H F/\EnvR K H F Y X/\R K H F G/\w Y G (λl y=>∀H' F',Ext H F H' F'->R K H' F' y->Q (tx l) H')
def zf{es:AE}{t t':TJ2}{n:Nat}(h:PJ2 X es t n)(i:∀Y H Q,t' Y H Q->t Y H Q):PJ2 X es t' n:=λp9 s Y H Q out I hl q=>h p9 s Y H Q out I hl (i Y H Q q)
theorem JS:∀(es:Exs){ps:AE},EachE Z c E B X es->j6 es ps=true->aM c es (ps.map unF)=true->PJ2 X ps (tJF X.K B (wpF Z es E)) (1000*ps⁻¹)
 |.nil,ps,_,_,h=>by
  unfold aM at h;cases ps with
  |nil=>exact zf XH λW H Q hq=>el hq λY F G e0 he r hw=>by rw[lZ]at hw;exact hw H F (Ext.refl _ _) r
  |cons _ _=>cases h
 |.cons x xs,ps,ih,hp,h=>by
  unfold aM at h;cases ps with
  |nil=>cases h
  |cons p ps=>
   simp only[db,ae]at h;unfold j6 at hp;rw[ae]at hp;have hr:=JS xs (ps:=ps) ih.2 hp.2 h.2;have J:=hp.1;have hlen:(1000:Nat)*(p::ps)⁻¹=1000+1000*ps⁻¹:=by rw[ce,Nat.mul_succ,Nat.add_comm]
   rw[hlen];cases hf:rz p with
   |some t=>
    have e1:p=_:=t.2;rw[hf]at J;have J:(decide (t.1.2.1=Neg.neg 1)&&t.1.2.2.1.isNone)=true:=J;rw[ae,br,eW]at J;have hu:unF p=t.1.1:=by unfold unF;rw[hf]
    have h1:=h.1;rw[hu]at h1;rw[e1,J.1,J.2];show zf (XJ (ih.1 h1) hr) λW H Q hq=>el hq λY F G e0 he r hw=>?_;rw[iy]at hw;show aP e0 he r hw λd G1 H1 F1 v q e2 x1 O r1 rv=>?_;split at q
    .rename_i l;let(e3,_):=rv;show .inr (tx l,e3,by rw[cz];exact q.1,Y,F1,G1,e2,O,r1,jf xs (λy G2 z H2 U x2 r2=>?_) q.2);change Q (tx l++tx y) H2;rw[iU];exact z H2 U (x1.trans x2) r2
    .rename_i i;have e3:v=.int i:=rv;let((q0,q1),q2):=q;show .inl (i.toNat,by rw[e3,Int.toNat_of_nonneg q0],!0,Y,F1,G1,e2,O,r1,jf xs (λy G2 z H2 U x2 r2=>?_) q2);have ht:ig i.toNat=tx (fU i.toNat):=lF _;change Q (ig i.toNat++tx y) H2;rw[ht,iU];exact z H2 U (x1.trans x2) r2
    .exact q.elim
   |none=>
    rw[hf]at J;have J:yV x=true:=J;have hx:∃l,x=.cst (.str l):=by
     unfold yV at J;split at J
     .exact (_,rfl)
     .cases J
    let(l,rfl):=hx;have hu:unF p=p:=by unfold unF;rw[hf]
    have h1:=h.1;rw[hu]at h1;show zf (XM (ih.1 h1) hr) λW H Q hq=>el hq λY F G e0 he r hw=>?_;rw[iy,eZ]at hw;let(hl,hw):=hw;have hw':wpE Z (.cst (.str l)) E Y G (λd G1=>d=.str l/\G1=G):=by rw[eZ];exact(rfl,rfl)
    show aP e0 he r hw' λd G1 H1 F1 v q e2 x1 O r1 rv=>?_;let(rfl,rfl):=q;let(e3,_):=rv;show(tx l,e3,by rw[cz];exact hl,Y,F1,G1,e2,O,r1,jf xs (λy G2 z H2 U x2 r2=>?_) hw);change Q (tx l++tx y) H2;rw[iU];exact z H2 U (x1.trans x2) r2
theorem abn(S:Stat Z CX k c E B X){es:Exs}(ih:EachE Z c E B X es)(h:aa c (.fst es) e):PE X e (tE X.K B (wpE Z (.fst es) E)):=by
 let(ps,pos,rfl,h'):=Js h;rw[ae,ae,ae,br,br]at h';let(((h1,h2),J),O):=h';have U:=JS es ih J O;rcases ps with _|⟨v1,_|⟨v2,r⟩⟩
 .simp at h1
 .simp at h1
 .show peI (XN U (!0)) λW H Q hq=>el hq λY F G y he r hw=>?_;rw[qC]at hw;exact(Y,F,G,y,he,r,jf es (λl G' z H' F' x' r'=>z.2 H' F' _ x' r' (rfl,z.1)) hw)
def EachE.oks:∀{xs:Exs},EachE Z c E B X xs->iC Z c E B X xs
 |.nil,_=>λh=>zb h
 |.cons x xs,hh=>λh=>rE hh.1 (EachE.oks hh.2) h
def rG(Z:aj)(E:EK)(isAnd:Bool)(x:Ex)(xs:Exs):ao->DH->(AT)->Prop:=λY G z=>wpE Z x E Y G λd G1=>match d with |.bl b=>wpB Z xs isAnd b E Y G1 (λc y=>z (.bl c) y)|_=>False
def JT{isAnd:Bool}{pos:Pos}:∀(xs:Exs){x:Ex},OkE Z c E B X x->EachE Z c E B X xs->∀{v:AO}{vs:AE},aa c x v=true->aM c xs vs=true->
  PE X (.BoolOp (if isAnd then .And else .Or) (v::vs) pos) (tE X.K B (rG Z E isAnd x xs))
 |.nil,x,ih,_,v,vs,h1,h2=>by
  unfold aM at h2;cases vs with
  |nil=>
   show peI (Tu (ih h1)) λW H Q hq=>el hq λY F G e0 he r hw=>?_;unfold rG at hw;show aP e0 he r hw λd G1 H1 F1 u q e1 U J O ru=>?_;split at q
   .rw[xf]at q;exact q _ _ _ U O ru
   .exact q.elim
  |cons _ _=>cases h2
 |.cons y ys,x,ih,hh,v,vs,h1,h2=>by
  unfold aM at h2;split at h2
  .rename_i w ws;rw[ae]at h2;have rest:=JT (isAnd:=isAnd) (pos:=pos) ys hh.1 hh.2 h2.1 h2.2;cases isAnd with
   |true=>
    show peI (Tv (ih h1) rest) λW H Q hq=>el hq λY F G e0 he r hw=>?_;unfold rG at hw;show aP e0 he r hw λd G1 H1 F1 u q e1 U J O ru=>?_;split at q
    .rename_i b;show(b,ru,?_);rw[qw]at q;cases b with
     |true=>
      rw[if_pos rfl];exact(Y,F1,G1,e1,J,O,aN y (λd G' z=>by
       cases d<;>first|exact(show False from z).elim|exact qI ys (λc G2 z=>PV.later z U) z) q)
     |false=>
      rw[if_neg ck];exact q _ _ _ U O rfl
    .exact q.elim
   |false=>
    show peI (Tw (ih h1) rest) λW H Q hq=>el hq λY F G e0 he r hw=>?_;unfold rG at hw;show aP e0 he r hw λd G1 H1 F1 u q e1 U J O ru=>?_;split at q
    .rename_i b;show(b,ru,?_);rw[qw]at q;cases b with
     |false=>
      rw[if_neg ck];exact(Y,F1,G1,e1,J,O,aN y (λd G' z=>by
       cases d<;>first|exact(show False from z).elim|exact qI ys (λc G2 z=>PV.later z U) z) q)
     |true=>
      rw[if_pos rfl];exact q _ _ _ U O rfl
    .exact q.elim
  .cases h2
def abo{x:Ex}{xs:Exs}(O:OkE Z c E B X x)(hh:EachE Z c E B X xs)(h:aa c (.boo isAnd x xs) e):PE X e (tE X.K B (wpE Z (.boo isAnd x xs) E)):=by
 replace h:=Jd h;let(_,_,_,_,rfl,h):=h
 .simp only[ae,aw]at h;let((z,h1),h2):=h;subst z;show peI (JT xs O hh h1 h2) λW H Q J=>el J λY F G y he r hw=>(Y,F,G,y,he,r,?_);rw[xN]at hw;exact hw
def abp{t:Tx}{a b:Ex}(U:OkT Z c E B X t)(J:OkE Z c E B X a)(O:OkE Z c E B X b)(h:aa c (.ife t a b) e):PE X e (tE X.K B (wpE Z (.ife t a b) E)):=by
 replace h:=Jf h;let(_,_,_,_,rfl,h):=h
 .simp only[ae]at h;let((h1,h2),h3):=h;show peI (Tz (U h1) (J h2) (O h3)) λW H Q hq=>el hq λY F G e0 he r hw=>?_;rw[xO]at hw;show j8 e0 he r hw λb' G1 H1 F1 q e1 x1 y r1=>?_;cases b' with
  |true=>
   rw[if_pos rfl];exact(Y,F1,G1,e1,y,r1,aN a (λd G' z=>PV.later z x1) q)
  |false=>
   rw[if_neg ck];exact(Y,F1,G1,e1,y,r1,aN b (λd G' z=>PV.later z x1) q)
def abq{x:Ex}(ih:OkE Z c E B X x)(U:jj e)(h:aa c x e):PT X e (tB' X.K B (wpT Z (.val x) E)):=by
 show ptI (Vc (ih h) (aaW U X.env)) λW H Q hq=>el hq λY F G z he r hw=>?_;rw[lW]at hw;show aP z he r hw λd G1 H1 F1 u q e1 x1 O y ru=>?_;split at q
 .rename_i b J;exact(b,Hz y ru J,q _ _ x1 y)
 .exact q.elim
def abr{t:Tx}(O:OkT Z c E B X t)(h:bW c (.not t) e):PT X e (tB' X.K B (wpT Z (.not t) E)):=by
 replace h:=aaD h;let(_,_,rfl,h):=h
 .show ptI (Tp (O h)) λW H Q J=>el J λY F G y he r hw=>?_;rw[wY]at hw;exact j8 y he r hw λb G1 H1 F1 q e1 x1 z U=>q _ _ x1 U
def mU(Z:aj)(E:EK)(isAnd:Bool)(x:Tx)(xs:Txs):ao->DH->(Bool->DH->Prop)->Prop:=λY G y=>wpT Z x E Y G λb G1=>gH Z xs isAnd b E Y G1 y
def JV{isAnd:Bool}{pos:Pos}:∀(xs:Txs){x:Tx},OkT Z c E B X x->rF Z c E B X xs->∀{v:AO}{vs:AE},bW c x v=true->jm c xs vs=true->
  PW X (.BoolOp (if isAnd then .And else .Or) (v::vs) pos) (tB' X.K B (mU Z E isAnd x xs))
 |.nil,x,ih,_,v,vs,h1,h2=>by
  unfold jm at h2;cases vs with
  |nil=>
   have go:∀W H Q,tB' X.K B (mU Z E isAnd x .nil) W H Q->tB' X.K B (wpT Z x E) W H Q:=λW H Q U=>el U λY F G O he r hw=>by
    unfold mU at hw;show(Y,F,G,O,he,r,d8 x (λb G1 q=>?_) hw);rw[xg]at q;exact q
   cases isAnd with
   |true=>exact pwI (Th (ih h1)) go
   |false=>exact pwI (Ti (ih h1)) go
  |cons _ _=>cases h2
 |.cons y ys,x,ih,hh,v,vs,h1,h2=>by
  unfold jm at h2;split at h2
  .rename_i w ws;rw[ae]at h2;have rest:=JV (isAnd:=isAnd) (pos:=pos) ys hh.1 hh.2 h2.1 h2.2;cases isAnd with
   |true=>
    show pwI (Tj (ih h1) rest) λW H Q U=>el U λY F G O he r hw=>?_;unfold mU at hw;show j8 O he r hw λb G1 H1 F1 q e1 x1 J r1=>?_;rw[qx]at q;cases b with
    |true=>
     rw[if_pos rfl];exact(Y,F1,G1,e1,J,r1,d8 y (λb' G' z=>qJ ys (λc G2 z=>PB.later z x1) z) q)
    |false=>
     rw[if_neg ck];exact q _ _ x1 r1
   |false=>
    show pwI (Tn (ih h1) rest) λW H Q U=>el U λY F G O he r hw=>?_;unfold mU at hw;show j8 O he r hw λb G1 H1 F1 q e1 x1 J r1=>?_;rw[qx]at q;cases b with
    |false=>
     rw[if_neg ck];exact(Y,F1,G1,e1,J,r1,d8 y (λb' G' z=>qJ ys (λc G2 z=>PB.later z x1) z) q)
    |true=>
     rw[if_pos rfl];exact q _ _ x1 r1
  .cases h2
def abt{x:Tx}{xs:Txs}(O:OkT Z c E B X x)(hh:rF Z c E B X xs)(h:bW c (.boo isAnd x xs) e):PT X e (tB' X.K B (wpT Z (.boo isAnd x xs) E)):=by
 replace h:=aaE h;let(_,_,_,_,rfl,h):=h
 .simp only[ae,aw]at h;let((z,h1),h2):=h;subst z;show ptI (PW.pt (JV xs O hh h1 h2)) λW H Q J=>el J λY F G y he r hw=>(Y,F,G,y,he,r,?_);rw[wZ]at hw;exact hw
def tG(K:PF)(B:Bs)(t:Tg):TG:=λv X H Q=>∃Y F G d,Ext B.H B.F H F/\EnvR K H F Y X/\R K H F G/\Rep K H F d v/\bC t d Y G (λz=>∀y,EnvR K H F z y->Q y H)
def tGs(K:PF)(B:Bs)(t:Tgs):TGs:=λvs X H Q=>∃Y F G ds,Ext B.H B.F H F/\EnvR K H F Y X/\R K H F G/\Reps K H F ds vs/\b7 t ds Y G (λz=>∀y,EnvR K H F z y->Q y H)
def rH:∀{ts:Tgs}{es:AE}{env:Env},cU c ts es=true->(assignEach es env)⁻¹=es⁻¹/\(assignEach es env).findIdx? (·.1)=none/\(assignEach es env).map (·.2)=es.map λe=>assign e env
 |.nil,[],env,_=>(rfl,rfl,rfl)
 |.nil,_::_,env,h=>by unfold cU at h;cases h
 |.cons t r,[],env,h=>by unfold cU at h;cases h
 |.cons t r,e::es,env,h=>by
  unfold cU at h;rw[ae]at h;let(h1,h2,y):=rH (env:=env) h.2;have hs:assignEach (e::es) env=(false,assign e env)::assignEach es env:=by
   cases t with
   |nm i=>
    have h':=h.1;let(_,_,rfl,_):=yZ h';rfl
   |tp ts=>
    have h':=h.1;let(_,_,_,rfl,_):=za h';rfl
  rw[hs];show(by simp[h1],?_,by simp[y]);rw[i0];simp[h2]
section
variable {prog:AK} {w:World} {A:AM} {E:AG} {s:AI}
theorem JW{it t:AQ}(Y:t≠it):∀(n i:Nat)(s:AI)(Q:AB->AI->Prop),s.heap.IsListIter it t i->s.heap.IsList t items->i+n<=items.size->
  (∀h',h'.IsListIter it t (i+n)->Heap.SameBut it s.heap h'->Q ((items.toList.drop i).take n) {s with heap:=h'})->wpAny (model prog w) A (draw (.ref it) n) Q E s
 |0,i,s,Q,hit,_,_,hQ=>by
  change wpAny _ _ (pure []) Q E s;exact am (by simpa using hQ s.heap hit (Heap.SameBut.refl ..))
 |n+1,i,s,Q,hit,ht,hle,hQ=>by
  have U:i<items.size:=by lia
  change wpAny _ _ (pyNext (.ref it) >>= _) Q E s;show af (wpAny_pyNext_list_item hit ht (x:=items[i]) (by simp[U]) λh₁ z y=>?_);show af (dE (JW Y n (i+1) _ _ z (ht.extBut y.extBut Y) (!0) λh₂ J O=>am ?_));have hd:items.toList.drop i=items[i]::items.toList.drop (i+1):=by simp[cf,U]
  have:=hQ h₂ (by rw[show i+(n+1)=i+1+n by lia];exact J) (y.trans O);rw[hd,List.take_succ_cons]at this;exact this
theorem abu{t:AQ}{Q:AB->AI->Prop}(hh:A.handled=none)(ht:s.heap.IsList t items)(hQ:∀h',Heap.ExtBut (~~~s) s.heap h'->Q items.toList {s with heap:=h'}):wpAny (model prog w) A (unpackItems (.ref t) items.size none) Q E s:=by
 have Y:t≠(~~~s):=by let(o,ho,_):=ht;exact ci (aE ho)
 unfold unpackItems;show af ?_;unfold notIterableAtAll;show af (wpAny_specialOf ht.typeIs PySem.F.slot_list_iter.lookup ?_);show am ?_;simp only[fg,ja];show af (dE (ki ht ?_));show af (dE (JW Y items.size 0 _ _ (_,bd _ rfl,rfl,rfl) (ht.push _) (!0) λh₁ z y=>?_));have U:List.take items.size (List.drop 0 items.toList)=items.toList:=by rw[List.drop_zero];exact gd (!2)
 rw[U];rw[if_neg (!2)];have O:h₁.IsList t items:=(ht.push _).extBut y.extBut Y;show af (dE (wpAny_pyNext_list_end hh z O (!2) λh₂ J=>?_));simp only[Option.isSome_none,fg,ja];show am (hQ h₂ λb o hb e=>J b o hb (y.extBut b o hb (ag _ e)))
def abv{env:Env}{x1}{pos:Pos}{t:AQ}{Q:Unit->AI->Prop}(hh:A.handled=none)(z:s.heap.IsList t items)(hn:(assignEach elts env)⁻¹=items.size)(y:(assignEach elts env).findIdx? (·.1)=none)(h:∀h',Heap.ExtBut (~~~s) s.heap h'->wpAny (model prog w) A (assignInOrder ((assignEach elts env).map (·.2)) items.toList) Q E {s with heap:=h'}):
  wpAny (model prog w) A (assign (.Tuple elts x1 pos) env (.ref t)) Q E s:=by
 rw[assign_Tuple];show af (ko ?_);unfold unpack;rw[hn,y];exact af (dE (abu hh z h))
end
section
variable {X:Cx} {pos:Pos}
def abw(K:PF)(n:Nat)(t:TGs):TG:=λv Y H Q=>∃a xs,v=.ref a/\SqL K H a xs/\xs⁻¹=n/\t xs Y H Q
def abx{es:AE}{t:TGs}{n:Nat}(hc:X.calm)(h:PGs X es t)(hn:(assignEach es X.env)⁻¹=n:=by rfl)(y:(assignEach es X.env).findIdx? (·.1)=none:=by rfl):PG X (.Tuple es k pos) (abw X.K n t):=by
 intro p9 s Y H v u Q I r hw;let(a,xs,O,U,hl,hw):=hw;subst O;cases r;let(its,z,pl,hz):=I.list U;show abv (I.ok.hd hc) pl.isList (by simp[hn,<-hl,z⁻¹]) y λh' hx=>?_;have J:Inv X p9 Y H {s with heap:=h'}:=I.kept (t':=s.toks) λb o e=>hx b o (ci (aE e)) e;exact h p9 _ Y H xs _ Q J (!!z) hw
end
set_option tactic.hygienic true in
mutual
theorem rJ(S:Stat Z CX k c E B X):∀(t:Tg){e:AO},cX c t e=true->PG X e (tG X.K B t)
 |.nm i,e,h=>by
  replace h:=yZ h;let(x,pos,rfl,h):=h
  .skip;rw[ae,aw]at h;let(l,f):=S.sto x h.2;intro p9 s W H v u Q I rv q;show Ug (i:=i) S.nd (by rw[S.N];exact h.1) l f p9 s W H v u Q I rv ?_;let(Y,F,G,d,e0,he,r,rd,hw):=q;unfold bC at hw;exact hw _ (he.set rd i)
 |.tp ts,e,h=>by
  replace h:=za h;let(es,kk,pos,rfl,h):=h
  .skip;let(h1,h2,h3):=rH (env:=X.env) h;intro p9 s W H v u Q I rv q;let(Y,F,G,d,e0,he,r,rd,hw):=q;unfold bC at hw;split at hw
   .rename_i ds;show Um (n:=es⁻¹) S.calm (zg S ts h) h1 h2 p9 s W H v u Q I rv ?_;let(a,vs,e1,q,t):=rd;show(a,vs,e1,q.sq,?_,Y,F,G,ds,e0,he,r,t,hw);rw[<-t⁻¹];exact zj ts h hw
   .rename_i ds;show abx (n:=es⁻¹) S.calm (zg S ts h) h1 h2 p9 s W H v u Q I rv ?_;let(a,vs,e1,q,t):=rd;show(a,vs,e1,q.sq,?_,Y,F,G,ds,e0,he,r,t,hw);rw[<-t⁻¹];exact zj ts h hw
   .exact hw.elim
theorem zg(S:Stat Z CX k c E B X):∀(ts:Tgs){es:AE},cU c ts es=true->PGs X es (tGs X.K B ts)
 |.nil,es,h=>by
  unfold cU at h;cases es with
  |nil=>
   intro p9 s W H vs us Q I rv q;show Uj p9 s W H vs us Q I rv ?_;let(Y,F,G,ds,e0,he,r,rd,hw):=q;unfold b7 at hw;split at hw
   .exact (rd,hw _ he)
   .exact hw.elim
  |cons _ _=>cases h
 |.cons t r,es,h=>by
  unfold cU at h;split at h
  .rename_i e es;rw[ae]at h;intro p9 s W H vs us Q I rv q;have hs:(assignEach (e::es) X.env).map (·.2)=assign e X.env::(assignEach es X.env).map (·.2):=by
    have hh:cU c (.cons t r) (e::es)=true:=by unfold cU;change(cX c t e&&cU c r es)=true;rw[h.1,h.2];rfl
    rw[(rH (env:=X.env) hh).2.2,(rH (env:=X.env) h.2).2.2];rfl
   show Uk (rJ S t h.1) (zg S r h.2) hs p9 s W H vs us Q I rv ?_;let(Y,F,G,ds,e0,he,rr,rd,hw):=q;unfold b7 at hw;split at hw
   .rename_i d ds;let(v,vs',e1,rd1,rds):=rd;show(v,vs',e1,Y,F,G,d,e0,he,rr,rd1,gK (λρ' z σ' he'=>?_) t hw);exact(ρ',F,G,ds,e0,he',rr,rds,z)
   .exact hw.elim
  .cases h
theorem zj{G:DH}:∀(ts:Tgs){es:AE}{ds:AS}{Y:ao}{Q:ao->Prop},cU c ts es=true->b7 ts ds Y G Q->ds⁻¹=es⁻¹
 |.nil,es,ds,Y,Q,h,q=>by
  unfold cU at h;unfold b7 at q;split at q
  .cases es with
   |nil=>rfl
   |cons _ _=>cases h
  .exact q.elim
 |.cons t r,es,ds,Y,Q,h,q=>by
  unfold cU at h;split at h
  .rw[ae]at h;unfold b7 at q;split at q
   .rename_i d ds;have:∃ρ',b7 r ds ρ' G Q:=JX t q;let(ρ',q'):=this;have:=zj r h.2 q';simp[this]
   .exact q.elim
  .cases h
theorem JX{G:DH}:∀(t:Tg){d:D}{Y:ao}{Q:ao->Prop},bC t d Y G Q->∃ρ',Q ρ'
 |.nm i,d,Y,Q,q=>(_,q)
 |.tp ts,d,Y,Q,q=>by
  unfold bC at q;split at q
  .exact zm ts q
  .exact zm ts q
  .exact q.elim
theorem zm{G:DH}:∀(ts:Tgs){ds:AS}{Y:ao}{Q:ao->Prop},b7 ts ds Y G Q->∃ρ',Q ρ'
 |.nil,ds,Y,Q,q=>by
  unfold b7 at q;split at q
  .exact (_,q)
  .exact q.elim
 |.cons t r,ds,Y,Q,q=>by
  unfold b7 at q;split at q
  .let(ρ',q'):=JX t q;exact zm r q'
  .exact q.elim
end
end
structure WalkJ(K:PF)(H:Hp)(F:FZ)(items:AS)(g:Hld)(J:It):Prop where
 go:∀H' F' G i,Ext H F H' F'->R K H' F' G->held g G->i < items.length->J.go i H'
 stop:∀H' F' G,Ext H F H' F'->R K H' F' G->held g G->J.stop items.length H'
 yld:∀H' F' i x H'' d G,Ext H F H' F'->R K H' F' G->held g G->items[i]?=some d->J.yld i H' x H''->Ext H' F' H'' F'/\R K H'' F' G/\Rep K H'' F' d x
section
variable {K:PF} {H:Hp} {F:FZ}
structure Src(K:PF)(H:Hp)(F:FZ)(u:AN)(ds:AS)(g:Hld)(k:SK):Prop where
 val:k.val=u
 sat:∀H' F' G,Ext H F H' F'->R K H' F' G->held g G->∃vs,k.Sat H' vs/\Reps K H' F' ds vs
def rK{d:D}{v:V}{G:DH}{ds:AS×Hld}(h:Rep K H F d v)(r:RelV v u)(e:itemsOf G d=-ds):∃k,Src K H F u ds.1 ds.2 k:=by
 cases d with
 |lst xs=>
  simp only[itemsOf,bo]at e;subst e;let(a,vs,e1,q,t):=h;subst e1;have hu:u=Value.ref a:=r;subst hu;exact(.lst a,rfl,λH' F' G' x z z=>(vs,(FzL.ext x q).2,Reps.ext x t))
 |tup xs=>
  simp only[itemsOf,bo]at e;subst e;let(a,vs,e1,q,t):=h;subst e1;have hu:u=Value.ref a:=r;subst hu;exact(.tup a,rfl,λH' F' G' x z z=>(vs,(TpT.ext (K:=K) x q).it,Reps.ext x t))
 |str l=>
  simp only[itemsOf,bo]at e;subst e;let(e1,hl):=h;subst e1;obtain⟨t,hu⟩:∃t,u=Value.str (tx l) t:=r;subst hu;exact(.str (tx l) t,rfl,λH' F' G' x z z=>(_,rfl,by simpa using yI l))
 |ref p=>
  simp only[itemsOf]at e;split at e
  .rename_i xs hg;simp only[bo]at e;subst e;have e1:v=.ref p:=h;subst e1;have hu:u=Value.ref p:=r;subst hu;exact(.lst p,rfl,λH' F' G' x r' hh=>r'.lst hh.1)
  .cases e
 |_=>cases e
def rM{G:DH}{d:D}{ds:AS×Hld}(e:itemsOf G d=-ds):held ds.2 G:=by
 cases d with
 |ref p=>
  simp only[itemsOf]at e;split at e
  .rename_i xs y;simp only[bo]at e;subst e;exact(y,trivial)
  .cases e
 |_=>simp only[itemsOf]at e;first | (cases e;done) | (simp only[bo]at e;subst e;exact trivial)
def aby{ds:AS}{k:SK}(s:Src K H F u ds g k):WalkJ K H F ds g (Jk k) where
 go:=λH' F' G i x r hh hi=>by
  let(vs,h1,h2):=s.sat H' F' G x r hh;exact(vs,h1,by rw[<-h2⁻¹];exact hi)
 stop:=λH' F' G x r hh=>by
  let(vs,h1,h2):=s.sat H' F' G x r hh;exact(vs,h1,h2.length.symm)
 yld:=λH' F' i v O d G x r hh hd y=>by
  let(e,Y):=y;subst e;let(vs,h1,h2):=s.sat _ F' G x r hh;let(w,U,z):=h2.get hd;have J:=Y vs h1;rw[U]at J;cases J;exact(Ext.refl _ _,r,z)
def iD:∀(n:Nat)(ds:AS),(d7 n ds)⁻¹=ds⁻¹
 |_,[]=>rfl
 |n,d::ds=>by simp[d7,iD (n+1) ds]
theorem jo:∀(n:Nat)(ds:AS)(i:Nat),(d7 n ds)[i]?=(ds[i]?).map λd=>.tup [.int ((n+i:Nat):Int),d]
 |_,[],_=>by simp[d7]
 |n,d::ds,0=>by simp[d7]
 |n,d::ds,i+1=>by
  simp only[d7,List.getElem?_cons_succ];rw[jo (n+1) ds i];congr 1;funext d;rw[show n+1+i=n+(i+1) by lia]
def rN:∀(as bs:AS),(cF as bs)⁻¹=min as⁻¹ bs⁻¹
 |[],bs=>by simp[cF]
 |a::as,[]=>by simp[cF]
 |a::as,b::bs=>by simp[cF,rN as bs]
def zq:∀(as bs:AS)(i:Nat)(d:D),(cF as bs)[i]?=-d->∃a b,as[i]?=-a/\bs[i]?=-b/\d=.tup [a,b]
 |[],bs,i,d,h=>by simp[cF]at h
 |a::as,[],i,d,h=>by simp[cF]at h
 |a::as,b::bs,0,d,h=>by simp[cF]at h;exact(a,b,rfl,rfl,h.symm)
 |a::as,b::bs,i+1,d,h=>by
  simp only[cF,List.getElem?_cons_succ]at h;let(x,y,h1,h2,z):=zq as bs i d h;exact(x,y,!!h1,!!h2,z)
def abz{ds:AS}{k:SK}(s:Src K H F u ds g k):WalkJ K H F (d7 0 ds) g (Je k) where
 go:=λH' F' G i x r hh hi=>by
  let(vs,h1,h2):=s.sat H' F' G x r hh;exact(vs,h1,by rw[<-h2⁻¹,<-iD 0];exact hi)
 stop:=λH' F' G x r hh=>by
  let(vs,h1,h2):=s.sat H' F' G x r hh;exact(vs,h1,by rw[iD];exact h2.length.symm)
 yld:=λH' F' i v H'' d G x r hh hd y=>by
  let(vs,h1,h2):=s.sat H' F' G x r hh;let(T,y,O,J,z,hv):=y;subst J z;rw[jo]at hd;let(d',U,e3):=a9.mp hd;subst e3;let(w,J,Y):=h2.get U;have z:=hv vs h1;rw[J]at z;cases z;show(dN r O,r.new O,?_);rw[Nat.zero_add];exact wL r O (Reps.cons rfl (Reps.cons Y Reps.nil))
def kj{G:DH}:held (g++g') G->held g G/\held g' G:=by
 induction g with
 |nil=>exact λh=>(trivial,h)
 |cons p r y=>
  intro h;let(h1,h2):=y h.2;exact((h.1,h1),h2)
theorem abA{u':AN}{ds es:AS}{k l:SK}(s:Src K H F u ds g k)(s':Src K H F u' es g' l):WalkJ K H F (cF ds es) (g++g') (Jz k l) where
 go:=λH' F' G i x r hh hi=>by
  let(vs,h1,h2):=s.sat H' F' G x r (kj hh).1;let(U,J,O):=s'.sat H' F' G x r (kj hh).2;rw[rN]at hi;exact(vs,U,h1,J,by rw[<-h2⁻¹];lia,by rw[<-O⁻¹];lia)
 stop:=λH' F' G x r hh=>by
  let(vs,h1,h2):=s.sat H' F' G x r (kj hh).1;let(U,J,O):=s'.sat H' F' G x r (kj hh).2;exact(vs,U,h1,J,by rw[rN,<-h2⁻¹,<-O⁻¹];lia)
 yld:=λH' F' i v H'' d G x r hh hd y=>by
  let(T,y,z,hT,e1,Y,hv,hz):=y;subst e1 Y;let(a,b,ha,hb,e3):=zq _ _ _ _ hd;subst e3;let(vs,h1,h2):=s.sat H' F' G x r (kj hh).1;let(U,J,O):=s'.sat H' F' G x r (kj hh).2;let(w,e1,rw'):=h2.get ha;let(w2,e3,rw2):=O.get hb;have Y:=hv vs h1;have e4:=hz U J;rw[e1]at Y;cases Y;rw[e3]at e4;cases e4;exact(dN r hT,r.new hT,wL r hT (Reps.cons rw' (Reps.cons rw2 Reps.nil)))
def abB(lo:Int)(n:Nat):WalkJ K H F (bf lo n) [] (Itr lo n) where
 go:=λH' F' G i x u u hi=>by change i<n;simpa [bf] using hi
 stop:=λH' F' G x u u=>by change n<=(bf lo n)⁻¹;simp[bf]
 yld:=λH' F' i v z d G x r u hd y=>by
  let(J,O):=y;subst J O;show(Ext.refl _ _,r,?_);unfold bf at hd;rw[aS]at hd;let(j,Y,U):=a9.mp hd;have:j=i:=by have:=al.mp Y;let(h1,h2):=this;simpa using h2.symm
  subst this;subst U;rfl
end
def tI(K:PF)(B:Bs)(w:ao->DH->(AS->Hld->DH->Prop)->Prop):TI:=λX H O=>∃Y F G,Ext B.H B.F H F/\EnvR K H F Y X/\R K H F G/\
 w Y G (λy g z=>∀H' F' J,Ext H F H' F'->R K H' F' z->WalkJ K H' F' y g J->O J H')
section
variable {Z:aj} {CX:CXT} {k:Nat} {c:CT} {E:EK} {B:Bs} {X:Cx}
def rO{p9:AC}{Y:L2.St}{H:Hp}{s:AI}(I:Inv X p9 Y H s){z:SK}{vs:AR}(h:z.Sat H vs):∃y:Array AN,z.On y s.heap:=by
 cases z with
 |lst a=>let(y,_,pl,_):=I.list (SqL.of (show H a=-_ from h));exact(y.toArray,pl.isList)
 |tup a=>let(y,_,pl,_):=I.tuple (SqT.of (show H a=-_ from h));exact(y.toArray,pl)
 |str x t=>exact(#[],trivial)
def abC{x:Ex}(ih:OkE Z c E B X x)(h:aa c x e):PI X tg e (tI X.K B (wpI Z (.seq x) E)):=by
 intro p9 s W H Rr I q;let(Y,F,G,e0,he,r,hw):=q;rw[xq]at hw;have q':tE X.K B (wpE Z x E) W H (λv H1=>∃z G1 d y,R X.K H1 z G1/\Rep X.K H1 z d v/\itemsOf G1 d=-y/\∀J,WalkJ X.K H1 z y.1 y.2 J->Rr J H1):=
  aP e0 he r hw λd G1 H1 z u q e1 x1 he1 r1 ru=>by
   split at q
   .rename_i ds hd;exact(z,G1,d,ds,r1,ru,hd,λJ w=>q H1 z J x1 r1 w)
   .exact q.elim
 show thn (ih h p9 s W H _ I q') λu s1 zZ=>?_;let(v,H1,U,rv,z,G1,d,y,r1,rd,hd,q1):=zZ;let(kk,O):=rK rd rv hd;let(vs,sat,_):=O.sat H1 z G1 (Ext.refl _ _) r1 (rM hd);let(its,on):=rO U sat;rw[<-O.val];show SK.iter on ?_;show(s1.heap.objs.size,[s1.heap.objs.size],_,_,H1,rfl,U.kept (t':=s1.toks) λb o e=>ag _ e,aap kk _,SK.pos0,λb hb=>?_,q1 _ (aby O));have e:b=s1.heap.objs.size:=by simpa using hb
 subst e;exact U.fpOk (ay _) (U.hok.fresh (ay _))
def abD(S:Stat Z CX k c E B X){a:Ex}(ih:OkE Z c E B X a)(h:cY c (.rng a) tg e):PI X tg e (tI X.K B (wpI Z (.rng a) E)):=by
 replace h:=Jw h;let(_,_,_,_,rfl,h):=h
 .simp only[ae,aw]at h;let(((z,h1),hm),h2):=h;subst z;let(g1,g2):=cR h1;have y:=S.blt _ (bn.mp hm);have hs:=bH _ [] X.env (cQ (bR a h2));intro p9 s W H O I q;show Uv (S.glo _ g1) y (dI (ih h2) fQ hs) hs p9 s W H O I ?_;let(Y,F,G,U,he,r,hw):=q;rw[xr]at hw;show aP U he r hw λd G1 H1 J u q z x1 he1 r1 ru=>?_;split at q
  .rename_i n;have e2:u=.int n:=ru;subst e2;exact(n,rfl,q.1.1,q.1.2,q.2 H1 J _ x1 r1 (abB 0 n.toNat))
  .exact q.elim
def abE(S:Stat Z CX k c E B X){a:Ex}(ih:OkE Z c E B X a)(h:cY c (.enm a) tg e):PI X tg e (tI X.K B (wpI Z (.enm a) E)):=by
 replace h:=Jx h;let(_,_,_,_,_,_,_,rfl,rfl,h):=h
 .skip
  .simp only[ae,aw]at h;let(((e1,h1),hm),h2):=h;subst e1;let(g1,g2):=cR h1;have hmg:=S.blt _ (bn.mp hm);have hs:=bH _ [] X.env (cQ (bR a h2));intro p9 s V H Rr I q;let(Y,F,G,e0,he,r,hw):=q;rw[xu]at hw;have q':tL X.K B (aY Z (.cons a .nil) E) V H (λvs H1=>∃v z G1 d y,vs=[v]/\R X.K H1 z G1/\Rep X.K H1 z d v/\itemsOf G1 d=-y/\∀J,WalkJ X.K H1 z (d7 0 y.1) y.2 J->Rr J H1):=by
    show dC (W:=λds G1=>∃d y,ds=[d]/\itemsOf G1 d=-y/\∀H' F' J,Ext H F H' F'->R X.K H' F' G1->WalkJ X.K H' F' (d7 0 y.1) y.2 J->Rr J H') e0 he r ?_ λds G1 H1 z vs q e1 x1 he1 r1 rvs=>?_
    .rw[jc];show aN a (λd G1 q=>?_) hw;rw[jU];split at q
     .rename_i y hd;exact(d,y,rfl,hd,q)
     .exact q.elim
    .let(d,y,e2,hd,q):=q;subst e2;let(v,e3,rv):=b8 rvs;exact(v,z,G1,d,y,e3,r1,rv,hd,λJ w=>q H1 z J x1 r1 w)
   show Call_ (jB I (S.glo _ g1) hmg (u:=.type "enumerate") boot_enumerate (ic (thn (rE ih (λh=>zb h) (c:=c) (es:=[_]) (by unfold aM;change(aa c a _&&true)=true;rw[h2];rfl) _ p9 s V H _ I q') λus O zZ=>?_) hs rfl) (dq g2) (bJ g2));let(vs,H1,I1,r1v,q1):=zZ;let(v,z,G1,d,y,e1,r1,rd,hd,q1):=q1;subst e1;let(u,rfl,ru):=vals1 r1v;let(kk,U):=rK rd ru hd;let(vs,sat,_):=U.sat H1 z G1 (Ext.refl _ _) r1 (rM hd);let(its,on):=rO I1 sat;rw[<-U.val];show aay on λh' hen hit hsz hk=>?_;show wpAny_pyIter_enum hen ?_;have n1:H1 O.heap.objs.size=none:=I1.hok.fresh (ay _);have n2:H1 (O.heap.objs.size+1)=none:=I1.hok.fresh (fm _);show(O.heap.objs.size+1,[O.heap.objs.size+1,O.heap.objs.size],_,_,H1,rfl,I1.kept (t':=O.toks) hk,aao kk _ _ (Nat.succ_ne_self _),((_,hen),hit),λb hb=>?_,q1 _ (abz U));have hb':b=O.heap.objs.size+1\/b=O.heap.objs.size:=by simpa using hb
   rcases hb' with rfl|rfl
   .exact I1.fpOk (fm _) n2
   .exact I1.fpOk (ay _) n1
theorem zap(n:Nat):ZApart (n+4) (n+2) (n+3) n (n+1):=
 ((by lia:(n+2:Nat)≠n+4),(by lia:(n+3:Nat)≠n+4),(by lia:(n:Nat)≠n+4),(by lia:(n+1:Nat)≠n+4),(by lia:(n+2:Nat)≠n+3),(by lia:(n+2:Nat)≠n),(by lia:(n+2:Nat)≠n+1),(by lia:(n+3:Nat)≠n),(by lia:(n+3:Nat)≠n+1),(by lia:(n:Nat)≠n+1))
def abF(S:Stat Z CX k c E B X){a b:Ex}(iha:OkE Z c E B X a)(ihb:OkE Z c E B X b)(h:cY c (.zip a b) tg e):PI X tg e (tI X.K B (wpI Z (.zip a b) E)):=by
 replace h:=Jy h;let(_,_,_,_,_,v,v',pos,rfl,rfl,h):=h
 .skip
  .simp only[ae,aw]at h;let((((e1,h1),hm),h2),h3):=h;subst e1;let(g1,g2):=cR h1;have hmg:=S.blt _ (bn.mp hm);have hs2:=bH v' [] X.env (cQ (bR b h3));have hs:=bH v [v'] X.env (cQ (bR a h2));intro p9 s V H Rr I q;let(Y,F,G,e0,he,r,hw):=q;rw[xF]at hw;have hA:aM c (.cons a (.cons b .nil)) [v,v']=true:=by
    unfold aM aM aM;change(aa c a v&&(aa c b v'&&true))=true;rw[h2,h3];rfl
   have q':tL X.K B (aY Z (.cons a (.cons b .nil)) E) V H (λvs H1=>∃v v' F1 G1 d d' z y,vs=[v,v']/\R X.K H1 F1 G1/\Rep X.K H1 F1 d v/\Rep X.K H1 F1 d' v'/\itemsOf G1 d=-z/\itemsOf G1 d'=-y/\∀J,WalkJ X.K H1 F1 (cF z.1 y.1) (z.2++y.2) J->Rr J H1):=by
    show dC (W:=λds G1=>∃d d' z y,ds=[d,d']/\itemsOf G1 d=-z/\itemsOf G1 d'=-y/\∀H' F' J,Ext H F H' F'->R X.K H' F' G1->WalkJ X.K H' F' (cF z.1 y.1) (z.2++y.2) J->Rr J H') e0 he r ?_ λds G1 H1 F1 vs q e1 x1 he1 r1 rvs=>?_
    .rw[jc];show aN a (λd G1 q=>?_) hw;rw[jc];show aN b (λd' G2 q=>?_) q;rw[jU];split at q
     .rename_i z y hd U;exact(d,d',z,y,rfl,hd,U,q)
     .exact q.elim
    .let(d,d',z,y,e2,hd,U,q):=q;subst e2;let(w1,r2,e3,rw1,t2):=rvs;let(w2,e4,rw2):=b8 t2;subst e4;exact(w1,w2,F1,G1,d,d',z,y,e3,r1,rw1,rw2,hd,U,λJ w=>q H1 F1 J x1 r1 w)
   show Call_ (jB I (S.glo _ g1) hmg (u:=.type "zip") WD (ic (thn (rE iha (λh=>rE ihb (λh=>zb h) h) (c:=c) (es:=[v,v']) hA _ p9 s V H _ I q') λus O (vs,H1,I1,r1v,q1)=>?_) hs (by rw[hs2];rfl)) (dq g2) (bJ g2));let(w1,w2,F1,G1,d,d',z,y,e1,r1,rd,rd',hd,U,q1):=q1;subst e1;let(u,u',rfl,ru,ru'):=vals2 r1v;let(kk,src):=rK rd ru hd;let(ll,src'):=rK rd' ru' U;let(vs,sat,_):=src.sat H1 F1 G1 (Ext.refl _ _) r1 (rM hd);let(ws,sat',_):=src'.sat H1 F1 G1 (Ext.refl _ _) r1 (rM U);let(its,on):=rO I1 sat;let(its',on'):=rO I1 sat';rw[<-src.val,<-src'.val];show aaw on on' λh' hz hTI hTO p1 p2 hsz hk=>?_;show wpAny_pyIter_zip hz ?_;have fr:∀j,H1 (O.heap.objs.size+j)=none:=λj=>I1.hok.fresh (dc _ _);show(O.heap.objs.size+4,[O.heap.objs.size+4,O.heap.objs.size+2,O.heap.objs.size+3,O.heap.objs.size,O.heap.objs.size+1],_,_,H1,rfl,I1.kept (t':=O.toks) hk,
    aat kk ll (O.heap.objs.size+4) (O.heap.objs.size+2) (O.heap.objs.size+3) O.heap.objs.size (O.heap.objs.size+1) (zap O.heap.objs.size),(hz,hTI,(_,_,hTO),p1,p2),λb hb=>?_,q1 _ (abA src src'))
   have hb':b=O.heap.objs.size+4\/b=O.heap.objs.size+2\/b=O.heap.objs.size+3\/b=O.heap.objs.size\/b=O.heap.objs.size+1:=by simpa using hb
   rcases hb' with rfl|rfl|rfl|rfl|rfl
   .exact I1.fpOk (dc _ _) (fr 4)
   .exact I1.fpOk (dc _ _) (fr 2)
   .exact I1.fpOk (dc _ _) (fr 3)
   .exact I1.fpOk (ay _) (fr 0)
   .exact I1.fpOk (dc _ _) (fr 1)
end
section
variable {Z:aj} {CX:CXT} {k:Nat} {c:CT} {E:EK} {B:Bs} {X:Cx}
def zr:∀{l:AD},fW l=true->l.Nodup
 |[],_=>List.nodup_nil
 |x::r,h=>by
  unfold fW at h;rw[ae]at h;show fA.mpr (λy=>?_,zr h.2);have:=h.1;rw[bn.mpr y]at this;cases this
def rP{N:AD}:∀{N':AD}{cap:List (Option Nat)},X.N=N->iz N scope N' cap=true->Caps X scope N' cap
 |[],[],_,_=>trivial
 |_::N',none::cap,e,h=>rP (N':=N') (cap:=cap) e h
 |x::N',-j::cap,e,h=>by
  unfold iz at h;simp only[ae,aw]at h;exact((by rw[e];exact h.1.1,h.1.2),rP (N':=N') (cap:=cap) e h.2)
 |[],_::_,_,h=>by cases h
 |_::_,[],_,h=>by cases h
def mV{env:Env}(x:Str):(relabel scope env).names.lookup x=(scope.names.lookup x).map λy=>if(y==NameKind.free&&env.scope.kind==.function&&env.kindOf x==-.cell)=true then NameKind.cell else y:=vV
def Stat.comp(S:Stat Z CX k c E B X)(hn:fW N')(O:List (Str×AQ))(C:AQ)(J:AI)(y:Hp)(fp:List AQ)(pn:AC):
  Stat Z CX k (c.comp N' scope) noE B (X.comp N' scope O C J y fp pn) where
 N:=rfl
 nd:=zr hn
 calm:=S.calm
 own:=PassesOwn.never
 kd:=rfl
 vis:=λx h=>by
  have h:ji (scope.names.lookup x)=true:=h;change(relabel scope X.env).names.lookup x=_\/(relabel scope X.env).names.lookup x=_\/(relabel scope X.env).names.lookup x=_;rw[mV];cases e:scope.names.lookup x with
  |none=>rw[e]at h;cases h
  |some U=>
   rw[e]at h;cases U with
   | «local»=>exact .inl (by simp[show(NameKind.«local»==NameKind.free)=false by decide])
   |cell=>exact .inr (.inl (by simp[show(NameKind.cell==NameKind.free)=false by decide]))
   |free=>
    by_cases q:(NameKind.free==NameKind.free&&X.env.scope.kind==ScopeKind.function&&X.env.kindOf x==-NameKind.cell)=true
    .exact .inr (.inl (by simp only[Option.map_some,if_pos q]))
    .exact .inr (.inr (by simp only[Option.map_some,if_neg q]))
   |globalExplicit=>cases h
   |globalImplicit=>cases h
 cel:=λx h=>by
  have h:scope.names.lookup x=-.cell\/scope.names.lookup x=-.free:=h;change(relabel scope X.env).names.lookup x=_\/(relabel scope X.env).names.lookup x=_;rw[mV];rcases h with h|h
  .exact .inl (by rw[h];simp[show(NameKind.cell==NameKind.free)=false by decide])
  .rw[h];by_cases q:(NameKind.free==NameKind.free&&X.env.scope.kind==ScopeKind.function&&X.env.kindOf x==-NameKind.cell)=true
   .exact .inl (by simp only[Option.map_some,if_pos q])
   .exact .inr (by simp only[Option.map_some,if_neg q])
 glo:=λx h=>by
  have h:scope.names.lookup x=-.globalImplicit:=h;change(relabel scope X.env).names.lookup x=_;rw[mV,h];simp[show(NameKind.globalImplicit==NameKind.free)=false by decide]
 sto:=λx h=>by
  have h:(scope.names.lookup x==-.local||(false&&scope.names.lookup x==-.cell))=true:=h;rw[Bool.false_and,Bool.or_false,aw]at h;have e:(relabel scope X.env).names.lookup x=-.local:=by rw[mV,h];simp[show(NameKind.«local»==NameKind.free)=false by decide]
  exact(.inl e,.inr e)
 room:=S.room
 call:=S.call
 blt:=S.blt
 con:=S.con
 exc:=(_,S.nox _,λv v v v v v v v v v v v v q=>q.elim,λx Y H' F' h=>h.elim)
 nox:=S.nox
 xcl:=λC h=>nZf h
 loc:=λx h=>by change(relabel scope X.env).names.lookup x=_;rw[mV,show scope.names.lookup x=-.local from h];simp[show(NameKind.«local»==NameKind.free)=false by decide]
 xis:=λC h=>nZf h
 mth:=S.mth
 mko:=S.mko
 fld:=S.fld
 xko:=λC f h=>((S.xko C f h).1,λv v z=>nomatch (show false=true from z))
 trc:=λh=>absurd rfl h
def abG(S:Stat Z CX k c E B X){t:Tx}(z:OkT Z c E B X t)(h:mL c t ifs):PIf X ifs (tB' X.K B (wpT Z t E)):=by
 unfold mL at h;rw[df]at h;rcases h with h|h
 .rw[ae,ka]at h;let(y,rfl):=h;cases t with
  |yes=>
   intro p9 s W H Q I q;show Wm p9 s W H Q I ?_;let(Y,F,G,J,he,r,hw):=q;rw[w5]at hw;exact hw.now r
  |_=>cases y
 .let(e,he,h):=aQ h;rw[cP he];exact Wn (z h)
theorem JZ(S:Stat Z CX k c E B X){fz:Bool}{tg:Tg}{it:It'}{cap:List (Option Nat)}{elt':AO}(hn:fW N')(ihe:∀{X':Cx},Stat Z CX k (c.comp N' scope) noE B X'->OkE Z (c.comp N' scope) noE B X' elt)(iht:∀{X':Cx},Stat Z CX k (c.comp N' scope) noE B X'->OkT Z (c.comp N' scope) noE B X' cond)(hg:cX (c.comp N' scope) tg tg')(hi:mL (c.comp N' scope) cond ifs)(he:aa (c.comp N' scope) elt elt'){V:L2.St}{H:Hp}{Q:VK}{Y:ao}{F:FZ}{G:DH}(e0:Ext B.H B.F H F)(henv:EnvR X.K H F Y V)(r:R X.K H F G)(hw:wpI Z it E Y G λO g G1=>
   compLoop (λd ρ' G' k'=>bC tg d ρ' G' λU=>wpT Z cond noE U G' λb G2=>match b with|true=>wpE Z elt noE U G2 λy G3=>k' (-y) U G3|false=>k' none U G2)
    g O [] (cap.map λo=>match o with|none=>none|some j=>(Y[j]?).join) G1 λds G2=>mk fz ds G2 (PV X.K H F Q)):
  tI X.K B (wpI Z it E) V H (λJ H1=>Fy true X N' scope tg' (emT ifs elt') J (eO cap V) H1 Q):=by
 show(Y,F,G,e0,henv,r,mq it (λO g G1 q H1 F1 J x1 r1 W=>?_) hw);let step:D->ao->DH->(Option D->ao->DH->Prop)->Prop:=λd ρ' G' k'=>bC tg d ρ' G' λU=>wpT Z cond noE U G' λb G2=>match b with|true=>wpE Z elt noE U G2 λy G3=>k' (-y) U G3|false=>k' none U G2
 let fin:AS->DH->Prop:=λds G2=>mk fz ds G2 (PV X.K H F Q)
 show(λi m ys σ' H'=>m=O⁻¹-i/\i<=O⁻¹/\∃ρ' F' G' acc,Ext B.H B.F H' F'/\Ext H1 F1 H' F'/\EnvR X.K H' F' ρ' σ'/\R X.K H' F' G'/\Reps X.K H' F' acc ys/\compLoop step g (O.drop i) acc ρ' G' fin,
  (O⁻¹,!2,gS _,_,F1,G1,[],e0.trans x1,Ext.refl _ _,(henv.ext x1).cap cap,r1,rfl,q),?_)
 rintro i m ys σ' H' ⟨rfl,hle,ρ',F',G',acc,eB,e1,he',r',ra,hl⟩;by_cases hlt:i<O⁻¹
 .have hd:O.drop i=O[i]::O.drop (i+1):=cf hlt;rw[hd]at hl;let(hh,hz,hl):=hl;show .inr (W.go H' F' G' i e1 r' hh hlt,λu=>by rw[<-ra⁻¹];exact bS hz szl,λcl C s₁ H₁ fp pn=>?_);have S':=S.comp (scope:=scope) hn cl C s₁ H₁ fp pn;show(_,tmT _ _,rJ S' tg hg,λa ha=>X3 rfl ha (abG S' (iht S') hi) (ihe S' he),λx H2 hy=>?_);let(xy,ry,rx):=W.yld H' F' i x H2 O[i] G' e1 r' hh (by simp[hlt]) hy;show(ρ',F',G',O[i],eB.trans xy,he'.ext xy,ry,rx,gK (λU z σ1 hσ1=>?_) tg hl);unfold tmT;show j8 (eB.trans xy) hσ1 ry z λb G2 H3 F3 z e3 x3 he3 r3=>?_;cases b with
  |true=>
   rw[if_pos rfl];show aP e3 he3 r3 z λy G4 H4 F4 v z e4 x4 he4 r4 rv=>?_;exact(O⁻¹-(i+1),!0,rfl,hlt,U,F4,G4,acc++[y],e4,e1.trans (xy.trans (x3.trans x4)),he4,r4,(Reps.ext (xy.trans (x3.trans x4)) ra).append (Reps.cons rv Reps.nil),z)
  |false=>
   rw[if_neg ck];exact(O⁻¹-(i+1),!0,rfl,hlt,U,F3,G2,acc,e3,e1.trans (xy.trans x3),he3,r3,Reps.ext (xy.trans x3) ra,z)
 .have hi':i=O⁻¹:=by lia
  subst hi';rw[eR]at hl;let(hh,hz,hl):=hl;show .inl (W.stop H' F' G' e1 r' hh,by rw[<-ra⁻¹];exact eE hz,λp hp=>?_);exact gM (dR (λd G' z=>PV.later z (x1.trans e1)) hl) r' ra p hp
structure CompC(c:CT)(elt:Ex)(tg:Tg)(it:It')(cond:Tx)(N':AD)(cap:List (Option Nat))(elt' tg' iter:AO)(ifs:AE)(scope:Scope):Prop where
 it:cY c it tg' iter=true
 cap:iz c.N scope N' cap=true
 sc:jX c scope=true
 nd:fW N'=true
 tg:cX (c.comp N' scope) tg tg'=true
 cd:mL (c.comp N' scope) cond ifs=true
 el:aa (c.comp N' scope) elt elt'=true
def J0(S:Stat Z CX k c E B X)(h:jX c scope):scope.names.all (λy=>y.2 != NameKind.cell)=true/\scope.names.all (λy=>y.2 != NameKind.local||scope.names.lookup y.1==-NameKind.local)=true/\
  scope.names.all (λy=>y.2 != NameKind.free||(X.env.kindOf y.1==-NameKind.cell||X.env.kindOf y.1==-NameKind.free))=true/\scope.kind=.function:=by
 unfold jX at h;simp only[ae,br]at h;let((((h1,h2),z),J),_):=h;show(h1,h2,?_,J);rw[cr]at z ⊢;intro y O;have:=z y O;rw[df,df,aw,aw]at this;rw[df,df,aw,aw];rcases this with q|q
 .exact .inl q
 .exact .inr (S.cel y.1 q)
def J1{fz:Bool}{tg:Tg}{it:It'}{N:List AL}{cap:List (Option Nat)}(h:aa c (.comp fz elt tg it cond N cap) e):
  ∃y J iter z scope pos,e=.ListComp y [(J,iter,z,0)] scope pos/\CompC c elt tg it cond (N.map Str.ofString) cap y J iter z scope:=by
 replace h:=Jv h;let(_,_,_,_,_,_,_,rfl,h):=h;simp only[ae,br]at h;let(((((((h1,h2),O),U),Y),h6),h7),h8):=h;subst h1;exact(_,_,_,_,_,_,rfl,h2,O,U,Y,h6,h7,h8)
def zu{it:It'}{iter:AO}(h:cY c it tg' iter)(env:Env)(x:AN):foldedSetIterable iter env x=pure x:=by
 cases it with
 |seq y=>exact aaU (bR y (show aa c y iter=true from h)) env x
 |rng a=>let(_,_,_,_,rfl,_):=Jw h;rfl
 |enm a=>let(_,_,_,_,_,_,_,_,rfl,_):=Jx h;rfl
 |zip a b=>let(_,_,_,_,_,_,_,_,_,rfl,_):=Jy h;rfl
def abH(S:Stat Z CX k c E B X){fz:Bool}{tg:Tg}{it:It'}{N:List AL}{cap:List (Option Nat)}(U:∀{J:CT}{z:Cx},Stat Z CX k J noE B z->OkE Z J noE B z elt)(iht:∀{J:CT}{z:Cx},Stat Z CX k J noE B z->OkT Z J noE B z cond)(ihi:∀{y iter:AO},cY c it y iter=true->PI X y iter (tI X.K B (wpI Z it E)))(h:aa c (.comp fz elt tg it cond N cap) e):
  PE X e (tE X.K B (wpE Z (.comp fz elt tg it cond N cap) E)):=by
 let(elt',y,iter,ifs,scope,pos,rfl,C):=J1 h;let(s1,s2,s3,s4):=J0 S C.sc;show peI (X4 (lim:=true) (N.map Str.ofString) cap S.calm (ihi C.it) (rP S.N C.cap) s1 s2 s3 s4 (zu C.it X.env) (Fx _ _ _ _ _ _)) λW H Q hq=>el hq λY F G e0 he r hw=>?_;rw[yz]at hw;exact JZ S C.nd (λO=>U O) (λO=>iht O) C.tg C.cd C.el e0 he r hw
def cg{x:Ex}(z:OkE Z c E B X x)(hn:∀l os rs pos,aa c x (.Compare l os rs pos)=true->False)(h:bW c (.val x) e):PT X e (tB' X.K B (wpT Z (.val x) E)):=by
 have h:((jj e||mK e)&&aa c x e&&Ir x)=true:=h;simp only[ae,df]at h;let((h1,h2),J):=h;rcases h1 with h1|h1
 .exact abq z h1 h2
 .let((t,y),_):=dA.mp h1;rw[y]at h2;exact(hn _ _ _ _ h2).elim
end
mutual
theorem aF{Z:aj}{CX:CXT}{k:Nat}{B:Bs}:∀(x:Ex){c:CT}{E:EK}{X:Cx},Stat Z CX k c E B X->OkE Z c E B X x
 |.var i,c,E,X,S=>λh=>aaY S h
 |.cst d,c,E,X,S=>λh=>aaZ S h
 |.glb x d,c,E,X,S=>λh=>aa0 S h
 |.bin op fz a b,c,E,X,S=>λh=>aa1 S (aF a S) (aF b S) h
 |.neg a,c,E,X,S=>λh=>aa2 S (aF a S) h
 |.cmp op a b,c,E,X,S=>λh=>(JP S (aF a S) (aF b S) h).1
 |.chn op op' a b d,c,E,X,S=>λh=>(JQ S (aF a S) (aF b S) (aF d S) h).1
 |.not a,c,E,X,S=>λh=>aa3 S (aF a S) h
 |.boo isAnd e es,c,E,X,S=>λh=>abo (aF e S) (fX es S) h
 |.ife t a b,c,E,X,S=>λh=>abp (jq t S) (aF a S) (aF b S) h
 |.tup es,c,E,X,S=>λh=>aa4 S (EachE.oks (fX es S)) h
 |.lst fz es,c,E,X,S=>λh=>aa5 S (EachE.oks (fX es S)) h
 |.idx a i,c,E,X,S=>λh=>aa6 S (aF a S) (aF i S) h
 |.slc fz a lo hi,c,E,X,S=>λh=>aa7 S (aF a S) (J7 lo S) (J7 hi S) h
 |.call f es,c,E,X,S=>λh=>aa9 S (EachE.oks (fX es S)) h
 |.bcl f es,c,E,X,S=>λh=>aba S (EachE.oks (fX es S)) h
 |.lcl fz f es,c,E,X,S=>λh=>abb S (EachE.oks (fX es S)) h
 |.isi a t,c,E,X,S=>λh=>abg S (aF a S) h
 |.isx a C xs,c,E,X,S=>λh=>abi S (aF a S) h
 |.fst es,c,E,X,S=>λh=>abn S (fX es S) h
 |.srs fz a,c,E,X,S=>λh=>abe S (aF a S) h
 |.xat C f a,c,E,X,S=>λh=>abl S (aF a S) h
 |.mth m o es,c,E,X,S=>λh=>abm S (aF o S) (EachE.oks (fX es S)) h
 |.comp fz elt tg it cond N cap,c,E,X,S=>λh=>abH S (λS'=>aF elt S') (λS'=>jq cond S') (zA it S) h
 |.frz a,c,E,X,S=>λh=>aa8 S (aF a S) h
theorem fX{Z:aj}{CX:CXT}{k:Nat}{B:Bs}:∀(x:Exs){c:CT}{E:EK}{X:Cx},Stat Z CX k c E B X->EachE Z c E B X x
 |.nil,_,_,_,_=>trivial
 |.cons e es,c,E,X,S=>(aF e S,fX es S)
theorem jq{Z:aj}{CX:CXT}{k:Nat}{B:Bs}:∀(x:Tx){c:CT}{E:EK}{X:Cx},Stat Z CX k c E B X->OkT Z c E B X x
 |.not t,c,E,X,S=>λh=>abr (jq t S) h
 |.boo isAnd t ts,c,E,X,S=>λh=>abt (jq t S) (J2 ts S) h
 |.yes,c,E,X,S=>λh=>nZf h
 |.val (.cmp op a b),c,E,X,S=>by
  intro h;have h:((jj _||mK _)&&aa c (.cmp op a b) _&&true)=true:=h;simp only[ae]at h;exact(JP S (aF a S) (aF b S) h.1.2).2
 |.val (.chn op op' a b d),c,E,X,S=>by
  intro h;have h:((jj _||mK _)&&aa c (.chn op op' a b d) _&&true)=true:=h;simp only[ae]at h;exact(JQ S (aF a S) (aF b S) (aF d S) h.1.2).2
 |.val (.frz a),c,E,X,S=>by
  intro h;have h:((jj _||mK _)&&aa c (.frz a) _&&false)=true:=h;rw[g6]at h;cases h
 |.val (.var i),c,E,X,S=>λh=>cg (aF (.var i) S) (λz z z z h=>nZf h) h
 |.val (.cst d),c,E,X,S=>λh=>cg (aF (.cst d) S) (λz z z z h=>nZf h) h
 |.val (.glb x d),c,E,X,S=>λh=>cg (aF (.glb x d) S) (λz z z z h=>nZf h) h
 |.val (.bin op fz a b),c,E,X,S=>λh=>cg (aF (.bin op fz a b) S) (λz z z z h=>nZf h) h
 |.val (.neg a),c,E,X,S=>λh=>cg (aF (.neg a) S) (λz z z z h=>nZf h) h
 |.val (.not a),c,E,X,S=>λh=>cg (aF (.not a) S) (λz z z z h=>nZf h) h
 |.val (.boo isAnd e es),c,E,X,S=>λh=>cg (aF (.boo isAnd e es) S) (λz z z z h=>nZf h) h
 |.val (.ife t a b),c,E,X,S=>λh=>cg (aF (.ife t a b) S) (λz z z z h=>nZf h) h
 |.val (.tup es),c,E,X,S=>λh=>cg (aF (.tup es) S) (λz z z z h=>nZf h) h
 |.val (.lst fz es),c,E,X,S=>λh=>cg (aF (.lst fz es) S) (λz z z z h=>nZf h) h
 |.val (.idx a i),c,E,X,S=>λh=>cg (aF (.idx a i) S) (λz z z z h=>nZf h) h
 |.val (.slc fz a lo hi),c,E,X,S=>λh=>cg (aF (.slc fz a lo hi) S) (λz z z z h=>nZf h) h
 |.val (.call f es),c,E,X,S=>λh=>cg (aF (.call f es) S) (λz z z z h=>nZf h) h
 |.val (.bcl f es),c,E,X,S=>λh=>cg (aF (.bcl f es) S) (λz z z z h=>nZf h) h
 |.val (.lcl fz f es),c,E,X,S=>λh=>cg (aF (.lcl fz f es) S) (λz z z z h=>nZf h) h
 |.val (.isx a C xs),c,E,X,S=>λh=>cg (aF (.isx a C xs) S) (λz z z z h=>nZf h) h
 |.val (.srs fz a),c,E,X,S=>λh=>cg (aF (.srs fz a) S) (λz z z z h=>nZf h) h
 |.val (.xat C f a),c,E,X,S=>λh=>cg (aF (.xat C f a) S) (λz z z z h=>nZf h) h
 |.val (.fst es),c,E,X,S=>λh=>cg (aF (.fst es) S) (λz z z z h=>nZf h) h
 |.val (.isi a t),c,E,X,S=>λh=>cg (aF (.isi a t) S) (λz z z z h=>nZf h) h
 |.val (.mth m o es),c,E,X,S=>λh=>cg (aF (.mth m o es) S) (λz z z z h=>nZf h) h
 |.val (.comp fz elt tg it cond N cap),c,E,X,S=>λh=>cg (aF (.comp fz elt tg it cond N cap) S) (λz z z z h=>nZf h) h
theorem J2{Z:aj}{CX:CXT}{k:Nat}{B:Bs}:∀(x:Txs){c:CT}{E:EK}{X:Cx},Stat Z CX k c E B X->rF Z c E B X x
 |.nil,_,_,_,_=>trivial
 |.cons e es,c,E,X,S=>(jq e S,J2 es S)
theorem J7{Z:aj}{CX:CXT}{k:Nat}{B:Bs}:∀(x:Ox){c:CT}{E:EK}{X:Cx},Stat Z CX k c E B X->∀y,x=.ob y->OkE Z c E B X y
 |.no,c,E,X,S,y,e=>by cases e
 |.ob z,c,E,X,S,y,e=>by injection e with e;subst e;exact aF z S
theorem zA{Z:aj}{CX:CXT}{k:Nat}{B:Bs}:∀(x:It'){c:CT}{E:EK}{X:Cx},Stat Z CX k c E B X->∀{tg e:AO},cY c x tg e=true->PI X tg e (tI X.K B (wpI Z x E))
 |.seq y,c,E,X,S,tg,e,h=>abC (aF y S) (show aa c y e=true from h)
 |.rng a,c,E,X,S,tg,e,h=>abD S (aF a S) h
 |.enm a,c,E,X,S,tg,e,h=>abE S (aF a S) h
 |.zip a b,c,E,X,S,tg,e,h=>abF S (aF a S) (aF b S) h
end
def EnD(K:PF)(H:Hp)(F:FZ)(D:Ends):En where
 nx:=λY z=>∀H' F' y,Ext H F H' F'->EnvR K H' F' Y y->R K H' F' z->D.nx y H'
 rt:=PV K H F D.rt
 bk:=λY z=>∀H' F' y,Ext H F H' F'->EnvR K H' F' Y y->R K H' F' z->D.bk y H'
 ct:=λY z=>∀H' F' y,Ext H F H' F'->EnvR K H' F' Y y->R K H' F' z->D.ct y H'
def EnD.later{K:PF}{H H1:Hp}{F:FZ}{D:Ends}(x:Ext H F H1 F1):(EnD K H F D).Le (EnD K H1 F1 D):=
 (λv v h H' F' y z=>h H' F' y (x.trans z),λv v h=>PV.later h x,λv v h H' F' y z=>h H' F' y (x.trans z),λv v h H' F' y z=>h H' F' y (x.trans z))
def tS(K:PF)(B:Bs)(w:ao->DH->En->Prop):TS:=λD X H=>∃Y F G,Ext B.H B.F H F/\EnvR K H F Y X/\R K H F G/\w Y G (EnD K H F D)
def psI{X:Cx}{st:Stmt}{t t':TS}(h:PS X st t)(i:∀D Y H,t' D Y H->t D Y H):PS X st t':=λp9 s Y H D I q=>h p9 s Y H D I (i D Y H q)
def J8{X:Cx}{st:AF}{t t':TS}(h:PSs X st t)(i:∀D Y H,t' D Y H->t D Y H):PSs X st t':=λp9 s Y H D I q=>h p9 s Y H D I (i D Y H q)
def mW(h:dm e=false)(t:Option AO)(n:Nat)(env:Env):swapsWith e t n env=pure false:=by cases e<;>first|rfl|exact nomatch (show true=false from h)
def J9(h:dm e=false)(t:AO)(n:Nat)(env:Env):swapsWithSole [t] e n env=pure false:=mW h _ _ _
section
variable {Z:aj} {CX:CXT} {k:Nat} {c:CT} {E:EK} {B:Bs} {X:Cx}
abbrev OkS(Z:aj)(c:CT)(E:EK)(B:Bs)(X:Cx)(x:Sx):Prop:=∀{st:Stmt},bG c x st=true->PS X st (tS X.K B (wpS Z x E))
abbrev mX(Z:aj)(c:CT)(E:EK)(B:Bs)(X:Cx)(x:Sxs):Prop:=∀{st:AF},aC c x st=true->PSs X st (tS X.K B (aA Z x E))
def abI(S:Stat Z CX k c E B X){x:Ex}{st:Stmt}(h:bG c (.exp x) st):PS X st (tS X.K B (wpS Z (.exp x) E)):=by
 replace h:=aaF h;let(_,_,rfl,h):=h
 .rw[ae]at h;show psI (CN (aF x S h.2) (mW (!!h.1) _ _ _)) λD W H J=>el J λY F G z he r hw=>?_;rw[ye]at hw;exact aP z he r hw λd G1 H1 F1 v q e1 U y O rv=>q _ _ _ U y O
def abJ(S:Stat Z CX k c E B X){i:Nat}{x:Ex}{st:Stmt}(h:bG c (.asg (.nm i) x) st=true):PS X st (tS X.K B (wpS Z (.asg (.nm i) x) E)):=by
 replace h:=JC h;let(tg,e,pos,rfl,h):=h
 .simp only[ae]at h;let((h1,h2),h3):=h;have h3:(!dm e||Iu x)=true:=h3;replace h1:=yZ h1;let(y,py,rfl,h1):=h1
  .rw[ae,aw]at h1;let(l,f):=S.sto y h1.2;have hi:X.N[i]?=-y:=by rw[S.N];exact h1.1
   have go:∀(D:Ends)(W:L2.St)(H:Hp),tS X.K B (wpS Z (.asg (.nm i) x) E) D W H->pF (tE X.K B (wpE Z x E)) (pC i) D W H:=λD W H hq=>el hq λY F G e0 he r hw=>by
    rw[mj]at hw;show aP e0 he r hw λd G1 H1 F1 v q e1 x1 he1 r1 rv=>?_;unfold bC at q;exact q _ _ _ x1 (he1.set rv i) r1
   cases hc:dm e with
   |false=>exact psI (pG S.nd hi l (aF x S h2) (mW hc _ _ _) f) go
   |true=>
    rw[hc,kf,Bool.false_or]at h3;cases x with
    |comp fz O tg it J N cap=>
     let(U,tg',iter,ifs,scope,pos',rfl,C):=J1 h2;let(s1,s2,s3,s4):=J0 S C.sc;have hb:∃b:Bool,swapsWith (.ListComp U [(tg',iter,ifs,0)] scope pos') (-(.Name y py)) pos.line X.env=pure b:=(_,rfl);let(b,hb):=hb;cases b with
     |false=>exact psI (pG S.nd hi l (aF _ S h2) hb f) go
     |true=>
      show psI (X5 (lim:=true) (Fx _ _ _ _ _ _) S.nd hi l (N.map Str.ofString) cap S.calm (zA it S C.it) (rP S.N C.cap) s1 s2 s3 s4 (zu C.it X.env) hb f) λD W H hq=>el hq λY F G e0 he r hw=>?_;rw[mj]at hw;rw[yz]at hw;show JZ (fz:=fz) (Q:=λv H1=>D.nx (W.set i (-v)) H1) S C.nd (λS'=>aF O S') (λS'=>jq J S') C.tg C.cd C.el e0 he r (mq it (λitems g G1 q=>?_) hw);show qH (λd ρ' G' k1 k2 hk z=>gK (λρ1 z=>d8 J (λb G2 z=>by
       cases b with
       |true=>exact aN O (λy G3 z=>hk _ _ _ z) z
       |false=>exact hk _ _ _ z) z) tg z) ?_ _ _ _ _ q
      .intro ds G2 q;show dR (λd G3 q=>?_) q;intro H1 F1 v x1 r1 rv;unfold bC at q;exact q _ _ _ x1 ((he.ext x1).set rv i) r1
    |_=>cases h3
def abK(S:Stat Z CX k c E B X){x:Ex}{st:Stmt}(h:bG c (.asg (.tp ts) x) st=true):PS X st (tS X.K B (wpS Z (.asg (.tp ts) x) E)):=by
 replace h:=JC h;let(tg,e,pos,rfl,h):=h
 .rw[ae,ae]at h;have y:(!Iv e&&!dm e)=true:=h.2;let(h1,h2):=h.1;rw[ae,fS,fS]at y;let(h3,h4):=y;have hg:=rJ S (.tp ts) h1;replace h1:=za h1;let(_,_,_,rfl,h1):=h1
  .show psI (CQ (aF x S h2) hg (J9 h4 _ _ _) ?_ rfl) λD W H hq=>el hq λY F G e0 he r hw=>?_
   .cases e<;>first|rfl|exact nomatch (show true=false from h3)
   .rw[mj]at hw;show aP e0 he r hw λd G1 H1 F1 v q e1 x1 J r1 rv=>?_;exact(Y,F1,G1,d,e1,J,r1,rv,gK (λρ' z U O=>z H1 F1 U x1 O r1) (.tp ts) q)
def abL(S:Stat Z CX k c E B X){o i x:Ex}{st:Stmt}(h:bG c (.set o i x) st):PS X st (tS X.K B (wpS Z (.set o i x) E)):=by
 replace h:=aaG h;let(o',i',tpos,e,pos,rfl,h):=h
 .simp only[ae,fS]at h;let(((h1,h2),h3),h4):=h;have hi:=bR i h2;show psI (CQ (aF x S h3) (Up (aF o S h1) (aF i S h2) aaj ?_) (J9 h4 _ _ _) ?_ rfl) λD W H hq=>el hq λY F G e0 he r hw=>?_
  .intro v;cases i'<;>first|rfl|exact nomatch (show false=true from hi)
  .cases e<;>rfl
  .rw[yf]at hw;show aP e0 he r hw λd G1 H1 F1 v q e1 x1 z r1 rv=>?_;show aP e1 z r1 q λa G2 H2 F2 w q e2 x2 J r2 U=>?_;show aP e2 J r2 q λy G3 H3 F3 u q e3 x3 O r3 ru=>?_;show(F3,G3,a,y,d,r3,U.ext x3,ru,rv.ext (x2.trans x3),Hn (λG4 q=>?_) q);intro H4 F4 x4 r4;exact q _ _ _ (x1.trans (x2.trans (x3.trans x4))) (O.ext x4) r4
def abM(S:Stat Z CX k c E B X){i:Nat}{x:Ex}{st:Stmt}(h:bG c (.aug i op x) st):PS X st (tS X.K B (wpS Z (.aug i op x) E)):=by
 replace h:=aaH h;let(y,py,o,e,pos,rfl,h):=h
 .simp only[ae,aw]at h;let((((rfl,h1),h2),h3),h4):=h;let(l,f):=S.sto y h2;show psI (Ur S.nd (by rw[S.N];exact h1) l (aF x S h4) (aak o) f) λD W H hq=>el hq λY F G e0 he r hw=>?_;rw[yg]at hw;split at hw
  .rename_i a ha;let(v,O,rv):=he.get ha;show(v,O,aP e0 he r hw λb G1 H1 F1 u q O U z r1 ru=>?_);show(F1,G1,a,b,r1,rv.ext U,ru,Ho (λd q=>?_) q);intro H2 F2 w x2 r2 J;exact q _ _ _ (U.trans x2) ((z.ext x2).set J i) r2
  .exact hw.elim
def abN(S:Stat Z CX k c E B X){x:Ex}{st:Stmt}(h:bG c (.ret x) st):PS X st (tS X.K B (wpS Z (.ret x) E)):=by
 replace h:=aaN h;let(_,_,rfl,h):=h
 .show psI (T8 (aF x S h)) λD W H z=>el z λY F G y he r hw=>?_;rw[yh]at hw;exact(Y,F,G,y,he,r,hw)
def abO{st:Stmt}(h:bG c .rtn st):PS X st (tS X.K B (wpS Z .rtn E)):=by
 replace h:=aaO h;let(_,rfl,h):=h
 .show psI Ua λD W H y=>el y λY F G z he r hw=>?_;rw[yj]at hw;exact hw.now r rfl
def abP(S:Stat Z CX k c E B X){t:Tx}{a b:Sxs}(z:mX Z c E B X a)(J:mX Z c E B X b){st:Stmt}(h:bG c (.ite t a b) st):PS X st (tS X.K B (wpS Z (.ite t a b) E)):=by
 replace h:=aaP h;let(_,_,_,_,rfl,h):=h
 .simp only[ae]at h;let((h1,h2),h3):=h;show psI (Uc (jq t S h1) (z h2) (J h3)) λD W H hq=>el hq λY F G e0 he r hw=>?_;rw[yl]at hw;show j8 e0 he r hw λb' G1 H1 O q U x1 y r1=>?_;cases b' with
  |true=>
   rw[if_pos rfl];exact(Y,O,G1,U,y,r1,fu a (EnD.later x1) q)
  |false=>
   rw[if_neg ck];exact(Y,O,G1,U,y,r1,fu b (EnD.later x1) q)
theorem abQ(S:Stat Z CX k c E B X){t:Tg}{it:It'}{b:Sxs}(ihb:mX Z c E B X b){st:Stmt}(h:bG c (.for_ t it b) st):PS X st (tS X.K B (wpS Z (.for_ t it b) E)):=by
 replace h:=aaQ h;let(tg,iter,body,pos,rfl,h):=h
 .simp only[ae]at h;let((h1,h2),h3):=h;show psI (Ux S.own S.calm (zA it S h2) (rJ S t h1) (ihb h3) (zu h2 X.env)) λD V H hq=>el hq λY F G e0 he r hw=>?_;rw[Hf]at hw;show(Y,F,G,e0,he,r,mq it (λy g G1 q H1 F1 J x1 r1 W=>?_) hw);let step:RF.D->ao->DH->(ao->DH->Prop)->Prop:=λd O U k=>bC t d O U λρ1=>aA Z b E ρ1 U {EnD X.K H F D with nx:=k,ct:=k,bk:=(EnD X.K H F D).nx}
  let P:Nat->L2.St->Hp->Prop:=λi σ' H'=>∃O F' U,Ext B.H B.F H' F'/\Ext H1 F1 H' F'/\EnvR X.K H' F' O σ'/\R X.K H' F' U/\forLoop step g (y.drop i) O U (EnD X.K H F D).nx
  show(λi m σ' H'=>m=y⁻¹-i/\i<=y⁻¹/\P i σ' H',(y⁻¹,!2,gS _,Y,F1,G1,e0.trans x1,Ext.refl _ _,he.ext x1,r1,q),?_);rintro i m σ' H' ⟨rfl,hle,O,F',U,eB,e1,he',r',hl⟩;by_cases hlt:i<y⁻¹
  .have hd:y.drop i=y[i]::y.drop (i+1):=cf hlt;rw[hd]at hl;let(hh,hl):=hl;show .inr (W.go H' F' U i e1 r' hh hlt,P (i+1),λσ2 H2 p=>(y⁻¹-(i+1),!0,rfl,hlt,p),λx H2 hy=>?_);let(xy,ry,rx):=W.yld H' F' i x H2 y[i] U e1 r' hh (by simp[hlt]) hy;show(O,F',U,y[i],eB.trans xy,he'.ext xy,ry,rx,gK (λρ1 z σ1 hσ1=>?_) t hl);show(ρ1,F',U,eB.trans xy,hσ1,ry,fu b (D:={EnD X.K H F D with nx:=λO U=>forLoop step g (y.drop (i+1)) O U (EnD X.K H F D).nx,ct:=λO U=>forLoop step g (y.drop (i+1)) O U (EnD X.K H F D).nx,bk:=(EnD X.K H F D).nx}) (λρ2 G2 z H3 F3 σ3 x3 he3 r3=>?_,λd G2 z=>PV.later z (x1.trans (e1.trans xy)),λρ2 G2 z H3 F3 σ3 x3=>z H3 F3 σ3 (x1.trans (e1.trans (xy.trans x3))),λρ2 G2 z H3 F3 σ3 x3 he3 r3=>?_) z)
   .exact (ρ2,F3,G2,eB.trans (xy.trans x3),e1.trans (xy.trans x3),he3,r3,z)
   .exact (ρ2,F3,G2,eB.trans (xy.trans x3),e1.trans (xy.trans x3),he3,r3,z)
  .have hi':i=y⁻¹:=by lia
   subst hi';rw[eR]at hl;exact .inl (W.stop H' F' U e1 r' hl.1,hl.2 _ _ _ (x1.trans e1) he' r')
def tJ(K:PF)(B:Bs)(w:ao->DH->(DH->Prop)->Prop):TJ:=λX H Q=>∃Y F G,Ext B.H B.F H F/\EnvR K H F Y X/\R K H F G/\w Y G λy=>∀H' F',Ext H F H' F'->R K H' F' y->Q H'
def pjI{ps:AE}{t t':TJ}{n:Nat}(h:PJ X ps t n)(i:∀Y H Q,t' Y H Q->t Y H Q):PJ X ps t' n:=λp9 s Y H Q out I hl q=>h p9 s Y H Q out I hl (i Y H Q q)
def zB{Y:ao}:∀(es:Exs){G:DH}{k k':DH->Prop},(∀y,k y->k' y)->wpM Z es E Y G k->wpM Z es E Y G k'
 |.nil,G,k,k',h,q=>h G q
 |.cons e es,G,k,k',h,q=>by
  rw[yu]at q ⊢;exact aN e (λd G1 q=>(q.1,zB es h q.2)) q
def Ka{p:AO}(h:yU p):∃y k pos,p=.Constant (.str y) k pos/\y⁻¹<=1000:=by let(t,z,h):=aJ h;let(x,J,h):=aJ h;exact(x,_,_,by rw[z,J],fw h)
theorem zE(S:Stat Z CX k c E B X):∀(ps:AE){es:Exs},mO c es ps=true->∃n,n<=1000*ps⁻¹/\PJ X ps (tJ X.K B (wpM Z es E)) n
 |[],es,h=>by
  cases es with
  |nil=>exact(0,gS _,pjI W7 λW H Q hq=>el hq λY F G e0 he r hw=>hw H F (Ext.refl _ _) r)
  |cons _ _=>exact nZf h
 |p::ps,es,h=>by
  unfold mO at h;split at h
  .rename_i hm;let(y,kk,pos,rfl,hy):=Ka hm;let(n,hn,U):=zE S ps h;exact(y⁻¹+n,by rw[ce];lia,W8 U)
  .split at h
   .rename_i x rr;rw[ae]at h;let(t,ht,h1):=aJ h.1;rw[ae,ae,eW,br]at h1;let(n,hn,U):=zE S ps h.2;show(3+n,by rw[ce];lia,?_);rw[ht,h1.1.1,h1.1.2];show pjI (W9 (aF x S h1.2) U) λW H Q hq=>el hq λY F G e0 he r hw=>?_;rw[yu]at hw;show aP e0 he r hw λd G1 H1 F1 v q e1 x1 O r1 rv=>?_;let(J,q2):=q;unfold wX at J;split at J
    .rename_i i;rw[ae,br,br]at J;have e2:v=.int i:=rv;show((i.toNat,by rw[e2];congr 1;lia,!0),Y,F1,G1,e1,O,r1,zB rr (λG' z H' F' x' r'=>z H' F' (x1.trans x') r') q2)
    .cases J
   .cases h
theorem abR(S:Stat Z CX k c E B X){es:Exs}{st:Stmt}(h:bG c (.rse C es) st):PS X st (tS X.K B (wpS Z (.rse C es) E)):=by
 replace h:=aaI h;let(x,np,m,cpos,pos,rfl,h):=h;simp only[ae,aw]at h;let(((e1,h1),h2),z):=h;subst e1;let(g1,g2):=cR h1;let(a,hm,hb,hn):=S.xcl C h2;let(EX,_,U,O):=S.exc;unfold rB at z;rw[df]at z;rcases z with z|z
 .cases es with
  |cons _ _=>cases z
  |nil=>
   let(y,kk,p,rfl,hy):=Ka z;show psI (Ff S.calm (S.glo _ g1) hm hb U (dI Cy fQ rfl) (bJ g2) rfl rfl) λD W H hq=>el hq λY F G e0 he r hw=>?_;rw[qD,GZ]at hw;exact(show 1<=sizeLine by decide,O (C,.non) G H F hw e0 r (.ref a) none (a,rfl,hn,trivial))
 .let(t,ht,z):=aJ z;rw[ae,ae,br,br]at z;let(n,hn',hp):=zE S t.1 z.2;rcases J:t.1 with _|⟨v1,_|⟨v2,r⟩⟩
  .rw[J]at z;simp at z
  .rw[J]at z;simp at z
  .rw[J]at hp;subst ht;rw[J]at *;show psI (Ff S.calm (S.glo _ g1) hm hb U (dI (Xa hp (!0)) fQ rfl) (bJ g2) rfl rfl) λD W H hq=>el hq λY F G e0 he r hw=>?_;rw[qD]at hw;show(Y,F,G,e0,he,r,zB es (λG1 q H1 F1 x1 r1 y=>(show 1<=sizeLine by decide,?_)) hw);exact O (C,.non) G1 H1 F1 q (e0.trans x1) r1 (.ref a) none (a,rfl,hn,trivial)
def abS(S:Stat Z CX k c E B X){a:Ex}{st:Stmt}(h:bG c (.rsi C a) st):PS X st (tS X.K B (wpS Z (.rsi C a) E)):=by
 let(x,p,v,pos,rpos,rfl,hh):=aaJ h;simp only[ae,aw]at hh;let(((ex,hg),hx),ha):=hh;subst ex;let(g1,g2):=cR hg;let((c0,fa,fd,ps,j,hj,hm,hn,hcl,hfn,hk,hxi,y,F0),_):=S.xko C _ (bn.mp hx);let(EX,_,hth,hEX):=S.exc;have sv:=cQ (bR a ha);show psI (Yl S.calm hcl hfn hk F0 (S.room.mono hj) (S.glo _ g1) hm y (S.nox X) hth (dI (aF a S ha) fQ (bH _ _ _ sv)) (bJ g2) (bH _ _ _ sv) rfl) λD W H hq=>el hq λY F G e0 he r hw=>?_;rw[yt]at hw;show aP e0 he r hw λd G1 H1 F1 v q e1 x1 he1 r1 rv=>(one_le,λa l Q' J hQ=>?_);let(qa,q):=q;have x2:=dN (o:=.ext (cO a c0 l none)) r1 J;have r2:=r1.new (o:=.ext (cO a c0 l none)) J;show(a,v,l,d,F1,G1,rfl,cu,r1.notF J,r2,rv.ext x2,qa,λH2 F2 dx od ob l' x3 r3 h2 U hne hc hd hnc hl=>(rfl,hQ _ ob dx _ (by rw[aH (Ne.symm hne),cu]) hc hd hl ?_));have O:=x2.trans x3;have hh:drp (upd (upd H2 a (.frz ob (.own a))) dx (.frz od (.xd [(⇑(dO C),v)]))) a=upd (drp H2 a) dx (.frz od (.xd [(⇑(dO C),v)])):=by
  funext b;by_cases y:b=a
  .rw[y,pW,aH (Ne.symm hne),pW]
  .rw[dJ y];by_cases hb2:b=dx
   .rw[hb2,cu,cu]
   .rw[aH hb2,aH y,aH hb2,dJ y]
 rw[hh];have hdx':drp H2 a dx=none:=by rw[dJ hne];exact U
 have r4:R X.K (drp H2 a) (λb=>F2 b/\b≠a) G1:=r3.offX h2 (λb y=>dJ y) (λb y f=>(f,y)) λb f=>(f.1,λe=>absurd e f.2);have r5:=r4.new (o:=.frz od (.xd [(⇑(dO C),v)])) hdx';have x5:Ext H1 F1 (upd (drp H2 a) dx (.frz od (.xd [(⇑(dO C),v)]))) (λb=>F2 b/\b≠a):=by
  show(λb y=>(O.sub b y,λe=>r1.notF J (by rw[<-e];exact y)),λb y=>?_,λb ys y=>?_,λb o u y=>?_)
  .rw[aH λe=>?_,dJ λe=>?_]
   .exact O.keep b y
   .subst e;exact r1.notF J y
   .subst e;have z:=O.keep b y;rw[U]at z;exact r1.notF z.symm y
  .have z:=O.tups b ys y;rw[aH (bw z U),dJ (dz z h2 (by intro w;cases w))];exact z
  .have z:=O.frzs b o u y;rw[aH (bw z U),dJ (dz z h2 (by intro w;cases w))];exact z
 show hEX (C,d) G1 _ _ q (e1.trans x5) r5 (.ref c0) (-dx) (c0,rfl,hn,?_);have rv':Rep X.K (upd (drp H2 a) dx (.frz od (.xd [(⇑(dO C),v)]))) (λb=>F2 b/\b≠a) d v:=rv.ext x5;unfold okA at qa;split at qa
 .exact (dx,od,v,rfl,cu,rv')
 .exact (dx,od,v,rfl,cu,rv')
 .exact qa.elim
def Stat.wish(S:Stat Z CX k c E B X)(y:AG)(ho:PassesOwn (model X.prog X.w) X.A X.env y):Stat Z CX k c noE B (X.wish y):=
 (S.N,S.nd,S.calm,ho,S.kd,S.vis,S.cel,S.glo,S.sto,S.room,S.call,S.blt,S.con,(_,S.nox _,λv v v v v v v v v v v v v q=>q.elim,λx z H' F' h=>h.elim),S.nox,S.xcl,S.loc,S.xis,S.mth,S.mko,S.fld,S.xko,S.trc)
def PNx(K:PF)(H:Hp)(F:FZ)(nx:L2.St->Hp->Prop):ao->DH->Prop:=λz J=>∀H' F' y,Ext H F H' F'->EnvR K H' F' z y->R K H' F' J->nx y H'
def PEx(K:PF)(H:Hp)(F:FZ)(ex:AN->Option AQ->L2.St->Hp->Prop):Xn->ao->DH->Prop:=λx z O=>∀H' F' y J od,Ext H F H' F'->EnvR K H' F' z y->R K H' F' O->XV K H' F' x J od->ex J od y H'
def tXX(K:PF)(B:Bs)(w:ao->DH->(ao->DH->Prop)->(Xn->ao->DH->Prop)->Prop):TX:=λnx ex X H=>∃Y F G,Ext B.H B.F H F/\EnvR K H F Y X/\R K H F G/\w Y G (PNx K H F nx) (PEx K H F ex)
def pxI{t t':TX}(h:PXs X sts t)(i:∀nx ex Y H,t' nx ex Y H->t nx ex Y H):PXs X sts t':=λp9 s Y H nx ex y I ho z q=>h p9 s Y H nx ex y I ho z (i nx ex Y H q)
def abT(S:Stat Z (CX1 X.prog X.w) k c E B X){f g:AL}{i:Nat}{es:Exs}(h:j7 c (.pick f g i es) sts):PXs X sts (tXX X.K B (wpX Z (.pick f g i es))):=nZf h
def Kc(S:Stat Z (CX1 X.prog X.w) k c E B X):∀(b:Tb){J:AF},j7 c b J=true->PXs X J (tXX X.K B (wpX Z b))
 |.call _ _,_,h=>nZf h
 |.pick f g i es,J,h=>abT S h
 |.asg i f es,J,h=>by
  let(y,p2,x,p,args,cpos,p0,rfl,h0,h1):=aaM h;simp only[ae,aw,List.any_eq_true]at h0 h1;let((hi,hs),hok):=h0;let((((e1,h1),(f',n),hm,e2,e3),h4),h5):=h1;simp only at e2 e3;subst e1 e2 e3;let(g1,g2):=cR h1;let(fa,fd,ps,F0,hk,hb,hmg):=S.call _ _ hm;let(U,hfn):=S.sto _ hs;cases args with
  |nil=>cases h4
  |cons e0 es0=>
   let(x0,xs',rfl,c1,c2):=kh h5;show pxI (Xl (i:=i) (ta:=tL X.K B (aY Z (.cons x0 xs') noE)) F0 S.room (S.glo _ g1) hmg hk hb S.nd (by rw[S.N];exact hi) U hfn (λE' ho=>EachE.oks (fX (.cons x0 xs') (S.wish E' ho)) h5) rfl (bJ g2) (bH e0 es0 X.env (cQ (bR x0 c1))) (mR c2 X.env cpos)) λnx ex W H hq=>el hq λY F G eB he r hw=>?_;rw[yw]at hw;show dC eB he r (zc _ h5 hw) λds G1 H1 F1 vs q e1 x1 O r1 rvs=>?_;exact(by rw[<-rvs⁻¹];exact q.1,F1,G1,ds,r1,rvs,Spec.mono q.2 (λd G2 z H2 F2 v x2 r2 rv=>z H2 F2 _ (x1.trans x2) (EnvR.set rv i (O.ext x2)) r2) λxn G2 z H2 F2 x2 r2 cv od hv=>z H2 F2 W cv od (x1.trans x2) (O.ext x2) r2 hv)
 |.ite _ _ _,_,h=>nZf h
def abU(S:Stat Z CX k c E B X){b:Tb}{hd:Hd}{xs:List AL}{st:Stmt}(h:bG c (.tryx b C hd xs) st):PS X st (tS X.K B (wpS Z (.tryx b C hd xs) E)):=by
 let(body,cx,p1,nm,y,p2,e,p4,p5,pos,rfl,h1,h2,h3,h4,h5):=aaL h;simp only[ae,aw]at h4;let((ec,hc),hcx):=h4;subst ec;let(g3,g4):=cR hc;have hne:c.xs≠[]:=λe=>by rw[e]at hcx;cases hcx
 let(ecx,hst,hex):=S.trc hne;subst ecx;let(cv,hcv,hall):=S.xis C hcx;have hcat:∃a,cv=.ref a/\X.mg (⇑C)=-(.ref a)/\Cat X.K a:=by
  rcases hcv with⟨a,e,hm,hb⟩|⟨e,_,_⟩
  .exact (a,e,hm,Fp hb)
  .rw[e]at h3;cases h3
 let(a,rfl,ham,hca):=hcat;unfold rD at h5;rw[ae,ae]at h5;let((h5,hsy),hoy):=h5;let(hloc,hfn):=S.sto _ hsy;have cls:∀{x:Xn}{H':Hp}{F':FZ}{cv:AN}{od:Option AQ},xs.contains x.cls=true->bF x.cls C=true->XV X.K H' F' x cv od->∃d,cv=.ref d/\PySem.W.mroIn X.K d (.ref a)=-true/\PySem.W.nsIn X.K mainGlobals (⇑x.cls)=-(-(.ref d)):=by
  intro x H' F' cv od hx hs hv;let(d,rfl,hn,_):=hv;have hxi:XI X.K x.cls C (.ref a):=by
   have t:=cr.mp h2 _ (bn.mp hx);rw[df]at t;rcases t with t|t
   .exact hall x.cls t
   .exact (S.xko _ _ (bn.mp t)).2 C _ hcx hcv
  let(c1,k1,_,k4,_):=hxi;rw[k1]at hn;have ed:c1=d:=by simpa using hn
  subst ed;rw[hs]at k4;exact(c1,rfl,k4,k1)
 cases hd with
 |flag i v=>
  simp only[ae,aw,eW]at h5;let((rfl,hi),h6):=h5;let(kk,hk,h6):=aJ h6;have ek:=aaK h6;subst hk;rw[ek];show psI (Xp (Kc S b h1) hst (S.glo _ g3) ham hca S.nd (by rw[S.N];exact hi) hloc hfn rfl (bJ g4)) λD U H hq=>el hq λY F G eB he r hw=>?_;rw[qF]at hw;show(Y,F,G,eB,he,r,my b (λρ' G' z H' F' O x' J r'=>z H' F' O x' J r') (λx ρ' G' z H' F' O cv od x' J r' hv=>?_) hw);let(z2,z3,z4):=z;let(d,e1,e2,_):=cls z2 z3 hv;exact(d,e1,e2,z4 H' F' _ x' (EnvR.set (d:=.bl v) (v:=.bl v) (show V.bl v=.bl v from rfl) i J) r')
 |bind n i=>
  let(nn,hnn,h6):=aQ h5;simp only[ae,aw]at h6;let((((hi,hj),hkd),hon),h7):=h6;let(zz,hz,h8):=aJ h7;rw[aw]at h8;rw[h8]at hz;subst hz hnn;have hnl:X.env.scope.names.lookup nn=-.local:=S.loc nn hkd;show psI (Xr (jn:=n) (Kc S b h1) hst hex (S.glo _ g3) ham hca S.nd (by rw[S.N];exact hi) hloc hfn (by rw[S.N];exact hj) (by rw[S.kd];exact hnl) hnl (bJ hon) (JN hon) rfl (bJ g4)) λD U H hq=>el hq λY F G eB he r hw=>?_;rw[qF]at hw;show(Y,F,G,eB,he,r,my b (λρ' G' z H' F' O x' J r'=>z H' F' O x' J r') (λx ρ' G' z H' F' O cv od x' J r' hv=>?_) hw);let(z2,z3,z4):=z;let(d,e1,e2,e3):=cls z2 z3 hv;show(d,e1,e2,λa0 o0 hn0 hc0 hd0 hnc0=>?_);have xx:Ext H' F' (upd H' a0 (.frz o0 (.own a0))) F':=dN r' hn0;have rr:R X.K (upd H' a0 (.frz o0 (.own a0))) F' G':=r'.new hn0;have rx:Rep X.K (upd H' a0 (.frz o0 (.own a0))) F' (xval x) (.ref a0):=by
   let(d',ed,en,hf):=hv;unfold xval;split at hf
   .rename_i e;first|rw[e]|skip
    exact(a0,d,rfl,(o0,a0,cu,hc0),e3)
   .rename_i dd hne;let(dx,ob,v,eo,hdx,rv):=hf;try (split;rename_i e;exact absurd e hne)
    exact(a0,d,dx,o0,ob,a0,v,rfl,(cu,hc0,hd0.trans eo,hnc0),by rw[aH (bw hdx hn0)];exact hdx,rv.ext xx,e3)
  exact z4 _ F' _ (x'.trans xx) (EnvR.unset n (EnvR.set rx i (EnvR.set rx n (J.ext xx)))) rr
def abV{st:AF}(h:aC c .nil st):PSs X st (tS X.K B (aA Z .nil E)):=by
 unfold aC at h;cases st with
 |nil=>exact J8 TV λD W H y=>el y λY F G z he r hw=>by rw[lX]at hw;exact hw _ _ _ (Ext.refl _ _) he r
 |cons _ _=>cases h
def abW{x:Sx}{xs:Sxs}(ih:OkS Z c E B X x)(J:mX Z c E B X xs){st:AF}(h:aC c (.cons x xs) st):PSs X st (tS X.K B (aA Z (.cons x xs) E)):=by
 unfold aC at h;split at h
 .rw[ae]at h;show J8 (CJ (ih h.1) (J h.2)) λD W H hq=>el hq λY F G e0 he r hw=>?_;rw[lY]at hw;show(Y,F,G,e0,he,r,wpS_mono x (D:={EnD X.K H F D with nx:=λO G'=>aA Z xs E O G' (EnD X.K H F D)}) (λU G1 q H1 F1 σ1 x1 y r1=>?_,λv v z=>z,λv v z=>z,λv v z=>z) hw);exact(U,F1,G1,e0.trans x1,y,r1,fu xs (EnD.later x1) q)
 .cases h
end
mutual
theorem abX{Z:aj}{CX:CXT}{k:Nat}{B:Bs}{c:CT}{E:EK}{X:Cx}(S:Stat Z CX k c E B X):∀(x:Sx),OkS Z c E B X x
 |.exp e=>λh=>abI S h
 |.asg (.nm i) e=>λh=>abJ S h
 |.asg (.tp ts) e=>λh=>abK S h
 |.set o i e=>λh=>abL S h
 |.aug i op e=>λh=>abM S h
 |.ret e=>λh=>abN S h
 |.rtn=>λh=>abO h
 |.ite t a b=>λh=>abP S (km S a) (km S b) h
 |.for_ t it b=>λh=>abQ S (km S b) h
 |.pas=>by
  intro h;let(_,rfl,_):=aaR h;exact psI T4 λD W H hq=>el hq λY F G e0 he r hw=>by rw[yo]at hw;exact hw _ _ _ (Ext.refl _ _) he r
 |.brk=>by
  intro h;let(_,rfl,_):=aaS h;exact psI T5 λD W H hq=>el hq λY F G e0 he r hw=>by rw[yq]at hw;exact hw _ _ _ (Ext.refl _ _) he r
 |.cnt=>by
  intro h;let(_,rfl,_):=aaT h;exact psI T6 λD W H hq=>el hq λY F G e0 he r hw=>by rw[yr]at hw;exact hw _ _ _ (Ext.refl _ _) he r
 |.rse C es=>λh=>abR S h
 |.rsi C e=>λh=>abS S h
 |.tryx b C h xs=>by intro hh;exact abU S hh
 |.nev=>by
  intro h;exact psI Ue λD W H hq=>el hq λY F G e0 he r hw=>by rw[yx]at hw;exact hw.elim
theorem km{Z:aj}{CX:CXT}{k:Nat}{B:Bs}{c:CT}{E:EK}{X:Cx}(S:Stat Z CX k c E B X):∀(x:Sxs),mX Z c E B X x
 |.nil=>λh=>abV h
 |.cons s r=>λh=>abW (abX S s) (km S r) h
end
end RF
namespace L2
open PySem PySem.Spec PyProof.Rows
variable {P:AK}{w:World}{mg:AH}{base:Heap}{CX:CXT}{f:AQ}{fd:AJ}{ps:AD}{sp:Sp}
def Fun.okX{K:PF}{x qual:Str}{st:Stmt}{N:AD}{k:Nat}(F:Fun K x qual st f fd)(S:FnScope N ps (aB st))(len:∀vs H Q E,sp vs H Q E->vs⁻¹=ps⁻¹)(y:∀(cdv:AN)(A:AM)(outer:List Env)(s:AI)(H:Hp)(vs:AR)(Q:VK)(E:XK),Room k (A.deeper (envOfC qual (aB st) (~~~s) f cdv))->sp vs H Q E->
   ∃t,PSs (dg CX P w K mg base N qual (aB st) f cdv A outer s H E) (aD st) t/\t {nx:=λv H'=>Q .non H',rt:=Q} (start N vs) H):FnOk P w K mg base CX (k+1) f fd ps sp:=by
 let(oc,od,kV,O,pm,an,cdv,ct,osl,rfl,Y,z):=F.ex;exact Vv Y z S len λA outer s H vs Q E U J=>y cdv A outer s H vs Q E U J
def FnOk.cx{K:PF}{k:Nat}(F:FnOk P w K mg base CX0 k f fd ps sp):FnOk P w K mg base CX k f fd ps sp:=
 (F.len,λA outer s H args us vs Q E J he z O hs=>kn (F.run A outer s H args us vs Q E J he z O hs) λr s' y=>by
  cases r with
  |error e=>exact False.elim y
  |ok fl=>cases fl<;>exact y)
end L2
namespace RF
open PySem PySem.Spec PyProof.Rows L2
variable {ds x y l items:AS}{i j:Int}{G G1 G2:DH}{Y ρ:ao}{n m:Nat}{a:D}{body:Sxs}{C f:AL}{N ps:AD}{E:EK}{qual:Str}{g:Hld}{b:Bool}{kl:AS->Prop}{st:Stmt}{p fa:AQ}{kr:ao->Prop}{fd:AJ}{lo hi:Option Int}{elt msg:Ex}{tg:Tg}{cond:Tx}{h:Heap}{sc:Scope}{outer:List Env}{s:AI}{H:Hp}{cdv:AN}{EX:XK}{post:AS->DH->D->DH->Prop}{o:DO}{kk:Bool->Prop}{ts:Tgs}{it:It'}
def fnB(N ps:AD)(z:Scope):Bool:=
 decide (z.kind=.function)&&!z.isCoroutine&&!z.isGenerator&&fW N&&(N.take ps⁻¹==ps)&&ps.all (λx=>z.names.lookup x==-.local||z.names.lookup x==-.cell)&&z.names.all (λy=>y.2 != .free)
def rQ(h:fnB N ps sc):FnScope N ps sc:=by unfold fnB at h;simp only[ae,fS,br,aw,cr,df,bne_iff_ne]at h;let((((((h1,h2),z),J),O),U),Y):=h;exact(h1,h2,z,zr J,O,U,λy hy=>Y y hy)
structure Bse(Z:aj)(P:AK)(w:World)(K:PF)(mg:AH)(base:Heap)(CX:CXT)(k:Nat)(fs:List (AL×Nat))(bt:List AL)(cn:List (AL×D))(xs:List (AL×Bool))(ot:OT):Prop where
 call:∀f n,(f,n)∈fs->∃fa fd ps,FnOk P w K mg base CX k fa fd ps (lift K n (Z f))/\PySem.W.keepIn K (.ref fa)=true/\Binds K fd ps []/\mg (⇑f)=some (.ref fa)
 blt:∀f,f∈bt->mg (⇑f)=none
 con:∀x d,(x,d)∈cn->∃u v,mg (⇑x)=some u/\RelV v u/\∀H F,Rep K H F d v
 xcl:∀C,xs.contains (C,true)=true->∃a,mg (⇑C)=some (.ref a)/\iV K a=true/\PySem.W.nsIn K mainGlobals (⇑C)=some (some (.ref a))
 xis:∀C',xs.contains (C',false)=true->∃cv,CV K mg C' cv/\∀C,xs.contains (C,true)=true->XI K C C' cv
 mth:∀f C m n,(f,C,m,n)∈ot.ms->MthOk Z P w K mg base CX k f C m n
 mko:∀C n,(C,n)∈ot.ks->MkoOk Z P w K mg base CX k C n
 fld:∀C f,(C,f)∈ot.fl->JF K C f
 xko:∀C f,(C,f)∈ot.xk->XkoX P w K mg base CX k xs C f
def aG(N:AD)(y:Scope)(fs:List (AL×Nat))(bt:List AL)(cn:List (AL×D))(xs:List (AL×Bool))(ot:OT):CT:={N:=N,kd:=y.names,fn:=true,fs:=fs,bt:=bt,cn:=cn,xs:=xs,ot:=ot}
section
variable {Z:aj} {P:AK} {w:World} {K:PF} {mg:AH} {base:Heap} {k:Nat} {fs:List (AL×Nat)} {bt:List AL} {cn:List (AL×D)} {xs:List (AL×Bool)} {ot:OT}
def Kd{f:AQ}{A:AM}{B:Bs}(T:Bse Z P w K mg base (CX1 P w) k fs bt cn xs ot)(hs:fnB N ps sc)(y:Room k (A.deeper (envOfC qual sc (~~~s) f cdv))):Stat Z (CX1 P w) k (aG N sc fs bt cn xs ot) noE B (dg (CX1 P w) P w K mg base N qual sc f cdv A outer s H EX).nox where
 N:=rfl
 nd:=(rQ hs).nd
 calm:=rfl
 own:=PassesOwn.never
 kd:=rfl
 vis:=λx h=>by
  have h:ji (sc.names.lookup x)=true:=h;change sc.names.lookup x=_\/sc.names.lookup x=_\/sc.names.lookup x=_;unfold ji at h;split at h<;>first | (cases h;done)|simp_all
 cel:=λx h=>h
 glo:=λx h=>h
 sto:=λx h=>by
  have h:(sc.names.lookup x==-.local||(true&&sc.names.lookup x==-.cell))=true:=h;rw[iP,df,aw,aw]at h;exact(h,.inl rfl)
 room:=y
 call:=T.call
 blt:=T.blt
 con:=T.con
 exc:=(_,Ey _,λz z z z z z z z z z z z z q=>q.elim,λz z z z h=>h.elim)
 nox:=λY=>Ey Y
 xcl:=T.xcl
 loc:=λx h=>h
 xis:=T.xis
 mth:=T.mth
 mko:=T.mko
 fld:=T.fld
 xko:=T.xko
 trc:=λz=>(rfl,rfl,rfl)
def Ke{f:AQ}{A:AM}{B:Bs}(T:Bse Z P w K mg base (CX1 P w) k fs bt cn xs ot)(hs:fnB N ps sc)(J:Room k (A.deeper (envOfC qual sc (~~~s) f cdv)))(z:∀x y H' F',E x y->Ext B.H B.F H' F'->R K H' F' y->XR K H' F' x EX):Stat Z (CX1 P w) k (aG N sc fs bt cn xs ot) E B (dg (CX1 P w) P w K mg base N qual sc f cdv A outer s H EX):=
 have S:=Kd (EX:=EX) (B:=B) (qual:=qual) (f:=f) (cdv:=cdv) (A:=A) (outer:=outer) (s:=s) (H:=H) T hs J
 (S.N,S.nd,S.calm,PassesOwn.leaving,S.kd,S.vis,S.cel,S.glo,S.sto,S.room,S.call,S.blt,S.con,(EX,W4 rfl rfl λv v h=>h,Xb rfl rfl λv v h=>h,z),S.nox,S.xcl,S.loc,S.xis,S.mth,S.mko,S.fld,S.xko,λv=>(rfl,rfl,rfl))
def abY{s':AI}{e:AN}(h:CX1 P w outer H s (λz z z=>False) e s'):False:=by let(_,_,_,_,_,_,_,_,_,_,q):=h;exact q
def ends(Q:AT):En:={nx:=λz G=>Q .non G,rt:=Q,bk:=λz z=>False,ct:=λz z=>False}
def env0(ds:AS)(n:Nat):ao:=ds.map some++List.replicate n none
theorem abZ{x:Str}{f:AQ}(J:Fun K x qual st f fd)(T:Bse Z P w K mg base (CX1 P w) k fs bt cn xs ot)(S:RF.Spec)(n m:Nat)(hs:fnB N ps (aB st))(hc:aC (aG N (aB st) fs bt cn xs ot) body (aD st)=true)(hn:ps⁻¹=n)(hm:N⁻¹=n+m)(hw:∀ds G a,ds⁻¹=n->S.pre ds G a->aA Z body (S.exc a) (env0 ds m) G (ends (S.post a))):FnOk P w K mg base (CX1 P w) (k+1) f fd ps (lift K n S):=by
 show J.okX (rQ hs) (λvs H Q E h=>by rw[hn];exact h.1) λcdv A outer s H vs Q EX U z=>?_;let(hl,F,G,ds,r,rs,a,h1,h2,O):=z;have St:Stat Z (CX1 P w) k (aG N (aB st) fs bt cn xs ot) (S.exc a) (H,F) (dg (CX1 P w) P w K mg base N qual (aB st) f cdv A outer s H EX):=Ke T hs U λx y H' F' hx e r'=>O x y hx H' F' e r';show(_,km St body hc,?_);show(env0 ds m,F,G,Ext.refl _ _,?_,r,fu body (D:=ends (S.post a)) (λY y q=>?_,λd y q=>h2 d y q,λv v q=>False.elim q,λv v q=>False.elim q) (hw ds G a (by rw[rs⁻¹];exact hl) h1))
 .unfold L2.start;rw[show N⁻¹-vs⁻¹=m by lia];exact EnvR.start m rs
 .intro H' F' σ' x1 _ r1;exact h2 .non y q H' F' .non x1 r1 rfl
theorem mY{x:Str}{f:AQ}(J:Fun K x qual st f fd)(T:Bse Z P w K mg base (CX1 P w) k fs bt cn xs ot)(S:RF.Spec)(n m:Nat)(hs:fnB N ps (aB st))(hc:aC (aG N (aB st) fs bt cn xs ot) body (aD st)=true)(hn:ps⁻¹=n)(hm:N⁻¹=n+m)(hw:∀ds G a,ds⁻¹=n->S.pre ds G a->aA Z body noE (env0 ds m) G (ends (S.post a))):FnOk P w K mg base (CX1 P w) (k+1) f fd ps (lift K n S):=by
 show J.okX (rQ hs) (λvs H Q E h=>by rw[hn];exact h.1) λcdv A outer s H vs Q EX O z=>?_;let(hl,F,G,ds,r,rs,a,h1,h2,h3):=z;have St:Stat Z (CX1 P w) k (aG N (aB st) fs bt cn xs ot) noE (H,F) (dg (CX1 P w) P w K mg base N qual (aB st) f cdv A outer s H EX).nox:=Kd T hs O;show(_,(km St body hc).nox,?_);show(env0 ds m,F,G,Ext.refl _ _,?_,r,fu body (D:=ends (S.post a)) (λY y q=>?_,λd y q=>h2 d y q,λv v q=>False.elim q,λv v q=>False.elim q) (hw ds G a (by rw[rs⁻¹];exact hl) h1))
 .unfold L2.start;rw[show N⁻¹-vs⁻¹=m by lia];exact EnvR.start m rs
 .intro H' F' σ' x1 _ U;exact h2 .non y q H' F' .non x1 U rfl
end
def bN(pre:AS->DH->Prop)(post:AS->DH->D->DH->Prop):RF.Spec where
 A:=AS×DH
 pre:=λds G a=>a=(ds,G)/\pre ds G
 post:=λa d y=>post a.1 a.2 d y
 exc:=λz z z=>False
def cG{pre:AS->DH->Prop}{k:AT}(h:pre ds G)(J:∀d y,post ds G d y->k d y):(bN pre post).t ds G k E:=
 ((ds,G),(rfl,h),J,λx x z=>z.elim)
def cJ{Z:aj}{pre:AS->DH->Prop}(h:∀ds G,pre ds G->aA Z body noE (env0 ds m) G (ends (post ds G))):
  ∀ds G a,ds⁻¹=n->(bN pre post).pre ds G a->aA Z body noE (env0 ds m) G (ends ((bN pre post).post a)):=by
 rintro ds G a _ ⟨rfl,h1⟩;exact h ds G h1
def aO(f:AS->Option D):RF.Spec:=bN (λds z=>(f ds).isSome=true) (λds G d y=>y=G/\f ds=-d)
def dD{f:AS->Option D}{d:D}{k:AT}(h:f ds=-d)(J:k d G):(aO f).t ds G k E:=
 cG (by rw[h];rfl) λd' O zZ=>by let(z,y):=zZ;rw[h]at y;cases y;rw[z];exact J
def fY{Z:aj}{f:AS->Option D}(h:∀ds G d,f ds=-d->aA Z body noE (env0 ds m) G (ends λd' y=>y=G/\d'=d)):
  ∀ds G a,ds⁻¹=n->(aO f).pre ds G a->aA Z body noE (env0 ds m) G (ends ((aO f).post a)):=by
 show cJ λds G z=>?_;let(d,e):=dA.mp z;show fu body (D:=ends λd' y=>y=G/\d'=d) (λY y q=>?_,λd' y q=>?_,λx x q=>q,λx x q=>q) (h ds G d e)
 .exact (q.1,by rw[e];exact fT some q.2.symm)
 .exact (q.1,by rw[e];exact fT some q.2.symm)
def ab0{step:D->ao->DH->(ao->DH->Prop)->Prop}{k:ao->DH->Prop}(P:Nat->ao->DH->Prop)(h0:P 0 Y G)(hh:∀i Y G,P i Y G->held g G)(hs:∀i d Y G,items[i]?=-d->P i Y G->∀J:ao->DH->Prop,(∀y z,P (i+1) y z->J y z)->step d Y G J)(he:∀Y G,P items⁻¹ Y G->k Y G):forLoop step g items Y G k:=by
 have go:∀(l:AS)(i:Nat)(Y:ao)(G:DH),items.drop i=l->i<=items⁻¹->P i Y G->forLoop step g l Y G k:=by
  intro l;induction l with
  |nil=>
   intro i Y G e hi p;have:i=items⁻¹:=by have:=fT List.length e;rw[cq]at this;simp at this;lia
   subst this;exact(hh _ _ _ p,he _ _ p)
  |cons d l O=>
   intro i Y G e hi p;have hl:i<items⁻¹:=by
    by_cases h:i<items⁻¹
    .exact h
    .rw[List.drop_eq_nil_of_le (!0)]at e;cases e
   rw[cf hl]at e;injection e with e1 e2;show(hh _ _ _ p,hs i d Y G (by rw[aI hl,e1]) p _ λy z U=>O (i+1) y z e2 hl U)
 exact go _ 0 Y G (!2) (gS _) h0
def Kf{step:D->ao->DH->(Option D->ao->DH->Prop)->Prop}{z:AS}{k:AS->DH->Prop}(P:Nat->AS->ao->DH->Prop)(h0:P 0 z Y G)(hh:∀i z Y G,P i z Y G->held g G)(hl:z⁻¹+items⁻¹<=sz)(hs:∀i d z Y G,items[i]?=-d->P i z Y G->∀kk:Option D->ao->DH->Prop,(∀o J O,P (i+1) (z++o.toList) J O->kk o J O)->step d Y G kk)(he:∀z Y G,P items⁻¹ z Y G->k z G):compLoop step g items z Y G k:=by
 have go:∀(l:AS)(i:Nat)(z:AS)(Y:ao)(G:DH),items.drop i=l->i<=items⁻¹->z⁻¹+l⁻¹<=sz->P i z Y G->compLoop step g l z Y G k:=by
  intro l;induction l with
  |nil=>
   intro i z Y G e hi U p;have:i=items⁻¹:=by have:=fT List.length e;rw[cq]at this;simp at this;lia
   subst this;exact(hh _ _ _ _ p,!!U,he _ _ _ p)
  |cons d l ih=>
   intro i z Y G e hi U p;have hl:i<items⁻¹:=by
    by_cases h:i<items⁻¹
    .exact h
    .rw[List.drop_eq_nil_of_le (!0)]at e;cases e
   rw[cf hl]at e;injection e with e1 e2;have ha':z⁻¹+(l⁻¹+1)<=sz:=U;show(hh _ _ _ _ p,!0,hs i d z Y G (by rw[aI hl,e1]) p _ λo J O p'=>?_);cases o with
   |some y=>exact ih (i+1) (z++[y]) J O e2 hl (by rw[ax];simp;lia) p'
   |none=>exact ih (i+1) z J O e2 hl (!0) (!!p')
 exact go _ 0 z Y G (!2) (gS _) hl h0
def Kg{step:D->ao->DH->(Option D->ao->DH->Prop)->Prop}{k:AS->DH->Prop}(g:Hld)(f:D->Option D)(I:ao->Prop)(h0:I Y)(U:held g G)(hl:items⁻¹<=sz)(hs:∀d Y,d∈items->I Y->∀O:Option D->ao->DH->Prop,(∀y,I y->O (f d) y G)->step d Y G O)(he:k (items.filterMap f) G):compLoop step g items [] Y G k:=by
 show Kf (λi z y J=>I y/\J=G/\z=(items.take i).filterMap f) (h0,rfl,rfl) (λi z y J p=>by rw[p.2.1];exact U) (!!hl) ?_ ?_
 .rintro i d z y J hd ⟨p1,rfl,rfl⟩ O hk;show hs d y (bg hd) p1 O λρ2 i2=>hk _ _ _ (i2,rfl,?_);rw[dy,hd,List.filterMap_append];congr 1
 .rintro z y J ⟨_,rfl,rfl⟩;rw[fo];exact he
def ab1{step:D->ao->DH->(Option D->ao->DH->Prop)->Prop}{k:AS->DH->Prop}(g:Hld)(f:D->D)(I:ao->Prop)(h0:I Y)(J:held g G)(hl:items⁻¹<=sz)(hs:∀d Y,d∈items->I Y->∀z:Option D->ao->DH->Prop,(∀y,I y->z (-(f d)) y G)->step d Y G z)(he:k (items.map f) G):compLoop step g items [] Y G k:=
 Kg g (λd=>-(f d)) I h0 J hl hs (by rw[<-List.filterMap_eq_map]at he;exact he)
def zF{y:Type}(f:y->Bool):∀l:List y,bools (l.map λx=>D.bl (f x))=-(l.map f)
 |[]=>rfl
 |x::l=>by simp[bools,zF f l]
def strs_map{y:Type}(f:y->AA):∀l:List y,bj (l.map λx=>D.str (f x))=-(l.map f)
 |[]=>rfl
 |x::l=>by simp[bj,strs_map f l]
def Kh:∀l:List (AA),eY [] l=l.flatten
 |[]=>rfl
 |[x]=>by simp[eY]
 |x::y::r=>by simp[eY,Kh (y::r)]
def Sa(G y:DH):Prop:=∀b o,G b=-o->y b=-o
def Sb(p:AQ)(G y:DH):Prop:=∀b o,G b=-o->b≠p->y b=-o
def Sa.refl(G:DH):Sa G G:=λz z h=>h
def Sb.refl(p:AQ)(G:DH):Sb p G G:=λz z h z=>h
def Sa.trans(a:Sa G G1)(b:Sa G1 G2):Sa G G2:=λc o h=>b c o (a c o h)
def Sb.trans(a:Sb p G G1)(b:Sb p G1 G2):Sb p G G2:=λc o h n=>b c o (a c o h n) n
def Sa.sb{y:DH}(a:Sa G y):Sb p G y:=λc o h z=>a c o h
def Sa.new(h:G p=none):Sa G (aV G p o):=λb u e=>by rw[dM (wJ e h)];exact e
def Sb.upd:Sb p G (aV G p o):=λb u e n=>by rw[dM n];exact e
def Sa.then(a:Sa G G1)(y:G p=none)(b:Sb p G1 G2):Sa G G2:=λc o h=>b c o (a c o h) (wJ h y)
def ab2{y:Type}{a:y}{l:List y}:atI (a::l) 0=-a:=bA (j:=0) rfl
def ab3{y:Type}{a b:y}{l:List y}:atI (a::b::l) 1=-b:=bA (j:=1) rfl
def ab4{y:Type}{a b c:y}{l:List y}:atI (a::b::c::l) 2=-c:=bA (j:=2) rfl
def ab5{y:Type}{a b c d:y}{l:List y}:atI (a::b::c::d::l) 3=-d:=bA (j:=3) rfl
def Kl{j:Nat}(h:j<n):ixN n (j:Int)=-j:=by unfold ixN;rw[if_pos (!0),if_pos (!0)];simp
def ab6:ixN (n+1) 0=-0:=by unfold ixN;rw[if_pos (!0),if_pos (!0)];rfl
def ab7:ixN (n+2) 1=-1:=by unfold ixN;rw[if_pos (!0),if_pos (!0)];rfl
def ab8:ixN (n+3) 2=-2:=by unfold ixN;rw[if_pos (!0),if_pos (!0)];rfl
def ab9{y:Type}{xs:List y}(h0:0<=i)(h1:i<xs⁻¹):∃a,atI xs i=-a/\a∈xs:=by
 let(n,rfl):=dS h0;have hn:n<xs⁻¹:=by lia
 exact(xs[n],bA (by simp[hn]),fq _)
def Km{y:Type}(xs:List y)(lo hi:Option Int):(cut xs lo hi)⁻¹<=xs⁻¹:=by unfold cut;rw[bv,cq];lia
def Ko:cI l []=l.isEmpty:=by cases l<;>rfl
def rR{y:Type}(l:List y)(n:Nat):cut l none (-(n:Int))=l.take n:=by
 unfold cut;rw[show HT.sIx l⁻¹ 0 none=0 from rfl,HT.Dq,List.drop_zero,Nat.sub_zero];by_cases h:n<=l⁻¹
 .rw[Nat.min_eq_left h]
 .rw[Nat.min_eq_right (!0),gd (ay _),gd (!0)]
def rT{y:Type}(l:List y)(n:Nat):cut l (-(n:Int)) none=l.drop n:=by
 unfold cut;rw[show HT.sIx l⁻¹ l⁻¹ none=l⁻¹ from rfl,HT.Dq];by_cases h:n<=l⁻¹
 .rw[Nat.min_eq_left h,gd (by rw[cq];exact ay _)]
 .rw[Nat.min_eq_right (!0),Nat.sub_self,List.take_zero,List.drop_eq_nil_of_le (!0)]
def Kp{y:Type}(l:List y)(n:Nat):cut l (-((n:Int)+1)) none=l.drop (n+1):=rT l (n+1)
def zG:∀{l:AS},(∀d∈l,nr d=true)->nrs l=true
 |[],_=>rfl
 |a::l,h=>by rw[nrs,h a aT,zG λd hd=>h d (bP _ hd)];rfl
def Kq:∀{l:AS},(∀d∈l,dpt d<=n)->aX l<=n
 |[],_=>gS _
 |a::l,h=>by rw[aX];exact Nat.max_le.mpr (h a aT,Kq λd hd=>h d (bP _ hd))
def Kr{z:Type}{y:List z->Prop}(l:List z)(nil:y [])(snoc:∀(l:List z)(a:z),y l->y (l++[a])):y l:=by
 have go:∀(n:Nat)(l:List z),l⁻¹=n->y l:=by
  intro n;induction n with
  |zero=>intro l h;rw[dQ.mp h];exact nil
  |succ n O=>
   intro l h;have J:l≠[]:=by rintro rfl;simp at h
   rw[<-hW J];exact snoc _ _ (O _ (by rw[List.length_dropLast];lia))
 exact go _ l rfl
section
variable {G:DH} {k:AT} {fz:Bool} {kb:Bool->Prop} {kd:D->Prop} {p:AQ}
theorem aca:dh .Add fz (.int i) (.int j) G k=k (.int (i+j)) G:=rfl
theorem acb{x y:AA}:dh .Add fz (.str x) (.str y) G k=(x⁻¹+y⁻¹<=sz/\k (.str (x++y)) G):=rfl
theorem acd:dh .Add fz (.lst x) (.lst y) G k=(x⁻¹+y⁻¹<=sz/\mk fz (x++y) G k):=rfl
theorem ace:dh .Add fz (.tup x) (.tup y) G k=(x⁻¹+y⁻¹<=sz/\k (.tup (x++y)) G):=rfl
theorem acf:dh .Sub fz (.int i) (.int j) G k=k (.int (i-j)) G:=rfl
theorem acg:dh .Mult fz (.int i) (.int j) G k=(CMul i j/\k (.int (i*j)) G):=rfl
theorem ach{x:AA}{n:Int}:dh .Mult fz (.str x) (.int n) G k=(0<=n/\n<=1000/\x⁻¹*n.toNat<=sz/\k (.str (reps x n.toNat)) G):=rfl
theorem aci:dh .FloorDiv fz (.int i) (.int j) G k=((0<j/\j<1152921504606846976)/\k (.int (i/j)) G):=rfl
theorem acj:dh .Mod fz (.int i) (.int j) G k=(0<j/\k (.int (i%j)) G):=rfl
theorem ack:dh .Pow fz (.int i) (.int j) G k=(pK i j/\k (.int (i ^ j.toNat)) G):=rfl
def fZ:D->Bool
 |.non=>true
 |_=>false
theorem acl{b:D}:bx .Eq a b kb=((nr a=true/\nr b=true/\min (dpt a) (dpt b)<=60)/\kb (deq a b)):=rfl
theorem acn{b:D}:bx .NotEq a b kb=((nr a=true/\nr b=true/\min (dpt a) (dpt b)<=60)/\kb (!deq a b)):=rfl
theorem aco:bx .Lt (.int i) (.int j) kb=kb (decide (i<j)):=rfl
theorem acp:bx .LtE (.int i) (.int j) kb=kb (decide (i<=j)):=rfl
theorem acq:bx .Gt (.int i) (.int j) kb=kb (decide (j<i)):=rfl
theorem acr:bx .GtE (.int i) (.int j) kb=kb (decide (j<=i)):=rfl
theorem acs{i j:AA}:bx .Lt (.str i) (.str j) kb=kb (decide (i<j)):=rfl
theorem acu{i j:AA}:bx .LtE (.str i) (.str j) kb=kb (!decide (j<i)):=rfl
def acv:bx .Is a .non kb=kb (fZ a):=by cases a<;>rfl
def acw:bx .IsNot a .non kb=kb (!fZ a):=by cases a<;>rfl
theorem acx{a:Bool}:bx .Is (.bl a) (.bl b) kb=kb (a==b):=rfl
theorem acy{a:Bool}:bx .IsNot (.bl a) (.bl b) kb=kb (a != b):=rfl
theorem acz{c:Nat}{l:AA}:bx .In (.str [c]) (.str l) kb=kb (l.contains c):=rfl
theorem acA{c:Nat}{l:AA}:bx .NotIn (.str [c]) (.str l) kb=kb (!l.contains c):=rfl
theorem acB:bx .In a (.lst l) kb=((nr a=true/\nrs l=true/\aX l<=60)/\kb (isIn a l)):=rfl
theorem acC:bx .In a (.tup l) kb=((nr a=true/\nrs l=true/\aX l<=60)/\kb (isIn a l)):=rfl
theorem acD:bx .NotIn a (.lst l) kb=((nr a=true/\nrs l=true/\aX l<=60)/\kb (!isIn a l)):=rfl
theorem acE:bx .NotIn a (.tup l) kb=((nr a=true/\nrs l=true/\aX l<=60)/\kb (!isIn a l)):=rfl
theorem acF:fZ (.int i)=false:=rfl
theorem acG{i:Bool}:fZ (.bl i)=false:=rfl
theorem acH{i:AA}:fZ (.str i)=false:=rfl
theorem acI{i:AS}:fZ (.tup i)=false:=rfl
theorem acJ{i:AS}:fZ (.lst i)=false:=rfl
theorem acK{i:AQ}:fZ (.ref i)=false:=rfl
theorem acL:fZ .non=true:=rfl
def bh{y:Type}(o:Option y)(k:y->Prop):Prop:=match o with|some a=>k a|none=>False
theorem acM{y:Type}{a:y}{k:y->Prop}:bh (-a) k=k a:=rfl
def aR{y:Type}{o:Option y}{a:y}{k:y->Prop}(e:o=-a)(h:k a):bh o k:=by rw[e];exact h
def mZ{y:Type}{xs:List y}{k:y->Prop}(h0:0<=i)(h1:i<xs⁻¹)(h:∀a,a∈xs->k a):bh (atI xs i) k:=by let(a,e,m):=ab9 h0 h1;exact aR e (h a m)
def acN:dB (.lst ds) (.int i) kd=bh (atI ds i) kd:=by unfold dB bh;(try dsimp only)<;>(cases atI ds i<;>rfl)
def acO:dB (.tup ds) (.int i) kd=bh (atI ds i) kd:=by unfold dB bh;(try dsimp only)<;>(cases atI ds i<;>rfl)
def acP{l:AA}:dB (.str l) (.int i) kd=bh (atI l i) (λc=>kd (.str [c])):=by unfold dB bh;(try dsimp only)<;>(cases atI l i<;>rfl)
theorem acQ:eX fz (.lst ds) lo hi G k=mk fz (cut ds lo hi) G k:=rfl
theorem acR{y:D}:qe fz (.lst ds) y G k=(y=.int (Neg.neg 1)/\mk fz ds.reverse G k):=rfl
theorem acS{ds:List Int}:eX fz (.scr ds) lo hi G k=mk fz ((cut ds lo hi).map .int) G k:=rfl
theorem acT:eX fz (.tup ds) lo hi G k=k (.tup (cut ds lo hi)) G:=rfl
theorem acU{ds:AA}:eX fz (.str ds) lo hi G k=k (.str (cut ds lo hi)) G:=rfl
theorem acV:opB .len [.lst ds] kd=kd (.int ds⁻¹):=rfl
theorem acW:opB .len [.tup ds] kd=kd (.int ds⁻¹):=rfl
theorem acX{ds:AA}:opB .len [.str ds] kd=kd (.int ds⁻¹):=rfl
def acY:opB .all [.lst ds] kd=bh (bools ds) (λbs=>kd (.bl (bs.all id))):=by unfold opB qg bh;(try dsimp only)<;>(cases bools ds<;>rfl)
theorem acZ:opB .int [.bl b] kd=kd (.int (if b then 1 else 0)):=rfl
theorem ac0{b:Int}:opB .int [.int b] kd=kd (.int b):=rfl
def ac1{l:AA}:opB .int [.str l] kd=bh (PySem.intText? (tx l)) (λn=>l⁻¹<=640/\kd (.int n)):=by unfold opB qi bh;(try dsimp only)<;>(cases PySem.intText? (tx l)<;>rfl)
def ac3:opB .sum [.lst ds] kd=bh (cT ds) (λns=>kd (.int ns.sum)):=by unfold opB wQ bh;(try dsimp only)<;>(cases cT ds<;>rfl)
theorem ac4{a:Int}:opB .str [.int a] kd=((0<=a/\a<100)/\kd (.str (fU a.toNat))):=rfl
theorem ac5{a:Int}:opB .abs [.int a] kd=kd (.int (if a<0 then Neg.neg a else a)):=rfl
theorem ac6{a b:Int}:opB .min2 [.int a,.int b] kd=kd (.int (if b<a then b else a)):=rfl
theorem ac7{a b:Int}:opB .max [.int a,.int b] kd=kd (.int (if b > a then b else a)):=rfl
def ac8:dj .sorted [.tup ds] kl=bh (cT ds) (λns=>ns⁻¹<64/\∀y:List Int,y.Perm ns->y.Pairwise (·<=·)->kl (y.map D.int)):=by unfold dj qj bh;(try dsimp only)<;>(cases cT ds<;>rfl)
def ac9:iw (.lst ds) kl=bh (bj ds) (λz=>(z⁻¹<=1000/\(cA z)⁻¹<=64)/\∀y:List (AA),y.Perm (cA z)->kl (y.map D.str)):=by unfold iw bh;(try dsimp only)<;>(cases bj ds<;>rfl)
def ada:dj .sorted [.lst ds] kl=bh (bj ds) (λz=>z⁻¹<64/\∀y:List (AA),y.Perm z->PyProof.Rows.sortedS (y.map tx)=true->kl (y.map D.str)):=by unfold dj qj bh;(try dsimp only)<;>(cases bj ds<;>rfl)
theorem adb:opB .tuple [.lst ds] kd=kd (.tup ds):=rfl
theorem adc:opB .tuple [.tup ds] kd=kd (.tup ds):=rfl
theorem ade:dj .list [.lst ds] kl=kl ds:=rfl
theorem adf:dj .list [.tup ds] kl=kl ds:=rfl
theorem adg{l:AA}:dj .list [.str l] kl=kl (l.map λc=>.str [c]):=rfl
def adh{s:AA}:opM .join (.str s) [.lst ds] G k=bh (bj ds) (λy=>((y.map (·.length)).sum+y⁻¹*s⁻¹<=sz)/\k (.str (eY s y)) G):=by unfold opM ql bh;(simp only[db,List.map_nil,view])<;>(cases bj ds<;>rfl)
def trk(G:DH)(p:AQ)(k:AS->Prop):Prop:=match G p with|some (.lst ds)=>k ds|none=>False
def cZ{k:AS->Prop}(e:G p=-(.lst ds)):trk G p k=k ds:=by unfold trk;rw[e]
def adi{x:D}:opM .append (.ref p) [x] G k=trk G p (λds=>ds⁻¹<sz/\k .non (aV G p (.lst (ds++[x])))):=by unfold opM qm trk;(try dsimp only)<;>(cases G p<;>first|rfl | (rename_i o;cases o;rfl))
def adk{xs:AS}:opM .extend (.ref p) [.lst xs] G k=trk G p (λds=>ds⁻¹+xs⁻¹<sz/\k .non (aV G p (.lst (ds++xs)))):=by unfold opM qp trk;(simp only[db,List.map_nil,view])<;>(cases G p<;>first|rfl | (rename_i o;cases o;rfl))
def Ks:opM .count (.lst ds) [.bl true] G k=bh (bools ds) (λbs=>k (.int (bs.count true:Nat)) G):=by unfold opM qt bh;(try dsimp only[view])<;>(cases bools ds<;>rfl)
def Ku:opM .index (.lst ds) [.bl true] G k=bh (bools ds) (λbs=>true∈bs/\k (.int (bs.idxOf true:Nat)) G):=by unfold opM qu bh;(try dsimp only[view])<;>(cases bools ds<;>rfl)
theorem adl:recv .count (.lst ds) G=True:=rfl
theorem adm:recv .index (.lst ds) G=True:=rfl
theorem adn{i j:Nat}{z:ao->DH->Prop}:Zd i j (.lst ds) Y G z=(ds≠[]/\∀xs y,ds=xs++[y]->z ((Y.set i (-(.lst xs))).set j (-y)) G):=rfl
theorem ado{c:AL}{xs:List AL}:jb C xs (.exn c) kk=(xs.contains c=true/\kk (bF c C)):=rfl
theorem adp{c:AL}{d:D}{xs:List AL}:jb C xs (.exa c f d) kk=(xs.contains c=true/\kk (bF c C)):=rfl
def x_at{v:D}{y:D->Prop}:jT C f (.exa C f v) y=y v:=by simp[jT]
theorem adq{b:AL}{d:D}:view G (.exa b f d)=.exa b f d:=rfl
theorem adt{s:AA}:recv .join (.str s) G=True:=rfl
def adu:recv .append (.ref p) G=trk G p (λz=>True):=by unfold recv trk;(try dsimp only)<;>(cases G p<;>first|rfl | (rename_i o;cases o;rfl))
def adv:recv .extend (.ref p) G=trk G p (λz=>True):=by unfold recv trk;(try dsimp only)<;>(cases G p<;>first|rfl | (rename_i o;cases o;rfl))
def adw{x:D}{y:DH->Prop}:gJ (.ref p) (.int i) x G y=trk G p (λds=>bh (ixN ds⁻¹ i) (λj=>y (aV G p (.lst (ds.set j x))))):=by
 unfold gJ trk bh
 (try dsimp only)<;>(cases G p<;>first|rfl | (rename_i o;cases o;(try dsimp only)<;>(rename_i ds;cases ixN ds⁻¹ i<;>rfl)))
theorem adx:fV .Add (.int i) (.int j) kd=kd (.int (i+j)):=rfl
theorem ady{x y:AA}:fV .Add (.str x) (.str y) kd=(x⁻¹+y⁻¹<=sz/\kd (.str (x++y))):=rfl
theorem adz:fV .Sub (.int i) (.int j) kd=kd (.int (i-j)):=rfl
theorem adA{xs:AS}:mk true xs G k=k (.lst xs) G:=rfl
theorem adB{xs:AS}:mk false xs G k=∀p,G p=none->k (.ref p) (aV G p (.lst xs)):=rfl
theorem adC:view G .non=.non:=rfl
theorem adD:view G (.bl b)=.bl b:=rfl
theorem adE{b:Int}:view G (.int b)=.int b:=rfl
theorem adF{b:AA}:view G (.str b)=.str b:=rfl
theorem adG{b:AS}:view G (.tup b)=.tup b:=rfl
theorem adH{b:AS}:view G (.lst b)=.lst b:=rfl
theorem adI{q:AQ}:view G (.obj C f q)=.obj C f q:=rfl
theorem adJ{b:AL}:view G (.exn b)=.exn b:=rfl
theorem adK{b:List Int}:view G (.scr b)=.scr b:=rfl
def c7(e:G p=-(.lst ds)):view G (.ref p)=.lst ds:=by unfold view;dsimp only;rw[e]
theorem adL:truth .non=-false:=rfl
theorem adM:truth (.bl b)=-b:=rfl
theorem adN:truth (.int i)=-(i != 0):=rfl
theorem adO{l:AA}:truth (.str l)=-(!l.isEmpty):=rfl
theorem adP:truth (.tup l)=-(!l.isEmpty):=rfl
theorem adQ:truth (.lst l)=-(!l.isEmpty):=rfl
theorem adR:itemsOf G (.lst l)=-(l,[]):=rfl
theorem adS:itemsOf G (.tup l)=-(l,[]):=rfl
theorem adT{l:AA}:itemsOf G (.str l)=-(l.map λc=>.str [c],[]):=rfl
theorem adU{t:AL}:isT t .non=-false:=rfl
theorem adV{t:AL}:isT t (.bl b)=-(t=="bool"||t=="int"):=rfl
theorem adW{t:AL}{b:Int}:isT t (.int b)=-(t=="int"):=rfl
theorem adX{t:AL}{b:AA}:isT t (.str b)=-(t=="str"):=rfl
theorem is_tup{t:AL}{b:AS}:isT t (.tup b)=-(t=="tuple"):=rfl
theorem adY{t:AL}{b:AS}:isT t (.lst b)=-(t=="list"):=rfl
theorem adZ{i:Nat}{d:D}:bC (.nm i) d Y G kr=kr (Y.set i (-d)):=rfl
theorem ad0:bC (.tp ts) (.lst ds) Y G kr=b7 ts ds Y G kr:=rfl
theorem ad1:bC (.tp ts) (.tup ds) Y G kr=b7 ts ds Y G kr:=rfl
theorem ad2:b7 .nil [] ρ G kr=kr ρ:=rfl
theorem ad3{t:Tg}{r:Tgs}{d:D}:b7 (.cons t r) (d::ds) Y G kr=bC t d Y G (λy=>b7 r ds y G kr):=rfl
theorem ad4:deq .non .non=true:=rfl
theorem ad5{y:Bool}:deq .non (.bl y)=false:=rfl
theorem ad6{y:Int}:deq .non (.int y)=false:=rfl
theorem ad7{y:AA}:deq .non (.str y)=false:=rfl
theorem ad8:deq .non (.tup y)=false:=rfl
theorem ad9:deq .non (.lst y)=false:=rfl
theorem aea{x:Bool}:deq (.bl x) .non=false:=rfl
def aeb{x:Bool}{y:Bool}:deq (.bl x) (.bl y)=(x==y):=by rw[deq]
theorem aec{x:Bool}{y:AA}:deq (.bl x) (.str y)=false:=rfl
theorem aed{x:Bool}:deq (.bl x) (.tup y)=false:=rfl
theorem aee{x:Bool}:deq (.bl x) (.lst y)=false:=rfl
theorem aef{x:Int}:deq (.int x) .non=false:=rfl
def Kv{x:Int}{y:Int}:deq (.int x) (.int y)=(x==y):=by rw[deq]
theorem aeg{x:Int}{y:AA}:deq (.int x) (.str y)=false:=rfl
theorem aeh{x:Int}:deq (.int x) (.tup y)=false:=rfl
theorem aei{x:Int}:deq (.int x) (.lst y)=false:=rfl
theorem aej{x:AA}:deq (.str x) .non=false:=rfl
theorem aek{x:AA}{y:Bool}:deq (.str x) (.bl y)=false:=rfl
theorem ael{x:AA}{y:Int}:deq (.str x) (.int y)=false:=rfl
def Kw{x:AA}{y:AA}:deq (.str x) (.str y)=(x==y):=by rw[deq]
theorem aem{x:AA}:deq (.str x) (.tup y)=false:=rfl
theorem aen{x:AA}:deq (.str x) (.lst y)=false:=rfl
theorem aeo:deq (.tup x) .non=false:=rfl
theorem aep{y:Bool}:deq (.tup x) (.bl y)=false:=rfl
theorem aeq{y:Int}:deq (.tup x) (.int y)=false:=rfl
theorem aer{y:AA}:deq (.tup x) (.str y)=false:=rfl
def aes:deq (.tup x) (.tup y)=cI x y:=by rw[deq]
theorem aet:deq (.tup x) (.lst y)=false:=rfl
theorem aeu:deq (.lst x) .non=false:=rfl
theorem aev{y:Bool}:deq (.lst x) (.bl y)=false:=rfl
theorem aew{y:Int}:deq (.lst x) (.int y)=false:=rfl
theorem aex{y:AA}:deq (.lst x) (.str y)=false:=rfl
theorem aey:deq (.lst x) (.tup y)=false:=rfl
def aez:deq (.lst x) (.lst y)=cI x y:=by rw[deq]
theorem aeA:cI [] []=true:=rfl
def aeB{b:D}{as bs:AS}:cI (a::as) (b::bs)=(deq a b&&cI as bs):=by rw[cI]
theorem aeC{b:D}{bs:AS}:cI [] (b::bs)=false:=rfl
theorem aeD{b:D}{bs:AS}:cI (b::bs) []=false:=rfl
theorem aeE:nr .non=true:=rfl
theorem aeF:dpt .non=0:=rfl
theorem aeG{x:Bool}:nr (.bl x)=true:=rfl
theorem aeH{x:Bool}:dpt (.bl x)=0:=rfl
theorem aeI{x:Int}:nr (.int x)=true:=rfl
theorem aeJ{x:Int}:dpt (.int x)=0:=rfl
theorem aeK{x:AA}:nr (.str x)=true:=rfl
theorem aeL{x:AA}:dpt (.str x)=0:=rfl
def aeM:nr (.tup x)=nrs x:=by rw[nr]
def aeN:dpt (.tup x)=aX x+1:=by rw[dpt]
def aeO:nr (.lst x)=nrs x:=by rw[nr]
def aeP:dpt (.lst x)=aX x+1:=by rw[dpt]
theorem aeQ:nrs []=true:=rfl
def aeR:nrs (a::l)=(nr a&&nrs l):=by rw[nrs]
theorem aeS:aX []=0:=rfl
def aeT:aX (a::l)=max (dpt a) (aX l):=by rw[aX]
end
def seq{Z:aj}{s:Sx}{r:Sxs}{D:En}(h:∀M:ao->DH->Prop,(∀y z,aA Z r E y z D->M y z)->wpS Z s E Y G {D with nx:=M}):aA Z (.cons s r) E Y G D:=by rw[lY];exact h _ λv v x=>x
def last{Z:aj}{s:Sx}{D:En}(h:wpS Z s E Y G D):aA Z (.cons s .nil) E Y G D:=by rw[lY];exact wpS_mono s (D:=D) (D':={D with nx:=λy z=>aA Z .nil E y z D}) (λy z q=>(show aA Z .nil E y z D from by rw[lX];exact q),λx x q=>q,λx x q=>q,λx x q=>q) h
def done{Z:aj}{D:En}(h:D.nx Y G):aA Z .nil E Y G D:=by rw[lX];exact h
section
variable {Z:aj} {E:EK} {ρ:ao} {G:DH}
def ForG(Z:aj)(t:Tg)(body:Sxs)(E:EK)(D:En)(y:List RF.D)(g:Hld)(ρ:ao)(G:DH):Prop:=
 forLoop (λd z O k=>bC t d z O λJ=>aA Z body E J O {D with nx:=k,ct:=k,bk:=D.nx}) g y ρ G D.nx
theorem aeU{t:Tg}{D:En}:wpS Z (.for_ t it body) E ρ G D=wpI Z it E ρ G λy g G1=>ForG Z t body E D y g ρ G1:=rfl
def ForG.inv{t:Tg}{D:En}{y:List RF.D}(P:Nat->ao->DH->Prop)(h0:P 0 ρ G)(hh:∀i ρ G,P i ρ G->held g G)(hs:∀i d ρ G,y[i]?=-d->P i ρ G->∀J:ao->DH->Prop,(∀z U,P (i+1) z U->J z U)->bC t d ρ G λO=>aA Z body E O G {D with nx:=J,ct:=J,bk:=D.nx})(he:∀ρ G,P y⁻¹ ρ G->D.nx ρ G):ForG Z t body E D y g ρ G:=ab0 P h0 hh hs he
def CompG(Z:aj)(U:Ex)(tg:Tg)(O:Tx)(J:AS)(g:Hld)(ρ:ao)(G:DH)(k:AS->DH->Prop):Prop:=
 compLoop (λd Y G' k'=>bC tg d Y G' λz=>wpT Z O noE z G' λb G2=>match b with|true=>wpE Z U noE z G2 λy G3=>k' (-y) z G3|false=>k' none z G2) g J [] ρ G k
def kE(cap:List (Option Nat))(ρ:ao):ao:=cap.map λo=>match o with|none=>none|some j=>(ρ[j]?).join
theorem aeV:kE [] ρ=[]:=rfl
theorem aeW{cap:List (Option Nat)}:kE (none::cap) ρ=none::kE cap ρ:=rfl
theorem aeX{cap:List (Option Nat)}{j:Nat}:kE (-j::cap) ρ=(ρ[j]?).join::kE cap ρ:=rfl
theorem aeY{fz:Bool}{N:List AL}{cap:List (Option Nat)}{k:AT}:
  wpE Z (.comp fz elt tg it cond N cap) E ρ G k=wpI Z it E ρ G λy g G1=>CompG Z elt tg cond y g (kE cap ρ) G1 λds z=>mk fz ds z k:=rfl
def CompG.inv{k:AS->DH->Prop}(P:Nat->AS->ao->DH->Prop)(h0:P 0 [] ρ G)(hh:∀i z ρ G,P i z ρ G->held g G)(hl:items⁻¹<=sz)(hs:∀i d z ρ G,items[i]?=-d->P i z ρ G->∀U:Option D->ao->DH->Prop,(∀o O Y,P (i+1) (z++o.toList) O Y->U o O Y)->
   bC tg d ρ G λJ=>wpT Z cond noE J G λb G2=>match b with|true=>wpE Z elt noE J G2 λy G3=>U (-y) J G3|false=>U none J G2)(he:∀z ρ G,P items⁻¹ z ρ G->k z G):CompG Z elt tg cond items g ρ G k:=Kf P h0 hh (!!hl) hs he
def CompG.pure{k:AS->DH->Prop}(f:D->Option D)(I:ao->Prop)(h0:I ρ)(hg:held g G)(hl:items⁻¹<=sz)(hs:∀d ρ,d∈items->I ρ->∀O:Option D->ao->DH->Prop,(∀J,I J->O (f d) J G)->bC tg d ρ G λz=>wpT Z cond noE z G λb U=>match b with|true=>wpE Z elt noE z U λy Y=>O (-y) z Y|false=>O none z U)(he:k (items.filterMap f) G):CompG Z elt tg cond items g ρ G k:=Kg g f I h0 hg hl hs he
def CompG.map{k:AS->DH->Prop}(f:D->D)(I:ao->Prop)(h0:I ρ)(hg:held g G)(hl:items⁻¹<=sz)(hs:∀d ρ,d∈items->I ρ->∀O:Option D->ao->DH->Prop,(∀J,I J->O (-(f d)) J G)->bC tg d ρ G λz=>wpT Z cond noE z G λb U=>match b with|true=>wpE Z elt noE z U λy Y=>O (-y) z Y|false=>O none z U)(he:k (items.map f) G):CompG Z elt tg cond items g ρ G k:=ab1 g f I h0 hg hl hs he
end
def len0{y:Type}{l:List y}(h:l⁻¹=0):l=[]:=dQ.mp h
def rW{y:Type}{l:List y}(h:l⁻¹=n+1):∃a r,l=a::r/\r⁻¹=n:=by
 cases l with
 |nil=>cases h
 |cons a r=>exact(a,r,rfl,Nat.succ.inj h)
def dF{y:Type}{l:List y}(h:l⁻¹=1):∃a,l=[a]:=by let(a,r,rfl,h2):=rW h;cases len0 h2;exact(a,rfl)
def bu{y:Type}{l:List y}(h:l⁻¹=2):∃a b,l=[a,b]:=by let(a,r,rfl,h2):=rW h;let(b,rfl):=dF h2;exact(a,b,rfl)
def fB{y:Type}{l:List y}(h:l⁻¹=3):∃a b c,l=[a,b,c]:=by let(a,r,rfl,h2):=rW h;let(b,c,rfl):=bu h2;exact(a,b,c,rfl)
def m5{y:Type}{l:List y}(h:l⁻¹=4):∃a b c d,l=[a,b,c,d]:=by let(a,r,rfl,h2):=rW h;let(b,c,d,rfl):=fB h2;exact(a,b,c,d,rfl)
structure Fo(Z:aj)(P:AK)(w:World)(K:PF)(mg:AH)(base:Heap)(k:Nat)(f:AL)(n:Nat):Prop where
 ex:∃fa fd ps,FnOk P w K mg base (CX1 P w) k fa fd ps (lift K n (Z f))/\PySem.W.keepIn K (.ref fa)=true/\Binds K fd ps []/\mg (⇑f)=some (.ref fa)
section
variable {Z:aj} {P:AK} {w:World} {K:PF} {mg:AH} {base:Heap} {k:Nat} {xs:List (AL×Bool)} {ot:OT}
def AllF(Z:aj)(P:AK)(w:World)(K:PF)(mg:AH)(base:Heap)(k:Nat):List (AL×Nat)->Prop
 |[]=>True
 | (f,n)::r=>Fo Z P w K mg base k f n/\AllF Z P w K mg base k r
def AllB(mg:AH):List AL->Prop
 |[]=>True
 |f::r=>mg (⇑f)=none/\AllB mg r
def AllC(K:PF)(mg:AH):List (AL×D)->Prop
 |[]=>True
 | (x,d)::r=>(∃u v,mg (⇑x)=-u/\RelV v u/\∀H F,Rep K H F d v)/\AllC K mg r
def AllF.get:∀{fs:List (AL×Nat)}{f:AL}{n:Nat},AllF Z P w K mg base k fs->(f,n)∈fs->Fo Z P w K mg base k f n
 | (f',n')::r,f,n,h,m=>by
  rcases bb.mp m with e|m
  .cases e;exact h.1
  .exact AllF.get h.2 m
def AllB.get:∀{fs:List AL}{f:AL},AllB mg fs->f∈fs->mg (⇑f)=none
 |f'::r,f,h,m=>by
  rcases bb.mp m with e|m
  .cases e;exact h.1
  .exact AllB.get h.2 m
def AllC.get:∀{fs:List (AL×D)}{x:AL}{d:D},AllC K mg fs->(x,d)∈fs->∃u v,mg (⇑x)=-u/\RelV v u/\∀H F,Rep K H F d v
 | (f',n')::r,f,n,h,m=>by
  rcases bb.mp m with e|m
  .cases e;exact h.1
  .exact AllC.get h.2 m
def cvB(K:PF)(y:AL):Option V:=match PySem.W.nsIn K mainGlobals (⇑y) with
 |some (-(.ref a))=>if pR K a then some (.ref a) else none
 |some none=>if y=="ValueError" then some (.ty "ValueError") else none
 |_=>none
def xiB(K:PF)(C y:AL)(z:V):Bool:=match PySem.W.nsIn K mainGlobals (⇑C) with
 |some (-(.ref c))=>gB K c&&PySem.W.mroIn K c (valOf z)==-(bF C y)&&(bF C y||!(Value.ref c==valOf z))
 |_=>false
def zH(K:PF)(C:AL):Bool:=match PySem.W.nsIn K mainGlobals (⇑C) with
 |some (-(.ref c))=>iV K c
 |_=>false
def xsB(K:PF)(xs:List (AL×Bool)):Bool:=xs.all λp=>match p.2 with
 |true=>zH K p.1
 |false=>(cvB K p.1).any λy=>xs.all λq=>!q.2||xiB K q.1 p.1 y
def aeZ(X:K.In h)(z:h.Ns mainGlobals mg)(e:xsB K xs)(C:AL)(J:xs.contains (C,true)=true):∃a,mg (⇑C)=-(.ref a)/\iV K a=true/\PySem.W.nsIn K mainGlobals (⇑C)=-(-(.ref a)):=by
 have y:zH K C=true:=cr.mp e _ (bn.mp J);unfold zH at y;split at y
 .rename_i a hn;exact(a,PySem.W.mg_of X z hn,y,hn)
 .cases y
def ae0(X:K.In h)(Gh:h.Ns mainGlobals mg)(e:xsB K xs)(O:AL)(U:xs.contains (O,false)=true):∃J,CV K mg O J/\∀C,xs.contains (C,true)=true->XI K C O J:=by
 have e1:((cvB K O).any λJ=>xs.all λq=>!q.2||xiB K q.1 O J)=true:=cr.mp e _ (bn.mp U);let(J,y,h2):=aQ e1;show(J,?_,λC U=>?_)
 .unfold cvB at y;split at y
  .rename_i a hn;split at y
   .rename_i Y;cases y;exact .inl (a,rfl,PySem.W.mg_of X Gh hn,Y)
   .cases y
  .rename_i hn;split at y
   .rename_i Y;cases y;exact .inr (aw.mp Y,rfl,PySem.W.mg_none_of X Gh hn)
   .cases y
  .cases y
 .have z:(!true||xiB K C O J)=true:=cr.mp h2 _ (bn.mp U);have z:xiB K C O J=true:=z;unfold xiB at z;split at z
  .rename_i c hn;rw[ae,ae,aw]at z;show(c,hn,z.1.1,z.1.2,λhs=>?_);have:=z.2;rw[hs,Bool.false_or,fS]at this;exact this
  .cases z
def bse{fs:List (AL×Nat)}{bt:List AL}{cn:List (AL×D)}(h1:AllF Z P w K mg base k fs)(h2:AllB mg bt)(z:AllC K mg cn)(X:K.In h)(y:h.Ns mainGlobals mg)(e:xsB K xs):Bse Z P w K mg base (CX1 P w) k fs bt cn xs {}:=
 (λx x m=>(h1.get m).ex,λx m=>h2.get m,λx x m=>z.get m,aeZ X y e,ae0 X y e,(λx x x x h=>(nomatch h)),(λx x h=>(nomatch h)),(λx x h=>(nomatch h)),(λx x h=>(nomatch h)))
def zJ{x:AL}{t:Tok}(h:mg (⇑x)=-(.int i t)):∃u v,mg (⇑x)=-u/\RelV v u/\∀H F,Rep K H F (.int i) v:=(_,.int i,h,(t,rfl),λz z=>rfl)
def ae1{x:AL}{l:AA}{s:Str}{t:Tok}(h:mg (⇑x)=-(.str s t))(e:s=tx l)(hl:l⁻¹<=sz):∃u v,mg (⇑x)=-u/\RelV v u/\∀H F,Rep K H F (.str l) v:=(_,.str s,h,(t,rfl),λz z=>(by rw[e],hl))
def zK{S:RF.Spec}(h:∀ds G a,¬S.pre ds G a):FnOk P w K mg base (CX1 P w) k fa fd ps (lift K n S):=
 (λz z z z zZ=>by let(_,_,_,_,_,_,a,y,_):=zZ;exact absurd y (h _ _ a),λz z z z z z z z z z z z z zZ=>by let(_,_,_,_,_,_,a,y,_):=zZ;exact absurd y (h _ _ a))
end
section
variable {Z:aj} {P:AK} {w:World} {K:PF} {mg:AH} {base:Heap} {k j n:Nat} {fs:List (AL×Nat)} {bt:List AL} {cn:List (AL×D)} {xs:List (AL×Bool)} {ot:OT} {x:AL} {S:RF.Spec} {fa:AQ} {fd:AJ} {ps:AD}
def MthOk.mono{m:AL}(h:MthOk Z P w K mg base (CX1 P w) k f C m n)(O:k<=j):MthOk Z P w K mg base (CX1 P w) j f C m n:=by let(c,fa,fd,ps,h1,h2,y,z,J):=h;exact(c,fa,fd,ps,h1,h2,y,z,J.mono O)
def MkoOk.mono(h:MkoOk Z P w K mg base (CX1 P w) k C n)(y:k<=j):MkoOk Z P w K mg base (CX1 P w) j C n:=by let(c,fa,fd,ps,sp,i,h0,h):=h;exact(c,fa,fd,ps,sp,i,cb h0 y,h)
def XkoX.mono(h:XkoX P w K mg base (CX1 P w) k xs C f)(y:k<=j):XkoX P w K mg base (CX1 P w) j xs C f:=by let((c,fa,fd,ps,i,h0,h),h2):=h;exact((c,fa,fd,ps,i,cb h0 y,h),h2)
def Bse.add(B:Bse Z P w K mg base (CX1 P w) k fs bt cn xs ot)(e:Z x=S)(o:FnOk P w K mg base (CX1 P w) (k+j) fa fd ps (lift K n S))(h2:PySem.W.keepIn K (.ref fa))(J:Binds K fd ps [])(O:mg (⇑x)=-(.ref fa)):Bse Z P w K mg base (CX1 P w) (k+j) ((x,n)::fs) bt cn xs ot:=by
 show(λf m y=>?_,B.blt,B.con,B.xcl,B.xis,λf C m n h=>(B.mth f C m n h).mono (dc _ _),λC n h=>(B.mko C n h).mono (dc _ _),B.fld,λC f h=>(B.xko C f h).mono (dc _ _));rcases bb.mp y with z|y
 .cases z;exact(fa,fd,ps,by rw[e];exact o,h2,J,O)
 .let(fa,fd,ps,h1,h):=B.call f m y;exact(fa,fd,ps,h1.mono (dc _ _),h)
def Bse.step(B:Bse Z P w K mg base (CX1 P w) k fs bt cn xs ot)(F:Fun K (⇑x) qual st fa fd)(y:Binds K fd ps [])(z:mg (⇑x)=-(.ref fa))(e:Z x=S)(m:Nat)(hs:fnB N ps (aB st))(hc:aC (aG N (aB st) fs bt cn xs ot) body (aD st)=true)(hn:ps⁻¹=n)(J:N⁻¹=n+m)(hw:∀ds G a,ds⁻¹=n->S.pre ds G a->aA Z body noE (env0 ds m) G (ends (S.post a))):Bse Z P w K mg base (CX1 P w) (k+1) ((x,n)::fs) bt cn xs ot:=
 B.add e (mY F B S n m hs hc hn J hw) F.kp y z
def Bse.stepX(B:Bse Z P w K mg base (CX1 P w) k fs bt cn xs ot)(F:Fun K (⇑x) qual st fa fd)(y:Binds K fd ps [])(z:mg (⇑x)=-(.ref fa))(e:Z x=S)(m:Nat)(hs:fnB N ps (aB st))(hc:aC (aG N (aB st) fs bt cn xs ot) body (aD st)=true)(hn:ps⁻¹=n)(J:N⁻¹=n+m)(hw:∀ds G a,ds⁻¹=n->S.pre ds G a->aA Z body (S.exc a) (env0 ds m) G (ends (S.post a))):Bse Z P w K mg base (CX1 P w) (k+1) ((x,n)::fs) bt cn xs ot:=
 B.add e (abZ F B S n m hs hc hn J hw) F.kp y z
def Bse.addX(B:Bse Z P w K mg base (CX1 P w) k fs bt cn xs ot)(o:XkoX P w K mg base (CX1 P w) (k+j) xs C f):Bse Z P w K mg base (CX1 P w) (k+j) fs bt cn xs {ot with xk:=(C,f)::ot.xk}:=by
 show(λf m y=>?_,B.blt,B.con,B.xcl,B.xis,λf C m n h=>(B.mth f C m n h).mono (dc _ _),λC n h=>(B.mko C n h).mono (dc _ _),B.fld,λz O y=>?_)
 .let(fa,fd,ps,h1,h):=B.call f m y;exact(fa,fd,ps,h1.mono (dc _ _),h)
 .rcases bb.mp y with J|y
  .cases J;exact o
  .exact (B.xko z O y).mono (dc _ _)
def iG(Z:aj)(x:AL)(S:RF.Spec):aj:=λf=>if f=x then S else Z f
def kI{y:AL}(e:Z y=S){z:RF.Spec}(h:(y==x)=false):iG Z x z y=S:=by unfold iG;rw[if_neg (!!h)];exact e
def Bse.self(B:Bse Z P w K mg base (CX1 P w) k fs bt cn xs {})(z:(fs.map (·.1)).contains x=false)(o:FnOk P w K mg base (CX1 P w) (k+j) fa fd ps (lift K n S))(h2:PySem.W.keepIn K (.ref fa))(O:Binds K fd ps [])(U:mg (⇑x)=-(.ref fa)):Bse (iG Z x S) P w K mg base (CX1 P w) (k+j) ((x,n)::fs) bt cn xs {}:=by
 show(λf m hm=>?_,B.blt,B.con,B.xcl,B.xis,(λv v v v h=>(nomatch h)),(λv v h=>(nomatch h)),(λv v h=>(nomatch h)),(λv v h=>(nomatch h)));rcases bb.mp hm with J|y
 .cases J;exact(fa,fd,ps,by unfold iG;rw[if_pos rfl];exact o,h2,O,U)
 .let(fa,fd,ps,h1,h):=B.call f m y;have Y:f≠x:=by
   rintro rfl;rw[<-Bool.not_eq_true,bn]at z;exact z (bX.mpr ((f,m),y,rfl))
  exact(fa,fd,ps,by unfold iG;rw[if_neg Y];exact h1.mono (dc _ _),h)
end
def ae2{S:RF.Spec}(Y:∀(ns:List Int)(G:DH),ns⁻¹<=63->∃a,S.pre [.scr ns] G a/\(∀d y,S.post a d y->d=.bl true)/\∀x y,¬S.exc a x y)(K:PF)(H:Hp)(a:AQ)(ns:List Int)(hl:ns⁻¹<=63)(U:Only H)(hs:SqL K H a (ns.map V.int)):
  lift K 1 S [.ref a] H (λv t=>v=.bl true) λt t t=>False:=by
 let(b,h1,h2,O):=Y ns (λt=>none) hl;show(rfl,λt=>False,λt=>none,[.scr ns],(λt f=>f.elim,λt t e=>by cases e),(.ref a,[],rfl,(a,rfl,?_),rfl),b,h1,λd y q H' F' v t t J=>?_,λx y q=>absurd q (O x y))
 .rcases hs with(h|h)|h
  .exfalso;rcases U a with z|⟨o,u,z⟩
   .rw[z]at h;cases h
   .rw[z]at h;cases h
  .exact .inl h
  .exact .inr h
 .rw[h2 d y q]at J;exact J
def ae3{pre:AS->DH->Prop}(h:∀(ns:List Int)(G:DH),ns⁻¹<=63->pre [.scr ns] G):∀(ns:List Int)(G:DH),ns⁻¹<=63->∃a,(bN pre (λv v d v=>d=.bl true)).pre [.scr ns] G a/\(∀d y,(bN pre (λv v d v=>d=.bl true)).post a d y->d=.bl true)/\∀x y,¬(bN pre (λv v d v=>d=.bl true)).exc a x y:=
 λns G hl=>(([.scr ns],G),(rfl,h ns G hl),λv v q=>q,λv v z=>z)
def ghS{A:Type}(pre:A->AS->DH->Prop)(post:A->DH->D->DH->Prop):RF.Spec where
 A:=A×DH
 pre:=λds G a=>a.2=G/\pre a.1 ds G
 post:=λa d y=>post a.1 a.2 d y
 exc:=λz z z=>False
def fG{A:Type}{pre:A->AS->DH->Prop}{post:A->DH->D->DH->Prop}{k:AT}(a:A)(h:pre a ds G)(J:∀d y,post a G d y->k d y):(ghS pre post).t ds G k E:=
 ((a,G),(rfl,h),J,λx x z=>z.elim)
def fH{A:Type}{Z:aj}{pre:A->AS->DH->Prop}{post:A->DH->D->DH->Prop}(h:∀a ds G,pre a ds G->aA Z body noE (env0 ds m) G (ends (post a G))):
  ∀ds G a,ds⁻¹=n->(ghS pre post).pre ds G a->aA Z body noE (env0 ds m) G (ends ((ghS pre post).post a)):=by
 rintro ds G ⟨a,y⟩ _ ⟨rfl,h1⟩;exact h a ds _ h1
def cj{A:Type}(args:A->AS)(ok:A->Prop)(val:A->D):RF.Spec:=ghS (λa ds z=>ds=args a/\ok a) (λa G d y=>y=G/\d=val a)
def cL{A:Type}{args:A->AS}{ok:A->Prop}{val:A->D}{k:AT}(a:A)(e:ds=args a)(h:ok a)(J:k (val a) G):(cj args ok val).t ds G k E:=
 fG a (e,h) λd O zZ=>by let(y,z):=zZ;subst y z;exact J
def cM{A:Type}{Z:aj}{args:A->AS}{ok:A->Prop}{val:A->D}(h:∀a G,ok a->aA Z body noE (env0 (args a) m) G (ends λd y=>y=G/\d=val a)):
  ∀ds G a,ds⁻¹=n->(cj args ok val).pre ds G a->aA Z body noE (env0 ds m) G (ends ((cj args ok val).post a)):=
 fH λa ds G zZ=>by let(e,h1):=zZ;subst e;exact h a G h1
def rY(c:CT)(S f:AL)(y:Ex)(ss:AF):Bool:=(two ss).any λs=>az (yP s.1) λu=>az (mH u.1) λt=>az (j5 t.1) λv=>az (asName v.1) λn=>(two t.2.1).any λg=>az (gO s.2) λa=>(one a.1).any λtg=>az (j5 tg) λr=>
 t.2.2.1.isEmpty&&(n.1==⇑S&&c.glo n.1&&v.2.1==⇑"__init__"&&(v.2.2.endLine==t.2.2.2.line)&&aa c (.var 0) g.1&&aa c y g.2&&aa c (.var 0) r.1&&r.2.1==⇑f&&aa c (.var 1) a.2.1&&!dm a.2.1)
def ae4{c:CT}{S:AL}{ss:AF}(h:rY c S f msg ss):∃y yp m apos J O cpos p1 o n p e pos,ss=[.Expr (.Call (.Attribute (.Name y yp) m apos) [J,O] [] cpos) p1,.Assign [.Attribute o n p] e pos]/\
  (y==⇑S&&c.glo y&&m==⇑"__init__"&&(apos.endLine==cpos.line)&&aa c (.var 0) J&&aa c msg O&&aa c (.var 0) o&&n==⇑f&&aa c (.var 1) e&&!dm e)=true:=by
 unfold rY at h;let(s,hs,h):=aQ h;let(u,hu,h):=aJ h;let(t,ht,h):=aJ h;let(v,hv,h):=aJ h;let(n,hn,h):=aJ h;let(g,Y,h):=aQ h;let(a,U,h):=aJ h;let(tg,z,h):=aQ h;let(r,hr,h):=aJ h;rw[ae,ka]at h;exact(_,_,_,_,_,_,_,_,_,_,_,_,_,by rw[jk hs,hu,ht,hv,hn,jk Y,U,cP z,hr,h.1],h.2)
section
variable {Z:aj} {P:AK} {w:World} {K:PF} {mg:AH} {base:Heap} {k:Nat} {fs:List (AL×Nat)} {bt:List AL} {cn:List (AL×D)} {xs:List (AL×Bool)} {ot:OT}
def ae5{S:AL}{nm:Str}{c s0:AQ}(B:Bse Z P w K mg base (CX1 P w) k fs bt cn xs ot)(Fu:Fun K nm qual st fa fd)(hb:Binds K fd ps [])(hmg:mg (⇑C)=-(.ref c))(hns:PySem.W.nsIn K mainGlobals (⇑C)=-(-(.ref c)))(hcl:ik K c fa)(hfn:PySem.W.typeIn K (.ref fa)=-(.type "function"))(hkp:PySem.W.keepIn K (.ref c))(hxi:gB K c=true/\PySem.W.hasDictIn K c=true/\PySem.W.findIn K (.ref c) (⇑f)=-none)(hst:pY K c (⇑f))(hS:mg (⇑S)=-(.ref s0))(hsi:lM K s0)(hs:fnB N ps (aB st))(hc:rY (aG N (aB st) fs bt cn xs ot) S f msg (aD st)=true)(hn:ps⁻¹=2)(hm:N⁻¹=2)(hw:∀a d G (kk:AT),okA d->(∀y,kk y G)->wpE Z msg noE [-(.ref a),-d] G kk):JG P w K mg base (CX1 P w) (k+2) C f:=by
 show(c,fa,fd,ps,k+1,ay _,hmg,hns,hcl,hfn,hkp,hxi,hb,?_);obtain⟨y,yp,m,apos,e1,e2,cpos,p1,o,n,p,e,pos,eb,h⟩:=ae4 hc;simp only[ae,aw,fS]at h;obtain⟨⟨⟨⟨⟨⟨⟨⟨⟨ey,hg⟩,em⟩,hl⟩,c1⟩,c2⟩,c3⟩,en⟩,c4⟩,c5⟩:=h;subst ey em en;obtain⟨g1,g2⟩:=cR hg;show Fu.okX (rQ hs) (λvs H Q E h=>by obtain⟨a,b,l,d,F,G,rfl,_⟩:=h;rw[hn];rfl) λcdv A outer s H vs Q EX hr hsp=>?_;obtain⟨a,b,l,d,F,G,rfl,ha,nf,r,rb,hok,q⟩:=hsp;have St:Stat Z (CX1 P w) k (aG N (aB st) fs bt cn xs ot) noE (H,F) (dg (CX1 P w) P w K mg base N qual (aB st) fa cdv A outer s H EX):=Ke B hs hr λx G' H' F' hx e r'=>hx.elim;rw[eb];have sv1:=cQ (bR (.var 0) c1);have sv2:=cQ (bR msg c2);show(_,CJ (CN (Yn (pl:=_) hsi hcl (St.glo _ g1) hS (dI (aF _ St c1) (dI (aF _ St c2) fQ (bH _ _ _ sv2)) (bH _ _ _ sv1)) (bJ g2) (bH _ _ _ sv1) (by rw[bH _ _ _ sv2];rfl) (abk rfl ?_ (aw.mpr hl))) (mW rfl _ _ _)) (vL (Yo hst (aF _ St c3) (aF _ St c4) (mW c5 _ _ _))),?_)
 .unfold methodCallForm;rw[bH _ _ _ sv1,bH _ _ _ sv2];rfl
 have e2:L2.start N [V.ref a,b]=[-(V.ref a),-b]:=by unfold L2.start;rw[show N⁻¹ - [V.ref a,b]⁻¹=0 by rw[hm];rfl];rfl
 rw[e2];obtain⟨r1,x1⟩:=r.holdX ha;have he:EnvR K H (λz=>F z\/z=a) [-(.ref a),-d] [-(V.ref a),-b]:=(_,_,rfl,λd' hd=>(_,rfl,by cases hd;rfl),_,_,rfl,λd' hd=>(_,rfl,by cases hd;exact rb.ext x1),rfl);have nf':∀z,F z->z≠a:=λz hz e=>nf (by rw[<-e];exact hz);show aP (x:=.var 0) (E:=noE) (Y:=[-(.ref a),-d]) (G:=G) (W:=λy G3=>y=.ref a/\G3=G) x1 he r1 (rfl,rfl) ?_;rintro y0 G3 H1 F1 v1 ⟨ey,J⟩ e1 y1 he1 r1' rv1;have J:=J.symm;subst ey J;show aP (x:=msg) (E:=noE) (Y:=[-(.ref a),-d]) (G:=G) (W:=λy G3=>G3=G) e1 he1 r1' (hw a d G _ hok λv=>rfl) ?_;rintro ym G4 H2 F2 v2 J U y2 he2 r2 rv2;have J:=J.symm;subst J;have ev1:v1=.ref a:=rv1;subst ev1;have y12:=y1.trans y2;have O:H2 a=-(.ext (cO a c l none)):=(y12.keep a (.inr rfl)).trans ha;show(a,l,v2,rfl,O,λl'=>?_);have r3:=r2.setX (ho:=.ext (cO a c l' none)) O;have he3:=he2.setX (ho:=.ext (cO a c l' none)) O;have e3:Ext H F (upd H2 a (.ext (cO a c l' none))) F2:=by
  show(U.sub,λz hz=>?_,λz ys hz=>?_,λz o' u' hz=>?_)
  .rw[aH (nf' z hz)];exact U.keep z hz
  .have q':=U.tups z ys hz;rw[aH (dz q' O (by intro w;cases w))];exact q'
  .have q':=U.frzs z o' u' hz;rw[aH (dz q' O (by intro w;cases w))];exact q'
 show aP (x:=.var 1) (E:=noE) (Y:=[-(.ref a),-d]) (G:=G) (W:=λy G3=>y=d/\G3=G) e3 he3 r3 (rfl,rfl) ?_;rintro y5 G5 H3 F3 v3 ⟨ey,J⟩ e4 y4 he4 r4 rv4;have ey:=ey.symm;have J:=J.symm;subst ey J;show aP (x:=.var 0) (E:=noE) (Y:=[-(.ref a),-d]) (G:=G) (W:=λy G3=>y=.ref a/\G3=G) e4 he4 r4 (rfl,rfl) ?_;rintro y6 G6 H4 F4 v6 ⟨ey,J⟩ e5 y5 he5 r5 rv5;have J:=J.symm;subst ey J;have ev6:v6=.ref a:=rv5;subst ev6;have y45:=y4.trans y5;have hF2:F2 a:=y12.sub a (.inr rfl);have ha4:H4 a=-(.ext (cO a c l' none)):=(y45.keep a hF2).trans cu;have eb:v3=b:=by
  unfold okA at hok;split at hok
  .exact (show v3=.int _ from rv4).trans (show b=.int _ from rb).symm
  .exact (show v3=.str _ from rv4.1).trans (show b=.str _ from rb.1).symm
  .exact hok.elim
 subst eb;show(a,l',rfl,ha4,λdx od ob hdx hne hoc hod hnc hl=>?_);exact q H4 F4 dx od ob l' e5 r5 ha4 hdx hne hoc hod hnc hl
def Ky(K:PF)(xs:List (AL×Bool))(C:AL):Bool:=xs.all λp=>p.2||(cvB K p.1).any λy=>xiB K C p.1 y
def ae6(X:K.In h)(Gh:h.Ns mainGlobals mg)(e:Ky K xs C):∀O U,xs.contains (O,false)=true->CV K mg O U->XI K C O U:=by
 intro O U hC Y;have e1:(false||(cvB K O).any λU=>xiB K C O U)=true:=cr.mp e _ (bn.mp hC);rw[Bool.false_or]at e1;let(cv0,y,J):=aQ e1;have ev:cv0=U:=by
  unfold cvB at y;split at y
  .rename_i a hn;split at y
   .cases y;have hm:=PySem.W.mg_of X Gh hn;rcases Y with⟨a1,rfl,z,_⟩|⟨_,_,z⟩
    .rw[hm]at z;cases z;rfl
    .rw[hm]at z;cases z
   .cases y
  .rename_i hn;split at y
   .cases y;have hm:=PySem.W.mg_none_of X Gh hn;rcases Y with⟨a1,rfl,z,_⟩|⟨_,rfl,_⟩
    .rw[hm]at z;cases z
    .rfl
   .cases y
  .cases y
 subst ev;unfold xiB at J;split at J
 .rename_i c hn;rw[ae,ae,aw]at J;show(c,hn,J.1.1,J.1.2,λhs=>?_);have:=J.2;rw[hs,Bool.false_or,fS]at this;exact this
 .cases J
theorem ae7{l r:AA}{a:AQ}{d:D}{J:AT}(h:okA d)(q:∀y,J y G)(hl:l⁻¹<=1000:=by decide)(z:r⁻¹<=1000:=by decide):
  wpE Z (.fst (.cons (.cst (.str l)) (.cons (.var 1) (.cons (.cst (.str r)) .nil)))) noE [-(.ref a),-d] G J:=by
 rw[qC,iy,eZ];show(hl,?_);rw[iy];unfold okA at h;split at h
 .rename_i i;show((h,?_):(0<=i/\i<100)/\_);rw[iy,eZ];show(z,?_);rw[lZ];show(?_,q _);have h2:(fU i.toNat)⁻¹<=3:=digits_le (i.toNat,!0);simp only[ax,eM];have:sz=1000000:=rfl;lia
 .rename_i m;show((h,?_):m⁻¹<=1000/\_);rw[iy,eZ];show(z,?_);rw[lZ];show(?_,q _);simp only[ax,eM];have:sz=1000000:=rfl;lia
 .exact h.elim
end
section
local macro_rules|`(#[])=>`(.nil)|`(#[$x])=>`(.cons $x .nil)|`(#[$x,$y,*])=>`(.cons $x #[$y,*])
local macro_rules|`(-$x)=>`(.var $x)
local macro_rules|`(¬$x)=>`(.cst (.int $x))
local macro_rules|`(!$x)=>`(.cst (.str $x))
local macro_rules|`($x<|$y)=>`(.call $x $y)
def zL:Sxs:=#[.set (-0) (¬2) (¬0),.ret (-0)]
def zM:Sxs:=#[.asg (.nm 1) (![]),.for_ (.nm 2) (.rng (.bcl .len #[.idx (-0) (¬0)])) #[.asg (.nm 3) (.srs true (.comp true (.idx (-0) (-1)) (.nm 0) (.seq (-0)) .yes ["word","at"] [none,some 2])),.asg (.nm 1) (.bin .Add true (-1) (.idx (.lst true #[![42],.idx (-3) (¬0)]) (.bcl .int #[.cmp .Eq (.bcl .len #[-3]) (¬1)])))],.ret (-1)]
def zN:Sxs:=#[.asg (.nm 1) (¬1),.for_ (.nm 2) (.seq (-0)) #[.asg (.nm 1) (.bin .Mult true (-1) (.bin .Add true (¬1) (.bcl .int #[.cmp .Eq (-2) (![42])])))],.ret (-1)]
def zO:Sxs:=#[.asg (.nm 1) (.lst true #[![]]),.for_ (.nm 2) (.seq (-0)) #[.asg (.nm 3) (.lst false #[]),.for_ (.nm 4) (.seq (-1)) #[.exp (.mth .extend (-3) #[.comp true (.bin .Add true (-1) (-0)) (.nm 0) (.seq (.idx (.lst true #[![48,49],-2]) (.bcl .int #[.cmp .NotEq (-2) (![42])]))) .yes ["one","text"] [none,some 4]])],.asg (.nm 1) (.frz (-3))],.ret (-1)]
def zP:Sxs:=#[.asg (.nm 2) (.srs true (.bin .Add true ("_law_words"<|#[-0]) ("_law_words"<|#[-1]))),.asg (.nm 3) ("_law_form_of"<|#[-2]),.ite (.val (.cmp .Gt ("_law_many_words"<|#[-3]) (.bcl .len #[-2]))) #[.ret (.cst .non)] #[],.ret (-3)]
def zQ:Sxs:=#[.asg (.tp #[.nm 4,.nm 5]) (-0),.asg (.nm 6) ("_law_joined"<|#[.idx (.idx (-5) (-1)) (¬0),.idx (.idx (-5) (-2)) (¬0)]),.ite (.boo false (.val (.cmp .GtE (-1) (-2))) #[.val (.cmp .NotEq (.idx (.idx (-5) (-1)) (¬1)) (.idx (.idx (-5) (-2)) (¬1))),.val (.cmp .Is (-6) (.cst .non))]) #[.ret (.cst .non)] #[],.asg (.nm 7) (.comp false (.idx (-1) (-0)) (.nm 0) (.rng (.bcl .len #[-5])) .yes ["k","rows"] [none,some 5]),.set (-7) (-3) (.tup #[-6,.idx (.idx (-5) (-3)) (¬1)]),.ret (.tup #[-4,.bcl .tuple #[.comp true (.idx (-1) (-0)) (.nm 0) (.rng (.bcl .len #[-5])) (.boo false (.val (.cmp .Eq (-0) (-2))) #[.val (.cmp .NotIn (-0) (.tup #[-3,-4]))]) ["k","found","at","one","other"] [none,some 7,some 3,some 1,some 2]]])]
def zR:Sxs:=#[.for_ (.tp #[.nm 2,.nm 3]) (.zip (-0) (-1)) #[.ite (.boo true (.val (.cmp .NotEq (-2) (![42]))) #[.val (.cmp .NotEq (-2) (-3))]) #[.ret (.cst (.bl false))] #[]],.ret (.cst (.bl true))]
def zT:Sxs:=#[.for_ (.tp #[.nm 2,.nm 3]) (.enm (.idx (-0) (¬1))) #[.ite (.val ("_law_fits"<|#[.idx (-3) (¬0),-1])) #[.ret (-2)] #[]],.ret (.cst .non)]
def zU:Sxs:=#[.asg (.nm 2) ("_law_met"<|#[-0,-1]),.ite (.val (.cmp .Is (-2) (.cst .non))) #[.ret (.cst .non)] #[],.ret (.idx (.idx (.idx (-0) (¬1)) (-2)) (¬1))]
def zV:Sxs:=#[.for_ (.nm 2) (.seq ("_law_words"<|#[.bin .Mult true (![42]) (.idx (-0) (¬0))])) #[.ite (.val (.cmp .NotEq ("_law_deed"<|#[-0,-2]) ("_law_deed"<|#[-1,-2]))) #[.ret (-2)] #[]],.ret (.cst .non)]
def zW:Sxs:=#[.ite (.val (.cmp .GtE (-1) (-2))) #[.ret (.tup #[![106,111,105,110],.cst .non])] #[],.asg (.nm 4) ("_law_made"<|#[-0,-1,-2,-3]),.ite (.val (.cmp .Is (-4) (.cst .non))) #[.ret (.tup #[![106,111,105,110],.cst .non])] #[],.asg (.nm 5) ("_law_parting"<|#[-0,-4]),.ret (.ife (.val (.cmp .Is (-5) (.cst .non))) (.tup #[![98,111,111,107],-4]) (.tup #[![116,117,114,110,101,100],-5]))]
def zX:Sxs:=#[.ite (.val (.cmp .GtE (-0) (.bin .Pow true (¬10) (¬18)))) #[.ret (-0)] #[],.asg (.nm 2) (.bin .Mod true (.bin .Add true (.bin .Add true (.bin .Mult true (.bin .Mod true (-0) (¬1000000007)) (¬69069)) (.bin .Mult true (-1) (¬40503))) (¬977)) (¬2147483629)),.asg (.nm 3) (.bin .Mod true (.bin .Add true (.bin .Add true (.bin .Mult true (-2) (-2)) (.bin .Mult true (-1) (¬7919))) (.bin .Mod true (-0) (¬65537))) (¬2147483587)),.asg (.nm 4) (.bin .Mod true (.bin .Add true (.bin .Add true (.bin .Mult true (-3) (-3)) (.bin .Mult true (-2) (¬31))) (¬5)) (¬2147483563)),.ret (.bin .Add true (.bin .Mult true (.bin .Add true (.bin .Mult true (-2) (¬2147483659)) (-3)) (¬2147483693)) (-4))]
def zY:Sxs:=#[.ite (.val (.cmp .Lt (.idx (-0) (¬2)) (-1))) #[.asg (.nm 2) (.idx (-0) (¬1)),.asg (.nm 3) (¬0),.ite (.val (.cmp .Lt (-2) (.bcl .len #[.idx (-0) (¬0)]))) #[.asg (.nm 3) (.idx (.idx (-0) (¬0)) (-2))] #[.ite (.val (.cmp .Gt (.bcl .len #[.idx (-0) (¬0)]) (¬0))) #[.asg (.nm 3) (.bin .Mod true (.idx (.idx (-0) (¬0)) (.bin .Mod true (.bin .Add true (.bin .Mult true (-2) (¬5)) (¬3)) (.bcl .len #[.idx (-0) (¬0)]))) (.bin .Add true (.bin .Pow true (¬10) (¬17)) (-2)))] #[]],.set (-0) (¬1) (.bin .Add true (-2) (¬1)),.set (-0) (¬2) ("_law_spread"<|#[-3,-2])] #[],.asg (.nm 4) (.bin .Mod true (.idx (-0) (¬2)) (-1)),.set (-0) (¬2) (.bin .FloorDiv true (.idx (-0) (¬2)) (-1)),.ret (-4)]
def zZ:Sxs:=#[.ret (.mth .join (![]) #[.comp true (.idx (-1) ("_law_take"<|#[-2,.bcl .len #[-1]])) (.nm 0) (.rng (-1)) .yes ["at","signs","pen"] [none,some 2,some 0]])]
def z6:Sxs:=#[.asg (.nm 2) (.lst true #[![97],![103,111],![115,116,97,121],![97,98,99,100,101,102,103,104],![110,111,110,101],![121,101,115],![105,110],![111,117,116],![107,101,101,112],![119,111,114,100],![122,122]]),.asg (.nm 3) ("_law_take"<|#[-0,¬11]),.asg (.nm 4) (.comp true (.idx (-1) (.bin .Mod true (.bin .Add true (-2) (.bin .Mult true (¬3) (-0))) (¬11))) (.nm 0) (.rng (.bin .Add true (¬1) ("_law_take"<|#[-0,-1]))) .yes ["k","some","turn"] [none,some 2,some 3]),.ite (.val (.cmp .Eq ("_law_take"<|#[-0,¬3]) (¬0))) #[.asg (.nm 5) (![97,98,99,100,101,102,103,104,105,106,107,108,109,110,111,112,113,114,115,116,117,118,119,120,121,122]),.asg (.nm 4) (.comp true ("_law_signs"<|#[-1,.bin .Add true (¬1) ("_law_take"<|#[-1,¬8]),-2]) (.nm 0) (.seq (-4)) .yes ["one","pen","letters"] [none,some 0,some 5])] #[],.ret (-4)]
def z7:Sxs:=#[.ret ("_law_signs"<|#[-0,-1,.idx (.lst true #[![48,49,42],![48,49,42,42],![48,49,42,42,42,42],![48,42],![48,49]]) ("_law_take"<|#[-0,¬5])])]
def z8:Sxs:=#[.asg (.nm 2) (![]),.for_ (.nm 3) (.seq (-1)) #[.ite (.val (.cmp .Eq ("_law_take"<|#[-0,¬3]) (¬0))) #[.asg (.nm 3) (![42])] #[],.asg (.nm 2) (.bin .Add true (-2) (-3))],.ret (-2)]
def z9:Sxs:=#[.asg (.nm 2) (![]),.for_ (.nm 3) (.seq (-1)) #[.ite (.boo true (.val (.cmp .Eq (-3) (![42]))) #[.val (.cmp .Eq ("_law_take"<|#[-0,¬2]) (¬0))]) #[.asg (.nm 3) (.idx (![48,49]) ("_law_take"<|#[-0,¬2]))] #[],.asg (.nm 2) (.bin .Add true (-2) (-3))],.ret (-2)]
def Aa:Sxs:=#[.asg (.nm 3) ("_law_take"<|#[-0,¬7]),.ite (.boo false (.val (.cmp .Eq (-2) (.lst true #[]))) #[.val (.cmp .Lt (-3) (¬2))]) #[.ret ("_law_form"<|#[-0,-1])] #[],.asg (.nm 4) (.idx (-2) ("_law_take"<|#[-0,.bcl .len #[-2]])),.ite (.val (.cmp .Eq (-3) (¬2))) #[.ret (-4)] #[],.ite (.val (.cmp .Lt (-3) (¬5))) #[.asg (.nm 5) ("_law_take"<|#[-0,-1]),.ret (.bin .Add true (.bin .Add true (.slc true (-4) .no (.ob (-5))) (.idx (![48,49,42]) ("_law_take"<|#[-0,¬3]))) (.slc true (-4) (.ob (.bin .Add true (-5) (¬1))) .no))] #[],.ite (.val (.cmp .Eq (-3) (¬5))) #[.ret ("_law_within"<|#[-0,-4])] #[],.ret ("_law_wider"<|#[-0,-4])]
def Ab:Sxs:=#[.asg (.nm 3) (.bin .Add true (¬1) ("_law_take"<|#[-0,-1])),.asg (.nm 4) ("_law_deeds_of"<|#[-0,¬3]),.asg (.nm 5) (.lst false #[]),.asg (.nm 6) (.lst false #[]),.for_ (.nm 7) (.rng ("_law_take"<|#[-0,.bin .Add true (-2) (¬1)])) #[.exp (.mth .append (-5) #["_law_form_like"<|#[-0,-3,-5]]),.exp (.mth .append (-6) #[.tup #[.idx (-5) (.neg (¬1)),.idx (-4) ("_law_take"<|#[-0,.bcl .len #[-4]])]])],.ret (.tup #[-3,.bcl .tuple #[-6]])]
def Ac:Sxs:=#[.ret (.cmp .Eq (.comp true (¬1) (.tp #[.nm 0,.nm 1]) (.zip (-0) (-1)) (.val (.cmp .In (.bin .Add true (-0) (-1)) (.tup #[![48,49],![49,48]]))) ["one","two"] [none,none]) (.lst true #[]))]
def Ad:Sxs:=#[.asg (.nm 2) ("_law_take"<|#[-0,.bcl .len #[-1]]),.asg (.tp #[.nm 3,.nm 4]) (.idx (-1) (-2)),.asg (.nm 5) (.comp true (-0) (.nm 0) (.rng (.bcl .len #[-3])) (.val (.cmp .Eq (.idx (-1) (-0)) (![42]))) ["place","form"] [none,some 3]),.asg (.nm 6) ("_law_take"<|#[-0,¬5]),.ite (.boo true (.val (.cmp .Eq (-6) (¬0))) #[.val (.cmp .NotEq (-5) (.lst true #[]))]) #[.asg (.nm 7) (.idx (-5) ("_law_take"<|#[-0,.bcl .len #[-5]])),.asg (.nm 8) (.comp true (.tup #[.bin .Add true (.bin .Add true (.slc true (-2) .no (.ob (-3))) (-0)) (.slc true (-2) (.ob (.bin .Add true (-3) (¬1))) .no),-1]) (.nm 0) (.seq (.idx (.lst true #[![48,49],![49,48]]) ("_law_take"<|#[-0,¬2]))) .yes ["sign","one","form","place"] [none,some 4,some 3,some 7]),.ret (.bin .Add true (.bin .Add true (.slc true (-1) .no (.ob (-2))) (-8)) (.slc true (-1) (.ob (.bin .Add true (-2) (¬1))) .no))] #[],.ite (.val (.cmp .Eq (-6) (¬1))) #[.asg (.nm 7) (.bin .Add true (.bin .Add true (-2) (¬1)) ("_law_take"<|#[-0,.bin .Sub true (.bcl .len #[-1]) (-2)])),.ret (.bin .Add true (.bin .Add true (.slc true (-1) .no (.ob (-7))) (.lst true #[.tup #["_law_within"<|#[-0,-3],.idx (.idx (-1) ("_law_take"<|#[-0,.bcl .len #[-1]])) (¬1)]])) (.slc true (-1) (.ob (-7)) .no))] #[],.ite (.val (.cmp .Eq (-6) (¬2))) #[.ret (.bin .Add true (.bin .Add true (.slc true (-1) .no (.ob (-2))) (.lst true #[.tup #["_law_within"<|#[-0,-3],-4]])) (.slc true (-1) (.ob (-2)) .no))] #[],.ite (.boo true (.val (.cmp .Lt (.bin .Add true (-2) (¬1)) (.bcl .len #[-1]))) #[.boo false (.val (.cmp .Eq (.idx (.idx (-1) (.bin .Add true (-2) (¬1))) (¬1)) (-4))) #[.not (.val ("_law_meet"<|#[-3,.idx (.idx (-1) (.bin .Add true (-2) (¬1))) (¬0)]))]]) #[.ret (.bin .Add true (.bin .Add true (.slc true (-1) .no (.ob (-2))) (.lst true #[.idx (-1) (.bin .Add true (-2) (¬1)),.idx (-1) (-2)])) (.slc true (-1) (.ob (.bin .Add true (-2) (¬2))) .no))] #[],.ret (-1)]
def Ae:Sxs:=#[.asg (.nm 3) (.lcl true .list #[.idx (-1) (¬1)]),.for_ (.nm 4) (.rng (.bin .Mult true (-2) (.bcl .int #[.cmp .NotEq (-3) (.lst true #[])]))) #[.ite (.val (.cmp .Lt (.bcl .len #[-3]) (¬12))) #[.asg (.nm 3) ("_law_one_turning"<|#[-0,-3])] #[]],.ret (.tup #[.idx (-1) (¬0),.bcl .tuple #[-3]])]
def Af:Sxs:=#[.asg (.nm 3) ("_law_book"<|#[-0,-1,-2]),.ret ("_law_turned_alike"<|#[-0,-3,"_law_take"<|#[-0,¬5]])]
def Ag:Sxs:=#[.asg (.nm 1) (.lcl false .list #[.slc true (-0) .no (.ob (¬12))]),.for_ (.tp #[.nm 2,.nm 3]) (.enm (.slc true (-0) (.ob (¬12)) (.ob (¬63)))) #[.set (-1) (.bin .Mod true (-2) (¬12)) (.bin .Add true (.idx (-1) (.bin .Mod true (-2) (¬12))) (-3))],.ret (.lst false #[.frz (-1),¬0,¬0])]
def kJ:Sxs:=#[.ite (.val (.cmp .Is (-1) (.cst .non))) #[.ret (.cmp .Is (-0) (.cst .non))] #[],.ite (.boo false (.val (.isi (-1) "bool")) #[.val (.isi (-0) "bool")]) #[.ret (.boo true (.isi (-1) "bool") #[.isi (-0) "bool",.cmp .Eq (-0) (-1)])] #[],.ite (.val (.isi (-1) "int")) #[.ret (.boo true (.isi (-0) "int") #[.cmp .Eq (-0) (-1)])] #[],.ite (.val (.isi (-1) "str")) #[.ret (.boo true (.isi (-0) "str") #[.cmp .Eq (-0) (-1)])] #[],.ite (.boo false (.val (.cmp .NotEq (.isi (-1) "tuple") (.isi (-0) "tuple"))) #[.val (.cmp .NotEq (.isi (-1) "list") (.isi (-0) "list"))]) #[.ret (.cst (.bl false))] #[],.ite (.val (.cmp .NotEq (.bcl .len #[-0]) (.bcl .len #[-1]))) #[.ret (.cst (.bl false))] #[],.ret (.cmp .NotIn (.cst (.bl false)) (.comp true ("_law_same"<|#[-0,-1]) (.tp #[.nm 0,.nm 1]) (.zip (-0) (-1)) .yes ["one","other"] [none,none]))]
def m6:Sxs:=#[.ret (.boo true (.isi (-0) "int") #[.not (.isi (-0) "bool")])]
def m7:Sxs:=#[.ret (.boo true ("is_whole"<|#[-1]) #[.chn .LtE .Lt (¬0) (-1) (-0)])]
def m8:Sxs:=#[.ite (.val (.cmp .NotEq (.bcl .len #[-0]) (.bcl .len #[-1]))) #[.ret (.cst (.bl false))] #[],.ret (.bcl .all #[.comp true (.boo false (.cmp .Eq (-0) (![42])) #[.cmp .Eq (-0) (-1)]) (.tp #[.nm 0,.nm 1]) (.zip (-0) (-1)) .yes ["sign","given"] [none,none]])]
def m9:Sxs:=#[.ret ("fits"<|#[-1,-0])]
def nq:Sxs:=#[.ret (.bin .Add true (.bin .Add true (.slc true (-0) .no (.ob (-1))) (-2)) (.slc true (-0) (.ob (.bin .Add true (-1) (¬1))) .no))]
def nu:Sxs:=#[.ite (.val ("lies_in"<|#[-0,-1])) #[.ret (-1)] #[],.ite (.val ("lies_in"<|#[-1,-0])) #[.ret (-0)] #[],.asg (.nm 2) (.comp true (-0) (.tp #[.nm 0,.nm 1]) (.enm (-0)) (.val (.cmp .NotEq (-1) (.idx (-2) (-0)))) ["at","sign","other"] [none,none,some 1]),.ite (.val (.cmp .Eq (.bcl .len #[-2]) (¬1))) #[.ret ("with_sign"<|#[-0,.idx (-2) (¬0),![42]])] #[],.ret (.cst .non)]
def nA:Sxs:=#[.ite (.boo false (.not (.val (.isi (-0) "str"))) #[.not (.val (.chn .LtE .LtE (¬1) (.bcl .len #[-0]) (.glb "LONGEST_DEED" (.int 8))))]) #[.ret (.cst (.bl false))] #[],.ret (.bcl .all #[.comp true (.cmp .In (-0) (.glb "LETTERS" (.str [97,98,99,100,101,102,103,104,105,106,107,108,109,110,111,112,113,114,115,116,117,118,119,120,121,122]))) (.nm 0) (.seq (-0)) .yes ["sign"] [none]])]
def nF:Sxs:=#[.ite (.boo false (.not (.val (.isi (-2) "str"))) #[.val (.cmp .NotEq (.bcl .len #[-2]) (-1))]) #[.ret (.cst (.bl false))] #[],.ret (.bcl .all #[.comp true (.cmp .In (-0) (-1)) (.nm 0) (.seq (-2)) .yes ["sign","signs"] [none,some 0]])]
def nG:Sxs:=#[.ret ("is_text_of"<|#[![48,49,42],-0,-1])]
def nH:Sxs:=#[.ite (.boo false (.not (.val (.isi (-1) "tuple"))) #[.val (.cmp .NotEq (.bcl .len #[-1]) (¬2))]) #[.ret (.cst (.bl false))] #[],.ret (.boo true ("is_form"<|#[-0,.idx (-1) (¬0)]) #["is_deed"<|#[.idx (-1) (¬1)]])]
def nJ:Sxs:=#[.ret (.boo true ("is_whole"<|#[-0]) #[.chn .LtE .LtE (¬1) (-0) (.glb "WIDEST" (.int 6))])]
def nM:Sxs:=#[.ite (.boo false (.not (.val (.isi (-0) "tuple"))) #[.val (.cmp .NotEq (.bcl .len #[-0]) (¬2))]) #[.ret (.cst (.bl false))] #[],.asg (.tp #[.nm 1,.nm 2]) (-0),.ite (.boo false (.not (.val ("is_width"<|#[-1]))) #[.not (.val (.isi (-2) "tuple")),.val (.cmp .Gt (.bcl .len #[-2]) (.glb "MOST_ROWS" (.int 12)))]) #[.ret (.cst (.bl false))] #[],.ret (.bcl .all #[.comp true ("is_row"<|#[-1,-0]) (.nm 0) (.seq (-2)) .yes ["row","width"] [none,some 1]])]
def nO:Sxs:=#[.ite (.not (.val ("is_book"<|#[-0]))) #[.rse "NoBook" #[]] #[]]
def nP:Sxs:=#[.exp ("need_book"<|#[-0]),.ite (.not (.val ("is_place"<|#[.bcl .len #[.idx (-0) (¬1)],-1]))) #[.rse "NoRow" #[.bcl .len #[.idx (-0) (¬1)]]] #[]]
def nQ:Sxs:=#[.exp ("need_row"<|#[-0,-1]),.asg (.tp #[.nm 2,.nm 3]) (-0),.ret (.tup #[-2,.bin .Add true (.slc true (-3) .no (.ob (-1))) (.slc true (-3) (.ob (.bin .Add true (-1) (¬1))) .no)])]
def nR:Sxs:=#[.asg (.tp #[.nm 4,.nm 5]) (-0),.asg (.nm 6) ("joined"<|#[.idx (.idx (-5) (-1)) (¬0),.idx (.idx (-5) (-2)) (¬0)]),.ite (.boo false (.val (.cmp .Is (-6) (.cst .non))) #[.val (.cmp .NotEq (.idx (.idx (-5) (-1)) (¬1)) (.idx (.idx (-5) (-2)) (¬1)))]) #[.ret (.cst .non)] #[],.asg (.nm 7) (.tup #[-4,.bin .Add true (.bin .Add true (.slc true (-5) .no (.ob (-3))) (.tup #[.tup #[-6,.idx (.idx (-5) (-3)) (¬1)]])) (.slc true (-5) (.ob (.bin .Add true (-3) (¬1))) .no)]),.ret ("without"<|#[-7,.ife (.val (.cmp .Eq (-3) (-1))) (-2) (-1)])]
def nT:Sxs:=#[.asg (.nm 2) (![]),.for_ (.tp #[.nm 3,.nm 4]) (.zip (-0) (-1)) #[.ite (.val (.cmp .Eq (-3) (![42]))) #[.aug 2 .Add (-4)] #[.ite (.boo false (.val (.cmp .Eq (-4) (![42]))) #[.val (.cmp .Eq (-4) (-3))]) #[.aug 2 .Add (-3)] #[.ret (.cst .non)]]],.ret (-2)]
def nU:Sxs:=#[.for_ (.tp #[.nm 2,.nm 3]) (.enm (-0)) #[.ite (.val (.cmp .IsNot ("both"<|#[.idx (-3) (¬0),-1]) (.cst .non))) #[.ret (-2)] #[]],.ret (.cst .non)]
def nW:Sxs:=#[.asg (.nm 2) ("first_touching"<|#[-0,-1]),.ite (.val (.cmp .Is (-2) (.cst .non))) #[.ret (.cst .non)] #[],.for_ (.tp #[.nm 3,.nm 4]) (.enm (.idx (.idx (-0) (-2)) (¬0))) #[.ite (.boo true (.val (.cmp .Eq (.idx (-1) (-3)) (![42]))) #[.val (.cmp .NotEq (-4) (![42]))]) #[.ret (-3)] #[]],.ret (.cst .non)]
def kO:Sxs:=#[.for_ (.nm 3) (.seq (-1)) #[.asg (.nm 4) ("splitting_place"<|#[-3,-2]),.ite (.val (.cmp .IsNot (-4) (.cst .non))) #[.asg (.nm 5) ("grown"<|#[-0,-1,"with_sign"<|#[-2,-4,![48]]]),.asg (.nm 6) ("grown"<|#[-0,-1,"with_sign"<|#[-2,-4,![49]]]),.ret (.tup #[![115,112,108,105,116],-4,-5,-6])] #[]],.ret (.bin .Add true (.tup #[-0]) (.bcl .tuple #[.comp true ("first_touching"<|#[-0,-1]) (.nm 0) (.seq (-1)) .yes ["rows","box"] [none,some 2]]))]
def nY:Sxs:=#[.ret (.boo true (.isi (-2) "tuple") #[.cmp .Eq (.bcl .len #[-2]) (.bin .Add true (-1) (¬1)),.cmp .Eq (.idx (-2) (¬0)) (-0)])]
def jr:Sxs:=#[.ite (.not (.val ("is_named"<|#[![115,112,108,105,116],¬3,-1]))) #[.ret (.lst true #[.tup #[-0,-1]])] #[],.asg (.nm 2) (.idx (-1) (¬1)),.ite (.boo false (.not (.val ("is_place"<|#[.bcl .len #[-0],-2]))) #[.val (.cmp .NotEq (.idx (-0) (-2)) (![42]))]) #[.ret (.cst .non)] #[],.asg (.nm 3) ("leaves"<|#["with_sign"<|#[-0,-2,![48]],.idx (-1) (¬2)]),.asg (.nm 4) ("leaves"<|#["with_sign"<|#[-0,-2,![49]],.idx (-1) (¬3)]),.ite (.boo false (.val (.cmp .Is (-3) (.cst .non))) #[.val (.cmp .Is (-4) (.cst .non))]) #[.ret (.cst .non)] #[],.ret (.bin .Add true (-3) (-4))]
def nZ:Sxs:=#[.exp ("need_book"<|#[-0]),.exp ("need_book"<|#[-1]),.ite (.val (.cmp .NotEq (.idx (-0) (¬0)) (.idx (-1) (¬0)))) #[.rse "NoMatch" #[.idx (-0) (¬0),.idx (-1) (¬0)]] #[]]
def kW:Sxs:=#[.ite (.val (.cmp .Is (-1) (.cst .non))) #[.ret (.cst .non)] #[],.ret (.idx (.idx (.idx (-0) (¬1)) (-1)) (¬1))]
def n6:Sxs:=#[.ret (.cmp .Eq ("deed_of"<|#[-0,.idx (-2) (¬1)]) ("deed_of"<|#[-1,.idx (-2) (¬2)]))]
def n8:Sxs:=#[.ret (.bin .Mult true (![42]) (-0))]
def oh:Sxs:=#[.exp ("need_two_books"<|#[-0,-1]),.asg (.nm 2) ("stars"<|#[.idx (-0) (¬0)]),.asg (.nm 3) ("grown"<|#[![115,97,109,101],.lst true #[.idx (-0) (¬1),.idx (-1) (¬1)],-2]),.asg (.nm 4) (.comp true ("least"<|#[-0]) (.tp #[.nm 0,.nm 1]) (.seq ("leaves"<|#[-2,-3])) (.not (.val ("same_deeds"<|#[-2,-3,-1]))) ["part","leaf","one","other"] [none,none,some 0,some 1]),.ite (.val (-4)) #[.ret (.tup #[![112,97,114,116,101,100],.bcl .min #[-4]])] #[],.ret (.tup #[![97,108,105,107,101],-3])]
def ou:Sxs:=#[.asg (.tp #[.nm 2,.nm 3]) ("alike"<|#[-0,-1]),.ret (.ife (.val (.cmp .Eq (-2) (![112,97,114,116,101,100]))) (-3) (.cst .non))]
end
-- (.fst )
section
local macro_rules|`(#[])=>`(.nil)|`(#[$x])=>`(.cons $x .nil)|`(#[$x,$y,*])=>`(.cons $x #[$y,*])
local macro_rules|`(-$x)=>`(.var $x)
local macro_rules|`(¬$x)=>`(.cst (.int $x))
local macro_rules|`(!$x)=>`(.cst (.str $x))
local macro_rules|`($x<|$y)=>`(.call $x $y)
def Ah:Sxs:=#[.asg (.nm 1) (.lst false #[.isx (-0) "Full" ["NoBook","NoMatch","NoRow","NoJoin","Turned"],.isx (-0) "NoBook" ["NoBook","NoMatch","NoRow","NoJoin","Turned"],.isx (-0) "NoForm" ["NoBook","NoMatch","NoRow","NoJoin","Turned"]]),.asg (.nm 1) (.bin .Add false (-1) (.lst true #[.isx (-0) "NoJoin" ["NoBook","NoMatch","NoRow","NoJoin","Turned"],.isx (-0) "NoLine" ["NoBook","NoMatch","NoRow","NoJoin","Turned"],.isx (-0) "NoMatch" ["NoBook","NoMatch","NoRow","NoJoin","Turned"]])),.asg (.nm 1) (.bin .Add false (-1) (.lst true #[.isx (-0) "NoOrder" ["NoBook","NoMatch","NoRow","NoJoin","Turned"],.isx (-0) "NoRow" ["NoBook","NoMatch","NoRow","NoJoin","Turned"],.isx (-0) "NoText" ["NoBook","NoMatch","NoRow","NoJoin","Turned"]])),.asg (.nm 1) (.bin .Add false (-1) (.lst true #[.isx (-0) "NoWord" ["NoBook","NoMatch","NoRow","NoJoin","Turned"],.isx (-0) "Nothing" ["NoBook","NoMatch","NoRow","NoJoin","Turned"],.isx (-0) "TooMany" ["NoBook","NoMatch","NoRow","NoJoin","Turned"]])),.exp (.mth .append (-1) #[.isx (-0) "Turned" ["NoBook","NoMatch","NoRow","NoJoin","Turned"]]),.ite (.boo false (.val (.cmp .NotEq (.mth .count (-1) #[.cst (.bl true)]) (¬1))) #[.not (.val (.isx (-0) "SieveError" ["NoBook","NoMatch","NoRow","NoJoin","Turned"])),.not (.val (.isx (-0) "ValueError" ["NoBook","NoMatch","NoRow","NoJoin","Turned"]))]) #[.ret (![111,100,100])] #[],.asg (.nm 2) (.lst true #[![102,117,108,108],![98,111,111,107],![102,111,114,109],![106,111,105,110],![108,105,110,101],![109,97,116,99,104],![111,114,100,101,114],![114,111,119],![116,101,120,116],![119,111,114,100],![110,111,116,104,105,110,103],![109,97,110,121]]),.ret (.idx (.bin .Add true (-2) (.lst true #[![116,117,114,110,101,100]])) (.mth .index (-1) #[.cst (.bl true)]))]
def oA:Sxs:=#[.exp ("need_row"<|#[-0,-1]),.exp ("need_row"<|#[-0,-2]),.ite (.boo false (.not (.val ("is_place"<|#[.bcl .len #[.idx (-0) (¬1)],-3]))) #[.val (.cmp .NotIn (-3) (.tup #[-1,-2]))]) #[.rse "NoRow" #[]] #[],.asg (.nm 4) (.ife (.val (.cmp .Lt (-1) (-2))) ("joined_book"<|#[-0,-1,-2,-3]) (.cst .non)),.ite (.val (.cmp .Is (-4) (.cst .non))) #[.rse "NoJoin" #[]] #[],.asg (.nm 5) ("parting_word"<|#[-0,-4]),.ite (.val (.cmp .IsNot (-5) (.cst .non))) #[.rsi "Turned" (-5)] #[],.ret (-4)]
def Ai:Sxs:=#[.asg (.nm 4) (.cst .non),.asg (.nm 5) (.cst .non),.tryx (.asg 4 "join" #[-0,-1,-2,-3]) "SieveError" (.bind 6 5) ["NoBook","NoMatch","NoRow","NoJoin","Turned"],.ite (.val (.cmp .Is (-5) (.cst .non))) #[.ret (.tup #[![98,111,111,107],-4])] #[],.asg (.nm 7) ("_law_refusal"<|#[-5]),.ret (.tup #[-7,.ife (.val (.cmp .Eq (-7) (![116,117,114,110,101,100]))) (.xat "Turned" "word" (-5)) (.cst .non)])]
def Aj:Sxs:=#[.asg (.nm 1) ("_law_open"<|#[-0]),.for_ (.nm 2) (.rng (¬4)) #[.asg (.nm 3) ("_law_join_book"<|#["_law_anew"<|#[-1],.idx (.lst true #[¬4,¬6,¬3]) (.bin .FloorDiv true (.bin .Add true (-2) (¬1)) (¬2)),.idx (.lst true #[¬5,¬4,¬8]) (.bin .FloorDiv true (.bin .Add true (-2) (¬1)) (¬2))]),.for_ (.nm 4) (.rng (.bcl .len #[.idx (-3) (¬1)])) #[.for_ (.nm 5) (.rng (.bcl .len #[.idx (-3) (¬1)])) #[.for_ (.nm 6) (.seq (.tup #[-4,-5])) #[.ite (.not (.val ("_law_same"<|#["_law_told"<|#[-3,-4,-5,-6],"_law_due"<|#[-3,-4,-5,-6]]))) #[.ret (.cst (.bl false))] #[]]]]],.ret (.cst (.bl true))]
end
end RF
local macro_rules | `(tactic| simp_arith! [$l,*] $[$c:location]?) => `(tactic| simp only [↓RF.ye, ↓RF.mj, ↓RF.yf, ↓RF.yg, ↓RF.yh, ↓RF.yj, ↓RF.yl, ↓RF.yo, ↓RF.yq, ↓RF.yr, ↓RF.yx, ↓RF.yt, ↓RF.qD, ↓RF.qF, ↓RF.Hb, ↓RF.Ha, ↓RF.yw, ↓RF.Hc, ↓RF.xY, ↓RF.xG, ↓RF.xZ, ↓RF.qC, ↓RF.lZ, ↓RF.iy, ↓RF.GZ, ↓RF.yu, ↓RF.aeU, ↓RF.wY, ↓RF.wZ, ↓RF.w5, ↓RF.lW, ↓RF.jU, ↓RF.jc, ↓RF.xf, ↓RF.qw, ↓RF.xg, ↓RF.qx, ↓RF.xj, ↓RF.xm, ↓RF.xq, ↓RF.xr, ↓RF.xu, ↓RF.xF, ↓RF.adi, ↓RF.adn, ↓RF.yc, ↓RF.x_at, ↓RF.adq, ↓RF.ado, ↓RF.adp, ↓RF.eZ, ↓RF.xH, ↓RF.xJ, ↓RF.xK, ↓RF.qy, ↓RF.qz, ↓RF.xM, ↓RF.xN, ↓RF.xO, ↓RF.xP, ↓RF.xQ, ↓RF.xR, ↓RF.xT, ↓RF.xU, ↓RF.xV, ↓RF.xW, ↓RF.xX, ↓RF.jd, ↓RF.yd, ↓RF.aeY, ↓RF.aca, ↓RF.acb, ↓RF.acd, ↓RF.ace, ↓RF.acf, ↓RF.acg, ↓RF.ach, ↓RF.aci, ↓RF.acj, ↓RF.ack, ↓RF.acl, ↓RF.acn, ↓RF.aco, ↓RF.acp, ↓RF.acq, ↓RF.acr, ↓RF.acs, ↓RF.acu, ↓RF.acv, ↓RF.acw, ↓RF.acx, ↓RF.acy, ↓RF.acz, ↓RF.acA, ↓RF.acB, ↓RF.acC, ↓RF.acD, ↓RF.acE, ↓RF.acF, ↓RF.acG, ↓RF.acH, ↓RF.acI, ↓RF.acJ, ↓RF.acK, ↓RF.acL, ↓RF.acN, ↓RF.acO, ↓RF.acP, ↓RF.acQ, ↓RF.acS, ↓RF.acR, ↓RF.acT, ↓RF.acU, ↓RF.acV, ↓RF.acW, ↓RF.acX, ↓RF.acY, ↓RF.acZ, ↓RF.ac0, ↓RF.ac1, ↓RF.ac3, ↓RF.ac9, ↓RF.ada, ↓RF.ac8, ↓RF.adb, ↓RF.ac7, ↓RF.ac5, ↓RF.ac6, ↓RF.ac4, ↓RF.adc, ↓RF.ade, ↓RF.adf, ↓RF.adg, ↓RF.adh, ↓RF.Ks, ↓RF.Ku, ↓RF.adl, ↓RF.adm, ↓RF.adJ, ↓RF.adI, ↓RF.adk, ↓RF.adt, ↓RF.adu, ↓RF.adv, ↓RF.adw, ↓RF.adx, ↓RF.ady, ↓RF.adz, ↓RF.adA, ↓RF.adB, ↓RF.adC, ↓RF.adD, ↓RF.adE, ↓RF.adF, ↓RF.adG, ↓RF.adH, ↓RF.adK, ↓RF.adL, ↓RF.adM, ↓RF.adN, ↓RF.adO, ↓RF.adP, ↓RF.adQ, ↓RF.adR, ↓RF.adS, ↓RF.adT, ↓RF.adU, ↓RF.adV, ↓RF.adW, ↓RF.adX, ↓RF.is_tup, ↓RF.adY, ↓RF.adZ, ↓RF.ad1, ↓RF.ad0, ↓RF.ad2, ↓RF.ad3, ↓RF.acM, RF.aeV, RF.aeW, RF.aeX, Option.join_some, List.map_cons, List.map_nil, List.cons_append, List.nil_append, List.replicate_succ, List.replicate_zero, List.getElem?_cons_zero, List.getElem?_cons_succ, List.set_cons_zero, List.set_cons_succ, List.length_cons, List.length_nil, RF.ab2, RF.ab3, RF.ab4, RF.ab5, RF.ab6, RF.ab7, RF.ab8, true_and, and_true, Nat.min_self, Nat.zero_min, Nat.min_zero, Nat.zero_le, Bool.or_false, Bool.or_true, Bool.false_or, Bool.true_or, Bool.not_true, Bool.not_false, RF.ad4, RF.ad5, RF.ad6, RF.ad7, RF.ad8, RF.ad9, RF.aea, RF.aeb, RF.aec, RF.aed, RF.aee, RF.aef, RF.Kv, RF.aeg, RF.aeh, RF.aei, RF.aej, RF.aek, RF.ael, RF.Kw, RF.aem, RF.aen, RF.aeo, RF.aep, RF.aeq, RF.aer, RF.aes, RF.aet, RF.aeu, RF.aev, RF.aew, RF.aex, RF.aey, RF.aez, RF.aeA, RF.aeB, RF.aeC, RF.aeD, RF.aeE, RF.aeF, RF.aeG, RF.aeH, RF.aeI, RF.aeJ, RF.aeK, RF.aeL, RF.aeM, RF.aeN, RF.aeO, RF.aeP, RF.aeQ, RF.aeR, RF.aeS, RF.aeT, RF.env0, RF.ends, String.reduceBEq, $l,*] $[$c:location]?)
local macro_rules | `(tactic| simp_arith [$l,*] $[$c:location]?) => `(tactic| simp_arith! [↓RF.lX, ↓RF.lY, $l,*] $[$c:location]?)
local macro_rules | `(tactic| simp_all_arith [$l,*]) => `(tactic| simp only [RF.env0, RF.ends, List.map_cons, List.map_nil, List.cons_append, List.nil_append, List.replicate_succ, List.replicate_zero, $l,*])
local macro_rules|`(tactic|bv_omega)=>`(tactic|(have hsz:RF.sz=1000000:=rfl;lia))
local macro_rules|`(tactic|symm)=>do let M:=Lean.mkIdent `M;let h:=Lean.mkIdent `hM;`(tactic|refine $h _ _ (RF.seq fun $M $h=>?_))
local macro_rules|`(tactic|nofun)=>do let M:=Lean.mkIdent `M;let h:=Lean.mkIdent `hM;`(tactic|refine RF.seq fun $M $h=>?_)
local macro_rules|`(tactic|ac_nf0)=>do let h:=Lean.mkIdent `hM;`(tactic|refine $h _ _ (RF.last ?_))
local macro_rules|`(tactic|erw[$[$x:term],*]$[$c:location]?)=>`(tactic|simp_arith[$[$x:term],*]$[$c:location]?)
namespace RF
open PySem L2
variable {G G':DH}{E:EK}{f g l m:AA}{n s v:Nat}{ds L:AS}{q:AQ}{x:D}{acc ls:List (AA)}{Y:ao}{Dn:En}{C:AL}
def gb{i j:Int}(h:Neg.neg (2 ^ 64)<j/\j<2 ^ 64):CMul i j:=.inr h
def Ak{i j:Int}(h:Neg.neg (2 ^ 64)<i/\i<2 ^ 64):CMul i j:=.inl h
def Kz{j:Int}(h:0<=j/\j<=1000):pK 10 j:=(h.1,!0,!1)
def rZ:RF.Spec:=bN (λds z=>∃c k:Int,ds=[.int c,.int k]/\0<=k) (λz G d y=>y=G/\∃r:Int,d=.int r/\0<=r)
def ae8(Z:aj)(ds:AS)(G:DH)(h:∃c k:Int,ds=[.int c,.int k]/\0<=k):aA Z zX noE (env0 ds 3) G (ends λd O=>O=G/\∃r:Int,d=.int r/\0<=r):=by
 let(c,k,rfl,U):=h;erw[zX];show(Kz (!1),?_);cases hc:decide (10 ^ Int.toNat 18<=c) with
 |true=>
  show(c,rfl,?_);have:=fw hc;have h2:(0:Int)<=(10:Int) ^ (18:Int).toNat:=by decide
  exact Int.le_trans h2 this
 |false=>
  generalize z:(c%1000000007*69069+k*40503+977)%2147483629=one;have o1:0<=one:=by rw[<-z];exact hX _ (!1)
  have Y:one<2147483629:=by rw[<-z];exact g9 _ (!1)
  generalize J:(one*one+k*7919+c%65537)%2147483587=two;have t1:0<=two:=by rw[<-J];exact hX _ (!1)
  have t2:two<2147483587:=by rw[<-J];exact g9 _ (!1)
  generalize y:(two*two+one*31+5)%2147483563=three;have h1:0<=three:=by rw[<-y];exact hX _ (!1)
  clear z J y;show(!1,gb (!1),gb (!1),!1,Ak (!0),gb (!1),!1,!1,Ak (!0),gb (!1),!1,gb (!1),gb (!1),_,rfl,?_);lia
def Pen(G:DH)(p:AQ):Prop:=∃(ns:List Int)(k st:Int),G p=-(.lst [.lst (ns.map D.int),.int k,.int st])/\0<=k/\0<=st
def Pen.sa{p:AQ}(h:Pen G p)(s:Sa G G'):Pen G' p:=by let(ns,k,st,e,h1):=h;exact(ns,k,st,s _ _ e,h1)
def Pen.ne{p:AQ}(h:Pen G p)(e:G q=none):p≠q:=by let(ns,k,st,y,h1):=h;exact wJ y e
def Pen.sb{p:AQ}(h:Pen G p)(s:Sb q G G')(n:p≠q):Pen G' p:=by let(ns,k,st,e,h1):=h;exact(ns,k,st,s _ _ e n,h1)
def sr:RF.Spec:=bN (λds G=>∃p,ds=[.ref p]/\Pen G p) (λds G d y=>∃p,ds=[.ref p]/\d=.ref p/\Pen y p/\Sb p G y)
def ae9(Z:aj)(ds:AS)(G:DH)(h:∃p,ds=[.ref p]/\Pen G p):aA Z zL noE (env0 ds 0) G (ends λd y=>∃p,ds=[.ref p]/\d=.ref p/\Pen y p/\Sb p G y):=by let(p,rfl,ns,k,st,e,h1,h2):=h;erw[zL,cZ e];exact(p,rfl,rfl,(ns,k,0,bQ,h1,!1),Sb.upd)
def eF:RF.Spec:=bN (λds G=>∃p,∃m:Int,ds=[.ref p,.int m]/\Pen G p/\0<m/\m<1152921504606846976) (λds G d y=>∃p,∃m r:Int,ds=[.ref p,.int m]/\d=.int r/\0<=r/\r<m/\Pen y p/\Sb p G y)
def afa(Z:aj)(hΦ:Z "_law_spread"=rZ)(ds:AS)(G:DH)(h:∃p,∃m:Int,ds=[.ref p,.int m]/\Pen G p/\0<m/\m<1152921504606846976):
  aA Z zY noE (env0 ds 3) G (ends λd G'=>∃p,∃m r:Int,ds=[.ref p,.int m]/\d=.int r/\0<=r/\r<m/\Pen G' p/\Sb p G G'):=by
 let(p,m,rfl,(ns,k,st,e,h1,h2),h3,h4):=h;simp_all_arith[zY];nofun;have fin:∀(z J O:Option D)(G1:DH)(k1 s1:Int),0<=k1->0<=s1->G1 p=-(.lst [.lst (ns.map D.int),.int k1,.int s1])->Sb p G G1->M [-(.ref p),-(.int m),z,J,O] G1:=by intro z J O G1 k1 s1 q1 q2 U sb;show hM _ _ ?_;erw[c7 U,cZ U];show(h3,(h3,h4),p,m,_,rfl,rfl,hX _ (!0),g9 _ h3,(ns,k1,_,bQ,q1,?_),sb.trans Sb.upd);exact Int.ediv_nonneg q2 (!0)
 erw[c7 e,cZ e,hΦ];have y:∀c:Int,rZ.t [.int c,.int k] (aV G p (.lst [.lst (ns.map D.int),.int (k+1),.int st])) (λx G1=>trk G1 p λds=>bh (ixN ds⁻¹ 2) λj=>M [-(.ref p),-(.int m),-(.int k),-(.int c),none] (aV G1 p (.lst (ds.set j x)))) noE:=by intro c;show cG (c,k,rfl,h1) λd G' hx=>?_;let(U,r,e2,hr):=hx;subst U e2;erw[cZ bQ];show fin _ _ _ _ (k+1) r (!0) hr bQ (Sb.trans Sb.upd Sb.upd)
 cases hc:decide (st<m) with
 |false=>exact fin _ _ _ _ k st h1 h2 e (Sb.refl _ _)
 |true=>
  cases Y:decide (k<((ns.map D.int)⁻¹:Int)) with
  |true=>
   have Y:=fw Y;rw[ah]at Y;show aR (a:=.int ns[k.toNat]) ?_ ?_
   .let(n,rfl):=dS h1;exact bA (by simp at Y ⊢)
   .exact y _
  |false=>
   cases hz:decide (0<((ns.map D.int)⁻¹:Int)) with
   |false=>exact y 0
   |true=>
    have hz:=fw hz;have j1:0<=(k*5+3)%((ns.map D.int)⁻¹:Int):=hX _ (!0);have j2:(k*5+3)%((ns.map D.int)⁻¹:Int)<((ns.map D.int)⁻¹:Int):=g9 _ hz;let(j,hj):=dS j1;rw[hj]at j2;have j3:j<ns⁻¹:=by rw[ah]at j2;lia
    show(gb (!1),hz,aR (a:=.int ns[j]) ?_ (Kz (!1),?_))
    .rw[hj];exact bA (by simp[j3])
    .erw[cZ e];show(?_,y _);have:(0:Int)<10 ^ Int.toNat 17:=by decide
     lia
def oE:RF.Spec:=bN (λds G=>∃p,∃n:Nat,∃cs:AA,ds=[.ref p,.int n,.str cs]/\Pen G p/\n<=1000/\cs≠[]/\cs⁻¹<=1000)
 (λds G d y=>∃p,∃n:Nat,∃cs l:AA,ds=[.ref p,.int n,.str cs]/\d=.str l/\l⁻¹=n/\(∀c∈l,c∈cs)/\Pen y p/\Sb p G y)
def afb(l:AA):((l.map λc=>[c]).map (·.length)).sum=l⁻¹:=by
 induction l with
 |nil=>rfl
 |cons a l y=>simp at y ⊢;lia
def afc(l:AA):(l.map λc=>[c]).flatten=l:=by
 induction l with
 |nil=>rfl
 |cons a l y=>simp at y ⊢;exact y
def afd(Z:aj)(U:Z "_law_take"=eF)(ds:AS)(G:DH)(h:∃p,∃n:Nat,∃cs:AA,ds=[.ref p,.int n,.str cs]/\Pen G p/\n<=1000/\cs≠[]/\cs⁻¹<=1000):
  aA Z zZ noE (env0 ds 0) G (ends λd y=>∃p,∃n:Nat,∃cs l:AA,ds=[.ref p,.int n,.str cs]/\d=.str l/\l⁻¹=n/\(∀c∈l,c∈cs)/\Pen y p/\Sb p G y):=by
 let(p,n,cs,rfl,hp,hn,hc,hl):=h;have hc1:0<cs⁻¹:=iN.mpr hc;erw[zZ,U];show(!0,CompG.inv (P:=λi z Y y=>(∃o,Y=[o,-(.str cs),-(.ref p)])/\Pen y p/\Sb p G y/\∃l:AA,z=l.map (λc=>D.str [c])/\l⁻¹=i/\∀c∈l,c∈cs) (h0:=((_,rfl),hp,Sb.refl _ _,[],rfl,rfl,!2)) (hh:=λx x x x x=>trivial) (hl:=by simp[bf];bv_omega) (hs:=?_) (he:=?_))
 .rintro i d z Y y hd ⟨⟨o,rfl⟩,O,sb,l,rfl,J,hm⟩ kk hk;erw[U];show cG (p,_,rfl,O,!0,!0) λd' G2 hx=>?_;let(p2,m2,r,e1,e2,r0,r1,pp2,sb2):=hx;cases e1;subst e2;let(j,rfl):=dS r0;have hj:j<cs⁻¹:=by lia
  erw[ends];show aR (a:=cs[j]) (bA (by simp[hj])) (hk _ _ _ ((_,rfl),pp2,sb.trans sb2,l++[cs[j]],!2,by simp[J],?_));intro c hc;rcases bp.mp hc with h|h
  .exact hm c h
  .rw[ba.mp h];exact fq _
 .rintro z Y y ⟨_,O,sb,l,rfl,J,hm⟩;erw[strs_map];have hl2:l⁻¹=n:=by rw[J];simp[bf]
  show(?_,p,n,cs,l,rfl,?_,hl2,hm,O,sb)
  .rw[afb];simp;bv_omega
  .rw[Kh,afc]
def isF(c:Nat):Prop:=c=48\/c=49\/c=42
def Al:RF.Spec:=bN (λds G=>∃p,∃n:Nat,ds=[.ref p,.int n]/\Pen G p/\n<=1000) (λds G d y=>∃p,∃n:Nat,∃l:AA,ds=[.ref p,.int n]/\d=.str l/\l⁻¹=n/\(∀c∈l,isF c)/\Pen y p/\Sb p G y)
def afe(Z:aj)(h1:Z "_law_take"=eF)(h2:Z "_law_signs"=oE)(ds:AS)(G:DH)(h:∃p,∃n:Nat,ds=[.ref p,.int n]/\Pen G p/\n<=1000):
  aA Z z7 noE (env0 ds 0) G (ends λd U=>∃p,∃n:Nat,∃l:AA,ds=[.ref p,.int n]/\d=.str l/\l⁻¹=n/\(∀c∈l,isF c)/\Pen U p/\Sb p G U):=by
 let(p,n,rfl,hp,hn):=h;erw[z7,h1,h2];show(!1,cG (p,_,rfl,hp,!1,!1) λd' G2 zZ=>?_);let(p2,m2,r,y,z,r0,r1,J,O):=zZ;cases y;subst z;let(j,rfl):=dS r0;erw[ends];have:∃cs:AA,atI [D.str [48,49,42],D.str [48,49,42,42],D.str [48,49,42,42,42,42],D.str [48,42],D.str [48,49]] ((j:Nat):Int)=-(.str cs)/\cs≠[]/\cs⁻¹<=1000/\∀c∈cs,isF c:=by
  have hj:j=0\/j=1\/j=2\/j=3\/j=4:=by lia
  rcases hj with rfl|rfl|rfl|rfl|rfl<;>exact(_,rfl,!1,!1,by simp[isF])
 let(cs,e,Y,c2,c3):=this;show aR e (cG (p,n,cs,rfl,J,hn,Y,c2) λd G3 zZ=>?_);let(p3,n3,cs3,l,y,z,q1,q2,q3,q4):=zZ;cases y;exact(p,n,l,rfl,z,q1,λc hc=>c3 c (q2 c hc),q3,O.trans q4)
def Am:RF.Spec:=bN (λds z=>∃ns:List Int,ds=[.scr ns]/\ns⁻¹<=63) (λz G d y=>∃p,d=.ref p/\G p=none/\Pen y p/\Sa G y)
def afg(Z:aj)(ds:AS)(G:DH)(h:∃ns:List Int,ds=[.scr ns]/\ns⁻¹<=63):aA Z Ag noE (env0 ds 3) G (ends λd y=>∃p,d=.ref p/\G p=none/\Pen y p/\Sa G y):=by
 let(ns,rfl,hl):=h;simp_all_arith[Ag];nofun;erw[ends];intro c hc;show hM _ _ ?_;nofun;erw[ends];show ForG.inv (λi Y y=>∃(o2 o3:Option D)(xs:List Int),Y=[-(.scr ns),-(.ref c),o2,o3]/\y=aV G c (.lst (xs.map D.int))/\(12<=xs⁻¹\/cut ns (-12) (-63)=[])) (_,_,cut ns none (-12),rfl,rfl,?_) (λv v v v=>trivial) ?_ ?_
 .by_cases z:12<=ns⁻¹
  .left;simp[cut,HT.sIx];lia
  .right;simp[cut,HT.sIx];lia
 .rintro i d Y y hd ⟨o2,o3,xs,rfl,rfl,hx⟩ kk hk;rw[jo]at hd;let(d',J,e3):=a9.mp hd;subst e3;rw[aS]at J;let(x,U,e4):=a9.mp J;subst e4;have z:12<=xs⁻¹:=by
   rcases hx with h|h
   .exact h
   .rw[h]at U;simp at U
  let(j,hj):=dS (hX ((0+i:Nat):Int) (by decide:(12:Int)≠0));have hj12:j<12:=by have:=g9 ((0+i:Nat):Int) (by decide:(0:Int)<12);lia
  have O:j<xs⁻¹:=by lia
  erw[hj,c7 bQ,cZ bQ];show(!1,aR (a:=.int xs[j]) (bA (by simp[O])) ?_);erw[hj,c7 bQ,cZ bQ,ah,Kl O];show(!1,hk _ _ (_,_,xs.set j (xs[j]+x),rfl,?_,by simp[z]));rw[Y8,List.map_set]
 .rintro Y y ⟨o2,o3,xs,rfl,rfl,hx⟩;show hM _ _ ?_;erw[bQ];show(by bv_omega,λp hp=>(p,rfl,?_,(xs,0,0,bQ,!1,!1),?_))
  .rw[GK hc]at hp;exact hp
  .rw[GK hc]at hp ⊢;exact Sa.new hp
def oF:RF.Spec:=bN (λds z=>∃ns:List Int,ds=[.scr ns]/\ns⁻¹<=63) (λz z d z=>d=.bl true)
def whole:D->Bool
 |.int _=>true
 |_=>false
def jt:AS->Option D
 |[x]=>if nr x then some (.bl (whole x)) else none
 |_=>none
def afh(Z:aj)(ds:AS)(G:DH)(d:D)(h:jt ds=-d):aA Z m6 noE (env0 ds 0) G (ends λd' y=>y=G/\d'=d):=by
 unfold jt at h;split at h
 .rename_i x;split at h
  .rename_i z;cases h;cases x<;>first | (simp[nr]at z;done) | (erw[m6,whole];try simp)
  .cases h
 .cases h
def KC:∀{l:AS}{d:D},d∈l->dpt d<=aX l
 |a::as,d,m=>by
  rw[aX];rcases bb.mp m with e|m
  .rw[e];exact Nat.le_max_left _ _
  .exact cb (KC m) (Nat.le_max_right _ _)
def afi:isIn (.bl false) (List.replicate n (.bl true))=false:=by
 induction n with
 |zero=>rfl
 |succ n y=>simp only[isIn,e6,List.any_cons,deq]at y ⊢;rw[y];rfl
def afj{b:Bool}:nrs (List.replicate n (.bl b))=true:=by
 induction n with
 |zero=>rfl
 |succ n y=>rw[e6,nrs,y];rfl
def afk{b:Bool}:aX (List.replicate n (.bl b))=0:=by
 induction n with
 |zero=>rfl
 |succ n y=>rw[e6,aX,y];rfl
def afl:∀(l:AS)(i:Nat)(d:D),(cF l l)[i]?=-d->∃a,a∈l/\d=.tup [a,a]
 |l,i,d,h=>by
  let(a,b,h1,h2,rfl):=zq l l i d h;rw[h1]at h2;cases h2;exact(a,bg h1,rfl)
def okF(w:Nat)(l:AA):Prop:=l⁻¹=w/\∀c∈l,isF c
def okF.app{w:Nat}(h:okF w l)(h':okF v m):okF (w+v) (l++m):=(by rw[ax,h.1,h'.1],λc hc=>(bp.mp hc).elim (h.2 c) (h'.2 c))
def okF.one{c:Nat}(h:isF c):okF 1 [c]:=(rfl,λd hd=>by rw[ba.mp hd];exact h)
def cB{p:AQ}{m:Int}{k:AT}(Y:Pen G p)(h1:0<m)(h2:m<1152921504606846976)(U:∀(r:Nat)(y:DH),(r:Int)<m->Pen y p->Sb p G y->k (.int r) y):eF.t [.ref p,.int m] G k E:=by show cG (p,m,rfl,Y,h1,h2) λd y hx=>?_;let(p2,m2,r,J,O,r0,r1,z,sb):=hx;cases J;subst O;let(n,rfl):=dS r0;exact U n y r1 z sb
def afm(h:(n:Int)<2):∃c,atI [48,49] (n:Int)=-c/\isF c:=by
 have:n=0\/n=1:=by lia
 rcases this with rfl|rfl
 .exact (48,rfl,.inl rfl)
 .exact (49,rfl,.inr (.inl rfl))
def afn(h:(n:Int)<3):∃c,atI [48,49,42] (n:Int)=-c/\isF c:=by
 have:n=0\/n=1\/n=2:=by lia
 rcases this with rfl|rfl|rfl
 .exact (48,rfl,.inl rfl)
 .exact (49,rfl,.inr (.inl rfl))
 .exact (42,rfl,.inr (.inr rfl))
def An(ds:AS)(G:DH):Prop:=∃p l,ds=[.ref p,.str l]/\Pen G p/\(∀c∈l,isF c)/\l⁻¹<=1000
def Ao(ds:AS)(G:DH)(d:D)(y:DH):Prop:=∃p l m,ds=[.ref p,.str l]/\d=.str m/\okF l⁻¹ m/\Pen y p/\Sb p G y
def iH:RF.Spec:=bN An Ao
def su{p:AQ}{k:AT}(Y:Pen G p)(hl:∀c∈l,isF c)(h2:l⁻¹<=1000)(U:∀(m:AA)(y:DH),okF l⁻¹ m->Pen y p->Sb p G y->k (.str m) y):iH.t [.ref p,.str l] G k E:=by show cG (p,l,rfl,Y,hl,h2) λd y hx=>?_;let(p2,l2,m,J,O,h,z,sb):=hx;cases J;subst O;exact U m y h z sb
def afo(Z:aj)(h1:Z "_law_take"=eF)(ds:AS)(G:DH)(h:An ds G):aA Z z9 noE (env0 ds 2) G (ends (Ao ds G)):=by
 let(p,l,rfl,hp,hl,hl2):=h;simp_all_arith[z9];nofun;erw[ends];symm;simp_arith![ends];show ForG.inv (P:=λi Y G'=>(∃o m,Y=[-(.ref p),-(.str l),-(.str m),o]/\okF i m)/\Pen G' p/\Sb p G G') ((_,_,rfl,rfl,!2),hp,Sb.refl _ _) (λx x x x=>trivial) ?_ ?_
 .rintro i d Y G2 hd ⟨⟨o,m,rfl,hm⟩,y,O⟩ kk hk;rw[aS]at hd;let(c,hc,rfl):=a9.mp hd;have hi:i<l⁻¹:=(al.mp hc).1;have fc:=hl c (bg hc);have l1:=hm.1;simp_arith![ends];nofun;have fin:∀(c:Nat)(U:DH),isF c->Pen U p->Sb p G2 U->M [-(.ref p),-(.str l),-(.str m),-(.str [c])] U:=by
   intro c U fc z J;ac_nf0;erw[ends];exact(by bv_omega,hk _ _ ((_,_,rfl,hm.app (okF.one fc)),z,O.trans J))
  erw[h1];cases ht:([c]==[42]) with
  |false=>exact fin c G2 fc y (Sb.refl _ _)
  |true=>
   show cB y (!1) (!1) λr U hr z J=>?_;erw[ends];cases hr0:((r:Int)==0) with
   |false=>exact fin c U fc z J
   |true=>
    show cB z (!1) (!1) λr' G4 hr' hp4 sb4=>?_;let(c',e,fc'):=afm hr';erw[e];exact fin c' G4 fc' hp4 (J.trans sb4)
 .rintro Y G2 ⟨⟨o,m,rfl,hm⟩,y,O⟩;show hM _ _ ?_;erw[ends];exact(p,l,m,rfl,rfl,!!hm,y,O)
def afp(Z:aj)(h1:Z "_law_take"=eF)(ds:AS)(G:DH)(h:An ds G):aA Z z8 noE (env0 ds 2) G (ends (Ao ds G)):=by
 let(p,l,rfl,hp,hl,hl2):=h;simp_all_arith[z8];nofun;erw[ends];symm;simp_arith![ends];show ForG.inv (P:=λi Y G'=>(∃o m,Y=[-(.ref p),-(.str l),-(.str m),o]/\okF i m)/\Pen G' p/\Sb p G G') ((_,_,rfl,rfl,!2),hp,Sb.refl _ _) (λx x x x=>trivial) ?_ ?_
 .rintro i d Y G2 hd ⟨⟨o,m,rfl,hm⟩,O,U⟩ kk hk;rw[aS]at hd;let(c,hc,rfl):=a9.mp hd;have hi:i<l⁻¹:=(al.mp hc).1;have fc:=hl c (bg hc);have l1:=hm.1;simp_arith![ends];nofun;have fin:∀(c:Nat)(J:DH),isF c->Pen J p->Sb p G2 J->M [-(.ref p),-(.str l),-(.str m),-(.str [c])] J:=by
   intro c J fc y z;ac_nf0;erw[ends];exact(by bv_omega,hk _ _ ((_,_,rfl,hm.app (okF.one fc)),y,U.trans z))
  erw[h1];show cB O (!1) (!1) λr J hr y z=>?_;erw[ends];cases hr0:((r:Int)==0) with
  |false=>exact fin c J fc y z
  |true=>exact fin 42 J (.inr (.inr rfl)) y z
 .rintro Y G2 ⟨⟨o,m,rfl,hm⟩,O,U⟩;show hM _ _ ?_;erw[ends];exact(p,l,m,rfl,rfl,!!hm,O,U)
def KH{p:AQ}{fs:List (AA)}(y:view G x=.lst (fs.map D.str))(J:Pen G p)(sb:Sb p G G'):view G' x=.lst (fs.map D.str):=by
 cases x with
 |ref q=>
  unfold view at y;dsimp only at y;cases g:G q with
  |none=>rw[g]at y;cases y
  |some o=>
   cases o with
   |lst ds=>
    rw[g]at y;have e:ds=fs.map D.str:=by simpa using y
    have hn:q≠p:=by
     rintro rfl;let(ns,k,st,z,_):=J;rw[g,e]at z;cases fs with
     |nil=>simp at z
     |cons a r=>simp at z
    rw[c7 (sb q _ g hn),e]
 |lst l=>exact y
 |_=>cases y
def KJ(ds:AS)(G:DH):Prop:=∃p,∃w:Nat,∃x,∃fs:List (AA),ds=[.ref p,.int w,x]/\Pen G p/\0<w/\w<=1000/\view G x=.lst (fs.map D.str)/\fs⁻¹<=1000/\∀f∈fs,okF w f
def Aq(ds:AS)(G:DH)(d:D)(y:DH):Prop:=∃p,∃w:Nat,∃x m,ds=[.ref p,.int w,x]/\d=.str m/\okF w m/\Pen y p/\Sb p G y
def sy:RF.Spec:=bN KJ Aq
def afq{p:AQ}{w:Nat}{fs:List (AA)}{k:AT}(hp:Pen G p)(h1:0<w)(h2:w<=1000)(hv:view G x=.lst (fs.map D.str))(U:fs⁻¹<=1000)(Y:∀f∈fs,okF w f)(hk:∀(m:AA)(y:DH),okF w m->Pen y p->Sb p G y->k (.str m) y):sy.t [.ref p,.int w,x] G k E:=by
 show cG (p,w,x,fs,rfl,hp,h1,h2,hv,U,Y) λd y hx=>?_;let(p2,w2,x2,m,J,O,h,z,sb):=hx;simp only[eL,D.ref.injEq,D.int.injEq,ke,and_true]at J;let(rfl,rfl,rfl):=J;subst O;exact hk m y h z sb
def afr(fs:List (AA)):nrs (fs.map D.str)=true:=by
 induction fs with
 |nil=>rfl
 |cons a l y=>rw[db,nrs,y];rfl
def afs(fs:List (AA)):aX (fs.map D.str)=0:=by
 induction fs with
 |nil=>rfl
 |cons a l y=>rw[db,aX,y];rfl
def aft{w:Nat}{c:Nat}(h:okF w l)(hn:n<w)(y:isF c):okF w (cut l none (-(n:Int))++[c]++cut l (-((n:Int)+1)) none):=by
 have h1:=h.1;rw[rR,Kp];show(?_,λd hd=>?_)
 .simp;lia
 .rcases bp.mp hd with hd|hd
  .rcases bp.mp hd with hd|hd
   .exact h.2 d (iq hd)
   .rw[ba.mp hd];exact y
  .exact h.2 d (iA hd)
def afu(Z:aj)(h1:Z "_law_take"=eF)(h2:Z "_law_form"=Al)(h3:Z "_law_within"=iH)(h4:Z "_law_wider"=iH)(ds:AS)(G:DH)(h:KJ ds G):aA Z Aa noE (env0 ds 3) G (ends (Aq ds G)):=by
 let(p,w,x,fs,rfl,hp,w1,w2,hv,hf,hfs):=h;simp_all_arith[Aa];nofun;erw[h1];show cB hp (!1) (!1) λkd G2 hkd U sb2=>?_;have hv2:=KH hv hp sb2;symm;have drawn:∀(Y:ao) (G3:DH),Pen G3 p->Sb p G G3->aA Z (.cons (.ret (.call "_law_form" (.cons (.var 0) (.cons (.var 1) .nil)))) .nil) noE (-(.ref p)::-(.int w)::Y) G3 {nx:=M,rt:=Aq [.ref p,.int w,x] G,bk:=λv v=>False,ct:=λv v=>False}:=by intro Y G3 O sb3;erw[h2];show cG (p,w,rfl,O,w2) λd G4 hx=>?_;let(p4,n4,l,e1,e2,l1,l2,z,J):=hx;simp only[eL,D.ref.injEq,D.int.injEq,ke,and_true]at e1;let(rfl,rfl):=e1;exact(p,w,x,l,rfl,e2,(l1,l2),z,sb3.trans J)
 simp_arith![hv2,Ko,afs,afr];show(!1,?_);cases he:(fs.map D.str).isEmpty with
 |true=>exact drawn _ _ U sb2
 |false=>
  have hlen:0<fs⁻¹:=by
   cases fs with
   |nil=>simp at he
   |cons a r=>simp
  simp_arith![ends];cases hk2:decide ((kd:Int)<2) with
  |true=>exact drawn _ _ U sb2
  |false=>
   erw[ends];symm;erw[h1,hv2,ah];show cB U (!0) (!0) λr G3 hr O sb3=>?_;have hv3:=KH hv2 U sb3;erw[hv3];have hr':r<fs⁻¹:=by lia
   show aR (a:=.str fs[r]) (bA (by simp[hr'])) ?_;have y:=hfs fs[r] (fq _);generalize fs[r]=f at y;symm;have sb':=sb2.trans sb3;erw[ends];cases hk3:((kd:Int)==2) with
   |true=>exact(p,w,x,f,rfl,rfl,y,O,sb')
   |false=>
    symm;simp_arith![ends];cases hk5:decide ((kd:Int)<5) with
    |true=>
     erw[h1];show cB O (!0) (!0) λat' G4 hat z J=>?_;show cB z (!1) (!1) λs G5 hs hp5 sb5=>?_;let(c,e,fc):=afn hs;have c1:=Km f none (-(at':Int));have c2:=Km f (-((at':Int)+1)) none;have f1:=y.1;erw[e,ax];exact(by bv_omega,by bv_omega,p,w,x,_,rfl,rfl,aft y (!0) fc,hp5,sb'.trans (J.trans sb5))
    |false=>
     erw[ends];symm;have f1:=y.1;erw[h3];cases hk6:((kd:Int)==5) with
     |true=>
      show su O y.2 (!0) λm G4 hm z J=>?_;rw[f1]at hm;exact(p,w,x,m,rfl,rfl,hm,z,sb'.trans J)
     |false=>
      show hM _ _ ?_;erw[h4];show su O y.2 (!0) λm G4 hm z J=>?_;rw[f1]at hm;exact(p,w,x,m,rfl,rfl,hm,z,sb'.trans J)
def okD(l:AA):Prop:=1<=l⁻¹/\l⁻¹<=8/\∀c∈l,97<=c/\c<=122
def afv{p:AQ}{cs:AA}{k:AT}(hp:Pen G p)(hn:n<=1000)(h1:cs≠[])(h2:cs⁻¹<=1000)(Y:∀(l:AA)(y:DH),l⁻¹=n->(∀c∈l,c∈cs)->Pen y p->Sb p G y->k (.str l) y):oE.t [.ref p,.int n,.str cs] G k E:=by show cG (p,n,cs,rfl,hp,hn,h1,h2) λd y hx=>?_;let(p2,n2,O,l,J,U,l1,l2,z,sb):=hx;simp only[eL,D.ref.injEq,D.int.injEq,D.str.injEq,ke,and_true]at J;let(rfl,rfl,rfl):=J;subst U;exact Y l y l1 l2 z sb
def KN(ds:AS)(G:DH):Prop:=∃p,∃m:Int,ds=[.ref p,.int m]/\Pen G p/\0<m/\m<=100
def KQ(ds:AS)(G:DH)(d:D)(y:DH):Prop:=∃p,∃m:Int,∃xs:List (AA),ds=[.ref p,.int m]/\d=.lst (xs.map D.str)/\0<xs⁻¹/\xs⁻¹<=100/\(∀x∈xs,okD x)/\Pen y p/\Sb p G y
def sE:RF.Spec:=bN KN KQ
def Ar:List (AA):=[[97],[103,111],[115,116,97,121],[97,98,99,100,101,102,103,104],[110,111,110,101],[121,101,115],[105,110],[111,117,116],[107,101,101,112],[119,111,114,100],[122,122]]
def afw:∀x∈Ar,okD x:=by
 have h:∀x∈Ar,1<=x⁻¹/\x⁻¹<=8/\∀c∈x,97<=c/\c<=122:=by decide
 exact h
def KR{c:Nat}(h:c∈[97,98,99,100,101,102,103,104,105,106,107,108,109,110,111,112,113,114,115,116,117,118,119,120,121,122]):97<=c/\c<=122:=by
 have:∀c∈[97,98,99,100,101,102,103,104,105,106,107,108,109,110,111,112,113,114,115,116,117,118,119,120,121,122],97<=c/\c<=122:=by decide
 exact this c h
def afx(Z:aj)(h1:Z "_law_take"=eF)(h2:Z "_law_signs"=oE)(ds:AS)(G:DH)(h:KN ds G):aA Z z6 noE (env0 ds 4) G (ends (KQ ds G)):=by
 let(p,m,rfl,hp,m1,m2):=h;simp_all_arith[z6];nofun;erw[ends];show(!1,hM _ _ ?_);show(λtail=>tail Ar rfl afw) (?_:∀xs:List (AA),xs⁻¹=11->(∀x∈xs,okD x)->aA Z _ noE [-(.ref p),-(.int m),-(.lst (xs.map D.str)),none,none,none] G _);intro xs x1 x2;nofun;erw[h1];show cB hp (!1) (!1) λt G2 ht hp2 sb2=>?_;symm;erw[h1];show cB hp2 (!0) (!0) λr G3 hr hp3 sb3=>?_;erw[ends];show(!0,?_);show CompG.inv (P:=λi J Y O=>(∃o,Y=[o,-(.lst (xs.map D.str)),-(.int t)])/\O=G3/\∃ys:List (AA),J=ys.map D.str/\ys⁻¹=i/\∀y∈ys,okD y) ((_,rfl),rfl,[],rfl,rfl,!2) (λv v v v v=>trivial) (by simp[bf];bv_omega) ?_ ?_
 .rintro i d J Y O hd ⟨⟨o,rfl⟩,rfl,ys,rfl,y1,y2⟩ kk hk;unfold bf at hd;rw[aS]at hd;let(j,hj,rfl):=a9.mp hd;erw[ends];have q0:0<=((t:Int)+3*(0+(j:Int)))%11:=hX _ (!1);have q1:((t:Int)+3*(0+(j:Int)))%11<11:=g9 _ (!1);show(Ak (!1),!1,mZ q0 (by rw[ah,x1];exact q1) λa ha=>?_);let(x,hx,rfl):=bX.mp ha;show hk _ _ _ ((_,rfl),rfl,ys++[x],!2,by simp[y1],λy hy=>?_);rcases bp.mp hy with h|h
  .exact y2 y h
  .rw[ba.mp h];exact x2 x hx
 .rintro J Y O ⟨_,rfl,ys,rfl,y1,y2⟩;have hy:ys⁻¹=r+1:=by rw[y1];simp[bf];lia
  symm;erw[h1];show cB hp3 (!1) (!1) λq G4 hq hp4 sb4=>?_;have sb':=sb2.trans (sb3.trans sb4);erw[ends];cases hq0:((q:Int)==0) with
  |false=>
   show hM _ _ ?_;erw[ends];exact(p,m,ys,rfl,rfl,!0,!0,y2,hp4,sb')
  |true=>
   erw[ends];show CompG.inv (P:=λi J Y O=>(∃o,Y=[o,-(.ref p),-(.str [97,98,99,100,101,102,103,104,105,106,107,108,109,110,111,112,113,114,115,116,117,118,119,120,121,122])])/\Pen O p/\Sb p G O/\∃zs:List (AA),J=zs.map D.str/\zs⁻¹=i/\∀z∈zs,okD z) ((_,rfl),hp4,sb',[],rfl,rfl,!2) (λv v v v v=>trivial) (by simp;bv_omega) ?_ ?_
   .rintro i d J Y O hd ⟨⟨o,rfl⟩,U,sb5,zs,rfl,z1,z2⟩ kk hk;erw[h1,h2];show cB U (!1) (!1) λn G6 hn hp6 sb6=>?_;erw[ends];rw[show(1:Int)+(n:Int)=((n+1:Nat):Int) by lia];show afv hp6 (!0) (!2) (!2) λl G7 l1 l2 hp7 sb7=>?_;show hk _ _ _ ((_,rfl),hp7,sb5.trans (sb6.trans sb7),zs++[l],!2,by simp[z1],λz hz=>?_);rcases bp.mp hz with h|h
    .exact z2 z h
    .rw[ba.mp h];exact(!0,!0,λc hc=>KR (l2 c hc))
   .rintro J Y O ⟨_,U,sb5,zs,rfl,z1,z2⟩;rw[ah]at z1;show hM _ _ ?_;erw[ends];exact(p,m,zs,rfl,rfl,!0,!0,z2,U,sb5)
abbrev Row:=AA×AA
abbrev AU:=List Row
variable {rss:List (AU)}
def aq(r:Row):D:=.tup [.str r.1,.str r.2]
def au(w:Nat)(rs:AU):D:=.tup [.int w,.tup (rs.map aq)]
structure okB(w:Nat)(rs:AU):Prop where
 w1:1<=w
 w6:w<=6
 len:rs.length<=12
 form:∀r∈rs,okF w r.1
 deed:∀r∈rs,okD r.2
def KY(ds:AS)(G:DH):Prop:=∃p,∃w m:Nat,ds=[.ref p,.int w,.int m]/\Pen G p/\1<=w/\w<=6/\m<=12
def KZ(ds:AS)(G:DH)(d:D)(y:DH):Prop:=∃p,∃w m v:Nat,∃rs:AU,ds=[.ref p,.int w,.int m]/\d=au v rs/\okB v rs/\v<=w/\rs⁻¹<=m/\Pen y p/\Sb p G y
def sG:RF.Spec:=bN KY KZ
def afy{p:AQ}{w m:Nat}{k:AT}(hp:Pen G p)(h1:1<=w)(h2:w<=6)(U:m<=12)(Y:∀(v:Nat)(rs:AU)(y:DH),okB v rs->v<=w->rs⁻¹<=m->Pen y p->Sb p G y->k (au v rs) y):sG.t [.ref p,.int w,.int m] G k E:=by show cG (p,w,m,rfl,hp,h1,h2,U) λd y hx=>?_;let(p2,w2,m2,v,rs,J,O,o,q1,q2,z,sb):=hx;simp only[eL,D.ref.injEq,D.int.injEq,ke,and_true]at J;let(rfl,rfl,rfl):=J;subst O;exact Y v rs y o q1 q2 z sb
def afz{p:AQ}{m:Int}{k:AT}(Y:Pen G p)(h1:0<m)(h2:m<=100)(U:∀(xs:List (AA))(y:DH),0<xs⁻¹->xs⁻¹<=100->(∀x∈xs,okD x)->Pen y p->Sb p G y->k (.lst (xs.map D.str)) y):sE.t [.ref p,.int m] G k E:=by show cG (p,m,rfl,Y,h1,h2) λd y hx=>?_;let(p2,m2,xs,J,O,q1,q2,q3,z,sb):=hx;cases J;subst O;exact U xs y q1 q2 q3 z sb
theorem Dz{y:Type}{l:List y}{a:y}:atI (l++[a]) (Neg.neg 1)=-a:=by unfold atI ixN;rw[if_neg (!1),if_pos (by simp;lia),ax,i9,show(Neg.neg 1+((l⁻¹+1:Nat):Int)).toNat=l⁻¹ by lia];simp
theorem afA(Z:aj)(h1:Z "_law_take"=eF)(h2:Z "_law_deeds_of"=sE)(h3:Z "_law_form_like"=sy)(ds:AS)(G:DH)(h:KY ds G):aA Z Ab noE (env0 ds 5) G (ends (KZ ds G)):=by
 let(p,w,m,rfl,hp,w1,w2,m1):=h;simp_all_arith[Ab];nofun;erw[h1];show cB hp (!0) (!0) λn G2 hn hp2 sb2=>?_;erw[ends];rw[show(1:Int)+(n:Int)=((n+1:Nat):Int) by lia];symm;erw[h2];show afz hp2 (!1) (!1) λxs G3 x1 x2 x3 hp3 sb3=>?_;symm;erw[ends];show λq hq=>hM _ _ (seq λM hM=>?_);erw[ends];show λs hs=>hM _ _ (seq λM hM=>?_);have J:q≠s:=by rintro rfl;rw[bQ]at hs;cases hs
 have hs3:G3 s=none:=by rw[dM (Ne.symm J)]at hs;exact hs
 have O:p≠q:=hp3.ne hq;have U:p≠s:=hp3.ne hs3;have sa4:Sa G3 (aV (aV G3 q (.lst [])) s (.lst [])):=(Sa.new hq).trans (Sa.new hs);have hp4:=hp3.sa sa4;simp_arith![h1];show cB hp4 (!0) (!0) λr G5 hr hp5 sb5=>?_;simp_arith![ends];show(!0,?_);show ForG.inv (P:=λi Y G'=>(∃o,Y=[-(.ref p),-(.int w),-(.int m),-(.int ((n+1:Nat):Int)),-(.lst (xs.map D.str)),-(.ref q),-(.ref s),o])/\Pen G' p/\Sb p G G'/\
   ∃rs:AU,G' q=-(.lst ((rs.map (·.1)).map D.str))/\G' s=-(.lst (rs.map aq))/\rs⁻¹=i/\(∀r∈rs,okF (n+1) r.1)/\∀r∈rs,okD r.2) ((_,rfl),hp5,sb2.trans (sb3.trans (sa4.sb.trans sb5)),[],?_,?_,rfl,!2,!2) (λv v v v=>trivial) ?_ ?_
 .exact sb5 q _ (by rw[dM J];exact bQ) (Ne.symm O)
 .exact sb5 s _ bQ (Ne.symm U)
 .rintro i d Y G' hd ⟨⟨o,rfl⟩,hp6,sb6,rs,g1,g2,r1,r2,r3⟩ kk hk;have hi:i<r:=by
   have:=(al.mp hd).1;simpa [bf] using this
  simp_arith![ends];nofun;erw[h3,cZ g1];show afq (fs:=rs.map (·.1)) hp6 (!0) (!0) (c7 g1) (by simp;lia) (λf hf=>?_) λf G7 hf hp7 sb7=>?_
  .let(r',y,rfl):=bX.mp hf;exact r2 r' y
  have g1':=sb7 q _ g1 (Ne.symm O);have g2':=sb7 s _ g2 (Ne.symm U);erw[cZ g1'];show(by simp;bv_omega,hM _ _ (last ?_));have e2:aV G7 q (.lst ((rs.map (·.1)).map D.str++[.str f])) s=-(.lst (rs.map aq)):=by rw[dM (Ne.symm J)];exact g2'
  have hp8:Pen (aV G7 q (.lst ((rs.map (·.1)).map D.str++[.str f]))) p:=hp7.sb Sb.upd O;erw[h1,cZ e2,c7 bQ,Dz,ah];show cB hp8 (!0) (!0) λt G9 ht hp9 sb9=>?_;have e1':=sb9 q _ bQ (Ne.symm O);have e2':=sb9 s _ e2 (Ne.symm U);erw[cZ e2'];show mZ (!0) (by simp;lia) λx hx=>?_;let(dd,hdd,rfl):=bX.mp hx;show(!1,by simp;bv_omega,hk _ _ ((_,rfl),hp9.sb Sb.upd U,?_,rs++[(f,dd)],?_,?_,by simp[r1],?_,?_))
  .intro b ob hb nb;by_cases hbs:b=s
   .subst hbs;exfalso;have z:=sb2 b _ hb nb;have z:=sb3 b _ z nb;rw[hs3]at z;cases z
   .by_cases hbq:b=q
    .subst hbq;exfalso;have z:=sb2 b _ hb nb;have z:=sb3 b _ z nb;rw[hq]at z;cases z
    .rw[dM hbs];exact sb9 b _ (by rw[dM hbq];exact sb7 b _ (sb6 b _ hb nb) nb) nb
  .rw[dM J,e1'];simp
  .rw[bQ];simp[aq]
  .intro r' y;rcases bp.mp y with h|h
   .exact r2 r' h
   .rw[ba.mp h];exact hf
  .intro r' y;rcases bp.mp y with h|h
   .exact r3 r' h
   .rw[ba.mp h];exact x3 dd hdd
 .rintro Y G' ⟨⟨o,rfl⟩,hp6,sb6,rs,g1,g2,r1,r2,r3⟩;have hl:rs⁻¹=r:=by rw[r1];simp[bf]
  show hM _ _ ?_;erw[c7 g2];exact(!1,p,w,m,n+1,rs,rfl,rfl,(!0,!0,!0,r2,r3),!0,!0,hp6,sb6)
def alt(c:Nat):AA:=if c=42 then[48,49] else[c]
def step1(y:List (AA))(c:Nat):List (AA):=y.flatMap λt=>(alt c).map λs=>t++[s]
def aK(f:AA):List (AA):=f.foldl step1 [[]]
def Fits(f w:AA):Prop:=f⁻¹=w⁻¹/\∀(i c s:Nat),f[i]?=-c->w[i]?=-s->s∈alt c
def Av(f:AA)(c:Nat):aK (f++[c])=step1 (aK f) c:=by unfold aK;rw[List.foldl_append];rfl
def afB{c:Nat}{w:AA}:w∈step1 acc c↔∃t s,t∈acc/\s∈alt c/\w=t++[s]:=by
 unfold step1;rw[jS];constructor
 .rintro ⟨t,y,h⟩;let(s,hs,rfl):=bX.mp h;exact(t,s,y,hs,rfl)
 .rintro ⟨t,s,y,hs,rfl⟩;exact(t,y,bX.mpr (s,hs,rfl))
def Aw{w:AA}{c:Nat}:Fits (f++[c]) (w++[s])↔Fits f w/\s∈alt c:=by
 constructor
 .rintro ⟨h1,h2⟩;have hl:f⁻¹=w⁻¹:=by simpa using h1
  show((hl,λi y s' hc hs=>?_),?_)
  .have J:=(al.mp hc).1;exact h2 i y s' (by rw[gE J];exact hc) (by rw[gE (!0)];exact hs)
  .exact h2 f⁻¹ c s (!2) (by rw[hl];simp)
 .rintro ⟨⟨h1,h2⟩,z⟩;show(by simp[h1],λi y s' hc hs=>?_);by_cases hi:i<f⁻¹
  .rw[gE hi]at hc;rw[gE (!0)]at hs;exact h2 i y s' hc hs
  .have O:=(al.mp hc).1;simp at O;have e:i=f⁻¹:=by lia
   subst e;simp at hc;rw[h1]at hs;simp at hs;subst hc hs;exact z
def dX{w:AA}:w∈aK f↔Fits f w:=by
 induction f using Kr generalizing w with
 |nil=>
  simp[aK,Fits];constructor
  .rintro rfl;simp
  .intro h;exact dQ.mp h.symm
 |snoc f c z=>
  rw[Av,afB];constructor
  .rintro ⟨t,s,J,hs,rfl⟩;exact Aw.mpr (z.mp J,hs)
  .intro h;have hl:=h.1;simp at hl;have y:w≠[]:=by rintro rfl;simp at hl
   show(w.dropLast,w.getLast y,?_,?_,(hW y).symm)
   .rw[<-hW y]at h;exact z.mpr (Aw.mp h).1
   .rw[<-hW y]at h;exact(Aw.mp h).2
def Ax{w:AA}(h:w∈aK f):w⁻¹=f⁻¹:=(dX.mp h).1.symm
def K1{y:List (AA)}{c:Nat}:(step1 y c)⁻¹<=2*y⁻¹:=by
 unfold step1;induction y with
 |nil=>simp
 |cons a r z=>
  rw[List.flatMap_cons,ax,ah,ce];have:(alt c)⁻¹<=2:=by unfold alt;split<;>simp
  lia
def K5(f:AA):(aK f)⁻¹<=2 ^ f⁻¹:=by
 induction f using Kr with
 |nil=>simp[aK]
 |snoc f c y=>
  rw[Av,ax,i9,Nat.pow_succ];have:=@K1 (aK f) c;lia
def afC{a b:List (AA)}{c:Nat}:step1 (a++b) c=step1 a c++step1 b c:=by unfold step1;rw[List.flatMap_append]
def K6(ds:AS)(_:DH):Prop:=∃f:AA,ds=[.str f]/\f⁻¹<=12
def K7(ds:AS)(G:DH)(d:D)(y:DH):Prop:=∃f:AA,ds=[.str f]/\d=.lst ((aK f).map D.str)/\Sa G y
def oG:RF.Spec:=bN K6 K7
def Ay{k:AT}(h:f⁻¹<=12)(O:∀y,Sa G y->k (.lst ((aK f).map D.str)) y):oG.t [.str f] G k E:=by show cG (f,rfl,h) λd y U=>?_;let(f2,z,J,sa):=U;cases z;subst J;exact O y sa
theorem afD(Z:aj)(ds:AS)(G:DH)(h:K6 ds G):aA Z zO noE (env0 ds 4) G (ends (K7 ds G)):=by
 let(f,rfl,hf):=h;simp_all_arith[zO];nofun;erw[ends];show(!1,hM _ _ (seq λM hM=>?_));simp_arith![ends];show ForG.inv (P:=λi Y G'=>(∃o2 o3 O,Y=[-(.str f),-(.lst ((aK (f.take i)).map D.str)),o2,o3,O])/\Sa G G') ((_,_,_,rfl),Sa.refl G) (λx x x x=>trivial) ?_ ?_
 .rintro i d Y G2 hd ⟨⟨o2,o3,O,rfl⟩,sa⟩ kk hk;rw[aS]at hd;let(c,hc,rfl):=a9.mp hd;have hi:=(al.mp hc).1;have ht:f.take (i+1)=f.take i++[c]:=by rw[dy,hc];rfl
  have hcard:(aK (f.take i))⁻¹<=4096:=by
   have h1:=K5 (f.take i);have h2:(f.take i)⁻¹<=12:=by rw[bv];lia
   have h3:=gT (show 0<2 by decide) h2;have h4:2 ^ 12=4096:=by decide
   lia
  simp_arith![ends];nofun;erw[ends];show λq hq=>hM _ _ (seq λM hM=>?_);simp_arith![ends];show ForG.inv (P:=λj Y G'=>(∃O,Y=[-(.str f),-(.lst ((aK (f.take i)).map D.str)),-(.str [c]),-(.ref q),O])/\Sa G G'/\G' q=-(.lst ((step1 ((aK (f.take i)).take j) c).map D.str))) ((_,rfl),sa.trans (Sa.new hq),bQ) (λx x x x=>trivial) ?_ ?_
  .rintro j d Y G3 hd3 ⟨⟨O,rfl⟩,U,g3⟩ kk' hk';rw[aS]at hd3;let(t,J,rfl):=a9.mp hd3;have hj:=(al.mp J).1;have tlen:t⁻¹<=12:=by rw[Ax (bg J),bv];lia
   have tk:(aK (f.take i)).take (j+1)=(aK (f.take i)).take j++[t]:=by rw[dy,J];rfl
   have st:step1 [t] c=(alt c).map λs=>t++[s]:=by simp[step1]
   have l1:(step1 ((aK (f.take i)).take j) c)⁻¹<=8192:=by
    have:=@K1 ((aK (f.take i)).take j) c;have:((aK (f.take i)).take j)⁻¹<=4096:=by rw[bv];lia
    lia
   have al2:(alt c)⁻¹<=2:=by unfold alt;split<;>simp
   simp_arith![ends];show last ?_;erw[cZ g3];show(!1,?_);have ix:atI [D.str [48,49],D.str [c]] (if(!([c]==[42]))=true then 1 else 0)=-(.str (alt c)):=by
    unfold alt;by_cases z:c=42
    .subst z;rfl
    .have:([c]==[42])=false:=by simp[z]
     rw[this,if_neg z];rfl
   erw[ix];show CompG.map (f:=λd=>match d with |.str [s]=>.str (t++[s])|_=>.non) (I:=λY=>∃o,Y=[o,-(.str t)]) (_,rfl) trivial (by simp;bv_omega) ?_ ?_
   .rintro d Y hd ⟨o,rfl⟩ kk2 hk2;let(s,_,rfl):=bX.mp hd;erw[ends];exact(by bv_omega,hk2 _ (_,rfl))
   .rw[eP];erw[Function.comp_def,cZ g3,ah];show(by bv_omega,hk' _ _ ((_,rfl),?_,?_))
    .intro b ob hb;by_cases y:b=q
     .subst y;exfalso;have:=sa b _ hb;rw[hq]at this;cases this
     .rw[dM y];exact U b _ hb
    .rw[bQ,tk,afC,st,c9,eP];rfl
  .rintro Y G3 ⟨⟨O,rfl⟩,U,g3⟩;rw[ah,fo]at g3;ac_nf0;erw[g3];show hk _ _ ((_,_,_,by rw[ht,Av]),?_);intro b ob hb;have y:b≠q:=by
    rintro rfl;have:=sa b _ hb;rw[hq]at this;cases this
   rw[wI y];exact U b _ hb
 .rintro Y G2 ⟨⟨o2,o3,O,rfl⟩,sa⟩;rw[ah,fo];show hM _ _ ?_;erw[ends];exact(f,rfl,rfl,sa)
def letters:AA:=[97,98,99,100,101,102,103,104,105,106,107,108,109,110,111,112,113,114,115,116,117,118,119,120,121,122]
def afE:∀c:Fin 123,97<=c.1->letters.contains c.1=true:=by decide
def afF{c:Nat}:letters.contains c=true↔97<=c/\c<=122:=
 (λh=>KR (bn.mp h),λ(h1,h2)=>afE (c,Nat.lt_succ_of_le h2) h1)
def okW(w:Nat)(l:AA):Prop:=l⁻¹=w/\∀c∈l,c=48\/c=49
def Az{y:Type}(l:List y):bools (l.map λz=>D.bl true)=-(l.map λz=>true):=zF _ l
def Ba{z:Type}(l:List z):(l.map λv=>true).all id=true:=cr.mpr λx y=>by let(_,_,rfl):=bX.mp y;rfl
def Bb:RF.Spec:=cj (λa:AA×AA=>[.str a.1,.int a.2⁻¹,.str a.2]) (λa=>a.2⁻¹<=1000/\∀c∈a.2,a.1.contains c=true) (λz=>.bl true)
def afG(Z:aj)(a:AA×AA)(G:DH)(h:a.2⁻¹<=1000/\∀c∈a.2,a.1.contains c=true):aA Z nF noE (env0 [.str a.1,.int a.2⁻¹,.str a.2] 0) G (ends λd y=>y=G/\d=.bl true):=by
 let(s,l):=a;let(h1,h2):=h;dsimp only at h1 h2;erw[nF,BEq.rfl];show CompG.map (f:=λx=>.bl true) (I:=λY=>∃o,Y=[o,-(.str s)]) (_,rfl) trivial (by simp;bv_omega) ?_ ?_
 .rintro d Y hd ⟨o,rfl⟩ J z;let(c,hc,rfl):=bX.mp hd;erw[h2 c hc];exact z _ (_,rfl)
 .erw[Az,Ba]
def Bc:RF.Spec:=cj (λl:AA=>[.int l⁻¹,.str l]) (λl=>l⁻¹<=1000/\∀c∈l,isF c) (λz=>.bl true)
def afH(Z:aj)(h1:Z "is_text_of"=Bb)(l:AA)(G:DH)(h:l⁻¹<=1000/\∀c∈l,isF c):aA Z nG noE (env0 [.int l⁻¹,.str l] 0) G (ends λd y=>y=G/\d=.bl true):=by erw[nG,h1];exact cL ([48,49,42],l) rfl (h.1,λc hc=>by rcases h.2 c hc with rfl|rfl|rfl<;>rfl) (rfl,rfl)
def Bd:RF.Spec:=cj (λl:AA=>[.str l]) okD (λz=>.bl true)
def afI(Z:aj)(l:AA)(G:DH)(h:okD l):aA Z nA noE (env0 [.str l] 0) G (ends λd z=>z=G/\d=.bl true):=by
 let(h1,h2,U):=h;have J:decide ((1:Int)<=(l⁻¹:Int))=true:=cp (!0);have O:decide ((l⁻¹:Int)<=8)=true:=cp (!0);erw[nA,J,O];show CompG.map (f:=λx=>.bl true) (I:=λY=>∃o,Y=[o]) (_,rfl) trivial (by simp;bv_omega) ?_ ?_
 .rintro d Y hd ⟨o,rfl⟩ kk hk;let(c,hc,rfl):=bX.mp hd;have y:[97,98,99,100,101,102,103,104,105,106,107,108,109,110,111,112,113,114,115,116,117,118,119,120,121,122].contains c=true:=afF.mpr (U c hc);erw[y];exact hk _ (_,rfl)
 .erw[Az,Ba]
def Be:RF.Spec:=cj (λa:Nat×Row=>[.int a.1,aq a.2]) (λa=>a.1<=6/\okF a.1 a.2.1/\okD a.2.2) (λz=>.bl true)
def afJ(Z:aj)(h1:Z "is_form"=Bc)(h2:Z "is_deed"=Bd)(a:Nat×Row)(G:DH)(h:a.1<=6/\okF a.1 a.2.1/\okD a.2.2):aA Z nH noE (env0 [.int a.1,aq a.2] 0) G (ends λd z=>z=G/\d=.bl true):=by let(w,f,d):=a;let(hw,y,hd):=h;dsimp only at hw y hd;erw[nH,aq,h1,h2];erw[show((0+1+1:Nat):Int)=2 from rfl,BEq.rfl];show cL f (by rw[y.1]) (by rw[y.1];lia,y.2) ?_;erw[ends];exact cL d rfl hd (rfl,rfl)
def Bg:RF.Spec:=cj (λw:Nat=>[.int w]) (λw=>1<=w/\w<=6) (λz=>.bl true)
def afK(Z:aj)(h1:Z "is_whole"=aO jt)(w:Nat)(G:DH)(h:1<=w/\w<=6):aA Z nJ noE (env0 [.int w] 0) G (ends λd y=>y=G/\d=.bl true):=by have z:decide ((1:Int)<=(w:Int))=true:=cp (!0);have J:decide ((w:Int)<=6)=true:=cp (!0);erw[nJ,h1];show dD (d:=.bl true) rfl ?_;erw[z,J]
def Bh:RF.Spec:=cj (λa:Nat×AU=>[au a.1 a.2]) (λa=>okB a.1 a.2) (λz=>.bl true)
def afL(Z:aj)(h1:Z "is_width"=Bg)(h2:Z "is_row"=Be)(a:Nat×AU)(G:DH)(h:okB a.1 a.2):aA Z nM noE (env0 [au a.1 a.2] 2) G (ends λd J=>J=G/\d=.bl true):=by
 let(w,rs):=a;dsimp only at h ⊢;have y:=h.len;simp_all_arith[nM,au];nofun;erw[ends];erw[show((0+1+1:Nat):Int)=2 from rfl,BEq.rfl];symm;erw[ends];symm;erw[h1];show cL w rfl (h.w1,h.w6) ?_;have hd:decide ((12:Int)<((rs.map aq)⁻¹:Int))=false:=cw (by rw[ah];lia);erw[hd];show hM _ _ ?_;erw[ends];show CompG.map (f:=λx=>.bl true) (I:=λY=>∃o,Y=[o,-(.int w)]) (_,rfl) trivial (by rw[ah];bv_omega) ?_ ?_
 .rintro d Y hd ⟨o,rfl⟩ U O;let(r,z,rfl):=bX.mp hd;erw[h2];exact cL (w,r) rfl (h.w6,h.form r z,h.deed r z) (O _ (_,rfl))
 .erw[Az,Ba]
def oH:RF.Spec:=cj (λa:Nat×AU=>[au a.1 a.2]) (λa=>okB a.1 a.2) (λz=>.non)
def Bj{w:Nat}{rs:AU}{k:AT}(h:okB w rs)(y:k .non G):oH.t [au w rs] G k E:=cL (w,rs) rfl h y
def afM(Z:aj)(h1:Z "is_book"=Bh)(a:Nat×AU)(G:DH)(h:okB a.1 a.2):aA Z nO noE (env0 [au a.1 a.2] 0) G (ends λd y=>y=G/\d=.non):=by erw[nO,h1];show cL a rfl h ?_;erw[ends]
def dY(c s:Nat):Bool:=c==42||c==s
def bY:AA->AA->Bool
 |c::f,s::w=>dY c s&&bY f w
 |_,_=>true
def bL(f w:AA):Bool:=decide (f⁻¹=w⁻¹)&&bY f w
def oJ:AS->Option D
 |[.str f,.str w]=>if decide (f⁻¹<=100000) then some (.bl (bL f w)) else none
 |_=>none
def oK:∀(f w:AA),cF (f.map λc=>D.str [c]) (w.map λc=>D.str [c])=(f.zip w).map λp=>D.tup [.str [p.1],.str [p.2]]
 |[],w=>by simp[cF]
 |c::f,[]=>by simp[cF]
 |c::f,s::w=>by simp[cF,oK f w]
def K8:∀(f w:AA),((f.zip w).map λp=>dY p.1 p.2).all id=bY f w
 |[],w=>by simp[bY]
 |c::f,[]=>by simp[bY]
 |c::f,s::w=>by simp[bY,K8 f w]
def eH{c:Nat}:(([c]==[s]):Bool)=(c==s):=by
 by_cases h:c=s
 .subst h;simp
 .rw[dL.mpr h,dL.mpr (by simp[h])]
def afN{a b:Nat}:((((a:Nat):Int)==((b:Nat):Int)):Bool)=decide (a=b):=by
 by_cases h:a=b
 .subst h;simp
 .rw[cw h,dL];lia
theorem afO(Z:aj)(ds:AS)(G:DH)(d:D)(h:oJ ds=-d):aA Z m8 noE (env0 ds 0) G (ends λd' y=>y=G/\d'=d):=by
 unfold oJ at h;split at h
 .rename_i f w;split at h
  .rename_i hl;have hl:=fw hl;cases h;erw[m8,afN,bL];cases he:decide (f⁻¹=w⁻¹) with
   |false=>erw[Bool.false_and]
   |true=>
    erw[oK,iP];show CompG.map (f:=λd=>match d with |.tup [.str [c],.str [s]]=>.bl (dY c s)|_=>.non) (I:=λY=>∃o o',Y=[o,o']) (_,_,rfl) trivial (by simp;bv_omega) ?_ ?_
    .rintro d Y hd ⟨o,o',rfl⟩ J z;let((c,s),_,rfl):=bX.mp hd;erw[eH];have:=z [-(.str [c]),-(.str [s])] (_,_,rfl);unfold dY at this;cases hc:(c==42) with
     |true=>erw[hc]at this ⊢;exact this
     |false=>erw[hc]at this ⊢;exact this
    .rw[eP];erw[Function.comp_def,zF,K8,and_self]
  .cases h
 .cases h
def K9{c:Nat}(hs:s=48\/s=49):dY c s=true↔s∈alt c:=by
 unfold dY alt;by_cases h:c=42
 .subst h;simp;rcases hs with rfl|rfl<;>simp
 .simp[h];exact eq_comm
def bD(rs:AU)(w:AA):Option Nat:=rs.findIdx? λr=>bL r.1 w
def aW:Option Nat->D
 |some n=>.int n
 |none=>.non
def La{w:Nat}{rs ss:AU}(h:au w rs=au v ss):w=v/\rs=ss:=by
 unfold au at h;simp only[D.tup.injEq,eL,D.int.injEq,ke,and_true]at h;show(h.1,?_);have h2:=h.2;clear h;induction rs generalizing ss with
 |nil=>cases ss with
  |nil=>rfl
  |cons _ _=>simp at h2
 |cons r rs y=>cases ss with
  |nil=>simp at h2
  |cons s ss=>
   simp only[db,eL]at h2;have e:r=s:=by have:=h2.1;unfold aq at this;simp only[D.tup.injEq,eL,D.str.injEq,and_true]at this;exact Prod.ext this.1 this.2
   rw[e,y h2.2]
def afP{rs:AU}{i:Nat}{r:Row}(h:rs[i]?=-r):bD (rs.drop i) l=if bL r.1 l then some 0 else(bD (rs.drop (i+1)) l).map (·+1):=by
 have hi:=(al.mp h).1;have e:rs.drop i=r::rs.drop (i+1):=by rw[cf hi];rw[(al.mp h).2]
 rw[e];unfold bD;rw[i0]
def kY(rs:AU):Option Nat->D
 |some n=>match rs[n]? with|some r=>.str r.2|none=>.non
 |none=>.non
def afQ{rs:AU}(h:bD rs l=-n):n<rs⁻¹:=by unfold bD at h;exact(List.findIdx?_eq_some_iff_findIdx_eq.mp h).1
def sH:RF.Spec:=bN (λds z=>∃w rs o,ds=[au w rs,aW o]/\∀n,o=-n->n<rs⁻¹) (λds G d y=>y=G/\∃w rs o,ds=[au w rs,aW o]/\d=kY rs o)
def afR{a b:Option Nat}(h:aW a=aW b):a=b:=by cases a<;>cases b<;>simp[aW]at h ⊢<;>lia
def Lb{w:Nat}{rs:AU}{o:Option Nat}{k:AT}(h:∀n,o=-n->n<rs⁻¹)(U:k (kY rs o) G):sH.t [au w rs,aW o] G k E:=by show cG (w,rs,o,rfl,h) λd G' Y=>?_;let(z,w2,rs2,o2,y,J):=Y;simp only[eL,and_true]at y;let(y,O):=y;let(rfl,rfl):=La y;cases afR O;subst z J;exact U
def afS(Z:aj)(ds:AS)(G:DH)(h:∃w rs o,ds=[au w rs,aW o]/\∀n,o=-n->n<rs⁻¹):aA Z kW noE (env0 ds 0) G (ends λd y=>y=G/\∃w rs o,ds=[au w rs,aW o]/\d=kY rs o):=by
 let(w,rs,o,rfl,ho):=h;cases o with
 |none=>
  erw[kW,aW];exact(w,rs,none,rfl,rfl)
 |some n=>
  have hn:=ho n rfl;erw[kW,aW,au];show aR (a:=aq rs[n]) (bA (by simp[hn])) ?_;erw[aq];exact(w,rs,-n,rfl,by simp[kY,hn])
def kZ{y z:Type}(f:y->z)(l:List y)(n:Nat):cut (l.map f) none (-(n:Int))=(l.take n).map f:=by rw[rR,List.map_take]
def Bk{y z:Type}(f:y->z)(l:List y)(n:Nat):cut (l.map f) (-(n:Int)) none=(l.drop n).map f:=by rw[rT,List.map_drop]
def okB.sub{w:Nat}{rs ss:AU}(h:okB w rs)(hl:ss⁻¹<=rs⁻¹)(hs:∀r∈ss,r∈rs):okB w ss:=
 (h.w1,h.w6,cb hl h.len,λr y=>h.form r (hs r y),λr y=>h.deed r (hs r y))
def Ld(c:Nat)(n:Nat):reps [c] n=List.replicate n c:=by
 unfold reps;induction n with
 |zero=>rfl
 |succ n y=>rw[e6,kq,y,e6];rfl
def afT(w:Nat):okF w (List.replicate w 42):=(de,λc hc=>.inr (.inr (List.eq_of_mem_replicate hc)))
def afU{w:Nat}:Fits (List.replicate w 42) l↔okW w l:=by
 constructor
 .rintro ⟨h1,h2⟩;rw[de]at h1;show(h1.symm,λc hc=>?_);let(i,hi,rfl):=List.getElem_of_mem hc;have:=h2 i 42 l[i] (by rw[List.getElem?_replicate];rw[if_pos (!0)]) (by simp[hi]);simpa [alt] using this
 .rintro ⟨h1,h2⟩;show(by rw[de,h1],λi c s hc hs=>?_);rw[List.getElem?_replicate]at hc;split at hc
  .cases hc;have:=h2 s (bg hs);simpa [alt] using this
  .cases hc
def afV{p:AQ}{k:AT}(Y:Pen G p)(U:∀y,Pen y p->Sb p G y->k (.ref p) y):sr.t [.ref p] G k E:=
 cG (p,rfl,Y) λd y hx=>by let(p2,J,O,z,sb):=hx;cases J;subst O;exact U y z sb
def cN(a b:Nat):Option Nat:=if a=42 then some b else if b=42\/b=a then some a else none
def bT:AA->AA->Option (AA)
 |a::f,b::g=>match cN a b with|some c=>(bT f g).map (c::·)|none=>none
 |_,_=>-[]
def aU:Option (AA)->D
 |some l=>.str l
 |none=>.non
def oM:AS->Option D
 |[.str f,.str g]=>if decide (f⁻¹<=100000) then some (aU (bT f g)) else none
 |_=>none
theorem afW{i a b:Nat}(h:(f.zip g)[i]?=-(a,b)):bT (f.drop i) (g.drop i)=match cN a b with|some c=>(bT (f.drop (i+1)) (g.drop (i+1))).map (c::·)|none=>none:=by
 have y:=al.mp h;let(hl,he):=y;rw[hV]at hl;have h1:i<f⁻¹:=by lia
 have h2:i<g⁻¹:=by lia
 rw[List.getElem_zip]at he;rw[cf h1,cf h2];simp only[Prod.mk.injEq]at he;rw[he.1,he.2];rfl
def afX:bT (f.drop (f.zip g)⁻¹) (g.drop (f.zip g)⁻¹)=-[]:=by
 rw[hV];by_cases h:f⁻¹<=g⁻¹
 .rw[Nat.min_eq_left h,eR];cases g.drop f⁻¹<;>rfl
 .rw[Nat.min_eq_right (!0),eR];cases f.drop g⁻¹<;>rfl
def afY(Z:aj)(ds:AS)(G:DH)(d:D)(h:oM ds=-d):aA Z nT noE (env0 ds 3) G (ends λd' U=>U=G/\d'=d):=by
 unfold oM at h;split at h
 .rename_i f g;split at h
  .rename_i hl;have hl:=fw hl;cases h;simp_all_arith[nT];nofun;erw[ends];symm;simp_arith![oK];show ForG.inv (P:=λi Y U=>(∃o3 o4 m,Y=[-(.str f),-(.str g),-(.str m),o3,o4]/\m⁻¹=i/\bT f g=(bT (f.drop i) (g.drop i)).map (m ++ ·))/\U=G) ((_,_,[],rfl,rfl,!2),rfl) (λv v v v=>trivial) ?_ ?_
   .rintro i d Y U hd ⟨⟨o3,o4,m,rfl,hm,O⟩,rfl⟩ kk hk;rw[aS]at hd;let((a,b),hab,rfl):=a9.mp hd;have hi:=(al.mp hab).1;rw[hV]at hi;rw[afW hab]at O;simp_arith![ends];show last ?_;have put:∀(c:Nat)(o3 o4:Option D),cN a b=-c->m⁻¹+1<=sz/\kk [-(.str f),-(.str g),-(.str (m++[c])),o3,o4] U:=by
     intro c o3 o4 hc;rw[hc]at O;show(by bv_omega,hk _ _ ((_,_,_,rfl,by simp[hm],?_),rfl));rw[O,Option.map_map];congr 1;funext x;simp
    erw[eH];by_cases z:a=42
    .have:((a==42):Bool)=true:=by simp[z]
     erw[this];exact put b _ _ (if_pos z)
    .have h0:((a==42):Bool)=false:=by simp[z]
     erw[h0,eH];by_cases y:b=42
     .have:((b==42):Bool)=true:=by simp[y]
      erw[this];exact put a _ _ (by unfold cN;rw[if_neg z,if_pos (.inl y)])
     .have h1:((b==42):Bool)=false:=by simp[y]
      erw[h1,eH];by_cases J:b=a
      .have:((b==a):Bool)=true:=by simp[J]
       erw[this];exact put a _ _ (by unfold cN;rw[if_neg z,if_pos (.inr J)])
      .have:((b==a):Bool)=false:=by simp[J]
       erw[this];have hn:cN a b=none:=by unfold cN;rw[if_neg z,if_neg (by rintro(h|h);exact y h;exact J h)]
       rw[hn]at O;rw[O];rfl
   .rintro Y U ⟨⟨o3,o4,m,rfl,hm,O⟩,rfl⟩;rw[ah,afX]at O;show hM _ _ ?_;erw[ends];rw[O];simp[aU]
  .cases h
 .cases h
def gQ:AS->Option D
 |[.str f,.int n,.str [c]]=>if decide (0<=n)&&decide (n<f⁻¹)&&decide (f⁻¹<=1000) then some (.str (f.set n.toNat c)) else none
 |_=>none
def Lg{c:Nat}(h:n<l⁻¹):l.take n++[c]++l.drop (n+1)=l.set n c:=by rw[i8,if_pos h];simp
theorem afZ(Z:aj)(ds:AS)(G:DH)(d:D)(h:gQ ds=-d):aA Z nq noE (env0 ds 0) G (ends λd' y=>y=G/\d'=d):=by
 unfold gQ at h;split at h
 .rename_i f n c;split at h
  .rename_i hl;simp only[ae,br]at hl;let((h0,h1),h2):=hl;cases h;let(k,rfl):=dS h0;erw[nq,rR,Kp,ax,bv,cq,e8,Lg (show k<f⁻¹ by lia)];exact(by bv_omega,by bv_omega)
  .cases h
 .cases h
def ju:AS->Option D
 |[.int n]=>if decide (0<=n)&&decide (n<=1000) then some (.str (List.replicate n.toNat 42)) else none
 |_=>none
theorem af0(Z:aj)(ds:AS)(G:DH)(d:D)(h:ju ds=-d):aA Z n8 noE (env0 ds 0) G (ends λd' y=>y=G/\d'=d):=by
 unfold ju at h;split at h
 .rename_i n;split at h
  .rename_i hl;simp only[ae,br]at hl;cases h;erw[n8,Ld];exact(hl.1,hl.2,by bv_omega)
  .cases h
 .cases h
def bZ(rs:AU)(b:AA):Option Nat:=rs.findIdx? λr=>(bT r.1 b).isSome
def Lh(ds:AS)(_:DH):Prop:=∃(rs:AU)(b:AA),ds=[.tup (rs.map aq),.str b]/\∀r∈rs,r.1⁻¹<=1000
def Li(ds:AS)(G:DH)(d:D)(y:DH):Prop:=y=G/\∃(rs:AU)(b:AA),ds=[.tup (rs.map aq),.str b]/\d=aW (bZ rs b)
def oN:RF.Spec:=bN Lh Li
def Bl{rs ss:AU}(h:rs.map aq=ss.map aq):rs=ss:=(La (w:=0) (v:=0) (by unfold au;rw[h])).2
def Lj{rs:AU}{b:AA}{k:AT}(h:∀r∈rs,r.1⁻¹<=1000)(O:k (aW (bZ rs b)) G):oN.t [.tup (rs.map aq),.str b] G k E:=by show cG (rs,b,rfl,h) λd G' U=>?_;let(z,Y,b2,y,J):=U;simp only[eL,D.str.injEq,D.tup.injEq,and_true]at y;let(y,rfl):=y;cases Bl y;subst z J;exact O
def af1{o:Option (AA)}:fZ (aU o)=!o.isSome:=by cases o<;>rfl
def af2{o:Option (AA)}:view G (aU o)=aU o:=by cases o<;>rfl
def af3{rs:AU}{b:AA}{i:Nat}{r:Row}(h:rs[i]?=-r):bZ (rs.drop i) b=if(bT r.1 b).isSome then some 0 else(bZ (rs.drop (i+1)) b).map (·+1):=by
 have hi:=(al.mp h).1;have e:rs.drop i=r::rs.drop (i+1):=by rw[cf hi];rw[(al.mp h).2]
 rw[e];unfold bZ;rw[i0]
def af4(Z:aj)(h1:Z "both"=aO oM)(ds:AS)(G:DH)(h:Lh ds G):aA Z nU noE (env0 ds 2) G (ends (Li ds G)):=by
 let(rs,b,rfl,hb):=h;simp_all_arith[nU];nofun;simp_arith![ends];show ForG.inv (P:=λi Y J=>(∃O U,Y=[-(.tup (rs.map aq)),-(.str b),O,U])/\J=G/\bZ rs b=(bZ (rs.drop i) b).map (·+i)) ((_,_,rfl),rfl,!2) (λx x x x=>trivial) ?_ ?_
 .rintro i d Y J hd ⟨⟨O,U,rfl⟩,rfl,y⟩ kk hk;rw[jo]at hd;let(d',z,rfl):=a9.mp hd;rw[aS]at z;let(r,hr,rfl):=a9.mp z;have hrl:=hb r (bg hr);rw[af3 hr]at y;simp_arith![ends];show last ?_;erw[h1,aq];show dD (d:=aU (bT r.1 b)) (if_pos (cp (!0))) ?_;erw[af2,af1];cases hf:(bT r.1 b).isSome with
  |true=>
   rw[hf,if_pos rfl]at y;exact(rfl,rs,b,rfl,by rw[y];simp[aW])
  |false=>
   rw[hf,if_neg ck]at y;show hk _ _ ((_,_,rfl),rfl,?_);rw[y,Option.map_map];congr 1;funext n;simp;lia
 .rintro Y J ⟨⟨O,U,rfl⟩,rfl,y⟩;rw[iD,ah,eR]at y;show hM _ _ ?_;erw[ends];exact(rfl,rs,b,rfl,by rw[y];rfl)
def du(f b:AA):Option Nat:=(f.zip b).findIdx? λp=>p.2==42&&!(p.1==42)
def dG(rs:AU)(b:AA):Option Nat:=match bZ rs b with|some n=>(match rs[n]? with|some r=>du r.1 b|none=>none)|none=>none
def Lk(ds:AS)(_:DH):Prop:=∃(rs:AU)(b:AA),ds=[.tup (rs.map aq),.str b]/\(∀r∈rs,r.1⁻¹=b⁻¹)/\b⁻¹<=1000
def Ln(ds:AS)(G:DH)(d:D)(y:DH):Prop:=y=G/\∃(rs:AU)(b:AA),ds=[.tup (rs.map aq),.str b]/\d=aW (dG rs b)
def sI:RF.Spec:=bN Lk Ln
def af5{rs:AU}{b:AA}{k:AT}(h:∀r∈rs,r.1⁻¹=b⁻¹)(hl:b⁻¹<=1000)(O:k (aW (dG rs b)) G):sI.t [.tup (rs.map aq),.str b] G k E:=by show cG (rs,b,rfl,h,hl) λd G' U=>?_;let(z,Y,b2,y,J):=U;simp only[eL,D.str.injEq,D.tup.injEq,and_true]at y;let(y,rfl):=y;cases Bl y;subst z J;exact O
def sJ{rs:AU}{b:AA}(h:bZ rs b=-n):n<rs⁻¹:=(List.findIdx?_eq_some_iff_findIdx_eq.mp h).1
def af6{b:AA}{i c:Nat}(hs:f[i]?=-s)(hc:b[i]?=-c):du (f.drop i) (b.drop i)=if(c==42&&!(s==42))=true then some 0 else(du (f.drop (i+1)) (b.drop (i+1))).map (·+1):=by have h1:=al.mp hs;have h2:=al.mp hc;rw[cf h1.1,cf h2.1,h1.2,h2.2];unfold du;rw[List.zip_cons_cons,i0]
def af7(Z:aj)(h1:Z "first_touching"=oN)(ds:AS)(G:DH)(h:Lk ds G):aA Z nW noE (env0 ds 3) G (ends (Ln ds G)):=by
 let(rs,b,rfl,hb,hbl):=h;simp_all_arith[nW];nofun;erw[h1];show Lj (λr hr=>by rw[hb r hr];exact hbl) (hM _ _ (seq λM hM=>?_));cases ht:bZ rs b with
 |none=>
  erw[aW];exact(rfl,rs,b,rfl,by unfold dG;rw[ht];rfl)
 |some n=>
  have hn:=sJ ht;have hlen:=hb rs[n] (fq _);have J:dG rs b=du rs[n].1 b:=by unfold dG;rw[ht];simp[hn]
  erw[aW];symm;simp_arith![ends];show aR (a:=aq rs[n]) (bA (by simp[hn])) ?_;simp_arith![aq];generalize rs[n].1=f at hlen J;show ForG.inv (P:=λi Y G'=>(∃o3 o4,Y=[-(.tup (rs.map aq)),-(.str b),-(.int (n:Int)),o3,o4])/\G'=G/\du f b=(du (f.drop i) (b.drop i)).map (·+i)) ((_,_,rfl),rfl,!2) (λx x x x=>trivial) ?_ ?_
  .rintro i d Y G' hd ⟨⟨o3,o4,rfl⟩,rfl,hs⟩ kk hk;rw[jo]at hd;let(d',U,rfl):=a9.mp hd;rw[aS]at U;let(s,hsi,rfl):=a9.mp U;have hi:=(al.mp hsi).1;have hib:i<b⁻¹:=by lia
   have O:b[i]?=-b[i]:=by simp[hib]
   rw[af6 hsi O]at hs;simp_arith![ends];show last ?_;erw[ends];show aR (a:=b[i]) (by rw[Nat.zero_add];exact bA O) ?_;erw[eH];cases z:(b[i]==42) with
   |false=>
    simp only[z,Bool.false_and,if_neg ck]at hs;erw[ends];show hk _ _ ((_,_,rfl),rfl,?_);rw[hs,Option.map_map];congr 1;funext n;simp;lia
   |true=>
    erw[eH];cases y:(s==42) with
    |true=>
     simp only[z,y,kf,g6,if_neg ck]at hs;erw[ends];show hk _ _ ((_,_,rfl),rfl,?_);rw[hs,Option.map_map];congr 1;funext n;simp;lia
    |false=>
     simp only[z,y,Bool.not_false,Bool.and_true,if_pos]at hs;erw[ends];exact(rfl,rs,b,rfl,by rw[J,hs];simp[aW])
  .rintro Y G' ⟨⟨o3,o4,rfl⟩,rfl,hs⟩;rw[iD,ah,eR]at hs;show hM _ _ ?_;erw[ends];exact(rfl,rs,b,rfl,by rw[J,hs];simp[du,aW])
def lg:AA:=[115,112,108,105,116]
def stc(b:AA):Nat:=b.countP (·==42)
def lq{b:AA}{c:Nat}(h:b[n]?=-42)(hc:c≠42):stc (b.set n c)+1=stc b:=by
 let(hl,he):=al.mp h;have y:b=b.take n++42::b.drop (n+1):=by rw[<-he,<-cf hl,e9]
 have z:b.set n c=b.take n++c::b.drop (n+1):=by rw[i8,if_pos hl]
 unfold stc;rw[z];conv=>rhs;rw[y]
 rw[List.countP_append,List.countP_append,List.countP_cons_of_neg (by simp[hc]),List.countP_cons_of_pos (!2)];lia
def oO{w c:Nat}{b:AA}(h:okF w b)(hc:isF c):okF w (b.set n c):=(by rw[da];exact h.1,λd hd=>by
 rcases List.mem_or_eq_of_mem_set hd with h'|h'
 .exact h.2 d h'
 .rw[h'];exact hc)
def Bm:isF 48:=.inl rfl
def Bo:isF 49:=.inr (.inl rfl)
inductive Gr (name:AA) (rss:List (AU)):AA->D->Prop
 |leaf (b:AA) (h:∀rs∈rss,dG rs b=none):Gr name rss b (.tup (.str name::rss.map λrs=>aW (bZ rs b)))
 |node (b:AA) (n:Nat) (z o:D) (h:b[n]?=some 42) (hz:Gr name rss (b.set n 48) z) (ho:Gr name rss (b.set n 49) o):Gr name rss b (.tup [.str lg,.int n,z,o])
def fJ(y:List (AU)):AS:=y.map λrs=>.tup (rs.map aq)
structure okG(w:Nat)(name:AA)(rss:List (AU)):Prop where
 len:rss.length<=100
 nl:name.length<=100
 form:∀rs∈rss,∀r∈rs,r.1.length=w
 w1000:w<=1000
def Lp(n:Nat)(ds:AS)(_:DH):Prop:=∃(w:Nat)(name:AA)(y:List (AU))(b:AA),ds=[.str name,.lst (fJ y),.str b]/\okG w name y/\b⁻¹=w/\stc b<n
def Lq(ds:AS)(G:DH)(d:D)(z:DH):Prop:=z=G/\∃(name:AA)(y:List (AU))(b:AA),ds=[.str name,.lst (fJ y),.str b]/\Gr name y b d
def gf(n:Nat):RF.Spec:=bN (Lp n) Lq
def af8{a b:List (AU)}(h:fJ a=fJ b):a=b:=by
 unfold fJ at h;induction a generalizing b with
 |nil=>cases b with
  |nil=>rfl
  |cons _ _=>simp at h
 |cons x a z=>cases b with
  |nil=>simp at h
  |cons y b=>
   simp only[db,eL,D.tup.injEq]at h;rw[Bl h.1,z h.2]
def Bp{w:Nat}{name:AA}{b:AA}{k:AT}(h:okG w name rss)(Y:b⁻¹=w)(hs:stc b<n)(hk:∀d,Gr name rss b d->k d G):(gf n).t [.str name,.lst (fJ rss),.str b] G k E:=by show cG (w,name,rss,b,rfl,h,Y,hs) λd G' hx=>?_;let(O,z,J,b2,y,U):=hx;simp only[eL,D.str.injEq,D.lst.injEq,and_true]at y;let(rfl,y,rfl):=y;cases af8 y;subst O;exact hk d U
theorem af9{b:AA}(h:du f b=-n):b[n]?=-42:=by unfold du at h;have h2:=gz.mp h;let(hl,y,_):=h2;rw[hV]at hl;rw[List.getElem_zip]at y;simp only[ae,aw]at y;rw[aI (!0),y.1]
def aga{rs:AU}{b:AA}(h:dG rs b=-n):b[n]?=-42:=by
 unfold dG at h;split at h
 .split at h
  .exact af9 h
  .cases h
 .cases h
theorem oR{b:AA}{c:Nat}{k:AT}(h:n<b⁻¹)(hl:b⁻¹<=1000)(y:k (.str (b.set n c)) G):(aO gQ).t [.str b,.int n,.str [c]] G k E:=
 dD (by
  unfold gQ;dsimp only;rw[if_pos (by simp only[ae,br];lia),e8]) y
def agb(Z:aj)(n:Nat)(h0:Z "grown"=gf n)(h1:Z "first_touching"=oN)(h2:Z "splitting_place"=sI)(h3:Z "with_sign"=aO gQ)(ds:AS)(G:DH)(h:Lp (n+1) ds G):aA Z kO noE (env0 ds 4) G (ends (Lq ds G)):=by
 let(w,name,y,b,rfl,hg,hb,hs):=h;have hw:=hg.w1000;simp_all_arith[kO];nofun;simp_arith![ends];show ForG.inv (P:=λi Y G'=>(∃o3 o4 o5 o6,Y=[-(.str name),-(.lst (fJ y)),-(.str b),o3,o4,o5,o6])/\G'=G/\∀rs∈y.take i,dG rs b=none) ((_,_,_,_,rfl),rfl,!2) (λx x x x=>trivial) ?_ ?_
 .rintro i d Y G' hd ⟨⟨o3,o4,o5,o6,rfl⟩,rfl,J⟩ kk hk;unfold fJ at hd;rw[aS]at hd;let(rs,U,rfl):=a9.mp hd;simp_arith![ends];nofun;erw[h2];show af5 (λr hr=>by rw[hg.form rs (bg U) r hr,hb]) (!0) (hM _ _ (last ?_));cases hsp:dG rs b with
  |none=>
   erw[aW];show hk _ _ ((_,_,_,_,rfl),rfl,λrs' hrs'=>?_);rw[dy,U]at hrs';rcases bp.mp hrs' with h|h
   .exact J rs' h
   .have:rs'=rs:=by simpa using h
    rw[this];exact hsp
  |some at'=>
   have hst:=aga hsp;have hat:=(al.mp hst).1;simp_arith![aW];nofun;erw[h0,h3];show oR hat (!0) (Bp hg (by rw[da];exact hb) (by have:=lq hst (show 48≠42 by decide);lia) λz hz=>hM _ _ (seq λM hM=>?_));erw[h0,h3];show oR hat (!0) (Bp hg (by rw[da];exact hb) (by have:=lq hst (show 49≠42 by decide);lia) λo ho=>hM _ _ (last ?_));erw[ends];exact(!1,rfl,name,y,b,rfl,.node b at' z o hst hz ho)
 .rintro Y G' ⟨⟨o3,o4,o5,o6,rfl⟩,rfl,J⟩;have O:(fJ y)⁻¹=y⁻¹:=ah _;rw[O,fo]at J;have hrl:=hg.len;show hM _ _ ?_;erw[h1];show(!1,CompG.inv (P:=λi acc Y G''=>(∃o,Y=[o,-(.str b)])/\G''=G'/\acc=(y.take i).map λrs=>aW (bZ rs b)) ((_,rfl),rfl,rfl) (λx x x x x=>trivial) (by rw[O];bv_omega) ?_ ?_)
  .rintro i d acc Y G'' hd ⟨⟨o,rfl⟩,rfl,rfl⟩ kk hk;unfold fJ at hd;rw[aS]at hd;let(rs,U,rfl):=a9.mp hd;erw[h1];show Lj (λr hr=>by rw[hg.form rs (bg U) r hr];lia) (hk _ _ _ ((_,rfl),rfl,?_));rw[dy,U];simp
  .rintro acc Y G'' ⟨_,rfl,rfl⟩;rw[O,fo];erw[ah];exact(by bv_omega,rfl,name,y,b,rfl,.leaf b J)
def agc(ds:AS)(G:DH)(a:(gf 0).A):¬(gf 0).pre ds G a:=λzZ=>by let(_,_,_,_,_,_,_,_,h):=zZ;lia
def agd(w:Nat):stc (List.replicate w 42)<=w:=by have:=List.countP_le_length (p:=(·==42)) (l:=List.replicate w 42);rw[de]at this;exact this
def Lr:∀{f b w:AA},bT f b=none->(∀s∈w,s=48\/s=49)->Fits b w->bY f w=true->False
 |[],b,w,h,_,_,_=>by cases b<;>cases h
 |a::f,[],w,h,_,_,_=>by cases h
 |a::f,c::b,[],h,_,hf,_=>by have:=hf.1;simp at this
 |a::f,c::b,s::w,h,hw,hf,hz=>by
  rw[bY,ae]at hz;have hs:=hf.2 0 c s rfl rfl;have y:Fits b w:=(by have:=hf.1;simpa using this,λi z s' h1 h2=>hf.2 (i+1) z s' (!!h1) (!!h2));unfold bT at h;cases h1:cN a c with
  |some x=>
   rw[h1]at h;simp only[Option.map_eq_none_iff]at h;exact Lr h (λs hs=>hw s (bP _ hs)) y hz.2
  |none=>
   unfold cN at h1;split at h1
   .cases h1
   .split at h1
    .cases h1
    .rename_i J hc;have h2:=(K9 (hw s aT)).mp hz.1;unfold alt at hs h2;rw[if_neg J]at h2;have es:s=a:=by simpa using h2
     split at hs
     .rename_i e;exact hc (.inl e)
     .have:s=c:=by simpa using hs
      exact hc (.inr (!0))
def Ls:∀{f b w:AA},f⁻¹=b⁻¹->(bT f b).isSome=true->du f b=none->(∀s∈w,s=48\/s=49)->Fits b w->bY f w=true
 |[],b,w,_,_,_,_,_=>rfl
 |a::f,[],w,h,_,_,_,_=>by simp at h
 |a::f,c::b,[],_,_,_,_,hf=>rfl
 |a::f,c::b,s::w,hl,hb,hs,hw,hf=>by
  have y:=hf.2 0 c s rfl rfl;have O:Fits b w:=(by have:=hf.1;simpa using this,λi c' s' h1 h2=>hf.2 (i+1) c' s' (!!h1) (!!h2));unfold du at hs;rw[List.zip_cons_cons,i0]at hs;split at hs
  .cases hs
  .rename_i U;have Y:du f b=none:=by unfold du;simpa using hs
   unfold bT at hb;cases h1:cN a c with
   |none=>rw[h1]at hb;cases hb
   |some x=>
    rw[h1]at hb;have J:(bT f b).isSome=true:=by simpa using hb
    rw[bY,ae];show(?_,Ls (!!hl) J Y (λs hs=>hw s (bP _ hs)) O);rw[K9 (hw s aT)];by_cases z:a=42
    .unfold alt;rw[if_pos z];rcases hw s aT with e|e<;>simp[e]
    .have hc:c≠42:=by
      rintro rfl;exact U (by simp[z])
     unfold alt at y ⊢;rw[if_neg hc]at y;rw[if_neg z];unfold cN at h1;rw[if_neg z]at h1;split at h1
     .rename_i h2;rcases h2 with h2|h2
      .exact absurd h2 hc
      .rw[<-h2];exact y
     .cases h1
def age{rs:AU}{b:AA}(hf:∀r∈rs,r.1⁻¹=b⁻¹)(hs:dG rs b=none)(hl:∀s∈l,s=48\/s=49)(J:Fits b l):bD rs l=bZ rs b:=by
 have no:∀r∈rs,(bT r.1 b).isSome=false->bL r.1 l=false:=by
  intro r O h;cases e:bL r.1 l with
  |false=>rfl
  |true=>
   unfold bL at e;rw[ae]at e;exact(Lr (!!h) hl J e.2).elim
 cases z:bZ rs b with
 |none=>
  unfold bZ at z;unfold bD;rw[List.findIdx?_eq_none_iff]at z ⊢;exact λr O=>no r O (by simpa using z r O)
 |some n=>
  have hn:=sJ z;have Y:=gz.mp z;let(_,t1,t2):=Y;unfold bD;rw[gz];show(hn,?_,λj hj=>?_)
  .have U:du rs[n].1 b=none:=by
    unfold dG at hs;rw[z]at hs;simpa [hn] using hs
   have y:=hf rs[n] (fq _);unfold bL;rw[ae];exact(cp (by rw[y,J.1]),Ls y t1 U hl J)
  .have:=no rs[j] (fq _) (by simpa using t2 j hj);simp[this]
theorem agf{w:AA}{i a b:Nat}(h:(f.zip w)[i]?=-(a,b)):bY (f.drop i) (w.drop i)=(dY a b&&bY (f.drop (i+1)) (w.drop (i+1))):=by
 have y:=al.mp h;let(hl,he):=y;rw[hV]at hl;have h1:i<f⁻¹:=by lia
 have h2:i<w⁻¹:=by lia
 rw[List.getElem_zip]at he;rw[cf h1,cf h2];simp only[Prod.mk.injEq]at he;rw[he.1,he.2];rfl
def agg{w:AA}:bY (f.drop (f.zip w)⁻¹) (w.drop (f.zip w)⁻¹)=true:=by
 rw[hV];by_cases h:f⁻¹<=w⁻¹
 .rw[Nat.min_eq_left h,eR];rfl
 .rw[Nat.min_eq_right (!0),eR];cases f.drop w⁻¹<;>rfl
def oU:AS->Option D
 |[.str f,.str w]=>-(.bl (bY f w))
 |_=>none
def agh(Z:aj)(ds:AS)(G:DH)(d:D)(h:oU ds=-d):aA Z zR noE (env0 ds 2) G (ends λd' z=>z=G/\d'=d):=by
 unfold oU at h;split at h
 .rename_i f w;cases h;simp_all_arith[zR];nofun;simp_arith![oK];show ForG.inv (P:=λi Y z=>(∃U o3,Y=[-(.str f),-(.str w),U,o3])/\z=G/\bY f w=bY (f.drop i) (w.drop i)) ((_,_,rfl),rfl,!2) (λx x x x=>trivial) ?_ ?_
  .rintro i d Y z hd ⟨⟨U,o3,rfl⟩,rfl,y⟩ kk hk;rw[aS]at hd;let((a,b),O,rfl):=a9.mp hd;rw[agf O]at y;unfold dY at y;simp_arith![ends];show last ?_;erw[eH];cases J:(a==42) with
   |true=>
    erw[ends];exact hk _ _ ((_,_,rfl),rfl,by rw[y,J];rfl)
   |false=>
    erw[eH];cases hs:(a==b) with
    |true=>
     erw[ends];exact hk _ _ ((_,_,rfl),rfl,by rw[y,hs];simp)
    |false=>
     erw[ends];rw[y,J,hs];simp
  .rintro Y z ⟨⟨U,o3,rfl⟩,rfl,y⟩;rw[ah,agg]at y;show hM _ _ ?_;erw[y]
 .cases h
def Lw(h:f⁻¹=l⁻¹):bL f l=bY f l:=by unfold bL;rw[cp h];rfl
def sO:RF.Spec:=cj (A:=Nat×AU×AA) (λa=>[au a.1 a.2.1,.str a.2.2]) (λa=>∀r∈a.2.1,r.1⁻¹=a.2.2⁻¹) (λa=>aW (bD a.2.1 a.2.2))
def agi{w:Nat}{rs:AU}{k:AT}(h:∀r∈rs,r.1⁻¹=l⁻¹)(y:k (aW (bD rs l)) G):sO.t [au w rs,.str l] G k E:=cL (w,rs,l) rfl h y
def agj(Z:aj)(h1:Z "_law_fits"=aO oU)(a:Nat×AU×AA)(G:DH)(h:∀r∈a.2.1,r.1⁻¹=a.2.2⁻¹):
  aA Z zT noE (env0 [au a.1 a.2.1,.str a.2.2] 2) G (ends λd z=>z=G/\d=aW (bD a.2.1 a.2.2)):=by
 let(w,rs,l):=a;dsimp only at h ⊢;simp_all_arith[zT];nofun;simp_arith![au];show ForG.inv (P:=λi Y z=>(∃O U,Y=[-(.tup [.int w,.tup (rs.map aq)]),-(.str l),O,U])/\z=G/\bD rs l=(bD (rs.drop i) l).map (·+i)) ((_,_,rfl),rfl,!2) (λx x x x=>trivial) ?_ ?_
 .rintro i d Y z hd ⟨⟨O,U,rfl⟩,rfl,y⟩ kk hk;rw[jo]at hd;let(d',J,rfl):=a9.mp hd;rw[aS]at J;let(r,hr,rfl):=a9.mp J;rw[afP hr,Lw (h r (bg hr))]at y;simp_arith![ends];show last ?_;erw[h1,aq];show dD (d:=.bl (bY r.1 l)) rfl ?_;erw[ends];cases hf:bY r.1 l with
  |true=>
   rw[hf,if_pos rfl]at y;rw[y];simp[aW]
  |false=>
   rw[hf,if_neg ck]at y;show hk _ _ ((_,_,rfl),rfl,?_);rw[y,Option.map_map];congr 1;funext n;simp;lia
 .rintro Y z ⟨⟨O,U,rfl⟩,rfl,y⟩;rw[iD,ah,eR]at y;show hM _ _ ?_;erw[ends];rw[y];rfl
def sS(name:AA)(y:List (AU))(b:AA):D:=.tup (.str name::y.map λrs=>aW (bZ rs b))
def oV(name:AA)(y:List (AU))(b:AA):D:=.tup [.str b,sS name y b]
inductive Lv (name:AA) (rss:List (AU)):AA->D->List (AA)->Prop
 |leaf (b:AA) (h:∀rs∈rss,dG rs b=none):Lv name rss b (sS name rss b) [b]
 |node (b:AA) (n:Nat) (z o:D) (l m:List (AA)) (h:b[n]?=some 42) (hz:Lv name rss (b.set n 48) z l) (ho:Lv name rss (b.set n 49) o m):Lv name rss b (.tup [.str lg,.int n,z,o]) (l++m)
def Gr.lv{name:AA}{b:AA}{d:D}(h:Gr name rss b d):∃bs,Lv name rss b d bs:=by
 induction h with
 |leaf b h=>exact(_,.leaf b h)
 |node b n z o h _ _ J ho=>
  let(l,hl):=J;let(m,y):=ho;exact(_,.node b n z o l m h hl y)
def Lv.len{name:AA}{b:AA}{d:D}{bs:List (AA)}(h:Lv name rss b d bs):bs⁻¹<=2 ^ stc b:=by
 induction h with
 |leaf b h=>exact Nat.one_le_two_pow
 |node b n z o l m h _ _ U ho=>
  have y:=lq h (show 48≠42 by decide);have O:=lq h (show 49≠42 by decide);rw[<-y,Nat.pow_succ,ax];have J:stc (b.set n 49)=stc (b.set n 48):=by lia
  rw[J]at ho;lia
def Lv.len'{name:AA}{b:AA}{d:D}{bs:List (AA)}(h:Lv name rss b d bs)(y:b⁻¹<=12):bs⁻¹<=4096:=by
 have h1:=h.len;have h2:stc b<=12:=cb (List.countP_le_length) y;have z:=gT (show 0<2 by decide) h2;have J:2 ^ 12=4096:=by decide
 lia
def Lv.box{name:AA}{b:AA}{d:D}{bs:List (AA)}(h:Lv name rss b d bs):∀c∈bs,c⁻¹=b⁻¹/\∀rs∈rss,dG rs c=none:=by
 induction h with
 |leaf b h=>intro c hc;rw[ba.mp hc];exact(rfl,h)
 |node b n z o l m h _ _ y ho=>
  intro c hc;rcases bp.mp hc with hc|hc
  .have:=y c hc;rw[da]at this;exact this
  .have:=ho c hc;rw[da]at this;exact this
def Lv.okf{w:Nat}{name:AA}{b:AA}{d:D}{bs:List (AA)}(h:Lv name rss b d bs):okF w b->∀c∈bs,okF w c:=by
 induction h with
 |leaf b h=>intro y c hc;rw[ba.mp hc];exact y
 |node b n z o l m h _ _ J ho=>
  intro y c hc;rcases bp.mp hc with hc|hc
  .exact J (oO y Bm) c hc
  .exact ho (oO y Bo) c hc
def agk{w:Nat}(h:okF w f)(z:Fits f l):∀s∈l,s=48\/s=49:=by
 intro s hs;let(i,hi,rfl):=List.getElem_of_mem hs;have y:i<f⁻¹:=by rw[z.1];exact hi
 have:=z.2 i f[i] l[i] (by simp[y]) (by simp[hi]);rcases h.2 f[i] (fq _) with e|e|e<;>rw[e]at this<;>simp[alt]at this<;>lia
def isPlace(m:Int):D->Bool
 |.int i=>decide (0<=i)&&decide (i<m)
 |_=>false
def gR:AS->Option D
 |[.int m,x]=>if nr x then some (.bl (isPlace m x)) else none
 |_=>none
def agl(Z:aj)(h1:Z "is_whole"=aO jt)(ds:AS)(G:DH)(d:D)(h:gR ds=-d):aA Z m7 noE (env0 ds 0) G (ends λd' z=>z=G/\d'=d):=by
 unfold gR at h;split at h
 .rename_i m x;split at h
  .rename_i y;cases h;have J:jt [x]=-(.bl (whole x)):=if_pos y;erw[m7,h1];show dD J ?_;cases x<;>first | (simp[nr]at y;done) | (erw[whole,isPlace];first | (simp;done)|skip)
   rename_i i;cases hi:decide (0<=i) with
   |true=>simp
   |false=>simp
  .cases h
 .cases h
def Lx{m i:Nat}{k:AT}(h:i<m)(y:k (.bl true) G):(aO gR).t [.int m,.int i] G k E:=
 dD (by unfold gR;simp only[nr,if_true,isPlace];rw[cp (!0),cp (!0)];rfl) y
def gU:AS->Option D
 |[.str name,.int many,.tup (.str s::r)]=>-(.bl ((((r⁻¹+1:Nat):Int)==many+1)&&(s==name)))
 |_=>none
def agm(Z:aj)(ds:AS)(G:DH)(d:D)(h:gU ds=-d):aA Z nY noE (env0 ds 0) G (ends λd' z=>z=G/\d'=d):=by
 unfold gU at h;split at h
 .rename_i name y s r;cases h;erw[nY];cases he:(((r⁻¹+1:Nat):Int)==y+1) with
  |false=>erw[Bool.false_and]
  |true=>erw[iP]
 .cases h
def agn{name s:AA}{m:Int}{r:AS}{k:AT}(h:s≠name)(y:k (.bl false) G):(aO gU).t [.str name,.int m,.tup (.str s::r)] G k E:=
 dD (by unfold gU;dsimp only;rw[dL.mpr h,g6]) y
def ago{name:AA}{m:Int}{r:AS}{k:AT}(h:(r⁻¹:Int)=m)(y:k (.bl true) G):(aO gU).t [.str name,.int m,.tup (.str name::r)] G k E:=
 dD (by unfold gU;dsimp only;rw[BEq.rfl,Bool.and_true,aw.mpr (!0)]) y
def agp{i c:Nat}(h:f[i]?=-c):stc (f.take (i+1))=stc (f.take i)+(if(c==42)=true then 1 else 0):=by unfold stc;rw[dy,h,List.countP_append];cases hc:(c==42)<;>simp[hc]
def oI:Option Int->D
 |some i=>.int i
 |none=>.non
inductive T where
 |lf (r:List (Option Int))
 |sp (i:Int) (z o:T)
def T.d(name:AA):T->D
 |.lf r=>.tup (.str name::r.map oI)
 |.sp i z o=>.tup [.str lg,.int i,z.d name,o.d name]
def T.dep:T->Nat
 |.lf _=>0
 |.sp _ z o=>max z.dep o.dep+1
def jw(b:AA)(i:Int):Bool:=decide (0<=i)&&b[i.toNat]?==-42
def T.lvs:T->AA->Option (List (AA×List (Option Int)))
 |.lf r,b=>-[(b,r)]
 |.sp i z o,b=>match jw b i with
  |true=>(match z.lvs (b.set i.toNat 48),o.lvs (b.set i.toNat 49) with|some l,-m=>-(l++m)|_,_=>none)
  |false=>none
def oW(name:AA)(x:AA×List (Option Int)):D:=.tup [.str x.1,.tup (.str name::x.2.map oI)]
def fK(name:AA):Option (List (AA×List (Option Int)))->D
 |none=>.non
 |some l=>.lst (l.map (oW name))
def T.lvs_len:∀(t:T){b:AA}{l:List (AA×List (Option Int))},t.lvs b=-l->l⁻¹<=2 ^ t.dep
 |.lf r,b,l,h=>by cases h;exact Nat.one_le_two_pow
 |.sp i z o,b,l,h=>by
  rw[T.lvs]at h;split at h
  .split at h
   .rename_i Y l2 h1 h2;cases h;have y:=z.lvs_len h1;have J:=o.lvs_len h2;have O:=gT (show 0<2 by decide) (Nat.le_max_left z.dep o.dep);have U:=gT (show 0<2 by decide) (Nat.le_max_right z.dep o.dep);rw[ax,T.dep,Nat.pow_succ];lia
   .cases h
  .cases h
def T.lvs_len'{t:T}{b:AA}{l:List (AA×List (Option Int))}(h:t.lvs b=-l)(hn:t.dep<n)(y:n<=12):l⁻¹<=4096:=by
 have h1:=t.lvs_len h;have z:=gT (show 0<2 by decide) (show t.dep<=12 by lia);have J:2 ^ 12=4096:=by decide
 lia
structure TA where
 name:AA
 b:AA
 t:T
def Lz(n:Nat)(a:TA):Prop:=a.name≠lg/\a.b⁻¹<=12/\a.t.dep<n/\n<=12
def fL(n:Nat):RF.Spec:=cj (λa:TA=>[.str a.b,a.t.d a.name]) (Lz n) (λa=>fK a.name (a.t.lvs a.b))
def Bq{name b:AA}{t:T}{k:AT}(h1:name≠lg)(h2:b⁻¹<=12)(y:t.dep<n)(z:n<=12)(J:k (fK name (t.lvs b)) G):(fL n).t [.str b,t.d name] G k E:=cL (name,b,t) rfl (h1,h2,y,z) J
def agq(ds:AS)(G:DH)(a:(fL 0).A):¬(fL 0).pre ds G a:=λzZ=>by let(_,_,_,_,h,_):=zZ;lia
theorem agr{b:AA}{i:Int}(h:jw b i):0<=i/\∃n:Nat,i=n/\n<b⁻¹/\b[n]?=-42:=by
 unfold jw at h;rw[ae]at h;have h1:=fw h.1;have h2:b[i.toNat]?=-42:=by simpa using h.2
 exact(h1,i.toNat,!0,(al.mp h2).1,h2)
theorem ags(Z:aj)(n:Nat)(h0:Z "leaves"=fL n)(h1:Z "is_named"=aO gU)(h2:Z "is_place"=aO gR)(h3:Z "with_sign"=aO gQ)(a:TA)(G:DH)(h:Lz (n+1) a):aA Z jr noE (env0 [.str a.b,a.t.d a.name] 3) G (ends λd G'=>G'=G/\d=fK a.name (a.t.lvs a.b)):=by
 let(name,b,t):=a;let(J,O,hd,hn):=h;dsimp only at J O hd ⊢;cases t with
 |lf r=>
  simp_all_arith[jr];nofun;erw[h1,T.d];show agn J ?_;erw[T.lvs,fK,oW];exact(!1,!1)
 |sp i z o=>
  rw[T.dep]at hd;simp_all_arith[jr];nofun;erw[h1,T.d];show ago rfl ?_;erw[ends];symm;erw[ends];symm;erw[h2];show dD (d:=.bl (isPlace b⁻¹ (.int i))) rfl ?_;cases y:jw b i with
  |false=>
   rw[T.lvs,y];cases Y:isPlace b⁻¹ (.int i) with
   |false=>erw[fK]
   |true=>
    unfold isPlace at Y;rw[ae]at Y;have p1:=fw Y.1;have p2:=fw Y.2;obtain⟨m,rfl⟩:∃m:Nat,i=m:=(i.toNat,!0);have hm:m<b⁻¹:=by lia
    have hc:b[m]?=-b[m]:=aI hm;have U:((b[m]==42):Bool)=false:=by unfold jw at y;rw[cp (!0),iP,e8,hc]at y;simpa using y
    erw[ends];show aR (a:=b[m]) (bA hc) ?_;erw[eH,U,fK]
  |true=>
   let(_,m,rfl,hm,hc):=agr y;have Y:isPlace b⁻¹ (.int (m:Int))=true:=by change(decide (0<=(m:Int))&&decide ((m:Int)<b⁻¹))=true;rw[cp (!0),cp (!0)];rfl
   have hl:(T.sp (m:Int) z o).lvs b=match z.lvs (b.set m 48),o.lvs (b.set m 49) with|some l,-m=>-(l++m)|_,_=>none:=by rw[T.lvs,y,e8]
   rw[Y];erw[ends];show aR (a:=42) (bA hc) ?_;erw[BEq.rfl];symm;erw[h0,h3];show oR hm (!0) (Bq J (by rw[da];exact O) (!0) (!0) (hM _ _ (seq λM hM=>?_)));erw[h0,h3];show oR hm (!0) (Bq J (by rw[da];exact O) (!0) (!0) (hM _ _ (seq λM hM=>?_)));cases e1:z.lvs (b.set m 48) with
   |none=>
    rw[e1]at hl;erw[hl,fK]
   |some l1=>
    cases e2:o.lvs (b.set m 49) with
    |none=>
     rw[e1,e2]at hl;erw[hl,fK]
    |some l2=>
     rw[e1,e2]at hl;have q1:=T.lvs_len' e1 (n:=n) (!0) (!0);have q2:=T.lvs_len' e2 (n:=n) (!0) (!0);erw[fK];ac_nf0;erw[ah,c9,hl,fK];bv_omega
def agt(o:Option Nat):aW o=oI (o.map λn=>(n:Int)):=by cases o<;>rfl
def lr(y:List (AU))(c:AA):List (Option Int):=y.map λrs=>(bZ rs c).map λn=>(n:Int)
def LC{c:AA}:(lr rss c).map oI=rss.map λrs=>aW (bZ rs c):=by unfold lr;rw[eP];exact gX λrs z=>(agt _).symm
def Lv.tree{name:AA}{b:AA}{d:D}{bs:List (AA)}(h:Lv name rss b d bs):∃t:T,d=t.d name/\t.dep<=stc b/\t.lvs b=-(bs.map λc=>(c,lr rss c)):=by
 induction h with
 |leaf b h=>exact(.lf (lr rss b),by rw[T.d,LC];rfl,gS _,rfl)
 |node b n z o l m h _ _ hz ho=>
  let(J,rfl,O,U):=hz;let(y,rfl,d2,Y):=ho;have s1:=lq h (show 48≠42 by decide);have s2:=lq h (show 49≠42 by decide);show(.sp n J y,rfl,?_,?_)
  .rw[T.dep];have:=Nat.max_le.mpr (show J.dep<=stc (b.set n 48) from O,show y.dep<=stc (b.set n 48) by lia);lia
  .have hs:jw b (n:Int)=true:=by unfold jw;rw[cp (!0),e8,h];rfl
   rw[T.lvs,hs,e8,U,Y];simp
def agu{name:AA}{c:AA}:oW name (c,lr rss c)=oV name rss c:=by unfold oW oV sS;rw[LC]
def agv{name:AA}{b:AA}{d:D}{bs:List (AA)}{k:AT}(h:Lv name rss b d bs)(h1:name≠lg)(h2:b⁻¹<=12)(U:stc b<n)(J:k (.lst (bs.map (oV name rss))) G)(z:n<=12:=by decide):(fL n).t [.str b,d] G k E:=by
 let(t,rfl,O,y):=h.tree;show Bq h1 h2 (!0) z ?_;rw[y,fK,eP];have:(oW name∘λc=>(c,lr rss c))=oV name rss:=by funext c;exact agu
 rw[this];exact J
def LK{c:Nat}:dY c s=true↔c=42\/c=s:=by unfold dY;simp
def opp(b:Nat):Nat:=if b=48 then 49 else 48
def agw(h:bL f g):bY f g=true:=by unfold bL at h;rw[ae]at h;exact h.2
def lu:AS->Option D
 |[.str f,.str g]=>if decide (g⁻¹<=100000) then some (.bl (bL g f)) else none
 |_=>none
def agx(Z:aj)(h1:Z "fits"=aO oJ)(ds:AS)(G:DH)(d:D)(h:lu ds=-d):aA Z m9 noE (env0 ds 0) G (ends λd' y=>y=G/\d'=d):=by
 unfold lu at h;split at h
 .rename_i f g;split at h
  .rename_i hl;cases h;erw[m9,h1];exact dD (d:=.bl (bL g f)) (if_pos hl) (rfl,rfl)
  .cases h
 .cases h
def LQ{k:AT}(h:g⁻¹<=1000)(y:k (.bl (bL g f)) G):(aO lu).t [.str f,.str g] G k E:=dD (if_pos (cp (!0))) y
def bO:AA->List (AA)
 |[]=>[[]]
 |c::f=>(alt c).flatMap λs=>(bO f).map (s::·)
def LR:∀(f:AA)(y:List (AA)),f.foldl step1 y=y.flatMap λt=>(bO f).map (t ++ ·)
 |[],y=>by simp[bO]
 |c::f,y=>by
  rw[List.foldl_cons,LR f,step1,List.flatMap_assoc];congr 1;funext t;rw[bO,List.flatMap_map,List.map_flatMap];congr 1;funext s;rw[eP];congr 1;funext x;simp
def iI(f:AA):aK f=bO f:=by unfold aK;rw[LR];simp
def Br:∀(b:AA),(bO b)⁻¹=2 ^ stc b
 |[]=>rfl
 |c::b=>by
  have y:=Br b;rw[bO];unfold alt stc;unfold stc at y;split
  .rename_i h;subst h;simp[y,Nat.pow_succ];lia
  .rename_i h;simp[y,h]
theorem agy{w:Nat}{k:AT}(h:w<=1000)(y:k (.str (List.replicate w 42)) G):(aO ju).t [.int w] G k E:=
 dD (d:=.str (List.replicate w 42)) (by unfold ju;dsimp only;rw[if_pos (by simp only[ae,br];lia),e8]) y
def cV(l:AA):AA:=l.map λa=>if a=42 then 48 else a
def lw:AS->Option D
 |[.str l]=>if decide (l⁻¹<=1000) then some (.str (cV l)) else none
 |_=>none
def agz{k:AT}(h:l⁻¹<=1000)(y:k (.str (cV l)) G):(aO lw).t [.str l] G k E:=dD (if_pos (cp h)) y
def agA{b:AA}(h:Fits b l)(hn:b[n]?=-42):Fits (b.set n 48) l\/Fits (b.set n 49) l:=by
 let(hl,he):=al.mp hn;have J:n<l⁻¹:=by rw[<-h.1];exact hl
 have hs:=h.2 n 42 l[n] hn (aI J);have put:∀c,l[n]=c->c≠42->Fits (b.set n c) l:=by
  intro c hc z;show(by rw[da];exact h.1,λi x y O U=>?_);rw[List.getElem?_set]at O;by_cases hi:n=i
  .subst hi;rw[if_pos rfl,if_pos hl]at O;rw[aI J]at U;cases O;cases U;unfold alt;rw[if_neg z,hc];simp
  .rw[if_neg hi]at O;exact h.2 i x y O U
 unfold alt at hs;rw[if_pos rfl]at hs;have:l[n]=48\/l[n]=49:=by simpa using hs
 rcases this with e|e
 .exact .inl (put 48 e (!1))
 .exact .inr (put 49 e (!1))
theorem Ma{b:AA}{c:Nat}(h:Fits (b.set n c) l)(hn:b[n]?=-42)(hc:c=48\/c=49):Fits b l:=by
 have hl:=(al.mp hn).1;show(by have:=h.1;rwa [da]at this,λi x y z J=>?_);by_cases hi:n=i
 .subst hi;rw[hn]at z;cases z;have:=h.2 n c y (by rw[List.getElem?_set,if_pos rfl,if_pos hl]) J;unfold alt at this ⊢;rw[if_neg (!0)]at this;rw[if_pos rfl];have e:y=c:=by simpa using this
  rw[e];simpa using hc
 .exact h.2 i x y (by rw[List.getElem?_set,if_neg hi];exact z) J
def Lv.cover{name:AA}{b:AA}{d:D}{bs:List (AA)}(h:Lv name rss b d bs):∀l,Fits b l->∃c∈bs,Fits c l:=by
 induction h with
 |leaf b h=>exact λl hl=>(b,!2,hl)
 |node b n z o l m h _ _ J ho=>
  intro w hw;rcases agA hw h with e|e
  .let(c,hc,y):=J w e;exact(c,bp.mpr (.inl hc),y)
  .let(c,hc,y):=ho w e;exact(c,bp.mpr (.inr hc),y)
def Lv.within{name:AA}{b:AA}{d:D}{bs:List (AA)}(h:Lv name rss b d bs):∀c∈bs,∀l,Fits c l->Fits b l:=by
 induction h with
 |leaf b h=>intro c hc l hl;rw[ba.mp hc]at hl;exact hl
 |node b n z o l m h _ _ y ho=>
  intro c hc w hw;rcases bp.mp hc with hc|hc
  .exact Ma (y c hc w hw) h (.inl rfl)
  .exact Ma (ho c hc w hw) h (.inr rfl)
def agB{a:Nat}(h:Fits (a::f) (s::l)):s∈alt a/\Fits f l:=
 (h.2 0 a s rfl rfl,by have:=h.1;simpa using this,λi c t h1 h2=>h.2 (i+1) c t (!!h1) (!!h2))
def agC{a:Nat}(h1:s∈alt a)(h2:Fits f l):Fits (a::f) (s::l):=(by simp[h2.1],λi c t hc y=>by
 cases i with
 |zero=>simp at hc y;rw[<-hc,<-y];exact h1
 |succ i=>exact h2.2 i c t (!!hc) (!!y))
def Bt:∀c:AA,Fits c (cV c)
 |[]=>(rfl,λi c s h=>by simp at h)
 |a::c=>by
  change Fits (a::c) ((if a=42 then 48 else a)::cV c);show agC ?_ (Bt c);unfold alt;split<;>simp
def Mg:∀{c l:AA},Fits c l->¬l<cV c
 |[],l,h=>by
  have:l=[]:=dQ.mp h.1.symm;subst this;exact List.lt_irrefl _
 |a::c,[],h=>by have:=h.1;simp at this
 |a::c,s::l,h=>by
  let(h1,h2):=agB h;change¬(s::l)<((if a=42 then 48 else a)::cV c);rw[jI];have y:=Mg h2;unfold alt at h1;split at h1
  .rename_i e;rw[if_pos e];have:s=48\/s=49:=by simpa using h1
   rintro(q|q)
   .omega
   .exact y q.2
  .rename_i e;rw[if_neg e];have:s=a:=by simpa using h1
   rintro(q|q)
   .omega
   .exact y q.2
def Mh:∀{x m a:AA},x<m->¬a<m->x<a
 |x,[],a,h,_=>absurd h (!2)
 |x,b::m,[],_,h=>absurd (!2) h
 |[],b::m,y::a,_,_=>by simp
 |c::x,b::m,y::a,h,g=>by
  rw[jI]at h g ⊢;have J:¬y<b:=λe=>g (.inl e);rcases h with h|⟨h1,h2⟩
  .exact .inl (!0)
  .by_cases e:y=b
   .exact .inr (!0,Mh h2 λz=>g (.inr (e,z)))
   .exact .inl (!0)
def Mi:∀f:AA,(bO f).Pairwise (· < ·)
 |[]=>by simp[bO]
 |c::f=>by
  have O:=Mi f;have one:∀s:Nat,((bO f).map (s::·)).Pairwise (· < ·):=λs=>List.pairwise_map.mpr (O.imp λh=>jI.mpr (.inr (rfl,h)));rw[bO];unfold alt;split
  .rw[List.flatMap_cons,List.flatMap_cons,List.flatMap_nil,eM,List.pairwise_append];show(one 48,one 49,λa z b J=>?_);let(x,_,rfl):=bX.mp z;let(y,_,rfl):=bX.mp J;exact jI.mpr (.inl (!1))
  .rw[List.flatMap_cons,List.flatMap_nil,eM];exact one c
def agD{u:List (AA)}(h:u.Pairwise (· < ·))(y:m∈u)(hl:∀x∈u,¬x<m):u.head?=-m:=by
 cases u with
 |nil=>cases y
 |cons a u=>
  rcases bb.mp y with e|y
  .rw[e];rfl
  .exact absurd ((List.pairwise_cons.mp h).1 m y) (hl a aT)
def agE{k:D->Prop}(h0:cT ds=none)(h:bj ds=-ls)(y:∀m,m∈ls->(∀a,a∈ls->¬a<m)->k (.str m)):opB .min [.lst ds] k:=by change lV [.lst ds] k;unfold lV;dsimp only;rw[h0,h];exact y
def oX:RF.Spec:=cj (λa:Nat×AU×Nat=>[au a.1 a.2.1,.int a.2.2]) (λa=>okB a.1 a.2.1/\a.2.2<a.2.1⁻¹) (λz=>.non)
def Bu{w:Nat}{rs:AU}{k:AT}(h:okB w rs)(hn:n<rs⁻¹)(y:k .non G):oX.t [au w rs,.int n] G k E:=cL (w,rs,n) rfl (h,hn) y
def agF(Z:aj)(h1:Z "need_book"=oH)(h2:Z "is_place"=aO gR)(a:Nat×AU×Nat)(G:DH)(h:okB a.1 a.2.1/\a.2.2<a.2.1⁻¹):aA Z nP noE (env0 [au a.1 a.2.1,.int a.2.2] 0) G (ends λd z=>z=G/\d=.non):=by let(w,rs,n):=a;let(y,hn):=h;dsimp only at y hn ⊢;simp_all_arith[nP];nofun;erw[h1];show Bj y (hM _ _ (last ?_));erw[au,h2,ah];show Lx hn ?_;erw[and_self]
def agG(rs:AU):nrs (rs.map aq)=true:=by
 induction rs with
 |nil=>rfl
 |cons r rs y=>rw[db,nrs,y];rfl
def okRs(w:Nat)(rs:AU):Prop:=∀r∈rs,okF w r.1/\okD r.2
def okRs.ins{w:Nat}{rs:AU}{r:Row}(h:okRs w rs)(h1:okF w r.1)(h2:okD r.2):okRs w (rs.take n++r::rs.drop n):=by
 intro x y;rcases bp.mp y with y|y
 .exact h x (iq y)
 .rcases bb.mp y with e|y
  .rw[e];exact(h1,h2)
  .exact h x (iA y)
def Mj{rs:AU}{r:Row}:(rs.take n++r::rs.drop n)⁻¹=rs⁻¹+1:=by rw[ax,ce,bv,cq];lia
def Ml:AA:=[115,97,109,101]
def Mm:AA:=[112,97,114,116,101,100]
def Mp:AA:=[97,108,105,107,101]
def sU:RF.Spec:=cj (λa:Nat×AU×AU=>[au a.1 a.2.1,au a.1 a.2.2]) (λa=>okB a.1 a.2.1/\okB a.1 a.2.2) (λz=>.non)
def agH{w:Nat}{rs ss:AU}{k:AT}(h:okB w rs)(h':okB w ss)(y:k .non G):sU.t [au w rs,au w ss] G k E:=cL (w,rs,ss) rfl (h,h') y
def agI(Z:aj)(h1:Z "need_book"=oH)(a:Nat×AU×AU)(G:DH)(h:okB a.1 a.2.1/\okB a.1 a.2.2):aA Z nZ noE (env0 [au a.1 a.2.1,au a.1 a.2.2] 0) G (ends λd G'=>G'=G/\d=.non):=by let(w,rs,ss):=a;let(hb,hc):=h;dsimp only at hb hc ⊢;simp_all_arith[nZ];nofun;erw[h1];show Bj hb (hM _ _ (seq λM hM=>?_));erw[h1];show Bj hc (hM _ _ (last ?_));erw[au,BEq.rfl,and_self]
def bz(rs:AU)(o:Option Nat):Option (AA):=o.bind λn=>rs[n]?.map (·.2)
def Mq{rs:AU}{o:Option Nat}:kY rs o=aU (bz rs o):=by
 cases o with
 |none=>rfl
 |some n=>
  unfold kY bz;dsimp only[Option.bind];cases rs[n]?<;>rfl
structure SD where
 w:Nat
 rs:AU
 ss:AU
 name:AA
 o:Option Nat
 p:Option Nat
def sSD:RF.Spec:=cj (λa:SD=>[au a.w a.rs,au a.w a.ss,.tup [.str a.name,aW a.o,aW a.p]]) (λa=>(∀n,a.o=-n->n<a.rs⁻¹)/\∀n,a.p=-n->n<a.ss⁻¹) (λa=>.bl (bz a.rs a.o==bz a.ss a.p))
def agJ{w:Nat}{rs ss:AU}{name:AA}{o p:Option Nat}{k:AT}(h1:∀n,o=-n->n<rs⁻¹)(h2:∀n,p=-n->n<ss⁻¹)(y:k (.bl (bz rs o==bz ss p)) G):sSD.t [au w rs,au w ss,.tup [.str name,aW o,aW p]] G k E:=cL (w,rs,ss,name,o,p) rfl (h1,h2) y
def agK(Z:aj)(h1:Z "deed_of"=sH)(a:SD)(G:DH)(h:(∀n,a.o=-n->n<a.rs⁻¹)/\∀n,a.p=-n->n<a.ss⁻¹):aA Z n6 noE (env0 [au a.w a.rs,au a.w a.ss,.tup [.str a.name,aW a.o,aW a.p]] 0) G (ends λd z=>z=G/\d=.bl (bz a.rs a.o==bz a.ss a.p)):=by let(w,rs,ss,name,o,p):=a;let(ho,y):=h;dsimp only at ho y ⊢;erw[n6,h1];show Lb ho (Lb y ?_);rw[Mq,Mq];cases bz rs o<;>cases bz ss p<;>erw[aU]<;>first|done | (simp;done) | (show(!1,?_);simp;done)
def bK(w:Nat)(rs ss:AU):List (AA):=(aK (List.replicate w 42)).filter λl=>!(bz rs (bD rs l)==bz ss (bD ss l))
def fM(rs ss:AU)(c:AA):Bool:=bz rs (bZ rs c)==bz ss (bZ ss c)
def Bv(w:Nat)(rs ss:AU)(d:D):Prop:=
 (∃m,(bK w rs ss).head?=-m/\d=.tup [.str Mm,.str m])\/(bK w rs ss=[]/\∃t bs,d=.tup [.str Mp,t]/\Lv Ml [rs,ss] (List.replicate w 42) t bs/\∀c∈bs,fM rs ss c=true)
def sV:RF.Spec:=ghS (A:=Nat×AU×AU) (λa ds z=>ds=[au a.1 a.2.1,au a.1 a.2.2]/\okB a.1 a.2.1/\okB a.1 a.2.2) (λa G d y=>y=G/\Bv a.1 a.2.1 a.2.2 d)
def agL{w:Nat}{rs ss:AU}{k:AT}(h:okB w rs)(h':okB w ss)(y:∀d,Bv w rs ss d->k d G):sV.t [au w rs,au w ss] G k E:=
 fG (w,rs,ss) (rfl,h,h') λd J z=>by
  let(e,q):=z;subst e;exact y d q
def agM(Z:aj)(h1:Z "need_two_books"=sU)(h2:Z "grown"=gf 9)(h3:Z "leaves"=fL 9)(h4:Z "least"=aO lw)(h5:Z "stars"=aO ju)(h6:Z "same_deeds"=sSD)(a:Nat×AU×AU)(ds:AS)(G:DH)(h:ds=[au a.1 a.2.1,au a.1 a.2.2]/\okB a.1 a.2.1/\okB a.1 a.2.2):
  aA Z oh noE (env0 ds 3) G (ends λd G'=>G'=G/\Bv a.1 a.2.1 a.2.2 d):=by
 let(w,rs,ss):=a;let(rfl,hb,hb'):=h;dsimp only at hb hb' ⊢;have hw6:=hb.w6;have hst:=agd w;have hrl:∀r∈rs,r.1⁻¹=w:=λr z=>(hb.form r z).1;have hsl:∀r∈ss,r.1⁻¹=w:=λr z=>(hb'.form r z).1;have e0:∀xs:AU,D.tup [.int w,.tup (xs.map aq)]=au w xs:=λv=>rfl;simp_all_arith[oh];nofun;erw[h1];show agH hb hb' (hM _ _ (seq λM hM=>?_));erw[au,h5];show agy (!0) (hM _ _ (seq λM hM=>?_));erw[h2];have er:[D.tup (rs.map aq),.tup (ss.map aq)]=fJ [rs,ss]:=rfl;rw[er];show(!1,Bp (name:=Ml) (!2,!1,λxs y r z=>?_,!0) de (!0) λt ht=>hM _ _ (seq λM hM=>?_))
 .rcases bb.mp y with e|y
  .rw[e]at z;exact hrl r z
  .rw[ba.mp y]at z;exact hsl r z
 let(bs,hL):=ht.lv;have hlen:=hL.len' (by rw[de];lia);erw[h3];show agv hL (!1) (by rw[de];lia) (!0) ?_;erw[ends];show CompG.inv (P:=λi acc Y G'=>(∃o1 o2,Y=[o1,o2,-(.tup [.int w,.tup (rs.map aq)]),-(.tup [.int w,.tup (ss.map aq)])])/\G'=G/\acc=((bs.take i).filter λc=>!fM rs ss c).map λc=>D.str (cV c)) ((_,_,rfl),rfl,rfl) (λv v v v v=>trivial) (by rw[ah];bv_omega) ?_ ?_
 .rintro i d acc Y G' hd ⟨⟨o1,o2,rfl⟩,rfl,rfl⟩ kk hk;rw[aS]at hd;let(c,U,rfl):=a9.mp hd;have hcl:=(hL.box c (bg U)).1;rw[de]at hcl;have htk:bs.take (i+1)=bs.take i++[c]:=by rw[dy,U];rfl
  erw[oV,sS,h6];rw[e0,e0];show agJ (λn hn=>sJ hn) (λn hn=>sJ hn) ?_;have es:(bz rs (bZ rs c)==bz ss (bZ ss c))=fM rs ss c:=rfl;rw[es];cases hsb:fM rs ss c with
  |true=>
   erw[ends];exact hk _ _ _ ((_,_,rfl),rfl,by rw[htk,fN];simp[hsb])
  |false=>
   erw[h4];show agz (!0) (hk _ _ _ ((_,_,rfl),rfl,by rw[htk,fN];simp[hsb]))
 .rintro acc Y G' ⟨_,rfl,rfl⟩;rw[ah,fo];symm;have meet:∀xs∈[rs,ss],∀c∈bs,∀l,Fits c l->bD xs l=bZ xs c:=by
   intro xs y c hc l hl;let(e1,e2):=hL.box c hc;rw[de]at e1;have okc:=hL.okf (afT w) c hc;show age (λr z=>?_) (e2 _ y) (agk okc hl) hl;rcases bb.mp y with e|y
   .rw[e]at z;rw[hrl r z,e1]
   .rw[ba.mp y]at z;rw[hsl r z,e1]
  have J:∀c∈bs,∀l,Fits c l->(bz rs (bD rs l)==bz ss (bD ss l))=fM rs ss c:=by intro c hc l hl;rw[meet rs (!2) c hc l hl,meet ss (!2) c hc l hl];rfl
  cases hfr:bs.filter λc=>!fM rs ss c with
  |nil=>
   have hall:∀c∈bs,fM rs ss c=true:=by
    intro c hc;have:=List.filter_eq_nil_iff.mp hfr c hc;cases h:fM rs ss c with
    |false=>rw[h]at this;exact absurd rfl this
    |true=>rfl
   erw[ends];ac_nf0;erw[ends];show(!1,.inr (?_,t,bs,rfl,hL,hall));unfold bK;rw[List.filter_eq_nil_iff];intro l hl;let(c,O,hfc):=hL.cover l (dX.mp hl);rw[J c O l hfc,hall c O];simp
  |cons c0 cs=>
   have hne:(!(List.isEmpty (D.str (cV c0)::cs.map λc=>D.str (cV c))))=true:=rfl;erw[hne];rw[<-db (f:=λc=>D.str (cV c)),<-hfr];have es:bj ((bs.filter λc=>!fM rs ss c).map λc=>D.str (cV c))=-((bs.filter λc=>!fM rs ss c).map cV):=strs_map _ _;have ei:cT ((bs.filter λc=>!fM rs ss c).map λc=>D.str (cV c))=none:=by rw[hfr];rfl
   show agE ei es λm hm hlow=>?_;let(c,hcm,rfl):=bX.mp hm;let(U,hcn):=gI.mp hcm;show(!1,.inl (cV c,?_,rfl));show agD ?_ ?_ ?_
   .unfold bK;rw[iI];exact(Mi _).filter _
   .unfold bK;rw[gI];show(dX.mpr (hL.within c U _ (Bt c)),?_);rw[J c U _ (Bt c)];exact hcn
   .intro x hx hlt;unfold bK at hx;let(hx1,hx2):=gI.mp hx;let(c',O,hfc):=hL.cover x (dX.mp hx1);rw[J c' O x hfc]at hx2;have hlow':=hlow (cV c') (bX.mpr (c',gI.mpr (O,hx2),rfl));exact Mg hfc (Mh hlt hlow')
def wo(rs:AU)(n:Nat):AU:=rs.take n++rs.drop (n+1)
theorem Mr{rs:AU}(hn:n<rs⁻¹):(wo rs n)⁻¹+1=rs⁻¹:=by unfold wo;rw[ax,bv,cq];lia
def agN{w:Nat}{rs:AU}(y:okB w rs)(hn:n<rs⁻¹):okB w (wo rs n):=y.sub (by have:=Mr hn;lia) λr z=>by
 rcases bp.mp z with h|h
 .exact iq h
 .exact iA h
def sWo:RF.Spec:=cj (λa:Nat×AU×Nat=>[au a.1 a.2.1,.int a.2.2]) (λa=>okB a.1 a.2.1/\a.2.2<a.2.1⁻¹) (λa=>au a.1 (wo a.2.1 a.2.2))
def Ms{w:Nat}{rs:AU}{k:AT}(h:okB w rs)(hn:n<rs⁻¹)(y:k (au w (wo rs n)) G):sWo.t [au w rs,.int n] G k E:=cL (w,rs,n) rfl (h,hn) y
def Mt{y z:Type}(f:y->z)(l:List y)(n:Nat):cut (l.map f) (-((n:Int)+1)) none=(l.drop (n+1)).map f:=Bk f l (n+1)
theorem agO(Z:aj)(h1:Z "need_row"=oX)(a:Nat×AU×Nat)(G:DH)(h:okB a.1 a.2.1/\a.2.2<a.2.1⁻¹):aA Z nQ noE (env0 [au a.1 a.2.1,.int a.2.2] 2) G (ends λd G'=>G'=G/\d=au a.1 (wo a.2.1 a.2.2)):=by let(w,rs,n):=a;let(hb,hn):=h;dsimp only at hb hn ⊢;have hlen:=hb.len;simp_all_arith[nQ];nofun;erw[h1];show Bu hb hn (hM _ _ (seq λM hM=>?_));erw[au];ac_nf0;erw[kZ,Mt,ah,bv,cq];show(by bv_omega,!1,?_);unfold wo au;rw[c9]
def okP(a:AA×AA):Prop:=a.1⁻¹=a.2⁻¹/\a.1⁻¹<=1000/\(∀x∈a.1,isF x)/\∀x∈a.2,isF x
def sW:RF.Spec:=cj (λa:AA×AA=>[.str a.1,.str a.2]) okP (λa=>.bl (bT a.1 a.2).isSome)
def clash:D->Option D
 |.tup [.str [a],.str [b]]=>if(cN a b).isSome then none else some (.int 1)
 |_=>none
def Mu:∀(f g:AA),(((f.zip g).map λp=>D.tup [.str [p.1],.str [p.2]]).filterMap clash).isEmpty=(bT f g).isSome
 |[],g=>by cases g<;>rfl
 |a::f,[]=>rfl
 |a::f,b::g=>by
  have y:=Mu f g;rw[List.zip_cons_cons,db,bT];cases h:cN a b with
  |none=>
   have:clash (D.tup [.str [a],.str [b]])=-(.int 1):=by change(if(cN a b).isSome=true then none else some (D.int 1))=_;rw[h];rfl
   rw[eA,this];rfl
  |some c=>
   have:clash (D.tup [.str [a],.str [b]])=none:=by change(if(cN a b).isSome=true then none else some (D.int 1))=_;rw[h];rfl
   rw[eA,this];change(List.filterMap clash _).isEmpty=_;rw[y];cases bT f g<;>rfl
theorem agP(Z:aj)(a:AA×AA)(G:DH)(h:okP a):aA Z Ac noE (env0 [.str a.1,.str a.2] 0) G (ends λd G'=>G'=G/\d=.bl (bT a.1 a.2).isSome):=by
 let(f,g):=a;let(hl,hz,hf,hg):=h;dsimp only at hl hz hf hg ⊢;erw[Ac,oK];show CompG.pure (f:=clash) (I:=λY=>∃o1 o2,Y=[o1,o2]) (_,_,rfl) trivial (by rw[ah,hV];bv_omega) ?_ ?_
 .rintro d Y hd ⟨o1,o2,rfl⟩ kk O;let((x,y),z,rfl):=bX.mp hd;have hx:=hf x (List.of_mem_zip z).1;have hy:=hg y (List.of_mem_zip z).2;have J:isIn (.str [x,y]) [.str [48,49],.str [49,48]]=!(cN x y).isSome:=by
   rcases hx with rfl|rfl|rfl<;>rcases hy with rfl|rfl|rfl<;>simp[isIn,Kw,cN]
  have go:=λU hr=>O U hr;have ec:clash (D.tup [.str [x],.str [y]])=if(cN x y).isSome then none else some (.int 1):=rfl
  erw[J];show(!1,!1,(!1,!1),?_);cases hb:(cN x y).isSome with
  |true=>erw[ends];have:=O [-(.str [x]),-(.str [y])] (_,_,rfl);rw[ec,hb]at this;exact this
  |false=>erw[ends];have:=O [-(.str [x]),-(.str [y])] (_,_,rfl);rw[ec,hb]at this;exact this
 .erw[Ko,Mu];show(zG λd hd=>?_,cb (Nat.min_le_right _ _) (!1));let(e,_,he):=List.mem_filterMap.mp hd;unfold clash at he;split at he
  .split at he
   .cases he
   .cases he;rfl
  .cases he
def agQ{k:AT}(h:okP (f,g))(y:k (.bl (bT f g).isSome) G):sW.t [.str f,.str g] G k E:=cL (f,g) rfl h y
def Mv(a:AQ×Nat×AU)(ds:AS)(G:DH):Prop:=ds=[.ref a.1,.lst (a.2.2.map aq)]/\Pen G a.1/\a.2.1<=6/\okRs a.2.1 a.2.2/\0<a.2.2⁻¹/\a.2.2⁻¹<=12
def Bw(a:AQ×Nat×AU)(G:DH)(d:D)(z:DH):Prop:=∃y:AU,d=.lst (y.map aq)/\okRs a.2.1 y/\a.2.2⁻¹<=y⁻¹/\y⁻¹<=a.2.2⁻¹+1/\Pen z a.1/\Sb a.1 G z
def sX:RF.Spec:=ghS Mv Bw
def agR{p:AQ}{w:Nat}{rs:AU}{k:AT}(hp:Pen G p)(hw:w<=6)(h1:okRs w rs)(h2:0<rs⁻¹)(J:rs⁻¹<=12)(Y:∀(y:AU)(z:DH),okRs w y->rs⁻¹<=y⁻¹->y⁻¹<=rs⁻¹+1->Pen z p->Sb p G z->k (.lst (y.map aq)) z):sX.t [.ref p,.lst (rs.map aq)] G k E:=
 fG (p,w,rs) (rfl,hp,hw,h1,h2,J) λd z zZ=>by let(y,e,h1,h2,J,O,U):=zZ;subst e;exact Y y z h1 h2 J O U
def gh(b:AA):AA:=(List.range b⁻¹).filter λn=>b[n]?==-42
def iN'(n:Nat):D:=.int (n:Int)
def Mw{y:Type}(l:List y)(n:Nat):cut l (-((n:Int)+1)) none=l.drop (n+1):=rT l (n+1)
def agS{y:Type}(l:List y)(n:Nat):cut l (-((n:Int)+2)) none=l.drop (n+2):=rT l (n+2)
def okRs.cat{w:Nat}{as bs:AU}(h:okRs w as)(h':okRs w bs):okRs w (as++bs):=λr y=>by
 rcases bp.mp y with e|e
 .exact h r e
 .exact h' r e
def okRs.take{w:Nat}{as:AU}(n:Nat)(h:okRs w as):okRs w (as.take n):=λr y=>h r (iq y)
def okRs.drop{w:Nat}{as:AU}(n:Nat)(h:okRs w as):okRs w (as.drop n):=λr y=>h r (iA y)
theorem Mx{w:Nat}{rs:AU}{dd:AA}(J:okRs w rs)(z:okF w m)(hd:okD dd)(h:rs⁻¹<=12):(rs.take n)⁻¹+(0+1)<=sz/\((rs.take n).map aq++[D.tup [.str m,.str dd]])⁻¹+(rs.drop n)⁻¹<=sz/\∃y:AU,D.lst ((rs.take n).map aq++[D.tup [.str m,.str dd]]++(rs.drop n).map aq)=.lst (y.map aq)/\okRs w y/\rs⁻¹<=y⁻¹/\y⁻¹<=rs⁻¹+1:=by show(by rw[bv];bv_omega,by rw[ax,ah,bv,cq,i9];bv_omega,rs.take n++(m,dd)::rs.drop n,?_,J.ins z hd,by rw[Mj];lia,by rw[Mj];lia);rw[c9,db,b6];rfl
theorem agT(Z:aj)(h1:Z "_law_take"=eF)(h2:Z "_law_within"=iH)(h3:Z "_law_meet"=sW)(a:AQ×Nat×AU)(ds:AS)(G:DH)(h:Mv a ds G):aA Z Ad noE (env0 ds 7) G (ends (Bw a G)):=by
 let(p,w,rs):=a;let(rfl,hp,hw,hr,h0,h12):=h;dsimp only at hp hw hr h0 h12 ⊢;simp_all_arith[Ad];nofun;erw[h1,ah];show cB hp (!0) (!0) λz G1 hat hp1 sb1=>hM _ _ (seq λM hM=>?_);have hat:z<rs⁻¹:=by lia
 have hc:rs[z]?=-rs[z]:=aI hat;generalize rs[z]=r at hc;have J:=hr r (bg hc);have hbl:=J.1.1;have hatI:atI (rs.map aq) (z:Int)=-(aq r):=bA (by rw[aS,hc];rfl);erw[ends];show aR hatI ?_;erw[aq];symm;erw[ends];show(!0,CompG.inv (P:=λi acc Y G'=>(∃o,Y=[o,-(.str r.1)])/\G'=G1/\acc=((List.range i).filter λn=>r.1[n]?==-42).map iN') ((_,rfl),rfl,rfl) (λv v v v v=>trivial) (by simp[bf];bv_omega) ?_ ?_)
 .rintro i d acc Y G' hd ⟨⟨o,rfl⟩,rfl,rfl⟩ kk hk;have hi:i<r.1⁻¹:=by
   have:=(al.mp hd).1;simpa [bf] using this
  have hdi:d=.int (i:Int):=by unfold bf at hd;rw[aS,List.getElem?_range (!!hi)]at hd;simpa using hd.symm
  subst hdi;have hc:r.1[i]?=-r.1[i]:=aI hi;erw[ends];show aR (a:=r.1[i]) (bA hc) ?_;erw[eH];cases h42:(r.1[i]==42) with
  |true=>exact hk _ _ _ ((_,rfl),rfl,by rw[List.range_succ,fN,List.filter_cons,hc];simp[iN',h42])
  |false=>exact hk _ _ _ ((_,rfl),rfl,by rw[List.range_succ,fN,List.filter_cons,hc];simp[iN',h42])
 .rintro acc Y G2 ⟨_,rfl,rfl⟩;have el:((List.range (bf 0 (r.1⁻¹:Int).toNat)⁻¹).filter λn=>r.1[n]?==-42).map iN'=(gh r.1).map iN':=by unfold gh;simp[bf]
  rw[el];have hsl:(gh r.1)⁻¹<=r.1⁻¹:=cb (List.length_filter_le _ _) (!2);symm;erw[h1];show cB hp1 (!1) (!1) λkd G3 hkd hp3 sb3=>hM _ _ (seq λM hM=>?_);have sb30:=sb1.trans sb3;have more:kd≠0\/gh r.1=[]->∀G4,Pen G4 p->Sb p G G4->M [-(.ref p),-(.lst (rs.map aq)),-(.int z),-(.str r.1),-(.str r.2),-(.lst ((gh r.1).map iN')),-(.int kd),none,none] G4:=by
   intro _ G4 O U;symm;cases hk1:((kd:Int)==1) with
   |true=>
    simp_arith![hk1];nofun;erw[h1,ah];show cB O (!0) (!0) λq G5 hq hp5 sb5=>?_;have epl:(z:Int)+1+(q:Int)=((z+1+q:Nat):Int):=by lia
    erw[epl];ac_nf0;erw[h1,h2,kZ,Bk,ah];show su hp5 J.1.2 (!0) λm G6 hm hp6 sb6=>?_;rw[hbl]at hm;show cB hp6 (!0) (!0) λq2 G7 hq2 hp7 sb7=>?_;erw[ends];show mZ (!0) (by simp;lia) λy hy=>?_;let(r2,hr2,rfl):=bX.mp hy;erw[aq];let(i1,i2,rs',i3,i4,i5,i6):=Mx (n:=z+1+q) hr hm (hr r2 hr2).2 h12;exact(!1,!1,i1,i2,rs',i3,i4,i5,i6,hp7,((U.trans sb5).trans sb6).trans sb7)
   |false=>
    erw[hk1];symm;cases hk2:((kd:Int)==2) with
    |true=>
     erw[hk2,h2,kZ,Bk,ah];show su O J.1.2 (!0) λm G6 hm hp6 sb6=>?_;rw[hbl]at hm;let(i1,i2,rs',i3,i4,i5,i6):=Mx (n:=z) hr hm J.2 h12;exact(!1,!1,i1,i2,rs',i3,i4,i5,i6,hp6,U.trans sb6)
    |false=>
     erw[hk2];symm;have stay:∀G5,Pen G5 p->Sb p G G5->M [-(.ref p),-(.lst (rs.map aq)),-(.int z),-(.str r.1),-(.str r.2),-(.lst ((gh r.1).map iN')),-(.int kd),none,none] G5:=by intro G5 hp5 sb5;ac_nf0;erw[ends];exact(rs,rfl,hr,ay _,fm _,hp5,sb5)
     by_cases hlt:z+1<rs⁻¹
     .have hl1:decide ((z:Int)+1<(rs⁻¹:Int))=true:=cp (!0);have hc2:rs[z+1]?=-rs[z+1]:=aI hlt;generalize rs[z+1]=r2 at hc2;have hok2:=hr r2 (bg hc2);have hatJ:atI (rs.map aq) ((z:Int)+1)=-(aq r2):=bA (j:=z+1) (by rw[aS,hc2];rfl);erw[ah,hl1];show aR hatJ ?_;have swap:∀G5,Pen G5 p->Sb p G G5->bh (atI (rs.map aq) ((z:Int)+1)) λd=>bh (atI (rs.map aq) (z:Int)) λd1=>0+1+1<=sz/\(cut (rs.map aq) none (-(z:Int)))⁻¹+(0+1+1)<=sz/\(cut (rs.map aq) none (-(z:Int))++[d,d1])⁻¹+(cut (rs.map aq) (-((z:Int)+2)) none)⁻¹<=sz/\Bw (p,w,rs) G (D.lst (cut (rs.map aq) none (-(z:Int))++[d,d1]++cut (rs.map aq) (-((z:Int)+2)) none)) G5:=by
       intro G5 hp5 sb5;show aR hatJ (aR hatI ?_);rw[kZ,agS,<-List.map_drop];show(!1,by rw[ah,bv];bv_omega,by rw[ax,ah,ah,bv,cq];simp only[ce,ia];bv_omega,rs.take z++[r2,r]++rs.drop (z+2),?_,?_,?_,?_,hp5,sb5)
       .rw[c9,c9];rfl
       .show ((hr.take z).cat ?_).cat (hr.drop _);intro x hx;simp only[bb,dP,io]at hx;rcases hx with e|e<;>subst e
        .exact hok2
        .exact J
       .rw[ax,ax,bv,cq];simp only[ce,ia];lia
       .rw[ax,ax,bv,cq];simp only[ce,ia];lia
      erw[aq];cases hdd:(r2.2==r.2) with
      |true=>exact swap G4 O U
      |false=>
       erw[h3];show aR hatJ ?_;erw[aq];show agQ (by rw[hbl,hok2.1.1],show r.1⁻¹<=1000 by lia,J.1.2,hok2.1.2) ?_;cases(bT r.1 r2.1).isSome with
       |true=>
        erw[ends];exact stay _ O U
       |false=>
        erw[ends];exact swap G4 O U
     .have hl1:decide ((z:Int)+1<(rs⁻¹:Int))=false:=cw (!0);erw[ah,hl1];exact stay _ O U
  cases hk0:((kd:Int)==0) with
  |false=>
   erw[hk0];exact more (.inl (by have:=dL.mp hk0;lia)) _ hp3 sb30
  |true=>
   cases hst:gh r.1 with
   |nil=>
    rw[hst]at more;erw[hk0];exact(!1,more (.inr rfl) _ hp3 sb30)
   |cons y ys=>
    have hne:gh r.1≠[]:=by rw[hst];simp
    have hpos:0<(gh r.1)⁻¹:=iN.mpr hne;have hnr:nrs ((y::ys).map iN')=true:=zG λd hd=>by let(_,_,rfl):=bX.mp hd;rfl
    rw[db]at hnr;simp_arith![hk0];show((by simpa [nrs] using hnr,cb (Nat.min_le_right _ _) (!1)),?_);rw[<-db (f:=iN'),<-hst];nofun;erw[h1,ah];show cB hp3 (!0) (!0) λq G4 hq O U=>?_;erw[ends];show mZ (!0) (by simp;lia) λy hy=>?_;let(pl,hpl,rfl):=bX.mp hy;have hpl42:r.1[pl]?=-42:=by unfold gh at hpl;simpa using (gI.mp hpl).2
    have hpll:=(al.mp hpl42).1;symm;erw[h1,iN'];show(!1,cB O (!1) (!1) λq5 G5 hq5 hp5 sb5=>?_);erw[ends];show mZ (!0) (by simp;lia) λy hy=>?_;obtain⟨c1,c2,f1,f2,rfl⟩:∃c1 c2:Nat,isF c1/\isF c2/\y=.str [c1,c2]:=by
     simp only[bb,dP,io]at hy;rcases hy with e|e
     .exact (48,49,Bm,Bo,e)
     .exact (49,48,Bo,Bm,e)
    erw[ends];show CompG.inv (P:=λi acc Y G'=>(∃o,Y=[o,-(.str r.2),-(.str r.1),-(.int pl)])/\G'=G5/\acc=(([c1,c2].take i).map λc=>((r.1.set pl c,r.2):Row)).map aq) ((_,rfl),rfl,rfl) (λv v v v v=>trivial) (show 2<=sz by decide) ?_ ?_
    .rintro i d acc Y G' hd ⟨⟨o,rfl⟩,rfl,rfl⟩ kk hk;replace hd:([c1,c2].map λc=>D.str [c])[i]?=-d:=hd;rw[aS]at hd;let(c,hcc,rfl):=a9.mp hd;have htk:[c1,c2].take (i+1)=[c1,c2].take i++[c]:=by rw[dy,hcc];rfl
     erw[rR,Mw];show(by rw[bv];bv_omega,by rw[ax,bv,cq,i9];bv_omega,!1,?_);rw[Lg hpll];exact hk _ _ _ ((_,rfl),rfl,by rw[htk,c9,c9];rfl)
    .rintro acc Y G' ⟨_,rfl,rfl⟩;have e2:((([c1,c2].take [D.str [c1],D.str [c2]]⁻¹).map λc=>((r.1.set pl c,r.2):Row)).map aq)=([(r.1.set pl c1,r.2),(r.1.set pl c2,r.2)]:AU).map aq:=rfl;rw[e2];ac_nf0;simp_arith[kZ,Mw,<-List.map_drop,ah];show(by simp only[bv,ax,ah,cq,ce,ia];bv_omega,by simp only[bv,ax,ah,cq,ce,ia];bv_omega,rs.take z++[(r.1.set pl c1,r.2),(r.1.set pl c2,r.2)]++rs.drop (z+1),?_,?_,?_,?_,hp5,(sb30.trans U).trans sb5)
     .rw[c9,c9];rfl
     .show ((hr.take z).cat ?_).cat (hr.drop _);intro x hx;simp only[bb,dP,io]at hx;rcases hx with e|e<;>subst e
      .exact (oO J.1 f1,J.2)
      .exact (oO J.1 f2,J.2)
     .rw[ax,ax,bv,cq];simp only[ce,ia];lia
     .rw[ax,ax,bv,cq];simp only[ce,ia];lia
def pTA(a:AQ×Nat×AU×Nat)(ds:AS)(G:DH):Prop:=ds=[.ref a.1,au a.2.1 a.2.2.1,.int (a.2.2.2:Nat)]/\Pen G a.1/\okB a.2.1 a.2.2.1/\a.2.2.2<=100
def qTA(a:AQ×Nat×AU×Nat)(G:DH)(d:D)(z:DH):Prop:=∃y,d=au a.2.1 y/\okB a.2.1 y/\Pen z a.1/\Sb a.1 G z
def sTA:RF.Spec:=ghS pTA qTA
def agU{p:AQ}{w m:Nat}{rs:AU}{k:AT}(U:Pen G p)(h1:okB w rs)(h2:m<=100)(O:∀(y:AU)(z:DH),okB w y->Pen z p->Sb p G z->k (au w y) z):sTA.t [.ref p,au w rs,.int (m:Nat)] G k E:=
 fG (p,w,rs,m) (rfl,U,h1,h2) λd z zZ=>by let(y,e,h1,h2,J):=zZ;subst e;exact O y z h1 h2 J
def agV(Z:aj)(h1:Z "_law_one_turning"=sX)(a:AQ×Nat×AU×Nat)(ds:AS)(G:DH)(h:pTA a ds G):aA Z Ae noE (env0 ds 2) G (ends (qTA a G)):=by
 let(p,w,rs,m):=a;let(rfl,hp,hb,hm):=h;dsimp only at hp hb hm ⊢;have hw6:=hb.w6;have hlen:=hb.len;have hr:okRs w rs:=λr hr=>(hb.form r hr,hb.deed r hr);simp_all_arith[Ae];nofun;erw[au];symm;have hdq:deq (.lst (rs.map aq)) (.lst [])=rs.isEmpty:=by
  cases rs with
  |nil=>rfl
  |cons r rs=>rfl
 simp_arith![hdq];show((agG rs,cb (Nat.min_le_right _ _) (!1)),gb (by split<;>decide),(by split<;>lia,by split<;>lia),?_);show ForG.inv (P:=λi Y G'=>∃(y:AU)(o4:Option D),Y=[-(.ref p),-(.tup [.int w,.tup (rs.map aq)]),-(.int (m:Nat)),-(.lst (y.map aq)),o4]/\okRs w y/\rs⁻¹<=y⁻¹/\y⁻¹<=12/\Pen G' p/\Sb p G G') (rs,none,rfl,hr,ay _,hlen,hp,Sb.refl _ _) (λx x x x=>trivial) ?_ ?_
 .rintro i d Y G' hd ⟨y,o4,rfl,z,hle,J,O,U⟩ kk hk;have hne:0<rs⁻¹:=by
   cases rs with
   |nil=>simp[bf]at hd
   |cons _ _=>simp
  simp_arith![ends];show last ?_;by_cases hlt:y⁻¹<12
  .have hl:decide ((y⁻¹:Int)<12)=true:=cp (!0);erw[ah,hl,h1];show agR O hw6 z (!0) J λrs2 G2 ok2 l1 l2 hp2 sb2=>hk _ _ (rs2,_,rfl,ok2,!0,!0,hp2,U.trans sb2)
  .have hl:decide ((y⁻¹:Int)<12)=false:=cw (!0);erw[ah,hl];exact hk _ _ (y,_,rfl,z,hle,J,O,U)
 .rintro Y G' ⟨y,o4,rfl,z,hle,J,O,U⟩;ac_nf0;erw[ends];exact(!1,y,rfl,(hb.w1,hb.w6,J,λr hr=>(z r hr).1,λr hr=>(z r hr).2),O,U)
def sY:RF.Spec:=cj (λa:Nat×AU×AU=>[au a.1 a.2.1,au a.1 a.2.2]) (λa=>okB a.1 a.2.1/\okB a.1 a.2.2) (λa=>aU (bK a.1 a.2.1 a.2.2).head?)
def agW{w:Nat}{rs ss:AU}{k:AT}(h:okB w rs)(h':okB w ss)(y:k (aU (bK w rs ss).head?) G):sY.t [au w rs,au w ss] G k E:=cL (w,rs,ss) rfl (h,h') y
def agX(Z:aj)(h1:Z "alike"=sV)(a:Nat×AU×AU)(G:DH)(h:okB a.1 a.2.1/\okB a.1 a.2.2):aA Z ou noE (env0 [au a.1 a.2.1,au a.1 a.2.2] 2) G (ends λd O=>O=G/\d=aU (bK a.1 a.2.1 a.2.2).head?):=by
 let(w,rs,ss):=a;let(J,y):=h;dsimp only at J y ⊢;have U:(([97,108,105,107,101]==[112,97,114,116,101,100]):Bool)=false:=by decide
 simp_all_arith[ou];nofun;erw[h1];show agL J y λd hq=>?_;rcases hq with⟨m,Y,rfl⟩|⟨z,t,bs,rfl,_,_⟩
 .erw[Mm];ac_nf0;erw[BEq.rfl,Y,aU,and_self]
 .erw[Mp];ac_nf0;erw[U,z,List.head?_nil,aU,and_self]
def unl(f g:AA)(n:Nat):AA:=(List.range n).filter λi=>f[i]? != g[i]?
def bU(f g:AA):Option (AA):=if bL g f=true then some g else if bL f g=true then some f else match unl f g f⁻¹ with |[i]=>-(f.set i 42)|_=>none
def lz:AS->Option D
 |[.str f,.str g]=>if decide (f⁻¹=g⁻¹)&&decide (f⁻¹<=1000) then some (aU (bU f g)) else none
 |_=>none
def agY{k:AT}(hl:f⁻¹=g⁻¹)(h:f⁻¹<=1000)(y:k (aU (bU f g)) G):(aO lz).t [.str f,.str g] G k E:=dD (if_pos (by rw[cp hl,cp h];rfl)) y
def agZ{f g:AA}{n:Nat}:unl f g (n+1)=unl f g n++(if(f[n]? != g[n]?)=true then[n] else[]):=by unfold unl;rw[List.range_succ,fN];congr 1;rw[List.filter_cons,List.filter_nil]
def ag0{f g:AA}{n:Nat}:(unl f g n)⁻¹<=n:=by unfold unl;exact cb (List.length_filter_le _ _) (!2)
def My{i:Nat}(hl:f⁻¹=g⁻¹)(h:unl f g f⁻¹=[i]):i<f⁻¹/\f[i]?≠g[i]?/\∀j,j≠i->f[j]?=g[j]?:=by
 have J:∀j,j∈unl f g f⁻¹↔j<f⁻¹/\f[j]?≠g[j]?:=λj=>by unfold unl;simp
 have h1:=(J i).mp (by rw[h];simp);show(h1.1,h1.2,λj O=>?_);by_cases y:j<f⁻¹
 .apply Classical.byContradiction;intro z;have:=(J j).mpr (y,z);rw[h]at this;exact O (ba.mp this)
 .rw[eD (!0),eD (!0)]
def ag1(Z:aj)(h1:Z "lies_in"=aO lu)(h2:Z "with_sign"=aO gQ)(ds:AS)(G:DH)(d:D)(h:lz ds=-d):aA Z nu noE (env0 ds 1) G (ends λd' O=>O=G/\d'=d):=by
 unfold lz at h;split at h
 .rename_i f g;split at h
  .rename_i hh;rw[ae,br,br]at hh;let(hl,hz):=hh;cases h;simp_all_arith[nu];nofun;erw[h1];show LQ (!0) ?_;cases q1:bL g f with
   |true=>
    have z:bU f g=-g:=by unfold bU;rw[if_pos q1]
    erw[z,aU]
   |false=>
    erw[ends];symm;erw[h1];show LQ (!0) ?_;cases q2:bL f g with
    |true=>
     have z:bU f g=-f:=by unfold bU;rw[if_neg (by rw[q1];decide),if_pos q2]
     erw[z,aU]
    |false=>
     have z:bU f g=match unl f g f⁻¹ with |[i]=>-(f.set i 42)|_=>none:=by unfold bU;rw[if_neg (by rw[q1];decide),if_neg (by rw[q2];decide)]
     erw[ends];symm;erw[ends];show CompG.inv (P:=λi J Y O=>(∃o0 o1,Y=[o0,o1,-(.str g)])/\O=G/\J=(unl f g i).map λj:Nat=>D.int (j:Int)) ((_,_,rfl),rfl,rfl) (λv v v v v=>trivial) (by rw[iD,ah];bv_omega) ?_ ?_
     .rintro i d J Y O hd ⟨⟨o0,o1,rfl⟩,rfl,rfl⟩ kk hk;rw[jo]at hd;let(d',U,rfl):=a9.mp hd;rw[aS]at U;let(x,hx,rfl):=a9.mp U;have hi:=(al.mp hx).1;have hy:g[i]?=-(g[i]'(!0)):=by simp[show i<g⁻¹ by lia]
      generalize (g[i]'(!0))=y at hy;have us:=@agZ f g i;simp_arith![ends];show aR (a:=y) (by rw[Nat.zero_add];exact bA hy) ?_;erw[eH];cases hxy:(x==y) with
      |true=>
       have e:x=y:=by simpa using hxy
       erw[ends];show hk none _ _ ((-(.int ((0+i:Nat):Int)),-(.str [x]),rfl),rfl,?_);rw[us,hx,hy,e];simp
      |false=>
       have e:x≠y:=by simpa using hxy
       erw[ends];show hk (-(.int ((0+i:Nat):Int))) _ _ ((-(.int ((0+i:Nat):Int)),-(.str [x]),rfl),rfl,?_);rw[us,hx,hy];simp[e]
     .rintro J Y O ⟨_,rfl,rfl⟩;rw[iD,ah];have ul:=@ag0 f g f⁻¹;symm;cases hu:unl f g f⁻¹ with
      |nil=>
       rw[hu]at z;erw[ends];show hM _ _ ?_;erw[z,aU]
      |cons i r=>
       cases r with
       |nil=>
        rw[hu]at z;have:=(My hl hu).1;erw[h2];exact oR this hz (rfl,by rw[z];rfl)
       |cons j r=>
        have e:((((List.map (λj:Nat=>D.int (j:Int)) (i::j::r))⁻¹:Nat):Int)==1)=false:=by rw[dL,ah,ce,ce];lia
        rw[hu]at z;simp_arith![e];show hM _ _ ?_;erw[z,aU]
  .cases h
 .cases h
def Mz{w:Nat}{h:AA}(y:okF w f)(z:okF w g)(e:bU f g=-h):okF w h:=by
 unfold bU at e;split at e
 .cases e;exact z
 .split at e
  .cases e;exact y
  .split at e
   .cases e;exact oO y (.inr (.inr rfl))
   .cases e
def rw0(rs:AU)(i:Nat):Row:=rs.getD i ([],[])
def jbR(rs:AU)(i j a:Nat):Option (AU):=
 match bU (rw0 rs i).1 (rw0 rs j).1 with
 |none=>none
 |some f=>if(rw0 rs i).2=(rw0 rs j).2 then some (wo (rs.set a (f,(rw0 rs a).2)) (if a=i then j else i)) else none
def dw(w:Nat):Option (AU)->D
 |none=>.non
 |some rs=>au w rs
structure JB where
 w:Nat
 rs:AU
 i:Nat
 j:Nat
 a:Nat
def gW(a:JB):Prop:=okB a.w a.rs/\a.i<a.j/\a.j<a.rs⁻¹/\(a.a=a.i\/a.a=a.j)
def sJB:RF.Spec:=cj (λa:JB=>[au a.w a.rs,.int (a.i:Nat),.int (a.j:Nat),.int (a.a:Nat)]) gW (λa=>dw a.w (jbR a.rs a.i a.j a.a))
def iJ{rs:AU}{i:Nat}(h:i<rs⁻¹):rs[i]?=-(rw0 rs i):=by unfold rw0;rw[dn,aI h];rfl
def jx{rs:AU}{i:Nat}(h:i<rs⁻¹):rw0 rs i∈rs:=bg (iJ h)
def oY{rs:AU}{i:Nat}(h:i<rs⁻¹):atI (rs.map aq) (i:Int)=-(aq (rw0 rs i)):=bA (by rw[aS,iJ h];rfl)
def MF{w p:Nat}{rs:AU}(y:okB w rs)(U:p<rs⁻¹)(O:okF w f):okB w (rs.set p (f,(rw0 rs p).2)):=by
 have J:∀x∈rs.set p (f,(rw0 rs p).2),x∈rs\/x=(f,(rw0 rs p).2):=λx Y=>List.mem_or_eq_of_mem_set Y;show(y.w1,y.w6,by rw[da];exact y.len,λr z=>?_,λr z=>?_)
 .rcases J r z with h|rfl
  .exact y.form r h
  .exact O
 .rcases J r z with h|rfl
  .exact y.deed r h
  .exact show okD (rw0 rs p).2 from y.deed _ (jx U)
theorem sZ{a:JB}(h:gW a){ss:AU}(e:jbR a.rs a.i a.j a.a=-ss):okB a.w ss/\ss⁻¹+1=a.rs⁻¹:=by
 let(w,rs,i,j,p):=a;let(y,h1,h2,O):=h;dsimp only at y h1 h2 O e ⊢;unfold jbR at e;cases z:bU (rw0 rs i).1 (rw0 rs j).1 with
 |none=>rw[z]at e;cases e
 |some f=>
  rw[z]at e;dsimp only at e;split at e
  .cases e;have U:=Mz (y.form _ (jx (show i<rs⁻¹ by lia))) (y.form _ (jx h2)) z;have Y:p<rs⁻¹:=by lia
   have hs:okB w (rs.set p (f,(rw0 rs p).2)):=MF y Y U;have J:(if p=i then j else i)<(rs.set p (f,(rw0 rs p).2))⁻¹:=by rw[da];split<;>lia
   show(agN hs J,?_);have:=Mr J;rw[da]at this J;lia
  .cases e
def ag2{y:Type}{l:List y}{x:y}(h:n<l⁻¹):l.take n++[x]++l.drop (n+1)=l.set n x:=by rw[i8,if_pos h,b6];rfl
theorem ag3(Z:aj)(h1:Z "joined"=aO lz)(h2:Z "without"=sWo)(a:JB)(G:DH)(h:gW a):aA Z nR noE (env0 [au a.w a.rs,.int (a.i:Nat),.int (a.j:Nat),.int (a.a:Nat)] 4) G (ends λd G'=>G'=G/\d=dw a.w (jbR a.rs a.i a.j a.a)):=by
 have hall:=h;let(w,rs,i,j,p):=a;let(Y,hij,hj,hp):=h;dsimp only at Y hij hj hp ⊢;have hw6:=Y.w6;have hlen:=Y.len;have hi:i<rs⁻¹:=by lia
 have U:p<rs⁻¹:=by lia
 have fi:=Y.form _ (jx hi);have fj:=Y.form _ (jx hj);have fi1:=fi.1;have fj1:=fj.1;simp_all_arith[nR,au];nofun;erw[ends];symm;erw[h1];show aR (oY hi) ?_;erw[aq];show aR (oY hj) ?_;erw[aq];show agY (!0) (!0) (hM _ _ (seq λM hM=>?_));cases y:bU (rw0 rs i).1 (rw0 rs j).1 with
 |none=>
  have e:jbR rs i j p=none:=by unfold jbR;rw[y]
  erw[aU,e,dw]
 |some f=>
  have hf:=Mz fi fj y;have hfl:=hf.1;erw[aU];show aR (oY hi) ?_;erw[aq];show aR (oY hj) ?_;erw[aq];by_cases hd:(rw0 rs i).2=(rw0 rs j).2
  .have e:jbR rs i j p=-(wo (rs.set p (f,(rw0 rs p).2)) (if p=i then j else i)):=by unfold jbR;rw[y];exact if_pos hd
   have hsb:=(sZ hall e).1;rw[hd];erw[BEq.rfl];symm;erw[kZ,Mt,ah,bv,cq];show aR (oY U) ?_;erw[aq];have em:(rs.take p).map aq++[D.tup [.str f,.str (rw0 rs p).2]]++(rs.drop (p+1)).map aq=(rs.set p (f,(rw0 rs p).2)).map aq:=by rw[<-ag2 U,c9,c9];rfl
   show(!1,!1,by bv_omega,by rw[ax,ah,bv,i9];bv_omega,!1,hM _ _ (last ?_));have hsl:(rs.set p (f,(rw0 rs p).2))⁻¹=rs⁻¹:=da;have e0:D.tup [.int w,.tup ((rs.set p (f,(rw0 rs p).2)).map aq)]=au w (rs.set p (f,(rw0 rs p).2)):=rfl;rw[em,e0];have z:okB w (rs.set p (f,(rw0 rs p).2)):=MF Y U hf;by_cases O:p=i
   .subst O;rw[if_pos rfl]at e;erw[BEq.rfl,h2];show Ms z (!0) (rfl,?_);rw[e];rfl
   .have J:((p:Int)==(i:Int))=false:=by simpa using (λh=>O (!0))
    rw[if_neg O]at e;erw[J,h2];show Ms z (!0) (rfl,?_);rw[e];rfl
  .have e:jbR rs i j p=none:=by unfold jbR;rw[y];exact if_neg hd
   have J:((rw0 rs i).2==(rw0 rs j).2)=false:=by simpa using hd
   erw[J,e,dw]
def ag4{w i j a:Nat}{rs:AU}{k:AT}(h:gW (w,rs,i,j,a))(y:k (dw w (jbR rs i j a)) G):sJB.t [au w rs,.int (i:Int),.int (j:Int),.int (a:Int)] G k E:=cL ((w,rs,i,j,a):JB) rfl h y
def tu:RF.Spec:=cj (A:=Nat×AU×AA) (λa=>[au a.1 a.2.1,.str a.2.2]) (λa=>∀r∈a.2.1,r.1⁻¹=a.2.2⁻¹) (λa=>aU (bz a.2.1 (bD a.2.1 a.2.2)))
def MJ{w:Nat}{rs:AU}{k:AT}(h:∀r∈rs,r.1⁻¹=l⁻¹)(y:k (aU (bz rs (bD rs l))) G):tu.t [au w rs,.str l] G k E:=cL (w,rs,l) rfl h y
def ag5(Z:aj)(h1:Z "_law_met"=sO)(a:Nat×AU×AA)(G:DH)(h:∀r∈a.2.1,r.1⁻¹=a.2.2⁻¹):
  aA Z zU noE (env0 [au a.1 a.2.1,.str a.2.2] 1) G (ends λd G'=>G'=G/\d=aU (bz a.2.1 (bD a.2.1 a.2.2))):=by
 let(w,rs,l):=a;dsimp only at h ⊢;simp_all_arith[zU];nofun;erw[h1];show agi h (hM _ _ (seq λM hM=>?_));cases hm:bD rs l with
 |none=>erw[aW,bz,Option.bind,aU,and_self]
 |some n=>
  have hn:=afQ hm;have hc:rs[n]?=-rs[n]:=aI hn;erw[aW];ac_nf0;erw[au];show aR (a:=aq rs[n]) (bA (by rw[aS,hc];rfl)) ?_;erw[aq];simp[bz,hc,hm,aU]
def tB:RF.Spec:=ghS (A:=Nat×AU×AU) (λa ds z=>ds=[au a.1 a.2.1,au a.1 a.2.2]/\okB a.1 a.2.1/\okB a.1 a.2.2) (λa G d y=>Sa G y/\d=aU (bK a.1 a.2.1 a.2.2).head?)
def ag6{w:Nat}{rs ss:AU}{k:AT}(h:okB w rs)(h':okB w ss)(z:∀y,Sa G y->k (aU (bK w rs ss).head?) y):tB.t [au w rs,au w ss] G k E:=
 fG (w,rs,ss) (rfl,h,h') λd y J=>by
  let(e,q):=J;subst q;exact z y e
def ag7(Z:aj)(h1:Z "_law_words"=oG)(h2:Z "_law_deed"=tu)(a:Nat×AU×AU)(ds:AS)(G:DH)(h:ds=[au a.1 a.2.1,au a.1 a.2.2]/\okB a.1 a.2.1/\okB a.1 a.2.2):
  aA Z zV noE (env0 ds 1) G (ends λd U=>Sa G U/\d=aU (bK a.1 a.2.1 a.2.2).head?):=by
 let(w,rs,ss):=a;let(rfl,hb,hb'):=h;dsimp only at hb hb' ⊢;have hw6:=hb.w6;have e0:∀xs:AU,D.tup [.int w,.tup (xs.map aq)]=au w xs:=λt=>rfl;simp_all_arith[zV];nofun;simp_arith![au,h1,e8,Ld];show(!0,!0,by bv_omega,Ay (by rw[de];lia) λG1 O=>?_);simp_arith![ends];show ForG.inv (P:=λi Y U=>(∃o2,Y=[-(.tup [.int w,.tup (rs.map aq)]),-(.tup [.int w,.tup (ss.map aq)]),o2])/\U=G1/\((aK (List.replicate w 42)).take i).filter (λl=>!(bz rs (bD rs l)==bz ss (bD ss l)))=[]) ((_,rfl),rfl,rfl) (λt t t t=>trivial) ?_ ?_
 .rintro i d Y U hd ⟨⟨o2,rfl⟩,rfl,J⟩ kk hk;rw[aS]at hd;let(l,hl,rfl):=a9.mp hd;have hlm:=bg hl;have hll:l⁻¹=w:=by have:=(afU.mp (dX.mp hlm)).1;exact this
  have htk:(aK (List.replicate w 42)).take (i+1)=(aK (List.replicate w 42)).take i++[l]:=by rw[dy,hl];rfl
  simp_arith![ends];show last ?_;erw[h2];rw[e0,e0];show MJ (λr hr=>by rw[(hb.form r hr).1,hll]) ?_;show MJ (λr hr=>by rw[(hb'.form r hr).1,hll]) ?_;have done:(bz rs (bD rs l)==bz ss (bD ss l))=true->∀o2,kk [-(.tup [.int w,.tup (rs.map aq)]),-(.tup [.int w,.tup (ss.map aq)]),o2] U:=λhe o2=>hk _ _ ((_,rfl),rfl,by rw[htk,fN,J];simp[he]);have z:(bz rs (bD rs l)==bz ss (bD ss l))=false->(bK w rs ss).head?=-l:=λhe=>by
   unfold bK;have e:=e9 (i+1) (aK (List.replicate w 42));rw[<-e,htk,fN,fN,J];simp[he]
  generalize bz rs (bD rs l)=x at done z;generalize bz ss (bD ss l)=y at done z;cases x<;>cases y<;>erw[aU]
  .exact done rfl _
  .rw[z rfl];exact(O,rfl)
  .rw[z rfl];exact(O,rfl)
  .rename_i u v;cases he:(u==v) with
   |true=>
    erw[ends];exact done (!!he) _
   |false=>
    erw[ends];rw[z (!!he)];exact(O,rfl)
 .rintro Y U ⟨⟨o2,rfl⟩,rfl,J⟩;rw[ah,fo]at J;show hM _ _ ?_;erw[ends];show(O,?_);unfold bK;rw[J];rfl
def tD:RF.Spec:=ghS (A:=AQ×Nat×Nat) (λa ds G=>ds=[.ref a.1,.int (a.2.1:Nat),.int (a.2.2:Nat)]/\Pen G a.1/\1<=a.2.1/\a.2.1<=6/\a.2.2<=12) (λa G d y=>∃w rs,d=au w rs/\okB w rs/\Pen y a.1/\Sb a.1 G y)
def ag8{p:AQ}{m:Nat}{k:AT}(O:Pen G p)(h1:1<=v)(h2:v<=6)(z:m<=12)(J:∀w rs y,okB w rs->Pen y p->Sb p G y->k (au w rs) y):tD.t [.ref p,.int (v:Int),.int (m:Int)] G k E:=fG (p,v,m) (rfl,O,h1,h2,z) λd y U=>by
 let(w,rs,rfl,Y,q2,q3):=U;exact J w rs y Y q2 q3
def ag9(Z:aj)(h1:Z "_law_book"=sG)(h2:Z "_law_turned_alike"=sTA)(h3:Z "_law_take"=eF)(a:AQ×Nat×Nat)(ds:AS)(G:DH)(h:ds=[.ref a.1,.int (a.2.1:Nat),.int (a.2.2:Nat)]/\Pen G a.1/\1<=a.2.1/\a.2.1<=6/\a.2.2<=12):
  aA Z Af noE (env0 ds 1) G (ends λd G'=>∃w rs,d=au w rs/\okB w rs/\Pen G' a.1/\Sb a.1 G G'):=by
 let(p,v,m):=a;let(rfl,hp,y,z,hm):=h;dsimp only at hp y z hm ⊢;simp_all_arith[Af];nofun;erw[h1];show afy hp y z hm λw rs G1 hb x x O sb1=>hM _ _ (last ?_);erw[h2,h3];show cB O (!1) (!1) λt G2 ht U sb2=>?_;exact agU U hb (!0) λrs' G3 J Y sb3=>(w,rs',rfl,J,Y,(sb1.trans sb2).trans sb3)
def aha{c:Nat}(h:c≠42):bO (c::f)=(bO f).map (c::·):=by rw[bO];unfold alt;rw[if_neg h];simp
def ahb:bO (42::f)=(bO f).map (48::·)++(bO f).map (49::·):=by rw[bO];unfold alt;rw[if_pos rfl];simp
def MK(f:AA):bO f≠[]:=λh=>by
 have:=Br f;rw[h]at this;have h1:0<2 ^ stc f:=Nat.two_pow_pos _;rw[<-this]at h1;exact absurd h1 (fb _)
def oZ:∀{m:AA}{j c:Nat},m[j]?=-c->(∀w∈bO m,∃s,w[j]?=-s/\s∈alt c)/\∀s∈alt c,∃w∈bO m,w[j]?=-s
 |[],j,c,h=>by simp at h
 |a::m,0,c,h=>by
  have e:a=c:=by simpa using h
  subst e;rw[bO];show(λw hw=>?_,λs hs=>?_)
  .let(s,hs,hw):=jS.mp hw;let(l,_,rfl):=bX.mp hw;exact(s,rfl,hs)
  .let(l,hl):=List.exists_mem_of_ne_nil _ (MK m);exact(s::l,jS.mpr (s,hs,bX.mpr (l,hl,rfl)),rfl)
 |a::m,j+1,c,h=>by
  have z:=oZ (m:=m) (j:=j) (c:=c) (!!h);rw[bO];show(λw hw=>?_,λs hs=>?_)
  .let(s,hs,hw):=jS.mp hw;let(l,hl,rfl):=bX.mp hw;let(x,e,O):=z.1 l hl;exact(x,!!e,O)
  .let(l,hl,e):=z.2 s hs;have J:∃y,y∈alt a:=by
    unfold alt;split
    .exact (48,aT)
    .exact (a,aT)
   let(y,U):=J;exact(y::l,jS.mpr (y,U,bX.mpr (l,hl,rfl)),!!e)
def Bx:∀(z ks:List (AA)),ks.Nodup->(z.foldl putN ks).Nodup/\∀y,(y∈ks\/y∈z)->y∈z.foldl putN ks
 |[],ks,hn=>(hn,λy h=>by rcases h with h|h;exact h;cases h)
 |x::z,ks,hn=>by
  have J:(putN ks x).Nodup/\x∈putN ks x/\∀y∈ks,y∈putN ks x:=by
   unfold putN;split
   .rename_i O;exact(hn,O,λy U=>U)
   .rename_i O;show(List.nodup_append.mpr (hn,List.pairwise_singleton _ _,λa Y b hb e=>?_),b9 _ aT,λy U=>eK _ U);rw[ba.mp hb]at e;exact O (e ▸ Y)
  let(h1,h2):=Bx z (putN ks x) J.1;show(h1,λy h=>?_);rcases h with h|h
  .exact h2 y (.inl (J.2.2 y h))
  .rcases bb.mp h with rfl|h
   .exact h2 _ (.inl J.2.1)
   .exact h2 y (.inr h)
def MN{y:AA}(h:y∈ls):y∈cA ls:=(Bx ls [] List.Pairwise.nil).2 y (.inr h)
def MP(y:List (AA)):(cA y).Nodup:=(Bx y [] List.Pairwise.nil).1
def ahc{a b:AA}:∀{l:List (AA)},l.Nodup->(∀x∈l,x=a\/x=b)->l⁻¹<=2
 |[],_,_=>by decide
 |[x],_,_=>fm 1
 |[x,y],_,_=>ay 2
 |x::y::z::l,hn,h=>by
  have J:=h x (!2);have O:=h y (!2);have U:=h z (!2);simp only[fA,bb,not_or]at hn;let((Y,n2,_),(n3,_),_):=hn;rcases J with rfl|rfl<;>rcases O with rfl|rfl<;>rcases U with rfl|rfl<;>first|exact absurd rfl Y|exact absurd rfl n2|exact absurd rfl n3
def By:∀y:List (AA),bj (y.map D.str)=-y
 |[]=>rfl
 |l::y=>by rw[db,bj,By y]
def BJ(h:m⁻¹<=6):(aK m)⁻¹<=64:=by have y:2 ^ m⁻¹<=2 ^ 6:=gT (!1) h;exact cb (K5 m) y
def MT:∀f:AA,(bO f).Nodup
 |[]=>List.pairwise_singleton _ _
 |c::f=>by
  have U:=MT f;have z:∀s:Nat,((bO f).map (s::·)).Nodup:=λs=>by
   unfold List.Nodup;rw[List.pairwise_map];exact U.imp λh e=>h (List.cons.inj e).2
  by_cases hc:c=42
  .subst hc;rw[ahb];show List.nodup_append.mpr (z 48,z 49,λx J y O e=>?_);let(p,_,rfl):=bX.mp J;let(q,_,rfl):=bX.mp O;cases e
  .rw[aha hc];exact z c
def tH:∀{U W:List (AA)},U.Nodup->(∀x∈U,x∈W)->U⁻¹<=W⁻¹
 |[],W,_,_=>gS _
 |x::U,W,hn,h=>by
  let(s,t,rfl):=List.append_of_mem (h x aT);have J:=fA.mp hn;have ih:=tH (U:=U) (W:=s++t) J.2 λy O=>by
   have Y:=h y (bP _ O);rcases bp.mp Y with z|z
   .exact eK _ z
   .rcases bb.mp z with e|z
    .rw[e]at O;exact absurd O J.1
    .exact b9 _ z
  rw[ax]at ih;rw[ax,ce,ce];lia
def BK(a:AA×List (AA)):Prop:=a.1⁻¹<=6/\a.2≠[]/\a.2⁻¹<=64/\(∀w∈a.2,w⁻¹=a.1⁻¹)/\∀(j c:Nat),a.1[j]?=-c->(∀w∈a.2,∃s,w[j]?=-s/\s∈alt c)/\∀s∈alt c,∃w∈a.2,w[j]?=-s
def fO(W:List (AA))(j:Nat):List (AA):=W.map λw=>[w.getD j 0]
def M3{W O:List (AA)}{j c:Nat}(w1:∀w∈W,∃s,w[j]?=-s/\s∈alt c)(w2:∀s∈alt c,∃w∈W,w[j]?=-s)(hp:O.Perm (cA (fO W j))):(cA (fO W j))⁻¹<=64/\((c≠42/\O=[[c]])\/(c=42/\∃a b,O=[a,b])):=by
 have z:∀y∈cA (fO W j),∃s∈alt c,y=[s]:=λy hy=>by
  let(w,hw,rfl):=bX.mp (yK _ hy);let(s,e,hs):=w1 w hw;exact(s,hs,by rw[dn,e];rfl)
 have J:∀s∈alt c,[s]∈cA (fO W j):=λs hs=>by
  let(w,hw,e):=w2 s hs;exact MN (bX.mpr (w,hw,by rw[dn,e];rfl))
 have hnd:=MP (fO W j);generalize cA (fO W j)=U at hp z J hnd;by_cases Y:c=42
 .subst Y;have ha:alt 42=[48,49]:=rfl;rw[ha]at z J;have hle:=ahc (a:=[48]) (b:=[49]) hnd λx hx=>by
   let(s,hs,rfl):=z x hx;simp only[bb,dP,io]at hs;rcases hs with rfl|rfl
   .exact .inl rfl
   .exact .inr rfl
  have h48:=J 48 (!2);have h49:=J 49 (!2);show(!0,.inr (rfl,?_));have h48':=hp.mem_iff.mpr h48;have h49':=hp.mem_iff.mpr h49;have hl:O⁻¹<=2:=by rw[hp.length_eq];exact hle
  match O,h48',h49',hl with
  |[],h,_,_=>cases h
  |[x],h,h',_=>
   have e1:=ba.mp h;have e2:=ba.mp h';rw[<-e1]at e2;cases e2
  |[a,b],_,_,_=>exact(a,b,rfl)
  |_::_::_::_,_,_,hl=>simp at hl
 .have ha:alt c=[c]:=by unfold alt;rw[if_neg Y]
  rw[ha]at z J;have hU:∀x∈U,x=[c]:=λx hx=>by
   let(s,hs,rfl):=z x hx;rw[ba.mp hs]
  have hc':=J c aT;have e:U=[[c]]:=by
   match U,hnd,hU,hc' with
   |[],_,_,h=>cases h
   |[x],_,h,_=>rw[h x aT]
   |x::y::l,hn,h,_=>
    have hx:=h x (!2);have hy:=h y (!2);simp only[fA,bb,not_or]at hn;exact absurd (hx.trans hy.symm) hn.1.1
  subst e;exact((show 1<=64 from by decide),.inl (Y,List.perm_singleton.mp hp))
def sFO:RF.Spec:=cj (λa:AA×List (AA)=>[.lst (a.2.map D.str)]) BK (λa=>.str a.1)
theorem ahd(Z:aj)(a:AA×List (AA))(G:DH)(h:BK a):aA Z zM noE (env0 [.lst (a.2.map D.str)] 3) G (ends λd J=>J=G/\d=.str a.1):=by
 let(m,W):=a;let(hl,U,h64,y,O):=h;dsimp only at hl U h64 y O ⊢;obtain⟨z,ws,ew⟩:∃z ws,W=z::ws:=by
  cases W with
  |nil=>exact absurd rfl U
  |cons a l=>exact(a,l,rfl)
 have hw0:z⁻¹=m⁻¹:=y z (by rw[ew];exact aT);have e0:(W.map D.str)[0]?=-(.str z):=by rw[ew];rfl
 simp_all_arith[zM];nofun;erw[ends];symm;simp_arith![ends];show aR (a:=.str z) (bA (j:=0) e0) ?_;simp_arith![ends];show((!0,!0),ForG.inv (P:=λi Y J=>(∃o2 o3,Y=[-(.lst (W.map D.str)),-(.str (m.take i)),o2,o3])/\J=G) ((_,_,rfl),rfl) (λx x x x=>trivial) ?_ ?_)
 .rintro i d Y J hd ⟨⟨o2,o3,rfl⟩,rfl⟩ kk hk;unfold bf at hd;rw[aS]at hd;let(j,hj,rfl):=a9.mp hd;have hji:j=i/\i<m⁻¹:=by
   have:=al.mp hj;let(q1,q2):=this;rw[List.getElem_range]at q2;rw[jp]at q1;exact(q2.symm,!0)
  let(rfl,hif):=hji;have hx:m[j]?=-m[j]:=by simp[hif]
  generalize m[j]=c at hx;let(w1,w2):=O j c hx;have tm:m.take (j+1)=m.take j++[c]:=by rw[dy,hx];rfl
  have ezj:(0:Int)+(j:Int)=((j:Nat):Int):=by lia
  simp_arith![ezj];nofun;simp_arith![ends];show CompG.map (f:=λd=>match d with |.str l=>.str [l.getD j 0]|_=>.non) (I:=λY=>∃o,Y=[o,-(.int j)]) (_,rfl) trivial (by rw[ah];bv_omega) ?_ ?_
  .rintro d Y hd ⟨o,rfl⟩ kk hk;let(l,hl,rfl):=bX.mp hd;have hll:l⁻¹=m⁻¹:=y l hl;have hlj:l[j]?=-(l.getD j 0):=by rw[dn,aI (!0)];rfl
   erw[ends];show aR (a:=l.getD j 0) (bA hlj) ?_;exact hk _ (_,rfl)
  .have el:(W.map D.str).map (λd=>match d with |.str l=>D.str [l.getD j 0]|_=>.non)=(fO W j).map D.str:=by
    unfold fO;rw[eP,eP];rfl
   rw[el];have ed:bj ((fO W j).map D.str)=-(fO W j):=By _;simp_arith![ed];show((by unfold fO;rw[ah];lia,(M3 w1 w2 (fx _)).1),λls' pm=>hM _ _ (last ?_));rcases(M3 w1 w2 pm).2 with⟨h42,rfl⟩|⟨rfl,a,b,rfl⟩
   .erw[ends];show(!1,aR (a:=.str [c]) rfl ?_);erw[ends];show(by rw[bv];bv_omega,hk _ _ ((-(.int j),_,by rw[tm]),rfl))
   .erw[ends];show(!1,aR (a:=.str [42]) rfl ?_);erw[ends];show(by rw[bv];bv_omega,hk _ _ ((-(.int j),_,by rw[tm]),rfl))
 .rintro Y J ⟨⟨o2,o3,rfl⟩,rfl⟩;show hM _ _ ?_;erw[ends];unfold bf;rw[ah,jp,hw0];change D.str (m.take m⁻¹)=_;rw[fo]
def aZ(f g:AA):AA:=List.zipWith (λa b=>if a=b then a else 42) f g
def gj(hl:f⁻¹=g⁻¹):(aZ f g)⁻¹=f⁻¹:=by unfold aZ;rw[List.length_zipWith,hl,Nat.min_self]
def jy{j a b:Nat}(y:f[j]?=-a)(z:g[j]?=-b):(aZ f g)[j]?=-(if a=b then a else 42):=by unfold aZ;rw[List.getElem?_zipWith,y,z]
def tM:∀f g:AA,aZ f g=aZ g f
 |[],[]=>rfl
 |[],_::_=>rfl
 |_::_,[]=>rfl
 |a::f,b::g=>by
  have y:=tM f g;unfold aZ at y ⊢;rw[List.zipWith_cons_cons,List.zipWith_cons_cons,y];congr 1;by_cases h:a=b
  .rw[if_pos h,if_pos h.symm,h]
  .rw[if_neg h,if_neg (λz=>h z.symm)]
def dH{j:Nat}(h:j<f⁻¹):∃a,f[j]?=-a:=(f[j],aI h)
def BL{a b:Nat}(y:isF a)(z:isF b)(h:s∈alt a):s∈alt (if a=b then a else 42):=by
 split
 .exact h
 .rcases y with rfl|rfl|rfl
  .rw[ba.mp h];exact aT
  .rw[ba.mp h];exact bP _ aT
  .exact h
def M4{a b:Nat}(J:isF a)(z:isF b)(h:s∈alt (if a=b then a else 42)):s∈alt a\/s∈alt b:=by
 split at h
 .exact .inl h
 .rename_i y;have h:s=48\/s=49:=by
   have h:s∈[48,49]:=h;simpa using h
  rcases J with rfl|rfl|rfl
  .rcases z with rfl|rfl|rfl
   .exact absurd rfl y
   .rcases h with rfl|rfl
    .exact .inl aT
    .exact .inr aT
   .exact .inr (by rcases h with rfl|rfl<;>decide)
  .rcases z with rfl|rfl|rfl
   .rcases h with rfl|rfl
    .exact .inr aT
    .exact .inl aT
   .exact absurd rfl y
   .exact .inr (by rcases h with rfl|rfl<;>decide)
  .exact .inl (by rcases h with rfl|rfl<;>decide)
def tQ{w:AA}(hl:f⁻¹=g⁻¹)(J:∀x∈f,isF x)(O:∀x∈g,isF x)(h:w∈aK f):w∈aK (aZ f g):=by
 let(h1,h2):=dX.mp h;show dX.mpr ((gj hl).trans h1,λi c s hc hs=>?_);have hi:i<f⁻¹:=by have:=(al.mp hc).1;rw[gj hl]at this;exact this
 let(a,y):=dH hi;let(b,z):=dH (f:=g) (j:=i) (!0);rw[jy y z]at hc;cases hc;exact BL (J a (bg y)) (O b (bg z)) (h2 i a s y hs)
def ahe(hl:f⁻¹=g⁻¹)(h:bL f g){j a b:Nat}(J:f[j]?=-a)(O:g[j]?=-b):a=42\/a=b:=by
 have z:=agw h;clear h;induction f generalizing g j with
 |nil=>simp at J
 |cons x f ih=>
  cases g with
  |nil=>simp at hl
  |cons y g=>
   have z:(dY x y&&bY f g)=true:=z;rw[ae]at z;cases j with
   |zero=>
    have U:x=a:=by simpa using J
    have Y:y=b:=by simpa using O
    subst U Y;exact LK.mp z.1
   |succ j=>exact ih (g:=g) (j:=j) (!!hl) (!!J) (!!O) z.2
def M5(hl:f⁻¹=g⁻¹)(h:bL g f):aZ f g=g:=by
 show List.ext_getElem? λj=>?_;rcases iE j f⁻¹ with z|z
 .let(a,J):=dH z;let(b,y):=dH (f:=g) (j:=j) (!0);rw[jy J y,y];rcases ahe hl.symm h y J with rfl|rfl
  .by_cases e:a=42
   .rw[if_pos e,e]
   .rw[if_neg e]
  .rw[if_pos rfl]
 .rw[eD (by rw[gj hl];exact z),eD (!0)]
def M6(hl:f⁻¹=g⁻¹)(h:¬bL f g):∃(j a b:Nat),f[j]?=-a/\g[j]?=-b/\a≠42/\a≠b:=by
 rw[Lw hl]at h;induction f generalizing g with
 |nil=>
  cases g with
  |nil=>exact absurd rfl h
  |cons y g=>simp at hl
 |cons x f U=>
  cases g with
  |nil=>simp at hl
  |cons y g=>
   have e:bY (x::f) (y::g)=(dY x y&&bY f g):=rfl;rw[e,ae]at h;by_cases J:dY x y=true
   .let(j,a,b,h1,h2,O):=U (g:=g) (!!hl) λz=>h (J,z);exact(j+1,a,b,!!h1,!!h2,O)
   .rw[LK,not_or]at J;exact(0,x,y,rfl,rfl,J.1,J.2)
def M7{b:Nat}(y:isF b)(h:b≠42):opp b≠b:=by
 rcases y with rfl|rfl|rfl
 .decide
 .decide
 .exact absurd rfl h
def M8(b:Nat):opp b=48\/opp b=49:=by unfold opp;split;exact .inr rfl;exact .inl rfl
def ahf(hl:f⁻¹=g⁻¹)(hf:∀x∈f,isF x)(hg:∀x∈g,isF x)(h:bU f g=none):∃w∈aK (aZ f g),w∉aK f/\w∉aK g:=by
 unfold bU at h;by_cases h1:bL g f=true
 .rw[if_pos h1]at h;cases h
 rw[if_neg h1]at h;by_cases h2:bL f g=true
 .rw[if_pos h2]at h;cases h
 rw[if_neg h2]at h;let(i,bi,ai,O,U,ni,di):=M6 hl.symm h1;let(k,ak,bk,Y,gk,nk,dk):=M6 hl h2;have hm:∀j,j∈unl f g f⁻¹↔j<f⁻¹/\f[j]?≠g[j]?:=λj=>by unfold unl;simp
 have key:∃(i k a b:Nat),i≠k/\g[i]?=-b/\b≠42/\f[i]?≠some b/\f[k]?=-a/\a≠42/\g[k]?≠some a:=by
  by_cases e:i=k
  .subst e;rw[U]at Y;cases Y;rw[O]at gk;cases gk;have hex:∃j,j≠i/\j<f⁻¹/\f[j]?≠g[j]?:=by
    apply Classical.byContradiction;intro hno;have hi:i∈unl f g f⁻¹:=(hm i).mpr ((al.mp U).1,by rw[U,O];intro z;exact dk (cy z));have hnd:(unl f g f⁻¹).Nodup:=by unfold unl;exact List.Pairwise.filter _ List.nodup_range
    have J:∀j∈unl f g f⁻¹,j=i:=λj hj=>by
     apply Classical.byContradiction;intro hne;exact hno (j,hne,(hm j).mp hj)
    have e1:unl f g f⁻¹=[i]:=by
     match unl f g f⁻¹,hi,hnd,J with
     |[],hi,_,_=>cases hi
     |[x],_,_,J=>rw[J x aT]
     |x::y::l,_,hn,J=>
      have hx:=J x (!2);have hy:=J y (!2);simp only[fA,bb,not_or]at hn;exact absurd (hx.trans hy.symm) hn.1.1
    rw[e1]at h;cases h
   let(j,hji,hjl,hjd):=hex;let(a,ha):=dH hjl;let(b,hb):=dH (f:=g) (j:=j) (!0);have hab:a≠b:=λz=>hjd (by rw[ha,hb,z]);by_cases ha42:a=42
   .show (j,i,ai,b,hji,hb,λz=>hab (by rw[ha42,z]),by rw[ha];intro z;exact hab (cy z),U,nk,by rw[O];intro z;exact di (cy z))
   .show (i,j,a,bi,λz=>hji z.symm,O,ni,by rw[U];intro z;exact di (cy z).symm,ha,ha42,by rw[hb];intro z;exact hab (cy z).symm)
  .exact (i,k,ak,bi,e,O,ni,by rw[U];intro z;exact di (cy z).symm,Y,nk,by rw[gk];intro z;exact dk (cy z).symm)
 let(i,k,a,b,hik,O,nb,U,Y,na,gk):=key;have il:i<f⁻¹:=by have:=(al.mp O).1;lia
 have kl:k<f⁻¹:=(al.mp Y).1;have hbF:=hg b (bg O);have haF:=hf a (bg Y);have hi42:(aZ f g)[i]?=-42:=by let(a',ha'):=dH il;rw[jy ha' O,if_neg (λz=>U (by rw[ha',z]))]
 have hk42:(aZ f g)[k]?=-42:=by let(b',hb'):=dH (f:=g) (j:=k) (!0);rw[jy Y hb',if_neg (λz=>gk (by rw[hb',z]))]
 let v:=(aZ f g).map λc=>if c=42 then 48 else c
 have vl:v⁻¹=f⁻¹:=by change((aZ f g).map _)⁻¹=_;rw[ah,gj hl]
 let w:=(v.set i (opp b)).set k (opp a)
 have wi:w[i]?=-(opp b):=by change((v.set i (opp b)).set k (opp a))[i]?=_;rw[ft (λz=>hik z.symm),eh (!0)]
 have wk:w[k]?=-(opp a):=by change((v.set i (opp b)).set k (opp a))[k]?=_;rw[eh (by rw[da];lia)]
 show(w,dX.mpr (?_,λj c s hc hs=>?_),λhw=>?_,λhw=>?_)
 .change (aZ f g)⁻¹=((v.set i (opp b)).set k (opp a))⁻¹;rw[da,da,vl,gj hl]
 .by_cases ek:j=k
  .subst ek;rw[hk42]at hc;cases hc;rw[wk]at hs;cases hs;rcases M8 a with z|z<;>rw[z]<;>decide
  .by_cases ei:j=i
   .subst ei;rw[hi42]at hc;cases hc;rw[wi]at hs;cases hs;rcases M8 b with z|z<;>rw[z]<;>decide
   .have hs:((v.set i (opp b)).set k (opp a))[j]?=-s:=hs;rw[ft (λz=>ek z.symm),ft (λz=>ei z.symm)]at hs;have hs:((aZ f g).map λc=>if c=42 then 48 else c)[j]?=-s:=hs;rw[aS,hc]at hs;have hs:(if c=42 then 48 else c)=s:=cy hs;unfold alt;split
    .rename_i z;rw[if_pos z]at hs;rw[<-hs];exact aT
    .rename_i z;rw[if_neg z]at hs;rw[<-hs];exact aT
 .have:=(dX.mp hw).2 k a (opp a) Y wk;unfold alt at this;rw[if_neg na]at this;exact M7 haF na (ba.mp this)
 .have:=(dX.mp hw).2 i b (opp b) O wi;unfold alt at this;rw[if_neg nb]at this;exact M7 hbF nb (ba.mp this)
def ahg(hl:f⁻¹=g⁻¹)(hf:∀x∈f,isF x)(hg:∀x∈g,isF x)(h:bU f g=-m):m=aZ f g/\∀w∈aK (aZ f g),w∈aK f\/w∈aK g:=by
 unfold bU at h;by_cases h1:bL g f=true
 .rw[if_pos h1]at h;cases h;have e:=M5 hl h1;rw[e];exact(rfl,λw hw=>.inr hw)
 rw[if_neg h1]at h;by_cases h2:bL f g=true
 .rw[if_pos h2]at h;cases h;have e:=M5 hl.symm h2;rw[tM]at e;rw[e];exact(rfl,λw hw=>.inl hw)
 rw[if_neg h2]at h;split at h
 .rename_i i hu;cases h;let(hi,hne,y):=My hl hu;let(a,Y):=dH hi;let(b,hb):=dH (f:=g) (j:=i) (!0);have U:a≠b:=λz=>hne (by rw[Y,hb,z]);have e:f.set i 42=aZ f g:=by
   show List.ext_getElem? λj=>?_;by_cases J:j=i
   .subst J;rw[eh hi,jy Y hb,if_neg U]
   .rw[ft (λz=>J z.symm)];rcases iE j f⁻¹ with O|O
    .let(c,hc):=dH O;have hc':g[j]?=-c:=by rw[<-y j J];exact hc
     rw[jy hc hc',if_pos rfl,hc]
    .rw[eD O,eD (by rw[gj hl];exact O)]
  show(e,λw hw=>?_);rw[<-e]at hw;let(wl,wa):=dX.mp hw;rw[da]at wl;let(s,hs):=dH (f:=w) (j:=i) (!0);have h42:=wa i 42 s (eh hi) hs;have rest:∀(u:AA)(c:Nat),u⁻¹=w⁻¹->u[i]?=-c->s∈alt c->(∀j,j≠i->u[j]?=f[j]?)->w∈aK u:=by
   intro u c ul uc sc us;show dX.mpr (ul,λj c' s' h1 h2=>?_);by_cases J:j=i
   .subst J;rw[uc]at h1;cases h1;rw[hs]at h2;cases h2;exact sc
   .show wa j c' s' ?_ h2;rw[ft (λz=>J z.symm),<-us j J];exact h1
  rcases M4 (hf a (bg Y)) (hg b (bg hb)) (by rw[if_neg U];exact h42) with z|z
  .exact .inl (rest f a wl Y z λj v=>rfl)
  .exact .inr (rest g b (!0) hb z λj O=>(y j O).symm)
 .cases h
def M9{W:List (AA)}(hn:n<=6)(U:okF n f)(hg:okF n g)(hp:W.Perm (cA (aK f++aK g))):BK (aZ f g,W)/\(cA (aK f++aK g))⁻¹<=64/\W.Nodup/\∀w,w∈W↔(w∈aK f\/w∈aK g):=by
 have hl:f⁻¹=g⁻¹:=U.1.trans hg.1.symm;have y:∀w,w∈W↔(w∈aK f\/w∈aK g):=λw=>by
  rw[hp.mem_iff];constructor
  .intro h;exact bp.mp (yK _ h)
  .intro h;exact MN (bp.mpr h)
 have hnd:W.Nodup:=hp.nodup_iff.mpr (MP _);have hwl:∀w∈W,w⁻¹=(aZ f g)⁻¹:=λw hw=>by
  rw[gj hl];rcases(y w).mp hw with z|z
  .exact Ax z
  .rw[Ax z,hl]
 have hfl:=U.1;have h6:(aZ f g)⁻¹<=6:=by rw[gj hl];lia
 have hsub:∀w∈W,w∈aK (aZ f g):=λw hw=>by
  rcases(y w).mp hw with z|z
  .exact tQ hl U.2 hg.2 z
  .rw[tM];exact tQ hl.symm hg.2 U.2 z
 have Y:W⁻¹<=64:=cb (tH hnd hsub) (BJ h6);show((h6,?_,Y,hwl,λj c hc=>?_),by rw[<-hp.length_eq];exact Y,hnd,y)
 .intro e;cases ew:aK f with
  |nil=>rw[iI]at ew;exact MK f ew
  |cons x l=>
   have:x∈W:=(y x).mpr (.inl (by rw[ew];exact aT));rw[show W=[] from e]at this;cases this
 .have hj:j<f⁻¹:=by
   have:=(al.mp hc).1;rw[gj hl]at this;exact this
  let(a,ha):=dH hj;let(b,hb):=dH (f:=g) (j:=j) (!0);have J:=U.2 a (bg ha);have O:=hg.2 b (bg hb);rw[jy ha hb]at hc;cases hc;have ca:(if a=b then a else 42)=if b=a then b else 42:=by
   by_cases e:a=b
   .rw[if_pos e,if_pos e.symm,e]
   .rw[if_neg e,if_neg (λz=>e z.symm)]
  show(λw hw=>?_,λs hs=>?_)
  .rcases (y w).mp hw with z|z
   .rw[iI]at z;let(s,h1,h2):=(oZ ha).1 w z;exact(s,h1,BL J O h2)
   .rw[iI]at z;let(s,h1,h2):=(oZ hb).1 w z;exact(s,h1,by rw[ca];exact BL O J h2)
  .rcases M4 J O hs with z|z
   .let(w,h1,h2):=(oZ ha).2 s z;exact(w,(y w).mpr (.inl (by rw[iI];exact h1)),h2)
   .let(w,h1,h2):=(oZ hb).2 s z;exact(w,(y w).mpr (.inr (by rw[iI];exact h1)),h2)
def ahh{W:List (AA)}(hl:f⁻¹=g⁻¹)(Y:∀x∈f,isF x)(hg:∀x∈g,isF x)(hnd:W.Nodup)(y:∀w,w∈W↔(w∈aK f\/w∈aK g)):
  (bU f g=none/\W⁻¹<2 ^ stc (aZ f g))\/(bU f g=-(aZ f g)/\¬W⁻¹<2 ^ stc (aZ f g)):=by
 have ew:(aK (aZ f g))⁻¹=2 ^ stc (aZ f g):=by rw[iI,Br]
 have J:∀w∈W,w∈aK (aZ f g):=λw hw=>by
  rcases(y w).mp hw with z|z
  .exact tQ hl Y hg z
  .rw[tM];exact tQ hl.symm hg Y z
 cases h:bU f g with
 |none=>
  let(w,h1,h2,h3):=ahf hl Y hg h;show .inl (rfl,?_);have hw:w∉W:=λz=>by rcases(y w).mp z with z|z;exact h2 z;exact h3 z
  have:=tH (U:=w::W) (W:=aK (aZ f g)) (fA.mpr (hw,hnd)) λx O=>by
   rcases bb.mp O with e|O
   .rw[e];exact h1
   .exact J x O
  rw[ew,ce]at this;lia
 |some m=>
  let(rfl,h2):=ahg hl Y hg h;show .inr (rfl,?_);have:=tH (U:=aK (aZ f g)) (W:=W) (by rw[iI];exact MT _) λx O=>(y x).mpr (h2 x O);lia
def BP:RF.Spec:=cj (λf:AA=>[.str f]) (λf=>f⁻¹<=1000) (λf=>.int ((2 ^ stc f:Nat):Int))
def ahi(Z:aj)(f:AA)(G:DH)(h:f⁻¹<=1000):aA Z zN noE (env0 [.str f] 2) G (ends λd y=>y=G/\d=.int ((2 ^ stc f:Nat):Int)):=by
 simp_all_arith[zN];nofun;erw[ends];symm;simp_arith![ends];show ForG.inv (P:=λi Y y=>(∃z,Y=[-(.str f),-(.int ((2 ^ stc (f.take i):Nat):Int)),z])/\y=G) ((_,rfl),rfl) (λx x x x=>trivial) ?_ ?_
 .rintro i d Y y hd ⟨⟨z,rfl⟩,rfl⟩ U O;rw[aS]at hd;let(c,hc,rfl):=a9.mp hd;have st:=agp hc;simp_arith![ends];show last ?_;erw[eH];cases J:(c==42) with
  |true=>
   rw[J,if_pos rfl]at st;show(gb (!1),O _ _ ((-(.str [c]),?_),rfl));rw[st,Nat.pow_succ,Int.natCast_mul];rfl
  |false=>
   rw[J,if_neg (!1),Nat.add_zero]at st;show(gb (!1),O _ _ ((-(.str [c]),?_),rfl));rw[st];change[_,-(D.int (((2 ^ stc (f.take i):Nat):Int)*1)),_]=_;rw[Int.mul_one];rfl
 .rintro Y y ⟨⟨z,rfl⟩,rfl⟩;rw[ah,fo];show hM _ _ ?_;erw[ends]
structure R40(Z:aj):Prop where
 words:Z "_law_words"=oG
 many:Z "_law_many_words"=BP
 form:Z "_law_form_of"=sFO
def sLJ:RF.Spec:=ghS (A:=Nat×AA×AA) (λa ds z=>ds=[.str a.2.1,.str a.2.2]/\a.1<=6/\okF a.1 a.2.1/\okF a.1 a.2.2) (λa G d y=>Sa G y/\d=aU (bU a.2.1 a.2.2))
def ahj{w:Nat}{k:AT}(h1:w<=6)(h2:okF w f)(O:okF w g)(U:∀y,Sa G y->k (aU (bU f g)) y):sLJ.t [.str f,.str g] G k E:=
 fG (w,f,g) (rfl,h1,h2,O) λd y zZ=>by let(z,J):=zZ;subst J;exact U y z
def ahk(Z:aj)(F:R40 Z)(a:Nat×AA×AA)(ds:AS)(G:DH)(h:ds=[.str a.2.1,.str a.2.2]/\a.1<=6/\okF a.1 a.2.1/\okF a.1 a.2.2):aA Z zP noE (env0 ds 2) G (ends λd G'=>Sa G G'/\d=aU (bU a.2.1 a.2.2)):=by
 let(w,f,g):=a;let(rfl,hw,J,O):=h;dsimp only at hw J O ⊢;have hl:f⁻¹=g⁻¹:=J.1.trans O.1.symm;have hfl:=J.1;have wf:=BJ (m:=f) (!0);have wg:=BJ (m:=g) (!0);simp_all_arith[zP];nofun;erw[F.words];show Ay (!0) λG1 Y=>?_;erw[F.words];show Ay (!0) λG2 sa2=>?_;have ed:bj ((aK f++aK g).map D.str)=-(aK f++aK g):=By _;simp_arith[<-c9,ed,ah,ax];have ok0:=M9 hw J O (fx _);show(by bv_omega,(!0,ok0.2.1),λW pm=>hM _ _ (seq λM hM=>?_));let(okw,_,hnd,U):=M9 hw J O pm;erw[F.form];show cL (aZ f g,W) rfl okw (hM _ _ (seq λM hM=>?_));have hz:(aZ f g)⁻¹<=1000:=by rw[gj hl];lia
 erw[F.many];show cL (aZ f g) rfl hz ?_;erw[ah];rcases ahh hl J.2 O.2 hnd U with⟨hj,y⟩|⟨hj,y⟩
 .rw[cp (show((W⁻¹:Nat):Int)<((2 ^ stc (aZ f g):Nat):Int) from Int.ofNat_lt.mpr y)];erw[hj,aU];exact Y.trans sa2
 .rw[cw (show¬((W⁻¹:Nat):Int)<((2 ^ stc (aZ f g):Nat):Int) from λz=>y (Int.ofNat_lt.mp z))];erw[ends];show hM _ _ ?_;erw[hj,aU];exact Y.trans sa2
def Nb:∀(l:AU)(x:Nat),(List.range l⁻¹).filterMap (λk=>if k=x then none else some (rw0 l k))=wo l x
 |[],x=>by simp[wo]
 |r::l,x=>by
  rw[ce,List.range_succ_eq_map,eA,List.filterMap_map];cases x with
  |zero=>
   rw[if_pos rfl];change(List.range l⁻¹).filterMap (λk=>if k+1=0 then none else some (rw0 (r::l) (k+1)))=wo (r::l) 0;have e:(λk=>if k+1=0 then none else some (rw0 (r::l) (k+1)))=λk=>-(rw0 l k):=by funext k;rw[if_neg (!0)];rfl
   rw[e];change _=l;rw[List.filterMap_eq_map'];show List.ext_getElem (!2) λi h1 h2=>?_;rw[List.getElem_map,List.getElem_range];have:=iJ h2;rw[aI h2]at this;exact(cy this).symm
  |succ x=>
   rw[if_neg (!0)];have e:((λk=>if k=x+1 then none else some (rw0 (r::l) k))∘Nat.succ)=λk=>if k=x then none else some (rw0 l k):=by
    funext k;change(if k+1=x+1 then none else some (rw0 (r::l) (k+1)))=_;by_cases h:k=x
    .rw[if_pos h,if_pos (!0)]
    .rw[if_neg h,if_neg (!0)];rfl
   rw[e,Nb l x];rfl
def sLM:RF.Spec:=ghS (A:=JB) (λa ds z=>ds=[au a.w a.rs,.int (a.i:Nat),.int (a.j:Nat),.int (a.a:Nat)]/\gW a) (λa G d y=>Sa G y/\d=dw a.w (jbR a.rs a.i a.j a.a))
def ahl{w i j a:Nat}{rs:AU}{k:AT}(h:gW (w,rs,i,j,a))(O:∀y,Sa G y->k (dw w (jbR rs i j a)) y):sLM.t [au w rs,.int (i:Int),.int (j:Int),.int (a:Int)] G k E:=
 fG (w,rs,i,j,a) (rfl,h) λd y zZ=>by let(z,J):=zZ;subst J;exact O y z
theorem ahm(Z:aj)(h1:Z "_law_joined"=sLJ)(a:JB)(ds:AS)(G:DH)(h:ds=[au a.w a.rs,.int (a.i:Nat),.int (a.j:Nat),.int (a.a:Nat)]/\gW a):aA Z zQ noE (env0 ds 4) G (ends λd y=>Sa G y/\d=dw a.w (jbR a.rs a.i a.j a.a)):=by
 let(w,rs,i,j,p):=a;let(rfl,hb,hij,hjn,hp):=h;dsimp only at hb hij hjn hp ⊢;have O:i<rs⁻¹:=by lia
 have hpn:p<rs⁻¹:=by lia
 have hlen:=hb.len;have w6:=hb.w6;have ei:(rs.map aq)[i]?=-(aq (rw0 rs i)):=by rw[aS,iJ O];rfl
 have ej:(rs.map aq)[j]?=-(aq (rw0 rs j)):=by rw[aS,iJ hjn];rfl
 have ep:(rs.map aq)[p]?=-(aq (rw0 rs p)):=by rw[aS,iJ hpn];rfl
 have e0:au w rs=.tup [.int w,.tup (rs.map aq)]:=rfl;simp_all_arith[zQ];nofun;conv=>enter [4,1,1];rw[e0]
 erw[ends];symm;erw[h1];show aR (a:=aq (rw0 rs i)) (bA ei) ?_;erw[aq];show aR (a:=aq (rw0 rs j)) (bA ej) ?_;erw[aq];show ahj w6 (hb.form _ (jx O)) (hb.form _ (jx hjn)) λG1 sa1=>hM _ _ (seq λM hM=>?_);have hge:decide ((j:Int)<=(i:Int))=false:=cw (!0);erw[hge];show aR (a:=aq (rw0 rs i)) (bA ei) ?_;erw[aq];show aR (a:=aq (rw0 rs j)) (bA ej) ?_;erw[aq];by_cases hd:(rw0 rs i).2=(rw0 rs j).2
 .have hq:((rw0 rs i).2==(rw0 rs j).2)=true:=aw.mpr hd;erw[hq];cases hj:bU (rw0 rs i).1 (rw0 rs j).1 with
  |none=>
   have J:jbR rs i j p=none:=by unfold jbR;rw[hj]
   erw[aU,J,dw];exact sa1
  |some f=>
   have J:jbR rs i j p=-(wo (rs.set p (f,(rw0 rs p).2)) (if p=i then j else i)):=by unfold jbR;rw[hj];exact if_pos hd
   erw[aU];symm;simp_arith![ah];have rng:∀(k:Nat)(d:D),(bf 0 ((rs⁻¹:Nat):Int).toNat)[k]?=-d->d=.int (k:Int)/\k<rs⁻¹:=λk d hd=>by
    have hk:k<rs⁻¹:=by have:=(al.mp hd).1;simpa [bf] using this
    show(?_,hk);unfold bf at hd;rw[aS,List.getElem?_range (!!hk)]at hd;simpa using hd.symm
   have U:(bf 0 ((rs⁻¹:Nat):Int).toNat)⁻¹=rs⁻¹:=by simp[bf]
   show((!0,!0),CompG.inv (P:=λk z Y y=>(∃o0,Y=[o0,-(.tup (rs.map aq))])/\y=G1/\z=(rs.map aq).take k) ((_,rfl),rfl,rfl) (λv v v v v=>trivial) (by rw[U];bv_omega) ?_ ?_)
   .rintro k d z Y y hd' ⟨⟨o0,rfl⟩,rfl,rfl⟩ kk hk;let(rfl,hkn):=rng k d hd';have ek:(rs.map aq)[k]?=-(aq (rw0 rs k)):=by rw[aS,iJ hkn];rfl
    erw[ends];show aR (a:=aq (rw0 rs k)) (bA ek) (hk (-_) _ _ ((_,rfl),rfl,?_));rw[dy,ek];try rfl
   .rintro z Y y ⟨_,rfl,rfl⟩ q hq;rw[U,gd (by rw[ah];exact ay _)];symm;have gq:aV y q (DO.lst (rs.map aq)) q=-(.lst (rs.map aq)):=bQ;erw[cZ gq];show aR (a:=aq (rw0 rs p)) (bA ep) ?_;erw[aq,cZ gq];have es:(rs.map aq).set p (D.tup [D.str f,D.str (rw0 rs p).2])=(rs.set p (f,(rw0 rs p).2)).map aq:=by rw[List.map_set];rfl
    show(!1,aR (a:=p) (Kl (by rw[ah];exact hpn)) (hM _ _ (last ?_)));rw[es];have gq2:aV (aV y q (DO.lst (rs.map aq))) q (DO.lst ((rs.set p (f,(rw0 rs p).2)).map aq)) q=-(.lst ((rs.set p (f,(rw0 rs p).2)).map aq)):=bQ;have sa2:Sa G (aV (aV y q (DO.lst (rs.map aq))) q (DO.lst ((rs.set p (f,(rw0 rs p).2)).map aq))):=(sa1.trans (Sa.new hq)).then (by
     cases hG:G q with
     |none=>rfl
     |some o=>rw[sa1 _ _ hG]at hq;cases hq) Sb.upd
    generalize aV (aV y q (DO.lst (rs.map aq))) q (DO.lst ((rs.set p (f,(rw0 rs p).2)).map aq))=G3 at gq2 sa2;have hsl:(rs.set p (f,(rw0 rs p).2))⁻¹=rs⁻¹:=da;generalize hss:rs.set p (f,(rw0 rs p).2)=ss at gq2 hsl J;generalize hx:(if p=i then j else i)=x at J;simp_arith![ah];show((!0,!0),CompG.inv (P:=λk z Y y=>(∃o0,Y=[o0,-(.ref q),-(.int (p:Int)),-(.int (i:Int)),-(.int (j:Int))])/\y=G3/\z=((List.range k).filterMap (λk=>if k=x then none else some (rw0 ss k))).map aq) ((_,rfl),rfl,rfl) (λv v v v v=>trivial) (by rw[U];bv_omega) ?_ ?_)
    .rintro k d z Y y hd' ⟨⟨o0,rfl⟩,rfl,rfl⟩ kk hk;let(rfl,hkn):=rng k d hd';have ek:(ss.map aq)[k]?=-(aq (rw0 ss k)):=by rw[aS,iJ (!0)];rfl
     have rs1:=List.range_succ (n:=k);have yes:k≠x->dB (view y (.ref q)) (.int (k:Int)) (λd=>kk (-d) [-(.int (k:Int)),-(.ref q),-(.int (p:Int)),-(.int (i:Int)),-(.int (j:Int))] y):=λhne=>by
      rw[c7 gq2];erw[ends];show aR (a:=aq (rw0 ss k)) (bA ek) (hk (-_) _ _ ((_,rfl),rfl,?_));rw[rs1,List.filterMap_append,c9,eA,if_neg hne];rfl
     have no:k=x->kk none [-(.int (k:Int)),-(.ref q),-(.int (p:Int)),-(.int (i:Int)),-(.int (j:Int))] y:=λhe=>by
      show hk none _ _ ((_,rfl),rfl,?_);rw[rs1,List.filterMap_append,c9,eA,if_pos he];rfl
     have O:isIn (.int (k:Int)) [.int (i:Int),.int (j:Int)]=decide (k=i\/k=j):=by rw[hZ,br];simp only[isIn,List.any_cons,List.any_nil,Bool.or_false,df,Kv,aw,ke];lia
     have hxx:x=if p=i then j else i:=hx.symm
     erw[O];by_cases hkp:k=p
     .rw[aw.mpr (show(k:Int)=(p:Int) by lia)];show yes ?_;rw[hxx];split<;>lia
     .rw[dL.mpr (show(k:Int)≠(p:Int) by lia)];show(!1,(!1,!1),?_);by_cases hk2:k=i\/k=j
      .rw[cp hk2];show no ?_;rw[hxx];split<;>lia
      .rw[cw hk2];show yes ?_;rw[hxx];split<;>lia
    .rintro z Y y ⟨_,rfl,rfl⟩;rw[U,<-hsl,Nb];erw[J,dw];exact(!1,sa2,rfl)
 .have hq:((rw0 rs i).2==(rw0 rs j).2)=false:=dL.mpr hd;have J:jbR rs i j p=none:=by
   unfold jbR;split
   .rfl
   .exact if_neg hd
  erw[hq,J,dw];exact sa1
def jnT:AA:=[106,111,105,110]
def bkT:AA:=[98,111,111,107]
def tuT:AA:=[116,117,114,110,101,100]
def jR(a:JB):Option (AU):=if a.i<a.j then jbR a.rs a.i a.j a.a else none
def iK(a:JB):Prop:=okB a.w a.rs/\a.i<a.rs⁻¹/\a.j<a.rs⁻¹/\(a.a=a.i\/a.a=a.j)
def cC(a:JB):D:=match jR a with
 |none=>.tup [.str jnT,.non]
 |some ss=>match bK a.w a.rs ss with
  |[]=>.tup [.str bkT,au a.w ss]
  |f::_=>.tup [.str tuT,.str f]
def iM(a:JB):AS:=[au a.w a.rs,.int (a.i:Nat),.int (a.j:Nat),.int (a.a:Nat)]
def o7:RF.Spec where
 A:=JB×DH
 pre:=λds G a=>ds=iM a.1/\iK a.1/\a.2=G
 post:=λa d y=>y=a.2/\∃ss,jR a.1=-ss/\bK a.1.w a.1.rs ss=[]/\d=au a.1.w ss
 exc:=λa x y=>y=a.2/\((jR a.1=none/\x=("NoJoin",.non))\/∃ss f r,jR a.1=-ss/\bK a.1.w a.1.rs ss=f::r/\x=("Turned",.str f))
def ahn{w:Nat}{rs ss:AU}(h:f∈bK w rs ss):f⁻¹=w:=by unfold bK at h;have:=(dX.mp (gI.mp h).1).1;rw[de]at this;lia
theorem aho(Z:aj)(h1:Z "need_row"=oX)(h2:Z "is_place"=aO gR)(h3:Z "joined_book"=sJB)(h4:Z "parting_word"=sY)(ds:AS)(G:DH)(a:JB×DH)(h:ds=iM a.1/\iK a.1/\a.2=G):aA Z oA (o7.exc a) (env0 ds 2) G (ends (o7.post a)):=by
 let((w,rs,i,j,p),G0):=a;let(rfl,(hb,hi,hjl,hpp),rfl):=h;dsimp only[iM]at hb hi hjl hpp ⊢;have hw6:=hb.w6;have e0:au w rs=.tup [.int w,.tup (rs.map aq)]:=rfl;have hin:isIn (.int (p:Int)) [.int (i:Int),.int (j:Int)]=true:=by simp only[isIn,List.any_cons,List.any_nil,deq,Bool.or_false,df,aw];lia
 simp_all_arith[oA];nofun;erw[h1];show Bu hb hi (hM _ _ (seq λM hM=>?_));erw[h1];show Bu hb hjl (hM _ _ (seq λM hM=>?_));conv=>enter [4,1,1];rw[e0]
 erw[h2,ah];show Lx (show p<rs⁻¹ by lia) ?_;erw[hin];show(!1,(rfl,!1),hM _ _ (seq λM hM=>?_));rw[<-e0];by_cases hij:i<j
 .have hj:gW (w,rs,i,j,p):=(hb,hij,hjl,hpp);have ejr:jR (w,rs,i,j,p)=jbR rs i j p:=if_pos hij;erw[cp (show(i:Int)<(j:Int) by lia),h3];show ag4 hj (hM _ _ (seq λM hM=>?_));cases e:jbR rs i j p with
  |none=>
   erw[dw];exact(rfl,.inl (ejr.trans e,rfl))
  |some ss=>
   have hok:=(sZ hj e).1;erw[dw,au,eV];symm;erw[h4];show agW (rs:=rs) (ss:=ss) hb hok (hM _ _ (seq λM hM=>?_));cases hp:bK w rs ss with
   |nil=>
    erw[List.head?_nil,aU,eV];ac_nf0;erw[ends];exact(rfl,ss,ejr.trans e,hp,rfl)
   |cons f r=>
    have hfl:=ahn (show f∈bK w rs ss by rw[hp];exact aT);erw[List.head?_cons,aU,eV];exact(show f⁻¹<=1000 by lia,rfl,.inr (ss,f,r,ejr.trans e,hp,rfl))
 .erw[cw (show¬(i:Int)<(j:Int) by lia)];symm;erw[ends];exact(rfl,.inl (if_neg hij,rfl))
def tR{Z:aj}{ss:Sxs}(y:G q=none)(h:∀G1,G1 q=-(.lst L)->Sa G G1->aA Z ss E Y G1 Dn):aA Z ss E Y (aV G q (.lst L)) Dn:=h _ bQ (Sa.new y)
def ahp{Z:aj}{ss:Sxs}{y:DH}(z:y q=none)(s:Sa y G)(h:∀G1,G1 q=-(.lst L)->Sa y G1->aA Z ss E Y G1 Dn):aA Z ss E Y (aV G q (.lst L)) Dn:=h _ bQ (s.then z Sb.upd)
def ahq{p:AQ}{k:AT}(e:G p=-(.lst ds)):opM .count (.ref p) [.bl true] G k=bh (bools ds) (λbs=>k (.int (bs.count true:Nat)) G):=by unfold opM;dsimp only;rw[c7 e];exact Ks
def ahr{p:AQ}{k:AT}(e:G p=-(.lst ds)):opM .index (.ref p) [.bl true] G k=bh (bools ds) (λbs=>true∈bs/\k (.int (bs.idxOf true:Nat)) G):=by unfold opM;dsimp only;rw[c7 e];exact Ku
def ahs{p:AQ}(e:G p=-(.lst ds)):recv .count (.ref p) G=True:=by unfold recv;dsimp only;rw[c7 e];rfl
def aht{p:AQ}(e:G p=-(.lst ds)):recv .index (.ref p) G=True:=by unfold recv;dsimp only;rw[c7 e];rfl
def isC(d:D)(C:AL):Prop:=d=.exn C\/∃f v,d=.exa C f v
def lA{y:AL}{xs:List AL}{d:D}{z:Bool->Prop}(h:isC d C):jb y xs d z=(xs.contains C=true/\z (bF C y)):=by rcases h with rfl|⟨_,_,rfl⟩<;>rfl
def BR(C:AL):Prop:=C="NoJoin"\/C="Turned"
def o8(C:AL):AA:=if C=="NoJoin" then jnT else tuT
def o9(C:AL):List Bool:=[bF C "Full",bF C "NoBook",bF C "NoForm",bF C "NoJoin",bF C "NoLine",bF C "NoMatch",bF C "NoOrder",bF C "NoRow",bF C "NoText",bF C "NoWord",bF C "Nothing",bF C "TooMany",bF C "Turned"]
def ahu:List (AA):=[[102,117,108,108],[98,111,111,107],[102,111,114,109],[106,111,105,110],[108,105,110,101],[109,97,116,99,104],[111,114,100,101,114],[114,111,119],[116,101,120,116],[119,111,114,100],[110,111,116,104,105,110,103],[109,97,110,121],[116,117,114,110,101,100]]
def ahv(h:BR C):["NoBook","NoMatch","NoRow","NoJoin","Turned"].contains C=true/\bF C "SieveError"=true/\bF C "ValueError"=true/\(o9 C).count true=1/\true∈o9 C/\atI (ahu.map D.str) ((o9 C).idxOf true:Nat)=-(.str (o8 C)):=by rcases h with rfl|rfl;all_goals exact(!1,!1,!1,!1,!1,rfl)
def BV:RF.Spec:=ghS (A:=D×AL) (λa ds z=>ds=[a.1]/\isC a.1 a.2/\BR a.2) (λa G d y=>Sa G y/\d=.str (o8 a.2))
def ahw(Z:aj)(a:D×AL)(ds:AS)(G:DH)(h:ds=[a.1]/\isC a.1 a.2/\BR a.2):aA Z Ah noE (env0 ds 2) G (ends λd G'=>Sa G G'/\d=.str (o8 a.2)):=by
 let(d,C):=a;let(rfl,hd,hC):=h;dsimp only at hd hC ⊢;let(c1,c2,c3,c4,c5,c6):=ahv hC;simp_all_arith[Ah];nofun;erw[lA hd,c1];repeat show(by first|trivial|decide,?_)
 intro q1 hq1;show hM _ _ (tR hq1 λG1 g1 s1=>seq λM hM=>?_);erw[lA hd,c1,c7 g1];repeat show(by first|trivial|decide,?_)
 intro q2 hq2;show hM _ _ (tR hq2 λG2 g2 s2=>seq λM hM=>?_);erw[lA hd,c1,c7 g2];repeat show(by first|trivial|decide,?_)
 intro q3 hq3;show hM _ _ (tR hq3 λG3 g3 s3=>seq λM hM=>?_);erw[lA hd,c1,c7 g3];repeat show(by first|trivial|decide,?_)
 intro q4 hq4;show hM _ _ (tR hq4 λG4 g4 s4=>seq λM hM=>?_);erw[lA hd,c1,cZ g4];repeat show(by first|trivial|decide,?_)
 show hM _ _ (ahp hq4 s4 λG5 g5 s5=>seq λM hM=>?_);have sa:Sa G G5:=s1.trans (s2.trans (s3.trans s5));erw[lA hd,ahs g5,ahq g5,c1];show aR (a:=o9 C) rfl ?_;erw[c4,c2,c3];symm;erw[ends];show(!1,hM _ _ (last ?_));erw[aht g5,ahr g5];show(!1,!1,aR (a:=o9 C) rfl (c5,?_));exact aR c6 (sa,rfl)
def jz:RF.Spec:=ghS (A:=JB) (λa ds z=>ds=iM a/\iK a) (λa G d y=>Sa G y/\d=cC a)
def ahx(Z:aj)(h1:Z "join"=o7)(h2:Z "_law_refusal"=BV)(a:JB)(ds:AS)(G:DH)(h:ds=iM a/\iK a):aA Z Ai noE (env0 ds 4) G (ends λd y=>Sa G y/\d=cC a):=by
 let(rfl,ha):=h;have e4:iM a=[au a.w a.rs,.int (a.i:Nat),.int (a.j:Nat),.int (a.a:Nat)]:=rfl;rw[e4];simp_all_arith[Ai];nofun;erw[ends];symm;erw[ends];symm;erw[h1];show((a,G),(rfl,ha,rfl),λd y O=>?_,λx y O=>?_)
 .let(rfl,ss,z,U,rfl):=O;have J:cC a=.tup [.str bkT,au a.w ss]:=by unfold cC;rw[z];change(match bK a.w a.rs ss with |[]=>_|f::_=>_)=_;rw[U]
  symm;erw[ends];exact(!1,Sa.refl _,J.symm)
 .let(rfl,O):=O;rcases O with⟨z,rfl⟩|⟨ss,f,r,z,U,rfl⟩
  .have J:cC a=.tup [.str jnT,.non]:=by unfold cC;rw[z]
   have fin:M [-(au a.w a.rs),-(.int (a.i:Int)),-(.int (a.j:Int)),-(.int (a.a:Int)),-.non,-(.exn "NoJoin"),none,none] y:=by symm;erw[eV];symm;erw[h2];show fG (.exn "NoJoin","NoJoin") (rfl,.inl rfl,.inl rfl) λd G2 hd=>?_;let(sa,rfl):=hd;ac_nf0;have en:o8 "NoJoin"=[106,111,105,110]:=rfl;have Y:(([106,111,105,110]:AA)==[116,117,114,110,101,100])=false:=rfl;simp only[en];erw[Y];exact(!1,sa,J.symm)
   exact(!1,!1,fin)
  .have J:cC a=.tup [.str tuT,.str f]:=by unfold cC;rw[z];change(match bK a.w a.rs ss with |[]=>_|f::_=>_)=_;rw[U]
   have fin:M [-(au a.w a.rs),-(.int (a.i:Int)),-(.int (a.j:Int)),-(.int (a.a:Int)),-.non,-(.exa "Turned" "word" (.str f)),none,none] y:=by symm;erw[eV];symm;erw[h2];show fG (.exa "Turned" "word" (.str f),"Turned") (rfl,.inr (_,_,rfl),.inr rfl) λd G2 hd=>?_;let(sa,rfl):=hd;ac_nf0;have en:o8 "Turned"=[116,117,114,110,101,100]:=rfl;have Y:(([116,117,114,110,101,100]:AA)==[116,117,114,110,101,100])=true:=rfl;simp only[en];erw[Y];exact(!1,sa,J.symm)
   exact(show["NoBook","NoMatch","NoRow","NoJoin","Turned"].contains "Turned"=true by decide,show bF "Turned" "SieveError"=true by decide,fin)
def Nf{a:JB}{k:AT}(h:iK a)(z:∀y,Sa G y->k (cC a) y):jz.t [au a.w a.rs,.int (a.i:Nat),.int (a.j:Nat),.int (a.a:Nat)] G k E:=fG a (rfl,h) λd y J=>by
 let(h1,rfl):=J;exact z y h1
def ahy(Z:aj)(h1:Z "_law_made"=sLM)(h2:Z "_law_parting"=tB)(a:JB)(ds:AS)(G:DH)(h:ds=iM a/\iK a):aA Z zW noE (env0 ds 2) G (ends λd G'=>Sa G G'/\d=cC a):=by
 let(w,rs,i,j,p):=a;let(rfl,hb,hi,U,Y):=h;dsimp only[iM]at hb hi U Y ⊢;simp_all_arith[zW];nofun;by_cases z:i<j
 .have hj:gW (w,rs,i,j,p):=(hb,z,U,Y);have O:jR (w,rs,i,j,p)=jbR rs i j p:=if_pos z;erw[cw (show¬(j:Int)<=(i:Int) by lia)];symm;erw[h1];show ahl hj λG1 J=>hM _ _ (seq λM hM=>?_);cases e:jbR rs i j p with
  |none=>
   have y:cC (w,rs,i,j,p)=.tup [.str jnT,.non]:=by unfold cC;rw[O,e]
   erw[dw];exact(!1,J,y.symm)
  |some ss=>
   have hok:=(sZ hj e).1;have e1:jR (w,rs,i,j,p)=-ss:=O.trans e;erw[dw,au,eV];symm;erw[h2];show ag6 (rs:=rs) (ss:=ss) hb hok λG2 sa2=>hM _ _ (last ?_);cases hp:bK w rs ss with
   |nil=>
    have y:cC (w,rs,i,j,p)=.tup [.str bkT,au w ss]:=by unfold cC;rw[e1];change(match bK w rs ss with |[]=>_|f::_=>_)=_;rw[hp]
    erw[List.head?_nil,aU,eV];exact(!1,J.trans sa2,y.symm)
   |cons f r=>
    have y:cC (w,rs,i,j,p)=.tup [.str tuT,.str f]:=by unfold cC;rw[e1];change(match bK w rs ss with |[]=>_|f::_=>_)=_;rw[hp]
    erw[List.head?_cons,aU,eV];exact(!1,J.trans sa2,y.symm)
 .have y:cC (w,rs,i,j,p)=.tup [.str jnT,.non]:=by unfold cC;rw[show jR (w,rs,i,j,p)=none from if_neg z]
  erw[cp (show(j:Int)<=(i:Int) by lia)];exact(!1,Sa.refl _,y.symm)
mutual
def tq:D->Bool
 |.tup l=>decide (l⁻¹<=100000)&&tqs l
 |.int _=>true
 |.str _=>true
 |.non=>true
 |_=>false
def tqs:AS->Bool
 |[]=>true
 |a::as=>tq a&&tqs as
end
def Ng:∀{l:AS}{d:D},tqs l=true->d∈l->tq d=true
 |a::as,d,h,m=>by
  rw[tqs,ae]at h;rcases bb.mp m with e|m
  .rw[e];exact h.1
  .exact Ng h.2 m
def Nh(n:Nat)(ds:AS)(_:DH):Prop:=∃v,ds=[v,v]/\dpt v<n/\tq v=true
def gm(n:Nat):RF.Spec:=bN (Nh n) (λz G d y=>y=G/\d=.bl true)
def Ni{v:D}{k:AT}(h1:dpt v<n)(h2:tq v)(J:k (.bl true) G):(gm n).t [v,v] G k E:=
 cG (v,rfl,h1,h2) λd O h=>by let(y,z):=h;subst y z;exact J
def ahz(Z:aj)(n:Nat)(h1:Z "_law_same"=gm n)(ds:AS)(G:DH)(h:Nh (n+1) ds G):aA Z kJ noE (env0 ds 0) G (ends λd z=>z=G/\d=.bl true):=by
 let(v,rfl,hd,hs):=h;cases v with
 |non=>erw[kJ]
 |int i=>erw[kJ,BEq.rfl]
 |str l=>erw[kJ,BEq.rfl]
 |tup l=>
  rw[tq,ae,br]at hs;rw[dpt]at hd;erw[kJ];erw[bne_self_eq_false,BEq.rfl];show CompG.inv (P:=λi y Y z=>(∃o1 U,Y=[o1,U])/\z=G/\y=List.replicate i (.bl true)) ((_,_,rfl),rfl,rfl) (λx x x x x=>trivial) (by rw[rN];bv_omega) ?_ ?_
  .rintro i d y Y z J ⟨⟨o1,U,rfl⟩,rfl,rfl⟩ kk hk;let(a,O,rfl):=afl l i d J;erw[h1];exact Ni (Nat.lt_of_le_of_lt (KC O) (!0)) (Ng hs.2 O) (hk _ _ _ ((_,_,rfl),rfl,List.replicate_succ'.symm))
  .rintro y Y z ⟨_,rfl,rfl⟩;rw[afi,afj,afk];simp
 |_=>cases hs
def ahA(ds:AS)(G:DH)(a:(gm 0).A):¬(gm 0).pre ds G a:=λzZ=>by let(_,_,_,h,_):=zZ;lia
def ahB{w:Nat}{rs:AU}(h:okB w rs):dpt (au w rs)<4/\tq (au w rs)=true:=by
 have y:=h.len;have h2:aX (rs.map aq)<=1:=Kq λd hd=>by let(_,_,rfl):=bX.mp hd;exact ay _
 have z:∀l:AU,tqs (l.map aq)=true:=λl=>by
  induction l with
  |nil=>rfl
  |cons r l J=>rw[db,tqs,J];rfl
 unfold au;simp only[dpt,aX,tq,tqs,z,ah,Bool.and_true,iP];exact(!0,by simp;lia)
theorem ahC{a:JB}(h:iK a):dpt (cC a)<5/\tq (cC a)=true:=by
 let(w,rs,i,j,p):=a;let(U,hi,z,O):=h;unfold cC;split
 .exact (!1,!1)
 .rename_i ss e;have y:i<j:=by
   by_cases q:i<j
   .exact q
   .rw[show jR (w,rs,i,j,p)=none from if_neg q]at e;cases e
  rw[show jR (w,rs,i,j,p)=jbR rs i j p from if_pos y]at e;have J:okB w ss:=(sZ (a:=(w,rs,i,j,p)) (U,y,z,O) e).1;let(s1,Y):=ahB J;split
  .simp only[dpt,aX,tq,tqs,Y,ce,ia,Bool.and_true,iP];exact(!0,rfl)
  .simp only[dpt,aX,tq,tqs,ce,ia,Bool.and_true,iP];exact(!1,rfl)
structure F41(Z:aj):Prop where
 opn:Z "_law_open"=Am
 anew:Z "_law_anew"=sr
 book:Z "_law_join_book"=tD
 told:Z "_law_told"=jz
 due:Z "_law_due"=jz
 same:Z "_law_same"=gm 5
def ahD(Z:aj)(F:F41 Z)(ds:AS)(G:DH)(h:∃ns:List Int,ds=[.scr ns]/\ns⁻¹<=63):aA Z Aj noE (env0 ds 6) G (ends λd u=>d=.bl true):=by
 let(ns,rfl,hl):=h;simp_all_arith[Aj];nofun;erw[F.opn];show cG (ns,rfl,hl) λd' G1 hx=>?_;let(p,e1,_,hp,_):=hx;subst e1;symm;simp_arith![ends];show(!1,ForG.inv (P:=λi Y O=>(∃o2 o3 o4 z y,Y=[-(.scr ns),-(.ref p),o2,o3,o4,z,y])/\Pen O p) ((_,_,_,_,_,rfl),hp) (λu u u u=>trivial) ?_ ?_)
 .rintro i d Y G2 hd ⟨⟨o2,o3,o4,z,y,rfl⟩,hp2⟩ kk hk;obtain⟨x,rfl,v,m,hv1,hv2,hm,ev,em⟩:∃x:Int,d=.int x/\∃v m:Nat,1<=v/\v<=6/\m<=12/\atI [D.int 4,D.int 6,D.int 3] ((x+1)/2)=-(.int (v:Int))/\atI [D.int 5,D.int 4,D.int 8] ((x+1)/2)=-(.int (m:Int)):=by
   match i,hd with
   |0,hd=>exact(0,by simpa [bf] using hd.symm,4,5,!1,!1,!1,rfl,rfl)
   |1,hd=>exact(1,by simpa [bf] using hd.symm,6,4,!1,!1,!1,rfl,rfl)
   |2,hd=>exact(2,by simpa [bf] using hd.symm,6,4,!1,!1,!1,rfl,rfl)
   |3,hd=>exact(3,by simpa [bf] using hd.symm,3,8,!1,!1,!1,rfl,rfl)
   |i+4,hd=>
    have:=(al.mp hd).1;simp[bf]at this;lia
  simp_arith![ends];nofun;erw[F.anew,F.book];show afV hp2 λG3 hp3 u=>?_;show(!1,(!1,!1),aR ev (!1,(!1,!1),aR em ?_));show ag8 hp3 hv1 hv2 hm λw rs G4 hb hp4 sb4=>hM _ _ (last ?_);have hlen:=hb.len;have e0:au w rs=.tup [.int w,.tup (rs.map aq)]:=rfl;have rng:∀(k:Nat)(d:D),(bf 0 ((rs⁻¹:Nat):Int).toNat)[k]?=-d->d=.int (k:Int)/\k<rs⁻¹:=λk d hd=>by
   have hk:k<rs⁻¹:=by have:=(al.mp hd).1;simpa [bf] using this
   show(?_,hk);unfold bf at hd;rw[aS,List.getElem?_range (!!hk)]at hd;simpa using hd.symm
  simp_arith![au,ah];show((!0,!0),ForG.inv (P:=λi Y O=>(∃o4 z y,Y=[-(.scr ns),-(.ref p),-(.int x),-(au w rs),o4,z,y])/\Pen O p) ((_,_,_,rfl),hp4) (λu u u u=>trivial) ?_ ?_)
  .rintro J d4 Y G5 hd4 ⟨⟨o4,z,y,rfl⟩,hp5⟩ kk4 hk4;let(rfl,hi4):=rng J d4 hd4;simp_arith![ends];show last ?_;simp_arith![au,ah];show((!0,!0),ForG.inv (P:=λi Y O=>(∃z y,Y=[-(.scr ns),-(.ref p),-(.int x),-(au w rs),-(.int (J:Int)),z,y])/\Pen O p) ((_,_,rfl),hp5) (λu u u u=>trivial) ?_ ?_)
   .rintro i5 d5 Y G6 hd5 ⟨⟨z,y,rfl⟩,hp6⟩ kk5 hk5;let(rfl,hi5):=rng i5 d5 hd5;simp_arith![ends];show last ?_;simp_arith![ends];show(!1,ForG.inv (P:=λi Y O=>(∃y,Y=[-(.scr ns),-(.ref p),-(.int x),-(au w rs),-(.int (J:Int)),-(.int (i5:Int)),y])/\Pen O p) ((_,rfl),hp6) (λu u u u=>trivial) ?_ ?_)
    .rintro i6 d6 Y G7 hd6 ⟨⟨y,rfl⟩,hp7⟩ kk6 hk6;obtain⟨n,rfl,hn⟩:∃n:Nat,d6=.int (n:Int)/\(n=J\/n=i5):=by
      have:=bg hd6;simp only[bb,dP,io]at this;rcases this with rfl|rfl
      .exact (J,rfl,.inl rfl)
      .exact (i5,rfl,.inr rfl)
     have U:iK (w,rs,J,i5,n):=(hb,hi4,hi5,hn);simp_arith![ends];show last ?_;erw[F.told];show Nf (a:=(w,rs,J,i5,n)) U λG8 sa8=>?_;erw[F.due];show Nf (a:=(w,rs,J,i5,n)) U λG9 sa9=>?_;let(s1,s2):=ahC U;erw[F.same];show Ni s1 s2 ?_;erw[ends];exact hk6 _ _ ((_,rfl),(hp7.sa sa8).sa sa9)
    .rintro Y G7 ⟨⟨y,rfl⟩,hp7⟩;exact hk5 _ _ ((_,_,rfl),hp7)
   .rintro Y G6 ⟨⟨z,y,rfl⟩,hp6⟩;exact hk4 _ _ ((_,_,_,rfl),hp6)
  .rintro Y G5 ⟨⟨o4,z,y,rfl⟩,hp5⟩;exact hk _ _ ((_,_,_,_,_,rfl),hp5)
 .rintro Y G2 ⟨_,hp2⟩;ac_nf0;erw[ends]
end RF
namespace Lk41
open PySem PySem.Spec PyProof.Rows L2 RF
open PySem.W (mg_of mg_none_of)
variable {P:AK}{w:World}{mg:AH}{base:Heap}{f:AQ}{fd:AJ}{n m:Str}{st:Stmt}{a:Nat}
def Z:aj:=λf=>if f="_law_anew" then sr else if f="_law_form_of" then sFO else if f="_law_many_words" then BP else if f="_law_words" then oG else if f="_law_joined" then sLJ else if f="_law_made" then sLM else if f="_law_fits" then aO oU else if f="_law_met" then sO else if f="_law_deed" then tu else if f="_law_parting" then tB else if f="_law_due" then jz else if f="_law_spread" then rZ else if f="_law_take" then eF else if f="_law_signs" then oE else if f="_law_deeds_of" then sE else if f="_law_form" then Al else if f="_law_wider" then iH else if f="_law_within" then iH else if f="_law_form_like" then sy else if f="_law_book" then sG else if f="_law_meet" then sW else if f="_law_one_turning" then sX else if f="_law_turned_alike" then sTA else if f="_law_join_book" then tD else if f="_law_open" then Am else if f="_law_same" then gm 5 else if f="is_whole" then aO jt else if f="is_place" then aO gR else if f="fits" then aO oJ else if f="lies_in" then aO lu else if f="with_sign" then aO gQ else if f="joined" then aO lz else if f="is_deed" then Bd else if f="is_text_of" then Bb else if f="is_form" then Bc else if f="is_row" then Be else if f="is_width" then Bg else if f="is_book" then Bh else if f="need_book" then oH else if f="need_row" then oX else if f="without" then sWo else if f="joined_book" then sJB else if f="both" then aO oM else if f="first_touching" then oN else if f="splitting_place" then sI else if f="grown" then gf 9 else if f="least" then aO lw else if f="is_named" then aO gU else if f="leaves" then fL 9 else if f="need_two_books" then sU else if f="deed_of" then sH else if f="same_deeds" then sSD else if f="stars" then aO ju else if f="alike" then sV else if f="parting_word" then sY else if f="_law_refusal" then BV else if f="join" then o7 else if f="_law_told" then jz else if f="law" then oF else bN (λz z=>False) (λz z z z=>False)
def Nm:Z "_law_anew"=sr:=by rfl'
def Np:Z "_law_form_of"=sFO:=by rfl'
def Nq:Z "_law_many_words"=BP:=by rfl'
def BX:Z "_law_words"=oG:=by rfl'
def Nr:Z "_law_joined"=sLJ:=by rfl'
def Nt:Z "_law_made"=sLM:=by rfl'
def Nu:Z "_law_fits"=aO oU:=by rfl'
def Nv:Z "_law_met"=sO:=by rfl'
def Nx:Z "_law_deed"=tu:=by rfl'
def Ny:Z "_law_parting"=tB:=by rfl'
def Nz:Z "_law_due"=jz:=by rfl'
def NB:Z "_law_spread"=rZ:=by rfl'
def gr:Z "_law_take"=eF:=by rfl'
def BZ:Z "_law_signs"=oE:=by rfl'
def NK:Z "_law_deeds_of"=sE:=by rfl'
def NT:Z "_law_form"=Al:=by rfl'
def NZ:Z "_law_wider"=iH:=by rfl'
def Ca:Z "_law_within"=iH:=by rfl'
def N5:Z "_law_form_like"=sy:=by rfl'
def N6:Z "_law_book"=sG:=by rfl'
def N7:Z "_law_meet"=sW:=by rfl'
def N8:Z "_law_one_turning"=sX:=by rfl'
def Oa:Z "_law_turned_alike"=sTA:=by rfl'
def Ob:Z "_law_join_book"=tD:=by rfl'
def Oc:Z "_law_open"=Am:=by rfl'
def Od:Z "_law_same"=gm 5:=by rfl'
def Cd:Z "is_whole"=aO jt:=by rfl'
def tW:Z "is_place"=aO gR:=by rfl'
def Oe:Z "fits"=aO oJ:=by rfl'
def Og:Z "lies_in"=aO lu:=by rfl'
def tX:Z "with_sign"=aO gQ:=by rfl'
def Oh:Z "joined"=aO lz:=by rfl'
def Oi:Z "is_deed"=Bd:=by rfl'
def Oj:Z "is_text_of"=Bb:=by rfl'
def Ol:Z "is_form"=Bc:=by rfl'
def Om:Z "is_row"=Be:=by rfl'
def Oo:Z "is_width"=Bg:=by rfl'
def Oq:Z "is_book"=Bh:=by rfl'
def Ce:Z "need_book"=oH:=by rfl'
def Cg:Z "need_row"=oX:=by rfl'
def Ot:Z "without"=sWo:=by rfl'
def Ou:Z "joined_book"=sJB:=by rfl'
def Ov:Z "both"=aO oM:=by rfl'
def Ci:Z "first_touching"=oN:=by rfl'
def Ow:Z "splitting_place"=sI:=by rfl'
def Oz:Z "grown"=gf 9:=by rfl'
def OD:Z "least"=aO lw:=by rfl'
def OJ:Z "is_named"=aO gU:=by rfl'
def O1:Z "leaves"=fL 9:=by rfl'
def O2:Z "need_two_books"=sU:=by rfl'
def O3:Z "deed_of"=sH:=by rfl'
def O4:Z "same_deeds"=sSD:=by rfl'
def O5:Z "stars"=aO ju:=by rfl'
def O6:Z "alike"=sV:=by rfl'
def O7:Z "parting_word"=sY:=by rfl'
def O8:Z "_law_refusal"=BV:=by rfl'
def O9:Z "join"=o7:=by rfl'
def Pa:Z "_law_told"=jz:=by rfl'
def bt:List AL:=["all","bool","enumerate","int","isinstance","len","list","min","range","set","sorted","str","tuple","zip"]
def cn:List (AL×D):=[("LETTERS",(.str [97,98,99,100,101,102,103,104,105,106,107,108,109,110,111,112,113,114,115,116,117,118,119,120,121,122])),("LONGEST_DEED",(.int 8)),("MOST_ROWS",(.int 12)),("WIDEST",(.int 6))]
def xs:List (AL×Bool):=[("NoBook",true),("NoMatch",true),("NoRow",true),("NoJoin",true),("Full",false),("NoBook",false),("NoForm",false),("NoJoin",false),("NoLine",false),("NoMatch",false),("NoOrder",false),("NoRow",false),("NoText",false),("NoWord",false),("Nothing",false),("SieveError",false),("TooMany",false),("Turned",false),("ValueError",false)]
abbrev CK:=λN s f o b=>aC (aG N (aB s) f bt cn xs o) b (aD s)=true
abbrev BB:=λ(l:PySem.W.OpenLaw) (w:World) (mg:AH) (base:Heap) k f o=>Bse Z l.prog w (HK.K w.params) mg base (CX1 l.prog w) k f bt cn xs o
abbrev NQ:=λP (s:Str) (n:Nat)=>PySem.W.nsIn (HK.K P) mainGlobals s=-(-(.ref n))
abbrev BQ:=λP fd ps=>Binds (HK.K P) fd ps []
abbrev LN:Str:="law_starsieve_k41_rows_joined"
def f0:List (AL×Nat):=[]
def o0:OT:={}
def f1:=("_law_anew",1)::f0
def f2:=("_law_form_of",1)::f1
def f3:=("_law_many_words",1)::f2
def f4:=("_law_words",1)::f3
def f5:=("_law_joined",2)::f4
def f6:=("_law_made",4)::f5
def f7:=("_law_fits",2)::f6
def f8:=("_law_met",2)::f7
def f9:=("_law_deed",2)::f8
def f10:=("_law_parting",2)::f9
def f11:=("_law_due",4)::f10
def f12:=("_law_spread",2)::f11
def f13:=("_law_take",2)::f12
def f14:=("_law_signs",3)::f13
def f15:=("_law_deeds_of",2)::f14
def f16:=("_law_form",2)::f15
def f17:=("_law_wider",2)::f16
def f18:=("_law_within",2)::f17
def f19:=("_law_form_like",3)::f18
def f20:=("_law_book",3)::f19
def f21:=("_law_meet",2)::f20
def f22:=("_law_one_turning",2)::f21
def f23:=("_law_turned_alike",3)::f22
def f24:=("_law_join_book",3)::f23
def f25:=("_law_open",1)::f24
def f26:=("_law_same",2)::f25
def f27:=("is_whole",1)::f26
def f28:=("is_place",2)::f27
def f29:=("fits",2)::f28
def f30:=("lies_in",2)::f29
def f31:=("with_sign",3)::f30
def f32:=("joined",2)::f31
def f33:=("is_deed",1)::f32
def f34:=("is_text_of",3)::f33
def f35:=("is_form",2)::f34
def f36:=("is_row",2)::f35
def f37:=("is_width",1)::f36
def f38:=("is_book",1)::f37
def f39:=("need_book",1)::f38
def f40:=("need_row",2)::f39
def f41:=("without",2)::f40
def f42:=("joined_book",4)::f41
def f43:=("both",2)::f42
def f44:=("first_touching",2)::f43
def f45:=("splitting_place",2)::f44
def f46:=("grown",3)::f45
def f47:=("least",1)::f46
def f48:=("is_named",3)::f47
def f49:=("leaves",2)::f48
def f50:=("need_two_books",2)::f49
def f51:=("deed_of",2)::f50
def f52:=("same_deeds",3)::f51
def f53:=("stars",1)::f52
def f54:=("alike",2)::f53
def f55:=("parting_word",2)::f54
def o1:OT:={o0 with xk:=("Turned","word")::o0.xk}
def f56:=("_law_refusal",1)::f55
def f57:=("join",4)::f56
def f58:=("_law_told",4)::f57
def S(i:Nat):Stmt:=HK.pw.main.body.getD i (.Pass (0,0,0,0))
def SM(i j:Nat):Stmt:=match S i with |.ClassDef _ _ _ b _ _ _ _ _ _ _=>b.getD j (.Pass (0,0,0,0))|s=>s
def tY:Stmt:=S 58
def ahK:CK ["pen"] tY f0 o0 zL:=by ac_rfl
def tZ:Stmt:=S 76
def ahL:CK ["words","found","at","signs"] tZ f1 o0 zM:=by ac_rfl
def ud:Stmt:=S 77
def ahM:CK ["form","many","sign"] ud f2 o0 zN:=by ac_rfl
def ue:Stmt:=S 67
def ahN:CK ["form","found","sign","longer","text"] ue f3 o0 zO:=by ac_rfl
def uf:Stmt:=S 78
def ahO:CK ["form","other","words","found"] uf f4 o0 zP:=by ac_rfl
def ug:Stmt:=S 79
def ahP:CK ["book","one","other","at","width","rows","form","found"] ug f5 o0 zQ:=by ac_rfl
def uh:Stmt:=S 71
def ahQ:CK ["form","word","sign","other"] uh f6 o0 zR:=by ac_rfl
def um:Stmt:=S 72
def ahR:CK ["book","word","number","row"] um f7 o0 zT:=by ac_rfl
def uo:Stmt:=S 73
def ahS:CK ["book","word","number"] uo f8 o0 zU:=by ac_rfl
def uq:Stmt:=S 74
def ahT:CK ["one","other","word"] uq f9 o0 zV:=by ac_rfl
def ur:Stmt:=S 83
def ahU:CK ["book","one","other","at","built","word"] ur f10 o0 zW:=by ac_rfl
def ut:Stmt:=S 56
def ahV:CK ["cell","at","one","two","three"] ut f11 o0 zX:=by ac_rfl
def uv:Stmt:=S 59
def ahW:CK ["pen","many","at","cell","found"] uv f12 o0 zY:=by ac_rfl
def uw:Stmt:=S 60
def ahX:CK ["pen","width","signs"] uw f13 o0 zZ:=by ac_rfl
def ux:Stmt:=S 65
def ahY:CK ["pen","most","some","turn","found","letters"] ux f14 o0 z6:=by ac_rfl
def uy:Stmt:=S 61
def ahZ:CK ["pen","width"] uy f15 o0 z7:=by ac_rfl
def uz:Stmt:=S 63
def ah0:CK ["pen","form","found","sign"] uz f16 o0 z8:=by ac_rfl
def uA:Stmt:=S 62
def ah1:CK ["pen","form","found","sign"] uA f17 o0 z9:=by ac_rfl
def uB:Stmt:=S 64
def ah2:CK ["pen","width","forms","kind","form","at"] uB f18 o0 Aa:=by ac_rfl
def uC:Stmt:=S 66
def ah3:CK ["pen","widest","most","width","deeds","forms","rows","k"] uC f19 o0 Ab:=by ac_rfl
def uD:Stmt:=S 68
def ah4:CK ["form","other"] uD f20 o0 Ac:=by ac_rfl
def uE:Stmt:=S 69
def ah5:CK ["pen","rows","at","form","one","stars_v","kind","place","two"] uE f21 o0 Ad:=by ac_rfl
def uF:Stmt:=S 70
def ah6:CK ["pen","book","times","rows","turn"] uF f22 o0 Ae:=by ac_rfl
def uG:Stmt:=S 80
def ah7:CK ["pen","widest","most","book"] uG f23 o0 Af:=by ac_rfl
def uH:Stmt:=S 57
def ah8:CK ["script","cells","k","cell"] uH f24 o0 Ag:=by ac_rfl
def uI:Stmt:=S 75
def ah9:CK ["found","due"] uI f26 o0 kJ:=by ac_rfl
def uJ:Stmt:=S 17
def aia:CK ["thing"] uJ f26 o0 m6:=by ac_rfl
def uK:Stmt:=S 19
def aib:CK ["many","thing"] uK f27 o0 m7:=by ac_rfl
def uL:Stmt:=S 22
def aic:CK ["form","word"] uL f28 o0 m8:=by ac_rfl
def uM:Stmt:=S 23
def aid:CK ["form","other"] uM f29 o0 m9:=by ac_rfl
def uN:Stmt:=S 24
def aie:CK ["form","at","sign"] uN f30 o0 nq:=by ac_rfl
def uO:Stmt:=S 26
def aif:CK ["form","other","unlike"] uO f31 o0 nu:=by ac_rfl
def uP:Stmt:=S 32
def aig:CK ["thing"] uP f32 o0 nA:=by ac_rfl
def uQ:Stmt:=S 20
def aih:CK ["signs","width","thing"] uQ f33 o0 nF:=by ac_rfl
def uR:Stmt:=S 21
def aii:CK ["width","thing"] uR f34 o0 nG:=by ac_rfl
def uT:Stmt:=S 33
def aij:CK ["width","thing"] uT f35 o0 nH:=by ac_rfl
def uU:Stmt:=S 18
def aik:CK ["thing"] uU f36 o0 nJ:=by ac_rfl
def uV:Stmt:=S 34
def ail:CK ["thing","width","rows"] uV f37 o0 nM:=by ac_rfl
def uW:Stmt:=S 35
def aim:CK ["book"] uW f38 o0 nO:=by ac_rfl
def uX:Stmt:=S 37
def ain:CK ["book","number"] uX f39 o0 nP:=by ac_rfl
def uY:Stmt:=S 51
def aio:CK ["book","number","width","rows"] uY f40 o0 nQ:=by ac_rfl
def uZ:Stmt:=S 53
def aip:CK ["book","one","other","at","width","rows","form","grown"] uZ f41 o0 nR:=by ac_rfl
def u5:Stmt:=S 25
def aiq:CK ["form","other","shared","one","two"] u5 f42 o0 nT:=by ac_rfl
def u6:Stmt:=S 43
def air:CK ["rows","box","number","row"] u6 f43 o0 nU:=by ac_rfl
def u9:Stmt:=S 44
def ais:CK ["rows","box","number","at","sign"] u9 f44 o0 nW:=by ac_rfl
def vd:Stmt:=S 45
def ait:CK ["name","many_rows","box","rows","at","zero","one"] vd f46 o0 kO:=by ac_rfl
def pA:Stmt:=S 27
def vf:Stmt:=S 41
def aiu:CK ["name","many","thing"] vf f47 o0 nY:=by ac_rfl
def vg:Stmt:=S 42
def aiv:CK ["box","tree","at","zero","one"] vg f49 o0 jr:=by ac_rfl
def vh:Stmt:=S 36
def aiw:CK ["one","other"] vh f49 o0 nZ:=by ac_rfl
def vm:Stmt:=S 38
def aix:CK ["book","number"] vm f50 o0 kW:=by ac_rfl
def vo:Stmt:=S 47
def aiy:CK ["one","other","leaf"] vo f51 o0 n6:=by ac_rfl
def vp:Stmt:=S 40
def aiz:CK ["width"] vp f52 o0 n8:=by ac_rfl
def vq:Stmt:=S 48
def aiA:CK ["one","other","box","tree","parting"] vq f53 o0 oh:=by ac_rfl
def vy:Stmt:=S 49
def aiB:CK ["one","other","name","shown"] vy f54 o0 ou:=by ac_rfl
def pB:Stmt:=SM 2 0
def aiC:fnB ["self","word"] ["self","word"] (aB pB)=true:=by ac_rfl
def aiD:Ex:=(.fst (.cons (.cst (.str [116,104,101,32,100,101,101,100,32,111,102,32])) (.cons (.var 1) (.cons (.cst (.str [32,119,111,117,108,100,32,98,101,32,116,117,114,110,101,100])) .nil))))
def aiE:rY (aG ["self","word"] (aB pB) f55 bt cn xs o0) "SieveError" "word" aiD (aD pB)=true:=by ac_rfl
def vz:Stmt:=S 81
def aiF:CK ["caught","some","names"] vz f55 o1 Ah:=by ac_rfl
def vA:Stmt:=S 54
def aiG:CK ["book","one","other","at","made","word"] vA f56 o1 oA:=by ac_rfl
def vB:Stmt:=S 82
def aiH:CK ["book","one","other","at","found","caught","e","word"] vB f57 o1 Ai:=by ac_rfl
def vC:Stmt:=S 84
def aiI:CK ["script","pen","turn","book","one","other","at"] vC f58 o1 Aj:=by ac_rfl
def Pb:(⇑"0":Str)=tx [48]:=by ac_rfl
def aiJ:(⇑"*":Str)=tx [42]:=by ac_rfl
def aiK:FnScope ["form"] ["form"] (aB pA):=(rfl,rfl,rfl,by ac_rfl,rfl,by ac_rfl,by ac_rfl)
def aiL:Sp:=λvs H Q z=>∃l:AA,vs=[.str (tx l)]/\l⁻¹<=1000/\Q (.str (tx (cV l))) H
def aiM{K:PF}(F:Fun K "least" "least" pA f fd):FnOk P w K mg base CX0 1 f fd ["form"] aiL:=by
 show F.ok1 aiK rfl (by ac_rfl) (λz=>rfl) (λvs H Q E h=>?_) (λcdv A outer s H vs Q E y h=>?_)
 .let(l,rfl,_):=h;rfl
 .let(l,rfl,hl,q):=h;show(_,Wu (Ww (pv 0) (by ac_rfl)),?_);show(_,rfl,_,rfl,?_,?_)
  .rw[Pb,cz,cz];simp;lia
  .rw[aiJ,Pb,Wv];exact q
def aiN{K:PF}(F:Fun K "least" "least" pA f fd):FnOk P w K mg base CX0 1 f fd ["form"] (lift K 1 (aO lw)):=by
 show(aiM F).imp λvs H Q E h=>?_;let(e0,Fz,G,ds,r,t,(J,G'),(O,U),Y,e4):=h;cases O;let(d,hd):=Option.isSome_iff_exists.mp U;have z:=hd;unfold lw at hd;split at hd
 .rename_i l;split at hd
  .rename_i hl;cases hd;let(v,rfl,rv):=b8 t;let(rfl,_):=rv;have y:l⁻¹<=1000:=of_decide_eq_true hl;exact(l,rfl,y,(Y _ _ (rfl,z)).now r (rfl,by unfold cV;rw[List.length_map];exact Nat.le_trans y (!1)))
  .cases hd
 .cases hd
def fdM(n:Str)(st:Stmt)(m:Str)(t c:Nat):AJ:=PySem.W.fnOf n n (jD st) (aD st) (aB st) .none .none .none (.str m t) none (.ref c) .none
def mkF{K:PF}{t c:Nat}(l:K.lookup a=-(.type "function",none,.func (fdM n st m t c),⟨[]⟩):=by rfl')(h1:PySem.W.codeIn K (.ref c) n=true:=by eq_refl)(h2:PySem.W.keepIn K (.ref a)=true:=by eq_refl):Fun K n n st a (fdM n st m t c):=DW l h1 h2
theorem tK:type_of% @PySem.W.Fast.te538113369711794958:=PySem.W.Fast.te538113369711794958
local macro_rules|`(tactic|ac_nf)=>`(tactic|(intro _ _ _ _ _ _ us hl;first|(obtain ⟨_,h⟩:=dF hl;subst h;rfl)|(obtain ⟨_,_,h⟩:=bu hl;subst h;rfl)|(obtain ⟨_,_,_,h⟩:=fB hl;subst h;rfl)|(obtain ⟨_,_,_,_,h⟩:=m5 hl;subst h;rfl)))
local macro_rules|`(tactic|eq_refl)=>`(tactic|(first|rw[tK]|(unfold NQ;rw[tK]));rfl')
section
variable {P:Params}
def fdQ(n q:Str)(st:Stmt)(m:Str)(t c:Nat):AJ:=PySem.W.fnOf n q (jD st) (aD st) (aB st) .none .none .none (.str m t) none (.ref c) .none
def mkQ{K:PF}{q:Str}{t c:Nat}(l:K.lookup a=-(.type "function",none,.func (fdQ n q st m t c),⟨[]⟩):=by rfl')(h1:PySem.W.codeIn K (.ref c) q=true:=by eq_refl)(h2:PySem.W.keepIn K (.ref a)=true:=by eq_refl):Fun K n q st a (fdQ n q st m t c):=DW l h1 h2
def Pg:AJ:=fdM "_law_anew" tY LN 702 413
def Ph:Fun (HK.K P) "_law_anew" "_law_anew" tY 414 Pg:=mkF
def aiO:NQ P "_law_anew" 414:=by eq_refl
def aiP:BQ P Pg ["pen"]:=Ph.binds (by ac_nf)
def Pj:AJ:=fdM "_law_form_of" tZ LN 702 525
def Pk:Fun (HK.K P) "_law_form_of" "_law_form_of" tZ 526 Pj:=mkF
def aiQ:NQ P "_law_form_of" 526:=by eq_refl
def aiR:BQ P Pj ["words"]:=Pk.binds (by ac_nf)
def Pn:AJ:=fdM "_law_many_words" ud LN 702 532
def Pq:Fun (HK.K P) "_law_many_words" "_law_many_words" ud 533 Pn:=mkF
def aiS:NQ P "_law_many_words" 533:=by eq_refl
def aiT:BQ P Pn ["form"]:=Pq.binds (by ac_nf)
def Pr:AJ:=fdM "_law_words" ue LN 702 470
def Pu:Fun (HK.K P) "_law_words" "_law_words" ue 471 Pr:=mkF
def aiU:NQ P "_law_words" 471:=by eq_refl
def aiV:BQ P Pr ["form"]:=Pu.binds (by ac_nf)
def Px:AJ:=fdM "_law_joined" uf LN 702 539
def Py:Fun (HK.K P) "_law_joined" "_law_joined" uf 540 Px:=mkF
def aiW:NQ P "_law_joined" 540:=by eq_refl
def aiX:BQ P Px ["form","other"]:=Py.binds (by ac_nf)
def Pz:AJ:=fdM "_law_made" ug LN 702 544
def PK:Fun (HK.K P) "_law_made" "_law_made" ug 545 Pz:=mkF
def aiY:NQ P "_law_made" 545:=by eq_refl
def aiZ:BQ P Pz ["book","one","other","at"]:=PK.binds (by ac_nf)
def PL:AJ:=fdM "_law_fits" uh LN 702 494
def PN:Fun (HK.K P) "_law_fits" "_law_fits" uh 495 PL:=mkF
def ai0:NQ P "_law_fits" 495:=by eq_refl
def ai1:BQ P PL ["form","word"]:=PN.binds (by ac_nf)
def PP:AJ:=fdM "_law_met" um LN 702 501
def PQ:Fun (HK.K P) "_law_met" "_law_met" um 502 PP:=mkF
def ai2:NQ P "_law_met" 502:=by eq_refl
def ai3:BQ P PP ["book","word"]:=PQ.binds (by ac_nf)
def P0:AJ:=fdM "_law_deed" uo LN 702 508
def Qa:Fun (HK.K P) "_law_deed" "_law_deed" uo 509 P0:=mkF
def ai4:NQ P "_law_deed" 509:=by eq_refl
def ai5:BQ P P0 ["book","word"]:=Qa.binds (by ac_nf)
def Qc:AJ:=fdM "_law_parting" uq LN 702 515
def Qd:Fun (HK.K P) "_law_parting" "_law_parting" uq 516 Qc:=mkF
def ai6:NQ P "_law_parting" 516:=by eq_refl
def ai7:BQ P Qc ["one","other"]:=Qd.binds (by ac_nf)
def Qe:AJ:=fdM "_law_due" ur LN 702 572
def Qf:Fun (HK.K P) "_law_due" "_law_due" ur 573 Qe:=mkF
def ai8:NQ P "_law_due" 573:=by eq_refl
def ai9:BQ P Qe ["book","one","other","at"]:=Qf.binds (by ac_nf)
def Qg:AJ:=fdM "_law_spread" ut LN 702 399
def Qh:Fun (HK.K P) "_law_spread" "_law_spread" ut 400 Qg:=mkF
def aja:NQ P "_law_spread" 400:=by eq_refl
def ajb:BQ P Qg ["cell","at"]:=Qh.binds (by ac_nf)
def Qi:AJ:=fdM "_law_take" uv LN 702 420
def Qj:Fun (HK.K P) "_law_take" "_law_take" uv 421 Qi:=mkF
def ajc:NQ P "_law_take" 421:=by eq_refl
def ajd:BQ P Qi ["pen","many"]:=Qj.binds (by ac_nf)
def Qk:AJ:=fdM "_law_signs" uw LN 702 425
def Ql:Fun (HK.K P) "_law_signs" "_law_signs" uw 426 Qk:=mkF
def aje:NQ P "_law_signs" 426:=by eq_refl
def ajf:BQ P Qk ["pen","width","signs"]:=Ql.binds (by ac_nf)
def Qm:AJ:=fdM "_law_deeds_of" ux LN 702 458
def Qn:Fun (HK.K P) "_law_deeds_of" "_law_deeds_of" ux 459 Qm:=mkF
def ajg:NQ P "_law_deeds_of" 459:=by eq_refl
def ajh:BQ P Qm ["pen","most"]:=Qn.binds (by ac_nf)
def Qo:AJ:=fdM "_law_form" uy LN 702 432
def Qp:Fun (HK.K P) "_law_form" "_law_form" uy 433 Qo:=mkF
def aji:NQ P "_law_form" 433:=by eq_refl
def ajj:BQ P Qo ["pen","width"]:=Qp.binds (by ac_nf)
def Qq:AJ:=fdM "_law_wider" uz LN 702 446
def Qs:Fun (HK.K P) "_law_wider" "_law_wider" uz 447 Qq:=mkF
def ajk:NQ P "_law_wider" 447:=by eq_refl
def ajl:BQ P Qq ["pen","form"]:=Qs.binds (by ac_nf)
def Qt:AJ:=fdM "_law_within" uA LN 702 439
def Qu:Fun (HK.K P) "_law_within" "_law_within" uA 440 Qt:=mkF
def ajm:NQ P "_law_within" 440:=by eq_refl
def ajn:BQ P Qt ["pen","form"]:=Qu.binds (by ac_nf)
def Qv:AJ:=fdM "_law_form_like" uB LN 702 453
def Qw:Fun (HK.K P) "_law_form_like" "_law_form_like" uB 454 Qv:=mkF
def ajo:NQ P "_law_form_like" 454:=by eq_refl
def ajp:BQ P Qv ["pen","width","forms"]:=Qw.binds (by ac_nf)
def Qx:AJ:=fdM "_law_book" uC LN 702 465
def Qy:Fun (HK.K P) "_law_book" "_law_book" uC 466 Qx:=mkF
def ajq:NQ P "_law_book" 466:=by eq_refl
def ajr:BQ P Qx ["pen","widest","most"]:=Qy.binds (by ac_nf)
def Qz:AJ:=fdM "_law_meet" uD LN 702 475
def QB:Fun (HK.K P) "_law_meet" "_law_meet" uD 476 Qz:=mkF
def ajs:NQ P "_law_meet" 476:=by eq_refl
def ajt:BQ P Qz ["form","other"]:=QB.binds (by ac_nf)
def QC:AJ:=fdM "_law_one_turning" uE LN 702 480
def QD:Fun (HK.K P) "_law_one_turning" "_law_one_turning" uE 481 QC:=mkF
def aju:NQ P "_law_one_turning" 481:=by eq_refl
def ajv:BQ P QC ["pen","rows"]:=QD.binds (by ac_nf)
def QF:AJ:=fdM "_law_turned_alike" uF LN 702 487
def QG:Fun (HK.K P) "_law_turned_alike" "_law_turned_alike" uF 488 QF:=mkF
def ajw:NQ P "_law_turned_alike" 488:=by eq_refl
def ajx:BQ P QF ["pen","book","times"]:=QG.binds (by ac_nf)
def QH:AJ:=fdM "_law_join_book" uG LN 702 551
def QJ:Fun (HK.K P) "_law_join_book" "_law_join_book" uG 552 QH:=mkF
def ajy:NQ P "_law_join_book" 552:=by eq_refl
def ajz:BQ P QH ["pen","widest","most"]:=QJ.binds (by ac_nf)
def QK:AJ:=fdM "_law_open" uH LN 702 406
def QL:Fun (HK.K P) "_law_open" "_law_open" uH 407 QK:=mkF
def ajA:NQ P "_law_open" 407:=by eq_refl
def ajB:BQ P QK ["script"]:=QL.binds (by ac_nf)
def Cj:AJ:=fdM "_law_same" uI LN 702 520
def vD:Fun (HK.K P) "_law_same" "_law_same" uI 521 Cj:=mkF
def QM:NQ P "_law_same" 521:=by eq_refl
def QQ:BQ P Cj ["found","due"]:=vD.binds (by ac_nf)
def QR:AJ:=fdM "is_whole" uJ "starsieve.forms" 433 203
def QS:Fun (HK.K P) "is_whole" "is_whole" uJ 204 QR:=mkF
def ajC:NQ P "is_whole" 204:=by eq_refl
def m6:BQ P QR ["thing"]:=QS.binds (by ac_nf)
def QT:AJ:=fdM "is_place" uK "starsieve.forms" 433 217
def QV:Fun (HK.K P) "is_place" "is_place" uK 218 QT:=mkF
def ajD:NQ P "is_place" 218:=by eq_refl
def m7:BQ P QT ["many","thing"]:=QV.binds (by ac_nf)
def QW:AJ:=fdM "fits" uL "starsieve.forms" 433 234
def QX:Fun (HK.K P) "fits" "fits" uL 235 QW:=mkF
def ajE:NQ P "fits" 235:=by eq_refl
def m8:BQ P QW ["form","word"]:=QX.binds (by ac_nf)
def QZ:AJ:=fdM "lies_in" uM "starsieve.forms" 433 241
def Q0:Fun (HK.K P) "lies_in" "lies_in" uM 242 QZ:=mkF
def ajF:NQ P "lies_in" 242:=by eq_refl
def m9:BQ P QZ ["form","other"]:=Q0.binds (by ac_nf)
def Q3:AJ:=fdM "with_sign" uN "starsieve.forms" 433 248
def Q4:Fun (HK.K P) "with_sign" "with_sign" uN 249 Q3:=mkF
def ajG:NQ P "with_sign" 249:=by eq_refl
def nq:BQ P Q3 ["form","at","sign"]:=Q4.binds (by ac_nf)
def Q5:AJ:=fdM "joined" uO "starsieve.forms" 433 260
def Q6:Fun (HK.K P) "joined" "joined" uO 261 Q5:=mkF
def ajH:NQ P "joined" 261:=by eq_refl
def nu:BQ P Q5 ["form","other"]:=Q6.binds (by ac_nf)
def Q7:AJ:=fdM "is_deed" uP "starsieve.books" 520 272
def Q8:Fun (HK.K P) "is_deed" "is_deed" uP 273 Q7:=mkF
def ajI:NQ P "is_deed" 273:=by eq_refl
def nA:BQ P Q7 ["thing"]:=Q8.binds (by ac_nf)
def Q9:AJ:=fdM "is_text_of" uQ "starsieve.forms" 433 222
def Ra:Fun (HK.K P) "is_text_of" "is_text_of" uQ 223 Q9:=mkF
def ajJ:NQ P "is_text_of" 223:=by eq_refl
def nF:BQ P Q9 ["signs","width","thing"]:=Ra.binds (by ac_nf)
def Rb:AJ:=fdM "is_form" uR "starsieve.forms" 433 229
def Rc:Fun (HK.K P) "is_form" "is_form" uR 230 Rb:=mkF
def ajK:NQ P "is_form" 230:=by eq_refl
def nG:BQ P Rb ["width","thing"]:=Rc.binds (by ac_nf)
def Rf:AJ:=fdM "is_row" uT "starsieve.books" 520 279
def Rg:Fun (HK.K P) "is_row" "is_row" uT 280 Rf:=mkF
def ajL:NQ P "is_row" 280:=by eq_refl
def nH:BQ P Rf ["width","thing"]:=Rg.binds (by ac_nf)
def Rh:AJ:=fdM "is_width" uU "starsieve.forms" 433 210
def Ri:Fun (HK.K P) "is_width" "is_width" uU 211 Rh:=mkF
def ajM:NQ P "is_width" 211:=by eq_refl
def nJ:BQ P Rh ["thing"]:=Ri.binds (by ac_nf)
def Rj:AJ:=fdM "is_book" uV "starsieve.books" 520 284
def Rk:Fun (HK.K P) "is_book" "is_book" uV 285 Rj:=mkF
def ajN:NQ P "is_book" 285:=by eq_refl
def nM:BQ P Rj ["thing"]:=Rk.binds (by ac_nf)
def Rm:AJ:=fdM "need_book" uW "starsieve.books" 520 291
def Rn:Fun (HK.K P) "need_book" "need_book" uW 292 Rm:=mkF
def ajO:NQ P "need_book" 292:=by eq_refl
def nO:BQ P Rm ["book"]:=Rn.binds (by ac_nf)
def Ro:AJ:=fdM "need_row" uX "starsieve.books" 520 305
def Rp:Fun (HK.K P) "need_row" "need_row" uX 306 Ro:=mkF
def ajP:NQ P "need_row" 306:=by eq_refl
def nP:BQ P Ro ["book","number"]:=Rp.binds (by ac_nf)
def Rq:AJ:=fdM "without" uY "starsieve.lean" 662 378
def Rt:Fun (HK.K P) "without" "without" uY 379 Rq:=mkF
def ajQ:NQ P "without" 379:=by eq_refl
def nQ:BQ P Rq ["book","number"]:=Rt.binds (by ac_nf)
def Ru:AJ:=fdM "joined_book" uZ "starsieve.joins" 674 385
def Rv:Fun (HK.K P) "joined_book" "joined_book" uZ 386 Ru:=mkF
def ajR:NQ P "joined_book" 386:=by eq_refl
def nR:BQ P Ru ["book","one","other","at"]:=Rv.binds (by ac_nf)
def Rw:AJ:=fdM "both" u5 "starsieve.forms" 433 255
def Rx:Fun (HK.K P) "both" "both" u5 256 Rw:=mkF
def ajS:NQ P "both" 256:=by eq_refl
def nT:BQ P Rw ["form","other"]:=Rx.binds (by ac_nf)
def Ry:AJ:=fdM "first_touching" u6 "starsieve.laid" 579 340
def Rz:Fun (HK.K P) "first_touching" "first_touching" u6 341 Ry:=mkF
def ajT:NQ P "first_touching" 341:=by eq_refl
def nU:BQ P Ry ["rows","box"]:=Rz.binds (by ac_nf)
def RB:AJ:=fdM "splitting_place" u9 "starsieve.laid" 579 347
def RC:Fun (HK.K P) "splitting_place" "splitting_place" u9 348 RB:=mkF
def ajU:NQ P "splitting_place" 348:=by eq_refl
def nW:BQ P RB ["rows","box"]:=RC.binds (by ac_nf)
def Ck:AJ:=fdM "grown" vd "starsieve.laid" 579 352
def vG:Fun (HK.K P) "grown" "grown" vd 353 Ck:=mkF
def RD:NQ P "grown" 353:=by eq_refl
def kO:BQ P Ck ["name","many_rows","box"]:=vG.binds (by ac_nf)
def RG:AJ:=fdM "least" pA "starsieve.forms" 433 267
def Cm:Fun (HK.K P) "least" "least" pA 268 RG:=mkF
def ajV:NQ P "least" 268:=by eq_refl
def ajW:BQ P RG ["form"]:=Cm.binds (by ac_nf)
def RJ:AJ:=fdM "is_named" vf "starsieve.laid" 579 326
def RK:Fun (HK.K P) "is_named" "is_named" vf 327 RJ:=mkF
def ajX:NQ P "is_named" 327:=by eq_refl
def nY:BQ P RJ ["name","many","thing"]:=RK.binds (by ac_nf)
def Cp:AJ:=fdM "leaves" vg "starsieve.laid" 579 333
def vH:Fun (HK.K P) "leaves" "leaves" vg 334 Cp:=mkF
def RL:NQ P "leaves" 334:=by eq_refl
def jr:BQ P Cp ["box","tree"]:=vH.binds (by ac_nf)
def RM:AJ:=fdM "need_two_books" vh "starsieve.books" 520 298
def RN:Fun (HK.K P) "need_two_books" "need_two_books" vh 299 RM:=mkF
def ajY:NQ P "need_two_books" 299:=by eq_refl
def nZ:BQ P RM ["one","other"]:=RN.binds (by ac_nf)
def RP:AJ:=fdM "deed_of" vm "starsieve.books" 520 312
def RQ:Fun (HK.K P) "deed_of" "deed_of" vm 313 RP:=mkF
def ajZ:NQ P "deed_of" 313:=by eq_refl
def kW:BQ P RP ["book","number"]:=RQ.binds (by ac_nf)
def RT:AJ:=fdM "same_deeds" vo "starsieve.alike" 635 359
def RV:Fun (HK.K P) "same_deeds" "same_deeds" vo 360 RT:=mkF
def aj0:NQ P "same_deeds" 360:=by eq_refl
def n6:BQ P RT ["one","other","leaf"]:=RV.binds (by ac_nf)
def RW:AJ:=fdM "stars" vp "starsieve.laid" 579 319
def RX:Fun (HK.K P) "stars" "stars" vp 320 RW:=mkF
def aj1:NQ P "stars" 320:=by eq_refl
def n8:BQ P RW ["width"]:=RX.binds (by ac_nf)
def RZ:AJ:=fdM "alike" vq "starsieve.alike" 635 364
def R0:Fun (HK.K P) "alike" "alike" vq 365 RZ:=mkF
def aj2:NQ P "alike" 365:=by eq_refl
def oh:BQ P RZ ["one","other"]:=R0.binds (by ac_nf)
def R1:AJ:=fdM "parting_word" vy "starsieve.alike" 635 371
def R3:Fun (HK.K P) "parting_word" "parting_word" vy 372 R1:=mkF
def aj3:NQ P "parting_word" 372:=by eq_refl
def ou:BQ P R1 ["one","other"]:=R3.binds (by ac_nf)
def R4:AJ:=fdQ "__init__" "Turned.__init__" pB "starsieve.errors" 187 40
def R5:Fun (HK.K P) "__init__" "Turned.__init__" pB 41 R4:=mkQ
def R6:NQ P "Turned" 44:=by eq_refl
def aj4:ik (HK.K P) 44 41=true:=by eq_refl
def aj5:PySem.W.typeIn (HK.K P) (.ref 41)=-(.type "function"):=by eq_refl
def aj6:PySem.W.keepIn (HK.K P) (.ref 44)=true:=by eq_refl
def aj7:gB (HK.K P) 44=true/\PySem.W.hasDictIn (HK.K P) 44=true/\PySem.W.findIn (HK.K P) (.ref 44) (⇑"word")=-none:=(by eq_refl,by eq_refl,by eq_refl)
def aj8:pY (HK.K P) 44 (⇑"word")=true:=by eq_refl
def aj9:Ky (HK.K P) xs "Turned"=true:=by eq_refl
def aka:BQ P R4 ["self","word"]:=R5.binds (by ac_nf)
def R7:AJ:=fdM "_law_refusal" vz LN 702 558
def R8:Fun (HK.K P) "_law_refusal" "_law_refusal" vz 559 R7:=mkF
def akb:NQ P "_law_refusal" 559:=by eq_refl
def akc:BQ P R7 ["caught"]:=R8.binds (by ac_nf)
def R9:AJ:=fdM "join" vA "starsieve.joins" 674 392
def Sd:Fun (HK.K P) "join" "join" vA 393 R9:=mkF
def akd:NQ P "join" 393:=by eq_refl
def oA:BQ P R9 ["book","one","other","at"]:=Sd.binds (by ac_nf)
def Sg:AJ:=fdM "_law_told" vB LN 702 565
def Sq:Fun (HK.K P) "_law_told" "_law_told" vB 566 Sg:=mkF
def ake:NQ P "_law_told" 566:=by eq_refl
def akf:BQ P Sg ["book","one","other","at"]:=Sq.binds (by ac_nf)
def Cq:AJ:=fdM "law" vC LN 702 579
def akg:Fun (HK.K P) "law" "law" vC 580 Cq:=mkF
def akh:NQ P "law" 580:=by eq_refl
def aki:PySem.W.nsIn (HK.K P) mainGlobals "all"=-none:=by eq_refl
def akj:PySem.W.nsIn (HK.K P) mainGlobals "bool"=-none:=by eq_refl
def akk:PySem.W.nsIn (HK.K P) mainGlobals "enumerate"=-none:=by eq_refl
def akl:PySem.W.nsIn (HK.K P) mainGlobals "int"=-none:=by eq_refl
def akm:PySem.W.nsIn (HK.K P) mainGlobals "isinstance"=-none:=by eq_refl
def akn:PySem.W.nsIn (HK.K P) mainGlobals "len"=-none:=by eq_refl
def ako:PySem.W.nsIn (HK.K P) mainGlobals "list"=-none:=by eq_refl
def akp:PySem.W.nsIn (HK.K P) mainGlobals "min"=-none:=by eq_refl
def akq:PySem.W.nsIn (HK.K P) mainGlobals "range"=-none:=by eq_refl
def akr:PySem.W.nsIn (HK.K P) mainGlobals "set"=-none:=by eq_refl
def aks:PySem.W.nsIn (HK.K P) mainGlobals "sorted"=-none:=by eq_refl
def akt:PySem.W.nsIn (HK.K P) mainGlobals "str"=-none:=by eq_refl
def aku:PySem.W.nsIn (HK.K P) mainGlobals "tuple"=-none:=by eq_refl
def akv:PySem.W.nsIn (HK.K P) mainGlobals "zip"=-none:=by eq_refl
def akx:PySem.W.nsIn (HK.K P) mainGlobals "LETTERS"=-(-(.str "abcdefghijklmnopqrstuvwxyz" 526)):=by eq_refl
def aky:PySem.W.nsIn (HK.K P) mainGlobals "LONGEST_DEED"=-(-(.int 8 524)):=by eq_refl
def akz:PySem.W.nsIn (HK.K P) mainGlobals "MOST_ROWS"=-(-(.int 12 522)):=by eq_refl
def akA:PySem.W.nsIn (HK.K P) mainGlobals "WIDEST"=-(-(.int 6 435)):=by eq_refl
def akB:NQ P "SieveError" 24:=by eq_refl
def k7:lM (HK.K P) 24=true:=by eq_refl
def x_s:xsB (HK.K P) xs=true:=by eq_refl
end
section
variable {l:PySem.W.OpenLaw} {w:World} {h:Heap} {mg:AH} {base:Heap} (X:(HK.K w.params).In h) (G:h.Ns mainGlobals mg)
include X G
theorem B0:BB l w mg base 0 f0 o0:=bse trivial (mg_none_of X G aki,mg_none_of X G akj,mg_none_of X G akk,mg_none_of X G akl,mg_none_of X G akm,mg_none_of X G akn,mg_none_of X G ako,mg_none_of X G akp,mg_none_of X G akq,mg_none_of X G akr,mg_none_of X G aks,mg_none_of X G akt,mg_none_of X G aku,mg_none_of X G akv,trivial) (ae1 (mg_of X G akx) (by ac_rfl) (!1),zJ (mg_of X G aky),zJ (mg_of X G akz),zJ (mg_of X G akA),trivial) X G x_s
def B1:BB l w mg base 1 f1 o0:=(B0 X G).step Ph aiP (mg_of X G aiO) Nm 0 (by ac_rfl) ahK rfl rfl (cJ (λds G h=>ae9 Z  ds G h))
def B2:BB l w mg base 2 f2 o0:=(B1 X G).step Pk aiR (mg_of X G aiQ) Np 3 (by ac_rfl) ahL rfl rfl (cM (λa G h=>ahd Z  a G h))
def B3:BB l w mg base 3 f3 o0:=(B2 X G).step Pq aiT (mg_of X G aiS) Nq 2 (by ac_rfl) ahM rfl rfl (cM (λa G h=>ahi Z  a G h))
def B4:BB l w mg base 4 f4 o0:=(B3 X G).step Pu aiV (mg_of X G aiU) BX 4 (by ac_rfl) ahN rfl rfl (cJ (λds G h=>afD Z  ds G h))
def B5:BB l w mg base 5 f5 o0:=(B4 X G).step Py aiX (mg_of X G aiW) Nr 2 (by ac_rfl) ahO rfl rfl (fH (λa ds G h=>ahk Z (BX,Nq,Np) a ds G h))
def B6:BB l w mg base 6 f6 o0:=(B5 X G).step PK aiZ (mg_of X G aiY) Nt 4 (by ac_rfl) ahP rfl rfl (fH (λa ds G h=>ahm Z Nr a ds G h))
def B7:BB l w mg base 7 f7 o0:=(B6 X G).step PN ai1 (mg_of X G ai0) Nu 2 (by ac_rfl) ahQ rfl rfl (fY (λds G d h=>agh Z  ds G d h))
def B8:BB l w mg base 8 f8 o0:=(B7 X G).step PQ ai3 (mg_of X G ai2) Nv 2 (by ac_rfl) ahR rfl rfl (cM (λa G h=>agj Z Nu a G h))
def B9:BB l w mg base 9 f9 o0:=(B8 X G).step Qa ai5 (mg_of X G ai4) Nx 1 (by ac_rfl) ahS rfl rfl (cM (λa G h=>ag5 Z Nv a G h))
def B10:BB l w mg base 10 f10 o0:=(B9 X G).step Qd ai7 (mg_of X G ai6) Ny 1 (by ac_rfl) ahT rfl rfl (fH (λa ds G h=>ag7 Z BX Nx a ds G h))
def B11:BB l w mg base 11 f11 o0:=(B10 X G).step Qf ai9 (mg_of X G ai8) Nz 2 (by ac_rfl) ahU rfl rfl (fH (λa ds G h=>ahy Z Nt Ny a ds G h))
def B12:BB l w mg base 12 f12 o0:=(B11 X G).step Qh ajb (mg_of X G aja) NB 3 (by ac_rfl) ahV rfl rfl (cJ (λds G h=>ae8 Z  ds G h))
def B13:BB l w mg base 13 f13 o0:=(B12 X G).step Qj ajd (mg_of X G ajc) gr 3 (by ac_rfl) ahW rfl rfl (cJ (λds G h=>afa Z NB ds G h))
def B14:BB l w mg base 14 f14 o0:=(B13 X G).step Ql ajf (mg_of X G aje) BZ 0 (by ac_rfl) ahX rfl rfl (cJ (λds G h=>afd Z gr ds G h))
def B15:BB l w mg base 15 f15 o0:=(B14 X G).step Qn ajh (mg_of X G ajg) NK 4 (by ac_rfl) ahY rfl rfl (cJ (λds G h=>afx Z gr BZ ds G h))
def B16:BB l w mg base 16 f16 o0:=(B15 X G).step Qp ajj (mg_of X G aji) NT 0 (by ac_rfl) ahZ rfl rfl (cJ (λds G h=>afe Z gr BZ ds G h))
def B17:BB l w mg base 17 f17 o0:=(B16 X G).step Qs ajl (mg_of X G ajk) NZ 2 (by ac_rfl) ah0 rfl rfl (cJ (λds G h=>afp Z gr ds G h))
def B18:BB l w mg base 18 f18 o0:=(B17 X G).step Qu ajn (mg_of X G ajm) Ca 2 (by ac_rfl) ah1 rfl rfl (cJ (λds G h=>afo Z gr ds G h))
def B19:BB l w mg base 19 f19 o0:=(B18 X G).step Qw ajp (mg_of X G ajo) N5 3 (by ac_rfl) ah2 rfl rfl (cJ (λds G h=>afu Z gr NT Ca NZ ds G h))
def B20:BB l w mg base 20 f20 o0:=(B19 X G).step Qy ajr (mg_of X G ajq) N6 5 (by ac_rfl) ah3 rfl rfl (cJ (λds G h=>afA Z gr NK N5 ds G h))
def B21:BB l w mg base 21 f21 o0:=(B20 X G).step QB ajt (mg_of X G ajs) N7 0 (by ac_rfl) ah4 rfl rfl (cM (λa G h=>agP Z  a G h))
def B22:BB l w mg base 22 f22 o0:=(B21 X G).step QD ajv (mg_of X G aju) N8 7 (by ac_rfl) ah5 rfl rfl (fH (λa ds G h=>agT Z gr Ca N7 a ds G h))
def B23:BB l w mg base 23 f23 o0:=(B22 X G).step QG ajx (mg_of X G ajw) Oa 2 (by ac_rfl) ah6 rfl rfl (fH (λa ds G h=>agV Z N8 a ds G h))
def B24:BB l w mg base 24 f24 o0:=(B23 X G).step QJ ajz (mg_of X G ajy) Ob 1 (by ac_rfl) ah7 rfl rfl (fH (λa ds G h=>ag9 Z N6 Oa gr a ds G h))
def B25:BB l w mg base 25 f25 o0:=(B24 X G).step QL ajB (mg_of X G ajA) Oc 3 (by ac_rfl) ah8 rfl rfl (cJ (λds G h=>afg Z  ds G h))
def Ss:∀n:Nat,FnOk l.prog w (HK.K w.params) mg base (CX1 l.prog w) (25+n) 521 Cj ["found","due"] (lift (HK.K w.params) 2 (gm n))
 |0=>zK ahA
 |n+1=>mY (fs:=f26) vD ((B25 X G).self (by ac_rfl) (Ss n) vD.kp QQ (mg_of X G QM)) (gm (n+1)) 2 0 (by ac_rfl) ah9 rfl rfl (cJ (λds G h=>ahz (iG Z "_law_same" (gm n)) n (if_pos rfl) ds G h))
def B26:BB l w mg base 30 f26 o0:=(B25 X G).add (j:=5) Od (Ss X G 5) vD.kp QQ (mg_of X G QM)
def B27:BB l w mg base 31 f27 o0:=(B26 X G).step QS m6 (mg_of X G ajC) Cd 0 (by ac_rfl) aia rfl rfl (fY (λds G d h=>afh Z  ds G d h))
def B28:BB l w mg base 32 f28 o0:=(B27 X G).step QV m7 (mg_of X G ajD) tW 0 (by ac_rfl) aib rfl rfl (fY (λds G d h=>agl Z Cd ds G d h))
def B29:BB l w mg base 33 f29 o0:=(B28 X G).step QX m8 (mg_of X G ajE) Oe 0 (by ac_rfl) aic rfl rfl (fY (λds G d h=>afO Z  ds G d h))
def B30:BB l w mg base 34 f30 o0:=(B29 X G).step Q0 m9 (mg_of X G ajF) Og 0 (by ac_rfl) aid rfl rfl (fY (λds G d h=>agx Z Oe ds G d h))
def B31:BB l w mg base 35 f31 o0:=(B30 X G).step Q4 nq (mg_of X G ajG) tX 0 (by ac_rfl) aie rfl rfl (fY (λds G d h=>afZ Z  ds G d h))
def B32:BB l w mg base 36 f32 o0:=(B31 X G).step Q6 nu (mg_of X G ajH) Oh 1 (by ac_rfl) aif rfl rfl (fY (λds G d h=>ag1 Z Og tX ds G d h))
def B33:BB l w mg base 37 f33 o0:=(B32 X G).step Q8 nA (mg_of X G ajI) Oi 0 (by ac_rfl) aig rfl rfl (cM (λa G h=>afI Z  a G h))
def B34:BB l w mg base 38 f34 o0:=(B33 X G).step Ra nF (mg_of X G ajJ) Oj 0 (by ac_rfl) aih rfl rfl (cM (λa G h=>afG Z  a G h))
def B35:BB l w mg base 39 f35 o0:=(B34 X G).step Rc nG (mg_of X G ajK) Ol 0 (by ac_rfl) aii rfl rfl (cM (λa G h=>afH Z Oj a G h))
def B36:BB l w mg base 40 f36 o0:=(B35 X G).step Rg nH (mg_of X G ajL) Om 0 (by ac_rfl) aij rfl rfl (cM (λa G h=>afJ Z Ol Oi a G h))
def B37:BB l w mg base 41 f37 o0:=(B36 X G).step Ri nJ (mg_of X G ajM) Oo 0 (by ac_rfl) aik rfl rfl (cM (λa G h=>afK Z Cd a G h))
def B38:BB l w mg base 42 f38 o0:=(B37 X G).step Rk nM (mg_of X G ajN) Oq 2 (by ac_rfl) ail rfl rfl (cM (λa G h=>afL Z Oo Om a G h))
def B39:BB l w mg base 43 f39 o0:=(B38 X G).step Rn nO (mg_of X G ajO) Ce 0 (by ac_rfl) aim rfl rfl (cM (λa G h=>afM Z Oq a G h))
def B40:BB l w mg base 44 f40 o0:=(B39 X G).step Rp nP (mg_of X G ajP) Cg 0 (by ac_rfl) ain rfl rfl (cM (λa G h=>agF Z Ce tW a G h))
def B41:BB l w mg base 45 f41 o0:=(B40 X G).step Rt nQ (mg_of X G ajQ) Ot 2 (by ac_rfl) aio rfl rfl (cM (λa G h=>agO Z Cg a G h))
def B42:BB l w mg base 46 f42 o0:=(B41 X G).step Rv nR (mg_of X G ajR) Ou 4 (by ac_rfl) aip rfl rfl (cM (λa G h=>ag3 Z Oh Ot a G h))
def B43:BB l w mg base 47 f43 o0:=(B42 X G).step Rx nT (mg_of X G ajS) Ov 3 (by ac_rfl) aiq rfl rfl (fY (λds G d h=>afY Z  ds G d h))
def B44:BB l w mg base 48 f44 o0:=(B43 X G).step Rz nU (mg_of X G ajT) Ci 2 (by ac_rfl) air rfl rfl (cJ (λds G h=>af4 Z Ov ds G h))
def B45:BB l w mg base 49 f45 o0:=(B44 X G).step RC nW (mg_of X G ajU) Ow 3 (by ac_rfl) ais rfl rfl (cJ (λds G h=>af7 Z Ci ds G h))
def Su:∀n:Nat,FnOk l.prog w (HK.K w.params) mg base (CX1 l.prog w) (49+n) 353 Ck ["name","many_rows","box"] (lift (HK.K w.params) 3 (gf n))
 |0=>zK agc
 |n+1=>mY (fs:=f46) vG ((B45 X G).self (by ac_rfl) (Su n) vG.kp kO (mg_of X G RD)) (gf (n+1)) 3 4 (by ac_rfl) ait rfl rfl (cJ (λds G h=>agb (iG Z "grown" (gf n)) n (if_pos rfl) (kI Ci rfl) (kI Ow rfl) (kI tX rfl) ds G h))
def B46:BB l w mg base 58 f46 o0:=(B45 X G).add (j:=9) Oz (Su X G 9) vG.kp kO (mg_of X G RD)
def B47:BB l w mg base 59 f47 o0:=(B46 X G).add (j:=1) OD ((aiN Cm).cx.mono (!1)) Cm.kp ajW (mg_of X G ajV)
def B48:BB l w mg base 60 f48 o0:=(B47 X G).step RK nY (mg_of X G ajX) OJ 0 (by ac_rfl) aiu rfl rfl (fY (λds G d h=>agm Z  ds G d h))
def Sv:∀n:Nat,FnOk l.prog w (HK.K w.params) mg base (CX1 l.prog w) (60+n) 334 Cp ["box","tree"] (lift (HK.K w.params) 2 (fL n))
 |0=>zK agq
 |n+1=>mY (fs:=f49) vH ((B48 X G).self (by ac_rfl) (Sv n) vH.kp jr (mg_of X G RL)) (fL (n+1)) 2 3 (by ac_rfl) aiv rfl rfl (cM (λa G h=>ags (iG Z "leaves" (fL n)) n (if_pos rfl) (kI OJ rfl) (kI tW rfl) (kI tX rfl) a G h))
def B49:BB l w mg base 69 f49 o0:=(B48 X G).add (j:=9) O1 (Sv X G 9) vH.kp jr (mg_of X G RL)
def B50:BB l w mg base 70 f50 o0:=(B49 X G).step RN nZ (mg_of X G ajY) O2 0 (by ac_rfl) aiw rfl rfl (cM (λa G h=>agI Z Ce a G h))
def B51:BB l w mg base 71 f51 o0:=(B50 X G).step RQ kW (mg_of X G ajZ) O3 0 (by ac_rfl) aix rfl rfl (cJ (λds G h=>afS Z  ds G h))
def B52:BB l w mg base 72 f52 o0:=(B51 X G).step RV n6 (mg_of X G aj0) O4 0 (by ac_rfl) aiy rfl rfl (cM (λa G h=>agK Z O3 a G h))
def B53:BB l w mg base 73 f53 o0:=(B52 X G).step RX n8 (mg_of X G aj1) O5 0 (by ac_rfl) aiz rfl rfl (fY (λds G d h=>af0 Z  ds G d h))
def B54:BB l w mg base 74 f54 o0:=(B53 X G).step R0 oh (mg_of X G aj2) O6 3 (by ac_rfl) aiA rfl rfl (fH (λa ds G h=>agM Z O2 Oz O1 OD O5 O4 a ds G h))
def B55:BB l w mg base 75 f55 o0:=(B54 X G).step R3 ou (mg_of X G aj3) O7 2 (by ac_rfl) aiB rfl rfl (cM (λa G h=>agX Z O6 a G h))
def B56:BB l w mg base 77 f55 o1:=(B55 X G).addX (j:=2) (ae5 (B55 X G) R5 aka (mg_of X G R6) R6 aj4 aj5 aj6 aj7 aj8 (mg_of X G akB) k7 aiC aiE rfl rfl (λa d G y h q=>ae7 h q),ae6 X G aj9)
def B57:BB l w mg base 78 f56 o1:=(B56 X G).step R8 akc (mg_of X G akb) O8 2 (by ac_rfl) aiF rfl rfl (fH (λa ds G h=>ahw Z  a ds G h))
def B58:BB l w mg base 79 f57 o1:=(B57 X G).stepX Sd oA (mg_of X G akd) O9 2 (by ac_rfl) aiG rfl rfl (λds G a z h=>aho Z Cg tW Ou O7 ds G a h)
def B59:BB l w mg base 80 f58 o1:=(B58 X G).step Sq akf (mg_of X G ake) Pa 4 (by ac_rfl) aiH rfl rfl (fH (λa ds G h=>ahx Z O9 O8 a ds G h))
def akC:FnOk l.prog w (HK.K w.params) mg base (CX1 l.prog w) 81 580 Cq ["script"] (lift (HK.K w.params) 1 (oF)):=mY akg (B59 X G) (oF) 1 6 (by ac_rfl) aiI rfl rfl (cJ (λds G h=>ahD Z (Oc,Nm,Ob,Pa,Nz,Od) ds G h))
omit X G in
theorem all(fa:AQ)(X:(HK.K w.params).In h)(G:h.Ns mainGlobals mg)(y:mg "law"=-(.ref fa)):∃fd:AJ,(∀(s:AI) (v:AN),BindsTo s fd ([v],[]) [("script",v)])/\∀base:Heap,(HK.K w.params).In base->base.Ns mainGlobals mg->FnOk l.prog w (HK.K w.params) mg base (CX1 l.prog w) 81 fa fd ["script"] (lift (HK.K w.params) 1 (oF)):=by have e:=y.symm.trans (PySem.W.mg_of X G akh);cases e;exact(Cq,λs v=>.of_eq rfl,λbase z z=>akC X G)
end
def walk{l:PySem.W.OpenLaw}{q:AK}{loose:AD}{XP:(AH)->Heap->Prop}{d:DefRec}(hn:l.most=-63)(y:d.params.defaults=[])(J:d.name="law"):
  PySem.W.WalkO q loose XP HK.hook.says l.row.toRowW d [] (λf vs=>PySem.call f vs):=
 L2.Wk (n:=63) (k:=81) (x:="script") (K:=HK.K) (CX:=λw=>CX1 l.prog w) (sp:=λw=>lift (HK.K w.params) 1 (oF)) hn (!1) y (rfl,!1,!1) (λv v Y=>Y) (λw mg fa h X G O=>all fa X G (J ▸ O)) (λw H a ns hl U hS=>ae2 (ae3 λns v hl=>(ns,rfl,hl)) (HK.K w.params) H a ns hl U hS) λv v v v v z=>abY z
end Lk41
end
open PySem PySem.W PyProof.Rows
set_option maxHeartbeats 0 in
theorem PySem.Challenge.cw_starsieve_k41_rows_joined_holds : PySem.Challenge.rw_starsieve_k41_rows_joined.Holds := by
 have said:PySem.Challenge.rw_starsieve_k41_rows_joined.row.wellSaid=true:=wsR
 refine ⟨wsL,?_⟩;refine PySem.W.holds_open (q:=HK.qv) (loose:=[]) (Xt:=HK.Xt) (XP:=XL HK.qv []) (Yf:=HK.hook.obs) (Ya:=HK.hook.val) (YP:=HK.hook.says) (N:=12000) HK.left HK.hook.of HK.hook.keeps
  (λs e=>xl_of s (Bool.and_eq_true_iff.mp e).1) XL.keeps (by rfl) (by rfl) (by rfl) (λs e=>recFacts_of (Bool.and_eq_true_iff.mp e).2) (by rfl) (by assumption) (by decide +kernel) ⟨rfl,rfl,rfl,rfl,rfl,by decide +kernel⟩ ?hw ?hc
 case hw=>exact ⟨[.list []],by decide +kernel,by decide +kernel⟩
 exact Lk41.walk rfl rfl rfl
