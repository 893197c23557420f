import PyProof.Rows.All
import OpenK.KWalk
import OpenK.KMake
import OpenK.KDescr
import OpenK.KLine
import OpenK.KCls
import OpenK.KMore
import Open.Pieces
import KE.OsHead
import KE.KItem
import KE.KRevIter
import KE.KStateDown
import KE.BitLaws
import KE.OsShapes
import Open.SpecLaws
import Wide.All
import Wide.FinOn
import PyProof.EqAt
import PyProof.EqKinds
import PyProof.TupleCall
import PySem.Challenge.RW_framenode_s01_answers
set_option Elab.async false
set_option linter.all false
set_option maxRecDepth 100000
set_option maxHeartbeats 4000000
namespace L2
open PySem PySem.Spec PyProof.Rows
def inClass(s:Stmt)(j:Nat):Stmt:=match s with
 | .ClassDef _ _ _ body _ _ _ _ _ _ _=>body.getD j (.Pass ⟨0,0,0,0⟩)
 | _=> .Pass ⟨0,0,0,0⟩
def vh(s:Stmt):Arguments:=match s with
 | .FunctionDef _ a _ _ _ _ _ _ _ _=>a
 | _=>{posonlyargs:=[],args:=[],vararg:=none,kwonlyargs:=[],kw_defaults:=[],kwarg:=none,defaults:=[]}
def ox(s:Stmt):List Stmt:=match s with
 | .FunctionDef _ _ b _ _ _ _ _ _ _=>b
 | _=>[]
def ar(s:Stmt):Scope:=match s with
 | .FunctionDef _ _ _ _ _ _ sc _ _ _=>sc
 | _=>{kind:= .function,names:=[],isGenerator:=false,isCoroutine:=false}
end L2
namespace L2
open PySem PySem.Spec PyProof.Rows
def core(d:FuncData):FuncData:={d with kwdefaults:= .none,doc:= .none,pyModule:= .none,annotations:=none,code:= .none,closureTuple:= .none}
abbrev Qr(x q:Str)(st:Stmt):FuncData:=PySem.W.fnOf x q (vh st) (ox st) (ar st) .none .none .none .none none .none .none
def QB(g:Addr→Option Obj)(cd:Value)(q:Str):Bool:=match cd with
 | .ref c=>(match g c with
   | some ⟨_,_,.fields vs,_⟩=>(match vs.toList with | _:: .str n _::_=>n == q | _=>false)
   | _=>false)
 | _=>false
def fnAt(g:Addr→Option Obj)(q:Str)(v:Option (Option Value)):Option (FuncData × Bool):=match v with
 | some (some (.ref f))=>(match g f with
   | some ⟨oc,_,.func d,_⟩=>some (core d,QB g d.code q && oc == .type "function")
   | _=>none)
 | _=>none
abbrev JY(g:Addr→Option Obj)(K:PySem.W.Frag):Prop:=∀a o,g a=some o→K.lookup a=some o
def VW(K:PySem.W.Frag)(c:Option Str)(x:Str):Option (Option Value):=match c with
 | none=>PySem.W.nsIn K mainGlobals x
 | some c=>(match PySem.W.nsIn K mainGlobals c with
   | some (some v)=>PySem.W.findIn K v x
   | _=>none)
structure Row where
 c:Option Str
 x:Str
 q:Str
def Cu(g:Addr→Option Obj)(K:PySem.W.Frag)(r:Row):Option (FuncData × Bool):=fnAt g r.q (VW K r.c r.x)
def Cm(r:Row)(st:Stmt):Option (FuncData × Bool):=some (Qr r.x r.q st,true)
def clsAt(K:PySem.W.Frag)(c:Str)(as:List Str):Bool:=match PySem.W.nsIn K mainGlobals c with
 | some (some (.ref C))=>PySem.W.plainGet K C Str.empty && PySem.W.hasDictIn K C && PySem.W.plainOver K C && (PySem.W.findIn K (.ref C) "__setattr__" == some (some (.builtin "object.__setattr__"))) && PySem.W.makesIn K C && PySem.W.keepIn K (.ref C) &&
   as.all fun a=>PySem.W.findIn K (.ref C) a == some none
 | _=>false
def intAt(K:PySem.W.Frag)(x:Str)(n:Int):Bool:=match PySem.W.nsIn K mainGlobals x with
 | some (some (.int m _))=>decide (m=n)
 | _=>false
def dictAt(K:PySem.W.Frag)(x:Str)(l:List (Nat × Str)):Bool:=match PySem.W.nsIn K mainGlobals x with
 | some (some (.ref d))=>(match K.lookup d with
   | some ⟨.type "dict",none,.dict es _,⟨[]⟩⟩=>dictRows K es.toList l
   | _=>false)
 | _=>false
where dictRows (K:PySem.W.Frag):List DictEntry→List (Nat × Str)→Bool
 | [],[]=>true
 | ⟨h,.int n _,.ref f⟩::es,(m,y)::l=>decide (h=m) && decide (n=m) && (PySem.W.nsIn K mainGlobals y == some (some (.ref f))) && dictRows K es l
 | _,_=>false
def Bb(g:Addr→Option Obj):List Addr→PySem.W.Frag
 | []=>[]
 | a::l=>match g a with
  | some o=>(a,o)::Bb g l
  | none=>Bb g l
theorem CB{g:Addr→Option Obj}{a:Addr}{o:Obj}:∀{l:List Addr},(Bb g l).lookup a=some o→g a=some o
 | [],h=>by cases h
 | b::l,h=>by
  unfold Bb at h
  split at h
  ·rename_i c hb
   rw [List.lookup_cons] at h
   by_cases e:a=b
   ·subst e
    rw [beq_self_eq_true] at h
    exact hb.trans h
   ·rw [beq_false_of_ne e] at h
    exact CB h
  ·exact CB h
theorem C6{g:Addr→Option Obj}{a:Addr}{o:Obj}(hg:g a=some o):∀{l:List Addr},a ∈ l→(Bb g l).lookup a=some o
 | b::l,h=>by
  unfold Bb
  by_cases e:a=b
  ·subst e
   rw [hg]
   show List.lookup a ((a,o)::Bb g l)=some o
   rw [List.lookup_cons,beq_self_eq_true]
  ·have h':a ∈ l:=(List.mem_cons.mp h).resolve_left e
   split
   ·rw [List.lookup_cons,beq_false_of_ne e]
    exact C6 hg h'
   ·exact C6 hg h'
def gT(S:PySem.W.SharedT)(a:Addr):Option Obj:=match Nat.ble S.n a with
 | true=>none
 | false=>(S.tree.get a).bind PySem.W.alive
theorem SM{S:PySem.W.SharedT}{a:Addr}{o:Obj}(h:gT S a=some o):a < S.n∧(S.tree.get a).bind PySem.W.alive=some o:=by
 unfold gT at h
 split at h
 ·cases h
 ·rename_i e
  refine ⟨?_,h⟩
  rcases Nat.lt_or_ge a S.n with q | q
  ·exact q
  ·rw [Nat.ble_eq_true_of_le q] at e;cases e
theorem Up{S:PySem.W.SharedT}{a:Addr}{o:Obj}(h:gT S a=some o):S.abs.heap.get? a=some o:=by
 obtain ⟨h1,h2⟩:=SM h
 obtain ⟨o',h3,h4⟩:=Option.bind_eq_some_iff.mp h2
 exact (PySem.W.abs_get h1 h3).trans h4
def Ro(S:PySem.W.SharedT)(sp:List Addr):PySem.W.Frag:=Bb (gT S) (sp ++ List.range S.n)
theorem PL(S:PySem.W.SharedT)(sp:List Addr):(Ro S sp).In S.abs.heap:=fun _ _ e=>Up (CB e)
theorem LQ(S:PySem.W.SharedT)(sp:List Addr):JY (gT S) (Ro S sp):=fun _ _ e=>C6 e (List.mem_append_right _ (List.mem_range.mpr (SM e).1))
abbrev rD(x:Str):Row:=⟨none,x,x⟩
abbrev rM(c x q:Str):Row:=⟨some c,x,q⟩
end L2
namespace L2
open PySem PySem.W PySem.Calls PyProof.Rows
def treeOf(l:List Obj):BT:=l.foldl (fun (t:BT × Nat) o=>(t.1.ins t.2 o,t.2+1)) (.nil,0) |>.1
def WB(s:Shared):SharedT:=⟨treeOf s.heap.objs.toList,s.heap.objs.size,s.heap.life,s.gens,s.drawn,s.toks,s.os⟩
def PB:Flow→Bool
 | .next=>true
 | _=>false
theorem SE{tb:String→Option Builtin}{p:Program}{w:World}{m₀:Nat}{ann:Option Value}{s:Shared}{c:Code}{pos q:Pos}:
  topRun tb p w m₀ ann 2 s ⟨doneF .next,c,pos,[topFrame q]⟩=some s:=by
 obtain ⟨h,gs,d,k,os⟩:=s
 rfl
theorem Pn{p q:Program}{loose:List Str}{Xt:Shared→Bool}{α:Type}{OT:SharedT→α}{good:α}{YP:Heap→Prop}{N:Nat}{g0:Bool}{H₀:Params→Heap}{gs₀:Array GenState}{d₀:Drawn}{k₀:Nat}{m₀:Nat}{ann:Option Value}{n1 n2 n3:Nat}
  {b:List Stmt} {env:Env} {pos0 posB q0:Pos} {SA:World→OsState→Shared} {SB:World→OsState→SharedT}
  (open_:∀w:World,(fencedOpening treeTable p w N).map (fun s=>(s.heap,s.gens,s.drawn,s.toks))=some (H₀ w.params,gs₀,d₀,k₀))
  (size:∀w:World,((H₀ w.params).isNs mainGlobals && gs₀.size == 0,(H₀ w.params).objs.size,(H₀ w.params).nsMap mainGlobals "__annotations__")= (true,m₀,ann))
  (pre:∀(w:World)(os:OsState),topGo treeTable p w m₀ ann n1 ⟨H₀ w.params,gs₀,d₀,k₀,os⟩ (topStub p)=some (SA w os,⟨denote treeTable (.body b env),.body b env,pos0,[topFrame q0]⟩))
  (block:∀(w:World)(os:OsState),segRun treeTable p w m₀ ann 1 n2 (SA w os) (blockOf b env (.body b env) pos0 [topFrame q0])=some (.next,(SB w os).abs,.body b env,posB))
  (main:∀(w:World)(os:OsState),(segRunT treeTable p w m₀ ann 1 n3 (SB w os) (piecesOf b env (.body b env) posB [topFrame q0])).map (fun r=>
    (PB r.1,staticsOk (importedModules p.main.body) (H₀ w.params) r.2.1.abs.heap && namesBound p r.2.1.abs.heap && gensDone r.2.1.abs && laidKept (H₀ w.params) r.2.1.abs.heap,
     openSeen q loose (importedModules p.main.body) Xt g0 r.2.1.abs,OT r.2.1))=some (true,true,openGood q loose,good))
  (hO:∀S:SharedT,OT S=good→YP S.abs.heap)
  (le:Nat.ble (n1+ (n2+ (n3+2))) N=true):LeftO p q loose Xt (fun s=>YP s.heap) (fun _=>True) N g0:=fun w=>by
 obtain ⟨⟨h,gs,d,k,os⟩,e,e'⟩:=Option.map_eq_some_iff.mp (open_ w)
 obtain ⟨rfl,rfl,rfl,rfl⟩:h=H₀ w.params∧gs=gs₀∧d=d₀∧k=k₀:=by simpa using e'
 obtain ⟨z1,z2,z3⟩:_∧_∧_:=by simpa only [Prod.mk.injEq] using size w
 obtain ⟨⟨f,S,c',p'⟩,hr,hl⟩:=Option.map_eq_some_iff.mp (main w os)
 obtain ⟨l0,l1,l2,l3⟩:_∧_∧_∧_:=by simpa only [Prod.mk.injEq] using hl
 have hf:f= .next:=by cases f <;> first | rfl | cases l0
 subst hf
 have hs:=segRun_of hr
 obtain ⟨a,ha,hN⟩:=seg_top (res:=id) (K':=doneF) (H':=leaveH env) (B:=[topFrame q0]) rfl n3 _ (piecesOf b env (.body b env) posB [topFrame q0])
  ⟨(execs b env).wrap doneF (leaveH env) id id,.body b env,posB,[topFrame q0]⟩ _ _ _ _ ⟨rfl,rfl,.inl ⟨rfl,rfl,_,rfl,rfl⟩⟩ hs
 obtain rfl:a= .next:=ha
 have r:=topRun_mono (N - (n1+ (n2+ (n3+2)))) _ _ _ _ (go_top (pre w os) (piece_block (block w os) (hN 2 _ SE)))
 rw [show n1+ (n2+ (n3+2))+ (N - (n1+ (n2+ (n3+2))))=N by have:=Nat.le_of_ble_eq_true le;omega] at r
 have t:topFrom treeTable p w N ⟨H₀ w.params,gs,d,k,os⟩=some S.abs:=by
  unfold topFrom
  dsimp only
  rw [z1,z2,z3,r]
  show (match staticsOk (importedModules p.main.body) (H₀ w.params) S.abs.heap && namesBound p S.abs.heap && gensDone S.abs && laidKept (H₀ w.params) S.abs.heap with | true=>_ | false=>_)=_
  rw [l1]
 unfold openEnds
 rw [e]
 show (topFrom treeTable p w N _).map _=_
 rw [t]
 exact congrArg some (Prod.ext l2 (eq_true (hO S l3)))
end L2
noncomputable section
namespace Fn
open PySem L2
def top(i:Nat):Stmt:=PySem.Challenge.pw_framenode_s01_answers.main.body.getD i (.Pass ⟨0,0,0,0⟩)
abbrev uH:Stmt:=top 1
abbrev xM:Stmt:=top 2
abbrev EI:Stmt:=top 3
abbrev mM:Stmt:=inClass (top 23) 0
abbrev Em:Stmt:=top 24
abbrev wV:Stmt:=top 25
abbrev wk:Stmt:=top 26
abbrev jW:Stmt:=top 27
abbrev nG:Stmt:=top 28
abbrev jP:Stmt:=top 29
abbrev rk:Stmt:=top 30
abbrev xl:Stmt:=top 31
abbrev kW:Stmt:=top 32
abbrev kX:Stmt:=top 33
abbrev jb:Stmt:=top 34
abbrev Qg:Stmt:=top 35
abbrev qW:Stmt:=top 36
abbrev uu:Stmt:=top 37
abbrev wD:Stmt:=top 38
abbrev kI:Stmt:=top 40
abbrev kL:Stmt:=top 41
abbrev uo:Stmt:=top 42
abbrev jK:Stmt:=top 43
abbrev xo:Stmt:=top 44
abbrev o7:Stmt:=inClass (top 50) 0
abbrev jS:Stmt:=inClass (top 50) 1
abbrev fA:Stmt:=inClass (top 50) 2
abbrev jy:Stmt:=inClass (top 50) 3
abbrev uw:Stmt:=inClass (top 50) 4
abbrev iW:Stmt:=inClass (top 50) 5
abbrev gH:Stmt:=inClass (top 50) 6
abbrev jg:Stmt:=inClass (top 50) 7
abbrev kf:Stmt:=top 52
abbrev ja:Stmt:=top 53
abbrev DQ:Stmt:=top 54
abbrev m6:Stmt:=top 55
abbrev pq:Stmt:=top 56
abbrev Eh:Stmt:=top 57
abbrev tD:Stmt:=top 58
abbrev ux:Stmt:=top 59
abbrev HI:Stmt:=top 60
abbrev ub:Stmt:=top 61
abbrev wM:Stmt:=top 62
abbrev kN:Stmt:=top 63
abbrev DC:Stmt:=top 64
abbrev qD:Stmt:=top 65
abbrev kT:Stmt:=top 74
abbrev xk:Stmt:=top 75
abbrev oN:Stmt:=top 76
abbrev kO:Stmt:=top 77
abbrev jO:Stmt:=top 78
abbrev el:Stmt:=top 79
abbrev pB:Stmt:=top 80
abbrev oM:Stmt:=inClass (top 93) 0
abbrev mE:Stmt:=top 94
abbrev HR:Stmt:=top 95
abbrev AN:Stmt:=top 96
abbrev ID:Stmt:=top 97
abbrev rT:Stmt:=top 98
abbrev uc:Stmt:=top 99
abbrev kR:Stmt:=top 100
abbrev ni:Stmt:=top 101
abbrev ur:Stmt:=top 102
abbrev gI:Stmt:=top 103
abbrev qX:Stmt:=top 104
abbrev ng:Stmt:=top 105
abbrev kM:Stmt:=top 106
abbrev rV:Stmt:=top 107
abbrev t8:Stmt:=top 108
abbrev qd:Stmt:=top 109
abbrev ql:Stmt:=top 111
abbrev mT:Stmt:=top 112
abbrev qZ:Stmt:=top 113
abbrev wA:Stmt:=top 123
abbrev w8:Stmt:=top 124
abbrev AE:Stmt:=top 125
abbrev xu:Stmt:=top 126
abbrev A4:Stmt:=top 127
abbrev DK:Stmt:=top 128
abbrev DY:Stmt:=top 129
abbrev xr:Stmt:=top 130
abbrev wG:Stmt:=top 131
abbrev kK:Stmt:=inClass (top 133) 0
abbrev jE:Stmt:=inClass (top 133) 1
abbrev fw:Stmt:=inClass (top 133) 2
abbrev i9:Stmt:=inClass (top 133) 3
abbrev rJ:Stmt:=top 134
abbrev qp:Stmt:=top 135
abbrev um:Stmt:=top 136
abbrev uD:Stmt:=top 137
abbrev wu:Stmt:=top 138
abbrev xq:Stmt:=top 139
abbrev qQ:Stmt:=top 140
abbrev qV:Stmt:=top 141
abbrev zV:Stmt:=top 143
def We:List Row:=[rD "number_of",rD "row_of",rD "filled",rM "Entry" "__init__" "Entry.__init__",rD "key_of",rD "value_of",rD "entry_at",rD "is_table_index"]
def V5:List Row:=[rD "has_index",rD "is_table_right",rD "lines_of",rD "line_key",rD "is_line_right",rD "table_entries",rD "besides_entries",rD "put"]
def VU:List Row:=[rD "put_coming",rD "put_going",rD "put_list",rD "followed_node",rD "followed_time",rD "take_beat",rD "watch_followed",rD "beat_own"]
def Wb:List Row:=[rM "Node" "__init__" "Node.__init__",rM "Node" "begin_all" "Node.begin_all",rM "Node" "begin_besides" "Node.begin_besides",rM "Node" "count_work" "Node.count_work",rM "Node" "send" "Node.send",rM "Node" "send_fault" "Node.send_fault",rM "Node" "clear_faults" "Node.clear_faults",rM "Node" "tell_fault" "Node.tell_fault"]
def Wd:List Row:=[rD "mapped_keys",rD "mapped_bytes",rD "change",rD "coming_place",rD "take_coming",rD "spread",rD "take_mark",rD "take_kept"]
def VO:List Row:=[rD "is_on",rD "is_marked",rD "send_map",rD "send_due_maps",rD "is_due",rD "is_overdue",rD "why_not_taken",rD "wrong_if"]
def V3:List Row:=[rD "why_not_way",rD "why_not_ident",rD "why_not_listed",rD "why_not_count",rD "is_mappable",rM "Hand" "__init__" "Hand.__init__",rD "take_request",rD "reply"]
def VM:List Row:=[rD "name_of",rD "abort",rD "abort_hand",rD "asked_key",rD "why_not_found",rD "why_not_long",rD "begin_set",rD "why_not_announced"]
def VR:List Row:=[rD "finish_set",rD "set_over_bus",rD "why_not_piece",rD "take_piece",rD "begin_ask",rD "give_piece",rD "take_frame",rD "take_command"]
def VZ:List Row:=[rD "begin_work",rD "cn_begin",rD "cn_frame",rD "cn_tick",rD "end_call",rD "cn_take",rD "cn_get",rD "cn_set"]
def Va:List Row:=[rD "cn_fault",rD "cn_state",rM "Reader" "__init__" "Reader.__init__",rM "Reader" "has_more" "Reader.has_more",rM "Reader" "read_number" "Reader.read_number",rM "Reader" "read_row" "Reader.read_row",rD "read_begin",rD "read_frame"]
def Vn:List Row:=[rD "read_tick",rD "read_take",rD "read_get",rD "read_set",rD "read_fault",rD "read_state",rD "answers"]
def tab:List Row:=We ++ (V5 ++ (VU ++ (Wb ++ (Wd ++ (VO ++ (V3 ++ (VM ++ (VR ++ (VZ ++ (Va ++ (Vn)))))))))))
def WI:List Stmt:=[uH,xM,EI,mM,Em,wV,wk,jW,nG,jP,rk,xl,kW,kX,jb,Qg,qW,uu,wD,kI,kL,uo,jK,xo,o7,jS,fA,jy,uw,iW,gH,jg,kf,ja,DQ,m6,pq,Eh,tD,ux,HI,ub,wM,kN,DC,qD,kT,xk,oN,kO,jO,el,pB,oM,mE,HR,AN,ID,rT,uc,kR,ni,ur,gI,qX,ng,kM,rV,t8,qd,ql,mT,qZ,wA,w8,AE,xu,A4,DK,DY,xr,wG,kK,jE,fw,i9,rJ,qp,um,uD,wu,xq,qQ,qV,zV]
def Vt:List (Str × Int):=[("LINE_BYTES",8),("MOST_LINES",64),("TABLE_FIRST",8192),("TABLE_LAST",40959),("MOST_SUB",255),("MAPS",4),("OFF",2147483648),("IDENT",2047),("WHEN_CHANGED",254),("FAULT_BITS",4097),("MARK",4101),("FAULT_IDENT",4116)]
def Vq:List (Str × Int):=[("FOLLOWED",4118),("HEART",4119),("COMING",5120),("COMING_LIST",5632),("GOING",6144),("GOING_LIST",6656),("BEFORE_WORK",127),("AT_WORK",5),("STOPPED",4),("ROW_FRAMES",32),("TAKEN",0),("WRONG_VALUE",101253168)]
def Vo:List (Str × Int):=[("NOT_NOW",134217762),("NOT_MAPPABLE",100925505),("TOO_MUCH_MAPPED",100925506),("BITS_11_TO_30",2147481600),("BITS_23_TO_31",4286578688),("NO_INDEX",100794368),("NO_SUB",101253137),("NOT_READABLE",100728833),("NOT_WRITABLE",100728834),("TOO_LONG",101122066),("TOO_SHORT",101122067),("NOT_AWAITED",84148225)]
def UY:List (Str × Int):=[("WRONG_TURN",84082688),("TURN",16),("FOUND",0),("PIECE_BYTES",7),("DONE",0),("NONE_THERE",-1),("REFUSED",-2),("MOST_NUMBER",127),("MOST_IDENT",2047),("MOST_BYTES",8),("MOST_CODE",65535),("MOST_BIT",7)]
def nums:List (Str × Int):=Vt ++ (Vq ++ (Vo ++ (UY)))
def UU:List Str:=["len","any","sum","max","min","list","range","reversed"]
def J8:List Str:=["size","readable","writable","mappable","value"]
def Nm:List Str:=["number","table","now","row","entries","state","hand","kept","changed","heard_at","heart_from","marks","work_from","sent_at"]
def Ny:List Str:=["is_set","key","row","turn"]
def Gd:List Str:=["numbers","at"]
def Jx:List (Nat × Str):=[(1,"read_frame"),(2,"read_tick"),(3,"read_take"),(4,"read_get"),(5,"read_set"),(6,"read_fault"),(7,"read_state")]
def sees(g:Addr→Option Obj)(K:PySem.W.Frag):List (Option (FuncData × Bool)) × List Bool:=(tab.map (Cu g K),[clsAt K "Entry" J8,clsAt K "Node" Nm,clsAt K "Hand" Ny,clsAt K "Reader" Gd,dictAt K "CALLS" Jx] ++ nums.map (fun y=>intAt K y.1 y.2) ++ UU.map fun x=>PySem.W.nsIn K mainGlobals x == some none)
def MR:List (Option (FuncData × Bool)) × List Bool:=(List.zipWith Cm tab WI,List.replicate 61 true)
end Fn
noncomputable section
namespace Fn
open PySem PySem.W PySem.Calls PyProof.Rows L2
abbrev pw:Program:=PySem.Challenge.pw_framenode_s01_answers
def qv(p:Program):Program:=view p [143]
def lo(p:Program):List Str:=p.main.scope.names.map (·.1)
def FT(p:Program):Env:={scope:=p.main.scope,locals:=mainNs,globals:=mainNs,cells:=[],code:= .ref 13,frame:=some 14}
def bd(p:Program):List Stmt:=behindTheImports p
def p0:Pos:=⟨0,0,0,0⟩
def SA(p:Program)(w:World)(os:OsState):Shared:=match topGo treeTable p w 11 (some (.ref 6)) 12 ⟨boot_heap w.params,Array.mk [],boot_drawn,boot_toks,os⟩ (topStub p) with
 | some r=>r.1
 | none=>⟨boot_heap w.params,Array.mk [],boot_drawn,boot_toks,os⟩
def SB(p:Program)(w:World)(os:OsState):SharedT:=WB (SA p w os)
def Wk:List Addr:=[3,2,50,49,256,255,418,417,656,655]
def OT(S:SharedT):List (Option (FuncData × Bool)) × List Bool:=sees (gT S) (Ro S Wk)
def YH(h:Heap):Prop:=∃(g:Addr→Option Obj)(K:PySem.W.Frag),JY g K∧K.In h∧sees g K=MR
theorem hO(S:SharedT)(e:OT S=MR):YH S.abs.heap:=⟨_,_,LQ S Wk,PL S Wk,e⟩
def VV(p:Program):DefRec:=(recsOf (qv p)).head?.getD ⟨"answers",vh (top 143),ox (top 143),ar (top 143),p0⟩
def Wa:Shared→Bool:=fun _=>true
theorem Sd:∀w:World,(fencedOpening treeTable pw w 8840).map (fun s=>(s.heap,s.gens,s.drawn,s.toks))=some (boot_heap w.params,Array.mk [],boot_drawn,boot_toks):=boot_open (by kernel_rfl) (by decide +kernel) (fun s=>by kernel_rfl)
theorem RF:∀w:World,((boot_heap w.params).isNs mainGlobals && (Array.mk []:Array GenState).size == 0,(boot_heap w.params).objs.size,(boot_heap w.params).nsMap mainGlobals "__annotations__")= (true,11,some (.ref 6)):=fun w=>by kernel_rfl
theorem TN:∀(w:World)(os:OsState),topGo treeTable pw w 11 (some (.ref 6)) 12 ⟨boot_heap w.params,Array.mk [],boot_drawn,boot_toks,os⟩ (topStub pw)=some (SA pw w os,⟨denote treeTable (.body (bd pw) (FT pw)),.body (bd pw) (FT pw),p0,[topFrame p0]⟩):=fun w os=>by kernel_rfl
theorem QN:∀(w:World)(os:OsState),segRun treeTable pw w 11 (some (.ref 6)) 1 1 (SA pw w os) (blockOf (bd pw) (FT pw) (.body (bd pw) (FT pw)) p0 [topFrame p0])=some (.next,(SB pw w os).abs,.body (bd pw) (FT pw),p0):=fun w os=>by kernel_rfl
def MS(p:Program)(w:World)(os:OsState):=(segRunT treeTable p w 11 (some (.ref 6)) 1 4358 (SB p w os) (piecesOf (bd p) (FT p) (.body (bd p) (FT p)) p0 [topFrame p0])).map (fun r=>
    (PB r.1,staticsOk (importedModules p.main.body) (boot_heap w.params) r.2.1.abs.heap && namesBound p r.2.1.abs.heap && gensDone r.2.1.abs && laidKept (boot_heap w.params) r.2.1.abs.heap,
     openSeen (qv p) (lo p) (importedModules p.main.body) Wa true r.2.1.abs,OT r.2.1))
theorem Tz:MS=MS:=rfl
def MT:=some (true,true,openGood (qv pw) (lo pw),MR)
name_quick mainQ for MS by Tz
set_option maxHeartbeats 0 in
theorem Vd(w:World)(os:OsState):PySem.W.Fast.mainQ pw (w.withFollow "special-get-raises" false) os=MT:=by kernel_rfl
set_option maxHeartbeats 0 in
theorem Vg(w:World)(os:OsState):PySem.W.Fast.mainQ pw (w.withFollow "special-get-raises" true) os=MT:=by kernel_rfl
theorem Sa(w:World)(os:OsState):MS pw w os=MT:=by
 rw [PySem.W.Fast.mainQ_eq]
 exact byRow2 "special-get-raises" (P:=fun w=>PySem.W.Fast.mainQ pw w os=MT) (fun w=>Vd w os) (fun w=>Vg w os) w
theorem RS:LeftO pw (qv pw) (lo pw) Wa (fun s=>YH s.heap) (fun _=>True) 8840:=Pn Sd RF TN QN Sa hO (by decide +kernel)
end Fn
namespace Fn
abbrev ft(b:List Nat):Prop:=∀x,x ∈ b→x < 256
def sh(e:Sa32.Ent):Nat × Nat × Bool × Bool × Bool × Nat:=(e.index,e.sub,e.r,e.w,e.m,e.val.length)
theorem RN:Sa32.num [] = 0:=rfl
theorem mZ(c:Nat)(b:List Nat):Sa32.num (c::b)=c+256 * Sa32.num b:=rfl
theorem Au:∀{b:List Nat},ft b→Sa32.num b < 256 ^ b.length
 | [],_=>by decide
 | c::b,h=>by
  have h1:=Au (b:=b) fun x hx=>h x (List.mem_cons_of_mem _ hx)
  have h2:=h c List.mem_cons_self
  rw [mZ,List.length_cons,Nat.pow_succ]
  omega
theorem IC:∀{b c:List Nat},ft b→ft c→b.length=c.length→Sa32.num b=Sa32.num c→b=c
 | [],[],_,_,_,_=>rfl
 | [],_::_,_,_,l,_=>by simp at l
 | _::_,[],_,_,l,_=>by simp at l
 | x::b,y::c,h1,h2,l,e=>by
  rw [mZ,mZ] at e
  have hx:=h1 x List.mem_cons_self
  have hy:=h2 y List.mem_cons_self
  have e1:x=y:=by omega
  have e2:Sa32.num b=Sa32.num c:=by omega
  rw [e1,IC (fun z hz=>h1 z (List.mem_cons_of_mem _ hz)) (fun z hz=>h2 z (List.mem_cons_of_mem _ hz)) (by simpa using l) e2]
theorem le_succ(n x:Nat):Sa32.le (n+1) x=x % 256::Sa32.le n (x / 256):=by
 unfold Sa32.le
 rw [List.range_succ_eq_map,List.map_cons,List.map_map]
 congr 1
 ·simp
 ·refine List.map_congr_left fun i _=>?_
  show x / 256 ^ (i+1) % 256=x / 256 / 256 ^ i % 256
  rw [Nat.pow_succ,Nat.mul_comm,Nat.div_div_eq_div_mul]
theorem bG(n x:Nat):(Sa32.le n x).length=n:=by simp [Sa32.le]
theorem qk(n x:Nat):ft (Sa32.le n x):=by
 intro y hy
 obtain ⟨i,_,rfl⟩:=List.mem_map.mp hy
 exact Nat.mod_lt _ (by decide)
theorem Hk:∀(n x:Nat),Sa32.num (Sa32.le n x)=x % 256 ^ n
 | 0,x=>by
  show 0=x % 256 ^ 0
  rw [Nat.pow_zero,Nat.mod_one]
 | n+1,x=>by
  rw [le_succ,mZ,Hk n,Nat.pow_succ,Nat.mul_comm (256 ^ n),Nat.mod_mul]
theorem Mu{b:List Nat}(h:ft b):Sa32.le b.length (Sa32.num b)=b:=by
 refine IC (qk _ _) h (bG _ _) ?_
 rw [Hk,Nat.mod_eq_of_lt (Au h)]
theorem OS(n:Nat):Sa32.num (Sa32.zeros n)=0:=by
 induction n with
 | zero=>rfl
 | succ n ih=>
  show Sa32.num (0::Sa32.zeros n)=0
  rw [mZ,ih]
theorem uM(n:Nat):ft (Sa32.zeros n):=by
 intro x hx
 rw [List.eq_of_mem_replicate hx]
 decide
abbrev at_(i u:Nat):Sa32.Ent→Bool:=fun e=>e.index == i && e.sub == u
theorem sY{i u:Nat}{e:Sa32.Ent}:at_ i u e=true↔e.index=i∧e.sub=u:=by simp [at_]
theorem Ri(l:List Sa32.Ent)(i u:Nat)(b:List Nat)(i' u':Nat):
  (Sa32.put l i u b).find? (at_ i' u')=if i'=i∧u'=u then (l.find? (at_ i u)).map (fun e=>{e with val:=b}) else l.find? (at_ i' u'):=by
 induction l with
 | nil=>simp [Sa32.put]
 | cons e r ih=>
  have ih':List.find? (at_ i' u') (List.map (fun e=>if e.index=i∧e.sub=u then {e with val:=b} else e) r)=_:=ih
  show List.find? (at_ i' u') ((if e.index=i∧e.sub=u then {e with val:=b} else e)::List.map _ r)=_
  by_cases h:e.index=i∧e.sub=u
  ·rw [if_pos h]
   by_cases h2:i'=i∧u'=u
   ·rw [if_pos h2,List.find?_cons_of_pos (by simp [at_,h,h2]),List.find?_cons_of_pos (by simp [at_,h])]
    rfl
   ·rw [if_neg h2] at ih' ⊢
    rw [List.find?_cons_of_neg (by simp [at_,h];omega),List.find?_cons_of_neg (by simp [at_,h];omega),ih']
  ·rw [if_neg h]
   by_cases h2:i'=i∧u'=u
   ·obtain ⟨rfl,rfl⟩:=h2
    rw [if_pos ⟨rfl,rfl⟩] at ih' ⊢
    rw [List.find?_cons_of_neg (by simpa [at_] using h),List.find?_cons_of_neg (by simpa [at_] using h),ih']
   ·rw [if_neg h2] at ih' ⊢
    by_cases h3:e.index=i'∧e.sub=u'
    ·rw [List.find?_cons_of_pos (by simpa [at_] using h3),List.find?_cons_of_pos (by simpa [at_] using h3)]
    ·rw [List.find?_cons_of_neg (by simpa [at_] using h3),List.find?_cons_of_neg (by simpa [at_] using h3),ih']
theorem qR(l m:List Sa32.Ent)(i u:Nat)(b:List Nat):Sa32.put (l ++ m) i u b=Sa32.put l i u b ++ Sa32.put m i u b:=List.map_append
theorem yG(s:Sa32.St)(i u:Nat):s.ent i u= (s.table ++ s.own).find? (at_ i u):=rfl
theorem eT(s:Sa32.St)(i u:Nat)(b:List Nat)(i' u':Nat):
  (s.put i u b).ent i' u'=if i'=i∧u'=u then (s.ent i u).map (fun e=>{e with val:=b}) else s.ent i' u':=by
 unfold Sa32.St.put
 by_cases h:s.val i u=b
 ·rw [if_pos h]
  by_cases h2:i'=i∧u'=u
  ·obtain ⟨rfl,rfl⟩:=h2
   rw [if_pos ⟨rfl,rfl⟩]
   unfold Sa32.St.val at h
   cases e:s.ent i' u' with
   | none=>rfl
   | some x=>
    rw [e] at h
    have h:x.val=b:=h
    rw [←h]
    rfl
  ·rw [if_neg h2]
 ·rw [if_neg h]
  show (Sa32.put s.table i u b ++ Sa32.put s.own i u b).find? (at_ i' u')=_
  rw [←qR,Ri]
  rfl
theorem Uj(l:List Sa32.Ent)(i u:Nat)(b:List Nat)(h:∀e ∈ l,e.index=i∧e.sub=u→e.val.length=b.length):(Sa32.put l i u b).map sh=l.map sh:=by
 unfold Sa32.put
 rw [List.map_map]
 refine List.map_congr_left fun e he=>?_
 show sh (if e.index=i∧e.sub=u then {e with val:=b} else e)=sh e
 by_cases q:e.index=i∧e.sub=u
 ·rw [if_pos q]
  show (e.index,e.sub,e.r,e.w,e.m,b.length)= (e.index,e.sub,e.r,e.w,e.m,e.val.length)
  rw [h e he q]
 ·rw [if_neg q]
theorem Nv{p:Sa32.Ent→Bool}(hp:∀a b,sh a=sh b→p a=p b):∀{l m:List Sa32.Ent},l.map sh=m.map sh→(l.find? p).map sh= (m.find? p).map sh
 | [],[],_=>rfl
 | [],_::_,h=>by simp at h
 | _::_,[],h=>by simp at h
 | a::l,b::m,h=>by
  rw [List.map_cons,List.map_cons] at h
  injection h with h1 h2
  have e:=hp a b h1
  cases q:p a with
  | true=>rw [List.find?_cons_of_pos q,List.find?_cons_of_pos (e ▸ q)];exact congrArg some h1
  | false=>rw [List.find?_cons_of_neg (by simp [q]),List.find?_cons_of_neg (by simp [←e,q])];exact Nv hp h2
theorem Vk(i u:Nat)(a b:Sa32.Ent)(h:sh a=sh b):at_ i u a=at_ i u b:=by
 unfold sh at h
 injection h with h1 h2
 injection h2 with h2 _
 simp [at_,h1,h2]
end Fn
namespace Fn
open Sa32 (besides OFF)
theorem jN{s:Sa32.St}{i u i' u':Nat}{b:List Nat}(h:¬(i'=i∧u'=u)):(s.put i u b).num i' u'=s.num i' u':=by
 unfold Sa32.St.num
 rw [eT,if_neg h]
theorem Ef{s:Sa32.St}{i u i' u':Nat}{b:List Nat}(h:¬(i'=i∧u'=u)):(s.put i u b).val i' u'=s.val i' u':=by
 unfold Sa32.St.val
 rw [eT,if_neg h]
theorem wH{s:Sa32.St}{i u:Nat}{b:List Nat}{e:Sa32.Ent}(h:s.ent i u=some e):(s.put i u b).num i u=Sa32.num b:=by
 unfold Sa32.St.num
 rw [eT,if_pos ⟨rfl,rfl⟩,h]
 rfl
theorem CI{s:Sa32.St}{i u:Nat}{b:List Nat}{e:Sa32.Ent}(h:s.ent i u=some e):(s.put i u b).val i u=b:=by
 unfold Sa32.St.val
 rw [eT,if_pos ⟨rfl,rfl⟩,h]
 rfl
theorem xc{s:Sa32.St}{i u:Nat}{e:Sa32.Ent}(h:s.ent i u=some e):s.num i u=Sa32.num e.val:=by
 unfold Sa32.St.num
 rw [h]
theorem fC{s:Sa32.St}{i u:Nat}{e:Sa32.Ent}(h:s.ent i u=some e):s.val i u=e.val:=by
 unfold Sa32.St.val
 rw [h]
theorem bo{s:Sa32.St}{i u:Nat}{e:Sa32.Ent}(h:s.ent i u=some e):e ∈ s.table ++ s.own∧e.index=i∧e.sub=u:=
 ⟨List.mem_of_find?_eq_some h,sY.mp (List.find?_some (p:=at_ i u) h)⟩
theorem Kv(s:Sa32.St)(i u b):(s.put i u b).node=s.node:=by unfold Sa32.St.put;split <;> rfl
theorem GN(s:Sa32.St)(i u b):(s.put i u b).state=s.state:=by unfold Sa32.St.put;split <;> rfl
theorem Sb(s:Sa32.St)(i u b):(s.put i u b).now=s.now:=by unfold Sa32.St.put;split <;> rfl
theorem Rg(s:Sa32.St)(i u b):(s.put i u b).hand=s.hand:=by unfold Sa32.St.put;split <;> rfl
theorem NM(s:Sa32.St)(i u b):(s.put i u b).out=s.out:=by unfold Sa32.St.put;split <;> rfl
theorem Jy(s:Sa32.St)(i u b):(s.put i u b).kept=s.kept:=by unfold Sa32.St.put;split <;> rfl
theorem vc(s:Sa32.St)(i u b):(s.put i u b).heard=s.heard:=by unfold Sa32.St.put;split <;> rfl
theorem vX(s:Sa32.St)(i u b):(s.put i u b).going.length=s.going.length:=by
 unfold Sa32.St.put
 split
 ·rfl
 ·simp
theorem eN{s:Sa32.St}{i u:Nat}{b:List Nat}(h:s.val i u=b):s.put i u b=s:=by unfold Sa32.St.put;rw [if_pos h]
theorem F4{s:Sa32.St}{i u:Nat}{b:List Nat}(h:¬s.val i u=b):(s.put i u b).table=Sa32.put s.table i u b∧(s.put i u b).own=Sa32.put s.own i u b:=by
 unfold Sa32.St.put
 rw [if_neg h]
 exact ⟨rfl,rfl⟩
structure pW(s:Sa32.St)(b:Nat):Prop where
 Ll:s.num b 0≤8
 nz:∀j,j < s.num b 0→s.num b (j+1) ≠ 0
 line:∀j,j < 8→s.num b (j+1)=0∨∃e,s.ent (s.num b (j+1) / 65536) (s.num b (j+1) / 256 % 256)=some e∧e.m=true∧8 * e.val.length=s.num b (j+1) % 256
 sum:((List.range (s.num b 0)).map fun j=>s.num b (j+1) % 256).sum≤64
def jL(s:Sa32.St):Prop:=match s.hand with
 | .none=>True
 | .down i u got _=>i < 65536∧u < 256∧ft got∧∃e,s.ent i u=some e∧e.w=true∧got.length≤e.val.length
 | .up i u left _=>i < 65536∧u < 256∧ft left∧left.length≤8
def pl(e:Sa32.Ent):Nat × Nat:=(e.index,e.sub)
structure WF(s:Sa32.St):Prop where
 node:1≤s.node∧s.node≤127
 own:s.own.map sh= (besides s.node).map sh
 tab:∀e,e ∈ s.table→0x2000≤e.index∧e.index≤0x9FFF∧e.sub < 256∧(e.val.length=1∨e.val.length=2∨e.val.length=4∨e.val.length=8)
 nd:((s.table ++ s.own).map pl).Nodup
 vq:∀e,e ∈ s.table ++ s.own→ft e.val
 mark:s.num 0x1005 0≤0x7FF
 Pb:∀u,u=1∨u=2→s.num 0x1016 u < 2 ^ 23
 Pd:∀k,k < 4→s.num (0x1400+k) 1 < OFF→0x181≤s.num (0x1400+k) 1∧s.num (0x1400+k) 1≤0x57F
 NY:∀k,k < 4→∀b,b=0x1400∨b=0x1800→s.num (b+k) 2≤0xF0∨0xFE≤s.num (b+k) 2
 maps:∀k,k < 4→∀b,b=0x1600∨b=0x1A00→pW s (b+k)
 going:s.going.length=4
 kept:s.kept.length=4
 qb:∀b,some b ∈ s.kept→ft b∧b.length≤8
 heard:s.heard.length=2
 mU:∀k,k < 2→∀x,s.heard.getD k none=some x→s.num 0x1016 (k+1) / 65536 ≠ 0∧s.num 0x1016 (k+1) % 65536 ≠ 0
 out:s.out.length≤32
 AJ:∀f,f ∈ s.out→ft f.2∧f.2.length≤8
 hand:jL s
 state:s.state=5∨s.state=4∨s.state=127
theorem WF.P7{s:Sa32.St}(w:WF s){i u:Nat}(h:i < 0x2000):s.table.find? (at_ i u)=none:=by
 rw [List.find?_eq_none]
 intro e he z
 have:=(w.tab e he).1
 have:=(sY.mp z).1
 omega
theorem WF.Ji{s:Sa32.St}(w:WF s){i u:Nat}{e0:Sa32.Ent}(hi:i < 0x2000)(h:(besides s.node).find? (at_ i u)=some e0):∃e,s.ent i u=some e∧sh e=sh e0:=by
 have q:=Nv (Vk i u) w.own
 rw [h] at q
 rw [yG,List.find?_append,w.P7 hi,Option.none_or]
 cases z:s.own.find? (at_ i u) with
 | none=>rw [z] at q;cases q
 | some e=>rw [z] at q;exact ⟨e,rfl,Option.some.inj q⟩
theorem SJ{k:Nat}(h:k < 4):k=0∨k=1∨k=2∨k=3:=by omega
theorem WC{k:Nat}(h:k < 8):k=0∨k=1∨k=2∨k=3∨k=4∨k=5∨k=6∨k=7:=by omega
def oE(i u:Nat)(w:Bool)(k v:Nat):Sa32.Ent:={index:=i,sub:=u,r:=true,w:=w,m:=false,val:=Sa32.le k v}
theorem D3(n:Nat):(besides n).find? (at_ 0x1001 0)=some (oE 0x1001 0 false 1 0):=rfl
theorem KR(n:Nat):(besides n).find? (at_ 0x1005 0)=some (oE 0x1005 0 true 4 0x80):=rfl
theorem P5(n:Nat):(besides n).find? (at_ 0x1014 0)=some (oE 0x1014 0 true 4 (0x80+n)):=rfl
theorem Lj(n:Nat){u:Nat}(h:u=1∨u=2):(besides n).find? (at_ 0x1016 u)=some (oE 0x1016 u true 4 0):=by
 rcases h with rfl | rfl <;> rfl
theorem Q9(n:Nat):(besides n).find? (at_ 0x1017 0)=some (oE 0x1017 0 true 2 0):=rfl
theorem QA(n:Nat){k:Nat}(h:k < 4):(besides n).find? (at_ (0x1400+k) 1)=some (oE (0x1400+k) 1 true 4 (OFF+0x200+0x100 * k+n)):=by
 rcases SJ h with rfl | rfl | rfl | rfl <;> rfl
theorem PR(n:Nat){k:Nat}(h:k < 4):(besides n).find? (at_ (0x1400+k) 2)=some (oE (0x1400+k) 2 true 1 0xFF):=by
 rcases SJ h with rfl | rfl | rfl | rfl <;> rfl
theorem T9(n:Nat){k:Nat}(h:k < 4):(besides n).find? (at_ (0x1800+k) 1)=some (oE (0x1800+k) 1 true 4 (OFF+0x180+0x100 * k+n)):=by
 rcases SJ h with rfl | rfl | rfl | rfl <;> rfl
theorem Rr(n:Nat){k:Nat}(h:k < 4):(besides n).find? (at_ (0x1800+k) 2)=some (oE (0x1800+k) 2 true 1 0xFF):=by
 rcases SJ h with rfl | rfl | rfl | rfl <;> rfl
theorem Tt(n:Nat){k:Nat}(h:k < 4):(besides n).find? (at_ (0x1800+k) 3)=some (oE (0x1800+k) 3 true 2 0):=by
 rcases SJ h with rfl | rfl | rfl | rfl <;> rfl
theorem Tr(n:Nat){k:Nat}(h:k < 4):(besides n).find? (at_ (0x1800+k) 5)=some (oE (0x1800+k) 5 true 2 0):=by
 rcases SJ h with rfl | rfl | rfl | rfl <;> rfl
theorem QL(n:Nat){k b:Nat}(h:k < 4)(hb:b=0x1600∨b=0x1A00):(besides n).find? (at_ (b+k) 0)=some (oE (b+k) 0 true 1 0):=by
 rcases hb with rfl | rfl <;> rcases SJ h with rfl | rfl | rfl | rfl <;> rfl
theorem Pk(n:Nat){k b j:Nat}(h:k < 4)(hb:b=0x1600∨b=0x1A00)(hj:j < 8):(besides n).find? (at_ (b+k) (j+1))=some (oE (b+k) (j+1) true 4 0):=by
 rcases hb with rfl | rfl <;> rcases SJ h with rfl | rfl | rfl | rfl <;> rcases WC hj with rfl | rfl | rfl | rfl | rfl | rfl | rfl | rfl <;> rfl
theorem dN(n:Nat):∀e,e ∈ besides n→0x1000≤e.index∧e.index < 0x1A04∧e.sub≤8∧e.r=true∧e.m=false∧(e.val.length=1∨e.val.length=2∨e.val.length=4)∧ft e.val:=by
 intro e he
 have key:∀i u w k v,0x1000≤i→i < 0x1A04→u≤8→(k=1∨k=2∨k=4)→e=oE i u w k v→0x1000≤e.index∧e.index < 0x1A04∧e.sub≤8∧e.r=true∧e.m=false∧(e.val.length=1∨e.val.length=2∨e.val.length=4)∧ft e.val:=by
  intro i u w k v h1 h2 h3 h4 z
  subst z
  refine ⟨h1,h2,h3,rfl,rfl,?_,qk _ _⟩
  have q:(oE i u w k v).val.length=k:=bG k v
  rw [q]
  exact h4
 unfold besides at he
 simp only [List.mem_append,List.mem_flatMap,List.mem_range,List.mem_cons,List.mem_map,List.not_mem_nil,or_false] at he
 rcases he with (((he | ⟨k,hk,he⟩) | ⟨k,hk,he⟩) | ⟨k,hk,he⟩) | ⟨k,hk,he⟩
 ·rcases he with he | he | he | he | he | he | he | he <;> exact key _ _ _ _ _ (by decide) (by decide) (by decide) (by decide) he
 ·rcases he with he | he | he <;> exact key _ _ _ _ _ (by omega) (by omega) (by decide) (by decide) he
 ·rcases he with he | ⟨j,hj,he⟩
  ·exact key _ _ _ _ _ (by omega) (by omega) (by decide) (by decide) he
  ·exact key _ _ _ _ _ (by omega) (by omega) (by omega) (by decide) he.symm
 ·rcases he with he | he | he | he | he <;> exact key _ _ _ _ _ (by omega) (by omega) (by decide) (by decide) he
 ·rcases he with he | ⟨j,hj,he⟩
  ·exact key _ _ _ _ _ (by omega) (by omega) (by decide) (by decide) he
  ·exact key _ _ _ _ _ (by omega) (by omega) (by omega) (by decide) he.symm
theorem zK{l m:List Sa32.Ent}(h:l.map sh=m.map sh){e:Sa32.Ent}(he:e ∈ l):∃e0,e0 ∈ m∧sh e0=sh e:=by
 have:sh e ∈ m.map sh:=h ▸ List.mem_map.mpr ⟨e,he,rfl⟩
 obtain ⟨e0,h1,h2⟩:=List.mem_map.mp this
 exact ⟨e0,h1,h2⟩
theorem tf{a b:Sa32.Ent}(h:sh a=sh b):a.index=b.index∧a.sub=b.sub∧a.r=b.r∧a.w=b.w∧a.m=b.m∧a.val.length=b.val.length:=by
 unfold sh at h
 simpa using h
theorem WF.bounds{s:Sa32.St}(w:WF s){e:Sa32.Ent}(h:e ∈ s.table ++ s.own):
  0x1000≤e.index∧e.index≤0x9FFF∧e.sub < 256∧(e.val.length=1∨e.val.length=2∨e.val.length=4∨e.val.length=8)∧ft e.val∧(e.m=true→0x2000≤e.index):=by
 have hb:=w.vq e h
 rcases List.mem_append.mp h with h | h
 ·obtain ⟨h1,h2,h3,h4⟩:=w.tab e h
  exact ⟨by omega,h2,h3,h4,hb,fun _=>h1⟩
 ·obtain ⟨e0,h0,q⟩:=zK w.own h
  obtain ⟨a1,a2,a3,a4,a5,a6,_⟩:=dN s.node e0 h0
  obtain ⟨b1,b2,b3,b4,b5,b6⟩:=tf q
  refine ⟨by omega,by omega,by omega,by omega,hb,fun z=>?_⟩
  rw [←b5,a5] at z
  cases z
def Ag(s:Sa32.St)(i u n:Nat):Prop:=∀e,e ∈ s.table ++ s.own→e.index=i∧e.sub=u→e.val.length=n
theorem pW.put{s:Sa32.St}{b i u:Nat}{v:List Nat}(m:pW s b)(hs:Ag s i u v.length)(hb:b ≠ i):pW (s.put i u v) b:=by
 have e0:∀j,(s.put i u v).num b j=s.num b j:=fun j=>jN fun z=>hb z.1
 refine ⟨by rw [e0];exact m.Ll,fun j hj=>?_,fun j hj=>?_,?_⟩
 ·rw [e0] at hj ⊢
  exact m.nz j hj
 ·rw [e0]
  rcases m.line j hj with h0 | ⟨e,h1,h2,h3⟩
  ·exact .inl h0
  refine .inr ?_
  rw [eT]
  by_cases q:s.num b (j+1) / 65536=i∧s.num b (j+1) / 256 % 256=u
  ·rw [if_pos q]
   obtain ⟨q1,q2⟩:=q
   rw [q1,q2] at h1
   have:=hs e (bo h1).1 (bo h1).2
   refine ⟨{e with val:=v},by rw [h1];rfl,h2,?_⟩
   show 8 * v.length=_
   rw [←this]
   exact h3
  ·rw [if_neg q]
   exact ⟨e,h1,h2,h3⟩
 ·rw [e0]
  have e1:((List.range (s.num b 0)).map fun j=>(s.put i u v).num b (j+1) % 256)= (List.range (s.num b 0)).map fun j=>s.num b (j+1) % 256:=List.map_congr_left fun j _=>by rw [e0]
  rw [e1]
  exact m.sum
structure lg(s:Sa32.St)(i u:Nat)(v:List Nat):Prop where
 vq:ft v
 size:Ag s i u v.length
 mark:i=0x1005→Sa32.num v≤0x7FF
 Pb:i=0x1016→Sa32.num v < 2 ^ 23
 Wt:i=0x1016→∀k,u=k+1→s.heard.getD k none=none
 Pd:∀k,k < 4→i=0x1400+k→u=1→Sa32.num v < OFF→0x181≤Sa32.num v∧Sa32.num v≤0x57F
 NY:∀k,k < 4→i=0x1400+k∨i=0x1800+k→u=2→Sa32.num v≤0xF0∨0xFE≤Sa32.num v
 maps:∀k,k < 4→∀b,b=0x1600∨b=0x1A00→i=b+k→pW (s.put i u v) (b+k)
theorem zc{s:Sa32.St}{i u:Nat}{v:List Nat}(i' u':Nat):(s.put i u v).num i' u'=s.num i' u'∨(i'=i∧u'=u∧(s.put i u v).num i' u'=Sa32.num v):=by
 by_cases h:i'=i∧u'=u
 ·obtain ⟨rfl,rfl⟩:=h
  cases e:s.ent i' u' with
  | none=>
   refine .inl ?_
   unfold Sa32.St.num
   rw [eT,if_pos ⟨rfl,rfl⟩,e]
   rfl
  | some x=>exact .inr ⟨rfl,rfl,wH e⟩
 ·exact .inl (jN h)
theorem Sz{s:Sa32.St}{i u:Nat}{v:List Nat}{e:Sa32.Ent}(h:e ∈ (s.put i u v).table ++ (s.put i u v).own):∃e0,e0 ∈ s.table ++ s.own∧(e=e0∨(e0.index=i∧e0.sub=u∧e= {e0 with val:=v})):=by
 by_cases q:s.val i u=v
 ·rw [eN q] at h
  exact ⟨e,h,.inl rfl⟩
 ·obtain ⟨q1,q2⟩:=F4 q
  rw [q1,q2,←qR] at h
  obtain ⟨e0,h0,rfl⟩:=List.mem_map.mp h
  refine ⟨e0,h0,?_⟩
  by_cases z:e0.index=i∧e0.sub=u
  ·rw [if_pos z];exact .inr ⟨z.1,z.2,rfl⟩
  ·rw [if_neg z];exact .inl rfl
theorem TY(l:List Sa32.Ent)(i u:Nat)(b:List Nat):(Sa32.put l i u b).map pl=l.map pl:=by
 unfold Sa32.put
 rw [List.map_map]
 refine List.map_congr_left fun e _=>?_
 show pl (if e.index=i∧e.sub=u then {e with val:=b} else e)=pl e
 split <;> rfl
theorem Gu{α β:Type}{f:α→β}:∀{l:List α},(l.map f).Nodup→∀a b,a ∈ l→b ∈ l→f a=f b→a=b
 | [],_,a,_,h,_,_=>nomatch h
 | x::r,nd,a,b,ha,hb,e=>by
  rw [List.map_cons,List.nodup_cons] at nd
  rcases List.mem_cons.mp ha with z1 | z1 <;> rcases List.mem_cons.mp hb with z2 | z2
  ·rw [z1,z2]
  ·exact absurd (List.mem_map.mpr ⟨b,z2,by rw [←e,z1]⟩) nd.1
  ·exact absurd (List.mem_map.mpr ⟨a,z1,by rw [e,z2]⟩) nd.1
  ·exact Gu nd.2 a b z1 z2 e
theorem WF.uniq{s:Sa32.St}(w:WF s){a b:Sa32.Ent}(ha:a ∈ s.table ++ s.own)(hb:b ∈ s.table ++ s.own)(h1:a.index=b.index)(h2:a.sub=b.sub):a=b:=
 Gu w.nd a b ha hb (by unfold pl;rw [h1,h2])
theorem WF.mS{s:Sa32.St}(w:WF s){i u:Nat}{e:Sa32.Ent}(h:s.ent i u=some e):Ag s i u e.val.length:=fun x hx ⟨z1,z2⟩=>by
 obtain ⟨h1,h2,h3⟩:=bo h
 rw [w.uniq hx h1 (by rw [z1,h2]) (by rw [z2,h3])]
theorem WF.S5{s:Sa32.St}(w:WF s){e:Sa32.Ent}(h:e ∈ s.table ++ s.own):s.ent e.index e.sub=some e:=by
 cases q:s.ent e.index e.sub with
 | none=>
  rw [yG,List.find?_eq_none] at q
  exact absurd (sY.mpr ⟨rfl,rfl⟩) (q e h)
 | some x=>
  obtain ⟨h1,h2,h3⟩:=bo q
  rw [w.uniq h1 h h2 h3]
theorem WF.put{s:Sa32.St}(w:WF s){i u:Nat}{v:List Nat}(p:lg s i u v):WF (s.put i u v):=by
 by_cases q:s.val i u=v
 ·rw [eN q];exact w
 obtain ⟨q1,q2⟩:=F4 q
 refine ⟨by rw [Kv];exact w.node,?_,fun e he=>?_,?_,fun e he=>?_,?_,fun u' hu=>?_,fun k hk h=>?_,fun k hk b hb=>?_,fun k hk b hb=>?_,
  by rw [vX];exact w.going,by rw [Jy];exact w.kept,by rw [Jy];exact w.qb,by rw [vc];exact w.heard,fun k hk x hx=>?_,
  by rw [NM];exact w.out,by rw [NM];exact w.AJ,?_,by rw [GN];exact w.state⟩
 ·rw [q2,Kv,Uj _ _ _ _ fun e he z=>p.size e (List.mem_append_right _ he) z]
  exact w.own
 ·rw [q1] at he
  obtain ⟨e0,h0,rfl⟩:=List.mem_map.mp he
  have h1:=w.tab e0 h0
  by_cases z:e0.index=i∧e0.sub=u
  ·have h2:=p.size e0 (List.mem_append_left _ h0) z
   rw [if_pos z]
   refine ⟨h1.1,h1.2.1,h1.2.2.1,?_⟩
   show v.length=1∨v.length=2∨v.length=4∨v.length=8
   rw [←h2]
   exact h1.2.2.2
  ·rw [if_neg z];exact h1
 ·rw [q1,q2,←qR,TY]
  exact w.nd
 ·obtain ⟨e0,h0,rfl | ⟨_,_,rfl⟩⟩:=Sz he
  ·exact w.vq _ h0
  ·exact p.vq
 ·rcases zc (s:=s) (i:=i) (u:=u) (v:=v) 0x1005 0 with z | ⟨z1,z2,z⟩
  ·rw [z];exact w.mark
  ·rw [z];exact p.mark z1.symm
 ·rcases zc (s:=s) (i:=i) (u:=u) (v:=v) 0x1016 u' with z | ⟨z1,z2,z⟩
  ·rw [z];exact w.Pb u' hu
  ·rw [z];exact p.Pb z1.symm
 ·rcases zc (s:=s) (i:=i) (u:=u) (v:=v) (0x1400+k) 1 with z | ⟨z1,z2,z⟩
  ·rw [z] at h ⊢;exact w.Pd k hk h
  ·rw [z] at h ⊢;exact p.Pd k hk z1.symm z2.symm h
 ·rcases zc (s:=s) (i:=i) (u:=u) (v:=v) (b+k) 2 with z | ⟨z1,z2,z⟩
  ·rw [z];exact w.NY k hk b hb
  ·rw [z];exact p.NY k hk (by rcases hb with rfl | rfl;exact .inl z1.symm;exact .inr z1.symm) z2.symm
 ·by_cases z:b+k=i
  ·exact p.maps k hk b hb z.symm
  ·exact (w.maps k hk b hb).put p.size z
 ·rw [vc] at hx
  rcases zc (s:=s) (i:=i) (u:=u) (v:=v) 0x1016 (k+1) with z | ⟨z1,z2,z⟩
  ·rw [z];exact w.mU k hk x hx
  ·rw [p.Wt z1.symm k z2.symm] at hx;cases hx
 ·unfold jL
  rw [Rg]
  have h:=w.hand
  unfold jL at h
  cases e:s.hand with
  | none=>trivial
  | up i' u' l b=>rw [e] at h;exact h
  | down i' u' g b=>
   rw [e] at h
   obtain ⟨h1,h2,h3,x,h4,h5,h6⟩:=h
   refine ⟨h1,h2,h3,?_⟩
   rw [eT]
   by_cases z:i'=i∧u'=u
   ·obtain ⟨rfl,rfl⟩:=z
    rw [if_pos ⟨rfl,rfl⟩,h4]
    refine ⟨_,rfl,h5,?_⟩
    show g.length≤v.length
    rw [←p.size x (bo h4).1 (bo h4).2]
    exact h6
   ·rw [if_neg z]
    exact ⟨x,h4,h5,h6⟩
theorem lg.free{s:Sa32.St}{i u:Nat}{v:List Nat}(hb:ft v)(hs:Ag s i u v.length)(h:0x2000≤i∨i=0x1001∨i=0x1017∨i=0x1014):lg s i u v:=
 ⟨hb,hs,fun z=>by omega,fun z=>by omega,fun z=>by omega,fun k hk z=>by omega,fun k hk z=>by omega,fun k hk b hb z=>by omega⟩
section
variable{s:Sa32.St}(w:WF s)
include w
theorem WF.pK{h:Sa32.Hand}(hh:jL {s with hand:=h}):WF {s with hand:=h}:=
 ⟨w.node,w.own,w.tab,w.nd,w.vq,w.mark,w.Pb,w.Pd,w.NY,fun k hk b hb=>let m:=w.maps k hk b hb;⟨m.Ll,m.nz,m.line,m.sum⟩,w.going,w.kept,w.qb,w.heard,w.mU,w.out,w.AJ,hh,w.state⟩
theorem WF.eR:WF {s with hand:= .none}:=w.pK trivial
theorem WF.qU{g:List Sa32.Going}(hg:g.length=4):WF {s with going:=g}:=
 ⟨w.node,w.own,w.tab,w.nd,w.vq,w.mark,w.Pb,w.Pd,w.NY,fun k hk b hb=>let m:=w.maps k hk b hb;⟨m.Ll,m.nz,m.line,m.sum⟩,hg,w.kept,w.qb,w.heard,w.mU,w.out,w.AJ,w.hand,w.state⟩
theorem WF.Gm{g:List (Option (List Nat))}(hg:g.length=4)(hb:∀b,some b ∈ g→ft b∧b.length≤8):WF {s with kept:=g}:=
 ⟨w.node,w.own,w.tab,w.nd,w.vq,w.mark,w.Pb,w.Pd,w.NY,fun k hk b hb=>let m:=w.maps k hk b hb;⟨m.Ll,m.nz,m.line,m.sum⟩,w.going,hg,hb,w.heard,w.mU,w.out,w.AJ,w.hand,w.state⟩
theorem WF.Dg{g:List (Option Nat)}(hg:g.length=2)(hb:∀k,k < 2→∀x,g.getD k none=some x→s.num 0x1016 (k+1) / 65536 ≠ 0∧s.num 0x1016 (k+1) % 65536 ≠ 0):WF {s with heard:=g}:=
 ⟨w.node,w.own,w.tab,w.nd,w.vq,w.mark,w.Pb,w.Pd,w.NY,fun k hk b hb=>let m:=w.maps k hk b hb;⟨m.Ll,m.nz,m.line,m.sum⟩,w.going,w.kept,w.qb,hg,hb,w.out,w.AJ,w.hand,w.state⟩
theorem WF.JF{g:List (Nat × List Nat)}(hg:g.length≤32)(hb:∀f,f ∈ g→ft f.2∧f.2.length≤8):WF {s with out:=g}:=
 ⟨w.node,w.own,w.tab,w.nd,w.vq,w.mark,w.Pb,w.Pd,w.NY,fun k hk b hb=>let m:=w.maps k hk b hb;⟨m.Ll,m.nz,m.line,m.sum⟩,w.going,w.kept,w.qb,w.heard,w.mU,hg,hb,w.hand,w.state⟩
theorem WF.xw{g:Nat}(hg:g=5∨g=4∨g=127):WF {s with state:=g}:=
 ⟨w.node,w.own,w.tab,w.nd,w.vq,w.mark,w.Pb,w.Pd,w.NY,fun k hk b hb=>let m:=w.maps k hk b hb;⟨m.Ll,m.nz,m.line,m.sum⟩,w.going,w.kept,w.qb,w.heard,w.mU,w.out,w.AJ,w.hand,hg⟩
theorem WF.Aq{g:Nat}:WF {s with beat:=g}:=
 ⟨w.node,w.own,w.tab,w.nd,w.vq,w.mark,w.Pb,w.Pd,w.NY,fun k hk b hb=>let m:=w.maps k hk b hb;⟨m.Ll,m.nz,m.line,m.sum⟩,w.going,w.kept,w.qb,w.heard,w.mU,w.out,w.AJ,w.hand,w.state⟩
theorem WF.yy{g:Nat}:WF {s with now:=g}:=
 ⟨w.node,w.own,w.tab,w.nd,w.vq,w.mark,w.Pb,w.Pd,w.NY,fun k hk b hb=>let m:=w.maps k hk b hb;⟨m.Ll,m.nz,m.line,m.sum⟩,w.going,w.kept,w.qb,w.heard,w.mU,w.out,w.AJ,w.hand,w.state⟩
theorem WF.send{i:Nat}{b:List Nat}(hb:ft b)(hl:b.length≤8):WF (s.send i b):=by
 unfold Sa32.St.send
 by_cases h:s.out.length < 32
 ·rw [if_pos h]
  refine w.JF (by rw [List.length_append];exact h) fun f hf=>?_
  rcases List.mem_append.mp hf with hf | hf
  ·exact w.AJ f hf
  ·rw [List.mem_singleton.mp hf];exact ⟨hb,hl⟩
 ·rw [if_neg h];exact w
theorem WF.answer{b:List Nat}(hb:ft b):WF (s.answer b):=by
 refine w.send (fun x hx=>?_) ?_
 ·rcases List.mem_append.mp (List.mem_of_mem_take hx) with hx | hx
  ·exact hb x hx
  ·exact uM 8 x hx
 ·unfold Sa32.padded
  rw [List.length_take]
  omega
theorem WF.abort{i u c:Nat}(hu:u < 256):WF (s.abort i u c):=by
 refine w.eR.answer fun x hx=>?_
 simp only [List.mem_append,List.mem_cons,List.not_mem_nil,or_false] at hx
 rcases hx with rfl | hx | rfl | hx
 ·decide
 ·exact qk _ _ x hx
 ·exact hu
 ·exact qk _ _ x hx
theorem WF.fault{c b:Nat}(hb:b≤7):WF (s.fault c b):=by
 obtain ⟨e,he,hs⟩:=w.Ji (by decide) (D3 s.node)
 obtain ⟨m1,m2,m3⟩:=bo he
 have hl:e.val.length=1:=(tf hs).2.2.2.2.2
 have sz:Ag s 0x1001 0 1:=hl ▸ w.mS he
 have hn:s.num 0x1001 0 < 256:=by
  rw [xc he]
  have:=Au (w.vq e m1)
  rw [hl] at this
  exact this
 have w1:WF (if c=0 then s.put 0x1001 0 [0] else s.put 0x1001 0 [s.num 0x1001 0 ||| (1 ||| 2 ^ b)]):=by
  by_cases z:c=0
  ·rw [if_pos z]
   exact w.put (.free (by decide) sz (by omega))
  ·rw [if_neg z]
   refine w.put (.free (fun x hx=>?_) sz (by omega))
   rw [List.mem_singleton.mp hx]
   have h2:2 ^ b < 2 ^ 8:=Nat.pow_lt_pow_right (by decide) (by omega)
   exact Nat.or_lt_two_pow (n:=8) hn (Nat.or_lt_two_pow (n:=8) (by decide) h2)
 unfold Sa32.St.fault
 simp only
 generalize (if c=0 then s.put 0x1001 0 [0] else s.put 0x1001 0 [s.num 0x1001 0 ||| (1 ||| 2 ^ b)])=t at w1
 split
 ·exact w1
 ·obtain ⟨e',he',hs'⟩:=w1.Ji (by decide) (D3 t.node)
  have hl':e'.val.length=1:=(tf hs').2.2.2.2.2
  refine w1.send (fun x hx=>?_) ?_
  ·rcases List.mem_append.mp hx with hx | hx
   ·exact qk _ _ x hx
   ·rcases List.mem_append.mp hx with hx | hx
    ·rw [fC he'] at hx
     exact w1.vq e' (bo he').1 x hx
    ·exact uM _ x hx
  ·rw [fC he',List.length_append,List.length_append,bG,hl']
   decide
end
end Fn
namespace Fn
open Sa32 (besides OFF)
theorem pW.ent{s:Sa32.St}{b:Nat}(m:pW s b){j:Nat}(h:j < s.num b 0):∃e,s.ent (s.num b (j+1) / 65536) (s.num b (j+1) / 256 % 256)=some e∧e.m=true∧8 * e.val.length=s.num b (j+1) % 256:=
 (m.line j (by have:=m.Ll;omega)).resolve_left (m.nz j h)
theorem Uc(n:Nat):(besides n).map pl= (besides 0).map pl:=by
 unfold besides
 simp only [List.map_append,List.map_flatMap,List.map_cons,List.map_nil,List.map_map,pl,Function.comp_def]
theorem Tb(n:Nat):((besides n).map pl).Nodup:=by
 rw [Uc]
 decide +kernel
theorem EY{l:List Sa32.Ent}(h:∀e,e ∈ l→0x2000≤e.index){i u:Nat}(hi:i < 0x2000):l.find? (at_ i u)=none:=by
 rw [List.find?_eq_none]
 intro e he z
 have:=h e he
 have:=(sY.mp z).1
 omega
theorem WF.DN{s:Sa32.St}(hn:1≤s.node∧s.node≤127)
  (ht:∀e,e ∈ s.table→0x2000≤e.index∧e.index≤0x9FFF∧e.sub < 256∧(e.val.length=1∨e.val.length=2∨e.val.length=4∨e.val.length=8))
  (hnd:(s.table.map pl).Nodup) (hb:∀e,e ∈ s.table→ft e.val) (ho:s.out.length≤32) (hob:∀f,f ∈ s.out→ft f.2∧f.2.length≤8):WF s.fresh:=by
 unfold Sa32.St.fresh
 generalize hf:({s with own:=besides s.node,state:=Sa32.READY,hand:= .none,kept:=List.replicate 4 none,going:=List.replicate 4 {},beat:=s.now,heard:=[none,none]}:Sa32.St)=f
 have e1:∀{i u:Nat}{e0:Sa32.Ent},i < 0x2000→(besides s.node).find? (at_ i u)=some e0→f.num i u=Sa32.num e0.val:=by
  intro i u e0 hi h
  refine xc ?_
  rw [←hf]
  show (s.table ++ besides s.node).find? (at_ i u)=some e0
  rw [List.find?_append,EY (fun e he=>(ht e he).1) hi,Option.none_or]
  exact h
 have SQ:f.node=s.node:=by rw [←hf]
 have w:WF f:=by
  refine ⟨by rw [SQ];exact hn,by rw [←hf],by rw [←hf];exact ht,?_,?_,?_,fun u hu=>?_,fun k hk h=>?_,fun k hk b hb=>?_,fun k hk b hb=>?_,by rw [←hf];rfl,by rw [←hf];rfl,?_,by rw [←hf];rfl,?_,by rw [←hf];exact ho,by rw [←hf];exact hob,by rw [←hf];trivial,by rw [←hf];exact .inr (.inr rfl)⟩
  ·rw [←hf]
   show ((s.table ++ besides s.node).map pl).Nodup
   rw [List.map_append,List.nodup_append]
   refine ⟨hnd,Tb _,fun x hx y hy z=>?_⟩
   obtain ⟨e,h1,rfl⟩:=List.mem_map.mp hx
   obtain ⟨e',h2,rfl⟩:=List.mem_map.mp hy
   have a:=(ht e h1).1
   have b:=(dN _ e' h2).2.1
   have c:e.index=e'.index:=congrArg Prod.fst z
   omega
  ·rw [←hf]
   intro e he
   rcases List.mem_append.mp he with he | he
   ·exact hb e he
   ·exact (dN _ e he).2.2.2.2.2.2
  ·rw [e1 (by decide) (KR _)]
   decide
  ·rw [e1 (by decide) (Lj _ hu)]
   show Sa32.num (Sa32.le 4 0) < _
   decide
  ·rw [e1 (by omega) (QA _ hk)] at h
   have h:Sa32.num (Sa32.le 4 (OFF+0x200+0x100 * k+s.node)) < OFF:=h
   rw [Hk,Nat.mod_eq_of_lt (by unfold OFF;omega)] at h
   omega
  ·rcases hb with rfl | rfl
   ·rw [e1 (by omega) (PR _ hk)]
    exact .inr (show 254≤Sa32.num (Sa32.le 1 255) by decide)
   ·rw [e1 (by omega) (Rr _ hk)]
    exact .inr (show 254≤Sa32.num (Sa32.le 1 255) by decide)
  ·have z0:f.num (b+k) 0=0:=by
    rw [e1 (by omega) (QL _ hk hb)]
    rfl
   refine ⟨by omega,fun j hj=>by omega,fun j hj=> .inl ?_,by rw [z0];exact Nat.zero_le _⟩
   rw [e1 (by omega) (Pk _ hk hb hj)]
   rfl
  ·rw [←hf]
   intro b hb
   have hb:some b ∈ [none,none,none,none]:=hb
   simp at hb
  ·rw [←hf]
   intro k hk x hx
   have hx:([none,none]:List (Option Nat)).getD k none=some x:=hx
   rcases (show k=0∨k=1 by omega) with rfl | rfl <;> cases hx
 exact w.send (by decide) (by decide)
theorem WF.fresh{s:Sa32.St}(w:WF s):WF s.fresh:=
 WF.DN w.node w.tab (by
  have:=w.nd
  rw [List.map_append,List.nodup_append] at this
  exact this.1) (fun e he=>w.vq e (List.mem_append_left _ he)) w.out w.AJ
theorem WF.reset{s:Sa32.St}(w:WF s):WF ({s with table:=s.table.map fun e=>{e with val:=Sa32.zeros e.val.length}}:Sa32.St).fresh:=by
 refine WF.DN w.node (fun e he=>?_) ?_ (fun e he=>?_) w.out w.AJ
 ·obtain ⟨e0,h0,rfl⟩:=List.mem_map.mp he
  have:=w.tab e0 h0
  refine ⟨this.1,this.2.1,this.2.2.1,?_⟩
  show (Sa32.zeros e0.val.length).length=1∨(Sa32.zeros e0.val.length).length=2∨(Sa32.zeros e0.val.length).length=4∨(Sa32.zeros e0.val.length).length=8
  have z:(Sa32.zeros e0.val.length).length=e0.val.length:=by simp [Sa32.zeros]
  rw [z]
  exact this.2.2.2
 ·have:=w.nd
  rw [List.map_append,List.nodup_append] at this
  show ((s.table.map fun e=>({e with val:=Sa32.zeros e.val.length}:Sa32.Ent)).map pl).Nodup
  rw [List.map_map]
  exact this.1
 ·obtain ⟨e0,h0,rfl⟩:=List.mem_map.mp he
  exact uM _
theorem tT{c:Prop} [Decidable c]{x:Nat}(h:(if c then some x else none)=none):¬c:=by
 intro z
 rw [if_pos z] at h
 cases h
theorem cF{i b k:Nat}(hk:k < 4)(h:i=b+k):Sa32.numbered i b=some k:=by
 unfold Sa32.numbered
 rw [if_pos (by omega)]
 exact congrArg some (by omega)
theorem cP{i b:Nat}(h:i < b∨b+4≤i):Sa32.numbered i b=none:=by
 unfold Sa32.numbered
 rw [if_neg (by omega)]
theorem zY{s:Sa32.St}{i u v k b:Nat}(hk:k < 4)(hb:b=0x1400∨b=0x1800)(hi:i=b+k)(h:Sa32.refuses s i u v=none):
  (u=1→v / 2 ^ 11 % 2 ^ 20=0∧0x181≤v % 2 ^ 11∧v % 2 ^ 11≤0x57F)∧(u=2→v≤0xF0∨0xFE≤v):=by
 unfold Sa32.refuses at h
 have c:(Sa32.numbered i 0x1400).isSome=true∨(Sa32.numbered i 0x1800).isSome=true:=by
  rcases hb with rfl | rfl
  ·exact .inl (by rw [cF hk hi];rfl)
  ·exact .inr (by rw [cF hk hi];rfl)
 rw [if_neg (by omega),if_neg (by omega),if_neg (by omega),if_pos c] at h
 refine ⟨fun z=>?_,fun z=>?_⟩
 ·subst z
  rw [if_pos rfl] at h
  simp only at h
  split at h
  ·cases h
  ·omega
 ·subst z
  rw [if_neg (by decide),if_pos rfl] at h
  have:=tT h
  omega
theorem O0{s:Sa32.St}{i u v k b:Nat}(hk:k < 4)(hb:b=0x1600∨b=0x1A00)(hi:i=b+k):Sa32.refuses s i u v=Sa32.mapRefuses s (b == 0x1600) k u v:=by
 unfold Sa32.refuses
 rw [if_neg (by omega),if_neg (by omega),if_neg (by omega),if_neg (by rw [cP (by omega),cP (by omega)];simp)]
 rcases hb with rfl | rfl
 ·rw [cF hk hi]
  rfl
 ·rw [cP (i:=i) (b:=0x1600) (by omega),cF hk hi]
  rfl
theorem lg.qJ{s:Sa32.St}(w:WF s){i u:Nat}{v:List Nat}{e:Sa32.Ent}(he:s.ent i u=some e)(hl:v.length=e.val.length)(hb:ft v)
  (hr:Sa32.refuses s i u (Sa32.num v)=none) (hh:i=0x1016→∀k,u=k+1→s.heard.getD k none=none):lg s i u v:=by
 have sz:Ag s i u v.length:=hl ▸ w.mS he
 refine ⟨hb,sz,fun z=>?_,fun z=>?_,hh,fun k hk z1 z2 h=>?_,fun k hk z1 z2=>?_,fun k hk b hb' z=>?_⟩
 ·subst z
  unfold Sa32.refuses at hr
  rw [if_pos rfl] at hr
  have:=tT hr
  omega
 ·subst z
  unfold Sa32.refuses at hr
  rw [if_neg (by decide),if_neg (by decide),if_pos rfl] at hr
  have:=tT hr
  omega
 ·have:=(zY hk (.inl rfl) z1 hr).1 z2
  unfold OFF at h
  omega
 ·rcases z1 with z1 | z1
  ·exact (zY hk (.inl rfl) z1 hr).2 z2
  ·exact (zY hk (.inr rfl) z1 hr).2 z2
 ·rw [O0 hk hb' z] at hr
  unfold Sa32.mapRefuses at hr
  have id1:(if (b == 0x1600)=true then 0x1400 else 0x1800)+k= (if b=0x1600 then 0x1400 else 0x1800)+k:=by rcases hb' with rfl | rfl <;> rfl
  have vT:(if (b == 0x1600)=true then 0x1600 else 0x1A00)+k=b+k:=by rcases hb' with rfl | rfl <;> rfl
  simp only [id1,vT] at hr
  have m:=w.maps k hk b hb'
  generalize (if b=0x1600 then 0x1400 else 0x1800)+k=q0 at hr
  by_cases hq:s.num q0 1 < OFF
  ·rw [if_pos hq] at hr;cases hr
  ·rw [if_neg hq] at hr
   by_cases hu:u=0
   ·
    subst hu
    rw [if_neg (by simp)] at hr
    by_cases h8:8 < Sa32.num v
    ·rw [if_pos h8] at hr;cases hr
    ·rw [if_neg h8] at hr
     have h1:=tT hr
     have hn:(s.put i 0 v).num (b+k) 0=Sa32.num v:=by rw [←z];exact wH he
     have hj:∀j,(s.put i 0 v).num (b+k) (j+1)=s.num (b+k) (j+1):=fun j=>jN (by omega)
     refine ⟨by rw [hn];omega,fun j hj'=>?_,fun j hj'=>?_,?_⟩
     ·rw [hn] at hj'
      rw [hj]
      intro z0
      refine h1 (.inl ?_)
      rw [List.contains_iff_mem]
      exact List.mem_map.mpr ⟨j,List.mem_range.mpr hj',z0⟩
     ·rw [hj]
      rcases m.line j hj' with q | ⟨x,q1,q2,q3⟩
      ·exact .inl q
      ·refine .inr ⟨x,?_,q2,q3⟩
       rw [eT,if_neg ?_]
       ·exact q1
       ·intro zz
        have:=(w.bounds (bo q1).1).2.2.2.2.2 q2
        have:=(bo q1).2.1
        omega
     ·rw [hn]
      have e1:((List.range (Sa32.num v)).map fun j=>(s.put i 0 v).num (b+k) (j+1) % 256)= ((List.range (Sa32.num v)).map fun j=>s.num (b+k) (j+1)).map fun x=>x % 256:=by
       rw [List.map_map]
       exact List.map_congr_left fun j _=>by rw [hj];rfl
      rw [e1]
      exact Nat.le_of_not_lt fun q=>h1 (.inr q)
   ·rw [if_pos hu] at hr
    by_cases h0:s.num (b+k) 0 ≠ 0
    ·rw [if_pos h0] at hr;cases hr
    ·rw [if_neg h0] at hr
     have h0:s.num (b+k) 0=0:=Decidable.byContradiction h0
     have hn:(s.put i u v).num (b+k) 0=0:=by rw [jN (by omega)];exact h0
     refine ⟨by omega,fun j hj=>by omega,fun j hj=>?_,by rw [hn];exact Nat.zero_le _⟩
     by_cases q:j+1=u
     ·subst q
      have e1:(s.put i (j+1) v).num (b+k) (j+1)=Sa32.num v:=by rw [←z];exact wH he
      rw [e1]
      split at hr
      ·cases hr
      ·rename_i x hx
       have h2:=tT hr
       have hm:x.m=true:=by
        cases q:x.m with
        | true=>rfl
        | false=>exact absurd (.inl q) h2
       have h3:8 * x.val.length=Sa32.num v % 256:=Decidable.byContradiction fun q=>h2 (.inr (.inr q))
       refine .inr ⟨x,?_,hm,h3⟩
       rw [eT,if_neg ?_]
       ·exact hx
       ·intro zz
        have:=(w.bounds (bo hx).1).2.2.2.2.2 hm
        have:=(bo hx).2.1
        omega
     ·rw [jN (by omega)]
      rcases m.line j hj with q0 | ⟨x,q1,q2,q3⟩
      ·exact .inl q0
      ·refine .inr ⟨x,?_,q2,q3⟩
       rw [eT,if_neg ?_]
       ·exact q1
       ·intro zz
        have:=(w.bounds (bo q1).1).2.2.2.2.2 q2
        have:=(bo q1).2.1
        omega
end Fn
namespace Fn
open Sa32 (besides OFF)
theorem vV{l:List (Option Nat)}{j k:Nat}(h:(l.set j none).getD k none ≠ none):k ≠ j∧(l.set j none).getD k none=l.getD k none:=by
 by_cases q:k=j
 ·subst q
  refine absurd ?_ h
  rw [List.getD_eq_getElem?_getD]
  by_cases z:k < l.length
  ·rw [List.getElem?_set_self z];rfl
  ·rw [List.getElem?_eq_none (by simpa using z)];rfl
 ·refine ⟨q,?_⟩
  rw [List.getD_eq_getElem?_getD,List.getD_eq_getElem?_getD,List.getElem?_set_ne (Ne.symm q)]
theorem WF.yh{s:Sa32.St}(w:WF s)(j:Nat):WF {s with heard:=s.heard.set j none}:=by
 refine w.Dg (by rw [List.length_set];exact w.heard) fun k hk x hx=>?_
 obtain ⟨_,q⟩:=vV (by rw [hx];exact fun z=>nomatch z)
 rw [q] at hx
 exact w.mU k hk x hx
theorem JK(s:Sa32.St)(i u:Nat)(b:List Nat)(h:List (Option Nat)):({s with heard:=h}:Sa32.St).put i u b= {s.put i u b with heard:=h}:=by
 by_cases q:s.val i u=b
 ·rw [eN q,eN (s:={s with heard:=h}) q]
 ·unfold Sa32.St.put
  rw [if_neg q,if_neg (show ¬({s with heard:=h}:Sa32.St).val i u=b from q)]
  rfl
theorem WF.set{s t:Sa32.St}(w:WF s){i u:Nat}{v:List Nat}{e:Sa32.Ent}(he:s.ent i u=some e)(hl:v.length=e.val.length)(hb:ft v)(h:s.set i u v= .inr t):WF t:=by
 unfold Sa32.St.set at h
 cases hr:Sa32.refuses s i u (Sa32.num v) with
 | some c=>rw [hr] at h;cases h
 | none=>
  rw [hr] at h
  simp only at h
  by_cases h1:i=0x1017
  ·rw [if_pos h1] at h
   cases h
   exact (w.put (.qJ w he hl hb hr fun z=>by omega)).Aq
  ·rw [if_neg h1] at h
   by_cases h2:i=0x1016
   ·rw [if_pos h2] at h
    cases h
    rw [vc,←JK]
    refine (w.yh (u - 1)).put (.qJ (w.yh (u - 1)) he hl hb hr fun _ k hk=>?_)
    cases z:(s.heard.set (u - 1) none).getD k none with
    | none=>rfl
    | some y=>exact absurd (vV (by rw [z];exact fun q=>nomatch q)).1 (by omega)
   ·rw [if_neg h2] at h
    cases h
    exact w.put (.qJ w he hl hb hr fun z=>absurd z h2)
theorem gO{b:List Nat}(h:ft b)(n:Nat):ft (b.take n):=fun x hx=>h x (List.mem_of_mem_take hx)
theorem gS{b:List Nat}(h:ft b)(n:Nat):ft (b.drop n):=fun x hx=>h x (List.mem_of_mem_drop hx)
theorem lU{b c:List Nat}(h:ft b)(k:ft c):ft (b ++ c):=fun x hx=>(List.mem_append.mp hx).elim (h x) (k x)
theorem nv{b:List Nat}{c:Nat}(k:c < 256)(h:ft b):ft (c::b):=fun x hx=>(List.mem_cons.mp hx).elim (fun z=>z ▸ k) (h x)
theorem vi:ft []:=fun _ h=>nomatch h
theorem km{b:List Nat}(h:ft b)(k:Nat):b.getD k 0 < 256:=by
 rw [List.getD_eq_getElem?_getD]
 cases q:b[k]? with
 | none=>decide
 | some x=>exact h x (List.mem_of_getElem? q)
theorem Nf{d:List Nat}(h:ft d):Sa32.num ((d.drop 1).take 2) < 65536:=by
 have h1:=Au (gO (gS h 1) 2)
 have h2:((d.drop 1).take 2).length≤2:=by rw [List.length_take];omega
 exact Nat.lt_of_lt_of_le h1 (Nat.le_trans (Nat.pow_le_pow_right (by decide) h2) (by decide))
theorem DU{s:Sa32.St}{i u:Nat}{b:Bool}{e:Sa32.Ent}(h:Sa32.wanted s i u b= .inr e):s.ent i u=some e∧(if b=true then e.w else e.r)=true:=by
 unfold Sa32.wanted at h
 cases q:s.ent i u with
 | none=>rw [q] at h;cases h
 | some x=>
  rw [q] at h
  simp only at h
  by_cases z:(if b=true then x.w else x.r)=true
  ·rw [if_pos z] at h
   cases h
   exact ⟨rfl,z⟩
  ·rw [if_neg z] at h
   cases h
theorem OC{e:Sa32.Ent}{k:Nat}(h:Sa32.long e k=none):k=e.val.length:=by
 unfold Sa32.long at h
 split at h
 ·cases h
 ·split at h
  ·cases h
  ·omega
theorem WF.told{s:Sa32.St}(w:WF s){i u:Nat}(hu:u < 256):WF (s.answer ([0x60] ++ (Sa32.le 2 i ++ [u]))):=
 w.answer (lU (by decide) (lU (qk _ _) (nv hu vi)))
theorem WF.request{s:Sa32.St}(w:WF s){d:List Nat}(hd:d.length=8)(hb:ft d):WF (Sa32.request s d):=by
 have hu:d.getD 3 0 < 256:=km hb 3
 have hi:=Nf hb
 unfold Sa32.request
 simp only
 generalize d.getD 0 0=c
 generalize hii:Sa32.num ((d.drop 1).take 2)=i at *
 generalize huu:d.getD 3 0=u at *
 split
 ·have w0:=w.eR
  split
  ·exact w0.abort hu
  ·rename_i e hw
   obtain ⟨he,hwr⟩:=DU hw
   split
   ·split
    ·exact w0.abort hu
    ·rename_i hl
     have hl:=OC hl
     split
     ·exact w0.abort hu
     ·rename_i t ht
      refine (w0.set he ?_ (gO (gS hb 4) _) ht).told hu
      rw [List.length_take,List.length_drop,hd]
      have h4:(if c.testBit 0=true then 4 - c / 4 % 4 else min 4 e.val.length)≤4:=by split <;> omega
      omega
   ·split
    ·exact w0.abort hu
    ·refine (w.pK (h:= .down i u [] false) ?_).told hu
     exact ⟨hi,hu,vi,e,he,hwr,Nat.zero_le _⟩
 ·split
  ·split
   ·rename_i i' u' got bit hh
    have hk:=w.hand
    unfold jL at hk
    rw [hh] at hk
    obtain ⟨h1,h2,h3,e,h4,h5,h6⟩:=hk
    split
    ·exact w.abort h2
    ·have hb2:ft (got ++ (d.drop 1).take (7 - c / 2 % 8)):=lU h3 (gO (gS hb 1) _)
     have hsz:(s.val i' u').length=e.val.length:=by rw [fC h4]
     have hrep:∀t:Sa32.St,WF t→WF (t.answer [0x20+16 * bit.toNat]):=fun t wt=>wt.answer (nv (by cases bit <;> decide) vi)
     split
     ·exact w.abort h2
     ·split
      ·refine hrep _ (w.pK ?_)
       refine ⟨h1,h2,hb2,e,h4,h5,?_⟩
       omega
      ·split
       ·exact w.abort h2
       ·split
        ·exact w.abort h2
        ·rename_i t ht
         refine hrep _ (WF.eR ?_)
         refine w.set h4 ?_ hb2 ht
         omega
   ·rename_i hh
    have hk:=w.hand
    unfold jL at hk
    rw [hh] at hk
    exact w.abort hk.2.1
   ·exact w.abort (by decide)
  ·split
   ·have w0:=w.eR
    split
    ·exact w0.abort hu
    ·rename_i e hw
     obtain ⟨he,_⟩:=DU hw
     have hby:=w.vq e (bo he).1
     have hbd:=w.bounds (bo he).1
     split
     ·refine w0.answer (lU (nv ?_ vi) (lU (qk _ _) (nv hu hby)))
      omega
     ·refine WF.answer (w.pK (h:= .up i u e.val false) ⟨hi,hu,hby,by omega⟩) (lU (by decide) (lU (qk _ _) (nv hu (qk _ _))))
   ·split
    ·split
     ·rename_i i' u' left bit hh
      have hk:=w.hand
      unfold jL at hk
      rw [hh] at hk
      obtain ⟨h1,h2,h3,h4⟩:=hk
      split
      ·exact w.abort h2
      ·refine WF.answer (w.pK ?_) (lU (nv ?_ vi) (gO h3 7))
       ·split
        ·trivial
        ·exact ⟨h1,h2,gS h3 7,by rw [List.length_drop];omega⟩
       ·cases bit <;> cases decide (left.length≤7) <;> simp <;> omega
     ·rename_i hh
      have hk:=w.hand
      unfold jL at hk
      rw [hh] at hk
      exact w.abort hk.2.1
     ·exact w.abort (by decide)
    ·split
     ·exact w.eR
     ·split
      ·rename_i hh
       have hk:=w.hand
       unfold jL at hk
       rw [hh] at hk
       exact w.abort hk.2.1
      ·rename_i hh
       have hk:=w.hand
       unfold jL at hk
       rw [hh] at hk
       exact w.abort hk.2.1
      ·exact w.abort (by decide)
theorem ej{s:Sa32.St}{b:Nat}(m:pW s b){x:Nat × Nat}(h:x ∈ s.mapped b):∃e,s.ent x.1 x.2=some e∧e.m=true:=by
 unfold Sa32.St.mapped at h
 obtain ⟨j,hj,rfl⟩:=List.mem_map.mp h
 obtain ⟨e,h1,h2,_⟩:=m.ent (List.mem_range.mp hj)
 exact ⟨e,h1,h2⟩
def c9(s:Sa32.St)(l:List (Nat × Nat)):Nat:=(l.map fun x=>(s.val x.1 x.2).length).sum
theorem CN{s:Sa32.St}{b:Nat}(m:pW s b):c9 s (s.mapped b)≤8:=by
 have key:∀(l:List Nat),(∀j,j ∈ l→j < s.num b 0)→8 * ((l.map fun j=>(s.num b (j+1) / 65536,s.num b (j+1) / 256 % 256)).map fun x=>(s.val x.1 x.2).length).sum= (l.map fun j=>s.num b (j+1) % 256).sum:=by
  intro l
  induction l with
  | nil=>intro _;rfl
  | cons j r ih=>
   intro h
   have h1:=ih fun i hi=>h i (List.mem_cons_of_mem _ hi)
   obtain ⟨e,h2,_,h3⟩:=m.ent (h j List.mem_cons_self)
   simp only [List.map_cons,List.sum_cons] at h1 ⊢
   rw [Nat.mul_add,h1,fC h2,h3]
 have h1:=key (List.range (s.num b 0)) fun j hj=>List.mem_range.mp hj
 have h2:=m.sum
 have h3:c9 s (s.mapped b)= (((List.range (s.num b 0)).map fun j=>(s.num b (j+1) / 65536,s.num b (j+1) / 256 % 256)).map fun x=>(s.val x.1 x.2).length).sum:=rfl
 omega
theorem D8(s:Sa32.St)(l:List (Nat × Nat)):(l.flatMap fun x=>s.val x.1 x.2).length=c9 s l:=by
 unfold c9
 rw [List.length_flatMap]
theorem WF.sendMap{s:Sa32.St}(w:WF s){k:Nat}(hk:k < 4):WF (s.sendMap k):=by
 have m:=w.maps k hk 0x1A00 (.inr rfl)
 have w1:WF (s.send (s.num (0x1800+k) 1) ((s.mapped (0x1A00+k)).flatMap fun x=>s.val x.1 x.2)):=by
  refine w.send (fun y hy=>?_) ?_
  ·obtain ⟨x,hx,hy⟩:=List.mem_flatMap.mp hy
   obtain ⟨e,he,_⟩:=ej m hx
   rw [fC he] at hy
   exact w.vq e (bo he).1 y hy
  ·rw [D8]
   exact CN m
 exact w1.qU (by rw [List.length_set];exact w1.going)
theorem WF.takeMap:∀(l:List (Nat × Nat))(b:List Nat)(s:Sa32.St),WF s→ft b→(∀x,x ∈ l→∃e,s.ent x.1 x.2=some e∧e.m=true)→c9 s l≤b.length→WF (Sa32.takeMap l b s)
 | [],_,_,w,_,_,_=>w
 | x::r,b,s,w,hb,hl,hs=>by
  obtain ⟨e,he,hm⟩:=hl x List.mem_cons_self
  have hv:s.val x.1 x.2=e.val:=fC he
  have hs':e.val.length+c9 s r≤b.length:=by
   unfold c9 at hs ⊢
   rw [List.map_cons,List.sum_cons,hv] at hs
   exact hs
  have hlen:(b.take e.val.length).length=e.val.length:=by rw [List.length_take];omega
  have h2k:0x2000≤x.1:=by
   have:=(w.bounds (bo he).1).2.2.2.2.2 hm
   rw [(bo he).2.1] at this
   exact this
  have p:lg s x.1 x.2 (b.take e.val.length):= .free (gO hb _) (hlen.symm ▸ w.mS he) (.inl h2k)
  unfold Sa32.takeMap
  simp only [hv]
  have len_same:∀y:Nat × Nat,((s.put x.1 x.2 (b.take e.val.length)).val y.1 y.2).length= (s.val y.1 y.2).length:=fun y=>by
   by_cases q:y.1=x.1∧y.2=x.2
   ·rw [q.1,q.2,CI he,hlen,hv]
   ·rw [Ef q]
  refine WF.takeMap r _ _ (w.put p) (gS hb _) (fun y hy=>?_) ?_
  ·obtain ⟨e',he',hm'⟩:=hl y (List.mem_cons_of_mem _ hy)
   rw [eT]
   by_cases q:y.1=x.1∧y.2=x.2
   ·rw [if_pos q,he]
    exact ⟨_,rfl,hm⟩
   ·rw [if_neg q]
    exact ⟨e',he',hm'⟩
  ·have e1:c9 (s.put x.1 x.2 (b.take e.val.length)) r=c9 s r:=by
    unfold c9
    exact congrArg List.sum (List.map_congr_left fun y _=>len_same y)
   rw [e1,List.length_drop]
   omega
theorem tV{f:Sa32.St→Nat→Sa32.St}{n:Nat}(h:∀s k,k < n→WF s→WF (f s k)):∀(l:List Nat)(s:Sa32.St),(∀k,k ∈ l→k < n)→WF s→WF (l.foldl f s)
 | [],_,_,w=>w
 | k::r,s,hl,w=>tV h r (f s k) (fun j hj=>hl j (List.mem_cons_of_mem _ hj)) (h s k (hl k List.mem_cons_self) w)
theorem WF.GD{s:Sa32.St}(w:WF s):WF s.maps:=by
 unfold Sa32.St.maps
 refine tV (n:=4) (fun s k hk w=>?_) _ _ (fun k hk=>List.mem_range.mp hk) w
 simp only
 split
 ·exact w.sendMap hk
 ·exact w
theorem WF.close{s:Sa32.St}(w:WF s):WF s.close:=by
 unfold Sa32.St.close
 simp only
 refine WF.GD ?_
 have w1:=tV (n:=2) (f:=fun s k=>
  let v:=s.num 0x1016 (k+1)
  match s.heard.getD k none with
   | some x=>if v / 65536 ≠ 0∧v % 65536 ≠ 0∧x+v % 65536 < s.now then {s with heard:=s.heard.set k none}.fault 0x8130 4 else s
   | none=>s) (fun s k hk w=>?_) (List.range 2) s (fun k hk=>List.mem_range.mp hk) w
 ·simp only at w1
  generalize List.foldl _ s (List.range 2)=t at w1 ⊢
  split
  ·refine (WF.Aq w1).send (nv ?_ vi) (show 1≤8 by decide)
   have q:t.state=5∨t.state=4∨t.state=127:=w1.state
   omega
  ·exact w1
 ·simp only
  split
  ·split
   ·exact (w.yh k).fault (by decide)
   ·exact w
  ·exact w
theorem WF.work{s:Sa32.St}(w:WF s):WF s.work:=by
 unfold Sa32.St.work
 split
 ·exact w
 ·exact WF.qU (s:={s with state:=Sa32.WORK}) (w.xw (.inl rfl)) (by rw [List.length_map];exact w.going)
theorem mO{s:Sa32.St}(w:WF s)(k:Nat):WF {s with kept:=s.kept.set k none}:=by
 refine w.Gm (by rw [List.length_set];exact w.kept) fun b hb=>?_
 rcases List.mem_or_eq_of_mem_set hb with h | h
 ·exact w.qb b h
 ·cases h
theorem vN{α:Type}{l:List (Option α)}{k:Nat}{b:α}(h:l.getD k none=some b):some b ∈ l:=by
 rw [List.getD_eq_getElem?_getD] at h
 cases q:l[k]? with
 | none=>rw [q] at h;cases h
 | some y=>
  rw [q] at h
  have h:y=some b:=h
  rw [←h]
  exact List.mem_of_getElem? q
theorem WF.UM{s:Sa32.St}(w:WF s):WF (Sa32.mark s):=by
 unfold Sa32.mark
 simp only
 have w1:=tV (n:=4) (f:=fun s k=>match s.kept.getD k none with
  | some b=>
   let l:=s.mapped (0x1600+k)
   let t:={s with kept:=s.kept.set k none}
   if b.length < (l.map fun x=>(s.val x.1 x.2).length).sum then t else Sa32.takeMap l b t
  | none=>s) (fun s k hk w=>?_) (List.range 4) s (fun k hk=>List.mem_range.mp hk) w
 ·simp only at w1
  refine tV (n:=4) (fun s k hk w=>?_) _ _ (fun k hk=>List.mem_range.mp hk) w1
  have w2:WF {s with going:=s.going.set k {s.going.getD k {} with marks:=((s.going.getD k {}).marks+1) % 2 ^ 32}}:=w.qU (by rw [List.length_set];exact w.going)
  split
  ·exact w2.sendMap hk
  ·exact w2
 ·simp only
  split
  ·rename_i b hb
   have h1:=w.qb b (vN hb)
   have m:=w.maps k hk 0x1600 (.inl rfl)
   split
   ·exact mO w k
   ·rename_i hlt
    exact WF.takeMap _ _ _ (mO w k) h1.1 (fun x hx=>ej m hx) (Nat.le_of_not_lt hlt)
  ·exact w
theorem WF.frame{s:Sa32.St}(w:WF s){i:Nat}{d:List Nat}(hb:ft d)(hd:d.length≤8):WF (Sa32.frame s i d):=by
 unfold Sa32.frame
 split
 ·split
  ·split
   ·exact w
   ·split
    ·exact w.work
    ·split
     ·exact w.xw (.inr (.inl rfl))
     ·split
      ·exact w.xw (.inr (.inr rfl))
      ·split
       ·exact w.reset
       ·split
        ·exact w.fresh
        ·exact w
  ·exact w
 ·split
  ·split
   ·rename_i h
    exact w.request h.1 hb
   ·exact w
  ·split
   ·split
    ·exact w.UM
    ·exact w
   ·split
    ·rename_i k hk
     have hk4:k < 4:=by
      split at hk
      ·exact List.mem_range.mp (List.mem_of_find?_eq_some hk)
      ·cases hk
     have m:=w.maps k hk4 0x1600 (.inl rfl)
     simp only
     split
     ·exact w.fault (by decide)
     ·rename_i hlt
      split
      ·refine w.Gm (by rw [List.length_set];exact w.kept) fun b hb'=>?_
       rcases List.mem_or_eq_of_mem_set hb' with h | h
       ·exact w.qb b h
       ·cases h
        exact ⟨hb,hd⟩
      ·exact WF.takeMap _ _ _ w hb (fun x hx=>ej m hx) (Nat.le_of_not_lt hlt)
    ·refine w.Dg (by rw [List.length_map,List.length_zipIdx];exact w.heard) fun k hk x hx=>?_
     rw [List.getD_eq_getElem?_getD,List.getElem?_map,List.getElem?_zipIdx] at hx
     have hlt:k < s.heard.length:=by rw [w.heard];exact hk
     rw [List.getElem?_eq_getElem hlt] at hx
     simp only [Option.map_some,Option.getD_some,Nat.zero_add] at hx
     split at hx
     ·rename_i q
      exact ⟨q.1,q.2.1⟩
     ·refine w.mU k hk x ?_
      rw [List.getD_eq_getElem?_getD,List.getElem?_eq_getElem hlt]
      exact hx
end Fn
namespace L2
open PySem PySem.Spec PyProof.Rows
abbrev Key:=Sum Int Str
def By:Key→Value→Bool
 | .inl k,v=>Value.isInt k v
 | .inr x,v=>Value.isStrOf x v
def Wl(w:World):Key→Int
 | .inl k=>hashInt k
 | .inr x=>hashStr w x
theorem cQ:∀{k:Key}{v:Value},By k v=true→(∃i t,k=Sum.inl i∧v=Value.int i t)∨(∃x t,k=Sum.inr x∧v=Value.str x t)
 | .inl i,v,h=>by
  obtain ⟨t,e⟩:=Value.isInt_shape (k:=i) (v:=v) h
  exact .inl ⟨i,t,rfl,e⟩
 | .inr x,v,h=>by
  obtain ⟨t,e⟩:=Value.isStrOf_shape (x:=x) (v:=v) h
  exact .inr ⟨x,t,rfl,e⟩
theorem NZ(i:Int)(t:Tok):By (.inl i) (.int i t)=true:=by simp [By,Value.isInt]
theorem OE(x:Str)(t:Tok):By (.inr x) (.str x t)=true:=by simp [By,Value.isStrOf]
theorem Tc(a b:Int):decide ((Sum.inl a:Key)=Sum.inl b)= (a == b):=by
 by_cases e:a=b
 ·subst e;simp
 ·have h:¬(Sum.inl a:Key)=Sum.inl b:=fun q=>e (Sum.inl.inj q)
  rw [decide_eq_false h]
  exact (beq_eq_false_iff_ne.mpr e).symm
theorem TV(a b:Str):decide ((Sum.inr a:Key)=Sum.inr b)=decide (a=b):=by
 by_cases e:a=b
 ·subst e;simp
 ·have h:¬(Sum.inr a:Key)=Sum.inr b:=fun q=>e (Sum.inr.inj q)
  rw [decide_eq_false h,decide_eq_false e]
theorem TQ(a:Int)(b:Str):decide ((Sum.inl a:Key)=Sum.inr b)=false:=decide_eq_false (fun q=>nomatch q)
theorem T7(a:Str)(b:Int):decide ((Sum.inr a:Key)=Sum.inl b)=false:=decide_eq_false (fun q=>nomatch q)
def cI(prog:Program)(w:World):PySem.KeyKind prog w Key where
 is:=By
 hash:=Wl w
 inj:=fun v a b ha hb=>by
  rcases cQ ha with ⟨i,t,rfl,rfl⟩ | ⟨x,t,rfl,rfl⟩
  ·rcases cQ hb with ⟨j,u,rfl,e⟩ | ⟨y,u,rfl,e⟩
   ·injection e with e1 _;rw [e1]
   ·exact nomatch e
  ·rcases cQ hb with ⟨j,u,rfl,e⟩ | ⟨y,u,rfl,e⟩
   ·exact nomatch e
   ·injection e with e1 _;rw [e1]
 byValue:=fun k v h=>by
  rcases cQ h with ⟨i,t,rfl,rfl⟩ | ⟨x,t,rfl,rfl⟩ <;> rfl
 pyHash:=fun hv h=>by
  rcases cQ hv with ⟨i,t,rfl,rfl⟩ | ⟨x,t,rfl,rfl⟩
  ·exact wpAny_pyHash_int h
  ·exact wpAny_pyHash_str h
 eqBool:=fun hu hv h=>by
  rcases cQ hu with ⟨i,t,rfl,rfl⟩ | ⟨x,t,rfl,rfl⟩
  ·rcases cQ hv with ⟨j,u,rfl,rfl⟩ | ⟨y,u,rfl,rfl⟩
   ·rw [Tc] at h;exact wpAny_eqBool_int h
   ·rw [TQ] at h;exact SeqAt.EqAt.int_str i t y u _ _ _ _ h
  ·rcases cQ hv with ⟨j,u,rfl,rfl⟩ | ⟨y,u,rfl,rfl⟩
   ·rw [T7] at h;exact SeqAt.EqAt.str_int x t j u _ _ _ _ h
   ·rw [TV] at h;exact wpAny_eqBool_str h
 «strs»:=fun k x t v h=>by
  rcases cQ h with ⟨i,u,rfl,e⟩ | ⟨y,u,rfl,e⟩
  ·exact nomatch e
  ·injection e with e1 _
   subst e1
   cases v <;> rfl
theorem dg(prog:Program)(w:World)(i:Int)(t:Tok):(cI prog w).is (.inl i) (.int i t)=true:=NZ i t
theorem JX(prog:Program)(w:World)(x:Str)(t:Tok):(cI prog w).is (.inr x) (.str x t)=true:=OE x t
end L2
namespace L2
open PySem PySem.Spec PyProof.Rows
inductive V where
 | bB | bl (b:Bool) | int (i:Int) | str (x:Str) | vq (b:Array UInt8) | flt (b:UInt64) | ref (a:Addr) | ty (n:String)
 deriving DecidableEq
def RelV:V→Value→Prop
 | .bB,u=>u=Value.none
 | .bl b,u=>u=Value.bool b
 | .int i,u=>∃t,u=Value.int i t
 | .str x,u=>∃t,u=Value.str x t
 | .vq b,u=>∃t,u=Value.bytes b t
 | .flt b,u=>∃t,u=Value.float b t
 | .ref a,u=>u=Value.ref a
 | .ty n,u=>u=Value.type n
abbrev Vals:List V→List Value→Prop:=Paired RelV
theorem Vals.length{xs:List V}{us:List Value}(r:Vals xs us):xs.length=us.length:=Paired.length r
theorem Vals.get:∀{xs:List V}{us:List Value}{i:Nat}{x:V},Vals xs us→xs[i]? = some x→∃u,us[i]? = some u∧RelV x u
 | _,_,_,_,.nil,e=>by simp at e
 | _,_,0,_,.cons r _,e=>by simp at e;subst e;exact ⟨_,rfl,r⟩
 | _,_,i+1,x,.cons _ t,e=>by
  obtain ⟨u,h1,h2⟩:=Vals.get (i:=i) (x:=x) t (by simpa using e)
  exact ⟨u,by simpa using h1,h2⟩
theorem Vals.set{x:V}{u:Value}(r:RelV x u):∀{xs:List V}{us:List Value}(i:Nat),Vals xs us→Vals (xs.set i x) (us.set i u)
 | _,_,_,.nil=> .nil
 | _,_,0,.cons _ t=> .cons r t
 | _,_,i+1,.cons q t=> .cons q (Vals.set r i t)
theorem Vals.append:∀{xs ys:List V}{us ws:List Value},Vals xs us→Vals ys ws→Vals (xs ++ ys) (us ++ ws)
 | _,_,_,_,.nil,s=>s
 | _,_,_,_,.cons r t,s=> .cons r (Vals.append t s)
theorem Vals.take:∀{xs:List V}{us:List Value}(n:Nat),Vals xs us→Vals (xs.take n) (us.take n)
 | _,_,0,_=> .nil
 | _,_,_+1,.nil=> .nil
 | _,_,n+1,.cons r t=> .cons r (Vals.take n t)
theorem Vals.drop:∀{xs:List V}{us:List Value}(n:Nat),Vals xs us→Vals (xs.drop n) (us.drop n)
 | _,_,0,r=>r
 | _,_,_+1,.nil=> .nil
 | _,_,n+1,.cons _ t=>Vals.drop n t
def sO:Option V→Option Value→Prop
 | some v,some u=>RelV v u
 | none,none=>True
 | _,_=>False
def KV{κ:Type}:List (κ × V)→List (κ × Value)→Prop:=Paired fun (p:κ × V) (q:κ × Value)=>p.1=q.1∧RelV p.2 q.2
def kV:Key→V
 | .inl i=> .int i
 | .inr x=> .str x
inductive HO where
 | lst (xs:List V)
 | tup (xs:List V)
 | dK (aB:List (Key × V)) | dT (aB:List (List Key × V))
 | set (S:Int→Bool) (n:Nat)
 | ins (C dx:Addr) (fs:List (Str × V))
 | own (x:Addr)
 | xd (fs:List (Str × V))
 | met (f x:Addr)
 | V0 (lo hi:Int)
 | pV (o:Obj) (u:HO)
 | Tj (ps:Array Value)
 | ext (φ:Heap→Prop)
abbrev Hp:=Addr→Option HO
def upd(H:Hp)(a:Addr)(o:HO):Hp:=fun b=>if b=a then some o else H b
theorem ao{H:Hp}{a:Addr}{o:HO}:upd H a o a=some o:=by unfold upd;rw [if_pos rfl]
theorem aL{H:Hp}{a b:Addr}{o:HO}(h:b ≠ a):upd H a o b=H b:=by unfold upd;rw [if_neg h]
theorem fc{H:Hp}{a:Addr}{o u:HO}:upd (upd H a o) a u=upd H a u:=by
 funext b;unfold upd;split <;> rfl
theorem uk{H:Hp}{a b:Addr}{o u:HO}(h:H a=some o)(h':H b=some u)(d:o ≠ u):a ≠ b:=by
 intro e;subst e;rw [h] at h';exact d (Option.some.inj h')
theorem aE{H:Hp}{a b:Addr}{o:HO}(h:H a=some o)(h':H b=none):a ≠ b:=by
 intro e;subst e;rw [h] at h';cases h'
section
variable(P:Program)(w:World)
def gD(H:Hp)(h:Heap)(a:Addr):HO→Prop
 | .lst xs=>xs.length≤sizeLine∧∃(its:List Value)(n:Nat),Vals xs its∧h.get? a=some {cls:= .type "list",data:= .seq its.toArray n}
 | .tup xs=>xs.length≤sizeLine∧∃its:List Value,Vals xs its∧IsTup h a its.toArray
 | .dK aB=>aB.length≤sizeLine∧(a == sysModules)=false∧∃vs,KV aB vs∧h.DictOf (cI P w) a vs
 | .dT aB=>aB.length≤sizeLine∧(a == sysModules)=false∧∃xs:List (List Key × Addr × Value),
   Paired (fun (p:List Key × V) (q:List Key × Addr × Value)=>p.1=q.1∧H q.2.1=some (.tup (p.1.map kV))∧RelV p.2 q.2.2) aB xs∧
   ∃o es ep,h.get? a=some o∧o.ExactDict∧o.data= .dict es ep∧es.toList=xs.map (entryOfKey (tupleKind (cI P w)))∧(xs.map (·.1)).Nodup
 | .set S n=>h.SetOf (intKind P w) a S n
 | .ins C dx fs=>H dx=some (.own a)∧fs.length≤1000∧dx ≠ a∧h.get? a=some (PySem.W.instObj C dx)∧
   ∃mA,h.Ns1 dx mA∧(∀f,sO (fs.lookup f) (mA f))∧PySem.Within mA (fs.map (·.1))
 | .own _=>∃o,h.get? a=some o
 | .xd fs=>∃mA,h.Ns1 a mA∧∀f,sO (fs.lookup f) (mA f)
 | .V0 lo hi=>∃t u v,h.get? a=some {cls:= .type "range",data:= .fields #[.int lo t,.int hi u,.int 1 v]}
 | .pV o u=>h.get? a=some o∧gD H h a u
 | .Tj ps=>h.get? a=some {cls:= .none,data:= .fields ps}
 | .met f x=>h.get? a=some (PySem.W.methodObj (.ref f) (.ref x))
 | .ext φ=>φ h∧(∃o,h.get? a=some o)∧∀h1 h2:Heap,φ h1→(∀o,h1.get? a=some o→h2.get? a=some o)→φ h2
def xB(H:Hp)(h:Heap):Prop:=∀a o,H a=some o→gD P w H h a o
end
section
variable{P:Program}{w:World}{H H':Hp}{h h':Heap}{a:Addr}{o:HO}
theorem gD.lt(x:gD P w H h a o):a < h.objs.size:=by
 cases o with
 | lst xs=>obtain ⟨_,_,_,_,e⟩:=x;exact Heap.lt_size e
 | tup xs=>obtain ⟨_,_,_,p⟩:=x;exact p.lt
 | dK aB=>obtain ⟨_,_,_,_,o,_,_,e,_⟩:=x;exact Heap.lt_size e
 | dT aB=>obtain ⟨_,_,_,_,o,_,_,e,_⟩:=x;exact Heap.lt_size e
 | set S n=>obtain ⟨o,_,_,_,e,_⟩:=x;exact Heap.lt_size e
 | ins C dx fs=>obtain ⟨_,_,_,e,_⟩:=x;exact Heap.lt_size e
 | own y=>obtain ⟨_,e⟩:=x;exact Heap.lt_size e
 | xd fs=>obtain ⟨_,⟨_,_,_,e,_⟩,_⟩:=x;exact Heap.lt_size e
 | V0 lo hi=>obtain ⟨_,_,_,e⟩:=x;exact Heap.lt_size e
 | pV ob u=>obtain ⟨e,_⟩:=x;exact Heap.lt_size e
 | Tj ps=>exact Heap.lt_size (show h.get? a=some _ from x)
 | met f y=>exact Heap.lt_size (show h.get? a=some _ from x)
 | ext φ=>obtain ⟨_,⟨_,e⟩,_⟩:=x;exact Heap.lt_size e
theorem Paired.RB{α β:Type}{F G:α→β→Prop}:∀{l₁:List α}{l₂:List β},Paired F l₁ l₂→(∀a b,F a b→G a b)→Paired G l₁ l₂
 | _,_,.nil,_=> .nil
 | _,_,.cons r t,f=> .cons (f _ _ r) (Paired.RB t f)
theorem Paired.imp'{α β:Type}{F G:α→β→Prop}(f:∀a b,F a b→G a b){l₁:List α}{l₂:List β}(r:Paired F l₁ l₂):Paired G l₁ l₂:=Paired.RB r f
theorem gD.jn(x:gD P w H h a o)(k:∀b u,(b=a∨H b=some (.own a))→h.get? b=some u→h'.get? b=some u)
  (ho:∀b,H b=some (.own a)→H' b=some (.own a)) (ht:∀b xs,H b=some (.tup xs)→H' b=some (.tup xs)):gD P w H' h' a o:=by
 induction o with
 | lst xs=>obtain ⟨z,its,n,r,e⟩:=x;exact ⟨z,its,n,r,k _ _ (.inl rfl) e⟩
 | tup xs=>obtain ⟨z,its,r,ob,e,c⟩:=x;exact ⟨z,its,r,ob,k _ _ (.inl rfl) e,c⟩
 | dK aB=>obtain ⟨z,y,vs,r,ob,es,ep,e,c⟩:=x;exact ⟨z,y,vs,r,ob,es,ep,k _ _ (.inl rfl) e,c⟩
 | dT aB=>
  obtain ⟨z,y,xs,r,ob,es,ep,e,c⟩:=x
  exact ⟨z,y,xs,Paired.RB r fun p q z=>⟨z.1,ht _ _ z.2.1,z.2.2⟩,ob,es,ep,k _ _ (.inl rfl) e,c⟩
 | set S n=>obtain ⟨ob,es,ep,t,e,c⟩:=x;exact ⟨ob,es,ep,t,k _ _ (.inl rfl) e,c⟩
 | ins C dx fs=>
  obtain ⟨d,z,ne,e,mA,⟨od,es,ep,e2,c⟩,r⟩:=x
  exact ⟨ho _ d,z,ne,k _ _ (.inl rfl) e,mA,⟨od,es,ep,k _ _ (.inr d) e2,c⟩,r⟩
 | own y=>obtain ⟨ob,e⟩:=x;exact ⟨ob,k _ _ (.inl rfl) e⟩
 | xd fs=>obtain ⟨mA,⟨od,es,ep,e,c⟩,r⟩:=x;exact ⟨mA,⟨od,es,ep,k _ _ (.inl rfl) e,c⟩,r⟩
 | V0 lo hi=>obtain ⟨t,u,v,e⟩:=x;exact ⟨t,u,v,k _ _ (.inl rfl) e⟩
 | pV ob u ih=>obtain ⟨e,q⟩:=x;exact ⟨k _ _ (.inl rfl) e,ih q⟩
 | Tj ps=>
  have e:h.get? a=some {cls:= .none,data:= .fields ps}:=x
  show h'.get? a=some {cls:= .none,data:= .fields ps}
  exact k a _ (.inl rfl) e
 | met f y=>
  have e:h.get? a=some (PySem.W.methodObj (.ref f) (.ref y)):=x
  show h'.get? a=some (PySem.W.methodObj (.ref f) (.ref y))
  exact k a _ (.inl rfl) e
 | ext φ=>obtain ⟨p,⟨o,e⟩,st⟩:=x;exact ⟨st _ _ p fun o q=>k _ _ (.inl rfl) q,⟨o,k _ _ (.inl rfl) e⟩,st⟩
theorem xB.lt(x:xB P w H h)(e:H a=some o):a < h.objs.size:=(x a o e).lt
theorem xB.fresh(x:xB P w H h)(e:h.objs.size≤a):H a=none:=by
 cases q:H a with
 | none=>rfl
 | some u=>exact absurd (Nat.lt_of_lt_of_le (x.lt q) e) (Nat.lt_irrefl _)
theorem xB.kept(x:xB P w H h)(k:∀b u,h.get? b=some u→h'.get? b=some u):xB P w H h':=fun a o e=>
 (x a o e).jn (fun b u _ q=>k b u q) (fun _ q=>q) fun _ _ q=>q
theorem xB.laid(x:xB P w H h)(k:∀b u,h.get? b=some u→h'.get? b=some u)(hp:h.objs.size≤a)(new:gD P w (upd H a o) h' a o):xB P w (upd H a o) h':=fun b u e=>by
 have hn:=x.fresh hp
 by_cases hb:b=a
 ·subst hb;rw [ao] at e;cases e;exact new
 ·rw [aL hb] at e
  exact (x b u e).jn (fun c v _ q=>k c v q) (fun c q=>by rw [aL (aE q hn)];exact q) fun c xs q=>by rw [aL (aE q hn)];exact q
end
def Rd(H:Hp)(a:Addr)(u:HO):Prop:=H a=some u∨∃o,H a=some (.pV o u)
theorem Rd.ok{P:Program}{w:World}{H:Hp}{h:Heap}{a:Addr}{u:HO}(r:Rd H a u)(x:xB P w H h):gD P w H h a u:=by
 rcases r with r | ⟨o,r⟩
 ·exact x a u r
 ·obtain ⟨_,q⟩:=x a _ r
  exact q
def S0:Option HO→Prop
 | some (.lst _)=>True
 | some (.dK _)=>True
 | some (.dT _)=>True
 | some (.set _ _)=>True
 | some (.ins _ _ _)=>True
 | some (.ext _)=>True
 | _=>False
section
variable{P:Program}{w:World}{H:Hp}{h h':Heap}{x e:Addr}{o':HO}
theorem xB.write(ok:xB P w H h)(mu:S0 (H x))(he:e=x∨H e=some (.own x))(k:∀b u,b ≠ e→h.get? b=some u→h'.get? b=some u)(heo:∃u,h'.get? e=some u)
  (new:gD P w (upd H x o') h' x o'):xB P w (upd H x o') h':=fun b u q=>by
 have nown:∀c y,H c=some (.own y)→c ≠ x:=fun c y r z=>by subst z;rw [r] at mu;exact mu
 have ntup:∀c xs,H c=some (.tup xs)→c ≠ x:=fun c xs r z=>by subst z;rw [r] at mu;exact mu
 by_cases hb:b=x
 ·subst hb;rw [ao] at q;cases q;exact new
 ·rw [aL hb] at q
  by_cases hbe:b=e
  ·have q':H b=some (.own x):=by
    rcases he with z | z
    ·exact absurd (hbe.trans z) hb
    ·rw [hbe];exact z
   rw [q] at q';cases q'
   obtain ⟨v,hv⟩:=heo
   exact ⟨v,by rw [hbe];exact hv⟩
  ·refine (ok b u q).jn (fun c v hc r=>k c v ?_ r) (fun c r=>by rw [aL (nown c b r)];exact r) fun c xs r=>by rw [aL (ntup c xs r)];exact r
   rcases hc with rfl | hc
   ·exact hbe
   ·rintro rfl
    rcases he with z | z
    ·exact nown c b hc z
    ·rw [hc] at z;cases z;exact hb rfl
end
structure Un(fs ex:List Addr)(H H':Hp)(h h':Heap):Prop where
 keep:∀b o,h.get? b=some o→H b=none→b ∉ fs→b ∉ ex→h'.get? b=some o
 slot:∀b o,h.get? b=some o→H b=none→b ∈ fs→b ∉ ex→∃sl,h'.get? b=some {o with slots:=sl}
 free:∀b o,h.get? b=some o→H b=none→b ∉ ex→H' b=none
 there:∀b o,h.get? b=some o→b ∉ ex→∃o',h'.get? b=some o'
 IE:∀b xs,H b=some (.tup xs)→H' b=some (.tup xs)
 CA:∀b o u,H b=some (.pV o u)→H' b=some (.pV o u)
 Hi:∀b ps,H b=some (.Tj ps)→∃more,H' b=some (.Tj (ps ++ more))
section
variable{fs fs' ex ex':List Addr}{H H1 H2:Hp}{h h1 h2 h':Heap}{a x e:Addr}{o:HO}
theorem Un.any(u:Un fs ex H H1 h h1){b:Addr}{ob:Obj}(q:h.get? b=some ob)(n:H b=none)(hx:b ∉ ex):∃sl,h1.get? b=some {ob with slots:=sl}:=by
 by_cases hb:b ∈ fs
 ·exact u.slot b ob q n hb hx
 ·exact ⟨ob.slots,u.keep b ob q n hb hx⟩
theorem Un.kept(k:∀b u,h.get? b=some u→h'.get? b=some u):Un fs ex H H h h':=
 ⟨fun b ob q _ _ _=>k b ob q,fun b ob q _ _ _=>⟨ob.slots,k b ob q⟩,fun _ _ _ n _=>n,fun b ob q _=>⟨ob,k b ob q⟩,fun _ _ q=>q,fun _ _ _ q=>q,fun _ ps q=>⟨#[],by rw [q];simp⟩⟩
theorem Un.refl:Un fs ex H H h h:=Un.kept fun _ _ q=>q
theorem Un.laid(k:∀b u,h.get? b=some u→h'.get? b=some u)(hp:h.objs.size≤a)(hn:H a=none):Un fs ex H (upd H a o) h h' where
 keep:=fun b u q _ _ _=>k b u q
 slot:=fun b u q _ _ _=>⟨u.slots,k b u q⟩
 free:=fun b u q n _=>by rw [aL (Nat.ne_of_lt (Nat.lt_of_lt_of_le (Heap.lt_size q) hp))];exact n
 there:=fun b u q _=>⟨u,k b u q⟩
 IE:=fun b xs q=>by rw [aL (aE q hn)];exact q
 CA:=fun b u xs q=>by rw [aL (aE q hn)];exact q
 Hi:=fun b ps q=>⟨#[],by rw [aL (aE q hn),q];simp⟩
theorem Un.write(mu:S0 (H x))(he:e=x∨H e=some (.own x))(k:∀b u,b ≠ e→h.get? b=some u→h'.get? b=some u)(heo:∃u,h'.get? e=some u):Un fs ex H (upd H x o) h h':=by
 have hx:∀b,H b=none→b ≠ x:=fun b n z=>by subst z;rw [n] at mu;exact mu
 have hb:∀b,H b=none→b ≠ e:=fun b n z=>by
  subst z
  rcases he with r | r
  ·exact hx b n r
  ·rw [n] at r;cases r
 have hm:∀b u,H b=some u→¬S0 (some u)→b ≠ x:=fun b u q nm z=>by subst z;rw [q] at mu;exact nm mu
 refine ⟨fun b u q n _ _=>k b u (hb b n) q,fun b u q n _ _=>⟨u.slots,k b u (hb b n) q⟩,fun b u q n _=>by rw [aL (hx b n)];exact n,fun b u q _=>?_,
  fun b xs q=>by rw [aL (hm b _ q fun z=>z)];exact q,fun b u xs q=>by rw [aL (hm b _ q fun z=>z)];exact q,fun b ps q=>⟨#[],by rw [aL (hm b _ q fun z=>z),q];simp⟩⟩
 by_cases hbe:b=e
 ·subst hbe;exact heo
 ·exact ⟨u,k b u hbe q⟩
end
def VC(h:Heap)(H:Hp):List Addr:=(List.range h.objs.size).filter fun a=>(H a).isSome
def IX(h:Heap)(H:Hp):Heap:=PySem.W.hideAll h (VC h H)
theorem O9(h:Heap)(H:Hp):(IX h H).objs.size=h.objs.size:=PySem.W.hideAll_size _ _
theorem QP{h:Heap}{H:Hp}{b:Addr}{o:Obj}(e:h.get? b=some o)(n:H b=none):(IX h H).get? b=some o:=
 PySem.W.hideAll_get _ e fun hm=>by
  have q:(H b).isSome=true:=(List.mem_filter.mp hm).2
  rw [n] at q;simp at q
theorem RZ{h:Heap}{H:Hp}{b:Addr}{o:Obj}(e:(IX h H).get? b=some o):h.get? b=some o∧H b=none:=by
 have e':h.get? b=some o:=PySem.W.of_hideAll (VC h H) e
 refine ⟨e',?_⟩
 cases q:H b with
 | none=>rfl
 | some x=>
  have hm:b ∈ VC h H:=List.mem_filter.mpr ⟨List.mem_range.mpr (Heap.lt_size e'),by simp [q]⟩
  have z:(IX h H).get? b=none:=PySem.W.hideAll_none (VC h H) hm
  rw [z] at e;cases e
end L2
namespace L2
open PySem PySem.Spec PyProof.Rows
structure Mod(K:PySem.W.Frag)(mg:Str→Option Value)(base:Heap):Prop where
 UD:K.In base
 glob:base.Ns mainGlobals mg
 blt:∃mb,base.Ns builtinsNs mb∧∀x:Str,x ≠ "__name__"→mb x=bootBuiltins x
 nolimit:base.NoLimit
structure Cx where
 prog:Program
 w:World
 K:PySem.W.Frag
 mg:Str→Option Value
 base:Heap
 A:Around
 N:List Str
 s₀:Shared
 H₀:Hp
 env:Env
 outer:List Env
 stack:List Env
 ex:List Addr
 fn:Str→Bool
 calm:Bool
 pn:List (Addr × Obj)
 xe:Value→Shared→Prop
def Rf(l:List Env):List Addr:=l.filterMap (·.frame)
abbrev Cx.fs(X:Cx):List Addr:=Rf X.outer
def UB(sc:Scope)(x:Str):Prop:=sc.names.lookup x=some .local∨sc.names.lookup x=some .cell∨sc.names.lookup x=some .free
def Loc(sc:Scope)(x:Str):Prop:=sc.names.lookup x=some .local∨sc.names.lookup x=some .cell
def Look(env:Env)(h:Heap)(m:Str→Option Value)(x:Str)(u:Value):Prop:=
 (env.kindOf x=some .local∧m x=some u)∨((env.kindOf x=some .cell∨env.kindOf x=some .free)∧∃c,env.cells.lookup x=some c∧h.IsCell c (some u))
structure Cx.Ok(X:Cx):Prop where
 mod:Mod X.K X.mg X.base
 kind:X.env.scope.kind= .function
 glob:X.env.globals=mainGlobals
 blt:X.env.builtins=builtinsNs
 above:X.s₀.heap.objs.size≤X.env.locals
 inj:∀x y c,X.env.cells.lookup x=some c→X.env.cells.lookup y=some c→x=y
 has:∀x,(X.env.kindOf x=some .cell∨X.env.kindOf x=some .free)→∃c,X.env.cells.lookup x=some c
 UW:∀x c,X.fn x=true→X.env.cells.lookup x=some c→X.s₀.heap.objs.size≤c
 hd:X.calm=true→X.A.handled=none
 frames:X.A.frames=some X.stack
 VA:X.stack=X.outer∨(X.stack=X.env::X.outer∧X.env.frame=some X.env.locals)
 Vz:∀b ∈ X.ex,b ≠ X.env.locals∧∀x c,X.env.cells.lookup x=some c→c ≠ b
 bs:∀b o,X.base.get? b=some o→X.s₀.heap.get? b=some o∧X.H₀ b=none
 RO:X.base.objs.size≤X.s₀.heap.objs.size
 QO:∀b o,X.base.get? b=some o→b ∉ X.ex
 Qu:∀b ∈ X.ex,b ∉ X.fs
 BW:X.s₀.heap.FunFrames X.base X.outer
 Um:∀b ∈ X.fs,X.H₀ b=none
structure Inv(X:Cx)(pins:List (Addr × Obj))(σ:List (Option V))(H:Hp)(s:Shared):Prop where
 ok:X.Ok
 os:s.os=X.s₀.os
 bare:AllBare s.gens
 base:Un X.fs X.ex X.H₀ H X.s₀.heap s.heap
 loc:∃m,s.heap.Ns X.env.locals m∧∀(i:Nat)(x:Str)(v:V),X.N[i]? = some x→σ[i]? = some (some v)→UB X.env.scope x→∃u,RelV v u∧Look X.env s.heap m x u
 cell:∀x c,X.env.cells.lookup x=some c→∃v,s.heap.IsCell c v
 free:H X.env.locals=none
 qa:∀x c,X.env.cells.lookup x=some c→H c=none
 pin:∀p ∈ X.pn ++ pins,s.heap.get? p.1=some p.2∧H p.1=none∧p.1 ≠ X.env.locals∧p.1 ∉ X.fs∧∀v,p.2.data ≠ .cell v
 dB:xB X.prog X.w H s.heap
 len:σ.length=X.N.length
section
variable{X:Cx}{pins:List (Addr × Obj)}{σ:List (Option V)}{H H':Hp}{s:Shared}{h':Heap}
theorem Cx.Ok.VX(ok:X.Ok){b:Addr}{o:Obj}(e:X.base.get? b=some o):b ∉ X.fs:=fun hb=>by
 have:=(ok.BW.mem hb).1
 rw [e] at this;cases this
theorem Inv.bs(I:Inv X pins σ H s):∀b o,X.base.get? b=some o→s.heap.get? b=some o∧H b=none:=fun b o e=>
 ⟨I.base.keep b o (I.ok.bs b o e).1 (I.ok.bs b o e).2 (I.ok.VX e) (I.ok.QO b o e),I.base.free b o (I.ok.bs b o e).1 (I.ok.bs b o e).2 (I.ok.QO b o e)⟩
theorem Inv.bk(I:Inv X pins σ H s):∀b o,X.base.get? b=some o→s.heap.get? b=some o:=fun b o e=>(I.bs b o e).1
theorem Inv.mod(I:Inv X pins σ H s):Mod X.K X.mg X.base:=I.ok.mod
theorem Inv.Lo(I:Inv X pins σ H s):X.K.In s.heap:=I.ok.mod.UD.keeps I.bk
theorem Inv.lt(I:Inv X pins σ H s):X.env.locals < s.heap.objs.size:=let ⟨_,hn,_⟩:=I.loc;hn.lt
theorem Inv.sz(I:Inv X pins σ H s):X.s₀.heap.objs.size≤s.heap.objs.size:=Nat.le_trans I.ok.above (Nat.le_of_lt I.lt)
theorem Inv.Wj(I:Inv X pins σ H s){a:Addr}(h:s.heap.objs.size≤a):a ∉ X.fs:=fun hb=>by
 obtain ⟨_,o,ho,_⟩:=I.ok.BW.mem hb
 exact absurd (Nat.lt_of_lt_of_le (Heap.lt_size ho) (Nat.le_trans I.sz h)) (Nat.lt_irrefl _)
theorem Inv.T6(I:Inv X pins σ H s):∀x c,X.env.cells.lookup x=some c→c ≠ X.env.locals:=fun x c e z=>by
 obtain ⟨v,o,ho,hd⟩:=I.cell x c e
 obtain ⟨m,⟨o',es,ep,ho',hd',_⟩,_⟩:=I.loc
 rw [z,ho'] at ho;cases ho;rw [hd'] at hd;cases hd
theorem Inv.BW(I:Inv X pins σ H s):s.heap.FunFrames X.base X.outer:=by
 have all:∀(l:List Env),(∀b ∈ Rf l,b ∈ X.fs)→X.s₀.heap.FunFrames X.base l→s.heap.FunFrames X.base l:=by
  intro l
  induction l with
  | nil=>intro _ _;trivial
  | cons env r ih=>
   intro hs hl
   obtain ⟨hk,⟨L,o,hf,hn,ho,hd⟩,hr⟩:=hl
   have hL:L ∈ X.fs:=hs L (by unfold Rf;rw [List.filterMap_cons,hf];exact List.mem_cons_self)
   obtain ⟨sl,e⟩:=I.base.slot L o ho (I.ok.Um L hL) hL fun z=>I.ok.Qu L z hL
   exact ⟨hk,⟨L,_,hf,hn,e,hd⟩,ih (fun b hb=>hs b (by unfold Rf;rw [List.filterMap_cons,hf];exact List.mem_cons_of_mem _ hb)) hr⟩
 exact all X.outer (fun _ hb=>hb) I.ok.BW
theorem Inv.stack(I:Inv X pins σ H s):s.heap.FunFrames X.base X.stack:=by
 rcases I.ok.VA with e | ⟨e,hf⟩
 ·rw [e];exact I.BW
 ·rw [e]
  obtain ⟨m,hn,_⟩:=I.loc
  refine .cons (by rw [I.ok.kind];decide) hf hn ?_ I.BW
  exact Heap.get?_none_of_le (Nat.le_trans I.ok.RO I.ok.above)
theorem Inv.L1(I:Inv X pins σ H s):∀b ∈ Rf X.stack,b ∈ X.env.locals::X.fs:=fun b hb=>by
 rcases I.ok.VA with e | ⟨e,hf⟩
 ·rw [e] at hb;exact List.mem_cons_of_mem _ hb
 ·rw [e] at hb
  unfold Rf at hb
  rw [List.filterMap_cons,hf] at hb
  exact hb
theorem Inv.NJ(I:Inv X pins σ H s):∀b ∈ Rf X.stack,H b=none:=fun b hb=>by
 rcases List.mem_cons.mp (I.L1 b hb) with e | hb
 ·rw [e];exact I.free
 ·obtain ⟨_,o,ho,_⟩:=I.ok.BW.mem hb
  exact I.base.free b o ho (I.ok.Um b hb) fun z=>I.ok.Qu b z hb
theorem Inv.step{g':Array GenState}{t':Nat}{d':Drawn}{ch:List Addr}(I:Inv X pins σ H s)
  (hch:∀b ∈ ch,(b ∈ X.ex∨X.s₀.heap.objs.size≤b)∧b ≠ X.env.locals∧(∀x c,X.env.cells.lookup x=some c→c ≠ b)∧∀p ∈ X.pn ++ pins,p.1 ≠ b)
  (keep:∀b o,b ≠ X.env.locals→b ∉ X.fs→b ∉ ch→s.heap.get? b=some o→H b=none→h'.get? b=some o)
  (slot:∀b o,b ≠ X.env.locals→b ∈ X.fs→b ∉ ch→s.heap.get? b=some o→H b=none→∃sl,h'.get? b=some {o with slots:=sl}) (free:∀b o,b ∉ ch→s.heap.get? b=some o→H b=none→H' b=none)
  (there:∀b o,b ∉ ch→s.heap.get? b=some o→∃o',h'.get? b=some o')
  (IE:∀b xs,H b=some (.tup xs)→H' b=some (.tup xs)) (CA:∀b o u,H b=some (.pV o u)→H' b=some (.pV o u)) (Hi:∀b ps,H b=some (.Tj ps)→∃more,H' b=some (.Tj (ps ++ more)))
  (ns:∀m,s.heap.Ns X.env.locals m→h'.Ns X.env.locals m) (dB:xB X.prog X.w H' h') (hg:AllBare g'):
  Inv X pins σ H' {s with heap:=h',gens:=g',drawn:=d',toks:=t'}:=by
 have neL:∀b o,X.s₀.heap.get? b=some o→b ≠ X.env.locals:=fun b o e=>Nat.ne_of_lt (Nat.lt_of_lt_of_le (Heap.lt_size e) I.ok.above)
 have neC:∀b o,X.s₀.heap.get? b=some o→b ∉ X.ex→b ∉ ch:=fun b o e hx hb=>by
  rcases (hch b hb).1 with z | z
  ·exact hx z
  ·exact absurd (Nat.lt_of_lt_of_le (Heap.lt_size e) z) (Nat.lt_irrefl _)
 have cellK:∀x c,X.env.cells.lookup x=some c→∀v,s.heap.IsCell c v→h'.IsCell c v:=fun x c e v ⟨o,ho,hd⟩=>by
  have nch:c ∉ ch:=fun z=>(hch c z).2.2.1 x c e rfl
  by_cases hc:c ∈ X.fs
  ·obtain ⟨sl,q⟩:=slot c o (I.T6 x c e) hc nch ho (I.qa x c e)
   exact ⟨_,q,hd⟩
  ·exact ⟨o,keep c o (I.T6 x c e) hc nch ho (I.qa x c e),hd⟩
 refine ⟨I.ok,I.os,hg,⟨fun b o e n hb hx=>?_,fun b o e n hb hx=>?_,fun b o e n hx=>?_,fun b o e hx=>?_,fun b xs e=>IE b xs (I.base.IE b xs e),fun b o xs e=>CA b o xs (I.base.CA b o xs e),fun b ps e=>?_⟩,?_,fun x c e=>?_,?_,fun x c e=>?_,fun p hp=>?_,dB,I.len⟩
 ·exact keep b o (neL b o e) hb (neC b o e hx) (I.base.keep b o e n hb hx) (I.base.free b o e n hx)
 ·obtain ⟨sl,e1⟩:=I.base.slot b o e n hb hx
  obtain ⟨sl',e2⟩:=slot b _ (neL b o e) hb (neC b o e hx) e1 (I.base.free b o e n hx)
  exact ⟨sl',e2⟩
 ·obtain ⟨o',e1⟩:=I.base.there b o e hx
  exact free b o' (neC b o e hx) e1 (I.base.free b o e n hx)
 ·obtain ⟨o',e1⟩:=I.base.there b o e hx
  exact there b o' (neC b o e hx) e1
 ·obtain ⟨m1,e1⟩:=I.base.Hi b ps e
  obtain ⟨m2,e2⟩:=Hi b _ e1
  exact ⟨m1 ++ m2,by rw [e2,Array.append_assoc]⟩
 ·obtain ⟨m,hn,hl⟩:=I.loc
  refine ⟨m,ns m hn,fun i x v e1 e2 e3=>?_⟩
  obtain ⟨u,r,l⟩:=hl i x v e1 e2 e3
  refine ⟨u,r,?_⟩
  rcases l with l | ⟨k,c,e,z⟩
  ·exact .inl l
  ·exact .inr ⟨k,c,e,cellK x c e _ z⟩
 ·obtain ⟨v,z⟩:=I.cell x c e
  exact ⟨v,cellK x c e v z⟩
 ·obtain ⟨m,⟨o,_,_,ho,_⟩,_⟩:=I.loc
  exact free _ o (fun z=>(hch _ z).2.1 rfl) ho I.free
 ·obtain ⟨v,o,ho,hd⟩:=I.cell x c e
  exact free c o (fun z=>(hch c z).2.2.1 x c e rfl) ho (I.qa x c e)
 ·obtain ⟨e,n,ne,nf,d⟩:=I.pin p hp
  have nch:p.1 ∉ ch:=fun z=>(hch p.1 z).2.2.2 p hp rfl
  exact ⟨keep p.1 p.2 ne nf nch e n,free p.1 p.2 nch e n,ne,nf,d⟩
theorem Inv.un{t':Nat}(I:Inv X pins σ H s)(u:Un X.fs [] H H' s.heap h')(dB:xB X.prog X.w H' h'):Inv X pins σ H' {s with heap:=h',toks:=t'}:=by
 obtain ⟨m,⟨o,es,ep,ho,r⟩,_⟩:=id I.loc
 obtain ⟨sl,hL⟩:=u.any ho I.free (by simp)
 exact I.step (g':=s.gens) (d':=s.drawn) (ch:=[]) (fun _ z=>nomatch z) (fun b o _ hb _ e n=>u.keep b o e n hb (by simp)) (fun b o _ hb _ e n=>u.slot b o e n hb (by simp)) (fun b o _ e n=>u.free b o e n (by simp)) (fun b o _ e=>u.there b o e (by simp)) u.IE u.CA u.Hi (fun m' hm=>by
  obtain ⟨o',es',ep',ho',r'⟩:=hm
  rw [ho] at ho';cases ho'
  exact ⟨_,es',ep',hL,r'⟩) dB I.bare
theorem Inv.call{g':Array GenState}{t':Nat}{d':Drawn}{ch:List Addr}(I:Inv X pins σ H s)(u:Un (Rf X.stack) ch H H' s.heap h')(dB:xB X.prog X.w H' h')(hg:AllBare g')
  (hch:∀b ∈ ch,(b ∈ X.ex∨X.s₀.heap.objs.size≤b)∧b ≠ X.env.locals∧(∀x c,X.env.cells.lookup x=some c→c ≠ b)∧∀p ∈ X.pn ++ pins,p.1 ≠ b):
  Inv X pins σ H' {s with heap:=h',gens:=g',drawn:=d',toks:=t'}:=by
 obtain ⟨m,⟨o,es,ep,ho,r⟩,_⟩:=id I.loc
 obtain ⟨sl,hL⟩:=u.any ho I.free fun z=>(hch _ z).2.1 rfl
 exact I.step (ch:=ch) hch (fun b o hL hb hc e n=>u.keep b o e n (fun z=>(List.mem_cons.mp (I.L1 b z)).elim hL hb) hc) (fun b o _ _ hc e n=>u.any e n hc) (fun b o hc e n=>u.free b o e n hc) (fun b o hc e=>u.there b o e hc) u.IE u.CA u.Hi (fun m' hm=>by
  obtain ⟨o',es',ep',ho',r'⟩:=hm
  rw [ho] at ho';cases ho'
  exact ⟨_,es',ep',hL,r'⟩) dB hg
theorem Inv.turned{t':Nat}{it:Addr}(I:Inv X pins σ H s)(k:∀b o,b ≠ it→s.heap.get? b=some o→h'.get? b=some o)(hn:H it=none)(hL:it ≠ X.env.locals)
  (h1:it ∈ X.ex∨X.s₀.heap.objs.size≤it) (h2:∀x c,X.env.cells.lookup x=some c→c ≠ it) (h3:∀p ∈ X.pn ++ pins,p.1 ≠ it):Inv X pins σ H {s with heap:=h',toks:=t'}:=by
 have nit:∀b u,H b=some u→b ≠ it:=fun b u e z=>by rw [z,hn] at e;cases e
 refine I.step (g':=s.gens) (d':=s.drawn) (ch:=[it]) (fun b hb=>?_) (fun b o _ _ hc e _=>k b o (fun z=>hc (by simp [z])) e) (fun b o _ _ hc e _=>⟨o.slots,k b o (fun z=>hc (by simp [z])) e⟩) (fun _ _ _ _ n=>n)
  (fun b o hc e=>⟨o,k b o (fun z=>hc (by simp [z])) e⟩) (fun _ _ e=>e) (fun _ _ _ e=>e) (fun b ps e=>⟨#[],by rw [e];simp⟩) (fun m hm=>?_) (fun b u e=>?_) I.bare
 ·have e:b=it:=by simpa using hb
  subst e
  exact ⟨h1,hL,h2,h3⟩
 ·obtain ⟨o,es,ep,ho,r⟩:=hm
  exact ⟨o,es,ep,k _ o (Ne.symm hL) ho,r⟩
 ·refine (I.dB b u e).jn (fun c v hc q=>k c v ?_ q) (fun _ q=>q) fun _ _ q=>q
  rcases hc with z | z
  ·rw [z];exact nit b u e
  ·exact nit c _ z
theorem Inv.tok(I:Inv X pins σ H s)(t:Nat):Inv X pins σ H {s with toks:=t}:=I.un (h':=s.heap) (t':=t) Un.refl I.dB
theorem Inv.kept{t':Nat}(I:Inv X pins σ H s)(k:∀b u,s.heap.get? b=some u→h'.get? b=some u):Inv X pins σ H {s with heap:=h',toks:=t'}:=I.un (Un.kept k) (I.dB.kept k)
theorem Inv.laid{a:Addr}{o:HO}{t':Nat}(I:Inv X pins σ H s)(k:∀b u,s.heap.get? b=some u→h'.get? b=some u)(hp:s.heap.objs.size≤a)(new:gD X.prog X.w (upd H a o) h' a o):
  Inv X pins σ (upd H a o) {s with heap:=h',toks:=t'}:=I.un (Un.laid k hp (I.dB.fresh hp)) (I.dB.laid k hp new)
theorem Inv.write{x e:Addr}{o:HO}{t':Nat}(I:Inv X pins σ H s)(mu:S0 (H x))(he:e=x∨H e=some (.own x))(k:∀b u,b ≠ e→s.heap.get? b=some u→h'.get? b=some u)(heo:∃u,h'.get? e=some u)
  (new:gD X.prog X.w (upd H x o) h' x o):Inv X pins σ (upd H x o) {s with heap:=h',toks:=t'}:=I.un (Un.write mu he k heo) (I.dB.write mu he k heo new)
theorem Inv.weak{σ':List (Option V)}(I:Inv X pins σ H s)(hl:σ'.length=σ.length)(w:∀(i:Nat)v,σ'[i]? = some (some v)→σ[i]? = some (some v)):Inv X pins σ' H s:=
 ⟨I.ok,I.os,I.bare,I.base,let ⟨m,hn,hl'⟩:=I.loc;⟨m,hn,fun i x v e1 e2 e3=>hl' i x v e1 (w i v e2) e3⟩,I.cell,I.free,I.qa,I.pin,I.dB,hl.trans I.len⟩
theorem Inv.MU{pins':List (Addr × Obj)}(I:Inv X pins σ H s)(h:∀p ∈ pins',s.heap.get? p.1=some p.2∧H p.1=none∧p.1 ≠ X.env.locals∧p.1 ∉ X.fs∧∀v,p.2.data ≠ .cell v):Inv X pins' σ H s:=
 ⟨I.ok,I.os,I.bare,I.base,I.loc,I.cell,I.free,I.qa,fun p hp=>(List.mem_append.mp hp).elim (fun z=>I.pin p (List.mem_append_left _ z)) (h p),I.dB,I.len⟩
theorem Ec{N:List Str}(hN:N.Nodup){i j:Nat}{x:Str}(a:N[i]? = some x)(b:N[j]? = some x):i=j:=by
 obtain ⟨h1,e1⟩:=List.getElem?_eq_some_iff.mp a
 obtain ⟨h2,e2⟩:=List.getElem?_eq_some_iff.mp b
 exact (List.getElem_inj hN).mp (e1.trans e2.symm)
theorem Gq{M:Model}{A:Around}{E:Value→Shared→Prop}{i:Nat}{x:Str}{v:V}{u:Value}{Q:Unit→Shared→Prop}(I:Inv X pins σ H s)(hN:X.N.Nodup)(hi:X.N[i]? = some x)(hx:Loc X.env.scope x)(r:RelV v u)
  (h:∀s',Inv X pins (σ.set i (some v)) H s'→(∃a,Heap.SameBut a s.heap s'.heap∧(a=X.env.locals∨X.env.cells.lookup x=some a))→Q () s') (hf:X.fn x=true∨X.env.scope.names.lookup x=some .local:=by first | exact .inl rfl | exact .inr rfl | assumption):wpAny M A (storeName X.env x u) Q E s:=by
 obtain ⟨m,hn,hl⟩:=id I.loc
 have hcls:(X.env.scope.kind == .class || (X.env.scope.kind == .module && X.env.locals != X.env.globals))=false:=by rw [I.ok.kind];rfl
 have hiσ:i < σ.length:=by rw [I.len];exact (List.getElem?_eq_some_iff.mp hi).1
 have T6:=I.T6
 have tracked:∀{a:Addr}{h':Heap},(∃o,s.heap.get? a=some o∧H a=none)→Heap.SameBut a s.heap h'→xB X.prog X.w H h':=fun {a h'} ha hs b ob e=>by
  obtain ⟨_,_,hfree⟩:=ha
  refine (I.dB b ob e).jn (fun c w' hc q=>(hs.2 c ?_).trans q) (fun _ q=>q) fun _ _ q=>q
  rintro rfl
  rcases hc with rfl | hc
  ·rw [hfree] at e;cases e
  ·rw [hfree] at hc;cases hc
 rcases hx with hk | hk
 ·refine wpAny_storeName_local hk hn (fun h' hn' hs=>?_) hcls
  obtain ⟨oL,_,_,hoL,_⟩:=id hn
  refine h _ ⟨I.ok,I.os,I.bare,⟨fun b o e n hb hx=>?_,fun b o e n hb hx=>?_,I.base.free,fun b o e hx=>?_,I.base.IE,I.base.CA,I.base.Hi⟩,⟨_,hn',fun j y v' e1 e2 e3=>?_⟩,fun y c e=>?_,I.free,I.qa,fun p hp=>?_,tracked ⟨oL,hoL,I.free⟩ hs,by simpa using I.len⟩ ⟨_,hs,.inl rfl⟩
  ·exact (hs.2 b (Nat.ne_of_lt (Nat.lt_of_lt_of_le (Heap.lt_size e) I.ok.above))).trans (I.base.keep b o e n hb hx)
  ·obtain ⟨sl,e1⟩:=I.base.slot b o e n hb hx
   exact ⟨sl,(hs.2 b (Nat.ne_of_lt (Nat.lt_of_lt_of_le (Heap.lt_size e) I.ok.above))).trans e1⟩
  ·obtain ⟨o',e1⟩:=I.base.there b o e hx
   exact ⟨o',(hs.2 b (Nat.ne_of_lt (Nat.lt_of_lt_of_le (Heap.lt_size e) I.ok.above))).trans e1⟩
  ·by_cases hj:j=i
   ·subst hj
    rw [hi] at e1;cases e1
    rw [List.getElem?_set_self hiσ] at e2
    cases e2
    exact ⟨u,r,.inl ⟨hk,by simp⟩⟩
   ·rw [List.getElem?_set_ne (Ne.symm hj)] at e2
    obtain ⟨u',r',q⟩:=hl j y v' e1 e2 e3
    refine ⟨u',r',?_⟩
    rcases q with ⟨k,e⟩ | ⟨k,c,e,z⟩
    ·refine .inl ⟨k,?_⟩
     have:y ≠ x:=fun e=>hj (Ec hN e1 (e ▸ hi))
     simp [this,e]
    ·exact .inr ⟨k,c,e,z.sameBut hs (T6 y c e)⟩
  ·obtain ⟨w',z⟩:=I.cell y c e
   exact ⟨w',z.sameBut hs (T6 y c e)⟩
  ·obtain ⟨e,n,ne,nf,d⟩:=I.pin p hp
   exact ⟨(hs.2 p.1 ne).trans e,n,ne,nf,d⟩
 ·have SQ:X.fn x=true:=by
   rcases hf with z | z
   ·exact z
   ·rw [z] at hk;cases hk
  obtain ⟨c,hc⟩:=I.ok.has x (.inl hk)
  obtain ⟨w',z⟩:=I.cell x c hc
  refine wpAny_storeName_cell I.ok.kind hk hc z (fun h' hc' hs=>?_)
  obtain ⟨oc,hoc,hocd⟩:=id z
  refine h {s with heap:=h'} ⟨I.ok,I.os,I.bare,⟨fun b o e n hb hx=>?_,fun b o e n hb hx=>?_,I.base.free,fun b o e hx=>?_,I.base.IE,I.base.CA,I.base.Hi⟩,⟨m,hn.sameBut hs (Ne.symm (T6 x c hc)),fun j y v' e1 e2 e3=>?_⟩,fun y c' e=>?_,I.free,I.qa,fun p hp=>?_,tracked ⟨oc,hoc,I.qa x c hc⟩ hs,by simpa using I.len⟩ ⟨c,hs,.inr hc⟩
  ·exact (hs.2 b (Nat.ne_of_lt (Nat.lt_of_lt_of_le (Heap.lt_size e) (I.ok.UW x c SQ hc)))).trans (I.base.keep b o e n hb hx)
  ·obtain ⟨sl,e1⟩:=I.base.slot b o e n hb hx
   exact ⟨sl,(hs.2 b (Nat.ne_of_lt (Nat.lt_of_lt_of_le (Heap.lt_size e) (I.ok.UW x c SQ hc)))).trans e1⟩
  ·obtain ⟨o',e1⟩:=I.base.there b o e hx
   exact ⟨o',(hs.2 b (Nat.ne_of_lt (Nat.lt_of_lt_of_le (Heap.lt_size e) (I.ok.UW x c SQ hc)))).trans e1⟩
  ·by_cases hj:j=i
   ·subst hj
    rw [hi] at e1;cases e1
    rw [List.getElem?_set_self hiσ] at e2
    cases e2
    exact ⟨u,r,.inr ⟨.inl hk,c,hc,hc'⟩⟩
   ·rw [List.getElem?_set_ne (Ne.symm hj)] at e2
    obtain ⟨u',r',q⟩:=hl j y v' e1 e2 e3
    refine ⟨u',r',?_⟩
    rcases q with q | ⟨k,c',e,z'⟩
    ·exact .inl q
    ·refine .inr ⟨k,c',e,z'.sameBut hs ?_⟩
     rintro rfl
     exact hj (Ec hN e1 (I.ok.inj _ _ _ e hc ▸ hi))
  ·by_cases hcc:c'=c
   ·subst hcc;exact ⟨_,hc'⟩
   ·obtain ⟨w2,z2⟩:=I.cell y c' e
    exact ⟨w2,z2.sameBut hs hcc⟩
  ·obtain ⟨e,n,ne,nf,d⟩:=I.pin p hp
   refine ⟨(hs.2 p.1 ?_).trans e,n,ne,nf,d⟩
   intro q
   rw [q,hoc] at e
   have q':oc=p.2:=Option.some.inj e
   exact d w' (by rw [←q'];exact hocd)
theorem Dt{M:Model}{A:Around}{E:Value→Shared→Prop}{i:Nat}{x:Str}{v:V}{u:Value}{Q:Unit→Shared→Prop}(I:Inv X pins σ H s)(hN:X.N.Nodup)(hi:X.N[i]? = some x)(hx:Loc X.env.scope x)(r:RelV v u)
  (h:∀s',Inv X pins (σ.set i (some v)) H s'→Q () s') (hf:X.fn x=true∨X.env.scope.names.lookup x=some .local:=by first | exact .inl rfl | exact .inr rfl | assumption):wpAny M A (storeName X.env x u) Q E s:=
 Gq I hN hi hx r (fun s' I' _=>h s' I') hf
theorem Inv.US{s':Shared}{ch:List Addr}(I:Inv X pins σ H s)(ho:s'.os=s.os)(u:Un (Rf X.stack) ch H H' s.heap s'.heap)(dB:xB X.prog X.w H' s'.heap)(hg:AllBare s'.gens)
  (hch:∀b ∈ ch,(b ∈ X.ex∨X.s₀.heap.objs.size≤b)∧b ≠ X.env.locals∧(∀x c,X.env.cells.lookup x=some c→c ≠ b)∧∀p ∈ X.pn ++ pins,p.1 ≠ b):Inv X pins σ H' s':=by
 obtain ⟨h',g',d',t',o'⟩:=s'
 have e:o'=s.os:=ho
 subst e
 exact I.call (g':=g') (t':=t') (d':=d') u dB hg hch
end
abbrev XK:=Value→Option Addr→Hp→Prop
abbrev St:=List (Option V)
abbrev VK:=V→Hp→Prop
abbrev TE:=St→Hp→VK→Prop
abbrev TT:=St→Hp→(Bool→Hp→Prop)→Prop
abbrev TA:=St→Hp→(List V→Hp→Prop)→Prop
structure Ends where
 nx:St→Hp→Prop
 rt:VK
 bk:St→Hp→Prop:=fun _ _=>False
 ct:St→Hp→Prop:=fun _ _=>False
abbrev TS:=Ends→St→Hp→Prop
def EP(X:Cx)(pins:List (Addr × Obj))(σ:St)(Q:VK)(u:Value)(s':Shared):Prop:=∃v H',Inv X pins σ H' s'∧RelV v u∧Q v H'
def TP(X:Cx)(pins:List (Addr × Obj))(σ:St)(Q:Bool→Hp→Prop)(b:Bool)(s':Shared):Prop:=∃H',Inv X pins σ H' s'∧Q b H'
def AP(X:Cx)(pins:List (Addr × Obj))(σ:St)(Q:List V→Hp→Prop)(us:List Value)(s':Shared):Prop:=∃vs H',Inv X pins σ H' s'∧Vals vs us∧Q vs H'
def SP(X:Cx)(pins:List (Addr × Obj))(D:Ends)(f:Flow)(s':Shared):Prop:=
 match f with
 | .next=>∃σ' H',Inv X pins σ' H' s'∧D.nx σ' H'
 | .brk=>∃σ' H',Inv X pins σ' H' s'∧D.bk σ' H'
 | .cont=>∃σ' H',Inv X pins σ' H' s'∧D.ct σ' H'
 | .ret u=>∃v σ' H',Inv X pins σ' H' s'∧RelV v u∧D.rt v H'
def PE(X:Cx)(e:Expr)(t:TE):Prop:=
 ∀(pins:List (Addr × Obj))(s:Shared)(σ:St)(H:Hp)(Q:VK),Inv X pins σ H s→t σ H Q→wpAny (model X.prog X.w) X.A (eval e X.env) (EP X pins σ Q) X.xe s
def PT(X:Cx)(e:Expr)(t:TT):Prop:=
 ∀(pins:List (Addr × Obj))(s:Shared)(σ:St)(H:Hp)(Q:Bool→Hp→Prop),Inv X pins σ H s→t σ H Q→wpAny (model X.prog X.w) X.A (isTrue e X.env (eval e X.env)) (TP X pins σ Q) X.xe s
def PW(X:Cx)(e:Expr)(t:TT):Prop:=
 ∀(whole:Sem Value)(pins:List (Addr × Obj))(s:Shared)(σ:St)(H:Hp)(Q:Bool→Hp→Prop),Inv X pins σ H s→t σ H Q→wpAny (model X.prog X.w) X.A (isTrue e X.env whole) (TP X pins σ Q) X.xe s
theorem PW.pt{X:Cx}{e:Expr}{t:TT}(h:PW X e t):PT X e t:=h _
def PA(X:Cx)(es:List Expr)(t:TA):Prop:=
 ∀(pos:Pos)(pins:List (Addr × Obj))(s:Shared)(σ:St)(H:Hp)(Q:List V→Hp→Prop),Inv X pins σ H s→t σ H Q→wpAny (model X.prog X.w) X.A (spliced (backTo pos (starEach es X.env))) (AP X pins σ Q) X.xe s
def PS(X:Cx)(st:Stmt)(t:TS):Prop:=
 ∀(pins:List (Addr × Obj))(s:Shared)(σ:St)(H:Hp)(D:Ends),Inv X pins σ H s→t D σ H→wpAny (model X.prog X.w) X.A (exec st X.env) (SP X pins D) X.xe s
def NN(X:Cx)(st:List Stmt)(t:TS):Prop:=
 ∀(pins:List (Addr × Obj))(s:Shared)(σ:St)(H:Hp)(D:Ends),Inv X pins σ H s→t D σ H→wpAny (model X.prog X.w) X.A (execs st X.env) (SP X pins D) X.xe s
theorem c7{α:Type}{t:Sem α}{Q Q':α→Shared→Prop}{M:Model}{A:Around}{E:Value→Shared→Prop}{s:Shared}(h:wpAny M A t Q E s)(hQ:∀a s,Q a s→Q' a s):wpAny M A t Q' E s:=wpAny_mono h hQ fun _ _ x=>x
end L2
namespace L2
open PySem PySem.Spec PyProof.Rows
section
variable{X:Cx}
def ag(i:Nat):TE:=fun σ H Q=>∃v,σ[i]? = some (some v)∧Q v H
def tC(v:V):TE:=fun _ H Q=>Q v H
theorem To{i:Nat}{x:Str}{pos:Pos}(hN:X.N[i]? = some x)(hv:UB X.env.scope x)(hd:(x == ("__debug__":Str))=false:=by decide)(hcd:(x == ("__classdict__":Str))=false:=by decide):PE X (.Name x pos) (ag i):=by
 intro pins s σ H Q I h
 obtain ⟨v,e,h⟩:=h
 obtain ⟨m,hn,hl⟩:=I.loc
 obtain ⟨u,r,l⟩:=hl i x v hN e hv
 have fin:EP X pins σ Q u s:=⟨v,H,I,r,h⟩
 rcases l with ⟨hk,hm⟩ | ⟨hk,c,hc,hcell⟩
 ·exact wpAny_Name (wpAny_loadName_local I.ok.kind hk hn hm fin) hd
 ·rcases hk with hk | hk
  ·exact wpAny_Name (wpAny_loadName_cell I.ok.kind hk hc hcell fin) hd
  ·exact wpAny_Name (wpAny_loadName_free I.ok.kind hk hc hcell fin hcd) hd
theorem ak{i j pos}:PE X (.Constant (.int i) j pos) (tC (.int i)):=fun _ _ _ H _ I h=>wpAny_Constant_int ⟨.int i,H,I.tok _,⟨_,rfl⟩,h⟩
theorem ll{b j pos}:PE X (.Constant (.bool b) j pos) (tC (.bl b)):=fun _ _ _ H _ I h=>Constant_bool ⟨.bl b,H,I,rfl,h⟩
theorem fv{j pos}:PE X (.Constant .none j pos) (tC .bB):=fun _ _ _ H _ I h=>Constant_none ⟨.bB,H,I,rfl,h⟩
theorem dP{x j pos}:PE X (.Constant (.str x) j pos) (tC (.str x)):=fun _ _ _ H _ I h=>Calls.Constant_str ⟨.str x,H,I.tok _,⟨_,rfl⟩,h⟩
def Gl(X:Cx)(x:Str):Prop:=X.env.kindOf x=some .globalImplicit
theorem Cq{E:Value→Shared→Prop}{pins:List (Addr × Obj)}{s:Shared}{σ:St}{H:Hp}{x:Str}{u:Value}{pos:Pos}{Q:Value→Shared→Prop}(I:Inv X pins σ H s)(hg:Gl X x)(hm:X.mg x=some u)(h:Q u s)
  (hd:(x == ("__debug__":Str))=false:=by decide):wpAny (model X.prog X.w) X.A (eval (.Name x pos) X.env) Q E s:=
 Calls.Name_function_global I.ok.kind hg (Calls.loadGlobal_global (by rw [I.ok.glob];exact I.mod.glob.keeps I.bk) hm h) hd
theorem zB{E:Value→Shared→Prop}{pins:List (Addr × Obj)}{s:Shared}{σ:St}{H:Hp}{x:Str}{u:Value}{pos:Pos}{Q:Value→Shared→Prop}(I:Inv X pins σ H s)(hg:Gl X x)(hm:X.mg x=none)(hv:bootBuiltins x=some u)(h:Q u s)
  (hn:x ≠ "__name__":=by decide) (hd:(x == ("__debug__":Str))=false:=by decide):wpAny (model X.prog X.w) X.A (eval (.Name x pos) X.env) Q E s:=by
 obtain ⟨mb,h1,h2⟩:=I.mod.blt
 exact Calls.Name_function_global I.ok.kind hg (Calls.loadGlobal_builtin (by rw [I.ok.glob];exact I.mod.glob.keeps I.bk) hm (by rw [I.ok.blt];exact h1.keeps I.bk) ((h2 x hn).trans hv) h) hd
theorem aq{x:Str}{v:V}{u:Value}{pos:Pos}(hg:Gl X x)(hm:X.mg x=some u)(r:RelV v u)(hd:(x == ("__debug__":Str))=false:=by decide):PE X (.Name x pos) (tC v):=
 fun _ _ _ H _ I h=>Cq I hg hm ⟨v,H,I,r,h⟩ hd
variable{a b:Expr}{ta tb:TE}{pos:Pos}
def PC(X:Cx)(op:CmpOp)(a b:Expr)(t:TE):Prop:=
 ∀(pins:List (Addr × Obj))(s:Shared)(σ:St)(H:Hp)(Q:VK),Inv X pins σ H s→t σ H Q→
  wpAny (model X.prog X.w) X.A (eval a X.env) (fun v s₁=>wpAny (model X.prog X.w) X.A (eval b X.env) (fun u s₂=>wpAny (model X.prog X.w) X.A (compareOp op v u) (EP X pins σ Q) X.xe s₂) X.xe s₁) X.xe s
theorem Jq(b:Expr){op:CmpOp}(h:op ≠ .In)(h2:op ≠ .NotIn):behindInMarks op b=false:=by
 have e1:(op == CmpOp.In)=false:=by cases op <;> first | rfl | exact absurd rfl h
 have e2:(op == CmpOp.NotIn)=false:=by cases op <;> first | rfl | exact absurd rfl h2
 cases b <;> simp [behindInMarks,e1,e2]
def Fy(ta:TE):TE:=fun σ H Q=>ta σ H fun x H1=>Q (.bl (decide (x= .bB))) H1
def ND(ta:TE):TE:=fun σ H Q=>ta σ H fun x H1=>Q (.bl (!decide (x= .bB))) H1
theorem RelV.Jp{x:V}{v:Value}(r:RelV x v):(v == Value.none)=decide (x= .bB):=by
 cases x with
 | bB=>cases r;rfl
 | bl _=>cases r;rfl
 | int _=>obtain ⟨t,rfl⟩:=r;rfl
 | str _=>obtain ⟨t,rfl⟩:=r;rfl
 | vq _=>obtain ⟨t,rfl⟩:=r;rfl
 | flt _=>obtain ⟨t,rfl⟩:=r;rfl
 | ref _=>cases r;rfl
 | ty _=>cases r;rfl
theorem tM{j pos'}(ha:PE X a ta):PC X .Is a (.Constant .none j pos') (Fy ta):=by
 intro pins s σ H Q I h
 refine c7 (ha pins s σ H _ I h) fun v s1 ⟨x,H1,I1,r1,q1⟩=>?_
 exact Constant_none (is_none_gen ⟨.bl _,H1,I1,by rw [r1.Jp];rfl,q1⟩)
theorem Iw{j pos'}(ha:PE X a ta):PC X .IsNot a (.Constant .none j pos') (ND ta):=by
 intro pins s σ H Q I h
 refine c7 (ha pins s σ H _ I h) fun v s1 ⟨x,H1,I1,r1,q1⟩=>?_
 exact Constant_none (isnot_none_gen ⟨.bl _,H1,I1,by rw [r1.Jp];rfl,q1⟩)
def tB(t:TE):TT:=fun σ H Q=>t σ H fun x H1=>∃c,x= .bl c∧Q c H1
theorem TB{op:CmpOp}{t:TE}(h:PC X op a b t)(h1:behindInMarks op b=false:=by first | exact Jq _ (by decide) (by decide) | rfl):PE X (.Compare a [op] [b] pos) t:=fun pins s σ H Q I hw=>wpAny_Compare1 (h pins s σ H Q I hw) h1
theorem mR{op:CmpOp}{t:TE}(h:PC X op a b t)(h1:behindInMarks op b=false:=by first | exact Jq _ (by decide) (by decide) | rfl):PT X (.Compare a [op] [b] pos) (tB t):=by
 intro pins s σ H Q I hw
 refine wpAny_isTrue_Compare1 (c7 (h pins s σ H _ I hw) fun v s1 h1=>c7 h1 fun u s2 h2=>c7 h2 fun c s3 ⟨x,H1,I1,r1,q1⟩=>?_) h1
 obtain ⟨d,rfl,q⟩:=q1
 cases r1
 exact wpAny_truthy_bool ⟨H1,I1,q⟩
theorem dQ{e:Expr}{t:TE}(h:PE X e t)(he:∀whole,isTrue e X.env whole= (do let v ←whole;standAt e.pos;holding [v] (truthy v)):=by intro _;rfl):PT X e (tB t):=by
 intro pins s σ H Q I hw
 refine isTrue_plain (c7 (h pins s σ H _ I hw) fun v s1 ⟨x,H1,I1,r1,q1⟩=>?_) (he _)
 obtain ⟨d,rfl,q⟩:=q1
 cases r1
 exact wpAny_truthy_bool ⟨H1,I1,q⟩
variable{tA tB':TT}{rest:List Expr}
def sZ(t u:TT):TT:=fun σ H Q=>t σ H fun c H1=>if c=true then u σ H1 Q else Q false H1
def PN(t u:TT):TT:=fun σ H Q=>t σ H fun c H1=>if c=true then Q true H1 else u σ H1 Q
def vy(t:TT):TT:=fun σ H Q=>t σ H fun c H1=>Q (!c) H1
theorem fO(ha:PT X a tA):PW X (.BoolOp .And [a] pos) tA:=by
 intro wh pins s σ H Q I h
 refine isTrue_and (c7 (ha pins s σ H Q I h) fun c s1 e=>?_)
 cases c with
 | true=>exact isTrue_and_nil e
 | false=>exact e
theorem qM(ha:PT X a tA):PW X (.BoolOp .Or [a] pos) tA:=by
 intro wh pins s σ H Q I h
 refine isTrue_or (c7 (ha pins s σ H Q I h) fun c s1 e=>?_)
 cases c with
 | false=>exact isTrue_or_nil e
 | true=>exact e
theorem jc(ha:PT X a tA)(hb:PW X (.BoolOp .And (b::rest) pos) tB'):PW X (.BoolOp .And (a::b::rest) pos) (sZ tA tB'):=by
 intro wh pins s σ H Q I h
 refine isTrue_and (c7 (ha pins s σ H _ I h) fun c s1 ⟨H1,I1,q1⟩=>?_)
 cases c with
 | true=>exact hb wh pins s1 σ H1 Q I1 q1
 | false=>exact ⟨H1,I1,q1⟩
theorem vQ(ha:PT X a tA)(hb:PW X (.BoolOp .Or (b::rest) pos) tB'):PW X (.BoolOp .Or (a::b::rest) pos) (PN tA tB'):=by
 intro wh pins s σ H Q I h
 refine isTrue_or (c7 (ha pins s σ H _ I h) fun c s1 ⟨H1,I1,q1⟩=>?_)
 cases c with
 | true=>exact ⟨H1,I1,q1⟩
 | false=>exact hb wh pins s1 σ H1 Q I1 q1
theorem iG(ha:PT X a tA):PT X (.UnaryOp .Not a pos) (vy tA):=by
 intro pins s σ H Q I h
 exact isTrue_not (ha pins s σ H (fun c H1=>Q (!c) H1) I h)
def Dj(ta tb:TE):TE:=fun σ H Q=>ta σ H fun x H1=>∃c,x= .bl c∧if c=true then tb σ H1 Q else Q (.bl false) H1
def Tq(ta tb:TE):TE:=fun σ H Q=>ta σ H fun x H1=>∃c,x= .bl c∧if c=true then Q (.bl true) H1 else tb σ H1 Q
theorem CC{op}{t:TE}(h:PE X a t):PE X (.BoolOp op [a] pos) t:=fun pins s σ H Q I hw=>BoolOp_one (h pins s σ H Q I hw)
theorem Ie(ha:PE X a ta)(hb:PE X (.BoolOp .And (b::rest) pos) tb):PE X (.BoolOp .And (a::b::rest) pos) (Dj ta tb):=by
 intro pins s σ H Q I h
 refine BoolOp_and (c7 (ha pins s σ H _ I h) fun v s1 ⟨x,H1,I1,r1,q1⟩=>?_)
 obtain ⟨c,rfl,q1⟩:=q1
 cases r1
 refine wpAny_truthy_bool ?_
 cases c with
 | true=>exact hb pins s1 σ H1 Q I1 q1
 | false=>exact ⟨.bl false,H1,I1,rfl,q1⟩
theorem Vi(ha:PE X a ta)(hb:PE X (.BoolOp .Or (b::rest) pos) tb):PE X (.BoolOp .Or (a::b::rest) pos) (Tq ta tb):=by
 intro pins s σ H Q I h
 refine BoolOp_or (c7 (ha pins s σ H _ I h) fun v s1 ⟨x,H1,I1,r1,q1⟩=>?_)
 obtain ⟨c,rfl,q1⟩:=q1
 cases r1
 refine wpAny_truthy_bool ?_
 cases c with
 | false=>exact hb pins s1 σ H1 Q I1 q1
 | true=>exact ⟨.bl true,H1,I1,rfl,q1⟩
def Ol(t:TT)(ta tb:TE):TE:=fun σ H Q=>t σ H fun c H1=>if c=true then ta σ H1 Q else tb σ H1 Q
theorem gJ{c:Expr}(hc:PT X c tA)(ha:PE X a ta)(hb:PE X b tb):PE X (.IfExp c a b pos) (Ol tA ta tb):=by
 intro pins s σ H Q I h
 refine wpAny_IfExp (c7 (hc pins s σ H _ I h) fun d s1 ⟨H1,I1,q1⟩=>?_)
 cases d with
 | true=>exact ha pins s1 σ H1 Q I1 q1
 | false=>exact hb pins s1 σ H1 Q I1 q1
end
end L2
namespace L2
open PySem PySem.Spec PyProof.Rows
def cb(K:PySem.W.Frag)(H:Hp)(a:Addr)(xs:List V):Prop:=
 Rd H a (.lst xs)∨
  ∃(o:Obj)(its:Array Value)(n:Nat),K.lookup a=some o∧o.cls= .type "list"∧o.dict=none∧o.data= .seq its n∧its.size≤sizeLine∧Vals xs its.toList
def Lw(K:PySem.W.Frag)(H:Hp)(a:Addr)(xs:List V):Prop:=
 Rd H a (.tup xs)∨
  ∃(o:Obj)(its:Array Value)(n:Nat),K.lookup a=some o∧o.cls= .type "tuple"∧o.data= .seq its n∧its.size≤sizeLine∧Vals xs its.toList
def VH:Value→Option V
 | .none=>some .bB
 | .bool b=>some (.bl b)
 | .int i _=>some (.int i)
 | .str x _=>some (.str x)
 | .bytes b _=>some (.vq b)
 | .float b _=>some (.flt b)
 | .ref a=>some (.ref a)
 | .type n=>some (.ty n)
 | _=>none
theorem RelV.abs{x:V}{u:Value}(r:RelV x u):VH u=some x:=by
 cases x with
 | bB=>cases r;rfl
 | bl _=>cases r;rfl
 | int _=>obtain ⟨t,rfl⟩:=r;rfl
 | str _=>obtain ⟨t,rfl⟩:=r;rfl
 | vq _=>obtain ⟨t,rfl⟩:=r;rfl
 | flt _=>obtain ⟨t,rfl⟩:=r;rfl
 | ref _=>cases r;rfl
 | ty _=>cases r;rfl
theorem RelV.inj{x y:V}{u:Value}(r:RelV x u)(q:RelV y u):x=y:=Option.some.inj (r.abs.symm.trans q.abs)
theorem Vals.inj:∀{xs ys:List V}{us:List Value},Vals xs us→Vals ys us→xs=ys
 | _,_,_,.nil,.nil=>rfl
 | _,_,_,.cons r t,.cons r' t'=>by rw [r.inj r',Vals.inj t t']
section
variable{X:Cx}{pins:List (Addr × Obj)}{σ:St}{H:Hp}{s:Shared}{a:Addr}{xs ys:List V}
theorem cb.of{K:PySem.W.Frag}(h:H a=some (.lst xs)):cb K H a xs:= .inl (.inl h)
theorem Lw.of{K:PySem.W.Frag}(h:H a=some (.tup xs)):Lw K H a xs:= .inl (.inl h)
theorem Inv.list(I:Inv X pins σ H s)(h:cb X.K H a xs):∃its:List Value,Vals xs its∧PlainL s.heap a its.toArray∧xs.length≤sizeLine:=by
 rcases h with h | ⟨o,its,n,hk,hc,hd,hs,hz,r⟩
 ·obtain ⟨z,its,n,r,e⟩:=h.ok I.dB
  exact ⟨its,r,⟨_,n,e,rfl,rfl,rfl⟩,z⟩
 ·refine ⟨its.toList,r,⟨o,n,I.Lo a o hk,hc,hd,by simpa using hs⟩,?_⟩
  have e:=r.length
  simp only [Array.length_toList] at e
  omega
theorem Inv.tuple(I:Inv X pins σ H s)(h:Lw X.K H a xs):∃its:List Value,Vals xs its∧IsTup s.heap a its.toArray∧xs.length≤sizeLine:=by
 rcases h with h | ⟨o,its,n,hk,hc,hs,hz,r⟩
 ·obtain ⟨z,its,r,p⟩:=h.ok I.dB
  exact ⟨its,r,p,z⟩
 ·refine ⟨its.toList,r,⟨o,I.Lo a o hk,hc,n,by simpa using hs⟩,?_⟩
  have e:=r.length
  simp only [Array.length_toList] at e
  omega
theorem Inv.Kt(I:Inv X pins σ H s)(h:cb X.K H a xs)(h':cb X.K H a ys):xs=ys:=by
 obtain ⟨its,r,⟨o,n,e,_,_,d⟩,_⟩:=I.list h
 obtain ⟨its',r',⟨o',n',e',_,_,d'⟩,_⟩:=I.list h'
 rw [e] at e';cases e'
 rw [d] at d'
 injection d' with d1 _
 have:its=its':=by simpa using congrArg Array.toList d1
 subst this
 exact r.inj r'
end
abbrev Cx.Fv(X:Cx)(E:Value→Shared→Prop):Cx:={X with xe:=E}
abbrev Cx.Vf(X:Cx):Cx:=X.Fv fun _ _=>False
theorem Cx.Ok.Fv{X:Cx}(ok:X.Ok)(E:Value→Shared→Prop):(X.Fv E).Ok:=
 ⟨ok.mod,ok.kind,ok.glob,ok.blt,ok.above,ok.inj,ok.has,ok.UW,ok.hd,ok.frames,ok.VA,ok.Vz,ok.bs,ok.RO,ok.QO,ok.Qu,ok.BW,ok.Um⟩
theorem Cx.Ok.uf{X:Cx}{E:Value→Shared→Prop}(ok:(X.Fv E).Ok):X.Ok:=
 ⟨ok.mod,ok.kind,ok.glob,ok.blt,ok.above,ok.inj,ok.has,ok.UW,ok.hd,ok.frames,ok.VA,ok.Vz,ok.bs,ok.RO,ok.QO,ok.Qu,ok.BW,ok.Um⟩
section
variable{X:Cx}{pins:List (Addr × Obj)}{σ:St}{H:Hp}{s:Shared}{E:Value→Shared→Prop}
theorem Inv.Fv(I:Inv X pins σ H s)(E:Value→Shared→Prop):Inv (X.Fv E) pins σ H s:=⟨I.ok.Fv E,I.os,I.bare,I.base,I.loc,I.cell,I.free,I.qa,I.pin,I.dB,I.len⟩
theorem Inv.uf(I:Inv (X.Fv E) pins σ H s):Inv X pins σ H s:=⟨I.ok.uf,I.os,I.bare,I.base,I.loc,I.cell,I.free,I.qa,I.pin,I.dB,I.len⟩
theorem SP.uf{D:Ends}{f:Flow}{s':Shared}(h:SP (X.Fv E) pins D f s'):SP X pins D f s':=by
 cases f with
 | next=>obtain ⟨σ',H',I,q⟩:=h;exact ⟨σ',H',I.uf,q⟩
 | brk=>obtain ⟨σ',H',I,q⟩:=h;exact ⟨σ',H',I.uf,q⟩
 | cont=>obtain ⟨σ',H',I,q⟩:=h;exact ⟨σ',H',I.uf,q⟩
 | ret u=>obtain ⟨v,σ',H',I,r,q⟩:=h;exact ⟨v,σ',H',I.uf,r,q⟩
theorem NN.Vf{st:List Stmt}{t:TS}(h:NN X.Vf st t):NN X st t:=fun pins s σ H D I hw=>
 wpAny_mono (h pins s σ H D (I.Fv _) hw) (fun _ _ q=>q.uf) fun _ _ z=>False.elim z
end
section
variable{X:Cx}{st:Stmt}{rest:List Stmt}{t u:TS}{e:Expr}{te:TE}{pos:Pos}
def bt:TS:=fun D σ H=>D.nx σ H
def aI(t u:TS):TS:=fun D σ H=>t {D with nx:=u D} σ H
theorem aO:NN X [] bt:=fun _ _ σ H _ I h=>wpAny_execs_nil ⟨σ,H,I,h⟩
theorem ah(h1:PS X st t)(h2:NN X rest u):NN X (st::rest) (aI t u):=by
 intro pins s σ H D I h
 refine wpAny_execs_cons (c7 (h1 pins s σ H {D with nx:=u D} I h) fun f s1 q=>?_)
 cases f with
 | next=>
  obtain ⟨σ',H',I',q⟩:=q
  exact h2 pins s1 σ' H' D I' q
 | ret v=>exact q
 | brk=>exact q
 | cont=>exact q
theorem aj(h1:PS X st t):NN X [st] t:=by
 intro pins s σ H D I h
 refine wpAny_execs_cons (c7 (h1 pins s σ H D I h) fun f s1 q=>?_)
 cases f with
 | next=>exact wpAny_execs_nil q
 | ret v=>exact q
 | brk=>exact q
 | cont=>exact q
theorem Inv.quiet{pins:List (Addr × Obj)}{σ:St}{H:Hp}{s:Shared}(I:Inv X pins σ H s):interactive X.env=false:=by simp [interactive,I.ok.kind]
def aW(te:TE):TS:=fun D σ H=>te σ H fun _ H1=>D.nx σ H1
theorem aG(he:PE X e te)(hs:swapsWith e none pos.line X.env=pure false:=by rfl):PS X (.Expr e pos) (aW te):=by
 intro pins s σ H D I h
 exact wpAny_Expr_any (c7 (he pins s σ H _ I h) fun v s1 ⟨x,H1,I1,r1,q1⟩=>⟨σ,H1,I1,q1⟩) I.quiet hs
def bu(te:TE):TS:=fun D σ H=>te σ H D.rt
theorem aM(he:PE X e te):PS X (.Return (some e) pos) (bu te):=by
 intro pins s σ H D I h
 exact wpAny_Return_some (c7 (he pins s σ H _ I h) fun v s1 ⟨x,H1,I1,r1,q1⟩=>⟨x,σ,H1,I1,r1,q1⟩)
def Ed:TS:=fun D _ H=>D.rt .bB H
theorem uL:PS X (.Return none pos) Ed:=fun _ _ σ H _ I h=>wpAny_Return_none ⟨.bB,σ,H,I,rfl,h⟩
def bF(c:TT)(t u:TS):TS:=fun D σ H=>c σ H fun b H1=>if b=true then t D σ H1 else u D σ H1
theorem bf{c:Expr}{a b:List Stmt}{tc:TT}(hc:PT X c tc)(ha:NN X a t)(hb:NN X b u):PS X (.If c a b pos) (bF tc t u):=by
 intro pins s σ H D I h
 refine wpAny_If (c7 (hc pins s σ H _ I h) fun d s1 ⟨H1,I1,q1⟩=>?_)
 cases d with
 | true=>exact ha pins s1 σ H1 D I1 q1
 | false=>exact hb pins s1 σ H1 D I1 q1
end
abbrev TG:=V→St→Hp→(St→Hp→Prop)→Prop
def PG(X:Cx)(target:Expr)(t:TG):Prop:=
 ∀(pins:List (Addr × Obj))(s:Shared)(σ:St)(H:Hp)(v:V)(u:Value)(Q:St→Hp→Prop),Inv X pins σ H s→RelV v u→t v σ H Q→
  wpAny (model X.prog X.w) X.A (assign target X.env u) (fun _ s'=>∃σ' H',Inv X pins σ' H' s'∧Q σ' H') X.xe s
abbrev TM:=V→V→V→Hp→(Hp→Prop)→Prop
def U1(X:Cx)(t:TM):Prop:=
 ∀(pins:List (Addr × Obj))(s:Shared)(σ:St)(H:Hp)(o i v:V)(ov iv u:Value)(Q:Hp→Prop),Inv X pins σ H s→RelV o ov→RelV i iv→RelV v u→t o i v H Q→
  wpAny (model X.prog X.w) X.A (setItem ov iv u) (fun _ s'=>∃H',Inv X pins σ H' s'∧Q H') X.xe s
abbrev VD:=V→V→Hp→VK→Prop
def Wu(X:Cx)(op:Operator)(t:VD):Prop:=
 ∀(pins:List (Addr × Obj))(s:Shared)(σ:St)(H:Hp)(x y:V)(v u:Value)(Q:VK),Inv X pins σ H s→RelV x v→RelV y u→t x y H Q→
  wpAny (model X.prog X.w) X.A (inplaceOp op v u) (EP X pins σ Q) X.xe s
section
variable{X:Cx}{pos:Pos}
def a9(i:Nat):TG:=fun v σ H Q=>Q (σ.set i (some v)) H
theorem cH{i:Nat}{x:Str}(hN:X.N.Nodup)(hi:X.N[i]? = some x)(hx:Loc X.env.scope x)(hf:X.fn x=true∨X.env.scope.names.lookup x=some .local:=by first | exact .inl rfl | exact .inr rfl | assumption):PG X (.Name x pos) (a9 i):=by
 intro pins s σ H v u Q I r h
 exact wpAny_assign_Name (Dt I hN hi hx r (fun s' I'=>⟨_,H,I',h⟩) hf)
def Iy(to ti:TE)(t:TM):TG:=fun v σ H Q=>to σ H fun o H1=>ti σ H1 fun i H2=>t o i v H2 fun H3=>Q σ H3
theorem uq{o i:Expr}{to ti:TE}{t:TM}(ho:PE X o to)(hi:PE X i ti)(hs:U1 X t)
  (ha:∀v,assign (.Subscript o i pos) X.env v= (do
   let ov ←holding [v] (eval o X.env)
   let iv ←holding [v,ov] (eval i X.env)
   standAt pos
   holding [v,ov,iv] (setItem ov iv v)
   release [v,ov,iv] []):=by intro _;rfl):PG X (.Subscript o i pos) (Iy to ti t):=by
 intro pins s σ H v u Q I r h
 rw [ha]
 refine wpAny_bind (wpAny_holding (c7 (ho pins s σ H _ I h) fun ov s1 ⟨x,H1,I1,r1,q1⟩=>?_))
 refine wpAny_bind (wpAny_holding (c7 (hi pins s1 σ H1 _ I1 q1) fun iv s2 ⟨y,H2,I2,r2,q2⟩=>?_))
 refine wpAny_bind (wpAny_standAt (wpAny_bind (wpAny_holding (c7 (hs pins s2 σ H2 x y v ov iv u _ I2 r1 r2 r q2) fun _ s3 ⟨H3,I3,q3⟩=>?_))))
 exact wpAny_release ⟨σ,H3,I3,q3⟩
def bQ(te:TE)(g:TG):TS:=fun D σ H=>te σ H fun x H1=>g x σ H1 D.nx
theorem tF{tg e:Expr}{te:TE}{g:TG}(he:PE X e te)(hg:PG X tg g)(hs:swapsWithSole [tg] e pos.line X.env=pure false:=by rfl)(hw:swappedStores [tg] e X.env=pure none:=by rfl)
  (h1:(assignEach [tg] X.env).map (·.2) = [assign tg X.env]:=by rfl):PS X (.Assign [tg] e pos) (bQ te g):=by
 intro pins s σ H D I h
 refine wpAny_Assign_stores (c7 (he pins s σ H _ I h) fun v s1 ⟨x,H1,I1,r1,q1⟩=>?_) hs hw
 rw [h1]
 exact c7 (hg pins s1 σ H1 x v _ I1 r1 q1) fun _ s2 q=>q
theorem bc{i:Nat}{x:Str}{e:Expr}{te:TE}{pos':Pos}(hN:X.N.Nodup)(hi:X.N[i]? = some x)(hx:Loc X.env.scope x)(he:PE X e te)(hs:swapsWith e (some (.Name x pos')) pos.line X.env=pure false:=by rfl)(hf:X.fn x=true∨X.env.scope.names.lookup x=some .local:=by first | exact .inl rfl | exact .inr rfl | assumption):
  PS X (.Assign [.Name x pos'] e pos) (bQ te (a9 i)):=by
 intro pins s σ H D I h
 refine wpAny_Assign_Name (c7 (he pins s σ H _ I h) fun v s1 ⟨y,H1,I1,r1,q1⟩=>?_) hs
 exact Dt I1 hN hi hx r1 (fun s2 I2=>⟨_,H1,I2,q1⟩) hf
def U9(i:Nat)(te:TE)(ti:VD):TS:=fun D σ H=>∃x,σ[i]? = some (some x)∧te σ H fun y H1=>ti x y H1 fun z H2=>D.nx (σ.set i (some z)) H2
theorem TK{i:Nat}{x:Str}{e:Expr}{te:TE}{op:Operator}{ti:VD}{pos':Pos}(hN:X.N.Nodup)(hi:X.N[i]? = some x)(hx:Loc X.env.scope x)(he:PE X e te)(ho:Wu X op ti)(hf:X.fn x=true∨X.env.scope.names.lookup x=some .local:=by first | exact .inl rfl | exact .inr rfl | assumption):
  PS X (.AugAssign (.Name x pos') op e pos) (U9 i te ti):=by
 intro pins s σ H D I h
 obtain ⟨v,e1,h⟩:=h
 obtain ⟨m,hn,hl⟩:=I.loc
 have vis:UB X.env.scope x:=by rcases hx with k | k;exact .inl k;exact .inr (.inl k)
 obtain ⟨u,r,l⟩:=hl i x v hi e1 vis
 refine wpAny_AugAssign_Name ?_
 have go:wpAny (model X.prog X.w) X.A (eval e X.env) (fun w s₂=>wpAny (model X.prog X.w) X.A (inplaceOp op u w) (fun r s₃=>wpAny (model X.prog X.w) X.A (storeName X.env x r) (fun _=>SP X pins D .next) X.xe s₃) X.xe s₂) X.xe s:=by
  refine c7 (he pins s σ H _ I h) fun w s1 ⟨y,H1,I1,r1,q1⟩=>?_
  refine c7 (ho pins s1 σ H1 v y u w _ I1 r r1 q1) fun z s2 ⟨zv,H2,I2,r2,q2⟩=>?_
  exact Dt I2 hN hi hx r2 (fun s3 I3=>⟨_,H2,I3,q2⟩) hf
 rcases l with ⟨hk,hm⟩ | ⟨hk,c,hc,hcell⟩
 ·exact wpAny_loadName_local I.ok.kind hk hn hm go
 ·rcases hk with hk | hk
  ·exact wpAny_loadName_cell I.ok.kind hk hc hcell go
  ·rcases hx with k | k
   ·have:X.env.scope.names.lookup x=some .free:=hk
    rw [k] at this;cases this
   ·have:X.env.scope.names.lookup x=some .free:=hk
    rw [k] at this;cases this
def Wm(f:Int→Int→Int):VD:=fun x y H Q=>∃i j,x= .int i∧y= .int j∧Q (.int (f i j)) H
theorem Ug:Wu X .Add (Wm fun i j=>i+j):=by
 intro pins s σ H x y v u Q I r1 r2 h
 obtain ⟨i,j,e1,e2,q⟩:=h
 subst e1;subst e2
 obtain ⟨t,rfl⟩:=r1
 obtain ⟨t',rfl⟩:=r2
 exact iadd_int ⟨.int _,H,I.tok _,⟨_,rfl⟩,q⟩
end
section
variable{X:Cx}{pos:Pos}
def Rp(c:TT)(tb:TS):TS:=fun D σ H=>∃W:Nat→St→Hp→Prop,(∃m,W m σ H)∧∀m σ H,W m σ H→
 c σ H fun b H1=>if b=true then ∃N:St→Hp→Prop,(∀σ' H',N σ' H'→∃m',m' < m∧W m' σ' H')∧tb {D with nx:=N,ct:=N,bk:=D.nx} σ H1 else D.nx σ H1
theorem P2{c:Expr}{body:List Stmt}{tc:TT}{tb:TS}(hp:PassesOwn (model X.prog X.w) X.A X.env X.xe)(hc:PT X c tc)(hb:NN X body tb):PS X (.While c body [] pos) (Rp tc tb):=by
 intro pins s σ H D I h
 obtain ⟨W,⟨m0,w0⟩,turn⟩:=h
 refine wpAny_While (codeAny_whileLoop (fun n s'=>∃σ' H',Inv X pins σ' H' s'∧W n σ' H') ?_ m0 ⟨σ,H,I,w0⟩)
 rintro n s1 ⟨σ1,H1,I1,w1⟩
 refine wpAny_passesOwn hp (c7 (hc pins s1 σ1 H1 _ I1 (turn n σ1 H1 w1)) fun b s2 ⟨H2,I2,q2⟩=>?_)
 cases b with
 | true=>
  obtain ⟨N,hN,q2⟩:=q2
  rw [if_pos rfl]
  refine wpAny_passesOwn hp (c7 (hb pins s2 σ1 H2 _ I2 q2) fun f s3 q3=>?_)
  cases f with
  | next=>
   obtain ⟨σ3,H3,I3,n3⟩:=q3
   obtain ⟨m',hm,w3⟩:=hN σ3 H3 n3
   exact ⟨m',hm,σ3,H3,I3,w3⟩
  | cont=>
   obtain ⟨σ3,H3,I3,n3⟩:=q3
   obtain ⟨m',hm,w3⟩:=hN σ3 H3 n3
   exact ⟨m',hm,σ3,H3,I3,w3⟩
  | brk=>exact q3
  | ret v=>exact q3
 | false=>
  rw [if_neg Bool.false_ne_true]
  exact wpAny_execs_nil ⟨σ1,H2,I2,q2⟩
end
structure It where
 go:Nat→Hp→Prop
 Rx:Nat→Hp→V→Hp→Prop
 stop:Nat→Hp→Prop
def E4(X:Cx)(pins:List (Addr × Obj))(H:Hp)(b:Addr):Prop:=
 H b=none∧b ≠ X.env.locals∧b ∉ X.fs∧(b ∈ X.ex∨X.s₀.heap.objs.size≤b)∧(∀x c,X.env.cells.lookup x=some c→c ≠ b)∧∀p ∈ X.pn ++ pins,p.1 ≠ b
theorem Inv.RL{X:Cx}{pins:List (Addr × Obj)}{σ:St}{H H':Hp}{s:Shared}{b:Addr}(I:Inv X pins σ H s)(hb:s.heap.objs.size≤b)(hn:H' b=none):E4 X pins H' b:=by
 refine ⟨hn,Nat.ne_of_gt (Nat.lt_of_lt_of_le I.lt hb),I.Wj hb,.inr (Nat.le_trans I.sz hb),fun x c e z=>?_,fun p hp z=>?_⟩
 ·obtain ⟨v,q⟩:=I.cell x c e
  exact absurd (Nat.lt_of_lt_of_le q.lt (by rw [z];exact hb)) (Nat.lt_irrefl _)
 ·exact absurd (Nat.lt_of_lt_of_le (Heap.lt_size (I.pin p hp).1) (by rw [z];exact hb)) (Nat.lt_irrefl _)
structure Turn(P:Program)(w:World)(K:PySem.W.Frag)(tg:Expr)(J:It)(fp:List Addr)(it:Addr)(tn:Nat→Heap→Prop):Prop where
 mem:it ∈ fp
 obj:∀i h,tn i h→∀b ∈ fp,∃o,h.get? b=some o∧∀v,o.data ≠ .cell v
 keep:∀i h h',tn i h→(∀b ∈ fp,∀o,h.get? b=some o→h'.get? b=some o)→tn i h'
 item:∀(X:Cx),X.prog=P→X.w=w→X.K=K→X.calm=true→∀(i:Nat)(pins:List (Addr × Obj))(s:Shared)(σ:St)(H:Hp)(E:Value→Shared→Prop),Inv X pins σ H s→(∀b ∈ fp,E4 X pins H b)→tn i s.heap→J.go i H→
  wpAny (model P w) X.A (pyNext (.ref it)) (fun r s1=>∃u,r=some u∧
   wpAny (model P w) X.A (letOwnedTupleGo tg (.ref it) u) (fun _ s2=>∃x H',Inv X pins σ H' s2∧RelV x u∧J.Rx i H x H'∧tn (i+1) s2.heap∧∀b ∈ fp,H' b=none) E s1) E s
 done:∀(X:Cx),X.prog=P→X.w=w→X.K=K→X.calm=true→∀(i:Nat)(pins:List (Addr × Obj))(s:Shared)(σ:St)(H:Hp)(E:Value→Shared→Prop),Inv X pins σ H s→(∀b ∈ fp,E4 X pins H b)→tn i s.heap→J.stop i H→
  wpAny (model P w) X.A (pyNext (.ref it)) (fun r s1=>r=none∧Inv X pins σ H s1) E s
 self:∀(A:Around)(i:Nat)(s:Shared)(Q:Value→Shared→Prop)(E:Value→Shared→Prop),tn i s.heap→Q (.ref it) s→wpAny (model P w) A (pyIter (.ref it)) Q E s
abbrev TI:=St→Hp→(It→Hp→Prop)→Prop
def V2(X:Cx)(pins:List (Addr × Obj))(σ:St)(tg:Expr)(R:It→Hp→Prop)(itv:Value)(s2:Shared):Prop:=
 ∃(it:Addr)(fp:List Addr)(tn:Nat→Heap→Prop)(J:It)(H':Hp),itv= .ref it∧Inv X pins σ H' s2∧Turn X.prog X.w X.K tg J fp it tn∧tn 0 s2.heap∧(∀b ∈ fp,E4 X pins H' b)∧R J H'
def PI(X:Cx)(tg iter:Expr)(wi:TI):Prop:=
 ∀(pins:List (Addr × Obj))(s:Shared)(σ:St)(H:Hp)(R:It→Hp→Prop),Inv X pins σ H s→wi σ H R→
  wpAny (model X.prog X.w) X.A (eval iter X.env) (fun v s1=>wpAny (model X.prog X.w) X.A (pyIter v) (V2 X pins σ tg R) X.xe s1) X.xe s
theorem Gn{M:Model}{A:Around}{E:Value→Shared→Prop}{s:Shared}{tg:Expr}{it:Addr}{u:Value}{o:Obj}{n:String}{vs:Array Value}{Q:Unit→Shared→Prop}(ho:s.heap.get? it=some o)(hc:o.cls= .type n)(hd:o.data= .fields vs)
  (hn: ["enumerate","zip","dict_itemiterator","dict_reverseitemiterator","odict_iterator","itertools.zip_longest","itertools.pairwise"].contains n=false) (hQ:Q () s):wpAny M A (letOwnedTupleGo tg (.ref it) u) Q E s:=by
 unfold letOwnedTupleGo
 cases tg <;> first
  | exact wpAny_pure hQ
  | (cases u <;> first
    | exact wpAny_pure hQ
    | (refine wpAny_bind (wpAny_load ho ?_)
       rw [hc,hd]
       show wpAny M A (if (["enumerate","zip","dict_itemiterator","dict_reverseitemiterator","odict_iterator","itertools.zip_longest","itertools.pairwise"].contains n && vs[0]? == some (rawInt _))=true then _ else _) Q E s
       rw [if_neg (by intro h;rw [hn,Bool.false_and] at h;cases h)]
       exact wpAny_pure hQ))
def SX(K:PySem.W.Frag)(a:Addr):It:=
 ⟨fun i H=>∃xs x,cb K H a xs∧xs[i]? = some x,fun i H x H'=>H'=H∧∀xs,cb K H a xs→xs[i]? = some x,fun i H=>∃xs,cb K H a xs∧xs.length≤i⟩
def Rz(lo:Int)(n:Nat):It:=⟨fun i _=>i < n,fun i H x H'=>H'=H∧x= .int (lo+i),fun i _=>n≤i⟩
theorem OQ{P:Program}{w:World}{K:PySem.W.Frag}{tg:Expr}(a it:Addr):Turn P w K tg (SX K a) [it] it (fun i h=>h.IsListIter it a i) where
 mem:=by simp
 obj:=fun i h st b hb=>by
  have e:b=it:=by simpa using hb
  subst e
  obtain ⟨o,e,c,d⟩:=st
  exact ⟨o,e,fun v z=>by rw [d] at z;cases z⟩
 keep:=fun i h h' st k=>st.at fun o e=>k it (by simp) o e
 item:=by
  intro X hP hw hK hc i pins s σ H E I hf st hg
  subst hP hw hK
  obtain ⟨xs,x,hq,hx⟩:=hg
  obtain ⟨its,rv,p,hz⟩:=I.list hq
  obtain ⟨u,hu,ru⟩:=rv.get hx
  obtain ⟨f0,f1,f2,f3,f4,f5⟩:=hf it (by simp)
  refine wpAny_pyNext_list_item st p.isList (x:=u) (by simpa using hu) fun h' st' sb=>?_
  have I1:Inv X pins σ H {s with heap:=h'}:=I.turned (t':=s.toks) (fun b o hb e=>(sb.2 b hb).trans e) f0 f1 f3 f4 f5
  obtain ⟨o,e,c,d⟩:=id st'
  exact ⟨u,rfl,Gn (s:={s with heap:=h'}) e c d (by decide) ⟨x,H,I1,ru,⟨rfl,fun ys hy=>by rw [I.Kt hy hq];exact hx⟩,st',fun b hb=>(hf b hb).1⟩⟩
 done:=by
  intro X hP hw hK hc i pins s σ H E I hf st hg
  subst hP hw hK
  obtain ⟨xs,hq,hx⟩:=hg
  obtain ⟨its,rv,p,hz⟩:=I.list hq
  obtain ⟨f0,f1,f2,f3,f4,f5⟩:=hf it (by simp)
  have hl:=rv.length
  exact wpAny_pyNext_list_end (I.ok.hd hc) st p.isList (by simp;omega) fun h' eb=>⟨rfl,I.turned (t':=s.toks) (fun b o hb e=>eb b o hb e) f0 f1 f3 f4 f5⟩
 self:=fun _ _ _ _ _ st h=>wpAny_pyIter_listiter st h
theorem L7{P:Program}{w:World}{K:PySem.W.Frag}{tg:Expr}(it:Addr)(lo:Int)(n:Nat):Turn P w K tg (Rz lo n) [it] it (fun i h=>IsRangeIter h it (lo+ (i:Nat) * 1) ((n:Int) - (i:Nat)) 1) where
 mem:=by simp
 obj:=fun i h st b hb=>by
  have e:b=it:=by simpa using hb
  subst e
  exact ⟨_,st,fun v z=>by
   have z':Data.fields _=Data.cell v:=z
   cases z'⟩
 keep:=fun i h h' st k=>k it (by simp) _ st
 item:=by
  intro X hP hw hK hc i pins s σ H E I hf st hg
  subst hP hw hK
  obtain ⟨f0,f1,f2,f3,f4,f5⟩:=hf it (by simp)
  have W:=Walks.range (prog:=X.prog) (w:=X.w) (I.ok.hd hc) it lo 1 n
  refine W.item i s _ _ hg st fun v h' tk hv st' kk=>?_
  obtain ⟨t,rfl⟩:=hv
  have I1:Inv X pins σ H {s with heap:=h',toks:=tk}:=I.turned (fun b o hb e=>kk b o (by simpa using hb) e) f0 f1 f3 f4 f5
  refine ⟨_,rfl,Gn (s:={s with heap:=h',toks:=tk}) (n:="range_iterator") st' rfl rfl (by decide) ⟨.int (lo+i),H,I1,⟨t,?_⟩,⟨rfl,rfl⟩,st',fun b hb=>(hf b hb).1⟩⟩
  rw [Int.mul_one]
 done:=by
  intro X hP hw hK hc i pins s σ H E I hf st hg
  subst hP hw hK
  obtain ⟨f0,f1,f2,f3,f4,f5⟩:=hf it (by simp)
  exact wpAny_pyNext_range_end (I.ok.hd hc) st (by have:n≤i:=hg;omega) fun h' eb=>⟨rfl,I.turned (t':=s.toks) (fun b o hb e=>eb b o hb e) f0 f1 f3 f4 f5⟩
 self:=fun _ _ _ _ _ st h=>wpAny_pyIter_rangeiter st h
end L2
namespace L2
open PySem PySem.Spec PyProof.Rows
section
variable{X:Cx}{tg:Expr}
def DR(K:PySem.W.Frag)(tl:TE):TI:=fun σ H R=>tl σ H fun x H1=>∃a,x= .ref a∧(∃xs,cb K H1 a xs)∧R (SX K a) H1
theorem uZ{l:Expr}{tl:TE}(hl:PE X l tl):PI X tg l (DR X.K tl):=by
 intro pins s σ H R I h
 refine c7 (hl pins s σ H _ I h) fun v s1 ⟨x,H1,I1,r1,q1⟩=>?_
 obtain ⟨a,e,⟨xs,hq⟩,q⟩:=q1
 subst e
 cases r1
 obtain ⟨its,rv,p,hz⟩:=I1.list hq
 refine wpAny_pyIter_list p.isList ?_
 refine ⟨s1.heap.objs.size,[s1.heap.objs.size],_,_,H1,rfl,I1.kept (t':=s1.toks) fun b o e=>Heap.get?_push_of_some _ e,OQ a _,⟨_,Heap.get?_push_size _ rfl,rfl,rfl⟩,fun b hb=>?_,q⟩
 have e:b=s1.heap.objs.size:=by simpa using hb
 subst e
 exact I1.RL (Nat.le_refl _) (I1.dB.fresh (Nat.le_refl _))
theorem JL{pins:List (Addr × Obj)}{σ:St}{H:Hp}{s:Shared}{R:It→Hp→Prop}{E:Value→Shared→Prop}{lo hi:Int}{t u v:Tok}{tk:Nat}(I:Inv X pins σ H s)(h1:-(2 ^ 62)≤lo)(h2:lo < 2 ^ 62)(h3:-(2 ^ 62)≤hi)(h4:hi < 2 ^ 62)
  (q:R (Rz lo (hi - lo).toNat) H):wpAny (model X.prog X.w) X.A (pyIter (.ref s.heap.objs.size)) (V2 X pins σ tg R) E {s with heap:=s.heap.push {cls:= .type "range",data:= .fields #[.int lo t,.int hi u,.int 1 v]},toks:=tk}:=by
 refine wpAny_pyIter_range (IsRange.new ..) (small_one h1 h2 h3 h4) ?_
 have I1:Inv X pins σ H {s with heap:=s.heap.push {cls:= .type "range",data:= .fields #[.int lo t,.int hi u,.int 1 v]},toks:=tk}:=I.kept fun b o e=>Heap.get?_push_of_some _ e
 refine ⟨(s.heap.push {cls:= .type "range",data:= .fields #[.int lo t,.int hi u,.int 1 v]}).objs.size,[(s.heap.push {cls:= .type "range",data:= .fields #[.int lo t,.int hi u,.int 1 v]}).objs.size],_,_,H,rfl,
  I1.kept (t':=tk) fun b o e=>Heap.get?_push_of_some _ e,L7 _ lo (hi - lo).toNat,?_,fun b hb=>?_,q⟩
 ·have e1:lo+ ((0:Nat):Int) * 1=lo:=by simp
  have e2:(((hi - lo).toNat:Nat):Int) - ((0:Nat):Int)=Builtin.Range.rangeSize lo hi 1:=by rw [rangeSize_one];split <;> omega
  show IsRangeIter _ _ (lo+ ((0:Nat):Int) * 1) ((((hi - lo).toNat:Nat):Int) - ((0:Nat):Int)) 1
  rw [e1,e2]
  exact Heap.get?_push_size _ rfl
 ·have e:b= (s.heap.push {cls:= .type "range",data:= .fields #[.int lo t,.int hi u,.int 1 v]}).objs.size:=by simpa using hb
  subst e
  exact I1.RL (Nat.le_refl _) (I1.dB.fresh (Nat.le_refl _))
def vS(ta:TA):TI:=fun σ H R=>ta σ H fun vs H1=>∃j:Int,vs = [.int j]∧-(2 ^ 62)≤j∧j < 2 ^ 62∧R (Rz 0 j.toNat) H1
def M0(ta:TA):TI:=fun σ H R=>ta σ H fun vs H1=>∃i j:Int,vs = [.int i,.int j]∧(-(2 ^ 62)≤i∧i < 2 ^ 62∧-(2 ^ 62)≤j∧j < 2 ^ 62)∧R (Rz i (j - i).toNat) H1
theorem gw{a:Expr}{ta:TA}{p pos:Pos}(hg:Gl X "range")(hm:X.mg "range" = none)(ha:PA X [a] ta)(hs:starEach [a] X.env = [(false,eval a X.env)]:=by rfl):PI X tg (.Call (.Name "range" p) [a] [] pos) (vS ta):=by
 intro pins s σ H R I h
 refine Call_ (zB I hg hm boot_range (PyProof.Rows.callWith_type1 (c7 (ha pos pins s σ H _ I h) fun us s1 ⟨vs,H1,I1,r1,q1⟩=>?_) hs rfl))
 obtain ⟨j,e,q1,q2,q⟩:=q1
 subst e
 cases r1 with
 | cons r rr=>
  cases rr
  obtain ⟨t,rfl⟩:=r
  exact call_range_1 (JL I1 (by omega) (by omega) q1 q2 (by simpa using q))
theorem Ad{a b:Expr}{ta:TA}{p pos:Pos}(hg:Gl X "range")(hm:X.mg "range" = none)(ha:PA X [a,b] ta)(hs:starEach [a,b] X.env = [(false,eval a X.env),(false,eval b X.env)]:=by rfl)(hs2:starEach [b] X.env = [(false,eval b X.env)]:=by rfl):
  PI X tg (.Call (.Name "range" p) [a,b] [] pos) (M0 ta):=by
 intro pins s σ H R I h
 refine Call_ (zB I hg hm boot_range (PyProof.Rows.callWith_type1 (c7 (ha pos pins s σ H _ I h) fun us s1 ⟨vs,H1,I1,r1,q1⟩=>?_) (by rw [hs,hs2]) (by rw [hs2];rfl)))
 obtain ⟨i,j,e,⟨q1,q2,q3,q4⟩,q⟩:=q1
 subst e
 cases r1 with
 | cons r rr=>
  cases rr with
  | cons r' rr=>
   cases rr
   obtain ⟨t,rfl⟩:=r
   obtain ⟨t',rfl⟩:=r'
   exact call_range_2 (JL I1 q1 q2 q3 q4 q)
def xA(wi:TI)(g:TG)(tb:TS):TS:=fun D σ H=>wi σ H fun J H1=>∃W:Nat→Nat→St→Hp→Prop,(∃m,W 0 m σ H1)∧∀i m σ H,W i m σ H→
 (J.stop i H∧D.nx σ H)∨(J.go i H∧∃N:St→Hp→Prop,(∀σ' H',N σ' H'→∃m',m' < m∧W (i+1) m' σ' H')∧∀x H',J.Rx i H x H'→g x σ H' fun σ2 H2=>tb {D with nx:=N,ct:=N,bk:=D.nx} σ2 H2)
def Dh(fp:List Addr)(h:Heap):List (Addr × Obj):=fp.filterMap fun b=>(h.get? b).map fun o=>(b,o)
theorem wW{fp:List Addr}{h:Heap}{b:Addr}{o:Obj}(hb:b ∈ fp)(e:h.get? b=some o):(b,o) ∈ Dh fp h:=List.mem_filterMap.mpr ⟨b,hb,by rw [e];rfl⟩
theorem OY{fp:List Addr}{h:Heap}{p:Addr × Obj}(hp:p ∈ Dh fp h):p.1 ∈ fp∧h.get? p.1=some p.2:=by
 obtain ⟨b,hb,e⟩:=List.mem_filterMap.mp hp
 cases q:h.get? b with
 | none=>rw [q] at e;cases e
 | some o=>
  rw [q] at e
  have e':(b,o)=p:=Option.some.inj e
  subst e'
  exact ⟨hb,q⟩
theorem Inv.pinned{pins:List (Addr × Obj)}{σ:St}{H:Hp}{s:Shared}{fp:List Addr}(I:Inv X pins σ H s)(hf:∀b ∈ fp,E4 X pins H b)(ho:∀b ∈ fp,∃o,s.heap.get? b=some o∧∀v,o.data ≠ .cell v):Inv X (pins ++ Dh fp s.heap) σ H s:=
 I.MU fun p hp=>(List.mem_append.mp hp).elim (fun z=>I.pin p (List.mem_append_right _ z)) fun z=>by
  obtain ⟨hb,e⟩:=OY z
  obtain ⟨f0,f1,f2,_⟩:=hf p.1 hb
  obtain ⟨o,e',d⟩:=ho p.1 hb
  rw [e] at e';cases e'
  exact ⟨e,f0,f1,f2,d⟩
theorem Inv.yT{pins pl:List (Addr × Obj)}{σ:St}{H:Hp}{s:Shared}(I:Inv X (pins ++ pl) σ H s):Inv X pins σ H s:=I.MU fun p hp=>I.pin p (List.mem_append_right _ (List.mem_append_left _ hp))
theorem js{iter:Expr}{body:List Stmt}{wi:TI}{g:TG}{tb:TS}{pos:Pos}(hp:PassesOwn (model X.prog X.w) X.A X.env X.xe)(hc:X.calm=true)(hi:PI X tg iter wi)(hg:PG X tg g)(hb:NN X body tb)
  (hs:∀x,foldedSetIterable iter X.env x=pure x:=by intro _;rfl):PS X (.For tg iter body [] pos) (xA wi g tb):=by
 intro pins s σ H D I h
 refine wpAny_For (c7 (hi pins s σ H _ I h) fun v s1 h1=>c7 h1 fun itv s2 h2=>?_) hs
 obtain ⟨it,fp,tn,J,H2,e,I2,T,st2,f2,W,⟨m0,w0⟩,turn⟩:=h2
 subst e
 have stat:∀{H':Hp},(∀b ∈ fp,H' b=none)→∀b ∈ fp,E4 X pins H' b:=fun hn b hb=>⟨hn b hb,(f2 b hb).2⟩
 refine codeAny_forLoop_any (fun n s'=>∃i σ' H',Inv X pins σ' H' s'∧tn i s'.heap∧(∀b ∈ fp,H' b=none)∧W i n σ' H') ?_ m0 ⟨0,σ,H2,I2,st2,fun b hb=>(f2 b hb).1,w0⟩
 rintro n s3 ⟨i,σ3,H3,I3,st3,fr3,w3⟩
 rcases turn i n σ3 H3 w3 with ⟨stop,qn⟩ | ⟨go,N,hN,step⟩
 ·refine wpAny_passesOwn hp (c7 (T.done X rfl rfl rfl hc i pins s3 σ3 H3 X.xe I3 (stat fr3) st3 stop) fun r s4 ⟨hr,I4⟩=>?_)
  subst hr
  exact wpAny_execs_nil ⟨σ3,H3,I4,qn⟩
 ·refine wpAny_passesOwn hp (c7 (T.item X rfl rfl rfl hc i pins s3 σ3 H3 X.xe I3 (stat fr3) st3 go) fun r s4 ⟨u,hr,h4⟩=>?_)
  subst hr
  refine wpAny_passesOwn hp (c7 h4 fun _ s5 ⟨x,H5,I5,r5,y5,st5,fr5⟩=>?_)
  have I5':=I5.pinned (stat fr5) (T.obj _ _ st5)
  refine wpAny_passesOwn hp (c7 (hg _ s5 σ3 H5 x u _ I5' r5 (step x H5 y5)) fun _ s6 ⟨σ6,H6,I6,q6⟩=>?_)
  refine wpAny_passesOwn hp (c7 (hb _ s6 σ6 H6 _ I6 q6) fun f s7 q7=>?_)
  have again:∀{σ7:St}{H7:Hp},Inv X (pins ++ Dh fp s5.heap) σ7 H7 s7→N σ7 H7→∃m,m < n∧∃i σ' H',Inv X pins σ' H' s7∧tn i s7.heap∧(∀b ∈ fp,H' b=none)∧W i m σ' H':=fun {σ7 H7} I7 n7=>by
   obtain ⟨m',hm,w7⟩:=hN σ7 H7 n7
   refine ⟨m',hm,i+1,σ7,H7,I7.yT,T.keep _ _ _ st5 fun b hb o e=>(I7.pin (b,o) (List.mem_append_right _ (List.mem_append_right _ (wW hb e)))).1,fun b hb=>?_,w7⟩
   obtain ⟨o,e,d⟩:=T.obj _ _ st5 b hb
   exact (I7.pin (b,o) (List.mem_append_right _ (List.mem_append_right _ (wW hb e)))).2.1
  cases f with
  | next=>obtain ⟨σ7,H7,I7,n7⟩:=q7;exact again I7 n7
  | cont=>obtain ⟨σ7,H7,I7,n7⟩:=q7;exact again I7 n7
  | brk=>obtain ⟨σ7,H7,I7,q7⟩:=q7;exact ⟨σ7,H7,I7.yT,q7⟩
  | ret v=>obtain ⟨x7,σ7,H7,I7,r7,q7⟩:=q7;exact ⟨x7,σ7,H7,I7.yT,r7,q7⟩
end
theorem yH{K:PySem.W.Frag}{a:Addr}{xs:List V}{g:TG}{tb:TS}{D:Ends}{σ:St}{H:Hp}(Pv:Nat→St→Hp→Prop)(h0:Pv 0 σ H)(hl:∀i σ H,i≤xs.length→Pv i σ H→cb K H a xs)
  (hs:∀i x σ H,xs[i]? = some x→Pv i σ H→g x σ H fun σ2 H2=>tb {D with nx:=Pv (i+1),ct:=Pv (i+1),bk:=D.nx} σ2 H2) (hd:∀σ H,Pv xs.length σ H→D.nx σ H):
  ∃W:Nat→Nat→St→Hp→Prop,(∃m,W 0 m σ H)∧∀i m σ H,W i m σ H→
   ((SX K a).stop i H∧D.nx σ H)∨((SX K a).go i H∧∃N:St→Hp→Prop,(∀σ' H',N σ' H'→∃m',m' < m∧W (i+1) m' σ' H')∧∀x H',(SX K a).Rx i H x H'→g x σ H' fun σ2 H2=>tb {D with nx:=N,ct:=N,bk:=D.nx} σ2 H2):=by
 refine ⟨fun i m σ H=>m=xs.length - i∧i≤xs.length∧Pv i σ H,⟨xs.length,by simp,Nat.zero_le _,h0⟩,?_⟩
 rintro i m σ H ⟨rfl,hi,p⟩
 have q:=hl i σ H hi p
 by_cases hlt:i < xs.length
 ·refine .inr ⟨⟨xs,xs[i],q,by simp [hlt]⟩,Pv (i+1),fun σ' H' p'=>⟨xs.length - (i+1),by omega,rfl,hlt,p'⟩,fun x H' y=>?_⟩
  obtain ⟨e,y⟩:=y
  subst e
  exact hs i x σ _ (y xs q) p
 ·have e:i=xs.length:=by omega
  subst e
  exact .inl ⟨⟨xs,q,Nat.le_refl _⟩,hd σ H p⟩
theorem gq{lo:Int}{n:Nat}{g:TG}{tb:TS}{D:Ends}{σ:St}{H:Hp}(Pv:Nat→St→Hp→Prop)(h0:Pv 0 σ H)
  (hs:∀i σ H,i < n→Pv i σ H→g (.int (lo+i)) σ H fun σ2 H2=>tb {D with nx:=Pv (i+1),ct:=Pv (i+1),bk:=D.nx} σ2 H2) (hd:∀σ H,Pv n σ H→D.nx σ H):
  ∃W:Nat→Nat→St→Hp→Prop,(∃m,W 0 m σ H)∧∀i m σ H,W i m σ H→
   ((Rz lo n).stop i H∧D.nx σ H)∨((Rz lo n).go i H∧∃N:St→Hp→Prop,(∀σ' H',N σ' H'→∃m',m' < m∧W (i+1) m' σ' H')∧∀x H',(Rz lo n).Rx i H x H'→g x σ H' fun σ2 H2=>tb {D with nx:=N,ct:=N,bk:=D.nx} σ2 H2):=by
 refine ⟨fun i m σ H=>m=n - i∧i≤n∧Pv i σ H,⟨n,by simp,Nat.zero_le _,h0⟩,?_⟩
 rintro i m σ H ⟨rfl,hi,p⟩
 by_cases hlt:i < n
 ·refine .inr ⟨hlt,Pv (i+1),fun σ' H' p'=>⟨n - (i+1),by omega,rfl,hlt,p'⟩,fun x H' y=>?_⟩
  obtain ⟨e,y⟩:=y
  subst e y
  exact hs i σ _ hlt p
 ·have e:i=n:=by omega
  subst e
  exact .inl ⟨Nat.le_refl _,hd σ H p⟩
end L2
namespace L2
open PySem PySem.Spec PyProof.Rows
abbrev R2:=V→V→Hp→VK→Prop
def yL(X:Cx)(f:Value→Value→Sem Value)(r:R2):Prop:=
 ∀(pins:List (Addr × Obj))(s:Shared)(σ:St)(H:Hp)(x y:V)(v u:Value)(Q:VK),Inv X pins σ H s→RelV x v→RelV y u→r x y H Q→
  wpAny (model X.prog X.w) X.A (f v u) (EP X pins σ Q) X.xe s
def VJ(X:Cx)(f:Value→Sem Value)(r:V→Hp→VK→Prop):Prop:=
 ∀(pins:List (Addr × Obj))(s:Shared)(σ:St)(H:Hp)(x:V)(v:Value)(Q:VK),Inv X pins σ H s→RelV x v→r x H Q→
  wpAny (model X.prog X.w) X.A (f v) (EP X pins σ Q) X.xe s
def za(X:Cx)(f:Value)(r:List V→Hp→VK→Prop):Prop:=
 ∀(pins:List (Addr × Obj))(s:Shared)(σ:St)(H:Hp)(xs:List V)(us:List Value)(Q:VK),Inv X pins σ H s→Vals xs us→r xs H Q→
  wpAny (model X.prog X.w) X.A (call f us) (EP X pins σ Q) X.xe s
def aV(r:R2)(ta tb:TE):TE:=fun σ H Q=>ta σ H fun x H1=>tb σ H1 fun y H2=>r x y H2 Q
def Wr(r:V→Hp→VK→Prop)(ta:TE):TE:=fun σ H Q=>ta σ H fun x H1=>r x H1 Q
def rI(C:Int→Int→Prop)(g:Int→Int→V):R2:=fun x y H Q=>∃i j,x= .int i∧y= .int j∧C i j∧Q (g i j) H
def bP(g:Int→Int→V):R2:=fun x y H Q=>∃i j,x= .int i∧y= .int j∧Q (g i j) H
def rU(g:Int→V):V→Hp→VK→Prop:=fun x H Q=>∃i,x= .int i∧Q (g i) H
section
variable{X:Cx}{a b c:Expr}{ta tb tc:TE}{pos:Pos}
theorem Uy(ha:PE X a ta)(hb:PE X b tb){pins:List (Addr × Obj)}{s:Shared}{σ:St}{H:Hp}{R:V→V→Hp→Prop}(I:Inv X pins σ H s)
  (h:ta σ H fun x H1=>tb σ H1 fun y H2=>R x y H2) {Q:Value→Shared→Prop} {f:Value→Value→Sem Value}
  (hf:∀v u s2 x y H2,Inv X pins σ H2 s2→RelV x v→RelV y u→R x y H2→wpAny (model X.prog X.w) X.A (f v u) Q X.xe s2):
  wpAny (model X.prog X.w) X.A (eval a X.env) (fun v s₁=>wpAny (model X.prog X.w) X.A (eval b X.env) (fun u s₂=>wpAny (model X.prog X.w) X.A (f v u) Q X.xe s₂) X.xe s₁) X.xe s:=by
 refine c7 (ha pins s σ H _ I h) fun v s1 ⟨x,H1,I1,r1,q1⟩=>?_
 refine c7 (hb pins s1 σ H1 _ I1 q1) fun u s2 ⟨y,H2,I2,r2,q2⟩=>?_
 exact hf v u s2 x y H2 I2 r1 r2 q2
theorem aJ{op:Operator}{r:R2}(ho:yL X (binaryOp op) r)(ha:PE X a ta)(hb:PE X b tb):PE X (.BinOp a op b pos) (aV r ta tb):=by
 intro pins s σ H Q I h
 exact wpAny_BinOp (Uy ha hb I h fun v u s2 x y H2 I2 rx ry q=>ho pins s2 σ H2 x y v u Q I2 rx ry q)
theorem UI{op:UnaryOp}{r:V→Hp→VK→Prop}(ho:VJ X (unaryOp op) r)(ha:PE X a ta):PE X (.UnaryOp op a pos) (Wr r ta):=by
 intro pins s σ H Q I h
 exact UnaryOp_ (c7 (ha pins s σ H _ I h) fun v s1 ⟨x,H1,I1,r1,q1⟩=>ho pins s1 σ H1 x v Q I1 r1 q1)
theorem VE{f:Value→Value→Sem Value}{C:Int→Int→Prop}{g:Int→Int→Int}
  (rule:∀(i j:Int)(t u:Tok)(s:Shared)(Q:Value→Shared→Prop)(E:Value→Shared→Prop),C i j→Q (.int (g i j) s.toks) {s with toks:=s.toks+1}→wpAny (model X.prog X.w) X.A (f (.int i t) (.int j u)) Q E s):
  yL X f (rI C fun i j=> .int (g i j)):=by
 intro pins s σ H x y v u Q I rx ry h
 obtain ⟨i,j,rfl,rfl,hc,q⟩:=h
 obtain ⟨t,rfl⟩:=rx
 obtain ⟨t',rfl⟩:=ry
 exact rule i j t t' s _ _ hc ⟨.int (g i j),H,I.tok _,⟨_,rfl⟩,q⟩
theorem SF{f:Value→Value→Sem Value}{g:Int→Int→Int}
  (rule:∀(i j:Int)(t u:Tok)(s:Shared)(Q:Value→Shared→Prop)(E:Value→Shared→Prop),Q (.int (g i j) s.toks) {s with toks:=s.toks+1}→wpAny (model X.prog X.w) X.A (f (.int i t) (.int j u)) Q E s):
  yL X f (bP fun i j=> .int (g i j)):=by
 intro pins s σ H x y v u Q I rx ry h
 obtain ⟨i,j,rfl,rfl,q⟩:=h
 obtain ⟨t,rfl⟩:=rx
 obtain ⟨t',rfl⟩:=ry
 exact rule i j t t' s _ _ ⟨.int (g i j),H,I.tok _,⟨_,rfl⟩,q⟩
theorem Sg{f:Value→Value→Sem Value}{g:Int→Int→Bool}
  (rule:∀(i j:Int)(t u:Tok)(s:Shared)(Q:Value→Shared→Prop)(E:Value→Shared→Prop),Q (.bool (g i j)) s→wpAny (model X.prog X.w) X.A (f (.int i t) (.int j u)) Q E s):
  yL X f (bP fun i j=> .bl (g i j)):=by
 intro pins s σ H x y v u Q I rx ry h
 obtain ⟨i,j,rfl,rfl,q⟩:=h
 obtain ⟨t,rfl⟩:=rx
 obtain ⟨t',rfl⟩:=ry
 exact rule i j t t' s _ _ ⟨.bl (g i j),H,I,rfl,q⟩
def Vy(i j:Int):Prop:=0≤j∧j≤1000000∧i.natAbs < 2 ^ 64
def xX(i j:Int):Prop:=(-(2 ^ 64) < i∧i < 2 ^ 64)∨(-(2 ^ 64) < j∧j < 2 ^ 64)
theorem xX.ok{i j:Int}(h:xX i j):IntMulOk i j:=by
 rcases h with ⟨h1,h2⟩ | ⟨h1,h2⟩
 ·exact .of_left (intBits_le_64 h1 h2)
 ·exact .of_right (intBits_le_64 h1 h2)
theorem LJ(k:Nat):(0:Int)≤2 ^ k:=by
 rw [two_pow_cast]
 exact Int.natCast_nonneg _
theorem bw:yL X (binaryOp .Add) (bP fun i j=> .int (i+j)):=SF fun _ _ _ _ _ _ _ q=>add_int q
theorem fB:yL X (binaryOp .Sub) (bP fun i j=> .int (i - j)):=SF fun _ _ _ _ _ _ _ q=>sub_int q
theorem rm:yL X (binaryOp .Mult) (rI xX fun i j=> .int (i * j)):=VE fun _ _ _ _ _ _ _ hc q=>mul_int q hc.ok
theorem QR:yL X (binaryOp .Mod) (rI (fun _ j=>0 < j) fun i j=> .int (i % j)):=VE fun i j _ _ _ _ _ hc q=>by
 have h1:(0:Int) < j:=hc
 exact mod_int' (by omega) (by rw [Int.fmod_eq_emod_of_nonneg i (by omega)];exact q)
theorem T4:yL X (binaryOp .LShift) (rI Vy fun i j=> .int (i * 2 ^ j.toNat)):=VE fun _ _ _ _ _ _ _ hc q=>lshift_int_small hc.1 hc.2.1 hc.2.2 q
theorem jR:yL X (binaryOp .RShift) (rI (fun _ j=>0≤j) fun i j=> .int (i / 2 ^ j.toNat)):=VE fun i j _ _ _ _ _ hc q=>
 rshift_int hc (by rw [Int.fdiv_eq_ediv_of_nonneg i (LJ _)];exact q)
theorem da:yL X (binaryOp .BitAnd) (bP fun i j=> .int (Builtin.bitAnd i j)):=SF fun _ _ _ _ _ _ _ q=>and_int q
theorem SV:yL X (binaryOp .BitOr) (bP fun i j=> .int (Builtin.bitOr i j)):=SF fun _ _ _ _ _ _ _ q=>or_int q
theorem WA{f:Value→Sem Value}{g:Int→Int}
  (rule:∀(i:Int)(t:Tok)(s:Shared)(Q:Value→Shared→Prop)(E:Value→Shared→Prop),Q (.int (g i) s.toks) {s with toks:=s.toks+1}→wpAny (model X.prog X.w) X.A (f (.int i t)) Q E s):
  VJ X f (rU fun i=> .int (g i)):=by
 intro pins s σ H x v Q I rx h
 obtain ⟨i,rfl,q⟩:=h
 obtain ⟨t,rfl⟩:=rx
 exact rule i t s _ _ ⟨.int (g i),H,I.tok _,⟨_,rfl⟩,q⟩
theorem T5:VJ X (unaryOp .USub) (rU fun i=> .int (-i)):=WA fun _ _ _ _ _ q=>neg_int q
end
def U4:V→V→Bool
 | .bB,.bB=>true | .bB,.int _=>true | .int _,.bB=>true | .bB,.bl _=>true | .bl _,.bB=>true | .bB,.str _=>true | .str _,.bB=>true
 | .int _,.int _=>true | .bl _,.bl _=>true | .str _,.str _=>true | .vq _,.vq _=>true
 | .int _,.str _=>true | .str _,.int _=>true | .bl _,.str _=>true | .str _,.bl _=>true
 | _,_=>false
def lL:R2:=fun x y H Q=>U4 x y=true∧Q (.bl (decide (x=y))) H
def xC:R2:=fun x y H Q=>U4 x y=true∧Q (.bl (!decide (x=y))) H
theorem NT{i j:Int}:decide (V.int i=V.int j)= (i == j):=by
 rw [Bool.eq_iff_iff]
 simp
theorem Pg{i j:Bool}:decide (V.bl i=V.bl j)= (i == j):=by
 rw [Bool.eq_iff_iff]
 simp
theorem NH{i j:Str}:decide (V.str i=V.str j)= (i == j):=by
 rw [Bool.eq_iff_iff]
 simp
theorem Nb{i j:Array UInt8}:decide (V.vq i=V.vq j)= (i.toList == j.toList):=by
 rw [Bool.eq_iff_iff]
 cases i
 cases j
 simp
section
variable{X:Cx}{a b c:Expr}{ta tb tc:TE}{pos:Pos}
theorem cf{pins:List (Addr × Obj)}{σ:St}{H:Hp}{s:Shared}{Q:VK}{k k':Bool}(I:Inv X pins σ H s)(q:Q (.bl k) H)(e:k=k'):EP X pins σ Q (.bool k') s:=by
 subst e
 exact ⟨.bl k,H,I,rfl,q⟩
theorem bU:yL X (compareOp .Eq) lL:=by
 intro pins s σ H x y v u Q I rx ry h
 obtain ⟨hs,q⟩:=h
 cases x with
 | bB=>
  cases rx
  cases y with
  | bB=>cases ry;exact PySem.EqNone.eq_none_none (cf I q (by simp))
  | bl j=>cases ry;exact PySem.EqNone.eq_none_bool (cf I q (by simp))
  | int j=>obtain ⟨t',rfl⟩:=ry;exact PySem.EqNone.eq_none_int (cf I q (by simp))
  | str j=>obtain ⟨t',rfl⟩:=ry;exact PySem.EqNone.eq_none_str (cf I q (by simp))
  | _=>exact absurd (show false=true from hs) Bool.false_ne_true
 | bl i=>
  cases rx
  cases y with
  | bB=>cases ry;exact PySem.EqNone.eq_bool_none (cf I q (by simp))
  | bl j=>cases ry;exact eq_bool (cf I q Pg)
  | str j=>obtain ⟨t',rfl⟩:=ry;exact PySem.EqMixed.eq_bool_str (cf I q (by simp))
  | _=>exact absurd (show false=true from hs) Bool.false_ne_true
 | int i=>
  obtain ⟨t,rfl⟩:=rx
  cases y with
  | bB=>cases ry;exact PySem.EqNone.eq_int_none (cf I q (by simp))
  | int j=>obtain ⟨t',rfl⟩:=ry;exact eq_int (cf I q NT)
  | str j=>obtain ⟨t',rfl⟩:=ry;exact PySem.EqMixed.eq_int_str (cf I q (by simp))
  | _=>exact absurd (show false=true from hs) Bool.false_ne_true
 | str i=>
  obtain ⟨t,rfl⟩:=rx
  cases y with
  | bB=>cases ry;exact PySem.EqNone.eq_str_none (cf I q (by simp))
  | bl j=>cases ry;exact PySem.EqMixed.eq_str_bool (cf I q (by simp))
  | int j=>obtain ⟨t',rfl⟩:=ry;exact PySem.EqMixed.eq_str_int (cf I q (by simp))
  | str j=>obtain ⟨t',rfl⟩:=ry;exact eq_str (cf I q NH)
  | _=>exact absurd (show false=true from hs) Bool.false_ne_true
 | vq i=>
  obtain ⟨t,rfl⟩:=rx
  cases y with
  | vq j=>obtain ⟨t',rfl⟩:=ry;exact PySem.W.eq_bytes (cf I q Nb)
  | _=>exact absurd (show false=true from hs) Bool.false_ne_true
 | _=>cases y <;> exact absurd (show false=true from hs) Bool.false_ne_true
theorem fe:yL X (compareOp .NotEq) xC:=by
 intro pins s σ H x y v u Q I rx ry h
 obtain ⟨hs,q⟩:=h
 cases x with
 | bB=>
  cases rx
  cases y with
  | bB=>cases ry;exact PySem.EqNone.ne_none_none (cf I q (by simp))
  | bl j=>cases ry;exact PySem.EqNone.ne_none_bool (cf I q (by simp))
  | int j=>obtain ⟨t',rfl⟩:=ry;exact PySem.EqNone.ne_none_int (cf I q (by simp))
  | str j=>obtain ⟨t',rfl⟩:=ry;exact PySem.EqNone.ne_none_str (cf I q (by simp))
  | _=>exact absurd (show false=true from hs) Bool.false_ne_true
 | bl i=>
  cases rx
  cases y with
  | bB=>cases ry;exact PySem.EqNone.ne_bool_none (cf I q (by simp))
  | bl j=>cases ry;exact ne_bool (cf I q (congrArg not Pg))
  | str j=>obtain ⟨t',rfl⟩:=ry;exact PySem.EqMixed.ne_bool_str (cf I q (by simp))
  | _=>exact absurd (show false=true from hs) Bool.false_ne_true
 | int i=>
  obtain ⟨t,rfl⟩:=rx
  cases y with
  | bB=>cases ry;exact PySem.EqNone.ne_int_none (cf I q (by simp))
  | int j=>obtain ⟨t',rfl⟩:=ry;exact ne_int (cf I q (congrArg not NT))
  | str j=>obtain ⟨t',rfl⟩:=ry;exact PySem.EqMixed.ne_int_str (cf I q (by simp))
  | _=>exact absurd (show false=true from hs) Bool.false_ne_true
 | str i=>
  obtain ⟨t,rfl⟩:=rx
  cases y with
  | bB=>cases ry;exact PySem.EqNone.ne_str_none (cf I q (by simp))
  | bl j=>cases ry;exact PySem.EqMixed.ne_str_bool (cf I q (by simp))
  | int j=>obtain ⟨t',rfl⟩:=ry;exact PySem.EqMixed.ne_str_int (cf I q (by simp))
  | str j=>obtain ⟨t',rfl⟩:=ry;exact ne_str (cf I q (congrArg not NH))
  | _=>exact absurd (show false=true from hs) Bool.false_ne_true
 | vq i=>
  obtain ⟨t,rfl⟩:=rx
  cases y with
  | vq j=>obtain ⟨t',rfl⟩:=ry;exact PySem.W.ne_bytes (cf I q (congrArg not Nb))
  | _=>exact absurd (show false=true from hs) Bool.false_ne_true
 | _=>cases y <;> exact absurd (show false=true from hs) Bool.false_ne_true
theorem mY:yL X (compareOp .Lt) (bP fun i j=> .bl (decide (i < j))):=Sg fun _ _ _ _ _ _ _ q=>lt_int q
theorem kj:yL X (compareOp .LtE) (bP fun i j=> .bl (decide (i≤j))):=Sg fun _ _ _ _ _ _ _ q=>le_int q
theorem A5:yL X (compareOp .Gt) (bP fun i j=> .bl (decide (j < i))):=Sg fun _ _ _ _ _ _ _ q=>gt_int q
theorem Ju:yL X (compareOp .GtE) (bP fun i j=> .bl (decide (j≤i))):=Sg fun _ _ _ _ _ _ _ q=>ge_int q
theorem F8:yL X (compareOp .In) (fun x y H Q=>∃i j,x= .str i∧y= .str j∧Q (.bl (!(Builtin.Str.occurrences j i 0 j.length 1).isEmpty)) H):=by
 intro pins s σ H x y v u Q I rx ry h
 obtain ⟨i,j,rfl,rfl,q⟩:=h
 obtain ⟨t,rfl⟩:=rx
 obtain ⟨t',rfl⟩:=ry
 exact in_str (cf I q rfl)
theorem aK(b:Expr){op:CmpOp}(h:op ≠ .In:=by decide)(h2:op ≠ .NotIn:=by decide):behindInMarks op b=false:=by
 have e1:(op == CmpOp.In)=false:=by cases op <;> first | rfl | exact absurd rfl h
 have e2:(op == CmpOp.NotIn)=false:=by cases op <;> first | rfl | exact absurd rfl h2
 cases b <;> simp [behindInMarks,e1,e2]
theorem cG{op:CmpOp}{r:R2}(ho:yL X (compareOp op) r)(ha:PE X a ta)(hb:PE X b tb)(hm:behindInMarks op b=false):PE X (.Compare a [op] [b] pos) (aV r ta tb):=by
 intro pins s σ H Q I h
 exact wpAny_Compare1 (Uy ha hb I h fun v u s2 x y H2 I2 rx ry q=>ho pins s2 σ H2 x y v u Q I2 rx ry q) hm
def aU(t:TE):TT:=fun σ H Q=>t σ H fun x H'=>∃k,x= .bl k∧Q k H'
theorem aH{op:CmpOp}{r:R2}(ho:yL X (compareOp op) r)(ha:PE X a ta)(hb:PE X b tb)(hm:behindInMarks op b=false):PT X (.Compare a [op] [b] pos) (aU (aV r ta tb)):=by
 intro pins s σ H Q I h
 refine wpAny_isTrue_Compare1 (c7 (ha pins s σ H _ I h) fun v s1 ⟨x,H1,I1,r1,q1⟩=>c7 (hb pins s1 σ H1 _ I1 q1) fun u s2 ⟨y,H2,I2,r2,q2⟩=>
  c7 (ho pins s2 σ H2 x y v u _ I2 r1 r2 q2) fun c s3 ⟨z,H3,I3,r3,k,e,q3⟩=>?_) hm
 subst e
 cases r3
 exact wpAny_truthy_bool ⟨H3,I3,q3⟩
def px(r r':R2)(ta tb tc:TE):TE:=fun σ H Q=>ta σ H fun x H1=>tb σ H1 fun y H2=>r x y H2 fun z H3=>∃k,z= .bl k∧
 (if k=true then tc σ H3 fun w' H4=>r' y w' H4 Q else Q (.bl false) H3)
theorem J0{op op':CmpOp}{r r':R2}(ho:yL X (compareOp op) r)(ho':yL X (compareOp op') r')(ha:PE X a ta)(hb:PE X b tb)(hc:PE X c tc)
  (hm:lastMarks [op,op'] [b,c] = false:=by with_unfolding_all rfl):PE X (.Compare a [op,op'] [b,c] pos) (px r r' ta tb tc):=by
 intro pins s σ H Q I h
 refine Compare_chain (c7 (ha pins s σ H _ I h) fun v s1 ⟨x,H1,I1,r1,q1⟩=>chain_link (c7 (hb pins s1 σ H1 _ I1 q1) fun u s2 ⟨y,H2,I2,r2,q2⟩=>
  c7 (ho pins s2 σ H2 x y v u _ I2 r1 r2 q2) fun d s3 ⟨z,H3,I3,r3,k,e,q3⟩=>?_)) hm
 subst e
 cases r3
 refine wpAny_truthy_bool ?_
 cases k with
 | false=>exact ite_ff ⟨.bl false,H3,I3,rfl,q3⟩
 | true=>exact ite_tt (chain_last (c7 (hc pins s3 σ H3 _ I3 q3) fun w' s4 ⟨z',H4,I4,r4,q4⟩=>ho' pins s4 σ H4 y z' u w' Q I4 r2 r4 q4))
theorem pQ{op op':CmpOp}{r r':R2}(ho:yL X (compareOp op) r)(ho':yL X (compareOp op') r')(ha:PE X a ta)(hb:PE X b tb)(hc:PE X c tc)
  (hm:lastMarks [op,op'] [b,c] = false:=by with_unfolding_all rfl):PT X (.Compare a [op,op'] [b,c] pos) (aU (px r r' ta tb tc)):=by
 intro pins s σ H Q I h
 refine isTrue_chain (c7 (ha pins s σ H _ I h) fun v s1 ⟨x,H1,I1,r1,q1⟩=>test_link (c7 (hb pins s1 σ H1 _ I1 q1) fun u s2 ⟨y,H2,I2,r2,q2⟩=>
  c7 (ho pins s2 σ H2 x y v u _ I2 r1 r2 q2) fun d s3 ⟨z,H3,I3,r3,k,e,q3⟩=>?_)) hm
 subst e
 cases r3
 refine wpAny_truthy_bool ?_
 cases k with
 | false=>
  obtain ⟨k',e',q'⟩:=q3
  cases e'
  exact ite_ff ⟨H3,I3,q'⟩
 | true=>
  refine ite_tt (test_last (c7 (hc pins s3 σ H3 _ I3 q3) fun w' s4 ⟨z',H4,I4,r4,q4⟩=>c7 (ho' pins s4 σ H4 y z' u w' _ I4 r2 r4 q4) fun d' s5 ⟨z2,H5,I5,r5,k2,e2,q5⟩=>?_))
  subst e2
  cases r5
  exact wpAny_truthy_bool ⟨H5,I5,q5⟩
theorem Ja:(sizeLine:Nat) < 2 ^ 63:=by rw [sizeLine_eq];decide
theorem vals1{x:V}{us:List Value}(r:Vals [x] us):∃u,us = [u]∧RelV x u:=by
 cases r with
 | cons r1 r2=>cases r2;exact ⟨_,rfl,r1⟩
theorem vals2{x y:V}{us:List Value}(r:Vals [x,y] us):∃u w',us = [u,w']∧RelV x u∧RelV y w':=by
 cases r with
 | cons r1 r2=>
  cases r2 with
  | cons r3 r4=>cases r4;exact ⟨_,_,rfl,r1,r3⟩
theorem GS(hc:X.calm=true):za X (.builtin "max") (fun xs H Q=>∃i j,xs = [.int i,.int j]∧Q (.int (if j > i then j else i)) H):=by
 intro pins s σ H xs us Q I r h
 obtain ⟨i,j,rfl,q⟩:=h
 obtain ⟨u,w',rfl,⟨t,rfl⟩,⟨t',rfl⟩⟩:=vals2 r
 refine max_two_ints (I.ok.hd hc) fun h' tk k=>⟨_,H,I.kept k,?_,q⟩
 by_cases hj:j > i
 ·rw [if_pos hj,if_pos hj];exact ⟨_,rfl⟩
 ·rw [if_neg hj,if_neg hj];exact ⟨_,rfl⟩
theorem NU(hc:X.calm=true):za X (.builtin "min") (fun xs H Q=>∃i j,xs = [.int i,.int j]∧Q (.int (if j < i then j else i)) H):=by
 intro pins s σ H xs us Q I r h
 obtain ⟨i,j,rfl,q⟩:=h
 obtain ⟨u,w',rfl,⟨t,rfl⟩,⟨t',rfl⟩⟩:=vals2 r
 refine min_two_ints (I.ok.hd hc) fun h' tk k=>⟨_,H,I.kept k,?_,q⟩
 by_cases hj:j < i
 ·rw [if_pos hj,if_pos hj];exact ⟨_,rfl⟩
 ·rw [if_neg hj,if_neg hj];exact ⟨_,rfl⟩
end
end L2
namespace L2
open PySem PySem.Spec PyProof.Rows
structure MI(h:Heap)(x dx C:Addr)(mA:Str→Option Value):Prop where
 obj:h.get? x=some (PySem.W.instObj C dx)
 ns:h.Ns1 dx mA
 ne:dx ≠ x
theorem OI{h:Heap}{dx:Addr}{mA:Str→Option Value}(n:h.Ns1 dx mA):∃od,h.get? dx=some od∧∀name,PySem.W.lookIn name od=some (mA name):=by
 obtain ⟨o,es,ep,ho,hd,hk,_,hm⟩:=n
 refine ⟨o,ho,fun name=>?_⟩
 have e:=hm name
 unfold nsFind findBy at e
 rw [←Array.find?_toList] at e
 unfold PySem.W.lookIn
 rw [hd]
 dsimp only
 split
 ·rename_i y q
  rw [q] at e
  exact congrArg some e
 ·rename_i q
  rw [q] at e
  have a:es.toList.any (·.refKey)=false:=by
   rw [List.any_eq_false]
   intro y hy
   obtain ⟨z,t,hkey⟩:=hk y (Array.mem_toList_iff.mp hy)
   simp [DictEntry.refKey,hkey]
  have a':¬es.toList.any (·.refKey)=true:=by rw [a];exact Bool.false_ne_true
  rw [if_neg a']
  exact congrArg some e
theorem MI.look{h:Heap}{x dx C:Addr}{mA:Str→Option Value}(I:MI h x dx C mA):∃od,PySem.W.InstAt h x (PySem.W.instObj C dx) C (some od)∧∀name,PySem.W.lookIn name od=some (mA name):=
 let ⟨od,ho,hl⟩:=OI I.ns
 ⟨od,⟨I.obj,rfl,rfl,ho⟩,hl⟩
section
variable{prog:Program}{w:World}{A:Around}{E:Value→Shared→Prop}{s:Shared}{K:PySem.W.Frag}{x dx C f:Addr}{mA:Str→Option Value}{name:Str}{v:Value}
theorem get_map{expr:Bool}{Q:Value→Shared→Prop}(X:K.In s.heap)(I:MI s.heap x dx C mA)(hg:PySem.W.plainGet K C name=true)(hh:PySem.W.hasDictIn K C=true)
  (ha:PySem.W.findIn K (.ref C) name=some none) (hv:mA name=some v) (hv':PySem.W.handedIn v=true) (h:Q v {s with toks:=s.toks+1}):
  wpAny (model prog w) A (getAttr (.ref x) name expr) Q E s:=by
 obtain ⟨od,J,hl⟩:=I.look
 exact PySem.W.get_value X J (PySem.W.plainGet_of hg).1 (PySem.W.findObj_own hh ha rfl (by rw [hl,hv])) hv' h
theorem Pq{pl:Sem Bool}{Q:Value × List Value→Shared→Prop}(X:K.In s.heap)(I:MI s.heap x dx C mA)(hg:PySem.W.plainGet K C name=true)
  (hf:PySem.W.findIn K (.ref C) name=some (some (.ref f))) (ht:PySem.W.isFn K (.ref f)=true) (hv:mA name=none) (h:Q (.ref f,[.ref x]) s):
  wpAny (model prog w) A (getMethod (.ref x) name pl) Q E s:=by
 obtain ⟨od,J,hl⟩:=I.look
 exact PySem.W.method_fn X J (PySem.W.plainGet_of hg).1 (PySem.W.plainGet_of hg).2 hf (beq_iff_eq.mp ht) (by show (PySem.W.lookIn name od).map (·.isSome)=some false;rw [hl,hv];rfl) h
theorem SH{ns:List Str}{Q:Unit→Shared→Prop}(X:K.In s.heap)(I:MI s.heap x dx C mA)
  (hs:PySem.W.findIn K (.ref C) "__setattr__" = some (some (.builtin "object.__setattr__"))) (hp:PySem.W.plainOver K C=true) (ht:PySem.W.takerIn K C name=some none) (hh:PySem.W.hasDictIn K C=true)
  (hw:PySem.Within mA ns) (hsz:ns.length≤sizeLine)
  (h:∀h',MI h' x dx C (fun y=>if y=name then some v else mA y)→Heap.SameBut dx s.heap h'→Q () {s with heap:=h',toks:=s.toks+2}):
  wpAny (model prog w) A (setAttr (.ref x) name v) Q E s:=by
 obtain ⟨od,J,hl⟩:=I.look
 refine PySem.W.set_plain X J hs (PySem.W.osa_open (s:={s with toks:=s.toks+1}) (r:=none) X J hp ht fun b=>?_)
 obtain ⟨cd,hc,hd'⟩:=PySem.W.any_some hh
 have hx:s.heap.get? x=some ⟨.ref C,some dx,.plain,#[]⟩:=I.obj
 refine wpAny_bind (wpAny_pure (wpAny_bind (wpAny_bind (wpAny_loadPart hx (wpAny_bind (PySem.W.Looks.here (s:={s with toks:=s.toks+1}) (PySem.W.looks_clsIn X hc) ?_))))))
 rw [hd']
 refine wpAny_pure (a:=some dx) (wpAny_bind (wpAny_pure (wpAny_bind ?_)))
 refine wpAny_nsSet1 (s:={s with toks:=s.toks+1}) I.ns fun h' hn2 hs2=>?_
 obtain ⟨oD,esD,epD,hoD,hdD,hcD⟩:=hn2.count (PySem.Within.cons name v hw)
 refine wpAny_bind (wpAny_lookBehind hoD (by rw [hdD];exact pastItsLine_dict (Nat.le_trans hcD (by rw [List.length_cons];omega))) ?_)
 exact wpAny_pure (h _ ⟨(hs2.2 _ (Ne.symm I.ne)).trans I.obj,hn2,I.ne⟩ hs2)
theorem Qk{R:Result→Shared→Prop}{vs:List Value}{kw:List (Str × Value)}(X:K.In s.heap)(hm:PySem.W.makesIn K C=true)
  (hi:PySem.W.findIn K (.ref C) "__init__" = some (some (.ref f))) (hf:PySem.W.typeIn K (.ref f)=some (.type "function"))
  (h:codeAny (model prog w) (A.under (.builtin "type.__call__" ⟨.ref C::vs,kw⟩)) (.call (.ref f) ⟨.ref (s.heap.objs.size+1)::vs,kw⟩) (PySem.W.InitBack (s.heap.objs.size+1) R)
   {s with heap:=(s.heap.push PySem.W.emptyDict).push (PySem.W.instObj C s.heap.objs.size)}):
  codeAny (model prog w) A (.call (.ref C) ⟨vs,kw⟩) R s:=by
 obtain ⟨hh,g,d,t,os⟩:=s
 exact PySem.W.make_core (PySem.W.makes_of X hm) (PySem.W.looks_findIn X hi) (fun self=>PySem.W.bind_fn X self hf) (.inl rfl) h
end
def bI(f:Str)(v:V):List (Str × V)→List (Str × V)
 | []=>[(f,v)]
 | (g,x)::r=>if g=f then (g,v)::r else (g,x)::bI f v r
theorem tJ(f g:Str)(v:V):∀fs:List (Str × V),(bI f v fs).lookup g=if g=f then some v else fs.lookup g
 | []=>by
  show List.lookup g [(f,v)] = _
  by_cases h:g=f
  ·have hb:(g == f)=true:=beq_iff_eq.mpr h
   simp only [List.lookup,hb,if_pos h]
  ·have hb:(g == f)=false:=beq_eq_false_iff_ne.mpr h
   simp only [List.lookup,hb,if_neg h]
 | (k,x)::r=>by
  have ih:=tJ f g v r
  rw [show bI f v ((k,x)::r)= (if k=f then (k,v)::r else (k,x)::bI f v r) from rfl]
  by_cases hk:k=f
  ·rw [if_pos hk]
   by_cases h:g=k
   ·have hb:(g == k)=true:=beq_iff_eq.mpr h
    simp only [List.lookup,hb,if_pos (h.trans hk)]
   ·have hb:(g == k)=false:=beq_eq_false_iff_ne.mpr h
    simp only [List.lookup,hb,if_neg (fun e:g=f=>h (e.trans hk.symm))]
  ·rw [if_neg hk]
   by_cases h:g=k
   ·have hb:(g == k)=true:=beq_iff_eq.mpr h
    simp only [List.lookup,hb,if_neg (fun e:g=f=>hk (h.symm.trans e))]
   ·have hb:(g == k)=false:=beq_eq_false_iff_ne.mpr h
    simp only [List.lookup,hb]
    exact ih
theorem Ac(f:Str)(v:V):∀fs:List (Str × V),f ∈ (bI f v fs).map (·.1)∧∀g,g ∈ fs.map (·.1)→g ∈ (bI f v fs).map (·.1)
 | []=>⟨by simp [bI],fun g h=>by simp at h⟩
 | (k,x)::r=>by
  obtain ⟨i1,i2⟩:=Ac f v r
  rw [show bI f v ((k,x)::r)= (if k=f then (k,v)::r else (k,x)::bI f v r) from rfl]
  by_cases hk:k=f
  ·rw [if_pos hk]
   subst hk
   exact ⟨by simp,fun g h=>by simpa using h⟩
  ·rw [if_neg hk]
   refine ⟨?_,fun g h=>?_⟩
   ·rw [List.map_cons]
    exact List.mem_cons_of_mem _ i1
   ·rw [List.map_cons] at h ⊢
    rcases List.mem_cons.mp h with e | e
    ·exact List.mem_cons.mpr (.inl e)
    ·exact List.mem_cons_of_mem _ (i2 g e)
theorem uE(f:Str)(v:V):∀fs:List (Str × V),(bI f v fs).length≤fs.length+1
 | []=>by simp [bI]
 | (k,x)::r=>by
  have ih:=uE f v r
  rw [show bI f v ((k,x)::r)= (if k=f then (k,v)::r else (k,x)::bI f v r) from rfl]
  by_cases hk:k=f
  ·rw [if_pos hk,List.length_cons,List.length_cons];omega
  ·rw [if_neg hk,List.length_cons,List.length_cons];omega
theorem sO.some_of{v:V}{o:Option Value}(r:sO (some v) o):∃u,o=some u∧RelV v u:=by
 cases o with
 | none=>exact (show False from r).elim
 | some u=>exact ⟨u,rfl,r⟩
theorem sO.none_of{o:Option Value}(r:sO none o):o=none:=by
 cases o with
 | none=>rfl
 | some u=>exact (show False from r).elim
theorem OF{v:V}{u:Value}(r:RelV v u):PySem.W.handedIn u=true:=by
 cases v with
 | bB=>cases (show u=Value.none from r);rfl
 | bl b=>cases (show u=Value.bool b from r);rfl
 | int i=>obtain ⟨t,e⟩:=(show ∃t,u=Value.int i t from r);cases e;rfl
 | str x=>obtain ⟨t,e⟩:=(show ∃t,u=Value.str x t from r);cases e;rfl
 | vq b=>obtain ⟨t,e⟩:=(show ∃t,u=Value.bytes b t from r);cases e;rfl
 | flt b=>obtain ⟨t,e⟩:=(show ∃t,u=Value.float b t from r);cases e;rfl
 | ref a=>cases (show u=Value.ref a from r);rfl
 | ty n=>cases (show u=Value.type n from r);rfl
section
variable{P:Program}{w:World}{H H':Hp}{h h':Heap}{a C dx:Addr}{fs fs':List (Str × V)}
theorem Ip(dB:xB P w H h)(e:H a=some (.ins C dx fs)):∃mA,MI h a dx C mA∧(∀f,sO (fs.lookup f) (mA f))∧PySem.Within mA (fs.map (·.1))∧fs.length≤1000∧H dx=some (.own a):=by
 obtain ⟨d,z,ne,ob,mA,n,r,q⟩:=(show gD P w H h a (.ins C dx fs) from dB a _ e)
 exact ⟨mA,⟨ob,n,ne⟩,r,q,z,d⟩
end
structure K2(K:PySem.W.Frag)(C:Addr):Prop where
 pg:PySem.W.plainGet K C Str.empty=true
 hd:PySem.W.hasDictIn K C=true
 po:PySem.W.plainOver K C=true
 sa:PySem.W.findIn K (.ref C) "__setattr__" = some (some (.builtin "object.__setattr__"))
theorem K2.get{K:PySem.W.Frag}{C:Addr}(c:K2 K C)(f:Str):PySem.W.plainGet K C f=true:=c.pg
def b0(K:PySem.W.Frag)(C:Addr)(f:Str):Prop:=PySem.W.findIn K (.ref C) f=some none
theorem b0.Ve{K:PySem.W.Frag}{C:Addr}{f:Str}(n:b0 K C f):PySem.W.takerIn K C f=some none:=by
 unfold PySem.W.takerIn
 rw [show PySem.W.findIn K (.ref C) f=some none from n]
 rfl
structure Meth(K:PySem.W.Frag)(C:Addr)(m:Str)(f:Addr):Prop where
 at_:PySem.W.findIn K (.ref C) m=some (some (.ref f))
 fn:PySem.W.isFn K (.ref f)=true
 kp:PySem.W.keepIn K (.ref f)=true
section
variable{X:Cx}{pins:List (Addr × Obj)}{σ:St}{H:Hp}{s:Shared}{a C dx:Addr}{fs:List (Str × V)}{f:Str}{v:V}{A:Around}{E:Value→Shared→Prop}
theorem Dz{b:Bool}{Q:Value→Shared→Prop}(I:Inv X pins σ H s)(e:H a=some (.ins C dx fs))(c:K2 X.K C)(n:b0 X.K C f)(l:fs.lookup f=some v)
  (h:∀u s',Inv X pins σ H s'→RelV v u→Q u s'):wpAny (model X.prog X.w) A (getAttr (.ref a) f b) Q E s:=by
 obtain ⟨mA,O,r,_,_,_⟩:=Ip I.dB e
 obtain ⟨u,hu,ru⟩:=sO.some_of (v:=v) (o:=mA f) (by rw [←l];exact r f)
 exact get_map I.Lo O (c.get f) c.hd n hu (OF ru) (h u _ (I.tok _) ru)
theorem EG{m:Str}{g:Addr}{pl:Sem Bool}{Q:Value × List Value→Shared→Prop}(I:Inv X pins σ H s)(e:H a=some (.ins C dx fs))(c:K2 X.K C)(k:Meth X.K C m g)(l:fs.lookup m=none)
  (h:Q (.ref g,[.ref a]) s):wpAny (model X.prog X.w) A (getMethod (.ref a) m pl) Q E s:=by
 obtain ⟨mA,O,r,_,_,_⟩:=Ip I.dB e
 have hn:mA m=none:=sO.none_of (by rw [←l];exact r m)
 exact Pq I.Lo O (c.get m) k.at_ k.fn hn h
theorem Er{y:V}{u:Value}{Q:Unit→Shared→Prop}(I:Inv X pins σ H s)(e:H a=some (.ins C dx fs))(c:K2 X.K C)(n:b0 X.K C f)(hl:fs.length < 1000)(ry:RelV y u)
  (h:∀s',Inv X pins σ (upd H a (.ins C dx (bI f y fs))) s'→Q () s'):wpAny (model X.prog X.w) A (setAttr (.ref a) f u) Q E s:=by
 obtain ⟨mA,O,r,wi,_,ho⟩:=Ip I.dB e
 have hz:(fs.map (·.1)).length≤sizeLine:=by rw [List.length_map,sizeLine_eq];omega
 refine SH I.Lo O c.sa c.po n.Ve c.hd wi hz fun h' O' sb=>h _ ?_
 have hd:∃o,h'.get? dx=some o:=let ⟨o,_,_,e',_⟩:=O'.ns;⟨o,e'⟩
 refine I.write (x:=a) (e:=dx) (by rw [e];exact True.intro) (.inr ho) (fun b q hb z=>(sb.2 b hb).trans z) hd ?_
 refine ⟨by rw [aL O.ne];exact ho,?_,O.ne,O'.obj,_,O'.ns,fun g=>?_,fun g hg=>?_⟩
 ·have:=uE f y fs;omega
 ·show sO ((bI f y fs).lookup g) (if g=f then some u else mA g)
  rw [tJ]
  by_cases q:g=f
  ·rw [if_pos q,if_pos q];exact ry
  ·rw [if_neg q,if_neg q];exact r g
 ·by_cases q:g=f
  ·rw [q];exact (Ac f y fs).1
  ·refine (Ac f y fs).2 g (wi g fun z=>hg ?_)
   show (if g=f then some u else mA g)=none
   rw [if_neg q];exact z
theorem Inv.made(I:Inv X pins σ H s):Inv X pins σ (upd (upd H s.heap.objs.size (.own (s.heap.objs.size+1))) (s.heap.objs.size+1) (.ins C s.heap.objs.size []))
  {s with heap:=(s.heap.push PySem.W.emptyDict).push (PySem.W.instObj C s.heap.objs.size)}:=by
 have e1:(s.heap.push PySem.W.emptyDict).get? s.heap.objs.size=some PySem.W.emptyDict:=Heap.get?_push_size s.heap rfl
 have e2:((s.heap.push PySem.W.emptyDict).push (PySem.W.instObj C s.heap.objs.size)).get? (s.heap.objs.size+1)=some (PySem.W.instObj C s.heap.objs.size):=by
  have:=Heap.get?_push_size (s.heap.push PySem.W.emptyDict) (o:=PySem.W.instObj C s.heap.objs.size) rfl
  rwa [Heap.size_push] at this
 have e3:(s.heap.push PySem.W.emptyDict).Ns s.heap.objs.size (fun _=>none):=⟨PySem.W.emptyDict,#[],_,e1,rfl,(fun e he=>absurd he (by simp)),fun _=>rfl⟩
 have I1:=I.laid (a:=s.heap.objs.size) (o:= .own (s.heap.objs.size+1)) (h':=s.heap.push PySem.W.emptyDict) (t':=s.toks) (fun b u q=>Heap.get?_push_of_some _ q) (Nat.le_refl _) ⟨_,e1⟩
 refine I1.laid (a:=s.heap.objs.size+1) (o:= .ins C s.heap.objs.size []) (t':=s.toks) (fun b u q=>Heap.get?_push_of_some _ q) (Nat.le_of_eq (Heap.size_push _ _)) ?_
 have ne:s.heap.objs.size ≠ s.heap.objs.size+1:=Nat.ne_of_lt (Nat.lt_succ_self _)
 refine ⟨by rw [aL ne,ao],Nat.zero_le _,ne,e2,fun _=>none,(Heap.Ns1.of_empty e3).at fun o q=>Heap.get?_push_of_some _ q,fun _=>True.intro,fun y hy=>absurd rfl hy⟩
theorem R9{prog:Program}{w:World}{env:Env}{e:Expr}{f:Str}{pos:Pos}{s:Shared}{Q:Value→Shared→Prop}(hb:attributeBase e f env (eval e env)=eval e env)
  (h:wpAny (model prog w) A (eval e env) (fun o s₁=>wpAny (model prog w) A (getAttr o f true) Q E s₁) E s):wpAny (model prog w) A (eval (.Attribute e f pos) env) Q E s:=
 Attribute_any_ h (by rw [arm_eval_Attribute,hb])
end
def aT(K:PySem.W.Frag)(ta:TE)(f:Str):TE:=fun σ H Q=>ta σ H fun x H1=>∃a C dx fs v,x= .ref a∧H1 a=some (.ins C dx fs)∧K2 K C∧b0 K C f∧fs.lookup f=some v∧Q v H1
def cJ(K:PySem.W.Frag)(ta tv:TE)(f:Str):TS:=fun D σ H=>tv σ H fun y H1=>ta σ H1 fun x H2=>∃a C dx fs,x= .ref a∧H2 a=some (.ins C dx fs)∧K2 K C∧b0 K C f∧fs.length < 1000∧
 D.nx σ (upd H2 a (.ins C dx (bI f y fs)))
def Vj(X:Cx)(op:Operator)(rd:V→V→Hp→VK→Prop):Prop:=
 ∀(pins:List (Addr × Obj))(s:Shared)(σ:St)(H:Hp)(x y:V)(u v:Value)(Q:VK),Inv X pins σ H s→RelV x u→RelV y v→rd x y H Q→wpAny (model X.prog X.w) X.A (inplaceOp op u v) (EP X pins σ Q) X.xe s
def G8(K:PySem.W.Frag)(ta tv:TE)(rd:V→V→Hp→VK→Prop)(f:Str):TS:=fun D σ H=>ta σ H fun x H1=>∃a C dx fs v,x= .ref a∧H1 a=some (.ins C dx fs)∧K2 K C∧b0 K C f∧fs.lookup f=some v∧
 tv σ H1 fun y H2=>rd v y H2 fun z H3=>∃dx' fs',H3 a=some (.ins C dx' fs')∧fs'.length < 1000∧D.nx σ (upd H3 a (.ins C dx' (bI f z fs')))
section
variable{X:Cx}{o e value:Expr}{f:Str}{pos pos' tpos:Pos}{ta tv:TE}
theorem ay(he:PE X e ta)(hb:attributeBase e f X.env (eval e X.env)=eval e X.env):PE X (.Attribute e f pos) (aT X.K ta f):=by
 intro pins s σ H Q I h
 refine R9 hb (c7 (he pins s σ H _ I h) fun u s1 ⟨x,H1,I1,rx,a,C,dx,fs,v,ex,ea,c,n,l,q⟩=>?_)
 subst ex
 obtain rfl:u=Value.ref a:=rx
 exact Dz I1 ea c n l fun u' s2 I2 ru=>⟨v,H1,I2,ru,q⟩
theorem bC(ha:PE X o ta)(hv:PE X value tv)(hs:swapsWith value (some (.Attribute o f pos')) pos.line X.env=pure false):PS X (.Assign [.Attribute o f pos'] value pos) (cJ X.K ta tv f):=by
 intro pins s σ H D I h
 refine plainObj_wpAny_Assign_Attribute (c7 (hv pins s σ H _ I h) fun u s1 ⟨y,H1,I1,ry,q⟩=>c7 (ha pins s1 σ H1 _ I1 q) fun ov s2 ⟨x,H2,I2,rx,a,C,dx,fs,ex,ea,c,n,l,q2⟩=>?_) hs
 subst ex
 obtain rfl:ov=Value.ref a:=rx
 exact Er I2 ea c n l ry fun s3 I3=>⟨σ,_,I3,q2⟩
theorem F0{op:Operator}{rd:V→V→Hp→VK→Prop}(ha:PE X o ta)(hv:PE X value tv)(hop:Vj X op rd):PS X (.AugAssign (.Attribute o f tpos) op value pos) (G8 X.K ta tv rd f):=by
 intro pins s σ H D I h
 refine wpAny_AugAssign_AttributeAny (c7 (ha pins s σ H _ I h) fun ov s1 ⟨x,H1,I1,rx,a,C,dx,fs,v,ex,ea,c,n,l,q⟩=>?_)
 subst ex
 obtain rfl:ov=Value.ref a:=rx
 refine Dz I1 ea c n l fun u s2 I2 ru=>c7 (hv pins s2 σ H1 _ I2 q) fun w3 s3 ⟨y,H2,I3,ry,q3⟩=>c7 (hop pins s3 σ H2 v y u w3 _ I3 ru ry q3) fun w4 s4 ⟨z,H3,I4,rz,dx',fs',ea',l',q4⟩=>?_
 exact Er I4 ea' c n l' rz fun s5 I5=>⟨σ,_,I5,q4⟩
def S8:V→V→Hp→VK→Prop:=fun x y H Q=>∃i j,x= .int i∧y= .int j∧Q (.int (i+j)) H
theorem QG:Vj X .Add S8:=by
 rintro pins s σ H x y u v Q I rx ry ⟨i,j,rfl,rfl,q⟩
 obtain ⟨t,rfl⟩:=(show ∃t,u=Value.int i t from rx)
 obtain ⟨t',rfl⟩:=(show ∃t',v=Value.int j t' from ry)
 exact PyProof.Rows.iadd_int ⟨.int (i+j),H,I.tok _,⟨_,rfl⟩,q⟩
end
end L2
namespace L2
open PySem PySem.Spec PyProof.Rows
structure iE(k:Nat)(A:Around):Prop where
 hd:A.handled=none
 dp:A.depth+3 * k+5 < recursionLimit
 un:A.units+16 * k+200 < cLine
theorem iE.mono{j k:Nat}{A:Around}(r:iE k A)(h:j≤k):iE j A:=⟨r.hd,by have:=r.dp;omega,by have:=r.un;omega⟩
theorem iE.deeper{k:Nat}{A:Around}(r:iE (k+1) A)(env:Env):iE k (A.deeper env):=
 ⟨r.hd,by have:=r.dp;show A.depth+1+3 * k+5 < _;omega,by have:=r.un;show A.units+3+16 * k+200 < _;omega⟩
theorem LA{A:Around}{C:Addr}{us:List Value}{kw:List (Str × Value)}:(A.under (.builtin "type.__call__" ⟨.ref C::us,kw⟩)).depth=A.depth+1:=by
 first | rfl | simp [Around.under,Code.weight,Code.isCreation,Code.isGuard,Code.isCaller,Code.frames,Code.isFrame,guardIds]
theorem LV{A:Around}{C:Addr}{us:List Value}{kw:List (Str × Value)}:(A.under (.builtin "type.__call__" ⟨.ref C::us,kw⟩)).units=A.units+1:=by
 first | rfl | simp [Around.under,Code.cUnits,Code.frames,Code.isFrame]
theorem iE.make{k:Nat}{A:Around}(r:iE (k+1) A)(C:Addr)(us:List Value)(kw:List (Str × Value)):iE k (A.under (.builtin "type.__call__" ⟨.ref C::us,kw⟩)):=
 ⟨r.hd,by have:=r.dp;rw [LA];omega,by have:=r.un;rw [LV];omega⟩
theorem iE.depth{k:Nat}{A:Around}(r:iE k A):A.depth < recursionLimit:=by have:=r.dp;omega
theorem iE.units{k:Nat}{A:Around}(r:iE k A):A.units+64 < cLine:=by have:=r.un;omega
def aw:TA:=fun _ H Q=>Q [] H
def ae(ta:TE)(tr:TA):TA:=fun σ H Q=>ta σ H fun x H1=>tr σ H1 fun xs H2=>Q (x::xs) H2
section
variable{X:Cx}{e:Expr}{es:List Expr}{te:TE}{t:TA}{pos:Pos}
theorem ai:PA X [] aw:=fun _ _ _ _ H Q I h=>Calls.spliced_nil ⟨[],H,I,.nil,h⟩
theorem aa(ha:PE X e te)(hr:PA X es t)(hs:starEach (e::es) X.env= (false,eval e X.env)::starEach es X.env:=by rfl):PA X (e::es) (ae te t):=by
 intro pos pins s σ H Q I h
 rw [hs]
 show wpAny _ _ (spliced ((false,eval e X.env)::backTo pos (starEach es X.env))) _ _ s
 refine Calls.spliced_cons (c7 (ha pins s σ H _ I h) fun u s1 ⟨x,H1,I1,r1,q1⟩=>?_)
 exact c7 (hr pos pins s1 σ H1 _ I1 q1) fun us s2 ⟨xs,H2,I2,r2,q2⟩=>⟨x::xs,H2,I2,.cons r1 r2,q2⟩
def NV(t:TA):TE:=fun σ H Q=>t σ H fun xs H1=>xs.length≤sizeLine∧∀p,H1 p=none→Q (.ref p) (upd H1 p (.tup xs))
def d7(t:TA):TE:=fun σ H Q=>t σ H fun xs H1=>xs.length≤sizeLine∧∀p,H1 p=none→Q (.ref p) (upd H1 p (.lst xs))
theorem Iu{x1}(h:PA X es t):PE X (.Tuple es x1 pos) (NV t):=by
 intro pins s σ H Q I hq
 refine wpAny_Tuple_spliced (c7 (h pos pins s σ H _ I hq) fun us s1 ⟨xs,H1,I1,r,z,q⟩=>⟨by rw [←r.length];exact z,?_⟩)
 have hf:H1 s1.heap.objs.size=none:=I1.dB.fresh (Nat.le_refl _)
 refine ⟨.ref s1.heap.objs.size,upd H1 s1.heap.objs.size (.tup xs),I1.laid (t':=s1.toks) (fun b u e=>Heap.get?_push_of_some _ e) (Nat.le_refl _) ?_,rfl,q _ hf⟩
 exact ⟨z,us,r,⟨_,Heap.get?_push_size _ rfl,rfl,_,rfl⟩⟩
theorem bW(h:PA X es t):PE X (.List es pos) (d7 t):=by
 intro pins s σ H Q I hq
 refine wpAny_List_spliced (c7 (h pos pins s σ H _ I hq) fun us s1 ⟨xs,H1,I1,r,z,q⟩=>⟨by rw [←r.length];exact z,?_⟩)
 have hf:H1 s1.heap.objs.size=none:=I1.dB.fresh (Nat.le_refl _)
 refine ⟨.ref s1.heap.objs.size,upd H1 s1.heap.objs.size (.lst xs),I1.laid (t':=s1.toks) (fun b u e=>Heap.get?_push_of_some _ e) (Nat.le_refl _) ?_,rfl,q _ hf⟩
 exact ⟨z,us,0,r,Heap.get?_push_size _ rfl⟩
end
abbrev Sp:=List V→Hp→VK→XK→Prop
abbrev S4:=List Env→Hp→Shared→XK→Value→Shared→Prop
structure Mf(P:Program)(w:World)(K:PySem.W.Frag)(mg:Str→Option Value)(base:Heap)(A:Around)(outer:List Env)(s:Shared)(H:Hp):Prop where
 frames:A.frames=some outer
 mod:Mod K mg base
 bs:∀b o,base.get? b=some o→s.heap.get? b=some o∧H b=none
 RO:base.objs.size≤s.heap.objs.size
 BW:s.heap.FunFrames base outer
 Um:∀b ∈ Rf outer,H b=none
 dB:xB P w H s.heap
 bare:AllBare s.gens
def CE(outer:List Env)(P:Program)(w:World)(H:Hp)(s:Shared)(Q:VK)(u:Value)(s':Shared):Prop:=
 ∃v H',s'.os=s.os∧AllBare s'.gens∧Un (Rf outer) [] H H' s.heap s'.heap∧xB P w H' s'.heap∧RelV v u∧Q v H'
def CR(CX:S4)(outer:List Env)(P:Program)(w:World)(H:Hp)(s:Shared)(Q:VK)(E:XK)(r:Result)(s':Shared):Prop:=
 match r with
 | .ok (.ret u)=>CE outer P w H s Q u s'
 | .ok _=>False
 | .error e=>CX outer H s E e s'
structure bp(P:Program)(w:World)(K:PySem.W.Frag)(mg:Str→Option Value)(base:Heap)(CX:S4)(k:Nat)(f:Addr)(fd:FuncData)(ps:List Str)(sp:Sp):Prop where
 len:∀vs H Q E,sp vs H Q E→vs.length=ps.length
 run:∀(A:Around)(outer:List Env)(s:Shared)(H:Hp)(args:Args)(us:List Value)(vs:List V)(Q:VK)(E:XK),iE k A→Mf P w K mg base A outer s H→BindsTo s fd args (ps.zip us)→Vals vs us→sp vs H Q E→
  codeAny (model P w) A (.call (.ref f) args) (CR CX outer P w H s Q E) s
theorem Mf.make{P:Program}{w:World}{K:PySem.W.Frag}{mg:Str→Option Value}{base:Heap}{A:Around}{outer:List Env}{s:Shared}{H:Hp}(e:Mf P w K mg base A outer s H)(C:Addr)(us:List Value)(kw:List (Str × Value)):
  Mf P w K mg base (A.under (.builtin "type.__call__" ⟨.ref C::us,kw⟩)) outer s H:=⟨by first | exact e.frames | (simpa [Around.under,Code.envs,Code.isFrame,pushEnvs] using e.frames),e.mod,e.bs,e.RO,e.BW,e.Um,e.dB,e.bare⟩
section
variable{X:Cx}{pins:List (Addr × Obj)}{σ:St}{H:Hp}{s s':Shared}
theorem Inv.FT(I:Inv X pins σ H s):Mf X.prog X.w X.K X.mg X.base X.A X.stack s H:=
 ⟨I.ok.frames,I.ok.mod,I.bs,Nat.le_trans I.ok.RO I.sz,I.stack,I.NJ,I.dB,I.bare⟩
theorem Inv.after{Q:VK}{u:Value}(I:Inv X pins σ H s)(h:CE X.stack X.prog X.w H s Q u s'):EP X pins σ Q u s':=by
 obtain ⟨v,H',os,bare,un,dB,r,q⟩:=h
 obtain ⟨hh,g,d,t,os'⟩:=s'
 obtain rfl:os'=s.os:=os
 exact ⟨v,H',I.call (h':=hh) (g':=g) (d':=d) (t':=t) (ch:=[]) un dB bare (fun b z=>absurd z (by simp)),r,q⟩
end
def az(sp:Sp)(dvs:List V)(E:XK)(t:TA):TE:=fun σ H Q=>t σ H fun vs H1=>sp (vs ++ dvs) H1 Q E
def cp(C:Addr)(m:Str)(sp:Sp)(dvs:List V)(E:XK)(ta:TE)(t:TA):TE:=fun σ H Q=>ta σ H fun x H1=>∃a dx fs,x= .ref a∧H1 a=some (.ins C dx fs)∧fs.lookup m=none∧
 t σ H1 fun vs H2=>sp (x::(vs ++ dvs)) H2 Q E
def Bu(C:Addr)(sp:Sp)(dvs:List V)(E:XK)(t:TA):TE:=fun σ H Q=>t σ H fun vs H1=>∀x dx,H1 x=none→H1 dx=none→dx ≠ x→
 sp (.ref x::(vs ++ dvs)) (upd (upd H1 dx (.own x)) x (.ins C dx [])) (fun v H2=>v= .bB∧Q (.ref x) H2) E
def Binds(K:PySem.W.Frag)(fd:FuncData)(ps:List Str)(ds:List Value):Prop:=
 ∀(s:Shared)(us:List Value),K.In s.heap→(us ++ ds).length=ps.length→BindsTo s fd ⟨us,[]⟩ (ps.zip (us ++ ds))
theorem Binds.all{K:PySem.W.Frag}{fd:FuncData}{ps:List Str}(h:∀us:List Value,us.length=ps.length→bindArgs fd ⟨us,[]⟩=pure (ps.zip us)):Binds K fd ps []:=fun s us _ hl=>by
 rw [List.append_nil] at hl ⊢
 exact .of_eq (h us hl)
def Passes(CX:S4)(X:Cx)(E:XK):Prop:=∀(pins:List (Addr × Obj))(σ:St)(H:Hp)(s:Shared)(e:Value)(s':Shared),Inv X pins σ H s→CX X.stack H s E e s'→X.xe e s'
section
variable{X:Cx}{CX:S4}{k:Nat}{f C:Addr}{fd:FuncData}{ps:List Str}{sp:Sp}{dvs:List V}{ds:List Value}{E:XK}{x m:Str}{p pos apos:Pos}{e o:Expr}{es:List Expr}{ta:TE}{t:TA}
theorem Ic{pins:List (Addr × Obj)}{σ:St}{H:Hp}{s:Shared}{Q:VK}{us:List Value}{vs:List V}(F:bp X.prog X.w X.K X.mg X.base CX k f fd ps sp)(hr:iE k X.A)(hb:Binds X.K fd ps ds)(hd:Vals dvs ds)(hx:Passes CX X E)
  (I:Inv X pins σ H s) (r:Vals vs us) (h:sp (vs ++ dvs) H Q E):wpAny (model X.prog X.w) X.A (call (.ref f) us) (EP X pins σ Q) X.xe s:=by
 have r2:Vals (vs ++ dvs) (us ++ ds):=r.append hd
 have hl:(us ++ ds).length=ps.length:=by rw [←r2.length];exact F.len _ _ _ _ h
 refine wpAny_call (codeAny_mono (F.run X.A X.stack s H ⟨us,[]⟩ (us ++ ds) (vs ++ dvs) Q E hr I.FT (hb s us I.Lo hl) r2 h) fun r s' hq=>?_)
 cases r with
 | error e=>exact hx pins σ H s e s' I hq
 | ok fl=>
  cases fl with
  | ret u=>exact I.after hq
  | next=>exact False.elim hq
  | brk=>exact False.elim hq
  | cont=>exact False.elim hq
theorem SI(F:bp X.prog X.w X.K X.mg X.base CX k f fd ps sp)(hr:iE k X.A)(hg:Gl X x)(hm:X.mg x=some (.ref f))(hk:PySem.W.keepIn X.K (.ref f)=true)(hb:Binds X.K fd ps ds)(hd:Vals dvs ds)(hx:Passes CX X E)
  (ha:PA X (e::es) t) (hdb:(x == ("__debug__":Str))=false:=by decide) (he:starEach (e::es) X.env= (false,eval e X.env)::starEach es X.env:=by rfl) (hpl:(backTo pos (starEach es X.env)).any (·.1)=false:=by rfl):
  PE X (.Call (.Name x p) (e::es) [] pos) (az sp dvs E t):=by
 intro pins s σ H Q I h
 refine wpAny_Call_Name_kw (Cq I hg hm ?_ hdb)
 refine PySem.W.callWith_K (h₀:=X.base) I.ok.mod.UD hk (c7 (ha pos pins s σ H _ I h) fun us s1 ⟨vs,H1,I1,r,q⟩=>⟨I1.Lo,?_⟩) he hpl
 exact Ic F hr hb hd hx I1 r q
theorem RW{pl:Sem Bool}(he:PE X o ta)(c:K2 X.K C)(hm:Meth X.K C m f)(F:bp X.prog X.w X.K X.mg X.base CX k f fd ps sp)(hr:iE k X.A)(hb:Binds X.K fd ps ds)(hd:Vals dvs ds)(hx:Passes CX X E)(ha:PA X (e::es) t)
  (hst:starEach (e::es) X.env= (false,eval e X.env)::starEach es X.env:=by rfl) (hpl:(backTo pos (starEach es X.env)).any (·.1)=false:=by rfl)
  (ht:eval (.Call (.Attribute o m apos) (e::es) [] pos) X.env= (do
   let ov ←eval o X.env
   standAt apos.atName
   let (f,first) ←holding [ov] (getMethod ov m pl)
   callWith pos f first (backTo pos (starEach (e::es) X.env)) (backToKw pos (keywordEach [] X.env))):=by rfl):
  PE X (.Call (.Attribute o m apos) (e::es) [] pos) (cp C m sp dvs E ta t):=by
 intro pins s σ H Q I h
 refine PySem.W.methodCall_KW (pl:=pl) (c7 (he pins s σ H _ I h) fun u s1 ⟨x,H1,I1,rx,a,dx,fs,ex,ea,l,q⟩=>?_) ht
 subst ex
 obtain rfl:u=Value.ref a:=rx
 refine EG I1 ea c hm l ?_
 refine PySem.W.callWith_K (first:=[.ref a]) (h₀:=X.base) I.ok.mod.UD hm.kp (c7 (ha pos pins s1 σ H1 _ I1 q) fun us s2 ⟨vs,H2,I2,r,q2⟩=>⟨I2.Lo,?_⟩) hst hpl
 exact Ic (us:= .ref a::us) (vs:= .ref a::vs) F hr hb hd hx I2 (.cons rfl r) q2
theorem Ql{pl:Sem Bool}(he:PE X o ta)(c:K2 X.K C)(hm:Meth X.K C m f)(F:bp X.prog X.w X.K X.mg X.base CX k f fd ps sp)(hr:iE k X.A)(hb:Binds X.K fd ps ds)(hd:Vals dvs ds)(hx:Passes CX X E)
  (ht:eval (.Call (.Attribute o m apos) [] [] pos) X.env= (do
   let ov ←eval o X.env
   standAt apos.atName
   let (f,first) ←holding [ov] (getMethod ov m pl)
   callWith pos f first (backTo pos (starEach [] X.env)) (backToKw pos (keywordEach [] X.env))):=by rfl):
  PE X (.Call (.Attribute o m apos) [] [] pos) (cp C m sp dvs E ta aw):=by
 intro pins s σ H Q I h
 refine PySem.W.methodCall_KW (pl:=pl) (c7 (he pins s σ H _ I h) fun u s1 ⟨x,H1,I1,rx,a,dx,fs,ex,ea,l,q⟩=>?_) ht
 subst ex
 obtain rfl:u=Value.ref a:=rx
 refine EG I1 ea c hm l ?_
 exact PySem.W.callWith_K0 (first:=[.ref a]) I1.Lo hm.kp (Ic (us:=[.ref a]) (vs:=[.ref a]) F hr hb hd hx I1 (.cons rfl .nil) q)
structure Mk(K:PySem.W.Frag)(C f:Addr):Prop where
 makes:PySem.W.makesIn K C=true
 init:PySem.W.findIn K (.ref C) "__init__" = some (some (.ref f))
 fn:PySem.W.isFn K (.ref f)=true
 kp:PySem.W.keepIn K (.ref C)=true
theorem Pm{pins:List (Addr × Obj)}{σ:St}{H:Hp}{s:Shared}{Q:VK}{us:List Value}{vs:List V}(M:Mk X.K C f)(F:bp X.prog X.w X.K X.mg X.base CX k f fd ps sp)(hr:iE (k+1) X.A)(hb:Binds X.K fd ps ds)(hd:Vals dvs ds)
  (hx:Passes CX X E) (I:Inv X pins σ H s) (r:Vals vs us)
  (h:∀x dx,H x=none→H dx=none→dx ≠ x→sp (.ref x::(vs ++ dvs)) (upd (upd H dx (.own x)) x (.ins C dx [])) (fun v H2=>v= .bB∧Q (.ref x) H2) E):
  wpAny (model X.prog X.w) X.A (call (.ref C) us) (EP X pins σ Q) X.xe s:=by
 have hq:=h (s.heap.objs.size+1) s.heap.objs.size (I.dB.fresh (Nat.le_succ _)) (I.dB.fresh (Nat.le_refl _)) (Nat.ne_of_lt (Nat.lt_succ_self _))
 have I2:=Inv.made (C:=C) I
 have r2:Vals (V.ref (s.heap.objs.size+1)::(vs ++ dvs)) (Value.ref (s.heap.objs.size+1)::(us ++ ds)):= .cons rfl (r.append hd)
 have hl:(Value.ref (s.heap.objs.size+1)::us ++ ds).length=ps.length:=by
  have e:=r2.length
  rw [F.len _ _ _ _ hq] at e
  exact e.symm
 refine wpAny_call (Qk (f:=f) I.Lo M.makes M.init (beq_iff_eq.mp M.fn) (codeAny_mono (F.run _ X.stack _ _ ⟨Value.ref (s.heap.objs.size+1)::us,[]⟩ (Value.ref (s.heap.objs.size+1)::(us ++ ds)) _ _ E (hr.make C us [])
  (I2.FT.make C us []) (hb _ (Value.ref (s.heap.objs.size+1)::us) I2.Lo hl) r2 hq) fun r s' hq'=>?_))
 cases r with
 | error e=>exact hx pins σ _ _ e s' I2 hq'
 | ok fl=>
  cases fl with
  | ret u=>
   obtain ⟨v,H',I3,rv,ev,q3⟩:=I2.after hq'
   subst ev
   exact ⟨rv,⟨V.ref (s.heap.objs.size+1),H',I3,rfl,q3⟩⟩
  | next=>exact False.elim hq'
  | brk=>exact False.elim hq'
  | cont=>exact False.elim hq'
theorem RJ(M:Mk X.K C f)(F:bp X.prog X.w X.K X.mg X.base CX k f fd ps sp)(hr:iE (k+1) X.A)(hg:Gl X x)(hm:X.mg x=some (.ref C))(hb:Binds X.K fd ps ds)(hd:Vals dvs ds)(hx:Passes CX X E)
  (ha:PA X (e::es) t) (hdb:(x == ("__debug__":Str))=false:=by decide) (he:starEach (e::es) X.env= (false,eval e X.env)::starEach es X.env:=by rfl) (hpl:(backTo pos (starEach es X.env)).any (·.1)=false:=by rfl):
  PE X (.Call (.Name x p) (e::es) [] pos) (Bu C sp dvs E t):=by
 intro pins s σ H Q I h
 refine wpAny_Call_Name_kw (Cq I hg hm ?_ hdb)
 refine PySem.W.callWith_K (h₀:=X.base) I.ok.mod.UD M.kp (c7 (ha pos pins s σ H _ I h) fun us s1 ⟨vs,H1,I1,r,q⟩=>⟨I1.Lo,?_⟩) he hpl
 exact Pm M F hr hb hd hx I1 r q
end
structure aA(N P:List Str)(sc:Scope):Prop where
 kind:sc.kind= .function
 co:sc.isCoroutine=false
 gen:sc.isGenerator=false
 nd:N.Nodup
 pre:N.take P.length=P
 par:∀x ∈ P,sc.names.lookup x=some .local∨sc.names.lookup x=some .cell
 TL:∀y ∈ sc.names,y.2 ≠ .free
theorem F6{kindOf:Str→Option NameKind}{x:Str}:∀{binds:List (Str × Value)}{m:Str→Option Value},(∀v,(x,v) ∉ binds)→bindL kindOf binds m x=m x
 | [],_,_=>rfl
 | (n,v)::r,m,h=>by
  unfold bindL
  rw [F6 fun w hw=>h w (List.mem_cons_of_mem _ hw)]
  split
  ·have:x ≠ n:=by rintro rfl;exact h v List.mem_cons_self
   simp [this]
  ·rfl
theorem Ga{kindOf:Str→Option NameKind}{x:Str}:∀{binds:List (Str × Value)}{m:Str→Option Value},(∀v,(x,v) ∉ binds)→bindC kindOf binds m x=m x
 | [],_,_=>rfl
 | (n,v)::r,m,h=>by
  unfold bindC
  rw [Ga fun w hw=>h w (List.mem_cons_of_mem _ hw)]
  split
  ·rfl
  ·have:x ≠ n:=by rintro rfl;exact h v List.mem_cons_self
   simp [this]
theorem Gr{kindOf:Str→Option NameKind}{x:Str}{v:Value}:∀{P:List Str}{vs:List Value}{i:Nat}{m:Str→Option Value},P.Nodup→P[i]? = some x→vs[i]? = some v→kindOf x=some .local→
  bindL kindOf (P.zip vs) m x=some v
 | [],_,_,_,_,h,_,_=>by simp at h
 | _::_,[],_,_,_,_,h,_=>by simp at h
 | p::P,w::vs,0,m,nd,h1,h2,hk=>by
  simp at h1 h2;subst h1;subst h2
  show bindL kindOf ((p,w)::P.zip vs) m p=_
  unfold bindL
  rw [F6 fun v hv=>(List.nodup_cons.mp nd).1 (List.of_mem_zip hv).1,if_pos hk]
  simp
 | p::P,w::vs,i+1,m,nd,h1,h2,hk=>by
  show bindL kindOf ((p,w)::P.zip vs) m x=_
  unfold bindL
  exact Gr (i:=i) (List.nodup_cons.mp nd).2 (by simpa using h1) (by simpa using h2) hk
theorem GA{kindOf:Str→Option NameKind}{x:Str}{v:Value}:∀{P:List Str}{vs:List Value}{i:Nat}{m:Str→Option Value},P.Nodup→P[i]? = some x→vs[i]? = some v→kindOf x ≠ some .local→
  bindC kindOf (P.zip vs) m x=some v
 | [],_,_,_,_,h,_,_=>by simp at h
 | _::_,[],_,_,_,_,h,_=>by simp at h
 | p::P,w::vs,0,m,nd,h1,h2,hk=>by
  simp at h1 h2;subst h1;subst h2
  show bindC kindOf ((p,w)::P.zip vs) m p=_
  unfold bindC
  rw [Ga fun v hv=>(List.nodup_cons.mp nd).1 (List.of_mem_zip hv).1,if_neg hk]
  simp
 | p::P,w::vs,i+1,m,nd,h1,h2,hk=>by
  show bindC kindOf ((p,w)::P.zip vs) m x=_
  unfold bindC
  exact GA (i:=i) (List.nodup_cons.mp nd).2 (by simpa using h1) (by simpa using h2) hk
def start(N:List Str)(vs:List V):St:=vs.map some ++ List.replicate (N.length - vs.length) none
def Me(CX:S4)(P:Program)(w:World)(K:PySem.W.Frag)(mg:Str→Option Value)(base:Heap)(N:List Str)(qual:Str)(scope:Scope)(f:Addr)(cd:Value)(A:Around)(outer:List Env)(s:Shared)(H:Hp)(E:XK):Cx where
 prog:=P
 w:=w
 K:=K
 mg:=mg
 base:=base
 A:=A.deeper (envOfC qual scope s.heap.objs.size f cd)
 N:=N
 s₀:=s
 H₀:=H
 env:=envOfC qual scope s.heap.objs.size f cd
 outer:=outer
 stack:=envOfC qual scope s.heap.objs.size f cd::outer
 ex:=[]
 calm:=true
 fn:=fun _=>true
 pn:=[]
 xe:=fun e s'=>wpAny (model P w) (A.deeper (envOfC qual scope s.heap.objs.size f cd)) (leaving (envOfC qual scope s.heap.objs.size f cd) e) (fun _ s''=>CX outer H s E e s'') (fun e' s''=>CX outer H s E e' s'') s'
theorem Ka{sc:Scope}{n:Nat}{x:Str}(h:sc.names.lookup x=some .cell):∃c,(cellsFrom n sc.names []).lookup x=some c:=by
 have q:=PySem.W.cellsFrom_some sc.names n [] (.inl h)
 exact Option.isSome_iff_exists.mp q
theorem OG{CX:S4}{P:Program}{w:World}{K:PySem.W.Frag}{mg:Str→Option Value}{base:Heap}{N ps:List Str}{qual:Str}{scope:Scope}{f:Addr}{cd:Value}{A:Around}{outer:List Env}{s s1:Shared}{H:Hp}{E:XK}{us:List Value}{vs:List V}
  (S:aA N ps scope) (hd:A.handled=none) (e0:Mf P w K mg base A outer s H) (hl:vs.length=ps.length) (r:Vals vs us)
  (x:InCallC s s.heap.objs.size (bindL (envOfC qual scope s.heap.objs.size f cd).kindOf (ps.zip us) fun _=>none) (cellsFrom (s.heap.objs.size+1) scope.names []) (bindC (envOfC qual scope s.heap.objs.size f cd).kindOf (ps.zip us) fun _=>none) s1):
  Inv (Me CX P w K mg base N qual scope f cd A outer s H E) [] (start N vs) H s1:=by
 have hpl:ps.length≤N.length:=by have:=congrArg List.length S.pre;rw [List.length_take] at this;omega
 obtain ⟨h1,tk,rfl,hk⟩:=x.done
 have noA:∀b:Addr,b ∉ (Me CX P w K mg base N qual scope f cd A outer s H E).ex:=fun b z=>absurd (show b ∈ ([]:List Addr) from z) (by simp)
 refine ⟨⟨e0.mod,S.kind,rfl,rfl,Nat.le_refl _,fun y z c h1 h2=>?_,fun y hy=>?_,fun y c _ h=>?_,fun _=>hd,Around.frames_deeper e0.frames,.inr ⟨rfl,rfl⟩,fun b z=>absurd z (noA b),e0.bs,e0.RO,fun b _ _=>noA b,fun b z=>absurd z (noA b),e0.BW,e0.Um⟩,
  rfl,e0.bare,Un.kept hk,⟨_,x.toInCall.ns,fun i y v h1 h2 h3=>?_⟩,fun y c h=>⟨_,x.cell y c h⟩,e0.dB.fresh (Nat.le_refl _),fun y c h=>?_,fun p hp=>absurd (show p ∈ ([]:List (Addr × Obj)) from hp) (by simp),e0.dB.kept hk,?_⟩
 ·exact name_of_addr x.apart (PySem.mem_of_lookup h1) (PySem.mem_of_lookup h2)
 ·have hy:scope.names.lookup y=some .cell∨scope.names.lookup y=some .free:=hy
  rcases hy with hy | hy
  ·exact Ka hy
  ·exact absurd rfl (S.TL _ (PySem.mem_of_lookup hy))
 ·exact Nat.le_of_lt (x.above y c (PySem.mem_of_lookup h))
 ·have hi:i < vs.length:=by
   unfold start at h2
   by_cases hi:i < vs.length
   ·exact hi
   ·rw [List.getElem?_append_right (by simpa using hi)] at h2
    rw [List.getElem?_replicate] at h2
    split at h2 <;> cases h2
  have ha:vs[i]? = some v:=by
   unfold start at h2
   rw [List.getElem?_append_left (by simpa using hi),List.getElem?_map] at h2
   cases e:vs[i]? with
   | none=>rw [e] at h2;cases h2
   | some a=>rw [e] at h2;cases h2;rfl
  obtain ⟨u,hu,rv⟩:=r.get ha
  have hp:ps[i]? = some y:=by
   rw [←S.pre,List.getElem?_take_of_lt (by omega)];exact h1
  have ndP:ps.Nodup:=by rw [←S.pre];exact S.nd.sublist (List.take_sublist _ _)
  refine ⟨u,rv,?_⟩
  rcases S.par y (List.mem_of_getElem? hp) with k | k
  ·exact .inl ⟨k,Gr ndP hp hu k⟩
  ·obtain ⟨c,e⟩:=Ka (n:=s.heap.objs.size+1) k
   refine .inr ⟨.inl k,c,e,?_⟩
   have q:=x.cell y c e
   rw [GA ndP hp hu (by show scope.names.lookup y ≠ _;rw [k];decide)] at q
   exact q
 ·exact e0.dB.fresh (Nat.le_of_lt (x.above y c (PySem.mem_of_lookup h)))
 ·unfold start
  show _=N.length
  rw [List.length_append,List.length_map,List.length_replicate]
  omega
theorem UP{CX:S4}{P:Program}{w:World}{K:PySem.W.Frag}{mg:Str→Option Value}{base:Heap}{k:Nat}{f:Addr}{name qual:Str}{params:Arguments}{body:List Stmt}{scope:Scope}{dV kV doc pm cdv ct oc:Value}{an od:Option Addr}
  {osl:Array (Option Value)} {N ps:List Str} {sp:Sp} (lk:K.lookup f=some ⟨oc,od,.func (PySem.W.fnOf name qual params body scope dV kV doc pm an cdv ct),osl⟩) (hcd:PySem.W.codeIn K cdv qual=true) (S:aA N ps scope)
  (len:∀vs H Q E,sp vs H Q E→vs.length=ps.length)
  (hbody:∀(A:Around)(outer:List Env)(s:Shared)(H:Hp)(vs:List V)(Q:VK)(E:XK),iE k (A.deeper (envOfC qual scope s.heap.objs.size f cdv))→sp vs H Q E→
   ∃t,NN (Me CX P w K mg base N qual scope f cdv A outer s H E) body t∧t {nx:=fun _ H'=>Q .bB H',rt:=Q} (start N vs) H):
  bp P w K mg base CX (k+1) f (PySem.W.fnOf name qual params body scope dV kV doc pm an cdv ct) ps sp:=by
 refine ⟨len,fun A outer s H args us vs Q E hr e0 hb r hsp=>?_⟩
 have hl:=len _ _ _ _ hsp
 have KX:K.In s.heap:=e0.mod.UD.keeps fun b o e=>(e0.bs b o e).1
 have lim:s.heap.NoLimit:=e0.mod.nolimit.keeps fun b o e=>(e0.bs b o e).1
 have hkind:∀y ∈ ps.zip us,scope.names.lookup y.1=some .local∨(scope.names.lookup y.1=some .cell∧((cellsFrom (s.heap.objs.size+1) scope.names []).lookup y.1).isSome=true):=fun ⟨n,v⟩ hy=>by
  rcases S.par n (List.of_mem_zip hy).1 with q | q
  ·exact .inl q
  ·exact .inr ⟨q,PySem.W.cellsFrom_some _ _ _ (.inl q)⟩
 refine codeAny_call_function hr.depth (KX _ _ lk) rfl S.co S.gen rfl (PySem.W.codeRec_of KX hcd) (hb _ _ _ _ ?_)
 refine wpAny_newFunctionEnv_cells S.kind hkind fun env he s1 x=>?_
 subst he
 refine ⟨lim.keeps x.toInCall.keep,codeAny_func ?_⟩
 obtain ⟨t,ht,hq⟩:=hbody A outer s H vs Q E (hr.deeper _) hsp
 have I:Inv (Me CX P w K mg base N qual scope f cdv A outer s H E) [] (start N vs) H s1:=OG S hr.hd e0 hl r x
 refine wpAny_mono (ht [] s1 (start N vs) H _ I hq) (fun fl s' hs=>?_) fun e s' hs=>hs
 have fin:∀{σ':St}{H':Hp}{v:V}{u:Value},Inv (Me CX P w K mg base N qual scope f cdv A outer s H E) [] σ' H' s'→RelV v u→Q v H'→CE outer P w H s Q u s':=
  fun {σ' H' v u} J rv q=>⟨v,H',J.os,J.bare,J.base,J.dB,rv,q⟩
 cases fl with
 | ret u=>
  obtain ⟨v,σ',H',J,rv,q⟩:=hs
  exact fin J rv q
 | next=>
  obtain ⟨σ',H',J,q⟩:=hs
  exact fin (v:=V.bB) (u:=Value.none) J rfl q
 | brk=>
  obtain ⟨_,_,_,q⟩:=hs
  exact False.elim q
 | cont=>
  obtain ⟨_,_,_,q⟩:=hs
  exact False.elim q
end L2
namespace L2
open PySem PySem.Spec PyProof.Rows
section
variable{X:Cx}{x:Str}{p pos:Pos}{e:Expr}{es:List Expr}{t:TA}{id T:String}{r:List V→Hp→VK→Prop}
def u7(r:List V→Hp→VK→Prop)(t:TA):TE:=fun σ H Q=>t σ H fun vs H1=>r vs H1 Q
theorem bO(hc:za X (.builtin id) r)(hg:Gl X x)(hm:X.mg x=none)(hv:bootBuiltins x=some (.builtin id))(ha:PA X (e::es) t)(hn:x ≠ "__name__":=by decide)(hdb:(x == ("__debug__":Str))=false:=by decide)
  (he:starEach (e::es) X.env= (false,eval e X.env)::starEach es X.env:=by rfl) (hpl:(backTo pos (starEach es X.env)).any (·.1)=false:=by rfl):PE X (.Call (.Name x p) (e::es) [] pos) (u7 r t):=by
 intro pins s σ H Q I h
 refine wpAny_Call_Name_kw (zB I hg hm hv ?_ hn hdb)
 exact PyProof.Rows.callWith_builtin1 (c7 (ha pos pins s σ H _ I h) fun us s1 ⟨vs,H1,I1,r1,q1⟩=>hc pins s1 σ H1 vs us Q I1 r1 q1) he hpl
theorem Gz(hc:za X (.type T) r)(hg:Gl X x)(hm:X.mg x=none)(hv:bootBuiltins x=some (.type T))(ha:PA X (e::es) t)(hn:x ≠ "__name__":=by decide)(hdb:(x == ("__debug__":Str))=false:=by decide)
  (he:starEach (e::es) X.env= (false,eval e X.env)::starEach es X.env:=by rfl) (hpl:(backTo pos (starEach es X.env)).any (·.1)=false:=by rfl):PE X (.Call (.Name x p) (e::es) [] pos) (u7 r t):=by
 intro pins s σ H Q I h
 refine wpAny_Call_Name_kw (zB I hg hm hv ?_ hn hdb)
 exact PyProof.Rows.callWith_type1 (c7 (ha pos pins s σ H _ I h) fun us s1 ⟨vs,H1,I1,r1,q1⟩=>hc pins s1 σ H1 vs us Q I1 r1 q1) he hpl
end
end L2
namespace HT
open PySem PyProof.Rows
section
variable{prog:Program}{w:World}{A:Around}{E:Value→Shared→Prop}{s:Shared}
def Ln(n d:Nat):Option Int→Nat
 | none=>d
 | some v=>if v < 0 then (v+ (n:Int)).toNat else min v.toNat n
theorem uQ(n d k:Nat):Ln n d (some (k:Int))=min k n:=by
 show (if (k:Int) < 0 then ((k:Int)+ (n:Int)).toNat else min (k:Int).toNat n)=min k n
 rw [if_neg (by omega),Int.toNat_natCast]
end
end HT
namespace L2
open PySem PySem.Spec PyProof.Rows
abbrev TO:=St→Hp→(Option Int→Hp→Prop)→Prop
def PO(X:Cx)(e:Option Expr)(t:TO):Prop:=
 ∀(pins:List (Addr × Obj))(s:Shared)(σ:St)(H:Hp)(Q:Option Int→Hp→Prop),Inv X pins σ H s→t σ H Q→
  wpAny (model X.prog X.w) X.A (evalPart e X.env) (fun u s'=>∃o H',Inv X pins σ H' s'∧IsPart u o∧Q o H') X.xe s
def Jd:TO:=fun _ H Q=>Q none H
def eF(t:TE):TO:=fun σ H Q=>t σ H fun x H1=>∃i,x= .int i∧Q (some i) H1
section
variable{X:Cx}{e:Expr}{te:TE}{lo hi:Option Expr}{tl th:TO}{pos p2:Pos}
theorem NQ:PO X none Jd:=by
 intro pins s σ H Q I h
 rw [evalPart_none]
 exact wpAny_pure ⟨none,H,I,.none,h⟩
theorem cu(h:PE X e te):PO X (some e) (eF te):=by
 intro pins s σ H Q I hw
 rw [evalPart_some]
 refine c7 (h pins s σ H _ I hw) fun u s1 ⟨x,H1,I1,r1,q1⟩=>?_
 obtain ⟨i,rfl,q⟩:=q1
 obtain ⟨t,rfl⟩:=r1
 exact ⟨some i,H1,I1,.int i t,q⟩
def Ws(X:Cx)(r:V→Option Int→Option Int→Hp→VK→Prop):Prop:=
 ∀(pins:List (Addr × Obj))(s:Shared)(σ:St)(H:Hp)(x:V)(v vl vu:Value)(lo hi:Option Int)(sl:Addr)(Q:VK),Inv X pins σ H s→RelV x v→s.heap.IsSliceOf sl vl vu .none→IsPart vl lo→IsPart vu hi→r x lo hi H Q→
  ∃T id,typeLookup (.type T) "__getitem__" = pure (some (.builtin id))∧s.TypeIs v T∧wpAny (model X.prog X.w) X.A (getItem v (.ref sl)) (EP X pins σ Q) X.xe s
def Nt(r:V→Option Int→Option Int→Hp→VK→Prop)(te:TE)(tl th:TO):TE:=fun σ H Q=>te σ H fun x H1=>tl σ H1 fun l H2=>th σ H2 fun u H3=>r x l u H3 Q
theorem eA{r:V→Option Int→Option Int→Hp→VK→Prop}(hr:Ws X r)(he:PE X e te)(hl:PO X lo tl)(hu:PO X hi th):PE X (.Subscript e (.Slice lo hi none p2) pos) (Nt r te tl th):=by
 intro pins s σ H Q I h
 refine Subscript_ (c7 (he pins s σ H _ I h) fun v s1 ⟨x,H1,I1,r1,q1⟩=>?_)
 refine wpAny_Slice (c7 (hl pins s1 σ H1 _ I1 q1) fun vl s2 ⟨l,H2,I2,pl,q2⟩=>c7 (hu pins s2 σ H2 _ I2 q2) fun vu s3 ⟨u,H3,I3,pu,q3⟩=>?_)
 rw [evalPart_none]
 refine wpAny_pure ?_
 have I4:Inv X pins σ H3 {s3 with heap:=s3.heap.push {cls:= .type "slice",data:= .fields #[vl,vu,.none]}}:=I3.kept (t':=s3.toks) fun b ob q=>Heap.get?_push_of_some _ q
 obtain ⟨T,id,hT,ht,hg⟩:=hr pins {s3 with heap:=s3.heap.push {cls:= .type "slice",data:= .fields #[vl,vu,.none]}} σ H3 x v vl vu l u s3.heap.objs.size Q I4 r1 (Heap.IsSliceOf.new ..) pl pu q3
 show wpAny (model X.prog X.w) X.A (subscriptTail e (.Slice lo hi none p2) v (.ref s3.heap.objs.size)) (EP X pins σ Q) X.xe {s3 with heap:=s3.heap.push {cls:= .type "slice",data:= .fields #[vl,vu,.none]}}
 exact tail_any (ops:=[.ref s3.heap.objs.size,v]) ht hT hg (by with_unfolding_all rfl)
def jV(xs:List V)(lo hi:Option Int):List V:=(xs.drop (HT.Ln xs.length 0 lo)).take (HT.Ln xs.length xs.length hi - HT.Ln xs.length 0 lo)
theorem Li(xs:List V)(lo hi:Option Int):(jV xs lo hi).length≤xs.length:=by
 unfold jV
 rw [List.length_take,List.length_drop]
 omega
end
end L2
namespace L2
open PySem PySem.Spec PyProof.Rows
def Ry(n:Nat)(i:Int):Option Nat:=if 0≤i then (if i < n then some i.toNat else none) else if -(n:Int)≤i then some (i+n).toNat else none
def Rv{α:Type}(xs:List α)(i:Int):Option α:=(Ry xs.length i).bind fun j=>xs[j]?
theorem M4{n:Nat}{i:Int}{j:Nat}(h:Ry n i=some j):seqIndex? i n=some j∧j < n∧-(n:Int)≤i∧i < n:=by
 unfold Ry at h
 by_cases h0:0≤i
 ·rw [if_pos h0] at h
  by_cases h1:i < n
  ·rw [if_pos h1] at h
   have e:i.toNat=j:=Option.some.inj h
   exact ⟨by rw [seqIndex_of h0 h1,e],by omega,by omega,h1⟩
  ·rw [if_neg h1] at h;cases h
 ·rw [if_neg h0] at h
  by_cases h1:-(n:Int)≤i
  ·rw [if_pos h1] at h
   have e:(i+n).toNat=j:=Option.some.inj h
   exact ⟨by rw [seqIndex_neg (by omega) h1,e],by omega,h1,by omega⟩
  ·rw [if_neg h1] at h;cases h
theorem M5{α:Type}{xs:List α}{i:Int}{v:α}(h:Rv xs i=some v):∃j,seqIndex? i xs.length=some j∧xs[j]? = some v∧j < xs.length∧-(xs.length:Int)≤i∧i < xs.length:=by
 unfold Rv at h
 cases e:Ry xs.length i with
 | none=>rw [e] at h;cases h
 | some j=>
  rw [e] at h
  obtain ⟨h1,h2,h3,h4⟩:=M4 e
  exact ⟨j,h1,h,h2,h3,h4⟩
theorem HQ{α:Type}{xs:List α}{j:Nat}{v:α}(h:xs[j]? = some v):Rv xs (j:Int)=some v:=by
 have hj:j < xs.length:=(List.getElem?_eq_some_iff.mp h).1
 have e:Ry xs.length (j:Int)=some j:=by
  unfold Ry
  rw [if_pos (by omega),if_pos (by omega)];simp
 unfold Rv;rw [e];exact h
def R5(b:Expr):Prop:=∀o i,subscripted b false o i=operate [o,i] (getItem o i)
def Wh(X:Cx)(r:R2):Prop:=
 ∀(value slice:Expr)(pins:List (Addr × Obj))(s:Shared)(σ:St)(H:Hp)(x y:V)(v u:Value)(Q:VK),Inv X pins σ H s→RelV x v→RelV y u→r x y H Q→
  subscripted slice false v u=operate [v,u] (getItem v u)→wpAny (model X.prog X.w) X.A (subscriptTail value slice v u) (EP X pins σ Q) X.xe s
def WE(X:Cx)(id:String)(r:V→List V→Hp→VK→Prop):Prop:=
 ∀(pins:List (Addr × Obj))(s:Shared)(σ:St)(H:Hp)(x:V)(xs:List V)(v:Value)(us:List Value)(Q:VK),Inv X pins σ H s→RelV x v→Vals xs us→r x xs H Q→
  wpAny (model X.prog X.w) X.A (call (.builtin id) (v::us)) (EP X pins σ Q) X.xe s
section
variable{X:Cx}{a b:Expr}{ta tb:TE}{pos:Pos}
theorem dv{r:R2}(hr:Wh X r)(ha:PE X a ta)(hb:PE X b tb)(hs:R5 b):PE X (.Subscript a b pos) (aV r ta tb):=by
 intro pins s σ H Q I h
 exact Subscript_ (Uy ha hb I h fun v u s2 x y H2 I2 rx ry q=>hr a b pins s2 σ H2 x y v u Q I2 rx ry q (hs _ _))
def iL(K:PySem.W.Frag):R2:=fun x y H Q=>∃p xs i v,x= .ref p∧y= .int i∧cb K H p xs∧Rv xs i=some v∧Q v H
def RM(K:PySem.W.Frag):R2:=fun x y H Q=>∃p xs i v,x= .ref p∧y= .int i∧Lw K H p xs∧Rv xs i=some v∧Q v H
theorem b9:Wh X (iL X.K):=by
 intro value slice pins s σ H x y v u Q I rx ry h hs
 obtain ⟨p,xs,i,z,rfl,rfl,hq,he,q⟩:=h
 cases rx
 obtain ⟨t,rfl⟩:=ry
 obtain ⟨its,r,pl,hz⟩:=I.list hq
 obtain ⟨j,h1,h2,h3,h4,h5⟩:=M5 he
 obtain ⟨w,ew,rw'⟩:=r.get h2
 have hl:=r.length
 have hn:=Ja
 have fin:EP X pins σ Q w s:=⟨z,H,I,rw',q⟩
 by_cases h0:0≤i
 ·have hj:i.toNat=j:=by
   rw [seqIndex_of h0 h5] at h1
   exact Option.some.inj h1
  exact item_listR pl.isList h0 (by omega) (by rw [hj];simpa using ew) fin hs
 ·have hj:(i+ (its.toArray.size:Int)).toNat=j:=by
   rw [seqIndex_neg (by omega) h4] at h1
   rw [List.size_toArray,←hl]
   exact Option.some.inj h1
  exact subscriptTail_builtinR (x:=w) pl.isList.typeIs slot_list_getitem.lookup
   (wpAny_getItem_list_neg (Q:=fun r s'=>r=w∧EP X pins σ Q r s') pl.isList (by omega) (by rw [List.size_toArray] <;> omega) (by omega) (by rw [hj];simpa using ew) ⟨rfl,fin⟩) hs
theorem Mn:Wh X (RM X.K):=by
 intro value slice pins s σ H x y v u Q I rx ry h hs
 obtain ⟨p,xs,i,z,rfl,rfl,hq,he,q⟩:=h
 cases rx
 obtain ⟨t,rfl⟩:=ry
 obtain ⟨its,r,pl,hz⟩:=I.tuple hq
 obtain ⟨j,h1,h2,h3,h4,h5⟩:=M5 he
 obtain ⟨w,ew,rw'⟩:=r.get h2
 have hl:=r.length
 have hn:=Ja
 have fin:EP X pins σ Q w s:=⟨z,H,I,rw',q⟩
 exact subscriptTail_builtinR (x:=w) pl.typeIs slot_tuple_getitem.lookup
  (getItem_tuple (j:=j) (Q:=fun r s'=>r=w∧EP X pins σ Q r s') pl (by omega) (by omega) (by rw [List.size_toArray,←hl];exact h1) (by simpa using ew) ⟨rfl,fin⟩) hs
theorem LX(its:List Value)(n j:Nat)(u:Value):Obj.mapSeq (·.setIfInBounds j u) {cls:= .type "list",data:= .seq its.toArray n}= {cls:= .type "list",data:= .seq (its.set j u).toArray n}:=by
 simp [Obj.mapSeq]
theorem Inv.lst{pins:List (Addr × Obj)}{σ:St}{H:Hp}{s:Shared}{p:Addr}{xs:List V}(I:Inv X pins σ H s)(h:H p=some (.lst xs)):
  ∃(its:List Value)(n:Nat),Vals xs its∧s.heap.get? p=some {cls:= .type "list",data:= .seq its.toArray n}∧xs.length≤sizeLine:=by
 obtain ⟨z,its,n,r,e⟩:=I.dB p _ h
 exact ⟨its,n,r,e,z⟩
theorem Inv.Ub{pins:List (Addr × Obj)}{σ:St}{H:Hp}{s:Shared}{p:Addr}{xs ys:List V}{its its':List Value}{n n':Nat}{f:Obj→Obj}(I:Inv X pins σ H s)(h:H p=some (.lst xs))
  (ho:s.heap.get? p=some {cls:= .type "list",data:= .seq its.toArray n}) (hf:f {cls:= .type "list",data:= .seq its.toArray n}= {cls:= .type "list",data:= .seq its'.toArray n'}) (r:Vals ys its') (hz:ys.length≤sizeLine) (t:Nat):
  Inv X pins σ (upd H p (.lst ys)) {s with heap:=s.heap.update p f,toks:=t}:=by
 have e:(s.heap.update p f).get? p=some {cls:= .type "list",data:= .seq its'.toArray n'}:=by
  rw [Heap.get?_update_self f ho (by rw [hf] <;> rfl),hf]
 refine I.write (x:=p) (e:=p) (by rw [h];trivial) (.inl rfl) (fun b u hb q=>(Heap.get?_update_other _ _ (Ne.symm hb)).trans q) ⟨_,e⟩ ?_
 exact ⟨hz,its',n',r,e⟩
def xG:V→V→V→Hp→(Hp→Prop)→Prop:=fun o i v H Q=>∃p xs k j,o= .ref p∧i= .int k∧H p=some (.lst xs)∧Ry xs.length k=some j∧Q (upd H p (.lst (xs.set j v)))
theorem set_list:U1 X xG:=by
 intro pins s σ H o i v ov iv u Q I ro ri rv h
 obtain ⟨p,xs,k,j,rfl,rfl,hp,hj,q⟩:=h
 cases ro
 obtain ⟨t,rfl⟩:=ri
 obtain ⟨its,n,r,ho,hz⟩:=I.lst hp
 obtain ⟨h1,h2,h3,h4⟩:=M4 hj
 have hl:=r.length
 have hn:=Ja
 have I':Inv X pins σ (upd H p (.lst (xs.set j v))) {s with heap:=s.heap.update p (Obj.mapSeq (·.setIfInBounds j u))}:=
  I.Ub hp ho (LX its n j u) (r.set rv j) (by rw [List.length_set];exact hz) s.toks
 by_cases h0:0≤k
 ·have hk:k.toNat=j:=by
   rw [seqIndex_of h0 h4] at h1
   exact Option.some.inj h1
  exact PySem.W.ki_setAt ho h0 (by omega) (by rw [List.size_toArray,←hl];exact h4) (by rw [hk];exact ⟨_,I',q⟩)
 ·have hk:(k+ (its.toArray.size:Int)).toNat=j:=by
   rw [seqIndex_neg (by omega) h3] at h1
   rw [List.size_toArray,←hl]
   exact Option.some.inj h1
  exact PySem.W.ki_setBack ho (by omega) (by rw [List.size_toArray,←hl];exact h3) (by omega) (by rw [hk];exact ⟨_,I',q⟩)
theorem Il(lo hi:Option Int)(n:Nat):(sliceBounds lo hi none n).1= ((HT.Ln n 0 lo:Nat):Int)∧(sliceBounds lo hi none n).2.1= ((HT.Ln n n hi:Nat):Int)∧(sliceBounds lo hi none n).2.2=1:=by
 refine ⟨?_,?_,rfl⟩
 ·cases lo with
  | none=>simp [sliceBounds,HT.Ln]
  | some i=>
   simp only [sliceBounds,HT.Ln,Option.getD_none,show (1:Int) > 0 by decide,if_true]
   by_cases h:i < 0
   ·simp only [h,if_true] <;> omega
   ·simp only [h,if_false] <;> omega
 ·cases hi with
  | none=>simp [sliceBounds,HT.Ln]
  | some i=>
   simp only [sliceBounds,HT.Ln,Option.getD_none,show (1:Int) > 0 by decide,if_true]
   by_cases h:i < 0
   ·simp only [h,if_true] <;> omega
   ·simp only [h,if_false] <;> omega
theorem Fp(its:List Value)(lo hi:Option Int):slicePick its.toArray lo hi none= ((its.drop (HT.Ln its.length 0 lo)).take (HT.Ln its.length its.length hi - HT.Ln its.length 0 lo)).toArray:=by
 obtain ⟨h1,h2,h3⟩:=Il lo hi its.toArray.size
 unfold slicePick
 rw [h1,h2,h3]
 simp only [sliceRange_one,pick_run,List.size_toArray] <;> rfl
def yg(K:PySem.W.Frag):V→Option Int→Option Int→Hp→VK→Prop:=fun x lo hi H Q=>∃a xs,x= .ref a∧cb K H a xs∧∀p,H p=none→Q (.ref p) (upd H p (.lst (jV xs lo hi)))
theorem iq:Ws X (yg X.K):=by
 intro pins s σ H x v vl vu lo hi sl Q I rx hs pl pu h
 obtain ⟨a,xs,rfl,hx,q⟩:=h
 cases rx
 obtain ⟨its,r,ht,hz⟩:=I.list hx
 have hlen:=r.length
 refine ⟨"list",_,slot_list_getitem.lookup,ht.isList.typeIs,?_⟩
 refine wpAny_getItem_list_slice ht.isList hs pl pu .none (by simp) ?_ (by rw [List.size_toArray] <;> omega)
 rw [Fp,←hlen]
 refine ⟨.ref s.heap.objs.size,_,I.laid (t':=s.toks) (o:= .lst (jV xs lo hi)) (fun b ob q=>Heap.get?_push_of_some _ q) (Nat.le_refl _) ?_,rfl,q _ (I.dB.fresh (Nat.le_refl _))⟩
 exact ⟨Nat.le_trans (Li xs lo hi) hz,_,0,(r.drop (HT.Ln xs.length 0 lo)).take (HT.Ln xs.length xs.length hi - HT.Ln xs.length 0 lo),Heap.get?_push_size _ rfl⟩
def vC:V→Bool
 | .bB=>true
 | .bl _=>true
 | .int _=>true
 | .str _=>true
 | _=>false
def P4:V→V→Bool
 | .bB,.bB=>true
 | .bl a,.bl b=>a == b
 | .bl a,.int b=>(if a then 1 else 0) == b
 | .int a,.bl b=>a == (if b then 1 else 0)
 | .int a,.int b=>a == b
 | .str a,.str b=>a == b
 | _,_=>false
theorem Uz{A:Around}{s:Shared}{y x:V}{u v:Value}(ry:RelV y u)(rx:RelV x v)(fy:vC y=true)(fx:vC x=true):SeqAt.EqAt A s u v (P4 y x):=by
 cases y with
 | bB=>
  cases ry
  cases x with
  | bB=>cases rx;exact SeqAt.EqAt.same _
  | bl b=>cases rx;exact SeqAt.EqAt.none_bool b
  | int b=>obtain ⟨t,rfl⟩:=rx;exact SeqAt.EqAt.none_int b t
  | str b=>obtain ⟨t,rfl⟩:=rx;exact SeqAt.EqAt.none_str b t
  | _=>exact absurd (show false=true from fx) Bool.false_ne_true
 | bl a=>
  cases ry
  cases x with
  | bB=>cases rx;exact SeqAt.EqAt.bool_none a
  | bl b=>cases rx;exact SeqAt.EqAt.bool_bool a b
  | int b=>obtain ⟨t,rfl⟩:=rx;exact SeqAt.EqAt.bool_int a b t
  | str b=>obtain ⟨t,rfl⟩:=rx;exact SeqAt.EqAt.bool_str a b t
  | _=>exact absurd (show false=true from fx) Bool.false_ne_true
 | int a=>
  obtain ⟨t',rfl⟩:=ry
  cases x with
  | bB=>cases rx;exact SeqAt.EqAt.int_none a t'
  | bl b=>cases rx;exact SeqAt.EqAt.int_bool a t' b
  | int b=>obtain ⟨t,rfl⟩:=rx;exact SeqAt.EqAt.int_int a t' b t
  | str b=>obtain ⟨t,rfl⟩:=rx;exact SeqAt.EqAt.int_str a t' b t
  | _=>exact absurd (show false=true from fx) Bool.false_ne_true
 | str a=>
  obtain ⟨t',rfl⟩:=ry
  cases x with
  | bB=>cases rx;exact SeqAt.EqAt.str_none a t'
  | bl b=>cases rx;exact SeqAt.EqAt.str_bool a t' b
  | int b=>obtain ⟨t,rfl⟩:=rx;exact SeqAt.EqAt.str_int a t' b t
  | str b=>obtain ⟨t,rfl⟩:=rx;exact SeqAt.EqAt.str_str a t' b t
  | _=>exact absurd (show false=true from fx) Bool.false_ne_true
 | _=>exact absurd (show false=true from fy) Bool.false_ne_true
def Ly(x:V)(u:Value):Bool:=match u with
 | .none=>P4 .bB x
 | .bool b=>P4 (.bl b) x
 | .int i _=>P4 (.int i) x
 | .str z _=>P4 (.str z) x
 | _=>false
theorem Qy{x y:V}{u:Value}(r:RelV y u)(f:vC y=true):Ly x u=P4 y x:=by
 cases y with
 | bB=>cases r;rfl
 | bl b=>cases r;rfl
 | int i=>obtain ⟨t,rfl⟩:=r;rfl
 | str z=>obtain ⟨t,rfl⟩:=r;rfl
 | _=>exact absurd (show false=true from f) Bool.false_ne_true
theorem x8{x:V}:∀{xs:List V}{us:List Value},Vals xs us→xs.all vC=true→us.any (Ly x)=xs.any fun y=>P4 y x
 | _,_,.nil,_=>rfl
 | y::xs,u::us,.cons r t,f=>by
  rw [List.all_cons,Bool.and_eq_true] at f
  rw [List.any_cons,List.any_cons,Qy r f.1,x8 t f.2]
theorem ui{A:Around}{s:Shared}{x:V}{v:Value}(rx:RelV x v)(fx:vC x=true):∀{xs:List V}{us:List Value},Vals xs us→xs.all vC=true→∀u ∈ us,SeqAt.EqAt A s u v (Ly x u)
 | _,_,.nil,_=>fun u hu=>by cases hu
 | y::xs,u::us,.cons r t,f=>fun u' hu=>by
  rw [List.all_cons,Bool.and_eq_true] at f
  rcases List.mem_cons.mp hu with rfl | hu
  ·rw [Qy r f.1];exact Uz r rx f.1 fx
  ·exact ui rx fx t f.2 u' hu
def JA(x:V)(xs:List V):Bool:=xs.any fun y=>P4 y x
def SW(K:PySem.W.Frag)(neg:Bool):R2:=fun x y H Q=>∃p xs,y= .ref p∧(cb K H p xs∨Lw K H p xs)∧vC x=true∧xs.all vC=true∧Q (.bl (if neg then !JA x xs else JA x xs)) H
theorem vj:yL X (compareOp .In) (SW X.K false):=by
 intro pins s σ H x y v u Q I rx ry h
 obtain ⟨p,xs,rfl,hq,fx,fs,q⟩:=h
 cases ry
 rcases hq with hq | hq
 ·obtain ⟨its,r,pl,hz⟩:=I.list hq
  refine SeqAt.in_listAt (Ly x) pl.isList (fun w hw=>ui rx fx r fs w (by simpa using hw)) ⟨.bl _,H,I,rfl,?_⟩
  rw [show its.toArray.any (Ly x)=its.any (Ly x) by simp,x8 r fs]
  exact q
 ·obtain ⟨its,r,pl,hz⟩:=I.tuple hq
  refine SeqAt.in_tupleAt (Ly x) pl (fun w hw=>ui rx fx r fs w (by simpa using hw)) ⟨.bl _,H,I,rfl,?_⟩
  rw [show its.toArray.any (Ly x)=its.any (Ly x) by simp,x8 r fs]
  exact q
theorem IV:yL X (compareOp .NotIn) (SW X.K true):=by
 intro pins s σ H x y v u Q I rx ry h
 obtain ⟨p,xs,rfl,hq,fx,fs,q⟩:=h
 cases ry
 rcases hq with hq | hq
 ·obtain ⟨its,r,pl,hz⟩:=I.list hq
  refine SeqAt.notIn_listAt (Ly x) pl.isList (fun w hw=>ui rx fx r fs w (by simpa using hw)) ⟨.bl _,H,I,rfl,?_⟩
  rw [show its.toArray.any (Ly x)=its.any (Ly x) by simp,x8 r fs]
  exact q
 ·obtain ⟨its,r,pl,hz⟩:=I.tuple hq
  refine SeqAt.notIn_tupleAt (Ly x) pl (fun w hw=>ui rx fx r fs w (by simpa using hw)) ⟨.bl _,H,I,rfl,?_⟩
  rw [show its.toArray.any (Ly x)=its.any (Ly x) by simp,x8 r fs]
  exact q
theorem bA:za X (.builtin "len") (fun xs H Q=>∃p ys,xs = [.ref p]∧(cb X.K H p ys∨Lw X.K H p ys)∧Q (.int ys.length) H):=by
 intro pins s σ H xs us Q I r h
 obtain ⟨p,ys,rfl,hq,q⟩:=h
 obtain ⟨u,rfl,rx⟩:=vals1 r
 cases rx
 have hn:=Ja
 rcases hq with hq | hq
 ·obtain ⟨its,r',pl,hz⟩:=I.list hq
  have hlen:=r'.length
  exact Calls.call_len_list pl.isList (by simp only [List.size_toArray] <;> omega) ⟨.int ys.length,H,I.tok _,⟨s.toks+1,by rw [List.size_toArray,hlen]⟩,q⟩
 ·obtain ⟨its,r',pl,hz⟩:=I.tuple hq
  have hlen:=r'.length
  exact len_tuple pl (by simp only [List.size_toArray] <;> omega) ⟨.int ys.length,H,I.tok _,⟨s.toks+1,by rw [List.size_toArray,hlen]⟩,q⟩
theorem yS:za X (.type "list") (fun xs H Q=>∃p ys,xs = [.ref p]∧(cb X.K H p ys∨Lw X.K H p ys)∧∀l,H l=none→Q (.ref l) (upd H l (.lst ys))):=by
 intro pins s σ H xs us Q I r h
 obtain ⟨p,ys,rfl,hq,q⟩:=h
 obtain ⟨u,rfl,rx⟩:=vals1 r
 cases rx
 have fin:∀(its:List Value),Vals ys its→ys.length≤sizeLine→∀(h':Heap)(c':Nat),(∀b o',s.heap.get? b=some o'→h'.get? b=some o')→
   h'.get? s.heap.objs.size=some {cls:= .type "list",dict:=none,data:= .seq its.toArray c',slots:=#[]}→EP X pins σ Q (.ref s.heap.objs.size) {s with heap:=h'}:=fun its r' hz h' c' kp e=>
  ⟨.ref s.heap.objs.size,_,I.laid (t':=s.toks) kp (Nat.le_refl _) (show gD X.prog X.w _ h' _ (.lst ys) from ⟨hz,its,c',r',e⟩),rfl,q _ (I.dB.fresh (Nat.le_refl _))⟩
 rcases hq with hq | hq
 ·obtain ⟨its,r',pl,hz⟩:=I.list hq
  have hlen:=r'.length
  obtain ⟨o,ho,hc,n,hd⟩:=pl.isList
  exact call_list_seq p (.inl rfl) ho hc hd (fun h' c' kp e=>fin its r' hz h' c' kp e) (by simp only [List.size_toArray] <;> omega)
 ·obtain ⟨its,r',pl,hz⟩:=I.tuple hq
  have hlen:=r'.length
  obtain ⟨o,ho,hc,n,hd⟩:=pl
  exact call_list_seq p (.inr rfl) ho hc hd (fun h' c' kp e=>fin its r' hz h' c' kp e) (by simp only [List.size_toArray] <;> omega)
def Wn(K:PySem.W.Frag)(T:String)(x:V)(H:Hp):Prop:=match x with
 | .str _=>T = "str"
 | .int _=>T = "int"
 | .ref p=>(T = "list"∧∃xs,cb K H p xs)∨(T = "tuple"∧∃o,K.lookup p=some o∧o.cls= .type "tuple"∧o.dict=none)∨
   (T = "dict"∧((∃aB,H p=some (.dK aB))∨∃aB,H p=some (.dT aB)))∨(T = "set"∧∃S n,H p=some (.set S n))
 | _=>False
theorem Ti{pins:List (Addr × Obj)}{σ:St}{H:Hp}{s:Shared}{T:String}{x:V}{v:Value}(I:Inv X pins σ H s)(r:RelV x v)(ty:Wn X.K T x H):
  s.TypeIs v T∧∀a,v= .ref a→∃ob,s.heap.get? a=some ob∧ob.dict=none:=by
 cases x with
 | str z=>
  obtain ⟨t,rfl⟩:=r
  cases (show T = "str" from ty)
  exact ⟨typeIs_str s z t,fun _ e=>nomatch e⟩
 | int i=>
  obtain ⟨t,rfl⟩:=r
  cases (show T = "int" from ty)
  exact ⟨typeIs_int s i t,fun _ e=>nomatch e⟩
 | ref p=>
  cases r
  rcases ty with ⟨rfl,xs,hq⟩ | ⟨rfl,o,hk,hc,hd⟩ | ⟨rfl,hk⟩ | ⟨rfl,S,n,hk⟩
  ·obtain ⟨its,_,pl,_⟩:=I.list hq
   refine ⟨pl.isList.typeIs,fun a e=>?_⟩
   cases e
   obtain ⟨o,n,e,c,hd,_⟩:=pl
   exact ⟨o,e,hd⟩
  ·refine ⟨⟨o,I.Lo p o hk,hc⟩,fun a e=>?_⟩
   cases e
   exact ⟨o,I.Lo _ o hk,hd⟩
  ·have z:∃o,s.heap.get? p=some o∧o.ExactDict:=by
    rcases hk with ⟨aB,hk⟩ | ⟨aB,hk⟩
    ·obtain ⟨_,_,_,_,o,_,_,e,ex,_⟩:=I.dB p _ hk
     exact ⟨o,e,ex⟩
    ·obtain ⟨_,_,_,_,o,_,_,e,ex,_⟩:=I.dB p _ hk
     exact ⟨o,e,ex⟩
   obtain ⟨o,e,ex⟩:=z
   refine ⟨⟨o,e,ex.1⟩,fun a e2=>?_⟩
   cases e2
   exact ⟨o,e,ex.2.1⟩
  ·obtain ⟨o,_,_,_,e,ex,_⟩:=I.dB p _ hk
   refine ⟨⟨o,e,ex.1⟩,fun a e2=>?_⟩
   cases e2
   exact ⟨o,e,ex.2.1⟩
 | _=>exact False.elim ty
def Pc(K:PySem.W.Frag)(T:String)(r:V→List V→Hp→VK→Prop)(to:TE)(t:TA):TE:=fun σ H Q=>to σ H fun x H1=>Wn K T x H1∧t σ H1 fun xs H2=>r x xs H2 Q
variable{o e:Expr}{es:List Expr}{to:TE}{t:TA}{name:Str}{apos cpos:Pos}{T id:String}{r:V→List V→Hp→VK→Prop}
theorem DW(pa:PlainAttrs T)(slot:Slot T name id)(hty:typeOf (.builtin id)=pure (.type "method_descriptor"))(hm:WE X id r)(ho:PE X o to)(ha:PA X (e::es) t)
  (hbase:attributeBase o name X.env (eval o X.env)=eval o X.env:=by rfl)
  (hfew:((backTo cpos (starEach (e::es) X.env)).all (fun x=>!x.1) && (backToKw cpos (keywordEach [] X.env)).all (fun x=>x.1.isSome)
   && decide ((e::es).length+ ([]:List Keyword).length+ (if ([]:List Keyword).isEmpty then 0 else 1) < 30))=true:=by rfl)
  (hline:(apos.endLine == cpos.line)=true:=by rfl) (hs:starEach (e::es) X.env= (false,eval e X.env)::starEach es X.env:=by rfl) (hplain:(backTo cpos (starEach es X.env)).any (·.1)=false:=by rfl):
  PE X (.Call (.Attribute o name apos) (e::es) [] cpos) (Pc X.K T r to t):=by
 intro pins s σ H Q I h
 refine wpAny_Call_method_late hbase hfew hline rfl (c7 (ho pins s σ H _ I h) fun v s1 ⟨x,H1,I1,r1,ty,q1⟩=>?_)
 obtain ⟨h1,h2⟩:=Ti I1 r1 ty
 refine ⟨T,id,pa,slot,hty,h1,h2,?_⟩
 have hA:=ha cpos pins s1 σ H1 _ I1 q1
 rw [hs] at hA ⊢
 refine Calls.callWith_builtin (by show (false || (backTo cpos (starEach es X.env)).any (·.1))=false;rw [hplain] <;> rfl) (Calls.evalArgs_plain ?_)
 exact c7 hA fun us s2 ⟨vs,H2,I2,r2,q2⟩=>hm pins s2 σ H2 x vs v us Q I2 r1 r2 q2
end
end L2
namespace L2
open PySem PySem.Spec PyProof.Rows
def VB(X:Cx)(id:String)(r:V→List V→Hp→VK→Prop):Prop:=
 ∀(pins:List (Addr × Obj))(s:Shared)(σ:St)(H:Hp)(x:V)(xs:List V)(v:Value)(us:List Value)(Q:VK),Inv X pins σ H s→RelV x v→Vals xs us→r x xs H Q→
  wpAny (model X.prog X.w) X.A (call (.builtin id) (v::us)) (EP X pins σ Q) X.xe s
theorem Vals.one:∀{x:V}{us:List Value},Vals [x] us→∃u,us = [u]∧RelV x u
 | _,_,.cons r .nil=>⟨_,rfl,r⟩
theorem Vals.eraseIdx:∀{xs:List V}{us:List Value}(i:Nat),Vals xs us→Vals (xs.eraseIdx i) (us.eraseIdx i)
 | _,_,_,.nil=> .nil
 | _,_,0,.cons _ t=>t
 | _,_,i+1,.cons r t=> .cons r (Vals.eraseIdx i t)
theorem Vals.rep{xs:List V}{us:List Value}(h:Vals xs us):∀k:Nat,Vals (List.replicate k xs).flatten (List.replicate k us).flatten
 | 0=> .nil
 | k+1=>by
  rw [List.replicate_succ,List.replicate_succ,List.flatten_cons,List.flatten_cons]
  exact Vals.append h (Vals.rep h k)
theorem Gb{α:Type}:∀(l:List α)(i:Nat),(l.eraseIdx i).length≤l.length
 | [],_=>Nat.le_refl _
 | _::_,0=>Nat.le_succ _
 | _::r,i+1=>Nat.succ_le_succ (Gb r i)
theorem foldl_rep(its:List Value):∀(k:Nat)(acc:List Value),
  List.foldl (fun x1 x2=>x1 ++ x2) acc.toArray (List.replicate k its.toArray)= (acc ++ (List.replicate k its).flatten).toArray
 | 0,acc=>by simp
 | k+1,acc=>by
  have e:acc.toArray ++ its.toArray= (acc ++ its).toArray:=by simp
  have e2:(acc ++ its) ++ (List.replicate k its).flatten=acc ++ (List.replicate (k+1) its).flatten:=by
   rw [List.replicate_succ,List.flatten_cons,List.append_assoc]
  rw [←e2,←foldl_rep its k (acc ++ its),←e,List.replicate_succ,List.foldl_cons]
section
variable{X:Cx}{pins:List (Addr × Obj)}{σ:St}{H:Hp}{s:Shared}{l b:Addr}{xs ys zs:List V}
theorem Inv.Te{its its':List Value}{n:Nat}{f:Array Value→Array Value}{t':Nat}(I:Inv X pins σ H s)(hH:H l=some (.lst xs))
  (e:s.heap.get? l=some {cls:= .type "list",data:= .seq its.toArray n}) (hf:f its.toArray=its'.toArray) (hv:Vals ys its') (hz:ys.length≤sizeLine):
  Inv X pins σ (upd H l (.lst ys)) {s with heap:=s.heap.update l (Obj.mapSeq f),toks:=t'}:=by
 have q:=PySem.IsL.update e f
 rw [hf] at q
 refine I.write (x:=l) (e:=l) (by rw [hH];exact trivial) (.inl rfl) (fun b' u hb hu=>(Heap.get?_update_other s.heap (Obj.mapSeq f) (Ne.symm hb)).trans hu) ⟨_,q⟩ ?_
 exact ⟨hz,its',_,hv,q⟩
theorem Inv.UZ{its:List Value}{t':Nat}(I:Inv X pins σ H s)(hv:Vals ys its)(hz:ys.length≤sizeLine):
  Inv X pins σ (upd H s.heap.objs.size (.lst ys)) {s with heap:=s.heap.push {cls:= .type "list",data:= .seq its.toArray},toks:=t'}:=
 I.laid (fun _ _ q=>Heap.get?_push_of_some _ q) (Nat.le_refl _) ⟨hz,its,0,hv,Heap.get?_push_size _ rfl⟩
theorem Inv.fresh(I:Inv X pins σ H s):H s.heap.objs.size=none:=I.dB.fresh (Nat.le_refl _)
theorem Inv.L3(I:Inv X pins σ H s)(hH:H l=some (.lst xs)):xs.length≤sizeLine∧∃(its:List Value)(n:Nat),Vals xs its∧xs.length=its.length∧s.heap.get? l=some {cls:= .type "list",data:= .seq its.toArray n}:=by
 obtain ⟨z,its,n,r,e⟩:=I.dB l _ hH
 exact ⟨z,its,n,r,r.length,e⟩
theorem Kf{n:Nat}(h:n≤sizeLine):Builtin.List.listTooLong n=false:=by
 unfold Builtin.List.listTooLong
 exact decide_eq_false (by omega)
end
section
variable{X:Cx}
def yr:V→List V→Hp→VK→Prop:=fun x vs H Q=>∃l xs y,x= .ref l∧vs = [y]∧H l=some (.lst xs)∧xs.length < sizeLine∧Q .bB (upd H l (.lst (xs ++ [y])))
theorem GP:VB X "list.append" yr:=by
 intro pins s σ H x vs v us Q I rx rv h
 obtain ⟨l,xs,y,rfl,rfl,hH,hz,q⟩:=h
 cases rx
 obtain ⟨u,rfl,ru⟩:=rv.one
 obtain ⟨z,its,n,r,hl,e⟩:=I.L3 hH
 refine call_meets F.slot_list_append ⟨_,e,rfl⟩ F.entry_list_append (F.args_list_append_2 _ _) (PySem.list_append l its.toArray n u (by rw [List.size_toArray];omega)) ⟨e,?_⟩
 refine ⟨.bB,_,I.Te (its':=its ++ [u]) hH e (by simp) (r.append (.cons ru .nil)) ?_,rfl,q⟩
 rw [List.length_append,List.length_singleton]
 omega
def uK:V→List V→Hp→VK→Prop:=fun x vs H Q=>∃l b xs zs,x= .ref l∧vs = [.ref b]∧H l=some (.lst xs)∧H b=some (.lst zs)∧xs.length+zs.length≤sizeLine∧Q .bB (upd H l (.lst (xs ++ zs)))
theorem Ar:VB X "list.extend" uK:=by
 intro pins s σ H x vs v us Q I rx rv h
 obtain ⟨l,b,xs,zs,rfl,rfl,hH,hB,hz,q⟩:=h
 cases rx
 obtain ⟨u,rfl,ru⟩:=rv.one
 cases ru
 obtain ⟨z,its,n,r,hl,e⟩:=I.L3 hH
 obtain ⟨z2,its2,n2,r2,hl2,e2⟩:=I.L3 hB
 have hsz:its.toArray.size+its2.toArray.size≤sizeLine:=by rw [List.size_toArray,List.size_toArray];omega
 have hlong:¬(!its.toArray.isEmpty && Builtin.List.listTooLong (its.toArray.size+its2.toArray.size))=true:=by
  rw [Kf hsz,Bool.and_false]
  exact Bool.false_ne_true
 refine call_meets F.slot_list_extend ⟨_,e,rfl⟩ F.entry_list_extend (F.args_list_extend_2 _ _)
  (AutoSeq1.list_extend_list_list_0 l its.toArray n b its2.toArray n2 hlong (by rw [List.size_toArray];omega) (by omega)) ⟨e,e2,?_⟩
 refine ⟨.bB,_,I.Te (its':=its ++ its2) hH e (by simp) (r.append r2) ?_,rfl,q⟩
 rw [List.length_append]
 omega
def Qo:V→List V→Hp→VK→Prop:=fun x vs H Q=>∃l xs i k y,x= .ref l∧vs = [.int i]∧H l=some (.lst xs)∧-(2 ^ 63)≤i∧i < 2 ^ 63∧seqIndex? i xs.length=some k∧xs[k]? = some y∧Q y (upd H l (.lst (xs.eraseIdx k)))
theorem QQ:VB X "list.pop" Qo:=by
 intro pins s σ H x vs v us Q I rx rv h
 obtain ⟨l,xs,i,k,y,rfl,rfl,hH,h1,h2,hk,hy,q⟩:=h
 cases rx
 obtain ⟨u,rfl,ru⟩:=rv.one
 obtain ⟨t,rfl⟩:=ru
 obtain ⟨z,its,n,r,hl,e⟩:=I.L3 hH
 obtain ⟨w,hw,rw'⟩:=r.get hy
 refine call_meets F.slot_list_pop ⟨_,e,rfl⟩ F.entry_list_pop (F.args_list_pop_2 _ _)
  (MeetsSeq.list_pop_at l its.toArray n i t k w (fitsIndex_both h1 h2) (by rw [List.size_toArray,←hl];exact hk) (by rw [←Array.getElem?_toList];exact hw) (by rw [List.size_toArray];omega)) ⟨e,?_⟩
 refine ⟨y,_,I.Te (its':=its.eraseIdx k) hH e ?_ (r.eraseIdx k) ?_,rw',q⟩
 ·show its.toArray.eraseIdxIfInBounds k= (its.eraseIdx k).toArray
  rw [List.eraseIdxIfInBounds_toArray]
 ·have:=Gb xs k
  omega
def uF:R2:=fun x y H Q=>∃l b xs zs,x= .ref l∧y= .ref b∧H l=some (.lst xs)∧H b=some (.lst zs)∧xs.length+zs.length≤sizeLine∧∀p,H p=none→Q (.ref p) (upd H p (.lst (xs ++ zs)))
theorem iT:yL X (binaryOp .Add) uF:=by
 intro pins s σ H x y v u Q I rx ry h
 obtain ⟨l,b,xs,zs,rfl,rfl,hH,hB,hz,q⟩:=h
 cases rx
 cases ry
 obtain ⟨z,its,n,r,hl,e⟩:=I.L3 hH
 obtain ⟨z2,its2,n2,r2,hl2,e2⟩:=I.L3 hB
 refine PySem.P.add_list e e2 ?_ (by rw [List.size_toArray,List.size_toArray];omega)
 have ea:its.toArray ++ its2.toArray= (its ++ its2).toArray:=by simp
 rw [ea]
 exact ⟨.ref _,_,I.UZ (t':=s.toks) (r.append r2) (by rw [List.length_append];omega),rfl,q _ I.fresh⟩
def Ra:R2:=fun x y H Q=>∃l k xs,x= .ref l∧y= .int k∧H l=some (.lst xs)∧-(2 ^ 63)≤k∧k < 2 ^ 63∧xs.length * k.toNat≤sizeLine∧
 ∀p,H p=none→Q (.ref p) (upd H p (.lst (List.replicate k.toNat xs).flatten))
theorem len_rep{α:Type}(xs:List α)(k:Nat):(List.replicate k xs).flatten.length=k * xs.length:=by
 induction k with
 | zero=>simp
 | succ k ih=>rw [List.replicate_succ,List.flatten_cons,List.length_append,ih,Nat.succ_mul,Nat.add_comm]
theorem Hz:yL X (binaryOp .Mult) Ra:=by
 intro pins s σ H x y v u Q I rx ry h
 obtain ⟨l,k,xs,rfl,rfl,hH,h1,h2,hz,q⟩:=h
 cases rx
 obtain ⟨t,rfl⟩:=ry
 obtain ⟨z,its,n,r,hl,e⟩:=I.L3 hH
 have hlen:its.toArray.size * k.toNat≤sizeLine:=by rw [List.size_toArray,←hl];exact hz
 have hcap:¬its.toArray.size * k.toNat > (2 ^ 63 - 1) / 8:=by
  have:(sizeLine:Nat)≤(2 ^ 63 - 1) / 8:=by decide
  omega
 have hfit:¬(!Builtin.List.listFitsIndex k)=true:=by
  rw [fitsIndex_both h1 h2]
  exact Bool.false_ne_true
 have hlong:¬Builtin.List.listTooLong (its.toArray.size * k.toNat)=true:=by
  rw [Kf hlen]
  exact Bool.false_ne_true
 have hnew:List.foldl (fun x1 x2=>x1 ++ x2) #[] (List.replicate (if its.toArray.isEmpty=true then 0 else k.toNat) its.toArray)= (List.replicate k.toNat its).flatten.toArray:=by
  have f0:∀m:Nat,List.foldl (fun x1 x2=>x1 ++ x2) #[] (List.replicate m its.toArray)= (List.replicate m its).flatten.toArray:=fun m=>by
   have:=foldl_rep its m []
   rw [List.nil_append] at this
   exact this
  rw [f0]
  cases its with
  | nil=>simp
  | cons a r'=>rw [if_neg (by simp)]
 refine wpAny_binaryOp_repeat_ref (T:="list") (U:="int") (by decide) ⟨_,e,rfl⟩ (fun s'=>typeIs_int s' k t) noFill_list_mul F.fills_int_mul F.slot_int_rmul repeat_list F.slot_int_index.lookup
  (call_meets F.slot_int_rmul (typeIs_int s k t) F.entry_int_rmul (F.args_int_rmul_2 _ _) (int___rmul___int_list k t l its.toArray n)
   ⟨e,rfl,⟨_,e,rfl⟩,call_meets F.slot_list_mul ⟨_,e,rfl⟩ F.entry_list_mul (F.args_list_mul_2 _ _) (AutoListH.list___mul___list_int_3 l its.toArray n k t hfit hcap hlong) ⟨e,?_⟩⟩)
 rw [hnew]
 exact ⟨.ref _,_,I.UZ (t':=s.toks) (r.rep k.toNat) (by rw [len_rep,Nat.mul_comm];exact hz),rfl,q _ I.fresh⟩
end
section
variable{prog:Program}{w:World}{A:Around}{E:Value→Shared→Prop}{s:Shared}
set_option maxRecDepth 100000 in
end
end L2
namespace L2
open PySem PySem.Spec PyProof.Rows
theorem Vals.ints:∀{ns:List Int}{us:List Value},Vals (ns.map V.int) us→IntsAre us ns
 | [],us,h=>by
  rw [List.map_nil] at h
  cases h
  exact IntsAre.nil
 | n::ns,us,h=>by
  rw [List.map_cons] at h
  cases h with
  | cons r t=>
   obtain ⟨k,rfl⟩:=r
   exact IntsAre.cons n k (Vals.ints t)
theorem Vals.Wx:∀{bs:List Bool}{us:List Value},Vals (bs.map V.bl) us→us=bs.map Value.bool
 | [],us,h=>by
  rw [List.map_nil] at h
  cases h
  rfl
 | b::bs,us,h=>by
  rw [List.map_cons] at h
  cases h with
  | cons r t=>
   cases r
   rw [Vals.Wx t,List.map_cons]
theorem Vals.Ts{a:Addr}{us:List Value}(r:Vals [V.ref a] us):us = [Value.ref a]:=by
 cases r with
 | cons r t=>
  cases t
  cases r
  rfl
section
variable{prog:Program}{w:World}{A:Around}{E:Value→Shared→Prop}{s:Shared}{l:Addr}{its:List Value}{ns:List Int}{Q:Value→Shared→Prop}
theorem Su(hh:A.handled=none)(hl:s.heap.IsList l its.toArray)(hi:IntsAre its ns)
  (h:∀h' tk t',(∀b o,s.heap.get? b=some o→h'.get? b=some o)→Q (.int ns.sum t') {s with heap:=h',toks:=tk}):wpAny (model prog w) A (call (.builtin "sum") [.ref l]) Q E s:=by
 obtain ⟨xs,e⟩:=hi.allInts.items
 have hn:numsOf (intItems xs).toList=ns:=by rw [←e];exact hi.numsOf
 rw [nums_intItems] at hn
 rw [e] at hl
 refine PySem.sum_intListG hh hl fun h' tk t' hk=>?_
 have:=h h' tk t' hk
 rw [preSum_eq,List.take_of_length_le (by simp),hn];exact this
theorem SG(hh:A.handled=none)(hl:s.heap.IsList l its.toArray)(hi:IntsAre its ns)(hne:0 < ns.length)
  (h:∀h' tk M t',(∀b o,s.heap.get? b=some o→h'.get? b=some o)→M ∈ ns→(∀a,a ∈ ns→a≤M)→Q (.int M t') {s with heap:=h',toks:=tk}):wpAny (model prog w) A (call (.builtin "max") [.ref l]) Q E s:=by
 obtain ⟨xs,e⟩:=hi.allInts.items
 have hn:numsOf (intItems xs).toList=ns:=by rw [←e];exact hi.numsOf
 rw [nums_intItems] at hn
 subst hn
 rw [e] at hl
 have hsz:0 < xs.size:=by simpa using hne
 refine PySem.max_intList hh hl hsz fun v h' tk hv hk=>?_
 obtain ⟨t,rfl⟩:=intItems_at hv
 obtain ⟨h1,h2⟩:=argBest_gt (numAt xs) (xs.size - 1)
 refine h h' tk _ t hk ?_ fun a ha=>?_
 ·rw [numAt_eq];exact PySem.getD_mem (by rw [List.length_map,Array.length_toList];omega)
 ·obtain ⟨j,hj,rfl⟩:=mem_getD ha
  rw [List.length_map,Array.length_toList] at hj
  rw [←numAt_eq];exact h2 j (by omega)
end
section
variable{X:Cx}
def Ta(K:PySem.W.Frag):List V→Hp→VK→Prop:=fun vs H Q=>∃(a:Addr)(ns:List Int),vs = [V.ref a]∧cb K H a (ns.map V.int)∧Q (.int ns.sum) H
def T8(K:PySem.W.Frag):List V→Hp→VK→Prop:=fun vs H Q=>∃(a:Addr)(ns:List Int),vs = [V.ref a]∧cb K H a (ns.map V.int)∧0 < ns.length∧∀m,m ∈ ns→(∀y,y ∈ ns→y≤m)→Q (.int m) H
theorem PX(hc:X.calm=true):za X (.builtin "sum") (Ta X.K):=by
 intro pins s σ H vs us Q I r h
 obtain ⟨a,ns,rfl,hs,q⟩:=h
 obtain ⟨its,rv,hl,_⟩:=I.list hs
 rw [Vals.Ts r]
 exact Su (I.ok.hd hc) hl.isList rv.ints fun h' tk t' hk=>⟨.int _,H,I.kept hk,⟨_,rfl⟩,q⟩
theorem Ua(hc:X.calm=true):za X (.builtin "max") (T8 X.K):=by
 intro pins s σ H vs us Q I r h
 obtain ⟨a,ns,rfl,hs,hne,q⟩:=h
 obtain ⟨its,rv,hl,_⟩:=I.list hs
 rw [Vals.Ts r]
 exact SG (I.ok.hd hc) hl.isList rv.ints hne fun h' tk m t' hk h1 h2=>⟨.int _,H,I.kept hk,⟨_,rfl⟩,q m h1 h2⟩
end
theorem Q3{prog:Program}{w:World}{A:Around}{E:Value→Shared→Prop}{s:Shared}{l:Addr}{items:Array Value}{Q:Value→Shared→Prop}(hl:s.heap.IsList l items)
  (h:∀s₂:Shared,s₂= {s with heap:=s.heap.push {cls:= .type "list_iterator",data:= .fields #[.ref l,.int 0 0]}}→
   (s₂.heap.IsListIter s.heap.objs.size l 0∧s₂.heap.IsList l items)→l ≠ s.heap.objs.size→Q (.ref s.heap.objs.size) s₂):wpAny (model prog w) A (pyIter (.ref l)) Q E s:=by
 have hlt:l < s.heap.objs.size:=by obtain ⟨_,e,_⟩:=hl;exact Heap.lt_size e
 exact wpAny_pyIter_list hl (h _ rfl ⟨⟨_,Heap.get?_push_size _ rfl,rfl,rfl⟩,hl.push _⟩ (Nat.ne_of_lt hlt))
theorem K0{prog:Program}{w:World}{A:Around}{bs:List Bool}{its:List Value}(e:its=bs.map Value.bool):
  TruthOf prog w A (fun i v=>its.toArray[i]? = some v) (fun i=>bs.getD i false):=fun i v s Q E hv hq=>by
 have hv':its[i]? = some v:=by simpa using hv
 rw [e,List.getElem?_map] at hv'
 obtain ⟨b,hb,rfl⟩:=Option.map_eq_some_iff.mp hv'
 have hg:bs.getD i false=b:=by rw [List.getD_eq_getElem?_getD,hb] <;> rfl
 have hq':Q (bs.getD i false) s:=hq
 rw [hg] at hq'
 exact wpAny_truthy_bool hq'
theorem any_range:∀bs:List Bool,(List.range bs.length).any (fun i=>bs.getD i false)=bs.any id
 | []=>rfl
 | b::bs=>by
  rw [List.length_cons,List.range_succ_eq_map,List.any_cons,List.any_map,List.any_cons,←any_range bs]
  all_goals rfl
section
variable{X:Cx}
def Vl(K:PySem.W.Frag):List V→Hp→VK→Prop:=fun vs H Q=>∃(a:Addr)(bs:List Bool),vs = [V.ref a]∧cb K H a (bs.map V.bl)∧Q (.bl (bs.any id)) H
theorem TX(hc:X.calm=true):za X (.builtin "any") (Vl X.K):=by
 intro pins s σ H vs us Q I r h
 obtain ⟨a,bs,rfl,hs,q⟩:=h
 obtain ⟨its,rv,hl,_⟩:=I.list hs
 rw [Vals.Ts r]
 have hb:=rv.Wx
 refine call_any_walk (Q3 hl.isList fun s₂ e2 st hne=>?_)
 subst e2
 refine ⟨_,_,_,_,_,_,_,rfl,Walks.list (A:=X.A.in1) (I.ok.hd hc) _ a hne its.toArray,st,K0 hb,fun h' tk hk=>?_⟩
 refine ⟨.bl _,H,I.kept fun b o eo=>hk b o (fun hmem=>?_) (Heap.get?_push_of_some _ eo),?_,q⟩
 ·rcases List.mem_cons.mp hmem with e1 | hmem
  ·exact absurd (e1 ▸ Heap.lt_size eo) (Nat.lt_irrefl _)
  ·cases hmem
 ·show Value.bool _=Value.bool _
  rw [←any_range,hb,List.size_toArray,List.length_map]
end
end L2
namespace L2
open PySem PySem.Spec PyProof.Rows
abbrev Rq(h:Heap)(c:Addr)(v:Option Value):Prop:=h.IsCell c v
def VY(scope sc:Scope):Scope:=
 {scope with names:=scope.names.map fun (n,k)=>if (k == .free && sc.kind == .function && sc.names.lookup n == some .cell) then (n,.cell) else (n,k)}
def cD(cells:List (Str × Addr)):List (Str × NameKind)→List (Str × Addr)→List (Str × Addr)
 | [],acc=>acc
 | (n,k)::r,acc=>if k == .free then cD cells r ((n,(cells.lookup n).getD 0)::acc) else cD cells r acc
theorem yJ(env:Env)(f:Str × NameKind→List (Str × Addr)→Sem (ForInStep (List (Str × Addr))))
  (hf:∀n k c,f (n,k) c=if k == .free then (do let a ←cellOf env n;pure (.yield ((n,a)::c))) else pure (.yield c)):
  ∀(names:List (Str × NameKind))(acc:List (Str × Addr)),(∀y ∈ names,y.2= .free→∃c,env.cells.lookup y.1=some c)→forIn names acc f=pure (cD env.cells names acc)
 | [],acc,_=>by rw [List.forIn_nil];rfl
 | (n,k)::r,acc,h=>by
  rw [List.forIn_cons,hf]
  have ih:=fun acc=>yJ env f hf r acc fun y hy=>h y (List.mem_cons_of_mem _ hy)
  unfold cD
  by_cases hk:(k == NameKind.free)=true
  ·rw [if_pos hk,if_pos hk]
   obtain ⟨c,hc⟩:=h (n,k) List.mem_cons_self (by simpa using hk)
   have e:cellOf env n=pure c:=by unfold cellOf;rw [hc]
   rw [e]
   have e2:(env.cells.lookup n).getD 0=c:=by rw [hc];rfl
   rw [e2]
   exact ih _
  ·rw [if_neg hk,if_neg hk]
   exact ih _
theorem MG{scope:Scope}{env:Env}(h:∀y ∈ scope.names,y.2= .free→∃c,env.cells.lookup y.1=some c):closureFor scope env=pure (cD env.cells scope.names []):=by
 simp only [closureFor]
 rw [yJ env _ (fun n k c=>rfl) scope.names [] h]
 rfl
theorem mem_lookup{α:Type}:∀{l:List (Str × α)}{n:Str}{c:α},(n,c) ∈ l→∃c',l.lookup n=some c'
 | (k,v)::r,n,c,h=>by
  rw [List.lookup_cons]
  cases hb:n == k with
  | true=>exact ⟨_,rfl⟩
  | false=>
   rcases List.mem_cons.mp h with e | h
   ·cases e;simp at hb
   ·exact mem_lookup h
theorem oe{cells:List (Str × Addr)}:∀{names:List (Str × NameKind)}{acc:List (Str × Addr)}{n:Str}{c:Addr},(n,c) ∈ cD cells names acc→(n,c) ∈ acc∨((n,.free) ∈ names∧c= (cells.lookup n).getD 0)
 | [],_,_,_,h=> .inl h
 | (m,k)::r,acc,n,c,h=>by
  unfold cD at h
  split at h
  ·rename_i hk
   have hk:k= .free:=by simpa using hk
   rcases oe h with h | ⟨h1,h2⟩
   ·rcases List.mem_cons.mp h with e | h
    ·cases e;exact .inr ⟨hk ▸ List.mem_cons_self,rfl⟩
    ·exact .inl h
   ·exact .inr ⟨List.mem_cons_of_mem _ h1,h2⟩
  ·rcases oe h with h | ⟨h1,h2⟩
   ·exact .inl h
   ·exact .inr ⟨List.mem_cons_of_mem _ h1,h2⟩
theorem t7{cells:List (Str × Addr)}:∀{names:List (Str × NameKind)}{acc:List (Str × Addr)}{p:Str × Addr},p ∈ acc→p ∈ cD cells names acc
 | [],_,_,h=>h
 | (m,k)::r,acc,p,h=>by
  unfold cD
  split
  ·exact t7 (List.mem_cons_of_mem _ h)
  ·exact t7 h
theorem tP{cells:List (Str × Addr)}:∀{names:List (Str × NameKind)}{acc:List (Str × Addr)}{n:Str},(n,.free) ∈ names→(n,(cells.lookup n).getD 0) ∈ cD cells names acc
 | (m,k)::r,acc,n,h=>by
  unfold cD
  rcases List.mem_cons.mp h with e | h
  ·cases e
   exact t7 List.mem_cons_self
  ·split
   ·exact tP h
   ·exact tP h
theorem pM:∀{names:List (Str × NameKind)}{h:Heap}{acc:List (Str × Addr)}{x:Str}{c:Addr},(x,c) ∈ cellsFrom h.objs.size names acc→
  (x,c) ∈ acc∨((x,.cell) ∈ names∧h.objs.size≤c∧Rq (pushCells h names) c none)
 | [],_,_,_,_,h=> .inl h
 | (n,k)::r,h,acc,x,c,hm=>by
  unfold cellsFrom at hm
  unfold pushCells
  split at hm
  ·rename_i hk
   rw [if_pos hk]
   have hk:k= .cell:=by simpa using hk
   rw [←Heap.size_push h {cls:= .type "cell",data:= .cell none}] at hm
   rcases pM hm with hm | ⟨h1,h2,h3⟩
   ·rcases List.mem_cons.mp hm with e | hm
    ·cases e
     exact .inr ⟨hk ▸ List.mem_cons_self,Nat.le_refl _,_,pushCells_keeps r _ _ _ (Heap.get?_push_size _ rfl),rfl⟩
    ·exact .inl hm
   ·rw [Heap.size_push] at h2
    exact .inr ⟨List.mem_cons_of_mem _ h1,Nat.le_of_succ_le h2,h3⟩
  ·rename_i hk
   rw [if_neg hk]
   rcases pM hm with hm | ⟨h1,h2,h3⟩
   ·exact .inl hm
   ·exact .inr ⟨List.mem_cons_of_mem _ h1,h2,h3⟩
theorem vb:∀{names:List (Str × NameKind)}{n:Nat}{acc:List (Str × Addr)}{p:Str × Addr},p ∈ acc→p ∈ cellsFrom n names acc
 | [],_,_,_,h=>h
 | (m,k)::r,n,acc,p,h=>by
  unfold cellsFrom
  split
  ·exact vb (List.mem_cons_of_mem _ h)
  ·exact vb h
theorem zT:∀{names:List (Str × NameKind)}{n:Nat}{acc:List (Str × Addr)}{x:Str},(x,.cell) ∈ names→∃c,(x,c) ∈ cellsFrom n names acc
 | (m,k)::r,n,acc,x,h=>by
  unfold cellsFrom
  rcases List.mem_cons.mp h with e | h
  ·cases e
   exact ⟨n,vb List.mem_cons_self⟩
  ·split
   ·exact zT h
   ·exact zT h
theorem AQ:∀{names:List (Str × NameKind)}{h:Heap}{acc:List (Str × Addr)}{x y:Str}{c:Addr},(∀p ∈ acc,p.2 < h.objs.size)→(∀x y c,(x,c) ∈ acc→(y,c) ∈ acc→x=y)→
  (x,c) ∈ cellsFrom h.objs.size names acc→(y,c) ∈ cellsFrom h.objs.size names acc→x=y
 | [],_,_,_,_,_,_,hi,h1,h2=>hi _ _ _ h1 h2
 | (n,k)::r,h,acc,x,y,c,hl,hi,h1,h2=>by
  unfold cellsFrom at h1 h2
  split at h1
  ·rename_i hk
   rw [if_pos hk] at h2
   rw [←Heap.size_push h {cls:= .type "cell",data:= .cell none}] at h1 h2
   refine AQ (h:=h.push _) (fun p hp=>?_) (fun x y c a b=>?_) h1 h2
   ·rw [Heap.size_push]
    rcases List.mem_cons.mp hp with rfl | hp
    ·exact Nat.lt_succ_self _
    ·exact Nat.lt_succ_of_lt (hl p hp)
   ·rcases List.mem_cons.mp a with e | a <;> rcases List.mem_cons.mp b with e' | b
    ·cases e;cases e';rfl
    ·cases e;exact absurd (hl _ b) (Nat.lt_irrefl _)
    ·cases e';exact absurd (hl _ a) (Nat.lt_irrefl _)
    ·exact hi _ _ _ a b
  ·rename_i hk
   rw [if_neg hk] at h2
   exact AQ hl hi h1 h2
theorem Kb{M:Model}{A:Around}{E:Value→Shared→Prop}{s:Shared}{scope:Scope}{globals:Addr}{closure:List (Str × Addr)}{qual:Str}{func:Option Addr}{code:Value}{around:Env}{builtins:Addr}{Q:Env→Shared→Prop}
  (h:Q (newEnv scope s.heap.objs.size globals (cellsFrom (s.heap.objs.size+1) scope.names closure) qual func code (some around) builtins)
   {s with heap:=pushCells (s.heap.push {cls:= .type "dict",data:= .dict #[]}) scope.names}):
  wpAny M A (newFunctionEnv scope globals closure [] qual func code (some around) builtins) Q E s:=by
 simp only [newFunctionEnv,Option.isSome_some,if_true]
 refine wpAny_bind (wpAny_alloc ?_)
 refine wpAny_bind (wpAny_layCells _ (fun n k c=>rfl) scope.names closure _ _ ?_)
 rw [show ({s with heap:=s.heap.push {cls:= .type "dict",data:= .dict #[]}}:Shared).heap.objs.size=s.heap.objs.size+1 from Heap.size_push ..]
 rw [List.forIn_nil]
 exact wpAny_bind (wpAny_pure (wpAny_pure h))
theorem tE{sc:Scope}:∀{names:List (Str × NameKind)}{x:Str}{k:NameKind},
  (names.map fun (n,k)=>if (k == NameKind.free && sc.kind == .function && sc.names.lookup n == some .cell) then (n,NameKind.cell) else (n,k)).lookup x=some k→
  ∃k',names.lookup x=some k'∧(k=k'∨(k'= .free∧k= .cell))
 | [],_,_,h=>by simp at h
 | (n,k₀)::r,x,k,h=>by
  have ih:=@tE sc r x k
  have h':List.lookup x ((if (k₀ == NameKind.free && sc.kind == .function && sc.names.lookup n == some .cell)=true then (n,NameKind.cell) else (n,k₀))::(r.map _))=some k:=h
  cases hx:x == n with
  | true=>
   simp only [List.lookup_cons,hx]
   by_cases hc:(k₀ == NameKind.free && sc.kind == .function && sc.names.lookup n == some .cell)=true
   ·rw [if_pos hc] at h'
    simp only [List.lookup_cons,hx] at h'
    cases h'
    simp only [Bool.and_eq_true,beq_iff_eq] at hc
    exact ⟨k₀,rfl,.inr ⟨hc.1.1,rfl⟩⟩
   ·rw [if_neg hc] at h'
    simp only [List.lookup_cons,hx] at h'
    cases h'
    exact ⟨_,rfl,.inl rfl⟩
  | false=>
   simp only [List.lookup_cons,hx]
   by_cases hc:(k₀ == NameKind.free && sc.kind == .function && sc.names.lookup n == some .cell)=true
   ·rw [if_pos hc] at h'
    simp only [List.lookup_cons,hx] at h'
    exact ih h'
   ·rw [if_neg hc] at h'
    simp only [List.lookup_cons,hx] at h'
    exact ih h'
structure Lc(N:List Str)(sc scope:Scope)(own:List (Str × Nat)):Prop where
 kind:scope.kind= .function
 uniq:∀y ∈ scope.names,scope.names.lookup y.1=some y.2
 ix:∀p ∈ own,N[p.2]? = some p.1
 free:∀y ∈ scope.names,y.2= .free→sc.names.lookup y.1=some .cell∨sc.names.lookup y.1=some .free
 own:∀y ∈ scope.names,y.2= .local∨y.2= .cell→y.1 ∈ own.map (·.1)∨y.1 ∉ N
def wipe(σ:St):List Nat→St
 | []=>σ
 | v::vs=>(wipe σ vs).set v none
theorem tG(σ:St):∀vs:List Nat,(wipe σ vs).length=σ.length
 | []=>rfl
 | v::vs=>by unfold wipe;rw [List.length_set,tG σ vs]
theorem zC{σ:St}{i:Nat}{x:V}:∀{vs:List Nat},(wipe σ vs)[i]? = some (some x)→σ[i]? = some (some x)∧i ∉ vs
 | [],h=>⟨h,by simp⟩
 | v::vs,h=>by
  unfold wipe at h
  by_cases hi:v=i
  ·subst hi
   by_cases hv:v < (wipe σ vs).length
   ·rw [List.getElem?_set_self hv] at h;cases h
   ·rw [List.getElem?_eq_none (by simpa using hv)] at h;cases h
  ·rw [List.getElem?_set_ne hi] at h
   obtain ⟨h1,h2⟩:=zC h
   exact ⟨h1,by simp only [List.mem_cons,not_or];exact ⟨fun e=>hi e.symm,h2⟩⟩
abbrev Cx.Hv(X:Cx)(s:Shared)(H:Hp)(scope:Scope)(cenv:Env)(fp:List Addr):Cx:={X with s₀:=s,H₀:=H,env:=cenv,outer:=X.stack,ex:=fp,fn:=fun x=>scope.names.lookup x == some .cell,pn:=[],xe:=fun _ _=>False}
section
variable{X:Cx}{pins:List (Addr × Obj)}{σ:St}{H:Hp}{s:Shared}
theorem KC{scope:Scope}{own:List (Str × Nat)}{fp:List Addr}(I:Inv X pins σ H s)(ok:Lc X.N X.env.scope scope own)(hN:X.N.Nodup)(hfp:∀b ∈ fp,E4 X pins H b∧b < s.heap.objs.size):
  Inv (X.Hv s H scope (compEnvC scope (cellsFrom (s.heap.objs.size+1) scope.names (cD X.env.cells scope.names [])) s.heap.objs.size X.env) fp) [] (wipe σ (own.map (·.2))) H {s with heap:=pushCells (s.heap.push {cls:= .type "dict",data:= .dict #[]}) scope.names}:=by
 have hfree:∀y ∈ scope.names,y.2= .free→∃c,X.env.cells.lookup y.1=some c:=fun y hy e=>by
  rcases ok.free y hy e with k | k
  ·exact I.ok.has _ (.inl k)
  ·exact I.ok.has _ (.inr k)
 generalize hcenv:compEnvC scope (cellsFrom (s.heap.objs.size+1) scope.names (cD X.env.cells scope.names [])) s.heap.objs.size X.env=cenv
 have kp:∀b o,s.heap.get? b=some o→(pushCells (s.heap.push {cls:= .type "dict",data:= .dict #[]}) scope.names).get? b=some o:=fun b o e=>pushCells_keeps _ _ _ _ (Heap.get?_push_of_some _ e)
 have hL:cenv.locals=s.heap.objs.size:=by rw [←hcenv];rfl
 have hcl:cenv.cells=cellsFrom (s.heap.objs.size+1) scope.names (cD X.env.cells scope.names []):=by rw [←hcenv];rfl
 have hsc:cenv.scope=VY scope X.env.scope:=by rw [←hcenv];rfl
 rw [←Heap.size_push s.heap {cls:= .type "dict",data:= .dict #[]}] at hcl
 have cm:∀{y c},(y,c) ∈ cD X.env.cells scope.names []→X.env.cells.lookup y=some c∧c < s.heap.objs.size:=fun {y c} hm=>by
  rcases oe hm with hm | ⟨h1,rfl⟩
  ·cases hm
  ·obtain ⟨c,hc⟩:=hfree _ h1 rfl
   rw [hc]
   obtain ⟨w,z⟩:=I.cell _ _ hc
   exact ⟨rfl,z.lt⟩
 have mem:∀{y c},cenv.cells.lookup y=some c→(X.env.cells.lookup y=some c∧c < s.heap.objs.size)∨(s.heap.objs.size+1≤c∧Rq (pushCells (s.heap.push {cls:= .type "dict",data:= .dict #[]}) scope.names) c none):=fun {y c} e=>by
  rw [hcl] at e
  rcases pM (PySem.mem_of_lookup e) with hm | ⟨_,h2,h3⟩
  ·exact .inl (cm hm)
  ·rw [Heap.size_push] at h2;exact .inr ⟨h2,h3⟩
 have look:∀{y},scope.names.lookup y=some .free→∃c,cenv.cells.lookup y=some c∧X.env.cells.lookup y=some c:=fun {y} hl=>by
  have hy:(y,NameKind.free) ∈ scope.names:=PySem.mem_of_lookup hl
  obtain ⟨c',e'⟩:=mem_lookup (vb (names:=scope.names) (n:=(s.heap.push {cls:= .type "dict",data:= .dict #[]}).objs.size) (tP (cells:=X.env.cells) (acc:=[]) hy))
  rw [←hcl] at e'
  refine ⟨c',e',?_⟩
  rw [hcl] at e'
  rcases pM (PySem.mem_of_lookup e') with hm | ⟨h1,_,_⟩
  ·exact (cm hm).1
  ·have:=ok.uniq _ h1
   rw [hl] at this;cases this
 have okB:(X.Hv s H scope cenv fp).Ok:=by
  refine ⟨I.ok.mod,by show cenv.scope.kind=_;rw [hsc];exact ok.kind,by show cenv.globals=_;rw [←hcenv];exact I.ok.glob,by show cenv.builtins=_;rw [←hcenv];exact I.ok.blt,by show s.heap.objs.size≤cenv.locals;rw [hL];exact Nat.le_refl _,
   fun y z c e1 e2=>?_,fun y hy=>?_,fun y c z e=>?_,I.ok.hd,I.ok.frames,.inl rfl,fun b hb=>⟨?_,fun y c e z=>?_⟩,I.bs,Nat.le_trans I.ok.RO I.sz,fun b o e hb=>?_,fun b hb z=>?_,I.stack,I.NJ⟩
  ·have e1:cenv.cells.lookup y=some c:=e1
   have e2:cenv.cells.lookup z=some c:=e2
   rw [hcl] at e1 e2
   refine AQ (fun p hp=>?_) (fun y z c a b=>I.ok.inj y z c (cm a).1 (cm b).1) (PySem.mem_of_lookup e1) (PySem.mem_of_lookup e2)
   rw [Heap.size_push]
   exact Nat.lt_succ_of_lt (cm (y:=p.1) (c:=p.2) hp).2
  ·show ∃c,cenv.cells.lookup y=some c
   have key:∀k,cenv.kindOf y=some k→(k= .cell∨k= .free)→∃c,cenv.cells.lookup y=some c:=fun k hk hk'=>by
    unfold Env.kindOf at hk
    rw [hsc] at hk
    obtain ⟨k',e,r⟩:=tE hk
    have:k'= .cell∨k'= .free:=by
     rcases r with rfl | ⟨rfl,_⟩
     ·exact hk'
     ·exact .inr rfl
    rcases this with rfl | rfl
    ·obtain ⟨c,hm⟩:=zT (n:=(s.heap.push {cls:= .type "dict",data:= .dict #[]}).objs.size) (acc:=cD X.env.cells scope.names []) (PySem.mem_of_lookup e)
     obtain ⟨c',e'⟩:=mem_lookup hm
     exact ⟨c',by rw [hcl];exact e'⟩
    ·obtain ⟨c,h1,_⟩:=look e
     exact ⟨c,h1⟩
   rcases hy with hy | hy
   ·exact key _ hy (.inl rfl)
   ·exact key _ hy (.inr rfl)
  ·have z:(scope.names.lookup y == some NameKind.cell)=true:=z
   have z:scope.names.lookup y=some .cell:=by simpa using z
   have e:cenv.cells.lookup y=some c:=e
   rw [hcl] at e
   rcases pM (PySem.mem_of_lookup e) with hm | ⟨_,h2,_⟩
   ·rcases oe hm with hm | ⟨h1,_⟩
    ·cases hm
    ·have q:=ok.uniq _ h1
     rw [z] at q;cases q
   ·rw [Heap.size_push] at h2
    exact Nat.le_of_succ_le h2
  ·show b ≠ cenv.locals
   rw [hL];exact Nat.ne_of_lt (hfp b hb).2
  ·have e:cenv.cells.lookup y=some c:=e
   rcases mem e with ⟨h1,_⟩ | ⟨h1,_⟩
   ·exact (hfp b hb).1.2.2.2.2.1 y c h1 z
   ·have h2:s.heap.objs.size+1≤b:=by rw [←z];exact h1
    exact absurd (Nat.lt_of_lt_of_le (hfp b hb).2 (Nat.le_of_succ_le h2)) (Nat.lt_irrefl _)
  ·rcases (hfp b hb).1.2.2.2.1 with z | z
   ·exact I.ok.QO b o e z
   ·exact absurd (Nat.lt_of_lt_of_le (Heap.lt_size e) (Nat.le_trans I.ok.RO z)) (Nat.lt_irrefl _)
  ·rcases List.mem_cons.mp (I.L1 b z) with z | z
   ·exact (hfp b hb).1.2.1 z
   ·exact (hfp b hb).1.2.2.1 z
 refine ⟨okB,rfl,I.bare,Un.kept kp,⟨fun _=>none,?_,fun i y av e1 e2 e3=>?_⟩,fun y c e=>?_,?_,fun y c e=>?_,fun p hp=>?_,I.dB.kept kp,by rw [tG];exact I.len⟩
 ·show Heap.Ns _ cenv.locals _
  rw [hL]
  exact Heap.Ns.keeps (Heap.Ns.new ..) fun b o e=>pushCells_keeps _ _ _ _ e
 ·obtain ⟨e2,hne⟩:=zC e2
  have hfr:scope.names.lookup y=some .free∧(cenv.kindOf y=some .cell∨cenv.kindOf y=some .free):=by
   have key:∀k,cenv.scope.names.lookup y=some k→k= .local∨k= .cell∨k= .free→scope.names.lookup y=some .free∧(cenv.kindOf y=some .cell∨cenv.kindOf y=some .free):=fun k hk hk'=>by
    have hk0:=hk
    rw [hsc] at hk
    obtain ⟨k',e,r⟩:=tE hk
    have no:¬(k'= .local∨k'= .cell):=fun hh=>by
     rcases ok.own _ (PySem.mem_of_lookup e) hh with e' | e'
     ·obtain ⟨p,hp,hpy⟩:=List.mem_map.mp e'
      have e3:=ok.ix p hp
      have:p.1=y:=hpy
      rw [this] at e3
      exact hne (List.mem_map.mpr ⟨p,hp,Ec hN e3 e1⟩)
     ·exact e' (List.mem_of_getElem? e1)
    rcases r with rfl | ⟨rfl,rfl⟩
    ·rcases hk' with rfl | rfl | rfl
     ·exact absurd (.inl rfl) no
     ·exact absurd (.inr rfl) no
     ·exact ⟨e,.inr hk0⟩
    ·exact ⟨e,.inl hk0⟩
   have e3:UB cenv.scope y:=e3
   rcases e3 with e3 | e3 | e3
   ·exact key _ e3 (.inl rfl)
   ·exact key _ e3 (.inr (.inl rfl))
   ·exact key _ e3 (.inr (.inr rfl))
  obtain ⟨m,hn,hl⟩:=I.loc
  have hvis:UB X.env.scope y:=(ok.free _ (PySem.mem_of_lookup hfr.1) rfl).elim (fun k=> .inr (.inl k)) (fun k=> .inr (.inr k))
  obtain ⟨w,r,q⟩:=hl i y av e1 e2 hvis
  refine ⟨w,r,.inr ⟨hfr.2,?_⟩⟩
  obtain ⟨c,h1,h2⟩:=look hfr.1
  rcases q with ⟨k,_⟩ | ⟨_,c',e',z⟩
  ·have k:X.env.scope.names.lookup y=some .local:=k
   rcases ok.free _ (PySem.mem_of_lookup hfr.1) rfl with k' | k' <;> rw [show X.env.scope.names.lookup y=_ from k'] at k <;> cases k
  ·rw [h2] at e';cases e'
   exact ⟨c,h1,z.keeps kp⟩
 ·have e:cenv.cells.lookup y=some c:=e
  rcases mem e with ⟨h1,_⟩ | ⟨_,z⟩
  ·obtain ⟨w,z⟩:=I.cell y c h1
   exact ⟨w,z.keeps kp⟩
  ·exact ⟨_,z⟩
 ·show H cenv.locals=none
  rw [hL];exact I.dB.fresh (Nat.le_refl _)
 ·have e:cenv.cells.lookup y=some c:=e
  rcases mem e with ⟨h1,_⟩ | ⟨h1,_⟩
  ·exact I.qa y c h1
  ·exact I.dB.fresh (Nat.le_of_succ_le h1)
 ·exact absurd (show p ∈ ([]:List (Addr × Obj)) ++ [] from hp) (by simp)
theorem Uo{E:Value→Shared→Prop}{D:Addr}{xs:List V}{y:V}{v:Value}{Q:Value→Shared→Prop}(I:Inv X pins σ H s)(hD:H D=some (.lst xs))(hz:xs.length < sizeLine)(r:RelV y v)
  (h:∀s',Inv X pins σ (upd H D (.lst (xs ++ [y]))) s'→Q .none s'):wpAny (model X.prog X.w) X.A (call (.builtin "list.append") [.ref D,v]) Q E s:=by
 obtain ⟨hz',its,n,ri,e⟩:=I.dB D _ hD
 have hl:=ri.length
 refine append_at (hsz:=by rw [List.size_toArray];omega) e fun h' sb ho'=>?_
 refine h {s with heap:=h'} (I.write (t':=s.toks) (by rw [hD];trivial) (.inl rfl) (fun b u hb q=>(sb.2 b hb).trans q) ⟨_,ho'⟩ ⟨by rw [List.length_append];exact hz,its ++ [v],n+1,ri.append (.cons r .nil),?_⟩)
 rw [ho']
 simp
def VF(X:Cx)(ifs:List Expr)(t:TT):Prop:=
 ∀(pins:List (Addr × Obj))(s:Shared)(σ:St)(H:Hp)(Q:Bool→Hp→Prop),Inv X pins σ H s→t σ H Q→
  wpAny (model X.prog X.w) X.A (forIn ifs true fun c r=>if r=true then do let ok ←isTrue c X.env (eval c X.env);pure (ForInStep.yield ok) else pure (ForInStep.yield r)) (TP X pins σ Q) X.xe s
def KW:TT:=fun _ H Q=>Q true H
theorem rQ:VF X [] KW:=fun _ _ _ H _ I h=>wpAny_tests_nil ⟨H,I,h⟩
end
theorem OJ{α:Type}{t:Sem α}{Q Q':α→Shared→Prop}{M:Model}{A:Around}{E:Value→Shared→Prop}{s:Shared}(h:wpAny M A t Q (fun _ _=>False) s)(hQ:∀a s,Q a s→Q' a s):wpAny M A t Q' E s:=wpAny_mono h hQ fun _ _ z=>False.elim z
theorem Ia{prog:Program}{w:World}{A:Around}{R:Result→Shared→Prop}{s:Shared}{elt target iter:Expr}{ifs:List Expr}{scope:Scope}{pos:Pos}{it acc:Value}{env:Env}(I:Nat→Shared→Prop)
  (turn:∀n s,I n s→wpAny (model prog w) A (pyNext it) (fun r s₁=>match r with
   | none=>R (.ok .next) s₁
   | some v=>wpAny (model prog w) A (letOwnedTupleGo target it v) (fun _ s₁'=>wpAny (model prog w) A (assign target env v) (fun _ s₂=>
     wpAny (model prog w) A (forIn ifs true fun c r=>if r=true then do let ok ←isTrue c env (eval c env);pure (ForInStep.yield ok) else pure (ForInStep.yield r)) (fun ok s₃=>
      if ok=true then wpAny (model prog w) A (eval elt env) (fun x s₄=>
       wpAny (model prog w) A (call (.builtin "list.append") [acc,x]) (fun _ s₅=>∃m,m < n∧I m s₅) (notedBy (model prog w) A env fun e s'=>R (.error e) s') s₄) (notedBy (model prog w) A env fun e s'=>R (.error e) s') s₃
      else ∃m,m < n∧I m s₃) (notedBy (model prog w) A env fun e s'=>R (.error e) s') s₂) (notedBy (model prog w) A env fun e s'=>R (.error e) s') s₁') (notedBy (model prog w) A env fun e s'=>R (.error e) s') s₁) (notedBy (model prog w) A env fun e s'=>R (.error e) s') s)
  (n:Nat) (h:I n s):
  codeAny (model prog w) A (.compLoop (.ListComp elt [⟨target,iter,ifs,0⟩] scope pos) 0 it acc env) R s:=by
 refine codeAny_loop rfl I (fun n s hI=>?_) n h
 show wpAny _ A ((compTurn (.ListComp elt [⟨target,iter,ifs,0⟩] scope pos) 0 it acc env).onRaise (fun x=>do noteFrame x env;theTreesLotGoes x)) _ _ s
 refine wpAny_noted ?_
 rw [compTurn_list]
 refine wpAny_bind (wpAny_standAt (wpAny_bind (wpAny_mono (turn n s hI) (fun r s₁ h₁=>?_) fun _ _ h'=>h')))
 cases r with
 | none=>exact wpAny_pure h₁
 | some v=>
  refine wpAny_bind (wpAny_mono h₁ (fun _ s₁' h₁'=>?_) fun _ _ h'=>h')
  refine wpAny_bind (wpAny_mono h₁' (fun _ s₂ h₂=>wpAny_bind (wpAny_mono h₂ (fun ok s₃ h₃=>?_) fun _ _ h'=>h')) fun _ _ h'=>h')
  cases ok with
  | false=>exact wpAny_pure ⟨rfl,h₃⟩
  | true=>
   exact wpAny_bind (wpAny_bind (wpAny_mono h₃ (fun x s₄ h₄=>wpAny_bind (wpAny_mono h₄ (fun _ s₅ h₅=>wpAny_pure (wpAny_pure ⟨rfl,h₅⟩)) fun _ _ h'=>h')) fun _ _ h'=>h'))
section
variable{X:Cx}
def Rm(wi:TI)(g:TG)(tt:TT)(te:TE)(vs:List Nat):TE:=fun σ H Q=>wi σ H fun J H1=>∀D,H1 D=none→∃W:Nat→Nat→Hp→Prop,(∃m,W 0 m (upd H1 D (.lst [])))∧∀i m H,W i m H→
 (J.stop i H∧Q (.ref D) H)∨(J.go i H∧∃Nx:Hp→Prop,(∀H',Nx H'→∃m',m' < m∧W (i+1) m' H')∧∀x H',J.Rx i H x H'→g x (wipe σ vs) H' fun σ2 H2=>wipe σ2 vs=wipe σ vs∧tt σ2 H2 fun b H3=>
  if b=true then te σ2 H3 fun y H4=>∃acc,H4 D=some (.lst acc)∧acc.length < sizeLine∧Nx (upd H4 D (.lst (acc ++ [y]))) else Nx H3)
theorem NK{pins:List (Addr × Obj)}{s:Shared}{σ:St}{H:Hp}{Q:VK}{elt tg iter:Expr}{ifs:List Expr}{scope:Scope}{own:List (Str × Nat)}{pos pos':Pos}{wi:TI}{g:TG}{tt:TT}{te:TE}{use:Option (Value→Sem Unit)}{Qf:Value→Shared→Prop}
  (hc:X.calm=true) (hN:X.N.Nodup) (I:Inv X pins σ H s) (hi:PI X tg iter wi) (ok:Lc X.N X.env.scope scope own)
  (hg:∀(s:Shared)(H:Hp)(C:Addr)(cl:List (Str × Addr))(fp:List Addr),PG (X.Hv s H scope (compEnvC scope cl C X.env) fp) tg g) (ht:∀(s:Shared)(H:Hp)(C:Addr)(cl:List (Str × Addr))(fp:List Addr),VF (X.Hv s H scope (compEnvC scope cl C X.env) fp) ifs tt)
  (he:∀(s:Shared)(H:Hp)(C:Addr)(cl:List (Str × Addr))(fp:List Addr),PE (X.Hv s H scope (compEnvC scope cl C X.env) fp) elt te) (hs:∀x,foldedSetIterable iter X.env x=pure x)
  (h:Rm wi g tt te (own.map (·.2)) σ H Q)
  (hRR:∀D C s' m H',Inv X pins σ H' s'→Q (.ref D) H'→s'.heap.Ns C m→E4 X pins H' C→compPost (model X.prog X.w) X.A X.xe use Qf (.ref D) C (.ok .next) s'):
  wpAny (model X.prog X.w) X.A (comprehension (.ListComp elt [⟨tg,iter,ifs,0⟩] scope pos) scope X.env pos' (newList []) false (eval iter X.env) use) Qf X.xe s:=by
 have hfree:∀y ∈ scope.names,y.2= .free→∃c,X.env.cells.lookup y.1=some c:=fun y hy e=>by
  rcases ok.free y hy e with k | k
  ·exact I.ok.has _ (.inl k)
  ·exact I.ok.has _ (.inr k)
 refine wpAny_comprehension_free (use:=use) rfl hs (MG hfree) ok.kind (fun y hy e=>by rw [ok.uniq y hy,e])
  (c7 (hi pins s σ H _ I h) fun xv s1 hx=>c7 hx fun itv s2 h2=>?_)
 obtain ⟨it,fp,tn,J,H2,e,I2,T,st2,f2,q⟩:=h2
 subst e
 refine wpAny_newObj_type (Kb ?_) (by show 0≤sizeLine;decide)
 generalize hD:s2.heap.objs.size=D
 have hDn:H2 D=none:=I2.dB.fresh (Nat.le_of_eq hD)
 obtain ⟨W,⟨m0,w0⟩,turn⟩:=q D hDn
 generalize hs3:({s2 with heap:=s2.heap.push {cls:= .type "list",data:= .seq ([]:List Value).toArray}}:Shared)=s3
 have I3:Inv X pins σ (upd H2 D (.lst [])) s3:=by
  rw [←hs3]
  refine I2.laid (t':=s2.toks) (fun b o e=>Heap.get?_push_of_some _ e) (Nat.le_of_eq hD) ⟨Nat.zero_le _,[],0,.nil,?_⟩
  rw [←hD]
  exact Heap.get?_push_size _ rfl
 have h3:s3.heap=s2.heap.push {cls:= .type "list",data:= .seq ([]:List Value).toArray}:=by rw [←hs3]
 have sz:∀b ∈ fp,b < s2.heap.objs.size:=fun b hb=>by
  obtain ⟨o,e,_⟩:=T.obj _ _ st2 b hb
  exact Heap.lt_size e
 have f3:∀b ∈ fp,E4 X pins (upd H2 D (.lst [])) b∧b < s3.heap.objs.size:=fun b hb=>by
  have hlt:=sz b hb
  refine ⟨⟨?_,(f2 b hb).2⟩,by rw [h3,Heap.size_push];exact Nat.lt_succ_of_lt hlt⟩
  rw [aL (by rw [←hD];exact Nat.ne_of_lt hlt)]
  exact (f2 b hb).1
 have st3:tn 0 s3.heap:=T.keep _ _ _ st2 fun b _ o e=>by rw [h3];exact Heap.get?_push_of_some _ e
 have I4:=KC I3 ok hN f3
 have pg:=hg s3 (upd H2 D (.lst [])) s3.heap.objs.size (cellsFrom (s3.heap.objs.size+1) scope.names (cD X.env.cells scope.names [])) fp
 have pt:=ht s3 (upd H2 D (.lst [])) s3.heap.objs.size (cellsFrom (s3.heap.objs.size+1) scope.names (cD X.env.cells scope.names [])) fp
 have pe:=he s3 (upd H2 D (.lst [])) s3.heap.objs.size (cellsFrom (s3.heap.objs.size+1) scope.names (cD X.env.cells scope.names [])) fp
 show codeAny _ _ (.compStart (.ListComp elt [⟨tg,iter,ifs,0⟩] scope pos) 0 (.ref it) (.ref D) (compEnvC scope (cellsFrom (s3.heap.objs.size+1) scope.names (cD X.env.cells scope.names [])) s3.heap.objs.size X.env)) (compPost (model X.prog X.w) X.A X.xe use Qf (.ref D) s3.heap.objs.size) {s3 with heap:=pushCells (s3.heap.push {cls:= .type "dict",data:= .dict #[]}) scope.names}
 have nfp:∀b ∈ fp,(upd H2 D (.lst [])) b=none:=fun b hb=>(f3 b hb).1.1
 generalize hce:compEnvC scope (cellsFrom (s3.heap.objs.size+1) scope.names (cD X.env.cells scope.names [])) s3.heap.objs.size X.env=ce at I4 pg pt pe ⊢
 have cL:ce.locals=s3.heap.objs.size:=by subst hce;rfl
 generalize hH3:upd H2 D (.lst [])=H3 at I3 I4 pg pt pe w0 nfp f3
 generalize hs4:({s3 with heap:=pushCells (s3.heap.push {cls:= .type "dict",data:= .dict #[]}) scope.names}:Shared)=s4 at I4 ⊢
 have st4:tn 0 s4.heap:=T.keep _ _ _ st3 fun b _ o e=>by rw [←hs4];exact pushCells_keeps _ _ _ _ (Heap.get?_push_of_some _ e)
 have stat:∀{σ':St}{H':Hp}{s':Shared},Inv (X.Hv s3 H3 scope ce fp) [] σ' H' s'→(∀b ∈ fp,H' b=none)→∀b ∈ fp,E4 (X.Hv s3 H3 scope ce fp) [] H' b:=fun {σ' H' s'} I' hn b hb=>
  ⟨hn b hb,(I'.ok.Vz b hb).1,I'.ok.Qu b hb,.inl hb,fun x c e=>(I'.ok.Vz b hb).2 x c e,fun p hp=>absurd (show p ∈ ([]:List (Addr × Obj)) ++ [] from hp) (by simp)⟩
 have loop:codeAny (model X.prog X.w) X.A (.compLoop (.ListComp elt [⟨tg,iter,ifs,0⟩] scope pos) 0 (.ref it) (.ref D) ce) (compPost (model X.prog X.w) X.A X.xe use Qf (.ref D) s3.heap.objs.size) s4:=by
  refine Ia (fun n s'=>∃i H',Inv (X.Hv s3 H3 scope ce fp) [] (wipe σ (own.map (·.2))) H' s'∧tn i s'.heap∧(∀b ∈ fp,H' b=none)∧W i n H') ?_ m0 ⟨0,H3,I4,st4,nfp,w0⟩
  rintro n s5 ⟨i,H5,I5,st5,n5,w5⟩
  rcases turn i n H5 w5 with ⟨stop,qq⟩ | ⟨go,Nx,hNx,step⟩
  ·have td:=T.done (X.Hv s3 H3 scope ce fp) rfl rfl rfl hc i [] s5 _ H5 (fun _ _=>False) I5 (stat I5 n5) st5 stop
   refine OJ td fun r s6 ⟨hr,I6⟩=>?_
   subst hr
   have I7:Inv X pins σ H5 s6:=I3.US (ch:=fp) I6.os I6.base I6.dB I6.bare fun b hb=>⟨(f3 b hb).1.2.2.2.1,(f3 b hb).1.2.1,(f3 b hb).1.2.2.2.2.1,(f3 b hb).1.2.2.2.2.2⟩
   have nC:H5 s3.heap.objs.size=none:=by
    have z:H5 ce.locals=none:=I6.free
    rw [cL] at z
    exact z
   obtain ⟨m,hn,_⟩:=I6.loc
   have hn:s6.heap.Ns ce.locals m:=hn
   rw [cL] at hn
   exact hRR D s3.heap.objs.size s6 m H5 I7 qq hn (I3.RL (Nat.le_refl _) nC)
  ·have ti:=T.item (X.Hv s3 H3 scope ce fp) rfl rfl rfl hc i [] s5 _ H5 (fun _ _=>False) I5 (stat I5 n5) st5 go
   refine OJ ti fun r s6 ⟨u,hr,h6⟩=>?_
   subst hr
   refine OJ h6 fun _ s7 ⟨x,H7,I7,r7,y7,st7,n7⟩=>?_
   have I7':=I7.pinned (stat I7 n7) (T.obj _ _ st7)
   refine OJ (pg _ s7 _ H7 x u _ I7' r7 (step x H7 y7)) fun _ s8 ⟨σ8,H8,I8,hw8,q8⟩=>?_
   refine OJ (pt _ s8 σ8 H8 _ I8 q8) fun b s9 ⟨H9,I9,q9⟩=>?_
   have fin:∀{s':Shared}{H':Hp},Inv (X.Hv s3 H3 scope ce fp) ([] ++ Dh fp s7.heap) σ8 H' s'→Nx H'→∃m,m < n∧∃i H',Inv (X.Hv s3 H3 scope ce fp) [] (wipe σ (own.map (·.2))) H' s'∧tn i s'.heap∧(∀b ∈ fp,H' b=none)∧W i m H':=fun {s' H'} I' nx=>by
    obtain ⟨m',hm,w'⟩:=hNx H' nx
    have pin':∀b ∈ fp,∀o,s7.heap.get? b=some o→s'.heap.get? b=some o∧H' b=none:=fun b hb o e=>
     let z:=I'.pin (b,o) (List.mem_append_right _ (List.mem_append_right _ (wW hb e)))
     ⟨z.1,z.2.1⟩
    have hl:(wipe σ (own.map (·.2))).length=σ8.length:=by rw [←hw8,tG]
    refine ⟨m',hm,i+1,H',(I'.yT (pins:=[])).weak hl (fun j v e=>?_),T.keep _ _ _ st7 fun b hb o e=>(pin' b hb o e).1,fun b hb=>?_,w'⟩
    ·rw [←hw8] at e
     exact (zC e).1
    ·obtain ⟨o,e,_⟩:=T.obj _ _ st7 b hb
     exact (pin' b hb o e).2
   cases b with
   | false=>
    simp only [Bool.false_eq_true,if_false] at q9 ⊢
    exact fin I9 q9
   | true=>
    simp only [if_true] at q9 ⊢
    refine OJ (pe _ s9 σ8 H9 _ I9 q9) fun z s10 ⟨yv,H10,I10,r10,acc,hD10,hz10,nx⟩=>?_
    exact Uo (X:=X.Hv s3 H3 scope ce fp) I10 hD10 hz10 r10 fun s11 I11=>fin I11 nx
 exact codeAny_compStart_list loop (T.self X.A 0 _ _ _ st4 loop)
theorem GF{elt tg iter:Expr}{ifs:List Expr}{scope:Scope}{own:List (Str × Nat)}{pos:Pos}{wi:TI}{g:TG}{tt:TT}{te:TE}(hc:X.calm=true)(hN:X.N.Nodup)(hi:PI X tg iter wi)(ok:Lc X.N X.env.scope scope own)
  (hg:∀(s:Shared)(H:Hp)(C:Addr)(cl:List (Str × Addr))(fp:List Addr),PG (X.Hv s H scope (compEnvC scope cl C X.env) fp) tg g) (ht:∀(s:Shared)(H:Hp)(C:Addr)(cl:List (Str × Addr))(fp:List Addr),VF (X.Hv s H scope (compEnvC scope cl C X.env) fp) ifs tt)
  (he:∀(s:Shared)(H:Hp)(C:Addr)(cl:List (Str × Addr))(fp:List Addr),PE (X.Hv s H scope (compEnvC scope cl C X.env) fp) elt te) (hs:∀x,foldedSetIterable iter X.env x=pure x:=by intro _;rfl):
  PE X (.ListComp elt [⟨tg,iter,ifs,0⟩] scope pos) (Rm wi g tt te (own.map (·.2))):=by
 intro pins s σ H Q I h
 rw [eval_ListComp]
 refine NK hc hN I hi ok hg ht he hs h fun D C s' m H' I' q hn f=>⟨m,hn,fun h'' sb=>?_⟩
 obtain ⟨f0,f1,f2,f3,f4,f5⟩:=f
 exact ⟨.ref D,H',I'.turned (t':=s'.toks) (fun b o hb e=>(sb.2 b hb).trans e) f0 f1 f3 f4 f5,rfl,q⟩
theorem QF{i:Nat}{y:Str}{py:Pos}{elt tg iter:Expr}{ifs:List Expr}{scope:Scope}{own:List (Str × Nat)}{pos spos:Pos}{wi:TI}{g:TG}{tt:TT}{te:TE}(hc:X.calm=true)(hN:X.N.Nodup)(hy:X.N[i]? = some y)(hyl:X.env.scope.names.lookup y=some .local)
  (hsw:swapsWith (.ListComp elt [⟨tg,iter,ifs,0⟩] scope pos) (some (.Name y py)) spos.line X.env=pure true) (hi:PI X tg iter wi) (ok:Lc X.N X.env.scope scope own)
  (hg:∀(s:Shared)(H:Hp)(C:Addr)(cl:List (Str × Addr))(fp:List Addr),PG (X.Hv s H scope (compEnvC scope cl C X.env) fp) tg g) (ht:∀(s:Shared)(H:Hp)(C:Addr)(cl:List (Str × Addr))(fp:List Addr),VF (X.Hv s H scope (compEnvC scope cl C X.env) fp) ifs tt)
  (he:∀(s:Shared)(H:Hp)(C:Addr)(cl:List (Str × Addr))(fp:List Addr),PE (X.Hv s H scope (compEnvC scope cl C X.env) fp) elt te) (hs:∀x,foldedSetIterable iter X.env x=pure x:=by intro _;rfl):
  PS X (.Assign [.Name y py] (.ListComp elt [⟨tg,iter,ifs,0⟩] scope pos) spos) (bQ (Rm wi g tt te (own.map (·.2))) (a9 i)):=by
 intro pins s σ H D I h
 rw [exec_Assign_Name_used _ _ _ _ hsw]
 refine wpAny_bind (wpAny_standAt (wpAny_bind ?_))
 show wpAny _ X.A (do let _ ←comprehension (.ListComp elt [⟨tg,iter,ifs,0⟩] scope pos) scope X.env (firstIterPos [⟨tg,iter,ifs,0⟩] pos) (newList []) false (eval iter X.env) (some (assign (.Name y py) X.env))) _ _ s
 have h:Rm wi g tt te (own.map (·.2)) σ H (fun x H1=>a9 i x σ H1 D.nx):=h
 refine wpAny_bind (c7 (NK (Qf:=fun _ s'=>SP X pins D .next s') hc hN I hi ok hg ht he hs h fun L C s' m H' I' q hn f=>?_) fun _ s' hq=>wpAny_pure (wpAny_pure hq))
 show wpAny _ _ (assign (.Name y py) X.env (.ref L)) _ _ _
 refine wpAny_assign_Name (Gq (v:=V.ref L) I' hN hy (.inl hyl) rfl (fun s2 I2 ⟨a,sb,ha⟩=>?_) (.inr hyl))
 obtain ⟨f0,f1,f2,f3,f4,f5⟩:=f
 have haC:C ≠ a:=by
  rcases ha with z | z
  ·rw [z];exact f1
  ·exact fun e=>f4 y a z e.symm
 refine ⟨m,hn.sameBut sb haC,fun h3 sb3=>?_⟩
 exact ⟨_,H',I2.turned (t':=s2.toks) (fun b o hb e=>(sb3.2 b hb).trans e) f0 f1 f3 f4 f5,q⟩
theorem RK{elt:Expr}{gs:List Comprehension}{scope:Scope}{pos py:Pos}{y:Str}{l:Nat}{env:Env}(hk:env.scope.kind= .function)(hy:env.scope.names.lookup y=some .local)(hl:(py.line == pos.line)=true)
  (ha:(scope.names.any fun (n,k)=>n == y && (k == .local || k == .cell))=false):swapsWith (.ListComp elt gs scope pos) (some (.Name y py)) l env=pure true:=by
 have ky:env.kindOf y=some .local:=hy
 have hb:env.blockKind= .function:=by unfold Env.blockKind;rw [hk];rfl
 unfold swapsWith
 simp only [hb,ky,ha,Expr.pos,hl]
 rfl
end
theorem EL{lo:Int}{n:Nat}{g:TG}{tt:TT}{te:TE}{vs:List Nat}{σ:St}{H1:Hp}{D:Addr}{Qd:Hp→Prop}(Pv:Nat→Hp→Prop)(h0:Pv 0 (upd H1 D (.lst [])))
  (hs:∀i H,i < n→Pv i H→g (.int (lo+i)) (wipe σ vs) H fun σ2 H2=>wipe σ2 vs=wipe σ vs∧tt σ2 H2 fun b H3=>
   if b=true then te σ2 H3 fun y H4=>∃acc,H4 D=some (.lst acc)∧acc.length < sizeLine∧Pv (i+1) (upd H4 D (.lst (acc ++ [y]))) else Pv (i+1) H3) (hd:∀H,Pv n H→Qd H):
  ∃W:Nat→Nat→Hp→Prop,(∃m,W 0 m (upd H1 D (.lst [])))∧∀i m H,W i m H→
   ((Rz lo n).stop i H∧Qd H)∨((Rz lo n).go i H∧∃Nx:Hp→Prop,(∀H',Nx H'→∃m',m' < m∧W (i+1) m' H')∧∀x H',(Rz lo n).Rx i H x H'→g x (wipe σ vs) H' fun σ2 H2=>wipe σ2 vs=wipe σ vs∧tt σ2 H2 fun b H3=>
    if b=true then te σ2 H3 fun y H4=>∃acc,H4 D=some (.lst acc)∧acc.length < sizeLine∧Nx (upd H4 D (.lst (acc ++ [y]))) else Nx H3):=by
 refine ⟨fun i m H=>m=n - i∧i≤n∧Pv i H,⟨n,by simp,Nat.zero_le _,h0⟩,?_⟩
 rintro i m H ⟨rfl,hi,p⟩
 by_cases hlt:i < n
 ·refine .inr ⟨hlt,Pv (i+1),fun H' p'=>⟨n - (i+1),by omega,rfl,hlt,p'⟩,fun x H' y=>?_⟩
  obtain ⟨e,y⟩:=y
  subst e y
  exact hs i _ hlt p
 ·have e:i=n:=by omega
  subst e
  exact .inl ⟨Nat.le_refl _,hd H p⟩
theorem M3{K:PySem.W.Frag}{a:Addr}{xs:List V}{g:TG}{tt:TT}{te:TE}{vs:List Nat}{σ:St}{H1:Hp}{D:Addr}{Qd:Hp→Prop}(Pv:Nat→Hp→Prop)(h0:Pv 0 (upd H1 D (.lst [])))(hl:∀i H,i≤xs.length→Pv i H→cb K H a xs)
  (hs:∀i x H,xs[i]? = some x→Pv i H→g x (wipe σ vs) H fun σ2 H2=>wipe σ2 vs=wipe σ vs∧tt σ2 H2 fun b H3=>
   if b=true then te σ2 H3 fun y H4=>∃acc,H4 D=some (.lst acc)∧acc.length < sizeLine∧Pv (i+1) (upd H4 D (.lst (acc ++ [y]))) else Pv (i+1) H3) (hd:∀H,Pv xs.length H→Qd H):
  ∃W:Nat→Nat→Hp→Prop,(∃m,W 0 m (upd H1 D (.lst [])))∧∀i m H,W i m H→
   ((SX K a).stop i H∧Qd H)∨((SX K a).go i H∧∃Nx:Hp→Prop,(∀H',Nx H'→∃m',m' < m∧W (i+1) m' H')∧∀x H',(SX K a).Rx i H x H'→g x (wipe σ vs) H' fun σ2 H2=>wipe σ2 vs=wipe σ vs∧tt σ2 H2 fun b H3=>
    if b=true then te σ2 H3 fun y H4=>∃acc,H4 D=some (.lst acc)∧acc.length < sizeLine∧Nx (upd H4 D (.lst (acc ++ [y]))) else Nx H3):=by
 refine ⟨fun i m H=>m=xs.length - i∧i≤xs.length∧Pv i H,⟨xs.length,by simp,Nat.zero_le _,h0⟩,?_⟩
 rintro i m H ⟨rfl,hi,p⟩
 have q:=hl i H hi p
 by_cases hlt:i < xs.length
 ·refine .inr ⟨⟨xs,xs[i],q,by simp [hlt]⟩,Pv (i+1),fun H' p'=>⟨xs.length - (i+1),by omega,rfl,hlt,p'⟩,fun x H' y=>?_⟩
  obtain ⟨e,y⟩:=y
  subst e
  exact hs i x _ (y xs q) p
 ·have e:i=xs.length:=by omega
  subst e
  exact .inl ⟨⟨xs,q,Nat.le_refl _⟩,hd H p⟩
def UJ(N:List Str)(sc scope:Scope)(own:List (Str × Nat)):Bool:=
 (match scope.kind with | .function=>true | _=>false) && (scope.names.all fun y=>decide (scope.names.lookup y.1=some y.2)) && (own.all fun p=>decide (N[p.2]? = some p.1)) &&
  (scope.names.all fun y=>match y.2 with
   | .free=>(match sc.names.lookup y.1 with | some .cell=>true | some .free=>true | _=>false)
   | .local=>decide (y.1 ∈ own.map (·.1)) || decide (y.1 ∉ N)
   | .cell=>decide (y.1 ∈ own.map (·.1)) || decide (y.1 ∉ N)
   | _=>true)
theorem mV{N:List Str}{sc scope:Scope}{own:List (Str × Nat)}(h:UJ N sc scope own=true):Lc N sc scope own:=by
 unfold UJ at h
 simp only [Bool.and_eq_true,List.all_eq_true,decide_eq_true_eq] at h
 obtain ⟨⟨⟨h1,h2⟩,h3⟩,h4⟩:=h
 refine ⟨?_,h2,h3,fun y hy e=>?_,fun y hy e=>?_⟩
 ·split at h1
  ·assumption
  ·cases h1
 ·have q:=h4 y hy
  simp only [e] at q
  split at q <;> first | exact .inl (by assumption) | exact .inr (by assumption) | cases q
 ·have q:=h4 y hy
  rcases e with e | e <;> (simp only [e,Bool.or_eq_true,decide_eq_true_eq] at q;exact q)
end L2
namespace L2
open PySem PySem.Spec PyProof.Rows
section
variable{κ:Type} [DecidableEq κ]
def bS(aB:List (κ × V))(k:κ):Option V:=(aB.find? fun kv=>decide (kv.1=k)).map (·.2)
def putK(aB:List (κ × V))(k:κ)(v:V):List (κ × V):=
 if (aB.any fun kv=>decide (kv.1=k))=true then aB.map (fun kv=>if kv.1=k then (kv.1,v) else kv) else aB ++ [(k,v)]
theorem eB{p:κ × V}{r:List (κ × V)}{k:κ}(e:p.1=k):bS (p::r) k=some p.2:=by simp [bS,List.find?_cons,e]
theorem eC{p:κ × V}{r:List (κ × V)}{k:κ}(e:¬p.1=k):bS (p::r) k=bS r k:=by simp [bS,List.find?_cons,e]
theorem kx(k:κ):∀aB:List (κ × V),(aB.any fun kv=>decide (kv.1=k))= (bS aB k).isSome
 | []=>rfl
 | p::r=>by
  rw [List.any_cons]
  by_cases e:p.1=k
  ·simp only [eB e,decide_eq_true e,Bool.true_or,Option.isSome_some]
  ·rw [eC e,decide_eq_false e,Bool.false_or];exact kx k r
theorem Kr(k j:κ)(y:V):∀aB:List (κ × V),bS (aB.map fun kv=>if kv.1=k then (kv.1,y) else kv) j= (bS aB j).map fun x=>if j=k then y else x
 | []=>rfl
 | p::r=>by
  have ih:=Kr k j y r
  rw [List.map_cons]
  by_cases h:p.1=k
  ·rw [if_pos h]
   by_cases e:p.1=j
   ·rw [eB (p:=(p.1,y)) e,eB e,Option.map_some,if_pos (e.symm.trans h)]
   ·rw [eC (p:=(p.1,y)) e,eC e,ih]
  ·rw [if_neg h]
   by_cases e:p.1=j
   ·rw [eB (p:=p) e,eB e,Option.map_some,if_neg (fun z=>h (e.trans z))]
   ·rw [eC (p:=p) e,eC e,ih]
theorem GG(k j:κ)(y:V):∀aB:List (κ × V),bS aB k=none→bS (aB ++ [(k,y)]) j=if j=k then some y else bS aB j
 | [],_=>by
  by_cases e:k=j
  ·rw [if_pos e.symm];exact eB (p:=(k,y)) e
  ·rw [if_neg (fun z=>e z.symm)];exact eC (p:=(k,y)) e
 | p::r,hn=>by
  rw [List.cons_append]
  have hk:¬p.1=k:=fun z=>by rw [eB z] at hn;cases hn
  rw [eC hk] at hn
  have ih:=GG k j y r hn
  by_cases e:p.1=j
  ·rw [eB e,eB e,if_neg (fun z=>hk (e.trans z))]
  ·rw [eC e,eC e,ih]
theorem kH(aB:List (κ × V))(k j:κ)(y:V):bS (putK aB k y) j=if j=k then some y else bS aB j:=by
 unfold putK
 by_cases a:(aB.any fun kv=>decide (kv.1=k))=true
 ·rw [if_pos a,Kr]
  rw [kx] at a
  by_cases e:j=k
  ·obtain ⟨x,hx⟩:=Option.isSome_iff_exists.mp a
   rw [if_pos e,e,hx,Option.map_some,if_pos rfl]
  ·rw [if_neg e]
   cases bS aB j with
   | none=>rfl
   | some x=>rw [Option.map_some,if_neg e]
 ·rw [if_neg a]
  refine GG k j y aB ?_
  rw [kx] at a
  cases q:bS aB k with
  | none=>rfl
  | some x=>rw [q] at a;exact (a rfl).elim
theorem tZ(aB:List (κ × V))(k:κ)(v:V):(putK aB k v).length≤aB.length+1:=by
 unfold putK
 split
 ·rw [List.length_map];omega
 ·rw [List.length_append,List.length_cons,List.length_nil];omega
theorem CT{aB:List (κ × V)}{k:κ}(v:V)(h:bS aB k=none):putK aB k v=aB ++ [(k,v)]:=by
 unfold putK
 rw [kx,h]
 exact if_neg (by decide)
theorem sO.AU{o:Option V}{u:Option Value}(r:sO o u):o.isSome=u.isSome:=by
 cases o with
 | none=>cases u with
  | none=>rfl
  | some _=>exact (show False from r).elim
 | some _=>cases u with
  | none=>exact (show False from r).elim
  | some _=>rfl
theorem sO.getD{o:Option V}{u:Option Value}{d:V}{d':Value}(r:sO o u)(rd:RelV d d'):RelV (o.getD d) (u.getD d'):=by
 cases o with
 | none=>cases u with
  | none=>exact rd
  | some _=>exact (show False from r).elim
 | some _=>cases u with
  | none=>exact (show False from r).elim
  | some _=>exact r
theorem KV.val{aB:List (κ × V)}{vs:List (κ × Value)}(r:KV aB vs)(k:κ):sO (bS aB k) (valueAt vs k):=by
 unfold KV at r
 induction r with
 | nil=>exact True.intro
 | @cons p q ps qs h t ih=>
  obtain ⟨h1,h2⟩:=h
  by_cases e:p.1=k
  ·have e':q.1=k:=h1.symm.trans e
   have b:valueAt (q::qs) k=some q.2:=by simp [valueAt,List.find?_cons,e']
   rw [eB e,b];exact h2
  ·have e':¬q.1=k:=fun z=>e (h1.trans z)
   have b:valueAt (q::qs) k=valueAt qs k:=by simp [valueAt,List.find?_cons,e']
   rw [eC e,b];exact ih
theorem KV.any{aB:List (κ × V)}{vs:List (κ × Value)}(r:KV aB vs)(k:κ):(aB.any fun kv=>decide (kv.1=k))=vs.any fun kv=>decide (kv.1=k):=by
 unfold KV at r
 induction r with
 | nil=>rfl
 | cons h t ih=>rw [List.any_cons,List.any_cons,ih,h.1]
theorem KV.TZ{aB:List (κ × V)}{vs:List (κ × Value)}(r:KV aB vs)(k:κ){y:V}{u:Value}(ry:RelV y u):
  KV (aB.map fun kv=>if kv.1=k then (kv.1,y) else kv) (vs.map fun kv=>if kv.1=k then (kv.1,u) else kv):=by
 unfold KV at r ⊢
 induction r with
 | nil=>exact .nil
 | @cons p q ps qs h t ih=>
  rw [List.map_cons,List.map_cons]
  refine .cons ?_ ih
  obtain ⟨h1,h2⟩:=h
  by_cases e:p.1=k
  ·rw [if_pos e,if_pos (h1.symm.trans e)];exact ⟨h1,ry⟩
  ·rw [if_neg e,if_neg (fun z=>e (h1.trans z))];exact ⟨h1,h2⟩
theorem KV.put{aB:List (κ × V)}{vs:List (κ × Value)}(r:KV aB vs)(k:κ){y:V}{u:Value}(ry:RelV y u):KV (putK aB k y) (stored vs k u):=by
 unfold putK stored
 rw [r.any k]
 by_cases e:(vs.any fun kv=>decide (kv.1=k))=true
 ·rw [if_pos e,if_pos e];exact r.TZ k ry
 ·rw [if_neg e,if_neg e];exact Paired.snoc r ⟨rfl,ry⟩
theorem KV.length{aB:List (κ × V)}{vs:List (κ × Value)}(r:KV aB vs):aB.length=vs.length:=Paired.length r
end
theorem GJ{P:Program}{w:World}{k:Key}{u:Value}(r:RelV (kV k) u):(cI P w).is k u=true:=by
 cases k with
 | inl i=>obtain ⟨t,e⟩:=(show ∃t,u=Value.int i t from r);subst e;exact dg P w i t
 | inr x=>obtain ⟨t,e⟩:=(show ∃t,u=Value.str x t from r);subst e;exact JX P w x t
theorem Gi{P:Program}{w:World}:∀{ks:List Key}{us:List Value},Vals (ks.map kV) us→ItemsAre (cI P w) ks us
 | [],_,r=>by rw [List.map_nil] at r;cases r;exact .nil
 | k::ks,_,r=>by
  rw [List.map_cons] at r
  cases r with
  | cons h t=>exact .cons (GJ h) (Gi t)
abbrev KT(H:Hp):List (List Key × V)→List (List Key × Addr × Value)→Prop:=Paired fun p q=>p.1=q.1∧H q.2.1=some (.tup (p.1.map kV))∧RelV p.2 q.2.2
theorem KT.val{H:Hp}{aB:List (List Key × V)}{xs:List (List Key × Addr × Value)}(r:KT H aB xs)(k:List Key):sO (bS aB k) ((atKey xs k).map (·.2)):=by
 induction r with
 | nil=>exact True.intro
 | @cons p q ps qs h t ih=>
  obtain ⟨h1,_,h2⟩:=h
  by_cases e:p.1=k
  ·have e':q.1=k:=h1.symm.trans e
   have b:atKey (q::qs) k=some q.2:=by simp [atKey,List.find?_cons,e']
   rw [eB e,b];exact h2
  ·have e':¬q.1=k:=fun z=>e (h1.trans z)
   have b:atKey (q::qs) k=atKey qs k:=by simp [atKey,List.find?_cons,e']
   rw [eC e,b];exact ih
theorem KT.TZ{H:Hp}{aB:List (List Key × V)}{xs:List (List Key × Addr × Value)}(r:KT H aB xs)(k:List Key){y:V}{u:Value}(ry:RelV y u):
  KT H (aB.map fun kv=>if kv.1=k then (kv.1,y) else kv) (xs.map (putAt k u)):=by
 induction r with
 | nil=>exact .nil
 | @cons p q ps qs h t ih=>
  rw [List.map_cons,List.map_cons]
  refine .cons ?_ ih
  obtain ⟨h1,h2,h3⟩:=h
  unfold putAt
  by_cases e:p.1=k
  ·rw [if_pos e,if_pos (h1.symm.trans e)];exact ⟨h1,h2,ry⟩
  ·rw [if_neg e,if_neg (fun z=>e (h1.trans z))];exact ⟨h1,h2,h3⟩
theorem KT.put{H:Hp}{aB:List (List Key × V)}{xs:List (List Key × Addr × Value)}(r:KT H aB xs)(k:List Key){b:Addr}{y:V}{u:Value}(hb:H b=some (.tup (k.map kV)))(ry:RelV y u):
  KT H (putK aB k y) (storedH xs k b u):=by
 have e:(aB.any fun kv=>decide (kv.1=k))= (atKey xs k).isSome:=by
  rw [kx,(r.val k).AU,Option.isSome_map]
 unfold putK storedH
 rw [e]
 by_cases q:(atKey xs k).isSome=true
 ·rw [if_pos q,if_pos q];exact r.TZ k ry
 ·rw [if_neg q,if_neg q];exact Paired.snoc r ⟨rfl,hb,ry⟩
theorem KT.keeps{H H':Hp}{aB:List (List Key × V)}{xs:List (List Key × Addr × Value)}(r:KT H aB xs)(ht:∀b ys,H b=some (.tup ys)→H' b=some (.tup ys)):KT H' aB xs:=
 Paired.RB r fun _ _ z=>⟨z.1,ht _ _ z.2.1,z.2.2⟩
section
variable{P:Program}{w:World}{H:Hp}{h:Heap}{a:Addr}
theorem SK{u:HO}(ok:xB P w H h)(e:Rd H a u):gD P w H h a u:=e.ok ok
theorem Ge{aB:List (Key × V)}(ok:xB P w H h)(e:Rd H a (.dK aB)):aB.length≤sizeLine∧(a == sysModules)=false∧∃vs,KV aB vs∧h.DictOf (cI P w) a vs:=
 show gD P w H h a (.dK aB) from SK ok e
theorem Py{aB:List (Key × V)}(ok:xB P w H h)(e:H a=some (.dK aB)):aB.length≤sizeLine∧(a == sysModules)=false∧∃vs,KV aB vs∧h.DictOf (cI P w) a vs:=Ge ok (.inl e)
theorem gG{ks:List Key}(ok:xB P w H h)(e:H a=some (.tup (ks.map kV))):(tupleKind (cI P w)).is h ks a:=by
 obtain ⟨_,its,r,o,h1,h2,n,h3⟩:=(show gD P w H h a (.tup (ks.map kV)) from ok a _ e)
 exact ⟨o,its.toArray,n,h1,h2,h3,by simpa using Gi r⟩
theorem F7{aB:List (List Key × V)}(ok:xB P w H h)(e:Rd H a (.dT aB)):aB.length≤sizeLine∧(a == sysModules)=false∧
  ∃xs,KT H aB xs∧h.DictOfH (tupleKind (cI P w)) a xs:=by
 obtain ⟨z,y,xs,r,o,es,ep,h1,h2,h3,h4,h5⟩:=(show gD P w H h a (.dT aB) from SK ok e)
 refine ⟨z,y,xs,r,o,es,ep,h1,h2,h3,h4,fun x hx=>?_,h5⟩
 have all:∀{l:List (List Key × V)}{m:List (List Key × Addr × Value)},KT H l m→∀x ∈ m,(tupleKind (cI P w)).is h x.1 x.2.1:=by
  intro l m q
  induction q with
  | nil=>intro x hx;exact nomatch hx
  | @cons p q ps qs hq t ih=>
   intro x hx
   rcases List.mem_cons.mp hx with e | hx
   ·subst e
    exact gG ok (by rw [←hq.1];exact hq.2.1)
   ·exact ih x hx
 exact all r x hx
theorem UQ{aB:List (List Key × V)}(ok:xB P w H h)(e:H a=some (.dT aB)):aB.length≤sizeLine∧(a == sysModules)=false∧
  ∃xs,KT H aB xs∧h.DictOfH (tupleKind (cI P w)) a xs:=F7 ok (.inl e)
end
def gE(H:Hp)(a:Addr)(y:V)(r:Option V):Prop:=
 (∃aB k,Rd H a (.dK aB)∧y=kV k∧r=bS aB k)∨∃aB k b,Rd H a (.dT aB)∧y= .ref b∧H b=some (.tup (k.map kV))∧r=bS aB k
def Of(H:Hp)(a:Addr)(y v:V)(H':Hp):Prop:=
 (∃aB k,H a=some (.dK aB)∧y=kV k∧aB.length < sizeLine∧H'=upd H a (.dK (putK aB k v)))∨
 ∃aB k b,H a=some (.dT aB)∧y= .ref b∧H b=some (.tup (k.map kV))∧aB.length < sizeLine∧H'=upd H a (.dT (putK aB k v))
theorem gE.k{H:Hp}{a:Addr}{aB:List (Key × V)}{k:Key}(e:H a=some (.dK aB)):gE H a (kV k) (bS aB k):= .inl ⟨aB,k,.inl e,rfl,rfl⟩
theorem Of.k{H:Hp}{a:Addr}{aB:List (Key × V)}{k:Key}{v:V}(e:H a=some (.dK aB))(hl:aB.length < sizeLine):Of H a (kV k) v (upd H a (.dK (putK aB k v))):= .inl ⟨aB,k,e,rfl,hl,rfl⟩
section
variable{X:Cx}{pins:List (Addr × Obj)}{σ:St}{H:Hp}{s:Shared}{a:Addr}{y v:V}{u r:Value}{o:Option V}{A:Around}{E:Value→Shared→Prop}
theorem Inv.big(I:Inv X pins σ H s):sysModules < s.heap.objs.size:=by
 have h:mainGlobals < s.heap.objs.size:=(I.mod.glob.keeps I.bk).lt
 exact Nat.lt_trans (by decide) h
theorem Ow{Q:Value→Shared→Prop}(hu:A.units+1 < cLine)(I:Inv X pins σ H s)(g:gE H a y (some v))(ry:RelV y u)(h:∀w' s',Inv X pins σ H s'→RelV v w'→Q w' s'):
  wpAny (model X.prog X.w) A (getItem (.ref a) u) Q E s:=by
 rcases g with ⟨aB,k,e,ey,l⟩ | ⟨aB,k,b,e,ey,eb,l⟩
 ·subst ey
  obtain ⟨z,hd,vs,rel,dd⟩:=Ge I.dB e
  obtain ⟨w',hw,rw'⟩:=sO.some_of (v:=v) (o:=valueAt vs k) (by rw [l];exact rel.val k)
  exact wpAny_getItem_of (GJ ry) dd.mapOf hw (h w' _ (I.tok _) rw')
 ·subst ey
  cases (show u=Value.ref b from ry)
  obtain ⟨z,hd,xs,rel,dd⟩:=F7 I.dB e
  obtain ⟨w',hw,rw'⟩:=sO.some_of (v:=v) (o:=(atKey xs k).map (·.2)) (by rw [l];exact rel.val k)
  obtain ⟨p,hp,hp2⟩:=Option.map_eq_some_iff.mp hw
  refine wpAny_getItem_heap (tupleKind_room_in1 hu) (gG I.dB eb) dd hp ?_
  rw [hp2]
  exact h w' _ (I.tok _) rw'
theorem Wg{Q:Value→Shared→Prop}(hu:A.units+1 < cLine)(I:Inv X pins σ H s)(g:gE H a y o)(ry:RelV y u)(h:∀s',Inv X pins σ H s'→Q (.bool o.isSome) s'):
  wpAny (model X.prog X.w) A (compareOp .In u (.ref a)) Q E s:=by
 rcases g with ⟨aB,k,e,ey,l⟩ | ⟨aB,k,b,e,ey,eb,l⟩
 ·subst ey
  obtain ⟨z,hd,vs,rel,dd⟩:=Ge I.dB e
  refine wpAny_in_of (GJ ry) hd dd.mapOf ?_
  rw [←(rel.val k).AU,←l]
  exact h _ (I.tok _)
 ·subst ey
  cases (show u=Value.ref b from ry)
  obtain ⟨z,hd,xs,rel,dd⟩:=F7 I.dB e
  refine wpAny_in_heap (tupleKind_room_in1 hu) (gG I.dB eb) hd dd ?_
  have q:=(rel.val k).AU
  rw [Option.isSome_map] at q
  rw [←q,←l]
  exact h _ (I.tok _)
theorem HA{h':Heap}{t':Nat}{ob:HO}(I:Inv X pins σ H s)(mu:S0 (H a))(hs:Heap.SameBut a s.heap h')(he:∃q,h'.get? a=some q)(new:gD X.prog X.w (upd H a ob) h' a ob):
  Inv X pins σ (upd H a ob) {s with heap:=h',toks:=t'}:=
 I.write (x:=a) (e:=a) mu (.inl rfl) (fun b q hb z=>(hs.2 b hb).trans z) he new
theorem Qt{P:Program}{w:World}{H':Hp}{h':Heap}{aB:List (Key × V)}{vs:List (Key × Value)}(z:aB.length≤sizeLine)(hd:(a == sysModules)=false)(rel:KV aB vs)(dd:h'.DictOf (cI P w) a vs):
  gD P w H' h' a (.dK aB):=⟨z,hd,vs,rel,dd⟩
theorem Ov{H':Hp}{Q:Unit→Shared→Prop}(hu:A.units+1 < cLine)(I:Inv X pins σ H s)(g:Of H a y v H')(ry:RelV y u)(rv:RelV v r)(h:∀s',Inv X pins σ H' s'→Q () s'):
  wpAny (model X.prog X.w) A (setItem (.ref a) u r) Q E s:=by
 rcases g with ⟨aB,k,e,ey,l,eH⟩ | ⟨aB,k,b,e,ey,eb,l,eH⟩
 ·subst ey eH
  obtain ⟨z,hd,vs,rel,dd⟩:=Py I.dB e
  have hz:vs.length≤sizeLine:=by rw [←rel.length];exact z
  have hl:(putK aB k v).length≤sizeLine:=by have:=tZ aB k v;omega
  refine wpAny_setItem_pairs (hsz:=hz) (GJ ry) dd fun h' dd' hs=>h _ ?_
  have he:∃q,h'.get? a=some q:=let ⟨q,_,_,hq,_⟩:=dd';⟨q,hq⟩
  exact HA I (by rw [e];exact True.intro) hs he (Qt hl hd (rel.put k rv) dd')
 ·subst ey eH
  cases (show u=Value.ref b from ry)
  obtain ⟨z,hd,xs,rel,dd⟩:=UQ I.dB e
  have hz:xs.length≤sizeLine:=by rw [←Paired.length rel];exact z
  have hl:(putK aB k v).length≤sizeLine:=by have:=tZ aB k v;omega
  refine wpAny_setItem_heap (hsz:=hz) (tupleKind_room_in1 hu) (gG I.dB eb) dd fun h' dd' hs=>h _ ?_
  obtain ⟨q,es,ep,hq,h2,h3,h4,_,h5⟩:=dd'
  refine HA I (by rw [e];exact True.intro) hs ⟨q,hq⟩ ⟨hl,hd,_,(rel.put k eb rv).keeps fun c ys ec=>?_,q,es,ep,hq,h2,h3,h4,h5⟩
  rw [aL (uk ec e (fun z=>nomatch z))]
  exact ec
end
def RE(i:Expr):Prop:=∀ov iv,subscripted i false ov iv=operate [ov,iv] (getItem ov iv)
theorem NS{prog:Program}{w:World}{A:Around}{E:Value→Shared→Prop}{s:Shared}{env:Env}{value slice:Expr}{pos:Pos}{T id:String}{Q:Value→Shared→Prop}
  (hl:typeLookup (.type T) "__getitem__" = pure (some (.builtin id))) (hs:RE slice)
  (h:wpAny (model prog w) A (eval value env) (fun o s₁=>wpAny (model prog w) A (eval slice env) (fun i s₂=>s₂.TypeIs o T∧wpAny (model prog w) A (getItem o i) Q E s₂) E s₁) E s):
  wpAny (model prog w) A (eval (.Subscript value slice pos) env) Q E s:=by
 refine Subscript_ (wpAny_mono h (fun o s₁ h₁=>wpAny_mono h₁ (fun i s₂ h₂=>?_) fun _ _ x=>x) fun _ _ x=>x)
 obtain ⟨hT,h₂⟩:=h₂
 unfold subscriptTail
 refine wpAny_bind ?_
 rw [getitemInPython_of_ne hT.not_modules]
 refine wpAny_bind (wpAny_specialOf hT hl ?_)
 have fin:wpAny (model prog w) A (subscripted slice false o i) (fun r s₃=>wpAny (model prog w) A (letTemporaryGo value o r >>=fun _=>pure r) Q E s₃) E s₂:=by
  rw [hs o i]
  exact wpAny_operating (wpAny_mono h₂ (fun r s₃ h₃=>wpAny_bind (wpAny_letTemporaryGo (wpAny_pure h₃))) fun _ _ x=>x)
 first
  | exact wpAny_pure (wpAny_bind fin)
  | exact wpAny_bind (wpAny_pure (wpAny_bind fin))
  | exact wpAny_bind fin
theorem Kk{X:Cx}{pins:List (Addr × Obj)}{σ:St}{H:Hp}{s:Shared}{a:Addr}{y:V}{o:Option V}(I:Inv X pins σ H s)(g:gE H a y o):s.TypeIs (.ref a) "dict":=by
 rcases g with ⟨aB,k,e,_,_⟩ | ⟨aB,k,b,e,_,_,_⟩
 ·obtain ⟨_,_,vs,_,dd⟩:=Ge I.dB e
  exact dd.typeIs
 ·obtain ⟨_,_,xs,_,dd⟩:=F7 I.dB e
  exact dd.typeIs
def kE(td ty:TE):TE:=fun σ H Q=>td σ H fun x H1=>ty σ H1 fun y H2=>∃a v,x= .ref a∧gE H2 a y (some v)∧Q v H2
def U8(ty td:TE):TE:=fun σ H Q=>ty σ H fun y H1=>td σ H1 fun x H2=>∃a o,x= .ref a∧gE H2 a y o∧Q (.bl o.isSome) H2
def QI(td ty tv:TE):TS:=fun D σ H=>tv σ H fun v H1=>td σ H1 fun x H2=>ty σ H2 fun y H3=>∃a H4,x= .ref a∧Of H3 a y v H4∧D.nx σ H4
section
variable{X:Cx}{o i e value:Expr}{pos pos' tpos:Pos}{td ty tv:TE}
theorem dF(hu:X.A.units+1 < cLine)(ho:PE X o td)(hi:PE X i ty)(hs:RE i):PE X (.Subscript o i pos) (kE td ty):=by
 intro pins s σ H Q I h
 refine NS PySem.F.slot_dict_getitem.lookup hs (c7 (ho pins s σ H _ I h) fun u s1 ⟨x,H1,I1,rx,q1⟩=>c7 (hi pins s1 σ H1 _ I1 q1) fun iv s2 ⟨y,H2,I2,ry,a,v,ex,g,q2⟩=>?_)
 subst ex
 obtain rfl:u=Value.ref a:=rx
 exact ⟨Kk I2 g,Ow hu I2 g ry fun w' s3 I3 rw'=>⟨v,H2,I3,rw',q2⟩⟩
theorem Uw(hu:X.A.units+1 < cLine)(hi:PE X i ty)(ho:PE X o td):PC X .In i o (U8 ty td):=by
 intro pins s σ H Q I h
 refine c7 (hi pins s σ H _ I h) fun iv s1 ⟨y,H1,I1,ry,q1⟩=>c7 (ho pins s1 σ H1 _ I1 q1) fun u s2 ⟨x,H2,I2,rx,a,ov,ex,g,q2⟩=>?_
 subst ex
 obtain rfl:u=Value.ref a:=rx
 exact Wg hu I2 g ry fun s3 I3=>⟨.bl ov.isSome,H2,I3,rfl,q2⟩
theorem Nd(hu:X.A.units+1 < cLine)(ho:PE X o td)(hi:PE X i ty)(hv:PE X value tv)(hs:swapsWith value (some (.Subscript o i pos')) pos.line X.env=pure false):
  PS X (.Assign [.Subscript o i pos'] value pos) (QI td ty tv):=by
 intro pins s σ H D I h
 refine wpAny_Assign_Subscript (c7 (hv pins s σ H _ I h) fun r s1 ⟨v,H1,I1,rv,q1⟩=>c7 (ho pins s1 σ H1 _ I1 q1) fun u s2 ⟨x,H2,I2,rx,q2⟩=>c7 (hi pins s2 σ H2 _ I2 q2) fun iv s3 ⟨y,H3,I3,ry,a,H4,ex,g,q3⟩=>?_) hs
 subst ex
 obtain rfl:u=Value.ref a:=rx
 exact Ov hu I3 g ry rv fun s4 I4=>⟨σ,H4,I4,q3⟩
end
theorem Qh{P:Program}{w:World}{H:Hp}(h:Heap)(hb:sysModules < h.objs.size):gD P w H (h.push {cls:= .type "dict",data:= .dict #[]}) h.objs.size (.dK []):=
 ⟨Nat.zero_le _,beq_eq_false_iff_ne.mpr (Ne.symm (Nat.ne_of_lt hb)),[],.nil,Heap.DictOf.new h⟩
def LS:TE:=fun _ H Q=>∀p,H p=none→Q (.ref p) (upd H p (.dK []))
section
variable{X:Cx}{pos:Pos}
theorem JG:PE X (.Dict [] [] pos) LS:=fun pins s σ H Q I h=>
 wpAny_Dict_empty ⟨.ref s.heap.objs.size,_,I.laid (a:=s.heap.objs.size) (o:= .dK []) (t':=s.toks) (fun _ _ q=>Heap.get?_push_of_some _ q) (Nat.le_refl _) (Qh s.heap I.big),rfl,h _ (I.dB.fresh (Nat.le_refl _))⟩
end
def jw(aB more:List (Key × V)):List (Key × V):=more.foldl (fun acc kv=>putK acc kv.1 kv.2) aB
theorem KV.merge:∀{more:List (Key × V)}{rs:List (Key × Value)}{aB:List (Key × V)}{vs:List (Key × Value)},KV more rs→KV aB vs→KV (jw aB more) (merged vs rs):=by
 intro more rs aB vs r
 unfold KV at r
 induction r generalizing aB vs with
 | nil=>intro q;exact q
 | @cons p q ps qs h t ih=>
  intro r0
  have e:KV (putK aB p.1 p.2) (stored vs q.1 q.2):=by
   have:=r0.put p.1 h.2
   rw [←h.1];exact this
  exact ih e
theorem pb:∀(more aB:List (Key × V)),(jw aB more).length≤aB.length+more.length
 | [],aB=>by show aB.length≤aB.length+0;omega
 | p::r,aB=>by
  have h1:=pb r (putK aB p.1 p.2)
  have h2:=tZ aB p.1 p.2
  show (jw (putK aB p.1 p.2) r).length≤_
  rw [List.length_cons];omega
structure M1(X:Cx)(o:Expr)(m:Str)(apos:Pos)(e:Expr)(cpos:Pos):Prop where
 base:attributeBase o m X.env (eval o X.env)=eval o X.env
 Jn:((backTo cpos (starEach [e] X.env)).all (fun x=>!x.1) && (backToKw cpos (keywordEach [] X.env)).all (fun x=>x.1.isSome)
  && decide (([e]:List Expr).length+ ([]:List Keyword).length+ (if ([]:List Keyword).isEmpty then 0 else 1) < 30))=true
 line:(apos.endLine == cpos.line)=true
 trees:backTo cpos (starEach [e] X.env) = [(false,eval e X.env)]
def Wo(H:Hp)(a:Addr):Prop:=(∃aB,Rd H a (.dK aB))∨∃aB,Rd H a (.dT aB)
theorem Uv{X:Cx}{pins:List (Addr × Obj)}{σ:St}{H:Hp}{s:Shared}{a:Addr}(I:Inv X pins σ H s)(d:Wo H a):
  s.TypeIs (.ref a) "dict"∧(∀b,Value.ref a= .ref b→∃ob,s.heap.get? b=some ob∧ob.dict=none)∧(a == sysModules)=false:=by
 rcases d with ⟨aB,e⟩ | ⟨aB,e⟩
 ·obtain ⟨_,hd,vs,_,dd⟩:=Ge I.dB e
  refine ⟨dd.typeIs,fun b q=>?_,hd⟩
  cases q
  obtain ⟨ob,_,_,h1,h2,_⟩:=dd
  exact ⟨ob,h1,h2.2.1⟩
 ·obtain ⟨_,hd,xs,_,dd⟩:=F7 I.dB e
  refine ⟨dd.typeIs,fun b q=>?_,hd⟩
  cases q
  obtain ⟨ob,_,_,h1,h2,_⟩:=dd
  exact ⟨ob,h1,h2.2.1⟩
section
variable{X:Cx}{pins:List (Addr × Obj)}{σ:St}{H:Hp}{s:Shared}{a:Addr}{y d:V}{u r:Value}{o:Option V}{A:Around}{E:Value→Shared→Prop}
theorem Td{Q:Value→Shared→Prop}(hu:A.units+1 < cLine)(I:Inv X pins σ H s)(g:gE H a y o)(ry:RelV y u)(h:∀w' s',Inv X pins σ H s'→RelV (o.getD .bB) w'→Q w' s'):
  wpAny (model X.prog X.w) A (call (.builtin "dict.get") [.ref a,u]) Q E s:=by
 rcases g with ⟨aB,k,e,ey,l⟩ | ⟨aB,k,b,e,ey,eb,l⟩
 ·subst ey
  obtain ⟨z,hd,vs,rel,dd⟩:=Ge I.dB e
  refine call_meetsIn PySem.F.slot_dict_get dd.typeIs PySem.F.entry_dict_get (PySem.F.args_dict_get_2 _ _) (meets_dict_get (cI X.prog X.w) a (GJ ry) hd) ⟨_,dd.mapOf,h _ _ (I.tok _) ?_⟩
  rw [l]
  exact (rel.val k).getD rfl
 ·subst ey
  cases (show u=Value.ref b from ry)
  obtain ⟨z,hd,xs,rel,dd⟩:=F7 I.dB e
  refine call_meetsIn PySem.F.slot_dict_get dd.typeIs PySem.F.entry_dict_get (PySem.F.args_dict_get_2 _ _) (meetsH_dict_get (tupleKind (cI X.prog X.w)) a b hd) ⟨tupleKind_room_in1 hu,k,xs,gG I.dB eb,dd,h _ _ (I.tok _) ?_⟩
  rw [l]
  exact (rel.val k).getD rfl
end
def Hy(td ty:TE):TE:=fun σ H Q=>td σ H fun x H1=>∃a,x= .ref a∧Wo H1 a∧ty σ H1 fun y H2=>∃o,gE H2 a y o∧Q (o.getD .bB) H2
section
variable{X:Cx}{o e f:Expr}{apos cpos:Pos}{td ty tx:TE}
theorem Kn(hu:X.A.units+1 < cLine)(ho:PE X o td)(he:PE X e ty)(m:M1 X o "get" apos e cpos):PE X (.Call (.Attribute o "get" apos) [e] [] cpos) (Hy td ty):=by
 intro pins s σ H Q I h
 refine wpAny_Call_method m.base m.Jn m.line PySem.F.plainAttrs_dict PySem.F.slot_dict_get PySem.F.type_dict_get (c7 (ho pins s σ H _ I h) fun u s1 ⟨x,H1,I1,rx,a,ex,d,q1⟩=>?_)
 subst ex
 obtain rfl:u=Value.ref a:=rx
 obtain ⟨t1,t2,_⟩:=Uv I1 d
 refine ⟨t1,t2,?_⟩
 rw [m.trees]
 refine Calls.callWith_builtin rfl (Calls.evalArgs_plain (Calls.spliced_cons (c7 (he pins s1 σ H1 _ I1 q1) fun iv s2 ⟨y,H2,I2,ry,ov,g,q2⟩=>Calls.spliced_nil ?_)))
 exact Td hu I2 g ry fun w' s3 I3 rw'=>⟨_,H2,I3,rw',q2⟩
end
end L2
namespace L2
open PySem PySem.Spec PyProof.Rows
theorem De:bootBuiltins "reversed" = some (.type "reversed"):=by decide +kernel
section
variable{X:Cx}{pins:List (Addr × Obj)}{σ:St}{H:Hp}{s:Shared}{h':Heap}
theorem Inv.lock{d:Addr}{u:HO}(I:Inv X pins σ H s)(h:H d=some u)(mu:S0 (some u)):∃od,Inv X pins σ (upd H d (.pV od u)) s:=by
 have x:=I.dB d u h
 have ex:∃od,s.heap.get? d=some od:=by
  cases u with
  | lst xs=>obtain ⟨_,_,_,_,e⟩:=x;exact ⟨_,e⟩
  | dK aB=>obtain ⟨_,_,_,_,o,_,_,e,_⟩:=x;exact ⟨o,e⟩
  | dT aB=>obtain ⟨_,_,_,_,o,_,_,e,_⟩:=x;exact ⟨o,e⟩
  | set S n=>obtain ⟨o,_,_,_,e,_⟩:=x;exact ⟨o,e⟩
  | ins C dx fs=>obtain ⟨_,_,_,e,_⟩:=x;exact ⟨_,e⟩
  | ext φ=>obtain ⟨_,⟨_,e⟩,_⟩:=x;exact ⟨_,e⟩
  | _=>exact False.elim mu
 obtain ⟨od,e⟩:=ex
 have new:gD X.prog X.w (upd H d (.pV od u)) s.heap d (.pV od u):=by
  refine ⟨e,x.jn (fun b v _ q=>q) (fun b q=>?_) fun b xs q=>?_⟩
  ·rw [aL (fun z=>by rw [z,h] at q;cases q;exact mu)];exact q
  ·rw [aL (fun z=>by rw [z,h] at q;cases q;exact mu)];exact q
 exact ⟨od,I.write (x:=d) (e:=d) (t':=s.toks) (h':=s.heap) (by rw [h];exact mu) (.inl rfl) (fun b v _ q=>q) ⟨od,e⟩ new⟩
theorem Inv.PQ{d:Addr}{u:HO}(I:Inv X pins σ H s)(h:H d=some u)(mu:S0 (some u)):∀o' u',X.H₀ d ≠ some (.pV o' u'):=fun o' u' e=>by
 have q:=I.base.CA d o' u' e
 rw [h] at q
 cases q
 exact mu
theorem Inv.unlock{d:Addr}{od:Obj}{u:HO}(I:Inv X pins σ H s)(h:H d=some (.pV od u))(hn:∀o' u',X.H₀ d ≠ some (.pV o' u')):Inv X pins σ (upd H d u) s:=by
 have neH:∀b o,H b=some o→(∀o' u',o ≠ .pV o' u')→b ≠ d:=fun b o e hne z=>by
  rw [z,h] at e
  cases e
  exact hne _ _ rfl
 have neN:∀b,H b=none→b ≠ d:=fun b e z=>by rw [z,h] at e;cases e
 refine ⟨I.ok,I.os,I.bare,⟨I.base.keep,I.base.slot,fun b o e n hx=>?_,I.base.there,fun b xs e=>?_,fun b o x e=>?_,fun b ps e=>?_⟩,I.loc,I.cell,?_,fun x c e=>?_,fun p hp=>?_,fun b o e=>?_,I.len⟩
 ·rw [aL (neN b (I.base.free b o e n hx))];exact I.base.free b o e n hx
 ·have q:=I.base.IE b xs e
  rw [aL (neH b _ q (fun _ _ z=>nomatch z))];exact q
 ·have q:=I.base.CA b o x e
  rw [aL (fun z=>by rw [z] at e;exact hn _ _ e)];exact q
 ·obtain ⟨m,q⟩:=I.base.Hi b ps e
  exact ⟨m,by rw [aL (neH b _ q (fun _ _ z=>nomatch z))];exact q⟩
 ·rw [aL (neN _ I.free)];exact I.free
 ·rw [aL (neN c (I.qa x c e))];exact I.qa x c e
 ·obtain ⟨e,n,r⟩:=I.pin p hp
  exact ⟨e,by rw [aL (neN _ n)];exact n,r⟩
 ·by_cases hb:b=d
  ·rw [hb,ao] at e
   cases e
   rw [hb]
   obtain ⟨_,x⟩:=I.dB d _ h
   exact x.jn (fun c v _ q=>q) (fun c q=>by rw [aL (neH c _ q (fun _ _ z=>nomatch z))];exact q) fun c xs q=>by rw [aL (neH c _ q (fun _ _ z=>nomatch z))];exact q
  ·rw [aL hb] at e
   exact (I.dB b o e).jn (fun c v _ q=>q) (fun c q=>by rw [aL (neH c _ q (fun _ _ z=>nomatch z))];exact q) fun c xs q=>by rw [aL (neH c _ q (fun _ _ z=>nomatch z))];exact q
end
def MP(t:TE):TE:=fun σ H Q=>∃d u,H d=some u∧S0 (some u)∧∀od,t σ (upd H d (.pV od u)) fun v H'=>H' d=some (.pV od u)∧Q v (upd H' d u)
section
variable{X:Cx}
theorem Nl{e:Expr}{t:TE}(h:PE X e t):PE X e (MP t):=by
 intro pins s σ H Q I hw
 obtain ⟨d,u,hd,mu,hw⟩:=hw
 obtain ⟨od,I1⟩:=I.lock hd mu
 refine c7 (h pins s σ _ _ I1 (hw od)) fun v s1 ⟨x,H1,I2,r,e2,q⟩=>?_
 exact ⟨x,_,I2.unlock e2 (I.PQ hd mu),r,q⟩
theorem Hw{tg:Expr}{pins:List (Addr × Obj)}{σ:St}{H:Hp}{s:Shared}{R:It→Hp→Prop}{J:It}{tn:Nat→Heap→Prop}{tk:Nat}(I:Inv X pins σ H s)(o:Obj)
  (T:Turn X.prog X.w X.K tg J [s.heap.objs.size] s.heap.objs.size tn) (st:tn 0 (s.heap.push o)) (q:R J H):V2 X pins σ tg R (.ref s.heap.objs.size) {s with heap:=s.heap.push o,toks:=tk}:=by
 refine ⟨s.heap.objs.size,[s.heap.objs.size],tn,J,H,rfl,I.kept fun b ob e=>Heap.get?_push_of_some _ e,T,st,fun b hb=>?_,q⟩
 have e:b=s.heap.objs.size:=by simpa using hb
 subst e
 exact I.RL (Nat.le_refl _) (I.dB.fresh (Nat.le_refl _))
end
def Vc(lo c:Int)(n:Nat):It:=⟨fun i _=>i < n,fun i H x H'=>H'=H∧x= .int (lo+ (i:Nat) * c),fun i _=>n≤i⟩
theorem J5{P:Program}{w:World}{K:PySem.W.Frag}{tg:Expr}(it:Addr)(lo c:Int)(n:Nat):Turn P w K tg (Vc lo c n) [it] it (fun i h=>IsRangeIter h it (lo+ (i:Nat) * c) ((n:Int) - (i:Nat)) c) where
 mem:=by simp
 obj:=fun i h st b hb=>by
  have e:b=it:=by simpa using hb
  subst e
  exact ⟨_,st,fun v z=>nomatch z⟩
 keep:=fun i h h' st k=>k it (by simp) _ st
 item:=by
  intro X hP hw hK hc i pins s σ H E I hf st hg
  subst hP hw hK
  obtain ⟨f0,f1,f2,f3,f4,f5⟩:=hf it (by simp)
  have W:=Walks.range (prog:=X.prog) (w:=X.w) (I.ok.hd hc) it lo c n
  refine W.item i s _ _ hg st fun v h' tk hv st' kk=>?_
  obtain ⟨t,rfl⟩:=hv
  have I1:Inv X pins σ H {s with heap:=h',toks:=tk}:=I.turned (fun b o hb e=>kk b o (by simpa using hb) e) f0 f1 f3 f4 f5
  exact ⟨_,rfl,Gn (s:={s with heap:=h',toks:=tk}) (n:="range_iterator") st' rfl rfl (by decide) ⟨.int (lo+ (i:Nat) * c),H,I1,⟨t,rfl⟩,⟨rfl,rfl⟩,st',fun b hb=>(hf b hb).1⟩⟩
 done:=by
  intro X hP hw hK hc i pins s σ H E I hf st hg
  subst hP hw hK
  obtain ⟨f0,f1,f2,f3,f4,f5⟩:=hf it (by simp)
  exact wpAny_pyNext_range_end (I.ok.hd hc) st (by have:n≤i:=hg;omega) fun h' eb=>⟨rfl,I.turned (t':=s.toks) (fun b o hb e=>eb b o hb e) f0 f1 f3 f4 f5⟩
 self:=fun A i s Q E st h=>wpAny_pyIter_rangeiter st h
def Wq(i j c:Int)(n:Nat):Prop:=c ≠ 0∧c.natAbs < 1073741824∧Builtin.Range.small i j c=true∧Builtin.Range.rangeSize i j c=n
def S3(ta:TA):TI:=fun σ H R=>ta σ H fun vs H1=>∃(i j c:Int)(n:Nat),vs = [.int i,.int j,.int c]∧Wq i j c n∧R (Vc i c n) H1
section
variable{X:Cx}{tg:Expr}
theorem Oj{a b c:Expr}{ta:TA}{p pos:Pos}(hg:Gl X "range")(hm:X.mg "range" = none)(ha:PA X [a,b,c] ta)
  (hs:starEach [a,b,c] X.env= (false,eval a X.env)::starEach [b,c] X.env:=by rfl) (hpl:(backTo pos (starEach [b,c] X.env)).any (·.1)=false:=by rfl):
  PI X tg (.Call (.Name "range" p) [a,b,c] [] pos) (S3 ta):=by
 intro pins s σ H R I h
 refine Call_ (zB I hg hm boot_range (PyProof.Rows.callWith_type1 (c7 (ha pos pins s σ H _ I h) fun us s1 ⟨vs,H1,I1,r1,q1⟩=>?_) hs hpl))
 obtain ⟨i,j,k,n,e,⟨c0,c1,c2,c3⟩,q⟩:=q1
 subst e
 cases r1 with
 | cons r rr=>
  cases rr with
  | cons r' rr=>
   cases rr with
   | cons r'' rr=>
    cases rr
    obtain ⟨t,rfl⟩:=r
    obtain ⟨t',rfl⟩:=r'
    obtain ⟨t'',rfl⟩:=r''
    refine call_range_3 c0 ?_ (.inl (PyProof.noPylong_small c1))
    refine wpAny_pyIter_range (IsRange.new ..) c2 ?_
    have I2:Inv X pins σ H1 {s1 with heap:=s1.heap.push {cls:= .type "range",data:= .fields #[.int i t,.int j t',.int k t'']}}:=I1.kept (t':=s1.toks) fun b o e=>Heap.get?_push_of_some _ e
    refine Hw (tk:=s1.toks) I2 _ (J5 _ i k n) ?_ q
    have e1:i+ ((0:Nat):Int) * k=i:=by simp
    have e2:(n:Int) - ((0:Nat):Int)=Builtin.Range.rangeSize i j k:=by rw [c3];simp
    show IsRangeIter _ _ (i+ ((0:Nat):Int) * k) ((n:Int) - ((0:Nat):Int)) k
    rw [e1,e2]
    exact Heap.get?_push_size _ rfl
end
def U0(K:PySem.W.Frag)(a:Addr)(n:Nat):It:=
 ⟨fun i H=>i < n∧∃(xs:List V)(x:V),cb K H a xs∧xs[n - 1 - i]? = some x,fun i H x H'=>H'=H∧∀xs,cb K H a xs→xs[n - 1 - i]? = some x,fun i _=>n≤i⟩
theorem Q6{P:Program}{w:World}{K:PySem.W.Frag}{tg:Expr}(a it:Addr)(n:Nat):Turn P w K tg (U0 K a n) [it] it (fun i h=>i≤n∧h.IsRevIter it a ((n:Int) - 1 - (i:Nat))) where
 mem:=by simp
 obj:=fun i h st b hb=>by
  have e:b=it:=by simpa using hb
  subst e
  obtain ⟨_,o,e,c,d⟩:=st
  exact ⟨o,e,fun v z=>by rw [d] at z;cases z⟩
 keep:=fun i h h' st k=>⟨st.1,st.2.at fun o e=>k it (by simp) o e⟩
 item:=by
  intro X hP hw hK hc i pins s σ H E I hf st hg
  subst hP hw hK
  obtain ⟨hin,xs,x,hq,hx⟩:=hg
  obtain ⟨its,rv,p,hz⟩:=I.list hq
  obtain ⟨u,hu,ru⟩:=rv.get hx
  obtain ⟨f0,f1,f2,f3,f4,f5⟩:=hf it (by simp)
  obtain ⟨_,hit⟩:=st
  have e1:(n:Int) - 1 - ((i:Nat):Int)= ((n - 1 - i:Nat):Int):=by omega
  rw [e1] at hit
  refine wpAny_pyNext_rev_item hit p.isList (x:=u) (by simpa using hu) fun h' st' sb=>?_
  have e2:((n - 1 - i:Nat):Int) - 1= (n:Int) - 1 - ((i+1:Nat):Int):=by omega
  rw [e2] at st'
  have I1:Inv X pins σ H {s with heap:=h'}:=I.turned (t':=s.toks) (fun b o hb e=>(sb.2 b hb).trans e) f0 f1 f3 f4 f5
  obtain ⟨o,e,c,d⟩:=id st'
  exact ⟨u,rfl,Gn (s:={s with heap:=h'}) e c d (by decide) ⟨x,H,I1,ru,⟨rfl,fun ys hy=>by rw [I.Kt hy hq];exact hx⟩,⟨hin,st'⟩,fun b hb=>(hf b hb).1⟩⟩
 done:=by
  intro X hP hw hK hc i pins s σ H E I hf st hg
  subst hP hw hK
  obtain ⟨f0,f1,f2,f3,f4,f5⟩:=hf it (by simp)
  obtain ⟨hin,hit⟩:=st
  have hge:n≤i:=hg
  have e1:(n:Int) - 1 - ((i:Nat):Int) = -1:=by omega
  rw [e1] at hit
  exact wpAny_pyNext_rev_end (I.ok.hd hc) hit fun h' eb=>⟨rfl,I.turned (t':=s.toks) (fun b o hb e=>eb b o hb e) f0 f1 f3 f4 f5⟩
 self:=fun A i s Q E st h=>wpAny_pyIter_revIter st.2 h
def Vu(K:PySem.W.Frag)(ta:TA):TI:=fun σ H R=>ta σ H fun vs H1=>∃(a:Addr)(xs:List V),vs = [.ref a]∧cb K H1 a xs∧R (U0 K a xs.length) H1
section
variable{X:Cx}{tg:Expr}
theorem JD{e:Expr}{ta:TA}{p pos:Pos}(hg:Gl X "reversed")(hm:X.mg "reversed" = none)(ha:PA X [e] ta)(hs:starEach [e] X.env = [(false,eval e X.env)]:=by rfl):PI X tg (.Call (.Name "reversed" p) [e] [] pos) (Vu X.K ta):=by
 intro pins s σ H R I h
 refine Call_ (zB I hg hm De (PyProof.Rows.callWith_type1 (c7 (ha pos pins s σ H _ I h) fun us s1 ⟨vs,H1,I1,r1,q1⟩=>?_) hs rfl))
 obtain ⟨a,xs,e,hq,q⟩:=q1
 subst e
 cases r1 with
 | cons r rr=>
  cases rr
  cases r
  obtain ⟨its,rv,p',hz⟩:=I1.list hq
  have hl:=rv.length
  have e1:((its.toArray.size:Nat):Int) - 1= (xs.length:Int) - 1 - ((0:Nat):Int):=by simp only [List.size_toArray];omega
  refine call_reversed_list p'.isList (wpAny_pyIter_revIter (l:=a) (i:=((its.toArray.size:Nat):Int) - 1) ⟨_,Heap.get?_push_size _ rfl,rfl,rfl⟩ ?_)
  refine Hw (tk:=s1.toks) I1 _ (Q6 a _ xs.length) ⟨Nat.zero_le _,?_⟩ q
  rw [←e1]
  exact ⟨_,Heap.get?_push_size _ rfl,rfl,rfl⟩
end
section
variable{prog:Program}{w:World}{A:Around}{E:Value→Shared→Prop}{s:Shared}
theorem FX{d:Addr}{o:Obj}{es:Array DictEntry}{ep:Nat}{Q:Value→Shared→Prop}(hd:(d == sysModules)=false)(ho:s.heap.get? d=some o)(hc:o.ExactDict)(hdat:o.data= .dict es ep)
  (hQ:Q (.ref s.heap.objs.size) {s with heap:=s.heap.push {cls:= .type "dict_keyiterator",data:= .fields #[.ref d,.int 0 0,.int es.size 0,.int ep 0]}}):
  wpAny (model prog w) A (pyIter (.ref d)) Q E s:=by
 have hT:s.TypeIs (.ref d) "dict":=⟨o,ho,hc.1⟩
 refine wpAny_pyIter_slot hT F.slot_dict_iter (wpAny_call_entry F.slot_dict_iter hT F.entry_dict_iter ?_ (F.args_dict_iter_1 _))
 unfold Builtin.«dict.__iter__»
 refine wpAny_bind ?_
 unfold Builtin.Dict.dictSlotNone
 refine wpAny_bind (wpAny_notOrdered_dict hT ?_)
 show wpAny _ _ (pure (Value.ref d)) _ _ s
 refine wpAny_pure ?_
 show wpAny _ _ (Builtin.Dict.showsAll d >>=_) _ _ s
 unfold Builtin.Dict.showsAll
 rw [if_neg (by rw [hd];exact Bool.false_ne_true)]
 refine wpAny_bind (wpAny_pure ?_)
 refine wpAny_bind (wpAny_dictEntries ho hdat ?_)
 refine wpAny_bind (wpAny_dictEpoch ho hdat ?_)
 refine wpAny_bind (wpAny_newObj_type (wpAny_pure ⟨_,rfl,"dict_keyiterator",_,⟨_,Heap.get?_push_size _ rfl,rfl⟩,F.slot_dict_keyiterator_next.lookup,?_⟩))
 simpa [rawInt] using hQ
theorem FH{it d:Addr}{i n ep:Nat}{od:Obj}{es:Array DictEntry}{en:DictEntry}{Q:Option Value→Shared→Prop}(hit:s.heap.IsKeyIter it d i n ep)(hod:s.heap.get? d=some od)(hdd:od.data= .dict es ep)
  (hsz:es.size=n) (hx:es[i]? = some en) (hQ:∀h',h'.IsKeyIter it d (i+1) n ep→Heap.SameBut it s.heap h'→Q (some en.key) {s with heap:=h'}):wpAny (model prog w) A (pyNext (.ref it)) Q E s:=by
 obtain ⟨o,ho,hc,hd⟩:=id hit
 unfold pyNext
 refine wpAny_bind (wpAny_attempt (wpAny_callSpecial?_slot (name:=Str.ofString "__next__") hit.typeIs F.slot_dict_keyiterator_next
  (wpAny_call_entry F.slot_dict_keyiterator_next hit.typeIs F.entry_dict_keyiterator_next ?_ (F.args_dict_keyiterator_next_1 _))))
 refine wpAny_bind (wpAny_pure ?_)
 refine wpAny_bind ?_
 refine wpAny_bind ?_
 first | refine wpAny_bind (wpAny_typeNameOfWhole_keyiter hit.typeIs (wpAny_pure ?_)) | refine wpAny_bind (wpAny_typeNameOf_keyiter hit.typeIs (wpAny_pure ?_))
 refine wpAny_bind (wpAny_fieldsOf ho hd ?_)
 have hown:Builtin.Dict_items.ownsTuple "dict_keyiterator" = false:=by decide
 simp only [hown,Bool.false_eq_true,if_false]
 show wpAny _ _ (if (Value.ref d == Value.none)=true then _ else _) _ _ s
 rw [if_neg (show ¬((Value.ref d == Value.none)=true) from Bool.false_ne_true)]
 refine wpAny_bind (wpAny_pure ?_)
 refine wpAny_bind (wpAny_dictEntries hod hdd ?_)
 rw [if_neg (by rw [hsz];simp)]
 refine wpAny_bind (wpAny_pure ?_)
 refine wpAny_bind (wpAny_dictEpoch hod hdd ?_)
 rw [if_neg (by simp)]
 refine wpAny_pure ?_
 obtain ⟨hlt',hen⟩:=Array.getElem?_eq_some_iff.mp hx
 simp only [show ¬((i:Int) < 0) from by omega,if_false,Int.toNat_natCast,Array.getElem?_eq_getElem hlt']
 refine wpAny_bind ?_
 first | refine wpAny_bind (wpAny_typeNameOfWhole_keyiter hit.typeIs (wpAny_pure ?_)) | refine wpAny_bind (wpAny_typeNameOf_keyiter hit.typeIs (wpAny_pure ?_))
 refine wpAny_bind (wpAny_isOneOf_keyiter hit.typeIs ?_)
 show wpAny _ _ (setField (.ref it) 1 (rawInt ((i:Int)+1)) >>=_) _ _ s
 refine wpAny_bind (wpAny_setField ho hd (by simp) ?_)
 have hit':(s.heap.update it (Obj.mapFields (·.setIfInBounds 1 (rawInt ((i:Int)+1))))).IsKeyIter it d (i+1) n ep:=
  ⟨_,Heap.get?_update_self _ ho (Obj.isFreed_of_fields (Obj.data_mapFields hd _)),(Obj.cls_mapFields ..).trans hc,by rw [Obj.data_mapFields hd];simp [rawInt]⟩
 refine wpAny_bind (wpAny_holding ?_)
 refine wpAny_bind (wpAny_isOneOf_keyiter (s:={s with heap:=s.heap.update it (Obj.mapFields (·.setIfInBounds 1 (rawInt ((i:Int)+1))))}) hit'.typeIs ?_)
 show wpAny _ _ (pure es[i].key) _ _ _
 rw [hen]
 exact wpAny_pure (wpAny_pure ⟨_,rfl,wpAny_pure (hQ _ hit' (Heap.SameBut.update ..))⟩)
theorem yf{it d:Addr}{i n ep:Nat}{od:Obj}{es:Array DictEntry}{Q:Option Value→Shared→Prop}(hh:A.handled=none)(hit:s.heap.IsKeyIter it d i n ep)(hod:s.heap.get? d=some od)(hdd:od.data= .dict es ep)
  (hsz:es.size=n) (hge:n≤i) (hQ:∀h',Heap.ExtBut it s.heap h'→Q none {s with heap:=h'}):wpAny (model prog w) A (pyNext (.ref it)) Q E s:=by
 obtain ⟨o,ho,hc,hd⟩:=id hit
 unfold pyNext
 refine wpAny_bind (wpAny_attempt (wpAny_callSpecial?_slot (name:=Str.ofString "__next__") hit.typeIs F.slot_dict_keyiterator_next
  (wpAny_call_entry F.slot_dict_keyiterator_next hit.typeIs F.entry_dict_keyiterator_next ?_ (F.args_dict_keyiterator_next_1 _))))
 refine wpAny_bind (wpAny_pure ?_)
 refine wpAny_bind ?_
 refine wpAny_bind ?_
 first | refine wpAny_bind (wpAny_typeNameOfWhole_keyiter hit.typeIs (wpAny_pure ?_)) | refine wpAny_bind (wpAny_typeNameOf_keyiter hit.typeIs (wpAny_pure ?_))
 refine wpAny_bind (wpAny_fieldsOf ho hd ?_)
 have hown:Builtin.Dict_items.ownsTuple "dict_keyiterator" = false:=by decide
 simp only [hown,Bool.false_eq_true,if_false]
 show wpAny _ _ (if (Value.ref d == Value.none)=true then _ else _) _ _ s
 rw [if_neg (show ¬((Value.ref d == Value.none)=true) from Bool.false_ne_true)]
 refine wpAny_bind (wpAny_pure ?_)
 refine wpAny_bind (wpAny_dictEntries hod hdd ?_)
 rw [if_neg (by rw [hsz];simp)]
 refine wpAny_bind (wpAny_pure ?_)
 refine wpAny_bind (wpAny_dictEpoch hod hdd ?_)
 rw [if_neg (by simp)]
 refine wpAny_pure ?_
 have hge':es.size≤i:=by rw [hsz];exact hge
 simp only [show ¬((i:Int) < 0) from by omega,if_false,Int.toNat_natCast,Array.getElem?_eq_none hge']
 refine wpAny_bind ?_
 first | refine wpAny_bind (wpAny_typeNameOfWhole_keyiter hit.typeIs (wpAny_pure ?_)) | refine wpAny_bind (wpAny_typeNameOf_keyiter hit.typeIs (wpAny_pure ?_))
 show wpAny _ _ (setField (.ref it) 0 .none >>=_) _ _ s
 refine wpAny_bind (wpAny_setField ho hd (by simp) ?_)
 show wpAny _ _ (newExc (.type "StopIteration") [] >>=_) _ _ _
 refine wpAny_bind ?_
 simp only [newExc,newTuple]
 refine wpAny_bind (wpAny_newObj_type ?_ (by size_fits))
 refine wpAny_bind (m:=firstArgMember _ _) (wpAny_of_eq (a:=Value.none) (by first | rfl | (simp only [firstArgMember];rfl)) ?_)
 refine wpAny_newObj_type ?_ (by size_fits)
 simp only [raiseNew]
 refine wpAny_bind (wpAny_handled ?_)
 rw [show A.in1.handled=none from hh]
 refine wpAny_bind (wpAny_pure (wpAny_throw ?_))
 refine wpAny_bind (wpAny_isInstance (T:="StopIteration") (b:=true) ⟨_,Heap.get?_push_size _ rfl,rfl⟩ isSubtype_stop ?_)
 exact wpAny_pure (hQ _ (((Heap.SameBut.update ..).extBut.push _).push _))
end
theorem Tw{κ:Type}{aB:List (κ × V)}{vs:List (κ × Value)}(h:KV aB vs):∀{i:Nat}{k:κ}{v:V},aB[i]? = some (k,v)→∃u,vs[i]? = some (k,u)∧RelV v u:=by
 unfold KV at h
 induction h with
 | nil=>intro i k v e;simp at e
 | @cons a b l₁ l₂ r t ih=>
  intro i k v e
  cases i with
  | zero=>
   simp only [List.getElem?_cons_zero,Option.some.injEq] at e
   subst e
   refine ⟨b.2,?_,r.2⟩
   simp only [List.getElem?_cons_zero]
   exact congrArg some (Prod.ext r.1.symm rfl)
  | succ j=>
   simp only [List.getElem?_cons_succ] at e ⊢
   exact ih e
theorem rj{α β:Type}{G:α→β→Prop}{l₁:List α}{l₂:List β}(h:Paired G l₁ l₂):∀{i:Nat}{a:α},l₁[i]? = some a→∃b,l₂[i]? = some b∧G a b:=by
 induction h with
 | nil=>intro i a e;simp at e
 | @cons a b l₁ l₂ r t ih=>
  intro i a' e
  cases i with
  | zero=>
   simp only [List.getElem?_cons_zero,Option.some.injEq] at e
   subst e
   exact ⟨b,rfl,r⟩
  | succ j=>
   simp only [List.getElem?_cons_succ] at e ⊢
   exact ih e
theorem Q8{k:Key}{u:Value}(h:By k u=true):RelV (kV k) u:=by
 rcases cQ h with ⟨i,t,rfl,rfl⟩ | ⟨x,t,rfl,rfl⟩
 ·exact ⟨t,rfl⟩
 ·exact ⟨t,rfl⟩
section
variable{X:Cx}{pins:List (Addr × Obj)}{σ:St}{H:Hp}{s:Shared}{d:Addr}{o:Obj}
theorem Inv.TH{aB:List (Key × V)}(I:Inv X pins σ H s)(h:H d=some (.pV o (.dK aB))):
  (d == sysModules)=false∧s.heap.get? d=some o∧o.ExactDict∧∃(es:Array DictEntry)(ep:Nat)(vs:List (Key × Value)),o.data= .dict es ep∧es.size=aB.length∧KV aB vs∧s.heap.DictAt (cI X.prog X.w) d vs ep:=by
 obtain ⟨hd,z,hs,vs,kv,o',es,ep,ho,hx,hdt,r⟩:=I.dB d _ h
 rw [hd] at ho
 cases ho
 refine ⟨hs,hd,hx,es,ep,vs,hdt,?_,kv,o,es,hd,hx,hdt,r⟩
 have l1:=r.2.1.length
 have l2:aB.length=vs.length:=Paired.length kv
 rw [Array.length_toList] at l1
 omega
theorem Inv.Tu{aB:List (List Key × V)}(I:Inv X pins σ H s)(h:H d=some (.pV o (.dT aB))):
  (d == sysModules)=false∧s.heap.get? d=some o∧o.ExactDict∧∃(es:Array DictEntry)(ep:Nat),o.data= .dict es ep∧es.size=aB.length∧
   ∀(i:Nat)(k:List Key)(v:V),aB[i]? = some (k,v)→∃(en:DictEntry)(q:Addr),es[i]? = some en∧en.key= .ref q∧H q=some (.tup (k.map kV)):=by
 obtain ⟨hd,z,hs,xs,pr,o',es,ep,ho,hx,hdt,he,_⟩:=I.dB d _ h
 rw [hd] at ho
 cases ho
 refine ⟨hs,hd,hx,es,ep,hdt,?_,fun i k v e=>?_⟩
 ·have l1:es.size=xs.length:=size_of_entries he
  have l2:aB.length=xs.length:=Paired.length pr
  omega
 ·obtain ⟨b,hb,e1,e2,_⟩:=rj pr e
  have q:=entry_at he i
  rw [hb] at q
  exact ⟨_,b.2.1,q,rfl,e2⟩
end
def Vw(d:Addr)(o:Obj)(aB:List (Key × V)):It:=
 ⟨fun i H=>H d=some (.pV o (.dK aB))∧i < aB.length,fun i H x H'=>H'=H∧∃k v,aB[i]? = some (k,v)∧x=kV k,fun i H=>H d=some (.pV o (.dK aB))∧aB.length≤i⟩
def U5(d:Addr)(o:Obj)(aB:List (List Key × V)):It:=
 ⟨fun i H=>H d=some (.pV o (.dT aB))∧i < aB.length,fun i H x H'=>H'=H∧∃(k:List Key)(v:V)(q:Addr),aB[i]? = some (k,v)∧x= .ref q∧H q=some (.tup (k.map kV)),fun i H=>H d=some (.pV o (.dT aB))∧aB.length≤i⟩
theorem Cs{o:Obj}{es es':Array DictEntry}{ep ep':Nat}(h:o.data= .dict es ep)(h':o.data= .dict es' ep'):es'=es∧ep'=ep:=by
 rw [h] at h'
 cases h'
 exact ⟨rfl,rfl⟩
section
variable{P:Program}{w:World}{K:PySem.W.Frag}{tg:Expr}{d:Addr}{o:Obj}{es:Array DictEntry}{ep:Nat}
theorem OW{aB:List (Key × V)}(it:Addr)(hod:o.data= .dict es ep):Turn P w K tg (Vw d o aB) [it] it (fun i h=>h.IsKeyIter it d i aB.length ep) where
 mem:=by simp
 obj:=fun i h st b hb=>by
  have e:b=it:=by simpa using hb
  subst e
  obtain ⟨oi,e,c,dd⟩:=st
  exact ⟨oi,e,fun v z=>by rw [dd] at z;cases z⟩
 keep:=fun i h h' st k=>st.at fun oi e=>k it (by simp) oi e
 item:=by
  intro X hP hw hK hc i pins s σ H E I hf st hg
  subst hP hw hK
  obtain ⟨hd,hi⟩:=hg
  obtain ⟨f0,f1,f2,f3,f4,f5⟩:=hf it (by simp)
  obtain ⟨hs,hgd,hx,es',ep',vs,hdt,hsz,kv,hm⟩:=I.TH hd
  obtain ⟨rfl,rfl⟩:=Cs hod hdt
  obtain ⟨⟨k,v⟩,hkv⟩:∃p,aB[i]? = some p:=⟨aB[i],List.getElem?_eq_getElem hi⟩
  obtain ⟨u,hu,ru⟩:=Tw kv hkv
  have hl:aB.length=vs.length:=Paired.length kv
  rw [hl] at st
  refine wpAny_pyNext_dict_item st hm hu fun key h' hkey st' sb=>?_
  have I1:Inv X pins σ H {s with heap:=h'}:=I.turned (t':=s.toks) (fun b ob hb e=>(sb.2 b hb).trans e) f0 f1 f3 f4 f5
  obtain ⟨oi,e,c,dd⟩:=id st'
  refine ⟨key,rfl,Gn (s:={s with heap:=h'}) e c dd (by decide) ⟨kV k,H,I1,Q8 (show By k key=true from hkey),⟨rfl,k,v,hkv,rfl⟩,?_,fun b hb=>(hf b hb).1⟩⟩
  show h'.IsKeyIter it d (i+1) aB.length _
  rw [hl]
  exact st'
 done:=by
  intro X hP hw hK hc i pins s σ H E I hf st hg
  subst hP hw hK
  obtain ⟨hd,hi⟩:=hg
  obtain ⟨f0,f1,f2,f3,f4,f5⟩:=hf it (by simp)
  obtain ⟨hs,hgd,hx,es',ep',vs,hdt,hsz,kv,hm⟩:=I.TH hd
  obtain ⟨rfl,rfl⟩:=Cs hod hdt
  exact yf (I.ok.hd hc) st hgd hdt hsz hi fun h' eb=>⟨rfl,I.turned (t':=s.toks) (fun b ob hb e=>eb b ob hb e) f0 f1 f3 f4 f5⟩
 self:=fun A i s Q E st h=>wpAny_pyIter_keyiter st h
theorem Lu{aB:List (List Key × V)}(it:Addr)(hod:o.data= .dict es ep):Turn P w K tg (U5 d o aB) [it] it (fun i h=>h.IsKeyIter it d i aB.length ep) where
 mem:=by simp
 obj:=fun i h st b hb=>by
  have e:b=it:=by simpa using hb
  subst e
  obtain ⟨oi,e,c,dd⟩:=st
  exact ⟨oi,e,fun v z=>by rw [dd] at z;cases z⟩
 keep:=fun i h h' st k=>st.at fun oi e=>k it (by simp) oi e
 item:=by
  intro X hP hw hK hc i pins s σ H E I hf st hg
  subst hP hw hK
  obtain ⟨hd,hi⟩:=hg
  obtain ⟨f0,f1,f2,f3,f4,f5⟩:=hf it (by simp)
  obtain ⟨hs,hgd,hx,es',ep',hdt,hsz,ent⟩:=I.Tu hd
  obtain ⟨rfl,rfl⟩:=Cs hod hdt
  obtain ⟨⟨k,v⟩,hkv⟩:∃p,aB[i]? = some p:=⟨aB[i],List.getElem?_eq_getElem hi⟩
  obtain ⟨en,q,hen,hkey,hq⟩:=ent i k v hkv
  refine FH st hgd hdt hsz hen fun h' st' sb=>?_
  have I1:Inv X pins σ H {s with heap:=h'}:=I.turned (t':=s.toks) (fun b ob hb e=>(sb.2 b hb).trans e) f0 f1 f3 f4 f5
  obtain ⟨oi,e,c,dd⟩:=id st'
  exact ⟨en.key,rfl,Gn (s:={s with heap:=h'}) e c dd (by decide) ⟨.ref q,H,I1,hkey,⟨rfl,k,v,q,hkv,rfl,hq⟩,st',fun b hb=>(hf b hb).1⟩⟩
 done:=by
  intro X hP hw hK hc i pins s σ H E I hf st hg
  subst hP hw hK
  obtain ⟨hd,hi⟩:=hg
  obtain ⟨f0,f1,f2,f3,f4,f5⟩:=hf it (by simp)
  obtain ⟨hs,hgd,hx,es',ep',hdt,hsz,ent⟩:=I.Tu hd
  obtain ⟨rfl,rfl⟩:=Cs hod hdt
  exact yf (I.ok.hd hc) st hgd hdt hsz hi fun h' eb=>⟨rfl,I.turned (t':=s.toks) (fun b ob hb e=>eb b ob hb e) f0 f1 f3 f4 f5⟩
 self:=fun A i s Q E st h=>by
  refine wpAny_pyIter_slot st.typeIs F.slot_dict_keyiterator_iter (wpAny_call_entry F.slot_dict_keyiterator_iter st.typeIs F.entry_dict_keyiterator_iter ?_ (F.args_dict_keyiterator_iter_1 _))
  show wpAny _ _ (ret (.ref it)) _ _ s
  exact wpAny_pure ⟨_,rfl,"dict_keyiterator",_,st.typeIs,F.slot_dict_keyiterator_next.lookup,h⟩
end
def S1(td:TE):TI:=fun σ H R=>td σ H fun x H1=>∃d o,x= .ref d∧((∃aB,H1 d=some (.pV o (.dK aB))∧R (Vw d o aB) H1)∨∃aB,H1 d=some (.pV o (.dT aB))∧R (U5 d o aB) H1)
section
variable{X:Cx}{tg e:Expr}{td:TE}{apos cpos:Pos}
theorem R0(he:PE X e td):PI X tg e (S1 td):=by
 intro pins s σ H R I h
 refine c7 (he pins s σ H _ I h) fun u s1 ⟨x,H1,I1,rx,d,o,ex,q⟩=>?_
 subst ex
 obtain rfl:u=Value.ref d:=rx
 rcases q with ⟨aB,hd,q⟩ | ⟨aB,hd,q⟩
 ·obtain ⟨hs,hgd,hx,es,ep,vs,hdt,hsz,kv,hm⟩:=I1.TH hd
  refine FX hs hgd hx hdt (Hw (tk:=s1.toks) I1 _ (OW _ hdt) ⟨_,Heap.get?_push_size _ rfl,rfl,?_⟩ q)
  rw [hsz] <;> rfl
 ·obtain ⟨hs,hgd,hx,es,ep,hdt,hsz,ent⟩:=I1.Tu hd
  refine FX hs hgd hx hdt (Hw (tk:=s1.toks) I1 _ (Lu _ hdt) ⟨_,Heap.get?_push_size _ rfl,rfl,?_⟩ q)
  rw [hsz] <;> rfl
end
end L2
namespace Att
open PySem PySem.W PySem.Calls PyProof.Rows
theorem Ci{P:Params}{h:Heap}:∀(ns:List Int)(vs:List Value),WellAll P h vs (ns.map WData.int)→IntsAre vs ns:=by
 intro ns
 induction ns with
 | nil=>
  intro vs w
  rw [List.map_nil] at w
  cases w
  exact .nil
 | cons n ns ih=>
  intro vs w
  rw [List.map_cons] at w
  cases w with
  | cons a b=>
   cases a
   exact .cons _ _ (ih _ b)
end Att
namespace L2
open PySem PySem.Spec PyProof.Rows
theorem Gs:∀{vs:List Value}{ns:List Int},IntsAre vs ns→Vals (ns.map V.int) vs
 | _,_,.nil=> .nil
 | _,_,.cons n t h=> .cons ⟨t,rfl⟩ (Gs h)
def Wf(H:Hp):Prop:=∀b,H b=none∨∃o xs,H b=some (.pV o (.lst xs))
end L2
namespace L2
open PySem PySem.Spec PyProof.Rows
abbrev cx:S4:=fun _ _ _ _ _ _=>False
abbrev E0:XK:=fun _ _ _=>False
theorem K8{X:Cx}:Passes cx X E0:=fun _ _ _ _ _ _ _ h=>h.elim
structure RV(K:PySem.W.Frag)(x qual:Str)(st:Stmt)(f:Addr)(fd:FuncData):Prop where
 ex:∃(oc:Value)(od:Option Addr)(kV doc pm:Value)(an:Option Addr)(cdv ct:Value)(osl:Array (Option Value)),
  fd=PySem.W.fnOf x qual (vh st) (ox st) (ar st) .none kV doc pm an cdv ct∧K.lookup f=some ⟨oc,od,.func fd,osl⟩∧PySem.W.codeIn K cdv qual=true
 kp:PySem.W.keepIn K (.ref f)=true
section
variable{P:Program}{w:World}{K:PySem.W.Frag}{mg:Str→Option Value}{base:Heap}
theorem RV.ok{x qual:Str}{st:Stmt}{f:Addr}{fd:FuncData}{N ps:List Str}{k:Nat}{sp:Sp}(F:RV K x qual st f fd)(S:aA N ps (ar st))(len:∀vs H Q E,sp vs H Q E→vs.length=ps.length)
  (hbody:∀(cdv:Value)(A:Around)(outer:List Env)(s:Shared)(H:Hp)(vs:List V)(Q:VK)(E:XK),iE k (A.deeper (envOfC qual (ar st) s.heap.objs.size f cdv))→sp vs H Q E→
   ∃t,NN (Me cx P w K mg base N qual (ar st) f cdv A outer s H E).Vf (ox st) t∧t {nx:=fun _ H'=>Q .bB H',rt:=Q} (start N vs) H):bp P w K mg base cx (k+1) f fd ps sp:=by
 obtain ⟨oc,od,kV,doc,pm,an,cdv,ct,osl,rfl,lk,hcd⟩:=F.ex
 refine UP lk hcd S len fun A outer s H vs Q E hr hsp=>?_
 obtain ⟨t,h,q⟩:=hbody cdv A outer s H vs Q E hr hsp
 exact ⟨t,h.Vf,q⟩
theorem RV.binds{x qual:Str}{st:Stmt}{f:Addr}{fd:FuncData}{ps:List Str}(F:RV K x qual st f fd)
  (h:∀(kV doc pm:Value)(an:Option Addr)(cdv ct:Value)(us:List Value),us.length=ps.length→bindArgs (PySem.W.fnOf x qual (vh st) (ox st) (ar st) .none kV doc pm an cdv ct) ⟨us,[]⟩=pure (ps.zip us)):Binds K fd ps []:=by
 obtain ⟨oc,od,kV,doc,pm,an,cdv,ct,osl,rfl,lk,hcd⟩:=F.ex
 exact .all (h kV doc pm an cdv ct)
end
theorem U2{A:Around}{k:Nat}(hr:iE k A):A.units+1 < cLine:=Nat.lt_of_le_of_lt (Nat.add_le_add_left (by decide:1≤64) _) hr.units
theorem b7{n:Nat}(h:n≤1000):n < sizeLine:=Nat.lt_of_le_of_lt h (by decide)
section
variable{X:Cx}
theorem pv(i:Nat){x:Str}{pos:Pos}(hN:X.N[i]? = some x:=by rfl)(hv:UB X.env.scope x:=by first | exact Or.inl rfl | exact Or.inr (Or.inl rfl) | exact Or.inr (Or.inr rfl))(hd:(x == ("__debug__":Str))=false:=by decide)
  (hcd:(x == ("__classdict__":Str))=false:=by decide):PE X (.Name x pos) (ag i):=To hN hv hd hcd
end
theorem aZ{A B:Prop}(h:B):if false=true then A else B:=by
 rw [if_neg Bool.false_ne_true]
 exact h
theorem aS{A B:Prop}(h:A):if true=true then A else B:=by
 rw [if_pos rfl]
 exact h
theorem GZ{c A B:Prop} [Decidable c](h1:c→A)(h2:¬c→B):if c then A else B:=by
 by_cases h:c
 ·rw [if_pos h]
  exact h1 h
 ·rw [if_neg h]
  exact h2 h
def aP(H H':Hp):Prop:=∀b o,H b=some o→H' b=some o
theorem aP.refl(H:Hp):aP H H:=fun _ _ h=>h
theorem aP.trans{H H1 H2:Hp}(a:aP H H1)(b:aP H1 H2):aP H H2:=fun c o h=>b c o (a c o h)
theorem aP.free{H H':Hp}(e:aP H H'){l:Addr}(h:H' l=Option.none):H l=Option.none:=by
 cases q:H l with
 | none=>rfl
 | some o=>
  rw [e l o q] at h
  cases h
section
variable{κ:Type} [DecidableEq κ]
theorem KO{aB:List (κ × V)}{k:κ}(h:bS aB k=none):¬k ∈ aB.map (·.1):=by
 intro m
 obtain ⟨p,hp,e⟩:=List.mem_map.mp m
 have q:(aB.any fun kv=>decide (kv.1=k))=true:=List.any_eq_true.mpr ⟨p,hp,decide_eq_true e⟩
 rw [kx,h] at q
 exact absurd q (by simp)
theorem MW{aB:List (κ × V)}{k:κ}{v:V}(h:bS aB k=some v):k ∈ aB.map (·.1):=by
 have q:(aB.any fun kv=>decide (kv.1=k))=true:=by
  rw [kx,h]
  all_goals rfl
 obtain ⟨p,hp,e⟩:=List.any_eq_true.mp q
 exact List.mem_map.mpr ⟨p,hp,of_decide_eq_true e⟩
theorem M6:∀{l:List κ}{k:κ},l.Nodup→¬k ∈ l→(l ++ [k]).Nodup
 | [],k,_,_=>by simp
 | a::r,k,h,hk=>by
  obtain ⟨h1,h2⟩:=List.nodup_cons.mp h
  show (a::(r ++ [k])).Nodup
  refine List.nodup_cons.mpr ⟨fun m=>?_,M6 h2 fun m=>hk (List.mem_cons.mpr (Or.inr m))⟩
  rcases List.mem_append.mp m with q | q
  ·exact h1 q
  ·exact hk (List.mem_cons.mpr (Or.inl (List.mem_singleton.mp q).symm))
theorem Sl{aB:List (κ × V)}{k:κ}(v:V)(hn:(aB.map (·.1)).Nodup)(h:bS aB k=none):((putK aB k v).map (·.1)).Nodup:=by
 rw [CT v h,List.map_append]
 exact M6 hn (KO h)
end
end L2
namespace L2
open PySem PySem.Spec PyProof.Rows
abbrev Q2:R2:=fun x y H Q=>∃i j,x= .str i∧y= .str j∧Q (.bl (!(Builtin.Str.occurrences j i 0 j.length 1).isEmpty)) H
abbrev oX(K:PySem.W.Frag):List V→Hp→VK→Prop:=fun xs H Q=>∃p ys,xs = [.ref p]∧(cb K H p ys∨Lw K H p ys)∧Q (.int ys.length) H
abbrev SS(K:PySem.W.Frag):List V→Hp→VK→Prop:=fun xs H Q=>∃p ys,xs = [.ref p]∧(cb K H p ys∨Lw K H p ys)∧∀l,H l=none→Q (.ref l) (upd H l (.lst ys))
abbrev Pt:List V→Hp→VK→Prop:=fun xs H Q=>∃i j,xs = [.int i,.int j]∧Q (.int (if j > i then j else i)) H
abbrev UN:List V→Hp→VK→Prop:=fun xs H Q=>∃i j,xs = [.int i,.int j]∧Q (.int (if j < i then j else i)) H
def Np:V→List V→Hp→VK→Prop:=fun x vs H Q=>∃d e aB more,x= .ref d∧vs = [.ref e]∧d ≠ e∧H d=some (.dK aB)∧H e=some (.dK more)∧aB.length+more.length≤sizeLine∧Q .bB (upd H d (.dK (jw aB more)))
theorem Ob{X:Cx}:VB X "dict.update" Np:=by
 intro pins s σ H x vs v us Q I rx rv h
 obtain ⟨d,e,aB,more,rfl,rfl,hne,hd,he,hz,q⟩:=h
 cases rx
 obtain ⟨u,rfl,ru⟩:=rv.one
 cases ru
 obtain ⟨z,hs,vs0,r0,dd⟩:=Py I.dB hd
 obtain ⟨z2,hs2,vs2,r2,dd2⟩:=Py I.dB he
 have l1:aB.length=vs0.length:=Paired.length r0
 have l2:more.length=vs2.length:=Paired.length r2
 refine call_meetsIn PySem.F.slot_dict_update dd.typeIs PySem.F.entry_dict_update (PySem.F.args_dict_update_2 _ _) (meets_dict_update (cI X.prog X.w) d e hne hs2)
  ⟨vs0,vs2,dd,dd2,by omega,fun h' dd' _ sb=>⟨.bB,_,?_,rfl,q⟩⟩
 have hz':(jw aB more).length≤sizeLine:=Nat.le_trans (pb more aB) hz
 have he':∃q,h'.get? d=some q:=let ⟨q,_,_,hq,_⟩:=dd';⟨q,hq⟩
 exact HA I (by rw [hd];exact True.intro) sb he' (Qt hz' hs (r2.merge r0) dd')
theorem dI{i j:Int}:decide (V.int i=V.int j)=decide (i=j):=by
 by_cases h:i=j
 ·rw [h,decide_eq_true rfl,decide_eq_true rfl]
 ·rw [decide_eq_false h,decide_eq_false fun z=>h (by injection z)]
end L2
namespace L2
open PySem PySem.Spec PyProof.Rows
theorem Si{K:PySem.W.Frag}{a:Addr}{xs:List V}{g:TG}{tb:TS}{D:Ends}{σ:St}{H:Hp}(Pv:Nat→St→Hp→Prop)(h0:Pv 0 σ H)(hl:∀i σ H,i≤xs.length→Pv i σ H→cb K H a xs)
  (hs:∀i x σ H,i < xs.length→xs[xs.length - 1 - i]? = some x→Pv i σ H→g x σ H fun σ2 H2=>tb {D with nx:=Pv (i+1),ct:=Pv (i+1),bk:=D.nx} σ2 H2) (hd:∀σ H,Pv xs.length σ H→D.nx σ H):
  ∃W:Nat→Nat→St→Hp→Prop,(∃m,W 0 m σ H)∧∀i m σ H,W i m σ H→
   ((U0 K a xs.length).stop i H∧D.nx σ H)∨((U0 K a xs.length).go i H∧∃N:St→Hp→Prop,(∀σ' H',N σ' H'→∃m',m' < m∧W (i+1) m' σ' H')∧∀x H',(U0 K a xs.length).Rx i H x H'→g x σ H' fun σ2 H2=>tb {D with nx:=N,ct:=N,bk:=D.nx} σ2 H2):=by
 refine ⟨fun i m σ H=>m=xs.length - i∧i≤xs.length∧Pv i σ H,⟨xs.length,by simp,Nat.zero_le _,h0⟩,?_⟩
 rintro i m σ H ⟨rfl,hi,p⟩
 have q:=hl i σ H hi p
 by_cases hlt:i < xs.length
 ·refine .inr ⟨⟨hlt,xs,xs[xs.length - 1 - i]'(by omega),q,List.getElem?_eq_getElem _⟩,Pv (i+1),fun σ' H' p'=>⟨xs.length - (i+1),by omega,rfl,hlt,p'⟩,fun x H' y=>?_⟩
  obtain ⟨e,y⟩:=y
  subst e
  exact hs i x σ _ hlt (y xs q) p
 ·have e:i=xs.length:=by omega
  subst e
  exact .inl ⟨Nat.le_refl _,hd σ H p⟩
theorem O7{lo c:Int}{n:Nat}{g:TG}{tt:TT}{te:TE}{vs:List Nat}{σ:St}{H1:Hp}{D:Addr}{Qd:Hp→Prop}(Pv:Nat→Hp→Prop)(h0:Pv 0 (upd H1 D (.lst [])))
  (hs:∀i H,i < n→Pv i H→g (.int (lo+ (i:Nat) * c)) (wipe σ vs) H fun σ2 H2=>wipe σ2 vs=wipe σ vs∧tt σ2 H2 fun b H3=>
   if b=true then te σ2 H3 fun y H4=>∃acc,H4 D=some (.lst acc)∧acc.length < sizeLine∧Pv (i+1) (upd H4 D (.lst (acc ++ [y]))) else Pv (i+1) H3) (hd:∀H,Pv n H→Qd H):
  ∃W:Nat→Nat→Hp→Prop,(∃m,W 0 m (upd H1 D (.lst [])))∧∀i m H,W i m H→
   ((Vc lo c n).stop i H∧Qd H)∨((Vc lo c n).go i H∧∃Nx:Hp→Prop,(∀H',Nx H'→∃m',m' < m∧W (i+1) m' H')∧∀x H',(Vc lo c n).Rx i H x H'→g x (wipe σ vs) H' fun σ2 H2=>wipe σ2 vs=wipe σ vs∧tt σ2 H2 fun b H3=>
    if b=true then te σ2 H3 fun y H4=>∃acc,H4 D=some (.lst acc)∧acc.length < sizeLine∧Nx (upd H4 D (.lst (acc ++ [y]))) else Nx H3):=by
 refine ⟨fun i m H=>m=n - i∧i≤n∧Pv i H,⟨n,by simp,Nat.zero_le _,h0⟩,?_⟩
 rintro i m H ⟨rfl,hi,p⟩
 by_cases hlt:i < n
 ·refine .inr ⟨hlt,Pv (i+1),fun H' p'=>⟨n - (i+1),by omega,rfl,hlt,p'⟩,fun x H' y=>?_⟩
  obtain ⟨e,y⟩:=y
  subst e y
  exact hs i _ hlt p
 ·have e:i=n:=by omega
  subst e
  exact .inl ⟨Nat.le_refl _,hd H p⟩
end L2
namespace L2
open PySem PySem.Spec PyProof.Rows
theorem RA{d:Addr}{o:Obj}{aB:List (Key × V)}{g:TG}{tt:TT}{te:TE}{vs:List Nat}{σ:St}{H1:Hp}{D:Addr}{Qd:Hp→Prop}(Pv:Nat→Hp→Prop)(h0:Pv 0 (upd H1 D (.lst [])))(hl:∀i H,i≤aB.length→Pv i H→H d=some (.pV o (.dK aB)))
  (hs:∀i k v H,aB[i]? = some (k,v)→Pv i H→g (kV k) (wipe σ vs) H fun σ2 H2=>wipe σ2 vs=wipe σ vs∧tt σ2 H2 fun b H3=>
   if b=true then te σ2 H3 fun y H4=>∃acc,H4 D=some (.lst acc)∧acc.length < sizeLine∧Pv (i+1) (upd H4 D (.lst (acc ++ [y]))) else Pv (i+1) H3) (hd:∀H,Pv aB.length H→Qd H):
  ∃W:Nat→Nat→Hp→Prop,(∃m,W 0 m (upd H1 D (.lst [])))∧∀i m H,W i m H→
   ((Vw d o aB).stop i H∧Qd H)∨((Vw d o aB).go i H∧∃Nx:Hp→Prop,(∀H',Nx H'→∃m',m' < m∧W (i+1) m' H')∧∀x H',(Vw d o aB).Rx i H x H'→g x (wipe σ vs) H' fun σ2 H2=>wipe σ2 vs=wipe σ vs∧tt σ2 H2 fun b H3=>
    if b=true then te σ2 H3 fun y H4=>∃acc,H4 D=some (.lst acc)∧acc.length < sizeLine∧Nx (upd H4 D (.lst (acc ++ [y]))) else Nx H3):=by
 refine ⟨fun i m H=>m=aB.length - i∧i≤aB.length∧Pv i H,⟨aB.length,by simp,Nat.zero_le _,h0⟩,?_⟩
 rintro i m H ⟨rfl,hi,p⟩
 have q:=hl i H hi p
 by_cases hlt:i < aB.length
 ·refine .inr ⟨⟨q,hlt⟩,Pv (i+1),fun H' p'=>⟨aB.length - (i+1),by omega,rfl,hlt,p'⟩,fun x H' y=>?_⟩
  obtain ⟨e,k,v,y1,y2⟩:=y
  subst e y2
  exact hs i k v _ y1 p
 ·have e:i=aB.length:=by omega
  subst e
  exact .inl ⟨⟨q,Nat.le_refl _⟩,hd H p⟩
end L2
namespace L2
open PySem PySem.Spec PyProof.Rows
def QH(l:List (Int × Sp))(ti:TE)(ta:TA):TE:=fun σ H Q=>ti σ H fun x H1=>∃k sp,x= .int k∧l.lookup k=some sp∧ta σ H1 fun vs H2=>sp vs H2 Q E0
end L2
namespace L2
open PySem PySem.Spec PyProof.Rows
section
variable{X:Cx}{i e:Expr}{es:List Expr}{ti:TE}{ta:TA}{x:Str}{p1 p2 pos:Pos}{ps:List Str}
theorem So{l:List (Int × Sp)}{d:Addr}{ds:Array DictEntry}{ep:Nat}{vs:List (Key × Value)}(hi:PE X i ti)(ha:PA X (e::es) ta)(hg:Gl X x)(hm:X.mg x=some (.ref d))(hd:X.K.lookup d=some ⟨.type "dict",none,.dict ds ep,#[]⟩)
  (hk:KeysOf (cI X.prog X.w) ds) (hp:Pairs (cI X.prog X.w) ds.toList vs) (hnd:(vs.map (·.1)).Nodup)
  (hl:∀k sp,l.lookup k=some sp→∃f fd n,valueAt vs (Sum.inl k)=some (.ref f)∧iE n X.A∧bp X.prog X.w X.K X.mg X.base cx n f fd ps sp∧PySem.W.keepIn X.K (.ref f)=true∧Binds X.K fd ps [])
  (hs:RE i) (hdb:(x == ("__debug__":Str))=false:=by decide) (he:starEach (e::es) X.env= (false,eval e X.env)::starEach es X.env:=by rfl) (hpl:(backTo pos (starEach es X.env)).any (·.1)=false:=by rfl):
  PE X (.Call (.Subscript (.Name x p1) i p2) (e::es) [] pos) (QH l ti ta):=by
 intro pins s σ H Q I h
 show wpAny (model X.prog X.w) X.A (do callWith pos (←eval (.Subscript (.Name x p1) i p2) X.env) [] (backTo pos (starEach (e::es) X.env)) (backToKw pos (keywordEach [] X.env))) _ _ s
 refine wpAny_bind (NS PySem.F.slot_dict_getitem.lookup hs (Cq I hg hm (c7 (hi pins s σ H _ I h) fun iv s1 ⟨y,H1,I1,ry,k,sp,ey,hk1,q1⟩=>?_) hdb))
 subst ey
 obtain ⟨f,fd,n,hv,hr,F,hkf,hb⟩:=hl k sp hk1
 have ho:=I1.Lo d _ hd
 have dd:s1.heap.DictOf (cI X.prog X.w) d vs:=⟨_,ds,ep,ho,⟨rfl,rfl,rfl⟩,rfl,hk,hp,hnd⟩
 refine ⟨⟨_,ho,rfl⟩,wpAny_getItem_of (GJ (k:=Sum.inl k) ry) dd.mapOf hv ?_⟩
 refine PySem.W.callWith_K (h₀:=X.base) I.ok.mod.UD hkf (c7 (ha pos pins _ σ H1 _ (I1.tok _) q1) fun us s2 ⟨vs2,H2,I2,r,q⟩=>⟨I2.Lo,?_⟩) he hpl
 exact Ic F hr hb .nil K8 I2 r (by rw [List.append_nil];exact q)
end
theorem d6:bootBuiltins "len" = some (.builtin "len"):=by decide +kernel
theorem T1:bootBuiltins "any" = some (.builtin "any"):=by decide +kernel
theorem Q1:bootBuiltins "sum" = some (.builtin "sum"):=by decide +kernel
theorem Ma:bootBuiltins "max" = some (.builtin "max"):=by decide +kernel
theorem Tp:bootBuiltins "min" = some (.builtin "min"):=by decide +kernel
theorem MQ:bootBuiltins "list" = some (.type "list"):=by decide +kernel
section
variable{K:PySem.W.Frag}{mg:Str→Option Value}{h:Heap}{x q:Str}{st:Stmt}{C f:Addr}{fd:FuncData}{ps:List Str}
structure dM(K:PySem.W.Frag)(mg:Str→Option Value)(x:Str)(st:Stmt)(f:Addr)(fd:FuncData)(ps:List Str):Prop where
 F:RV K x x st f fd
 b:Binds K fd ps []
 m:mg x=some (.ref f)
structure Oq(K:PySem.W.Frag)(C:Addr)(x q:Str)(st:Stmt)(f:Addr)(fd:FuncData)(ps:List Str):Prop where
 F:RV K x q st f fd
 b:Binds K fd ps []
 h:Meth K C x f
structure UC(K:PySem.W.Frag)(mg:Str→Option Value)(C:Addr)(x q:Str)(st:Stmt)(f:Addr)(fd:FuncData)(ps:List Str):Prop where
 F:RV K "__init__" q st f fd
 b:Binds K fd ps []
 k:Mk K C f
 m:mg x=some (.ref C)
abbrev lS(x q:Str)(st:Stmt)(ps:List Str):Prop:=∀(kV doc pm:Value)(an:Option Addr)(cdv ct:Value)(us:List Value),us.length=ps.length→bindArgs (PySem.W.fnOf x q (vh st) (ox st) (ar st) .none kV doc pm an cdv ct) ⟨us,[]⟩=pure (ps.zip us)
end
section
variable{X:Cx}{e o:Expr}{es:List Expr}{t to:TE}{ta:TA}{x q:Str}{p p2 pos:Pos}{ps:List Str}{st:Stmt}{C f:Addr}{fd:FuncData}{sp:Sp}{k n:Nat}{pl:Sem Bool}
theorem pf(hr:iE n X.A)(D:dM X.K X.mg x st f fd ps)(G:bp X.prog X.w X.K X.mg X.base cx k f fd ps sp)(ha:PA X (e::es) ta)(hn:k≤n:=by decide)(hg:Gl X x:=by rfl)
  (hdb:(x == ("__debug__":Str))=false:=by decide) (he:starEach (e::es) X.env= (false,eval e X.env)::starEach es X.env:=by rfl) (hpl:(backTo pos (starEach es X.env)).any (·.1)=false:=by rfl):
  PE X (.Call (.Name x p) (e::es) [] pos) (az sp [] E0 ta):=SI G (hr.mono hn) hg D.m D.F.kp D.b .nil K8 ha hdb he hpl
theorem pn(hr:iE n X.A)(D:UC X.K X.mg C x q st f fd ps)(G:bp X.prog X.w X.K X.mg X.base cx k f fd ps sp)(ha:PA X (e::es) ta)(hn:k+1≤n:=by decide)(hg:Gl X x:=by rfl)
  (hdb:(x == ("__debug__":Str))=false:=by decide) (he:starEach (e::es) X.env= (false,eval e X.env)::starEach es X.env:=by rfl) (hpl:(backTo pos (starEach es X.env)).any (·.1)=false:=by rfl):
  PE X (.Call (.Name x p) (e::es) [] pos) (Bu C sp [] E0 ta):=RJ D.k G (hr.mono hn) hg D.m D.b .nil K8 ha hdb he hpl
theorem pm(hr:iE n X.A)(c:K2 X.K C)(D:Oq X.K C x q st f fd ps)(G:bp X.prog X.w X.K X.mg X.base cx k f fd ps sp)(ho:PE X o to)(ha:PA X (e::es) ta)(hn:k≤n:=by decide)
  (he:starEach (e::es) X.env= (false,eval e X.env)::starEach es X.env:=by rfl) (hpl:(backTo pos (starEach es X.env)).any (·.1)=false:=by rfl)
  (ht:eval (.Call (.Attribute o x p) (e::es) [] pos) X.env= (do
   let ov ←eval o X.env
   standAt p.atName
   let (f,first) ←holding [ov] (getMethod ov x pl)
   callWith pos f first (backTo pos (starEach (e::es) X.env)) (backToKw pos (keywordEach [] X.env))):=by rfl):
  PE X (.Call (.Attribute o x p) (e::es) [] pos) (cp C x sp [] E0 to ta):=RW ho c D.h G (hr.mono hn) D.b .nil K8 ha he hpl ht
theorem Cy(hr:iE n X.A)(c:K2 X.K C)(D:Oq X.K C x q st f fd ps)(G:bp X.prog X.w X.K X.mg X.base cx k f fd ps sp)(ho:PE X o to)(hn:k≤n:=by decide)
  (ht:eval (.Call (.Attribute o x p) [] [] pos) X.env= (do
   let ov ←eval o X.env
   standAt p.atName
   let (f,first) ←holding [ov] (getMethod ov x pl)
   callWith pos f first (backTo pos (starEach [] X.env)) (backToKw pos (keywordEach [] X.env))):=by rfl):
  PE X (.Call (.Attribute o x p) [] [] pos) (cp C x sp [] E0 to aw):=Ql ho c D.h G (hr.mono hn) D.b .nil K8 ht
end
section
variable{P:Program}{w:World}{K:PySem.W.Frag}{mg:Str→Option Value}{base:Heap}
theorem aY{x q:Str}{st:Stmt}{f:Addr}{fd:FuncData}{N ps:List Str}{k:Nat}{sp:Sp}{R:TS}(F:RV K x q st f fd)(S:aA N ps (ar st))(len:∀vs H Q E,sp vs H Q E→vs.length=ps.length)
  (rd:∀vs H Q E,sp vs H Q E→R {nx:=fun _ H'=>Q .bB H',rt:=Q} (start N vs) H)
  (hb:∀(cdv:Value)(A:Around)(outer:List Env)(s:Shared)(H:Hp)(E:XK),iE k (A.deeper (envOfC q (ar st) s.heap.objs.size f cdv))→(A.deeper (envOfC q (ar st) s.heap.objs.size f cdv)).units+1 < cLine→
   NN (Me cx P w K mg base N q (ar st) f cdv A outer s H E).Vf (ox st) R):bp P w K mg base cx (k+1) f fd ps sp:=
 F.ok S len fun cdv A outer s H vs Q E hr h=>⟨R,hb cdv A outer s H E hr (U2 hr),rd vs H Q E h⟩
end
end L2
namespace Fn
open PySem L2
structure bh where
 bR:Addr
 aC:Addr
 bL:Addr
 bq:Addr
 nE:Addr
 xR:Addr
 yA:Addr
 je:Addr
 zh:Addr
 qE:Addr
 rG:Addr
 fW:Addr
 nI:Addr
 fM:Addr
 qh:Addr
 rC:Addr
 ip:Addr
 il:Addr
 fg:Addr
 NL:Addr
 lK:Addr
 nU:Addr
 qL:Addr
 ig:Addr
 hR:Addr
 nN:Addr
 fL:Addr
 rX:Addr
 jX:Addr
 gn:Addr
 dt:Addr
 eV:Addr
 nQ:Addr
 eU:Addr
 dC:Addr
 fb:Addr
 j6:Addr
 i7:Addr
 zd:Addr
 jt:Addr
 kc:Addr
 zl:Addr
 oJ:Addr
 oI:Addr
 Cr:Addr
 n9:Addr
 rB:Addr
 hV:Addr
 zw:Addr
 lz:Addr
 hZ:Addr
 qi:Addr
 j5:Addr
 hY:Addr
 fN:Addr
 hU:Addr
 kh:Addr
 jZ:Addr
 i0:Addr
 Cv:Addr
 vd:Addr
 Ck:Addr
 lu:Addr
 nM:Addr
 gZ:Addr
 jv:Addr
 nP:Addr
 dG:Addr
 lE:Addr
 jo:Addr
 hX:Addr
 lr:Addr
 ot:Addr
 l9:Addr
 lC:Addr
 i6:Addr
 lp:Addr
 rW:Addr
 qT:Addr
 vk:Addr
 rK:Addr
 uR:Addr
 y9:Addr
 zi:Addr
 rZ:Addr
 qG:Addr
 ir:Addr
 fj:Addr
 dm:Addr
 eX:Addr
 lP:Addr
 d5:Addr
 fI:Addr
 fH:Addr
 iK:Addr
 iI:Addr
 ef:Addr
 eg:Addr
 uW:Addr
 Cw:Addr
structure cU(K:PySem.W.Frag)(t:bh):Prop where
 bH:K2 K t.bR
 bT:b0 K t.bR "size"
 jM:b0 K t.bR "readable"
 jQ:b0 K t.bR "writable"
 jJ:b0 K t.bR "mappable"
 bZ:b0 K t.bR "value"
 ax:K2 K t.aC
 cO:b0 K t.aC "number"
 zr:b0 K t.aC "table"
 bY:b0 K t.aC "now"
 mD:b0 K t.aC "row"
 aD:b0 K t.aC "entries"
 bJ:b0 K t.aC "state"
 bN:b0 K t.aC "hand"
 nD:b0 K t.aC "kept"
 fJ:b0 K t.aC "changed"
 eG:b0 K t.aC "heard_at"
 dh:b0 K t.aC "heart_from"
 lQ:b0 K t.aC "marks"
 pX:b0 K t.aC "work_from"
 ju:b0 K t.aC "sent_at"
 cq:K2 K t.bL
 vA:b0 K t.bL "is_set"
 iJ:b0 K t.bL "key"
 cV:b0 K t.bL "row"
 d0:b0 K t.bL "turn"
 bM:K2 K t.bq
 fY:b0 K t.bq "numbers"
 fD:b0 K t.bq "at"
def bV(b:List Nat):List V:=b.map fun (x:Nat)=>V.int (x:Int)
theorem bz(b:List Nat):(bV b).length=b.length:=List.length_map _
def bD(i u:Nat):Int:=(i:Int) * 256+ (u:Int)
def gQ(e:Sa32.Ent):Key:=Sum.inl (bD e.index e.sub)
def nu(e:Sa32.Ent):List (Str × V):=
 [("size",.int (e.val.length:Int)),("readable",.bl e.r),("writable",.bl e.w),("mappable",.bl e.m),("value",.int (Sa32.num e.val:Int))]
def D4(t:bh)(H:Hp)(a:Addr)(e:Sa32.Ent):Prop:=∃dx,H a=some (.ins t.bR dx (nu e))
structure cK(t:bh)(H:Hp)(d:Addr)(aB:List (Key × V))(l:List Sa32.Ent):Prop where
 dict:H d=some (.dK aB)
 look:∀e,e ∈ l→∃a,bS aB (gQ e)=some (.ref a)∧D4 t H a e
 only:∀k v,bS aB k=some v→∃e,e ∈ l∧k=gQ e
 inj:∀k k' a,bS aB k=some (.ref a)→bS aB k'=some (.ref a)→k=k'
 len:aB.length≤200
structure NF where
 number:Int
 tb:Addr
 now:Int
 rw:Addr
 en:Addr
 state:Int
 hd:V
 kp:Addr
 ch:Addr
 ha:Addr
 cT:Int
 marks:Int
 dU:Int
 sa:Addr
 aB:List (Key × V)
 hf:List Addr
def NF.fs(x:NF):List (Str × V):=
 [("number",.int x.number),("table",.ref x.tb),("now",.int x.now),("row",.ref x.rw),("entries",.ref x.en),("state",.int x.state),("hand",x.hd),("kept",.ref x.kp),("changed",.ref x.ch),("heard_at",.ref x.ha),
   ("heart_from",.int x.cT),("marks",.int x.marks),("work_from",.int x.dU),("sent_at",.ref x.sa)]
def NF.F(x:NF)(p:Addr):Addr→Prop:=fun b=>b ∈ [p,x.rw,x.en,x.kp,x.ch,x.ha,x.sa]∨(∃k,bS x.aB k=some (.ref b))∨b ∈ x.hf
def r9(H:Hp)(F:Addr→Prop)(a:Addr)(f:Nat × List Nat):Prop:=∃d,H a=some (.tup [.int (f.1:Int),.ref d])∧H d=some (.lst (bV f.2))∧¬F d
def cy(isSet:Bool)(key:Int)(l:Addr)(turn:Int):List (Str × V):=[("is_set",.bl isSet),("key",.int key),("row",.ref l),("turn",.int turn)]
def cN(b:Bool):Int:=if b=true then 16 else 0
def kZ(t:bh)(H:Hp):Sa32.Hand→V→List Addr→Prop
 | .none,v,F=>v= .bB∧F = []
 | .down i u got bit,v,F=>∃h l dx,v= .ref h∧F = [h,l]∧H h=some (.ins t.bL dx (cy true (bD i u) l (cN bit)))∧H l=some (.lst (bV got))
 | .up i u left bit,v,F=>∃h l dx,v= .ref h∧F = [h,l]∧H h=some (.ins t.bL dx (cy false (bD i u) l (cN bit)))∧H l=some (.lst (bV left))
def LL:Option Nat→V
 | none=> .bB
 | some x=> .int (x:Int)
def wU(H:Hp)(F:Addr→Prop):V→Option (List Nat)→Prop
 | v,none=>v= .bB
 | v,some b=>∃a,v= .ref a∧H a=some (.lst (bV b))∧¬F a
def dH(g:Sa32.Going):V:=if g.sent=true then .int (g.at_:Int) else .bB
def cM(e:Sa32.Ent):Sa32.Ent:={e with val:=Sa32.zeros e.val.length}
def TabOf(bs:List Nat)(l:List Sa32.Ent):Prop:=ft bs∧bs.length % 8=0∧bs.length≤512∧Sa32.tableOf bs (bs.length / 8)=some (l.map cM)
structure aN(t:bh)(H:Hp)(p:Addr)(s:Sa32.St)(x:NF):Prop where
 ob:∃dx,H p=some (.ins t.aC dx x.fs)
 number:x.number= (s.node:Int)
 now:x.now= (s.now:Int)
 state:x.state= (s.state:Int)
 beat:x.cT= (s.beat:Int)
 row:∃ts:List Addr,H x.rw=some (.lst (ts.map V.ref))∧Paired (r9 H (x.F p)) ts s.out
 ents:cK t H x.en x.aB (s.table ++ s.own)
 kept:∃ks:List V,H x.kp=some (.lst ks)∧Paired (wU H (x.F p)) ks s.kept
 chg:H x.ch=some (.lst (s.going.map fun g=> .bl g.changed))
 heard:H x.ha=some (.lst (s.heard.map LL))
 sent:H x.sa=some (.lst (s.going.map dH))
 marks:∀g,g ∈ s.going→(g.marks:Int)=x.marks
 work:∀g,g ∈ s.going→g.sent=false→s.state=5→(g.at_:Int)=x.dU
 hand:kZ t H s.hand x.hd x.hf
 table:∃bs,H x.tb=some (.lst (bV bs))∧¬x.F p x.tb∧TabOf bs s.table
 nd:([p,x.rw,x.en,x.kp,x.ch,x.ha,x.sa] ++ x.hf).Nodup
structure bX(H:Hp)(F:Addr→Prop)(H':Hp)(F':Addr→Prop):Prop where
 old:∀b o,H b=some o→¬F b→H' b=some o
 foot:∀b,F' b→F b∨H b=none
 Jm:∀b,H' b=none→H b=none
theorem bX.refl(H:Hp)(F:Addr→Prop):bX H F H F:=⟨fun _ _ h _=>h,fun _ h=> .inl h,fun _ h=>h⟩
theorem bX.trans{H H1 H2:Hp}{F F1 F2:Addr→Prop}(a:bX H F H1 F1)(b:bX H1 F1 H2 F2):bX H F H2 F2:=
 ⟨fun c o h n=>b.old c o (a.old c o h n) fun z=>(a.foot c z).elim n fun q=>(by rw [h] at q;cases q),
   fun c z=>(b.foot c z).elim (a.foot c) fun q=> .inr (a.Jm c q),fun c h=>a.Jm c (b.Jm c h)⟩
theorem _root_.L2.aP.Jm{H H':Hp}(s:aP H H')(b:Addr)(h:H' b=none):H b=none:=s.free h
theorem _root_.L2.aP.keep{H H':Hp}(s:aP H H')(F:Addr→Prop):bX H F H' F:=⟨fun b o h _=>s b o h,fun _ h=> .inl h,fun b h=>s.free h⟩
theorem _root_.L2.aP.new{H:Hp}{a:Addr}{o:HO}(h:H a=none):aP H (upd H a o):=fun b u e=>by
 rw [aL (aE e h)]
 exact e
theorem bX.same{H H1 H2:Hp}{F F1:Addr→Prop}(a:bX H F H1 F1)(s:aP H1 H2):bX H F H2 F1:=a.trans (s.keep F1)
theorem D4.mono{t:bh}{H H':Hp}{a:Addr}{e:Sa32.Ent}(h:D4 t H a e)(k:∀o,H a=some o→H' a=some o):D4 t H' a e:=by
 obtain ⟨dx,h⟩:=h
 exact ⟨dx,k _ h⟩
theorem cK.mono{t:bh}{H H':Hp}{d:Addr}{aB:List (Key × V)}{l:List Sa32.Ent}(E:cK t H d aB l)(k:∀b o,(b=d∨∃k,bS aB k=some (.ref b))→H b=some o→H' b=some o):cK t H' d aB l:=
 ⟨k d _ (.inl rfl) E.dict,fun e he=>by
  obtain ⟨a,h1,h2⟩:=E.look e he
  exact ⟨a,h1,h2.mono fun o ho=>k a o (.inr ⟨_,h1⟩) ho⟩,E.only,E.inj,E.len⟩
theorem cK.same{t:bh}{H H':Hp}{d:Addr}{aB:List (Key × V)}{l:List Sa32.Ent}(E:cK t H d aB l)(s:aP H H'):cK t H' d aB l:=E.mono fun b o _ h=>s b o h
theorem kZ.mono{t:bh}{H H':Hp}{h:Sa32.Hand}{v:V}{F:List Addr}(A:kZ t H h v F)(k:∀b o,b ∈ F→H b=some o→H' b=some o):kZ t H' h v F:=by
 cases h with
 | none=>exact A
 | down i u g b=>
  obtain ⟨h,l,dx,e1,rfl,e2,e3⟩:=A
  exact ⟨h,l,dx,e1,rfl,k h _ (by simp) e2,k l _ (by simp) e3⟩
 | up i u g b=>
  obtain ⟨h,l,dx,e1,rfl,e2,e3⟩:=A
  exact ⟨h,l,dx,e1,rfl,k h _ (by simp) e2,k l _ (by simp) e3⟩
theorem aN.same{t:bh}{H H':Hp}{p:Addr}{s:Sa32.St}{x:NF}(N:aN t H p s x)(sm:aP H H'):aN t H' p s x:=by
 obtain ⟨dx,ob⟩:=N.ob
 obtain ⟨ts,r1,r2⟩:=N.row
 obtain ⟨ks,k1,k2⟩:=N.kept
 obtain ⟨bs,b1,b2,b3⟩:=N.table
 exact ⟨⟨dx,sm _ _ ob⟩,N.number,N.now,N.state,N.beat,
  ⟨ts,sm _ _ r1,Paired.imp' (fun a f ⟨d,h1,h2,h3⟩=>⟨d,sm _ _ h1,sm _ _ h2,h3⟩) r2⟩,N.ents.same sm,
  ⟨ks,sm _ _ k1,Paired.imp' (fun v o h=>by
   cases o with
   | none=>exact h
   | some b=>obtain ⟨a,h1,h2,h3⟩:=h;exact ⟨a,h1,sm _ _ h2,h3⟩) k2⟩,
  sm _ _ N.chg,sm _ _ N.heard,sm _ _ N.sent,N.marks,N.work,N.hand.mono fun b o _ h=>sm b o h,⟨bs,sm _ _ b1,b2,b3⟩,N.nd⟩
theorem GU{f:Str}{v:V}:∀{fs:List (Str × V)},f ∉ fs.map (·.1)→bI f v fs=fs ++ [(f,v)]
 | [],_=>rfl
 | (g,x)::r,h=>by
  have h1:¬g=f:=fun z=>h (by rw [z];exact List.mem_cons_self)
  show (if g=f then (g,v)::r else (g,x)::bI f v r)=_
  rw [if_neg h1,GU fun z=>h (List.mem_cons_of_mem _ z)]
  rfl
theorem cC(ks:List Str){f:Str}{v:V}{fs:List (Str × V)}(hk:fs.map (·.1)=ks)(h:f ∉ ks):bI f v fs=fs ++ [(f,v)]:=GU (by rw [hk];exact h)
theorem bE{f:Str}{v:V}{fs:List (Str × V)}:((f,v)::fs).lookup f=some v:=by simp [List.lookup]
theorem af{f g:Str}{v:V}{fs:List (Str × V)}(h:¬f=g):((g,v)::fs).lookup f=fs.lookup f:=by
 rw [List.lookup_cons,beq_eq_false_iff_ne.mpr h]
theorem fE(e:Sa32.Ent):(nu e).lookup ("value":Str)=some (V.int (Sa32.num e.val:Int)):=by
 unfold nu
 rw [af (by decide +kernel),af (by decide +kernel),af (by decide +kernel),af (by decide +kernel),bE]
theorem cR(e:Sa32.Ent):(nu e).lookup ("size":Str)=some (V.int (e.val.length:Int)):=bE
theorem wc(e:Sa32.Ent):(nu e).lookup ("readable":Str)=some (V.bl e.r):=by
 unfold nu
 rw [af (by decide +kernel),bE]
theorem vI(e:Sa32.Ent):(nu e).lookup ("writable":Str)=some (V.bl e.w):=by
 unfold nu
 rw [af (by decide +kernel),af (by decide +kernel),bE]
theorem vY(e:Sa32.Ent):(nu e).lookup ("mappable":Str)=some (V.bl e.m):=by
 unfold nu
 rw [af (by decide +kernel),af (by decide +kernel),af (by decide +kernel),bE]
end Fn
namespace Fn
open PySem L2
def pE(H:Hp)(Q:VK)(v:V):Prop:=∀H',aP H H'→Q v H'
def PD(H:Hp)(Q:VK)(b:List Nat):Prop:=∀l H',aP H H'→H l=none→H' l=some (.lst (bV b))→Q (.ref l) H'
def dn(t:bh)(H:Hp)(p:Addr)(x:NF)(s':Sa32.St)(Q:VK)(v:V):Prop:=∀H' x',aN t H' p s' x'→bX H (x.F p) H' (x'.F p)→Q v H'
def cE(K:PySem.W.Frag)(t:bh):Sp:=fun vs H Q _=>∃a bs,vs = [.ref a]∧H a=some (.lst (bV bs))∧Q (.int ((Sa32.num bs:Nat):Int)) H
def gB(K:PySem.W.Frag)(t:bh):Sp:=fun vs H Q _=>∃n k:Nat,vs = [.int (n:Int),.int (k:Int)]∧k≤8∧PD H Q (Sa32.le k n)
def jU(K:PySem.W.Frag)(t:bh):Sp:=fun vs H Q _=>∃a bs,∃k:Nat,vs = [.ref a,.int (k:Int)]∧H a=some (.lst (bV bs))∧bs.length≤100∧k≤8∧PD H Q (bs ++ Sa32.zeros (k - bs.length))
def ez(K:PySem.W.Frag)(t:bh):Sp:=fun vs H Q _=>∃x dx k r w m v,vs = [.ref x,.int k,.bl r,.bl w,.bl m,.int v]∧H x=some (.ins t.bR dx [])∧
 ∀H',(∀b,b ≠ x→H' b=H b)→H' x=some (.ins t.bR dx [("size",.int k),("readable",.bl r),("writable",.bl w),("mappable",.bl m),("value",.int v)])→Q .bB H'
def cS(K:PySem.W.Frag)(t:bh):Sp:=fun vs H Q _=>∃i u,vs = [.int i,.int u]∧Q (.int (i * 256+u)) H
def br(K:PySem.W.Frag)(t:bh):Sp:=fun vs H Q _=>∃d aB s,∃i u:Nat,vs = [.ref d,.int (i:Int),.int (u:Int)]∧cK t H d aB (Sa32.St.table s ++ s.own)∧(∃e,s.ent i u=some e)∧Q (.int ((s.num i u:Nat):Int)) H
def lT(K:PySem.W.Frag)(t:bh):Sp:=fun vs H Q _=>∃d aB l,∃i:Nat,vs = [.ref d,.int (i:Int)]∧cK t H d aB l∧(∀e,e ∈ l→e.sub < 256)∧pE H Q (.bl (l.any fun e=>e.index == i))
def kn(K:PySem.W.Frag)(t:bh):Sp:=fun vs H Q _=>∃a bs,vs = [.ref a]∧H a=some (.lst (bV bs))∧bs.length % 8=0∧bs.length≤512∧
 ∀(l:Addr)(ls:List Addr)(H':Hp),aP H H'→H l=none→H' l=some (.lst (ls.map V.ref))→ls.length=bs.length / 8→(∀i a,ls[i]? = some a→H' a=some (.lst (bV ((bs.drop (8 * i)).take 8))))→Q (.ref l) H'
def fQ(K:PySem.W.Frag)(t:bh):Sp:=fun vs H Q _=>∃a b,vs = [.ref a]∧H a=some (.lst (bV b))∧b.length=8∧ft b∧pE H Q (.bl (Sa32.entOf b).isSome)
def kG(K:PySem.W.Frag)(t:bh):Sp:=fun vs H Q _=>∃a b,vs = [.ref a]∧H a=some (.lst (bV b))∧b.length=8∧pE H Q (.int (bD (Sa32.num (b.take 2)) (b.getD 2 0)))
def eQ(K:PySem.W.Frag)(t:bh):Sp:=fun vs H Q _=>∃a bs,vs = [.ref a]∧H a=some (.lst (bV bs))∧ft bs∧bs.length % 8=0∧bs.length≤100000∧
 pE H Q (.bl (decide (bs.length≤512) && (Sa32.tableOf bs (bs.length / 8)).isSome))
def gu(K:PySem.W.Frag)(t:bh):Sp:=fun vs H Q _=>∃a bs l,vs = [.ref a]∧H a=some (.lst (bV bs))∧ft bs∧bs.length % 8=0∧bs.length≤512∧Sa32.tableOf bs (bs.length / 8)=some l∧
 ∀d aB H',aP H H'→H d=none→cK t H' d aB l→(∀k b,bS aB k=some (.ref b)→H b=none)→aB.length≤64→Q (.ref d) H'
structure gL(t:bh)(H:Hp)(d:Addr)(aB:List (Key × V))(l:List Sa32.Ent)(H':Hp)(kvs':List (Key × V))(l':List Sa32.Ent):Prop where
 ents:cK t H' d kvs' l'
 keep:∀b o,b ≠ d→H b=some o→H' b=some o
 fresh:∀k b,bS kvs' k=some (.ref b)→(∃k',bS aB k'=some (.ref b))∨H b=none
 len:kvs'.length+l.length≤aB.length+l'.length
 nd:(aB.map (·.1)).Nodup→(kvs'.map (·.1)).Nodup
def xZ(w:Bool):Str:=if w=true then "rw" else "r"
def dz(K:PySem.W.Frag)(t:bh):Sp:=fun vs H Q _=>∃d aB l,∃i u k v:Nat,∃w:Bool,vs = [.ref d,.int (i:Int),.int (u:Int),.int (k:Int),.str (xZ w),.int (v:Int)]∧cK t H d aB l∧
 (∀e,e ∈ l→e.sub < 256∧¬(e.index=i∧e.sub=u))∧u < 256∧v < 256 ^ k∧aB.length < 200∧∀H' kvs',gL t H d aB l H' kvs' (l ++ [oE i u w k v])→Q .bB H'
def listE(i:Nat):List Sa32.Ent:=oE i 0 true 1 0::(List.range 8).map fun j=>oE i (j+1) true 4 0
def md(n k:Nat):List Sa32.Ent:=[oE (0x1400+k) 0 false 1 2,oE (0x1400+k) 1 true 4 (Sa32.OFF+0x200+0x100 * k+n),oE (0x1400+k) 2 true 1 0xFF] ++ listE (0x1600+k)
def wX(n k:Nat):List Sa32.Ent:=[oE (0x1800+k) 0 false 1 5,oE (0x1800+k) 1 true 4 (Sa32.OFF+0x180+0x100 * k+n),oE (0x1800+k) 2 true 1 0xFF,oE (0x1800+k) 3 true 2 0,oE (0x1800+k) 5 true 2 0] ++ listE (0x1A00+k)
def kq(K:PySem.W.Frag)(t:bh):Sp:=fun vs H Q _=>∃d aB l,∃i:Nat,vs = [.ref d,.int (i:Int)]∧cK t H d aB l∧(∀e,e ∈ l→e.sub < 256∧e.index ≠ i)∧aB.length+9≤200∧
 ∀H' kvs',gL t H d aB l H' kvs' (l ++ listE i)→Q .bB H'
def ki(K:PySem.W.Frag)(t:bh):Sp:=fun vs H Q _=>∃d aB l,∃k n:Nat,vs = [.ref d,.int (k:Int),.int (n:Int)]∧cK t H d aB l∧(∀e,e ∈ l→e.sub < 256∧e.index ≠ 0x1400+k∧e.index ≠ 0x1600+k)∧k < 4∧n≤127∧aB.length+12≤200∧
 ∀H' kvs',gL t H d aB l H' kvs' (l ++ md n k)→Q .bB H'
def lG(K:PySem.W.Frag)(t:bh):Sp:=fun vs H Q _=>∃d aB l,∃k n:Nat,vs = [.ref d,.int (k:Int),.int (n:Int)]∧cK t H d aB l∧(∀e,e ∈ l→e.sub < 256∧e.index ≠ 0x1800+k∧e.index ≠ 0x1A00+k)∧k < 4∧n≤127∧aB.length+14≤200∧
 ∀H' kvs',gL t H d aB l H' kvs' (l ++ wX n k)→Q .bB H'
def d8(K:PySem.W.Frag)(t:bh):Sp:=fun vs H Q _=>∃n:Nat,vs = [.int (n:Int)]∧n≤127∧
 ∀d aB H',aP H H'→H d=none→cK t H' d aB (Sa32.besides n)→(∀k b,bS aB k=some (.ref b)→H b=none)→aB.length≤112→(aB.map (·.1)).Nodup→Q (.ref d) H'
def dR(K:PySem.W.Frag)(t:bh):Sp:=fun vs H Q _=>∃v:Nat,vs = [.int (v:Int)]∧Q (.int ((v / 65536 % 128:Nat):Int)) H
def dZ(K:PySem.W.Frag)(t:bh):Sp:=fun vs H Q _=>∃v:Nat,vs = [.int (v:Int)]∧Q (.int ((v % 65536:Nat):Int)) H
def dq(K:PySem.W.Frag)(t:bh):Sp:=fun vs H Q _=>∃i:Int,vs = [.int i]∧Q (.bl (decide (0x2000≤i∧i≤0x9FFF))) H
def kC(K:PySem.W.Frag)(t:bh):Sp:=fun vs H Q _=>∃d aB s,∃i u:Int,vs = [.ref d,.int i,.int u]∧cK t H d aB (s.table ++ s.own)∧WF s∧
 (∀a e,0≤i→0≤u→s.ent i.toNat u.toNat=some e→D4 t H a e→bS aB (gQ e)=some (.ref a)→Q (.ref a) H)∧((i < 0∨u < 0∨s.ent i.toNat u.toNat=none)→Q .bB H)
def Pp(s:Sa32.St)(code:Nat):Sa32.St:=if s.state=4∨Sa32.OFF≤s.num 0x1014 0 then s else s.send (s.num 0x1014 0) (Sa32.le 2 code ++ (s.val 0x1001 0 ++ Sa32.zeros 5))
def Dk(s:Sa32.St)(id:Nat):Sa32.St:={s with heard:=s.heard.zipIdx.map fun h=>if s.num 0x1016 (h.2+1) / 65536 ≠ 0∧s.num 0x1016 (h.2+1) % 65536 ≠ 0∧id=0x700+s.num 0x1016 (h.2+1) / 65536 then some s.now else h.1}
def jh(s:Sa32.St)(k:Nat):Sa32.St:=match s.heard.getD k none with
 | some x=>if s.num 0x1016 (k+1) / 65536 ≠ 0∧s.num 0x1016 (k+1) % 65536 ≠ 0∧x+s.num 0x1016 (k+1) % 65536 < s.now then {s with heard:=s.heard.set k none}.fault 0x8130 4 else s
 | none=>s
def rA(t:Sa32.St):Sa32.St:=if t.num 0x1017 0 ≠ 0∧t.beat+t.num 0x1017 0≤t.now then {t with beat:=t.now}.send (0x700+t.node) [t.state] else t
def QE(s:Sa32.St)(k:Nat):Bool:=decide (0xFE≤s.num (0x1800+k) 2∧((s.going.getD k {}).changed=true∨(s.num (0x1800+k) 5 ≠ 0∧(s.going.getD k {}).at_+s.num (0x1800+k) 5≤s.now))∧((s.going.getD k {}).sent=false∨(s.going.getD k {}).at_+s.num (0x1800+k) 3≤s.now))
def oF(s:Sa32.St)(k:Nat):Bool:=decide ((s.num (0x1800+k) 2=0∧(s.going.getD k {}).changed=true)∨(1≤s.num (0x1800+k) 2∧s.num (0x1800+k) 2≤0xF0∧(s.going.getD k {}).marks % s.num (0x1800+k) 2=0))
def dO(s:Sa32.St)(k:Nat):Sa32.St:=match s.kept.getD k none with
 | some b=>if b.length < c9 s (s.mapped (0x1600+k)) then {s with kept:=s.kept.set k none} else Sa32.takeMap (s.mapped (0x1600+k)) b {s with kept:=s.kept.set k none}
 | none=>s
def CY(s:Sa32.St)(k:Nat)(b:List Nat):Sa32.St:=if b.length < c9 s (s.mapped (0x1600+k)) then s.fault 0x8210 4
 else if s.num (0x1400+k) 2≤0xF0 then {s with kept:=s.kept.set k (some b)} else Sa32.takeMap (s.mapped (0x1600+k)) b s
structure cg(t:bh)(H:Hp)(p:Addr)(s:Sa32.St)(x:NF):Prop where
 rep:aN t H p s x
 wf:WF s
def dj(K:PySem.W.Frag)(t:bh):Sp:=fun vs H Q _=>∃p s x d,∃id:Nat,∃b,vs = [.ref p,.int (id:Int),.ref d]∧aN t H p s x∧s.out.length≤32∧H d=some (.lst (bV b))∧¬x.F p d∧dn t H p x (s.send id b) Q .bB
def cW(K:PySem.W.Frag)(t:bh):Sp:=fun vs H Q _=>∃p s x,∃c:Nat,vs = [.ref p,.int (c:Int)]∧cg t H p s x∧dn t H p x (Pp s c) Q .bB
def cB(K:PySem.W.Frag)(t:bh):Sp:=fun vs H Q _=>∃p s x,∃c b:Nat,vs = [.ref p,.int (c:Int),.int (b:Int)]∧cg t H p s x∧c ≠ 0∧b≤7∧dn t H p x (s.fault c b) Q .bB
def di(K:PySem.W.Frag)(t:bh):Sp:=fun vs H Q _=>∃p s x,vs = [.ref p]∧cg t H p s x∧dn t H p x (s.fault 0 0) Q .bB
def lW(K:PySem.W.Frag)(t:bh):Sp:=fun vs H Q _=>∃p s x,∃id:Nat,vs = [.ref p,.int (id:Int)]∧cg t H p s x∧dn t H p x (Dk s id) Q .bB
def eW(K:PySem.W.Frag)(t:bh):Sp:=fun vs H Q _=>∃p s x,vs = [.ref p]∧cg t H p s x∧dn t H p x ((List.range 2).foldl jh s) Q .bB
def nO(K:PySem.W.Frag)(t:bh):Sp:=fun vs H Q _=>∃p s x,vs = [.ref p]∧cg t H p s x∧dn t H p x (rA s) Q .bB
def NF.MM(x:NF):List (Str × V):=[("number",.int x.number),("table",.ref x.tb),("now",.int x.now),("row",.ref x.rw)]
def NF.UG(x:NF):List (Str × V):=[("number",.int x.number),("table",.ref x.tb),("now",.int x.now),("row",.ref x.rw),("entries",.ref x.en)]
def c6(K:PySem.W.Frag)(t:bh):Sp:=fun vs H Q _=>∃p dx fs now,vs = [.ref p]∧H p=some (.ins t.aC dx fs)∧fs.lookup ("now":Str)=some (.int now)∧fs.length < 900∧
 ∀l H',H l=none→H' l=some (.lst [.bB,.bB,.bB,.bB])→(∀b o,b ≠ p→H b=some o→H' b=some o)→H' p=some (.ins t.aC dx (bI "sent_at" (.ref l) (bI "work_from" (.int now) (bI "marks" (.int 0) fs))))→Q .bB H'
structure Ur(t:bh)(H:Hp)(p:Addr)(s:Sa32.St)(x:NF)(fs:List (Str × V)):Prop where
 ob:∃dx,H p=some (.ins t.aC dx fs)
 number:x.number= (s.node:Int)
 now:x.now= (s.now:Int)
 row:∃ts:List Addr,H x.rw=some (.lst (ts.map V.ref))∧Paired (r9 H (x.F p)) ts s.out
 out:s.out.length≤32
 table:∃bs,H x.tb=some (.lst (bV bs))∧¬x.F p x.tb∧TabOf bs s.table
 node:1≤s.node∧s.node≤127
 Ak:x.rw ≠ p
def cz(K:PySem.W.Frag)(t:bh):Sp:=fun vs H Q _=>∃p s x fs l0,vs = [.ref p]∧Ur t H p s x fs∧(fs=x.UG∨fs=x.fs)∧x.en ≠ p∧x.en ≠ x.rw∧cK t H x.en x.aB (s.table ++ l0)∧
 ((l0 = []∧x.aB.length≤64)∨∀e,e ∈ Sa32.besides s.node→∃e',e' ∈ l0∧gQ e'=gQ e)∧(∀e,e ∈ l0→∃e',e' ∈ Sa32.besides s.node∧gQ e=gQ e')∧(∀e,e ∈ s.table→0x2000≤e.index∧e.sub < 256)∧dn t H p x s.fresh Q .bB
def dw(K:PySem.W.Frag)(t:bh):Sp:=fun vs H Q _=>∃p s x fs,vs = [.ref p]∧Ur t H p s x fs∧(fs=x.MM∨fs=x.fs)∧(∀e,e ∈ s.table→0x2000≤e.index∧e.sub < 256)∧dn t H p x ({s with table:=s.table.map cM}:Sa32.St).fresh Q .bB
def jq(K:PySem.W.Frag)(t:bh):Sp:=fun vs H Q _=>∃p dx tb bs l,∃n:Nat,vs = [.ref p,.int (n:Int),.ref tb]∧H p=some (.ins t.aC dx [])∧H tb=some (.lst (bV bs))∧1≤n∧n≤127∧ft bs∧bs.length % 8=0∧bs.length≤512∧Sa32.tableOf bs (bs.length / 8)=some l∧
 ∀H' x',aN t H' p (Sa32.begun n l) x'→bX H (fun b=>b=p) H' (x'.F p)→Q .bB H'
def mG(s:Sa32.St)(b:Nat):List V:=(s.mapped b).map fun x=>V.int (bD x.1 x.2)
def cY(K:PySem.W.Frag)(t:bh):Sp:=fun vs H Q _=>∃d aB s,∃b:Nat,vs = [.ref d,.int (b:Int)]∧cK t H d aB (s.table ++ s.own)∧(∀j,j≤8→∃e,s.ent b j=some e)∧s.num b 0≤8∧
 ∀l H',aP H H'→H l=none→H' l=some (.lst (mG s b))→Q (.ref l) H'
def eE(K:PySem.W.Frag)(t:bh):Sp:=fun vs H Q _=>∃d aB s,∃b k:Nat,vs = [.ref d,.int ((b+k:Nat):Int)]∧cK t H d aB (s.table ++ s.own)∧WF s∧k < 4∧(b=0x1600∨b=0x1A00)∧pE H Q (.int ((c9 s (s.mapped (b+k)):Nat):Int))
def mm(K:PySem.W.Frag)(t:bh):Sp:=fun vs H Q _=>∃p s x e b,∃i u:Nat,vs = [.ref p,.int (bD i u),.int ((Sa32.num b:Nat):Int)]∧cg t H p s x∧s.ent i u=some e∧b.length=e.val.length∧ft b∧(∀k,k < 4→pW (s.put i u b) (0x1A00+k))∧
 dn t H p x (s.put i u b) Q .bB
def xm(s:Sa32.St)(id:Nat):V:=LL ((List.range 4).find? fun k=>s.num (0x1400+k) 1 == id)
def eD(K:PySem.W.Frag)(t:bh):Sp:=fun vs H Q _=>∃p s x,∃id:Nat,vs = [.ref p,.int (id:Int)]∧cg t H p s x∧Q (xm s id) H
def pZ(K:PySem.W.Frag)(t:bh):Sp:=fun vs H Q _=>∃p s x d b,∃k:Nat,vs = [.ref p,.int (k:Int),.ref d]∧cg t H p s x∧k < 4∧H d=some (.lst (bV b))∧¬x.F p d∧ft b∧c9 s (s.mapped (0x1600+k))≤b.length∧
 dn t H p x (Sa32.takeMap (s.mapped (0x1600+k)) b s) Q .bB
def jf(K:PySem.W.Frag)(t:bh):Sp:=fun vs H Q _=>∃p s x d b,∃k:Nat,vs = [.ref p,.int (k:Int),.ref d]∧cg t H p s x∧k < 4∧H d=some (.lst (bV b))∧¬x.F p d∧ft b∧b.length≤8∧dn t H p x (CY s k b) Q .bB
def uy(K:PySem.W.Frag)(t:bh):Sp:=fun vs H Q _=>∃p s x,∃k:Nat,vs = [.ref p,.int (k:Int)]∧cg t H p s x∧k < 4∧Q (.bl (decide (s.num (0x1800+k) 1 < Sa32.OFF))) H
def lR(K:PySem.W.Frag)(t:bh):Sp:=fun vs H Q _=>∃p s x,∃k:Nat,vs = [.ref p,.int (k:Int)]∧cg t H p s x∧k < 4∧Q (.bl (oF s k)) H
def kB(K:PySem.W.Frag)(t:bh):Sp:=fun vs H Q _=>∃p s x,∃k:Nat,vs = [.ref p,.int (k:Int)]∧cg t H p s x∧k < 4∧dn t H p x (s.sendMap k) Q .bB
def lI(K:PySem.W.Frag)(t:bh):Sp:=fun vs H Q _=>∃p s x,∃k:Nat,vs = [.ref p,.int (k:Int)]∧cg t H p s x∧k < 4∧dn t H p x (dO s k) Q .bB
def lY(K:PySem.W.Frag)(t:bh):Sp:=fun vs H Q _=>∃p s x,vs = [.ref p]∧cg t H p s x∧s.state=5∧dn t H p x (Sa32.mark s) Q .bB
def jY(K:PySem.W.Frag)(t:bh):Sp:=fun vs H Q _=>∃p s x,∃k:Nat,vs = [.ref p,.int (k:Int)]∧cg t H p s x∧k < 4∧s.state=5∧
 Q (.bl (decide (s.num (0x1800+k) 5 ≠ 0∧(s.going.getD k {}).at_+s.num (0x1800+k) 5≤s.now))) H
def vg(K:PySem.W.Frag)(t:bh):Sp:=fun vs H Q _=>∃p s x,∃k:Nat,vs = [.ref p,.int (k:Int)]∧cg t H p s x∧k < 4∧s.state=5∧Q (.bl (QE s k)) H
def dX(K:PySem.W.Frag)(t:bh):Sp:=fun vs H Q _=>∃p s x,vs = [.ref p]∧cg t H p s x∧dn t H p x s.maps Q .bB
def Vv(s:Sa32.St)(coming:Bool)(v:Nat):Bool:=match s.ent (v / 65536) (v / 256 % 256) with
 | none=>false
 | some e=>!(decide (e.m=false∨(if coming=true then e.w else e.r)=false∨8 * e.val.length ≠ v % 256))
def Cf:Option Nat→Int
 | none=>0
 | some c=>(c:Int)
def DA(coming:Bool):Nat:=if coming=true then 0x1400 else 0x1800
def uC(coming:Bool):Nat:=if coming=true then 0x1600 else 0x1A00
def i5(K:PySem.W.Frag)(t:bh):Sp:=fun vs H Q _=>∃d aB s,∃k v:Nat,∃c:Bool,vs = [.ref d,.int ((DA c+k:Nat):Int),.int (v:Int)]∧cK t H d aB (s.table ++ s.own)∧WF s∧k < 4∧Q (.bl (Vv s c v)) H
def fT(K:PySem.W.Frag)(t:bh):Sp:=fun vs H Q _=>∃d aB s,∃k v:Nat,∃c:Bool,vs = [.ref d,.int ((uC c+k:Nat):Int),.int (v:Int)]∧cK t H d aB (s.table ++ s.own)∧WF s∧k < 4∧
 pE H Q (.int (Cf (if 8 < v then some Sa32.RANGE else if ((List.range v).map fun j=>s.num (uC c+k) (j+1)).contains 0=true∨64 < (((List.range v).map fun j=>s.num (uC c+k) (j+1)).map fun x=>x % 256).sum then some 0x06040042 else none)))
def dy(K:PySem.W.Frag)(t:bh):Sp:=fun vs H Q _=>∃d aB s,∃k u v:Nat,∃c:Bool,vs = [.ref d,.int ((DA c+k:Nat):Int),.int (bD (uC c+k) u),.int (v:Int)]∧cK t H d aB (s.table ++ s.own)∧WF s∧k < 4∧u≤8∧
 pE H Q (.int (Cf (Sa32.mapRefuses s c k u v)))
def fG(K:PySem.W.Frag)(t:bh):Sp:=fun vs H Q _=>∃b:Bool,vs = [.bl b]∧Q (.int (if b=true then 0x06090030 else 0)) H
def EB(old v:Nat):Option Nat:=if v / 2 ^ 11 % 2 ^ 20 ≠ 0∨v % 2 ^ 11 < 0x181∨0x57F < v % 2 ^ 11 then some Sa32.RANGE else if old < Sa32.OFF∧v < Sa32.OFF∧old ≠ v then some Sa32.BUSY else none
def Ib(old u v:Nat):Option Nat:=if u=1 then EB old v else if u=2 then (if 0xF1≤v∧v≤0xFD then some Sa32.RANGE else none) else none
def fR(K:PySem.W.Frag)(t:bh):Sp:=fun vs H Q _=>∃o v:Nat,vs = [.int (o:Int),.int (v:Int)]∧Q (.int (Cf (EB o v))) H
def jC(K:PySem.W.Frag)(t:bh):Sp:=fun vs H Q _=>∃o u v:Nat,vs = [.int (o:Int),.int (u:Int),.int (v:Int)]∧Q (.int (Cf (Ib o u v))) H
def gi(K:PySem.W.Frag)(t:bh):Sp:=fun vs H Q _=>∃d aB s e,∃i u v:Nat,vs = [.ref d,.int (bD i u),.int (v:Int)]∧cK t H d aB (s.table ++ s.own)∧WF s∧s.ent i u=some e∧v < 256 ^ e.val.length∧pE H Q (.int (Cf (Sa32.refuses s i u v)))
def fF(K:PySem.W.Frag)(t:bh):Sp:=fun vs H Q _=>∃x dx b k l,vs = [.ref x,.bl b,.int k,.ref l]∧H x=some (.ins t.bL dx [])∧
 ∀H',(∀b,b ≠ x→H' b=H b)→H' x=some (.ins t.bL dx (cy b k l 0))→Q .bB H'
def fz(K:PySem.W.Frag)(t:bh):Sp:=fun vs H Q _=>∃i u:Nat,vs = [.int (bD i u)]∧u < 256∧PD H Q (Sa32.le 2 i ++ [u])
def eu(K:PySem.W.Frag)(t:bh):Sp:=fun vs H Q _=>∃p s x d b,vs = [.ref p,.ref d]∧aN t H p s x∧s.out.length≤32∧H d=some (.lst (bV b))∧b.length≤8∧dn t H p x (s.answer b) Q .bB
def fK(K:PySem.W.Frag)(t:bh):Sp:=fun vs H Q _=>∃p s x,∃i u c:Nat,vs = [.ref p,.int (bD i u),.int (c:Int)]∧aN t H p s x∧s.out.length≤32∧u < 256∧dn t H p x (s.abort i u c) Q .bB
def gW(K:PySem.W.Frag)(t:bh):Sp:=fun vs H Q _=>∃p s x s' e b,∃i u:Nat,vs = [.ref p,.int (bD i u),.int ((Sa32.num b:Nat):Int)]∧cg t H p s x∧s.ent i u=some e∧e.w=true∧b.length=e.val.length∧ft b∧s.set i u b= .inr s'∧dn t H p x s' Q .bB
def MY(s:Sa32.St)(i u:Nat)(b a:List Nat):Sa32.St:=match s.set i u b with
 | .inl c=>s.abort i u c
 | .inr t=>t.answer a
def gU(K:PySem.W.Frag)(t:bh):Sp:=fun vs H Q _=>∃p s x e b a r d,∃i u:Nat,vs = [.ref p,.int (bD i u),.ref r,.ref d]∧cg t H p s x∧s.ent i u=some e∧e.w=true∧b.length=e.val.length∧ft b∧H r=some (.lst (bV b))∧H d=some (.lst (bV a))∧a.length≤8∧¬x.F p d∧
 dn t H p x (MY s i u b a) Q .bB
def rY(s:Sa32.St)(c:Nat):Sa32.St:=match s.hand with
 | .down i u _ _=>s.abort i u c
 | .up i u _ _=>s.abort i u c
 | .none=>s.abort 0 0 c
def eO(K:PySem.W.Frag)(t:bh):Sp:=fun vs H Q _=>∃p s x,∃c:Nat,vs = [.ref p,.int (c:Int)]∧cg t H p s x∧dn t H p x (rY s c) Q .bB
def cw(s:Sa32.St)(c:Nat)(isSet:Bool):Nat:=match s.hand with
 | .down _ _ _ bit=>if isSet=true then (if c.testBit 4 ≠ bit then 0x05030000 else 0) else 0x05040001
 | .up _ _ _ bit=>if isSet=true then 0x05040001 else (if c.testBit 4 ≠ bit then 0x05030000 else 0)
 | .none=>0x05040001
def dY(K:PySem.W.Frag)(t:bh):Sp:=fun vs H Q _=>∃p s x d b,∃f:Bool,vs = [.ref p,.ref d,.bl f]∧aN t H p s x∧H d=some (.lst (bV b))∧b.length=8∧Q (.int ((cw s (b.getD 0 0) f:Nat):Int)) H
def MX(k:Nat)(t:bh):Sp:=fun vs H Q _=>∃p s x d b,vs = [.ref p,.ref d]∧cg t H p s x∧H d=some (.lst (bV b))∧b.length=8∧ft b∧¬x.F p d∧b.getD 0 0 / 32=k∧dn t H p x (Sa32.request s b) Q .bB
def j7(K:PySem.W.Frag)(t:bh):Sp:=MX 0 t
def lA(K:PySem.W.Frag)(t:bh):Sp:=MX 1 t
def lO(K:PySem.W.Frag)(t:bh):Sp:=MX 2 t
def kd(K:PySem.W.Frag)(t:bh):Sp:=MX 3 t
def gX(K:PySem.W.Frag)(t:bh):Sp:=fun vs H Q _=>∃p s x d b,vs = [.ref p,.ref d]∧cg t H p s x∧H d=some (.lst (bV b))∧b.length=8∧ft b∧¬x.F p d∧dn t H p x (Sa32.request s b) Q .bB
def iy(n k:Nat):Option Nat:=if n < k then some 0x06070012 else if k < n then some 0x06070013 else none
def dc(K:PySem.W.Frag)(t:bh):Sp:=fun vs H Q _=>∃k n:Nat,vs = [.int (k:Int),.int (n:Int)]∧Q (.int (Cf (iy n k))) H
def iR(n:Nat)(b:List Nat):Option Nat:=if (b.getD 0 0).testBit 1=true then iy n (if (b.getD 0 0).testBit 0=true then 4 - b.getD 0 0 / 4 % 4 else min 4 n) else if (b.getD 0 0).testBit 0=true then iy n (Sa32.num (b.drop 4)) else none
def dr(K:PySem.W.Frag)(t:bh):Sp:=fun vs H Q _=>∃n:Nat,∃d b,vs = [.int (n:Int),.ref d]∧H d=some (.lst (bV b))∧b.length=8∧pE H Q (.int (Cf (iR n b)))
def HC(s:Sa32.St)(i u:Nat):Option Nat:=match s.ent i u with
 | some _=>none
 | none=>some (if ((s.table ++ s.own).any fun e=>e.index == i)=true then 0x06090011 else 0x06020000)
def dS(K:PySem.W.Frag)(t:bh):Sp:=fun vs H Q _=>∃d aB s,∃i u:Nat,vs = [.ref d,.int (bD i u)]∧cK t H d aB (s.table ++ s.own)∧WF s∧u < 256∧pE H Q (.int (Cf (HC s i u)))
def i8(K:PySem.W.Frag)(t:bh):Sp:=fun vs H Q _=>∃d b,vs = [.ref d]∧H d=some (.lst (bV b))∧b.length=8∧pE H Q (.int (bD (Sa32.num ((b.drop 1).take 2)) (b.getD 3 0)))
def kg(K:PySem.W.Frag)(t:bh):Sp:=fun vs H Q _=>∃p s x,vs = [.ref p]∧cg t H p s x∧dn t H p x s.work Q .bB
def Az(s:Sa32.St)(c:Nat):Sa32.St:=if c=1 then s.work else if c=2 then {s with state:=4} else if c=0x80 then {s with state:=127}
 else if c=0x81 then ({s with table:=s.table.map fun e=>{e with val:=Sa32.zeros e.val.length}}:Sa32.St).fresh else if c=0x82 then s.fresh else s
def hG(K:PySem.W.Frag)(t:bh):Sp:=fun vs H Q _=>∃p s x,∃c:Nat,vs = [.ref p,.int (c:Int)]∧cg t H p s x∧dn t H p x (Az s c) Q .bB
def gR(K:PySem.W.Frag)(t:bh):Sp:=fun vs H Q _=>∃p s x d b,∃id:Nat,vs = [.ref p,.int (id:Int),.ref d]∧cg t H p s x∧H d=some (.lst (bV b))∧b.length≤8∧ft b∧¬x.F p d∧id≤0x7FF∧dn t H p x (Sa32.frame s id b) Q .bB
def iO(K:PySem.W.Frag)(t:bh):Sp:=fun vs H Q _=>∃p s x,vs = [.ref p]∧cg t H p s x∧dn t H p x s.close Q .bB
def nV(K:PySem.W.Frag)(t:bh):Sp:=fun vs H Q _=>∃n:Int,∃tb bs,vs = [.int n,.ref tb]∧H tb=some (.lst (bV bs))∧ft bs∧bs.length % 8=0∧bs.length≤100000∧
 (∀H',aP H H'→(n < 1∨127 < n∨512 < bs.length∨Sa32.tableOf bs (bs.length / 8)=none)→Q .bB H')∧
 (∀l p H' x',1≤n→n≤127→bs.length≤512→Sa32.tableOf bs (bs.length / 8)=some l→aP H H'→H p=none→aN t H' p (Sa32.begun n.toNat l) x'→(∀b,x'.F p b→H b=none)→Q (.ref p) H')
def Ii(t:bh)(H:Hp)(p:Addr)(x:NF)(s':Sa32.St)(sQ:List Int)(Q:VK):Prop:=
 ∀l H' x',aN t H' p s' x'→bX H (x.F p) H' (x'.F p)→H l=none→H' l=some (.lst (sQ.map V.int))→¬x'.F p l→Q (.ref l) H'
def cn(s:Sa32.St)(c:Sa32.Call):Sa32.St:=((Sa32.step (some s) c).1).getD s
def cv(s:Sa32.St)(c:Sa32.Call):Sa32.Ans:=(Sa32.step (some s) c).2
def nT(K:PySem.W.Frag)(t:bh):Sp:=fun vs H Q _=>∃p s x d b,∃id:Int,∃now:Nat,vs = [.ref p,.int id,.int (now:Int),.ref d]∧cg t H p s x∧H d=some (.lst (bV b))∧ft b∧¬x.F p d∧
 Ii t H p x (cn s (.frame id b (b.length:Int) now)) [(cv s (.frame id b (b.length:Int) now)).v] Q
def qe(K:PySem.W.Frag)(t:bh):Sp:=fun vs H Q _=>∃p s x,∃now:Nat,vs = [.ref p,.int (now:Int)]∧cg t H p s x∧Ii t H p x (cn s (.tick now)) [0] Q
def CO(s:Sa32.St):List Int:=match s.out with
 | []=>[-1]
 | f::_=>(f.2.length:Int)::(f.1:Int)::(Sa32.padded 8 f.2).map fun (y:Nat)=>(y:Int)
def qg(K:PySem.W.Frag)(t:bh):Sp:=fun vs H Q _=>∃p s x,vs = [.ref p]∧cg t H p s x∧Ii t H p x (cn s .take) (CO s) Q
def MD(s:Sa32.St)(i u:Int):List Int:=match (if i < 0∨u < 0 then none else s.ent i.toNat u.toNat) with
 | some e=>(e.val.length:Int)::(Sa32.padded 8 e.val).map fun (y:Nat)=>(y:Int)
 | none=>[-1]
def u0(K:PySem.W.Frag)(t:bh):Sp:=fun vs H Q _=>∃p s x,∃i u:Int,vs = [.ref p,.int i,.int u]∧cg t H p s x∧Ii t H p x s (MD s i u) Q
def uX(K:PySem.W.Frag)(t:bh):Sp:=fun vs H Q _=>∃p s x d b,∃i u:Int,vs = [.ref p,.int i,.int u,.ref d]∧cg t H p s x∧H d=some (.lst (bV b))∧ft b∧¬x.F p d∧
 Ii t H p x (cn s (.set i u b (b.length:Int))) [(cv s (.set i u b (b.length:Int))).v] Q
def nX(K:PySem.W.Frag)(t:bh):Sp:=fun vs H Q _=>∃p s x,∃c b:Int,vs = [.ref p,.int c,.int b]∧cg t H p s x∧Ii t H p x (cn s (.fault c b)) [(cv s (.fault c b)).v] Q
def oo(K:PySem.W.Frag)(t:bh):Sp:=fun vs H Q _=>∃p s x,vs = [.ref p]∧cg t H p s x∧Ii t H p x s [(s.state:Int)] Q
def Gk(a:Addr)(k:Int):List (Str × V):=[("numbers",.ref a),("at",.int k)]
def Nums(K:PySem.W.Frag)(H:Hp)(a r:Addr)(ns:List Int):Prop:=(Rd H a (.lst (ns.map V.int))∧a ≠ r)∨∀H',cb K H' a (ns.map V.int)
structure kz(K:PySem.W.Frag)(t:bh)(H:Hp)(r a:Addr)(ns:List Int)(k:Nat):Prop where
 ob:∃dx,H r=some (.ins t.bq dx (Gk a (k:Int)))
 nums:Nums K H a r ns
 le:k≤ns.length
def gm(K:PySem.W.Frag)(t:bh):Sp:=fun vs H Q _=>∃r dx a,vs = [.ref r,.ref a]∧H r=some (.ins t.bq dx [])∧
 ∀H',(∀b,b ≠ r→H' b=H b)→H' r=some (.ins t.bq dx (Gk a 0))→Q .bB H'
def d9(K:PySem.W.Frag)(t:bh):Sp:=fun vs H Q _=>∃r a ns k,vs = [.ref r]∧kz K t H r a ns k∧Q (.bl (decide (k < ns.length))) H
def aR(K:PySem.W.Frag)(t:bh):Sp:=fun vs H Q _=>∃r a ns k v,vs = [.ref r]∧kz K t H r a ns k∧ns[k]? = some v∧
 ∀H',(∀b,b ≠ r→H' b=H b)→kz K t H' r a ns (k+1)→Q (.int v) H'
def cA(K:PySem.W.Frag)(t:bh):Sp:=fun vs H Q _=>∃r a ns k,∃n:Nat,vs = [.ref r]∧kz K t H r a ns k∧ns[k]? = some (n:Int)∧k+1+n≤ns.length∧
 ∀l H',(∀b o,b ≠ r→H b=some o→H' b=some o)→H l=none→H' l=some (.lst (((ns.drop (k+1)).take n).map V.int))→kz K t H' r a ns (k+1+n)→Q (.ref l) H'
def j3(K:PySem.W.Frag)(t:bh):Sp:=fun vs H Q _=>∃r a ns,∃n:Int,∃bs rest,vs = [.ref r]∧kz K t H r a ns 0∧ns=0::n::(bs.length:Int)::(bs.map (fun (y:Nat)=>(y:Int)) ++ rest)∧ft bs∧bs.length % 8=0∧bs.length≤100000∧
 (∀H',(∀b o,b ≠ r→H b=some o→H' b=some o)→(n < 1∨127 < n∨512 < bs.length∨Sa32.tableOf bs (bs.length / 8)=none)→Q .bB H')∧
 (∀l p H' x',1≤n→n≤127→bs.length≤512→Sa32.tableOf bs (bs.length / 8)=some l→(∀b o,b ≠ r→H b=some o→H' b=some o)→H p=none→aN t H' p (Sa32.begun n.toNat l) x'→(∀b,x'.F p b→H b=none)→kz K t H' r a ns (3+bs.length)→Q (.ref p) H')
def vU(K:PySem.W.Frag)(t:bh)(H:Hp)(p:Addr)(x:NF)(r a:Addr)(ns:List Int)(k:Nat)(s':Sa32.St)(sQ:List Int)(Q:VK):Prop:=
 ∀l H' x',aN t H' p s' x'→bX H (fun b=>x.F p b∨b=r) H' (fun b=>x'.F p b∨b=r)→kz K t H' r a ns k→¬x'.F p r→H l=none→H' l=some (.lst (sQ.map V.int))→¬x'.F p l→Q (.ref l) H'
structure Ah(K:PySem.W.Frag)(t:bh)(H:Hp)(p:Addr)(s:Sa32.St)(x:NF)(r a:Addr)(ns:List Int)(k:Nat):Prop where
 node:cg t H p s x
 EV:kz K t H r a ns k
 VG:¬x.F p r
 V6:(∀H',cb K H' a (ns.map V.int))∨¬x.F p a
def eI(K:PySem.W.Frag)(t:bh):Sp:=fun vs H Q _=>∃p s x r a ns k,∃id:Int,∃now:Nat,∃b rest,vs = [.ref p,.ref r]∧Ah K t H p s x r a ns k∧ns.drop k=id::(now:Int)::(b.length:Int)::(b.map (fun (y:Nat)=>(y:Int)) ++ rest)∧ft b∧
 vU K t H p x r a ns (k+3+b.length) (cn s (.frame id b (b.length:Int) now)) [(cv s (.frame id b (b.length:Int) now)).v] Q
def gx(K:PySem.W.Frag)(t:bh):Sp:=fun vs H Q _=>∃p s x r a ns k,∃now:Nat,∃rest,vs = [.ref p,.ref r]∧Ah K t H p s x r a ns k∧ns.drop k= (now:Int)::rest∧vU K t H p x r a ns (k+1) (cn s (.tick now)) [0] Q
def fV(K:PySem.W.Frag)(t:bh):Sp:=fun vs H Q _=>∃p s x r a ns k,vs = [.ref p,.ref r]∧Ah K t H p s x r a ns k∧vU K t H p x r a ns k (cn s .take) (CO s) Q
def iN(K:PySem.W.Frag)(t:bh):Sp:=fun vs H Q _=>∃p s x r a ns k,∃i u:Int,∃rest,vs = [.ref p,.ref r]∧Ah K t H p s x r a ns k∧ns.drop k=i::u::rest∧vU K t H p x r a ns (k+2) s (MD s i u) Q
def iP(K:PySem.W.Frag)(t:bh):Sp:=fun vs H Q _=>∃p s x r a ns k,∃i u:Int,∃b rest,vs = [.ref p,.ref r]∧Ah K t H p s x r a ns k∧ns.drop k=i::u::(b.length:Int)::(b.map (fun (y:Nat)=>(y:Int)) ++ rest)∧ft b∧
 vU K t H p x r a ns (k+3+b.length) (cn s (.set i u b (b.length:Int))) [(cv s (.set i u b (b.length:Int))).v] Q
def eM(K:PySem.W.Frag)(t:bh):Sp:=fun vs H Q _=>∃p s x r a ns k,∃c b:Int,∃rest,vs = [.ref p,.ref r]∧Ah K t H p s x r a ns k∧ns.drop k=c::b::rest∧vU K t H p x r a ns (k+2) (cn s (.fault c b)) [(cv s (.fault c b)).v] Q
def eK(K:PySem.W.Frag)(t:bh):Sp:=fun vs H Q _=>∃p s x r a ns k,vs = [.ref p,.ref r]∧Ah K t H p s x r a ns k∧vU K t H p x r a ns k s [(s.state:Int)] Q
end Fn
namespace Fn
open PySem L2
def Bi:List Str:=["row","number","byte"]
def KL(K:PySem.W.Frag)(t:bh):TS:=
 (aI (bQ (tC (.int 0)) (a9 1))
  (aI (xA (Vu K (ae (ag 0) aw)) (a9 2)
  (bQ (aV (bP fun i j=> .int (i+j)) (aV (rI xX fun i j=> .int (i * j)) (ag 1) (tC (.int 256))) (ag 2)) (a9 1)))
  (bu (ag 1))))
def CZ:List Str:=["number","size","place"]
def PU(K:PySem.W.Frag)(t:bh):TS:=
 (bu (Rm (vS (ae (ag 1) aw)) (a9 2) KW (aV (bP fun i j=> .int (Builtin.bitAnd i j)) (aV (rI (fun _ j=>0≤j) fun i j=> .int (i / 2 ^ j.toNat)) (ag 0) (aV (rI xX fun i j=> .int (i * j)) (tC (.int 8)) (ag 2))) (tC (.int 255))) [2]))
def Jt:List Str:=["row","size"]
def QX(K:PySem.W.Frag)(t:bh):TS:=
 (bu (aV uF (ag 0) (aV Ra (d7 (ae (tC (.int 0)) aw)) (aV (bP fun i j=> .int (i - j)) (ag 1) (u7 (oX K) (ae (ag 0) aw))))))
def tm:List Str:=["self","size","readable","writable","mappable","value"]
def C0(K:PySem.W.Frag)(t:bh):TS:=
 (aI (cJ K (ag 0) (ag 1) "size")
  (aI (cJ K (ag 0) (ag 2) "readable")
  (aI (cJ K (ag 0) (ag 3) "writable")
  (aI (cJ K (ag 0) (ag 4) "mappable")
  (cJ K (ag 0) (ag 5) "value")))))
def J4:List Str:=["index","sub"]
def QW(K:PySem.W.Frag)(t:bh):TS:=
 (bu (aV (bP fun i j=> .int (i+j)) (aV (rI xX fun i j=> .int (i * j)) (ag 0) (tC (.int 256))) (ag 1)))
def CJ:List Str:=["entries","index","sub"]
def Mm(K:PySem.W.Frag)(t:bh):TS:=
 (bu (aT K (kE (ag 0) (az (cS K t) [] E0 (ae (ag 1) (ae (ag 2) aw)))) "value"))
def D1:List Str:=["entries","index","sub"]
def Mp(K:PySem.W.Frag)(t:bh):TS:=
 (aI (bF (vy (aU (px (bP fun i j=> .bl (decide (i≤j))) (bP fun i j=> .bl (decide (i≤j))) (tC (.int 0)) (ag 2) (tC (.int 255)))))
  (bu (tC .bB))
  bt)
  (bu (Hy (ag 0) (az (cS K t) [] E0 (ae (ag 1) (ae (ag 2) aw))))))
def pN:List Str:=["index"]
def Aw(K:PySem.W.Frag)(t:bh):TS:=
 (bu (px (bP fun i j=> .bl (decide (i≤j))) (bP fun i j=> .bl (decide (i≤j))) (tC (.int 8192)) (ag 0) (tC (.int 40959))))
def uh:List Str:=["entries","index","key"]
def Le(K:PySem.W.Frag)(t:bh):TS:=
 (bu (u7 (Vl K) (ae (MP (Rm (S1 (ag 0)) (a9 2) KW (aV lL (aV (rI (fun _ j=>0≤j) fun i j=> .int (i / 2 ^ j.toNat)) (ag 2) (tC (.int 8))) (ag 1)) [2])) aw)))
def wg:List Str:=["table","at"]
def Mc(K:PySem.W.Frag)(t:bh):TS:=
 (bu (Rm (S3 (ae (tC (.int 0)) (ae (u7 (oX K) (ae (ag 0) aw)) (ae (tC (.int 8)) aw)))) (a9 1) KW (Nt (yg K) (ag 0) (eF (ag 1)) (eF (aV (bP fun i j=> .int (i+j)) (ag 1) (tC (.int 8))))) [1]))
def sI:List Str:=["line"]
def B9(K:PySem.W.Frag)(t:bh):TS:=
 (aI (bF (vy (tB (az (dq K t) [] E0 (ae (az (cE K t) [] E0 (ae (Nt (yg K) (ag 0) (eF (tC (.int 0))) (eF (tC (.int 2)))) aw)) aw))))
  (bu (tC (.bl false)))
  bt)
  (aI (bF (aU (aV (SW K true) (aV (iL K) (ag 0) (tC (.int 3))) (NV (ae (tC (.int 1)) (ae (tC (.int 2)) (ae (tC (.int 4)) (ae (tC (.int 8)) aw)))))))
  (bu (tC (.bl false)))
  bt)
  (bu (Dj (aV (bP fun i j=> .bl (decide (i≤j))) (u7 (T8 K) (ae (Nt (yg K) (ag 0) (eF (tC (.int 4))) (eF (tC (.int 7)))) aw)) (tC (.int 1))) (aV lL (aV (iL K) (ag 0) (tC (.int 7))) (tC (.int 0)))))))
def Dy:List Str:=["line"]
def LZ(K:PySem.W.Frag)(t:bh):TS:=
 (bu (az (cS K t) [] E0 (ae (az (cE K t) [] E0 (ae (Nt (yg K) (ag 0) (eF (tC (.int 0))) (eF (tC (.int 2)))) aw)) (ae (aV (iL K) (ag 0) (tC (.int 2))) aw))))
def p8:List Str:=["table","last","line","key"]
def zJ(K:PySem.W.Frag)(t:bh):TS:=
 (aI (bF (aU (aV (bP fun i j=> .bl (decide (j < i))) (u7 (oX K) (ae (ag 0) aw)) (aV (rI xX fun i j=> .int (i * j)) (tC (.int 64)) (tC (.int 8)))))
  (bu (tC (.bl false)))
  bt)
  (aI (bQ (Wr (rU fun i=> .int (-i)) (tC (.int 1))) (a9 1))
  (aI (xA (DR K (az (kn K t) [] E0 (ae (ag 0) aw))) (a9 2)
  (aI (bQ (az (kG K t) [] E0 (ae (ag 2) aw)) (a9 3))
  (aI (bF (PN (vy (tB (az (fQ K t) [] E0 (ae (ag 2) aw)))) (aU (aV (bP fun i j=> .bl (decide (i≤j))) (ag 3) (ag 1))))
  (bu (tC (.bl false)))
  bt)
  (bQ (ag 3) (a9 1)))))
  (bu (tC (.bl true))))))
def sy:List Str:=["table","entries","line"]
def B7(K:PySem.W.Frag)(t:bh):TS:=
 (aI (bQ LS (a9 1))
  (aI (xA (DR K (az (kn K t) [] E0 (ae (ag 0) aw))) (a9 2)
  (QI (ag 1) (az (kG K t) [] E0 (ae (ag 2) aw)) (Bu t.bR (ez K t) [] E0 (ae (aV (iL K) (ag 2) (tC (.int 3))) (ae (aV lL (aV (iL K) (ag 2) (tC (.int 4))) (tC (.int 1))) (ae (aV lL (aV (iL K) (ag 2) (tC (.int 5))) (tC (.int 1))) (ae (aV lL (aV (iL K) (ag 2) (tC (.int 6))) (tC (.int 1))) (ae (tC (.int 0)) aw))))))))
  (bu (ag 1))))
def SR:List Str:=["entries","index","sub","size","rights","value"]
def UR(K:PySem.W.Frag)(t:bh):TS:=
 (QI (ag 0) (az (cS K t) [] E0 (ae (ag 1) (ae (ag 2) aw))) (Bu t.bR (ez K t) [] E0 (ae (ag 3) (ae (aV Q2 (tC (.str "r")) (ag 4)) (ae (aV Q2 (tC (.str "w")) (ag 4)) (ae (tC (.bl false)) (ae (ag 5) aw)))))))
def DP:List Str:=["entries","index","sub"]
def My(K:PySem.W.Frag)(t:bh):TS:=
 (aI (aW (az (dz K t) [] E0 (ae (ag 0) (ae (ag 1) (ae (tC (.int 0)) (ae (tC (.int 1)) (ae (tC (.str "rw")) (ae (tC (.int 0)) aw))))))))
  (xA (M0 (ae (tC (.int 1)) (ae (tC (.int 9)) aw))) (a9 2)
  (aW (az (dz K t) [] E0 (ae (ag 0) (ae (ag 1) (ae (ag 2) (ae (tC (.int 4)) (ae (tC (.str "rw")) (ae (tC (.int 0)) aw))))))))))
def Br:List Str:=["entries","place","number"]
def JE(K:PySem.W.Frag)(t:bh):TS:=
 (aI (aW (az (dz K t) [] E0 (ae (ag 0) (ae (aV (bP fun i j=> .int (i+j)) (tC (.int 6144)) (ag 1)) (ae (tC (.int 0)) (ae (tC (.int 1)) (ae (tC (.str "r")) (ae (tC (.int 5)) aw))))))))
  (aI (aW (az (dz K t) [] E0 (ae (ag 0) (ae (aV (bP fun i j=> .int (i+j)) (tC (.int 6144)) (ag 1)) (ae (tC (.int 1)) (ae (tC (.int 4)) (ae (tC (.str "rw")) (ae (aV (bP fun i j=> .int (i+j)) (aV (bP fun i j=> .int (i+j)) (aV (bP fun i j=> .int (i+j)) (tC (.int 2147483648)) (tC (.int 384))) (aV (rI xX fun i j=> .int (i * j)) (tC (.int 256)) (ag 1))) (ag 2)) aw))))))))
  (aI (aW (az (dz K t) [] E0 (ae (ag 0) (ae (aV (bP fun i j=> .int (i+j)) (tC (.int 6144)) (ag 1)) (ae (tC (.int 2)) (ae (tC (.int 1)) (ae (tC (.str "rw")) (ae (tC (.int 255)) aw))))))))
  (aI (aW (az (dz K t) [] E0 (ae (ag 0) (ae (aV (bP fun i j=> .int (i+j)) (tC (.int 6144)) (ag 1)) (ae (tC (.int 3)) (ae (tC (.int 2)) (ae (tC (.str "rw")) (ae (tC (.int 0)) aw))))))))
  (aI (aW (az (dz K t) [] E0 (ae (ag 0) (ae (aV (bP fun i j=> .int (i+j)) (tC (.int 6144)) (ag 1)) (ae (tC (.int 5)) (ae (tC (.int 2)) (ae (tC (.str "rw")) (ae (tC (.int 0)) aw))))))))
  (aW (az (kq K t) [] E0 (ae (ag 0) (ae (aV (bP fun i j=> .int (i+j)) (tC (.int 6656)) (ag 1)) aw)))))))))
def xQ:List Str:=["entries","place","number"]
def HV(K:PySem.W.Frag)(t:bh):TS:=
 (aI (aW (az (dz K t) [] E0 (ae (ag 0) (ae (aV (bP fun i j=> .int (i+j)) (tC (.int 5120)) (ag 1)) (ae (tC (.int 0)) (ae (tC (.int 1)) (ae (tC (.str "r")) (ae (tC (.int 2)) aw))))))))
  (aI (aW (az (dz K t) [] E0 (ae (ag 0) (ae (aV (bP fun i j=> .int (i+j)) (tC (.int 5120)) (ag 1)) (ae (tC (.int 1)) (ae (tC (.int 4)) (ae (tC (.str "rw")) (ae (aV (bP fun i j=> .int (i+j)) (aV (bP fun i j=> .int (i+j)) (aV (bP fun i j=> .int (i+j)) (tC (.int 2147483648)) (tC (.int 512))) (aV (rI xX fun i j=> .int (i * j)) (tC (.int 256)) (ag 1))) (ag 2)) aw))))))))
  (aI (aW (az (dz K t) [] E0 (ae (ag 0) (ae (aV (bP fun i j=> .int (i+j)) (tC (.int 5120)) (ag 1)) (ae (tC (.int 2)) (ae (tC (.int 1)) (ae (tC (.str "rw")) (ae (tC (.int 255)) aw))))))))
  (aW (az (kq K t) [] E0 (ae (ag 0) (ae (aV (bP fun i j=> .int (i+j)) (tC (.int 5632)) (ag 1)) aw)))))))
def oH:List Str:=["number","entries","place"]
def yM(K:PySem.W.Frag)(t:bh):TS:=
 (aI (bQ LS (a9 1))
  (aI (aW (az (dz K t) [] E0 (ae (ag 1) (ae (tC (.int 4096)) (ae (tC (.int 0)) (ae (tC (.int 4)) (ae (tC (.str "r")) (ae (tC (.int 0)) aw))))))))
  (aI (aW (az (dz K t) [] E0 (ae (ag 1) (ae (tC (.int 4097)) (ae (tC (.int 0)) (ae (tC (.int 1)) (ae (tC (.str "r")) (ae (tC (.int 0)) aw))))))))
  (aI (aW (az (dz K t) [] E0 (ae (ag 1) (ae (tC (.int 4101)) (ae (tC (.int 0)) (ae (tC (.int 4)) (ae (tC (.str "rw")) (ae (tC (.int 128)) aw))))))))
  (aI (aW (az (dz K t) [] E0 (ae (ag 1) (ae (tC (.int 4116)) (ae (tC (.int 0)) (ae (tC (.int 4)) (ae (tC (.str "rw")) (ae (aV (bP fun i j=> .int (i+j)) (tC (.int 128)) (ag 0)) aw))))))))
  (aI (aW (az (dz K t) [] E0 (ae (ag 1) (ae (tC (.int 4118)) (ae (tC (.int 0)) (ae (tC (.int 1)) (ae (tC (.str "r")) (ae (tC (.int 2)) aw))))))))
  (aI (aW (az (dz K t) [] E0 (ae (ag 1) (ae (tC (.int 4118)) (ae (tC (.int 1)) (ae (tC (.int 4)) (ae (tC (.str "rw")) (ae (tC (.int 0)) aw))))))))
  (aI (aW (az (dz K t) [] E0 (ae (ag 1) (ae (tC (.int 4118)) (ae (tC (.int 2)) (ae (tC (.int 4)) (ae (tC (.str "rw")) (ae (tC (.int 0)) aw))))))))
  (aI (aW (az (dz K t) [] E0 (ae (ag 1) (ae (tC (.int 4119)) (ae (tC (.int 0)) (ae (tC (.int 2)) (ae (tC (.str "rw")) (ae (tC (.int 0)) aw))))))))
  (aI (xA (vS (ae (tC (.int 4)) aw)) (a9 2)
  (aI (aW (az (ki K t) [] E0 (ae (ag 1) (ae (ag 2) (ae (ag 0) aw)))))
  (aW (az (lG K t) [] E0 (ae (ag 1) (ae (ag 2) (ae (ag 0) aw)))))))
  (bu (ag 1))))))))))))
def sx:List Str:=["value"]
def B8(K:PySem.W.Frag)(t:bh):TS:=
 (bu (aV (bP fun i j=> .int (Builtin.bitAnd i j)) (aV (rI (fun _ j=>0≤j) fun i j=> .int (i / 2 ^ j.toNat)) (ag 0) (tC (.int 16))) (tC (.int 127))))
def sE:List Str:=["value"]
def B6(K:PySem.W.Frag)(t:bh):TS:=
 (bu (aV (bP fun i j=> .int (Builtin.bitAnd i j)) (ag 0) (tC (.int 65535))))
def Bw:List Str:=["node","ident","place","value","is_followed"]
def J9(K:PySem.W.Frag)(t:bh):TS:=
 (xA (vS (ae (tC (.int 2)) aw)) (a9 2)
  (aI (bQ (az (br K t) [] E0 (ae (aT K (ag 0) "entries") (ae (tC (.int 4118)) (ae (aV (bP fun i j=> .int (i+j)) (ag 2) (tC (.int 1))) aw)))) (a9 3))
  (aI (bQ (Dj (aV xC (az (dR K t) [] E0 (ae (ag 3) aw)) (tC (.int 0))) (aV xC (az (dZ K t) [] E0 (ae (ag 3) aw)) (tC (.int 0)))) (a9 4))
  (bF (sZ (tB (ag 4)) (aU (aV lL (ag 1) (aV (bP fun i j=> .int (i+j)) (tC (.int 1792)) (az (dR K t) [] E0 (ae (ag 3) aw))))))
  (bQ (aT K (ag 0) "now") (Iy (aT K (ag 0) "heard_at") (ag 2) xG))
  bt))))
def BC:List Str:=["self","ident","data"]
def J1(K:PySem.W.Frag)(t:bh):TS:=
 (bF (aU (aV (bP fun i j=> .bl (decide (i < j))) (u7 (oX K) (ae (aT K (ag 0) "row") aw)) (tC (.int 32))))
  (aW (Pc K "list" yr (aT K (ag 0) "row") (ae (NV (ae (ag 1) (ae (ag 2) aw))) aw)))
  bt)
def oy:List Str:=["self","code","ident"]
def xO(K:PySem.W.Frag)(t:bh):TS:=
 (aI (bQ (az (br K t) [] E0 (ae (aT K (ag 0) "entries") (ae (tC (.int 4116)) (ae (tC (.int 0)) aw)))) (a9 2))
  (bF (sZ (aU (aV xC (aT K (ag 0) "state") (tC (.int 4)))) (aU (aV (bP fun i j=> .bl (decide (i < j))) (ag 2) (tC (.int 2147483648)))))
  (aW (cp t.aC "send" (dj K t) [] E0 (ag 0) (ae (ag 2) (ae (az (jU K t) [] E0 (ae (aV uF (az (gB K t) [] E0 (ae (ag 1) (ae (tC (.int 2)) aw))) (d7 (ae (az (br K t) [] E0 (ae (aT K (ag 0) "entries") (ae (tC (.int 4097)) (ae (tC (.int 0)) aw)))) aw))) (ae (tC (.int 8)) aw))) aw))))
  bt))
def nB:List Str:=["self","code","bit","bits"]
def yO(K:PySem.W.Frag)(t:bh):TS:=
 (aI (bQ (kE (aT K (ag 0) "entries") (az (cS K t) [] E0 (ae (tC (.int 4097)) (ae (tC (.int 0)) aw)))) (a9 3))
  (aI (cJ K (ag 3) (aV (bP fun i j=> .int (Builtin.bitOr i j)) (aV (bP fun i j=> .int (Builtin.bitOr i j)) (aT K (ag 3) "value") (tC (.int 1))) (aV (rI Vy fun i j=> .int (i * 2 ^ j.toNat)) (tC (.int 1)) (ag 2))) "value")
  (aW (cp t.aC "tell_fault" (cW K t) [] E0 (ag 0) (ae (ag 1) aw)))))
def pY:List Str:=["node","place","heard","longest"]
def Al(K:PySem.W.Frag)(t:bh):TS:=
 (xA (vS (ae (tC (.int 2)) aw)) (a9 1)
  (aI (bQ (aV (iL K) (aT K (ag 0) "heard_at") (ag 1)) (a9 2))
  (aI (bQ (az (dZ K t) [] E0 (ae (az (br K t) [] E0 (ae (aT K (ag 0) "entries") (ae (tC (.int 4118)) (ae (aV (bP fun i j=> .int (i+j)) (ag 1) (tC (.int 1))) aw)))) aw)) (a9 3))
  (bF (sZ (tB (ND (ag 2))) (aU (aV (bP fun i j=> .bl (decide (j < i))) (aV (bP fun i j=> .int (i - j)) (aT K (ag 0) "now") (ag 2)) (ag 3))))
  (aI (bQ (tC .bB) (Iy (aT K (ag 0) "heard_at") (ag 1) xG))
  (aW (cp t.aC "send_fault" (cB K t) [] E0 (ag 0) (ae (tC (.int 33072)) (ae (tC (.int 4)) aw)))))
  bt))))
def EA:List Str:=["node","often"]
def Mt(K:PySem.W.Frag)(t:bh):TS:=
 (aI (bQ (az (br K t) [] E0 (ae (aT K (ag 0) "entries") (ae (tC (.int 4119)) (ae (tC (.int 0)) aw)))) (a9 1))
  (bF (sZ (aU (aV xC (ag 1) (tC (.int 0)))) (aU (aV (bP fun i j=> .bl (decide (j≤i))) (aV (bP fun i j=> .int (i - j)) (aT K (ag 0) "now") (aT K (ag 0) "heart_from")) (ag 1))))
  (aI (cJ K (ag 0) (aT K (ag 0) "now") "heart_from")
  (aW (cp t.aC "send" (dj K t) [] E0 (ag 0) (ae (aV (bP fun i j=> .int (i+j)) (tC (.int 1792)) (aT K (ag 0) "number")) (ae (d7 (ae (aT K (ag 0) "state") aw)) aw)))))
  bt))
def oa:List Str:=["self"]
def yb(K:PySem.W.Frag)(t:bh):TS:=
 (aI (cJ K (ag 0) (tC (.int 0)) "marks")
  (aI (cJ K (ag 0) (aT K (ag 0) "now") "work_from")
  (cJ K (ag 0) (aV Ra (d7 (ae (tC .bB) aw)) (tC (.int 4))) "sent_at")))
def ku:List Str:=["self"]
def uB(K:PySem.W.Frag)(t:bh):TS:=
 (aI (aW (Pc K "dict" Np (aT K (ag 0) "entries") (ae (az (d8 K t) [] E0 (ae (aT K (ag 0) "number") aw)) aw)))
  (aI (cJ K (ag 0) (tC (.int 127)) "state")
  (aI (cJ K (ag 0) (tC .bB) "hand")
  (aI (cJ K (ag 0) (aV Ra (d7 (ae (tC .bB) aw)) (tC (.int 4))) "kept")
  (aI (cJ K (ag 0) (aV Ra (d7 (ae (tC (.bl false)) aw)) (tC (.int 4))) "changed")
  (aI (cJ K (ag 0) (d7 (ae (tC .bB) (ae (tC .bB) aw))) "heard_at")
  (aI (cJ K (ag 0) (aT K (ag 0) "now") "heart_from")
  (aI (aW (cp t.aC "count_work" (c6 K t) [] E0 (ag 0) aw))
  (aW (cp t.aC "send" (dj K t) [] E0 (ag 0) (ae (aV (bP fun i j=> .int (i+j)) (tC (.int 1792)) (aT K (ag 0) "number")) (ae (d7 (ae (tC (.int 0)) aw)) aw))))))))))))
def pH:List Str:=["self"]
def zA(K:PySem.W.Frag)(t:bh):TS:=
 (aI (cJ K (ag 0) (az (gu K t) [] E0 (ae (aT K (ag 0) "table") aw)) "entries")
  (aW (cp t.aC "begin_besides" (cz K t) [] E0 (ag 0) aw)))
def vF:List Str:=["self","number","table"]
def E8(K:PySem.W.Frag)(t:bh):TS:=
 (aI (cJ K (ag 0) (ag 1) "number")
  (aI (cJ K (ag 0) (u7 (SS K) (ae (ag 2) aw)) "table")
  (aI (cJ K (ag 0) (tC (.int 0)) "now")
  (aI (cJ K (ag 0) (d7 aw) "row")
  (aW (cp t.aC "begin_all" (dw K t) [] E0 (ag 0) aw))))))
def lj:List Str:=["self"]
def vo(K:PySem.W.Frag)(t:bh):TS:=
 (aI (cJ K (kE (aT K (ag 0) "entries") (az (cS K t) [] E0 (ae (tC (.int 4097)) (ae (tC (.int 0)) aw)))) (tC (.int 0)) "value")
  (aW (cp t.aC "tell_fault" (cW K t) [] E0 (ag 0) (ae (tC (.int 0)) aw))))
def o8:List Str:=["entries","index","count","sub"]
def FR(K:PySem.W.Frag)(t:bh):TS:=
 (aI (bQ (az (br K t) [] E0 (ae (ag 0) (ae (ag 1) (ae (tC (.int 0)) aw)))) (a9 2))
  (bu (Rm (M0 (ae (tC (.int 1)) (ae (aV (bP fun i j=> .int (i+j)) (ag 2) (tC (.int 1))) aw))) (a9 3) KW (aV (rI (fun _ j=>0≤j) fun i j=> .int (i / 2 ^ j.toNat)) (az (br K t) [] E0 (ae (ag 0) (ae (ag 1) (ae (ag 3) aw)))) (tC (.int 8))) [3])))
def mK:List Str:=["entries","index","key"]
def Ds(K:PySem.W.Frag)(t:bh):TS:=
 (bu (u7 (Ta K) (ae (Rm (DR K (az (cY K t) [] E0 (ae (ag 0) (ae (ag 1) aw)))) (a9 2) KW (aT K (kE (ag 0) (ag 2)) "size") [2]) aw)))
def Kl:List Str:=["node","key","value","entry","place"]
def Qq(K:PySem.W.Frag)(t:bh):TS:=
 (aI (bQ (kE (aT K (ag 0) "entries") (ag 1)) (a9 3))
  (aI (bF (aU (aV lL (aT K (ag 3) "value") (ag 2)))
  Ed
  bt)
  (aI (cJ K (ag 3) (ag 2) "value")
  (xA (vS (ae (tC (.int 4)) aw)) (a9 4)
  (bF (aU (aV (SW K false) (ag 1) (az (cY K t) [] E0 (ae (aT K (ag 0) "entries") (ae (aV (bP fun i j=> .int (i+j)) (tC (.int 6656)) (ag 4)) aw)))))
  (bQ (tC (.bl true)) (Iy (aT K (ag 0) "changed") (ag 4) xG))
  bt)))))
def sU:List Str:=["node","ident","place"]
def DF(K:PySem.W.Frag)(t:bh):TS:=
 (aI (xA (vS (ae (tC (.int 4)) aw)) (a9 2)
  (bF (aU (aV lL (az (br K t) [] E0 (ae (aT K (ag 0) "entries") (ae (aV (bP fun i j=> .int (i+j)) (tC (.int 5120)) (ag 2)) (ae (tC (.int 1)) aw)))) (ag 1)))
  (bu (ag 2))
  bt))
  (bu (tC .bB)))
def J3:List Str:=["node","place","data","at","key","size"]
def PZ(K:PySem.W.Frag)(t:bh):TS:=
 (aI (bQ (tC (.int 0)) (a9 3))
  (xA (DR K (az (cY K t) [] E0 (ae (aT K (ag 0) "entries") (ae (aV (bP fun i j=> .int (i+j)) (tC (.int 5632)) (ag 1)) aw)))) (a9 4)
  (aI (bQ (aT K (kE (aT K (ag 0) "entries") (ag 4)) "size") (a9 5))
  (aI (aW (az (mm K t) [] E0 (ae (ag 0) (ae (ag 4) (ae (az (cE K t) [] E0 (ae (Nt (yg K) (ag 2) (eF (ag 3)) (eF (aV (bP fun i j=> .int (i+j)) (ag 3) (ag 5)))) aw)) aw)))))
  (U9 3 (ag 5) (Wm fun i j=>i+j))))))
def vJ:List Str:=["node","place","data"]
def Fd(K:PySem.W.Frag)(t:bh):TS:=
 (bF (aU (aV (bP fun i j=> .bl (decide (i < j))) (u7 (oX K) (ae (ag 2) aw)) (az (eE K t) [] E0 (ae (aT K (ag 0) "entries") (ae (aV (bP fun i j=> .int (i+j)) (tC (.int 5632)) (ag 1)) aw)))))
  (aW (cp t.aC "send_fault" (cB K t) [] E0 (ag 0) (ae (tC (.int 33296)) (ae (tC (.int 4)) aw))))
  (bF (aU (aV (bP fun i j=> .bl (decide (i < j))) (az (br K t) [] E0 (ae (aT K (ag 0) "entries") (ae (aV (bP fun i j=> .int (i+j)) (tC (.int 5120)) (ag 1)) (ae (tC (.int 2)) aw)))) (tC (.int 254))))
  (bQ (u7 (SS K) (ae (ag 2) aw)) (Iy (aT K (ag 0) "kept") (ag 1) xG))
  (aW (az (pZ K t) [] E0 (ae (ag 0) (ae (ag 1) (ae (ag 2) aw)))))))
def Bf:List Str:=["node","place","when"]
def K1(K:PySem.W.Frag)(t:bh):TS:=
 (aI (bQ (az (br K t) [] E0 (ae (aT K (ag 0) "entries") (ae (aV (bP fun i j=> .int (i+j)) (tC (.int 6144)) (ag 1)) (ae (tC (.int 2)) aw)))) (a9 2))
  (aI (bF (aU (aV lL (ag 2) (tC (.int 0))))
  (bu (aV (iL K) (aT K (ag 0) "changed") (ag 1)))
  bt)
  (bu (Dj (aV (bP fun i j=> .bl (decide (i < j))) (ag 2) (tC (.int 254))) (aV lL (aV (rI (fun _ j=>0 < j) fun i j=> .int (i % j)) (aT K (ag 0) "marks") (ag 2)) (tC (.int 0)))))))
def M7:List Str:=["node","place"]
def RQ(K:PySem.W.Frag)(t:bh):TS:=
 (bu (aV (bP fun i j=> .bl (decide (i < j))) (az (br K t) [] E0 (ae (aT K (ag 0) "entries") (ae (aV (bP fun i j=> .int (i+j)) (tC (.int 6144)) (ag 1)) (ae (tC (.int 1)) aw)))) (tC (.int 2147483648))))
def EH:List Str:=["node","place","data","key"]
def LF(K:PySem.W.Frag)(t:bh):TS:=
 (aI (bQ (d7 aw) (a9 2))
  (aI (xA (DR K (az (cY K t) [] E0 (ae (aT K (ag 0) "entries") (ae (aV (bP fun i j=> .int (i+j)) (tC (.int 6656)) (ag 1)) aw)))) (a9 3)
  (aW (Pc K "list" uK (ag 2) (ae (az (gB K t) [] E0 (ae (aT K (kE (aT K (ag 0) "entries") (ag 3)) "value") (ae (aT K (kE (aT K (ag 0) "entries") (ag 3)) "size") aw))) aw))))
  (aI (aW (cp t.aC "send" (dj K t) [] E0 (ag 0) (ae (az (br K t) [] E0 (ae (aT K (ag 0) "entries") (ae (aV (bP fun i j=> .int (i+j)) (tC (.int 6144)) (ag 1)) (ae (tC (.int 1)) aw)))) (ae (ag 2) aw))))
  (aI (bQ (tC (.bl false)) (Iy (aT K (ag 0) "changed") (ag 1) xG))
  (bQ (aT K (ag 0) "now") (Iy (aT K (ag 0) "sent_at") (ag 1) xG))))))
def A8:List Str:=["node","place","data"]
def JU(K:PySem.W.Frag)(t:bh):TS:=
 (aI (bQ (aV (iL K) (aT K (ag 0) "kept") (ag 1)) (a9 2))
  (aI (bQ (tC .bB) (Iy (aT K (ag 0) "kept") (ag 1) xG))
  (bF (sZ (tB (ND (ag 2))) (aU (aV (bP fun i j=> .bl (decide (j≤i))) (u7 (oX K) (ae (ag 2) aw)) (az (eE K t) [] E0 (ae (aT K (ag 0) "entries") (ae (aV (bP fun i j=> .int (i+j)) (tC (.int 5632)) (ag 1)) aw))))))
  (aW (az (pZ K t) [] E0 (ae (ag 0) (ae (ag 1) (ae (ag 2) aw)))))
  bt)))
def Bc:List Str:=["node","place"]
def KP(K:PySem.W.Frag)(t:bh):TS:=
 (aI (cJ K (ag 0) (aV (bP fun i j=> .int (Builtin.bitAnd i j)) (aV (bP fun i j=> .int (i+j)) (aT K (ag 0) "marks") (tC (.int 1))) (tC (.int 4294967295))) "marks")
  (aI (xA (vS (ae (tC (.int 4)) aw)) (a9 1)
  (aW (az (lI K t) [] E0 (ae (ag 0) (ae (ag 1) aw)))))
  (xA (vS (ae (tC (.int 4)) aw)) (a9 1)
  (bF (sZ (tB (az (uy K t) [] E0 (ae (ag 0) (ae (ag 1) aw)))) (tB (az (lR K t) [] E0 (ae (ag 0) (ae (ag 1) aw)))))
  (aW (az (kB K t) [] E0 (ae (ag 0) (ae (ag 1) aw))))
  bt))))
def yx:List Str:=["node","place","longest","sent","since"]
def IF(K:PySem.W.Frag)(t:bh):TS:=
 (aI (bQ (az (br K t) [] E0 (ae (aT K (ag 0) "entries") (ae (aV (bP fun i j=> .int (i+j)) (tC (.int 6144)) (ag 1)) (ae (tC (.int 5)) aw)))) (a9 2))
  (aI (bQ (aV (iL K) (aT K (ag 0) "sent_at") (ag 1)) (a9 3))
  (aI (bQ (Ol (tB (Fy (ag 3))) (aT K (ag 0) "work_from") (ag 3)) (a9 4))
  (bu (Dj (aV xC (ag 2) (tC (.int 0))) (aV (bP fun i j=> .bl (decide (j≤i))) (aV (bP fun i j=> .int (i - j)) (aT K (ag 0) "now") (ag 4)) (ag 2)))))))
def Lf:List Str:=["node","place","sent"]
def QT(K:PySem.W.Frag)(t:bh):TS:=
 (aI (bF (aU (aV (bP fun i j=> .bl (decide (i < j))) (az (br K t) [] E0 (ae (aT K (ag 0) "entries") (ae (aV (bP fun i j=> .int (i+j)) (tC (.int 6144)) (ag 1)) (ae (tC (.int 2)) aw)))) (tC (.int 254))))
  (bu (tC (.bl false)))
  bt)
  (aI (bQ (aV (iL K) (aT K (ag 0) "sent_at") (ag 1)) (a9 2))
  (aI (bF (sZ (vy (tB (aV (iL K) (aT K (ag 0) "changed") (ag 1)))) (vy (tB (az (jY K t) [] E0 (ae (ag 0) (ae (ag 1) aw))))))
  (bu (tC (.bl false)))
  bt)
  (bu (Tq (Fy (ag 2)) (aV (bP fun i j=> .bl (decide (j≤i))) (aV (bP fun i j=> .int (i - j)) (aT K (ag 0) "now") (ag 2)) (az (br K t) [] E0 (ae (aT K (ag 0) "entries") (ae (aV (bP fun i j=> .int (i+j)) (tC (.int 6144)) (ag 1)) (ae (tC (.int 3)) aw))))))))))
def sF:List Str:=["node","place"]
def BP(K:PySem.W.Frag)(t:bh):TS:=
 (aI (bF (aU (aV xC (aT K (ag 0) "state") (tC (.int 5))))
  Ed
  bt)
  (xA (vS (ae (tC (.int 4)) aw)) (a9 1)
  (bF (sZ (tB (az (uy K t) [] E0 (ae (ag 0) (ae (ag 1) aw)))) (tB (az (vg K t) [] E0 (ae (ag 0) (ae (ag 1) aw)))))
  (aW (az (kB K t) [] E0 (ae (ag 0) (ae (ag 1) aw))))
  bt)))
def vK:List Str:=["entries","way","value","entry"]
def EO(K:PySem.W.Frag)(t:bh):TS:=
 (aI (bQ (Hy (ag 0) (aV (rI (fun _ j=>0≤j) fun i j=> .int (i / 2 ^ j.toNat)) (ag 2) (tC (.int 8)))) (a9 3))
  (aI (bF (PN (tB (Fy (ag 3))) (PN (vy (tB (aT K (ag 3) "mappable"))) (aU (aV xC (aV (rI xX fun i j=> .int (i * j)) (aT K (ag 3) "size") (tC (.int 8))) (aV (bP fun i j=> .int (Builtin.bitAnd i j)) (ag 2) (tC (.int 255)))))))
  (bu (tC (.bl false)))
  bt)
  (bu (Ol (aU (aV (bP fun i j=> .bl (decide (j≤i))) (ag 1) (tC (.int 6144)))) (aT K (ag 3) "readable") (aT K (ag 3) "writable")))))
def iz:List Str:=["entries","index","count","listed","sub","value"]
def Ca(K:PySem.W.Frag)(t:bh):TS:=
 (aI (bF (aU (aV (bP fun i j=> .bl (decide (j < i))) (ag 2) (tC (.int 8))))
  (bu (tC (.int 101253168)))
  bt)
  (aI (bQ (Rm (M0 (ae (tC (.int 1)) (ae (aV (bP fun i j=> .int (i+j)) (ag 2) (tC (.int 1))) aw))) (a9 4) KW (az (br K t) [] E0 (ae (ag 0) (ae (ag 1) (ae (ag 4) aw)))) [4]) (a9 3))
  (aI (bF (PN (aU (aV (SW K false) (tC (.int 0)) (ag 3))) (aU (aV (bP fun i j=> .bl (decide (j < i))) (u7 (Ta K) (ae (Rm (DR K (ag 3)) (a9 5) KW (aV (bP fun i j=> .int (Builtin.bitAnd i j)) (ag 5) (tC (.int 255))) [5]) aw)) (tC (.int 64)))))
  (bu (tC (.int 100925506)))
  bt)
  (bu (tC (.int 0))))))
def pF:List Str:=["entries","way","key","value","index","sub"]
def A2(K:PySem.W.Frag)(t:bh):TS:=
 (aI (bQ (aV (rI (fun _ j=>0≤j) fun i j=> .int (i / 2 ^ j.toNat)) (ag 2) (tC (.int 8))) (a9 4))
  (aI (bQ (aV (bP fun i j=> .int (Builtin.bitAnd i j)) (ag 2) (tC (.int 255))) (a9 5))
  (aI (bF (aU (aV (bP fun i j=> .bl (decide (i < j))) (az (br K t) [] E0 (ae (ag 0) (ae (ag 1) (ae (tC (.int 1)) aw)))) (tC (.int 2147483648))))
  (bu (tC (.int 134217762)))
  bt)
  (aI (bF (aU (aV lL (ag 5) (tC (.int 0))))
  (bu (az (fT K t) [] E0 (ae (ag 0) (ae (ag 4) (ae (ag 3) aw)))))
  bt)
  (aI (bF (aU (aV xC (az (br K t) [] E0 (ae (ag 0) (ae (ag 4) (ae (tC (.int 0)) aw)))) (tC (.int 0))))
  (bu (tC (.int 134217762)))
  bt)
  (bu (Ol (tB (az (i5 K t) [] E0 (ae (ag 0) (ae (ag 1) (ae (ag 3) aw))))) (tC (.int 0)) (tC (.int 100925505)))))))))
def CQ:List Str:=["is_wrong"]
def LC(K:PySem.W.Frag)(t:bh):TS:=
 (bu (Ol (tB (ag 0)) (tC (.int 101253168)) (tC (.int 0))))
def so:List Str:=["present","value"]
def BD(K:PySem.W.Frag)(t:bh):TS:=
 (aI (bF (PN (aU (aV xC (aV (bP fun i j=> .int (Builtin.bitAnd i j)) (ag 1) (tC (.int 2147481600))) (tC (.int 0)))) (vy (aU (px (bP fun i j=> .bl (decide (i≤j))) (bP fun i j=> .bl (decide (i≤j))) (tC (.int 385)) (aV (bP fun i j=> .int (Builtin.bitAnd i j)) (ag 1) (tC (.int 2047))) (tC (.int 1407))))))
  (bu (tC (.int 101253168)))
  bt)
  (aI (bF (sZ (aU (aV (bP fun i j=> .bl (decide (i < j))) (ag 0) (tC (.int 2147483648)))) (sZ (aU (aV (bP fun i j=> .bl (decide (i < j))) (ag 1) (tC (.int 2147483648)))) (aU (aV xC (ag 0) (ag 1)))))
  (bu (tC (.int 134217762)))
  bt)
  (bu (tC (.int 0)))))
def wa:List Str:=["present","sub","value"]
def EU(K:PySem.W.Frag)(t:bh):TS:=
 (aI (bF (aU (aV lL (ag 1) (tC (.int 1))))
  (bu (az (fR K t) [] E0 (ae (ag 0) (ae (ag 2) aw))))
  bt)
  (aI (bF (aU (aV lL (ag 1) (tC (.int 2))))
  (bu (az (fG K t) [] E0 (ae (px (bP fun i j=> .bl (decide (i < j))) (bP fun i j=> .bl (decide (i < j))) (tC (.int 240)) (ag 2) (tC (.int 254))) aw)))
  bt)
  (bu (tC (.int 0)))))
def sq:List Str:=["entries","key","value","index","sub","place"]
def BL(K:PySem.W.Frag)(t:bh):TS:=
 (aI (bQ (aV (rI (fun _ j=>0≤j) fun i j=> .int (i / 2 ^ j.toNat)) (ag 1) (tC (.int 8))) (a9 3))
  (aI (bQ (aV (bP fun i j=> .int (Builtin.bitAnd i j)) (ag 1) (tC (.int 255))) (a9 4))
  (aI (bQ (aV (rI (fun _ j=>0 < j) fun i j=> .int (i % j)) (ag 3) (tC (.int 4))) (a9 5))
  (aI (bF (aU (aV lL (ag 3) (tC (.int 4101))))
  (bu (az (fG K t) [] E0 (ae (aV (bP fun i j=> .bl (decide (j < i))) (ag 2) (tC (.int 2047))) aw)))
  bt)
  (aI (bF (aU (aV lL (ag 3) (tC (.int 4116))))
  (bu (az (fG K t) [] E0 (ae (aV xC (aV (bP fun i j=> .int (Builtin.bitAnd i j)) (ag 2) (tC (.int 2147481600))) (tC (.int 0))) aw)))
  bt)
  (aI (bF (aU (aV lL (ag 3) (tC (.int 4118))))
  (bu (az (fG K t) [] E0 (ae (aV xC (aV (bP fun i j=> .int (Builtin.bitAnd i j)) (ag 2) (tC (.int 4286578688))) (tC (.int 0))) aw)))
  bt)
  (aI (bF (aU (aV (SW K false) (aV (bP fun i j=> .int (i - j)) (ag 3) (ag 5)) (NV (ae (tC (.int 5120)) (ae (tC (.int 6144)) aw)))))
  (bu (az (jC K t) [] E0 (ae (aT K (kE (ag 0) (ag 1)) "value") (ae (ag 4) (ae (ag 2) aw)))))
  bt)
  (aI (bF (aU (aV lL (aV (bP fun i j=> .int (i - j)) (ag 3) (ag 5)) (tC (.int 5632))))
  (bu (az (dy K t) [] E0 (ae (ag 0) (ae (aV (bP fun i j=> .int (i+j)) (tC (.int 5120)) (ag 5)) (ae (ag 1) (ae (ag 2) aw))))))
  bt)
  (aI (bF (aU (aV lL (aV (bP fun i j=> .int (i - j)) (ag 3) (ag 5)) (tC (.int 6656))))
  (bu (az (dy K t) [] E0 (ae (ag 0) (ae (aV (bP fun i j=> .int (i+j)) (tC (.int 6144)) (ag 5)) (ae (ag 1) (ae (ag 2) aw))))))
  bt)
  (bu (tC (.int 0))))))))))))
def vL:List Str:=["self","is_set","key","row"]
def E9(K:PySem.W.Frag)(t:bh):TS:=
 (aI (cJ K (ag 0) (ag 1) "is_set")
  (aI (cJ K (ag 0) (ag 2) "key")
  (aI (cJ K (ag 0) (ag 3) "row")
  (cJ K (ag 0) (tC (.int 0)) "turn"))))
def GO:List Str:=["key"]
def Ot(K:PySem.W.Frag)(t:bh):TS:=
 (bu (aV uF (az (gB K t) [] E0 (ae (aV (rI (fun _ j=>0≤j) fun i j=> .int (i / 2 ^ j.toNat)) (ag 0) (tC (.int 8))) (ae (tC (.int 2)) aw))) (d7 (ae (aV (bP fun i j=> .int (Builtin.bitAnd i j)) (ag 0) (tC (.int 255))) aw))))
def Nz:List Str:=["node","data"]
def RX(K:PySem.W.Frag)(t:bh):TS:=
 (aW (cp t.aC "send" (dj K t) [] E0 (ag 0) (ae (aV (bP fun i j=> .int (i+j)) (tC (.int 1408)) (aT K (ag 0) "number")) (ae (az (jU K t) [] E0 (ae (ag 1) (ae (tC (.int 8)) aw))) aw))))
def Nj:List Str:=["node","key","code"]
def Sh(K:PySem.W.Frag)(t:bh):TS:=
 (aI (cJ K (ag 0) (tC .bB) "hand")
  (aW (az (eu K t) [] E0 (ae (ag 0) (ae (aV uF (aV uF (d7 (ae (tC (.int 128)) aw)) (az (fz K t) [] E0 (ae (ag 1) aw))) (az (gB K t) [] E0 (ae (ag 2) (ae (tC (.int 4)) aw)))) aw)))))
def tR:List Str:=["node","key","value"]
def Ea(K:PySem.W.Frag)(t:bh):TS:=
 (aI (aW (az (mm K t) [] E0 (ae (ag 0) (ae (ag 1) (ae (ag 2) aw)))))
  (aI (bF (aU (aV lL (ag 1) (az (cS K t) [] E0 (ae (tC (.int 4119)) (ae (tC (.int 0)) aw)))))
  (cJ K (ag 0) (aT K (ag 0) "now") "heart_from")
  bt)
  (bF (aU (aV lL (aV (rI (fun _ j=>0≤j) fun i j=> .int (i / 2 ^ j.toNat)) (ag 1) (tC (.int 8))) (tC (.int 4118))))
  (bQ (tC .bB) (Iy (aT K (ag 0) "heard_at") (aV (bP fun i j=> .int (i - j)) (aV (bP fun i j=> .int (Builtin.bitAnd i j)) (ag 1) (tC (.int 255))) (tC (.int 1))) xG))
  bt)))
def yc:List Str:=["node","key","row","answer","value","code"]
def HD(K:PySem.W.Frag)(t:bh):TS:=
 (aI (bQ (az (cE K t) [] E0 (ae (ag 2) aw)) (a9 4))
  (aI (bQ (az (gi K t) [] E0 (ae (aT K (ag 0) "entries") (ae (ag 1) (ae (ag 4) aw)))) (a9 5))
  (aI (bF (aU (aV xC (ag 5) (tC (.int 0))))
  (aI (aW (az (fK K t) [] E0 (ae (ag 0) (ae (ag 1) (ae (ag 5) aw)))))
  Ed)
  bt)
  (aI (aW (az (gW K t) [] E0 (ae (ag 0) (ae (ag 1) (ae (ag 4) aw)))))
  (aW (az (eu K t) [] E0 (ae (ag 0) (ae (ag 3) aw))))))))
def yD:List Str:=["node","code"]
def Hd(K:PySem.W.Frag)(t:bh):TS:=
 (aW (az (fK K t) [] E0 (ae (ag 0) (ae (Ol (tB (Fy (aT K (ag 0) "hand"))) (tC (.int 0)) (aT K (aT K (ag 0) "hand") "key")) (ae (ag 1) aw)))))
def sH:List Str:=["node","data","is_set"]
def Cd(K:PySem.W.Frag)(t:bh):TS:=
 (aI (bF (PN (tB (Fy (aT K (ag 0) "hand"))) (aU (aV xC (aT K (aT K (ag 0) "hand") "is_set") (ag 2))))
  (bu (tC (.int 84148225)))
  bt)
  (bu (Ol (aU (aV xC (aV (bP fun i j=> .int (Builtin.bitAnd i j)) (aV (iL K) (ag 1) (tC (.int 0))) (tC (.int 16))) (aT K (aT K (ag 0) "hand") "turn"))) (tC (.int 84082688)) (tC (.int 0)))))
def xT:List Str:=["node","data","code","hand","size","answer"]
def HS(K:PySem.W.Frag)(t:bh):TS:=
 (aI (bQ (az (dY K t) [] E0 (ae (ag 0) (ae (ag 1) (ae (tC (.bl true)) aw)))) (a9 2))
  (aI (bF (aU (aV xC (ag 2) (tC (.int 0))))
  (aI (aW (az (eO K t) [] E0 (ae (ag 0) (ae (ag 2) aw))))
  Ed)
  bt)
  (aI (bQ (aT K (ag 0) "hand") (a9 3))
  (aI (bQ (aT K (kE (aT K (ag 0) "entries") (aT K (ag 3) "key")) "size") (a9 4))
  (aI (aW (Pc K "list" uK (aT K (ag 3) "row") (ae (Nt (yg K) (ag 1) (eF (tC (.int 1))) (eF (aV (bP fun i j=> .int (i - j)) (aV (bP fun i j=> .int (i+j)) (tC (.int 1)) (tC (.int 7))) (aV (bP fun i j=> .int (Builtin.bitAnd i j)) (aV (rI (fun _ j=>0≤j) fun i j=> .int (i / 2 ^ j.toNat)) (aV (iL K) (ag 1) (tC (.int 0))) (tC (.int 1))) (tC (.int 7)))))) aw)))
  (aI (bQ (d7 (ae (aV (bP fun i j=> .int (i+j)) (tC (.int 32)) (aT K (ag 3) "turn")) aw)) (a9 5))
  (aI (cJ K (ag 3) (aV (bP fun i j=> .int (i - j)) (tC (.int 16)) (aT K (ag 3) "turn")) "turn")
  (bF (aU (aV (bP fun i j=> .bl (decide (j < i))) (u7 (oX K) (ae (aT K (ag 3) "row") aw)) (ag 4)))
  (aW (az (fK K t) [] E0 (ae (ag 0) (ae (aT K (ag 3) "key") (ae (tC (.int 101122066)) aw)))))
  (bF (aU (aV lL (aV (bP fun i j=> .int (Builtin.bitAnd i j)) (aV (iL K) (ag 1) (tC (.int 0))) (tC (.int 1))) (tC (.int 0))))
  (aW (az (eu K t) [] E0 (ae (ag 0) (ae (ag 5) aw))))
  (bF (aU (aV (bP fun i j=> .bl (decide (i < j))) (u7 (oX K) (ae (aT K (ag 3) "row") aw)) (ag 4)))
  (aW (az (fK K t) [] E0 (ae (ag 0) (ae (aT K (ag 3) "key") (ae (tC (.int 101122067)) aw)))))
  (aI (cJ K (ag 0) (tC .bB) "hand")
  (aW (az (gU K t) [] E0 (ae (ag 0) (ae (aT K (ag 3) "key") (ae (aT K (ag 3) "row") (ae (ag 5) aw)))))))))))))))))
def ud:List Str:=["count","size"]
def Ep(K:PySem.W.Frag)(t:bh):TS:=
 (aI (bF (aU (aV (bP fun i j=> .bl (decide (j < i))) (ag 0) (ag 1)))
  (bu (tC (.int 101122066)))
  bt)
  (bu (Ol (aU (aV (bP fun i j=> .bl (decide (i < j))) (ag 0) (ag 1))) (tC (.int 101122067)) (tC (.int 0)))))
def k0:List Str:=["size","data"]
def vx(K:PySem.W.Frag)(t:bh):TS:=
 (aI (bF (aU (aV lL (aV (bP fun i j=> .int (Builtin.bitAnd i j)) (aV (iL K) (ag 1) (tC (.int 0))) (tC (.int 2))) (tC (.int 0))))
  (bu (Ol (aU (aV xC (aV (bP fun i j=> .int (Builtin.bitAnd i j)) (aV (iL K) (ag 1) (tC (.int 0))) (tC (.int 1))) (tC (.int 0)))) (az (dc K t) [] E0 (ae (az (cE K t) [] E0 (ae (Nt (yg K) (ag 1) (eF (tC (.int 4))) (eF (tC (.int 8)))) aw)) (ae (ag 0) aw))) (tC (.int 0))))
  bt)
  (aI (bF (aU (aV lL (aV (bP fun i j=> .int (Builtin.bitAnd i j)) (aV (iL K) (ag 1) (tC (.int 0))) (tC (.int 1))) (tC (.int 0))))
  (bu (az (dc K t) [] E0 (ae (u7 UN (ae (ag 0) (ae (tC (.int 4)) aw))) (ae (ag 0) aw))))
  bt)
  (bu (az (dc K t) [] E0 (ae (aV (bP fun i j=> .int (i - j)) (tC (.int 4)) (aV (bP fun i j=> .int (Builtin.bitAnd i j)) (aV (rI (fun _ j=>0≤j) fun i j=> .int (i / 2 ^ j.toNat)) (aV (iL K) (ag 1) (tC (.int 0))) (tC (.int 2))) (tC (.int 3)))) (ae (ag 0) aw))))))
def sf:List Str:=["entries","key"]
def BO(K:PySem.W.Frag)(t:bh):TS:=
 (aI (bF (tB (U8 (ag 1) (ag 0)))
  (bu (tC (.int 0)))
  bt)
  (bu (Ol (tB (az (lT K t) [] E0 (ae (ag 0) (ae (aV (rI (fun _ j=>0≤j) fun i j=> .int (i / 2 ^ j.toNat)) (ag 1) (tC (.int 8))) aw)))) (tC (.int 101253137)) (tC (.int 100794368)))))
def Bx:List Str:=["data"]
def La(K:PySem.W.Frag)(t:bh):TS:=
 (bu (az (cS K t) [] E0 (ae (az (cE K t) [] E0 (ae (Nt (yg K) (ag 0) (eF (tC (.int 1))) (eF (tC (.int 3)))) aw)) (ae (aV (iL K) (ag 0) (tC (.int 3))) aw))))
def Bh:List Str:=["node","data","key","code"]
def Kg(K:PySem.W.Frag)(t:bh):TS:=
 (aI (bQ (az (i8 K t) [] E0 (ae (ag 1) aw)) (a9 2))
  (aI (bQ (az (dS K t) [] E0 (ae (aT K (ag 0) "entries") (ae (ag 2) aw))) (a9 3))
  (aI (bF (sZ (aU (aV lL (ag 3) (tC (.int 0)))) (vy (tB (aT K (kE (aT K (ag 0) "entries") (ag 2)) "writable"))))
  (bQ (tC (.int 100728834)) (a9 3))
  bt)
  (aI (bF (aU (aV lL (ag 3) (tC (.int 0))))
  (bQ (az (dr K t) [] E0 (ae (aT K (kE (aT K (ag 0) "entries") (ag 2)) "size") (ae (ag 1) aw))) (a9 3))
  bt)
  (bF (aU (aV xC (ag 3) (tC (.int 0))))
  (aW (az (fK K t) [] E0 (ae (ag 0) (ae (ag 2) (ae (ag 3) aw)))))
  (bF (aU (aV xC (aV (bP fun i j=> .int (Builtin.bitAnd i j)) (aV (iL K) (ag 1) (tC (.int 0))) (tC (.int 2))) (tC (.int 0))))
  (aI (cJ K (ag 0) (tC .bB) "hand")
  (aW (az (gU K t) [] E0 (ae (ag 0) (ae (ag 2) (ae (Nt (yg K) (ag 1) (eF (tC (.int 4))) (eF (aV (bP fun i j=> .int (i+j)) (tC (.int 4)) (aT K (kE (aT K (ag 0) "entries") (ag 2)) "size")))) (ae (aV uF (d7 (ae (tC (.int 96)) aw)) (az (fz K t) [] E0 (ae (ag 2) aw))) aw)))))))
  (aI (cJ K (ag 0) (Bu t.bL (fF K t) [] E0 (ae (tC (.bl true)) (ae (ag 2) (ae (d7 aw) aw)))) "hand")
  (aW (az (eu K t) [] E0 (ae (ag 0) (ae (aV uF (d7 (ae (tC (.int 96)) aw)) (az (fz K t) [] E0 (ae (ag 2) aw))) aw)))))))))))
def Ba:List Str:=["node","data","key","code","size","row"]
def K5(K:PySem.W.Frag)(t:bh):TS:=
 (aI (bQ (az (i8 K t) [] E0 (ae (ag 1) aw)) (a9 2))
  (aI (bQ (az (dS K t) [] E0 (ae (aT K (ag 0) "entries") (ae (ag 2) aw))) (a9 3))
  (aI (bF (sZ (aU (aV lL (ag 3) (tC (.int 0)))) (vy (tB (aT K (kE (aT K (ag 0) "entries") (ag 2)) "readable"))))
  (bQ (tC (.int 100728833)) (a9 3))
  bt)
  (aI (bF (aU (aV xC (ag 3) (tC (.int 0))))
  (aI (aW (az (fK K t) [] E0 (ae (ag 0) (ae (ag 2) (ae (ag 3) aw)))))
  Ed)
  bt)
  (aI (bQ (aT K (kE (aT K (ag 0) "entries") (ag 2)) "size") (a9 4))
  (aI (bQ (az (gB K t) [] E0 (ae (aT K (kE (aT K (ag 0) "entries") (ag 2)) "value") (ae (ag 4) aw))) (a9 5))
  (bF (aU (aV (bP fun i j=> .bl (decide (i≤j))) (ag 4) (tC (.int 4))))
  (aI (cJ K (ag 0) (tC .bB) "hand")
  (aW (az (eu K t) [] E0 (ae (ag 0) (ae (aV uF (aV uF (d7 (ae (aV (bP fun i j=> .int (i+j)) (tC (.int 67)) (aV (rI xX fun i j=> .int (i * j)) (tC (.int 4)) (aV (bP fun i j=> .int (i - j)) (tC (.int 4)) (ag 4)))) aw)) (az (fz K t) [] E0 (ae (ag 2) aw))) (ag 5)) aw)))))
  (aI (cJ K (ag 0) (Bu t.bL (fF K t) [] E0 (ae (tC (.bl false)) (ae (ag 2) (ae (ag 5) aw)))) "hand")
  (aW (az (eu K t) [] E0 (ae (ag 0) (ae (aV uF (aV uF (d7 (ae (tC (.int 65)) aw)) (az (fz K t) [] E0 (ae (ag 2) aw))) (d7 (ae (ag 4) aw))) aw))))))))))))
def yi:List Str:=["node","data","code","hand","piece","is_last","head"]
def Hf(K:PySem.W.Frag)(t:bh):TS:=
 (aI (bQ (az (dY K t) [] E0 (ae (ag 0) (ae (ag 1) (ae (tC (.bl false)) aw)))) (a9 2))
  (aI (bF (aU (aV xC (ag 2) (tC (.int 0))))
  (aI (aW (az (eO K t) [] E0 (ae (ag 0) (ae (ag 2) aw))))
  Ed)
  bt)
  (aI (bQ (aT K (ag 0) "hand") (a9 3))
  (aI (bQ (Nt (yg K) (aT K (ag 3) "row") Jd (eF (tC (.int 7)))) (a9 4))
  (aI (cJ K (ag 3) (Nt (yg K) (aT K (ag 3) "row") (eF (tC (.int 7))) Jd) "row")
  (aI (bQ (aV lL (u7 (oX K) (ae (aT K (ag 3) "row") aw)) (tC (.int 0))) (a9 5))
  (aI (bQ (aV (bP fun i j=> .int (i+j)) (aV (bP fun i j=> .int (i+j)) (aT K (ag 3) "turn") (aV (rI xX fun i j=> .int (i * j)) (tC (.int 2)) (aV (bP fun i j=> .int (i - j)) (tC (.int 7)) (u7 (oX K) (ae (ag 4) aw))))) (Ol (tB (ag 5)) (tC (.int 1)) (tC (.int 0)))) (a9 6))
  (aI (cJ K (ag 3) (aV (bP fun i j=> .int (i - j)) (tC (.int 16)) (aT K (ag 3) "turn")) "turn")
  (aI (bF (tB (ag 5))
  (cJ K (ag 0) (tC .bB) "hand")
  bt)
  (aW (az (eu K t) [] E0 (ae (ag 0) (ae (aV uF (d7 (ae (ag 6) aw)) (ag 4)) aw)))))))))))))
def uj:List Str:=["node","data","kind"]
def D9(K:PySem.W.Frag)(t:bh):TS:=
 (aI (bQ (aV (rI (fun _ j=>0≤j) fun i j=> .int (i / 2 ^ j.toNat)) (aV (iL K) (ag 1) (tC (.int 0))) (tC (.int 5))) (a9 2))
  (bF (aU (aV lL (ag 2) (tC (.int 0))))
  (aW (az (j7 K t) [] E0 (ae (ag 0) (ae (ag 1) aw))))
  (bF (aU (aV lL (ag 2) (tC (.int 1))))
  (aW (az (lA K t) [] E0 (ae (ag 0) (ae (ag 1) aw))))
  (bF (aU (aV lL (ag 2) (tC (.int 2))))
  (aW (az (lO K t) [] E0 (ae (ag 0) (ae (ag 1) aw))))
  (bF (aU (aV lL (ag 2) (tC (.int 3))))
  (aW (az (kd K t) [] E0 (ae (ag 0) (ae (ag 1) aw))))
  (bF (aU (aV lL (ag 2) (tC (.int 4))))
  (cJ K (ag 0) (tC .bB) "hand")
  (aW (az (eO K t) [] E0 (ae (ag 0) (ae (tC (.int 84148225)) aw))))))))))
def yd:List Str:=["node"]
def Hx(K:PySem.W.Frag)(t:bh):TS:=
 (bF (aU (aV xC (aT K (ag 0) "state") (tC (.int 5))))
  (aI (cJ K (ag 0) (tC (.int 5)) "state")
  (aW (cp t.aC "count_work" (c6 K t) [] E0 (ag 0) aw)))
  bt)
def sW:List Str:=["node","command"]
def CF(K:PySem.W.Frag)(t:bh):TS:=
 (bF (aU (aV lL (ag 1) (tC (.int 1))))
  (aW (az (kg K t) [] E0 (ae (ag 0) aw)))
  (bF (aU (aV lL (ag 1) (tC (.int 2))))
  (cJ K (ag 0) (tC (.int 4)) "state")
  (bF (aU (aV lL (ag 1) (tC (.int 128))))
  (cJ K (ag 0) (tC (.int 127)) "state")
  (bF (aU (aV lL (ag 1) (tC (.int 129))))
  (aW (cp t.aC "begin_all" (dw K t) [] E0 (ag 0) aw))
  (bF (aU (aV lL (ag 1) (tC (.int 130))))
  (aW (cp t.aC "begin_besides" (cz K t) [] E0 (ag 0) aw))
  bt)))))
def yW:List Str:=["node","ident","data"]
def Hg(K:PySem.W.Frag)(t:bh):TS:=
 (bF (aU (aV lL (ag 1) (tC (.int 0))))
  (bF (sZ (aU (aV lL (u7 (oX K) (ae (ag 2) aw)) (tC (.int 2)))) (aU (aV (SW K false) (aV (iL K) (ag 2) (tC (.int 1))) (NV (ae (tC (.int 0)) (ae (aT K (ag 0) "number") aw))))))
  (aW (az (hG K t) [] E0 (ae (ag 0) (ae (aV (iL K) (ag 2) (tC (.int 0))) aw))))
  bt)
  (bF (aU (aV lL (ag 1) (aV (bP fun i j=> .int (i+j)) (tC (.int 1536)) (aT K (ag 0) "number"))))
  (bF (sZ (aU (aV lL (u7 (oX K) (ae (ag 2) aw)) (tC (.int 8)))) (aU (aV xC (aT K (ag 0) "state") (tC (.int 4)))))
  (aW (az (gX K t) [] E0 (ae (ag 0) (ae (ag 2) aw))))
  bt)
  (bF (aU (aV lL (ag 1) (az (br K t) [] E0 (ae (aT K (ag 0) "entries") (ae (tC (.int 4101)) (ae (tC (.int 0)) aw))))))
  (bF (aU (aV lL (aT K (ag 0) "state") (tC (.int 5))))
  (aW (az (lY K t) [] E0 (ae (ag 0) aw)))
  bt)
  (bF (tB (ND (az (eD K t) [] E0 (ae (ag 0) (ae (ag 1) aw)))))
  (bF (aU (aV lL (aT K (ag 0) "state") (tC (.int 5))))
  (aW (az (jf K t) [] E0 (ae (ag 0) (ae (az (eD K t) [] E0 (ae (ag 0) (ae (ag 1) aw))) (ae (ag 2) aw)))))
  bt)
  (bF (aU (aV lL (u7 (oX K) (ae (ag 2) aw)) (tC (.int 1))))
  (aW (az (lW K t) [] E0 (ae (ag 0) (ae (ag 1) aw))))
  bt)))))
def Ew:List Str:=["number","table"]
def MC(K:PySem.W.Frag)(t:bh):TS:=
 (aI (bF (PN (vy (aU (px (bP fun i j=> .bl (decide (i≤j))) (bP fun i j=> .bl (decide (i≤j))) (tC (.int 1)) (ag 0) (tC (.int 127))))) (vy (tB (az (eQ K t) [] E0 (ae (ag 1) aw)))))
  (bu (tC .bB))
  bt)
  (bu (Bu t.aC (jq K t) [] E0 (ae (ag 0) (ae (ag 1) aw)))))
def Ee:List Str:=["node"]
def Lr(K:PySem.W.Frag)(t:bh):TS:=
 (aI (aW (az (eW K t) [] E0 (ae (ag 0) aw)))
  (aI (aW (az (nO K t) [] E0 (ae (ag 0) aw)))
  (aW (az (dX K t) [] E0 (ae (ag 0) aw)))))
def DZ:List Str:=["node","ident","now","data"]
def Mg(K:PySem.W.Frag)(t:bh):TS:=
 (aI (bF (PN (vy (aU (px (bP fun i j=> .bl (decide (i≤j))) (bP fun i j=> .bl (decide (i≤j))) (tC (.int 0)) (ag 1) (tC (.int 2047))))) (aU (aV (bP fun i j=> .bl (decide (j < i))) (u7 (oX K) (ae (ag 3) aw)) (tC (.int 8)))))
  (bu (d7 (ae (tC (.int (-2))) aw)))
  bt)
  (aI (cJ K (ag 0) (u7 Pt (ae (aT K (ag 0) "now") (ae (ag 2) aw))) "now")
  (aI (aW (az (gR K t) [] E0 (ae (ag 0) (ae (ag 1) (ae (ag 3) aw)))))
  (aI (aW (az (iO K t) [] E0 (ae (ag 0) aw)))
  (bu (d7 (ae (tC (.int 0)) aw)))))))
def GQ:List Str:=["node","now"]
def Oe(K:PySem.W.Frag)(t:bh):TS:=
 (aI (cJ K (ag 0) (u7 Pt (ae (aT K (ag 0) "now") (ae (ag 1) aw))) "now")
  (aI (aW (az (iO K t) [] E0 (ae (ag 0) aw)))
  (bu (d7 (ae (tC (.int 0)) aw)))))
def GX:List Str:=["node","frame"]
def O4(K:PySem.W.Frag)(t:bh):TS:=
 (aI (bF (aU (aV lL (u7 (oX K) (ae (aT K (ag 0) "row") aw)) (tC (.int 0))))
  (bu (d7 (ae (tC (.int (-1))) aw)))
  bt)
  (aI (bQ (Pc K "list" Qo (aT K (ag 0) "row") (ae (tC (.int 0)) aw)) (a9 1))
  (bu (aV uF (d7 (ae (u7 (oX K) (ae (aV (RM K) (ag 1) (tC (.int 1))) aw)) (ae (aV (RM K) (ag 1) (tC (.int 0))) aw))) (az (jU K t) [] E0 (ae (aV (RM K) (ag 1) (tC (.int 1))) (ae (tC (.int 8)) aw)))))))
def KZ:List Str:=["node","index","sub","entry"]
def Qe(K:PySem.W.Frag)(t:bh):TS:=
 (aI (bQ (az (kC K t) [] E0 (ae (aT K (ag 0) "entries") (ae (ag 1) (ae (ag 2) aw)))) (a9 3))
  (aI (bF (tB (Fy (ag 3)))
  (bu (d7 (ae (tC (.int (-1))) aw)))
  bt)
  (bu (aV uF (d7 (ae (aT K (ag 3) "size") aw)) (az (jU K t) [] E0 (ae (az (gB K t) [] E0 (ae (aT K (ag 3) "value") (ae (aT K (ag 3) "size") aw))) (ae (tC (.int 8)) aw)))))))
def JI:List Str:=["node","index","sub","row","entry"]
def Qm(K:PySem.W.Frag)(t:bh):TS:=
 (aI (bQ (az (kC K t) [] E0 (ae (aT K (ag 0) "entries") (ae (ag 1) (ae (ag 2) aw)))) (a9 4))
  (aI (bF (PN (tB (Fy (ag 4))) (vy (tB (az (dq K t) [] E0 (ae (ag 1) aw)))))
  (bu (d7 (ae (tC (.int (-1))) aw)))
  bt)
  (aI (bF (aU (aV xC (u7 (oX K) (ae (ag 3) aw)) (aT K (ag 4) "size")))
  (bu (d7 (ae (tC (.int (-2))) aw)))
  bt)
  (aI (aW (az (mm K t) [] E0 (ae (ag 0) (ae (az (cS K t) [] E0 (ae (ag 1) (ae (ag 2) aw))) (ae (az (cE K t) [] E0 (ae (ag 3) aw)) aw)))))
  (aI (aW (az (dX K t) [] E0 (ae (ag 0) aw)))
  (bu (d7 (ae (tC (.int 0)) aw))))))))
def Ej:List Str:=["node","code","bit"]
def Mi(K:PySem.W.Frag)(t:bh):TS:=
 (aI (bF (PN (vy (aU (px (bP fun i j=> .bl (decide (i≤j))) (bP fun i j=> .bl (decide (i≤j))) (tC (.int 0)) (ag 1) (tC (.int 65535))))) (vy (aU (px (bP fun i j=> .bl (decide (i≤j))) (bP fun i j=> .bl (decide (i≤j))) (tC (.int 0)) (ag 2) (tC (.int 7))))))
  (bu (d7 (ae (tC (.int (-2))) aw)))
  bt)
  (aI (bF (aU (aV lL (ag 1) (tC (.int 0))))
  (aW (cp t.aC "clear_faults" (di K t) [] E0 (ag 0) aw))
  (aW (cp t.aC "send_fault" (cB K t) [] E0 (ag 0) (ae (ag 1) (ae (ag 2) aw)))))
  (bu (d7 (ae (tC (.int 0)) aw)))))
def DI:List Str:=["node"]
def Mo(K:PySem.W.Frag)(t:bh):TS:=
 (bu (d7 (ae (aT K (ag 0) "state") aw)))
def sJ:List Str:=["self","numbers"]
def Ce(K:PySem.W.Frag)(t:bh):TS:=
 (aI (cJ K (ag 0) (ag 1) "numbers")
  (cJ K (ag 0) (tC (.int 0)) "at"))
def ow:List Str:=["self"]
def yR(K:PySem.W.Frag)(t:bh):TS:=
 (bu (aV (bP fun i j=> .bl (decide (i < j))) (aT K (ag 0) "at") (u7 (oX K) (ae (aT K (ag 0) "numbers") aw))))
def kl:List Str:=["self"]
def tX(K:PySem.W.Frag)(t:bh):TS:=
 (aI (G8 K (ag 0) (tC (.int 1)) S8 "at")
  (bu (aV (iL K) (aT K (ag 0) "numbers") (aV (bP fun i j=> .int (i - j)) (aT K (ag 0) "at") (tC (.int 1))))))
def oz:List Str:=["self","count"]
def zt(K:PySem.W.Frag)(t:bh):TS:=
 (aI (bQ (cp t.bq "read_number" (aR K t) [] E0 (ag 0) aw) (a9 1))
  (aI (G8 K (ag 0) (ag 1) S8 "at")
  (bu (Nt (yg K) (aT K (ag 0) "numbers") (eF (aV (bP fun i j=> .int (i - j)) (aT K (ag 0) "at") (ag 1))) (eF (aT K (ag 0) "at"))))))
def zf:List Str:=["reader","number"]
def IG(K:PySem.W.Frag)(t:bh):TS:=
 (aI (aW (cp t.bq "read_number" (aR K t) [] E0 (ag 0) aw))
  (aI (bQ (cp t.bq "read_number" (aR K t) [] E0 (ag 0) aw) (a9 1))
  (bu (az (nV K t) [] E0 (ae (ag 1) (ae (cp t.bq "read_row" (cA K t) [] E0 (ag 0) aw) aw))))))
def xN:List Str:=["node","reader","ident","now"]
def IL(K:PySem.W.Frag)(t:bh):TS:=
 (aI (bQ (cp t.bq "read_number" (aR K t) [] E0 (ag 1) aw) (a9 2))
  (aI (bQ (cp t.bq "read_number" (aR K t) [] E0 (ag 1) aw) (a9 3))
  (bu (az (nT K t) [] E0 (ae (ag 0) (ae (ag 2) (ae (ag 3) (ae (cp t.bq "read_row" (cA K t) [] E0 (ag 1) aw) aw))))))))
def Bo:List Str:=["node","reader"]
def JP(K:PySem.W.Frag)(t:bh):TS:=
 (bu (az (qe K t) [] E0 (ae (ag 0) (ae (cp t.bq "read_number" (aR K t) [] E0 (ag 1) aw) aw))))
def Bd:List Str:=["node","reader"]
def KA(K:PySem.W.Frag)(t:bh):TS:=
 (bu (az (qg K t) [] E0 (ae (ag 0) aw)))
def EF:List Str:=["node","reader","index"]
def LP(K:PySem.W.Frag)(t:bh):TS:=
 (aI (bQ (cp t.bq "read_number" (aR K t) [] E0 (ag 1) aw) (a9 2))
  (bu (az (u0 K t) [] E0 (ae (ag 0) (ae (ag 2) (ae (cp t.bq "read_number" (aR K t) [] E0 (ag 1) aw) aw))))))
def Dl:List Str:=["node","reader","index","sub"]
def Mq(K:PySem.W.Frag)(t:bh):TS:=
 (aI (bQ (cp t.bq "read_number" (aR K t) [] E0 (ag 1) aw) (a9 2))
  (aI (bQ (cp t.bq "read_number" (aR K t) [] E0 (ag 1) aw) (a9 3))
  (bu (az (uX K t) [] E0 (ae (ag 0) (ae (ag 2) (ae (ag 3) (ae (cp t.bq "read_row" (cA K t) [] E0 (ag 1) aw) aw))))))))
def yV:List Str:=["node","reader","code"]
def IZ(K:PySem.W.Frag)(t:bh):TS:=
 (aI (bQ (cp t.bq "read_number" (aR K t) [] E0 (ag 1) aw) (a9 2))
  (bu (az (nX K t) [] E0 (ae (ag 0) (ae (ag 2) (ae (cp t.bq "read_number" (aR K t) [] E0 (ag 1) aw) aw))))))
def zu:List Str:=["node","reader"]
def Je(K:PySem.W.Frag)(t:bh):TS:=
 (bu (az (oo K t) [] E0 (ae (ag 0) aw)))
def Gw:List Str:=["calls","reader","node","given","answer"]
def Oh(K:PySem.W.Frag)(t:bh):TS:=
 (aI (bQ (Bu t.bq (gm K t) [] E0 (ae (ag 0) aw)) (a9 1))
  (aI (bQ (az (j3 K t) [] E0 (ae (ag 1) aw)) (a9 2))
  (aI (bF (tB (Fy (ag 2)))
  (bu (d7 (ae (tC (.int 1)) (ae (tC (.int (-2))) aw))))
  bt)
  (aI (bQ (d7 (ae (tC (.int 1)) (ae (tC (.int 0)) aw))) (a9 3))
  (aI (Rp (tB (cp t.bq "has_more" (d9 K t) [] E0 (ag 1) aw))
  (aI (bQ (MP (QH [(1,(eI K t)),(2,(gx K t)),(3,(fV K t)),(4,(iN K t)),(5,(iP K t)),(6,(eM K t)),(7,(eK K t))] (cp t.bq "read_number" (aR K t) [] E0 (ag 1) aw) (ae (ag 2) (ae (ag 1) aw)))) (a9 4))
  (aI (aW (Pc K "list" yr (ag 3) (ae (u7 (oX K) (ae (ag 4) aw)) aw)))
  (aW (Pc K "list" uK (ag 3) (ae (ag 4) aw))))))
  (bu (ag 3)))))))
end Fn
namespace Fn
open PySem L2
section
variable{K:PySem.W.Frag}{t:bh}{vs:List V}{H:Hp}{Q:VK}{E:XK}
abbrev Dn(Q:VK):Ends:={nx:=fun _ H'=>Q .bB H',rt:=Q}
theorem FN(h:cE K t vs H Q E):vs.length=1:=by obtain ⟨a,bs,rfl,_⟩:=h;rfl
theorem Hj(T:cU K t)(h:cE K t vs H Q E):KL K t (Dn Q) (start Bi vs) H:=by
 obtain ⟨a,bs,rfl,ha,q⟩:=h
 refine ⟨_,rfl,a,bV bs,rfl,cb.of ha,?_⟩
 refine Si (K:=K) (a:=a) (xs:=bV bs) (fun i σ H'=>H'=H∧∃b,σ = [some (.ref a),some (.int ((Sa32.num (bs.drop (bs.length - i)):Nat):Int)),b]) ?_ ?_ ?_ ?_
 ·refine ⟨rfl,none,?_⟩
  rw [Nat.sub_zero,List.drop_length]
  rfl
 ·rintro i σ H' _ ⟨rfl,_⟩
  exact cb.of ha
 ·rintro i x σ H' hi hx ⟨rfl,b,rfl⟩
  rw [bz] at hi hx
  obtain ⟨c,hc,rfl⟩:∃c,bs[bs.length - 1 - i]? = some c∧V.int (c:Int)=x:=by
   unfold bV at hx
   rw [List.getElem?_map] at hx
   cases z:bs[bs.length - 1 - i]? with
   | none=>rw [z] at hx;cases hx
   | some c=>rw [z] at hx;exact ⟨c,rfl,Option.some.inj hx⟩
  refine ⟨_,rfl,_,_,rfl,rfl,.inr ⟨by decide,by decide⟩,_,rfl,_,_,rfl,rfl,?_⟩
  refine ⟨rfl,some (.int (c:Int)),?_⟩
  have e1:bs.drop (bs.length - (i+1))=c::bs.drop (bs.length - i):=by
   have e2:bs.length - (i+1)=bs.length - 1 - i:=by omega
   obtain ⟨hlt,e3⟩:=List.getElem?_eq_some_iff.mp hc
   rw [e2,List.drop_eq_getElem_cons hlt,e3]
   congr 2
   omega
  rw [e1,mZ]
  have e4:((Sa32.num (bs.drop (bs.length - i)):Nat):Int) * 256+ (c:Int)= ((c+256 * Sa32.num (bs.drop (bs.length - i)):Nat):Int):=by omega
  show [some (V.ref a),some (V.int (((Sa32.num (bs.drop (bs.length - i)):Nat):Int) * 256+ (c:Int))),some (V.int (c:Int))] = _
  rw [e4]
 ·rintro σ H' ⟨rfl,b,rfl⟩
  refine ⟨_,rfl,?_⟩
  rw [bz,Nat.sub_self,List.drop_zero]
  exact q
theorem Sk(n i:Nat):Builtin.bitAnd ((n:Int) / 2 ^ (8 * (0+ (i:Int))).toNat) 255= ((n / 256 ^ i % 256:Nat):Int):=by
 rw [PyProof.Rows.bitAnd_m8]
 have e1:(8 * (0+ (i:Int))).toNat=8 * i:=by omega
 have e2:(256:Nat) ^ i=2 ^ (8 * i):=by rw [Nat.pow_mul]
 rw [e1,e2]
 simp
theorem Mh(h:gB K t vs H Q E):vs.length=2:=by obtain ⟨a,bs,rfl,_⟩:=h;rfl
theorem OX(T:cU K t)(h:gB K t vs H Q E):PU K t (Dn Q) (start CZ vs) H:=by
 obtain ⟨n,k,rfl,hk,q⟩:=h
 refine ⟨_,rfl,(k:Int),rfl,by omega,by omega,fun D hD=>?_⟩
 refine EL (n:=(k:Int).toNat) (fun i H'=>H'=upd H D (.lst (bV ((Sa32.le k n).take i)))) rfl ?_ ?_
 ·rintro i H' hi rfl
  refine ⟨rfl,_,rfl,_,rfl,_,_,rfl,rfl,.inl ⟨by decide,by decide⟩,_,_,rfl,rfl,(by omega),_,_,rfl,rfl,?_⟩
  refine ⟨_,ao,?_,?_⟩
  ·rw [bz]
   exact b7 (by rw [List.length_take,bG];omega)
  ·rw [fc]
   congr 2
   rw [Int.toNat_natCast] at hi
   have e1:(Sa32.le k n).take (i+1)= (Sa32.le k n).take i ++ [n / 256 ^ i % 256]:=by
    rw [List.take_add_one]
    congr 1
    unfold Sa32.le
    rw [List.getElem?_map,List.getElem?_range hi]
    rfl
   rw [e1]
   unfold bV
   rw [List.map_append]
   show _=_ ++ [V.int ((n / 256 ^ i % 256:Nat):Int)]
   rw [←Sk]
 ·rintro H' rfl
  refine q D _ (aP.new hD) hD ?_
  rw [ao,Int.toNat_natCast]
  have:(Sa32.le k n).take k=Sa32.le k n:=List.take_of_length_le (by rw [bG];exact Nat.le_refl _)
  rw [this]
theorem Mz(a b:List Nat):bV a ++ bV b=bV (a ++ b):=by
 unfold bV
 rw [List.map_append]
theorem Ky(n:Nat):(List.replicate n [V.int 0]).flatten=bV (Sa32.zeros n):=by
 induction n with
 | zero=>rfl
 | succ n ih=>
  rw [List.replicate_succ,List.flatten_cons,ih]
  rfl
theorem Lv(h:jU K t vs H Q E):vs.length=2:=by obtain ⟨a,bs,k,rfl,_⟩:=h;rfl
theorem OM(T:cU K t)(h:jU K t vs H Q E):QX K t (Dn Q) (start Jt vs) H:=by
 obtain ⟨a,bs,k,rfl,ha,hl,hk,q⟩:=h
 refine ⟨_,rfl,(by show 1≤sizeLine;decide),fun l1 h1=>?_⟩
 have s1:aP H (upd H l1 (.lst [V.int 0])):=aP.new h1
 have ha1:(upd H l1 (.lst [V.int 0])) a=some (.lst (bV bs)):=s1 _ _ ha
 refine ⟨_,rfl,_,rfl,a,bV bs,rfl,.inl (cb.of ha1),_,_,rfl,rfl,?_⟩
 rw [bz]
 have e1:((k:Int) - (bs.length:Int)).toNat=k - bs.length:=by omega
 refine ⟨l1,_,[V.int 0],rfl,rfl,ao,by omega,by omega,?_,fun l2 h2=>?_⟩
 ·rw [e1]
  show 1 * (k - bs.length)≤sizeLine
  have:=b7 (n:=k) (by omega)
  omega
 rw [e1]
 have s2:aP (upd H l1 (.lst [V.int 0])) (upd (upd H l1 (.lst [V.int 0])) l2 (.lst (List.replicate (k - bs.length) [V.int 0]).flatten)):=aP.new h2
 refine ⟨a,l2,bV bs,_,rfl,rfl,s2 _ _ ha1,ao,?_,fun l3 h3=>?_⟩
 ·rw [Ky,bz,bz]
  have:(Sa32.zeros (k - bs.length)).length=k - bs.length:=by simp [Sa32.zeros]
  rw [this]
  exact Nat.le_of_lt (b7 (by omega))
 have s3:=s1.trans (s2.trans (aP.new (o:= .lst (bV bs ++ (List.replicate (k - bs.length) [V.int 0]).flatten)) h3))
 refine q l3 _ s3 ((s1.trans s2).free h3) ?_
 rw [ao,Ky,Mz]
theorem MF(h:cS K t vs H Q E):vs.length=2:=by obtain ⟨a,bs,rfl,_⟩:=h;rfl
theorem OL(T:cU K t)(h:cS K t vs H Q E):QW K t (Dn Q) (start J4 vs) H:=by
 obtain ⟨i,u,rfl,q⟩:=h
 exact ⟨_,rfl,_,_,rfl,rfl,.inr ⟨by decide,by decide⟩,_,rfl,_,_,rfl,rfl,q⟩
end
end Fn
namespace Fn
open PySem L2
section
variable{K:PySem.W.Frag}{t:bh}{vs:List V}{H:Hp}{Q:VK}{E:XK}
theorem zN(h:ez K t vs H Q E):vs.length=6:=by obtain ⟨x,dx,k,r,w,m,v,rfl,_⟩:=h;rfl
theorem B5(T:cU K t)(h:ez K t vs H Q E):C0 K t (Dn Q) (start tm vs) H:=by
 obtain ⟨x,dx,k,r,w,m,v,rfl,hx,q⟩:=h
 have e2:bI "readable" (V.bl r) [("size",V.int k)] = ([("size",V.int k),("readable",V.bl r)]:List (Str × V)):=cC ["size"] rfl (by decide +kernel)
 have e3:bI "writable" (V.bl w) [("size",V.int k),("readable",V.bl r)] = ([("size",V.int k),("readable",V.bl r),("writable",V.bl w)]:List (Str × V)):=cC ["size","readable"] rfl (by decide +kernel)
 have e4:bI "mappable" (V.bl m) [("size",V.int k),("readable",V.bl r),("writable",V.bl w)] = ([("size",V.int k),("readable",V.bl r),("writable",V.bl w),("mappable",V.bl m)]:List (Str × V)):=cC ["size","readable","writable"] rfl (by decide +kernel)
 have e5:bI "value" (V.int v) [("size",V.int k),("readable",V.bl r),("writable",V.bl w),("mappable",V.bl m)] = ([("size",V.int k),("readable",V.bl r),("writable",V.bl w),("mappable",V.bl m),("value",V.int v)]:List (Str × V)):=cC ["size","readable","writable","mappable"] rfl (by decide +kernel)
 refine ⟨_,rfl,_,rfl,x,t.bR,dx,_,rfl,hx,T.bH,T.bT,by decide,?_⟩
 refine ⟨_,rfl,_,rfl,x,t.bR,dx,_,rfl,ao,T.bH,T.jM,(show 1 < 1000 by decide),?_⟩
 refine ⟨_,rfl,_,rfl,x,t.bR,dx,_,rfl,Eq.trans ao (congrArg (fun l=>some (HO.ins t.bR dx l)) e2),T.bH,T.jQ,(show 2 < 1000 by decide),?_⟩
 refine ⟨_,rfl,_,rfl,x,t.bR,dx,_,rfl,Eq.trans ao (congrArg (fun l=>some (HO.ins t.bR dx l)) e3),T.bH,T.jJ,(show 3 < 1000 by decide),?_⟩
 refine ⟨_,rfl,_,rfl,x,t.bR,dx,_,rfl,Eq.trans ao (congrArg (fun l=>some (HO.ins t.bR dx l)) e4),T.bH,T.bZ,(show 4 < 1000 by decide),?_⟩
 refine q _ (fun b hb=>?_) (Eq.trans ao (congrArg (fun l=>some (HO.ins t.bR dx l)) e5))
 rw [aL hb,aL hb,aL hb,aL hb,aL hb]
theorem Iq(h:br K t vs H Q E):vs.length=3:=by obtain ⟨d,aB,s,i,u,rfl,_⟩:=h;rfl
theorem gE.at{H:Hp}{a:Addr}{aB:List (Key × V)}{n:Int}{o:Option V}(h:H a=some (.dK aB))(l:bS aB (Sum.inl n)=o):gE H a (.int n) o:=l ▸ gE.k (k:=Sum.inl n) h
theorem Kz(T:cU K t)(h:br K t vs H Q E):Mm K t (Dn Q) (start CJ vs) H:=by
 obtain ⟨d,aB,s,i,u,rfl,En,⟨e,he⟩,q⟩:=h
 obtain ⟨h1,h2,h3⟩:=bo he
 obtain ⟨a,h4,dx,h5⟩:=En.look e h1
 rw [xc he] at q
 subst h2 h3
 exact ⟨_,rfl,_,rfl,_,rfl,_,_,rfl,d,.ref a,rfl,gE.at En.dict h4,a,t.bR,dx,_,_,rfl,h5,T.bH,T.bZ,fE e,q⟩
theorem y8(h:dR K t vs H Q E):vs.length=1:=by obtain ⟨v,rfl,_⟩:=h;rfl
theorem zZ(T:cU K t)(h:dR K t vs H Q E):B8 K t (Dn Q) (start sx vs) H:=by
 obtain ⟨v,rfl,q⟩:=h
 refine ⟨_,rfl,_,_,rfl,rfl,(show (0:Int)≤16 by decide),_,_,rfl,rfl,?_⟩
 have e:Builtin.bitAnd ((v:Int) / 2 ^ (16:Int).toNat) 127= ((v / 65536 % 128:Nat):Int):=by
  rw [PyProof.Rows.bitAnd_m7]
  show (v:Int) / 65536 % 128=_
  omega
 show Q (.int (Builtin.bitAnd ((v:Int) / 2 ^ (16:Int).toNat) 127)) H
 rw [e]
 exact q
theorem xV(h:dZ K t vs H Q E):vs.length=1:=by obtain ⟨v,rfl,_⟩:=h;rfl
theorem AH(T:cU K t)(h:dZ K t vs H Q E):B6 K t (Dn Q) (start sE vs) H:=by
 obtain ⟨v,rfl,q⟩:=h
 refine ⟨_,rfl,_,_,rfl,rfl,?_⟩
 have e:Builtin.bitAnd (v:Int) 65535= ((v % 65536:Nat):Int):=by
  rw [PyProof.Rows.bitAnd_m16]
  omega
 show Q (.int (Builtin.bitAnd (v:Int) 65535)) H
 rw [e]
 exact q
end
end Fn
namespace Fn
open PySem L2
section
variable{K:PySem.W.Frag}{t:bh}{vs:List V}{H:Hp}{Q:VK}{E:XK}
theorem EJ(i u:Nat)(h:u < 256):bD i u / 256= (i:Int):=by unfold bD;omega
theorem PV(i u:Nat)(h:u < 256):bD i u % 256= (u:Int):=by unfold bD;omega
theorem uz{i u i' u':Nat}(h:u < 256)(h':u' < 256)(e:bD i u=bD i' u'):i=i'∧u=u':=by unfold bD at e;omega
theorem Qs{a b:Sa32.Ent}(h:a.sub < 256)(h':b.sub < 256)(e:gQ a=gQ b):a.index=b.index∧a.sub=b.sub:=uz h h' (Sum.inl.inj e)
theorem ED{aB:List (Key × V)}{k:Key}{v:V}(h:(k,v) ∈ aB):∃v',bS aB k=some v':=by
 cases q:bS aB k with
 | none=>exact absurd (List.mem_map.mpr ⟨_,h,rfl⟩) (KO q)
 | some v'=>exact ⟨v',rfl⟩
theorem Ff(h:lT K t vs H Q E):vs.length=2:=by obtain ⟨d,aB,l,i,rfl,_⟩:=h;rfl
def MN:Key→Int
 | .inl i=>i
 | .inr _=>0
theorem HF(T:cU K t)(h:lT K t vs H Q E):Le K t (Dn Q) (start uh vs) H:=by
 obtain ⟨d,aB,l,i,rfl,En,hsub,q⟩:=h
 refine ⟨d,_,En.dict,trivial,fun od=>?_⟩
 refine ⟨_,rfl,d,od,rfl,.inl ⟨aB,ao,fun D hD=>?_⟩⟩
 have hDd:d ≠ D:=aE (H:=upd H d (.pV od (.dK aB))) ao hD
 have hD0:H D=none:=by rw [aL (Ne.symm hDd)] at hD;exact hD
 refine RA (fun j H'=>H'=upd (upd H d (.pV od (.dK aB))) D (.lst ((aB.take j).map fun kv=>V.bl (decide (MN kv.1 / 256= (i:Int)))))) rfl ?_ ?_ ?_
 ·rintro j H' _ rfl
  rw [aL hDd,ao]
 ·rintro j k v H' hj rfl
  obtain ⟨v',hv'⟩:=ED (List.mem_of_getElem? hj)
  obtain ⟨e,he,rfl⟩:=En.only k v' hv'
  refine ⟨rfl,_,rfl,_,_,rfl,rfl,(show (0:Int)≤8 by decide),_,rfl,rfl,?_⟩
  have hlt:=(List.getElem?_eq_some_iff.mp hj).1
  refine ⟨_,ao,?_,?_⟩
  ·rw [List.length_map,List.length_take]
   exact b7 (by have:=En.len;omega)
  ·rw [fc,List.take_add_one,hj]
   rw [List.map_append]
   rw [dI]
   rfl
 ·rintro H' rfl
  refine ⟨?_,D,(aB.map fun kv=>decide (MN kv.1 / 256= (i:Int))),rfl,cb.of ?_,?_⟩
  ·rw [aL hDd,ao]
  ·rw [aL (Ne.symm hDd),ao,List.take_length,List.map_map]
   rfl
  ·have e1:(aB.map fun kv=>decide (MN kv.1 / 256= (i:Int))).any id= (l.any fun e=>e.index == i):=by
    rw [Bool.eq_iff_iff,List.any_eq_true,List.any_eq_true]
    constructor
    ·rintro ⟨b,hb,hb2⟩
     obtain ⟨⟨k,v⟩,hk,rfl⟩:=List.mem_map.mp hb
     obtain ⟨v',hv'⟩:=ED hk
     obtain ⟨e,he,rfl⟩:=En.only k v' hv'
     have z:bD e.index e.sub / 256= (i:Int):=of_decide_eq_true hb2
     rw [EJ _ _ (hsub e he)] at z
     exact ⟨e,he,by simp;omega⟩
    ·rintro ⟨e,he,hi⟩
     obtain ⟨a,ha,_⟩:=En.look e he
     have hm:=MW ha
     obtain ⟨⟨k,v⟩,hk,z⟩:=List.mem_map.mp hm
     have z:k=gQ e:=z
     subst z
     refine ⟨true,List.mem_map.mpr ⟨_,hk,decide_eq_true ?_⟩,rfl⟩
     show bD e.index e.sub / 256= (i:Int)
     rw [EJ _ _ (hsub e he)]
     have:e.index=i:=by simpa using hi
     omega
   rw [e1]
   refine q _ fun b o hb=>?_
   by_cases hbd:b=d
   ·subst hbd
    rw [ao]
    exact (En.dict.symm.trans hb).symm ▸ rfl
   ·rw [aL hbd,aL (aE hb hD0),aL hbd]
    exact hb
theorem HE(h:kG K t vs H Q E):vs.length=1:=by obtain ⟨a,b,rfl,_⟩:=h;rfl
theorem m4(b:List Nat)(i j:Nat):jV (bV b) (some (i:Int)) (some (j:Int))=bV ((b.drop i).take (j - i)):=by
 unfold jV
 rw [HT.uQ,HT.uQ,bz]
 unfold bV
 rw [←List.map_drop,←List.map_take]
 congr 1
 by_cases h:i≤b.length
 ·rw [Nat.min_eq_left h]
  by_cases h2:j≤b.length
  ·rw [Nat.min_eq_left h2]
  ·rw [Nat.min_eq_right (by omega),List.take_of_length_le (by rw [List.length_drop];omega),List.take_of_length_le (by rw [List.length_drop];omega)]
 ·rw [Nat.min_eq_right (a:=i) (by omega),List.drop_length,List.drop_of_length_le (by omega),List.take_nil,List.take_nil]
theorem jF{b:List Nat}{i:Nat}(h:i < b.length):Rv (bV b) (i:Int)=some (.int ((b.getD i 0:Nat):Int)):=by
 refine HQ ?_
 unfold bV
 rw [List.getElem?_map,List.getElem?_eq_getElem h,List.getD_eq_getElem?_getD,List.getElem?_eq_getElem h]
 rfl
theorem Jv(T:cU K t)(h:kG K t vs H Q E):LZ K t (Dn Q) (start Dy vs) H:=by
 obtain ⟨a,b,rfl,ha,hl,q⟩:=h
 refine ⟨_,rfl,_,rfl,_,rfl,a,_,rfl,cb.of ha,fun p hp=>?_⟩
 refine ⟨p,b.take 2,rfl,?_,?_⟩
 ·have:=m4 b 0 2
  rw [List.drop_zero] at this
  exact ao.trans (congrArg (fun l=>some (HO.lst l)) this)
 ·refine ⟨_,rfl,a,_,_,_,rfl,rfl,cb.of ((aP.new hp) _ _ ha),jF (i:=2) (by omega),_,_,rfl,?_⟩
  exact q _ (aP.new hp)
theorem VL(m:Nat)(h:m≤1000):Wq 0 ((8 * m:Nat):Int) 8 m:=by
 have e:Builtin.Range.rangeSize 0 ((8 * m:Nat):Int) 8= (m:Int):=by
  unfold Builtin.Range.rangeSize
  simp only [show (8:Int) > 0 by decide,if_true]
  split <;> omega
 refine ⟨by decide,by decide,?_,e⟩
 have f:∀i:Int,0≤i→i < 100000→Builtin.Range.rangeFitsLong i=true:=fun i h1 h2=>by
  unfold Builtin.Range.rangeFitsLong
  rw [Bool.and_eq_true]
  exact ⟨decide_eq_true (by omega),decide_eq_true (by omega)⟩
 unfold Builtin.Range.small
 rw [e]
 have e1:=f 0 (by decide) (by decide)
 have e2:=f ((8 * m:Nat):Int) (by omega) (by omega)
 have e3:=f 8 (by decide) (by decide)
 have e4:=f (m:Int) (by omega) (by omega)
 have e5:=f (((8 * m:Nat):Int)+ (8 - 1)) (by omega) (by omega)
 rw [if_pos (by decide),e1,e2,e3,e4,e5]
 rw [Bool.or_true]
 rfl
theorem IM(h:kn K t vs H Q E):vs.length=1:=by obtain ⟨a,b,rfl,_⟩:=h;rfl
theorem JO(T:cU K t)(h:kn K t vs H Q E):Mc K t (Dn Q) (start wg vs) H:=by
 obtain ⟨a,bs,rfl,ha,h8,hl,q⟩:=h
 have hm:bs.length=8 * (bs.length / 8):=by omega
 generalize hmm:bs.length / 8=m at *
 refine ⟨_,rfl,a,bV bs,rfl,.inl (cb.of ha),0,((8 * m:Nat):Int),8,m,?_,VL m (by omega),fun D hD=>?_⟩
 ·rw [bz,hm]
 have haD:a ≠ D:=aE ha hD
 refine O7 (fun i H'=>∃ls:List Addr,ls.length=i∧H' D=some (.lst (ls.map V.ref))∧(∀b o,H b=some o→H' b=some o)∧∀j b,ls[j]? = some b→b ≠ D∧H' b=some (.lst (bV ((bs.drop (8 * j)).take 8)))) ?_ ?_ ?_
 ·exact ⟨[],rfl,ao,fun b o hb=>by rw [aL (aE hb hD)];exact hb,fun j b hb=>by simp at hb⟩
 ·rintro i H' hi ⟨ls,hls,h1,h2,h3⟩
  refine ⟨rfl,_,rfl,_,rfl,_,rfl,_,rfl,_,_,rfl,rfl,_,rfl,a,bV bs,rfl,cb.of (h2 _ _ ha),fun p hp=>?_⟩
  have hpD:p ≠ D:=fun z=>by rw [z,h1] at hp;cases hp
  refine ⟨_,by rw [aL (Ne.symm hpD)];exact h1,?_,ls ++ [p],by rw [List.length_append,hls];rfl,?_,fun b o hb=>?_,fun j b hb=>?_⟩
  ·rw [List.length_map,hls]
   exact b7 (by omega)
  ·rw [ao,List.map_append]
   rfl
  ·have hb':=h2 b o hb
   rw [aL (aE hb hD),aL (aE hb' hp)]
   exact hb'
  ·by_cases hj:j < ls.length
   ·rw [List.getElem?_append_left hj] at hb
    obtain ⟨g1,g2⟩:=h3 j b hb
    refine ⟨g1,?_⟩
    rw [aL g1,aL (aE g2 hp)]
    exact g2
   ·have hj':j=i:=by
     have:=(List.getElem?_eq_some_iff.mp hb).1
     rw [List.length_append] at this
     simp at this
     omega
    subst hj'
    rw [List.getElem?_append_right (by omega),hls,Nat.sub_self] at hb
    have hb:p=b:=Option.some.inj hb
    subst hb
    refine ⟨hpD,?_⟩
    rw [aL hpD,ao]
    have e1:(0:Int)+ ((j:Nat):Int) * 8= ((8 * j:Nat):Int):=by omega
    have e2:(0:Int)+ ((j:Nat):Int) * 8+8= ((8 * j+8:Nat):Int):=by omega
    rw [e2,e1,m4]
    congr 4
    omega
 ·rintro H' ⟨ls,hls,h1,h2,h3⟩
  exact q D ls H' h2 hD h1 hls fun i b hb=>(h3 i b hb).2
end
end Fn
namespace Fn
open PySem L2
section
variable{K:PySem.W.Frag}{t:bh}{vs:List V}{H:Hp}{Q:VK}{E:XK}
def Ap(b:List Nat):Prop:=(0x2000≤Sa32.num (b.take 2)∧Sa32.num (b.take 2)≤0x9FFF)∧(b.getD 3 0=1∨b.getD 3 0=2∨b.getD 3 0=4∨b.getD 3 0=8)∧(∀c,c ∈ (b.drop 4).take 3→c≤1)∧b.getD 7 0=0
theorem mi(b:List Nat):(Sa32.entOf b).isSome=true↔Ap b:=by
 unfold Sa32.entOf Ap
 simp only
 split
 ·rename_i h
  obtain ⟨h1,h2,h3,h4,h5⟩:=h
  refine ⟨fun _=>⟨⟨h1,h2⟩,?_,?_,h5⟩,fun _=>rfl⟩
  ·simpa using h3
  ·intro c hc
   simpa using List.all_eq_true.mp h4 c hc
 ·rename_i h
  refine ⟨fun z=>by simp at z,fun ⟨⟨h1,h2⟩,h3,h4,h5⟩=>absurd ⟨h1,h2,?_,?_,h5⟩ h⟩
  ·simpa using h3
  ·rw [List.all_eq_true]
   intro c hc
   simpa using h4 c hc
theorem OH{b:List Nat}(h:¬Ap b):(Sa32.entOf b).isSome=false:=by
 cases q:(Sa32.entOf b).isSome with
 | false=>rfl
 | true=>exact absurd ((mi b).mp q) h
theorem yl(b:List Nat):bV b= (b.map fun (x:Nat)=>(x:Int)).map V.int:=by
 unfold bV
 rw [List.map_map]
 rfl
theorem in4(c:Nat):JA (.int (c:Int)) [.int 1,.int 2,.int 4,.int 8] = decide (c=1∨c=2∨c=4∨c=8):=by
 unfold JA
 simp only [List.any_cons,List.any_nil,P4,Bool.or_false]
 rw [Bool.eq_iff_iff]
 simp only [Bool.or_eq_true,beq_iff_eq,decide_eq_true_eq]
 omega
theorem wq(h:dq K t vs H Q E):vs.length=1:=by obtain ⟨i,rfl,_⟩:=h;rfl
theorem yt(T:cU K t)(h:dq K t vs H Q E):Aw K t (Dn Q) (start pN vs) H:=by
 obtain ⟨i,rfl,q⟩:=h
 refine ⟨_,rfl,_,_,rfl,rfl,_,rfl,?_⟩
 refine GZ (fun z=>?_) (fun z=>?_)
 ·refine ⟨_,_,rfl,rfl,?_⟩
  have z:=of_decide_eq_true z
  have e:decide (i≤40959)=decide (0x2000≤i∧i≤0x9FFF):=by
   rw [Bool.eq_iff_iff,decide_eq_true_eq,decide_eq_true_eq]
   omega
  show Q (.bl (decide (i≤40959))) H
  rw [e]
  exact q
 ·have e:false=decide (0x2000≤i∧i≤0x9FFF):=by
   refine (decide_eq_false fun w=>z (decide_eq_true ?_)).symm
   omega
  show Q (.bl false) H
  rw [e]
  exact q
theorem yB(h:fQ K t vs H Q E):vs.length=1:=by obtain ⟨a,b,rfl,_⟩:=h;rfl
theorem AV(T:cU K t)(h:fQ K t vs H Q E):B9 K t (Dn Q) (start sI vs) H:=by
 obtain ⟨a,b,rfl,ha,hl,hb,q⟩:=h
 have bad:∀H',aP H H'→¬Ap b→Q (.bl false) H':=fun H' s z=>by
  have:=q H' s
  rw [OH z] at this
  exact this
 refine ⟨_,rfl,_,rfl,_,rfl,a,_,rfl,cb.of ha,fun p1 hp1=>?_⟩
 have s1:aP H (upd H p1 (.lst (jV (bV b) (some 0) (some 2)))):=aP.new hp1
 refine ⟨p1,b.take 2,rfl,?_,?_⟩
 ·have:=m4 b 0 2
  rw [List.drop_zero] at this
  exact ao.trans (congrArg (fun l=>some (HO.lst l)) this)
 refine ⟨_,rfl,?_⟩
 have c2:∀(k:Bool),(k=true↔0x2000≤Sa32.num (b.take 2)∧Sa32.num (b.take 2)≤0x9FFF)→(if (!k)=true then Q (.bl false) (upd H p1 (.lst (jV (bV b) (some 0) (some 2)))) else
   (aI (bF (aU (aV (SW K true) (aV (iL K) (ag 0) (tC (.int 3))) (NV (ae (tC (.int 1)) (ae (tC (.int 2)) (ae (tC (.int 4)) (ae (tC (.int 8)) aw)))))))
    (bu (tC (.bl false))) bt)
    (bu (Dj (aV (bP fun i j=> .bl (decide (i≤j))) (u7 (T8 K) (ae (Nt (yg K) (ag 0) (eF (tC (.int 4))) (eF (tC (.int 7)))) aw)) (tC (.int 1))) (aV lL (aV (iL K) (ag 0) (tC (.int 7))) (tC (.int 0))))))
    (Dn Q) [some (.ref a)] (upd H p1 (.lst (jV (bV b) (some 0) (some 2))))):=by
  intro k hk
  cases k with
  | false=>exact bad _ s1 fun z=>absurd (hk.mpr z.1) (by decide)
  | true=>
   have hk:=hk.mp rfl
   rw [if_neg (by decide)]
   refine ⟨_,rfl,a,_,_,_,rfl,rfl,cb.of (s1 _ _ ha),jF (i:=3) (by omega),?_⟩
   refine ⟨(by show 4≤sizeLine;decide),fun p2 hp2=>?_⟩
   have s2:=s1.trans (aP.new (o:= .tup [.int 1,.int 2,.int 4,.int 8]) hp2)
   refine ⟨p2,_,rfl,.inr (Lw.of ao),rfl,rfl,_,rfl,?_⟩
   show if (!JA (.int ((b.getD 3 0:Nat):Int)) [.int 1,.int 2,.int 4,.int 8])=true then _ else _
   rw [in4]
   refine GZ (fun z=>?_) (fun z=>?_)
   ·refine bad _ s2 fun w=>?_
    rw [decide_eq_true w.2.1] at z
    exact absurd z (by decide)
   ·have h3:b.getD 3 0=1∨b.getD 3 0=2∨b.getD 3 0=4∨b.getD 3 0=8:=by
     cases q2:decide (b.getD 3 0=1∨b.getD 3 0=2∨b.getD 3 0=4∨b.getD 3 0=8) with
     | true=>exact of_decide_eq_true q2
     | false=>rw [q2] at z;exact absurd rfl z
    refine ⟨_,rfl,_,rfl,_,rfl,a,_,rfl,cb.of (s2 _ _ ha),fun p3 hp3=>?_⟩
    have s3:=s2.trans (aP.new (o:= .lst (jV (bV b) (some 4) (some 7))) hp3)
    have e3:jV (bV b) (some 4) (some 7)= (((b.drop 4).take 3).map fun (x:Nat)=>(x:Int)).map V.int:=by
     rw [←yl]
     exact m4 b 4 7
    refine ⟨p3,_,rfl,cb.of (ao.trans (congrArg (fun l=>some (HO.lst l)) e3)),?_,fun m hm hmax=>?_⟩
    ·rw [List.length_map,List.length_take,List.length_drop]
     omega
    refine ⟨_,_,rfl,rfl,_,rfl,?_⟩
    obtain ⟨c0,hc0,rfl⟩:=List.mem_map.mp hm
    refine GZ (fun z2=>?_) (fun z2=>?_)
    ·have z2:=of_decide_eq_true z2
     refine ⟨_,rfl,a,_,_,_,rfl,rfl,cb.of (s3 _ _ ha),jF (i:=7) (by omega),rfl,?_⟩
     rw [dI]
     have e7:decide (((b.getD 7 0:Nat):Int)=0)= (Sa32.entOf b).isSome:=by
      rw [Bool.eq_iff_iff,mi,decide_eq_true_eq]
      refine ⟨fun z7=>⟨hk,h3,fun c hc=>?_,by omega⟩,fun w=>by have:=w.2.2.2;omega⟩
      have:=hmax (c:Int) (List.mem_map.mpr ⟨c,hc,rfl⟩)
      omega
     show Q (.bl (decide (((b.getD 7 0:Nat):Int)=0))) _
     rw [e7]
     exact q _ s3
    ·refine bad _ s3 fun w=>z2 (decide_eq_true ?_)
     have:=w.2.2.1 c0 hc0
     omega
 refine ⟨_,rfl,c2 _ ?_⟩
 rw [decide_eq_true_eq]
 omega
def b8(bs:List Nat)(k:Nat):List Nat:=(bs.drop (8 * k)).take 8
def vt(b:List Nat):Int:=bD (Sa32.num (b.take 2)) (b.getD 2 0)
theorem mapM_some{α β:Type}{f:α→Option β}:∀{l:List α}{r:List β},l.mapM f=some r→r.length=l.length∧∀(i:Nat)a,l[i]? = some a→∃b,f a=some b∧r[i]? = some b
 | [],r,h=>by
  have h:some [] = some r:=by simpa using h
  cases h
  exact ⟨rfl,fun i a z=>by simp at z⟩
 | x::l,r,h=>by
  rw [List.mapM_cons] at h
  cases q:f x with
  | none=>rw [q] at h;simp at h
  | some y=>
   cases q2:l.mapM f with
   | none=>rw [q,q2] at h;simp at h
   | some ys=>
    rw [q,q2] at h
    have h:some (y::ys)=some r:=by simpa using h
    cases h
    obtain ⟨h1,h2⟩:=mapM_some q2
    refine ⟨by rw [List.length_cons,List.length_cons,h1],fun i a z=>?_⟩
    cases i with
    | zero=>simp at z;subst z;exact ⟨y,q,rfl⟩
    | succ i=>simp at z;simpa using h2 i a z
theorem mapM_none{α β:Type}{f:α→Option β}:∀{l:List α},l.mapM f=none→∃a,a ∈ l∧f a=none
 | [],h=>by simp at h
 | x::l,h=>by
  rw [List.mapM_cons] at h
  cases q:f x with
  | none=>exact ⟨x,List.mem_cons_self,q⟩
  | some y=>
   cases q2:l.mapM f with
   | none=>
    obtain ⟨a,h1,h2⟩:=mapM_none q2
    exact ⟨a,List.mem_cons_of_mem _ h1,h2⟩
   | some ys=>rw [q,q2] at h;simp at h
theorem gP{b:List Nat}{e:Sa32.Ent}(h:Sa32.entOf b=some e):Ap b∧e.index=Sa32.num (b.take 2)∧e.sub=b.getD 2 0∧e.r= (b.getD 4 0 == 1)∧e.w= (b.getD 5 0 == 1)∧e.m= (b.getD 6 0 == 1)∧e.val=Sa32.zeros (b.getD 3 0):=by
 have h0:=(mi b).mp (by rw [h];rfl)
 unfold Sa32.entOf at h
 simp only at h
 split at h
 ·cases h
  exact ⟨h0,rfl,rfl,rfl,rfl,rfl,rfl⟩
 ·cases h
def UO(a b:Sa32.Ent):Prop:=a.index < b.index∨(a.index=b.index∧a.sub < b.sub)
theorem AB:∀{l:List Sa32.Ent},Sa32.rises l=true↔∀(i:Nat)a b,l[i]? = some a→l[i+1]? = some b→UO a b
 | []=>⟨fun _ i a b h=>by simp at h,fun _=>rfl⟩
 | [x]=>⟨fun _ i a b h1 h2=>by simp at h2,fun _=>rfl⟩
 | x::y::r=>by
  have ih:=AB (l:=y::r)
  unfold Sa32.rises
  rw [Bool.and_eq_true,ih]
  constructor
  ·rintro ⟨h1,h2⟩ i a b e1 e2
   cases i with
   | zero=>
    simp at e1 e2
    subst e1 e2
    unfold UO
    simpa using h1
   | succ i=>exact h2 i a b (by simpa using e1) (by simpa using e2)
  ·intro h
   refine ⟨?_,fun i a b e1 e2=>h (i+1) a b (by simpa using e1) (by simpa using e2)⟩
   have:=h 0 x y rfl rfl
   unfold UO at this
   simpa using this
theorem Ni{a b:Sa32.Ent}(ha:a.sub < 256)(hb:b.sub < 256):UO a b↔bD a.index a.sub < bD b.index b.sub:=by
 unfold UO bD
 omega
theorem Dv{bs:List Nat}{m k:Nat}(h:bs.length=8 * m)(hk:k < m):(b8 bs k).length=8:=by
 unfold b8
 rw [List.length_take,List.length_drop]
 omega
theorem ny{bs:List Nat}(h:ft bs)(k:Nat):ft (b8 bs k):=gO (gS h _) _
def yk(bs:List Nat)(m:Nat):Prop:=(∀j,j < m→Ap (b8 bs j))∧∀j,j+1 < m→vt (b8 bs j) < vt (b8 bs (j+1))
theorem jB{bs:List Nat}(hb:ft bs)(m:Nat):(yk bs m→∃l,Sa32.tableOf bs m=some l∧l.length=m∧∀j,j < m→∃e,Sa32.entOf (b8 bs j)=some e∧l[j]? = some e)∧(∀l,Sa32.tableOf bs m=some l→yk bs m):=by
 have key:∀{j:Nat}{e:Sa32.Ent},Sa32.entOf (b8 bs j)=some e→bD e.index e.sub=vt (b8 bs j)∧e.sub < 256:=fun {j e} h=>by
  obtain ⟨_,h1,h2,_⟩:=gP h
  rw [h1,h2]
  exact ⟨rfl,km (ny hb j) 2⟩
 constructor
 ·rintro ⟨h1,h2⟩
  cases q:(List.range m).mapM fun k=>Sa32.entOf ((bs.drop (8 * k)).take 8) with
  | none=>
   obtain ⟨k,hk,z⟩:=mapM_none q
   have:=(mi _).mpr (h1 k (List.mem_range.mp hk))
   unfold b8 at this
   rw [z] at this
   cases this
  | some l=>
   obtain ⟨q1,q2⟩:=mapM_some q
   rw [List.length_range] at q1
   have each:∀j,j < m→∃e,Sa32.entOf (b8 bs j)=some e∧l[j]? = some e:=fun j hj=>q2 j j (List.getElem?_range hj)
   have hr:Sa32.rises l=true:=by
    rw [AB]
    intro i a b ea eb
    have hi:i+1 < m:=by rw [←q1];exact (List.getElem?_eq_some_iff.mp eb).1
    obtain ⟨a',h3,h4⟩:=each i (by omega)
    obtain ⟨b',h5,h6⟩:=each (i+1) hi
    rw [ea] at h4;cases h4
    rw [eb] at h6;cases h6
    obtain ⟨k1,k2⟩:=key h3
    obtain ⟨k3,k4⟩:=key h5
    rw [Ni k2 k4,k1,k3]
    exact h2 i hi
   refine ⟨l,?_,q1,each⟩
   unfold Sa32.tableOf
   rw [q]
   show (some l).filter Sa32.rises=some l
   rw [Option.filter_some,if_pos hr]
 ·intro l h
  unfold Sa32.tableOf at h
  cases q:(List.range m).mapM fun k=>Sa32.entOf ((bs.drop (8 * k)).take 8) with
  | none=>rw [q] at h;cases h
  | some l'=>
   rw [q] at h
   have h:(some l').filter Sa32.rises=some l:=h
   rw [Option.filter_some] at h
   by_cases hr:Sa32.rises l'=true
   ·obtain ⟨q1,q2⟩:=mapM_some q
    have each:∀j,j < m→∃e,Sa32.entOf (b8 bs j)=some e∧l'[j]? = some e:=fun j hj=>q2 j j (List.getElem?_range hj)
    refine ⟨fun j hj=>?_,fun j hj=>?_⟩
    ·obtain ⟨e,h3,_⟩:=each j hj
     exact (gP h3).1
    ·obtain ⟨a,h3,h4⟩:=each j (by omega)
     obtain ⟨b,h5,h6⟩:=each (j+1) hj
     obtain ⟨k1,k2⟩:=key h3
     obtain ⟨k3,k4⟩:=key h5
     have:=AB.mp hr j a b h4 h6
     rw [Ni k2 k4,k1,k3] at this
     exact this
   ·rw [if_neg hr] at h
    cases h
theorem EK{bs:List Nat}(hb:ft bs)(m:Nat):(Sa32.tableOf bs m).isSome=true↔yk bs m:=by
 obtain ⟨h1,h2⟩:=jB hb m
 constructor
 ·intro h
  obtain ⟨l,hl⟩:=Option.isSome_iff_exists.mp h
  exact h2 l hl
 ·intro h
  obtain ⟨l,hl,_⟩:=h1 h
  rw [hl]
  rfl
theorem xn(h:eQ K t vs H Q E):vs.length=1:=by obtain ⟨a,b,rfl,_⟩:=h;rfl
theorem yp(T:cU K t)(h:eQ K t vs H Q E):zJ K t (Dn Q) (start p8 vs) H:=by
 obtain ⟨a,bs,rfl,ha,hb,h8,hl,q⟩:=h
 refine ⟨_,rfl,a,bV bs,rfl,.inl (cb.of ha),_,_,rfl,rfl,.inl ⟨by decide,by decide⟩,_,_,rfl,rfl,_,rfl,?_⟩
 show if (decide ((64:Int) * 8 < ((bV bs).length:Int)))=true then _ else _
 rw [bz]
 refine GZ (fun z=>?_) (fun z=>?_)
 ·have z:=of_decide_eq_true z
  have:=q H (aP.refl H)
  rw [decide_eq_false (by omega),Bool.false_and] at this
  exact this
 ·have hle:bs.length≤512:=Decidable.byContradiction fun w=>z (decide_eq_true (by omega))
  have q':∀H'(k:Bool),aP H H'→(k=true↔yk bs (bs.length / 8))→Q (.bl k) H':=fun H' k s hk=>by
   have e:k= (Sa32.tableOf bs (bs.length / 8)).isSome:=by rw [Bool.eq_iff_iff,hk,EK hb]
   have:=q H' s
   rw [decide_eq_true hle,Bool.true_and,←e] at this
   exact this
  have hm:bs.length=8 * (bs.length / 8):=by omega
  generalize bs.length / 8=m at *
  refine ⟨_,rfl,_,rfl,a,bs,rfl,ha,h8,hle,fun l ls H1 s1 hl0 hl1 hls hln=>?_⟩
  have hls:ls.length=m:=by omega
  refine ⟨l,rfl,⟨_,cb.of hl1⟩,?_⟩
  refine yH (K:=K) (a:=l) (xs:=ls.map V.ref) (fun i σ H2=>aP H1 H2∧∃last b c,σ = [some (.ref a),some (.int last),b,c]∧yk bs i∧(i=0→last = -1)∧(∀j,i=j+1→last=vt (b8 bs j))) ?_ ?_ ?_ ?_
  ·exact ⟨aP.refl _,-1,none,none,rfl,⟨fun j hj=>by omega,fun j hj=>by omega⟩,fun _=>rfl,fun j hj=>by omega⟩
  ·rintro i σ H2 _ ⟨s2,_⟩
   exact cb.of (s2 _ _ hl1)
  ·rintro i x σ H2 hx ⟨s2,last,b,c,rfl,good,hz,hlast⟩
   rw [List.getElem?_map] at hx
   obtain ⟨y,hy,rfl⟩:=Option.map_eq_some_iff.mp hx
   have hi:i < m:=by rw [←hls];exact (List.getElem?_eq_some_iff.mp hy).1
   have hline:H2 y=some (.lst (bV (b8 bs i))):=s2 _ _ (hln i y hy)
   have hll:=Dv hm hi
   have hlb:=ny hb i
   have kpos:0≤vt (b8 bs i):=by unfold vt bD;omega
   refine ⟨_,rfl,y,b8 bs i,rfl,hline,hll,fun H3 s3=>?_⟩
   refine ⟨_,rfl,y,b8 bs i,rfl,s3 _ _ hline,hll,hlb,fun H4 s4=>⟨_,rfl,?_⟩⟩
   have s04:aP H H4:=s1.trans (s2.trans (s3.trans s4))
   have s14:aP H1 H4:=s2.trans (s3.trans s4)
   cases ho:(Sa32.entOf (b8 bs i)).isSome with
   | false=>
    refine q' H4 false s04 ⟨fun w=>(nomatch w),fun w=>?_⟩
    rw [(mi _).mpr (w.1 i hi)] at ho
    cases ho
   | true=>
    have dB:=(mi _).mp ho
    refine ⟨_,rfl,_,rfl,_,_,rfl,rfl,_,rfl,?_⟩
    refine GZ (fun w=>?_) (fun w=>?_)
    ·have w:vt (b8 bs i)≤last:=of_decide_eq_true w
     refine q' H4 false s04 ⟨fun w=>(nomatch w),fun g=>?_⟩
     cases i with
     | zero=>rw [hz rfl] at w;omega
     | succ j=>
      rw [hlast j rfl] at w
      have:=g.2 j hi
      omega
    ·have w:last < vt (b8 bs i):=Decidable.byContradiction fun w'=>w (decide_eq_true (Int.not_lt.mp w'))
     refine ⟨_,rfl,s14,_,_,_,rfl,⟨fun j hj=>?_,fun j hj=>?_⟩,fun z=>by omega,fun j hj=>?_⟩
     ·by_cases hji:j=i
      ·rw [hji];exact dB
      ·exact good.1 j (by omega)
     ·by_cases hji:j+1=i
      ·rw [hji]
       rw [hlast j hji.symm] at w
       exact w
      ·exact good.2 j (by omega)
     ·have:j=i:=by omega
      subst this
      rfl
  ·rintro σ H2 ⟨s2,last,b,c,rfl,good,_⟩
   rw [List.length_map,hls] at good
   exact q' H2 true (s1.trans s2) ⟨fun _=>good,fun _=>rfl⟩
end
end Fn
namespace Fn
open PySem L2
section
variable{K:PySem.W.Frag}{t:bh}{vs:List V}{H:Hp}{Q:VK}{E:XK}
theorem cK.zX{d:Addr}{aB:List (Key × V)}{l:List Sa32.Ent}(E:cK t H d aB l){k:Key}{a:Addr}(h:bS aB k=some (.ref a)):∃e,e ∈ l∧k=gQ e∧D4 t H a e:=by
 obtain ⟨e,he,rfl⟩:=E.only k _ h
 obtain ⟨a',h1,h2⟩:=E.look e he
 rw [h] at h1
 cases h1
 exact ⟨e,he,rfl,h2⟩
theorem cK.SN{d:Addr}{aB:List (Key × V)}{l:List Sa32.Ent}(E:cK t H d aB l){i u:Nat}(hl:∀e,e ∈ l→e.sub < 256)(hu:u < 256)(h:∀e,e ∈ l→¬(e.index=i∧e.sub=u)):bS aB (Sum.inl (bD i u))=none:=by
 cases q:bS aB (Sum.inl (bD i u)) with
 | none=>rfl
 | some v=>
  obtain ⟨e,he,z⟩:=E.only _ _ q
  have:=uz hu (hl e he) (Sum.inl.inj z)
  exact absurd ⟨this.1.symm,this.2.symm⟩ (h e he)
theorem cK.add{d:Addr}{aB:List (Key × V)}{l:List Sa32.Ent}(En:cK t H d aB l){e:Sa32.Ent}(hl:∀e',e' ∈ l→e'.sub < 256∧¬(e'.index=e.index∧e'.sub=e.sub))(hu:e.sub < 256){a:Addr}{H1:Hp}
  (hnew:H a=none) (keep:∀b o,H b=some o→H1 b=some o) (ha:D4 t H1 a e) (hlen:aB.length < 200):
  gL t H d aB l (upd H1 d (.dK (putK aB (gQ e) (.ref a)))) (putK aB (gQ e) (.ref a)) (l ++ [e]):=by
 have hn:bS aB (gQ e)=none:=En.SN (fun e' he'=>(hl e' he').1) hu fun e' he'=>(hl e' he').2
 have had:a ≠ d:=fun z=>by rw [z,En.dict] at hnew;cases hnew
 refine ⟨⟨ao,fun e' he'=>?_,fun k v hv=>?_,fun k k' b h1 h2=>?_,?_⟩,fun b o hb ho=>?_,fun k b hv=>?_,?_,fun hnd=>Sl _ hnd hn⟩
 ·rcases List.mem_append.mp he' with he' | he'
  ·obtain ⟨a',h1,dx,h2⟩:=En.look e' he'
   refine ⟨a',?_,dx,?_⟩
   ·rw [kH,if_neg fun z=>?_]
    ·exact h1
    ·rw [z,hn] at h1;cases h1
   ·rw [aL (uk h2 En.dict (by intro z;cases z))]
    exact keep _ _ h2
  ·have he':e'=e:=by simpa using he'
   subst he'
   obtain ⟨dx,h2⟩:=ha
   exact ⟨a,by rw [kH,if_pos rfl],dx,by rw [aL had];exact h2⟩
 ·rw [kH] at hv
  by_cases z:k=gQ e
  ·exact ⟨e,List.mem_append_right _ (List.mem_singleton.mpr rfl),z⟩
  ·rw [if_neg z] at hv
   obtain ⟨e',h1,h2⟩:=En.only k v hv
   exact ⟨e',List.mem_append_left _ h1,h2⟩
 ·have old:∀k,bS aB k=some (.ref a)→False:=fun k hk=>by
   obtain ⟨_,_,_,_,z⟩:=En.zX hk
   rw [hnew] at z
   cases z
  rw [kH] at h1 h2
  by_cases z:k=gQ e
  ·rw [if_pos z] at h1
   cases h1
   by_cases z':k'=gQ e
   ·rw [z,z']
   ·rw [if_neg z'] at h2
    exact (old _ h2).elim
  ·rw [if_neg z] at h1
   by_cases z':k'=gQ e
   ·rw [if_pos z'] at h2
    cases h2
    exact (old _ h1).elim
   ·rw [if_neg z'] at h2
    exact En.inj k k' b h1 h2
 ·rw [CT _ hn,List.length_append]
  simp
  omega
 ·rw [aL hb]
  exact keep b o ho
 ·rw [kH] at hv
  by_cases z:k=gQ e
  ·rw [if_pos z] at hv
   cases hv
   exact .inr hnew
  ·rw [if_neg z] at hv
   exact .inl ⟨k,hv⟩
 ·rw [CT _ hn,List.length_append,List.length_append]
  simp
  omega
theorem gL.refl{d:Addr}{aB:List (Key × V)}{l:List Sa32.Ent}(En:cK t H d aB l):gL t H d aB l H aB l:=⟨En,fun _ _ _ h=>h,fun k _ h=> .inl ⟨k,h⟩,by omega,fun h=>h⟩
theorem gL.trans{d:Addr}{aB kvs1 kvs2:List (Key × V)}{l l1 l2:List Sa32.Ent}{H1 H2:Hp}(Jm:∀b,H1 b=none→H b=none)(a:gL t H d aB l H1 kvs1 l1)(b:gL t H1 d kvs1 l1 H2 kvs2 l2):gL t H d aB l H2 kvs2 l2:=
 ⟨b.ents,fun c o hc h=>b.keep c o hc (a.keep c o hc h),fun k c h=>by
  rcases b.fresh k c h with ⟨k',h'⟩ | h'
  ·exact a.fresh k' c h'
  ·exact .inr (Jm c h'),by have:=a.len;have:=b.len;omega,fun h=>b.nd (a.nd h)⟩
theorem gL.Jm{d:Addr}{aB kvs':List (Key × V)}{l l':List Sa32.Ent}{H':Hp}(g:gL t H d aB l H' kvs' l')(b:Addr)(h:H' b=none):H b=none:=by
 by_cases z:b=d
 ·subst z
  rw [g.ents.dict] at h
  cases h
 ·cases q:H b with
  | none=>rfl
  | some o=>rw [g.keep b o z q] at h;cases h
theorem gL.tr{d:Addr}{aB kvs1 kvs2:List (Key × V)}{l l1 l2:List Sa32.Ent}{H1 H2:Hp}(a:gL t H d aB l H1 kvs1 l1)(b:gL t H1 d kvs1 l1 H2 kvs2 l2):gL t H d aB l H2 kvs2 l2:=a.trans a.Jm b
theorem RY(w:Bool):(!(Builtin.Str.occurrences (xZ w) "r" 0 (xZ w).length 1).isEmpty)=true:=by cases w <;> decide +kernel
theorem RU(w:Bool):(!(Builtin.Str.occurrences (xZ w) "w" 0 (xZ w).length 1).isEmpty)=w:=by cases w <;> decide +kernel
theorem RR{i u k v:Nat}{w:Bool}(hv:v < 256 ^ k):nu (oE i u w k v)= ([("size",.int (k:Int)),("readable",.bl true),("writable",.bl w),("mappable",.bl false),("value",.int (v:Int))]:List (Str × V)):=by
 unfold nu oE
 simp only [bG,Hk,Nat.mod_eq_of_lt hv]
theorem RT(h:dz K t vs H Q E):vs.length=6:=by obtain ⟨d,aB,l,i,u,k,v,w,rfl,_⟩:=h;rfl
theorem TF(T:cU K t)(h:dz K t vs H Q E):UR K t (Dn Q) (start SR vs) H:=by
 obtain ⟨d,aB,l,i,u,k,v,w,rfl,En,hl,hu,hv,hlen,q⟩:=h
 refine ⟨_,rfl,_,rfl,_,_,rfl,rfl,?_⟩
 refine ⟨_,rfl,_,_,rfl,rfl,_,rfl,fun a dx ha hdx hne=>?_⟩
 rw [RY,RU]
 refine ⟨a,dx,_,_,_,_,_,rfl,ao,fun H1 k1 k2=>⟨rfl,?_⟩⟩
 refine ⟨_,rfl,_,rfl,_,rfl,_,_,rfl,?_⟩
 have keep:∀b o,H b=some o→H1 b=some o:=fun b o hb=>by
  rw [k1 b (aE hb ha),aL (aE hb ha),aL (aE hb hdx)]
  exact hb
 have g:=En.add (e:=oE i u w k v) hl hu ha keep ⟨dx,by rw [RR hv];exact k2⟩ hlen
 exact ⟨d,_,rfl,Of.k (k:=Sum.inl (bD i u)) (keep _ _ En.dict) (b7 (by omega)),q _ _ g⟩
theorem Hm(h:kq K t vs H Q E):vs.length=2:=by obtain ⟨d,aB,l,i,rfl,_⟩:=h;rfl
theorem J7(T:cU K t)(h:kq K t vs H Q E):My K t (Dn Q) (start DP vs) H:=by
 obtain ⟨d,aB,l,i,rfl,En,hl,hlen,q⟩:=h
 refine ⟨_,rfl,_,rfl,d,aB,l,i,0,1,0,true,rfl,En,fun e he=>⟨(hl e he).1,fun z=>(hl e he).2 z.1⟩,by decide,by decide,by omega,fun H1 kvs1 g1=>?_⟩
 refine ⟨1,9,rfl,by decide,?_⟩
 refine gq (n:=8) (fun j σ H'=>∃b kvs',σ = [some (.ref d),some (.int (i:Int)),b]∧gL t H d aB l H' kvs' (l ++ (oE i 0 true 1 0::(List.range j).map fun j=>oE i (j+1) true 4 0))) ?_ ?_ ?_
 ·exact ⟨none,kvs1,rfl,g1⟩
 ·rintro j σ H' hj ⟨b,kvs',rfl,g⟩
  have gl:=g.len
  rw [List.length_append,List.length_cons,List.length_map,List.length_range] at gl
  refine ⟨_,rfl,_,rfl,_,rfl,d,kvs',_,i,j+1,4,0,true,?_,g.ents,fun e he=>?_,by omega,by decide,by omega,fun H2 kvs2 g2=>?_⟩
  ·have e1:(1:Int)+ ((j:Nat):Int)= ((j+1:Nat):Int):=by omega
   show [V.ref d,.int (i:Int),.int (1+ ((j:Nat):Int)),.int 4,.str "rw",.int 0] = _
   rw [e1]
   rfl
  ·rcases List.mem_append.mp he with he | he
   ·exact ⟨(hl e he).1,fun z=>(hl e he).2 z.1⟩
   ·rcases List.mem_cons.mp he with rfl | he
    ·exact ⟨show 0 < 256 by decide,fun z=>by have:(0:Nat)=j+1:=z.2;omega⟩
    ·obtain ⟨j',hj',rfl⟩:=List.mem_map.mp he
     have:=List.mem_range.mp hj'
     exact ⟨show j'+1 < 256 by omega,fun z=>by have:j'+1=j+1:=z.2;omega⟩
  ·refine ⟨_,kvs2,rfl,?_⟩
   have:=g.tr g2
   rw [List.append_assoc] at this
   rw [List.range_succ,List.map_append]
   exact this
 ·rintro σ H' ⟨b,kvs',rfl,g⟩
  exact q H' kvs' g
theorem DB(h:ki K t vs H Q E):vs.length=3:=by obtain ⟨d,aB,l,k,n,rfl,_⟩:=h;rfl
theorem dW{l m:List Sa32.Ent}{i u:Nat}(hl:∀e,e ∈ l→e.sub < 256∧¬(e.index=i∧e.sub=u))(hm:∀e,e ∈ m→e.sub < 256∧¬(e.index=i∧e.sub=u)):∀e,e ∈ l ++ m→e.sub < 256∧¬(e.index=i∧e.sub=u):=
 fun e he=>(List.mem_append.mp he).elim (hl e) (hm e)
theorem gf{i u i' u':Nat}{w:Bool}{k v:Nat}(h1:u' < 256)(h2:¬(i'=i∧u'=u)):∀e,e ∈ [oE i' u' w k v]→e.sub < 256∧¬(e.index=i∧e.sub=u):=fun e he=>by
 have:e=oE i' u' w k v:=by simpa using he
 subst this
 exact ⟨h1,h2⟩
theorem Fb(T:cU K t)(h:ki K t vs H Q E):HV K t (Dn Q) (start xQ vs) H:=by
 obtain ⟨d,aB,l,k,n,rfl,En,hl,hk,hn,hlen,q⟩:=h
 have e1:(5120:Int)+ (k:Int)= ((0x1400+k:Nat):Int):=by omega
 have f0:∀u e,e ∈ l→e.sub < 256∧¬(e.index=0x1400+k∧e.sub=u):=fun u e he=>⟨(hl e he).1,fun z=>(hl e he).2.1 z.1⟩
 refine ⟨_,rfl,_,rfl,_,_,rfl,rfl,d,aB,l,0x1400+k,0,1,2,false,?_,En,f0 0,by decide,by decide,by omega,fun H1 kvs1 g1=>?_⟩
 ·rw [←e1];rfl
 have l1:=g1.len
 rw [List.length_append] at l1
 refine ⟨_,rfl,_,rfl,_,_,rfl,rfl,_,_,rfl,rfl,_,rfl,_,_,rfl,rfl,.inl ⟨by decide,by decide⟩,_,_,rfl,rfl,_,rfl,_,_,rfl,rfl,d,kvs1,_,0x1400+k,1,4,Sa32.OFF+0x200+0x100 * k+n,true,?_,g1.ents,dW (f0 1) (gf (by decide) (by omega)),by decide,?_,?_,fun H2 kvs2 g2=>?_⟩
 ·show [V.ref d,.int (5120+ (k:Int)),.int 1,.int 4,.str "rw",.int (2147483648+512+256 * (k:Int)+ (n:Int))] = _
  rw [e1]
  have e2:(2147483648:Int)+512+256 * (k:Int)+ (n:Int)= ((Sa32.OFF+0x200+0x100 * k+n:Nat):Int):=by unfold Sa32.OFF;omega
  rw [e2];rfl
 ·unfold Sa32.OFF;omega
 ·simp at l1;omega
 have l2:=g2.len
 rw [List.length_append,List.length_append] at l2
 refine ⟨_,rfl,_,rfl,_,_,rfl,rfl,d,kvs2,_,0x1400+k,2,1,0xFF,true,?_,g2.ents,dW (dW (f0 2) (gf (by decide) (by omega))) (gf (by decide) (by omega)),by decide,by decide,?_,fun H3 kvs3 g3=>?_⟩
 ·rw [←e1];rfl
 ·simp at l1 l2;omega
 have l3:=g3.len
 rw [List.length_append,List.length_append,List.length_append] at l3
 refine ⟨_,rfl,_,rfl,_,_,rfl,rfl,d,kvs3,_,0x1600+k,?_,g3.ents,?_,?_,fun H4 kvs4 g4=>?_⟩
 ·have e2:(5632:Int)+ (k:Int)= ((0x1600+k:Nat):Int):=by omega
  rw [←e2];rfl
 ·intro e he
  have f:∀u w k' v,e ∈ [oE (0x1400+k) u w k' v]→u < 256→e.sub < 256∧e.index ≠ 0x1600+k:=fun u w k' v he hu=>by
   have:e=oE (0x1400+k) u w k' v:=by simpa using he
   subst this
   exact ⟨hu,show 0x1400+k ≠ 0x1600+k by omega⟩
  rcases List.mem_append.mp he with he | he
  ·rcases List.mem_append.mp he with he | he
   ·rcases List.mem_append.mp he with he | he
    ·exact ⟨(hl e he).1,(hl e he).2.2⟩
    ·exact f _ _ _ _ he (by decide)
   ·exact f _ _ _ _ he (by decide)
  ·exact f _ _ _ _ he (by decide)
 ·simp at l1 l2 l3;omega
 have g:=((g1.tr g2).tr g3).tr g4
 refine q H4 kvs4 ?_
 rw [List.append_assoc,List.append_assoc,List.append_assoc] at g
 exact g
theorem E6(h:lG K t vs H Q E):vs.length=3:=by obtain ⟨d,aB,l,k,n,rfl,_⟩:=h;rfl
theorem Ha(T:cU K t)(h:lG K t vs H Q E):JE K t (Dn Q) (start Br vs) H:=by
 obtain ⟨d,aB,l,k,n,rfl,En,hl,hk,hn,hlen,q⟩:=h
 have e1:(6144:Int)+ (k:Int)= ((0x1800+k:Nat):Int):=by omega
 have f0:∀u e,e ∈ l→e.sub < 256∧¬(e.index=0x1800+k∧e.sub=u):=fun u e he=>⟨(hl e he).1,fun z=>(hl e he).2.1 z.1⟩
 refine ⟨_,rfl,_,rfl,_,_,rfl,rfl,d,aB,l,0x1800+k,0,1,5,false,?_,En,f0 0,by decide,by decide,by omega,fun H1 kvs1 g1=>?_⟩
 ·rw [←e1];rfl
 have l1:=g1.len
 rw [List.length_append] at l1
 refine ⟨_,rfl,_,rfl,_,_,rfl,rfl,_,_,rfl,rfl,_,rfl,_,_,rfl,rfl,.inl ⟨by decide,by decide⟩,_,_,rfl,rfl,_,rfl,_,_,rfl,rfl,d,kvs1,_,0x1800+k,1,4,Sa32.OFF+0x180+0x100 * k+n,true,?_,g1.ents,dW (f0 1) (gf (by decide) (by omega)),by decide,?_,?_,fun H2 kvs2 g2=>?_⟩
 ·show [V.ref d,.int (6144+ (k:Int)),.int 1,.int 4,.str "rw",.int (2147483648+384+256 * (k:Int)+ (n:Int))] = _
  rw [e1]
  have e2:(2147483648:Int)+384+256 * (k:Int)+ (n:Int)= ((Sa32.OFF+0x180+0x100 * k+n:Nat):Int):=by unfold Sa32.OFF;omega
  rw [e2];rfl
 ·unfold Sa32.OFF;omega
 ·simp at l1;omega
 have l2:=g2.len
 rw [List.length_append,List.length_append] at l2
 refine ⟨_,rfl,_,rfl,_,_,rfl,rfl,d,kvs2,_,0x1800+k,2,1,0xFF,true,?_,g2.ents,dW (dW (f0 2) (gf (by decide) (by omega))) (gf (by decide) (by omega)),by decide,by decide,?_,fun H3 kvs3 g3=>?_⟩
 ·rw [←e1];rfl
 ·simp at l1 l2;omega
 have l3:=g3.len
 rw [List.length_append,List.length_append,List.length_append] at l3
 refine ⟨_,rfl,_,rfl,_,_,rfl,rfl,d,kvs3,_,0x1800+k,3,2,0,true,?_,g3.ents,dW (dW (dW (f0 3) (gf (by decide) (by omega))) (gf (by decide) (by omega))) (gf (by decide) (by omega)),by decide,by decide,?_,fun H4 kvs4 g4=>?_⟩
 ·rw [←e1];rfl
 ·simp at l1 l2 l3;omega
 have l4:=g4.len
 rw [List.length_append,List.length_append,List.length_append,List.length_append] at l4
 refine ⟨_,rfl,_,rfl,_,_,rfl,rfl,d,kvs4,_,0x1800+k,5,2,0,true,?_,g4.ents,dW (dW (dW (dW (f0 5) (gf (by decide) (by omega))) (gf (by decide) (by omega))) (gf (by decide) (by omega))) (gf (by decide) (by omega)),by decide,by decide,?_,fun H5 kvs5 g5=>?_⟩
 ·rw [←e1];rfl
 ·simp at l1 l2 l3 l4;omega
 have l5:=g5.len
 rw [List.length_append,List.length_append,List.length_append,List.length_append,List.length_append] at l5
 refine ⟨_,rfl,_,rfl,_,_,rfl,rfl,d,kvs5,_,0x1A00+k,?_,g5.ents,?_,?_,fun H6 kvs6 g6=>?_⟩
 ·have e2:(6656:Int)+ (k:Int)= ((0x1A00+k:Nat):Int):=by omega
  rw [←e2];rfl
 ·intro e he
  have f:∀u w k' v,e ∈ [oE (0x1800+k) u w k' v]→u < 256→e.sub < 256∧e.index ≠ 0x1A00+k:=fun u w k' v he hu=>by
   have:e=oE (0x1800+k) u w k' v:=by simpa using he
   subst this
   exact ⟨hu,show 0x1800+k ≠ 0x1A00+k by omega⟩
  rcases List.mem_append.mp he with he | he
  ·rcases List.mem_append.mp he with he | he
   ·rcases List.mem_append.mp he with he | he
    ·rcases List.mem_append.mp he with he | he
     ·rcases List.mem_append.mp he with he | he
      ·exact ⟨(hl e he).1,(hl e he).2.2⟩
      ·exact f _ _ _ _ he (by decide)
     ·exact f _ _ _ _ he (by decide)
    ·exact f _ _ _ _ he (by decide)
   ·exact f _ _ _ _ he (by decide)
  ·exact f _ _ _ _ he (by decide)
 ·simp at l1 l2 l3 l4 l5;omega
 have g:=((((g1.tr g2).tr g3).tr g4).tr g5).tr g6
 refine q H6 kvs6 ?_
 rw [List.append_assoc,List.append_assoc,List.append_assoc,List.append_assoc,List.append_assoc] at g
 exact g
end
end Fn
namespace Fn
open PySem L2
section
variable{K:PySem.W.Frag}{t:bh}{vs:List V}{H:Hp}{Q:VK}{E:XK}
theorem cK.new{d:Addr}(h:H d=some (.dK [])):cK t H d [] []:=⟨h,fun e he=>(nomatch he),fun k v hv=>(by cases hv),fun k k' a h1=>(by cases h1),by decide⟩
theorem cK.perm{d:Addr}{aB:List (Key × V)}{l l':List Sa32.Ent}(En:cK t H d aB l)(h1:∀e,e ∈ l'→e ∈ l)(h2:∀e,e ∈ l→e ∈ l'):cK t H d aB l':=
 ⟨En.dict,fun e he=>En.look e (h1 e he),fun k v hv=>let ⟨e,he,z⟩:=En.only k v hv;⟨e,h2 e he,z⟩,En.inj,En.len⟩
theorem R7{b:List Nat}{e:Sa32.Ent}(h:Sa32.entOf b=some e):nu e= ([("size",.int ((b.getD 3 0:Nat):Int)),("readable",.bl (decide (V.int ((b.getD 4 0:Nat):Int)=V.int 1))),("writable",.bl (decide (V.int ((b.getD 5 0:Nat):Int)=V.int 1))),("mappable",.bl (decide (V.int ((b.getD 6 0:Nat):Int)=V.int 1))),("value",.int 0)]:List (Str × V)):=by
 obtain ⟨_,h1,h2,h3,h4,h5,h6⟩:=gP h
 have f:∀x:Nat,decide (V.int (x:Int)=V.int 1)= (x == 1):=fun x=>by
  rw [dI,Bool.eq_iff_iff]
  simp
  omega
 unfold nu
 rw [h3,h4,h5,h6,f,f,f,OS]
 simp [Sa32.zeros]
theorem yX(h:gu K t vs H Q E):vs.length=1:=by obtain ⟨a,bs,l,rfl,_⟩:=h;rfl
theorem zE(T:cU K t)(h:gu K t vs H Q E):B7 K t (Dn Q) (start sy vs) H:=by
 obtain ⟨a,bs,L,rfl,ha,hb,h8,hle,hL,q⟩:=h
 intro d hd
 have s1:aP H (upd H d (.dK [])):=aP.new hd
 have hm:bs.length=8 * (bs.length / 8):=by omega
 obtain ⟨tg1,tg2⟩:=jB hb (bs.length / 8)
 obtain ⟨L',hL',hlen,each⟩:=tg1 (tg2 L hL)
 rw [hL] at hL'
 cases hL'
 have hmm:bs.length / 8≤64:=by omega
 refine ⟨_,rfl,a,bs,rfl,s1 _ _ ha,h8,hle,fun l ls H2 s2 hl0 hl1 hls hln=>?_⟩
 have hd2:H2 d=some (.dK []):=s2 _ _ ao
 generalize bs.length / 8=m at *
 have hld:l ≠ d:=fun z=>by rw [z,ao] at hl0;cases hl0
 refine ⟨l,rfl,⟨_,cb.of hl1⟩,?_⟩
 refine yH (K:=K) (a:=l) (xs:=ls.map V.ref) (fun i σ H'=>∃b aB,σ = [some (.ref a),some (.ref d),b]∧gL t H2 d [] [] H' aB (L.take i)) ?_ ?_ ?_ ?_
 ·exact ⟨none,[],rfl,gL.refl (cK.new hd2)⟩
 ·rintro i σ H' _ ⟨b,aB,rfl,g⟩
  exact cb.of (g.keep _ _ hld hl1)
 ·rintro i x σ H' hx ⟨b,aB,rfl,g⟩
  rw [List.getElem?_map] at hx
  obtain ⟨y,hy,rfl⟩:=Option.map_eq_some_iff.mp hx
  have hi:i < m:=by rw [←hls];exact (List.getElem?_eq_some_iff.mp hy).1
  have hy2:=hln i y hy
  have hyd:y ≠ d:=uk hy2 hd2 (by intro z;cases z)
  have hline:H' y=some (.lst (bV (b8 bs i))):=g.keep _ _ hyd hy2
  have hll:=Dv hm hi
  obtain ⟨e,he,hLi⟩:=each i hi
  obtain ⟨_,e1,e2,_⟩:=gP he
  refine ⟨_,rfl,y,_,_,_,rfl,rfl,cb.of hline,jF (i:=3) (by omega),_,rfl,y,_,_,_,rfl,rfl,cb.of hline,jF (i:=4) (by omega),rfl,?_⟩
  refine ⟨_,rfl,y,_,_,_,rfl,rfl,cb.of hline,jF (i:=5) (by omega),rfl,_,rfl,y,_,_,_,rfl,rfl,cb.of hline,jF (i:=6) (by omega),rfl,fun c dx hc hdx hne=>?_⟩
  refine ⟨c,dx,_,_,_,_,_,rfl,ao,fun H3 k1 k2=>⟨rfl,?_⟩⟩
  have keep:∀b o,H' b=some o→H3 b=some o:=fun b o hb=>by
   rw [k1 b (aE hb hc),aL (aE hb hc),aL (aE hb hdx)]
   exact hb
  refine ⟨_,rfl,_,rfl,y,b8 bs i,rfl,keep _ _ hline,hll,fun H4 s4=>?_⟩
  have gl:=g.len
  rw [List.length_take,hlen] at gl
  have hk:bD (Sa32.num ((b8 bs i).take 2)) ((b8 bs i).getD 2 0)=bD e.index e.sub:=by rw [e1,e2]
  have hsub:∀(j:Nat)(e':Sa32.Ent),L[j]? = some e'→e'.sub < 256:=fun j e' hj=>by
   have hj':j < m:=by rw [←hlen];exact (List.getElem?_eq_some_iff.mp hj).1
   obtain ⟨e'',h1,h2⟩:=each j hj'
   rw [hj] at h2
   cases h2
   obtain ⟨_,_,h3,_⟩:=gP h1
   rw [h3]
   exact km (ny hb j) 2
  have good:=tg2 L hL
  have rise:∀j,j < i→vt (b8 bs j) < vt (b8 bs i):=by
   have up:∀n j,j+n+1≤i→vt (b8 bs j) < vt (b8 bs (j+n+1)):=by
    intro n
    induction n with
    | zero=>intro j hj;exact good.2 j (by omega)
    | succ n ih=>intro j hj;exact Int.lt_trans (ih j (by omega)) (good.2 (j+n+1) (by omega))
   intro j hj
   have:=up (i - j - 1) j (by omega)
   rw [show j+ (i - j - 1)+1=i by omega] at this
   exact this
  have g2:=g.ents.add (e:=e) (a:=c) (H1:=H4) (fun e' he'=>?_) (hsub i e hLi) hc (fun b o hb=>s4 _ _ (keep b o hb)) ⟨dx,s4 _ _ (by rw [R7 he];exact k2)⟩ (by simp at gl;omega)
  ·have d4:H4 d=some (.dK aB):=s4 _ _ (keep _ _ g.ents.dict)
   refine ⟨d,_,rfl,Of.k (k:=Sum.inl _) d4 (b7 (by simp at gl;omega)),some (.ref y),putK aB (gQ e) (.ref c),rfl,?_⟩
   have g3:=g.tr g2
   rw [List.take_add_one (l:=L) (i:=i),hLi]
   show gL t H2 d [] [] (upd H4 d (.dK (putK aB (Sum.inl (bD _ _)) _))) _ _
   rw [hk]
   exact g3
  ·obtain ⟨j,hj⟩:=List.mem_iff_getElem?.mp he'
   have hji:j < i:=by
    have:=(List.getElem?_eq_some_iff.mp hj).1
    rw [List.length_take] at this
    omega
   rw [List.getElem?_take_of_lt hji] at hj
   refine ⟨hsub j e' hj,fun z=>?_⟩
   obtain ⟨e'',h1,h2⟩:=each j (by omega)
   rw [hj] at h2
   cases h2
   obtain ⟨_,h3,h4,_⟩:=gP h1
   have:=rise j hji
   unfold vt at this
   rw [←h3,←h4,←e1,←e2,z.1,z.2] at this
   omega
 ·rintro σ H' ⟨b,aB,rfl,g⟩
  refine ⟨_,rfl,?_⟩
  rw [List.length_map,hls,List.take_of_length_le (by omega)] at g
  have gl:=g.len
  simp at gl
  refine q d aB H' (fun b o hb=>g.keep b o (aE hb hd) (s2 _ _ (s1 _ _ hb))) hd g.ents (fun k b hk=>?_) (by omega)
  rcases g.fresh k b hk with ⟨k',h'⟩ | h'
  ·cases h'
  ·exact s1.free (s2.free h')
theorem uY{i:Nat}{e:Sa32.Ent}(h:e ∈ listE i):e.sub < 256∧e.index=i:=by
 unfold listE at h
 rcases List.mem_cons.mp h with rfl | h
 ·exact ⟨show 0 < 256 by decide,rfl⟩
 ·obtain ⟨j,hj,rfl⟩:=List.mem_map.mp h
  have:=List.mem_range.mp hj
  exact ⟨show j+1 < 256 by omega,rfl⟩
theorem Bs{n k:Nat}{e:Sa32.Ent}(h:e ∈ md n k):e.sub < 256∧(e.index=0x1400+k∨e.index=0x1600+k):=by
 unfold md at h
 rcases List.mem_append.mp h with h | h
 ·simp only [List.mem_cons,List.not_mem_nil,or_false] at h
  rcases h with rfl | rfl | rfl
  ·exact ⟨show 0 < 256 by decide,.inl rfl⟩
  ·exact ⟨show 1 < 256 by decide,.inl rfl⟩
  ·exact ⟨show 2 < 256 by decide,.inl rfl⟩
 ·exact ⟨(uY h).1,.inr (uY h).2⟩
theorem L5{n k:Nat}{e:Sa32.Ent}(h:e ∈ wX n k):e.sub < 256∧(e.index=0x1800+k∨e.index=0x1A00+k):=by
 unfold wX at h
 rcases List.mem_append.mp h with h | h
 ·simp only [List.mem_cons,List.not_mem_nil,or_false] at h
  rcases h with rfl | rfl | rfl | rfl | rfl
  ·exact ⟨show 0 < 256 by decide,.inl rfl⟩
  ·exact ⟨show 1 < 256 by decide,.inl rfl⟩
  ·exact ⟨show 2 < 256 by decide,.inl rfl⟩
  ·exact ⟨show 3 < 256 by decide,.inl rfl⟩
  ·exact ⟨show 5 < 256 by decide,.inl rfl⟩
 ·exact ⟨(uY h).1,.inr (uY h).2⟩
def tL(n:Nat):List Sa32.Ent:=[oE 0x1000 0 false 4 0,oE 0x1001 0 false 1 0,oE 0x1005 0 true 4 0x80,oE 0x1014 0 true 4 (0x80+n),oE 0x1016 0 false 1 2,oE 0x1016 1 true 4 0,oE 0x1016 2 true 4 0,oE 0x1017 0 true 2 0]
def mX(n j:Nat):List Sa32.Ent:=(List.range j).flatMap fun k=>md n k ++ wX n k
theorem tH(n:Nat)(e:Sa32.Ent):e ∈ Sa32.besides n↔e ∈ tL n ++ mX n 4:=by
 have h:Sa32.besides n=tL n ++ ((List.range 4).flatMap fun k=>[oE (0x1400+k) 0 false 1 2,oE (0x1400+k) 1 true 4 (Sa32.OFF+0x200+0x100 * k+n),oE (0x1400+k) 2 true 1 0xFF]) ++
  ((List.range 4).flatMap fun k=>listE (0x1600+k)) ++
  ((List.range 4).flatMap fun k=>[oE (0x1800+k) 0 false 1 5,oE (0x1800+k) 1 true 4 (Sa32.OFF+0x180+0x100 * k+n),oE (0x1800+k) 2 true 1 0xFF,oE (0x1800+k) 3 true 2 0,oE (0x1800+k) 5 true 2 0]) ++
  ((List.range 4).flatMap fun k=>listE (0x1A00+k)):=rfl
 rw [h]
 unfold mX md wX
 simp only [List.mem_append,List.mem_flatMap]
 constructor
 ·rintro ((((h | ⟨k,hk,h⟩) | ⟨k,hk,h⟩) | ⟨k,hk,h⟩) | ⟨k,hk,h⟩)
  ·exact .inl h
  ·exact .inr ⟨k,hk,.inl (.inl h)⟩
  ·exact .inr ⟨k,hk,.inl (.inr h)⟩
  ·exact .inr ⟨k,hk,.inr (.inl h)⟩
  ·exact .inr ⟨k,hk,.inr (.inr h)⟩
 ·rintro (h | ⟨k,hk,((h | h) | (h | h))⟩)
  ·exact .inl (.inl (.inl (.inl h)))
  ·exact .inl (.inl (.inl (.inr ⟨k,hk,h⟩)))
  ·exact .inl (.inl (.inr ⟨k,hk,h⟩))
  ·exact .inl (.inr ⟨k,hk,h⟩)
  ·exact .inr ⟨k,hk,h⟩
theorem wY{n j:Nat}{e:Sa32.Ent}(h:e ∈ mX n j):e.sub < 256∧∃k,k < j∧(e.index=0x1400+k∨e.index=0x1600+k∨e.index=0x1800+k∨e.index=0x1A00+k):=by
 unfold mX at h
 obtain ⟨k,hk,h⟩:=List.mem_flatMap.mp h
 have hk:=List.mem_range.mp hk
 rcases List.mem_append.mp h with h | h
 ·have:=Bs h
  exact ⟨this.1,k,hk,by rcases this.2 with z | z <;> simp [z]⟩
 ·have:=L5 h
  exact ⟨this.1,k,hk,by rcases this.2 with z | z <;> simp [z]⟩
theorem GW{n:Nat}{e:Sa32.Ent}(h:e ∈ tL n):e.sub < 256∧e.index < 0x1400:=by
 unfold tL at h
 simp only [List.mem_cons,List.not_mem_nil,or_false] at h
 rcases h with rfl | rfl | rfl | rfl | rfl | rfl | rfl | rfl <;> simp [oE]
theorem wj(n j:Nat):(mX n j).length=26 * j:=by
 unfold mX
 induction j with
 | zero=>rfl
 | succ j ih=>
  rw [List.range_succ,List.flatMap_append,List.length_append,ih]
  simp [md,wX,listE]
  omega
theorem ko{i u:Nat}:∀e,e ∈ ([]:List Sa32.Ent)→e.sub < 256∧¬(e.index=i∧e.sub=u):=fun e he=>(nomatch he)
theorem bx{l:List Sa32.Ent}{i u i' u':Nat}{w:Bool}{k v:Nat}(h1:u' < 256)(h2:¬(i'=i∧u'=u))(hl:∀e,e ∈ l→e.sub < 256∧¬(e.index=i∧e.sub=u)):∀e,e ∈ oE i' u' w k v::l→e.sub < 256∧¬(e.index=i∧e.sub=u):=fun e he=>by
 rcases List.mem_cons.mp he with rfl | he
 ·exact ⟨h1,h2⟩
 ·exact hl e he
theorem vw(h:d8 K t vs H Q E):vs.length=1:=by obtain ⟨n,rfl,_⟩:=h;rfl
theorem xp(T:cU K t)(h:d8 K t vs H Q E):yM K t (Dn Q) (start oH vs) H:=by
 obtain ⟨n,rfl,hn,q⟩:=h
 intro d hd
 have s1:aP H (upd H d (.dK [])):=aP.new hd
 have g0:gL t (upd H d (.dK [])) d [] [] (upd H d (.dK [])) [] []:=gL.refl (cK.new ao)
 generalize hH1:upd H d (.dK [])=H1 at *
 refine ⟨_,rfl,d,[],[],0x1000,0,4,0,false,rfl,g0.ents,ko,by decide,by decide,by decide,fun H2 kvs2 g=>?_⟩
 have g2:gL t H1 d [] [] H2 kvs2 [oE 0x1000 0 false 4 0]:=g0.tr g
 have l2:=g2.len
 refine ⟨_,rfl,d,kvs2,_,0x1001,0,1,0,false,rfl,g2.ents,bx (by decide) (by decide) ko,by decide,by decide,by simp at l2;omega,fun H3 kvs3 g=>?_⟩
 have g3:gL t H1 d [] [] H3 kvs3 [oE 0x1000 0 false 4 0,oE 0x1001 0 false 1 0]:=g2.tr g
 have l3:=g3.len
 refine ⟨_,rfl,d,kvs3,_,0x1005,0,4,0x80,true,rfl,g3.ents,bx (by decide) (by decide) (bx (by decide) (by decide) ko),by decide,by decide,by simp at l3;omega,fun H4 kvs4 g=>?_⟩
 have g4:gL t H1 d [] [] H4 kvs4 [oE 0x1000 0 false 4 0,oE 0x1001 0 false 1 0,oE 0x1005 0 true 4 0x80]:=g3.tr g
 have l4:=g4.len
 refine ⟨_,rfl,_,rfl,_,_,rfl,rfl,d,kvs4,_,0x1014,0,4,0x80+n,true,?_,g4.ents,bx (by decide) (by decide) (bx (by decide) (by decide) (bx (by decide) (by decide) ko)),by decide,by omega,by simp at l4;omega,fun H5 kvs5 g=>?_⟩
 ·have e:(128:Int)+ (n:Int)= ((0x80+n:Nat):Int):=by omega
  rw [←e];rfl
 have g5:gL t H1 d [] [] H5 kvs5 [oE 0x1000 0 false 4 0,oE 0x1001 0 false 1 0,oE 0x1005 0 true 4 0x80,oE 0x1014 0 true 4 (0x80+n)]:=g4.tr g
 have l5:=g5.len
 refine ⟨_,rfl,d,kvs5,_,0x1016,0,1,2,false,rfl,g5.ents,bx (by decide) (by decide) (bx (by decide) (by decide) (bx (by decide) (by decide) (bx (by decide) (by decide) ko))),by decide,by decide,by simp at l5;omega,fun H6 kvs6 g=>?_⟩
 have g6:gL t H1 d [] [] H6 kvs6 [oE 0x1000 0 false 4 0,oE 0x1001 0 false 1 0,oE 0x1005 0 true 4 0x80,oE 0x1014 0 true 4 (0x80+n),oE 0x1016 0 false 1 2]:=g5.tr g
 have l6:=g6.len
 refine ⟨_,rfl,d,kvs6,_,0x1016,1,4,0,true,rfl,g6.ents,bx (by decide) (by decide) (bx (by decide) (by decide) (bx (by decide) (by decide) (bx (by decide) (by decide) (bx (by decide) (by decide) ko)))),by decide,by decide,by simp at l6;omega,fun H7 kvs7 g=>?_⟩
 have g7:gL t H1 d [] [] H7 kvs7 [oE 0x1000 0 false 4 0,oE 0x1001 0 false 1 0,oE 0x1005 0 true 4 0x80,oE 0x1014 0 true 4 (0x80+n),oE 0x1016 0 false 1 2,oE 0x1016 1 true 4 0]:=g6.tr g
 have l7:=g7.len
 refine ⟨_,rfl,d,kvs7,_,0x1016,2,4,0,true,rfl,g7.ents,bx (by decide) (by decide) (bx (by decide) (by decide) (bx (by decide) (by decide) (bx (by decide) (by decide) (bx (by decide) (by decide) (bx (by decide) (by decide) ko))))),by decide,by decide,by simp at l7;omega,fun H8 kvs8 g=>?_⟩
 have g8:gL t H1 d [] [] H8 kvs8 [oE 0x1000 0 false 4 0,oE 0x1001 0 false 1 0,oE 0x1005 0 true 4 0x80,oE 0x1014 0 true 4 (0x80+n),oE 0x1016 0 false 1 2,oE 0x1016 1 true 4 0,oE 0x1016 2 true 4 0]:=g7.tr g
 have l8:=g8.len
 refine ⟨_,rfl,d,kvs8,_,0x1017,0,2,0,true,rfl,g8.ents,bx (by decide) (by decide) (bx (by decide) (by decide) (bx (by decide) (by decide) (bx (by decide) (by decide) (bx (by decide) (by decide) (bx (by decide) (by decide) (bx (by decide) (by decide) ko)))))),by decide,by decide,by simp at l8;omega,fun H9 kvs9 g=>?_⟩
 have g9:gL t H1 d [] [] H9 kvs9 (tL n):=g8.tr g
 refine ⟨4,rfl,by decide,by decide,?_⟩
 refine gq (n:=4) (fun j σ H'=>∃b kvs',σ = [some (.int (n:Int)),some (.ref d),b]∧gL t H1 d [] [] H' kvs' (tL n ++ mX n j)) ?_ ?_ ?_
 ·exact ⟨none,kvs9,rfl,by rw [show mX n 0 = [] from rfl,List.append_nil];exact g9⟩
 ·rintro j σ H' hj ⟨b,kvs',rfl,g⟩
  have gl:=g.len
  rw [List.length_append,wj] at gl
  have h8:(tL n).length=8:=rfl
  have e0:(0:Int)+ ((j:Nat):Int)= (j:Int):=by omega
  refine ⟨_,rfl,_,rfl,_,rfl,d,kvs',_,j,n,?_,g.ents,fun e he=>?_,hj,hn,by simp at gl;omega,fun H2' kvs2' g2'=>?_⟩
  ·show [V.ref d,.int (0+ ((j:Nat):Int)),.int (n:Int)] = _
   rw [e0]
  ·rcases List.mem_append.mp he with he | he
   ·have:=GW he
    exact ⟨this.1,by omega,by omega⟩
   ·obtain ⟨z,k,hk,z2⟩:=wY he
    exact ⟨z,by omega,by omega⟩
  have gl2:=g2'.len
  have h12:(md n j).length=12:=by simp [md,listE]
  simp only [List.length_append,wj,h8,h12] at gl2
  refine ⟨_,rfl,_,rfl,_,rfl,d,kvs2',_,j,n,?_,g2'.ents,fun e he=>?_,hj,hn,by simp at gl;omega,fun H3' kvs3' g3'=>?_⟩
  ·show [V.ref d,.int (0+ ((j:Nat):Int)),.int (n:Int)] = _
   rw [e0]
  ·rcases List.mem_append.mp he with he | he
   ·rcases List.mem_append.mp he with he | he
    ·have:=GW he
     exact ⟨this.1,by omega,by omega⟩
    ·obtain ⟨z,k,hk,z2⟩:=wY he
     exact ⟨z,by omega,by omega⟩
   ·have:=Bs he
    exact ⟨this.1,by omega,by omega⟩
  ·refine ⟨_,kvs3',rfl,?_⟩
   have gg:=(g.tr g2').tr g3'
   have e:tL n ++ mX n (j+1)=tL n ++ mX n j ++ md n j ++ wX n j:=by
    unfold mX
    rw [List.range_succ,List.flatMap_append]
    simp
   rw [e]
   exact gg
 ·rintro σ H' ⟨b,kvs',rfl,g⟩
  refine ⟨_,rfl,?_⟩
  have gl:=g.len
  rw [List.length_append,wj] at gl
  have h8:(tL n).length=8:=rfl
  subst hH1
  refine q d kvs' H' (fun b o hb=>g.keep b o (aE hb hd) (s1 _ _ hb)) hd (g.ents.perm (fun e he=>(tH n e).mp he) fun e he=>(tH n e).mpr he) (fun k b hk=>?_) (by simp at gl;omega) (g.nd List.nodup_nil)
  rcases g.fresh k b hk with ⟨k',h'⟩ | h'
  ·cases h'
  ·exact s1.free h'
theorem cK.entry{d:Addr}{aB:List (Key × V)}{s:Sa32.St}(En:cK t H d aB (s.table ++ s.own)){i u:Nat}{e:Sa32.Ent}(h:s.ent i u=some e):∃a dx,bS aB (Sum.inl (bD i u))=some (.ref a)∧H a=some (.ins t.bR dx (nu e)):=by
 obtain ⟨h1,h2,h3⟩:=bo h
 obtain ⟨a,h4,dx,h5⟩:=En.look e h1
 refine ⟨a,dx,?_,h5⟩
 rw [←h2,←h3]
 exact h4
theorem cK.Dr{d:Addr}{aB:List (Key × V)}{s:Sa32.St}(En:cK t H d aB (s.table ++ s.own))(w:WF s){i u:Nat}(hu:u < 256)(h:s.ent i u=none):bS aB (Sum.inl (bD i u))=none:=by
 refine En.SN (fun e he=>(w.bounds he).2.2.1) hu fun e he z=>?_
 rw [yG,List.find?_eq_none] at h
 exact h e he (sY.mpr z)
theorem I0(h:kC K t vs H Q E):vs.length=3:=by obtain ⟨d,aB,s,i,u,rfl,_⟩:=h;rfl
theorem KU(T:cU K t)(h:kC K t vs H Q E):Mp K t (Dn Q) (start D1 vs) H:=by
 obtain ⟨d,aB,s,i,u,rfl,En,w,q1,q2⟩:=h
 have none_of:¬(0≤u∧u≤255)→Q .bB H:=fun z=>by
  refine q2 ?_
  by_cases z1:u < 0
  ·exact .inr (.inl z1)
  ·refine .inr (.inr ?_)
   cases q:s.ent i.toNat u.toNat with
   | none=>rfl
   | some e=>
    obtain ⟨h1,_,h3⟩:=bo q
    have:=(w.bounds h1).2.2.1
    omega
 have rest:0≤u∧u≤255→(bu (Hy (ag 0) (az (cS K t) [] E0 (ae (ag 1) (ae (ag 2) aw))))) (Dn Q) [some (.ref d),some (.int i),some (.int u)] H:=fun z=>by
  refine ⟨_,rfl,d,rfl,.inl ⟨aB,.inl En.dict⟩,_,rfl,_,rfl,_,_,rfl,?_⟩
  by_cases hi:i < 0
  ·refine ⟨_,gE.at En.dict rfl,?_⟩
   have e:bS aB (Sum.inl (i * 256+u))=none:=by
    cases q:bS aB (Sum.inl (i * 256+u)) with
    | none=>rfl
    | some v=>
     obtain ⟨e,he,z3⟩:=En.only _ _ q
     have z3:i * 256+u=bD e.index e.sub:=Sum.inl.inj z3
     unfold bD at z3
     omega
   rw [e]
   exact q2 (.inl hi)
  ·have ek:i * 256+u=bD i.toNat u.toNat:=by unfold bD;omega
   refine ⟨_,gE.at En.dict rfl,?_⟩
   rw [ek]
   cases q:s.ent i.toNat u.toNat with
   | none=>
    rw [En.Dr w (by omega) q]
    exact q2 (.inr (.inr q))
   | some e=>
    obtain ⟨a,dx,h1,h2⟩:=En.entry q
    rw [h1]
    obtain ⟨_,h3,h4⟩:=bo q
    exact q1 a e (by omega) z.1 q ⟨dx,h2⟩ (by unfold gQ;rw [h3,h4];exact h1)
 refine ⟨_,rfl,_,_,rfl,rfl,_,rfl,?_⟩
 refine GZ (fun z=>?_) (fun z=>?_)
 ·refine ⟨_,_,rfl,rfl,_,rfl,?_⟩
  have z:=of_decide_eq_true z
  refine GZ (fun z2=>?_) (fun z2=>?_)
  ·exact none_of fun z3=>by rw [decide_eq_true z3.2] at z2;exact absurd z2 (by decide)
  ·refine rest ⟨z,Decidable.byContradiction fun z3=>z2 ?_⟩
   rw [decide_eq_false z3]
   rfl
 ·exact ⟨_,rfl,aS (none_of fun z3=>z (decide_eq_true z3.1))⟩
end
end Fn
namespace Fn
open PySem L2
theorem cZ{f:Str}{v w:V}{r:List (Str × V)}:bI f v ((f,w)::r)= (f,v)::r:=by
 show (if f=f then _ else _)=_
 rw [if_pos rfl]
theorem au{f g:Str}{v w:V}{r:List (Str × V)}(h:¬g=f):bI f v ((g,w)::r)= (g,w)::bI f v r:=by
 show (if g=f then _ else _)=_
 rw [if_neg h]
theorem NF.mF(x:NF):x.fs.lookup ("number":Str)=some (.int x.number):=by
 unfold NF.fs
 rw [bE]
theorem NF.RI(x:NF):x.fs.lookup ("table":Str)=some (.ref x.tb):=by
 unfold NF.fs
 rw [af (by decide +kernel),bE]
theorem NF.nZ(x:NF):x.fs.lookup ("now":Str)=some (.int x.now):=by
 unfold NF.fs
 rw [af (by decide +kernel),af (by decide +kernel),bE]
theorem NF.K3(x:NF):x.fs.lookup ("row":Str)=some (.ref x.rw):=by
 unfold NF.fs
 rw [af (by decide +kernel),af (by decide +kernel),af (by decide +kernel),bE]
theorem NF.ba(x:NF):x.fs.lookup ("entries":Str)=some (.ref x.en):=by
 unfold NF.fs
 rw [af (by decide +kernel),af (by decide +kernel),af (by decide +kernel),af (by decide +kernel),bE]
theorem NF.gy(x:NF):x.fs.lookup ("state":Str)=some (.int x.state):=by
 unfold NF.fs
 rw [af (by decide +kernel),af (by decide +kernel),af (by decide +kernel),af (by decide +kernel),af (by decide +kernel),bE]
theorem NF.tI(x:NF):x.fs.lookup ("hand":Str)=some (x.hd):=by
 unfold NF.fs
 rw [af (by decide +kernel),af (by decide +kernel),af (by decide +kernel),af (by decide +kernel),af (by decide +kernel),af (by decide +kernel),bE]
theorem NF.MJ(x:NF):x.fs.lookup ("kept":Str)=some (.ref x.kp):=by
 unfold NF.fs
 rw [af (by decide +kernel),af (by decide +kernel),af (by decide +kernel),af (by decide +kernel),af (by decide +kernel),af (by decide +kernel),af (by decide +kernel),bE]
theorem NF.uO(x:NF):x.fs.lookup ("changed":Str)=some (.ref x.ch):=by
 unfold NF.fs
 rw [af (by decide +kernel),af (by decide +kernel),af (by decide +kernel),af (by decide +kernel),af (by decide +kernel),af (by decide +kernel),af (by decide +kernel),af (by decide +kernel),bE]
theorem NF.rS(x:NF):x.fs.lookup ("heard_at":Str)=some (.ref x.ha):=by
 unfold NF.fs
 rw [af (by decide +kernel),af (by decide +kernel),af (by decide +kernel),af (by decide +kernel),af (by decide +kernel),af (by decide +kernel),af (by decide +kernel),af (by decide +kernel),af (by decide +kernel),bE]
theorem NF.xH(x:NF):x.fs.lookup ("heart_from":Str)=some (.int x.cT):=by
 unfold NF.fs
 rw [af (by decide +kernel),af (by decide +kernel),af (by decide +kernel),af (by decide +kernel),af (by decide +kernel),af (by decide +kernel),af (by decide +kernel),af (by decide +kernel),af (by decide +kernel),af (by decide +kernel),bE]
theorem NF.Nk(x:NF):x.fs.lookup ("marks":Str)=some (.int x.marks):=by
 unfold NF.fs
 rw [af (by decide +kernel),af (by decide +kernel),af (by decide +kernel),af (by decide +kernel),af (by decide +kernel),af (by decide +kernel),af (by decide +kernel),af (by decide +kernel),af (by decide +kernel),af (by decide +kernel),af (by decide +kernel),bE]
theorem NF.Jo(x:NF):x.fs.lookup ("work_from":Str)=some (.int x.dU):=by
 unfold NF.fs
 rw [af (by decide +kernel),af (by decide +kernel),af (by decide +kernel),af (by decide +kernel),af (by decide +kernel),af (by decide +kernel),af (by decide +kernel),af (by decide +kernel),af (by decide +kernel),af (by decide +kernel),af (by decide +kernel),af (by decide +kernel),bE]
theorem NF.zH(x:NF):x.fs.lookup ("sent_at":Str)=some (.ref x.sa):=by
 unfold NF.fs
 rw [af (by decide +kernel),af (by decide +kernel),af (by decide +kernel),af (by decide +kernel),af (by decide +kernel),af (by decide +kernel),af (by decide +kernel),af (by decide +kernel),af (by decide +kernel),af (by decide +kernel),af (by decide +kernel),af (by decide +kernel),af (by decide +kernel),bE]
theorem NF.SY(x:NF)(v:Int):bI "now" (.int v) x.fs= ({x with now:=v}:NF).fs:=by
 unfold NF.fs
 rw [au (by decide +kernel),au (by decide +kernel),cZ]
theorem NF.Cz(x:NF)(v:Int):bI "state" (.int v) x.fs= ({x with state:=v}:NF).fs:=by
 unfold NF.fs
 rw [au (by decide +kernel),au (by decide +kernel),au (by decide +kernel),au (by decide +kernel),au (by decide +kernel),cZ]
theorem NF.qz(x:NF)(v:V):bI "hand" v x.fs= ({x with hd:=v}:NF).fs:=by
 unfold NF.fs
 rw [au (by decide +kernel),au (by decide +kernel),au (by decide +kernel),au (by decide +kernel),au (by decide +kernel),au (by decide +kernel),cZ]
theorem NF.qB(x:NF)(v:Int):bI "heart_from" (.int v) x.fs= ({x with cT:=v}:NF).fs:=by
 unfold NF.fs
 rw [au (by decide +kernel),au (by decide +kernel),au (by decide +kernel),au (by decide +kernel),au (by decide +kernel),au (by decide +kernel),au (by decide +kernel),au (by decide +kernel),au (by decide +kernel),au (by decide +kernel),cZ]
theorem NF.G9(x:NF)(v:Int):bI "marks" (.int v) x.fs= ({x with marks:=v}:NF).fs:=by
 unfold NF.fs
 rw [au (by decide +kernel),au (by decide +kernel),au (by decide +kernel),au (by decide +kernel),au (by decide +kernel),au (by decide +kernel),au (by decide +kernel),au (by decide +kernel),au (by decide +kernel),au (by decide +kernel),au (by decide +kernel),cZ]
theorem NF.Jn(x:NF):x.fs.length < 1000:=by show 14 < 1000;decide
structure Df(x:NF)(p:Addr):Prop where
 Ak:x.rw ≠ p
 BR:x.en ≠ p
 LM:x.kp ≠ p
 MH:x.ch ≠ p
 LR:x.ha ≠ p
 PK:x.sa ≠ p
 BA:x.en ≠ x.rw
 JZ:x.kp ≠ x.rw
 JV:x.ch ≠ x.rw
 Kx:x.ha ≠ x.rw
 Na:x.sa ≠ x.rw
 NC:x.kp ≠ x.en
 NO:x.ch ≠ x.en
 NI:x.ha ≠ x.en
 Qw:x.sa ≠ x.en
 KD:x.ch ≠ x.kp
 K4:x.ha ≠ x.kp
 NB:x.sa ≠ x.kp
 J6:x.ha ≠ x.ch
 Ng:x.sa ≠ x.ch
 Nc:x.sa ≠ x.ha
 hf:∀b,b ∈ x.hf→b ≠ p∧b ≠ x.rw∧b ≠ x.en∧b ≠ x.kp∧b ≠ x.ch∧b ≠ x.ha∧b ≠ x.sa
 SQ:x.hf.Nodup
theorem Df.nodup{x:NF}{p:Addr}(d:Df x p):([p,x.rw,x.en,x.kp,x.ch,x.ha,x.sa] ++ x.hf).Nodup:=by
 have f:∀q,(∀b,b ∈ x.hf→b ≠ q)→q ∉ x.hf:=fun q h z=>h q z rfl
 simp only [List.cons_append,List.nil_append,List.nodup_cons,List.mem_cons,not_or]
 exact ⟨⟨Ne.symm d.Ak,Ne.symm d.BR,Ne.symm d.LM,Ne.symm d.MH,Ne.symm d.LR,Ne.symm d.PK,f _ fun b hb=>(d.hf b hb).1⟩,
  ⟨Ne.symm d.BA,Ne.symm d.JZ,Ne.symm d.JV,Ne.symm d.Kx,Ne.symm d.Na,f _ fun b hb=>(d.hf b hb).2.1⟩,
  ⟨Ne.symm d.NC,Ne.symm d.NO,Ne.symm d.NI,Ne.symm d.Qw,f _ fun b hb=>(d.hf b hb).2.2.1⟩,
  ⟨Ne.symm d.KD,Ne.symm d.K4,Ne.symm d.NB,f _ fun b hb=>(d.hf b hb).2.2.2.1⟩,
  ⟨Ne.symm d.J6,Ne.symm d.Ng,f _ fun b hb=>(d.hf b hb).2.2.2.2.1⟩,⟨Ne.symm d.Nc,f _ fun b hb=>(d.hf b hb).2.2.2.2.2.1⟩,f _ fun b hb=>(d.hf b hb).2.2.2.2.2.2,d.SQ⟩
theorem aN.df{t:bh}{H:Hp}{p:Addr}{s:Sa32.St}{x:NF}(N:aN t H p s x):Df x p:=by
 have nd:=N.nd
 simp only [List.cons_append,List.nil_append,List.nodup_cons,List.mem_cons,not_or] at nd
 obtain ⟨⟨a1,a2,a3,a4,a5,a6,a7⟩,⟨b1,b2,b3,b4,b5,b6⟩,⟨c1,c2,c3,c4,c5⟩,⟨d1,d2,d3,d4⟩,⟨e1,e2,e3⟩,⟨f1,f2⟩,g1,g2⟩:=nd
 exact ⟨Ne.symm a1,Ne.symm a2,Ne.symm a3,Ne.symm a4,Ne.symm a5,Ne.symm a6,Ne.symm b1,Ne.symm b2,Ne.symm b3,Ne.symm b4,Ne.symm b5,Ne.symm c1,Ne.symm c2,Ne.symm c3,Ne.symm c4,Ne.symm d1,Ne.symm d2,Ne.symm d3,Ne.symm e1,Ne.symm e2,Ne.symm f1,
  fun b hb=>⟨fun z=>a7 (z ▸ hb),fun z=>b6 (z ▸ hb),fun z=>c5 (z ▸ hb),fun z=>d4 (z ▸ hb),fun z=>e3 (z ▸ hb),fun z=>f2 (z ▸ hb),fun z=>g1 (z ▸ hb)⟩,g2⟩
section
variable{t:bh}{H:Hp}{p:Addr}{s:Sa32.St}{x:NF}
theorem kZ.alloc{h:Sa32.Hand}{v:V}{F:List Addr}(A:kZ t H h v F):∀b,b ∈ F→(∃dx fs,H b=some (.ins t.bL dx fs)∧fs.length=4)∨∃xs,H b=some (.lst xs):=by
 cases h with
 | none=>obtain ⟨_,rfl⟩:=A;exact fun b hb=>(nomatch hb)
 | down i u g bit=>
  obtain ⟨h,l,dx,_,rfl,e1,e2⟩:=A
  intro b hb
  simp only [List.mem_cons,List.not_mem_nil,or_false] at hb
  rcases hb with rfl | rfl
  ·exact .inl ⟨dx,_,e1,rfl⟩
  ·exact .inr ⟨_,e2⟩
 | up i u g bit=>
  obtain ⟨h,l,dx,_,rfl,e1,e2⟩:=A
  intro b hb
  simp only [List.mem_cons,List.not_mem_nil,or_false] at hb
  rcases hb with rfl | rfl
  ·exact .inl ⟨dx,_,e1,rfl⟩
  ·exact .inr ⟨_,e2⟩
theorem LO{C C' dx dx':Addr}{fs fs':List (Str × V)}(h:fs.length ≠ fs'.length):HO.ins C dx fs ≠ HO.ins C' dx' fs':=fun z=>by
 injection z with _ _ z
 exact h (by rw [z])
theorem aN.oK(N:aN t H p s x){k:Key}{a:Addr}(h:bS x.aB k=some (.ref a)):a ≠ p∧a ≠ x.rw∧a ≠ x.en∧a ≠ x.kp∧a ≠ x.ch∧a ≠ x.ha∧a ≠ x.sa∧a ∉ x.hf:=by
 obtain ⟨e,he,rfl,dx,h1⟩:=N.ents.zX h
 obtain ⟨dp,h2⟩:=N.ob
 obtain ⟨ts,h3,_⟩:=N.row
 obtain ⟨ks,h4,_⟩:=N.kept
 have l:∀{b:Addr}{xs:List V},H b=some (.lst xs)→a ≠ b:=fun hb=>uk h1 hb (by intro z;cases z)
 refine ⟨uk h1 h2 (LO (by show 5 ≠ 14;decide)),l h3,uk h1 N.ents.dict (by intro z;cases z),l h4,l N.chg,l N.heard,l N.sent,fun z=>?_⟩
 rcases N.hand.alloc a z with ⟨dx',fs,h5,h6⟩ | ⟨xs,h5⟩
 ·rw [h1] at h5
  exact absurd (Option.some.inj h5) (LO (by rw [h6];show 5 ≠ 4;decide))
 ·exact l h5 rfl
theorem aN.alloc(N:aN t H p s x){b:Addr}(h:x.F p b):H b ≠ none∧∀xs,H b ≠ some (.tup xs):=by
 obtain ⟨dp,h2⟩:=N.ob
 obtain ⟨ts,h3,_⟩:=N.row
 obtain ⟨ks,h4,_⟩:=N.kept
 have l:∀{o:HO},H b=some o→(∀xs,o ≠ .tup xs)→H b ≠ none∧∀xs,H b ≠ some (.tup xs):=fun hb ho=>⟨fun z=>(by rw [z] at hb;cases hb),fun xs z=>(by rw [z] at hb;exact ho xs (Option.some.inj hb).symm)⟩
 rcases h with h | ⟨k,h⟩ | h
 ·simp only [List.mem_cons,List.not_mem_nil,or_false] at h
  rcases h with rfl | rfl | rfl | rfl | rfl | rfl | rfl
  ·exact l h2 fun _ z=>(by cases z)
  ·exact l h3 fun _ z=>(by cases z)
  ·exact l N.ents.dict fun _ z=>(by cases z)
  ·exact l h4 fun _ z=>(by cases z)
  ·exact l N.chg fun _ z=>(by cases z)
  ·exact l N.heard fun _ z=>(by cases z)
  ·exact l N.sent fun _ z=>(by cases z)
 ·obtain ⟨e,he,rfl,dx,h1⟩:=N.ents.zX h
  exact l h1 fun _ z=>(by cases z)
 ·rcases N.hand.alloc b h with ⟨dx',fs,h5,h6⟩ | ⟨xs,h5⟩
  ·exact l h5 fun _ z=>(by cases z)
  ·exact l h5 fun _ z=>(by cases z)
theorem aN.mz(N:aN t H p s x){b:Addr}(h:H b=none):¬x.F p b:=fun z=>(N.alloc z).1 h
theorem NF.L6(x:NF)(p:Addr):x.F p p:= .inl (by simp)
theorem NF.ME(x:NF)(p:Addr):x.F p x.rw:= .inl (by simp)
theorem NF.OA(x:NF)(p:Addr):x.F p x.en:= .inl (by simp)
theorem NF.Q4(x:NF)(p:Addr):x.F p x.kp:= .inl (by simp)
theorem NF.Pu(x:NF)(p:Addr):x.F p x.ch:= .inl (by simp)
theorem NF.QK(x:NF)(p:Addr):x.F p x.ha:= .inl (by simp)
theorem NF.TU(x:NF)(p:Addr):x.F p x.sa:= .inl (by simp)
theorem NF.P9(x:NF)(p:Addr){k:Key}{a:Addr}(h:bS x.aB k=some (.ref a)):x.F p a:= .inr (.inl ⟨k,h⟩)
theorem NF.Sf(x:NF)(p:Addr){a:Addr}(h:a ∈ x.hf):x.F p a:= .inr (.inr h)
theorem ck{H:Hp}{q b:Addr}{o u:HO}(h:H b=some u)(hb:b ≠ q):upd H q o b=some u:=by
 rw [aL hb]
 exact h
theorem bX.one{F F':Addr→Prop}{q:Addr}{o:HO}(h:F q)(f:∀b,F' b→F b∨H b=none):bX H F (upd H q o) F':=
 ⟨fun b o' hb n=>ck hb fun z=>n (z ▸ h),f,fun b hb=>by
  by_cases z:b=q
  ·subst z;rw [ao] at hb;cases hb
  ·rwa [aL z] at hb⟩
theorem bX.self{F:Addr→Prop}{q:Addr}{o:HO}(h:F q):bX H F (upd H q o) F:=bX.one h fun _ z=> .inl z
theorem iF{F F':Addr→Prop}{q:Addr}{o:HO}{ts:List Addr}{l:List (Nat × List Nat)}(r:Paired (r9 H F) ts l)(hq:F q)(nt:∀xs,H q ≠ some (.tup xs))(f:∀b,F' b→F b∨H b=none):Paired (r9 (upd H q o) F') ts l:=
 Paired.imp' (fun a g ⟨d,h1,h2,h3⟩=>⟨d,ck h1 fun z=>nt _ (z ▸ h1),ck h2 fun z=>h3 (z ▸ hq),fun z=>(f d z).elim h3 fun z=>(by rw [h2] at z;cases z)⟩) r
theorem mL{F F':Addr→Prop}{q:Addr}{o:HO}{ks:List V}{l:List (Option (List Nat))}(r:Paired (wU H F) ks l)(hq:F q)(f:∀b,F' b→F b∨H b=none):Paired (wU (upd H q o) F') ks l:=
 Paired.imp' (fun v g h=>by
  cases g with
  | none=>exact h
  | some b=>
   obtain ⟨a,h1,h2,h3⟩:=h
   exact ⟨a,h1,ck h2 fun z=>h3 (z ▸ hq),fun z=>(f a z).elim h3 fun z=>(by rw [h2] at z;cases z)⟩) r
theorem mr{q d:Addr}{o:HO}{aB:List (Key × V)}{l:List Sa32.Ent}(E:cK t H d aB l)(h1:q ≠ d)(h2:∀k,bS aB k ≠ some (.ref q)):cK t (upd H q o) d aB l:=
 E.mono fun b u hb e=>by
  rw [aL]
  ·exact e
  ·rintro rfl
   rcases hb with hb | ⟨k,hb⟩
   ·exact h1 hb
   ·exact h2 k hb
theorem mC{q:Addr}{o:HO}{hd:Sa32.Hand}{v:V}{F:List Addr}(A:kZ t H hd v F)(h:q ∉ F):kZ t (upd H q o) hd v F:=
 A.mono fun b u hb e=>ck e fun z=>h (z ▸ hb)
theorem aN.Vs(N:aN t H p s x)(k:Key):bS x.aB k ≠ some (.ref p):=fun z=>(N.oK z).1 rfl
theorem aN.up(N:aN t H p s x){q:Addr}{o:HO}(hq:x.F p q){b:Addr}{u:HO}(h:H b=some u)(hb:¬x.F p b):upd H q o b=some u:=by
 exact ck h fun z=>hb (z ▸ hq)
theorem aN.Ht(N:aN t H p s x){x':NF}{s':Sa32.St}{dx:Addr}(hF:∀b,x'.F p b↔x.F p b)
  (e1:x'.rw=x.rw) (e2:x'.en=x.en) (e3:x'.kp=x.kp) (e4:x'.ch=x.ch) (e5:x'.ha=x.ha) (e6:x'.sa=x.sa) (e7:x'.aB=x.aB) (e8:x'.hf=x.hf) (e9:x'.tb=x.tb)
  (r1:s'.table=s.table) (r2:s'.own=s.own) (r3:s'.out=s.out) (r4:s'.kept=s.kept) (r5:s'.heard=s.heard) (r6:s'.going.map (fun g=>V.bl g.changed)=s.going.map fun g=>V.bl g.changed) (r7:s'.going.map dH=s.going.map dH) (r8:kZ t H s'.hand x'.hd x.hf)
  (f1:x'.number= (s'.node:Int)) (f2:x'.now= (s'.now:Int)) (f3:x'.state= (s'.state:Int)) (f4:x'.cT= (s'.beat:Int)) (f5:∀g,g ∈ s'.going→(g.marks:Int)=x'.marks) (f6:∀g,g ∈ s'.going→g.sent=false→s'.state=5→(g.at_:Int)=x'.dU):
  aN t (upd H p (.ins t.aC dx x'.fs)) p s' x'∧bX H (x.F p) (upd H p (.ins t.aC dx x'.fs)) (x'.F p):=by
 have d:=N.df
 obtain ⟨ts,h3,h3'⟩:=N.row
 obtain ⟨ks,h4,h4'⟩:=N.kept
 obtain ⟨bs,h5,h5',h5''⟩:=N.table
 have fo:∀b,x'.F p b→x.F p b∨H b=none:=fun b z=> .inl ((hF b).mp z)
 have pa:=(N.alloc (x.L6 p)).2
 refine ⟨⟨⟨dx,ao⟩,f1,f2,f3,f4,⟨ts,?_,?_⟩,?_,⟨ks,?_,?_⟩,?_,?_,?_,f5,f6,?_,⟨bs,?_,?_,?_⟩,?_⟩,bX.one (x.L6 p) fo⟩
 ·rw [e1];exact ck h3 d.Ak
 ·rw [r3];exact iF h3' (x.L6 p) pa fo
 ·rw [e2,e7,r1,r2];exact mr N.ents (Ne.symm d.BR) N.Vs
 ·rw [e3];exact ck h4 d.LM
 ·rw [r4];exact mL h4' (x.L6 p) fo
 ·rw [e4,r6];exact ck N.chg d.MH
 ·rw [e5,r5];exact ck N.heard d.LR
 ·rw [e6,r7];exact ck N.sent d.PK
 ·rw [e8];exact r8.mono fun b u hb e=>ck e (d.hf b hb).1
 ·rw [e9];exact N.up (x.L6 p) h5 h5'
 ·rw [e9];exact fun z=>h5' ((hF _).mp z)
 ·rw [r1];exact h5''
 ·rw [e1,e2,e3,e4,e5,e6,e8];exact N.nd
theorem aN.QC(N:aN t H p s x){s':Sa32.St}(g:List Sa32.Going)(hs:s'= {s with going:=g})(r7:g.map dH=s.going.map dH)(f5:∀y,y ∈ g→(y.marks:Int)=x.marks)(f6:∀y,y ∈ g→y.sent=false→s.state=5→(y.at_:Int)=x.dU):
  aN t (upd H x.ch (.lst (g.map fun y=>V.bl y.changed))) p s' x∧bX H (x.F p) (upd H x.ch (.lst (g.map fun y=>V.bl y.changed))) (x.F p):=by
 subst hs
 have d:=N.df
 obtain ⟨dp,h2⟩:=N.ob
 obtain ⟨ts,h3,h3'⟩:=N.row
 obtain ⟨ks,h4,h4'⟩:=N.kept
 obtain ⟨bs,h5,h5',h5''⟩:=N.table
 have fo:∀b,x.F p b→x.F p b∨H b=none:=fun b z=> .inl z
 have hq:=x.Pu p
 refine ⟨⟨⟨dp,ck h2 (Ne.symm d.MH)⟩,N.number,N.now,N.state,N.beat,⟨ts,ck h3 (Ne.symm d.JV),iF h3' hq (N.alloc hq).2 fo⟩,mr N.ents d.NO fun k z=>(N.oK z).2.2.2.2.1 rfl,⟨ks,ck h4 (Ne.symm d.KD),mL h4' hq fo⟩,ao,ck N.heard d.J6,?_,f5,f6,mC N.hand fun z=>(d.hf _ z).2.2.2.2.1 rfl,⟨bs,N.up hq h5 h5',h5',h5''⟩,N.nd⟩,bX.self hq⟩
 show upd H x.ch _ x.sa=some (.lst (g.map dH))
 rw [r7]
 exact ck N.sent d.Ng
theorem aN.Tg(N:aN t H p s x){s':Sa32.St}(g:List Sa32.Going)(hs:s'= {s with going:=g})(r6:g.map (fun y=>V.bl y.changed)=s.going.map fun y=>V.bl y.changed)(f5:∀y,y ∈ g→(y.marks:Int)=x.marks)(f6:∀y,y ∈ g→y.sent=false→s.state=5→(y.at_:Int)=x.dU):
  aN t (upd H x.sa (.lst (g.map dH))) p s' x∧bX H (x.F p) (upd H x.sa (.lst (g.map dH))) (x.F p):=by
 subst hs
 have d:=N.df
 obtain ⟨dp,h2⟩:=N.ob
 obtain ⟨ts,h3,h3'⟩:=N.row
 obtain ⟨ks,h4,h4'⟩:=N.kept
 obtain ⟨bs,h5,h5',h5''⟩:=N.table
 have fo:∀b,x.F p b→x.F p b∨H b=none:=fun b z=> .inl z
 have hq:=x.TU p
 refine ⟨⟨⟨dp,ck h2 (Ne.symm d.PK)⟩,N.number,N.now,N.state,N.beat,⟨ts,ck h3 (Ne.symm d.Na),iF h3' hq (N.alloc hq).2 fo⟩,mr N.ents d.Qw fun k z=>(N.oK z).2.2.2.2.2.2.1 rfl,⟨ks,ck h4 (Ne.symm d.NB),mL h4' hq fo⟩,?_,ck N.heard (Ne.symm d.Nc),ao,f5,f6,mC N.hand fun z=>(d.hf _ z).2.2.2.2.2.2 rfl,⟨bs,N.up hq h5 h5',h5',h5''⟩,N.nd⟩,bX.self hq⟩
 show upd H x.sa _ x.ch=some (.lst (g.map fun y=>V.bl y.changed))
 rw [r6]
 exact ck N.chg (Ne.symm d.Ng)
theorem aN.LH(N:aN t H p s x)(g:List (Option Nat)):
  aN t (upd H x.ha (.lst (g.map LL))) p {s with heard:=g} x∧bX H (x.F p) (upd H x.ha (.lst (g.map LL))) (x.F p):=by
 have d:=N.df
 obtain ⟨dp,h2⟩:=N.ob
 obtain ⟨ts,h3,h3'⟩:=N.row
 obtain ⟨ks,h4,h4'⟩:=N.kept
 obtain ⟨bs,h5,h5',h5''⟩:=N.table
 have fo:∀b,x.F p b→x.F p b∨H b=none:=fun b z=> .inl z
 have hq:=x.QK p
 exact ⟨⟨⟨dp,ck h2 (Ne.symm d.LR)⟩,N.number,N.now,N.state,N.beat,⟨ts,ck h3 (Ne.symm d.Kx),iF h3' hq (N.alloc hq).2 fo⟩,mr N.ents d.NI fun k z=>(N.oK z).2.2.2.2.2.1 rfl,⟨ks,ck h4 (Ne.symm d.K4),mL h4' hq fo⟩,ck N.chg (Ne.symm d.J6),ao,ck N.sent d.Nc,N.marks,N.work,mC N.hand fun z=>(d.hf _ z).2.2.2.2.2.1 rfl,⟨bs,N.up hq h5 h5',h5',h5''⟩,N.nd⟩,bX.self hq⟩
theorem aN.PF(N:aN t H p s x)(ks:List V)(g:List (Option (List Nat)))(r:Paired (wU H (x.F p)) ks g):
  aN t (upd H x.kp (.lst ks)) p {s with kept:=g} x∧bX H (x.F p) (upd H x.kp (.lst ks)) (x.F p):=by
 have d:=N.df
 obtain ⟨dp,h2⟩:=N.ob
 obtain ⟨ts,h3,h3'⟩:=N.row
 obtain ⟨bs,h5,h5',h5''⟩:=N.table
 have fo:∀b,x.F p b→x.F p b∨H b=none:=fun b z=> .inl z
 have hq:=x.Q4 p
 exact ⟨⟨⟨dp,ck h2 (Ne.symm d.LM)⟩,N.number,N.now,N.state,N.beat,⟨ts,ck h3 (Ne.symm d.JZ),iF h3' hq (N.alloc hq).2 fo⟩,mr N.ents d.NC fun k z=>(N.oK z).2.2.2.1 rfl,⟨ks,ao,mL r hq fo⟩,ck N.chg d.KD,ck N.heard d.K4,ck N.sent d.NB,N.marks,N.work,mC N.hand fun z=>(d.hf _ z).2.2.2.1 rfl,⟨bs,N.up hq h5 h5',h5',h5''⟩,N.nd⟩,bX.self hq⟩
theorem aN.Qv(N:aN t H p s x)(ts:List Addr)(g:List (Nat × List Nat))(r:Paired (r9 H (x.F p)) ts g):
  aN t (upd H x.rw (.lst (ts.map V.ref))) p {s with out:=g} x∧bX H (x.F p) (upd H x.rw (.lst (ts.map V.ref))) (x.F p):=by
 have d:=N.df
 obtain ⟨dp,h2⟩:=N.ob
 obtain ⟨ks,h4,h4'⟩:=N.kept
 obtain ⟨bs,h5,h5',h5''⟩:=N.table
 have fo:∀b,x.F p b→x.F p b∨H b=none:=fun b z=> .inl z
 have hq:=x.ME p
 exact ⟨⟨⟨dp,ck h2 (Ne.symm d.Ak)⟩,N.number,N.now,N.state,N.beat,⟨ts,ao,iF r hq (N.alloc hq).2 fo⟩,mr N.ents (Ne.symm d.BA) fun k z=>(N.oK z).2.1 rfl,⟨ks,ck h4 d.JZ,mL h4' hq fo⟩,ck N.chg d.JV,ck N.heard d.Kx,ck N.sent d.Na,N.marks,N.work,mC N.hand fun z=>(d.hf _ z).2.1 rfl,⟨bs,N.up hq h5 h5',h5',h5''⟩,N.nd⟩,bX.self hq⟩
theorem MB{l:List Sa32.Ent}{i u:Nat}{b:List Nat}(h:∀e,e ∈ l→e.index=i∧e.sub=u→e.val.length=b.length):(Sa32.put l i u b).map cM=l.map cM:=by
 unfold Sa32.put
 rw [List.map_map]
 refine List.map_congr_left fun e he=>?_
 show cM (if e.index=i∧e.sub=u then {e with val:=b} else e)=cM e
 by_cases z:e.index=i∧e.sub=u
 ·rw [if_pos z]
  show ({e with val:=Sa32.zeros b.length}:Sa32.Ent)= {e with val:=Sa32.zeros e.val.length}
  rw [h e he z]
 ·rw [if_neg z]
theorem wy(e:Sa32.Ent)(b:List Nat)(h:b.length=e.val.length):bI "value" (.int ((Sa32.num b:Nat):Int)) (nu e)=nu {e with val:=b}:=by
 unfold nu
 rw [au (by decide +kernel),au (by decide +kernel),au (by decide +kernel),au (by decide +kernel),cZ]
 show _= ([("size",.int (b.length:Int)),_,_,_,_]:List (Str × V))
 rw [h]
theorem aN.Hs(N:aN t H p s x)(w:WF s){i u:Nat}{e:Sa32.Ent}{b:List Nat}{a dx:Addr}(he:s.ent i u=some e)(ha:bS x.aB (Sum.inl (bD i u))=some (.ref a))(hb:b.length=e.val.length):
  aN t (upd H a (.ins t.bR dx (nu {e with val:=b}))) p {s with table:=Sa32.put s.table i u b,own:=Sa32.put s.own i u b} x∧bX H (x.F p) (upd H a (.ins t.bR dx (nu {e with val:=b}))) (x.F p):=by
 have d:=N.df
 obtain ⟨n1,n2,n3,n4,n5,n6,n7,n8⟩:=N.oK ha
 obtain ⟨dp,h2⟩:=N.ob
 obtain ⟨ts,h3,h3'⟩:=N.row
 obtain ⟨ks,h4,h4'⟩:=N.kept
 obtain ⟨bs,h5,h5',h5''⟩:=N.table
 have fo:∀b,x.F p b→x.F p b∨H b=none:=fun b z=> .inl z
 have hq:=x.P9 p ha
 have sz:=w.mS he
 obtain ⟨he1,he2,he3⟩:=bo he
 have hE:cK t (upd H a (.ins t.bR dx (nu {e with val:=b}))) x.en x.aB (Sa32.put s.table i u b ++ Sa32.put s.own i u b):=by
  rw [←qR]
  refine ⟨ck N.ents.dict (Ne.symm n3),fun e' he'=>?_,fun k v hv=>?_,N.ents.inj,N.ents.len⟩
  ·obtain ⟨e0,he0,rfl⟩:=List.mem_map.mp he'
   obtain ⟨a0,k1,dx0,k2⟩:=N.ents.look e0 he0
   by_cases z:e0.index=i∧e0.sub=u
   ·have e00:e0=e:=w.uniq he0 he1 (by rw [z.1,he2]) (by rw [z.2,he3])
    subst e00
    rw [if_pos z]
    refine ⟨a0,k1,dx,?_⟩
    have:a0=a:=by
     have ke:gQ e0=Sum.inl (bD i u):=by unfold gQ;rw [z.1,z.2]
     rw [ke,ha] at k1
     cases k1
     rfl
    subst this
    exact ao
   ·rw [if_neg z]
    refine ⟨a0,k1,dx0,ck k2 fun q=>z ?_⟩
    subst q
    have:=N.ents.inj _ _ _ k1 ha
    have bd:=w.bounds he0
    have bd2:=w.bounds he1
    have:=uz bd.2.2.1 (he3 ▸ bd2.2.2.1) (Sum.inl.inj this)
    exact this
  ·obtain ⟨e0,he0,k1⟩:=N.ents.only k v hv
   refine ⟨if e0.index=i∧e0.sub=u then {e0 with val:=b} else e0,List.mem_map.mpr ⟨e0,he0,rfl⟩,?_⟩
   rw [k1]
   split <;> rfl
 refine ⟨⟨⟨dp,ck h2 (Ne.symm n1)⟩,N.number,N.now,N.state,N.beat,⟨ts,ck h3 (Ne.symm n2),iF h3' hq (N.alloc hq).2 fo⟩,hE,⟨ks,ck h4 (Ne.symm n4),mL h4' hq fo⟩,ck N.chg (Ne.symm n5),ck N.heard (Ne.symm n6),ck N.sent (Ne.symm n7),N.marks,N.work,mC N.hand n8,⟨bs,N.up hq h5 h5',h5',?_⟩,N.nd⟩,bX.self hq⟩
 obtain ⟨t1,t2,t3,t4⟩:=h5''
 refine ⟨t1,t2,t3,?_⟩
 rw [t4]
 show _=some ((Sa32.put s.table i u b).map cM)
 rw [MB fun e' he' z=>by rw [sz e' (List.mem_append_left _ he') z,hb]]
end
end Fn
namespace Fn
open PySem L2
section
variable{t:bh}{H:Hp}{p:Addr}{s:Sa32.St}{x:NF}
theorem nS{F F':Addr→Prop}{H':Hp}{ts:List Addr}{l:List (Nat × List Nat)}(r:Paired (r9 H F) ts l)(k:∀b o,H b=some o→(¬F b∨∃xs,o= .tup xs)→H' b=some o)(f:∀b,F' b→F b∨H b=none):Paired (r9 H' F') ts l:=
 Paired.imp' (fun a g ⟨d,h1,h2,h3⟩=>⟨d,k _ _ h1 (.inr ⟨_,rfl⟩),k _ _ h2 (.inl h3),fun z=>(f d z).elim h3 fun z=>(by rw [h2] at z;cases z)⟩) r
theorem Gh{F F':Addr→Prop}{H':Hp}{ks:List V}{l:List (Option (List Nat))}(r:Paired (wU H F) ks l)(k:∀b o,H b=some o→¬F b→H' b=some o)(f:∀b,F' b→F b∨H b=none):Paired (wU H' F') ks l:=
 Paired.imp' (fun v g h=>by
  cases g with
  | none=>exact h
  | some b=>
   obtain ⟨a,h1,h2,h3⟩:=h
   exact ⟨a,h1,k _ _ h2 h3,fun z=>(f a z).elim h3 fun z=>(by rw [h2] at z;cases z)⟩) r
theorem aN.Ko(N:aN t H p s x){H':Hp}{q:Addr}{v:V}{hf':List Addr}{hd':Sa32.Hand}(k:∀b o,H b=some o→b ≠ q→H' b=some o)(hq:q=p∨q ∈ x.hf)(hn:∀b,b ∈ hf'→b ∈ x.hf∨H b=none)(nd:hf'.Nodup)
  (ob:∃dx,H' p=some (.ins t.aC dx ({x with hd:=v,hf:=hf'}:NF).fs)) (hqq:H' q ≠ none) (A:kZ t H' hd' v hf'):aN t H' p {s with hand:=hd'} {x with hd:=v,hf:=hf'}∧bX H (x.F p) H' (({x with hd:=v,hf:=hf'}:NF).F p):=by
 have d:=N.df
 obtain ⟨ts,h3,h3'⟩:=N.row
 obtain ⟨ks,h4,h4'⟩:=N.kept
 obtain ⟨bs,h5,h5',h5''⟩:=N.table
 have hqF:x.F p q:=by
  rcases hq with rfl | hq
  ·exact x.L6 q
  ·exact x.Sf p hq
 have fo:∀b,({x with hd:=v,hf:=hf'}:NF).F p b→x.F p b∨H b=none:=fun b z=>by
  rcases z with z | z | z
  ·exact .inl (.inl z)
  ·exact .inl (.inr (.inl z))
  ·rcases hn b z with z | z
   ·exact .inl (.inr (.inr z))
   ·exact .inr z
 have nF:∀b o,H b=some o→(¬x.F p b∨∃xs,o= .tup xs)→H' b=some o:=fun b o hb h=>k b o hb fun z=>by
  subst z
  rcases h with h | ⟨xs,rfl⟩
  ·exact h hqF
  ·exact (N.alloc hqF).2 _ hb
 have ne:∀b,b ≠ p→(∀c,c ∈ x.hf→c ≠ b)→b ≠ q:=fun b h1 h2 z=>by
  rcases hq with rfl | hq
  ·exact h1 z
  ·exact h2 q hq z.symm
 have df':Df ({x with hd:=v,hf:=hf'}:NF) p:=⟨d.Ak,d.BR,d.LM,d.MH,d.LR,d.PK,d.BA,d.JZ,d.JV,d.Kx,d.Na,d.NC,d.NO,d.NI,d.Qw,d.KD,d.K4,d.NB,d.J6,d.Ng,d.Nc,fun b hb=>by
  rcases hn b hb with z | z
  ·exact d.hf b z
  ·have f:∀c,x.F p c→b ≠ c:=fun c hc w=>(N.alloc hc).1 (w ▸ z)
   exact ⟨f _ (x.L6 p),f _ (x.ME p),f _ (x.OA p),f _ (x.Q4 p),f _ (x.Pu p),f _ (x.QK p),f _ (x.TU p)⟩,nd⟩
 refine ⟨⟨ob,N.number,N.now,N.state,N.beat,⟨ts,k _ _ h3 (ne _ d.Ak fun c hc=>(d.hf c hc).2.1),nS h3' nF fo⟩,N.ents.mono fun b u hb e=>?_,⟨ks,k _ _ h4 (ne _ d.LM fun c hc=>(d.hf c hc).2.2.2.1),Gh h4' (fun b o hb h=>nF b o hb (.inl h)) fo⟩,
  k _ _ N.chg (ne _ d.MH fun c hc=>(d.hf c hc).2.2.2.2.1),k _ _ N.heard (ne _ d.LR fun c hc=>(d.hf c hc).2.2.2.2.2.1),k _ _ N.sent (ne _ d.PK fun c hc=>(d.hf c hc).2.2.2.2.2.2),N.marks,N.work,A,⟨bs,nF _ _ h5 (.inl h5'),fun z=>(fo _ z).elim h5' fun z=>(by rw [h5] at z;cases z),h5''⟩,df'.nodup⟩,
  ⟨fun b o hb h=>nF b o hb (.inl h),fo,fun b hb=>?_⟩⟩
 ·refine k b u e ?_
  rcases hb with rfl | ⟨kk,hb⟩
  ·exact ne _ d.BR fun c hc=>(d.hf c hc).2.2.1
  ·have:=N.oK hb
   exact ne _ this.1 fun c hc z=>this.2.2.2.2.2.2.2 (z ▸ hc)
 ·cases z:H b with
  | none=>rfl
  | some o=>
   by_cases w:b=q
   ·rw [w] at hb
    exact absurd hb hqq
   ·rw [k b o z w] at hb
    cases hb
theorem aN.Ek(N:aN t H p s x){H1:Hp}{dx:Addr}{v:V}{hf':List Addr}{hd':Sa32.Hand}(sm:aP H H1)(hn:∀b,b ∈ hf'→H b=none)(nd:hf'.Nodup)(A:kZ t H1 hd' v hf'):
  aN t (upd H1 p (.ins t.aC dx ({x with hd:=v,hf:=hf'}:NF).fs)) p {s with hand:=hd'} {x with hd:=v,hf:=hf'}∧bX H (x.F p) (upd H1 p (.ins t.aC dx ({x with hd:=v,hf:=hf'}:NF).fs)) (({x with hd:=v,hf:=hf'}:NF).F p):=by
 obtain ⟨dp,h2⟩:=N.ob
 refine N.Ko (fun b o hb h=>ck (sm _ _ hb) h) (.inl rfl) (fun b hb=> .inr (hn b hb)) nd ⟨dx,ao⟩ (by rw [ao];intro z;cases z) (mC A fun z=>?_)
 rw [hn p z] at h2
 cases h2
theorem aN.eR(N:aN t H p s x){dx:Addr}:
  aN t (upd H p (.ins t.aC dx ({x with hd:= .bB,hf:=[]}:NF).fs)) p {s with hand:= .none} {x with hd:= .bB,hf:=[]}∧bX H (x.F p) (upd H p (.ins t.aC dx ({x with hd:= .bB,hf:=[]}:NF).fs)) (({x with hd:= .bB,hf:=[]}:NF).F p):=
 N.Ek (aP.refl H) (fun b hb=>(nomatch hb)) List.nodup_nil ⟨rfl,rfl⟩
theorem aN.Cj(N:aN t H p s x){H1:Hp}{q:Addr}{o:HO}{hf':List Addr}{hd':Sa32.Hand}(sm:aP H H1)(hq:q ∈ x.hf)(hn:∀b,b ∈ hf'→b ∈ x.hf∨H b=none)(nd:hf'.Nodup)(A:kZ t (upd H1 q o) hd' x.hd hf'):
  aN t (upd H1 q o) p {s with hand:=hd'} {x with hf:=hf'}∧bX H (x.F p) (upd H1 q o) (({x with hf:=hf'}:NF).F p):=by
 obtain ⟨dp,h2⟩:=N.ob
 exact N.Ko (v:=x.hd) (fun b o hb h=>ck (sm _ _ hb) h) (.inr hq) hn nd ⟨dp,ck (sm _ _ h2) (Ne.symm (N.df.hf q hq).1)⟩ (by rw [ao];intro z;cases z) A
theorem aN.Nr(N:aN t H p s x){dx:Addr}{v:Int}(n:Nat)(hv:v= (n:Int)):aN t (upd H p (.ins t.aC dx ({x with now:=v}:NF).fs)) p {s with now:=n} {x with now:=v}∧bX H (x.F p) (upd H p (.ins t.aC dx ({x with now:=v}:NF).fs)) (({x with now:=v}:NF).F p):=
 N.Ht (fun _=>Iff.rfl) rfl rfl rfl rfl rfl rfl rfl rfl rfl rfl rfl rfl rfl rfl rfl rfl N.hand N.number hv N.state N.beat N.marks N.work
theorem aN.KG(N:aN t H p s x){dx:Addr}{v:Int}(n:Nat)(hv:v= (n:Int)):aN t (upd H p (.ins t.aC dx ({x with cT:=v}:NF).fs)) p {s with beat:=n} {x with cT:=v}∧bX H (x.F p) (upd H p (.ins t.aC dx ({x with cT:=v}:NF).fs)) (({x with cT:=v}:NF).F p):=
 N.Ht (fun _=>Iff.rfl) rfl rfl rfl rfl rfl rfl rfl rfl rfl rfl rfl rfl rfl rfl rfl rfl N.hand N.number N.now N.state hv N.marks N.work
theorem aN.GB(N:aN t H p s x){dx:Addr}{v:Int}(n:Nat)(hv:v= (n:Int))(hn:n ≠ 5):aN t (upd H p (.ins t.aC dx ({x with state:=v}:NF).fs)) p {s with state:=n} {x with state:=v}∧bX H (x.F p) (upd H p (.ins t.aC dx ({x with state:=v}:NF).fs)) (({x with state:=v}:NF).F p):=
 N.Ht (fun _=>Iff.rfl) rfl rfl rfl rfl rfl rfl rfl rfl rfl rfl rfl rfl rfl rfl rfl rfl N.hand N.number N.now hv N.beat N.marks fun g _ _ z=>absurd z hn
theorem aN.OZ(N:aN t H p s x){dx:Addr}{v:Int}(n:Nat)(hv:v= (n:Int)):aN t (upd H p (.ins t.aC dx ({x with marks:=v}:NF).fs)) p {s with going:=s.going.map fun g=>{g with marks:=n}} {x with marks:=v}∧bX H (x.F p) (upd H p (.ins t.aC dx ({x with marks:=v}:NF).fs)) (({x with marks:=v}:NF).F p):=
 N.Ht (fun _=>Iff.rfl) rfl rfl rfl rfl rfl rfl rfl rfl rfl rfl rfl rfl rfl rfl (by rw [List.map_map];rfl) (by rw [List.map_map];rfl) N.hand N.number N.now N.state N.beat
  (fun g hg=>by obtain ⟨g0,_,rfl⟩:=List.mem_map.mp hg;exact hv.symm) fun g hg h1 h2=>by obtain ⟨g0,h0,rfl⟩:=List.mem_map.mp hg;exact N.work g0 h0 h1 h2
theorem NF.uU(x:NF):x.fs.lookup ("send":Str)=none:=by
 unfold NF.fs
 rw [af (by decide +kernel),af (by decide +kernel),af (by decide +kernel),af (by decide +kernel),af (by decide +kernel),af (by decide +kernel),af (by decide +kernel),af (by decide +kernel),af (by decide +kernel),af (by decide +kernel),af (by decide +kernel),af (by decide +kernel),af (by decide +kernel),af (by decide +kernel)]
 rfl
theorem NF.vG(x:NF):x.fs.lookup ("tell_fault":Str)=none:=by
 unfold NF.fs
 rw [af (by decide +kernel),af (by decide +kernel),af (by decide +kernel),af (by decide +kernel),af (by decide +kernel),af (by decide +kernel),af (by decide +kernel),af (by decide +kernel),af (by decide +kernel),af (by decide +kernel),af (by decide +kernel),af (by decide +kernel),af (by decide +kernel),af (by decide +kernel)]
 rfl
theorem NF.ph(x:NF):x.fs.lookup ("send_fault":Str)=none:=by
 unfold NF.fs
 rw [af (by decide +kernel),af (by decide +kernel),af (by decide +kernel),af (by decide +kernel),af (by decide +kernel),af (by decide +kernel),af (by decide +kernel),af (by decide +kernel),af (by decide +kernel),af (by decide +kernel),af (by decide +kernel),af (by decide +kernel),af (by decide +kernel),af (by decide +kernel)]
 rfl
theorem NF.BN(x:NF):x.fs.lookup ("clear_faults":Str)=none:=by
 unfold NF.fs
 rw [af (by decide +kernel),af (by decide +kernel),af (by decide +kernel),af (by decide +kernel),af (by decide +kernel),af (by decide +kernel),af (by decide +kernel),af (by decide +kernel),af (by decide +kernel),af (by decide +kernel),af (by decide +kernel),af (by decide +kernel),af (by decide +kernel),af (by decide +kernel)]
 rfl
theorem NF.vM(x:NF):x.fs.lookup ("count_work":Str)=none:=by
 unfold NF.fs
 rw [af (by decide +kernel),af (by decide +kernel),af (by decide +kernel),af (by decide +kernel),af (by decide +kernel),af (by decide +kernel),af (by decide +kernel),af (by decide +kernel),af (by decide +kernel),af (by decide +kernel),af (by decide +kernel),af (by decide +kernel),af (by decide +kernel),af (by decide +kernel)]
 rfl
theorem NF.pT(x:NF):x.fs.lookup ("begin_besides":Str)=none:=by
 unfold NF.fs
 rw [af (by decide +kernel),af (by decide +kernel),af (by decide +kernel),af (by decide +kernel),af (by decide +kernel),af (by decide +kernel),af (by decide +kernel),af (by decide +kernel),af (by decide +kernel),af (by decide +kernel),af (by decide +kernel),af (by decide +kernel),af (by decide +kernel),af (by decide +kernel)]
 rfl
theorem NF.HP(x:NF):x.fs.lookup ("begin_all":Str)=none:=by
 unfold NF.fs
 rw [af (by decide +kernel),af (by decide +kernel),af (by decide +kernel),af (by decide +kernel),af (by decide +kernel),af (by decide +kernel),af (by decide +kernel),af (by decide +kernel),af (by decide +kernel),af (by decide +kernel),af (by decide +kernel),af (by decide +kernel),af (by decide +kernel),af (by decide +kernel)]
 rfl
theorem WF.has(w:WF s){i u k v:Nat}{b:Bool}(hi:i < 0x2000)(h:(Sa32.besides s.node).find? (at_ i u)=some (oE i u b k v)):∃e,s.ent i u=some e∧e.val.length=k∧e.m=false:=by
 obtain ⟨e,h1,h2⟩:=w.Ji hi h
 obtain ⟨_,_,_,_,h3,h4⟩:=tf h2
 exact ⟨e,h1,by rw [h4];exact bG k v,h3⟩
theorem WF.IB(w:WF s):∃e,s.ent 0x1001 0=some e∧e.val.length=1∧e.m=false:=w.has (by decide) (D3 s.node)
theorem WF.S7(w:WF s):∃e,s.ent 0x1005 0=some e∧e.val.length=4∧e.m=false:=w.has (by decide) (KR s.node)
theorem WF.TR(w:WF s):∃e,s.ent 0x1014 0=some e∧e.val.length=4∧e.m=false:=w.has (by decide) (P5 s.node)
theorem WF.Ut(w:WF s){u:Nat}(h:u=1∨u=2):∃e,s.ent 0x1016 u=some e∧e.val.length=4∧e.m=false:=w.has (by decide) (Lj s.node h)
theorem WF.Uq(w:WF s):∃e,s.ent 0x1017 0=some e∧e.val.length=2∧e.m=false:=w.has (by decide) (Q9 s.node)
theorem WF.V7(w:WF s){k:Nat}(h:k < 4):∃e,s.ent (0x1400+k) 1=some e∧e.val.length=4∧e.m=false:=w.has (by omega) (QA s.node h)
theorem WF.V1(w:WF s){k:Nat}(h:k < 4):∃e,s.ent (0x1400+k) 2=some e∧e.val.length=1∧e.m=false:=w.has (by omega) (PR s.node h)
theorem WF.Wc(w:WF s){k:Nat}(h:k < 4):∃e,s.ent (0x1800+k) 1=some e∧e.val.length=4∧e.m=false:=w.has (by omega) (T9 s.node h)
theorem WF.V4(w:WF s){k:Nat}(h:k < 4):∃e,s.ent (0x1800+k) 2=some e∧e.val.length=1∧e.m=false:=w.has (by omega) (Rr s.node h)
theorem WF.VN(w:WF s){k:Nat}(h:k < 4):∃e,s.ent (0x1800+k) 3=some e∧e.val.length=2∧e.m=false:=w.has (by omega) (Tt s.node h)
theorem WF.V8(w:WF s){k:Nat}(h:k < 4):∃e,s.ent (0x1800+k) 5=some e∧e.val.length=2∧e.m=false:=w.has (by omega) (Tr s.node h)
theorem WF.Wy(w:WF s){k b:Nat}(h:k < 4)(hb:b=0x1600∨b=0x1A00)(j:Nat)(hj:j≤8):∃e,s.ent (b+k) j=some e∧e.m=false:=by
 cases j with
 | zero=>obtain ⟨e,h1,_,h2⟩:=w.has (by omega) (QL s.node h hb);exact ⟨e,h1,h2⟩
 | succ j=>obtain ⟨e,h1,_,h2⟩:=w.has (by omega) (Pk s.node h hb (by omega:j < 8));exact ⟨e,h1,h2⟩
theorem WF.S9(w:WF s):∃e,s.ent 0x1001 0=some e:=let ⟨e,h,_⟩:=w.IB;⟨e,h⟩
theorem WF.T2(w:WF s):∃e,s.ent 0x1005 0=some e:=let ⟨e,h,_⟩:=w.S7;⟨e,h⟩
theorem WF.TC(w:WF s):∃e,s.ent 0x1014 0=some e:=let ⟨e,h,_⟩:=w.TR;⟨e,h⟩
theorem WF.Q0(w:WF s){k:Nat}(hk:k < 2):∃e,s.ent 0x1016 (k+1)=some e:=let ⟨e,h,_⟩:=w.Ut (u:=k+1) (by omega);⟨e,h⟩
theorem WF.Th(w:WF s):∃e,s.ent 0x1017 0=some e:=let ⟨e,h,_⟩:=w.Uq;⟨e,h⟩
theorem WF.Vp(w:WF s){k:Nat}(hk:k < 4):∃e,s.ent (0x1400+k) 1=some e:=let ⟨e,h,_⟩:=w.V7 hk;⟨e,h⟩
theorem WF.Wi(w:WF s){k:Nat}(hk:k < 4):∃e,s.ent (0x1400+k) 2=some e:=let ⟨e,h,_⟩:=w.V1 hk;⟨e,h⟩
theorem WF.Ud(w:WF s){k:Nat}(hk:k < 4):∃e,s.ent (0x1800+k) 1=some e:=let ⟨e,h,_⟩:=w.Wc hk;⟨e,h⟩
theorem WF.UL(w:WF s){k:Nat}(hk:k < 4):∃e,s.ent (0x1800+k) 2=some e:=let ⟨e,h,_⟩:=w.V4 hk;⟨e,h⟩
theorem WF.VI(w:WF s){k:Nat}(hk:k < 4):∃e,s.ent (0x1800+k) 3=some e:=let ⟨e,h,_⟩:=w.VN hk;⟨e,h⟩
theorem WF.VP(w:WF s){k:Nat}(hk:k < 4):∃e,s.ent (0x1800+k) 5=some e:=let ⟨e,h,_⟩:=w.V8 hk;⟨e,h⟩
theorem WF.UE(w:WF s){k b:Nat}(h:k < 4)(hb:b=0x1600∨b=0x1A00)(j:Nat)(hj:j≤8):∃e,s.ent (b+k) j=some e:=let ⟨e,h,_⟩:=w.Wy h hb j hj;⟨e,h⟩
theorem v3{d:Addr}{i u:Nat}{iv uv:Int}(h:iv= (i:Int))(h':uv= (u:Int)): [V.ref d,.int iv,.int uv] = [V.ref d,.int (i:Int),.int (u:Int)]:=by rw [h,h']
end
section
variable{K:PySem.W.Frag}{t:bh}{vs:List V}{H:Hp}{Q:VK}{E:XK}
theorem tt{c:Prop} [Decidable c](h:c):V.bl (decide c)=V.bl true:=by rw [decide_eq_true h]
theorem ff{c:Prop} [Decidable c](h:¬c):V.bl (decide c)=V.bl false:=by rw [decide_eq_false h]
theorem qc{i j:Int}(h:i=j):V.bl (decide (V.int i=V.int j))=V.bl true:=by rw [dI,decide_eq_true h]
theorem pD{i j:Int}(h:¬i=j):V.bl (decide (V.int i=V.int j))=V.bl false:=by rw [dI,decide_eq_false h]
theorem zy{i j:Int}(h:¬i=j):V.bl (!decide (V.int i=V.int j))=V.bl true:=by rw [dI,decide_eq_false h];rfl
theorem GI{i j:Int}(h:i=j):V.bl (!decide (V.int i=V.int j))=V.bl false:=by rw [dI,decide_eq_true h];rfl
theorem FJ(h:dj K t vs H Q E):vs.length=3:=by obtain ⟨p,s,x,d,id,b,rfl,_⟩:=h;rfl
theorem Jl(T:cU K t)(h:dj K t vs H Q E):J1 K t (Dn Q) (start BC vs) H:=by
 obtain ⟨p,s,x,d,id,b,rfl,N,ho,hd,hF,q⟩:=h
 obtain ⟨dp,ob⟩:=N.ob
 obtain ⟨ts,h3,h3'⟩:=N.row
 have hl:=Paired.length h3'
 refine ⟨_,rfl,p,_,dp,_,_,rfl,ob,T.ax,T.mD,x.K3,x.rw,_,rfl,.inl (cb.of h3),_,_,rfl,rfl,_,rfl,?_⟩
 rw [List.length_map,hl]
 refine GZ (fun z=>?_) (fun z=>?_)
 ·have z:s.out.length < 32:=by have:=of_decide_eq_true z;omega
  refine ⟨_,rfl,p,_,dp,_,_,rfl,ob,T.ax,T.mD,x.K3,.inl ⟨rfl,_,cb.of h3⟩,_,rfl,_,rfl,(by show 2≤sizeLine;decide),fun a ha=>?_⟩
  have sm:aP H (upd H a (.tup [.int (id:Int),.ref d])):=aP.new ha
  refine ⟨x.rw,_,_,rfl,rfl,sm _ _ h3,?_,?_⟩
  ·rw [List.length_map,hl]
   exact b7 (by omega)
  have N1:=N.same sm
  obtain ⟨ts',h4,h4'⟩:=N1.row
  have:ts'=ts:=by
   rw [sm _ _ h3] at h4
   have h4:=Option.some.inj h4
   injection h4 with h4
   exact (List.map_inj_right fun _ _ z=>by injection z).mp h4.symm
  subst this
  obtain ⟨N2,k2⟩:=N1.Qv (ts' ++ [a]) (s.out ++ [(id,b)]) (h4'.snoc ⟨d,ao,sm _ _ hd,hF⟩)
  rw [List.map_append] at N2 k2
  refine q _ x ?_ ((sm.keep _).trans k2)
  unfold Sa32.St.send
  rw [if_pos z]
  exact N2
 ·have z:¬s.out.length < 32:=fun w=>z (decide_eq_true (by omega))
  refine q H x ?_ (bX.refl _ _)
  unfold Sa32.St.send
  rw [if_neg z]
  exact N
theorem vr(h:cW K t vs H Q E):vs.length=2:=by obtain ⟨p,s,x,c,rfl,_⟩:=h;rfl
theorem xy(T:cU K t)(h:cW K t vs H Q E):xO K t (Dn Q) (start oy vs) H:=by
 obtain ⟨p,s,x,c,rfl,⟨N,w⟩,q⟩:=h
 obtain ⟨dp,ob⟩:=N.ob
 refine ⟨_,rfl,p,_,dp,_,_,rfl,ob,T.ax,T.aD,x.ba,x.en,x.aB,s,0x1014,0,rfl,N.ents,w.TC,?_⟩
 have jn:s.state=4∨Sa32.OFF≤s.num 0x1014 0→Q .bB H:=fun z=>by
  refine q H x ?_ (bX.refl _ _)
  unfold Pp
  rw [if_pos z]
  exact N
 refine ⟨_,rfl,p,_,dp,_,_,rfl,ob,T.ax,T.bJ,x.gy,rfl,_,rfl,?_⟩
 rw [N.state,dI]
 refine GZ (fun z=>?_) (fun z=>?_)
 ·have z:s.state ≠ 4:=fun w=>by rw [decide_eq_true (by omega)] at z;exact absurd z (by decide)
  by_cases z2:s.num 0x1014 0 < 2147483648
  ·refine ⟨_,rfl,_,_,rfl,rfl,true,tt (by omega),aS ?_⟩
   have z2:s.num 0x1014 0 < Sa32.OFF:=z2
   refine ⟨_,rfl,p,dp,_,rfl,ob,x.uU,?_⟩
   refine ⟨_,rfl,_,rfl,c,2,rfl,by decide,fun l1 H1 s1 e1 h1=>?_⟩
   have N1:=N.same s1
   refine ⟨_,rfl,p,_,dp,_,_,rfl,s1 _ _ ob,T.ax,T.aD,x.ba,x.en,x.aB,s,0x1001,0,rfl,N1.ents,w.S9,?_⟩
   refine ⟨(by show 1≤sizeLine;decide),fun l2 e2=>?_⟩
   have s2:aP H1 (upd H1 l2 (.lst [.int ((s.num 0x1001 0:Nat):Int)])):=aP.new e2
   refine ⟨l1,l2,_,_,rfl,rfl,s2 _ _ h1,ao,?_,fun l3 e3=>?_⟩
   ·rw [bz,bG]
    show 2+1≤sizeLine
    decide
   have hv:s.val 0x1001 0 = [s.num 0x1001 0]:=by
    obtain ⟨e,k1,k2,_⟩:=w.IB
    rw [fC k1,xc k1]
    match e.val,k2 with
    | [y],_=>simp [Sa32.num]
   have s3:=(s1.trans s2).trans (aP.new (o:= .lst (bV (Sa32.le 2 c) ++ [.int ((s.num 0x1001 0:Nat):Int)])) e3)
   refine ⟨l3,Sa32.le 2 c ++ [s.num 0x1001 0],8,rfl,?_,?_,by decide,fun l4 H4 s4 e4 h4=>?_⟩
   ·rw [ao]
    unfold bV
    rw [List.map_append]
    rfl
   ·rw [List.length_append,bG]
    show 2+1≤100
    decide
   have N4:=(N.same s3).same s4
   refine ⟨p,s,x,l4,s.num 0x1014 0,_,rfl,N4,w.out,h4,N.mz ((s3.free) e4),fun H' x' N' k'=>?_⟩
   refine q H' x' ?_ (((s3.trans s4).keep _).trans k')
   unfold Pp
   rw [if_neg (by omega),hv]
   rw [List.append_assoc] at N'
   have e5:(Sa32.le 2 c ++ [s.num 0x1001 0]).length=3:=by rw [List.length_append,bG];rfl
   rw [e5] at N'
   exact N'
  ·exact ⟨_,rfl,_,_,rfl,rfl,false,ff (by omega),aZ (jn (.inr (Nat.le_of_not_lt z2)))⟩
 ·exact jn (.inl (Decidable.byContradiction fun w=>z (by rw [decide_eq_false (by omega)];rfl)))
end
end Fn
namespace Fn
open PySem L2
section
theorem GC(a b:Nat):Builtin.bitOr (a:Int) (b:Int)= ((a ||| b:Nat):Int):=by
 unfold Builtin.bitOr Builtin.bitAnd Builtin.bitNot
 have f:∀c:Nat,decide ((0:Int)≤-(c:Int) - 1)=false:=fun c=>decide_eq_false (by omega)
 have g:∀c:Nat,(-(-(c:Int) - 1) - 1).toNat=c:=fun c=>by omega
 rw [f,f]
 show -(-(((-(-(a:Int) - 1) - 1).toNat ||| (-(-(b:Int) - 1) - 1).toNat:Nat):Int) - 1) - 1=_
 rw [g,g]
 omega
variable{s:Sa32.St}
theorem QM{l:List Sa32.Ent}{i u:Nat}{b:List Nat}(h:∀e,e ∈ l→e.index=i∧e.sub=u→e.val=b):Sa32.put l i u b=l:=by
 unfold Sa32.put
 conv=>rhs;rw [←List.map_id l]
 refine List.map_congr_left fun e he=>?_
 by_cases z:e.index=i∧e.sub=u
 ·rw [if_pos z,←h e he z]
  rfl
 ·rw [if_neg z]
  rfl
theorem Ph{i u k:Nat}{e:Sa32.Ent}{b:Nat}(m:pW s b)(he:s.ent i u=some e)(hm:e.m=false):(s.mapped b).contains (i,u)=false:=by
 cases q:(s.mapped b).contains (i,u) with
 | false=>rfl
 | true=>
  obtain ⟨e',h1,h2⟩:=ej m (List.contains_iff_mem.mp q)
  rw [he] at h1
  cases h1
  rw [hm] at h2
  cases h2
theorem L4{g:List Sa32.Going}{c:Nat→Bool}(h:∀k,k < g.length→c k=false):(g.zipIdx.map fun y=>if c y.2=true then {y.1 with changed:=true} else y.1)=g:=by
 refine List.ext_getElem? fun j=>?_
 rw [List.getElem?_map,List.getElem?_zipIdx]
 cases q:g[j]? with
 | none=>rfl
 | some y=>
  have hj:=(List.getElem?_eq_some_iff.mp q).1
  show some (if c (0+j)=true then {y with changed:=true} else y)=some y
  rw [Nat.zero_add,h j hj]
  rfl
theorem GV(w:WF s){i u:Nat}{e:Sa32.Ent}{b:List Nat}(he:s.ent i u=some e)(hm:e.m=false):s.put i u b= {s with table:=Sa32.put s.table i u b,own:=Sa32.put s.own i u b}:=by
 obtain ⟨h1,h2,h3⟩:=bo he
 by_cases z:s.val i u=b
 ·rw [eN z]
  rw [fC he] at z
  have f:∀e',e' ∈ s.table ++ s.own→e'.index=i∧e'.sub=u→e'.val=b:=fun e' he' q=>by
   rw [w.uniq he' h1 (by rw [q.1,h2]) (by rw [q.2,h3]),z]
  rw [QM fun e' he'=>f e' (List.mem_append_left _ he'),QM fun e' he'=>f e' (List.mem_append_right _ he')]
 ·unfold Sa32.St.put
  rw [if_neg z]
  congr 1
  refine L4 (c:=fun k=>(s.mapped (0x1A00+k)).contains (i,u)) fun k hk=>?_
  rw [w.going] at hk
  exact Ph (k:=k) (w.maps k hk 0x1A00 (.inr rfl)) he hm
end
section
variable{K:PySem.W.Frag}{t:bh}{vs:List V}{H:Hp}{Q:VK}{E:XK}
theorem vp(h:cB K t vs H Q E):vs.length=3:=by obtain ⟨p,s,x,c,b,rfl,_⟩:=h;rfl
theorem wm(T:cU K t)(h:cB K t vs H Q E):yO K t (Dn Q) (start nB vs) H:=by
 obtain ⟨p,s,x,c,b,rfl,⟨N,w⟩,hc,hb,q⟩:=h
 obtain ⟨dp,ob⟩:=N.ob
 obtain ⟨e,he,hl,hm⟩:=w.IB
 obtain ⟨a,dx,ha,hx⟩:=N.ents.entry he
 refine ⟨_,rfl,p,_,dp,_,_,rfl,ob,T.ax,T.aD,x.ba,_,_,rfl,x.en,.ref a,rfl,gE.at N.ents.dict ha,?_⟩
 refine ⟨_,rfl,a,_,dx,_,_,rfl,hx,T.bH,T.bZ,fE e,_,_,rfl,rfl,_,rfl,_,_,rfl,rfl,⟨by omega,by omega,by decide⟩,_,_,rfl,rfl,?_⟩
 refine ⟨_,rfl,a,_,dx,_,rfl,hx,T.bH,T.bZ,(show 5 < 1000 by decide),?_⟩
 have hy:Builtin.bitOr (Builtin.bitOr ((Sa32.num e.val:Nat):Int) 1) (1 * 2 ^ (b:Int).toNat)= ((Sa32.num [s.num 0x1001 0 ||| (1 ||| 2 ^ b)]:Nat):Int):=by
  have e1:(1:Int) * 2 ^ (b:Int).toNat= ((2 ^ b:Nat):Int):=by simp
  have e2:Sa32.num [s.num 0x1001 0 ||| (1 ||| 2 ^ b)] = s.num 0x1001 0 ||| (1 ||| 2 ^ b):=by
   rw [mZ,RN]
   omega
  rw [e1,e2,xc he]
  show Builtin.bitOr (Builtin.bitOr ((Sa32.num e.val:Nat):Int) ((1:Nat):Int)) _=_
  rw [GC,GC,Nat.or_assoc]
 obtain ⟨N1,k1⟩:=N.Hs w (dx:=dx) (b:=[s.num 0x1001 0 ||| (1 ||| 2 ^ b)]) he ha (by rw [hl];rfl)
 rw [←GV w he hm] at N1
 rw [←wy e _ (by rw [hl];rfl),←hy] at N1 k1
 have hr:s.num 0x1001 0 < 256:=by
  rw [xc he]
  have:=Au (w.vq e (bo he).1)
  rw [hl] at this
  exact this
 have h2b:2 ^ b < 256:=Nat.lt_of_le_of_lt (Nat.pow_le_pow_right (by decide) hb) (by decide)
 have hy2:s.num 0x1001 0 ||| (1 ||| 2 ^ b) < 256:=Nat.or_lt_two_pow (n:=8) hr (Nat.or_lt_two_pow (n:=8) (by decide) h2b)
 have w1:WF (s.put 0x1001 0 [s.num 0x1001 0 ||| (1 ||| 2 ^ b)]):=w.put (lg.free (fun y z=>by rw [List.mem_singleton.mp z];exact hy2) (by have:=w.mS he;rw [hl] at this;exact this) (.inr (.inl rfl)))
 obtain ⟨dp1,ob1⟩:=N1.ob
 refine ⟨_,rfl,p,dp1,_,rfl,ob1,x.vG,_,rfl,p,_,x,c,rfl,⟨N1,w1⟩,fun H' x' N' k'=>q H' x' ?_ (k1.trans k')⟩
 unfold Sa32.St.fault
 simp only [if_neg hc]
 exact N'
theorem sT(h:di K t vs H Q E):vs.length=1:=by obtain ⟨p,s,x,rfl,_⟩:=h;rfl
theorem sX(T:cU K t)(h:di K t vs H Q E):vo K t (Dn Q) (start lj vs) H:=by
 obtain ⟨p,s,x,rfl,⟨N,w⟩,q⟩:=h
 obtain ⟨dp,ob⟩:=N.ob
 obtain ⟨e,he,hl,hm⟩:=w.IB
 obtain ⟨a,dx,ha,hx⟩:=N.ents.entry he
 refine ⟨_,rfl,p,_,dp,_,_,rfl,ob,T.ax,T.aD,x.ba,_,_,rfl,x.en,.ref a,rfl,gE.at N.ents.dict ha,?_⟩
 refine ⟨a,_,dx,_,rfl,hx,T.bH,T.bZ,(show 5 < 1000 by decide),?_⟩
 obtain ⟨N1,k1⟩:=N.Hs w (dx:=dx) (b:=[0]) he ha (by rw [hl];rfl)
 rw [←GV w he hm] at N1
 rw [←wy e _ (by rw [hl];rfl)] at N1 k1
 have w1:WF (s.put 0x1001 0 [0]):=w.put (lg.free (fun y z=>by rw [List.mem_singleton.mp z];decide) (by have:=w.mS he;rw [hl] at this;exact this) (.inr (.inl rfl)))
 obtain ⟨dp1,ob1⟩:=N1.ob
 refine ⟨_,rfl,p,dp1,_,rfl,ob1,x.vG,p,_,x,0,rfl,⟨N1,w1⟩,fun H' x' N' k'=>q H' x' ?_ (k1.trans k')⟩
 exact N'
theorem Jf(h:nO K t vs H Q E):vs.length=1:=by obtain ⟨p,s,x,rfl,_⟩:=h;rfl
theorem KI(T:cU K t)(h:nO K t vs H Q E):Mt K t (Dn Q) (start EA vs) H:=by
 obtain ⟨p,s,x,rfl,⟨N,w⟩,q⟩:=h
 obtain ⟨dp,ob⟩:=N.ob
 have jn:¬(s.num 0x1017 0 ≠ 0∧s.beat+s.num 0x1017 0≤s.now)→Q .bB H:=fun z=>by
  refine q H x ?_ (bX.refl _ _)
  unfold rA
  rw [if_neg z]
  exact N
 refine ⟨_,rfl,p,_,dp,_,_,rfl,ob,T.ax,T.aD,x.ba,x.en,x.aB,s,0x1017,0,rfl,N.ents,w.Th,?_⟩
 by_cases z1:s.num 0x1017 0=0
 ·exact ⟨_,rfl,rfl,false,GI (by omega),aZ (aZ (jn fun z=>z.1 z1))⟩
 refine ⟨_,rfl,rfl,true,zy (by omega),aS ?_⟩
 have e1:=N.now
 have e2:=N.beat
 by_cases z2:s.beat+s.num 0x1017 0≤s.now
 ·refine ⟨_,rfl,p,_,dp,_,_,rfl,ob,T.ax,T.bY,x.nZ,_,rfl,p,_,dp,_,_,rfl,ob,T.ax,T.dh,x.xH,_,_,rfl,rfl,_,rfl,_,_,rfl,rfl,true,tt (by omega),aS ?_⟩
  refine ⟨_,rfl,p,_,dp,_,_,rfl,ob,T.ax,T.bY,x.nZ,_,rfl,p,_,dp,_,rfl,ob,T.ax,T.dh,x.Jn,?_⟩
  rw [NF.qB]
  obtain ⟨N1,k1⟩:=N.KG (dx:=dp) s.now e1
  obtain ⟨dp1,ob1⟩:=N1.ob
  generalize ({x with cT:=x.now}:NF)=x1 at *
  refine ⟨_,rfl,p,dp1,_,rfl,ob1,x1.uU,_,rfl,p,_,dp1,_,_,rfl,ob1,T.ax,T.cO,x1.mF,_,_,rfl,rfl,?_⟩
  refine ⟨_,rfl,p,_,dp1,_,_,rfl,ob1,T.ax,T.bJ,x1.gy,(by show 1≤sizeLine;decide),fun l hl=>?_⟩
  have e3:=N1.number
  have e4:=N1.state
  refine ⟨p,_,x1,l,0x700+s.node,[s.state],?_,N1.same (aP.new hl),w.out,?_,N1.mz hl,fun H' x' N' k'=>q H' x' ?_ (k1.trans (((aP.new hl).keep _).trans k'))⟩
  ·have:(1792:Int)+x1.number= ((0x700+s.node:Nat):Int):=by rw [e3];show (1792:Int)+ (s.node:Int)=_;omega
   rw [←this]
   rfl
  ·rw [ao,e4]
   rfl
  ·unfold rA
   rw [if_pos ⟨z1,z2⟩]
   exact N'
 ·exact ⟨_,rfl,p,_,dp,_,_,rfl,ob,T.ax,T.bY,x.nZ,_,rfl,p,_,dp,_,_,rfl,ob,T.ax,T.dh,x.xH,_,_,rfl,rfl,_,rfl,_,_,rfl,rfl,false,ff (by omega),aZ (jn fun z=>z2 z.2)⟩
theorem two{α:Type}{l:List α}(h:l.length=2):∃a b,l = [a,b]:=by
 match l,h with
 | [a,b],_=>exact ⟨a,b,rfl⟩
theorem RH{xs:List V}{j:Nat}{v:V}(h:xs[j]? = some v):Rv xs ((j:Nat):Int)=some v:=HQ h
theorem VS{xs:List V}{j:Nat}{v:V}(h:xs[j]? = some v):Rv xs (0+ ((j:Nat):Int))=some v:=by rw [Int.zero_add];exact HQ h
theorem Av{n j:Nat}(h:j < n):Ry n (j:Int)=some j:=by
 unfold Ry
 rw [if_pos (by omega),if_pos (by omega),Int.toNat_natCast]
theorem Tv{n j:Nat}(h:j < n):Ry n (0+ (j:Int))=some j:=by rw [Int.zero_add];exact Av h
theorem S6{s:Sa32.St}(w:WF s){k:Nat}(hk:k < 2):s.num 0x1016 (k+1) / 65536 % 128=s.num 0x1016 (k+1) / 65536:=by
 have:=w.Pb (k+1) (by omega)
 omega
theorem set_same{α:Type}{l:List α}{j:Nat}{v:α}(h:l[j]? = some v):l.set j v=l:=by
 refine List.ext_getElem? fun i=>?_
 rw [List.getElem?_set]
 by_cases z:j=i
 ·subst z
  rw [if_pos rfl,h,if_pos (List.getElem?_eq_some_iff.mp h).1]
 ·rw [if_neg z]
theorem we(h:eW K t vs H Q E):vs.length=1:=by obtain ⟨p,s,x,rfl,_⟩:=h;rfl
theorem WF.jh{s:Sa32.St}(w:WF s)(k:Nat):WF (jh s k):=by
 unfold Fn.jh
 split
 ·split
  ·exact (w.yh k).fault (by decide)
  ·exact w
 ·exact w
theorem yZ(T:cU K t)(h:eW K t vs H Q E):Al K t (Dn Q) (start pY vs) H:=by
 obtain ⟨p,s,x,rfl,⟨N,w⟩,q⟩:=h
 refine ⟨2,rfl,by decide,by decide,?_⟩
 refine gq (n:=2) (fun j σ H'=>∃a b c x',σ = [some (.ref p),a,b,c]∧cg t H' p ((List.range j).foldl jh s) x'∧bX H (x.F p) H' (x'.F p)) ?_ ?_ ?_
 ·exact ⟨none,none,none,x,rfl,⟨N,w⟩,bX.refl _ _⟩
 ·rintro j σ H' hj ⟨a,b,c,x1,rfl,⟨N1,w1⟩,k1⟩
  rw [List.range_succ,List.foldl_append,List.foldl_cons,List.foldl_nil]
  generalize (List.range j).foldl jh s=s1 at *
  obtain ⟨dp,ob⟩:=N1.ob
  have e0:(0:Int)+ ((j:Nat):Int)= (j:Int):=by omega
  have hlt:j < s1.heard.length:=by rw [w1.heard];exact hj
  have hat:(s1.heard.map LL)[j]? = some (LL (s1.heard.getD j none)):=by
   rw [List.getElem?_map,List.getD_eq_getElem?_getD,List.getElem?_eq_getElem hlt]
   rfl
  have jn:jh s1 j=s1→∃a b c x',[some (V.ref p),some (.int (0+ (j:Int))),some (LL (s1.heard.getD j none)),some (.int ((s1.num 0x1016 (j+1) % 65536:Nat):Int))] = [some (.ref p),a,b,c]∧cg t H' p (jh s1 j) x'∧bX H (x.F p) H' (x'.F p):=fun z=>⟨_,_,_,x1,rfl,by rw [z];exact ⟨N1,w1⟩,k1⟩
  refine ⟨_,rfl,p,_,dp,_,_,rfl,ob,T.ax,T.eG,x1.rS,_,rfl,x1.ha,_,_,_,rfl,rfl,cb.of N1.heard,VS hat,?_⟩
  refine ⟨_,rfl,p,_,dp,_,_,rfl,ob,T.ax,T.aD,x1.ba,_,rfl,_,_,rfl,rfl,x1.en,x1.aB,s1,0x1016,j+1,v3 rfl (by omega),N1.ents,w1.Q0 hj,_,rfl,?_⟩
  cases hh:s1.heard.getD j none with
  | none=>exact ⟨_,rfl,_,rfl,aZ (aZ (by have:=jn (by unfold jh;rw [hh]);rw [hh] at this;exact this))⟩
  | some y=>
   rw [hh] at jn
   obtain ⟨n1,n2⟩:=w1.mU j hj y hh
   have en:=N1.now
   by_cases z:y+s1.num 0x1016 (j+1) % 65536 < s1.now
   ·refine ⟨_,rfl,true,rfl,aS ⟨_,rfl,p,_,dp,_,_,rfl,ob,T.ax,T.bY,x1.nZ,_,rfl,_,_,rfl,rfl,_,rfl,_,_,rfl,rfl,true,tt (by omega),aS ?_⟩⟩
    obtain ⟨N2,k2⟩:=N1.LH (s1.heard.set j none)
    refine ⟨_,rfl,p,_,dp,_,_,rfl,ob,T.ax,T.eG,x1.rS,_,rfl,x1.ha,_,_,j,rfl,rfl,N1.heard,Tv (by rw [List.length_map];exact hlt),?_⟩
    rw [List.map_set] at N2 k2
    obtain ⟨dp2,ob2⟩:=N2.ob
    refine ⟨_,rfl,p,dp2,_,rfl,ob2,x1.ph,p,_,x1,0x8130,4,rfl,⟨N2,w1.yh j⟩,by decide,by decide,fun H3 x3 N3 k3=>?_⟩
    refine ⟨_,_,_,x3,rfl,⟨?_,w1.jh j⟩,(k1.trans k2).trans k3⟩
    unfold jh
    rw [hh]
    simp only
    rw [if_pos ⟨n1,n2,z⟩]
    exact N3
   ·refine ⟨_,rfl,true,rfl,aS ⟨_,rfl,p,_,dp,_,_,rfl,ob,T.ax,T.bY,x1.nZ,_,rfl,_,_,rfl,rfl,_,rfl,_,_,rfl,rfl,false,ff (by omega),aZ (jn ?_)⟩⟩
    unfold jh
    rw [hh]
    simp only
    rw [if_neg fun w=>z w.2.2]
 ·rintro σ H' ⟨a,b,c,x',rfl,W,k⟩
  exact q H' x' W.rep k
end
end Fn
namespace Fn
open PySem L2
section
variable{K:PySem.W.Frag}{t:bh}{vs:List V}{H:Hp}{Q:VK}{E:XK}
theorem ET(h:lW K t vs H Q E):vs.length=2:=by obtain ⟨p,s,x,id,rfl,_⟩:=h;rfl
def rN(s:Sa32.St)(id k:Nat):Prop:=s.num 0x1016 (k+1) / 65536 ≠ 0∧s.num 0x1016 (k+1) % 65536 ≠ 0∧id=0x700+s.num 0x1016 (k+1) / 65536
instance (s:Sa32.St) (id k:Nat):Decidable (rN s id k):=by unfold rN;infer_instance
def ee(s:Sa32.St)(id:Nat):Nat→List (Option Nat)
 | 0=>s.heard
 | j+1=>(ee s id j).set j (if rN s id j then some s.now else (ee s id j).getD j none)
theorem CH(s:Sa32.St)(id:Nat):∀j,(ee s id j).length=s.heard.length
 | 0=>rfl
 | j+1=>by
  show ((ee s id j).set j _).length=_
  rw [List.length_set,CH s id j]
theorem Mj{s:Sa32.St}(id:Nat)(h:s.heard.length=2):({s with heard:=ee s id 2}:Sa32.St)=Dk s id:=by
 obtain ⟨a,b,hab⟩:=two h
 unfold Dk
 congr 1
 show ((s.heard.set 0 (if rN s id 0 then some s.now else s.heard.getD 0 none)).set 1 (if rN s id 1 then some s.now else (s.heard.set 0 (if rN s id 0 then some s.now else s.heard.getD 0 none)).getD 1 none))=_
 rw [hab]
 rfl
theorem Jj(T:cU K t)(h:lW K t vs H Q E):J9 K t (Dn Q) (start Bw vs) H:=by
 obtain ⟨p,s,x,id,rfl,⟨N,w⟩,q⟩:=h
 refine ⟨2,rfl,by decide,by decide,?_⟩
 refine gq (n:=2) (fun j σ H'=>∃a b c,σ = [some (.ref p),some (.int (id:Int)),a,b,c]∧aN t H' p {s with heard:=ee s id j} x∧bX H (x.F p) H' (x.F p)) ?_ ?_ ?_
 ·exact ⟨none,none,none,rfl,N,bX.refl _ _⟩
 ·rintro j σ H' hj ⟨a,b,c,rfl,N1,k1⟩
  obtain ⟨dp,ob⟩:=N1.ob
  have hlen:(ee s id j).length=2:=by rw [CH,w.heard]
  have hat:(ee s id j)[j]? = some ((ee s id j).getD j none):=by
   rw [List.getD_eq_getElem?_getD,List.getElem?_eq_getElem (by omega)]
   rfl
  have jn:¬rN s id j→ee s id (j+1)=ee s id j:=fun z=>by
   show (ee s id j).set j (if rN s id j then some s.now else (ee s id j).getD j none)=ee s id j
   rw [if_neg z,set_same hat]
  have e1:=S6 w hj
  have e2:=N1.now
  refine ⟨_,rfl,p,_,dp,_,_,rfl,ob,T.ax,T.aD,x.ba,_,rfl,_,_,rfl,rfl,x.en,x.aB,s,0x1016,j+1,v3 rfl (by omega),N1.ents,w.Q0 hj,?_⟩
  by_cases z1:s.num 0x1016 (j+1) / 65536=0
  ·refine ⟨_,rfl,_,rfl,rfl,false,GI (by rw [e1];omega),aZ ?_⟩
   refine ⟨_,rfl,false,rfl,aZ (aZ ⟨_,_,_,rfl,?_,k1⟩)⟩
   rw [jn fun z=>z.1 z1]
   exact N1
  refine ⟨_,rfl,_,rfl,rfl,true,zy (by rw [e1];omega),aS ?_⟩
  by_cases z2:s.num 0x1016 (j+1) % 65536=0
  ·refine ⟨_,rfl,_,rfl,rfl,_,rfl,false,GI (by omega),aZ (aZ ⟨_,_,_,rfl,?_,k1⟩)⟩
   rw [jn fun z=>z.2.1 z2]
   exact N1
  by_cases z3:id=0x700+s.num 0x1016 (j+1) / 65536
  ·refine ⟨_,rfl,_,rfl,rfl,_,rfl,true,zy (by omega),aS ⟨_,rfl,_,rfl,_,rfl,_,_,rfl,rfl,rfl,true,qc (by rw [e1];omega),aS ?_⟩⟩
   refine ⟨_,rfl,p,_,dp,_,_,rfl,ob,T.ax,T.bY,x.nZ,_,rfl,p,_,dp,_,_,rfl,ob,T.ax,T.eG,x.rS,_,rfl,x.ha,_,_,j,rfl,rfl,N1.heard,Tv (by rw [List.length_map];show j < (ee s id j).length;omega),?_⟩
   obtain ⟨N2,k2⟩:=N1.LH ((ee s id j).set j (some s.now))
   rw [List.map_set] at N2 k2
   refine ⟨_,_,_,rfl,?_,?_⟩
   ·have:ee s id (j+1)= (ee s id j).set j (some s.now):=by
     show (ee s id j).set j (if rN s id j then some s.now else _)=_
     rw [if_pos ⟨z1,z2,z3⟩]
    rw [this,e2]
    exact N2
   ·rw [e2]
    exact k1.trans k2
  ·refine ⟨_,rfl,_,rfl,rfl,_,rfl,true,zy (by omega),aS ⟨_,rfl,_,rfl,_,rfl,_,_,rfl,rfl,rfl,false,pD (by rw [e1];omega),aZ ⟨_,_,_,rfl,?_,k1⟩⟩⟩
   rw [jn fun z=>z3 z.2.2]
   exact N1
 ·rintro σ H' ⟨a,b,c,rfl,N1,k1⟩
  rw [Mj id w.heard] at N1
  exact q H' x N1 k1
theorem Nq(v:Nat):((v:Nat):Int) / 2 ^ (8:Int).toNat=bD (v / 65536) (v / 256 % 256):=by
 show (v:Int) / 256=_
 unfold bD
 omega
theorem QZ{s:Sa32.St}{b i:Nat}(h:i < s.num b 0):(mG s b)[i]? = some (.int (((s.num b (i+1):Nat):Int) / 2 ^ (8:Int).toNat)):=by
 unfold mG Sa32.St.mapped
 rw [List.getElem?_map,List.getElem?_map,List.getElem?_range h,Nq]
 rfl
theorem BS(h:cY K t vs H Q E):vs.length=2:=by obtain ⟨d,aB,s,b,rfl,_⟩:=h;rfl
theorem DX(T:cU K t)(h:cY K t vs H Q E):FR K t (Dn Q) (start o8 vs) H:=by
 obtain ⟨d,aB,s,b,rfl,En,there,Ll,q⟩:=h
 refine ⟨_,rfl,_,rfl,d,aB,s,b,0,rfl,En,there 0 (by omega),?_⟩
 refine ⟨_,rfl,_,_,rfl,rfl,1,_,rfl,⟨by decide,by decide,by omega,by omega⟩,fun D hD=>?_⟩
 have e1:(((s.num b 0:Nat):Int)+1 - 1).toNat=s.num b 0:=by omega
 rw [e1]
 refine EL (n:=s.num b 0) (fun i H'=>H'=upd H D (.lst ((mG s b).take i))) rfl ?_ ?_
 ·rintro i H' hi rfl
  refine ⟨rfl,_,rfl,_,rfl,_,rfl,d,aB,s,b,i+1,v3 rfl (by omega),En.same (aP.new hD),there (i+1) (by omega),_,_,rfl,rfl,(show (0:Int)≤8 by decide),?_⟩
  refine ⟨_,ao,?_,?_⟩
  ·rw [List.length_take]
   exact b7 (by omega)
  ·rw [fc,List.take_add_one,QZ hi]
   rfl
 ·rintro H' rfl
  refine q D _ (aP.new hD) hD ?_
  rw [ao,List.take_of_length_le]
  unfold mG Sa32.St.mapped
  rw [List.length_map,List.length_map,List.length_range]
  exact Nat.le_refl _
theorem AF(h:eE K t vs H Q E):vs.length=2:=by obtain ⟨d,aB,s,b,k,rfl,_⟩:=h;rfl
theorem JN(l:List Nat):(l.map fun (y:Nat)=>(y:Int)).sum= ((l.sum:Nat):Int):=by
 induction l with
 | nil=>rfl
 | cons a l ih=>rw [List.map_cons,List.sum_cons,List.sum_cons,ih];omega
theorem z8{s:Sa32.St}{b i:Nat}{v:V}(h:(mG s b)[i]? = some v):∃y,(s.mapped b)[i]? = some y∧v= .int (bD y.1 y.2):=by
 unfold mG at h
 rw [List.getElem?_map] at h
 obtain ⟨y,h1,h2⟩:=Option.map_eq_some_iff.mp h
 exact ⟨y,h1,h2.symm⟩
theorem B3(T:cU K t)(h:eE K t vs H Q E):Ds K t (Dn Q) (start mK vs) H:=by
 obtain ⟨d,aB,s,b,k,rfl,En,w,hk,hb,q⟩:=h
 have m:=w.maps k hk b hb
 refine ⟨_,rfl,_,rfl,d,aB,s,b+k,rfl,En,w.UE hk hb,m.Ll,fun l H1 s1 e1 h1=>?_⟩
 refine ⟨l,rfl,⟨_,cb.of h1⟩,fun D hD=>?_⟩
 have En1:=En.same s1
 have hlD:l ≠ D:=aE h1 hD
 have sD:∀{o:HO},aP H1 (upd H1 D o):=aP.new hD
 refine M3 (K:=K) (a:=l) (xs:=mG s (b+k)) (fun i H'=>H'=upd H1 D (.lst ((((s.mapped (b+k)).take i).map fun y=>(((s.val y.1 y.2).length:Nat):Int)).map V.int))) rfl ?_ ?_ ?_
 ·rintro i H' _ rfl
  exact cb.of (sD _ _ h1)
 ·rintro i v H' hv rfl
  obtain ⟨y,hy,rfl⟩:=z8 hv
  obtain ⟨e,he,_⟩:=ej m (List.mem_of_getElem? hy)
  obtain ⟨a,dx,ha,hx⟩:=En1.entry he
  have hi:i < (s.mapped (b+k)).length:=(List.getElem?_eq_some_iff.mp hy).1
  have hl8:(s.mapped (b+k)).length≤8:=by
   unfold Sa32.St.mapped
   rw [List.length_map,List.length_range]
   exact m.Ll
  refine ⟨rfl,_,rfl,_,rfl,d,.ref a,rfl,gE.at (sD _ _ En1.dict) ha,a,_,dx,_,_,rfl,sD _ _ hx,T.bH,T.bT,cR e,?_⟩
  refine ⟨_,ao,?_,?_⟩
  ·rw [List.length_map,List.length_map,List.length_take]
   exact b7 (by omega)
  ·rw [fc,List.take_add_one,hy,List.map_append,List.map_append]
   show _=upd H1 D (.lst (_ ++ [V.int (((s.val y.1 y.2).length:Nat):Int)]))
   rw [fC he]
 ·rintro H' rfl
  refine ⟨D,_,rfl,cb.of ao,?_⟩
  have e:(((s.mapped (b+k)).take (mG s (b+k)).length).map fun y=>(((s.val y.1 y.2).length:Nat):Int)).sum= ((c9 s (s.mapped (b+k)):Nat):Int):=by
   rw [List.take_of_length_le (by unfold mG;rw [List.length_map];exact Nat.le_refl _)]
   unfold c9
   rw [←JN,List.map_map]
   rfl
  rw [e]
  exact q _ (s1.trans sD)
end
end Fn
namespace Fn
open PySem L2
section
variable{K:PySem.W.Frag}{t:bh}{vs:List V}{H:Hp}{Q:VK}{E:XK}
def gC(c:Nat→Bool)(j:Nat)(g:List Sa32.Going):List Sa32.Going:=g.zipIdx.map fun y=>if y.2 < j∧c y.2=true then {y.1 with changed:=true} else y.1
theorem An(c:Nat→Bool)(j:Nat)(g:List Sa32.Going)(i:Nat):(gC c j g)[i]? = (g[i]?).map fun y=>if i < j∧c i=true then {y with changed:=true} else y:=by
 unfold gC
 rw [List.getElem?_map,List.getElem?_zipIdx]
 cases g[i]? with
 | none=>rfl
 | some y=>
  show some (if 0+i < j∧c (0+i)=true then _ else _)=_
  rw [Nat.zero_add]
  rfl
theorem Rk(c:Nat→Bool)(j:Nat)(g:List Sa32.Going):(gC c j g).length=g.length:=by simp [gC]
theorem Sn(c:Nat→Bool)(g:List Sa32.Going):gC c 0 g=g:=by
 refine List.ext_getElem? fun i=>?_
 rw [An]
 cases g[i]? with
 | none=>rfl
 | some y=>show some (if i < 0∧c i=true then _ else _)=_;rw [if_neg (by omega)]
theorem U7{c:Nat→Bool}{j:Nat}(g:List Sa32.Going)(h:c j=false):gC c (j+1) g=gC c j g:=by
 refine List.ext_getElem? fun i=>?_
 rw [An,An]
 cases g[i]? with
 | none=>rfl
 | some y=>
  show some (if i < j+1∧c i=true then _ else _)=some (if i < j∧c i=true then _ else _)
  congr 1
  by_cases z:i=j
  ·subst z
   rw [if_neg (by rw [h];simp),if_neg (by omega)]
  ·by_cases z2:i < j∧c i=true
   ·rw [if_pos z2,if_pos ⟨by omega,z2.2⟩]
   ·rw [if_neg z2,if_neg fun w=>z2 ⟨by omega,w.2⟩]
theorem Tx{c:Nat→Bool}{j:Nat}{g:List Sa32.Going}(h:c j=true)(hj:j < g.length):(gC c (j+1) g).map (fun y=>V.bl y.changed)= ((gC c j g).map fun y=>V.bl y.changed).set j (.bl true):=by
 refine List.ext_getElem? fun i=>?_
 rw [List.getElem?_map,An,List.getElem?_set,List.getElem?_map,An,List.length_map,Rk]
 by_cases z:j=i
 ·subst z
  rw [if_pos rfl,if_pos hj,List.getElem?_eq_getElem hj]
  show some (V.bl (if j < j+1∧c j=true then _ else _:Sa32.Going).changed)=_
  rw [if_pos ⟨by omega,h⟩]
 ·rw [if_neg z]
  cases g[i]? with
  | none=>rfl
  | some y=>
   show some (V.bl (if i < j+1∧c i=true then _ else _:Sa32.Going).changed)=some (V.bl (if i < j∧c i=true then _ else _:Sa32.Going).changed)
   by_cases z2:i < j∧c i=true
   ·rw [if_pos z2,if_pos ⟨by omega,z2.2⟩]
   ·rw [if_neg z2,if_neg fun w=>z2 ⟨by omega,w.2⟩]
theorem MV(c:Nat→Bool)(j:Nat)(g:List Sa32.Going):(gC c j g).map dH=g.map dH:=by
 refine List.ext_getElem? fun i=>?_
 rw [List.getElem?_map,An,List.getElem?_map]
 cases g[i]? with
 | none=>rfl
 | some y=>
  show some (dH (if i < j∧c i=true then _ else _:Sa32.Going))=some (dH y)
  split <;> rfl
theorem Qz{c:Nat→Bool}{j:Nat}{g:List Sa32.Going}{y:Sa32.Going}(h:y ∈ gC c j g):∃z,z ∈ g∧y.marks=z.marks∧y.sent=z.sent∧y.at_=z.at_:=by
 unfold gC at h
 obtain ⟨z,h1,rfl⟩:=List.mem_map.mp h
 have:=(List.mem_zipIdx' h1).2
 refine ⟨z.1,by rw [this];exact List.getElem_mem _,?_⟩
 split <;> exact ⟨rfl,rfl,rfl⟩
theorem Sq{c:Nat→Bool}{j:Nat}{g:List Sa32.Going}(h:g.length≤j):gC c j g=g.zipIdx.map fun y=>if c y.2=true then {y.1 with changed:=true} else y.1:=by
 unfold gC
 refine List.map_congr_left fun y hy=>?_
 have:=(List.mem_zipIdx' hy).1
 by_cases z:c y.2=true
 ·rw [if_pos z,if_pos ⟨by omega,z⟩]
 ·rw [if_neg z,if_neg fun w=>z w.2]
theorem Jc{s:Sa32.St}(w:WF s){i u k:Nat}{e:Sa32.Ent}{b:List Nat}(he:s.ent i u=some e)(hk:k < 4)(m:pW (s.put i u b) (0x1A00+k)):((s.put i u b).mapped (0x1A00+k)).contains (i,u)= (s.mapped (0x1A00+k)).contains (i,u):=by
 cases hm:e.m with
 | false=>
  rw [Ph (k:=k) (w.maps k hk 0x1A00 (.inr rfl)) he hm]
  have he':(s.put i u b).ent i u=some {e with val:=b}:=by rw [eT,if_pos ⟨rfl,rfl⟩,he];rfl
  exact Ph (k:=k) m he' hm
 | true=>
  have hi:=(w.bounds (bo he).1).2.2.2.2.2 hm
  rw [(bo he).2.1] at hi
  have f:∀j,(s.put i u b).num (0x1A00+k) j=s.num (0x1A00+k) j:=fun j=>jN (by omega)
  unfold Sa32.St.mapped
  simp only [f]
theorem Se{s:Sa32.St}{b i u:Nat}(hu:u < 256):JA (.int (bD i u)) (mG s b)= (s.mapped b).contains (i,u):=by
 rw [Bool.eq_iff_iff,List.contains_iff_mem]
 unfold JA mG
 rw [List.any_map,List.any_eq_true]
 have sub:∀y,y ∈ s.mapped b→y.2 < 256:=fun y hy=>by
  unfold Sa32.St.mapped at hy
  obtain ⟨j,_,rfl⟩:=List.mem_map.mp hy
  exact Nat.mod_lt _ (by decide)
 constructor
 ·rintro ⟨y,hy,z⟩
  have z:(bD y.1 y.2 == bD i u)=true:=z
  have:=uz (sub y hy) hu (by simpa using z)
  rw [←this.1,←this.2]
  exact hy
 ·intro hy
  exact ⟨(i,u),hy,show (bD i u == bD i u)=true by simp⟩
theorem Rl(s:Sa32.St)(b:Nat):(mG s b).all vC=true:=by
 unfold mG
 rw [List.all_map,List.all_eq_true]
 intro y _
 rfl
theorem LD(h:mm K t vs H Q E):vs.length=3:=by obtain ⟨p,s,x,e,b,i,u,rfl,_⟩:=h;rfl
theorem Ou(T:cU K t)(h:mm K t vs H Q E):Qq K t (Dn Q) (start Kl vs) H:=by
 obtain ⟨p,s,x,e,b,i,u,rfl,⟨N,w⟩,he,hl,hb,hm,q⟩:=h
 obtain ⟨dp,ob⟩:=N.ob
 obtain ⟨a,dx,ha,hx⟩:=N.ents.entry he
 have hbd:=w.bounds (bo he).1
 have hu:u < 256:=by rw [←(bo he).2.2];exact hbd.2.2.1
 refine ⟨_,rfl,p,_,dp,_,_,rfl,ob,T.ax,T.aD,x.ba,_,rfl,x.en,.ref a,rfl,gE.at N.ents.dict ha,?_⟩
 by_cases z:e.val=b
 ·refine ⟨_,rfl,a,_,dx,_,_,rfl,hx,T.bH,T.bZ,fE e,_,rfl,rfl,true,qc (by rw [z]),aS ?_⟩
  refine q H x ?_ (bX.refl _ _)
  rw [eN (by rw [fC he];exact z)]
  exact N
 refine ⟨_,rfl,a,_,dx,_,_,rfl,hx,T.bH,T.bZ,fE e,_,rfl,rfl,false,pD (fun w'=>z (IC hbd.2.2.2.2.1 hb hl.symm (by omega))),aZ ?_⟩
 refine ⟨_,rfl,_,rfl,a,_,dx,_,rfl,hx,T.bH,T.bZ,(show 5 < 1000 by decide),?_⟩
 obtain ⟨N1,k1⟩:=N.Hs w (dx:=dx) (b:=b) he ha hl
 rw [←wy e _ hl] at N1 k1
 generalize upd H a (.ins t.bR dx (bI "value" (.int ((Sa32.num b:Nat):Int)) (nu e)))=H1 at *
 have hv:¬s.val i u=b:=by rw [fC he];exact z
 have hput:s.put i u b= {s with table:=Sa32.put s.table i u b,own:=Sa32.put s.own i u b,going:=gC (fun k=>(s.mapped (0x1A00+k)).contains (i,u)) 4 s.going}:=by
  rw [Sq (by rw [w.going];exact Nat.le_refl _)]
  unfold Sa32.St.put
  rw [if_neg hv]
 refine ⟨4,rfl,by decide,by decide,?_⟩
 refine gq (n:=4) (fun j σ H'=>∃bb,σ = [some (.ref p),some (.int (bD i u)),some (.int ((Sa32.num b:Nat):Int)),some (.ref a),bb]∧aN t H' p {s with table:=Sa32.put s.table i u b,own:=Sa32.put s.own i u b,going:=gC (fun k=>(s.mapped (0x1A00+k)).contains (i,u)) j s.going} x∧bX H (x.F p) H' (x.F p)) ?_ ?_ ?_
 ·exact ⟨none,rfl,by rw [Sn];exact N1,k1⟩
 ·rintro j σ H' hj ⟨bb,rfl,N2,k2⟩
  obtain ⟨dp2,ob2⟩:=N2.ob
  have hE:∀i' u',({s with table:=Sa32.put s.table i u b,own:=Sa32.put s.own i u b,going:=gC (fun k=>(s.mapped (0x1A00+k)).contains (i,u)) j s.going}:Sa32.St).ent i' u'= (s.put i u b).ent i' u':=fun i' u'=>by rw [hput];rfl
  have hN:∀i' u',({s with table:=Sa32.put s.table i u b,own:=Sa32.put s.own i u b,going:=gC (fun k=>(s.mapped (0x1A00+k)).contains (i,u)) j s.going}:Sa32.St).num i' u'= (s.put i u b).num i' u':=fun i' u'=>by rw [hput];rfl
  have hM:mG ({s with table:=Sa32.put s.table i u b,own:=Sa32.put s.own i u b,going:=gC (fun k=>(s.mapped (0x1A00+k)).contains (i,u)) j s.going}:Sa32.St) (0x1A00+j)=mG (s.put i u b) (0x1A00+j):=by rw [hput];rfl
  refine ⟨_,rfl,_,rfl,p,_,dp2,_,_,rfl,ob2,T.ax,T.aD,x.ba,_,rfl,_,_,rfl,rfl,x.en,x.aB,_,0x1A00+j,?_,N2.ents,fun j' hj'=>?_,?_,fun l H3 s3 e3 h3=>?_⟩
  ·have:(6656:Int)+ (0+ ((j:Nat):Int))= ((0x1A00+j:Nat):Int):=by omega
   rw [←this]
   rfl
  ·rw [hE,eT]
   obtain ⟨e',he'⟩:=w.UE hj (.inr rfl) j' hj'
   split
   ·rw [he];exact ⟨_,rfl⟩
   ·exact ⟨e',he'⟩
  ·rw [hN];exact (hm j hj).Ll
  rw [hM] at h3
  have hc:=Jc w he hj (hm j hj)
  refine ⟨l,_,rfl,.inl (cb.of h3),rfl,Rl _ _,_,rfl,?_⟩
  show if JA (.int (bD i u)) (mG (s.put i u b) (0x1A00+j))=true then _ else _
  rw [Se hu,hc]
  have N3:=N2.same s3
  have k3:=k2.trans (s3.keep _)
  cases hcc:(s.mapped (0x1A00+j)).contains (i,u) with
  | false=>
   refine aZ ⟨_,rfl,?_,k3⟩
   rw [U7 (c:=fun k=>(s.mapped (0x1A00+k)).contains (i,u)) s.going hcc]
   exact N3
  | true=>
   have hjl:j < s.going.length:=by rw [w.going];exact hj
   refine aS ⟨_,rfl,p,_,dp2,_,_,rfl,s3 _ _ ob2,T.ax,T.fJ,x.uO,_,rfl,x.ch,_,_,j,rfl,rfl,N3.chg,Tv (by rw [List.length_map];dsimp only;rw [Rk];exact hjl),?_⟩
   obtain ⟨N4,k4⟩:=N3.QC (gC (fun k=>(s.mapped (0x1A00+k)).contains (i,u)) (j+1) s.going) rfl (by dsimp only;rw [MV,MV]) (fun y hy=>by
    obtain ⟨z',hz,h1,_⟩:=Qz hy
    rw [h1]
    exact N.marks z' hz) (fun y hy h1 h2=>by
    obtain ⟨z',hz,_,h4,h5⟩:=Qz hy
    rw [h5]
    exact N.work z' hz (h4 ▸ h1) h2)
   rw [Tx (c:=fun k=>(s.mapped (0x1A00+k)).contains (i,u)) hcc hjl] at N4 k4
   exact ⟨_,rfl,N4,k3.trans k4⟩
 ·rintro σ H' ⟨bb,rfl,N2,k2⟩
  rw [←hput] at N2
  exact q H' x N2 k2
theorem RD{p:Nat→Bool}{n j:Nat}(hj:j < n)(h1:p j=true)(h2:∀k,k < j→p k=false):(List.range n).find? p=some j:=by
 rw [List.find?_range_eq_some]
 exact ⟨h1,List.mem_range.mpr hj,fun k hk=>by rw [h2 k hk];rfl⟩
theorem Ay(h:eD K t vs H Q E):vs.length=2:=by obtain ⟨p,s,x,id,rfl,_⟩:=h;rfl
theorem BX(T:cU K t)(h:eD K t vs H Q E):DF K t (Dn Q) (start sU vs) H:=by
 obtain ⟨p,s,x,id,rfl,⟨N,w⟩,q⟩:=h
 obtain ⟨dp,ob⟩:=N.ob
 refine ⟨4,rfl,by decide,by decide,?_⟩
 refine gq (n:=4) (fun j σ H'=>∃a,σ = [some (.ref p),some (.int (id:Int)),a]∧H'=H∧∀k,k < j→(s.num (0x1400+k) 1 == id)=false) ?_ ?_ ?_
 ·exact ⟨none,rfl,rfl,fun k hk=>by omega⟩
 ·rintro j σ H' hj ⟨a,rfl,rfl,hn⟩
  refine ⟨_,rfl,p,_,dp,_,_,rfl,ob,T.ax,T.aD,x.ba,_,rfl,_,_,rfl,rfl,x.en,x.aB,s,0x1400+j,1,v3 (by omega) rfl,N.ents,w.Vp hj,_,rfl,rfl,?_⟩
  by_cases z:s.num (0x1400+j) 1=id
  ·refine ⟨true,qc (by omega),aS ⟨_,rfl,?_⟩⟩
   have:xm s id= .int (0+ (j:Int)):=by
    unfold xm
    rw [RD hj (by simpa using z) hn,Int.zero_add]
    rfl
   show Q (.int (0+ (j:Int))) _
   rw [←this]
   exact q
  ·refine ⟨false,pD (by omega),aZ ⟨_,rfl,rfl,fun k hk=>?_⟩⟩
   by_cases zk:k=j
   ·subst zk;simpa using z
   ·exact hn k (by omega)
 ·rintro σ H' ⟨a,rfl,rfl,hn⟩
  have:xm s id= .bB:=by
   unfold xm
   rw [List.find?_range_eq_none.mpr fun k hk=>by rw [hn k hk];rfl]
   rfl
  show Q .bB _
  rw [←this]
  exact q
end
end Fn
namespace Fn
open PySem L2
section
variable{K:PySem.W.Frag}{t:bh}{vs:List V}{H:Hp}{Q:VK}{E:XK}
theorem WF.yF{s:Sa32.St}(w:WF s){k:Nat}(hk:k < 4):s.going[k]? = some (s.going.getD k {}):=by
 rw [List.getD_eq_getElem?_getD,List.getElem?_eq_getElem (by rw [w.going];exact hk)]
 rfl
theorem Qb{b c:Bool}(e:b=c)(q:Q (.bl c) H):Q (.bl b) H:=e ▸ q
theorem Oa(h:uy K t vs H Q E):vs.length=2:=by obtain ⟨p,s,x,k,rfl,_⟩:=h;rfl
theorem Pf(T:cU K t)(h:uy K t vs H Q E):RQ K t (Dn Q) (start M7 vs) H:=by
 obtain ⟨p,s,x,k,rfl,⟨N,w⟩,hk,q⟩:=h
 obtain ⟨dp,ob⟩:=N.ob
 refine ⟨_,rfl,p,_,dp,_,_,rfl,ob,T.ax,T.aD,x.ba,_,rfl,_,_,rfl,rfl,x.en,x.aB,s,0x1800+k,1,v3 (by omega) rfl,N.ents,w.Ud hk,_,_,rfl,rfl,?_⟩
 refine Qb ?_ q
 rw [Bool.eq_iff_iff,decide_eq_true_eq,decide_eq_true_eq]
 unfold Sa32.OFF
 omega
theorem Fz(h:lR K t vs H Q E):vs.length=2:=by obtain ⟨p,s,x,k,rfl,_⟩:=h;rfl
theorem Ih(T:cU K t)(h:lR K t vs H Q E):K1 K t (Dn Q) (start Bf vs) H:=by
 obtain ⟨p,s,x,k,rfl,⟨N,w⟩,hk,q⟩:=h
 obtain ⟨dp,ob⟩:=N.ob
 have hg:=w.yF hk
 have hgm:=List.mem_of_getElem? hg
 have hwh:=w.NY k hk 0x1800 (.inr rfl)
 have em:=N.marks _ hgm
 unfold oF at q
 refine ⟨_,rfl,p,_,dp,_,_,rfl,ob,T.ax,T.aD,x.ba,_,rfl,_,_,rfl,rfl,x.en,x.aB,s,0x1800+k,2,v3 (by omega) rfl,N.ents,w.UL hk,?_⟩
 generalize s.num (0x1800+k) 2=wh at *
 generalize s.going.getD k {}=g at *
 by_cases z:wh=0
 ·refine ⟨_,rfl,rfl,true,qc (by omega),aS ⟨_,rfl,p,_,dp,_,_,rfl,ob,T.ax,T.fJ,x.uO,_,rfl,x.ch,_,_,.bl g.changed,rfl,rfl,cb.of N.chg,RH (by rw [List.getElem?_map,hg];rfl),?_⟩⟩
  refine Qb ?_ q
  cases hc:g.changed with
  | true=>rw [decide_eq_true];exact .inl ⟨z,rfl⟩
  | false=>rw [decide_eq_false];rintro (w1 | w1);exact absurd w1.2 (by decide);omega
 ·refine ⟨_,rfl,rfl,false,pD (by omega),aZ ?_⟩
  by_cases z2:wh < 254
  ·refine ⟨_,rfl,_,_,rfl,rfl,true,tt (by omega),aS ⟨_,rfl,p,_,dp,_,_,rfl,ob,T.ax,T.lQ,x.Nk,_,rfl,_,_,rfl,rfl,(show (0:Int) < (wh:Int) by omega),rfl,?_⟩⟩
   refine Qb ?_ q
   rw [dI,Bool.eq_iff_iff,decide_eq_true_eq,decide_eq_true_eq,←em]
   constructor
   ·intro h;exact .inr ⟨by omega,by omega,by omega⟩
   ·rintro (h | h);exact absurd h.1 z;omega
  ·refine ⟨_,rfl,_,_,rfl,rfl,false,ff (by omega),aZ ?_⟩
   refine Qb ?_ q
   rw [decide_eq_false]
   rintro (h | h);exact z h.1;omega
theorem D0(h:jY K t vs H Q E):vs.length=2:=by obtain ⟨p,s,x,k,rfl,_⟩:=h;rfl
theorem ER(T:cU K t)(h:jY K t vs H Q E):IF K t (Dn Q) (start yx vs) H:=by
 obtain ⟨p,s,x,k,rfl,⟨N,w⟩,hk,h5,q⟩:=h
 obtain ⟨dp,ob⟩:=N.ob
 have hg:=w.yF hk
 have hgm:=List.mem_of_getElem? hg
 have ew:=N.work _ hgm
 have en:=N.now
 refine ⟨_,rfl,p,_,dp,_,_,rfl,ob,T.ax,T.aD,x.ba,_,rfl,_,_,rfl,rfl,x.en,x.aB,s,0x1800+k,5,v3 (by omega) rfl,N.ents,w.VP hk,?_⟩
 refine ⟨_,rfl,p,_,dp,_,_,rfl,ob,T.ax,T.ju,x.zH,_,rfl,x.sa,_,_,dH (s.going.getD k {}),rfl,rfl,cb.of N.sent,RH (by rw [List.getElem?_map,hg];rfl),?_⟩
 have rest:∀v:Int,v= ((s.going.getD k {}).at_:Int)→(bu (Dj (aV xC (ag 2) (tC (.int 0))) (aV (bP fun i j=> .bl (decide (j≤i))) (aV (bP fun i j=> .int (i - j)) (aT K (ag 0) "now") (ag 4)) (ag 2)))) (Dn Q) [some (.ref p),some (.int (k:Int)),some (.int ((s.num (0x1800+k) 5:Nat):Int)),some (dH (s.going.getD k {})),some (.int v)] H:=by
  intro v hv
  by_cases z:s.num (0x1800+k) 5=0
  ·refine ⟨_,rfl,rfl,false,GI (by omega),aZ (Qb ?_ q)⟩
   rw [decide_eq_false fun w=>w.1 z]
  ·refine ⟨_,rfl,rfl,true,zy (by omega),aS ⟨_,rfl,p,_,dp,_,_,rfl,ob,T.ax,T.bY,x.nZ,_,rfl,_,_,rfl,rfl,_,rfl,_,_,rfl,rfl,Qb ?_ q⟩⟩
   rw [Bool.eq_iff_iff,decide_eq_true_eq,decide_eq_true_eq]
   omega
 cases hs:(s.going.getD k {}).sent with
 | true=>
  have e:dH (s.going.getD k {})= .int ((s.going.getD k {}).at_:Int):=by unfold dH;rw [if_pos hs]
  rw [e] at rest ⊢
  exact ⟨_,rfl,false,rfl,aZ ⟨_,rfl,rest _ rfl⟩⟩
 | false=>
  have e:dH (s.going.getD k {})= .bB:=by unfold dH;rw [if_neg (by rw [hs];decide)]
  rw [e] at rest ⊢
  exact ⟨_,rfl,true,rfl,aS ⟨_,rfl,p,_,dp,_,_,rfl,ob,T.ax,T.pX,x.Jo,rest _ (ew hs h5).symm⟩⟩
theorem LY(h:vg K t vs H Q E):vs.length=2:=by obtain ⟨p,s,x,k,rfl,_⟩:=h;rfl
theorem O5(T:cU K t)(h:vg K t vs H Q E):QT K t (Dn Q) (start Lf vs) H:=by
 obtain ⟨p,s,x,k,rfl,⟨N,w⟩,hk,h5,q⟩:=h
 obtain ⟨dp,ob⟩:=N.ob
 have hg:=w.yF hk
 have en:=N.now
 unfold QE at q
 refine ⟨_,rfl,p,_,dp,_,_,rfl,ob,T.ax,T.aD,x.ba,_,rfl,_,_,rfl,rfl,x.en,x.aB,s,0x1800+k,2,v3 (by omega) rfl,N.ents,w.UL hk,?_⟩
 by_cases z:s.num (0x1800+k) 2 < 254
 ·refine ⟨_,_,rfl,rfl,true,tt (by omega),aS (Qb ?_ q)⟩
  rw [decide_eq_false fun w=>by omega]
 refine ⟨_,_,rfl,rfl,false,ff (by omega),aZ ?_⟩
 refine ⟨_,rfl,p,_,dp,_,_,rfl,ob,T.ax,T.ju,x.zH,_,rfl,x.sa,_,_,dH (s.going.getD k {}),rfl,rfl,cb.of N.sent,RH (by rw [List.getElem?_map,hg];rfl),?_⟩
 have rest:((s.going.getD k {}).changed=true∨(s.num (0x1800+k) 5 ≠ 0∧(s.going.getD k {}).at_+s.num (0x1800+k) 5≤s.now))→(bu (Tq (Fy (ag 2)) (aV (bP fun i j=> .bl (decide (j≤i))) (aV (bP fun i j=> .int (i - j)) (aT K (ag 0) "now") (ag 2)) (az (br K t) [] E0 (ae (aT K (ag 0) "entries") (ae (aV (bP fun i j=> .int (i+j)) (tC (.int 6144)) (ag 1)) (ae (tC (.int 3)) aw))))))) (Dn Q) [some (.ref p),some (.int (k:Int)),some (dH (s.going.getD k {}))] H:=by
  intro hc
  cases hs:(s.going.getD k {}).sent with
  | true=>
   have e:dH (s.going.getD k {})= .int ((s.going.getD k {}).at_:Int):=by unfold dH;rw [if_pos hs]
   rw [e]
   refine ⟨_,rfl,false,rfl,aZ ⟨_,rfl,p,_,dp,_,_,rfl,ob,T.ax,T.bY,x.nZ,_,rfl,_,_,rfl,rfl,_,rfl,p,_,dp,_,_,rfl,ob,T.ax,T.aD,x.ba,_,rfl,_,_,rfl,rfl,x.en,x.aB,s,0x1800+k,3,v3 (by omega) rfl,N.ents,w.VI hk,_,_,rfl,rfl,Qb ?_ q⟩⟩
   rw [hs,Bool.eq_iff_iff,decide_eq_true_eq,decide_eq_true_eq]
   constructor
   ·intro h;exact ⟨by omega,hc,.inr (by omega)⟩
   ·rintro ⟨_,_,h | h⟩;exact absurd h (by decide);omega
  | false=>
   have e:dH (s.going.getD k {})= .bB:=by unfold dH;rw [if_neg (by rw [hs];decide)]
   rw [e]
   refine ⟨_,rfl,true,rfl,aS (Qb ?_ q)⟩
   rw [decide_eq_true]
   exact ⟨by omega,hc,.inl hs⟩
 refine ⟨_,rfl,p,_,dp,_,_,rfl,ob,T.ax,T.fJ,x.uO,_,rfl,x.ch,_,_,.bl (s.going.getD k {}).changed,rfl,rfl,cb.of N.chg,RH (by rw [List.getElem?_map,hg];rfl),?_⟩
 cases hc:(s.going.getD k {}).changed with
 | true=>exact ⟨true,rfl,aZ (aZ (rest (.inl hc)))⟩
 | false=>
  refine ⟨false,rfl,aS ⟨_,rfl,_,rfl,p,s,x,k,rfl,⟨N,w⟩,hk,h5,_,rfl,?_⟩⟩
  by_cases z2:s.num (0x1800+k) 5 ≠ 0∧(s.going.getD k {}).at_+s.num (0x1800+k) 5≤s.now
  ·rw [decide_eq_true z2]
   exact aZ (rest (.inr z2))
  ·rw [decide_eq_false z2]
   refine aS (Qb ?_ q)
   rw [decide_eq_false]
   rintro ⟨_,h | h,_⟩
   ·rw [hc] at h;cases h
   ·exact z2 h
theorem IJ(h:kB K t vs H Q E):vs.length=2:=by obtain ⟨p,s,x,k,rfl,_⟩:=h;rfl
theorem mem_set{α:Type}{l:List α}{k:Nat}{v y:α}(h:y ∈ l.set k v):y=v∨y ∈ l:=(List.mem_or_eq_of_mem_set h).symm
theorem Kc(T:cU K t)(h:kB K t vs H Q E):LF K t (Dn Q) (start EH vs) H:=by
 obtain ⟨p,s,x,k,rfl,⟨N,w⟩,hk,q⟩:=h
 obtain ⟨dp,ob⟩:=N.ob
 have m:=w.maps k hk 0x1A00 (.inr rfl)
 refine ⟨(by show 0≤sizeLine;decide),fun dl hdl=>?_⟩
 have s1:aP H (upd H dl (.lst [])):=aP.new hdl
 refine ⟨_,rfl,p,_,dp,_,_,rfl,s1 _ _ ob,T.ax,T.aD,x.ba,_,rfl,_,_,rfl,rfl,x.en,x.aB,s,0x1A00+k,?_,N.ents.same s1,w.UE hk (.inr rfl),m.Ll,fun l H2 s2 e2 h2=>?_⟩
 ·have:(6656:Int)+ ((k:Nat):Int)= ((0x1A00+k:Nat):Int):=by omega
  rw [←this]
  rfl
 have hld:l ≠ dl:=fun z=>by rw [z,ao] at e2;cases e2
 refine ⟨l,rfl,⟨_,cb.of h2⟩,?_⟩
 refine yH (K:=K) (a:=l) (xs:=mG s (0x1A00+k)) (fun i σ H'=>∃a,σ = [some (.ref p),some (.int (k:Int)),some (.ref dl),a]∧aP H H'∧H' l=some (.lst (mG s (0x1A00+k)))∧H' dl=some (.lst (bV (((s.mapped (0x1A00+k)).take i).flatMap fun y=>s.val y.1 y.2)))) ?_ ?_ ?_ ?_
 ·exact ⟨none,rfl,s1.trans s2,h2,s2 _ _ ao⟩
 ·rintro i σ H' _ ⟨a,rfl,_,h,_⟩
  exact cb.of h
 ·rintro i v σ H' hv ⟨a,rfl,s3,h3,h4⟩
  obtain ⟨y,hy,rfl⟩:=z8 hv
  obtain ⟨e,he,_⟩:=ej m (List.mem_of_getElem? hy)
  have N3:=N.same s3
  obtain ⟨c,dx,hc,hx⟩:=N3.ents.entry he
  have hbd:=w.bounds (bo he).1
  have hfl:((s.mapped (0x1A00+k)).flatMap fun y=>s.val y.1 y.2).length≤8:=by rw [D8];exact CN m
  have hpre:(((s.mapped (0x1A00+k)).take (i+1)).flatMap fun y=>s.val y.1 y.2).length≤8:=by
   have e0:=List.take_append_drop (i+1) (s.mapped (0x1A00+k))
   rw [←e0,List.flatMap_append,List.length_append] at hfl
   omega
  have hnext:((s.mapped (0x1A00+k)).take (i+1)).flatMap (fun y=>s.val y.1 y.2)= ((s.mapped (0x1A00+k)).take i).flatMap (fun y=>s.val y.1 y.2) ++ e.val:=by
   rw [List.take_add_one,hy,List.flatMap_append]
   show _ ++ ([y].flatMap fun y=>s.val y.1 y.2)=_
   rw [List.flatMap_singleton,fC he]
  refine ⟨_,rfl,.inl ⟨rfl,_,cb.of h4⟩,?_⟩
  refine ⟨_,rfl,p,_,dp,_,_,rfl,s3 _ _ ob,T.ax,T.aD,x.ba,_,rfl,x.en,.ref c,rfl,gE.at N3.ents.dict hc,c,_,dx,_,_,rfl,hx,T.bH,T.bZ,fE e,?_⟩
  refine ⟨_,rfl,p,_,dp,_,_,rfl,s3 _ _ ob,T.ax,T.aD,x.ba,_,rfl,x.en,.ref c,rfl,gE.at N3.ents.dict hc,c,_,dx,_,_,rfl,hx,T.bH,T.bT,cR e,?_⟩
  refine ⟨Sa32.num e.val,e.val.length,rfl,by omega,fun r H5 s5 e5 h5=>?_⟩
  rw [Mu hbd.2.2.2.2.1] at h5
  rw [hnext,List.length_append] at hpre
  refine ⟨dl,r,_,_,rfl,rfl,s5 _ _ h4,h5,?_,?_⟩
  ·rw [bz,bz]
   exact Nat.le_of_lt (b7 (by omega))
  have hr:l ≠ dl:=hld
  refine ⟨_,rfl,fun b o hb=>ck (s5 _ _ (s3 _ _ hb)) (aE hb hdl),ck (s5 _ _ h3) hr,?_⟩
  rw [ao,Mz,hnext]
 ·rintro σ H' ⟨a,rfl,s3,_,h4⟩
  rw [List.take_of_length_le (by unfold mG;rw [List.length_map];exact Nat.le_refl _)] at h4
  have N3:=N.same s3
  refine ⟨_,rfl,p,dp,_,rfl,s3 _ _ ob,x.uU,?_⟩
  refine ⟨_,rfl,p,_,dp,_,_,rfl,s3 _ _ ob,T.ax,T.aD,x.ba,_,rfl,_,_,rfl,rfl,x.en,x.aB,s,0x1800+k,1,v3 (by omega) rfl,N3.ents,w.Ud hk,?_⟩
  refine ⟨_,rfl,p,s,x,dl,s.num (0x1800+k) 1,_,rfl,N3,w.out,h4,N.mz hdl,fun H6 x6 N6 k6=>?_⟩
  have k06:=(s3.keep (x.F p)).trans k6
  have e0:s.sendMap k= {s.send (s.num (0x1800+k) 1) ((s.mapped (0x1A00+k)).flatMap fun y=>s.val y.1 y.2) with going:=(s.send (s.num (0x1800+k) 1) ((s.mapped (0x1A00+k)).flatMap fun y=>s.val y.1 y.2)).going.set k {(s.send (s.num (0x1800+k) 1) ((s.mapped (0x1A00+k)).flatMap fun y=>s.val y.1 y.2)).going.getD k {} with changed:=false,at_:=s.now,sent:=true}}:=rfl
  have w6:WF (s.send (s.num (0x1800+k) 1) ((s.mapped (0x1A00+k)).flatMap fun y=>s.val y.1 y.2)):=w.send (fun b hb=>by
   obtain ⟨y,hy,hb⟩:=List.mem_flatMap.mp hb
   obtain ⟨e,he,_⟩:=ej m hy
   rw [fC he] at hb
   exact w.vq e (bo he).1 b hb) (by rw [D8];exact CN m)
  have en6:(s.send (s.num (0x1800+k) 1) ((s.mapped (0x1A00+k)).flatMap fun y=>s.val y.1 y.2)).now=s.now:=by unfold Sa32.St.send;split <;> rfl
  rw [←en6] at e0
  generalize s.send (s.num (0x1800+k) 1) ((s.mapped (0x1A00+k)).flatMap fun y=>s.val y.1 y.2)=s6 at *
  obtain ⟨dp6,ob6⟩:=N6.ob
  have hg:=w6.yF hk
  have hgm:=List.mem_of_getElem? hg
  have en:=N6.now
  refine ⟨_,rfl,p,_,dp6,_,_,rfl,ob6,T.ax,T.fJ,x6.uO,_,rfl,x6.ch,_,_,k,rfl,rfl,N6.chg,Av (by rw [List.length_map,w6.going];exact hk),?_⟩
  obtain ⟨N7,k7⟩:=N6.QC (s6.going.set k {s6.going.getD k {} with changed:=false}) rfl (by rw [List.map_set];exact set_same (by rw [List.getElem?_map,hg];rfl)) (fun y hy=>by
    rcases mem_set hy with rfl | hy
    ·exact N6.marks (s6.going.getD k {}) hgm
    ·exact N6.marks y hy) (fun y hy h1 h2=>by
    rcases mem_set hy with rfl | hy
    ·exact N6.work (s6.going.getD k {}) hgm h1 h2
    ·exact N6.work y hy h1 h2)
  rw [List.map_set] at N7 k7
  obtain ⟨dp7,ob7⟩:=N7.ob
  refine ⟨_,rfl,p,_,dp7,_,_,rfl,ob7,T.ax,T.bY,x6.nZ,_,rfl,p,_,dp7,_,_,rfl,ob7,T.ax,T.ju,x6.zH,_,rfl,x6.sa,_,_,k,rfl,rfl,N7.sent,Av (by rw [List.length_map];dsimp only;rw [List.length_set,w6.going];exact hk),?_⟩
  obtain ⟨N8,k8⟩:=N7.Tg (s':=s.sendMap k) ((s6.going.set k {s6.going.getD k {} with changed:=false}).set k {s6.going.getD k {} with changed:=false,at_:=s6.now,sent:=true}) (by rw [e0,List.set_set]) (by rw [List.map_set];exact set_same (by
    rw [List.getElem?_map,List.getElem?_set,if_pos rfl,if_pos (by rw [w6.going];exact hk)];rfl)) (fun y hy=>by
    rcases mem_set hy with rfl | hy
    ·exact N6.marks (s6.going.getD k {}) hgm
    ·exact N7.marks y hy) (fun y hy h1 h2=>by
    rcases mem_set hy with rfl | hy
    ·cases h1
    ·exact N7.work y hy h1 h2)
  rw [List.map_set] at N8 k8
  have esv:dH ({s6.going.getD k {} with changed:=false,at_:=s6.now,sent:=true}:Sa32.Going)= .int x6.now:=by rw [en];rfl
  rw [esv] at N8 k8
  exact q _ x6 N8 (k06.trans (k7.trans k8))
end
end Fn
namespace Fn
open PySem L2
section
variable{K:PySem.W.Frag}{t:bh}{vs:List V}{H:Hp}{Q:VK}{E:XK}
def jG(s:Sa32.St)(k:Nat):Sa32.St:=if s.may k=true∧0xFE≤s.num (0x1800+k) 2∧((s.going.getD k {}).changed=true∨(s.num (0x1800+k) 5 ≠ 0∧(s.going.getD k {}).at_+s.num (0x1800+k) 5≤s.now))∧((s.going.getD k {}).sent=false∨(s.going.getD k {}).at_+s.num (0x1800+k) 3≤s.now) then s.sendMap k else s
theorem R8(s:Sa32.St):s.maps= (List.range 4).foldl jG s:=rfl
theorem v7(s:Sa32.St)(k:Nat):(s.sendMap k).state=s.state:=by
 unfold Sa32.St.sendMap Sa32.St.send
 simp only
 split <;> rfl
theorem K6(s:Sa32.St)(k:Nat):(jG s k).state=s.state:=by
 unfold jG
 split
 ·exact v7 s k
 ·rfl
theorem WF.jG{s:Sa32.St}(w:WF s){k:Nat}(hk:k < 4):WF (jG s k):=by
 unfold Fn.jG
 split
 ·exact w.sendMap hk
 ·exact w
theorem Pa{s:Sa32.St}(h5:s.state=5)(k:Nat):jG s k=if decide (s.num (0x1800+k) 1 < Sa32.OFF)=true then (if QE s k=true then s.sendMap k else s) else s:=by
 unfold jG QE Sa32.St.may Sa32.WORK
 rw [h5]
 by_cases z:s.num (0x1800+k) 1 < Sa32.OFF
 ·rw [if_pos (decide_eq_true z),decide_eq_true z]
  simp
 ·rw [if_neg fun w=>z (of_decide_eq_true w),decide_eq_false z]
  simp
theorem zm(h:dX K t vs H Q E):vs.length=1:=by obtain ⟨p,s,x,rfl,_⟩:=h;rfl
theorem Am(T:cU K t)(h:dX K t vs H Q E):BP K t (Dn Q) (start sF vs) H:=by
 obtain ⟨p,s,x,rfl,⟨N,w⟩,q⟩:=h
 obtain ⟨dp,ob⟩:=N.ob
 have es:=N.state
 by_cases h5:s.state=5
 ·refine ⟨_,rfl,p,_,dp,_,_,rfl,ob,T.ax,T.bJ,x.gy,rfl,false,GI (by omega),aZ ?_⟩
  refine ⟨4,rfl,by decide,by decide,?_⟩
  refine gq (n:=4) (fun j σ H'=>∃a x',σ = [some (.ref p),a]∧cg t H' p ((List.range j).foldl jG s) x'∧((List.range j).foldl jG s).state=5∧bX H (x.F p) H' (x'.F p)) ?_ ?_ ?_
  ·exact ⟨none,x,rfl,⟨N,w⟩,h5,bX.refl _ _⟩
  ·rintro j σ H' hj ⟨a,x1,rfl,⟨N1,w1⟩,h51,k1⟩
   rw [List.range_succ,List.foldl_append,List.foldl_cons,List.foldl_nil]
   generalize (List.range j).foldl jG s=s1 at *
   have e0:(0:Int)+ ((j:Nat):Int)= (j:Int):=by omega
   rw [e0]
   have hs:=K6 s1 j
   rw [h51] at hs
   have hm:=Pa h51 j
   refine ⟨_,rfl,_,rfl,p,s1,x1,j,rfl,⟨N1,w1⟩,hj,_,rfl,?_⟩
   cases hz:decide (s1.num (0x1800+j) 1 < Sa32.OFF) with
   | false=>
    rw [hz,if_neg (by decide)] at hm
    exact aZ (aZ ⟨_,x1,rfl,by rw [hm];exact ⟨N1,w1⟩,hs,k1⟩)
   | true=>
    rw [hz,if_pos rfl] at hm
    refine aS ⟨_,rfl,_,rfl,p,s1,x1,j,rfl,⟨N1,w1⟩,hj,h51,_,rfl,?_⟩
    cases hd:QE s1 j with
    | false=>
     rw [hd,if_neg (by decide)] at hm
     exact aZ ⟨_,x1,rfl,by rw [hm];exact ⟨N1,w1⟩,hs,k1⟩
    | true=>
     rw [hd,if_pos rfl] at hm
     refine aS ⟨_,rfl,_,rfl,p,s1,x1,j,rfl,⟨N1,w1⟩,hj,fun H2 x2 N2 k2=>?_⟩
     rw [←hm] at N2
     exact ⟨_,x2,rfl,⟨N2,w1.jG hj⟩,hs,k1.trans k2⟩
  ·rintro σ H' ⟨a,x1,rfl,⟨N1,w1⟩,h51,k1⟩
   exact q H' x1 N1 k1
 ·refine ⟨_,rfl,p,_,dp,_,_,rfl,ob,T.ax,T.bJ,x.gy,rfl,true,zy (by omega),aS ?_⟩
  have e:s.maps=s:=by
   rw [R8]
   have f:∀k,jG s k=s:=fun k=>by
    unfold jG Sa32.St.may Sa32.WORK
    rw [if_neg]
    rintro ⟨h,_⟩
    rw [Bool.and_eq_true] at h
    exact h5 (by simpa using h.1)
   show jG (jG (jG (jG s 0) 1) 2) 3=s
   rw [f,f,f,f]
  refine q H x ?_ (bX.refl _ _)
  rw [e]
  exact N
theorem me(y:Nat × Nat)(r:List (Nat × Nat))(b:List Nat)(s:Sa32.St):Sa32.takeMap (y::r) b s=Sa32.takeMap r (b.drop (s.val y.1 y.2).length) (s.put y.1 y.2 (b.take (s.val y.1 y.2).length)):=rfl
theorem KJ{s:Sa32.St}{i u:Nat}{e:Sa32.Ent}{b:List Nat}(he:s.ent i u=some e)(hb:b.length=e.val.length)(i' u':Nat):((s.put i u b).val i' u').length= (s.val i' u').length:=by
 by_cases z:i'=i∧u'=u
 ·obtain ⟨rfl,rfl⟩:=z
  rw [CI he,fC he,hb]
 ·rw [Ef z]
theorem O8{s:Sa32.St}{i u:Nat}{e:Sa32.Ent}{b:List Nat}(he:s.ent i u=some e)(hb:b.length=e.val.length)(l:List (Nat × Nat)):c9 (s.put i u b) l=c9 s l:=by
 unfold c9
 congr 1
 exact List.map_congr_left fun y _=>KJ he hb y.1 y.2
theorem Ms(h:pZ K t vs H Q E):vs.length=3:=by obtain ⟨p,s,x,d,b,k,rfl,_⟩:=h;rfl
theorem OO(T:cU K t)(h:pZ K t vs H Q E):PZ K t (Dn Q) (start J3 vs) H:=by
 obtain ⟨p,s,x,d,b,k,rfl,⟨N,w⟩,hk,hd,hdF,hb,hsz,q⟩:=h
 obtain ⟨dp,ob⟩:=N.ob
 have m:=w.maps k hk 0x1600 (.inl rfl)
 refine ⟨_,rfl,p,_,dp,_,_,rfl,ob,T.ax,T.aD,x.ba,_,rfl,_,_,rfl,rfl,x.en,x.aB,s,0x1600+k,?_,N.ents,w.UE hk (.inl rfl),m.Ll,fun l H2 s2 e2 h2=>?_⟩
 ·have:(5632:Int)+ ((k:Nat):Int)= ((0x1600+k:Nat):Int):=by omega
  rw [←this]
  rfl
 refine ⟨l,rfl,⟨_,cb.of h2⟩,?_⟩
 refine yH (K:=K) (a:=l) (xs:=mG s (0x1600+k)) (fun i σ H'=>∃a c x' s',∃n:Nat,σ = [some (.ref p),some (.int (k:Int)),some (.ref d),some (.int (n:Int)),a,c]∧cg t H' p s' x'∧bX H (x.F p) H' (x'.F p)∧H' l=some (.lst (mG s (0x1600+k)))∧¬x'.F p l∧H' d=some (.lst (bV b))∧¬x'.F p d∧
   Sa32.takeMap ((s.mapped (0x1600+k)).drop i) (b.drop n) s'=Sa32.takeMap (s.mapped (0x1600+k)) b s∧n+c9 s' ((s.mapped (0x1600+k)).drop i)≤b.length∧∀y,y ∈ s.mapped (0x1600+k)→∃e,s'.ent y.1 y.2=some e∧e.m=true) ?_ ?_ ?_ ?_
 ·exact ⟨none,none,x,s,0,rfl,⟨N.same s2,w⟩,s2.keep _,h2,N.mz e2,s2 _ _ hd,hdF,rfl,by rw [List.drop_zero];omega,fun y hy=>ej m hy⟩
 ·rintro i σ H' _ ⟨a,c,x',s',n,rfl,_,_,h,_⟩
  exact cb.of h
 ·rintro i v σ H' hv ⟨a,c,x1,s1,n,rfl,⟨N1,w1⟩,k1,hl,hlF,hd1,hdF1,htk,hsz1,hm⟩
  obtain ⟨y,hy,rfl⟩:=z8 hv
  obtain ⟨e,he,hem⟩:=hm y (List.mem_of_getElem? hy)
  obtain ⟨dp1,ob1⟩:=N1.ob
  obtain ⟨z,dx,hz,hx⟩:=N1.ents.entry he
  have hbd:=w1.bounds (bo he).1
  have hi:i < (s.mapped (0x1600+k)).length:=(List.getElem?_eq_some_iff.mp hy).1
  have hdrop:(s.mapped (0x1600+k)).drop i=y::(s.mapped (0x1600+k)).drop (i+1):=by
   rw [List.drop_eq_getElem_cons hi,(List.getElem?_eq_some_iff.mp hy).2]
  rw [hdrop] at htk hsz1
  rw [me,fC he] at htk
  have hsz2:n+ (e.val.length+c9 s1 ((s.mapped (0x1600+k)).drop (i+1)))≤b.length:=by
   have:c9 s1 (y::(s.mapped (0x1600+k)).drop (i+1))=e.val.length+c9 s1 ((s.mapped (0x1600+k)).drop (i+1)):=by
    unfold c9
    rw [List.map_cons,List.sum_cons,fC he]
   rw [this] at hsz1
   exact hsz1
  refine ⟨_,rfl,p,_,dp1,_,_,rfl,ob1,T.ax,T.aD,x1.ba,_,rfl,x1.en,.ref z,rfl,gE.at N1.ents.dict hz,z,_,dx,_,_,rfl,hx,T.bH,T.bT,cR e,?_⟩
  refine ⟨_,rfl,_,rfl,_,rfl,_,rfl,_,rfl,_,rfl,_,rfl,_,_,rfl,rfl,_,rfl,d,_,rfl,cb.of hd1,fun r hr=>?_⟩
  have s3:aP H' (upd H' r (.lst (jV (bV b) (some (n:Int)) (some ((n:Int)+ (e.val.length:Int)))))):=aP.new hr
  have hcut:jV (bV b) (some (n:Int)) (some ((n:Int)+ (e.val.length:Int)))=bV ((b.drop n).take e.val.length):=by
   have:=m4 b n (n+e.val.length)
   rw [Nat.add_sub_cancel_left] at this
   rw [←this]
   congr 2
  refine ⟨r,(b.drop n).take e.val.length,rfl,by rw [ao,hcut],?_⟩
  have hlen:((b.drop n).take e.val.length).length=e.val.length:=by rw [List.length_take,List.length_drop];omega
  have hi2:0x2000≤y.1:=by
   have:=hbd.2.2.2.2.2 hem
   rw [(bo he).2.1] at this
   exact this
  have pk:lg s1 y.1 y.2 ((b.drop n).take e.val.length):=lg.free (gO (gS hb _) _) (by rw [hlen];exact w1.mS he) (.inl hi2)
  have w2:=w1.put pk
  refine ⟨p,s1,x1,e,(b.drop n).take e.val.length,y.1,y.2,rfl,⟨N1.same s3,w1⟩,he,hlen,gO (gS hb _) _,fun k' hk'=>w2.maps k' hk' 0x1A00 (.inr rfl),fun H4 x4 N4 k4=>?_⟩
  have k14:=(s3.keep (x1.F p)).trans k4
  refine ⟨_,rfl,_,rfl,_,_,rfl,rfl,?_⟩
  refine ⟨some (.int (bD y.1 y.2)),some (.int (e.val.length:Int)),x4,_,n+e.val.length,?_,⟨N4,w2⟩,k1.trans k14,k14.old _ _ hl hlF,fun zz=>(k14.foot _ zz).elim hlF fun zz=>(by rw [hl] at zz;cases zz),k14.old _ _ hd1 hdF1,fun zz=>(k14.foot _ zz).elim hdF1 fun zz=>(by rw [hd1] at zz;cases zz),?_,?_,fun y' hy'=>?_⟩
  ·rfl
  ·rw [←htk,List.drop_drop]
  ·rw [O8 he hlen]
   omega
  ·obtain ⟨e',h1,h2⟩:=hm y' hy'
   rw [eT]
   split
   ·rename_i zz
    rw [he]
    exact ⟨_,rfl,hem⟩
   ·exact ⟨e',h1,h2⟩
 ·rintro σ H' ⟨a,c,x1,s1,n,rfl,⟨N1,w1⟩,k1,_,_,_,_,htk,_⟩
  rw [List.drop_of_length_le (by unfold mG;rw [List.length_map];exact Nat.le_refl _)] at htk
  have htk:s1=Sa32.takeMap (s.mapped (0x1600+k)) b s:=htk
  rw [htk] at N1
  exact q H' x1 N1 k1
theorem BQ(h:jf K t vs H Q E):vs.length=3:=by obtain ⟨p,s,x,d,b,k,rfl,_⟩:=h;rfl
theorem rj{α β:Type}{R:α→β→Prop}:∀{l:List α}{m:List β},Paired R l m→∀{i:Nat}{b:β},m[i]? = some b→∃a,l[i]? = some a∧R a b
 | _,_,.nil,i,b,h=>by simp at h
 | _,_,.cons r t,0,b,h=>by
  have h:=Option.some.inj h
  subst h
  exact ⟨_,rfl,r⟩
 | _,_,.cons r t,i+1,b,h=>rj t (i:=i) (by simpa using h)
theorem wZ{α β:Type}{R:α→β→Prop}{a:α}{b:β}(r:R a b):∀{l:List α}{m:List β}(i:Nat),Paired R l m→Paired R (l.set i a) (m.set i b)
 | _,_,_,.nil=> .nil
 | _,_,0,.cons _ t=> .cons r t
 | _,_,i+1,.cons r' t=> .cons r' (wZ r i t)
theorem WF.keptAt{s:Sa32.St}(w:WF s){k:Nat}(hk:k < 4):s.kept[k]? = some (s.kept.getD k none):=by
 rw [List.getD_eq_getElem?_getD,List.getElem?_eq_getElem (by rw [w.kept];exact hk)]
 rfl
theorem CW(T:cU K t)(h:jf K t vs H Q E):Fd K t (Dn Q) (start vJ vs) H:=by
 obtain ⟨p,s,x,d,b,k,rfl,⟨N,w⟩,hk,hd,hdF,hb,hb8,q⟩:=h
 obtain ⟨dp,ob⟩:=N.ob
 have hwh:=w.NY k hk 0x1400 (.inl rfl)
 unfold CY at q
 refine ⟨_,rfl,d,_,rfl,.inl (cb.of hd),_,rfl,p,_,dp,_,_,rfl,ob,T.ax,T.aD,x.ba,_,rfl,_,_,rfl,rfl,x.en,x.aB,s,0x1600,k,?_,N.ents,w,hk,.inl rfl,fun H1 s1=>?_⟩
 ·have:(5632:Int)+ ((k:Nat):Int)= ((0x1600+k:Nat):Int):=by omega
  rw [←this]
  rfl
 have N1:=N.same s1
 have hd1:=s1 _ _ hd
 have ob1:=s1 _ _ ob
 by_cases z:b.length < c9 s (s.mapped (0x1600+k))
 ·refine ⟨_,_,rfl,rfl,true,tt (by rw [bz];omega),aS ?_⟩
  refine ⟨_,rfl,p,dp,_,rfl,ob1,x.ph,p,s,x,0x8210,4,rfl,⟨N1,w⟩,by decide,by decide,fun H2 x2 N2 k2=>q H2 x2 ?_ ((s1.keep _).trans k2)⟩
  rw [if_pos z]
  exact N2
 refine ⟨_,_,rfl,rfl,false,ff (by rw [bz];omega),aZ ?_⟩
 refine ⟨_,rfl,p,_,dp,_,_,rfl,ob1,T.ax,T.aD,x.ba,_,rfl,_,_,rfl,rfl,x.en,x.aB,s,0x1400+k,2,v3 (by omega) rfl,N1.ents,w.Wi hk,?_⟩
 by_cases z2:s.num (0x1400+k) 2≤0xF0
 ·refine ⟨_,_,rfl,rfl,true,tt (by omega),aS ?_⟩
  refine ⟨_,rfl,d,_,rfl,.inl (cb.of hd1),fun a ha=>?_⟩
  have s2:aP H1 (upd H1 a (.lst (bV b))):=aP.new ha
  have N2:=N1.same s2
  obtain ⟨ks,h4,h4'⟩:=N2.kept
  have hl4:=Paired.length h4'
  refine ⟨_,rfl,p,_,dp,_,_,rfl,s2 _ _ ob1,T.ax,T.nD,x.MJ,_,rfl,x.kp,_,_,k,rfl,rfl,h4,Av (by rw [hl4,w.kept];exact hk),?_⟩
  obtain ⟨N3,k3⟩:=N2.PF (ks.set k (.ref a)) (s.kept.set k (some b)) (wZ ⟨a,rfl,ao,N1.mz ha⟩ k h4')
  refine q _ x ?_ (((s1.trans s2).keep _).trans k3)
  rw [if_neg z,if_pos z2]
  exact N3
 ·refine ⟨_,_,rfl,rfl,false,ff (by omega),aZ ?_⟩
  refine ⟨_,rfl,_,rfl,_,rfl,p,s,x,d,b,k,rfl,⟨N1,w⟩,hk,hd1,hdF,hb,by omega,fun H2 x2 N2 k2=>q H2 x2 ?_ ((s1.keep _).trans k2)⟩
  rw [if_neg z,if_neg z2]
  exact N2
theorem FG(h:lI K t vs H Q E):vs.length=2:=by obtain ⟨p,s,x,k,rfl,_⟩:=h;rfl
theorem IT(T:cU K t)(h:lI K t vs H Q E):JU K t (Dn Q) (start A8 vs) H:=by
 obtain ⟨p,s,x,k,rfl,⟨N,w⟩,hk,q⟩:=h
 obtain ⟨dp,ob⟩:=N.ob
 obtain ⟨ks,h4,h4'⟩:=N.kept
 have hl4:=Paired.length h4'
 have hkk:=w.keptAt hk
 obtain ⟨v,hv,hr⟩:=rj h4' hkk
 unfold dO at q
 refine ⟨_,rfl,p,_,dp,_,_,rfl,ob,T.ax,T.nD,x.MJ,_,rfl,x.kp,_,_,v,rfl,rfl,cb.of h4,RH hv,?_⟩
 refine ⟨_,rfl,p,_,dp,_,_,rfl,ob,T.ax,T.nD,x.MJ,_,rfl,x.kp,_,_,k,rfl,rfl,h4,Av (by rw [hl4,w.kept];exact hk),?_⟩
 obtain ⟨N1,k1⟩:=N.PF (ks.set k .bB) (s.kept.set k none) (wZ (R:=wU H (x.F p)) (a:= .bB) (b:=none) rfl k h4')
 have w1:=mO w k
 obtain ⟨dp1,ob1⟩:=N1.ob
 cases hb:s.kept.getD k none with
 | none=>
  rw [hb] at hr q
  have hr:v= .bB:=hr
  subst hr
  refine ⟨_,rfl,false,rfl,aZ (aZ (q _ x ?_ k1))⟩
  have e:s.kept.set k none=s.kept:=set_same (by rw [hkk,hb])
  rw [e] at N1
  exact N1
 | some b=>
  rw [hb] at hr q
  obtain ⟨a,rfl,ha,haF⟩:=hr
  have hbb:=w.qb b (by rw [←hb];exact List.mem_of_getElem? hkk)
  have ha1:=k1.old _ _ ha haF
  refine ⟨_,rfl,true,rfl,aS ⟨_,rfl,a,_,rfl,.inl (cb.of ha1),?_⟩⟩
  refine ⟨_,rfl,p,_,dp1,_,_,rfl,ob1,T.ax,T.aD,x.ba,_,rfl,_,_,rfl,rfl,x.en,x.aB,_,0x1600,k,?_,N1.ents,w1,hk,.inl rfl,fun H2 s2=>?_⟩
  ·have:(5632:Int)+ ((k:Nat):Int)= ((0x1600+k:Nat):Int):=by omega
   rw [←this]
   rfl
  by_cases z:b.length < c9 s (s.mapped (0x1600+k))
  ·refine ⟨_,_,rfl,rfl,false,ff (by
    rw [bz]
    show ¬((c9 s (s.mapped (0x1600+k)):Nat):Int)≤(b.length:Int)
    omega),aZ (q _ x ?_ (k1.trans (s2.keep _)))⟩
   simp only
   rw [if_pos z]
   exact N1.same s2
  ·refine ⟨_,_,rfl,rfl,true,tt (by
    rw [bz]
    show ((c9 s (s.mapped (0x1600+k)):Nat):Int)≤(b.length:Int)
    omega),aS ?_⟩
   refine ⟨_,rfl,_,rfl,_,rfl,p,_,x,a,b,k,rfl,⟨N1.same s2,w1⟩,hk,s2 _ _ ha1,haF,hbb.1,?_,fun H3 x3 N3 k3=>q _ x3 ?_ ((k1.trans (s2.keep _)).trans k3)⟩
   ·show c9 s (s.mapped (0x1600+k))≤b.length
    omega
   ·simp only
    rw [if_neg z]
    exact N3
end
end Fn
namespace Fn
open PySem L2
section
def gM(j n:Nat)(g:List Sa32.Going):List Sa32.Going:=g.zipIdx.map fun y=>if j≤y.2 then {y.1 with marks:=n} else y.1
def sM(j n:Nat)(s:Sa32.St):Sa32.St:={s with going:=gM j n s.going}
theorem oW(j n:Nat)(g:List Sa32.Going)(i:Nat):(gM j n g)[i]? = (g[i]?).map fun y=>if j≤i then {y with marks:=n} else y:=by
 unfold gM
 rw [List.getElem?_map,List.getElem?_zipIdx]
 cases g[i]? with
 | none=>rfl
 | some y=>
  show some (if j≤0+i then _ else _)=_
  rw [Nat.zero_add]
  rfl
theorem Ux(j n:Nat)(g:List Sa32.Going):(gM j n g).length=g.length:=by simp [gM]
theorem Ss(n:Nat)(g:List Sa32.Going):gM 0 n g=g.map fun y=>{y with marks:=n}:=by
 refine List.ext_getElem? fun i=>?_
 rw [oW,List.getElem?_map]
 cases g[i]? with
 | none=>rfl
 | some y=>show some (if 0≤i then _ else _)=some _;rw [if_pos (Nat.zero_le _)]
theorem SD{j n:Nat}{g:List Sa32.Going}(h:g.length≤j):gM j n g=g:=by
 refine List.ext_getElem? fun i=>?_
 rw [oW]
 cases q:g[i]? with
 | none=>rfl
 | some y=>
  have:=(List.getElem?_eq_some_iff.mp q).1
  show some (if j≤i then _ else _)=_
  rw [if_neg (by omega)]
theorem UT(j n:Nat)(g:List Sa32.Going)(c:Nat→Bool):((gM j n g).zipIdx.map fun y=>if c y.2=true then {y.1 with changed:=true} else y.1)=gM j n (g.zipIdx.map fun y=>if c y.2=true then {y.1 with changed:=true} else y.1):=by
 refine List.ext_getElem? fun i=>?_
 rw [List.getElem?_map,List.getElem?_zipIdx,oW,oW,List.getElem?_map,List.getElem?_zipIdx]
 cases g[i]? with
 | none=>rfl
 | some y=>
  show some (if c (0+i)=true then {(if j≤i then {y with marks:=n} else y:Sa32.Going) with changed:=true} else (if j≤i then {y with marks:=n} else y:Sa32.Going))=some (if j≤i then {(if c (0+i)=true then {y with changed:=true} else y:Sa32.Going) with marks:=n} else (if c (0+i)=true then {y with changed:=true} else y:Sa32.Going))
  congr 1
  by_cases z1:c (0+i)=true <;> by_cases z2:j≤i
  ·rw [if_pos z1,if_pos z2,if_pos z2,if_pos z1]
  ·rw [if_pos z1,if_neg z2,if_neg z2,if_pos z1]
  ·rw [if_neg z1,if_pos z2,if_pos z2,if_neg z1]
  ·rw [if_neg z1,if_neg z2,if_neg z2,if_neg z1]
theorem Uu(j n:Nat)(s:Sa32.St)(i u:Nat)(b:List Nat):(sM j n s).put i u b=sM j n (s.put i u b):=by
 unfold Sa32.St.put
 by_cases z:s.val i u=b
 ·rw [if_pos z,if_pos (show (sM j n s).val i u=b from z)]
 ·rw [if_neg z,if_neg (show ¬(sM j n s).val i u=b from z)]
  unfold sM
  simp only
  congr 1
  exact UT j n s.going fun k=>(s.mapped (0x1A00+k)).contains (i,u)
theorem CD(j n:Nat):∀(l:List (Nat × Nat))(b:List Nat)(s:Sa32.St),Sa32.takeMap l b (sM j n s)=sM j n (Sa32.takeMap l b s)
 | [],_,_=>rfl
 | y::r,b,s=>by
  rw [me,me,Uu,CD j n r]
  rfl
theorem R6(j n:Nat)(s:Sa32.St)(k:Nat):dO (sM j n s) k=sM j n (dO s k):=by
 unfold dO
 show (match s.kept.getD k none with
  | some b=>if b.length < c9 s (s.mapped (0x1600+k)) then sM j n {s with kept:=s.kept.set k none} else Sa32.takeMap (s.mapped (0x1600+k)) b (sM j n {s with kept:=s.kept.set k none})
  | none=>sM j n s)=_
 cases s.kept.getD k none with
 | none=>rfl
 | some b=>
  simp only
  split
  ·rfl
  ·rw [CD]
theorem Ku(j n:Nat):∀(l:List Nat)(s:Sa32.St),l.foldl dO (sM j n s)=sM j n (l.foldl dO s)
 | [],_=>rfl
 | k::l,s=>by rw [List.foldl_cons,List.foldl_cons,R6,Ku j n l]
def mP(s:Sa32.St)(k:Nat):Sa32.St:=
 let g:=s.going.getD k {}
 let when_:=s.num (0x1800+k) 2
 let n:=(g.marks+1) % 2 ^ 32
 let s:={s with going:=s.going.set k {g with marks:=n}}
 if s.may k=true∧((when_=0∧g.changed=true)∨(1≤when_∧when_≤0xF0∧n % when_=0)) then s.sendMap k else s
theorem RG(s:Sa32.St):Sa32.mark s= (List.range 4).foldl mP ((List.range 4).foldl dO s):=rfl
def vZ(s:Sa32.St)(k:Nat):Sa32.St:=if decide (s.num (0x1800+k) 1 < Sa32.OFF)=true then (if oF s k=true then s.sendMap k else s) else s
theorem Lx{j n k:Nat}(hk:k < j)(s:Sa32.St):(sM j n s).sendMap k=sM j n (s.sendMap k):=by
 unfold Sa32.St.sendMap
 have e:(sM j n s).send (s.num (0x1800+k) 1) ((s.mapped (0x1A00+k)).flatMap fun x=>s.val x.1 x.2)=sM j n (s.send (s.num (0x1800+k) 1) ((s.mapped (0x1A00+k)).flatMap fun x=>s.val x.1 x.2)):=by
  unfold Sa32.St.send
  by_cases z:s.out.length < 32
  ·rw [if_pos z,if_pos (show (sM j n s).out.length < 32 from z)]
   rfl
  ·rw [if_neg z,if_neg (show ¬(sM j n s).out.length < 32 from z)]
 show ({(sM j n s).send (s.num (0x1800+k) 1) ((s.mapped (0x1A00+k)).flatMap fun x=>s.val x.1 x.2) with going:=_}:Sa32.St)=_
 simp only
 show ({(sM j n s).send (s.num (0x1800+k) 1) ((s.mapped (0x1A00+k)).flatMap fun x=>s.val x.1 x.2) with going:=((sM j n s).send (s.num (0x1800+k) 1) ((s.mapped (0x1A00+k)).flatMap fun x=>s.val x.1 x.2)).going.set k {((sM j n s).send (s.num (0x1800+k) 1) ((s.mapped (0x1A00+k)).flatMap fun x=>s.val x.1 x.2)).going.getD k {} with changed:=false,at_:=s.now,sent:=true}}:Sa32.St)=_
 rw [e]
 generalize s.send (s.num (0x1800+k) 1) ((s.mapped (0x1A00+k)).flatMap fun x=>s.val x.1 x.2)=s1
 unfold sM
 simp only
 congr 1
 refine List.ext_getElem? fun i=>?_
 rw [oW,List.getElem?_set,List.getElem?_set,Ux,oW]
 by_cases z:k=i
 ·subst z
  rw [if_pos rfl,if_pos rfl]
  have e2:(gM j n s1.going).getD k {}=s1.going.getD k {}:=by
   rw [List.getD_eq_getElem?_getD,List.getD_eq_getElem?_getD,oW]
   cases s1.going[k]? with
   | none=>rfl
   | some y=>show (if j≤k then _ else _)=_;rw [if_neg (by omega)];rfl
  rw [e2]
  split
  ·show _=some (if j≤k then _ else _)
   rw [if_neg (by omega)]
  ·rfl
 ·rw [if_neg z,if_neg z]
theorem Uh{j n:Nat}{s:Sa32.St}(hj:j < s.going.length):sM (j+1) n {s with going:=s.going.set j {s.going.getD j {} with marks:=n}}=sM j n s:=by
 unfold sM
 simp only
 congr 1
 refine List.ext_getElem? fun i=>?_
 rw [oW,oW,List.getElem?_set]
 by_cases z:j=i
 ·subst z
  rw [if_pos rfl,if_pos hj,List.getElem?_eq_getElem hj]
  show some (if j+1≤j then _ else _)=some (if j≤j then _ else _)
  rw [if_neg (by omega),if_pos (Nat.le_refl _),List.getD_eq_getElem?_getD,List.getElem?_eq_getElem hj]
  rfl
 ·rw [if_neg z]
  cases s.going[i]? with
  | none=>rfl
  | some y=>
   show some (if j+1≤i then _ else _)=some (if j≤i then _ else _)
   by_cases z2:j≤i
   ·rw [if_pos z2,if_pos (by omega)]
   ·rw [if_neg z2,if_neg (by omega)]
theorem vH(s:Sa32.St)(k:Nat):(s.sendMap k).going=s.going.set k {s.going.getD k {} with changed:=false,at_:=s.now,sent:=true}:=by
 unfold Sa32.St.sendMap Sa32.St.send
 simp only
 split <;> rfl
theorem u9{j M n:Nat}{s:Sa32.St}(hn:n= (M+1) % 2 ^ 32)(h5:s.state=5)(hl:s.going.length=4)(hj:j < 4)(hM:∀i y,j≤i→s.going[i]? = some y→y.marks=M):
  vZ (sM j n s) j=sM (j+1) n (mP s j)∧(mP s j).state=5∧(mP s j).going.length=4∧∀i y,j+1≤i→(mP s j).going[i]? = some y→y.marks=M:=by
 have hjl:j < s.going.length:=by omega
 have hg:s.going[j]? = some (s.going.getD j {}):=by
  rw [List.getD_eq_getElem?_getD,List.getElem?_eq_getElem hjl]
  rfl
 have hm:(s.going.getD j {}).marks=M:=hM j _ (Nat.le_refl _) hg
 have hgM:(sM j n s).going.getD j {}= {s.going.getD j {} with marks:=n}:=by
  show (gM j n s.going).getD j {}=_
  rw [List.getD_eq_getElem?_getD,oW,hg]
  show (if j≤j then _ else _)=_
  rw [if_pos (Nat.le_refl _)]
 have key:=Uh (n:=n) hjl
 have ms:mP s j=if ({s with going:=s.going.set j {s.going.getD j {} with marks:=n}}:Sa32.St).may j=true∧((s.num (0x1800+j) 2=0∧(s.going.getD j {}).changed=true)∨(1≤s.num (0x1800+j) 2∧s.num (0x1800+j) 2≤0xF0∧n % s.num (0x1800+j) 2=0)) then ({s with going:=s.going.set j {s.going.getD j {} with marks:=n}}:Sa32.St).sendMap j else {s with going:=s.going.set j {s.going.getD j {} with marks:=n}}:=by
  unfold mP
  simp only
  rw [hm,←hn]
 have mb:oF (sM j n s) j=decide ((s.num (0x1800+j) 2=0∧(s.going.getD j {}).changed=true)∨(1≤s.num (0x1800+j) 2∧s.num (0x1800+j) 2≤0xF0∧n % s.num (0x1800+j) 2=0)):=by
  unfold oF
  rw [hgM]
  rfl
 have may:({s with going:=s.going.set j {s.going.getD j {} with marks:=n}}:Sa32.St).may j=decide (s.num (0x1800+j) 1 < Sa32.OFF):=by
  unfold Sa32.St.may Sa32.WORK
  show (s.state == 5 && decide (s.num (0x1800+j) 1 < Sa32.OFF))=_
  rw [h5]
  simp
 rw [ms,may]
 have hM':∀i y,j+1≤i→(s.going.set j {s.going.getD j {} with marks:=n})[i]? = some y→y.marks=M:=fun i y hi hy=>by
  rw [List.getElem?_set,if_neg (by omega)] at hy
  exact hM i y (by omega) hy
 unfold vZ
 show (if decide (s.num (0x1800+j) 1 < Sa32.OFF)=true then (if oF (sM j n s) j=true then (sM j n s).sendMap j else sM j n s) else sM j n s)=_∧_
 rw [mb]
 by_cases z1:s.num (0x1800+j) 1 < Sa32.OFF
 ·rw [if_pos (decide_eq_true z1)]
  by_cases z2:(s.num (0x1800+j) 2=0∧(s.going.getD j {}).changed=true)∨(1≤s.num (0x1800+j) 2∧s.num (0x1800+j) 2≤0xF0∧n % s.num (0x1800+j) 2=0)
  ·rw [if_pos (decide_eq_true z2),if_pos ⟨decide_eq_true z1,z2⟩,←key,Lx (by omega)]
   refine ⟨rfl,by rw [v7];exact h5,by rw [vH,List.length_set,List.length_set];exact hl,fun i y hi hy=>?_⟩
   rw [vH,List.getElem?_set,if_neg (by omega)] at hy
   exact hM' i y hi hy
  ·rw [if_neg fun w=>z2 (of_decide_eq_true w),if_neg fun w=>z2 w.2,←key]
   exact ⟨rfl,h5,by rw [List.length_set];exact hl,hM'⟩
 ·rw [if_neg fun w=>z1 (of_decide_eq_true w),if_neg fun w=>z1 (of_decide_eq_true w.1),←key]
  exact ⟨rfl,h5,by rw [List.length_set];exact hl,hM'⟩
theorem Oz{s:Sa32.St}{i u M:Nat}{b:List Nat}(h:∀y,y ∈ s.going→y.marks=M):∀y,y ∈ (s.put i u b).going→y.marks=M:=by
 unfold Sa32.St.put
 split
 ·exact h
 ·intro y hy
  obtain ⟨z,h1,rfl⟩:=List.mem_map.mp hy
  have hz:=(List.mem_zipIdx' h1).2
  have:z.1 ∈ s.going:=by rw [hz];exact List.getElem_mem _
  split
  ·exact h z.1 this
  ·exact h z.1 this
theorem yw(P:Sa32.St→Prop)(hp:∀s i u b,P s→P (s.put i u b)):∀(l:List (Nat × Nat))(b:List Nat)(s:Sa32.St),P s→P (Sa32.takeMap l b s)
 | [],_,_,h=>h
 | y::r,b,s,h=>by rw [me];exact yw P hp r _ _ (hp _ _ _ _ h)
theorem MA(P:Sa32.St→Prop)(hp:∀s i u b,P s→P (s.put i u b))(hk:∀s k,P s→P {s with kept:=k})(s:Sa32.St)(k:Nat)(h:P s):P (dO s k):=by
 unfold dO
 split
 ·split
  ·exact hk _ _ h
  ·exact yw P hp _ _ _ (hk _ _ h)
 ·exact h
theorem zI{P:Sa32.St→Prop}{f:Sa32.St→Nat→Sa32.St}(hf:∀s k,P s→P (f s k)):∀(l:List Nat)(s:Sa32.St),P s→P (l.foldl f s)
 | [],_,h=>h
 | k::l,s,h=>zI hf l _ (hf s k h)
theorem Pj{s:Sa32.St}{M n:Nat}(w:WF s)(hn:n= (M+1) % 2 ^ 32)(h5:s.state=5)(hM:∀y,y ∈ s.going→y.marks=M):Sa32.mark s= (List.range 4).foldl vZ ((List.range 4).foldl dO (sM 0 n s)):=by
 rw [RG,Ku]
 have P0:=zI (f:=dO) (MA (fun s=>s.state=5∧s.going.length=4∧∀y,y ∈ s.going→y.marks=M) (fun s i u b h=>⟨by rw [GN];exact h.1,by rw [vX];exact h.2.1,Oz h.2.2⟩) (fun s k h=>h)) (List.range 4) s ⟨h5,w.going,hM⟩
 generalize (List.range 4).foldl dO s=s0 at *
 obtain ⟨p1,p2,p3⟩:=P0
 rw [show List.range 4 = [0,1,2,3] from rfl]
 simp only [List.foldl_cons,List.foldl_nil]
 obtain ⟨a1,a2,a3,a4⟩:=u9 (j:=0) hn p1 p2 (by decide) fun i y _ hy=>p3 y (List.mem_of_getElem? hy)
 obtain ⟨b1,b2,b3,b4⟩:=u9 (j:=1) hn a2 a3 (by decide) a4
 obtain ⟨c1,c2,c3,c4⟩:=u9 (j:=2) hn b2 b3 (by decide) b4
 obtain ⟨d1,d2,d3,d4⟩:=u9 (j:=3) hn c2 c3 (by decide) c4
 rw [a1,b1,c1,d1]
 unfold sM
 rw [SD (by rw [d3];exact Nat.le_refl _)]
end
section
variable{K:PySem.W.Frag}{t:bh}{vs:List V}{H:Hp}{Q:VK}{E:XK}
theorem WF.dO{s:Sa32.St}(w:WF s){k:Nat}(hk:k < 4):WF (dO s k):=by
 unfold Fn.dO
 have m:=w.maps k hk 0x1600 (.inl rfl)
 split
 ·rename_i b hb
  have hbb:=w.qb b (vN hb)
  split
  ·exact mO w k
  ·rename_i z
   exact WF.takeMap _ _ _ (mO w k) hbb.1 (fun y hy=>ej m hy) (Nat.le_of_not_lt z)
 ·exact w
theorem WF.vZ{s:Sa32.St}(w:WF s){k:Nat}(hk:k < 4):WF (vZ s k):=by
 unfold Fn.vZ
 split
 ·split
  ·exact w.sendMap hk
  ·exact w
 ·exact w
theorem Fs(h:lY K t vs H Q E):vs.length=1:=by obtain ⟨p,s,x,rfl,_⟩:=h;rfl
theorem HX(T:cU K t)(h:lY K t vs H Q E):KP K t (Dn Q) (start Bc vs) H:=by
 obtain ⟨p,s,x,rfl,⟨N,w⟩,h5,q⟩:=h
 obtain ⟨dp,ob⟩:=N.ob
 have hg0:=w.yF (k:=0) (by decide)
 have hM:∀y,y ∈ s.going→y.marks= (s.going.getD 0 {}).marks:=fun y hy=>by
  have e1:=N.marks y hy
  have e2:=N.marks _ (List.mem_of_getElem? hg0)
  omega
 have em:=N.marks _ (List.mem_of_getElem? hg0)
 rw [Pj w rfl h5 hM] at q
 generalize (s.going.getD 0 {}).marks=M at *
 refine ⟨_,rfl,p,_,dp,_,_,rfl,ob,T.ax,T.lQ,x.Nk,_,_,rfl,rfl,_,_,rfl,rfl,_,rfl,p,_,dp,_,rfl,ob,T.ax,T.lQ,x.Jn,?_⟩
 rw [NF.G9]
 obtain ⟨N1,k1⟩:=N.OZ (dx:=dp) (v:=Builtin.bitAnd (x.marks+1) 4294967295) ((M+1) % 2 ^ 32) (by rw [PyProof.Rows.bitAnd_m32,←em];omega)
 have w1:WF {s with going:=s.going.map fun g=>{g with marks:=(M+1) % 2 ^ 32}}:=w.qU (by rw [List.length_map,w.going])
 have e1:sM 0 ((M+1) % 2 ^ 32) s= {s with going:=s.going.map fun g=>{g with marks:=(M+1) % 2 ^ 32}}:=by unfold sM;rw [Ss]
 rw [e1] at q
 generalize ({x with marks:=Builtin.bitAnd (x.marks+1) 4294967295}:NF)=x1 at *
 generalize ({s with going:=s.going.map fun g=>{g with marks:=(M+1) % 2 ^ 32}}:Sa32.St)=s1 at *
 refine ⟨4,rfl,by decide,by decide,?_⟩
 refine gq (n:=4) (fun j σ H'=>∃a x',σ = [some (.ref p),a]∧cg t H' p ((List.range j).foldl dO s1) x'∧bX H (x.F p) H' (x'.F p)) ?_ ?_ ?_
 ·exact ⟨none,x1,rfl,⟨N1,w1⟩,k1⟩
 ·rintro j σ H' hj ⟨a,x2,rfl,⟨N2,w2⟩,k2⟩
  rw [List.range_succ,List.foldl_append,List.foldl_cons,List.foldl_nil]
  generalize (List.range j).foldl dO s1=s2 at *
  refine ⟨_,rfl,_,rfl,p,s2,x2,j,by rw [Int.zero_add];rfl,⟨N2,w2⟩,hj,fun H3 x3 N3 k3=>?_⟩
  exact ⟨_,x3,rfl,⟨N3,w2.dO hj⟩,k2.trans k3⟩
 ·rintro σ H' ⟨a,x2,rfl,⟨N2,w2⟩,k2⟩
  generalize (List.range 4).foldl dO s1=s2 at *
  refine ⟨4,rfl,by decide,by decide,?_⟩
  refine gq (n:=4) (fun j σ H'=>∃a x',σ = [some (.ref p),a]∧cg t H' p ((List.range j).foldl vZ s2) x'∧bX H (x.F p) H' (x'.F p)) ?_ ?_ ?_
  ·exact ⟨a,x2,rfl,⟨N2,w2⟩,k2⟩
  ·rintro j σ H' hj ⟨a,x3,rfl,⟨N3,w3⟩,k3⟩
   rw [List.range_succ,List.foldl_append,List.foldl_cons,List.foldl_nil]
   generalize (List.range j).foldl vZ s2=s3 at *
   refine ⟨_,rfl,_,rfl,p,s3,x3,j,by rw [Int.zero_add];rfl,⟨N3,w3⟩,hj,_,rfl,?_⟩
   have hm:vZ s3 j=if decide (s3.num (0x1800+j) 1 < Sa32.OFF)=true then (if oF s3 j=true then s3.sendMap j else s3) else s3:=rfl
   cases hz:decide (s3.num (0x1800+j) 1 < Sa32.OFF) with
   | false=>
    rw [hz,if_neg (by decide)] at hm
    exact aZ (aZ ⟨_,x3,rfl,by rw [hm];exact ⟨N3,w3⟩,k3⟩)
   | true=>
    rw [hz,if_pos rfl] at hm
    refine aS ⟨_,rfl,_,rfl,p,s3,x3,j,by rw [Int.zero_add];rfl,⟨N3,w3⟩,hj,_,rfl,?_⟩
    cases hd:oF s3 j with
    | false=>
     rw [hd,if_neg (by decide)] at hm
     exact aZ ⟨_,x3,rfl,by rw [hm];exact ⟨N3,w3⟩,k3⟩
    | true=>
     rw [hd,if_pos rfl] at hm
     refine aS ⟨_,rfl,_,rfl,p,s3,x3,j,by rw [Int.zero_add];rfl,⟨N3,w3⟩,hj,fun H4 x4 N4 k4=>?_⟩
     rw [←hm] at N4
     exact ⟨_,x4,rfl,⟨N4,w3.vZ hj⟩,k3.trans k4⟩
  ·rintro σ H' ⟨a,x3,rfl,⟨N3,w3⟩,k3⟩
   exact q H' x3 N3 k3
end
end Fn
namespace Fn
open PySem L2
section
theorem NA(v m k:Nat):v &&& (m <<< k)= ((v >>> k) &&& m) <<< k:=by
 refine Nat.eq_of_testBit_eq fun i=>?_
 rw [Nat.testBit_and,Nat.testBit_shiftLeft,Nat.testBit_shiftLeft,Nat.testBit_and,Nat.testBit_shiftRight]
 by_cases z:i ≥ k
 ·rw [show k+ (i - k)=i by omega,decide_eq_true z]
  simp
 ·rw [decide_eq_false z]
  simp
theorem Nw(v:Nat):(v &&& 2147481600=0)↔v / 2 ^ 11 % 2 ^ 20=0:=by
 rw [show (2147481600:Nat)= (2 ^ 20 - 1) <<< 11 by decide,NA,Nat.and_two_pow_sub_one_eq_mod,Nat.shiftRight_eq_div_pow,Nat.shiftLeft_eq]
 constructor
 ·intro h
  rcases Nat.mul_eq_zero.mp h with h | h
  ·exact h
  ·exact absurd h (by decide)
 ·intro h
  rw [h,Nat.zero_mul]
theorem Sw{v:Nat}(hv:v < 2 ^ 32):(v &&& 4286578688=0)↔v / 2 ^ 23=0:=by
 rw [show (4286578688:Nat)= (2 ^ 9 - 1) <<< 23 by decide,NA,Nat.and_two_pow_sub_one_eq_mod,Nat.shiftRight_eq_div_pow,Nat.shiftLeft_eq,Nat.mod_eq_of_lt (by omega)]
 constructor
 ·intro h
  rcases Nat.mul_eq_zero.mp h with h | h
  ·exact h
  ·exact absurd h (by decide)
 ·intro h
  rw [h,Nat.zero_mul]
theorem Us(v:Nat):v &&& 2047=v % 2 ^ 11:=Nat.and_two_pow_sub_one_eq_mod v 11
theorem SO(v:Nat):Builtin.bitAnd (v:Int) 255= ((v % 256:Nat):Int):=by rw [PyProof.Rows.bitAnd_m8];omega
end
section
variable{K:PySem.W.Frag}{t:bh}{vs:List V}{H:Hp}{Q:VK}{E:XK}
theorem Qi{a b:Int}(e:a=b)(q:Q (.int b) H):Q (.int a) H:=e ▸ q
theorem IW(h:fG K t vs H Q E):vs.length=1:=by obtain ⟨b,rfl,_⟩:=h;rfl
theorem K7(T:cU K t)(h:fG K t vs H Q E):LC K t (Dn Q) (start CQ vs) H:=by
 obtain ⟨b,rfl,q⟩:=h
 cases b with
 | true=>exact ⟨_,rfl,true,rfl,aS q⟩
 | false=>exact ⟨_,rfl,false,rfl,aZ q⟩
theorem yY(h:fR K t vs H Q E):vs.length=2:=by obtain ⟨o,v,rfl,_⟩:=h;rfl
theorem AK(T:cU K t)(h:fR K t vs H Q E):BD K t (Dn Q) (start so vs) H:=by
 obtain ⟨o,v,rfl,q⟩:=h
 have a1:Builtin.bitAnd (v:Int) 2147481600= ((v &&& 2147481600:Nat):Int):=rfl
 have a2:Builtin.bitAnd (v:Int) 2047= ((v % 2 ^ 11:Nat):Int):=by rw [←Us];rfl
 unfold EB at q
 have bad:(v / 2 ^ 11 % 2 ^ 20 ≠ 0∨v % 2 ^ 11 < 0x181∨0x57F < v % 2 ^ 11)→Q (.int 101253168) H:=fun z=>by
  rw [if_pos z] at q
  exact q
 have rest:¬(v / 2 ^ 11 % 2 ^ 20 ≠ 0∨v % 2 ^ 11 < 0x181∨0x57F < v % 2 ^ 11)→(aI (bF (sZ (aU (aV (bP fun i j=> .bl (decide (i < j))) (ag 0) (tC (.int 2147483648)))) (sZ (aU (aV (bP fun i j=> .bl (decide (i < j))) (ag 1) (tC (.int 2147483648)))) (aU (aV xC (ag 0) (ag 1)))))
  (bu (tC (.int 134217762)))
  bt)
  (bu (tC (.int 0)))) (Dn Q) [some (.int (o:Int)),some (.int (v:Int))] H:=fun z=>by
  rw [if_neg z] at q
  have no:¬(o < Sa32.OFF∧v < Sa32.OFF∧o ≠ v)→Q (.int 0) H:=fun z2=>by
   rw [if_neg z2] at q
   exact q
  by_cases z1:o < 2147483648
  ·refine ⟨_,rfl,_,_,rfl,rfl,true,tt (by omega),aS ?_⟩
   by_cases z2:v < 2147483648
   ·refine ⟨_,rfl,_,_,rfl,rfl,true,tt (by omega),aS ?_⟩
    by_cases z3:o=v
    ·exact ⟨_,rfl,_,rfl,rfl,false,GI (by omega),aZ (no fun w=>w.2.2 z3)⟩
    ·refine ⟨_,rfl,_,rfl,rfl,true,zy (by omega),aS ?_⟩
     rw [if_pos ⟨show o < 2 ^ 31 from z1,show v < 2 ^ 31 from z2,z3⟩] at q
     exact q
   ·exact ⟨_,rfl,_,_,rfl,rfl,false,ff (by omega),aZ (aZ (no fun w=>z2 w.2.1))⟩
  ·exact ⟨_,rfl,_,_,rfl,rfl,false,ff (by omega),aZ (aZ (no fun w=>z1 w.1))⟩
 have m:=Nw v
 by_cases z1:v / 2 ^ 11 % 2 ^ 20=0
 ·refine ⟨_,rfl,_,_,rfl,rfl,rfl,false,GI (by rw [a1,m.mpr z1];rfl),aZ ?_⟩
  by_cases z2:v % 2 ^ 11 < 0x181
  ·refine ⟨_,rfl,_,_,rfl,rfl,_,_,rfl,rfl,false,ff (by rw [a2];omega),aZ ⟨_,rfl,aS (bad (.inr (.inl z2)))⟩⟩
  ·by_cases z3:0x57F < v % 2 ^ 11
   ·exact ⟨_,rfl,_,_,rfl,rfl,_,_,rfl,rfl,true,tt (by rw [a2];omega),aS ⟨_,_,rfl,rfl,false,ff (by rw [a2];omega),aS (bad (.inr (.inr z3)))⟩⟩
   ·exact ⟨_,rfl,_,_,rfl,rfl,_,_,rfl,rfl,true,tt (by rw [a2];omega),aS ⟨_,_,rfl,rfl,true,tt (by rw [a2];omega),aZ (rest (by omega))⟩⟩
 ·exact ⟨_,rfl,_,_,rfl,rfl,rfl,true,zy (by rw [a1];intro z;exact z1 (m.mp (by omega))),aS (aS (bad (.inl z1)))⟩
theorem B4(h:jC K t vs H Q E):vs.length=3:=by obtain ⟨o,u,v,rfl,_⟩:=h;rfl
theorem C2(T:cU K t)(h:jC K t vs H Q E):EU K t (Dn Q) (start wa vs) H:=by
 obtain ⟨o,u,v,rfl,q⟩:=h
 unfold Ib at q
 by_cases z1:u=1
 ·rw [if_pos z1] at q
  exact ⟨_,rfl,rfl,true,qc (by omega),aS ⟨_,rfl,_,rfl,o,v,rfl,q⟩⟩
 rw [if_neg z1] at q
 refine ⟨_,rfl,rfl,false,pD (by omega),aZ ?_⟩
 by_cases z2:u=2
 ·rw [if_pos z2] at q
  refine ⟨_,rfl,rfl,true,qc (by omega),aS ?_⟩
  by_cases z3:240 < v
  ·refine ⟨_,rfl,_,_,rfl,rfl,true,tt (by omega),aS ⟨_,_,rfl,rfl,decide ((v:Int) < 254),rfl,Qi ?_ q⟩⟩
   by_cases z4:v < 254
   ·rw [decide_eq_true (by omega),if_pos rfl,if_pos ⟨by omega,by omega⟩];rfl
   ·rw [decide_eq_false (by omega),if_neg (by decide),if_neg (by omega)];rfl
  ·refine ⟨_,rfl,_,_,rfl,rfl,false,ff (by omega),aZ ⟨false,rfl,Qi ?_ q⟩⟩
   rw [if_neg (by decide),if_neg (by omega)];rfl
 ·rw [if_neg z2] at q
  exact ⟨_,rfl,rfl,false,pD (by omega),aZ q⟩
theorem Cg(h:i5 K t vs H Q E):vs.length=3:=by obtain ⟨d,aB,s,k,v,c,rfl,_⟩:=h;rfl
theorem El(T:cU K t)(h:i5 K t vs H Q E):EO K t (Dn Q) (start vK vs) H:=by
 obtain ⟨d,aB,s,k,v,c,rfl,En,w,hk,q⟩:=h
 unfold Vv at q
 refine ⟨_,rfl,d,rfl,.inl ⟨aB,.inl En.dict⟩,_,rfl,_,_,rfl,rfl,(show (0:Int)≤8 by decide),_,gE.at En.dict rfl,?_⟩
 rw [Nq]
 have hu:v / 256 % 256 < 256:=Nat.mod_lt _ (by decide)
 cases he:s.ent (v / 65536) (v / 256 % 256) with
 | none=>
  rw [he] at q
  rw [En.Dr w hu he]
  exact ⟨_,rfl,true,rfl,aS (aS q)⟩
 | some e=>
  rw [he] at q
  obtain ⟨a,dx,ha,hx⟩:=En.entry he
  rw [ha]
  refine ⟨_,rfl,false,rfl,aZ ?_⟩
  cases hm:e.m with
  | false=>
   refine ⟨_,rfl,a,_,dx,_,_,rfl,hx,T.bH,T.jJ,vY e,false,by rw [hm],aS (aS (Qb ?_ q))⟩
   show false = !(decide _)
   rw [decide_eq_true (.inl hm)]
   rfl
  | true=>
   refine ⟨_,rfl,a,_,dx,_,_,rfl,hx,T.bH,T.jJ,vY e,true,by rw [hm],aZ ?_⟩
   have a8:=SO v
   have CM:xX ((e.val.length:Nat):Int) 8:= .inr ⟨by decide,by decide⟩
   by_cases z:8 * e.val.length=v % 256
   ·refine ⟨_,rfl,a,_,dx,_,_,rfl,hx,T.bH,T.bT,cR e,_,_,rfl,rfl,CM,_,rfl,_,_,rfl,rfl,rfl,false,GI (by rw [a8];omega),aZ ?_⟩
    cases c with
    | true=>
     refine ⟨_,rfl,_,_,rfl,rfl,false,ff (by show ¬(6144:Int)≤((0x1400+k:Nat):Int);omega),aZ ⟨_,rfl,a,_,dx,_,_,rfl,hx,T.bH,T.jQ,vI e,Qb ?_ q⟩⟩
     cases hw:e.w with
     | true=>simp [hm,z,hw]
     | false=>simp [hm,z,hw]
    | false=>
     refine ⟨_,rfl,_,_,rfl,rfl,true,tt (by show (6144:Int)≤((0x1800+k:Nat):Int);omega),aS ⟨_,rfl,a,_,dx,_,_,rfl,hx,T.bH,T.jM,wc e,Qb ?_ q⟩⟩
     cases hw:e.r with
     | true=>simp [hm,z,hw]
     | false=>simp [hm,z,hw]
   ·refine ⟨_,rfl,a,_,dx,_,_,rfl,hx,T.bH,T.bT,cR e,_,_,rfl,rfl,CM,_,rfl,_,_,rfl,rfl,rfl,true,zy (by rw [a8];omega),aS (Qb ?_ q)⟩
    show false = !(decide _)
    rw [decide_eq_true (.inr (.inr z))]
    rfl
theorem yI(h:fT K t vs H Q E):vs.length=3:=by obtain ⟨d,aB,s,k,v,c,rfl,_⟩:=h;rfl
theorem Nu(c:Bool):uC c=0x1600∨uC c=0x1A00:=by cases c;exact .inr rfl;exact .inl rfl
theorem WD(l:List Nat):JA (.int 0) (l.map fun (y:Nat)=>V.int (y:Int))=l.contains 0:=by
 rw [Bool.eq_iff_iff,List.contains_iff_mem]
 unfold JA
 rw [List.any_map,List.any_eq_true]
 constructor
 ·rintro ⟨y,hy,z⟩
  have z:(((y:Nat):Int) == 0)=true:=z
  have:y=0:=by have:=eq_of_beq z;omega
  rw [←this]
  exact hy
 ·intro hy
  exact ⟨0,hy,rfl⟩
theorem N0(l:List Nat):(l.map fun (y:Nat)=>V.int (y:Int)).all vC=true:=by
 rw [List.all_map,List.all_eq_true]
 intro y _
 rfl
theorem Ae(T:cU K t)(h:fT K t vs H Q E):Ca K t (Dn Q) (start iz vs) H:=by
 obtain ⟨d,aB,s,k,v,c,rfl,En,w,hk,q⟩:=h
 by_cases z1:8 < v
 ·have:=q H (aP.refl H)
  rw [if_pos z1] at this
  exact ⟨_,rfl,_,_,rfl,rfl,true,tt (by omega),aS this⟩
 refine ⟨_,rfl,_,_,rfl,rfl,false,ff (by omega),aZ ?_⟩
 refine ⟨_,rfl,_,_,rfl,rfl,1,_,rfl,⟨by decide,by decide,by omega,by omega⟩,fun D hD=>?_⟩
 have e1:((v:Int)+1 - 1).toNat=v:=by omega
 rw [e1]
 have there:=w.UE hk (Nu c)
 rw [if_neg z1] at q
 generalize hb:uC c+k=b at *
 generalize hL:((List.range v).map fun j=>s.num b (j+1))=L at *
 have hLl:L.length=v:=by rw [←hL,List.length_map,List.length_range]
 have hLg:∀i,i < v→L[i]? = some (s.num b (i+1)):=fun i hi=>by rw [←hL,List.getElem?_map,List.getElem?_range hi];rfl
 have sD:∀{o:HO},aP H (upd H D o):=aP.new hD
 refine EL (n:=v) (fun i H'=>H'=upd H D (.lst ((L.take i).map fun (y:Nat)=>V.int (y:Int)))) rfl ?_ ?_
 ·rintro i H' hi rfl
  refine ⟨rfl,_,rfl,_,rfl,_,rfl,d,aB,s,b,i+1,v3 rfl (by omega),En.same sD,there (i+1) (by omega),?_⟩
  refine ⟨_,ao,?_,?_⟩
  ·rw [List.length_map,List.length_take]
   exact b7 (by omega)
  ·rw [fc,List.take_add_one,hLg i hi,List.map_append]
   rfl
 ·rintro H' rfl
  rw [←hLl,List.take_length]
  have hDl:upd H D (.lst (L.map fun (y:Nat)=>V.int (y:Int))) D=some (.lst (L.map fun (y:Nat)=>V.int (y:Int))):=ao
  generalize hH1:upd H D (.lst (L.map fun (y:Nat)=>V.int (y:Int)))=H1 at *
  have s1:aP H H1:=by rw [←hH1];exact sD
  refine ⟨_,rfl,D,_,rfl,.inl (cb.of hDl),rfl,N0 L,L.contains 0,?_,?_⟩
  ·show V.bl (JA (.int 0) (L.map fun (y:Nat)=>V.int (y:Int)))=_
   rw [WD]
  cases hz:L.contains 0 with
  | true=>
   have:=q H1 s1
   rw [if_pos (.inl hz)] at this
   exact aS (aS this)
  | false=>
   refine aZ ⟨_,rfl,D,rfl,⟨_,cb.of hDl⟩,fun D2 hD2=>?_⟩
   have hne:D ≠ D2:=aE hDl hD2
   have sD2:∀{o:HO},aP H1 (upd H1 D2 o):=aP.new hD2
   refine M3 (K:=K) (a:=D) (xs:=L.map fun (y:Nat)=>V.int (y:Int)) (fun i H'=>H'=upd H1 D2 (.lst ((((L.map fun y=>y % 256).take i).map fun (y:Nat)=>(y:Int)).map V.int))) rfl ?_ ?_ ?_
   ·rintro i H' _ rfl
    exact cb.of (sD2 _ _ hDl)
   ·rintro i y H' hy rfl
    rw [List.getElem?_map] at hy
    obtain ⟨n,hn,rfl⟩:=Option.map_eq_some_iff.mp hy
    have hi:=(List.getElem?_eq_some_iff.mp hn).1
    refine ⟨rfl,_,rfl,_,_,rfl,rfl,?_⟩
    refine ⟨_,ao,?_,?_⟩
    ·rw [List.length_map,List.length_map,List.length_take,List.length_map]
     exact b7 (by omega)
    ·rw [fc,List.take_add_one,List.getElem?_map,hn,List.map_append,List.map_append]
     show _=upd H1 D2 (.lst (_ ++ [V.int ((n % 256:Nat):Int)]))
     rw [←SO]
   ·rintro H' rfl
    rw [List.length_map,List.take_of_length_le (by rw [List.length_map];exact Nat.le_refl _)]
    refine ⟨D2,_,rfl,cb.of ao,_,_,rfl,rfl,?_⟩
    have es:=JN (L.map fun y=>y % 256)
    have:=q _ (s1.trans (sD2 (o:= .lst (((L.map fun y=>y % 256).map fun (y:Nat)=>(y:Int)).map V.int))))
    by_cases z2:64 < (L.map fun x=>x % 256).sum
    ·rw [if_pos (.inr z2)] at this
     exact ⟨true,tt (by rw [es];omega),aS this⟩
    ·rw [if_neg (by rw [hz];simp;omega)] at this
     exact ⟨false,ff (by rw [es];omega),aZ this⟩
theorem wQ(h:dy K t vs H Q E):vs.length=4:=by obtain ⟨d,aB,s,k,u,v,c,rfl,_⟩:=h;rfl
theorem xD(i u:Nat)(h:u < 256):Builtin.bitAnd (bD i u) 255= (u:Int):=by
 rw [PyProof.Rows.bitAnd_m8]
 exact PV i u h
theorem nj(i u:Nat)(h:u < 256):bD i u / 2 ^ (8:Int).toNat= (i:Int):=EJ i u h
theorem WF.UK{s:Sa32.St}(w:WF s){k:Nat}(hk:k < 4)(c:Bool):∃e,s.ent (DA c+k) 1=some e:=by
 cases c
 ·exact w.Ud hk
 ·exact w.Vp hk
theorem yK(T:cU K t)(h:dy K t vs H Q E):A2 K t (Dn Q) (start pF vs) H:=by
 obtain ⟨d,aB,s,k,u,v,c,rfl,En,w,hk,hu,q⟩:=h
 have hmr:Sa32.mapRefuses s c k u v=if s.num (DA c+k) 1 < Sa32.OFF then some Sa32.BUSY else if u ≠ 0 then (if s.num (uC c+k) 0 ≠ 0 then some Sa32.BUSY else if Vv s c v=true then none else some 0x06040041) else (if 8 < v then some Sa32.RANGE else if ((List.range v).map fun j=>s.num (uC c+k) (j+1)).contains 0=true∨64 < (((List.range v).map fun j=>s.num (uC c+k) (j+1)).map fun x=>x % 256).sum then some 0x06040042 else none):=by
  have f:∀r:Bool,∀e:Sa32.Ent,(if e.m=false∨r=false∨8 * e.val.length ≠ v % 256 then some 0x06040041 else none:Option Nat)=if (!decide (e.m=false∨r=false∨8 * e.val.length ≠ v % 256))=true then none else some 0x06040041:=fun r e=>by
   by_cases zz:e.m=false∨r=false∨8 * e.val.length ≠ v % 256
   ·rw [if_pos zz,decide_eq_true zz]
    rfl
   ·rw [if_neg zz,decide_eq_false zz]
    rfl
  cases c <;> simp only [DA,uC,Vv,Sa32.mapRefuses,if_true,Bool.false_eq_true,if_false] <;> cases s.ent (v / 65536) (v / 256 % 256) with
  | none=>rfl
  | some e=>simp only [f]
 rw [hmr] at q
 refine ⟨_,rfl,_,_,rfl,rfl,(show (0:Int)≤8 by decide),?_⟩
 refine ⟨_,rfl,_,_,rfl,rfl,?_⟩
 dsimp only
 rw [xD _ _ (by omega),nj _ _ (by omega)]
 refine ⟨_,rfl,_,rfl,d,aB,s,DA c+k,1,rfl,En,w.UK hk c,?_⟩
 by_cases z1:s.num (DA c+k) 1 < 2147483648
 ·have:=q H (aP.refl H)
  rw [if_pos (show s.num (DA c+k) 1 < Sa32.OFF from z1)] at this
  exact ⟨_,_,rfl,rfl,true,tt (by omega),aS this⟩
 refine ⟨_,_,rfl,rfl,false,ff (by omega),aZ ?_⟩
 rw [if_neg (show ¬s.num (DA c+k) 1 < Sa32.OFF from z1)] at q
 by_cases z2:u=0
 ·rw [if_neg (by omega)] at q
  exact ⟨_,rfl,rfl,true,qc (by omega),aS ⟨_,rfl,_,rfl,_,rfl,d,aB,s,k,v,c,rfl,En,w,hk,q⟩⟩
 rw [if_pos z2] at q
 refine ⟨_,rfl,rfl,false,pD (by omega),aZ ?_⟩
 refine ⟨_,rfl,_,rfl,d,aB,s,uC c+k,0,rfl,En,w.UE hk (Nu c) 0 (by omega),?_⟩
 have qq:=q H (aP.refl H)
 by_cases z3:s.num (uC c+k) 0=0
 ·rw [if_neg (by omega)] at qq
  refine ⟨rfl,false,GI (by omega),aZ ⟨_,rfl,_,rfl,_,rfl,d,aB,s,k,v,c,rfl,En,w,hk,_,rfl,?_⟩⟩
  cases ho:Vv s c v with
  | true=>rw [ho,if_pos rfl] at qq;exact aS qq
  | false=>rw [ho,if_neg (by decide)] at qq;exact aZ qq
 ·rw [if_pos z3] at qq
  exact ⟨rfl,true,zy (by omega),aS qq⟩
end
end Fn
namespace Fn
open PySem L2
section
variable{K:PySem.W.Frag}{t:bh}{vs:List V}{H:Hp}{Q:VK}{E:XK}
theorem WF.Ax{s:Sa32.St}(w:WF s){i u:Nat}{e:Sa32.Ent}(he:s.ent i u=some e)(hi:i < 0x2000):u≤8∧e.val.length≤4∧e.m=false:=by
 obtain ⟨h1,h2,h3⟩:=bo he
 rcases List.mem_append.mp h1 with h1 | h1
 ·have:=(w.tab e h1).1
  omega
 ·obtain ⟨e0,h4,h5⟩:=zK w.own h1
  obtain ⟨_,q2,_,_,q5,q6⟩:=tf h5
  have b:=dN s.node e0 h4
  refine ⟨by omega,by rw [←q6];omega,by rw [←q5];exact b.2.2.2.2.1⟩
theorem WH(x:Int):JA (.int x) [.int 5120,.int 6144] = decide (x=5120∨x=6144):=by
 unfold JA
 simp only [List.any_cons,List.any_nil,P4,Bool.or_false]
 rw [Bool.eq_iff_iff]
 simp only [Bool.or_eq_true,beq_iff_eq,decide_eq_true_eq]
 omega
theorem Sm{c:Prop} [Decidable c]:(if decide c=true then (101253168:Int) else 0)=Cf (if c then some Sa32.RANGE else none):=by
 by_cases z:c
 ·rw [if_pos (decide_eq_true z),if_pos z];rfl
 ·rw [if_neg (fun w=>z (of_decide_eq_true w)),if_neg z];rfl
theorem xU(h:gi K t vs H Q E):vs.length=3:=by obtain ⟨d,aB,s,e,i,u,v,rfl,_⟩:=h;rfl
theorem zQ(T:cU K t)(h:gi K t vs H Q E):BL K t (Dn Q) (start sq vs) H:=by
 obtain ⟨d,aB,s,e,i,u,v,rfl,En,w,he,hv,q⟩:=h
 have hu:u < 256:=by
  have:=(w.bounds (bo he).1).2.2.1
  rw [(bo he).2.2] at this
  exact this
 refine ⟨_,rfl,_,_,rfl,rfl,(show (0:Int)≤8 by decide),_,rfl,_,_,rfl,rfl,_,rfl,_,_,rfl,rfl,(show (0:Int) < 4 by decide),?_⟩
 dsimp only
 rw [xD _ _ hu,nj _ _ hu]
 have q0:=q H (aP.refl H)
 by_cases z1:i=0x1005
 ·refine ⟨_,rfl,rfl,true,qc (by omega),aS ⟨_,rfl,_,_,rfl,rfl,decide ((2047:Int) < (v:Int)),rfl,Qi ?_ q0⟩⟩
  rw [Sm]
  unfold Sa32.refuses
  rw [if_pos z1]
  by_cases zz:0x7FF < v
  ·rw [if_pos (by omega),if_pos zz]
  ·rw [if_neg (by omega),if_neg zz]
 refine ⟨_,rfl,rfl,false,pD (by omega),aZ ?_⟩
 by_cases z2:i=0x1014
 ·refine ⟨_,rfl,rfl,true,qc (by omega),aS ⟨_,rfl,_,_,rfl,rfl,rfl,!decide (V.int ((v &&& 2147481600:Nat):Int)=V.int 0),rfl,Qi ?_ q0⟩⟩
  unfold Sa32.refuses
  rw [if_neg z1,if_pos z2,dI]
  have m:=Nw v
  by_cases zz:v / 2 ^ 11 % 2 ^ 20=0
  ·rw [decide_eq_true (by rw [m.mpr zz];rfl),if_neg (by decide),if_neg fun w=>w zz];rfl
  ·rw [decide_eq_false (fun w=>zz (m.mp (by omega))),if_pos (by decide),if_pos zz];rfl
 refine ⟨_,rfl,rfl,false,pD (by omega),aZ ?_⟩
 by_cases z3:i=0x1016
 ·refine ⟨_,rfl,rfl,true,qc (by omega),aS ⟨_,rfl,_,_,rfl,rfl,rfl,!decide (V.int ((v &&& 4286578688:Nat):Int)=V.int 0),rfl,Qi ?_ q0⟩⟩
  unfold Sa32.refuses
  rw [if_neg z1,if_neg z2,if_pos z3,dI]
  have hv2:v < 2 ^ 32:=Nat.lt_of_lt_of_le hv (Nat.le_trans (Nat.pow_le_pow_right (by decide) (w.Ax he (by omega)).2.1) (by decide))
  have m:=Sw hv2
  by_cases zz:v / 2 ^ 23=0
  ·rw [decide_eq_true (by rw [m.mpr zz];rfl),if_neg (by decide),if_neg fun w=>w zz];rfl
  ·rw [decide_eq_false (fun w=>zz (m.mp (by omega))),if_pos (by decide),if_pos zz];rfl
 refine ⟨_,rfl,rfl,false,pD (by omega),aZ ?_⟩
 refine ⟨_,rfl,_,rfl,_,_,rfl,rfl,(by show 2≤sizeLine;decide),fun tp htp=>?_⟩
 have s1:aP H (upd H tp (.tup [.int 5120,.int 6144])):=aP.new htp
 have q1:=q _ s1
 have En1:=En.same s1
 have hr:Sa32.refuses s i u v=if (Sa32.numbered i 0x1400).isSome=true∨(Sa32.numbered i 0x1800).isSome=true then Ib (s.num i 1) u v else match Sa32.numbered i 0x1600,Sa32.numbered i 0x1A00 with
  | some k,_=>Sa32.mapRefuses s true k u v
  | _,some k=>Sa32.mapRefuses s false k u v
  | _,_=>none:=by
  unfold Sa32.refuses
  rw [if_neg z1,if_neg z2,if_neg z3]
  rfl
 rw [hr] at q1
 refine ⟨tp,_,rfl,.inr (Lw.of ao),rfl,rfl,_,rfl,?_⟩
 show if JA (.int ((i:Int) - (i:Int) % 4)) [.int 5120,.int 6144] = true then _ else _
 rw [WH]
 by_cases z4:(i:Int) - (i:Int) % 4=5120∨(i:Int) - (i:Int) % 4=6144
 ·rw [decide_eq_true z4]
  have hn:(Sa32.numbered i 0x1400).isSome=true∨(Sa32.numbered i 0x1800).isSome=true:=by
   rcases z4 with z4 | z4
   ·exact .inl (by rw [cF (k:=i % 4) (by omega) (by omega)];rfl)
   ·exact .inr (by rw [cF (k:=i % 4) (by omega) (by omega)];rfl)
  rw [if_pos hn] at q1
  obtain ⟨a,dx,ha,hx⟩:=En1.entry he
  refine aS ⟨_,rfl,_,rfl,d,.ref a,rfl,gE.at En1.dict ha,a,_,dx,_,_,rfl,hx,T.bH,T.bZ,fE e,_,rfl,_,rfl,Sa32.num e.val,u,v,rfl,Qi ?_ q1⟩
  rw [←xc he]
  unfold Ib
  by_cases zz:u=1
  ·rw [if_pos zz,if_pos zz,zz]
  ·rw [if_neg zz,if_neg zz]
 ·rw [decide_eq_false z4]
  have hn:¬((Sa32.numbered i 0x1400).isSome=true∨(Sa32.numbered i 0x1800).isSome=true):=by
   rw [cP (b:=0x1400) (by omega),cP (b:=0x1800) (by omega)]
   simp
  rw [if_neg hn] at q1
  refine aZ ?_
  by_cases z5:(i:Int) - (i:Int) % 4=5632
  ·rw [cF (b:=0x1600) (k:=i % 4) (by omega) (by omega)] at q1
   refine ⟨_,rfl,_,rfl,_,_,rfl,rfl,rfl,true,qc z5,aS ?_⟩
   have q2:pE (upd H tp (.tup [.int 5120,.int 6144])) Q (.int (Cf (Sa32.mapRefuses s true (i % 4) u v))):=fun H2 s2=>by
    have:=q H2 (s1.trans s2)
    rw [hr,if_neg hn,cF (b:=0x1600) (k:=i % 4) (by omega) (by omega)] at this
    exact this
   refine ⟨_,rfl,_,rfl,_,_,rfl,rfl,_,rfl,_,rfl,d,aB,s,i % 4,u,v,true,?_,En1,w,by omega,(w.Ax he (by omega)).1,q2⟩
   have e1:(5120:Int)+ (i:Int) % 4= ((DA true+i % 4:Nat):Int):=by show _= ((0x1400+i % 4:Nat):Int);omega
   have e2:bD i u=bD (uC true+i % 4) u:=by
    have:i=uC true+i % 4:=by show i=0x1600+i % 4;omega
    rw [←this]
   show [V.ref d,.int (5120+ (i:Int) % 4),.int (bD i u),.int (v:Int)] = _
   rw [e1,e2]
  ·refine ⟨_,rfl,_,rfl,_,_,rfl,rfl,rfl,false,pD z5,aZ ?_⟩
   by_cases z6:(i:Int) - (i:Int) % 4=6656
   ·refine ⟨_,rfl,_,rfl,_,_,rfl,rfl,rfl,true,qc z6,aS ?_⟩
    have q2:pE (upd H tp (.tup [.int 5120,.int 6144])) Q (.int (Cf (Sa32.mapRefuses s false (i % 4) u v))):=fun H2 s2=>by
     have:=q H2 (s1.trans s2)
     rw [hr,if_neg hn,cP (b:=0x1600) (by omega),cF (b:=0x1A00) (k:=i % 4) (by omega) (by omega)] at this
     exact this
    refine ⟨_,rfl,_,rfl,_,_,rfl,rfl,_,rfl,_,rfl,d,aB,s,i % 4,u,v,false,?_,En1,w,by omega,(w.Ax he (by omega)).1,q2⟩
    have e1:(6144:Int)+ (i:Int) % 4= ((DA false+i % 4:Nat):Int):=by show _= ((0x1800+i % 4:Nat):Int);omega
    have e2:bD i u=bD (uC false+i % 4) u:=by
     have:i=uC false+i % 4:=by show i=0x1A00+i % 4;omega
     rw [←this]
    show [V.ref d,.int (6144+ (i:Int) % 4),.int (bD i u),.int (v:Int)] = _
    rw [e1,e2]
   ·rw [cP (b:=0x1600) (by omega),cP (b:=0x1A00) (by omega)] at q1
    exact ⟨_,rfl,_,rfl,_,_,rfl,rfl,rfl,false,pD z6,aZ q1⟩
theorem BF(h:fF K t vs H Q E):vs.length=4:=by obtain ⟨x,dx,b,k,l,rfl,_⟩:=h;rfl
theorem C5(T:cU K t)(h:fF K t vs H Q E):E9 K t (Dn Q) (start vL vs) H:=by
 obtain ⟨x,dx,b,k,l,rfl,hx,q⟩:=h
 have e2:bI "key" (V.int k) [("is_set",V.bl b)] = ([("is_set",V.bl b),("key",V.int k)]:List (Str × V)):=cC ["is_set"] rfl (by decide +kernel)
 have e3:bI "row" (V.ref l) [("is_set",V.bl b),("key",V.int k)] = ([("is_set",V.bl b),("key",V.int k),("row",V.ref l)]:List (Str × V)):=cC ["is_set","key"] rfl (by decide +kernel)
 have e4:bI "turn" (V.int 0) [("is_set",V.bl b),("key",V.int k),("row",V.ref l)] = ([("is_set",V.bl b),("key",V.int k),("row",V.ref l),("turn",V.int 0)]:List (Str × V)):=cC ["is_set","key","row"] rfl (by decide +kernel)
 refine ⟨_,rfl,_,rfl,x,t.bL,dx,_,rfl,hx,T.cq,T.vA,by decide,?_⟩
 refine ⟨_,rfl,_,rfl,x,t.bL,dx,_,rfl,ao,T.cq,T.iJ,(show 1 < 1000 by decide),?_⟩
 refine ⟨_,rfl,_,rfl,x,t.bL,dx,_,rfl,Eq.trans ao (congrArg (fun l=>some (HO.ins t.bL dx l)) e2),T.cq,T.cV,(show 2 < 1000 by decide),?_⟩
 refine ⟨_,rfl,x,t.bL,dx,_,rfl,Eq.trans ao (congrArg (fun l=>some (HO.ins t.bL dx l)) e3),T.cq,T.d0,(show 3 < 1000 by decide),?_⟩
 refine q _ (fun b hb=>?_) (Eq.trans ao (congrArg (fun l=>some (HO.ins t.bL dx l)) e4))
 rw [aL hb,aL hb,aL hb,aL hb]
theorem JJ(h:fz K t vs H Q E):vs.length=1:=by obtain ⟨i,u,rfl,_⟩:=h;rfl
theorem Mw(T:cU K t)(h:fz K t vs H Q E):Ot K t (Dn Q) (start GO vs) H:=by
 obtain ⟨i,u,rfl,hu,q⟩:=h
 refine ⟨_,rfl,_,_,rfl,rfl,(show (0:Int)≤8 by decide),i,2,by rw [←nj i u hu];rfl,by decide,fun l1 H1 s1 e1 h1=>?_⟩
 refine ⟨_,rfl,_,_,rfl,rfl,(by show 1≤sizeLine;decide),fun l2 e2=>?_⟩
 refine ⟨l1,l2,_,_,rfl,rfl,(aP.new e2) _ _ h1,ao,?_,fun l3 e3=>?_⟩
 ·rw [bz,bG]
  show 2+1≤sizeLine
  decide
 refine q l3 _ ((s1.trans (aP.new e2)).trans (aP.new e3)) ((s1.trans (aP.new e2)).free e3) ?_
 rw [ao]
 show some (HO.lst (bV (Sa32.le 2 i) ++ [V.int (Builtin.bitAnd (bD i u) 255)]))=_
 rw [xD i u hu]
 unfold bV
 rw [List.map_append]
 rfl
theorem NX(h:eu K t vs H Q E):vs.length=2:=by obtain ⟨p,s,x,d,b,rfl,_⟩:=h;rfl
theorem ve{b:List Nat}(h:b.length≤8):Sa32.padded 8 b=b ++ Sa32.zeros (8 - b.length):=by
 unfold Sa32.padded Sa32.zeros
 rw [List.take_append,List.take_of_length_le h,List.take_replicate,Nat.min_eq_left (by omega)]
theorem Rc(T:cU K t)(h:eu K t vs H Q E):RX K t (Dn Q) (start Nz vs) H:=by
 obtain ⟨p,s,x,d,b,rfl,N,ho,hd,hb,q⟩:=h
 obtain ⟨dp,ob⟩:=N.ob
 have en:=N.number
 refine ⟨_,rfl,p,dp,_,rfl,ob,x.uU,_,rfl,p,_,dp,_,_,rfl,ob,T.ax,T.cO,x.mF,_,_,rfl,rfl,?_⟩
 refine ⟨_,rfl,d,b,8,rfl,hd,by omega,by decide,fun l H1 s1 e1 h1=>?_⟩
 have:(1408:Int)+x.number= ((0x580+s.node:Nat):Int):=by omega
 refine ⟨p,s,x,l,0x580+s.node,_,by rw [←this];rfl,N.same s1,ho,h1,N.mz e1,fun H2 x2 N2 k2=>q H2 x2 ?_ ((s1.keep _).trans k2)⟩
 unfold Sa32.St.answer
 rw [ve hb]
 exact N2
theorem Oo(h:fK K t vs H Q E):vs.length=3:=by obtain ⟨p,s,x,i,u,c,rfl,_⟩:=h;rfl
theorem PJ(T:cU K t)(h:fK K t vs H Q E):Sh K t (Dn Q) (start Nj vs) H:=by
 obtain ⟨p,s,x,i,u,c,rfl,N,ho,hu,q⟩:=h
 obtain ⟨dp,ob⟩:=N.ob
 refine ⟨_,rfl,p,_,dp,_,rfl,ob,T.ax,T.bN,x.Jn,?_⟩
 rw [NF.qz]
 obtain ⟨N1,k1⟩:=N.eR (dx:=dp)
 have eob:({x with hd:= .bB}:NF).fs= ({x with hd:= .bB,hf:=[]}:NF).fs:=rfl
 rw [eob]
 generalize upd H p (.ins t.aC dp ({x with hd:= .bB,hf:=[]}:NF).fs)=H1 at *
 generalize ({x with hd:= .bB,hf:=[]}:NF)=x1 at *
 refine ⟨_,rfl,(by show 1≤sizeLine;decide),fun l1 e1=>?_⟩
 have s1:aP H1 (upd H1 l1 (.lst [.int 128])):=aP.new e1
 refine ⟨_,rfl,i,u,rfl,hu,fun l2 H2 s2 e2 h2=>?_⟩
 have h1:H2 l1=some (.lst [.int 128]):=s2 _ _ ao
 refine ⟨l1,l2,_,_,rfl,rfl,h1,h2,?_,fun l3 e3=>?_⟩
 ·rw [bz,List.length_append,bG]
  show 1+ (2+1)≤sizeLine
  decide
 have s3:aP H2 (upd H2 l3 (.lst ([.int 128] ++ bV (Sa32.le 2 i ++ [u])))):=aP.new e3
 refine ⟨_,rfl,c,4,rfl,by decide,fun l4 H4 s4 e4 h4=>?_⟩
 refine ⟨l3,l4,_,_,rfl,rfl,s4 _ _ ao,h4,?_,fun l5 e5=>?_⟩
 ·rw [bz,bG,List.length_append,bz,List.length_append,bG]
  show 1+ (2+1)+4≤sizeLine
  decide
 have s5:=(((s1.trans s2).trans s3).trans s4).trans (aP.new (o:= .lst ([.int 128] ++ bV (Sa32.le 2 i ++ [u]) ++ bV (Sa32.le 4 c))) e5)
 refine ⟨p,_,x1,l5,[0x80] ++ (Sa32.le 2 i ++ (u::Sa32.le 4 c)),rfl,N1.same s5,ho,?_,?_,fun H6 x6 N6 k6=>q H6 x6 N6 (k1.trans ((s5.keep _).trans k6))⟩
 ·rw [ao]
  unfold bV
  simp
 ·simp [bG]
end
end Fn
namespace Fn
open PySem L2
section
variable{K:PySem.W.Frag}{t:bh}{vs:List V}{H:Hp}{Q:VK}{E:XK}
theorem WF.Rh{s:Sa32.St}(w:WF s){i u:Nat}{e:Sa32.Ent}(he:s.ent i u=some e):(i=0x1017→u=0)∧(i=0x1016→e.w=true→u=1∨u=2):=by
 obtain ⟨h1,h2,h3⟩:=bo he
 by_cases hi:i=0x1017∨i=0x1016
 ·rcases List.mem_append.mp h1 with h1 | h1
  ·have:=(w.tab e h1).1
   omega
  ·obtain ⟨e0,h4,h5⟩:=zK w.own h1
   obtain ⟨q1,q2,_,q4,_⟩:=tf h5
   rcases List.mem_append.mp ((tH s.node e0).mp h4) with h4 | h4
   ·unfold tL at h4
    simp only [List.mem_cons,List.not_mem_nil,or_false] at h4
    rcases h4 with rfl | rfl | rfl | rfl | rfl | rfl | rfl | rfl <;> simp only [oE] at q1 q2 q4 <;> refine ⟨fun z=>?_,fun z z2=>?_⟩ <;> first | omega | (rw [←q4] at z2;cases z2)
   ·obtain ⟨_,k,_,h6⟩:=wY h4
    omega
 ·exact ⟨fun z=>absurd (.inl z) hi,fun z=>absurd (.inr z) hi⟩
theorem Uk{s:Sa32.St}(w:WF s){i u:Nat}{v:List Nat}{e:Sa32.Ent}(he:s.ent i u=some e)(hl:v.length=e.val.length)(hb:ft v)(hr:Sa32.refuses s i u (Sa32.num v)=none):∀k,k < 4→pW (s.put i u v) (0x1A00+k):=fun k hk=>by
 by_cases z:i=0x1016
 ·exact (w.maps k hk 0x1A00 (.inr rfl)).put (hl ▸ w.mS he) (by omega)
 ·exact (w.put (.qJ w he hl hb hr fun z'=>absurd z' z)).maps k hk 0x1A00 (.inr rfl)
theorem Ab(h:gW K t vs H Q E):vs.length=3:=by obtain ⟨p,s,x,s',e,b,i,u,rfl,_⟩:=h;rfl
theorem BH(T:cU K t)(h:gW K t vs H Q E):Ea K t (Dn Q) (start tR vs) H:=by
 obtain ⟨p,s,x,s',e,b,i,u,rfl,⟨N,w⟩,he,hw,hl,hb,hset,q⟩:=h
 have hu:u < 256:=by
  have:=(w.bounds (bo he).1).2.2.1
  rw [(bo he).2.2] at this
  exact this
 have hr:Sa32.refuses s i u (Sa32.num b)=none:=by
  unfold Sa32.St.set at hset
  cases hr:Sa32.refuses s i u (Sa32.num b) with
  | none=>rfl
  | some c=>rw [hr] at hset;cases hset
 have hs':s'= (if i=0x1017 then {s.put i u b with beat:=s.now} else if i=0x1016 then {s.put i u b with heard:=(s.put i u b).heard.set (u - 1) none} else s.put i u b):=by
  unfold Sa32.St.set at hset
  rw [hr] at hset
  exact (Sum.inr.inj hset).symm
 obtain ⟨o1,o2⟩:=w.Rh he
 refine ⟨_,rfl,_,rfl,_,rfl,p,s,x,e,b,i,u,rfl,⟨N,w⟩,he,hl,hb,Uk w he hl hb hr,fun H1 x1 N1 k1=>?_⟩
 obtain ⟨dp,ob⟩:=N1.ob
 have hh:(s.put i u b).heard.length=2:=by rw [vc,w.heard]
 have hnow:(s.put i u b).now=s.now:=Sb s i u b
 generalize s.put i u b=s1 at *
 have en:=N1.now
 refine ⟨_,rfl,_,_,rfl,rfl,?_⟩
 by_cases z1:i=0x1017
 ·have hu0:=o1 z1
  rw [if_pos z1] at hs'
  refine ⟨true,qc (by rw [z1,hu0];rfl),aS ?_⟩
  refine ⟨_,rfl,p,_,dp,_,_,rfl,ob,T.ax,T.bY,x1.nZ,_,rfl,p,_,dp,_,rfl,ob,T.ax,T.dh,x1.Jn,?_⟩
  rw [NF.qB]
  obtain ⟨N2,k2⟩:=N1.KG (dx:=dp) (v:=x1.now) s.now (by rw [en,hnow])
  refine ⟨_,rfl,_,_,rfl,rfl,(show (0:Int)≤8 by decide),rfl,false,pD (by rw [nj _ _ hu];omega),aZ (q _ _ ?_ (k1.trans k2))⟩
  rw [hs']
  exact N2
 rw [if_neg z1] at hs'
 refine ⟨false,pD (by intro z;have:=uz hu (by decide) (show bD i u=bD 0x1017 0 from z);omega),aZ ?_⟩
 by_cases z2:i=0x1016
 ·rw [if_pos z2] at hs'
  have hu2:=o2 z2 hw
  refine ⟨_,rfl,_,_,rfl,rfl,(show (0:Int)≤8 by decide),rfl,true,qc (by rw [nj _ _ hu];omega),aS ?_⟩
  have ei:Builtin.bitAnd (bD i u) 255 - 1= ((u - 1:Nat):Int):=by rw [xD _ _ hu];omega
  refine ⟨_,rfl,p,_,dp,_,_,rfl,ob,T.ax,T.eG,x1.rS,_,rfl,_,_,rfl,rfl,_,_,rfl,rfl,x1.ha,_,_,u - 1,rfl,rfl,N1.heard,?_,?_⟩
  ·rw [ei]
   exact Av (by rw [List.length_map,hh];omega)
  obtain ⟨N2,k2⟩:=N1.LH (s1.heard.set (u - 1) none)
  rw [List.map_set] at N2 k2
  refine q _ x1 ?_ (k1.trans k2)
  rw [hs']
  exact N2
 ·rw [if_neg z2] at hs'
  refine ⟨_,rfl,_,_,rfl,rfl,(show (0:Int)≤8 by decide),rfl,false,pD (by rw [nj _ _ hu];omega),aZ (q _ x1 ?_ k1)⟩
  rw [hs']
  exact N1
theorem C1(h:gU K t vs H Q E):vs.length=4:=by obtain ⟨p,s,x,e,b,a,r,d,i,u,rfl,_⟩:=h;rfl
theorem JW{s:Sa32.St}{i u v c:Nat}(h:Sa32.refuses s i u v=some c):c ≠ 0:=by
 intro hc
 subst hc
 unfold Sa32.refuses Sa32.mapRefuses at h
 simp only [if_true,Bool.false_eq_true,if_false] at h
 repeat' split at h
 all_goals simp [Sa32.RANGE,Sa32.BUSY] at h
theorem Fj(T:cU K t)(h:gU K t vs H Q E):HD K t (Dn Q) (start yc vs) H:=by
 obtain ⟨p,s,x,e,b,a,r,d,i,u,rfl,⟨N,w⟩,he,hw,hl,hb,hr,hd,ha,hdF,q⟩:=h
 obtain ⟨dp,ob⟩:=N.ob
 have hu:u < 256:=by
  have:=(w.bounds (bo he).1).2.2.1
  rw [(bo he).2.2] at this
  exact this
 refine ⟨_,rfl,r,b,rfl,hr,?_⟩
 refine ⟨_,rfl,p,_,dp,_,_,rfl,ob,T.ax,T.aD,x.ba,_,rfl,_,rfl,x.en,x.aB,s,e,i,u,Sa32.num b,rfl,N.ents,w,he,by rw [←hl];exact Au hb,fun H1 s1=>?_⟩
 have N1:=N.same s1
 unfold MY Sa32.St.set at q
 cases hrf:Sa32.refuses s i u (Sa32.num b) with
 | some c=>
  rw [hrf] at q
  have hc:=JW hrf
  refine ⟨_,rfl,rfl,true,zy (by show ¬(c:Int)=0;omega),aS ?_⟩
  exact ⟨_,rfl,_,rfl,_,rfl,p,s,x,i,u,c,rfl,N1,w.out,hu,fun H2 x2 N2 k2=>q H2 x2 N2 ((s1.keep _).trans k2)⟩
 | none=>
  rw [hrf] at q
  refine ⟨_,rfl,rfl,false,GI rfl,aZ ?_⟩
  have hset:s.set i u b= .inr (if i=0x1017 then {s.put i u b with beat:=s.now} else if i=0x1016 then {s.put i u b with heard:=(s.put i u b).heard.set (u - 1) none} else s.put i u b):=by
   unfold Sa32.St.set
   rw [hrf]
  refine ⟨_,rfl,_,rfl,_,rfl,p,s,x,_,e,b,i,u,rfl,⟨N1,w⟩,he,hw,hl,hb,hset,fun H2 x2 N2 k2=>?_⟩
  have w2:=w.set he hl hb hset
  have k02:=(s1.keep (x.F p)).trans k2
  exact ⟨_,rfl,_,rfl,p,_,x2,d,a,rfl,N2,w2.out,k02.old _ _ hd hdF,ha,fun H3 x3 N3 k3=>q H3 x3 N3 (k02.trans k3)⟩
theorem Jk(b:Bool)(k:Int)(l:Addr)(n:Int):(cy b k l n).lookup ("is_set":Str)=some (.bl b):=bE
theorem mj(b:Bool)(k:Int)(l:Addr)(n:Int):(cy b k l n).lookup ("key":Str)=some (.int k):=by
 unfold cy
 rw [af (by decide +kernel),bE]
theorem fZ(b:Bool)(k:Int)(l:Addr)(n:Int):(cy b k l n).lookup ("row":Str)=some (.ref l):=by
 unfold cy
 rw [af (by decide +kernel),af (by decide +kernel),bE]
theorem mJ(b:Bool)(k:Int)(l:Addr)(n:Int):(cy b k l n).lookup ("turn":Str)=some (.int n):=by
 unfold cy
 rw [af (by decide +kernel),af (by decide +kernel),af (by decide +kernel),bE]
theorem Gx(b:Bool)(k:Int)(l:Addr)(n m:Int):bI "turn" (.int m) (cy b k l n)=cy b k l m:=by
 unfold cy
 rw [au (by decide +kernel),au (by decide +kernel),au (by decide +kernel),cZ]
theorem Rn(b:Bool)(k:Int)(l l':Addr)(n:Int):bI "row" (.ref l') (cy b k l n)=cy b k l' n:=by
 unfold cy
 rw [au (by decide +kernel),au (by decide +kernel),cZ]
theorem DG(h:eO K t vs H Q E):vs.length=2:=by obtain ⟨p,s,x,c,rfl,_⟩:=h;rfl
theorem FD(T:cU K t)(h:eO K t vs H Q E):Hd K t (Dn Q) (start yD vs) H:=by
 obtain ⟨p,s,x,c,rfl,⟨N,w⟩,q⟩:=h
 obtain ⟨dp,ob⟩:=N.ob
 have A:=N.hand
 have wo:=w.hand
 unfold jL at wo
 unfold rY at q
 refine ⟨_,rfl,_,rfl,p,_,dp,_,_,rfl,ob,T.ax,T.bN,x.tI,?_⟩
 cases hh:s.hand with
 | none=>
  rw [hh] at A q
  rw [A.1]
  exact ⟨true,rfl,aS ⟨_,rfl,p,s,x,0,0,c,rfl,N,w.out,by decide,q⟩⟩
 | down i u g b=>
  rw [hh] at A q wo
  obtain ⟨h,l,dx,e1,_,e2,_⟩:=A
  have ob':=ob
  rw [e1]
  exact ⟨false,rfl,aZ ⟨_,rfl,p,_,dp,_,_,rfl,ob,T.ax,T.bN,x.tI,h,_,dx,_,_,e1,e2,T.cq,T.iJ,mj _ _ _ _,_,rfl,p,s,x,i,u,c,rfl,N,w.out,wo.2.1,q⟩⟩
 | up i u g b=>
  rw [hh] at A q wo
  obtain ⟨h,l,dx,e1,_,e2,_⟩:=A
  rw [e1]
  exact ⟨false,rfl,aZ ⟨_,rfl,p,_,dp,_,_,rfl,ob,T.ax,T.bN,x.tI,h,_,dx,_,_,e1,e2,T.cq,T.iJ,mj _ _ _ _,_,rfl,p,s,x,i,u,c,rfl,N,w.out,wo.2.1,q⟩⟩
theorem Hr(c k:Nat):c &&& 2 ^ k=if c.testBit k=true then 2 ^ k else 0:=by
 refine Nat.eq_of_testBit_eq fun i=>?_
 rw [Nat.testBit_and,Nat.testBit_two_pow]
 by_cases z:k=i
 ·subst z
  cases h:c.testBit k
  ·simp
  ·rw [if_pos rfl,Nat.testBit_two_pow]
   simp
 ·rw [decide_eq_false z]
  cases c.testBit k
  ·simp
  ·rw [if_pos rfl,Nat.testBit_two_pow,decide_eq_false z]
   simp
theorem SU(c:Nat):Builtin.bitAnd (c:Int) 16=cN (c.testBit 4):=by
 show ((c &&& 2 ^ 4:Nat):Int)=_
 rw [Hr]
 unfold cN
 cases c.testBit 4 <;> rfl
theorem Sx(c:Nat):Builtin.bitAnd (c:Int) 2=if c.testBit 1=true then 2 else 0:=by
 show ((c &&& 2 ^ 1:Nat):Int)=_
 rw [Hr]
 cases c.testBit 1 <;> rfl
theorem OB(c:Nat):Builtin.bitAnd (c:Int) 1=if c.testBit 0=true then 1 else 0:=by
 show ((c &&& 2 ^ 0:Nat):Int)=_
 rw [Hr]
 cases c.testBit 0 <;> rfl
theorem PM{a b:Bool}:cN a=cN b↔a=b:=by cases a <;> cases b <;> decide
theorem yC(h:dY K t vs H Q E):vs.length=3:=by obtain ⟨p,s,x,d,b,f,rfl,_⟩:=h;rfl
theorem AI(T:cU K t)(h:dY K t vs H Q E):Cd K t (Dn Q) (start sH vs) H:=by
 obtain ⟨p,s,x,d,b,f,rfl,N,hd,hb,q⟩:=h
 obtain ⟨dp,ob⟩:=N.ob
 have A:=N.hand
 unfold cw at q
 refine ⟨_,rfl,p,_,dp,_,_,rfl,ob,T.ax,T.bN,x.tI,?_⟩
 have go:∀(g bit:Bool)(h l dx:Addr)(k:Int),x.hd= .ref h→H h=some (.ins t.bL dx (cy g k l (cN bit)))→(g ≠ f→Q (.int 84148225) H)→(g=f→Q (.int (((if (b.getD 0 0).testBit 4 ≠ bit then 0x05030000 else 0:Nat):Nat):Int)) H)→
   ∃c,V.bl (decide (x.hd= .bB))= .bl c∧if c=true then (if true=true then Q (.int 84148225) H else (bu (Ol (aU (aV xC (aV (bP fun i j=> .int (Builtin.bitAnd i j)) (aV (iL K) (ag 1) (tC (.int 0))) (tC (.int 16))) (aT K (aT K (ag 0) "hand") "turn"))) (tC (.int 84082688)) (tC (.int 0)))) (Dn Q) [some (.ref p),some (.ref d),some (.bl f)] H) else
    (aU (aV xC (aT K (aT K (ag 0) "hand") "is_set") (ag 2))) [some (.ref p),some (.ref d),some (.bl f)] H fun c H1=>if c=true then Q (.int 84148225) H1 else (bu (Ol (aU (aV xC (aV (bP fun i j=> .int (Builtin.bitAnd i j)) (aV (iL K) (ag 1) (tC (.int 0))) (tC (.int 16))) (aT K (aT K (ag 0) "hand") "turn"))) (tC (.int 84082688)) (tC (.int 0)))) (Dn Q) [some (.ref p),some (.ref d),some (.bl f)] H1:=by
  intro g bit h l dx k e1 e2 q1 q2
  rw [e1]
  refine ⟨false,rfl,aZ ⟨_,rfl,p,_,dp,_,_,rfl,ob,T.ax,T.bN,x.tI,h,_,dx,_,_,e1,e2,T.cq,T.vA,Jk _ _ _ _,_,rfl,rfl,?_⟩⟩
  by_cases z:g=f
  ·refine ⟨false,by rw [z,decide_eq_true rfl];rfl,aZ ?_⟩
   have q3:=q2 z
   refine ⟨_,rfl,d,_,_,_,rfl,rfl,cb.of hd,jF (i:=0) (by omega),_,_,rfl,rfl,_,rfl,p,_,dp,_,_,rfl,ob,T.ax,T.bN,x.tI,h,_,dx,_,_,e1,e2,T.cq,T.d0,mJ _ _ _ _,rfl,?_⟩
   by_cases z2:(b.getD 0 0).testBit 4=bit
   ·rw [if_neg fun w=>w z2] at q3
    exact ⟨false,GI (by rw [SU,z2]),aZ q3⟩
   ·rw [if_pos z2] at q3
    exact ⟨true,zy (by rw [SU,PM];exact z2),aS q3⟩
  ·refine ⟨true,?_,aS (q1 z)⟩
   have:decide (V.bl g=V.bl f)=false:=decide_eq_false fun w=>z (by injection w)
   rw [this]
   rfl
 cases hh:s.hand with
 | none=>
  rw [hh] at A q
  rw [A.1]
  exact ⟨true,rfl,aS (aS q)⟩
 | down i u g bit=>
  rw [hh] at A q
  obtain ⟨h,l,dx,e1,_,e2,_⟩:=A
  refine go true bit h l dx _ e1 e2 (fun z=>?_) (fun z=>?_)
  ·cases f with
   | true=>exact absurd rfl z
   | false=>exact q
  ·subst z
   exact q
 | up i u g bit=>
  rw [hh] at A q
  obtain ⟨h,l,dx,e1,_,e2,_⟩:=A
  refine go false bit h l dx _ e1 e2 (fun z=>?_) (fun z=>?_)
  ·cases f with
   | true=>exact q
   | false=>exact absurd rfl z
  ·subst z
   exact q
theorem AM(h:dc K t vs H Q E):vs.length=2:=by obtain ⟨k,n,rfl,_⟩:=h;rfl
theorem Cc(T:cU K t)(h:dc K t vs H Q E):Ep K t (Dn Q) (start ud vs) H:=by
 obtain ⟨k,n,rfl,q⟩:=h
 unfold iy at q
 by_cases z1:n < k
 ·rw [if_pos z1] at q
  exact ⟨_,rfl,_,rfl,_,_,rfl,rfl,true,tt (by omega),aS q⟩
 rw [if_neg z1] at q
 refine ⟨_,rfl,_,rfl,_,_,rfl,rfl,false,ff (by omega),aZ ?_⟩
 by_cases z2:k < n
 ·rw [if_pos z2] at q
  exact ⟨_,rfl,_,rfl,_,_,rfl,rfl,true,tt (by omega),aS q⟩
 ·rw [if_neg z2] at q
  exact ⟨_,rfl,_,rfl,_,_,rfl,rfl,false,ff (by omega),aZ q⟩
theorem sN(h:dr K t vs H Q E):vs.length=2:=by obtain ⟨n,d,b,rfl,_⟩:=h;rfl
theorem tQ(T:cU K t)(h:dr K t vs H Q E):vx K t (Dn Q) (start k0 vs) H:=by
 obtain ⟨n,d,b,rfl,hd,hb,q⟩:=h
 have a0:Rv (bV b) ((0:Nat):Int)=_:=jF (b:=b) (i:=0) (by omega)
 unfold iR at q
 have q0:=q H (aP.refl H)
 cases t1:(b.getD 0 0).testBit 1 with
 | false=>
  rw [t1,if_neg (by decide)] at q q0
  refine ⟨_,rfl,d,_,_,_,rfl,rfl,cb.of hd,a0,_,_,rfl,rfl,rfl,true,qc (by rw [Sx,t1];rfl),aS ?_⟩
  cases t0:(b.getD 0 0).testBit 0 with
  | false=>
   rw [t0,if_neg (by decide)] at q0
   exact ⟨_,rfl,d,_,_,_,rfl,rfl,cb.of hd,a0,_,_,rfl,rfl,rfl,false,GI (by rw [OB,t0];rfl),aZ q0⟩
  | true=>
   rw [t0,if_pos rfl] at q
   refine ⟨_,rfl,d,_,_,_,rfl,rfl,cb.of hd,a0,_,_,rfl,rfl,rfl,true,zy (by rw [OB,t0];decide),aS ?_⟩
   refine ⟨_,rfl,_,rfl,_,rfl,d,_,rfl,cb.of hd,fun r hr=>⟨r,b.drop 4,rfl,?_,_,rfl,Sa32.num (b.drop 4),n,rfl,q _ (aP.new hr)⟩⟩
   have:=m4 b 4 8
   rw [List.take_of_length_le (by rw [List.length_drop];omega)] at this
   exact ao.trans (congrArg (fun l=>some (HO.lst l)) this)
 | true=>
  rw [t1,if_pos rfl] at q0
  refine ⟨_,rfl,d,_,_,_,rfl,rfl,cb.of hd,a0,_,_,rfl,rfl,rfl,false,pD (by rw [Sx,t1];decide),aZ ?_⟩
  cases t0:(b.getD 0 0).testBit 0 with
  | false=>
   rw [t0,if_neg (by decide)] at q0
   refine ⟨_,rfl,d,_,_,_,rfl,rfl,cb.of hd,a0,_,_,rfl,rfl,rfl,true,qc (by rw [OB,t0];rfl),aS ?_⟩
   refine ⟨_,rfl,_,_,rfl,_,rfl,min 4 n,n,?_,q0⟩
   have:(if (4:Int) < (n:Int) then 4 else (n:Int))= ((min 4 n:Nat):Int):=by split <;> omega
   rw [←this]
   rfl
  | true=>
   rw [t0,if_pos rfl] at q0
   refine ⟨_,rfl,d,_,_,_,rfl,rfl,cb.of hd,a0,_,_,rfl,rfl,rfl,false,pD (by rw [OB,t0];decide),aZ ?_⟩
   refine ⟨_,rfl,d,_,_,_,rfl,rfl,cb.of hd,a0,_,_,rfl,rfl,(show (0:Int)≤2 by decide),_,_,rfl,rfl,_,_,rfl,rfl,_,rfl,4 - b.getD 0 0 / 4 % 4,n,?_,q0⟩
   have:(4:Int) - Builtin.bitAnd (((b.getD 0 0:Nat):Int) / 2 ^ (2:Int).toNat) 3= ((4 - b.getD 0 0 / 4 % 4:Nat):Int):=by
    rw [PyProof.Rows.bitAnd_m2]
    show (4:Int) - ((b.getD 0 0:Nat):Int) / 4 % 4=_
    omega
   rw [←this]
   rfl
theorem yQ(h:dS K t vs H Q E):vs.length=2:=by obtain ⟨d,aB,s,i,u,rfl,_⟩:=h;rfl
theorem A0(T:cU K t)(h:dS K t vs H Q E):BO K t (Dn Q) (start sf vs) H:=by
 obtain ⟨d,aB,s,i,u,rfl,En,w,hu,q⟩:=h
 unfold HC at q
 cases he:s.ent i u with
 | some e=>
  have q0:=q H (aP.refl H)
  rw [he] at q0
  obtain ⟨a,dx,ha,hx⟩:=En.entry he
  exact ⟨_,rfl,_,rfl,d,_,rfl,gE.at En.dict ha,true,rfl,aS q0⟩
 | none=>
  rw [he] at q
  refine ⟨_,rfl,_,rfl,d,_,rfl,gE.at En.dict (En.Dr w hu he),false,rfl,aZ ?_⟩
  refine ⟨_,rfl,_,rfl,_,_,rfl,rfl,(show (0:Int)≤8 by decide),d,aB,_,i,by rw [←nj i u hu];rfl,En,fun e he=>(w.bounds he).2.2.1,fun H1 s1=>⟨_,rfl,?_⟩⟩
  have q1:=q H1 s1
  cases z:((s.table ++ s.own).any fun e=>e.index == i) with
  | true=>rw [z] at q1;exact aS q1
  | false=>rw [z] at q1;exact aZ q1
theorem Fq(h:i8 K t vs H Q E):vs.length=1:=by obtain ⟨d,b,rfl,_⟩:=h;rfl
theorem Hb(T:cU K t)(h:i8 K t vs H Q E):La K t (Dn Q) (start Bx vs) H:=by
 obtain ⟨d,b,rfl,hd,hb,q⟩:=h
 refine ⟨_,rfl,_,rfl,_,rfl,d,_,rfl,cb.of hd,fun r hr=>⟨r,(b.drop 1).take 2,rfl,?_,?_⟩⟩
 ·exact ao.trans (congrArg (fun l=>some (HO.lst l)) (m4 b 1 3))
 ·exact ⟨_,rfl,d,_,_,_,rfl,rfl,cb.of ((aP.new hr) _ _ hd),jF (i:=3) (by omega),_,_,rfl,q _ (aP.new hr)⟩
end
end Fn
namespace Fn
open PySem L2
section
variable{K:PySem.W.Frag}{t:bh}{vs:List V}{H:Hp}{Q:VK}{E:XK}
theorem Oc(s:Sa32.St)(h:Sa32.Hand)(i u:Nat)(b:List Nat):({s with hand:=h}:Sa32.St).set i u b=match s.set i u b with
  | .inl c=> .inl c
  | .inr t=> .inr {t with hand:=h}:=by
 unfold Sa32.St.set
 have e1:Sa32.refuses ({s with hand:=h}:Sa32.St) i u (Sa32.num b)=Sa32.refuses s i u (Sa32.num b):=rfl
 rw [e1]
 cases Sa32.refuses s i u (Sa32.num b) with
 | some c=>rfl
 | none=>
  have e2:({s with hand:=h}:Sa32.St).put i u b= {s.put i u b with hand:=h}:=by
   unfold Sa32.St.put
   show (if s.val i u=b then _ else _)=_
   split <;> rfl
  simp only [e2]
  split
  ·rfl
  ·split <;> rfl
theorem Ui(b:List Nat)(j:Nat):jV (bV b) none (some (j:Int))=bV (b.take j):=by
 have:=m4 b 0 j
 rw [List.drop_zero,Nat.sub_zero] at this
 rw [←this]
 unfold jV
 rw [HT.uQ (k:=0),Nat.zero_min]
 rfl
theorem TJ(b:List Nat)(i:Nat):jV (bV b) (some (i:Int)) none=bV (b.drop i):=by
 have:=m4 b i b.length
 rw [List.take_of_length_le (by rw [List.length_drop];omega)] at this
 rw [←this]
 unfold jV
 rw [HT.uQ (k:=b.length),bz,Nat.min_self]
 rfl
theorem GL(b:Bool):(16:Int) - cN b=cN (!b):=by cases b <;> rfl
theorem Ld(b:Bool):cN b= ((16 * b.toNat:Nat):Int):=by cases b <;> rfl
theorem UA{a b:Addr}(h:a ≠ b): [a,b].Nodup:=by
 simp only [List.nodup_cons,List.mem_singleton,List.not_mem_nil,not_false_eq_true,List.nodup_nil,and_self,and_true]
 exact h
theorem C7(h:j7 K t vs H Q E):vs.length=2:=by obtain ⟨p,s,x,d,b,rfl,_⟩:=h;rfl
theorem Fe(T:cU K t)(h:j7 K t vs H Q E):HS K t (Dn Q) (start xT vs) H:=by
 obtain ⟨p,s,x,d,b,rfl,⟨N,w⟩,hd,hb,hby,hdF,hk,q⟩:=h
 obtain ⟨dp,ob⟩:=N.ob
 have A:=N.hand
 have wo:=w.hand
 unfold jL at wo
 have hc256:=km hby 0
 have hreq:Sa32.request s b=match s.hand with
  | .down i u got bit=>
   if (b.getD 0 0).testBit 4 ≠ bit then s.abort i u 0x05030000
   else
    if (s.val i u).length < (got ++ (b.drop 1).take (7 - b.getD 0 0 / 2 % 8)).length then s.abort i u 0x06070012
    else if (b.getD 0 0).testBit 0=false then ({s with hand:= .down i u (got ++ (b.drop 1).take (7 - b.getD 0 0 / 2 % 8)) (!bit)}:Sa32.St).answer [0x20+16 * bit.toNat]
    else if (got ++ (b.drop 1).take (7 - b.getD 0 0 / 2 % 8)).length < (s.val i u).length then s.abort i u 0x06070013
    else match s.set i u (got ++ (b.drop 1).take (7 - b.getD 0 0 / 2 % 8)) with
     | .inl x=>s.abort i u x
     | .inr t=>({t with hand:= .none}:Sa32.St).answer [0x20+16 * bit.toNat]
  | .up i u _ _=>s.abort i u 0x05040001
  | .none=>s.abort 0 0 0x05040001:=by
  unfold Sa32.request
  simp only [hk]
  rfl
 rw [hreq] at q
 refine ⟨_,rfl,_,rfl,p,s,x,d,b,true,rfl,N,hd,hb,?_⟩
 cases hh:s.hand with
 | none=>
  rw [hh] at q
  rw [show cw s (b.getD 0 0) true=0x05040001 by unfold cw;rw [hh]]
  exact ⟨_,rfl,rfl,true,zy (by decide),aS ⟨_,rfl,_,rfl,p,s,x,0x05040001,rfl,⟨N,w⟩,by unfold rY;rw [hh];exact q⟩⟩
 | up i u left bit=>
  rw [hh] at q
  rw [show cw s (b.getD 0 0) true=0x05040001 by unfold cw;rw [hh];rfl]
  exact ⟨_,rfl,rfl,true,zy (by decide),aS ⟨_,rfl,_,rfl,p,s,x,0x05040001,rfl,⟨N,w⟩,by unfold rY;rw [hh];exact q⟩⟩
 | down i u got bit=>
  rw [hh] at q A wo
  simp only at q
  by_cases zb:(b.getD 0 0).testBit 4=bit
  ·rw [if_neg fun w=>w zb] at q
   obtain ⟨hi,hu,hgb,e,he,hew,hgl⟩:=wo
   obtain ⟨h,l,dx,e1,e2,e3,e4⟩:=A
   have hwp:cw s (b.getD 0 0) true=0:=by
    unfold cw
    rw [hh]
    simp only [if_true]
    rw [if_neg fun w=>w zb]
   rw [hwp]
   rw [fC he] at q
   obtain ⟨a,dxe,ha,hx⟩:=N.ents.entry he
   have hbd:=w.bounds (bo he).1
   have hlh:h ≠ l:=uk e3 e4 (by intro z;cases z)
   refine ⟨_,rfl,rfl,false,GI rfl,aZ ?_⟩
   refine ⟨_,rfl,p,_,dp,_,_,rfl,ob,T.ax,T.bN,x.tI,?_⟩
   rw [e1]
   refine ⟨_,rfl,p,_,dp,_,_,rfl,ob,T.ax,T.aD,x.ba,_,rfl,h,_,dx,_,_,rfl,e3,T.cq,T.iJ,mj _ _ _ _,x.en,.ref a,rfl,gE.at N.ents.dict ha,a,_,dxe,_,_,rfl,hx,T.bH,T.bT,cR e,?_⟩
   refine ⟨_,rfl,h,_,dx,_,_,rfl,e3,T.cq,T.cV,fZ _ _ _ _,.inl ⟨rfl,_,cb.of e4⟩,?_⟩
   refine ⟨_,rfl,_,rfl,_,_,rfl,rfl,_,rfl,d,_,_,_,rfl,rfl,cb.of hd,jF (i:=0) (by omega),_,_,rfl,rfl,(show (0:Int)≤1 by decide),_,_,rfl,rfl,_,_,rfl,rfl,_,rfl,d,_,rfl,cb.of hd,fun r hr=>?_⟩
   have ecut:(1:Int)+7 - Builtin.bitAnd (((b.getD 0 0:Nat):Int) / 2 ^ (1:Int).toNat) 7= ((1+ (7 - b.getD 0 0 / 2 % 8):Nat):Int):=by
    rw [PyProof.Rows.bitAnd_m3]
    show (1:Int)+7 - ((b.getD 0 0:Nat):Int) / 2 % 8=_
    omega
   dsimp only
   rw [ecut]
   have hcut:=m4 b 1 (1+ (7 - b.getD 0 0 / 2 % 8))
   rw [Nat.add_sub_cancel_left] at hcut
   have hcut':jV (bV b) (some 1) (some ((1+ (7 - b.getD 0 0 / 2 % 8):Nat):Int))=bV ((b.drop 1).take (7 - b.getD 0 0 / 2 % 8)):=hcut
   rw [hcut']
   generalize hpc:(b.drop 1).take (7 - b.getD 0 0 / 2 % 8)=pc at *
   have hpl:pc.length≤7:=by rw [←hpc,List.length_take];omega
   have hpb:ft pc:=by rw [←hpc];exact gO (gS hby _) _
   have s1:aP H (upd H r (.lst (bV pc))):=aP.new hr
   refine ⟨l,r,_,_,rfl,rfl,s1 _ _ e4,ao,?_,?_⟩
   ·rw [bz,bz]
    exact Nat.le_of_lt (b7 (by omega))
   rw [Mz]
   obtain ⟨N1,k1⟩:=N.Cj (o:= .lst (bV (got ++ pc))) (hd':= .down i u (got ++ pc) bit) (hf':=[h,l]) s1 (by rw [e2];simp) (fun c hc=>by rw [e2];exact .inl hc) (UA hlh) ⟨h,l,dx,e1,rfl,ck (s1 _ _ e3) hlh,ao⟩
   have ob1:=ck (q:=l) (o:= .lst (bV (got ++ pc))) (s1 _ _ ob) (Ne.symm (N.df.hf l (by rw [e2];simp)).1)
   have e31:upd (upd H r (.lst (bV pc))) l (.lst (bV (got ++ pc))) h=some (.ins t.bL dx (cy true (bD i u) l (cN bit))):=ck (s1 _ _ e3) hlh
   have e41:upd (upd H r (.lst (bV pc))) l (.lst (bV (got ++ pc))) l=some (.lst (bV (got ++ pc))):=ao
   have hd1:upd (upd H r (.lst (bV pc))) l (.lst (bV (got ++ pc))) d=some (.lst (bV b)):=k1.old _ _ hd hdF
   generalize upd (upd H r (.lst (bV pc))) l (.lst (bV (got ++ pc)))=H1 at *
   refine ⟨_,rfl,h,_,dx,_,_,rfl,e31,T.cq,T.d0,mJ _ _ _ _,_,_,rfl,rfl,(by show 1≤sizeLine;decide),fun la hla=>?_⟩
   dsimp only
   have ela:(32:Int)+cN bit= ((0x20+16 * bit.toNat:Nat):Int):=by rw [Ld];omega
   rw [ela]
   have s2:aP H1 (upd H1 la (.lst [.int ((0x20+16 * bit.toNat:Nat):Int)])):=aP.new hla
   have hla2:upd H1 la (.lst [.int ((0x20+16 * bit.toNat:Nat):Int)]) la=some (.lst (bV [0x20+16 * bit.toNat])):=ao
   generalize upd H1 la (.lst [.int ((0x20+16 * bit.toNat:Nat):Int)])=H2 at *
   refine ⟨_,rfl,h,_,dx,_,_,rfl,s2 _ _ e31,T.cq,T.d0,mJ _ _ _ _,_,_,rfl,rfl,_,rfl,h,_,dx,_,rfl,s2 _ _ e31,T.cq,T.d0,(by show 4 < 1000;decide),?_⟩
   dsimp only
   rw [Gx,GL]
   obtain ⟨N3,k3⟩:=N1.Cj (o:= .ins t.bL dx (cy true (bD i u) l (cN (!bit)))) (hd':= .down i u (got ++ pc) (!bit)) (hf':=[h,l]) s2 (by simp) (fun c hc=> .inl hc) (UA hlh) ⟨h,l,dx,e1,rfl,ao,ck (s2 _ _ e41) (Ne.symm hlh)⟩
   have hFla:¬({x with hf:=[h,l]}:NF).F p la:=N1.mz hla
   have hlh3:la ≠ h:=fun z=>by rw [z] at hla;rw [hla] at e31;cases e31
   have ob3:=ck (q:=h) (o:= .ins t.bL dx (cy true (bD i u) l (cN (!bit)))) (s2 _ _ ob1) (Ne.symm (N.df.hf h (by rw [e2];simp)).1)
   have e33:upd H2 h (.ins t.bL dx (cy true (bD i u) l (cN (!bit)))) h=some (.ins t.bL dx (cy true (bD i u) l (cN (!bit)))):=ao
   have e43:upd H2 h (.ins t.bL dx (cy true (bD i u) l (cN (!bit)))) l=some (.lst (bV (got ++ pc))):=ck (s2 _ _ e41) (Ne.symm hlh)
   have hla3:upd H2 h (.ins t.bL dx (cy true (bD i u) l (cN (!bit)))) la=some (.lst (bV [0x20+16 * bit.toNat])):=ck hla2 hlh3
   have k03:=k1.trans k3
   have hd3:upd H2 h (.ins t.bL dx (cy true (bD i u) l (cN (!bit)))) d=some (.lst (bV b)):=k03.old _ _ hd hdF
   generalize upd H2 h (.ins t.bL dx (cy true (bD i u) l (cN (!bit))))=H3 at *
   have ho3:s.out.length≤32:=w.out
   by_cases z1:e.val.length < (got ++ pc).length
   ·rw [if_pos z1] at q
    refine ⟨_,rfl,h,_,dx,_,_,rfl,e33,T.cq,T.cV,fZ _ _ _ _,l,_,rfl,.inl (cb.of e43),_,rfl,_,_,rfl,rfl,true,tt (by rw [bz];omega),aS ?_⟩
    exact ⟨_,rfl,_,rfl,h,_,dx,_,_,rfl,e33,T.cq,T.iJ,mj _ _ _ _,p,_,_,i,u,0x06070012,rfl,N3,ho3,hu,fun H4 x4 N4 k4=>q H4 x4 N4 (k03.trans k4)⟩
   rw [if_neg z1] at q
   refine ⟨_,rfl,h,_,dx,_,_,rfl,e33,T.cq,T.cV,fZ _ _ _ _,l,_,rfl,.inl (cb.of e43),_,rfl,_,_,rfl,rfl,false,ff (by rw [bz];omega),aZ ?_⟩
   cases t0:(b.getD 0 0).testBit 0 with
   | false=>
    rw [if_pos t0] at q
    refine ⟨_,rfl,d,_,_,_,rfl,rfl,cb.of hd3,jF (i:=0) (by omega),_,_,rfl,rfl,rfl,true,qc (by rw [OB,t0];rfl),aS ?_⟩
    exact ⟨_,rfl,_,rfl,p,_,_,la,[0x20+16 * bit.toNat],rfl,N3,ho3,hla3,(show 1≤8 by decide),fun H4 x4 N4 k4=>q H4 x4 N4 (k03.trans k4)⟩
   | true=>
    rw [if_neg (by rw [t0];decide)] at q
    refine ⟨_,rfl,d,_,_,_,rfl,rfl,cb.of hd3,jF (i:=0) (by omega),_,_,rfl,rfl,rfl,false,pD (by rw [OB,t0];decide),aZ ?_⟩
    by_cases z2:(got ++ pc).length < e.val.length
    ·rw [if_pos z2] at q
     refine ⟨_,rfl,h,_,dx,_,_,rfl,e33,T.cq,T.cV,fZ _ _ _ _,l,_,rfl,.inl (cb.of e43),_,rfl,_,_,rfl,rfl,true,tt (by rw [bz];omega),aS ?_⟩
     exact ⟨_,rfl,_,rfl,h,_,dx,_,_,rfl,e33,T.cq,T.iJ,mj _ _ _ _,p,_,_,i,u,0x06070013,rfl,N3,ho3,hu,fun H4 x4 N4 k4=>q H4 x4 N4 (k03.trans k4)⟩
    rw [if_neg z2] at q
    refine ⟨_,rfl,h,_,dx,_,_,rfl,e33,T.cq,T.cV,fZ _ _ _ _,l,_,rfl,.inl (cb.of e43),_,rfl,_,_,rfl,rfl,false,ff (by rw [bz];omega),aZ ?_⟩
    obtain ⟨N4,k4⟩:=N3.eR (dx:=dp)
    refine ⟨_,rfl,p,_,dp,_,rfl,ob3,T.ax,T.bN,x.Jn,?_⟩
    rw [NF.qz]
    have hph:h ≠ p:=(N.df.hf h (by rw [e2];simp)).1
    have hpl2:l ≠ p:=(N.df.hf l (by rw [e2];simp)).1
    have hpla:la ≠ p:=fun z=>hFla (by rw [z];exact NF.L6 _ p)
    have e34:upd H3 p (.ins t.aC dp ({x with hd:= .bB,hf:=[]}:NF).fs) h=_:=ck e33 hph
    have e44:upd H3 p (.ins t.aC dp ({x with hd:= .bB,hf:=[]}:NF).fs) l=_:=ck e43 hpl2
    have hla4:upd H3 p (.ins t.aC dp ({x with hd:= .bB,hf:=[]}:NF).fs) la=_:=ck hla3 hpla
    have w4:WF ({s with hand:= .none}:Sa32.St):=w.eR
    refine ⟨_,rfl,_,rfl,h,_,dx,_,_,rfl,e34,T.cq,T.iJ,mj _ _ _ _,_,rfl,h,_,dx,_,_,rfl,e34,T.cq,T.cV,fZ _ _ _ _,_,rfl,?_⟩
    refine ⟨p,{s with hand:= .none},_,e,got ++ pc,[0x20+16 * bit.toNat],l,la,i,u,rfl,⟨N4,w4⟩,he,hew,by omega,lU hgb hpb,e44,hla4,(show 1≤8 by decide),fun z=>hFla ?_,fun H5 x5 N5 k5=>q H5 x5 ?_ ((k03.trans k4).trans k5)⟩
    ·rcases z with z | z | z
     ·exact .inl z
     ·exact .inr (.inl z)
     ·exact absurd z (by simp)
    ·unfold MY at N5
     rw [Oc] at N5
     cases hs:s.set i u (got ++ pc) with
     | inl c=>rw [hs] at N5;exact N5
     | inr s'=>rw [hs] at N5;exact N5
  ·rw [if_pos zb] at q
   rw [show cw s (b.getD 0 0) true=0x05030000 by unfold cw;rw [hh];simp only [if_true];rw [if_pos zb]]
   exact ⟨_,rfl,rfl,true,zy (by decide),aS ⟨_,rfl,_,rfl,p,s,x,0x05030000,rfl,⟨N,w⟩,by unfold rY;rw [hh];exact q⟩⟩
end
end Fn
namespace Fn
open PySem L2
section
variable{K:PySem.W.Frag}{t:bh}{vs:List V}{H:Hp}{Q:VK}{E:XK}
theorem Ft(h:lA K t vs H Q E):vs.length=2:=by obtain ⟨p,s,x,d,b,rfl,_⟩:=h;rfl
theorem yn(s:Sa32.St)(i u:Nat)(wr:Bool):Sa32.wanted s i u wr=match s.ent i u with
  | some e=>if (if wr=true then e.w else e.r)=true then .inr e else .inl (if wr=true then 0x06010002 else 0x06010001)
  | none=> .inl (if ((s.table ++ s.own).any fun e=>e.index == i)=true then 0x06090011 else 0x06020000):=rfl
theorem uS{c:Nat}(h:c ≠ 0):¬Cf (some c)=0:=by show ¬(c:Int)=0;omega
theorem PY(e:Sa32.Ent)(k:Nat):Sa32.long e k=iy e.val.length k:=rfl
theorem C4{n k c:Nat}(h:iy n k=some c):c ≠ 0:=by
 unfold iy at h
 split at h
 ·cases h;decide
 ·split at h
  ·cases h;decide
  ·cases h
theorem zq{n k:Nat}(h:iy n k=none):k=n:=by
 unfold iy at h
 split at h
 ·cases h
 ·split at h
  ·cases h
  ·omega
theorem IA(T:cU K t)(h:lA K t vs H Q E):Kg K t (Dn Q) (start Bh vs) H:=by
 obtain ⟨p,s,x,d,b,rfl,⟨N,w⟩,hd,hb,hby,hdF,hk,q⟩:=h
 obtain ⟨dp,ob⟩:=N.ob
 have hu:=km hby 3
 have hi:=Nf hby
 refine ⟨_,rfl,d,b,rfl,hd,hb,fun H1 s1=>?_⟩
 have hreq:Sa32.request s b=match s.ent (Sa32.num ((b.drop 1).take 2)) (b.getD 3 0) with
  | none=>s.abort (Sa32.num ((b.drop 1).take 2)) (b.getD 3 0) (if ((s.table ++ s.own).any fun e=>e.index == Sa32.num ((b.drop 1).take 2))=true then 0x06090011 else 0x06020000)
  | some e=>if e.w=true then (match iR e.val.length b with
    | some c=>s.abort (Sa32.num ((b.drop 1).take 2)) (b.getD 3 0) c
    | none=>if (b.getD 0 0).testBit 1=true then MY {s with hand:= .none} (Sa32.num ((b.drop 1).take 2)) (b.getD 3 0) ((b.drop 4).take e.val.length) ([0x60] ++ (Sa32.le 2 (Sa32.num ((b.drop 1).take 2)) ++ [b.getD 3 0]))
     else ({s with hand:= .down (Sa32.num ((b.drop 1).take 2)) (b.getD 3 0) [] false}:Sa32.St).answer ([0x60] ++ (Sa32.le 2 (Sa32.num ((b.drop 1).take 2)) ++ [b.getD 3 0])))
    else s.abort (Sa32.num ((b.drop 1).take 2)) (b.getD 3 0) 0x06010002:=by
  unfold Sa32.request
  simp only [hk,if_true]
  rw [yn]
  show (match (match s.ent (Sa32.num ((b.drop 1).take 2)) (b.getD 3 0) with
   | some e=>_
   | none=>_:Nat ⊕ Sa32.Ent) with
   | .inl x=>_
   | .inr e=>_)=_
  cases s.ent (Sa32.num ((b.drop 1).take 2)) (b.getD 3 0) with
  | none=>rfl
  | some e=>
   simp only [if_true]
   cases e.w with
   | false=>rfl
   | true=>
    simp only [if_true]
    unfold iR
    simp only [PY]
    cases (b.getD 0 0).testBit 1 with
    | true=>
     simp only [if_true]
     cases hL:iy e.val.length (if (b.getD 0 0).testBit 0=true then 4 - b.getD 0 0 / 4 % 4 else min 4 e.val.length) with
     | some c=>rfl
     | none=>
      simp only
      rw [zq hL]
      rfl
    | false=>
     simp only [Bool.false_eq_true,if_false]
     cases (b.getD 0 0).testBit 0 with
     | true=>
      simp only [if_true]
      cases iy e.val.length (Sa32.num (b.drop 4)) with
      | some c=>rfl
      | none=>rfl
     | false=>rfl
 rw [hreq] at q
 generalize hii:Sa32.num ((b.drop 1).take 2)=i at *
 generalize huu:b.getD 3 0=u at *
 have N1:=N.same s1
 have ob1:=s1 _ _ ob
 have hd1:=s1 _ _ hd
 refine ⟨_,rfl,p,_,dp,_,_,rfl,ob1,T.ax,T.aD,x.ba,_,rfl,x.en,x.aB,s,i,u,rfl,N1.ents,w,hu,fun H2 s2=>?_⟩
 have N2:=N1.same s2
 have ob2:=s2 _ _ ob1
 have hd2:=s2 _ _ hd1
 have s02:=s1.trans s2
 unfold HC
 have ab:∀(c:Nat)(H':Hp),c ≠ 0→aP H H'→dn t H p x (s.abort i u c) Q .bB→(az (fK K t) [] E0 (ae (ag 0) (ae (ag 2) (ae (ag 3) aw)))) [some (.ref p),some (.ref d),some (.int (bD i u)),some (.int (c:Int))] H' (fun _ H1=>Q .bB H1):=fun c H' hc sm q'=>⟨_,rfl,_,rfl,_,rfl,p,s,x,i,u,c,rfl,N.same sm,w.out,hu,fun H3 x3 N3 k3=>q' H3 x3 N3 ((sm.keep _).trans k3)⟩
 cases he:s.ent i u with
 | none=>
  rw [he] at q
  have hc:(if ((s.table ++ s.own).any fun e=>e.index == i)=true then 0x06090011 else 0x06020000) ≠ 0:=by split <;> decide
  refine ⟨_,rfl,rfl,false,pD (uS hc),aZ (aZ ?_)⟩
  refine ⟨_,rfl,rfl,false,pD (uS hc),aZ ?_⟩
  exact ⟨_,rfl,rfl,true,zy (uS hc),aS (ab _ H2 hc s02 q)⟩
 | some e=>
  rw [he] at q
  simp only at q
  obtain ⟨a,dxe,ha,hx⟩:=N2.ents.entry he
  refine ⟨_,rfl,rfl,true,qc rfl,aS ?_⟩
  refine ⟨_,rfl,p,_,dp,_,_,rfl,ob2,T.ax,T.aD,x.ba,_,rfl,x.en,.ref a,rfl,gE.at N2.ents.dict ha,a,_,dxe,_,_,rfl,hx,T.bH,T.jQ,vI e,e.w,rfl,?_⟩
  cases hw:e.w with
  | false=>
   rw [hw,if_neg (by decide)] at q
   refine aS ⟨_,rfl,rfl,false,pD (by decide),aZ ?_⟩
   exact ⟨_,rfl,rfl,true,zy (by decide),aS (ab _ H2 (by decide) s02 q)⟩
  | true=>
   rw [hw,if_pos rfl] at q
   refine aZ ⟨_,rfl,rfl,true,qc rfl,aS ?_⟩
   refine ⟨_,rfl,p,_,dp,_,_,rfl,ob2,T.ax,T.aD,x.ba,_,rfl,x.en,.ref a,rfl,gE.at N2.ents.dict ha,a,_,dxe,_,_,rfl,hx,T.bH,T.bT,cR e,_,rfl,e.val.length,d,b,rfl,hd2,hb,fun H3 s3=>?_⟩
   have s03:=s02.trans s3
   cases hA:iR e.val.length b with
   | some c=>
    rw [hA] at q
    have hc:c ≠ 0:=by
     unfold iR at hA
     split at hA
     ·exact C4 hA
     ·split at hA
      ·exact C4 hA
      ·cases hA
    exact ⟨_,rfl,rfl,true,zy (uS hc),aS (ab _ H3 hc s03 q)⟩
   | none=>
    rw [hA] at q
    have N3:=N.same s03
    have ob3:=s03 _ _ ob
    have hd3:=s03 _ _ hd
    have hx3:=s3 _ _ hx
    refine ⟨_,rfl,rfl,false,GI rfl,aZ ?_⟩
    cases t1:(b.getD 0 0).testBit 1 with
    | true=>
     rw [t1] at q
     simp only [if_true] at q
     refine ⟨_,rfl,d,_,_,_,rfl,rfl,cb.of hd3,jF (i:=0) (by omega),_,_,rfl,rfl,rfl,true,zy (by rw [Sx,t1];decide),aS ?_⟩
     refine ⟨_,rfl,p,_,dp,_,rfl,ob3,T.ax,T.bN,x.Jn,?_⟩
     rw [NF.qz]
     obtain ⟨N4,k4⟩:=N3.eR (dx:=dp)
     have eob:({x with hd:= .bB}:NF).fs= ({x with hd:= .bB,hf:=[]}:NF).fs:=rfl
     rw [eob]
     have hne:=(N3.oK ha).1
     have hx4:=ck (q:=p) (o:= .ins t.aC dp ({x with hd:= .bB,hf:=[]}:NF).fs) hx3 hne
     have ob4:upd H3 p (.ins t.aC dp ({x with hd:= .bB,hf:=[]}:NF).fs) p=some (.ins t.aC dp ({x with hd:= .bB,hf:=[]}:NF).fs):=ao
     have hd4:=k4.old _ _ hd3 hdF
     have ha4:bS ({x with hd:= .bB,hf:=[]}:NF).aB (Sum.inl (bD i u))=some (.ref a):=ha
     have k04:=(s03.keep (x.F p)).trans k4
     generalize upd H3 p (.ins t.aC dp ({x with hd:= .bB,hf:=[]}:NF).fs)=H4 at *
     generalize ({x with hd:= .bB,hf:=[]}:NF)=x4 at *
     refine ⟨_,rfl,_,rfl,_,rfl,_,rfl,_,rfl,p,_,dp,_,_,rfl,ob4,T.ax,T.aD,x4.ba,_,rfl,x4.en,.ref a,rfl,gE.at N4.ents.dict ha4,a,_,dxe,_,_,rfl,hx4,T.bH,T.bT,cR e,_,_,rfl,rfl,_,rfl,d,_,rfl,cb.of hd4,fun r hr=>?_⟩
     have hcut:jV (bV b) (some 4) (some ((4:Int)+ (e.val.length:Int)))=bV ((b.drop 4).take e.val.length):=by
      have:=m4 b 4 (4+e.val.length)
      rw [Nat.add_sub_cancel_left] at this
      rw [←this]
      congr 2
     dsimp only
     rw [hcut]
     have s5:aP H4 (upd H4 r (.lst (bV ((b.drop 4).take e.val.length)))):=aP.new hr
     have hr5:upd H4 r (.lst (bV ((b.drop 4).take e.val.length))) r=some (.lst (bV ((b.drop 4).take e.val.length))):=ao
     generalize upd H4 r (.lst (bV ((b.drop 4).take e.val.length)))=H5 at *
     refine ⟨(by show 1≤sizeLine;decide),fun l1 e1=>?_⟩
     have s6:aP H5 (upd H5 l1 (.lst [.int 96])):=aP.new e1
     refine ⟨_,rfl,i,u,rfl,hu,fun l2 H6 s7 e2 h2=>?_⟩
     have h1:H6 l1=some (.lst [.int 96]):=s7 _ _ ao
     refine ⟨l1,l2,_,_,rfl,rfl,h1,h2,?_,fun l3 e3=>?_⟩
     ·rw [bz,List.length_append,bG]
      show 1+ (2+1)≤sizeLine
      decide
     have s8:=((s5.trans s6).trans s7).trans (aP.new (o:= .lst ([.int 96] ++ bV (Sa32.le 2 i ++ [u]))) e3)
     have hlen:((b.drop 4).take e.val.length).length=e.val.length:=by
      have h4:iR e.val.length b=iy e.val.length (if (b.getD 0 0).testBit 0=true then 4 - b.getD 0 0 / 4 % 4 else min 4 e.val.length):=by unfold iR;rw [if_pos t1]
      rw [hA] at h4
      have:=zq h4.symm
      have h44:(if (b.getD 0 0).testBit 0=true then 4 - b.getD 0 0 / 4 % 4 else min 4 e.val.length)≤4:=by split <;> omega
      rw [List.length_take,List.length_drop]
      omega
     refine ⟨p,_,x4,e,(b.drop 4).take e.val.length,[0x60] ++ (Sa32.le 2 i ++ [u]),r,l3,i,u,rfl,⟨N4.same s8,w.eR⟩,he,hw,hlen,gO (gS hby _) _,?_,ao,?_,N4.mz ?_,fun H9 x9 N9 k9=>q H9 x9 N9 (k04.trans ((s8.keep _).trans k9))⟩
     ·exact (aP.new (o:= .lst ([.int 96] ++ bV (Sa32.le 2 i ++ [u]))) e3) _ _ (s7 _ _ (s6 _ _ hr5))
     ·rw [List.length_append,List.length_append,bG]
      show 1+ (2+1)≤8
      decide
     ·exact s5.free (s6.free (s7.free e3))
    | false=>
     rw [t1] at q
     simp only [Bool.false_eq_true,if_false] at q
     refine ⟨_,rfl,d,_,_,_,rfl,rfl,cb.of hd3,jF (i:=0) (by omega),_,_,rfl,rfl,rfl,false,GI (by rw [Sx,t1];rfl),aZ ?_⟩
     refine ⟨_,rfl,(by show 0≤sizeLine;decide),fun l hl h dx hh hdx hne=>?_⟩
     refine ⟨h,dx,true,bD i u,l,rfl,ao,fun H4 k1 k2=>⟨rfl,?_⟩⟩
     have hh3:H3 h=none:=(aP.new (o:= .lst []) hl).free hh
     have hdx3:H3 dx=none:=(aP.new (o:= .lst []) hl).free hdx
     have hlh:h ≠ l:=fun z=>by rw [z,ao] at hh;cases hh
     have hld:l ≠ dx:=fun z=>by rw [←z,ao] at hdx;cases hdx
     have s4:aP H3 H4:=fun c o hc=>by
      rw [k1 c (aE hc hh3),aL (aE hc hh3),aL (aE hc hdx3),aL (aE hc hl)]
      exact hc
     have hl4:H4 l=some (.lst (bV [])):=by
      rw [k1 l (Ne.symm hlh),aL (Ne.symm hlh),aL hld,ao]
      rfl
     refine ⟨_,rfl,p,_,dp,_,rfl,s4 _ _ ob3,T.ax,T.bN,x.Jn,?_⟩
     rw [NF.qz]
     obtain ⟨N5,k5⟩:=N3.Ek (dx:=dp) (v:= .ref h) (hf':=[h,l]) (hd':= .down i u [] false) s4 (fun c hc=>by
      simp only [List.mem_cons,List.not_mem_nil,or_false] at hc
      rcases hc with rfl | rfl
      ·exact hh3
      ·exact hl) (UA hlh) ⟨h,l,dx,rfl,rfl,k2,hl4⟩
     have eob:({x with hd:= .ref h}:NF).fs= ({x with hd:= .ref h,hf:=[h,l]}:NF).fs:=rfl
     rw [eob]
     have k05:=(s03.keep (x.F p)).trans k5
     generalize upd H4 p (.ins t.aC dp ({x with hd:= .ref h,hf:=[h,l]}:NF).fs)=H5 at *
     refine ⟨_,rfl,(by show 1≤sizeLine;decide),fun l1 e1=>?_⟩
     have s6:aP H5 (upd H5 l1 (.lst [.int 96])):=aP.new e1
     refine ⟨_,rfl,i,u,rfl,hu,fun l2 H6 s7 e2 h2=>?_⟩
     have h1:H6 l1=some (.lst [.int 96]):=s7 _ _ ao
     refine ⟨l1,l2,_,_,rfl,rfl,h1,h2,?_,fun l3 e3=>?_⟩
     ·rw [bz,List.length_append,bG]
      show 1+ (2+1)≤sizeLine
      decide
     have s8:=(s6.trans s7).trans (aP.new (o:= .lst ([.int 96] ++ bV (Sa32.le 2 i ++ [u]))) e3)
     refine ⟨p,_,_,l3,[0x60] ++ (Sa32.le 2 i ++ [u]),rfl,N5.same s8,w.out,ao,?_,fun H9 x9 N9 k9=>q H9 x9 N9 (k05.trans ((s8.keep _).trans k9))⟩
     rw [List.length_append,List.length_append,bG]
     show 1+ (2+1)≤8
     decide
end
end Fn
namespace Fn
open PySem L2
section
variable{K:PySem.W.Frag}{t:bh}{vs:List V}{H:Hp}{Q:VK}{E:XK}
theorem FC(h:lO K t vs H Q E):vs.length=2:=by obtain ⟨p,s,x,d,b,rfl,_⟩:=h;rfl
theorem WG(i:Nat):Sa32.le 2 i = [i % 256,i / 256 % 256]:=by
 rw [le_succ,le_succ]
 rfl
theorem HY(T:cU K t)(h:lO K t vs H Q E):K5 K t (Dn Q) (start Ba vs) H:=by
 obtain ⟨p,s,x,d,b,rfl,⟨N,w⟩,hd,hb,hby,hdF,hk,q⟩:=h
 obtain ⟨dp,ob⟩:=N.ob
 have hu:=km hby 3
 refine ⟨_,rfl,d,b,rfl,hd,hb,fun H1 s1=>?_⟩
 have hreq:Sa32.request s b=match s.ent (Sa32.num ((b.drop 1).take 2)) (b.getD 3 0) with
  | none=>s.abort (Sa32.num ((b.drop 1).take 2)) (b.getD 3 0) (if ((s.table ++ s.own).any fun e=>e.index == Sa32.num ((b.drop 1).take 2))=true then 0x06090011 else 0x06020000)
  | some e=>if e.r=true then (if e.val.length≤4 then ({s with hand:= .none}:Sa32.St).answer ([0x43+4 * (4 - e.val.length)] ++ (Sa32.le 2 (Sa32.num ((b.drop 1).take 2)) ++ (b.getD 3 0::e.val))) else ({s with hand:= .up (Sa32.num ((b.drop 1).take 2)) (b.getD 3 0) e.val false}:Sa32.St).answer ([0x41] ++ (Sa32.le 2 (Sa32.num ((b.drop 1).take 2)) ++ (b.getD 3 0::Sa32.le 4 e.val.length))))
    else s.abort (Sa32.num ((b.drop 1).take 2)) (b.getD 3 0) 0x06010001:=by
  unfold Sa32.request
  simp only [hk]
  rw [if_neg (show ¬(2:Nat)=1 by decide),if_neg (show ¬(2:Nat)=0 by decide),if_pos trivial,yn]
  have hx:({s with hand:= .none}:Sa32.St).ent (Sa32.num ((b.drop 1).take 2)) (b.getD 3 0)=s.ent (Sa32.num ((b.drop 1).take 2)) (b.getD 3 0):=rfl
  rw [hx]
  cases s.ent (Sa32.num ((b.drop 1).take 2)) (b.getD 3 0) with
  | none=>rfl
  | some e=>
   simp only [Bool.false_eq_true,if_false]
   by_cases z:e.r=true
   ·rw [if_pos z,if_pos z]
   ·rw [if_neg z,if_neg z]
    rfl
 rw [hreq] at q
 generalize hii:Sa32.num ((b.drop 1).take 2)=i at *
 generalize huu:b.getD 3 0=u at *
 have N1:=N.same s1
 have ob1:=s1 _ _ ob
 refine ⟨_,rfl,p,_,dp,_,_,rfl,ob1,T.ax,T.aD,x.ba,_,rfl,x.en,x.aB,s,i,u,rfl,N1.ents,w,hu,fun H2 s2=>?_⟩
 have N2:=N1.same s2
 have ob2:=s2 _ _ ob1
 have s02:=s1.trans s2
 unfold HC
 have ab:∀(c:Nat)(H':Hp),c ≠ 0→aP H H'→dn t H p x (s.abort i u c) Q .bB→(az (fK K t) [] E0 (ae (ag 0) (ae (ag 2) (ae (ag 3) aw)))) [some (.ref p),some (.ref d),some (.int (bD i u)),some (.int (c:Int)),none,none] H' (fun _ H1=>Q .bB H1):=fun c H' hc sm q'=>⟨_,rfl,_,rfl,_,rfl,p,s,x,i,u,c,rfl,N.same sm,w.out,hu,fun H3 x3 N3 k3=>q' H3 x3 N3 ((sm.keep _).trans k3)⟩
 cases he:s.ent i u with
 | none=>
  rw [he] at q
  have hc:(if ((s.table ++ s.own).any fun e=>e.index == i)=true then 0x06090011 else 0x06020000) ≠ 0:=by split <;> decide
  refine ⟨_,rfl,rfl,false,pD (uS hc),aZ (aZ ?_)⟩
  exact ⟨_,rfl,rfl,true,zy (uS hc),aS (ab _ H2 hc s02 q)⟩
 | some e=>
  rw [he] at q
  simp only at q
  obtain ⟨a,dxe,ha,hx⟩:=N2.ents.entry he
  have hbd:=w.bounds (bo he).1
  refine ⟨_,rfl,rfl,true,qc rfl,aS ?_⟩
  refine ⟨_,rfl,p,_,dp,_,_,rfl,ob2,T.ax,T.aD,x.ba,_,rfl,x.en,.ref a,rfl,gE.at N2.ents.dict ha,a,_,dxe,_,_,rfl,hx,T.bH,T.jM,wc e,e.r,rfl,?_⟩
  cases hr:e.r with
  | false=>
   rw [hr,if_neg (by decide)] at q
   refine aS ?_
   exact ⟨_,rfl,rfl,true,zy (by decide),aS (ab _ H2 (by decide) s02 q)⟩
  | true=>
   rw [hr,if_pos rfl] at q
   refine aZ ⟨_,rfl,rfl,false,GI rfl,aZ ?_⟩
   refine ⟨_,rfl,p,_,dp,_,_,rfl,ob2,T.ax,T.aD,x.ba,_,rfl,x.en,.ref a,rfl,gE.at N2.ents.dict ha,a,_,dxe,_,_,rfl,hx,T.bH,T.bT,cR e,?_⟩
   refine ⟨_,rfl,p,_,dp,_,_,rfl,ob2,T.ax,T.aD,x.ba,_,rfl,x.en,.ref a,rfl,gE.at N2.ents.dict ha,a,_,dxe,_,_,rfl,hx,T.bH,T.bZ,fE e,_,rfl,Sa32.num e.val,e.val.length,rfl,by omega,fun r H3 s3 er hr3=>?_⟩
   rw [Mu hbd.2.2.2.2.1] at hr3
   have s03:=s02.trans s3
   have N3:=N.same s03
   have ob3:=s03 _ _ ob
   by_cases z:e.val.length≤4
   ·rw [if_pos z] at q
    refine ⟨_,rfl,_,_,rfl,rfl,true,tt (by omega),aS ?_⟩
    refine ⟨_,rfl,p,_,dp,_,rfl,ob3,T.ax,T.bN,x.Jn,?_⟩
    rw [NF.qz]
    obtain ⟨N4,k4⟩:=N3.eR (dx:=dp)
    have eob:({x with hd:= .bB}:NF).fs= ({x with hd:= .bB,hf:=[]}:NF).fs:=rfl
    rw [eob]
    have hrF:¬x.F p r:=N.mz (s02.free er)
    have hr4:=k4.old _ _ hr3 hrF
    have k04:=(s03.keep (x.F p)).trans k4
    generalize upd H3 p (.ins t.aC dp ({x with hd:= .bB,hf:=[]}:NF).fs)=H4 at *
    refine ⟨_,rfl,_,rfl,_,_,rfl,rfl,_,_,rfl,rfl,.inl ⟨by decide,by decide⟩,_,_,rfl,rfl,(by show 1≤sizeLine;decide),fun l1 e1=>?_⟩
    have ev:(67:Int)+4 * (4 - (e.val.length:Int))= ((0x43+4 * (4 - e.val.length):Nat):Int):=by omega
    dsimp only
    rw [ev]
    have s6:aP H4 (upd H4 l1 (.lst [.int ((0x43+4 * (4 - e.val.length):Nat):Int)])):=aP.new e1
    refine ⟨_,rfl,i,u,rfl,hu,fun l2 H6 s7 e2 h2=>?_⟩
    have h1:H6 l1=some (.lst [.int ((0x43+4 * (4 - e.val.length):Nat):Int)]):=s7 _ _ ao
    refine ⟨l1,l2,_,_,rfl,rfl,h1,h2,?_,fun l3 e3=>?_⟩
    ·rw [bz,List.length_append,bG]
     show 1+ (2+1)≤sizeLine
     decide
    have s8:aP H6 (upd H6 l3 (.lst ([.int ((0x43+4 * (4 - e.val.length):Nat):Int)] ++ bV (Sa32.le 2 i ++ [u])))):=aP.new e3
    refine ⟨_,rfl,l3,r,_,_,rfl,rfl,ao,s8 _ _ (s7 _ _ (s6 _ _ hr4)),?_,fun l4 e4=>?_⟩
    ·rw [bz,List.length_append,bz,List.length_append,bG]
     show 1+ (2+1)+e.val.length≤sizeLine
     exact Nat.le_of_lt (b7 (by omega))
    have s9:=((s6.trans s7).trans s8).trans (aP.new (o:= .lst ([.int ((0x43+4 * (4 - e.val.length):Nat):Int)] ++ bV (Sa32.le 2 i ++ [u]) ++ bV e.val)) e4)
    refine ⟨p,_,_,l4,[0x43+4 * (4 - e.val.length)] ++ (Sa32.le 2 i ++ (u::e.val)),rfl,N4.same s9,w.out,?_,?_,fun H9 x9 N9 k9=>q H9 x9 N9 (k04.trans ((s9.keep _).trans k9))⟩
    ·rw [ao]
     unfold bV
     simp
    ·simp [bG]
     omega
   ·rw [if_neg z] at q
    have h8:e.val.length=8:=by omega
    refine ⟨_,rfl,_,_,rfl,rfl,false,ff (by omega),aZ ?_⟩
    refine ⟨_,rfl,_,rfl,fun h dx hh hdx hne=>?_⟩
    refine ⟨h,dx,false,bD i u,r,rfl,ao,fun H4 k1 k2=>⟨rfl,?_⟩⟩
    have s4:aP H3 H4:=fun c o hc=>by
     rw [k1 c (aE hc hh),aL (aE hc hh),aL (aE hc hdx)]
     exact hc
    have hlh:h ≠ r:=fun z=>by rw [z,hr3] at hh;cases hh
    refine ⟨_,rfl,p,_,dp,_,rfl,s4 _ _ ob3,T.ax,T.bN,x.Jn,?_⟩
    rw [NF.qz]
    have s24:=s3.trans s4
    obtain ⟨N5,k5⟩:=N2.Ek (dx:=dp) (v:= .ref h) (hf':=[h,r]) (hd':= .up i u e.val false) s24 (fun c hc=>by
     simp only [List.mem_cons,List.not_mem_nil,or_false] at hc
     rcases hc with rfl | rfl
     ·exact s3.free hh
     ·exact er) (UA hlh) ⟨h,r,dx,rfl,rfl,k2,s4 _ _ hr3⟩
    have eob:({x with hd:= .ref h}:NF).fs= ({x with hd:= .ref h,hf:=[h,r]}:NF).fs:=rfl
    rw [eob]
    have k05:=(s02.keep (x.F p)).trans k5
    generalize upd H4 p (.ins t.aC dp ({x with hd:= .ref h,hf:=[h,r]}:NF).fs)=H5 at *
    refine ⟨_,rfl,(by show 1≤sizeLine;decide),fun l1 e1=>?_⟩
    have s6:aP H5 (upd H5 l1 (.lst [.int 65])):=aP.new e1
    refine ⟨_,rfl,i,u,rfl,hu,fun l2 H6 s7 e2 h2=>?_⟩
    have h1:H6 l1=some (.lst [.int 65]):=s7 _ _ ao
    refine ⟨l1,l2,_,_,rfl,rfl,h1,h2,?_,fun l3 e3=>?_⟩
    ·rw [bz,List.length_append,bG]
     show 1+ (2+1)≤sizeLine
     decide
    have s8:aP H6 (upd H6 l3 (.lst ([.int 65] ++ bV (Sa32.le 2 i ++ [u])))):=aP.new e3
    refine ⟨_,rfl,(by show 1≤sizeLine;decide),fun l4 e4=>?_⟩
    have s9:aP (upd H6 l3 (.lst ([.int 65] ++ bV (Sa32.le 2 i ++ [u])))) (upd (upd H6 l3 (.lst ([.int 65] ++ bV (Sa32.le 2 i ++ [u])))) l4 (.lst [.int (e.val.length:Int)])):=aP.new e4
    refine ⟨l3,l4,_,_,rfl,rfl,s9 _ _ ao,ao,?_,fun l5 e5=>?_⟩
    ·rw [List.length_append,bz,List.length_append,bG]
     show 1+ (2+1)+1≤sizeLine
     decide
    have s10:=(((s6.trans s7).trans s8).trans s9).trans (aP.new (o:= .lst ([.int 65] ++ bV (Sa32.le 2 i ++ [u]) ++ [.int (e.val.length:Int)])) e5)
    refine ⟨p,_,_,l5,[0x41] ++ (Sa32.le 2 i ++ [u,8]),rfl,N5.same s10,w.out,?_,?_,fun H9 x9 N9 k9=>q H9 x9 ?_ (k05.trans ((s10.keep _).trans k9))⟩
    ·rw [ao,h8]
     unfold bV
     simp
    ·simp [bG]
    ·have e8:∀st:Sa32.St,st.answer ([0x41] ++ (Sa32.le 2 i ++ [u,8]))=st.answer ([0x41] ++ (Sa32.le 2 i ++ (u::Sa32.le 4 e.val.length))):=fun st=>by
      unfold Sa32.St.answer
      rw [h8,WG]
      rfl
     rw [←e8]
     exact N9
end
end Fn
namespace Fn
open PySem L2
section
variable{K:PySem.W.Frag}{t:bh}{vs:List V}{H:Hp}{Q:VK}{E:XK}
theorem Eo(h:kd K t vs H Q E):vs.length=2:=by obtain ⟨p,s,x,d,b,rfl,_⟩:=h;rfl
theorem Fh(T:cU K t)(h:kd K t vs H Q E):Hf K t (Dn Q) (start yi vs) H:=by
 obtain ⟨p,s,x,d,b,rfl,⟨N,w⟩,hd,hb,hby,hdF,hk,q⟩:=h
 obtain ⟨dp,ob⟩:=N.ob
 have A:=N.hand
 have wo:=w.hand
 unfold jL at wo
 have hreq:Sa32.request s b=match s.hand with
  | .up i u left bit=>
   if (b.getD 0 0).testBit 4 ≠ bit then s.abort i u 0x05030000
   else ({s with hand:=if decide (left.length≤7)=true then .none else .up i u (left.drop 7) (!bit)}:Sa32.St).answer ([16 * bit.toNat+2 * (7 - (left.take 7).length)+ (decide (left.length≤7)).toNat] ++ left.take 7)
  | .down i u _ _=>s.abort i u 0x05040001
  | .none=>s.abort 0 0 0x05040001:=by
  unfold Sa32.request
  simp only [hk]
  rw [if_neg (show ¬(3:Nat)=1 by decide),if_neg (show ¬(3:Nat)=0 by decide),if_neg (show ¬(3:Nat)=2 by decide),if_pos trivial]
  cases s.hand <;> rfl
 rw [hreq] at q
 refine ⟨_,rfl,_,rfl,p,s,x,d,b,false,rfl,N,hd,hb,?_⟩
 cases hh:s.hand with
 | none=>
  rw [hh] at q
  rw [show cw s (b.getD 0 0) false=0x05040001 by unfold cw;rw [hh]]
  exact ⟨_,rfl,rfl,true,zy (by decide),aS ⟨_,rfl,_,rfl,p,s,x,0x05040001,rfl,⟨N,w⟩,by unfold rY;rw [hh];exact q⟩⟩
 | down i u got bit=>
  rw [hh] at q
  rw [show cw s (b.getD 0 0) false=0x05040001 by unfold cw;rw [hh];rfl]
  exact ⟨_,rfl,rfl,true,zy (by decide),aS ⟨_,rfl,_,rfl,p,s,x,0x05040001,rfl,⟨N,w⟩,by unfold rY;rw [hh];exact q⟩⟩
 | up i u left bit=>
  rw [hh] at q A wo
  simp only at q
  by_cases zb:(b.getD 0 0).testBit 4=bit
  ·rw [if_neg fun w=>w zb] at q
   obtain ⟨hi,hu,hlb,hl8⟩:=wo
   obtain ⟨h,l,dx,e1,e2,e3,e4⟩:=A
   rw [show cw s (b.getD 0 0) false=0 by
    unfold cw
    rw [hh]
    simp only [Bool.false_eq_true,if_false]
    rw [if_neg fun w=>w zb]]
   have hlh:h ≠ l:=uk e3 e4 (by intro z;cases z)
   refine ⟨_,rfl,rfl,false,GI rfl,aZ ?_⟩
   refine ⟨_,rfl,p,_,dp,_,_,rfl,ob,T.ax,T.bN,x.tI,?_⟩
   rw [e1]
   refine ⟨_,rfl,h,_,dx,_,_,rfl,e3,T.cq,T.cV,fZ _ _ _ _,_,rfl,l,_,rfl,cb.of e4,fun l1 g1=>?_⟩
   have s1:aP H (upd H l1 (.lst (jV (bV left) none (some 7)))):=aP.new g1
   have h1:upd H l1 (.lst (jV (bV left) none (some 7))) l1=some (.lst (bV (left.take 7))):=ao.trans (congrArg (fun y=>some (HO.lst y)) (Ui left 7))
   generalize upd H l1 (.lst (jV (bV left) none (some 7)))=H1 at *
   refine ⟨_,rfl,h,_,dx,_,_,rfl,s1 _ _ e3,T.cq,T.cV,fZ _ _ _ _,_,rfl,l,_,rfl,cb.of (s1 _ _ e4),fun l2 g2=>?_⟩
   have s2:aP H1 (upd H1 l2 (.lst (jV (bV left) (some 7) none))):=aP.new g2
   have h2:upd H1 l2 (.lst (jV (bV left) (some 7) none)) l2=some (.lst (bV (left.drop 7))):=ao.trans (congrArg (fun y=>some (HO.lst y)) (TJ left 7))
   generalize upd H1 l2 (.lst (jV (bV left) (some 7) none))=H2 at *
   have s02:=s1.trans s2
   have hl2h:h ≠ l2:=fun z=>by rw [←z,s1 _ _ e3] at g2;cases g2
   refine ⟨_,rfl,h,_,dx,_,rfl,s02 _ _ e3,T.cq,T.cV,(by show 4 < 1000;decide),?_⟩
   rw [Rn]
   obtain ⟨N3,k3⟩:=N.Cj (o:= .ins t.bL dx (cy false (bD i u) l2 (cN bit))) (hd':= .up i u (left.drop 7) bit) (hf':=[h,l2]) s02 (by rw [e2];simp) (fun c hc=>by
    simp only [List.mem_cons,List.not_mem_nil,or_false] at hc
    rcases hc with rfl | rfl
    ·rw [e2];exact .inl (by simp)
    ·exact .inr (s1.free g2)) (UA hl2h) ⟨h,l2,dx,e1,rfl,ao,ck h2 (Ne.symm hl2h)⟩
   have e33:upd H2 h (.ins t.bL dx (cy false (bD i u) l2 (cN bit))) h=some (.ins t.bL dx (cy false (bD i u) l2 (cN bit))):=ao
   have h23:upd H2 h (.ins t.bL dx (cy false (bD i u) l2 (cN bit))) l2=some (.lst (bV (left.drop 7))):=ck h2 (Ne.symm hl2h)
   have hl1h:l1 ≠ h:=fun z=>by rw [z,e3] at g1;cases g1
   have h13:upd H2 h (.ins t.bL dx (cy false (bD i u) l2 (cN bit))) l1=some (.lst (bV (left.take 7))):=ck (s2 _ _ h1) hl1h
   have hph:p ≠ h:=Ne.symm (N.df.hf h (by rw [e2];simp)).1
   have ob3:=ck (q:=h) (o:= .ins t.bL dx (cy false (bD i u) l2 (cN bit))) (s02 _ _ ob) hph
   generalize upd H2 h (.ins t.bL dx (cy false (bD i u) l2 (cN bit)))=H3 at *
   refine ⟨_,rfl,h,_,dx,_,_,rfl,e33,T.cq,T.cV,fZ _ _ _ _,l2,_,rfl,.inl (cb.of h23),rfl,?_⟩
   have eL:decide (V.int (((bV (left.drop 7)).length:Nat):Int)=V.int 0)=decide (left.length≤7):=by
    rw [dI,Bool.eq_iff_iff,decide_eq_true_eq,decide_eq_true_eq,bz,List.length_drop]
    omega
   rw [eL]
   have hC:xX 2 ((7:Int) - (((bV (left.take 7)).length:Nat):Int)):= .inl ⟨by decide,by decide⟩
   have fin:∀lst:Bool,lst=decide (left.length≤7)→(aI (cJ K (ag 3) (aV (bP fun i j=> .int (i - j)) (tC (.int 16)) (aT K (ag 3) "turn")) "turn")
     (aI (bF (tB (ag 5))
     (cJ K (ag 0) (tC .bB) "hand")
     bt)
     (aW (az (eu K t) [] E0 (ae (ag 0) (ae (aV uF (d7 (ae (ag 6) aw)) (ag 4)) aw)))))) (Dn Q) [some (.ref p),some (.ref d),some (.int 0),some (.ref h),some (.ref l1),some (.bl lst),some (.int ((16 * bit.toNat+2 * (7 - (left.take 7).length)+lst.toNat:Nat):Int))] H3:=by
    intro lst hlst
    rw [←hlst] at q
    refine ⟨_,rfl,h,_,dx,_,_,rfl,e33,T.cq,T.d0,mJ _ _ _ _,_,_,rfl,rfl,_,rfl,h,_,dx,_,rfl,e33,T.cq,T.d0,(by show 4 < 1000;decide),?_⟩
    dsimp only
    rw [Gx,GL]
    obtain ⟨N4,k4⟩:=N3.Cj (o:= .ins t.bL dx (cy false (bD i u) l2 (cN (!bit)))) (hd':= .up i u (left.drop 7) (!bit)) (hf':=[h,l2]) (aP.refl H3) (by simp) (fun c hc=> .inl hc) (UA hl2h) ⟨h,l2,dx,e1,rfl,ao,ck h23 (Ne.symm hl2h)⟩
    have k04:=k3.trans k4
    have h14:upd H3 h (.ins t.bL dx (cy false (bD i u) l2 (cN (!bit)))) l1=some (.lst (bV (left.take 7))):=ck h13 hl1h
    have ob4:=ck (q:=h) (o:= .ins t.bL dx (cy false (bD i u) l2 (cN (!bit)))) ob3 hph
    generalize upd H3 h (.ins t.bL dx (cy false (bD i u) l2 (cN (!bit))))=H4 at *
    have endd:∀H5 x5 hd5,aN t H5 p {s with hand:=hd5} x5→bX H (x.F p) H5 (x5.F p)→H5 l1=some (.lst (bV (left.take 7)))→(if lst=true then .none else .up i u (left.drop 7) (!bit))=hd5→
      (aW (az (eu K t) [] E0 (ae (ag 0) (ae (aV uF (d7 (ae (ag 6) aw)) (ag 4)) aw)))) (Dn Q) [some (.ref p),some (.ref d),some (.int 0),some (.ref h),some (.ref l1),some (.bl lst),some (.int ((16 * bit.toNat+2 * (7 - (left.take 7).length)+lst.toNat:Nat):Int))] H5:=by
     intro H5 x5 hd5 N5 k5 h15 ehd
     refine ⟨_,rfl,_,rfl,(by show 1≤sizeLine;decide),fun l3 g3=>?_⟩
     have s6:aP H5 (upd H5 l3 (.lst [.int ((16 * bit.toNat+2 * (7 - (left.take 7).length)+lst.toNat:Nat):Int)])):=aP.new g3
     refine ⟨_,rfl,l3,l1,_,_,rfl,rfl,ao,s6 _ _ h15,?_,fun l4 g4=>?_⟩
     ·rw [bz,List.length_take]
      show 1+min 7 left.length≤sizeLine
      exact Nat.le_of_lt (b7 (by omega))
     have s7:=s6.trans (aP.new (o:= .lst ([.int ((16 * bit.toNat+2 * (7 - (left.take 7).length)+lst.toNat:Nat):Int)] ++ bV (left.take 7))) g4)
     refine ⟨p,_,x5,l4,[16 * bit.toNat+2 * (7 - (left.take 7).length)+lst.toNat] ++ left.take 7,rfl,N5.same s7,w.out,ao,?_,fun H9 x9 N9 k9=>q H9 x9 ?_ (k5.trans ((s7.keep _).trans k9))⟩
     ·rw [List.length_append,List.length_take]
      show 1+min 7 left.length≤8
      omega
     ·rw [ehd]
      exact N9
    cases lst with
    | false=>exact ⟨_,rfl,false,rfl,aZ (endd H4 _ _ N4 k04 h14 rfl)⟩
    | true=>
     refine ⟨_,rfl,true,rfl,aS ?_⟩
     refine ⟨_,rfl,p,_,dp,_,rfl,ob4,T.ax,T.bN,x.Jn,?_⟩
     rw [NF.qz]
     obtain ⟨N5,k5⟩:=N4.eR (dx:=dp)
     have hl1p:l1 ≠ p:=fun z=>by rw [z,ob] at g1;cases g1
     exact endd _ _ _ N5 (k04.trans k5) (ck h14 hl1p) rfl
   refine ⟨_,rfl,h,_,dx,_,_,rfl,e33,T.cq,T.d0,mJ _ _ _ _,_,rfl,l1,_,rfl,.inl (cb.of h13),_,_,rfl,rfl,_,_,rfl,rfl,hC,_,_,rfl,rfl,_,rfl,decide (left.length≤7),rfl,?_⟩
   have hl7:(left.take 7).length≤7:=by rw [List.length_take];omega
   have ev:∀lst:Bool,cN bit+2 * (7 - (((bV (left.take 7)).length:Nat):Int))+ (if lst=true then 1 else 0)= ((16 * bit.toNat+2 * (7 - (left.take 7).length)+lst.toNat:Nat):Int):=fun lst=>by
    rw [bz,Ld]
    cases lst
    ·show _+0= (((_+0:Nat)):Int)
     omega
    ·show _+1= (((_+1:Nat)):Int)
     omega
   cases hz:decide (left.length≤7) with
   | true=>
    have f:=fin true hz.symm
    rw [←ev true] at f
    exact aS ⟨_,_,rfl,rfl,f⟩
   | false=>
    have f:=fin false hz.symm
    rw [←ev false] at f
    exact aZ ⟨_,_,rfl,rfl,f⟩
  ·rw [if_pos zb] at q
   rw [show cw s (b.getD 0 0) false=0x05030000 by unfold cw;rw [hh];simp only [Bool.false_eq_true,if_false];rw [if_pos zb]]
   exact ⟨_,rfl,rfl,true,zy (by decide),aS ⟨_,rfl,_,rfl,p,s,x,0x05030000,rfl,⟨N,w⟩,by unfold rY;rw [hh];exact q⟩⟩
theorem AG(h:gX K t vs H Q E):vs.length=2:=by obtain ⟨p,s,x,d,b,rfl,_⟩:=h;rfl
theorem BJ(T:cU K t)(h:gX K t vs H Q E):D9 K t (Dn Q) (start uj vs) H:=by
 obtain ⟨p,s,x,d,b,rfl,⟨N,w⟩,hd,hb,hby,hdF,q⟩:=h
 obtain ⟨dp,ob⟩:=N.ob
 have ek:((b.getD 0 0:Nat):Int) / 2 ^ (5:Int).toNat= ((b.getD 0 0 / 32:Nat):Int):=by
  show ((b.getD 0 0:Nat):Int) / 32=_
  omega
 refine ⟨_,rfl,d,_,_,_,rfl,rfl,cb.of hd,jF (i:=0) (by omega),_,_,rfl,rfl,(show (0:Int)≤5 by decide),?_⟩
 dsimp only
 rw [ek]
 generalize hk:b.getD 0 0 / 32=k at *
 by_cases z0:k=0
 ·exact ⟨_,rfl,rfl,true,qc (by omega),aS ⟨_,rfl,_,rfl,p,s,x,d,b,rfl,⟨N,w⟩,hd,hb,hby,hdF,hk.trans z0,q⟩⟩
 refine ⟨_,rfl,rfl,false,pD (by omega),aZ ?_⟩
 by_cases z1:k=1
 ·exact ⟨_,rfl,rfl,true,qc (by omega),aS ⟨_,rfl,_,rfl,p,s,x,d,b,rfl,⟨N,w⟩,hd,hb,hby,hdF,hk.trans z1,q⟩⟩
 refine ⟨_,rfl,rfl,false,pD (by omega),aZ ?_⟩
 by_cases z2:k=2
 ·exact ⟨_,rfl,rfl,true,qc (by omega),aS ⟨_,rfl,_,rfl,p,s,x,d,b,rfl,⟨N,w⟩,hd,hb,hby,hdF,hk.trans z2,q⟩⟩
 refine ⟨_,rfl,rfl,false,pD (by omega),aZ ?_⟩
 by_cases z3:k=3
 ·exact ⟨_,rfl,rfl,true,qc (by omega),aS ⟨_,rfl,_,rfl,p,s,x,d,b,rfl,⟨N,w⟩,hd,hb,hby,hdF,hk.trans z3,q⟩⟩
 refine ⟨_,rfl,rfl,false,pD (by omega),aZ ?_⟩
 have hreq:Sa32.request s b=if k=4 then {s with hand:= .none} else rY s 0x05040001:=by
  unfold Sa32.request
  simp only [hk]
  rw [if_neg z1,if_neg z0,if_neg z2,if_neg z3]
  rfl
 rw [hreq] at q
 by_cases z4:k=4
 ·rw [if_pos z4] at q
  refine ⟨_,rfl,rfl,true,qc (by omega),aS ?_⟩
  refine ⟨_,rfl,p,_,dp,_,rfl,ob,T.ax,T.bN,x.Jn,?_⟩
  rw [NF.qz]
  obtain ⟨N5,k5⟩:=N.eR (dx:=dp)
  exact q _ _ N5 k5
 ·rw [if_neg z4] at q
  exact ⟨_,rfl,rfl,false,pD (by omega),aZ ⟨_,rfl,p,s,x,0x05040001,rfl,⟨N,w⟩,q⟩⟩
end
end Fn
namespace Fn
open PySem L2
section
theorem NF.T3(x:NF)(v:Addr):bI "kept" (.ref v) x.fs= ({x with kp:=v}:NF).fs:=by
 unfold NF.fs
 rw [au (by decide +kernel),au (by decide +kernel),au (by decide +kernel),au (by decide +kernel),au (by decide +kernel),au (by decide +kernel),au (by decide +kernel),cZ]
theorem NF.OP(x:NF)(v:Addr):bI "changed" (.ref v) x.fs= ({x with ch:=v}:NF).fs:=by
 unfold NF.fs
 rw [au (by decide +kernel),au (by decide +kernel),au (by decide +kernel),au (by decide +kernel),au (by decide +kernel),au (by decide +kernel),au (by decide +kernel),au (by decide +kernel),cZ]
theorem NF.LG(x:NF)(v:Addr):bI "heard_at" (.ref v) x.fs= ({x with ha:=v}:NF).fs:=by
 unfold NF.fs
 rw [au (by decide +kernel),au (by decide +kernel),au (by decide +kernel),au (by decide +kernel),au (by decide +kernel),au (by decide +kernel),au (by decide +kernel),au (by decide +kernel),au (by decide +kernel),cZ]
theorem NF.Be(x:NF)(v:Int):bI "work_from" (.int v) x.fs= ({x with dU:=v}:NF).fs:=by
 unfold NF.fs
 rw [au (by decide +kernel),au (by decide +kernel),au (by decide +kernel),au (by decide +kernel),au (by decide +kernel),au (by decide +kernel),au (by decide +kernel),au (by decide +kernel),au (by decide +kernel),au (by decide +kernel),au (by decide +kernel),au (by decide +kernel),cZ]
theorem NF.F9(x:NF)(v:Addr):bI "sent_at" (.ref v) x.fs= ({x with sa:=v}:NF).fs:=by
 unfold NF.fs
 rw [au (by decide +kernel),au (by decide +kernel),au (by decide +kernel),au (by decide +kernel),au (by decide +kernel),au (by decide +kernel),au (by decide +kernel),au (by decide +kernel),au (by decide +kernel),au (by decide +kernel),au (by decide +kernel),au (by decide +kernel),au (by decide +kernel),cZ]
theorem NF.O6(x:NF)(v:Addr):bI "entries" (.ref v) x.fs= ({x with en:=v}:NF).fs:=by
 unfold NF.fs
 rw [au (by decide +kernel),au (by decide +kernel),au (by decide +kernel),au (by decide +kernel),cZ]
end
def xx(x:NF)(lk lc lh ls:Addr)(aB:List (Key × V)):NF:={x with state:=127,hd:= .bB,kp:=lk,ch:=lc,ha:=lh,cT:=x.now,marks:=0,dU:=x.now,sa:=ls,aB:=aB,hf:=[]}
theorem Qa{x:NF}{fs:List (Str × V)}(h:fs=x.UG∨fs=x.fs)(lk lc lh ls:Addr)(aB:List (Key × V)){n:Int}(hn:n=x.now):bI "sent_at" (.ref ls) (bI "work_from" (.int n) (bI "marks" (.int 0) (bI "heart_from" (.int n) (bI "heard_at" (.ref lh) (bI "changed" (.ref lc) (bI "kept" (.ref lk) (bI "hand" (.bB) (bI "state" (.int 127) (fs)))))))))= (xx x lk lc lh ls aB).fs:=by
 subst hn
 rcases h with rfl | rfl
 ·rw [cC ["number","table","now","row","entries"] (f:="state") rfl (by decide +kernel),cC ["number","table","now","row","entries","state"] (f:="hand") rfl (by decide +kernel),cC ["number","table","now","row","entries","state","hand"] (f:="kept") rfl (by decide +kernel),cC ["number","table","now","row","entries","state","hand","kept"] (f:="changed") rfl (by decide +kernel),cC ["number","table","now","row","entries","state","hand","kept","changed"] (f:="heard_at") rfl (by decide +kernel),cC ["number","table","now","row","entries","state","hand","kept","changed","heard_at"] (f:="heart_from") rfl (by decide +kernel),cC ["number","table","now","row","entries","state","hand","kept","changed","heard_at","heart_from"] (f:="marks") rfl (by decide +kernel),cC ["number","table","now","row","entries","state","hand","kept","changed","heard_at","heart_from","marks"] (f:="work_from") rfl (by decide +kernel),cC ["number","table","now","row","entries","state","hand","kept","changed","heard_at","heart_from","marks","work_from"] (f:="sent_at") rfl (by decide +kernel)]
  rfl
 ·rw [NF.Cz,NF.qz,NF.T3,NF.OP,NF.LG,NF.qB,NF.G9,NF.Be,NF.F9]
  rfl
section
theorem CS{more:List (Key × V)}(hn:(more.map (·.1)).Nodup):∀(aB:List (Key × V))(k:Key),bS (jw aB more) k=match bS more k with
  | some v=>some v
  | none=>bS aB k:=by
 induction more with
 | nil=>intro aB k;rfl
 | cons p r ih=>
  intro aB k
  rw [List.map_cons,List.nodup_cons] at hn
  show bS (jw (putK aB p.1 p.2) r) k=_
  rw [ih hn.2]
  by_cases z:p.1=k
  ·subst z
   have:bS r p.1=none:=by
    cases q:bS r p.1 with
    | none=>rfl
    | some v=>exact absurd (MW q) hn.1
   rw [this,eB rfl,kH,if_pos rfl]
  ·rw [eC z]
   cases bS r k with
   | some v=>rfl
   | none=>
    show bS (putK aB p.1 p.2) k=bS aB k
    rw [kH,if_neg fun w=>z w.symm]
theorem Oi{more:List (Key × V)}:∀{aB:List (Key × V)},(∀k,k ∈ more.map (·.1)→bS aB k ≠ none)→(jw aB more).length=aB.length:=by
 induction more with
 | nil=>intro aB _;rfl
 | cons p r ih=>
  intro aB h
  show (jw (putK aB p.1 p.2) r).length=_
  have h1:=h p.1 (by simp)
  rw [ih fun k hk=>?_]
  ·unfold putK
   rw [kx]
   cases q:bS aB p.1 with
   | none=>exact absurd q h1
   | some v=>
    show (if true=true then _ else _:List (Key × V)).length=_
    rw [if_pos rfl,List.length_map]
  ·rw [kH]
   split
   ·exact fun w=>nomatch w
   ·exact h k (by rw [List.map_cons];exact List.mem_cons_of_mem _ hk)
theorem cK.merge{t:bh}{H:Hp}{d e:Addr}{aB more:List (Key × V)}{lt l0 lb:List Sa32.Ent}(E1:cK t H d aB (lt ++ l0))(E2:cK t H e more lb)(hn:(more.map (·.1)).Nodup)(h0:∀e,e ∈ l0→∃e',e' ∈ lb∧gQ e=gQ e')(hd:∀e e',e ∈ lt→e' ∈ lb→gQ e ≠ gQ e')
  (ha:∀k k' a,bS aB k=some (.ref a)→bS more k' ≠ some (.ref a)) (hlen:(jw aB more).length≤200):cK t (upd H d (.dK (jw aB more))) d (jw aB more) (lt ++ lb):=by
 have vm:=CS hn aB
 have none_of:∀k,(∀e',e' ∈ lb→k ≠ gQ e')→bS more k=none:=fun k hk=>by
  cases q:bS more k with
  | none=>rfl
  | some v=>obtain ⟨e',h1,h2⟩:=E2.only k v q;exact absurd h2 (hk e' h1)
 have ne:∀{a dx fs},H a=some (.ins t.bR dx fs)→a ≠ d:=fun h=>uk h E1.dict (by intro z;cases z)
 refine ⟨ao,fun x hx=>?_,fun k v hv=>?_,fun k k' a h1 h2=>?_,hlen⟩
 ·rcases List.mem_append.mp hx with hx | hx
  ·obtain ⟨a,h1,dx,h2⟩:=E1.look x (List.mem_append_left _ hx)
   refine ⟨a,?_,dx,ck h2 (ne h2)⟩
   rw [vm,none_of _ fun e' he'=>hd x e' hx he']
   exact h1
  ·obtain ⟨a,h1,dx,h2⟩:=E2.look x hx
   refine ⟨a,?_,dx,ck h2 (ne h2)⟩
   rw [vm,h1]
 ·rw [vm] at hv
  cases q:bS more k with
  | some v'=>
   obtain ⟨e',h1,h2⟩:=E2.only k v' q
   exact ⟨e',List.mem_append_right _ h1,h2⟩
  | none=>
   rw [q] at hv
   obtain ⟨x,h1,h2⟩:=E1.only k v hv
   rcases List.mem_append.mp h1 with h1 | h1
   ·exact ⟨x,List.mem_append_left _ h1,h2⟩
   ·obtain ⟨e',h3,h4⟩:=h0 x h1
    exact ⟨e',List.mem_append_right _ h3,by rw [h2,h4]⟩
 ·rw [vm] at h1 h2
  cases q1:bS more k with
  | some v1=>
   rw [q1] at h1
   cases h1
   cases q2:bS more k' with
   | some v2=>
    rw [q2] at h2
    cases h2
    exact E2.inj k k' a q1 q2
   | none=>
    rw [q2] at h2
    exact absurd q1 (ha k' k a h2)
  | none=>
   rw [q1] at h1
   cases q2:bS more k' with
   | some v2=>
    rw [q2] at h2
    cases h2
    exact absurd q2 (ha k k' a h1)
   | none=>
    rw [q2] at h2
    exact E1.inj k k' a h1 h2
end
section
variable{K:PySem.W.Frag}{t:bh}{vs:List V}{H:Hp}{Q:VK}{E:XK}
theorem ib{f:Str}{v:V}{fs:List (Str × V)}{n:Nat}(h:fs.length < n):(bI f v fs).length < n+1:=by
 have:=uE f v fs
 omega
theorem cX{f g:Str}{v:V}{fs:List (Str × V)}{o:Option V}(h:¬g=f)(hl:fs.lookup g=o):(bI f v fs).lookup g=o:=by
 rw [tJ,if_neg h]
 exact hl
theorem vv(h:c6 K t vs H Q E):vs.length=1:=by obtain ⟨p,dx,fs,now,rfl,_⟩:=h;rfl
theorem xi(T:cU K t)(h:c6 K t vs H Q E):yb K t (Dn Q) (start oa vs) H:=by
 obtain ⟨p,dx,fs,now,rfl,ob,hn,hl,q⟩:=h
 refine ⟨_,rfl,p,_,dx,_,rfl,ob,T.ax,T.lQ,by omega,?_⟩
 refine ⟨_,rfl,p,_,dx,_,_,rfl,ao,T.ax,T.bY,cX (by decide +kernel) hn,_,rfl,p,_,dx,_,rfl,ao,T.ax,T.pX,by have:=ib (f:="marks") (v:= .int 0) hl;omega,?_⟩
 rw [fc]
 refine ⟨(by show 1≤sizeLine;decide),fun l0 h0=>?_⟩
 refine ⟨l0,4,[.bB],rfl,rfl,ao,by decide,by decide,by show 1 * 4≤sizeLine;decide,fun l1 h1=>?_⟩
 have hp0:p ≠ l0:=fun z=>by rw [←z,ao] at h0;cases h0
 have hp1:p ≠ l1:=fun z=>by rw [←z,aL hp0,ao] at h1;cases h1
 refine ⟨_,rfl,p,_,dx,_,rfl,ck (ck ao hp0) hp1,T.ax,T.ju,by have:=ib (f:="work_from") (v:= .int now) (ib (f:="marks") (v:= .int 0) hl);omega,?_⟩
 have hb:∀b o,b ≠ p→H b=some o→b ≠ l0∧b ≠ l1:=fun b o hb ho=>by
  have z0:b ≠ l0:=fun z=>by rw [←z,aL hb,ho] at h0;cases h0
  exact ⟨z0,fun z=>by rw [←z,aL z0,aL hb,ho] at h1;cases h1⟩
 have hl1:H l1=none:=by
  rw [aL (fun z=>by rw [z,ao] at h1;cases h1),aL (Ne.symm hp1)] at h1
  exact h1
 refine q l1 _ hl1 (ck ao (Ne.symm hp1)) (fun b o hbp ho=>?_) ao
 obtain ⟨z0,z1⟩:=hb b o hbp ho
 exact ck (ck (ck (ck ho hbp) z0) z1) hbp
theorem NP{a b:Sa32.Ent}(h:sh a=sh b):gQ a=gQ b:=by
 obtain ⟨h1,h2,_⟩:=tf h
 unfold gQ
 rw [h1,h2]
theorem qr(h:cz K t vs H Q E):vs.length=1:=by obtain ⟨p,s,x,fs,l0,rfl,_⟩:=h;rfl
theorem Sv{x:NF}{fs:List (Str × V)}(h:fs=x.UG∨fs=x.fs):fs.length < 20∧fs.lookup ("number":Str)=some (.int x.number)∧fs.lookup ("now":Str)=some (.int x.now)∧fs.lookup ("row":Str)=some (.ref x.rw)∧fs.lookup ("entries":Str)=some (.ref x.en)∧fs.lookup ("count_work":Str)=none∧fs.lookup ("send":Str)=none:=by
 rcases h with rfl | rfl
 ·refine ⟨by show 5 < 20;decide,bE,?_,?_,?_,?_,?_⟩ <;> unfold NF.UG
  ·rw [af (by decide +kernel),af (by decide +kernel),bE]
  ·rw [af (by decide +kernel),af (by decide +kernel),af (by decide +kernel),bE]
  ·rw [af (by decide +kernel),af (by decide +kernel),af (by decide +kernel),af (by decide +kernel),bE]
  ·rw [af (by decide +kernel),af (by decide +kernel),af (by decide +kernel),af (by decide +kernel),af (by decide +kernel)];rfl
  ·rw [af (by decide +kernel),af (by decide +kernel),af (by decide +kernel),af (by decide +kernel),af (by decide +kernel)];rfl
 ·exact ⟨by show 14 < 20;decide,x.mF,x.nZ,x.K3,x.ba,x.vM,x.uU⟩
theorem sS(T:cU K t)(h:cz K t vs H Q E):uB K t (Dn Q) (start ku vs) H:=by
 obtain ⟨p,s,x,fs,l0,rfl,P,hfs,BR,BA,En,hbig,hl0,htab,q⟩:=h
 obtain ⟨dp,ob⟩:=P.ob
 obtain ⟨f1,f2,f3,f4,f5,f6,f7⟩:=Sv hfs
 have hnum:=P.number
 refine ⟨_,rfl,p,_,dp,_,_,rfl,ob,T.ax,T.aD,f5,.inr (.inr (.inl ⟨rfl,.inl ⟨_,En.dict⟩⟩)),?_⟩
 refine ⟨_,rfl,p,_,dp,_,_,rfl,ob,T.ax,T.cO,f2,s.node,by rw [hnum];rfl,P.node.2,fun d kvs' H1 s1 e1 En1 fr1 len1 nd1=>?_⟩
 have hed:x.en ≠ d:=fun z=>by rw [←z,En.dict] at e1;cases e1
 refine ⟨x.en,d,x.aB,kvs',rfl,rfl,hed,s1 _ _ En.dict,En1.dict,?_,?_⟩
 ·have:=En.len
  exact Nat.le_of_lt (b7 (by omega))
 have hlen:(jw x.aB kvs').length≤200:=by
  rcases hbig with ⟨_,h64⟩ | hall
  ·have:=pb kvs' x.aB
   omega
  ·rw [Oi fun k hk=>?_]
   ·exact En.len
   ·obtain ⟨⟨k',v⟩,hkv,rfl⟩:=List.mem_map.mp hk
    obtain ⟨v',hv'⟩:=ED hkv
    obtain ⟨e',he',z⟩:=En1.only _ _ hv'
    obtain ⟨e'',he'',z2⟩:=hall e' he'
    obtain ⟨a,ha,_⟩:=En.look e'' (List.mem_append_right _ he'')
    show bS x.aB k' ≠ none
    rw [show k'=gQ e' from z,←z2,ha]
    exact fun w=>nomatch w
 have EnM:=(En.same s1).merge En1 nd1 hl0 (fun e e' he he' z=>by
  have h1:=htab e he
  have h2:=dN s.node e' he'
  have:=Qs h1.2 (by omega) z
  omega) (fun k k' a hk hk'=>by
  obtain ⟨_,_,_,dx,hx⟩:=En.zX hk
  rw [fr1 k' a hk'] at hx
  cases hx) hlen
 generalize hkm:jw x.aB kvs'=kvm at *
 have hkF:∀k b,bS kvm k=some (.ref b)→x.F p b∨H b=none:=fun k b hb=>by
  rw [←hkm,CS nd1] at hb
  cases q2:bS kvs' k with
  | some v=>rw [q2] at hb;cases hb;exact .inr (fr1 k b q2)
  | none=>rw [q2] at hb;exact .inl (x.P9 p hb)
 have sm2:∀b o,b ≠ x.en→H b=some o→upd H1 x.en (.dK kvm) b=some o:=fun b o hb ho=>ck (s1 _ _ ho) hb
 have ob2:upd H1 x.en (.dK kvm) p=some (.ins t.aC dp fs):=sm2 _ _ (Ne.symm BR) ob
 have dom2:∀b,upd H1 x.en (.dK kvm) b=none→H b=none:=fun b hb=>by
  by_cases z:b=x.en
  ·rw [z,ao] at hb;cases hb
  ·rw [aL z] at hb;exact s1.free hb
 generalize upd H1 x.en (.dK kvm)=H2 at *
 refine ⟨_,rfl,p,_,dp,_,rfl,ob2,T.ax,T.bJ,by omega,?_⟩
 refine ⟨_,rfl,p,_,dp,_,rfl,ao,T.ax,T.bN,by have:=ib (f:="state") (v:= .int 127) f1;omega,?_⟩
 rw [fc]
 generalize hfs2:bI "hand" .bB (bI "state" (.int 127) fs)=fs2
 have l2:fs2.length < 22:=by rw [←hfs2];exact ib (ib f1)
 have sm3:∀b o,b ≠ p→H2 b=some o→upd H2 p (.ins t.aC dp fs2) b=some o:=fun b o hb ho=>ck ho hb
 have ob3:upd H2 p (.ins t.aC dp fs2) p=some (.ins t.aC dp fs2):=ao
 have dom3:∀b,upd H2 p (.ins t.aC dp fs2) b=none→H2 b=none:=fun b hb=>by
  by_cases z:b=p
  ·rw [z,ao] at hb;cases hb
  ·rwa [aL z] at hb
 generalize upd H2 p (.ins t.aC dp fs2)=H3 at *
 refine ⟨(by show 1≤sizeLine;decide),fun a1 g1=>?_⟩
 refine ⟨a1,4,[.bB],rfl,rfl,ao,by decide,by decide,by show 1 * 4≤sizeLine;decide,fun lk gk=>?_⟩
 have sk:=(aP.new (H:=H3) (o:= .lst [.bB]) g1).trans (aP.new (o:= .lst (List.replicate (4:Int).toNat [V.bB]).flatten) gk)
 have hlk3:H3 lk=none:=(aP.new (H:=H3) (o:= .lst [.bB]) g1).free gk
 have hlk4:upd (upd H3 a1 (.lst [.bB])) lk (.lst (List.replicate (4:Int).toNat [V.bB]).flatten) lk=some (.lst [.bB,.bB,.bB,.bB]):=ao
 generalize upd (upd H3 a1 (.lst [.bB])) lk (.lst (List.replicate (4:Int).toNat [V.bB]).flatten)=H4 at *
 refine ⟨_,rfl,p,_,dp,_,rfl,sk _ _ ob3,T.ax,T.nD,by omega,?_⟩
 have hlkp:lk ≠ p:=fun z=>by rw [z,ob3] at hlk3;cases hlk3
 have sm5:∀b o,b ≠ p→H3 b=some o→upd H4 p (.ins t.aC dp (bI "kept" (.ref lk) fs2)) b=some o:=fun b o hb ho=>ck (sk _ _ ho) hb
 have hlk5:upd H4 p (.ins t.aC dp (bI "kept" (.ref lk) fs2)) lk=_:=ck hlk4 hlkp
 have ob5:upd H4 p (.ins t.aC dp (bI "kept" (.ref lk) fs2)) p=_:=ao
 have dom5:∀b,upd H4 p (.ins t.aC dp (bI "kept" (.ref lk) fs2)) b=none→H3 b=none:=fun b hb=>by
  by_cases z:b=p
  ·rw [z,ao] at hb;cases hb
  ·rw [aL z] at hb;exact sk.free hb
 generalize upd H4 p (.ins t.aC dp (bI "kept" (.ref lk) fs2))=H5 at *
 refine ⟨(by show 1≤sizeLine;decide),fun a2 g2=>?_⟩
 refine ⟨a2,4,[.bl false],rfl,rfl,ao,by decide,by decide,by show 1 * 4≤sizeLine;decide,fun lc gc=>?_⟩
 have sc:=(aP.new (H:=H5) (o:= .lst [.bl false]) g2).trans (aP.new (o:= .lst (List.replicate (4:Int).toNat [V.bl false]).flatten) gc)
 have hlc5:H5 lc=none:=(aP.new (H:=H5) (o:= .lst [.bl false]) g2).free gc
 have hlc6:upd (upd H5 a2 (.lst [.bl false])) lc (.lst (List.replicate (4:Int).toNat [V.bl false]).flatten) lc=some (.lst [.bl false,.bl false,.bl false,.bl false]):=ao
 generalize upd (upd H5 a2 (.lst [.bl false])) lc (.lst (List.replicate (4:Int).toNat [V.bl false]).flatten)=H6 at *
 refine ⟨_,rfl,p,_,dp,_,rfl,sc _ _ ob5,T.ax,T.fJ,by have:=ib (f:="kept") (v:= .ref lk) l2;omega,?_⟩
 have hlcp:lc ≠ p:=fun z=>by rw [z,ob5] at hlc5;cases hlc5
 have hckk:lc ≠ lk:=fun z=>by rw [z,hlk5] at hlc5;cases hlc5
 generalize hfs3:bI "changed" (.ref lc) (bI "kept" (.ref lk) fs2)=fs3
 have l3:fs3.length < 24:=by rw [←hfs3];exact ib (ib l2)
 have sm7:∀b o,b ≠ p→H5 b=some o→upd H6 p (.ins t.aC dp fs3) b=some o:=fun b o hb ho=>ck (sc _ _ ho) hb
 have hlc7:upd H6 p (.ins t.aC dp fs3) lc=_:=ck hlc6 hlcp
 have ob7:upd H6 p (.ins t.aC dp fs3) p=some (.ins t.aC dp fs3):=ao
 have dom7:∀b,upd H6 p (.ins t.aC dp fs3) b=none→H5 b=none:=fun b hb=>by
  by_cases z:b=p
  ·rw [z,ao] at hb;cases hb
  ·rw [aL z] at hb;exact sc.free hb
 generalize upd H6 p (.ins t.aC dp fs3)=H7 at *
 refine ⟨(by show 2≤sizeLine;decide),fun lh gh=>?_⟩
 have shh:aP H7 (upd H7 lh (.lst [.bB,.bB])):=aP.new gh
 refine ⟨_,rfl,p,_,dp,_,rfl,shh _ _ ob7,T.ax,T.eG,by omega,?_⟩
 have hlhp:lh ≠ p:=fun z=>by rw [z,ob7] at gh;cases gh
 have hhc:lh ≠ lc:=fun z=>by rw [z,hlc7] at gh;cases gh
 have hhk:lh ≠ lk:=fun z=>by rw [z,sm7 _ _ hlkp hlk5] at gh;cases gh
 have n1:fs3.lookup ("now":Str)=some (.int x.now):=by
  rw [←hfs3,←hfs2]
  exact cX (by decide +kernel) (cX (by decide +kernel) (cX (by decide +kernel) (cX (by decide +kernel) f3)))
 refine ⟨_,rfl,p,_,dp,_,_,rfl,ao,T.ax,T.bY,cX (by decide +kernel) n1,_,rfl,p,_,dp,_,rfl,ao,T.ax,T.dh,by have:=ib (f:="heard_at") (v:= .ref lh) l3;omega,?_⟩
 rw [fc]
 generalize hfs4:bI "heart_from" (.int x.now) (bI "heard_at" (.ref lh) fs3)=MM
 have l4:MM.length < 26:=by rw [←hfs4];exact ib (ib l3)
 have sm8:∀b o,b ≠ p→H7 b=some o→upd (upd H7 lh (.lst [.bB,.bB])) p (.ins t.aC dp MM) b=some o:=fun b o hb ho=>ck (shh _ _ ho) hb
 have hlh8:upd (upd H7 lh (.lst [.bB,.bB])) p (.ins t.aC dp MM) lh=some (.lst [.bB,.bB]):=ck ao hlhp
 have ob8:upd (upd H7 lh (.lst [.bB,.bB])) p (.ins t.aC dp MM) p=some (.ins t.aC dp MM):=ao
 have dom8:∀b,upd (upd H7 lh (.lst [.bB,.bB])) p (.ins t.aC dp MM) b=none→H7 b=none:=fun b hb=>by
  by_cases z:b=p
  ·rw [z,ao] at hb;cases hb
  ·rw [aL z] at hb;exact shh.free hb
 generalize upd (upd H7 lh (.lst [.bB,.bB])) p (.ins t.aC dp MM)=H8 at *
 have n4:MM.lookup ("now":Str)=some (.int x.now):=by
  rw [←hfs4]
  exact cX (by decide +kernel) (cX (by decide +kernel) n1)
 have n5:MM.lookup ("count_work":Str)=none:=by
  rw [←hfs4,←hfs3,←hfs2]
  exact cX (by decide +kernel) (cX (by decide +kernel) (cX (by decide +kernel) (cX (by decide +kernel) (cX (by decide +kernel) (cX (by decide +kernel) f6)))))
 refine ⟨_,rfl,p,dp,_,rfl,ob8,n5,p,dp,MM,x.now,rfl,ob8,n4,by omega,fun ls H9 gs hls sm9 ob9=>?_⟩
 have efs:bI "sent_at" (.ref ls) (bI "work_from" (.int x.now) (bI "marks" (.int 0) MM))= (xx x lk lc lh ls kvm).fs:=by
  rw [←hfs4,←hfs3,←hfs2]
  exact Qa hfs lk lc lh ls kvm rfl
 rw [efs] at ob9
 have hlsp:ls ≠ p:=fun z=>by rw [z,ob8] at gs;cases gs
 have hsh:ls ≠ lh:=fun z=>by rw [z,hlh8] at gs;cases gs
 have hsc:ls ≠ lc:=fun z=>by rw [z,sm8 _ _ hlcp hlc7] at gs;cases gs
 have hsk:ls ≠ lk:=fun z=>by rw [z,sm8 _ _ hlkp (sm7 _ _ hlkp hlk5)] at gs;cases gs
 have up:∀b o,b ≠ p→H2 b=some o→H9 b=some o:=fun b o hb ho=>sm9 _ _ hb (sm8 _ _ hb (sm7 _ _ hb (sm5 _ _ hb (sm3 _ _ hb ho))))
 have upH:∀b o,b ≠ p→b ≠ x.en→H b=some o→H9 b=some o:=fun b o h1 h2 ho=>up b o h1 (sm2 b o h2 ho)
 have nk:H2 lk=none:=dom3 _ hlk3
 have nc:H2 lc=none:=dom3 _ (dom5 _ hlc5)
 have nh:H2 lh=none:=dom3 _ (dom5 _ (dom7 _ gh))
 have ns:H2 ls=none:=dom3 _ (dom5 _ (dom7 _ (dom8 _ gs)))
 obtain ⟨ts,r1,r2⟩:=P.row
 obtain ⟨bs,b1,b2,b3⟩:=P.table
 have notNew:∀{b o},H2 b=some o→b ≠ lk∧b ≠ lc∧b ≠ lh∧b ≠ ls:=fun {b o} hb=>⟨aE hb nk,aE hb nc,aE hb nh,aE hb ns⟩
 have rw2:H2 x.rw=some (.lst (ts.map V.ref)):=sm2 _ _ (Ne.symm BA) r1
 have fo:∀b,(xx x lk lc lh ls kvm).F p b→x.F p b∨H b=none:=fun b z=>by
  rcases z with z | ⟨k,z⟩ | z
  ·have z:b ∈ [p,x.rw,x.en,lk,lc,lh,ls]:=z
   simp only [List.mem_cons,List.not_mem_nil,or_false] at z
   rcases z with rfl | rfl | rfl | rfl | rfl | rfl | rfl
   ·exact .inl (x.L6 _)
   ·exact .inl (x.ME p)
   ·exact .inl (x.OA p)
   ·exact .inr (dom2 _ nk)
   ·exact .inr (dom2 _ nc)
   ·exact .inr (dom2 _ nh)
   ·exact .inr (dom2 _ ns)
  ·exact hkF k b z
  ·exact absurd z (by show b ∉ [];simp)
 have old:∀b o,H b=some o→¬x.F p b→H9 b=some o:=fun b o ho hb=>upH b o (fun z=>hb (z ▸ x.L6 p)) (fun z=>hb (z ▸ x.OA p)) ho
 have KK:bX H (x.F p) H9 ((xx x lk lc lh ls kvm).F p):=⟨old,fo,fun b hb=>by
  cases z:H b with
  | none=>rfl
  | some o=>
   by_cases zp:b=p
   ·rw [zp,ob9] at hb;cases hb
   ·by_cases ze:b=x.en
    ·rw [ze,up _ _ BR EnM.dict] at hb;cases hb
    ·rw [upH b o zp ze z] at hb;cases hb⟩
 have en2:=notNew EnM.dict
 have rwn:=notNew rw2
 have enum:=P.number
 have enow:=P.now
 have N:aN t H9 p {s with own:=Sa32.besides s.node,state:=Sa32.READY,hand:= .none,kept:=List.replicate 4 none,going:=List.replicate 4 {},beat:=s.now,heard:=[none,none]} (xx x lk lc lh ls kvm):=by
  refine ⟨⟨dp,ob9⟩,enum,enow,rfl,enow,⟨ts,up _ _ P.Ak rw2,nS r2 (fun b o ho hc=>?_) fo⟩,EnM.mono (fun b o hb ho=>up b o ?_ ho),⟨[.bB,.bB,.bB,.bB],sm9 _ _ hlkp (sm8 _ _ hlkp (sm7 _ _ hlkp hlk5)),.cons rfl (.cons rfl (.cons rfl (.cons rfl .nil)))⟩,sm9 _ _ hlcp (sm8 _ _ hlcp hlc7),sm9 _ _ hlhp hlh8,hls,fun g hg=>?_,fun g _ _ z=>absurd (show (127:Nat)=5 from z) (by decide),⟨rfl,rfl⟩,⟨bs,old _ _ b1 b2,fun z=>(fo _ z).elim b2 fun z=>(by have z:H x.tb=none:=z;rw [b1] at z;cases z),b3⟩,?_⟩
  ·rcases hc with hc | ⟨xs,rfl⟩
   ·exact old b o ho hc
   ·refine upH b _ (fun z=>?_) (fun z=>?_) ho
    ·rw [z,ob] at ho;cases ho
    ·rw [z,En.dict] at ho;cases ho
  ·intro z
   rcases hb with hb | ⟨k,hb⟩
   ·exact BR (hb ▸ z)
   ·obtain ⟨_,_,_,dx,hx⟩:=EnM.zX hb
    rw [z,ob2] at hx
    refine absurd (Option.some.inj hx) ?_
    rcases hfs with rfl | rfl
    ·intro w
     injection w with _ _ w
     unfold NF.UG nu at w
     injection w with w _
     injection w with w _
     exact absurd w (by decide +kernel)
    ·exact LO (by show 14 ≠ 5;decide)
  ·have:g= {}:=List.eq_of_mem_replicate hg
   rw [this]
   rfl
  ·have d:Df (xx x lk lc lh ls kvm) p:=⟨P.Ak,BR,hlkp,hlcp,hlhp,hlsp,BA,Ne.symm rwn.1,Ne.symm rwn.2.1,Ne.symm rwn.2.2.1,Ne.symm rwn.2.2.2,Ne.symm en2.1,Ne.symm en2.2.1,Ne.symm en2.2.2.1,Ne.symm en2.2.2.2,hckk,hhk,hsk,hhc,hsc,hsh,fun b hb=>absurd hb (by show b ∉ [];simp),List.nodup_nil⟩
   exact d.nodup
 refine ⟨_,rfl,p,dp,_,rfl,ob9,NF.uU _,_,rfl,p,_,dp,_,_,rfl,ob9,T.ax,T.cO,NF.mF _,_,_,rfl,rfl,(by show 1≤sizeLine;decide),fun l gl=>?_⟩
 refine ⟨p,_,_,l,0x700+s.node,[0],?_,N.same (aP.new gl),P.out,ao,N.mz gl,fun H' x' N' k'=>q H' x' N' (KK.trans (((aP.new gl).keep _).trans k'))⟩
 have:(1792:Int)+ (xx x lk lc lh ls kvm).number= ((0x700+s.node:Nat):Int):=by
  show (1792:Int)+x.number=_
  omega
 rw [←this]
 rfl
end
end Fn
namespace Fn
open PySem L2
section
variable{K:PySem.W.Frag}{t:bh}{vs:List V}{H:Hp}{Q:VK}{E:XK}
theorem Fg(l:List Sa32.Ent):(l.map cM).map cM=l.map cM:=by
 rw [List.map_map]
 refine List.map_congr_left fun e _=>?_
 show ({cM e with val:=Sa32.zeros (cM e).val.length}:Sa32.Ent)=cM e
 unfold cM
 simp [Sa32.zeros]
theorem QY{x:NF}{fs:List (Str × V)}(h:fs=x.MM∨fs=x.fs):fs.length < 20∧fs.lookup ("table":Str)=some (.ref x.tb)∧fs.lookup ("begin_besides":Str)=none:=by
 rcases h with rfl | rfl
 ·refine ⟨by show 4 < 20;decide,?_,?_⟩ <;> unfold NF.MM
  ·rw [af (by decide +kernel),bE]
  ·rw [af (by decide +kernel),af (by decide +kernel),af (by decide +kernel),af (by decide +kernel)];rfl
 ·exact ⟨by show 14 < 20;decide,x.RI,x.pT⟩
theorem xa(h:dw K t vs H Q E):vs.length=1:=by obtain ⟨p,s,x,fs,rfl,_⟩:=h;rfl
theorem xF(T:cU K t)(h:dw K t vs H Q E):zA K t (Dn Q) (start pH vs) H:=by
 obtain ⟨p,s,x,fs,rfl,P,hfs,htab,q⟩:=h
 obtain ⟨dp,ob⟩:=P.ob
 obtain ⟨f1,f2,f3⟩:=QY hfs
 obtain ⟨bs,b1,b2,b3⟩:=P.table
 obtain ⟨ts,r1,r2⟩:=P.row
 refine ⟨_,rfl,p,_,dp,_,_,rfl,ob,T.ax,T.zr,f2,x.tb,bs,s.table.map cM,rfl,b1,b3.1,b3.2.1,b3.2.2.1,b3.2.2.2,fun d aB H1 s1 e1 En fr len=>?_⟩
 refine ⟨_,rfl,p,_,dp,_,rfl,s1 _ _ ob,T.ax,T.aD,by omega,?_⟩
 have hdp:d ≠ p:=fun z=>by rw [z,ob] at e1;cases e1
 have hdr:d ≠ x.rw:=fun z=>by rw [z,r1] at e1;cases e1
 have efs:bI "entries" (.ref d) fs= ({x with en:=d,aB:=aB}:NF).UG∨bI "entries" (.ref d) fs= ({x with en:=d,aB:=aB}:NF).fs:=by
  rcases hfs with rfl | rfl
  ·left
   rw [cC ["number","table","now","row"] (f:="entries") rfl (by decide +kernel)]
   rfl
  ·right
   rw [NF.O6]
   rfl
 have n1:(bI "entries" (.ref d) fs).lookup ("begin_besides":Str)=none:=cX (by decide +kernel) f3
 generalize bI "entries" (.ref d) fs=fs' at *
 have ob2:upd H1 p (.ins t.aC dp fs') p=some (.ins t.aC dp fs'):=ao
 have sm:∀b o,b ≠ p→H b=some o→upd H1 p (.ins t.aC dp fs') b=some o:=fun b o hb ho=>ck (s1 _ _ ho) hb
 have EnU:cK t (upd H1 p (.ins t.aC dp fs')) d aB (s.table.map cM ++ []):=by
  rw [List.append_nil]
  exact mr En (Ne.symm hdp) fun k z=>by
   rw [fr k p z] at ob
   cases ob
 have fo:∀b,({x with en:=d,aB:=aB}:NF).F p b→x.F p b∨H b=none:=fun b z=>by
  rcases z with z | ⟨k,z⟩ | z
  ·have z:b ∈ [p,x.rw,d,x.kp,x.ch,x.ha,x.sa]:=z
   simp only [List.mem_cons,List.not_mem_nil,or_false] at z
   rcases z with rfl | rfl | rfl | rfl | rfl | rfl | rfl
   ·exact .inl (x.L6 _)
   ·exact .inl (x.ME p)
   ·exact .inr e1
   ·exact .inl (x.Q4 p)
   ·exact .inl (x.Pu p)
   ·exact .inl (x.QK p)
   ·exact .inl (x.TU p)
  ·exact .inr (fr k b z)
  ·exact .inl (x.Sf p z)
 have old:∀b o,H b=some o→¬x.F p b→upd H1 p (.ins t.aC dp fs') b=some o:=fun b o ho hb=>sm b o (fun z=>hb (z ▸ x.L6 p)) ho
 have KK:bX H (x.F p) (upd H1 p (.ins t.aC dp fs')) (({x with en:=d,aB:=aB}:NF).F p):=⟨old,fo,fun b hb=>by
  by_cases z:b=p
  ·rw [z,ao] at hb;cases hb
  ·rw [aL z] at hb;exact s1.free hb⟩
 generalize upd H1 p (.ins t.aC dp fs')=H2 at *
 refine ⟨_,rfl,p,dp,_,rfl,ob2,n1,p,{s with table:=s.table.map cM},{x with en:=d,aB:=aB},fs',[],rfl,⟨⟨dp,ob2⟩,P.number,P.now,⟨ts,sm _ _ P.Ak r1,nS r2 (fun b o ho hc=>?_) fo⟩,P.out,⟨bs,old _ _ b1 b2,fun z=>(fo _ z).elim b2 fun z=>(by have z:H x.tb=none:=z;rw [b1] at z;cases z),b3.1,b3.2.1,b3.2.2.1,?_⟩,P.node,P.Ak⟩,efs,hdp,hdr,EnU,.inl ⟨rfl,len⟩,fun e he=>(nomatch he),fun e he=>?_,fun H' x' N' k'=>q H' x' N' (KK.trans k')⟩
 ·rcases hc with hc | ⟨xs,rfl⟩
  ·exact old b o ho hc
  ·exact sm b _ (fun z=>by rw [z,ob] at ho;cases ho) ho
 ·show _=some ((s.table.map cM).map cM)
  rw [Fg]
  exact b3.2.2.2
 ·obtain ⟨e0,h0,rfl⟩:=List.mem_map.mp he
  exact htab e0 h0
theorem BK(h:jq K t vs H Q E):vs.length=3:=by obtain ⟨p,dx,tb,bs,l,n,rfl,_⟩:=h;rfl
theorem Ml{bs:List Nat}{m:Nat}{l:List Sa32.Ent}(hb:ft bs)(h:Sa32.tableOf bs m=some l):l.map cM=l∧∀e,e ∈ l→0x2000≤e.index∧e.sub < 256:=by
 obtain ⟨t1,t2⟩:=jB hb m
 obtain ⟨l',h1,h2,h3⟩:=t1 (t2 l h)
 rw [h] at h1
 cases h1
 have f:∀e,e ∈ l→cM e=e∧0x2000≤e.index∧e.sub < 256:=fun e he=>by
  obtain ⟨j,hj⟩:=List.mem_iff_getElem?.mp he
  obtain ⟨e',h4,h5⟩:=h3 j (by rw [←h2];exact (List.getElem?_eq_some_iff.mp hj).1)
  rw [hj] at h5
  cases h5
  obtain ⟨ok,q1,q2,_,_,_,q6⟩:=gP h4
  refine ⟨?_,by rw [q1];exact ok.1.1,by rw [q2];exact km (ny hb j) 2⟩
  unfold cM
  rw [q6]
  have:(Sa32.zeros ((b8 bs j).getD 3 0)).length= (b8 bs j).getD 3 0:=by simp [Sa32.zeros]
  rw [this,←q6]
 refine ⟨?_,fun e he=>(f e he).2⟩
 conv=>rhs;rw [←List.map_id l]
 exact List.map_congr_left fun e he=>(f e he).1
theorem C8(T:cU K t)(h:jq K t vs H Q E):E8 K t (Dn Q) (start vF vs) H:=by
 obtain ⟨p,dx,tb,bs,l,n,rfl,ob,ht,h1,h127,hby,h8,h512,hl,q⟩:=h
 obtain ⟨z1,z2⟩:=Ml hby hl
 have htp:tb ≠ p:=uk ht ob (by intro z;cases z)
 refine ⟨_,rfl,_,rfl,p,_,dx,_,rfl,ob,T.ax,T.cO,by decide,?_⟩
 refine ⟨_,rfl,tb,_,rfl,.inl (cb.of (ck ht htp)),fun a ga=>?_⟩
 have hap:a ≠ p:=fun z=>by rw [z,ao] at ga;cases ga
 refine ⟨_,rfl,p,_,dx,_,rfl,ck ao (Ne.symm hap),T.ax,T.zr,(show 1 < 1000 by decide),?_⟩
 have e2:bI "table" (V.ref a) (bI "number" (V.int (n:Int)) [])= ([("number",V.int (n:Int)),("table",V.ref a)]:List (Str × V)):=cC ["number"] rfl (by decide +kernel)
 rw [e2]
 refine ⟨_,rfl,p,_,dx,_,rfl,ao,T.ax,T.bY,(show 2 < 1000 by decide),?_⟩
 have e3:bI "now" (V.int 0) [("number",V.int (n:Int)),("table",V.ref a)] = ([("number",V.int (n:Int)),("table",V.ref a),("now",V.int 0)]:List (Str × V)):=cC ["number","table"] rfl (by decide +kernel)
 rw [e3,fc]
 refine ⟨(by show 0≤sizeLine;decide),fun r gr=>?_⟩
 have hrp:r ≠ p:=fun z=>by rw [z,ao] at gr;cases gr
 refine ⟨_,rfl,p,_,dx,_,rfl,ck ao (Ne.symm hrp),T.ax,T.mD,(show 3 < 1000 by decide),?_⟩
 have e4:bI "row" (V.ref r) [("number",V.int (n:Int)),("table",V.ref a),("now",V.int 0)] = ([("number",V.int (n:Int)),("table",V.ref a),("now",V.int 0),("row",V.ref r)]:List (Str × V)):=cC ["number","table","now"] rfl (by decide +kernel)
 rw [e4]
 have hra:r ≠ a:=fun z=>by rw [z,aL hap,ao] at gr;cases gr
 have nH:∀b,b ≠ p→upd H p (.ins t.aC dx (bI "number" (V.int (n:Int)) [])) b=none→H b=none:=fun b hb h=>by rwa [aL hb] at h
 have na:H a=none:=nH a hap ga
 have nr:H r=none:=by rw [aL hrp,aL hra,aL hrp] at gr;exact gr
 have ha2:upd (upd (upd (upd (upd H p (.ins t.aC dx (bI "number" (V.int (n:Int)) []))) a (.lst (bV bs))) p (.ins t.aC dx [("number",V.int (n:Int)),("table",V.ref a),("now",V.int 0)])) r (.lst [])) p (.ins t.aC dx [("number",V.int (n:Int)),("table",V.ref a),("now",V.int 0),("row",V.ref r)]) a=some (.lst (bV bs)):=ck (ck (ck ao hap) (Ne.symm hra)) hap
 have hr2:upd (upd (upd (upd (upd H p (.ins t.aC dx (bI "number" (V.int (n:Int)) []))) a (.lst (bV bs))) p (.ins t.aC dx [("number",V.int (n:Int)),("table",V.ref a),("now",V.int 0)])) r (.lst [])) p (.ins t.aC dx [("number",V.int (n:Int)),("table",V.ref a),("now",V.int 0),("row",V.ref r)]) r=some (.lst []):=ck ao hrp
 have ob2:upd (upd (upd (upd (upd H p (.ins t.aC dx (bI "number" (V.int (n:Int)) []))) a (.lst (bV bs))) p (.ins t.aC dx [("number",V.int (n:Int)),("table",V.ref a),("now",V.int 0)])) r (.lst [])) p (.ins t.aC dx [("number",V.int (n:Int)),("table",V.ref a),("now",V.int 0),("row",V.ref r)]) p=some (.ins t.aC dx [("number",V.int (n:Int)),("table",V.ref a),("now",V.int 0),("row",V.ref r)]):=ao
 have sm:∀b o,b ≠ p→H b=some o→upd (upd (upd (upd (upd H p (.ins t.aC dx (bI "number" (V.int (n:Int)) []))) a (.lst (bV bs))) p (.ins t.aC dx [("number",V.int (n:Int)),("table",V.ref a),("now",V.int 0)])) r (.lst [])) p (.ins t.aC dx [("number",V.int (n:Int)),("table",V.ref a),("now",V.int 0),("row",V.ref r)]) b=some o:=fun b o hb ho=>ck (ck (ck (ck (ck ho hb) (aE ho na)) hb) (aE ho nr)) hb
 generalize upd (upd (upd (upd (upd H p (.ins t.aC dx (bI "number" (V.int (n:Int)) []))) a (.lst (bV bs))) p (.ins t.aC dx [("number",V.int (n:Int)),("table",V.ref a),("now",V.int 0)])) r (.lst [])) p (.ins t.aC dx [("number",V.int (n:Int)),("table",V.ref a),("now",V.int 0),("row",V.ref r)])=H2 at *
 have hF:∀b,({number:=(n:Int),tb:=a,now:=0,rw:=r,en:=p,state:=0,hd:= .bB,kp:=p,ch:=p,ha:=p,cT:=0,marks:=0,dU:=0,sa:=p,aB:=[],hf:=[]}:NF).F p b→b=p∨b=r:=fun b z=>by
  rcases z with z | ⟨k,z⟩ | z
  ·have z:b ∈ [p,r,p,p,p,p,p]:=z
   simp only [List.mem_cons,List.not_mem_nil,or_false] at z
   rcases z with z | z | z | z | z | z | z
   ·exact .inl z
   ·exact .inr z
   ·exact .inl z
   ·exact .inl z
   ·exact .inl z
   ·exact .inl z
   ·exact .inl z
  ·cases z
  ·exact absurd z (by show b ∉ [];simp)
 refine ⟨_,rfl,p,dx,_,rfl,ob2,?_,p,{node:=n,table:=l,own:=[],state:=0,now:=0,hand:= .none,out:=[],kept:=[],going:=[],beat:=0,heard:=[]},{number:=(n:Int),tb:=a,now:=0,rw:=r,en:=p,state:=0,hd:= .bB,kp:=p,ch:=p,ha:=p,cT:=0,marks:=0,dU:=0,sa:=p,aB:=[],hf:=[]},_,rfl,⟨⟨dx,ob2⟩,rfl,rfl,⟨[],hr2,.nil⟩,(show 0≤32 by decide),⟨bs,ha2,fun z=>(hF a z).elim hap fun z=>hra z.symm,hby,h8,h512,by rw [hl];show some l=some (l.map cM);rw [z1]⟩,⟨h1,h127⟩,hrp⟩,.inl rfl,z2,fun H' x' N' k'=>q H' x' ?_ ?_⟩
 ·rw [af (by decide +kernel),af (by decide +kernel),af (by decide +kernel),af (by decide +kernel)];rfl
 ·have e:(l.map cM)=l:=z1
  rw [e] at N'
  exact N'
 ·refine ⟨fun b o ho hb=>k'.old b o (sm b o hb ho) fun z=>(hF b z).elim hb fun z=>aE ho nr z,fun b z=>?_,fun b hb=>?_⟩
  ·rcases k'.foot b z with z | z
   ·exact (hF b z).elim .inl fun z=> .inr (z ▸ nr)
   ·by_cases zp:b=p
    ·exact .inl zp
    ·right
     cases hh:H b with
     | none=>rfl
     | some o=>rw [sm b o zp hh] at z;cases z
  ·have:=k'.Jm b hb
   by_cases zp:b=p
   ·rw [zp,ob2] at this;cases this
   ·cases hh:H b with
    | none=>rfl
    | some o=>rw [sm b o zp hh] at this;cases this
theorem D5(h:kg K t vs H Q E):vs.length=1:=by obtain ⟨p,s,x,rfl,_⟩:=h;rfl
theorem Fc(T:cU K t)(h:kg K t vs H Q E):Hx K t (Dn Q) (start yd vs) H:=by
 obtain ⟨p,s,x,rfl,⟨N,w⟩,q⟩:=h
 obtain ⟨dp,ob⟩:=N.ob
 have es:=N.state
 unfold Sa32.St.work Sa32.WORK at q
 by_cases z:s.state=5
 ·rw [if_pos z] at q
  exact ⟨_,rfl,p,_,dp,_,_,rfl,ob,T.ax,T.bJ,x.gy,rfl,false,GI (by omega),aZ (q H x N (bX.refl _ _))⟩
 rw [if_neg z] at q
 refine ⟨_,rfl,p,_,dp,_,_,rfl,ob,T.ax,T.bJ,x.gy,rfl,true,zy (by omega),aS ?_⟩
 refine ⟨_,rfl,p,_,dp,_,rfl,ob,T.ax,T.bJ,x.Jn,?_⟩
 rw [NF.Cz]
 refine ⟨_,rfl,p,dp,_,rfl,ao,NF.vM _,p,dp,_,_,rfl,ao,NF.nZ _,(by show 14 < 900;decide),fun l H' gl hl sm ob'=>?_⟩
 rw [NF.G9,NF.Be,NF.F9] at ob'
 have hlp:l ≠ p:=fun z=>by rw [z,ao] at gl;cases gl
 have nl:H l=none:=by rwa [aL hlp] at gl
 have sm':∀b o,b ≠ p→H b=some o→H' b=some o:=fun b o hb ho=>sm b o hb (ck ho hb)
 have d:=N.df
 obtain ⟨ts,h3,h3'⟩:=N.row
 obtain ⟨ks,h4,h4'⟩:=N.kept
 obtain ⟨bs,h5,h5',h5''⟩:=N.table
 have fo:∀b,({x with state:=5,marks:=0,dU:=x.now,sa:=l}:NF).F p b→x.F p b∨H b=none:=fun b z=>by
  rcases z with z | z | z
  ·have z:b ∈ [p,x.rw,x.en,x.kp,x.ch,x.ha,l]:=z
   simp only [List.mem_cons,List.not_mem_nil,or_false] at z
   rcases z with rfl | rfl | rfl | rfl | rfl | rfl | rfl
   ·exact .inl (x.L6 _)
   ·exact .inl (x.ME p)
   ·exact .inl (x.OA p)
   ·exact .inl (x.Q4 p)
   ·exact .inl (x.Pu p)
   ·exact .inl (x.QK p)
   ·exact .inr nl
  ·exact .inl (.inr (.inl z))
  ·exact .inl (.inr (.inr z))
 have old:∀b o,H b=some o→¬x.F p b→H' b=some o:=fun b o ho hb=>sm' b o (fun z=>hb (z ▸ x.L6 p)) ho
 have nn:∀{b},x.F p b→l ≠ b:=fun hb z=>(N.alloc hb).1 (z ▸ nl)
 have hg4:(s.going.map fun g=>{g with at_:=s.now,sent:=false,marks:=0}).map dH = [.bB,.bB,.bB,.bB]:=by
  have h4:=w.going
  match hh:s.going,h4 with
  | [a,b,c,e],_=>rfl
 refine q H' {x with state:=5,marks:=0,dU:=x.now,sa:=l} ⟨⟨dp,ob'⟩,N.number,N.now,rfl,N.beat,⟨ts,sm' _ _ d.Ak h3,nS h3' (fun b o ho hc=>?_) fo⟩,N.ents.mono (fun b o hb ho=>sm' b o ?_ ho),⟨ks,sm' _ _ d.LM h4,Gh h4' old fo⟩,?_,sm' _ _ d.LR N.heard,?_,fun g hg=>?_,fun g hg _ _=>?_,N.hand.mono fun b o hb ho=>sm' b o (d.hf b hb).1 ho,⟨bs,old _ _ h5 h5',fun z=>(fo _ z).elim h5' fun z=>(by have z:H x.tb=none:=z;rw [h5] at z;cases z),h5''⟩,?_⟩ ⟨old,fo,fun b hb=>?_⟩
 ·rcases hc with hc | ⟨xs,rfl⟩
  ·exact old b o ho hc
  ·exact sm' b _ (fun z=>by rw [z,ob] at ho;cases ho) ho
 ·rcases hb with rfl | ⟨k,hb⟩
  ·exact d.BR
  ·exact (N.oK hb).1
 ·show H' x.ch=some (.lst ((s.going.map fun g=>{g with at_:=s.now,sent:=false,marks:=0}).map fun g=>V.bl g.changed))
  rw [List.map_map]
  exact sm' _ _ d.MH N.chg
 ·show H' l=some (.lst ((s.going.map fun g=>{g with at_:=s.now,sent:=false,marks:=0}).map dH))
  rw [hg4]
  exact hl
 ·obtain ⟨g0,_,rfl⟩:=List.mem_map.mp hg
  rfl
 ·obtain ⟨g0,_,rfl⟩:=List.mem_map.mp hg
  exact N.now.symm
 ·have d':Df ({x with state:=5,marks:=0,dU:=x.now,sa:=l}:NF) p:=⟨d.Ak,d.BR,d.LM,d.MH,d.LR,hlp,d.BA,d.JZ,d.JV,d.Kx,nn (x.ME p),d.NC,d.NO,d.NI,nn (x.OA p),d.KD,d.K4,nn (x.Q4 p),d.J6,nn (x.Pu p),nn (x.QK p),fun b hb=>⟨(d.hf b hb).1,(d.hf b hb).2.1,(d.hf b hb).2.2.1,(d.hf b hb).2.2.2.1,(d.hf b hb).2.2.2.2.1,(d.hf b hb).2.2.2.2.2.1,Ne.symm (nn (x.Sf p hb))⟩,d.SQ⟩
  exact d'.nodup
 ·cases hh:H b with
  | none=>rfl
  | some o=>
   by_cases zp:b=p
   ·rw [zp,ob'] at hb;cases hb
   ·rw [sm' b o zp hh] at hb;cases hb
theorem aN.pre{s:Sa32.St}{x:NF}{p:Addr}(N:aN t H p s x)(w:WF s):Ur t H p s x x.fs:=⟨N.ob,N.number,N.now,N.row,w.out,N.table,w.node,N.df.Ak⟩
theorem As(h:hG K t vs H Q E):vs.length=2:=by obtain ⟨p,s,x,c,rfl,_⟩:=h;rfl
theorem BE(T:cU K t)(h:hG K t vs H Q E):CF K t (Dn Q) (start sW vs) H:=by
 obtain ⟨p,s,x,c,rfl,⟨N,w⟩,q⟩:=h
 obtain ⟨dp,ob⟩:=N.ob
 have htab:∀e,e ∈ s.table→0x2000≤e.index∧e.sub < 256:=fun e he=>⟨(w.tab e he).1,(w.tab e he).2.2.1⟩
 unfold Az at q
 by_cases z1:c=1
 ·rw [if_pos z1] at q
  exact ⟨_,rfl,rfl,true,qc (by omega),aS ⟨_,rfl,p,s,x,rfl,⟨N,w⟩,q⟩⟩
 rw [if_neg z1] at q
 refine ⟨_,rfl,rfl,false,pD (by omega),aZ ?_⟩
 by_cases z2:c=2
 ·rw [if_pos z2] at q
  refine ⟨_,rfl,rfl,true,qc (by omega),aS ⟨_,rfl,p,_,dp,_,rfl,ob,T.ax,T.bJ,x.Jn,?_⟩⟩
  rw [NF.Cz]
  obtain ⟨N1,k1⟩:=N.GB (dx:=dp) (v:=4) 4 rfl (by decide)
  exact q _ _ N1 k1
 rw [if_neg z2] at q
 refine ⟨_,rfl,rfl,false,pD (by omega),aZ ?_⟩
 by_cases z3:c=0x80
 ·rw [if_pos z3] at q
  refine ⟨_,rfl,rfl,true,qc (by omega),aS ⟨_,rfl,p,_,dp,_,rfl,ob,T.ax,T.bJ,x.Jn,?_⟩⟩
  rw [NF.Cz]
  obtain ⟨N1,k1⟩:=N.GB (dx:=dp) (v:=127) 127 rfl (by decide)
  exact q _ _ N1 k1
 rw [if_neg z3] at q
 refine ⟨_,rfl,rfl,false,pD (by omega),aZ ?_⟩
 by_cases z4:c=0x81
 ·rw [if_pos z4] at q
  exact ⟨_,rfl,rfl,true,qc (by omega),aS ⟨_,rfl,p,dp,_,rfl,ob,x.HP,p,s,x,x.fs,rfl,N.pre w,.inr rfl,htab,q⟩⟩
 rw [if_neg z4] at q
 refine ⟨_,rfl,rfl,false,pD (by omega),aZ ?_⟩
 by_cases z5:c=0x82
 ·rw [if_pos z5] at q
  refine ⟨_,rfl,rfl,true,qc (by omega),aS ⟨_,rfl,p,dp,_,rfl,ob,x.pT,p,s,x,x.fs,s.own,rfl,N.pre w,.inr rfl,N.df.BR,N.df.BA,N.ents,.inr fun e he=>?_,fun e he=>?_,htab,q⟩⟩
  ·obtain ⟨e',h1,h2⟩:=zK w.own.symm he
   exact ⟨e',h1,NP h2⟩
  ·obtain ⟨e',h1,h2⟩:=zK w.own he
   exact ⟨e',h1,NP h2.symm⟩
 ·rw [if_neg z5] at q
  exact ⟨_,rfl,rfl,false,pD (by omega),aZ (q H x N (bX.refl _ _))⟩
end
end Fn
namespace Fn
open PySem L2
section
variable{K:PySem.W.Frag}{t:bh}{vs:List V}{H:Hp}{Q:VK}{E:XK}
theorem Ei{s:Sa32.St}{f:Option Nat × Nat→Option Nat}(h:∀y,f y=y.1):({s with heard:=s.heard.zipIdx.map f}:Sa32.St)=s:=by
 have:s.heard.zipIdx.map f=s.heard:=by
  refine List.ext_getElem? fun j=>?_
  rw [List.getElem?_map,List.getElem?_zipIdx]
  cases s.heard[j]? with
  | none=>rfl
  | some y=>show some (f (y,0+j))=some y;rw [h]
 rw [this]
theorem VT(x n:Nat):JA (.int (x:Int)) [.int 0,.int (n:Int)] = decide (x=0∨x=n):=by
 unfold JA
 simp only [List.any_cons,List.any_nil,P4,Bool.or_false]
 rw [Bool.eq_iff_iff]
 simp only [Bool.or_eq_true,beq_iff_eq,decide_eq_true_eq]
 omega
theorem Ul(s:Sa32.St)(b:List Nat):Sa32.frame s 0 b=match b with
  | [c,n]=>if n ≠ s.node∧n ≠ 0 then s else Az s c
  | _=>s:=rfl
theorem step_frame(s:Sa32.St)(id:Int)(b:List Nat)(n:Int)(now:Nat):Sa32.step (some s) (.frame id b n now)=if Sa32.within id 0 0x7FF=false∨Sa32.within n 0 8=false then (some s,Sa32.ok (-2)) else (some (Sa32.frame (s.at_ now) id.toNat b).close,Sa32.ok 0):=rfl
theorem AO(s:Sa32.St)(now:Nat):Sa32.step (some s) (.tick now)= (some (s.at_ now).close,Sa32.ok 0):=rfl
theorem step_take(s:Sa32.St):Sa32.step (some s) .take=match s.out with
  | []=>(some s,Sa32.ok (-1))
  | y::r=>(some {s with out:=r},⟨y.2.length,y.1,Sa32.padded 8 y.2⟩):=rfl
theorem xh(s:Sa32.St)(c b:Int):Sa32.step (some s) (.fault c b)=if Sa32.within c 0 0xFFFF=false∨Sa32.within b 0 7=false then (some s,Sa32.ok (-2)) else (some (s.fault c.toNat b.toNat),Sa32.ok 0):=rfl
theorem zj(s:Sa32.St)(i u:Int)(b:List Nat)(n:Int):Sa32.step (some s) (.set i u b n)=match (if i < 0∨u < 0 then none else s.table.find? fun e=>e.index == i.toNat && e.sub == u.toNat) with
  | some e=>if n ≠ (e.val.length:Int) then (some s,Sa32.ok (-2)) else (some (s.put i.toNat u.toNat b).maps,Sa32.ok 0)
  | none=>(some s,Sa32.ok (-1)):=rfl
theorem c8{s:Sa32.St}{c:Sa32.Call}{s':Sa32.St}{a:Sa32.Ans}(h:Sa32.step (some s) c= (some s',a)):cn s c=s'∧cv s c=a:=by
 unfold cn cv
 rw [h]
 exact ⟨Option.getD_some,rfl⟩
theorem CL(h:gR K t vs H Q E):vs.length=3:=by obtain ⟨p,s,x,d,b,id,rfl,_⟩:=h;rfl
theorem FQ(T:cU K t)(h:gR K t vs H Q E):Hg K t (Dn Q) (start yW vs) H:=by
 obtain ⟨p,s,x,d,b,id,rfl,⟨N,w⟩,hd,hb,hby,hdF,hid,q⟩:=h
 obtain ⟨dp,ob⟩:=N.ob
 have en:=N.number
 have es:=N.state
 have jn:Sa32.frame s id b=s→Q .bB H:=fun z=>q H x (by rw [z];exact N) (bX.refl _ _)
 by_cases z0:id=0
 ·refine ⟨_,rfl,rfl,true,qc (by omega),aS ?_⟩
  subst z0
  have hf:=Ul s b
  by_cases z2:b.length=2
  ·obtain ⟨c,n,rfl⟩:=two z2
   refine ⟨_,rfl,d,_,rfl,.inl (cb.of hd),rfl,true,qc rfl,aS ?_⟩
   refine ⟨_,rfl,d,_,_,_,rfl,rfl,cb.of hd,jF (i:=1) (show 1 < 2 by decide),_,rfl,p,_,dp,_,_,rfl,ob,T.ax,T.cO,x.mF,(by show 2≤sizeLine;decide),fun tp gt=>?_⟩
   have s1:aP H (upd H tp (.tup [.int 0,.int x.number])):=aP.new gt
   refine ⟨tp,_,rfl,.inr (Lw.of ao),rfl,rfl,_,rfl,?_⟩
   show if JA (.int ((n:Nat):Int)) [.int 0,.int x.number] = true then _ else _
   rw [en,VT]
   rw [hf] at q
   simp only at q
   by_cases z3:n=0∨n=s.node
   ·rw [decide_eq_true z3]
    rw [if_neg (by omega)] at q
    rw [en] at s1
    exact aS ⟨_,rfl,_,rfl,d,_,_,_,rfl,rfl,cb.of (s1 _ _ hd),jF (i:=0) (show 0 < 2 by decide),p,s,x,c,rfl,⟨N.same s1,w⟩,fun H' x' N' k'=>q H' x' N' ((s1.keep _).trans k')⟩
   ·rw [decide_eq_false z3]
    rw [if_pos (by omega)] at q
    rw [en] at s1
    exact aZ (q _ x (N.same s1) (s1.keep _))
  ·refine ⟨_,rfl,d,_,rfl,.inl (cb.of hd),rfl,false,pD (by rw [bz];omega),aZ (aZ (jn ?_))⟩
   rw [hf]
   match b,z2 with
   | [],_=>rfl
   | [_],_=>rfl
   | [_,_],h=>exact absurd rfl h
   | _::_::_::_,_=>rfl
 refine ⟨_,rfl,rfl,false,pD (by omega),aZ ?_⟩
 by_cases z1:id=0x600+s.node
 ·have hf:Sa32.frame s id b=if b.length=8∧s.state ≠ 4 then Sa32.request s b else s:=by
   unfold Sa32.frame
   rw [if_neg z0,if_pos z1]
   rfl
  refine ⟨_,rfl,_,rfl,p,_,dp,_,_,rfl,ob,T.ax,T.cO,x.mF,_,_,rfl,rfl,rfl,true,qc (by omega),aS ?_⟩
  by_cases z2:b.length=8
  ·refine ⟨_,rfl,d,_,rfl,.inl (cb.of hd),rfl,true,qc (by rw [bz];omega),aS ?_⟩
   by_cases z3:s.state=4
   ·exact ⟨_,rfl,p,_,dp,_,_,rfl,ob,T.ax,T.bJ,x.gy,rfl,false,GI (by omega),aZ (jn (by rw [hf,if_neg fun w=>w.2 z3]))⟩
   ·rw [hf,if_pos ⟨z2,z3⟩] at q
    exact ⟨_,rfl,p,_,dp,_,_,rfl,ob,T.ax,T.bJ,x.gy,rfl,true,zy (by omega),aS ⟨_,rfl,_,rfl,p,s,x,d,b,rfl,⟨N,w⟩,hd,z2,hby,hdF,q⟩⟩
  ·exact ⟨_,rfl,d,_,rfl,.inl (cb.of hd),rfl,false,pD (by rw [bz];omega),aZ (aZ (jn (by rw [hf,if_neg fun w=>z2 w.1])))⟩
 refine ⟨_,rfl,_,rfl,p,_,dp,_,_,rfl,ob,T.ax,T.cO,x.mF,_,_,rfl,rfl,rfl,false,pD (by omega),aZ ?_⟩
 refine ⟨_,rfl,_,rfl,p,_,dp,_,_,rfl,ob,T.ax,T.aD,x.ba,x.en,x.aB,s,0x1005,0,rfl,N.ents,w.T2,rfl,?_⟩
 by_cases z2:id=s.num 0x1005 0
 ·have hf:Sa32.frame s id b=if s.state=5 then Sa32.mark s else s:=by
   unfold Sa32.frame
   rw [if_neg z0,if_neg z1,if_pos z2]
   rfl
  refine ⟨true,qc (by omega),aS ?_⟩
  by_cases z3:s.state=5
  ·rw [hf,if_pos z3] at q
   exact ⟨_,rfl,p,_,dp,_,_,rfl,ob,T.ax,T.bJ,x.gy,rfl,true,qc (by omega),aS ⟨_,rfl,p,s,x,rfl,⟨N,w⟩,z3,q⟩⟩
  ·exact ⟨_,rfl,p,_,dp,_,_,rfl,ob,T.ax,T.bJ,x.gy,rfl,false,pD (by omega),aZ (jn (by rw [hf,if_neg z3]))⟩
 refine ⟨false,pD (by omega),aZ ?_⟩
 have hf:Sa32.frame s id b=match (if s.state=5 then (List.range 4).find? fun k=>s.num (0x1400+k) 1 == id else none) with
  | some k=>CY s k b
  | none=>{s with heard:=s.heard.zipIdx.map fun h=>if s.num 0x1016 (h.2+1) / 65536 ≠ 0∧s.num 0x1016 (h.2+1) % 65536 ≠ 0∧id=0x700+s.num 0x1016 (h.2+1) / 65536∧b.length=1 then some s.now else h.1}:=by
  unfold Sa32.frame
  rw [if_neg z0,if_neg z1,if_neg z2]
  rfl
 refine ⟨_,rfl,_,rfl,p,s,x,id,rfl,⟨N,w⟩,?_⟩
 unfold xm
 cases hfd:(List.range 4).find? fun k=>s.num (0x1400+k) 1 == id with
 | some k=>
  have hk:k < 4:=List.mem_range.mp (List.mem_of_find?_eq_some hfd)
  have hke:s.num (0x1400+k) 1=id:=by have:=List.find?_some hfd;simpa using this
  rw [hfd] at hf
  refine ⟨true,rfl,aS ?_⟩
  by_cases z3:s.state=5
  ·rw [hf,if_pos z3] at q
   refine ⟨_,rfl,p,_,dp,_,_,rfl,ob,T.ax,T.bJ,x.gy,rfl,true,qc (by omega),aS ⟨_,rfl,_,rfl,_,rfl,p,s,x,id,rfl,⟨N,w⟩,?_⟩⟩
   unfold xm
   rw [hfd]
   exact ⟨_,rfl,p,s,x,d,b,k,rfl,⟨N,w⟩,hk,hd,hdF,hby,hb,q⟩
  ·refine ⟨_,rfl,p,_,dp,_,_,rfl,ob,T.ax,T.bJ,x.gy,rfl,false,pD (by omega),aZ (jn ?_)⟩
   rw [hf,if_neg z3]
   refine Ei fun y=>if_neg fun zz=>?_
   have:=w.Pd k hk (by rw [hke];unfold Sa32.OFF;omega)
   omega
 | none=>
  rw [hfd] at hf
  refine ⟨false,rfl,aZ ?_⟩
  have hf2:Sa32.frame s id b= {s with heard:=s.heard.zipIdx.map fun h=>if s.num 0x1016 (h.2+1) / 65536 ≠ 0∧s.num 0x1016 (h.2+1) % 65536 ≠ 0∧id=0x700+s.num 0x1016 (h.2+1) / 65536∧b.length=1 then some s.now else h.1}:=by
   rw [hf]
   split
   ·rename_i zz
    split at zz <;> cases zz
   ·rfl
  by_cases z3:b.length=1
  ·have e:Sa32.frame s id b=Dk s id:=by
    rw [hf2]
    unfold Dk
    simp only [z3,and_true]
   rw [e] at q
   exact ⟨_,rfl,d,_,rfl,.inl (cb.of hd),rfl,true,qc (by rw [bz];omega),aS ⟨_,rfl,_,rfl,p,s,x,id,rfl,⟨N,w⟩,q⟩⟩
  ·exact ⟨_,rfl,d,_,rfl,.inl (cb.of hd),rfl,false,pD (by rw [bz];omega),aZ (jn (by rw [hf2];exact Ei fun y=>if_neg fun zz=>z3 zz.2.2.2))⟩
theorem HZ(h:iO K t vs H Q E):vs.length=1:=by obtain ⟨p,s,x,rfl,_⟩:=h;rfl
theorem WF.rA{s:Sa32.St}(w:WF s):WF (rA s):=by
 unfold Fn.rA
 split
 ·refine w.Aq.send (fun y hy=>?_) (show 1≤8 by decide)
  rw [List.mem_singleton.mp hy]
  have:=w.state
  show s.state < 256
  omega
 ·exact w
theorem WF.Q5{s:Sa32.St}(w:WF s):WF ((List.range 2).foldl Fn.jh s):=zI (P:=WF) (fun _ k h=>h.jh k) _ _ w
theorem JM(T:cU K t)(h:iO K t vs H Q E):Lr K t (Dn Q) (start Ee vs) H:=by
 obtain ⟨p,s,x,rfl,⟨N,w⟩,q⟩:=h
 refine ⟨_,rfl,p,s,x,rfl,⟨N,w⟩,fun H1 x1 N1 k1=>?_⟩
 refine ⟨_,rfl,p,_,x1,rfl,⟨N1,w.Q5⟩,fun H2 x2 N2 k2=>?_⟩
 exact ⟨_,rfl,p,_,x2,rfl,⟨N2,w.Q5.rA⟩,fun H3 x3 N3 k3=>q H3 x3 N3 ((k1.trans k2).trans k3)⟩
theorem HG(h:nV K t vs H Q E):vs.length=2:=by obtain ⟨n,tb,bs,rfl,_⟩:=h;rfl
theorem Km(T:cU K t)(h:nV K t vs H Q E):MC K t (Dn Q) (start Ew vs) H:=by
 obtain ⟨n,tb,bs,rfl,ht,hby,h8,hl,q1,q2⟩:=h
 have no:∀H',aP H H'→(n < 1∨127 < n∨512 < bs.length∨Sa32.tableOf bs (bs.length / 8)=none)→Q .bB H':=q1
 by_cases z1:1≤n
 ·by_cases z2:n≤127
  ·refine ⟨_,rfl,_,_,rfl,rfl,true,tt z1,aS ⟨_,_,rfl,rfl,true,tt z2,aZ ?_⟩⟩
   refine ⟨_,rfl,tb,bs,rfl,ht,hby,h8,hl,fun H1 s1=>⟨_,rfl,?_⟩⟩
   by_cases z3:bs.length≤512
   ·rw [decide_eq_true z3,Bool.true_and]
    cases hT:Sa32.tableOf bs (bs.length / 8) with
    | none=>exact aS (no H1 s1 (.inr (.inr (.inr hT))))
    | some l=>
     refine aZ ⟨_,rfl,_,rfl,fun p dx gp gd hne=>?_⟩
     have hp:H p=none:=s1.free gp
     refine ⟨p,dx,tb,bs,l,n.toNat,?_,ao,?_,by omega,by omega,hby,h8,z3,hT,fun H2 x2 N2 k2=>⟨rfl,?_⟩⟩
     ·have:n= ((n.toNat:Nat):Int):=by omega
      show [V.ref p,.int n,.ref tb] = [V.ref p,.int ((n.toNat:Nat):Int),.ref tb]
      rw [←this]
     ·exact ck (ck (s1 _ _ ht) (aE (s1 _ _ ht) gd)) (aE (s1 _ _ ht) gp)
     ·have sm:aP H H2:=fun b o hb=>k2.old b o (ck (ck (s1 _ _ hb) (aE (s1 _ _ hb) gd)) (aE (s1 _ _ hb) gp)) (aE hb hp)
      refine q2 l p H2 x2 z1 z2 z3 hT sm hp N2 fun b z=>?_
      rcases k2.foot b z with rfl | z
      ·exact hp
      ·cases hh:H b with
       | none=>rfl
       | some o=>rw [ck (ck (s1 _ _ hh) (aE (s1 _ _ hh) gd)) (aE (s1 _ _ hh) gp)] at z;cases z
   ·rw [decide_eq_false z3,Bool.false_and]
    exact aS (no H1 s1 (.inr (.inr (.inl (by omega)))))
  ·exact ⟨_,rfl,_,_,rfl,rfl,true,tt z1,aS ⟨_,_,rfl,rfl,false,ff z2,aS (aS (no H (aP.refl H) (.inr (.inl (by omega)))))⟩⟩
 ·exact ⟨_,rfl,_,_,rfl,rfl,false,ff z1,aZ ⟨false,rfl,aS (aS (no H (aP.refl H) (.inl (by omega))))⟩⟩
theorem BG{s':Sa32.St}{p:Addr}{x x':NF}{v:Int}{H':Hp}(N:aN t H' p s' x')(k:bX H (x.F p) H' (x'.F p))(q:Ii t H p x s' [v] Q){l:Addr}(gl:H' l=none):Q (.ref l) (upd H' l (.lst [.int v])):=
 q l _ x' (N.same (aP.new gl)) (k.same (aP.new gl)) (k.Jm l gl) ao (N.mz gl)
theorem pL{z lo hi:Int}:Sa32.within z lo hi=false↔z < lo∨hi < z:=by
 unfold Sa32.within
 rw [Bool.and_eq_false_iff,decide_eq_false_iff_not,decide_eq_false_iff_not]
 omega
theorem Ks(h:qe K t vs H Q E):vs.length=2:=by obtain ⟨p,s,x,now,rfl,_⟩:=h;rfl
theorem M8(a b:Nat):(if (b:Int) > (a:Int) then (b:Int) else (a:Int))= ((max a b:Nat):Int):=by split <;> omega
theorem L8(T:cU K t)(h:qe K t vs H Q E):Oe K t (Dn Q) (start GQ vs) H:=by
 obtain ⟨p,s,x,now,rfl,⟨N,w⟩,q⟩:=h
 obtain ⟨dp,ob⟩:=N.ob
 rw [(c8 (AO s now)).1] at q
 refine ⟨_,rfl,p,_,dp,_,_,rfl,ob,T.ax,T.bY,x.nZ,_,rfl,_,_,rfl,_,rfl,p,_,dp,_,rfl,ob,T.ax,T.bY,x.Jn,?_⟩
 rw [NF.SY]
 obtain ⟨N1,k1⟩:=N.Nr (dx:=dp) (v:=if (now:Int) > x.now then (now:Int) else x.now) (max s.now now) (by rw [N.now];exact M8 _ _)
 refine ⟨_,rfl,p,_,_,rfl,⟨N1,w.yy⟩,fun H2 x2 N2 k2=>?_⟩
 exact ⟨(by show 1≤sizeLine;decide),fun l gl=>BG N2 (k1.trans k2) q gl⟩
theorem HB(h:nT K t vs H Q E):vs.length=4:=by obtain ⟨p,s,x,d,b,id,now,rfl,_⟩:=h;rfl
theorem Jz(T:cU K t)(h:nT K t vs H Q E):Mg K t (Dn Q) (start DZ vs) H:=by
 obtain ⟨p,s,x,d,b,id,now,rfl,⟨N,w⟩,hd,hby,hdF,q⟩:=h
 obtain ⟨dp,ob⟩:=N.ob
 have hst:=step_frame s id b (b.length:Int) now
 simp only [pL] at hst
 have hcn:cn s (.frame id b (b.length:Int) now)= (if id < 0∨0x7FF < id∨8 < b.length then s else (Sa32.frame (s.at_ now) id.toNat b).close)∧(cv s (.frame id b (b.length:Int) now)).v=if id < 0∨0x7FF < id∨8 < b.length then -2 else 0:=by
  by_cases z:id < 0∨0x7FF < id∨8 < b.length
  ·rw [if_pos (by omega)] at hst
   rw [if_pos z,if_pos z,(c8 hst).1,(c8 hst).2]
   exact ⟨rfl,rfl⟩
  ·rw [if_neg (by omega)] at hst
   rw [if_neg z,if_neg z,(c8 hst).1,(c8 hst).2]
   exact ⟨rfl,rfl⟩
 rw [hcn.1,hcn.2] at q
 have no:id < 0∨0x7FF < id∨8 < b.length→∀l,H l=none→Q (.ref l) (upd H l (.lst [.int (-2)])):=fun z l gl=>by
  rw [if_pos z,if_pos z] at q
  exact BG N (bX.refl _ _) q gl
 have go:¬(id < 0∨0x7FF < id∨8 < b.length)→(aI (cJ K (ag 0) (u7 Pt (ae (aT K (ag 0) "now") (ae (ag 2) aw))) "now")
  (aI (aW (az (gR K t) [] E0 (ae (ag 0) (ae (ag 1) (ae (ag 3) aw)))))
  (aI (aW (az (iO K t) [] E0 (ae (ag 0) aw)))
  (bu (d7 (ae (tC (.int 0)) aw)))))) (Dn Q) [some (.ref p),some (.int id),some (.int (now:Int)),some (.ref d)] H:=fun z=>by
  rw [if_neg z,if_neg z] at q
  refine ⟨_,rfl,p,_,dp,_,_,rfl,ob,T.ax,T.bY,x.nZ,_,rfl,_,_,rfl,_,rfl,p,_,dp,_,rfl,ob,T.ax,T.bY,x.Jn,?_⟩
  rw [NF.SY]
  obtain ⟨N1,k1⟩:=N.Nr (dx:=dp) (v:=if (now:Int) > x.now then (now:Int) else x.now) (max s.now now) (by rw [N.now];exact M8 _ _)
  have w1:WF (s.at_ now):=w.yy
  refine ⟨_,rfl,_,rfl,_,rfl,p,s.at_ now,_,d,b,id.toNat,?_,⟨N1,w1⟩,k1.old _ _ hd hdF,by omega,hby,hdF,by omega,fun H2 x2 N2 k2=>?_⟩
  ·have:id= ((id.toNat:Nat):Int):=by omega
   show [V.ref p,.int id,.ref d] = [V.ref p,.int ((id.toNat:Nat):Int),.ref d]
   rw [←this]
  have w2:WF (Sa32.frame (s.at_ now) id.toNat b):=w1.frame hby (by omega)
  refine ⟨_,rfl,p,_,x2,rfl,⟨N2,w2⟩,fun H3 x3 N3 k3=>?_⟩
  exact ⟨(by show 1≤sizeLine;decide),fun l gl=>BG N3 ((k1.trans k2).trans k3) q gl⟩
 by_cases z1:0≤id
 ·by_cases z2:id≤2047
  ·refine ⟨_,rfl,_,_,rfl,rfl,true,tt z1,aS ⟨_,_,rfl,rfl,true,tt z2,aZ ?_⟩⟩
   by_cases z3:8 < b.length
   ·exact ⟨_,rfl,d,_,rfl,.inl (cb.of hd),_,_,rfl,rfl,true,tt (by rw [bz];omega),aS ⟨(by show 1≤sizeLine;decide),no (.inr (.inr z3))⟩⟩
   ·exact ⟨_,rfl,d,_,rfl,.inl (cb.of hd),_,_,rfl,rfl,false,ff (by rw [bz];omega),aZ (go (by omega))⟩
  ·exact ⟨_,rfl,_,_,rfl,rfl,true,tt z1,aS ⟨_,_,rfl,rfl,false,ff z2,aS (aS ⟨(by show 1≤sizeLine;decide),no (by omega)⟩)⟩⟩
 ·exact ⟨_,rfl,_,_,rfl,rfl,false,ff z1,aZ ⟨false,rfl,aS (aS ⟨(by show 1≤sizeLine;decide),no (by omega)⟩)⟩⟩
theorem Ke(h:qg K t vs H Q E):vs.length=1:=by obtain ⟨p,s,x,rfl,_⟩:=h;rfl
theorem MK(T:cU K t)(h:qg K t vs H Q E):O4 K t (Dn Q) (start GX vs) H:=by
 obtain ⟨p,s,x,rfl,⟨N,w⟩,q⟩:=h
 obtain ⟨dp,ob⟩:=N.ob
 obtain ⟨ts,r1,r2⟩:=N.row
 have hl:=Paired.length r2
 refine ⟨_,rfl,p,_,dp,_,_,rfl,ob,T.ax,T.mD,x.K3,x.rw,_,rfl,.inl (cb.of r1),rfl,?_⟩
 have hst:=step_take s
 unfold CO at q
 cases ho:s.out with
 | nil=>
  rw [ho] at q hl hst
  rw [(c8 hst).1] at q
  refine ⟨true,qc (by rw [List.length_map,hl];rfl),aS ⟨(by show 1≤sizeLine;decide),fun l gl=>BG N (bX.refl _ _) q gl⟩⟩
 | cons f r=>
  rw [ho] at q hl r2 hst
  rw [(c8 hst).1] at q
  cases r2 with
  | cons ra rt=>
   rename_i a ts'
   obtain ⟨dd,g1,g2,g3⟩:=ra
   have hfl:=w.AJ f (by rw [ho];simp)
   refine ⟨false,pD (by rw [List.length_map,hl,List.length_cons];omega),aZ ?_⟩
   refine ⟨_,rfl,p,_,dp,_,_,rfl,ob,T.ax,T.mD,x.K3,.inl ⟨rfl,_,cb.of r1⟩,x.rw,_,0,0,.ref a,rfl,rfl,r1,by decide,by decide,?_,rfl,?_⟩
   ·unfold seqIndex?
    simp
   obtain ⟨N1,k1⟩:=N.Qv ts' r rt
   have hdF:dd ≠ x.rw:=fun z=>g3 (z ▸ x.ME p)
   have haF:a ≠ x.rw:=uk g1 r1 (by intro z;cases z)
   have ea:(((a::ts').map V.ref).eraseIdx 0)=ts'.map V.ref:=rfl
   rw [ea]
   have g1':=ck (q:=x.rw) (o:= .lst (ts'.map V.ref)) g1 haF
   have g2':=ck (q:=x.rw) (o:= .lst (ts'.map V.ref)) g2 hdF
   generalize upd H x.rw (.lst (ts'.map V.ref))=H1 at *
   refine ⟨_,rfl,a,_,_,_,rfl,rfl,Lw.of g1',RH (j:=1) rfl,dd,_,rfl,.inl (cb.of g2'),_,rfl,a,_,_,_,rfl,rfl,Lw.of g1',RH (j:=0) rfl,(by show 2≤sizeLine;decide),fun l1 e1=>?_⟩
   have s2:aP H1 (upd H1 l1 (.lst [.int (((bV f.2).length:Nat):Int),.int (f.1:Int)])):=aP.new e1
   refine ⟨_,rfl,a,_,_,_,rfl,rfl,Lw.of (s2 _ _ g1'),RH (j:=1) rfl,dd,f.2,8,rfl,s2 _ _ g2',by omega,by decide,fun l2 H3 s3 e3 h3=>?_⟩
   have h1:H3 l1=some (.lst [.int (((bV f.2).length:Nat):Int),.int (f.1:Int)]):=s3 _ _ ao
   refine ⟨l1,l2,_,_,rfl,rfl,h1,h3,?_,fun l4 e4=>?_⟩
   ·rw [bz (f.2 ++ _),List.length_append,show (Sa32.zeros (8 - f.2.length)).length=8 - f.2.length by simp [Sa32.zeros]]
    show 2+_≤sizeLine
    exact Nat.le_of_lt (b7 (by omega))
   have s4:=(s2.trans s3).trans (aP.new (o:= .lst ([.int (((bV f.2).length:Nat):Int),.int (f.1:Int)] ++ bV (f.2 ++ Sa32.zeros (8 - f.2.length)))) e4)
   refine q l4 _ x (N1.same s4) (k1.same s4) (k1.Jm _ ((s2.trans s3).free e4)) ?_ (N1.mz ((s2.trans s3).free e4))
   rw [ao,←ve hfl.2,bz,yl]
   rfl
theorem LU(h:u0 K t vs H Q E):vs.length=3:=by obtain ⟨p,s,x,i,u,rfl,_⟩:=h;rfl
theorem Od(T:cU K t)(h:u0 K t vs H Q E):Qe K t (Dn Q) (start KZ vs) H:=by
 obtain ⟨p,s,x,i,u,rfl,⟨N,w⟩,q⟩:=h
 obtain ⟨dp,ob⟩:=N.ob
 unfold MD at q
 refine ⟨_,rfl,p,_,dp,_,_,rfl,ob,T.ax,T.aD,x.ba,_,rfl,_,rfl,x.en,x.aB,s,i,u,rfl,N.ents,w,fun a e hi hu he hE ha=>?_,fun z=>?_⟩
 ·rw [if_neg (by omega),he] at q
  obtain ⟨dx,hx⟩:=hE
  have hbd:=w.bounds (bo he).1
  refine ⟨_,rfl,false,rfl,aZ ?_⟩
  refine ⟨_,rfl,a,_,dx,_,_,rfl,hx,T.bH,T.bT,cR e,(by show 1≤sizeLine;decide),fun l1 e1=>?_⟩
  have s1:aP H (upd H l1 (.lst [.int (e.val.length:Int)])):=aP.new e1
  refine ⟨_,rfl,a,_,dx,_,_,rfl,s1 _ _ hx,T.bH,T.bZ,fE e,_,rfl,a,_,dx,_,_,rfl,s1 _ _ hx,T.bH,T.bT,cR e,Sa32.num e.val,e.val.length,rfl,by omega,fun l2 H2 s2 e2 h2=>?_⟩
  rw [Mu hbd.2.2.2.2.1] at h2
  refine ⟨l2,e.val,8,rfl,h2,by omega,by decide,fun l3 H3 s3 e3 h3=>?_⟩
  have h1:H3 l1=some (.lst [.int (e.val.length:Int)]):=s3 _ _ (s2 _ _ ao)
  refine ⟨l1,l3,_,_,rfl,rfl,h1,h3,?_,fun l4 e4=>?_⟩
  ·rw [bz,←ve (by omega)]
   unfold Sa32.padded
   rw [List.length_take]
   show 1+min 8 _≤sizeLine
   exact Nat.le_of_lt (b7 (by omega))
  have s4:=((s1.trans s2).trans s3).trans (aP.new (o:= .lst ([.int (e.val.length:Int)] ++ bV (e.val ++ Sa32.zeros (8 - e.val.length)))) e4)
  refine q l4 _ x (N.same s4) (s4.keep _) (((s1.trans s2).trans s3).free e4) ?_ (N.mz (((s1.trans s2).trans s3).free e4))
  rw [ao,←ve (by omega),yl]
  rfl
 ·have:(if i < 0∨u < 0 then none else s.ent i.toNat u.toNat)=none:=by
   by_cases zz:i < 0∨u < 0
   ·rw [if_pos zz]
   ·rw [if_neg zz]
    rcases z with z | z | z
    ·exact absurd (.inl z) zz
    ·exact absurd (.inr z) zz
    ·exact z
  rw [this] at q
  exact ⟨_,rfl,true,rfl,aS ⟨(by show 1≤sizeLine;decide),fun l gl=>BG N (bX.refl _ _) q gl⟩⟩
theorem HU(h:oo K t vs H Q E):vs.length=1:=by obtain ⟨p,s,x,rfl,_⟩:=h;rfl
theorem KS(T:cU K t)(h:oo K t vs H Q E):Mo K t (Dn Q) (start DI vs) H:=by
 obtain ⟨p,s,x,rfl,⟨N,w⟩,q⟩:=h
 obtain ⟨dp,ob⟩:=N.ob
 refine ⟨_,rfl,p,_,dp,_,_,rfl,ob,T.ax,T.bJ,x.gy,(by show 1≤sizeLine;decide),fun l gl=>?_⟩
 rw [N.state]
 exact BG N (bX.refl _ _) q gl
theorem Hl(h:nX K t vs H Q E):vs.length=3:=by obtain ⟨p,s,x,c,b,rfl,_⟩:=h;rfl
theorem Lq(s:Sa32.St)(b:Nat):s.fault 0 b=s.fault 0 0:=by
 unfold Sa32.St.fault
 simp only [if_true]
theorem KH(T:cU K t)(h:nX K t vs H Q E):Mi K t (Dn Q) (start Ej vs) H:=by
 obtain ⟨p,s,x,c,b,rfl,⟨N,w⟩,q⟩:=h
 obtain ⟨dp,ob⟩:=N.ob
 have hst:=xh s c b
 simp only [pL] at hst
 have hcn:cn s (.fault c b)= (if c < 0∨0xFFFF < c∨b < 0∨7 < b then s else s.fault c.toNat b.toNat)∧(cv s (.fault c b)).v=if c < 0∨0xFFFF < c∨b < 0∨7 < b then -2 else 0:=by
  by_cases z:c < 0∨0xFFFF < c∨b < 0∨7 < b
  ·rw [if_pos (by omega)] at hst
   rw [if_pos z,if_pos z,(c8 hst).1,(c8 hst).2]
   exact ⟨rfl,rfl⟩
  ·rw [if_neg (by omega)] at hst
   rw [if_neg z,if_neg z,(c8 hst).1,(c8 hst).2]
   exact ⟨rfl,rfl⟩
 rw [hcn.1,hcn.2] at q
 have no:c < 0∨0xFFFF < c∨b < 0∨7 < b→∀l,H l=none→Q (.ref l) (upd H l (.lst [.int (-2)])):=fun z l gl=>by
  rw [if_pos z,if_pos z] at q
  exact BG N (bX.refl _ _) q gl
 by_cases z1:0≤c
 ·by_cases z2:c≤65535
  ·refine ⟨_,rfl,_,_,rfl,rfl,true,tt z1,aS ⟨_,_,rfl,rfl,true,tt z2,aZ ?_⟩⟩
   by_cases z3:0≤b
   ·by_cases z4:b≤7
    ·refine ⟨_,rfl,_,_,rfl,rfl,true,tt z3,aS ⟨_,_,rfl,rfl,true,tt z4,aZ ?_⟩⟩
     rw [if_neg (by omega),if_neg (by omega)] at q
     by_cases z5:c=0
     ·refine ⟨_,rfl,rfl,true,qc z5,aS ⟨_,rfl,p,dp,_,rfl,ob,x.BN,p,s,x,rfl,⟨N,w⟩,fun H1 x1 N1 k1=>⟨(by show 1≤sizeLine;decide),fun l gl=>?_⟩⟩⟩
      have e:c.toNat=0:=by omega
      rw [e,Lq] at q
      exact BG N1 k1 q gl
     ·refine ⟨_,rfl,rfl,false,pD z5,aZ ⟨_,rfl,p,dp,_,rfl,ob,x.ph,_,rfl,_,rfl,p,s,x,c.toNat,b.toNat,?_,⟨N,w⟩,by omega,by omega,fun H1 x1 N1 k1=>⟨(by show 1≤sizeLine;decide),fun l gl=>BG N1 k1 q gl⟩⟩⟩
      have e1:c= ((c.toNat:Nat):Int):=by omega
      have e2:b= ((b.toNat:Nat):Int):=by omega
      show [V.ref p,.int c,.int b] = [V.ref p,.int ((c.toNat:Nat):Int),.int ((b.toNat:Nat):Int)]
      rw [←e1,←e2]
    ·exact ⟨_,rfl,_,_,rfl,rfl,true,tt z3,aS ⟨_,_,rfl,rfl,false,ff z4,aS ⟨(by show 1≤sizeLine;decide),no (by omega)⟩⟩⟩
   ·exact ⟨_,rfl,_,_,rfl,rfl,false,ff z3,aZ ⟨false,rfl,aS ⟨(by show 1≤sizeLine;decide),no (by omega)⟩⟩⟩
  ·exact ⟨_,rfl,_,_,rfl,rfl,true,tt z1,aS ⟨_,_,rfl,rfl,false,ff z2,aS (aS ⟨(by show 1≤sizeLine;decide),no (by omega)⟩)⟩⟩
 ·exact ⟨_,rfl,_,_,rfl,rfl,false,ff z1,aZ ⟨false,rfl,aS (aS ⟨(by show 1≤sizeLine;decide),no (by omega)⟩)⟩⟩
theorem Lp(h:uX K t vs H Q E):vs.length=4:=by obtain ⟨p,s,x,d,b,i,u,rfl,_⟩:=h;rfl
theorem OK(T:cU K t)(h:uX K t vs H Q E):Qm K t (Dn Q) (start JI vs) H:=by
 obtain ⟨p,s,x,d,b,i,u,rfl,⟨N,w⟩,hd,hby,hdF,q⟩:=h
 obtain ⟨dp,ob⟩:=N.ob
 have tabF:∀{i' u':Nat},0x2000≤i'→s.table.find? (at_ i' u')=s.ent i' u':=fun {i' u'} hi=>by
  rw [yG,List.find?_append]
  cases h:s.table.find? (at_ i' u') with
  | some e=>rfl
  | none=>
   rw [Option.none_or]
   symm
   rw [List.find?_eq_none]
   intro e he z
   obtain ⟨e0,h4,h5⟩:=zK w.own he
   have:=dN s.node e0 h4
   have:=(tf h5).1
   have:=(sY.mp z).1
   omega
 have none_q:(if i < 0∨u < 0 then none else s.table.find? fun e=>e.index == i.toNat && e.sub == u.toNat)=none→∀l,H l=none→Q (.ref l) (upd H l (.lst [.int (-1)])):=fun z l gl=>by
  have hst:=zj s i u b (b.length:Int)
  rw [z] at hst
  rw [(c8 hst).1,(c8 hst).2] at q
  exact BG N (bX.refl _ _) q gl
 refine ⟨_,rfl,p,_,dp,_,_,rfl,ob,T.ax,T.aD,x.ba,_,rfl,_,rfl,x.en,x.aB,s,i,u,rfl,N.ents,w,fun a e hi hu he hE ha=>?_,fun z=>?_⟩
 ·obtain ⟨dx,hx⟩:=hE
  have hbd:=w.bounds (bo he).1
  have hidx:=(bo he).2.1
  refine ⟨_,rfl,false,rfl,aZ ⟨_,rfl,i,rfl,_,rfl,?_⟩⟩
  by_cases z1:0x2000≤i∧i≤0x9FFF
  ·rw [decide_eq_true z1]
   have hfind:(if i < 0∨u < 0 then none else s.table.find? fun e=>e.index == i.toNat && e.sub == u.toNat)=some e:=by
    rw [if_neg (by omega)]
    have:=tabF (i':=i.toNat) (u':=u.toNat) (by omega)
    rw [he] at this
    exact this
   have hst:=zj s i u b (b.length:Int)
   rw [hfind] at hst
   simp only at hst
   refine aZ ?_
   by_cases z2:b.length=e.val.length
   ·rw [if_neg (by omega)] at hst
    rw [(c8 hst).1,(c8 hst).2] at q
    refine ⟨_,rfl,d,_,rfl,.inl (cb.of hd),_,rfl,a,_,dx,_,_,rfl,hx,T.bH,T.bT,cR e,rfl,false,GI (by rw [bz];omega),aZ ?_⟩
    have ek:i * 256+u=bD i.toNat u.toNat:=by unfold bD;omega
    refine ⟨_,rfl,_,rfl,_,rfl,_,_,rfl,_,rfl,d,b,rfl,hd,p,s,x,e,b,i.toNat,u.toNat,by rw [←ek];rfl,⟨N,w⟩,he,z2,hby,?_,fun H1 x1 N1 k1=>?_⟩
    ·have pk:lg s i.toNat u.toNat b:=lg.free hby (by rw [z2];exact w.mS he) (.inl (by omega))
     exact fun k hk=>(w.put pk).maps k hk 0x1A00 (.inr rfl)
    have pk:lg s i.toNat u.toNat b:=lg.free hby (by rw [z2];exact w.mS he) (.inl (by omega))
    refine ⟨_,rfl,p,_,x1,rfl,⟨N1,w.put pk⟩,fun H2 x2 N2 k2=>?_⟩
    exact ⟨(by show 1≤sizeLine;decide),fun l gl=>BG N2 (k1.trans k2) q gl⟩
   ·rw [if_pos (by omega)] at hst
    rw [(c8 hst).1,(c8 hst).2] at q
    exact ⟨_,rfl,d,_,rfl,.inl (cb.of hd),_,rfl,a,_,dx,_,_,rfl,hx,T.bH,T.bT,cR e,rfl,true,zy (by rw [bz];omega),aS ⟨(by show 1≤sizeLine;decide),fun l gl=>BG N (bX.refl _ _) q gl⟩⟩
  ·rw [decide_eq_false z1]
   refine aS ⟨(by show 1≤sizeLine;decide),none_q ?_⟩
   rw [if_neg (by omega),List.find?_eq_none]
   intro e' he' z
   have h1:=w.tab e' he'
   have h2:=(sY (i:=i.toNat) (u:=u.toNat) (e:=e')).mp z
   omega
 ·refine ⟨_,rfl,true,rfl,aS (aS ⟨(by show 1≤sizeLine;decide),none_q ?_⟩)⟩
  by_cases zz:i < 0∨u < 0
  ·rw [if_pos zz]
  ·rw [if_neg zz]
   rcases z with z | z | z
   ·exact absurd (.inl z) zz
   ·exact absurd (.inr z) zz
   ·rw [yG,List.find?_append] at z
    cases h:s.table.find? (at_ i.toNat u.toNat) with
    | some e=>rw [h] at z;cases z
    | none=>rfl
end
end Fn
namespace Fn
open PySem L2
section
variable{K:PySem.W.Frag}{t:bh}{vs:List V}{H:Hp}{Q:VK}{E:XK}
theorem _root_.L2.Rd.Vx{H H':Hp}{a:Addr}{u:HO}(h:Rd H a u)(k:∀o,H a=some o→H' a=some o):Rd H' a u:=by
 rcases h with h | ⟨o,h⟩
 ·exact .inl (k _ h)
 ·exact .inr ⟨o,k _ h⟩
theorem tY(a:Addr)(k:Int):(Gk a k).lookup ("numbers":Str)=some (.ref a):=bE
theorem AS(a:Addr)(k:Int):(Gk a k).lookup ("at":Str)=some (.int k):=by
 unfold Gk
 rw [af (by decide +kernel),bE]
theorem M9(a:Addr)(k m:Int):bI "at" (.int m) (Gk a k)=Gk a m:=by
 unfold Gk
 rw [au (by decide +kernel),cZ]
theorem pO(a:Addr)(k:Int):(Gk a k).lookup ("read_number":Str)=none:=by
 unfold Gk
 rw [af (by decide +kernel),af (by decide +kernel)];rfl
theorem QS(a:Addr)(k:Int):(Gk a k).lookup ("read_row":Str)=none:=by
 unfold Gk
 rw [af (by decide +kernel),af (by decide +kernel)];rfl
theorem Vm(a:Addr)(k:Int):(Gk a k).lookup ("has_more":Str)=none:=by
 unfold Gk
 rw [af (by decide +kernel),af (by decide +kernel)];rfl
theorem Pz{H:Hp}{a r:Addr}{ns:List Int}(h:Nums K H a r ns):cb K H a (ns.map V.int):=h.elim (fun h=> .inl h.1) fun h=>h H
theorem Nums.mono{H H':Hp}{a r:Addr}{ns:List Int}(h:Nums K H a r ns)(k:∀o,a ≠ r→H a=some o→H' a=some o):Nums K H' a r ns:=
 h.elim (fun h=> .inl ⟨h.1.Vx fun o ho=>k o h.2 ho,h.2⟩) .inr
theorem Sr(xs:List V){i j:Nat}(h:j≤xs.length)(hi:i≤j):jV xs (some (i:Int)) (some (j:Int))= (xs.drop i).take (j - i):=by
 unfold jV
 rw [HT.uQ,HT.uQ,Nat.min_eq_left h,Nat.min_eq_left (by omega)]
theorem kz.move{r a:Addr}{ns:List Int}{k k':Nat}{dx:Addr}(R:kz K t H r a ns k)(h:k'≤ns.length):kz K t (upd H r (.ins t.bq dx (Gk a (k':Int)))) r a ns k':=
 ⟨⟨dx,ao⟩,R.nums.mono fun o hn ho=>ck ho hn,h⟩
theorem yE(h:gm K t vs H Q E):vs.length=2:=by obtain ⟨r,dx,a,rfl,_⟩:=h;rfl
theorem zL(T:cU K t)(h:gm K t vs H Q E):Ce K t (Dn Q) (start sJ vs) H:=by
 obtain ⟨r,dx,a,rfl,hr,q⟩:=h
 have e2:bI "at" (V.int 0) [("numbers",V.ref a)] = ([("numbers",V.ref a),("at",V.int 0)]:List (Str × V)):=cC ["numbers"] rfl (by decide +kernel)
 refine ⟨_,rfl,_,rfl,r,_,dx,_,rfl,hr,T.bM,T.fY,by decide,?_⟩
 refine ⟨_,rfl,r,_,dx,_,rfl,ao,T.bM,T.fD,(show 1 < 1000 by decide),?_⟩
 refine q _ (fun b hb=>?_) (Eq.trans ao (congrArg (fun l=>some (HO.ins t.bq dx l)) e2))
 rw [aL hb,aL hb]
theorem vn(h:d9 K t vs H Q E):vs.length=1:=by obtain ⟨r,a,ns,k,rfl,_⟩:=h;rfl
theorem wJ(T:cU K t)(h:d9 K t vs H Q E):yR K t (Dn Q) (start ow vs) H:=by
 obtain ⟨r,a,ns,k,rfl,R,q⟩:=h
 obtain ⟨dx,ob⟩:=R.ob
 refine ⟨_,rfl,r,_,dx,_,_,rfl,ob,T.bM,T.fD,AS _ _,_,rfl,r,_,dx,_,_,rfl,ob,T.bM,T.fY,tY _ _,a,_,rfl,.inl (Pz R.nums),_,_,rfl,rfl,Qb ?_ q⟩
 rw [List.length_map,Bool.eq_iff_iff,decide_eq_true_eq,decide_eq_true_eq]
 omega
theorem rn(h:aR K t vs H Q E):vs.length=1:=by obtain ⟨r,a,ns,k,v,rfl,_⟩:=h;rfl
theorem sR(T:cU K t)(h:aR K t vs H Q E):tX K t (Dn Q) (start kl vs) H:=by
 obtain ⟨r,a,ns,k,v,rfl,R,hk,q⟩:=h
 obtain ⟨dx,ob⟩:=R.ob
 refine ⟨_,rfl,r,_,dx,_,_,rfl,ob,T.bM,T.fD,AS _ _,_,_,rfl,rfl,dx,_,ob,(show 2 < 1000 by decide),?_⟩
 rw [M9]
 have e:(k:Int)+1= ((k+1:Nat):Int):=by omega
 rw [e]
 have R1:=R.move (dx:=dx) (k':=k+1) (by have:=(List.getElem?_eq_some_iff.mp hk).1;omega)
 obtain ⟨dx1,ob1⟩:=R1.ob
 have hb:∀b,b ≠ r→upd H r (.ins t.bq dx (Gk a ((k+1:Nat):Int))) b=H b:=fun b hb=>aL hb
 generalize upd H r (.ins t.bq dx (Gk a ((k+1:Nat):Int)))=H1 at *
 refine ⟨_,rfl,r,_,dx1,_,_,rfl,ob1,T.bM,T.fY,tY _ _,_,rfl,r,_,dx1,_,_,rfl,ob1,T.bM,T.fD,AS _ _,_,_,rfl,rfl,a,_,_,.int v,rfl,rfl,Pz R1.nums,?_,q H1 hb R1⟩
 have e2:((k+1:Nat):Int) - 1= (k:Int):=by omega
 rw [e2]
 exact RH (by rw [List.getElem?_map,hk];rfl)
theorem vz(h:cA K t vs H Q E):vs.length=1:=by obtain ⟨r,a,ns,k,n,rfl,_⟩:=h;rfl
theorem xb(T:cU K t)(h:cA K t vs H Q E):zt K t (Dn Q) (start oz vs) H:=by
 obtain ⟨r,a,ns,k,n,rfl,R,hk,hn,q⟩:=h
 obtain ⟨dx,ob⟩:=R.ob
 refine ⟨_,rfl,r,dx,_,rfl,ob,pO _ _,r,a,ns,k,_,rfl,R,hk,fun H1 k1 R1=>?_⟩
 obtain ⟨dx1,ob1⟩:=R1.ob
 refine ⟨_,rfl,r,_,dx1,_,_,rfl,ob1,T.bM,T.fD,AS _ _,_,rfl,_,_,rfl,rfl,dx1,_,ob1,(show 2 < 1000 by decide),?_⟩
 rw [M9]
 have e:((k+1:Nat):Int)+ (n:Int)= ((k+1+n:Nat):Int):=by omega
 rw [e]
 have R2:=R1.move (dx:=dx1) (k':=k+1+n) hn
 obtain ⟨dx2,ob2⟩:=R2.ob
 have hb:∀b o,b ≠ r→H b=some o→upd H1 r (.ins t.bq dx1 (Gk a ((k+1+n:Nat):Int))) b=some o:=fun b o hb ho=>ck (by rw [k1 b hb];exact ho) hb
 have Jm:∀b,upd H1 r (.ins t.bq dx1 (Gk a ((k+1+n:Nat):Int))) b=none→H b=none:=fun b h=>by
  by_cases z:b=r
  ·rw [z,ao] at h;cases h
  ·rw [aL z,k1 b z] at h;exact h
 generalize upd H1 r (.ins t.bq dx1 (Gk a ((k+1+n:Nat):Int)))=H2 at *
 refine ⟨_,rfl,r,_,dx2,_,_,rfl,ob2,T.bM,T.fY,tY _ _,_,rfl,r,_,dx2,_,_,rfl,ob2,T.bM,T.fD,AS _ _,_,rfl,_,_,rfl,rfl,_,rfl,_,rfl,r,_,dx2,_,_,rfl,ob2,T.bM,T.fD,AS _ _,_,rfl,a,_,rfl,Pz R2.nums,fun l gl=>?_⟩
 have e2:((k+1+n:Nat):Int) - (n:Int)= ((k+1:Nat):Int):=by omega
 dsimp only
 rw [e2,Sr _ (by rw [List.length_map];exact hn) (by omega),Nat.add_sub_cancel_left,←List.map_drop,←List.map_take]
 have hlr:l ≠ r:=fun z=>by rw [z,ob2] at gl;cases gl
 refine q l _ (fun b o hb' ho=>ck (hb b o hb' ho) (aE (hb b o hb' ho) gl)) (Jm l gl) ao ⟨⟨dx2,ck ob2 (Ne.symm hlr)⟩,R2.nums.mono fun o _ ho=>ck ho (aE ho gl),R2.le⟩
theorem DM(h:j3 K t vs H Q E):vs.length=1:=by obtain ⟨r,a,ns,n,bs,rest,rfl,_⟩:=h;rfl
theorem Fi(T:cU K t)(h:j3 K t vs H Q E):IG K t (Dn Q) (start zf vs) H:=by
 obtain ⟨r,a,ns,n,bs,rest,rfl,R,hns,hby,h8,hl,q1,q2⟩:=h
 obtain ⟨dx,ob⟩:=R.ob
 refine ⟨_,rfl,r,dx,_,rfl,ob,pO _ _,r,a,ns,0,_,rfl,R,by rw [hns];rfl,fun H1 k1 R1=>?_⟩
 obtain ⟨dx1,ob1⟩:=R1.ob
 refine ⟨_,rfl,r,dx1,_,rfl,ob1,pO _ _,r,a,ns,1,_,rfl,R1,by rw [hns];rfl,fun H2 k2 R2=>?_⟩
 obtain ⟨dx2,ob2⟩:=R2.ob
 refine ⟨_,rfl,_,rfl,r,dx2,_,rfl,ob2,QS _ _,r,a,ns,2,bs.length,rfl,R2,by rw [hns];rfl,?_,fun l H3 k3 gl hl3 R3=>?_⟩
 ·rw [hns]
  simp only [List.length_cons,List.length_append,List.length_map]
  omega
 have e:((ns.drop (2+1)).take bs.length).map V.int=bV bs:=by
  rw [hns,yl]
  show ((bs.map (fun (y:Nat)=>(y:Int)) ++ rest).take bs.length).map V.int=_
  rw [List.take_left' (by rw [List.length_map])]
 rw [e] at hl3
 have k03:∀b o,b ≠ r→H b=some o→H3 b=some o:=fun b o hb ho=>k3 b o hb (by rw [k2 b hb,k1 b hb];exact ho)
 obtain ⟨dx3,ob3⟩:=R3.ob
 refine ⟨n,l,bs,rfl,hl3,hby,h8,hl,fun H4 s4 z=>q1 H4 (fun b o hb ho=>s4 _ _ (k03 b o hb ho)) z,fun L p H4 x4 z1 z2 z3 z4 s4 gp N4 fr=>q2 L p H4 x4 z1 z2 z3 z4 (fun b o hb ho=>s4 _ _ (k03 b o hb ho)) ?_ N4 (fun b hb=>?_) ⟨⟨dx3,s4 _ _ ?_⟩,R3.nums.mono fun o _ ho=>s4 _ _ ho,?_⟩⟩
 ·cases hh:H p with
  | none=>rfl
  | some o=>
   by_cases z:p=r
   ·rw [z,ob3] at gp;cases gp
   ·rw [k03 p o z hh] at gp;cases gp
 ·have gb:=fr b hb
  cases hh:H b with
  | none=>rfl
  | some o=>
   by_cases z:b=r
   ·rw [z,ob3] at gb;cases gb
   ·rw [k03 b o z hh] at gb;cases gb
 ·have:3+bs.length=2+1+bs.length:=by omega
  rw [this]
  exact ob3
 ·have:=R3.le
  omega
theorem aN.Vb{H':Hp}{p:Addr}{s:Sa32.St}{x:NF}(N:aN t H p s x)(k:∀b o,H b=some o→((∀C dx fs,o ≠ .ins C dx fs)∨x.F p b)→H' b=some o):aN t H' p s x:=by
 obtain ⟨dx,ob⟩:=N.ob
 obtain ⟨ts,r1,r2⟩:=N.row
 obtain ⟨ks,k1,k2⟩:=N.kept
 obtain ⟨bs,b1,b2,b3⟩:=N.table
 have nl:∀{b xs},H b=some (.lst xs)→H' b=some (.lst xs):=fun h=>k _ _ h (.inl fun _ _ _ z=>by cases z)
 exact ⟨⟨dx,k _ _ ob (.inr (x.L6 p))⟩,N.number,N.now,N.state,N.beat,
  ⟨ts,nl r1,Paired.imp' (fun a f ⟨d,h1,h2,h3⟩=>⟨d,k _ _ h1 (.inl fun _ _ _ z=>by cases z),nl h2,h3⟩) r2⟩,N.ents.mono (fun b o hb h=>k b o h (.inr (by
   rcases hb with rfl | ⟨kk,hb⟩
   ·exact x.OA p
   ·exact x.P9 p hb))),
  ⟨ks,nl k1,Paired.imp' (fun v o h=>by
   cases o with
   | none=>exact h
   | some b=>obtain ⟨a,h1,h2,h3⟩:=h;exact ⟨a,h1,nl h2,h3⟩) k2⟩,
  nl N.chg,nl N.heard,nl N.sent,N.marks,N.work,N.hand.mono (fun b o hb h=>k b o h (.inr (x.Sf p hb))),⟨bs,nl b1,b2,b3⟩,N.nd⟩
theorem Ah.read{p:Addr}{s:Sa32.St}{x:NF}{r a:Addr}{ns:List Int}{k k':Nat}{H1:Hp}(B:Ah K t H p s x r a ns k)(kp:∀b o,b ≠ r→H b=some o→H1 b=some o)(R1:kz K t H1 r a ns k'):Ah K t H1 p s x r a ns k':=by
 obtain ⟨dx,ob⟩:=B.EV.ob
 refine ⟨⟨B.node.rep.Vb fun b o ho hb=>kp b o (fun z=>?_) ho,B.node.wf⟩,R1,B.VG,B.V6⟩
 rcases hb with hb | hb
 ·rw [z,ob] at ho
  exact hb _ _ _ (Option.some.inj ho).symm
 ·exact B.VG (z ▸ hb)
theorem Ah.sQ{p:Addr}{s s':Sa32.St}{x:NF}{r a:Addr}{ns:List Int}{k k':Nat}{H1:Hp}{sQ:List Int}(B:Ah K t H p s x r a ns k)(kp:∀b o,b ≠ r→H b=some o→H1 b=some o)(R1:kz K t H1 r a ns k')(q:vU K t H p x r a ns k' s' sQ Q):Ii t H1 p x s' sQ Q:=by
 intro l H' x' N' kk gl hl hF
 obtain ⟨dx1,ob1⟩:=R1.ob
 have Jm:∀b,H1 b=none→H b=none:=fun b hb=>by
  cases hh:H b with
  | none=>rfl
  | some o=>
   by_cases z:b=r
   ·rw [z,ob1] at hb;cases hb
   ·rw [kp b o z hh] at hb;cases hb
 have rF:¬x'.F p r:=fun z=>(kk.foot r z).elim B.VG fun z=>by rw [ob1] at z;cases z
 refine q l H' x' N' ⟨fun b o hb hn=>kk.old b o (kp b o (fun z=>hn (.inr z)) hb) fun z=>hn (.inl z),fun b hb=>?_,fun b hb=>Jm b (kk.Jm b hb)⟩ ⟨⟨dx1,kk.old _ _ ob1 B.VG⟩,B.V6.elim .inr fun hF=>R1.nums.mono fun o _ ho=>kk.old _ _ ho hF,R1.le⟩ rF (Jm l gl) hl hF
 rcases hb with hb | hb
 ·rcases kk.foot b hb with z | z
  ·exact .inl (.inl z)
  ·exact .inr (Jm b z)
 ·exact .inl (.inr hb)
theorem et{ns:List Int}{k:Nat}{v:Int}{l:List Int}(h:ns.drop k=v::l):ns[k]? = some v∧ns.drop (k+1)=l:=by
 have h1:ns[k]? = (ns.drop k)[0]? :=by rw [List.getElem?_drop];rfl
 rw [h] at h1
 refine ⟨h1,?_⟩
 rw [←List.drop_drop,h]
 rfl
theorem Et{ns:List Int}{k:Nat}{l:List Int}(h:ns.drop k=l)(hk:k≤ns.length):k+l.length=ns.length:=by
 rw [←h,List.length_drop]
 omega
theorem Lm{H H1:Hp}{r:Addr}(h:∀b,b ≠ r→H1 b=H b):∀b o,b ≠ r→H b=some o→H1 b=some o:=fun b o hb ho=>by rw [h b hb];exact ho
theorem Fo(h:fV K t vs H Q E):vs.length=2:=by obtain ⟨p,s,x,r,a,ns,k,rfl,_⟩:=h;rfl
theorem IP(T:cU K t)(h:fV K t vs H Q E):KA K t (Dn Q) (start Bd vs) H:=by
 obtain ⟨p,s,x,r,a,ns,k,rfl,B,q⟩:=h
 exact ⟨_,rfl,p,s,x,rfl,B.node,B.sQ (fun _ _ _ h=>h) B.EV q⟩
theorem Di(h:eK K t vs H Q E):vs.length=2:=by obtain ⟨p,s,x,r,a,ns,k,rfl,_⟩:=h;rfl
theorem FA(T:cU K t)(h:eK K t vs H Q E):Je K t (Dn Q) (start zu vs) H:=by
 obtain ⟨p,s,x,r,a,ns,k,rfl,B,q⟩:=h
 exact ⟨_,rfl,p,s,x,rfl,B.node,B.sQ (fun _ _ _ h=>h) B.EV q⟩
theorem FE(h:gx K t vs H Q E):vs.length=2:=by obtain ⟨p,s,x,r,a,ns,k,now,rest,rfl,_⟩:=h;rfl
theorem HL(T:cU K t)(h:gx K t vs H Q E):JP K t (Dn Q) (start Bo vs) H:=by
 obtain ⟨p,s,x,r,a,ns,k,now,rest,rfl,B,hd,q⟩:=h
 obtain ⟨dx,ob⟩:=B.EV.ob
 obtain ⟨g1,_⟩:=et hd
 refine ⟨_,rfl,_,rfl,r,dx,_,rfl,ob,pO _ _,r,a,ns,k,_,rfl,B.EV,g1,fun H1 k1 R1=>?_⟩
 exact ⟨p,s,x,now,rfl,(B.read (Lm k1) R1).node,B.sQ (Lm k1) R1 q⟩
theorem IH(h:iN K t vs H Q E):vs.length=2:=by obtain ⟨p,s,x,r,a,ns,k,i,u,rest,rfl,_⟩:=h;rfl
theorem Kd(T:cU K t)(h:iN K t vs H Q E):LP K t (Dn Q) (start EF vs) H:=by
 obtain ⟨p,s,x,r,a,ns,k,i,u,rest,rfl,B,hd,q⟩:=h
 obtain ⟨dx,ob⟩:=B.EV.ob
 obtain ⟨g1,hd1⟩:=et hd
 obtain ⟨g2,_⟩:=et hd1
 refine ⟨_,rfl,r,dx,_,rfl,ob,pO _ _,r,a,ns,k,_,rfl,B.EV,g1,fun H1 k1 R1=>?_⟩
 obtain ⟨dx1,ob1⟩:=R1.ob
 refine ⟨_,rfl,_,rfl,_,rfl,r,dx1,_,rfl,ob1,pO _ _,r,a,ns,k+1,_,rfl,R1,g2,fun H2 k2 R2=>?_⟩
 have kk:∀b o,b ≠ r→H b=some o→H2 b=some o:=fun b o hb ho=>Lm k2 b o hb (Lm k1 b o hb ho)
 exact ⟨p,s,x,i,u,rfl,(B.read kk R2).node,B.sQ kk R2 q⟩
theorem DJ(h:eM K t vs H Q E):vs.length=2:=by obtain ⟨p,s,x,r,a,ns,k,i,u,rest,rfl,_⟩:=h;rfl
theorem Fu(T:cU K t)(h:eM K t vs H Q E):IZ K t (Dn Q) (start yV vs) H:=by
 obtain ⟨p,s,x,r,a,ns,k,i,u,rest,rfl,B,hd,q⟩:=h
 obtain ⟨dx,ob⟩:=B.EV.ob
 obtain ⟨g1,hd1⟩:=et hd
 obtain ⟨g2,_⟩:=et hd1
 refine ⟨_,rfl,r,dx,_,rfl,ob,pO _ _,r,a,ns,k,_,rfl,B.EV,g1,fun H1 k1 R1=>?_⟩
 obtain ⟨dx1,ob1⟩:=R1.ob
 refine ⟨_,rfl,_,rfl,_,rfl,r,dx1,_,rfl,ob1,pO _ _,r,a,ns,k+1,_,rfl,R1,g2,fun H2 k2 R2=>?_⟩
 have kk:∀b o,b ≠ r→H b=some o→H2 b=some o:=fun b o hb ho=>Lm k2 b o hb (Lm k1 b o hb ho)
 exact ⟨p,s,x,i,u,rfl,(B.read kk R2).node,B.sQ kk R2 q⟩
theorem Pw{ns:List Int}{k:Nat}{b:List Nat}{rest:List Int}(h:ns.drop k=b.map (fun (y:Nat)=>(y:Int)) ++ rest):((ns.drop k).take b.length).map V.int=bV b:=by
 rw [h,List.take_left' (by rw [List.length_map]),yl]
theorem D6(h:eI K t vs H Q E):vs.length=2:=by obtain ⟨p,s,x,r,a,ns,k,id,now,b,rest,rfl,_⟩:=h;rfl
theorem E5(T:cU K t)(h:eI K t vs H Q E):IL K t (Dn Q) (start xN vs) H:=by
 obtain ⟨p,s,x,r,a,ns,k,id,now,b,rest,rfl,B,hd,hby,q⟩:=h
 obtain ⟨dx,ob⟩:=B.EV.ob
 have hlen:=Et hd B.EV.le
 obtain ⟨g1,hd1⟩:=et hd
 obtain ⟨g2,hd2⟩:=et hd1
 obtain ⟨g3,hd3⟩:=et hd2
 simp only [List.length_cons,List.length_append,List.length_map] at hlen
 refine ⟨_,rfl,r,dx,_,rfl,ob,pO _ _,r,a,ns,k,_,rfl,B.EV,g1,fun H1 k1 R1=>?_⟩
 obtain ⟨dx1,ob1⟩:=R1.ob
 refine ⟨_,rfl,r,dx1,_,rfl,ob1,pO _ _,r,a,ns,k+1,_,rfl,R1,g2,fun H2 k2 R2=>?_⟩
 obtain ⟨dx2,ob2⟩:=R2.ob
 refine ⟨_,rfl,_,rfl,_,rfl,_,rfl,r,dx2,_,rfl,ob2,QS _ _,r,a,ns,k+1+1,b.length,rfl,R2,g3,by omega,fun l H3 k3 gl hl3 R3=>?_⟩
 rw [Pw hd3] at hl3
 have kk:∀b o,b ≠ r→H b=some o→H3 b=some o:=fun b o hb ho=>k3 b o hb (Lm k2 b o hb (Lm k1 b o hb ho))
 have e:k+1+1+1+b.length=k+3+b.length:=by omega
 rw [e] at R3
 have B2:=B.read (fun b o hb ho=>Lm k2 b o hb (Lm k1 b o hb ho)) R2
 exact ⟨p,s,x,l,b,id,now,rfl,(B.read kk R3).node,hl3,hby,B2.node.rep.mz gl,B.sQ kk R3 q⟩
theorem Ho(h:iP K t vs H Q E):vs.length=2:=by obtain ⟨p,s,x,r,a,ns,k,i,u,b,rest,rfl,_⟩:=h;rfl
theorem JQ(T:cU K t)(h:iP K t vs H Q E):Mq K t (Dn Q) (start Dl vs) H:=by
 obtain ⟨p,s,x,r,a,ns,k,i,u,b,rest,rfl,B,hd,hby,q⟩:=h
 obtain ⟨dx,ob⟩:=B.EV.ob
 have hlen:=Et hd B.EV.le
 obtain ⟨g1,hd1⟩:=et hd
 obtain ⟨g2,hd2⟩:=et hd1
 obtain ⟨g3,hd3⟩:=et hd2
 simp only [List.length_cons,List.length_append,List.length_map] at hlen
 refine ⟨_,rfl,r,dx,_,rfl,ob,pO _ _,r,a,ns,k,_,rfl,B.EV,g1,fun H1 k1 R1=>?_⟩
 obtain ⟨dx1,ob1⟩:=R1.ob
 refine ⟨_,rfl,r,dx1,_,rfl,ob1,pO _ _,r,a,ns,k+1,_,rfl,R1,g2,fun H2 k2 R2=>?_⟩
 obtain ⟨dx2,ob2⟩:=R2.ob
 refine ⟨_,rfl,_,rfl,_,rfl,_,rfl,r,dx2,_,rfl,ob2,QS _ _,r,a,ns,k+1+1,b.length,rfl,R2,g3,by omega,fun l H3 k3 gl hl3 R3=>?_⟩
 rw [Pw hd3] at hl3
 have kk:∀b o,b ≠ r→H b=some o→H3 b=some o:=fun b o hb ho=>k3 b o hb (Lm k2 b o hb (Lm k1 b o hb ho))
 have e:k+1+1+1+b.length=k+3+b.length:=by omega
 rw [e] at R3
 have B2:=B.read (fun b o hb ho=>Lm k2 b o hb (Lm k1 b o hb ho)) R2
 exact ⟨p,s,x,l,b,i,u,rfl,(B.read kk R3).node,hl3,hby,B2.node.rep.mz gl,B.sQ kk R3 q⟩
end
end Fn
namespace Fn
open PySem L2
section
theorem Px(c:List (List Int)):PySa32.whole c=c:=by
 unfold PySa32.whole
 split <;> rfl
theorem Qj{l x s:List Int}(h:PyFlat.row l=some (x,s)):l= (x.length:Int)::(x ++ s):=by
 match l,h with
 | n::r,h=>
  unfold PyFlat.row at h
  simp only at h
  by_cases z:0≤n∧n.toNat≤r.length
  ·rw [if_pos z] at h
   cases h
   have e:((r.take n.toNat).length:Int)=n:=by rw [List.length_take];omega
   rw [e,List.take_append_drop]
  ·rw [if_neg z] at h
   cases h
theorem FV:∀{k:Nat}{l:List Int}{xs:List (List Int)}{s:List Int},PyFlat.rows k l=some (xs,s)→l= (xs.flatMap fun x=>(x.length:Int)::x) ++ s
 | 0,l,xs,s,h=>by
  unfold PyFlat.rows at h
  cases h
  rfl
 | k+1,l,xs,s,h=>by
  unfold PyFlat.rows at h
  cases h1:PyFlat.row l with
  | none=>rw [h1] at h;cases h
  | some p=>
   obtain ⟨x,s1⟩:=p
   rw [h1] at h
   simp only at h
   cases h2:PyFlat.rows k s1 with
   | none=>rw [h2] at h;cases h
   | some p2=>
    obtain ⟨ys,s2⟩:=p2
    rw [h2] at h
    cases h
    rw [Qj h1,FV h2]
    simp
theorem Gp{shape:Int→Option (Nat × Nat)}{l:List Int}{c:List (List Int)}{s:List Int}(h:PyFlat.call shape l=some (c,s)):∃p r xs,c= (p::r)::xs∧l=p::(r ++ (xs.flatMap fun x=>(x.length:Int)::x) ++ s):=by
 match l,h with
 | p::r,h=>
  unfold PyFlat.call at h
  simp only at h
  cases h1:shape p with
  | none=>rw [h1] at h;cases h
  | some nk=>
   obtain ⟨n,k⟩:=nk
   rw [h1] at h
   simp only at h
   split at h
   ·cases h
   ·cases h2:PyFlat.rows k (r.drop n) with
    | none=>rw [h2] at h;cases h
    | some p2=>
     obtain ⟨xs,s2⟩:=p2
     rw [h2] at h
     cases h
     refine ⟨p,r.take n,xs,rfl,?_⟩
     rw [List.append_assoc,←FV h2,List.take_append_drop]
theorem w9{shape:Int→Option (Nat × Nat)}{f:Nat}{l:List Int}{cs:List (List (List Int))}(h:PyFlat.calls shape f l=some cs):(l = []∧cs = [])∨∃f' c s cs',PyFlat.call shape l=some (c,s)∧PyFlat.calls shape f' s=some cs'∧cs=c::cs':=by
 match f,l,h with
 | _,[],h=>exact .inl ⟨rfl,by unfold PyFlat.calls at h;cases h;rfl⟩
 | 0,_::_,h=>cases h
 | f+1,p::r,h=>
  right
  unfold PyFlat.calls at h
  cases h1:PyFlat.call shape (p::r) with
  | none=>rw [h1] at h;cases h
  | some cs0=>
   obtain ⟨c,s⟩:=cs0
   rw [h1] at h
   simp only at h
   cases h2:PyFlat.calls shape f s with
   | none=>rw [h2] at h;cases h
   | some cs'=>
    rw [h2] at h
    cases h
    exact ⟨f,c,s,cs',rfl,h2,rfl⟩
theorem xj{d:List Int}(h:Sa32Neutral.bytes d=true):d= (Sa32Neutral.nats d).map (fun (y:Nat)=>(y:Int))∧ft (Sa32Neutral.nats d):=by
 unfold Sa32Neutral.bytes at h
 rw [List.all_eq_true] at h
 have f:∀x,x ∈ d→0≤x∧x≤255:=fun x hx=>by
  have:=h x hx
  rw [Bool.and_eq_true,decide_eq_true_eq,decide_eq_true_eq] at this
  exact this
 constructor
 ·unfold Sa32Neutral.nats
  rw [List.map_map]
  conv=>lhs;rw [←List.map_id d]
  refine List.map_congr_left fun x hx=>?_
  have:=f x hx
  show x= ((x.toNat:Nat):Int)
  omega
 ·intro y hy
  unfold Sa32Neutral.nats at hy
  obtain ⟨x,hx,rfl⟩:=List.mem_map.mp hy
  have:=f x hx
  omega
theorem tq(d:List Int):(Sa32Neutral.nats d).length=d.length:=List.length_map _
theorem JR{c:List (List Int)}(h:Sa32Neutral.askedOne c=true):
  (∃id now d,c = [[1,id,now],d]∧0≤now∧Sa32Neutral.bytes d=true)∨(∃now,c = [[2,now]]∧0≤now)∨c = [[3]]∨(∃i u,c = [[4,i,u]])∨(∃i u d,c = [[5,i,u],d]∧Sa32Neutral.bytes d=true)∨(∃x b,c = [[6,x,b]])∨c = [[7]]:=by
 unfold Sa32Neutral.askedOne at h
 split at h
 ·rw [Bool.and_eq_true,Bool.and_eq_true] at h
  unfold Sa32Neutral.unsigned at h
  rw [Bool.and_eq_true,decide_eq_true_eq] at h
  exact .inl ⟨_,_,_,rfl,h.2.1.1,h.2.2⟩
 ·unfold Sa32Neutral.unsigned at h
  rw [Bool.and_eq_true,decide_eq_true_eq] at h
  exact .inr (.inl ⟨_,rfl,h.1⟩)
 ·exact .inr (.inr (.inl rfl))
 ·exact .inr (.inr (.inr (.inl ⟨_,_,rfl⟩)))
 ·rw [Bool.and_eq_true,Bool.and_eq_true] at h
  exact .inr (.inr (.inr (.inr (.inl ⟨_,_,_,rfl,h.2.2⟩))))
 ·exact .inr (.inr (.inr (.inr (.inr (.inl ⟨_,_,rfl⟩)))))
 ·exact .inr (.inr (.inr (.inr (.inr (.inr rfl)))))
 ·cases h
theorem OR(s:Sa32.St)(id now:Int)(d:List Int):Sa32Neutral.step (some s) [[1,id,now],d] = ((Sa32.step (some s) (.frame id (Sa32Neutral.nats d) (d.length:Int) now.toNat)).1,[(Sa32.step (some s) (.frame id (Sa32Neutral.nats d) (d.length:Int) now.toNat)).2.v]):=by
 show ((Sa32.step (some s) (.frame id (Sa32Neutral.nats d) ((d.length:Nat):Int) now.toNat)).1,(Sa32.step (some s) (.frame id (Sa32Neutral.nats d) ((d.length:Nat):Int) now.toNat)).2.v::(if (Sa32.step (some s) (.frame id (Sa32Neutral.nats d) ((d.length:Nat):Int) now.toNat)).2.v < 0 then [] else []))=_
 split <;> rfl
theorem Pl(s:Sa32.St)(now:Int):Sa32Neutral.step (some s) [[2,now]] = (some (s.at_ now.toNat).close,[0]):=rfl
theorem Om(s:Sa32.St)(c b:Int):Sa32Neutral.step (some s) [[6,c,b]] = ((Sa32.step (some s) (.fault c b)).1,[(Sa32.step (some s) (.fault c b)).2.v]):=by
 show ((Sa32.step (some s) (.fault c b)).1,(Sa32.step (some s) (.fault c b)).2.v::(if (Sa32.step (some s) (.fault c b)).2.v < 0 then [] else []))=_
 split <;> rfl
theorem RP(s:Sa32.St)(i u:Int)(d:List Int):Sa32Neutral.step (some s) [[5,i,u],d] = ((Sa32.step (some s) (.set i u (Sa32Neutral.nats d) (d.length:Int))).1,[(Sa32.step (some s) (.set i u (Sa32Neutral.nats d) (d.length:Int))).2.v]):=by
 show ((Sa32.step (some s) (.set i u (Sa32Neutral.nats d) ((d.length:Nat):Int))).1,(Sa32.step (some s) (.set i u (Sa32Neutral.nats d) ((d.length:Nat):Int))).2.v::(if (Sa32.step (some s) (.set i u (Sa32Neutral.nats d) ((d.length:Nat):Int))).2.v < 0 then [] else []))=_
 split <;> rfl
theorem OV(s:Sa32.St):Sa32Neutral.step (some s) [[7]] = (some s,[(s.state:Int)]):=by
 show (some s,(s.state:Int)::(if (s.state:Int) < 0 then [] else []))=_
 split <;> rfl
theorem QV(s:Sa32.St):Sa32Neutral.step (some s) [[3]] = (some (cn s .take),CO s):=by
 have h:=step_take s
 show ((Sa32.step (some s) .take).1,(Sa32.step (some s) .take).2.v::(if (Sa32.step (some s) .take).2.v < 0 then [] else ((Sa32.step (some s) .take).2.id:Int)::Sa32Neutral.ints (Sa32.step (some s) .take).2.b))=_
 unfold CO
 cases ho:s.out with
 | nil=>
  rw [ho] at h
  rw [(c8 h).1,h]
  rfl
 | cons f r=>
  rw [ho] at h
  rw [(c8 h).1,h]
  show (some _,(f.2.length:Int)::(if (f.2.length:Int) < 0 then _ else _))=_
  rw [if_neg (by omega)]
  rfl
theorem step_get(s:Sa32.St)(i u:Int):Sa32.step (some s) (.get i u)=match (if i < 0∨u < 0 then none else s.ent i.toNat u.toNat) with
  | some e=>(some s,⟨e.val.length,0,Sa32.padded 8 e.val⟩)
  | none=>(some s,Sa32.ok (-1)):=rfl
theorem RC(s:Sa32.St)(i u:Int):Sa32Neutral.step (some s) [[4,i,u]] = (some s,MD s i u):=by
 have h:=step_get s i u
 show ((Sa32.step (some s) (.get i u)).1,(Sa32.step (some s) (.get i u)).2.v::(if (Sa32.step (some s) (.get i u)).2.v < 0 then [] else Sa32Neutral.ints (Sa32.step (some s) (.get i u)).2.b))=_
 unfold MD
 cases ho:(if i < 0∨u < 0 then none else s.ent i.toNat u.toNat) with
 | none=>
  rw [ho] at h
  rw [h]
  rfl
 | some e=>
  rw [ho] at h
  rw [h]
  show (some s,(e.val.length:Int)::(if (e.val.length:Int) < 0 then _ else _))=_
  rw [if_neg (by omega)]
  rfl
theorem Ox(s:Sa32.St)(c:Sa32.Call)(hc:∀n b k,c ≠ .begin_ n b k):∃s',(Sa32.step (some s) c).1=some s':=by
 cases c with
 | begin_ n b k=>exact absurd rfl (hc n b k)
 | frame id d n now=>rw [step_frame];split <;> exact ⟨_,rfl⟩
 | tick now=>exact ⟨_,rfl⟩
 | take=>rw [step_take];split <;> exact ⟨_,rfl⟩
 | get i u=>rw [step_get];split <;> exact ⟨_,rfl⟩
 | set i u b n=>
  rw [zj]
  split
  ·split <;> exact ⟨_,rfl⟩
  ·exact ⟨_,rfl⟩
 | fault c b=>rw [xh];split <;> exact ⟨_,rfl⟩
 | state=>exact ⟨_,rfl⟩
theorem Ik(s:Sa32.St)(c:Sa32.Call)(hc:∀n b k,c ≠ .begin_ n b k):(Sa32.step (some s) c).1=some (cn s c):=by
 obtain ⟨s',h⟩:=Ox s c hc
 unfold cn
 rw [h]
 rfl
theorem WF.yz{s:Sa32.St}(w:WF s){id:Int}{b:List Nat}{now:Nat}(hb:ft b):WF (cn s (.frame id b (b.length:Int) now)):=by
 have h:=step_frame s id b (b.length:Int) now
 by_cases z:Sa32.within id 0 0x7FF=false∨Sa32.within (b.length:Int) 0 8=false
 ·rw [if_pos z] at h
  rw [(c8 h).1]
  exact w
 ·rw [if_neg z] at h
  rw [(c8 h).1]
  have:b.length≤8:=Decidable.byContradiction fun q=>z (.inr (pL.mpr (.inr (by omega))))
  exact (w.yy.frame hb this).close
theorem WF.Jg{s:Sa32.St}(w:WF s){i u:Int}{b:List Nat}(hb:ft b):WF (cn s (.set i u b (b.length:Int))):=by
 have h:=zj s i u b (b.length:Int)
 cases z:(if i < 0∨u < 0 then none else s.table.find? fun e=>e.index == i.toNat && e.sub == u.toNat) with
 | none=>
  rw [z] at h
  rw [(c8 h).1]
  exact w
 | some e=>
  rw [z] at h
  simp only at h
  by_cases z2:((b.length:Nat):Int) ≠ (e.val.length:Int)
  ·rw [if_pos z2] at h
   rw [(c8 h).1]
   exact w
  ·rw [if_neg z2] at h
   rw [(c8 h).1]
   by_cases zz:i < 0∨u < 0
   ·rw [if_pos zz] at z;cases z
   ·rw [if_neg zz] at z
    have hm:=List.mem_of_find?_eq_some z
    have hk:=(sY (i:=i.toNat) (u:=u.toNat) (e:=e)).mp (List.find?_some z)
    have he:s.ent i.toNat u.toNat=some e:=by
     rw [←hk.1,←hk.2]
     exact w.S5 (List.mem_append_left _ hm)
    have pk:lg s i.toNat u.toNat b:=lg.free hb (by rw [show b.length=e.val.length by omega];exact w.mS he) (.inl (by have:=(w.tab e hm).1;omega))
    exact (w.put pk).GD
theorem WF.zo{s:Sa32.St}(w:WF s){c b:Int}:WF (cn s (.fault c b)):=by
 have h:=xh s c b
 by_cases z:Sa32.within c 0 0xFFFF=false∨Sa32.within b 0 7=false
 ·rw [if_pos z] at h
  rw [(c8 h).1]
  exact w
 ·rw [if_neg z] at h
  rw [(c8 h).1]
  refine w.fault ?_
  have:¬Sa32.within b 0 7=false:=fun q=>z (.inr q)
  rw [pL] at this
  omega
theorem WF.Cn{s:Sa32.St}(w:WF s):WF (cn s .take):=by
 have h:=step_take s
 cases ho:s.out with
 | nil=>
  rw [ho] at h
  rw [(c8 h).1]
  exact w
 | cons f r=>
  rw [ho] at h
  rw [(c8 h).1]
  refine w.JF ?_ fun f hf=>w.AJ f (by rw [ho];exact List.mem_cons_of_mem _ hf)
  have:=w.out
  rw [ho,List.length_cons] at this
  omega
theorem O2{s:Sa32.St}:(CO s).length≤10:=by
 unfold CO
 split
 ·decide
 ·simp only [List.length_cons,List.length_map]
  unfold Sa32.padded
  rw [List.length_take]
  omega
theorem Rt{s:Sa32.St}{i u:Int}:(MD s i u).length≤10:=by
 unfold MD
 split
 ·simp only [List.length_cons,List.length_map]
  unfold Sa32.padded
  rw [List.length_take]
  omega
 ·decide
theorem P8{bs:List Nat}{m:Nat}{l:List Sa32.Ent}(hb:ft bs)(h:Sa32.tableOf bs m=some l):(l.map pl).Nodup:=by
 obtain ⟨t1,t2⟩:=jB hb m
 have good:=t2 l h
 obtain ⟨l',h1,h2,h3⟩:=t1 good
 rw [h] at h1
 cases h1
 have up:∀n j,j+n+1 < m→vt (b8 bs j) < vt (b8 bs (j+n+1)):=by
  intro n
  induction n with
  | zero=>intro j hj;exact good.2 j hj
  | succ n ih=>intro j hj;exact Int.lt_trans (ih j (by omega)) (good.2 (j+n+1) hj)
 rw [List.nodup_iff_pairwise_ne,List.pairwise_iff_getElem]
 intro i j hi hj hij
 rw [List.length_map] at hi hj
 obtain ⟨e1,a1,a2⟩:=h3 i (by omega)
 obtain ⟨e2,b1,b2⟩:=h3 j (by omega)
 rw [List.getElem_map,List.getElem_map,(List.getElem?_eq_some_iff.mp a2).2,(List.getElem?_eq_some_iff.mp b2).2]
 intro z
 have z1:e1.index=e2.index:=congrArg Prod.fst z
 have z2:e1.sub=e2.sub:=congrArg Prod.snd z
 obtain ⟨_,p1,p2,_⟩:=gP a1
 obtain ⟨_,r1,r2,_⟩:=gP b1
 have:=up (j - i - 1) i (by omega)
 rw [show i+ (j - i - 1)+1=j by omega] at this
 unfold vt at this
 rw [←p1,←p2,←r1,←r2,z1,z2] at this
 omega
theorem WF.begun{bs:List Nat}{m n:Nat}{l:List Sa32.Ent}(hb:ft bs)(h:Sa32.tableOf bs m=some l)(h1:1≤n)(h2:n≤127):WF (Sa32.begun n l):=by
 refine WF.DN ⟨h1,h2⟩ (fun e he=>?_) (P8 hb h) (fun e he=>?_) (Nat.zero_le _) (fun f hf=>(nomatch hf))
 all_goals
  have he:e ∈ l:=he
  obtain ⟨t1,t2⟩:=jB hb m
  obtain ⟨l',q1,q2,q3⟩:=t1 (t2 l h)
  rw [h] at q1
  cases q1
  obtain ⟨j,hj⟩:=List.mem_iff_getElem?.mp he
  obtain ⟨e',h4,h5⟩:=q3 j (by rw [←q2];exact (List.getElem?_eq_some_iff.mp hj).1)
  rw [hj] at h5
  cases h5
  obtain ⟨ok,p1,p2,_,_,_,p6⟩:=gP h4
 ·have hz:e.val.length= (b8 bs j).getD 3 0:=by rw [p6];simp [Sa32.zeros]
  exact ⟨by rw [p1];exact ok.1.1,by rw [p1];exact ok.1.2,by rw [p2];exact km (ny hb j) 2,by rw [hz];exact ok.2.1⟩
 ·rw [p6]
  exact uM _
end
end Fn
namespace Fn
open PySem L2
section
variable{K:PySem.W.Frag}{t:bh}{vs:List V}{H:Hp}{Q:VK}{E:XK}
def wI(K:PySem.W.Frag)(t:bh):Sp:=fun vs H Q _=>∃a ns,vs = [.ref a]∧cb K H a (ns.map V.int)∧ns.length≤30000∧PySa32.answers_asked ns=true∧∀l H',aP H H'→H l=none→H' l=some (.lst ((PySa32.answers ns).map V.int))→Q (.ref l) H'
theorem JB(h:wI K t vs H Q E):vs.length=1:=by obtain ⟨a,ns,rfl,_⟩:=h;rfl
theorem O3(x:List Int)(l:List (List Int)):PyFlat.told (x::l)= (x.length:Int)::(x ++ PyFlat.told l):=rfl
theorem tU{S:Type}(step:S→List (List Int)→S × List Int)(s:S)(c:List (List Int))(r:List (List (List Int))):PyFlat.played step s (c::r)= (step s c).2::PyFlat.played step (step s c).1 r:=rfl
theorem aN.U6{H':Hp}{p:Addr}{s:Sa32.St}{x:NF}(N:aN t H p s x)(k:∀b o,H b=some o→(∀o' u,o ≠ .pV o' u)→H' b=some o):aN t H' p s x:=by
 obtain ⟨dx,ob⟩:=N.ob
 obtain ⟨ts,r1,r2⟩:=N.row
 obtain ⟨ks,k1,k2⟩:=N.kept
 obtain ⟨bs,b1,b2,b3⟩:=N.table
 have nl:∀{b xs},H b=some (.lst xs)→H' b=some (.lst xs):=fun h=>k _ _ h fun _ _ z=>(by cases z)
 exact ⟨⟨dx,k _ _ ob fun _ _ z=>(by cases z)⟩,N.number,N.now,N.state,N.beat,
  ⟨ts,nl r1,Paired.imp' (fun a f ⟨d,h1,h2,h3⟩=>⟨d,k _ _ h1 fun _ _ z=>(by cases z),nl h2,h3⟩) r2⟩,
  ⟨k _ _ N.ents.dict fun _ _ z=>(by cases z),fun e he=>by
   obtain ⟨a,h1,dx,h2⟩:=N.ents.look e he
   exact ⟨a,h1,dx,k _ _ h2 fun _ _ z=>(by cases z)⟩,N.ents.only,N.ents.inj,N.ents.len⟩,
  ⟨ks,nl k1,Paired.imp' (fun v o h=>by
   cases o with
   | none=>exact h
   | some b=>obtain ⟨a,h1,h2,h3⟩:=h;exact ⟨a,h1,nl h2,h3⟩) k2⟩,
  nl N.chg,nl N.heard,nl N.sent,N.marks,N.work,N.hand.mono (fun b o hb h=>k b o h fun o' u z=>by
   rcases N.hand.alloc b hb with ⟨dx',fs,h5,_⟩ | ⟨xs,h5⟩
   ·rw [h5,z] at h;cases h
   ·rw [h5,z] at h;cases h),⟨bs,nl b1,b2,b3⟩,N.nd⟩
theorem aN.PQ{p:Addr}{s:Sa32.St}{x:NF}(N:aN t H p s x){b:Addr}{o':Obj}{u:HO}(hb:H b=some (.pV o' u)):¬x.F p b:=by
 intro h
 obtain ⟨dp,h2⟩:=N.ob
 obtain ⟨ts,h3,_⟩:=N.row
 obtain ⟨ks,h4,_⟩:=N.kept
 rcases h with h | ⟨k,h⟩ | h
 ·simp only [List.mem_cons,List.not_mem_nil,or_false] at h
  rcases h with rfl | rfl | rfl | rfl | rfl | rfl | rfl
  ·rw [h2] at hb;cases hb
  ·rw [h3] at hb;cases hb
  ·rw [N.ents.dict] at hb;cases hb
  ·rw [h4] at hb;cases hb
  ·rw [N.chg] at hb;cases hb
  ·rw [N.heard] at hb;cases hb
  ·rw [N.sent] at hb;cases hb
 ·obtain ⟨e,he,rfl,dx,h1⟩:=N.ents.zX h
  rw [h1] at hb;cases hb
 ·rcases N.hand.alloc b h with ⟨dx',fs,h5,h6⟩ | ⟨xs,h5⟩
  ·rw [h5] at hb;cases hb
  ·rw [h5] at hb;cases hb
structure Turn(K:PySem.W.Frag)(t:bh)(H0 H:Hp)(p r a g:Addr)(x:NF)(s:Sa32.St)(ns:List Int)(k:Nat)(out:List Int):Prop where
 both:∀od,Ah K t (upd H g (.pV od (.lst (out.map V.int)))) p s x r a ns k
 Wv:H g=some (.lst (out.map V.int))
 UH:g ≠ r
 V9:(∀H',cb K H' a (ns.map V.int))∨a ≠ g
 same:aP H0 H
 fr:∀b,x.F p b∨b=r∨b=g→H0 b=none
 Wz:∃f cs,PyFlat.calls PySa32.shape f (ns.drop k)=some cs∧(∀c,c ∈ cs→Sa32Neutral.askedOne c=true)∧out ++ PyFlat.told (PyFlat.played Sa32Neutral.step (some s) cs)=PySa32.answers ns∧out.length+11 * cs.length≤20000
theorem Q7{H0:Hp}{p r a g:Addr}{x:NF}{s s':Sa32.St}{ns:List Int}{k k':Nat}{out sQ:List Int}{D:Ends}{y:Option V}{H1:Hp}{W:St→Hp→Prop}{od:Obj}(T:Turn K t H0 H p r a g x s ns k out)(kp:∀b o,b ≠ r→upd H g (.pV od (.lst (out.map V.int))) b=some o→H1 b=some o)(R1:kz K t H1 r a ns (k+1))(w':WF s')(hans:sQ.length≤10)
  (hdue:∃f cs,PyFlat.calls PySa32.shape f (ns.drop k')=some cs∧(∀c,c ∈ cs→Sa32Neutral.askedOne c=true)∧out ++ ((sQ.length:Int)::(sQ ++ PyFlat.told (PyFlat.played Sa32Neutral.step (some s') cs)))=PySa32.answers ns∧out.length+11+11 * cs.length≤20000)
  (hD:D.nx=W) (hW:∀H' x' z,Turn K t H0 H' p r a g x' s' ns k' (out ++ ((sQ.length:Int)::sQ))→W [some (.ref a),some (.ref r),some (.ref p),some (.ref g),z] H'):
  vU K t H1 p x r a ns k' s' sQ (fun v H2=>H2 g=some (.pV od (.lst (out.map V.int)))∧a9 4 v [some (.ref a),some (.ref r),some (.ref p),some (.ref g),y] (upd H2 g (.lst (out.map V.int))) ((aI (aW (Pc K "list" yr (ag 3) (ae (u7 (oX K) (ae (ag 4) aw)) aw))) (aW (Pc K "list" uK (ag 3) (ae (ag 4) aw)))) D)):=by
 intro l H' x' N' kk R' rF gl hl lF
 obtain ⟨f,cs,c1,c2,c3,c4⟩:=hdue
 have B:=T.both od
 obtain ⟨dxr,obr⟩:=R1.ob
 have hgf:upd H g (.pV od (.lst (out.map V.int))) g=some (.pV od (.lst (out.map V.int))):=ao
 have gF:¬x.F p g:=B.node.rep.PQ hgf
 have dom1:∀b,H1 b=none→H b=none:=fun b hb=>by
  cases hh:H b with
  | none=>rfl
  | some o=>
   by_cases z:b=r
   ·rw [z,obr] at hb;cases hb
   ·by_cases z2:b=g
    ·rw [z2,kp _ _ T.UH hgf] at hb;cases hb
    ·rw [kp b o z (ck hh z2)] at hb;cases hb
 have hg1:H1 g=some (.pV od (.lst (out.map V.int))):=kp _ _ T.UH hgf
 have hg':H' g=some (.pV od (.lst (out.map V.int))):=kk.old _ _ hg1 fun z=>z.elim gF T.UH
 have hlg:l ≠ g:=fun z=>by rw [z,hg1] at gl;cases gl
 refine ⟨hg',?_⟩
 refine ⟨_,rfl,.inl ⟨rfl,_,cb.of ao⟩,_,rfl,l,_,rfl,.inl (cb.of (ck hl hlg)),g,_,_,rfl,rfl,ao,?_,?_⟩
 ·rw [List.length_map]
  exact Nat.lt_of_le_of_lt (show out.length≤20000 by omega) (by decide)
 rw [fc]
 refine ⟨_,rfl,.inl ⟨rfl,_,cb.of ao⟩,_,rfl,g,l,_,_,rfl,rfl,ao,ck hl hlg,?_,?_⟩
 ·rw [List.length_append,List.length_map,List.length_map]
  exact Nat.le_trans (show out.length+1+sQ.length≤30000 by omega) (by decide)
 rw [fc,hD]
 refine hW _ x' _ ?_
 have e:out.map V.int ++ [.int (((sQ.map V.int).length:Nat):Int)] ++ sQ.map V.int= (out ++ ((sQ.length:Int)::sQ)).map V.int:=by
  rw [List.map_append,List.append_assoc,List.length_map]
  rfl
 rw [e]
 obtain ⟨dx',ob'⟩:=R'.ob
 have aF:(∀H',cb K H' a (ns.map V.int))∨¬x'.F p a:=by
  rcases B.V6 with hK | hF
  ·exact .inl hK
  rcases R1.nums with ⟨q,hr⟩ | hK
  ·refine .inr fun z=>(kk.foot a (.inl z)).elim (fun z=>z.elim hF hr) fun z=>?_
   rcases q with q | ⟨o,q⟩
   ·rw [q] at z;cases z
   ·rw [q] at z;cases z
  ·exact .inl hK
 refine ⟨fun od'=>?_,ao,T.UH,T.V9,fun b o hb=>?_,fun b hb=>?_,⟨f,cs,c1,c2,?_,?_⟩⟩
 ·rw [fc]
  refine ⟨⟨N'.U6 fun b o hb hc=>ck hb fun z=>?_,w'⟩,⟨⟨dx',ck ob' (Ne.symm T.UH)⟩,T.V9.elim .inr fun hg=>R'.nums.mono fun o _ ho=>ck ho hg,R'.le⟩,rF,aF⟩
  rw [z,hg'] at hb
  exact hc _ _ (Option.some.inj hb).symm
 ·have n:∀c,(x.F p c∨c=r∨c=g)→b ≠ c:=fun c hc z=>by rw [z,T.fr c hc] at hb;cases hb
  have h1:b ≠ g:=n g (.inr (.inr rfl))
  have h2:b ≠ r:=n r (.inr (.inl rfl))
  exact ck (kk.old _ _ (kp b o h2 (ck (T.same _ _ hb) h1)) fun z=>z.elim (fun z=>n b (.inl z) rfl) h2) h1
 ·rcases hb with hb | hb
  ·rcases kk.foot b (.inl hb) with z | z
   ·exact T.fr b (z.elim .inl fun z=> .inr (.inl z))
   ·exact T.same.free (dom1 b z)
  ·exact T.fr b (.inr hb)
 ·rw [←c3,List.append_assoc]
  rfl
 ·rw [List.length_append,List.length_cons]
  omega
theorem Turn.EV{H0:Hp}{p r a g:Addr}{x:NF}{s:Sa32.St}{ns:List Int}{k:Nat}{out:List Int}(T:Turn K t H0 H p r a g x s ns k out)(od:Obj):kz K t H r a ns k:=by
 have R:=(T.both od).EV
 obtain ⟨dx,ob⟩:=R.ob
 rw [aL (Ne.symm T.UH)] at ob
 refine ⟨⟨dx,ob⟩,T.V9.elim .inr fun hg=>?_,R.le⟩
 refine R.nums.elim (fun q=> .inl ⟨?_,q.2⟩) .inr
 rcases q.1 with q | ⟨o,q⟩
 ·rw [aL hg] at q;exact .inl q
 ·rw [aL hg] at q;exact .inr ⟨o,q⟩
theorem Pr(x:List Int):([x].flatMap fun x=>(x.length:Int)::x)= (x.length:Int)::x:=by simp
def QU:Obj:={cls:= .none,data:= .fields #[]}
end
end Fn
namespace Fn
open PySem L2
section
variable{K:PySem.W.Frag}{t:bh}{vs:List V}{H:Hp}{Q:VK}{E:XK}
theorem tu{ns l m:List Int}{k n:Nat}(h:ns.drop k=l ++ m)(hn:l.length=n):ns.drop (k+n)=m:=by
 rw [←List.drop_drop,h,List.drop_left' hn]
theorem D7(n:Int)(b:List Nat)(k:Int):Sa32.step none (.begin_ n b k)=if Sa32.within n 1 127=false∨Sa32.within k 0 64=false then (none,Sa32.ok (-2)) else match Sa32.tableOf b k.toNat with
  | none=>(none,Sa32.ok (-2))
  | some t=>(some (Sa32.begun n.toNat t),Sa32.ok 0):=rfl
theorem Gf(node:Int)(tb:List Int):Sa32Neutral.step Sa32Neutral.start [[0,node],tb] = ((Sa32.step none (.begin_ node (Sa32Neutral.nats tb) ((tb.length / 8:Nat):Int))).1,[(Sa32.step none (.begin_ node (Sa32Neutral.nats tb) ((tb.length / 8:Nat):Int))).2.v]):=by
 show ((Sa32.step none (.begin_ node (Sa32Neutral.nats tb) ((tb.length / 8:Nat):Int))).1,(Sa32.step none (.begin_ node (Sa32Neutral.nats tb) ((tb.length / 8:Nat):Int))).2.v::(if (Sa32.step none (.begin_ node (Sa32Neutral.nats tb) ((tb.length / 8:Nat):Int))).2.v < 0 then [] else []))=_
 split <;> rfl
theorem Po{node:Int}{tb:List Int}(h8:tb.length % 8=0)(z:node < 1∨127 < node∨512 < (Sa32Neutral.nats tb).length∨Sa32.tableOf (Sa32Neutral.nats tb) ((Sa32Neutral.nats tb).length / 8)=none):Sa32Neutral.step Sa32Neutral.start [[0,node],tb] = (none,[-2]):=by
 rw [Gf,D7]
 simp only [pL,Int.toNat_natCast]
 rw [tq] at z
 by_cases z2:(node < 1∨127 < node)∨((tb.length / 8:Nat):Int) < 0∨64 < ((tb.length / 8:Nat):Int)
 ·rw [if_pos z2]
  rfl
 ·rw [if_neg z2]
  have:Sa32.tableOf (Sa32Neutral.nats tb) (tb.length / 8)=none:=by
   rcases z with z | z | z | z
   ·exact absurd (.inl (.inl z)) z2
   ·exact absurd (.inl (.inr z)) z2
   ·exact absurd (.inr (.inr (by omega))) z2
   ·exact z
  rw [this]
  rfl
theorem OD{node:Int}{tb:List Int}{L:List Sa32.Ent}(h1:1≤node)(h2:node≤127)(h3:(Sa32Neutral.nats tb).length≤512)(h4:Sa32.tableOf (Sa32Neutral.nats tb) ((Sa32Neutral.nats tb).length / 8)=some L):Sa32Neutral.step Sa32Neutral.start [[0,node],tb] = (some (Sa32.begun node.toNat L),[0]):=by
 rw [Gf,D7]
 simp only [pL,Int.toNat_natCast]
 rw [tq] at h3 h4
 rw [if_neg (by omega),h4]
 rfl
theorem LW(T:cU K t)(h:wI K t vs H Q E):Oh K t (Dn Q) (start Gw vs) H:=by
 obtain ⟨a,ns,rfl,hns,hlen,hask,q⟩:=h
 unfold PySa32.answers_asked at hask
 cases hcs:PySa32.calls ns with
 | none=>rw [hcs] at hask;cases hask
 | some cs0=>
 rw [hcs] at hask
 have hask:(PyFlat.atMost 1000 cs0 && Sa32Neutral.asked cs0)=true:=hask
 rw [Bool.and_eq_true] at hask
 obtain ⟨hmost,hask⟩:=hask
 have hmost:cs0.length≤1000:=of_decide_eq_true hmost
 have hflat:PyFlat.calls PySa32.shape ns.length ns=some cs0:=by
  unfold PySa32.calls at hcs
  cases h1:PyFlat.calls PySa32.shape ns.length ns with
  | none=>rw [h1] at hcs;cases hcs
  | some cs=>
   rw [h1] at hcs
   have hcs:some (cs.map PySa32.whole)=some cs0:=hcs
   have e:cs.map PySa32.whole=cs:=by
    conv=>rhs;rw [←List.map_id cs]
    exact List.map_congr_left fun c _=>Px c
   rw [e] at hcs
   exact hcs
 have hans:PySa32.answers ns=PyFlat.told (PyFlat.played Sa32Neutral.step Sa32Neutral.start cs0):=by
  unfold PySa32.answers
  rw [hcs]
 obtain ⟨node,tb,rest,rfl⟩:∃node tb rest,cs0 = [[0,node],tb]::rest:=by
  unfold Sa32Neutral.asked at hask
  split at hask
  ·exact ⟨_,_,_,rfl⟩
  ·cases hask
 have hask2:Sa32Neutral.bytes tb=true∧tb.length % 8=0∧(∀c,c ∈ rest→Sa32Neutral.askedOne c=true)∧(rest = []∨(Sa32Neutral.step Sa32Neutral.start [[0,node],tb]).1.isSome=true):=by
  have h:(Sa32Neutral.int node && (Sa32Neutral.bytes tb && (tb.length % 8 == 0 && (rest.all Sa32Neutral.askedOne && (rest.isEmpty || (Sa32Neutral.step Sa32Neutral.start [[0,node],tb]).1.isSome)))))=true:=hask
  rw [Bool.and_eq_true,Bool.and_eq_true,Bool.and_eq_true,Bool.and_eq_true,Bool.or_eq_true] at h
  refine ⟨h.2.1,by simpa using h.2.2.1,List.all_eq_true.mp h.2.2.2.1,?_⟩
  rcases h.2.2.2.2 with h | h
  ·exact .inl (by simpa using h)
  ·exact .inr h
 obtain ⟨hby,h8,hall,hgo⟩:=hask2
 obtain ⟨etb,hbyt⟩:=xj hby
 have hnl:=tq tb
 rcases w9 hflat with ⟨_,hz⟩ | ⟨f,c,sr,cs1,hc1,hc2,hc3⟩
 ·cases hz
 obtain ⟨hce,hcr⟩:c = [[0,node],tb]∧rest=cs1:=by
  injection hc3 with z1 z2
  exact ⟨z1.symm,z2⟩
 subst hce hcr
 obtain ⟨pp,rr,xs,z1,z2⟩:=Gp hc1
 have z1: [0,node] = pp::rr∧ [tb] = xs:=by
  injection z1 with z1 z3
  exact ⟨z1,z3⟩
 obtain ⟨z3,rfl⟩:=z1
 obtain ⟨rfl,rfl⟩:0=pp∧ [node] = rr:=by
  injection z3 with z3 z4
  exact ⟨z3,z4⟩
 rw [Pr] at z2
 have ens:ns=0::node::((Sa32Neutral.nats tb).length:Int)::((Sa32Neutral.nats tb).map (fun (y:Nat)=>(y:Int)) ++ sr):=by
  rw [z2,←etb,hnl]
  simp
 have bno:=Po (node:=node) h8
 have byes:=@OD node tb
 generalize Sa32Neutral.nats tb=bs at *
 have hbl:bs.length≤30000:=by
  rw [ens] at hlen
  simp only [List.length_cons,List.length_append,List.length_map] at hlen
  omega
 refine ⟨_,rfl,fun r dx gr gd hne=>⟨r,dx,a,rfl,ao,fun H1 k1 k2=>⟨rfl,?_⟩⟩⟩
 have s1:aP H H1:=fun b o hb=>by
  rw [k1 b (aE hb gr),aL (aE hb gr),aL (aE hb gd)]
  exact hb
 have hN:Nums K H a r ns:=by
  rcases hns with h | h
  ·refine .inl ⟨h,?_⟩
   rcases h with h | ⟨o,h⟩
   ·exact aE h gr
   ·exact aE h gr
  ·exact .inr fun _=> .inr h
 have R1:kz K t H1 r a ns 0:=⟨⟨dx,k2⟩,hN.mono fun o _ ho=>s1 _ _ ho,Nat.zero_le _⟩
 have hsep:∀{b:Addr},H b=none→(∀H',cb K H' a (ns.map V.int))∨a ≠ b:=fun {b} hb=>by
  rcases hns with h | h
  ·right
   rcases h with h | ⟨o,h⟩
   ·exact aE h hb
   ·exact aE h hb
  ·exact .inl fun _=> .inr h
 have hr1:H r=none:=gr
 refine ⟨_,rfl,r,a,ns,node,bs,sr,rfl,R1,ens,hbyt,by omega,by omega,fun H2 k3 z=>?_,fun L p H2 x2 n1 n2 n3 n4 k3 gp N2 fr R2=>?_⟩
 ·
  refine ⟨_,rfl,true,rfl,aS ⟨(by show 2≤sizeLine;decide),fun l gl=>?_⟩⟩
  have s2:aP H H2:=fun b o hb=>k3 b o (aE hb gr) (s1 _ _ hb)
  have e:=bno z
  have hrest:rest = []:=by
   rcases hgo with h | h
   ·exact h
   ·rw [e] at h;cases h
  refine q l _ (s2.trans (aP.new gl)) (s2.free gl) ?_
  rw [ao,hans,hrest,tU,e]
  rfl
 ·refine ⟨_,rfl,false,rfl,aZ ⟨(by show 2≤sizeLine;decide),fun g gg=>?_⟩⟩
  have e:=byes n1 n2 n3 n4
  have s2:aP H H2:=fun b o hb=>k3 b o (aE hb gr) (s1 _ _ hb)
  have hg0:H g=none:=s2.free gg
  obtain ⟨dx2,ob2⟩:=R2.ob
  have hgr:g ≠ r:=fun z=>by rw [z,ob2] at gg;cases gg
  have hag:=hsep hg0
  have w0:WF (Sa32.begun node.toNat L):=WF.begun hbyt n4 (by omega) (by omega)
  have hdr:ns.drop (3+bs.length)=sr:=by
   rw [ens,Nat.add_comm 3]
   show (List.map (fun (y:Nat)=>(y:Int)) bs ++ sr).drop bs.length=sr
   exact List.drop_left' (by rw [List.length_map])
  have T0:Turn K t H (upd H2 g (.lst [.int 1,.int 0])) p r a g x2 (Sa32.begun node.toNat L) ns (3+bs.length) [1,0]:=by
   refine ⟨fun od=>?_,ao,hgr,hag,s2.trans (aP.new gg),fun b hb=>?_,⟨f,rest,by rw [hdr];exact hc2,hall,?_,?_⟩⟩
   ·rw [fc]
    have sg:aP H2 (upd H2 g (.pV od (.lst (([1,0]:List Int).map V.int)))):=aP.new gg
    exact ⟨⟨N2.same sg,w0⟩,⟨⟨dx2,sg _ _ ob2⟩,R2.nums.mono fun o _ ho=>sg _ _ ho,R2.le⟩,fun z=>(by rw [fr r z] at k2;cases k2),(Classical.em (x2.F p a)).elim (fun z=>(hsep (s1.free (fr a z))).imp_right fun q=>absurd rfl q) .inr⟩
   ·rcases hb with hb | rfl | rfl
    ·exact s1.free (fr b hb)
    ·exact gr
    ·exact hg0
   ·rw [hans,tU,e]
    rfl
   ·have:rest.length+1≤1000:=hmost
    show 2+11 * rest.length≤20000
    omega
  refine ⟨fun m σ H'=>∃x s k out z,σ = [some (.ref a),some (.ref r),some (.ref p),some (.ref g),z]∧m=ns.length - k∧Turn K t H H' p r a g x s ns k out,⟨_,x2,_,_,_,none,rfl,rfl,T0⟩,?_⟩
  rintro m σ H' ⟨x,s,k,out,z,rfl,rfl,Tn⟩
  have R:=Tn.EV QU
  obtain ⟨dx',ob'⟩:=R.ob
  refine ⟨_,rfl,r,dx',_,rfl,ob',Vm _ _,r,a,ns,k,rfl,R,_,rfl,?_⟩
  obtain ⟨fu,cs,c1,c2,c3,c4⟩:=Tn.Wz
  by_cases hk:k < ns.length
  ·rw [decide_eq_true hk]
   obtain ⟨Nn,hNn⟩:∃Nn:St→Hp→Prop,Nn=fun σ' H''=>∃x s k' out z,σ' = [some (.ref a),some (.ref r),some (.ref p),some (.ref g),z]∧k < k'∧Turn K t H H'' p r a g x s ns k' out:=⟨_,rfl⟩
   refine aS ⟨Nn,fun σ' H'' hn=>?_,?_⟩
   ·rw [hNn] at hn
    obtain ⟨x',s',k',out',z',e1,e2,e3⟩:=hn
    exact ⟨ns.length - k',by have:=(e3.both QU).EV.le;omega,x',s',k',out',z',e1,rfl,e3⟩
   refine ⟨g,_,Tn.Wv,trivial,fun od=>?_⟩
   have B:=Tn.both od
   obtain ⟨dxf,obf⟩:=B.EV.ob
   rcases w9 c1 with ⟨hz,_⟩ | ⟨f',c,sr',cs',hc1,hc2,hc3⟩
   ·have:=Et hz (by omega)
    simp at this
    omega
   subst hc3
   have hasked:=c2 c List.mem_cons_self
   have hasked':∀c,c ∈ cs'→Sa32Neutral.askedOne c=true:=fun c hc=>c2 c (List.mem_cons_of_mem _ hc)
   have key:∀s' sQ,Sa32Neutral.step (some s) c= (some s',sQ)→out ++ ((sQ.length:Int)::(sQ ++ PyFlat.told (PyFlat.played Sa32Neutral.step (some s') cs')))=PySa32.answers ns:=fun s' sQ h=>by
    rw [←c3,tU,O3,h]
   have hl':out.length+11+11 * cs'.length≤20000:=by
    rw [List.length_cons] at c4
    omega
   obtain ⟨pp,rr,xs,y1,y2⟩:=Gp hc1
   obtain ⟨hv,hd1⟩:=et y2
   have w:=B.node.wf
   refine ⟨_,rfl,r,dxf,_,rfl,obf,pO _ _,r,a,ns,k,pp,rfl,B.EV,hv,fun H1 k1 R1=>?_⟩
   have B1:=B.read (Lm k1) R1
   have fin:∀{D:Ends}{k':Nat}{s':Sa32.St}{sQ:List Int},D.nx=Nn→k < k'→WF s'→sQ.length≤10→PyFlat.calls PySa32.shape f' (ns.drop k')=some cs'→Sa32Neutral.step (some s) c= (some s',sQ)→
     vU K t H1 p x r a ns k' s' sQ (fun v H2=>H2 g=some (.pV od (.lst (out.map V.int)))∧a9 4 v [some (.ref a),some (.ref r),some (.ref p),some (.ref g),z] (upd H2 g (.lst (out.map V.int))) ((aI (aW (Pc K "list" yr (ag 3) (ae (u7 (oX K) (ae (ag 4) aw)) aw))) (aW (Pc K "list" uK (ag 3) (ae (ag 4) aw)))) D)):=fun {D k' s' sQ} hD hlt w' ha hcl hst=>
    Q7 Tn (Lm k1) R1 w' ha ⟨f',cs',hcl,hasked',key s' sQ hst,hl'⟩ hD fun H'' x' z' tn=>by rw [hNn];exact ⟨x',s',k',_,z',rfl,hlt,tn⟩
   rcases JR hasked with ⟨id,now,d,rfl,hnow,hbd⟩ | ⟨now,rfl,hnow⟩ | rfl | ⟨i,u,rfl⟩ | ⟨i,u,d,rfl,hbd⟩ | ⟨cc,bb,rfl⟩ | rfl
   ·obtain ⟨⟨rfl,rfl⟩,rfl⟩:(1=pp∧ [id,now] = rr)∧ [d] = xs:=by
     injection y1 with q1 q2
     injection q1 with q1 q3
     exact ⟨⟨q1,q3⟩,q2⟩
    obtain ⟨ed,hbyd⟩:=xj hbd
    have hdl:=tq d
    rw [Pr] at hd1
    have hnn:now= ((now.toNat:Nat):Int):=by omega
    refine ⟨1,_,rfl,rfl,_,rfl,_,rfl,p,s,x,r,a,ns,k+1,id,now.toNat,Sa32Neutral.nats d,sr',rfl,B1,?_,hbyd,fin rfl (by omega) (w.yz hbyd) (by simp) ?_ ?_⟩
    ·rw [hd1,←hnn,hdl,←ed]
     simp
    ·have:ns.drop (k+1+ (3+d.length))=sr':=by
      have hd1':ns.drop (k+1)= ([id,now] ++ ((d.length:Int)::d)) ++ sr':=hd1
      exact tu hd1' (by simp;omega)
     rw [hdl,show k+1+3+d.length=k+1+ (3+d.length) by omega,this]
     exact hc2
    ·rw [OR,←hdl,Ik s _ (fun _ _ _ z=>by cases z)]
     rfl
   ·obtain ⟨⟨rfl,rfl⟩,rfl⟩:(2=pp∧ [now] = rr)∧ [] = xs:=by
     injection y1 with q1 q2
     injection q1 with q1 q3
     exact ⟨⟨q1,q3⟩,q2⟩
    have hnn:now= ((now.toNat:Nat):Int):=by omega
    have hd1':ns.drop (k+1) = [now] ++ sr':=by rw [hd1];simp
    refine ⟨2,_,rfl,rfl,_,rfl,_,rfl,p,s,x,r,a,ns,k+1,now.toNat,sr',rfl,B1,by rw [hd1',←hnn];rfl,fin rfl (by omega) ?_ (by simp) ?_ ?_⟩
    ·rw [(c8 (AO s now.toNat)).1]
     exact w.yy.close
    ·rw [tu (n:=1) hd1' rfl]
     exact hc2
    ·rw [Pl,(c8 (AO s now.toNat)).1]
   ·obtain ⟨⟨rfl,rfl⟩,rfl⟩:(3=pp∧ [] = rr)∧ [] = xs:=by
     injection y1 with q1 q2
     injection q1 with q1 q3
     exact ⟨⟨q1,q3⟩,q2⟩
    have hd1':ns.drop (k+1)=sr':=by rw [hd1];simp
    exact ⟨3,_,rfl,rfl,_,rfl,_,rfl,p,s,x,r,a,ns,k+1,rfl,B1,fin rfl (by omega) w.Cn O2 (by rw [hd1'];exact hc2) (QV s)⟩
   ·obtain ⟨⟨rfl,rfl⟩,rfl⟩:(4=pp∧ [i,u] = rr)∧ [] = xs:=by
     injection y1 with q1 q2
     injection q1 with q1 q3
     exact ⟨⟨q1,q3⟩,q2⟩
    have hd1':ns.drop (k+1) = [i,u] ++ sr':=by rw [hd1];simp
    exact ⟨4,_,rfl,rfl,_,rfl,_,rfl,p,s,x,r,a,ns,k+1,i,u,sr',rfl,B1,hd1',fin rfl (by omega) w Rt (by rw [tu (n:=2) hd1' rfl];exact hc2) (RC s i u)⟩
   ·obtain ⟨⟨rfl,rfl⟩,rfl⟩:(5=pp∧ [i,u] = rr)∧ [d] = xs:=by
     injection y1 with q1 q2
     injection q1 with q1 q3
     exact ⟨⟨q1,q3⟩,q2⟩
    obtain ⟨ed,hbyd⟩:=xj hbd
    have hdl:=tq d
    rw [Pr] at hd1
    refine ⟨5,_,rfl,rfl,_,rfl,_,rfl,p,s,x,r,a,ns,k+1,i,u,Sa32Neutral.nats d,sr',rfl,B1,?_,hbyd,fin rfl (by omega) (w.Jg hbyd) (by simp) ?_ ?_⟩
    ·rw [hd1,hdl,←ed]
     simp
    ·have:ns.drop (k+1+ (3+d.length))=sr':=by
      have hd1':ns.drop (k+1)= ([i,u] ++ ((d.length:Int)::d)) ++ sr':=hd1
      exact tu hd1' (by simp;omega)
     rw [hdl,show k+1+3+d.length=k+1+ (3+d.length) by omega,this]
     exact hc2
    ·rw [RP,←hdl,Ik s _ (fun _ _ _ z=>by cases z)]
     rfl
   ·obtain ⟨⟨rfl,rfl⟩,rfl⟩:(6=pp∧ [cc,bb] = rr)∧ [] = xs:=by
     injection y1 with q1 q2
     injection q1 with q1 q3
     exact ⟨⟨q1,q3⟩,q2⟩
    have hd1':ns.drop (k+1) = [cc,bb] ++ sr':=by rw [hd1];simp
    refine ⟨6,_,rfl,rfl,_,rfl,_,rfl,p,s,x,r,a,ns,k+1,cc,bb,sr',rfl,B1,hd1',fin rfl (by omega) w.zo (by simp) (by rw [tu (n:=2) hd1' rfl];exact hc2) ?_⟩
    rw [Om,Ik s _ (fun _ _ _ z=>by cases z)]
    rfl
   ·obtain ⟨⟨rfl,rfl⟩,rfl⟩:(7=pp∧ [] = rr)∧ [] = xs:=by
     injection y1 with q1 q2
     injection q1 with q1 q3
     exact ⟨⟨q1,q3⟩,q2⟩
    have hd1':ns.drop (k+1)=sr':=by rw [hd1];simp
    exact ⟨7,_,rfl,rfl,_,rfl,_,rfl,p,s,x,r,a,ns,k+1,rfl,B1,fin rfl (by omega) w (by simp) (by rw [hd1'];exact hc2) (OV s)⟩
  ·rw [decide_eq_false hk]
   refine aZ ⟨_,rfl,?_⟩
   have hdn:ns.drop k = []:=List.drop_of_length_le (by omega)
   rw [hdn] at c1
   have hcs:cs = []:=by
    rcases w9 c1 with ⟨_,h⟩ | ⟨f',c,sr',cs',hc1,_⟩
    ·exact h
    ·unfold PyFlat.call at hc1;cases hc1
   rw [hcs] at c3
   have c3:out=PySa32.answers ns:=by rw [←c3];exact (List.append_nil _).symm
   exact q g H' Tn.same (Tn.fr g (.inr (.inr rfl))) (by rw [←c3];exact Tn.Wv)
end
end Fn
namespace Fn
open PySem L2
structure Rw where
 oA:FuncData
 yU:FuncData
 ya:FuncData
 jz:FuncData
 xJ:FuncData
 rL:FuncData
 rf:FuncData
 fS:FuncData
 om:FuncData
 gj:FuncData
 qt:FuncData
 qw:FuncData
 h9:FuncData
 gY:FuncData
 fq:FuncData
 NG:FuncData
 ly:FuncData
 oh:FuncData
 qH:FuncData
 ie:FuncData
 h7:FuncData
 nL:FuncData
 gv:FuncData
 qK:FuncData
 j0:FuncData
 fU:FuncData
 du:FuncData
 eZ:FuncData
 oC:FuncData
 fi:FuncData
 dE:FuncData
 fm:FuncData
 j4:FuncData
 iU:FuncData
 xP:FuncData
 iZ:FuncData
 kb:FuncData
 yo:FuncData
 oG:FuncData
 nR:FuncData
 Cp:FuncData
 nY:FuncData
 rH:FuncData
 ic:FuncData
 yu:FuncData
 lN:FuncData
 gV:FuncData
 rq:FuncData
 j1:FuncData
 iw:FuncData
 f9:FuncData
 ik:FuncData
 j8:FuncData
 j9:FuncData
 ji:FuncData
 Co:FuncData
 uV:FuncData
 Ct:FuncData
 lV:FuncData
 oq:FuncData
 iu:FuncData
 jd:FuncData
 nK:FuncData
 dD:FuncData
 lX:FuncData
 jl:FuncData
 hJ:FuncData
 lM:FuncData
 n0:FuncData
 lq:FuncData
 lx:FuncData
 iX:FuncData
 lH:FuncData
 qu:FuncData
 rO:FuncData
 uP:FuncData
 qF:FuncData
 uN:FuncData
 xY:FuncData
 xW:FuncData
 rR:FuncData
 rb:FuncData
 ia:FuncData
 eS:FuncData
 dk:FuncData
 fk:FuncData
 mf:FuncData
 i4:FuncData
 kF:FuncData
 kr:FuncData
 m8:FuncData
 mI:FuncData
 i3:FuncData
 jD:FuncData
 uJ:FuncData
 rP:Tok
 qC:Tok
 oY:Tok
 qS:Tok
 xt:Tok
 Mx:Tok
 Rb:Tok
 Hc:Tok
 mN:Tok
 qm:Tok
 L9:Tok
 pz:Tok
 wC:Tok
 HK:Tok
 DL:Tok
 pA:Tok
 Ig:Tok
 rg:Tok
 oZ:Tok
 Aa:Tok
 AW:Tok
 qO:Tok
 IU:Tok
 o3:Tok
 zO:Tok
 mx:Tok
 jA:Tok
 kS:Tok
 kP:Tok
 wR:Tok
 Dw:Tok
 nq:Tok
 mQ:Tok
 wz:Tok
 tO:Tok
 oQ:Tok
 qf:Tok
 Md:Tok
 II:Tok
 o9:Tok
 LN:Tok
 qI:Tok
 z9:Tok
 oO:Tok
 qY:Tok
 rh:Tok
 uG:Tok
 xf:Tok
structure Txt(K:PySem.W.Frag)(mg:Str→Option Value)(t:bh)(u:Rw):Prop extends cU K t where
 iQ:dM K mg "number_of" uH t.nE u.oA ["row"]
 wB:dM K mg "row_of" xM t.xR u.yU ["number","size"]
 filled:dM K mg "filled" EI t.yA u.ya ["row","size"]
 qo:UC K mg t.bR "Entry" "Entry.__init__" mM t.je u.jz ["self","size","readable","writable","mappable","value"]
 gG:dM K mg "key_of" Em t.zh u.xJ ["index","sub"]
 cj:dM K mg "value_of" wV t.qE u.rL ["entries","index","sub"]
 entry_at:dM K mg "entry_at" wk t.rG u.rf ["entries","index","sub"]
 mw:dM K mg "is_table_index" jW t.fW u.fS ["index"]
 FY:dM K mg "has_index" nG t.nI u.om ["entries","index"]
 tS:dM K mg "is_table_right" jP t.fM u.gj ["table"]
 EE:dM K mg "lines_of" rk t.qh u.qt ["table"]
 CV:dM K mg "line_key" xl t.rC u.qw ["line"]
 v9:dM K mg "is_line_right" kW t.ip u.h9 ["line"]
 v8:dM K mg "table_entries" kX t.il u.gY ["table"]
 sC:dM K mg "besides_entries" jb t.fg u.fq ["number"]
 put:dM K mg "put" Qg t.NL u.NG ["entries","index","sub","size","rights","value"]
 DE:dM K mg "put_coming" qW t.lK u.ly ["entries","place","number"]
 Gv:dM K mg "put_going" uu t.nU u.oh ["entries","place","number"]
 Eu:dM K mg "put_list" wD t.qL u.qH ["entries","index"]
 oR:dM K mg "followed_node" kI t.ig u.ie ["value"]
 o4:dM K mg "followed_time" kL t.hR u.h7 ["value"]
 FZ:dM K mg "take_beat" uo t.nN u.nL ["node","ident"]
 tj:dM K mg "watch_followed" jK t.fL u.gv ["node"]
 Kp:dM K mg "beat_own" xo t.rX u.qK ["node"]
 Bm:UC K mg t.aC "Node" "Node.__init__" o7 t.jX u.j0 ["self","number","table"]
 my:Oq K t.aC "begin_all" "Node.begin_all" jS t.gn u.fU ["self"]
 iD:Oq K t.aC "begin_besides" "Node.begin_besides" fA t.dt u.du ["self"]
 kY:Oq K t.aC "count_work" "Node.count_work" jy t.eV u.eZ ["self"]
 mh:Oq K t.aC "send" "Node.send" uw t.nQ u.oC ["self","ident","data"]
 iA:Oq K t.aC "send_fault" "Node.send_fault" iW t.eU u.fi ["self","code","bit"]
 nW:Oq K t.aC "clear_faults" "Node.clear_faults" gH t.dC u.dE ["self"]
 kU:Oq K t.aC "tell_fault" "Node.tell_fault" jg t.fb u.fm ["self","code"]
 kD:dM K mg "mapped_keys" kf t.j6 u.j4 ["entries","index"]
 rl:dM K mg "mapped_bytes" ja t.i7 u.iU ["entries","index"]
 change:dM K mg "change" DQ t.zd u.xP ["node","key","value"]
 rp:dM K mg "coming_place" m6 t.jt u.iZ ["node","ident"]
 A7:dM K mg "take_coming" pq t.kc u.kb ["node","place","data"]
 spread:dM K mg "spread" Eh t.zl u.yo ["node","place","data"]
 F5:dM K mg "take_mark" tD t.oJ u.oG ["node"]
 FU:dM K mg "take_kept" ux t.oI u.nR ["node","place"]
 PH:dM K mg "is_on" HI t.Cr u.Cp ["node","place"]
 Gy:dM K mg "is_marked" ub t.n9 u.nY ["node","place"]
 DH:dM K mg "send_map" wM t.rB u.rH ["node","place"]
 o6:dM K mg "send_due_maps" kN t.hV u.ic ["node"]
 P1:dM K mg "is_due" DC t.zw u.yu ["node","place"]
 DS:dM K mg "is_overdue" qD t.lz u.lN ["node","place"]
 vD:dM K mg "why_not_taken" kT t.hZ u.gV ["entries","key","value"]
 tK:dM K mg "wrong_if" xk t.qi u.rq ["is_wrong"]
 Bt:dM K mg "why_not_way" oN t.j5 u.j1 ["present","sub","value"]
 vW:dM K mg "why_not_ident" kO t.hY u.iw ["present","value"]
 mB:dM K mg "why_not_listed" jO t.fN u.f9 ["entries","way","key","value"]
 vB:dM K mg "why_not_count" el t.hU u.ik ["entries","index","count"]
 Bk:dM K mg "is_mappable" pB t.kh u.j8 ["entries","way","value"]
 tw:UC K mg t.bL "Hand" "Hand.__init__" oM t.jZ u.j9 ["self","is_set","key","row"]
 zx:dM K mg "take_request" mE t.i0 u.ji ["node","data"]
 A6:dM K mg "reply" HR t.Cv u.Co ["node","data"]
 vf:dM K mg "name_of" AN t.vd u.uV ["key"]
 abort:dM K mg "abort" ID t.Ck u.Ct ["node","key","code"]
 qj:dM K mg "abort_hand" rT t.lu u.lV ["node","code"]
 AL:dM K mg "asked_key" uc t.nM u.oq ["data"]
 oU:dM K mg "why_not_found" kR t.gZ u.iu ["entries","key"]
 lB:dM K mg "why_not_long" ni t.jv u.jd ["count","size"]
 GH:dM K mg "begin_set" ur t.nP u.nK ["node","data"]
 og:dM K mg "why_not_announced" gI t.dG u.dD ["size","data"]
 wK:dM K mg "finish_set" qX t.lE u.lX ["node","key","row","answer"]
 yN:dM K mg "set_over_bus" ng t.jo u.jl ["node","key","value"]
 oS:dM K mg "why_not_piece" kM t.hX u.hJ ["node","data","is_set"]
 CK:dM K mg "take_piece" rV t.lr u.lM ["node","data"]
 GR:dM K mg "begin_ask" t8 t.ot u.n0 ["node","data"]
 DD:dM K mg "give_piece" qd t.l9 u.lq ["node","data"]
 Eb:dM K mg "take_frame" ql t.lC u.lx ["node","ident","data"]
 yj:dM K mg "take_command" mT t.i6 u.iX ["node","command"]
 DT:dM K mg "begin_work" qZ t.lp u.lH ["node"]
 KN:dM K mg "cn_begin" wA t.rW u.qu ["number","table"]
 yz:dM K mg "cn_frame" w8 t.qT u.rO ["node","ident","now","data"]
 MZ:dM K mg "cn_tick" AE t.vk u.uP ["node","now"]
 Ez:dM K mg "end_call" xu t.rK u.qF ["node"]
 Cn:dM K mg "cn_take" A4 t.uR u.uN ["node"]
 QJ:dM K mg "cn_get" DK t.y9 u.xY ["node","index","sub"]
 Jg:dM K mg "cn_set" DY t.zi u.xW ["node","index","sub","row"]
 zo:dM K mg "cn_fault" xr t.rZ u.rR ["node","code","bit"]
 J2:dM K mg "cn_state" wG t.qG u.rb ["node"]
 vP:UC K mg t.bq "Reader" "Reader.__init__" kK t.ir u.ia ["self","numbers"]
 sv:Oq K t.bq "has_more" "Reader.has_more" jE t.fj u.eS ["self"]
 bj:Oq K t.bq "read_number" "Reader.read_number" fw t.dm u.dk ["self"]
 ij:Oq K t.bq "read_row" "Reader.read_row" i9 t.eX u.fk ["self"]
 CG:dM K mg "read_begin" rJ t.lP u.mf ["reader"]
 wN:dM K mg "read_frame" qp t.d5 u.i4 ["node","reader"]
 AA:dM K mg "read_tick" um t.fI u.kF ["node","reader"]
 zP:dM K mg "read_take" uD t.fH u.kr ["node","reader"]
 Du:dM K mg "read_get" wu t.iK u.m8 ["node","reader"]
 Eg:dM K mg "read_set" xq t.iI u.mI ["node","reader"]
 xg:dM K mg "read_fault" qQ t.ef u.i3 ["node","reader"]
 wF:dM K mg "read_state" qV t.eg u.jD ["node","reader"]
 answers:dM K mg "answers" zV t.uW u.uJ ["calls"]
 qN:mg "LINE_BYTES" = some (.int 8 u.rP)
 G7:mg "MOST_LINES" = some (.int 64 u.qC)
 EM:mg "TABLE_FIRST" = some (.int 8192 u.oY)
 Ir:mg "TABLE_LAST" = some (.int 40959 u.qS)
 LK:mg "MOST_SUB" = some (.int 255 u.xt)
 oT:mg "MAPS" = some (.int 4 u.Mx)
 Dm:mg "OFF" = some (.int 2147483648 u.Rb)
 NR:mg "IDENT" = some (.int 2047 u.Hc)
 jx:mg "WHEN_CHANGED" = some (.int 254 u.mN)
 lD:mg "FAULT_BITS" = some (.int 4097 u.qm)
 ML:mg "MARK" = some (.int 4101 u.L9)
 oP:mg "FAULT_IDENT" = some (.int 4116 u.pz)
 iH:mg "FOLLOWED" = some (.int 4118 u.wC)
 Hn:mg "HEART" = some (.int 4119 u.HK)
 m5:mg "COMING" = some (.int 5120 u.DL)
 gN:mg "COMING_LIST" = some (.int 5632 u.pA)
 eY:mg "GOING" = some (.int 6144 u.Ig)
 lJ:mg "GOING_LIST" = some (.int 6656 u.rg)
 vO:mg "BEFORE_WORK" = some (.int 127 u.oZ)
 pU:mg "AT_WORK" = some (.int 5 u.Aa)
 zG:mg "STOPPED" = some (.int 4 u.AW)
 HJ:mg "ROW_FRAMES" = some (.int 32 u.qO)
 rE:mg "TAKEN" = some (.int 0 u.IU)
 oV:mg "WRONG_VALUE" = some (.int 101253168 u.o3)
 A1:mg "NOT_NOW" = some (.int 134217762 u.zO)
 Ey:mg "NOT_MAPPABLE" = some (.int 100925505 u.mx)
 xK:mg "TOO_MUCH_MAPPED" = some (.int 100925506 u.jA)
 sA:mg "BITS_11_TO_30" = some (.int 2147481600 u.kS)
 BM:mg "BITS_23_TO_31" = some (.int 4286578688 u.kP)
 Mr:mg "NO_INDEX" = some (.int 100794368 u.wR)
 Qp:mg "NO_SUB" = some (.int 101253137 u.Dw)
 Es:mg "NOT_READABLE" = some (.int 100728833 u.nq)
 C9:mg "NOT_WRITABLE" = some (.int 100728834 u.mQ)
 DV:mg "TOO_LONG" = some (.int 101122066 u.wz)
 Bl:mg "TOO_SHORT" = some (.int 101122067 u.tO)
 v5:mg "NOT_AWAITED" = some (.int 84148225 u.oQ)
 Iz:mg "WRONG_TURN" = some (.int 84082688 u.qf)
 MO:mg "TURN" = some (.int 16 u.Md)
 jk:mg "FOUND" = some (.int 0 u.II)
 ka:mg "PIECE_BYTES" = some (.int 7 u.o9)
 EC:mg "DONE" = some (.int 0 u.LN)
 qy:mg "NONE_THERE" = some (.int (-1) u.qI)
 uT:mg "REFUSED" = some (.int (-2) u.z9)
 FP:mg "MOST_NUMBER" = some (.int 127 u.oO)
 Io:mg "MOST_IDENT" = some (.int 2047 u.qY)
 qP:mg "MOST_BYTES" = some (.int 8 u.rh)
 Jw:mg "MOST_CODE" = some (.int 65535 u.uG)
 Mv:mg "MOST_BIT" = some (.int 7 u.xf)
 iV:mg "len" = none
 U3:mg "any" = none
 S2:mg "sum" = none
 Rj:mg "max" = none
 UX:mg "min" = none
 QD:mg "list" = none
 gz:mg "range" = none
 Mb:mg "reversed" = none
 Sj:mg "CALLS" = some (.ref t.Cw)
 Sy:∃(t0 t1 t2 t3 t4 t5 t6:Tok)(ep:Nat),K.lookup t.Cw=some ⟨.type "dict",none,.dict #[⟨1,.int 1 t0,.ref t.d5⟩,⟨2,.int 2 t1,.ref t.fI⟩,⟨3,.int 3 t2,.ref t.fH⟩,⟨4,.int 4 t3,.ref t.iK⟩,⟨5,.int 5 t4,.ref t.iI⟩,⟨6,.int 6 t5,.ref t.ef⟩,⟨7,.int 7 t6,.ref t.eg⟩] ep,#[]⟩
section
variable{P:Program}{w:World}{K:PySem.W.Frag}{mg:Str→Option Value}{base:Heap}{t:bh}{u:Rw}
theorem jT{k a:Int}{sp sp':Sp}{l:List (Int × Sp)}(h:List.lookup k ((a,sp')::l)=some sp):(k=a∧sp'=sp)∨l.lookup k=some sp:=by
 rw [List.lookup_cons] at h
 by_cases e:k=a
 ·subst e
  rw [beq_self_eq_true] at h
  exact .inl ⟨rfl,Option.some.inj h⟩
 ·rw [beq_false_of_ne e] at h
  exact .inr h
theorem Fm{X:Cx}{i e:Expr}{es:List Expr}{ti:TE}{ta:TA}{p1 p2 pos:Pos}{n:Nat}(T:Txt X.K X.mg t u)(hr:iE n X.A)
  (G0:bp X.prog X.w X.K X.mg X.base cx 12 t.d5 u.i4 ["node","reader"] (eI X.K t))
  (G1:bp X.prog X.w X.K X.mg X.base cx 8 t.fI u.kF ["node","reader"] (gx X.K t))
  (G2:bp X.prog X.w X.K X.mg X.base cx 3 t.fH u.kr ["node","reader"] (fV X.K t))
  (G3:bp X.prog X.w X.K X.mg X.base cx 4 t.iK u.m8 ["node","reader"] (iN X.K t))
  (G4:bp X.prog X.w X.K X.mg X.base cx 7 t.iI u.mI ["node","reader"] (iP X.K t))
  (G5:bp X.prog X.w X.K X.mg X.base cx 6 t.ef u.i3 ["node","reader"] (eM X.K t))
  (G6:bp X.prog X.w X.K X.mg X.base cx 2 t.eg u.jD ["node","reader"] (eK X.K t))
  (hn:12≤n) (hi:PE X i ti) (ha:PA X (e::es) ta) (hg:Gl X "CALLS") (hs:RE i) (he:starEach (e::es) X.env= (false,eval e X.env)::starEach es X.env:=by rfl) (hpl:(backTo pos (starEach es X.env)).any (·.1)=false:=by rfl):
  PE X (.Call (.Subscript (.Name "CALLS" p1) i p2) (e::es) [] pos) (QH [(1,eI X.K t),(2,gx X.K t),(3,fV X.K t),(4,iN X.K t),(5,iP X.K t),(6,eM X.K t),(7,eK X.K t)] ti ta):=by
 obtain ⟨t0,t1,t2,t3,t4,t5,t6,ep,hd⟩:=T.Sy
 refine So (ps:=["node","reader"]) (vs:=[(.inl 1,.ref t.d5),(.inl 2,.ref t.fI),(.inl 3,.ref t.fH),(.inl 4,.ref t.iK),(.inl 5,.ref t.iI),(.inl 6,.ref t.ef),(.inl 7,.ref t.eg)]) hi ha hg T.Sj hd ?_ ?_ (show ([.inl 1,.inl 2,.inl 3,.inl 4,.inl 5,.inl 6,.inl 7]:List Key).Nodup by decide +kernel) ?_ hs (by decide) he hpl
 ·intro e he
  simp only [List.mem_toArray,List.mem_cons,List.not_mem_nil,or_false] at he
  rcases he with rfl | rfl | rfl | rfl | rfl | rfl | rfl <;> exact ⟨.inl _,dg _ _ _ _,by with_unfolding_all rfl⟩
 ·exact (.cons (dg _ _ _ _) rfl (.cons (dg _ _ _ _) rfl (.cons (dg _ _ _ _) rfl (.cons (dg _ _ _ _) rfl (.cons (dg _ _ _ _) rfl (.cons (dg _ _ _ _) rfl (.cons (dg _ _ _ _) rfl .nil)))))))
 ·intro k sp h
  rcases jT h with ⟨rfl,rfl⟩ | h
  ·exact ⟨_,_,_,rfl,hr.mono (Nat.le_trans (by decide) hn),G0,T.wN.F.kp,T.wN.b⟩
  rcases jT h with ⟨rfl,rfl⟩ | h
  ·exact ⟨_,_,_,rfl,hr.mono (Nat.le_trans (by decide) hn),G1,T.AA.F.kp,T.AA.b⟩
  rcases jT h with ⟨rfl,rfl⟩ | h
  ·exact ⟨_,_,_,rfl,hr.mono (Nat.le_trans (by decide) hn),G2,T.zP.F.kp,T.zP.b⟩
  rcases jT h with ⟨rfl,rfl⟩ | h
  ·exact ⟨_,_,_,rfl,hr.mono (Nat.le_trans (by decide) hn),G3,T.Du.F.kp,T.Du.b⟩
  rcases jT h with ⟨rfl,rfl⟩ | h
  ·exact ⟨_,_,_,rfl,hr.mono (Nat.le_trans (by decide) hn),G4,T.Eg.F.kp,T.Eg.b⟩
  rcases jT h with ⟨rfl,rfl⟩ | h
  ·exact ⟨_,_,_,rfl,hr.mono (Nat.le_trans (by decide) hn),G5,T.xg.F.kp,T.xg.b⟩
  rcases jT h with ⟨rfl,rfl⟩ | h
  ·exact ⟨_,_,_,rfl,hr.mono (Nat.le_trans (by decide) hn),G6,T.wF.F.kp,T.wF.b⟩
  cases h
end
end Fn
namespace Fn
open PySem L2
section
variable{P:Program}{w:World}{K:PySem.W.Frag}{mg:Str→Option Value}{base:Heap}{t:bh}{u:Rw}
theorem lZ:aA Bi ["row"] (ar uH):=⟨rfl,rfl,rfl,by decide +kernel,rfl,by decide +kernel,by decide +kernel⟩
theorem eh(T:Txt K mg t u):bp P w K mg base cx 1 t.nE u.oA ["row"] (cE K t):=
 aY T.iQ.F lZ (fun _ _ _ _ h=>FN h) (fun _ _ _ _ h=>Hj T.1 h) fun _ _ _ _ _ _ hr hu=>
 (ah (bc (i:=1) lZ.nd rfl (Or.inl rfl) ak)
   (ah (js PassesOwn.never rfl (JD rfl T.Mb (aa (pv 0) ai)) (cH (i:=2) lZ.nd rfl (Or.inl rfl))
   (aj (bc (i:=1) lZ.nd rfl (Or.inl rfl) (aJ bw (aJ rm (pv 1) ak) (pv 2)))))
   (aj (aM (pv 1)))))
theorem Aj:aA CZ ["number","size"] (ar xM):=⟨rfl,rfl,rfl,by decide +kernel,rfl,by decide +kernel,by decide +kernel⟩
theorem ml(T:Txt K mg t u):bp P w K mg base cx 1 t.xR u.yU ["number","size"] (gB K t):=
 aY T.wB.F Aj (fun _ _ _ _ h=>Mh h) (fun _ _ _ _ h=>OX T.1 h) fun _ _ _ _ _ _ hr hu=>
 (aj (aM (GF (own:=[("place",2)]) rfl Aj.nd (gw rfl T.gz (aa (pv 1) ai)) (mV (N:=CZ) (sc:=ar xM) (by decide +kernel)) (fun _ _ _ _ _=>cH (i:=2) Aj.nd rfl (Or.inl rfl)) (fun _ _ _ _ _=>rQ) (fun _ _ _ _ _=>(aJ da (aJ jR (pv 0) (aJ rm ak (pv 2))) ak)))))
theorem OU:aA Jt ["row","size"] (ar EI):=⟨rfl,rfl,rfl,by decide +kernel,rfl,by decide +kernel,by decide +kernel⟩
theorem va(T:Txt K mg t u):bp P w K mg base cx 1 t.yA u.ya ["row","size"] (jU K t):=
 aY T.filled.F OU (fun _ _ _ _ h=>Lv h) (fun _ _ _ _ h=>OM T.1 h) fun _ _ _ _ _ _ hr hu=>
 (aj (aM (aJ iT (pv 0) (aJ Hz (bW (aa ak ai)) (aJ fB (pv 1) (bO bA (by rfl) T.iV d6 (aa (pv 0) ai)))))))
theorem BY:aA tm ["self","size","readable","writable","mappable","value"] (ar mM):=⟨rfl,rfl,rfl,by decide +kernel,rfl,by decide +kernel,by decide +kernel⟩
theorem se(T:Txt K mg t u):bp P w K mg base cx 1 t.je u.jz ["self","size","readable","writable","mappable","value"] (ez K t):=
 aY T.qo.F BY (fun _ _ _ _ h=>zN h) (fun _ _ _ _ h=>B5 T.1 h) fun _ _ _ _ _ _ hr hu=>
 (ah (bC (pv 0) (pv 1) rfl)
   (ah (bC (pv 0) (pv 2) rfl)
   (ah (bC (pv 0) (pv 3) rfl)
   (ah (bC (pv 0) (pv 4) rfl)
   (aj (bC (pv 0) (pv 5) rfl))))))
theorem NW:aA J4 ["index","sub"] (ar Em):=⟨rfl,rfl,rfl,by decide +kernel,rfl,by decide +kernel,by decide +kernel⟩
theorem fP(T:Txt K mg t u):bp P w K mg base cx 1 t.zh u.xJ ["index","sub"] (cS K t):=
 aY T.gG.F NW (fun _ _ _ _ h=>MF h) (fun _ _ _ _ h=>OL T.1 h) fun _ _ _ _ _ _ hr hu=>
 (aj (aM (aJ bw (aJ rm (pv 0) ak) (pv 1))))
theorem Kq:aA CJ ["entries","index","sub"] (ar wV):=⟨rfl,rfl,rfl,by decide +kernel,rfl,by decide +kernel,by decide +kernel⟩
theorem bK(T:Txt K mg t u):bp P w K mg base cx 2 t.qE u.rL ["entries","index","sub"] (br K t):=
 aY T.cj.F Kq (fun _ _ _ _ h=>Iq h) (fun _ _ _ _ h=>Kz T.1 h) fun _ _ _ _ _ _ hr hu=>
 (aj (aM (ay (dF hu (pv 0) (pf hr T.gG (fP T) (aa (pv 1) (aa (pv 2) ai))) (fun _ _=>rfl)) rfl)))
theorem JC:aA D1 ["entries","index","sub"] (ar wk):=⟨rfl,rfl,rfl,by decide +kernel,rfl,by decide +kernel,by decide +kernel⟩
theorem Bz(T:Txt K mg t u):bp P w K mg base cx 2 t.rG u.rf ["entries","index","sub"] (kC K t):=
 aY T.entry_at.F JC (fun _ _ _ _ h=>I0 h) (fun _ _ _ _ h=>KU T.1 h) fun _ _ _ _ _ _ hr hu=>
 (ah (bf (iG (pQ kj kj ak (pv 2) (aq rfl T.LK ⟨_,rfl⟩)))
   (aj (aM fv))
   aO)
   (aj (aM (Kn hu (pv 0) (pf hr T.gG (fP T) (aa (pv 1) (aa (pv 2) ai))) ⟨rfl,rfl,rfl,rfl⟩))))
theorem zg:aA pN ["index"] (ar jW):=⟨rfl,rfl,rfl,by decide +kernel,rfl,by decide +kernel,by decide +kernel⟩
theorem oj(T:Txt K mg t u):bp P w K mg base cx 1 t.fW u.fS ["index"] (dq K t):=
 aY T.mw.F zg (fun _ _ _ _ h=>wq h) (fun _ _ _ _ h=>yt T.1 h) fun _ _ _ _ _ _ hr hu=>
 (aj (aM (J0 kj kj (aq rfl T.EM ⟨_,rfl⟩) (pv 0) (aq rfl T.Ir ⟨_,rfl⟩))))
theorem qx:aA uh ["entries","index"] (ar nG):=⟨rfl,rfl,rfl,by decide +kernel,rfl,by decide +kernel,by decide +kernel⟩
theorem Iv(T:Txt K mg t u):bp P w K mg base cx 1 t.nI u.om ["entries","index"] (lT K t):=
 aY T.FY.F qx (fun _ _ _ _ h=>Ff h) (fun _ _ _ _ h=>HF T.1 h) fun _ _ _ _ _ _ hr hu=>
 (aj (aM (bO (TX rfl) (by rfl) T.U3 T1 (aa (Nl (GF (own:=[("key",2)]) rfl qx.nd (R0 (pv 0)) (mV (N:=uh) (sc:=ar nG) (by decide +kernel)) (fun _ _ _ _ _=>cH (i:=2) qx.nd rfl (Or.inl rfl)) (fun _ _ _ _ _=>rQ) (fun _ _ _ _ _=>(cG bU (aJ jR (pv 2) ak) (pv 1) (aK _))))) ai))))
theorem ue:aA wg ["table"] (ar rk):=⟨rfl,rfl,rfl,by decide +kernel,rfl,by decide +kernel,by decide +kernel⟩
theorem BB(T:Txt K mg t u):bp P w K mg base cx 1 t.qh u.qt ["table"] (kn K t):=
 aY T.EE.F ue (fun _ _ _ _ h=>IM h) (fun _ _ _ _ h=>JO T.1 h) fun _ _ _ _ _ _ hr hu=>
 (aj (aM (GF (own:=[("at",1)]) rfl ue.nd (Oj rfl T.gz (aa ak (aa (bO bA (by rfl) T.iV d6 (aa (pv 0) ai)) (aa (aq rfl T.qN ⟨_,rfl⟩) ai)))) (mV (N:=wg) (sc:=ar rk) (by decide +kernel)) (fun _ _ _ _ _=>cH (i:=1) ue.nd rfl (Or.inl rfl)) (fun _ _ _ _ _=>rQ) (fun _ _ _ _ _=>(eA iq (pv 0) (cu (pv 1)) (cu (aJ bw (pv 1) (aq rfl T.qN ⟨_,rfl⟩))))))))
theorem Af:aA sI ["line"] (ar kW):=⟨rfl,rfl,rfl,by decide +kernel,rfl,by decide +kernel,by decide +kernel⟩
theorem Ai(T:Txt K mg t u):bp P w K mg base cx 2 t.ip u.h9 ["line"] (fQ K t):=
 aY T.v9.F Af (fun _ _ _ _ h=>yB h) (fun _ _ _ _ h=>AV T.1 h) fun _ _ _ _ _ _ hr hu=>
 (ah (bf (iG (dQ (pf hr T.mw (oj T) (aa (pf hr T.iQ (eh T) (aa (eA iq (pv 0) (cu ak) (cu ak)) ai)) ai))))
   (aj (aM ll))
   aO)
   (ah (bf (aH IV (dv b9 (pv 0) ak (fun _ _=>rfl)) (Iu (aa ak (aa ak (aa ak (aa ak ai))))) (by with_unfolding_all rfl))
   (aj (aM ll))
   aO)
   (aj (aM (Ie (cG kj (bO (Ua rfl) (by rfl) T.Rj Ma (aa (eA iq (pv 0) (cu ak) (cu ak)) ai)) ak (aK _)) (CC (cG bU (dv b9 (pv 0) ak (fun _ _=>rfl)) ak (aK _))))))))
theorem Lg:aA Dy ["line"] (ar xl):=⟨rfl,rfl,rfl,by decide +kernel,rfl,by decide +kernel,by decide +kernel⟩
theorem Bq(T:Txt K mg t u):bp P w K mg base cx 2 t.rC u.qw ["line"] (kG K t):=
 aY T.CV.F Lg (fun _ _ _ _ h=>HE h) (fun _ _ _ _ h=>Jv T.1 h) fun _ _ _ _ _ _ hr hu=>
 (aj (aM (pf hr T.gG (fP T) (aa (pf hr T.iQ (eh T) (aa (eA iq (pv 0) (cu ak) (cu ak)) ai)) (aa (dv b9 (pv 0) ak (fun _ _=>rfl)) ai)))))
end
end Fn
namespace Fn
open PySem L2
section
variable{P:Program}{w:World}{K:PySem.W.Frag}{mg:Str→Option Value}{base:Heap}{t:bh}{u:Rw}
theorem de:aA p8 ["table"] (ar jP):=⟨rfl,rfl,rfl,by decide +kernel,rfl,by decide +kernel,by decide +kernel⟩
theorem xI(T:Txt K mg t u):bp P w K mg base cx 3 t.fM u.gj ["table"] (eQ K t):=
 aY T.tS.F de (fun _ _ _ _ h=>xn h) (fun _ _ _ _ h=>yp T.1 h) fun _ _ _ _ _ _ hr hu=>
 (ah (bf (aH A5 (bO bA (by rfl) T.iV d6 (aa (pv 0) ai)) (aJ rm (aq rfl T.G7 ⟨_,rfl⟩) (aq rfl T.qN ⟨_,rfl⟩)) (aK _))
   (aj (aM ll))
   aO)
   (ah (bc (i:=1) de.nd rfl (Or.inl rfl) (UI T5 ak))
   (ah (js PassesOwn.never rfl (uZ (pf hr T.EE (BB T) (aa (pv 0) ai))) (cH (i:=2) de.nd rfl (Or.inl rfl))
   (ah (bc (i:=3) de.nd rfl (Or.inl rfl) (pf hr T.CV (Bq T) (aa (pv 2) ai)))
   (ah (bf (PW.pt (vQ (iG (dQ (pf hr T.v9 (Ai T) (aa (pv 2) ai)))) (qM (aH kj (pv 3) (pv 1) (aK _)))))
   (aj (aM ll))
   aO)
   (aj (bc (i:=1) de.nd rfl (Or.inl rfl) (pv 3))))))
   (aj (aM ll)))))
theorem jI:aA sy ["table"] (ar kX):=⟨rfl,rfl,rfl,by decide +kernel,rfl,by decide +kernel,by decide +kernel⟩
theorem zU(T:Txt K mg t u):bp P w K mg base cx 3 t.il u.gY ["table"] (gu K t):=
 aY T.v8.F jI (fun _ _ _ _ h=>yX h) (fun _ _ _ _ h=>zE T.1 h) fun _ _ _ _ _ _ hr hu=>
 (ah (bc (i:=1) jI.nd rfl (Or.inl rfl) JG)
   (ah (js PassesOwn.never rfl (uZ (pf hr T.EE (BB T) (aa (pv 0) ai))) (cH (i:=2) jI.nd rfl (Or.inl rfl))
   (aj (Nd hu (pv 1) (pf hr T.CV (Bq T) (aa (pv 2) ai)) (pn hr T.qo (se T) (aa (dv b9 (pv 2) ak (fun _ _=>rfl)) (aa (cG bU (dv b9 (pv 2) ak (fun _ _=>rfl)) ak (aK _)) (aa (cG bU (dv b9 (pv 2) ak (fun _ _=>rfl)) ak (aK _)) (aa (cG bU (dv b9 (pv 2) ak (fun _ _=>rfl)) ak (aK _)) (aa ak ai)))))) rfl)))
   (aj (aM (pv 1)))))
theorem Ue:aA SR ["entries","index","sub","size","rights","value"] (ar Qg):=⟨rfl,rfl,rfl,by decide +kernel,rfl,by decide +kernel,by decide +kernel⟩
theorem eP(T:Txt K mg t u):bp P w K mg base cx 3 t.NL u.NG ["entries","index","sub","size","rights","value"] (dz K t):=
 aY T.put.F Ue (fun _ _ _ _ h=>RT h) (fun _ _ _ _ h=>TF T.1 h) fun _ _ _ _ _ _ hr hu=>
 (aj (Nd hu (pv 0) (pf hr T.gG (fP T) (aa (pv 1) (aa (pv 2) ai))) (pn hr T.qo (se T) (aa (pv 3) (aa (cG F8 dP (pv 4) (by with_unfolding_all rfl)) (aa (cG F8 dP (pv 4) (by with_unfolding_all rfl)) (aa ll (aa (pv 5) ai)))))) rfl))
theorem Bp:aA DP ["entries","index"] (ar wD):=⟨rfl,rfl,rfl,by decide +kernel,rfl,by decide +kernel,by decide +kernel⟩
theorem Bg(T:Txt K mg t u):bp P w K mg base cx 4 t.qL u.qH ["entries","index"] (kq K t):=
 aY T.Eu.F Bp (fun _ _ _ _ h=>Hm h) (fun _ _ _ _ h=>J7 T.1 h) fun _ _ _ _ _ _ hr hu=>
 (ah (aG (pf hr T.put (eP T) (aa (pv 0) (aa (pv 1) (aa ak (aa ak (aa dP (aa ak ai))))))))
   (aj (js PassesOwn.never rfl (Ad rfl T.gz (aa ak (aa ak ai))) (cH (i:=2) Bp.nd rfl (Or.inl rfl))
   (aj (aG (pf hr T.put (eP T) (aa (pv 0) (aa (pv 1) (aa (pv 2) (aa ak (aa dP (aa ak ai))))))))))))
theorem GY:aA Br ["entries","place","number"] (ar uu):=⟨rfl,rfl,rfl,by decide +kernel,rfl,by decide +kernel,by decide +kernel⟩
theorem HH(T:Txt K mg t u):bp P w K mg base cx 5 t.nU u.oh ["entries","place","number"] (lG K t):=
 aY T.Gv.F GY (fun _ _ _ _ h=>E6 h) (fun _ _ _ _ h=>Ha T.1 h) fun _ _ _ _ _ _ hr hu=>
 (ah (aG (pf hr T.put (eP T) (aa (pv 0) (aa (aJ bw (aq rfl T.eY ⟨_,rfl⟩) (pv 1)) (aa ak (aa ak (aa dP (aa ak ai))))))))
   (ah (aG (pf hr T.put (eP T) (aa (pv 0) (aa (aJ bw (aq rfl T.eY ⟨_,rfl⟩) (pv 1)) (aa ak (aa ak (aa dP (aa (aJ bw (aJ bw (aJ bw (aq rfl T.Dm ⟨_,rfl⟩) ak) (aJ rm ak (pv 1))) (pv 2)) ai))))))))
   (ah (aG (pf hr T.put (eP T) (aa (pv 0) (aa (aJ bw (aq rfl T.eY ⟨_,rfl⟩) (pv 1)) (aa ak (aa ak (aa dP (aa ak ai))))))))
   (ah (aG (pf hr T.put (eP T) (aa (pv 0) (aa (aJ bw (aq rfl T.eY ⟨_,rfl⟩) (pv 1)) (aa ak (aa ak (aa dP (aa ak ai))))))))
   (ah (aG (pf hr T.put (eP T) (aa (pv 0) (aa (aJ bw (aq rfl T.eY ⟨_,rfl⟩) (pv 1)) (aa ak (aa ak (aa dP (aa ak ai))))))))
   (aj (aG (pf hr T.Eu (Bg T) (aa (pv 0) (aa (aJ bw (aq rfl T.lJ ⟨_,rfl⟩) (pv 1)) ai))))))))))
theorem Fw:aA xQ ["entries","place","number"] (ar qW):=⟨rfl,rfl,rfl,by decide +kernel,rfl,by decide +kernel,by decide +kernel⟩
theorem Fl(T:Txt K mg t u):bp P w K mg base cx 5 t.lK u.ly ["entries","place","number"] (ki K t):=
 aY T.DE.F Fw (fun _ _ _ _ h=>DB h) (fun _ _ _ _ h=>Fb T.1 h) fun _ _ _ _ _ _ hr hu=>
 (ah (aG (pf hr T.put (eP T) (aa (pv 0) (aa (aJ bw (aq rfl T.m5 ⟨_,rfl⟩) (pv 1)) (aa ak (aa ak (aa dP (aa ak ai))))))))
   (ah (aG (pf hr T.put (eP T) (aa (pv 0) (aa (aJ bw (aq rfl T.m5 ⟨_,rfl⟩) (pv 1)) (aa ak (aa ak (aa dP (aa (aJ bw (aJ bw (aJ bw (aq rfl T.Dm ⟨_,rfl⟩) ak) (aJ rm ak (pv 1))) (pv 2)) ai))))))))
   (ah (aG (pf hr T.put (eP T) (aa (pv 0) (aa (aJ bw (aq rfl T.m5 ⟨_,rfl⟩) (pv 1)) (aa ak (aa ak (aa dP (aa ak ai))))))))
   (aj (aG (pf hr T.Eu (Bg T) (aa (pv 0) (aa (aJ bw (aq rfl T.gN ⟨_,rfl⟩) (pv 1)) ai))))))))
theorem iB:aA oH ["number"] (ar jb):=⟨rfl,rfl,rfl,by decide +kernel,rfl,by decide +kernel,by decide +kernel⟩
theorem wL(T:Txt K mg t u):bp P w K mg base cx 6 t.fg u.fq ["number"] (d8 K t):=
 aY T.sC.F iB (fun _ _ _ _ h=>vw h) (fun _ _ _ _ h=>xp T.1 h) fun _ _ _ _ _ _ hr hu=>
 (ah (bc (i:=1) iB.nd rfl (Or.inl rfl) JG)
   (ah (aG (pf hr T.put (eP T) (aa (pv 1) (aa ak (aa ak (aa ak (aa dP (aa ak ai))))))))
   (ah (aG (pf hr T.put (eP T) (aa (pv 1) (aa (aq rfl T.lD ⟨_,rfl⟩) (aa ak (aa ak (aa dP (aa ak ai))))))))
   (ah (aG (pf hr T.put (eP T) (aa (pv 1) (aa (aq rfl T.ML ⟨_,rfl⟩) (aa ak (aa ak (aa dP (aa ak ai))))))))
   (ah (aG (pf hr T.put (eP T) (aa (pv 1) (aa (aq rfl T.oP ⟨_,rfl⟩) (aa ak (aa ak (aa dP (aa (aJ bw ak (pv 0)) ai))))))))
   (ah (aG (pf hr T.put (eP T) (aa (pv 1) (aa (aq rfl T.iH ⟨_,rfl⟩) (aa ak (aa ak (aa dP (aa ak ai))))))))
   (ah (aG (pf hr T.put (eP T) (aa (pv 1) (aa (aq rfl T.iH ⟨_,rfl⟩) (aa ak (aa ak (aa dP (aa ak ai))))))))
   (ah (aG (pf hr T.put (eP T) (aa (pv 1) (aa (aq rfl T.iH ⟨_,rfl⟩) (aa ak (aa ak (aa dP (aa ak ai))))))))
   (ah (aG (pf hr T.put (eP T) (aa (pv 1) (aa (aq rfl T.Hn ⟨_,rfl⟩) (aa ak (aa ak (aa dP (aa ak ai))))))))
   (ah (js PassesOwn.never rfl (gw rfl T.gz (aa (aq rfl T.oT ⟨_,rfl⟩) ai)) (cH (i:=2) iB.nd rfl (Or.inl rfl))
   (ah (aG (pf hr T.DE (Fl T) (aa (pv 1) (aa (pv 2) (aa (pv 0) ai)))))
   (aj (aG (pf hr T.Gv (HH T) (aa (pv 1) (aa (pv 2) (aa (pv 0) ai))))))))
   (aj (aM (pv 1)))))))))))))
theorem AY:aA sx ["value"] (ar kI):=⟨rfl,rfl,rfl,by decide +kernel,rfl,by decide +kernel,by decide +kernel⟩
theorem p9(T:Txt K mg t u):bp P w K mg base cx 1 t.ig u.ie ["value"] (dR K t):=
 aY T.oR.F AY (fun _ _ _ _ h=>y8 h) (fun _ _ _ _ h=>zZ T.1 h) fun _ _ _ _ _ _ hr hu=>
 (aj (aM (aJ da (aJ jR (pv 0) ak) ak)))
theorem zM:aA sE ["value"] (ar kL):=⟨rfl,rfl,rfl,by decide +kernel,rfl,by decide +kernel,by decide +kernel⟩
theorem pG(T:Txt K mg t u):bp P w K mg base cx 1 t.hR u.h7 ["value"] (dZ K t):=
 aY T.o4.F zM (fun _ _ _ _ h=>xV h) (fun _ _ _ _ h=>AH T.1 h) fun _ _ _ _ _ _ hr hu=>
 (aj (aM (aJ da (pv 0) ak)))
theorem ma:aA Bw ["node","ident"] (ar uo):=⟨rfl,rfl,rfl,by decide +kernel,rfl,by decide +kernel,by decide +kernel⟩
theorem IQ(T:Txt K mg t u):bp P w K mg base cx 3 t.nN u.nL ["node","ident"] (lW K t):=
 aY T.FZ.F ma (fun _ _ _ _ h=>ET h) (fun _ _ _ _ h=>Jj T.1 h) fun _ _ _ _ _ _ hr hu=>
 (aj (js PassesOwn.never rfl (gw rfl T.gz (aa ak ai)) (cH (i:=2) ma.nd rfl (Or.inl rfl))
   (ah (bc (i:=3) ma.nd rfl (Or.inl rfl) (pf hr T.cj (bK T) (aa (ay (pv 0) rfl) (aa (aq rfl T.iH ⟨_,rfl⟩) (aa (aJ bw (pv 2) ak) ai)))))
   (ah (bc (i:=4) ma.nd rfl (Or.inl rfl) (Ie (cG fe (pf hr T.oR (p9 T) (aa (pv 3) ai)) ak (aK _)) (CC (cG fe (pf hr T.o4 (pG T) (aa (pv 3) ai)) ak (aK _)))))
   (aj (bf (PW.pt (jc (dQ (pv 4)) (fO (aH bU (pv 1) (aJ bw ak (pf hr T.oR (p9 T) (aa (pv 3) ai))) (aK _)))))
   (aj (tF (ay (pv 0) rfl) (uq (ay (pv 0) rfl) (pv 2) set_list)))
   aO))))))
theorem HW:aA BC ["self","ident","data"] (ar uw):=⟨rfl,rfl,rfl,by decide +kernel,rfl,by decide +kernel,by decide +kernel⟩
theorem jm(T:Txt K mg t u):bp P w K mg base cx 1 t.nQ u.oC ["self","ident","data"] (dj K t):=
 aY T.mh.F HW (fun _ _ _ _ h=>FJ h) (fun _ _ _ _ h=>Jl T.1 h) fun _ _ _ _ _ _ hr hu=>
 (aj (bf (aH mY (bO bA (by rfl) T.iV d6 (aa (ay (pv 0) rfl) ai)) (aq rfl T.HJ ⟨_,rfl⟩) (aK _))
   (aj (aG (DW PySem.F.plainAttrs_list PySem.F.slot_list_append PySem.F.type_list_append GP (ay (pv 0) rfl) (aa (Iu (aa (pv 1) (aa (pv 2) ai))) ai))))
   aO))
theorem m9:aA oy ["self","code"] (ar jg):=⟨rfl,rfl,rfl,by decide +kernel,rfl,by decide +kernel,by decide +kernel⟩
theorem mv(T:Txt K mg t u):bp P w K mg base cx 3 t.fb u.fm ["self","code"] (cW K t):=
 aY T.kU.F m9 (fun _ _ _ _ h=>vr h) (fun _ _ _ _ h=>xy T.1 h) fun _ _ _ _ _ _ hr hu=>
 (ah (bc (i:=2) m9.nd rfl (Or.inl rfl) (pf hr T.cj (bK T) (aa (ay (pv 0) rfl) (aa (aq rfl T.oP ⟨_,rfl⟩) (aa ak ai)))))
   (aj (bf (PW.pt (jc (aH fe (ay (pv 0) rfl) (aq rfl T.zG ⟨_,rfl⟩) (aK _)) (fO (aH mY (pv 2) (aq rfl T.Dm ⟨_,rfl⟩) (aK _)))))
   (aj (aG (pm hr T.ax T.mh (jm T) (pv 0) (aa (pv 2) (aa (pf hr T.filled (va T) (aa (aJ iT (pf hr T.wB (ml T) (aa (pv 1) (aa ak ai))) (bW (aa (pf hr T.cj (bK T) (aa (ay (pv 0) rfl) (aa (aq rfl T.lD ⟨_,rfl⟩) (aa ak ai)))) ai))) (aa ak ai))) ai)))))
   aO)))
end
end Fn
namespace Fn
open PySem L2
section
variable{P:Program}{w:World}{K:PySem.W.Frag}{mg:Str→Option Value}{base:Heap}{t:bh}{u:Rw}
theorem m7:aA nB ["self","code","bit"] (ar iW):=⟨rfl,rfl,rfl,by decide +kernel,rfl,by decide +kernel,by decide +kernel⟩
theorem iC(T:Txt K mg t u):bp P w K mg base cx 4 t.eU u.fi ["self","code","bit"] (cB K t):=
 aY T.iA.F m7 (fun _ _ _ _ h=>vp h) (fun _ _ _ _ h=>wm T.1 h) fun _ _ _ _ _ _ hr hu=>
 (ah (bc (i:=3) m7.nd rfl (Or.inl rfl) (dF hu (ay (pv 0) rfl) (pf hr T.gG (fP T) (aa (aq rfl T.lD ⟨_,rfl⟩) (aa ak ai))) (fun _ _=>rfl)))
   (ah (bC (pv 3) (aJ SV (aJ SV (ay (pv 3) rfl) ak) (aJ T4 ak (pv 2))) rfl)
   (aj (aG (pm hr T.ax T.kU (mv T) (pv 0) (aa (pv 1) ai))))))
theorem fh:aA pY ["node"] (ar jK):=⟨rfl,rfl,rfl,by decide +kernel,rfl,by decide +kernel,by decide +kernel⟩
theorem ym(T:Txt K mg t u):bp P w K mg base cx 5 t.fL u.gv ["node"] (eW K t):=
 aY T.tj.F fh (fun _ _ _ _ h=>we h) (fun _ _ _ _ h=>yZ T.1 h) fun _ _ _ _ _ _ hr hu=>
 (aj (js PassesOwn.never rfl (gw rfl T.gz (aa ak ai)) (cH (i:=1) fh.nd rfl (Or.inl rfl))
   (ah (bc (i:=2) fh.nd rfl (Or.inl rfl) (dv b9 (ay (pv 0) rfl) (pv 1) (fun _ _=>rfl)))
   (ah (bc (i:=3) fh.nd rfl (Or.inl rfl) (pf hr T.o4 (pG T) (aa (pf hr T.cj (bK T) (aa (ay (pv 0) rfl) (aa (aq rfl T.iH ⟨_,rfl⟩) (aa (aJ bw (pv 1) ak) ai)))) ai)))
   (aj (bf (PW.pt (jc (mR (Iw (pv 2))) (fO (aH A5 (aJ fB (ay (pv 0) rfl) (pv 2)) (pv 3) (aK _)))))
   (ah (tF fv (uq (ay (pv 0) rfl) (pv 1) set_list))
   (aj (aG (pm hr T.ax T.iA (iC T) (pv 0) (aa ak (aa ak ai))))))
   aO))))))
theorem Bj:aA EA ["node"] (ar xo):=⟨rfl,rfl,rfl,by decide +kernel,rfl,by decide +kernel,by decide +kernel⟩
theorem Lh(T:Txt K mg t u):bp P w K mg base cx 3 t.rX u.qK ["node"] (nO K t):=
 aY T.Kp.F Bj (fun _ _ _ _ h=>Jf h) (fun _ _ _ _ h=>KI T.1 h) fun _ _ _ _ _ _ hr hu=>
 (ah (bc (i:=1) Bj.nd rfl (Or.inl rfl) (pf hr T.cj (bK T) (aa (ay (pv 0) rfl) (aa (aq rfl T.Hn ⟨_,rfl⟩) (aa ak ai)))))
   (aj (bf (PW.pt (jc (aH fe (pv 1) ak (aK _)) (fO (aH Ju (aJ fB (ay (pv 0) rfl) (ay (pv 0) rfl)) (pv 1) (aK _)))))
   (ah (bC (pv 0) (ay (pv 0) rfl) rfl)
   (aj (aG (pm hr T.ax T.mh (jm T) (pv 0) (aa (aJ bw ak (ay (pv 0) rfl)) (aa (bW (aa (ay (pv 0) rfl) ai)) ai))))))
   aO)))
theorem wd:aA oa ["self"] (ar jy):=⟨rfl,rfl,rfl,by decide +kernel,rfl,by decide +kernel,by decide +kernel⟩
theorem nA(T:Txt K mg t u):bp P w K mg base cx 1 t.eV u.eZ ["self"] (c6 K t):=
 aY T.kY.F wd (fun _ _ _ _ h=>vv h) (fun _ _ _ _ h=>xi T.1 h) fun _ _ _ _ _ _ hr hu=>
 (ah (bC (pv 0) ak rfl)
   (ah (bC (pv 0) (ay (pv 0) rfl) rfl)
   (aj (bC (pv 0) (aJ Hz (bW (aa fv ai)) (aq rfl T.oT ⟨_,rfl⟩)) rfl))))
theorem sL:aA ku ["self"] (ar fA):=⟨rfl,rfl,rfl,by decide +kernel,rfl,by decide +kernel,by decide +kernel⟩
theorem jH(T:Txt K mg t u):bp P w K mg base cx 7 t.dt u.du ["self"] (cz K t):=
 aY T.iD.F sL (fun _ _ _ _ h=>qr h) (fun _ _ _ _ h=>sS T.1 h) fun _ _ _ _ _ _ hr hu=>
 (ah (aG (DW PySem.F.plainAttrs_dict PySem.F.slot_dict_update PySem.F.type_dict_update Ob (ay (pv 0) rfl) (aa (pf hr T.sC (wL T) (aa (ay (pv 0) rfl) ai)) ai)))
   (ah (bC (pv 0) (aq rfl T.vO ⟨_,rfl⟩) rfl)
   (ah (bC (pv 0) fv rfl)
   (ah (bC (pv 0) (aJ Hz (bW (aa fv ai)) (aq rfl T.oT ⟨_,rfl⟩)) rfl)
   (ah (bC (pv 0) (aJ Hz (bW (aa ll ai)) (aq rfl T.oT ⟨_,rfl⟩)) rfl)
   (ah (bC (pv 0) (bW (aa fv (aa fv ai))) rfl)
   (ah (bC (pv 0) (ay (pv 0) rfl) rfl)
   (ah (aG (Cy hr T.ax T.kY (nA T) (pv 0)))
   (aj (aG (pm hr T.ax T.mh (jm T) (pv 0) (aa (aJ bw ak (ay (pv 0) rfl)) (aa (bW (aa ak ai)) ai)))))))))))))
theorem xE:aA pH ["self"] (ar jS):=⟨rfl,rfl,rfl,by decide +kernel,rfl,by decide +kernel,by decide +kernel⟩
theorem oB(T:Txt K mg t u):bp P w K mg base cx 8 t.gn u.fU ["self"] (dw K t):=
 aY T.my.F xE (fun _ _ _ _ h=>xa h) (fun _ _ _ _ h=>xF T.1 h) fun _ _ _ _ _ _ hr hu=>
 (ah (bC (pv 0) (pf hr T.v8 (zU T) (aa (ay (pv 0) rfl) ai)) rfl)
   (aj (aG (Cy hr T.ax T.iD (jH T) (pv 0)))))
theorem Dp:aA vF ["self","number","table"] (ar o7):=⟨rfl,rfl,rfl,by decide +kernel,rfl,by decide +kernel,by decide +kernel⟩
theorem Dx(T:Txt K mg t u):bp P w K mg base cx 9 t.jX u.j0 ["self","number","table"] (jq K t):=
 aY T.Bm.F Dp (fun _ _ _ _ h=>BK h) (fun _ _ _ _ h=>C8 T.1 h) fun _ _ _ _ _ _ hr hu=>
 (ah (bC (pv 0) (pv 1) rfl)
   (ah (bC (pv 0) (Gz yS (by rfl) T.QD MQ (aa (pv 2) ai)) rfl)
   (ah (bC (pv 0) ak rfl)
   (ah (bC (pv 0) (bW ai) rfl)
   (aj (aG (Cy hr T.ax T.my (oB T) (pv 0))))))))
theorem uI:aA lj ["self"] (ar gH):=⟨rfl,rfl,rfl,by decide +kernel,rfl,by decide +kernel,by decide +kernel⟩
theorem uA(T:Txt K mg t u):bp P w K mg base cx 4 t.dC u.dE ["self"] (di K t):=
 aY T.nW.F uI (fun _ _ _ _ h=>sT h) (fun _ _ _ _ h=>sX T.1 h) fun _ _ _ _ _ _ hr hu=>
 (ah (bC (dF hu (ay (pv 0) rfl) (pf hr T.gG (fP T) (aa (aq rfl T.lD ⟨_,rfl⟩) (aa ak ai))) (fun _ _=>rfl)) ak rfl)
   (aj (aG (pm hr T.ax T.kU (mv T) (pv 0) (aa ak ai)))))
theorem jr:aA o8 ["entries","index"] (ar kf):=⟨rfl,rfl,rfl,by decide +kernel,rfl,by decide +kernel,by decide +kernel⟩
theorem iS(T:Txt K mg t u):bp P w K mg base cx 3 t.j6 u.j4 ["entries","index"] (cY K t):=
 aY T.kD.F jr (fun _ _ _ _ h=>BS h) (fun _ _ _ _ h=>DX T.1 h) fun _ _ _ _ _ _ hr hu=>
 (ah (bc (i:=2) jr.nd rfl (Or.inl rfl) (pf hr T.cj (bK T) (aa (pv 0) (aa (pv 1) (aa ak ai)))))
   (aj (aM (GF (own:=[("sub",3)]) rfl jr.nd (Ad rfl T.gz (aa ak (aa (aJ bw (pv 2) ak) ai))) (mV (N:=o8) (sc:=ar kf) (by decide +kernel)) (fun _ _ _ _ _=>cH (i:=3) jr.nd rfl (Or.inl rfl)) (fun _ _ _ _ _=>rQ) (fun _ _ _ _ _=>(aJ jR (pf hr T.cj (bK T) (aa (pv 0) (aa (pv 1) (aa (pv 3) ai)))) ak))))))
theorem kQ:aA mK ["entries","index"] (ar ja):=⟨rfl,rfl,rfl,by decide +kernel,rfl,by decide +kernel,by decide +kernel⟩
theorem sj(T:Txt K mg t u):bp P w K mg base cx 4 t.i7 u.iU ["entries","index"] (eE K t):=
 aY T.rl.F kQ (fun _ _ _ _ h=>AF h) (fun _ _ _ _ h=>B3 T.1 h) fun _ _ _ _ _ _ hr hu=>
 (aj (aM (bO (PX rfl) (by rfl) T.S2 Q1 (aa (GF (own:=[("key",2)]) rfl kQ.nd (uZ (pf hr T.kD (iS T) (aa (pv 0) (aa (pv 1) ai)))) (mV (N:=mK) (sc:=ar ja) (by decide +kernel)) (fun _ _ _ _ _=>cH (i:=2) kQ.nd rfl (Or.inl rfl)) (fun _ _ _ _ _=>rQ) (fun _ _ _ _ _=>(ay (dF hu (pv 0) (pv 2) (fun _ _=>rfl)) rfl))) ai))))
theorem zF:aA Kl ["node","key","value"] (ar DQ):=⟨rfl,rfl,rfl,by decide +kernel,rfl,by decide +kernel,by decide +kernel⟩
theorem AR(T:Txt K mg t u):bp P w K mg base cx 4 t.zd u.xP ["node","key","value"] (mm K t):=
 aY T.change.F zF (fun _ _ _ _ h=>LD h) (fun _ _ _ _ h=>Ou T.1 h) fun _ _ _ _ _ _ hr hu=>
 (ah (bc (i:=3) zF.nd rfl (Or.inl rfl) (dF hu (ay (pv 0) rfl) (pv 1) (fun _ _=>rfl)))
   (ah (bf (aH bU (ay (pv 3) rfl) (pv 2) (aK _))
   (aj uL)
   aO)
   (ah (bC (pv 3) (pv 2) rfl)
   (aj (js PassesOwn.never rfl (gw rfl T.gz (aa (aq rfl T.oT ⟨_,rfl⟩) ai)) (cH (i:=4) zF.nd rfl (Or.inl rfl))
   (aj (bf (aH vj (pv 1) (pf hr T.kD (iS T) (aa (ay (pv 0) rfl) (aa (aJ bw (aq rfl T.lJ ⟨_,rfl⟩) (pv 4)) ai))) (by with_unfolding_all rfl))
   (aj (tF ll (uq (ay (pv 0) rfl) (pv 4) set_list)))
   aO)))))))
theorem si:aA sU ["node","ident"] (ar m6):=⟨rfl,rfl,rfl,by decide +kernel,rfl,by decide +kernel,by decide +kernel⟩
theorem sd(T:Txt K mg t u):bp P w K mg base cx 3 t.jt u.iZ ["node","ident"] (eD K t):=
 aY T.rp.F si (fun _ _ _ _ h=>Ay h) (fun _ _ _ _ h=>BX T.1 h) fun _ _ _ _ _ _ hr hu=>
 (ah (js PassesOwn.never rfl (gw rfl T.gz (aa (aq rfl T.oT ⟨_,rfl⟩) ai)) (cH (i:=2) si.nd rfl (Or.inl rfl))
   (aj (bf (aH bU (pf hr T.cj (bK T) (aa (ay (pv 0) rfl) (aa (aJ bw (aq rfl T.m5 ⟨_,rfl⟩) (pv 2)) (aa ak ai)))) (pv 1) (aK _))
   (aj (aM (pv 2)))
   aO)))
   (aj (aM fv)))
end
end Fn
namespace Fn
open PySem L2
section
variable{P:Program}{w:World}{K:PySem.W.Frag}{mg:Str→Option Value}{base:Heap}{t:bh}{u:Rw}
theorem p7:aA J3 ["node","place","data"] (ar Eh):=⟨rfl,rfl,rfl,by decide +kernel,rfl,by decide +kernel,by decide +kernel⟩
theorem GK(T:Txt K mg t u):bp P w K mg base cx 5 t.zl u.yo ["node","place","data"] (pZ K t):=
 aY T.spread.F p7 (fun _ _ _ _ h=>Ms h) (fun _ _ _ _ h=>OO T.1 h) fun _ _ _ _ _ _ hr hu=>
 (ah (bc (i:=3) p7.nd rfl (Or.inl rfl) ak)
   (aj (js PassesOwn.never rfl (uZ (pf hr T.kD (iS T) (aa (ay (pv 0) rfl) (aa (aJ bw (aq rfl T.gN ⟨_,rfl⟩) (pv 1)) ai)))) (cH (i:=4) p7.nd rfl (Or.inl rfl))
   (ah (bc (i:=5) p7.nd rfl (Or.inl rfl) (ay (dF hu (ay (pv 0) rfl) (pv 4) (fun _ _=>rfl)) rfl))
   (ah (aG (pf hr T.change (AR T) (aa (pv 0) (aa (pv 4) (aa (pf hr T.iQ (eh T) (aa (eA iq (pv 2) (cu (pv 3)) (cu (aJ bw (pv 3) (pv 5)))) ai)) ai)))))
   (aj (TK (i:=3) p7.nd rfl (Or.inl rfl) (pv 5) Ug)))))))
theorem Dd:aA vJ ["node","place","data"] (ar pq):=⟨rfl,rfl,rfl,by decide +kernel,rfl,by decide +kernel,by decide +kernel⟩
theorem C3(T:Txt K mg t u):bp P w K mg base cx 6 t.kc u.kb ["node","place","data"] (jf K t):=
 aY T.A7.F Dd (fun _ _ _ _ h=>BQ h) (fun _ _ _ _ h=>CW T.1 h) fun _ _ _ _ _ _ hr hu=>
 (aj (bf (aH mY (bO bA (by rfl) T.iV d6 (aa (pv 2) ai)) (pf hr T.rl (sj T) (aa (ay (pv 0) rfl) (aa (aJ bw (aq rfl T.gN ⟨_,rfl⟩) (pv 1)) ai))) (aK _))
   (aj (aG (pm hr T.ax T.iA (iC T) (pv 0) (aa ak (aa ak ai)))))
   (aj (bf (aH mY (pf hr T.cj (bK T) (aa (ay (pv 0) rfl) (aa (aJ bw (aq rfl T.m5 ⟨_,rfl⟩) (pv 1)) (aa ak ai)))) (aq rfl T.jx ⟨_,rfl⟩) (aK _))
   (aj (tF (Gz yS (by rfl) T.QD MQ (aa (pv 2) ai)) (uq (ay (pv 0) rfl) (pv 1) set_list)))
   (aj (aG (pf hr T.spread (GK T) (aa (pv 0) (aa (pv 1) (aa (pv 2) ai))))))))))
theorem xS:aA Bf ["node","place"] (ar ub):=⟨rfl,rfl,rfl,by decide +kernel,rfl,by decide +kernel,by decide +kernel⟩
theorem IY(T:Txt K mg t u):bp P w K mg base cx 3 t.n9 u.nY ["node","place"] (lR K t):=
 aY T.Gy.F xS (fun _ _ _ _ h=>Fz h) (fun _ _ _ _ h=>Ih T.1 h) fun _ _ _ _ _ _ hr hu=>
 (ah (bc (i:=2) xS.nd rfl (Or.inl rfl) (pf hr T.cj (bK T) (aa (ay (pv 0) rfl) (aa (aJ bw (aq rfl T.eY ⟨_,rfl⟩) (pv 1)) (aa ak ai)))))
   (ah (bf (aH bU (pv 2) ak (aK _))
   (aj (aM (dv b9 (ay (pv 0) rfl) (pv 1) (fun _ _=>rfl))))
   aO)
   (aj (aM (Ie (cG mY (pv 2) (aq rfl T.jx ⟨_,rfl⟩) (aK _)) (CC (cG bU (aJ QR (ay (pv 0) rfl) (pv 2)) ak (aK _))))))))
theorem Qx:aA M7 ["node","place"] (ar HI):=⟨rfl,rfl,rfl,by decide +kernel,rfl,by decide +kernel,by decide +kernel⟩
theorem K9(T:Txt K mg t u):bp P w K mg base cx 3 t.Cr u.Cp ["node","place"] (uy K t):=
 aY T.PH.F Qx (fun _ _ _ _ h=>Oa h) (fun _ _ _ _ h=>Pf T.1 h) fun _ _ _ _ _ _ hr hu=>
 (aj (aM (cG mY (pf hr T.cj (bK T) (aa (ay (pv 0) rfl) (aa (aJ bw (aq rfl T.eY ⟨_,rfl⟩) (pv 1)) (aa ak ai)))) (aq rfl T.Dm ⟨_,rfl⟩) (aK _))))
theorem tW:aA EH ["node","place"] (ar wM):=⟨rfl,rfl,rfl,by decide +kernel,rfl,by decide +kernel,by decide +kernel⟩
theorem Bv(T:Txt K mg t u):bp P w K mg base cx 4 t.rB u.rH ["node","place"] (kB K t):=
 aY T.DH.F tW (fun _ _ _ _ h=>IJ h) (fun _ _ _ _ h=>Kc T.1 h) fun _ _ _ _ _ _ hr hu=>
 (ah (bc (i:=2) tW.nd rfl (Or.inl rfl) (bW ai))
   (ah (js PassesOwn.never rfl (uZ (pf hr T.kD (iS T) (aa (ay (pv 0) rfl) (aa (aJ bw (aq rfl T.lJ ⟨_,rfl⟩) (pv 1)) ai)))) (cH (i:=3) tW.nd rfl (Or.inl rfl))
   (aj (aG (DW PySem.F.plainAttrs_list PySem.F.slot_list_extend PySem.F.type_list_extend Ar (pv 2) (aa (pf hr T.wB (ml T) (aa (ay (dF hu (ay (pv 0) rfl) (pv 3) (fun _ _=>rfl)) rfl) (aa (ay (dF hu (ay (pv 0) rfl) (pv 3) (fun _ _=>rfl)) rfl) ai))) ai)))))
   (ah (aG (pm hr T.ax T.mh (jm T) (pv 0) (aa (pf hr T.cj (bK T) (aa (ay (pv 0) rfl) (aa (aJ bw (aq rfl T.eY ⟨_,rfl⟩) (pv 1)) (aa ak ai)))) (aa (pv 2) ai))))
   (ah (tF ll (uq (ay (pv 0) rfl) (pv 1) set_list))
   (aj (tF (ay (pv 0) rfl) (uq (ay (pv 0) rfl) (pv 1) set_list)))))))
theorem yP:aA A8 ["node","place"] (ar ux):=⟨rfl,rfl,rfl,by decide +kernel,rfl,by decide +kernel,by decide +kernel⟩
theorem Jh(T:Txt K mg t u):bp P w K mg base cx 6 t.oI u.nR ["node","place"] (lI K t):=
 aY T.FU.F yP (fun _ _ _ _ h=>FG h) (fun _ _ _ _ h=>IT T.1 h) fun _ _ _ _ _ _ hr hu=>
 (ah (bc (i:=2) yP.nd rfl (Or.inl rfl) (dv b9 (ay (pv 0) rfl) (pv 1) (fun _ _=>rfl)))
   (ah (tF fv (uq (ay (pv 0) rfl) (pv 1) set_list))
   (aj (bf (PW.pt (jc (mR (Iw (pv 2))) (fO (aH Ju (bO bA (by rfl) T.iV d6 (aa (pv 2) ai)) (pf hr T.rl (sj T) (aa (ay (pv 0) rfl) (aa (aJ bw (aq rfl T.gN ⟨_,rfl⟩) (pv 1)) ai))) (aK _)))))
   (aj (aG (pf hr T.spread (GK T) (aa (pv 0) (aa (pv 1) (aa (pv 2) ai))))))
   aO))))
theorem qA:aA Bc ["node"] (ar tD):=⟨rfl,rfl,rfl,by decide +kernel,rfl,by decide +kernel,by decide +kernel⟩
theorem HN(T:Txt K mg t u):bp P w K mg base cx 7 t.oJ u.oG ["node"] (lY K t):=
 aY T.F5.F qA (fun _ _ _ _ h=>Fs h) (fun _ _ _ _ h=>HX T.1 h) fun _ _ _ _ _ _ hr hu=>
 (ah (bC (pv 0) (aJ da (aJ bw (ay (pv 0) rfl) ak) ak) rfl)
   (ah (js PassesOwn.never rfl (gw rfl T.gz (aa (aq rfl T.oT ⟨_,rfl⟩) ai)) (cH (i:=1) qA.nd rfl (Or.inl rfl))
   (aj (aG (pf hr T.FU (Jh T) (aa (pv 0) (aa (pv 1) ai))))))
   (aj (js PassesOwn.never rfl (gw rfl T.gz (aa (aq rfl T.oT ⟨_,rfl⟩) ai)) (cH (i:=1) qA.nd rfl (Or.inl rfl))
   (aj (bf (PW.pt (jc (dQ (pf hr T.PH (K9 T) (aa (pv 0) (aa (pv 1) ai)))) (fO (dQ (pf hr T.Gy (IY T) (aa (pv 0) (aa (pv 1) ai)))))))
   (aj (aG (pf hr T.DH (Bv T) (aa (pv 0) (aa (pv 1) ai)))))
   aO))))))
theorem j2:aA yx ["node","place"] (ar qD):=⟨rfl,rfl,rfl,by decide +kernel,rfl,by decide +kernel,by decide +kernel⟩
theorem EZ(T:Txt K mg t u):bp P w K mg base cx 3 t.lz u.lN ["node","place"] (jY K t):=
 aY T.DS.F j2 (fun _ _ _ _ h=>D0 h) (fun _ _ _ _ h=>ER T.1 h) fun _ _ _ _ _ _ hr hu=>
 (ah (bc (i:=2) j2.nd rfl (Or.inl rfl) (pf hr T.cj (bK T) (aa (ay (pv 0) rfl) (aa (aJ bw (aq rfl T.eY ⟨_,rfl⟩) (pv 1)) (aa ak ai)))))
   (ah (bc (i:=3) j2.nd rfl (Or.inl rfl) (dv b9 (ay (pv 0) rfl) (pv 1) (fun _ _=>rfl)))
   (ah (bc (i:=4) j2.nd rfl (Or.inl rfl) (gJ (mR (tM (pv 3))) (ay (pv 0) rfl) (pv 3)))
   (aj (aM (Ie (cG fe (pv 2) ak (aK _)) (CC (cG Ju (aJ fB (ay (pv 0) rfl) (pv 4)) (pv 2) (aK _)))))))))
theorem Gj:aA Lf ["node","place"] (ar DC):=⟨rfl,rfl,rfl,by decide +kernel,rfl,by decide +kernel,by decide +kernel⟩
theorem O1(T:Txt K mg t u):bp P w K mg base cx 4 t.zw u.yu ["node","place"] (vg K t):=
 aY T.P1.F Gj (fun _ _ _ _ h=>LY h) (fun _ _ _ _ h=>O5 T.1 h) fun _ _ _ _ _ _ hr hu=>
 (ah (bf (aH mY (pf hr T.cj (bK T) (aa (ay (pv 0) rfl) (aa (aJ bw (aq rfl T.eY ⟨_,rfl⟩) (pv 1)) (aa ak ai)))) (aq rfl T.jx ⟨_,rfl⟩) (aK _))
   (aj (aM ll))
   aO)
   (ah (bc (i:=2) Gj.nd rfl (Or.inl rfl) (dv b9 (ay (pv 0) rfl) (pv 1) (fun _ _=>rfl)))
   (ah (bf (PW.pt (jc (iG (dQ (dv b9 (ay (pv 0) rfl) (pv 1) (fun _ _=>rfl)))) (fO (iG (dQ (pf hr T.DS (EZ T) (aa (pv 0) (aa (pv 1) ai))))))))
   (aj (aM ll))
   aO)
   (aj (aM (Vi (TB (tM (pv 2))) (CC (cG Ju (aJ fB (ay (pv 0) rfl) (pv 2)) (pf hr T.cj (bK T) (aa (ay (pv 0) rfl) (aa (aJ bw (aq rfl T.eY ⟨_,rfl⟩) (pv 1)) (aa ak ai)))) (aK _)))))))))
theorem pP:aA sF ["node"] (ar kN):=⟨rfl,rfl,rfl,by decide +kernel,rfl,by decide +kernel,by decide +kernel⟩
theorem pI(T:Txt K mg t u):bp P w K mg base cx 5 t.hV u.ic ["node"] (dX K t):=
 aY T.o6.F pP (fun _ _ _ _ h=>zm h) (fun _ _ _ _ h=>Am T.1 h) fun _ _ _ _ _ _ hr hu=>
 (ah (bf (aH fe (ay (pv 0) rfl) (aq rfl T.pU ⟨_,rfl⟩) (aK _))
   (aj uL)
   aO)
   (aj (js PassesOwn.never rfl (gw rfl T.gz (aa (aq rfl T.oT ⟨_,rfl⟩) ai)) (cH (i:=1) pP.nd rfl (Or.inl rfl))
   (aj (bf (PW.pt (jc (dQ (pf hr T.PH (K9 T) (aa (pv 0) (aa (pv 1) ai)))) (fO (dQ (pf hr T.P1 (O1 T) (aa (pv 0) (aa (pv 1) ai)))))))
   (aj (aG (pf hr T.DH (Bv T) (aa (pv 0) (aa (pv 1) ai)))))
   aO)))))
theorem ua:aA vK ["entries","way","value"] (ar pB):=⟨rfl,rfl,rfl,by decide +kernel,rfl,by decide +kernel,by decide +kernel⟩
theorem Dc(T:Txt K mg t u):bp P w K mg base cx 1 t.kh u.j8 ["entries","way","value"] (i5 K t):=
 aY T.Bk.F ua (fun _ _ _ _ h=>Cg h) (fun _ _ _ _ h=>El T.1 h) fun _ _ _ _ _ _ hr hu=>
 (ah (bc (i:=3) ua.nd rfl (Or.inl rfl) (Kn hu (pv 0) (aJ jR (pv 2) ak) ⟨rfl,rfl,rfl,rfl⟩))
   (ah (bf (PW.pt (vQ (mR (tM (pv 3))) (vQ (iG (dQ (ay (pv 3) rfl))) (qM (aH fe (aJ rm (ay (pv 3) rfl) ak) (aJ da (pv 2) ak) (aK _))))))
   (aj (aM ll))
   aO)
   (aj (aM (gJ (aH Ju (pv 1) (aq rfl T.eY ⟨_,rfl⟩) (aK _)) (ay (pv 3) rfl) (ay (pv 3) rfl))))))
theorem dJ:aA iz ["entries","index","count"] (ar el):=⟨rfl,rfl,rfl,by decide +kernel,rfl,by decide +kernel,by decide +kernel⟩
theorem Ao(T:Txt K mg t u):bp P w K mg base cx 3 t.hU u.ik ["entries","index","count"] (fT K t):=
 aY T.vB.F dJ (fun _ _ _ _ h=>yI h) (fun _ _ _ _ h=>Ae T.1 h) fun _ _ _ _ _ _ hr hu=>
 (ah (bf (aH A5 (pv 2) ak (aK _))
   (aj (aM (aq rfl T.oV ⟨_,rfl⟩)))
   aO)
   (ah (QF (i:=3) (own:=[("sub",4)]) rfl dJ.nd rfl rfl (RK rfl rfl rfl rfl) (Ad rfl T.gz (aa ak (aa (aJ bw (pv 2) ak) ai))) (mV (N:=iz) (sc:=ar el) (by decide +kernel)) (fun _ _ _ _ _=>cH (i:=4) dJ.nd rfl (Or.inl rfl)) (fun _ _ _ _ _=>rQ) (fun _ _ _ _ _=>(pf hr T.cj (bK T) (aa (pv 0) (aa (pv 1) (aa (pv 4) ai))))))
   (ah (bf (PW.pt (vQ (aH vj ak (pv 3) (by with_unfolding_all rfl)) (qM (aH A5 (bO (PX rfl) (by rfl) T.S2 Q1 (aa (GF (own:=[("value",5)]) rfl dJ.nd (uZ (pv 3)) (mV (N:=iz) (sc:=ar el) (by decide +kernel)) (fun _ _ _ _ _=>cH (i:=5) dJ.nd rfl (Or.inl rfl)) (fun _ _ _ _ _=>rQ) (fun _ _ _ _ _=>(aJ da (pv 5) ak))) ai)) ak (aK _)))))
   (aj (aM (aq rfl T.xK ⟨_,rfl⟩)))
   aO)
   (aj (aM (aq rfl T.rE ⟨_,rfl⟩))))))
end
end Fn
namespace Fn
open PySem L2
section
variable{P:Program}{w:World}{K:PySem.W.Frag}{mg:Str→Option Value}{base:Heap}{t:bh}{u:Rw}
theorem iY:aA pF ["entries","way","key","value"] (ar jO):=⟨rfl,rfl,rfl,by decide +kernel,rfl,by decide +kernel,by decide +kernel⟩
theorem ou(T:Txt K mg t u):bp P w K mg base cx 4 t.fN u.f9 ["entries","way","key","value"] (dy K t):=
 aY T.mB.F iY (fun _ _ _ _ h=>wQ h) (fun _ _ _ _ h=>yK T.1 h) fun _ _ _ _ _ _ hr hu=>
 (ah (bc (i:=4) iY.nd rfl (Or.inl rfl) (aJ jR (pv 2) ak))
   (ah (bc (i:=5) iY.nd rfl (Or.inl rfl) (aJ da (pv 2) ak))
   (ah (bf (aH mY (pf hr T.cj (bK T) (aa (pv 0) (aa (pv 1) (aa ak ai)))) (aq rfl T.Dm ⟨_,rfl⟩) (aK _))
   (aj (aM (aq rfl T.A1 ⟨_,rfl⟩)))
   aO)
   (ah (bf (aH bU (pv 5) ak (aK _))
   (aj (aM (pf hr T.vB (Ao T) (aa (pv 0) (aa (pv 4) (aa (pv 3) ai))))))
   aO)
   (ah (bf (aH fe (pf hr T.cj (bK T) (aa (pv 0) (aa (pv 4) (aa ak ai)))) ak (aK _))
   (aj (aM (aq rfl T.A1 ⟨_,rfl⟩)))
   aO)
   (aj (aM (gJ (dQ (pf hr T.Bk (Dc T) (aa (pv 0) (aa (pv 1) (aa (pv 3) ai))))) (aq rfl T.rE ⟨_,rfl⟩) (aq rfl T.Ey ⟨_,rfl⟩)))))))))
theorem Lk:aA CQ ["is_wrong"] (ar xk):=⟨rfl,rfl,rfl,by decide +kernel,rfl,by decide +kernel,by decide +kernel⟩
theorem nJ(T:Txt K mg t u):bp P w K mg base cx 1 t.qi u.rq ["is_wrong"] (fG K t):=
 aY T.tK.F Lk (fun _ _ _ _ h=>IW h) (fun _ _ _ _ h=>K7 T.1 h) fun _ _ _ _ _ _ hr hu=>
 (aj (aM (gJ (dQ (pv 0)) (aq rfl T.oV ⟨_,rfl⟩) (aq rfl T.rE ⟨_,rfl⟩))))
theorem AD:aA so ["present","value"] (ar kO):=⟨rfl,rfl,rfl,by decide +kernel,rfl,by decide +kernel,by decide +kernel⟩
theorem A3(T:Txt K mg t u):bp P w K mg base cx 1 t.hY u.iw ["present","value"] (fR K t):=
 aY T.vW.F AD (fun _ _ _ _ h=>yY h) (fun _ _ _ _ h=>AK T.1 h) fun _ _ _ _ _ _ hr hu=>
 (ah (bf (PW.pt (vQ (aH fe (aJ da (pv 1) (aq rfl T.sA ⟨_,rfl⟩)) ak (aK _)) (qM (iG (pQ kj kj ak (aJ da (pv 1) (aq rfl T.NR ⟨_,rfl⟩)) ak)))))
   (aj (aM (aq rfl T.oV ⟨_,rfl⟩)))
   aO)
   (ah (bf (PW.pt (jc (aH mY (pv 0) (aq rfl T.Dm ⟨_,rfl⟩) (aK _)) (jc (aH mY (pv 1) (aq rfl T.Dm ⟨_,rfl⟩) (aK _)) (fO (aH fe (pv 0) (pv 1) (aK _))))))
   (aj (aM (aq rfl T.A1 ⟨_,rfl⟩)))
   aO)
   (aj (aM (aq rfl T.rE ⟨_,rfl⟩)))))
theorem DO:aA wa ["present","sub","value"] (ar oN):=⟨rfl,rfl,rfl,by decide +kernel,rfl,by decide +kernel,by decide +kernel⟩
theorem CP(T:Txt K mg t u):bp P w K mg base cx 2 t.j5 u.j1 ["present","sub","value"] (jC K t):=
 aY T.Bt.F DO (fun _ _ _ _ h=>B4 h) (fun _ _ _ _ h=>C2 T.1 h) fun _ _ _ _ _ _ hr hu=>
 (ah (bf (aH bU (pv 1) ak (aK _))
   (aj (aM (pf hr T.vW (A3 T) (aa (pv 0) (aa (pv 2) ai)))))
   aO)
   (ah (bf (aH bU (pv 1) ak (aK _))
   (aj (aM (pf hr T.tK (nJ T) (aa (J0 mY mY ak (pv 2) (aq rfl T.jx ⟨_,rfl⟩)) ai))))
   aO)
   (aj (aM (aq rfl T.rE ⟨_,rfl⟩)))))
theorem gA:aA sq ["entries","key","value"] (ar kT):=⟨rfl,rfl,rfl,by decide +kernel,rfl,by decide +kernel,by decide +kernel⟩
theorem zD(T:Txt K mg t u):bp P w K mg base cx 5 t.hZ u.gV ["entries","key","value"] (gi K t):=
 aY T.vD.F gA (fun _ _ _ _ h=>xU h) (fun _ _ _ _ h=>zQ T.1 h) fun _ _ _ _ _ _ hr hu=>
 (ah (bc (i:=3) gA.nd rfl (Or.inl rfl) (aJ jR (pv 1) ak))
   (ah (bc (i:=4) gA.nd rfl (Or.inl rfl) (aJ da (pv 1) ak))
   (ah (bc (i:=5) gA.nd rfl (Or.inl rfl) (aJ QR (pv 3) (aq rfl T.oT ⟨_,rfl⟩)))
   (ah (bf (aH bU (pv 3) (aq rfl T.ML ⟨_,rfl⟩) (aK _))
   (aj (aM (pf hr T.tK (nJ T) (aa (cG A5 (pv 2) (aq rfl T.NR ⟨_,rfl⟩) (aK _)) ai))))
   aO)
   (ah (bf (aH bU (pv 3) (aq rfl T.oP ⟨_,rfl⟩) (aK _))
   (aj (aM (pf hr T.tK (nJ T) (aa (cG fe (aJ da (pv 2) (aq rfl T.sA ⟨_,rfl⟩)) ak (aK _)) ai))))
   aO)
   (ah (bf (aH bU (pv 3) (aq rfl T.iH ⟨_,rfl⟩) (aK _))
   (aj (aM (pf hr T.tK (nJ T) (aa (cG fe (aJ da (pv 2) (aq rfl T.BM ⟨_,rfl⟩)) ak (aK _)) ai))))
   aO)
   (ah (bf (aH vj (aJ fB (pv 3) (pv 5)) (Iu (aa (aq rfl T.m5 ⟨_,rfl⟩) (aa (aq rfl T.eY ⟨_,rfl⟩) ai))) (by with_unfolding_all rfl))
   (aj (aM (pf hr T.Bt (CP T) (aa (ay (dF hu (pv 0) (pv 1) (fun _ _=>rfl)) rfl) (aa (pv 4) (aa (pv 2) ai))))))
   aO)
   (ah (bf (aH bU (aJ fB (pv 3) (pv 5)) (aq rfl T.gN ⟨_,rfl⟩) (aK _))
   (aj (aM (pf hr T.mB (ou T) (aa (pv 0) (aa (aJ bw (aq rfl T.m5 ⟨_,rfl⟩) (pv 5)) (aa (pv 1) (aa (pv 2) ai)))))))
   aO)
   (ah (bf (aH bU (aJ fB (pv 3) (pv 5)) (aq rfl T.lJ ⟨_,rfl⟩) (aK _))
   (aj (aM (pf hr T.mB (ou T) (aa (pv 0) (aa (aJ bw (aq rfl T.eY ⟨_,rfl⟩) (pv 5)) (aa (pv 1) (aa (pv 2) ai)))))))
   aO)
   (aj (aM (aq rfl T.rE ⟨_,rfl⟩))))))))))))
theorem CU:aA vL ["self","is_set","key","row"] (ar oM):=⟨rfl,rfl,rfl,by decide +kernel,rfl,by decide +kernel,by decide +kernel⟩
theorem ug(T:Txt K mg t u):bp P w K mg base cx 1 t.jZ u.j9 ["self","is_set","key","row"] (fF K t):=
 aY T.tw.F CU (fun _ _ _ _ h=>BF h) (fun _ _ _ _ h=>C5 T.1 h) fun _ _ _ _ _ _ hr hu=>
 (ah (bC (pv 0) (pv 1) rfl)
   (ah (bC (pv 0) (pv 2) rfl)
   (ah (bC (pv 0) (pv 3) rfl)
   (aj (bC (pv 0) ak rfl)))))
theorem L0:aA GO ["key"] (ar AN):=⟨rfl,rfl,rfl,by decide +kernel,rfl,by decide +kernel,by decide +kernel⟩
theorem mq(T:Txt K mg t u):bp P w K mg base cx 2 t.vd u.uV ["key"] (fz K t):=
 aY T.vf.F L0 (fun _ _ _ _ h=>JJ h) (fun _ _ _ _ h=>Mw T.1 h) fun _ _ _ _ _ _ hr hu=>
 (aj (aM (aJ iT (pf hr T.wB (ml T) (aa (aJ jR (pv 0) ak) (aa ak ai))) (bW (aa (aJ da (pv 0) ak) ai)))))
theorem Ru:aA Nz ["node","data"] (ar HR):=⟨rfl,rfl,rfl,by decide +kernel,rfl,by decide +kernel,by decide +kernel⟩
theorem mn(T:Txt K mg t u):bp P w K mg base cx 2 t.Cv u.Co ["node","data"] (eu K t):=
 aY T.A6.F Ru (fun _ _ _ _ h=>NX h) (fun _ _ _ _ h=>Rc T.1 h) fun _ _ _ _ _ _ hr hu=>
 (aj (aG (pm hr T.ax T.mh (jm T) (pv 0) (aa (aJ bw ak (ay (pv 0) rfl)) (aa (pf hr T.filled (va T) (aa (pv 1) (aa ak ai))) ai)))))
theorem Qn:aA Nj ["node","key","code"] (ar ID):=⟨rfl,rfl,rfl,by decide +kernel,rfl,by decide +kernel,by decide +kernel⟩
theorem pR(T:Txt K mg t u):bp P w K mg base cx 3 t.Ck u.Ct ["node","key","code"] (fK K t):=
 aY T.abort.F Qn (fun _ _ _ _ h=>Oo h) (fun _ _ _ _ h=>PJ T.1 h) fun _ _ _ _ _ _ hr hu=>
 (ah (bC (pv 0) fv rfl)
   (aj (aG (pf hr T.A6 (mn T) (aa (pv 0) (aa (aJ iT (aJ iT (bW (aa ak ai)) (pf hr T.vf (mq T) (aa (pv 1) ai))) (pf hr T.wB (ml T) (aa (pv 2) (aa ak ai)))) ai))))))
theorem Cb:aA tR ["node","key","value"] (ar ng):=⟨rfl,rfl,rfl,by decide +kernel,rfl,by decide +kernel,by decide +kernel⟩
theorem BI(T:Txt K mg t u):bp P w K mg base cx 5 t.jo u.jl ["node","key","value"] (gW K t):=
 aY T.yN.F Cb (fun _ _ _ _ h=>Ab h) (fun _ _ _ _ h=>BH T.1 h) fun _ _ _ _ _ _ hr hu=>
 (ah (aG (pf hr T.change (AR T) (aa (pv 0) (aa (pv 1) (aa (pv 2) ai)))))
   (ah (bf (aH bU (pv 1) (pf hr T.gG (fP T) (aa (aq rfl T.Hn ⟨_,rfl⟩) (aa ak ai))) (aK _))
   (aj (bC (pv 0) (ay (pv 0) rfl) rfl))
   aO)
   (aj (bf (aH bU (aJ jR (pv 1) ak) (aq rfl T.iH ⟨_,rfl⟩) (aK _))
   (aj (tF fv (uq (ay (pv 0) rfl) (aJ fB (aJ da (pv 1) ak) ak) set_list)))
   aO))))
theorem pd:aA yc ["node","key","row","answer"] (ar qX):=⟨rfl,rfl,rfl,by decide +kernel,rfl,by decide +kernel,by decide +kernel⟩
theorem vR(T:Txt K mg t u):bp P w K mg base cx 6 t.lE u.lX ["node","key","row","answer"] (gU K t):=
 aY T.wK.F pd (fun _ _ _ _ h=>C1 h) (fun _ _ _ _ h=>Fj T.1 h) fun _ _ _ _ _ _ hr hu=>
 (ah (bc (i:=4) pd.nd rfl (Or.inl rfl) (pf hr T.iQ (eh T) (aa (pv 2) ai)))
   (ah (bc (i:=5) pd.nd rfl (Or.inl rfl) (pf hr T.vD (zD T) (aa (ay (pv 0) rfl) (aa (pv 1) (aa (pv 4) ai)))))
   (ah (bf (aH fe (pv 5) (aq rfl T.rE ⟨_,rfl⟩) (aK _))
   (ah (aG (pf hr T.abort (pR T) (aa (pv 0) (aa (pv 1) (aa (pv 5) ai)))))
   (aj uL))
   aO)
   (ah (aG (pf hr T.yN (BI T) (aa (pv 0) (aa (pv 1) (aa (pv 4) ai)))))
   (aj (aG (pf hr T.A6 (mn T) (aa (pv 0) (aa (pv 3) ai)))))))))
theorem E3:aA yD ["node","code"] (ar rT):=⟨rfl,rfl,rfl,by decide +kernel,rfl,by decide +kernel,by decide +kernel⟩
theorem pC(T:Txt K mg t u):bp P w K mg base cx 4 t.lu u.lV ["node","code"] (eO K t):=
 aY T.qj.F E3 (fun _ _ _ _ h=>DG h) (fun _ _ _ _ h=>FD T.1 h) fun _ _ _ _ _ _ hr hu=>
 (aj (aG (pf hr T.abort (pR T) (aa (pv 0) (aa (gJ (mR (tM (ay (pv 0) rfl))) ak (ay (ay (pv 0) rfl) rfl)) (aa (pv 1) ai))))))
end
end Fn
namespace Fn
open PySem L2
section
variable{P:Program}{w:World}{K:PySem.W.Frag}{mg:Str→Option Value}{base:Heap}{t:bh}{u:Rw}
theorem zS:aA sH ["node","data","is_set"] (ar kM):=⟨rfl,rfl,rfl,by decide +kernel,rfl,by decide +kernel,by decide +kernel⟩
theorem pS(T:Txt K mg t u):bp P w K mg base cx 1 t.hX u.hJ ["node","data","is_set"] (dY K t):=
 aY T.oS.F zS (fun _ _ _ _ h=>yC h) (fun _ _ _ _ h=>AI T.1 h) fun _ _ _ _ _ _ hr hu=>
 (ah (bf (PW.pt (vQ (mR (tM (ay (pv 0) rfl))) (qM (aH fe (ay (ay (pv 0) rfl) rfl) (pv 2) (aK _)))))
   (aj (aM (aq rfl T.v5 ⟨_,rfl⟩)))
   aO)
   (aj (aM (gJ (aH fe (aJ da (dv b9 (pv 1) ak (fun _ _=>rfl)) (aq rfl T.MO ⟨_,rfl⟩)) (ay (ay (pv 0) rfl) rfl) (aK _)) (aq rfl T.Iz ⟨_,rfl⟩) (aq rfl T.jk ⟨_,rfl⟩)))))
theorem gK:aA xT ["node","data"] (ar rV):=⟨rfl,rfl,rfl,by decide +kernel,rfl,by decide +kernel,by decide +kernel⟩
theorem ES(T:Txt K mg t u):bp P w K mg base cx 7 t.lr u.lM ["node","data"] (j7 K t):=
 aY T.CK.F gK (fun _ _ _ _ h=>C7 h) (fun _ _ _ _ h=>Fe T.1 h) fun _ _ _ _ _ _ hr hu=>
 (ah (bc (i:=2) gK.nd rfl (Or.inl rfl) (pf hr T.oS (pS T) (aa (pv 0) (aa (pv 1) (aa ll ai)))))
   (ah (bf (aH fe (pv 2) (aq rfl T.jk ⟨_,rfl⟩) (aK _))
   (ah (aG (pf hr T.qj (pC T) (aa (pv 0) (aa (pv 2) ai))))
   (aj uL))
   aO)
   (ah (bc (i:=3) gK.nd rfl (Or.inl rfl) (ay (pv 0) rfl))
   (ah (bc (i:=4) gK.nd rfl (Or.inl rfl) (ay (dF hu (ay (pv 0) rfl) (ay (pv 3) rfl) (fun _ _=>rfl)) rfl))
   (ah (aG (DW PySem.F.plainAttrs_list PySem.F.slot_list_extend PySem.F.type_list_extend Ar (ay (pv 3) rfl) (aa (eA iq (pv 1) (cu ak) (cu (aJ fB (aJ bw ak (aq rfl T.ka ⟨_,rfl⟩)) (aJ da (aJ jR (dv b9 (pv 1) ak (fun _ _=>rfl)) ak) ak)))) ai)))
   (ah (bc (i:=5) gK.nd rfl (Or.inl rfl) (bW (aa (aJ bw ak (ay (pv 3) rfl)) ai)))
   (ah (bC (pv 3) (aJ fB (aq rfl T.MO ⟨_,rfl⟩) (ay (pv 3) rfl)) rfl)
   (aj (bf (aH A5 (bO bA (by rfl) T.iV d6 (aa (ay (pv 3) rfl) ai)) (pv 4) (aK _))
   (aj (aG (pf hr T.abort (pR T) (aa (pv 0) (aa (ay (pv 3) rfl) (aa (aq rfl T.DV ⟨_,rfl⟩) ai))))))
   (aj (bf (aH bU (aJ da (dv b9 (pv 1) ak (fun _ _=>rfl)) ak) ak (aK _))
   (aj (aG (pf hr T.A6 (mn T) (aa (pv 0) (aa (pv 5) ai)))))
   (aj (bf (aH mY (bO bA (by rfl) T.iV d6 (aa (ay (pv 3) rfl) ai)) (pv 4) (aK _))
   (aj (aG (pf hr T.abort (pR T) (aa (pv 0) (aa (ay (pv 3) rfl) (aa (aq rfl T.Bl ⟨_,rfl⟩) ai))))))
   (ah (bC (pv 0) fv rfl)
   (aj (aG (pf hr T.wK (vR T) (aa (pv 0) (aa (ay (pv 3) rfl) (aa (ay (pv 3) rfl) (aa (pv 5) ai)))))))))))))))))))))
theorem B0:aA ud ["count","size"] (ar ni):=⟨rfl,rfl,rfl,by decide +kernel,rfl,by decide +kernel,by decide +kernel⟩
theorem kJ(T:Txt K mg t u):bp P w K mg base cx 1 t.jv u.jd ["count","size"] (dc K t):=
 aY T.lB.F B0 (fun _ _ _ _ h=>AM h) (fun _ _ _ _ h=>Cc T.1 h) fun _ _ _ _ _ _ hr hu=>
 (ah (bf (aH A5 (pv 0) (pv 1) (aK _))
   (aj (aM (aq rfl T.DV ⟨_,rfl⟩)))
   aO)
   (aj (aM (gJ (aH mY (pv 0) (pv 1) (aK _)) (aq rfl T.Bl ⟨_,rfl⟩) (aq rfl T.jk ⟨_,rfl⟩)))))
theorem t9:aA k0 ["size","data"] (ar gI):=⟨rfl,rfl,rfl,by decide +kernel,rfl,by decide +kernel,by decide +kernel⟩
theorem tN(T:Txt K mg t u):bp P w K mg base cx 2 t.dG u.dD ["size","data"] (dr K t):=
 aY T.og.F t9 (fun _ _ _ _ h=>sN h) (fun _ _ _ _ h=>tQ T.1 h) fun _ _ _ _ _ _ hr hu=>
 (ah (bf (aH bU (aJ da (dv b9 (pv 1) ak (fun _ _=>rfl)) ak) ak (aK _))
   (aj (aM (gJ (aH fe (aJ da (dv b9 (pv 1) ak (fun _ _=>rfl)) ak) ak (aK _)) (pf hr T.lB (kJ T) (aa (pf hr T.iQ (eh T) (aa (eA iq (pv 1) (cu ak) (cu ak)) ai)) (aa (pv 0) ai))) (aq rfl T.jk ⟨_,rfl⟩))))
   aO)
   (ah (bf (aH bU (aJ da (dv b9 (pv 1) ak (fun _ _=>rfl)) ak) ak (aK _))
   (aj (aM (pf hr T.lB (kJ T) (aa (bO (NU rfl) (by rfl) T.UX Tp (aa (pv 0) (aa ak ai))) (aa (pv 0) ai)))))
   aO)
   (aj (aM (pf hr T.lB (kJ T) (aa (aJ fB ak (aJ da (aJ jR (dv b9 (pv 1) ak (fun _ _=>rfl)) ak) ak)) (aa (pv 0) ai)))))))
theorem zR:aA sf ["entries","key"] (ar kR):=⟨rfl,rfl,rfl,by decide +kernel,rfl,by decide +kernel,by decide +kernel⟩
theorem pJ(T:Txt K mg t u):bp P w K mg base cx 2 t.gZ u.iu ["entries","key"] (dS K t):=
 aY T.oU.F zR (fun _ _ _ _ h=>yQ h) (fun _ _ _ _ h=>A0 T.1 h) fun _ _ _ _ _ _ hr hu=>
 (ah (bf (mR (Uw hu (pv 1) (pv 0)))
   (aj (aM (aq rfl T.jk ⟨_,rfl⟩)))
   aO)
   (aj (aM (gJ (dQ (pf hr T.FY (Iv T) (aa (pv 0) (aa (aJ jR (pv 1) ak) ai)))) (aq rfl T.Qp ⟨_,rfl⟩) (aq rfl T.Mr ⟨_,rfl⟩)))))
theorem Hu:aA Bx ["data"] (ar uc):=⟨rfl,rfl,rfl,by decide +kernel,rfl,by decide +kernel,by decide +kernel⟩
theorem yq(T:Txt K mg t u):bp P w K mg base cx 2 t.nM u.oq ["data"] (i8 K t):=
 aY T.AL.F Hu (fun _ _ _ _ h=>Fq h) (fun _ _ _ _ h=>Hb T.1 h) fun _ _ _ _ _ _ hr hu=>
 (aj (aM (pf hr T.gG (fP T) (aa (pf hr T.iQ (eh T) (aa (eA iq (pv 0) (cu ak) (cu ak)) ai)) (aa (dv b9 (pv 0) ak (fun _ _=>rfl)) ai)))))
theorem jj:aA Bh ["node","data"] (ar ur):=⟨rfl,rfl,rfl,by decide +kernel,rfl,by decide +kernel,by decide +kernel⟩
theorem Jb(T:Txt K mg t u):bp P w K mg base cx 7 t.nP u.nK ["node","data"] (lA K t):=
 aY T.GH.F jj (fun _ _ _ _ h=>Ft h) (fun _ _ _ _ h=>IA T.1 h) fun _ _ _ _ _ _ hr hu=>
 (ah (bc (i:=2) jj.nd rfl (Or.inl rfl) (pf hr T.AL (yq T) (aa (pv 1) ai)))
   (ah (bc (i:=3) jj.nd rfl (Or.inl rfl) (pf hr T.oU (pJ T) (aa (ay (pv 0) rfl) (aa (pv 2) ai))))
   (ah (bf (PW.pt (jc (aH bU (pv 3) (aq rfl T.jk ⟨_,rfl⟩) (aK _)) (fO (iG (dQ (ay (dF hu (ay (pv 0) rfl) (pv 2) (fun _ _=>rfl)) rfl))))))
   (aj (bc (i:=3) jj.nd rfl (Or.inl rfl) (aq rfl T.C9 ⟨_,rfl⟩)))
   aO)
   (ah (bf (aH bU (pv 3) (aq rfl T.jk ⟨_,rfl⟩) (aK _))
   (aj (bc (i:=3) jj.nd rfl (Or.inl rfl) (pf hr T.og (tN T) (aa (ay (dF hu (ay (pv 0) rfl) (pv 2) (fun _ _=>rfl)) rfl) (aa (pv 1) ai)))))
   aO)
   (aj (bf (aH fe (pv 3) (aq rfl T.jk ⟨_,rfl⟩) (aK _))
   (aj (aG (pf hr T.abort (pR T) (aa (pv 0) (aa (pv 2) (aa (pv 3) ai))))))
   (aj (bf (aH fe (aJ da (dv b9 (pv 1) ak (fun _ _=>rfl)) ak) ak (aK _))
   (ah (bC (pv 0) fv rfl)
   (aj (aG (pf hr T.wK (vR T) (aa (pv 0) (aa (pv 2) (aa (eA iq (pv 1) (cu ak) (cu (aJ bw ak (ay (dF hu (ay (pv 0) rfl) (pv 2) (fun _ _=>rfl)) rfl)))) (aa (aJ iT (bW (aa ak ai)) (pf hr T.vf (mq T) (aa (pv 2) ai))) ai))))))))
   (ah (bC (pv 0) (pn hr T.tw (ug T) (aa ll (aa (pv 2) (aa (bW ai) ai)))) rfl)
   (aj (aG (pf hr T.A6 (mn T) (aa (pv 0) (aa (aJ iT (bW (aa ak ai)) (pf hr T.vf (mq T) (aa (pv 2) ai))) ai))))))))))))))
theorem fX:aA Ba ["node","data"] (ar t8):=⟨rfl,rfl,rfl,by decide +kernel,rfl,by decide +kernel,by decide +kernel⟩
theorem Im(T:Txt K mg t u):bp P w K mg base cx 4 t.ot u.n0 ["node","data"] (lO K t):=
 aY T.GR.F fX (fun _ _ _ _ h=>FC h) (fun _ _ _ _ h=>HY T.1 h) fun _ _ _ _ _ _ hr hu=>
 (ah (bc (i:=2) fX.nd rfl (Or.inl rfl) (pf hr T.AL (yq T) (aa (pv 1) ai)))
   (ah (bc (i:=3) fX.nd rfl (Or.inl rfl) (pf hr T.oU (pJ T) (aa (ay (pv 0) rfl) (aa (pv 2) ai))))
   (ah (bf (PW.pt (jc (aH bU (pv 3) (aq rfl T.jk ⟨_,rfl⟩) (aK _)) (fO (iG (dQ (ay (dF hu (ay (pv 0) rfl) (pv 2) (fun _ _=>rfl)) rfl))))))
   (aj (bc (i:=3) fX.nd rfl (Or.inl rfl) (aq rfl T.Es ⟨_,rfl⟩)))
   aO)
   (ah (bf (aH fe (pv 3) (aq rfl T.jk ⟨_,rfl⟩) (aK _))
   (ah (aG (pf hr T.abort (pR T) (aa (pv 0) (aa (pv 2) (aa (pv 3) ai)))))
   (aj uL))
   aO)
   (ah (bc (i:=4) fX.nd rfl (Or.inl rfl) (ay (dF hu (ay (pv 0) rfl) (pv 2) (fun _ _=>rfl)) rfl))
   (ah (bc (i:=5) fX.nd rfl (Or.inl rfl) (pf hr T.wB (ml T) (aa (ay (dF hu (ay (pv 0) rfl) (pv 2) (fun _ _=>rfl)) rfl) (aa (pv 4) ai))))
   (aj (bf (aH kj (pv 4) ak (aK _))
   (ah (bC (pv 0) fv rfl)
   (aj (aG (pf hr T.A6 (mn T) (aa (pv 0) (aa (aJ iT (aJ iT (bW (aa (aJ bw ak (aJ rm ak (aJ fB ak (pv 4)))) ai)) (pf hr T.vf (mq T) (aa (pv 2) ai))) (pv 5)) ai))))))
   (ah (bC (pv 0) (pn hr T.tw (ug T) (aa ll (aa (pv 2) (aa (pv 5) ai)))) rfl)
   (aj (aG (pf hr T.A6 (mn T) (aa (pv 0) (aa (aJ iT (aJ iT (bW (aa ak ai)) (pf hr T.vf (mq T) (aa (pv 2) ai))) (bW (aa (pv 4) ai))) ai))))))))))))))
theorem eJ:aA yi ["node","data"] (ar qd):=⟨rfl,rfl,rfl,by decide +kernel,rfl,by decide +kernel,by decide +kernel⟩
theorem FF(T:Txt K mg t u):bp P w K mg base cx 5 t.l9 u.lq ["node","data"] (kd K t):=
 aY T.DD.F eJ (fun _ _ _ _ h=>Eo h) (fun _ _ _ _ h=>Fh T.1 h) fun _ _ _ _ _ _ hr hu=>
 (ah (bc (i:=2) eJ.nd rfl (Or.inl rfl) (pf hr T.oS (pS T) (aa (pv 0) (aa (pv 1) (aa ll ai)))))
   (ah (bf (aH fe (pv 2) (aq rfl T.jk ⟨_,rfl⟩) (aK _))
   (ah (aG (pf hr T.qj (pC T) (aa (pv 0) (aa (pv 2) ai))))
   (aj uL))
   aO)
   (ah (bc (i:=3) eJ.nd rfl (Or.inl rfl) (ay (pv 0) rfl))
   (ah (bc (i:=4) eJ.nd rfl (Or.inl rfl) (eA iq (ay (pv 3) rfl) NQ (cu (aq rfl T.ka ⟨_,rfl⟩))))
   (ah (bC (pv 3) (eA iq (ay (pv 3) rfl) (cu (aq rfl T.ka ⟨_,rfl⟩)) NQ) rfl)
   (ah (bc (i:=5) eJ.nd rfl (Or.inl rfl) (cG bU (bO bA (by rfl) T.iV d6 (aa (ay (pv 3) rfl) ai)) ak (aK _)))
   (ah (bc (i:=6) eJ.nd rfl (Or.inl rfl) (aJ bw (aJ bw (ay (pv 3) rfl) (aJ rm ak (aJ fB (aq rfl T.ka ⟨_,rfl⟩) (bO bA (by rfl) T.iV d6 (aa (pv 4) ai))))) (gJ (dQ (pv 5)) ak ak)))
   (ah (bC (pv 3) (aJ fB (aq rfl T.MO ⟨_,rfl⟩) (ay (pv 3) rfl)) rfl)
   (ah (bf (dQ (pv 5))
   (aj (bC (pv 0) fv rfl))
   aO)
   (aj (aG (pf hr T.A6 (mn T) (aa (pv 0) (aa (aJ iT (bW (aa (pv 6) ai)) (pv 4)) ai))))))))))))))
theorem su:aA uj ["node","data"] (ar mE):=⟨rfl,rfl,rfl,by decide +kernel,rfl,by decide +kernel,by decide +kernel⟩
theorem BV(T:Txt K mg t u):bp P w K mg base cx 8 t.i0 u.ji ["node","data"] (gX K t):=
 aY T.zx.F su (fun _ _ _ _ h=>AG h) (fun _ _ _ _ h=>BJ T.1 h) fun _ _ _ _ _ _ hr hu=>
 (ah (bc (i:=2) su.nd rfl (Or.inl rfl) (aJ jR (dv b9 (pv 1) ak (fun _ _=>rfl)) ak))
   (aj (bf (aH bU (pv 2) ak (aK _))
   (aj (aG (pf hr T.CK (ES T) (aa (pv 0) (aa (pv 1) ai)))))
   (aj (bf (aH bU (pv 2) ak (aK _))
   (aj (aG (pf hr T.GH (Jb T) (aa (pv 0) (aa (pv 1) ai)))))
   (aj (bf (aH bU (pv 2) ak (aK _))
   (aj (aG (pf hr T.GR (Im T) (aa (pv 0) (aa (pv 1) ai)))))
   (aj (bf (aH bU (pv 2) ak (aK _))
   (aj (aG (pf hr T.DD (FF T) (aa (pv 0) (aa (pv 1) ai)))))
   (aj (bf (aH bU (pv 2) ak (aK _))
   (aj (bC (pv 0) fv rfl))
   (aj (aG (pf hr T.qj (pC T) (aa (pv 0) (aa (aq rfl T.v5 ⟨_,rfl⟩) ai))))))))))))))))
theorem EW:aA yd ["node"] (ar qZ):=⟨rfl,rfl,rfl,by decide +kernel,rfl,by decide +kernel,by decide +kernel⟩
theorem FK(T:Txt K mg t u):bp P w K mg base cx 2 t.lp u.lH ["node"] (kg K t):=
 aY T.DT.F EW (fun _ _ _ _ h=>D5 h) (fun _ _ _ _ h=>Fc T.1 h) fun _ _ _ _ _ _ hr hu=>
 (aj (bf (aH fe (ay (pv 0) rfl) (aq rfl T.pU ⟨_,rfl⟩) (aK _))
   (ah (bC (pv 0) (aq rfl T.pU ⟨_,rfl⟩) rfl)
   (aj (aG (Cy hr T.ax T.kY (nA T) (pv 0)))))
   aO))
theorem BZ:aA sW ["node","command"] (ar mT):=⟨rfl,rfl,rfl,by decide +kernel,rfl,by decide +kernel,by decide +kernel⟩
theorem BU(T:Txt K mg t u):bp P w K mg base cx 9 t.i6 u.iX ["node","command"] (hG K t):=
 aY T.yj.F BZ (fun _ _ _ _ h=>As h) (fun _ _ _ _ h=>BE T.1 h) fun _ _ _ _ _ _ hr hu=>
 (aj (bf (aH bU (pv 1) ak (aK _))
   (aj (aG (pf hr T.DT (FK T) (aa (pv 0) ai))))
   (aj (bf (aH bU (pv 1) ak (aK _))
   (aj (bC (pv 0) (aq rfl T.zG ⟨_,rfl⟩) rfl))
   (aj (bf (aH bU (pv 1) ak (aK _))
   (aj (bC (pv 0) (aq rfl T.vO ⟨_,rfl⟩) rfl))
   (aj (bf (aH bU (pv 1) ak (aK _))
   (aj (aG (Cy hr T.ax T.my (oB T) (pv 0))))
   (aj (bf (aH bU (pv 1) ak (aK _))
   (aj (aG (Cy hr T.ax T.iD (jH T) (pv 0))))
   aO))))))))))
end
end Fn
namespace Fn
open PySem L2
section
variable{P:Program}{w:World}{K:PySem.W.Frag}{mg:Str→Option Value}{base:Heap}{t:bh}{u:Rw}
theorem EN:aA yW ["node","ident","data"] (ar ql):=⟨rfl,rfl,rfl,by decide +kernel,rfl,by decide +kernel,by decide +kernel⟩
theorem FI(T:Txt K mg t u):bp P w K mg base cx 10 t.lC u.lx ["node","ident","data"] (gR K t):=
 aY T.Eb.F EN (fun _ _ _ _ h=>CL h) (fun _ _ _ _ h=>FQ T.1 h) fun _ _ _ _ _ _ hr hu=>
 (aj (bf (aH bU (pv 1) ak (aK _))
   (aj (bf (PW.pt (jc (aH bU (bO bA (by rfl) T.iV d6 (aa (pv 2) ai)) ak (aK _)) (fO (aH vj (dv b9 (pv 2) ak (fun _ _=>rfl)) (Iu (aa ak (aa (ay (pv 0) rfl) ai))) (by with_unfolding_all rfl)))))
   (aj (aG (pf hr T.yj (BU T) (aa (pv 0) (aa (dv b9 (pv 2) ak (fun _ _=>rfl)) ai)))))
   aO))
   (aj (bf (aH bU (pv 1) (aJ bw ak (ay (pv 0) rfl)) (aK _))
   (aj (bf (PW.pt (jc (aH bU (bO bA (by rfl) T.iV d6 (aa (pv 2) ai)) ak (aK _)) (fO (aH fe (ay (pv 0) rfl) (aq rfl T.zG ⟨_,rfl⟩) (aK _)))))
   (aj (aG (pf hr T.zx (BV T) (aa (pv 0) (aa (pv 2) ai)))))
   aO))
   (aj (bf (aH bU (pv 1) (pf hr T.cj (bK T) (aa (ay (pv 0) rfl) (aa (aq rfl T.ML ⟨_,rfl⟩) (aa ak ai)))) (aK _))
   (aj (bf (aH bU (ay (pv 0) rfl) (aq rfl T.pU ⟨_,rfl⟩) (aK _))
   (aj (aG (pf hr T.F5 (HN T) (aa (pv 0) ai))))
   aO))
   (aj (bf (mR (Iw (pf hr T.rp (sd T) (aa (pv 0) (aa (pv 1) ai)))))
   (aj (bf (aH bU (ay (pv 0) rfl) (aq rfl T.pU ⟨_,rfl⟩) (aK _))
   (aj (aG (pf hr T.A7 (C3 T) (aa (pv 0) (aa (pf hr T.rp (sd T) (aa (pv 0) (aa (pv 1) ai))) (aa (pv 2) ai))))))
   aO))
   (aj (bf (aH bU (bO bA (by rfl) T.iV d6 (aa (pv 2) ai)) ak (aK _))
   (aj (aG (pf hr T.FZ (IQ T) (aa (pv 0) (aa (pv 1) ai)))))
   aO))))))))))
theorem Kh:aA Ew ["number","table"] (ar wA):=⟨rfl,rfl,rfl,by decide +kernel,rfl,by decide +kernel,by decide +kernel⟩
theorem Ki(T:Txt K mg t u):bp P w K mg base cx 11 t.rW u.qu ["number","table"] (nV K t):=
 aY T.KN.F Kh (fun _ _ _ _ h=>HG h) (fun _ _ _ _ h=>Km T.1 h) fun _ _ _ _ _ _ hr hu=>
 (ah (bf (PW.pt (vQ (iG (pQ kj kj ak (pv 0) (aq rfl T.FP ⟨_,rfl⟩))) (qM (iG (dQ (pf hr T.tS (xI T) (aa (pv 1) ai)))))))
   (aj (aM fv))
   aO)
   (aj (aM (pn hr T.Bm (Dx T) (aa (pv 0) (aa (pv 1) ai))))))
theorem Js:aA Ee ["node"] (ar xu):=⟨rfl,rfl,rfl,by decide +kernel,rfl,by decide +kernel,by decide +kernel⟩
theorem Bn(T:Txt K mg t u):bp P w K mg base cx 6 t.rK u.qF ["node"] (iO K t):=
 aY T.Ez.F Js (fun _ _ _ _ h=>HZ h) (fun _ _ _ _ h=>JM T.1 h) fun _ _ _ _ _ _ hr hu=>
 (ah (aG (pf hr T.tj (ym T) (aa (pv 0) ai)))
   (ah (aG (pf hr T.Kp (Lh T) (aa (pv 0) ai)))
   (aj (aG (pf hr T.o6 (pI T) (aa (pv 0) ai))))))
theorem Kj:aA DZ ["node","ident","now","data"] (ar w8):=⟨rfl,rfl,rfl,by decide +kernel,rfl,by decide +kernel,by decide +kernel⟩
theorem KY(T:Txt K mg t u):bp P w K mg base cx 11 t.qT u.rO ["node","ident","now","data"] (nT K t):=
 aY T.yz.F Kj (fun _ _ _ _ h=>HB h) (fun _ _ _ _ h=>Jz T.1 h) fun _ _ _ _ _ _ hr hu=>
 (ah (bf (PW.pt (vQ (iG (pQ kj kj ak (pv 1) (aq rfl T.Io ⟨_,rfl⟩))) (qM (aH A5 (bO bA (by rfl) T.iV d6 (aa (pv 3) ai)) (aq rfl T.qP ⟨_,rfl⟩) (aK _)))))
   (aj (aM (bW (aa (aq rfl T.uT ⟨_,rfl⟩) ai))))
   aO)
   (ah (bC (pv 0) (bO (GS rfl) (by rfl) T.Rj Ma (aa (ay (pv 0) rfl) (aa (pv 2) ai))) rfl)
   (ah (aG (pf hr T.Eb (FI T) (aa (pv 0) (aa (pv 1) (aa (pv 3) ai)))))
   (ah (aG (pf hr T.Ez (Bn T) (aa (pv 0) ai)))
   (aj (aM (bW (aa (aq rfl T.EC ⟨_,rfl⟩) ai))))))))
theorem LB:aA GQ ["node","now"] (ar AE):=⟨rfl,rfl,rfl,by decide +kernel,rfl,by decide +kernel,by decide +kernel⟩
theorem Ls(T:Txt K mg t u):bp P w K mg base cx 7 t.vk u.uP ["node","now"] (qe K t):=
 aY T.MZ.F LB (fun _ _ _ _ h=>Ks h) (fun _ _ _ _ h=>L8 T.1 h) fun _ _ _ _ _ _ hr hu=>
 (ah (bC (pv 0) (bO (GS rfl) (by rfl) T.Rj Ma (aa (ay (pv 0) rfl) (aa (pv 1) ai))) rfl)
   (ah (aG (pf hr T.Ez (Bn T) (aa (pv 0) ai)))
   (aj (aM (bW (aa (aq rfl T.EC ⟨_,rfl⟩) ai))))))
theorem Ex:aA GX ["node"] (ar A4):=⟨rfl,rfl,rfl,by decide +kernel,rfl,by decide +kernel,by decide +kernel⟩
theorem LI(T:Txt K mg t u):bp P w K mg base cx 2 t.uR u.uN ["node"] (qg K t):=
 aY T.Cn.F Ex (fun _ _ _ _ h=>Ke h) (fun _ _ _ _ h=>MK T.1 h) fun _ _ _ _ _ _ hr hu=>
 (ah (bf (aH bU (bO bA (by rfl) T.iV d6 (aa (ay (pv 0) rfl) ai)) ak (aK _))
   (aj (aM (bW (aa (aq rfl T.qy ⟨_,rfl⟩) ai))))
   aO)
   (ah (bc (i:=1) Ex.nd rfl (Or.inl rfl) (DW PySem.F.plainAttrs_list PySem.F.slot_list_pop PySem.F.type_list_pop QQ (ay (pv 0) rfl) (aa ak ai)))
   (aj (aM (aJ iT (bW (aa (bO bA (by rfl) T.iV d6 (aa (dv Mn (pv 1) ak (fun _ _=>rfl)) ai)) (aa (dv Mn (pv 1) ak (fun _ _=>rfl)) ai))) (pf hr T.filled (va T) (aa (dv Mn (pv 1) ak (fun _ _=>rfl)) (aa (aq rfl T.qP ⟨_,rfl⟩) ai))))))))
theorem Gg:aA KZ ["node","index","sub"] (ar DK):=⟨rfl,rfl,rfl,by decide +kernel,rfl,by decide +kernel,by decide +kernel⟩
theorem ON(T:Txt K mg t u):bp P w K mg base cx 3 t.y9 u.xY ["node","index","sub"] (u0 K t):=
 aY T.QJ.F Gg (fun _ _ _ _ h=>LU h) (fun _ _ _ _ h=>Od T.1 h) fun _ _ _ _ _ _ hr hu=>
 (ah (bc (i:=3) Gg.nd rfl (Or.inl rfl) (pf hr T.entry_at (Bz T) (aa (ay (pv 0) rfl) (aa (pv 1) (aa (pv 2) ai)))))
   (ah (bf (mR (tM (pv 3)))
   (aj (aM (bW (aa (aq rfl T.qy ⟨_,rfl⟩) ai))))
   aO)
   (aj (aM (aJ iT (bW (aa (ay (pv 3) rfl) ai)) (pf hr T.filled (va T) (aa (pf hr T.wB (ml T) (aa (ay (pv 3) rfl) (aa (ay (pv 3) rfl) ai))) (aa (aq rfl T.qP ⟨_,rfl⟩) ai))))))))
theorem F3:aA JI ["node","index","sub","row"] (ar DY):=⟨rfl,rfl,rfl,by decide +kernel,rfl,by decide +kernel,by decide +kernel⟩
theorem Oy(T:Txt K mg t u):bp P w K mg base cx 6 t.zi u.xW ["node","index","sub","row"] (uX K t):=
 aY T.Jg.F F3 (fun _ _ _ _ h=>Lp h) (fun _ _ _ _ h=>OK T.1 h) fun _ _ _ _ _ _ hr hu=>
 (ah (bc (i:=4) F3.nd rfl (Or.inl rfl) (pf hr T.entry_at (Bz T) (aa (ay (pv 0) rfl) (aa (pv 1) (aa (pv 2) ai)))))
   (ah (bf (PW.pt (vQ (mR (tM (pv 4))) (qM (iG (dQ (pf hr T.mw (oj T) (aa (pv 1) ai)))))))
   (aj (aM (bW (aa (aq rfl T.qy ⟨_,rfl⟩) ai))))
   aO)
   (ah (bf (aH fe (bO bA (by rfl) T.iV d6 (aa (pv 3) ai)) (ay (pv 4) rfl) (aK _))
   (aj (aM (bW (aa (aq rfl T.uT ⟨_,rfl⟩) ai))))
   aO)
   (ah (aG (pf hr T.change (AR T) (aa (pv 0) (aa (pf hr T.gG (fP T) (aa (pv 1) (aa (pv 2) ai))) (aa (pf hr T.iQ (eh T) (aa (pv 3) ai)) ai)))))
   (ah (aG (pf hr T.o6 (pI T) (aa (pv 0) ai)))
   (aj (aM (bW (aa (aq rfl T.EC ⟨_,rfl⟩) ai)))))))))
theorem JT:aA Ej ["node","code","bit"] (ar xr):=⟨rfl,rfl,rfl,by decide +kernel,rfl,by decide +kernel,by decide +kernel⟩
theorem Jr(T:Txt K mg t u):bp P w K mg base cx 5 t.rZ u.rR ["node","code","bit"] (nX K t):=
 aY T.zo.F JT (fun _ _ _ _ h=>Hl h) (fun _ _ _ _ h=>KH T.1 h) fun _ _ _ _ _ _ hr hu=>
 (ah (bf (PW.pt (vQ (iG (pQ kj kj ak (pv 1) (aq rfl T.Jw ⟨_,rfl⟩))) (qM (iG (pQ kj kj ak (pv 2) (aq rfl T.Mv ⟨_,rfl⟩))))))
   (aj (aM (bW (aa (aq rfl T.uT ⟨_,rfl⟩) ai))))
   aO)
   (ah (bf (aH bU (pv 1) ak (aK _))
   (aj (aG (Cy hr T.ax T.nW (uA T) (pv 0))))
   (aj (aG (pm hr T.ax T.iA (iC T) (pv 0) (aa (pv 1) (aa (pv 2) ai))))))
   (aj (aM (bW (aa (aq rfl T.EC ⟨_,rfl⟩) ai))))))
theorem Kw:aA DI ["node"] (ar wG):=⟨rfl,rfl,rfl,by decide +kernel,rfl,by decide +kernel,by decide +kernel⟩
theorem JH(T:Txt K mg t u):bp P w K mg base cx 1 t.qG u.rb ["node"] (oo K t):=
 aY T.J2.F Kw (fun _ _ _ _ h=>HU h) (fun _ _ _ _ h=>KS T.1 h) fun _ _ _ _ _ _ hr hu=>
 (aj (aM (bW (aa (ay (pv 0) rfl) ai))))
theorem zW:aA sJ ["self","numbers"] (ar kK):=⟨rfl,rfl,rfl,by decide +kernel,rfl,by decide +kernel,by decide +kernel⟩
theorem AZ(T:Txt K mg t u):bp P w K mg base cx 1 t.ir u.ia ["self","numbers"] (gm K t):=
 aY T.vP.F zW (fun _ _ _ _ h=>yE h) (fun _ _ _ _ h=>zL T.1 h) fun _ _ _ _ _ _ hr hu=>
 (ah (bC (pv 0) (pv 1) rfl)
   (aj (bC (pv 0) ak rfl)))
theorem wO:aA ow ["self"] (ar jE):=⟨rfl,rfl,rfl,by decide +kernel,rfl,by decide +kernel,by decide +kernel⟩
theorem wx(T:Txt K mg t u):bp P w K mg base cx 1 t.fj u.eS ["self"] (d9 K t):=
 aY T.sv.F wO (fun _ _ _ _ h=>vn h) (fun _ _ _ _ h=>wJ T.1 h) fun _ _ _ _ _ _ hr hu=>
 (aj (aM (cG mY (ay (pv 0) rfl) (bO bA (by rfl) T.iV d6 (aa (ay (pv 0) rfl) ai)) (aK _))))
end
end Fn
namespace Fn
open PySem L2
section
variable{P:Program}{w:World}{K:PySem.W.Frag}{mg:Str→Option Value}{base:Heap}{t:bh}{u:Rw}
theorem sP:aA kl ["self"] (ar fw):=⟨rfl,rfl,rfl,by decide +kernel,rfl,by decide +kernel,by decide +kernel⟩
theorem bg(T:Txt K mg t u):bp P w K mg base cx 1 t.dm u.dk ["self"] (aR K t):=
 aY T.bj.F sP (fun _ _ _ _ h=>rn h) (fun _ _ _ _ h=>sR T.1 h) fun _ _ _ _ _ _ hr hu=>
 (ah (F0 (pv 0) ak QG)
   (aj (aM (dv b9 (ay (pv 0) rfl) (aJ fB (ay (pv 0) rfl) ak) (fun _ _=>rfl)))))
theorem mH:aA oz ["self"] (ar i9):=⟨rfl,rfl,rfl,by decide +kernel,rfl,by decide +kernel,by decide +kernel⟩
theorem iM(T:Txt K mg t u):bp P w K mg base cx 2 t.eX u.fk ["self"] (cA K t):=
 aY T.ij.F mH (fun _ _ _ _ h=>vz h) (fun _ _ _ _ h=>xb T.1 h) fun _ _ _ _ _ _ hr hu=>
 (ah (bc (i:=1) mH.nd rfl (Or.inl rfl) (Cy hr T.bM T.bj (bg T) (pv 0)))
   (ah (F0 (pv 0) (pv 1) QG)
   (aj (aM (eA iq (ay (pv 0) rfl) (cu (aJ fB (ay (pv 0) rfl) (pv 1))) (cu (ay (pv 0) rfl)))))))
theorem vE:aA zf ["reader"] (ar rJ):=⟨rfl,rfl,rfl,by decide +kernel,rfl,by decide +kernel,by decide +kernel⟩
theorem FO(T:Txt K mg t u):bp P w K mg base cx 12 t.lP u.mf ["reader"] (j3 K t):=
 aY T.CG.F vE (fun _ _ _ _ h=>DM h) (fun _ _ _ _ h=>Fi T.1 h) fun _ _ _ _ _ _ hr hu=>
 (ah (aG (Cy hr T.bM T.bj (bg T) (pv 0)))
   (ah (bc (i:=1) vE.nd rfl (Or.inl rfl) (Cy hr T.bM T.bj (bg T) (pv 0)))
   (aj (aM (pf hr T.KN (Ki T) (aa (pv 1) (aa (Cy hr T.bM T.ij (iM T) (pv 0)) ai)))))))
theorem pj:aA xN ["node","reader"] (ar qp):=⟨rfl,rfl,rfl,by decide +kernel,rfl,by decide +kernel,by decide +kernel⟩
theorem FL(T:Txt K mg t u):bp P w K mg base cx 12 t.d5 u.i4 ["node","reader"] (eI K t):=
 aY T.wN.F pj (fun _ _ _ _ h=>D6 h) (fun _ _ _ _ h=>E5 T.1 h) fun _ _ _ _ _ _ hr hu=>
 (ah (bc (i:=2) pj.nd rfl (Or.inl rfl) (Cy hr T.bM T.bj (bg T) (pv 1)))
   (ah (bc (i:=3) pj.nd rfl (Or.inl rfl) (Cy hr T.bM T.bj (bg T) (pv 1)))
   (aj (aM (pf hr T.yz (KY T) (aa (pv 0) (aa (pv 2) (aa (pv 3) (aa (Cy hr T.bM T.ij (iM T) (pv 1)) ai)))))))))
theorem Hq:aA Bo ["node","reader"] (ar um):=⟨rfl,rfl,rfl,by decide +kernel,rfl,by decide +kernel,by decide +kernel⟩
theorem Ij(T:Txt K mg t u):bp P w K mg base cx 8 t.fI u.kF ["node","reader"] (gx K t):=
 aY T.AA.F Hq (fun _ _ _ _ h=>FE h) (fun _ _ _ _ h=>HL T.1 h) fun _ _ _ _ _ _ hr hu=>
 (aj (aM (pf hr T.MZ (Ls T) (aa (pv 0) (aa (Cy hr T.bM T.bj (bg T) (pv 1)) ai)))))
theorem HM:aA Bd ["node","reader"] (ar uD):=⟨rfl,rfl,rfl,by decide +kernel,rfl,by decide +kernel,by decide +kernel⟩
theorem IK(T:Txt K mg t u):bp P w K mg base cx 3 t.fH u.kr ["node","reader"] (fV K t):=
 aY T.zP.F HM (fun _ _ _ _ h=>Fo h) (fun _ _ _ _ h=>IP T.1 h) fun _ _ _ _ _ _ hr hu=>
 (aj (aM (pf hr T.Cn (LI T) (aa (pv 0) ai))))
theorem A9:aA EF ["node","reader"] (ar wu):=⟨rfl,rfl,rfl,by decide +kernel,rfl,by decide +kernel,by decide +kernel⟩
theorem JS(T:Txt K mg t u):bp P w K mg base cx 4 t.iK u.m8 ["node","reader"] (iN K t):=
 aY T.Du.F A9 (fun _ _ _ _ h=>IH h) (fun _ _ _ _ h=>Kd T.1 h) fun _ _ _ _ _ _ hr hu=>
 (ah (bc (i:=2) A9.nd rfl (Or.inl rfl) (Cy hr T.bM T.bj (bg T) (pv 1)))
   (aj (aM (pf hr T.QJ (ON T) (aa (pv 0) (aa (pv 2) (aa (Cy hr T.bM T.bj (bg T) (pv 1)) ai)))))))
theorem sV:aA Dl ["node","reader"] (ar xq):=⟨rfl,rfl,rfl,by decide +kernel,rfl,by decide +kernel,by decide +kernel⟩
theorem KQ(T:Txt K mg t u):bp P w K mg base cx 7 t.iI u.mI ["node","reader"] (iP K t):=
 aY T.Eg.F sV (fun _ _ _ _ h=>Ho h) (fun _ _ _ _ h=>JQ T.1 h) fun _ _ _ _ _ _ hr hu=>
 (ah (bc (i:=2) sV.nd rfl (Or.inl rfl) (Cy hr T.bM T.bj (bg T) (pv 1)))
   (ah (bc (i:=3) sV.nd rfl (Or.inl rfl) (Cy hr T.bM T.bj (bg T) (pv 1)))
   (aj (aM (pf hr T.Jg (Oy T) (aa (pv 0) (aa (pv 2) (aa (pv 3) (aa (Cy hr T.bM T.ij (iM T) (pv 1)) ai)))))))))
theorem wb:aA yV ["node","reader"] (ar qQ):=⟨rfl,rfl,rfl,by decide +kernel,rfl,by decide +kernel,by decide +kernel⟩
theorem EX(T:Txt K mg t u):bp P w K mg base cx 6 t.ef u.i3 ["node","reader"] (eM K t):=
 aY T.xg.F wb (fun _ _ _ _ h=>DJ h) (fun _ _ _ _ h=>Fu T.1 h) fun _ _ _ _ _ _ hr hu=>
 (ah (bc (i:=2) wb.nd rfl (Or.inl rfl) (Cy hr T.bM T.bj (bg T) (pv 1)))
   (aj (aM (pf hr T.zo (Jr T) (aa (pv 0) (aa (pv 2) (aa (Cy hr T.bM T.bj (bg T) (pv 1)) ai)))))))
theorem E7:aA zu ["node","reader"] (ar qV):=⟨rfl,rfl,rfl,by decide +kernel,rfl,by decide +kernel,by decide +kernel⟩
theorem Fx(T:Txt K mg t u):bp P w K mg base cx 2 t.eg u.jD ["node","reader"] (eK K t):=
 aY T.wF.F E7 (fun _ _ _ _ h=>Di h) (fun _ _ _ _ h=>FA T.1 h) fun _ _ _ _ _ _ hr hu=>
 (aj (aM (pf hr T.J2 (JH T) (aa (pv 0) ai))))
theorem mW:aA Gw ["calls"] (ar zV):=⟨rfl,rfl,rfl,by decide +kernel,rfl,by decide +kernel,by decide +kernel⟩
theorem Lz(T:Txt K mg t u):bp P w K mg base cx 13 t.uW u.uJ ["calls"] (wI K t):=
 aY T.answers.F mW (fun _ _ _ _ h=>JB h) (fun _ _ _ _ h=>LW T.1 h) fun _ _ _ _ _ _ hr hu=>
 (ah (bc (i:=1) mW.nd rfl (Or.inl rfl) (pn hr T.vP (AZ T) (aa (pv 0) ai)))
   (ah (bc (i:=2) mW.nd rfl (Or.inl rfl) (pf hr T.CG (FO T) (aa (pv 1) ai)))
   (ah (bf (mR (tM (pv 2)))
   (aj (aM (bW (aa ak (aa (aq rfl T.uT ⟨_,rfl⟩) ai)))))
   aO)
   (ah (bc (i:=3) mW.nd rfl (Or.inl rfl) (bW (aa ak (aa (aq rfl T.EC ⟨_,rfl⟩) ai))))
   (ah (P2 PassesOwn.never (dQ (Cy hr T.bM T.sv (wx T) (pv 1)))
   (ah (bc (i:=4) mW.nd rfl (Or.inl rfl) (Nl (Fm T hr (FL T) (Ij T) (IK T) (JS T) (KQ T) (EX T) (Fx T) (by decide) (Cy hr T.bM T.bj (bg T) (pv 1)) (aa (pv 2) (aa (pv 1) ai)) rfl (fun _ _=>rfl))))
   (ah (aG (DW PySem.F.plainAttrs_list PySem.F.slot_list_append PySem.F.type_list_append GP (pv 3) (aa (bO bA (by rfl) T.iV d6 (aa (pv 4) ai)) ai)))
   (aj (aG (DW PySem.F.plainAttrs_list PySem.F.slot_list_extend PySem.F.type_list_extend Ar (pv 3) (aa (pv 4) ai)))))))
   (aj (aM (pv 3))))))))
end
end Fn
namespace L2
open PySem PySem.Spec PyProof.Rows
theorem P6{K:PySem.W.Frag}{g:Addr→Option Obj}(hg:JY g K){cd:Value}{q:Str}(e:QB g cd q=true):PySem.W.codeIn K cd q=true:=by
 unfold QB at e
 split at e
 ·rename_i c
  unfold PySem.W.codeIn
  dsimp only
  split at e
  ·rename_i h
   rw [hg _ _ h]
   exact e
  ·cases e
 ·cases e
theorem He{K:PySem.W.Frag}{g:Addr→Option Obj}{x q:Str}{st:Stmt}{v:Option (Option Value)}(hg:JY g K)(e:fnAt g q v=some (Qr x q st,true)):∃f fd,v=some (some (.ref f))∧RV K x q st f fd∧PySem.W.isFn K (.ref f)=true:=by
 unfold fnAt at e
 split at e
 ·rename_i f
  split at e
  ·rename_i oc od d sl lk
   have lk:=hg _ _ lk
   obtain ⟨e1,e2⟩:=Prod.mk.inj (Option.some.inj e)
   obtain ⟨c,i⟩:=Bool.and_eq_true_iff.mp e2
   refine ⟨f,d,rfl,⟨⟨oc,od,d.kwdefaults,d.doc,d.pyModule,d.annotations,d.code,d.closureTuple,sl,?_,lk,P6 hg c⟩,?_⟩,?_⟩
   ·obtain ⟨⟩:=d
    simp only [core,FuncData.mk.injEq] at e1
    simp only [FuncData.mk.injEq,and_true,true_and]
    simp only [e1,and_self]
   ·unfold PySem.W.keepIn
    dsimp only
    rw [lk]
   ·unfold PySem.W.isFn PySem.W.typeIn
    dsimp only
    rw [lk]
    exact beq_iff_eq.mpr (congrArg some (beq_iff_eq.mp i))
  ·cases e
 ·cases e
structure Lb(K:PySem.W.Frag)(c:Str)(as:List Str)(C:Addr):Prop where
 n:PySem.W.nsIn K mainGlobals c=some (some (.ref C))
 L:K2 K C
 m:PySem.W.makesIn K C=true
 k:PySem.W.keepIn K (.ref C)=true
 a:∀x ∈ as,b0 K C x
theorem ye{K:PySem.W.Frag}{c:Str}{as:List Str}(e:clsAt K c as=true):∃C,Lb K c as C:=by
 unfold clsAt at e
 split at e
 ·rename_i C h
  simp only [Bool.and_eq_true,List.all_eq_true,beq_iff_eq] at e
  obtain ⟨⟨⟨⟨⟨⟨e1,e2⟩,e3⟩,e4⟩,e5⟩,e6⟩,e7⟩:=e
  exact ⟨C,h,⟨e1,e2,e3,e4⟩,e5,e6,e7⟩
 ·cases e
theorem aX{K:PySem.W.Frag}{x:Str}{n:Int}(e:intAt K x n=true):∃t,PySem.W.nsIn K mainGlobals x=some (some (.int n t)):=by
 unfold intAt at e
 split at e
 ·rename_i m t h
  have:=of_decide_eq_true e
  subst this
  exact ⟨t,h⟩
 ·cases e
section
variable{x q:Str}{st:Stmt}{p1 p2 p3 p4 p5 p6:Str}
abbrev AX(x q:Str)(st:Stmt)(ps:List Str)(us:List Value):Prop:=∀(kV doc pm:Value)(an:Option Addr)(cdv ct:Value),bindArgs (PySem.W.fnOf x q (vh st) (ox st) (ar st) .none kV doc pm an cdv ct) ⟨us,[]⟩=pure (ps.zip us)
theorem vT(h:∀u1,AX x q st [p1] [u1]):lS x q st [p1]:=fun a b c d e f us hl=>match us,hl with | [_],_=>h _ a b c d e f
theorem sG(h:∀u1 u2,AX x q st [p1,p2] [u1,u2]):lS x q st [p1,p2]:=fun a b c d e f us hl=>match us,hl with | [_,_],_=>h _ _ a b c d e f
theorem FW(h:∀u1 u2 u3,AX x q st [p1,p2,p3] [u1,u2,u3]):lS x q st [p1,p2,p3]:=fun a b c d e f us hl=>match us,hl with | [_,_,_],_=>h _ _ _ a b c d e f
theorem Vh(h:∀u1 u2 u3 u4,AX x q st [p1,p2,p3,p4] [u1,u2,u3,u4]):lS x q st [p1,p2,p3,p4]:=fun a b c d e f us hl=>match us,hl with | [_,_,_,_],_=>h _ _ _ _ a b c d e f
theorem WJ(h:∀u1 u2 u3 u4 u5,AX x q st [p1,p2,p3,p4,p5] [u1,u2,u3,u4,u5]):lS x q st [p1,p2,p3,p4,p5]:=fun a b c d e f us hl=>match us,hl with | [_,_,_,_,_],_=>h _ _ _ _ _ a b c d e f
theorem Ww(h:∀u1 u2 u3 u4 u5 u6,AX x q st [p1,p2,p3,p4,p5,p6] [u1,u2,u3,u4,u5,u6]):lS x q st [p1,p2,p3,p4,p5,p6]:=fun a b c d e f us hl=>match us,hl with | [_,_,_,_,_,_],_=>h _ _ _ _ _ _ a b c d e f
end
theorem Nh{α β γ:Type}{f:α→γ}{k:α→β→γ}:∀{l:List α}{m:List β},l.map f=List.zipWith k l m→∀(i:Nat)(r:α)(st:β),l[i]? = some r→m[i]? = some st→f r=k r st
 | [],_,_,i,r,st,h,_=>by cases i <;> cases h
 | a::l,[],e,_,_,_,_,_=>by cases e
 | a::l,b::m,e,0,r,st,h1,h2=>by cases h1;cases h2;exact (List.cons.inj e).1
 | a::l,b::m,e,i+1,r,st,h1,h2=>Nh (List.cons.inj e).2 i r st h1 h2
theorem Qc{l:List Bool}{n:Nat}(e:l=List.replicate n true){i:Nat}{b:Bool}(h:l[i]? = some b):b=true:=by
 subst e
 exact (List.mem_replicate.mp (List.mem_of_getElem? h)).2
section
variable{K:PySem.W.Frag}{mg:Str→Option Value}{h:Heap}{ps:List Str}{P:Prop}{r:Row}{st:Stmt}{c:Str}{as:List Str}{C:Addr}{g:Addr→Option Obj}
theorem Lb.at(c:Lb K c as C)(i:Nat){x:Str}(e:as[i]? = some x):b0 K C x:=c.a x (List.mem_of_getElem? e)
theorem aQ(hg:JY g K)(X:K.In h)(G:h.Ns mainGlobals mg)(e:Cu g K r=Cm r st)(hc:r.c=none)(hq:r.q=r.x)(hb:lS r.x r.x st ps)(go:∀f fd,dM K mg r.x st f fd ps→P):P:=by
 obtain ⟨f,fd,v,F,_⟩:=He hg e
 rw [hc] at v
 rw [hq] at F
 exact go f fd ⟨F,F.binds hb,PySem.W.mg_of X G v⟩
theorem o5(hg:JY g K)(e:Cu g K r=Cm r st)(hc:r.c=some c)(k:Lb K c as C)(hb:lS r.x r.q st ps)(go:∀f fd,Oq K C r.x r.q st f fd ps→P):P:=by
 obtain ⟨f,fd,v,F,i⟩:=He hg e
 rw [hc] at v
 unfold VW at v
 dsimp only at v
 rw [k.n] at v
 exact go f fd ⟨F,F.binds hb,v,i,F.kp⟩
theorem IS(hg:JY g K)(X:K.In h)(G:h.Ns mainGlobals mg)(e:Cu g K r=Cm r st)(hc:r.c=some c)(hx:r.x = "__init__")(k:Lb K c as C)(hb:lS "__init__" r.q st ps)(go:∀f fd,UC K mg C c r.q st f fd ps→P):P:=by
 obtain ⟨f,fd,v,F,i⟩:=He hg e
 rw [hc,hx] at v
 unfold VW at v
 dsimp only at v
 rw [k.n] at v
 rw [hx] at F
 exact go f fd ⟨F,F.binds hb,⟨k.m,v,i,k.k⟩,PySem.W.mg_of X G k.n⟩
theorem kA{x:Str}(X:K.In h)(G:h.Ns mainGlobals mg)(e:(PySem.W.nsIn K mainGlobals x == some none)=true):mg x=none:=PySem.W.mg_none_of X G (beq_iff_eq.mp e)
theorem Hh{l:List DictEntry}(e:dictAt.dictRows K l [] = true):l = []:=by
 cases l with
 | nil=>rfl
 | cons a l=>obtain ⟨_,k,v⟩:=a;simp [dictAt.dictRows] at e
theorem dA{l:List DictEntry}{m:Nat}{y:Str}{r:List (Nat × Str)}(e:dictAt.dictRows K l ((m,y)::r)=true):∃t f l',l= ⟨m,.int m t,.ref f⟩::l'∧PySem.W.nsIn K mainGlobals y=some (some (.ref f))∧dictAt.dictRows K l' r=true:=by
 unfold dictAt.dictRows at e
 split at e
 ·rename_i h1 h2;cases h2
 ·rename_i a b c d f l' m' y' r' h2
  cases h2
  simp only [Bool.and_eq_true,decide_eq_true_eq,beq_iff_eq] at e
  obtain ⟨⟨⟨rfl,rfl⟩,e3⟩,e4⟩:=e
  exact ⟨_,_,_,rfl,e3,e4⟩
 ·cases e
theorem Og{x:Str}{l:List (Nat × Str)}(e:dictAt K x l=true):∃d ep es,PySem.W.nsIn K mainGlobals x=some (some (.ref d))∧K.lookup d=some ⟨.type "dict",none,.dict ⟨es⟩ ep,#[]⟩∧dictAt.dictRows K es l=true:=by
 unfold dictAt at e
 split at e
 ·rename_i d hd
  split at e
  ·rename_i es ep lk
   exact ⟨d,ep,es.toList,hd,lk,e⟩
  ·cases e
 ·cases e
end
end L2
namespace Fn
open PySem L2
theorem Tf{g:Addr→Option Obj}{K:PySem.W.Frag}{h:Heap}{mg:Str→Option Value}(hg:JY g K)(X:K.In h)(G:h.Ns mainGlobals mg)(e:sees g K=MR):∃t u,Txt K mg t u:=by
 obtain ⟨e1,e2⟩:=Prod.mk.inj e
 have R:=Nh e1
 have B:∀i b,(sees g K).2[i]? = some b→b=true:=fun i b h=>Qc e2 h
 obtain ⟨bR,c_Entry⟩:=ye (c:="Entry") (as:=J8) (B 0 _ rfl)
 obtain ⟨aC,c_Node⟩:=ye (c:="Node") (as:=Nm) (B 1 _ rfl)
 obtain ⟨bL,c_Hand⟩:=ye (c:="Hand") (as:=Ny) (B 2 _ rfl)
 obtain ⟨bq,c_Reader⟩:=ye (c:="Reader") (as:=Gd) (B 3 _ rfl)
 refine aQ hg X G (R 0 _ _ rfl rfl) rfl rfl (ps:=["row"]) (vT fun _ _ _ _ _ _ _=>rfl) fun nE oA D_number_of=>?_
 refine aQ hg X G (R 1 _ _ rfl rfl) rfl rfl (ps:=["number","size"]) (sG fun _ _ _ _ _ _ _ _=>rfl) fun xR yU D_row_of=>?_
 refine aQ hg X G (R 2 _ _ rfl rfl) rfl rfl (ps:=["row","size"]) (sG fun _ _ _ _ _ _ _ _=>rfl) fun yA ya D_filled=>?_
 refine IS hg X G (R 3 _ _ rfl rfl) rfl rfl c_Entry (ps:=["self","size","readable","writable","mappable","value"]) (Ww fun _ _ _ _ _ _ _ _ _ _ _ _=>rfl) fun je jz D_Entry__init_=>?_
 refine aQ hg X G (R 4 _ _ rfl rfl) rfl rfl (ps:=["index","sub"]) (sG fun _ _ _ _ _ _ _ _=>rfl) fun zh xJ D_key_of=>?_
 refine aQ hg X G (R 5 _ _ rfl rfl) rfl rfl (ps:=["entries","index","sub"]) (FW fun _ _ _ _ _ _ _ _ _=>rfl) fun qE rL D_value_of=>?_
 refine aQ hg X G (R 6 _ _ rfl rfl) rfl rfl (ps:=["entries","index","sub"]) (FW fun _ _ _ _ _ _ _ _ _=>rfl) fun rG rf D_entry_at=>?_
 refine aQ hg X G (R 7 _ _ rfl rfl) rfl rfl (ps:=["index"]) (vT fun _ _ _ _ _ _ _=>rfl) fun fW fS D_is_table_index=>?_
 refine aQ hg X G (R 8 _ _ rfl rfl) rfl rfl (ps:=["entries","index"]) (sG fun _ _ _ _ _ _ _ _=>rfl) fun nI om D_has_index=>?_
 refine aQ hg X G (R 9 _ _ rfl rfl) rfl rfl (ps:=["table"]) (vT fun _ _ _ _ _ _ _=>rfl) fun fM gj D_is_table_right=>?_
 refine aQ hg X G (R 10 _ _ rfl rfl) rfl rfl (ps:=["table"]) (vT fun _ _ _ _ _ _ _=>rfl) fun qh qt D_lines_of=>?_
 refine aQ hg X G (R 11 _ _ rfl rfl) rfl rfl (ps:=["line"]) (vT fun _ _ _ _ _ _ _=>rfl) fun rC qw D_line_key=>?_
 refine aQ hg X G (R 12 _ _ rfl rfl) rfl rfl (ps:=["line"]) (vT fun _ _ _ _ _ _ _=>rfl) fun ip h9 D_is_line_right=>?_
 refine aQ hg X G (R 13 _ _ rfl rfl) rfl rfl (ps:=["table"]) (vT fun _ _ _ _ _ _ _=>rfl) fun il gY D_table_entries=>?_
 refine aQ hg X G (R 14 _ _ rfl rfl) rfl rfl (ps:=["number"]) (vT fun _ _ _ _ _ _ _=>rfl) fun fg fq D_besides_entries=>?_
 refine aQ hg X G (R 15 _ _ rfl rfl) rfl rfl (ps:=["entries","index","sub","size","rights","value"]) (Ww fun _ _ _ _ _ _ _ _ _ _ _ _=>rfl) fun NL NG D_put=>?_
 refine aQ hg X G (R 16 _ _ rfl rfl) rfl rfl (ps:=["entries","place","number"]) (FW fun _ _ _ _ _ _ _ _ _=>rfl) fun lK ly D_put_coming=>?_
 refine aQ hg X G (R 17 _ _ rfl rfl) rfl rfl (ps:=["entries","place","number"]) (FW fun _ _ _ _ _ _ _ _ _=>rfl) fun nU oh D_put_going=>?_
 refine aQ hg X G (R 18 _ _ rfl rfl) rfl rfl (ps:=["entries","index"]) (sG fun _ _ _ _ _ _ _ _=>rfl) fun qL qH D_put_list=>?_
 refine aQ hg X G (R 19 _ _ rfl rfl) rfl rfl (ps:=["value"]) (vT fun _ _ _ _ _ _ _=>rfl) fun ig ie D_followed_node=>?_
 refine aQ hg X G (R 20 _ _ rfl rfl) rfl rfl (ps:=["value"]) (vT fun _ _ _ _ _ _ _=>rfl) fun hR h7 D_followed_time=>?_
 refine aQ hg X G (R 21 _ _ rfl rfl) rfl rfl (ps:=["node","ident"]) (sG fun _ _ _ _ _ _ _ _=>rfl) fun nN nL D_take_beat=>?_
 refine aQ hg X G (R 22 _ _ rfl rfl) rfl rfl (ps:=["node"]) (vT fun _ _ _ _ _ _ _=>rfl) fun fL gv D_watch_followed=>?_
 refine aQ hg X G (R 23 _ _ rfl rfl) rfl rfl (ps:=["node"]) (vT fun _ _ _ _ _ _ _=>rfl) fun rX qK D_beat_own=>?_
 refine IS hg X G (R 24 _ _ rfl rfl) rfl rfl c_Node (ps:=["self","number","table"]) (FW fun _ _ _ _ _ _ _ _ _=>rfl) fun jX j0 D_Node__init_=>?_
 refine o5 hg (R 25 _ _ rfl rfl) rfl c_Node (ps:=["self"]) (vT fun _ _ _ _ _ _ _=>rfl) fun gn fU D_Node_begin_all=>?_
 refine o5 hg (R 26 _ _ rfl rfl) rfl c_Node (ps:=["self"]) (vT fun _ _ _ _ _ _ _=>rfl) fun dt du D_Node_begin_besides=>?_
 refine o5 hg (R 27 _ _ rfl rfl) rfl c_Node (ps:=["self"]) (vT fun _ _ _ _ _ _ _=>rfl) fun eV eZ D_Node_count_work=>?_
 refine o5 hg (R 28 _ _ rfl rfl) rfl c_Node (ps:=["self","ident","data"]) (FW fun _ _ _ _ _ _ _ _ _=>rfl) fun nQ oC D_Node_send=>?_
 refine o5 hg (R 29 _ _ rfl rfl) rfl c_Node (ps:=["self","code","bit"]) (FW fun _ _ _ _ _ _ _ _ _=>rfl) fun eU fi D_Node_send_fault=>?_
 refine o5 hg (R 30 _ _ rfl rfl) rfl c_Node (ps:=["self"]) (vT fun _ _ _ _ _ _ _=>rfl) fun dC dE D_Node_clear_faults=>?_
 refine o5 hg (R 31 _ _ rfl rfl) rfl c_Node (ps:=["self","code"]) (sG fun _ _ _ _ _ _ _ _=>rfl) fun fb fm D_Node_tell_fault=>?_
 refine aQ hg X G (R 32 _ _ rfl rfl) rfl rfl (ps:=["entries","index"]) (sG fun _ _ _ _ _ _ _ _=>rfl) fun j6 j4 D_mapped_keys=>?_
 refine aQ hg X G (R 33 _ _ rfl rfl) rfl rfl (ps:=["entries","index"]) (sG fun _ _ _ _ _ _ _ _=>rfl) fun i7 iU D_mapped_bytes=>?_
 refine aQ hg X G (R 34 _ _ rfl rfl) rfl rfl (ps:=["node","key","value"]) (FW fun _ _ _ _ _ _ _ _ _=>rfl) fun zd xP D_change=>?_
 refine aQ hg X G (R 35 _ _ rfl rfl) rfl rfl (ps:=["node","ident"]) (sG fun _ _ _ _ _ _ _ _=>rfl) fun jt iZ D_coming_place=>?_
 refine aQ hg X G (R 36 _ _ rfl rfl) rfl rfl (ps:=["node","place","data"]) (FW fun _ _ _ _ _ _ _ _ _=>rfl) fun kc kb D_take_coming=>?_
 refine aQ hg X G (R 37 _ _ rfl rfl) rfl rfl (ps:=["node","place","data"]) (FW fun _ _ _ _ _ _ _ _ _=>rfl) fun zl yo D_spread=>?_
 refine aQ hg X G (R 38 _ _ rfl rfl) rfl rfl (ps:=["node"]) (vT fun _ _ _ _ _ _ _=>rfl) fun oJ oG D_take_mark=>?_
 refine aQ hg X G (R 39 _ _ rfl rfl) rfl rfl (ps:=["node","place"]) (sG fun _ _ _ _ _ _ _ _=>rfl) fun oI nR D_take_kept=>?_
 refine aQ hg X G (R 40 _ _ rfl rfl) rfl rfl (ps:=["node","place"]) (sG fun _ _ _ _ _ _ _ _=>rfl) fun Cr Cp D_is_on=>?_
 refine aQ hg X G (R 41 _ _ rfl rfl) rfl rfl (ps:=["node","place"]) (sG fun _ _ _ _ _ _ _ _=>rfl) fun n9 nY D_is_marked=>?_
 refine aQ hg X G (R 42 _ _ rfl rfl) rfl rfl (ps:=["node","place"]) (sG fun _ _ _ _ _ _ _ _=>rfl) fun rB rH D_send_map=>?_
 refine aQ hg X G (R 43 _ _ rfl rfl) rfl rfl (ps:=["node"]) (vT fun _ _ _ _ _ _ _=>rfl) fun hV ic D_send_due_maps=>?_
 refine aQ hg X G (R 44 _ _ rfl rfl) rfl rfl (ps:=["node","place"]) (sG fun _ _ _ _ _ _ _ _=>rfl) fun zw yu D_is_due=>?_
 refine aQ hg X G (R 45 _ _ rfl rfl) rfl rfl (ps:=["node","place"]) (sG fun _ _ _ _ _ _ _ _=>rfl) fun lz lN D_is_overdue=>?_
 refine aQ hg X G (R 46 _ _ rfl rfl) rfl rfl (ps:=["entries","key","value"]) (FW fun _ _ _ _ _ _ _ _ _=>rfl) fun hZ gV D_why_not_taken=>?_
 refine aQ hg X G (R 47 _ _ rfl rfl) rfl rfl (ps:=["is_wrong"]) (vT fun _ _ _ _ _ _ _=>rfl) fun qi rq D_wrong_if=>?_
 refine aQ hg X G (R 48 _ _ rfl rfl) rfl rfl (ps:=["present","sub","value"]) (FW fun _ _ _ _ _ _ _ _ _=>rfl) fun j5 j1 D_why_not_way=>?_
 refine aQ hg X G (R 49 _ _ rfl rfl) rfl rfl (ps:=["present","value"]) (sG fun _ _ _ _ _ _ _ _=>rfl) fun hY iw D_why_not_ident=>?_
 refine aQ hg X G (R 50 _ _ rfl rfl) rfl rfl (ps:=["entries","way","key","value"]) (Vh fun _ _ _ _ _ _ _ _ _ _=>rfl) fun fN f9 D_why_not_listed=>?_
 refine aQ hg X G (R 51 _ _ rfl rfl) rfl rfl (ps:=["entries","index","count"]) (FW fun _ _ _ _ _ _ _ _ _=>rfl) fun hU ik D_why_not_count=>?_
 refine aQ hg X G (R 52 _ _ rfl rfl) rfl rfl (ps:=["entries","way","value"]) (FW fun _ _ _ _ _ _ _ _ _=>rfl) fun kh j8 D_is_mappable=>?_
 refine IS hg X G (R 53 _ _ rfl rfl) rfl rfl c_Hand (ps:=["self","is_set","key","row"]) (Vh fun _ _ _ _ _ _ _ _ _ _=>rfl) fun jZ j9 D_Hand__init_=>?_
 refine aQ hg X G (R 54 _ _ rfl rfl) rfl rfl (ps:=["node","data"]) (sG fun _ _ _ _ _ _ _ _=>rfl) fun i0 ji D_take_request=>?_
 refine aQ hg X G (R 55 _ _ rfl rfl) rfl rfl (ps:=["node","data"]) (sG fun _ _ _ _ _ _ _ _=>rfl) fun Cv Co D_reply=>?_
 refine aQ hg X G (R 56 _ _ rfl rfl) rfl rfl (ps:=["key"]) (vT fun _ _ _ _ _ _ _=>rfl) fun vd uV D_name_of=>?_
 refine aQ hg X G (R 57 _ _ rfl rfl) rfl rfl (ps:=["node","key","code"]) (FW fun _ _ _ _ _ _ _ _ _=>rfl) fun Ck Ct D_abort=>?_
 refine aQ hg X G (R 58 _ _ rfl rfl) rfl rfl (ps:=["node","code"]) (sG fun _ _ _ _ _ _ _ _=>rfl) fun lu lV D_abort_hand=>?_
 refine aQ hg X G (R 59 _ _ rfl rfl) rfl rfl (ps:=["data"]) (vT fun _ _ _ _ _ _ _=>rfl) fun nM oq D_asked_key=>?_
 refine aQ hg X G (R 60 _ _ rfl rfl) rfl rfl (ps:=["entries","key"]) (sG fun _ _ _ _ _ _ _ _=>rfl) fun gZ iu D_why_not_found=>?_
 refine aQ hg X G (R 61 _ _ rfl rfl) rfl rfl (ps:=["count","size"]) (sG fun _ _ _ _ _ _ _ _=>rfl) fun jv jd D_why_not_long=>?_
 refine aQ hg X G (R 62 _ _ rfl rfl) rfl rfl (ps:=["node","data"]) (sG fun _ _ _ _ _ _ _ _=>rfl) fun nP nK D_begin_set=>?_
 refine aQ hg X G (R 63 _ _ rfl rfl) rfl rfl (ps:=["size","data"]) (sG fun _ _ _ _ _ _ _ _=>rfl) fun dG dD D_why_not_announced=>?_
 refine aQ hg X G (R 64 _ _ rfl rfl) rfl rfl (ps:=["node","key","row","answer"]) (Vh fun _ _ _ _ _ _ _ _ _ _=>rfl) fun lE lX D_finish_set=>?_
 refine aQ hg X G (R 65 _ _ rfl rfl) rfl rfl (ps:=["node","key","value"]) (FW fun _ _ _ _ _ _ _ _ _=>rfl) fun jo jl D_set_over_bus=>?_
 refine aQ hg X G (R 66 _ _ rfl rfl) rfl rfl (ps:=["node","data","is_set"]) (FW fun _ _ _ _ _ _ _ _ _=>rfl) fun hX hJ D_why_not_piece=>?_
 refine aQ hg X G (R 67 _ _ rfl rfl) rfl rfl (ps:=["node","data"]) (sG fun _ _ _ _ _ _ _ _=>rfl) fun lr lM D_take_piece=>?_
 refine aQ hg X G (R 68 _ _ rfl rfl) rfl rfl (ps:=["node","data"]) (sG fun _ _ _ _ _ _ _ _=>rfl) fun ot n0 D_begin_ask=>?_
 refine aQ hg X G (R 69 _ _ rfl rfl) rfl rfl (ps:=["node","data"]) (sG fun _ _ _ _ _ _ _ _=>rfl) fun l9 lq D_give_piece=>?_
 refine aQ hg X G (R 70 _ _ rfl rfl) rfl rfl (ps:=["node","ident","data"]) (FW fun _ _ _ _ _ _ _ _ _=>rfl) fun lC lx D_take_frame=>?_
 refine aQ hg X G (R 71 _ _ rfl rfl) rfl rfl (ps:=["node","command"]) (sG fun _ _ _ _ _ _ _ _=>rfl) fun i6 iX D_take_command=>?_
 refine aQ hg X G (R 72 _ _ rfl rfl) rfl rfl (ps:=["node"]) (vT fun _ _ _ _ _ _ _=>rfl) fun lp lH D_begin_work=>?_
 refine aQ hg X G (R 73 _ _ rfl rfl) rfl rfl (ps:=["number","table"]) (sG fun _ _ _ _ _ _ _ _=>rfl) fun rW qu D_cn_begin=>?_
 refine aQ hg X G (R 74 _ _ rfl rfl) rfl rfl (ps:=["node","ident","now","data"]) (Vh fun _ _ _ _ _ _ _ _ _ _=>rfl) fun qT rO D_cn_frame=>?_
 refine aQ hg X G (R 75 _ _ rfl rfl) rfl rfl (ps:=["node","now"]) (sG fun _ _ _ _ _ _ _ _=>rfl) fun vk uP D_cn_tick=>?_
 refine aQ hg X G (R 76 _ _ rfl rfl) rfl rfl (ps:=["node"]) (vT fun _ _ _ _ _ _ _=>rfl) fun rK qF D_end_call=>?_
 refine aQ hg X G (R 77 _ _ rfl rfl) rfl rfl (ps:=["node"]) (vT fun _ _ _ _ _ _ _=>rfl) fun uR uN D_cn_take=>?_
 refine aQ hg X G (R 78 _ _ rfl rfl) rfl rfl (ps:=["node","index","sub"]) (FW fun _ _ _ _ _ _ _ _ _=>rfl) fun y9 xY D_cn_get=>?_
 refine aQ hg X G (R 79 _ _ rfl rfl) rfl rfl (ps:=["node","index","sub","row"]) (Vh fun _ _ _ _ _ _ _ _ _ _=>rfl) fun zi xW D_cn_set=>?_
 refine aQ hg X G (R 80 _ _ rfl rfl) rfl rfl (ps:=["node","code","bit"]) (FW fun _ _ _ _ _ _ _ _ _=>rfl) fun rZ rR D_cn_fault=>?_
 refine aQ hg X G (R 81 _ _ rfl rfl) rfl rfl (ps:=["node"]) (vT fun _ _ _ _ _ _ _=>rfl) fun qG rb D_cn_state=>?_
 refine IS hg X G (R 82 _ _ rfl rfl) rfl rfl c_Reader (ps:=["self","numbers"]) (sG fun _ _ _ _ _ _ _ _=>rfl) fun ir ia D_Reader__init_=>?_
 refine o5 hg (R 83 _ _ rfl rfl) rfl c_Reader (ps:=["self"]) (vT fun _ _ _ _ _ _ _=>rfl) fun fj eS D_Reader_has_more=>?_
 refine o5 hg (R 84 _ _ rfl rfl) rfl c_Reader (ps:=["self"]) (vT fun _ _ _ _ _ _ _=>rfl) fun dm dk D_Reader_read_number=>?_
 refine o5 hg (R 85 _ _ rfl rfl) rfl c_Reader (ps:=["self"]) (vT fun _ _ _ _ _ _ _=>rfl) fun eX fk D_Reader_read_row=>?_
 refine aQ hg X G (R 86 _ _ rfl rfl) rfl rfl (ps:=["reader"]) (vT fun _ _ _ _ _ _ _=>rfl) fun lP mf D_read_begin=>?_
 refine aQ hg X G (R 87 _ _ rfl rfl) rfl rfl (ps:=["node","reader"]) (sG fun _ _ _ _ _ _ _ _=>rfl) fun d5 i4 D_read_frame=>?_
 refine aQ hg X G (R 88 _ _ rfl rfl) rfl rfl (ps:=["node","reader"]) (sG fun _ _ _ _ _ _ _ _=>rfl) fun fI kF D_read_tick=>?_
 refine aQ hg X G (R 89 _ _ rfl rfl) rfl rfl (ps:=["node","reader"]) (sG fun _ _ _ _ _ _ _ _=>rfl) fun fH kr D_read_take=>?_
 refine aQ hg X G (R 90 _ _ rfl rfl) rfl rfl (ps:=["node","reader"]) (sG fun _ _ _ _ _ _ _ _=>rfl) fun iK m8 D_read_get=>?_
 refine aQ hg X G (R 91 _ _ rfl rfl) rfl rfl (ps:=["node","reader"]) (sG fun _ _ _ _ _ _ _ _=>rfl) fun iI mI D_read_set=>?_
 refine aQ hg X G (R 92 _ _ rfl rfl) rfl rfl (ps:=["node","reader"]) (sG fun _ _ _ _ _ _ _ _=>rfl) fun ef i3 D_read_fault=>?_
 refine aQ hg X G (R 93 _ _ rfl rfl) rfl rfl (ps:=["node","reader"]) (sG fun _ _ _ _ _ _ _ _=>rfl) fun eg jD D_read_state=>?_
 refine aQ hg X G (R 94 _ _ rfl rfl) rfl rfl (ps:=["calls"]) (vT fun _ _ _ _ _ _ _=>rfl) fun uW uJ D_answers=>?_
 obtain ⟨Cw,ep_CALLS,z0,n_CALLS,l_CALLS,y0⟩:=Og (x:="CALLS") (l:=Jx) (B 4 _ rfl)
 obtain ⟨t0,f0,z1,rfl,w0,y1⟩:=dA y0
 cases (Option.some.inj ((PySem.W.mg_of X G w0).symm.trans D_read_frame.m))
 obtain ⟨t1,f1,z2,rfl,w1,y2⟩:=dA y1
 cases (Option.some.inj ((PySem.W.mg_of X G w1).symm.trans D_read_tick.m))
 obtain ⟨t2,f2,z3,rfl,w2,y3⟩:=dA y2
 cases (Option.some.inj ((PySem.W.mg_of X G w2).symm.trans D_read_take.m))
 obtain ⟨t3,f3,z4,rfl,w3,y4⟩:=dA y3
 cases (Option.some.inj ((PySem.W.mg_of X G w3).symm.trans D_read_get.m))
 obtain ⟨t4,f4,z5,rfl,w4,y5⟩:=dA y4
 cases (Option.some.inj ((PySem.W.mg_of X G w4).symm.trans D_read_set.m))
 obtain ⟨t5,f5,z6,rfl,w5,y6⟩:=dA y5
 cases (Option.some.inj ((PySem.W.mg_of X G w5).symm.trans D_read_fault.m))
 obtain ⟨t6,f6,z7,rfl,w6,y7⟩:=dA y6
 cases (Option.some.inj ((PySem.W.mg_of X G w6).symm.trans D_read_state.m))
 cases Hh y7
 obtain ⟨rP,v_LINE_BYTES⟩:=aX (B 5 _ rfl)
 obtain ⟨qC,v_MOST_LINES⟩:=aX (B 6 _ rfl)
 obtain ⟨oY,v_TABLE_FIRST⟩:=aX (B 7 _ rfl)
 obtain ⟨qS,v_TABLE_LAST⟩:=aX (B 8 _ rfl)
 obtain ⟨xt,v_MOST_SUB⟩:=aX (B 9 _ rfl)
 obtain ⟨Mx,v_MAPS⟩:=aX (B 10 _ rfl)
 obtain ⟨Rb,v_OFF⟩:=aX (B 11 _ rfl)
 obtain ⟨Hc,v_IDENT⟩:=aX (B 12 _ rfl)
 obtain ⟨mN,v_WHEN_CHANGED⟩:=aX (B 13 _ rfl)
 obtain ⟨qm,v_FAULT_BITS⟩:=aX (B 14 _ rfl)
 obtain ⟨L9,v_MARK⟩:=aX (B 15 _ rfl)
 obtain ⟨pz,v_FAULT_IDENT⟩:=aX (B 16 _ rfl)
 obtain ⟨wC,v_FOLLOWED⟩:=aX (B 17 _ rfl)
 obtain ⟨HK,v_HEART⟩:=aX (B 18 _ rfl)
 obtain ⟨DL,v_COMING⟩:=aX (B 19 _ rfl)
 obtain ⟨pA,v_COMING_LIST⟩:=aX (B 20 _ rfl)
 obtain ⟨Ig,v_GOING⟩:=aX (B 21 _ rfl)
 obtain ⟨rg,v_GOING_LIST⟩:=aX (B 22 _ rfl)
 obtain ⟨oZ,v_BEFORE_WORK⟩:=aX (B 23 _ rfl)
 obtain ⟨Aa,v_AT_WORK⟩:=aX (B 24 _ rfl)
 obtain ⟨AW,v_STOPPED⟩:=aX (B 25 _ rfl)
 obtain ⟨qO,v_ROW_FRAMES⟩:=aX (B 26 _ rfl)
 obtain ⟨IU,v_TAKEN⟩:=aX (B 27 _ rfl)
 obtain ⟨o3,v_WRONG_VALUE⟩:=aX (B 28 _ rfl)
 obtain ⟨zO,v_NOT_NOW⟩:=aX (B 29 _ rfl)
 obtain ⟨mx,v_NOT_MAPPABLE⟩:=aX (B 30 _ rfl)
 obtain ⟨jA,v_TOO_MUCH_MAPPED⟩:=aX (B 31 _ rfl)
 obtain ⟨kS,v_BITS_11_TO_30⟩:=aX (B 32 _ rfl)
 obtain ⟨kP,v_BITS_23_TO_31⟩:=aX (B 33 _ rfl)
 obtain ⟨wR,v_NO_INDEX⟩:=aX (B 34 _ rfl)
 obtain ⟨Dw,v_NO_SUB⟩:=aX (B 35 _ rfl)
 obtain ⟨nq,v_NOT_READABLE⟩:=aX (B 36 _ rfl)
 obtain ⟨mQ,v_NOT_WRITABLE⟩:=aX (B 37 _ rfl)
 obtain ⟨wz,v_TOO_LONG⟩:=aX (B 38 _ rfl)
 obtain ⟨tO,v_TOO_SHORT⟩:=aX (B 39 _ rfl)
 obtain ⟨oQ,v_NOT_AWAITED⟩:=aX (B 40 _ rfl)
 obtain ⟨qf,v_WRONG_TURN⟩:=aX (B 41 _ rfl)
 obtain ⟨Md,v_TURN⟩:=aX (B 42 _ rfl)
 obtain ⟨II,v_FOUND⟩:=aX (B 43 _ rfl)
 obtain ⟨o9,v_PIECE_BYTES⟩:=aX (B 44 _ rfl)
 obtain ⟨LN,v_DONE⟩:=aX (B 45 _ rfl)
 obtain ⟨qI,v_NONE_THERE⟩:=aX (B 46 _ rfl)
 obtain ⟨z9,v_REFUSED⟩:=aX (B 47 _ rfl)
 obtain ⟨oO,v_MOST_NUMBER⟩:=aX (B 48 _ rfl)
 obtain ⟨qY,v_MOST_IDENT⟩:=aX (B 49 _ rfl)
 obtain ⟨rh,v_MOST_BYTES⟩:=aX (B 50 _ rfl)
 obtain ⟨uG,v_MOST_CODE⟩:=aX (B 51 _ rfl)
 obtain ⟨xf,v_MOST_BIT⟩:=aX (B 52 _ rfl)
 exact ⟨⟨bR,aC,bL,bq,nE,xR,yA,je,zh,qE,rG,fW,nI,fM,qh,rC,ip,il,fg,NL,lK,nU,qL,ig,hR,nN,fL,rX,jX,gn,dt,eV,nQ,eU,dC,fb,j6,i7,zd,jt,kc,zl,oJ,oI,Cr,n9,rB,hV,zw,lz,hZ,qi,j5,hY,fN,hU,kh,jZ,i0,Cv,vd,Ck,lu,nM,gZ,jv,nP,dG,lE,jo,hX,lr,ot,l9,lC,i6,lp,rW,qT,vk,rK,uR,y9,zi,rZ,qG,ir,fj,dm,eX,lP,d5,fI,fH,iK,iI,ef,eg,uW,Cw⟩,⟨oA,yU,ya,jz,xJ,rL,rf,fS,om,gj,qt,qw,h9,gY,fq,NG,ly,oh,qH,ie,h7,nL,gv,qK,j0,fU,du,eZ,oC,fi,dE,fm,j4,iU,xP,iZ,kb,yo,oG,nR,Cp,nY,rH,ic,yu,lN,gV,rq,j1,iw,f9,ik,j8,j9,ji,Co,uV,Ct,lV,oq,iu,jd,nK,dD,lX,jl,hJ,lM,n0,lq,lx,iX,lH,qu,rO,uP,qF,uN,xY,xW,rR,rb,ia,eS,dk,fk,mf,i4,kF,kr,m8,mI,i3,jD,uJ,rP,qC,oY,qS,xt,Mx,Rb,Hc,mN,qm,L9,pz,wC,HK,DL,pA,Ig,rg,oZ,Aa,AW,qO,IU,o3,zO,mx,jA,kS,kP,wR,Dw,nq,mQ,wz,tO,oQ,qf,Md,II,o9,LN,qI,z9,oO,qY,rh,uG,xf⟩,⟨⟨c_Entry.L,c_Entry.at 0 rfl,c_Entry.at 1 rfl,c_Entry.at 2 rfl,c_Entry.at 3 rfl,c_Entry.at 4 rfl,c_Node.L,c_Node.at 0 rfl,c_Node.at 1 rfl,c_Node.at 2 rfl,c_Node.at 3 rfl,c_Node.at 4 rfl,c_Node.at 5 rfl,c_Node.at 6 rfl,c_Node.at 7 rfl,c_Node.at 8 rfl,c_Node.at 9 rfl,c_Node.at 10 rfl,c_Node.at 11 rfl,c_Node.at 12 rfl,c_Node.at 13 rfl,c_Hand.L,c_Hand.at 0 rfl,c_Hand.at 1 rfl,c_Hand.at 2 rfl,c_Hand.at 3 rfl,c_Reader.L,c_Reader.at 0 rfl,c_Reader.at 1 rfl⟩,D_number_of,D_row_of,D_filled,D_Entry__init_,D_key_of,D_value_of,D_entry_at,D_is_table_index,D_has_index,D_is_table_right,D_lines_of,D_line_key,D_is_line_right,D_table_entries,D_besides_entries,D_put,D_put_coming,D_put_going,D_put_list,D_followed_node,D_followed_time,D_take_beat,D_watch_followed,D_beat_own,D_Node__init_,D_Node_begin_all,D_Node_begin_besides,D_Node_count_work,D_Node_send,D_Node_send_fault,D_Node_clear_faults,D_Node_tell_fault,D_mapped_keys,D_mapped_bytes,D_change,D_coming_place,D_take_coming,D_spread,D_take_mark,D_take_kept,D_is_on,D_is_marked,D_send_map,D_send_due_maps,D_is_due,D_is_overdue,D_why_not_taken,D_wrong_if,D_why_not_way,D_why_not_ident,D_why_not_listed,D_why_not_count,D_is_mappable,D_Hand__init_,D_take_request,D_reply,D_name_of,D_abort,D_abort_hand,D_asked_key,D_why_not_found,D_why_not_long,D_begin_set,D_why_not_announced,D_finish_set,D_set_over_bus,D_why_not_piece,D_take_piece,D_begin_ask,D_give_piece,D_take_frame,D_take_command,D_begin_work,D_cn_begin,D_cn_frame,D_cn_tick,D_end_call,D_cn_take,D_cn_get,D_cn_set,D_cn_fault,D_cn_state,D_Reader__init_,D_Reader_has_more,D_Reader_read_number,D_Reader_read_row,D_read_begin,D_read_frame,D_read_tick,D_read_take,D_read_get,D_read_set,D_read_fault,D_read_state,D_answers,PySem.W.mg_of X G v_LINE_BYTES,PySem.W.mg_of X G v_MOST_LINES,PySem.W.mg_of X G v_TABLE_FIRST,PySem.W.mg_of X G v_TABLE_LAST,PySem.W.mg_of X G v_MOST_SUB,PySem.W.mg_of X G v_MAPS,PySem.W.mg_of X G v_OFF,PySem.W.mg_of X G v_IDENT,PySem.W.mg_of X G v_WHEN_CHANGED,PySem.W.mg_of X G v_FAULT_BITS,PySem.W.mg_of X G v_MARK,PySem.W.mg_of X G v_FAULT_IDENT,PySem.W.mg_of X G v_FOLLOWED,PySem.W.mg_of X G v_HEART,PySem.W.mg_of X G v_COMING,PySem.W.mg_of X G v_COMING_LIST,PySem.W.mg_of X G v_GOING,PySem.W.mg_of X G v_GOING_LIST,PySem.W.mg_of X G v_BEFORE_WORK,PySem.W.mg_of X G v_AT_WORK,PySem.W.mg_of X G v_STOPPED,PySem.W.mg_of X G v_ROW_FRAMES,PySem.W.mg_of X G v_TAKEN,PySem.W.mg_of X G v_WRONG_VALUE,PySem.W.mg_of X G v_NOT_NOW,PySem.W.mg_of X G v_NOT_MAPPABLE,PySem.W.mg_of X G v_TOO_MUCH_MAPPED,PySem.W.mg_of X G v_BITS_11_TO_30,PySem.W.mg_of X G v_BITS_23_TO_31,PySem.W.mg_of X G v_NO_INDEX,PySem.W.mg_of X G v_NO_SUB,PySem.W.mg_of X G v_NOT_READABLE,PySem.W.mg_of X G v_NOT_WRITABLE,PySem.W.mg_of X G v_TOO_LONG,PySem.W.mg_of X G v_TOO_SHORT,PySem.W.mg_of X G v_NOT_AWAITED,PySem.W.mg_of X G v_WRONG_TURN,PySem.W.mg_of X G v_TURN,PySem.W.mg_of X G v_FOUND,PySem.W.mg_of X G v_PIECE_BYTES,PySem.W.mg_of X G v_DONE,PySem.W.mg_of X G v_NONE_THERE,PySem.W.mg_of X G v_REFUSED,PySem.W.mg_of X G v_MOST_NUMBER,PySem.W.mg_of X G v_MOST_IDENT,PySem.W.mg_of X G v_MOST_BYTES,PySem.W.mg_of X G v_MOST_CODE,PySem.W.mg_of X G v_MOST_BIT,kA X G (B 53 _ rfl),kA X G (B 54 _ rfl),kA X G (B 55 _ rfl),kA X G (B 56 _ rfl),kA X G (B 57 _ rfl),kA X G (B 58 _ rfl),kA X G (B 59 _ rfl),kA X G (B 60 _ rfl),PySem.W.mg_of X G n_CALLS,⟨t0,t1,t2,t3,t4,t5,t6,ep_CALLS,l_CALLS⟩⟩⟩
end Fn
namespace L2
open PySem PySem.Spec PyProof.Rows
theorem R4{P:Program}{w:World}{K:PySem.W.Frag}{mg mb:Str→Option Value}{k:Nat}{fa a:Addr}{fd:FuncData}{x:Str}{sp:Sp}{s₁:Shared}{vs:List Value}{ns out:List Int}
  (KX:K.In s₁.heap) (hns:s₁.heap.Ns mainGlobals mg) (hb:s₁.heap.Ns builtinsNs mb) (hbb:∀x:Str,x ≠ "__name__"→mb x=bootBuiltins x) (hlim:s₁.heap.NoLimit) (hg:s₁.gens = #[])
  (ha:s₁.heap.get? a=some {cls:= .type "list",data:= .seq vs.toArray}) (hi:IntsAre vs ns) (hl:ns.length≤sizeLine) (hr:iE k callerA)
  (F:∀base:Heap,bp P w K mg base cx k fa fd [x] sp) (hbind:Binds K fd [x] [])
  (hsp:∀H:Hp,cb K H a (ns.map V.int)→sp [.ref a] H (fun v H'=>∃l,v= .ref l∧H' l=some (.lst (out.map V.int))) fun _ _ _=>False):
  codeAny (model P w) callerA (.call (.ref fa) ⟨[.ref a],[]⟩) (fun r s'=>(∃l us n,r= .ok (.ret (.ref l))∧s'.heap.get? l=some {cls:= .type "list",data:= .seq us.toArray n}∧Vals (out.map V.int) us)∧OldK s₁.heap s'.heap∧s'.os=s₁.os∧AllBare s'.gens) s₁:=by
 have rv:=Gs hi
 have lenV:=hi.length
 have core:∀H:Hp,Wf H→cb K H a (ns.map V.int)→xB P w H s₁.heap→(∀b,H b ≠ none→b=a)→(H a ≠ none→K.lookup a=none)→
   codeAny (model P w) callerA (.call (.ref fa) ⟨[.ref a],[]⟩) (fun r s'=>(∃l us n,r= .ok (.ret (.ref l))∧s'.heap.get? l=some {cls:= .type "list",data:= .seq us.toArray n}∧Vals (out.map V.int) us)∧OldK s₁.heap s'.heap∧s'.os=s₁.os∧AllBare s'.gens) s₁:=by
  intro H hO hS dB hA hK
  have base_of:∀{b:Addr}{o:Obj},s₁.heap.get? b=some o→H b=none→(IX s₁.heap H).get? b=some o:=fun e n=>QP e n
  have noA:∀{b:Addr}{o:Obj}{es:Array DictEntry}{ep:Nat},s₁.heap.get? b=some o→o.data= .dict es ep→H b=none:=fun {b o es ep} e d=>by
   cases q:H b with
   | none=>rfl
   | some u=>
    have e':b=a:=hA b (by rw [q];simp)
    subst e'
    rw [ha] at e;cases e
    have d':Data.seq vs.toArray _=Data.dict es ep:=d
    cases d'
  have nsK:∀{b:Addr}{m:Str→Option Value},s₁.heap.Ns b m→(IX s₁.heap H).Ns b m:=fun {b m} ⟨o,es,ep,e,d,r⟩=>⟨o,es,ep,base_of e (noA e d),d,r⟩
  have hKb:K.In (IX s₁.heap H):=fun b o e=>base_of (KX b o e) (by
   cases q:H b with
   | none=>rfl
   | some u=>
    have e':b=a:=hA b (by rw [q];simp)
    subst e'
    rw [hK (by rw [q];simp)] at e;cases e)
  have hM:Mod K mg (IX s₁.heap H):=⟨hKb,nsK hns,⟨mb,nsK hb,hbb⟩,let ⟨mc,h1,h2⟩:=hlim;⟨mc,nsK h1,h2⟩⟩
  have e0:Mf P w K mg (IX s₁.heap H) callerA [] s₁ H:=⟨rfl,hM,fun b o e=>RZ e,Nat.le_of_eq (O9 _ _),trivial,fun b hb=>absurd (show b ∈ ([]:List Addr) from hb) (by simp),dB,.of_eq hg⟩
  refine codeAny_mono ((F _).run callerA [] s₁ H ⟨[.ref a],[]⟩ [.ref a] [.ref a] _ _ hr e0 (hbind s₁ [.ref a] KX rfl) (.cons rfl .nil) (hsp H hS)) fun r s' h=>?_
  cases r with
  | error e=>exact (show False from h).elim
  | ok fl=>
   cases fl with
   | next=>exact False.elim h
   | brk=>exact False.elim h
   | cont=>exact False.elim h
   | ret u=>
    obtain ⟨v,H',os,bare,un,hok',r',l,rfl,hl'⟩:=h
    obtain rfl:u=Value.ref l:=r'
    obtain ⟨_,us,n,hv,hu⟩:=hok' l _ hl'
    refine ⟨⟨l,us,n,rfl,hu,hv⟩,OldK.of_keep fun b o e=>?_,os,bare⟩
    cases q:H b with
    | none=>exact un.keep b o e q (by intro z;exact absurd (show b ∈ ([]:List Addr) from z) (by simp)) (by simp)
    | some u=>
     rcases hO b with z | ⟨ob,xs,z⟩
     ·rw [q] at z;cases z
     ·have z2:=un.CA b ob _ z
      obtain ⟨e1,_⟩:=dB b _ z
      obtain ⟨e2,_⟩:=hok' b _ z2
      rw [e] at e1;cases e1
      exact e2
 cases hk:K.lookup a with
 | some o=>
  have e:=KX a o hk
  rw [ha] at e
  cases e
  refine core (fun _=>none) (fun _=> .inl rfl) (.inr ⟨_,vs.toArray,_,hk,rfl,rfl,rfl,by rw [List.size_toArray,lenV];exact hl,by simpa using rv⟩) (fun b u z=>by have z':(none:Option HO)=some u:=z;cases z') (fun b z=>absurd rfl z) fun z=>absurd rfl z
 | none=>
  refine core (fun b=>if b=a then some (.pV {cls:= .type "list",data:= .seq vs.toArray} (.lst (ns.map V.int))) else none) (fun b=>?_) (.inl (.inr ⟨{cls:= .type "list",data:= .seq vs.toArray},if_pos rfl⟩)) (fun b u z=>?_) (fun b z=>?_) fun _=>hk
  ·by_cases hb:b=a
   ·exact .inr ⟨_,_,if_pos hb⟩
   ·exact .inl (if_neg hb)
  ·by_cases hb:b=a
   ·have z':=(if_pos hb).symm.trans z
    cases z'
    subst hb
    exact ⟨ha,by rw [List.length_map];exact hl,vs,_,rv,ha⟩
   ·have z':=(if_neg hb).symm.trans z
    cases z'
  ·by_cases hb:b=a
   ·exact hb
   ·exact absurd (if_neg hb) z
end L2
namespace Fn
open PySem PySem.W PyProof.Rows L2
abbrev VQ:OpenSpec:=PySem.Challenge.rw_framenode_s01_answers
theorem Pe{P:Params}{h:Heap}{args:List WData}{vals:List Value}(hpre:VQ.pre args=true)(hwl:WellAll P h vals args):
  ∃a vs ns,vals = [Value.ref a]∧args = [WData.list (ns.map WData.int)]∧h.get? a=some {cls:= .type "list",data:= .seq vs.toArray}∧IntsAre vs ns∧ns.length≤30000∧PySa32.answers_asked ns=true∧
   Codec.decAll VQ.args args=some (ns,()):=by
 have hsh:WShape.hasAll [] args [.list .int] = true:=os_shapes args hpre
 obtain ⟨d,r,rfl,h1,h2⟩:=hasAllW_cons hsh
 obtain rfl:=hasAllW_nil h2
 obtain ⟨xs,rfl,h3⟩:=hasW_list h1
 obtain ⟨ns,rfl⟩:=items_int h3
 have e:ofPy (PyData.list (ns.map PyData.int))= .list (ns.map WData.int):=by
  rw [←ofPys_ints]
  rfl
 have hs:=os_pre_isSome hpre
 rw [←e] at hs
 obtain ⟨d1,_,d2,_⟩:=os_dec_ints (least:=0) (most:=30000) (lo:= .negSucc 2147483647) (hi:= .ofNat 4294967295) hs
 rw [e] at d1
 have h4:PySa32.answers_asked ns=true:=os_pre_asked hpre d1
 cases hwl with
 | cons w1 w2=>
  cases w2
  cases w1 with
  | list ho hall=>exact ⟨_,_,ns,rfl,rfl,ho,Att.Ci ns _ hall,d2,h4,d1⟩
theorem Dq{R:WRecords}{cl:Str→Option Addr}{h:Heap}:∀{ns:List Int}{us:List Value},Vals (ns.map V.int) us→ReadsAllW R cl h us (ns.map WData.int) []
 | [],_,.nil=> .nil
 | _::_,_,.cons e t=>by
  obtain ⟨t1,rfl⟩:=e
  exact .cons (.int _ t1) (Dq t)
end Fn
namespace Fn
open PySem PySem.W PyProof.Rows L2
theorem Vr{q:Program}{loose:List Str}{XP:(Str→Option Value)→Heap→Prop}{d:DefRec}(hdf:d.params.defaults = [])(hdn:d.name = "answers"):WalkOS q loose XP (fun _ h=>YH h) VQ d [] (fun f vs=>PySem.call f vs):=by
 intro w s₀ s₁ mg mb G Y fa o pm cd doc dV kV ho hd hcd hD hmg hg args vals as hpre hlay Wt hwl hlo
 obtain ⟨a,vs,ns,rfl,rfl,hobj,hints,hlen,hask,hdec⟩:=Pe hpre hwl
 obtain ⟨g,K,gk,KX,e⟩:=Y
 obtain ⟨t,u,T⟩:=Tf gk KX G.T.g e
 rw [hdn,T.answers.m] at hmg
 cases hmg
 refine enter_call (codeAny_mono (R4 KX G.T.g G.T.b G.T.builtins G.T.nolimit hg hobj hints (Nat.le_trans hlen (by decide)) ⟨rfl,by decide,by decide⟩ (fun base=>Lz T) T.answers.b (out:=PySa32.answers ns) fun H hS=>?_) fun r s' hq=>?_)
 ·exact ⟨a,ns,rfl,hS,hlen,hask,fun l H' _ _ e=>⟨l,rfl,e⟩⟩
 ·obtain ⟨⟨l,us,n,rfl,h1,h2⟩,h3,h4,h5⟩:=hq
  exact ⟨.inl ⟨.ref l,.list ((PySa32.answers ns).map WData.int),_,rfl,fun _=>rfl,ReadsW.list h1 rfl rfl (Dq h2),osPost (os_post hdec (same_self _)),fun h=>absurd h Bool.false_ne_true⟩,h3,h4,h5⟩
end Fn
open PySem PySem.W PyProof.Rows Fn L2
theorem PySem.Challenge.cw_framenode_s01_answers_holds : PySem.Challenge.rw_framenode_s01_answers.Holds :=
 holds_os (r:=PySem.Challenge.rw_framenode_s01_answers) (q:=qv pw) (loose:=lo pw) (Xt:=Wa) (XP:=fun _ _=>True) (Yf:=fun s=>YH s.heap) (Ya:=fun _=>True) (YP:=fun _ h=>YH h) (N:=8840) RS (fun _ _ e=>of_eq_true e) (fun _ _ _ ⟨g,K,c,a,b⟩ k=>⟨g,K,c,a.keeps k,b⟩)
  (fun _ _=>trivial) (fun _ _ _ _ _=>trivial) (d:=VV pw) (kwd:=[]) (by kernel_rfl) (by kernel_rfl) (by kernel_rfl) (fun _ _=>recFacts_nil rfl) os_shapes (by decide +kernel) (by decide +kernel) ⟨rfl,rfl,rfl,rfl,rfl,by decide +kernel⟩
  ⟨[.list [.int 0,.int 1,.int 0]],by decide +kernel,by decide +kernel⟩ (Vr (by kernel_rfl) (by kernel_rfl))
#print axioms PySem.Challenge.cw_framenode_s01_answers_holds
