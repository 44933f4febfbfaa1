import PyProof.Rows.All
import Wide.All
import OpenK.AllK
import Wide.FinOn
import Lean
import PyProof.EqAt
import PyProof.EqKinds
import PyProof.TupleCall
import PyProof.StrOps
import PyProof.MeetsStr
import PyProof.StrLawsJoin
import PySem.Challenge.RW_leastdeeds_k24_least_refused
set_option Elab.async false
set_option linter.all false
set_option maxRecDepth 100000
set_option tactic.hygienic false
set_option autoImplicit true
set_option relaxedAutoImplicit true
set_option genSizeOfSpec false
set_option genSizeOf false
set_option maxHeartbeats 0
set_option bootstrap.genMatcherCode false
set_option genSizeOf false
noncomputable section
local macro_rules(kind:=«term{_}»)|`({$a:term,*})=>`(⟨$a,*⟩)
local macro_rules(kind:=Lean.Parser.Term.quotedName)|x=>match x[0].isNameLit?.getD .anonymous|>.toString with|"a"=>`(by omega)|"d"=>`(by decide)|"s"=>`(by simp)|"o"=>`(by simp;omega)|"k"=>`(by decide +kernel)|"r"=>`(by rfl)|_=>Lean.Macro.throwUnsupported
local macro_rules|`(tactic|omega)=>`(tactic|first|(simp +arith;done)|lia|omega(config:={}))
local macro_rules(kind:=Lean.Parser.Tactic.obtain)|x=>if x[1][0][0][0].isOfKind ``Lean.Parser.Tactic.rcasesPat.paren then pure (x.setArg 1 (x[1].rewriteBottomUp λs=>if s.isOfKind ``Lean.Parser.Tactic.rcasesPat.paren then Lean.mkNode ``Lean.Parser.Tactic.rcasesPat.tuple #[Lean.mkAtom "⟨",Lean.mkNullNode (Lean.Syntax.SepArray.ofElems (sep:=",") (s[1][0][0].getSepArgs.map λb=>Lean.mkNode ``Lean.Parser.Tactic.rcasesPatLo #[Lean.mkNode ``Lean.Parser.Tactic.rcasesPatMed #[Lean.mkNullNode #[b]],Lean.mkNullNode])).elemsAndSeps,Lean.mkAtom "⟩"] else s)) else Lean.Macro.throwUnsupported
local macro_rules|`(tactic|show $e)=>`(tactic|refine $e)
local macro_rules(kind:=Lean.Parser.Tactic.dsimp)|x=>if x[3].getNumArgs=0 then pure (Lean.mkNode ``Lean.Parser.Tactic.simp #[Lean.mkAtom "simp",x[1],x[2],Lean.mkNullNode #[Lean.mkAtom "only"],x[4],x[5]]) else Lean.Macro.throwUnsupported
local macro_rules|`(~~~$h)=>`(by simpa using $h)
abbrev tqa:=@PySem.wpAny_bind
abbrev tqb:=@PySem.wpAny_pure
abbrev tqf:=@PySem.wpAny_field
abbrev tqo:=@PySem.wpAny_holding
abbrev tqp:=@PySem.wpAny_truthy_bool
abbrev RG:=@PySem.W.Frag
abbrev RH:=@List.getElem?_eq_some_iff
abbrev RI:=@PySem.Heap.get?_push_of_some
abbrev RJ:=@PySem.Value
abbrev RK:=@List.length_map
abbrev RM:=@Bool.and_eq_true
abbrev RN:=@Nat.le_refl
abbrev RO:=@PySem.Shared
abbrev RP:=@List.mem_cons_of_mem
abbrev RQ:=@Option.some.inj
abbrev RR:=@List.getElem?_append_left
abbrev RS:=@List.mem_singleton
abbrev RT:=@List.getElem?_set_ne
abbrev RU:=@Nat.le_trans
abbrev RW:=@List.size_toArray
abbrev RX:=@PySem.Heap.get?_push_size
abbrev RY:=@List.mem_cons_self
abbrev RZ:=@List.getElem?_eq_getElem
abbrev R0:=@PySem.Heap.lt_size
abbrev R1:=@Nat.le_of_ble_eq_true
abbrev R3:=@Option.map_eq_some_iff
abbrev R4:=@List.all_eq_true
abbrev R5:=@List.mem_map
abbrev R6:=@Bool.false_ne_true
abbrev R7:=@List.mem_cons
abbrev R9:=@Nat.lt_of_lt_of_le
abbrev Sa:=@List.length_append
abbrev Se:=@Nat.ne_of_lt
abbrev Sf:=@Option.bind_eq_some_iff
abbrev Sg:=@PySem.AutoSeq1.wpAny_loadPart'
abbrev Sh:=@List.getElem?_map
abbrev Si:=@List.mem_append
abbrev Sj:=@List.mem_of_getElem?
abbrev Sk:=@List.getElem?_set_self
abbrev Sl:=@PySem.Heap.get?_update_other
abbrev So:=@List.getElem?_append_right
abbrev Sq:=@List.map_append
abbrev Sr:=@PySem.World
abbrev Sw:=@beq_eq_false_iff_ne
abbrev Sx:=@PySem.Program
abbrev Sy:=@List.getD_eq_getElem?_getD
abbrev Sz:=@List.mem_append_right
abbrev SA:=@PyProof.Rows.slot_tuple_getitem
abbrev SD:=@PySem.Heap.get?_update_self
abbrev SF:=@Nat.ne_of_gt
abbrev SG:=@List.getElem?_cons_zero
abbrev SH:=@List.getElem?_cons_succ
abbrev SI:=@List.lookup_cons
abbrev SJ:=@List.length_take
abbrev SK:=@Ne.symm
abbrev SM:=@Array.getElem?_eq_some_iff
abbrev SN:=@List.map_map
abbrev SO:=@Nat.add_sub_cancel_left
abbrev SQ:=@List.all_cons
abbrev SR:=@PySem.OsState
abbrev SU:=@PySem.W.kia_one
abbrev SV:=@PySem.W.SharedT
abbrev SY:=@List.not_mem_nil
abbrev S0:=@PyProof.Rows.callWith_type1
abbrev S1:=@List.mem_map_of_mem
abbrev S2:=@Option.getD_some
abbrev S3:=@List.map_cons
abbrev S4:=@PySem.DictEntry
abbrev S5:=@Nat.zero_le
abbrev S6:=@List.mem_of_mem_take
abbrev S7:=@List.mem_append_left
abbrev S8:=@List.take_of_length_le
abbrev S9:=@Nat.lt_irrefl
abbrev Ta:=@List.getElem_mem
abbrev Tb:=@Option.some.injEq
abbrev Tc:=@Iff.rfl
abbrev Td:=@PySem.Heap.SameBut.update
abbrev Te:=@PySem.Around.under_plainId
abbrev Tf:=@List.length_range
abbrev Tg:=@List.length_replicate
abbrev Ti:=@PySem.Around
abbrev Tj:=@List.nodup_cons
abbrev Tn:=@Bool.eq_iff_iff
abbrev To:=@List.length_cons
abbrev Tp:=@PySem.Obj.data_mapFields
abbrev Tq:=@List.take_succ
abbrev Tr:=@List.mem_range
abbrev Ts:=@List.exists_of_findSome?_eq_some
abbrev Tt:=@Int.toNat_natCast
abbrev Tu:=@PySem.Env
abbrev Tv:=@List.getElem?_range
abbrev Tw:=@Option.isNone_iff_eq_none
abbrev Tx:=@Array.getElem?_eq_getElem
abbrev Tz:=@PySem.Paired
abbrev TB:=@PySem.Heap.SameBut
abbrev TC:=@List.getElem?_eq_none
abbrev TF:=@PySem.W.mg_of
abbrev TH:=@List.length_eq_zero_iff
abbrev TJ:=@List.append_assoc
abbrev TL:=@List.mem_filter
abbrev TM:=@List.append_nil
abbrev TN:=@Bool.or_eq_true
abbrev TQ:=@PySem.Heap.size_push
abbrev TR:=@List.replicate_succ
abbrev TU:=@List.getElem?_concat_length
abbrev TV:=@PySem.Params
abbrev TX:=@Nat.le_add_right
abbrev TY:=@List.length_drop
abbrev TZ:=@Int.emod_lt_of_pos
abbrev T1:=@List.length_singleton
abbrev T2:=@List.nil_append
abbrev T3:=@Int.emod_nonneg
abbrev T4:=@Nat.lt_succ_of_lt
abbrev T5:=@List.eq_of_mem_replicate
abbrev T6:=@List.map_congr_left
abbrev T7:=@Array.length_toList
abbrev T8:=@Option.bind_some
abbrev T9:=@List.getElem?_replicate
abbrev Ua:=@PySem.Comprehension
abbrev Ub:=@Nat.lt_or_ge
abbrev Uc:=@Nat.le_of_lt
abbrev Ud:=@PySem.F.plain_min_loop
abbrev Ue:=@Nat.not_lt_zero
abbrev Ug:=@PyProof.Rows.IntsAre
abbrev Uh:=@Nat.add_assoc
abbrev Ui:=@List.length_filter_le
abbrev Uj:=@List.contains_iff_mem
abbrev Uk:=@Option.isSome_map
abbrev Ul:=@List.flatten_cons
abbrev Um:=@Bool.not_eq_true'
abbrev Uo:=@PySem.F.slot_dict_keyiterator_next
abbrev Up:=@Bool.and_eq_true_iff
abbrev Uq:=@PySem.Obj.isFreed_of_fields
abbrev Ur:=@List.any_eq_true
abbrev Us:=@PySem.mem_of_lookup
abbrev Ut:=@List.filterMap_cons
abbrev Uu:=@PySem.F.plainAttrs_list
namespace HD
open PySem PySem.W
noncomputable def g9 (tb:String->Option Builtin)(p:Sx)(w:Sr)(n0:Nat)(ann:Option RJ):Nat->SV->Thread->Option SV
 |0,_,_=>none
 | n+1,s,t=>match through t with
   |true=>some s
   | false=>match stepOk n0 ann t with
     |false=>none
     | true=>match stepT (denote tb) p w s t with
       |some (s',t')=>g9 tb p w n0 ann n s' t'
       |none=>none
theorem rB {tb:String->Option Builtin}{p:Sx}{w:Sr}{n0:Nat}{ann:Option RJ}:∀{n:Nat}{s s':SV}{t:Thread},g9 tb p w n0 ann n s t=some s'->topRun tb p w n0 ann n s.abs t=some s'.abs
 |0,_,_,_,h=>by cases h
 | n+1,s,s',t,h=>by
   unfold g9 at h;unfold topRun;cases he:through t with
   |true=>rw[he] at h;cases h;rfl
   | false=>
     rw[he] at h;cases hk:stepOk n0 ann t with
     |false=>rw[hk] at h;cases h
     | true=>
       rw[hk] at h;cases hs:stepT (denote tb) p w s t with
       |none=>rw[hs] at h;cases h
       |some r=>obtain(s2|t2):=r;rw[hs] at h;rw[stepT_spec hs];show rB h
noncomputable def treeOf:List Obj->Nat->BT->BT
 |[],_,t=>t
 |o::r,n,t=>treeOf r (n+1) (t.ins n o)
def yW (P:TV)(os:SR):SV:={treeOf (boot_heap P).objs.toList 0 .nil,(boot_heap P).objs.toList.length,(boot_heap P).life,#[],boot_drawn,boot_toks,os}
def boot_abs (P:TV)(os:SR):(yW P os).abs={boot_heap P,#[],boot_drawn,boot_toks,os}:=by kernel_rfl
noncomputable def lH (p q:Sx)(loose:List Str)(Xt:RO->Bool)(g0:Bool)(h0:Heap){α:Type}(Yf:RO->α)(s:RO):=
 ((staticsOk (importedModules p.main.body) h0 s.heap&&namesBound p s.heap&&gensDone s&&laidKept h0 s.heap),openSeen q loose (importedModules p.main.body) Xt g0 s,Yf s)
noncomputable def w9 (tb:String->Option Builtin)(p:Sx)(w:Sr)(n0:Nat)(ann:Option RJ):Nat->SV->Thread->Option (SV×Thread)
 |0,s,t=>some (s,t)
 | n+1,s,t=>match through t with
   |true=>none
   | false=>match stepOk n0 ann t with
     |false=>none
     | true=>match stepT (denote tb) p w s t with
       |some (s',t')=>w9 tb p w n0 ann n s' t'
       |none=>none
noncomputable def lD (tb:String->Option Builtin)(p:Sx)(w:Sr)(n0:Nat)(ann:Option RJ):Nat->SV->Thread->Option (Flow×SV×Code×Pos)
 |0,_,_=>none
 | n+1,s,t=>match endAt 1 t with
   |some f=>some (f,s,t.code,t.pos)
   | none=>match stepOk n0 ann t with
     |false=>none
     | true=>match stepT (denote tb) p w s t with
       |some (s',t')=>lD tb p w n0 ann n s' t'
       |none=>none
section
variable{tb:String->Option Builtin}{p:Sx}{w:Sr}{n0:Nat}{ann:Option RJ}
theorem Bu:∀{n:Nat}{s s':SV}{t t':Thread},w9 tb p w n0 ann n s t=some (s',t')->topGo tb p w n0 ann n s.abs t=some (s'.abs,t')
 |0,s,s',t,t',h=>by cases h;rfl
 | n+1,s,s',t,t',h=>by
   unfold w9 at h;unfold topGo;cases he:through t with
   |true=>rw[he] at h;cases h
   | false=>
     rw[he] at h;cases hk:stepOk n0 ann t with
     |false=>rw[hk] at h;cases h
     | true=>
       rw[hk] at h;cases hs:stepT (denote tb) p w s t with
       |none=>rw[hs] at h;cases h
       |some q=>obtain(s2|t2):=q;rw[hs] at h;rw[stepT_spec hs];show Bu h
theorem qs:∀{n:Nat}{s s':SV}{t:Thread}{f:Flow}{c:Code}{q:Pos},lD tb p w n0 ann n s t=some (f,s',c,q)->segRun tb p w n0 ann 1 n s.abs t=some (f,s'.abs,c,q)
 |0,_,_,_,_,_,_,h=>by cases h
 | n+1,s,s',t,f,c,q,h=>by
   unfold lD at h;unfold segRun;cases he:endAt 1 t with
   |some g=>rw[he] at h;cases h;rfl
   | none=>
     rw[he] at h;cases hk:stepOk n0 ann t with
     |false=>rw[hk] at h;cases h
     | true=>
       rw[hk] at h;cases hs:stepT (denote tb) p w s t with
       |none=>rw[hs] at h;cases h
       |some x=>obtain(s2|t2):=x;rw[hs] at h;rw[stepT_spec hs];show qs h
def u6 {n3 N:Nat}{s s2:SV}{env:Env}{c:Code}{p' p2 q:Pos}{b:List Stmt}{J:Nat}{α:Type}{f:RO->α}{a:α}
 (h3:lD tb p w n0 ann n3 s (piecesOf (b.take J) env c p' [topFrame q])=some (.next,s2,c,p2))
 (h4:(topRun tb p w n0 ann N s2.abs (restOf (b.drop J) env c p2 [topFrame q])).map f=some a):(topRun tb p w n0 ann (n3+N) s.abs (restOf b env c p' [topFrame q])).map f=some a:=by
 obtain(r|e3|e4):=R3.mp h4;have k4:=piece_app (qs h3) e3;rw[List.take_append_drop] at k4;rw[k4];show congrArg some e4
def BE {N:Nat}{s2:SV}{t:Thread}{p' q:Sx}{loose:List Str}{Xt:RO->Bool}{g0:Bool}{h0:Heap}{α:Type}{Yf:RO->α}{a b c}
 (h1:(g9 tb p w n0 ann N s2 t).map (λs=>(lH p' q loose Xt g0 h0 Yf s.abs).1)=some a) (h2:(g9 tb p w n0 ann N s2 t).map (λs=>(lH p' q loose Xt g0 h0 Yf s.abs).2.1)=some b)
 (h3:(g9 tb p w n0 ann N s2 t).map (λs=>(lH p' q loose Xt g0 h0 Yf s.abs).2.2)=some c):(topRun tb p w n0 ann N s2.abs t).map (lH p' q loose Xt g0 h0 Yf)=some (a,b,c):=by
 obtain(r|e3|rfl):=R3.mp h1;rw[e3] at h2 h3;cases h2;cases h3;rw[rB e3];rfl
def BF {n1 n2 N:Nat}{s s':SV}{env:Env}{c:Code}{pos p' q:Pos}{t:Thread}{b:List Stmt}{J:Nat}{α:Type}{f:RO->α}{a:α}
 (h1:(w9 tb p w n0 ann n1 s t).map (·.2)=some {denote tb (.body b env),c,pos,[topFrame q]}) (h0:endAt 1 (blockOf b env c pos [topFrame q])=some .next)
 (h2:((w9 tb p w n0 ann n1 s t).bind λx=>lD tb p w n0 ann n2 x.1 (piecesOf (b.take J) env c pos [topFrame q]))=some (.next,s',c,p'))
 (h3:(topRun tb p w n0 ann N s'.abs (restOf (b.drop J) env c p' [topFrame q])).map f=some a):(topRun tb p w n0 ann (n1+(1+(n2+N))) s.abs t).map f=some a:=by
 obtain((s1|t1)|e1|e2):=R3.mp h1;have e2:t1={denote tb (.body b env),c,pos,[topFrame q]}:=e2;subst e2;rw[e1] at h2;have h2:lD tb p w n0 ann n2 s1 (piecesOf (b.take J) env c pos [topFrame q])=some (.next,s',c,p'):=h2
 obtain(r|e3|e4):=R3.mp h3;have k3:=piece_app (qs h2) e3;rw[List.take_append_drop] at k3;have hb:segRun tb p w n0 ann 1 1 s1.abs (blockOf b env c pos [topFrame q])=some (.next,s1.abs,c,pos):=by
  change(match endAt 1 (blockOf b env c pos [topFrame q]) with|some f=>some (f,s1.abs,c,pos)|none=>_)=_
  rw[h0]
 have k2:=piece_block hb k3;rw[go_top (Bu e1) k2];show congrArg some e4
end
def vO {p q:Sx}{loose:List Str}{Xt:RO->Bool}{α:Type}{Yf:RO->α}{Ya:Sr->α}{N:Nat}{g0:Bool}{m0:Nat}{ann:Option RJ}
 (open_:∀w:Sr,(fencedOpening treeTable p w N).map (λs=>(s.heap,s.gens,s.drawn,s.toks))=some (boot_heap w.params,Array.mk [],boot_drawn,boot_toks))
 (size:∀w:Sr,((boot_heap w.params).isNs mainGlobals&&(Array.mk ([]:List GenState)).size==0,(boot_heap w.params).objs.size,(boot_heap w.params).nsMap mainGlobals "__annotations__")=(true,m0,ann))
 (run:∀(w:Sr) (os:SR),(topRun treeTable p w m0 ann N (yW w.params os).abs (topStub p)).map (lH p q loose Xt g0 (boot_heap w.params) Yf)=some (true,openGood q loose,Ya w)):LeftO p q loose Xt Yf Ya N g0:=λw=>by
 obtain((h|gs|d|k|os)|e|e'):=R3.mp (open_ w);obtain⟨rfl,rfl,rfl,rfl⟩:h=boot_heap w.params/\gs=Array.mk []/\d=boot_drawn/\k=boot_toks:=by simpa using e'
 obtain⟨z1,z2,z3⟩:_/\_/\_:=by simpa only[Prod.mk.injEq] using size w
 obtain(s1|r|l):=R3.mp (run w os);obtain⟨l1,l2,l3⟩:_/\_/\_:=by simpa only[lH,Prod.mk.injEq] using l
 rw[boot_abs] at r;have t:topFrom treeTable p w N {boot_heap w.params,Array.mk [],boot_drawn,boot_toks,os}=some s1:=by
  unfold topFrom;dsimp only;rw[z1,z2,z3,r];change(match staticsOk (importedModules p.main.body) (boot_heap w.params) s1.heap&&namesBound p s1.heap&&gensDone s1&&laidKept (boot_heap w.params) s1.heap with|true=>_|false=>_)=_
  rw[l1]
 unfold openEnds;rw[e];change(topFrom treeTable p w N _).map _=_;rw[t];show congrArg some (Prod.ext l2 l3)
end HD
namespace K24
open PySem
abbrev eN (P:TV)(x:Str)(n:Nat)(v:RJ):S4:={PyData.keyHash P x,.str x n,v}
noncomputable def qK (j:Nat)(s:Stmt):Stmt:=match s with
 |.ClassDef _ _ _ b _ _ _ _ _ _ _=>b.getD j s
 |_=>s
noncomputable def eB (i:Nat):Stmt:=PySem.Challenge.pw_leastdeeds_k24_least_refused.main.body.getD i (.Pass {0,0,0,0})
noncomputable def nB (s:Stmt):Arguments:=match s with
 |.FunctionDef _ a _ _ _ _ _ _ _ _=>a
 |_=>{[],[],none,[],[],none,[]}
noncomputable def nA (s:Stmt):List Stmt:=match s with
 |.FunctionDef _ _ b _ _ _ _ _ _ _=>b
 |_=>[]
noncomputable def kI (s:Stmt):Scope:=match s with
 |.FunctionDef _ _ _ _ _ _ sc _ _ _=>sc
 |_=>{kind:=.function,names:=[],isGenerator:=false,isCoroutine:=false}
noncomputable def o1:Obj:={cls:=.type "tuple" ,data:=.seq #[]}
noncomputable def o2 (a:String)(b:Nat)(c:Int)(d:Nat)(e:Int):Obj:={cls:=.type "code" ,data:=.fields #[.str (Str.ofString a) b,.str (Str.ofString a) (b+1),.str ("/claim/cut.py") (b+2),.int c 0,.int 0 0,.int 0 0,.int 0 0,.int 0 0,.ref d,.bool false,.int 181 0,.ref (d+1),.none,.none,.none,.none,.int e 0,.int c 0,.str ("/claim/cut.py") (b+4)]}
noncomputable def o3 (a:Nat)(b:Nat)(c:String)(d:Nat):Obj:={cls:=.type "frame" ,slots:=#[some (.ref a),some (.ref 3),some (.ref b),none,some (.str (Str.ofString c) d),none,some (.ref 0)]}
def o4:Obj:={cls:=.type "builtin_function_or_method" ,data:=.fields #[.builtin "type.__prepare__" ,.type "type"]}
def o5 (P:TV)(a:Nat)(b:String)(c:Int)(d:Nat):Obj:={cls:=.type "dict" ,data:=.dict #[eN P "__module__" a (.str ("leastdeeds.errors") 187),eN P "__qualname__" (a+2) (.str (Str.ofString b) (a+1)),eN P "__firstlineno__" (a+4) (.int c (a+3)),eN P "__static_attributes__" (a+5) (.ref d)] 4}
def o6:Obj:={cls:=.none,data:=.fields #[]}
def o7 (P:TV)(a:Nat)(b:Int)(c:String)(d:Nat)(e:Nat)(f:String)(g:Nat)(h:Nat):Obj:={cls:=.type "dict" ,data:=.dict #[eN P "__module__" a (.str ("leastdeeds.errors") 187),eN P "__firstlineno__" (a+4) (.int b (a+3)),{hash:=PyData.keyHash P (Str.ofString c),key:=.str (Str.ofString c) d,val:=.ref e},{hash:=PyData.keyHash P (Str.ofString f),key:=.str (Str.ofString f) (d+2),val:=.ref g},eN P "__doc__" (d+3) (.none)] h}
def o8:Obj:={cls:=.type "type" ,data:=.cls {name:="DeedError" ,bases:=[.type "ValueError"],mro:=[.ref 24,.type "ValueError" ,.type "Exception" ,.type "BaseException" ,.type "object"],ns:=23,qualname:="DeedError" ,subclasses:=[.ref 44,.ref 56,.ref 68,.ref 80,.ref 92,.ref 104]},slots:=#[some (.ref 15),none,some (.str ("DeedError") 189),some (.str ("DeedError") 197),some (.builtin "ValueError.__new__"),some (.bool true)]}
def o9 (a:Nat):Obj:={cls:=.type "super" ,data:=.fields #[.ref a,.ref a,.ref a]}
def uu (a:Nat):Obj:={cls:=.type "builtin_function_or_method" ,data:=.fields #[.builtin "object.__init_subclass__" ,.ref a]}
def wG:Obj:={cls:=.type "tuple" ,data:=.seq #[.ref 24]}
def AX (a:String)(b:Nat)(c:String)(d:Int)(e:Int)(f:Nat)(g:Int)(h:Nat):Obj:={cls:=.type "code" ,data:=.fields #[.str (Str.ofString a) b,.str (Str.ofString c) (b+1),.str ("/claim/cut.py") (b+2),.int d 0,.int e 0,.int 0 0,.int 0 0,.int 3 0,.ref f,.bool true,.int 181 0,.ref (f+1),.none,.ref (f+2),.ref (f+3),.ref (f+4),.int g 0,.int d 0,.str ("/claim/cut.py") h]}
def wF (a:String)(b:Nat)(c:Nat)(d:Nat)(e:Nat):Obj:={cls:=.type "type" ,data:=.cls {name:=Str.ofString a,bases:=[.ref 24],mro:=[.ref b,.ref 24,.type "ValueError" ,.type "Exception" ,.type "BaseException" ,.type "object"],ns:=c,qualname:=Str.ofString a},slots:=#[some (.ref d),none,some (.str (Str.ofString a) e),some (.str (Str.ofString a) (e+8)),some (.builtin "ValueError.__new__"),some (.bool true)]}
def AW (P:TV)(a:Nat)(b:Int)(c:Nat):Obj:={cls:=.type "dict" ,data:=.dict #[eN P "__module__" a (.str ("leastdeeds.errors") 187),eN P "__firstlineno__" (a+4) (.int b (a+3)),eN P "__static_attributes__" (a+5) (.ref c),eN P "__doc__" (a+6) (.none)] 2}
def PX (P:TV)(a:Nat)(b:Nat):Obj:={cls:=.type "dict" ,data:=.dict #[eN P "turn" a (.ref b),eN P "join" (a+1) (.ref (b+7)),eN P "move" (a+2) (.ref (b+14)),eN P "put" (a+3) (.ref (b+21))] 4}
def o16:Obj:={cls:=.type "tuple" ,data:=.seq #[.none]}
def o17:Obj:={cls:=.type "function" ,data:=.func {name:="reached" ,qualname:="reached" ,params:=nB (eB 49),body:=PySem.FuncBody.stmts (nA (eB 49)),scope:=kI (eB 49),globals:=3,closure:=[],defaults:=.ref 285,kwdefaults:=.none,pyModule:=.str ("leastdeeds.least") 570,code:=.ref 291}}
def LU (a:String)(b:Nat)(c:Int)(d:Int)(e:Nat)(f:Int):Obj:={cls:=.type "code" ,data:=.fields #[.str (Str.ofString a) b,.str (Str.ofString a) (b+1),.str ("/claim/cut.py") (b+2),.int c 0,.int d 0,.int 0 0,.int 0 0,.int 3 0,.ref e,.bool true,.int 181 0,.ref (e+1),.none,.none,.none,.ref (e+2),.int f 0,.int c 0,.str ("/claim/cut.py") (b+4)]}
def wD (a:String)(b:Nat)(c:Nat):Obj:={cls:=.type "function" ,data:=.func {name:=Str.ofString a,qualname:=Str.ofString a,params:=nB (eB b),body:=PySem.FuncBody.stmts (nA (eB b)),scope:=kI (eB b),globals:=3,closure:=[],defaults:=.none,kwdefaults:=.none,pyModule:=.str ("law_leastdeeds_k24_least_refused") 657,code:=.ref c}}
def kJ (i:Nat):Str×Nat×Nat×List Str×Bool:=match eB i with
 |.FunctionDef x a _ _ _ _ sc _ _ p=>(x,p.line,a.args.length,sc.names.filterMap (λq=>match q.2 with|.local=>some q.1|_=>none),sc.names.any (λq=>match q.2 with|.cell=>true|_=>false)||i==43)
 |_=>("",0,0,[],false)
def kN (i:Nat):Nat:=bif (kJ i).2.2.2.2 then 0 else(kJ i).2.2.2.1.length
def Bm (i:Nat):Nat:=bif (kJ i).2.2.2.2 then 5 else 7
noncomputable def mG:Nat->Nat->Nat->Nat->List (Nat×Nat×Nat)
 |0,_,_,_=>[]
 |n+1,i,e,t=>(i,e,t)::mG n (i+1) (e+Bm i) (t+kN i+6)
def nZ:Nat×Nat×Nat->List RJ:=λ(i,e,_)=>[.int (kJ i).2.1 0,.int 0 0,.ref (e+Bm i-2)]
def n4 (P:TV):Nat×Nat×Nat->S4:=λ(i,e,t)=>{PyData.keyHash P (kJ i).1,.str (kJ i).1 (t+kN i+5),.ref (e+Bm i-1)}
def Gs (c:RJ)(i g:Nat)(m d:RJ):Obj:={cls:=c,data:=.func {name:=(kJ i).1,qualname:=(kJ i).1,params:=nB (eB i),body:=.stmts (nA (eB i)),scope:=kI (eB i),globals:=g,closure:=[],defaults:=.none,kwdefaults:=.none,pyModule:=m,code:=d}}
def kO (m:Str)(k:Nat):Nat×Nat×Nat->List Obj:=λ(i,e,t)=>
 let x:=(kJ i).1
 let l:RJ:=.int (kJ i).2.1 0
 let q:=t+kN i
 let c:=λ(a:RJ) (b:RJ) (d:Nat)=>({cls:=.type "code",data:=.fields #[.str x t,.str x (t+1),.str "/claim/cut.py" (t+2),l,.int (kJ i).2.2.1 0,.int 0 0,.int 0 0,.int 3 0,.ref e,.bool true,.int 181 0,.ref (e+1),.none,a,b,.ref (e+d),.int (q+3:Nat) 0,l,.str "/claim/cut.py" (q+4)]}:Obj)
 [o1,{cls:=.none,data:=.fields #[]}]++bif (kJ i).2.2.2.2 then [Gs .none i 0 .none .none,c .none .none 2,Gs (.type "function") i 3 (.str m k) (.ref (e+3))] else [{cls:=.type "tuple",data:=.seq (((kJ i).2.2.2.1.zipIdx (t+3)).map λp=>.str p.1 p.2).toArray},o1,Gs .none i 0 .none .none,c (.ref (e+2)) (.ref (e+3)) 4,Gs (.type "function") i 3 (.str m k) (.ref (e+5))]
def n5:Nat×Nat×Nat->List Addr:=λ(i,e,_)=>[e+Bm i-2,e+Bm i-1]
def F9:=mG 1 9 107 314
def F8:=mG 10 16 114 335
def F7:=mG 5 27 181 436
def F6:=mG 4 33 210 474
def F5:=mG 2 38 239 532
def F4:=mG 2 41 251 550
def F2:=mG 1 43 263 564
def F1:=mG 3 46 268 574
def F0:=mG 5 50 293 615
def FZ:=mG 18 56 322 659
def P6:List RJ:=[.int 2 0,.int 0 0,.ref 20,.int 4 0,.int 0 0,.ref 33,.int 9 0,.int 0 0,.ref 52,.int 11 0,.int 0 0,.ref 64,.int 13 0,.int 0 0,.ref 76,.int 15 0,.int 0 0,.ref 88,.int 17 0,.int 0 0,.ref 100]++F9.flatMap nZ++F8.flatMap nZ++F7.flatMap nZ++F6.flatMap nZ++F5.flatMap nZ++F4.flatMap nZ
def kt1:List RJ:=P6++F2.flatMap nZ++F1.flatMap nZ++[.int 147 0,.int 0 0,.ref 291]++F0.flatMap nZ++FZ.flatMap nZ
def P9 (P:TV):List S4:=[eN P "__doc__" 166 (.none),eN P "__package__" 167 (.none),eN P "__loader__" 168 (.builtin "__main__.__loader__#opaque"),eN P "__spec__" 169 (.none),eN P "__annotations__" 170 (.ref 6),eN P "__builtins__" 171 (.ref 4),eN P "__file__" 173 (.str "/claim/cut.py" 172),eN P "__cached__" 174 (.none),eN P "DeedError" 206 (.ref 24),eN P "NoRow" 231 (.ref 44),eN P "NoMachine" 247 (.ref 56),eN P "TooLong" 263 (.ref 68),eN P "NoWork" 279 (.ref 80),eN P "NoBound" 295 (.ref 92),eN P "TooMany" 311 (.ref 104)]
def P8 (P:TV):List S4:=P9 P++F9.map (n4 P)++[eN P "LEAST_WORDS" 326 (.int 2 325),eN P "MOST_WORDS" 328 (.int 4 327),eN P "MOST_PLACES" 330 (.int 2 329),eN P "MOST_DEEDS" 332 (.int 6 331),eN P "MOST_COST" 334 (.int 3 333)]++F8.map (n4 P)++[eN P "SORTS" 435 (.ref 180)]++F7.map (n4 P)++F6.map (n4 P)++[eN P "NEW_WORDS" 531 (.ref 238)]++F5.map (n4 P)++F4.map (n4 P)
def P7 (P:TV):List S4:=P8 P++F2.map (n4 P)++[eN P "MOST_BEHAVIOURS" 573 (.int 255 572)]++F1.map (n4 P)++[eN P "reached" 614 (.ref 292)]++F0.map (n4 P)++FZ.map (n4 P)
def kg3 (P:TV):List S4:=P7 P++[eN P "_law_is_machine" 813 (.ref 438),eN P "_law_bent" 828 (.ref 445),eN P "_law_wanted" 834 (.ref 450),eN P "_law_told" 848 (.ref 457),eN P "_law_full" 854 (.ref 462),eN P "law" 871 (.ref 469)]
noncomputable def Qd (P:TV):List Obj:=[o1,{cls:=.none,data:=.fields #[.int 2 0,.int 0 0,.ref 20,.int 4 0,.int 0 0,.ref 33,.int 9 0,.int 0 0,.ref 52,.int 11 0,.int 0 0,.ref 64,.int 13 0,.int 0 0,.ref 76,.int 15 0,.int 0 0,.ref 88,.int 17 0,.int 0 0,.ref 100]},o2 "<module>" 182 1 11 185,o3 13 3 "__main__" 164,{cls:=.type "tuple",data:=.seq #[.type "ValueError"]},o4,o5 P 196 "DeedError" 2 22,o1,o6,o2 "DeedError" 191 2 18 194,o3 20 17 "leastdeeds.errors" 187,o1,o7 P 196 2 "__static_attributes__" 201 22 "__weakref__" 25 3,o8,{cls:=.type "getset_descriptor",data:=.fields #[.str "__weakref__" 202,.ref 24,.builtin "ExceptionGroup.__weakref__",.none]},o9 24,uu 24,wG,o4,{cls:=.type "dict",data:=.dict #[eN P "__module__" 214 (.str "leastdeeds.errors" 187),eN P "__qualname__" 216 (.str "NoRow" 215),eN P "__firstlineno__" 218 (.int 4 217),eN P "__init__" 226 (.ref 41),eN P "__static_attributes__" 228 (.ref 42)] 5},o1,{cls:=.none,data:=.fields #[.int 6 0,.int 4 0,.ref 40]},o2 "NoRow" 209 4 31 212,o3 33 30 "leastdeeds.errors" 187,o1,o6,{cls:=.type "tuple",data:=.seq #[.str "self" 222,.str "place" 223]},o1,{cls:=.none,data:=.func {name:="__init__",qualname:="NoRow.__init__",params:=nB (qK 0 (eB 2)),body:=PySem.FuncBody.stmts (nA (qK 0 (eB 2))),scope:=kI (qK 0 (eB 2)),globals:=0,closure:=[],defaults:=.none,kwdefaults:=.none,pyModule:=.none,code:=.none}},AX "__init__" 219 "NoRow.__init__" 6 2 35 224 225,{cls:=.type "function",data:=.func {name:="__init__",qualname:="NoRow.__init__",params:=nB (qK 0 (eB 2)),body:=PySem.FuncBody.stmts (nA (qK 0 (eB 2))),scope:=kI (qK 0 (eB 2)),globals:=3,closure:=[],defaults:=.none,kwdefaults:=.none,pyModule:=.str "leastdeeds.errors" 187,code:=.ref 40}},{cls:=.type "tuple",data:=.seq #[.str "place" 227]},o7 P 214 4 "__init__" 226 41 "__static_attributes__" 42 2,wF "NoRow" 44 43 28 207,o9 44,uu 44,wG,o4,o5 P 239 "NoMachine" 9 54,o1,o6,o2 "NoMachine" 234 9 50 237,o3 52 49 "leastdeeds.errors" 187,o1,AW P 239 9 54,wF "NoMachine" 56 55 47 232,o9 56,uu 56,wG,o4,o5 P 255 "TooLong" 11 66,o1,o6,o2 "TooLong" 250 11 62 253,o3 64 61 "leastdeeds.errors" 187,o1,AW P 255 11 66,wF "TooLong" 68 67 59 248,o9 68,uu 68,wG,o4,o5 P 271 "NoWork" 13 78,o1,o6,o2 "NoWork" 266 13 74 269,o3 76 73 "leastdeeds.errors" 187,o1,AW P 271 13 78,wF "NoWork" 80 79 71 264,o9 80,uu 80,wG,o4,o5 P 287 "NoBound" 15 90,o1,o6,o2 "NoBound" 282 15 86 285,o3 88 85 "leastdeeds.errors" 187,o1,AW P 287 15 90,wF "NoBound" 92 91 83 280,o9 92,uu 92,wG,o4,o5 P 303 "TooMany" 17 102,o1,o6,o2 "TooMany" 298 17 98 301,o3 100 97 "leastdeeds.errors" 187,o1,AW P 303 17 102,wF "TooMany" 104 103 95 296,o9 104,uu 104]
def Qc (P:TV):List Obj:=((Qd P).set 1 ({cls:=.none,data:=.fields P6.toArray}))++F9.flatMap (kO "leastdeeds.wholes" 312)++F8.flatMap (kO "leastdeeds.machines" 323)++[PX P 427 158]++F7.flatMap (kO "leastdeeds.machines" 323)++F6.flatMap (kO "leastdeeds.runs" 472)++[PX P 523 216]++F5.flatMap (kO "leastdeeds.runs" 472)++F4.flatMap (kO "leastdeeds.works" 548)
def Qb (P:TV):List Obj:=((Qc P).set 1 ({cls:=.none,data:=.fields kt1.toArray}))++F2.flatMap (kO "leastdeeds.works" 548)++F1.flatMap (kO "leastdeeds.least" 570)++[o16,o1,o6,{cls:=.type "tuple",data:=.seq #[.str "machine" 606,.str "bound" 607,.str "leads" 608,.str "empty_ends" 609,.str "found" 610,.str "levels" 611]},o1,{cls:=.none,data:=.func {name:="reached",qualname:="reached",params:=nB (eB 49),body:=PySem.FuncBody.stmts (nA (eB 49)),scope:=kI (eB 49),globals:=0,closure:=[],defaults:=.none,kwdefaults:=.none,pyModule:=.none,code:=.none}},AX "reached" 603 "reached" 147 2 286 612 613,o17]++F0.flatMap (kO "leastdeeds.least" 570)++FZ.flatMap (kO "law_leastdeeds_k24_least_refused" 657)
def Qa:List Addr:=[23,24,43,44,55,56,67,68,79,80,91,92,103,104,180,238,285,291,292]++F9.flatMap n5++F8.flatMap n5++F7.flatMap n5++F6.flatMap n5++F5.flatMap n5++F4.flatMap n5++F2.flatMap n5++F1.flatMap n5++F0.flatMap n5++FZ.flatMap n5
def kh:TV->RG:=λP=>[(3,{cls:=.type "dict",data:=.dict (eN P "__name__" 165 (.str "law_leastdeeds_k24_least_refused" 657)::kg3 P).toArray 82}),
 (437,LU "_law_is_machine" 808 335 1 434 811),
 (438,wD "_law_is_machine" 74 437),
 (444,AX "_law_bent" 814 "_law_bent" 341 3 439 826 827),
 (445,wD "_law_bent" 75 444),
 (449,LU "_law_wanted" 829 358 2 446 832),
 (450,wD "_law_wanted" 76 449),
 (456,AX "_law_told" 835 "_law_told" 372 4 451 846 847),
 (457,wD "_law_told" 77 456),
 (461,LU "_law_full" 849 390 1 458 852),
 (462,wD "_law_full" 78 461),
 (468,AX "law" 855 "law" 398 1 463 869 870),
 (469,wD "law" 79 468)]++List.map (λa=>(a,(Qb P).getD (a-11) o1)) Qa
def Mq:List Addr:=[3,437,438,444,445,449,450,456,457,461,462,468,469]++Qa
def QO:∀P,Mq=(kh P).map (·.1):=λ_=>by kernel_rfl
noncomputable def kq:Sx:=PySem.W.view PySem.Challenge.pw_leastdeeds_k24_least_refused [1,2,3,4,5,6,7,9,11,12,13,14,15,16,17,18,19,20,21,22,23,24,25,26,27,28,29,30,31,33,34,35,36,37,38,39,41,42,43,45,46,47,48,50,51,52,53,54,56,57,58,59,60,61,62,63,64,65,66,67,68,69,70,71,72,73,74,75,76,77,78,79]
abbrev kH:PySem.W.Hook:=PySem.W.kHook kh Mq QO
def pR:List Str:=["SORTS","NEW_WORDS","reached"]
abbrev yB:=PySem.Challenge.rw_leastdeeds_k24_least_refused.row
abbrev kX:RO->Bool:=λs=>PySem.W.xlAt kq [] s&&PySem.W.recOk (PySem.W.RowW.records yB.toRowW) s
def Gn (P:TV)(os:SR):SV:={HD.treeOf ((((PySem.W.boot_heap P).objs.toList.set 3 ({cls:=.type "dict",data:=.dict (eN P "__name__" 165 (.str "leastdeeds.wholes" 312)::P9 P).toArray 16})))++Qd P) 0 .nil,107,{},#[],{},314,os}
def Gm (P:TV)(os:SR):SV:={HD.treeOf ((((PySem.W.boot_heap P).objs.toList.set 3 ({cls:=.type "dict",data:=.dict (eN P "__name__" 165 (.str "leastdeeds.works" 548)::P8 P).toArray 47})))++Qc P) 0 .nil,263,{},#[],{},564,os}
def Gk (P:TV)(os:SR):SV:={HD.treeOf ((((PySem.W.boot_heap P).objs.toList.set 3 ({cls:=.type "dict",data:=.dict (eN P "__name__" 165 (.str "law_leastdeeds_k24_least_refused" 657)::P7 P).toArray 76})))++Qb P) 0 .nil,434,{},#[],{},808,os}
def kE:Env:={scope:=PySem.Challenge.pw_leastdeeds_k24_least_refused.main.scope,locals:=mainNs,globals:=mainNs,cells:=[],code:=.ref 13,frame:=some 14}
def kP (w:Sr)(os:SR):=HD.w9 treeTable PySem.Challenge.pw_leastdeeds_k24_least_refused w 11 (some (.ref 6)) 12 (HD.yW w.params os) (PySem.W.topStub PySem.Challenge.pw_leastdeeds_k24_least_refused)
def Gg (w:Sr)(os:SR):=(kP w os).bind λx=>HD.lD treeTable PySem.Challenge.pw_leastdeeds_k24_least_refused w 11 (some (.ref 6)) 1515 x.1 (PySem.W.piecesOf ((PySem.W.behindTheImports PySem.Challenge.pw_leastdeeds_k24_least_refused).take 9) kE (.body (PySem.W.behindTheImports PySem.Challenge.pw_leastdeeds_k24_least_refused) kE) {0,0,0,0} [PySem.W.topFrame {0,0,0,0}])
def Gd (w:Sr)(os:SR):Option (Flow×SV×Code×Pos):=some (.next,Gn w.params os,(.body (PySem.W.behindTheImports PySem.Challenge.pw_leastdeeds_k24_least_refused) kE),{19,0,19,8})
def Gf (w:Sr)(os:SR):=HD.lD treeTable PySem.Challenge.pw_leastdeeds_k24_least_refused w 11 (some (.ref 6)) 951 (Gn w.params os) (PySem.W.piecesOf (((PySem.W.behindTheImports PySem.Challenge.pw_leastdeeds_k24_least_refused).drop 9).take 34) kE (.body (PySem.W.behindTheImports PySem.Challenge.pw_leastdeeds_k24_least_refused) kE) {19,0,19,8} [PySem.W.topFrame {0,0,0,0}])
def Gb (w:Sr)(os:SR):Option (Flow×SV×Code×Pos):=some (.next,Gm w.params os,(.body (PySem.W.behindTheImports PySem.Challenge.pw_leastdeeds_k24_least_refused) kE),{121,0,124,54})
def Ge (w:Sr)(os:SR):=HD.lD treeTable PySem.Challenge.pw_leastdeeds_k24_least_refused w 11 (some (.ref 6)) 857 (Gm w.params os) (PySem.W.piecesOf ((((PySem.W.behindTheImports PySem.Challenge.pw_leastdeeds_k24_least_refused).drop 9).drop 34).take 31) kE (.body (PySem.W.behindTheImports PySem.Challenge.pw_leastdeeds_k24_least_refused) kE) {121,0,124,54} [PySem.W.topFrame {0,0,0,0}])
def Ga (w:Sr)(os:SR):Option (Flow×SV×Code×Pos):=some (.next,Gk w.params os,(.body (PySem.W.behindTheImports PySem.Challenge.pw_leastdeeds_k24_least_refused) kE),{317,0,334,86})
def kR (w:Sr)(os:SR):=HD.g9 treeTable PySem.Challenge.pw_leastdeeds_k24_least_refused w 11 (some (.ref 6)) 3810 (Gk w.params os) (PySem.W.restOf ((((PySem.W.behindTheImports PySem.Challenge.pw_leastdeeds_k24_least_refused).drop 9).drop 34).drop 31) kE (.body (PySem.W.behindTheImports PySem.Challenge.pw_leastdeeds_k24_least_refused) kE) {317,0,334,86} [PySem.W.topFrame {0,0,0,0}])
abbrev Mj (P:TV)(s:SV):=HD.lH PySem.Challenge.pw_leastdeeds_k24_least_refused kq pR kX true (PySem.W.boot_heap P) (λs=>Mq.map s.heap.get?) s.abs
def Gj (w:Sr)(os:SR):=(kR w os).map λs=>(Mj w.params s).1
def Gi (w:Sr)(os:SR):=(kR w os).map λs=>(Mj w.params s).2.1
def Gh (w:Sr)(os:SR):=(kR w os).map λs=>(Mj w.params s).2.2
def Gr (w:Sr):=some true
def Gq (w:Sr):=some (PySem.W.openGood kq pR)
def Gp (w:Sr):=some ((kh w.params).map λp=>some p.2)
def _root_.PySem.W.Fast.tw228102521716992883:Sx:=PySem.Challenge.pw_leastdeeds_k24_least_refused
def _root_.PySem.W.Fast.te228102521716992883:PySem.Challenge.pw_leastdeeds_k24_least_refused=PySem.W.Fast.tw228102521716992883:=rfl
def _root_.PySem.W.Fast.tw275834562485700079:TV->RG:=K24.kh
def _root_.PySem.W.Fast.te275834562485700079:K24.kh=PySem.W.Fast.tw275834562485700079:=rfl
def _root_.PySem.W.Fast.tw17915603272320221768:TV->SR->SV:=K24.Gn
def _root_.PySem.W.Fast.te17915603272320221768:K24.Gn=PySem.W.Fast.tw17915603272320221768:=rfl
def _root_.PySem.W.Fast.tw9194304000125189496:TV->SR->SV:=K24.Gm
def _root_.PySem.W.Fast.te9194304000125189496:K24.Gm=PySem.W.Fast.tw9194304000125189496:=rfl
def _root_.PySem.W.Fast.tw10868727510720512644:TV->SR->SV:=K24.Gk
def _root_.PySem.W.Fast.te10868727510720512644:K24.Gk=PySem.W.Fast.tw10868727510720512644:=rfl
noncomputable def QZ:Gj=Gj:=rfl
name_quick kq1_24 for Gj by QZ
noncomputable def QY:Gi=Gi:=rfl
name_quick kq2_24 for Gi by QY
noncomputable def Q1:Gq=Gq:=rfl
name_quick kg2_24 for Gq by Q1
noncomputable def QX:Gh=Gh:=rfl
name_quick kq3_24 for Gh by QX
noncomputable def Q0:Gp=Gp:=rfl
name_quick kg3_24 for Gp by Q0
noncomputable def QW:Gg=Gg:=rfl
name_quick kua24 for Gg by QW
noncomputable def QS:Gd=Gd:=rfl
name_quick kva24 for Gd by QS
noncomputable def QU:Gf=Gf:=rfl
name_quick kub24 for Gf by QU
noncomputable def QR:Gb=Gb:=rfl
name_quick kvb24 for Gb by QR
noncomputable def QT:Ge=Ge:=rfl
name_quick kuc24 for Ge by QT
noncomputable def QP:Ga=Ga:=rfl
name_quick kvc24 for Ga by QP
def Bl:∀(w:Sr) (os:SR),PySem.W.Fast.kua24 (w.withFollow "special-get-raises" false) os=PySem.W.Fast.kva24 (w.withFollow "special-get-raises" false) os:=λw os=>by kernel_rfl
def Ec:∀(w:Sr) (os:SR),PySem.W.Fast.kua24 (w.withFollow "special-get-raises" true) os=PySem.W.Fast.kva24 (w.withFollow "special-get-raises" true) os:=λw os=>by kernel_rfl
def ka0:∀(w:Sr) (os:SR),Gg w os=Gd w os:=λw os=>by
 rw[PySem.W.Fast.kua24_eq,PySem.W.Fast.kva24_eq];show PySem.W.byRow2 "special-get-raises" (P:=λw=>PySem.W.Fast.kua24 w os=PySem.W.Fast.kva24 w os) (λw=>Bl w os) (λw=>Ec w os) w
def Bk:∀(w:Sr) (os:SR),PySem.W.Fast.kub24 (w.withFollow "special-get-raises" false) os=PySem.W.Fast.kvb24 (w.withFollow "special-get-raises" false) os:=λw os=>by kernel_rfl
def Eb:∀(w:Sr) (os:SR),PySem.W.Fast.kub24 (w.withFollow "special-get-raises" true) os=PySem.W.Fast.kvb24 (w.withFollow "special-get-raises" true) os:=λw os=>by kernel_rfl
def ka1:∀(w:Sr) (os:SR),Gf w os=Gb w os:=λw os=>by
 rw[PySem.W.Fast.kub24_eq,PySem.W.Fast.kvb24_eq];show PySem.W.byRow2 "special-get-raises" (P:=λw=>PySem.W.Fast.kub24 w os=PySem.W.Fast.kvb24 w os) (λw=>Bk w os) (λw=>Eb w os) w
def Bj:∀(w:Sr) (os:SR),PySem.W.Fast.kuc24 (w.withFollow "special-get-raises" false) os=PySem.W.Fast.kvc24 (w.withFollow "special-get-raises" false) os:=λw os=>by kernel_rfl
def Ea:∀(w:Sr) (os:SR),PySem.W.Fast.kuc24 (w.withFollow "special-get-raises" true) os=PySem.W.Fast.kvc24 (w.withFollow "special-get-raises" true) os:=λw os=>by kernel_rfl
def ka2:∀(w:Sr) (os:SR),Ge w os=Ga w os:=λw os=>by
 rw[PySem.W.Fast.kuc24_eq,PySem.W.Fast.kvc24_eq];show PySem.W.byRow2 "special-get-raises" (P:=λw=>PySem.W.Fast.kuc24 w os=PySem.W.Fast.kvc24 w os) (λw=>Bj w os) (λw=>Ea w os) w
def Bd:∀(w:Sr) (os:SR),PySem.W.Fast.kq1_24 (w.withFollow "special-get-raises" false) os=Gr (w.withFollow "special-get-raises" false):=λw os=>by kernel_rfl
def D7:∀(w:Sr) (os:SR),PySem.W.Fast.kq1_24 (w.withFollow "special-get-raises" true) os=Gr (w.withFollow "special-get-raises" true):=λw os=>by kernel_rfl
def kl1:∀(w:Sr) (os:SR),Gj w os=Gr w:=λw os=>by
 rw[PySem.W.Fast.kq1_24_eq];show PySem.W.byRow2 "special-get-raises" (P:=λw=>PySem.W.Fast.kq1_24 w os=Gr w) (λw=>Bd w os) (λw=>D7 w os) w
def Bc:∀(w:Sr) (os:SR),PySem.W.Fast.kq2_24 (w.withFollow "special-get-raises" false) os=PySem.W.Fast.kg2_24 (w.withFollow "special-get-raises" false):=λw os=>by kernel_rfl
def D6:∀(w:Sr) (os:SR),PySem.W.Fast.kq2_24 (w.withFollow "special-get-raises" true) os=PySem.W.Fast.kg2_24 (w.withFollow "special-get-raises" true):=λw os=>by kernel_rfl
def kl2:∀(w:Sr) (os:SR),Gi w os=Gq w:=λw os=>by
 rw[PySem.W.Fast.kq2_24_eq,PySem.W.Fast.kg2_24_eq];show PySem.W.byRow2 "special-get-raises" (P:=λw=>PySem.W.Fast.kq2_24 w os=PySem.W.Fast.kg2_24 w) (λw=>Bc w os) (λw=>D6 w os) w
def Bb:∀(w:Sr) (os:SR),PySem.W.Fast.kq3_24 (w.withFollow "special-get-raises" false) os=PySem.W.Fast.kg3_24 (w.withFollow "special-get-raises" false):=λw os=>by kernel_rfl
def D5:∀(w:Sr) (os:SR),PySem.W.Fast.kq3_24 (w.withFollow "special-get-raises" true) os=PySem.W.Fast.kg3_24 (w.withFollow "special-get-raises" true):=λw os=>by kernel_rfl
def kl3:∀(w:Sr) (os:SR),Gh w os=Gp w:=λw os=>by
 rw[PySem.W.Fast.kq3_24_eq,PySem.W.Fast.kg3_24_eq];show PySem.W.byRow2 "special-get-raises" (P:=λw=>PySem.W.Fast.kq3_24 w os=PySem.W.Fast.kg3_24 w) (λw=>Bb w os) (λw=>D5 w os) w
def kp:∀(w:Sr) (os:SR),(kP w os).map (·.2)=some {denote treeTable (.body (PySem.W.behindTheImports PySem.Challenge.pw_leastdeeds_k24_least_refused) kE),(.body (PySem.W.behindTheImports PySem.Challenge.pw_leastdeeds_k24_least_refused) kE),{0,0,0,0},[PySem.W.topFrame {0,0,0,0}]}:=λw os=>by kernel_rfl
def OK:PySem.W.LeftO yB.prog kq pR kX kH.obs kH.val 7146:=HD.vO (m0:=11) (ann:=some (.ref 6)) (PySem.W.boot_open `r `d (λ_=>rfl)) (λw=>by kernel_rfl) λw os=>HD.BF (J:=9) (kp w os) (by kernel_rfl) (ka0 w os) (HD.u6 (J:=34) (ka1 w os) (HD.u6 (J:=31) (ka2 w os) (HD.BE (kl1 w os) (kl2 w os) (kl3 w os))))
end K24
namespace L2
open PySem PySem.Spec PyProof.Rows
abbrev Key:=Sum Int Str
noncomputable def sT:Key->RJ->Bool
 |.inl k,v=>Value.isInt k v
 |.inr x,v=>Value.isStrOf x v
noncomputable def QN (w:Sr):Key->Int
 |.inl k=>hashInt k
 |.inr x=>hashStr w x
def cZ:∀{k:Key}{v:RJ},sT k v=true->(∃i t,k=Sum.inl i/\v=Value.int i t)\/(∃x t,k=Sum.inr x/\v=Value.str x t)
 | .inl i,v,h=>by
   obtain(t|e):=Value.isInt_shape h;show .inl ⟨i,t,rfl,e⟩
 | .inr x,v,h=>by
   obtain(t|e):=Value.isStrOf_shape h;show .inr ⟨x,t,rfl,e⟩
def jO (x:Str)(t:Tok):sT (.inr x) (.str x t)=true:=by simp[sT,Value.isStrOf]
def Mp (a b:Int):decide ((Sum.inl a:Key)=Sum.inl b)=(a==b):=by
 by_cases e:a=b
 .subst e;simp
 .have h:¬ (Sum.inl a:Key)=Sum.inl b:=λq=>e (Sum.inl.inj q);rw[decide_eq_false h];show(Sw.mpr e).symm
def Mm (a b:Str):decide ((Sum.inr a:Key)=Sum.inr b)=decide (a=b):=by
 by_cases e:a=b
 .subst e;simp
 .have h:¬ (Sum.inr a:Key)=Sum.inr b:=λq=>e (Sum.inr.inj q);rw[decide_eq_false h,decide_eq_false e]
def Mo (a:Int)(b:Str):decide ((Sum.inl a:Key)=Sum.inr b)=false:=decide_eq_false (λq=>nomatch q)
def Mn (a:Str)(b:Int):decide ((Sum.inr a:Key)=Sum.inl b)=false:=decide_eq_false (λq=>nomatch q)
def kG (prog:Sx)(w:Sr):PySem.KeyKind prog w Key where
 is:=sT
 hash:=QN w
 inj:=λv a b I F=>by
  rcases cZ I with⟨i,t,rfl,rfl⟩|⟨x,t,rfl,rfl⟩
  .rcases cZ F with⟨j,u,rfl,e⟩|⟨y,u,rfl,e⟩
   .injection e with e1 _;rw[e1]
   .exact nomatch e
  .rcases cZ F with⟨j,u,rfl,e⟩|⟨y,u,rfl,e⟩
   .exact nomatch e
   .injection e with e1 _;rw[e1]
 byValue:=λk v h=>by
  rcases cZ h with⟨i,t,rfl,rfl⟩|⟨x,t,rfl,rfl⟩<;>rfl
 pyHash:=λB h=>by
  rcases cZ B with⟨i,t,rfl,rfl⟩|⟨x,t,rfl,rfl⟩
  .exact wpAny_pyHash_int h
  .exact wpAny_pyHash_str h
 eqBool:=λJ B h=>by
  rcases cZ J with⟨i,t,rfl,rfl⟩|⟨x,t,rfl,rfl⟩
  .rcases cZ B with⟨j,u,rfl,rfl⟩|⟨y,u,rfl,rfl⟩
   .rw[Mp] at h;show wpAny_eqBool_int h
   .rw[Mo] at h;show SeqAt.EqAt.int_str i t y u _ _ _ _ h
  .rcases cZ B with⟨j,u,rfl,rfl⟩|⟨y,u,rfl,rfl⟩
   .rw[Mn] at h;show SeqAt.EqAt.str_int x t j u _ _ _ _ h
   .rw[Mm] at h;show wpAny_eqBool_str h
 «strs»:=λk x t v h=>by
  rcases cZ h with⟨i,u,rfl,e⟩|⟨y,u,rfl,e⟩
  .exact nomatch e
  .injection e with e1 _
   subst e1;cases v<;>rfl
inductive V where
 |non|bl (b:Bool)|int (i:Int)|str (x:Str)|byt (b:Array UInt8)|flt (b:UInt64)|ref (a:Addr)|ty (n:String)
 deriving DecidableEq
def RelV:V->RJ->Prop
 |.non,u=>u=Value.none
 |.bl b,u=>u=Value.bool b
 |.int i,u=>∃t,u=Value.int i t
 |.str x,u=>∃t,u=Value.str x t
 |.byt b,u=>∃t,u=Value.bytes b t
 |.flt b,u=>∃t,u=Value.float b t
 |.ref a,u=>u=Value.ref a
 |.ty n,u=>u=Value.type n
abbrev Vals:List V->List RJ->Prop:=Tz RelV
def Vals.length (r:Vals xs us):xs.length=us.length:=Paired.length r
noncomputable def Vals.get:∀{xs:List V}{us:List RJ}{i:Nat}{x:V},Vals xs us->xs[i]?=some x->∃u,us[i]?=some u/\RelV x u
 |_,_,_,_,.nil,e=>by simp at e
 |_,_,0,_,.cons r _,e=>by simp at e;subst e;show{_,rfl,r}
 | _,_,i+1,x,.cons _ t,e=>by
   obtain(u|h1|h2):=Vals.get t (~~~e)
   show{u,~~~h1,h2}
noncomputable def Vals.set (r:RelV x u):∀{xs:List V}{us:List RJ} (i:Nat),Vals xs us->Vals (xs.set i x) (us.set i u)
 |_,_,_,.nil=>.nil
 |_,_,0,.cons _ t=>.cons r t
 |_,_,i+1,.cons q t=>.cons q (Vals.set r i t)
noncomputable def Vals.append:∀{xs ys:List V}{us ws:List RJ},Vals xs us->Vals ys ws->Vals (xs++ys) (us++ws)
 |_,_,_,_,.nil,s=>s
 |_,_,_,_,.cons r t,s=>.cons r (Vals.append t s)
noncomputable def Vals.take:∀{xs:List V}{us:List RJ} (n:Nat),Vals xs us->Vals (xs.take n) (us.take n)
 |_,_,0,_=>.nil
 |_,_,_+1,.nil=>.nil
 |_,_,n+1,.cons r t=>.cons r (Vals.take n t)
noncomputable def Vals.drop:∀{xs:List V}{us:List RJ} (n:Nat),Vals xs us->Vals (xs.drop n) (us.drop n)
 |_,_,0,r=>r
 |_,_,_+1,.nil=>.nil
 |_,_,n+1,.cons _ t=>Vals.drop n t
def EX:Option V->Option RJ->Prop
 |some v,some u=>RelV v u
 |none,none=>True
 |_,_=>False
def KV {j:Type}:List (j×V)->List (j×RJ)->Prop:=Tz λ(p:j×V) (q:j×RJ)=>p.1=q.1/\RelV p.2 q.2
noncomputable def kV:Key->V
 |.inl i=>.int i
 |.inr x=>.str x
inductive HO where
 |lst (xs:List V)
 |tup (xs:List V)
 |dK (kvs:List (Key×V))|dT (kvs:List (List Key×V))
 |set (S:Int->Bool) (n:Nat)
 |ins (C dx:Addr) (fs:List (Str×V))
 |own (x:Addr)
 |xd (fs:List (Str×V))
 |met (f x:Addr)
 |rng (lo hi:Int)
 |frz (o:Obj) (u:HO)
 |tbl (ps:Array RJ)
 |ext (φ:Heap->Prop)
 |dn (es:List S4)
abbrev Hp:=Addr->Option HO
noncomputable def upd (H:Hp)(a:Addr)(o:HO):Hp:=λb=>if b=a then some o else H b
def cf:upd H a o a=some o:=by unfold upd;rw[if_pos rfl]
def az (h:b≠a):upd H a o b=H b:=by unfold upd;rw[if_neg h]
def aX {H:Hp}(h:H a=some o)(h':H b=none):a≠b:=by
 intro e;subst e;rw[h] at h';cases h'
section
variable(P:Sx)(w:Sr)
noncomputable def dY (H:Hp)(h:Heap)(a:Addr):HO->Prop
 |.lst xs=>xs.length<=sizeLine/\∃(j:List RJ) (n:Nat),Vals xs j/\h.get? a=some {cls:=.type "list",data:=.seq j.toArray n}
 |.tup xs=>xs.length<=sizeLine/\∃j:List RJ,Vals xs j/\IsTup h a j.toArray
 |.dK y=>y.length<=sizeLine/\(a==sysModules)=false/\∃F,KV y F/\h.DictOf (kG P w) a F
 |.dT y=>y.length<=sizeLine/\(a==sysModules)=false/\∃xs:List (List Key×Addr×RJ),
  Tz (λ(p:List Key×V) (q:List Key×Addr×RJ)=>p.1=q.1/\H q.2.1=some (.tup (p.1.map kV))/\RelV p.2 q.2.2) y xs/\
  ∃o es I,h.get? a=some o/\o.ExactDict/\o.data=.dict es I/\es.toList=xs.map (entryOfKey (tupleKind (kG P w)))/\(xs.map (·.1)).Nodup
 |.set S n=>h.SetOf (intKind P w) a S n
 |.ins C dx fs=>H dx=some (.own a)/\fs.length<=1000/\dx≠a/\h.get? a=some (PySem.W.instObj C dx)/\
  ∃mA,h.Ns1 dx mA/\(∀f,EX (fs.lookup f) (mA f))/\PySem.Within mA (fs.map (·.1))
 |.own _=>∃o,h.get? a=some o
 |.xd fs=>∃mA,h.Ns1 a mA/\∀f,EX (fs.lookup f) (mA f)
 |.rng lo hi=>∃t u v,h.get? a=some {cls:=.type "range",data:=.fields #[.int lo t,.int hi u,.int 1 v]}
 |.frz o u=>h.get? a=some o/\dY H h a u
 |.tbl ps=>h.get? a=some {cls:=.none,data:=.fields ps}
 |.met f x=>h.get? a=some (PySem.W.methodObj (.ref f) (.ref x))
 |.ext B=>B h/\(∃o,h.get? a=some o)/\∀h1 h2:Heap,B h1->(∀o,h1.get? a=some o->h2.get? a=some o)->B h2
 |.dn es=>es.length<=sizeLine/\(a==sysModules)=false/\∃o,h.get? a=some o/\o.ExactDict/\o.data=.dict es.toArray es.length
def d8 (H:Hp)(h:Heap):Prop:=∀a o,H a=some o->dY P w H h a o
end
section
variable{P:Sx}{w:Sr}{H H':Hp}{h h':Heap}{a:Addr}{o:HO}
def dY.lt (x:dY P w H h a o):a<h.objs.size:=by
 cases o with
 |lst xs=>obtain(_|_|_|_|e):=x;show R0 e
 |tup xs=>obtain(_|_|_|p):=x;show p.lt
 |dK j=>obtain(_|_|_|_|o|_|_|e|_):=x;show R0 e
 |dT j=>obtain(_|_|_|_|o|_|_|e|_):=x;show R0 e
 |set S n=>obtain(o|_|_|_|e|_):=x;show R0 e
 |ins C dx fs=>obtain(_|_|_|e|_):=x;show R0 e
 |own y=>obtain(_|e):=x;show R0 e
 |xd fs=>obtain(_|(_|_|_|e|_)|_):=x;show R0 e
 |rng lo hi=>obtain(_|_|_|e):=x;show R0 e
 |frz ob u=>obtain(e|_):=x;show R0 e
 |tbl ps=>show R0 (x)
 |met f y=>show R0 (x)
 |ext B=>obtain(_|(_|e)|_):=x;show R0 e
 |dn es=>obtain(_|_|_|e|_):=x;show R0 e
noncomputable def Tz.mapP {j y:Type}{F G:j->y->Prop}:∀{l₁:List j}{l₂:List y},Tz F l₁ l₂->(∀a b,F a b->G a b)->Tz G l₁ l₂
 |_,_,.nil,_=>.nil
 |_,_,.cons r t,f=>.cons (f _ _ r) (Tz.mapP t f)
def dY.stay (x:dY P w H h a o)(k:∀b u,(b=a\/H b=some (.own a))->h.get? b=some u->h'.get? b=some u)
 (ho:∀b,H b=some (.own a)->H' b=some (.own a)) (I:∀b xs,H b=some (.tup xs)->H' b=some (.tup xs)):dY P w H' h' a o:=by
 induction o with
 |lst xs=>obtain(z|B|n|r|e):=x;show{z,B,n,r,k _ _ (.inl rfl) e}
 |tup xs=>obtain(z|B|r|ob|e|c):=x;show{z,B,r,ob,k _ _ (.inl rfl) e,c}
 |dK F=>obtain(z|y|L|r|ob|es|j|e|c):=x;show{z,y,L,r,ob,es,j,k _ _ (.inl rfl) e,c}
 | dT F=>
   obtain(z|y|xs|r|ob|es|j|e|c):=x;show{z,y,xs,Tz.mapP r λp q z=>{z.1,I _ _ z.2.1,z.2.2},ob,es,j,k _ _ (.inl rfl) e,c}
 |set S n=>obtain(ob|es|j|t|e|c):=x;show{ob,es,j,t,k _ _ (.inl rfl) e,c}
 | ins C dx fs=>
   obtain(d|z|ne|e|mA|(od|es|j|e2|c)|r):=x;show{ho _ d,z,ne,k _ _ (.inl rfl) e,mA,{od,es,j,k _ _ (.inr d) e2,c},r}
 |own y=>obtain(ob|e):=x;show{ob,k _ _ (.inl rfl) e}
 |xd fs=>obtain(mA|(od|es|j|e|c)|r):=x;show{mA,{od,es,j,k _ _ (.inl rfl) e,c},r}
 |rng lo hi=>obtain(t|u|v|e):=x;show{t,u,v,k _ _ (.inl rfl) e}
 |frz ob u J=>obtain(e|q):=x;show{k _ _ (.inl rfl) e,J q}
 | tbl ps=>
   have e:=x;show k a _ (.inl rfl) e
 | met f y=>
   have e:=x;show k a _ (.inl rfl) e
 |ext M=>obtain(p|(o|e)|st):=x;show{st _ _ p λo q=>k _ _ (.inl rfl) q,{o,k _ _ (.inl rfl) e},st}
 |dn es=>obtain(z|y|o|e|c):=x;show{z,y,o,k _ _ (.inl rfl) e,c}
def d8.lt (x:d8 P w H h)(e:H a=some o):a<h.objs.size:=(x a o e).lt
def d8.fresh (x:d8 P w H h)(e:h.objs.size<=a):H a=none:=by
 cases q:H a with
 |none=>rfl
 |some u=>show absurd (R9 (x.lt q) e) (S9 _)
def d8.kept (x:d8 P w H h)(k:∀b u,h.get? b=some u->h'.get? b=some u):d8 P w H h':=λa o e=>
 (x a o e).stay (λb u _ q=>k b u q) (λ_ q=>q) λ_ _ q=>q
def d8.laid (x:d8 P w H h)(k:∀b u,h.get? b=some u->h'.get? b=some u)(y:h.objs.size<=a)(new:dY P w (upd H a o) h' a o):d8 P w (upd H a o) h':=λb u e=>by
 have hn:=x.fresh y;by_cases j:b=a
 .subst j;rw[cf] at e;cases e;show new
 .rw[az j] at e;show(x b u e).stay (λc v _ q=>k c v q) (λc q=>by rw[az (aX q hn)];show q) λc xs q=>by rw[az (aX q hn)];show q
end
def Rd (H:Hp)(a:Addr)(u:HO):Prop:=H a=some u\/∃o,H a=some (.frz o u)
def Rd.ok (r:Rd H a u)(x:d8 P w H h):dY P w H h a u:=by
 rcases r with r|⟨o,r⟩
 .exact x a u r
 .obtain(_|q):=x a _ r;show q
def GZ:Option HO->Prop
 |some (.lst _)=>True
 |some (.dK _)=>True
 |some (.dT _)=>True
 |some (.set _ _)=>True
 |some (.ins _ _ _)=>True
 |some (.ext _)=>True
 |some (.dn _)=>True
 |_=>False
section
variable{P:Sx}{w:Sr}{H:Hp}{h h':Heap}{x e:Addr}{o':HO}
def d8.write (ok:d8 P w H h)(mu:GZ (H x))(he:e=x\/H e=some (.own x))(k:∀b u,b≠e->h.get? b=some u->h'.get? b=some u)(L:∃u,h'.get? e=some u)
 (new:dY P w (upd H x o') h' x o'):d8 P w (upd H x o') h':=λb u q=>by
 have B:∀c y,H c=some (.own y)->c≠x:=λc y r z=>by subst z;rw[r] at mu;show mu
 have F:∀c xs,H c=some (.tup xs)->c≠x:=λc xs r z=>by subst z;rw[r] at mu;show mu
 by_cases I:b=x
 .subst I;rw[cf] at q;cases q;show new
 .rw[az I] at q;by_cases j:b=e
  .have M:H b=some (.own x):=by
    rcases he with z|z
    .exact absurd (j.trans z) I
    .rw[j];show z
   rw[q] at M;cases M;obtain(v|O):=L;show{v,by rw[j];show O}
  .refine(ok b u q).stay (λc v J r=>k c v ?_ r) (λc r=>by rw[az (B c b r)];show r) λc xs r=>by rw[az (F c xs r)];show r
   rcases J with rfl|J
   .exact j
   .rintro rfl;rcases he with z|z
    .exact B c b J z
    .rw[J] at z;cases z;show I rfl
end
structure Un (fs ex:List Addr) (H H':Hp) (h h':Heap):Prop where
 keep:∀b o,h.get? b=some o->H b=none->b∉fs->b∉ex->h'.get? b=some o
 slot:∀b o,h.get? b=some o->H b=none->b∈fs->b∉ex->∃sl,h'.get? b=some {o with slots:=sl}
 free:∀b o,h.get? b=some o->H b=none->b∉ex->H' b=none
 there:∀b o,h.get? b=some o->b∉ex->∃o',h'.get? b=some o'
 tups:∀b xs,H b=some (.tup xs)->H' b=some (.tup xs)
 frzs:∀b o u,H b=some (.frz o u)->H' b=some (.frz o u)
 tbls:∀b ps,H b=some (.tbl ps)->∃more,H' b=some (.tbl (ps++more))
section
variable{fs fs' ex ex':List Addr}{H H1 H2:Hp}{h h1 h2 h':Heap}{a x e:Addr}{o:HO}
def Un.any (u:Un fs ex H H1 h h1)(q:h.get? b=some ob)(n:H b=none)(y:b∉ex):∃sl,h1.get? b=some {ob with slots:=sl}:=by
 by_cases j:b∈fs
 .exact u.slot b ob q n j y
 .exact{ob.slots,u.keep b ob q n j y}
def Un.kept (k:∀b u,h.get? b=some u->h'.get? b=some u):Un fs ex H H h h':=
 {λb ob q _ _ _=>k b ob q,λb ob q _ _ _=>{ob.slots,k b ob q},λ_ _ _ n _=>n,λb ob q _=>{ob,k b ob q},λ_ _ q=>q,λ_ _ _ q=>q,λ_ ps q=>{#[],by rw[q];simp}}
def Un.refl:Un fs ex H H h h:=Un.kept λ_ _ q=>q
def Un.laid (k:∀b u,h.get? b=some u->h'.get? b=some u)(j:h.objs.size<=a)(hn:H a=none):Un fs ex H (upd H a o) h h' where
 keep:=λb u q _ _ _=>k b u q
 slot:=λb u q _ _ _=>{u.slots,k b u q}
 free:=λb u q n _=>by rw[az (Se (R9 (R0 q) j))];show n
 there:=λb u q _=>{u,k b u q}
 tups:=λb xs q=>by rw[az (aX q hn)];show q
 frzs:=λb u xs q=>by rw[az (aX q hn)];show q
 tbls:=λb ps q=>{#[],by rw[az (aX q hn),q];simp}
def Un.write (mu:GZ (H x))(he:e=x\/H e=some (.own x))(k:∀b u,b≠e->h.get? b=some u->h'.get? b=some u)(y:∃u,h'.get? e=some u):Un fs ex H (upd H x o) h h':=by
 have F:∀b,H b=none->b≠x:=λb n z=>by subst z;rw[n] at mu;show mu
 have B:∀b,H b=none->b≠e:=λb n z=>by
  subst z;rcases he with r|r
  .exact F b n r
  .rw[n] at r;cases r
 have hm:∀b u,H b=some u->¬ GZ (some u)->b≠x:=λb u q nm z=>by subst z;rw[q] at mu;show nm mu
 show{λb u q n _ _=>k b u (B b n) q,λb u q n _ _=>{u.slots,k b u (B b n) q},λb u q n _=>by rw[az (F b n)];show n,λb u q _=>?_,
  λb xs q=>by rw[az (hm b _ q λz=>z)];show q,λb u xs q=>by rw[az (hm b _ q λz=>z)];show q,λb ps q=>{#[],by rw[az (hm b _ q λz=>z),q];simp}}
 by_cases j:b=e
 .subst j;show y
 .exact{u,k b u j q}
end
noncomputable def Fx (h:Heap)(H:Hp):List Addr:=(List.range h.objs.size).filter λa=>(H a).isSome
def mJ (h:Heap)(H:Hp):Heap:=PySem.W.hideAll h (Fx h H)
def Bt (h:Heap)(H:Hp):(mJ h H).objs.size=h.objs.size:=PySem.W.hideAll_size _ _
def El (e:h.get? b=some o)(n:H b=none):(mJ h H).get? b=some o:=
 PySem.W.hideAll_get _ e λhm=>by
  have q:(H b).isSome=true:=(TL.mp hm).2;rw[n] at q;simp at q
def Ip (e:(mJ h H).get? b=some o):h.get? b=some o/\H b=none:=by
 have j:=PySem.W.of_hideAll (Fx h H) e;show{j,?_};cases q:H b with
 |none=>rfl
 | some x=>
   have hm:b∈Fx h H:=TL.mpr {Tr.mpr (R0 j),by simp[q]}
   have z:(mJ h H).get? b=none:=PySem.W.hideAll_none (Fx h H) hm;rw[z] at e;cases e
structure Mod (K:RG) (mg:Str->Option RJ) (base:Heap):Prop where
 kin:K.In base
 glob:base.Ns mainGlobals mg
 blt:∃mb,base.Ns builtinsNs mb/\∀x:Str,x≠"__name__"->mb x=bootBuiltins x
 nolimit:base.NoLimit
structure Cx where
 prog:Sx
 w:Sr
 K:RG
 mg:Str->Option RJ
 base:Heap
 A:Ti
 N:List Str
 s₀:RO
 H₀:Hp
 env:Env
 outer:List Env
 stack:List Env
 ex:List Addr
 fn:Str->Bool
 calm:Bool
 pn:List (Addr×Obj)
 xe:RJ->RO->Prop
noncomputable def fN (l:List Env):List Addr:=l.filterMap (·.frame)
abbrev Cx.fs (X:Cx):List Addr:=fN X.outer
def B1 (sc:Scope)(x:Str):Prop:=sc.names.lookup x=some .local\/sc.names.lookup x=some .cell\/sc.names.lookup x=some .free
def Loc (sc:Scope)(x:Str):Prop:=sc.names.lookup x=some .local\/sc.names.lookup x=some .cell
def Look (env:Env)(h:Heap)(m:Str->Option RJ)(x:Str)(u:RJ):Prop:=
 (env.kindOf x=some .local/\m x=some u)\/((env.kindOf x=some .cell\/env.kindOf x=some .free)/\∃c,env.cells.lookup x=some c/\h.IsCell c (some u))
structure Cx.Ok (X:Cx):Prop where
 mod:Mod X.K X.mg X.base
 kind:X.env.scope.kind=.function
 glob:X.env.globals=mainGlobals
 blt:X.env.builtins=builtinsNs
 above:X.s₀.heap.objs.size<=X.env.locals
 inj:∀x y c,X.env.cells.lookup x=some c->X.env.cells.lookup y=some c->x=y
 has:∀x,(X.env.kindOf x=some .cell\/X.env.kindOf x=some .free)->∃c,X.env.cells.lookup x=some c
 cab:∀x c,X.fn x=true->X.env.cells.lookup x=some c->X.s₀.heap.objs.size<=c
 hd:X.calm=true->X.A.handled=none
 frames:X.A.frames=some X.stack
 stk:X.stack=X.outer\/(X.stack=X.env::X.outer/\X.env.frame=some X.env.locals)
 exf:∀b∈X.ex,b≠X.env.locals/\∀x c,X.env.cells.lookup x=some c->c≠b
 bs:∀b o,X.base.get? b=some o->X.s₀.heap.get? b=some o/\X.H₀ b=none
 bsz:X.base.objs.size<=X.s₀.heap.objs.size
 noex:∀b o,X.base.get? b=some o->b∉X.ex
 exfs:∀b∈X.ex,b∉X.fs
 funs:X.s₀.heap.FunFrames X.base X.outer
 frf:∀b∈X.fs,X.H₀ b=none
structure Inv (X:Cx) (pins:List (Addr×Obj)) (σ:List (Option V)) (H:Hp) (s:RO):Prop where
 ok:X.Ok
 os:s.os=X.s₀.os
 bare:AllBare s.gens
 base:Un X.fs X.ex X.H₀ H X.s₀.heap s.heap
 loc:∃m,s.heap.Ns X.env.locals m/\∀(i:Nat) (x:Str) (v:V),X.N[i]?=some x->σ[i]?=some (some v)->B1 X.env.scope x->∃u,RelV v u/\Look X.env s.heap m x u
 cell:∀x c,X.env.cells.lookup x=some c->∃v,s.heap.IsCell c v
 free:H X.env.locals=none
 freeC:∀x c,X.env.cells.lookup x=some c->H c=none
 pin:∀p∈X.pn++pins,s.heap.get? p.1=some p.2/\H p.1=none/\p.1≠X.env.locals/\p.1∉X.fs/\∀v,p.2.data≠.cell v
 hok:d8 X.prog X.w H s.heap
 len:σ.length=X.N.length
section
variable{X:Cx}{pins:List (Addr×Obj)}{σ:List (Option V)}{H H':Hp}{s:RO}{h':Heap}
def Cx.Ok.nofr (ok:X.Ok)(e:X.base.get? b=some o):b∉X.fs:=λj=>by
 have:=(ok.funs.mem j).1;rw[e] at this;cases this
def Inv.bs (I:Inv X pins σ H s):∀b o,X.base.get? b=some o->s.heap.get? b=some o/\H b=none:=λb o e=>
 {I.base.keep b o (I.ok.bs b o e).1 (I.ok.bs b o e).2 (I.ok.nofr e) (I.ok.noex b o e),I.base.free b o (I.ok.bs b o e).1 (I.ok.bs b o e).2 (I.ok.noex b o e)}
def Inv.bk (I:Inv X pins σ H s):∀b o,X.base.get? b=some o->s.heap.get? b=some o:=λb o e=>(I.bs b o e).1
def Inv.mod (I:Inv X pins σ H s):Mod X.K X.mg X.base:=I.ok.mod
def Inv.kIn (I:Inv X pins σ H s):X.K.In s.heap:=I.ok.mod.kin.keeps I.bk
def Inv.lt (I:Inv X pins σ H s):X.env.locals<s.heap.objs.size:=let{_,hn,_}:=I.loc;hn.lt
def Inv.sz (I:Inv X pins σ H s):X.s₀.heap.objs.size<=s.heap.objs.size:=RU I.ok.above (Uc I.lt)
def Inv.nofs (I:Inv X pins σ H s)(h:s.heap.objs.size<=a):a∉X.fs:=λj=>by
 obtain(_|o|ho|_):=I.ok.funs.mem j;show absurd (R9 (R0 ho) (RU I.sz h)) (S9 _)
def Inv.cne (I:Inv X pins σ H s):∀x c,X.env.cells.lookup x=some c->c≠X.env.locals:=λx c e z=>by
 obtain(v|o|ho|hd):=I.cell x c e;obtain(m|(o'|es|B|y|j|_)|_):=I.loc;rw[z,y] at ho;cases ho;rw[j] at hd;cases hd
def Inv.funs (I:Inv X pins σ H s):s.heap.FunFrames X.base X.outer:=by
 have all:∀(l:List Env),(∀b∈fN l,b∈X.fs)->X.s₀.heap.FunFrames X.base l->s.heap.FunFrames X.base l:=by
  intro l;induction l with
  |nil=>intro _ _;trivial
  | cons env r B=>
    intro hs hl;obtain(hk|(L|o|hf|hn|ho|hd)|hr):=hl;have j:=hs L (by unfold fN;rw[Ut,hf];show RY)
    obtain(sl|e):=I.base.slot L o ho (I.ok.frf L j) j λz=>I.ok.exfs L z j;show{hk,{L,_,hf,hn,e,hd},B (λb y=>hs b (by unfold fN;rw[Ut,hf];show RP _ y)) hr}
 show all X.outer (λ_ y=>y) I.ok.funs
def Inv.stack (I:Inv X pins σ H s):s.heap.FunFrames X.base X.stack:=by
 rcases I.ok.stk with e|⟨e,hf⟩
 .rw[e];show I.funs
 .rw[e];obtain(m|hn|_):=I.loc;show .cons (by rw[I.ok.kind];decide) hf hn ?_ I.funs
  show Heap.get?_none_of_le (RU I.ok.bsz I.ok.above)
def Inv.stkSub (I:Inv X pins σ H s):∀b∈fN X.stack,b∈X.env.locals::X.fs:=λb j=>by
 rcases I.ok.stk with e|⟨e,hf⟩
 .rw[e] at j;show RP _ j
 .rw[e] at j;unfold fN at j;rw[Ut,hf] at j;show j
def Inv.stkFree (I:Inv X pins σ H s):∀b∈fN X.stack,H b=none:=λb j=>by
 rcases R7.mp (I.stkSub b j) with e|j
 .rw[e];show I.free
 .obtain(_|o|ho|_):=I.ok.funs.mem j;show I.base.free b o ho (I.ok.frf b j) λz=>I.ok.exfs b z j
def Inv.step {ch:List Addr}(I:Inv X pins σ H s)
 (B:∀b∈ch,(b∈X.ex\/X.s₀.heap.objs.size<=b)/\b≠X.env.locals/\(∀x c,X.env.cells.lookup x=some c->c≠b)/\∀p∈X.pn++pins,p.1≠b)
 (keep:∀b o,b≠X.env.locals->b∉X.fs->b∉ch->s.heap.get? b=some o->H b=none->h'.get? b=some o)
 (slot:∀b o,b≠X.env.locals->b∈X.fs->b∉ch->s.heap.get? b=some o->H b=none->∃sl,h'.get? b=some {o with slots:=sl}) (free:∀b o,b∉ch->s.heap.get? b=some o->H b=none->H' b=none)
 (there:∀b o,b∉ch->s.heap.get? b=some o->∃o',h'.get? b=some o')
 (tups:∀b xs,H b=some (.tup xs)->H' b=some (.tup xs)) (frzs:∀b o u,H b=some (.frz o u)->H' b=some (.frz o u)) (tbls:∀b ps,H b=some (.tbl ps)->∃more,H' b=some (.tbl (ps++more)))
 (ns:∀m,s.heap.Ns X.env.locals m->h'.Ns X.env.locals m) (hok:d8 X.prog X.w H' h') (Y:AllBare g') :
 Inv X pins σ H' {s with heap:=h',gens:=g',drawn:=d',toks:=t'}:=by
 have M:∀b o,X.s₀.heap.get? b=some o->b≠X.env.locals:=λb o e=>Se (R9 (R0 e) I.ok.above);have J:∀b o,X.s₀.heap.get? b=some o->b∉X.ex->b∉ch:=λb o e j L=>by
  rcases(B b L).1 with z|z
  .exact j z
  .exact absurd (R9 (R0 e) z) (S9 _)
 have y:∀x c,X.env.cells.lookup x=some c->∀v,s.heap.IsCell c v->h'.IsCell c v:=λx c e v ⟨o,ho,hd⟩=>by
  have F:=λz=>(B c z).2.2.1 x c e rfl;by_cases R:c∈X.fs
  .obtain(sl|q):=slot c o (I.cne x c e) R F ho (I.freeC x c e);show{_,q,hd}
  .exact{o,keep c o (I.cne x c e) R F ho (I.freeC x c e),hd}
 show{I.ok,I.os,Y,{λb o e n L j=>?_,λb o e n L j=>?_,λb o e n j=>?_,λb o e j=>?_,λb xs e=>tups b xs (I.base.tups b xs e),λb o xs e=>frzs b o xs (I.base.frzs b o xs e),λb ps e=>?_},?_,λx c e=>?_,?_,λx c e=>?_,λp S=>?_,hok,I.len}
 .exact keep b o (M b o e) L (J b o e j) (I.base.keep b o e n L j) (I.base.free b o e n j)
 .obtain(sl|e1):=I.base.slot b o e n L j;obtain(O|e2):=slot b _ (M b o e) L (J b o e j) e1 (I.base.free b o e n j);show⟨O,e2⟩
 .obtain(o'|e1):=I.base.there b o e j;show free b o' (J b o e j) e1 (I.base.free b o e n j)
 .obtain(o'|e1):=I.base.there b o e j;show there b o' (J b o e j) e1
 .obtain(m1|e1):=I.base.tbls b ps e;obtain(m2|e2):=tbls b _ e1;show{m1++m2,by rw[e2,Array.append_assoc]}
 .obtain(m|hn|hl):=I.loc;show{m,ns m hn,λi x v e1 e2 W=>?_};obtain(u|r|l):=hl i x v e1 e2 W;show{u,r,?_};rcases l with l|⟨k,c,e,z⟩
  .exact .inl l
  .exact .inr {k,c,e,y x c e _ z}
 .obtain(v|z):=I.cell x c e;show{v,y x c e v z}
 .obtain(m|(o|_|_|ho|_)|_):=I.loc;show free _ o (λz=>(B _ z).2.1 rfl) ho I.free
 .obtain(v|o|ho|hd):=I.cell x c e;show free c o (λz=>(B c z).2.2.1 x c e rfl) ho (I.freeC x c e)
 .obtain(e|n|ne|U|d):=I.pin p S;have F:=λz=>(B p.1 z).2.2.2 p S rfl;show{keep p.1 p.2 ne U F e n,free p.1 p.2 F e n,ne,U,d}
def Inv.un {t':Nat}(I:Inv X pins σ H s)(u:Un X.fs [] H H' s.heap h')(hok:d8 X.prog X.w H' h'):Inv X pins σ H' {s with heap:=h',toks:=t'}:=by
 obtain(m|(o|es|M|ho|r)|_):=id I.loc;obtain(sl|J):=u.any ho I.free `s
 show I.step (ch:=[]) (λ_ z=>nomatch z) (λb o _ F _ e n=>u.keep b o e n F `s) (λb o _ F _ e n=>u.slot b o e n F `s) (λb o _ e n=>u.free b o e n `s) (λb o _ e=>u.there b o e `s) u.tups u.frzs u.tbls (λO hm=>by
  obtain(o'|B|y|j|L):=hm;rw[ho] at j;cases j;show{_,B,y,J,L}) hok I.bare
def Inv.call {M:Drawn}{ch:List Addr}(I:Inv X pins σ H s)(u:Un (fN X.stack) ch H H' s.heap h')(hok:d8 X.prog X.w H' h')(R:AllBare g')
 (y:∀b∈ch,(b∈X.ex\/X.s₀.heap.objs.size<=b)/\b≠X.env.locals/\(∀x c,X.env.cells.lookup x=some c->c≠b)/\∀p∈X.pn++pins,p.1≠b) :
 Inv X pins σ H' {s with heap:=h',gens:=g',drawn:=M,toks:=t'}:=by
 obtain(m|(o|es|U|ho|r)|_):=id I.loc;obtain(sl|L):=u.any ho I.free λz=>(y _ z).2.1 rfl;show I.step y (λb o L O j e n=>u.keep b o e n (λz=>(R7.mp (I.stkSub b z)).elim L O) j) (λb o _ _ j e n=>u.any e n j) (λb o j e n=>u.free b o e n j) (λb o j e=>u.there b o e j) u.tups u.frzs u.tbls (λW hm=>by
  obtain(o'|J|F|B|S):=hm;rw[ho] at B;cases B;show{_,J,F,L,S}) hok R
def Inv.turned {j:Addr}(I:Inv X pins σ H s)(k:∀b o,b≠j->s.heap.get? b=some o->h'.get? b=some o)(hn:H j=none)(F:j≠X.env.locals)
 (h1:j∈X.ex\/X.s₀.heap.objs.size<=j) (h2:∀x c,X.env.cells.lookup x=some c->c≠j) (h3:∀p∈X.pn++pins,p.1≠j):Inv X pins σ H {s with heap:=h',toks:=t'}:=by
 have B:∀b u,H b=some u->b≠j:=λb u e z=>by rw[z,hn] at e;cases e
 show I.step (ch:=[j]) (λb L=>?_) (λb o _ _ y e _=>k b o (λz=>y (by simp[z])) e) (λb o _ _ y e _=>{o.slots,k b o (λz=>y (by simp[z])) e}) (λ_ _ _ _ n=>n)
  (λb o y e=>{o,k b o (λz=>y (by simp[z])) e}) (λ_ _ e=>e) (λ_ _ _ e=>e) (λb ps e=>{#[],by rw[e];simp}) (λm hm=>?_) (λb u e=>?_) I.bare
 .have e:b=j:=by simpa using L
  subst e;show⟨h1,F,h2,h3⟩
 .obtain(o|es|J|ho|r):=hm;show{o,es,J,k _ o (SK F) ho,r}
 .refine(I.hok b u e).stay (λc v y q=>k c v ?_ q) (λ_ q=>q) λ_ _ q=>q;rcases y with z|z
  .rw[z];show B b u e
  .exact B c _ z
def Inv.tok (I:Inv X pins σ H s)(t:Nat):Inv X pins σ H {s with toks:=t}:=I.un Un.refl I.hok
def Inv.kept (I:Inv X pins σ H s)(k:∀b u,s.heap.get? b=some u->h'.get? b=some u):Inv X pins σ H {s with heap:=h',toks:=t'}:=I.un (Un.kept k) (I.hok.kept k)
def Inv.laid (I:Inv X pins σ H s)(k:∀b u,s.heap.get? b=some u->h'.get? b=some u)(j:s.heap.objs.size<=a)(new:dY X.prog X.w (upd H a o) h' a o) :
 Inv X pins σ (upd H a o) {s with heap:=h',toks:=t'}:=I.un (Un.laid k j (I.hok.fresh j)) (I.hok.laid k j new)
def Inv.write (I:Inv X pins σ H s)(mu:GZ (H x))(he:e=x\/H e=some (.own x))(k:∀b u,b≠e->s.heap.get? b=some u->h'.get? b=some u)(j:∃u,h'.get? e=some u)
 (new:dY X.prog X.w (upd H x o) h' x o):Inv X pins σ (upd H x o) {s with heap:=h',toks:=t'}:=I.un (Un.write mu he k j) (I.hok.write mu he k j new)
def Inv.pins_of (I:Inv X pins σ H s)(h:∀p∈j,s.heap.get? p.1=some p.2/\H p.1=none/\p.1≠X.env.locals/\p.1∉X.fs/\∀v,p.2.data≠.cell v):Inv X j σ H s:=
 {I.ok,I.os,I.bare,I.base,I.loc,I.cell,I.free,I.freeC,λp y=>(Si.mp y).elim (λz=>I.pin p (S7 _ z)) (h p),I.hok,I.len}
def oG {N:List Str}(y:N.Nodup){i j:Nat}(a:N[i]?=some x)(b:N[j]?=some x):i=j:=by
 obtain(h1|e1):=RH.mp a;obtain(h2|e2):=RH.mp b;show(List.getElem_inj y).mp (e1.trans e2.symm)
def rE {M:Model}(I:Inv X pins σ H s)(hN:X.N.Nodup)(hi:X.N[i]?=some x)(J:Loc X.env.scope x)(r:RelV v u)
 (h:∀s',Inv X pins (σ.set i (some v)) H s'->(∃a,TB a s.heap s'.heap/\(a=X.env.locals\/X.env.cells.lookup x=some a))->Q () s') (hf:X.fn x=true\/X.env.scope.names.lookup x=some .local:=by first|show .inl rfl|show .inr rfl|assumption):wpAny M A (storeName X.env x u) Q E s:=by
 obtain(m|hn|hl):=id I.loc;have hcls:(X.env.scope.kind==.class||(X.env.scope.kind==.module&&X.env.locals != X.env.globals))=false:=by rw[I.ok.kind];rfl
 have O:i<σ.length:=by rw[I.len];show(RH.mp hi).1
 have cne:=I.cne;have B:∀{a:Addr}{h':Heap},(∃o,s.heap.get? a=some o/\H a=none)->TB a s.heap h'->d8 X.prog X.w H h':=λ{a h'} ha hs b ob e=>by
  obtain(_|_|L):=ha;show(I.hok b ob e).stay (λc w' F q=>(hs.2 c ?_).trans q) (λ_ q=>q) λ_ _ q=>q;rintro rfl;rcases F with rfl|F
  .rw[L] at e;cases e
  .rw[L] at F;cases F
 rcases J with hk|hk
 .refine wpAny_storeName_local hk hn (λh' hn' hs=>?_) hcls;obtain(oL|_|_|hoL|_):=id hn;show h _ {I.ok,I.os,I.bare,{λb o e n R J=>?_,λb o e n R J=>?_,I.base.free,λb o e J=>?_,I.base.tups,I.base.frzs,I.base.tbls},{_,hn',λj y v' e1 e2 e3=>?_},λy c e=>?_,I.free,I.freeC,λp hp=>?_,B ⟨oL,hoL,I.free⟩ hs,~~~I.len} {_,hs,.inl rfl}
  .exact(hs.2 b (Se (R9 (R0 e) I.ok.above))).trans (I.base.keep b o e n R J)
  .obtain(sl|e1):=I.base.slot b o e n R J;show{sl,(hs.2 b (Se (R9 (R0 e) I.ok.above))).trans e1}
  .obtain(o'|e1):=I.base.there b o e J;show{o',(hs.2 b (Se (R9 (R0 e) I.ok.above))).trans e1}
  .by_cases U:j=i
   .subst U;rw[hi] at e1;cases e1;rw[Sk O] at e2;cases e2;show{u,r,.inl {hk,`s}}
   .rw[RT (SK U)] at e2;obtain(u'|r'|q):=hl j y v' e1 e2 e3;show{u',r',?_};rcases q with⟨k,e⟩|⟨k,c,e,z⟩
    .refine .inl {k,?_};have:y≠x:=λe=>U (oG hN e1 (e ▸ hi));simp[this,e]
    .exact .inr {k,c,e,z.sameBut hs (cne y c e)}
  .obtain(w'|z):=I.cell y c e;show{w',z.sameBut hs (cne y c e)}
  .obtain(e|n|ne|nf|d):=I.pin p hp;show{(hs.2 p.1 ne).trans e,n,ne,nf,d}
 .have S:X.fn x=true:=by
   rcases hf with z|z
   .exact z
   .rw[z] at hk;cases hk
  obtain(c|F):=I.ok.has x (.inl hk);obtain(w'|z):=I.cell x c F;show wpAny_storeName_cell I.ok.kind hk F z (λh' W hs=>?_);obtain(oc|hoc|hocd):=id z;show h {s with heap:=h'} {I.ok,I.os,I.bare,{λb o e n R J=>?_,λb o e n R J=>?_,I.base.free,λb o e J=>?_,I.base.tups,I.base.frzs,I.base.tbls},{m,hn.sameBut hs (SK (cne x c F)),λj y v' e1 e2 e3=>?_},λy c' e=>?_,I.free,I.freeC,λp hp=>?_,B {oc,hoc,I.freeC x c F} hs,~~~I.len} {c,hs,.inr F}
  .exact(hs.2 b (Se (R9 (R0 e) (I.ok.cab x c S F)))).trans (I.base.keep b o e n R J)
  .obtain(sl|e1):=I.base.slot b o e n R J;show{sl,(hs.2 b (Se (R9 (R0 e) (I.ok.cab x c S F)))).trans e1}
  .obtain(o'|e1):=I.base.there b o e J;show{o',(hs.2 b (Se (R9 (R0 e) (I.ok.cab x c S F)))).trans e1}
  .by_cases U:j=i
   .subst U;rw[hi] at e1;cases e1;rw[Sk O] at e2;cases e2;show{u,r,.inr {.inl hk,c,F,W}}
   .rw[RT (SK U)] at e2;obtain(u'|r'|q):=hl j y v' e1 e2 e3;show{u',r',?_};rcases q with q|⟨k,c',e,z'⟩
    .exact .inl q
    .refine .inr {k,c',e,z'.sameBut hs ?_};rintro rfl;show U (oG hN e1 (I.ok.inj _ _ _ e F ▸ hi))
  .by_cases Y:c'=c
   .subst Y;show{_,W}
   .obtain(w2|z2):=I.cell y c' e;show{w2,z2.sameBut hs Y}
  .obtain(e|n|ne|nf|d):=I.pin p hp;show{(hs.2 p.1 ?_).trans e,n,ne,nf,d};intro q;rw[q,hoc] at e;have q':=RQ e;show d w' (by rw[<- q'];show hocd)
def tS (I:Inv X pins σ H s)(y:X.N.Nodup)(hi:X.N[i]?=some x)(B:Loc X.env.scope x)(r:RelV v u)
 (h:∀s',Inv X pins (σ.set i (some v)) H s'->Q () s') (hf:X.fn x=true\/X.env.scope.names.lookup x=some .local:=by first|show .inl rfl|show .inr rfl|assumption):wpAny M A (storeName X.env x u) Q E s:=
 rE I y hi B r (λs' j _=>h s' j) hf
def Inv.call' (I:Inv X pins σ H s)(ho:s'.os=s.os)(u:Un (fN X.stack) ch H H' s.heap s'.heap)(hok:d8 X.prog X.w H' s'.heap)(y:AllBare s'.gens)
 (j:∀b∈ch,(b∈X.ex\/X.s₀.heap.objs.size<=b)/\b≠X.env.locals/\(∀x c,X.env.cells.lookup x=some c->c≠b)/\∀p∈X.pn++pins,p.1≠b):Inv X pins σ H' s':=by
 obtain(h'|F|B|J|o'):=s';have e:=ho;subst e;show I.call u hok y j
end
abbrev XK:=RJ->Option Addr->Hp->Prop
abbrev St:=List (Option V)
abbrev VK:=V->Hp->Prop
abbrev TE:=St->Hp->VK->Prop
abbrev TT:=St->Hp->(Bool->Hp->Prop)->Prop
abbrev TA:=St->Hp->(List V->Hp->Prop)->Prop
structure Ends where
 nx:St->Hp->Prop
 rt:VK
 bk:St->Hp->Prop:=λ_ _=>False
 ct:St->Hp->Prop:=λ_ _=>False
abbrev TS:=Ends->St->Hp->Prop
def EP (X:Cx)(pins:List (Addr×Obj))(σ:St)(Q:VK)(u:RJ)(s':RO):Prop:=∃v H',Inv X pins σ H' s'/\RelV v u/\Q v H'
def TP (X:Cx)(pins:List (Addr×Obj))(σ:St)(Q:Bool->Hp->Prop)(b:Bool)(s':RO):Prop:=∃H',Inv X pins σ H' s'/\Q b H'
def AP (X:Cx)(pins:List (Addr×Obj))(σ:St)(Q:List V->Hp->Prop)(us:List RJ)(s':RO):Prop:=∃j H',Inv X pins σ H' s'/\Vals j us/\Q j H'
def SP (X:Cx)(pins:List (Addr×Obj))(D:Ends)(f:Flow)(s':RO):Prop:=
 match f with
 |.next=>∃j H',Inv X pins j H' s'/\D.nx j H'
 |.brk=>∃j H',Inv X pins j H' s'/\D.bk j H'
 |.cont=>∃j H',Inv X pins j H' s'/\D.ct j H'
 |.ret u=>∃v j H',Inv X pins j H' s'/\RelV v u/\D.rt v H'
def PE (X:Cx)(e:Expr)(t:TE):Prop:=
 ∀(pins:List (Addr×Obj)) (s:RO) (σ:St) (H:Hp) (Q:VK),Inv X pins σ H s->t σ H Q->wpAny (model X.prog X.w) X.A (eval e X.env) (EP X pins σ Q) X.xe s
def PT (X:Cx)(e:Expr)(t:TT):Prop:=
 ∀(pins:List (Addr×Obj)) (s:RO) (σ:St) (H:Hp) (Q:Bool->Hp->Prop),Inv X pins σ H s->t σ H Q->wpAny (model X.prog X.w) X.A (isTrue e X.env (eval e X.env)) (TP X pins σ Q) X.xe s
def PW (X:Cx)(e:Expr)(t:TT):Prop:=
 ∀(whole:Sem RJ) (pins:List (Addr×Obj)) (s:RO) (σ:St) (H:Hp) (Q:Bool->Hp->Prop),Inv X pins σ H s->t σ H Q->wpAny (model X.prog X.w) X.A (isTrue e X.env whole) (TP X pins σ Q) X.xe s
def PW.pt (h:PW X e t):PT X e t:=h _
def PA (X:Cx)(es:List Expr)(t:TA):Prop:=
 ∀(pos:Pos) (pins:List (Addr×Obj)) (s:RO) (σ:St) (H:Hp) (Q:List V->Hp->Prop),Inv X pins σ H s->t σ H Q->wpAny (model X.prog X.w) X.A (spliced (backTo pos (starEach es X.env))) (AP X pins σ Q) X.xe s
def PS (X:Cx)(st:Stmt)(t:TS):Prop:=
 ∀(pins:List (Addr×Obj)) (s:RO) (σ:St) (H:Hp) (D:Ends),Inv X pins σ H s->t D σ H->wpAny (model X.prog X.w) X.A (exec st X.env) (SP X pins D) X.xe s
def k9 (X:Cx)(st:List Stmt)(t:TS):Prop:=
 ∀(pins:List (Addr×Obj)) (s:RO) (σ:St) (H:Hp) (D:Ends),Inv X pins σ H s->t D σ H->wpAny (model X.prog X.w) X.A (execs st X.env) (SP X pins D) X.xe s
def aT {j:Type}{t:Sem j}{Q Q':j->RO->Prop}{M:Model}{A:Ti}{E:RJ->RO->Prop}{s:RO}(h:wpAny M A t Q E s)(y:∀a s,Q a s->Q' a s):wpAny M A t Q' E s:=wpAny_mono h y λ_ _ x=>x
section
variable{X:Cx}
def Qm (i:Nat):TE:=λσ H Q=>∃v,σ[i]?=some (some v)/\Q v H
def tC (v:V):TE:=λ_ H Q=>Q v H
def AJ (J:X.N[i]?=some x)(L:B1 X.env.scope x)(hd:(x==("__debug__":Str))=false:=by decide)(B:(x==("__classdict__":Str))=false:=by decide):PE X (.Name x pos) (Qm i):=by
 intro pins s σ H Q I h;obtain(v|e|h):=h;obtain(m|hn|hl):=I.loc;obtain(u|r|l):=hl i x v J e L;have y:EP X pins σ Q u s:=⟨v,H,I,r,h⟩;rcases l with⟨hk,hm⟩|⟨hk,c,F,j⟩
 .exact wpAny_Name (wpAny_loadName_local I.ok.kind hk hn hm y) hd
 .rcases hk with hk|hk
  .exact wpAny_Name (wpAny_loadName_cell I.ok.kind hk F j y) hd
  .exact wpAny_Name (wpAny_loadName_free I.ok.kind hk F j y B) hd
def AK {i j pos}:PE X (.Constant (.int i) j pos) (tC (.int i)):=λ_ _ _ H _ I h=>wpAny_Constant_int {.int i,H,I.tok _,{_,rfl},h}
def yf {b j pos}:PE X (.Constant (.bool b) j pos) (tC (.bl b)):=λ_ _ _ H _ I h=>Constant_bool {.bl b,H,I,rfl,h}
def LB {j pos}:PE X (.Constant .none j pos) (tC .non):=λ_ _ _ H _ I h=>Constant_none {.non,H,I,rfl,h}
def Lw {x j pos}:PE X (.Constant (.str x) j pos) (tC (.str x)):=λ_ _ _ H _ I h=>Calls.Constant_str {.str x,H,I.tok _,{_,rfl},h}
def Gl (X:Cx)(x:Str):Prop:=X.env.kindOf x=some .globalImplicit
def jd (I:Inv X pins σ H s)(j:Gl X x)(hm:X.mg x=some u)(h:Q u s)
 (hd:(x==("__debug__":Str))=false:=by decide):wpAny (model X.prog X.w) X.A (eval (.Name x pos) X.env) Q E s:=
 Calls.Name_function_global I.ok.kind j (Calls.loadGlobal_global (by rw[I.ok.glob];show I.mod.glob.keeps I.bk) hm h) hd
def eY (I:Inv X pins σ H s)(j:Gl X x)(hm:X.mg x=none)(y:bootBuiltins x=some u)(h:Q u s)
 (hn:x≠"__name__":=by decide) (hd:(x==("__debug__":Str))=false:=by decide):wpAny (model X.prog X.w) X.A (eval (.Name x pos) X.env) Q E s:=by
 obtain(B|h1|h2):=I.mod.blt;show Calls.Name_function_global I.ok.kind j (Calls.loadGlobal_builtin (by rw[I.ok.glob];show I.mod.glob.keeps I.bk) hm (by rw[I.ok.blt];show h1.keeps I.bk) ((h2 x hn).trans y) h) hd
def hD (j:Gl X x)(hm:X.mg x=some u)(r:RelV v u)(hd:(x==("__debug__":Str))=false:=by decide):PE X (.Name x pos) (tC v):=
 λ_ _ _ H _ I h=>jd I j hm ⟨v,H,I,r,h⟩ hd
def wB (j:Gl X x)(hm:X.mg x=none)(y:bootBuiltins x=some u)(r:RelV v u)(hn:x≠"__name__":=by decide)(hd:(x==("__debug__":Str))=false:=by decide):PE X (.Name x pos) (tC v):=
 λ_ _ _ H _ I h=>eY I j hm y ⟨v,H,I,r,h⟩ hn hd
variable{a b:Expr}{ta tb:TE}{pos:Pos}
variable{tA tB':TT}{rest:List Expr}
def dF (t u:TT):TT:=λσ H Q=>t σ H λc H1=>if c=true then u σ H1 Q else Q false H1
def c4 (t u:TT):TT:=λσ H Q=>t σ H λc H1=>if c=true then Q true H1 else u σ H1 Q
def bO (t:TT):TT:=λσ H Q=>t σ H λc H1=>Q (!c) H1
def H8 (j:PT X a tA):PW X (.BoolOp .And [a] pos) tA:=by
 intro y pins s σ H Q I h;show isTrue_and (aT (j pins s σ H Q I h) λc s1 e=>?_);cases c with
 |true=>show isTrue_and_nil e
 |false=>show e
def Ll (j:PT X a tA):PW X (.BoolOp .Or [a] pos) tA:=by
 intro y pins s σ H Q I h;show isTrue_or (aT (j pins s σ H Q I h) λc s1 e=>?_);cases c with
 |false=>show isTrue_or_nil e
 |true=>show e
def Lm (B:PT X a tA)(F:PW X (.BoolOp .And (b::rest) pos) tB'):PW X (.BoolOp .And (a::b::rest) pos) (dF tA tB'):=by
 intro J pins s σ H Q I h;show isTrue_and (aT (B pins s σ H _ I h) λc s1 ⟨H1,j,y⟩=>?_);cases c with
 |true=>show F J pins s1 σ H1 Q j y
 |false=>show⟨H1,j,y⟩
def Oo (B:PT X a tA)(F:PW X (.BoolOp .Or (b::rest) pos) tB'):PW X (.BoolOp .Or (a::b::rest) pos) (c4 tA tB'):=by
 intro J pins s σ H Q I h;show isTrue_or (aT (B pins s σ H _ I h) λc s1 ⟨H1,j,y⟩=>?_);cases c with
 |true=>show⟨H1,j,y⟩
 |false=>show F J pins s1 σ H1 Q j y
def Lo (j:PT X a tA):PT X (.UnaryOp .Not a pos) (bO tA):=by
 intro pins s σ H Q I h;show isTrue_not (j pins s σ H (λc H1=>Q (!c) H1) I h)
def Ob (ta tb:TE):TE:=λσ H Q=>ta σ H λx H1=>∃c,x=.bl c/\if c=true then tb σ H1 Q else Q (.bl false) H1
def Qq (ta tb:TE):TE:=λσ H Q=>ta σ H λx H1=>∃c,x=.bl c/\if c=true then Q (.bl true) H1 else tb σ H1 Q
def N8 (ta:TE):TE:=λσ H Q=>ta σ H λx H1=>∃c,x=.bl c/\Q (.bl (!c)) H1
def Ly {op}(h:PE X a t):PE X (.BoolOp op [a] pos) t:=λpins s σ H Q I j=>BoolOp_one (h pins s σ H Q I j)
def LF (B:PE X a ta)(F:PE X (.BoolOp .And (b::rest) pos) tb):PE X (.BoolOp .And (a::b::rest) pos) (Ob ta tb):=by
 intro pins s σ H Q I h;show BoolOp_and (aT (B pins s σ H _ I h) λv s1 ⟨x,H1,y,r1,j⟩=>?_);obtain(c|rfl|j):=j;cases r1;show tqp ?_;cases c with
 |true=>show F pins s1 σ H1 Q y j
 |false=>show{.bl false,H1,y,rfl,j}
def Ot (B:PE X a ta)(F:PE X (.BoolOp .Or (b::rest) pos) tb):PE X (.BoolOp .Or (a::b::rest) pos) (Qq ta tb):=by
 intro pins s σ H Q I h;show BoolOp_or (aT (B pins s σ H _ I h) λv s1 ⟨x,H1,y,r1,j⟩=>?_);obtain(c|rfl|j):=j;cases r1;show tqp ?_;cases c with
 |false=>show F pins s1 σ H1 Q y j
 |true=>show{.bl true,H1,y,rfl,j}
def Lz (B:PE X a ta):PE X (.UnaryOp .Not a pos) (N8 ta):=by
 intro pins s σ H Q I h;show UnaryOp_ (aT (B pins s σ H _ I h) λv s1 ⟨x,H1,y,r1,j⟩=>?_);obtain(c|rfl|j):=j;cases r1;show not_of (tqp {.bl (!c),H1,y,rfl,j})
def tIf (t:TT)(ta tb:TE):TE:=λσ H Q=>t σ H λc H1=>if c=true then ta σ H1 Q else tb σ H1 Q
def uh (J:PT X c tA)(B:PE X a ta)(F:PE X b tb):PE X (.IfExp c a b pos) (tIf tA ta tb):=by
 intro pins s σ H Q I h;show wpAny_IfExp (aT (J pins s σ H _ I h) λd s1 ⟨H1,j,y⟩=>?_);cases d with
 |true=>show B pins s1 σ H1 Q j y
 |false=>show F pins s1 σ H1 Q j y
end
def cQ (K:RG)(H:Hp)(a:Addr)(xs:List V):Prop:=
 Rd H a (.lst xs)\/
  ∃(o:Obj) (j:Array RJ) (n:Nat),K.lookup a=some o/\o.cls=.type "list"/\o.dict=none/\o.data=.seq j n/\j.size<=sizeLine/\Vals xs j.toList
def du (K:RG)(H:Hp)(a:Addr)(xs:List V):Prop:=
 Rd H a (.tup xs)\/
  ∃(o:Obj) (j:Array RJ) (n:Nat),K.lookup a=some o/\o.cls=.type "tuple"/\o.data=.seq j n/\j.size<=sizeLine/\Vals xs j.toList
noncomputable def Rp:RJ->Option V
 |.none=>some .non
 |.bool b=>some (.bl b)
 |.int i _=>some (.int i)
 |.str x _=>some (.str x)
 |.bytes b _=>some (.byt b)
 |.float b _=>some (.flt b)
 |.ref a=>some (.ref a)
 |.type n=>some (.ty n)
 |_=>none
def RelV.abs (r:RelV x u):Rp u=some x:=by
 cases x with
 |non=>cases r;rfl
 |bl _=>cases r;rfl
 |int _=>obtain(t|rfl):=r;rfl
 |str _=>obtain(t|rfl):=r;rfl
 |byt _=>obtain(t|rfl):=r;rfl
 |flt _=>obtain(t|rfl):=r;rfl
 |ref _=>cases r;rfl
 |ty _=>cases r;rfl
def RelV.inj (r:RelV x u)(q:RelV y u):x=y:=RQ (r.abs.symm.trans q.abs)
noncomputable def Vals.inj:∀{xs ys:List V}{us:List RJ},Vals xs us->Vals ys us->xs=ys
 |_,_,_,.nil,.nil=>rfl
 |_,_,_,.cons r t,.cons j y=>by rw[r.inj j,Vals.inj t y]
section
variable{X:Cx}{pins:List (Addr×Obj)}{σ:St}{H:Hp}{s:RO}{a:Addr}{xs ys:List V}
def cQ.of {K:RG}(h:H a=some (.lst xs)):cQ K H a xs:=.inl (.inl h)
def du.of {K:RG}(h:H a=some (.tup xs)):du K H a xs:=.inl (.inl h)
def Inv.list (I:Inv X pins σ H s)(h:cQ X.K H a xs):∃j:List RJ,Vals xs j/\PlainL s.heap a j.toArray/\xs.length<=sizeLine:=by
 rcases h with h|⟨o,j,n,hk,y,hd,hs,B,r⟩
 .obtain(z|j|n|r|e):=h.ok I.hok;show{j,r,{_,n,e,rfl,rfl,rfl},z}
 .refine{j.toList,r,{o,n,I.kIn a o hk,y,hd,~~~hs},?_}
  have e:=r.length;dsimp[T7] at e;omega
def Inv.tuple (I:Inv X pins σ H s)(h:du X.K H a xs):∃j:List RJ,Vals xs j/\IsTup s.heap a j.toArray/\xs.length<=sizeLine:=by
 rcases h with h|⟨o,j,n,hk,y,hs,B,r⟩
 .obtain(z|j|r|p):=h.ok I.hok;show⟨j,r,p,z⟩
 .refine{j.toList,r,{o,I.kIn a o hk,y,n,~~~hs},?_}
  have e:=r.length;dsimp[T7] at e;omega
def Inv.list_inj (I:Inv X pins σ H s)(h:cQ X.K H a xs)(h':cQ X.K H a ys):xs=ys:=by
 obtain(y|r|(o|n|e|_|_|d)|_):=I.list h;obtain(j|J|(o'|L|F|_|_|B)|_):=I.list h';rw[e] at F;cases F;rw[d] at B;injection B with d1 _
 have:y=j:=by simpa using congrArg Array.toList d1
 subst this;show r.inj J
def Inv.tuple_inj (I:Inv X pins σ H s)(h:du X.K H a xs)(h':du X.K H a ys):xs=ys:=by
 obtain(y|r|(o|e|_|n|d)|_):=I.tuple h;obtain(j|J|(o'|F|_|L|B)|_):=I.tuple h';rw[e] at F;cases F;rw[d] at B;injection B with d1 _
 have:y=j:=by simpa using congrArg Array.toList d1
 subst this;show r.inj J
end
section
variable{X:Cx}{st:Stmt}{rest:List Stmt}{t u:TS}{e:Expr}{te:TE}{pos:Pos}
def Fz:TS:=λD σ H=>D.nx σ H
def Qo (t u:TS):TS:=λD σ H=>t {D with nx:=u D} σ H
def Ia:k9 X [] Fz:=λ_ _ σ H _ I h=>wpAny_execs_nil ⟨σ,H,I,h⟩
def Ds (h1:PS X st t)(h2:k9 X rest u):k9 X (st::rest) (Qo t u):=by
 intro pins s σ H D I h;show wpAny_execs_cons (aT (h1 pins s σ H {D with nx:=u D} I h) λf s1 q=>?_)
 cases f with
 | next=>
   obtain(j|H'|y|q):=q;show h2 pins s1 j H' D y q
 |ret v=>show q
 |brk=>show q
 |cont=>show q
def Ic:PS X (.Pass pos) Fz:=λ_ _ σ H _ I h=>wpAny_Pass ⟨σ,H,I,h⟩
def Inv.quiet (I:Inv X pins σ H s):interactive X.env=false:=by simp[interactive,I.ok.kind]
def N9 (te:TE):TS:=λD σ H=>te σ H λ_ H1=>D.nx σ H1
def nj (he:PE X e te)(hs:swapsWith e none pos.line X.env=pure false:=by rfl):PS X (.Expr e pos) (N9 te):=by
 intro pins s σ H D I h;show wpAny_Expr_any (aT (he pins s σ H _ I h) (by rintro v s1 ⟨x,H1,j,r1,y⟩;show⟨σ,H1,j,y⟩)) I.quiet hs
def Qp (te:TE):TS:=λD σ H=>te σ H D.rt
def AB (he:PE X e te):PS X (.Return (some e) pos) (Qp te):=by
 intro pins s σ H D I h;show wpAny_Return_some (aT (he pins s σ H _ I h) (by rintro v s1 ⟨x,H1,j,r1,y⟩;show⟨x,σ,H1,j,r1,y⟩))
def N6:TS:=λD _ H=>D.rt .non H
def Ib:PS X (.Return none pos) N6:=λ_ _ σ H _ I h=>wpAny_Return_none {.non,σ,H,I,rfl,h}
def Qt (c:TT)(t u:TS):TS:=λD σ H=>c σ H λb H1=>if b=true then t D σ H1 else u D σ H1
def Oq (J:PT X c tc)(B:k9 X a t)(F:k9 X b u):PS X (.If c a b pos) (Qt tc t u):=by
 intro pins s σ H D I h;show wpAny_If (aT (J pins s σ H _ I h) λd s1 ⟨H1,j,y⟩=>?_);cases d with
 |true=>show B pins s1 σ H1 D j y
 |false=>show F pins s1 σ H1 D j y
end
abbrev TG:=V->St->Hp->(St->Hp->Prop)->Prop
abbrev xM:=List V->St->Hp->(St->Hp->Prop)->Prop
def PG (X:Cx)(j:Expr)(t:TG):Prop:=
 ∀(pins:List (Addr×Obj)) (s:RO) (σ:St) (H:Hp) (v:V) (u:RJ) (Q:St->Hp->Prop),Inv X pins σ H s->RelV v u->t v σ H Q->
  wpAny (model X.prog X.w) X.A (assign j X.env u) (λ_ s'=>∃y H',Inv X pins y H' s'/\Q y H') X.xe s
def vH (X:Cx)(ts:List Expr)(t:xM):Prop:=
 ∀(pins:List (Addr×Obj)) (s:RO) (σ:St) (H:Hp) (B:List V) (y:List RJ) (Q:St->Hp->Prop),Inv X pins σ H s->Vals B y->t B σ H Q->
  wpAny (model X.prog X.w) X.A (assignInOrder ((assignEach ts X.env).map (·.2)) y) (λ_ s'=>∃j H',Inv X pins j H' s'/\Q j H') X.xe s
abbrev EV:=V->V->V->Hp->(Hp->Prop)->Prop
def EY (X:Cx)(t:EV):Prop:=
 ∀(pins:List (Addr×Obj)) (s:RO) (σ:St) (H:Hp) (o i v:V) (y j u:RJ) (Q:Hp->Prop),Inv X pins σ H s->RelV o y->RelV i j->RelV v u->t o i v H Q->
  wpAny (model X.prog X.w) X.A (setItem y j u) (λ_ s'=>∃H',Inv X pins σ H' s'/\Q H') X.xe s
section
variable{X:Cx}{pos:Pos}
def OQ (i:Nat):TG:=λv σ H Q=>Q (σ.set i (some v)) H
def qz (y:X.N.Nodup)(hi:X.N[i]?=some x)(B:Loc X.env.scope x)(hf:X.fn x=true\/X.env.scope.names.lookup x=some .local:=by first|show .inl rfl|show .inr rfl|assumption):PG X (.Name x pos) (OQ i):=by
 intro pins s σ H v u Q I r h;show wpAny_assign_Name (tS I y hi B r (λs' j=>{_,H,j,h}) hf)
noncomputable def bb:xM:=λj σ H Q=>j=[]/\Q σ H
def a9 (t:TG)(u:xM):xM:=λy σ H Q=>∃v r,y=v::r/\t v σ H λj H'=>u r j H' Q
def wz:vH X [] bb:=by
 intro pins s σ H y j Q I r h;obtain(e|h):=h;subst e;cases r;show assignInOrder_nil ⟨σ,H,I,h⟩
def oF (h1:PG X e t)(h2:vH X es u)
 (hs:(assignEach (e::es) X.env).map (·.2)=assign e X.env::(assignEach es X.env).map (·.2):=by rfl):vH X (e::es) (a9 t u):=by
 intro pins s σ H L J Q I r h;obtain(v|vr|e1|h):=h;subst e1;cases r with
 | cons r F=>
   rw[hs];show assignInOrder_cons (aT (h1 pins s σ H _ _ _ I r h) λ_ s1 ⟨j,H1,y,B⟩=>?_);show h2 pins s1 j H1 _ _ Q y F B
def aR (K:RG)(n:Nat)(t:xM):TG:=λv σ H Q=>∃a xs,v=.ref a/\du K H a xs/\xs.length=n/\t xs σ H Q
def ue (J:X.calm=true)(h:vH X es t)
 (hn:(assignEach es X.env).length=n:=by rfl) (j:(assignEach es X.env).findIdx? (·.1)=none:=by rfl):PG X (.Tuple es k pos) (aR X.K n t):=by
 intro pins s σ H v u Q I r y;obtain(a|xs|e1|L|hl|y):=y;subst e1;cases r;obtain(R|B|M|S):=I.tuple L;show assign_Tuple_tuple (I.ok.hd J) M (by simp[hn,<- hl,B.length]) j λh' O=>?_
 have F:=I.kept (t':=s.toks) λb o e=>O b o (Se (R0 e)) e;show h pins _ σ H xs _ Q F (~~~B) y
def Q5 (to y:TE)(t:EV):TG:=λv σ H Q=>to σ H λo H1=>y σ H1 λi H2=>t o i v H2 λj=>Q σ j
def AI (ho:PE X o to)(hi:PE X i ti)(hs:EY X t)
 (O:∀v,assign (.Subscript o i pos) X.env v=(do
  let j <- holding [v] (eval o X.env)
  let B <- holding [v,j] (eval i X.env)
  standAt pos
  holding [v,j,B] (setItem j B v)
  release [v,j,B] []):=by intro _;rfl):PG X (.Subscript o i pos) (Q5 to ti t):=by
 intro pins s σ H v u Q I r h;rw[O];show tqa (tqo (aT (ho pins s σ H _ I h) λj s1 ⟨x,H1,J,r1,R⟩=>?_));show tqa (tqo (aT (hi pins s1 σ H1 _ J R) λB s2 ⟨y,H2,L,r2,S⟩=>?_));show tqa (wpAny_standAt (tqa (tqo (aT (hs pins s2 σ H2 x y v j B u _ L r1 r2 r S) λ_ W ⟨F,M,U⟩=>?_))));show wpAny_release ⟨σ,F,M,U⟩
def Qv (te:TE)(g:TG):TS:=λD σ H=>te σ H λx H1=>g x σ H1 D.nx
def pG (he:PE X e te)(y:PG X tg g)(hs:swapsWithSole [tg] e pos.line X.env=pure false:=by rfl)(B:swappedStores [tg] e X.env=pure none:=by rfl)
 (h1:(assignEach [tg] X.env).map (·.2)=[assign tg X.env]:=by rfl):PS X (.Assign [tg] e pos) (Qv te g):=by
 intro pins s σ H D I h;show wpAny_Assign_stores (aT (he pins s σ H _ I h) λv s1 ⟨x,H1,j,r1,F⟩=>?_) hs B;rw[h1];show aT (y pins s1 σ H1 x v _ j r1 F) λ_ s2 q=>q
end
section
variable{X:Cx}{pos:Pos}
def Kp (c:TT)(tb:TS):TS:=λD σ H=>∃W:Nat->St->Hp->Prop,(∃m,W m σ H)/\∀m σ H,W m σ H->
 c σ H λb H1=>if b=true then ∃N:St->Hp->Prop,(∀j H',N j H'->∃y,y<m/\W y j H')/\tb {D with nx:=N,ct:=N,bk:=D.nx} σ H1 else D.nx σ H1
def Dt (hp:PassesOwn (model X.prog X.w) X.A X.env X.xe)(hc:PT X c tc)(hb:k9 X body tb):PS X (.While c body [] pos) (Kp tc tb):=by
 intro pins s σ H D I h;obtain(W|(m0|w0)|turn):=h;show wpAny_While (codeAny_whileLoop (λn s'=>∃F H',Inv X pins F H' s'/\W n F H') ?_ m0 ⟨σ,H,I,w0⟩);rintro n s1 ⟨y,H1,I1,w1⟩;show wpAny_passesOwn hp (aT (hc pins s1 y H1 _ I1 (turn n y H1 w1)) λb s2 ⟨H2,U,J⟩=>?_);cases b with
 | true=>
   obtain(N|Y|J):=J;rw[if_pos rfl];show wpAny_passesOwn hp (aT (hb pins s2 y H2 _ U J) λf s3 L=>?_);cases f with
   | next=>
     obtain(j|B|M|R):=L;obtain(O|hm|S):=Y j B R;show⟨O,hm,j,B,M,S⟩
   | cont=>
     obtain(j|B|M|R):=L;obtain(O|hm|S):=Y j B R;show⟨O,hm,j,B,M,S⟩
   |brk=>show L
   |ret v=>show L
 | false=>
   rw[if_neg R6];show wpAny_execs_nil ⟨y,H2,U,J⟩
end
structure It where
 go:Nat->Hp->Prop
 yld:Nat->Hp->V->Hp->Prop
 stop:Nat->Hp->Prop
def eO (X:Cx)(pins:List (Addr×Obj))(H:Hp)(b:Addr):Prop:=
 H b=none/\b≠X.env.locals/\b∉X.fs/\(b∈X.ex\/X.s₀.heap.objs.size<=b)/\(∀x c,X.env.cells.lookup x=some c->c≠b)/\∀p∈X.pn++pins,p.1≠b
def Inv.fpOk (I:Inv X pins σ H s)(j:s.heap.objs.size<=b)(hn:H' b=none):eO X pins H' b:=by
 show{hn,SF (R9 I.lt j),I.nofs j,.inr (RU I.sz j),λx c e z=>?_,λp y z=>?_}
 .obtain(v|q):=I.cell x c e;show absurd (R9 q.lt (by rw[z];show j)) (S9 _)
 .exact absurd (R9 (R0 (I.pin p y).1) (by rw[z];show j)) (S9 _)
structure Turn (P:Sx) (w:Sr) (K:RG) (tg:Expr) (J:It) (fp:List Addr) (it:Addr) (tn:Nat->Heap->Prop):Prop where
 mem:it∈fp
 obj:∀i h,tn i h->∀b∈fp,∃o,h.get? b=some o/\∀v,o.data≠.cell v
 keep:∀i h h',tn i h->(∀b∈fp,∀o,h.get? b=some o->h'.get? b=some o)->tn i h'
 item:∀(X:Cx),X.prog=P->X.w=w->X.K=K->X.calm=true->∀(i:Nat) (pins:List (Addr×Obj)) (s:RO) (σ:St) (H:Hp) (E:RJ->RO->Prop),Inv X pins σ H s->(∀b∈fp,eO X pins H b)->tn i s.heap->J.go i H->
  wpAny (model P w) X.A (pyNext (.ref it)) (λr s1=>∃u,r=some u/\
   wpAny (model P w) X.A (letOwnedTupleGo tg (.ref it) u) (λ_ s2=>∃x H',Inv X pins σ H' s2/\RelV x u/\J.yld i H x H'/\tn (i+1) s2.heap/\∀b∈fp,H' b=none) E s1) E s
 done:∀(X:Cx),X.prog=P->X.w=w->X.K=K->X.calm=true->∀(i:Nat) (pins:List (Addr×Obj)) (s:RO) (σ:St) (H:Hp) (E:RJ->RO->Prop),Inv X pins σ H s->(∀b∈fp,eO X pins H b)->tn i s.heap->J.stop i H->
  wpAny (model P w) X.A (pyNext (.ref it)) (λr s1=>r=none/\Inv X pins σ H s1) E s
 self:∀(A:Ti) (i:Nat) (s:RO) (Q:RJ->RO->Prop) (E:RJ->RO->Prop),tn i s.heap->Q (.ref it) s->wpAny (model P w) A (pyIter (.ref it)) Q E s
abbrev TI:=St->Hp->(It->Hp->Prop)->Prop
def NM (X:Cx)(pins:List (Addr×Obj))(σ:St)(tg:Expr)(R:It->Hp->Prop)(j:RJ)(s2:RO):Prop:=
 ∃(B:Addr) (y:List Addr) (F:Nat->Heap->Prop) (J:It) (H':Hp),j=.ref B/\Inv X pins σ H' s2/\Turn X.prog X.w X.K tg J y B F/\F 0 s2.heap/\(∀b∈y,eO X pins H' b)/\R J H'
def PI (X:Cx)(tg j:Expr)(y:TI):Prop:=
 ∀(pins:List (Addr×Obj)) (s:RO) (σ:St) (H:Hp) (R:It->Hp->Prop),Inv X pins σ H s->y σ H R->
  wpAny (model X.prog X.w) X.A (eval j X.env) (λv s1=>wpAny (model X.prog X.w) X.A (pyIter v) (NM X pins σ tg R) X.xe s1) X.xe s
def pX (ho:s.heap.get? it=some o)(y:o.cls=.type n)(hd:o.data=.fields vs)
 (hn:["enumerate","zip","dict_itemiterator","dict_reverseitemiterator","odict_iterator","itertools.zip_longest","itertools.pairwise"].contains n=false) (j:Q () s):wpAny M A (letOwnedTupleGo tg (.ref it) u) Q E s:=by
 cases tg<;>first
  |show tqb j
  |(cases u<;>first
   |show tqb j
   | (show tqa (wpAny_load ho ?_)
      rw[y,hd];change wpAny M A (if (["enumerate","zip","dict_itemiterator","dict_reverseitemiterator","odict_iterator","itertools.zip_longest","itertools.pairwise"].contains n&&vs[0]?==some (rawInt _))=true then _ else _) Q E s;rw[if_neg (by intro h;rw[hn,Bool.false_and] at h;cases h)]
      show tqb j))
def NT (K:RG)(a:Addr):It:=
 {λi H=>∃xs x,cQ K H a xs/\xs[i]?=some x,λi H x H'=>H'=H/\∀xs,cQ K H a xs->xs[i]?=some x,λi H=>∃xs,cQ K H a xs/\xs.length<=i}
def NR (K:RG)(a:Addr):It:=
 {λi H=>∃xs x,du K H a xs/\xs[i]?=some x,λi H x H'=>H'=H/\∀xs,du K H a xs->xs[i]?=some x,λi H=>∃xs,du K H a xs/\xs.length<=i}
def G0 (lo:Int)(n:Nat):It:={λi _=>i<n,λi H x H'=>H'=H/\x=.int (lo+i),λi _=>n<=i}
def zT {K:RG}(a y:Addr):Turn P w K tg (NT K a) [y] y (λi h=>h.IsListIter y a i) where
 mem:=`s
 obj:=λi h st b j=>by
  have e:b=y:=by simpa using j
  subst e;obtain(o|e|c|d):=st;show{o,e,λv z=>by rw[d] at z;cases z}
 keep:=λi h h' st k=>st.at λo e=>k y `s o e
 item:=by
  intro X S Y R hc i pins s σ H E I hf st U;subst S Y R;obtain(xs|x|F|hx):=U;obtain(its|rv|p|hz):=I.list F;obtain(u|hu|ru):=rv.get hx;obtain(J|f1|f2|L|M|O):=hf y `s
  show wpAny_pyNext_list_item st p.isList (~~~hu) λh' B sb=>?_
  have I1:=I.turned (t':=s.toks) (λb o j e=>(sb.2 b j).trans e) J f1 L M O;obtain(o|e|c|d):=id B;show{u,rfl,pX e c d `d {x,H,I1,ru,{rfl,λys hy=>by rw[I.list_inj hy F];show hx},B,λb j=>(hf b j).1}}
 done:=by
  intro X S Y R hc i pins s σ H E I hf st U;subst S Y R;obtain(xs|F|hx):=U;obtain(its|rv|p|hz):=I.list F;obtain(J|f1|f2|L|M|O):=hf y `s
  have hl:=rv.length;show wpAny_pyNext_list_end (I.ok.hd hc) st p.isList `o λh' eb=>{rfl,I.turned (λb o j e=>eb b o j e) J f1 L M O}
 self:=λ_ _ _ _ _ st h=>wpAny_pyIter_listiter st h
def xT {K:RG}(a y:Addr):Turn P w K tg (NR K a) [y] y (λi h=>h.IsTupleIter y a i) where
 mem:=`s
 obj:=λi h st b j=>by
  have e:b=y:=by simpa using j
  subst e;obtain(o|e|c|d):=st;show{o,e,λv z=>by rw[d] at z;cases z}
 keep:=λi h h' st k=>st.at λo e=>k y `s o e
 item:=by
  intro X S Y R hc i pins s σ H E I hf st U;subst S Y R;obtain(xs|x|F|hx):=U;obtain(its|rv|p|hz):=I.tuple F;obtain(u|hu|ru):=rv.get hx;obtain(J|f1|f2|L|M|O):=hf y `s
  show wpAny_pyNext_tuple_item st (p) (~~~hu) λh' B sb=>?_
  have I1:=I.turned (t':=s.toks) (λb o j e=>(sb.2 b j).trans e) J f1 L M O;obtain(o|e|c|d):=id B;show{u,rfl,pX e c d `d {x,H,I1,ru,{rfl,λys hy=>by rw[I.tuple_inj hy F];show hx},B,λb j=>(hf b j).1}}
 done:=by
  intro X S Y R hc i pins s σ H E I hf st U;subst S Y R;obtain(xs|F|hx):=U;obtain(its|rv|p|hz):=I.tuple F;obtain(J|f1|f2|L|M|O):=hf y `s
  have hl:=rv.length;show wpAny_pyNext_tuple_end (I.ok.hd hc) st (p) `o λh' eb=>{rfl,I.turned (λb o j e=>eb b o j e) J f1 L M O}
 self:=λ_ _ _ _ _ st h=>wpAny_pyIter_tupleiter st h
def xU {K:RG}(j:Addr)(lo:Int)(n:Nat):Turn P w K tg (G0 lo n) [j] j (λi h=>IsRangeIter h j (lo+(i:Nat)*1) ((n:Int)-(i:Nat)) 1) where
 mem:=`s
 obj:=λi h st b y=>by
  have e:b=j:=by simpa using y
  subst e;show{_,st,λv z=>by
   have z':=z;cases z'}
 keep:=λi h h' st k=>k j `s _ st
 item:=by
  intro X R Y O S i pins s σ H E I hf st U;subst R Y O;obtain(F|f1|f2|J|L|M):=hf j `s
  have W:=Walks.range (prog:=X.prog) (w:=X.w) (I.ok.hd S) j lo 1 n;show W.item i s _ _ U st λv h' tk hv B kk=>?_;obtain(t|rfl):=hv;have I1:Inv X pins σ H {s with heap:=h',toks:=tk}:=I.turned (λb o y e=>kk b o (~~~y) e) F f1 J L M
  show{_,rfl,pX B rfl rfl `d {.int (lo+i),H,I1,{t,?_},⟨rfl,rfl⟩,B,λb y=>(hf b y).1}}
  rw[Int.mul_one]
 done:=by
  intro X R Y O S i pins s σ H E I hf st U;subst R Y O;obtain(F|f1|f2|J|L|M):=hf j `s
  show wpAny_pyNext_range_end (I.ok.hd S) st (by have:n<=i:=U;omega) λh' eb=>{rfl,I.turned (λb o y e=>eb b o y e) F f1 J L M}
 self:=λ_ _ _ _ _ st h=>wpAny_pyIter_rangeiter st h
section
variable{X:Cx}{tg:Expr}
def OP (K:RG)(tl:TE):TI:=λσ H R=>tl σ H λx H1=>∃a,x=.ref a/\(∃xs,cQ K H1 a xs)/\R (NT K a) H1
def Q4 (K:RG)(tl:TE):TI:=λσ H R=>tl σ H λx H1=>∃a,x=.ref a/\(∃xs,du K H1 a xs)/\R (NR K a) H1
def Ih (hl:PE X l tl):PI X tg l (OP X.K tl):=by
 intro pins s σ H R I h;show aT (hl pins s σ H _ I h) ?_;rintro v s1 ⟨x,H1,j,r1,J⟩;obtain(a|e|(xs|B)|q):=J;subst e;cases r1;obtain(F|M|p|L):=j.list B;show wpAny_pyIter_list p.isList ?_;show{s1.heap.objs.size,[s1.heap.objs.size],_,_,H1,rfl,j.kept λb o e=>RI _ e,zT a _,{_,RX _ rfl,rfl,rfl},λb y=>?_,q};have e:b=s1.heap.objs.size:=by simpa using y
 subst e;show j.fpOk (RN _) (j.hok.fresh (RN _))
def Lr (hl:PE X l tl):PI X tg l (Q4 X.K tl):=by
 intro pins s σ H R I h;show aT (hl pins s σ H _ I h) ?_;rintro v s1 ⟨x,H1,j,r1,J⟩;obtain(a|e|(xs|B)|q):=J;subst e;cases r1;obtain(F|M|p|L):=j.tuple B;show wpAny_pyIter_tuple (p) ?_;show{s1.heap.objs.size,[s1.heap.objs.size],_,_,H1,rfl,j.kept λb o e=>RI _ e,xT a _,{_,RX _ rfl,rfl,rfl},λb y=>?_,q};have e:b=s1.heap.objs.size:=by simpa using y
 subst e;show j.fpOk (RN _) (j.hok.fresh (RN _))
def Dp {lo hi:Int}(I:Inv X pins σ H s)(h1:-(2^62)<=lo)(h2:lo<2^62)(h3:-(2^62)<=hi)(h4:hi<2^62)
 (q:R (G0 lo (hi-lo).toNat) H):wpAny (model X.prog X.w) X.A (pyIter (.ref s.heap.objs.size)) (NM X pins σ tg R) E {s with heap:=s.heap.push {cls:=.type "range",data:=.fields #[.int lo t,.int hi u,.int 1 v]},toks:=tk}:=by
 show wpAny_pyIter_range (IsRange.new ..) (small_one h1 h2 h3 h4) ?_;have j:Inv X pins σ H {s with heap:=s.heap.push {cls:=.type "range",data:=.fields #[.int lo t,.int hi u,.int 1 v]},toks:=tk}:=I.kept λb o e=>RI _ e
 show{(s.heap.push {cls:=.type "range",data:=.fields #[.int lo t,.int hi u,.int 1 v]}).objs.size,[(s.heap.push {cls:=.type "range",data:=.fields #[.int lo t,.int hi u,.int 1 v]}).objs.size],_,_,H,rfl,
  j.kept λb o e=>RI _ e,xU _ lo (hi-lo).toNat,?_,λb y=>?_,q}
 .have e1:lo+((0:Nat):Int)*1=lo:=`s
  have e2:(((hi-lo).toNat:Nat):Int)-((0:Nat):Int)=Builtin.Range.rangeSize lo hi 1:=by rw[rangeSize_one];split<;>omega
  rw[e1,e2];show RX _ rfl
 .have e:b=(s.heap.push {cls:=.type "range",data:=.fields #[.int lo t,.int hi u,.int 1 v]}).objs.size:=by simpa using y
  subst e;show j.fpOk (RN _) (j.hok.fresh (RN _))
def OO (ta:TA):TI:=λσ H R=>ta σ H λy H1=>∃j:Int,y=[.int j]/\-(2^62)<=j/\j<2^62/\R (G0 0 j.toNat) H1
def AH {ta:TA}{p pos:Pos}(J:Gl X "range")(hm:X.mg "range"=none)(F:PA X [a] ta)(hs:starEach [a] X.env=[(false,eval a X.env)]:=by rfl):PI X tg (.Call (.Name "range" p) [a] [] pos) (OO ta):=by
 intro pins s σ H R I h;show Call_ (eY I J hm boot_range (S0 (aT (F pos pins s σ H _ I h) λO s1 ⟨S,H1,B,r1,y⟩=>?_) hs rfl));obtain(j|e|y|L|q):=y;subst e;cases r1 with
 | cons r M=>
   cases M;obtain(t|rfl):=r;show call_range_1 (Dp B `a `a y L (~~~q))
def Qu (wi:TI)(g:TG)(tb:TS):TS:=λD σ H=>wi σ H λJ H1=>∃W:Nat->Nat->St->Hp->Prop,(∃m,W 0 m σ H1)/\∀i m σ H,W i m σ H->
 (J.stop i H/\D.nx σ H)\/(J.go i H/\∃N:St->Hp->Prop,(∀σ' H',N σ' H'->∃m',m'<m/\W (i+1) m' σ' H')/\∀x H',J.yld i H x H'->g x σ H' λσ2 H2=>tb {D with nx:=N,ct:=N,bk:=D.nx} σ2 H2)
noncomputable def pH (j:List Addr)(h:Heap):List (Addr×Obj):=j.filterMap λb=>(h.get? b).map λo=>(b,o)
def iV (j:b∈fp)(e:h.get? b=some o):(b,o)∈pH fp h:=List.mem_filterMap.mpr {b,j,by rw[e];rfl}
def AR (B:p∈pH fp h):p.1∈fp/\h.get? p.1=some p.2:=by
 obtain(b|y|e):=List.mem_filterMap.mp B;cases q:h.get? b with
 |none=>rw[q] at e;cases e
 | some o=>
   rw[q] at e;have j:=RQ e;subst j;show⟨y,q⟩
def Inv.pinned (I:Inv X pins σ H s)(hf:∀b∈y,eO X pins H b)(ho:∀b∈y,∃o,s.heap.get? b=some o/\∀v,o.data≠.cell v):Inv X (pins++pH y s.heap) σ H s:=
 I.pins_of λp L=>(Si.mp L).elim (λz=>I.pin p (Sz _ z)) λz=>by
  obtain(B|e):=AR z;obtain(F|f1|J|_):=hf p.1 B;obtain(o|j|d):=ho p.1 B;rw[e] at j;cases j;show⟨e,F,f1,J,d⟩
def Inv.unpinned (I:Inv X (pins++pl) σ H s):Inv X pins σ H s:=I.pins_of λp j=>I.pin p (Sz _ (S7 _ j))
def Lp (hp:PassesOwn (model X.prog X.w) X.A X.env X.xe)(hc:X.calm=true)(hi:PI X tg iter wi)(hg:PG X tg g)(L:k9 X body tb)
 (hs:∀x,foldedSetIterable iter X.env x=pure x:=by intro _;rfl):PS X (.For tg iter body [] pos) (Qu wi g tb):=by
 intro pins s σ H D I h;show wpAny_For (aT (hi pins s σ H _ I h) λv s1 h1=>aT h1 λitv s2 h2=>?_) hs;obtain(it|Y|tn|J|H2|e|I2|T|st2|f2|W|(m0|w0)|turn):=h2;subst e;have M:∀{H':Hp},(∀b∈Y,H' b=none)->∀b∈Y,eO X pins H' b:=λhn b L=>{hn b L,(f2 b L).2};show codeAny_forLoop_any (λn s'=>∃i O H',Inv X pins O H' s'/\tn i s'.heap/\(∀b∈Y,H' b=none)/\W i n O H') ?_ m0 {0,σ,H2,I2,st2,λb L=>(f2 b L).1,w0};rintro n s3 ⟨i,R,H3,I3,st3,fr3,w3⟩;rcases turn i n R H3 w3 with⟨stop,qn⟩|⟨go,N,hN,step⟩
 .refine wpAny_passesOwn hp (aT (T.done X rfl rfl rfl hc i pins s3 R H3 X.xe I3 (M fr3) st3 stop) λr s4 ⟨hr,I4⟩=>?_);subst hr;show wpAny_execs_nil ⟨R,H3,I4,qn⟩
 .refine wpAny_passesOwn hp (aT (T.item X rfl rfl rfl hc i pins s3 R H3 X.xe I3 (M fr3) st3 go) λr s4 ⟨u,hr,h4⟩=>?_);subst hr;show wpAny_passesOwn hp (aT h4 λ_ s5 ⟨x,H5,I5,r5,y5,U,fr5⟩=>?_);have I5':=I5.pinned (M fr5) (T.obj _ _ U);show wpAny_passesOwn hp (aT (hg _ s5 R H5 x u _ I5' r5 (step x H5 y5)) λ_ s6 ⟨σ6,H6,I6,q6⟩=>?_);show wpAny_passesOwn hp (aT (L _ s6 σ6 H6 _ I6 q6) λf s7 S=>?_);have F:∀{j:St}{y:Hp},Inv X (pins++pH Y s5.heap) j y s7->N j y->∃m,m<n/\∃i O H',Inv X pins O H' s7/\tn i s7.heap/\(∀b∈Y,H' b=none)/\W i m O H':=λ{j y} B n7=>by
   obtain(m'|hm|w7):=hN j y n7;show{m',hm,i+1,j,y,B.unpinned,T.keep _ _ _ U λb L o e=>(B.pin (b,o) (Sz _ (Sz _ (iV L e)))).1,λb L=>?_,w7};obtain(o|e|d):=T.obj _ _ U b L;show(B.pin (b,o) (Sz _ (Sz _ (iV L e)))).2.1
  cases f with
  |next=>obtain(j|y|B|n7):=S;show F B n7
  |cont=>obtain(j|y|B|n7):=S;show F B n7
  |brk=>obtain(j|y|B|S):=S;show⟨j,y,B.unpinned,S⟩
  |ret v=>obtain(x7|j|y|B|r7|S):=S;show⟨x7,j,y,B.unpinned,r7,S⟩
end
abbrev R2:=V->V->Hp->VK->Prop
def bY (X:Cx)(f:RJ->RJ->Sem RJ)(r:R2):Prop:=
 ∀(pins:List (Addr×Obj)) (s:RO) (σ:St) (H:Hp) (x y:V) (v u:RJ) (Q:VK),Inv X pins σ H s->RelV x v->RelV y u->r x y H Q->
  wpAny (model X.prog X.w) X.A (f v u) (EP X pins σ Q) X.xe s
def NJ (X:Cx)(f:RJ->Sem RJ)(r:V->Hp->VK->Prop):Prop:=
 ∀(pins:List (Addr×Obj)) (s:RO) (σ:St) (H:Hp) (x:V) (v:RJ) (Q:VK),Inv X pins σ H s->RelV x v->r x H Q->
  wpAny (model X.prog X.w) X.A (f v) (EP X pins σ Q) X.xe s
def cn (X:Cx)(f:RJ)(r:List V->Hp->VK->Prop):Prop:=
 ∀(pins:List (Addr×Obj)) (s:RO) (σ:St) (H:Hp) (xs:List V) (j:List RJ) (Q:VK),Inv X pins σ H s->Vals xs j->r xs H Q->
  wpAny (model X.prog X.w) X.A (call f j) (EP X pins σ Q) X.xe s
def Rr (X:Cx)(r:V->Hp->(Bool->Hp->Prop)->Prop):Prop:=
 ∀(pins:List (Addr×Obj)) (s:RO) (σ:St) (H:Hp) (x:V) (v:RJ) (Q:Bool->Hp->Prop),Inv X pins σ H s->RelV x v->r x H Q->
  wpAny (model X.prog X.w) X.A (truthy v) (TP X pins σ Q) X.xe s
def Ae (r:R2)(ta tb:TE):TE:=λσ H Q=>ta σ H λx H1=>tb σ H1 λy H2=>r x y H2 Q
def tUn (r:V->Hp->VK->Prop)(ta:TE):TE:=λσ H Q=>ta σ H λx H1=>r x H1 Q
def rI (C:Int->Int->Prop)(g:Int->Int->V):R2:=λx y H Q=>∃i j,x=.int i/\y=.int j/\C i j/\Q (g i j) H
def rL (g:Int->Int->V):R2:=λx y H Q=>∃i j,x=.int i/\y=.int j/\Q (g i j) H
def rU (g:Int->V):V->Hp->VK->Prop:=λx H Q=>∃i,x=.int i/\Q (g i) H
section
variable{X:Cx}{a b c:Expr}{ta tb tc:TE}{pos:Pos}
def EM (L:PE X a ta)(M:PE X b tb){R:V->V->Hp->Prop}(I:Inv X pins σ H s)
 (h:ta σ H λx H1=>tb σ H1 λy H2=>R x y H2) {f:RJ->RJ->Sem RJ}
 (hf:∀v u s2 x y H2,Inv X pins σ H2 s2->RelV x v->RelV y u->R x y H2->wpAny (model X.prog X.w) X.A (f v u) Q X.xe s2) :
 wpAny (model X.prog X.w) X.A (eval a X.env) (λv j=>wpAny (model X.prog X.w) X.A (eval b X.env) (λu B=>wpAny (model X.prog X.w) X.A (f v u) Q X.xe B) X.xe j) X.xe s:=by
 show aT (L pins s σ H _ I h) ?_;rintro v s1 ⟨x,H1,F,r1,O⟩;show aT (M pins s1 σ H1 _ F O) ?_;rintro u s2 ⟨y,H2,J,r2,S⟩;show hf v u s2 x y H2 J r1 r2 S
def Ou {r:R2}(ho:bY X (binaryOp op) r)(B:PE X a ta)(F:PE X b tb):PE X (.BinOp a op b pos) (Ae r ta tb):=by
 intro pins s σ H Q I h;show wpAny_BinOp (EM B F I h λv u s2 x y H2 j J L q=>ho pins s2 σ H2 x y v u Q j J L q)
def FK (ho:NJ X (unaryOp op) r)(y:PE X a ta):PE X (.UnaryOp op a pos) (tUn r ta):=by
 intro pins s σ H Q I h;show UnaryOp_ (aT (y pins s σ H _ I h) (by rintro v s1 ⟨x,H1,j,r1,B⟩;show ho pins s1 σ H1 x v Q j r1 B))
def FO {g:Int->Int->Int}
 (rule:∀(i j:Int) (t u:Tok) (s:RO) (Q:RJ->RO->Prop) (E:RJ->RO->Prop),C i j->Q (.int (g i j) s.toks) {s with toks:=s.toks+1}->wpAny (model X.prog X.w) X.A (f (.int i t) (.int j u)) Q E s) :
 bY X f (rI C λi j=>.int (g i j)):=by
 intro pins s σ H x y v u Q I F J h;obtain(i|j|rfl|rfl|B|q):=h;obtain(t|rfl):=F;obtain(L|rfl):=J;show rule i j t L s _ _ B {.int (g i j),H,I.tok _,{_,rfl},q}
def LO {g:Int->Int->Int}
 (rule:∀(i j:Int) (t u:Tok) (s:RO) (Q:RJ->RO->Prop) (E:RJ->RO->Prop),Q (.int (g i j) s.toks) {s with toks:=s.toks+1}->wpAny (model X.prog X.w) X.A (f (.int i t) (.int j u)) Q E s) :
 bY X f (rL λi j=>.int (g i j)):=by
 intro pins s σ H x y v u Q I B F h;obtain(i|j|rfl|rfl|q):=h;obtain(t|rfl):=B;obtain(J|rfl):=F;show rule i j t J s _ _ {.int (g i j),H,I.tok _,{_,rfl},q}
def yk {g:Int->Int->Bool}
 (rule:∀(i j:Int) (t u:Tok) (s:RO) (Q:RJ->RO->Prop) (E:RJ->RO->Prop),Q (.bool (g i j)) s->wpAny (model X.prog X.w) X.A (f (.int i t) (.int j u)) Q E s) :
 bY X f (rL λi j=>.bl (g i j)):=by
 intro pins s σ H x y v u Q I B F h;obtain(i|j|rfl|rfl|q):=h;obtain(t|rfl):=B;obtain(J|rfl):=F;show rule i j t J s _ _ {.bl (g i j),H,I,rfl,q}
def NZ (i j:Int):Prop:=0<j/\j<1073741824
def NY (i j:Int):Prop:=0<=j/\j<=1000000/\i.natAbs<2^64
def E1 (i j:Int):Prop:=(-(2^64)<i/\i<2^64)\/(-(2^64)<j/\j<2^64)
def E1.ok {i j:Int}(h:E1 i j):IntMulOk i j:=by
 rcases h with⟨h1,h2⟩|⟨h1,h2⟩
 .exact .of_left (intBits_le_64 h1 h2)
 .exact .of_right (intBits_le_64 h1 h2)
def LN:bY X (binaryOp .Add) (rL λi j=>.int (i+j)):=LO λ_ _ _ _ _ _ _ q=>add_int q
def LG:bY X (binaryOp .Sub) (rL λi j=>.int (i-j)):=LO λ_ _ _ _ _ _ _ q=>sub_int q
def LJ:bY X (binaryOp .Mult) (rI E1 λi j=>.int (i*j)):=FO λ_ _ _ _ _ _ _ y q=>mul_int q y.ok
def Il:bY X (binaryOp .FloorDiv) (rI NZ λi j=>.int (i / j)):=FO λi j _ _ _ _ _ y q=>by
 have h1:=y.1;have h2:=y.2;show floordiv_int `a (by rw[Int.fdiv_eq_ediv_of_nonneg i `a];show q) (.inl (PyProof.noPylong_small `a))
def LK:bY X (binaryOp .Mod) (rI (λ_ j=>0<j) λi j=>.int (i % j)):=FO λi j _ _ _ _ _ y q=>by
 have h1:=y;show mod_int' `a (by rw[Int.fmod_eq_emod_of_nonneg i `a];show q)
def LI:bY X (binaryOp .Pow) (rI NY λi j=>.int (i^j.toNat)):=FO λ_ _ _ _ _ _ _ y q=>pow_int_small y.1 y.2.1 y.2.2 q
def unI {g:Int->Int}
 (rule:∀(i:Int) (t:Tok) (s:RO) (Q:RJ->RO->Prop) (E:RJ->RO->Prop),Q (.int (g i) s.toks) {s with toks:=s.toks+1}->wpAny (model X.prog X.w) X.A (f (.int i t)) Q E s) :
 NJ X f (rU λi=>.int (g i)):=by
 intro pins s σ H x v Q I j h;obtain(i|rfl|q):=h;obtain(t|rfl):=j;show rule i t s _ _ {.int (g i),H,I.tok _,{_,rfl},q}
def zD:NJ X (unaryOp .USub) (rU λi=>.int (-i)):=unI λ_ _ _ _ _ q=>neg_int q
end
noncomputable def KC:V->V->Bool
 |.non,.non=>true|.non,.int _=>true|.int _,.non=>true|.non,.bl _=>true|.bl _,.non=>true|.non,.str _=>true|.str _,.non=>true
 |.int _,.int _=>true|.bl _,.bl _=>true|.str _,.str _=>true|.byt _,.byt _=>true
 |.int _,.str _=>true|.str _,.int _=>true|.bl _,.str _=>true|.str _,.bl _=>true
 |_,_=>false
def rEq:R2:=λx y H Q=>KC x y=true/\Q (.bl (decide (x=y))) H
def rNe:R2:=λx y H Q=>KC x y=true/\Q (.bl (!decide (x=y))) H
def xv {i j:Int}:decide (V.int i=V.int j)=(i==j):=by
 rw[Tn];simp
def BB:decide (V.bl i=V.bl j)=(i==j):=by
 rw[Tn];simp
def nN:decide (V.str i=V.str j)=(i==j):=by
 rw[Tn];simp
def xw:decide (V.byt i=V.byt j)=(i.toList==j.toList):=by
 rw[Tn];cases i;cases j;simp
section
variable{X:Cx}{a b c:Expr}{ta tb tc:TE}{pos:Pos}
def bI (I:Inv X pins σ H s)(q:Q (.bl k) H)(e:k=k'):EP X pins σ Q (.bool k') s:=by
 subst e;show{.bl k,H,I,rfl,q}
def OC:bY X (compareOp .Eq) rEq:=by
 intro pins s σ H x y v u Q I J B h;obtain(hs|q):=h;cases x with
 | non=>
   cases J;cases y with
   |non=>cases B;show PySem.EqNone.eq_none_none (bI I q `s)
   |bl j=>cases B;show PySem.EqNone.eq_none_bool (bI I q `s)
   |int j=>obtain(F|rfl):=B;show PySem.EqNone.eq_none_int (bI I q `s)
   |str j=>obtain(F|rfl):=B;show PySem.EqNone.eq_none_str (bI I q `s)
   |_=>show absurd (hs) R6
 | bl i=>
   cases J;cases y with
   |non=>cases B;show PySem.EqNone.eq_bool_none (bI I q `s)
   |bl j=>cases B;show eq_bool (bI I q BB)
   |str j=>obtain(F|rfl):=B;show PySem.EqMixed.eq_bool_str (bI I q `s)
   |_=>show absurd (hs) R6
 | int i=>
   obtain(t|rfl):=J;cases y with
   |non=>cases B;show PySem.EqNone.eq_int_none (bI I q `s)
   |int j=>obtain(F|rfl):=B;show eq_int (bI I q xv)
   |str j=>obtain(F|rfl):=B;show PySem.EqMixed.eq_int_str (bI I q `s)
   |_=>show absurd (hs) R6
 | str i=>
   obtain(t|rfl):=J;cases y with
   |non=>cases B;show PySem.EqNone.eq_str_none (bI I q `s)
   |bl j=>cases B;show PySem.EqMixed.eq_str_bool (bI I q `s)
   |int j=>obtain(F|rfl):=B;show PySem.EqMixed.eq_str_int (bI I q `s)
   |str j=>obtain(F|rfl):=B;show eq_str (bI I q nN)
   |_=>show absurd (hs) R6
 | byt i=>
   obtain(t|rfl):=J;cases y with
   |byt j=>obtain(F|rfl):=B;show PySem.W.eq_bytes (bI I q xw)
   |_=>show absurd (hs) R6
 |_=>cases y<;>show absurd (hs) R6
def Ox:bY X (compareOp .NotEq) rNe:=by
 intro pins s σ H x y v u Q I J B h;obtain(hs|q):=h;cases x with
 | non=>
   cases J;cases y with
   |non=>cases B;show PySem.EqNone.ne_none_none (bI I q `s)
   |bl j=>cases B;show PySem.EqNone.ne_none_bool (bI I q `s)
   |int j=>obtain(F|rfl):=B;show PySem.EqNone.ne_none_int (bI I q `s)
   |str j=>obtain(F|rfl):=B;show PySem.EqNone.ne_none_str (bI I q `s)
   |_=>show absurd (hs) R6
 | bl i=>
   cases J;cases y with
   |non=>cases B;show PySem.EqNone.ne_bool_none (bI I q `s)
   |bl j=>cases B;show ne_bool (bI I q (congrArg not BB))
   |str j=>obtain(F|rfl):=B;show PySem.EqMixed.ne_bool_str (bI I q `s)
   |_=>show absurd (hs) R6
 | int i=>
   obtain(t|rfl):=J;cases y with
   |non=>cases B;show PySem.EqNone.ne_int_none (bI I q `s)
   |int j=>obtain(F|rfl):=B;show ne_int (bI I q (congrArg not xv))
   |str j=>obtain(F|rfl):=B;show PySem.EqMixed.ne_int_str (bI I q `s)
   |_=>show absurd (hs) R6
 | str i=>
   obtain(t|rfl):=J;cases y with
   |non=>cases B;show PySem.EqNone.ne_str_none (bI I q `s)
   |bl j=>cases B;show PySem.EqMixed.ne_str_bool (bI I q `s)
   |int j=>obtain(F|rfl):=B;show PySem.EqMixed.ne_str_int (bI I q `s)
   |str j=>obtain(F|rfl):=B;show ne_str (bI I q (congrArg not nN))
   |_=>show absurd (hs) R6
 | byt i=>
   obtain(t|rfl):=J;cases y with
   |byt j=>obtain(F|rfl):=B;show PySem.W.ne_bytes (bI I q (congrArg not xw))
   |_=>show absurd (hs) R6
 |_=>cases y<;>show absurd (hs) R6
def Oy:bY X (compareOp .Lt) (rL λi j=>.bl (decide (i<j))):=yk λ_ _ _ _ _ _ _ q=>lt_int q
def Oz:bY X (compareOp .LtE) (rL λi j=>.bl (decide (i<=j))):=yk λ_ _ _ _ _ _ _ q=>le_int q
def OA:bY X (compareOp .Gt) (rL λi j=>.bl (decide (j<i))):=yk λ_ _ _ _ _ _ _ q=>gt_int q
def OB:bY X (compareOp .GtE) (rL λi j=>.bl (decide (j<=i))):=yk λ_ _ _ _ _ _ _ q=>ge_int q
def AO:bY X (compareOp .In) (λx y H Q=>∃i j,x=.str i/\y=.str j/\Q (.bl (!(Builtin.Str.occurrences j i 0 j.length 1).isEmpty)) H):=by
 intro pins s σ H x y v u Q I B F h;obtain(i|j|rfl|rfl|q):=h;obtain(t|rfl):=B;obtain(J|rfl):=F;show in_str (bI I q rfl)
def LL:bY X (compareOp .Is) (λx y H Q=>y=.non/\Q (.bl (decide (x=.non))) H):=by
 intro pins s σ H x y v u Q I j B h;obtain(rfl|q):=h;cases B;show is_none_gen (bI I q ?_);cases x<;>first
  |(cases j;rfl)
  |(obtain(t|rfl):=j;rfl)
def Ik:bY X (compareOp .IsNot) (λx y H Q=>y=.non/\Q (.bl (!decide (x=.non))) H):=by
 intro pins s σ H x y v u Q I j B h;obtain(rfl|q):=h;cases B;show isnot_none_gen (bI I q ?_);cases x<;>first
  |(cases j;rfl)
  |(obtain(t|rfl):=j;rfl)
def um:bY X (compareOp .NotIn) (λx y H Q=>∃i j,x=.str i/\y=.str j/\Q (.bl (!(!(Builtin.Str.occurrences j i 0 j.length 1).isEmpty))) H):=by
 intro pins s σ H x y v u Q I B F h;obtain(i|j|rfl|rfl|q):=h;obtain(t|rfl):=B;obtain(J|rfl):=F;show notIn_str (bI I q rfl)
def qA {r:R2}(ho:bY X (compareOp op) r)(B:PE X a ta)(F:PE X b tb)(hm:behindInMarks op b=false):PE X (.Compare a [op] [b] pos) (Ae r ta tb):=by
 intro pins s σ H Q I h;show wpAny_Compare1 (EM B F I h λv u s2 x y H2 j J L q=>ho pins s2 σ H2 x y v u Q j J L q) hm
def Fy (t:TE):TT:=λσ H Q=>t σ H λx H'=>∃k,x=.bl k/\Q k H'
def qy (ho:bY X (compareOp op) r)(L:PE X a ta)(M:PE X b tb)(hm:behindInMarks op b=false):PT X (.Compare a [op] [b] pos) (Fy (Ae r ta tb)):=by
 intro pins s σ H Q I h;show wpAny_isTrue_Compare1 (aT (L pins s σ H _ I h) λv s1 ⟨x,H1,B,r1,O⟩=>aT (M pins s1 σ H1 _ B O) λu s2 ⟨y,H2,F,r2,R⟩=>
  aT (ho pins s2 σ H2 x y v u _ F r1 r2 R) λc W ⟨z,j,J,U,k,e,S⟩=>?_) hm
 subst e;cases U;show tqp ⟨j,J,S⟩
def tP (r r':R2)(ta tb tc:TE):TE:=λσ H Q=>ta σ H λx H1=>tb σ H1 λy H2=>r x y H2 λz j=>∃k,z=.bl k/\
 (if k=true then tc σ j λF B=>r' y F B Q else Q (.bl false) j)
def Dw (ho:bY X (compareOp op) r)(j:bY X (compareOp op') r')(S:PE X a ta)(U:PE X b tb)(W:PE X c tc)
 (hm:lastMarks [op,op'] [b,c]=false:=by with_unfolding_all rfl):PE X (.Compare a [op,op'] [b,c] pos) (tP r r' ta tb tc):=by
 intro pins s σ H Q I h;show Compare_chain (aT (S pins s σ H _ I h) λv s1 ⟨x,H1,M,r1,Y⟩=>chain_link (aT (U pins s1 σ H1 _ M Y) λu s2 ⟨y,H2,O,r2,q2⟩=>
  aT (ho pins s2 σ H2 x y v u _ O r1 r2 q2) λd s3 ⟨z,B,F,r3,k,e,J⟩=>?_)) hm
 subst e;cases r3;show tqp ?_;cases k with
 |false=>show ite_ff {.bl false,B,F,rfl,J}
 |true=>show ite_tt (chain_last (aT (W pins s3 σ B _ F J) (by rintro w' s4 ⟨z',L,R,r4,q4⟩;show j pins s4 σ L y z' u w' Q R r2 r4 q4)))
def Dr (ho:bY X (compareOp op) r)(j:bY X (compareOp op') r')(Y:PE X a ta)(hb:PE X b tb)(hc:PE X c tc)
 (hm:lastMarks [op,op'] [b,c]=false:=by with_unfolding_all rfl):PT X (.Compare a [op,op'] [b,c] pos) (Fy (tP r r' ta tb tc)):=by
 intro pins s σ H Q I h;show isTrue_chain (aT (Y pins s σ H _ I h) λv s1 ⟨x,H1,O,r1,q1⟩=>test_link (aT (hb pins s1 σ H1 _ O q1) λu s2 ⟨y,H2,R,r2,q2⟩=>
  aT (ho pins s2 σ H2 x y v u _ R r1 r2 q2) λd s3 ⟨z,B,F,r3,k,e,J⟩=>?_)) hm
 subst e;cases r3;show tqp ?_;cases k with
 | false=>
   obtain(k'|W|q'):=J;cases W;show ite_ff ⟨B,F,q'⟩
 | true=>
   show ite_tt (test_last (aT (hc pins s3 σ B _ F J) λw' s4 ⟨z',L,S,r4,q4⟩=>aT (j pins s4 σ L y z' u w' _ S r2 r4 q4) λd' s5 ⟨z2,M,U,r5,k2,e2,q5⟩=>?_));subst e2;cases r5;show tqp ⟨M,U,q5⟩
def EU (K:RG)(x:V)(H:Hp)(k:Bool):Prop:=
 match x with
 |.non=>k=false
 |.bl b=>k=b
 |.int i=>k=(i != 0)
 |.str y=>y.length<=sizeLine/\k=((y.length:Int) != 0)
 |.byt y=>y.size<=sizeLine/\k=((y.size:Int) != 0)
 |.ref p=>(∃xs,cQ K H p xs/\k=!xs.isEmpty)\/(∃xs,du K H p xs/\k=!xs.isEmpty)\/∃kvs,H p=some (.dK kvs)/\k=!kvs.isEmpty
 |_=>False
def yE {κ:Type}{kvs:List (κ×V)}{vs:List (κ×RJ)}(r:KV kvs vs):(!vs.isEmpty)=!kvs.isEmpty:=by
 cases r<;>rfl
def lL {xs:List V}{its:List RJ}(r:Vals xs its):(!its.toArray.isEmpty)=!xs.isEmpty:=by
 cases r<;>simp
def ju:(sizeLine:Nat)<2^63:=by rw[sizeLine_eq];decide
def Kn:Rr X (λx H Q=>∃k,EU X.K x H k/\Q k H):=by
 intro pins s σ H x v Q I rx h;obtain(k|e|q):=h;have hl:=ju;have hs:=sizeLine_eq;cases x with
 | non=>
   cases rx;have e':=e;subst e';show truthy_none ⟨H,I,q⟩
 | bl b=>
   cases rx;have e':=e;subst e';show tqp ⟨H,I,q⟩
 | int i=>
   obtain(t|rfl):=rx;have e':=e;subst e';show PySem.P.truthy_int ⟨H,I,q⟩
 | str y=>
   obtain(t|rfl):=rx;obtain⟨hy,e'⟩:y.length<=sizeLine/\k=((y.length:Int) != 0):=e;subst e';show PySem.P.truthy_str `a {H,I.tok _,q}
 | byt y=>
   obtain(t|rfl):=rx;obtain⟨hy,e'⟩:y.size<=sizeLine/\k=((y.size:Int) != 0):=e;subst e';show PySem.W.truthy_bytes `a {H,I.tok _,q}
 | ref p=>
   cases rx;have e':=e;rcases e' with⟨xs,hx,e'⟩|⟨xs,hx,e'⟩|⟨kvs,hx,e'⟩
   .subst e';obtain(its|r|pl|hz):=I.list hx;have hlen:=r.length;show wpAny_truthy_list pl.isList (by dsimp[RW];omega) {H,I.tok _,by rw[lL r];show q}
   .subst e';obtain(its|r|pl|hz):=I.tuple hx;have hlen:=r.length;show truthy_tuple pl (by dsimp[RW];omega) {H,I.tok _,by rw[lL r];show q}
   .subst e';obtain⟨hz,hS,vs,r,m⟩:kvs.length<=sizeLine/\(p==sysModules)=false/\∃vs,KV kvs vs/\s.heap.DictOf (kG X.prog X.w) p vs:=I.hok p _ hx;have hlen:=Paired.length r;show wpAny_truthy_dict hS m `a {H,I.tok _,by rw[yE r];show q}
 |_=>show(e).elim
def Dq (y:PE X a ta)(he:∀whole,isTrue a X.env whole=(do let v <- whole;standAt a.pos;holding [v] (truthy v))) :
 PT X a (λσ H Q=>ta σ H λx H'=>∃k,EU X.K x H' k/\Q k H'):=by
 intro pins s σ H Q I h;show isTrue_plain (aT (y pins s σ H _ I h) (by rintro v s1 ⟨x,H1,j,r1,B⟩;show Kn pins s1 σ H1 x v Q j r1 B)) (he _)
def yj:bY X (binaryOp .Add) (λx y H Q=>∃i j,x=.str i/\y=.str j/\i.length+j.length<=sizeLine/\Q (.str (i++j)) H):=by
 intro pins s σ H x y v u Q I F J h;obtain(i|j|rfl|rfl|B|q):=h;obtain(t|rfl):=F;obtain(L|rfl):=J;show add_str (λL tk=>{.str (i++j),H,I.tok _,{_,rfl},q}) B
def vals1 (r:Vals [x] us):∃u,us=[u]/\RelV x u:=by
 cases r with
 |cons r1 r2=>cases r2;show{_,rfl,r1}
def vals2 (r:Vals [x,y] us):∃u j,us=[u,j]/\RelV x u/\RelV y j:=by
 cases r with
 | cons r1 r2=>
   cases r2 with
   |cons B F=>cases F;show{_,_,rfl,r1,B}
def BM:cn X (.type "int") (λxs H Q=>(∃i,xs=[.int i]/\Q (.int i) H)\/∃k,xs=[.bl k]/\Q (.int (if k then 1 else 0)) H):=by
 intro pins s σ H xs j Q I r h;rcases h with⟨i,rfl,q⟩|⟨k,rfl,q⟩
 .obtain(u|rfl|t|rfl):=vals1 r;show call_int_int {.int i,H,I,{_,rfl},q}
 .obtain(u|rfl|r1):=vals1 r;cases r1;show call_int_bool {.int (if k then 1 else 0),H,I.tok _,{_,rfl},q}
end
structure EZ (h:Heap) (x dx C:Addr) (mA:Str->Option RJ):Prop where
 obj:h.get? x=some (PySem.W.instObj C dx)
 ns:h.Ns1 dx mA
 ne:dx≠x
set_option tactic.hygienic true in
def A5 {h:Heap}(n:h.Ns1 dx mA):∃od,h.get? dx=some od/\∀name,PySem.W.lookIn name od=some (mA name):=by
 obtain(o|es|I|ho|hd|hk|_|hm):=n;show{o,ho,λname=>?_};have e:=hm name;unfold nsFind findBy at e;rw[<- Array.find?_toList] at e;unfold PySem.W.lookIn;rw[hd];dsimp only;split
 .rename_i y q;rw[q] at e;show congrArg some e
 .rename_i q;rw[q] at e;have a:es.toList.any (·.refKey)=false:=by
   rw[List.any_eq_false];intro y F;obtain(z|t|j):=hk y (Array.mem_toList_iff.mp F);simp[DictEntry.refKey,j]
  have B:¬ es.toList.any (·.refKey)=true:=by rw[a];show R6
  rw[if_neg B];show congrArg some e
def EZ.look (I:EZ h x dx C mA):∃od,PySem.W.InstAt h x (PySem.W.instObj C dx) C (some od)/\∀name,PySem.W.lookIn name od=some (mA name):=
 let⟨od,ho,hl⟩:=A5 I.ns
 {od,⟨I.obj,rfl,rfl,ho⟩,hl}
section
variable{P:Sx}{w:Sr}{H H':Hp}{h h':Heap}{a C dx:Addr}{fs fs':List (Str×V)}
def IU (hok:d8 P w H h)(e:H a=some (.ins C dx fs)):∃mA,EZ h a dx C mA/\(∀f,EX (fs.lookup f) (mA f))/\PySem.Within mA (fs.map (·.1))/\fs.length<=1000/\H dx=some (.own a):=by
 obtain(d|z|ne|ob|mA|n|r|q):=(hok a _ e);show{mA,⟨ob,n,ne⟩,r,q,z,d}
end
structure xQ (K:RG) (C:Addr):Prop where
 pg:PySem.W.plainGet K C Str.empty=true
 hd:PySem.W.hasDictIn K C=true
 po:PySem.W.plainOver K C=true
 sa:PySem.W.findIn K (.ref C) "__setattr__"=some (some (.builtin "object.__setattr__"))
def xQ.get {K:RG}(c:xQ K C)(f:Str):PySem.W.plainGet K C f=true:=c.pg
def NO (K:RG)(C:Addr)(f:Str):Prop:=PySem.W.findIn K (.ref C) f=some none
structure Meth (K:RG) (C:Addr) (m:Str) (f:Addr):Prop where
 at_:PySem.W.findIn K (.ref C) m=some (some (.ref f))
 fn:PySem.W.isFn K (.ref f)=true
 kp:PySem.W.keepIn K (.ref f)=true
section
variable{X:Cx}{pins:List (Addr×Obj)}{σ:St}{H:Hp}{s:RO}{A:Ti}{E:RJ->RO->Prop}{Q:RJ->RO->Prop}{c:RJ}{b:Bool}
inductive iO (K:RG) (H:Hp):V->RJ->Prop where
 |non:iO K H .non (.type "NoneType")
 |bl (x:Bool):iO K H (.bl x) (.type "bool")
 |int (i:Int):iO K H (.int i) (.type "int")
 |str (x:Str):iO K H (.str x) (.type "str")
 |flt (x:UInt64):iO K H (.flt x) (.type "float")
 |lst {a:Addr}{xs:List V} (e:H a=some (.lst xs)):iO K H (.ref a) (.type "list")
 |frz {a:Addr}{o:Obj}{xs:List V} (e:H a=some (.frz o (.lst xs))):iO K H (.ref a) (.type "list")
 |tup {a:Addr}{xs:List V} (e:H a=some (.tup xs)):iO K H (.ref a) (.type "tuple")
 |dK {a:Addr}{kvs:List (Key×V)} (e:H a=some (.dK kvs)):iO K H (.ref a) (.type "dict")
 |dT {a:Addr}{kvs:List (List Key×V)} (e:H a=some (.dT kvs)):iO K H (.ref a) (.type "dict")
 |ins {a C dx:Addr}{fs:List (Str×V)} (e:H a=some (.ins C dx fs)) (cl:xQ K C) (ha:PySem.W.findIn K (.ref C) "__class__"=some (some (.builtin "object.__class__")))
  (hn:PySem.W.specialIn K (.builtin "object.__class__") "__get__"=some (some (.builtin "getset_descriptor.__get__"))) (htk:PySem.W.takesIn K (.builtin "object.__class__")=some true)
  (hm:PySem.W.mroIn K C (.type "object")=some true):iO K H (.ref a) (.ref C)
def jP (I:Inv X pins σ H s)(j:RelV x u)(ty:iO X.K H x t)(e:PySem.W.kitOne X.K t c=some b)(h:∀tk,Q (.bool b) {s with toks:=tk}) :
 wpAny (model X.prog X.w) A (call (.builtin "isinstance") [u,c]) Q E s:=by
 cases ty with
 |non=>cases (j);show SU PySem.W.kitx_none I.kIn True.intro e (λz=>nomatch z) h
 |bl y=>cases (j);show SU PySem.W.kitx_bool I.kIn True.intro e (λz=>nomatch z) h
 |int i=>obtain(t|q):=(j);cases q;show SU PySem.W.kitx_int I.kIn True.intro e (λz=>nomatch z) h
 |str y=>obtain(t|q):=(j);cases q;show SU PySem.W.kitx_str I.kIn True.intro e (λz=>nomatch z) h
 |flt y=>obtain(t|q):=(j);cases q;show SU PySem.W.kitx_float I.kIn True.intro e (λz=>nomatch z) h
 | @lst a xs ea=>
   cases (j);obtain(_|_|n|_|h1):=(I.hok a _ ea);show SU PySem.W.kitx_list I.kIn {_,h1,rfl} e (λz=>nomatch z) h
 | @frz a ob xs ea=>
   cases (j);obtain(_|_|_|n|_|h1):=(I.hok a _ ea);show SU PySem.W.kitx_list I.kIn {_,h1,rfl} e (λz=>nomatch z) h
 | @tup a xs ea=>
   cases (j);obtain(_|_|_|p):=(I.hok a _ ea);obtain(o|h1|h2|_):=p;show SU PySem.W.kitx_tuple I.kIn ⟨o,h1,h2⟩ e (λz=>nomatch z) h
 | @dK a F ea=>
   cases (j);obtain(_|_|R|_|p):=(I.hok a _ ea);obtain(o|es|L|h1|h2|_):=p;show SU PySem.W.kitx_dict I.kIn ⟨o,h1,h2.1⟩ e (λz=>nomatch z) h
 | @dT a F ea=>
   cases (j);obtain(_|_|xs|_|o|es|L|h1|h2|_):=(I.hok a _ ea);show SU PySem.W.kitx_dict I.kIn ⟨o,h1,h2.1⟩ e (λz=>nomatch z) h
 | @ins a C dx fs ea cl M hn B hm=>
   cases (j);obtain(mA|O|_):=IU I.hok ea;obtain(od|J|_):=O.look;show SU (PySem.W.kitx_own (cl.get _) cl.hd M hn B hm) I.kIn J e (λz=>nomatch z) h
end
structure c9 (k:Nat) (A:Ti):Prop where
 hd:A.handled=none
 dp:A.depth+3*k+5<recursionLimit
 un:A.units+16*k+200<cLine
 gd:A.guards=some []
def c9.mono (r:c9 k A)(h:j<=k):c9 j A:={r.hd,by have:=r.dp;omega,by have:=r.un;omega,r.gd}
def c9.deeper (r:c9 (k+1) A)(env:Env):c9 k (A.deeper env):=
 {r.hd,by have:=r.dp;change A.depth+1+3*k+5<_;omega,by have:=r.un;change A.units+3+16*k+200<_;omega,r.gd}
def c9.depth (r:c9 k A):A.depth<recursionLimit:=by have:=r.dp;omega
def c9.units (r:c9 k A):A.units+64<cLine:=by have:=r.un;omega
def Qr:TA:=λ_ H Q=>Q [] H
def Oa (ta:TE)(j:TA):TA:=λσ H Q=>ta σ H λx H1=>j σ H1 λxs H2=>Q (x::xs) H2
section
variable{X:Cx}{e:Expr}{es:List Expr}{te:TE}{t:TA}{pos:Pos}
def cy:PA X [] Qr:=λ_ _ _ _ H Q I h=>Calls.spliced_nil {[],H,I,.nil,h}
def bS (B:PE X e te)(hr:PA X es t)(hs:starEach (e::es) X.env=(false,eval e X.env)::starEach es X.env:=by rfl):PA X (e::es) (Oa te t):=by
 intro pos pins s σ H Q I h;rw[hs];show Calls.spliced_cons (aT (B pins s σ H _ I h) λu s1 ⟨x,H1,j,r1,F⟩=>?_);show aT (hr pos pins s1 σ H1 _ j F) (by rintro L s2 ⟨xs,H2,y,r2,J⟩;show{x::xs,H2,y,.cons r1 r2,J})
def Qn (t:TA):TE:=λσ H Q=>t σ H λxs H1=>xs.length<=sizeLine/\∀p,H1 p=none->Q (.ref p) (upd H1 p (.tup xs))
def Qs (t:TA):TE:=λσ H Q=>t σ H λxs H1=>xs.length<=sizeLine/\∀p,H1 p=none->Q (.ref p) (upd H1 p (.lst xs))
def Lv {x1}(h:PA X es t):PE X (.Tuple es x1 pos) (Qn t):=by
 intro pins s σ H Q I y;show wpAny_Tuple_spliced (aT (h pos pins s σ H _ I y) λB s1 ⟨xs,H1,j,r,z,q⟩=>{by rw[<- r.length];show z,?_})
 have hf:=j.hok.fresh (RN _);show{.ref s1.heap.objs.size,upd H1 s1.heap.objs.size (.tup xs),j.laid (λb u e=>RI _ e) (RN _) ?_,rfl,q _ hf};show{z,B,r,{_,RX _ rfl,rfl,_,rfl}}
def LC (h:PA X es t):PE X (.List es pos) (Qs t):=by
 intro pins s σ H Q I y;show wpAny_List_spliced (aT (h pos pins s σ H _ I y) λB s1 ⟨xs,H1,j,r,z,q⟩=>{by rw[<- r.length];show z,?_})
 have hf:=j.hok.fresh (RN _);show{.ref s1.heap.objs.size,upd H1 s1.heap.objs.size (.lst xs),j.laid (λb u e=>RI _ e) (RN _) ?_,rfl,q _ hf};show{z,B,0,r,RX _ rfl}
end
abbrev Sp:=List V->Hp->VK->XK->Prop
abbrev vK:=List Env->Hp->RO->XK->RJ->RO->Prop
structure zk (P:Sx) (w:Sr) (K:RG) (mg:Str->Option RJ) (base:Heap) (A:Ti) (outer:List Env) (s:RO) (H:Hp):Prop where
 frames:A.frames=some outer
 mod:Mod K mg base
 bs:∀b o,base.get? b=some o->s.heap.get? b=some o/\H b=none
 bsz:base.objs.size<=s.heap.objs.size
 funs:s.heap.FunFrames base outer
 frf:∀b∈fN outer,H b=none
 hok:d8 P w H s.heap
 bare:AllBare s.gens
def CE (outer:List Env)(P:Sx)(w:Sr)(H:Hp)(s:RO)(Q:VK)(u:RJ)(s':RO):Prop:=
 ∃v H',s'.os=s.os/\AllBare s'.gens/\Un (fN outer) [] H H' s.heap s'.heap/\d8 P w H' s'.heap/\RelV v u/\Q v H'
def CR (CX:vK)(outer:List Env)(P:Sx)(w:Sr)(H:Hp)(s:RO)(Q:VK)(E:XK)(r:Result)(s':RO):Prop:=
 match r with
 |.ok (.ret u)=>CE outer P w H s Q u s'
 |.ok _=>False
 |.error e=>CX outer H s E e s'
structure lZ (P:Sx) (w:Sr) (K:RG) (mg:Str->Option RJ) (base:Heap) (CX:vK) (k:Nat) (f:Addr) (fd:FuncData) (ps:List Str) (sp:Sp):Prop where
 len:∀vs H Q E,sp vs H Q E->vs.length=ps.length
 run:∀(A:Ti) (outer:List Env) (s:RO) (H:Hp) (args:Args) (us:List RJ) (vs:List V) (Q:VK) (E:XK),c9 k A->zk P w K mg base A outer s H->BindsTo s fd args (ps.zip us)->Vals vs us->sp vs H Q E->
  codeAny (model P w) A (.call (.ref f) args) (CR CX outer P w H s Q E) s
section
variable{X:Cx}{pins:List (Addr×Obj)}{σ:St}{H:Hp}{s s':RO}
def Inv.env0 (I:Inv X pins σ H s):zk X.prog X.w X.K X.mg X.base X.A X.stack s H:=
 {I.ok.frames,I.ok.mod,I.bs,RU I.ok.bsz I.sz,I.stack,I.stkFree,I.hok,I.bare}
def Inv.after (I:Inv X pins σ H s)(h:CE X.stack X.prog X.w H s Q u s'):EP X pins σ Q u s':=by
 obtain(v|H'|os|bare|un|hok|r|q):=h;obtain(y|g|d|t|j):=s';obtain rfl:j=s.os:=os;show{v,H',I.call un hok bare (λb z=>absurd z `s),r,q}
end
def FA (sp:Sp)(dvs:List V)(E:XK)(t:TA):TE:=λσ H Q=>t σ H λvs H1=>sp (vs++dvs) H1 Q E
def Binds (K:RG)(fd:FuncData)(ps:List Str)(ds:List RJ):Prop:=
 ∀(s:RO) (j:List RJ),K.In s.heap->(j++ds).length=ps.length->BindsTo s fd {j,[]} (ps.zip (j++ds))
def Binds.all {K:RG}(h:∀us:List RJ,us.length=ps.length->bindArgs fd {us,[]}=pure (ps.zip us)):Binds K fd ps []:=λs us _ hl=>by
 rw[TM] at hl ⊢;show .of_eq (h us hl)
def Passes (CX:vK)(X:Cx)(E:XK):Prop:=∀(pins:List (Addr×Obj)) (σ:St) (H:Hp) (s:RO) (e:RJ) (s':RO),Inv X pins σ H s->CX X.stack H s E e s'->X.xe e s'
section
variable{X:Cx}{CX:vK}{k:Nat}{f C:Addr}{fd:FuncData}{ps:List Str}{sp:Sp}{dvs:List V}{ds:List RJ}{E:XK}{x m:Str}{p pos apos:Pos}{e o:Expr}{es:List Expr}{ta:TE}{t:TA}
def Ax (F:lZ X.prog X.w X.K X.mg X.base CX k f fd ps sp)(hr:c9 k X.A)(y:Binds X.K fd ps ds)(hd:Vals dvs ds)(B:Passes CX X E)
 (I:Inv X pins σ H s) (r:Vals vs us) (h:sp (vs++dvs) H Q E):wpAny (model X.prog X.w) X.A (call (.ref f) us) (EP X pins σ Q) X.xe s:=by
 have r2:=r.append hd;have hl:(us++ds).length=ps.length:=by rw[<- r2.length];show F.len _ _ _ _ h
 show wpAny_call (codeAny_mono (F.run X.A X.stack s H {us,[]} (us++ds) (vs++dvs) Q E hr I.env0 (y s us I.kIn hl) r2 h) λr s' j=>?_);cases r with
 |error e=>show B pins σ H s e s' I j
 | ok fl=>
   cases fl with
   |ret u=>show I.after j
   |next=>show False.elim j
   |brk=>show False.elim j
   |cont=>show False.elim j
def Ii (F:lZ X.prog X.w X.K X.mg X.base CX k f fd ps sp)(hr:c9 k X.A)(M:Gl X x)(hm:X.mg x=some (.ref f))(hk:PySem.W.keepIn X.K (.ref f)=true)(L:Binds X.K fd ps ds)(hd:Vals dvs ds)(O:Passes CX X E)
 (J:PA X (e::es) t) (j:(x==("__debug__":Str))=false:=by decide) (he:starEach (e::es) X.env=(false,eval e X.env)::starEach es X.env:=by rfl) (y:(backTo pos (starEach es X.env)).any (·.1)=false:=by rfl) :
 PE X (.Call (.Name x p) (e::es) [] pos) (FA sp dvs E t):=by
 intro pins s σ H Q I h;show wpAny_Call_Name_kw (jd I M hm ?_ j);show PySem.W.callWith_K I.ok.mod.kin hk (aT (J pos pins s σ H _ I h) λR s1 ⟨S,H1,B,r,q⟩=>{B.kIn,?_}) he y;show Ax F hr L hd O B r q
structure Mk (K:RG) (C f:Addr):Prop where
 makes:PySem.W.makesIn K C=true
 init:PySem.W.findIn K (.ref C) "__init__"=some (some (.ref f))
 fn:PySem.W.isFn K (.ref f)=true
 kp:PySem.W.keepIn K (.ref C)=true
end
structure ji (N P:List Str) (sc:Scope):Prop where
 kind:sc.kind=.function
 co:sc.isCoroutine=false
 gen:sc.isGenerator=false
 nd:N.Nodup
 pre:N.take P.length=P
 par:∀x∈P,sc.names.lookup x=some .local\/sc.names.lookup x=some .cell
 nofree:∀y∈sc.names,y.2≠.free
noncomputable def sk {j:Str->Option NameKind}:∀{binds:List (Str×RJ)}{m:Str->Option RJ},(∀v,(x,v)∉binds)->bindL j binds m x=m x
 |[],_,_=>rfl
 | (n,v)::r,m,h=>by
   unfold bindL;rw[sk λw y=>h w (RP _ y)];split
   .have:x≠n:=by rintro rfl;show h v RY
    simp[this]
   .rfl
noncomputable def so {j:Str->Option NameKind}:∀{binds:List (Str×RJ)}{m:Str->Option RJ},(∀v,(x,v)∉binds)->bindC j binds m x=m x
 |[],_,_=>rfl
 | (n,v)::r,m,h=>by
   unfold bindC;rw[so λw y=>h w (RP _ y)];split
   .rfl
   .have:x≠n:=by rintro rfl;show h v RY
    simp[this]
theorem sm {j:Str->Option NameKind}:∀{P:List Str}{vs:List RJ}{i:Nat}{m:Str->Option RJ},P.Nodup->P[i]?=some x->vs[i]?=some v->j x=some .local->
 bindL j (P.zip vs) m x=some v
 |[],_,_,_,_,h,_,_=>by simp at h
 |_::_,[],_,_,_,_,h,_=>by simp at h
 | p::P,w::vs,0,m,nd,h1,h2,hk=>by
   simp at h1 h2;subst h1;subst h2;change bindL j ((p,w)::P.zip vs) m p=_;unfold bindL;rw[sk λv y=>(Tj.mp nd).1 (List.of_mem_zip y).1,if_pos hk];simp
 | p::P,w::vs,i+1,m,nd,h1,h2,hk=>by
   unfold bindL;show sm (Tj.mp nd).2 (~~~h1) (~~~h2) hk
theorem sr {j:Str->Option NameKind}:∀{P:List Str}{vs:List RJ}{i:Nat}{m:Str->Option RJ},P.Nodup->P[i]?=some x->vs[i]?=some v->j x≠some .local->
 bindC j (P.zip vs) m x=some v
 |[],_,_,_,_,h,_,_=>by simp at h
 |_::_,[],_,_,_,_,h,_=>by simp at h
 | p::P,w::vs,0,m,nd,h1,h2,hk=>by
   simp at h1 h2;subst h1;subst h2;change bindC j ((p,w)::P.zip vs) m p=_;unfold bindC;rw[so λv y=>(Tj.mp nd).1 (List.of_mem_zip y).1,if_neg hk];simp
 | p::P,w::vs,i+1,m,nd,h1,h2,hk=>by
   unfold bindC;show sr (Tj.mp nd).2 (~~~h1) (~~~h2) hk
noncomputable def start (N:List Str)(vs:List V):St:=vs.map some++List.replicate (N.length-vs.length) none
noncomputable def gi (CX:vK)(P:Sx)(w:Sr)(K:RG)(mg:Str->Option RJ)(base:Heap)(N:List Str)(qual:Str)(j:Scope)(f:Addr)(cd:RJ)(A:Ti)(outer:List Env)(s:RO)(H:Hp)(E:XK):Cx where
 prog:=P
 w:=w
 K:=K
 mg:=mg
 base:=base
 A:=A.deeper (envOfC qual j s.heap.objs.size f cd)
 N:=N
 s₀:=s
 H₀:=H
 env:=envOfC qual j s.heap.objs.size f cd
 outer:=outer
 stack:=envOfC qual j s.heap.objs.size f cd::outer
 ex:=[]
 calm:=true
 fn:=λ_=>true
 pn:=[]
 xe:=λe s'=>wpAny (model P w) (A.deeper (envOfC qual j s.heap.objs.size f cd)) (leaving (envOfC qual j s.heap.objs.size f cd) e) (λ_ y=>CX outer H s E e y) (λB y=>CX outer H s E B y) s'
def vc {sc:Scope}(h:sc.names.lookup x=some .cell):∃c,(cellsFrom n sc.names []).lookup x=some c:=by
 have q:=PySem.W.cellsFrom_some sc.names n [] (.inl h);show Option.isSome_iff_exists.mp q
def Bq {K:RG}
 (S:ji N ps scope) (hd:A.handled=none) (j:zk P w K mg base A outer s H) (hl:vs.length=ps.length) (r:Vals vs us)
 (x:InCallC s s.heap.objs.size (bindL (envOfC qual scope s.heap.objs.size f cd).kindOf (ps.zip us) λ_=>none) (cellsFrom (s.heap.objs.size+1) scope.names []) (bindC (envOfC qual scope s.heap.objs.size f cd).kindOf (ps.zip us) λ_=>none) s1) :
 Inv (gi CX P w K mg base N qual scope f cd A outer s H E) [] (start N vs) H s1:=by
 have O:ps.length<=N.length:=by have:=congrArg List.length S.pre;rw[SJ] at this;omega
 obtain(h1|tk|rfl|hk):=x.done;have F:∀b:Addr,b∉(gi CX P w K mg base N qual scope f cd A outer s H E).ex:=λb z=>absurd (show b∈([]:List Addr) from z) `s
 show{{j.mod,S.kind,rfl,rfl,RN _,λy z c h1 h2=>?_,λy B=>?_,λy c _ h=>?_,λ_=>hd,Around.frames_deeper j.frames,.inr ⟨rfl,rfl⟩,λb z=>absurd z (F b),j.bs,j.bsz,λb _ _=>F b,λb z=>absurd z (F b),j.funs,j.frf},
  rfl,j.bare,Un.kept hk,{_,x.toInCall.ns,λi y v h1 h2 h3=>?_},λy c h=>{_,x.cell y c h},j.hok.fresh (RN _),λy c h=>?_,λp I=>absurd (show p∈([]:List (Addr×Obj)) from I) `s,j.hok.kept hk,?_}
 .exact name_of_addr x.apart (Us h1) (Us h2)
 .have B:=B;rcases B with B|B
  .exact vc B
  .exact absurd rfl (S.nofree _ (Us B))
 .exact Uc (x.above y c (Us h))
 .have hi:i<vs.length:=by
   unfold start at h2;by_cases hi:i<vs.length
   .exact hi
   .rw[So (~~~hi)] at h2
    rw[T9] at h2;split at h2<;>cases h2
  have M:vs[i]?=some v:=by
   unfold start at h2;rw[RR (~~~hi),Sh] at h2
   cases e:vs[i]? with
   |none=>rw[e] at h2;cases h2
   |some a=>rw[e] at h2;cases h2;rfl
  obtain(u|L|R):=r.get M;have I:ps[i]?=some y:=by
   rw[<- S.pre,List.getElem?_take_of_lt `a];show h1
  have J:ps.Nodup:=by rw[<- S.pre];show S.nd.sublist (List.take_sublist _ _)
  show{u,R,?_};rcases S.par y (Sj I) with k|k
  .exact .inl {k,sm J I L k}
  .obtain(c|e):=vc k;show .inr {.inl k,c,e,?_};have q:=x.cell y c e;rw[sr J I L (by change scope.names.lookup y≠_;rw[k];decide)] at q
   show q
 .exact j.hok.fresh (Uc (x.above y c (Us h)))
 .unfold start;change _=N.length;rw[Sa,RK,Tg];omega
def OR {K:RG}{dV kV M pm j ct oc:RJ}
 (lk:K.lookup f=some {oc,od,.func (PySem.W.fnOf name qual params body scope dV kV M pm an j ct),osl}) (Y:PySem.W.codeIn K j qual=true) (S:ji N ps scope)
 (len:∀vs H Q E,sp vs H Q E->vs.length=ps.length)
 (F:∀(A:Ti) (outer:List Env) (s:RO) (H:Hp) (vs:List V) (Q:VK) (E:XK),c9 k (A.deeper (envOfC qual scope s.heap.objs.size f j))->sp vs H Q E->
  ∃t,k9 (gi CX P w K mg base N qual scope f j A outer s H E) body t/\t {nx:=λ_ H'=>Q .non H',rt:=Q} (start N vs) H) :
 lZ P w K mg base CX (k+1) f (PySem.W.fnOf name qual params body scope dV kV M pm an j ct) ps sp:=by
 show{len,λA outer s H args us vs Q E hr O hb r U=>?_};have hl:=len _ _ _ _ U;have KX:=O.mod.kin.keeps λb o e=>(O.bs b o e).1;have lim:=O.mod.nolimit.keeps λb o e=>(O.bs b o e).1;have L:∀y∈ps.zip us,scope.names.lookup y.1=some .local\/(scope.names.lookup y.1=some .cell/\((cellsFrom (s.heap.objs.size+1) scope.names []).lookup y.1).isSome=true):=λ⟨n,v⟩ hy=>by
  rcases S.par n (List.of_mem_zip hy).1 with q|q
  .exact .inl q
  .exact .inr {q,PySem.W.cellsFrom_some _ _ _ (.inl q)}
 show codeAny_call_function hr.depth (KX _ _ lk) rfl S.co S.gen rfl (PySem.W.codeRec_of KX Y) (hb _ _ _ _ ?_);show wpAny_newFunctionEnv_cells S.kind L λenv he s1 x=>?_;subst he;show{lim.keeps x.toInCall.keep,codeAny_func ?_};obtain(t|ht|hq):=F A outer s H vs Q E (hr.deeper _) U;have I:Inv (gi CX P w K mg base N qual scope f j A outer s H E) [] (start N vs) H s1:=Bq S hr.hd O hl r x;show wpAny_mono (ht [] s1 (start N vs) H _ I hq) (λfl s' hs=>?_) λe s' hs=>hs;have R:∀{B:St}{H':Hp}{v:V}{u:RJ},Inv (gi CX P w K mg base N qual scope f j A outer s H E) [] B H' s'->RelV v u->Q v H'->CE outer P w H s Q u s':=
  λ{B H' v u} J rv q=>⟨v,H',J.os,J.bare,J.base,J.hok,rv,q⟩
 cases fl with
 | ret u=>
   obtain(v|B|H'|J|rv|q):=hs;show R J rv q
 | next=>
   obtain(B|H'|J|q):=hs;show R (v:=V.non) J rfl q
 | brk=>
   obtain(_|_|_|q):=hs;show False.elim q
 | cont=>
   obtain(_|_|_|q):=hs;show False.elim q
section
variable{X:Cx}{x:Str}{p pos:Pos}{e:Expr}{es:List Expr}{t:TA}{id T:String}{r:List V->Hp->VK->Prop}
def PN (r:List V->Hp->VK->Prop)(t:TA):TE:=λσ H Q=>t σ H λj H1=>r j H1 Q
def f9 (J:cn X (.builtin id) r)(L:Gl X x)(hm:X.mg x=none)(M:bootBuiltins x=some (.builtin id))(F:PA X (e::es) t)(hn:x≠"__name__":=by decide)(j:(x==("__debug__":Str))=false:=by decide)
 (he:starEach (e::es) X.env=(false,eval e X.env)::starEach es X.env:=by rfl) (y:(backTo pos (starEach es X.env)).any (·.1)=false:=by rfl):PE X (.Call (.Name x p) (e::es) [] pos) (PN r t):=by
 intro pins s σ H Q I h;show wpAny_Call_Name_kw (eY I L hm M ?_ hn j);show PyProof.Rows.callWith_builtin1 (aT (F pos pins s σ H _ I h) (by rintro R s1 ⟨S,H1,B,r1,O⟩;show J pins s1 σ H1 S R Q B r1 O)) he y
def my (J:cn X (.type T) r)(L:Gl X x)(hm:X.mg x=none)(M:bootBuiltins x=some (.type T))(F:PA X (e::es) t)(hn:x≠"__name__":=by decide)(j:(x==("__debug__":Str))=false:=by decide)
 (he:starEach (e::es) X.env=(false,eval e X.env)::starEach es X.env:=by rfl) (y:(backTo pos (starEach es X.env)).any (·.1)=false:=by rfl):PE X (.Call (.Name x p) (e::es) [] pos) (PN r t):=by
 intro pins s σ H Q I h;show wpAny_Call_Name_kw (eY I L hm M ?_ hn j);show S0 (aT (F pos pins s σ H _ I h) (by rintro R s1 ⟨S,H1,B,r1,O⟩;show J pins s1 σ H1 S R Q B r1 O)) he y
end
end L2
namespace HT
open PySem PyProof.Rows
section
variable{prog:Sx}{w:Sr}{A:Ti}{E:RJ->RO->Prop}{s:RO}
def JF (Y:IsTup s.heap t vs.toArray)(U:IsTup s.heap b ws.toArray)(S:vs≠[])
 (h1:ws=[]->Q (.ref t) s) (h2:ws≠[]->Q (.ref s.heap.objs.size) {s with heap:=s.heap.push {cls:=.type "tuple",data:=.seq (vs++ws).toArray}})
 (hsz:vs.length+ws.length<=sizeLine):wpAny (model prog w) A (binaryOp .Add (.ref t) (.ref b)) Q E s:=by
 obtain((cls|R|data|sl)|ho|W|n|hd):=id Y;obtain((O|y|J|B)|j|L|n2|M):=id U;subst W hd L M;have e:vs.toArray++ws.toArray=(vs++ws).toArray:=`s
 by_cases I:ws=[]
 .exact concat_meets {_,ho,rfl} {_,j,rfl} noFill_tuple_add seq_tuple_add PySem.F.slot_tuple_add PySem.F.entry_tuple_add (PySem.F.args_tuple_add_2 _ _)
   (tuple_addW1 t b vs.toArray ws.toArray n n2 R y sl B (~~~S) (by simp[I])) {ho,j,h1 I}
 .refine concat_meets {_,ho,rfl} {_,j,rfl} noFill_tuple_add seq_tuple_add PySem.F.slot_tuple_add PySem.F.entry_tuple_add (PySem.F.args_tuple_add_2 _ _)
   (tuple_addW2 t b vs.toArray ws.toArray n n2 R y sl B (~~~S) (~~~I) (by rw[RW,RW];show hsz)) {ho,j,?_}
  rw[e];show h2 I
noncomputable def aL (n d:Nat):Option Int->Nat
 |none=>d
 |some v=>if v<0 then(v+(n:Int)).toNat else min v.toNat n
def xB (v:Int)(n d:Nat):(if v<0 then max (v+(n:Int)) 0 else min v (n:Int))=((aL n d (some v):Nat):Int):=by
 change(if v<0 then max (v+(n:Int)) 0 else min v (n:Int))=(((if v<0 then(v+(n:Int)).toNat else min v.toNat n):Nat):Int);by_cases j:v<0
 .simp only[if_pos j];omega
 .simp only[if_neg j];omega
def yY (lo hi:Option Int)(n:Nat):Builtin.Slice.sliceAdjust lo hi 1 (n:Int)=(((aL n 0 lo:Nat):Int),((aL n n hi:Nat):Int)):=by
 show Prod.ext ?_ ?_
 .cases lo with
  |none=>rfl
  |some v=>show xB v n 0
 .cases hi with
  |none=>rfl
  |some v=>show xB v n n
def yc (i j:Nat):Builtin.Slice.slicePlaces (i:Int) (j:Int) 1=j-i:=by
 unfold Builtin.Slice.slicePlaces;split<;>omega
def pB (p:IsPart v o)(h:Q o s):wpAny (model prog w) A (Builtin.Slice.slicePartIndex v) Q E s:=by
 cases p with
 |none=>show slicePart_none h
 |int i t=>show slicePart_int h
def jm {lo hi:Option Int}{Q:Int×Int×Nat->RO->Prop}(hs:s.heap.IsSliceOf sl vl vu .none)(pl:IsPart vl lo)(pu:IsPart vu hi)
 (h:Q (((aL n 0 lo:Nat):Int),1,aL n n hi-aL n 0 lo) s):wpAny (model prog w) A (Builtin.Slice.sliceApplied (.ref sl) (pure (n:Int))) Q E s:=by
 obtain(os|y|B|j):=id hs;show tqa (tqa (tqf y j rfl (tqa (tqf y j rfl (tqa (tqf y j rfl (tqb ?_)))))));show tqa (slicePart_none ?_);rw[if_neg `d]
 show tqa (pB pl (tqa (pB pu (tqa (tqb ?_)))));change wpAny _ _ (match Builtin.Slice.sliceAdjust lo hi 1 (n:Int) with|(lo,hi)=>pure (lo,(1:Int),Builtin.Slice.slicePlaces lo hi 1)) _ _ s
 rw[yY lo hi n];change wpAny _ _ (pure (((aL n 0 lo:Nat):Int),(1:Int),Builtin.Slice.slicePlaces ((aL n 0 lo:Nat):Int) ((aL n n hi:Nat):Int) 1)) _ _ s;rw[yc];show tqb h
def Dv (xs:Array RJ)(i k:Nat):((List.range k).filterMap λ(m:Nat)=>xs[((i:Int)+(m:Int)*1).toNat]?).toArray=((xs.toList.drop i).take k).toArray:=by
 have e:(λ(m:Nat)=>xs[((i:Int)+(m:Int)*1).toNat]?)=λm=>xs[i+m]?:=by
  funext m
  have:((i:Int)+(m:Int)*1).toNat=i+m:=`a
  rw[this]
 rw[e];have:=pick_run xs i k;rw[List.filterMap_map] at this;have e2:((λx=>xs[x]?)∘λx=>i+x)=λm=>xs[i+m]?:=rfl;rw[e2] at this;rw[this]
def nX {lo hi:Option Int}(y:IsTup s.heap t items)(hs:s.heap.IsSliceOf sl vl vu .none)(pl:IsPart vl lo)(pu:IsPart vu hi)
 (M:¬ (aL items.size 0 lo=0/\aL items.size items.size hi=items.size))
 (h:Q (.ref s.heap.objs.size) {s with heap:=s.heap.push {cls:=.type "tuple",data:=.seq ((items.toList.drop (aL items.size 0 lo)).take (aL items.size items.size hi-aL items.size 0 lo)).toArray}})
 (hsz:items.size<=sizeLine):wpAny (model prog w) A (getItem (.ref t) (.ref sl)) Q E s:=by
 have j:sizeOk (.seq ((items.toList.drop (aL items.size 0 lo)).take (aL items.size items.size hi-aL items.size 0 lo)).toArray):=by
  change((items.toList.drop (aL items.size 0 lo)).take (aL items.size items.size hi-aL items.size 0 lo)).toArray.size<=sizeLine;rw[RW,SJ,TY,T7];omega
 obtain(os|J|F|L):=id hs;have B:s.TypeIs (.ref sl) "slice":=⟨os,J,F⟩;unfold getItem;try with_reducible show tqo ?_
 first|show tqa (tqb ?_)|skip
 show tqa (wpAny_sequenceKey y.typeIs `d ?_)
 show tqa (wpAny_callSpecial?_slot y.typeIs SA
  (wpAny_call_entry SA y.typeIs entry_tuple_getitem ?_ (args_tuple_getitem _ _)))
 change wpAny _ _ (Builtin.Tuple.tupleItemsOf (.ref t) >>= _) _ _ s;show tqa (tupleItemsOf_ y ?_);show tqa (wpAny_typeOf B ?_);rw[if_pos `d]
 show tqa (jm hs pl pu ?_);have I:¬ ((((aL items.size 0 lo:Nat):Int)==0&&(1:Int)==1&&(aL items.size items.size hi-aL items.size 0 lo)==items.size)=true):=by
  intro q;rw[RM,RM] at q;have O:=eq_of_beq q.1.1;have R:=eq_of_beq q.2;show M {`a,`a}
 change wpAny _ _ (if (((aL items.size 0 lo:Nat):Int)==0&&(1:Int)==1&&(aL items.size items.size hi-aL items.size 0 lo)==items.size)=true then _ else _) _ _ s;rw[if_neg I,Dv];first
  |show tqa (wpAny_newObj_type (tqb {_,rfl,tqb h}) j)
  |show tqa (wpAny_newObj_type (tqa (tqb (tqb {_,rfl,tqb h}))) j)
  |show tqa (tqa (wpAny_newObj_type (tqb (tqb {_,rfl,tqb h})) j))
  |show tqa (tqa (wpAny_newObj_type (tqb {_,rfl,tqb h}) j))
end
end HT
namespace L2
open PySem PySem.Spec PyProof.Rows
abbrev TO:=St->Hp->(Option Int->Hp->Prop)->Prop
def PO (X:Cx)(e:Option Expr)(t:TO):Prop:=
 ∀(pins:List (Addr×Obj)) (s:RO) (σ:St) (H:Hp) (Q:Option Int->Hp->Prop),Inv X pins σ H s->t σ H Q->
  wpAny (model X.prog X.w) X.A (evalPart e X.env) (λu s'=>∃o H',Inv X pins σ H' s'/\IsPart u o/\Q o H') X.xe s
def Hw:TO:=λ_ H Q=>Q none H
def N7 (t:TE):TO:=λσ H Q=>t σ H λx H1=>∃i,x=.int i/\Q (some i) H1
section
variable{X:Cx}{e:Expr}{te:TE}{lo hi:Option Expr}{tl th:TO}{pos p2:Pos}
def Ig:PO X none Hw:=by
 intro pins s σ H Q I h;rw[evalPart_none];show tqb {none,H,I,.none,h}
def Ie (h:PE X e te):PO X (some e) (N7 te):=by
 intro pins s σ H Q I y;rw[evalPart_some];show aT (h pins s σ H _ I y) ?_;rintro u s1 ⟨x,H1,j,r1,B⟩;obtain(i|rfl|q):=B;obtain(t|rfl):=r1;show{some i,H1,j,.int i t,q}
def l5 (X:Cx)(r:V->Option Int->Option Int->Hp->VK->Prop):Prop:=
 ∀(pins:List (Addr×Obj)) (s:RO) (σ:St) (H:Hp) (x:V) (v j y:RJ) (lo hi:Option Int) (sl:Addr) (Q:VK),Inv X pins σ H s->RelV x v->s.heap.IsSliceOf sl j y .none->IsPart j lo->IsPart y hi->r x lo hi H Q->
  ∃T id,typeLookup (.type T) "__getitem__"=pure (some (.builtin id))/\s.TypeIs v T/\wpAny (model X.prog X.w) X.A (getItem v (.ref sl)) (EP X pins σ Q) X.xe s
def l5.or (h:l5 X r)(h':l5 X r'):l5 X (λx lo hi H Q=>r x lo hi H Q\/r' x lo hi H Q):=by
 intro pins s σ H x v y B lo hi sl Q I j hs pl pu q;rcases q with q|q
 .exact h pins s σ H x v y B lo hi sl Q I j hs pl pu q
 .exact h' pins s σ H x v y B lo hi sl Q I j hs pl pu q
def tSl (r:V->Option Int->Option Int->Hp->VK->Prop)(te:TE)(tl th:TO):TE:=λσ H Q=>te σ H λx H1=>tl σ H1 λl H2=>th σ H2 λu j=>r x l u j Q
def ug (hr:l5 X r)(he:PE X e te)(hl:PO X lo tl)(W:PO X hi th):PE X (.Subscript e (.Slice lo hi none p2) pos) (tSl r te tl th):=by
 intro pins s σ H Q I h;show Subscript_ (aT (he pins s σ H _ I h) λv s1 ⟨x,H1,J,r1,Y⟩=>?_);show wpAny_Slice (aT (hl pins s1 σ H1 _ J Y) λy s2 ⟨l,H2,L,pl,q2⟩=>aT (W pins s2 σ H2 _ L q2) λB j ⟨u,F,M,pu,q3⟩=>?_);rw[evalPart_none];show tqb ?_;have O:Inv X pins σ F {j with heap:=j.heap.push {cls:=.type "slice",data:=.fields #[y,B,.none]}}:=M.kept λb ob q=>RI _ q
 obtain(T|id|R|U|S):=hr pins {j with heap:=j.heap.push {cls:=.type "slice",data:=.fields #[y,B,.none]}} σ F x v y B l u j.heap.objs.size Q O r1 (Heap.IsSliceOf.new ..) pl pu q3
 show tail_any U R S (by with_unfolding_all rfl)
def qY (xs:List V)(lo hi:Option Int):List V:=(xs.drop (HT.aL xs.length 0 lo)).take (HT.aL xs.length xs.length hi-HT.aL xs.length 0 lo)
def n8 (xs:List V)(lo hi:Option Int):(qY xs lo hi).length<=xs.length:=by
 unfold qY;rw[SJ,TY];omega
def Ld (K:RG):V->Option Int->Option Int->Hp->VK->Prop:=λx lo hi H Q=>∃a xs,x=.ref a/\du K H a xs/\
 ¬ (HT.aL xs.length 0 lo=0/\HT.aL xs.length xs.length hi=xs.length)/\∀p,H p=none->Q (.ref p) (upd H p (.tup (qY xs lo hi)))
def Kv:l5 X (Ld X.K):=by
 intro pins s σ H x v O R lo hi sl Q I M hs pl pu h;obtain(a|xs|rfl|L|J|q):=h;cases M;obtain(y|r|B|F):=I.tuple L;have j:y.toArray.size=xs.length:=by rw[RW];show r.length.symm
 show{"tuple",_,SA.lookup,B.typeIs,?_};show HT.nX B hs pl pu (by rw[j];show J) ?_ (by rw[j];show F)
 rw[j];show{.ref s.heap.objs.size,_,I.laid (λb ob q=>RI _ q) (RN _) ?_,rfl,q _ (I.hok.fresh (RN _))};show{RU (n8 xs lo hi) F,_,(r.drop (HT.aL xs.length 0 lo)).take (HT.aL xs.length xs.length hi-HT.aL xs.length 0 lo),IsTup.new _ _}
def Om (K:RG):R2:=λx y H Q=>∃a b xs ys,x=.ref a/\y=.ref b/\du K H a xs/\du K H b ys/\xs≠[]/\xs.length+ys.length<=sizeLine/\
 (ys=[]->Q (.ref a) H)/\(ys≠[]->∀p,H p=none->Q (.ref p) (upd H p (.tup (xs++ys))))
def Vals.nil_iff (r:Vals xs us):us=[]↔xs=[]:=by
 cases r with
 |nil=>simp
 |cons _ _=>simp
def Im:bY X (binaryOp .Add) (Om X.K):=by
 intro pins s σ H x y v u Q I S U h;obtain(a|b|xs|ys|rfl|rfl|F|J|L|j|O|R):=h;cases S;cases U;obtain(M|r1|p1|_):=I.tuple F;obtain(B|r2|p2|_):=I.tuple J;show HT.JF p1 p2 (λz=>L (r1.nil_iff.mp z)) (λz=>{.ref a,H,I,rfl,O (r2.nil_iff.mp z)}) (λz=>?_) (by rw[<- r1.length,<- r2.length];show j)
 show{.ref s.heap.objs.size,_,I.laid (λb ob q=>RI _ q) (RN _) ?_,rfl,R (λw=>z (r2.nil_iff.mpr w)) _ (I.hok.fresh (RN _))};show{by rw[Sa];show j,_,r1.append r2,IsTup.new _ _}
end
def bX (n:Nat)(i:Int):Option Nat:=if 0<=i then(if i<n then some i.toNat else none) else if -(n:Int)<=i then some (i+n).toNat else none
def sC {y:Type}(xs:List y)(i:Int):Option y:=(bX xs.length i).bind λj=>xs[j]?
def w5 {n:Nat}{i:Int}{j:Nat}(h:bX n i=some j):seqIndex? i n=some j/\j<n/\-(n:Int)<=i/\i<n:=by
 unfold bX at h;by_cases y:0<=i
 .rw[if_pos y] at h;by_cases h1:i<n
  .rw[if_pos h1] at h;have e:=RQ h;show{by rw[seqIndex_of y h1,e],`a,`a,h1}
  .rw[if_neg h1] at h;cases h
 .rw[if_neg y] at h;by_cases h1:-(n:Int)<=i
  .rw[if_pos h1] at h;have e:=RQ h;show{by rw[seqIndex_neg `a h1,e],`a,h1,`a}
  .rw[if_neg h1] at h;cases h
def rh {y:Type}{xs:List y}{i:Int}{v:y}(h:sC xs i=some v):∃j,seqIndex? i xs.length=some j/\xs[j]?=some v/\j<xs.length/\-(xs.length:Int)<=i/\i<xs.length:=by
 unfold sC at h;cases e:bX xs.length i with
 |none=>rw[e] at h;cases h
 | some j=>
   rw[e] at h;obtain(h1|h2|h3|h4):=w5 e;show⟨j,h1,h,h2,h3,h4⟩
def jh (b:Expr):Prop:=∀o i,subscripted b false o i=operate [o,i] (getItem o i)
def j0 (X:Cx)(r:R2):Prop:=
 ∀(value j:Expr) (pins:List (Addr×Obj)) (s:RO) (σ:St) (H:Hp) (x y:V) (v u:RJ) (Q:VK),Inv X pins σ H s->RelV x v->RelV y u->r x y H Q->
  subscripted j false v u=operate [v,u] (getItem v u)->wpAny (model X.prog X.w) X.A (subscriptTail value j v u) (EP X pins σ Q) X.xe s
def NP (X:Cx)(id:String)(r:V->List V->Hp->VK->Prop):Prop:=
 ∀(pins:List (Addr×Obj)) (s:RO) (σ:St) (H:Hp) (x:V) (xs:List V) (v:RJ) (j:List RJ) (Q:VK),Inv X pins σ H s->RelV x v->Vals xs j->r x xs H Q->
  wpAny (model X.prog X.w) X.A (call (.builtin id) (v::j)) (EP X pins σ Q) X.xe s
section
variable{X:Cx}{a b:Expr}{ta tb:TE}{pos:Pos}
def j0.or (h:j0 X r)(h':j0 X r'):j0 X (λx y H Q=>r x y H Q\/r' x y H Q):=by
 intro value j pins s σ H x y v u Q I B F q hs;rcases q with q|q
 .exact h value j pins s σ H x y v u Q I B F q hs
 .exact h' value j pins s σ H x y v u Q I B F q hs
def yd (hr:j0 X r)(B:PE X a ta)(F:PE X b tb)(hs:jh b):PE X (.Subscript a b pos) (Ae r ta tb):=by
 intro pins s σ H Q I h;show Subscript_ (EM B F I h λv u s2 x y H2 j J L q=>hr a b pins s2 σ H2 x y v u Q j J L q (hs _ _))
def Li (K:RG):R2:=λx y H Q=>∃p xs i v,x=.ref p/\y=.int i/\cQ K H p xs/\sC xs i=some v/\Q v H
def Lg (K:RG):R2:=λx y H Q=>∃p xs i v,x=.ref p/\y=.int i/\du K H p xs/\sC xs i=some v/\Q v H
def Lh:R2:=λx y H Q=>∃z i c,x=.str z/\y=.int i/\z.length<=sizeLine/\sC z.cps.toList i=some c/\Q (.str {#[c]}) H
def IQ:j0 X (Li X.K):=by
 intro value M pins s σ H x y v u Q I W Y h hs;obtain(p|xs|i|z|rfl|rfl|U|he|q):=h;cases W;obtain(t|rfl):=Y;obtain(J|r|pl|hz):=I.list U;obtain(j|h1|h2|h3|h4|S):=rh he;obtain(w|O|L):=r.get h2;have hl:=r.length;have hn:=ju;have B:EP X pins σ Q w s:=⟨z,H,I,L,q⟩;by_cases R:0<=i
 .have F:i.toNat=j:=by
   rw[seqIndex_of R S] at h1;show RQ h1
  show item_listR pl.isList R `a (by rw[F];simpa using O) B hs
 .have F:(i+(J.toArray.size:Int)).toNat=j:=by
   rw[seqIndex_neg `a h4] at h1
   rw[RW,<- hl];show RQ h1
  show subscriptTail_builtinR pl.isList.typeIs slot_list_getitem.lookup
   (wpAny_getItem_list_neg pl.isList `a (by rw[RW]<;>omega) `a (by rw[F];simpa using O) ⟨rfl,B⟩) hs
def Mr:j0 X (Lg X.K):=by
 intro value J pins s σ H x y v u Q I R S h hs;obtain(p|xs|i|z|rfl|rfl|M|he|q):=h;cases R;obtain(t|rfl):=S;obtain(O|r|pl|W):=I.tuple M;obtain(j|h1|h2|h3|h4|U):=rh he;obtain(w|L|F):=r.get h2;have hl:=r.length;have hn:=ju;have B:EP X pins σ Q w s:=⟨z,H,I,F,q⟩;show subscriptTail_builtinR pl.typeIs slot_tuple_getitem.lookup
  (getItem_tuple pl `a `a (by rw[RW,<- hl];show h1) (~~~L) ⟨rfl,B⟩) hs
def Ms:j0 X Lh:=by
 intro value B pins s σ H x y v u Q I J L h hs;obtain(z|i|c|rfl|rfl|M|he|q):=h;obtain(t|rfl):=J;obtain(O|rfl):=L;obtain(j|h1|h2|h3|h4|F):=rh he;have hl:z.cps.toList.length=z.length:=by simp[Str.length]
 rw[hl] at h1 h4 F;have hn:=ju;show tail_any (typeIs_str s z t) slot_str_getitem.lookup (getItem_str (by
  have e1:decide (i < -(2^63:Int))=false:=decide_eq_false `a
  have e2:decide (i≥2^63)=false:=decide_eq_false `a
  rw[e1,e2,Bool.or_false]) (by rw[h1];simpa using h2) {.str {#[c]},H,I.tok _,{_,rfl},q}) hs
def Lj (K:RG):R2:=λx y H Q=>Li K x y H Q\/Lg K x y H Q\/Lh x y H Q
def Mv:j0 X (Lj X.K):=IQ.or (Mr.or Ms)
def yq (its:List RJ)(n j:Nat)(u:RJ):Obj.mapSeq (·.setIfInBounds j u) {cls:=.type "list",data:=.seq its.toArray n}={cls:=.type "list",data:=.seq (its.set j u).toArray n}:=by
 simp[Obj.mapSeq]
def Inv.lst (I:Inv X pins σ H s)(h:H p=some (.lst xs)) :
 ∃(j:List RJ) (n:Nat),Vals xs j/\s.heap.get? p=some {cls:=.type "list",data:=.seq j.toArray n}/\xs.length<=sizeLine:=by
 obtain(z|j|n|r|e):=I.hok p _ h;show⟨j,n,r,e,z⟩
def Inv.lstUpd {pins:List (Addr×Obj)}{σ:St}{H:Hp}{s:RO}{p:Addr}{xs ys:List V}{j its':List RJ}{n n':Nat}{f:Obj->Obj}(I:Inv X pins σ H s)(h:H p=some (.lst xs))
 (ho:s.heap.get? p=some {cls:=.type "list",data:=.seq j.toArray n}) (hf:f {cls:=.type "list",data:=.seq j.toArray n}={cls:=.type "list",data:=.seq its'.toArray n'}) (r:Vals ys its') (hz:ys.length<=sizeLine) (t:Nat) :
 Inv X pins σ (upd H p (.lst ys)) {s with heap:=s.heap.update p f,toks:=t}:=by
 have e:(s.heap.update p f).get? p=some {cls:=.type "list",data:=.seq its'.toArray n'}:=by
  rw[SD f ho (by rw[hf]<;>rfl),hf]
 show I.write (by rw[h];trivial) (.inl rfl) (λb u y q=>(Sl _ _ (SK y)).trans q) {_,e} ?_
 show⟨hz,its',n',r,e⟩
def FJ:V->V->V->Hp->(Hp->Prop)->Prop:=λo i v H Q=>∃p xs k j,o=.ref p/\i=.int k/\H p=some (.lst xs)/\bX xs.length k=some j/\Q (upd H p (.lst (xs.set j v)))
def set_list:EY X FJ:=by
 intro pins s σ H o i v U S u Q I ro O R h;obtain(p|xs|k|j|rfl|rfl|J|L|q):=h;cases ro;obtain(t|rfl):=O;obtain(y|n|r|ho|M):=I.lst J;obtain(h1|h2|h3|h4):=w5 L;have hl:=r.length;have hn:=ju;have B:Inv X pins σ (upd H p (.lst (xs.set j v))) {s with heap:=s.heap.update p (Obj.mapSeq (·.setIfInBounds j u))}:=
  I.lstUpd J ho (yq y n j u) (r.set R j) (by rw[List.length_set];show M) s.toks
 by_cases F:0<=k
 .have hk:k.toNat=j:=by
   rw[seqIndex_of F h4] at h1;show RQ h1
  show PySem.W.ki_setAt ho F `a (by rw[RW,<- hl];show h4) (by rw[hk];show{_,B,q})
 .have hk:(k+(y.toArray.size:Int)).toNat=j:=by
   rw[seqIndex_neg `a h3] at h1
   rw[RW,<- hl];show RQ h1
  show PySem.W.ki_setBack ho `a (by rw[RW,<- hl];show h3) `a (by rw[hk];show{_,B,q})
def tX (lo hi:Option Int)(n:Nat):(sliceBounds lo hi none n).1=((HT.aL n 0 lo:Nat):Int)/\(sliceBounds lo hi none n).2.1=((HT.aL n n hi:Nat):Int)/\(sliceBounds lo hi none n).2.2=1:=by
 show{?_,?_,rfl}
 .cases lo with
  |none=>simp[sliceBounds,HT.aL]
  | some i=>
    dsimp[sliceBounds,HT.aL,Option.getD_none,show(1:Int) > 0 by decide,if_true]
    by_cases h:i<0
    .simp only[h,if_true]<;>omega
    .simp only[h,if_false]<;>omega
 .cases hi with
  |none=>simp[sliceBounds,HT.aL]
  | some i=>
    dsimp[sliceBounds,HT.aL,Option.getD_none,show(1:Int) > 0 by decide,if_true]
    by_cases h:i<0
    .simp only[h,if_true]<;>omega
    .simp only[h,if_false]<;>omega
def sI (j:List RJ)(lo hi:Option Int):slicePick j.toArray lo hi none=((j.drop (HT.aL j.length 0 lo)).take (HT.aL j.length j.length hi-HT.aL j.length 0 lo)).toArray:=by
 obtain(h1|h2|h3):=tX lo hi j.toArray.size;unfold slicePick;rw[h1,h2,h3];dsimp[sliceRange_one,pick_run,RW]<;>rfl
def Le (K:RG):V->Option Int->Option Int->Hp->VK->Prop:=λx lo hi H Q=>∃a xs,x=.ref a/\cQ K H a xs/\∀p,H p=none->Q (.ref p) (upd H p (.lst (qY xs lo hi)))
def HG:l5 X (Le X.K):=by
 intro pins s σ H x v M O lo hi sl Q I L hs pl pu h;obtain(a|xs|rfl|B|q):=h;cases L;obtain(J|r|y|F):=I.list B;have j:=r.length;show{"list",_,slot_list_getitem.lookup,y.isList.typeIs,?_};show wpAny_getItem_list_slice y.isList hs pl pu .none `s ?_ (by rw[RW]<;>omega)
 rw[sI,<- j];show{.ref s.heap.objs.size,_,I.laid (λb ob q=>RI _ q) (RN _) ?_,rfl,q _ (I.hok.fresh (RN _))};show{RU (n8 xs lo hi) F,_,0,(r.drop (HT.aL xs.length 0 lo)).take (HT.aL xs.length xs.length hi-HT.aL xs.length 0 lo),RX _ rfl}
def vg:cn X (.builtin "len") (λxs H Q=>∃p ys,xs=[.ref p]/\(cQ X.K H p ys\/du X.K H p ys)/\Q (.int ys.length) H):=by
 intro pins s σ H xs M Q I r h;obtain(p|ys|rfl|y|q):=h;obtain(u|rfl|L):=vals1 r;cases L;have hn:=ju;rcases y with y|y
 .obtain(B|F|pl|J):=I.list y;have j:=F.length;show Calls.call_len_list pl.isList (by dsimp[RW]<;>omega) {.int ys.length,H,I.tok _,{s.toks+1,by rw[RW,j]},q}
 .obtain(B|F|pl|J):=I.tuple y;have j:=F.length;show len_tuple pl (by dsimp[RW]<;>omega) {.int ys.length,H,I.tok _,{s.toks+1,by rw[RW,j]},q}
def vf:cn X (.builtin "len") (λxs H Q=>∃z,xs=[.str z]/\z.length<=sizeLine/\Q (.int z.length) H):=by
 intro pins s σ H xs y Q I r h;obtain(z|rfl|j|q):=h;obtain(u|rfl|t|rfl):=vals1 r;have hn:=ju;show len_str `a {.int z.length,H,I.tok _,{_,rfl},q}
def cn.or (h:cn X f r)(h':cn X f r'):cn X f (λxs H Q=>r xs H Q\/r' xs H Q):=by
 intro pins s σ H xs j Q I rs q;rcases q with q|q
 .exact h pins s σ H xs j Q I rs q
 .exact h' pins s σ H xs j Q I rs q
def ve:cn X (.type "list") (λxs H Q=>∃p ys,xs=[.ref p]/\(cQ X.K H p ys\/du X.K H p ys)/\∀l,H l=none->Q (.ref l) (upd H l (.lst ys))):=by
 intro pins s σ H xs S Q I r h;obtain(p|ys|rfl|L|q):=h;obtain(u|rfl|R):=vals1 r;cases R;have F:∀(j:List RJ),Vals ys j->ys.length<=sizeLine->∀(h':Heap) (y:Nat),(∀b o',s.heap.get? b=some o'->h'.get? b=some o')->
  h'.get? s.heap.objs.size=some {cls:=.type "list",dict:=none,data:=.seq j.toArray y,slots:=#[]}->EP X pins σ Q (.ref s.heap.objs.size) {s with heap:=h'}:=λj B M h' y kp e=>
  {.ref s.heap.objs.size,_,I.laid kp (RN _) (show dY X.prog X.w _ h' _ (.lst ys) from⟨M,j,y,B,e⟩),rfl,q _ (I.hok.fresh (RN _))}
 rcases L with L|L
 .obtain(j|B|pl|M):=I.list L;have J:=B.length;obtain(o|ho|O|n|hd):=pl.isList;show call_list_seq p (.inl rfl) ho O hd (λh' y kp e=>F j B M h' y kp e) (by dsimp[RW]<;>omega)
 .obtain(j|B|pl|M):=I.tuple L;have J:=B.length;obtain(o|ho|O|n|hd):=pl;show call_list_seq p (.inr rfl) ho O hd (λh' y kp e=>F j B M h' y kp e) (by dsimp[RW]<;>omega)
def sL:cn X (.type "tuple") (λxs H Q=>∃p ys,xs=[.ref p]/\((cQ X.K H p ys/\∀l,H l=none->Q (.ref l) (upd H l (.tup ys)))\/(du X.K H p ys/\Q (.ref p) H))):=by
 intro pins s σ H xs R Q I r h;obtain(p|ys|rfl|h):=h;obtain(u|rfl|O):=vals1 r;cases O;rcases h with⟨y,q⟩|⟨y,q⟩
 .obtain(j|B|pl|L):=I.list y;have J:=B.length;show call_tuple_list pl.isList (λh' kp=>?_) (by dsimp[RW]<;>omega)
  have F:=I.kept (t':=s.toks) kp;have M:Inv X pins σ (upd H h'.objs.size (.tup ys)) {s with heap:=h'.push {cls:=.type "tuple",data:=.seq j.toArray}}:=
   F.laid (λb o e=>RI _ e) (RN _) ({L,j,B,IsTup.new _ _})
  show{.ref h'.objs.size,_,M,rfl,q _ (F.hok.fresh (RN _))}
 .obtain(j|B|pl|L):=I.tuple y;show call_tuple_same pl {.ref p,H,I,rfl,q}
def PJ (K:RG)(T:String)(x:V)(H:Hp):Prop:=match x with
 |.str _=>T="str"
 |.int _=>T="int"
 |.ref p=>(T="list"/\∃xs,cQ K H p xs)\/(T="tuple"/\∃o,K.lookup p=some o/\o.cls=.type "tuple"/\o.dict=none)\/
  (T="dict"/\((∃kvs,H p=some (.dK kvs))\/(∃kvs,H p=some (.dT kvs))\/∃es,H p=some (.dn es)))\/(T="set"/\∃S n,H p=some (.set S n))
 |_=>False
def Km (I:Inv X pins σ H s)(r:RelV x v)(ty:PJ X.K T x H) :
 s.TypeIs v T/\∀a,v=.ref a->∃ob,s.heap.get? a=some ob/\ob.dict=none:=by
 cases x with
 | str z=>
   obtain(t|rfl):=r;cases (ty);show{typeIs_str s z t,λ_ e=>nomatch e}
 | int i=>
   obtain(t|rfl):=r;cases (ty);show{typeIs_int s i t,λ_ e=>nomatch e}
 | ref p=>
   cases r;rcases ty with⟨rfl,xs,B⟩|⟨rfl,o,hk,y,hd⟩|⟨rfl,hk⟩|⟨rfl,S,n,hk⟩
   .obtain(F|_|pl|_):=I.list B;show{pl.isList.typeIs,λa e=>?_};cases e;obtain(o|n|e|c|hd|_):=pl;show⟨o,e,hd⟩
   .refine{{o,I.kIn p o hk,y},λa e=>?_};cases e;show{o,I.kIn _ o hk,hd}
   .have z:∃o,s.heap.get? p=some o/\o.ExactDict:=by
     rcases hk with⟨j,hk⟩|⟨j,hk⟩|⟨es,hk⟩
     rotate_left 2
     .obtain(_|_|o|e|ex|_):=I.hok p _ hk;show⟨o,e,ex⟩
     .obtain(_|_|_|_|o|_|_|e|ex|_):=I.hok p _ hk;show⟨o,e,ex⟩
     .obtain(_|_|_|_|o|_|_|e|ex|_):=I.hok p _ hk;show⟨o,e,ex⟩
    obtain(o|e|ex):=z;show{⟨o,e,ex.1⟩,λa e2=>?_};cases e2;show⟨o,e,ex.2.1⟩
   .obtain(o|_|_|_|e|ex|_):=I.hok p _ hk;show{⟨o,e,ex.1⟩,λa e2=>?_};cases e2;show⟨o,e,ex.2.1⟩
 |_=>show False.elim ty
def tBM (K:RG)(T:String)(r:V->List V->Hp->VK->Prop)(to:TE)(t:TA):TE:=λσ H Q=>to σ H λx H1=>PJ K T x H1/\t σ H1 λxs H2=>r x xs H2 Q
variable{o e:Expr}{es:List Expr}{to:TE}{t:TA}{name:Str}{apos cpos:Pos}{T id:String}{r:V->List V->Hp->VK->Prop}
def sP (S:PlainAttrs T)(slot:Slot T name id)(J:typeOf (.builtin id)=pure (.type "method_descriptor"))(hm:NP X id r)(ho:PE X o to)(R:PA X (e::es) t)
 (y:attributeBase o name X.env (eval o X.env)=eval o X.env:=by rfl)
 (F:((backTo cpos (starEach (e::es) X.env)).all (λx=>!x.1)&&(backToKw cpos (keywordEach [] X.env)).all (λx=>x.1.isSome)
  && decide ((e::es).length+([]:List Keyword).length+(if ([]:List Keyword).isEmpty then 0 else 1)<30))=true:=by rfl)
 (B:(apos.endLine==cpos.line)=true:=by rfl) (hs:starEach (e::es) X.env=(false,eval e X.env)::starEach es X.env:=by rfl) (j:(backTo cpos (starEach es X.env)).any (·.1)=false:=by rfl) :
 PE X (.Call (.Attribute o name apos) (e::es) [] cpos) (tBM X.K T r to t):=by
 intro pins s σ H Q I h;show wpAny_Call_method_late y F B rfl (aT (ho pins s σ H _ I h) λv s1 ⟨x,H1,L,r1,ty,U⟩=>?_);obtain(h1|h2):=Km L r1 ty;show{T,id,S,slot,J,h1,h2,?_};have M:=R cpos pins s1 σ H1 _ L U;rw[hs] at M ⊢;show Calls.callWith_builtin (by change(false||(backTo cpos (starEach es X.env)).any (·.1))=false;rw[j]<;>rfl) (Calls.evalArgs_plain ?_)
 show aT M (by rintro Y s2 ⟨vs,H2,O,r2,W⟩;show hm pins s2 σ H2 x vs v Y Q O r1 r2 W)
end
def MtM (X:Cx)(id:String)(r:V->List V->Hp->VK->Prop):Prop:=
 ∀(pins:List (Addr×Obj)) (s:RO) (σ:St) (H:Hp) (x:V) (xs:List V) (v:RJ) (j:List RJ) (Q:VK),Inv X pins σ H s->RelV x v->Vals xs j->r x xs H Q->
  wpAny (model X.prog X.w) X.A (call (.builtin id) (v::j)) (EP X pins σ Q) X.xe s
def Vals.one:∀{x:V}{us:List RJ},Vals [x] us->∃u,us=[u]/\RelV x u
 |_,_,.cons r .nil=>{_,rfl,r}
noncomputable def Vals.rep (h:Vals xs us):∀k:Nat,Vals (List.replicate k xs).flatten (List.replicate k us).flatten
 |0=>.nil
 | k+1=>by
   rw[TR,TR,Ul,Ul];show Vals.append h (Vals.rep h k)
theorem foldl_rep (j:List RJ):∀(k:Nat) (acc:List RJ),
 List.foldl (λx1 x2=>x1++x2) acc.toArray (List.replicate k j.toArray)=(acc++(List.replicate k j).flatten).toArray
 |0,acc=>`s
 | k+1,acc=>by
   have e:acc.toArray++j.toArray=(acc++j).toArray:=`s
   have e2:(acc++j)++(List.replicate k j).flatten=acc++(List.replicate (k+1) j).flatten:=by
    rw[TR,Ul,TJ]
   rw[<- e2,<- foldl_rep j k (acc++j),<- e,TR,List.foldl_cons]
section
variable{X:Cx}{pins:List (Addr×Obj)}{σ:St}{H:Hp}{s:RO}{l b:Addr}{xs ys zs:List V}
def Inv.lset {j its':List RJ}(I:Inv X pins σ H s)(y:H l=some (.lst xs))
 (e:s.heap.get? l=some {cls:=.type "list",data:=.seq j.toArray n}) (hf:f j.toArray=its'.toArray) (J:Vals ys its') (hz:ys.length<=sizeLine) :
 Inv X pins σ (upd H l (.lst ys)) {s with heap:=s.heap.update l (Obj.mapSeq f),toks:=t'}:=by
 have q:=PySem.IsL.update e f;rw[hf] at q;show I.write (by rw[y];show trivial) (.inl rfl) (λL u B F=>(Sl s.heap (Obj.mapSeq f) (SK B)).trans F) {_,q} ?_
 show{hz,its',_,J,q}
def Inv.lnew (I:Inv X pins σ H s)(j:Vals ys its)(hz:ys.length<=sizeLine) :
 Inv X pins σ (upd H s.heap.objs.size (.lst ys)) {s with heap:=s.heap.push {cls:=.type "list",data:=.seq its.toArray},toks:=t'}:=
 I.laid (λ_ _ q=>RI _ q) (RN _) {hz,its,0,j,RX _ rfl}
def Inv.fresh (I:Inv X pins σ H s):H s.heap.objs.size=none:=I.hok.fresh (RN _)
def Inv.lstM (I:Inv X pins σ H s)(y:H l=some (.lst xs)):xs.length<=sizeLine/\∃(j:List RJ) (n:Nat),Vals xs j/\xs.length=j.length/\s.heap.get? l=some {cls:=.type "list",data:=.seq j.toArray n}:=by
 obtain(z|j|n|r|e):=I.hok l _ y;show⟨z,j,n,r,r.length,e⟩
def DH (h:n<=sizeLine):Builtin.List.listTooLong n=false:=by
 show decide_eq_false `a
end
section
variable{X:Cx}
def HY:V->List V->Hp->VK->Prop:=λx j H Q=>∃l xs y,x=.ref l/\j=[y]/\H l=some (.lst xs)/\xs.length<sizeLine/\Q .non (upd H l (.lst (xs++[y])))
def mz:MtM X "list.append" HY:=by
 intro pins s σ H x S v R Q I M L h;obtain(l|xs|y|rfl|rfl|B|O|q):=h;cases M;obtain(u|rfl|J):=L.one;obtain(z|j|n|r|hl|e):=I.lstM B;show call_meets F.slot_list_append {_,e,rfl} F.entry_list_append (F.args_list_append_2 _ _) (PySem.list_append l j.toArray n u (by rw[RW];omega)) {e,?_}
 show{.non,_,I.lset B e `s (r.append (.cons J .nil)) ?_,rfl,q}
 rw[Sa,T1];omega
def QC:R2:=λx y H Q=>∃l b xs zs,x=.ref l/\y=.ref b/\H l=some (.lst xs)/\H b=some (.lst zs)/\xs.length+zs.length<=sizeLine/\∀p,H p=none->Q (.ref p) (upd H p (.lst (xs++zs)))
def LM:bY X (binaryOp .Add) QC:=by
 intro pins s σ H x y v u Q I M O h;obtain(l|b|xs|zs|rfl|rfl|J|F|R|q):=h;cases M;cases O;obtain(z|B|n|r|hl|e):=I.lstM J;obtain(S|j|n2|r2|L|e2):=I.lstM F;show PySem.P.add_list e e2 ?_ (by rw[RW,RW];omega)
 have ea:B.toArray++j.toArray=(B++j).toArray:=`s
 rw[ea];show{.ref _,_,I.lnew (r.append r2) (by rw[Sa];omega),rfl,q _ I.fresh}
def QA:R2:=λx y H Q=>∃l k xs,x=.ref l/\y=.int k/\H l=some (.lst xs)/\-(2^63)<=k/\k<2^63/\xs.length*k.toNat<=sizeLine/\
 ∀p,H p=none->Q (.ref p) (upd H p (.lst (List.replicate k.toNat xs).flatten))
def len_rep {y:Type}(xs:List y)(k:Nat):(List.replicate k xs).flatten.length=k*xs.length:=by
 induction k with
 |zero=>simp
 |succ k j=>rw[TR,Ul,Sa,j,Nat.succ_mul,Nat.add_comm]
def LH:bY X (binaryOp .Mult) QA:=by
 intro pins s σ H x y v u Q I W Y h;obtain(l|k|xs|rfl|rfl|U|h1|h2|R|q):=h;cases W;obtain(t|rfl):=Y;obtain(z|j|n|r|hl|e):=I.lstM U;have M:j.toArray.size*k.toNat<=sizeLine:=by rw[RW,<- hl];show R
 have J:¬ j.toArray.size*k.toNat > (2^63-1) / 8:=by
  have:(sizeLine:Nat)<=(2^63-1) / 8:=`d
  omega
 have L:¬ (!Builtin.List.listFitsIndex k)=true:=by
  rw[fitsIndex_both h1 h2];show R6
 have B:¬ Builtin.List.listTooLong (j.toArray.size*k.toNat)=true:=by
  rw[DH M];show R6
 have O:List.foldl (λx1 x2=>x1++x2) #[] (List.replicate (if j.toArray.isEmpty=true then 0 else k.toNat) j.toArray)=(List.replicate k.toNat j).flatten.toArray:=by
  have S:=λm=>by
   have:=foldl_rep j m [];rw[T2] at this;show this
  rw[S];cases j with
  |nil=>simp
  |cons a r'=>rw[if_neg `s]
 show wpAny_binaryOp_repeat_ref `d {_,e,rfl} (λs'=>typeIs_int s' k t) noFill_list_mul F.fills_int_mul F.slot_int_rmul repeat_list F.slot_int_index.lookup
  (call_meets F.slot_int_rmul (typeIs_int s k t) F.entry_int_rmul (F.args_int_rmul_2 _ _) (int___rmul___int_list k t l j.toArray n)
   {e,rfl,{_,e,rfl},call_meets F.slot_list_mul {_,e,rfl} F.entry_list_mul (F.args_list_mul_2 _ _) (AutoListH.list___mul___list_int_3 l j.toArray n k t L J B) {e,?_}})
 rw[O];show{.ref _,_,I.lnew (r.rep k.toNat) (by rw[len_rep,Nat.mul_comm];show R),rfl,q _ I.fresh}
end
end L2
namespace Att
open PySem PySem.W PySem.Calls PyProof.Rows
def pU:∀(ns:List Int) (vs:List RJ),WellAll P h vs (ns.map WData.int)->Ug vs ns:=by
 intro ns;induction ns with
 | nil=>
   intro vs w;rw[List.map_nil] at w;cases w;show .nil
 | cons n ns j=>
   intro vs w;rw[S3] at w;cases w with
   | cons a b=>
     cases a;show .cons _ _ (j _ b)
def Au {l:OpenLaw}(hn:l.most=some n)
 (j:l.row.toRowW.claim.pre args=true) (J:WellAll P h vals args) :
 ∃a vs ns,vals=[Value.ref a]/\args=[WData.list (ns.map WData.int)]/\h.get? a=some {cls:=.type "list",data:=.seq vs.toArray}/\Ug vs ns/\ns.length<=n:=by
 have I:WShape.hasAll [] args [.list .int]=true:=(pre_splitW j).1;have L:l.pre.holds [] {args:=args}=true:=(pre_splitW j).2;obtain(d|r|rfl|h1|h2):=hasAllW_cons I;obtain rfl:=hasAllW_nil h2;obtain(xs|rfl|h3):=hasW_list h1;obtain(ns|rfl):=items_int h3;have B:ns.length<=n:=by
  have h4:(WTm.not (.lt (.lit (.int (n:Int))) (.len (.arg 0)))).holds [] {args:=[.list (ns.map .int)]}=true:=by
   have h4:=(holds_andW L).1;rw[hn] at h4;show h4
  have F:=condW_of h4 (w_not (w_lt w_lit (w_len_list (w_arg rfl))));rw[RK] at F;show Nat.le_of_not_lt λq=>?_;first
   |(rw[decide_eq_true q'] at F;show absurd F `d)
   |(simp at F;omega)
 cases J with
 | cons M w2=>
   cases w2;cases M with
   |list ho y=>show{_,_,ns,rfl,rfl,ho,pU ns _ y,B}
def AG (l:OpenLaw)(args:List WData):l.row.toRowW.claim.post args (.bool true) args=true:=
 postW_of
  (show WShape.has [] (.bool true) .bool=true by first|rfl|decide|simp[WShape.has,WShape.arms,WShape.armsAll])
  (w_eq_bool (w_res rfl) w_lit) rfl
def attach_call {l:OpenLaw}
 (hn:l.most=some n) (M:d.params.defaults=[])
 (call:∀(w:Sr) (s₀ j:RO) (mg S:Str->Option RJ) (fa:Addr) (o:Obj) (pm cd y:RJ) (a:Addr) (vs:List RJ) (ns:List Int),
  Ground q loose [] XP w s₀ mg S j.heap->YP w j.heap->
  j.heap.get? fa=some o->o.data=.func (docDef d.name d.params d.body d.scope pm cd y)->j.heap.CodeRec cd d.name->mg d.name=some (.ref fa)->
  j.heap.get? a=some {cls:=.type "list",data:=.seq vs.toArray}->Ug vs ns->ns.length<=n->j.gens=#[]->
  codeAny (model l.prog w) callerA (.call (.ref fa) {[.ref a],[]}) (λr s'=>r=.ok (.ret (.bool true))/\OldK j.heap s'.heap/\s'.os=j.os/\AllBare s'.gens) j) :
 WalkO q loose XP YP l.row.toRowW d [] (λf vs=>PySem.call f vs):=by
 intro w s₀ j mg S G Y fa o pm cd y dV kV ho hd L W O hg U vals as J hlay hrd R hlo;obtain rfl:dV=.none:=Dflts.none W M;obtain rfl:kV=.none:=Dflts.noKw W;obtain(a|vs|ns|rfl|rfl|I|B|F):=Au hn J R;show enter_call (codeAny_mono (call w s₀ j mg S fa o pm cd y a vs ns G Y ho (fd_plain hd) L O I B F hg) λr s' hq=>?_);obtain(rfl|h2|h3|h4):=hq;show{.inl {.bool true,.bool true,[],rfl,λ_=>rfl,.bool true,AG l _,λ_=>{List.Pairwise.nil,λ_ hm=>(nomatch hm)}},h2,h3,h4}
end Att
namespace L2
open PySem PySem.Spec PyProof.Rows
noncomputable def rq:∀{vs:List RJ}{ns:List Int},Ug vs ns->Vals (ns.map V.int) vs
 |_,_,.nil=>.nil
 |_,_,.cons n t h=>.cons ⟨t,rfl⟩ (rq h)
def ze (H:Hp):Prop:=∀b,H b=none\/∃o xs,H b=some (.frz o (.lst xs))
def D4 {K:RG}
 (KX:K.In s₁.heap) (M:s₁.heap.Ns mainGlobals mg) (j:s₁.heap.Ns builtinsNs mb) (hbb:∀x:Str,x≠"__name__"->mb x=bootBuiltins x) (L:s₁.heap.NoLimit) (hg:s₁.gens=#[])
 (Y:s₁.heap.get? a=some {cls:=.type "list",data:=.seq vs.toArray}) (hi:Ug vs ns) (hl:ns.length<=sizeLine) (hr:c9 k callerA)
 (F:∀base:Heap,K.In base->base.Ns mainGlobals mg->lZ P w K mg base CX k fa fd [x] sp) (I:∀(s:RO) (u:RJ),BindsTo s fd {[u],[]} [(x,u)])
 (hsp:∀H:Hp,ze H->cQ K H a (ns.map V.int)->sp [.ref a] H (λv _=>v=.bl true) λ_ _ _=>False)
 (hCX:∀H e s',CX [] H s₁ (λ_ _ _=>False) e s'->False) :
 codeAny (model P w) callerA (.call (.ref fa) {[.ref a],[]}) (λr s'=>r=.ok (.ret (.bool true))/\OldK s₁.heap s'.heap/\s'.os=s₁.os/\AllBare s'.gens) s₁:=by
 have rv:=rq hi;have R:=hi.length;have B:∀H:Hp,ze H->cQ K H a (ns.map V.int)->d8 P w H s₁.heap->(∀b,H b≠none->b=a)->(H a≠none->K.lookup a=none)->
  codeAny (model P w) callerA (.call (.ref fa) {[.ref a],[]}) (λr s'=>r=.ok (.ret (.bool true))/\OldK s₁.heap s'.heap/\s'.os=s₁.os/\AllBare s'.gens) s₁:=by
  intro H hO hS hok hA hK;have hX:∀{b:Addr}{o:Obj},s₁.heap.get? b=some o->H b=none->(mJ s₁.heap H).get? b=some o:=λe n=>El e n;have noA:∀{b:Addr}{o:Obj}{es:Array S4}{U:Nat},s₁.heap.get? b=some o->o.data=.dict es U->H b=none:=λ{b o es U} e d=>by
   cases q:H b with
   |none=>rfl
   | some u=>
     have e':=hA b (by rw[q];simp)
     subst e';rw[Y] at e;cases e;have d':=d;cases d'
  have y:∀{b:Addr}{m:Str->Option RJ},s₁.heap.Ns b m->(mJ s₁.heap H).Ns b m:=λ{b m} ⟨o,es,U,e,d,r⟩=>{o,es,U,hX e (noA e d),d,r};have J:=λb o e=>hX (KX b o e) (by
   cases q:H b with
   |none=>rfl
   | some u=>
     have e':=hA b (by rw[q];simp)
     subst e';rw[hK (by rw[q];simp)] at e;cases e)
  have hM:Mod K mg (mJ s₁.heap H):={J,y M,{mb,y j,hbb},let⟨mc,h1,h2⟩:=L;{mc,y h1,h2}}
  have e0:zk P w K mg (mJ s₁.heap H) callerA [] s₁ H:={rfl,hM,λb o e=>Ip e,Nat.le_of_eq (Bt _ _),trivial,λb j=>absurd (show b∈([]:List Addr) from j) `s,hok,.of_eq hg}
  show codeAny_mono ((F _ J (y M)).run callerA [] s₁ H {[.ref a],[]} [.ref a] [.ref a] _ _ hr e0 (I s₁ (.ref a)) (.cons rfl .nil) (hsp H hO hS)) λr s' h=>?_;cases r with
  |error e=>show(hCX H e s' h).elim
  | ok fl=>
    cases fl with
    |next=>show False.elim h
    |brk=>show False.elim h
    |cont=>show False.elim h
    | ret u=>
      obtain(v|H'|os|bare|un|O|r'|q):=h;have q':=q;subst q';obtain rfl:u=Value.bool true:=r';show{rfl,OldK.of_keep λb o e=>?_,os,bare};cases q:H b with
      |none=>show un.keep b o e q (by intro z;show absurd (show b∈([]:List Addr) from z) `s) `s
      | some u=>
        rcases hO b with z|⟨ob,xs,z⟩
        .rw[q] at z;cases z
        .have z2:=un.frzs b ob _ z;obtain(e1|_):=hok b _ z;obtain(e2|_):=O b _ z2;rw[e] at e1;cases e1;show e2
 cases hk:K.lookup a with
 | some o=>
   have e:=KX a o hk;rw[Y] at e;cases e;show B (λ_=>none) (λ_=>.inl rfl) (.inr {_,vs.toArray,_,hk,rfl,rfl,rfl,by rw[RW,R];show hl,by simpa using rv}) (λb u z=>by have S:=z;cases S) (λb z=>absurd rfl z) λz=>absurd rfl z
 | none=>
   show B (λb=>if b=a then some (.frz {cls:=.type "list",data:=.seq vs.toArray} (.lst (ns.map V.int))) else none) (λb=>?_) (.inl (.inr {{cls:=.type "list",data:=.seq vs.toArray},if_pos rfl})) (λb u z=>?_) (λb z=>?_) λ_=>hk
   .by_cases j:b=a
    .exact .inr {_,_,if_pos j}
    .exact .inl (if_neg j)
   .by_cases j:b=a
    .have S:=(if_pos j).symm.trans z;cases S;subst j;show{Y,by rw[RK];show hl,vs,_,rv,Y}
    .have S:=(if_neg j).symm.trans z;cases S
   .by_cases j:b=a
    .exact j
    .exact absurd (if_neg j) z
def G9 {l:PySem.W.OpenLaw}{K:TV->RG}{CX:Sr->vK}{sp:Sr->Sp}
 (hn:l.most=some n) (O:n<=sizeLine) (L:d.params.defaults=[]) (hr:c9 k callerA)
 (hY:∀(w:Sr) (h:Heap),YP w h->(K w.params).In h)
 (F:∀(w:Sr) (mg:Str->Option RJ) (fa:Addr) (h:Heap),(K w.params).In h->h.Ns mainGlobals mg->mg d.name=some (.ref fa)->
  ∃fd:FuncData,(∀(s:RO) (u:RJ),BindsTo s fd {[u],[]} [(x,u)])/\
   ∀base:Heap,(K w.params).In base->base.Ns mainGlobals mg->lZ l.prog w (K w.params) mg base (CX w) k fa fd [x] (sp w))
 (R:∀(w:Sr) (H:Hp) (a:Addr) (ns:List Int),ns.length<=n->ze H->cQ (K w.params) H a (ns.map V.int)->sp w [.ref a] H (λv _=>v=.bl true) λ_ _ _=>False)
 (J:∀(w:Sr) (H:Hp) (s:RO) (e:RJ) (s':RO),CX w [] H s (λ_ _ _=>False) e s'->False) :
 PySem.W.WalkO q loose XP YP l.row.toRowW d [] (λf vs=>PySem.call f vs):=by
 show Att.attach_call hn L λw s₀ I mg mb fa o pm cd U a vs ns G Y ho hd hcd M B y j hg=>?_;have S:=hY w _ Y;obtain(fd|hb|hF):=F w mg fa _ S G.T.g M;show D4 S G.T.g G.T.b G.T.builtins G.T.nolimit hg B y (RU j O) hr hF hb (λH hO hS=>R w H a ns j hO hS) λH e s'=>J w H I e s'
noncomputable def eL (s:Stmt):Arguments:=match s with
 |.FunctionDef _ a _ _ _ _ _ _ _ _=>a
 |_=>{posonlyargs:=[],args:=[],vararg:=none,kwonlyargs:=[],kw_defaults:=[],kwarg:=none,defaults:=[]}
noncomputable def cW (s:Stmt):List Stmt:=match s with
 |.FunctionDef _ _ b _ _ _ _ _ _ _=>b
 |_=>[]
noncomputable def bh (s:Stmt):Scope:=match s with
 |.FunctionDef _ _ _ _ _ _ sc _ _ _=>sc
 |_=>{kind:=.function,names:=[],isGenerator:=false,isCoroutine:=false}
abbrev E0:XK:=λ_ _ _=>False
structure xO (K:RG) (x qual:Str) (st:Stmt) (f:Addr) (fd:FuncData):Prop where
 ex:∃(oc:RJ) (od:Option Addr) (kV doc pm:RJ) (an:Option Addr) (cdv ct:RJ) (osl:Array (Option RJ)),
  fd=PySem.W.fnOf x qual (eL st) (cW st) (bh st) .none kV doc pm an cdv ct/\K.lookup f=some {oc,od,.func fd,osl}/\PySem.W.codeIn K cdv qual=true
 kp:PySem.W.keepIn K (.ref f)=true
section
variable{P:Sx}{w:Sr}{K:RG}{mg:Str->Option RJ}{base:Heap}
def ME {x qual:Str}{st:Stmt}{f:Addr}{oc:RJ}{od F:Option Addr}{B:Array (Option RJ)}{kV y pm j ct:RJ}(l:K.lookup f=some {oc,od,.func (PySem.W.fnOf x qual (eL st) (cW st) (bh st) .none kV y pm F j ct),B})
 (c:PySem.W.codeIn K j qual=true) (k:PySem.W.keepIn K (.ref f)=true):xO K x qual st f (PySem.W.fnOf x qual (eL st) (cW st) (bh st) .none kV y pm F j ct):={⟨oc,od,kV,y,pm,F,j,ct,B,rfl,l,c⟩,k}
end
end L2
namespace LD
open PySem
inductive D where
 |non|bl (b:Bool)|int (i:Int)|str (x:Str)|tup (ds:List D)|lst (ds:List D)|frz (ds:List D)|cell (k:Nat)|fn (f:Nat)|exc (c:Nat) (p:Option Int)
 deriving Inhabited
abbrev Mem:=List (List D)
abbrev Env:=List (Option D)
inductive Res (α:Type) where
 |ok (a:α) (M:Mem)
 |err (x:D) (M:Mem)
 |bad
noncomputable def Res.bind {h j:Type}(r:Res h)(f:h->Mem->Res j):Res j:=match r with
 |.ok a M=>f a M
 |.err x M=>.err x M
 |.bad=>.bad
@[simp] theorem Res.bind_ok {h j:Type}(a:h)(M:Mem)(f:h->Mem->Res j):(Res.ok a M).bind f=f a M:=rfl
@[simp] theorem Res.bind_err {h j:Type}(x:D)(M:Mem)(f:h->Mem->Res j):(Res.err x M:Res h).bind f=.err x M:=rfl
@[simp] theorem Res.bind_bad {h j:Type}(f:h->Mem->Res j):(Res.bad:Res h).bind f=.bad:=rfl
inductive om where
 |add|sub|mul|fdiv|mod|pow
 deriving DecidableEq
inductive j4 where
 |eq|ne|lt|le|gt|ge|isN|notN|isin|notin
 deriving DecidableEq
inductive Ty where
 |int|bool|str|tuple|list|own (c:Str)
 deriving DecidableEq
inductive vL where
 |len|tuple|list (m:Bool)|listR (m:Bool)|all|sum|repr
 deriving DecidableEq
inductive fR where
 |one (i:Nat)
 |tup (l:List Nat)
 |two (i:Nat) (l:List Nat)
noncomputable def sz:Nat:=16777216
noncomputable def bc (m:Bool)(ds:List D)(M:Mem):Res D:=if ds.length<=sz then(if m then .ok (.cell M.length) (M++[ds]) else .ok (.lst ds) M) else .bad
noncomputable def lG (ds:List D)(M:Mem):Res D:=if ds.length<=sz then .ok (.tup ds) M else .bad
noncomputable def cH (M:Mem):D->Option (List D)
 |.lst h=>some h
 |.tup h=>some h
 |.frz h=>some h
 |.cell k=>M[k]?
 |_=>none
noncomputable def ez (M:Mem):D->Option (List D)
 |.lst h=>some h
 |.frz h=>some h
 |.cell k=>M[k]?
 |_=>none
noncomputable def jt (M:Mem):D->Option (List D)
 |.lst h=>some h
 |.cell k=>M[k]?
 |_=>none
noncomputable def aC:Nat->D->Bool
 |_,.non=>true
 |_,.bl _=>true
 |_,.int _=>true
 |_,.str x=>x.cps.all (· < 0x110000)
 |n+1,.tup h=>h.all (aC n)
 |n+1,.lst h=>h.all (aC n)
 |0,.tup _=>false
 |0,.lst _=>false
 |_,.frz _=>false
 |_,.cell _=>false
 |_,.fn _=>false
 |_,.exc _ _=>false
mutual
noncomputable def bU:D->D->Bool
 |.non,.non=>true
 |.bl a,.bl b=>a==b
 |.bl a,.int b=>(if a then 1 else 0)==b
 |.int a,.bl b=>a==(if b then 1 else 0)
 |.int a,.int b=>a==b
 |.str a,.str b=>a==b
 |.tup a,.tup b=>dI a b
 |.lst a,.lst b=>dI a b
 |_,_=>false
noncomputable def dI:List D->List D->Bool
 |[],[]=>true
 |a::r,b::t=>bU a b&&dI r t
 |[],_::_=>false
 |_::_,[]=>false
end
noncomputable def g8:D->Bool
 |.str _=>true
 |_=>false
def p8 (a b:D):Option Bool:=if g8 a&&g8 b||aC 64 a&&aC 64 b then some (bU a b) else none
noncomputable def view (M:Mem):D->D
 | .cell k=>match M[k]? with
   |some h=>.lst h
   |none=>.cell k
 |.frz h=>.lst h
 |d=>d
noncomputable def da:Nat->Mem->D->D
 |0,_,d=>d
 | n+1,M,.cell k=>match M[k]? with
   |some h=>.lst (h.map (da n M))
   |none=>.cell k
 |n+1,M,.frz h=>.lst (h.map (da n M))
 |n+1,M,.lst h=>.lst (h.map (da n M))
 |n+1,M,.tup h=>.tup (h.map (da n M))
 |_+1,_,d=>d
def mP (M:Mem)(a b:D):Option Bool:=match p8 (view M a) (view M b) with
 |some r=>some r
 |none=>p8 (da 64 M a) (da 64 M b)
def j6 (M:Mem):D->Option Bool
 |.non=>some false
 |.bl b=>some b
 |.int i=>some (i != 0)
 |.str x=>if x.cps.size<=sz then some (x.cps.size != 0) else none
 |.tup ds=>some (!ds.isEmpty)
 |.lst ds=>some (!ds.isEmpty)
 |.frz ds=>some (!ds.isEmpty)
 |.cell k=>(M[k]?).map λds=>!ds.isEmpty
 |.fn _=>none
 |.exc _ _=>none
def bX (n:Nat)(i:Int):Option Nat:=if 0<=i then(if i<n then some i.toNat else none) else if -(n:Int)<=i then some (i+n).toNat else none
def eM (m:Bool)(o:om)(a b:D)(M:Mem):Res D:=match o,a,b with
 |.add,.int i,.int j=>.ok (.int (i+j)) M
 |.add,.str x,.str y=>if x.cps.size+y.cps.size<=sz then .ok (.str {x.cps++y.cps}) M else .bad
 |.add,.tup x,.tup y=>lG (x++y) M
 | .add,a,b=>match jt M a,jt M b with
   |some x,some y=>bc m (x++y) M
   |_,_=>.bad
 |.sub,.int i,.int j=>.ok (.int (i-j)) M
 |.mul,.int i,.int j=>if (-(2^64)<i/\i<2^64)\/(-(2^64)<j/\j<2^64) then .ok (.int (i*j)) M else .bad
 |.mul,.tup x,.int j=>if x.length*j.toNat<=sz/\-(2^63)<=j/\j<2^63 then .ok (.tup (List.replicate j.toNat x).flatten) M else .bad
 | .mul,a,.int j=>match jt M a with
   |some x=>if x.length*j.toNat<=sz/\-(2^63)<=j/\j<2^63 then bc m (List.replicate j.toNat x).flatten M else .bad
   |none=>.bad
 |.fdiv,.int i,.int j=>if 0<j/\j<1073741824 then .ok (.int (i / j)) M else .bad
 |.mod,.int i,.int j=>if 0<j then .ok (.int (i % j)) M else .bad
 |.pow,.int i,.int j=>if 0<=j/\j<=1000000/\i.natAbs<2^64 then .ok (.int (i^j.toNat)) M else .bad
 |_,_,_=>.bad
def jQ (x:D)(ds:List D):Option Bool:=if aC 64 x&&ds.all (aC 63) then some (ds.any λy=>bU y x) else none
noncomputable def ma (x y:Str):Bool:=!(Builtin.Str.occurrences y x 0 y.length 1).isEmpty
noncomputable def intsOf:List D->Option (List Int)
 |[]=>some []
 |.int b::r=>(intsOf r).map (b::·)
 |_=>none
def mF:D->Option (List Int)
 |.tup h=>intsOf h
 |_=>none
noncomputable def jN:List D->Option (List (List Int))
 |[]=>some []
 |d::r=>(mF d).bind λk=>(jN r).map (k::·)
def qJ:D->Option (List (List Int))
 |.tup h=>jN h
 |_=>none
def isKey (c:Int)(d:D):Bool:=if c=77 then(mF d).isSome else if c=78 then(qJ d).isSome else false
def b5 (M:Mem)(o:Nat):Option (Int×List D):=if 5000<=o then(match M[o-5000]? with
 |some (.int c::es)=>if c=77\/c=78 then some (c,es) else none
 |_=>none) else none
noncomputable def c6:D->D
 |.tup [k,_]=>k
 |d=>d
noncomputable def Ra:D->D
 |.tup [_,v]=>v
 |d=>d
def dt (es:List D)(k:D):Option D:=(es.find? λe=>bU (c6 e) k).map Ra
def putD (es:List D)(k v:D):List D:=if (dt es k).isSome then es.map (λe=>if bU (c6 e) k then .tup [c6 e,v] else e) else es++[.tup [k,v]]
def inD (M:Mem)(o:Nat)(k:D):Option Bool:=(b5 M o).bind λq=>if isKey q.1 k then some (dt q.2 k).isSome else none
def getD (M:Mem)(o:Nat)(k:D):Option D:=(b5 M o).bind λq=>if isKey q.1 k then dt q.2 k else none
noncomputable def eQ:D->Bool
 |.non=>true
 |_=>false
def bo (o:j4)(a b:D)(M:Mem):Option Bool:=match o,a,b with
 |.eq,a,b=>mP M a b
 |.ne,a,b=>(mP M a b).map (!·)
 |.lt,.int i,.int j=>some (decide (i<j))
 |.le,.int i,.int j=>some (decide (i<=j))
 |.gt,.int i,.int j=>some (decide (j<i))
 |.ge,.int i,.int j=>some (decide (j<=i))
 |.isN,a,.non=>some (eQ a)
 |.notN,a,.non=>some (!eQ a)
 |.isin,.str x,.str y=>some (ma x y)
 |.notin,.str x,.str y=>some (!ma x y)
 |.isin,a,b=>(cH M b).bind (jQ (view M a))
 |.notin,a,b=>((cH M b).bind (jQ (view M a))).map (!·)
 |_,_,_=>none
def bZ (a i:D)(M:Mem):Option D:=match a,i with
 |.str x,.int i=>if x.cps.size<=sz then(bX x.cps.size i).bind λj=>(x.cps[j]?).map λc=>.str {#[c]} else none
 |a,.int i=>(cH M a).bind λh=>(bX h.length i).bind λj=>h[j]?
 |_,_=>none
noncomputable def aL (n d:Nat):D->Option Nat
 |.non=>some d
 |.int v=>some (if v<0 then(v+(n:Int)).toNat else min v.toNat n)
 |_=>none
noncomputable def cq:Bool->D->Bool
 |true,.int _=>true
 |false,.non=>true
 |_,_=>false
noncomputable def cut {h:Type}(xs:List h)(lo hi:Nat):List h:=(xs.drop lo).take (hi-lo)
def eA (m:Bool)(a lo hi:D)(M:Mem):Res D:=match a with
 | .tup xs=>match aL xs.length 0 lo,aL xs.length xs.length hi with
   |some l,some h=>.ok (.tup (cut xs l h)) M
   |_,_=>.bad
 | a=>match ez M a with
   | some xs=>match aL xs.length 0 lo,aL xs.length xs.length hi with
     |some l,some h=>bc m (cut xs l h) M
     |_,_=>.bad
   |none=>.bad
def cM (t:Ty):D->Option Bool
 |.non=>some false
 |.bl _=>some (t==.bool||t==.int)
 |.int _=>some (t==.int)
 |.str _=>some (t==.str)
 |.tup _=>some (t==.tuple)
 |.lst _=>some (t==.list)
 |.frz _=>some (t==.list)
 |.cell _=>some (t==.list)
 |.fn _=>none
 |.exc _ _=>none
noncomputable def boolsOf:List D->Option (List Bool)
 |[]=>some []
 |.bl b::r=>(boolsOf r).map (b::·)
 |_=>none
def fc (f:vL)(ds:List D)(M:Mem):Res D:=match f,ds with
 |.len,[.str x]=>if x.cps.size<=sz then .ok (.int x.cps.size) M else .bad
 | .len,[d]=>match cH M d with
   |some xs=>.ok (.int xs.length) M
   |none=>.bad
 |.tuple,[.tup xs]=>.ok (.tup xs) M
 | .tuple,[d]=>match ez M d with
   |some xs=>.ok (.tup xs) M
   |none=>.bad
 | .list m,[d]=>match cH M d with
   |some xs=>bc m xs M
   |none=>.bad
 |.listR m,[.int n]=>if n<2^20 then bc m ((List.range n.toNat).map λ(k:Nat)=>D.int (k:Int)) M else .bad
 | .all,[d]=>match ez M d with
   | some xs=>match boolsOf xs with
     |some bs=>.ok (.bl (bs.all id)) M
     |none=>.bad
   |none=>.bad
 | .sum,[d]=>match ez M d with
   | some xs=>match intsOf xs with
     |some is=>.ok (.int is.sum) M
     |none=>.bad
   |none=>.bad
 |_,_=>.bad
noncomputable def fH:List Nat->List D->Env->Option Env
 |[],[],h=>some h
 |i::l,d::ds,h=>fH l ds (h.set i (some d))
 |_,_,_=>none
def b7 (t:fR)(d:D)(Z:Env):Option Env:=match t,d with
 |.one i,d=>some (Z.set i (some d))
 |.tup l,.tup h=>fH l h Z
 |.two i l,.tup [d,.tup h]=>fH l h (Z.set i (some d))
 |.tup _,_=>none
 |.two _ _,_=>none
abbrev Walk:=Mem->Option (List D)
noncomputable def eR:Nat->List D->List D
 |_,[]=>[]
 |k,d::r=>.tup [.int k,d]::eR (k+1) r
noncomputable def fC:List D->List D->List D
 |a::r,b::t=>.tup [a,b]::fC r t
 |_,_=>[]
noncomputable def fT {h:Type}(f:h->D->Mem->Res h)(w:Walk):Nat->Nat->h->Mem->Res h
 |0,_,_,_=>.bad
 | n+1,i,a,M=>match w M with
   |none=>.bad
   | some j=>match j[i]? with
     |none=>.ok a M
     |some d=>(f a d M).bind (fT f w n (i+1))
def cY {h:Type}(f:h->D->Mem->Res h)(w:Walk)(a:h)(M:Mem):Res h:=fT f w (((w M).getD []).length+1) 0 a M
noncomputable def cj {h:Type}(M:Mem):Option h->Res h
 |some a=>.ok a M
 |none=>.bad
@[simp] theorem ur {h:Type}(M:Mem)(a:h):cj M (some a)=.ok a M:=rfl
@[simp] theorem QD {h:Type}(M:Mem):(cj M none:Res h)=.bad:=rfl
inductive Fl where
 |next (Z:Env)
 |ret (d:D)
 |exc (x:D) (Z:Env)
def td {a b:Int}:bU (.int a) (.int b)=(a==b):=rfl
def GN:bU (.str x) (.str y)=(x==y):=rfl
end LD
namespace LD
open PySem PySem.Spec PyProof.Rows L2
structure Mu where
 pub:Nat->Option Addr
 priv:List Addr
 ob:Nat->Option Addr
def Mu.Mt (μ:Mu)(a:Addr):Prop:=(∃k,μ.pub k=some a)\/a∈μ.priv
abbrev Fa:=Nat->Option Addr
def KL (K:RG)(a:Addr)(xs:List V):Prop:=
 ∃(o:Obj) (h:Array RJ) (n:Nat),K.lookup a=some o/\o.cls=.type "list"/\o.dict=none/\o.data=.seq h n/\h.size<=sizeLine/\Vals xs h.toList
def xK (C:Addr)(u:Option Addr)(a:Addr)(h:Heap):Prop:=∃o j,h.get? a=some o/\o.cls=.ref C/\o.dict=u/\o.data=.fields j/\1<j.size
noncomputable def Cb (c:Nat):Str:=if c=1 then "number" else "place"
def vF (H:Hp)(c:Nat)(h:Option Addr):Option Int->Prop
 |none=>h=none
 |some i=>∃d,h=some d/\H d=some (.xd [(Cb c,.int i)])
def eJ (c:Nat):Nat:=1000+c
def jJ (c:Nat):Nat:=900+c
section
variable(fa:Fa)(K:RG)(μ:Mu)(H:Hp)
mutual
noncomputable def Rep:D->V->Prop
 |.non,v=>v=.non
 |.bl b,v=>v=.bl b
 |.int i,v=>v=.int i
 |.str x,v=>v=.str x
 |.tup j,v=>∃a h,v=.ref a/\du K H a h/\aH j h
 |.lst j,v=>∃a h,v=.ref a/\(H a=some (.lst h)/\¬ μ.Mt a)/\aH j h
 |.frz j,v=>∃a h,v=.ref a/\((∃ob,H a=some (.frz ob (.lst h)))\/KL K a h)/\aH j h
 |.cell k,v=>∃a,v=.ref a/\μ.pub k=some a
 |.fn f,v=>∃a,v=.ref a/\(fa f=some a\/(fa f=none/\μ.ob f=some a))
 |.exc c p,v=>∃a C u,v=.ref a/\fa (eJ c)=some C/\H a=some (.ext (xK C u a))/\vF H c u p
noncomputable def aH:List D->List V->Prop
 |[],h=>h=[]
 |d::ds,h=>∃v r,h=v::r/\Rep d v/\aH ds r
end
end
def IsX (o:HO):Prop:=(∃h,o=.ext h)\/∃fs,o=.xd fs
structure ExtW (μ:Mu) (H:Hp) (μ':Mu) (H':Hp):Prop where
 mu:∀k a,μ.pub k=some a->μ'.pub k=some a
 tups:∀a vs,Rd H a (.tup vs)->Rd H' a (.tup vs)
 lsts:∀a vs,H a=some (.lst vs)->¬ μ.Mt a->H' a=some (.lst vs)/\¬ μ'.Mt a
 frzs:∀a ob u,H a=some (.frz ob u)->H' a=some (.frz ob u)
 exts:∀a o,IsX o->H a=some o->H' a=some o
 obs:∀k a,μ.ob k=some a->μ'.ob k=some a
structure Ext (μ:Mu) (H:Hp) (μ':Mu) (H':Hp):Prop extends ExtW μ H μ' H' where
 pr:μ'.priv=μ.priv
 pk:∀a∈μ.priv,H' a=H a
def ExtW.refl:ExtW μ H μ H:={λ_ _ h=>h,λ_ _ h=>h,λ_ _ h n=>⟨h,n⟩,λ_ _ _ h=>h,λ_ _ _ h=>h,λ_ _ h=>h}
def ExtW.trans (a:ExtW μ H μ1 H1)(b:ExtW μ1 H1 μ2 H2):ExtW μ H μ2 H2:=
 {λk x h=>b.mu k x (a.mu k x h),λx j h=>b.tups x j (a.tups x j h),λx j h n=>b.lsts x j (a.lsts x j h n).1 (a.lsts x j h n).2,λx ob u h=>b.frzs x ob u (a.frzs x ob u h),λx o i h=>b.exts x o i (a.exts x o i h),λk x h=>b.obs k x (a.obs k x h)}
def Ext.refl:Ext μ H μ H:={.refl,rfl,λ_ _=>rfl}
def Ext.trans (a:Ext μ H μ1 H1)(b:Ext μ1 H1 μ2 H2):Ext μ H μ2 H2:=
 {a.toExtW.trans b.toExtW,b.pr.trans a.pr,λx h=>(b.pk x (by rw[a.pr];show h)).trans (a.pk x h)}
section
variable{fa:Fa}{K:RG}{μ μ':Mu}{H H':Hp}
def ExtW.sqT (x:ExtW μ H μ' H')(h:du K H a vs):du K H' a vs:=h.elim (λz=>.inl (x.tups a vs z)) .inr
mutual
theorem Rep.extW (x:ExtW μ H μ' H'):∀{d:D}{v:V},Rep fa K μ H d v->Rep fa K μ' H' d v
 |.non,v,h=>h
 |.bl b,v,h=>h
 |.int i,v,h=>h
 |.str y,v,h=>h
 | .tup u,v,h=>by
   obtain(a|j|e|s|r):=h;show{a,j,e,x.sqT s,aH.extW x r}
 | .lst u,v,h=>by
   obtain(a|j|e|s|r):=h;show{a,j,e,x.lsts a j s.1 s.2,aH.extW x r}
 | .frz u,v,h=>by
   obtain(a|j|e|s|r):=h;show{a,j,e,s.elim ((by rintro⟨ob,z⟩;show .inl {ob,x.frzs a ob _ z})) .inr,aH.extW x r}
 | .cell k,v,h=>by
   obtain(a|e|m):=h;show{a,e,x.mu k a m}
 | .fn f,v,h=>by
   obtain(a|e|m):=h;show{a,e,m.imp id λz=>{z.1,x.obs _ _ z.2}}
 | .exc c p,v,h=>by
   obtain(a|C|B|e|f|g|n):=h;show{a,C,B,e,f,x.exts _ _ (.inl {_,rfl}) g,?_};cases p with
   |none=>show n
   |some i=>show let⟨d,h1,h2⟩:=n;{d,h1,x.exts _ _ (.inr {_,rfl}) h2}
theorem aH.extW (x:ExtW μ H μ' H'):∀{ds:List D}{vs:List V},aH fa K μ H ds vs->aH fa K μ' H' ds vs
 |[],vs,h=>h
 | d::ds,vs,h=>by
   obtain(v|r|e|p|q):=h;show{v,r,e,Rep.extW x p,aH.extW x q}
end
def Rep.ext (x:Ext μ H μ' H')(h:Rep fa K μ H d v):Rep fa K μ' H' d v:=Rep.extW x.toExtW h
def aH.ext (x:Ext μ H μ' H')(h:aH fa K μ H d v):aH fa K μ' H' d v:=aH.extW x.toExtW h
noncomputable def aH.length:∀{ds:List D}{vs:List V},aH fa K μ H ds vs->vs.length=ds.length
 | [],vs,h=>by
   subst h;rfl
 | d::ds,vs,h=>by
   obtain(v|r|e|p|q):=h;subst e;simp[aH.length q]
theorem aH.get:∀{ds:List D}{vs:List V}{i:Nat}{d:D},aH fa K μ H ds vs->ds[i]?=some d->∃v,vs[i]?=some v/\Rep fa K μ H d v
 |[],_,_,_,_,e=>by simp at e
 | d::ds,vs,0,j,h,e=>by
   obtain(v|r|rfl|p|q):=h;simp at e;subst e;show⟨v,rfl,p⟩
 | d::ds,vs,i+1,j,h,e=>by
   obtain(v|r|rfl|p|q):=h;obtain(u|h1|h2):=aH.get q (~~~e)
   show{u,~~~h1,h2}
def aH.getV:∀{ds:List D}{vs:List V}{i:Nat}{v:V},aH fa K μ H ds vs->vs[i]?=some v->∃d,ds[i]?=some d/\Rep fa K μ H d v:=by
 intro ds vs i v h e;have hl:=h.length;have j:i<vs.length:=(RH.mp e).1;obtain⟨d,hd⟩:∃d,ds[i]?=some d:={ds[i]'(`a),`s}
 obtain(u|h1|h2):=h.get hd;rw[e] at h1;cases h1;show⟨d,hd,h2⟩
noncomputable def aH.append:∀{ds es:List D}{vs ws:List V},aH fa K μ H ds vs->aH fa K μ H es ws->aH fa K μ H (ds++es) (vs++ws)
 | [],_,vs,_,h,g=>by
   subst h;show g
 | d::ds,es,vs,ws,h,g=>by
   obtain(v|r|rfl|p|q):=h;show{v,r++ws,rfl,p,aH.append q g}
def aH.one (h:Rep fa K μ H d v):aH fa K μ H [d] [v]:={v,[],rfl,h,rfl}
noncomputable def aH.drop:∀(n:Nat) {ds:List D}{vs:List V},aH fa K μ H ds vs->aH fa K μ H (ds.drop n) (vs.drop n)
 |0,_,_,h=>h
 | n+1,[],vs,h=>by
   subst h;show rfl
 | n+1,d::ds,vs,h=>by
   obtain(v|r|rfl|p|q):=h;show aH.drop n q
noncomputable def aH.take:∀(n:Nat) {ds:List D}{vs:List V},aH fa K μ H ds vs->aH fa K μ H (ds.take n) (vs.take n)
 |0,_,_,h=>rfl
 | n+1,[],vs,h=>by
   subst h;show rfl
 | n+1,d::ds,vs,h=>by
   obtain(v|r|rfl|p|q):=h;show{v,r.take n,rfl,p,aH.take n q}
theorem aH.set:∀(n:Nat) {ds:List D}{vs:List V}{d:D}{v:V},aH fa K μ H ds vs->Rep fa K μ H d v->aH fa K μ H (ds.set n d) (vs.set n v)
 | _,[],vs,_,_,h,_=>by
   subst h;show rfl
 | 0,d::ds,vs,_,j,h,g=>by
   obtain(v|r|rfl|p|q):=h;show⟨j,r,rfl,g,q⟩
 | n+1,d::ds,vs,_,j,h,g=>by
   obtain(v|r|rfl|p|q):=h;show{v,r.set n j,rfl,p,aH.set n q g}
noncomputable def aH.reverse:∀{ds:List D}{vs:List V},aH fa K μ H ds vs->aH fa K μ H ds.reverse vs.reverse
 | [],vs,h=>by
   subst h;show rfl
 | d::ds,vs,h=>by
   obtain(v|r|rfl|p|q):=h;rw[List.reverse_cons,List.reverse_cons];show aH.append (aH.reverse q) (.one p)
noncomputable def aH.rep:∀(n:Nat) {ds:List D}{vs:List V},aH fa K μ H ds vs->aH fa K μ H (List.replicate n ds).flatten (List.replicate n vs).flatten
 |0,_,_,_=>rfl
 | n+1,ds,vs,h=>by
   rw[TR,TR,Ul,Ul];show h.append (aH.rep n h)
noncomputable def aH.ints:∀(ns:List Int),aH fa K μ H (ns.map D.int) (ns.map V.int)
 |[]=>rfl
 |n::ns=>{.int n,ns.map V.int,rfl,rfl,aH.ints ns}
end
noncomputable def lO:Nat->List Str
 |40=>["machine","standing","earlier"]
 |_=>[]
def aP (k:Nat):Nat:=5000+k
noncomputable def Gx (ks:List Int):Int:=reduceHash (Builtin.Tuple.tupleHashOf (ks.map hashInt))
noncomputable def OG (h:List (List Int)):Int:=reduceHash (Builtin.Tuple.tupleHashOf (h.map Gx))
def nz (c:Int)(d:D):Option Int:=if c=77 then(mF d).map Gx else if c=78 then(qJ d).map OG else none
def mZ (fa:Fa)(K:RG)(μ:Mu)(H:Hp)(c:Int)(p:D×D)(e:S4):Prop:=∃b v,e.key=.ref b/\nz c p.1=some e.hash/\Rep fa K μ H p.1 (.ref b)/\RelV v e.val/\Rep fa K μ H p.2 v
def jC (fa:Fa)(K:RG)(μ:Mu)(H:Hp)(a:Addr)(ds:List D):Prop:=
 (∃(c:Nat) (C u:Addr) (fs:List (Str×V)) (j:List D),fa (jJ c)=some C/\H a=some (.ins C u fs)/\fs.map (·.1)=(lO c).take fs.length/\ds=.int c::j/\aH fa K μ H j (fs.map (·.2)))\/
 ∃(c:Int) (j:List S4) (h:List (D×D)),H a=some (.dn j)/\(c=77\/c=78)/\ds=.int c::h.map (λp=>.tup [p.1,p.2])/\Tz (mZ fa K μ H c) h j/\(h.map (·.1)).Nodup
def jC.extW {fa:Fa}{K:RG}{μ μ':Mu}{H H':Hp}{a:Addr}{ds:List D}(h:jC fa K μ H a ds)(x:ExtW μ H μ' H')(e:H' a=H a):jC fa K μ' H' a ds:=
 h.imp ((by rintro⟨c,C,B,fs,j,h1,h2,h3,h4,u⟩;show{c,C,B,fs,j,h1,e.trans h2,h3,h4,u.extW x}))
  (by rintro⟨c,j,y,h1,h2,h3,h4,u⟩;show{c,j,y,e.trans h1,h2,h3,Tz.mapP h4 λp q ⟨b,v,e1,e2,E,F,I⟩=>{b,v,e1,e2,E.extW x,F,I.extW x},u})
def jC.hold {fa:Fa}{K:RG}{μ:Mu}{H:Hp}{a:Addr}{ds:List D}(h:jC fa K μ H a ds):∃o,H a=some o/\(∀vs,o≠.lst vs):=by
 rcases h with⟨_,_,_,_,_,_,h,_⟩|⟨_,_,_,h,_⟩
 .exact{_,h,λ_ z=>by cases z}
 .exact{_,h,λ_ z=>by cases z}
def jC.new {fa:Fa}{K:RG}{μ:Mu}{H:Hp}{a p:Addr}{ds:List D}(h:jC fa K μ H a ds)(j:H p=none):a≠p:=let{_,e,_}:=h.hold;aX e j
def jC.nl {fa:Fa}{K:RG}{μ:Mu}{H:Hp}{a p:Addr}{ds:List D}{vs:List V}(h:jC fa K μ H a ds)(j:H p=some (.lst vs)):a≠p:=λz=>by
 obtain(o|e|n):=h.hold;rw[z,j] at e;cases e;show n _ rfl
def PB (fa:Fa)(K:RG)(μ:Mu)(H:Hp)(k:Nat)(ds:List D):Prop:=
 (∃a h,μ.pub k=some a/\H a=some (.lst h)/\aH fa K μ H ds h)\/∃a,μ.ob (aP k)=some a/\μ.pub k=none/\jC fa K μ H a ds
structure RelM (fa:Fa) (K:RG) (μ:Mu) (H:Hp) (M:Mem):Prop where
 at':∀(k:Nat) (ds:List D),M[k]?=some ds->PB fa K μ H k ds
 out:∀(k:Nat),M.length<=k->μ.pub k=none
 oout:∀(k:Nat),M.length<=k->μ.ob (aP k)=none
 inj:∀j k a,μ.pub j=some a->μ.pub k=some a->j=k
 oinj:∀j k a,μ.ob (aP j)=some a->μ.ob (aP k)=some a->j=k
 sep:∀k a,μ.pub k=some a->μ.ob (aP k)=none
 pv:∀a∈μ.priv,(∃vs,H a=some (.lst vs))/\∀k,μ.pub k≠some a
structure bz (fa:Fa) (K:RG) (μ:Mu) (H:Hp) (σ:L2.St) (Z:Env):Prop where
 len:σ.length=Z.length
 at':∀(i:Nat) (d:D),Z[i]?=some (some d)->∃v,σ[i]?=some (some v)/\Rep fa K μ H d v
section
variable{fa:Fa}{K:RG}{μ μ':Mu}{H H':Hp}{σ:L2.St}{Z:Env}{M:Mem}
def bz.ext (h:bz fa K μ H σ Z)(x:Ext μ H μ' H'):bz fa K μ' H' σ Z:=
 {h.len,λi d e=>let⟨v,h1,h2⟩:=h.at' i d e;{v,h1,h2.ext x}}
def bz.set (h:bz fa K μ H σ Z){i:Nat}{d:D}{v:V}(r:Rep fa K μ H d v):bz fa K μ H (σ.set i (some v)) (Z.set i (some d)):=by
 show{by simp[h.len],λj B e=>?_}
 by_cases y:j=i
 .subst y;have hl:j<Z.length:=by
   have:=(RH.mp e).1;simpa using this
  rw[Sk hl] at e;cases e;show{v,Sk (by rw[h.len];show hl),r}
 .rw[RT (SK y)] at e;obtain(u|h1|h2):=h.at' j B e;show{u,by rw[RT (SK y)];show h1,h2}
def bz.extW (h:bz fa K μ H σ Z)(x:ExtW μ H μ' H'):bz fa K μ' H' σ Z:=
 {h.len,λi d e=>let⟨v,h1,h2⟩:=h.at' i d e;{v,h1,h2.extW x}}
def RelM.mu_lt (h:RelM fa K μ H M)(e:μ.pub k=some a):∃ds vs,M[k]?=some ds/\H a=some (.lst vs)/\aH fa K μ H ds vs:=by
 by_cases hk:k<M.length
 .rcases h.at' k M[k] (by simp[hk]) with⟨j,vs,h1,h2,h3⟩|⟨_,_,z,_⟩
  .rw[e] at h1;cases h1;show{_,vs,by simp[hk],h2,h3}
  .rw[e] at z;cases z
 .rw[h.out k `a] at e;cases e
def RelM.at_ (h:RelM fa K μ H M)(e:M[k]?=some ds)(p:μ.pub k=some a):∃vs,H a=some (.lst vs)/\aH fa K μ H ds vs:=by
 obtain(j|vs|h1|h2|h3):=h.mu_lt p;rw[e] at h1;cases h1;show⟨vs,h2,h3⟩
def RelM.fresh (h:RelM fa K μ H M)(j:H p=none):¬ μ.Mt p:=λe=>by
 rcases e with⟨k,e⟩|e
 .obtain(v|u|_|h2|_):=h.mu_lt e;rw[j] at h2;cases h2
 .obtain((u|h2)|_):=h.pv p e;rw[j] at h2;cases h2
def RelM.pne (h:RelM fa K μ H M)(u:H p=none)(j:a∈μ.priv):a≠p:=λe=>by
 obtain((v|h2)|_):=h.pv a j;rw[e,u] at h2;cases h2
def Ext.alloc (h:RelM fa K μ H M)(j:H p=none):Ext μ H μ (upd H p o):=by
 have rd:∀a u,Rd H a u->Rd (upd H p o) a u:=λa u h=>by
  rcases h with h|⟨ob,h⟩
  .exact .inl (by rw[az (aX h j)];show h)
  .exact .inr {ob,by rw[az (aX h j)];show h}
 show{{λ_ _ h=>h,λa y h=>rd a _ h,λa y h n=>{by rw[az (aX h j)];show h,n},λa ob u h=>by rw[az (aX h j)];show h,λa o _ h=>by rw[az (aX h j)];show h,λ_ _ h=>h},rfl,λa v=>by rw[az (h.pne j v)]}
def RelM.alloc (h:RelM fa K μ H M)(j:H p=none):RelM fa K μ (upd H p o) M:=
 {λk y e=>(h.at' k y e).imp ((by rintro⟨a,v,h1,h2,h3⟩;show{a,v,h1,by rw[az (aX h2 j)];show h2,h3.ext (Ext.alloc h j)})) (by rintro⟨a,h1,h2,h3⟩;show{a,h1,h2,h3.extW (Ext.alloc h j).toExtW (az (h3.new j))}),h.out,h.oout,h.inj,h.oinj,h.sep,λa u=>{let{⟨v,e⟩,_}:=h.pv a u;{v,by rw[az (h.pne j u)];show e},(h.pv a u).2}}
noncomputable def fq (μ:Mu)(n:Nat)(p:Addr):Mu:={λk=>if k=n then some p else μ.pub k,μ.priv,μ.ob}
set_option tactic.hygienic true in
def Ext.cell (h:RelM fa K μ H M)(j:H p=none):Ext μ H (fq μ M.length p) (upd H p o):=by
 have rd:∀a u,Rd H a u->Rd (upd H p o) a u:=λa u h=>by
  rcases h with h|⟨ob,h⟩
  .exact .inl (by rw[az (aX h j)];show h)
  .exact .inr {ob,by rw[az (aX h j)];show h}
 show{{λk a e=>?_,λa y g=>rd a _ g,λa y g n=>{by rw[az (aX g j)];show g,λe=>?_},λa ob u h=>by rw[az (aX h j)];show h,λa o _ h=>by rw[az (aX h j)];show h,λ_ _ h=>h},rfl,λa v=>by rw[az (h.pne j v)]}
 .show(if k=M.length then some p else μ.pub k)=some a;split
  .next q=>rw[q,h.out _ (RN _)] at e;cases e
  .exact e
 .rcases e with⟨k,e⟩|e
  .have e:(if k=M.length then some p else μ.pub k)=some a:=e;split at e
   .cases e;show aX g j rfl
   .exact n (.inl ⟨k,e⟩)
  .exact n (.inr e)
set_option tactic.hygienic true in
def RelM.cell (h:RelM fa K μ H M){p:Addr}{ds:List D}{vs:List V}(u:H p=none)(r:aH fa K μ H ds vs) :
 RelM fa K (fq μ M.length p) (upd H p (.lst vs)) (M++[ds]):=by
 have x:Ext μ H (fq μ M.length p) (upd H p (.lst vs)):=Ext.cell h u;have F:=h.fresh u;show{λk v e=>?_,λk hk=>?_,λk hk=>h.oout k (by simp at hk;omega),λj k a h1 h2=>?_,h.oinj,λk a z=>?_,λa y=>?_}
 .by_cases hk:k<M.length
  .rw[RR hk] at e;rcases h.at' k v e with⟨a,E,h1,h2,h3⟩|⟨a,h1,h2,h3⟩
   .exact .inl {a,E,x.mu k a h1,by rw[az (aX h2 u)];show h2,h3.ext x}
   .exact .inr {a,h1,by change(if k=M.length then some p else μ.pub k)=none;rw[if_neg (Se hk)];show h2,h3.extW x.toExtW (az (h3.new u))}
  .have B:k=M.length:=by
    have:=(RH.mp e).1;simp at this;omega
   subst B;rw[So (RN _)] at e;simp at e;subst e;show .inl {p,vs,by simp[fq],cf,r.ext x}
 .simp at hk;change(if k=M.length then some p else μ.pub k)=none;rw[if_neg `a]
  show h.out k `a
 .have h1:(if j=M.length then some p else μ.pub j)=some a:=h1;have h2:(if k=M.length then some p else μ.pub k)=some a:=h2;split at h1<;>split at h2
  .omega
  .cases h1;show absurd (.inl ⟨k,h2⟩) F
  .cases h2;show absurd (.inl ⟨j,h1⟩) F
  .exact h.inj j k a h1 h2
 .have z:(if k=M.length then some p else μ.pub k)=some a:=z;change μ.ob (aP k)=none;split at z
  .next e=>rw[e];show h.oout _ (RN _)
  .exact h.sep k a z
 .obtain((E|e)|n):=h.pv a y;show{{E,by rw[az (h.pne u y)];show e},λk e2=>?_}
  have e2:(if k=M.length then some p else μ.pub k)=some a:=e2;split at e2
  .cases e2;show h.pne u y rfl
  .exact n k e2
def ExtW.write (h2:H a=some (.lst vs))(e:μ.Mt a):ExtW μ H μ (upd H a (.lst ws)):=by
 have ne:∀b u,Rd H b u->(∀xs,u≠.lst xs)->b≠a:=λb u g j q=>by
  subst q;rcases g with g|⟨ob,g⟩
  .rw[h2] at g;cases g;show j _ rfl
  .rw[h2] at g;cases g
 have rd:∀b u,b≠a->Rd H b u->Rd (upd H a (.lst ws)) b u:=λb u h g=>by
  rcases g with g|⟨ob,g⟩
  .exact .inl (by rw[az h];show g)
  .exact .inr {ob,by rw[az h];show g}
 show{λ_ _ q=>q,λb v g=>rd b _ (ne b _ g (λxs q=>by cases q)) g,λb v g n=>{by rw[az (λq=>n (by rw[q];show e))];show g,n},λb ob u g=>by rw[az (λq=>by rw[q,h2] at g;cases g)];show g,λb o i g=>by rw[az (λq=>by rw[q,h2] at g;cases g;rcases i with⟨_,i⟩|⟨_,i⟩<;>cases i)];show g,λ_ _ q=>q}
def Ext.write {k:Nat}{a:Addr}{vs ws:List V}(h:RelM fa K μ H M)(e:μ.pub k=some a):Ext μ H μ (upd H a (.lst ws)):=by
 obtain(u|vs|_|h2|_):=h.mu_lt e;show{ExtW.write h2 (.inl ⟨k,e⟩),rfl,λb j=>by rw[az (λq=>(h.pv b j).2 k (by rw[q];show e))]}
def RelM.write (h:RelM fa K μ H M){k:Nat}{a:Addr}{ds:List D}{ws:List V}(e:μ.pub k=some a)(r:aH fa K μ H ds ws):RelM fa K μ (upd H a (.lst ws)) (M.set k ds):=by
 have x:Ext μ H μ (upd H a (.lst ws)):=Ext.write (vs:=ws) h e;show{λj y q=>?_,λj u=>h.out j (~~~u),λj u=>h.oout j (~~~u),h.inj,h.oinj,h.sep,λb v=>{let{⟨vs,g⟩,_}:=h.pv b v;{vs,by rw[x.pk b v];show g},(h.pv b v).2}}
 by_cases u:j=k
 .subst u;have hl:j<M.length:=by have:=(RH.mp q).1;simpa using this
  rw[Sk hl] at q;cases q;show .inl {a,ws,e,cf,r.ext x}
 .rw[RT (SK u)] at q;rcases h.at' j y q with⟨b,vs,h1,h2,h3⟩|⟨b,h1,h2,h3⟩
  .have B:b≠a:=λz=>u (h.inj j k a (z ▸ h1) e);show .inl {b,vs,h1,by rw[az B];show h2,h3.ext x}
  .obtain(_|_|_|hl|_):=h.mu_lt e;show .inr {b,h1,h2,h3.extW x.toExtW (az (h3.nl hl))}
end
def ae {h:Type}(r:Res h)(k:h->Mem->Prop):Prop:=match r with
 |.ok a M=>k a M
 |_=>False
def aI {j u:Type}{r:Res j}{f:j->Mem->Res u}{k:u->Mem->Prop}(h:ae (r.bind f) k):∃a M,r=.ok a M/\ae (f a M) k:=by
 cases r with
 |ok a M=>show⟨a,M,rfl,h⟩
 |err=>show h.elim
 |bad=>show h.elim
def kz {j:Type}{M:Mem}{o:Option j}{k:j->Mem->Prop}(h:ae (cj M o) k):∃a,o=some a/\k a M:=by
 cases o with
 |none=>show h.elim
 |some a=>show⟨a,rfl,h⟩
def ay {j:Type}{r:Res j}{k k':j->Mem->Prop}(h:ae r k)(m:∀a M,k a M->k' a M):ae r k':=by
 cases r with
 |ok a M=>show m a M h
 |err=>show h
 |bad=>show h
section
variable(fa:Fa)(K:RG)
def aY (μ:Mu)(H:Hp)(Q:VK)(d:D)(M':Mem):Prop:=∀v H' μ',Ext μ H μ' H'->RelM fa K μ' H' M'->Rep fa K μ' H' d v->Q v H'
def tE (g:Env->Mem->Res D):TE:=λσ H Q=>∃μ Z M,bz fa K μ H σ Z/\RelM fa K μ H M/\ae (g Z M) (aY fa K μ H Q)
def tT (g:Env->Mem->Res Bool):TT:=λσ H Q=>∃μ Z M,bz fa K μ H σ Z/\RelM fa K μ H M/\ae (g Z M) λb h=>∀H' μ',Ext μ H μ' H'->RelM fa K μ' H' h->Q b H'
def tA (g:Env->Mem->Res (List D)):TA:=λσ H Q=>∃μ Z M,bz fa K μ H σ Z/\RelM fa K μ H M/\ae (g Z M) λu j=>∀h H' μ',Ext μ H μ' H'->RelM fa K μ' H' j->aH fa K μ' H' u h->Q h H'
end
def mX (New:Addr->Prop)(C:Addr)(v:Option Addr)(a:Addr)(h:Heap)(H:Hp):Prop:=New a/\H a=none/\∃o j,h.get? a=some o/\o.cls=.ref C/\o.dict=v/\o.data=.fields j/\
 (j[1]?=some .none\/∃T u ts,j[1]?=some (.ref T)/\T≠a/\New T/\H T=none/\h.get? T=some u/\u.data=.fields ts/\ts[3]?=some .none)
def zf (X:Cx)(b:Addr):Prop:=X.s₀.heap.get? b=none/\∀p∈X.pn,p.1≠b
def XW (fa:Fa)(X:Cx)(μ:Mu)(H:Hp)(x:D)(Z:Env)(M:Mem):Prop:=∀h j H' μ' u a C v c p,Inv X h j H' u->Ext μ H μ' H'->bz fa X.K μ' H' j Z->RelM fa X.K μ' H' M->x=.exc c p->fa (eJ c)=some C->vF H' c v p->mX (zf X) C v a u.heap H'->X.xe (.ref a) u
def mY (fa:Fa)(X:Cx)(μ:Mu)(H:Hp)(D:Ends):Fl->Mem->Prop
 |.next h,j=>∀u H' μ',Ext μ H μ' H'->bz fa X.K μ' H' u h->RelM fa X.K μ' H' j->D.nx u H'
 |.ret d,j=>aY fa X.K μ H D.rt d j
 |.exc x h,j=>XW fa X μ H x h j
def tF (fa:Fa)(X:Cx)(g:Env->Mem->Res Fl):TS:=λD σ H=>∃μ Z M,bz fa X.K μ H σ Z/\RelM fa X.K μ H M/\ae (g Z M) (mY fa X μ H D)
def XW.ext (h:XW fa X μ H x Z M)(y:Ext μ H μ' H'):XW fa X μ' H' x Z M:=λj v B u s1 a C E c p I e=>h j v B u s1 a C E c p I (y.trans e)
section
variable{fa:Fa}{K:RG}{μ μ':Mu}{H H':Hp}{Q:VK}
def aY.ext (h:aY fa K μ H Q d M)(x:Ext μ H μ' H'):aY fa K μ' H' Q d M:=λv u j y m r=>h v u j (x.trans y) m r
def jI {r:Res D}(h:ae r (aY fa K μ H Q))(x:Ext μ H μ' H'):ae r (aY fa K μ' H' Q):=ay h λ_ _ w=>w.ext x
end
def bF (h:PE X e t)(i:∀σ H Q,t' σ H Q->t σ H Q):PE X e t':=λj s σ H Q I q=>h j s σ H Q I (i σ H Q q)
def ku (h:PT X e t)(i:∀σ H Q,t' σ H Q->t σ H Q):PT X e t':=λj s σ H Q I q=>h j s σ H Q I (i σ H Q q)
def Az (h:PW X e t)(i:∀σ H Q,t' σ H Q->t σ H Q):PW X e t':=λw j s σ H Q I q=>h w j s σ H Q I (i σ H Q q)
def AN (h:PA X e t)(i:∀σ H Q,t' σ H Q->t σ H Q):PA X e t':=λu j s σ H Q I q=>h u j s σ H Q I (i σ H Q q)
def dz (h:PS X e t)(i:∀D σ H,t' D σ H->t D σ H):PS X e t':=λj s σ H D I q=>h j s σ H D I (i D σ H q)
def wy (h:k9 X e t)(i:∀D σ H,t' D σ H->t D σ H):k9 X e t':=λj s σ H D I q=>h j s σ H D I (i D σ H q)
section
variable{fa:Fa}{K:RG}{μ:Mu}{H:Hp}{σ:L2.St}{Z:Env}{M:Mem}
def t1 {g:Env->Mem->Res D}{E:Type}{f:D->Mem->Res E}{P:E->Mem->Prop}{R:V->Hp->Prop}(y:bz fa K μ H σ Z)(F:RelM fa K μ H M)(h:ae ((g Z M).bind f) P)
 (k:∀x M1 v u j,Ext μ H j u->bz fa K j u σ Z->RelM fa K j u M1->Rep fa K j u x v->ae (f x M1) P->R v u):tE fa K g σ H R:=by
 obtain(x|M1|e|q):=aI h;show{μ,Z,M,y,F,?_};rw[e];show λv u j B I r1=>k x M1 v u j B (y.ext B) I r1 q
def Ac {g:Env->Mem->Res Bool}{B:Type}{f:Bool->Mem->Res B}{P:B->Mem->Prop}{R:Bool->Hp->Prop}(v:bz fa K μ H σ Z)(E:RelM fa K μ H M)(h:ae ((g Z M).bind f) P)
 (k:∀b M1 u j,Ext μ H j u->bz fa K j u σ Z->RelM fa K j u M1->ae (f b M1) P->R b u):tT fa K g σ H R:=by
 obtain(b|M1|e|q):=aI h;show{μ,Z,M,v,E,?_};rw[e];show λu j y F=>k b M1 u j y (v.ext y) F q
def wb {g:Env->Mem->Res (List D)}{E:Type}{f:List D->Mem->Res E}{P:E->Mem->Prop}{R:List V->Hp->Prop}(y:bz fa K μ H σ Z)(F:RelM fa K μ H M)(h:ae ((g Z M).bind f) P)
 (k:∀ds M1 vs u j,Ext μ H j u->bz fa K j u σ Z->RelM fa K j u M1->aH fa K j u ds vs->ae (f ds M1) P->R vs u):tA fa K g σ H R:=by
 obtain(ds|M1|e|q):=aI h;show{μ,Z,M,y,F,?_};rw[e];show λv u j B I r1=>k ds M1 v u j B (y.ext B) I r1 q
end
mutual
noncomputable def toPy:D->PyData
 |.non=>.none
 |.bl b=>.bool b
 |.int i=>.int i
 |.str x=>.str x
 |.tup h=>.tuple (cD h)
 |.lst h=>.list (cD h)
 |.frz _=>.none
 |.cell _=>.none
 |.fn _=>.none
 |.exc _ _=>.none
noncomputable def cD:List D->List PyData
 |[]=>[]
 |d::r=>toPy d::cD r
end
def qp:∀(n:Nat) (d:D),aC n d=true->(toPy d).canLay0=true/\(toPy d).depth<=n:=by
 have all:∀(n:Nat),(∀d,aC n d=true->(toPy d).canLay0=true/\(toPy d).depth<=n)->∀j:List D,j.all (aC n)=true->PyData.canLayAll0 (cD j)=true/\PyData.depthAll (cD j)<=n:=by
  intro n h j;induction j with
  |nil=>intro _;simp[cD,PyData.canLayAll0,PyData.depthAll]
  | cons d r u=>
    intro q;dsimp[SQ,RM] at q;obtain(h1|h2):=h d q.1;obtain(h3|h4):=u q.2;dsimp[cD,PyData.canLayAll0,PyData.depthAll,h1,h3,Bool.and_self,true_and];omega
 intro n;induction n with
 | zero=>
   intro d h;cases d with
   |str x=>show{by simpa[toPy,PyData.canLay0,PyData.strOk,aC] using h,by simp[toPy,PyData.depth]}
   |tup _=>simp[aC] at h
   |lst _=>simp[aC] at h
   |frz _=>simp[aC] at h
   |cell _=>simp[aC] at h
   |fn _=>simp[aC] at h
   |exc y p=>simp[aC] at h
   |_=>show{by simp[toPy,PyData.canLay0],by simp[toPy,PyData.depth]}
 | succ n u=>
   intro d h;cases d with
   |str x=>show{by simpa[toPy,PyData.canLay0,PyData.strOk,aC] using h,by simp[toPy,PyData.depth]}
   | tup j=>
     obtain(h1|h2):=all n u j (by simpa[aC] using h)
     dsimp[toPy,PyData.canLay0,PyData.depth,h1,true_and];omega
   | lst j=>
     obtain(h1|h2):=all n u j (by simpa[aC] using h)
     dsimp[toPy,PyData.canLay0,PyData.depth,h1,true_and];omega
   |frz _=>simp[aC] at h
   |cell _=>simp[aC] at h
   |fn _=>simp[aC] at h
   |exc y p=>simp[aC] at h
   |_=>show{by simp[toPy,PyData.canLay0],by simp[toPy,PyData.depth]}
def jH (h:aC 64 d=true):SeqAt.shaped (toPy d)=true:=by
 obtain(h1|h2):=qp 64 d h;simp[SeqAt.shaped,h1,h2]
mutual
theorem nJ:∀(n m:Nat) (a b:D),aC n a=true->aC m b=true->PyData.eqv (toPy a) (toPy b)=bU a b
 | n,m,.tup a,.tup b,h,j=>by
   cases n with
   |zero=>simp[aC] at h
   | succ n=>
     cases m with
     |zero=>simp[aC] at j
     | succ m=>
       show oW n m a b (by simpa[aC] using h) (by simpa[aC] using j)
 | n,m,.lst a,.lst b,h,j=>by
   cases n with
   |zero=>simp[aC] at h
   | succ n=>
     cases m with
     |zero=>simp[aC] at j
     | succ m=>
       show oW n m a b (by simpa[aC] using h) (by simpa[aC] using j)
 |n,m,.frz _,_,h,j=>by cases n<;>simp[aC] at h
 |n,m,.cell _,_,h,j=>by cases n<;>simp[aC] at h
 |n,m,.fn _,_,h,j=>by cases n<;>simp[aC] at h
 |n,m,.exc _ _,_,h,j=>by cases n<;>simp[aC] at h
 |n,m,_,.frz _,h,j=>by cases m<;>simp[aC] at j
 |n,m,_,.cell _,h,j=>by cases m<;>simp[aC] at j
 |n,m,_,.fn _,h,j=>by cases m<;>simp[aC] at j
 |n,m,_,.exc _ _,h,j=>by cases m<;>simp[aC] at j
 |_,_,.non,.non,_,_=>by first|rfl|simp[toPy,PyData.eqv];rfl
 |_,_,.non,.bl _,_,_=>by first|rfl|simp[toPy,PyData.eqv];rfl
 |_,_,.non,.int _,_,_=>by first|rfl|simp[toPy,PyData.eqv];rfl
 |_,_,.non,.str _,_,_=>by first|rfl|simp[toPy,PyData.eqv];rfl
 |_,_,.non,.tup _,_,_=>by first|rfl|simp[toPy,PyData.eqv];rfl
 |_,_,.non,.lst _,_,_=>by first|rfl|simp[toPy,PyData.eqv];rfl
 |_,_,.bl _,.non,_,_=>by first|rfl|simp[toPy,PyData.eqv];rfl
 |_,_,.bl _,.bl _,_,_=>by first|rfl|simp[toPy,PyData.eqv];rfl
 |_,_,.bl _,.int _,_,_=>by first|rfl|simp[toPy,PyData.eqv];rfl
 |_,_,.bl _,.str _,_,_=>by first|rfl|simp[toPy,PyData.eqv];rfl
 |_,_,.bl _,.tup _,_,_=>by first|rfl|simp[toPy,PyData.eqv];rfl
 |_,_,.bl _,.lst _,_,_=>by first|rfl|simp[toPy,PyData.eqv];rfl
 |_,_,.int _,.non,_,_=>by first|rfl|simp[toPy,PyData.eqv];rfl
 |_,_,.int _,.bl _,_,_=>by first|rfl|simp[toPy,PyData.eqv];rfl
 |_,_,.int _,.int _,_,_=>by first|rfl|simp[toPy,PyData.eqv];rfl
 |_,_,.int _,.str _,_,_=>by first|rfl|simp[toPy,PyData.eqv];rfl
 |_,_,.int _,.tup _,_,_=>by first|rfl|simp[toPy,PyData.eqv];rfl
 |_,_,.int _,.lst _,_,_=>by first|rfl|simp[toPy,PyData.eqv];rfl
 |_,_,.str _,.non,_,_=>by first|rfl|simp[toPy,PyData.eqv];rfl
 |_,_,.str _,.bl _,_,_=>by first|rfl|simp[toPy,PyData.eqv];rfl
 |_,_,.str _,.int _,_,_=>by first|rfl|simp[toPy,PyData.eqv];rfl
 |_,_,.str _,.str _,_,_=>by first|rfl|simp[toPy,PyData.eqv];rfl
 |_,_,.str _,.tup _,_,_=>by first|rfl|simp[toPy,PyData.eqv];rfl
 |_,_,.str _,.lst _,_,_=>by first|rfl|simp[toPy,PyData.eqv];rfl
 |_,_,.tup _,.non,_,_=>by first|rfl|simp[toPy,PyData.eqv];rfl
 |_,_,.tup _,.bl _,_,_=>by first|rfl|simp[toPy,PyData.eqv];rfl
 |_,_,.tup _,.int _,_,_=>by first|rfl|simp[toPy,PyData.eqv];rfl
 |_,_,.tup _,.str _,_,_=>by first|rfl|simp[toPy,PyData.eqv];rfl
 |_,_,.tup _,.lst _,_,_=>by first|rfl|simp[toPy,PyData.eqv];rfl
 |_,_,.lst _,.non,_,_=>by first|rfl|simp[toPy,PyData.eqv];rfl
 |_,_,.lst _,.bl _,_,_=>by first|rfl|simp[toPy,PyData.eqv];rfl
 |_,_,.lst _,.int _,_,_=>by first|rfl|simp[toPy,PyData.eqv];rfl
 |_,_,.lst _,.str _,_,_=>by first|rfl|simp[toPy,PyData.eqv];rfl
 |_,_,.lst _,.tup _,_,_=>by first|rfl|simp[toPy,PyData.eqv];rfl
theorem oW:∀(n m:Nat) (a b:List D),a.all (aC n)=true->b.all (aC m)=true->PyData.eqvAll (cD a) (cD b)=dI a b
 |n,m,[],[],_,_=>by simp[cD,PyData.eqvAll,dI]
 |n,m,[],_::_,_,_=>by simp[cD,PyData.eqvAll,dI]
 |n,m,_::_,[],_,_=>by simp[cD,PyData.eqvAll,dI]
 | n,m,x::a,y::b,h,j=>by
   dsimp[SQ,RM] at h j;dsimp[cD,PyData.eqvAll,dI];rw[nJ n m x y h.1 j.1,oW n m a b h.2 j.2]
end
section
variable{fa:Fa}{X:Cx}{μ:Mu}{H:Hp}{σ:L2.St}{pins:List (Addr×Obj)}{s:RO}{M:Mem}
def jr (j:RelM fa X.K μ H M)(h:Rep fa X.K μ H d v)(e:jt M d=some ds):∃a vs,v=.ref a/\H a=some (.lst vs)/\aH fa X.K μ H ds vs:=by
 cases d with
 | lst xs=>
   cases e;obtain(a|vs|e|s|r):=h;show⟨a,vs,e,s.1,r⟩
 | cell k=>
   obtain(a|rfl|hk):=h;obtain(vs|h2|h3):=j.at_ e hk;show⟨a,vs,rfl,h2,h3⟩
 |_=>cases e
def bR (j:RelM fa X.K μ H M)(h:Rep fa X.K μ H d v)(e:ez M d=some ds):∃a vs,v=.ref a/\cQ X.K H a vs/\aH fa X.K μ H ds vs:=by
 cases d with
 | lst xs=>
   obtain(a|vs|h1|h2|h3):=jr j h e;show{a,vs,h1,.of h2,h3}
 | frz xs=>
   cases e;obtain(a|vs|e|s|r):=h;show{a,vs,e,s.elim (λz=>.inl (.inr z)) .inr,r}
 | cell k=>
   obtain(a|vs|h1|h2|h3):=jr j h e;show{a,vs,h1,.of h2,h3}
 |_=>cases e
def jq (j:RelM fa X.K μ H M)(h:Rep fa X.K μ H d v)(e:cH M d=some ds):∃a vs,v=.ref a/\(cQ X.K H a vs\/du X.K H a vs)/\aH fa X.K μ H ds vs:=by
 cases d with
 | tup xs=>
   cases e;obtain(a|vs|rfl|h1|h2):=h;show{a,vs,rfl,.inr h1,h2}
 | lst xs=>
   obtain(a|vs|h1|h2|h3):=bR j h e;show{a,vs,h1,.inl h2,h3}
 | frz xs=>
   obtain(a|vs|h1|h2|h3):=bR j h e;show{a,vs,h1,.inl h2,h3}
 | cell k=>
   obtain(a|vs|h1|h2|h3):=bR j h e;show{a,vs,h1,.inl h2,h3}
 |_=>cases e
mutual
theorem dN (I:Inv X pins σ H s):∀(d:D) (n:Nat) (v:V) (u:RJ),aC n d=true->Rep fa X.K μ H d v->RelV v u->∃B,Reads s.heap u (toPy d) B
 | .non,n,v,u,_,h,r=>by
   obtain rfl:v=.non:=h;obtain rfl:u=Value.none:=r;show{_,.none}
 | .bl b,n,v,u,_,h,r=>by
   obtain rfl:v=.bl b:=h;obtain rfl:u=Value.bool b:=r;show{_,.bool b}
 | .int i,n,v,u,_,h,r=>by
   obtain rfl:v=.int i:=h;obtain(t|rfl):=r;show{_,.int i t}
 | .str x,n,v,u,_,h,r=>by
   obtain rfl:v=.str x:=h;obtain(t|rfl):=r;show{_,.str x t}
 | .tup E,n,v,u,j,h,r=>by
   cases n with
   |zero=>simp[aC] at j
   | succ n=>
     obtain(a|L|rfl|h1|h2):=h;obtain rfl:u=Value.ref a:=r;obtain(y|J|(o|e1|e2|k|F)|_):=I.tuple h1;obtain(B|q):=fj I E n L y (by simpa[aC] using j) h2 J
     show{_,.tuple e1 e2 F (~~~q)}
 | .lst E,n,v,u,j,h,r=>by
   cases n with
   |zero=>simp[aC] at j
   | succ n=>
     obtain(a|L|rfl|h1|h2):=h;obtain rfl:u=Value.ref a:=r;obtain(y|J|(o|k|e1|e2|O|F)|_):=I.list (cQ.of h1.1);obtain(B|q):=fj I E n L y (by simpa[aC] using j) h2 J
     show{_,.list e1 e2 F (~~~q)}
 |.frz k,n,v,u,j,_,_=>by cases n<;>simp[aC] at j
 |.cell k,n,v,u,j,_,_=>by cases n<;>simp[aC] at j
 |.fn f,n,v,u,j,_,_=>by cases n<;>simp[aC] at j
 |.exc _ _,n,v,u,j,_,_=>by cases n<;>simp[aC] at j
theorem fj (I:Inv X pins σ H s):∀(ds:List D) (n:Nat) (vs:List V) (us:List RJ),ds.all (aC n)=true->aH fa X.K μ H ds vs->Vals vs us->∃u,ReadsAll s.heap us (cD ds) u
 | [],n,vs,us,_,h,r=>by
   obtain rfl:vs=[]:=h;cases r;show{_,.nil}
 | d::ds,n,vs,us,j,h,r=>by
   obtain(v|vr|rfl|h1|h2):=h;dsimp[SQ,RM] at j;cases r with
   | cons r1 r2=>
     obtain(u|y):=dN I d n v _ j.1 h1 r1;obtain(bs|B):=fj I ds n vr _ j.2 h2 r2;show{_,.cons y B}
end
def Hb (h:aC n (view M d)=true):(view M d=d/\aC n d=true)\/∃ds,ez M d=some ds/\view M d=.lst ds:=by
 cases d with
 | cell k=>
   cases e:M[k]? with
   | none=>
     have j:view M (.cell k)=.cell k:=by simp[view,e]
     rw[j] at h;cases n<;>simp[aC] at h
   |some ds=>show .inr {ds,e,by simp[view,e]}
 |frz ds=>show .inr ⟨ds,rfl,rfl⟩
 |_=>show .inl ⟨rfl,h⟩
def lh (I:Inv X pins σ H s)(O:RelM fa X.K μ H M)(j:aC 64 (view M d)=true)(h:Rep fa X.K μ H d v)(r:RelV v u):∃E,Reads s.heap u (toPy (view M d)) E:=by
 rcases Hb j with⟨e,y⟩|⟨F,e,L⟩
 .rw[e];show dN I _ 64 v u y h r
 .rw[L] at j ⊢;obtain(a|Q|rfl|h1|h2):=bR O h e;obtain rfl:u=Value.ref a:=r;obtain(B|P|(o|k|e1|e2|R|J)|_):=I.list h1;obtain(E|q):=fj I F 63 Q B (by simpa[aC] using j) h2 P
  show{_,.list e1 e2 J (~~~q)}
theorem j5 (I:Inv X pins σ H s)(L:RelM fa X.K μ H M):∀(n m:Nat) (d:D) (v:V) (u:RJ),aC m (da n M d)=true->Rep fa X.K μ H d v->RelV v u->∃F,Reads s.heap u (toPy (da n M d)) F
 |0,m,d,v,u,j,h,r=>dN I d m v u j h r
 | n+1,m,d,v,u,j,h,r=>by
   have U:=j5 I L n;have all:∀(m:Nat) (B:List D) (E:List V) (O:List RJ),(B.map (da n M)).all (aC m)=true->aH fa X.K μ H B E->Vals E O->∃F,ReadsAll s.heap O (cD (B.map (da n M))) F:=by
    intro m B;induction B with
    | nil=>
      intro E O _ h r;obtain rfl:E=[]:=h;cases r;show{_,.nil}
    | cons d B R=>
      intro E O j h r;obtain(v|vr|rfl|h1|h2):=h;dsimp[S3,SQ,RM] at j;cases r with
      | cons r1 r2=>
        obtain(F|W):=U m d v _ j.1 h1 r1;obtain(bs|Y):=R vr _ j.2 h2 r2;show{_,.cons W Y}
   have lst:∀(B:List D) (a:Addr) (E:List V),aC m (.lst (B.map (da n M)))=true->cQ X.K H a E->aH fa X.K μ H B E->u=.ref a->∃F,Reads s.heap u (toPy (.lst (B.map (da n M)))) F:=by
    intro B a E j h1 h2 e;subst e;cases m with
    |zero=>simp[aC] at j
    | succ m=>
      obtain(J|S|(o|k|e1|e2|e4|P)|_):=I.list h1;obtain(F|q):=all m B E J (by simpa[aC] using j) h2 S
      show{_,.list e1 e2 P (~~~q)}
   cases d with
   | cell k=>
     cases e:M[k]? with
     | none=>
       have Q:da (n+1) M (.cell k)=.cell k:=by simp[da,e]
       rw[Q] at j;cases m<;>simp[aC] at j
     | some B=>
       have Q:da (n+1) M (.cell k)=.lst (B.map (da n M)):=by simp[da,e]
       rw[Q] at j ⊢;obtain(a|E|rfl|h1|h2):=bR L h e;show lst B a E j h1 h2 r
   | frz B=>
     obtain(a|E|rfl|h1|h2):=bR L h rfl;show lst B a E j h1 h2 r
   | lst B=>
     obtain(a|E|rfl|h1|h2):=bR L h rfl;show lst B a E j h1 h2 r
   | tup B=>
     have j:aC m (.tup (B.map (da n M)))=true:=j;cases m with
     |zero=>simp[aC] at j
     | succ m=>
       obtain(a|E|rfl|h1|h2):=h;obtain rfl:u=Value.ref a:=r;obtain(J|S|(o|e1|e2|k|P)|_):=I.tuple h1;obtain(F|q):=all m B E J (by simpa[aC] using j) h2 S
       show{_,.tuple e1 e2 P (~~~q)}
   |non=>show dN I .non m v u j h r
   |bl b=>show dN I (.bl b) m v u j h r
   |int i=>show dN I (.int i) m v u j h r
   |str x=>show dN I (.str x) m v u j h r
   |fn f=>show dN I (.fn f) m v u j h r
   |exc y p=>show dN I (.exc y p) m v u j h r
abbrev Rm (X:Cx):Prop:=X.A.units+100<cLine
def gK (fa:Fa)(K:RG)(o:j4):R2:=λx y H Q=>∃μ M h j b,RelM fa K μ H M/\Rep fa K μ H h x/\Rep fa K μ H j y/\bo o h j M=some b/\Q (.bl b) H
set_option tactic.hygienic true in
def u1 (hs:(g8 a&&g8 b)=false)(h:p8 a b=some k):aC 64 a=true/\aC 64 b=true/\k=bU a b:=by
 unfold p8 at h;rw[hs,Bool.false_or] at h;split at h
 .next q=>
  dsimp[RM] at q;show{q.1,q.2,(RQ h).symm}
 .cases h
def uQ (d:D):g8 (view M d)=g8 d:=by
 cases d with
 |cell k=>cases e:M[k]?<;>simp[view,e,g8]
 |_=>rfl
def rQ (n:Nat)(d:D):g8 (da n M d)=g8 d:=by
 cases n with
 |zero=>rfl
 | succ n=>
   cases d with
   |cell k=>cases e:M[k]?<;>simp[da,e,g8]
   |_=>rfl
def rZ (I:Inv X pins σ H s)(B:RelM fa X.K μ H M)(hs:(g8 a&&g8 b)=false)(h:mP M a b=some k)(h1:Rep fa X.K μ H a x)(h2:Rep fa X.K μ H b y)(E:RelV x v)(F:RelV y u) :
 ∃c e j bs,aC 64 c=true/\aC 64 e=true/\k=bU c e/\Reads s.heap v (toPy c) j/\Reads s.heap u (toPy e) bs:=by
 unfold mP at h;cases q:p8 (view M a) (view M b) with
 | some r=>
   rw[q] at h;cases h;obtain(p1|p2|e):=u1 (by rw[uQ,uQ];show hs) q
   obtain(j|r1):=lh I B p1 h1 E;obtain(bs|r2):=lh I B p2 h2 F;show{_,_,j,bs,p1,p2,e,r1,r2}
 | none=>
   rw[q] at h;obtain(p1|p2|e):=u1 (by rw[rQ,rQ];show hs) h
   obtain(j|r1):=j5 I B 64 64 a x v p1 h1 E;obtain(bs|r2):=j5 I B 64 64 b y u p2 h2 F;show{_,_,j,bs,p1,p2,e,r1,r2}
def tR (h:(g8 a&&g8 b)=true):∃x y,a=.str x/\b=.str y:=by
 cases a with
 | str x=>
   cases b with
   |str y=>show⟨x,y,rfl,rfl⟩
   |_=>cases h
 |_=>cases h
def xn:mP M (.str x) (.str y)=some (x==y):=by
 have e:bU (.str x) (.str y)=(x==y):=rfl;rw[<- e];rfl
def Ro (O:Rm X):bY X (compareOp .Eq) (gK fa X.K .eq):=by
 intro pins s σ H x y v u Q I B E h;obtain(μ|M|F|J|b|L|h1|h2|e|q):=h;cases hs:g8 F&&g8 J with
 | true=>
   obtain(i|j|rfl|rfl):=tR hs;obtain rfl:x=.str i:=h1;obtain rfl:y=.str j:=h2;obtain rfl:(i==j)=b:=RQ (xn.symm.trans e);show OC pins s σ H _ _ v u Q I B E {rfl,by rw[nN];show q}
 | false=>
   obtain(_|_|P|bs|p1|p2|rfl|r1|r2):=rZ I L hs (e) h1 h2 B E;show SeqAt.compareEq_shaped r1 r2 (jH p1) (jH p2) (by unfold Rm at O;omega) ?_
   rw[nJ 64 64 _ _ p1 p2];show{.bl _,H,I,rfl,q}
def Rh (P:Rm X):bY X (compareOp .NotEq) (gK fa X.K .ne):=by
 intro pins s σ H x y v u Q I J L h;obtain(μ|M|E|F|b|O|h1|h2|e|q):=h;have e:(mP M E F).map (!·)=some b:=e;cases B:mP M E F with
 |none=>rw[B] at e;cases e
 | some k=>
   rw[B] at e;obtain rfl:(!k)=b:=RQ e;cases hs:g8 E&&g8 F with
   | true=>
     obtain(i|j|rfl|rfl):=tR hs;obtain rfl:x=.str i:=h1;obtain rfl:y=.str j:=h2;obtain rfl:(i==j)=k:=RQ (xn.symm.trans B);show Ox pins s σ H _ _ v u Q I J L {rfl,by rw[nN];show q}
   | false=>
     obtain(_|_|R|bs|p1|p2|rfl|r1|r2):=rZ I O hs B h1 h2 J L;show SeqAt.compareNe_shaped r1 r2 (jH p1) (jH p2) (by unfold Rm at P;omega) ?_
     rw[nJ 64 64 _ _ p1 p2];show{.bl _,H,I,rfl,q}
end
section
variable{fa:Fa}{X:Cx}{μ:Mu}{H:Hp}{σ:L2.St}{pins:List (Addr×Obj)}{s:RO}{M:Mem}
def iy (h:bY X f r)(i:∀x y H Q,r' x y H Q->r x y H Q):bY X f r':=λpins s σ H x y v u Q I j B q=>h pins s σ H x y v u Q I j B (i x y H Q q)
def lR (h:cn X f r)(i:∀xs H Q,r' xs H Q->r xs H Q):cn X f r':=λpins s σ H xs u Q I j q=>h pins s σ H xs u Q I j (i xs H Q q)
def nO {g:Int->Int->Bool}(ho:o=.lt\/o=.le\/o=.gt\/o=.ge)(I:∀i j,bo o (.int i) (.int j) []=some (g i j))(h:gK fa X.K o x y H Q) :
 ∃i j,x=.int i/\y=.int j/\Q (.bl (g i j)) H:=by
 obtain(μ|M|v|B|b|J|h1|h2|e|q):=h;have u:∀i j,v=.int i->B=.int j->∃i j,x=.int i/\y=.int j/\Q (.bl (g i j)) H:=λi j e1 e2=>by
  subst e1 e2;have E:bo o (.int i) (.int j) M=some (g i j):=by
   have:=I i j;rcases ho with rfl|rfl|rfl|rfl<;>show this
  rw[e] at E;have F:=RQ E;subst F;show⟨i,j,h1,h2,q⟩
 rcases ho with rfl|rfl|rfl|rfl<;>
 .cases v with
  |int i=>cases B<;>first|show u _ _ rfl rfl|cases e
  |_=>cases e
def Ri:bY X (compareOp .Lt) (gK fa X.K .lt):=iy Oy λx y H Q h=>nO (.inl rfl) (λ_ _=>rfl) h
def Rj:bY X (compareOp .LtE) (gK fa X.K .le):=iy Oz λx y H Q h=>nO (.inr (.inl rfl)) (λ_ _=>rfl) h
def Rl:bY X (compareOp .Gt) (gK fa X.K .gt):=iy OA λx y H Q h=>nO (.inr (.inr (.inl rfl))) (λ_ _=>rfl) h
def Rn:bY X (compareOp .GtE) (gK fa X.K .ge):=iy OB λx y H Q h=>nO (.inr (.inr (.inr rfl))) (λ_ _=>rfl) h
def wq {K:RG}(h:Rep fa K μ H d v):decide (v=.non)=eQ d:=by
 cases d with
 |non=>obtain rfl:v=.non:=h;rfl
 |bl b=>obtain rfl:v=.bl b:=h;rfl
 |int b=>obtain rfl:v=.int b:=h;rfl
 |str b=>obtain rfl:v=.str b:=h;rfl
 |tup b=>obtain(a|j|rfl|_):=h;rfl
 |lst b=>obtain(a|j|rfl|_):=h;rfl
 |frz b=>obtain(a|j|rfl|_):=h;rfl
 |cell b=>obtain(a|rfl|_):=h;rfl
 |fn b=>obtain(a|rfl|_):=h;rfl
 |exc y p=>obtain(a|_|_|rfl|_):=h;rfl
def Pp:bY X (compareOp .Is) (gK fa X.K .isN):=iy LL λx y H Q h=>by
 obtain(μ|M|u|j|b|v|h1|h2|e|q):=h;cases j<;>first|cases (show(none:Option Bool)=some b from e)|skip
 show{h2,?_};rw[wq h1];rw[RQ e];show q
def Nz:bY X (compareOp .IsNot) (gK fa X.K .notN):=iy Ik λx y H Q h=>by
 obtain(μ|M|u|j|b|v|h1|h2|e|q):=h;cases j<;>first|cases (show(none:Option Bool)=some b from e)|skip
 show{h2,?_};rw[wq h1];rw[RQ e];show q
noncomputable def vD (x:D)(j:aC 64 x=true):∀(ds:List D),ds.all (aC 63)=true->((cD ds).any λy=>PyData.eqv y (toPy x))=ds.any λy=>bU y x
 |[],_=>rfl
 | d::r,h=>by
   dsimp[SQ,RM] at h;dsimp[cD,List.any_cons,nJ 63 64 d x h.1 j,vD x j r h.2]
theorem tJ (n:Nat):∀ds:List D,ds.all (aC n)=true->PyData.canLayAll0 (cD ds)=true/\PyData.depthAll (cD ds)<=n
 |[],_=>by simp[cD,PyData.canLayAll0,PyData.depthAll]
 | d::r,h=>by
   dsimp[SQ,RM] at h;obtain(h1|h2):=qp n d h.1;obtain(h3|h4):=tJ n r h.2;dsimp[cD,PyData.canLayAll0,PyData.depthAll,h1,h3,Bool.and_self,true_and];omega
def As (I:Inv X pins σ H s)(L:RelM fa X.K μ H M)(F:ds.all (aC 63)=true)(h:Rep fa X.K μ H d v)(r:RelV v u)(e:cH M d=some ds) :
 (∃y,Reads s.heap u (.list (cD ds)) y)\/∃y,Reads s.heap u (.tuple (cD ds)) y:=by
 obtain(a|J|rfl|h1|h2):=jq L h e;obtain rfl:u=Value.ref a:=r;rcases h1 with h1|h1
 .obtain(j|E|(o|k|e1|e2|O|B)|_):=I.list h1;obtain(y|q):=fj I ds 63 J j F h2 E;show .inl {_,.list e1 e2 B (~~~q)}
 .obtain(j|E|(o|e1|e2|k|B)|_):=I.tuple h1;obtain(y|q):=fj I ds 63 J j F h2 E;show .inr {_,.tuple e1 e2 B (~~~q)}
set_option tactic.hygienic true in
def Br (L:Rm X)(I:Inv X pins σ H s)(F:RelM fa X.K μ H M)(h1:Rep fa X.K μ H dx x)(h2:Rep fa X.K μ H dy y)(O:RelV x v)(P:RelV y u)
 (e1:cH M dy=some ds) (e2:jQ (view M dx) ds=some b) (j:Bool) (q:Q (.bool (if j then !b else b)) s):wpAny (model X.prog X.w) X.A (compareOp (if j then .NotIn else .In) v u) Q X.xe s:=by
 unfold jQ at e2;split at e2
 .next z=>
  dsimp[RM] at z;obtain(p1|p2):=z;have J:=RQ e2;subst J;obtain(R|r1):=lh I F p1 h1 O;obtain(B|d1):=qp 64 _ p1;obtain(E|S):=tJ 63 ds p2;have h:X.A.units+1+min (PyData.depthAll (cD ds)) (toPy (view M dx)).depth<cLine:=by unfold Rm at L;omega
  rw[<- vD _ p1 ds p2] at q;rcases As I F p2 h2 P e1 with⟨bs,r2⟩|⟨bs,r2⟩
  .cases j
   .exact SeqAt.in_list_reads r2 r1 E B h q
   .exact SeqAt.notIn_list_reads r2 r1 E B h q
  .cases j
   .exact SeqAt.in_tuple_reads r2 r1 E B h q
   .exact SeqAt.notIn_tuple_reads r2 r1 E B h q
 .cases e2
def Rk (O:Rm X):bY X (compareOp .In) (gK fa X.K .isin):=by
 intro pins s σ H x y v u Q I E F h;obtain(μ|M|B|j|b|L|h1|h2|e|q):=h;have gen:(cH M j).bind (jQ (view M B))=some b->wpAny (model X.prog X.w) X.A (compareOp .In v u) (EP X pins σ Q) X.xe s:=λe=>by
  cases e1:cH M j with
  |none=>rw[e1] at e;cases e
  | some P=>
    rw[e1] at e;show Br O I L h1 h2 E F e1 e false {.bl b,H,I,rfl,q}
 by_cases hs:(∃a,B=.str a)/\∃c,j=.str c
 .obtain((a|rfl)|c|rfl):=hs;have J:=RQ e;subst J;show AO pins s σ H x y v u Q I E F ⟨a,c,h1,h2,q⟩
 .refine gen ?_;cases B<;>first|show e|(cases j<;>first|show e|show absurd {{_,rfl},_,rfl} hs)
def JG (P:Rm X):bY X (compareOp .NotIn) (gK fa X.K .notin):=by
 intro pins s σ H x y v u Q I F J h;obtain(μ|M|j|B|b|O|h1|h2|e|q):=h;have gen:((cH M B).bind (jQ (view M j))).map (!·)=some b->wpAny (model X.prog X.w) X.A (compareOp .NotIn v u) (EP X pins σ Q) X.xe s:=λe=>by
  cases e1:cH M B with
  |none=>rw[e1] at e;cases e
  | some L=>
    rw[e1] at e;cases e2:jQ (view M j) L with
    |none=>rw[T8,e2] at e;cases e
    | some k=>
      rw[T8,e2] at e;have E:=RQ e;subst E;show Br P I O h1 h2 F J e1 e2 true {.bl _,H,I,rfl,q}
 by_cases hs:(∃a,j=.str a)/\∃c,B=.str c
 .obtain((a|rfl)|c|rfl):=hs;have E:=RQ e;subst E;show um pins s σ H x y v u Q I F J ⟨a,c,h1,h2,q⟩
 .refine gen ?_;cases j<;>first|show e|(cases B<;>first|show e|show absurd {{_,rfl},_,rfl} hs)
noncomputable def eE:j4->CmpOp
 |.eq=>.Eq|.ne=>.NotEq|.lt=>.Lt|.le=>.LtE|.gt=>.Gt|.ge=>.GtE|.isN=>.Is|.notN=>.IsNot|.isin=>.In|.notin=>.NotIn
def nQ (h:Rm X):∀o:j4,bY X (compareOp (eE o)) (gK fa X.K o)
 |.eq=>Ro h|.ne=>Rh h|.lt=>Ri|.le=>Rj|.gt=>Rl|.ge=>Rn|.isN=>Pp|.notN=>Nz|.isin=>Rk h|.notin=>JG h
def mv (fa:Fa)(K:RG)(m:Bool)(o:om):R2:=λx y H Q=>∃μ M h j,RelM fa K μ H M/\Rep fa K μ H h x/\Rep fa K μ H j y/\ae (eM m o h j M) (aY fa K μ H Q)
def aO (j:RelM fa X.K μ H M)(h:aY fa X.K μ H Q d M)(r:Rep fa X.K μ H d v):Q v H:=h v H μ .refl j r
set_option tactic.hygienic true in
def eW (j:RelM fa X.K μ H M)(r:aH fa X.K μ H ds vs)(h:ae (bc m ds M) (aY fa X.K μ H Q)):ds.length<=sz/\∀p,H p=none->Q (.ref p) (upd H p (.lst vs)):=by
 unfold bc at h;split at h
 .next v=>
  show{v,λp u=>?_};cases m with
  | true=>
    show h (.ref p) _ (fq μ M.length p) (Ext.cell j u) (j.cell u r) {p,rfl,by simp[fq]}
  | false=>
    show h (.ref p) _ μ (Ext.alloc j u) (j.alloc u) {p,vs,rfl,{cf,j.fresh u},r.ext (Ext.alloc j u)}
 .exact h.elim
def f5 (j:RelM fa X.K μ H M)(r:aH fa X.K μ H ds vs)(h:aY fa X.K μ H Q (.tup ds) M):∀p,H p=none->Q (.ref p) (upd H p (.tup vs)):=λp u=>
 h (.ref p) _ μ (Ext.alloc j u) (j.alloc u) {p,vs,rfl,.of cf,r.ext (Ext.alloc j u)}
def dr:sz=sizeLine:=by rw[sizeLine_eq];rfl
def DC:bY X (binaryOp .Add) (λx y H Q=>∃a b ys,x=.ref a/\y=.ref b/\du X.K H a []/\du X.K H b ys/\Q (.ref b) H):=by
 intro pins s σ H x y v u Q I rx ry h;obtain(a|b|ys|rfl|rfl|W|Y|q):=h;cases rx;cases ry;obtain(its|r1|p1|_):=I.tuple W;obtain(B|r2|p2|_):=I.tuple Y;cases r1;obtain((cls|U|S|sl)|ho|hc|n|hd):=id p1;obtain((R|J|E|P)|j|L|n2|O):=id p2;subst hc hd L O;show concat_meets {_,ho,rfl} {_,j,rfl} noFill_tuple_add seq_tuple_add PySem.F.slot_tuple_add PySem.F.entry_tuple_add (PySem.F.args_tuple_add_2 _ _)
  (tuple_addW0 a b #[] B.toArray n n2 U J sl P rfl) {ho,j,{.ref b,H,I,rfl,q}}
def EJ (I:Inv X pins σ H s)(j:RelM fa X.K μ H M)(h1:Rep fa X.K μ H dx x)(h2:Rep fa X.K μ H dy y)(O:RelV x v)(P:RelV y u)
 (h:ae (match jt M dx,jt M dy with|some x,some y=>bc m (x++y) M|_,_=>.bad) (aY fa X.K μ H Q)):wpAny (model X.prog X.w) X.A (binaryOp .Add v u) (EP X pins σ Q) X.xe s:=by
 cases e1:jt M dx with
 |none=>rw[e1] at h;show h.elim
 | some xs=>
   cases e2:jt M dy with
   |none=>rw[e1,e2] at h;show h.elim
   | some U=>
     rw[e1,e2] at h;obtain(a|R|rfl|F|B):=jr j h1 e1;obtain(b|S|rfl|J|E):=jr j h2 e2;obtain(L|k):=eW j (B.append E) h;show LM pins s σ H _ _ v u Q I O P {a,b,R,S,rfl,rfl,F,J,?_,k};rw[B.length,E.length,<- Sa,<- dr];show L
set_option tactic.hygienic true in
def Py (m:Bool):bY X (binaryOp .Add) (mv fa X.K m .add):=by
 intro pins s σ H x y v u Q I F J h;obtain(μ|M|L|O|B|h1|h2|h):=h;have hi:∀i j,L=.int i->O=.int j->wpAny (model X.prog X.w) X.A (binaryOp .Add v u) (EP X pins σ Q) X.xe s:=λi j e1 e2=>by
  subst e1 e2;show LN pins s σ H x y v u Q I F J {i,j,h1,h2,aO B h rfl}
 have hs:∀i j,L=.str i->O=.str j->wpAny (model X.prog X.w) X.A (binaryOp .Add v u) (EP X pins σ Q) X.xe s:=λi j e1 e2=>by
  subst e1 e2;have h:ae (if i.cps.size+j.cps.size<=sz then .ok (.str {i.cps++j.cps}) M else .bad) (aY fa X.K μ H Q):=h;split at h
  .next W=>show yj pins s σ H x y v u Q I F J {i,j,h1,h2,by rw[<- dr];show W,aO B h rfl}
  .exact h.elim
 have ht:∀i j,L=.tup i->O=.tup j->wpAny (model X.prog X.w) X.A (binaryOp .Add v u) (EP X pins σ Q) X.xe s:=λi j e1 e2=>by
  subst e1 e2;have h:ae (if (i++j).length<=sz then .ok (.tup (i++j)) M else .bad) (aY fa X.K μ H Q):=h;split at h
  .next W=>
   obtain(a|R|e1|S|E):=id h1;obtain(b|Y|e2|U|P):=id h2;by_cases h0:i=[]
   .subst h0;obtain rfl:R=[]:=E;show DC pins s σ H x y v u Q I F J {a,b,Y,e1,e2,S,U,aO B h ⟨b,Y,rfl,U,P⟩}
   .have hv:R≠[]:=λz=>h0 (by have:=E.length;rw[z] at this;show TH.mp this.symm)
    show Im pins s σ H x y v u Q I F J {a,b,R,Y,e1,e2,S,U,hv,?_,λz=>?_,λ_=>f5 B (E.append P) h}
    .rw[E.length,P.length,<- Sa,<- dr];show W
    .subst z;have ej:=TH.mp P.length.symm;subst ej;show aO B h {a,R,rfl,S,by simpa using E}
  .exact h.elim
 cases L<;>cases O<;>first|show hi _ _ rfl rfl|show hs _ _ rfl rfl|show ht _ _ rfl rfl|show EJ (m:=m) I B h1 h2 F J h
def tf {g:Int->Int->Int}(hr:bY X (binaryOp op) (rI C λi j=>.int (g i j)))
 (B:∀u v M (P:D->Mem->Prop),ae (eM m o u v M) P->∃i j,u=.int i/\v=.int j/\C i j/\P (.int (g i j)) M):bY X (binaryOp op) (mv fa X.K m o):=iy hr λx y H Q h=>by
 obtain(μ|M|u|v|E|h1|h2|h):=h;obtain(i|j|rfl|rfl|c|q):=B u v M _ h;show{i,j,h1,h2,c,aO E q rfl}
def Pr (m:Bool):bY X (binaryOp .Sub) (mv fa X.K m .sub):=tf (C:=λ_ _=>True) (iy LG (by rintro x y H Q ⟨i,j,e1,e2,_,q⟩;show⟨i,j,e1,e2,q⟩)) λu v M P h=>by
 cases u<;>cases v<;>first|show{_,_,rfl,rfl,trivial,h}|show h.elim
set_option tactic.hygienic true in
def NC (m:Bool):bY X (binaryOp .FloorDiv) (mv fa X.K m .fdiv):=tf Il λu v M P h=>by
 have y:∀i j,u=.int i->v=.int j->∃i j,u=.int i/\v=.int j/\NZ i j/\P (.int (i / j)) M:=λi j e1 e2=>by
  subst e1 e2;have h:ae (if 0<j/\j<1073741824 then .ok (.int (i / j)) M else .bad) P:=h;split at h
  .next c=>show⟨i,j,rfl,rfl,c,h⟩
  .exact h.elim
 cases u<;>cases v<;>first|show y _ _ rfl rfl|show h.elim
set_option tactic.hygienic true in
def Pw (m:Bool):bY X (binaryOp .Mod) (mv fa X.K m .mod):=tf LK λu v M P h=>by
 have y:∀i j,u=.int i->v=.int j->∃i j,u=.int i/\v=.int j/\0<j/\P (.int (i % j)) M:=λi j e1 e2=>by
  subst e1 e2;have h:ae (if 0<j then .ok (.int (i % j)) M else .bad) P:=h;split at h
  .next c=>show⟨i,j,rfl,rfl,c,h⟩
  .exact h.elim
 cases u<;>cases v<;>first|show y _ _ rfl rfl|show h.elim
set_option tactic.hygienic true in
def Pt (m:Bool):bY X (binaryOp .Pow) (mv fa X.K m .pow):=tf LI λu v M P h=>by
 have y:∀i j,u=.int i->v=.int j->∃i j,u=.int i/\v=.int j/\NY i j/\P (.int (i^j.toNat)) M:=λi j e1 e2=>by
  subst e1 e2;have h:ae (if 0<=j/\j<=1000000/\i.natAbs<2^64 then .ok (.int (i^j.toNat)) M else .bad) P:=h;split at h
  .next c=>show⟨i,j,rfl,rfl,c,h⟩
  .exact h.elim
 cases u<;>cases v<;>first|show y _ _ rfl rfl|show h.elim
set_option tactic.hygienic true in
def Dm {j:Int}(I:Inv X pins σ H s)(B:RelM fa X.K μ H M)(h1:Rep fa X.K μ H dx x)(h2:Rep fa X.K μ H (.int j) y)(J:RelV x v)(L:RelV y u)
 (h:ae (match jt M dx with|some x=>if x.length*j.toNat<=sz/\-(2^63)<=j/\j<2^63 then bc m (List.replicate j.toNat x).flatten M else .bad|none=>.bad) (aY fa X.K μ H Q)) :
 wpAny (model X.prog X.w) X.A (binaryOp .Mult v u) (EP X pins σ Q) X.xe s:=by
 cases e1:jt M dx with
 |none=>rw[e1] at h;show h.elim
 | some xs=>
   rw[e1] at h;dsimp at h;split at h
   .next c=>
    obtain(a|O|rfl|F|E):=jr B h1 e1;obtain(P|k):=eW B (E.rep j.toNat) h;show LH pins s σ H _ _ v u Q I J L {a,j,O,rfl,h2,F,c.2.1,c.2.2,by rw[E.length,<- dr];show c.1,k}
   .exact h.elim
end
end LD
namespace LD
open PySem PySem.Spec PyProof.Rows L2 PySem.Builtin
open PySem.Sem (wp)
def oH:fillsNumberSlot (.type "tuple") "mul"=pure false:=
 PySem.fillsNumberSlot_seq F.slot_tuple_mul.lookup `k F.slot_tuple_rmul.lookup `k
def t7:seqRepeat? (.type "tuple")=pure (some (.builtin "tuple.__mul__")):=by
 unfold seqRepeat?;rw[PySem.seqSlot_of (name:="__mul__") F.slot_tuple_mul.lookup `k,PySem.seqSlot_of (name:="__rmul__") F.slot_tuple_rmul.lookup `k]
 rfl
def qu (a:Int)(t:Tok)(l:Addr)(items:Array RJ)(n:Nat)(dd:Option Addr)(sl:Array (Option RJ)) :
 Meets (Builtin.«int.__rmul__» {[.int a t,.ref l],[]}) (λ_ R s=>s.heap.get? l=some {cls:=.type "tuple",dict:=dd,data:=.seq items n,slots:=sl}/\R (.ok (.ret Value.notImplemented)) s):=
 .of_wp λprog w A R s h=>by obtain(j|g|d|tk|os):=s;obtain(hl|h):=h;wp_walk using wpAny_loadPart' hl;show{_,rfl,h}
def yh {x:Int}(h:-(2^63)<=x)(h1:x<2^63):(decide (x < -2^63)||decide (x≥2^63))=false:=by
 rw[decide_eq_false `a,decide_eq_false `a];rfl
def qF (l:Addr)(items:Array RJ)(n:Nat)(dd:Option Addr)(sl:Array (Option RJ))(x:Int)(u:Tok)(j:-(2^63)<=x)(h1:x<2^63)(v:(items.isEmpty||x==1)=true) :
 Meets (Builtin.«tuple.__mul__» {[.ref l,.int x u],[]}) (λ_ R s=>s.heap.get? l=some {cls:=.type "tuple",dict:=dd,data:=.seq items n,slots:=sl}/\R (.ok (.ret (.ref l))) s):=
 .of_wp λprog w A R s h=>by
  obtain(y|g|d|tk|os):=s;obtain(hl|h):=h;have f1:=AutoSeq1.idx_int;wp_walk using wpAny_loadPart' hl
  show wpAny_ite_false (by rw[yh j h1];rfl) ?_
  wp_walk using wpAny_loadPart' hl
  show{_,rfl,h}
def qG (l:Addr)(items:Array RJ)(n:Nat)(dd:Option Addr)(sl:Array (Option RJ))(x:Int)(u:Tok)(j:-(2^63)<=x)(h1:x<2^63)(y:(items.isEmpty||x==1)=false)(v:(decide (x<=0)||items.isEmpty)=true) :
 Meets (Builtin.«tuple.__mul__» {[.ref l,.int x u],[]}) (λ_ R s=>s.heap.get? l=some {cls:=.type "tuple",dict:=dd,data:=.seq items n,slots:=sl}/\R (.ok (.ret (.ref s.heap.objs.size))) {s with heap:=s.heap.push {cls:=Value.type "tuple",data:=Data.seq #[]},toks:=s.toks}):=
 .of_wp λprog w A R s h=>by
  obtain(B|g|d|tk|os):=s;obtain(hl|h):=h;have f1:=AutoSeq1.idx_int;wp_walk using wpAny_loadPart' hl
  show wpAny_ite_false (by rw[yh j h1];rfl) ?_
  wp_walk using wpAny_loadPart' hl
  show{_,rfl,h}
def qH (l:Addr)(items:Array RJ)(n:Nat)(dd:Option Addr)(sl:Array (Option RJ))(x:Int)(u:Tok)(j:-(2^63)<=x)(h1:x<2^63)(B:(items.isEmpty||x==1)=false)(v:(decide (x<=0)||items.isEmpty)=false)
 (hs:(items.size:Int)*x<=16777216) (y:(List.foldl (λx1 x2=>x1++x2) #[] (List.replicate x.toNat items)).size<=sizeLine) :
 Meets (Builtin.«tuple.__mul__» {[.ref l,.int x u],[]}) (λ_ R s=>s.heap.get? l=some {cls:=.type "tuple",dict:=dd,data:=.seq items n,slots:=sl}/\R (.ok (.ret (.ref s.heap.objs.size))) {s with heap:=s.heap.push {cls:=Value.type "tuple",data:=Data.seq (List.foldl (λx1 x2=>x1++x2) #[] (List.replicate x.toNat items))},toks:=s.toks}):=
 .of_wp λprog w A R s h=>by
  obtain(E|g|d|tk|os):=s;obtain(hl|h):=h;have f1:=AutoSeq1.idx_int;wp_walk using wpAny_loadPart' hl
  show wpAny_ite_false (by rw[yh j h1];rfl) ?_
  wp_walk using wpAny_loadPart' hl
  show wpAny_ite_false (decide_eq_false `a) ?_
  wp_walk using wpAny_loadPart' hl
  show wpAny_ite_false (decide_eq_false (by unfold Tuple.tupleTooMany;rw[sizeLine_eq];simp;omega)) ?_
  wp_walk using wpAny_loadPart' hl
  show{_,rfl,h}
section
variable{fa:Fa}{X:Cx}{μ:Mu}{H:Hp}{σ:L2.St}{pins:List (Addr×Obj)}{s:RO}{M:Mem}
def rJ (h:List RJ)(m:Nat):List.foldl (λx1 x2=>x1++x2) #[] (List.replicate m h.toArray)=(List.replicate m h).flatten.toArray:=by
 have:=foldl_rep h m [];rw[T2] at this;show this
def Ij:bY X (binaryOp .Mult) (λx y H Q=>∃l k xs,x=.ref l/\y=.int k/\du X.K H l xs/\-(2^63)<=k/\k<2^63/\xs.length*k.toNat<=sz/\
 ((List.replicate k.toNat xs).flatten=xs->Q (.ref l) H)/\∀p,H p=none->Q (.ref p) (upd H p (.tup (List.replicate k.toNat xs).flatten))):=by
 intro pins s σ H x y v u Q I rx ry h;obtain(l|k|xs|rfl|rfl|Y|h1|h2|U|q1|q2):=h;cases rx;obtain(t|rfl):=ry;obtain(j|r|p|hzz):=I.tuple Y;have hl:=r.length;obtain((cls|L|data|sl)|ho|W|n|hd):=id p;subst W hd;show wpAny_binaryOp_repeat_ref `d {_,ho,rfl} (λs'=>typeIs_int s' k t) oH F.fills_int_mul F.slot_int_rmul t7 F.slot_int_index.lookup
  (call_meets F.slot_int_rmul (typeIs_int s k t) F.entry_int_rmul (F.args_int_rmul_2 _ _) (qu k t l j.toArray n L sl) {ho,rfl,{_,ho,rfl},?_})
 have new:∀(B:List RJ),Vals (List.replicate k.toNat xs).flatten B->EP X pins σ Q (.ref s.heap.objs.size) {s with heap:=s.heap.push {cls:=Value.type "tuple",data:=Data.seq B.toArray}}:=λB r'=>by
  show{.ref s.heap.objs.size,_,I.laid (λb ob q=>RI _ q) (RN _) ?_,rfl,q2 _ (I.hok.fresh (RN _))};show{by rw[len_rep,Nat.mul_comm,<- dr];show U,_,r',IsTup.new _ _}
 by_cases O:(j.toArray.isEmpty||k==1)=true
 .refine call_meets F.slot_tuple_mul {_,ho,rfl} F.entry_tuple_mul (F.args_tuple_mul_2 _ _) (qF l j.toArray n L sl k t h1 h2 O) {ho,{.ref l,H,I,rfl,q1 ?_}};rcases Bool.or_eq_true_iff.mp O with z|z
  .have e:j=[]:=by simpa using z
   subst e;have e2:=TH.mp hl;subst e2;simp
  .have e:k=1:=by simpa using z
   subst e;simp
 .have E:(j.toArray.isEmpty||k==1)=false:=by simpa using O
  by_cases P:(decide (k<=0)||j.toArray.isEmpty)=true
  .refine call_meets F.slot_tuple_mul {_,ho,rfl} F.entry_tuple_mul (F.args_tuple_mul_2 _ _) (qG l j.toArray n L sl k t h1 h2 E P) {ho,new [] ?_};have hk:k<=0:=by
    rcases Bool.or_eq_true_iff.mp P with z|z
    .simpa using z
    .rw[z] at E;cases E
   have R:k.toNat=0:=`a
   rw[R];show .nil
  .have J:(decide (k<=0)||j.toArray.isEmpty)=false:=by simpa using P
   have hk:0<k:=by
    have:=(Bool.or_eq_false_iff.mp J).1;simpa using this
   have hs:(j.toArray.size:Int)*k<=16777216:=by
    have e1:(j.toArray.size:Int)*k=((xs.length*k.toNat:Nat):Int):=by
     rw[RW,<- hl,Int.natCast_mul,Int.toNat_of_nonneg `a]
    rw[e1];have:xs.length*k.toNat<=16777216:=U;omega
   have S:(List.foldl (λx1 x2=>x1++x2) #[] (List.replicate k.toNat j.toArray)).size<=sizeLine:=by
    rw[rJ,RW,len_rep,Nat.mul_comm,<- hl,<- dr];show U
   show call_meets F.slot_tuple_mul {_,ho,rfl} F.entry_tuple_mul (F.args_tuple_mul_2 _ _) (qH l j.toArray n L sl k t h1 h2 E J hs S) {ho,?_};rw[rJ];show new _ (r.rep k.toNat)
set_option tactic.hygienic true in
def Pu (m:Bool):bY X (binaryOp .Mult) (mv fa X.K m .mul):=by
 intro pins s σ H x y v u Q I L O h;obtain(μ|M|B|E|F|h1|h2|h):=h;have U:∀i j,B=.int i->E=.int j->wpAny (model X.prog X.w) X.A (binaryOp .Mult v u) (EP X pins σ Q) X.xe s:=λi j e1 e2=>by
  subst e1 e2;have h:ae (if (-(2^64)<i/\i<2^64)\/(-(2^64)<j/\j<2^64) then .ok (.int (i*j)) M else .bad) (aY fa X.K μ H Q):=h;split at h
  .next c=>show LJ pins s σ H x y v u Q I L O {i,j,h1,h2,c,aO F h rfl}
  .exact h.elim
 have W:∀i j,B=.tup i->E=.int j->wpAny (model X.prog X.w) X.A (binaryOp .Mult v u) (EP X pins σ Q) X.xe s:=λi j e1 e2=>by
  subst e1 e2;have h:ae (if i.length*j.toNat<=sz/\-(2^63)<=j/\j<2^63 then .ok (.tup (List.replicate j.toNat i).flatten) M else .bad) (aY fa X.K μ H Q):=h;split at h
  .next c=>
   obtain(a|R|e1|P|J):=id h1;show Ij pins s σ H x y v u Q I L O {a,j,R,e1,h2,P,c.2.1,c.2.2,by rw[J.length];show c.1,λz=>?_,f5 F (J.rep j.toNat) h}
   show aO F h {a,R,rfl,P,?_};have:=J.rep j.toNat;rw[z] at this;show this
  .exact h.elim
 have hl:∀j,E=.int j->ae (match jt M B with|some x=>if x.length*j.toNat<=sz/\-(2^63)<=j/\j<2^63 then bc m (List.replicate j.toNat x).flatten M else .bad|none=>.bad) (aY fa X.K μ H Q)->
  wpAny (model X.prog X.w) X.A (binaryOp .Mult v u) (EP X pins σ Q) X.xe s:=λj e1 S=>by
  subst e1;show Dm I F h1 h2 L O S
 cases E with
 |int j=>cases B<;>first|show U _ _ rfl rfl|show W _ _ rfl rfl|show hl _ rfl h
 |_=>cases B<;>show h.elim
noncomputable def binOp:om->Operator
 |.add=>.Add|.sub=>.Sub|.mul=>.Mult|.fdiv=>.FloorDiv|.mod=>.Mod|.pow=>.Pow
def Px (m:Bool):∀o:om,bY X (binaryOp (binOp o)) (mv fa X.K m o)
 |.add=>Py m|.sub=>Pr m|.mul=>Pu m|.fdiv=>NC m|.mod=>Pw m|.pow=>Pt m
end
end LD
namespace LD
open PySem PySem.Spec PyProof.Rows L2
section
variable{fa:Fa}{X:Cx}{μ:Mu}{H:Hp}{σ:L2.St}{pins:List (Addr×Obj)}{s:RO}{M:Mem}
def Mw (h:j0 X r)(i:∀x y H Q,r' x y H Q->r x y H Q):j0 X r':=λB j pins s σ H x y v u Q I E F q hs=>h B j pins s σ H x y v u Q I E F (i x y H Q q) hs
def rIdx (fa:Fa)(K:RG):R2:=λx y H Q=>∃μ M h j d,RelM fa K μ H M/\Rep fa K μ H h x/\Rep fa K μ H j y/\bZ h j M=some d/\aY fa K μ H Q d M
def uP (n:Nat)(i:Int):LD.bX n i=L2.bX n i:=rfl
set_option tactic.hygienic true in
def ON:j0 X (rIdx fa X.K):=Mw Mv λx y H Q h=>by
 obtain(μ|M|u|I|d|F|h1|h2|e|q):=h;have gen:∀i,I=.int i->((cH M u).bind λE=>(LD.bX E.length i).bind λj=>E[j]?)=some d->Lj X.K x y H Q:=λi R O=>by
  subst R;clear e;have e:=O;clear O;cases e1:cH M u with
  |none=>rw[e1] at e;cases e
  | some E=>
    rw[e1,T8] at e;obtain(a|L|rfl|B|r):=jq F h1 e1;cases e2:LD.bX E.length i with
    |none=>rw[e2] at e;cases e
    | some j=>
      rw[e2,T8] at e;obtain(v|U|P):=r.get e;have he:sC L i=some v:=by
       unfold sC;rw[r.length,<- uP,e2];show U
      rcases B with B|B
      .exact .inl {a,L,i,v,rfl,h2,B,he,aO F q P}
      .exact .inr (.inl {a,L,i,v,rfl,h2,B,he,aO F q P})
 have str:∀z i,u=.str z->I=.int i->Lj X.K x y H Q:=λz i e1 e2=>by
  subst e1 e2;have e:(if z.cps.size<=sz then(LD.bX z.cps.size i).bind λj=>(z.cps[j]?).map λc=>D.str {#[c]} else none)=some d:=e;split at e
  .next W=>
   cases e2:LD.bX z.cps.size i with
   |none=>rw[e2] at e;cases e
   | some j=>
     rw[e2,T8] at e;cases J:z.cps[j]? with
     |none=>rw[J] at e;cases e
     | some c=>
       rw[J] at e;have S:=RQ e;subst S;show .inr (.inr {z,i,c,h1,h2,by rw[<- dr];show W,?_,aO F q rfl})
       unfold sC;rw[show z.cps.toList.length=z.cps.size by simp,<- uP,e2]
       simpa using J
  .cases e
 cases I with
 |int i=>cases u<;>first|show str _ _ rfl rfl|show gen _ rfl e
 |_=>cases u<;>cases (e)
def Kx (h:l5 X r)(i:∀x lo hi H Q,r' x lo hi H Q->r x lo hi H Q):l5 X r':=λpins s σ H x v u y lo hi sl Q I j hs pl pu q=>h pins s σ H x v u y lo hi sl Q I j hs pl pu (i x lo hi H Q q)
noncomputable def pM:D->Option (Option Int)
 |.non=>some none
 |.int i=>some (some i)
 |_=>none
def oA (n d:Nat)(x:D):LD.aL n d x=(pM x).map (HT.aL n d):=by
 cases x<;>rfl
def tZ:l5 X (λx lo hi H Q=>∃a xs,x=.ref a/\du X.K H a xs/\(HT.aL xs.length 0 lo=0/\HT.aL xs.length xs.length hi=xs.length)/\Q (.ref a) H):=by
 intro pins s σ H x v U W lo hi sl Q I R hs pl pu h;obtain(a|xs|rfl|P|L|q):=h;cases R;obtain(j|r|u|S):=I.tuple P;show{"tuple",_,SA.lookup,u.typeIs,?_};have y:j.toArray.size=xs.length:=by rw[RW];show r.length.symm
 rw[<- y] at L;obtain(os|J|F|O):=id hs;have E:s.TypeIs (.ref sl) "slice":=⟨os,J,F⟩;unfold getItem;try with_reducible show tqo ?_
 first|show tqa (tqb ?_)|skip
 show tqa (wpAny_sequenceKey u.typeIs `d ?_)
 show tqa (wpAny_callSpecial?_slot u.typeIs SA
  (wpAny_call_entry SA u.typeIs entry_tuple_getitem ?_ (args_tuple_getitem _ _)))
 change wpAny _ _ (Builtin.Tuple.tupleItemsOf (.ref a) >>= _) _ _ s;show tqa (tupleItemsOf_ u ?_);show tqa (wpAny_typeOf E ?_);rw[if_pos `d]
 show tqa (HT.jm hs pl pu ?_);have B:(((HT.aL j.toArray.size 0 lo:Nat):Int)==0&&(1:Int)==1&&(HT.aL j.toArray.size j.toArray.size hi-HT.aL j.toArray.size 0 lo)==j.toArray.size)=true:=by
  rw[L.1,L.2];simp
 change wpAny _ _ (if (((HT.aL j.toArray.size 0 lo:Nat):Int)==0&&(1:Int)==1&&(HT.aL j.toArray.size j.toArray.size hi-HT.aL j.toArray.size 0 lo)==j.toArray.size)=true then _ else _) _ _ s;rw[if_pos B];show tqa ?_;show tqa (wpAny_typeOf u.typeIs ?_);show tqb ?_;rw[if_pos `d]
 show tqa (wpAny_rule (tqb {_,rfl,tqb {.ref a,H,I,rfl,q}}))
def Qz (fa:Fa)(K:RG)(m:Bool):V->Option Int->Option Int->Hp->VK->Prop:=λx lo u H Q=>∃μ M j dl h,RelM fa K μ H M/\Rep fa K μ H j x/\pM dl=some lo/\pM h=some u/\ae (eA m j dl h M) (aY fa K μ H Q)
def HF (m:Bool):l5 X (Qz fa X.K m):=by
 show Kx (HG.or (Kv.or tZ)) λx lo u H Q h=>?_;obtain(μ|M|B|dl|F|E|h1|e1|e2|h):=h;have gen:ae (match ez M B with
  | some xs=>match LD.aL xs.length 0 dl,LD.aL xs.length xs.length F with
    |some l,some h=>bc m (cut xs l h) M
    |_,_=>.bad
  |none=>.bad) (aY fa X.K μ H Q)->Le X.K x lo u H Q:=λh=>by
  cases e:ez M B with
  |none=>rw[e] at h;show h.elim
  | some xs=>
    rw[e] at h;dsimp[oA,e1,e2,Option.map_some] at h;obtain(a|j|rfl|v|r):=bR E h1 e;have hl:=r.length;obtain(_|k):=eW E ((r.drop (HT.aL xs.length 0 lo)).take (HT.aL xs.length xs.length u-HT.aL xs.length 0 lo)) h;show{a,j,rfl,v,?_};unfold qY;rw[hl];show k
 have tup:∀xs,B=.tup xs->Ld X.K x lo u H Q\/∃a xs,x=.ref a/\du X.K H a xs/\(HT.aL xs.length 0 lo=0/\HT.aL xs.length xs.length u=xs.length)/\Q (.ref a) H:=λxs e=>by
  subst e;have h:ae (match LD.aL xs.length 0 dl,LD.aL xs.length xs.length F with
   |some l,some h=>.ok (.tup (cut xs l h)) M
   |_,_=>.bad) (aY fa X.K μ H Q):=h
  dsimp[oA,e1,e2,Option.map_some] at h;obtain(a|j|rfl|v|r):=h1;have hl:=r.length;by_cases y:HT.aL j.length 0 lo=0/\HT.aL j.length j.length u=j.length
  .refine .inr {a,j,rfl,v,y,?_};rw[hl] at y;have I:cut xs (HT.aL xs.length 0 lo) (HT.aL xs.length xs.length u)=xs:=by rw[y.1,y.2];simp[cut]
   rw[I] at h;show aO E h ⟨a,j,rfl,v,r⟩
  .refine .inl {a,j,rfl,v,y,?_};have k:=f5 E ((r.drop (HT.aL xs.length 0 lo)).take (HT.aL xs.length xs.length u-HT.aL xs.length 0 lo)) h;unfold qY;rw[hl];show k
 cases B<;>first|show .inr (tup _ rfl)|show .inl (gen h)
def qx (fa:Fa)(K:RG)(f:vL):List V->Hp->VK->Prop:=λj H Q=>∃μ M h,RelM fa K μ H M/\aH fa K μ H h j/\ae (fc f h M) (aY fa K μ H Q)
def sM {d:D}{vs:List V}{K:RG}(h:aH fa K μ H [d] vs):∃v,vs=[v]/\Rep fa K μ H d v:=by
 obtain(v|r|rfl|h1|h2):=h;obtain rfl:r=[]:=h2;show⟨v,rfl,h1⟩
set_option tactic.hygienic true in
def OU:cn X (.builtin "len") (qx fa X.K .len):=lR (vg.or vf) λB H Q h=>by
 obtain(μ|M|E|j|r|h):=h
 match E,r,h with
 |[],_,h=>show h.elim
 |d::_::_,_,h=>cases d<;>show h.elim
 | [d],r,h=>
   obtain(v|rfl|y):=sM r;have gen:ae (match cH M d with|some xs=>.ok (.int xs.length) M|none=>.bad) (aY fa X.K μ H Q)->∃p u,[v]=[.ref p]/\(cQ X.K H p u\/du X.K H p u)/\Q (.int u.length) H:=λh=>by
    cases e:cH M d with
    |none=>rw[e] at h;show h.elim
    | some xs=>
      rw[e] at h;obtain(a|B|rfl|F|r):=jq j y e;show{a,B,rfl,F,?_};rw[r.length];show aO j h rfl
   have str:∀x,d=.str x->∃z,[v]=[V.str z]/\z.length<=sizeLine/\Q (.int z.length) H:=λx e=>by
    subst e;have h:ae (if x.cps.size<=sz then .ok (.int x.cps.size) M else .bad) (aY fa X.K μ H Q):=h;split at h
    .next c=>show{x,by rw[show v=.str x from y],by rw[<- dr];show c,aO j h rfl}
    .exact h.elim
   cases d<;>first|show .inr (str _ rfl)|show .inl (gen h)
def IX:cn X (.type "tuple") (qx fa X.K .tuple):=lR sL λu H Q h=>by
 obtain(μ|M|F|y|r|h):=h
 match F,r,h with
 |[],_,h=>show h.elim
 |d::_::_,_,h=>cases d<;>show h.elim
 | [d],r,h=>
   obtain(v|rfl|E):=sM r;have gen:ae (match ez M d with|some xs=>.ok (.tup xs) M|none=>.bad) (aY fa X.K μ H Q)->∃p j,[v]=[.ref p]/\((cQ X.K H p j/\∀l,H l=none->Q (.ref l) (upd H l (.tup j)))\/(du X.K H p j/\Q (.ref p) H)):=λh=>by
    cases e:ez M d with
    |none=>rw[e] at h;show h.elim
    | some xs=>
      rw[e] at h;obtain(a|u|rfl|B|r):=bR y E e;show{a,u,rfl,.inl {B,f5 y r h}}
   have tup:∀x,d=.tup x->∃p j,[v]=[.ref p]/\((cQ X.K H p j/\∀l,H l=none->Q (.ref l) (upd H l (.tup j)))\/(du X.K H p j/\Q (.ref p) H)):=λx e=>by
    subst e;obtain(a|u|rfl|B|r):=id E;show{a,u,rfl,.inr {B,aO y h E}}
   cases d<;>first|show tup _ rfl|show gen h
def MH (m:Bool):cn X (.type "list") (qx fa X.K (.list m)):=lR ve λu H Q h=>by
 obtain(μ|M|y|j|r|h):=h
 match y,r,h with
 |[],_,h=>show h.elim
 |_::_::_,_,h=>show h.elim
 | [d],r,h=>
   obtain(v|rfl|E):=sM r;have h:ae (match cH M d with|some xs=>bc m xs M|none=>.bad) (aY fa X.K μ H Q):=h
   cases e:cH M d with
   |none=>rw[e] at h;show h.elim
   | some xs=>
     rw[e] at h;obtain(a|u|rfl|B|r):=jq j E e;obtain(_|k):=eW j r h;show⟨a,u,rfl,B,k⟩
end
section
variable{fa:Fa}{X:Cx}{μ:Mu}{H:Hp}{σ:L2.St}{pins:List (Addr×Obj)}{s:RO}{M:Mem}
set_option tactic.hygienic true in
def Qi (hM:RelM fa X.K μ H M)(h:Rep fa X.K μ H d v)(e:j6 M d=some k):EU X.K v H k:=by
 cases d with
 |non=>obtain rfl:v=.non:=h;show(RQ e).symm
 |bl b=>obtain rfl:v=.bl b:=h;show(RQ e).symm
 |int i=>obtain rfl:v=.int i:=h;show(RQ e).symm
 | str x=>
   obtain rfl:v=.str x:=h;have e:(if x.cps.size<=sz then some (x.cps.size != 0) else none)=some k:=e;split at e
   .next c=>
    show{by rw[<- dr];show c,?_}
    rw[<- RQ e];change(x.cps.size != 0)=((x.cps.size:Int) != 0);rw[Tn];simp
   .cases e
 | tup ds=>
   obtain(a|vs|rfl|hq|r):=h;show .inr (.inl {vs,hq,?_});rw[<- RQ e];have:=r.length;cases vs<;>cases ds<;>simp_all
 | lst ds=>
   obtain(a|vs|rfl|hq|r):=bR hM h rfl;show .inl {vs,hq,?_};rw[<- RQ e];have:=r.length;cases vs<;>cases ds<;>simp_all
 | frz ds=>
   obtain(a|vs|rfl|hq|r):=bR hM h rfl;show .inl {vs,hq,?_};rw[<- RQ e];have:=r.length;cases vs<;>cases ds<;>simp_all
 | cell c=>
   have e:(M[c]?).map (λds=>!ds.isEmpty)=some k:=e;cases e1:M[c]? with
   |none=>rw[e1] at e;cases e
   | some ds=>
     rw[e1] at e;obtain(a|vs|rfl|hq|r):=bR hM h e1;show .inl {vs,hq,?_};rw[<- RQ e];have:=r.length;cases vs<;>cases ds<;>simp_all
 |fn f=>cases e
 |exc y p=>cases e
def mr:∀{ds:List D}{bs:List Bool}{vs:List V}{us:List RJ},boolsOf ds=some bs->aH fa X.K μ H ds vs->Vals vs us->PyProof.Rows.LSm.BoolsAre us bs:=by
 intro ds;induction ds with
 | nil=>
   intro bs vs us e h r;obtain rfl:vs=[]:=h;cases r;cases e;show .nil
 | cons d ds j=>
   intro bs vs us e h r;obtain(v|vr|rfl|h1|h2):=h;cases r with
   | cons r1 r2=>
     cases d with
     | bl b=>
       have e:(boolsOf ds).map (b::·)=some bs:=e;cases e1:boolsOf ds with
       |none=>rw[e1] at e;cases e
       | some u=>
         rw[e1] at e;have e2:=RQ e;subst e2;obtain rfl:v=.bl b:=h1;obtain rfl:_=Value.bool b:=r1;show .cons b (j e1 h2 r2)
     |_=>cases e
def ra:cn X (.builtin "all") (λxs H Q=>∃μ ds bs p vs,xs=[.ref p]/\X.calm=true/\cQ X.K H p vs/\aH fa X.K μ H ds vs/\boolsOf ds=some bs/\Q (.bl (bs.all id)) H):=by
 intro pins s σ H xs us Q I r h;obtain(μ|ds|bs|p|vs|rfl|L|O|P|F|q):=h;obtain(u|rfl|S):=vals1 r;cases S;obtain(j|R|pl|hz):=I.list O;have E:=mr F P R;have y:=pl.lt;show call_all_walk (wpAny_pyIter_list pl.isList ?_);show{s.heap.objs.size,[s.heap.objs.size,p],[s.heap.objs.size],j.toArray.size,_,_,λi=>(bs[i]?).getD true,rfl,Walks.list (A:=X.A.in1) (I.ok.hd L) _ p (Se y) j.toArray,
  {{_,RX _ rfl,rfl,rfl},pl.isList.push _},λi v s' W U J B=>?_,λY tk hk=>?_}
 .obtain(b|e|rfl):=E.get i v (~~~J)
  dsimp[e,S2] at B;show tqp B
 .have e:((List.range j.toArray.size).all λi=>(bs[i]?).getD true)=bs.all id:=by
   rw[RW,E.length];show PyProof.Rows.LSm.range_all bs
  rw[e];show{.bl _,H,I.kept (PyProof.Rows.LSm.kept_iter hk),rfl,q}
def Dl:∀{ds:List D}{bs:List Int}{vs:List V}{us:List RJ},intsOf ds=some bs->aH fa X.K μ H ds vs->Vals vs us->Ug us bs:=by
 intro ds;induction ds with
 | nil=>
   intro bs vs us e h r;obtain rfl:vs=[]:=h;cases r;cases e;show .nil
 | cons d ds j=>
   intro bs vs us e h r;obtain(v|vr|rfl|h1|h2):=h;cases r with
   | cons r1 r2=>
     cases d with
     | int b=>
       have e:(intsOf ds).map (b::·)=some bs:=e;cases e1:intsOf ds with
       |none=>rw[e1] at e;cases e
       | some u=>
         rw[e1] at e;have e2:=RQ e;subst e2;obtain rfl:v=.int b:=h1;obtain(t|rfl):=r1;show .cons b t (j e1 h2 r2)
     |_=>cases e
def OW (B:X.calm=true):cn X (.builtin "all") (qx fa X.K .all):=lR (ra) λu H Q h=>by
 obtain(μ|M|y|j|r|h):=h
 match y,r,h with
 |[],_,h=>show h.elim
 |d::_::_,_,h=>show h.elim
 | [d],r,h=>
   obtain(v|rfl|F):=sM r;have h:ae (match ez M d with|some xs=>(match boolsOf xs with|some bs=>.ok (.bl (bs.all id)) M|none=>.bad)|none=>.bad) (aY fa X.K μ H Q):=h
   cases e:ez M d with
   |none=>rw[e] at h;show h.elim
   | some xs=>
     rw[e] at h;dsimp at h;cases e2:boolsOf xs with
     |none=>rw[e2] at h;show h.elim
     | some bs=>
       rw[e2] at h;obtain(a|u|rfl|E|r):=bR j F e;show{μ,xs,bs,a,u,rfl,B,E,r,e2,aO j h rfl}
noncomputable def tyName:Ty->String
 |.int=>"int" | .bool=>"bool" | .str=>"str" | .tuple=>"tuple" | .list=>"list" | .own _=>""
def PK:D->String
 |.non=>"NoneType" | .bl _=>"bool" | .int _=>"int" | .str _=>"str" | .tup _=>"tuple" | _=>"list"
def N2 (t:Ty)(d:D)(b:Bool)(j:∀c,t≠.own c)(e:cM t d=some b):PySem.W.kitOne X.K (.type (PK d)) (.type (tyName t))=some b:=by
 cases t with
 |own c=>show absurd rfl (j c)
 |_=>cases d<;>first|(cases (show(none:Option Bool)=some b from e))|(have h:=RQ e;subst h;(first|rfl|decide +kernel))
def CB (F:RelM fa X.K μ H M)(h:Rep fa X.K μ H d v)(e:cM t d=some b)(I:Inv X pins σ H s)(r:RelV v u)
 (ek:PySem.W.kitOne X.K (.type (PK d)) c=some b) (q:∀tk,Q (.bool b) {s with toks:=tk}):wpAny (model X.prog X.w) X.A (call (.builtin "isinstance") [u,c]) Q X.xe s:=by
 cases d with
 |non=>obtain rfl:v=.non:=h;show jP I r .non ek q
 |bl x=>obtain rfl:v=.bl x:=h;show jP I r (.bl x) ek q
 |int x=>obtain rfl:v=.int x:=h;show jP I r (.int x) ek q
 |str x=>obtain rfl:v=.str x:=h;show jP I r (.str x) ek q
 | tup E=>
   obtain(a|L|rfl|j|_):=h;obtain rfl:u=Value.ref a:=r;obtain(B|J|(o|h1|h2|_)|_):=I.tuple j;show SU PySem.W.kitx_tuple I.kIn ⟨o,h1,h2⟩ ek (λz=>nomatch z) q
 | lst E=>
   obtain(a|L|rfl|j|_):=bR F h rfl;obtain rfl:u=Value.ref a:=r;obtain(B|J|(o|n|h1|h2|_)|_):=I.list j;show SU PySem.W.kitx_list I.kIn ⟨o,h1,h2⟩ ek (λz=>nomatch z) q
 | frz E=>
   obtain(a|L|rfl|j|_):=bR F h rfl;obtain rfl:u=Value.ref a:=r;obtain(B|J|(o|n|h1|h2|_)|_):=I.list j;show SU PySem.W.kitx_list I.kIn ⟨o,h1,h2⟩ ek (λz=>nomatch z) q
 | cell k=>
   obtain(a|rfl|hk):=h;obtain(E|L|_|j|_):=F.mu_lt hk;obtain rfl:u=Value.ref a:=r;obtain(B|J|(o|n|h1|h2|_)|_):=I.list (cQ.of j);show SU PySem.W.kitx_list I.kIn ⟨o,h1,h2⟩ ek (λz=>nomatch z) q
 |fn f=>cases e
 |exc y p=>cases e
def Oj (fa:Fa)(K:RG)(t:Ty):List V->Hp->VK->Prop:=λh H Q=>∃μ M d v b,h=[v,.ty (tyName t)]/\RelM fa K μ H M/\Rep fa K μ H d v/\cM t d=some b/\Q (.bl b) H
def MI (t:Ty)(y:∀c,t≠.own c):cn X (.builtin "isinstance") (Oj fa X.K t):=by
 intro pins s σ H xs E Q I r h;obtain(μ|M|d|v|b|rfl|j|B|e|q):=h;obtain(u|w|rfl|r1|r2):=vals2 r;obtain rfl:w=Value.type (tyName t):=r2;show CB j B e I r1 (N2 t d b y e) λtk=>{.bl b,H,I.tok _,rfl,q}
end
section
variable{fa:Fa}{X:Cx}
abbrev DE (fa:Fa)(X:Cx)(e:Expr)(g:Env->Mem->Res D):Prop:=PE X e (tE fa X.K g)
abbrev DT (fa:Fa)(X:Cx)(e:Expr)(g:Env->Mem->Res Bool):Prop:=PT X e (tT fa X.K g)
abbrev DW (fa:Fa)(X:Cx)(e:Expr)(g:Env->Mem->Res Bool):Prop:=PW X e (tT fa X.K g)
abbrev DA (fa:Fa)(X:Cx)(es:List Expr)(g:Env->Mem->Res (List D)):Prop:=PA X es (tA fa X.K g)
abbrev DS (fa:Fa)(X:Cx)(st:Stmt)(g:Env->Mem->Res Fl):Prop:=PS X st (tF fa X g)
abbrev la (fa:Fa)(X:Cx)(st:List Stmt)(g:Env->Mem->Res Fl):Prop:=k9 X st (tF fa X g)
variable{a b d:Expr}{ga gb gd:Env->Mem->Res D}{pos:Pos}
def O4 {i:Nat}(E:X.N[i]?=some x)(F:B1 X.env.scope x)(hd:(x==("__debug__":Str))=false)(j:(x==("__classdict__":Str))=false) :
 DE fa X (.Name x pos) (λZ M=>cj M (Z[i]?.getD none)):=bF (AJ E F hd j) λJ H Q ⟨I,Z,M,y,B,h⟩=>by
 obtain(d|e|w):=kz h;have u:Z[i]?=some (some d):=by
  cases q:Z[i]? with
  |none=>rw[q] at e;cases e
  |some o=>rw[q] at e;simp at e;rw[e]
 obtain(v|h1|h2):=y.at' i d u;show{v,h1,aO B w h2}
def jf (h:PE X e (tC v))(r:∀μ H,Rep fa X.K μ H dc v):DE fa X e (λ_ M=>.ok dc M):=bF h (by rintro B H Q ⟨μ,y,M,u,j,h⟩;show aO j h (r μ H))
def Pc {i:Int}:DE fa X (.Constant (.int i) j pos) (λ_ M=>.ok (.int i) M):=jf AK λ_ _=>rfl
def Rf:DE fa X (.Constant (.bool i) j pos) (λ_ M=>.ok (.bl i) M):=jf yf λ_ _=>rfl
def O6:DE fa X (.Constant (.str i) j pos) (λ_ M=>.ok (.str i) M):=jf Lw λ_ _=>rfl
def GG:DE fa X (.Constant .none j pos) (λ_ M=>.ok .non M):=jf LB λ_ _=>rfl
def t2 {S:Type}{f:D->D->Mem->Res S}{P:S->Mem->Prop}{R:V->V->Hp->Prop}(U:bz fa X.K μ H σ Z)(W:RelM fa X.K μ H M)
 (h:ae ((ga Z M).bind λx M=>(gb Z M).bind λy M=>f x y M) P)
 (k:∀x y E v u B j,Ext μ H j B->bz fa X.K j B σ Z->RelM fa X.K j B E->Rep fa X.K j B x v->Rep fa X.K j B y u->ae (f x y E) P->R v u B) :
 tE fa X.K ga σ H λv O=>tE fa X.K gb σ O λu B=>R v u B:=
 t1 U W h λx M1 v O μ1 Y F J r1 h1=>t1 F J h1 λy E u B j Q I L r2 h2=>k x y E v u B j (Y.trans Q) I L (r1.ext Q) r2 h2
def Pj (m:Bool)(o:om)(L:DE fa X a ga)(O:DE fa X b gb):DE fa X (.BinOp a (binOp o) b pos) (λZ M=>(ga Z M).bind λx M=>(gb Z M).bind λy M=>eM m o x y M):=
 bF (Ou (Px m o) L O) (by rintro U H Q ⟨S,Z,M,F,J,h⟩;show t2 F J h λx y E v u R B P I j r1 r2 h2=>{B,E,x,y,j,r1,r2,jI h2 P})
def pP {P:D->Mem->Prop}(h:ae ((cj M r).bind λb M=>.ok (.bl b) M) P):∃b,r=some b/\P (.bl b) M:=by
 obtain(b|j|e|q):=aI h;cases r with
 |none=>cases e
 |some u=>cases e;show{_,rfl,q}
def Pf (P:Rm X)(o:j4)(L:DE fa X a ga)(O:DE fa X b gb)(hm:behindInMarks (eE o) b=false) :
 DE fa X (.Compare a [eE o] [b] pos) (λZ M=>(ga Z M).bind λx M=>(gb Z M).bind λy M=>(cj M (bo o x y M)).bind λb M=>.ok (.bl b) M):=
 bF (qA (nQ P o) L O hm) λW H Q ⟨U,Z,M,F,J,h⟩=>t2 F J h λx y E v u S B R I j r1 r2 h2=>by
  obtain(b|e|q):=pP h2;show{B,E,x,y,b,j,r1,r2,e,aO j (q.ext R) rfl}
def MX (W:Rm X)(o:j4)(S:DE fa X a ga)(U:DE fa X b gb)(hm:behindInMarks (eE o) b=false) :
 DT fa X (.Compare a [eE o] [b] pos) (λZ M=>((ga Z M).bind λx M=>(gb Z M).bind λy M=>(cj M (bo o x y M)).bind λb M=>.ok (.bl b) M).bind λx M=>cj M (j6 M x)):=
 ku (qy (nQ W o) S U hm) λσ H Q ⟨μ,Z,M,O,R,h⟩=>by
  obtain(z|I|e|q):=aI h;have L:ae ((ga Z M).bind λx M=>(gb Z M).bind λy M=>(cj M (bo o x y M)).bind λb M=>.ok (.bl b) M) (λd M=>d=z/\M=I):=by rw[e];show⟨rfl,rfl⟩
  show t2 O R L λx y F v u E B Y P j r1 r2 h2=>?_;obtain(b|e1|e2|J):=pP h2;subst e2 J;show{B,F,x,y,b,j,r1,r2,e1,b,rfl,q E B Y j}
def Ht (I:∀Z M x M',g Z M=.ok x M'->∃k,x=.bl k)(h:tT fa X.K (λZ M=>(g Z M).bind λx M=>cj M (j6 M x)) σ H Q) :
 tE fa X.K g σ H (λx u=>∃k,x=.bl k/\Q k u):=by
 obtain(O|Z|M|E|F|h):=h;obtain(x|B|e|q):=aI h;obtain(k|rfl):=I Z M x B e;show{O,Z,M,E,F,?_};rw[e];intro v y j L J r1;obtain rfl:v=.bl k:=r1;show{k,rfl,q y j L J}
def Gu {o O:j4}{L:Env->Mem->Res D}(S:L2.St)(H:Hp)(Q:VK):tE fa X.K (λZ M=>(ga Z M).bind λx M=>(gb Z M).bind λy M=>(cj M (bo o x y M)).bind λk M=>
 if k then(L Z M).bind λz M=>(cj M (bo O y z M)).bind λb M=>.ok (.bl b) M else .ok (.bl false) M) S H Q->tP (gK fa X.K o) (gK fa X.K O) (tE fa X.K ga) (tE fa X.K gb) (tE fa X.K L) S H Q:=λ⟨μ,Z,M,hE,hM,h⟩=>by
 show t2 hE hM h λx y U v u H2 I P F j r1 r2 h2=>?_;obtain(k|M3|e|q):=aI h2;cases E:bo o x y U with
 |none=>rw[E] at e;cases e
 | some k'=>
   rw[E] at e;cases e;show{I,_,x,y,k,j,r1,r2,E,k,rfl,?_};cases k with
   |false=>show aO j (aY.ext q P) rfl
   | true=>
     show t1 F j q λz W w H4 J R hE4 B r4 h4=>?_;obtain(b|Y|q4):=pP h4;show{J,W,y,z,b,B,r2.ext R,r4,Y,aO B (q4.ext (P.trans R)) rfl}
def Ph (j:Rm X)(o h:j4)(u:DE fa X a ga)(v:DE fa X b gb)(B:DE fa X d gc)(hm:lastMarks [eE o,eE h] [b,d]=false) :
 DE fa X (.Compare a [eE o,eE h] [b,d] pos) (λZ M=>(ga Z M).bind λx M=>(gb Z M).bind λy M=>(cj M (bo o x y M)).bind λk M=>
  if k then(gc Z M).bind λz M=>(cj M (bo h y z M)).bind λb M=>.ok (.bl b) M else .ok (.bl false) M):=bF (Dw (nQ j o) (nQ j h) u v B hm) Gu
def DD {x:D}(h:((cj M r).bind λb M=>Res.ok (.bl b) M)=.ok x M'):∃k,x=.bl k:=by
 cases r with
 |none=>cases h
 |some b=>cases h;show⟨b,rfl⟩
def eG {j u:Type}{r:Res j}{f:j->Mem->Res u}{x:u}(h:r.bind f=.ok x M):∃a M1,r=.ok a M1/\f a M1=.ok x M:=by
 cases r with
 |ok a M1=>show⟨a,M1,rfl,h⟩
 |err=>cases h
 |bad=>cases h
def MY (v:Rm X)(o j:j4){u:Env->Mem->Res D}(B:DE fa X a ga)(E:DE fa X b gb)(F:DE fa X d u)(hm:lastMarks [eE o,eE j] [b,d]=false) :
 DT fa X (.Compare a [eE o,eE j] [b,d] pos) (λZ M=>((ga Z M).bind λx M=>(gb Z M).bind λy M=>(cj M (bo o x y M)).bind λk M=>
  if k then(u Z M).bind λz M=>(cj M (bo j y z M)).bind λb M=>.ok (.bl b) M else .ok (.bl false) M).bind λx M=>cj M (j6 M x)):=
 ku (Dr (nQ v o) (nQ v j) B E F hm) λI H Q h=>Gu I H _ (Ht (λZ M x J e=>by
  obtain(S|L|_|e):=eG e;obtain(U|O|_|e):=eG e;obtain(k|P|_|e):=eG e;cases k with
  |false=>cases e;show{_,rfl}
  | true=>
    obtain(W|R|_|e):=eG e;show DD e) h)
def O9 (E:DE fa X a ga):DE fa X (.UnaryOp .USub a pos) (λZ M=>(ga Z M).bind λx M=>match x with|.int i=>.ok (.int (-i)) M|_=>.bad):=
 bF (FK zD E) λP H Q ⟨O,Z,M,u,B,h⟩=>t1 u B h λx L v J I F y j r1 h1=>by
  cases x with
  |int i=>show{i,r1,aO j (aY.ext h1 F) rfl}
  |_=>show h1.elim
def Pm {rest:List Expr}(J:DE fa X a ga)(L:DE fa X (.BoolOp .And (b::rest) pos) gb):DE fa X (.BoolOp .And (a::b::rest) pos) (λZ M=>(ga Z M).bind λx M=>match x with
 |.bl true=>gb Z M
 |.bl false=>.ok (.bl false) M
 |_=>.bad):=
 bF (LF J L) λR H Q ⟨P,Z,M,F,I,h⟩=>t1 F I h λx E v O y B u j r1 h1=>by
  cases x with
  | bl k=>
    show{k,r1,?_};cases k with
    |true=>show{y,Z,E,u,j,jI h1 B}
    |false=>show aO j (aY.ext h1 B) rfl
  |_=>show h1.elim
def Rb {rest:List Expr}(J:DE fa X a ga)(L:DE fa X (.BoolOp .Or (b::rest) pos) gb):DE fa X (.BoolOp .Or (a::b::rest) pos) (λZ M=>(ga Z M).bind λx M=>match x with
 |.bl true=>.ok (.bl true) M
 |.bl false=>gb Z M
 |_=>.bad):=
 bF (Ot J L) λR H Q ⟨P,Z,M,F,I,h⟩=>t1 F I h λx E v O y B u j r1 h1=>by
  cases x with
  | bl k=>
    show{k,r1,?_};cases k with
    |true=>show aO j (aY.ext h1 B) rfl
    |false=>show{y,Z,E,u,j,jI h1 B}
  |_=>show h1.elim
def GF (h:DE fa X a ga):DE fa X (.BoolOp op [a] pos) ga:=Ly h
def O8 (E:DE fa X a ga):DE fa X (.UnaryOp .Not a pos) (λZ M=>(ga Z M).bind λx M=>match x with|.bl k=>.ok (.bl (!k)) M|_=>.bad):=
 bF (Lz E) λP H Q ⟨O,Z,M,u,B,h⟩=>t1 u B h λx L v J I F y j r1 h1=>by
  cases x with
  |bl k=>show{k,r1,aO j (aY.ext h1 F) rfl}
  |_=>show h1.elim
variable{ta tb:Env->Mem->Res Bool}
def Ji (h:DT fa X a ta):DW fa X (.BoolOp .And [a] pos) ta:=H8 h
def MT (h:DT fa X a ta):DW fa X (.BoolOp .Or [a] pos) ta:=Ll h
def PV {Q:Bool->Hp->Prop}(x:Ext μ H μ' H')(h:ae b' λb M'=>∀u j,Ext μ H j u->RelM fa X.K j u M'->Q b u):ae b' λb M'=>∀u j,Ext μ' H' j u->RelM fa X.K j u M'->Q b u:=
 ay h λb M q u j y m=>q u j (x.trans y) m
def MU {rest:List Expr}(J:DT fa X a ta)(L:DW fa X (.BoolOp .And (b::rest) pos) tb):DW fa X (.BoolOp .And (a::b::rest) pos) (λZ M=>(ta Z M).bind λk M=>if k then tb Z M else .ok false M):=
 Az (Lm J L) λP H Q ⟨O,Z,M,F,I,h⟩=>Ac F I h λk E B u y v j h1=>by
  cases k with
  |true=>show{u,Z,E,v,j,PV y h1}
  |false=>show h1 B u y j
def OZ {rest:List Expr}(J:DT fa X a ta)(L:DW fa X (.BoolOp .Or (b::rest) pos) tb):DW fa X (.BoolOp .Or (a::b::rest) pos) (λZ M=>(ta Z M).bind λk M=>if k then .ok true M else tb Z M):=
 Az (Oo J L) λP H Q ⟨O,Z,M,F,I,h⟩=>Ac F I h λk E B u y v j h1=>by
  cases k with
  |true=>show h1 B u y j
  |false=>show{u,Z,E,v,j,PV y h1}
def MV (F:DT fa X a ta):DT fa X (.UnaryOp .Not a pos) (λZ M=>(ta Z M).bind λk M=>.ok (!k) M):=
 ku (Lo F) (by rintro O H Q ⟨L,Z,M,y,E,h⟩;show Ac y E h λk J v u I B j h1=>h1 v u I j)
def Ey (I:DE fa X a ga)(he:∀whole,isTrue a X.env whole=(do let v <- whole;standAt a.pos;holding [v] (truthy v))):DT fa X a (λZ M=>(ga Z M).bind λx M=>cj M (j6 M x)):=
 ku (Dq I he) λP H Q ⟨O,Z,M,B,F,h⟩=>t1 B F h λx L v y u J E j r1 h1=>by
  obtain(k|e|q):=kz h1;show{k,Qi j r1 e,q y u J j}
def Pb (L:DT fa X c gc)(I:DE fa X a ga)(J:DE fa X b gb):DE fa X (.IfExp c a b pos) (λZ M=>(gc Z M).bind λk M=>if k then ga Z M else gb Z M):=
 bF (uh L I J) λR H Q ⟨P,Z,M,E,F,h⟩=>Ac E F h λk y O v B j u h1=>by
  cases k with
  |true=>show{v,Z,y,j,u,jI h1 B}
  |false=>show{v,Z,y,j,u,jI h1 B}
def Pd (L:DE fa X a ga)(O:DE fa X b gb)(hs:jh b):DE fa X (.Subscript a b pos) (λZ M=>(ga Z M).bind λx M=>(gb Z M).bind λy M=>cj M (bZ x y M)):=
 bF (yd ON L O hs) λU H Q ⟨S,Z,M,F,J,h⟩=>t2 F J h λx y E v u R B P I j r1 r2 h2=>by
  obtain(d|e|q):=kz h2;show{B,E,x,y,d,j,r1,r2,e,q.ext P}
def DO (fa:Fa)(X:Cx)(e:Option Expr)(B:Bool)(g:Env->Mem->Res D):Prop:=PO X e λE H Q=>∃u v M,bz fa X.K u H E v/\RelM fa X.K u H M/\ae (g v M) λd y=>∃o,cq B d=true/\pM d=some o/\∀j h,Ext u H h j->RelM fa X.K h j y->Q o j
def Jp:DO fa X none false (λ_ M=>.ok .non M):=λh s v H Q I ⟨u,B,M,y,j,o,_,e,k⟩=>by
 cases e;show Ig h s v H Q I (k H u .refl j)
def Jo (F:DE fa X a ga):DO fa X (some a) true ga:=λj s O H Q I ⟨J,L,M,B,E,h⟩=>Ie F j s O H Q I {J,L,M,B,E,ay h λd P ⟨o,p,e,k⟩ v y u x m r=>by
 cases d with
 |int i=>cases e;show{i,r,k y u x m}
 |_=>cases p}
def part_of {d:D}(h:cq hp d=true):∃o,pM d=some o:=by
 cases hp<;>cases d<;>first|show{_,rfl}|cases h
set_option tactic.hygienic true in
def O7 (m hl hh:Bool){lo hi:Option Expr}(ha:DE fa X a ga)(I:DO fa X lo hl gl)(F:DO fa X hi hh gh):DE fa X (.Subscript a (.Slice lo hi none p2) pos)
 (λZ M=>(ga Z M).bind λx M=>(gl Z M).bind λl M=>(gh Z M).bind λh M=>if cq hl l&&cq hh h then eA m x l h M else .bad):=
 bF (ug (HF m) ha I F) λσ H Q ⟨μ,Z,M,hE,hM,h⟩=>t1 hE hM h λx W v H1 L x1 j y r1 h1=>by
  obtain(l|Y|e2|h2):=aI h1;obtain(u|M3|e3|h3):=aI h2;split at h3
  .next c=>
   rw[RM] at c;obtain(ol|R):=part_of c.1;obtain(ou|S):=part_of c.2;show{L,Z,W,j,y,?_};rw[e2];show{ol,c.1,R,λH2 O J B=>{O,Z,Y,j.ext J,B,?_}};rw[e3];show{ou,c.2,S,λH3 P U E=>{P,M3,x,l,u,E,(r1.ext J).ext U,R,S,jI h3 ((x1.trans J).trans U)}}
  .exact h3.elim
def Np:DA fa X [] (λ_ M=>.ok [] M):=AN cy (by rintro B H Q ⟨u,y,M,v,j,h⟩;show h [] H u .refl j rfl)
def JA (R:DE fa X a ga)(hs:DA fa X es gs)(J:starEach (a::es) X.env=(false,eval a X.env)::starEach es X.env) :
 DA fa X (a::es) (λZ M=>(ga Z M).bind λx M=>(gs Z M).bind λxs M=>.ok (x::xs) M):=
 AN (bS R hs J) (by rintro σ H Q ⟨μ,Z,M,L,P,h⟩;show t1 L P h λx Y v W U S j u r1 h1=>wb j u h1 λxs M2 E I B F O y r2 h2=>h2 (v::E) I B (S.trans F) y {v,E,rfl,r1.ext F,r2})
set_option tactic.hygienic true in
def O5 (hs:DA fa X es gs):DE fa X (.Tuple es k pos) (λZ M=>(gs Z M).bind lG):=
 bF (Lv hs) λO H Q ⟨L,Z,M,u,y,h⟩=>wb u y h λxs I J F E B v j r1 h1=>by
  unfold lG at h1;split at h1
  .next c=>show{by rw[r1.length,<- dr];show c,f5 j r1 (aY.ext h1 B)}
  .exact h1.elim
def Pa (m:Bool)(hs:DA fa X es gs):DE fa X (.List es pos) (λZ M=>(gs Z M).bind (bc m)):=
 bF (LC hs) λO H Q ⟨L,Z,M,u,y,h⟩=>wb u y h λxs I J F E B v j r1 h1=>by
  obtain(c|k):=eW j r1 (jI h1 B);show{by rw[r1.length,<- dr];show c,k}
end
def r9 (o:Obj)(f:Array RJ->Array RJ):(o.mapFields f).dict=o.dict:=by
 obtain(c|d|h|sl):=o;cases h<;>rfl
section
variable{P:Sx}{w:Sr}{M:Model}{A:Ti}{E:RJ->RO->Prop}{base:Heap}{env:Tu}{outer:List Tu}{L a C:Addr}{dx:Option Addr}{New:Addr->Prop}{H:Hp}{s:RO}{Q:Unit->RO->Prop}
def v7 (hfr:A.frames=some (env::outer))(hl:s.heap.FunFrames base (env::outer))(hf:env.frame=some L)
 (he:s.heap.get? a=some oe) (hd:oe.data=.fields vs) (hsz:1<vs.size)
 (h:∀U T oT ts,(∀b o,b∉fN (env::outer)->b≠a->s.heap.get? b=some o->U.get? b=some o)->(∀b o,b≠a->s.heap.get? b=some o->∃sl,U.get? b=some {o with slots:=sl})->s.heap.objs.size<=T->T≠a->
  U.get? a=some (oe.mapFields (·.setIfInBounds 1 (.ref T)))->U.get? T=some oT->oT.data=.fields ts->ts[3]?=some .none->Q () {s with heap:=U}) :
 wpAny M A (do let f <- frameOf env;let pl <- entryPlaceOf L had;let b <- EntryCells.newEntry head f .none (rawInt L) .none pl;setField (.ref a) 1 b) (λ_ s'=>wpAny M A (setFlight (.ref a) none) Q E s') E s:=by
 have W:a∉fN (env::outer):=λhm=>by
  obtain(_|o|ho|hnf):=hl.mem hm;rw[he] at ho;cases ho;show hnf vs hd
 show tqa (wpAny_frameOf_fun hfr hl hf λj v=>?_);show tqa (wpAny_entryPlaceOf λpl Y=>?_);show tqa (wpAny_newObj_type ?_ (Y.sizeOk5 _ _ _ _ _));have I:j.get? a=some oe:=(v.2.1 a W).trans he;generalize ho:({cls:=.type "traceback",dict:=none,data:=.fields ([head,.ref L,.none,rawInt L,.none]++(if pl.isEmpty then List.replicate 6 Value.none else pl)).toArray}:Obj)=o;have R:o.data=.fields ([head,.ref L,.none,rawInt L,.none]++(if pl.isEmpty then List.replicate 6 Value.none else pl)).toArray:=by rw[<- ho]
 have J:=RI o I;show wpAny_setField J hd hsz ?_;have S:=SF (R0 I);have F:=Tp hd (·.setIfInBounds 1 (Value.ref j.objs.size));have O:=SD (Obj.mapFields (·.setIfInBounds 1 (Value.ref j.objs.size))) J (Uq F);have y:=(Sl (j.push o) (Obj.mapFields (·.setIfInBounds 1 (Value.ref j.objs.size))) (SK S)).trans (RX j (Uq R));show tqa (tqf O F (x:=.ref j.objs.size) (by simp[hsz]) ?_)
 rw[if_pos `s]
 show wpAny_setField y R (by dsimp[RW,Sa,To,List.length_nil]<;>omega) ?_
 have keep:∀b u,b≠a->j.get? b=some u->(((j.push o).update a (Obj.mapFields (·.setIfInBounds 1 (Value.ref j.objs.size)))).update j.objs.size (Obj.mapFields (·.setIfInBounds 3 ((none:Option Addr).elim Value.none λf=>rawInt f)))).get? b=some u:=λb u B hb=>by
  have hbT:=SF (R0 hb);rw[Sl _ _ hbT,Sl _ _ (SK B)];show RI _ hb
 show h _ j.objs.size _ _ (λb u hb B q=>keep b u B ((v.2.1 b hb).trans q)) (λb u B q=>?_) (Nat.le_of_eq v.1.symm) S ?_ (SD _ y (Uq (Tp R _))) (Tp R _) ?_
 .obtain(sl|e):=v.2.2 b u q;show{sl,keep b _ B e}
 .rw[Sl _ _ S];show O
 .first|(simp;done)|(rcases Y with rfl|⟨_,_,_,_,_,_,_,rfl⟩<;>simp)
def wH (hfr:A.frames=some (env::outer))(hl:s.heap.FunFrames base (env::outer))(hf:env.frame=some L)(hF:mX New C dx a s.heap H)(hN:∀b,s.heap.objs.size<=b->New b)(hok:d8 P w H s.heap)(J:∀b∈fN (env::outer),H b=none)
 (h:∀B ch,(∀b∈ch,New b/\H b=none/\∃o vs,s.heap.get? b=some o/\o.data=.fields vs)->Un (fN (env::outer)) ch H H s.heap B->d8 P w H B->mX New C dx a B H->Q () {s with heap:=B}) :
 wpAny M A (noteFrame (.ref a) env) (λ_ s1=>wpAny M A (setFlight (.ref a) none) Q E s1) E s:=by
 obtain(na|ha|oe|vs|he|hc|Y|hd|tr):=hF;have U:∀B ch,(∀b∈ch,New b/\H b=none/\∃o vs,s.heap.get? b=some o/\o.data=.fields vs)->(∀b o,b∉fN (env::outer)->b∉ch->s.heap.get? b=some o->B.get? b=some o)->(∀b o,b∉ch->s.heap.get? b=some o->∃sl,B.get? b=some {o with slots:=sl})->mX New C dx a B H->Q () {s with heap:=B}:=λB ch W keep slot fl=>by
  show h B ch W {λb o q _ j F=>keep b o j F q,λb o q _ _ F=>slot b o F q,λ_ _ _ n _=>n,λb o q F=>let⟨sl,e⟩:=slot b o F q;{_,e},λ_ _ e=>e,λ_ _ _ e=>e,λb ps e=>{#[],by rw[e];simp}} (λb u e=>(hok b u e).stay (λc v hc q=>?_) (λ_ q=>q) λ_ _ q=>q) fl
  have nn:H c≠none:=by rcases hc with z|z<;>(intro z';first|(rw[z,e] at z';cases z')|(rw[z] at z';cases z'))
  show keep c v (λz=>nn (J c z)) (λz=>nn (W c z).2.1) q
 unfold noteFrame;dsimp[hf];rcases tr with h1|⟨T,oT,ts,h1,hTa,nT,hT0,hT,I,h3⟩
 .refine tqa (tqf he hd h1 ?_);rw[if_neg `d]
  show v7 hfr hl hf he hd (SM.mp h1).1 λB T oT ts k1 k2 R k4 k5 k6 k7 k8=>?_;show U B [a] (λb j=>?_) (λb o j F q=>k1 b o j (λz=>F (by simp[z])) q) (λb o F q=>k2 b o (λz=>F (by simp[z])) q) {na,ha,_,_,k5,?_,?_,Tp hd _,.inr {T,oT,ts,by simp[(SM.mp h1).1],k4,hN _ R,hok.fresh R,k6,k7,k8}}
  .rcases RS.mp j with rfl
   show⟨na,ha,oe,vs,he,hd⟩
  .rw[Obj.cls_mapFields];show hc
  .rw[r9];show Y
 .refine tqa (tqf he hd h1 ?_);rw[if_pos `s]
  show tqa (tqf hT I h3 ?_);rw[if_neg (by simp[rawInt])]
  show tqa (wpAny_setField hT I (SM.mp h3).1 ?_);have y:∀b,b≠T->(s.heap.update T (Obj.mapFields (·.setIfInBounds 3 Value.none))).get? b=s.heap.get? b:=λb j=>Sl _ _ (SK j);have S:∀b o,s.heap.get? b=some o->(∀vs,o.data≠.fields vs)->b≠T:=λb o j O q=>by
   rw[q,hT] at j;cases j;show O ts I
  have hz:(s.heap.update T (Obj.mapFields (·.setIfInBounds 3 Value.none))).objs.size=s.heap.objs.size:=Heap.size_after_update ..;show v7 hfr (hl.of_keeps λb o j O=>{o,(y b (S b o j O)).trans j,rfl}) hf ((y a (SK hTa)).trans he) hd (SM.mp h1).1 λB T' oT' ts' k1 k2 R k4 k5 k6 k7 k8=>?_;have R:s.heap.objs.size<=T':=by rw[<- hz];show R
  show U B [a,T] (λb j=>?_) (λb o j F q=>k1 b o j (λz=>F (by simp[z])) ((y b (λz=>F (by simp[z]))).trans q)) (λb o F q=>k2 b o (λz=>F (by simp[z])) ((y b (λz=>F (by simp[z]))).trans q)) {na,ha,_,_,k5,?_,?_,Tp hd _,.inr {T',oT',ts',by simp[(SM.mp h1).1],k4,hN _ R,hok.fresh R,k6,k7,k8}}
  .rcases R7.mp j with rfl|j
   .exact⟨na,ha,oe,vs,he,hd⟩
   .rcases RS.mp j with rfl
    show⟨nT,hT0,oT,ts,hT,I⟩
  .rw[Obj.cls_mapFields];show hc
  .rw[r9];show Y
end
def iR (P:Sx)(w:Sr):vK:=λouter H s E e s'=>∃a C dx H',e=.ref a/\s'.os=s.os/\AllBare s'.gens/\Un (fN outer) [] H H' s.heap s'.heap/\d8 P w H' s'.heap/\mX (λb=>s.heap.get? b=none) C dx a s'.heap H'/\E (.ref C) dx H'
def mX.imp (f:mX New C dx a h H)(i:∀b,New b->New' b):mX New' C dx a h H:=by
 obtain(u|j|o|I|h1|h2|h3|h4|F):=f;show{i _ u,j,o,I,h1,h2,h3,h4,?_};rcases F with t|⟨T,v,ts,t1,t2,y,B⟩
 .exact .inl t
 .exact .inr {T,v,ts,t1,t2,i _ y,B}
section
variable{P:Sx}{w:Sr}{K:RG}{mg:Str->Option RJ}{base:Heap}{N:List Str}{qual:Str}{scope:Scope}{f:Addr}{cd:RJ}{A:Ti}{outer:List Tu}{s:RO}{H:Hp}{E:XK}
def D2 (I:Inv (gi (iR P w) P w K mg base N qual scope f cd A outer s H E) pins σ H' s')(W:mX (zf (gi (iR P w) P w K mg base N qual scope f cd A outer s H E)) C dx a s'.heap H')(U:E (.ref C) dx H') :
 (gi (iR P w) P w K mg base N qual scope f cd A outer s H E).xe (.ref a) s':=by
 have F:=I.stack;have J:=I.sz;have Y:∀b o,s.heap.get? b=some o->b∈fN (envOfC qual scope s.heap.objs.size f cd::outer)->b∈fN outer:=λb o q y=>by
  rcases R7.mp (y) with e|e
  .exact absurd (R0 q) (by rw[e];show S9 _)
  .exact e
 unfold gi;show tqa (wH (New:=λb=>s.heap.get? b=none) I.ok.frames F rfl (W.imp λb z=>z.1) (λb z=>Heap.get?_none_of_le (RU J z)) I.hok I.stkFree λh' R B u hok fl=>?_);have v:∀b o,s.heap.get? b=some o->b∉R:=λb o q z=>by have:=(B b z).1;rw[q] at this;cases this
 have h:=I.base;show{a,C,dx,H',rfl,I.os,I.bare,{λb o q n y j=>?_,λb o q n y j=>?_,h.free,λb o q j=>?_,h.tups,h.frzs,h.tbls},hok,fl,U}
 .exact u.keep b o (h.keep b o q n y j) (h.free b o q n j) (λz=>y (Y b o q z)) (v b o q)
 .obtain(sl|e):=h.slot b o q n y j;obtain(O|S):=u.any e (h.free b o q n j) (v b o q);show⟨O,S⟩
 .obtain(o'|e):=h.there b o q j;show u.there b o' e (v b o q)
end
section
variable{X:Cx}{pins:List (Addr×Obj)}{σ:L2.St}{H H':Hp}{s s':RO}{E:XK}{e:RJ}
def rT (I:Inv X pins σ H s)(v:X.ex=[])(h:iR X.prog X.w X.stack H s E e s'):∃a C dx H',e=.ref a/\Inv X pins σ H' s'/\mX (zf X) C dx a s'.heap H'/\E (.ref C) dx H':=by
 obtain(a|C|dx|H'|rfl|os|bare|un|hok|fl|q):=h;show{a,C,dx,H',rfl,I.call' os un hok bare (λb z=>absurd z `s),fl.imp λb z=>{?_,λp u e=>?_},q}
 .cases e:X.s₀.heap.get? b with
  |none=>rfl
  | some o=>
    obtain(y|j):=I.base.there b o e (by rw[v];simp)
    rw[z] at j;cases j
 .have:=(I.pin p (S7 _ u)).1;rw[e,z] at this;cases this
def Ee (I:Inv X pins σ H s)(j:∀b∈ch,X.s₀.heap.get? b=none/\(∃o vs,s.heap.get? b=some o/\o.data=.fields vs)/\∀p∈X.pn++pins,p.1≠b)(u:Un (fN X.stack) ch H H s.heap h')(hok:d8 X.prog X.w H h'):Inv X pins σ H {s with heap:=h'}:=by
 obtain(m|(o|es|ep|ho|hd|r)|hl):=id I.loc;have J:X.env.locals∉ch:=λz=>by
  obtain(R|vs|e|d):=(j _ z).2.1;rw[ho] at e;cases e;rw[hd] at d;cases d
 have F:∀x c,X.env.cells.lookup x=some c->c∉ch:=λx c e z=>by
  obtain(R|vs|U|d):=(j _ z).2.1;obtain(v|o2|e2|d2):=I.cell x c e;rw[e2] at U;cases U;rw[d2] at d;cases d
 have n0:∀b o,X.s₀.heap.get? b=some o->b∉ch:=λb o e z=>by rw[(j b z).1] at e;cases e
 have O:∀b o,X.s₀.heap.get? b=some o->b∉X.fs->b∉fN X.stack:=λb o e n z=>(R7.mp (I.stkSub b z)).elim (λq=>absurd (R0 e) (by rw[q];show Nat.not_lt.mpr I.ok.above)) n
 obtain(sl|hL):=u.any ho I.free J;have h:∀x c,X.env.cells.lookup x=some c->∀v,s.heap.IsCell c v->h'.IsCell c v:=λx c e v ⟨o,ho,hd⟩=>by
  obtain(sl|q):=u.any ho (I.freeC x c e) (F x c e);show{_,q,hd}
 show{I.ok,I.os,I.bare,{λb o e n B y=>?_,λb o e n B y=>?_,I.base.free,λb o e y=>?_,I.base.tups,I.base.frzs,I.base.tbls},{m,{_,es,ep,hL,hd,r},λi x v e1 e2 e3=>?_},λx c e=>?_,I.free,I.freeC,λp W=>?_,hok,I.len}
 .exact u.keep b o (I.base.keep b o e n B y) (I.base.free b o e n y) (O b o e B) (n0 b o e)
 .obtain(sl|e1):=I.base.slot b o e n B y;obtain(S|e2):=u.any e1 (I.base.free b o e n y) (n0 b o e);show⟨S,e2⟩
 .obtain(R|e1):=I.base.there b o e y;show u.there b R e1 (n0 b o e)
 .obtain(u'|r'|l):=hl i x v e1 e2 e3;show{u',r',?_};rcases l with l|⟨k,c,e,z⟩
  .exact .inl l
  .exact .inr {k,c,e,h x c e _ z}
 .obtain(v|z):=I.cell x c e;show{v,h x c e v z}
 .obtain(e|n|ne|Y|d):=I.pin p W;show{u.keep p.1 p.2 e n (λz=>(R7.mp (I.stkSub _ z)).elim ne Y) λz=>(j _ z).2.2 p W rfl,n,ne,Y,d}
def Bo (I:Inv X pins σ H s)(J:X.ex=[])(hn:H a=none)(O:X.s₀.heap.get? a=none)(hf:∃ob vs,s.heap.get? a=some ob/\ob.data=.fields vs)(R:∀p∈X.pn++pins,p.1≠a)(new:dY X.prog X.w (upd H a o) s.heap a o):Inv X pins σ (upd H a o) s:=by
 obtain(ob|vs|j|hd):=hf;have ne:∀b u,H b=some u->b≠a:=λb u e=>aX e hn;show{I.ok,I.os,I.bare,{I.base.keep,I.base.slot,λb o e n J=>?_,I.base.there,λb xs e=>?_,λb o u e=>?_,λb ps e=>?_},I.loc,I.cell,?_,λx c e=>?_,λp y=>?_,λb u e=>?_,I.len}
 .rw[az (λz=>by rw[z,O] at e;cases e)];show I.base.free b o e n J
 .have q:=I.base.tups b xs e;rw[az (ne b _ q)];show q
 .have q:=I.base.frzs b o u e;rw[az (ne b _ q)];show q
 .obtain(m|q):=I.base.tbls b ps e;show{m,by rw[az (ne b _ q)];show q}
 .obtain(m|(Y|U|S|ho|h|_)|_):=id I.loc;rw[az (λz=>by rw[z,j] at ho;cases ho;rw[hd] at h;cases h)];show I.free
 .obtain(v|W|e2|B):=I.cell x c e;rw[az (λz=>by rw[z,j] at e2;cases e2;rw[hd] at B;cases B)];show I.freeC x c e
 .obtain(e|n|r):=I.pin p y;show{e,by rw[az (R p y)];show n,r}
 .by_cases F:b=a
  .subst F;rw[cf] at e;cases e;show new
  .rw[az F] at e;show(I.hok b u e).stay (λc v _ q=>q) (λc q=>by rw[az (ne c _ q)];show q) λc xs q=>by rw[az (ne c _ q)];show q
end
def eP {h:Type}(r:Res h)(k:h->Mem->Prop)(j:D->Mem->Prop):Prop:=match r with
 |.ok a M=>k a M
 |.err x M=>j x M
 |.bad=>False
def LP {j:Type}{r:Res j}{k:j->Mem->Prop}{u:D->Mem->Prop}(h:ae r k):eP r k u:=by
 cases r with
 |ok a M=>show h
 |err=>show h.elim
 |bad=>show h
def GU (fa:Fa)(K:RG)(μ:Mu)(H:Hp)(E:XK)(x:D)(M':Mem):Prop:=∀C dx c p H' h,Ext μ H h H'->RelM fa K h H' M'->x=.exc c p->fa (eJ c)=some C->vF H' c dx p->E (.ref C) dx H'
def FL:Passes (iR P w) X E0:=λ_ _ _ _ _ _ _ h=>let{_,_,_,_,_,_,_,_,_,_,z}:=h;z.elim
def FD (fa:Fa)(K:RG)(k:Nat)(call:List D->Mem->Res D):Sp:=λu H Q E=>u.length=k/\∃h M j,RelM fa K h H M/\aH fa K h H j u/\eP (call j M) (aY fa K h H Q) (GU fa K h H E)
def g7 (fa:Fa)(P:Sx)(w:Sr)(K:RG)(mg:Str->Option RJ)(base:Heap)(n:Nat)(f:Nat)(call:List D->Mem->Res D):Prop:=
 (∀h M,call h M=.bad)\/∃(ad:Addr) (j:FuncData) (ps:List Str),fa f=some ad/\PySem.W.keepIn K (.ref ad)=true/\Binds K j ps []/\(∀h M,h.length≠ps.length->call h M=.bad)/\lZ P w K mg base (iR P w) (2*n+4) ad j ps (FD fa K ps.length call)/\((fa (500+f)).isSome=true->Binds K j ps [.none])
section
variable{fa:Fa}{X:Cx}{a b d:Expr}{ga gb gd:Env->Mem->Res D}{pos p:Pos}{es:List Expr}{gs:Env->Mem->Res (List D)}{n:Nat}
def BS {call:List D->Mem->Res D}{r:Res (List D)}(j:∀ds M,call ds M=.bad)(h:ae (r.bind λds M=>call ds M) P):False:=by
 obtain(ds|M|_|q):=aI h;rw[j] at q;show q
def sg {call:List D->Mem->Res D}(v:bz fa X.K μ H σ Z)(B:RelM fa X.K μ H M)(h:ae ((gs Z M).bind λds M=>call ds M) (aY fa X.K μ H Q))
 (hk:∀ds M1,ds.length≠k->call ds M1=.bad):FA (FD fa X.K k call) [] E0 (tA fa X.K gs) σ H Q:=by
 show wb v B h λds M1 I F u E y j r1 h1=>?_;rw[TM];show{?_,u,M1,ds,j,r1,LP (jI h1 E)};rw[r1.length];by_cases hl:ds.length=k
 .exact hl
 .rw[hk ds M1 hl] at h1;show h1.elim
def Nw {call:List D->Mem->Res D}(C:g7 fa X.prog X.w X.K X.mg X.base n f call)(hr:c9 (2*n+4) X.A)(J:Gl X x)(hm:∀ad,fa f=some ad->X.mg x=some (.ref ad))(hs:DA fa X (a::es) gs)
 (j:(x==("__debug__":Str))=false) (he:starEach (a::es) X.env=(false,eval a X.env)::starEach es X.env) (u:(backTo pos (starEach es X.env)).any (·.1)=false) :
 DE fa X (.Call (.Name x p) (a::es) [] pos) (λZ M=>(gs Z M).bind λds M=>call ds M):=by
 rcases C with E|⟨ad,P,ps,h1,h2,h3,h4,F,_⟩
 .exact(by rintro B s O H Q I ⟨L,Z,M,v,y,h⟩;show(BS E h).elim)
 .exact bF (Ii F hr J (hm ad h1) h2 h3 .nil FL hs j he u) (by rintro O H Q ⟨L,Z,M,v,y,h⟩;show sg v y h h4)
def JD {i:Nat}{x:Str}{call:Nat->List D->Mem->Res D}(C:∀f,g7 fa X.prog X.w X.K X.mg X.base n f (call f))(hr:c9 (2*n+4) X.A)(hN:X.N[i]?=some x)(hv:B1 X.env.scope x)(hs:DA fa X (a::es) gs)
 (hd:(x==("__debug__":Str))=false) (B:(x==("__classdict__":Str))=false) (he:starEach (a::es) X.env=(false,eval a X.env)::starEach es X.env) (E:(backTo pos (starEach es X.env)).any (·.1)=false) :
 DE fa X (.Call (.Name x p) (a::es) [] pos) (λZ M=>match Z[i]?.getD none with|some (.fn f)=>(gs Z M).bind λds M=>call f ds M|_=>.bad):=by
 rintro y s S H Q I ⟨μ,Z,M,R,hM,h⟩;dsimp only at h;cases e:Z[i]?.getD none with
 |none=>rw[e] at h;show h.elim
 | some df=>
   cases df with
   | fn f=>
     rw[e] at h;have e':Z[i]?=some (some (.fn f)):=by
      cases q:Z[i]? with
      |none=>rw[q] at e;cases e
      |some o=>rw[q] at e;simp at e;rw[e]
     obtain(v|J|L):=R.at' i _ e';obtain(ad|rfl|j):=L;rcases C f with hb|⟨ad',fd,ps,h1,h2,h3,h4,F,_⟩
     .exact(BS hb h).elim
     .rcases j with j|⟨j,_⟩<;>rw[j] at h1<;>cases h1
      show wpAny_Call_Name_kw (aT (AJ hN hv hd B y s S H (λv U=>v=.ref ad/\U=H) I {_,J,rfl,rfl}) λu s1 ⟨v,Y,O,r1,e1,e2⟩=>?_);subst e1 e2;obtain rfl:u=Value.ref ad:=r1;show PySem.W.callWith_K O.ok.mod.kin h2 (aT (hs pos y s1 S Y _ O (sg R hM h h4)) λus s2 ⟨vs,H2,P,r,q⟩=>{P.kIn,?_}) he E;show Ax F hr h3 .nil FL P r q
   |_=>rw[e] at h;show h.elim
def GH (f:vL){id:String}(J:cn X (.builtin id) (qx fa X.K f))(L:Gl X x)(hm:X.mg x=none)(O:bootBuiltins x=some (.builtin id))(hs:DA fa X (a::es) gs)(hn:x≠"__name__")(u:(x==("__debug__":Str))=false)
 (he:starEach (a::es) X.env=(false,eval a X.env)::starEach es X.env) (v:(backTo pos (starEach es X.env)).any (·.1)=false):DE fa X (.Call (.Name x p) (a::es) [] pos) (λZ M=>(gs Z M).bind λds M=>fc f ds M):=
 bF (f9 J L hm O hs hn u he v) (by rintro W H Q ⟨U,Z,M,E,I,h⟩;show wb E I h λds B S R y P F j r1 h1=>{y,B,ds,j,r1,jI h1 P})
def BC (f:vL)(J:cn X (.type T) (qx fa X.K f))(L:Gl X x)(hm:X.mg x=none)(O:bootBuiltins x=some (.type T))(hs:DA fa X (a::es) gs)(hn:x≠"__name__")(u:(x==("__debug__":Str))=false)
 (he:starEach (a::es) X.env=(false,eval a X.env)::starEach es X.env) (v:(backTo pos (starEach es X.env)).any (·.1)=false):DE fa X (.Call (.Name x p) (a::es) [] pos) (λZ M=>(gs Z M).bind λds M=>fc f ds M):=
 bF (my J L hm O hs hn u he v) (by rintro W H Q ⟨U,Z,M,E,I,h⟩;show wb E I h λds B S R y P F j r1 h1=>{y,B,ds,j,r1,jI h1 P})
def Nq (t:Ty)(S:∀c,t≠.own c)(P:DE fa X a ga)(R:Gl X "isinstance")(hm:X.mg "isinstance"=none)(U:bootBuiltins "isinstance"=some (.builtin "isinstance"))(y:Gl X x)(B:X.mg x=none)(E:bootBuiltins x=some (.type (tyName t)))
 (hn:x≠"__name__") (u:(x==("__debug__":Str))=false)
 (he:starEach [a,.Name x p1] X.env=(false,eval a X.env)::starEach [.Name x p1] X.env):DE fa X (.Call (.Name "isinstance" p2) [a,.Name x p1] [] pos) (λZ M=>(ga Z M).bind λx M=>(cj M (cM t x)).bind λb M=>.ok (.bl b) M):=
 bF (f9 (MI t S) R hm U (bS P (bS (wB y B E (v:=.ty (tyName t)) rfl hn u) cy `r) he) `d `d he `r) λσ H Q ⟨μ,Z,M,J,O,h⟩=>t1 J O h λx I v Y F W L j r1 h1=>by
  obtain(b|e|q):=pP h1;show{F,I,x,v,b,rfl,j,r1,e,aO j (q.ext W) rfl}
def gT (fa:Fa)(K:RG)(t:fR):TG:=λv B H Q=>∃u y M d h,bz fa K u H B y/\RelM fa K u H M/\Rep fa K u H d v/\b7 t d y=some h/\∀j,bz fa K u H j h->Q j H
def uf (h:PG X tg g)(i:∀v y H Q,g' v y H Q->g v y H Q):PG X tg g':=λj s y H v u Q I r q=>h j s y H v u Q I r (i v y H Q q)
def wA (h:vH X tg g)(i:∀v y H Q,g' v y H Q->g v y H Q):vH X tg g':=λj s y H v u Q I r q=>h j s y H v u Q I r (i v y H Q q)
def Jx (u:X.N.Nodup)(hi:X.N[i]?=some x)(y:Loc X.env.scope x)(hf:X.fn x=true\/X.env.scope.names.lookup x=some .local):PG X (.Name x pos) (gT fa X.K (.one i)):=
 uf (qz u hi y hf) λv J H Q ⟨F,I,M,d,B,j,E,r,e,k⟩=>by
  have h:=RQ e;subst h;show k _ (j.set r)
def MD (fa:Fa)(K:RG)(l:List Nat):xM:=λB E H Q=>∃u y M v h,bz fa K u H E y/\RelM fa K u H M/\aH fa K u H v B/\fH l v y=some h/\∀j,bz fa K u H j h->Q j H
inductive i7 (X:Cx):List Nat->List Expr->Prop
 |nil:i7 X [] []
 |cons {i:Nat}{x:Str}{p:Pos}{l:List Nat}{ns:List Expr} (hi:X.N[i]?=some x) (hx:Loc X.env.scope x) (hf:X.fn x=true\/X.env.scope.names.lookup x=some .local) (r:i7 X l ns):i7 X (i::l) (.Name x p::ns)
set_option tactic.hygienic true in
def i7.each (h:i7 X l ns):(assignEach ns X.env).length=l.length/\(assignEach ns X.env).findIdx? (·.1)=none:=by
 induction h with
 |nil=>show⟨rfl,rfl⟩
 | cons u v hf r j=>
   rename_i i x p l ns;have e:assignEach (.Name x p::ns) X.env=(false,assign (.Name x p) X.env)::assignEach ns X.env:=rfl;rw[e];show{by simp[j.1],?_}
   rw[List.findIdx?_cons];simp[j.2]
def u2 (J:X.N.Nodup)(h:i7 X l ns):vH X ns (MD fa X.K l):=by
 induction h with
 | nil=>
   show wA wz ?_;rintro E S H Q ⟨F,R,M,j,u,y,B,r,e,k⟩;cases j with
   | nil=>
     obtain rfl:E=[]:=r;have I:=RQ e;subst I;show{rfl,k _ y}
   |cons=>cases e
 | cons L O hf r P=>
   show wA (oF (qz J L O hf) P `r) ?_;rintro E S H Q ⟨F,R,M,j,u,y,B,r,e,k⟩
   cases j with
   |nil=>cases e
   | cons d j=>
     obtain(v|vr|rfl|r1|r2):=r;show{v,vr,rfl,F,_,M,j,u,y.set r1,B,r2,e,k}
noncomputable def iJ:∀{l:List Nat}{ds:List D}{Z ρ1:Env},fH l ds Z=some ρ1->ds.length=l.length
 |[],[],_,_,_=>rfl
 |_::_,[],_,_,h=>by cases h
 |[],_::_,_,_,h=>by cases h
 | _::l,_::ds,_,_,h=>by
   have:=iJ (ds:=ds) h;simp[this]
def Nl (F:X.calm=true)(E:X.N.Nodup)(h:i7 X l ns):PG X (.Tuple ns k pos) (gT fa X.K (.tup l)):=
 uf (ue F (u2 E h) h.each.1 h.each.2) λv P H Q ⟨L,O,M,d,j,y,B,r,e,k⟩=>by
  cases d with
  | tup u=>
    obtain(a|J|rfl|I|r):=r;show{a,J,rfl,I,by rw[r.length];show iJ e,L,O,M,u,j,y,B,r,e,k}
  |_=>cases e
set_option tactic.hygienic true in
def vn {d:D}(h:b7 (.two j l) d Z=some ρ1):∃e ds,d=.tup [e,.tup ds]/\fH l ds (Z.set j (some e))=some ρ1:=by
 unfold b7 at h;split at h
 .next e=>cases e
 .next e=>cases e
 .next e=>cases e;show{_,_,rfl,h}
 .cases h
 .cases h
def Nk (F:X.calm=true)(E:X.N.Nodup){ns:List Expr}(hi:X.N[i]?=some x)(S:Loc X.env.scope x)(hf:X.fn x=true\/X.env.scope.names.lookup x=some .local)(h:i7 X l ns):PG X (.Tuple [.Name x px,.Tuple ns k2 p2] k pos) (gT fa X.K (.two i l)):=
 uf (ue F (oF (qz E hi S hf) (oF (ue F (u2 E h) h.each.1 h.each.2) wz))) λv σ H Q ⟨μ,Z,M,d,y,O,P,r,e,k⟩=>by
  obtain(J|L|rfl|e):=vn e;obtain(a|vs|rfl|R|U|W|rfl|r0|v1|u|rfl|r1|r2):=r;obtain rfl:u=[]:=r2;obtain(b|Y|rfl|j|I):=r1;show{a,_,rfl,R,rfl,U,_,rfl,.ref b,[],rfl,b,Y,rfl,j,by rw[I.length];show iJ e,μ,Z.set i (some J),M,L,y,O.set r0,P,I,e,λB h1=>{rfl,k B h1}}
end
section
variable{fa:Fa}{X:Cx}{a b d:Expr}{ga gb gd:Env->Mem->Res D}{pos p:Pos}{es:List Expr}{gs:Env->Mem->Res (List D)}{n:Nat}
def Nb (P:DE fa X a ga)(Q:PG X tg (gT fa X.K t))(hs:swapsWithSole [tg] a pos.line X.env=pure false)(R:swappedStores [tg] a X.env=pure none)(h1:(assignEach [tg] X.env).map (·.2)=[assign tg X.env]) :
 DS fa X (.Assign [tg] a pos) (λZ M=>(ga Z M).bind λx M=>(cj M (b7 t x Z)).bind λρ1 M=>.ok (.next ρ1) M):=
 dz (pG P Q hs R h1) λD σ H ⟨Y,Z,M,L,O,h⟩=>t1 L O h λx J v I u S B j r1 h1=>by
  obtain(ρ1|W|e|q):=aI h1;cases y:b7 t x Z with
  |none=>rw[y] at e;cases e
  | some U=>
    rw[y] at e;cases e;show{u,Z,J,x,ρ1,B,j,r1,y,λF E=>q F I u S E j}
def l6 {y:Ends}{ad:Addr}(B:bz fa X.K μ H σ Z)(v:RelM fa X.K μ H M)(hk:μ.pub k=some ad)(r:aH fa X.K μ H ds ws)
 (q:∀j u h,Ext μ H h u->bz fa X.K h u j Z->RelM fa X.K h u (M.set k ds)->y.nx j u):y.nx σ (upd H ad (.lst ws)):=
 q σ _ μ (Ext.write (vs:=ws) v hk) (B.ext (Ext.write (vs:=ws) v hk)) (v.write hk r)
def M8 (ha:DE fa X a ga)(hb:DE fa X b gb)(hd:DE fa X d gd){p2:Pos}
 (h0:∀v,assign (.Subscript a b p2) X.env v=(do
  let B <- holding [v] (eval a X.env)
  let L <- holding [v,B] (eval b X.env)
  standAt p2
  holding [v,B,L] (setItem B L v)
  release [v,B,L] [])) (hs:swapsWithSole [.Subscript a b p2] d pos.line X.env=pure false) (hw:swappedStores [.Subscript a b p2] d X.env=pure none) (h1:(assignEach [.Subscript a b p2] X.env).map (·.2)=[assign (.Subscript a b p2) X.env]) :
 DS fa X (.Assign [.Subscript a b p2] d pos) (λZ M=>(gd Z M).bind λz M=>(ga Z M).bind λx M=>(gb Z M).bind λy M=>match x,y with
  | .cell k,.int n=>match M[k]? with
    | some ds=>match bX ds.length n with
      |some j=>.ok (.next Z) (M.set k (ds.set j z))
      |none=>.bad
    |none=>.bad
  |_,_=>.bad):=
 dz (pG hd (AI ha hb set_list h0) hs hw h1) λU σ H ⟨μ,Z,M,hE,hM,h⟩=>t1 hE hM h λz M1 v H1 μ1 x1 F J r1 h1=>t2 F J h1 λx y M2 vx vy Y μ2 S I u rx ry h2=>by
  have O:∀k n,x=.cell k->y=.int n->FJ vx vy v Y λH3=>U.nx σ H3:=λk n e1 e2=>by
   subst e1 e2;dsimp only at h2;cases e:M2[k]? with
   |none=>rw[e] at h2;show h2.elim
   | some ds=>
     rw[e] at h2;dsimp only at h2;cases E:LD.bX ds.length n with
     |none=>rw[E] at h2;show h2.elim
     | some j=>
       rw[E] at h2;obtain(ad|rfl|hk):=rx;obtain(ws|h4|R):=u.at_ e hk;have q:=h2;show{ad,ws,n,j,rfl,ry,h4,by rw[R.length];show E,l6 I u hk (R.set j (r1.ext S)) λQ W P x' e' m'=>q Q W P ((x1.trans S).trans x') e' m'}
  cases x with
  | cell k=>cases y with
    |int n=>show O k n rfl rfl
    |_=>show h2.elim
  |_=>show h2.elim
set_option tactic.hygienic true in
def Nc (ha:DE fa X a ga)(hd:DE fa X d gd){j u:Pos}(v:attributeBase a "append" X.env (eval a X.env)=eval a X.env)(y:(j.endLine==u.line)=true)(hs:starEach [d] X.env=[(false,eval d X.env)])
 (O:swapsWith (.Call (.Attribute a "append" j) [d] [] u) none pos.line X.env=pure false) :
 DS fa X (.Expr (.Call (.Attribute a "append" j) [d] [] u) pos) (λZ M=>(ga Z M).bind λx M=>(gd Z M).bind λz M=>match x with
  | .cell k=>match M[k]? with
    |some ds=>if ds.length<sz then .ok (.next Z) (M.set k (ds++[z])) else .bad
    |none=>.bad
  |_=>.bad):=
 dz (nj (sP Uu PySem.F.slot_list_append PySem.F.type_list_append mz ha (bS hd cy hs) v (by rw[hs];rfl) y hs `r) O) λD' σ H ⟨μ,Z,M,J,hM,h⟩=>by
  obtain(x|M1|e1|h1):=aI h;obtain(z|M2|e2|h2):=aI h1;cases x with
  | cell k=>
    dsimp only at h2;cases e:M2[k]? with
    |none=>rw[e] at h2;show h2.elim
    | some ds=>
      rw[e] at h2;dsimp only at h2;split at h2
      .next hz=>
       have q:=h2;show{μ,Z,M,J,hM,?_};rw[e1];intro vx H1 S Q B rx;obtain(ad|rfl|hk):=rx;obtain(ds1|P|_|L|_):=B.mu_lt hk;show{.inl {rfl,P,cQ.of L},S,Z,M1,J.ext Q,B,?_};rw[e2];intro vz H2 μ2 I E rz;obtain(ws|h4|W):=E.at_ e (I.mu k ad hk);show{ad,ws,vz,rfl,rfl,h4,by rw[W.length,<- dr];show hz,?_}
       show l6 ((J.ext Q).ext I) E (I.mu k ad hk) (W.append (.one rz)) λU Y R x' e' m'=>q U Y R ((Q.trans I).trans x') e' m'
      .exact h2.elim
  |_=>show h2.elim
def O0 (I:DE fa X a ga)(hs:swapsWith a none pos.line X.env=pure false):DS fa X (.Expr a pos) (λZ M=>(ga Z M).bind λ_ M=>.ok (.next Z) M):=
 dz (nj I hs) (by rintro O L H ⟨Q,Z,M,E,F,h⟩;show t1 E F h λx P v B y J j u r1 h1=>h1 L B y J j u)
def MZ (v:DE fa X a ga):DS fa X (.Return (some a) pos) (λZ M=>(ga Z M).bind λx M=>.ok (.ret x) M):=
 dz (AB v) λB F H ⟨y,Z,M,j,u,h⟩=>by
  obtain(x|E|e|q):=aI h;show{y,Z,M,j,u,?_};rw[e];show q
def Jk:DS fa X (.Return none pos) (λ_ M=>.ok (.ret .non) M):=dz Ib (by rintro u E H ⟨y,B,M,v,j,h⟩;show aO j h rfl)
def Jl:DS fa X (.Pass pos) (λZ M=>.ok (.next Z) M):=dz Ic (by rintro B y H ⟨v,Z,M,j,u,h⟩;show h y H v .refl j u)
def By {st:Stmt}:DS fa X st (λ_ _=>.bad):=(by rintro j s F H u I ⟨B,E,M,v,y,h⟩;show h.elim)
set_option tactic.hygienic true in
def mY.ext (x:Ext μ H μ' H')(q:mY fa X μ H D' fl M):mY fa X μ' H' D' fl M:=by
 cases fl with
 |next u=>show λv j h y e m=>q v j h (x.trans y) e m
 |ret d=>show aY.ext q x
 |exc B u=>show XW.ext q x
def LQ (x:Ext μ H μ' H')(h:ae r (mY fa X μ H D')):ae r (mY fa X μ' H' D'):=ay h λfl M q=>q.ext x
def M9 {st B:List Stmt}(J:DT fa X c gc)(L:la fa X st gt)(hf:la fa X B gf):DS fa X (.If c st B pos) (λZ M=>(gc Z M).bind λk M=>if k then gt Z M else gf Z M):=
 dz (Oq J L hf) λO R H ⟨Q,Z,M,F,I,h⟩=>Ac F I h λk y P v E j u h1=>by
  cases k with
  |true=>show{v,Z,y,j,u,LQ E h1}
  |false=>show{v,Z,y,j,u,LQ E h1}
def Jj:la fa X [] (λZ M=>.ok (.next Z) M):=wy Ia (by rintro B y H ⟨v,Z,M,j,u,h⟩;show h y H v .refl j u)
set_option tactic.hygienic true in
def Ez {st:Stmt}(h1:DS fa X st g)(h2:la fa X ss g'):la fa X (st::ss) (λZ M=>(g Z M).bind λfl M=>match fl with
 |.next Z=>g' Z M
 |fl=>.ok fl M):=
 wy (Ds h1 h2) λO Q H ⟨J,Z,M,E,F,h⟩=>by
  obtain(fl|B|e|q):=aI h;show{J,Z,M,E,F,?_};rw[e];cases fl with
  |next j=>show λL P y I u v=>{y,j,B,u,v,LQ I q}
  |ret d=>show q
  |exc x j=>show q
end
def c7 (fa:Fa)(K:RG)(μ0:Mu)(H0:Hp)(w:Walk)(J:It):Prop:=
 ∀(h:Mu) (H:Hp) (M:Mem) (u:List D),ExtW μ0 H0 h H->RelM fa K h H M->w M=some u->(∀(i:Nat) (d:D),u[i]?=some d->J.go i H/\∀x j,J.yld i H x j->Ext h H h j/\RelM fa K h j M/\Rep fa K h j d x)/\∀i,u.length<=i->J.stop i H
def tI (fa:Fa)(K:RG)(g:Env->Mem->Res Walk):TI:=λB H R=>∃u v M,bz fa K u H B v/\RelM fa K u H M/\ae (g v M) λw y=>∀J j h,Ext u H h j->RelM fa K h j y->c7 fa K h j w J->R J j
abbrev DI (fa:Fa)(X:Cx)(tg h:Expr)(g:Env->Mem->Res Walk):Prop:=PI X tg h (tI fa X.K g)
def rn {K:RG}(h:c7 fa K μ0 H0 w J)(x:ExtW μ0 H0 μ1 H1):c7 fa K μ1 H1 w J:=λv H M j y u e=>h v H M j (x.trans y) u e
section
variable{fa:Fa}{X:Cx}{tg a b d:Expr}{ga gb gd:Env->Mem->Res D}{pos p:Pos}{es:List Expr}{n:Nat}
def zz {ad:Addr}(h:Rep fa X.K μ0 H0 dd (.ref ad)):c7 fa X.K μ0 H0 (λM=>ez M dd) (NT X.K ad):=λP H M O x u e=>by
 obtain(E|j|ea|s|r):=bR u (Rep.extW x h) e;cases ea;show{λi d hd=>?_,λi F=>{j,s,by rw[r.length];show F}}
 obtain(v|B|J):=r.get hd;show{⟨j,v,s,B⟩,λy L ⟨e,I⟩=>?_};subst e;have:=I j s;rw[B] at this;cases this;show{.refl,u,J}
def Ce {ad:Addr}(h:Rep fa X.K μ0 H0 (.tup ds) (.ref ad)):c7 fa X.K μ0 H0 (λ_=>some ds) (NR X.K ad):=λQ H M E x I F=>by
 cases F;obtain(B|j|e|s|r):=Rep.extW x h;cases e;show{λi d hd=>?_,λi J=>{j,s,by rw[r.length];show J}}
 obtain(v|u|O):=r.get hd;show{⟨j,v,s,u⟩,λy P ⟨e,L⟩=>?_};subst e;have:=L j s;rw[u] at this;cases this;show{.refl,I,O}
def Cg (lo:Int)(n:Nat):c7 fa X.K μ0 H0 (λ_=>some ((List.range n).map λ(k:Nat)=>D.int (lo+(k:Int)))) (G0 lo n):=λB H M v x j e=>by
 cases e;show{λi d hd=>?_,λi h=>(show n<=i by simpa using h)}
 rw[Sh] at hd;by_cases h:i<n
 .rw[Tv h] at hd;have e:=RQ hd;subst e;show{h,λy u ⟨e1,e2⟩=>?_};subst e1 e2;show{.refl,j,rfl}
 .rw[TC (~~~h)] at hd;cases hd
def cg (ga:Env->Mem->Res D):Env->Mem->Res Walk:=λj M=>(ga j M).bind λx M=>match x with
 |.lst h=>.ok (λ_=>some h) M
 |.tup h=>.ok (λ_=>some h) M
 |.frz h=>.ok (λ_=>some h) M
 |.cell k=>.ok (λM=>M[k]?) M
 |_=>.bad
def Nj (ha:DE fa X a ga):DI fa X tg a (cg ga):=λu s U H R I ⟨S,Z,M,W,Y,h⟩=>by
 obtain(x|O|e|q):=aI h;have lst:(∀j E,RelM fa X.K j E O->∀v,Rep fa X.K j E x v->∃y,ez O x=some y)->(∀J E j,Ext S H j E->RelM fa X.K j E O->c7 fa X.K j E (λM=>ez M x) J->R J E)->
  wpAny (model X.prog X.w) X.A (eval a X.env) (λv s1=>wpAny (model X.prog X.w) X.A (pyIter v) (NM X u U tg R) X.xe s1) X.xe s:=λhx q=>by
  show Ih ha u s U H R I {S,Z,M,W,Y,?_};rw[e];intro v L B Q F r1;obtain(y|er):=hx B L F v r1;obtain(ad|P|rfl|s1|r):=bR F r1 er;show{ad,rfl,⟨P,s1⟩,q _ L B Q F (zz r1)}
 cases x with
 |lst y=>show lst (λ_ _ _ _ _=>⟨y,rfl⟩) q
 |frz y=>show lst (λ_ _ _ _ _=>⟨y,rfl⟩) q
 | tup y=>
   show Lr ha u s U H R I {S,Z,M,W,Y,?_};rw[e];intro v L B Q F r1;obtain(ad|P|rfl|s1|r):=id r1;show{ad,rfl,⟨P,s1⟩,q _ L B Q F (Ce r1)}
 |cell k=>show lst (λj E m' v ⟨ad,_,hk⟩=>let{y,_,e,_}:=m'.mu_lt hk;⟨y,e⟩) q
 |_=>show q.elim
def dC (ga:Env->Mem->Res D):Env->Mem->Res Walk:=λh M=>(ga h M).bind λx M=>match x with
 |.int n=>if -(2^62)<=n/\n<2^62 then .ok (λ_=>some ((List.range n.toNat).map λ(k:Nat)=>D.int (k:Int))) M else .bad
 |_=>.bad
set_option tactic.hygienic true in
def Ju (L:DE fa X a ga)(O:Gl X "range")(hm:X.mg "range"=none)(hs:starEach [a] X.env=[(false,eval a X.env)]):DI fa X tg (.Call (.Name "range" p) [a] [] pos) (dC ga):=λj s Q H R I ⟨U,W,M,E,J,h⟩=>by
 show AH O hm (bS L cy hs) hs j s Q H R I ?_;show t1 E J h λx S v B u P F y r1 h1=>?_;cases x with
 | int n=>
   dsimp only at h1;split at h1
   .next c=>
    obtain rfl:v=.int n:=r1;show{n,rfl,c.1,c.2,h1 _ B u P y ?_};have:=Cg (fa:=fa) (X:=X) (μ0:=u) (H0:=B) 0 n.toNat;simpa using this
   .exact h1.elim
 |_=>show h1.elim
def ic (t:fR)(gb:Env->Mem->Res Fl):Fl->D->Mem->Res Fl:=λfl d M=>match fl with
 |.next j=>(cj M (b7 t d j)).bind λh M=>gb h M
 |fl=>.ok fl M
noncomputable def Fl.out:Fl->Bool
 |.next _=>false
 |_=>true
set_option tactic.hygienic true in
theorem lI {gb:Env->Mem->Res Fl}(ho:fl.out=true):∀(n i:Nat) (M:Mem),ae (fT (ic t gb) w n i fl M) P->P fl M
 |0,_,_,h=>h.elim
 | n+1,i,M,h=>by
   unfold fT at h;cases e:w M with
   |none=>rw[e] at h;show h.elim
   | some j=>
     rw[e] at h;dsimp only at h;cases e2:j[i]? with
     |none=>rw[e2] at h;show h
     | some v=>
       rw[e2] at h;cases fl with
       |next u=>cases ho
       |ret d=>show lI ho n (i+1) M h
       |exc x u=>show lI ho n (i+1) M h
def tL (fa:Fa)(X:Cx)(g:Env->Mem->Res Fl):TS:=λD h H=>(∀h H,D.nx h H->D.ct h H)/\tF fa X g D h H
abbrev Qg (fa:Fa)(X:Cx)(st:List Stmt)(g:Env->Mem->Res Fl):Prop:=k9 X st (tL fa X g)
def O2 {body:List Stmt}{gb:Env->Mem->Res Fl}(h:la fa X body gb):Qg fa X body gb:=λj s u H D I q=>h j s u H D I q.2
set_option tactic.hygienic true in
def Na {gw:Env->Mem->Res Walk}{gb:Env->Mem->Res Fl}(hp:PassesOwn (model X.prog X.w) X.A X.env X.xe)(hc:X.calm=true)(hi:DI fa X tg a gw)(hg:PG X tg (gT fa X.K t))(hb:Qg fa X body gb)
 (hs:∀x,foldedSetIterable a X.env x=pure x):DS fa X (.For tg a body [] pos) (λZ M=>(gw Z M).bind λw M=>cY (ic t gb) w (.next Z) M):=
 dz (Lp hp hc hi hg hb hs) λD' σ H ⟨μ,Z,M,hE,hM,h⟩=>by
  obtain(w|M1|e|q):=aI h;show{μ,Z,M,hE,hM,?_};rw[e];intro J H1 I x1 hM1 wk;have hE1:=hE.ext x1;show{λi m E F=>∃j u L,Ext I H1 j F/\bz fa X.K j F E u/\RelM fa X.K j F L/\ae (fT (ic t gb) w m i (.next u) L) (mY fa X μ H D'),
   {_,I,Z,M1,.refl,hE1,hM1,q},?_}
  rintro i m σ2 H2 ⟨B,S,M2,R,O,P,v⟩;cases m with
  |zero=>show v.elim
  | succ m=>
    unfold fT at v;cases e2:w M2 with
    |none=>rw[e2] at v;show v.elim
    | some ds=>
      rw[e2] at v;dsimp only at v;obtain(go|stop):=wk B H2 M2 ds R.toExtW P e2;cases ed:ds[i]? with
      | none=>
        rw[ed] at v;show .inl {stop i (List.getElem?_eq_none_iff.mp ed),v σ2 H2 B (x1.trans R) O P}
      | some d=>
        rw[ed] at v;obtain(g1|g2):=go i d ed;show .inr {g1,λE F=>∃j u L,Ext I H1 j F/\bz fa X.K j F E u/\RelM fa X.K j F L/\ae (fT (ic t gb) w m (i+1) (.next u) L) (mY fa X μ H D'),λE F z=>{m,`a,z},λy H3 hy=>?_}
        obtain(x3|Q|r3):=g2 y H3 hy;obtain(fl|M4|e4|q4):=aI v;obtain(U|M5|Y|e6):=eG e4;cases eb:b7 t d S with
        |none=>rw[eb] at Y;cases Y
        | some ρ5=>
          rw[eb] at Y;cases Y;show{B,S,_,d,U,O.ext x3,Q,r3,eb,λσ5 hE5=>{λ_ _ z=>z,B,U,_,hE5,Q,?_}};rw[e6];cases fl with
          |next W=>show λσ6 H6 μ6 x6 hE6 hM6=>{μ6,W,M4,(R.trans x3).trans x6,hE6,hM6,q4}
          |ret d6=>show(lI rfl m (i+1) M4 q4).ext ((x1.trans R).trans x3)
          |exc x6 W=>show(lI rfl m (i+1) M4 q4).ext ((x1.trans R).trans x3)
end
abbrev FF:RJ->RO->Prop:=λ_ _=>False
section
variable{prog:Sx}{w:Sr}{A:Ti}{s:RO}
def BG
 (L:compTurn ce k it acc env=(standAt p >>= λ_=>pyNext it >>= λr=>match r with
  |none=>pure (.done .next)
  |some v=>letOwnedTupleGo target it v >>= λ_=>assign target env v >>= λ_=>body >>= λ_=>again (.compLoop ce k it acc env)))
 (hd:(model prog w).den (.compLoop ce k it acc env)=(compTurn ce k it acc env).onRaise (λx=>do noteFrame x env;theTreesLotGoes x)/\A.under (.compLoop ce k it acc env)=A) (I:Nat->RO->Prop)
 (turn:∀n s,I n s->wpAny (model prog w) A (pyNext it) (λr j=>match r with
  |none=>R (.ok .next) j
  |some v=>wpAny (model prog w) A (letOwnedTupleGo target it v) (λ_ y=>wpAny (model prog w) A (assign target env v) (λ_ B=>wpAny (model prog w) A body (λ_ E=>∃m,m<n/\I m E) FF B) FF y) FF j) FF s)
 (n:Nat) (h:I n s):codeAny (model prog w) A (.compLoop ce k it acc env) R s:=by
 show codeAny_loop rfl I (λn s M=>?_) n h;rw[hd.1,hd.2];show wpAny_noted ?_;rw[L];show wpAny_noRaise ?_;show tqa (wpAny_standAt (tqa (aT (turn n s M) λr j u=>?_)));cases r with
 |none=>show tqb u
 | some v=>
   show tqa (aT u λ_ y F=>?_);show tqa (aT F λ_ B H=>tqa (aT H λ_ E J=>tqb ⟨rfl,J⟩))
def CH (y h j:Expr)(E:List Ua)(u:Scope)(pos:Pos)(B acc:RJ)(env:Tu) :
 compTurn (.ListComp y [{h,j,[],0}] u pos) 0 B acc env=(standAt j.pos >>= λ_=>pyNext B >>= λr=>match r with
  |none=>pure (.done .next)
  |some v=>letOwnedTupleGo h B v >>= λ_=>assign h env v >>= λ_=>(eval y env >>= λx=>call (.builtin "list.append") [acc,x] >>= λ_=>pure ()) >>= λ_=>again (.compLoop (.ListComp y [{h,j,[],0}] u pos) 0 B acc env)):=`r
def turn_if (y h j c:Expr)(u:Scope)(pos:Pos)(B acc:RJ)(env:Tu) :
 compTurn (.ListComp y [{h,j,[c],0}] u pos) 0 B acc env=(standAt j.pos >>= λ_=>pyNext B >>= λr=>match r with
  |none=>pure (.done .next)
  |some v=>letOwnedTupleGo h B v >>= λ_=>assign h env v >>= λ_=>(isTrue c env (eval c env) >>= λok=>if ok=true then(eval y env >>= λx=>call (.builtin "list.append") [acc,x] >>= λ_=>pure ()) else pure ()) >>= λ_=>again (.compLoop (.ListComp y [{h,j,[c],0}] u pos) 0 B acc env)):=by
 rw[compTurn_list];show congrArg _ (funext λ_=>congrArg _ (funext λr=>?_));cases r with
 |none=>rfl
 | some v=>
   dsimp[List.forIn_cons,List.forIn_nil,if_true,bind_assoc,pure_bind];show congrArg _ (funext λ_=>congrArg _ (funext λ_=>congrArg _ (funext λok=>?_)));cases ok<;>simp
def CF (B h y t2 E:Expr)(u:Scope)(pos:Pos)(F acc:RJ)(env:Tu) :
 compTurn (.ListComp B [{h,y,[],0},{t2,E,[],0}] u pos) 0 F acc env=(standAt y.pos >>= λ_=>pyNext F >>= λr=>match r with
  |none=>pure (.done .next)
  |some v=>letOwnedTupleGo h F v >>= λ_=>assign h env v >>= λ_=>(eval E env >>= λx=>standAt E.pos >>= λ_=>foldedSetIterable E env x >>= λx=>holding [x] (pyIter x) >>= λj=>runOwn (.compStart (.ListComp B [{h,y,[],0},{t2,E,[],0}] u pos) 1 j acc env) env >>= λ_=>pure ()) >>= λ_=>again (.compLoop (.ListComp B [{h,y,[],0},{t2,E,[],0}] u pos) 0 F acc env)):=by
 show bind_congr λ_=>bind_congr λr=>?_;cases r with
 |none=>rfl
 |some v=>simp
def CG (y h u t2 E:Expr)(j:Scope)(pos:Pos)(B acc:RJ)(env:Tu) :
 compTurn (.ListComp y [{h,u,[],0},{t2,E,[],0}] j pos) 1 B acc env=(standAt E.pos >>= λ_=>pyNext B >>= λr=>match r with
  |none=>pure (.done .next)
  |some v=>letOwnedTupleGo t2 B v >>= λ_=>assign t2 env v >>= λ_=>(eval y env >>= λx=>call (.builtin "list.append") [acc,x] >>= λ_=>pure ()) >>= λ_=>again (.compLoop (.ListComp y [{h,u,[],0},{t2,E,[],0}] j pos) 1 B acc env)):=by
 rfl
set_option tactic.hygienic true in
theorem lQ (env:Tu):∀(ns:List (Str×NameKind)) (h:List (Str×Addr)),(∀y∈ns,y.2=.free->∃c,env.cells.lookup y.1=some c)->(∀x c,h.lookup x=some c->env.cells.lookup x=some c)->
 ∃cl,(forIn ns h λ(y:Str×NameKind) (r:List (Str×Addr))=>if (y.2==NameKind.free)=true then cellOf env y.1 >>= λa=>pure (ForInStep.yield ((y.1,a)::r)) else pure (ForInStep.yield r):Sem _)=pure cl/\
  (∀x c,cl.lookup x=some c->env.cells.lookup x=some c)/\(∀x c,h.lookup x=some c->∃E,cl.lookup x=some E)/\∀y∈ns,y.2=.free->∃c,cl.lookup y.1=some c
 |[],h,_,h2=>{h,`s,h2,λx c e=>⟨c,e⟩,λy j=>nomatch j}
 | (n,k)::ns,h,h1,h2=>by
   by_cases hk:k=.free
   .subst hk;obtain(a|v):=h1 (n,.free) RY rfl;have lk:∀x c,((n,a)::h).lookup x=some c->env.cells.lookup x=some c:=λx c e=>by
     rw[SI] at e;split at e
     .next q=>cases e;rw[eq_of_beq q];show v
     .exact h2 x c e
    obtain(cl|e|p1|p2|u):=lQ env ns ((n,a)::h) (λy j=>h1 y (RP _ j)) lk;show{cl,?_,p1,λx c q=>?_,λy j hf=>?_}
    .rw[List.forIn_cons];have H:cellOf env n=pure a:=by unfold cellOf;rw[v]
     dsimp[beq_self_eq_true,if_true,H];show e
    .by_cases B:x=n
     .exact p2 x a (by rw[SI,B];simp)
     .exact p2 x c (by rw[SI,Sw.mpr B];show q)
    .rcases R7.mp j with z|z
     .subst z;show p2 n a (by simp[SI])
     .exact u y z hf
   .obtain(cl|e|p1|p2|u):=lQ env ns h (λy j=>h1 y (RP _ j)) h2;show{cl,?_,p1,p2,λy j hf=>?_}
    .rw[List.forIn_cons];have F:(k==NameKind.free)=false:=by simpa using hk
     dsimp[F,Bool.false_eq_true,if_false];show e
    .rcases R7.mp j with z|z
     .subst z;show absurd hf hk
     .exact u y z hf
def qe (h:∀y∈j.names,y.2=.free->∃c,env.cells.lookup y.1=some c) :
 ∃cl,closureFor j env=pure cl/\(∀x c,cl.lookup x=some c->env.cells.lookup x=some c)/\∀y∈j.names,y.2=.free->∃c,cl.lookup y.1=some c:=by
 obtain(cl|e|p1|_|u):=lQ env j.names [] h (λx c q=>nomatch q);show{cl,by unfold closureFor;dsimp[bind_pure];show e,p1,u}
end
noncomputable def fP (X:Cx)(own bn:List Str)(scope:Scope)(cl:List (Str×Addr))(C:Addr)(fp:List Addr)(s:RO)(H:Hp):Cx:=
 {X with N:=own++bn,s₀:=s,H₀:=H,env:=compEnvC scope cl C X.env,outer:=X.stack,ex:=fp,fn:=λx=>scope.names.lookup x==some .cell,pn:=[],xe:=FF}
set_option tactic.hygienic true in
noncomputable def mem_of_lookup {j:Type}:∀{l:List (Str×j)}{x:Str}{k:j},l.lookup x=some k->(x,k)∈l
 |[],_,_,h=>by cases h
 | (n,b)::r,x,k,h=>by
   rw[SI] at h;split at h
   .next q=>cases h;rw[eq_of_beq q];show RY
   .exact RP _ (mem_of_lookup h)
set_option tactic.hygienic true in
theorem gJ {env:Tu}:∀{j:List (Str×NameKind)}{x:Str}{k:NameKind},
 (j.map λ(n,k)=>if (k==NameKind.free&&env.scope.kind==.function&&env.kindOf n==some .cell) then(n,NameKind.cell) else(n,k)).lookup x=some k->
 ∃k0,(x,k0)∈j/\j.lookup x=some k0/\(k=k0\/(k0=.free/\k=.cell))
 |[],_,_,h=>by cases h
 | (n,k0)::r,x,k,h=>by
   have y:=@gJ env r x k;have h:List.lookup x ((if (k0==NameKind.free&&env.scope.kind==.function&&env.kindOf n==some .cell)=true then(n,NameKind.cell) else(n,k0))::_)=some k:=h;cases u:x==n with
   | true=>
     have e:=eq_of_beq u;subst e;show{k0,RY,by simp[SI],?_}
     split at h
     .next c=>
      simp[SI] at h;simp at c;show .inr ⟨c.1.1,h.symm⟩
     .simp[SI] at h;show .inl h.symm
   | false=>
     have v:List.lookup x (r.map λ(n,k)=>if (k==NameKind.free&&env.scope.kind==.function&&env.kindOf n==some .cell) then(n,NameKind.cell) else(n,k))=some k:=by
      split at h<;>simpa[SI,u] using h
     obtain(k1|h1|h2|h3):=y v;show{k1,RP _ h1,by simp[SI,u];show h2,h3}
noncomputable def pO {h j:Type}{R:h->j->Prop}:∀{l:List h}{r:List j}{i:Nat}{x:h},Tz R l r->l[i]?=some x->∃y,r[i]?=some y/\R x y
 |_,_,_,_,.nil,e=>by simp at e
 |_,_,0,_,.cons p _,e=>by simp at e;subst e;show{_,rfl,p}
 | _,_,i+1,x,.cons _ t,e=>by
   obtain(y|h1|h2):=pO t (~~~e)
   show{y,~~~h1,h2}
structure fh (X:Cx) (own bn:List Str) (scope:Scope):Prop where
 kind:scope.kind=.function
 cel:∀y∈scope.names,y.2=.cell->scope.names.lookup y.1=some .cell
 loc:∀y∈scope.names,y.2=.local->scope.names.lookup y.1=some .local
 free:∀y∈scope.names,y.2=.free->X.env.kindOf y.1=some .cell\/X.env.kindOf y.1=some .free
 dis:Tz (λb x=>(b=x/\scope.names.lookup x≠some .local/\scope.names.lookup x≠some .cell)\/scope.names.lookup b=none) bn X.N
noncomputable def jz:∀(h:List (Str×NameKind)) (n:Nat) (acc:List (Str×Addr)),cellsFrom n h acc=cellsFrom n h []++acc
 |[],_,_=>rfl
 | (nm,k)::r,n,acc=>by
   unfold cellsFrom;split
   .rw[jz r (n+1) ((nm,n)::acc),jz r (n+1) [(nm,n)],TJ];rfl
   .exact jz r n acc
set_option tactic.hygienic true in
theorem vb:∀{j:List (Str×NameKind)}{n:Nat}{x:Str}{c:Addr},(x,c)∈cellsFrom n j []->(x,NameKind.cell)∈j
 |[],_,_,_,h=>nomatch h
 | (nm,k)::r,n,x,c,h=>by
   unfold cellsFrom at h;split at h
   .next e=>
    rw[jz] at h;rcases Si.mp h with h|h
    .exact RP _ (vb h)
    .cases RS.mp h;rw[eq_of_beq e];show RY
   .exact RP _ (vb h)
theorem qf:∀{j:List (Str×NameKind)}{n:Nat}{x:Str},(x,NameKind.cell)∈j->∃c,(x,c)∈cellsFrom n j []
 | (nm,k)::r,n,x,h=>by
   unfold cellsFrom;rcases R7.mp h with h|h
   .cases h;rw[if_pos (by rfl:(NameKind.cell==NameKind.cell)=true),jz]
    show{n,Sz _ (RS.mpr rfl)}
   .split
    .obtain(c|u):=qf h;rw[jz];show{c,S7 _ u}
    .exact qf h
noncomputable def mD {j:Type}:∀{l:List (Str×j)}{x:Str}{b:j},(x,b)∈l->∃c,l.lookup x=some c
 | (n,u)::r,x,b,h=>by
   rw[SI];cases e:x==n with
   |true=>show{_,rfl}
   | false=>
     rcases R7.mp h with z|z
     .cases z;rw[beq_self_eq_true] at e;cases e
     .exact mD z
def r6
 (h:Q (newEnv scope s.heap.objs.size globals (cellsFrom (s.heap.objs.size+1) scope.names cl) qual none .none (some env) builtinsNs) {s with heap:=pushCells (s.heap.push {cls:=.type "dict",data:=.dict #[]}) scope.names}) :
 wpAny M A (newFunctionEnv scope globals cl [] qual none .none (some env)) Q E s:=by
 dsimp[newFunctionEnv,Option.isSome_some,if_true];show tqa (wpAny_alloc ?_);show tqa (wpAny_layCells _ (λv kind j=>by cases u:kind==NameKind.cell<;>simp[u]) _ _ _ _ ?_)
 rw[show({s with heap:=s.heap.push {cls:=.type "dict",data:=.dict #[]}}:RO).heap.objs.size=s.heap.objs.size+1 from TQ ..]
 show tqa (tqb (tqb h))
section
variable{X:Cx}{pins:List (Addr×Obj)}{σ:L2.St}{H:Hp}{s:RO}{fp:List Addr}{scope:Scope}{cl:List (Str×Addr)}{own bn:List Str}
structure Cl (X:Cx) (scope:Scope) (cl:List (Str×Addr)) (n:Nat):Prop where
 sub:∀x c,cl.lookup x=some c->(scope.names.lookup x=some .cell/\n<c)\/(scope.names.lookup x≠some .cell/\X.env.cells.lookup x=some c)
 inj:∀x y c,cl.lookup x=some c->cl.lookup y=some c->scope.names.lookup x=some .cell->scope.names.lookup y=some .cell->x=y
 has:∀y∈scope.names,(y.2=.free\/y.2=.cell)->∃c,cl.lookup y.1=some c
def GI (S:fh X own bn scope)(h1:∀x c,cl.lookup x=some c->X.env.cells.lookup x=some c)(h2:∀y∈scope.names,y.2=.free->∃c,cl.lookup y.1=some c)(h:Heap)(hn:h.objs.size=n+1) :
 Cl X scope (cellsFrom (n+1) scope.names cl) n/\∀x c,(cellsFrom (n+1) scope.names cl).lookup x=some c->scope.names.lookup x=some .cell->(pushCells h scope.names).IsCell c none:=by
 have ok:=cellsFrom_ok scope.names h (n+1) [] {λ_ _ hm=>(nomatch hm),List.Pairwise.nil} (by rw[hn];show RN _)
 rw[hn] at ok;rw[jz];have j:∀{x c},(cellsFrom (n+1) scope.names []++cl).lookup x=some c->scope.names.lookup x=some .cell->(x,c)∈cellsFrom (n+1) scope.names []:=λ{x c} e u=>by
  obtain(E|I):=qf (mem_of_lookup u);obtain(J|h2):=mD I;rw[List.lookup_append,h2] at e;cases e;show mem_of_lookup h2
 have v:∀{x c},(cellsFrom (n+1) scope.names []++cl).lookup x=some c->scope.names.lookup x≠some .cell->cl.lookup x=some c:=λ{x c} e u=>by
  rw[List.lookup_append] at e;cases z:(cellsFrom (n+1) scope.names []).lookup x with
  |none=>rw[z] at e;show e
  |some E=>show absurd (S.cel _ (vb (mem_of_lookup z)) rfl) u
 show{{λx c e=>?_,λx y c e1 e2 u B=>?_,λy B hk=>?_},λx c e u=>(ok.empty x c (j e u)).1}
 .by_cases u:scope.names.lookup x=some .cell
  .exact .inl {u,(ok.empty x c (j e u)).2}
  .exact .inr {u,h1 x c (v e u)}
 .exact name_of_addr ok.apart (j e1 u) (j e2 B)
 .rcases hk with hk|hk
  .obtain(c|F):=h2 y B hk;rw[List.lookup_append];cases (cellsFrom (n+1) scope.names []).lookup y.1 with
   |none=>show⟨c,F⟩
   |some E=>show⟨E,rfl⟩
  .obtain(c|F):=qf (by rw[<- hk];show B)
   obtain(J|e2):=mD F;rw[List.lookup_append,e2];show⟨J,rfl⟩
def JE (I:Inv X pins σ H s)(S:fh X own bn scope)(j:Cl X scope cl s.heap.objs.size)(v:∀b∈fp,eO X pins H b)(B:∀b∈fp,∃o,s.heap.get? b=some o) :
 (fP X own bn scope cl s.heap.objs.size fp s H).Ok where
 mod:=I.ok.mod
 kind:=S.kind
 glob:=I.ok.glob
 blt:=I.ok.blt
 above:=RN _
 inj:=λx y c h1 h2=>by
  have lt:=λz e=>Nat.not_lt.mpr (Uc (let{_,q}:=I.cell z c e;q.lt))
  rcases j.sub x c h1 with⟨a1,a2⟩|⟨a1,a2⟩<;>rcases j.sub y c h2 with⟨b1,b2⟩|⟨b1,b2⟩
  .exact j.inj x y c h1 h2 a1 b1
  .exact absurd a2 (lt y b2)
  .exact absurd b2 (lt x a2)
  .exact I.ok.inj x y c a2 b2
 has:=λx h=>by
  have E:∀k,(relabel scope X.env).names.lookup x=some k->(k=.cell\/k=.free)->∃c,cl.lookup x=some c:=λk hk F=>by
   obtain(L|h1|h2|h3):=gJ hk;show j.has _ h1 ?_;rcases h3 with e|⟨e,_⟩
   .rcases F with z|z
    .exact .inr (e.symm.trans z)
    .exact .inl (e.symm.trans z)
   .exact .inl e
  rcases h with h|h
  .exact E _ h (.inl rfl)
  .exact E _ h (.inr rfl)
 cab:=λx c h e=>by
  rcases j.sub x c e with⟨_,a2⟩|⟨a1,_⟩
  .exact Uc a2
  .exact absurd (eq_of_beq h) a1
 hd:=I.ok.hd
 frames:=I.ok.frames
 stk:=.inl rfl
 exf:=λb u=>{λe=>by
  obtain(o|ho):=B b u;show absurd (R0 ho) (by rw[e];show S9 _),λx c e=>by
  rcases j.sub x c e with⟨_,a2⟩|⟨_,a2⟩
  .obtain(o|ho):=B b u;show λz=>absurd (R0 ho) (by rw[<- z];show Nat.lt_asymm a2)
  .exact(v b u).2.2.2.2.1 x c a2}
 bs:=λb o e=>I.bs b o e
 bsz:=RU I.ok.bsz I.sz
 noex:=λb o e u=>by
  rcases(v b u).2.2.2.1 with z|z
  .exact I.ok.noex b o e z
  .exact absurd (R9 (R0 e) (RU I.ok.bsz z)) (S9 _)
 exfs:=λb u J=>by
  rcases R7.mp (I.stkSub b J) with e|e
  .exact(v b u).2.1 e
  .exact(v b u).2.2.1 e
 funs:=I.stack
 frf:=λb u=>I.stkFree b u
def u9 (I:Inv X pins σ H s)(S:fh X own bn scope)(h:Cl X scope cl s.heap.objs.size)(P:∀b∈fp,eO X pins H b)(O:∀b∈fp,∃o,s.heap.get? b=some o)
 (hn:h'.Ns s.heap.objs.size m) (hk:∀b o,s.heap.get? b=some o->h'.get? b=some o) (M:∀x c,cl.lookup x=some c->scope.names.lookup x=some .cell->h'.IsCell c none) :
 Inv (fP X own bn scope cl s.heap.objs.size fp s H) [] (List.replicate own.length none++σ) H {s with heap:=h',toks:=t'} where
 ok:=JE I S h P O
 os:=rfl
 bare:=I.bare
 base:=Un.kept hk
 loc:=by
  show{m,hn,λi x v e1 e2 W=>?_};have e1:(own++bn)[i]?=some x:=e1;have U:own.length<=i:=by
   by_cases q:i<own.length
   .rw[RR (~~~q),T9] at e2
    simp[q] at e2
   .omega
  rw[So U] at e1;rw[So (~~~U)] at e2
  dsimp[Tg] at e2;have L:X.N[i-own.length]?=some x/\scope.names.lookup x≠some .local/\scope.names.lookup x≠some .cell:=by
   rcases pO S.dis e1 with⟨y,h1,⟨h2,h3⟩|h2⟩
   .subst h2;show⟨h1,h3⟩
   .exfalso;have no:∀k,(relabel scope X.env).names.lookup x≠some k:=λk hk=>by
     obtain(Q|_|h3|_):=gJ hk;rw[h2] at h3;cases h3
    rcases W with z|z|z
    .exact no _ z
    .exact no _ z
    .exact no _ z
  have R:∀k,(relabel scope X.env).names.lookup x=some k->(k=.local\/k=.cell\/k=.free)->∃c,(k=.cell\/k=.free)/\cl.lookup x=some c/\(X.env.kindOf x=some .cell\/X.env.kindOf x=some .free):=λk j J=>by
   obtain(Q|h1|h2|h3):=gJ j;have nl:Q≠.local:=λe=>L.2.1 (by rw[h2,e])
   have hf:Q=.free:=by
    rcases h3 with e|⟨e,_⟩
    .rcases J with z|z|z
     .exact absurd (e.symm.trans z) nl
     .exact absurd (by rw[h2,e.symm.trans z]) L.2.2
     .exact e.symm.trans z
    .exact e
   obtain(c|Y):=h.has _ h1 (.inl hf);show{c,?_,Y,S.free _ h1 hf};rcases J with z|z|z
   .rcases h3 with e|⟨_,e⟩
    .rw[hf] at e;rw[e] at z;cases z
    .rw[e] at z;cases z
   .exact .inl z
   .exact .inr z
  have B:∀k,(relabel scope X.env).names.lookup x=some k->(k=.local\/k=.cell\/k=.free)->∃u,RelV v u/\Look (compEnvC scope cl s.heap.objs.size X.env) h' m x u:=λk j J=>by
   obtain(c|h1|h2|h3):=R k j J;obtain(m0|_|hl):=I.loc;obtain(u|r|l):=hl _ x v L.1 e2 (.inr h3);show{u,r,.inr {?_,c,h2,?_}}
   .rcases h1 with z|z
    .subst z;show .inl j
    .subst z;show .inr j
   .rcases l with⟨z,_⟩|⟨_,c',F,E⟩
    .rcases h3 with q|q
     .rw[z] at q;cases q
     .rw[z] at q;cases q
    .rcases h.sub x c h2 with⟨a1,_⟩|⟨_,a2⟩
     .exact absurd a1 L.2.2
     rw[a2] at F;cases F;obtain(o|ho|hd):=E;show{o,hk _ _ ho,hd}
  rcases W with z|z|z
  .exact B _ z (.inl rfl)
  .exact B _ z (.inr (.inl rfl))
  .exact B _ z (.inr (.inr rfl))
 cell:=λx c e=>by
  rcases h.sub x c e with⟨a1,_⟩|⟨_,a2⟩
  .exact{none,M x c e a1}
  obtain(v|o|ho|hd):=I.cell x c a2;show{v,o,hk _ _ ho,hd}
 free:=I.hok.fresh (RN _)
 freeC:=λx c e=>(h.sub x c e).elim (λz=>I.hok.fresh (Uc z.2)) λz=>I.freeC x c z.2
 pin:=λp hp=>nomatch hp
 hok:=I.hok.kept hk
 len:=by
  change(List.replicate own.length none++σ).length=(own++bn).length;have:=Paired.length S.dis;simp[I.len,this]
def comp_back (I:Inv X pins σ H s)(h:∀b∈fp,eO X pins H b)(j:Inv (fP X own bn scope cl C fp s H) pins' σ' H' s'):Inv X pins σ H' s':=
 I.call' j.os j.base j.hok j.bare λb u=>{(h b u).2.2.2.1,(h b u).2.1,(h b u).2.2.2.2.1,(h b u).2.2.2.2.2}
def sd (I:Inv X pins σ H s)(hf:H' s.heap.objs.size=none)(h:Inv X pins σ' H' s')(hs:TB s.heap.objs.size s'.heap h''):Inv X pins σ' H' {s' with heap:=h''}:=
 h.turned (λb o j e=>(hs.2 b j).trans e) hf (SF I.lt) (.inr I.sz) (λx c e z=>by
  obtain(v|q):=I.cell x c e;show absurd q.lt (by rw[z];show S9 _)) λp u z=>absurd (R0 (I.pin p u).1) (by rw[z];show S9 _)
end
structure fg (a:Addr) (μ:Mu) (H:Hp) (μ':Mu) (H':Hp):Prop extends ExtW μ H μ' H' where
 pr:μ'.priv=μ.priv
 pk:∀b∈μ.priv,b≠a->H' b=H b
def fg.refl:fg a μ H μ H:={.refl,rfl,λ_ _ _=>rfl}
def fg.trans (x:fg a μ H μ1 H1)(y:fg a μ1 H1 μ2 H2):fg a μ H μ2 H2:=
 {x.toExtW.trans y.toExtW,y.pr.trans x.pr,λb h n=>(y.pk b (by rw[x.pr];show h) n).trans (x.pk b h n)}
def Ext.toD (x:Ext μ H μ' H'):fg a μ H μ' H':={x.toExtW,x.pr,λb h _=>x.pk b h}
noncomputable def slots:fR->List Nat
 |.one i=>[i]
 |.tup l=>l
 |.two i l=>i::l
def Clear (W:List Nat)(Z:Env):Prop:=∀i∈W,∀d,Z[i]?≠some (some d)
section
variable{fa:Fa}{K:RG}{μ μ':Mu}{H H':Hp}{σ:L2.St}{Z ρ1:Env}{M:Mem}{a:Addr}
def bz.weak (h:bz fa K μ H σ ρ1)(hl:ρ1.length=Z.length)(w:∀(i:Nat) d,Z[i]?=some (some d)->ρ1[i]?=some (some d)):bz fa K μ H σ Z:=
 {h.len.trans hl,λi d e=>h.at' i d (w i d e)}
theorem lA:∀{l:List Nat}{ds:List D}{Z ρ1:Env},fH l ds Z=some ρ1->ρ1.length=Z.length/\∀i,i∉l->ρ1[i]?=Z[i]?
 |[],[],Z,ρ1,h=>by cases h;show{rfl,λ_ _=>rfl}
 |_::_,[],_,_,h=>by cases h
 |[],_::_,_,_,h=>by cases h
 | j::l,d::ds,Z,ρ1,h=>by
   obtain(h1|h2):=lA (ds:=ds) h;show{~~~h1,λi u=>?_}
   rw[h2 i (λz=>u (RP _ z)),RT (λz=>u (by rw[z];show RY))]
def sj (h:b7 t d Z=some ρ1):ρ1.length=Z.length/\∀i,i∉slots t->ρ1[i]?=Z[i]?:=by
 cases t with
 | one j=>
   cases h;show{`s,λi u=>RT (λz=>u (by rw[z];show RY))}
 | tup l=>
   cases d with
   |tup v=>show lA h
   |_=>cases h
 | two j l=>
   obtain(e|v|rfl|h):=vn h;obtain(h1|h2):=lA h;show{~~~h1,λi u=>?_}
   rw[h2 i (λz=>u (RP _ z)),RT (λz=>u (by rw[z];show RY))]
def bz.unbind (h:b7 t d Z=some ρ1)(c:Clear (slots t) Z)(r:bz fa K μ H σ ρ1):bz fa K μ H σ Z:=by
 obtain(h1|h2):=sj h;show r.weak h1 λi d e=>?_;by_cases j:i∈slots t
 .exact absurd e (c i j d)
 .rw[h2 i j];show e
def RelM.writeP (h:RelM fa K μ H M)(e:a∈μ.priv)(v:H a=some (.lst vs)):RelM fa K μ (upd H a (.lst ws)) M:=by
 have x:ExtW μ H μ (upd H a (.lst ws)):=ExtW.write v (.inr e);show{λk B q=>?_,h.out,h.oout,h.inj,h.oinj,h.sep,λb y=>{?_,(h.pv b y).2}}
 .rcases h.at' k B q with⟨b,u,h1,h2,h3⟩|⟨b,h1,h2,h3⟩
  .have E:b≠a:=λz=>(h.pv a e).2 k (by rw[h1,z])
   show .inl {b,u,h1,by rw[az E];show h2,h3.extW x}
  .exact .inr {b,h1,h2,h3.extW x (az (h3.nl v))}
 .by_cases j:b=a
  .subst j;show⟨ws,cf⟩
  .obtain(u|q):=(h.pv b y).1;show{u,by rw[az j];show q}
def fg.writeP (e:a∈μ.priv)(h:H a=some (.lst vs)):fg a μ H μ (upd H a (.lst ws)):=
 {ExtW.write h (.inr e),rfl,λb _ n=>by rw[az n]}
end
abbrev PA:=Mu->Hp->List D->Prop
def zd (A:PA):Prop:=∀μ H μ' H' h,Ext μ H μ' H'->A μ H h->A μ' H' h
def LA (fa:Fa)(K:RG)(a:Addr):PA:=λμ H h=>a∈μ.priv/\∃j,H a=some (.lst j)/\aH fa K μ H h j
def LA.stab {K:RG}:zd (LA fa K a):=(by rintro _ _ _ _ _ x ⟨h1,h,h2,h3⟩;show{by rw[x.pr];show h1,h,by rw[x.pk _ h1];show h2,h3.ext x})
def WB (fa:Fa)(K:RG)(A:PA)(a:Addr)(μ:Mu)(H:Hp)(Z:Env)(Q:L2.St->Hp->Prop)(acc:List D)(M':Mem):Prop:=
 ∀h H' μ',fg a μ H μ' H'->bz fa K μ' H' h Z->RelM fa K μ' H' M'->A μ' H' acc->Q h H'
def WB.ext {K:RG}(h:WB fa K A a μ H Z Q acc M')(x:fg a μ H μ1 H1):WB fa K A a μ1 H1 Z Q acc M':=
 λj H' μ' y e m h1=>h j H' μ' (x.trans y) e m h1
def DB (fa:Fa)(X:Cx)(A:PA)(a:Addr)(W:List Nat)(body:Sem Unit)(g:Env->List D->Mem->Res (List D)):Prop:=
 ∀(h:List (Addr×Obj)) (s:RO) (σ:L2.St) (H:Hp) (Q:L2.St->Hp->Prop) (μ:Mu) (Z:Env) (M:Mem) (j:List D),Inv X h σ H s->bz fa X.K μ H σ Z->RelM fa X.K μ H M->Clear W Z->A μ H j->
  ae (g Z j M) (WB fa X.K A a μ H Z Q)->wpAny (model X.prog X.w) X.A body (λ_ v=>∃u H',Inv X h u H' v/\Q u H') X.xe s
def bB (ge:Env->Mem->Res D):Env->List D->Mem->Res (List D):=λZ h M=>(ge Z M).bind λx M=>if h.length<sz then .ok (h++[x]) M else .bad
def iC (j:Env->Mem->Res Bool)(g:Env->List D->Mem->Res (List D)):Env->List D->Mem->Res (List D):=λZ h M=>(j Z M).bind λk M=>if k then g Z h M else .ok h M
def cJ (t:fR)(g:Env->List D->Mem->Res (List D))(Z:Env):List D->D->Mem->Res (List D):=λh d M=>(cj M (b7 t d Z)).bind λρ1 M=>g ρ1 h M
def uX (t:fR)(j:Env->Mem->Res Walk)(g:Env->List D->Mem->Res (List D)):Env->List D->Mem->Res (List D):=λZ h M=>(j Z M).bind λw M=>cY (cJ t g Z) w h M
section
variable{fa:Fa}{X:Cx}{a:Addr}
set_option tactic.hygienic true in
def u5 (he:DE fa X elt ge):DB fa X (LA fa X.K a) a [] (eval elt X.env >>= λx=>call (.builtin "list.append") [.ref a,x] >>= λ_=>pure ()) (bB ge):=by
 rintro B s σ H Q μ Z M acc I R hM hc ⟨S,L,hH,hr⟩ h;obtain(x|Y|e|q):=aI h;split at q
 .next hz=>
  show tqa (aT (he B s σ H (λv y=>∃j,Ext μ H j y/\RelM fa X.K j y Y/\Rep fa X.K j y x v) I {μ,Z,M,R,hM,?_}) λu s1 ⟨v,y,U,rv,j,J,P,r1⟩=>?_)
  .rw[e];show λv y j J P r1=>⟨j,J,P,r1⟩
  have E:y a=some (.lst L):=by rw[J.pk a S];show hH
  have F:a∈j.priv:=by rw[J.pr];show S
  have hl:L.length<sizeLine:=by rw[hr.length,<- dr];show hz
  show tqa (aT (mz B s1 σ y (.ref a) [v] (.ref a) [u] (λ_ O=>O=upd y a (.lst (L++[v]))) U rfl (.cons rv .nil) ⟨a,L,v,rfl,rfl,E,hl,rfl⟩) λ_ s2 ⟨_,O,W,_,e2⟩=>tqb {σ,O,W,?_});subst e2;have xd:fg a j y j (upd y a (.lst (L++[v]))):=fg.writeP F E;show q σ _ j (J.toD.trans xd) ((R.ext J).extW xd.toExtW) (P.writeP F E) {F,_,cf,((hr.ext J).append (.one r1)).extW xd.toExtW}
 .exact q.elim
def O3 (P:zd A)(Y:DT fa X c gc)(U:DB fa X A a W body g) :
 DB fa X A a W (isTrue c X.env (eval c X.env) >>= λok=>if ok=true then body else pure ()) (iC gc g):=by
 intro u s σ H Q μ Z M E I F S hw O h;obtain(k|L|e|q):=aI h;show tqa (aT (Y u s σ H (λb y=>b=k/\∃j,Ext μ H j y/\RelM fa X.K j y L) I {μ,Z,M,F,S,?_}) λb s1 ⟨y,J,R,j,v,B⟩=>?_)
 .rw[e];show λy j v B=>⟨rfl,j,v,B⟩
 subst R;cases b with
 | true=>
   rw[if_pos rfl];show U u s1 σ y Q j Z L E J (F.ext v) B hw (P _ _ _ _ _ v O) (ay q λ_ _ w=>w.ext v.toD)
 | false=>
   rw[if_neg R6];show tqb {σ,y,J,q σ y j v.toD (F.ext v) B (P _ _ _ _ _ v O)}
def qZ (sA:zd A)
 (heq:compTurn ce k (.ref it) (.ref a) X.env=(standAt p >>= λ_=>pyNext (.ref it) >>= λr=>match r with
  |none=>pure (.done .next)
  |some v=>letOwnedTupleGo tg (.ref it) v >>= λ_=>assign tg X.env v >>= λ_=>body >>= λ_=>again (.compLoop ce k (.ref it) (.ref a) X.env)))
 (hd:(model X.prog X.w).den (.compLoop ce k (.ref it) (.ref a) X.env)=(compTurn ce k (.ref it) (.ref a) X.env).onRaise (λx=>do noteFrame x X.env;theTreesLotGoes x)/\X.A.under (.compLoop ce k (.ref it) (.ref a) X.env)=X.A) (hx:X.xe=FF) (U:X.calm=true) (T:Turn X.prog X.w X.K tg J fp it tn) (hg:PG X tg (gT fa X.K t)) (S:DB fa X A a W body g) (hW:∀i∈W,i∉slots t)
 (I:Inv X pins σ H s) (st:tn 0 s.heap) (hf:∀b∈fp,eO X pins H b) (hE:bz fa X.K μ H σ Z) (hM:RelM fa X.K μ H M)
 (hcl:Clear (slots t++W) Z) (hA:A μ H acc) (wk:c7 fa X.K μ H w J) (q:ae (cY (cJ t g Z) w acc M) (WB fa X.K A a μ H Z Q)) :
 codeAny (model X.prog X.w) X.A (.compLoop ce k (.ref it) (.ref a) X.env) (λr Y=>r=.ok .next/\∃j H',Inv X pins j H' Y/\Q j H') s:=by
 have stat:∀{H':Hp},(∀b∈fp,H' b=none)->∀b∈fp,eO X pins H' b:=λhn b S=>{hn b S,(hf b S).2};have clt:=λi hi=>hcl i (S7 _ hi);have clW:∀d ρ1,b7 t d Z=some ρ1->Clear W ρ1:=λd ρ1 e i hi d' z=>by
  rw[(sj e).2 i (hW i hi)] at z;show hcl i (Sz _ hi) d' z
 let P:Nat->Nat->RO->Prop:=λm i Y=>∃j H' μ' M' B,Inv X pins j H' Y/\tn i Y.heap/\(∀b∈fp,H' b=none)/\fg a μ H μ' H'/\bz fa X.K μ' H' j Z/\RelM fa X.K μ' H' M'/\A μ' H' B/\
  ae (fT (cJ t g Z) w m i B M') (WB fa X.K A a μ H Z Q)
 have P0:∃m,P m 0 s:={_,σ,H,μ,M,acc,I,st,λb S=>(hf b S).1,.refl,hE,hM,hA,q};obtain(m0|P0):=P0;have hturn:∀(n:Nat) (i:Nat) (s3:RO),P n i s3->wpAny (model X.prog X.w) X.A (pyNext (.ref it)) (λr y=>match r with
  |none=>(∃j H',Inv X pins j H' y/\Q j H')
  |some v=>wpAny (model X.prog X.w) X.A (letOwnedTupleGo tg (.ref it) v) (λ_ F=>wpAny (model X.prog X.w) X.A (assign tg X.env v) (λ_ L=>wpAny (model X.prog X.w) X.A body (λ_ O=>∃m,m<n/\P m (i+1) O) FF L) FF F) FF y) FF s3:=by
  rintro n i s3 ⟨σ3,H3,E,M3,R,I3,st3,fr3,x3,hE3,hM3,hA3,q3⟩;have one:∀(d:D) (rest:List D->Mem->Res (List D)) (next:List D->Mem->Prop),J.go i H3->(∀x H',J.yld i H3 x H'->Ext E H3 E H'/\RelM fa X.K E H' M3/\Rep fa X.K E H' d x)->ae ((cJ t g Z R d M3).bind rest) (WB fa X.K A a μ H Z Q)->
   (∀j H' μ' M' B Y,Inv X pins j H' Y->tn (i+1) Y.heap->(∀b∈fp,H' b=none)->fg a μ H μ' H'->bz fa X.K μ' H' j Z->RelM fa X.K μ' H' M'->A μ' H' B->ae (rest B M') (WB fa X.K A a μ H Z Q)->∃m,m<n/\P m (i+1) Y)->
   wpAny (model X.prog X.w) X.A (pyNext (.ref it)) (λr y=>match r with
    |none=>(∃j H',Inv X pins j H' y/\Q j H')
    |some v=>wpAny (model X.prog X.w) X.A (letOwnedTupleGo tg (.ref it) v) (λ_ F=>wpAny (model X.prog X.w) X.A (assign tg X.env v) (λ_ L=>wpAny (model X.prog X.w) X.A body (λ_ O=>∃m,m<n/\P m (i+1) O) FF L) FF F) FF y) FF s3:=by
   intro d rest next go yl qd fin
   show aT (T.item X rfl rfl rfl U i pins s3 σ3 H3 FF I3 (stat fr3) st3 go) ?_;rintro r s4 ⟨u,hr4,h4⟩;subst hr4;show aT h4 ?_;rintro _ s5 ⟨x,H5,I5,r5,y5,st5,fr5⟩;obtain(x5|hM5|rd):=yl x H5 y5;have I5':=I5.pinned (stat fr5) (T.obj _ _ st5);obtain(acc6|M6|e6|q6):=aI qd;obtain(ρ1|M7|e7|e8):=eG e6;cases eb:b7 t d Z with
   |none=>rw[eb] at e7;cases e7
   | some ρ2=>
     rw[eb] at e7;cases e7;have hg':=hg _ s5 σ3 H5 x u (λj H'=>H'=H5/\bz fa X.K E H5 j ρ1) I5' r5 {E,Z,_,d,ρ1,hE3.ext x5,hM5,rd,eb,λσ1 h1=>⟨rfl,h1⟩};rw[hx] at hg';show aT hg' ?_;rintro _ s6 ⟨σ6,H6,I6,eH,hE6⟩;subst eH;have hb':=S _ s6 σ6 H6 (λj H'=>∃μ',fg a E H6 μ' H'/\bz fa X.K μ' H' j ρ1/\RelM fa X.K μ' H' M6/\A μ' H' acc6) E ρ1 _ R I6 hE6 hM5 (clW d ρ1 eb) (sA _ _ _ _ _ x5 hA3) (by
      rw[e8];show λj H' μ' z1 z2 z3 z4=>⟨μ',z1,z2,z3,z4⟩)
     rw[hx] at hb';show aT hb' ?_;rintro _ s7 ⟨σ7,H7,I7,μ7,x7,hE7,hM7,hA7⟩;show fin σ7 H7 μ7 M6 acc6 s7 I7.unpinned (T.keep _ _ _ st5 λb S o e=>(I7.pin (b,o) (Sz _ (Sz _ (iV S e)))).1) (λb S=>?_) ((x3.trans x5.toD).trans x7) (hE7.unbind eb clt) hM7 hA7 q6;obtain(o|e|dd):=T.obj _ _ st5 b S;show(I7.pin (b,o) (Sz _ (Sz _ (iV S e)))).2.1
  have stop:J.stop i H3->ae (.ok R M3) (WB fa X.K A a μ H Z Q)->wpAny (model X.prog X.w) X.A (pyNext (.ref it)) (λr y=>match r with
   |none=>(∃j H',Inv X pins j H' y/\Q j H')
   |some v=>wpAny (model X.prog X.w) X.A (letOwnedTupleGo tg (.ref it) v) (λ_ F=>wpAny (model X.prog X.w) X.A (assign tg X.env v) (λ_ L=>wpAny (model X.prog X.w) X.A body (λ_ O=>∃m,m<n/\P m (i+1) O) FF L) FF F) FF y) FF s3:=λhs q=>by
   show aT (T.done X rfl rfl rfl U i pins s3 σ3 H3 FF I3 (stat fr3) st3 hs) ?_;rintro r s4 ⟨hr4,I4⟩;subst hr4;show{σ3,H3,I4,q σ3 H3 E x3 hE3 hM3 hA3}
  cases n with
  |zero=>show q3.elim
  | succ n=>
    unfold fT at q3;cases e2:w M3 with
    |none=>rw[e2] at q3;show q3.elim
    | some ds=>
      rw[e2] at q3;dsimp only at q3;obtain(go|stp):=wk E H3 M3 ds x3.toExtW hM3 e2;cases ed:ds[i]? with
      | none=>
        rw[ed] at q3;show stop (stp i (List.getElem?_eq_none_iff.mp ed)) q3
      | some d=>
        rw[ed] at q3;obtain(g1|g2):=go i d ed;show one d (fT (cJ t g Z) w n (i+1)) (λ_ _=>True) g1 g2 q3 ?_;intro j H' μ' M' B Y z1 z2 z3 z4 z5 z6 z7 z8;show{n,`a,j,H',μ',M',B,z1,z2,z3,z4,z5,z6,z7,z8}
 show BG heq hd (λn Y=>∃i,P n i Y) (λn s3 ⟨i,h3⟩=>?_) m0 {0,P0};show aT (hturn n i s3 h3) λr s1 h=>?_;cases r with
 |none=>show⟨rfl,h⟩
 |some v=>show aT h λ_ s2 h=>aT h λ_ s3 h=>aT h (by rintro _ s4 ⟨m,hm,h⟩;show{m,hm,i+1,h})
end
section
variable{prog:Sx}{w:Sr}{A:Ti}{s:RO}{R:Result->RO->Prop}
def sJ {j t1 E t2 y:Expr}
 (F:codeAny (model prog w) A (.compLoop (.ListComp j [{t1,E,f1,0},{t2,y,f2,0}] scope pos) 1 it acc env) R s)
 (h:wpAny (model prog w) A (pyIter it) (λu v=>codeAny (model prog w) A (.compLoop (.ListComp j [{t1,E,f1,0},{t2,y,f2,0}] scope pos) 1 u acc env) R v)
  (notedBy (model prog w) A env λx v=>R (.error x) v) s) :
 codeAny (model prog w) A (.compStart (.ListComp j [{t1,E,f1,0},{t2,y,f2,0}] scope pos) 1 it acc env) R s:=by
 show codeAny_of_tree ?_;show wpAny_notedAt ?_;show tqa (wpAny_askSetting (wpAny_ite ?_));split
 .first
   |show tqa (tqb (tqb (And.intro rfl F)))
   |show tqb (And.intro rfl F)
 .first
   |show tqa (wpAny_rule (tqa (wpAny_standAt (tqa (wpAny_mono h (λu v B=>tqb (And.intro rfl B)) λ_ _ x=>x)))))
   |(show tqa (wpAny_rule ?_);change wpAny _ _ (standAt y.pos >>= _) _ _ s;show tqa (wpAny_standAt (tqa (wpAny_mono h (λu v B=>tqb (And.intro rfl B)) λ_ _ x=>x))))
end
section
variable{fa:Fa}{X:Cx}{a:Addr}
def Nn {y t1 W t2 B:Expr}(hx:X.xe=FF)(F:X.calm=true)(hi:DI fa X t2 B gw)(hg:PG X t2 (gT fa X.K t))(he:DE fa X y ge)
 (hs:∀x,foldedSetIterable B X.env x=pure x) :
 DB fa X (LA fa X.K a) a (slots t) (eval B X.env >>= λx=>standAt B.pos >>= λ_=>foldedSetIterable B X.env x >>= λx=>holding [x] (pyIter x) >>= λj=>runOwn (.compStart (.ListComp y [{t1,W,[],0},{t2,B,[],0}] scope pos) 1 j (.ref a) X.env) X.env >>= λ_=>pure ()) (uX t gw (bB ge)):=by
 intro E s σ H Q μ Z M acc I hE hM hc hA h;obtain(w|M1|e|q):=aI h;show tqa (aT (hi E s σ H (λJ U=>∃u,Ext μ H u U/\RelM fa X.K u U M1/\c7 fa X.K u U w J) I {μ,Z,M,hE,hM,?_}) λv s1 h1=>?_)
 .rw[e];show λJ U u x1 m1 Y=>⟨u,x1,m1,Y⟩
 show tqa (wpAny_standAt (tqa (wpAny_of_eq (hs v) (tqa (tqo (aT h1 λitv s2 h2=>?_))))));obtain(it|fp|tn|J|H2|ei|I2|T|P|f2|μ2|x2|m2|Y):=h2;subst ei;have go:=qZ LA.stab (CG y t1 W t2 B scope pos (.ref it) (.ref a) X.env) ⟨rfl,rfl⟩ hx F T hg (u5 he) (λi hi=>nomatch hi) I2 P f2 (hE.ext x2) m2 (~~~hc) (LA.stab _ _ _ _ _ x2 hA) Y (ay q λ_ _ z=>z.ext x2.toD)
 show tqa (wpAny_runOwn ?_);have L:codeAny (model X.prog X.w) (X.A.mark none) (.compLoop (.ListComp y [{t1,W,[],0},{t2,B,[],0}] scope pos) 1 (.ref it) (.ref a) X.env) (λr O=>match r with|.ok f=>wpAny (model X.prog X.w) X.A (pure ():Sem Unit) (λ_ O=>∃S H',Inv X E S H' O/\Q S H') X.xe O|.error e=>cameBackBy (model X.prog X.w) X.A X.env X.xe e O) s2:=
  codeAny_mono go λr O ⟨er,z⟩=>by subst er;show tqb z
 show sJ L (T.self _ 0 _ _ _ P L)
end
section
variable{fa:Fa}{K:RG}{μ1 μ':Mu}{H1 H':Hp}{M1 M':Mem}{a:Addr}
noncomputable def Ma (μ:Mu)(a:Addr):Mu:={μ.pub,a::μ.priv,μ.ob}
def mO (h:RelM fa K μ1 H1 M1)(j:H1 a=none)(o:HO):ExtW μ1 H1 (Ma μ1 a) (upd H1 a o):=by
 have x:ExtW μ1 H1 μ1 (upd H1 a o):=(Ext.alloc h j).toExtW;show{x.mu,x.tups,λb u e n=>{(x.lsts b u e n).1,λz=>?_},x.frzs,x.exts,x.obs};rcases z with z|z
 .exact n (.inl z)
 .rcases R7.mp z with z|z
  .subst z;rw[j] at e;cases e
  .exact n (.inr z)
def Ay (h:RelM fa K μ1 H1 M1)(j:H1 a=none)(vs:List V):RelM fa K (Ma μ1 a) (upd H1 a (.lst vs)) M1:=by
 have x:=mO h j (.lst vs);show{λk v e=>(h.at' k v e).imp ((by rintro⟨b,u,h1,h2,h3⟩;show{b,u,h1,by rw[az (aX h2 j)];show h2,h3.extW x})) (by rintro⟨b,h1,h2,h3⟩;show{b,h1,h2,h3.extW x (az (h3.new j))}),h.out,h.oout,h.inj,h.oinj,h.sep,λb y=>?_}
 .rcases R7.mp y with z|z
  .subst z;show{⟨vs,cf⟩,λk e=>by
    obtain(_|_|_|q|_):=h.mu_lt e;rw[j] at q;cases q}
  .obtain((u|q)|n):=h.pv b z;show{{u,by rw[az (aX q j)];show q},n}
set_option tactic.hygienic true in
def H9 (h:RelM fa K μ1 H1 M1)(ha:H1 a=none)(x:fg a (Ma μ1 a) (upd H1 a (.lst [])) μ' H')(v:RelM fa K μ' H' M')(hH:H' a=some (.lst vs))(hr:aH fa K μ' H' acc vs)
 (q:ae (bc m acc M') (aY fa K μ1 H1 Q)):Q (.ref a) H':=by
 have R:=λz=>h.pne ha z rfl;have E:=x.pr;have S:∀k,μ'.pub k≠some a:=(v.pv a (by rw[E];show RY)).2
 have F:=mO h ha (.lst []);have xe:Ext μ1 H1 ⟨μ'.pub,μ1.priv,μ'.ob⟩ H':=by
  show{{λk b e=>x.mu k b e,λb y e=>x.tups b y (F.tups b y e),λb y e n=>?_,λb ob u e=>x.frzs b ob u (F.frzs b ob u e),λb o i e=>x.exts b o i (F.exts b o i e),λk b e=>x.obs k b (F.obs k b e)},rfl,λb B=>?_}
  .obtain(H|I):=F.lsts b y e n;obtain(Y|z4):=x.lsts b y H I;show{Y,λz=>z4 ?_};rcases z with z|z
   .exact .inl z
   .exact .inr (by rw[E];show RP _ z)
  .have nb:b≠a:=λe=>R (by rw[<- e];show B)
   rw[x.pk b (RP _ B) nb,az nb]
 have W:ExtW μ' H' ⟨μ'.pub,μ1.priv,μ'.ob⟩ H':={λ_ _ e=>e,λ_ _ e=>e,λb y e n=>{e,λz=>n (z.elim .inl λz=>.inr (by rw[E];show RP _ z))},λ_ _ _ e=>e,λ_ _ _ e=>e,λ_ _ e=>e}
 have me:RelM fa K ⟨μ'.pub,μ1.priv,μ'.ob⟩ H' M':={λk L e=>(v.at' k L e).imp ((by rintro⟨b,y,h1,h2,h3⟩;show{b,y,h1,h2,h3.extW W})) (by rintro⟨b,h1,h2,h3⟩;show{b,h1,h2,h3.extW W rfl}),v.out,v.oout,v.inj,v.oinj,v.sep,λb B=>v.pv b (by rw[E];show RP _ B)}
 have re:=hr.extW W;have P:¬ (⟨μ'.pub,μ1.priv,μ'.ob⟩:Mu).Mt a:=λz=>z.elim ((by rintro⟨k,e⟩;show S k e)) R
 unfold bc at q;split at q
 .cases m with
  | false=>
    show q (.ref a) H' _ xe me {a,vs,rfl,⟨hH,P⟩,re}
  | true=>
    have pc:∀k b,(fq ⟨μ'.pub,μ1.priv,μ'.ob⟩ M'.length a).pub k=some b->(k=M'.length/\b=a)\/(k≠M'.length/\μ'.pub k=some b):=λk b e=>by
     have e:(if k=M'.length then some a else μ'.pub k)=some b:=e;split at e
     .next z=>cases e;show .inl ⟨z,rfl⟩
     .next z=>show .inr ⟨z,e⟩
    have mc:∀k b,μ'.pub k=some b->(fq ⟨μ'.pub,μ1.priv,μ'.ob⟩ M'.length a).pub k=some b:=λk b e=>by
     change(if k=M'.length then some a else μ'.pub k)=some b;split
     .next z=>rw[z,v.out _ (RN _)] at e;cases e
     .exact e
    have ac:(fq ⟨μ'.pub,μ1.priv,μ'.ob⟩ M'.length a).pub M'.length=some a:=by
     change(if M'.length=M'.length then some a else _)=some a;rw[if_pos rfl]
    have nc:∀b,¬ μ'.Mt b->¬ (fq ⟨μ'.pub,μ1.priv,μ'.ob⟩ M'.length a).Mt b:=λb n z=>by
     rcases z with⟨k,z⟩|z
     .rcases pc k b z with⟨_,e⟩|⟨_,e⟩
      .exact n (.inr (by rw[E,e];show RY))
      .exact n (.inl ⟨k,e⟩)
     .exact n (.inr (by rw[E];show RP _ z))
    have xc:ExtW μ' H' (fq ⟨μ'.pub,μ1.priv,μ'.ob⟩ M'.length a) H':={mc,λ_ _ e=>e,λb y e n=>{e,nc b n},λ_ _ _ e=>e,λ_ _ _ e=>e,λ_ _ e=>e};have U:Ext μ1 H1 (fq ⟨μ'.pub,μ1.priv,μ'.ob⟩ M'.length a) H':=by
     show{{λk b e=>mc k b (x.mu k b e),xe.tups,λb y e n=>?_,xe.frzs,xe.exts,xe.obs},rfl,xe.pk};obtain(H|I):=F.lsts b y e n;obtain(Y|z4):=x.lsts b y H I;show{Y,nc b z4}
    have O:RelM fa K (fq ⟨μ'.pub,μ1.priv,μ'.ob⟩ M'.length a) H' (M'++[acc]):=by
     show{λk L e=>?_,λk hk=>?_,λk hk=>v.oout k (by simp at hk;omega),λj k b e1 e2=>?_,v.oinj,λk b z=>?_,λb B=>?_}
     .by_cases hk:k<M'.length
      .rw[RR hk] at e;rcases v.at' k L e with⟨b,y,h1,h2,h3⟩|⟨b,h1,h2,h3⟩
       .exact .inl {b,y,mc k b h1,h2,h3.extW xc}
       .exact .inr {b,h1,by change(if k=M'.length then some a else μ'.pub k)=none;rw[if_neg (Se hk)];show h2,h3.extW xc rfl}
      .have M:k=M'.length:=by
        have:=(RH.mp e).1;simp at this;omega
       subst M;rw[So (RN _)] at e;simp at e;subst e;show .inl {a,vs,ac,hH,hr.extW xc}
     .simp at hk;change(if k=M'.length then some a else μ'.pub k)=none;rw[if_neg `a]
      show v.out k `a
     .rcases pc j b e1 with⟨j1,J⟩|⟨j1,J⟩<;>rcases pc k b e2 with⟨k1,k2⟩|⟨k1,k2⟩
      .omega
      .exact absurd (J ▸ k2) (S k)
      .exact absurd (k2 ▸ J) (S j)
      .exact v.inj j k b J k2
     .show μ'.ob (aP k)=none;rcases pc k b z with⟨e,_⟩|⟨_,e⟩
      .rw[e];show v.oout _ (RN _)
      .exact v.sep k b e
     .have B:=B;obtain(H|I):=v.pv b (by rw[E];show RP _ B)
      show{H,λk e=>?_};rcases pc k b e with⟨_,e⟩|⟨_,e⟩
      .exact R (e ▸ B)
      .exact I k e
    show q (.ref a) H' _ U O ⟨a,rfl,ac⟩
 .exact q.elim
end
section
variable{fa:Fa}{X:Cx}
def bp (m:Bool)(n:Nat)(t:fR)(j:Env->Mem->Res Walk)(g:Env->List D->Mem->Res (List D)):Env->Mem->Res D:=λh M=>
 (j h M).bind λw M=>(cY (cJ t g (List.replicate n none++h)) w [] M).bind (bc m)
def ql (X:Cx)(u E h:Expr)(y:List Expr)(rest:List Ua)(j:Scope)(pos:Pos)(body:Addr->Tu->Sem Unit):Prop:=
 ∀(B a:Addr) (env:Tu),compTurn (.ListComp u ({E,h,y,0}::rest) j pos) 0 (.ref B) (.ref a) env=(standAt h.pos >>= λ_=>pyNext (.ref B) >>= λr=>match r with
  |none=>pure (.done .next)
  |some v=>letOwnedTupleGo E (.ref B) v >>= λ_=>assign E env v >>= λ_=>body a env >>= λ_=>again (.compLoop (.ListComp u ({E,h,y,0}::rest) j pos) 0 (.ref B) (.ref a) env))
structure Block (fa:Fa) (X:Cx) (A:Addr->PA) (own bn:List Str) (scope:Scope) (tg:Expr) (t:fR) (W:List Nat) (body:Addr->Tu->Sem Unit) (g:Env->List D->Mem->Res (List D)):Prop where
 pg:∀cl C fp s H,PG (fP X own bn scope cl C fp s H) tg (gT fa X.K t)
 db:∀cl C fp s H a,DB fa (fP X own bn scope cl C fp s H) (A a) a W (body a (compEnvC scope cl C X.env)) g
def sf (h:∀i∈W,i<n):Clear W (List.replicate n none++Z):=λi j d e=>by
 rw[RR (~~~(h i j)),T9] at e
 simp[h i j] at e
def t9 {K:RG}(n:Nat)(h:bz fa K μ H σ Z):bz fa K μ H (List.replicate n none++σ) (List.replicate n none++Z):=by
 show{by simp[h.len],λi d e=>?_}
 by_cases j:i<n
 .rw[RR (~~~j),T9] at e
  simp[j] at e
 .rw[So `o] at e ⊢
  dsimp[Tg] at e ⊢;show h.at' _ d e
def qc {rest:List Ua}
 (S:fh X own bn scope) (R:X.calm=true) (hi:DI fa X tg iter gw) (B:Block fa X (LA fa X.K) own bn scope tg t W body g) (hT:ql X elt tg iter ifs rest scope pos body) (hW:∀i∈W,i∉slots t) (hn:∀i∈slots t++W,i<own.length)
 (hs:∀x,foldedSetIterable iter X.env x=pure x)
 (I:Inv X pins σ H s) (hE:bz fa X.K μ H σ Z) (hM:RelM fa X.K μ H M) (h:ae (bp m own.length t gw g Z M) (aY fa X.K μ H Q))
 (post:∀(a C:Addr) (s':RO) (H':Hp),Inv X pins σ H' s'->Q (.ref a) H'->(∃m,s'.heap.Ns C m)->(∀σ2 E s2,Inv X pins σ2 E s2->(H' C=none->E C=none)->E C=none/\∀P,TB C s2.heap P->Inv X pins σ2 E {s2 with heap:=P})->H' C=none->(C≠X.env.locals/\∀x c,X.env.cells.lookup x=some c->c≠C)->compPost (model X.prog X.w) X.A X.xe use QQ (.ref a) C (.ok .next) s') :
 wpAny (model X.prog X.w) X.A (comprehension (.ListComp elt ({tg,iter,ifs,0}::rest) scope pos) scope X.env p0 (newList []) false (eval iter X.env) use) QQ X.xe s:=by
 obtain(w|M1|ew|q):=aI h;obtain(acc|M2|ea|q2):=aI q;obtain(cl|hcl|O|L):=qe λy hy hf=>I.ok.has y.1 (S.free y hy hf);show wpAny_comprehension_free rfl hs hcl S.kind S.loc ?_;show aT (hi pins s σ H (λJ H1=>∃μ1,Ext μ H μ1 H1/\RelM fa X.K μ1 H1 M1/\c7 fa X.K μ1 H1 w J) I {μ,Z,M,hE,hM,?_}) λv s1 h1=>aT h1 λitv s2 h2=>?_
 .rw[ew];show λJ H1 μ1 x1 m1 wk=>⟨μ1,x1,m1,wk⟩
 obtain(it|fp|tn|J|E|ei|I2|T|st2|f2|μ2|x2|m2|wk):=h2;subst ei;show wpAny_newObj_type ?_;have ha:=I2.hok.fresh (RN _);have I3:Inv X pins σ (upd E s2.heap.objs.size (.lst [])) {s2 with heap:=s2.heap.push {cls:=.type "list",dict:=none,data:=.seq ([]:List RJ).toArray}}:=
  I2.laid (λb o e=>RI _ e) (RN _) {S5 _,[],_,.nil,RX _ rfl}
 generalize hs3:({s2 with heap:=s2.heap.push {cls:=.type "list",dict:=none,data:=.seq ([]:List RJ).toArray}}:RO)=s3 at I3 ⊢
 have k3:∀b o,s2.heap.get? b=some o->s3.heap.get? b=some o:=λb o e=>by rw[<- hs3];show RI _ e
 have fo2:=T.obj _ _ st2;have f3:∀b∈fp,eO X pins (upd E s2.heap.objs.size (.lst [])) b:=λb u=>by
  obtain(o|e|_):=fo2 b u;show{by rw[az (Se (R0 e))];show(f2 b u).1,(f2 b u).2}
 have fo3:∀b∈fp,∃o,s3.heap.get? b=some o:=λb u=>let{o,e,_}:=fo2 b u;{o,k3 b o e}
 obtain(CL|U):=GI S O L (s3.heap.push {cls:=.type "dict",data:=.dict #[]}) (TQ ..);generalize F:cellsFrom (s3.heap.objs.size+1) scope.names cl=cl' at CL U;show r6 ?_;rw[F];have j:(pushCells (s3.heap.push {cls:=.type "dict",data:=.dict #[]}) scope.names).Ns s3.heap.objs.size (λ_=>none):=(Heap.Ns.new s3.heap (.type "dict")).keeps (pushCells_keeps _ _);have k4:∀b o,s3.heap.get? b=some o->(pushCells (s3.heap.push {cls:=.type "dict",data:=.dict #[]}) scope.names).get? b=some o:=λb o e=>pushCells_keeps _ _ b o (RI _ e);generalize pushCells (s3.heap.push {cls:=.type "dict",data:=.dict #[]}) scope.names=h₁ at j k4 U ⊢;clear hcl F O L cl
 rename List (Str×Addr)=>cl
 have I4:=u9 (t':=s3.toks) I3 S CL f3 fo3 j k4 U;have Y:=I4.ok;have f4:∀b∈fp,eO (fP X own bn scope cl s3.heap.objs.size fp s3 (upd E s2.heap.objs.size (.lst []))) [] (upd E s2.heap.objs.size (.lst [])) b:=λb u=>
  {(f3 b u).1,(Y.exf b u).1,Y.exfs b u,.inl u,(Y.exf b u).2,λp hp=>nomatch hp}
 have st4:=T.keep _ _ _ st2 λb u o e=>k4 b o (k3 b o e);have x3:=mO m2 ha (.lst []);have go:=qZ LA.stab (X:=fP X own bn scope cl s3.heap.objs.size fp s3 (upd E s2.heap.objs.size (.lst []))) (acc:=[]) (hT it s2.heap.objs.size _) ⟨rfl,rfl⟩ rfl R T (B.pg _ _ _ _ _) (B.db _ _ _ _ _ _) hW I4 st4 f4
  (t9 own.length ((hE.ext x2).extW x3)) (Ay m2 ha []) (sf hn) {RY,_,cf,rfl} (rn wk x3) (by
   rw[ea];rintro σ' H' μ' z1 z2 z3 ⟨_,vs',z4,z5⟩;show H9 m2 ha z1 z3 z4 z5 (jI q2 x2))
 have go':codeAny (model X.prog X.w) X.A (.compLoop (.ListComp elt ({tg,iter,ifs,0}::rest) scope pos) 0 (.ref it) (.ref s2.heap.objs.size) (compEnvC scope cl s3.heap.objs.size X.env)) (compPost (model X.prog X.w) X.A X.xe use QQ (.ref s2.heap.objs.size) s3.heap.objs.size) {s3 with heap:=h₁}:=
  codeAny_mono go λr s' ⟨er,σ',H',I',z⟩=>by
   subst er;show post _ _ s' H' (comp_back I3 f3 I') z (let{m,hn,_}:=I'.loc;⟨m,hn⟩) (λσ2 E s2' I2' hf=>{hf I'.free,λP hs''=>sd I3 (hf I'.free) I2' hs''}) I'.free {SF I3.lt,λx c e z=>by
    obtain(v|q):=I3.cell x c e;show absurd q.lt (by rw[z];show S9 _)}
 show codeAny_compStart_list go' (T.self _ 0 _ _ _ st4 go')
def Nv (m:Bool){v E j:Expr}{rest:List Ua}
 (S:fh X own bn scope) (u:X.calm=true) (hi:DI fa X E j gw) (B:Block fa X (LA fa X.K) own bn scope E t W body g) (U:ql X v E j ifs rest scope pos body) (Y:∀i∈W,i∉slots t) (hn:∀i∈slots t++W,i<own.length)
 (hs:∀x,foldedSetIterable j X.env x=pure x):DE fa X (.ListComp v ({E,j,ifs,0}::rest) scope pos) (bp m own.length t gw g):=by
 rintro J s σ H Q I ⟨μ,Z,M,P,R,h⟩;rw[eval_ListComp];show qc S u hi B U Y hn hs I P R h ?_;rintro a C s' H' L q ⟨m,hn⟩ y hf _;show{m,hn,λO F=>{.ref a,H',(y σ H' s' L id).2 O F,rfl,q}}
def yN (m:Bool){y:Str}{rest:List Ua}
 (S:fh X own bn scope) (j:X.calm=true) (hi:DI fa X tg iter gw) (B:Block fa X (LA fa X.K) own bn scope tg t W body g) (hT:ql X elt tg iter ifs rest scope pos body) (hW:∀i∈W,i∉slots t) (hn:∀i∈slots t++W,i<own.length)
 (hs:∀x,foldedSetIterable iter X.env x=pure x) (hN:X.N.Nodup) (hy:X.N[i]?=some y) (hl:X.env.scope.names.lookup y=some .local)
 (J:swapsWith (.ListComp elt ({tg,iter,ifs,0}::rest) scope pos) (some (.Name y py)) spos.line X.env=pure true) :
 DS fa X (.Assign [.Name y py] (.ListComp elt ({tg,iter,ifs,0}::rest) scope pos) spos) (λZ M=>(bp m own.length t gw g Z M).bind λx M=>(cj M (b7 (.one i) x Z)).bind λρ1 M=>.ok (.next ρ1) M):=by
 rintro O s σ H D' I ⟨μ,Z,M,L,Y,h⟩;obtain(x|M1|ex|q):=aI h;rw[exec_Assign_Name_used _ _ _ _ J];show tqa (wpAny_standAt (tqa ?_));show tqa (aT (qc S j hi B hT hW hn hs I L Y (by
  rw[ex];show λv H' μ' P m1 r1=>q _ H' μ' P ((L.ext P).set r1) m1) ?_) λ_ s' hq=>tqb (tqb hq))
 rintro a C s' H' Q q ⟨m,hn⟩ u hf ⟨nL,nC⟩;show wpAny_assign_Name (rE Q hN hy (.inl hl) (v:=.ref a) rfl (λs2 R ⟨b,hb,E⟩=>?_) (.inr hl));have nb:C≠b:=by
  rcases E with z|z
  .rw[z];show nL
  .exact SK (nC y b z)
 show{m,hn.sameBut hb nb,λU F=>{_,H',(u _ H' s2 R id).2 U F,q}}
end
section
variable{X:Cx}{pins:List (Addr×Obj)}{σ:L2.St}{H:Hp}{s:RO}{h':Heap}{t':Nat}{ch:List Addr}
def vW (I:Inv X pins σ H s)(hf:∀b∈ch,eO X pins H b)(k:∀b o,b∉ch->s.heap.get? b=some o->h'.get? b=some o):Inv X pins σ H {s with heap:=h',toks:=t'}:=by
 have j:∀b u,H b=some u->b∉ch:=λb u e z=>by rw[(hf b z).1] at e;cases e
 show I.step (λb y=>{(hf b y).2.2.2.1,(hf b y).2.1,(hf b y).2.2.2.2.1,(hf b y).2.2.2.2.2}) (λb o _ _ h e _=>k b o h e) (λb o _ _ h e _=>{o.slots,k b o h e}) (λ_ _ _ _ n=>n)
  (λb o h e=>{o,k b o h e}) (λ_ _ e=>e) (λ_ _ _ e=>e) (λb ps e=>{#[],by rw[e];simp}) (λm hm=>?_) (λb u e=>?_) I.bare
 .obtain(o|E|B|ho|r):=hm;show{o,E,B,k _ o (λz=>(hf _ z).2.1 rfl) ho,r}
 .refine(I.hok b u e).stay (λc v h q=>k c v ?_ q) (λ_ q=>q) λ_ _ q=>q;rcases h with z|z
  .rw[z];show j b u e
  .exact j c _ z
def rA (I:Inv X pins σ H s)(hf:∀b∈ch,eO X pins H b)(k:∀b o,b∉ch->s.heap.get? b=some o->h'.get? b=some o)(B:s.heap.objs.size<=T)(new:dY X.prog X.w (upd H T o) h' T o) :
 Inv X pins σ (upd H T o) {s with heap:=h',toks:=t'}:=by
 have hn:=I.hok.fresh B;have y:∀b u,H b=some u->b∉ch:=λb u e z=>by rw[(hf b z).1] at e;cases e
 show I.step (λb h=>{(hf b h).2.2.2.1,(hf b h).2.1,(hf b h).2.2.2.2.1,(hf b h).2.2.2.2.2}) (λb o _ _ j e _=>k b o j e) (λb o _ _ j e _=>{o.slots,k b o j e})
  (λb o _ e n=>by rw[az (Se (R9 (R0 e) B))];show n)
  (λb o j e=>{o,k b o j e}) (λb xs e=>by rw[az (aX e hn)];show e) (λb ob u e=>by rw[az (aX e hn)];show e) (λb ps e=>{#[],by rw[az (aX e hn),e];simp}) (λm hm=>?_) (λb u e=>?_) I.bare
 .obtain(o|F|E|ho|r):=hm;show{o,F,E,k _ o (λz=>(hf _ z).2.1 rfl) ho,r}
 .by_cases h:b=T
  .subst h;rw[cf] at e;cases e;show new
  .rw[az h] at e;show(I.hok b u e).stay (λc v j q=>k c v ?_ q) (λc q=>by rw[az (aX q hn)];show q) λc xs q=>by rw[az (aX q hn)];show q
   rcases j with z|z
   .rw[z];show y b u e
   .exact y c _ z
end
section
variable{fa:Fa}{X:Cx}{a:Expr}{ga:Env->Mem->Res D}{pos p:Pos}
noncomputable def mR:∀(ds:List D) (k i:Nat),(eR k ds)[i]?=(ds[i]?).map λd=>.tup [.int ((k+i:Nat):Int),d]
 |[],_,_=>by simp[eR]
 |d::ds,k,0=>by simp[eR]
 | d::ds,k,i+1=>by
   have:=mR ds (k+1) i;dsimp[eR,SH,this]
   congr 1
   funext d
   congr 3
   omega
noncomputable def mQ:∀(ds:List D) (k:Nat),(eR k ds).length=ds.length
 |[],_=>rfl
 |d::ds,k=>by simp[eR,mQ ds]
end
def cm:Bool->Heap->Addr->Array RJ->Prop
 |true,h,a,j=>h.IsList a j
 |false,h,a,j=>h.IsTuple a j
def eI:Bool->Heap->Addr->Addr->Nat->Prop
 |true,h,j,a,i=>h.IsListIter j a i
 |false,h,j,a,i=>h.IsTupleIter j a i
def cm.extBut (x:cm b h a its)(hs:Heap.ExtBut c h h')(n:a≠c):cm b h' a its:=by
 cases b<;>(obtain(o|ho|r):=x;show{o,hs a o n ho,r})
def eI.extBut (x:eI b h it a i)(hs:Heap.ExtBut c h h')(n:it≠c):eI b h' it a i:=by
 cases b<;>(obtain(o|ho|r):=x;show{o,hs it o n ho,r})
def cm.at (x:cm b h a its)(k:∀o,h.get? a=some o->h'.get? a=some o):cm b h' a its:=by
 cases b<;>(obtain(o|ho|r):=x;show{o,k o ho,r})
def eI.at (x:eI b h it a i)(k:∀o,h.get? it=some o->h'.get? it=some o):eI b h' it a i:=by
 cases b<;>(obtain(o|ho|r):=x;show{o,k o ho,r})
def eI.obj (x:eI b h it a i):∃o,h.get? it=some o/\∀v,o.data≠.cell v:=by
 cases b<;>(obtain(o|ho|c|d):=x;show{o,ho,λv z=>by rw[d] at z;cases z})
section
variable{prog:Sx}{w:Sr}{A:Ti}{E:RJ->RO->Prop}{s:RO}
def vE {a b:Nat}(h:a≠b):@Ne Addr a b:=h
def J8 {T:Addr}{j:Array RJ}{k:Nat}{x:RJ}{Q:Unit->RO->Prop}(v:s.heap.get? T=some {cls:=.type "tuple",data:=.seq j})(hz:j.size<=64)
 (h:∀u,u.get? T=some {cls:=.type "tuple",data:=.seq (j.setIfInBounds k x)}->TB T s.heap u->Q () {s with heap:=u}) :
 wpAny (model prog w) A (updateSeq T (·.setIfInBounds k x)) Q E s:=by
 show wpAny_updateSeq v rfl (h _ ?_ (Td ..)) (RU hz `d) (by rw[Array.size_setIfInBounds];show RU hz `d)
 rw[SD _ v rfl];simp[Obj.mapSeq]
def iT {b:Bool}{y a:Addr}{i:Nat}{j:Array RJ}{Q:RJ->RO->Prop}(hh:A.handled=none)(h:eI b s.heap y a i)(hl:cm b s.heap a j)
 (J:∀x u,j[i]?=some x->eI b u y a (i+1)->TB y s.heap u->Q x {s with heap:=u})
 (I:j[i]?=none->∀u e,Heap.ExtBut y s.heap u->(∃o,u.get? e=some o/\o.cls=.type "StopIteration")->E (.ref e) {s with heap:=u}):wpAny (model prog w) A (Builtin.SmallTypes.nextOf (.ref y)) Q E s:=by
 cases b with
 | true=>cases v : j[i]? with
   |some x=>show wpAny_nextOf_list_item h hl v λu=>J x u v
   |none=>show wpAny_nextOf_list_end hh h hl v (I v)
 | false=>
   obtain(o|ho|L|hd):=id h;obtain(M|H|_|nl|B):=hl;show tqa (wpAny_callSpecial?_slot h.typeIs F.slot_tuple_iterator_next
    (wpAny_call_entry F.slot_tuple_iterator_next h.typeIs F.entry_tuple_iterator_next ?_ (F.args_tuple_iterator_next_1 _)))
   change wpAny _ _ (field (.ref y) 0 >>= _) _ _ s;show tqa (tqf ho hd rfl ?_);change wpAny _ _ (if (Value.ref a==Value.none)=true then _ else _) _ _ s;rw[if_neg (show ¬ ((Value.ref a==Value.none)=true) from R6)];show tqa (tqf ho hd rfl ?_);show tqa (wpAny_seqItems H B ?_);cases v:j[i]? with
   | some x=>
     dsimp[Tt,v];show tqa (wpAny_setField ho hd `s (tqb {x,rfl,tqb (J x _ v ?_ (Td ..))}))
     show{_,SD _ ho (Uq (Tp hd _)),(Obj.cls_mapFields ..).trans L,by
      rw[Tp hd];simp[rawInt]}
   | none=>
     dsimp[Tt,v];show tqa (wpAny_rule (tqa (wpAny_setField ho hd `s ?_)))
     show tqa ?_;show tqa (wpAny_newObj_type ?_ (by size_fits))
     show tqa (wpAny_of_eq (by first|rfl|(dsimp[firstArgMember];rfl)) ?_)
     show wpAny_newObj_type ?_ (by size_fits)
     show tqa (wpAny_handled ?_);first|rw[show A.in1.handled=none from hh]|rw[hh]
     show tqa (tqb (wpAny_throw ?_));show I v _ _ (((Td ..).extBut.push _).push _) {_,RX _ rfl,rfl}
noncomputable abbrev jj (us:Array RJ):Obj:={cls:=.type "tuple",data:=.seq us}
noncomputable def qv (n k j:Nat):List RJ:=(List.range' k j).map λk=>Value.ref (n+k)
def y3 (n m:Nat)(h j:Heap):Prop:=∀(c:Nat) o,(c<n\/c=n+m\/n+m+2<c)->h.get? c=some o->j.get? c=some o
def zg (n i k:Nat)(l:List (Bool×Nat))(h:Heap):Prop:=∀(j:Nat) b a,l[j]?=some (b,a)->eI b h (n+j) a (if j<k then i+1 else i)
def NL (n:Nat)(l:List (Bool×Nat))(xs:Nat->Array RJ)(h:Heap):Prop:=∀(j:Nat) b a,l[j]?=some (b,a)->a<n/\cm b h a (xs j)
abbrev qk (h:Heap)(n m:Nat)(v:RJ):Prop:=IsZip h (n+m+2) (n+m) (n+m+1) v
def Rq (n m i k:Nat)(l:List (Bool×Nat))(xs:Nat->Array RJ)(v h:Heap):Prop:=qk h n m .ellipsis/\(∃u:Array RJ,u.size=m/\(∀j<k,u[j]?=(xs j)[i]?)/\h.get? (n+m+1)=some (jj u))/\zg n i k l h/\NL n l xs h/\y3 n m v h/\h.objs.size=v.objs.size
theorem FY {M:Model}{u:Type}{f:RJ×Nat->u->Sem (ForInStep u)}{b:u}{Q:u->RO->Prop}(n m:Nat)(I:Nat->RO->Prop)
 (hs:∀k s,k<m->I k s->wpAny M A (f (.ref (n+k),k) b) (λr v=>r=.yield b/\I (k+1) v) E s) (y:∀s,I m s->Q b s):∀(j k:Nat) (s:RO),k+j=m->I k s->wpAny M A (forIn ((qv n k j).zipIdx k) b f) Q E s
 |0,k,s,e,h=>tqb (y s (e ▸ h))
 | j+1,k,s,e,h=>by
   change wpAny M A (forIn ((Value.ref (n+k),k)::(qv n (k+1) j).zipIdx (k+1)) b f) Q E s;rw[List.forIn_cons];show tqa (aT (hs k s `a h) ?_)
   rintro _ v ⟨rfl,B⟩;show FY n m I hs y j (k+1) v `a B
def tm {n m i:Nat}{l:List (Bool×Nat)}{xs:Nat->Array RJ}{us:Array RJ}{Q:RJ->RO->Prop}(hh:A.handled=none)(hl:l.length=m+1)(h64:m<64)
 (hz:qk s.heap n (m+1) .none) (hTI:s.heap.get? (n+(m+1))=some (jj (qv n 0 (m+1)).toArray)) (hTO:s.heap.get? (n+(m+1)+1)=some (jj us)) (U:us.size=m+1) (hi:zg n i 0 l s.heap) (H:NL n l xs s.heap)
 (hQ:∀F us,us.size=m+1->(∀k<m+1,us[k]?=(xs k)[i]?)->qk F n (m+1) (rawInt s.heap.objs.size)->F.get? (n+(m+1)+1)=some (jj us)->zg n (i+1) 0 l F->F.get? s.heap.objs.size=some (jj us)->y3 n (m+1) s.heap F->Q (.ref s.heap.objs.size) {s with heap:=F})
 (hE:∀F e k,k<m+1->(xs k)[i]?=none->y3 n (m+1) s.heap F->(∃o,F.get? e=some o/\o.cls=.type "StopIteration")->E (.ref e) {s with heap:=F}) :
 wpAny (model prog w) A (Builtin.«zip.__next__» {[.ref (n+(m+1)+2)],[]}) (λfin s'=>∃v,fin=.done (.ret v)/\Q v s') E s:=by
 change wpAny _ _ (field (.ref (n+(m+1)+2)) 2 >>= _) _ _ _;show tqa (tqf hz rfl rfl ?_);show tqa (tqf hz rfl rfl ?_);show tqa (wpAny_seqItems hTI rfl ?_);show tqa ?_;show tqa (tqf hz rfl rfl (tqb ?_));show tqa (wpAny_rule ?_);show tqa (tqf hz rfl rfl ?_);show tqa (wpAny_setField_rec hz `s λh0 hz0 S=>?_)
 have u0:∀(c:Nat) o,c≠n+(m+1)+2->s.heap.get? c=some o->h0.get? c=some o:=λc o ne=>S.extBut c o ne;have mm:∀{j b a},l[j]?=some (b,a)->j<m+1:=λe=>hl ▸ (RH.mp e).1;show tqa (FY n (m+1) (λk s'=>∃h,s'={s with heap:=h}/\Rq n (m+1) i k l xs s.heap h) ?_ ?_ (m+1) 0 _ (Nat.zero_add _) {h0,rfl,hz0,{us,U,λ_ z=>absurd z (Ue _),u0 _ _ `a hTO},λj b a e=>(hi j b a e).at λo=>u0 _ o (by have:=mm e;omega),λj b a e=>{(H j b a e).1,(H j b a e).2.at λo=>u0 _ o (by have:=(H j b a e).1;omega)},λc o L=>u0 c o `a,S.1})
 .rintro k _ hk ⟨h,rfl,hz,⟨us,U,hx,hT⟩,hi,H,kp,sz⟩;obtain⟨⟨b,a⟩,e⟩:∃p,l[k]?=some p:={_,RZ `a}
  have it:=hi k b a e;rw[if_neg (S9 k)] at it;show tqa (wpAny_onRaise ?_);show tqa (iT hh it (H k b a e).2 (λx h1 ex j1 u=>tqb ?_) λen h1 e1 u ⟨oe,J,R⟩=>?_)
  .have O:=u.extBut _ _ (vE `a) hT
   show tqa (wpAny_seqItems O rfl ?_);show tqa (J8 O `a λh2 hT2 B=>?_)
   have I:∀(c:Nat) o,c≠n+k->c≠n+(m+1)+1->h.get? c=some o->h2.get? c=some o:=λc o x y z=>B.extBut c o y (u.extBut c o x z);show tqa (wpAny_letGo (tqb {rfl,h2,rfl,I _ _ `a `a hz,{_,(Array.size_setIfInBounds ..).trans U,λj hj=>?_,hT2},λj b' a' M=>?_,λj b a e=>{(H j b a e).1,(H j b a e).2.at λo=>I _ o (by have:=(H j b a e).1;omega) (by have:=(H j b a e).1;omega)},λc o L x=>I c o `a `a (kp c o L x),by rw[B.1,u.1,sz]}))
   .by_cases jk:j=k
    .subst jk;rw[Array.getElem?_setIfInBounds_self_of_lt `a,ex]
    .rw[Array.getElem?_setIfInBounds_ne (SK jk),hx j `a]
   .by_cases jk:j=k
    .subst jk;cases e.symm.trans M;rw[if_pos (Nat.lt_succ_self _)];show j1.at λo=>B.extBut _ o (vE `a)
    .have q:=hi j b' a' M;have:=mm M;rw[show(if j<k+1 then i+1 else i)=if j<k then i+1 else i by split<;>split<;>omega]
     show q.at λo=>I _ o `a `a
  .have W:=u _ _ (vE `a) hz
   have hez:e1≠n+(m+1)+2:=λx=>by subst x;rw[W] at J;cases J;simp at R
   show wpAny_setField_rec W `s λh2 _ B=>hE h2 e1 k hk en (λc o L x=>B.extBut _ _ (vE `a) (u _ _ (vE `a) (kp c o L x))) {oe,B.extBut _ _ hez J,R}
 .rintro _ ⟨h4,rfl,X,⟨us,U,hx,hT⟩,hi,H,kp,sz4⟩;show tqa (wpAny_seqItems hT rfl ?_);show tqa (wpAny_newTuple (hsz:=RU (show us.toList.length<=64 by rw[T7];omega) `d) ?_)
  have hzlt:=R0 X;show tqa ?_;have hz6:qk (h4.push (jj us)) n (m+1) .ellipsis:=RI _ X;show tqa (wpAny_setField_rec hz6 `s λh7 hz7 hs7=>?_)
  show wpAny_setField_rec hz7 `s λh8 Y hs8=>?_
  have I:∀(c:Nat) o,c≠n+(m+1)+2->(h4.push (jj us)).get? c=some o->h8.get? c=some o:=λc o c1 e=>hs8.extBut _ _ c1 (hs7.extBut _ _ c1 e);show tqb {_,rfl,?_};have P:=I h4.objs.size _ (SF hzlt) (RX _ rfl);rw[sz4] at P Y ⊢;show hQ h8 us U hx Y (I _ _ `a (RI _ hT)) (λj b a e=>?_) P λc o L e=>I c o `a (RI _ (kp c o L e))
  have q:=hi j b a e;rw[if_pos (mm e)] at q;show q.at λo M=>I _ o (by have:=mm e;omega) (RI _ M)
end
def iG (K:RG)(H:Hp):Bool->Addr->List V->Prop
 |true,a,xs=>cQ K H a xs
 |false,a,xs=>du K H a xs
noncomputable def ip:D->Bool
 |.tup _=>false
 |_=>true
noncomputable def ik:D->Bool
 |.tup _=>true
 |.lst _=>true
 |.frz _=>true
 |.cell _=>true
 |_=>false
def m9 {X:Cx}{u:List (Addr×Obj)}{v:L2.St}{H:Hp}{s:RO}{b:Bool}{a:Addr}{xs:List V}(I:Inv X u v H s)(h:iG X.K H b a xs):∃j:List RJ,Vals xs j/\cm b s.heap a j.toArray:=by
 cases b with
 |true=>obtain(j|r|p|_):=I.list h;show⟨j,r,p.isList⟩
 |false=>obtain(j|r|p|_):=I.tuple h;show⟨j,r,p⟩
def lC {X:Cx}{j:List (Addr×Obj)}{v:L2.St}{H:Hp}{s:RO}{b:Bool}{a:Addr}{xs ys:List V}(I:Inv X j v H s)(h:iG X.K H b a xs)(u:iG X.K H b a ys):xs=ys:=by
 cases b with
 |true=>show I.list_inj h u
 |false=>show I.tuple_inj h u
def lB {fa:Fa}{X:Cx}{μ:Mu}{H:Hp}{M:Mem}{d:D}{a:Addr}{ds:List D}(v:RelM fa X.K μ H M)(h:Rep fa X.K μ H d (.ref a))(e:cH M d=some ds):∃vs,iG X.K H (ip d) a vs/\aH fa X.K μ H ds vs:=by
 cases d with
 |tup xs=>cases e;obtain(u|vs|e|s|r):=h;cases e;show⟨vs,s,r⟩
 |lst xs=>obtain(u|vs|j|s|r):=bR v h (e);cases j;show⟨vs,s,r⟩
 |frz xs=>obtain(u|vs|j|s|r):=bR v h (e);cases j;show⟨vs,s,r⟩
 |cell k=>obtain(u|vs|j|s|r):=bR v h (e);cases j;show⟨vs,s,r⟩
 |_=>cases e
def oz {fa:Fa}{X:Cx}{y:List (Addr×Obj)}{L:L2.St}{μ:Mu}{H:Hp}{s:RO}{M:Mem}{d:D}{v:V}(I:Inv X y L H s)(F:RelM fa X.K μ H M)(h:Rep fa X.K μ H d v)(e:ik d=true):∃(a:Nat) (j:Array RJ),v=.ref a/\cm (ip d) s.heap a j:=by
 have u:∀B,cH M d=some B->∃(a:Nat) (j:Array RJ),v=.ref a/\cm (ip d) s.heap a j:=λB z=>by
  obtain(a|J|rfl|_|_):=jq F h z;obtain(J|s1|_):=lB F h z;obtain(j|_|p):=m9 I s1;show⟨a,j.toArray,rfl,p⟩
 cases d with
 |tup xs=>show u xs rfl
 |lst xs=>show u xs rfl
 |frz xs=>show u xs rfl
 | cell k=>
   obtain(a|e|hk):=id h;obtain(B|_|z|_):=F.mu_lt hk;show u B z
 |_=>cases e
def cm.lt {b:Bool}{h:Heap}{a:Addr}{j:Array RJ}(x:cm b h a j):a<h.objs.size:=by
 cases b<;>(obtain(o|ho|r):=x;show R0 ho)
def cm.push {b:Bool}{h:Heap}{a:Addr}{j:Array RJ}(x:cm b h a j)(ob:Obj):cm b (h.push ob) a j:=by
 cases b<;>(obtain(o|ho|r):=x;show{o,RI _ ho,r})
noncomputable def fu (b:Bool)(a:Addr):Obj:={cls:=.type (if b then "list_iterator" else "tuple_iterator"),data:=.fields #[.ref a,.int 0 0]}
def eI.new {b:Bool}{h:Heap}{j a:Addr}(e:h.get? j=some (fu b a)):eI b h j a 0:=by
 cases b<;>show{_,e,rfl,rfl}
def pD {prog:Sx}{w:Sr}{A:Ti}{E:RJ->RO->Prop}{s:RO}{b:Bool}{a:Addr}{j:Array RJ}{Q:RJ->RO->Prop}(h:cm b s.heap a j)(u:Q (.ref s.heap.objs.size) {s with heap:=s.heap.push (fu b a)}):wpAny (model prog w) A (pyIter (.ref a)) Q E s:=by
 cases b with
 |true=>show wpAny_pyIter_list h u
 |false=>show wpAny_pyIter_tuple h u
abbrev jD:=List (Bool×Nat)
def NQ (K:RG)(l:jD):It:=
 {λi H=>∀ (j : Nat) b a,l[j]? = some (b,a) -> ∃ xs x,iG K H b a xs /\ xs[i]? = some x,
  λi H v u=>∃p h,H p=none/\v=.ref p/\u=upd H p (.tup h)/\h.length=l.length/\∀(j:Nat) b a,l[j]?=some (b,a)->∀xs,iG K H b a xs->h[j]?=xs[i]?,
  λi H=>(∀(j:Nat) b a,l[j]?=some (b,a)->∃xs,iG K H b a xs)/\∃(j:Nat) (b:Bool) (a:Nat) (xs:List V),l[j]?=some (b,a)/\iG K H b a xs/\xs.length<=i}
def yZ (n m:Nat)(l:jD)(i:Nat)(h:Heap):Prop:=qk h n (m+1) .none/\h.get? (n+(m+1))=some (jj (qv n 0 (m+1)).toArray)/\(∃j:Array RJ,j.size=m+1/\h.get? (n+(m+1)+1)=some (jj j))/\zg n i 0 l h
noncomputable def JR (n m:Nat):List Addr:=List.range' n (m+4)
def dM {n m b:Nat}:b∈JR n m↔n<=b/\b<n+(m+4):=List.mem_range'_1
def FE {X:Cx}{u:List (Addr×Obj)}{B:L2.St}{H:Hp}{s:RO}{l:jD}(I:Inv X u B H s)(h:∀(j:Nat) b a,l[j]?=some (b,a)->∃xs,iG X.K H b a xs) :
 ∃(vs:Nat->List V) (ws:Nat->List RJ),∀(j:Nat) b a,l[j]?=some (b,a)->iG X.K H b a (vs j)/\Vals (vs j) (ws j)/\cm b s.heap a (ws j).toArray:=by
 obtain(f|hf):=Classical.skolem.mp λj:Nat=>show ∃p:List V×List RJ,∀b a,l[j]?=some (b,a)->iG X.K H b a p.1/\Vals p.1 p.2/\cm b s.heap a p.2.toArray from by
  cases e:l[j]? with
  |none=>show{([],[]),λ_ _ z=>by cases z}
  | some p=>
    obtain(xs|y):=h j p.1 p.2 e;obtain(v|r|q):=m9 I y;show{(xs,v),λJ F z=>by cases z;show⟨y,r,q⟩}
 show{λj=>(f j).1,λj=>(f j).2,hf}
theorem Fg:∀{us:List RJ}{R:Nat->V->Prop},(∀(k:Nat) w,us[k]?=some w->∃y,RelV y w/\R k y)->∃ys,Vals ys us/\∀(k:Nat) y,ys[k]?=some y->R k y
 |[],R,_=>{[],.nil,λ_ _ z=>by simp at z}
 | w::r,R,h=>by
   obtain(y|e|q):=h 0 w rfl;obtain(ys|v|t):=Fg λk w e=>h (k+1) w e;show{y::ys,.cons e v,λk z e=>match k,e with
    |0,e=>by cases e;show q
    |k+1,e=>t k z e}
def CD {P:Sx}{w:Sr}{K:RG}{M:List Expr}{kk:Nat}{pos:Pos}(n m:Nat)(l:jD)(hl:l.length=m+1)(O:m<64)(hn:∀(j:Nat) b a,l[j]?=some (b,a)->a<n) :
 Turn P w K (.Tuple M kk pos) (NQ K l) (JR n m) (n+(m+1)+2) (λi h=>yZ n m l i h) where
 mem:=dM.mpr `a
 obj:=λi h ⟨h1,h2,⟨us,_,h3⟩,B⟩ (b:Nat) u=>by
  replace u:=dM.mp u;by_cases c:b<n+(m+1)
  .obtain⟨j,rfl⟩:∃j,b=n+j:={b-n,`a}
   show(B j _ _ (RZ `a)).obj
  .rcases(show b=n+(m+1)\/b=n+(m+1)+1\/b=n+(m+1)+2 by omega) with rfl|rfl|rfl
   .exact{_,h2,λv z=>by cases z}
   .exact{_,h3,λv z=>by cases z}
   .exact{_,h1,λv z=>by cases z}
 keep:=λi h h' ⟨h1,h2,⟨us,y,h3⟩,B⟩ k=>{k _ (dM.mpr `a) _ h1,k _ (dM.mpr `a) _ h2,{us,y,k _ (dM.mpr `a) _ h3},λj b a e=>(B j b a e).at (k _ (dM.mpr (by have:=(RH.mp e).1;omega)))}
 item:=by
  rintro X hP S hK hc i U s σ H E I hf ⟨h1,h2,⟨us,y,h3⟩,B⟩ hg;subst hP S hK;obtain(vs|ws|L):=FE I λj b a e=>(hg j b a e).imp (by rintro _ ⟨_,h,_⟩;show h)
  have it:∀k,k<m+1->∃x w b a,l[k]?=some (b,a)/\(vs k)[i]?=some x/\(ws k)[i]?=some w/\RelV x w:=λk hk=>by
   have e:l[k]?=some (l[k]'(`a)):=RZ _
   obtain(xs|x|J|ex):=hg k _ _ e;obtain(q1|q2|_):=L k _ _ e;rw[lC I J q1] at ex;obtain(w|S|r):=q2.get ex;show{x,w,_,_,e,ex,S,r}
  have R:s.TypeIs (.ref (n+(m+1)+2)) "zip":={_,h1,rfl};unfold pyNext;show tqa (wpAny_attempt (wpAny_callSpecial?_slot R F.slot_zip_next
   (wpAny_call_entry F.slot_zip_next R F.entry_zip_next
    (tm (I.ok.hd hc) hl O h1 h2 h3 y B (λj b a e=>{hn j b a e,(L j b a e).2.2}) (λh4 us y J z1 z2 g hTT hk=>tqb {_,rfl,?_}) λh' e k hk en _ _=>?_) (F.args_zip_next_1 _))))
  .have zlt:n+(m+1)+2<s.heap.objs.size:=R0 h1;show wpAny_letOwnedTupleGo_zip z1 λh5 hz5 hs5=>?_;have Y:∀(c:Nat) o,c≠n+(m+1)+2->h4.get? c=some o->h5.get? c=some o:=λc o=>hs5.extBut c o;obtain(ys|vy|ty):=Fg (us:=us.toList) λk w e=>by
    have hk:k<m+1:=by have:=(RH.mp e).1;rw[T7] at this;omega
    obtain(x|w'|_|_|_|ex|ew|r):=it k hk;have q:=J k hk;rw[Array.getElem?_toList] at e;dsimp[List.getElem?_toArray] at q;rw[e,ew] at q;cases q;show⟨x,r,ex⟩
   have ly:ys.length=m+1:=by rw[vy.length,T7,y]
   show{.ref s.heap.objs.size,upd H s.heap.objs.size (.tup ys),rA (s:=s) I hf (λ(b:Nat) o u q=>Y b o (λz=>u (dM.mpr `a)) (hk b o (by rw[dM] at u;omega) q)) (RN _) {by rw[ly];show RU (show m+1<=64 by omega) `d,us.toList,vy,{_,Y _ _ (SF zlt) hTT,rfl,_,rfl}},rfl,
    {_,ys,I.hok.fresh (RN _),rfl,rfl,ly.trans hl.symm,λj b a e xs J=>?_},{hz5,Y _ _ `a (hk _ _ `a h2),{us,y,Y _ _ `a z2},λj b a e=>(g j b a e).at λo=>Y _ o (by have:=(RH.mp e).1;omega)},λ(b:Nat) u=>?_}
   .have hj:j<ys.length:=by have:=(RH.mp e).1;omega
    have e1:=RZ hj;rw[lC I J (L j b a e).1,ty j _ e1,e1]
   .rw[dM] at u;rw[az (Se (by omega:(b:Nat)<s.heap.objs.size))];show(hf b (dM.mpr u)).1
  .obtain(_|_|_|_|_|_|ew|_):=it k hk;dsimp[List.getElem?_toArray] at en;rw[ew] at en;cases en
 done:=by
  rintro X hP S hK hc i U s σ H E I hf ⟨h1,h2,⟨us,y,h3⟩,B⟩ ⟨hs,k,b,a,xs,ek,hq,le⟩;subst hP S hK;obtain(vs|ws|L):=FE I hs;have R:s.TypeIs (.ref (n+(m+1)+2)) "zip":={_,h1,rfl};unfold pyNext;show tqa (wpAny_attempt (wpAny_callSpecial?_slot R F.slot_zip_next
   (wpAny_call_entry F.slot_zip_next R F.entry_zip_next
    (tm (I.ok.hd hc) hl O h1 h2 h3 y B (λj b a e=>{hn j b a e,(L j b a e).2.2}) (λh4 us y J _ _ _ _ _=>?_) λh' e k _ _ hk he=>?_) (F.args_zip_next_1 _))))
  .exfalso;have hk:=(RH.mp ek).1;have q:=J k `a
   obtain(q1|q2|_):=L k b a ek;rw[Tx `a] at q
   dsimp[List.getElem?_toArray] at q;rw[TC (by rw[<- q2.length,lC I q1 hq];show le)] at q
   cases q
  .obtain(o|ho|hcl):=he;show tqa (wpAny_isInstance ⟨o,ho,hcl⟩ isSubtype_stop ?_);show tqb {rfl,vW I hf λ(b:Nat) o u q=>hk b o (by rw[dM] at u;omega) q}
 self:=λ_ _ _ _ _ st h=>wpAny_pyIter_zip st.1 h
noncomputable def ie (h:Heap):jD->Heap
 |[]=>h
 |p::r=>ie (h.push (fu p.1 p.2)) r
noncomputable def sO (h:Heap):jD->List RJ
 |[]=>[]
 |p::r=>.ref h.objs.size::sO (h.push (fu p.1 p.2)) r
noncomputable def pF:∀{h:Heap}{l:jD},(ie h l).objs.size=h.objs.size+l.length
 |_,[]=>rfl
 |h,p::r=>by change(ie _ r).objs.size=_;rw[pF,TQ,To];omega
noncomputable def mx:∀{l:jD}{h:Heap}{c:Nat}{o:Obj},h.get? c=some o->(ie h l).get? c=some o
 |[],_,_,_,e=>e
 |_::r,_,_,_,e=>mx (l:=r) (RI _ e)
noncomputable def rM:∀{l:jD}{h:Heap}{j:Nat}{p:Bool×Nat},l[j]?=some p->(ie h l).get? (h.objs.size+j)=some (fu p.1 p.2)
 |_::r,h,0,_,e=>by cases e;show mx (l:=r) (RX _ rfl)
 | q::r,h,j+1,_,e=>by
   have:=rM (h:=h.push (fu q.1 q.2)) (j:=j) e;rw[TQ,Uh,Nat.add_comm 1] at this;show this
noncomputable def uc:∀{l:jD}{h:Heap}{n k:Nat},h.objs.size=n+k->sO h l=qv n k l.length
 |[],_,_,_,_=>rfl
 | p::r,h,n,k,e=>by
   have:=uc (l:=r) (h:=h.push (fu p.1 p.2)) (k:=k+1) (by rw[TQ,e];rfl)
   change Value.ref h.objs.size::sO _ r=Value.ref (n+k)::qv n (k+1) r.length;rw[this,e]
abbrev E3 (h:Heap)(l:jD):Heap:=(ie h l).push (jj (sO h l).toArray)
abbrev zo (h:Heap)(l:jD):Heap:=(E3 h l).push (jj (l.map λ_=>Value.none).toArray)
abbrev tv (h:Heap)(l:jD):Heap:=(zo h l).push {cls:=.type "zip",data:=.fields #[.none,.bool false,.bool false,.ref (ie h l).objs.size,.ref (E3 h l).objs.size]}
def G2 (h:Heap){l:jD}{m:Nat}(hl:l.length=m+1):(zo h l).objs.size=h.objs.size+(m+1)+2/\yZ h.objs.size m l 0 (tv h l)/\∀c o,h.get? c=some o->(tv h l).get? c=some o:=by
 have u:(ie h l).objs.size=h.objs.size+(m+1):=by rw[pF,hl]
 have s1:(E3 h l).objs.size=h.objs.size+(m+1)+1:=by rw[TQ,u]
 have s2:(zo h l).objs.size=h.objs.size+(m+1)+2:=by rw[TQ,s1]
 have F:∀{c:Nat}{o},(ie h l).get? c=some o->(tv h l).get? c=some o:=λe=>RI _ (RI _ (RI _ e));have v:(tv h l).get? (ie h l).objs.size=some _:=RI _ (RI _ (RX _ rfl));have y:(tv h l).get? (E3 h l).objs.size=some _:=RI _ (RX _ rfl);have B:(tv h l).get? (zo h l).objs.size=some _:=RX _ rfl;rw[u,uc (Nat.add_zero _).symm,hl] at v;rw[s1] at y;rw[s2,s1,u] at B;show{s2,{B,v,{_,by simp[hl],y},λj b a e=>eI.new (F (rM e))},λc o e=>F (mx e)}
def yp (b0:Bool)(a0:Nat)(b1:Bool)(a1:Nat)(xs0 xs1:Array RJ) :
 Meets (Builtin.«zip.__new__» {[.type "zip",.ref a0,.ref a1],[]}) (λ_ R s=>cm b0 s.heap a0 xs0/\cm b1 s.heap a1 xs1/\
  R (.ok (.ret (.ref (zo s.heap [(b0,a0),(b1,a1)]).objs.size))) {s with heap:=tv s.heap [(b0,a0),(b1,a1)]}):=
 .of_wp λprog w A R s h=>by
  obtain(y|g|d|tk|os):=s;obtain(B|F|h):=h;have j:=sub_zip;have u:=B;have v:cm b1 (Shared.heap {y.push (fu b0 a0),g,d,tk,os}) a1 xs1:=(F).push _;wp_walk using pD u,pD v
  show{_,rfl,h}
section
variable{prog:Sx}{w:Sr}{A:Ti}{E:RJ->RO->Prop}{s:RO}{a0 a1 a2:Nat}{b0 b1 b2:Bool}{xs0 xs1 xs2:Array RJ}{Q:RJ->RO->Prop}
def BK (u:cm b0 s.heap a0 xs0)(v:cm b1 s.heap a1 xs1)(h:∀j,yZ s.heap.objs.size 1 [(b0,a0),(b1,a1)] 0 j->(∀c o,s.heap.get? c=some o->j.get? c=some o)->Q (.ref (s.heap.objs.size+2+2)) {s with heap:=j}) :
 wpAny (model prog w) A (call (.type "zip") [.ref a0,.ref a1]) Q E s:=by
 obtain(z|y|x):=G2 s.heap (l:=[(b0,a0),(b1,a1)]) rfl;show callType_new F.called_zip `d (F.typeCall_zip_2 _ _) (F.newCall_zip_2 _ _) (λobj=>F.args_object_init_3 obj _ _) F.entry_zip_new (yp b0 a0 b1 a1 xs0 xs1) {u,v,?_}
 change _/\_;rw[z];show{{_,y.1,rfl},h _ y x}
end
def E2 (d0 d1:D):Walk:=λM=>(cH M d0).bind λh=>(cH M d1).map λj=>fC h j
def yG (j u:Env->Mem->Res D):Env->Mem->Res Walk:=λh M=>(j h M).bind λd0 M=>(u h M).bind λd1 M=>if ik d0&&ik d1 then .ok (E2 d0 d1) M else .bad
noncomputable def tu:∀(j u:List D) (i:Nat) (d:D),(fC j u)[i]?=some d↔∃h e1,j[i]?=some h/\u[i]?=some e1/\d=.tup [h,e1]
 |v::t0,y::t1,0,d=>by simp[fC,eq_comm]
 | v::t0,y::t1,i+1,d=>by
   have:=tu t0 t1 i d;simpa[fC] using this
 |[],_,i,d=>by simp[fC]
 |_::_,[],i,d=>by simp[fC]
noncomputable def tq:∀(j u:List D) (i:Nat),(fC j u).length<=i->j.length<=i\/u.length<=i
 |v::t0,y::t1,0,h=>by simp[fC] at h
 | v::t0,y::t1,i+1,h=>by
   have:=tq t0 t1 i (by simpa[fC] using h)
   simpa using this
 |[],_,i,h=>`s
 |_::_,[],i,h=>`s
noncomputable def FI {fa:Fa}{K:RG}{μ:Mu}{H:Hp}:∀{es:List D}{ws:List V},es.length=ws.length->(∀(j:Nat) e w,es[j]?=some e->ws[j]?=some w->Rep fa K μ H e w)->aH fa K μ H es ws
 |[],[],_,_=>rfl
 |e::es,w::ws,hl,h=>{w,ws,rfl,h 0 e w rfl rfl,FI (~~~hl) λj e w=>h (j+1) e w}
def Cd {fa:Fa}{X:Cx}{μ0:Mu}{H0:Hp}{l:jD}{w:Walk} (W:∀μ H M ds,ExtW μ0 H0 μ H->RelM fa X.K μ H M->w M=some ds->∃ys:List (List D),ys.length=l.length/\(∀(j:Nat) y b a,ys[j]?=some y->l[j]?=some (b,a)->∃vs,iG X.K H b a vs/\aH fa X.K μ H y vs)/\
 (∀(i:Nat) d,ds[i]?=some d->∃es,d=.tup es/\es.map some=ys.map (·[i]?))/\∀i,ds.length<=i->∃y∈ys,y.length<=i):c7 fa X.K μ0 H0 w (NQ X.K l):=λμ H M ds x J e=>by
 obtain(ys|hl|B|hd|he):=W μ H M ds x J e;have at_:∀(j:Nat) b a,l[j]?=some (b,a)->∃y vs,ys[j]?=some y/\iG X.K H b a vs/\aH fa X.K μ H y vs:=λj b a e=>by
  have hj:=(RH.mp e).1;have u:=RZ (l:=ys) (i:=j) `a
  obtain(vs|q|r):=B j _ b a u e;show{_,vs,u,q,r}
 show{λi d L=>?_,λi L=>{λj b a e=>?_,?_}}
 .obtain(es|rfl|ee):=hd i d L;have I:∀{j:Nat}{y:List D},ys[j]?=some y->es[j]?.map some=some y[i]?:=λ{j y} u=>by
   have:=congrArg (·[j]?) ee;simpa[u] using this
  have le:es.length=l.length:=by have:=congrArg List.length ee;simpa[hl] using this
  have R:∀(j:Nat) b a,l[j]?=some (b,a)->∃vs e v,es[j]?=some e/\iG X.K H b a vs/\vs[i]?=some v/\Rep fa X.K μ H e v:=λj b a e=>by
   obtain(y|vs|u|q|r):=at_ j b a e;have z:=I u;cases h:es[j]? with
   |none=>rw[h] at z;cases z
   | some e=>
     rw[h] at z;obtain(v|B|P):=r.get (RQ z).symm;show⟨vs,e,v,rfl,q,B,P⟩
  show{λj b a e=>?_,λy H' ⟨p,zs,O,u,S,lz,t⟩=>?_}
  .obtain(vs|_|v|_|q|B|_):=R j b a e;show⟨vs,v,q,B⟩
  subst S u;show{Ext.alloc J O,J.alloc O,p,zs,rfl,.inl (.inl cf),FI (le.trans lz.symm) λj e w ee U=>?_};have F:=RZ (l:=l) (i:=j) (by have:=(RH.mp ee).1;omega)
  obtain(vs|e'|v|h1|q|B|P):=R j _ _ F;have z:=t j _ _ F vs q;rw[U,B] at z;rw[ee] at h1;cases z;cases h1;show P.ext (Ext.alloc J O)
 .obtain(_|vs|_|q|_):=at_ j b a e;show⟨vs,q⟩
 .obtain(y|Y|ly):=he i L;obtain(j|I):=List.getElem?_of_mem Y;have F:=RZ (l:=l) (i:=j) (by have:=(RH.mp I).1;omega)
  obtain(vs|q|r):=B j y _ _ I F;show{j,_,_,vs,F,q,by rw[r.length];show ly}
section
variable{fa:Fa}{X:Cx}{μ0:Mu}{H0:Hp}{d0 d1 d2:D}{a0 a1 a2:Nat}(r0:Rep fa X.K μ0 H0 d0 (.ref a0))(r1:Rep fa X.K μ0 H0 d1 (.ref a1))(r2:Rep fa X.K μ0 H0 d2 (.ref a2))
include r0 r1
theorem zy:c7 fa X.K μ0 H0 (E2 d0 d1) (NQ X.K [(ip d0,a0),(ip d1,a1)]):=Cd λR H M O x F e=>by
 obtain(v|L|e):=Sf.mp e;obtain(B|s1|rfl):=R3.mp e;show{[v,B],rfl,λj y b a u h=>?_,λi d hd=>?_,λi J=>?_}
 .match j,u,h with
  |0,u,h=>cases u;cases h;show lB F (Rep.extW x r0) L
  |1,u,h=>cases u;cases h;show lB F (Rep.extW x r1) s1
 .obtain(P|e1|I|h1|rfl):=(tu v B i d).mp hd;show{_,rfl,by simp[I,h1]}
 .rcases tq v B i J with z|z<;>show{_,`s,z}
include r2
end
set_option tactic.hygienic true in
def Js {fa:Fa}{X:Cx}{F:List Expr}{kk:Nat}{tp p pos:Pos}{e0 e1:Expr}{g0 g1:Env->Mem->Res D}(h0:DE fa X e0 g0)(h1:DE fa X e1 g1)(hg:Gl X "zip")(hm:X.mg "zip"=none)
 (J:starEach [e0,e1] X.env=[(false,eval e0 X.env),(false,eval e1 X.env)]) (v:starEach [e1] X.env=[(false,eval e1 X.env)]):DI fa X (.Tuple F kk tp) (.Call (.Name "zip" p) [e0,e1] [] pos) (yG g0 g1):=by
 rintro P s σ H R I ⟨μ,Z,M,hE,hM,h⟩;obtain(d0|M0|c0|t0):=aI h;obtain(d1|M1|c1|t1):=aI t0;split at t1
 .next L=>
  dsimp[RM] at L;obtain(hq0|hq1):=L;show Call_ (eY I hg hm boot_zip (S0 (aT (bS h0 (bS h1 cy v) (by rw[J,v]) pos P s σ H (λvs y=>∃W Y u,vs=[W,Y]/\Ext μ H u y/\RelM fa X.K u y M1/\Rep fa X.K u y d0 W/\Rep fa X.K u y d1 Y) I ?_) λus s1 ⟨vs,y,B,r1,W,Y,u,ev,x1,O,S,U⟩=>?_) (by rw[J,v]) (by rw[v];rfl)))
  .refine{μ,Z,M,hE,hM,?_};rw[c0];intro W y u x1 O r0;show{u,Z,M0,(hE.ext x1),O,?_};rw[c1];intro Y H2 μ2 x2 m2 r1;show{W,Y,μ2,rfl,(x1.trans x2),m2,(r0.ext x2),r1}
  subst ev;obtain(a0|its0|rfl|z0):=oz B O S hq0;obtain(a1|its1|rfl|z1):=oz B O U hq1;cases r1 with
  | cons y0 r1=>
    cases r1 with
    | cons y1 r1=>
      cases r1;obtain rfl:=y0;obtain rfl:=y1;show BK z0 z1 λh1 za hk=>?_;have I2:=B.kept (t':=s1.toks) hk;show wpAny_pyIter_zip za.1 ?_;show{s1.heap.objs.size+2+2,JR s1.heap.objs.size 1,_,_,y,rfl,I2,CD s1.heap.objs.size 1 [(ip d0,a0),(ip d1,a1)] rfl `d (λj b a e=>match j,e with
       |0,e=>by cases e;show z0.lt
       |1,e=>by cases e;show z1.lt),za,λb hb=>?_,t1 _ y u x1 O (zy S U)}
      have hb:=(dM.mp hb).1;show B.fpOk hb (B.hok.fresh hb)
 .exact t1.elim
noncomputable def yM (h:Addr):Obj:={cls:=.type "enumerate",data:=.fields #[.none,.bool false,.ref h,rawInt 0,.none,.none]}
set_option tactic.hygienic true in
def A4 (l:Addr)(us:Array RJ)(n:Nat)(dct:Option Addr)(sl:Array (Option RJ)) :
 Meets (Builtin.«enumerate.__new__» {[.type "enumerate",.ref l],[]}) (λ_ R s=>s.heap.get? l=some {.type "tuple",dct,.seq us n,sl}/\
  R (.ok (.ret (.ref (s.heap.push (fu false l)).objs.size))) {s with heap:=(s.heap.push (fu false l)).push (yM s.heap.objs.size)}):=
 .of_wp λprog w A R s h=>by
  obtain(v|g|d|tk|os):=s;obtain(j|h):=h;have q:=sub_enumerate;have u:Heap.IsTuple (Shared.heap ⟨v,g,d,tk,os⟩) l us:={_,j,rfl,n,rfl};wp_walk using Sg j
  show wpAny_stack_any λ_=>tqb ?_;split
  .rename_i c _ _ _ _ _;cases (c==Value.type "enumerate")<;>
   .wp_walk using Sg j,wpAny_pyIter_tuple u
    show{_,rfl,h}
  .wp_walk using Sg j,wpAny_pyIter_tuple u
   show{_,rfl,h}
section
variable{prog:Sx}{w:Sr}{A:Ti}{E:RJ->RO->Prop}{s:RO}
def EK (u:cm b s.heap l us)
 (h:∀j,IsEnum j (s.heap.objs.size+1) s.heap.objs.size 0 .none->eI b j s.heap.objs.size l 0->(∀c o,s.heap.get? c=some o->j.get? c=some o)->Q (.ref (s.heap.objs.size+1)) {s with heap:=j}):wpAny (model prog w) A (call (.type "enumerate") [.ref l]) Q E s:=by
 cases b with
 |true=>show call_enumerate_list u λj e i _ k=>h j e i k
 | false=>
   obtain((c|dct|H|sl)|B|y|n|hd):=u;cases y;cases hd;show callType_new F.called_enumerate `d (F.typeCall_enumerate_1 _) (F.newCall_enumerate_1 _) (λo=>F.args_object_init_2 o _) F.entry_enumerate_new (A4 l us n dct sl) {B,?_}
   have v:(s.heap.push (fu false l)).objs.size=s.heap.objs.size+1:=TQ ..;rw[v];have he:IsEnum ((s.heap.push (fu false l)).push (yM s.heap.objs.size)) (s.heap.objs.size+1) s.heap.objs.size 0 .none:=by
    have:=RX (s.heap.push (fu false l)) (o:=yM s.heap.objs.size) rfl;rw[v] at this;show this
   show{{_,he,rfl},h _ he (eI.new (RI _ (RX _ rfl))) λc o x=>RI _ (RI _ x)}
def Nf (hh:A.handled=none)(y:l≠it)(us:Array RJ):Draws prog w A it [it,l] us.size (λi v=>us[i]?=some v) (λi h=>eI b h it l i/\cm b h l us) where
 live:=λ_ _ st=>let{o,ho,_}:=st.1.obj;⟨o,ho⟩
 frame:=λ_ _ _ st hk=>{st.1.at λo e=>hk it `s o e,st.2.at λo e=>hk l `s o e}
 item:=λi s Q E J st I=>iT hh st.1 st.2 (λx F u B j=>I _ F s.toks u {B,st.2.extBut j.extBut y} j) λz=>by rw[Tx J] at z;cases z
 done:=λs Q E st H=>iT hh st.1 st.2 (λx F u=>by rw[Array.getElem?_eq_none (RN _)] at u;cases u) λ_=>H
def Nd (hh:A.handled=none)(v:us[i]?=none):Draws prog w A it [it,l] i (λ_ _=>True) (λk h=>k=i/\eI b h it l i/\cm b h l us) where
 live:=λ_ _ st=>let{o,ho,_}:=st.2.1.obj;⟨o,ho⟩
 frame:=λ_ _ _ st hk=>{st.1,st.2.1.at λo e=>hk it `s o e,st.2.2.at λo e=>hk l `s o e}
 item:=λk s Q E u st B=>absurd st.1 (Se u)
 done:=λs Q E st j=>iT hh st.2.1 st.2.2 (λx y e=>by rw[v] at e;cases e) λ_=>j
def O1 {P:Nat->RJ->Prop}{St:Nat->Heap->Prop}(D:Draws prog w A it fp n P St)(k:Nat):Draws prog w A it fp (k+n) (λj=>P (j-k)) (λj h=>k<=j/\St (j-k) h) where
 live:=λ_ _ st=>D.live _ _ st.2
 frame:=λ_ _ _ st hk=>{st.1,D.frame _ _ _ st.2 hk}
 item:=λj s Q E F st y=>D.item (j-k) s Q E (by have:=st.1;omega) st.2 λx u tk B hs=>y x u tk B {Nat.le_succ_of_le st.1,by rw[Nat.succ_sub st.1];show hs}
 done:=λs Q E st v=>D.done s Q E (by have:=st.2;rwa [SO] at this) v
end
noncomputable def Qf (K:RG)(b:Bool)(a:Addr)(k:Nat):It:=
 {λi H=>∃xs x,iG K H b a xs/\xs[i]?=some x,λi H v h=>∃p x,H p=none/\v=.ref p/\h=upd H p (.tup [.int (k+i:Nat),x])/\∀xs,iG K H b a xs->xs[i]?=some x,λi H=>∃xs,iG K H b a xs/\xs.length<=i}
def zV {K:RG}(b:Bool)(a L e:Addr)(k:Nat)(M:e≠L)(hna:a≠L)(hea:e≠a) :
 Turn P w K (.Tuple elts kk pos) (Qf K b a k) [e,L] e (λi h=>(∃old,IsEnum h e L (k+i:Nat) old)/\eI b h L a i) where
 mem:=`s
 obj:=λi h ⟨⟨old,he⟩,hi⟩ c B=>by
  rcases R7.mp B with z|z
  .subst z;show{_,he,λv z=>by cases z}
  .have e:c=L:=by simpa using z
   subst e;show hi.obj
 keep:=(by rintro i h h' ⟨⟨old,he⟩,st⟩ q;show{{old,q e `s _ he},st.at λo e=>q L `s o e})
 item:=by
  intro X hP hw hK hc i S s σ H E I hf st hg;subst hP hw hK;obtain(xs|x|Y|hx):=hg;obtain((old|he)|F):=st;obtain(J|rv|p):=m9 I Y;obtain(u|hu|ru):=rv.get hx;have hi:i<J.toArray.size:=by have:=(RH.mp hu).1;simpa using this
  have R:k+i-k=i:=SO k i;show wpAny_pyNext_enum_itemD (O1 (Nf (A:=X.A.in1) (I.ok.hd hc) hna J.toArray) k) he {TX k i,by rw[R];show⟨F,p⟩} (Nat.add_lt_add_left hi k) M (by simp[M,hea]) λU h1 tk y ho j hT hsz hk=>{_,rfl,?_}
  rw[R] at y;replace j:=j.2;rw[show k+i+1-k=i+1 from SO k (i+1)] at j;have eu:U=u:=by
   have y:J[i]?=some U:=by simpa using y
   rw[hu] at y;show(RQ y).symm
  subst eu;have hT0:=I.hok.fresh (RN _);have Q:=R0 he;show wpAny_letOwnedTupleGo_enum ho λh2 he2 O=>?_;have hT2:h2.get? s.heap.objs.size=some {cls:=.type "tuple",data:=.seq #[.int (k+i:Nat) tk,U]}:=(O.2 _ (SF Q)).trans hT;show{.ref s.heap.objs.size,upd H s.heap.objs.size (.tup [.int (k+i:Nat),x]),rA (s:=s) I hf (λc o B q=>(O.2 c (λz=>B (by simp[z]))).trans (hk c o (λz=>B (by simp[z])) (λz=>B (by simp[z])) q)) (RN _) {?_,[.int (k+i:Nat) tk,U],.cons {_,rfl} (.cons ru .nil),{_,hT2,rfl,_,rfl}},rfl,
   {_,x,hT0,rfl,rfl,λys hy=>by rw[lC I hy Y];show hx},{⟨U,he2⟩,j.1.extBut O.extBut (SK M)},λc B=>?_}
  .show 2<=sizeLine;decide
  .have:c<s.heap.objs.size:=by
    rcases R7.mp B with z|z
    .subst z;show Q
    .have e:c=L:=by simpa using z
     subst e;obtain(o|e|_):=F.obj;show R0 e
   rw[az (Se this)];show(hf c B).1
 done:=by
  intro X hP hw hK hc i S s σ H E I hf st hg;subst hP hw hK;obtain(xs|Y|hx):=hg;obtain((old|he)|F):=st;obtain(J|rv|p):=m9 I Y;have hl:=rv.length;show wpAny_pyNext_enum_endD (Nd (A:=X.A.in1) (I.ok.hd hc) `o) he ⟨rfl,F,p⟩ λh' eb=>{rfl,vW I hf λc o B q=>eb c o (λz=>B (by simp[z])) q}
 self:=(by rintro _ _ _ _ _ ⟨⟨old,he⟩,_⟩ h;show wpAny_pyIter_enum he h)
section
variable{fa:Fa}{X:Cx}{a:Expr}{ga:Env->Mem->Res D}{pos p:Pos}
def zA {ad:Addr}{k:Nat}(h:Rep fa X.K μ0 H0 dd (.ref ad)):c7 fa X.K μ0 H0 (λM=>(cH M dd).map (eR k)) (Qf X.K (ip dd) ad k):=λY H M W x j e=>by
 dsimp only at e;cases u:cH M dd with
 |none=>rw[u] at e;cases e
 | some I=>
   rw[u] at e;have e:=RQ e;subst e;obtain(F|s|r):=lB j (Rep.extW x h) u;show{λi d hd=>?_,λi P=>{F,s,by rw[r.length,<- mQ I k];show P}}
   rw[mR] at hd;cases e1:I[i]? with
   |none=>rw[e1] at hd;cases hd
   | some U=>
     rw[e1] at hd;have hd:=RQ hd;subst hd;obtain(v|J|R):=r.get e1;show{⟨F,v,s,J⟩,λy S ⟨q,z,B,O,L,Q⟩=>?_};have:=Q F s;rw[J] at this;cases this;subst L O;show{Ext.alloc j B,j.alloc B,q,[.int (k+i:Nat),v],rfl,.inl (.inl cf),.int (k+i:Nat),[v],rfl,rfl,v,[],rfl,R.ext (Ext.alloc j B),rfl}
def iW (ga:Env->Mem->Res D):Env->Mem->Res Walk:=λh M=>(ga h M).bind λx M=>if ik x=true then .ok (λM=>(cH M x).map (eR 0)) M else .bad
def Jw {B:List Expr}(ha:DE fa X a ga)(hg:Gl X "enumerate")(hm:X.mg "enumerate"=none)(hs:starEach [a] X.env=[(false,eval a X.env)]):DI fa X (.Tuple B kk tp) (.Call (.Name "enumerate" p) [a] [] pos) (iW ga):=by
 rintro F s σ H R I ⟨Y,Z,M,hE,hM,h⟩;obtain(x|M1|e|q):=aI h;cases Q:ik x with
 |false=>rw[Q] at q;show q.elim
 |true=>
 rw[Q] at q;show Call_ (eY I hg hm boot_enumerate (S0 (aT (bS ha cy hs pos F s σ H (λW u=>∃v j,W=[v]/\Ext Y H j u/\RelM fa X.K j u M1/\Rep fa X.K j u x v) I {Y,Z,M,hE,hM,?_}) λus s1 ⟨W,u,J,r1,v,j,ev,S,O,U⟩=>?_) hs rfl))
 .rw[e];show λv u j S O r1=>⟨v,j,rfl,S,O,r1⟩
 subst ev;obtain(ad|its|rfl|p1):=oz J O U Q;cases r1 with
 | cons r1 rr=>
   cases rr;obtain rfl:=r1;have y:=p1.lt;show EK p1 λh1 he P hk=>?_;have I2:=J.kept (t':=s1.toks) hk;show wpAny_pyIter_enum he ?_;show{s1.heap.objs.size+1,[s1.heap.objs.size+1,s1.heap.objs.size],_,_,u,rfl,I2,zV (ip x) ad s1.heap.objs.size (s1.heap.objs.size+1) 0 (Nat.succ_ne_self _) (Se y) (SF (T4 y)),{{.none,he},P},λb L=>?_,q _ u j S O (zA U)};have L:s1.heap.objs.size<=b:=by
    rcases R7.mp L with z|z
    .subst z;show Nat.le_succ _
    .have e:b=s1.heap.objs.size:=by simpa using z
     subst e;show RN _
   show J.fpOk L (J.hok.fresh L)
end
abbrev GE:=Env->Mem->Res D
abbrev GT:=Env->Mem->Res Bool
abbrev GA:=Env->Mem->Res (List D)
abbrev GW:=Env->Mem->Res Walk
abbrev GS:=Env->Mem->Res Fl
abbrev GB:=Env->List D->Mem->Res (List D)
abbrev Call:=Nat->List D->Mem->Res D
def aa (i:Nat):GE:=λh M=>cj M (h[i]?.getD none)
noncomputable def gC (d:D):GE:=λ_ M=>.ok d M
def ak (m:Bool)(o:om)(a b:GE):GE:=λh M=>(a h M).bind λx M=>(b h M).bind λy M=>eM m o x y M
def aA (o:j4)(a b:GE):GE:=λh M=>(a h M).bind λx M=>(b h M).bind λy M=>(cj M (bo o x y M)).bind λb M=>.ok (.bl b) M
def jw (o j:j4)(a b c:GE):GE:=λh M=>(a h M).bind λx M=>(b h M).bind λy M=>(cj M (bo o x y M)).bind λk M=>
 if k then(c h M).bind λz M=>(cj M (bo j y z M)).bind λb M=>.ok (.bl b) M else .ok (.bl false) M
def eC (a:GE):GE:=λh M=>(a h M).bind λx M=>match x with|.int i=>.ok (.int (-i)) M|_=>.bad
def dH (a b:GE):GE:=λh M=>(a h M).bind λx M=>match x with|.bl true=>b h M|.bl false=>.ok (.bl false) M|_=>.bad
def uW (a b:GE):GE:=λh M=>(a h M).bind λx M=>match x with|.bl true=>.ok (.bl true) M|.bl false=>b h M|_=>.bad
def MC (a:GE):GE:=λh M=>(a h M).bind λx M=>match x with|.bl k=>.ok (.bl (!k)) M|_=>.bad
def gg (t:GT)(a b:GE):GE:=λh M=>(t h M).bind λk M=>if k then a h M else b h M
def ao (a b:GE):GE:=λh M=>(a h M).bind λx M=>(b h M).bind λy M=>cj M (bZ x y M)
def cw (m hl hh:Bool)(a lo hi:GE):GE:=λj M=>(a j M).bind λx M=>(lo j M).bind λl M=>(hi j M).bind λh M=>if cq hl l&&cq hh h then eA m x l h M else .bad
noncomputable def bb:GA:=λ_ M=>.ok [] M
def a9 (a:GE)(s:GA):GA:=λh M=>(a h M).bind λx M=>(s h M).bind λxs M=>.ok (x::xs) M
def aR (s:GA):GE:=λh M=>(s h M).bind lG
def aW (m:Bool)(s:GA):GE:=λh M=>(s h M).bind (bc m)
def ah (f:Nat)(c:Call)(s:GA):GE:=λj M=>(s j M).bind λh M=>c f h M
def mM (i:Nat)(c:Call)(s:GA):GE:=λh M=>match h[i]?.getD none with|some (.fn f)=>(s h M).bind λj M=>c f j M|_=>.bad
def aK (f:vL)(s:GA):GE:=λj M=>(s j M).bind λh M=>fc f h M
def cF (t:Ty)(a:GE):GE:=λh M=>(a h M).bind λx M=>(cj M (cM t x)).bind λb M=>.ok (.bl b) M
def ai (a:GE):GT:=λh M=>(a h M).bind λx M=>cj M (j6 M x)
def dF (a b:GT):GT:=λh M=>(a h M).bind λk M=>if k then b h M else .ok false M
def c4 (a b:GT):GT:=λh M=>(a h M).bind λk M=>if k then .ok true M else b h M
def bO (a:GT):GT:=λh M=>(a h M).bind λk M=>.ok (!k) M
def av (t:fR)(a:GE):GS:=λj M=>(a j M).bind λx M=>(cj M (b7 t x j)).bind λh M=>.ok (.next h) M
def dG (a b d:GE):GS:=λh M=>(d h M).bind λz M=>(a h M).bind λx M=>(b h M).bind λy M=>match x,y with
 | .cell k,.int n=>match M[k]? with
   | some u=>match bX u.length n with
     |some j=>.ok (.next h) (M.set k (u.set j z))
     |none=>.bad
   |none=>.bad
 |_,_=>.bad
def jo (a d:GE):GS:=λh M=>(a h M).bind λx M=>(d h M).bind λz M=>match x with
 | .cell k=>match M[k]? with
   |some j=>if j.length<sz then .ok (.next h) (M.set k (j++[z])) else .bad
   |none=>.bad
 |_=>.bad
def sEx (a:GE):GS:=λh M=>(a h M).bind λ_ M=>.ok (.next h) M
def aM (a:GE):GS:=λh M=>(a h M).bind λx M=>.ok (.ret x) M
noncomputable def FG:GS:=λ_ M=>.ok (.ret .non) M
def FH:GS:=λh M=>.ok (.next h) M
def gG:GS:=λ_ _=>.bad
def aN (c:GT)(a b:GS):GS:=λh M=>(c h M).bind λk M=>if k then a h M else b h M
def d3 (t:fR)(w:GW)(b:GS):GS:=λh M=>(w h M).bind λw M=>cY (ic t b) w (.next h) M
def aF:GS:=λh M=>.ok (.next h) M
noncomputable def aZ (a b:GS):GS:=λh M=>(a h M).bind λfl M=>match fl with
 |.next h=>b h M
 |fl=>.ok fl M
noncomputable def notStar:Expr->Bool
 |.Starred _ _=>false
 |_=>true
def bJ (h:notStar a=true):starEach (a::es) env=(false,eval a env)::starEach es env:=by
 cases a<;>first|rfl|cases h
noncomputable def dZ:∀{es:List Expr},es.all notStar=true->(backTo pos (starEach es env)).any (·.1)=false
 |[],_=>rfl
 | a::es,h=>by
   dsimp[SQ,RM] at h;have j:=dZ (pos:=pos) (env:=env) h.2;rw[bJ h.1];simpa[backTo] using j
section
variable{fa:Fa}{X:Cx}{a b d:Expr}{ga gb gd:GE}{ta tb:GT}{pos p:Pos}{es:List Expr}{gs:GA}{n:Nat}
def K9 {i:Int}(h:Gl X x)(hm:X.mg x=some (.int i t))(hd:(x==("__debug__":Str))=false):DE fa X (.Name x pos) (gC (.int i)):=jf (v:=.int i) (hD h hm ⟨t,rfl⟩ hd) λ_ _=>rfl
end
structure Df where
 params:Nat
 slots:Nat
 body:Call->GS
noncomputable def Q9:Fl->Mem->Res D
 |.ret d,M=>.ok d M
 |.next _,M=>.ok .non M
 |.exc x _,M=>.err x M
def Q8:Res Fl->Res D
 |.ok fl M=>Q9 fl M
 |_=>.bad
def f7 (c:Call)(d:Df)(ds:List D)(M:Mem):Res D:=if ds.length=d.params then Q8 (d.body c (ds.map some++List.replicate (d.slots-ds.length) none) M) else .bad
noncomputable def ag (P:Nat->Option Df):Nat->Call
 |0,_,_,_=>.bad
 | n+1,f,h,M=>match P f with
   |none=>.bad
   |some d=>f7 (ag P n) d h M
structure zj (K:RG) (x qual:Str) (st:Stmt) (f:Addr) (fd:FuncData):Prop where
 ex:∃(oc:RJ) (od:Option Addr) (dV kV doc pm:RJ) (an:Option Addr) (cdv ct:RJ) (osl:Array (Option RJ)),
  fd=PySem.W.fnOf x qual (eL st) (cW st) (bh st) dV kV doc pm an cdv ct/\K.lookup f=some {oc,od,.func fd,osl}/\PySem.W.codeIn K cdv qual=true
 kp:PySem.W.keepIn K (.ref f)=true
def xO.toD {K:RG}{st:Stmt}(F:xO K x qual st f fd):zj K x qual st f fd:=let⟨oc,od,kV,j,pm,v,h,ct,u,r⟩:=F.ex;{{oc,od,.none,kV,j,pm,v,h,ct,u,r},F.kp}
structure zm (fa:Fa) (P:Sx) (w:Sr) (K:RG) (mg:Str->Option RJ) (base:Heap) (f:Nat) (d:Df):Prop where
 ex:∃(ad:Addr) (fd:FuncData) (ps N:List Str) (st:Stmt) (x qual:Str),fa f=some ad/\zj K x qual st ad fd/\Binds K fd ps []/\((fa (500+f)).isSome=true->Binds K fd ps [.none])/\ji N ps (bh st)/\d.params=ps.length/\d.slots=N.length/\
  ∀(call:Call) (n:Nat) (cdv:RJ) (A:Ti) (outer:List Tu) (s:RO) (H:Hp) (E:XK),(∀f,g7 fa P w K mg base n f (call f))->c9 (2*n+5) (A.deeper (envOfC qual (bh st) s.heap.objs.size ad cdv))->
   la fa (gi (iR P w) P w K mg base N qual (bh st) ad cdv A outer s H E) (cW st) (d.body call)
def Ah {K:RG}(h:aH fa K μ H ds vs):bz fa K μ H (L2.start N vs) (ds.map some++List.replicate (N.length-ds.length) none):=by
 have hl:=h.length;show{by unfold L2.start;simp[hl],λi d e=>?_}
 by_cases j:i<ds.length
 .rw[RR (~~~j),Sh] at e
  cases e1:ds[i]? with
  |none=>rw[e1] at e;cases e
  | some B=>
    rw[e1] at e;cases e;obtain(v|u|y):=h.get e1;show{v,?_,y};unfold L2.start;rw[RR `o,Sh,u]
    rfl
 .rw[So `o,T9] at e
  split at e<;>cases e
def xg {K:RG}{st:Stmt}(F:zj K x qual st f fd)(S:ji N ps (bh st))(len:∀vs H Q E,sp vs H Q E->vs.length=ps.length)
 (j:∀(h:RJ) (A:Ti) (outer:List Tu) (s:RO) (H:Hp) (vs:List V) (Q:VK) (E:XK),c9 k (A.deeper (envOfC qual (bh st) s.heap.objs.size f h))->sp vs H Q E->
  ∃t,k9 (gi (iR P w) P w K mg base N qual (bh st) f h A outer s H E) (cW st) t/\t {nx:=λ_ y=>Q .non y,rt:=Q} (start N vs) H):lZ P w K mg base (iR P w) (k+1) f fd ps sp:=by
 obtain(oc|od|dV|kV|B|pm|J|h|ct|I|rfl|lk|u):=F.ex;show OR lk u S len λA outer s H vs Q E hr v=>j h A outer s H vs Q E hr v
set_option tactic.hygienic true in
def si {K:RG}
 (hs:d.slots=N.length) (O:RelM fa K μ H M) (hr:aH fa K μ H ds vs) (h:eP (f7 c d ds M) (aY fa K μ H Q) (GU fa K μ H E)):tF fa (gi (iR P w) P w K mg base N qual scope f cd A outer s H E) (d.body c) {nx:=λ_ u=>Q .non u,rt:=Q} (start N vs) H:=by
 unfold f7 at h;split at h
 .refine{μ,_,M,Ah hr,O,?_};rw[<- hs];cases e1:d.body c (ds.map some++List.replicate (d.slots-ds.length) none) M with
  | ok fl Y=>
    rw[e1] at h;cases fl with
    | next B=>
      have v:=h;show λF u j U e' S=>v .non u j U S rfl
    |ret d=>show h
    | exc x B=>
      have v:=h;show λJ F u j s' a C L c p I y _ m ex R hn fl=>D2 I fl (v C L c p u j y m ex R hn)
  |err=>rw[e1] at h;show h.elim
  |bad=>rw[e1] at h;show h.elim
 .exact h.elim
theorem vh {P:Sx}{w:Sr}{K:RG}(h:∀f d,Pg f=some d->zm fa P w K mg base f d):∀(n f:Nat),g7 fa P w K mg base n f (ag Pg n f)
 |0,f=>.inl λ_ _=>rfl
 | n+1,f=>by
   have Y:=vh h n;cases e:Pg f with
   |none=>show .inl λj M=>by change(match Pg f with|none=>Res.bad|some d=>f7 (ag Pg n) d j M)=Res.bad;rw[e]
   | some d=>
     have eq:∀j M,ag Pg (n+1) f j M=f7 (ag Pg n) d j M:=λj M=>by change(match Pg f with|none=>Res.bad|some d=>f7 (ag Pg n) d j M)=_;rw[e]
     obtain(ad|L|ps|N|st|x|J|h1|F|R|B|S|U|hs|u):=(h f d e).ex;show .inr {ad,L,ps,h1,F.kp,R,λj M hl=>?_,?_,B}
     .rw[eq];unfold f7;rw[if_neg (by rw[U];show hl)]
     .refine xg F S (λvs H Q E v=>v.1) λy A outer s H vs Q E hr v=>{_,u (ag Pg n) n y A outer s H E Y hr,?_};obtain(hl|μ|M|j|O|hr|I):=v;rw[eq] at I;show si hs O hr I
def pq (P:TV)(e:S4)(h:Str×Addr):Prop:=∃t,e={PyData.keyHash P h.1,.str h.1 t,.ref h.2}
structure fA (K:RG) (P:TV) (a:Addr) (kvs:List (Str×Addr)):Prop where
 ex:∃(es:Array S4) (n:Nat),K.lookup a=some {cls:=.type "dict",data:=.dict es n}/\Tz (pq P) es.toList kvs
 nd:(kvs.map (·.1)).Nodup
 ns:(a==sysModules)=false
def wW (kvs:List (Str×Addr)):List (Key×RJ):=kvs.map λh=>(Sum.inr h.1,.ref h.2)
noncomputable def u3:∀{es:List S4}{kvs:List (Str×Addr)},Tz (pq P) es kvs->∀e∈es,∃x t,e.key=.str x t/\e.hash=PyData.keyHash P x
 |_,_,.nil,e,h=>nomatch h
 | _,_,.cons r t,e,h=>by
   rcases R7.mp h with z|z
   .subst z;obtain(t|rfl):=r;show{_,t,rfl,rfl}
   .exact u3 t e z
noncomputable def qb:∀{es:List S4}{kvs:List (Str×Addr)},Tz (pq w.params) es kvs->Pairs (kG prog w) es (wW kvs)
 |_,_,.nil=>.nil
 | e::es,h::kvs,.cons r t=>by
   obtain(u|rfl):=r;show Pairs.cons (jO h.1 u) rfl (qb t)
def uO (I:Inv X pins σ H s)(h:fA X.K X.w.params a kvs):s.heap.DictOf (kG X.prog X.w) a (wW kvs):=by
 obtain(j|n|lk|pr):=h.ex;show{_,j,n,I.kIn _ _ lk,⟨rfl,rfl,rfl⟩,rfl,λe he=>?_,qb pr,?_}
 .obtain(x|t|e1|e2):=u3 pr e (~~~he)
  show{Sum.inr x,by rw[e1];show jO x t,e2}
 .have e:(wW kvs).map (·.1)=(kvs.map (·.1)).map Sum.inr:=by unfold wW;simp
  rw[e];show List.Pairwise.map _ (λa b (n:a≠b) z=>n (Sum.inr.inj z)) h.nd
def Ba (kvs:List (Str×Addr))(k:Str):valueAt (wW kvs) (Sum.inr k:Key)=(kvs.lookup k).map Value.ref:=by
 induction kvs with
 |nil=>rfl
 | cons j r h=>
   unfold valueAt wW at h ⊢;rw[S3,List.find?_cons,SI];by_cases e:j.1=k
   .subst e;simp
   .have e2:decide ((Sum.inr j.1:Key)=Sum.inr k)=false:=decide_eq_false λz=>e (Sum.inr.inj z);have u:=Sw.mpr (SK e);rw[e2,u];show h
def ec (fa:Fa)(kvs:List (Str×Addr))(fs:List (Str×Nat)):Prop:=Tz (λ(p:Str×Addr) (q:Str×Nat)=>p.1=q.1/\fa q.2=some p.2) kvs fs
theorem ec.look:∀{kvs:List (Str×Addr)}{fs:List (Str×Nat)},ec fa kvs fs->(fs.lookup k=none/\kvs.lookup k=none)\/∃f ad,fs.lookup k=some f/\kvs.lookup k=some ad/\fa f=some ad
 |_,_,.nil=>.inl ⟨rfl,rfl⟩
 | (x,a)::r,(y,f)::t,.cons ⟨e1,e2⟩ q=>by
   subst e1;rw[SI,SI];cases e:k==x with
   |true=>show .inr ⟨f,a,rfl,rfl,e2⟩
   |false=>show ec.look q
def lM (fs:List (Str×Nat))(i:GE):GE:=λh M=>(i h M).bind λd M=>match d with
 |.str k=>cj M ((fs.lookup k).map D.fn)
 |_=>.bad
def iX (fs:List (Str×Nat))(i:GE):GE:=λh M=>(i h M).bind λd M=>match d with
 |.str k=>.ok (.bl (!(fs.lookup k).isSome)) M
 |_=>.bad
section
variable{fa:Fa}{X:Cx}{a b:Expr}{ga gb:GE}{pos p:Pos}{ad:Addr}{kvs:List (Str×Addr)}{fs:List (Str×Nat)}{x:Str}
def Ed (hd:fA X.K X.w.params ad kvs):j0 X (λx y H Q=>∃k v,x=.ref ad/\y=.str k/\kvs.lookup k=some v/\Q (.ref v) H):=by
 intro B j J s R H x y v u Q I O P h hs;obtain(k|c|rfl|rfl|hk|q):=h;cases O;obtain(t|rfl):=P;have E:=uO I hd;have L:s.TypeIs (.ref ad) "dict":=let{o,_,_,ho,{M,_},_}:=E;⟨o,ho,M⟩
 show tail_any L PySem.F.slot_dict_getitem.lookup (wpAny_getItem_of (k:=(Sum.inr k:Key)) (jO k t) E.mapOf (v:=.ref c) ?_ ?_) hs
 .rw[Ba,hk];rfl
 .exact{.ref c,H,I.tok _,rfl,q}
def uo (hd:fA X.K X.w.params ad kvs):bY X (compareOp .NotIn) (λx y H Q=>∃k,x=.str k/\y=.ref ad/\Q (.bl (!(kvs.lookup k).isSome)) H):=by
 intro j s J H x y v u Q I E F h;obtain(k|rfl|rfl|q):=h;obtain(t|rfl):=E;cases F;have B:=uO I hd;show wpAny_notIn_of (k:=(Sum.inr k:Key)) (jO k t) hd.ns B.mapOf ?_;rw[Ba,Uk];show{.bl _,H,I.tok _,rfl,q}
def Lb (hd:fA X.K X.w.params ad kvs)(ho:ec fa kvs fs)(O:Gl X x)(hm:X.mg x=some (.ref ad))(u:(x==("__debug__":Str))=false)(L:DE fa X b gb)(hs:jh b):DE fa X (.Subscript (.Name x p) b pos) (lM fs gb):=
 bF (yd (Ed hd) (hD (v:=.ref ad) O hm rfl u) L hs) λW H Q ⟨S,U,M,F,J,h⟩=>t1 F J h λd R v B y P I j r1 h1=>by
  cases d with
  | str k=>
    obtain(d|e|q):=kz h1;rcases ho.look with⟨e1,_⟩|⟨f,c,e1,e2,E⟩
    .rw[e1] at e;cases e
    .rw[e1] at e;cases e;show{k,c,rfl,r1,e2,q (.ref c) B y P j {c,rfl,.inl E}}
  |_=>show h1.elim
def DF {d:D}{P:D->Mem->Prop}(h:ae (match d with|.str k=>Res.ok (.bl (!(fs.lookup k).isSome)) M1|_=>.bad) P):∃k,d=.str k/\P (.bl (!(fs.lookup k).isSome)) M1:=by
 cases d with
 |str k=>show⟨k,rfl,h⟩
 |_=>show h.elim
def ED (ho:ec fa kvs fs)(k:Str):(kvs.lookup k).isSome=(fs.lookup k).isSome:=by
 rcases ho.look with⟨e1,e2⟩|⟨f,c,e1,e2,_⟩<;>rw[e1,e2]<;>rfl
def Bs (ho:ec fa kvs fs)(B:L2.St)(H:Hp)(Q:VK)(h:tE fa X.K (iX fs ga) B H Q):Ae (λx y H Q=>∃k,x=.str k/\y=.ref ad/\Q (.bl (!(kvs.lookup k).isSome)) H) (tE fa X.K ga) (tC (.ref ad)) B H Q:=by
 obtain(P|R|M|F|J|h):=h;show t1 F J h λd O v E u L I j r1 h1=>?_;obtain(k|rfl|q):=DF h1;show{k,r1,rfl,?_};rw[ED ho];show q (.bl _) E u L j rfl
def La (hd:fA X.K X.w.params ad kvs)(ho:ec fa kvs fs)(B:Gl X x)(hm:X.mg x=some (.ref ad))(j:(x==("__debug__":Str))=false)(y:DE fa X a ga)(u:behindInMarks .NotIn (.Name x p)=false):DE fa X (.Compare a [.NotIn] [.Name x p] pos) (iX fs ga):=
 bF (qA (uo hd) y (hD (v:=.ref ad) B hm rfl j) u) λE H Q h=>Bs ho E H Q h
def Lk (hd:fA X.K X.w.params ad kvs)(ho:ec fa kvs fs)(J:Gl X x)(hm:X.mg x=some (.ref ad))(j:(x==("__debug__":Str))=false)(I:DE fa X a ga)(u:behindInMarks .NotIn (.Name x p)=false):DT fa X (.Compare a [.NotIn] [.Name x p] pos) (ai (iX fs ga)):=
 ku (qy (uo hd) I (hD (v:=.ref ad) J hm rfl j) u) λW H Q h=>by
  show Bs ho W H _ ?_;obtain(S|U|M|E|F|h):=h;obtain(z|M3|e|q):=aI h;show{S,U,M,E,F,?_};rw[e];have L:∃k,z=.bl k:=by
   obtain(d|Y|e1|e2):=eG e;cases d<;>first|(cases e2;show{_,rfl})|cases e2
  obtain(k|rfl):=L;intro v B y R O P;obtain rfl:v=.bl k:=P;show{k,rfl,q B y R O}
def mL (m:Bool)(a:GE):GE:=λh M=>(a h M).bind λx M=>match x with
 |.int n=>if -(2^62)<=n/\n<2^20 then bc m ((List.range n.toNat).map λ(k:Nat)=>D.int (k:Int)) M else .bad
 |_=>.bad
def yC:∀(n:Nat) (y:List RJ),y.length=n->(∀(i:Nat) (v:RJ),y[i]?=some v->∃t,v=.int (i:Int) t)->Vals ((List.range n).map λ(k:Nat)=>V.int (k:Int)) y:=by
 intro n y hl h;have B:∀(k:Nat) (y:List RJ),(∀(i:Nat) (v:RJ),y[i]?=some v->∃t,v=.int ((k+i:Nat):Int) t)->Vals ((List.range y.length).map λj=>V.int ((k+j:Nat):Int)) y:=by
  intro k y;induction y generalizing k with
  |nil=>intro _;show .nil
  | cons v r E=>
    intro h;rw[To,List.range_succ_eq_map,S3,SN];show .cons (h 0 v rfl) ?_;have:=E (k+1) λi u e=>by
     have:=h (i+1) u (~~~e)
     rw[show k+1+i=k+(i+1) by omega];show this
    show cast (congrArg (λf=>Vals ((List.range r.length).map f) r) ?_) this
    funext j
    congr 2
    omega
 have:=B 0 y λi v e=>by rw[Nat.zero_add];show h i v e
 rw[hl] at this;simpa using this
def HQ (m:Bool)(hc:X.calm=true)(ha:DE fa X a ga)(L:Gl X "list")(P:X.mg "list"=none)(hg:Gl X "range")(hm:X.mg "range"=none)(hs:starEach [a] X.env=[(false,eval a X.env)])
 (F:starEach [.Call (.Name "range" p2) [a] [] pos2] X.env=[(false,eval (.Call (.Name "range" p2) [a] [] pos2) X.env)]) :
 DE fa X (.Call (.Name "list" p1) [.Call (.Name "range" p2) [a] [] pos2] [] pos) (mL m ga):=by
 rintro y s σ H Q I ⟨μ,Z,M,hE,hM,h⟩;obtain(x|M1|e|q):=aI h;have U:∀n,x=.int n->ae (if -(2^62)<=n/\n<2^20 then bc m ((List.range n.toNat).map λ(k:Nat)=>D.int (k:Int)) M1 else .bad) (aY fa X.K μ H Q)->
  wpAny (model X.prog X.w) X.A (eval (.Call (.Name "list" p1) [.Call (.Name "range" p2) [a] [] pos2] [] pos) X.env) (EP X y σ Q) X.xe s:=λn en J=>by
  subst en;by_cases c:-(2^62)<=n/\n<2^20
  .rw[if_pos c] at J;show Call_ (eY I L P (by decide +kernel:bootBuiltins "list"=some (.type "list")) (S0 ?_ F rfl))
   rw[F];show Calls.spliced_cons ?_;show Call_ (eY I hg hm boot_range (S0 (aT (bS ha cy hs pos2 y s σ H (λvs E=>∃j,vs=[.int n]/\Ext μ H j E/\RelM fa X.K j E M1) I {μ,Z,M,hE,hM,?_}) λus s1 ⟨vs,E,I1,r1,j,ev,Y,W⟩=>?_) hs rfl))
   .rw[e];intro v E j Y W r1;obtain rfl:v=.int n:=r1;show⟨j,rfl,Y,W⟩
   subst ev;cases r1 with
   | cons r rr=>
     cases rr;obtain(t|rfl):=r;show call_range_1 ?_;show Calls.spliced_nil ?_;show call_list_range (n:=n.toNat) (I.ok.hd hc) (IsRange.new ..) (small_one `a `a `a `a) (by rw[rangeSize_one];split<;>omega) `a λh' tk B c' kp eS S=>?_
     obtain(R|O):=S;have I2:Inv X y σ E {s1 with heap:=s1.heap.push {cls:=.type "range",data:=.fields #[.int 0 s1.toks,.int n t,.int 1 (s1.toks+1)]},toks:=s1.toks+1+1}:=I1.kept λb o e=>RI _ e
     have hv:=yC n.toNat B.toList (~~~R) λi v e=>by
      obtain(u|z):=O i v (~~~e)
      show{u,by rw[z];simp}
     have rl:aH fa X.K j E ((List.range n.toNat).map λ(k:Nat)=>D.int (k:Int)) ((List.range n.toNat).map λ(k:Nat)=>V.int (k:Int)):=by
      have:=aH.ints (fa:=fa) (K:=X.K) (μ:=j) (H:=E) ((List.range n.toNat).map λ(k:Nat)=>(k:Int));simpa[SN,Function.comp_def] using this
     obtain(c1|k1):=eW W rl (jI J Y);show{.ref _,_,I2.laid (o:=.lst ((List.range n.toNat).map λ(k:Nat)=>V.int (k:Int))) kp (RN _) {?_,B.toList,c',hv,~~~eS},rfl,k1 _ (I2.hok.fresh (RN _))}
     rw[rl.length,<- dr];show c1
  .rw[if_neg c] at J;show J.elim
 cases x with
 |int n=>show U n rfl q
 |_=>show q.elim
end
noncomputable def q8 (bn N:List Str)(sc scope:Scope):Bool:=
 scope.names.all (λy=>(y.2 != .cell||scope.names.lookup y.1==some .cell)&&(y.2 != .local||scope.names.lookup y.1==some .local)&&(y.2 != .free||sc.names.lookup y.1==some .cell||sc.names.lookup y.1==some .free)) &&
 bn.length==N.length&&(bn.zip N).all λp=>(p.1==p.2&&(scope.names.lookup p.2 != some .local&&scope.names.lookup p.2 != some .cell))||scope.names.lookup p.1==none
noncomputable def pN {j v:Type}{R:j->v->Prop}:∀{l:List j}{r:List v},l.length=r.length->(∀p∈l.zip r,R p.1 p.2)->Tz R l r
 |[],[],_,_=>.nil
 |a::l,b::r,h,g=>.cons (g (a,b) RY) (pN (~~~h) λp B=>g p (RP _ B))
 |[],_::_,h,_=>by cases h
 |_::_,[],h,_=>by cases h
def BH (hk:scope.kind=.function)(hs:X.env.scope=sc)(v:X.N=N)(h:q8 bn N sc scope=true):fh X own bn scope:=by
 unfold q8 at h;rw[RM,RM,R4,R4] at h;obtain((h1|hl)|h2):=h;show{hk,λy j e=>?_,λy j e=>?_,λy j e=>?_,?_}
 .have:=h1 y j;rw[e] at this;simpa using this
 .have:=h1 y j;dsimp[RM] at this;rw[e] at this;simpa using this
 .have:=h1 y j;dsimp[RM] at this;rw[e] at this;change X.env.scope.names.lookup y.1=_\/X.env.scope.names.lookup y.1=_;rw[hs];simpa using this
 .rw[v];show pN (~~~hl) λp B=>?_
  have:=h2 p B;dsimp[TN,RM,beq_iff_eq,bne_iff_ne] at this;show this
section
variable{fa:Fa}{X:Cx}{elt tg iter c t2 i2:Expr}{scope:Scope}{pos:Pos}{own bn:List Str}{t u:fR}{gw gw2:GW}{ge:GE}{gc:GT}
def lu {l:List Nat}(h:l.all (· < n)=true):∀i∈l,i<n:=λi j=>by
 have:=R4.mp h i j;simpa using this
def Aq {l W:List Nat}(h:W.all (λi=>!l.contains i)=true):∀i∈W,i∉l:=λi j z=>by
 have:=R4.mp h i j;simp[z] at this
variable{i:Nat}{y:Str}{py spos:Pos}
def HU {i:Int}(j:Gl X x)(hm:∃t,X.mg x=some (.int i t))(hd:(x==("__debug__":Str))=false):DE fa X (.Name x pos) (gC (.int i)):=let{_,h}:=hm;K9 j h hd
def HX (h:∃ad j,X.mg x=some (.ref ad)/\fA X.K X.w.params ad j/\ec fa j fs)(E:Gl X x)(v:(x==("__debug__":Str))=false)(B:DE fa X b gb)(hs:jh b):DE fa X (.Subscript (.Name x p) b pos) (lM fs gb):=
 let{_,_,h1,h2,h3}:=h;Lb h2 h3 E h1 v B hs
def HV (h:∃ad j,X.mg x=some (.ref ad)/\fA X.K X.w.params ad j/\ec fa j fs)(F:Gl X x)(v:(x==("__debug__":Str))=false)(E:DE fa X a ga)(B:behindInMarks .NotIn (.Name x p)=false):DE fa X (.Compare a [.NotIn] [.Name x p] pos) (iX fs ga):=
 let{_,_,h1,h2,h3}:=h;La h2 h3 F h1 v E B
def HZ (h:∃ad j,X.mg x=some (.ref ad)/\fA X.K X.w.params ad j/\ec fa j fs)(F:Gl X x)(v:(x==("__debug__":Str))=false)(E:DE fa X a ga)(B:behindInMarks .NotIn (.Name x p)=false):DT fa X (.Compare a [.NotIn] [.Name x p] pos) (ai (iX fs ga)):=
 let{_,_,h1,h2,h3}:=h;Lk h2 h3 F h1 v E B
def HM (h:c9 (n+4) X.A):Rm X:=by have:=h.un;change X.A.units+100<cLine;omega
end
noncomputable def iZ {j v:Type}{f g:j->Option v}:∀{l:List j},(∀x∈l,f x=g x)->l.filterMap f=l.filterMap g
 |[],_=>rfl
 | a::l,h=>by
   rw[Ut,Ut,h a RY,iZ λx u=>h x (RP _ u)]
def rK (n:Nat)(xs:List RJ)(h:xs.length=n):(List.range n).filterMap (λ(k:Nat)=>xs[n-1-k]?)=xs.reverse:=by
 have e:∀k∈List.range n,xs[n-1-k]?=some (xs.reverse.getD k .none):=λk hk=>by
  have hk:=Tr.mp hk;rw[Sy,List.getElem?_reverse `a,h,RZ `a]
  simp
 have:(List.range n).filterMap (λk=>xs[n-1-k]?)=(List.range n).map λk=>xs.reverse.getD k .none:=by
  rw[iZ e];simp
 rw[this];show List.ext_getElem? λi=>?_;rw[Sh];by_cases j:i<n
 .rw[Tv j];change some (xs.reverse.getD i .none)=_;rw[Sy,RZ (show i<xs.reverse.length by simp;omega)]
  simp
 .rw[TC `o,TC `o]
  rfl
def sH (h:List RJ):slicePick h.toArray none none (some (-1))=h.reverse.toArray:=by
 unfold slicePick sliceBounds sliceRange;dsimp[S2,RW];have e1:¬ ((-1:Int) > 0):=`d
 dsimp[e1,if_false];have e2:(if (h.length:Int)-1 > -1 then((h.length:Int)-1 - -1 - -1-1) / (- -1) else 0).toNat=h.length:=by
  split
  .simp
  .omega
 rw[e2,List.filterMap_map,<- rK h.length h rfl]
 congr 1
 show iZ λk hk=>?_;have j:((h.length:Int)-1+-1*(k:Int)).toNat=h.length-1-k:=`a
 change h.toArray[((h.length:Int)-1+-1*(k:Int)).toNat]?=_;rw[j];simp
section
variable{prog:Sx}{w:Sr}{A:Ti}{E:RJ->RO->Prop}{s:RO}
def nW (B:IsTup s.heap t items)(hs:s.heap.IsSliceOf sl .none .none (.int (-1) k))
 (h:Q (.ref s.heap.objs.size) {s with heap:=s.heap.push {cls:=.type "tuple",data:=.seq items.toList.reverse.toArray}})
 (hsz:items.size<=sizeLine):wpAny (model prog w) A (getItem (.ref t) (.ref sl)) Q E s:=by
 have j:sizeOk (.seq items.toList.reverse.toArray):=by
  change items.toList.reverse.toArray.size<=sizeLine;simpa using hsz
 obtain(os|u|H|v):=id hs;have F:s.TypeIs (.ref sl) "slice":=⟨os,u,H⟩;unfold getItem;try with_reducible show tqo ?_
 first|show tqa (tqb ?_)|skip
 show tqa (wpAny_sequenceKey B.typeIs `d ?_)
 show tqa (wpAny_callSpecial?_slot B.typeIs SA
  (wpAny_call_entry SA B.typeIs entry_tuple_getitem ?_ (args_tuple_getitem _ _)))
 change wpAny _ _ (Builtin.Tuple.tupleItemsOf (.ref t) >>= _) _ _ s;show tqa (tupleItemsOf_ B ?_);show tqa (wpAny_typeOf F ?_);rw[if_pos `d]
 show tqa (tqa (tqa (tqf u v rfl (tqa (tqf u v rfl (tqa (tqf u v rfl (tqb ?_))))))));show tqa (slicePart_int ?_);rw[if_neg `d]
 show tqa (slicePart_none (tqa (slicePart_none (tqa (tqb ?_)))));have ea:Builtin.Slice.sliceAdjust none none (-1) (items.size:Int)=((items.size:Int)-1,-1):=by simp[Builtin.Slice.sliceAdjust]
 have L:Builtin.Slice.slicePlaces ((items.size:Int)-1) (-1) (-1)=items.size:=by
  unfold Builtin.Slice.slicePlaces;rw[if_neg `d]
  split
  .simp
  .omega
 change wpAny _ _ (match Builtin.Slice.sliceAdjust none none (-1) (items.size:Int) with|(lo,M)=>pure (lo,(-1:Int),Builtin.Slice.slicePlaces lo M (-1))) _ _ s
 rw[ea];change wpAny _ _ (pure ((items.size:Int)-1,(-1:Int),Builtin.Slice.slicePlaces ((items.size:Int)-1) (-1) (-1))) _ _ s;rw[L];show tqb ?_;have I:¬ ((((items.size:Int)-1)==0&&(-1:Int)==1&&items.size==items.size)=true):=`s
 change wpAny _ _ (if (((items.size:Int)-1)==0&&(-1:Int)==1&&items.size==items.size)=true then _ else _) _ _ s;rw[if_neg I];have y:((List.range items.size).filterMap λ(m:Nat)=>items[(((items.size:Int)-1)+(m:Int) * -1).toNat]?).toArray=items.toList.reverse.toArray:=by
  rw[<- rK items.size items.toList `s]
  congr 1
  show iZ λm hm=>?_;have J:((items.size:Int)-1+(m:Int) * -1).toNat=items.size-1-m:=`a
  rw[J];simp
 rw[y];first
  |show tqa (wpAny_newObj_type (tqb {_,rfl,tqb h}) j)
  |show tqa (wpAny_newObj_type (tqa (tqb (tqb {_,rfl,tqb h}))) j)
  |show tqa (tqa (wpAny_newObj_type (tqb (tqb {_,rfl,tqb h})) j))
  |show tqa (tqa (wpAny_newObj_type (tqb {_,rfl,tqb h}) j))
end
section
variable{fa:Fa}{X:Cx}{a st:Expr}{ga:GE}{pos p2:Pos}
def yb (m:Bool)(x:D)(M:Mem):Res D:=match x with
 |.tup xs=>.ok (.tup xs.reverse) M
 | x=>match ez M x with
   |some xs=>bc m xs.reverse M
   |none=>.bad
def qQ (m:Bool)(a:GE):GE:=λh M=>(a h M).bind λx M=>yb m x M
def Lf (K:RG):V->Hp->VK->Prop:=λx H Q=>∃a xs,x=.ref a/\((cQ K H a xs/\∀p,H p=none->Q (.ref p) (upd H p (.lst xs.reverse)))\/(du K H a xs/\∀p,H p=none->Q (.ref p) (upd H p (.tup xs.reverse))))
noncomputable def oq:∀{xs:List V}{us:List RJ},Vals xs us->Vals xs.reverse us.reverse
 |_,_,.nil=>.nil
 | _,_,.cons p r=>by
   rw[List.reverse_cons,List.reverse_cons];show(oq r).append (.cons p .nil)
def Lx (ha:PE X a ta)(R:PE X st ts) :
 PE X (.Subscript a (.Slice none none (some st) p2) pos) (λJ H Q=>ta J H λx P=>ts J P λy Y=>y=.int (-1)/\Lf X.K x Y Q):=by
 intro j s J H Q I h;show Subscript_ (aT (ha j s J H _ I h) λv s1 ⟨x,P,I1,r1,q1⟩=>?_);show wpAny_Slice ?_;rw[evalPart_none];show tqb ?_;show tqb ?_;rw[evalPart_some];show aT (R j s1 J P _ I1 q1) ?_;rintro vu u ⟨y,H3,I3,r3,ey,q3⟩;subst ey;obtain(k|rfl):=r3;have L:Inv X j J H3 {u with heap:=u.heap.push {cls:=.type "slice",data:=.fields #[.none,.none,.int (-1) k]}}:=I3.kept λb ob q=>RI _ q
 have M:(u.heap.push {cls:=.type "slice",data:=.fields #[.none,.none,.int (-1) k]}).IsSliceOf u.heap.objs.size .none .none (.int (-1) k):=Heap.IsSliceOf.new ..;obtain(b|xs|rfl|q):=q3;cases r1;have W:∃T id,typeLookup (.type T) "__getitem__"=pure (some (.builtin id))/\Shared.TypeIs {u with heap:=u.heap.push {cls:=.type "slice",data:=.fields #[.none,.none,.int (-1) k]}} (.ref b) T/\wpAny (model X.prog X.w) X.A (getItem (.ref b) (.ref u.heap.objs.size)) (EP X j J Q) X.xe {u with heap:=u.heap.push {cls:=.type "slice",data:=.fields #[.none,.none,.int (-1) k]}}:=by
  rcases q with⟨S,q⟩|⟨S,q⟩
  .obtain(U|r|F|O):=L.list S;have B:=r.length;show{"list",_,slot_list_getitem.lookup,F.isList.typeIs,?_};show wpAny_getItem_list_slice F.isList M .none .none (.int (-1) k) `d ?_ (by rw[RW]<;>omega)
   rw[sH];show{.ref _,_,L.laid (λb ob q=>RI _ q) (RN _) ?_,rfl,q _ (L.hok.fresh (RN _))};show{~~~O,_,0,oq r,RX _ rfl}
  .obtain(U|r|F|O):=L.tuple S;have B:=r.length;show{"tuple",_,SA.lookup,F.typeIs,?_};show nW F M ?_ (by rw[RW,<- B];show O)
   show{.ref _,_,L.laid (λb ob q=>RI _ q) (RN _) ?_,rfl,q _ (L.hok.fresh (RN _))};show{~~~O,_,oq r,IsTup.new _ _}
 obtain(T|id|hT|F|hg):=W;show tail_any F hT hg (by with_unfolding_all rfl)
def Oi (m:Bool)(U:DE fa X a ga):DE fa X (.Subscript a (.Slice none none (some (.UnaryOp .USub (.Constant (.int 1) k pc) pu)) p2) pos) (qQ m ga):=
 bF (Lx U (FK zD AK)) λY H Q ⟨L,W,M,O,S,h⟩=>t1 O S h λx F v B I J P y r1 h1=>by
  show{1,rfl,rfl,?_};have lst:∀(u:List D) (b:Addr) (j:List V),cQ X.K B b j->aH fa X.K I B u j->ae (bc m u.reverse F) (aY fa X.K L H Q)->Lf X.K (.ref b) B Q:=λu b j hs hr h1=>by
   obtain(_|q):=eW y hr.reverse (jI h1 J);show{b,j,rfl,.inl ⟨hs,q⟩}
  cases x with
  | tup u=>
    obtain(b|j|rfl|hs|hr):=r1;show{b,j,rfl,.inr {hs,f5 y hr.reverse (aY.ext h1 J)}}
  | lst u=>
    obtain(b|j|rfl|hs|hr):=r1;show lst u b j (cQ.of hs.1) hr h1
  | frz u=>
    obtain(b|j|rfl|hs|hr):=r1;show lst u b j (hs.elim ((by rintro⟨o,z⟩;show .inl (.inr ⟨o,z⟩))) .inr) hr h1
  | cell k=>
    obtain(b|rfl|hk):=r1;obtain(u|j|e|R|hr):=y.mu_lt hk;have h1:ae (match F[k]? with|some xs=>bc m xs.reverse F|none=>.bad) (aY fa X.K L H Q):=h1
    rw[e] at h1;show lst u b j (cQ.of R) hr h1
  |_=>show h1.elim
def Em (a:GE):GE:=λh M=>(a h M).bind λx M=>match x with
 |.int i=>.ok (.int i) M
 |.bl k=>.ok (.int (if k then 1 else 0)) M
 |_=>.bad
def K5 (L:DE fa X a ga)(O:Gl X "int")(hm:X.mg "int"=none)(he:starEach [a] X.env=(false,eval a X.env)::starEach [] X.env):DE fa X (.Call (.Name "int" p) [a] [] pos) (Em ga):=
 bF (my BM O hm `k (bS L cy he) `d `d he `r) λU H Q ⟨R,S,M,F,J,h⟩=>t1 F J h λx P v y u B I j r1 h1=>by
  cases x with
  |int i=>obtain rfl:v=.int i:=r1;show .inl {i,rfl,h1 _ y u B j rfl}
  |bl k=>obtain rfl:v=.bl k:=r1;show .inr {k,rfl,h1 _ y u B j rfl}
  |_=>show h1.elim
end
def mm {fa:Fa}{mg:Str->Option RJ}(e:fa i=some f)(m:mg x=some (.ref f)):∀ad,fa i=some ad->mg x=some (.ref ad):=λad h=>by rw[e] at h;cases h;show m
def PD {j:Type}{p:List j->Prop}(h:∀a,p [a])(us:List j)(hl:us.length=1):p us:=by
 obtain(a|rfl):=List.length_eq_one_iff.mp hl;show h a
def PC {j:Type}{p:List j->Prop}(h:∀a b,p [a,b]):∀(us:List j) (hl:us.length=2),p us
 |[a,b],_=>h a b
def us3 {j:Type}{p:List j->Prop}(h:∀a b c,p [a,b,c]):∀(us:List j) (hl:us.length=3),p us
 |[a,b,c],_=>h a b c
def us4 {j:Type}{p:List j->Prop}(h:∀a b c d,p [a,b,c,d]):∀(us:List j) (hl:us.length=4),p us
 |[a,b,c,d],_=>h a b c d
def Bi:Tz (pq P) [] []:=.nil
def gp (h:Tz (pq P) es kvs):Tz (pq P) ({PyData.keyHash P x,.str x t,.ref a}::es) ((x,a)::kvs):=.cons ⟨t,rfl⟩ h
def FC (K:RG):Sp:=λj H Q _=>∃(a:Addr) (ns:List Int),j=[.ref a]/\cQ K H a (ns.map V.int)/\ze H/\ns.length<=63/\∀h,Q (.bl true) h
def Mi {K:RG}{ad:Addr}{st:Stmt}(h:∀f d,Pg f=some d->zm fa P w K mg base f d)
 (hl:∀ns:List Int,ns.length<=63->∃M,ag Pg (n+1) f [.frz (ns.map D.int)] []=.ok (.bl true) M) (e:Pg f=some d) (F:xO K x qual st ad fd) (S:ji N [y] (bh st)) (hs:d.slots=N.length)
 (u:∀(call:Call) (n:Nat) (j:RJ) (A:Ti) (outer:List Tu) (s:RO) (H:Hp) (E:XK),(∀f,g7 fa P w K mg base n f (call f))->c9 (2*n+5) (A.deeper (envOfC qual (bh st) s.heap.objs.size ad j))->
  la fa (gi (iR P w) P w K mg base N qual (bh st) ad j A outer s H E) (cW st) (d.body call)):lZ P w K mg base (iR P w) (2*n+5+1) ad fd [y] (FC K):=by
 have eq:∀I M,ag Pg (n+1) f I M=f7 (ag Pg n) d I M:=λI M=>by change(match Pg f with|none=>Res.bad|some d=>f7 (ag Pg n) d I M)=_;rw[e]
 show xg (xO.toD F) S (λU H Q E B=>?_) λj A outer s H U Q E hr B=>{_,u (ag Pg n) n j A outer s H E (vh h n) hr,?_}
 .obtain(a|ns|rfl|_):=B;rfl
 .obtain(a|ns|rfl|R|O|hn|q):=B;obtain(Y|J):=hl ns hn;rw[eq] at J;have rp:aH fa K {λ_=>none,[],λ_=>none} H [.frz (ns.map D.int)] [.ref a]:=by
   show{.ref a,[],rfl,{a,ns.map V.int,rfl,?_,aH.ints ns},rfl};rcases R with(z|⟨o,z⟩)|z
   .rcases O a with y|⟨o,xs,y⟩
    .rw[y] at z;cases z
    .rw[y] at z;cases z
   .exact .inl ⟨o,z⟩
   .exact .inr z
  show si (μ:={λ_=>none,[],λ_=>none}) (M:=[]) hs {λk I z=>by simp at z,λ_ _=>rfl,λ_ _=>rfl,(λ_ _ _ z=>nomatch z),(λ_ _ _ z=>nomatch z),(λ_ _ z=>nomatch z),(λ_ z=>nomatch z)} rp ?_
  rw[J];intro v L X _ _ r;obtain rfl:v=.bl true:=r;show q L
def wR {K:RG}{ad:Addr}(X:K.In h)(G:h.Ns mainGlobals mg)(a:PySem.W.nsIn K mainGlobals x=some (some (.ref ad)))
 (l:K.lookup ad=some {cls:=.type "dict",data:=.dict es n}) (he:Tz (pq P) es.toList j) (nd:(j.map (·.1)).Nodup) (ns:(ad==sysModules)=false) (dk:ec fa j fs):∃ad j,mg x=some (.ref ad)/\fA K P ad j/\ec fa j fs:=
 {ad,j,TF X G a,{⟨es,n,l,he⟩,nd,ns},dk}
def Ag (lo hi:Option Int)(n:Nat):Builtin.Str.strSliceIndices lo hi 1 n=(List.range (HT.aL n n hi-HT.aL n 0 lo)).map (HT.aL n 0 lo+·):=by
 rw[<- sliceRange_one];unfold Builtin.Str.strSliceIndices;dsimp[show(1:Int) > 0 by decide,if_true]
 congr 1
 .cases lo with
  |none=>rfl
  | some i=>
    dsimp[HT.aL];split<;>omega
 .cases hi with
  |none=>rfl
  | some i=>
    dsimp[HT.aL];split<;>omega
def iL (z:Str)(l h:Nat):Str:={(cut z.cps.toList l h).toArray}
section
variable{fa:Fa}{X:Cx}{a b:Expr}{ga gb:GE}{pos p2:Pos}{tg:Expr}
def ui (h:IsPart v o):∃p:Option (Int×Tok),v=partValue p/\p.map (·.1)=o:=by
 cases h with
 |none=>show⟨none,rfl,rfl⟩
 |int i t=>show{some (i,t),rfl,rfl}
set_option tactic.hygienic true in
def Kw:l5 X (λx lo hi H Q=>∃z:Str,x=.str z/\z.cps.size<=sizeLine/\Q (.str (iL z (HT.aL z.cps.size 0 lo) (HT.aL z.cps.size z.cps.size hi))) H):=by
 intro F s S H x v P R lo hi sl Q I J hs pl pu h;obtain(z|rfl|O|q):=h;obtain(t|rfl):=J;obtain(l|rfl|B):=ui pl;obtain(u|rfl|E):=ui pu;show{"str",_,slot_str_getitem.lookup,typeIs_str s z t,?_};show wpAny_getItem_str_slice (st:=none) hs rfl ?_;have e:(slicePicked z l u none).filterMap (z.cps[·]?)=cut z.cps.toList (HT.aL z.cps.size 0 lo) (HT.aL z.cps.size z.cps.size hi):=by
  unfold slicePicked;rw[B,E];change(Builtin.Str.strSliceIndices lo hi 1 z.cps.size).filterMap _=_;rw[Ag,pick_run];rfl
 unfold sliceMade;split
 .next c=>
  have j:(slicePicked z l u none).length=z.length:=by simpa using c
  have e2:iL z (HT.aL z.cps.size 0 lo) (HT.aL z.cps.size z.cps.size hi)=z:=by
   have hl:HT.aL z.cps.size z.cps.size hi-HT.aL z.cps.size 0 lo=z.cps.size:=by
    unfold slicePicked at j;rw[B,E] at j;have j:(Builtin.Str.strSliceIndices lo hi 1 z.cps.size).length=z.cps.size:=j;rw[Ag] at j;simpa using j
   have M:HT.aL z.cps.size z.cps.size hi<=z.cps.size:=by
    cases hi with
    |none=>show RN _
    |some i=>dsimp[HT.aL];split<;>omega
   have y:HT.aL z.cps.size 0 lo=0\/z.cps.size=0:=`a
   unfold iL cut;rw[hl];rcases y with y|y
   .rw[y];rcases z with⟨L⟩
    rw[List.drop_zero,S8 `s]
   .have:z.cps=#[]:=Array.eq_empty_of_size_eq_zero y;rcases z with⟨L⟩
    simp at this;subst this;simp
  rw[e2] at q;show{.str z,H,I,⟨t,rfl⟩,q}
 .rw[e];show{?_,.str _,H,I.tok _,{_,rfl},q};have:(cut z.cps.toList (HT.aL z.cps.size 0 lo) (HT.aL z.cps.size z.cps.size hi)).length<=z.cps.size:=by
   unfold cut;rw[SJ,TY];simp;omega
  change(cut z.cps.toList _ _).toArray.size<=sizeLine;simp at this ⊢;omega
def nF (hl hh:Bool)(a lo hi:GE):GE:=λj M=>(a j M).bind λx M=>(lo j M).bind λl M=>(hi j M).bind λh M=>if cq hl l&&cq hh h then(match x with
 | .str z=>if z.cps.size <= sz then(match aL z.cps.size 0 l,aL z.cps.size z.cps.size h with
   |some l,some h=>.ok (.str (iL z l h)) M
   |_,_=>.bad) else .bad
 |_=>.bad) else .bad
set_option tactic.hygienic true in
def K0 (hl hh:Bool){lo hi:Option Expr}(ha:DE fa X a ga)(I:DO fa X lo hl gl)(F:DO fa X hi hh gh):DE fa X (.Subscript a (.Slice lo hi none p2) pos) (nF hl hh ga gl gh):=
 bF (ug Kw ha I F) λσ H Q ⟨μ,S,M,hE,hM,h⟩=>t1 hE hM h λx U v H1 J x1 j y r1 h1=>by
  obtain(l|W|e2|h2):=aI h1;obtain(u|M3|Y|h3):=aI h2;split at h3
  .next c=>
   rw[RM] at c;obtain(ol|O):=part_of c.1;obtain(ou|P):=part_of c.2;show{J,S,U,j,y,?_};rw[e2];show{ol,c.1,O,λH2 L R B=>{L,S,W,j.ext R,B,?_}};rw[Y];show{ou,c.2,P,λH3 μ3 x3 E=>?_};cases x with
   | str z=>
     obtain rfl:v=.str z:=r1;dsimp only at h3;split at h3
     .next hz=>
      dsimp[oA,O,P,Option.map_some] at h3;show{z,rfl,by rw[<- dr];show hz,aO E (aY.ext h3 ((x1.trans R).trans x3)) rfl}
     .exact h3.elim
   |_=>show h3.elim
  .exact h3.elim
def signs (z:Str):List D:=z.cps.toList.map λc=>.str {#[c]}
def NS (z:Str):It:={λi _=>i<z.cps.size,λi H x h=>h=H/\∃c,z.cps[i]?=some c/\x=.str {#[c]},λi _=>z.cps.size<=i}
def tD {K:RG}(hn:["enumerate","zip","dict_itemiterator","dict_reverseitemiterator","odict_iterator","itertools.zip_longest","itertools.pairwise"].contains n=false)(j:Addr)(z:Str)(t:Tok)
 (W:∀A':Ti,A'.handled=none->Walks P w A' j [j] [j] z.cps.size (SignAt z) (λi h=>h.IsStrIter j n z t i))
 (S:∀(A:Ti) (i:Nat) (s:RO) (Q:RJ->RO->Prop) (E:RJ->RO->Prop),s.heap.IsStrIter j n z t i->Q (.ref j) s->wpAny (model P w) A (pyIter (.ref j)) Q E s)
 (D:∀(A:Ti) (hh:A.handled=none) (i:Nat) (s:RO) (Q:Option RJ->RO->Prop) (E:RJ->RO->Prop),s.heap.IsStrIter j n z t i->z.cps.size<=i->(∀F,(∀b o,b≠j->s.heap.get? b=some o->F.get? b=some o)->Q none {s with heap:=F})->wpAny (model P w) A (pyNext (.ref j)) Q E s) :
 Turn P w K tg (NS z) [j] j (λi h=>h.IsStrIter j n z t i) where
 mem:=`s
 obj:=λi h st b B=>by
  have e:b=j:=by simpa using B
  subst e;obtain(o|e|c|d):=st;show{o,e,λv z=>by rw[d] at z;cases z}
 keep:=λi h F st k=>let⟨o,e,r⟩:=st;{o,k j `s o e,r}
 item:=by
  intro X Y hw U hc i y s σ H E I hf st hg;subst Y hw U;obtain(L|f1|f2|M|O|R):=hf j `s
  show(W X.A (I.ok.hd hc)).item i s _ _ hg st λv F tk hv J kk=>?_;obtain(c|u|hc'|rfl):=hv;have I1:Inv X y σ H {s with heap:=F,toks:=tk}:=I.turned (λb o B e=>kk b o (~~~B) e) L f1 M O R
  obtain(o|e|co|d):=id J;show{_,rfl,pX e co d hn {.str {#[c]},H,I1,⟨u,rfl⟩,⟨rfl,c,hc',rfl⟩,J,λb B=>(hf b B).1}}
 done:=by
  intro X Y hw U hc i y s σ H E I hf st hg;subst Y hw U;obtain(L|f1|f2|M|O|R):=hf j `s
  show D X.A (I.ok.hd hc) i s _ _ st hg λF eb=>{rfl,I.turned (λb o B e=>eb b o B e) L f1 M O R}
 self:=λA i s Q E st h=>S A i s Q E st h
def Lu {l:Expr}{tl:TE}(hl:PE X l tl):PI X tg l (λF H R=>tl F H λx u=>∃z,x=.str z/\R (NS z) u):=by
 intro j s F H R I h;show aT (hl j s F H _ I h) ?_;rintro v s1 ⟨x,u,y,r1,S⟩;obtain(z|rfl|q):=S;obtain(t|rfl):=r1;have J:∀b∈[s1.heap.objs.size],eO X j u b:=λb O=>by
  have e:b=s1.heap.objs.size:=by simpa using O
  subst e;show y.fpOk (RN _) (y.hok.fresh (RN _))
 cases L:z.cps.all (· < 128)
 .refine wpAny_pyIter_wide L ?_;show{s1.heap.objs.size,[s1.heap.objs.size],_,_,u,rfl,y.kept λb o e=>RI _ e,tD rfl _ z t (λM h=>Walks.strWide h _ z t) (λA i s Q E st h=>wpAny_pyIter_striter_wide st h) (λA B i s Q E st P k=>wpAny_pyNext_wide_end B st `o k),{_,RX _ rfl,rfl,rfl},J,q}
 .refine wpAny_pyIter_ascii L ?_;show{s1.heap.objs.size,[s1.heap.objs.size],_,_,u,rfl,y.kept λb o e=>RI _ e,tD rfl _ z t (λM h=>Walks.strAscii h _ z t) (λA i s Q E st h=>wpAny_pyIter_striter_ascii st h) (λA B i s Q E st P k=>wpAny_pyNext_ascii_end B st `o k),{_,RX _ rfl,rfl,rfl},J,q}
def pY (ga:GE):Env->Mem->Res Walk:=λh M=>(ga h M).bind λx M=>match x with
 |.str z=>.ok (λ_=>some (signs z)) M
 |_=>.bad
def Cf (z:Str):c7 fa X.K μ0 H0 (λ_=>some (signs z)) (NS z):=λJ H M I x v e=>by
 cases e;show{λi d hd=>?_,λi B=>(show z.cps.size<=i by simpa[signs] using B)}
 unfold signs at hd;rw[Sh] at hd;cases e:z.cps.toList[i]? with
 |none=>rw[e] at hd;cases hd
 | some c=>
   rw[e] at hd;have j:=RQ hd;subst j;have e2:z.cps[i]?=some c:=by simpa using e
   show{(SM.mp e2).1,λy E ⟨e1,F,h,u⟩=>?_};rw[e2] at h;cases h;subst e1 u;show{.refl,v,rfl}
def Jt (F:DE fa X a ga):DI fa X tg a (pY ga):=λj s Q H R I ⟨O,P,M,B,E,h⟩=>by
 obtain(x|S|e|q):=aI h;show Lu F j s Q H R I {O,P,M,B,E,?_};rw[e];intro v y u L J r1;cases x with
 | str z=>
   obtain rfl:v=.str z:=r1;show{z,rfl,q _ y u L J (Cf z)}
 |_=>show q.elim
end
end LD
namespace LD
open PySem PySem.Spec PySem.Calls PyProof.Rows PySem.W
section
variable{prog:Sx}{w:Sr}{A:Ti}{E:RJ->RO->Prop}{s:RO}{K:Frag}{x C:Addr}{ox:Obj}{od:Option Obj}{name:Str}
noncomputable def lg (K:Frag)(C:Addr):Bool:=findIn K (.ref C) "__getattribute__"==some (some (.builtin "BaseException.__getattribute__"))&&findIn K (.ref C) "__getattr__"==some none&&mroIn K C (.type "BaseException")==some true&&mroIn K C (.type "object")==some true &&
 findIn K (.ref C) "__class__"==some (some (.builtin "object.__class__"))&&specialIn K (.builtin "object.__class__") "__get__"==some (some (.builtin "getset_descriptor.__get__"))&&takesIn K (.builtin "object.__class__")==some true
def Q6 (prog:Sx)(w:Sr)(A:Ti)(x C:Addr)(Q:RJ->RO->Prop)(E:RJ->RO->Prop)(s:RO):Builtin.ObjectAttr.Found->Prop
 |.value v=>wpAny (model prog w) A (handedOut v) Q E s
 |.bind g a=>wpAny (model prog w) A.in1 (call g [a,.ref x,.ref C]) (λv h=>wpAny (model prog w) A (handedOut v) Q E h) (λ_ _=>False) s
 |.missing=>False
def Jc {u j:Bool}(X:K.In s.heap)(I:InstAt s.heap x ox C od)(B:lg K C=true)(hf:findObj K C od name=some r)
 (h:Q6 prog w A x C Q E s r) :
 wpAny (model prog w) A (getAttrBy (.ref x) (.str name tk) u j) Q E s:=by
 unfold lg at B;dsimp[RM,beq_iff_eq] at B;obtain((((((H|J)|L)|Y)|_)|_)|_):=B;obtain(hh|g|d|t|os):=s;have P:=I.type (M:=model prog w);have R:=looks_findIn (M:=model prog w) X H;have S:=looks_findIn (M:=model prog w) X J;have U:=looks_find (M:=model prog w) X I hf;have W:=looks_mroIn (M:=model prog w) X L;have O:(Value.builtin "BaseException.__getattribute__"==Value.builtin "object.__getattribute__")=false:=`k
 have hk:builtinKind "BaseException.__getattribute__"=some .slot:=`k
 have y:splitId "BaseException.__getattribute__"=some ("BaseException","__getattribute__"):=`k
 show tqo (tqa (P.at (tqa (R.at ?_))));change wpAny _ _ (if (true&&Value.builtin "BaseException.__getattribute__"==Value.builtin "object.__getattribute__")=true then _ else _) _ _ _;rw[O,if_neg `d]
 show tqa (S.at (tqa (wpAny_attempt (tqo ?_))));unfold callGetattribute;rw[if_neg (by cases j<;>decide)]
 show tqa (wpAny_of_eq (PySem.F.excAttr_ValueError.ga.bind (.ref x)) ?_);show wpAny_call (codeAny_call_builtin PySem.F.excAttr_ValueError.ga.plain F.entry_bexc_ga ?_);show tqa (tqa (P.at (W.at ?_)))
 repeat (any_goals (first|assumption|wp_step))
 show wpAny_loadPart_at I.at_ (tqb ?_);rw[I.cls];show tqa (U.at ?_);cases r with
 |value v=>show tqb h
 | bind g a=>
   show tqa (tqo (wpAny_mono h (λv s' z=>tqb z) λ_ _ z=>z.elim))
 |missing=>show h.elim
def Bv {Q:Option RJ->RO->Prop}(X:K.In s.heap)(I:InstAt s.heap x ox C od)(v:lg K C=true)(h:Q (some (.ref C)) {s with toks:=s.toks+1}):wpAny (model prog w) A (getAttr? (.ref x) "__class__") Q E s:=by
 have j:=v;unfold lg at j;dsimp[RM,beq_iff_eq] at j;obtain((((((_|_)|_)|hm)|y)|hn)|u):=j;have hf:findObj K C od "__class__"=some (.bind (.builtin "getset_descriptor.__get__") (.builtin "object.__class__")):=by
  obtain(F|B|_):=Sf.mp hm;unfold findObj;rw[B,T8,y,T8];simp[hn,u]
 show tqa (wpAny_mkText (tqa (wpAny_attempt (Jc X I v hf ?_))));show wpAny_call (class_get X I hm (handed_on rfl (tqb h)))
set_option tactic.hygienic true in
def Ja (X:K.In s.heap)(I:InstAt s.heap x ox C od)(O:lg K C=true)(B:∀(M:Model) u,K.In u->Looks M u (typeOf c) (.type "type"))(y:∀(M:Model) u,K.In u->Looks M u (isType c) true)
 (J:(Value.ref C==c)=false) (j:∀(M:Model) u,K.In u->Looks M u (isSubtype (.ref C) c) false) (h:Q (.bool false) {s with toks:=s.toks+1}):wpAny (model prog w) A (call (.builtin "isinstance") [.ref x,c]) Q E s:=by
 show call_isinstance_of ?_ (by intro q;cases q)
 have F:Looks (model prog w) s.heap (isType (.ref C)) true:=by
  have v:=O;unfold lg at v;dsimp[RM,beq_iff_eq] at v;obtain(cd|H|_):=Sf.mp v.1.1.1.2;unfold clsIn at H;split at H
  .rename_i c' d' R U ho;intro W Q' Y s' k q;show tqa (wpAny_loadPart (k _ _ (X _ _ ho)) (tqb q))
  .cases H
 have B:=B (model prog w) s.heap X;have y:=y (model prog w) s.heap X;have j:=j (model prog w) s.heap X;obtain(S|g|d|tt|os):=s;have L:=I.type (M:=model prog w);have P:Looks (model prog w) S (isInstance (.ref x) c) false:=L.andThen j;show tqa (L.at ?_);rw[if_neg (λq=>by rw[J] at q;show Bool.noConfusion q)]
 show tqa (B.at ?_);rw[if_pos `d]
 k_delta "plainIsInstance"
 show tqa (tqa (y.at ?_));show tqa (P.at ?_);show tqa (Bv X I O ?_);show tqa (F.at ?_);show tqa (wpAny_rule ?_);show j.at ?_;show tqb h
set_option tactic.hygienic true in
def Es {D:Addr}(X:K.In s.heap)(I:InstAt s.heap x ox C od)(F:lg K C=true)(e:kin_not K C D=true)(h:Q (.bool false) {s with toks:=s.toks+1}):wpAny (model prog w) A (call (.builtin "isinstance") [.ref x,.ref D]) Q E s:=by
 unfold kin_not at e;rw[RM,RM,RM] at e;obtain(((y|e1)|e2)|B):=e;show Ja X I F (λ_ u j=>looks_typeIn j (beq_iff_eq.mp e2)) (λ_ u j=>?_) ?_ (λ_ u j=>looks_subIn j (beq_iff_eq.mp B)) h
 .unfold clsIn at e1;split at e1
  .rename_i O P v H ho;intro J M L R k q;show tqa (wpAny_loadPart (k _ _ (j _ _ ho)) (tqb q))
  .cases e1
 .exact Bool.eq_false_iff.mpr λq=>of_decide_eq_true y (Value.ref.inj (beq_iff_eq.mp q))
set_option tactic.hygienic true in
def DJ {D:Addr}(X:K.In s.heap)(e1:(clsIn K D).isSome=true)(e2:typeIn K (.ref D)=some (.type "type"))(h:Q (.bool false) {s with toks:=s.toks+1}):wpAny (model prog w) A (call (.builtin "isinstance") [.none,.ref D]) Q E s:=by
 show call_isinstance_of ?_ (by intro q;cases q)
 have v:=looks_typeIn (M:=model prog w) X e2;have j:=looks_subIn (M:=model prog w) (r:=false) X (show subIn K (.type "NoneType") (.ref D)=some false by rfl)
 have u:Looks (model prog w) s.heap (isType (.ref D)) true:=by
  unfold clsIn at e1;split at e1
  .rename_i J L y B ho;intro F I H P k q;show tqa (wpAny_loadPart (k _ _ (X _ _ ho)) (tqb q))
  .cases e1
 obtain(O|g|d|R|os):=s;show tqa (wpAny_of_eq rfl ?_);rw[if_neg (by intro q;cases beq_iff_eq.mp q)]
 show tqa (v.at ?_);rw[if_pos `d]
 k_delta "plainIsInstance"
 show tqa (tqa (u.at ?_));show tqa (tqa (wpAny_of_eq rfl (j.at ?_)));show tqa (class_attr_none ?_);show tqa (wpAny_of_eq rfl ?_);show tqa (wpAny_rule ?_);show j.at ?_;show tqb h
def Jb (X:K.In s.heap)(I:InstAt s.heap x ox C od)(j:typeOf (.type T)=pure (.type "type"))(hm:mroIn K C (.type T)=some true)(h:Q (.bool true) s):wpAny (model prog w) A (call (.builtin "isinstance") [.ref x,.type T]) Q E s:=by
 show call_isinstance_of ?_ (by intro q;cases q)
 have v:=looks_mroIn (M:=model prog w) X hm;obtain(B|g|d|F|os):=s;have u:=I.type (M:=model prog w);have y:Looks (model prog w) B (isInstance (.ref x) (.type T)) true:=u.andThen v;show tqa (u.at ?_);rw[if_neg (by intro q;cases beq_iff_eq.mp q)]
 show tqa (wpAny_of_eq j ?_);rw[if_pos `d]
 k_delta "plainIsInstance"
 show tqa (tqa (wpAny_of_eq rfl ?_));show tqa (y.at ?_);show tqb (tqb h)
end
end LD
namespace LD
open PySem PySem.Spec PyProof.Rows L2
noncomputable def bK (f:Nat)(c:Call)(s:GA):GE:=λj M=>match s j M with
 |.ok h M=>c f h M
 |_=>.bad
noncomputable def tB (k:D->Mem->Res Fl)(Z:Env):Res D->Res Fl
 |.ok d M=>k d M
 |.err x M=>.ok (.exc x Z) M
 |.bad=>.bad
def d4 (a:GE):GS:=λh M=>tB (λ_ M=>.ok (.next h) M) h (a h M)
def fi (t:fR)(a:GE):GS:=λh M=>tB (λx M=>(cj M (b7 t x h)).bind λj M=>.ok (.next j) M) h (a h M)
def xZ (a:GE):GS:=λh M=>tB (λx M=>.ok (.ret x) M) h (a h M)
noncomputable def yH (t:GT)(a b:GE):GE:=λh M=>match t h M with
 |.ok k M=>if k then a h M else b h M
 |_=>.bad
noncomputable def fM (c:Nat)(s:GA):GS:=λh M=>match s h M with
 |.ok j M=>if j.length<=sz then .ok (.exc (.exc c none) h) M else .bad
 |_=>.bad
def dm (o:Option Nat)(a:GE):GE:=λh M=>(a h M).bind λx M=>match x,o with
 |.exc c _,_=>.ok (.bl (match o with|some k=>k==c|none=>true)) M
 |.non,some _=>.ok (.bl false) M
 |_,_=>.bad
noncomputable def JZ (i:Nat):Fl->Mem->Res Fl
 |.next h,M=>.ok (.next (h.set i none)) M
 |.ret d,M=>.ok (.ret d) M
 |.exc _ _,_=>.bad
def Qh (i:Nat)(h:GS):Fl->Mem->Res Fl
 |.exc x j,M=>(h (j.set i (some x)) M).bind (JZ i)
 |fl,M=>.ok fl M
def t5 (b:GS)(i:Nat)(h:GS):GS:=λj M=>(b j M).bind (Qh i h)
def PM (fa:Fa)(X:Cx)(g:GE):TE:=λv H Q=>∃h j M,bz fa X.K h H v j/\RelM fa X.K h H M/\eP (g j M) (aY fa X.K h H Q) (λx u=>XW fa X h H x j u)
abbrev DX (fa:Fa)(X:Cx)(e:Expr)(g:GE):Prop:=PE X e (PM fa X g)
section
variable{fa:Fa}{X:Cx}{a b:Expr}{ga gb:GE}{ta:GT}{pos p:Pos}{es:List Expr}{gs:GA}{n:Nat}
def x_call (f:Nat){call:Call}(C:∀f,g7 fa X.prog X.w X.K X.mg X.base n f (call f))(hr:c9 (2*n+4) X.A)(hex:X.ex=[])(hg:Gl X x)(hm:∀ad,fa f=some ad->X.mg x=some (.ref ad))(hs:DA fa X (a::es) gs)
 (hdb:(x==("__debug__":Str))=false) (he:notStar a=true) (hpl:es.all notStar=true):DX fa X (.Call (.Name x p) (a::es) [] pos) (bK f call gs):=by
 rintro E s σ H Q I ⟨μ,Z,M,hE,hM,h⟩;unfold bK at h;cases eg:gs Z M with
 |err=>rw[eg] at h;show h.elim
 |bad=>rw[eg] at h;show h.elim
 | ok J S=>
   rw[eg] at h;have h:eP (call f J S) (aY fa X.K μ H Q) (λx R=>XW fa X μ H x Z R):=h;rcases C f with hb|⟨ad,fd,ps,h1,h2,h3,h4,F,_⟩
   .rw[hb] at h;show h.elim
   .have hl:J.length=ps.length:=by
     by_cases hl:J.length=ps.length
     .exact hl
     .rw[h4 J S hl] at h;show h.elim
    show wpAny_Call_Name_kw (jd I hg (hm ad h1) ?_ hdb);show PySem.W.callWith_K I.ok.mod.kin h2 (aT (hs pos E s σ H (λY B=>∃j,Ext μ H j B/\RelM fa X.K j B S/\aH fa X.K j B J Y) I {μ,Z,M,hE,hM,by rw[eg];show λY B j x1 m1 r1=>⟨j,x1,m1,r1⟩}) λus s1 ⟨Y,B,P,r,j,x1,m1,r1⟩=>{P.kIn,?_}) (bJ he) (dZ hpl)
    have hsp:FD fa X.K ps.length (call f) Y B Q λCv dx L=>∃y R v C' c p,Cv=.ref C'/\Ext j B v L/\RelM fa X.K v L R/\y=.exc c p/\fa (eJ c)=some C'/\vF L c dx p/\XW fa X μ H y Z R:=by
     show{by rw[r1.length];show hl,j,S,J,m1,r1,?_}
     cases U:call f J S with
     |ok d M2=>rw[U] at h;show aY.ext h x1
     |err y M2=>rw[U] at h;show λC dx c p L v y' m ex hc hn=>{_,M2,v,C,c,p,rfl,y',m,ex,hc,hn,h}
     |bad=>rw[U] at h;show h.elim
    have hl2:us.length=ps.length:=by rw[<- r.length,r1.length];show hl
    have hb:=h3 s1 us P.kIn (~~~hl2)
    rw[TM] at hb;show wpAny_call (codeAny_mono (F.run X.A X.stack s1 B {us,[]} us Y Q _ hr P.env0 hb r hsp) λr' s' O=>?_);cases r' with
    | error e=>
      unfold CR at O;obtain(a'|C'|dx|L|rfl|I'|fl|y|R|v|C2|c|p|U|ye|m'|ey|hc|hn|hw):=rT P hex O;cases U;show hw E σ L v s' a' C' dx c p I' (x1.trans ye) ((hE.ext x1).ext ye) m' ey hc hn fl
    | ok fl=>
      cases fl with
      |ret u=>show P.after O
      |next=>show False.elim O
      |brk=>show False.elim O
      |cont=>show False.elim O
def G8 (f:Nat){call:Call}(C:∀f,g7 fa X.prog X.w X.K X.mg X.base n f (call f))(hr:c9 (2*n+4) X.A)(hex:X.ex=[])(hg:Gl X x)(hm:∀ad,fa f=some ad->X.mg x=some (.ref ad))(hdf:(fa (500+f)).isSome=true)(hs:DE fa X a ga)
 (hdb:(x==("__debug__":Str))=false) (he:notStar a=true):DX fa X (.Call (.Name x p) [a] [] pos) (bK f call (a9 ga (a9 (gC .non) bb))):=by
 rintro J s σ H Q I ⟨μ,Z,M,hE,hM,h⟩;unfold bK at h;cases eg:ga Z M with
 |err=>unfold a9 at h;rw[eg] at h;show h.elim
 |bad=>unfold a9 at h;rw[eg] at h;show h.elim
 | ok O U=>
   unfold a9 at h;rw[eg] at h;have h:eP (call f [O,.non] U) (aY fa X.K μ H Q) (λx S=>XW fa X μ H x Z S):=h;rcases C f with hb|⟨ad,fd,ps,h1,h2,h3,h4,F,hbd⟩
   .rw[hb] at h;show h.elim
   .have hl:2=ps.length:=by
     by_cases hl:2=ps.length
     .exact hl
     .rw[h4 [O,.non] U hl] at h;show h.elim
    show wpAny_Call_Name_kw (jd I hg (hm ad h1) ?_ hdb);show PySem.W.callWith_K I.ok.mod.kin h2 (aT (bS hs cy (bJ he) pos J s σ H (λvs E=>∃v j,vs=[v]/\Ext μ H j E/\RelM fa X.K j E U/\Rep fa X.K j E O v) I {μ,Z,M,hE,hM,by rw[eg];show λv E j x1 m1 r1=>⟨v,j,rfl,x1,m1,r1⟩}) λus s1 ⟨vs,E,R,r,v0,j,ev,x1,m1,r0⟩=>{R.kIn,?_}) (bJ he) (dZ rfl)
    subst ev;have r1:aH fa X.K j E [O,.non] [v0,.non]:={v0,[.non],rfl,r0,.non,[],rfl,rfl,rfl};have hsp:FD fa X.K ps.length (call f) [v0,.non] E Q λCv dx L=>∃y S B C' c p,Cv=.ref C'/\Ext j E B L/\RelM fa X.K B L S/\y=.exc c p/\fa (eJ c)=some C'/\vF L c dx p/\XW fa X μ H y Z S:=by
     show{hl,j,U,[O,.non],m1,r1,?_};cases Y:call f [O,.non] U with
     |ok d M2=>rw[Y] at h;show aY.ext h x1
     |err y M2=>rw[Y] at h;show λC dx c p L B y' m ex hc hn=>{_,M2,B,C,c,p,rfl,y',m,ex,hc,hn,h}
     |bad=>rw[Y] at h;show h.elim
    have hl2:=r.length.symm;have hb:=hbd hdf s1 us R.kIn (by rw[Sa,hl2];show hl)
    obtain⟨u0,rfl⟩:∃u0,us=[u0]:=List.length_eq_one_iff.mp hl2;have r2:Vals [v0,.non] [u0,.none]:=by cases r with|cons a _=>show .cons a (.cons rfl .nil)
    show wpAny_call (codeAny_mono (F.run X.A X.stack s1 E {[u0],[]} [u0,.none] [v0,.non] Q _ hr R.env0 hb r2 hsp) λr' s' P=>?_);cases r' with
    | error e=>
      unfold CR at P;obtain(a'|C'|dx|L|rfl|I'|fl|y|S|B|C2|c|p|Y|ye|m'|ey|hc|hn|hw):=rT R hex P;cases Y;show hw J σ L B s' a' C' dx c p I' (x1.trans ye) ((hE.ext x1).ext ye) m' ey hc hn fl
    | ok fl=>
      cases fl with
      |ret u=>show R.after P
      |next=>show False.elim P
      |brk=>show False.elim P
      |cont=>show False.elim P
def N0 (U:DT fa X c ta)(R:DX fa X a ga)(S:DX fa X b gb):DX fa X (.IfExp c a b pos) (yH ta ga gb):=
 bF (uh U R S) λY H Q ⟨E,j,M,I,P,h⟩=>by
  unfold yH at h;cases u:ta j M with
  |err=>rw[u] at h;show h.elim
  |bad=>rw[u] at h;show h.elim
  | ok k v=>
    rw[u] at h;show{E,j,M,I,P,?_};rw[u];intro J F B W;have go:∀g:GE,eP (g j v) (aY fa X.K E H Q) (λx L=>XW fa X E H x j L)->PM fa X g Y J Q:=λg q=>by
     show{F,j,v,I.ext B,W,?_};cases e:g j v with
     |ok d O=>rw[e] at q;show aY.ext q B
     |err y O=>rw[e] at q;show XW.ext q B
     |bad=>rw[e] at q;show q
    cases k with
    |true=>show go ga h
    |false=>show go gb h
def Of (J:DX fa X a ga)(hs:swapsWith a none pos.line X.env=pure false):DS fa X (.Expr a pos) (d4 ga):=
 dz (nj J hs) λQ P H ⟨O,B,M,u,I,h⟩=>{O,B,M,u,I,by
  unfold d4 at h;cases e:ga B M with
  |ok d F=>rw[e] at h;show λv E j y L r1=>h P E j y (u.ext y) L
  |err x F=>rw[e] at h;show h
  |bad=>rw[e] at h;show h.elim}
def KN (S:DX fa X a ga)(U:PG X tg (gT fa X.K t))(hs:swapsWithSole [tg] a pos.line X.env=pure false)(W:swappedStores [tg] a X.env=pure none)(h1:(assignEach [tg] X.env).map (·.2)=[assign tg X.env]) :
 DS fa X (.Assign [tg] a pos) (fi t ga):=
 dz (pG S U hs W h1) λD σ H ⟨Y,y,M,J,R,h⟩=>{Y,y,M,J,R,by
  unfold fi at h;cases e:ga y M with
  | ok d Q=>
    rw[e] at h;obtain(F|M2|u|q):=aI h;cases B:b7 t d y with
    |none=>rw[B] at u;cases u
    | some ρ2=>
      rw[B] at u;cases u;show λv P j O L r1=>{j,y,_,d,F,J.ext O,L,r1,B,λI E=>q I P j O E L}
  |err x Q=>rw[e] at h;show h
  |bad=>rw[e] at h;show h.elim}
def KH (B:DX fa X a ga):DS fa X (.Return (some a) pos) (xZ ga):=
 dz (AB B) λF I H ⟨E,j,M,v,y,h⟩=>{E,j,M,v,y,by
  unfold xZ at h;cases e:ga j M with
  |ok d u=>rw[e] at h;show h
  |err x u=>rw[e] at h;show h
  |bad=>rw[e] at h;show h.elim}
end
noncomputable abbrev BN:List RJ:=[.type "ValueError",.type "Exception",.type "BaseException",.type "object"]
noncomputable def KA (K:RG)(C:Addr)(f:ClassData->Addr->List RJ->String->Bool):Bool:=match K.lookup C with
 | some {.type "type",_,.cls h,sl}=>(match h.mro,sl.toList with
   |.ref j::bm,[_,_,_,_,some (.builtin n),_]=>f h j bm n
   |_,_=>false)
 |_=>false
set_option tactic.hygienic true in
def Kz {K:RG}(X:K.In h)(q:KA K C f=true) :
 ∃u N nm q bs hdct sn sub ab col dd k0 k1 k2 k3 k5 dl n j,f {nm,bs,.ref j::u,N,q,hdct,sn,sub,ab,col,dl} j u n=true/\h.get? C=some {.type "type",dd,.cls {nm,bs,.ref j::u,N,q,hdct,sn,sub,ab,col,dl},#[k0,k1,k2,k3,some (.builtin n),k5]}:=by
 unfold KA at q;split at q
 .rename_i dd y sl ho;split at q
  .rename_i j u k0 k1 k2 k3 n k5 hm hs;obtain(nm|bs|B|ns|qn|hd|sn|sub|ab|col|del):=y;subst hm;have v:sl=#[k0,k1,k2,k3,some (.builtin n),k5]:=by
    obtain(l):=sl;dsimp at hs;rw[hs]
   subst v;show{_,_,_,_,_,_,_,_,_,_,_,_,_,_,_,_,_,_,_,q,X _ _ ho}
  .cases q
 .cases q
def Et {K:RG}(X:K.In h)(q:PySem.W.excIn K C bmB newId=true) :
 ∃j N nm q bs hdct sn sub ab col dd k0 k1 k2 k3 k5 v,h.get? C=some (excClassObj nm q C N bs j hdct sn sub ab col dd k0 k1 k2 k3 k5 newId)/\h.Ns N v/\v "__init__"=none/\OwnTail h bmB j:=by
 obtain(j|ns|nm|qn|bs|hd|sn|sub|ab|col|dd|k0|k1|k2|k3|k5|dl|n|B|q|ho):=Kz X q;dsimp[RM,beq_iff_eq,Um] at q;obtain(((((rfl|rfl)|rfl)|y)|hok)|u):=q;show{j,ns,nm,qn,bs,hd,sn,sub,ab,col,dd,k0,k1,k2,k3,k5,_,ho,.of_isNs (PySem.W.isNs_of_in X hok),PySem.W.nsMap_none_of_in X hok u,PySem.W.tail_of_in X y}
def AV (x:dY P w H h a o):∃ob,h.get? a=some ob:=by
 cases o with
 |lst xs=>obtain(_|_|_|_|e):=x;show{_,e}
 |tup xs=>obtain(_|_|_|ob|e|_):=x;show{_,e}
 |dK j=>obtain(_|_|_|_|o|_|_|e|_):=x;show{_,e}
 |dT j=>obtain(_|_|_|_|o|_|_|e|_):=x;show{_,e}
 |set S n=>obtain(o|_|_|_|e|_):=x;show{_,e}
 |ins C v fs=>obtain(_|_|_|e|_):=x;show{_,e}
 |own y=>show x
 |xd fs=>obtain(_|(_|_|_|e|_)|_):=x;show{_,e}
 |rng lo B=>obtain(_|_|_|e):=x;show{_,e}
 |frz ob u=>obtain(e|_):=x;show{_,e}
 |tbl ps=>show{_,x}
 |met f y=>show{_,x}
 |ext E=>obtain(_|e|_):=x;show e
 |dn es=>obtain(_|_|o|e|_):=x;show⟨o,e⟩
def uR (I:Inv X pins σ H s)(h:X.ex=[])(hn:s.heap.get? e=none):zf X e/\H e=none:=by
 show{{?_,λp v z=>?_},?_}
 .cases q:X.s₀.heap.get? e with
  |none=>rfl
  | some o=>
    obtain(y|j):=I.base.there e o q (by rw[h];simp)
    rw[hn] at j;cases j
 .have:=(I.pin p (S7 _ v)).1;rw[z,hn] at this;cases this
 .cases q:H e with
  |none=>rfl
  | some u=>
    obtain(ob|z):=AV (I.hok e u q);rw[hn] at z;cases z
section
variable{fa:Fa}{X:Cx}{a b:Expr}{ga gb:GE}{ta:GT}{pos p:Pos}{es:List Expr}{gs:GA}{n:Nat}
set_option tactic.hygienic true in
def HJ (c:Nat){x:Str}(hx:∃C,X.mg x=some (.ref C)/\fa (eJ c)=some C/\PySem.W.excIn X.K C BN "ValueError.__new__"=true)(O:X.ex=[])(hg:Gl X x)(hc:X.calm=true)(hs:DA fa X (a::es) gs)
 (L:(x==("__debug__":Str))=false) (he:notStar a=true) (U:es.all notStar=true):DS fa X (.Raise (some (.Call (.Name x np) (a::es) [] cpos)) none pos) (fM c gs):=by
 rintro u s σ H D' I ⟨μ,Z,M,hE,hM,h⟩;obtain(C|R|P|Q):=hx;obtain(bm|N|nm|q|bs|hdct|sn|sub|ab|col|dd|k0|k1|k2|k3|k5|mN|hC|hN|S|T):=Et I.ok.mod.kin Q;unfold fM at h;cases B:gs Z M with
 |err=>rw[B] at h;show h.elim
 |bad=>rw[B] at h;show h.elim
 | ok ds M1=>
   rw[B] at h;dsimp only at h;split at h
   .next hz=>
    show wpAny_Raise_call_subT (nm:=nm) (q:=q) (N:=N) (bs:=bs) (hdct:=hdct) (sn:=sn) (sub:=sub) (ab:=ab) (col:=col) (dd:=dd) (k0:=k0) (k1:=k1) (k2:=k2) (k3:=k3) (k5:=k5) PySem.F.excBase_ValueError (T.hasType `k) (I.ok.hd hc) (dZ (by simp[he,U])) S (jd I hg R {rfl,?_} L)
    have ar:=aT (hs cpos u s σ H (λvs v=>∃j,Ext μ H j v/\RelM fa X.K j v M1/\aH fa X.K j v ds vs) I {μ,Z,M,hE,hM,by rw[B];show λvs v j J Y r1=>⟨j,J,Y,r1⟩}) (Q':=λus s2=>([]:List (Str×RJ))=[]/\us.length<=sizeLine/\s2.heap.get? C=some (excClassObj nm q C N bs bm hdct sn sub ab col dd k0 k1 k2 k3 k5 "ValueError.__new__")/\s2.heap.Ns N mN/\OwnTail s2.heap BN bm/\∀E e,Heap.MadeExcOf s2.heap E e (.ref C) us->X.xe (.ref e) {s2 with heap:=E}) λus s1 ⟨vs,v,y,r,j,J,Y,r1⟩=>by
     show{rfl,?_,y.bk _ _ hC,hN.keeps y.bk,T.keeps y.bk,λE e hm=>?_}
     .rw[<- r.length,r1.length,<- dr];show hz
     .obtain(t|ht|_|_):=hm.there;obtain(n1|n2):=uR y O hm.new;show h u σ v j {s1 with heap:=E} e C none c none (y.kept hm.keeps) J (hE.ext J) Y rfl P rfl {n1,n2,_,_,ht,rfl,rfl,rfl,.inl rfl}
    rw[bJ he] at ar ⊢;show PySem.Calls.evalArgs_plain ar
   .exact h.elim
end
structure oj (fa:Fa) (K:RG):Prop where
 g:∀c C,fa (eJ c)=some C->lg K C=true/\PySem.W.mroIn K C (.type "ValueError")=some true/\PySem.W.isIn K (.ref C) C=true
 d:∀c C D,fa (eJ c)=some C->fa 999=some D->PySem.W.isIn K (.ref C) D=true/\PySem.W.mroIn K C (.ref D)=some true/\PySem.W.mroIn K D (.type "BaseException")=some true/\PySem.W.typeIn K (.ref D)=some (.type "type")
 n:∀c C c' C',fa (eJ c)=some C->fa (eJ c')=some C'->c'≠c->PySem.W.kin_not K C C'=true
 z:∀c C,fa (eJ c)=some C->(PySem.W.clsIn K C).isSome=true/\PySem.W.typeIn K (.ref C)=some (.type "type")
section
variable{fa:Fa}{X:Cx}{pins:List (Addr×Obj)}{σ:L2.St}{H:Hp}{s:RO}{μ:Mu}
def qM (I:Inv X pins σ H s)(r:Rep fa X.K μ H (.exc c p) v):∃a C u od,v=.ref a/\fa (eJ c)=some C/\PySem.W.InstAt s.heap a u C od:=by
 obtain(a|C|y|rfl|hf|j|hn):=r;obtain((o|L|h1|h2|h3|h4|F)|_|_):=I.hok a _ j;have h:PySem.W.notCls o=true:=by unfold PySem.W.notCls;rw[h4]
 cases p with
 | none=>
   show{a,C,o,none,rfl,hf,h1,h2,h,by rw[h3,hn];trivial}
 | some i=>
   obtain(d|rfl|hd):=hn;obtain(J|(od|E|B|e|_)|_):=I.hok d _ hd;show{a,C,o,some od,rfl,hf,h1,h2,h,by rw[h3];show e}
def pC (fa:Fa)(K:RG)(o:Option Nat)(w:V)(xs:List V)(H:Hp)(Q:VK):Prop:=(∃μ c p v,xs=[v,w]/\Rep fa K μ H (.exc c p) v/\Q (.bl (match o with|some k=>k==c|none=>true)) H)\/(o.isSome=true/\xs=[.non,w]/\Q (.bl false) H)
def IY (y:oj fa X.K){D:Addr}(j:fa (eJ k)=some D):cn X (.builtin "isinstance") (pC fa X.K (some k) (.ref D)):=by
 intro pins s σ H xs L Q I r h;obtain⟨μ,c,p,v,rfl,F,q⟩|⟨_,rfl,q⟩:=h
 case inr=>
  obtain(u|w|rfl|r1|r2):=vals2 r;obtain rfl:w=Value.ref D:=r2;obtain rfl:u=Value.none:=r1;show DJ I.kIn (y.z k D j).1 (y.z k D j).2 {.bl false,H,I.tok _,rfl,q}
 obtain(u|w|rfl|r1|r2):=vals2 r;obtain rfl:w=Value.ref D:=r2;obtain(a|C|J|od|rfl|hf|E):=qM I F;obtain rfl:u=Value.ref a:=r1;dsimp only at q;by_cases B:k=c
 .subst B;rw[j] at hf;cases hf;rw[beq_self_eq_true] at q;show PySem.W.isi_call I.kIn (λM=>E.type) (y.g k D j).2.2 (by intro z;cases z) {.bl true,H,I,rfl,q}
 .rw[Sw.mpr B] at q;show Es I.kIn E (y.g c C hf).1 (y.n c C k D hf j B) {.bl false,H,I.tok _,rfl,q}
def I8 (B:oj fa X.K){D:Addr}(y:fa 999=some D):cn X (.builtin "isinstance") (pC fa X.K none (.ref D)):=by
 intro pins s σ H xs J Q I r h;obtain(μ|c|p|v|rfl|E|q):=h.resolve_right λz=>nomatch z.1;obtain(u|w|rfl|r1|r2):=vals2 r;obtain rfl:w=Value.ref D:=r2;obtain(a|C|F|od|rfl|hf|j):=qM I E;obtain rfl:u=Value.ref a:=r1;show PySem.W.isi_call I.kIn (λM=>j.type) (B.d c C D hf y).1 (by intro z;cases z) {.bl true,H,I,rfl,q}
def IZ (y:oj fa X.K):cn X (.builtin "isinstance") (pC fa X.K none (.ty "ValueError")):=by
 intro pins s σ H xs F Q I r h;obtain(μ|c|p|v|rfl|B|q):=h.resolve_right λz=>nomatch z.1;obtain(u|w|rfl|r1|r2):=vals2 r;obtain rfl:w=Value.type "ValueError":=r2;obtain(a|C|E|od|rfl|hf|j):=qM I B;obtain rfl:u=Value.ref a:=r1;show Jb I.kIn j (by kernel_rfl) (y.g c C hf).2.1 {.bl true,H,I,rfl,q}
end
section
variable{fa:Fa}{X:Cx}{a:Expr}{ga:GE}{pos p1 p2:Pos}{x:Str}
def qP (h:tE fa X.K (dm o ga) σ H Q):tE fa X.K ga σ H λv y=>pC fa X.K o w [v,w] y Q:=by
 obtain(μ|L|M|E|I|h):=h;show t1 E I h λx J v y u B F j r1 h1=>by
  cases x with
  |exc c p=>show .inl {u,c,p,v,rfl,r1,aO j (aY.ext h1 B) rfl}
  | non=>
    cases o with
    | some k=>
      obtain rfl:v=.non:=r1;show .inr {rfl,rfl,aO j (aY.ext h1 B) rfl}
    |none=>show h1.elim
  |_=>show h1.elim
def qw (k:Nat)(B:oj fa X.K)(F:∃D,X.mg x=some (.ref D)/\fa (eJ k)=some D)(y:DE fa X a ga)(E:Gl X "isinstance")(hm:X.mg "isinstance"=none)(u:Gl X x)(j:(x==("__debug__":Str))=false)
 (he:starEach [a,.Name x p1] X.env=(false,eval a X.env)::starEach [.Name x p1] X.env):DE fa X (.Call (.Name "isinstance" p2) [a,.Name x p1] [] pos) (dm (some k) ga):=by
 obtain(D|h1|h2):=F;show bF (f9 (IY B h2) E hm `k (bS y (bS (hD u h1 (v:=.ref D) rfl j) cy `r) he) `d `d he `r) λσ H Q h=>qP h
def HS (B:oj fa X.K)(F:∃D,X.mg x=some (.ref D)/\fa 999=some D)(y:DE fa X a ga)(E:Gl X "isinstance")(hm:X.mg "isinstance"=none)(u:Gl X x)(j:(x==("__debug__":Str))=false)
 (he:starEach [a,.Name x p1] X.env=(false,eval a X.env)::starEach [.Name x p1] X.env):DE fa X (.Call (.Name "isinstance" p2) [a,.Name x p1] [] pos) (dm none ga):=by
 obtain(D|h1|h2):=F;show bF (f9 (I8 B h2) E hm `k (bS y (bS (hD u h1 (v:=.ref D) rfl j) cy `r) he) `d `d he `r) λσ H Q h=>qP h
def HR (B:oj fa X.K)(y:DE fa X a ga)(E:Gl X "isinstance")(hm:X.mg "isinstance"=none)(j:Gl X "ValueError")(u:X.mg "ValueError"=none)
 (he:starEach [a,.Name "ValueError" p1] X.env=(false,eval a X.env)::starEach [.Name "ValueError" p1] X.env):DE fa X (.Call (.Name "isinstance" p2) [a,.Name "ValueError" p1] [] pos) (dm none ga):=
 bF (f9 (IZ B) E hm `k (bS y (bS (wB j u `k (v:=.ty "ValueError") rfl) cy `r) he) `d `d he `r) λσ H Q h=>qP h
end
set_option tactic.hygienic true in
def vQ {K:RG}{x C D:Addr}(X:K.In s.heap)(I:PySem.W.InstAt s.heap x ox C od)
 (y:PySem.W.mroIn K D (.type "BaseException")=some true) (O:PySem.W.typeIn K (.ref D)=some (.type "type")) (hs:PySem.W.mroIn K C (.ref D)=some true) (h:Q true s):wpAny (model prog w) A (excMatches (.ref x) (.ref D)) Q E s:=by
 obtain(P|g|d|t|os):=s;have v:=PySem.W.looks_mroIn (M:=model prog w) X hs;have B:=PySem.W.looks_mroIn (M:=model prog w) X y;have J:=PySem.W.looks_typeIn (M:=model prog w) X O;have f:=tc_notTuple;obtain(cd|u|_):=Sf.mp y;unfold PySem.W.clsIn at u;split at u
 .rename_i c' d' L R ho;have j:=X _ _ ho;have F:PySem.W.Looks (model prog w) P (isType (.ref D)) true:=λS Y U s' k q=>by
   show tqa (wpAny_loadPart (k _ _ j) (tqb q))
  show tqa (tqa (J.at (wpAny_of_eq f ?_)))
  repeat (first|with_reducible show tqa (F.at ?_)|with_reducible show B.at ?_|with_reducible show v.at ?_|with_reducible show wpAny_loadPart_at I.at_ ?_|wp_step)
  rw[I.cls];show v.at ?_
  repeat (first|show h|wp_step)
 .cases u
def yL (f:mX New C dx a s.heap H)(h:Q () s):wpAny M A (setFlight (.ref a) none) Q E s:=by
 obtain(_|_|o|F|h1|_|_|h4|B):=f;rcases B with t|⟨T,y,ts,t1,_,_,_,j,u,v⟩
 .refine tqa (tqf h1 h4 t ?_);rw[if_neg `d]
  show tqb h
 .refine tqa (tqf h1 h4 t1 ?_);rw[if_pos `s]
  show wpAny_setField j u (SM.mp v).1 ?_;have e:=Heap.update_setField_same s.heap T y ts 3 .none j u v;change Q () {s with heap:=s.heap.update T (Obj.mapFields (·.setIfInBounds 3 .none))}
  rw[e];show h
section
variable{X:Cx}{pins:List (Addr×Obj)}{σ:L2.St}{H:Hp}{s:RO}
def w8 (I:Inv X pins σ H s)(W:X.N.Nodup)(hi:X.N[i]?=some x)(hk:X.env.scope.names.lookup x=some .local)
 (h:∀R,Inv X pins (σ.set i none) H R->Q () R):wpAny M A (do bindName X.env x .none;unbindBehindTheSuite X.env x ps) Q E s:=by
 obtain(m|hn|hl):=id I.loc;have B:(X.env.scope.kind==.class||(X.env.scope.kind==.module&&X.env.locals != X.env.globals))=false:=by rw[I.ok.kind];rfl
 show wpAny_nameGoes_keeps hk hn B λh' v P hs=>h _ ?_;obtain(oL|_|_|Y|_):=id hn;have n0:∀b o,X.s₀.heap.get? b=some o->b≠X.env.locals:=λb o e=>Se (R9 (R0 e) I.ok.above);show{I.ok,I.os,I.bare,{λb o e n L J=>?_,λb o e n L J=>?_,I.base.free,λb o e J=>?_,I.base.tups,I.base.frzs,I.base.tbls},{_,P,λj y v' e1 e2 U=>?_},λy c e=>?_,I.free,I.freeC,λp hp=>?_,λb ob e=>?_,~~~I.len}
 .exact(hs.2 b (n0 b o e)).trans (I.base.keep b o e n L J)
 .obtain(sl|e1):=I.base.slot b o e n L J;show{sl,(hs.2 b (n0 b o e)).trans e1}
 .obtain(o'|e1):=I.base.there b o e J;show{o',(hs.2 b (n0 b o e)).trans e1}
 .by_cases O:j=i
  .subst O;by_cases F:j<σ.length
   .rw[Sk F] at e2;cases e2
   .rw[TC (~~~F)] at e2;cases e2
  .rw[RT (SK O)] at e2;obtain(u'|r'|q):=hl j y v' e1 e2 U;show{u',r',?_};rcases q with⟨k,e⟩|⟨k,c,e,z⟩
   .refine .inl {k,?_};have:y≠x:=λe=>O (oG W e1 (e ▸ hi));simp[this,e]
   .exact .inr {k,c,e,z.sameBut hs (I.cne y c e)}
 .obtain(S|z):=I.cell y c e;show{S,z.sameBut hs (I.cne y c e)}
 .obtain(e|n|ne|nf|d):=I.pin p hp;show{(hs.2 p.1 ne).trans e,n,ne,nf,d}
 .refine(I.hok b ob e).stay (λc S u q=>(hs.2 c ?_).trans q) (λ_ q=>q) λ_ _ q=>q;rintro rfl;rcases u with u|u
  .rw[<- u,I.free] at e;cases e
  .rw[I.free] at u;cases u
noncomputable abbrev sV (X:Cx)(pn:List (Addr×Obj))(E:RJ->RO->Prop):Cx:={X with pn:=pn,xe:=E}
noncomputable abbrev sW (X:Cx)(v:RJ)(E:RJ->RO->Prop):Cx:={X with A:=X.A.mark (some v),calm:=false,xe:=E}
def Bp (I:Inv X pins σ H s)(E:RJ->RO->Prop):Inv (sV X (X.pn++pins) E) [] σ H s:=
 {⟨I.ok.mod,I.ok.kind,I.ok.glob,I.ok.blt,I.ok.above,I.ok.inj,I.ok.has,I.ok.cab,I.ok.hd,I.ok.frames,I.ok.stk,I.ok.exf,I.ok.bs,I.ok.bsz,I.ok.noex,I.ok.exfs,I.ok.funs,I.ok.frf⟩,I.os,I.bare,I.base,I.loc,I.cell,I.free,I.freeC,λp hp=>I.pin p (~~~hp),I.hok,I.len}
def iB (I:Inv (sV X (X.pn++pins) E) pins' σ H s):Inv X pins σ H s:=
 {⟨I.ok.mod,I.ok.kind,I.ok.glob,I.ok.blt,I.ok.above,I.ok.inj,I.ok.has,I.ok.cab,I.ok.hd,I.ok.frames,I.ok.stk,I.ok.exf,I.ok.bs,I.ok.bsz,I.ok.noex,I.ok.exfs,I.ok.funs,I.ok.frf⟩,I.os,I.bare,I.base,I.loc,I.cell,I.free,I.freeC,λp hp=>I.pin p (S7 _ hp),I.hok,I.len}
def rR (I:Inv X pins σ H s)(v:RJ)(E:RJ->RO->Prop):Inv (sW X v E) pins σ H s:=
 {{I.ok.mod,I.ok.kind,I.ok.glob,I.ok.blt,I.ok.above,I.ok.inj,I.ok.has,I.ok.cab,(λz=>nomatch z),I.ok.frames,I.ok.stk,I.ok.exf,I.ok.bs,I.ok.bsz,I.ok.noex,I.ok.exfs,I.ok.funs,I.ok.frf},I.os,I.bare,I.base,I.loc,I.cell,I.free,I.freeC,I.pin,I.hok,I.len}
def rS (hh:X.calm=true->X.A.handled=none)(I:Inv (sW X v E) pins σ H s):Inv X pins σ H s:=
 {⟨I.ok.mod,I.ok.kind,I.ok.glob,I.ok.blt,I.ok.above,I.ok.inj,I.ok.has,I.ok.cab,hh,I.ok.frames,I.ok.stk,I.ok.exf,I.ok.bs,I.ok.bsz,I.ok.noex,I.ok.exfs,I.ok.funs,I.ok.frf⟩,I.os,I.bare,I.base,I.loc,I.cell,I.free,I.freeC,I.pin,I.hok,I.len}
end
section
variable{fa:Fa}{X:Cx}{pos np hp:Pos}{x nm:Str}{i:Nat}{body suite:List Stmt}{b0:Stmt}{gB gH:GS}
def bz.unset {K:RG}(h:bz fa K μ H σ Z)(i:Nat):bz fa K μ H (σ.set i none) (Z.set i none):=by
 show{by simp[h.len],λj d e=>?_}
 by_cases u:j=i
 .subst u;by_cases hl:j<Z.length
  .rw[Sk hl] at e;cases e
  .rw[TC (~~~hl)] at e;cases e
 .rw[RT (SK u)] at e;obtain(v|h1|h2):=h.at' j d e;show{v,by rw[RT (SK u)];show h1,h2}
set_option tactic.hygienic true in
def Od (hc:oj fa X.K)(hx:∃D,X.mg x=some (.ref D)/\fa 999=some D)(hex:X.ex=[])(J:X.stack=X.env::X.outer)(hfr:X.env.frame=some X.env.locals)(hN:X.N.Nodup)(hi:X.N[i]?=some nm)(hl:X.env.scope.names.lookup nm=some .local)
 (hg:Gl X x) (hdb:(x==("__debug__":Str))=false) (hb:∀pn E,la fa (sV X pn E) body gB) (hh:∀v E,la fa (sW X v E) (b0::suite) gH) :
 DS fa X (.Try body [.ExceptHandler (some (.Name x np)) (some nm) (b0::suite) hp] [] [] pos) (t5 gB i gH):=by
 rintro pins s σ H D' I ⟨μ,Z,M,hE,hM,h⟩;obtain(D|hmD|hfD):=hx;obtain(fl|M1|e|q):=aI h;show wpAny_Try_except (wpAny_mono (hb (X.pn++pins) (λe s₁=>wpAny (model X.prog X.w) X.A (noteFrame e X.env) (λ_ s₂=>wpAny (model X.prog X.w) X.A (setFlight e none) (λ_ s₃=>wpAny (model X.prog X.w) X.A (handleBy e X.env [.ExceptHandler (some (.Name x np)) (some nm) (b0::suite) hp]) (SP X pins D') X.xe s₃) X.xe s₂) X.xe s₁) [] s σ H D' (Bp I _) {μ,Z,M,hE,hM,?_}) (λf s1 z=>?_) λ_ _ z=>z)
 .rw[e];cases fl with
  |next ρ'=>show q
  |ret d=>show q
  | exc y ρ1=>
    intro pins' σ' U L s' a C S c p R ye hE1 hM1 ey hcC hn fl;have hall:=fl.1.2;show wH (by rw[<- J];show R.ok.frames) (by rw[<- J];show R.stack) hfr fl (λb z=>(uR R hex (Heap.get?_none_of_le z)).1) R.hok (by rw[<- J];show R.stkFree) λh' ch P u hok fl2=>?_
    have Y:=Ee (iB R) (λb hb=>{(P b hb).1.1,(P b hb).2.2,(P b hb).1.2}) (by rw[J];show u) hok
    have O:=hc.d c C D hcC hfD;obtain(nw|ha|o|vs|h1|h2|h3|h4|tr):=id fl2;have hxat:xK C S a h':={o,vs,h1,h2,h3,h4,by
     rcases tr with t|⟨T,oT,ts,t,_⟩
     .exact(SM.mp t).1
     .exact(SM.mp t).1}
    have hnc:PySem.W.notCls o=true:=by unfold PySem.W.notCls;rw[h4]
    show wpAny_handleBy_cons (codeAny_handlers_test (jd (rR Y (.ref a) X.xe) hg hmD ?_ hdb)) (by intro z;cases z)
    have IA:∃od,PySem.W.InstAt h' a o C od:=by
     cases p with
     | none=>
       show{none,h1,h2,hnc,by rw[h3,hn];trivial}
     | some k=>
       obtain(d|rfl|hd):=hn;obtain(mA|(od|es|ep|ed|_)|_):=hok d _ hd;show{some od,h1,h2,hnc,by rw[h3];show ed}
    obtain(od|IA):=IA;show vQ Y.kIn IA O.2.2.1 O.2.2.2 O.2.1 ?_;show codeAny_handlers_suite_as (yL fl2 ?_);have I3:Inv X pins σ' (upd U a (.ext (xK C S a))) {s' with heap:=h'}:=Bo Y hex ha nw.1 ⟨o,vs,h1,h4⟩ hall {hxat,⟨o,h1⟩,(by rintro g1 g2 ⟨o,vs,k1,k2⟩ kk;show{o,vs,kk o k1,k2})}
    have xa:Ext L U L (upd U a (.ext (xK C S a))):=Ext.alloc hM1 ha;have rp:Rep fa X.K L (upd U a (.ext (xK C S a))) y (.ref a):=by
     rw[ey];show{a,C,S,rfl,hcC,cf,?_};cases p with
     |none=>show hn
     |some k=>show let⟨d,z1,z2⟩:=hn;{d,z1,by rw[az (aX z2 ha)];show z2}
    show tS I3 hN hi (.inl hl) (v:=.ref a) rfl (λs4 I4=>?_) (.inr hl);obtain(fl3|M2|e3|q3):=aI q;show wpAny_mono (hh (.ref a) _ pins s4 (σ'.set i (some (.ref a))) (upd U a (.ext (xK C S a))) {nx:=λQ H2=>D'.nx (Q.set i none) H2,rt:=D'.rt} (rR I4 (.ref a) _) {L,_,M1,(hE1.ext xa).set rp,hM1.alloc ha,?_}) (λf s5 z=>?_) λ_ _ z=>z
    .rw[e3];cases fl3 with
     |next ρ2=>show λQ H2 μ2 x2 hE2 hM2=>q3 (Q.set i none) H2 μ2 ((ye.trans xa).trans x2) (hE2.unset i) hM2
     |ret d=>show aY.ext q3 (ye.trans xa)
     |exc=>show q3.elim
    .dsimp only;cases f with
     | next=>
       obtain(j|B|F|z):=z;show w8 (rS Y.ok.hd F) hN hi hl λs6 I6=>{_,B,I6,z}
     | ret u=>
       obtain(v|j|B|F|r5|z):=z;show w8 (rS Y.ok.hd F) hN hi hl λs6 I6=>{v,_,B,I6,r5,z}
     |brk=>obtain(_|_|_|z):=z;show z.elim
     |cont=>obtain(_|_|_|z):=z;show z.elim
 .cases f with
  |next=>obtain(j|B|F|z):=z;show wpAny_execs_nil {j,B,iB F,z}
  |ret u=>obtain(v|j|B|F|r5|z):=z;show{v,j,B,iB F,r5,z}
  |brk=>obtain(j|B|F|z):=z;show{j,B,iB F,z}
  |cont=>obtain(j|B|F|z):=z;show{j,B,iB F,z}
end
noncomputable def JY (K:RG)(cl:List (Nat×Addr))(D:Addr):Bool:=PySem.W.mroIn K D (.type "BaseException")==some true&&PySem.W.typeIn K (.ref D)==some (.type "type") &&
 cl.all λq=>lg K q.2&&PySem.W.mroIn K q.2 (.type "ValueError")==some true&&((PySem.W.clsIn K q.2).isSome&&PySem.W.typeIn K (.ref q.2)==some (.type "type"))&&PySem.W.isIn K (.ref q.2) q.2&&PySem.W.isIn K (.ref q.2) D&&PySem.W.mroIn K q.2 (.ref D)==some true&&cl.all λr=>r.1==q.1||PySem.W.kin_not K q.2 r.2
noncomputable def xm (l cl:List (Nat×Addr))(D:Addr):Fa:=λi=>if i<999 then l.lookup i else if i=999 then some D else cl.lookup (i-1000)
set_option tactic.hygienic true in
noncomputable def lookup_mem:∀{l:List (Nat×Addr)}{c:Nat}{C:Addr},l.lookup c=some C->(c,C)∈l
 |[],_,_,h=>by cases h
 | (a,b)::r,c,C,h=>by
   rw[SI] at h;split at h
   .next e=>cases h;rw[eq_of_beq e];show RY
   .exact RP _ (lookup_mem h)
def kL {D:Addr}(h:xm l cl D (eJ c)=some C):(c,C)∈cl:=by
 unfold xm eJ at h;rw[if_neg `a,if_neg `a,SO] at h
 show lookup_mem h
def JX {K:RG}{D:Addr}(h:JY K cl D=true):oj (xm l cl D) K:=by
 unfold JY at h;dsimp[RM,beq_iff_eq,R4,TN] at h;obtain((h1|h2)|h3):=h;show{λc C e=>?_,λc C v e j=>?_,λc C y u e j n=>?_,λc C e=>(h3 _ (kL e)).1.1.1.1.2}
 .obtain((((((a1|a2)|_)|a3)|a4)|a5)|a6):=h3 _ (kL e);show⟨a1,a2,a3⟩
 .obtain(((((a1|a2)|a3)|a4)|a5)|a6):=h3 _ (kL e);cases j;show⟨a4,a5,h1,h2⟩
 .obtain(((((a1|a2)|a3)|a4)|a5)|a6):=h3 _ (kL e);show(a6 _ (kL j)).elim (λz=>absurd z n) id
end LD
namespace LD
open PySem PySem.Spec PyProof.Rows L2 PySem.SeqAt
def pz (M:Mem)(x:D):Option (List Bool):=(ez M x).bind boolsOf
def yK (a:GE):GE:=λh M=>(a h M).bind λx M=>match pz M x with
 |some bs=>.ok (.int (bs.count true)) M
 |none=>.bad
def yI (a:GE):GE:=λh M=>(a h M).bind λx M=>match pz M x with
 |some bs=>if true∈bs then .ok (.int (bs.idxOf true)) M else .bad
 |none=>.bad
noncomputable def pT:RJ->Bool
 |.bool b=>b
 |_=>false
section
variable{fa:Fa}{X:Cx}
def eqT {bs:List Bool}(h:us=bs.map Value.bool):∀y,y∈us.toArray->EqAt A s y (.bool true) (pT y):=λy u=>by
 have u:y∈us:=by simpa using u
 rw[h] at u;obtain(b|_|rfl):=R5.mp u;have e:=EqAt.bool_bool (A:=A) (s:=s) b true;have q:(b==true)=pT (.bool b):=by cases b<;>rfl
 rw[<- q];show e
def Rg {bs:List Bool}:(bs.map Value.bool).countP pT=bs.count true:=by
 induction bs with
 |nil=>rfl
 |cons b r h=>cases b<;>simp[List.countP_cons,pT,h]
def sh:∀{us:List RJ}{bs:List Bool},PyProof.Rows.LSm.BoolsAre us bs->us=bs.map Value.bool:=by
 intro us bs h;induction h with
 |nil=>rfl
 |cons _ _ u=>simp[u]
def QB (fa:Fa)(K:RG)(x:V)(vs:List V)(H:Hp)(Q:VK):Prop:=∃v h bs p u,x=.ref p/\vs=[.bl true]/\cQ K H p u/\aH fa K v H h u/\boolsOf h=some bs/\Q (.int (bs.count true)) H
def Ol (fa:Fa)(K:RG)(x:V)(vs:List V)(H:Hp)(Q:VK):Prop:=∃v h bs p u,x=.ref p/\vs=[.bl true]/\cQ K H p u/\aH fa K v H h u/\boolsOf h=some bs/\true∈bs/\Q (.int (bs.idxOf true)) H
def Me:NP X "list.count" (QB fa X.K):=by
 intro O s σ H x vs v us Q I Y L h;obtain(μ|ds|bs|p|ws|rfl|rfl|S|U|R|q):=h;cases Y;obtain(u|rfl|W):=vals1 L;obtain rfl:u=Value.bool true:=W;obtain(y|L|(o|n|e1|e2|e3|P)|hz):=I.list S;have M:=sh (mr R U L);obtain(oc|od|E|J):=o;obtain rfl:oc=.type "list":=e2;obtain rfl:E=.seq y.toArray n:=P;show call_meets PySem.F.slot_list_count {_,e1,rfl} PySem.F.entry_list_count (PySem.F.args_list_count_2 _ _) (PySem.SeqAt.list_countAt p y.toArray n od J (.bool true) pT) {e1,eqT M,?_};have B:y.toArray.toList.countP pT=bs.count true:=by rw[M,List.toList_toArray];show Rg
 show{.int (bs.count true),H,I.tok _,{s.toks,by rw[B]},q}
def Md:NP X "list.index" (Ol fa X.K):=by
 intro M s σ H x vs v us Q I rx B h;obtain(μ|ds|bs|p|ws|rfl|rfl|S|Y|P|hm|q):=h;cases rx;obtain(u|rfl|ru):=vals1 B;obtain rfl:u=Value.bool true:=ru;obtain(y|B|(o|n|e1|e2|e3|O)|U):=I.list S;have E:=sh (mr P Y B);obtain(oc|od|J|L):=o;obtain rfl:oc=.type "list":=e2;obtain rfl:J=.seq y.toArray n:=O;have hl:=List.idxOf_lt_length_of_mem hm;have R:y.length=bs.length:=by rw[E];simp
 have W:y.length<=sizeLine:=by rw[<- B.length];show U
 have hs:((bs.idxOf true:Nat):Int)<2^63-1:=by
  have:sizeLine<2^62:=`d
  omega
 have at':∀m (hm:m<y.toArray.size),pT y.toArray[m]=bs[m]'(by simp at hm;omega):=λm hm=>by subst E;simp[pT]
 show call_meets PySem.F.slot_list_index {_,e1,rfl} PySem.F.entry_list_index (PySem.F.args_list_index_2 _ _) (PySem.SeqAt.list_indexAt p y.toArray n od L (.bool true) pT (bs.idxOf true) `o hs (by rw[at'];simp) λm hm h=>?_) {e1,eqT E,?_}
 .rw[at'];have:=List.not_of_lt_findIdx h;simpa using this
 .exact{.int (bs.idxOf true),H,I.tok _,{_,rfl},q}
variable{a:Expr}{ga:GE}{apos cpos kp:Pos}{j:Nat}
def Lc (W:DE fa X a ga)(u:attributeBase a "count" X.env (eval a X.env)=eval a X.env)(y:(apos.endLine==cpos.line)=true):DE fa X (.Call (.Attribute a "count" apos) [.Constant (.bool true) j kp] [] cpos) (yK ga):=
 bF (sP Uu PySem.F.slot_list_count PySem.F.type_list_count (Me) W (bS yf cy `r) u `r y `r `r) λσ H Q ⟨μ,Z,M,R,U,h⟩=>t1 R U h λx O v H1 I x1 S B r1 h1=>by
  cases E:pz O x with
  |none=>rw[E] at h1;show h1.elim
  |some bs=>
   rw[E] at h1;obtain(P|e|e2):=Sf.mp E;obtain(p|L|rfl|J|Y):=bR B r1 e;show{.inl ⟨rfl,L,J⟩,I,P,bs,p,L,rfl,rfl,J,Y,e2,aO B (aY.ext h1 x1) rfl}
set_option tactic.hygienic true in
def K8 (W:DE fa X a ga)(u:attributeBase a "index" X.env (eval a X.env)=eval a X.env)(y:(apos.endLine==cpos.line)=true):DE fa X (.Call (.Attribute a "index" apos) [.Constant (.bool true) j kp] [] cpos) (yI ga):=
 bF (sP Uu PySem.F.slot_list_index PySem.F.type_list_index (Md) W (bS yf cy `r) u `r y `r `r) λσ H Q ⟨μ,Z,M,R,U,h⟩=>t1 R U h λx J v H1 I x1 S B r1 h1=>by
  cases E:pz J x with
  |none=>rw[E] at h1;show h1.elim
  |some bs=>
   rw[E] at h1;obtain(P|e|e2):=Sf.mp E;have h1:ae (if true∈bs then .ok (.int (bs.idxOf true)) J else .bad) (aY fa X.K μ H Q):=h1;split at h1
   .next hm=>
    obtain(p|O|rfl|L|Y):=bR B r1 e;show{.inl ⟨rfl,O,L⟩,I,P,bs,p,O,rfl,rfl,L,Y,e2,hm,aO B (aY.ext h1 x1) rfl}
   .exact h1.elim
end
end LD
namespace LD
open PySem PySem.Spec PyProof.Rows L2
def fit (z:Str)(i:Int)(y:Str):Prop:=i.natAbs.log2<1920/\(z++(toString i:Str)).length<=sizeLine/\(z++(toString i:Str)++y).length<=sizeLine
section
variable{X:Cx}{a:Expr}{ta:TE}{pos p1 p2 p3:Pos}{j j2:Nat}{z y:Str}
def tF3 (z y:Str)(ta:TE):TE:=λB H Q=>z.length<=sizeLine/\ta B H λv u=>∃i,v=.int i/\fit z i y/\Q (.str (z++(toString i:Str)++y)) u
def BW (z:Str):Str.empty++z=z:=by
 cases z with
 |mk c=>change Str.mk (#[]++c)=_;simp
def Ov (P:PE X a ta):PE X (.JoinedStr [.Constant (.str z) j p1,.FormattedValue a (-1) none p2,.Constant (.str y) j2 p3] pos) (tF3 z y ta):=by
 rintro B s S H Q I ⟨R,h⟩;show JoinedStr_many (joinParts_cons (Calls.Constant_str ?_));change(Str.empty++z).length<=sizeLine/\_;rw[BW];show{R,joinParts_cons (FormattedValue_plain (aT (P B _ S H _ (I.tok _) h) λu s1 ⟨v,J,L,r1,i,M,⟨f1,O,F⟩,q⟩=>?_))};subst M;obtain(t|rfl):=r1;show formatField_int_small f1 {O,joinParts_cons (Calls.Constant_str {F,joinParts_nil ?_ F})};show{.str _,J,L.tok _,{_,rfl},q}
end
def NI (C:Addr)(v:Option Addr)(a:Addr)(h:Heap):Prop:=∃o u B,h.get? a=some o/\o.cls=.ref C/\o.dict=v/\o.data=.fields u/\u[0]?=some (.ref B)/\u[1]?=some .none
def MK (K:RG)(C:Addr)(fI:Addr):Bool:=KA K C λcd C' bm n=>C'==C&&n=="ValueError.__new__"&&!cd.hasDel&&PySem.W.tailIn K BN bm&&PySem.W.nsOkIn K cd.ns&&PySem.W.nsIn K cd.ns "__init__"==some (some (.ref fI))
def spI (C:Addr)(fld:Str):Sp:=λh H Q _=>∃e i,h=[.ref e,.int i]/\H e=some (.ext (NI C none e))/\i.natAbs<2^64/\∀d,H d=none->d≠e->Q .non (upd (upd H d (.xd [(fld,.int i)])) e (.ext (NI C (some d) e)))
def len_app (a b:Str):(a++b).length=a.length+b.length:=by
 change(Str.append a b).length=_;unfold Str.append Str.length;simp
def MF {i:Int}(hz:z.length<=1000)(u:y.length<=1000)(hi:i.natAbs<2^64):fit z i y:=by
 have h1:i.natAbs.log2<1920:=by
  by_cases h:i.natAbs=0
  .rw[h];decide
  .exact R9 ((Nat.log2_lt h).mpr hi) `a
 have h2:=PyProof.Rows.int_text_len_1921 h1;have hs:sizeLine=16777216:=dr.symm;show{h1,?_,?_}
 .rw[len_app];omega
 .rw[len_app,len_app];omega
def B4 (fa:Fa)(P:Sx)(w:Sr)(K:RG)(mg:Str->Option RJ)(base:Heap)(c:Nat)(x:Str):Prop:=
 ∃C h j y u,mg x=some (.ref C)/\fa (eJ c)=some C/\MK K C h=true/\PySem.W.keepIn K (.ref C)=true/\K.lookup h=some u/\u.cls=.type "function"/\Binds K j ["self",y] []/\lZ P w K mg base (iR P w) 1 h j ["self",y] (spI C (Cb c))
def wo (c:Nat)(a:GE):GS:=λh M=>match a h M with
 |.ok (.int i) M=>if i.natAbs<2^64 then .ok (.exc (.exc c (some i)) h) M else .bad
 |_=>.bad
section
variable{fa:Fa}{X:Cx}{a b:Expr}{ga gb:GE}{ta:GT}{pos p np cpos:Pos}{es:List Expr}{gs:GA}{n:Nat}{x:Str}
def GR (fa:Fa)(K:RG)(f:Str):Prop:=∀c C,fa (eJ c)=some C->Cb c=f->PySem.W.hasDictIn K C=true/\PySem.W.findIn K (.ref C) f=some none
end
def inC (s:Stmt):Stmt:=match s with
 |.ClassDef _ _ _ (b::_) _ _ _ _ _ _ _=>b
 |_=>s
def uY (z y:Str)(a:GE):GE:=λh M=>(a h M).bind λd M=>match d with
 |.int i=>if z.length<=1000/\y.length<=1000/\i.natAbs<2^64 then .ok (.str (z++(toString i:Str)++y)) M else .bad
 |_=>.bad
set_option tactic.hygienic true in
def Qy (O:DE fa X a ga):DE fa X (.JoinedStr [.Constant (.str z) j p1,.FormattedValue a (-1) none p2,.Constant (.str y) j2 p3] pos) (uY z y ga):=
 bF (Ov O) λW H Q ⟨B,U,M,J,L,h⟩=>by
  obtain(R|F|I|h1):=aI h;cases R with
  | int i=>
    have h1:ae (if z.length<=1000/\y.length<=1000/\i.natAbs<2^64 then .ok (.str (z++(toString i:Str)++y)) F else .bad) (aY fa X.K B H Q):=h1;split at h1
    .next hm=>
     show{RU hm.1 (by rw[<- dr];decide),B,U,M,J,L,?_}
     rw[I];intro v E u S P r1;obtain rfl:v=.int i:=r1;show{i,rfl,MF hm.1 hm.2.1 hm.2.2,h1 (.str _) E u S P rfl}
    .exact h1.elim
  |_=>show h1.elim
def GV (fa:Fa)(K:RG)(mg:Str->Option RJ)(x1 x2:Str)(k1 k2:Nat):Prop:=∃h j,mg x1=some (.ref h)/\mg x2=some (.ref j)/\∀c C,c=k1\/c=k2->fa (eJ c)=some C->PySem.W.exmAny K (.ref C) [.ref h,.ref j]=some true
def NN (fa:Fa)(K:RG):Prop:=∀c C,fa (jJ c)=some C->lO c≠[]->xQ K C/\∀f∈lO c,NO K C f
def qm (fa:Fa)(K:RG)(m:Str)(c f:Nat):Prop:=∃C,fa (jJ c)=some C/\xQ K C/\(∀ad,fa f=some ad->Meth K C m ad)/\m∉lO c/\lO c≠[]
noncomputable def ny (μ:Mu)(k:Nat)(p:Addr):Mu:={μ.pub,μ.priv,λj=>if j=aP k then some p else μ.ob j}
section
variable{fa:Fa}{K:RG}{μ:Mu}{H:Hp}{M:Mem}
def RelM.ob_ins (h:RelM fa K μ H M)(e:μ.ob (aP k)=some a):∃o,H a=some o:=by
 by_cases hk:k<M.length
 .rcases h.at' k M[k] (by simp[hk]) with⟨b,j,h1,_⟩|⟨b,h1,h2,h3⟩
  .rw[h.sep _ _ h1] at e;cases e
  .rw[e] at h1;cases h1;show let{o,z,_}:=h3.hold;⟨o,z⟩
 .rw[h.oout k (Nat.le_of_not_lt hk)] at e;cases e
end
end LD
namespace LD
open PySem
section
variable{prog:Sx}{w:Sr}{A:Ti}{E:RJ->RO->Prop}{s:RO}
abbrev TK (prog:Sx)(w:Sr)(h:Heap)(ks:List Int)(a:Addr):Prop:=IsTupleKey (intKind prog w) h ks a
inductive iH (prog:Sx) (w:Sr) (h:Heap):List (List Int)->List RJ->Prop
 |nil:iH prog w h [] []
 |cons {ks:List Int}{a:Addr}{kss:List (List Int)}{vs:List RJ}:TK prog w h ks a->iH prog w h kss vs->iH prog w h (ks::kss) (.ref a::vs)
def NK (prog:Sx)(w:Sr)(h:Heap)(j:List (List Int))(a:Addr):Prop:=∃o items n,h.get? a=some o/\o.cls=.type "tuple"/\o.data=.seq items n/\iH prog w h j items.toList
noncomputable def iH.inj:∀{x y:List (List Int)}{vs:List RJ},iH prog w h x vs->iH prog w h y vs->x=y
 |_,_,_,.nil,.nil=>rfl
 |_,_,_,.cons a r,.cons b t=>by rw[a.inj b,iH.inj r t]
def NK.typeIs (x:NK prog w s.heap kss a):s.TypeIs (.ref a) "tuple":=let{o,_,_,ho,h,_}:=x;⟨o,ho,h⟩
def NK.inj (B:NK prog w h x a)(F:NK prog w h y a):x=y:=by
 obtain(o|i|n|h1|_|h2|h3):=B;obtain(J|H|I|j|_|u|v):=F;rw[h1] at j;cases j;rw[h2] at u;cases u;show h3.inj v
noncomputable def iH.keeps (ho:h.get? d=some o)(hd:o.data=.dict es ep)(hs:TB d h h'):∀{j:List (List Int)}{vs:List RJ},iH prog w h j vs->iH prog w h' j vs
 |_,_,.nil=>.nil
 |_,_,.cons a r=>.cons (a.keeps ho hd hs) (iH.keeps ho hd hs r)
def NK.keeps (x:NK prog w h kss a)(ho:h.get? d=some o)(hd:o.data=.dict es ep)(hs:TB d h h'):NK prog w h' kss a:=by
 obtain(u|i|n|h1|h2|h3|h4):=x;show{u,i,n,(hs.2 a λz=>?_).trans h1,h2,h3,h4.keeps ho hd hs};rw[z,ho] at h1;cases h1;rw[hd] at h3;cases h3
noncomputable def ux (prog:Sx)(w:Sr)(h:List (List Int)):Int:=reduceHash (Builtin.Tuple.tupleHashOf (h.map (tupleKeyHash (intKind prog w))))
noncomputable def nu (h:List (List Int)):Nat:=(h.map λks=>ks.length+1).sum+1
def Iw (L:A.units+2<cLine)(hk:NK prog w s.heap kss a)(h:Q (ux prog w kss) {s with toks:=s.toks+nu kss}):wpAny (model prog w) A (pyHash (.ref a)) Q E s:=by
 have y:=hk.typeIs;obtain(o|items|n|ho|_|hd|I):=hk;first|unfold pyHashByItsType|skip
 first|show tqa (wpAny_cRoomFor_or (.inr `a) ?_)|skip
 show tqa (wpAny_specialOf y F.slot_tuple_hash.lookup ?_);rw[if_neg (by rw[beq_builtin_none];show R6)]
 show tqa (wpAny_specialOf y F.slot_tuple_hash.lookup ?_);show tqa (wpAny_callSpecialIfBoundUnlessNone?_slot y F.slot_tuple_hash (wpAny_call_entry F.slot_tuple_hash y F.entry_tuple_hash ?_ (F.args_tuple_hash_1 _)));change wpAny _ _ (Builtin.Tuple.tupleItemsOf (.ref a) >>= _) _ _ s;show tqa (wpAny_tupleItemsOf ho hd ?_);show tqa ?_;rw[<- Array.forIn_toList];show wpAny_forIn_list _ (λrest (b:Array Int) H=>∃done left,kss=done++left/\iH prog w s.heap left rest/\b.toList=done.map (tupleKeyHash (intKind prog w))/\H={s with toks:=s.toks+(done.map λks=>ks.length+1).sum}) _ ?_ ?_ _ _ {[],kss,rfl,I,rfl,rfl}
 .rintro x rest b H ⟨done,left,rfl,hl,B,rfl⟩;cases hl with
  | @cons k c u _ h1 j=>
    show tqa (wpAny_pyHash_tuple ?_ h1 ?_)
    .show A.units+1<cLine;omega
    .first
      |show tqb {done++[k],u,`s,j,by simp[B],by simp[Uh]}
      |show tqa (tqb (tqb {done++[k],u,`s,j,by simp[B],by simp[Uh]}))
 .rintro b H ⟨done,left,rfl,hl,B,rfl⟩;cases hl;rw[TM] at h;change wpAny _ _ (retInt (Builtin.Tuple.tupleHashOf b.toList)) _ _ _;rw[B];show wpAny_ret_mkInt ?_;generalize J:Builtin.Tuple.tupleHashOf (done.map (tupleKeyHash (intKind prog w)))=v;change wpAny _ _ (if (decide (-(2:Int)^63<=v)&&decide (v<2^63))=true then _ else _) Q E _;unfold ux reduceHash at h;rw[J] at h;by_cases hr:(decide (-(2:Int)^63<=v)&&decide (v<2^63))=true
  .rw[if_pos hr];rw[if_pos hr] at h;show tqb (by simpa[nu,Uh] using h)
  .rw[if_neg hr];rw[if_neg hr] at h;show tqa (wpAny_rule (tqb (by simpa[nu,Uh] using h)))
def ym (hu:A.units<cLine)(hx:NK prog w s.heap x a)(hy:NK prog w s.heap y b)(h:P (.done (.ret (.bool (decide (x=y))))) s) :
 wpAny (model prog w) A (Builtin.«tuple.__eq__» {[.ref a,.ref b],[]}) P E s:=by
 have R:=hy.typeIs;obtain(oa|xs|na|Y|_|S|W):=hx;obtain(ob|ys|nb|hob|_|U|X):=hy;change wpAny _ _ (isInstance (.ref b) (.type "tuple") >>= _) _ _ s;show tqa (wpAny_isInstance R isSubtype_tuple_tuple ?_);show tqa (wpAny_tupleItemsOf Y S (tqa (wpAny_tupleItemsOf hob U (tqa ?_))));show wpAny_forIn_list _ (λrest r M=>r.1=none/\M=s/\∃O Q B F,rest=List.zip B F/\iH prog w s.heap O B/\iH prog w s.heap Q F/\decide (O=Q)=decide (x=y)/\(B.length==F.length)=(xs.size==ys.size)) _ ?_ ?_ _ _ {rfl,rfl,x,y,xs.toList,ys.toList,rfl,W,X,rfl,`s}
 .rintro⟨u,v⟩ rest r M ⟨hr,rfl,O,Q,B,F,L,J,I,j,H⟩;cases J with
  |nil=>simp at L
  | @cons k1 u' x2 xs2 h1 hx2=>
    cases I with
    |nil=>simp at L
    | @cons k2 v' y2 ys2 h2 hy2=>
      obtain((rfl|rfl)|rfl):=L;show tqa (wpAny_eqBool_tuple hu h1 h2 ?_);by_cases hk:k1=k2
      .subst hk;rw[decide_eq_true rfl];show tqb {rfl,rfl,x2,y2,xs2,ys2,rfl,hx2,hy2,?_,by simpa using H}
       rw[<- j];by_cases hxy:x2=y2<;>simp[hxy]
      .rw[decide_eq_false hk];rw[show decide (x=y)=false by rw[<- j];simp[hk]] at h
       show tqa (tqb (tqb (tqb h)))
 .rintro⟨r1,r2⟩ M ⟨hr,rfl,O,Q,B,F,L,J,I,j,H⟩;subst hr;show tqb ?_;change P (.done (.ret (.bool (xs.size==ys.size)))) M;rw[<- H,show(B.length==F.length)=decide (x=y) from ?_]
  .exact h
  .rw[<- j];cases J with
   |nil=>cases I<;>simp
   | cons _ _=>cases I with
     |nil=>simp
     |cons _ _=>simp at L
def OD (B:A.units+2<cLine)(u:NK prog w s.heap x a)(v:NK prog w s.heap y b)(h:Q (decide (x=y)) s):wpAny (model prog w) A (eqBool (.ref a) (.ref b)) Q E s:=by
 unfold eqBool;try with_reducible show tqo ?_
 by_cases j:(Value.ref a==Value.ref b)=true
 .rw[if_pos j];obtain rfl:a=b:=by have:=eq_of_beq j;injection this
  obtain rfl:=u.inj v;show tqa (wpAny_rule (tqb (~~~h)))
 .rw[if_neg j];show tqa (wpAny_richCompare_same_room u.typeIs v.typeIs F.slot_tuple_eq (wpAny_call_entry F.slot_tuple_eq u.typeIs F.entry_tuple_eq (ym ?_ u v {_,rfl,(λe=>nomatch e),tqp h}) (F.args_tuple_eq_2 _ _)) `a)
  change A.units+1<cLine;omega
def CM (d:Nat)(hk:TK prog w s.heap ks a)(h:Q true s):wpAny (model prog w) A (eqIsQuiet (d+1) (.ref a)) Q E s:=by
 have H:=hk.typeIs;obtain(o|items|n|ho|_|hd|I):=hk;unfold eqIsQuiet;show tqa (wpAny_specialOf H F.slot_tuple_eq.lookup ?_);show tqa (wpAny_isInstance H isSubtype_tuple_tuple ?_);show tqa (wpAny_seqItems ho hd (tqa ?_));rw[<- Array.forIn_toList];show wpAny_forIn_list _ (λrest r B=>r.1=none/\B=s/\∀v∈rest,carriedByValue v=true) _ ?_ ?_ _ _ ⟨rfl,rfl,I.byValue⟩
 .rintro v rest r B ⟨hr,rfl,j⟩;rw[eqIsQuiet_byValue _ (j v RY)];show tqa (tqb ?_);show tqb {rfl,rfl,λu y=>j u (RP _ y)}
 .rintro⟨r1,r2⟩ B ⟨hr,rfl,_⟩;subst hr;show tqb h
def DK (hk:NK prog w s.heap kss a)(h:Q true s):wpAny (model prog w) A (eqIsQuiet 8 (.ref a)) Q E s:=by
 have B:=hk.typeIs;obtain(o|items|n|ho|_|hd|H):=hk;unfold eqIsQuiet;show tqa (wpAny_specialOf B F.slot_tuple_eq.lookup ?_);show tqa (wpAny_isInstance B isSubtype_tuple_tuple ?_);show tqa (wpAny_seqItems ho hd (tqa ?_));rw[<- Array.forIn_toList];show wpAny_forIn_list _ (λrest r y=>r.1=none/\y=s/\∃ks,iH prog w s.heap ks rest) _ ?_ ?_ _ _ ⟨rfl,rfl,kss,H⟩
 .rintro v rest r y ⟨hr,rfl,ks,hl⟩;cases hl with
  | @cons k c u _ h1 j=>
    show tqa (CM 6 h1 ?_);show tqb ⟨rfl,rfl,u,j⟩
 .rintro⟨r1,r2⟩ y ⟨hr,rfl,_⟩;subst hr;show tqb h
end
def LY (prog:Sx)(w:Sr):HeapKind prog w (List (List Int)) where
 is:=NK prog w
 hash:=ux prog w
 draws:=nu
 room:=λA=>A.units+2<cLine
 inj:=λu v=>u.inj v
 keeps:=λx ho hd hs=>x.keeps ho hd hs
 pyHash:=λj hk h=>Iw j hk h
 eqBool:=λj u v h=>OD j u v h
 quiet:=λhk h=>DK hk h
end LD
namespace LD
open PySem PySem.Spec PyProof.Rows
section
variable{prog:Sx}{w:Sr}{K:Type}[DecidableEq K]{knd:HeapKind prog w K}{A:Ti}{E:RJ->RO->Prop}{s:RO}
def i8 (knd:HeapKind prog w K)(h:Heap)(d:Addr)(xs:List (K×Addr×RJ)):Prop:=
 ∃o j,h.get? d=some o/\o.ExactDict/\o.data=.dict j xs.length/\j.toList=xs.map (entryOfKey knd)/\(∀x∈xs,knd.is h x.1 x.2.1)/\(xs.map (·.1)).Nodup
def i8.of (x:i8 knd h d xs):h.DictOfH knd d xs:=let⟨o,j,r⟩:=x;{o,j,_,r}
def lP (P:knd.room A)(h:knd.is s.heap k a)(hm:i8 knd s.heap d xs)
 (L:∀J,i8 knd J d (storedH xs k a v)->TB d s.heap J->Q () {s with heap:=J,toks:=s.toks+knd.draws k})
 (hsz:xs.length<=sizeLine) :
 wpAny (model prog w) A (dictSet d (.ref a) v) Q E s:=by
 obtain(o|R|ho|M|hd|he|B|hn):=hm;unfold dictSet;try with_reducible show tqo ?_
 show tqa (knd.pyHash P h ?_);unfold dictSetHashed;try with_reducible show tqo ?_
 show tqa (wpAny_dictFind_heap P h ho hd he B hn ?_ ?_)
 .intro F;have H:=not_mem_keys_of_get F;have e:=storedH_new (atKey_none_of_get F);show tqa (wpAny_rule (wpAny_updateDictKeys (hz:=by have e:=size_of_entries he;omega) ho hd (L _ {_,_,SD _ ho (Obj.isFreed_of_dict (Obj.data_mapDictKeys hd _)),
   M.mapDictKeys _,(Obj.data_mapDictKeys hd _).trans (by rw[e,Sa];rfl),?_,?_,?_} (Td ..))))
  .rw[e];simp[he,entryOfKey]
  .rw[e];intro x u;rcases Si.mp u with u|u
   .exact knd.keeps (B x u) ho hd (Td ..)
   .simp only[RS] at u;subst u;show knd.keeps h ho hd (Td ..)
  .rw[e];rw[Sq,List.nodup_append];show{hn,`s,?_}
   intro x u y I;dsimp[S3,List.map_nil,RS] at I;subst I;show λe=>H (e ▸ u)
 .intro j p O;have e:=storedH_old (atKey_of_get hn O);show tqa (wpAny_rule (tqa (wpAny_updateDict ho hd (wpAny_point (L _ {_,_,SD _ ho (Obj.isFreed_of_dict (Obj.data_mapDict hd _)),
   M.mapDict _,(Obj.data_mapDict hd _).trans (by rw[e,RK]),?_,?_,?_} (Td ..))))))
  .rw[e];have:=modify_map_putAt (entryOfKey knd) (λe:S4=>{e with val:=v}) k v (λ_ _=>rfl) hn O
   rw[<- he] at this;obtain(l):=R;simpa using this
  .rw[e];intro x u;obtain(y|I|rfl):=R5.mp u;unfold putAt;split<;>show knd.keeps (B y I) ho hd (Td ..)
  .rw[e];rw[keys_map_putAt];show hn
def xY (H:knd.room A.in1)(j:knd.is s.heap k a)(hm:i8 knd s.heap d xs)
 (F:∀h,i8 knd h d (storedH xs k a v)->TB d s.heap h->Q () {s with heap:=h,toks:=s.toks+knd.draws k})
 (hsz:xs.length<=sizeLine) :
 wpAny (model prog w) A (setItem (.ref d) (.ref a) v) Q E s:=by
 have u:=hm.of.typeIs;unfold setItem;try with_reducible show tqo ?_
 show tqa (wpAny_sequenceKey u `d ?_)
 show tqa (wpAny_callSpecial?_slot u slot_dict_setitem
  (wpAny_call_entry slot_dict_setitem u entry_dict_setitem ?_ (args_dict_setitem _ _ _)))
 show tqa (wpAny_notOrdered_dict u ?_);change wpAny _ _ (dictSet d (.ref a) v >>= _) _ _ s;show tqa (lP (hsz:=hsz) H j hm λh y B=>tqb {.none,rfl,tqb (F h y B)})
end
end LD
namespace LD
open PySem PySem.Spec PyProof.Rows L2
noncomputable def kj (c:GT)(b:GS):Nat->Env->Mem->Res Fl
 |0,_,_=>.bad
 | n+1,h,M=>(c h M).bind λk M=>if k then(b h M).bind λfl M=>(match fl with
   |.next h=>kj c b n h M
   |fl=>.ok fl M) else .ok (.next h) M
def mq (c:GT)(b:GS):GS:=λh M=>kj c b 100000 h M
section
variable{fa:Fa}{X:Cx}{c:Expr}{body:List Stmt}{gc:GT}{gb:GS}{pos:Pos}
set_option tactic.hygienic true in
def HI (hp:PassesOwn (model X.prog X.w) X.A X.env X.xe)(hc:DT fa X c gc)(hb:la fa X body gb):DS fa X (.While c body [] pos) (mq gc gb):=
 dz (Dt hp hc hb) λD' σ H ⟨L,Z,M,hE,hM,h⟩=>by
  show{λm v y=>∃j u B,Ext L H j y/\bz fa X.K j y v u/\RelM fa X.K j y B/\ae (kj gc gb m u B) (mY fa X L H D'),{100000,L,Z,M,.refl,hE,hM,h},?_};rintro m σ2 H2 ⟨μ2,P,M2,R,E,U,q2⟩;cases m with
  |zero=>show q2.elim
  | succ m=>
    obtain(k|M3|e3|q3):=aI q2;show{μ2,P,M2,E,U,?_};rw[e3];intro H3 O J I;have F:=E.ext J;cases k with
    |false=>show q3 σ2 H3 O (R.trans J) F I
    | true=>
      obtain(fl|M4|e4|Y):=aI q3;show{λv y=>∃j u B,Ext L H j y/\bz fa X.K j y v u/\RelM fa X.K j y B/\ae (kj gc gb m u B) (mY fa X L H D'),λv y z=>{m,Nat.lt_succ_self m,z},O,P,M3,F,I,?_};rw[e4];cases fl with
      |next Q=>show λσ6 H6 μ6 x6 S W=>{μ6,Q,M4,(R.trans J).trans x6,S,W,Y}
      |ret d6=>show aY.ext Y (R.trans J)
      |exc x6 Q=>show XW.ext Y (R.trans J)
end
theorem w6 {K:RG}:∀{ds:List D}{vs:List V}{us:List RJ}{ks:List Int},aH fa K μ H ds vs->Vals vs us->intsOf ds=some ks->ItemsAre (intKind prog w) ks us
 | [],vs,us,ks,h,r,e=>by
   obtain rfl:vs=[]:=h;cases r;cases e;show .nil
 | .int i::ds,vs,us,ks,h,r,e=>by
   obtain(v|vr|rfl|p|q):=h;cases r with
   | cons r1 r2=>
     obtain(k|ek|e):=R3.mp e;subst e;obtain rfl:v=.int i:=p;obtain(t|rfl):=r1;show .cons (by simp[intKind,Value.isInt]) (w6 q r2 ek)
 |.non::_,_,_,_,_,_,e=>by cases e
 |.bl _::_,_,_,_,_,_,e=>by cases e
 |.str _::_,_,_,_,_,_,e=>by cases e
 |.tup _::_,_,_,_,_,_,e=>by cases e
 |.lst _::_,_,_,_,_,_,e=>by cases e
 |.frz _::_,_,_,_,_,_,e=>by cases e
 |.cell _::_,_,_,_,_,_,e=>by cases e
 |.fn _::_,_,_,_,_,_,e=>by cases e
 |.exc _ _::_,_,_,_,_,_,e=>by cases e
section
variable{fa:Fa}{X:Cx}{pins:List (Addr×Obj)}{σ:L2.St}{H:Hp}{s:RO}{μ:Mu}
def zX (I:Inv X pins σ H s)(r:Rep fa X.K μ H (.tup ds) (.ref b)):∃vs h o n,aH fa X.K μ H ds vs/\Vals vs h/\s.heap.get? b=some o/\o.cls=.type "tuple"/\o.data=.seq h.toArray n:=by
 obtain(a|vs|e|j|u):=r;cases e;obtain(h|v|p|_):=I.tuple j;obtain(o|h1|h2|n|h3):=p;show⟨vs,h,o,n,u,v,h1,h2,h3⟩
def wZ (I:Inv X pins σ H s)(r:Rep fa X.K μ H d (.ref b))(e:mF d=some ks):TK X.prog X.w s.heap ks b:=by
 cases d with
 | tup v=>
   obtain(y|h|o|n|j|u|h1|h2|h3):=zX I r;show{o,h.toArray,n,h1,h2,h3,~~~(w6 j u e)}
 |_=>cases e
theorem uL (I:Inv X pins σ H s):∀{ds:List D}{vs:List V}{us:List RJ}{j:List (List Int)},aH fa X.K μ H ds vs->Vals vs us->jN ds=some j->iH X.prog X.w s.heap j us
 | [],vs,us,j,h,r,e=>by
   obtain rfl:vs=[]:=h;cases r;cases e;show .nil
 | d::ds,vs,us,j,h,r,e=>by
   obtain(v|vr|rfl|p|q):=h;cases r with
   | cons r1 r2=>
     obtain(k|ek|e):=Sf.mp e;obtain(E|u|e):=R3.mp e;subst e;cases d with
     | tup y=>
       obtain(a|J|rfl|B|F):=id p;obtain rfl:=(r1);show .cons (wZ I p ek) (uL I q r2 u)
     |_=>cases ek
def IP (I:Inv X pins σ H s)(r:Rep fa X.K μ H d (.ref b))(e:qJ d=some kss):NK X.prog X.w s.heap kss b:=by
 cases d with
 | tup v=>
   obtain(y|h|o|n|j|u|h1|h2|h3):=zX I r;show{o,h.toArray,n,h1,h2,h3,~~~(uL I j u e)}
 |_=>cases e
end
theorem uS:∀{a b:List D}{x y:List Int},intsOf a=some x->intsOf b=some y->dI a b=decide (x=y)/\(x=y->a=b)
 |[],[],_,_,e,f=>by cases e;cases f;show{rfl,λ_=>rfl}
 | [],.int j::b,_,_,e,f=>by
   obtain(_|_|rfl):=R3.mp f;cases e;show{by simp[dI],λz=>by cases z}
 | .int i::a,[],_,_,e,f=>by
   obtain(_|_|rfl):=R3.mp e;cases f;show{by simp[dI],λz=>by cases z}
 | .int i::a,.int j::b,_,_,e,f=>by
   obtain(x|e1|rfl):=R3.mp e;obtain(y|f1|rfl):=R3.mp f;obtain(h1|h2):=uS e1 f1;show{?_,λz=>?_}
   .show(i==j&&dI a b)=_;rw[h1];by_cases z:i=j<;>simp[z]
   .cases z;rw[h2 rfl]
 |.non::_,_,_,_,e,_=>by cases e
 |.bl _::_,_,_,_,e,_=>by cases e
 |.str _::_,_,_,_,e,_=>by cases e
 |.tup _::_,_,_,_,e,_=>by cases e
 |.lst _::_,_,_,_,e,_=>by cases e
 |.frz _::_,_,_,_,e,_=>by cases e
 |.cell _::_,_,_,_,e,_=>by cases e
 |.fn _::_,_,_,_,e,_=>by cases e
 |.exc _ _::_,_,_,_,e,_=>by cases e
 |_,.non::_,_,_,_,e=>by cases e
 |_,.bl _::_,_,_,_,e=>by cases e
 |_,.str _::_,_,_,_,e=>by cases e
 |_,.tup _::_,_,_,_,e=>by cases e
 |_,.lst _::_,_,_,_,e=>by cases e
 |_,.frz _::_,_,_,_,e=>by cases e
 |_,.cell _::_,_,_,_,e=>by cases e
 |_,.fn _::_,_,_,_,e=>by cases e
 |_,.exc _ _::_,_,_,_,e=>by cases e
def oQ (e:mF d=some x):∃ds,d=.tup ds/\intsOf ds=some x:=by
 cases d with
 |tup ds=>show⟨ds,rfl,e⟩
 |_=>cases e
def uN (e:mF a=some x)(f:mF b=some y):bU a b=decide (x=y)/\(x=y->a=b):=by
 obtain(h|rfl|e):=oQ e;obtain(bs|rfl|f):=oQ f;obtain(h1|h2):=uS e f;show{h1,λz=>by rw[h2 z]}
theorem rP:∀{a b:List D}{x y:List (List Int)},jN a=some x->jN b=some y->dI a b=decide (x=y)/\(x=y->a=b)
 |[],[],_,_,e,f=>by cases e;cases f;show{rfl,λ_=>rfl}
 | [],d::b,_,_,e,f=>by
   obtain(_|_|f):=Sf.mp f;obtain(_|_|rfl):=R3.mp f;cases e;show{by simp[dI],λz=>by cases z}
 | d::a,[],_,_,e,f=>by
   obtain(_|_|e):=Sf.mp e;obtain(_|_|rfl):=R3.mp e;cases f;show{by simp[dI],λz=>by cases z}
 | d::a,j::b,_,_,e,f=>by
   obtain(k|ek|e):=Sf.mp e;obtain(x|e1|rfl):=R3.mp e;obtain(B|h|f):=Sf.mp f;obtain(y|f1|rfl):=R3.mp f;obtain(u|v):=uN ek h;obtain(h1|h2):=rP e1 f1;show{?_,λz=>?_}
   .show(bU d j&&dI a b)=_;rw[h1,u];by_cases z:k=B<;>simp[z]
   .cases z;rw[h2 rfl,v rfl]
def D9 (e:qJ a=some x)(f:qJ b=some y):bU a b=decide (x=y)/\(x=y->a=b):=by
 cases a with
 | tup h=>
   cases b with
   | tup bs=>
     obtain(h1|h2):=rP e f;show{h1,λz=>by rw[h2 z]}
   |_=>cases f
 |_=>cases e
structure KD (X:Cx) (c:Int) where
 K:Type
 dq:DecidableEq K
 knd:HeapKind X.prog X.w K
 dec:D->Option K
 hash:∀d,nz c d=(dec d).map knd.hash
 is:∀{fa:Fa}{μ:Mu}{H:Hp}{pins:List (Addr×Obj)}{σ:L2.St}{s:RO}{d:D}{b:Addr}{k:K},Inv X pins σ H s->Rep fa X.K μ H d (.ref b)->dec d=some k->knd.is s.heap k b
 beq:∀{a b:D}{x y:K},dec a=some x->dec b=some y->bU a b=decide (x=y)/\(x=y->a=b)
 ref:∀{fa:Fa}{μ:Mu}{H:Hp}{d:D}{v:V}{k:K},Rep fa X.K μ H d v->dec d=some k->∃b,v=.ref b
 room:Rm X->knd.room X.A.in1
 room0:Rm X->knd.room X.A
def KD.f (X:Cx):KD X 77 where
 K:=List Int
 dq:=inferInstance
 knd:=tupleKind (intKind X.prog X.w)
 dec:=mF
 hash:=λd=>by unfold nz;rw[if_pos rfl];rfl
 is:=λI r e=>wZ I r e
 beq:=λe f=>uN e f
 ref:=λr e=>by
  obtain(j|rfl|_):=oQ e;obtain(a|_|rfl|_):=r;show⟨a,rfl⟩
 room:=λh=>by change X.A.units+1<cLine;unfold Rm at h;omega
 room0:=λh=>by change X.A.units<cLine;unfold Rm at h;omega
def KD.n (X:Cx):KD X 78 where
 K:=List (List Int)
 dq:=inferInstance
 knd:=LY X.prog X.w
 dec:=qJ
 hash:=λd=>by unfold nz;rw[if_neg `d,if_pos rfl];rfl
 is:=λI r e=>IP I r e
 beq:=λe f=>D9 e f
 ref:=λ{fa μ H d v k} r e=>by
  cases d with
  | tup j=>
    obtain(a|_|rfl|_):=r;show⟨a,rfl⟩
  |_=>cases e
 room:=λh=>by change X.A.units+1+2<cLine;unfold Rm at h;omega
 room0:=λh=>by change X.A.units+2<cLine;unfold Rm at h;omega
noncomputable instance kdq {X:Cx}{c:Int} (kd:KD X c):DecidableEq kd.K:=kd.dq
noncomputable def ix (p:D×D):D:=.tup [p.1,p.2]
section
variable{fa:Fa}{X:Cx}{pins:List (Addr×Obj)}{σ:L2.St}{H:Hp}{s:RO}{μ:Mu}{c:Int}{kd:KD X c}{kvs:List (D×D)}
abbrev DP (fa:Fa)(X:Cx)(μ:Mu)(H:Hp){c:Int}(kd:KD X c):List (D×D)->List (kd.K×Addr×RJ)->Prop:=Tz λp x=>kd.dec p.1=some x.1/\Rep fa X.K μ H p.1 (.ref x.2.1)/\∃v,RelV v x.2.2/\Rep fa X.K μ H p.2 v
theorem KD.xs (kd:KD X c):∀{kvs:List (D×D)}{es:List S4},Tz (mZ fa X.K μ H c) kvs es->∃xs,es=xs.map (entryOfKey kd.knd)/\DP fa X μ H kd kvs xs
 |_,_,.nil=>{[],rfl,.nil}
 | _,_,.cons ⟨b,v,e1,e2,h,j,u⟩ r=>by
   obtain(xs|rfl|q):=KD.xs kd r;rw[kd.hash] at e2;obtain(k|ek|y):=R3.mp e2;show{(k,b,_)::xs,?_,.cons ⟨ek,h,v,j,u⟩ q};rw[S3]
   congr 1
   unfold entryOfKey;rw[y,<- e1]
def KD.back {xs:List (kd.K×Addr×RJ)}:∀{kvs:List (D×D)},DP fa X μ H kd kvs xs->Tz (mZ fa X.K μ H c) kvs (xs.map (entryOfKey kd.knd)):=by
 intro kvs h;induction h with
 |nil=>show .nil
 |cons r _ j=>show .cons (let⟨h1,h2,v,h3,h4⟩:=r;{_,v,rfl,by rw[kd.hash,h1];rfl,h2,h3,h4}) j
def DP.mem (h:DP fa X μ H kd kvs xs)(m:x∈xs):∃p∈kvs,kd.dec p.1=some x.1/\Rep fa X.K μ H p.1 (.ref x.2.1):=by
 induction h with
 |nil=>cases m
 | cons r _ u=>
   rcases R7.mp m with rfl|m
   .exact{_,RY,r.1,r.2.1}
   .obtain(p|j|q):=u m;show{p,RP _ j,q}
def DP.nodup (h:DP fa X μ H kd kvs xs)(n:(kvs.map (·.1)).Nodup):(xs.map (·.1)).Nodup:=by
 induction h with
 |nil=>show List.nodup_nil
 | @cons p x ps E r t u=>
   rw[S3,Tj] at n ⊢;show{λm=>n.1 ?_,u n.2};obtain(y|B|j):=R5.mp m;obtain(q|v|e1|_):=DP.mem t B;have:=(kd.beq r.1 e1).2 j.symm;rw[this];show R5.mpr ⟨q,v,rfl⟩
def KD.dict {xs:List (kd.K×Addr×RJ)}(I:Inv X pins σ H s)(e:H a=some (.dn (xs.map (entryOfKey kd.knd))))(h:DP fa X μ H kd kvs xs)(n:(kvs.map (·.1)).Nodup):(a==sysModules)=false/\xs.length<=sizeLine/\i8 kd.knd s.heap a xs:=by
 obtain(z|y|o|h1|h2|h3):=(I.hok a _ e);show{y,~~~z,o,_,h1,h2,by rw[h3,RK],`s,λx j=>?_,h.nodup n}
 obtain(p|_|e1|e2):=h.mem j;show kd.is I e2 e1
def DP.look (h:DP fa X μ H kd kvs xs)(hk:kd.dec k=some kk):(dt (kvs.map ix) k=none/\atKey xs kk=none)\/∃d b v u,dt (kvs.map ix) k=some d/\atKey xs kk=some (b,u)/\RelV v u/\Rep fa X.K μ H d v:=by
 induction h with
 |nil=>show .inl ⟨rfl,rfl⟩
 | @cons p x ps y r t j=>
   obtain(h1|h2|v|h3|h4):=r;have b:=(kd.beq h1 hk).1;unfold dt atKey at j ⊢;rw[S3,List.find?_cons,List.find?_cons];rw[show bU (c6 (ix p)) k=decide (x.1=kk) from b];by_cases z:x.1=kk
   .rw[decide_eq_true z];show .inr ⟨p.2,x.2.1,v,x.2.2,rfl,rfl,h3,h4⟩
   .rw[decide_eq_false z];show j
def j7 (kvs:List (D×D))(k d:D):List (D×D):=if (dt (kvs.map ix) k).isSome then kvs.map (λp=>if bU p.1 k then(p.1,d) else p) else kvs++[(k,d)]
def Ln (kvs:List (D×D))(k d:D):(j7 kvs k d).map ix=putD (kvs.map ix) k d:=by
 unfold j7 putD;split
 .rw[SN,SN];show T6 λp _=>?_;change ix (if bU p.1 k then(p.1,d) else p)=if bU p.1 k then _ else _;split<;>rfl
 .rw[Sq];rfl
def AA (kvs:List (D×D))(k d:D):(j7 kvs k d).map (·.1)=if (dt (kvs.map ix) k).isSome then kvs.map (·.1) else kvs.map (·.1)++[k]:=by
 unfold j7;split
 .rw[SN];show T6 λp _=>?_;change(if bU p.1 k then(p.1,d) else p).1=p.1;split<;>rfl
 .rw[Sq];rfl
set_option tactic.hygienic true in
def DP.put (h:DP fa X μ H kd kvs xs)(hk:kd.dec k=some kk)(B:Rep fa X.K μ H k (.ref b))(j:RelV v u)(rd:Rep fa X.K μ H d v):DP fa X μ H kd (j7 kvs k d) (storedH xs kk b u):=by
 have e:(dt (kvs.map ix) k).isSome=(atKey xs kk).isSome:=by
  rcases h.look hk with⟨h1,h2⟩|⟨_,_,_,_,h1,h2,_⟩<;>rw[h1,h2]<;>rfl
 unfold j7 storedH;rw[e];split
 .next hs=>
  clear e hs;induction h with
  |nil=>show .nil
  | @cons p x ps E r t y=>
    show .cons ?_ y;have b2:=(kd.beq r.1 hk).1;unfold putAt;dsimp only;rw[b2];by_cases z:x.1=kk
    .rw[decide_eq_true z,if_pos z,if_pos rfl];show⟨r.1,r.2.1,v,j,rd⟩
    .rw[decide_eq_false z,if_neg z,if_neg R6];show r
 .exact Paired.snoc h ⟨hk,B,v,j,rd⟩
set_option tactic.hygienic true in
def DP.keys (h:DP fa X μ H kd kvs xs)(n:(kvs.map (·.1)).Nodup)(hk:kd.dec k=some kk):((j7 kvs k d).map (·.1)).Nodup:=by
 rw[AA];split
 .exact n
 .next z=>
  show List.nodup_append.mpr {n,`s,λa u b v q=>z ?_}
  obtain rfl:=RS.mp v;subst q;obtain(p|y|j):=R5.mp u;rw[dt,Uk,List.find?_isSome];show{ix p,R5.mpr ⟨p,y,rfl⟩,?_};change bU p.1 a=true;rw[j,(kd.beq hk hk).1];show decide_eq_true rfl
end
def dP (a b:GE):GE:=λh M=>(a h M).bind λx M=>(b h M).bind λk M=>match x with
 |.fn o=>cj M (getD M o k)
 |_=>.bad
def hU (n:Bool)(a b:GE):GE:=λh M=>(a h M).bind λk M=>(b h M).bind λx M=>match x with
 | .fn o=>(match inD M o k with
   |some r=>.ok (.bl (n != r)) M
   |none=>.bad)
 |_=>.bad
def lE (a b d:GE):GS:=λh M=>(d h M).bind λz M=>(a h M).bind λx M=>(b h M).bind λk M=>match x with
 | .fn o=>(match b5 M o with
   |some q=>if isKey q.1 k=true/\q.2.length<1000000 then .ok (.next h) (M.set (o-5000) (.int q.1::putD q.2 k z)) else .bad
   |none=>.bad)
 |_=>.bad
noncomputable def yJ (c:Int):GE:=λ_ M=>.ok (.fn (aP M.length)) (M++[[.int c]])
structure eV (fa:Fa):Prop where
 of:∀o,5000<=o->fa o=none
 n77:fa (jJ 77)=none
 n78:fa (jJ 78)=none
section
variable{fa:Fa}{K:RG}{μ:Mu}{H:Hp}{M:Mem}
def Ext.dic (h:RelM fa K μ H M)(v:H a=some (.dn es)):Ext μ H μ (upd H a (.dn es')):=by
 have ne:∀{b o},H b=some o->(∀es,o≠.dn es)->b≠a:=λg n z=>by rw[z,v] at g;cases g;show n _ rfl
 show{{λ_ _ q=>q,λb j g=>?_,λb j g n=>{by rw[az (ne g (λ_ z=>by cases z))];show g,n},λb ob u g=>by rw[az (ne g (λ_ z=>by cases z))];show g,λb o i g=>?_,λ_ _ q=>q},rfl,λb y=>?_}
 .rcases g with g|⟨ob,g⟩
  .exact .inl (by rw[az (ne g (λ_ z=>by cases z))];show g)
  .exact .inr {ob,by rw[az (ne g (λ_ z=>by cases z))];show g}
 .rw[az (ne g (λ_ z=>by rcases i with⟨_,i⟩|⟨_,i⟩<;>(rw[i] at z;cases z)))];show g
 .obtain((j|g)|_):=h.pv b y;rw[az (ne g (λ_ z=>by cases z))]
def RelM.dicW (h:RelM fa K μ H M)(e:M[k]?=some ds)(v:μ.ob (aP k)=some a)(I:H a=some (.dn es))(new:jC fa K μ (upd H a (.dn es')) a y):RelM fa K μ (upd H a (.dn es')) (M.set k y):=by
 have x:Ext μ H μ (upd H a (.dn es')):=Ext.dic h I;show{λj B q=>?_,λj u=>h.out j (~~~u),λj u=>h.oout j (~~~u),h.inj,h.oinj,h.sep,λb E=>{let{⟨F,g⟩,_}:=h.pv b E;{F,by rw[x.pk b E];show g},(h.pv b E).2}}
 by_cases u:j=k
 .subst u;rw[Sk (RH.mp e).1] at q;cases q;show .inr {a,v,?_,new};cases z:μ.pub j with
  |none=>rfl
  |some b=>rw[h.sep j b z] at v;cases v
 .rw[RT (SK u)] at q;rcases h.at' j B q with⟨b,F,h1,h2,h3⟩|⟨b,h1,h2,h3⟩
  .exact .inl {b,F,h1,by rw[az (λz=>by rw[z,I] at h2;cases h2)];show h2,h3.ext x}
  .exact .inr {b,h1,h2,h3.extW x.toExtW (az λz=>u (h.oinj _ _ a (z ▸ h1) v))}
set_option tactic.hygienic true in
def Ext.dicNew (h:RelM fa K μ H M)(u:H x=none):Ext μ H (ny μ M.length x) (upd H x (.dn [])):=by
 have e:Ext μ H μ (upd H x (.dn [])):=Ext.alloc h u;show{{e.mu,e.tups,λb v g n=>{(e.lsts b v g n).1,n},e.frzs,e.exts,λj b z=>?_},rfl,e.pk};change(if j=aP M.length then some x else μ.ob j)=some b;split
 .next q=>rw[q,h.oout _ (RN _)] at z;cases z
 .exact z
set_option tactic.hygienic true in
def RelM.dicNew {c:Int}(h:RelM fa K μ H M)(u:H x=none)(F:c=77\/c=78):RelM fa K (ny μ M.length x) (upd H x (.dn [])) (M++[[.int c]]):=by
 have X:=Ext.dicNew h u;have old:∀{b o},H b=some o->(upd H x (.dn [])) b=some o:=λg=>by rw[az (aX g u)];show g
 have pc:∀{k b},(ny μ M.length x).ob (aP k)=some b->(k=M.length/\b=x)\/μ.ob (aP k)=some b:=λ{k b} z=>by
  have z:(if aP k=aP M.length then some x else μ.ob (aP k))=some b:=z;split at z
  .next q=>cases z;show .inl {Nat.add_left_cancel q,rfl}
  .exact .inr z
 show{λk E q=>?_,λk hk=>h.out k (by simp at hk;omega),λk hk=>?_,h.inj,λj k b e1 e2=>?_,λk b z=>?_,λb B=>{?_,(h.pv b B).2}}
 .by_cases hk:k<M.length
  .rw[RR hk] at q;rcases h.at' k E q with⟨b,y,h1,h2,h3⟩|⟨b,h1,h2,h3⟩
   .exact .inl {b,y,h1,old h2,h3.ext X}
   .exact .inr {b,X.obs _ _ h1,h2,h3.extW X.toExtW (by obtain(o|e|_):=h3.hold;rw[old e,e])}
  .have v:k=M.length:=by
    have:=(RH.mp q).1;simp at this;omega
   subst v;rw[So (RN _)] at q;simp at q;subst q;show .inr {x,by change(if aP M.length=aP M.length then some x else _)=some x;rw[if_pos rfl],h.out _ (RN _),.inr {c,[],[],cf,F,rfl,.nil,List.nodup_nil}}
 .show(if aP k=aP M.length then some x else μ.ob (aP k))=none;simp at hk;rw[if_neg (λz=>by have:=Nat.add_left_cancel z;omega)]
  show h.oout k `a
 .rcases pc e1 with⟨a1,a2⟩|a1<;>rcases pc e2 with⟨b1,b2⟩|b1
  .omega
  .subst a2;obtain(_|z):=h.ob_ins b1;rw[u] at z;cases z
  .subst b2;obtain(_|z):=h.ob_ins a1;rw[u] at z;cases z
  .exact h.oinj j k b a1 b1
 .show(if aP k=aP M.length then some x else μ.ob (aP k))=none;have z:μ.pub k=some b:=z;rw[if_neg (λq=>by rw[Nat.add_left_cancel q,h.out _ (RN _)] at z;cases z)]
  show h.sep k b z
 .obtain((y|g)|_):=h.pv b B;show{y,old g}
end
section
variable{fa:Fa}{X:Cx}{pins:List (Addr×Obj)}{σ:L2.St}{H:Hp}{s:RO}{μ:Mu}{M:Mem}
set_option tactic.hygienic true in
def oR {c:Int}(h:isKey c d=true)(kd:KD X c):∃kk,kd.dec d=some kk:=by
 have e:(nz c d).isSome=true:=by
  unfold isKey at h;unfold nz;split at h
  .next z=>rw[if_pos z,Uk];show h
  .next z=>
   rw[if_neg z];split at h
   .next y=>rw[if_pos y,Uk];show h
   .cases h
 rw[kd.hash,Uk] at e;show Option.isSome_iff_exists.mp e
def OL {c:Int}(X:Cx)(h:c=77\/c=78):Nonempty (KD X c):=by
 rcases h with rfl|rfl
 .exact{KD.f X}
 .exact{KD.n X}
set_option tactic.hygienic true in
def mT (hd:eV fa)(I:Inv X pins σ H s)(O:RelM fa X.K μ H M)(r:Rep fa X.K μ H (.fn o) v)(e:b5 M o=some q) :
 ∃(a:Addr) (kd:KD X q.1) (h:List (D×D)) (xs:List (kd.K×Addr×RJ)),v=.ref a/\5000<=o/\μ.ob o=some a/\M[o-5000]?=some (.int q.1::q.2)/\H a=some (.dn (xs.map (entryOfKey kd.knd)))/\(q.1=77\/q.1=78)/\q.2=h.map ix/\DP fa X μ H kd h xs/\(h.map (·.1)).Nodup:=by
 unfold b5 at e;split at e
 .next ho=>
  split at e
  .next c R E=>
   split at e
   .next B=>
    cases e;obtain(a|rfl|j):=r;rcases j with j|⟨_,j⟩
    .rw[hd.of o ho] at j;cases j
    have F:aP (o-5000)=o:=Nat.add_sub_cancel' ho;rcases O.at' _ _ E with⟨b,S,h1,_⟩|⟨b,h1,h2,⟨n,C,Q,fs,y,h3,h4,J,u,L⟩|⟨P,y,h,h3,h4,J,u,L⟩⟩
    .have:=O.sep _ _ h1;rw[F,j] at this;cases this
    .have u:=(List.cons.inj u).1;have u:=D.int.inj u;rcases B with rfl|rfl
     .have:n=77:=`a
      rw[this,hd.n77] at h3;cases h3
     .have:n=78:=`a
      rw[this,hd.n78] at h3;cases h3
    .rw[F,j] at h1;cases h1;obtain(e1|e2):=List.cons.inj J;cases D.int.inj e1;obtain(kd):=OL X B;obtain(xs|rfl|dp):=kd.xs u;show⟨a,kd,h,xs,rfl,ho,j,E,h3,B,e2,dp,L⟩
   .cases e
  .cases e
 .cases e
def rDG (fa:Fa)(K:RG):R2:=λx y H Q=>∃μ M o h d,RelM fa K μ H M/\Rep fa K μ H (.fn o) x/\Rep fa K μ H h y/\getD M o h=some d/\aY fa K μ H Q d M
set_option tactic.hygienic true in
def OM (W:Rm X)(hd:eV fa):j0 X (rDG fa X.K):=by
 intro E B pins s σ H x y v u Q I rx ry h hs;obtain(μ|M|o|dy|d|O|r1|r2|e|q):=h;obtain(qq|e1|e2):=Sf.mp e;split at e2
 .next hk=>
  obtain(a|J|Y|xs|rfl|ho|ha|em|U|hc|S|dp|nd):=mT hd I O r1 e1;obtain(kk|ek):=oR hk J;obtain(b|rfl):=J.ref r2 ek;obtain(ys|hz|L):=KD.dict I U dp nd;obtain rfl:v=Value.ref a:=rx;obtain rfl:u=Value.ref b:=ry;rw[S] at e2;rcases dp.look ek with⟨z,_⟩|⟨d',b',v',u',z,g,ru,rd⟩
  .rw[z] at e2;cases e2
  .rw[z] at e2;cases e2;have P:=L.of.typeIs;have h2:wpAny (model X.prog X.w) X.A (getItem (.ref a) (.ref b)) (EP X pins σ Q) X.xe s:=wpAny_getItem_heap (J.room W) (J.is I r2 ek) L.of g {v',H,I.tok _,ru,aO O q rd};show tqa ?_;rw[getitemInPython_of_ne P.not_modules];show tqa (wpAny_specialOf P PySem.F.slot_dict_getitem.lookup ?_);have j:wpAny (model X.prog X.w) X.A (subscripted B false (.ref a) (.ref b)) (λr R=>wpAny (model X.prog X.w) X.A (letTemporaryGo E (.ref a) r >>= λ_=>pure r) (EP X pins σ Q) X.xe R) X.xe s:=by
    rw[hs];show wpAny_operating (wpAny_mono h2 (λr R h3=>tqa (wpAny_letTemporaryGo (tqb h3))) λ_ _ x=>x)
   first
    |show tqb (tqa j)
    |show tqa (tqb (tqa j))
    |show tqa j
 .cases e2
def rDI (fa:Fa)(K:RG)(n:Bool):R2:=λx y H Q=>∃μ M o h b,RelM fa K μ H M/\Rep fa K μ H h x/\Rep fa K μ H (.fn o) y/\inD M o h=some b/\Q (.bl (n != b)) H
set_option tactic.hygienic true in
def GJ (F:Rm X)(hd:eV fa)(n:Bool):bY X (compareOp (if n then .NotIn else .In)) (rDI fa X.K n):=by
 intro pins s σ H x y v u Q I S U h;obtain(μ|M|o|L|b|R|r1|r2|e|q):=h;obtain(qq|e1|e2):=Sf.mp e;split at e2
 .next hk=>
  obtain(a|j|B|xs|rfl|ho|Y|W|P|hc|O|dp|nd):=mT hd I R r2 e1;obtain(kk|ek):=oR hk j;obtain(c|rfl):=j.ref r1 ek;obtain(J|hz|E):=KD.dict I P dp nd;obtain rfl:v=Value.ref c:=S;obtain rfl:u=Value.ref a:=U;rw[O] at e2;cases e2;have eq:(dt (B.map ix) L).isSome=(atKey xs kk).isSome:=by
   rcases dp.look ek with⟨h1,h2⟩|⟨_,_,_,_,h1,h2,_⟩<;>rw[h1,h2]<;>rfl
  rw[eq] at q;cases n with
  |false=>show wpAny_in_heap (j.room F) (j.is I r1 ek) J E.of {.bl _,H,I.tok _,rfl,~~~q}
  |true=>show wpAny_notIn_heap (j.room F) (j.is I r1 ek) J E.of {.bl _,H,I.tok _,rfl,~~~q}
 .cases e2
def rDS (fa:Fa)(K:RG):EV:=λx y v H Q=>∃μ M o j d q,RelM fa K μ H M/\Rep fa K μ H (.fn o) x/\Rep fa K μ H j y/\Rep fa K μ H d v/\b5 M o=some q/\isKey q.1 j=true/\q.2.length<1000000/\∀h,Ext μ H μ h->RelM fa K μ h (M.set (o-5000) (.int q.1::putD q.2 j d))->Q h
def qW (hd:eV fa)(I:Inv X pins σ H s)(P:RelM fa X.K μ H M)(r1:Rep fa X.K μ H (.fn o) x)(r2:Rep fa X.K μ H dy y)(ry:RelV y iv)(rv:RelV v u)(r3:Rep fa X.K μ H d v)(e1:b5 M o=some q)(hk:isKey q.1 dy=true)(hl:q.2.length<1000000) :
 ∃(a b:Addr) (kd:KD X q.1) (kk:kd.K) (xs:List (kd.K×Addr×RJ)),x=.ref a/\iv=.ref b/\kd.knd.is s.heap kk b/\xs.length<=sizeLine/\i8 kd.knd s.heap a xs/\∀F t,i8 kd.knd F a (storedH xs kk b u)->TB a s.heap F->∃L,Inv X pins σ L {s with heap:=F,toks:=t}/\Ext μ H μ L/\RelM fa X.K μ L (M.set (o-5000) (.int q.1::putD q.2 dy d)):=by
 obtain(a|kd|h|xs|rfl|ho|ha|W|J|hc|E|dp|nd):=mT hd I P r1 e1;obtain(kk|ek):=oR hk kd;obtain(b|rfl):=kd.ref r2 ek;obtain(ys|hz|R):=KD.dict I J dp nd;obtain rfl:iv=Value.ref b:=ry;have j:=dp.put ek r2 rv r3;show{a,b,kd,kk,xs,rfl,rfl,kd.is I r2 ek,hz,R,λF t O hs=>?_};obtain(Q|es'|h1|h2|h3|h4|_|_):=O;have lx:(storedH xs kk b u).length<=sizeLine:=by
  have l1:=Paired.length j;have l2:(j7 h dy d).length<=h.length+1:=by
   unfold j7;split<;>simp
  have l3:h.length<1000000:=by rw[E,RK] at hl;show hl
  rw[<- l1,sizeLine_eq];omega
 have Y:aP (o-5000)=o:=Nat.add_sub_cancel' ho;have x:=Ext.dic (es':=(storedH xs kk b u).map (entryOfKey kd.knd)) P J;show{upd H a (.dn ((storedH xs kk b u).map (entryOfKey kd.knd))),I.write (by rw[J];show True.intro) (.inl rfl) (λb q hb z=>(hs.2 b hb).trans z) ⟨Q,h1⟩ {~~~lx,ys,Q,h1,h2,?_},x,?_}
 .have B:=congrArg List.length h4;rw[RK] at B;rw[h3,<- h4,B]
 .refine P.dicW W (by rw[Y];show ha) J (.inr {q.1,_,j7 h dy d,cf,hc,?_,Tz.mapP (KD.back j) (by rintro p e ⟨b,v,e1,e2,E,S,U⟩;show{b,v,e1,e2,E.ext x,S,U.ext x}),dp.keys nd ek})
  rw[E,<- Ln];rfl
def HH (R:Rm X)(hd:eV fa):EY X (rDS fa X.K):=by
 intro pins s σ H x y v Y iv u Q I rx ry rv h;obtain(μ|M|o|dy|d|q|O|r1|r2|r3|e1|hk|hl|k):=h;obtain(a|b|U|kk|xs|rfl|rfl|P|S|J|B):=qW hd I O r1 r2 ry rv r3 e1 hk hl;obtain rfl:Y=Value.ref a:=rx;show xY (hsz:=S) (U.room R) P J λL j hs=>?_;obtain(E|F|x'|W):=B L _ j hs;show{E,F,k E x' W}
end
section
variable{fa:Fa}{X:Cx}{a b d:Expr}{ga gb gd:GE}{pos:Pos}
def Nu (P:Rm X)(hd:eV fa)(L:DE fa X a ga)(O:DE fa X b gb)(hs:jh b):DE fa X (.Subscript a b pos) (dP ga gb):=
 bF (yd (OM P hd) L O hs) λY H Q ⟨U,W,M,F,J,h⟩=>t2 F J h λx y E v u S B R I j r1 r2 h2=>by
  cases x with
  | fn o=>
    obtain(d|e|q):=kz h2;show{B,E,o,y,d,j,r1,r2,e,aY.ext q R}
  |_=>show h2.elim
def xt {x y:D}(h:ae (match y with|.fn o=>(match inD M o x with|some r=>Res.ok (D.bl (n != r)) M|none=>.bad)|_=>.bad) k):∃o r,y=.fn o/\inD M o x=some r/\k (.bl (n != r)) M:=by
 cases y with
 | fn o=>
   dsimp only at h;cases e:inD M o x with
   |none=>rw[e] at h;show h.elim
   |some r=>rw[e] at h;show⟨o,r,rfl,e,h⟩
 |_=>show h.elim
def Pe (n:Bool)(P:Rm X)(hd:eV fa)(L:DE fa X a ga)(O:DE fa X b gb)(hm:behindInMarks (if n then .NotIn else .In) b=false):DE fa X (.Compare a [if n then .NotIn else .In] [b] pos) (hU n ga gb):=
 bF (qA (GJ P hd n) L O hm) λY H Q ⟨U,W,M,F,J,h⟩=>t2 F J h λx y E v u S B R I j r1 r2 h2=>by
  obtain(o|r|rfl|e|q):=xt h2;show{B,E,o,x,r,j,r1,r2,e,aO j (q.ext R) rfl}
def MW (n:Bool)(W:Rm X)(hd:eV fa)(S:DE fa X a ga)(U:DE fa X b gb)(hm:behindInMarks (if n then .NotIn else .In) b=false):DT fa X (.Compare a [if n then .NotIn else .In] [b] pos) (ai (hU n ga gb)):=
 ku (qy (GJ W hd n) S U hm) λσ H Q ⟨μ,Z,M,O,R,h⟩=>by
  obtain(z|I|e|q):=aI h;have L:ae (hU n ga gb Z M) (λd M=>d=z/\M=I):=by rw[e];show⟨rfl,rfl⟩
  show t2 O R L λx y F v u E B Y P j r1 r2 h2=>?_;obtain(o|r|rfl|e1|e2|J):=xt h2;subst e2 J;show{B,F,o,x,r,j,r1,r2,e1,n != r,rfl,q E B Y j}
set_option tactic.hygienic true in
def KI (hu:Rm X)(hk:eV fa)(W:DE fa X a ga)(Y:DE fa X b gb)(hd:DE fa X d gd)
 (R:∀v,assign (.Subscript a b p2) X.env v=(do
  let u <- holding [v] (eval a X.env)
  let J <- holding [v,u] (eval b X.env)
  standAt p2
  holding [v,u,J] (setItem u J v)
  release [v,u,J] [])) (hs:swapsWithSole [.Subscript a b p2] d pos.line X.env=pure false) (hw:swappedStores [.Subscript a b p2] d X.env=pure none) :
 DS fa X (.Assign [.Subscript a b p2] d pos) (lE ga gb gd):=
 dz (pG hd (AI W Y (HH hu hk) R) hs hw) λD' σ H ⟨μ,Z,M,S,U,h⟩=>t1 S U h λz M1 v H1 μ1 x1 B F r1 h1=>t2 B F h1 λx y L vx vy H2 j P E I rx ry h2=>by
  cases x with
  | fn o=>
    dsimp only at h2;cases e:b5 L o with
    |none=>rw[e] at h2;show h2.elim
    | some q=>
      rw[e] at h2;dsimp only at h2;split at h2
      .next c=>
       have w:=h2;show{j,L,o,y,z,q,I,rx,ry,r1.ext P,e,c.1,c.2,λQ O m'=>w σ Q j ((x1.trans P).trans O) (E.ext O) m'}
      .exact h2.elim
  |_=>show h2.elim
def Nr (c:Int)(B:c=77\/c=78)(hd:eV fa):DE fa X (.Dict [] [] pos) (yJ c):=by
 rintro v s L H Q I ⟨E,J,M,F,j,h⟩;have y:sysModules<s.heap.objs.size:=Nat.lt_trans `d (I.mod.glob.keeps I.bk).lt
 have u:=I.hok.fresh (RN _);show wpAny_Dict_empty {.ref s.heap.objs.size,_,I.laid (o:=.dn []) (λ_ _ q=>RI _ q) (RN _) {S5 _,Sw.mpr (SK (Se y)),_,RX _ rfl,⟨rfl,rfl,rfl⟩,rfl},rfl,?_};show h _ _ (ny E M.length s.heap.objs.size) (Ext.dicNew j u) (j.dicNew u B) {_,rfl,.inr {hd.of _ (TX _ _),?_}};change(if aP M.length=aP M.length then some s.heap.objs.size else _)=_;rw[if_pos rfl]
end
def uG (hd:(d==sysModules)=false) :
 MeetsIn prog w (Builtin.«dict.__len__» {[.ref d],[]}) (λ_ R s=>∃o es u,s.heap.get? d=some o/\o.data=.dict es u/\R (.ok (.ret (.int es.size s.toks))) {s with toks:=s.toks+1}):=
 .of_wp λA R s ⟨o,es,u,ho,j,h⟩=>by
  change wpAny _ _ (dictSize d >>= _) _ _ s;show tqa (tqa (wpAny_dictEntries ho j (tqb ?_)));show tqa (wpAny_pendingCount_other hd (wpAny_ret_mkInt ?_));rw[Nat.add_zero];show h
def Mg (hd:(d==sysModules)=false)(ho:s.heap.get? d=some o)(y:o.cls=.type "dict")(j:o.data=.dict es ep)(v:es.size<2^62)
 (h:∀t t',Q (.int es.size t) {s with toks:=t'}):wpAny (model prog w) A (call (.builtin "len") [.ref d]) Q E s:=by
 have u:s.TypeIs (.ref d) "dict":=⟨o,ho,y⟩;show Calls.call_function_entry kind_len plain_len entry_len (args_len1 _) ?_;show tqa (tqb ?_);show tqa (wpAny_callSpecial?_slot u F.slot_dict_len (call_meetsIn F.slot_dict_len u F.entry_dict_len (F.args_dict_len_1 _) (uG hd) {o,es,ep,ho,j,?_}));show tqa (tqo (tqb (tqa (wpAny_letGo ?_))));rw[if_neg `a]
 rw[if_neg `a]
 show tqa (wpAny_mkInt (tqb {_,rfl,h _ _}))
def nI (a:GE):GE:=λh M=>(a h M).bind λx M=>match x with
 | .fn o=>(match b5 M o with
   |some q=>.ok (.int q.2.length) M
   |none=>.bad)
 |_=>.bad
section
variable{fa:Fa}{X:Cx}{a:Expr}{ga:GE}{p pos:Pos}
def MJ (hd:eV fa):cn X (.builtin "len") (λxs H Q=>∃μ M o q v,xs=[v]/\RelM fa X.K μ H M/\Rep fa X.K μ H (.fn o) v/\b5 M o=some q/\Q (.int q.2.length) H):=by
 intro j s σ H xs us Q I r h;obtain(μ|M|o|q|v|rfl|F|P|e|k):=h;obtain(b|J|L|R|rfl|ho|U|S|E|W|u|dp|nd):=mT hd I F P e;cases r with
 | cons r O=>
   cases O;obtain rfl:=(r);obtain(z|y|ob|h1|h2|h3):=(I.hok b _ E);have B:(R.map (entryOfKey J.knd)).toArray.size=q.2.length:=by
    rw[u,RW,RK,RK];show(Paired.length dp).symm
   show Mg y h1 h2.1 h3 ?_ λt Y=>{.int q.2.length,H,I.tok _,{t,by rw[B]},k}
   rw[RW];rw[sizeLine_eq] at z;omega
def Nt (hd:eV fa)(J:Gl X "len")(hm:X.mg "len"=none)(I:DE fa X a ga)(he:notStar a=true):DE fa X (.Call (.Name "len" p) [a] [] pos) (nI ga):=
 bF (f9 (MJ hd) J hm PySem.boot_len (bS I cy (by rw[bJ he])) `d `d (by rw[bJ he]) `r) λS H Q ⟨P,R,M,B,F,h⟩=>t1 B F h λx y v O u L E j r1 h1=>by
  cases x with
  | fn o=>
    dsimp only at h1;cases e:b5 y o with
    |none=>rw[e] at h1;show h1.elim
    |some q=>rw[e] at h1;show{u,y,o,q,v,rfl,j,r1,e,aO j (aY.ext h1 L) rfl}
  |_=>show h1.elim
end
def iY (u y:GE):Env->List D->Mem->Res (List D):=λj h M=>(u j M).bind λk M=>(y j M).bind λv M=>match h with
 | [.fn o]=>(match b5 M o with
   |some q=>if isKey q.1 k=true/\q.2.length<1000000 then .ok h (M.set (o-5000) (.int q.1::putD q.2 k v)) else .bad
   |none=>.bad)
 |_=>.bad
def jv (c:Int)(n:Nat)(t:fR)(u:GW)(g:GB):GE:=λj M=>(u j M).bind λw M=>(cY (cJ t g (List.replicate n none++j)) w [.fn (aP M.length)] (M++[[.int c]])).bind λh M=>match h with
 |[d]=>.ok d M
 |_=>.bad
def xP (a:Addr):PA:=λj _ h=>∃o,h=[.fn o]/\5000<=o/\j.ob o=some a
def xP.stab:zd (xP a):=(by rintro _ _ _ _ _ x ⟨o,h1,h2,h3⟩;show{o,h1,h2,x.obs _ _ h3})
def CI (E y h j:Expr)(u:Scope)(pos:Pos)(B:RJ)(d:Addr)(env:Tu) :
 compTurn (.DictComp E y [{h,j,[],0}] u pos) 0 B (.ref d) env=(standAt j.pos >>= λ_=>pyNext B >>= λr=>match r with
  |none=>pure (.done .next)
  |some v=>letOwnedTupleGo h B v >>= λ_=>assign h env v >>= λ_=>(eval E env >>= λF=>holding [F] (eval y env) >>= λH=>standAt {E.pos with endLine:=y.pos.endLine,endCol:=y.pos.endCol} >>= λ_=>holding [F,H] (dictSet d F H)) >>= λ_=>again (.compLoop (.DictComp E y [{h,j,[],0}] u pos) 0 B (.ref d) env)):=`r
section
variable{fa:Fa}{X:Cx}{a:Addr}
set_option tactic.hygienic true in
def Jz (hu:Rm X)(hd:eV fa)(hk:DE fa X kx gk)(hv:DE fa X vx gv):DB fa X (xP a) a [] (eval kx X.env >>= λkv=>holding [kv] (eval vx X.env) >>= λvv=>standAt {kx.pos with endLine:=vx.pos.endLine,endCol:=vx.pos.endCol} >>= λ_=>holding [kv,vv] (dictSet a kv vv)) (iY gk gv):=by
 rintro B s P H Q μ Z M _ I W hM hc ⟨o,rfl,ho,Y⟩ h;obtain(k|M1|e|h):=aI h;obtain(v|M2|e2|h):=aI h;dsimp only at h;cases S:b5 M2 o with
 |none=>rw[S] at h;show h.elim
 | some q=>
   rw[S] at h;dsimp only at h;split at h
   .next c=>
    show tqa (aT (hk B s P H (λv y=>∃j,Ext μ H j y/\RelM fa X.K j y M1/\Rep fa X.K j y k v) I {μ,Z,M,W,hM,?_}) λuk s1 ⟨wk,y,I1,rk,j,E,F,r1⟩=>?_)
    .rw[e];show λv y j E F r1=>⟨j,E,F,r1⟩
    show tqa (tqo (aT (hv B s1 P y (λw L=>∃u,Ext j y u L/\RelM fa X.K u L M2/\Rep fa X.K u L v w) I1 {j,Z,M1,W.ext E,F,?_}) λuv s2 ⟨wv,L,I2,rv,u,O,m2,r2⟩=>?_))
    .rw[e2];show λv y j E F r1=>⟨j,E,F,r1⟩
    have J:=O.obs _ _ (E.obs _ _ Y);obtain(a'|b|kd|kk|xs|ea|rfl|hi|hz|dd|U):=qW hd I2 m2 {a,rfl,.inr {hd.of _ ho,J}} (r1.ext O) rk rv r2 S c.1 c.2;cases ea;show tqa (wpAny_standAt (tqo (lP (hsz:=hz) (kd.room0 hu) hi dd λh' R hs=>?_)));obtain(H'|I'|x'|m'):=U h' _ R hs;show{P,H',I',h P H' u ((E.trans O).trans x').toD (((W.ext E).ext O).ext x') m' {o,rfl,ho,x'.obs _ _ J}}
   .exact h.elim
def vR {c:Int}{rest:List Ua}(hc:c=77\/c=78)(hd:eV fa)
 (S:fh X own bn scope) (Y:X.calm=true) (hi:DI fa X tg iter gw) (B:Block fa X xP own bn scope tg t W body g) (hT:∀(it a:Addr) (env:Tu),compTurn (.DictComp kx vx ({tg,iter,ifs,0}::rest) scope pos) 0 (.ref it) (.ref a) env=(standAt iter.pos >>= λ_=>pyNext (.ref it) >>= λr=>match r with
  |none=>pure (.done .next)
  |some v=>letOwnedTupleGo tg (.ref it) v >>= λ_=>assign tg env v >>= λ_=>body a env >>= λ_=>again (.compLoop (.DictComp kx vx ({tg,iter,ifs,0}::rest) scope pos) 0 (.ref it) (.ref a) env))) (hW:∀i∈W,i∉slots t) (hn:∀i∈slots t++W,i<own.length)
 (hs:∀x,foldedSetIterable iter X.env x=pure x)
 (I:Inv X pins σ H s) (hE:bz fa X.K μ H σ Z) (hM:RelM fa X.K μ H M) (h:ae (jv c own.length t gw g Z M) (aY fa X.K μ H Q))
 (post:∀(a C:Addr) (s':RO) (E:Hp),Inv X pins σ E s'->Q (.ref a) E->(∃m,s'.heap.Ns C m)->(∀σ2 F s2,Inv X pins σ2 F s2->(E C=none->F C=none)->F C=none/\∀U,TB C s2.heap U->Inv X pins σ2 F {s2 with heap:=U})->E C=none->(C≠X.env.locals/\∀x c,X.env.cells.lookup x=some c->c≠C)->compPost (model X.prog X.w) X.A X.xe use QQ (.ref a) C (.ok .next) s') :
 wpAny (model X.prog X.w) X.A (comprehension (.DictComp kx vx ({tg,iter,ifs,0}::rest) scope pos) scope X.env p0 newDict false (eval iter X.env) use) QQ X.xe s:=by
 obtain(w|M1|ew|q):=aI h;obtain(acc|M2|ea|q2):=aI q;obtain(cl|hcl|R|P):=qe λy hy hf=>I.ok.has y.1 (S.free y hy hf);show wpAny_comprehension_free rfl hs hcl S.kind S.loc ?_;show aT (hi pins s σ H (λJ H1=>∃L,Ext μ H L H1/\RelM fa X.K L H1 M1/\c7 fa X.K L H1 w J) I {μ,Z,M,hE,hM,?_}) λv s1 h1=>aT h1 λitv s2 h2=>?_
 .rw[ew];show λJ H1 L x1 m1 wk=>⟨L,x1,m1,wk⟩
 obtain(it|fp|tn|J|F|ei|I2|T|st2|f2|μ2|x2|m2|wk):=h2;subst ei;show tqa (wpAny_alloc (tqb ?_));have j:sysModules<s2.heap.objs.size:=Nat.lt_trans `d (I2.mod.glob.keeps I2.bk).lt
 have ha:=I2.hok.fresh (RN _);have I3:Inv X pins σ (upd F s2.heap.objs.size (.dn [])) {s2 with heap:=s2.heap.push {cls:=.type "dict",data:=.dict #[]}}:=
  I2.laid (λb o e=>RI _ e) (RN _) {S5 _,Sw.mpr (SK (Se j)),_,RX _ rfl,⟨rfl,rfl,rfl⟩,rfl}
 generalize hs3:({s2 with heap:=s2.heap.push {cls:=.type "dict",data:=.dict #[]}}:RO)=s3 at I3 ⊢
 have k3:∀b o,s2.heap.get? b=some o->s3.heap.get? b=some o:=λb o e=>by rw[<- hs3];show RI _ e
 have fo2:=T.obj _ _ st2;have f3:∀b∈fp,eO X pins (upd F s2.heap.objs.size (.dn [])) b:=λb j=>by
  obtain(o|e|_):=fo2 b j;show{by rw[az (Se (R0 e))];show(f2 b j).1,(f2 b j).2}
 have fo3:∀b∈fp,∃o,s3.heap.get? b=some o:=λb j=>let{o,e,_}:=fo2 b j;{o,k3 b o e}
 obtain(CL|hce):=GI S R P (s3.heap.push {cls:=.type "dict",data:=.dict #[]}) (TQ ..);generalize O:cellsFrom (s3.heap.objs.size+1) scope.names cl=cl' at CL hce;show r6 ?_;rw[O];have u:(pushCells (s3.heap.push {cls:=.type "dict",data:=.dict #[]}) scope.names).Ns s3.heap.objs.size (λ_=>none):=(Heap.Ns.new s3.heap (.type "dict")).keeps (pushCells_keeps _ _);have k4:∀b o,s3.heap.get? b=some o->(pushCells (s3.heap.push {cls:=.type "dict",data:=.dict #[]}) scope.names).get? b=some o:=λb o e=>pushCells_keeps _ _ b o (RI _ e);generalize pushCells (s3.heap.push {cls:=.type "dict",data:=.dict #[]}) scope.names=h₁ at u k4 hce ⊢;clear hcl O R P cl
 rename List (Str×Addr)=>cl
 have I4:=u9 (t':=s3.toks) I3 S CL f3 fo3 u k4 hce;have ok4:=I4.ok;have f4:∀b∈fp,eO (fP X own bn scope cl s3.heap.objs.size fp s3 (upd F s2.heap.objs.size (.dn []))) [] (upd F s2.heap.objs.size (.dn [])) b:=λb j=>
  {(f3 b j).1,(ok4.exf b j).1,ok4.exfs b j,.inl j,(ok4.exf b j).2,λp hp=>nomatch hp}
 have st4:=T.keep _ _ _ st2 λb j o e=>k4 b o (k3 b o e);have x3:=Ext.dicNew m2 ha;have m3:=m2.dicNew ha hc;have go:=qZ xP.stab (X:=fP X own bn scope cl s3.heap.objs.size fp s3 (upd F s2.heap.objs.size (.dn []))) (acc:=[.fn (aP M1.length)]) (Q:=λ_ E=>Q (.ref s2.heap.objs.size) E) (hT it s2.heap.objs.size _) ⟨rfl,rfl⟩ rfl Y T (B.pg _ _ _ _ _) (B.db _ _ _ _ _ _) hW I4 st4 f4
  (t9 own.length ((hE.ext x2).ext x3)) m3 (sf hn) {_,rfl,TX _ _,if_pos rfl} (rn wk x3.toExtW) (by
   rw[ea];rintro σ' E μ' z1 z2 z3 ⟨o,rfl,ho,hob⟩;have z:Ext _ _ μ' E:={z1.toExtW,z1.pr,λb j=>z1.pk b j λe=>by
    obtain((vs|q)|_):=m2.pv b j;rw[e,ha] at q;cases q}
   show q2 (.ref s2.heap.objs.size) E μ' ((x2.trans x3).trans z) z3 {_,rfl,.inr {hd.of _ ho,hob}})
 have go':codeAny (model X.prog X.w) X.A (.compLoop (.DictComp kx vx ({tg,iter,ifs,0}::rest) scope pos) 0 (.ref it) (.ref s2.heap.objs.size) (compEnvC scope cl s3.heap.objs.size X.env)) (compPost (model X.prog X.w) X.A X.xe use QQ (.ref s2.heap.objs.size) s3.heap.objs.size) {s3 with heap:=h₁}:=
  codeAny_mono go λr s' ⟨er,σ',E,I',z⟩=>by
   subst er;show post _ _ s' E (comp_back I3 f3 I') z (let{m,hn,_}:=I'.loc;⟨m,hn⟩) (λσ2 F s2' I2' hf=>{hf I'.free,λU hs''=>sd I3 (hf I'.free) I2' hs''}) I'.free {SF I3.lt,λx c e z=>by
    obtain(v|q):=I3.cell x c e;show absurd q.lt (by rw[z];show S9 _)}
 show codeAny_compStart_dict go' (T.self _ 0 _ _ _ st4 go')
def JC {c:Int}{E y F j:Expr}{pos:Pos}(hc:c=77\/c=78)(hd:eV fa)
 (S:fh X own bn scope) (u:X.calm=true) (hi:DI fa X F j gw) (B:Block fa X xP own bn scope F t [] (λa env=>eval E env >>= λL=>holding [L] (eval y env) >>= λR=>standAt {E.pos with endLine:=y.pos.endLine,endCol:=y.pos.endCol} >>= λ_=>holding [L,R] (dictSet a L R)) (iY gk gv)) (hn:∀i∈slots t++[],i<own.length)
 (hs:∀x,foldedSetIterable j X.env x=pure x):DE fa X (.DictComp E y [{F,j,[],0}] scope pos) (jv c own.length t gw (iY gk gv)):=by
 rintro P s σ H Q I ⟨μ,Z,M,Y,hM,h⟩;show vR hc hd S u hi B (λit a env=>CI E y F j scope pos (.ref it) a env) (λ_ h=>nomatch h) hn hs I Y hM h ?_;rintro a C s' O U q ⟨m,hn⟩ v hf _;show{m,hn,λW J=>{.ref a,O,(v σ O s' U id).2 W J,rfl,q}}
end
def ET (hh:A.in1.handled=none)(U:p≠I)(tr:Nat->Bool)(G:Heap->Prop)(L:∀h u,G h->(∀b o,b∉[I]->h.get? b=some o->u.get? b=some o)->G u)
 (Y:∀i v (s:RO) (Q:Bool->RO->Prop) (E:RJ->RO->Prop),items[i]?=some v->G s.heap->(∀t,Q (tr i) {s with toks:=t})->wpAny (model prog w) A.in1 (truthy v) Q E s):∀(k i:Nat) (s:RO),items.size-i=k->i<=items.size->(s.heap.IsListIter I p i/\s.heap.IsList p items)->G s.heap->
 (∀u tk,G u->R (.ok (.ret (.bool (((List.range items.size).drop i).any tr)))) {s with heap:=u,toks:=tk})->codeAny (model prog w) A (.builtin "any.loop" {[.ref I],[]}) R s:=by
 have W:=Walks.list (prog:=prog) (w:=w) hh I p U items;intro k;induction k with
 | zero=>
   intro i s hk hi B g M;have S:i=items.size:=`a
   subst S;show codeAny_builtin F.entry_any_loop ?_;rw[Te F.plain_any_loop _];show tqa (W.done s _ _ B λu tk j=>?_);show tqa (wpAny_rule (tqb ?_));have:=M u tk (L _ _ g j);rw[List.drop_of_length_le `s] at this
   show this
 | succ k ih=>
   intro i s hk hi B g M;have y:i<items.size:=`a
   have hd:(List.range items.size).drop i=i::(List.range items.size).drop (i+1):=by
    rw[List.drop_eq_getElem_cons (~~~y)];simp
   show codeAny_builtin F.entry_any_loop ?_;rw[Te F.plain_any_loop _];show tqa (W.item i s _ _ y B λv u tk hP H j=>?_);show tqa (tqo (Y i v _ _ _ hP (L _ _ g j) λt=>?_));show tqa (wpAny_letGo ?_);cases hb:tr i with
   | false=>
     show tqb {plainId_quiet F.plain_any_loop _,ih (i+1) _ `a y H (L _ _ g j) λP J O=>?_}
     have:=M P J O;rw[hd,List.any_cons,hb,Bool.false_or] at this;show this
   | true=>
     show tqa (wpAny_rule (tqb ?_));have:=M u t (L _ _ g j);rw[hd,List.any_cons,hb,Bool.true_or] at this;show this
def range_any (bs:List Bool):((List.range bs.length).any λi=>(bs[i]?).getD false)=bs.any id:=by
 rw[Tn,Ur,Ur];constructor
 .rintro⟨i,_,e⟩;cases z:bs[i]? with
  |none=>rw[z] at e;cases e
  |some b=>rw[z] at e;show{b,Sj z,e}
 .rintro⟨b,j,e⟩;obtain(i|h):=List.getElem?_of_mem j;show{i,Tr.mpr (RH.mp h).1,by rw[h];show e}
def ot (M:Mem):D->Option Bool
 |.bl b=>some b
 |d=>(ez M d).map λxs=>!xs.isEmpty
def CK (h:ot M d=some b):d=.bl b\/∃xs,ez M d=some xs/\b=!xs.isEmpty:=by
 cases d with
 |bl c=>cases h;show .inl rfl
 | _=>
   dsimp[ot] at h;obtain(xs|e1|e2):=R3.mp h;show .inr ⟨xs,e1,e2.symm⟩
noncomputable def jG (M:Mem):List D->Option (List Bool)
 |[]=>some []
 |d::r=>(ot M d).bind λb=>(jG M r).map (b::·)
theorem tH:∀{ds:List D}{bs:List Bool},jG M ds=some bs->bs.length=ds.length/\∀(i:Nat) d,ds[i]?=some d->∃b,bs[i]?=some b/\ot M d=some b
 |[],_,h=>by cases h;show{rfl,λ_ _ e=>by simp at e}
 | d::ds,_,h=>by
   obtain(b|e|h):=Sf.mp h;obtain(bs|e2|rfl):=R3.mp h;obtain(h1|h2):=tH e2;show{by simp[h1],λi j z=>?_}
   cases i with
   |zero=>cases z;show⟨b,rfl,e⟩
   |succ i=>show h2 i j z
def oV (a:GE):GE:=λj M=>(a j M).bind λx M=>match ez M x with
 | some h=>(match jG M h with
   |some bs=>.ok (.bl (bs.any id)) M
   |none=>.bad)
 |none=>.bad
section
variable{fa:Fa}{X:Cx}{a:Expr}{ga:GE}{p pos:Pos}
def OV:cn X (.builtin "any") (λxs H Q=>∃μ M ds bs p vs,xs=[.ref p]/\X.calm=true/\RelM fa X.K μ H M/\cQ X.K H p vs/\aH fa X.K μ H ds vs/\jG M ds=some bs/\Q (.bl (bs.any id)) H):=by
 intro y s σ H xs us Q I r h;obtain(μ|M|ds|bs|p|vs|rfl|hc|hM|hq|rl|eb|q):=h;obtain(u|rfl|rx):=vals1 r;cases rx;obtain(j|S|pl|hz):=I.list hq;obtain(hl|hb):=tH eb;have P:=pl.lt;show call_function_tree F.kind_any F.plain_any F.entry_any (F.args_any1 _) ?_;show tqa (tqb ?_);show tqa (wpAny_pyIter_list pl.isList ?_);show tqb {plainId_quiet F.plain_any_loop _,ET (I.ok.hd hc) (Se P) (λi=>(bs[i]?).getD false) (λh=>∀b o,s.heap.get? b=some o->h.get? b=some o) (λh h' g k b o e=>k b o (λz=>by rw[RS.mp z] at e;show absurd (R0 e) (S9 _)) (g b o e)) ?_ j.toArray.size 0 _ rfl (S5 _) {{_,RX _ rfl,rfl,rfl},pl.isList.push _} (λb o e=>RI _ e) λh' tk g=>?_}
 .intro i v s' Q' E' e g O;have e:j[i]?=some v:=by simpa using e
  have Y:i<vs.length:=by rw[S.length];show(RH.mp e).1
  obtain(d|ed|rd):=rl.getV (RZ Y);obtain(u|W|E):=S.get (RZ Y);rw[e] at W;cases W;obtain(b|e1|e2):=hb i d ed;rw[e1] at O;have list:∀xs,ez M d=some xs->b=!xs.isEmpty->wpAny (model X.prog X.w) X.A.in1 (truthy v) Q' E' s':=λxs J L=>by
   obtain(a|ws|ev|hw|U):=bR hM rd J;rw[ev] at E;obtain rfl:=(E);have I':Inv X y σ H {s with heap:=s'.heap,toks:=s.toks}:=I.kept g
   obtain(its'|B|R|hz'):=I'.list hw;have hlen:=B.length;have hs:=sizeLine_eq;show wpAny_truthy_list R.isList (by dsimp[RW];omega) ?_
   rw[lL B,show ws.isEmpty=xs.isEmpty by rw[Tn,List.isEmpty_iff_length_eq_zero,List.isEmpty_iff_length_eq_zero,U.length],<- L]
   show O _
  rcases CK e2 with rfl|⟨xs,J,L⟩
  .rw[show vs[i]=V.bl b from rd] at E;obtain rfl:=(E);show tqp (O _)
  .exact list xs J L
 .rw[List.drop_zero,RW,<- S.length,rl.length,<- hl,range_any];show{.bl _,H,I.kept g,rfl,q}
def Pk (L:X.calm=true)(O:Gl X "any")(hm:X.mg "any"=none)(J:DE fa X a ga)(he:notStar a=true):DE fa X (.Call (.Name "any" p) [a] [] pos) (oV ga):=
 bF (f9 (OV) O hm `k (bS J cy (by rw[bJ he])) `d `d (by rw[bJ he]) `r) λσ H Q ⟨W,Y,M,E,I,h⟩=>t1 E I h λx u v U y S F j r1 h1=>by
  cases e:ez u x with
  |none=>rw[e] at h1;show h1.elim
  | some B=>
    rw[e] at h1;dsimp only at h1;cases e2:jG u B with
    |none=>rw[e2] at h1;show h1.elim
    | some bs=>
      rw[e2] at h1;obtain(a|R|rfl|P|r):=bR j r1 e;show{y,u,B,bs,a,R,rfl,L,j,P,r,e2,aO j (aY.ext h1 S) rfl}
end
def xb (c:Int)(gk gv:GE):GE:=λj M=>(gk j (M++[[.int c]])).bind λk u=>(gv j u).bind λv h=>match b5 h (aP M.length) with
 |some q=>if isKey q.1 k=true/\q.2.length<1000000 then .ok (.fn (aP M.length)) (h.set (aP M.length-5000) (.int q.1::putD q.2 k v)) else .bad
 |none=>.bad
section
variable{fa:Fa}{X:Cx}{kx vx:Expr}{gk gv:GE}{pos:Pos}
set_option tactic.hygienic true in
def JB (c:Int)(hc:c=77\/c=78)(hu:Rm X)(hd:eV fa)(hk:DE fa X kx gk)(hv:DE fa X vx gv):DE fa X (.Dict [some kx] [vx] pos) (xb c gk gv):=by
 rintro u s Y H Q I ⟨μ,Z,M,hE,hM,h⟩;obtain(k|M1|e1|h):=aI h;obtain(v|M2|e2|h):=aI h;cases O:b5 M2 (aP M.length) with
 |none=>rw[O] at h;show h.elim
 | some q=>
   rw[O] at h;dsimp only at h;split at h
   .next cc=>
    have hb:sysModules<s.heap.objs.size:=Nat.lt_trans `d (I.mod.glob.keeps I.bk).lt
    have ha:=I.hok.fresh (RN _);have I0:Inv X u Y (upd H s.heap.objs.size (.dn [])) {s with heap:=s.heap.push {cls:=.type "dict",data:=.dict #[]}}:=
     I.laid (λb o e=>RI _ e) (RN _) {S5 _,Sw.mpr (SK (Se hb)),_,RX _ rfl,⟨rfl,rfl,rfl⟩,rfl}
    have U:=Ext.dicNew hM ha;have m0:=hM.dicNew ha hc;have R:(ny μ M.length s.heap.objs.size).ob (aP M.length)=some s.heap.objs.size:=if_pos rfl;show wpAny_Dict_any rfl rfl `s (R1 rfl) ?_
    show tqa (aT (hk u _ Y _ (λv B=>∃j,Ext (ny μ M.length s.heap.objs.size) (upd H s.heap.objs.size (.dn [])) j B/\RelM fa X.K j B M1/\Rep fa X.K j B k v) I0 {_,Z,_,hE.ext U,m0,?_}) λuk s1 ⟨wk,B,I1,rk,j,E,n1,r1⟩=>?_)
    .rw[e1];show λv B j E S r1=>⟨j,E,S,r1⟩
    show tqa (tqo (tqa (aT (hv u s1 Y B (λw J=>∃y,Ext j B y J/\RelM fa X.K y J M2/\Rep fa X.K y J v w) I1 {j,Z,M1,(hE.ext U).ext E,n1,?_}) λuv s2 ⟨wv,J,I2,rv,y,W,m2,r2⟩=>?_)))
    .rw[e2];show λv B j E S r1=>⟨j,E,S,r1⟩
    show tqa (wpAny_standAt (tqb ?_));show tqa (tqo (tqb (tqb ?_)));have F:=W.obs _ _ (E.obs _ _ R);obtain(a'|b|kd|kk|xs|ea|rfl|hi|hz|dd|P):=qW hd I2 m2 {_,rfl,.inr {hd.of _ (TX _ _),F}} (r1.ext W) rk rv r2 O cc.1 cc.2;cases ea;unfold storeAll;rw[List.forIn_cons];show tqa (tqa (lP (hsz:=hz) (kd.room0 hu) hi dd λh' L hs=>tqb ?_));obtain(H'|I'|x'|m'):=P h' _ L hs;show tqb {.ref s.heap.objs.size,H',I',rfl,h _ H' y (((U.trans E).trans W).trans x') m' {_,rfl,.inr {hd.of _ (TX _ _),x'.obs _ _ F}}}
   .exact h.elim
end
section
variable{prog:Sx}{w:Sr}{A:Ti}{E:RJ->RO->Prop}{s:RO}{it d:Addr}{i ep:Nat}{od:Obj}{es:Array S4}{e:S4}{Q:Option RJ->RO->Prop}{QV:RJ->RO->Prop}
def Bh (hd:(d==sysModules)=false)(ho:s.heap.get? d=some od)(v:od.ExactDict)(h:od.data=.dict es ep)
 (u:QV (.ref s.heap.objs.size) {s with heap:=s.heap.push {cls:=.type "dict_keyiterator",data:=.fields #[.ref d,.int 0 0,.int es.size 0,.int ep 0]}}) :
 wpAny (model prog w) A (pyIter (.ref d)) QV E s:=by
 have j:s.TypeIs (.ref d) "dict":=⟨od,ho,v.1⟩;show wpAny_pyIter_slot j F.slot_dict_iter (wpAny_call_entry F.slot_dict_iter j F.entry_dict_iter ?_ (F.args_dict_iter_1 _));show tqa ?_;show tqa (wpAny_notOrdered_dict j ?_);show tqb ?_;change wpAny _ _ (Builtin.Dict.showsAll d >>= _) _ _ s;unfold Builtin.Dict.showsAll;rw[if_neg (by rw[hd];show R6)]
 show tqa (tqb ?_);show tqa (wpAny_dictEntries ho h ?_);show tqa (wpAny_dictEpoch ho h ?_);show tqa (wpAny_newObj_type (tqb {_,rfl,"dict_keyiterator",_,{_,RX _ rfl,rfl},F.slot_dict_keyiterator_next.lookup,?_}));simpa[rawInt] using u
def uM (h:s.heap.IsKeyIter it d i es.size ep)(v:s.heap.get? d=some od)(u:od.data=.dict es ep)(I:es[i]?=some e)
 (B:∀y,y.IsKeyIter it d (i+1) es.size ep->TB it s.heap y->Q (some e.key) {s with heap:=y}):wpAny (model prog w) A (pyNext (.ref it)) Q E s:=by
 obtain(o|ho|H|hd):=id h;show tqa (wpAny_attempt (wpAny_callSpecial?_slot h.typeIs Uo
  (wpAny_call_entry Uo h.typeIs F.entry_dict_keyiterator_next ?_ (F.args_dict_keyiterator_next_1 _))))
 show tqa (tqb ?_);show tqa ?_;show tqa ?_;first|show tqa (wpAny_typeNameOfWhole_keyiter h.typeIs (tqb ?_))|show tqa (wpAny_typeNameOf_keyiter h.typeIs (tqb ?_))
 show tqa (wpAny_fieldsOf ho hd ?_);change wpAny _ _ (if (Value.ref d==Value.none)=true then _ else _) _ _ s;rw[if_neg (show ¬ ((Value.ref d==Value.none)=true) from R6)];show tqa (tqb ?_);show tqa (wpAny_dictEntries v u ?_);rw[if_neg `s]
 show tqa (tqb ?_);show tqa (wpAny_dictEpoch v u ?_);rw[if_neg `s]
 show tqb ?_;dsimp[show ¬ ((i:Int)<0) from by omega,if_false,Tt,I]
 show tqa ?_;first|show tqa (wpAny_typeNameOfWhole_keyiter h.typeIs (tqb ?_))|show tqa (wpAny_typeNameOf_keyiter h.typeIs (tqb ?_))
 show tqa (wpAny_isOneOf_keyiter h.typeIs ?_);change wpAny _ _ (setField (.ref it) 1 (rawInt ((i:Int)+1)) >>= _) _ _ s;show tqa (wpAny_setField ho hd `s ?_)
 have j:(s.heap.update it (Obj.mapFields (·.setIfInBounds 1 (rawInt ((i:Int)+1))))).IsKeyIter it d (i+1) es.size ep:=
  {_,SD _ ho (Uq (Tp hd _)),(Obj.cls_mapFields ..).trans H,by rw[Tp hd];simp[rawInt]}
 show tqa (tqo ?_);show tqa (wpAny_isOneOf_keyiter j.typeIs ?_);show tqb (tqb {_,rfl,tqb (B _ j (Td ..))})
def wY (hh:A.handled=none)(h:s.heap.IsKeyIter it d i es.size ep)(u:s.heap.get? d=some od)(j:od.data=.dict es ep)(v:es.size<=i)
 (H:∀y,Heap.ExtBut it s.heap y->Q none {s with heap:=y}):wpAny (model prog w) A (pyNext (.ref it)) Q E s:=by
 obtain(o|ho|I|hd):=id h;show tqa (wpAny_attempt (wpAny_callSpecial?_slot h.typeIs Uo
  (wpAny_call_entry Uo h.typeIs F.entry_dict_keyiterator_next ?_ (F.args_dict_keyiterator_next_1 _))))
 show tqa (tqb ?_);show tqa ?_;show tqa ?_;first|show tqa (wpAny_typeNameOfWhole_keyiter h.typeIs (tqb ?_))|show tqa (wpAny_typeNameOf_keyiter h.typeIs (tqb ?_))
 show tqa (wpAny_fieldsOf ho hd ?_);have B:Builtin.Dict_items.ownsTuple "dict_keyiterator"=false:=`d
 change wpAny _ _ (if (Value.ref d==Value.none)=true then _ else _) _ _ s;rw[if_neg (show ¬ ((Value.ref d==Value.none)=true) from R6)];show tqa (tqb ?_);show tqa (wpAny_dictEntries u j ?_);rw[if_neg `s]
 show tqa (tqb ?_);show tqa (wpAny_dictEpoch u j ?_);rw[if_neg `s]
 show tqb ?_;dsimp[show ¬ ((i:Int)<0) from by omega,if_false,Tt,Array.getElem?_eq_none v]
 show tqa ?_;first|show tqa (wpAny_typeNameOfWhole_keyiter h.typeIs (tqb ?_))|show tqa (wpAny_typeNameOf_keyiter h.typeIs (tqb ?_))
 change wpAny _ _ (setField (.ref it) 0 .none >>= _) _ _ s;show tqa (wpAny_setField ho hd `s ?_)
 show tqa ?_;show tqa (wpAny_newObj_type ?_ (by size_fits))
 show tqa (wpAny_of_eq (by first|rfl|(dsimp[firstArgMember];rfl)) ?_)
 show wpAny_newObj_type ?_ (by size_fits)
 show tqa (wpAny_handled ?_);rw[show A.in1.handled=none from hh];show tqa (tqb (wpAny_throw ?_));show tqa (wpAny_isInstance {_,RX _ rfl,rfl} isSubtype_stop ?_);show tqb (H _ (((Td ..).extBut.push _).push _))
end
noncomputable def NU (a:Addr)(n:Nat)(f:S4->RJ):It:=
 {λi H=>∃h e x,H a=some (.dn h)/\h.length=n/\h[i]?=some e/\RelV x (f e),λi H x j=>j=H/\∀h e,H a=some (.dn h)->h[i]?=some e->RelV x (f e),λi H=>∃h,H a=some (.dn h)/\h.length=n/\n<=i}
def zU {K:RG}(a u:Addr)(n:Nat):Turn P w K tg (NU a n (·.key)) [u] u (λi h=>h.IsKeyIter u a i n n) where
 mem:=`s
 obj:=λi h st b j=>by
  have e:b=u:=by simpa using j
  subst e;obtain(o|e|c|d):=st;show{o,e,λv z=>by rw[d] at z;cases z}
 keep:=λi h h' st k=>st.at λo e=>k u `s o e
 item:=by
  intro X U hw S hc i B s σ H E I hf st Y;subst U hw S;obtain(es|e|x|J|rfl|he|rx):=Y;obtain(z|y|o|h1|h2|h3):=(I.hok a _ J);obtain(L|f1|f2|O|Q|R):=hf u `s
  show uM (~~~st) h1 h3 (~~~he) λh' F sb=>?_
  have I1:=I.turned (t':=s.toks) (λb o j e=>(sb.2 b j).trans e) L f1 O Q R;obtain(o'|e'|c'|d'):=id F;show{e.key,rfl,pX e' c' d' `d {x,H,I1,rx,{rfl,λes' e2 q1 q2=>by rw[J] at q1;cases q1;rw[he] at q2;cases q2;show rx},by simpa using F,λb j=>(hf b j).1}}
 done:=by
  intro X U hw S hc i B s σ H E I hf st Y;subst U hw S;obtain(es|J|rfl|hl):=Y;obtain(z|y|o|h1|h2|h3):=(I.hok a _ J);obtain(L|f1|f2|O|Q|R):=hf u `s
  show wY (I.ok.hd hc) (~~~st) h1 h3 (~~~hl) λh' eb=>{rfl,I.turned (λb o j e=>eb b o j e) L f1 O Q R}
 self:=λ_ _ _ _ _ st h=>wpAny_pyIter_keyiter st h
def dW (o n:Nat)(f:D->D):Walk:=λM=>match b5 M o with
 |some q=>if q.2.length=n then some (q.2.map f) else none
 |none=>none
def e9 (f:D->D)(ga:GE):GW:=λh M=>(ga h M).bind λx M=>match x with
 | .fn o=>(match b5 M o with
   |some q=>.ok (dW o q.2.length f) M
   |none=>.bad)
 |_=>.bad
noncomputable def Tz.get {j u:Type}{F:j->u->Prop}:∀{l:List j}{r:List u}{i:Nat}{a:j},Tz F l r->l[i]?=some a->∃b,r[i]?=some b/\F a b
 |_,_,0,_,.cons h t,e=>by cases e;show{_,rfl,h}
 |_,_,i+1,_,.cons h t,e=>Tz.get t (i:=i) e
section
variable{fa:Fa}{X:Cx}{K:RG}{μ:Mu}{H:Hp}{M:Mem}
set_option tactic.hygienic true in
def qV (hd:eV fa)(B:RelM fa K μ H M)(E:μ.ob o=some a)(e:b5 M o=some q):∃(es:List S4) (h:List (D×D)),H a=some (.dn es)/\q.2=h.map ix/\Tz (mZ fa K μ H q.1) h es:=by
 unfold b5 at e;split at e
 .next ho=>
  split at e
  .next c es F=>
   split at e
   .next J=>
    cases e;have v:aP (o-5000)=o:=Nat.add_sub_cancel' ho;rcases B.at' _ _ F with⟨b,P,h1,_⟩|⟨b,h1,h2,⟨n,C,O,fs,u,h3,h4,y,j,I⟩|⟨L,u,h,h3,h4,y,j,I⟩⟩
    .have:=B.sep _ _ h1;rw[v,E] at this;cases this
    .have j:=(List.cons.inj j).1;have j:=D.int.inj j;rcases J with rfl|rfl
     .have:n=77:=`a
      rw[this,hd.n77] at h3;cases h3
     .have:n=78:=`a
      rw[this,hd.n78] at h3;cases h3
    .rw[v,E] at h1;cases h1;obtain(e1|e2):=List.cons.inj y;cases D.int.inj e1;show⟨u,h,h3,e2,j⟩
   .cases e
  .cases e
 .cases e
set_option tactic.hygienic true in
def Ci (hd:eV fa)(R:∀{μ:Mu}{H:Hp}{c:Int}{p:D×D}{e:S4},mZ fa K μ H c p e->∃v,RelV v (g e)/\Rep fa K μ H (f (ix p)) v)(Q:μ.ob o=some a):c7 fa K μ H (dW o n f) (NU a n g):=λU W P ds x B e=>by
 unfold dW at e;cases eq:b5 P o with
 |none=>rw[eq] at e;cases e
 | some q=>
   rw[eq] at e;dsimp only at e;split at e
   .next hl=>
    cases e;obtain(F|L|J|u|pr):=qV hd B (x.obs _ _ Q) eq;have j:F.length=n:=by rw[<- hl,u,RK];show(Paired.length pr).symm
    show{λi d h=>?_,λi h=>{F,J,j,by rw[RK,hl] at h;show h}}
    rw[Sh,u,Sh] at h;cases I:L[i]? with
    |none=>rw[I] at h;cases h
    | some p=>
      rw[I] at h;cases h;obtain(en|E|r):=Tz.get pr I;obtain(v|O|rd):=R r;show{⟨F,en,v,J,j,E,O⟩,λy Y ⟨e2,S⟩=>?_};subst e2;rw[(S F en J E).inj O];show{.refl,B,rd}
   .cases e
def Je {c:Int}(h:mZ fa K μ H c p e):∃v,RelV v e.key/\Rep fa K μ H (c6 (ix p)) v:=let{b,_,h1,_,h2,_}:=h;{.ref b,h1,h2}
variable{a tg:Expr}{ga:GE}{apos cpos:Pos}
abbrev NV (fa:Fa)(X:Cx)(f:D->D)(h:List (Addr×Obj))(y:L2.St)(R:It->Hp->Prop)(v:RJ)(s1:RO):Prop:=∃(b:Addr) (u:List S4) (j:Hp),v=.ref b/\Inv X h y j s1/\j b=some (.dn u)/\∀g,(∀{μ:Mu}{H:Hp}{c:Int}{p:D×D}{e:S4},mZ fa X.K μ H c p e->∃v,RelV v (g e)/\Rep fa X.K μ H (f (ix p)) v)->R (NU b u.length g) j
def Jr (hd:eV fa)(q:ae (match x with|.fn o=>(match b5 M1 o with|some q=>Res.ok (dW o q.2.length f) M1|none=>.bad)|_=>.bad) λw M'=>∀J B j,Ext μ H j B->RelM fa X.K j B M'->c7 fa X.K j B w J->R J B)(I:Inv X pins σ H1 s1)(U:RelV v u)(x1:Ext μ H μ1 H1)(F:RelM fa X.K μ1 H1 M1)(r1:Rep fa X.K μ1 H1 x v):NV fa X f pins σ R u s1:=by
 cases x with
 | fn o=>
   dsimp only at q;cases y:b5 M1 o with
   |none=>rw[y] at q;show q.elim
   | some S=>
     rw[y] at q;obtain(b|rfl|h):=r1;have ho:5000<=o:=by
      unfold b5 at y;split at y
      .assumption
      .cases y
     rcases h with h|⟨_,h⟩
     .rw[hd.of o ho] at h;cases h
     obtain(E|Q|O|L|pr):=qV hd F h y;have hl:E.length=S.2.length:=by rw[L,RK];show(Paired.length pr).symm
     show{b,E,H1,U,I,O,λg P=>q _ H1 μ1 x1 F (hl ▸ Ci hd P h)}
 |_=>show q.elim
def EE (hd:eV fa)(P:DE fa X a ga)(I:Inv X pins σ H s)(h:tI fa X.K (e9 f ga) σ H R):wpAny (model X.prog X.w) X.A (eval a X.env) (NV fa X f pins σ R) X.xe s:=by
 obtain(μ|S|M|L|O|h):=h;obtain(x|J|e|q):=aI h;show aT (P pins s σ H (λv y=>∃j,Ext μ H j y/\RelM fa X.K j y J/\Rep fa X.K j y x v) I {μ,S,M,L,O,?_}) (by rintro u s1 ⟨v,y,F,Q,j,E,B,r1⟩;show Jr hd q F Q E B r1)
 rw[e];show λv y j E B r1=>⟨j,E,B,r1⟩
def Jv (hd:eV fa)(L:DE fa X a ga):DI fa X tg a (e9 c6 ga):=λu s P H R I h=>by
 show aT (EE hd L I h) ?_;rintro v s1 ⟨b,E,B,F,j,J,q⟩;subst F;obtain(z|y|o|h1|h2|h3):=(j.hok b _ J);show Bh y h1 h2 h3 ?_;show{s1.heap.objs.size,[s1.heap.objs.size],_,_,B,rfl,j.kept λb o e=>RI _ e,zU b _ E.length,{_,RX _ rfl,rfl,rfl},λb O=>?_,q _ Je};have e:b=s1.heap.objs.size:=by simpa using O
 subst e;show j.fpOk (RN _) (j.hok.fresh (RN _))
end
section
variable{fa:Fa}{X:Cx}{a tg iter:Expr}{ga:GE}{gw:GW}{apos cpos:Pos}
def nh (a d:GE):GS:=λh M=>(a h M).bind λx M=>match x with
 | .cell k=>tB (λz M=>match M[k]? with
   |some j=>if j.length<sz then .ok (.next h) (M.set k (j++[z])) else .bad
   |none=>.bad) h (d h M)
 |_=>.bad
set_option tactic.hygienic true in
def Jm (ha:DE fa X a ga)(hd:DX fa X d gd)(j:attributeBase a "append" X.env (eval a X.env)=eval a X.env)(u:(apos.endLine==cpos.line)=true)(hs:starEach [d] X.env=[(false,eval d X.env)])
 (R:swapsWith (.Call (.Attribute a "append" apos) [d] [] cpos) none pos.line X.env=pure false) :
 DS fa X (.Expr (.Call (.Attribute a "append" apos) [d] [] cpos) pos) (nh ga gd):=
 dz (nj (sP Uu PySem.F.slot_list_append PySem.F.type_list_append mz ha (bS hd cy hs) j (by rw[hs];rfl) u hs `r) R) λD' σ H ⟨μ,L,M,P,hM,h⟩=>by
  obtain(x|M1|e1|h1):=aI h;cases x with
  | cell k=>
    show{μ,L,M,P,hM,?_};rw[e1];intro vx H1 W I v rx;obtain(ad|rfl|hk):=rx;obtain(ds1|S|_|Q|_):=v.mu_lt hk;show{.inl {rfl,S,cQ.of Q},W,L,M1,P.ext I,v,?_};cases e2:gd L M1 with
    |bad=>rw[e2] at h1;show h1.elim
    | err y E=>
      rw[e2] at h1;show XW.ext h1 I
    | ok z E=>
      rw[e2] at h1;have h2:ae (match E[k]? with|some O=>if O.length<sz then Res.ok (Fl.next L) (E.set k (O++[z])) else .bad|none=>.bad) (mY fa X μ H D'):=h1
      cases e:E[k]? with
      |none=>rw[e] at h2;show h2.elim
      | some O=>
        rw[e] at h2;dsimp only at h2;split at h2
        .next hz=>
         have q:=h2;intro vz H2 μ2 J B rz;obtain(ws|h4|h5):=B.at_ e (J.mu k ad hk);show{ad,ws,vz,rfl,rfl,h4,by rw[h5.length,<- dr];show hz,?_}
         show l6 ((P.ext I).ext J) B (J.mu k ad hk) (h5.append (.one rz)) λY H' U x' e' m'=>q Y H' U ((I.trans J).trans x') e' m'
        .exact h2.elim
  |_=>show h1.elim
end
noncomputable def jL:List Int->List Int->Bool
 |[],[]=>false
 |[],_::_=>true
 |_::_,[]=>false
 |a::x,b::y=>if (a==b)=true then jL x y else decide (a<b)
def rj (A:Ti)(s:RO)(x y:RJ)(k:Bool):Prop:=∀(prog:Sx) (w:Sr) (E:RJ->RO->Prop) (Q:RJ->RO->Prop),Q (.bool k) s->wpAny (model prog w) A (richCompare .Lt x y) Q E s
def ints_get (h:Ug us is)(i:Nat)(hi:i<us.length):∃a t,us[i]?=some (.int a t)/\is.drop i=a::is.drop (i+1):=by
 induction h generalizing i with
 |nil=>show absurd hi (Ue _)
 | cons a t _ j=>
   cases i with
   |zero=>show⟨a,t,rfl,rfl⟩
   |succ i=>show j i (Nat.lt_of_succ_lt_succ hi)
def IJ (l b:Addr)(us vs:List RJ)(is j:List Int)(n n2:Nat)(dd B:Option Addr)(sl F:Array (Option RJ))(H:Ug us is)(E:Ug vs j):∀(k i:Nat),us.length-i=k->i<=us.length->i<=vs.length->
 Meets (Builtin.«list.__eq__.loop» {[.ref l,.ref b,rawInt i,rawInt 0],[]}) (λ_ R s=>s.heap.get? l=some {.type "list",dd,.seq us.toArray n,sl}/\s.heap.get? b=some {.type "list",B,.seq vs.toArray n2,F}/\R (.ok (.ret (.bool (jL (is.drop i) (j.drop i))))) s):=by
 intro k;induction k with
 | zero=>
   intro i hk h1 h2 prog w A R s h;obtain(M|g|d|tk|os):=s;obtain(hl|v|h):=h;wp_walk using Sg hl,Sg v
   have e1:us.toArray[((i:Nat):Int).toNat]?=none:=by simp;omega
   rw[e1];wp_walk using Sg hl,Sg v
   have P:=E.length;rw[List.drop_of_length_le (show is.length<=i by rw[<- H.length];omega)] at h
   show cast (congrArg (λz=>R (.ok (.ret (.bool z))) _) ?_) h;cases e:j.drop i with
   | nil=>
     have:=List.drop_eq_nil_iff.mp e;simp[jL];omega
   | cons c r=>
     have:i<j.length:=by
      rcases Ub i j.length with z|z
      .exact z
      .rw[List.drop_of_length_le z] at e;cases e
     simp[jL];omega
 | succ k O=>
   intro i hk h1 h2 prog w A R s h;obtain(M|g|d|tk|os):=s;obtain(hl|v|h):=h;obtain(a|t|ea|I):=ints_get H i `a
   wp_walk using Sg hl,Sg v
   have e1:us.toArray[((i:Nat):Int).toNat]?=some (.int a t):=by simpa using ea
   rw[I] at h;rcases Ub i vs.length with z|z
   .obtain(c|u|L|J):=ints_get E i z;have e2:vs.toArray[((i:Nat):Int).toNat]?=some (.int c u):=by simpa using L
    rw[e1,e2];rw[J] at h;show tqa (PySem.SeqAt.EqAt.int_int a t c u prog w _ _ ?_);cases y:(a==c) with
    | true=>
      rw[show jL (a::is.drop (i+1)) (c::j.drop (i+1))=jL (is.drop (i+1)) (j.drop (i+1)) from if_pos y] at h;wp_walk
      rw[show((i:Int)+1)=((i+1:Nat):Int) from rfl];show{plainId_quiet MeetsSeq3.plain_eq_loop _,codeAny_builtin MeetsSeq3.entry_eq_loop (by
       rw[Te MeetsSeq3.plain_eq_loop _];show O (i+1) `a `a z prog w A R _ ⟨hl,v,h⟩)}
    | false=>
      rw[show jL (a::is.drop (i+1)) (c::j.drop (i+1))=decide (a<c) from if_neg (by rw[y];show R6)] at h
      wp_walk using Sg hl,Sg v
      rw[e1,e2];show tqa (wpAny_lt_int ?_);show tqb h
   .have e2:vs.toArray[((i:Nat):Int).toNat]?=none:=by simp;omega
    rw[e1,e2];wp_walk using Sg hl,Sg v
    rw[List.drop_of_length_le (show j.length<=i by rw[<- E.length];omega)] at h
    show cast (congrArg (λz=>R (.ok (.ret (.bool z))) _) ?_) h;simp[jL];omega
def rj.lists (hl:s.heap.IsList l us.toArray)(M:s.heap.IsList b vs.toArray)(P:Ug us is)(S:Ug vs js)(hr:A.units<cLine):rj A s (.ref l) (.ref b) (jL is js):=λprog w E Q h=>by
 obtain((cls|L|J|sl)|ho|O|n|hd):=id hl;obtain((I|j|y|v)|u|B|n2|H):=id M;cases O;cases hd;cases B;cases H;have U:Meets (Builtin.«list.__lt__» {[.ref l,.ref b],[]}) (λ_ R s=>s.heap.get? l=some {.type "list",L,.seq us.toArray n,sl}/\s.heap.get? b=some {.type "list",j,.seq vs.toArray n2,v}/\R (.ok (.ret (.bool (jL is js)))) s):=by
  intro prog w A R s h;obtain(X|g|d|tk|os):=s;obtain(h1|h2|h):=h;have W:=AutoSeq1.sub_list_list;wp_walk using Sg h1,Sg h2
  show{plainId_quiet MeetsSeq3.plain_eq_loop _,codeAny_builtin MeetsSeq3.entry_eq_loop (by
   rw[Te MeetsSeq3.plain_eq_loop _];show IJ l b us vs is js n n2 L j sl v P S _ 0 rfl (S5 _) (S5 _) prog w A R _ ⟨h1,h2,h⟩)}
 show richCompare_meets_room {_,ho,rfl} {_,u,rfl} F.slot_list_lt F.entry_list_lt (F.args_list_lt_2 _ _) U {ho,u,show Value.bool (jL is js)≠Value.notImplemented/\Q (.bool (jL is js)) s from{(λx=>nomatch x),h}} hr
def Ef (h:Ug us is)(j:Ug us js):is=js:=by
 induction h generalizing js with
 |nil=>cases j;rfl
 |cons a t _ u=>cases j with|cons _ _ r=>rw[u r]
def rV (h:Ug us is)(u:j<us.length):∃t,us[j]=.int (is.getD j 0) t:=by
 induction h generalizing j with
 |nil=>show absurd u (Ue _)
 | cons a t _ v=>
   cases j with
   |zero=>show⟨t,rfl⟩
   |succ j=>show v (Nat.lt_of_succ_lt_succ u)
noncomputable def xD:∀(is u:List Int),is.length=u.length->((List.range is.length).all λj=>is.getD j 0==u.getD j 0)=(is==u)
 |[],[],_=>rfl
 | a::is,b::u,h=>by
   rw[To,List.range_succ_eq_map,SQ,List.all_map];have:=xD is u (Nat.succ.inj h);change((a==b)&&_)=((a==b)&&(is==u));rw[<- this];rfl
def EqAt.intLists (hl:s.heap.IsList l us.toArray)(h:s.heap.IsList b vs.toArray)(u:Ug us is)(v:Ug vs js)(hr:A.units<cLine):PySem.SeqAt.EqAt A s (.ref l) (.ref b) (is==js):=by
 by_cases e:l=b
 .subst e;obtain(o|e1|_|n|d1):=hl;obtain(M|e2|_|L|B):=h;rw[e1] at e2;cases e2;rw[d1] at B;have:=(Data.seq.inj B).1;have:us=vs:=by simpa using this
  subst this;rw[Ef u v,beq_self_eq_true];show PySem.SeqAt.EqAt.same _
 .refine PySem.SeqAt.EqAt.of_refs e ?_;have l1:=u.length;have l2:=v.length;by_cases z:us.length=vs.length
  .have r:=PySem.SeqAt.RcAt.lists hl h (~~~z) hr λj h1 h2=>by
    obtain(t|F):=rV u (~~~h1)
    obtain(E|H):=rV v (~~~h2)
    have I:us.toArray[j]=.int (is.getD j 0) t:=by simpa using F
    have J:vs.toArray[j]=.int (js.getD j 0) E:=by simpa using H
    rw[I,J];show PySem.SeqAt.EqAt.int_int _ t _ E
   rw[show us.toArray.size=is.length by simp[l1],xD is js `a] at r
   show r
  .have r:=PySem.SeqAt.RcAt.lists_lengths hl h (~~~z) hr
   rw[show(is==js)=false from Sw.mpr λy=>z (by rw[l1,l2,y])]
   show r
def uJ (a:Int)(is:List Int)(b:Int)(h:List Int):Bool:=if (a==b)=true then(if (is==h)=true then false else jL is h) else decide (a<b)
def rj.pairs {a c:Int}(S:s.heap.IsTuple p #[.int a t,.ref l])(hq:s.heap.IsTuple q #[.int c u,.ref b])(hl:s.heap.IsList l us.toArray)(hb:s.heap.IsList b vs.toArray)(U:Ug us is)(W:Ug vs js)(hr:A.units<cLine)(J:A.in1.units<cLine):rj A s (.ref p) (.ref q) (uJ a is c js):=λprog w E Q h=>by
 obtain((cls|Y|O|sl)|ho|hc|n|hd):=id S;obtain((M|B|y|L)|v|H|n2|I):=id hq;cases hc;cases hd;cases H;cases I;have ml:Meets (Builtin.«tuple.__lt__» {[.ref p,.ref q],[]}) (λA R s=>s.heap.get? p=some {.type "tuple",Y,.seq #[.int a t,.ref l] n,sl}/\s.heap.get? q=some {.type "tuple",B,.seq #[.int c u,.ref b] n2,L}/\s.heap.IsList l us.toArray/\s.heap.IsList b vs.toArray/\A.in1.units<cLine/\R (.ok (.ret (.bool (uJ a is c js)))) s):=.of_wp λprog w A R s h=>by
  obtain(S|g|d|tk|os):=s;obtain(h1|h2|k1|k2|X|h):=h;have f2:=AutoSeq1.sub_tuple_tuple;wp_walk using Sg h1,Sg h2
  show PySem.SeqAt.EqAt.int_int a t c u prog w _ _ ?_;cases j:(a==c) with
  | false=>
    rw[show uJ a is c js=decide (a<c) from if_neg (by rw[j];show R6)] at h
    show tqa (wpAny_rule (tqa (wpAny_lt_int (tqa (tqb (tqb (tqb (tqb {_,rfl,h}))))))))
  | true=>
    rw[show uJ a is c js=(if (is==js)=true then false else jL is js) from if_pos j] at h;show tqb (tqa (tqa (EqAt.intLists k1 k2 U W X prog w _ _ ?_)));cases P:(is==js) with
    | false=>
      rw[P,if_neg R6] at h;show tqa (wpAny_rule (tqa (rj.lists k1 k2 U W X prog w _ _ (tqa (tqb (tqb (tqb (tqb {_,rfl,h}))))))))
    | true=>
      rw[P,if_pos rfl] at h;show tqb (tqb (tqb {_,rfl,h}))
 show richCompare_meets_room {_,ho,rfl} {_,v,rfl} F.slot_tuple_lt F.entry_tuple_lt (F.args_tuple_lt_2 _ _) ml {ho,v,hl,hb,J,show Value.bool (uJ a is c js)≠Value.notImplemented/\Q (.bool (uJ a is c js)) s from{(λx=>nomatch x),h}} hr
section
variable{prog:Sx}{w:Sr}{A:Ti}{I p S:Addr}{items:Array RJ}{R:Result->RO->Prop}{kw:List (Str×RJ)}
def nt:(toString "min"++toString ".loop":String)="min.loop":=`d
def lW (I S:Addr)(h j:Heap):Prop:=∀(b:Addr) o,b≠I->b≠S->h.get? b=some o->j.get? b=some o
def DV (hh:A.in1.handled=none)(hne:p≠I)(Y:S≠I)(hSp:S≠p)(bt:Nat->Nat->Bool)(G:Heap->Prop)(hG:∀h L,G h->lW I S h L->G L)
 (hcmp:∀i j vi vj (s:RO) (Q:RJ->RO->Prop) (E:RJ->RO->Prop),items[i]?=some vi->items[j]?=some vj->G s.heap->Q (.bool (bt i j)) s->wpAny (model prog w) A.in1 (richCompare .Lt vi vj) Q E s) :
 ∀(k j:Nat) (s:RO) (O:RJ) (c:Nat),items.size-(j+1)=k->j+1<=items.size->s.heap.IsListIter I p (j+1)->s.heap.IsList p items->items[argBest bt j]?=some O->s.heap.get? S=some {.type "list",none,.seq #[O,O] c,#[]}->G s.heap->
 (∀v L tk,items[argBest bt (items.size-1)]?=some v->lW I S s.heap L->R (.ok (.ret v)) {s with heap:=L,toks:=tk})->codeAny (model prog w) A (.builtin "min.loop" {[.ref I,.none,.ref S],kw}) R s:=by
 have W:=Walks.list (prog:=prog) (w:=w) hh I p hne items;intro k;induction k with
 | zero=>
   intro j s O c hk hj hi hl hb hS g hR;have hin:j+1=items.size:=`a
   show codeAny_builtin F.entry_min_loop ?_;rw[Te Ud _];show tqa (wpAny_seqItems hS rfl ?_);show tqa (wpAny_tryCatch (W.done s _ _ {hin ▸ hi,hl} λL tk B=>?_));have y:=B S _ (~~~Y) hS
   show tqa (wpAny_updateSeq y rfl (tqa (wpAny_letGo (tqb ?_))));show hR O _ tk (by rw[<- hin];show hb) λb o n1 n2 e=>(Sl _ _ (SK n2)).trans (B b o (~~~n1) e)
 | succ k ih=>
   intro j s O c hk hj hi hl hb hS g hR;have hlt:j+1<items.size:=`a
   show codeAny_builtin F.entry_min_loop ?_;rw[Te Ud _];show tqa (wpAny_seqItems hS rfl ?_);show tqa (wpAny_tryCatch (W.item (j+1) s _ _ hlt ⟨hi,hl⟩ λv L tk hP u B=>?_));have y:=B S _ (~~~Y) hS
   have M:lW I S s.heap L:=λb o n1 _ e=>B b o (~~~n1) e
   change wpAny _ A.in1 (tryCatch (holding [v,v] (richCompare .Lt v O >>= _)) _ >>= _) _ _ _;show tqa (wpAny_tryCatch (tqo (tqa (hcmp (j+1) (argBest bt j) v O _ _ _ hP hb (hG _ _ g M) ?_))));show tqa (tqo (tqp ?_));show tqa (wpAny_letGo (tqb ?_));cases hbb:bt (j+1) (argBest bt j) with
   | true=>
     show tqa (wpAny_updateSeq y rfl (tqa (wpAny_letGo ?_)));rw[nt];have st2:lW I S s.heap (L.update S (Obj.mapSeq λ_=>#[v,v])):=λb o n1 n2 e=>(Sl _ _ (SK n2)).trans (M b o n1 n2 e);show tqb {plainId_quiet Ud _,ih (j+1) _ v _ `a hlt (u.1.at λo e=>(Sl _ _ Y).trans e) (u.2.at λo e=>(Sl _ _ hSp).trans e) (by dsimp[argBest,hbb,if_true];show hP) (SD _ y rfl) (hG _ _ g st2) λv' P J U H=>?_}
     show hR v' P J U λb o n1 n2 e=>H b o n1 n2 (st2 b o n1 n2 e)
   | false=>
     show tqa (wpAny_letGo ?_);rw[nt];show tqb {plainId_quiet Ud _,ih (j+1) _ O c `a hlt u.1 u.2 (by dsimp[argBest,hbb,Bool.false_eq_true,if_false];show hb) y (hG _ _ g M) λv' P J U H=>?_}
     show hR v' P J U λb o n1 n2 e=>H b o n1 n2 (M b o n1 n2 e)
def A3 (hh:A.in1.handled=none)(P:p≠I)(H:S≠I)(L:S≠p)(bt:Nat->Nat->Bool)(G:Heap->Prop)(hG:∀h u,G h->lW I S h u->G u)
 (M:∀i j vi vj (s:RO) (Q:RJ->RO->Prop) (E:RJ->RO->Prop),items[i]?=some vi->items[j]?=some vj->G s.heap->Q (.bool (bt i j)) s->wpAny (model prog w) A.in1 (richCompare .Lt vi vj) Q E s)
 (hi:s.heap.IsListIter I p 0) (hl:s.heap.IsList p items) (hS:s.heap.get? S=some {.type "list",none,.seq #[] c,#[]}) (g:G s.heap)
 (hR:∀v u tk,(items.size=0/\v=dv\/items[argBest bt (items.size-1)]?=some v)->lW I S s.heap u->R (.ok (.ret v)) {s with heap:=u,toks:=tk}):codeAny (model prog w) A (.builtin "min.loop" {[.ref I,.none,.ref S],[(kn,dv)]}) R s:=by
 have W:=Walks.list (prog:=prog) (w:=w) hh I p P items;show codeAny_builtin F.entry_min_loop ?_;rw[Te Ud _];show tqa (wpAny_seqItems hS rfl ?_);rcases Nat.eq_zero_or_pos items.size with hz|hn
 .refine tqa (wpAny_tryCatch (W.done s _ _ {hz ▸ hi,hl} λu tk y=>?_));show tqa (wpAny_rule (tqb ?_));show hR dv u tk (.inl ⟨hz,rfl⟩) λb o n1 _ e=>y b o (~~~n1) e
 .refine tqa (wpAny_tryCatch (W.item 0 s _ _ hn ⟨hi,hl⟩ λv u tk hP B y=>?_));have J:=y S _ (~~~H) hS
  have U:lW I S s.heap (u.update S (Obj.mapSeq λ_=>#[v,v])):=λb o n1 n2 e=>(Sl _ _ (SK n2)).trans (y b o (~~~n1) e)
  change wpAny _ A.in1 (updateSeq S (λ_=>#[v,v]) >>= _) _ _ _;show tqa (wpAny_updateSeq J rfl ?_);rw[nt];show tqb {plainId_quiet Ud _,DV hh P H L bt G hG M _ 0 _ v _ rfl hn (B.1.at λo e=>(Sl _ _ H).trans e) (B.2.at λo e=>(Sl _ _ L).trans e) hP (SD _ J rfl) (hG _ _ g U) λv' h'' Y hP' O=>?_};show hR v' h'' Y (.inr hP') λb o n1 n2 e=>O b o n1 n2 (U b o n1 n2 e)
end
def BV (a v:RJ):argsOk "min" {[a],[(Str.ofString "default",v)]}:=by unfold argsOk;kernel_rfl
def BL (hh:A.in1.handled=none)(hl:s.heap.IsList p items)(L:p<s.heap.objs.size)(B:Nat->Nat->Bool)
 (y:∀i j O P (H:RO) (Q:RJ->RO->Prop) (E:RJ->RO->Prop),items[i]?=some O->items[j]?=some P->(∀b o,s.heap.get? b=some o->H.heap.get? b=some o)->Q (.bool (B i j)) H->wpAny (model prog w) A.in1 (richCompare .Lt O P) Q E H)
 (U:∀v u tk,(items.size=0/\v=dv\/items[argBest B (items.size-1)]?=some v)->(∀b o,s.heap.get? b=some o->u.get? b=some o)->Q v {s with heap:=u,toks:=tk}):wpAny (model prog w) A (call (.builtin "min") [.ref p] [(Str.ofString "default",dv)]) Q E s:=by
 show kmk_tree F.kind_min F.plain_min F.entry_min (BV _ _) ?_;show tqa (wpAny_of_eq (rfl) ?_);show tqa (tqb ?_);show tqa (wpAny_pyIter_list hl ?_);show tqa (wpAny_newObj_type ?_);rw[nt];have lt:∀{b:Addr}{o:Obj},s.heap.get? b=some o->b≠s.heap.objs.size/\b≠s.heap.objs.size+1:=λe=>{Se (R0 e),Se (T4 (R0 e))};have M:(s.heap.push {cls:=.type "list_iterator",data:=.fields #[.ref p,.int 0 0]}).objs.size=s.heap.objs.size+1:=TQ ..;show tqb {plainId_quiet Ud _,?_};rw[M];have J:∀{b:Addr}{o:Obj},s.heap.get? b=some o->((s.heap.push {cls:=.type "list_iterator",data:=.fields #[.ref p,.int 0 0]}).push {cls:=.type "list",data:=.seq #[]}).get? b=some o:=λe=>RI _ (RI _ e);show A3 hh (Se L) (Nat.succ_ne_self _) (SF (T4 L)) B (λh=>∀b o,s.heap.get? b=some o->h.get? b=some o) (λh u g st b o e=>st b o (lt e).1 (lt e).2 (g b o e)) y (c:=0) {_,RI _ (RX _ rfl),rfl,rfl} (hl.at λo e=>J e) ?_ (λb o e=>J e) λv u tk W st=>U v u tk W λb o e=>st b o (lt e).1 (lt e).2 (J e);have:=RX (s.heap.push {cls:=.type "list_iterator",data:=.fields #[.ref p,.int 0 0]}) (o:={cls:=.type "list",data:=.seq #[]}) rfl;rw[M] at this;show this
def rN (M:Mem):D->Option (Int×List Int)
 |.tup [.int q,r]=>((ez M r).bind intsOf).map λis=>(q,is)
 |_=>none
noncomputable def oB (M:Mem):List D->Option (List (Int×List Int))
 |[]=>some []
 |d::ds=>(rN M d).bind λk=>(oB M ds).map (k::·)
def wV (ks:List (Int×List Int))(i j:Nat):Bool:=uJ (ks.getD i (0,[])).1 (ks.getD i (0,[])).2 (ks.getD j (0,[])).1 (ks.getD j (0,[])).2
def nH (a:GE):GE:=λj M=>(a j M).bind λx M=>match ez M x with
 | some h=>(match oB M h with
   |some ks=>.ok (h.getD (argBest (wV ks) (h.length-1)) .non) M
   |none=>.bad)
 |none=>.bad
noncomputable def AE:∀{ds:List D}{ks:List (Int×List Int)},oB M ds=some ks->∀(i:Nat) (d:D),ds[i]?=some d->rN M d=some (ks.getD i (0,[]))
 |[],_,_,_,_,h=>by simp at h
 | d::ds,ks,e,i,j,h=>by
   obtain(k|e1|e2):=Sf.mp e;obtain(v|u|rfl):=R3.mp e2;cases i with
   |zero=>cases h;show e1
   |succ i=>show AE u i j h
set_option tactic.hygienic true in
def Lq (e:rN M d=some k):∃r ds,d=.tup [.int k.1,r]/\ez M r=some ds/\intsOf ds=some k.2:=by
 unfold rN at e;split at e
 .next q r=>
  obtain(is|e1|rfl):=R3.mp e;obtain(ds|e2|h):=Sf.mp e1;show⟨r,ds,rfl,e2,h⟩
 .cases e
section
variable{fa:Fa}{X:Cx}{a:Expr}{ga:GE}{pos p kp cp:Pos}{ci:Nat}
def K1 (hu:Rm X)(hc:X.calm=true)(hg:Gl X "min")(hm:X.mg "min"=none)(ha:DE fa X a ga)(hs:starEach [a] X.env=[(false,eval a X.env)]):DE fa X (.Call (.Name "min" p) [a] [{some "default",.Constant .none ci cp,kp}] pos) (nH ga):=by
 rintro F s σ H Q I ⟨μ,Z,M,hE,hM,h⟩;obtain(x|M1|e|q):=aI h;have hA:=bS ha cy hs pos F s σ H (λvs H1=>∃v y,vs=[v]/\Ext μ H y H1/\RelM fa X.K y H1 M1/\Rep fa X.K y H1 x v) I {μ,Z,M,hE,hM,by rw[e];show λv H1 y x1 m1 r1=>⟨v,y,rfl,x1,m1,r1⟩}
 show wpAny_Call_Name_kw (eY I hg hm boot_min ?_);show callWith_kw (aT hA λus s1 ⟨vs,H1,I1,r1,v,y,ev,x1,m1,rv⟩=>?_) (by rw[hs];rfl) (by rw[hs];rfl)
 subst ev;cases r1 with
 |cons r1 rr=>
 cases rr;show kws_cons ?_;show aT (GG F s1 σ H1 (λv' P=>∃B,Ext y H1 B P/\RelM fa X.K B P M1/\v'=.non) I1 {y,Z,M1,hE.ext x1,m1,λv' P B x2 m2 r2=>⟨B,x2,m2,r2⟩}) ?_;rintro nv s2 ⟨nx,P,I2,r2,B,x2,m2,en⟩;subst en;obtain rfl:=(r2);show kws_nil ?_;cases e0:ez M1 x with
 |none=>rw[e0] at q;show q.elim
 | some ds=>
   rw[e0] at q;cases ek:oB M1 ds with
   |none=>dsimp only at q;rw[ek] at q;show q.elim
   | some ks=>
     dsimp only at q;rw[ek] at q;have rv2:=rv.ext x2;obtain(ad|vs|rfl|sq|rl):=bR m2 rv2 e0;obtain rfl:=r1;obtain(E|rvs|pl|hz):=I2.list sq;have U:E.length=ds.length:=by rw[<- rvs.length,rl.length]
     have hAt:∀(i:Nat) (v:RJ),E.toArray[i]?=some v->∃d v',ds[i]?=some d/\Rep fa X.K B P d v'/\RelV v' v:=λi v O=>by
      have O:E[i]?=some v:=by simpa using O
      have hi:i<vs.length:=by rw[rvs.length];show(RH.mp O).1
      obtain(d|ed|rd):=rl.getV (RZ hi);obtain(u|eu|ru):=rvs.get (RZ hi);rw[O] at eu;cases eu;show{d,_,ed,rd,ru}
     have W:∀(i:Nat) (v:RJ) (Y:RO),E.toArray[i]?=some v->(∀b o,s2.heap.get? b=some o->Y.heap.get? b=some o)->∃(p l:Addr) (t:Tok) (us:List RJ),v=.ref p/\Y.heap.IsTuple p #[.int (ks.getD i (0,[])).1 t,.ref l]/\Y.heap.IsList l us.toArray/\Ug us (ks.getD i (0,[])).2:=λi v Y O g=>by
      obtain(d|v'|ed|rd|ru):=hAt i v O;obtain(r|rs|rfl|e2|e3):=Lq (AE ek i d ed);obtain(tp|tvs|rfl|tsq|J):=rd;obtain rfl:=(ru);have I':Inv X F σ P {s2 with heap:=Y.heap,toks:=s2.toks}:=I2.kept g
      obtain(tits|L|tpl|_):=I'.tuple tsq;obtain(w1|ws1|rfl|q1|J):=J;obtain(w2|ws2|rfl|q2|J):=J;cases J;obtain rfl:=(q1);obtain(l|lvs|rfl|lsq|lrl):=bR m2 q2 e2;cases L with
      |cons t1 L=>
      cases L with
      |cons t2 L=>
      cases L;obtain(t|rfl):=t1;obtain rfl:=t2;obtain(lits|lrv|lpl|_):=I'.list lsq;show{tp,l,t,lits,rfl,tpl,lpl.isList,Dl e3 lrl lrv}
     show BL (I2.ok.hd hc) pl.isList pl.lt (wV ks) (λi j vi vj Y Q' E' hi hj g hQ=>?_) λv h' tk O g=>?_
     .obtain(p1|l1|t1|PD|rfl|a1|a2|a3):=W i vi Y hi g;obtain(p2|l2|t2|PC|rfl|b1|b2|b3):=W j vj Y hj g;show rj.pairs a1 b1 a2 b2 a3 b3 (by change X.A.units+1<cLine;omega) (by change X.A.units+1+1<cLine;omega) _ _ _ _ hQ
     .rcases O with⟨hz0,rfl⟩|O
      .have:ds=[]:=TH.mp (by rw[<- U];simpa using hz0)
       subst this;show{.non,P,I2.kept g,rfl,aO m2 (aY.ext (aY.ext q x1) x2) rfl}
      .obtain(d|v'|ed|rd|ru):=hAt _ v O;have es:E.toArray.size=ds.length:=by simpa using U
       rw[es] at ed;have q:aY fa X.K μ H Q (ds.getD (argBest (wV ks) (ds.length-1)) .non) M1:=q;rw[Sy,ed] at q;show{v',P,I2.kept g,ru,aO m2 (aY.ext (aY.ext q x1) x2) rd}
end
section
variable{prog:Sx}{w:Sr}{A:Ti}{E:RJ->RO->Prop}{s:RO}{d:Addr}{od:Obj}{es:Array S4}{ep:Nat}
def J2 (hh:A.handled=none){I:Addr}(H:d≠I)(y:od.data=.dict es ep):Walks prog w A I [I,d] [I] es.size (λi v=>∃e,es[i]?=some e/\v=e.key) (λi h=>h.IsKeyIter I d i es.size ep/\h.get? d=some od) where
 sub:=λb u=>by rw[RS.mp u];simp
 frame:=λi h B st k=>{st.1.at λo e=>k I `s o e,k d `s _ st.2}
 item:=λi s Q E J st j=>uM st.1 st.2 y (Tx J) λB F hs=>j _ B s.toks {_,Tx J,rfl} {F,(hs.2 d H).trans st.2} λb o u e=>hs.extBut b o (λz=>u (by rw[z];simp)) e
 done:=λs Q E st j=>wY hh st.1 st.2 y (RN _) λB x=>j B s.toks λb o u e=>x b o (λz=>u (by rw[z];simp)) e
 self:=λi s Q E st j=>wpAny_pyIter_keyiter st.1 j
def vP {R:Result->RO->Prop}(hh:A.handled=none)(hsm:(d==sysModules)=false)(ho:s.heap.get? d=some od)(hc:od.ExactDict)(Q:od.data=.dict es ep)(hn:es.size<=sizeLine)(S:Addr)(j:S≠d)(W:RJ)(J:Nat)(hS:s.heap.get? S=some {cls:=.type "list",data:=.seq #[] J})
 (hR:∀h' tk acc H,(∀b o,b≠S->s.heap.get? b=some o->h'.get? b=some o)->h'.get? S=some {.type "list",none,.seq acc H,#[]}->ItemsOf (λi v=>∃e,es[i]?=some e/\v=e.key) acc es.size->R (.ok (.ret W)) {s with heap:=h',toks:=tk}) :
 wpAny (model prog w) A.in1 (Builtin.List.listExtendWith (.ref S) (.ref d) W) (λfin B=>match fin with|.done f=>R (.ok f) B|.again H=>H.quiet=true/\codeAny (model prog w) A H R B) (λe B=>R (.error e) B) s:=by
 have hT:s.TypeIs (.ref d) "dict":=⟨od,ho,hc.1⟩;have M:=Se (R0 hS);have hdI:=Se (R0 ho);unfold Builtin.List.listExtendWith;show tqa (wpAny_typeOf hT ?_);have h1:Builtin.List.listSameRef (.ref S) (.ref d)=false:=by simp[Builtin.List.listSameRef,j]
 have h2:(Value.type "dict"==Value.type "list")=false:=`d
 have h3:(Value.type "dict"==Value.type "tuple")=false:=`d
 dsimp[h1,h2,h3,Bool.or_false,Bool.false_eq_true,if_false];show tqa (Bh hsm ho hc Q ?_);have u:Shared.TypeIs {s with heap:=s.heap.push {cls:=.type "dict_keyiterator",data:=.fields #[.ref d,.int 0 0,.int es.size 0,.int ep 0]}} (.ref d) "dict":={od,RI _ ho,hc.1}
 show tqa (tqo ?_);unfold Builtin.List.listLengthHint;show tqa (wpAny_specialOf u PySem.F.slot_dict_len.lookup ?_)
 wp_delta
 show tqa (wpAny_isInstance (b:=true) u (by rw[isSubtype_type];kernel_rfl) ?_)
 change wpAny _ _ (typeOf (Value.ref d) >>= _) _ _ _;show tqa (wpAny_typeOf u ?_);show tqb ?_;rw[if_pos `d]
 have hSf:S∉[s.heap.objs.size,d]:=λz=>by
  rcases R7.mp z with z|z
  .exact M z
  .exact j (RS.mp z)
 generalize U:s.heap.push {cls:=.type "dict_keyiterator",data:=.fields #[.ref d,.int 0 0,.int es.size 0,.int ep 0]}=h1;have Y:∀{b:Addr}{o:Obj},s.heap.get? b=some o->h1.get? b=some o:=λe=>by rw[<- U];show RI _ e
 have hit:h1.get? s.heap.objs.size=some {cls:=.type "dict_keyiterator",data:=.fields #[.ref d,.int 0 0,.int es.size 0,.int ep 0]}:=by rw[<- U];show RX _ rfl
 show tqa (wpAny_rule (tqa ?_));change wpAny _ _ (updateSeq S (·.push .none) >>= λ_=>updateSeq S (·.pop)) _ _ {s with heap:=h1}
 show tqa (wpAny_updateSeq (Y hS) rfl ?_);have L:=SD (Obj.mapSeq (·.push Value.none)) (Y hS) rfl;show wpAny_updateSeq L rfl ?_;have hS3:=SD (Obj.mapSeq (·.pop)) L rfl;have y:∀{b:Addr}{o:Obj},b≠S->h1.get? b=some o->((h1.update S (Obj.mapSeq (·.push Value.none))).update S (Obj.mapSeq (·.pop))).get? b=some o:=λP e=>(Sl _ _ (SK P)).trans ((Sl _ _ (SK P)).trans e);show tqb {plainId_quiet PySem.F.plain_extend_loop _,codeAny_extend_loopS (J2 (A:=A.in1) hh hdI Q).toS hn _ hSf _ es.size 0 _ _ _ rfl (S5 _) {{_,y (SK M) hit,rfl,rfl},y (SK j) (Y ho)} hS3 (ItemsOf.nil _) λB I H hm hS' O=>?_};rw[Moved.eq_with hm];show hR B.heap B.toks I H (λb ob P e=>hm.heap b ob (λh=>?_) (y P (Y e))) hS' O;rcases R7.mp h with e'|h
 .exact P e'
 .exact absurd (R0 e) (by rw[RS.mp h];show S9 _)
def yU {Q:RJ->RO->Prop}(hh:A.handled=none)(O:(d==sysModules)=false)(ho:s.heap.get? d=some od)(S:od.ExactDict)(M:od.data=.dict es ep)(hn:es.size<=sizeLine)
 (P:∀j tk acc J,(∀b o,s.heap.get? b=some o->j.get? b=some o)->j.get? s.heap.objs.size=some {.type "list",none,.seq acc J,#[]}->ItemsOf (λi v=>∃e,es[i]?=some e/\v=e.key) acc es.size->Q (.ref s.heap.objs.size) {s with heap:=j,toks:=tk}) :
 wpAny (model prog w) A (call (.type "list") [.ref d]) Q E s:=by
 show callType_codes (Q₁:=λobj h=>obj=.ref s.heap.objs.size/\h={s with heap:=s.heap.push {cls:=.type "list",data:=.seq #[]}}) PySem.F.called_list (PySem.F.typeCall_list_1 _) PySem.F.entry_list_init (code_list_new _ ⟨rfl,rfl⟩) λobj h B=>?_
 obtain(rfl|rfl):=B;have y:=R0 ho;have I:(s.heap.push {cls:=.type "list",data:=.seq #[]}).get? s.heap.objs.size=some {cls:=.type "list",data:=.seq #[]}:=RX _ rfl;show{{_,I,rfl},PySem.F.args_list_init_2 _ _,?_};change wpAny _ _ (do let old <- Builtin.List.listItems (.ref s.heap.objs.size);Builtin.List.listUpdate (.ref s.heap.objs.size) (λ_=>#[]);letGo old.toList.reverse;Builtin.List.listExtendWith (.ref s.heap.objs.size) (.ref d) .none) _ _ _
 show tqa ?_;unfold Builtin.List.listItems;show tqa (wpAny_seqItems I rfl (tqb ?_));change wpAny _ _ (updateSeq s.heap.objs.size (λ_=>#[]) >>= λ_=>letGo (#[]:Array RJ).toList.reverse >>= λ_=>Builtin.List.listExtendWith (.ref s.heap.objs.size) (.ref d) .none) _ _ _;show tqa (wpAny_updateSeq I rfl ?_);have H:∀b o,b≠s.heap.objs.size->s.heap.get? b=some o->((s.heap.push {cls:=.type "list",data:=.seq #[]}).update s.heap.objs.size (Obj.mapSeq (λ_=>(#[]:Array RJ)))).get? b=some o:=λb o R e=>(Sl _ _ (SK R)).trans (RI _ e);show tqa (wpAny_letGo ?_);show vP (A:=A.in1) hh O (H d od (Se y) ho) S M hn _ (SF y) .none _ (SD (Obj.mapSeq (λ_=>(#[]:Array RJ))) I rfl) λj tk acc J hk L u=>?_;show{rfl,P j tk acc J (λb o e=>hk b o (Se (R0 e)) (H b o (Se (R0 e)) e)) L u}
end
def kK (m:Bool)(a:GE):GE:=λh M=>(a h M).bind λx M=>match x with
 | .fn o=>(match b5 M o with
   |some q=>bc m (q.2.map c6) M
   |none=>.bad)
 |_=>.bad
def D8 {fa:Fa}{K:RG}{μ:Mu}{H:Hp}{c:Int}{j:List (D×D)}{es:List S4}(h:Tz (mZ fa K μ H c) j es):∃vs,aH fa K μ H ((j.map ix).map c6) vs/\Vals vs (es.map (·.key)):=by
 induction h with
 |nil=>show{[],rfl,.nil}
 | cons h t u=>
   obtain(vs|r|v):=u;obtain(b|_|ek|_|y|_):=h;show{.ref b::vs,{.ref b,vs,rfl,y,r},.cons (ek.trans rfl) v}
section
variable{fa:Fa}{X:Cx}{a:Expr}{ga:GE}{pos p:Pos}
def I9 (hc:X.calm=true)(hd:eV fa)(m:Bool):cn X (.type "list") (λxs H Q=>∃μ M o q x,RelM fa X.K μ H M/\xs=[x]/\Rep fa X.K μ H (.fn o) x/\b5 M o=some q/\ae (bc m (q.2.map c6) M) (aY fa X.K μ H Q)):=by
 intro L s σ H xs us Q I r h;obtain(μ|M|o|q|x|J|rfl|rx|e|w):=h;obtain(u|rfl|ru):=vals1 r;obtain(ad|_|_|_|rfl|_|ha|_):=mT hd I J rx e;obtain rfl:=(ru);obtain(es|kvs|Y|F|pr):=qV hd J ha e;obtain(O|rl|P):=D8 pr;rw[F] at w;obtain(_|k):=eW J rl w;obtain(z|y|ob|h1|h2|h3):=(I.hok ad _ Y);show yU (I.ok.hd hc) y h1 h2 h3 (~~~z) λW tk v R kp en j=>?_
 have ea:v=(es.map (·.key)).toArray:=by
  show Array.ext_getElem? λi=>?_;have hs:v.size=es.length:=by have:=j.1;simpa using this
  rcases Ub i v.size with B|B
  .rw[Tx B];obtain(S|he|U):=j.2 i _ (Tx B);rw[U];have he:es[i]?=some S:=by simpa using he
   simp[he]
  .rw[Array.getElem?_eq_none B];show(Array.getElem?_eq_none (by rw[RW,RK,<- hs];show B)).symm
 rw[ea] at en;have hl:O.length<=sizeLine:=by rw[P.length,RK];show z
 show{.ref s.heap.objs.size,_,I.laid kp (RN _) (show dY X.prog X.w _ W _ (.lst O) from{hl,_,R,P,en}),rfl,k _ (I.hok.fresh (RN _))}
def HW (J:X.calm=true)(hd:eV fa)(m:Bool)(L:Gl X "list")(hm:X.mg "list"=none)(I:DE fa X a ga)(hs:starEach [a] X.env=[(false,eval a X.env)]):DE fa X (.Call (.Name "list" p) [a] [] pos) (kK m ga):=
 bF (my (I9 J hd m) L hm boot_list (bS I cy hs) (he:=by rw[hs];rfl)) λW H Q ⟨P,R,M,B,F,h⟩=>by
  obtain(x|y|e1|h1):=aI h;show{P,R,M,B,F,?_};rw[e1];intro v S u O j r1;cases x with
  | fn o=>
    dsimp only at h1;cases eq:b5 y o with
    |none=>rw[eq] at h1;show h1.elim
    |some q=>rw[eq] at h1;show{u,y,o,q,v,j,rfl,r1,eq,ay h1 λd U h2=>aY.ext h2 O}
  |_=>show h1.elim
end
end LD
namespace LD
open PySem
def ob {α β:Type}{a:Option α}{f:α->Option β}{r:β}(h:a.bind f=some r):∃x,a=some x/\f x=some r:=Sf.mp h
def oi {α:Type}{c:Prop}[Decidable c]{a:Option α}{r:α}(h:(if c then a else none)=some r):c/\a=some r:=by
 split at h
 .exact{by assumption,h}
 .cases h
section
variable{β:Type}{r:β}{e:Expr}{st:Stmt}
def od {c:Prop}[Decidable c]{f:c->Option β}(h:(if x:c then f x else none)=some r):∃x,f x=some r:=by
 by_cases z:c
 .rw[dif_pos z] at h;show⟨z,h⟩
 .rw[dif_neg z] at h;cases h
local macro_rules|`(command|#check $n:ident $a*)=>do
 let m:=a[0]!.raw;let c:Lean.TSyntax `ident:=⟨a[1]!.raw⟩;let v:Array (Lean.TSyntax `ident):=(a.extract 3 a.size).map λx=>⟨x.raw⟩;let f:=Lean.mkIdentFrom c (c.getId++`elim)
 `(noncomputable def $n {β:Type} e:=λg=>if h:e.ctorIdx=$(⟨a[2]!.raw⟩) then @$f (λ_=>Option β) e h g else none
 theorem $(⟨m⟩) {β:Type}{e}{g}{y:β}(h:$n e g=some y):∃$[$v:ident]*,e=$c $v*∧g $v*=some y:=(od h).elim λz h=>@$f (λe=>∀z,@$f (λ_=>Option β) e z g=some y→∃$[$v:ident]*,e=$c $v*∧g $v*=some y) e z (λ$v* _ h=>by show⟨$v,*,rfl,h⟩) z h)
#check L3 uA Expr.UnaryOp 3 a b c
#check FW uE Expr.BoolOp 0 a b c
#check PY A0 Expr.ListComp 8 a b c d
#check L5 wO Expr.IfExp 5 a b c d
#check L8 qE Expr.Compare 15 a b c d
#check yo oJ Expr.Call 16 a b c d
#check QG IF Expr.FormattedValue 17 a b c d
#check QF ID Expr.JoinedStr 18 a b
#check uC kF Expr.Constant 19 a b c
#check OH DU Expr.Attribute 20 a b c
#check oI hJ Expr.Subscript 21 a b c
#check nName cL Expr.Name 23 a b
#check uB hI Expr.Tuple 25 a b c
#check DQ qD Expr.Slice 26 a b c d
#check ya ng Stmt.Assign 5 a b c
#check Qx HL Stmt.Raise 16 a b c
#check sTr KP Stmt.Try 17 a b c d f
#check Dk qt Stmt.Expr 24 a b
#check QH IG Expr.BinOp 2 a b c d
#check QE IC Expr.List 24 a b
#check sRt KQ Stmt.Return 3 a b
#check sFr KU Stmt.For 9 a b c d f
#check sIf KS Stmt.If 12 a b c d
#check sPs KR Stmt.Pass 25 a
variable{α:Type}{l:List α}
noncomputable def n0 (l:List α)(v:Option β):Option β:=if l.isEmpty=true then v else none
def fo {v:Option β}(h:n0 l v=some r):l=[]/\v=some r:=(oi h).elim λc h=>{List.isEmpty_iff.mp c,h}
noncomputable def nC (l:List α)(k:α->List α->Option β):Option β:=match l with
 |[]=>none
 |a::s=>k a s
def jK {k:α->List α->Option β}(h:nC l k=some r):∃a s,l=a::s/\k a s=some r:=by
 cases l with
 |nil=>cases h
 |cons a s=>show⟨a,s,rfl,h⟩
def n1 (l:List α)(k:α->Option β):Option β:=nC l λa s=>n0 s (k a)
def cE {k:α->Option β}(h:n1 l k=some r):∃a,l=[a]/\k a=some r:=by
 obtain(a|s|rfl|h):=jK h;obtain(rfl|h):=fo h;show⟨a,rfl,h⟩
def n2 (l:List α)(k:α->α->Option β):Option β:=nC l λa s=>n1 s (k a)
def ig {k:α->α->Option β}(h:n2 l k=some r):∃a b,l=[a,b]/\k a b=some r:=by
 obtain(a|s|rfl|h):=jK h;obtain(b|rfl|h):=cE h;show⟨a,b,rfl,h⟩
def DN (e:Expr)(k:Str->Option β):Option β:=uC e λc _ _=>match c with
 |.str z=>k z
 |_=>none
def wN {k:Str->Option β}(h:DN e k=some r):∃z i p,e=.Constant (.str z) i p/\k z=some r:=by
 obtain(c|i|p|rfl|h):=kF h;cases c with
 |str z=>show⟨z,i,p,rfl,h⟩
 |_=>cases h
def FU (e:Expr)(v:Option β):Option β:=uC e λc _ _=>match c with
 |.bool b=>if b=true then v else none
 |_=>none
def DM {v:Option β}(h:FU e v=some r):∃i p,e=.Constant (.bool true) i p/\v=some r:=by
 obtain(c|i|p|rfl|h):=kF h;cases c with
 |bool b=>obtain(rfl|k):=oi h;show⟨i,p,rfl,k⟩
 |_=>cases h
def L4 (e:Expr)(k:Int->Option β):Option β:=uC e λc _ _=>match c with
 |.int z=>k z
 |_=>none
def IE {k:Int->Option β}(h:L4 e k=some r):∃z i p,e=.Constant (.int z) i p/\k z=some r:=by
 obtain(c|i|p|rfl|h):=kF h;cases c with
 |int z=>show⟨z,i,p,rfl,h⟩
 |_=>cases h
def PZ (e:Expr)(k:Expr->Option β):Option β:=QG e λa i s _=>if i=-1/\s.isNone=true then k a else none
def L6 {k:Expr->Option β}(h:PZ e k=some r):∃a p,e=.FormattedValue a (-1) none p/\k a=some r:=by
 obtain(a|i|s|p|rfl|h):=IF h;obtain((rfl|c)|k):=oi h;rw[Tw.mp c];show⟨a,p,rfl,k⟩
noncomputable def nG (c:Ua)(k:Expr->Expr->List Expr->Option β):Option β:=if c.is_async=0 then k c.target c.iter c.ifs else none
def sR {c:Ua}{k:Expr->Expr->List Expr->Option β}(h:nG c k=some r):∃t i f,c={t,i,f,0}/\k t i f=some r:=by
 obtain(z|h):=oi h;cases c;cases z;show{_,_,_,rfl,h}
def nY (e:Expr)(k:Str->List Expr->Pos->Option β):Option β:=yo e λf es ks p=>nName f λx _=>n0 ks (k x es p)
def gL {k:Str->List Expr->Pos->Option β}(h:nY e k=some r):∃x q es p,e=.Call (.Name x q) es [] p/\k x es p=some r:=by
 obtain(f|es|ks|p|rfl|h):=oJ h;obtain(x|q|rfl|h):=cL h;obtain(rfl|h):=fo h;show⟨x,q,es,p,rfl,h⟩
def FV (e:Expr)(k:Expr->Str->Expr->Bool->Option β):Option β:=yo e λf es ks p=>OH f λa m q=>n0 ks (n1 es λd=>k a m d (q.endLine==p.line))
def uD {k:Expr->Str->Expr->Bool->Option β}(h:FV e k=some r):∃a m q d p,e=.Call (.Attribute a m q) [d] [] p/\k a m d (q.endLine==p.line)=some r:=by
 obtain(f|es|ks|p|rfl|h):=oJ h;obtain(a|m|q|rfl|h):=DU h;obtain(rfl|h):=fo h;obtain(d|rfl|h):=cE h;show⟨a,m,q,d,p,rfl,h⟩
def cb {a b:Option β}(h:a.or b=some r):a=some r\/b=some r:=by
 cases a with
 |none=>show .inr h
 |some x=>show .inl h
end
end LD
namespace LD
open PySem PySem.Spec PyProof.Rows L2
inductive En where
 |fn (i:Nat) (r:Bool)|fnD (i:Nat)|int (i:Int)|str (z:Str)|dct (fs:List (Str×Nat))|xc (k:Nat)|xi (k:Nat)|xk (k:Nat)|de|bl|cls (c f:Nat)
structure GX (fa:Fa) (P:Sx) (w:Sr) (K:RG) (mg:Str->Option RJ) (base:Heap) (T:List (Str×En)):Prop where
 fn:∀{x:Str}{i:Nat}{r:Bool},T.lookup x=some (.fn i r)->∀ad,fa i=some ad->mg x=some (.ref ad)
 fnD:∀{x:Str}{i:Nat},T.lookup x=some (.fnD i)->(∀ad,fa i=some ad->mg x=some (.ref ad))/\(fa (500+i)).isSome=true
 int:∀{x:Str}{i:Int},T.lookup x=some (.int i)->∃t,mg x=some (.int i t)
 str:∀{x:Str}{z:Str},T.lookup x=some (.str z)->∃t,mg x=some (.str z t)
 dct:∀{x:Str}{fs:List (Str×Nat)},T.lookup x=some (.dct fs)->∃ad kvs,mg x=some (.ref ad)/\fA K w.params ad kvs/\ec fa kvs fs
 xc:∀{x:Str}{k:Nat},T.lookup x=some (.xc k)->∃C,mg x=some (.ref C)/\fa (eJ k)=some C/\PySem.W.excIn K C BN "ValueError.__new__"=true/\PySem.W.keepIn K (.ref C)=true
 xi:∀{x:Str}{k:Nat},T.lookup x=some (.xi k)->B4 fa P w K mg base k x/\∃D,mg x=some (.ref D)/\fa (eJ k)=some D
 xk:∀{x:Str}{k:Nat},T.lookup x=some (.xk k)->∃D,mg x=some (.ref D)/\fa (eJ k)=some D
 de:∀{x:Str},T.lookup x=some .de->∃D,mg x=some (.ref D)/\fa 999=some D
 bl:∀{x:Str},T.lookup x=some .bl->mg x=none
 xcs:oj fa K
 ob:NN fa K
 of:∀o,5000<=o->fa o=none
 od:fa (jJ 77)=none/\fa (jJ 78)=none
 cls:∀{x:Str}{c f:Nat},T.lookup x=some (.cls c f)->∃C,mg x=some (.ref C)/\fa (jJ c)=some C/\∀ad,fa f=some ad->Mk K C ad
structure G where
 T:List (Str×En)
 tw:List (Str×Str×Nat×Nat)
 xf:List Str
 cel:List (Nat×Nat×Nat)
 txt:List (Nat×Nat×Nat)
 ms:List (Str×Nat×Nat)
 c:Call
 N:List Str
 sc:Scope
 lv:Nat
 oc:List Str:=[]
structure dD (fa:Fa) (n:Nat) (g:G) (X:Cx):Prop where
 N:X.N=g.N
 nd:g.N.Nodup
 sc:X.env.scope=g.sc
 T:GX fa X.prog X.w X.K X.mg X.base g.T
 tw:∀q∈g.tw,GV fa X.K X.mg q.1 q.2.1 q.2.2.1 q.2.2.2
 xf:∀f∈g.xf,GR fa X.K f
 ms:∀q∈g.ms,qm fa X.K q.1 q.2.1 q.2.2
 fn:g.lv≠1->∀x,X.fn x=true
 oc:∀x∈g.oc,X.fn x=true
 calm:0<g.lv->X.calm=true
 C:0<g.lv->∀f,g7 fa X.prog X.w X.K X.mg X.base n f (g.c f)
 hr:0<g.lv->c9 (2*n+4+1) X.A
 top:2<=g.lv->X.ex=[]/\X.stack=X.env::X.outer/\X.env.frame=some X.env.locals/\X.env.scope.kind=.function
 po:g.lv=2->PassesOwn (model X.prog X.w) X.A X.env X.xe
structure Rc where
 e:G->Expr->Option GE
 t:G->Expr->Option GT
 x:G->Expr->Option GE
 w:G->Expr->Expr->Option GW
 s:G->Stmt->Option GS
abbrev c8:=Rc->G->Expr->Option GE
abbrev GY:=Rc->G->Expr->Option GT
abbrev sD:=Rc->G->Expr->Expr->Option GW
abbrev kZ:=Rc->G->Stmt->Option GS
structure iP (fa:Fa) (n:Nat) (R:Rc):Prop where
 e:∀{g:G}{X:Cx}{a:Expr}{ga:GE},dD fa n g X->R.e g a=some ga->DE fa X a ga
 t:∀{g:G}{X:Cx}{a:Expr}{ga:GT},dD fa n g X->R.t g a=some ga->DT fa X a ga
 x:∀{g:G}{X:Cx}{a:Expr}{ga:GE},dD fa n g X->R.x g a=some ga->DX fa X a ga
 w:∀{g:G}{X:Cx}{t a:Expr}{ga:GW},dD fa n g X->R.w g t a=some ga->DI fa X t a ga
 s:∀{g:G}{X:Cx}{a:Stmt}{ga:GS},dD fa n g X->R.s g a=some ga->DS fa X a ga
def SE (r:c8):Prop:=∀{fa:Fa}{n:Nat}{R:Rc},iP fa n R->∀{g:G}{X:Cx},dD fa n g X->∀{a:Expr}{h:GE},r R g a=some h->DE fa X a h
def ST (r:GY):Prop:=∀{fa:Fa}{n:Nat}{R:Rc},iP fa n R->∀{g:G}{X:Cx},dD fa n g X->∀{a:Expr}{h:GT},r R g a=some h->DT fa X a h
def SX (r:c8):Prop:=∀{fa:Fa}{n:Nat}{R:Rc},iP fa n R->∀{g:G}{X:Cx},dD fa n g X->∀{a:Expr}{h:GE},r R g a=some h->DX fa X a h
def SW (r:sD):Prop:=∀{fa:Fa}{n:Nat}{R:Rc},iP fa n R->∀{g:G}{X:Cx},dD fa n g X->∀{t a:Expr}{h:GW},r R g t a=some h->DI fa X t a h
def SS (r:kZ):Prop:=∀{fa:Fa}{n:Nat}{R:Rc},iP fa n R->∀{g:G}{X:Cx},dD fa n g X->∀{a:Stmt}{h:GS},r R g a=some h->DS fa X a h
structure Rs where
 e:List c8
 t:List GY
 x:List c8
 w:List sD
 s:List kZ
noncomputable def It (rs:Rs):Nat->Rc
 |0=>{λ_ _=>none,λ_ _=>none,λ_ _=>none,λ_ _ _=>none,λ_ _=>none}
 |n+1=>{λg a=>rs.e.findSome? λr=>r (It rs n) g a,λg a=>rs.t.findSome? λr=>r (It rs n) g a,λg a=>rs.x.findSome? λr=>r (It rs n) g a,λg t a=>rs.w.findSome? λr=>r (It rs n) g t a,λg a=>rs.s.findSome? λr=>r (It rs n) g a}
noncomputable def AllP {h:Type}(p:h->Prop):List h->Prop
 |[]=>True
 |a::l=>p a/\AllP p l
noncomputable def AllP.mem {j:Type}{p:j->Prop}:∀{l:List j},AllP p l->∀a∈l,p a
 |_::_,h,a,m=>(R7.mp m).elim (λe=>e ▸ h.1) (AllP.mem h.2 a)
structure EW (rs:Rs):Prop where
 e:AllP SE rs.e
 t:AllP ST rs.t
 x:AllP SX rs.x
 w:AllP SW rs.w
 s:AllP SS rs.s
theorem G1 (h:EW rs):∀k,iP fa n (It rs k)
 |0=>{(λ_ z=>nomatch z),(λ_ z=>nomatch z),(λ_ z=>nomatch z),(λ_ z=>nomatch z),(λ_ z=>nomatch z)}
 | k+1=>by
   have j:=G1 (n:=n) (fa:=fa) h k;show{λo z=>?_,λo z=>?_,λo z=>?_,λo z=>?_,λo z=>?_}
   .obtain(r|m|e):=Ts z;show h.e.mem r m j o e
   .obtain(r|m|e):=Ts z;show h.t.mem r m j o e
   .obtain(r|m|e):=Ts z;show h.x.mem r m j o e
   .obtain(r|m|e):=Ts z;show h.w.mem r m j o e
   .obtain(r|m|e):=Ts z;show h.s.mem r m j o e
noncomputable def Qe:Str:="__debug__"
def iQ (g:G)(x:Str):Bool:=g.sc.names.lookup x==some .globalImplicit&&!(x==Qe)
def vr (g:G)(x:Str):Option Nat:=if (g.sc.names.lookup x==some .local||g.sc.names.lookup x==some .cell||g.sc.names.lookup x==some .free)&&!(x==Qe)&&!(x==("__classdict__":Str)) then g.N.findIdx? (·==x) else none
section
variable{fa:Fa}{n:Nat}{g:G}{X:Cx}{R:Rc}(o:dD fa n g X)
include o
theorem dg (h:iQ g x=true):Gl X x/\(x==("__debug__":Str))=false:=by
 unfold iQ at h;rw[RM,Um] at h;show{by change X.env.scope.names.lookup x=_;rw[o.sc];show eq_of_beq h.1,h.2}
theorem sU (h:g.N.findIdx? (·==x)=some i):X.N[i]?=some x:=by
 obtain(j|h1|_):=List.findIdx?_eq_some_iff_getElem.mp h;rw[o.N,RZ j,eq_of_beq h1]
theorem Ff (h:vr g x=some i):X.N[i]?=some x/\B1 X.env.scope x/\(x==("__debug__":Str))=false/\(x==("__classdict__":Str))=false:=by
 obtain(c|h):=oi h;dsimp[RM,TN,Um] at c;show{sU o h,?_,c.1.2,c.2};rw[o.sc];rcases c.1.1 with(z|z)|z
 .exact .inl (eq_of_beq z)
 .exact .inr (.inl (eq_of_beq z))
 .exact .inr (.inr (eq_of_beq z))
omit o
theorem dD.rm (o:dD fa n g X)(h:0<g.lv):Rm X:=HM (o.hr h)
end
noncomputable def cA (f:Expr->Option GE):List Expr->Option GA
 |[]=>some bb
 |a::r=>if notStar a=true then(f a).bind λx=>(cA f r).bind λy=>some (a9 x y) else none
theorem jU (hf:∀{a:Expr}{j:GE},f a=some j->DE fa X a j):∀{es:List Expr}{u:GA},cA f es=some u->DA fa X es u/\es.all notStar=true
 |[],_,h=>by cases h;show⟨Np,rfl⟩
 | a::r,_,h=>by
   obtain(c|h):=oi h;obtain(x|v|h):=ob h;obtain(y|B|h):=ob h;cases h;obtain(h1|h2):=jU hf B;show{JA (hf v) h1 (bJ c),by rw[SQ,c,h2];rfl}
noncomputable def vB (f:Expr->Option GE)(k:GE->GE->GE):List Expr->Option GE
 |[]=>none
 |[a]=>f a
 |a::b::r=>(f a).bind λx=>(vB f k (b::r)).bind λy=>some (k x y)
noncomputable def xG (hf:∀{a:Expr}{j:GE},f a=some j->DE fa X a j):∀{es:List Expr}{ge:GE},vB f dH es=some ge->DE fa X (.BoolOp .And es pos) ge
 |[a],_,h=>GF (hf h)
 | a::b::r,_,h=>by
   obtain(x|u|h):=ob h;obtain(y|v|h):=ob h;cases h;show Pm (hf u) (xG hf v)
noncomputable def BU (hf:∀{a:Expr}{j:GE},f a=some j->DE fa X a j):∀{es:List Expr}{ge:GE},vB f uW es=some ge->DE fa X (.BoolOp .Or es pos) ge
 |[a],_,h=>GF (hf h)
 | a::b::r,_,h=>by
   obtain(x|u|h):=ob h;obtain(y|v|h):=ob h;cases h;show Rb (hf u) (BU hf v)
noncomputable def tQ (f:Expr->Option GT)(k:GT->GT->GT):List Expr->Option GT
 |[]=>none
 |[a]=>f a
 |a::b::r=>(f a).bind λx=>(tQ f k (b::r)).bind λy=>some (k x y)
noncomputable def wa (hf:∀{a:Expr}{j:GT},f a=some j->DT fa X a j):∀{es:List Expr}{ge:GT},tQ f dF es=some ge->DW fa X (.BoolOp .And es pos) ge
 |[a],_,h=>Ji (hf h)
 | a::b::r,_,h=>by
   obtain(x|u|h):=ob h;obtain(y|v|h):=ob h;cases h;show MU (hf u) (wa hf v)
noncomputable def Ad (hf:∀{a:Expr}{j:GT},f a=some j->DT fa X a j):∀{es:List Expr}{ge:GT},tQ f c4 es=some ge->DW fa X (.BoolOp .Or es pos) ge
 |[a],_,h=>MT (hf h)
 | a::b::r,_,h=>by
   obtain(x|u|h):=ob h;obtain(y|v|h):=ob h;cases h;show OZ (hf u) (Ad hf v)
def Fm:c8:=λ_ g e=>nName e λx _=>((vr g x).bind λi=>some (aa i)).or (if iQ g x=true then(g.T.lookup x).bind fun
 |.int i=>some (gC (.int i))
 |.str i=>some (gC (.str i))
 |_=>none else none)
def Cq:SE Fm:=by
 intro fa n R y g X o a u h;replace h:=cL h;obtain(x|p|rfl|h):=h;rcases cb h with h|h
 .obtain(i|e|h):=ob h;cases h;obtain(a|b|c|d):=Ff o e;show O4 a b c d
 .obtain(c|h):=oi h;obtain(j|hd):=dg o c;obtain(t|e|h):=ob h;cases t with
  |int i=>cases h;show HU j (o.T.int e) hd
  |str i=>cases h;obtain(t|e):=o.T.str e;show jf (v:=.str _) (hD j e ⟨t,rfl⟩ hd) λ_ _=>rfl
  |_=>cases h
def zQ:c8:=λ_ _ e=>uC e fun
 |.int i,_,_=>some (gC (.int i))
 |.bool i,_,_=>some (gC (.bl i))
 |.str i,_,_=>some (gC (.str i))
 |.none,_,_=>some (gC .non)
 |_,_,_=>none
def zP:SE zQ:=by
 intro fa n R u g X o a j h;replace h:=kF h;obtain(c|i|p|rfl|h):=h;cases c with
 |int i=>cases h;show Pc
 |bool i=>cases h;show Rf
 |str i=>cases h;show O6
 |none=>cases h;show GG
 |_=>cases h
noncomputable def G.cl (g:G)(p:Pos):Bool:=g.cel.contains (p.line,p.col,p.endCol)
def G.tx (g:G)(p:Pos):Bool:=g.txt.contains (p.line,p.col,p.endCol)
noncomputable def GO:Operator->Option om
 |.Add=>some .add|.Sub=>some .sub|.Mult=>some .mul|.FloorDiv=>some .fdiv|.Mod=>some .mod|.Pow=>some .pow|_=>none
def EN (h:GO q=some b):q=binOp b:=by cases q<;>cases h<;>rfl
noncomputable def fW:CmpOp->j4
 |.Eq=>.eq|.NotEq=>.ne|.Lt=>.lt|.LtE=>.le|.Gt=>.gt|.GtE=>.ge|.Is=>.isN|.IsNot=>.notN|.In=>.isin|.NotIn=>.notin
def cX (q:CmpOp):eE (fW q)=q:=by cases q<;>rfl
def Kc:c8:=λR g e=>(QH e λa q b p=>(GO q).bind λq=>(R.e g a).bind λx=>(R.e g b).bind λy=>some (ak (g.cl p) q x y)).or
 ((L3 e λq a _=>match q with
   |.USub=>(R.e g a).bind λx=>some (eC x)
   |.Not=>(R.e g a).bind λx=>some (MC x)
   |_=>none).or
 ((FW e λq h _=>match q with
   |.And=>vB (R.e g) dH h
   |.Or=>vB (R.e g) uW h).or
 ((L5 e λc a b _=>(R.t g c).bind λt=>(R.e g a).bind λx=>(R.e g b).bind λy=>some (gg t x y)).or
 ((uB e λh _ _=>(cA (R.e g) h).bind λs=>some (aR s)).or (QE e λh p=>(cA (R.e g) h).bind λs=>some (aW (g.cl p) s))))))
def Hh:SE Kc:=by
 intro fa n R j g X o a H h;replace h:=cb h;rcases h with h|h
 .obtain(a|q|b|p|rfl|h):=IG h;obtain(q|E|h):=ob h;obtain(x|u|h):=ob h;obtain(y|v|h):=ob h;cases h;rw[EN E];show Pj _ _ (j.e o u) (j.e o v)
 replace h:=cb h;rcases h with h|h
 .obtain(q|a|p|rfl|h):=uA h;cases q with
  |USub=>obtain(x|u|h):=ob h;cases h;show O9 (j.e o u)
  |Not=>obtain(x|u|h):=ob h;cases h;show O8 (j.e o u)
  |_=>cases h
 replace h:=cb h;rcases h with h|h
 .obtain(q|B|p|rfl|h):=uE h;cases q with
  |And=>show xG (j.e o) h
  |Or=>show BU (j.e o) h
 replace h:=cb h;rcases h with h|h
 .obtain(c|a|b|p|rfl|h):=wO h;obtain(t|F|h):=ob h;obtain(x|u|h):=ob h;obtain(y|v|h):=ob h;cases h;show Pb (j.t o F) (j.e o u) (j.e o v)
 replace h:=cb h;rcases h with h|h
 .obtain(B|k|p|rfl|h):=hI h;obtain(s|hs|h):=ob h;cases h;show O5 (jU (j.e o) hs).1
 .obtain(B|p|rfl|h):=IC h;obtain(s|hs|h):=ob h;cases h;show Pa _ (jU (j.e o) hs).1
def EH (g:G)(x:Str):Option (List (Str×Nat)):=if iQ g x=true then(match g.T.lookup x with|some (.dct fs)=>some fs|_=>none) else none
set_option tactic.hygienic true in
def u4 (o:dD fa n g X)(h:EH g x=some fs):(∃ad j,X.mg x=some (.ref ad)/\fA X.K X.w.params ad j/\ec fa j fs)/\Gl X x/\(x==("__debug__":Str))=false:=by
 obtain(c|h):=oi h;split at h
 .next e=>cases h;show{o.T.dct e,dg o c}
 .cases h
def EL (R:Rc)(g:G)(e:Expr):Option GE:=L8 e λa h bs _=>
 (n2 h λq r=>n2 bs λb c=>if 0<g.lv/\behindInMarks r c=false then(R.e g a).bind λy=>(R.e g b).bind λz=>(R.e g c).bind λu=>some (jw (fW q) (fW r) y z u) else none).or
 (n1 h λq=>n1 bs λb=>(if fW q=.notin then nName b λx _=>(EH g x).bind λfs=>(R.e g a).bind λy=>some (iX fs y) else none).or
  (if 0<g.lv/\behindInMarks q b=false then(R.e g a).bind λy=>(R.e g b).bind λz=>some (aA (fW q) y z) else none))
def Kj:c8:=EL
def uw (h:fW q=.notin):q=.NotIn:=(cX q).symm.trans (congrArg eE h)
def Hm:SE Kj:=by
 intro fa n R j g X o a F h;replace h:=qE h;obtain(a|H|bs|p|rfl|h):=h;replace h:=cb h;rcases h with h|h
 .replace h:=ig h;obtain(q|r|rfl|h):=h;obtain(b|d|rfl|h):=ig h;obtain(c|h):=oi h;replace h:=ob h;obtain(y|v|h):=h;replace h:=ob h;obtain(z|B|h):=h;replace h:=ob h;obtain(u|E|h):=h;cases h;have:=Ph (o.rm c.1) (fW q) (fW r) (j.e o v) (j.e o B) (j.e o E) (by rw[cX,cX];show c.2) (pos:=p)
  rw[cX,cX] at this;show this
 replace h:=cE h;obtain(q|rfl|h):=h;replace h:=cE h;obtain(b|rfl|h):=h;replace h:=cb h;rcases h with h|h
 .replace h:=oi h;obtain(c|h):=h;obtain(x|_|rfl|h):=cL h;obtain(fs|e|h):=ob h;obtain(y|v|h):=ob h;cases h;obtain(d|e1|e2):=u4 o e;rw[uw c];show HV d e1 e2 (j.e o v) rfl
 .obtain(c|h):=oi h;obtain(y|v|h):=ob h;obtain(z|B|h):=ob h;cases h;have:=Pf (o.rm c.1) (fW q) (j.e o v) (j.e o B) (by rw[cX];show c.2) (pos:=p)
  rw[cX] at this;show this
noncomputable def Qj:Expr->Bool
 |.Compare ..=>false
 |.BoolOp ..=>false
 |.UnaryOp ..=>false
 |.IfExp ..=>false
 |_=>true
def vT:GY:=λR g e=>((EL R g e).bind λx=>some (ai x)).or
 ((FW e λq h _=>match q with
   |.And=>tQ (R.t g) dF h
   |.Or=>tQ (R.t g) c4 h).or
 ((L3 e λq a _=>match q with
   |.Not=>(R.t g a).bind λx=>some (bO x)
   |_=>none).or (if Qj e=true then(R.e g e).bind λx=>some (ai x) else none)))
def Hd (j:iP fa n R)(o:dD fa n g X)(h:EL R g a=some ga):DT fa X a (ai ga):=by
 replace h:=qE h;obtain(a|F|bs|p|rfl|h):=h;replace h:=cb h;rcases h with h|h
 .replace h:=ig h;obtain(q|r|rfl|h):=h;obtain(b|d|rfl|h):=ig h;obtain(c|h):=oi h;replace h:=ob h;obtain(y|v|h):=h;replace h:=ob h;obtain(z|B|h):=h;replace h:=ob h;obtain(u|E|h):=h;cases h;have:=MY (o.rm c.1) (fW q) (fW r) (j.e o v) (j.e o B) (j.e o E) (by rw[cX,cX];show c.2) (pos:=p)
  rw[cX,cX] at this;show this
 replace h:=cE h;obtain(q|rfl|h):=h;replace h:=cE h;obtain(b|rfl|h):=h;replace h:=cb h;rcases h with h|h
 .replace h:=oi h;obtain(c|h):=h;obtain(x|_|rfl|h):=cL h;obtain(fs|e|h):=ob h;obtain(y|v|h):=ob h;cases h;obtain(d|e1|e2):=u4 o e;rw[uw c];show HZ d e1 e2 (j.e o v) rfl
 .obtain(c|h):=oi h;obtain(y|v|h):=ob h;obtain(z|B|h):=ob h;cases h;have:=MX (o.rm c.1) (fW q) (j.e o v) (j.e o B) (by rw[cX];show c.2) (pos:=p)
  rw[cX] at this;show this
def N1:ST vT:=by
 intro fa n R u g X o a y h;replace h:=cb h;rcases h with h|h
 .obtain(x|j|h):=ob h;cases h;show Hd u o j
 replace h:=cb h;rcases h with h|h
 .obtain(q|v|p|rfl|h):=uE h;cases q with
  |And=>show PW.pt (wa (u.t o) h)
  |Or=>show PW.pt (Ad (u.t o) h)
 replace h:=cb h;rcases h with h|h
 .obtain(q|a|p|rfl|h):=uA h;cases q with
  |Not=>obtain(x|j|h):=ob h;cases h;show MV (u.t o j)
  |_=>cases h
 .obtain(c|h):=oi h;obtain(x|j|h):=ob h;cases h;show Ey (u.e o j) λ_=>by cases a<;>first|rfl|cases c
noncomputable def kB:Expr->Bool
 |.Slice ..=>false
 |_=>true
def oE (h:kB b=true):jh b:=by
 intro x i;cases b<;>first|rfl|cases h
noncomputable def cO (f:Expr->Option GE):Option Expr->Option GE
 |none=>some (gC .non)
 |some a=>f a
def s8 (hf:∀{a:Expr}{j:GE},f a=some j->DE fa X a j)(h:cO f q=some ge):DO fa X q q.isSome ge:=by
 cases q with
 |none=>cases h;show Jp
 |some a=>show Jo (hf h)
noncomputable def J7:UnaryOp->Bool
 |.USub=>true
 |_=>false
def He (h:J7 q=true):q=.USub:=by cases q<;>first|rfl|cases h
def Ka:c8:=λR g e=>oI e λa b _=>nName a λx _=>(EH g x).bind λfs=>if kB b=true then(R.e g b).bind λy=>some (lM fs y) else none
def Hf:SE Ka:=by
 intro fa n R u g X o a v h;replace h:=hJ h;obtain(a|b|p|rfl|h):=h;replace h:=cL h;obtain(x|q|rfl|h):=h;obtain(fs|e|h):=ob h;obtain(c|h):=oi h;obtain(y|j|h):=ob h;cases h;obtain(d|e1|e2):=u4 o e;show HX d e1 e2 (u.e o j) (oE c)
def Kf:c8:=λR g e=>oI e λa b p=>(DQ b λlo h st _=>if st.isNone=true/\g.tx p=false then(R.e g a).bind λx=>(cO (R.e g) lo).bind λy=>(cO (R.e g) h).bind λz=>some (cw (g.cl p) lo.isSome h.isSome x y z) else none).or
 (if kB b=true then(R.e g a).bind λx=>(R.e g b).bind λy=>some (ao x y) else none)
def Hk:SE Kf:=by
 intro fa n R j g X o a E h;replace h:=hJ h;obtain(a|b|p|rfl|h):=h;replace h:=cb h;rcases h with h|h
 .obtain(lo|F|st|p2|rfl|h):=qD h;obtain((c|_)|h):=oi h;replace h:=ob h;obtain(x|u|h):=h;replace h:=ob h;obtain(y|v|h):=h;replace h:=ob h;obtain(z|B|h):=h;cases h;rw[Tw.mp c];show O7 _ _ _ (j.e o u) (s8 (j.e o) v) (s8 (j.e o) B)
 .obtain(c|h):=oi h;obtain(x|u|h):=ob h;obtain(y|v|h):=ob h;cases h;show Pd (j.e o u) (j.e o v) (oE c)
def Fj:c8:=λR g e=>oI e λa b p=>DQ b λlo h st _=>if st.isNone=true/\g.tx p=true then(R.e g a).bind λx=>(cO (R.e g) lo).bind λy=>(cO (R.e g) h).bind λz=>some (nF lo.isSome h.isSome x y z) else none
def Cp:SE Fj:=by
 intro fa n R j g X o a E h;replace h:=hJ h;obtain(a|b|p|rfl|h):=h;replace h:=qD h;obtain(lo|F|st|p2|rfl|h):=h;obtain((c|_)|h):=oi h;replace h:=ob h;obtain(x|u|h):=h;replace h:=ob h;obtain(y|v|h):=h;replace h:=ob h;obtain(z|B|h):=h;cases h;rw[Tw.mp c];show K0 _ _ (j.e o u) (s8 (j.e o) v) (s8 (j.e o) B)
def Kb:c8:=λR g e=>oI e λa b p=>DQ b λlo h st _=>st.bind λs=>L3 s λq c _=>L4 c λz=>if lo.isNone=true/\h.isNone=true/\J7 q=true/\z=1 then(R.e g a).bind λx=>some (qQ (g.cl p) x) else none
def Hg:SE Kb:=by
 intro fa n R E g X o a F h;replace h:=hJ h;obtain(a|b|p|rfl|h):=h;replace h:=qD h;obtain(lo|H|st|p2|rfl|h):=h;obtain(s|rfl|h):=ob h;replace h:=uA h;obtain(q|c|_|rfl|h):=h;replace h:=IE h;obtain(z|_|_|rfl|h):=h;obtain((j|u|v|y)|k):=oi h;rw[Tw.mp j,Tw.mp u,He v,y];obtain(x|B|k):=ob k;cases k;show Oi _ (E.e o B)
noncomputable def lx (g:G)(x:Str):Option Nat:=if (g.sc.names.lookup x==some .local||(g.sc.names.lookup x==some .cell&&(g.lv != 1||g.oc.contains x)))=true then g.N.findIdx? (·==x) else none
noncomputable def FX (g:G):List Expr->Option (List Nat)
 |[]=>some []
 |e::r=>nName e λx _=>(lx g x).bind λi=>(FX g r).bind λl=>some (i::l)
def cG (g:G)(e:Expr):Option fR:=(nName e λx _=>(lx g x).bind λi=>some (.one i)).or (uB e λh _ _=>if 0<g.lv then((FX g h).bind λl=>some (.tup l)).or (n2 h λa b=>nName a λx _=>uB b λbs _ _=>(lx g x).bind λi=>(FX g bs).bind λl=>some (.two i l)) else none)
section
variable{fa:Fa}{n:Nat}{g:G}{X:Cx}{R:Rc}(o:dD fa n g X)
include o
theorem yr (h:lx g x=some i):X.N[i]?=some x/\L2.Loc X.env.scope x/\(X.fn x=true\/X.env.scope.names.lookup x=some .local):=by
 obtain(c|h):=oi h;rw[TN,RM] at c;show{sU o h,?_,?_}
 .unfold L2.Loc;rw[o.sc];rcases c with z|z
  .exact .inl (eq_of_beq z)
  .exact .inr (eq_of_beq z.1)
 .rcases c with z|z
  .right;rw[o.sc];show eq_of_beq z
  .rcases Bool.or_eq_true_iff.mp z.2 with q|q
   .exact .inl (o.fn (~~~q) x)
   .exact .inl (o.oc x (Uj.mp q))
theorem uI:∀{es:List Expr}{l:List Nat},FX g es=some l->i7 X l es
 |[],_,h=>by cases h;show .nil
 | e::r,_,h=>by
   replace h:=cL h;obtain(x|p|rfl|h):=h;obtain(i|j|h):=ob h;obtain(l|hl|h):=ob h;cases h;obtain(a|b|c):=yr o j;show .cons a b c (uI hl)
theorem jT (h:cG g t=some tt):PG X t (gT fa X.K tt):=by
 replace h:=cb h;rcases h with h|h
 .obtain(x|p|rfl|h):=cL h;replace h:=ob h;obtain(i|j|h):=h;cases h;obtain(a|b|c):=yr o j;show Jx (o.N ▸ o.nd) a b c
 .replace h:=hI h;obtain(v|k|p|rfl|h):=h;replace h:=oi h;obtain(c|h):=h;replace h:=cb h;rcases h with h|h
  .obtain(l|hl|h):=ob h;cases h;show Nl (o.calm c) (o.N ▸ o.nd) (uI o hl)
  .obtain(a|b|rfl|h):=ig h;replace h:=cL h;obtain(x|y|rfl|h):=h;replace h:=hI h;obtain(bs|k2|p2|rfl|h):=h;obtain(i|j|h):=ob h;obtain(l|hl|h):=ob h;cases h;obtain(e1|e2|u):=yr o j;show Nk (o.calm c) (o.N ▸ o.nd) e1 e2 u (uI o hl)
end
def cB (nm:Str)(R:Rc)(g:G)(e:Expr):Option (List Expr×GA):=nY e λx h _=>nC h λa h=>if x=nm/\iQ g x=true/\(match g.T.lookup x with|some .bl=>true|_=>false)=true/\0<g.lv then(cA (R.e g) (a::h)).bind λj=>some (a::h,j) else none
def lU {g:G}(h:(match g.T.lookup x with|some .bl=>true|_=>false)=true):g.T.lookup x=some .bl:=by
 split at h
 .assumption
 .cases h
def s9 (E:iP fa n R)(o:dD fa n g X)(h:cB nm R g e=some (as,u)):∃p pos a es,as=a::es/\e=.Call (.Name nm p) (a::es) [] pos/\Gl X nm/\X.mg nm=none/\0<g.lv/\DA fa X (a::es) u/\notStar a=true/\es.all notStar=true:=by
 replace h:=gL h;obtain(x|q|es|p|rfl|h):=h;replace h:=jK h;obtain(a|es|rfl|h):=h;replace h:=oi h;obtain((rfl|v|y|B)|h):=h;obtain(u|j|h):=ob h;cases h;obtain(d|ns):=jU (E.e o) j;rw[SQ,RM] at ns;show{_,_,_,_,rfl,rfl,(dg o v).1,o.T.bl (lU y),B,d,ns.1,ns.2}
def Kd:c8:=λR g e=>(cB "len" R g e).bind λq=>some (aK .len q.2)
def Hi:SE Kd:=λ{fa n R} v {g X} o {a B} h=>by
 obtain((y|E)|u|h):=ob h;cases h;obtain(_|_|_|_|_|rfl|j|hm|_|d|n1|n2):=s9 v o u;show GH .len OU j hm PySem.boot_len d `d `d (bJ n1) (dZ n2)
def Kl:c8:=λR g e=>(cB "all" R g e).bind λq=>some (aK .all q.2)
def Ho:SE Kl:=λ{fa n R} v {g X} o {a B} h=>by
 obtain((y|E)|u|h):=ob h;cases h;obtain(_|_|_|_|_|rfl|j|hm|lv|d|n1|n2):=s9 v o u;show GH .all (OW (o.calm lv)) j hm `k d `d `d (bJ n1) (dZ n2)
def zG:c8:=λR g e=>(cB "tuple" R g e).bind λq=>some (aK .tuple q.2)
def zF:SE zG:=λ{fa n R} v {g X} o {a B} h=>by
 obtain((y|E)|u|h):=ob h;cases h;obtain(_|_|_|_|_|rfl|j|hm|_|d|n1|n2):=s9 v o u;show BC .tuple IX j hm `k d `d `d (bJ n1) (dZ n2)
def Fo:c8:=λR g e=>(cB "list" R g e).bind λq=>some (aK (.list (g.cl e.pos)) q.2)
def Cs:SE Fo:=λ{fa n R} v {g X} o {a B} h=>by
 obtain((y|E)|u|h):=ob h;cases h;obtain(_|_|_|_|_|rfl|j|hm|_|d|n1|n2):=s9 v o u;show BC (.list _) (MH _) j hm `k d `d `d (bJ n1) (dZ n2)
def cR (R:Rc)(g:G)(nm:Str)(e:Expr):Option (Expr×GE):=nY e λx h _=>n1 h λa=>if x=nm/\iQ g x=true/\(match g.T.lookup x with|some .bl=>true|_=>false)=true/\0<g.lv/\notStar a=true then(R.e g a).bind λy=>some (a,y) else none
def lS (F:iP fa n R)(o:dD fa n g X)(h:cR R g nm e=some (a,ga)):∃p pos,e=.Call (.Name nm p) [a] [] pos/\Gl X nm/\X.mg nm=none/\0<g.lv/\DE fa X a ga/\starEach [a] X.env=[(false,eval a X.env)]:=by
 replace h:=gL h;obtain(x|q|H|p|rfl|h):=h;replace h:=cE h;obtain(a|rfl|h):=h;replace h:=oi h;obtain((rfl|j|u|v|B)|h):=h;obtain(y|E|h):=ob h;cases h;show{_,_,rfl,(dg o j).1,o.T.bl (lU u),v,F.e o E,bJ B}
def zI:c8:=λR g e=>nY e λx h p=>n1 h λb=>if x="list"/\iQ g x=true/\(match g.T.lookup x with|some .bl=>true|_=>false)=true then(cR R g "range" b).bind λq=>some (mL (g.cl p) q.2) else none
def zH:SE zI:=λ{fa n R} E {g X} o {a H} h=>by
 replace h:=gL h;obtain(x|q|F|p|rfl|h):=h;replace h:=cE h;obtain(b|rfl|h):=h;replace h:=oi h;obtain((rfl|j|u)|h):=h;obtain((b|y)|B|h):=ob h;cases h;obtain(_|_|rfl|v|hm|lv|d|hs):=lS E o B;show HQ _ (o.calm lv) d (dg o j).1 (o.T.bl (lU u)) v hm hs rfl
def Ke:c8:=λR g e=>(cR R g "int" e).bind λq=>some (Em q.2)
def Hj:SE Ke:=λ{fa n R} v {g X} o {a B} h=>by
 obtain((b|y)|u|h):=ob h;cases h;obtain(_|_|rfl|j|hm|lv|d|hs):=lS v o u;show K5 d j hm hs
def CC (x:Str):Option Ty:=if x="int" then some .int else if x="bool" then some .bool else if x="str" then some .str else if x="tuple" then some .tuple else if x="list" then some .list else none
def Hq (h:CC x=some t):bootBuiltins x=some (.type (tyName t))/\(∀c,t≠.own c)/\x≠"__name__"/\(x==("__debug__":Str))=false:=by
 unfold CC at h;split at h
 .subst x;cases h;show{`k,(λ_ z=>nomatch z),`d,`d}
 split at h
 .subst x;cases h;show{`k,(λ_ z=>nomatch z),`d,`d}
 split at h
 .subst x;cases h;show{`k,(λ_ z=>nomatch z),`d,`d}
 split at h
 .subst x;cases h;show{`k,(λ_ z=>nomatch z),`d,`d}
 split at h
 .subst x;cases h;show{`k,(λ_ z=>nomatch z),`d,`d}
 .cases h
def cI (R:Rc)(g:G)(e:Expr):Option (Str×GE):=nY e λy h _=>n2 h λa b=>nName b λx _=>if y="isinstance"/\iQ g y=true/\(match g.T.lookup y with|some .bl=>true|_=>false)=true/\iQ g x=true/\notStar a=true then(R.e g a).bind λz=>some (x,z) else none
def GK (F:iP fa n R)(o:dD fa n g X)(h:cI R g e=some (x,ga)):∃p q a pos,e=.Call (.Name "isinstance" p) [a,.Name x q] [] pos/\Gl X "isinstance"/\X.mg "isinstance"=none/\Gl X x/\(x==("__debug__":Str))=false/\DE fa X a ga/\starEach [a,.Name x q] X.env=(false,eval a X.env)::starEach [.Name x q] X.env:=by
 replace h:=gL h;obtain(y|q|H|p|rfl|h):=h;replace h:=ig h;obtain(a|b|rfl|h):=h;replace h:=cL h;obtain(x|I|rfl|h):=h;replace h:=oi h;obtain((rfl|u|v|j|B)|h):=h;obtain(z|E|h):=ob h;cases h;show{_,_,_,_,rfl,(dg o u).1,o.T.bl (lU v),(dg o j).1,(dg o j).2,F.e o E,bJ B}
def Fp:c8:=λR g e=>(cI R g e).bind λq=>if (match g.T.lookup q.1 with|some .bl=>true|_=>false)=true then(CC q.1).bind λt=>some (cF t q.2) else none
def Ct:SE Fp:=λ{fa n R} E {g X} o {a F} h=>by
 obtain((x|z)|v|h):=ob h;obtain(c|h):=oi h;obtain(t|y|h):=ob h;cases h;obtain(_|_|_|_|rfl|u|hm|B|hd|d|hs):=GK E o v;obtain(b1|b2|b3|j):=Hq y;show Nq t b2 d u hm `k B (o.T.bl (lU c)) b1 b3 j hs
def zK:c8:=λR g e=>(cI R g e).bind λq=>match g.T.lookup q.1 with
 |some (.xc k)=>some (dm (some k) q.2)
 |some (.xi k)=>some (dm (some k) q.2)
 |some (.xk k)=>some (dm (some k) q.2)
 |some .de=>some (dm none q.2)
 |some .bl=>if q.1="ValueError" then some (dm none q.2) else none
 |_=>none
set_option tactic.hygienic true in
def zJ:SE zK:=λ{fa n R} y {g X} o {a B} h=>by
 obtain((x|z)|v|k):=ob h;clear h;obtain(_|_|_|_|rfl|j|hm|u|hd|d|hs):=GK y o v;split at k
 .next e=>cases k;obtain(C|h1|h2|_):=o.T.xc e;show qw _ o.T.xcs ⟨C,h1,h2⟩ d j hm u hd hs
 .next e=>cases k;show qw _ o.T.xcs (o.T.xi e).2 d j hm u hd hs
 .next e=>cases k;show qw _ o.T.xcs (o.T.xk e) d j hm u hd hs
 .next e=>cases k;show HS o.T.xcs (o.T.de e) d j hm u hd hs
 .next e=>
  obtain(c|h):=oi k;cases h;subst c;show HR o.T.xcs d j hm u (o.T.bl e) hs
 .cases k
def Fv:c8:=λR g e=>nY e λx h _=>nC h λa h=>if 0<g.lv then(match vr g x with
 |some i=>(cA (R.e g) (a::h)).bind λj=>some (mM i g.c j)
 | none=>if iQ g x = true then(match g.T.lookup x with
   |some (.fn i _)=>(cA (R.e g) (a::h)).bind λj=>some (ah i g.c j)
   |_=>none) else none) else none
set_option tactic.hygienic true in
def CA:SE Fv:=λ{fa n R} u {g X} o {a F} h=>by
 replace h:=gL h;obtain(x|q|B|p|rfl|h):=h;replace h:=jK h;obtain(a|B|rfl|h):=h
 .obtain(lv|h):=oi h;split at h
  .next e=>
   obtain(E|j|h):=ob h;cases h;obtain(d|ns):=jU (u.e o) j;rw[SQ,RM] at ns;obtain(a|b|v|y):=Ff o e;show JD (o.C lv) ((o.hr lv).mono (Nat.le_succ _)) a b d v y (bJ ns.1) (dZ ns.2)
  .obtain(c|h):=oi h;split at h
   .next e=>
    obtain(E|j|h):=ob h;cases h;obtain(d|ns):=jU (u.e o) j;rw[SQ,RM] at ns;show Nw (o.C lv _) ((o.hr lv).mono (Nat.le_succ _)) (dg o c).1 (o.T.fn e) d (dg o c).2 (bJ ns.1) (dZ ns.2)
   .cases h
def E7:c8:=λR g e=>(nY e λx h _=>nC h λa h=>if 2<=g.lv/\iQ g x=true then(match g.T.lookup x with
 |some (.fn i true)=>(cA (R.e g) (a::h)).bind λj=>some (bK i g.c j)
 |_=>none) else none).or (L5 e λc a b _=>(R.x g a).bind λx=>(R.x g b).bind λy=>(R.t g c).bind λt=>some (yH t x y))
set_option tactic.hygienic true in
def Ca:SX E7:=λ{fa n R} j {g X} o {a H} h=>by
 replace h:=cb h;rcases h with h|h
 .obtain(x|q|v|p|rfl|h):=gL h;obtain(a|v|rfl|h):=jK h;replace h:=oi h;obtain((lv|c)|h):=h;split at h
  .next e=>
   replace h:=ob h;obtain(I|u|h):=h;cases h;obtain(d|ns):=jU (j.e o) u;rw[SQ,RM] at ns;show x_call _ (o.C `a) ((o.hr `a).mono (Nat.le_succ _)) (o.top lv).1 (dg o c).1 (o.T.fn e) d (dg o c).2 ns.1 ns.2
  .cases h
 .obtain(c|a|b|p|rfl|h):=wO h;obtain(x|E|h):=ob h;obtain(y|F|h):=ob h;obtain(t|B|h):=ob h;cases h;show N0 (j.t o B) (j.x o E) (j.x o F)
def zv:c8:=λR g e=>nY e λx h _=>n1 h λa=>if 2<=g.lv/\iQ g x=true/\notStar a=true then(match g.T.lookup x with
 |some (.fnD i)=>(R.e g a).bind λy=>some (bK i g.c (a9 y (a9 (gC .non) bb)))
 |_=>none) else none
set_option tactic.hygienic true in
def zu:SX zv:=λ{fa n R} u {g X} o {a B} h=>by
 replace h:=gL h;obtain(x|q|v|p|rfl|h):=h;replace h:=cE h;obtain(a|rfl|h):=h;replace h:=oi h;obtain((lv|c|st)|h):=h;split at h
 .next e=>
  replace h:=ob h;obtain(y|j|h):=h;cases h;show G8 _ (o.C `a) ((o.hr `a).mono (Nat.le_succ _)) (o.top lv).1 (dg o c).1 (o.T.fnD e).1 (o.T.fnD e).2 (u.e o j) (dg o c).2 st
 .cases h
noncomputable def nr:Expr->Bool
 |.Call _ [] _ _=>false
 |_=>true
def hX (h:nr a=true):attributeBase a m env w=w:=by
 cases a with
 | Call f j ks p=>
   cases j with
   |nil=>cases h
   |cons _ _=>cases f<;>rfl
 |_=>rfl
def Ki:c8:=λR g e=>FV e λa m d q=>FU d (if nr a=true/\q=true then(if m="count" then(R.e g a).bind λx=>some (yK x) else if m="index" then(R.e g a).bind λx=>some (yI x) else none) else none)
set_option tactic.hygienic true in
def Hl:SE Ki:=λ{fa n R} y {g X} o {a E} h=>by
 replace h:=uD h;obtain(a|m|q|d|p|rfl|h):=h;replace h:=DM h;obtain(_|_|rfl|h):=h;replace h:=oi h;obtain((u|v)|h):=h;split at h
 .next B=>subst B;obtain(x|j|h):=ob h;cases h;show Lc (y.e o j) (hX u) v
 .obtain(rfl|k):=oi h;obtain(x|j|k):=ob k;cases k;show K8 (y.e o j) (hX u) v
def PF:c8:=λR g e=>QF e λl _=>nC l λa l=>n2 l λb c=>DN a λz=>PZ b λb=>DN c λy=>(R.e g b).bind λx=>some (uY z y x)
def Kg:SE PF:=λ{fa n R} u {g X} o {a v} h=>by
 replace h:=ID h;obtain(l|p|rfl|h):=h;replace h:=jK h;obtain(a|l|rfl|h):=h;replace h:=ig h;obtain(b|c|rfl|h):=h;replace h:=wN h;obtain(z|_|_|rfl|h):=h;replace h:=L6 h;obtain(b|_|rfl|h):=h;replace h:=wN h;obtain(y|_|_|rfl|h):=h;obtain(x|j|h):=ob h;cases h;show Qy (u.e o j)
def Fd:sD:=λR g _ e=>(cR R g "range" e).bind λq=>some (dC q.2)
def Cm:SW Fd:=λ{B n R} v {g X} o {t a E} h=>by
 obtain((b|y)|u|h):=ob h;cases h;obtain(_|_|rfl|j|hm|_|d|hs):=lS v o u;show Ju d j hm hs
def Fe:sD:=λR g t e=>uB t λ_ _ _=>(cR R g "enumerate" e).bind λq=>some (iW q.2)
def Cn:SW Fe:=λ{B n R} v {g X} o {t a E} h=>by
 replace h:=hI h;obtain(_|_|_|rfl|h):=h;obtain((b|y)|u|h):=ob h;cases h;obtain(_|_|rfl|j|hm|_|d|hs):=lS v o u;show Jw d j hm hs
def cN (R:Rc)(g:G)(nm:Str)(e:Expr):Option (List Expr):=nY e λx h _=>if x=nm/\iQ g x=true/\(match g.T.lookup x with|some .bl=>true|_=>false)=true/\0<g.lv/\h.all notStar=true then some h else none
def yV (o:dD fa n g X)(h:cN R g nm e=some es):∃p pos,e=.Call (.Name nm p) es [] pos/\Gl X nm/\X.mg nm=none/\es.all notStar=true:=by
 replace h:=gL h;obtain(x|q|es|p|rfl|h):=h;replace h:=oi h;obtain((rfl|j|u|y|v)|h):=h;cases h;show{_,_,rfl,(dg o j).1,o.T.bl (lU u),v}
noncomputable def m8:∀{es:List Expr},es.all notStar=true->starEach es env=es.map λa=>(false,eval a env)
 |[],_=>rfl
 | a::es,h=>by
   rw[SQ,RM] at h;rw[bJ h.1,m8 h.2];rfl
def Fb:sD:=λR g t e=>uB t λ_ _ _=>(cN R g "zip" e).bind λh=>n2 h λa b=>(R.e g a).bind λx=>(R.e g b).bind λy=>some (yG x y)
def Cj:SW Fb:=λ{H n R} j {g X} o {t a I} h=>by
 replace h:=hI h;obtain(_|_|_|rfl|h):=h;obtain(F|v|k):=ob h;clear h;obtain(_|_|rfl|u|hm|ns):=yV o v;replace k:=ig k;obtain(a|b|rfl|k):=k;obtain(x|B|k):=ob k;obtain(y|E|k):=ob k;cases k;show Js (j.e o B) (j.e o E) u hm (m8 ns) (m8 (Up.mp (SQ ▸ ns)).2)
def J5:sD:=λR g _ e=>if g.tx e.pos=false then(R.e g e).bind λx=>some (cg x) else none
def Ha:SW J5:=λ{v n R} u {g X} o {t a y} h=>by
 obtain(_|h):=oi h;obtain(x|j|h):=ob h;cases h;show Nj (u.e o j)
def Fc:sD:=λR g _ e=>if g.tx e.pos=true then(R.e g e).bind λx=>some (pY x) else none
def Ck:SW Fc:=λ{v n R} u {g X} o {t a y} h=>by
 obtain(_|h):=oi h;obtain(x|j|h):=ob h;cases h;show Jt (u.e o j)
noncomputable def kC:Expr->Bool
 |.Set ..=>false
 |_=>true
def xj (h:kC a=true)(x:RJ):foldedSetIterable a env x=pure x:=by
 cases a<;>first|rfl|cases h
noncomputable def yg:Expr->List Str
 |.Name x _=>[x]
 |.Tuple h _ _=>(h.map fun|.Name x _=>[x]|.Tuple bs _ _=>bs.filterMap (fun|.Name x _=>some x|_=>none)|_=>[]).flatten
 |_=>[]
noncomputable def vk (g:G)(own:List Str):List Str:=g.N.map λx=>if own.contains x then x++("%":Str) else x
noncomputable def Dn (h sc:Scope):Scope:={h with names:=h.names.map λ(n,k)=>if (k==.free&&sc.kind==.function&&sc.names.lookup n==some .cell) then(n,.cell) else(n,k)}
def G.inC (g:G)(own:List Str)(h:Scope):G:={g with N:=own++vk g own,sc:=Dn h g.sc,lv:=1,oc:=(h.names.filter λy=>h.names.lookup y.1==some .cell).map (·.1)}
def wC (g:G)(own:List Str)(h:Scope):Prop:=0<g.lv/\h.kind=.function/\q8 (vk g own) g.N g.sc h=true/\(own++vk g own).Nodup
instance (g:G) (own:List Str) (scope:Scope):Decidable (wC g own scope):=by unfold wC;infer_instance
def yP (o:dD fa n g X)(c:wC g own scope):fh X own (vk g own) scope/\∀cl C j s H,dD fa n (g.inC own scope) (fP X own (vk g own) scope cl C j s H):=by
 obtain(h|u|v|B):=c;show{BH u o.sc o.N v,λcl C j s H=>{rfl,B,?_,o.T,o.tw,o.xf,o.ms,(λz=>absurd rfl z),(λx E=>by obtain(y|F|e):=R5.mp E;subst e;show(TL.mp F).2),λ_=>o.calm h,λ_=>o.C h,λ_=>o.hr h,(λz=>absurd (show 2<=1 from z) `d),(λz=>nomatch z)}}
 change relabel scope X.env=Dn scope g.sc;unfold relabel Dn Env.kindOf;rw[o.sc]
structure NX (fa:Fa) (X:Cx) (e:Expr) (k:Nat) (t:fR) (gw:GW) (gb:GB):Prop where
 ex:∃elt tg iter ifs rest scope pos own bn W body,e=.ListComp elt ({tg,iter,ifs,0}::rest) scope pos/\k=own.length/\fh X own bn scope/\DI fa X tg iter gw/\Block fa X (LA fa X.K) own bn scope tg t W body gb/\ql X elt tg iter ifs rest scope pos body/\(∀i∈W,i∉slots t)/\(∀i∈slots t++W,i<own.length)/\∀x,foldedSetIterable iter X.env x=pure x
def cC (R:Rc)(g:G)(e:Expr):Option (Nat×fR×GW×GB):=PY e λE y h _=>(n1 y λc=>nG c λB j v=>let own:=yg B
 if wC g own h/\kC j=true then(R.w g B j).bind λw=>(cG (g.inC own h) B).bind λt=>(R.e (g.inC own h) E).bind λx=>if (slots t).all (· < own.length)=true then(n0 v (some (own.length,t,w,bB x))).or (n1 v λc=>(R.t (g.inC own h) c).bind λq=>some (own.length,t,w,iC q (bB x))) else none else none).or
 (n2 y λc d=>nG c λB j v=>nG d λt2 H F=>let own:=yg B++yg t2
  n0 v (n0 F (if wC g own h/\kC j=true/\kC H=true then(R.w g B j).bind λw=>(cG (g.inC own h) B).bind λt=>(R.w (g.inC own h) t2 H).bind λw2=>(cG (g.inC own h) t2).bind λu=>(R.e (g.inC own h) E).bind λx=>if (slots t++slots u).all (· < own.length)=true/\(slots u).all (λi=>!(slots t).contains i)=true then some (own.length,t,w,uX u w2 (bB x)) else none else none)))
def GL (B:iP fa n R)(o:dD fa n g X)(h:cC R g e=some (k,t,gw,gb)):NX fa X e k t gw gb:=by
 replace h:=A0 h;obtain(E|gens|F|p|rfl|h):=h;replace h:=cb h;rcases h with h|h
 .replace h:=cE h;obtain(c|rfl|h):=h;replace h:=sR h;obtain(tg|y|ifs|rfl|h):=h;replace h:=oi h;obtain((c|L)|h):=h;replace h:=ob h;obtain(w|P|h):=h;replace h:=ob h;obtain(t|M|h):=h;replace h:=ob h;obtain(x|Q|h):=h;replace h:=oi h;obtain(J|h):=h;obtain(S|O):=yP o c;replace h:=cb h;rcases h with h|h
  .obtain(rfl|h):=fo h;cases h;show{_,_,_,_,_,_,_,_,_,[],(λa env=>eval E env >>= λx=>call (.builtin "list.append") [.ref a,x] >>= λ_=>pure ()),rfl,rfl,S,B.w o P,{λcl C v s H=>jT (O cl C v s H) M,λcl C v s H a=>u5 (B.e (O cl C v s H) Q)},(λI a env=>CH _ _ _ [] _ _ (.ref I) (.ref a) env),(λi h=>nomatch h),(~~~(lu J)),xj L}
  .obtain(d|rfl|h):=cE h;obtain(q|hq|h):=ob h;cases h;show{_,_,_,_,_,_,_,_,_,[],(λa env=>PySem.isTrue d env (eval d env) >>= λok=>if ok=true then(eval E env >>= λx=>call (.builtin "list.append") [.ref a,x] >>= λ_=>pure ()) else pure ()),rfl,rfl,S,B.w o P,{λcl C v s H=>jT (O cl C v s H) M,λcl C v s H a=>O3 LA.stab (B.t (O cl C v s H) hq) (u5 (B.e (O cl C v s H) Q))},(λI a env=>turn_if _ _ _ _ _ _ (.ref I) (.ref a) env),(λi h=>nomatch h),(~~~(lu J)),xj L}
 .replace h:=ig h;obtain(c|d|rfl|h):=h;replace h:=sR h;obtain(tg|y|ifs|rfl|h):=h;replace h:=sR h;obtain(t2|U|ifs2|rfl|h):=h;replace h:=fo h;obtain(rfl|h):=h;replace h:=fo h;obtain(rfl|h):=h;obtain((c|L|W)|h):=oi h;obtain(w|P|h):=ob h;obtain(t|M|h):=ob h;obtain(w2|Y|h):=ob h;obtain(u|hu|h):=ob h;obtain(x|Q|h):=ob h;obtain((J|c3)|h):=oi h;cases h;obtain(S|O):=yP o c;show{_,_,_,_,_,_,_,_,_,slots u,(λa env=>eval U env >>= λx=>standAt U.pos >>= λ_=>foldedSetIterable U env x >>= λx=>holding [x] (pyIter x) >>= λj=>runOwn (.compStart (.ListComp E [{tg,y,[],0},{t2,U,[],0}] F p) 1 j (.ref a) env) env >>= λ_=>pure ()),rfl,rfl,S,B.w o P,{λcl C v s H=>jT (O cl C v s H) M,λcl C v s H a=>Nn rfl (o.calm c.1) (B.w (O cl C v s H) Y) (jT (O cl C v s H) hu) (B.e (O cl C v s H) Q) (xj W)},(λI a env=>CF _ _ _ _ _ _ _ (.ref I) (.ref a) env),Aq c3,lu J,xj L}
def Fu:c8:=λR g e=>if 0<g.lv then(cC R g e).bind λq=>some (bp (g.cl e.pos) q.1 q.2.1 q.2.2.1 q.2.2.2) else none
def Cz:SE Fu:=λ{L n R} I {g X} o {a M} h=>by
 obtain(lv|h):=oi h;obtain((k|t|w|b)|E|h):=ob h;cases h;obtain(v|O|u|F|rest|j|H|own|J|W|body|rfl|rfl|S|y|B|T|h1|h2|h3):=(GL I o E).ex;show Nv _ S (o.calm lv) y B T h1 h2 h3
noncomputable def qg (f:Stmt->Option GS):List Stmt->Option GS
 |[]=>some aF
 |a::r=>(f a).bind λx=>(qg f r).bind λy=>some (aZ x y)
noncomputable def iE (hf:∀{a:Stmt}{j:GS},f a=some j->DS fa X a j):∀{ss:List Stmt}{u:GS},qg f ss=some u->la fa X ss u
 |[],_,h=>by cases h;show Jj
 | a::r,_,h=>by
   obtain(x|v|h):=ob h;obtain(y|B|h):=ob h;cases h;show Ez (hf v) (iE hf B)
noncomputable def wI:Expr->Bool
 |.ListComp ..=>false
 |.SetComp ..=>false
 |.DictComp ..=>false
 |_=>true
def wJ (h:wI a=true):swapsWith a t l env=pure false:=by
 cases a<;>first|rfl|cases h
def NF (g:G)(h a:Expr):Bool:=match a with
 |.ListComp ..=>(match h with|.Name y _=>g.sc.names.lookup y==some .cell|_=>false)
 |.Tuple ..=>(match h with|.Name ..=>true|_=>false)
 |.SetComp ..=>false
 |.DictComp ..=>(match h with|.Name y _=>g.sc.names.lookup y==some .cell|_=>false)
 |_=>true
set_option tactic.hygienic true in
def ND (o:dD fa n g X)(c:NF g tg a=true)(j:cG g tg=some t):swapsWithSole [tg] a l X.env=pure false/\swappedStores [tg] a X.env=pure none/\(assignEach [tg] X.env).map (·.2)=[assign tg X.env]:=by
 show{?_,?_,?_}
 .cases a<;>first|rfl|cases c|skip
  all_goals cases tg<;>first|cases c|skip
  all_goals
  next y p=>
  have e:=eq_of_beq c;have hk:(X.env.kindOf y==some .local)=false:=by unfold Env.kindOf;rw[o.sc,e];rfl
  change(pure (X.env.blockKind==.function&&X.env.kindOf y==some .local&&_&&_):Sem Bool)=pure false;rw[hk,Bool.and_false,Bool.false_and,Bool.false_and]
 .replace j:=cb j;rcases j with h|h
  .obtain(_|_|rfl|_):=cL h;cases a<;>first|rfl|cases c
  .obtain(_|_|_|rfl|_):=hI h;cases a<;>first|rfl|cases c
 .replace j:=cb j;rcases j with h|h
  .obtain(_|_|rfl|_):=cL h;rfl
  .obtain(_|_|_|rfl|_):=hI h;rfl
def JV:kZ:=λR g st=>ya st λts a _=>n1 ts λh=>if NF g h a=true then(cG g h).bind λt=>((R.x g a).bind λx=>some (fi t x)).or ((R.e g a).bind λx=>some (av t x)) else none
def G6:SS JV:=λ{y n R} u {g X} o {a B} h=>by
 replace h:=ng h;obtain(ts|a|p|rfl|h):=h;replace h:=cE h;obtain(E|rfl|h):=h;obtain(c|h):=oi h;obtain(t|j|h):=ob h;obtain(a1|a2|a3):=ND o c j;replace h:=cb h;rcases h with h|h
 .obtain(x|e|h):=ob h;cases h;show KN (u.x o e) (jT o j) a1 a2 a3
 .obtain(x|v|h):=ob h;cases h;show Nb (u.e o v) (jT o j) a1 a2 a3
def E5:kZ:=λR g st=>ya st λts d _=>n1 ts λt=>nName t λy v=>PY d λu j h p=>if 2<=g.lv/\g.sc.names.lookup y=some .local/\(v.line==p.line)=true/\(h.names.any λ(n,k)=>n==y&&(k==.local||k==.cell))=false then(cC R g (.ListComp u j h p)).bind λq=>(g.N.findIdx? (·==y)).bind λi=>some (av (.one i) (bp (g.cl p) q.1 q.2.1 q.2.2.1 q.2.2.2)) else none
def B8:SS E5:=λ{fa n R} rc {g X} o {a ga} h=>by
 replace h:=ng h;obtain(ts|d|_|rfl|h):=h;replace h:=cE h;obtain(t|rfl|h):=h;replace h:=cL h;obtain(y|py|rfl|h):=h;replace h:=A0 h;obtain(_|_|v|p|rfl|h):=h
 .next=>
  obtain((lv|H|I|J)|h):=oi h;obtain((k|t|w|b)|Q|h):=ob h;obtain(i|P|h):=ob h;cases h;obtain(M|tg|F|U|rest|E|Y|own|bn|W|body|L|rfl|S|j|B|T|h1|h2|h3):=(GL rc o Q).ex;cases L;have hl:X.env.scope.names.lookup y=some .local:=by rw[o.sc];show H
  show yN _ S (o.calm `a) j B T h1 h2 h3 (o.N ▸ o.nd) (sU o P) hl ?_
  have hk:=(o.top lv).2.2.2;have O:(X.env.blockKind==.function)=true:=by unfold Env.blockKind;rw[hk];rfl
  have u:(X.env.kindOf y==some .local)=true:=by unfold Env.kindOf;rw[hl];rfl
  change(pure (X.env.blockKind==.function&&X.env.kindOf y==some .local&&(py.line==p.line)&&!(v.names.any λ(n,k)=>n==y&&(k==.local||k==.cell))):Sem Bool)=pure true;rw[O,u,I,J];rfl
def JU:kZ:=λR g st=>ya st λts d _=>n1 ts λt=>oI t λa b _=>if kB b=true then(R.e g a).bind λx=>(R.e g b).bind λy=>(R.e g d).bind λz=>some (dG x y z) else none
def G5:SS JU:=λ{F n R} j {g X} o {a H} h=>by
 replace h:=ng h;obtain(ts|d|_|rfl|h):=h;replace h:=cE h;obtain(t|rfl|h):=h;replace h:=hJ h;obtain(a|b|p2|rfl|h):=h
 .next=>
  obtain(c|h):=oi h;obtain(x|u|h):=ob h;obtain(y|B|h):=ob h;obtain(z|E|h):=ob h;cases h;show M8 (j.e o u) (j.e o B) (j.e o E) (λv=>?_) ?_ ?_ rfl
  .cases b<;>first|rfl|cases c
  .cases d<;>rfl
  .cases d<;>rfl
def JW:kZ:=λR g st=>Dk st λe _=>FV e λa m d q=>if m="append"/\nr a=true/\q=true/\notStar d=true then(R.e g a).bind λx=>(R.e g d).bind λy=>some (jo x y) else none
def G7:SS JW:=λ{H n R} j {g X} o {a I} h=>by
 replace h:=qt h;obtain(e|_|rfl|h):=h;replace h:=uD h;obtain(a|m|q|d|p|rfl|h):=h;replace h:=oi h;obtain((rfl|u|v|B)|h):=h;obtain(x|E|h):=ob h;obtain(y|F|h):=ob h;cases h;show Nc (j.e o E) (j.e o F) (hX u) v (bJ B) rfl
def JT:kZ:=λR g st=>(Dk st λa _=>if wI a=true then((R.x g a).bind λx=>some (d4 x)).or ((R.e g a).bind λx=>some (sEx x)) else none).or
 ((sRt st λq _=>match q with
   |none=>some FG
   |some a=>((R.x g a).bind λx=>some (xZ x)).or ((R.e g a).bind λx=>some (aM x))).or
 ((sPs st λ_=>some FH).or
 ((sIf st λc st u _=>(R.t g c).bind λt=>(qg (R.s g) st).bind λx=>(qg (R.s g) u).bind λy=>some (aN t x y)).or
 (sFr st λh a body j _=>n0 j (if g.lv=2/\kC a=true then(R.w g h a).bind λw=>(cG g h).bind λt=>(qg (R.s g) body).bind λx=>some (d3 t w x) else none)))))
def G4:SS JT:=λ{H n R} j {g X} o {a I} h=>by
 replace h:=cb h;rcases h with h|h
 .obtain(a|p|rfl|h):=qt h;obtain(c|h):=oi h;rcases cb h with h|h
  .obtain(x|e|h):=ob h;cases h;show Of (j.x o e) (wJ c)
  .obtain(x|u|h):=ob h;cases h;show O0 (j.e o u) (wJ c)
 replace h:=cb h;rcases h with h|h
 .obtain(q|p|rfl|h):=KQ h;cases q with
  |none=>cases h;show Jk
  | some a=>
    rcases cb h with h|h
    .obtain(x|e|h):=ob h;cases h;show KH (j.x o e)
    .obtain(x|u|h):=ob h;cases h;show MZ (j.e o u)
 replace h:=cb h;rcases h with h|h
 .obtain(p|rfl|h):=KR h;cases h;show Jl
 replace h:=cb h;rcases h with h|h
 .obtain(c|st|J|p|rfl|h):=KS h;obtain(t|v|h):=ob h;obtain(x|u|h):=ob h;obtain(y|E|h):=ob h;cases h;show M9 (j.t o v) (iE (j.s o) u) (iE (j.s o) E)
 .obtain(L|a|body|F|p|rfl|h):=KU h;obtain(rfl|h):=fo h;obtain((lv|c)|h):=oi h;obtain(w|B|h):=ob h;obtain(t|v|h):=ob h;obtain(x|u|h):=ob h;cases h;show Na (o.po lv) (o.calm `a) (j.w o B) (jT o v) (O2 (iE (j.s o) u)) (xj c)
def zt:kZ:=λR g st=>Qx st λe c _=>if c.isNone=true then e.bind λe=>nY e λx h _=>nC h λa h=>if 2<=g.lv/\iQ g x=true then(match g.T.lookup x with
 |some (.xc k)=>(cA (R.e g) (a::h)).bind λj=>some (fM k j)
 |_=>none) else none else none
set_option tactic.hygienic true in
def zr:SS zt:=λ{y n R} v {g X} o {a B} h=>by
 replace h:=HL h;obtain(e|c|_|rfl|h):=h;replace h:=oi h;obtain(c|h):=h;rw[Tw.mp c];replace h:=ob h;obtain(e|rfl|h):=h;replace h:=gL h;obtain(x|q|u|p|rfl|h):=h;replace h:=jK h;obtain(a|u|rfl|h):=h
 .obtain((lv|c)|k):=oi h;clear h;split at k
  .next e=>
   obtain(E|j|k):=ob k;cases k;obtain(d|ns):=jU (v.e o) j;rw[SQ,RM] at ns;obtain(C|h1|h2|h3|_):=o.T.xc e;show HJ _ ⟨C,h1,h2,h3⟩ (o.top lv).1 (dg o c).1 (o.calm `a) d (dg o c).2 ns.1 ns.2
  .cases k
def Eg (o:dD fa n g X)(lv:2<=g.lv)(pn:List (Addr×Obj))(E:RJ->RO->Prop):dD fa n {g with lv:=3} (sV X pn E):={o.N,o.nd,o.sc,o.T,o.tw,o.xf,o.ms,λ_=>o.fn `a,o.oc,λ_=>o.calm `a,λ_=>o.C `a,λ_=>o.hr `a,λ_=>o.top lv,(λz=>nomatch z)}
def Eh (o:dD fa n g X)(lv:2<=g.lv)(v:RJ)(E:RJ->RO->Prop):dD fa n {g with lv:=0} (sW X v E):={o.N,o.nd,o.sc,o.T,o.tw,o.xf,o.ms,λ_=>o.fn `a,o.oc,(λz=>absurd (show 0<0 from z) `d),(λz=>absurd (show 0<0 from z) `d),(λz=>absurd (show 0<0 from z) `d),(λz=>absurd (show 2<=0 from z) `d),(λz=>nomatch z)}
def JS:kZ:=λR g st=>sTr st λbody hs j y _=>n0 j (n0 y (n1 hs fun
 | .ExceptHandler t nm B _=>t.bind λt=>nName t λx _=>nm.bind λnm=>nC B λb h=>if 2 <= g.lv /\ iQ g x = true /\ g.sc.names.lookup nm = some .local then(match g.T.lookup x with
   |some .de=>(g.N.findIdx? (·==nm)).bind λi=>(qg (R.s {g with lv:=3}) body).bind λu=>(qg (R.s {g with lv:=0}) (b::h)).bind λv=>some (t5 u i v)
   |_=>none) else none))
set_option tactic.hygienic true in
def G3:SS JS:=λ{M n R} B {g X} o {a P} h=>by
 replace h:=KP h;obtain(body|hs|L|O|_|rfl|h):=h;replace h:=fo h;obtain(rfl|h):=h;replace h:=fo h;obtain(rfl|h):=h;replace h:=cE h;obtain(hd|rfl|h):=h;obtain(t|nm|Q|_):=hd;replace h:=ob h;obtain(t|rfl|h):=h;replace h:=cL h;obtain(x|_|rfl|h):=h;replace h:=ob h;obtain(nm|rfl|h):=h;replace h:=jK h;obtain(b|j|rfl|h):=h
 .obtain((lv|c|F)|k):=oi h;clear h;split at k
  .next e=>
   obtain(i|H|k):=ob k;obtain(u|I|k):=ob k;obtain(v|J|k):=ob k;cases k;have y:=o.top lv;show Od o.T.xcs (o.T.de e) y.1 y.2.1 y.2.2.1 (o.N ▸ o.nd) (sU o H) (by rw[o.sc];show F) (dg o c).1 (dg o c).2 (λpn E=>iE (B.s (Eg o lv pn E)) I) (λv E=>iE (B.s (Eh o lv v E)) J)
  .cases k
section
variable{β:Type}{e:Expr}{st:Stmt}{r:β}
noncomputable def DR (e:Expr)(k:List (Option Expr)->List Expr->Pos->Option β):Option β:=if h:e.ctorIdx=6 then @Expr.Dict.elim (λ_=>Option β) e h k else none
def wQ (h:DR e k=some r):∃a b c,e=.Dict a b c/\k a b c=some r:=(od h).elim λz h=>@Expr.Dict.elim (λe=>∀z,@Expr.Dict.elim (λ_=>Option β) e z k=some r->∃a b c,e=.Dict a b c/\k a b c=some r) e z (λa b c _ h=>⟨a,b,c,rfl,h⟩) z h
noncomputable def PU (e:Stmt)(k:Expr->List Stmt->List Stmt->Pos->Option β):Option β:=if h:e.ctorIdx=11 then @Stmt.While.elim (λ_=>Option β) e h k else none
def KO (h:PU st k=some r):∃a b c d,st=.While a b c d/\k a b c d=some r:=(od h).elim λz h=>@Stmt.While.elim (λe=>∀z,@Stmt.While.elim (λ_=>Option β) e z k=some r->∃a b c d,e=.While a b c d/\k a b c d=some r) st z (λa b c d _ h=>⟨a,b,c,d,rfl,h⟩) z h
noncomputable def P4 (e:Expr)(k:Expr->Expr->List Ua->Scope->Pos->Option β):Option β:=if h:e.ctorIdx=10 then @Expr.DictComp.elim (λ_=>Option β) e h k else none
def L7 (h:P4 e k=some r):∃a b c d p,e=.DictComp a b c d p/\k a b c d p=some r:=(od h).elim λz h=>@Expr.DictComp.elim (λe=>∀z,@Expr.DictComp.elim (λ_=>Option β) e z k=some r->∃a b c d p,e=.DictComp a b c d p/\k a b c d p=some r) e z (λa b c d p _ h=>⟨a,b,c,d,p,rfl,h⟩) z h
end
def mS (o:dD fa n g X):eV fa:=⟨o.T.of,o.T.od.1,o.T.od.2⟩
def Ft:c8:=λR g e=>oI e λa b p=>if g.tx p=true/\kB b=true/\0<g.lv then(R.e g a).bind λx=>(R.e g b).bind λy=>some (dP x y) else none
def Cy:SE Ft:=λ{B n R} j {g X} o {a E} h=>by
 replace h:=hJ h;obtain(a|b|p|rfl|h):=h;replace h:=oi h;obtain((_|c|lv)|h):=h;obtain(x|u|h):=ob h;obtain(y|v|h):=ob h;cases h;show Nu (o.rm lv) (mS o) (j.e o u) (j.e o v) (oE c)
noncomputable def isIn (q:CmpOp):Option Bool:=match q with
 |.In=>some false
 |.NotIn=>some true
 |_=>none
def IS (h:isIn q=some n):q=if n then .NotIn else .In:=by
 cases q<;>first|(cases h;rfl)|cases h
def NA (R:Rc)(g:G)(e:Expr):Option GE:=L8 e λa h bs p=>n1 h λq=>n1 bs λb=>if g.tx p=true/\behindInMarks q b=false/\0<g.lv then(isIn q).bind λn=>(R.e g a).bind λx=>(R.e g b).bind λy=>some (hU n x y) else none
def JH (j:iP fa n R)(o:dD fa n g X)(h:NA R g e=some ge):DE fa X e ge/\DT fa X e (ai ge):=by
 replace h:=qE h;obtain(a|B|bs|p|rfl|h):=h;replace h:=cE h;obtain(q|rfl|h):=h;replace h:=cE h;obtain(b|rfl|h):=h;replace h:=oi h;obtain((_|c|lv)|h):=h;obtain(m|hm|h):=ob h;obtain(x|u|h):=ob h;obtain(y|v|h):=ob h;cases h;have e:=IS hm;subst e;show{Pe m (o.rm lv) (mS o) (j.e o u) (j.e o v) c,MW m (o.rm lv) (mS o) (j.e o u) (j.e o v) c}
def J6:GY:=λR g e=>(NA R g e).bind λx=>some (ai x)
def Hc:ST J6:=λ{v n R} u {g X} o {a y} h=>by
 obtain(x|j|h):=ob h;cases h;show(JH u o j).2
def E4:kZ:=λR g st=>ya st λts d _=>n1 ts λt=>oI t λa b p=>if g.tx p=true/\kB b=true/\0<g.lv then(R.e g a).bind λx=>(R.e g b).bind λy=>(R.e g d).bind λz=>some (lE x y z) else none
def B7:SS E4:=λ{F n R} j {g X} o {a H} h=>by
 replace h:=ng h;obtain(ts|d|_|rfl|h):=h;replace h:=cE h;obtain(t|rfl|h):=h;replace h:=hJ h;obtain(a|b|p2|rfl|h):=h;replace h:=oi h;obtain((_|c|lv)|h):=h;obtain(x|u|h):=ob h;obtain(y|B|h):=ob h;obtain(z|E|h):=ob h;cases h;show KI (o.rm lv) (mS o) (j.e o u) (j.e o B) (j.e o E) (λv=>?_) ?_ ?_
 .cases b<;>first|rfl|cases c
 .cases d<;>rfl
 .cases d<;>rfl
def Fq:c8:=λR g e=>DR e λks h p=>n0 ks (n0 h (some (yJ (if g.tx p=true then 78 else 77))))
def Cu:SE Fq:=λ{j n R} v {g X} o {a u} h=>by
 replace h:=wQ h;obtain(ks|y|p|rfl|h):=h;replace h:=fo h;obtain(rfl|h):=h;replace h:=fo h;obtain(rfl|h):=h;cases h;show Nr _ (by split<;>simp) (mS o)
def Fs:c8:=λR g e=>if g.tx e.pos=true then(cR R g "len" e).bind λq=>if notStar q.1=true then some (nI q.2) else none else none
def Cw:SE Fs:=λ{B n R} v {g X} o {a E} h=>by
 obtain(_|h):=oi h;obtain((b|y)|u|h):=ob h;obtain(c|h):=oi h;cases h;obtain(_|_|rfl|j|hm|_|d|hs):=lS v o u;show Nt (mS o) j hm d c
def zO:c8:=λR g e=>P4 e λE F u h p=>n1 u λc=>nG c λB j v=>let own:=yg B
 n0 v (if wC g own h/\kC j=true then(R.w g B j).bind λw=>(cG (g.inC own h) B).bind λt=>(R.e (g.inC own h) E).bind λx=>(R.e (g.inC own h) F).bind λy=>if (slots t).all (· < own.length)=true then some (jv (if g.tx p=true then 78 else 77) own.length t w (iY x y)) else none else none)
def zN:SE zO:=λ{U n R} u {g X} o {a W} h=>by
 replace h:=L7 h;obtain(Y|vx|B|v|p|rfl|h):=h;replace h:=cE h;obtain(c|rfl|h):=h;replace h:=sR h;obtain(tg|E|Q|rfl|h):=h;replace h:=fo h;obtain(rfl|h):=h;replace h:=oi h;obtain((c|I)|h):=h;obtain(w|L|h):=ob h;obtain(t|J|h):=ob h;obtain(x|M|h):=ob h;obtain(y|P|h):=ob h;obtain(F|h):=oi h;cases h;obtain(S|O):=yP o c;show JC (by split<;>simp) (mS o) S (o.calm c.1) (u.w o L) {λcl C j s H=>jT (O cl C j s H) J,λcl C j s H a=>Jz ((O cl C j s H).rm Nat.zero_lt_one) (mS o) (u.e (O cl C j s H) M) (u.e (O cl C j s H) P)} (~~~(lu F)) (xj I)
def zq:kZ:=λR g st=>PU st λc body h _=>n0 h (if g.lv=2 then(R.t g c).bind λt=>(qg (R.s g) body).bind λb=>some (mq t b) else none)
def zp:SS zq:=λ{B n R} j {g X} o {a E} h=>by
 replace h:=KO h;obtain(c|body|y|p|rfl|h):=h;replace h:=fo h;obtain(rfl|h):=h;replace h:=oi h;obtain(lv|h):=h;obtain(t|v|h):=ob h;obtain(b|u|h):=ob h;cases h;show HI (o.po lv) (j.t o v) (iE (j.s o) u)
def Kk:c8:=λR g e=>(cR R g "any" e).bind λq=>if notStar q.1=true then some (oV q.2) else none
def Hn:SE Kk:=λ{B n R} v {g X} o {a E} h=>by
 obtain((b|y)|u|h):=ob h;obtain(c|h):=oi h;cases h;obtain(_|_|rfl|j|hm|lv|d|hs):=lS v o u;show Pk (o.calm lv) j hm d c
def PH:c8:=λR g e=>DR e λks h p=>n1 ks λk=>k.bind λk=>n1 h λv=>if 0<g.lv then(R.e g k).bind λx=>(R.e g v).bind λy=>some (xb (if g.tx p=true then 78 else 77) x y) else none
def Kh:SE PH:=λ{E n R} j {g X} o {a F} h=>by
 replace h:=wQ h;obtain(ks|H|p|rfl|h):=h;replace h:=cE h;obtain(k|rfl|h):=h;obtain(k|rfl|h):=Sf.mp h;replace h:=cE h;obtain(v|rfl|h):=h;replace h:=oi h;obtain(lv|h):=h;obtain(x|u|h):=ob h;obtain(y|B|h):=ob h;cases h;show JB _ (by split<;>simp) (o.rm lv) (mS o) (j.e o u) (j.e o B)
def zC:sD:=λR g _ e=>if g.cl e.pos=true then(R.e g e).bind λx=>some (e9 c6 x) else none
def zB:SW zC:=λ{v n R} u {g X} o {t a y} h=>by
 obtain(_|h):=oi h;obtain(x|j|h):=ob h;cases h;show Jv (mS o) (u.e o j)
def E6:kZ:=λR g st=>Dk st λe _=>FV e λa m d q=>if m="append"/\nr a=true/\q=true/\notStar d=true then(R.e g a).bind λx=>(R.x g d).bind λy=>some (nh x y) else none
def B9:SS E6:=λ{H n R} j {g X} o {a I} h=>by
 replace h:=qt h;obtain(e|_|rfl|h):=h;replace h:=uD h;obtain(a|m|q|d|p|rfl|h):=h;replace h:=oi h;obtain((rfl|u|v|B)|h):=h;obtain(x|E|h):=ob h;obtain(y|F|h):=ob h;cases h;show Jm (j.e o E) (j.x o F) (hX u) v (bJ B) rfl
def Fn:c8:=λR g e=>yo e λh j ks p=>nName h λx _=>n1 j λa=>n1 ks λk=>uC k.value λc _ _=>if x="min"/\iQ g x=true/\(match g.T.lookup x with|some .bl=>true|_=>false)=true/\0<g.lv/\notStar a=true/\k.arg=some "default"/\(match c with|.none=>true|_=>false)=true then(R.e g a).bind λy=>some (nH y) else none
def Cr:SE Fn:=λ{J n R} H {g X} o {a L} h=>by
 replace h:=oJ h;obtain(hd|I|ks|p|rfl|h):=h;replace h:=cL h;obtain(x|q|rfl|h):=h;replace h:=cE h;obtain(a|rfl|h):=h;replace h:=cE h;obtain((M|O|kp)|rfl|h):=h;replace h:=kF h;obtain(c|i|cp|rfl|h):=h;replace h:=oi h;obtain((rfl|j|u|lv|v|rfl|B)|h):=h;have E:c=.none:=by revert B;cases c<;>simp
 subst E;obtain(y|F|h):=ob h;cases h;show K1 (o.rm lv) (o.calm lv) (dg o j).1 (o.T.bl (lU u)) (H.e o F) (bJ v)
def zM:c8:=λR g e=>if g.tx e.pos=true then(cR R g "list" e).bind λq=>some (kK (g.cl e.pos) q.2) else none
def zL:SE zM:=λ{B n R} v {g X} o {a E} h=>by
 obtain(_|h):=oi h;obtain((b|y)|u|h):=ob h;cases h;obtain(_|_|rfl|j|hm|lv|d|hs):=lS v o u;show HW (o.calm lv) (mS o) _ j hm d hs
section
variable{prog:Sx}{w:Sr}{A:Ti}{E:RJ->RO->Prop}{s:RO}{r:Addr}{a b c:Int}{t u v:Tok}{n:Nat}
def Ek (hh:A.handled=none)(hr:IsRange s.heap r a b c t u v)(hs:Builtin.Range.small a b c=true)(hz:Builtin.Range.rangeSize a b c=(n:Int))(hn:n<=2^24)(S:Addr)(y:Nat)(e:s.heap.get? S=some {cls:=Value.type "list",data:=Data.seq #[] y})
 (h:∀(B:Heap) (tk:Nat) (j:Array RJ) (H:Nat),(∀(b:Addr) (o:Obj),b≠S->s.heap.get? b=some o->B.get? b=some o)->B.get? S=some {cls:=Value.type "list",data:=Data.seq j H}->ItemsOf (λi v=>∃t,v=Value.int (a+↑i*c) t) j n->R (Except.ok (Flow.ret (.ref S))) {heap:=B,gens:=s.gens,drawn:=s.drawn,toks:=tk,os:=s.os}) :
 codeAny (model prog w) A (Code.builtin "list.__iadd__" {pos:=[.ref S,.ref r]}) R s:=by
 show codeAny_builtin F.entry_list_iadd ?_;rw[Te F.plain_list_iadd];show wpAny_extend_range hh hr hs hz hn S (.ref S) y e h
def vS (hh:A.handled=none)(hr:IsRange s.heap r a b c t u v)(hs:Builtin.Range.small a b c=true)(hz:Builtin.Range.rangeSize a b c=(n:Int))(hn:n<=2^24)
 (h:∀(y:Heap) (tk:Nat) (j:Array RJ),(∀(b:Addr) (o:Obj),s.heap.get? b=some o->y.get? b=some o)->ItemsOf (λi v=>∃t,v=Value.int (a+↑i*c) t) j n->Q j.toList {heap:=y,gens:=s.gens,drawn:=s.drawn,toks:=tk,os:=s.os}) :
 wpAny (model prog w) A (collect (.ref r)) Q E s:=by
 show tqa (wpAny_runValue (codeAny_builtin F.entry_proto_collect ?_));rw[Te F.plain_proto_collect];show tqa (wpAny_newObj_type (tqb {plainId_quiet F.plain_list_iadd _,Ek (s:={s with heap:=s.heap.push {cls:=.type "list",data:=.seq #[]}}) hh (RI _ hr) hs hz hn s.heap.objs.size 0 (RX s.heap rfl) λy tk j I kp H B=>?_}))
 show tqa (wpAny_load H ?_);show tqb (h y tk j (λb o e=>kp b o (Se (R0 e)) (RI _ e)) B)
end
def pQ {n:Nat}(hs:Builtin.Range.small a b c=true)(hz:Builtin.Range.rangeSize a b c=(n:Int))(hn:n<=2^24) :
 Meets (Builtin.«tuple.__new__» {pos:=[.type "tuple",.ref r]}) λA R s=>A.handled=none/\IsRange s.heap r a b c t u v/\
  ∀(y:Heap) (tk:Nat) (j:Array RJ),(∀(b:Addr) (o:Obj),s.heap.get? b=some o->y.get? b=some o)->ItemsOf (λi v=>∃t,v=Value.int (a+↑i*c) t) j n->R (Except.ok (Flow.ret (.ref y.objs.size))) {heap:=y.push {cls:=.type "tuple",data:=.seq j},gens:=s.gens,drawn:=s.drawn,toks:=tk,os:=s.os}:=by
 rintro prog w A R s ⟨F,hr,h⟩;unfold Builtin.«tuple.__new__»;dsimp only;rw[sub_tuple_self,init_tuple_lookup,madeHere_tuple];show tqa (tqb (wpAny_ite_false rfl (tqa (tqb (wpAny_ite_false rfl ?_)))));show wpAny_ite_false `k ?_
 show tqa (tqb (tqa (tqb ?_)));show wpAny_ite_true `k ?_
 show tqa (wpAny_of_eq rfl (tqa (wpAny_of_eq rfl (wpAny_ite_true rfl ?_))));show tqa (tqa (wpAny_typeOf (T:="range") {_,hr,rfl} (tqb ?_)));show wpAny_ite_false `k ?_
 show tqa (vS F hr hs hz hn λy tk j kp B=>?_);have l:j.toList.toArray=j:=rfl;show tqa (tqb ?_);rw[l];show tqa (wpAny_newObj_type (tqb (h y tk j kp B)) (by change j.size<=sizeLine;rw[B.1,sizeLine_eq];show hn))
def q9 {Q:RJ->RO->Prop}{n:Nat}(hh:A.handled=none)(hr:IsRange s.heap r a b c t u v)(hs:Builtin.Range.small a b c=true)(hz:Builtin.Range.rangeSize a b c=(n:Int))(hn:n<=2^24)
 (h:∀(y:Heap) (tk:Nat) (j:Array RJ),(∀(b:Addr) (o:Obj),s.heap.get? b=some o->y.get? b=some o)->ItemsOf (λi v=>∃t,v=Value.int (a+↑i*c) t) j n->Q (.ref y.objs.size) {heap:=y.push {cls:=.type "tuple",data:=.seq j},gens:=s.gens,drawn:=s.drawn,toks:=tk,os:=s.os}) :
 wpAny (model prog w) A (call (.type "tuple") [.ref r]) Q E s:=
 callType_new F.called_tuple `d (F.typeCall_tuple_1 _) (F.newCall_tuple_1 _) (λobj=>F.args_object_init_2 _ _) F.entry_tuple_new (pQ hs hz hn) {hh,hr,λy tk j kp B=>{{_,RX y rfl,rfl},h y tk j kp B}}
def jR (a b:GE):GE:=λh M=>(a h M).bind λx M=>(b h M).bind λy M=>match x,y with
 |.int i,.int j=>if -(2^62)<=i/\i<=j/\j<2^62/\j-i<2^20 then .ok (.tup ((List.range (j-i).toNat).map λ(k:Nat)=>D.int (i+(k:Int)))) M else .bad
 |_,_=>.bad
def yD (i:Int):∀(j:List RJ),(∀(k:Nat) (v:RJ),j[k]?=some v->∃t,v=.int (i+(k:Int)) t)->Vals ((List.range j.length).map λ(k:Nat)=>V.int (i+(k:Int))) j:=by
 intro j;induction j generalizing i with
 |nil=>intro _;show .nil
 | cons v r B=>
   intro h;rw[To,List.range_succ_eq_map,S3,SN];show .cons (h 0 v rfl) ?_;have:=B (i+1) λk u e=>by
    obtain(t|y):=h (k+1) u e;show{t,by rw[y];congr 1;omega}
   show cast (congrArg (λf=>Vals ((List.range r.length).map f) r) ?_) this
   funext k
   congr 1
   omega
set_option tactic.hygienic true in
def KZ (hc:X.calm=true)(ha:DE fa X a ga)(hb:DE fa X b gb)(U:Gl X "tuple")(Y:X.mg "tuple"=none)(hg:Gl X "range")(hm:X.mg "range"=none)(hs:starEach [a,b] X.env=[(false,eval a X.env),(false,eval b X.env)])(J:starEach [b] X.env=[(false,eval b X.env)])
 (R:starEach [.Call (.Name "range" p2) [a,b] [] pos2] X.env=[(false,eval (.Call (.Name "range" p2) [a,b] [] pos2) X.env)]) :
 DE fa X (.Call (.Name "tuple" p1) [.Call (.Name "range" p2) [a,b] [] pos2] [] pos) (jR ga gb):=by
 rintro L s σ H Q I ⟨μ,Z,M,hE,hM,h⟩;show Call_ (eY I U Y (by decide +kernel:bootBuiltins "tuple"=some (.type "tuple")) (S0 ?_ R rfl))
 rw[R];show Calls.spliced_cons ?_;show Call_ (eY I hg hm boot_range (S0 (aT (bS ha (bS hb cy J) (by rw[hs,J]) pos2 L s σ H (λvs O=>∃i j n P B,vs=[.int i,.int j]/\(-(2^62)<=i/\i<=j/\j<2^62/\j-i<2^20)/\n=(j-i).toNat/\Ext μ H B O/\RelM fa X.K B O P/\aY fa X.K μ H Q (.tup ((List.range n).map λ(k:Nat)=>D.int (i+(k:Int)))) P) I (t2 hE hM h λx y P v u O B x1 hE1 S r1 r2 h1=>?_)) λus s1 ⟨vs,O,I1,r1,i,j,n,P,B,ev,c,en,x1,m1,q⟩=>?_) (by rw[hs,J]) (by rw[J];rfl)))
 .cases x with
  | int i=>
    cases y with
    | int j=>
      dsimp only at h1;split at h1
      .next c=>
       obtain rfl:v=.int i:=r1;obtain rfl:u=.int j:=r2;show{i,j,_,P,B,rfl,c,rfl,x1,S,h1}
      .exact h1.elim
    |_=>show h1.elim
  |_=>show h1.elim
 subst ev;cases r1 with
 | cons r rr=>
   cases rr with
   | cons r' rr=>
     cases rr;obtain(t|rfl):=r;obtain(t'|rfl):=r';show call_range_2 ?_;show Calls.spliced_nil ?_;show q9 (n:=n) (I.ok.hd hc) (IsRange.new ..) (small_one `a `a `a `a) (by rw[rangeSize_one];split<;>omega) `a λh' tk F kp its=>?_
     obtain(hsz|W):=its;have I2:Inv X L σ O {s1 with heap:=s1.heap.push {cls:=.type "range",data:=.fields #[.int i t,.int j t',.int 1 s1.toks]},toks:=s1.toks+1}:=I1.kept λb o e=>RI _ e
     have hv:=yD i F.toList λk v e=>by
      obtain(u|z):=W k v (~~~e)
      show{u,by rw[z];simp}
     rw[show F.toList.length=n by simpa using hsz] at hv
     have rl:aH fa X.K B O ((List.range n).map λ(k:Nat)=>D.int (i+(k:Int))) ((List.range n).map λ(k:Nat)=>V.int (i+(k:Int))):=by
      have:=aH.ints (fa:=fa) (K:=X.K) (μ:=B) (H:=O) ((List.range n).map λ(k:Nat)=>i+(k:Int));simpa[SN,Function.comp_def] using this
     have I3:=I2.kept (t':=tk) kp;show{.ref h'.objs.size,_,I3.laid (o:=.tup ((List.range n).map λ(k:Nat)=>V.int (i+(k:Int)))) (λb o e=>RI _ e) (RN _) {?_,F.toList,hv,IsTup.new _ _},rfl,f5 m1 rl ?_ _ (I3.hok.fresh (RN _))}
     .rw[RK,Tf,sizeLine_eq];omega
     .exact jI (r:=.ok _ _) q x1
def Fi:c8:=λR g e=>if 0<g.lv then(cN R g "tuple" e).bind λh=>n1 h λb=>(cN R g "range" b).bind λq=>n2 q λc d=>(R.e g c).bind λy=>(R.e g d).bind λz=>some (jR y z) else none
def Co:SE Fi:=λ{Q n R} H {g X} o {a S} h=>by
 obtain(lv|k):=oi h;clear h;obtain(P|J|h):=ob k;clear k;obtain(_|_|rfl|j|B|O):=yV o J;replace h:=cE h;obtain(b|rfl|h):=h;obtain(q|F|k):=ob h;clear h;obtain(_|_|rfl|I|hm|ns):=yV o F;replace k:=ig k;obtain(c|d|rfl|k):=k;obtain(y|L|k):=ob k;obtain(z|M|k):=ob k;cases k;rw[SQ,RM] at ns;show KZ (o.calm lv) (H.e o L) (H.e o M) j B I hm (m8 (by rw[SQ,ns.1,ns.2];rfl)) (m8 ns.2) (m8 O)
def xR:kZ:=λ_ g st=>match st with
 |.Return _ p=>if g.tx p=true then some gG else none
 |.Assign _ _ p=>if g.tx p=true then some gG else none
 |_=>none
def B6:SS xR:=λ{j n R} _ {g X} _ {a y} h=>by
 unfold xR at h;split at h
 .cases (oi h).2;show By
 .cases (oi h).2;show By
 .cases h
structure Ent where
 i:Nat
 x:Str
 st:Stmt
 ps:Nat
 N:List Str
 f:Addr
 pm:Str×Tok
 b:Call->GS
 r:Bool:=false
 q:Option Str:=none
 df:Addr:=0
noncomputable def Ent.qn (e:Ent):Str:=e.q.getD e.x
structure mW where
 T:List (Str×En)
 tw:List (Str×Str×Nat×Nat)
 xf:List Str
 dl:List (Str×List (Str×Nat))
 il:List (Str×Nat)
 cel:List (Nat×Nat×Nat)
 txt:List (Nat×Nat×Nat)
 ms:List (Str×Nat×Nat)
 rs:Rs
 tb:List Ent
def mW.g (t:mW)(e:Ent)(c:Call):G:={t.T,t.tw,t.xf,t.cel,t.txt,t.ms,c,e.N,bh e.st,2,[]}
noncomputable def mW.Pg (t:mW)(i:Nat):Option Df:=(t.tb.find? (·.i==i)).map λe=>⟨e.ps,e.N.length,e.b⟩
def mW.rd (t:mW)(c:Call)(e:Ent):Option GS:=qg ((It t.rs 60).s (t.g e c)) (cW e.st)
def Ew (e:Ent):Bool:=decide ((bh e.st).kind=.function)&&!(bh e.st).isCoroutine&&!(bh e.st).isGenerator&&decide e.N.Nodup&&((e.N.take e.ps).length==e.ps)&&((e.N.take e.ps).all λx=>(bh e.st).names.lookup x==some .local||(bh e.st).names.lookup x==some .cell)&&((bh e.st).names.all (·.2 != .free))
def p9 (h:Ew e=true):ji e.N (e.N.take e.ps) (bh e.st)/\(e.N.take e.ps).length=e.ps:=by
 unfold Ew at h;dsimp[RM,decide_eq_true_eq,Um,R4,TN,beq_iff_eq,bne_iff_ne] at h;obtain((((((h1|h2)|h3)|h4)|j)|u)|v):=h;show{{h1,h2,h3,h4,by rw[j],u,v},j}
noncomputable def Ent.dV (e:Ent):RJ:=if e.df=0 then .none else .ref e.df
def MN (e:Ent):Option Obj:=some {.type "function",none,.func (PySem.W.fnOf e.x e.qn (eL e.st) (cW e.st) (bh e.st) e.dV .none .none (.str e.pm.1 e.pm.2) none (.ref (e.f-1)) .none),#[]}
def mB {j u:Type}{f g:j->u}{l:List j}(h:l.map f=l.map g){a:j}(m:a∈l):f a=g a:=List.map_inj_left.mp h a m
def oY (e:Ent)(us:List RJ)(kV j pm:RJ)(u:Option Addr)(h ct:RJ):Sem (List (Str×RJ)):=bindArgs (PySem.W.fnOf e.x e.qn (eL e.st) (cW e.st) (bh e.st) e.dV kV j pm u h ct) {us,[]}
def m5 (tb:List Ent)(k:Nat)(us:List RJ):Prop:=∀(kV j pm:RJ) (u:Option Addr) (h ct:RJ),(tb.filter λe=>e.ps==k&&e.df==0).map (λe=>oY e us kV j pm u h ct)=(tb.filter λe=>e.ps==k&&e.df==0).map λe=>pure ((e.N.take e.ps).zip us)
structure zc (t:mW):Prop where
 rs:EW t.rs
 rd:∀c,t.tb.map (t.rd c)=t.tb.map λe=>some (e.b c)
 sc:t.tb.all Ew=true
 ar:t.tb.all (λe=>e.ps==0||e.ps==1||e.ps==2||e.ps==3||e.ps==4||e.ps==6||e.ps==5)=true
 a0:m5 t.tb 0 []
 a1:∀a,m5 t.tb 1 [a]
 a2:∀a b,m5 t.tb 2 [a,b]
 a3:∀a b c,m5 t.tb 3 [a,b,c]
 a4:∀a b c d,m5 t.tb 4 [a,b,c,d]
 a6:∀a b c d e f,m5 t.tb 6 [a,b,c,d,e,f]
 a5:∀a b c d e,m5 t.tb 5 [a,b,c,d,e]
 ad:AllP (λe=>e.ps=2/\∀(a b kV doc pm:RJ) (an:Option Addr) (cdv ct:RJ),∃k k1,oY e [a,b] kV doc pm an cdv ct=seqItems? (.ref e.df) >>= k/\k (some #[.none])=pure ((e.N.take e.ps).zip [a,b])/\oY e [a] kV doc pm an cdv ct=seqItems? (.ref e.df) >>= k1/\k1 (some #[.none])=pure ((e.N.take e.ps).zip [a,.none])) (t.tb.filter λe=>!(e.df==0))
structure B2 (K:RG) (tb:List Ent):Prop where
 ns:(tb.filter (·.q.isNone)).map (λe=>PySem.W.nsIn K mainGlobals e.x)=(tb.filter (·.q.isNone)).map λe=>some (some (.ref e.f))
 lk:tb.map (λe=>K.lookup e.f)=tb.map MN
 dk:tb.all (λe=>e.df==0||(match K.lookup e.df with|some {_,_,.seq its _,_}=>its==#[.none]|_=>false))=true
 ck:tb.all (λe=>PySem.W.codeIn K (.ref (e.f-1)) e.qn&&PySem.W.keepIn K (.ref e.f))=true
def Ko {K:RG}{tb:List Ent}(k:B2 K tb)(m:e∈tb):zj K e.x e.qn e.st e.f (PySem.W.fnOf e.x e.qn (eL e.st) (cW e.st) (bh e.st) e.dV .none .none (.str e.pm.1 e.pm.2) none (.ref (e.f-1)) .none):=by
 have c:=R4.mp k.ck e m;rw[RM] at c;show{{_,_,_,_,_,_,_,_,_,_,rfl,mB k.lk m,c.1},c.2}
def Hv {K:RG}{h:Heap}(k:B2 K tb)(X:K.In h)(G:h.Ns mainGlobals mg)(m:e∈tb)(u:e.q.isNone=true)(hd:e.df=0):mg e.x=some (.ref e.f)/\∃j,xO K e.x e.qn e.st e.f j:=by
 have c:=R4.mp k.ck e m;rw[RM] at c;have l:=mB k.lk m;unfold MN Ent.dV at l;rw[if_pos hd] at l;show{TF X G (mB k.ns (TL.mpr ⟨m,u⟩)),_,ME l c.1 c.2}
def us6 {j:Type}{p:List j->Prop}(h:∀a b c d e f,p [a,b,c,d,e,f]):∀(us:List j) (hl:us.length=6),p us
 |[a,b,c,d,e,f],_=>h a b c d e f
def us5 {j:Type}{p:List j->Prop}(h:∀a b c d e,p [a,b,c,d,e]):∀(us:List j) (hl:us.length=5),p us
 |[a,b,c,d,e],_=>h a b c d e
def CP {t:mW}(T:zc t){e:Ent}(m:e∈t.tb)(H:e.df=0)(kV B pm:RJ)(E:Option Addr)(j ct:RJ):∀us:List RJ,us.length=(e.N.take e.ps).length->oY e us kV B pm E j ct=pure ((e.N.take e.ps).zip us):=by
 have hl:=(p9 (R4.mp T.sc e m)).2;have a:=R4.mp T.ar e m;have f:∀{k:Nat}{us:List RJ},e.ps=k->m5 t.tb k us->oY e us kV B pm E j ct=pure ((e.N.take e.ps).zip us):=λ{k us} hk F=>mB (F kV B pm E j ct) (TL.mpr {m,by rw[hk,H];simp})
 rw[hl];dsimp[TN,beq_iff_eq] at a;rcases a with(((((a|a)|a)|a)|a)|a)|a
 .rw[a];show λus h=>by rw[TH.mp h];show a ▸ f a T.a0
 .rw[a];show PD λx=>a ▸ f a (T.a1 x)
 .rw[a];show PC λx y=>a ▸ f a (T.a2 x y)
 .rw[a];show us3 λx y z=>a ▸ f a (T.a3 x y z)
 .rw[a];show us4 λx y z u=>a ▸ f a (T.a4 x y z u)
 .rw[a];show us6 λx y z u v w=>a ▸ f a (T.a6 x y z u v w)
 .rw[a];show us5 λx y z u v=>a ▸ f a (T.a5 x y z u v)
section
variable{fa:Fa}{P:Sx}{w:Sr}{K:RG}{mg:Str->Option RJ}{base:Heap}{t:mW}
def tO (T:zc t)(TO:GX fa P w K mg base t.T)(tw:∀q∈t.tw,GV fa K mg q.1 q.2.1 q.2.2.1 q.2.2.2)(xf:∀f∈t.xf,GR fa K f)(ms:∀q∈t.ms,qm fa K q.1 q.2.1 q.2.2){e:Ent}(m:e∈t.tb){ad:Addr}(call:Call)(n:Nat)(j:RJ)(A:Ti)(outer:List Tu)(s:RO)(H:Hp)(E:XK)
 (C:∀f,g7 fa P w K mg base n f (call f)) (hr:c9 (2*n+5) (A.deeper (envOfC e.qn (bh e.st) s.heap.objs.size ad j))):la fa (gi (iR P w) P w K mg base e.N e.qn (bh e.st) ad j A outer s H E) (cW e.st) (e.b call):=by
 have S:=(p9 (R4.mp T.sc e m)).1;show iE ((G1 T.rs 60).s (g:=t.g e call) (X:=gi (iR P w) P w K mg base e.N e.qn (bh e.st) ad j A outer s H E) {rfl,S.nd,rfl,TO,tw,xf,ms,λ_ _=>rfl,(λ_ h=>nomatch h),λ_=>rfl,λ_=>C,λ_=>hr,λ_=>⟨rfl,rfl,rfl,S.kind⟩,λ_=>PassesOwn.leaving}) (mB (T.rd call) m)
set_option tactic.hygienic true in
def Ab (k:B2 K tb)(m:en∈tb)(h:en.df≠0)(X:K.In s.heap)(e1:oY en us .none .none (.str en.pm.1 en.pm.2) none (.ref (en.f-1)) .none=seqItems? (.ref en.df) >>= kk)(e2:kk (some #[.none])=pure out) :
 BindsTo s (PySem.W.fnOf en.x en.qn (eL en.st) (cW en.st) (bh en.st) en.dV .none .none (.str en.pm.1 en.pm.2) none (.ref (en.f-1)) .none) {us,[]} out:=by
 have dk:=R4.mp k.dk en m;rw[TN] at dk;rcases dk with dk|dk
 .exact absurd (eq_of_beq dk) h
 split at dk
 .next lk=>
  have q:=eq_of_beq dk;subst q;show BindsTo.of_defaults (by change en.dV=_;unfold Ent.dV;rw[if_neg h]) (X _ _ lk) rfl (by change oY en us _ _ _ _ _ _=seqItems? en.dV >>= _;unfold Ent.dV;rw[if_neg h];show e1) e2
 .cases dk
def CO (T:zc t)(k:B2 K t.tb)(X:K.In h)(G:h.Ns mainGlobals mg)(TO:GX fa P w K mg base t.T)(tw:∀q∈t.tw,GV fa K mg q.1 q.2.1 q.2.2.1 q.2.2.2)(xf:∀f∈t.xf,GR fa K f)(ms:∀q∈t.ms,qm fa K q.1 q.2.1 q.2.2)(hf:t.tb.all (λe=>fa e.i==some e.f&&(!(fa (500+e.i)).isSome||!(e.df==0)))=true) :
 ∀f d,t.Pg f=some d->zm fa P w K mg base f d:=by
 intro f d e;obtain(en|he|rfl):=R3.mp e;have m:=List.mem_of_find?_eq_some he;have J:en.i=f:=by have:=List.find?_some he;simpa using this
 have F:=Ko k m;obtain(S|hl):=p9 (R4.mp T.sc en m);have u:=R4.mp hf en m;rw[RM,TN] at u;have M:fa f=some en.f:=by rw[<- J];show eq_of_beq u.1
 have B:Binds K (PySem.W.fnOf en.x en.qn (eL en.st) (cW en.st) (bh en.st) en.dV .none .none (.str en.pm.1 en.pm.2) none (.ref (en.f-1)) .none) (en.N.take en.ps) []:=by
  by_cases v:en.df=0
  .exact .all (CP T m v _ _ _ _ _ _)
  .intro s I X j;obtain(h2|hk):=T.ad.mem en (TL.mpr {m,~~~v})
   rw[TM] at j ⊢;rw[hl,h2] at j
   match I,j with
   | [a,b],_=>
     obtain(kk|_|e1|e2|_):=hk a b .none .none (.str en.pm.1 en.pm.2) none (.ref (en.f-1)) .none;show Ab k m v X e1 e2
 have L:(fa (500+f)).isSome=true->Binds K (PySem.W.fnOf en.x en.qn (eL en.st) (cW en.st) (bh en.st) en.dV .none .none (.str en.pm.1 en.pm.2) none (.ref (en.f-1)) .none) (en.N.take en.ps) [.none]:=λhs s I X j=>by
  have v:en.df≠0:=by
   rcases u.2 with z|z
   .rw[J,hs] at z;cases z
   .simpa using z
  obtain(h2|hk):=T.ad.mem en (TL.mpr {m,~~~v})
  rw[hl,h2,Sa] at j
  match I,j with
  | [a],_=>
    obtain(_|kk|_|_|e1|e2):=hk a .none .none .none (.str en.pm.1 en.pm.2) none (.ref (en.f-1)) .none;show Ab k m v X e1 e2
 show{en.f,_,en.N.take en.ps,en.N,en.st,en.x,en.qn,M,F,B,L,S,hl.symm,rfl,λcall n y A outer s H E C hr=>tO T TO tw xf ms m call n y A outer s H E C hr}
noncomputable def MP (K:RG)(fa:Fa)(t:mW)(p:Str×En):Bool:=match p.2 with
 |.fn i _=>(match PySem.W.nsIn K mainGlobals p.1 with|some (some (.ref a))=>fa i==some a|_=>false)
 |.fnD i=>(match PySem.W.nsIn K mainGlobals p.1 with|some (some (.ref a))=>fa i==some a&&(fa (500+i)).isSome|_=>false)
 |.int i=>(match PySem.W.nsIn K mainGlobals p.1 with|some (some (.int j _))=>i==j|_=>false)
 |.str i=>(match PySem.W.nsIn K mainGlobals p.1 with|some (some (.str j _))=>i==j|_=>false)
 |.xc k=>(match PySem.W.nsIn K mainGlobals p.1 with|some (some (.ref a))=>fa (eJ k)==some a&&PySem.W.excIn K a BN "ValueError.__new__"&&PySem.W.keepIn K (.ref a)|_=>false)
 |.xi k=>(match PySem.W.nsIn K mainGlobals p.1 with|some (some (.ref a))=>fa (eJ k)==some a&&t.il.contains (p.1,k)|_=>false)
 |.xk k=>(match PySem.W.nsIn K mainGlobals p.1 with|some (some (.ref a))=>fa (eJ k)==some a|_=>false)
 |.de=>(match PySem.W.nsIn K mainGlobals p.1 with|some (some (.ref a))=>fa 999==some a|_=>false)
 |.bl=>(match PySem.W.nsIn K mainGlobals p.1 with|some none=>true|_=>false)
 |.dct fs=>t.dl.contains (p.1,fs)
 |.cls c f=>(match PySem.W.nsIn K mainGlobals p.1 with|some (some (.ref a))=>fa (jJ c)==some a&&PySem.W.makesIn K a&&PySem.W.keepIn K (.ref a)&&(match fa f with|some ad=>PySem.W.findIn K (.ref a) "__init__"==some (some (.ref ad))&&PySem.W.isFn K (.ref ad)|none=>true)|_=>false)
set_option tactic.hygienic true in
def Hu (X:K.In h)(G:h.Ns mainGlobals mg)(H:t.T.all (MP K fa t)=true)(I:oj fa K)(y:NN fa K)(E:∀o,5000<=o->fa o=none)(B:fa (jJ 77)=none/\fa (jJ 78)=none)(hd:AllP (λq=>∃ad j,mg q.1=some (.ref ad)/\fA K w.params ad j/\ec fa j q.2) t.dl)(hi:AllP (λq=>B4 fa P w K mg base q.2 q.1) t.il):GX fa P w K mg base t.T:=by
 have F:∀{x:Str}{e:En},t.T.lookup x=some e->MP K fa t (x,e)=true:=λ{x e} l=>R4.mp H _ (mem_of_lookup l);show{λ{x i r} l ad u=>?_,λ{x i} l=>?_,λ{x i} l=>?_,λ{x i} l=>?_,λ{x fs} l=>?_,λ{x k} l=>?_,λ{x k} l=>?_,λ{x k} l=>?_,λ{x} l=>?_,λ{x} l=>?_,I,y,E,B,λ{x c f} l=>?_};all_goals have b:=F l;unfold MP at b;dsimp only at b
 .split at b
  .next e=>have b:=eq_of_beq b;rw[u] at b;cases b;show TF X G e
  .cases b
 .split at b
  .next e=>rw[RM] at b;show{λad u=>by have b1:=eq_of_beq b.1;rw[u] at b1;cases b1;show TF X G e,b.2}
  .cases b
 .split at b
  .next e=>have b:=eq_of_beq b;subst b;show{_,TF X G e}
  .cases b
 .split at b
  .next e=>have b:=eq_of_beq b;subst b;show{_,TF X G e}
  .cases b
 .exact hd.mem (x,fs) (Uj.mp b)
 .split at b
  .next e=>dsimp[RM] at b;show{_,TF X G e,eq_of_beq b.1.1,b.1.2,b.2}
  .cases b
 .split at b
  .next e=>rw[RM] at b;show{hi.mem (x,k) (Uj.mp b.2),_,TF X G e,eq_of_beq b.1}
  .cases b
 .split at b
  .next e=>show{_,TF X G e,eq_of_beq b}
  .cases b
 .split at b
  .next e=>show{_,TF X G e,eq_of_beq b}
  .cases b
 .split at b
  .next e=>show PySem.W.mg_none_of X G e
  .cases b
 .split at b
  .next a e=>
   dsimp[RM] at b;show{a,TF X G e,eq_of_beq b.1.1.1,λad v=>?_};have b2:=b.2;rw[v] at b2;dsimp[RM] at b2;show{b.1.1.2,eq_of_beq b2.1,b2.2,b.1.2}
  .cases b
end
noncomputable def yT (K:RG)(C:Addr):Bool:=PySem.W.plainGet K C Str.empty&&PySem.W.hasDictIn K C&&PySem.W.plainOver K C&&PySem.W.findIn K (.ref C) "__setattr__"==some (some (.builtin "object.__setattr__"))
def BI {K:RG}(h:yT K C=true):xQ K C:=by
 unfold yT at h;dsimp[RM] at h;show{h.1.1.1,h.1.1.2,h.1.2,eq_of_beq h.2}
def LS (K:RG)(fa:Fa):Bool:=match fa (jJ 40) with
 |some C=>yT K C&&(lO 40).all λf=>PySem.W.findIn K (.ref C) f==some none
 |none=>true
def LR {K:RG}(h:LS K fa=true):NN fa K:=λc C e ne=>by
 have j:c=40:=by
  unfold lO at ne;split at ne
  .rfl
  .exact absurd rfl ne
 subst j;unfold LS at h;rw[e] at h;dsimp[RM,R4] at h;show{BI h.1,λf m=>eq_of_beq (h.2 f m)}
def Mc (K:RG)(fa:Fa)(q:Str×Nat×Nat):Bool:=match fa (jJ q.2.1) with
 | some C=>yT K C && (match fa q.2.2 with
   |some ad=>PySem.W.findIn K (.ref C) q.1==some (some (.ref ad))&&PySem.W.isFn K (.ref ad)&&PySem.W.keepIn K (.ref ad)
   |none=>true)&&!(lO q.2.1).contains q.1&&!(lO q.2.1).isEmpty
 |none=>false
def Mb {K:RG}{l:List (Str×Nat×Nat)}(h:l.all (Mc K fa)=true):∀q∈l,qm fa K q.1 q.2.1 q.2.2:=λq m=>by
 have h:=R4.mp h q m;unfold Mc at h;cases e:fa (jJ q.2.1) with
 |none=>rw[e] at h;cases h
 | some C=>
   rw[e] at h;dsimp[RM,Um] at h;show{C,e,BI h.1.1.1,λad ea=>?_,λz=>?_,λz=>?_}
   .have b:=h.1.1.2;rw[ea] at b;dsimp[RM] at b;show{eq_of_beq b.1.1,b.1.2,b.2}
   .have:=List.contains_iff_mem.mpr z;rw[h.1.2] at this;cases this
   .rw[z] at h;show absurd h.2 `d
def Er {D:Addr}(h:cl.all (λq=>decide (q.1<4000))=true):∀o,5000<=o->xm l cl D o=none:=λo ho=>by
 unfold xm;rw[if_neg `a,if_neg `a]
 cases e:cl.lookup (o-1000) with
 |none=>rfl
 | some C=>
   have:=of_decide_eq_true (R4.mp h _ (lookup_mem e));omega
end LD
section
local macro_rules|`(#[$a,*])=>do return<-a.getElems.foldrM (β:=Lean.Term) (λx r=>`(LD.a9 $x $r)) (<-`(LD.bb))
local macro_rules|`(#v[$a,*])=>do return<-a.getElems.foldrM (β:=Lean.Term) (λx r=>`(LD.aZ $x $r)) (<-`(LD.aF))
namespace LD
open PySem
abbrev gI (n:Int):GE:=gC (.int n)
abbrev gS (x:Str):GE:=gC (.str x)
abbrev gN:GE:=gC .non
abbrev rX:GE:=gC (.bl true)
abbrev Gv:GE:=gC (.bl false)
abbrev rF:GS:=aZ (aM Gv) aF
noncomputable def cV:List (Str×Nat):=[("turn",7),("join",8),("move",9),("put",10)]
def ef:List (Str×Nat):=[("turn",20),("join",21),("move",22),("put",23)]
def gX (c:Call):GS:=#v[aN (c4 (ai (cF .bool (aa 0))) (bO (ai (cF .int (aa 0))))) rF aF,aM (jw .le .le (aa 1) (aa 0) (aa 2))]
def jX (c:Call):GS:=#v[aM (ah 0 c #[aa 1,gI 0,ak false .sub (aa 0) (gI 1)])]
def i4 (c:Call):GS:=#v[aM (ah 0 c #[aa 1,gI 0,ak false .sub (aa 0) (gI 1)])]
def jY (c:Call):GS:=#v[aM (ah 0 c #[aa 0,gI 1,gI 3])]
def fX (c:Call):GS:=#v[aM (dH (cF .tuple (aa 1)) (aA .eq (aK .len #[aa 1]) (aa 0)))]
def i1 (c:Call):GS:=#v[aM (dH (ah 4 c #[aa 0,aa 1]) (aK .all #[bp false 1 (.one 0) (cg (aa 1)) (bB (ah 1 c #[aa 1,aa 0]))]))]
def d9 (c:Call):GS:=#v[aM (dH (ah 4 c #[aa 0,aa 1]) (aK .all #[bp false 1 (.one 0) (cg (aa 1)) (bB (ah 5 c #[aa 1,aa 0]))]))]
def gx (c:Call):GS:=#v[aN (ai (aA .ne (aK .len #[aa 2]) (gI 3))) rF aF,av (.tup [3,4,5]) (aa 2),aM (dH (ah 2 c #[aa 1,aa 3]) (dH (ah 5 c #[aa 0,aa 4]) (ah 3 c #[aa 5])))]
def gz (c:Call):GS:=#v[aN (ai (aA .ne (aK .len #[aa 2]) (gI 4))) rF aF,av (.tup [3,4,5,6]) (aa 2),aN (c4 (bO (ai (ah 2 c #[aa 1,aa 3]))) (bO (ai (ah 2 c #[aa 1,aa 4])))) rF aF,aM (dH (ah 6 c #[aa 0,aa 5]) (ah 3 c #[aa 6]))]
def gy (c:Call):GS:=#v[aN (ai (aA .ne (aK .len #[aa 2]) (gI 3))) rF aF,av (.tup [3,4,5]) (aa 2),aM (dH (ah 2 c #[aa 1,aa 3]) (dH (ah 2 c #[aa 1,aa 4]) (ah 3 c #[aa 5])))]
def hZ (c:Call):GS:=#v[aN (ai (aA .ne (aK .len #[aa 2]) (gI 3))) rF aF,av (.tup [3,4,5]) (aa 2),aM (dH (ah 2 c #[aa 1,aa 3]) (dH (ah 1 c #[aa 0,aa 4]) (ah 3 c #[aa 5])))]
def dU (c:Call):GS:=#v[aN (c4 (bO (ai (cF .tuple (aa 2)))) (bO (ai (aa 2)))) rF aF,av (.one 3) (ao (aa 2) (gI 0)),aN (c4 (bO (ai (cF .str (aa 3)))) (ai (iX cV (aa 3)))) rF aF,av (.one 4) (lM cV (aa 3)),aM (mM 4 c #[aa 0,aa 1,cw false true false (aa 2) (gI 1) gN])]
def jA (c:Call):GS:=#v[aN (bO (ai (ah 4 c #[gI 3,aa 0]))) rF aF,av (.tup [1,2,3]) (aa 0),aN (c4 (bO (ai (ah 0 c #[aa 1,gI 2,gI 4]))) (bO (ai (ah 0 c #[aa 2,gI 1,gI 2])))) rF aF,aN (c4 (bO (ai (cF .tuple (aa 3)))) (bO (ai (jw .le .le (gI 1) (aK .len #[aa 3]) (gI 6))))) rF aF,aM (aK .all #[bp false 1 (.one 0) (cg (aa 3)) (bB (ah 11 c #[aa 2,aa 3,aa 0]))])]
def fw (c:Call):GS:=#v[aN (bO (ai (ah 12 c #[aa 0]))) #v[fM 3 #[gS "this is no machine"]] aF]
def kS (c:Call):GS:=#v[av (.tup [2,3,4]) (aa 0),aM (dH (ah 4 c #[aa 3,aa 1]) (aK .all #[bp false 1 (.one 0) (cg (aa 1)) (bB (ah 1 c #[aa 3,aa 0]))]))]
def cP (c:Call):GS:=#v[d4 (bK 13 c #[aa 0]),av (.tup [1,2,3]) (aa 0),av (.one 4) (aW false #[aR bb]),d3 (.one 5) (dC (aa 2)) #v[av (.one 4) (bp false 2 (.one 0) (cg (aa 4)) (uX (.one 1) (dC (aa 3)) (bB (ak false .add (aa 0) (aR #[aa 1])))))],aM (aa 4)]
def pj (c:Call):GS:=#v[aM (ah 0 c #[aa 1,gI 0,ak false .sub (aK .len #[ao (aa 0) (gI 2)]) (gI 1)])]
def rb (c:Call):GS:=#v[aN (bO (ai (cF .list (aa 1)))) #v[wo 0 (gI 0)] aF,d3 (.tup [2,3]) (iW (aa 1)) #v[aN (bO (ai (ah 16 c #[aa 0,aa 3]))) #v[wo 0 (aa 2)] aF]]
def yX (c:Call):GS:=#v[d4 (bK 13 c #[aa 0]),d4 (bK 17 c #[aa 0,aa 1]),aN (ai (aA .gt (aK .len #[aa 1]) (gI 40))) #v[fM 4 #[uY "a row has at most " " deeds" (gI 40)]] aF]
def lV (c:Call):GS:=#v[av (.tup [2,3,4,5]) (aa 0),aM (ao (aa 4) (ao (aa 1) (aa 3)))]
def ph (c:Call):GS:=#v[gG,gG]
def rf (c:Call):GS:=#v[gG,gG]
def pf (c:Call):GS:=#v[gG,gG]
def qi (c:Call):GS:=#v[av (.one 2) (lM ef (ao (aa 0) (gI 0))),av (.one 3) (ao (aa 0) (gI 1)),aM (ak false .add (ak false .add (cw false false true (aa 1) gN (aa 3)) (aR #[mM 2 c #[aa 0,aa 1]])) (cw false true false (aa 1) (ak false .add (aa 3) (gI 1)) gN))]
def rg (c:Call):GS:=#v[av (.one 3) (aW true #[aa 2]),d3 (.one 4) (cg (aa 1)) #v[jo (aa 3) (ah 24 c #[ao (ao (aa 0) (gI 2)) (aa 4),ao (aa 3) (eC (gI 1))])],aM (aa 3)]
def l4 (c:Call):GS:=#v[aN (ai (aA .ge (aa 0) (ak false .pow (gI 10) (gI 18)))) #v[aM (aa 0)] aF,av (.one 2) (aW false #[gI 2147483629,gI 2147483587,gI 2147483579,gI 2147483563,gI 2147483549,gI 2147483543,gI 2147483497,gI 2147483489]),av (.one 2) (ak false .add (aa 2) (aW false #[gI 2147483477,gI 2147483423,gI 2147483399,gI 2147483353,gI 2147483323])),av (.one 3) (ak false .mod (ak false .pow (ak false .add (ak false .add (ak false .mul (ak false .mod (aa 0) (gI 1000000007)) (ak false .add (ak false .mul (gI 2) (aa 1)) (gI 69069))) (ak false .mul (aa 1) (gI 40503))) (gI 977)) (gI 3)) (ao (aa 2) (ak false .mod (aa 1) (gI 13)))),av (.one 4) (ak false .mod (ak false .pow (ak false .add (ak false .add (ak false .mul (aa 3) (ak false .add (aa 1) (gI 3))) (ak false .mod (aa 0) (gI 65537))) (gI 5)) (gI 5)) (ao (aa 2) (ak false .mod (ak false .add (aa 1) (gI 5)) (gI 13)))),av (.one 5) (ak false .mod (ak false .pow (ak false .add (ak false .add (aa 4) (ak false .mod (aa 3) (gI 1009))) (aa 1)) (gI 3)) (ao (aa 2) (ak false .mod (ak false .add (aa 1) (gI 7)) (gI 13)))),aM (ak false .add (ak false .mul (ak false .add (ak false .mul (aa 3) (gI 2147483647)) (aa 4)) (gI 2147483647)) (aa 5))]
def kc (c:Call):GS:=#v[av (.one 1) (aK (.list true) #[cw false false true (aa 0) gN (gI 12)]),d3 (.tup [2,3]) (iW (cw false true true (aa 0) (gI 12) (gI 63))) #v[dG (aa 1) (ak false .mod (aa 2) (gI 12)) (ak false .add (ao (aa 1) (ak false .mod (aa 2) (gI 12))) (aa 3))],aM (aW true #[aa 1,gI 0,gI 0])]
def kg (c:Call):GS:=#v[dG (aa 0) (gI 2) (gI 0),aM (aa 0)]
def og (c:Call):GS:=#v[aN (ai (aA .lt (ao (aa 0) (gI 2)) (aa 1))) #v[av (.one 2) (ao (aa 0) (gI 1)),av (.one 3) (gI 0),aN (ai (aA .lt (aa 2) (aK .len #[ao (aa 0) (gI 0)]))) #v[av (.one 3) (ao (ao (aa 0) (gI 0)) (aa 2))] #v[aN (ai (aA .gt (aK .len #[ao (aa 0) (gI 0)]) (gI 0))) #v[av (.one 3) (ak false .mod (ao (ao (aa 0) (gI 0)) (ak false .mod (ak false .add (ak false .mul (aa 2) (gI 5)) (gI 3)) (aK .len #[ao (aa 0) (gI 0)]))) (ak false .add (ak false .pow (gI 10) (gI 17)) (aa 2)))] aF],dG (aa 0) (gI 1) (ak false .add (aa 2) (gI 1)),dG (aa 0) (gI 2) (ah 28 c #[aa 3,aa 2])] aF,av (.one 4) (ak false .mod (ao (aa 0) (gI 2)) (aa 1)),dG (aa 0) (gI 2) (ak false .fdiv (ao (aa 0) (gI 2)) (aa 1)),aM (aa 4)]
def i5 (c:Call):GS:=#v[av (.one 2) (ah 31 c #[aa 0,gI 6]),av (.one 3) (ah 31 c #[aa 0,aa 1]),av (.one 4) (ah 31 c #[aa 0,aa 1]),aN (ai (aA .lt (aa 2) (gI 2))) #v[aM (aK .tuple #[bp false 1 (.one 0) (dC (aa 1)) (bB (ah 31 c #[aa 1,aa 2]))])] aF,aN (ai (aA .eq (aa 2) (gI 2))) #v[aM (aK .tuple #[bp false 1 (.one 0) (dC (aa 1)) (bB (ak false .mod (ak false .add (ak false .add (aa 0) (gI 1)) (aa 4)) (aa 2)))])] aF,aN (ai (aA .eq (aa 2) (gI 3))) #v[aM (aK .tuple #[bp false 1 (.one 0) (dC (aa 1)) (bB (gg (ai (aA .eq (aa 0) (aa 4))) (aa 5) (aa 0)))])] aF,aN (ai (aA .eq (aa 2) (gI 4))) #v[aM (ak false .mul (aR #[aa 3]) (aa 1))] aF,av (.one 5) (mL true (aa 1)),dG (aa 5) (aa 3) (aa 4),dG (aa 5) (aa 4) (aa 3),aM (aK .tuple #[aa 5])]
def ir (c:Call):GS:=#v[av (.one 3) (ah 31 c #[aa 0,gI 8]),av (.one 4) (ak false .add (gI 1) (ah 31 c #[aa 0,gI 3])),av (.one 5) (ah 31 c #[aa 0,aa 2]),av (.one 6) (ah 31 c #[aa 0,aa 2]),aN (ai (aA .lt (aa 3) (gI 3))) #v[aM (aR #[gS "turn",aa 5,ah 32 c #[aa 0,aa 1],aa 4])] aF,aN (ai (aA .lt (aa 3) (gI 5))) #v[aM (aR #[gS "move",aa 5,gg (ai (aA .eq (aa 3) (gI 3))) (ak false .mod (ak false .add (aa 5) (gI 1)) (aa 2)) (aa 6),aa 4])] aF,aN (ai (aA .eq (aa 3) (gI 5))) #v[aM (aR #[gS "put",aa 5,ah 31 c #[aa 0,aa 1],aa 4])] aF,aM (aR #[gS "join",aa 5,aa 6,aK .tuple #[bp false 1 (.one 0) (dC (aa 1)) (bB (ah 32 c #[aa 1,aa 2]))],aa 4])]
def fy (c:Call):GS:=#v[av (.one 1) (ak false .add (gI 2) (ah 31 c #[aa 0,ak false .sub (aa 1) (gI 1)])),av (.one 2) (ak false .add (gI 1) (ah 31 c #[aa 0,aa 2])),av (.one 4) (aW true bb),d3 (.one 5) (dC (ak false .add (gI 1) (ah 31 c #[aa 0,aa 3]))) #v[av (.one 6) (ah 31 c #[aa 0,gI 5]),av (.one 7) (ah 33 c #[aa 0,aa 1,aa 2]),aN (dF (ai (aA .eq (aa 6) (gI 0))) (ai (aA .ne (aa 4) (aW false bb)))) #v[av (.one 7) (ak false .add (cw false false true (ao (aa 4) (ah 31 c #[aa 0,aK .len #[aa 4]])) gN (eC (gI 1))) (aR #[ao (aa 7) (eC (gI 1))]))] aF,jo (aa 4) (aa 7)],aM (aR #[aa 1,aa 2,aK .tuple #[aa 4]])]
def fx (c:Call):GS:=#v[av (.one 3) (ah 31 c #[aa 0,gI 4]),av (.one 4) (gg (ai (aA .eq (aa 3) (gI 0))) (aa 2) (ah 31 c #[aa 0,ak false .add (aa 2) (gI 1)])),av (.one 5) (bp false 1 (.one 0) (dC (aa 4)) (bB (ah 31 c #[aa 1,aK .len #[ao (aa 2) (gI 2)]]))),aN (ai (aA .eq (aa 3) (gI 1))) #v[av (.one 5) (cw false false true (ak false .mul (cw false false true (aa 5) gN (gI 2)) (aa 4)) gN (aa 4))] aF,aM (aa 5)]
def gY (c:Call):GS:=#v[av (.one 2) (aK (.list true) #[aa 1]),av (.one 3) (ao (aa 1) (ao (aa 0) (gI 1))),aN (ai (aA .eq (ao (aa 0) (gI 0)) (gS "turn"))) #v[dG (aa 2) (ao (aa 0) (gI 1)) (ao (ao (aa 0) (gI 2)) (aa 3))] aF,aN (ai (aA .eq (ao (aa 0) (gI 0)) (gS "join"))) #v[dG (aa 2) (ao (aa 0) (gI 1)) (ao (ao (ao (aa 0) (gI 3)) (aa 3)) (ao (aa 1) (ao (aa 0) (gI 2))))] aF,aN (ai (aA .eq (ao (aa 0) (gI 0)) (gS "move"))) #v[dG (aa 2) (ao (aa 0) (gI 1)) (ao (aa 1) (ao (aa 0) (gI 2)))] aF,aN (ai (aA .eq (ao (aa 0) (gI 0)) (gS "put"))) #v[dG (aa 2) (ao (aa 0) (gI 1)) (ao (aa 0) (gI 2))] aF,aM (aK .tuple #[aa 2])]
def iN (c:Call):GS:=#v[aN (ai (aA .eq (ao (aa 0) (gI 1)) (gI 1))) #v[aM (bp false 1 (.one 0) (dC (ao (aa 0) (gI 0))) (bB (aR #[aa 0])))] aF,aM (bp false 1 (.one 0) (dC (ak false .mul (ao (aa 0) (gI 0)) (ao (aa 0) (gI 0)))) (bB (aR #[ak false .fdiv (aa 0) (ao (aa 1) (gI 0)),ak false .mod (aa 0) (ao (aa 1) (gI 0))])))]
def d5 (c:Call):GS:=#v[av (.one 2) (aW true bb),d3 (.one 3) (cg (ah 42 c #[aa 0])) #v[d3 (.one 4) (cg (aa 1)) #v[av (.one 3) (ah 41 c #[ao (ao (aa 0) (gI 2)) (aa 4),aa 3])],jo (aa 2) (aa 3)],aM (aK .tuple #[aa 2])]
def eT (c:Call):GS:=#v[av (.one 2) (gS " !\"#$&'()*+,-./0123456789:;<=>?@ABCDEFGHIJKLMNOPQRSTUVWXYZ[\\]^_`"),av (.one 2) (ak false .add (aa 2) (gS "abcdefghijklmnopqrstuvwxyz{|}~\t\n")),av (.one 3) (bp false 1 (.one 0) (pY (aa 2)) (iC (ai (aA .notin (aa 0) (aa 2))) (bB (aa 0)))),aM (ao (aa 3) (ah 31 c #[aa 0,aK .len #[aa 3]]))]
def eU (c:Call):GS:=#v[aM (ah 64 c #[aa 0,gS ""])]
def fY (c:Call):GS:=#v[av (.one 2) (ah 31 c #[aa 0,ak false .add (aK .len #[aa 1]) (gI 1)]),aM (ak false .add (ak false .add (nF false true (aa 1) gN (aa 2)) (ah 65 c #[aa 0])) (nF true false (aa 1) (ak false .add (aa 2) (ah 31 c #[aa 0,gI 2])) gN))]
def jZ (c:Call):GS:=#v[aM (dH (cF .int (aa 0)) (MC (cF .bool (aa 0))))]
def mV (c:Call):GS:=#v[aM (dH (ah 67 c #[aa 0]) (jw .le .le (aa 1) (aa 0) (aa 2)))]
def h9 (c:Call):GS:=#v[aN (c4 (bO (ai (cF .tuple (aa 0)))) (ai (aA .ne (aK .len #[aa 0]) (aa 1)))) rF aF,aM (aA .eq (bp false 1 (.one 0) (cg (aa 0)) (iC (bO (ai (ah 68 c #[aa 0,aa 3,aa 4]))) (bB (gI 1)))) (aW false bb))]
def dw (c:Call):GS:=#v[aN (c4 (bO (ai (cF .tuple (aa 0)))) (ai (aA .notin (aK .len #[aa 0]) (aR #[gI 4,gI 5])))) rF aF,aN (c4 (ai (aA .notin (ao (aa 0) (gI 0)) (aR #[gS "turn",gS "join",gS "move",gS "put"]))) (ai (aA .ne (aA .eq (aK .len #[aa 0]) (gI 5)) (aA .eq (ao (aa 0) (gI 0)) (gS "join"))))) rF aF,aN (c4 (bO (ai (ah 69 c #[aR #[ao (aa 0) (gI 1)],gI 1,gI 0,ak false .sub (aa 2) (gI 1)]))) (bO (ai (ah 68 c #[ao (aa 0) (eC (gI 1)),gI 1,gI 3])))) rF aF,aN (ai (aA .eq (ao (aa 0) (gI 0)) (gS "turn"))) #v[aM (ah 69 c #[ao (aa 0) (gI 2),aa 1,gI 0,ak false .sub (aa 1) (gI 1)])] aF,aN (ai (aA .eq (ao (aa 0) (gI 0)) (gS "put"))) #v[aM (ah 68 c #[ao (aa 0) (gI 2),gI 0,ak false .sub (aa 1) (gI 1)])] aF,aN (bO (ai (ah 68 c #[ao (aa 0) (gI 2),gI 0,ak false .sub (aa 2) (gI 1)]))) rF aF,aN (ai (aA .eq (ao (aa 0) (gI 0)) (gS "move"))) #v[aM rX] aF,aN (c4 (bO (ai (cF .tuple (ao (aa 0) (gI 3))))) (ai (aA .ne (aK .len #[ao (aa 0) (gI 3)]) (aa 1)))) rF aF,aM (aA .eq (bp false 1 (.one 0) (cg (ao (aa 0) (gI 3))) (iC (bO (ai (ah 69 c #[aa 0,aa 2,gI 0,ak false .sub (aa 2) (gI 1)]))) (bB (gI 1)))) (aW false bb))]
def fE (c:Call):GS:=#v[aN (c4 (bO (ai (cF .tuple (aa 0)))) (c4 (ai (aA .ne (aK .len #[aa 0]) (gI 3))) (bO (ai (ah 68 c #[ao (aa 0) (gI 0),gI 2,gI 4]))))) rF aF,aN (c4 (bO (ai (ah 68 c #[ao (aa 0) (gI 1),gI 1,gI 2]))) (c4 (bO (ai (cF .tuple (ao (aa 0) (gI 2))))) (bO (ai (jw .le .le (gI 1) (aK .len #[ao (aa 0) (gI 2)]) (gI 6)))))) rF aF,aM (aA .eq (bp false 1 (.one 0) (cg (ao (aa 0) (gI 2))) (iC (bO (ai (ah 70 c #[aa 0,ao (aa 1) (gI 0),ao (aa 1) (gI 1)]))) (bB (gI 1)))) (aW false bb))]
def oh (c:Call):GS:=#v[av (.one 3) (ah 31 c #[aa 0,gI 8]),av (.one 4) (ah 31 c #[aa 0,gI 20]),av (.one 5) (ak false .sub (ah 31 c #[aa 0,gI 9]) (gI 2)),aN (dF (ai (cF .tuple (aa 1))) (dF (ai (aA .ne (aa 1) (aR bb))) (dF (ai (aA .gt (aa 2) (gI 0))) (ai (aA .gt (aa 4) (gI 4)))))) #v[av (.one 6) (ah 31 c #[aa 0,aK .len #[aa 1]]),aM (ak false .add (ak false .add (cw false false true (aa 1) gN (aa 6)) (aR #[ah 72 c #[aa 0,ao (aa 1) (aa 6),ak false .sub (aa 2) (gI 1)]])) (cw false true false (aa 1) (ak false .add (aa 6) (gI 1)) gN))] aF,av (.one 7) (aW false #[gN,rX,Gv,gS "",gS "turn",gS "join",gS "move",gS "put",gS "Turn",aR bb,aW false bb,ak false .pow (gI 10) (gI 20),eC (gI 1),gI 0]),av (.one 7) (ak false .add (aa 7) (aW false #[gI 1,gI 4,aR #[gI 0],aW false #[gI 0],gS "0",gI 7])),aN (ai (cF .tuple (aa 1))) #v[av (.one 8) (aW false #[aK (.list false) #[aa 1],ak false .add (aa 1) (cw false false true (aa 1) gN (gI 1)),cw false false true (aa 1) gN (eC (gI 1)),qQ false (aa 1),ak false .add (aa 1) (aR #[aa 5]),cw false true false (aa 1) (gI 1) gN,aR #[aa 1]]),aM (ao (ak false .add (aa 8) (aW false #[ao (aa 7) (aa 4)])) (aa 3))] aF,aN (ai (ah 67 c #[aa 1])) #v[aM (ao (aW false #[ak false .add (aa 1) (gI 1),ak false .sub (aa 1) (gI 1),ak false .sub (gI 0) (aa 1),aa 5,aa 5,aA .eq (aa 1) (gI 1),ak false .sub (gI 3) (aa 1),ao (aa 7) (aa 4)]) (aa 3))] aF,aN (dF (ai (cF .str (aa 1))) (ai (aA .lt (aa 3) (gI 3)))) #v[aM (ah 66 c #[aa 0,aa 1])] aF,aM (ao (aa 7) (aa 4))]
def gu (c:Call):GS:=#v[aN (bO (ai (ah 4 c #[aK .len #[ah 15 c #[aa 0]],aa 1]))) rF aF,aM (aK .all #[bp false 1 (.one 0) (cg (aa 1)) (bB (uW (aA .isN (aa 0) gN) (ah 1 c #[ao (aa 1) (gI 0),aa 0])))])]
def fQ (c:Call):GS:=#v[d4 (bK 13 c #[aa 0]),aN (bO (ai (ah 79 c #[aa 0,aa 1]))) #v[fM 6 #[gS "this is no work of the machine"]] aF]
def iF (c:Call):GS:=#v[aM (aK .all #[bp false 2 (.tup [0,1]) (yG (aa 0) (aa 1)) (bB (uW (aA .isN (aa 1) gN) (aA .eq (ao (aa 0) (gI 0)) (aa 1))))])]
def iM (c:Call):GS:=#v[av (.one 2) (ah 31 c #[aa 0,gI 5]),av (.one 3) (ah 31 c #[aa 0,gI 4]),av (.one 4) (ah 42 c #[aa 1]),av (.one 5) (ah 44 c #[aa 1,ah 35 c #[aa 0,aa 1,gI 6]]),av (.one 6) (bp true 1 (.one 0) (cg (aa 5)) (bB (ao (aa 0) (gI 0)))),aN (ai (aA .eq (aa 2) (gI 0))) #v[av (.one 6) (bp true 1 (.one 0) (cg (aa 4)) (bB (ah 31 c #[aa 1,ao (aa 2) (gI 0)])))] aF,av (.one 7) (ah 31 c #[aa 0,aK .len #[aa 6]]),aN (ai (aA .eq (aa 2) (gI 1))) #v[dG (aa 6) (aa 7) (ah 31 c #[aa 0,ao (aa 1) (gI 0)])] aF,aN (ai (aA .gt (aa 3) (gI 0))) #v[av (.one 6) (bp true 1 (.one 0) (cg (aa 6)) (bB (gg (ai (aA .eq (ah 31 c #[aa 1,ak false .add (gI 2) (aa 4)]) (gI 0))) gN (aa 0))))] aF,aM (aK .tuple #[aa 6])]
def fv (c:Call):GS:=#v[fi (.one 1) (bK 15 c #[aa 0]),aM (bp false 1 (.one 0) (cg (ao (aa 0) (gI 2))) (bB (aR #[ao (aa 0) (eC (gI 1)),jv 77 1 (.one 0) (cg (aa 2)) (iY (aa 0) (ah 24 c #[aa 1,aa 0]))])))]
def fe (c:Call):GS:=#v[aM (aK .tuple #[bp false 1 (.one 0) (cg (aa 1)) (bB (dP (aa 1) (aa 0)))])]
def jW (c:Call):GS:=#v[av (.one 3) (aK .len #[aa 1]),av (.one 4) (aW true bb),d3 (.two 5 [6,7]) (iW (aa 0)) #v[av (.one 8) (gg (ai (aA .le (aa 6) (aa 3))) (ao (aa 1) (ak false .sub (aa 3) (aa 6))) (aW false bb)),d3 (.one 9) (cg (aa 8)) #v[av (.one 10) (ah 152 c #[aa 7,aa 9]),aN (ai (hU true (aa 10) (aa 2))) #v[lE (aa 2) (aa 10) (aR #[aa 3,ak true .add (ao (dP (aa 2) (aa 9)) (gI 1)) (aW false #[aa 5])]),jo (aa 4) (aa 10),aN (ai (aA .gt (nI (aa 2)) (gI 255))) #v[fM 8 #[uY "rows have more than " " behaviours" (gI 255)]] aF] aF]],aM (aa 4)]
def mU (c:Call):GS:=#v[fi (.one 2) (bK 151 c #[aa 0]),av (.one 3) (aK .tuple #[ah 15 c #[aa 0]]),av (.one 4) (xb 78 (aa 3) (aR #[gI 0,aW true bb])),av (.one 5) (aW true #[aW false #[aa 3]]),mq (dF (ai (oV (cw false true false (aa 5) (eC (gI 3)) gN))) (c4 (ai (aA .isN (aa 1) gN)) (ai (aA .le (aK .len #[aa 5]) (aa 1))))) #v[nh (aa 5) (bK 165 c #[aa 2,aa 5,aa 4])],aM (aa 4)]
def nU (c:Call):GS:=#v[d4 (bK 80 c #[aa 0,aa 1]),fi (.one 2) (bK 166 c #[aa 0,gN]),av (.one 3) (nH (bp false 1 (.one 0) (e9 c6 (aa 2)) (iC (ai (ah 81 c #[aa 0,aa 2])) (bB (dP (aa 3) (aa 0)))))),aN (ai (aA .isN (aa 3) gN)) #v[aM (aR #[gS "none",kK true (aa 2)])] aF,av (.tup [4,5]) (aa 3),av (.one 6) (bp true 1 (.one 0) (e9 c6 (aa 2)) (iC (ai (aA .le (ao (dP (aa 3) (aa 0)) (gI 0)) (aa 5))) (bB (aR #[aa 0,ak false .sub (aa 5) (ao (dP (aa 3) (aa 0)) (gI 0))])))),aM (aR #[gS "row",aa 4,aa 5,aa 6])]
def jB (c:Call):GS:=#v[av (.one 2) (aK .len #[ah 15 c #[aa 0]]),aM (aK .all #[bp false 1 (.one 0) (cg (aa 1)) (bB (dH (ah 4 c #[aa 3,aa 0]) (aK .all #[bp false 1 (.one 0) (cg (aa 0)) (bB (ah 14 c #[aa 2,aa 0]))])))])]
def vA (c:Call):GS:=#v[d4 (bK 80 c #[aa 0,aa 1]),aN (bO (ai (ah 176 c #[aa 0,aa 2]))) rF aF,av (.one 3) (jv 78 1 (.one 0) (cg (aa 2)) (iY (aa 0) rX)),aN (c4 (ai (hU true (aK .tuple #[ah 15 c #[aa 0]]) (aa 3))) (ai (oV (bp false 1 (.one 0) (e9 c6 (aa 3)) (bB (ah 81 c #[aa 0,aa 2])))))) rF aF,gG,gG]
def gj (c:Call):GS:=#v[av (.one 1) (yJ 78),d3 (.tup [2,3]) (cg (aa 0)) #v[gG],aM (aa 1)]
def xF (c:Call):GS:=#v[d4 (bK 80 c #[aa 0,aa 1]),aN (bO (ai (ah 176 c #[aa 0,bp false 2 (.tup [0,1]) (cg (aa 3)) (bB (aa 0))]))) rF aF,av (.one 4) (ah 181 c #[aa 3]),av (.one 5) (aK .tuple #[ah 15 c #[aa 0]]),aN (c4 (ai (hU true (aa 5) (aa 4))) (ai (aA .lt (dP (aa 4) (aa 5)) (aa 2)))) rF aF,gG,gG]
def di (c:Call):GS:=#v[av (.one 4) gN,t5 #v[aN (ai (aA .eq (aa 0) (gI 0))) #v[d4 (bK 167 c #[aa 1,aa 2])] #v[aN (ai (aA .eq (aa 0) (gI 1))) #v[d4 (bK 183 c #[aa 1,aa 2,aa 3,ao (aW false #[aW false bb,aW false #[aR #[aR bb,gI 1]],aW false #[aR #[aR #[aR #[gI 9]],gI 0]]]) (aa 3)])] #v[d4 (bK 177 c #[aa 1,aa 2,ao (aW false #[aW false bb,aW false #[aR bb],aW false #[aR #[aR #[gI 9]]]]) (aa 3)])]]] 5 #v[av (.one 4) (aa 5)],av (.one 6) (aW false #[dm (some 3) (aa 4),dm (some 6) (aa 4),dm (some 8) (aa 4)]),av (.one 7) (aW false #[dm (some 7) (aa 4),dm (some 0) (aa 4),dm (some 4) (aa 4)]),aN (ai (aA .isN (aa 4) gN)) #v[aM (gS "told")] aF,aN (c4 (ai (aA .ne (yK (aa 6)) (gI 1))) (c4 (ai (aA .isin rX (aa 7))) (bO (ai (dm none (aa 4)))))) #v[aM (gS "odd")] aF,aM (ao (aW false #[gS "machine",gS "work",gS "many"]) (yI (aa 6)))]
def ke (c:Call):GS:=#v[av (.one 1) (ak false .add (gI 3) (ah 31 c #[aa 0,gI 2])),av (.one 2) (ah 31 c #[aa 0,gI 2]),av (.one 3) (aK .tuple #[bp false 1 (.one 0) (dC (aa 1)) (bB (ak false .mod (ak false .add (aa 0) (gI 1)) (aa 2)))]),av (.one 4) (cw false false true (aW false #[aa 3,ak false .add (aR #[gI 1,gI 0]) (jR (gI 2) (aa 1)),ak false .add (aR #[gI 0,gI 0]) (jR (gI 2) (aa 1))]) gN (ak false .add (gI 2) (aa 2))),av (.one 5) (bp false 1 (.one 0) (cg (aa 4)) (bB (aR #[gS "turn",gI 0,aa 0,ak false .add (gI 1) (ah 31 c #[aa 1,gI 3])]))),av (.one 6) (ah 31 c #[aa 0,aK .len #[aa 5]]),aM (aR #[aR #[aa 1,gI 1,aK .tuple #[ak false .add (cw false true false (aa 5) (aa 6) gN) (cw false false true (aa 5) gN (aa 6))]],dH (aA .eq (aa 1) (gI 4)) (aA .eq (aa 2) (gI 1))])]
def FN (c:Call):GS:=#v[aN (ai (aA .ne (ah 232 c #[aa 5,aa 2,aa 6,gI 0]) (ao (aW false #[gS "told",gS "many"]) (Em (dH (aa 3) (aA .eq (aa 5) (gI 0))))))) rF aF]
def Bf (c:Call):GS:=#v[d3 (.one 6) (cg (aW false #[aa 4,ak false .mul (aR #[gN]) (aK .len #[aa 4])])) (FN c)]
def GQ (c:Call):GS:=#v[aN (ai (aA .ne (ah 232 c #[aa 5,aa 2,aa 10,aa 9]) (gS "work"))) rF aF,aN (dF (bO (ai (ah 71 c #[aa 8]))) (ai (aA .ne (ah 232 c #[aa 5,aa 8,ao (aW false #[aa 4,aa 10]) (ak false .mod (aa 9) (gI 2)),aa 9]) (gS "machine")))) rF aF,aN (dF (ai (aA .gt (aa 5) (gI 0))) (ai (aA .ne (ah 232 c #[aa 5,aa 2,aa 4,aa 9]) (gS "told")))) rF aF]
def zW (c:Call):GS:=#v[av (.one 2) (ah 34 c #[ah 30 c #[aa 1],gI 4,gI 2,gI 6]),av (.one 8) (ah 72 c #[aa 1,aa 2,gI 5]),av (.one 9) (ah 31 c #[aa 1,gI 3]),av (.one 4) (ah 83 c #[aa 1,aa 2]),av (.one 10) (aW false #[cw false false true (aa 4) gN (eC (gI 1)),ak false .add (aa 4) (aR #[gN]),aK (.list false) #[aa 4],gN,ak false .mul (aR #[ao (aa 2) (gI 0)]) (aK .len #[aa 4]),ak false .mul (aR #[rX]) (aK .len #[aa 4])]),av (.one 10) (ao (aa 10) (ah 31 c #[aa 1,gI 6])),d3 (.one 5) (dC (gI 3)) (GQ c)]
def nV (c:Call):GS:=#v[av (.one 1) (ah 29 c #[aa 0]),av (.tup [2,3]) (ah 233 c #[ah 30 c #[aa 1]]),av (.one 4) (ah 83 c #[aa 1,aa 2]),d3 (.one 5) (dC (gI 3)) (Bf c),d3 (.one 7) (dC (gI 4)) (zW c),aM rX]
@[simp] theorem ba {h j:Type}{r:Res h}{f:h->Mem->Res j}{k:j->Mem->Prop}:ae (r.bind f) k↔ae r λa M=>ae (f a M) k:=by cases r<;>rfl
@[simp] theorem bW {h:Type}{a:h}{k:h->Mem->Prop}:ae (.ok a M) k↔k a M:=Tc
@[simp] theorem R8 {h:Type}{k:h->Mem->Prop}:ae (.bad:Res h) k↔False:=Tc
@[simp] theorem iz {h:Type}{M:Mem}{o:Option h}{k:h->Mem->Prop}:ae (cj M o) k↔∃a,o=some a/\k a M:=by cases o<;>simp[cj]
def fm {j:Type}{r:Res j}{k:j->Mem->Prop}:ae r k↔∃a M,r=.ok a M/\k a M:=by
 cases r with
 |ok a M=>show{λh=>⟨a,M,rfl,h⟩,λ⟨_,_,e,h⟩=>by cases e;show h}
 |err=>simp[ae]
 |bad=>simp[ae]
def nP (j:aC 64 (view M x)=true)(B:aC 64 (view M y)=true)(h:bU (view M x) (view M y)=v):bo .eq x y M=some v:=by
 have e:p8 (view M x) (view M y)=some v:=by unfold p8;rw[j,B,h];simp
 change mP M x y=_;unfold mP;rw[e]
def xC (j:aC 64 (view M x)=true)(B:aC 64 (view M y)=true)(h:bU (view M x) (view M y)=v):bo .ne x y M=some (!v):=by
 change(bo .eq x y M).map (!·)=_;rw[nP j B h];rfl
section
variable{Z:Env}{M:Mem}{a b d lo hi:GE}{s:GA}{t u:GT}{k:D->Mem->Prop}{c:Call}
@[simp] theorem aU {i:Nat}:ae (aa i Z M) k↔∃d,Z[i]?.getD none=some d/\k d M:=by simp[aa]
@[simp] theorem cz {d:D}:ae (gC d Z M) k↔k d M:=Tc
@[simp] theorem dS {m:Bool}{o:om}:ae (ak m o a b Z M) k↔ae (a Z M) λx M=>ae (b Z M) λy M=>ae (eM m o x y M) k:=by simp[ak]
@[simp] theorem dR {o:j4}:ae (aA o a b Z M) k↔ae (a Z M) λx M=>ae (b Z M) λy M=>∃v,bo o x y M=some v/\k (.bl v) M:=by simp[aA]
@[simp] theorem Su {o h:j4}:ae (jw o h a b d Z M) k↔ae (a Z M) λx M=>ae (b Z M) λy M=>∃v,bo o x y M=some v/\if v=true then ae (d Z M) λz M=>∃v,bo h y z M=some v/\k (.bl v) M else k (.bl false) M:=by
 dsimp[jw,ba,iz];show iff_of_eq ?_
 congr 1;funext x M;congr 1;funext y M;show propext (exists_congr λv=>and_congr_right λ_=>?_)
 cases v<;>simp
@[simp] theorem sZ:ae (eC a Z M) k↔ae (a Z M) λx M=>∃i,x=.int i/\k (.int (-i)) M:=by
 dsimp[eC,ba];show iff_of_eq ?_;congr 1;funext x M;cases x<;>simp
set_option tactic.hygienic true in
@[simp] theorem Gz:ae (dH a b Z M) k↔ae (a Z M) λx M=>∃v,x=.bl v/\if v=true then ae (b Z M) k else k (.bl false) M:=by
 dsimp[dH,ba];show iff_of_eq ?_;congr 1;funext x M;cases x<;>simp;rename_i v;cases v<;>simp
set_option tactic.hygienic true in
@[simp] theorem MR:ae (uW a b Z M) k↔ae (a Z M) λx M=>∃v,x=.bl v/\if v=true then k (.bl true) M else ae (b Z M) k:=by
 dsimp[uW,ba];show iff_of_eq ?_;congr 1;funext x M;cases x<;>simp;rename_i v;cases v<;>simp
@[simp] theorem Gy:ae (gg t a b Z M) k↔ae (t Z M) λv M=>if v=true then ae (a Z M) k else ae (b Z M) k:=by
 dsimp[gg,ba];show iff_of_eq ?_;congr 1;funext v M;cases v<;>simp
@[simp] theorem gV:ae (ao a b Z M) k↔ae (a Z M) λx M=>ae (b Z M) λy M=>∃d,bZ x y M=some d/\k d M:=by simp[ao]
@[simp] theorem gU {m hl hh:Bool}:ae (cw m hl hh a lo hi Z M) k↔ae (a Z M) λx M=>ae (lo Z M) λl M=>ae (hi Z M) λh M=>cq hl l=true/\cq hh h=true/\ae (eA m x l h M) k:=by
 dsimp[cw,ba];show iff_of_eq ?_
 congr 1;funext x M;congr 1;funext l M;congr 1;funext h M
 cases cq hl l<;>cases cq hh h<;>simp
@[simp] theorem bV {k:List D->Mem->Prop}:ae (bb Z M) k↔k [] M:=Tc
@[simp] theorem bA {k:List D->Mem->Prop}:ae (a9 a s Z M) k↔ae (a Z M) λx M=>ae (s Z M) λxs M=>k (x::xs) M:=by simp[a9]
@[simp] theorem gR:ae (aR s Z M) k↔ae (s Z M) λxs M=>xs.length<=sz/\k (.tup xs) M:=by
 dsimp[aR,ba];show iff_of_eq ?_;congr 1;funext xs M;unfold lG;split<;>simp[*]
def uq {m:Bool}{xs:List D}:ae (bc m xs M) k↔xs.length<=sz/\if m=true then k (.cell M.length) (M++[xs]) else k (.lst xs) M:=by
 unfold bc;cases m<;>split<;>simp[*]
@[simp] theorem bT {xs:List D}:ae (bc false xs M) k↔xs.length<=sz/\k (.lst xs) M:=by simp[uq]
@[simp] theorem ky {xs:List D}:ae (bc true xs M) k↔xs.length<=sz/\k (.cell M.length) (M++[xs]):=by simp[uq]
@[simp] theorem nK {m:Bool}:ae (aW m s Z M) k↔ae (s Z M) λxs M=>ae (bc m xs M) k:=by simp[aW]
@[simp] theorem fO {f:Nat}:ae (ah f c s Z M) k↔ae (s Z M) λds M=>ae (c f ds M) k:=by simp[ah]
@[simp] theorem xo {i:Nat}:ae (mM i c s Z M) k↔∃f,Z[i]?.getD none=some (.fn f)/\ae (s Z M) λds M=>ae (c f ds M) k:=by
 unfold mM;cases e:Z[i]?.getD none with
 |none=>simp
 |some d=>cases d<;>simp
@[simp] theorem cu {f:vL}:ae (aK f s Z M) k↔ae (s Z M) λds M=>ae (fc f ds M) k:=by simp[aK]
@[simp] theorem Bw {t:Ty}:ae (cF t a Z M) k↔ae (a Z M) λx M=>∃v,cM t x=some v/\k (.bl v) M:=by simp[cF]
@[simp] theorem Bx {fs:List (Str×Nat)}:ae (lM fs a Z M) k↔ae (a Z M) λx M=>∃y f,x=.str y/\fs.lookup y=some f/\k (.fn f) M:=by
 dsimp[lM,ba];show iff_of_eq ?_;congr 1;funext x M;cases x<;>simp;show{(by rintro⟨_,⟨f,h,e⟩,q⟩;show{f,h,e ▸ q}),(by rintro⟨f,h,q⟩;show{_,⟨f,h,rfl⟩,q})}
set_option tactic.hygienic true in
@[simp] theorem Jg {m:Bool}:ae (mL m a Z M) k↔ae (a Z M) λx M=>∃n,x=.int n/\(-(2^62)<=n/\n<2^20)/\ae (bc m ((List.range n.toNat).map λ(k:Nat)=>D.int (k:Int)) M) k:=by
 dsimp[mL,ba];show iff_of_eq ?_;congr 1;funext x M;cases x<;>simp;rename_i n;split<;>simp[*]
variable{kb:Bool->Mem->Prop}
@[simp] theorem ib:ae (ai a Z M) kb↔ae (a Z M) λx M=>∃v,j6 M x=some v/\kb v M:=by simp[ai]
@[simp] theorem N5:ae (dF t u Z M) kb↔ae (t Z M) λv M=>if v=true then ae (u Z M) kb else kb false M:=by
 dsimp[dF,ba];show iff_of_eq ?_;congr 1;funext v M;cases v<;>simp
@[simp] theorem Ql:ae (c4 t u Z M) kb↔ae (t Z M) λv M=>if v=true then kb true M else ae (u Z M) kb:=by
 dsimp[c4,ba];show iff_of_eq ?_;congr 1;funext v M;cases v<;>simp
@[simp] theorem N4:ae (bO t Z M) kb↔ae (t Z M) λv M=>kb (!v) M:=by simp[bO]
variable{kf:Fl->Mem->Prop}{sa sb:GS}
def gF (b:GS)(k:Fl->Mem->Prop):Fl->Mem->Prop
 |.next Z,M=>ae (b Z M) k
 |.ret d,M=>k (.ret d) M
 |.exc x Z,M=>k (.exc x Z) M
@[simp] theorem Qk {b:GS}{x:D}:gF b kf (.exc x Z) M↔kf (.exc x Z) M:=Tc
@[simp] theorem bM {b:GS}:gF b kf (.next Z) M↔ae (b Z M) kf:=Tc
@[simp] theorem CN {b:GS}{d:D}:gF b kf (.ret d) M↔kf (.ret d) M:=Tc
@[simp] theorem ax:ae (aZ sa sb Z M) kf↔ae (sa Z M) (gF sb kf):=by
 dsimp[aZ,ba];show iff_of_eq ?_;congr 1;funext fl M;cases fl<;>rfl
@[simp] theorem mj:ae (aF Z M) kf↔kf (.next Z) M:=Tc
@[simp] theorem fL {i:Nat}:ae (av (.one i) a Z M) kf↔ae (a Z M) λx M=>kf (.next (Z.set i (some x))) M:=by simp[av,b7]
@[simp] theorem KJ {l:List Nat}:ae (av (.tup l) a Z M) kf↔ae (a Z M) λx M=>∃ds ρ1,x=.tup ds/\fH l ds Z=some ρ1/\kf (.next ρ1) M:=by
 dsimp[av,ba,iz,bW];show iff_of_eq ?_;congr 1;funext x M;cases x<;>simp[b7]
@[simp] theorem t4:ae (dG a b d Z M) kf↔ae (d Z M) λz M=>ae (a Z M) λx M=>ae (b Z M) λy M=>∃j n ds i,x=.cell j/\y=.int n/\M[j]?=some ds/\bX ds.length n=some i/\kf (.next Z) (M.set j (ds.set i z)):=by
 dsimp[dG,ba];show iff_of_eq ?_
 congr 1;funext z M;congr 1;funext x M;congr 1;funext y M
 cases x with
 | cell j=>
   cases y with
   | int n=>
     cases e:M[j]? with
     |none=>simp[e]
     | some ds=>
       cases e2:bX ds.length n with
       |none=>simp[e,e2]
       |some i=>simp[e,e2]
   |_=>simp
 |_=>simp
set_option tactic.hygienic true in
@[simp] theorem Aw:ae (jo a d Z M) kf↔ae (a Z M) λx M=>ae (d Z M) λz M=>∃j ds,x=.cell j/\M[j]?=some ds/\ds.length<sz/\kf (.next Z) (M.set j (ds++[z])):=by
 dsimp[jo,ba];show iff_of_eq ?_
 congr 1;funext x M;congr 1;funext z M
 cases x<;>simp;rename_i j;cases e:M[j]? with
 |none=>simp
 |some ds=>by_cases h:ds.length<sz<;>simp[h]
@[simp] theorem b4:ae (aM a Z M) kf↔ae (a Z M) λx M=>kf (.ret x) M:=by simp[aM]
@[simp] theorem Rw:ae (FG Z M) kf↔kf (.ret .non) M:=Tc
@[simp] theorem Rx:ae (FH Z M) kf↔kf (.next Z) M:=Tc
@[simp] theorem RV:ae (gG Z M) kf↔False:=Tc
@[simp] theorem fJ:ae (aN t sa sb Z M) kf↔ae (t Z M) λv M=>if v=true then ae (sa Z M) kf else ae (sb Z M) kf:=by
 dsimp[aN,ba];show iff_of_eq ?_;congr 1;funext v M;cases v<;>simp
variable{kw:Walk->Mem->Prop}
set_option tactic.hygienic true in
@[simp] theorem fF:ae (dC a Z M) kw↔ae (a Z M) λx M=>∃n,x=.int n/\(-(2^62)<=n/\n<2^62)/\kw (λ_=>some ((List.range n.toNat).map λ(k:Nat)=>D.int (k:Int))) M:=by
 dsimp[dC,ba];show iff_of_eq ?_;congr 1;funext x M;cases x<;>simp;rename_i n;split<;>simp[*]
@[simp] theorem gE:ae (cg a Z M) kw↔ae (a Z M) λx M=>ik x=true/\kw (λM=>cH M x) M:=by
 dsimp[cg,ba];show iff_of_eq ?_;congr 1;funext x M;cases x<;>simp[ik]<;>rfl
@[simp] theorem J4:ae (iW a Z M) kw↔ae (a Z M) λx M=>ik x=true/\kw (λM=>(cH M x).map (eR 0)) M:=by
 dsimp[iW,ba];show iff_of_eq ?_;congr 1;funext x M;split<;>simp[*]
def eD (k:D->Mem->Prop):Fl->Mem->Prop
 |.ret d,M=>k d M
 |.next _,M=>k .non M
 |.exc _ _,_=>False
@[simp] theorem RA {d:D}:eD k (.ret d) M↔k d M:=Tc
@[simp] theorem Q7:eD k (.next Z) M↔k .non M:=Tc
def aE {d:Df}{ds:List D}(e:P f=some d)(hl:ds.length=d.params)(h:ae (d.body (ag P n) (ds.map some++List.replicate (d.slots-ds.length) none) M) (eD k)):ae (ag P (n+1) f ds M) k:=by
 change ae (match P f with|none=>Res.bad|some d=>f7 (ag P n) d ds M) k
 rw[e];change ae (f7 (ag P n) d ds M) k;unfold f7;rw[if_pos hl];revert h;cases d.body (ag P n) (ds.map some++List.replicate (d.slots-ds.length) none) M with
 |ok fl M=>cases fl<;>show id
 |err=>show id
 |bad=>show id
@[simp] theorem AQ {h:Type}{a:h}{k:h->Mem->Prop}{j:D->Mem->Prop}:eP (.ok a M) k j↔k a M:=Tc
@[simp] theorem Io {h:Type}{x:D}{k:h->Mem->Prop}:eP (.err x M:Res h) k kx↔kx x M:=Tc
def uZ (k h:D->Mem->Prop):Fl->Mem->Prop
 |.ret d,M=>k d M
 |.next _,M=>k .non M
 |.exc x _,M=>h x M
def eF {d:Df}{j:D->Mem->Prop}(e:P f=some d)(hl:ds.length=d.params)(h:ae (d.body (ag P n) (ds.map some++List.replicate (d.slots-ds.length) none) M) (uZ k j)):eP (ag P (n+1) f ds M) k j:=by
 change eP (match P f with|none=>Res.bad|some d=>f7 (ag P n) d ds M) k j
 rw[e];change eP (f7 (ag P n) d ds M) k j;unfold f7;rw[if_pos hl];revert h;cases d.body (ag P n) (ds.map some++List.replicate (d.slots-ds.length) none) M with
 |ok fl M=>cases fl<;>show id
 |err=>show id
 |bad=>show id
def gq {j:Type}{r:Res j}{x:D}{M':Mem}(h:eP r (λ_ _=>False) λy M=>y=x/\M=M'):r=.err x M':=by
 cases r with
 |ok=>show h.elim
 |err y M=>obtain(rfl|rfl):=h;rfl
 |bad=>show h.elim
@[simp] theorem Sm {d:D}{h:D->Mem->Prop}:uZ k h (.ret d) M↔k d M:=Tc
@[simp] theorem Rz {h:D->Mem->Prop}:uZ k h (.next Z) M↔k .non M:=Tc
@[simp] theorem Sn:uZ k kx (.exc x Z) M↔kx x M:=Tc
@[simp] theorem Rt {f:Nat}:eP (bK f c s Z M) k kx↔ae (s Z M) λds M=>eP (c f ds M) k kx:=by
 unfold bK;cases s Z M<;>rfl
@[simp] theorem kr:ae (d4 a Z M) kf↔eP (a Z M) (λ_ M=>kf (.next Z) M) (λx M=>kf (.exc x Z) M):=by
 unfold d4;cases a Z M<;>rfl
@[simp] theorem HK {i:Nat}:ae (fi (.one i) a Z M) kf↔eP (a Z M) (λx M=>kf (.next (Z.set i (some x))) M) (λx M=>kf (.exc x Z) M):=by
 unfold fi;cases a Z M<;>rfl
@[simp] theorem Dj {i:Nat}:ae (fM i s Z M) kf↔ae (s Z M) λds M=>ds.length<=sz/\kf (.exc (.exc i none) Z) M:=by
 unfold fM;cases s Z M with
 |ok ds j=>by_cases h:ds.length<=sz<;>simp[h]
 |err=>show Tc
 |bad=>show Tc
def Ex (i:Nat)(kf:Fl->Mem->Prop):Fl->Mem->Prop
 |.next Z,M=>kf (.next (Z.set i none)) M
 |.ret d,M=>kf (.ret d) M
 |.exc _ _,_=>False
def CJ (i:Nat)(h:GS)(kf:Fl->Mem->Prop):Fl->Mem->Prop
 |.exc x Z,M=>ae (h (Z.set i (some x)) M) (Ex i kf)
 |fl,M=>kf fl M
set_option tactic.hygienic true in
@[simp] theorem Av {i:Nat}{h:GS}:ae (t5 sa i h Z M) kf↔ae (sa Z M) (CJ i h kf):=by
 dsimp[t5,ba];show iff_of_eq ?_;congr 1;funext fl M;cases fl with
 | exc x Z=>
   change ae ((h (Z.set i (some x)) M).bind (JZ i)) kf=ae (h (Z.set i (some x)) M) (Ex i kf);dsimp[ba];congr 1;funext fl M;cases fl<;>rfl
 |next Z=>rfl
 |ret d=>rfl
def eX {v:Type}{f:v->D->Mem->Res v}{w:Walk}{ds:List D}{a:v}{k:v->Mem->Prop}(I:Nat->v->Mem->Prop)(F:∀i a M,I i a M->w M=some ds)(E:I 0 a M)
 (hs:∀i d a M,ds[i]?=some d->I i a M->ae (f a d M) (I (i+1))) (hk:∀a M,I ds.length a M->k a M):ae (cY f w a M) k:=by
 have B:∀(m i:Nat) (a:v) (M:Mem),ds.length-i<m->i<=ds.length->I i a M->ae (fT f w m i a M) k:=by
  intro m;induction m with
  |zero=>intro i a M h;show absurd h (Ue _)
  | succ m O=>
    intro i a M h hi y;change ae (match w M with|none=>Res.bad|some ds=>match ds[i]? with|none=>Res.ok a M|some d=>(f a d M).bind (fT f w m (i+1))) k
    rw[F i a M y];dsimp only;by_cases j:i<ds.length
    .rw[RZ j];dsimp[ba];show ay (hs i ds[i] a M (RZ j) y) λJ H L=>O (i+1) J H `a j L
    .have e:i=ds.length:=`a
     subst e;rw[TC (RN _)];show hk a M y
 unfold cY;rw[F 0 a M E];show B _ 0 a M `s (S5 _) E
def eK {t:fR}{w:Walk}{v:GS}{ds:List D}(I:Nat->Env->Mem->Prop)(B:∀i Z M,I i Z M->w M=some ds)(y:I 0 Z M)
 (hs:∀i d Z M,ds[i]?=some d->I i Z M->∃ρ1,b7 t d Z=some ρ1/\ae (v ρ1 M) λfl M=>∃ρ',fl=.next ρ'/\I (i+1) ρ' M) (hk:∀Z M,I ds.length Z M->kf (.next Z) M):ae (cY (ic t v) w (.next Z) M) kf:=by
 show eX (λi fl M=>∃Z,fl=.next Z/\I i Z M) ((by rintro i fl M ⟨Z,_,h⟩;show B i Z M h)) ⟨Z,rfl,y⟩ ?_ ?_
 .rintro i d fl M hd ⟨Z,rfl,j⟩;obtain(ρ1|e|h):=hs i d Z M hd j;dsimp[ic,ba,iz,e];show⟨ρ1,rfl,h⟩
 .rintro fl M ⟨Z,rfl,j⟩;show hk Z M j
@[simp] theorem fK {j:fR}{w:GW}{h:GS}:ae (d3 j w h Z M) kf↔ae (w Z M) λw M=>ae (cY (ic j h) w (.next Z) M) kf:=by simp[d3]
@[simp] theorem dQ {m:Bool}{n:Nat}{h:fR}{w:GW}{g:GB}:ae (bp m n h w g Z M) k↔ae (w Z M) λw M=>ae (cY (cJ h g (List.replicate n none++Z)) w [] M) λacc M=>ae (bc m acc M) k:=by simp[bp]
variable{kl:List D->Mem->Prop}
@[simp] theorem GP {ge:GE}{acc:List D}:ae (bB ge Z acc M) kl↔ae (ge Z M) λx M=>acc.length<sz/\kl (acc++[x]) M:=by
 dsimp[bB,ba];show iff_of_eq ?_;congr 1;funext x M;split<;>simp[*]
def comp_map {v:fR}{w:Walk}{ge:GE}{ds:List D}{j:Env}(I:Nat->List D->Mem->Prop)(hz:ds.length<=sz)(E:∀i acc M,I i acc M->w M=some ds)(y:I 0 [] M)
 (hs:∀i d acc M,ds[i]?=some d->acc.length=i->I i acc M->∃ρ1,b7 v d j=some ρ1/\ae (ge ρ1 M) λx M=>I (i+1) (acc++[x]) M) (hk:∀acc M,acc.length=ds.length->I ds.length acc M->kl acc M) :
 ae (cY (cJ v (bB ge) j) w [] M) kl:=by
 show eX (λi acc M=>acc.length=i/\I i acc M) (λi acc M h=>E i acc M h.2) ⟨rfl,y⟩ ?_ (λacc M h=>hk acc M h.1 h.2);rintro i d acc M hd ⟨hl,B⟩;obtain(ρ1|e|h):=hs i d acc M hd hl B;have hi:i<ds.length:=(RH.mp hd).1;dsimp[cJ,ba,iz,e,GP];show{ρ1,rfl,ay h λx M h=>{`a,by simp[hl],h}}
end
def aG {M:Mem}(j:t Z M=.ok false M)(h:ae (rest Z M) k):ae (aZ (aN t A aF) rest Z M) k:=by
 dsimp[ax,fJ];rw[j];show h
def bx {k:Fl->Mem->Prop}(j:t Z M=.ok true M)(he:e Z M=.ok v M)(h:k (.ret v) M):ae (aZ (aN t #v[aM e] aF) rest Z M) k:=by
 dsimp[ax,fJ,b4];rw[j];change ae (e Z M) _;rw[he];show h
def bC {v:D}(he:e Z M=.ok v M)(h:k (.ret v) M):ae (#v[aM e] Z M) k:=by
 dsimp[ax,b4];rw[he];show h
def cK (e:r=.ok (.ret v) M):ae r (eD λx M'=>x=v/\M'=M):=by rw[e];show⟨rfl,rfl⟩
structure HasB0 (P:Nat->Option Df):Prop where
 is_between:P 0=some {3,3,gX}
 is_word:P 1=some {2,2,jX}
 is_place:P 2=some {2,2,i4}
 is_cost:P 3=some {1,1,jY}
 is_tuple_of:P 4=some {2,2,fX}
 is_table:P 5=some {2,2,i1}
 is_double_table:P 6=some {2,2,d9}
 is_turn:P 7=some {3,6,gx}
 is_join:P 8=some {3,7,gz}
 is_move:P 9=some {3,6,gy}
 is_put:P 10=some {3,6,hZ}
 is_deed:P 11=some {3,5,dU}
 is_machine:P 12=some {1,4,jA}
 need_machine:P 13=some {1,1,fw}
structure HasM0 (P:Nat->Option Df):Prop extends HasB0 P where
 is_deed_number:P 16=some {2,2,pj}
 need_numbers:P 17=some {2,4,rb}
 need_row:P 18=some {2,2,yX}
structure HasM (P:Nat->Option Df):Prop extends HasM0 P where
 turned:P 20=some {2,6,lV}
 joined:P 21=some {2,7,ph}
 moved:P 22=some {2,6,rf}
 put_in:P 23=some {2,6,pf}
 done:P 24=some {2,4,qi}
 all_standing:P 25=some {3,5,rg}
structure HasP0 (P:Nat->Option Df):Prop where
 law_spread:P 28=some {2,6,l4}
 law_open:P 29=some {1,4,kc}
 law_anew:P 30=some {1,1,kg}
 law_take:P 31=some {2,5,og}
structure HasP (P:Nat->Option Df):Prop extends HasP0 P where
 law_tab:P 32=some {2,6,i5}
 law_deed:P 33=some {3,7,ir}
 law_machine:P 34=some {4,8,fy}
instance coeHasB0 {P:Nat->Option Df}:Coe (HasM0 P) (HasB0 P):=⟨HasM0.toHasB0⟩
instance coeHasBM {P:Nat->Option Df}:Coe (HasM P) (HasB0 P):={λh=>h.toHasM0.toHasB0}
structure lY (P:Nat->Option Df):Prop where
 turned:P 20=some {2,6,lV}
 joined:P 21=some {2,7,ph}
 moved:P 22=some {2,6,rf}
 put_in:P 23=some {2,6,pf}
 done:P 24=some {2,4,qi}
def HasM.r {P:Nat->Option Df}(h:HasM P):lY P:=⟨h.turned,h.joined,h.moved,h.put_in,h.done⟩
instance coeHasR0 {P:Nat->Option Df}:Coe (HasM P) (lY P):=⟨HasM.r⟩
instance coeHasM {P:Nat->Option Df}:Coe (HasM P) (HasM0 P):=⟨HasM.toHasM0⟩
instance coeHasP {P:Nat->Option Df}:Coe (HasP P) (HasP0 P):=⟨HasP.toHasP0⟩
@[simp] theorem Ss {d:Option D}{r:Env}:(d::r)[0]?.getD none=d:=rfl
section
variable{M:Mem}{k:D->Mem->Prop}
def kA {j:Type}{c:Prop}[Decidable c]{r:Res j}{k:j->Mem->Prop}:ae (if c then r else .bad) k↔c/\ae r k:=by split<;>simp[*]
@[simp] theorem gZ {m:Bool}{i j:Int}:ae (eM m .add (.int i) (.int j) M) k↔k (.int (i+j)) M:=Tc
@[simp] theorem Af {m:Bool}{i j:Int}:ae (eM m .sub (.int i) (.int j) M) k↔k (.int (i-j)) M:=Tc
@[simp] theorem Sb {m:Bool}{i j:Int}:ae (eM m .mul (.int i) (.int j) M) k↔((-(2^64)<i/\i<2^64)\/(-(2^64)<j/\j<2^64))/\k (.int (i*j)) M:=kA
@[simp] theorem Sd {m:Bool}{i j:Int}:ae (eM m .mod (.int i) (.int j) M) k↔0<j/\k (.int (i % j)) M:=kA
@[simp] theorem RB {m:Bool}{i j:Int}:ae (eM m .fdiv (.int i) (.int j) M) k↔(0<j/\j<1073741824)/\k (.int (i / j)) M:=kA
@[simp] theorem kY {m:Bool}{x y:List D}:ae (eM m .add (.tup x) (.tup y) M) k↔(x++y).length<=sz/\k (.tup (x++y)) M:=by
 change ae (lG _ _) k↔_;unfold lG;show kA
@[simp] theorem BZ {m:Bool}{x y:List D}:ae (eM m .add (.lst x) (.lst y) M) k↔ae (bc m (x++y) M) k:=Tc
@[simp] theorem RC {i j:Int}:bo .lt (.int i) (.int j) M=some (decide (i<j)):=rfl
@[simp] theorem RD {i j:Int}:bo .le (.int i) (.int j) M=some (decide (i<=j)):=rfl
@[simp] theorem RE {i j:Int}:bo .gt (.int i) (.int j) M=some (decide (j<i)):=rfl
@[simp] theorem RF {i j:Int}:bo .ge (.int i) (.int j) M=some (decide (j<=i)):=rfl
@[simp] theorem Sv {i j:Int}:bo .eq (.int i) (.int j) M=some (i==j):=rfl
@[simp] theorem Po {i j:Int}:bo .ne (.int i) (.int j) M=some (!(i==j)):=rfl
@[simp] theorem RL {b:Bool}:j6 M (.bl b)=some b:=rfl
@[simp] theorem Ru {ds:List D}:j6 M (.tup ds)=some (!ds.isEmpty):=rfl
@[simp] theorem Rv {ds:List D}:j6 M (.lst ds)=some (!ds.isEmpty):=rfl
@[simp] theorem IK {ds:List D}:ae (fc .len [.tup ds] M) k↔k (.int ds.length) M:=Tc
@[simp] theorem IL {ds:List D}:ae (fc .len [.lst ds] M) k↔k (.int ds.length) M:=Tc
@[simp] theorem xH {ds:List D}:ae (fc .all [.lst ds] M) k↔∃bs,boolsOf ds=some bs/\k (.bl (bs.all id)) M:=by
 change ae (match boolsOf ds with|some bs=>_|none=>_) k↔_
 cases boolsOf ds<;>simp
@[simp] theorem PL {ds:List D}:ae (fc .tuple [.lst ds] M) k↔k (.tup ds) M:=Tc
@[simp] theorem lj {j:Nat}:ae (fc .tuple [.cell j] M) k↔∃ds,M[j]?=some ds/\k (.tup ds) M:=by
 change ae (match M[j]? with|some xs=>_|none=>_) k↔_
 cases M[j]?<;>simp
@[simp] theorem D1 {m:Bool}{ds:List D}:ae (fc (.list m) [.lst ds] M) k↔ae (bc m ds M) k:=Tc
@[simp] theorem qO {ds:List D}{i:Int}:bZ (.tup ds) (.int i) M=(bX ds.length i).bind λj=>ds[j]?:=rfl
@[simp] theorem IW {ds:List D}{i:Int}:bZ (.lst ds) (.int i) M=(bX ds.length i).bind λj=>ds[j]?:=rfl
@[simp] theorem Q3 {j:Nat}{i:Int}:bZ (.cell j) (.int i) M=(M[j]?).bind λds=>(bX ds.length i).bind λj=>ds[j]?:=rfl
def dj {n i:Nat}(h:i<n):bX n (i:Int)=some i:=by
 unfold bX;rw[if_pos (Int.natCast_nonneg i),if_pos (by exact_mod_cast h)];rfl
end
def aQ {j:Type}{r:Res j}{d:j}{M:Mem}(h:ae r λx M'=>x=d/\M'=M):r=.ok d M:=by
 obtain(a|M'|e|rfl|rfl):=fm.mp h;show e
def aj {r:Res D}{d:D}{M:Mem}(h:ae r λx M'=>x=d/\M'=M):r=.ok d M:=by
 obtain(a|M'|e|rfl|rfl):=fm.mp h;show e
def iD {B:fR}{w:Walk}{ge:GE}{ds:List D}{u:Env}{M:Mem}{y:List D->Mem->Prop}(f:D->D)(hz:ds.length<=sz)(E:w M=some ds)(hs:∀d∈ds,∃ρ1,b7 B d u=some ρ1/\ge ρ1 M=.ok (f d) M)(hk:y (ds.map f) M) :
 ae (cY (cJ B (bB ge) u) w [] M) y:=by
 show comp_map (λi j v=>v=M/\j=(ds.take i).map f) hz (λi j v h=>by rw[h.1];show E) ⟨rfl,rfl⟩ ?_ ?_
 .rintro i d j v hd _ ⟨rfl,rfl⟩;obtain(ρ1|e1|e2):=hs d (Sj hd);show{ρ1,e1,?_};rw[e2];show{rfl,?_};have F:i<ds.length:=(RH.mp hd).1;rw[Tq,hd];simp
 .rintro j v _ ⟨rfl,rfl⟩;simpa using hk
abbrev nD (n:Nat):D:=.int (n:Int)
def aw (l:List Nat):D:=.tup (l.map nD)
inductive a8 where
 |turn (at_:Nat) (tab:List Nat) (cost:Nat)
 |join (at_ other:Nat) (tab:List (List Nat)) (cost:Nat)
 |move (at_ other cost:Nat)
 |put (at_ word cost:Nat)
def a8.d:a8->D
 |.turn a t c=>.tup [.str "turn",nD a,aw t,nD c]
 |.join a o t c=>.tup [.str "join",nD a,nD o,.tup (t.map aw),nD c]
 |.move a o c=>.tup [.str "move",nD a,nD o,nD c]
 |.put a w c=>.tup [.str "put",nD a,nD w,nD c]
noncomputable def a8.cost:a8->Nat
 |.turn _ _ c=>c
 |.join _ _ _ c=>c
 |.move _ _ c=>c
 |.put _ _ c=>c
structure a7 where
 words:Nat
 places:Nat
 deeds:List a8
noncomputable def a7.d (m:a7):D:=.tup [nD m.words,nD m.places,.tup (m.deeds.map a8.d)]
def g4 (w:Nat)(t:List Nat):Prop:=t.length=w/\∀x∈t,x<w
def eh (c:Nat):Prop:=1<=c/\c<=3
def cS (w p:Nat):a8->Prop
 |.turn a t c=>a<p/\g4 w t/\eh c
 |.join a o t c=>a<p/\o<p/\(t.length=w/\∀x∈t,g4 w x)/\eh c
 |.move a o c=>a<p/\o<p/\eh c
 |.put a x c=>a<p/\x<w/\eh c
structure aJ (m:a7):Prop where
 w2:2<=m.words
 w4:m.words<=4
 p1:1<=m.places
 p2:m.places<=2
 d1:1<=m.deeds.length
 d6:m.deeds.length<=6
 ok:∀d∈m.deeds,cS m.words m.places d
def aq {n:Nat}(h:n<=100000):n<=sz:=RU h `d
def QL:cV.lookup (Str.ofString "turn")=some 7:=`k
def QK:cV.lookup (Str.ofString "join")=some 8:=`k
def QJ:cV.lookup (Str.ofString "move")=some 9:=`k
def QI:cV.lookup (Str.ofString "put")=some 10:=`k
section
variable{Z:Env}{M:Mem}{a b:GE}{s:GA}{k:D->Mem->Prop}{kf:Fl->Mem->Prop}{t u:GT}{A rest:GS}
def bf {t rest:GS}{ρ':Env}(e:t Z M=.ok (.next ρ') M)(h:ae (rest ρ' M) kf):ae (aZ t rest Z M) kf:=by
 dsimp[ax];rw[e];show h
def af {x:D}{xs:List D}(ea:a Z M=.ok x M)(es:s Z M=.ok xs M):a9 a s Z M=.ok (x::xs) M:=by
 unfold a9;rw[ea];change(s Z M).bind _=_;rw[es];rfl
def mC {xs:List D}(es:s Z M=.ok xs M)(hl:xs.length<=100):aW false s Z M=.ok (.lst xs) M:=by
 unfold aW;rw[es];change(if xs.length<=sz then(if false=true then _ else Res.ok (D.lst xs) M) else .bad)=_;rw[if_pos (aq `a)]
 rfl
def bQ {i:Nat}{x:D}(e:a Z M=.ok x M):av (.one i) a Z M=.ok (.next (Z.set i (some x))) M:=by
 unfold av;rw[e];rfl
def au {j:Nat}{x:D}(h:Z[j]?.getD none=some x):aa j Z M=.ok x M:=by
 unfold aa;rw[h];rfl
def aV {f:Nat}{c:Call}{xs:List D}(e:s Z M=.ok xs M):ah f c s Z M=c f xs M:=by
 unfold ah;rw[e];rfl
def lT {f i:Nat}{c:Call}{x:D}{r:Res D}(h:Z[i]?.getD none=some x)(e:c f [x] M=r):ah f c #[aa i] Z M=r:=(aV (af (au h) rfl)).trans e
def i0 {f i j:Nat}{c:Call}{x y:D}{r:Res D}(h:Z[i]?.getD none=some x)(h2:Z[j]?.getD none=some y)(e:c f [x,y] M=r):ah f c #[aa i,aa j] Z M=r:=(aV (af (au h) (af (au h2) rfl))).trans e
def bP {i:Nat}(h:ae (a Z M) k)(hk:∀x M',k x M'->ae (rest (Z.set i (some x)) M') kf):ae (aZ (av (.one i) a) rest Z M) kf:=by
 obtain(x|M'|e|q):=fm.mp h;dsimp[ax];unfold av;rw[e];show hk x M' q
def iA (j:t Z M=.ok true M)(h:ae (A Z M) (gF rest kf)):ae (aZ (aN t A aF) rest Z M) kf:=by
 dsimp[ax,fJ];rw[j];show h
def bL {b:Bool}(h:t Z M=.ok b M)(h1:b=true->ae (A Z M) (gF rest kf))(h2:b=false->ae (rest Z M) kf):ae (aZ (aN t A aF) rest Z M) kf:=by
 cases b with
 |true=>show iA h (h1 rfl)
 |false=>show aG h (h2 rfl)
def bH {b:Bool}(h:t Z M=.ok b M):bO t Z M=.ok (!b) M:=by
 unfold bO;rw[h];rfl
def bE {b:Bool}(h:a Z M=.ok (.bl b) M):ai a Z M=.ok b M:=by
 unfold ai;rw[h];rfl
def yi {x y:Bool}(h1:t Z M=.ok x M)(h2:u Z M=.ok y M):c4 t u Z M=.ok (x||y) M:=by
 unfold c4;rw[h1];cases x with
 |true=>rfl
 |false=>show h2
def BY {b:Bool}(h1:t Z M=.ok b M)(h2:b=true->u Z M=.ok false M):dF t u Z M=.ok false M:=by
 unfold dF;rw[h1];cases b with
 |true=>show h2 rfl
 |false=>rfl
def kU {x y:Bool}(h1:t Z M=.ok x M)(h2:u Z M=.ok y M):dF t u Z M=.ok (x&&y) M:=by
 unfold dF;rw[h1];cases x with
 |true=>show h2
 |false=>rfl
def ff {x y:Bool}(h1:a Z M=.ok (.bl x) M)(h2:x=true->b Z M=.ok (.bl y) M):dH a b Z M=.ok (.bl (x&&y)) M:=by
 unfold dH;rw[h1];cases x with
 |true=>show h2 rfl
 |false=>rfl
def je {k:Bool}{x:D}(h:t Z M=.ok k M)(h1:k=true->a Z M=.ok x M)(h2:k=false->b Z M=.ok x M):gg t a b Z M=.ok x M:=by
 unfold gg;rw[h];cases k with
 |true=>show h1 rfl
 |false=>show h2 rfl
def gP {j:Nat}{ds:List D}(e:Z[j]?.getD none=some (.tup ds)):aK .len #[aa j] Z M=.ok (nD ds.length) M:=by
 unfold aK;rw[af (au e) rfl];rfl
def OE {i j:Int}(h1:a Z M=.ok (.int i) M)(h2:b Z M=.ok (.int j) M):ai (aA .ne a b) Z M=.ok (!(i==j)) M:=by
 show bE ?_;unfold aA;rw[h1];change(b Z M).bind _=_;rw[h2];rfl
def va {l h i:Int}{c:GE}(h1:a Z M=.ok (.int l) M)(h2:b Z M=.ok (.int i) M)(h3:c Z M=.ok (.int h) M):jw .le .le a b c Z M=.ok (.bl (decide (l<=i)&&decide (i<=h))) M:=by
 unfold jw;rw[h1];change(b Z M).bind _=_;rw[h2];change(if decide (l<=i)=true then _ else _)=_;cases decide (l<=i) with
 | true=>
   change(c Z M).bind _=_;rw[h3];rfl
 |false=>rfl
end
noncomputable def Th:Nat->Nat->D->Prop
 |_,_,.non=>True
 |_,_,.bl _=>True
 |_,_,.int _=>True
 |_,L,.str x=>x.cps.size<=L/\x.cps.all (· < 0x110000)=true
 |n+1,L,.tup j=>j.length<=L/\∀d∈j,Th n L d
 |n+1,L,.lst j=>j.length<=L/\∀d∈j,Th n L d
 |_,_,_=>False
theorem Th.mono:∀{n n' L j:Nat}{d:D},Th n L d->n<=n'->L<=j->Th n' j d
 |n,n',L,j,.non,_,_,_=>by cases n'<;>trivial
 |n,n',L,j,.bl _,_,_,_=>by cases n'<;>trivial
 |n,n',L,j,.int _,_,_,_=>by cases n'<;>trivial
 | n,n',L,j,.str x,h,_,l=>by
   have h:x.cps.size<=L/\x.cps.all (· < 0x110000)=true:=by cases n<;>show h
   have:x.cps.size<=j/\x.cps.all (· < 0x110000)=true:={RU h.1 l,h.2};cases n'<;>show this
 |n+1,n'+1,L,j,.tup B,h,a,l=>{RU h.1 l,λd hd=>Th.mono (h.2 d hd) (Nat.le_of_succ_le_succ a) l}
 |n+1,n'+1,L,j,.lst B,h,a,l=>{RU h.1 l,λd hd=>Th.mono (h.2 d hd) (Nat.le_of_succ_le_succ a) l}
 |n+1,0,L,j,.tup B,h,a,l=>`a
 |n+1,0,L,j,.lst B,h,a,l=>`a
 |0,n',L,j,.tup B,h,a,l=>h.elim
 |0,n',L,j,.lst B,h,a,l=>h.elim
 |n,n',L,j,.frz _,h,_,_=>by cases n<;>show h.elim
 |n,n',L,j,.cell _,h,_,_=>by cases n<;>show h.elim
 |n,n',L,j,.fn _,h,_,_=>by cases n<;>show h.elim
 |n,n',L,j,.exc _ _,h,_,_=>by cases n<;>show h.elim
def Th.pure:∀{n L:Nat}{d:D},Th n L d->aC n d=true
 |n,L,.non,_=>by cases n<;>rfl
 |n,L,.bl _,_=>by cases n<;>rfl
 |n,L,.int _,_=>by cases n<;>rfl
 |n,L,.str x,h=>by cases n<;>show h.2
 | n+1,L,.tup j,h=>by
   change j.all (aC n)=true;rw[R4];show λd hd=>(h.2 d hd).pure
 | n+1,L,.lst j,h=>by
   change j.all (aC n)=true;rw[R4];show λd hd=>(h.2 d hd).pure
 |0,L,.tup j,h=>h.elim
 |0,L,.lst j,h=>h.elim
 |n,L,.frz _,h=>by cases n<;>show h.elim
 |n,L,.cell _,h=>by cases n<;>show h.elim
 |n,L,.fn _,h=>by cases n<;>show h.elim
 |n,L,.exc _ _,h=>by cases n<;>show h.elim
def Th.view (h:Th n L d):view M d=d:=by
 cases d<;>first|rfl|(cases n<;>show h.elim)
def Th.tup (h:Th n L (.tup ds)):ds.length<=L/\∀d∈ds,Th n L d:=by
 cases n with
 |zero=>show h.elim
 |succ n=>show{h.1,λd hd=>(h.2 d hd).mono (Nat.le_succ n) (RN L)}
noncomputable def bq (lo hi:Int):D->Bool
 |.int i=>decide (lo<=i)&&decide (i<=hi)
 |_=>false
noncomputable def dE (w:Nat):D->Bool
 |.tup j=>j.length==w
 |_=>false
noncomputable def iI (w:Nat):D->Bool
 |.tup j=>j.length==w&&j.all (bq 0 ((w:Int)-1))
 |_=>false
noncomputable def jS (w:Nat):D->Bool
 |.tup j=>j.length==w&&j.all (iI w)
 |_=>false
def jF (w p:Nat):List D->Bool
 |[a,t,c]=>bq 0 ((p:Int)-1) a&&(iI w t&&bq 1 3 c)
 |_=>false
def ij (w p:Nat):List D->Bool
 |[a,o,t,c]=>bq 0 ((p:Int)-1) a&&(bq 0 ((p:Int)-1) o&&(jS w t&&bq 1 3 c))
 |_=>false
def iU (w p:Nat):List D->Bool
 |[a,o,c]=>bq 0 ((p:Int)-1) a&&(bq 0 ((p:Int)-1) o&&bq 1 3 c)
 |_=>false
def mw (w p:Nat):List D->Bool
 |[a,x,c]=>bq 0 ((p:Int)-1) a&&(bq 0 ((w:Int)-1) x&&bq 1 3 c)
 |_=>false
def cv (w p:Nat)(s:Str)(ds:List D):Bool:=
 if s="turn" then jF w p ds else if s="join" then ij w p ds else if s="move" then iU w p ds else if s="put" then mw w p ds else false
def gW (w p:Nat):D->Bool
 |.tup (.str s::ds)=>cv w p s ds
 |_=>false
noncomputable def iK:D->Bool
 |.tup j=>decide (1<=j.length)&&decide (j.length<=6)
 |_=>false
noncomputable def pS:D->List D
 |.tup j=>j
 |_=>[]
noncomputable def eZ:D->Nat
 |.int i=>i.toNat
 |_=>0
def nR (h:bq lo hi d=true)(j:0<=lo):d=nD (eZ d)/\lo<=(eZ d:Int)/\(eZ d:Int)<=hi:=by
 cases d with
 | int i=>
   simp[bq] at h;show{?_,?_}
   .show D.int i=D.int ((i.toNat:Nat):Int);rw[Int.toNat_of_nonneg `a]
   .show lo<=((i.toNat:Nat):Int)/\((i.toNat:Nat):Int)<=hi;rw[Int.toNat_of_nonneg `a]
    show h
 |_=>cases h
def gM:D->Bool
 |.tup [a,b,c]=>bq 2 4 a&&(bq 1 2 b&&(iK c&&(pS c).all (gW (eZ a) (eZ b))))
 |_=>false
def uH (h:dE 3 d=false):gM d=false:=by
 match d,h with
 |.tup [a,b,c],h=>cases h
 |.tup [],_=>rfl
 |.tup [_],_=>rfl
 |.tup [_,_],_=>rfl
 |.tup (_::_::_::_::r),_=>rfl
 |.non,_=>rfl
 |.bl _,_=>rfl
 |.int _,_=>rfl
 |.str _,_=>rfl
 |.lst _,_=>rfl
 |.frz _,_=>rfl
 |.cell _,_=>rfl
 |.fn _,_=>rfl
 |.exc _ _,_=>rfl
def LZ:∀{b:Bool},(!b)=true->b=false:=`d
def L1:∀{b:Bool},(!b)=false->b=true:=`d
section
variable{Z:Env}{M:Mem}{a b:GE}{t u:GT}{x y:D}{v:Bool}
def lF (h:t Z M=.ok true M):c4 t u Z M=.ok true M:=by unfold c4;rw[h];rfl
def fS (h:t Z M=.ok false M)(h2:u Z M=.ok v M):c4 t u Z M=.ok v M:=by unfold c4;rw[h];show h2
def xA (h1:a Z M=.ok x M)(h2:b Z M=.ok y M)(h3:bo o x y M=some v):aA o a b Z M=.ok (.bl v) M:=by
 unfold aA;rw[h1];change(b Z M).bind _=_;rw[h2];change(cj M (bo o x y M)).bind _=_;rw[h3];rfl
def qN {t:Ty}(h1:a Z M=.ok x M)(h2:cM t x=some v):cF t a Z M=.ok (.bl v) M:=by
 unfold cF;rw[h1];change(cj M (cM t x)).bind _=_;rw[h2];rfl
end
def Ow:∀{x y:Bool},(!x||!y)=true->(x&&y)=false:=`d
def LW:∀{x y:Bool},(!x||!y)=false->x=true/\y=true:=`d
def yF {Z:Env}{M:Mem}{j:Nat}{x:D}{ds:List D}(h:Z[j]?.getD none=some (.tup (x::ds))):ao (aa j) (gI 0) Z M=.ok x M:=by
 unfold ao;rw[au h];change cj M ((bX (ds.length+1) 0).bind λj=>(x::ds)[j]?)=_;rw[show bX (ds.length+1) 0=some 0 by simp[bX]]
 rfl
def N3 (h:Z[j]?.getD none=some (.tup (x::ds))):cw false true false (aa j) (gI 1) gN Z M=.ok (.tup ds) M:=by
 show aj (gU.mpr (aU.mpr {_,h,?_}));simp[eA,aL,cq,cut]
def xp {a:GE}{Z:Env}{M:Mem}{fs:List (Str×Nat)}{s:Str}{b:Bool}(h:a Z M=.ok (.str s) M)(e:(!(fs.lookup s).isSome)=b):iX fs a Z M=.ok (.bl b) M:=by
 subst e;unfold iX;rw[h];rfl
structure zh (P:Nat->Option Df):Prop where
 is_between:P 0=some {3,3,gX}
 is_word:P 1=some {2,2,jX}
 is_place:P 2=some {2,2,i4}
 is_cost:P 3=some {1,1,jY}
 is_tuple_of:P 4=some {2,2,fX}
 is_table:P 5=some {2,2,i1}
 is_double_table:P 6=some {2,2,d9}
 is_turn:P 7=some {3,6,gx}
 is_join:P 8=some {3,7,gz}
 is_move:P 9=some {3,6,gy}
 is_put:P 10=some {3,6,hZ}
 is_deed:P 11=some {3,5,dU}
 is_machine:P 12=some {1,4,jA}
noncomputable def n9 (f:D->Bool):∀ds:List D,boolsOf (ds.map λd=>.bl (f d))=some (ds.map f)
 |[]=>rfl
 |d::r=>by simp[boolsOf,n9 f r]
def all_eq {w:GW}{ge:GE}{Z:Env}{M:Mem}{ds:List D}(f:D->Bool)(j:ae (w Z M) λwk M'=>M'=M/\wk M=some ds)(hz:ds.length<=sz)(he:∀d∈ds,ge (some d::Z) M=.ok (.bl (f d)) M) :
 aK .all #[bp false 1 (.one 0) w (bB ge)] Z M=.ok (.bl (ds.all f)) M:=by
 show aj ?_;dsimp[cu,bA,dQ,bV];show ay j ?_;rintro wk M' ⟨e1,e2⟩;subst e1;show iD (λd=>.bl (f d)) hz e2 (λd hd=>{some d::Z,rfl,he d hd}) ?_;dsimp[bT,RK,xH];show{hz,_,n9 f ds,?_,trivial}
 congr 1
 rw[List.all_map];rfl
def oU (j:Th k L x)(h:((¬ ∃s,x=.str s)/\t=.str\/(¬ ∃s,x=.tup s)/\t=.tuple)):cM t x=some false:=by
 rcases h with⟨h,rfl⟩|⟨h,rfl⟩<;>cases x<;>first|rfl|show absurd {_,rfl} h|(cases k<;>show j.elim)
section
variable{P:Nat->Option Df}(h:zh P){M:Mem}{k L:Nat}{d:D}
include h
theorem km (n:Nat)(hd:Th k L d)(lo hi:Int):ag P (n+1) 0 [d,.int lo,.int hi] M=.ok (.bl (bq lo hi d)) M:=by
 cases d with
 | int t=>
   show aj (aE h.is_between rfl ?_);simp[gX,cM,bq];by_cases h1:lo<=t<;>simp[h1]<;>omega
 |fn j=>cases k<;>show hd.elim
 |exc y p=>cases k<;>show hd.elim
 |_=>show aj (aE h.is_between rfl (cK rfl))
theorem oy (n:Nat){w:Nat}(hd:Th k L d):ag P (n+2) 1 [nD w,d] M=.ok (.bl (bq 0 ((w:Int)-1) d)) M:=by
 show aj (aE h.is_word rfl ?_);simp[jX,km h _ hd]
theorem gn (n:Nat){w:Nat}(hd:Th k L d):ag P (n+2) 2 [nD w,d] M=.ok (.bl (bq 0 ((w:Int)-1) d)) M:=by
 show aj (aE h.is_place rfl ?_);simp[i4,km h _ hd]
theorem lr (n:Nat)(hd:Th k L d):ag P (n+2) 3 [d] M=.ok (.bl (bq 1 3 d)) M:=by
 show aj (aE h.is_cost rfl ?_);simp[jY,km h _ hd]
theorem ja (n:Nat)(hd:Th k L d):ag P (n+1) 4 [nD w,d] M=.ok (.bl (dE w d)) M:=by
 show aj (aE h.is_tuple_of rfl ?_);cases d with
 |fn j=>cases k<;>show hd.elim
 |exc y p=>cases k<;>show hd.elim
 | tup B=>
   simp[fX,cM,dE];by_cases e:B.length=w
   .simp[e]
   .have:¬ ((B.length:Int)=(w:Int)):=`a
    simp[e,this]
 |_=>show cK rfl
theorem we (n:Nat){w:Nat}(hd:Th k L d)(F:L<=100):ag P (n+3) 5 [nD w,d] M=.ok (.bl (iI w d)) M:=by
 show aj (aE h.is_table rfl ?_);have e:=ja h (n+1) (w:=w) (M:=M) hd;dsimp[i1,ax,b4,Gz,fO,bA,bV,aU,S3,List.map_nil,List.cons_append,T2,SG,SH,S2,Tb,exists_eq_left'];rw[e];show{_,rfl,?_};cases d with
 | tup B=>
   have E:=hd.tup;by_cases j:B.length=w
   .have:dE w (.tup B)=true:=by simp[dE,j]
    rw[this,if_pos rfl,all_eq (bq 0 ((w:Int)-1)) (by simp;show⟨rfl,rfl⟩) (aq `a) (λd hd=>aj (by simp[oy h n (E.2 d hd)]))]
    show{by simp[iI,j],rfl}
   .have:dE w (.tup B)=false:=by simp[dE,j]
    rw[this,if_neg `s]
    show{by simp[iI,j],rfl}
 |_=>show⟨rfl,rfl⟩
theorem C3 (n:Nat){w:Nat}(hd:Th k L d)(E:L<=100):ag P (n+4) 6 [nD w,d] M=.ok (.bl (jS w d)) M:=by
 show aj (aE h.is_double_table rfl ?_);have e:=ja h (n+2) (w:=w) (M:=M) hd;dsimp[d9,ax,b4,Gz,fO,bA,bV,aU,S3,List.map_nil,List.cons_append,T2,SG,SH,S2,Tb,exists_eq_left'];rw[e];show{_,rfl,?_};cases d with
 | tup B=>
   have F:=hd.tup;by_cases j:B.length=w
   .have:dE w (.tup B)=true:=by simp[dE,j]
    rw[this,if_pos rfl,all_eq (iI w) (by simp;show⟨rfl,rfl⟩) (aq `a) (λd hd=>aj (by simp[we h n (F.2 d hd) E]))]
    show{by simp[jS,j],rfl}
   .have:dE w (.tup B)=false:=by simp[dE,j]
    rw[this,if_neg `s]
    show{by simp[jS,j],rfl}
 |_=>show⟨rfl,rfl⟩
omit h in
theorem p6 {j c:Nat}{ds:List D}{Z:Env}(e:Z[j]?.getD none=some (.tup ds))(B:ds.length≠c):(ai (aA .ne (aK .len #[aa j]) (gC (.int (c:Int)))):GT) Z M=.ok true M:=by
 rw[OE (gP e) rfl,Sw.mpr `a]
 rfl
theorem CT (n:Nat){w p:Nat}{ds:List D}(hd:∀d∈ds,Th k L d)(j:L<=100)(hl:ds.length<=100):ag P (n+4) 7 [nD w,nD p,.tup ds] M=.ok (.bl (jF w p ds)) M:=by
 show aj (aE h.is_turn rfl ?_)
 match ds,hd,hl with
 | [a,t,c],hd,_=>
   change ae (gx (ag P (n+3)) [some (nD w),some (nD p),some (.tup [a,t,c]),none,none,none] M) _;unfold gx;show aG rfl (bf rfl ?_);change ae _ _;show bC (ff (i0 rfl rfl (gn h (n+1) (hd a (.head _)))) λ_=>ff (i0 rfl rfl (we h n (hd t (.tail _ (.head _))) j)) λ_=>lT rfl (lr h (n+1) (hd c (.tail _ (.tail _ (.head _)))))) ⟨rfl,rfl⟩
 |[],_,_=>show cK rfl
 |[_],_,_=>show cK rfl
 |[_,_],_,_=>show cK rfl
 | a::b::c::d::r,_,_=>
   change ae (gx (ag P (n+3)) [some (nD w),some (nD p),some (.tup (a::b::c::d::r)),none,none,none] M) _;show bx (p6 rfl (λz=>by simp at z)) rfl ⟨rfl,rfl⟩
theorem C0 (n:Nat){w p:Nat}{ds:List D}(hd:∀d∈ds,Th k L d)(B:L<=100)(hl:ds.length<=100):ag P (n+5) 8 [nD w,nD p,.tup ds] M=.ok (.bl (ij w p ds)) M:=by
 show aj (aE h.is_join rfl ?_)
 match ds,hd,hl with
 | [a,o,t,c],hd,_=>
   change ae (gz (ag P (n+4)) [some (nD w),some (nD p),some (.tup [a,o,t,c]),none,none,none,none] M) _;unfold gz;show aG rfl (bf rfl ?_);show bL (yi (bH (bE (i0 rfl rfl (gn h (n+2) (hd a (.head _)))))) (bH (bE (i0 rfl rfl (gn h (n+2) (hd o (.tail _ (.head _)))))))) (λe=>?_) λe=>?_
   .refine bC rfl {?_,rfl};change D.bl false=.bl (_&&(_&&_));cases q:bq 0 ((p:Int)-1) a with
    |false=>rfl
    | true=>
      rw[q] at e;cases j:bq 0 ((p:Int)-1) o with
      |false=>rfl
      |true=>rw[j] at e;cases e
   .refine bC (ff (i0 rfl rfl (C3 h n (hd t (.tail _ (.tail _ (.head _)))) B)) λ_=>lT rfl (lr h (n+2) (hd c (.tail _ (.tail _ (.tail _ (.head _))))))) {?_,rfl};change _=D.bl (bq 0 ((p:Int)-1) a&&(bq 0 ((p:Int)-1) o&&_));cases q:bq 0 ((p:Int)-1) a with
    |false=>rw[q] at e;cases e
    | true=>
      rw[q] at e;cases j:bq 0 ((p:Int)-1) o with
      |false=>rw[j] at e;cases e
      |true=>rfl
 |[],_,_=>show cK rfl
 |[_],_,_=>show cK rfl
 |[_,_],_,_=>show cK rfl
 |[_,_,_],_,_=>show cK rfl
 | a::b::c::d::e::r,_,_=>
   change ae (gz (ag P (n+4)) [some (nD w),some (nD p),some (.tup (a::b::c::d::e::r)),none,none,none,none] M) _;show bx (p6 rfl (λz=>by simp at z)) rfl ⟨rfl,rfl⟩
theorem CV (n:Nat){w p:Nat}{ds:List D}(hd:∀d∈ds,Th k L d)(j:L<=100)(hl:ds.length<=100):ag P (n+3) 9 [nD w,nD p,.tup ds] M=.ok (.bl (iU w p ds)) M:=by
 show aj (aE h.is_move rfl ?_)
 match ds,hd,hl with
 | [a,t,c],hd,_=>
   change ae (gy (ag P (n+2)) [some (nD w),some (nD p),some (.tup [a,t,c]),none,none,none] M) _;unfold gy;show aG rfl (bf rfl ?_);change ae _ _;show bC (ff (i0 rfl rfl (gn h n (hd a (.head _)))) λ_=>ff (i0 rfl rfl (gn h n (hd t (.tail _ (.head _))))) λ_=>lT rfl (lr h n (hd c (.tail _ (.tail _ (.head _)))))) ⟨rfl,rfl⟩
 |[],_,_=>show cK rfl
 |[_],_,_=>show cK rfl
 |[_,_],_,_=>show cK rfl
 | a::b::c::d::r,_,_=>
   change ae (gy (ag P (n+2)) [some (nD w),some (nD p),some (.tup (a::b::c::d::r)),none,none,none] M) _;show bx (p6 rfl (λz=>by simp at z)) rfl ⟨rfl,rfl⟩
theorem Hy (n:Nat){w p:Nat}{ds:List D}(hd:∀d∈ds,Th k L d)(j:L<=100)(hl:ds.length<=100):ag P (n+3) 10 [nD w,nD p,.tup ds] M=.ok (.bl (mw w p ds)) M:=by
 show aj (aE h.is_put rfl ?_)
 match ds,hd,hl with
 | [a,t,c],hd,_=>
   change ae (hZ (ag P (n+2)) [some (nD w),some (nD p),some (.tup [a,t,c]),none,none,none] M) _;unfold hZ;show aG rfl (bf rfl ?_);change ae _ _;show bC (ff (i0 rfl rfl (gn h n (hd a (.head _)))) λ_=>ff (i0 rfl rfl (oy h n (hd t (.tail _ (.head _))))) λ_=>lT rfl (lr h n (hd c (.tail _ (.tail _ (.head _)))))) ⟨rfl,rfl⟩
 |[],_,_=>show cK rfl
 |[_],_,_=>show cK rfl
 |[_,_],_,_=>show cK rfl
 | a::b::c::d::r,_,_=>
   change ae (hZ (ag P (n+2)) [some (nD w),some (nD p),some (.tup (a::b::c::d::r)),none,none,none] M) _;show bx (p6 rfl (λz=>by simp at z)) rfl ⟨rfl,rfl⟩
omit h in
theorem pL:cv w p "turn" ds=jF w p ds:=by unfold cv;rw[if_pos rfl]
omit h in
theorem pK:cv w p "join" ds=ij w p ds:=by unfold cv;rw[if_neg `k,if_pos rfl]
omit h in
theorem pJ:cv w p "move" ds=iU w p ds:=by unfold cv;rw[if_neg `k,if_neg `k,if_pos rfl]
omit h in
theorem pI:cv w p "put" ds=mw w p ds:=by unfold cv;rw[if_neg `k,if_neg `k,if_neg `k,if_pos rfl]
omit h in
theorem AM {w p:Nat}{ds:List D}{s:Str}(e1:¬ s="turn")(e2:¬ s="join")(j:¬ s="move")(B:¬ s="put"):cv w p s ds=false:=by unfold cv;rw[if_neg e1,if_neg e2,if_neg j,if_neg B]
omit h in
theorem xX {s:Str}(e1:¬ s="turn")(e2:¬ s="join")(j:¬ s="move")(B:¬ s="put"):cV.lookup s=none:=by
 unfold cV;dsimp[List.lookup,Sw.mpr e1,Sw.mpr e2,Sw.mpr j,Sw.mpr B]
theorem nM (n:Nat){w p f:Nat}{s:Str}{ds:List D}{v:Bool}(lk:cV.lookup s=some f)(q:ag P (n+5) f [nD w,nD p,.tup ds] M=.ok (.bl v) M):ag P (n+6) 11 [nD w,nD p,.tup (.str s::ds)] M=.ok (.bl v) M:=by
 show aj (aE h.is_deed rfl ?_);change ae (dU (ag P (n+5)) [some (nD w),some (nD p),some (.tup (.str s::ds)),none,none] M) _;unfold dU;show aG (fS (bH (b:=true) rfl) (bH (b:=true) rfl)) (bf (bQ (yF rfl)) ?_);show aG (fS (bH (b:=true) rfl) (bE (xp rfl (by rw[lk];rfl)))) (ax.mpr (fL.mpr (Bx.mpr (aU.mpr {_,rfl,_,_,rfl,lk,?_}))))
 show ax.mpr (b4.mpr (xo.mpr {f,rfl,?_}));rw[af (x:=nD w) (au rfl) (af (x:=nD p) (au rfl) (af (N3 rfl) rfl)),bW,q];show⟨rfl,rfl⟩
theorem EF (n:Nat){w p:Nat}{s:Str}{ds:List D}(lk:cV.lookup s=none):ag P (n+6) 11 [nD w,nD p,.tup (.str s::ds)] M=.ok (.bl false) M:=by
 show aj (aE h.is_deed rfl ?_);change ae (dU (ag P (n+5)) [some (nD w),some (nD p),some (.tup (.str s::ds)),none,none] M) _;unfold dU;show aG (fS (bH (b:=true) rfl) (bH (b:=true) rfl)) (bf (bQ (yF rfl)) (bx (fS (bH (b:=true) rfl) (bE (xp rfl (by rw[lk];rfl)))) rfl ⟨rfl,rfl⟩))
theorem C5 (n:Nat){w p:Nat}(hd:Th k L d)(F:L<=100):ag P (n+6) 11 [nD w,nD p,d] M=.ok (.bl (gW w p d)) M:=by
 cases d with
 |fn j=>cases k<;>show hd.elim
 |exc y p=>cases k<;>show hd.elim
 | tup xs=>
   have J:=hd.tup;cases xs with
   |nil=>show aj (aE h.is_deed rfl (cK rfl))
   | cons x E=>
     have O:=J.2 x RY;have B:=λd hd=>J.2 d (RP _ hd);have hl:E.length<=100:=by have:=J.1;simp at this;omega
     by_cases hs:∃s,x=.str s
     .obtain(s|rfl):=hs;change _=Res.ok (D.bl (cv w p s E)) M;by_cases e1:s="turn"
      .subst e1;rw[pL];show nM h n QL (CT h (n+1) B F hl)
      by_cases e2:s="join"
      .subst e2;rw[pK];show nM h n QK (C0 h n B F hl)
      by_cases H:s="move"
      .subst H;rw[pJ];show nM h n QJ (CV h (n+2) B F hl)
      by_cases I:s="put"
      .subst I;rw[pI];show nM h n QI (Hy h (n+2) B F hl)
      rw[AM e1 e2 H I];show EF h n (xX e1 e2 H I)
     .have e1:gW w p (.tup (x::E))=false:=by cases x<;>first|rfl|show absurd {_,rfl} hs
      have e2:=oU O (.inl ⟨hs,rfl⟩);rw[e1];show aj (aE h.is_deed rfl ?_);change ae (dU (ag P (n+5)) [some (nD w),some (nD p),some (.tup (x::E)),none,none] M) _;unfold dU;show aG (fS (bH (b:=true) rfl) (bH (b:=true) rfl)) (bf (bQ (yF rfl)) (bx (lF (bH (b:=false) (bE (qN (au rfl) e2)))) rfl ⟨rfl,rfl⟩))
 |_=>show aj (aE h.is_deed rfl (cK rfl))
theorem DY (n:Nat)(hd:Th k L d)(hn:dE 3 d=false):ag P (n+7) 12 [d] M=.ok (.bl false) M:=by
 have e:ag P (n+6) 4 [nD 3,d] M=.ok (.bl (dE 3 d)) M:=ja h (n+5) hd;rw[hn] at e;show aj (aE h.is_machine rfl (bx (bH (b:=false) (bE ((aV (af rfl (af (au rfl) rfl))).trans e))) rfl ⟨rfl,rfl⟩))
theorem OI (n:Nat){a b c:D}(hd:Th k L (.tup [a,b,c]))(Q:L<=100):ag P (n+7) 12 [.tup [a,b,c]] M=.ok (.bl (gM (.tup [a,b,c]))) M:=by
 show aj (aE h.is_machine rfl ?_);have E:=hd.tup.2;have B:=E c (RP _ (RP _ RY));have e:ag P (n+6) 4 [nD 3,.tup [a,b,c]] M=.ok (.bl true) M:=ja h (n+5) hd;have b1:=km h (n+5) (M:=M) (E a RY) 2 4;have b2:=km h (n+5) (M:=M) (E b (RP _ RY)) 1 2;change ae _ (eD λx I=>x=.bl (bq 2 4 a&&(bq 1 2 b&&(iK c&&(pS c).all (gW (eZ a) (eZ b)))))/\I=M);show aG (bH (b:=true) (bE ((aV (af rfl (af (au rfl) rfl))).trans e))) (bf rfl ?_);change ae (aZ _ _ [some (.tup [a,b,c]),some a,some b,some c] M) _;show bL (yi (bH (bE ((aV (af (au rfl) (af rfl (af rfl rfl)))).trans b1))) (bH (bE ((aV (af (au rfl) (af rfl (af rfl rfl)))).trans b2)))) (λz=>?_) (λz=>?_)
 .refine bC rfl {?_,rfl};rw[<- Bool.and_assoc,Ow z];rfl
 obtain(F|H):=LW z;rw[F,H];obtain(ea|_|_):=nR F `d
 obtain(J|_|_):=nR H `d
 by_cases j:∃ds,c=.tup ds
 .obtain(ds|rfl):=j;have R:=B.tup;have O:(decide ((1:Int)<=(ds.length:Int))&&decide ((ds.length:Int)<=6))=iK (.tup ds):=by
   change _=(decide (1<=ds.length)&&decide (ds.length<=6));rw[decide_eq_decide.mpr (show(1:Int)<=(ds.length:Int)↔1<=ds.length by omega),decide_eq_decide.mpr (show(ds.length:Int)<=6↔ds.length<=6 by omega)]
  have S:bO (ai (jw .le .le (gI 1) (aK .len #[aa 3]) (gI 6))) [some (.tup [a,b,.tup ds]),some a,some b,some (.tup ds)] M=.ok (!iK (.tup ds)) M:=by
   rw[<- O];show bH (bE (va (i:=(ds.length:Int)) rfl (gP rfl) rfl))
  show bL (fS (bH (b:=true) rfl) S) (λz=>?_) (λz=>?_)
  .rw[LZ z];show bC rfl ⟨rfl,rfl⟩
  .rw[L1 z];show bC (all_eq (gW (eZ a) (eZ b)) (ds:=ds) (gE.mpr (aU.mpr {_,rfl,rfl,rfl,rfl})) (aq `a) (λd hd=>?_)) ⟨rfl,rfl⟩
   have q:=C5 h n (w:=eZ a) (p:=eZ b) (M:=M) (R.2 d hd) Q;rw[<- ea,<- J] at q;show(aV (af (au rfl) (af (au rfl) (af (au rfl) rfl)))).trans q
 .rw[show iK c=false by cases c<;>first|rfl|show absurd {_,rfl} j]
  show bx (lF (bH (b:=false) (bE (qN (au rfl) (oU B (.inr ⟨j,rfl⟩)))))) rfl ⟨rfl,rfl⟩
theorem tW (n:Nat)(hd:Th k L d)(j:L<=100):ag P (n+7) 12 [d] M=.ok (.bl (gM d)) M:=by
 by_cases hn:dE 3 d=false
 .rw[DY h n hd hn,uH hn]
 .match d,hd,hn with
  |.tup [a,b,c],hd,_=>show OI h n hd j
  |.tup [],_,hn=>show absurd rfl hn
  |.tup [_],_,hn=>show absurd rfl hn
  |.tup [_,_],_,hn=>show absurd rfl hn
  |.tup (_::_::_::_::r),_,hn=>show absurd (by simp[dE]) hn
  |.non,_,hn=>show absurd rfl hn
  |.bl _,_,hn=>show absurd rfl hn
  |.int _,_,hn=>show absurd rfl hn
  |.str _,_,hn=>show absurd rfl hn
  |.lst _,_,hn=>show absurd rfl hn
  |.frz _,_,hn=>show absurd rfl hn
  |.cell _,_,hn=>show absurd rfl hn
  |.fn _,_,hn=>show absurd rfl hn
  |.exc _ _,_,hn=>show absurd rfl hn
omit h in
theorem dh {lo hi:Int}{n:Nat}(h1:lo<=(n:Int))(h2:(n:Int)<=hi):bq lo hi (nD n)=true:=by simp[bq];omega
omit h in
theorem tN {w:Nat}{t:List Nat}(j:g4 w t):iI w (aw t)=true:=by
 have e:(t.map nD).all (bq 0 ((w:Int)-1))=true:=by
  rw[R4];intro x E;obtain(i|B|rfl):=R5.mp E;have:=j.2 i B;show dh `a `a
 change((t.map nD).length==w&&(t.map nD).all (bq 0 ((w:Int)-1)))=true;rw[e,RK,j.1];simp
omit h in
theorem BA {w p:Nat}{d:a8}(hd:cS w p d):gW w p d.d=true:=by
 cases d with
 | turn a t c=>
   obtain(h1|h2|h3):=hd;unfold eh at h3;change cv w p "turn" _=true;rw[pL];dsimp[jF];rw[dh `a `a,tN h2,dh `a `a];rfl
 | join a o t c=>
   obtain(h1|h2|h3|h4):=hd;unfold eh at h4;change cv w p "join" _=true;rw[pK];dsimp[ij];have e:jS w (.tup (t.map aw))=true:=by
    have e:(t.map aw).all (iI w)=true:=by
     rw[R4];intro x B;obtain(i|j|rfl):=R5.mp B;show tN (h3.2 i j)
    change((t.map aw).length==w&&(t.map aw).all (iI w))=true;rw[e,RK,h3.1];simp
   rw[dh `a `a,dh `a `a,e,dh `a `a];rfl
 | move a o c=>
   obtain(h1|h2|h3):=hd;unfold eh at h3;change cv w p "move" _=true;rw[pJ];dsimp[iU];rw[dh `a `a,dh `a `a,dh `a `a];rfl
 | put a o c=>
   obtain(h1|h2|h3):=hd;unfold eh at h3;change cv w p "put" _=true;rw[pI];dsimp[mw];rw[dh `a `a,dh `a `a,dh `a `a];rfl
omit h in
theorem rO {m:a7}(hm:aJ m):gM m.d=true:=by
 have w2:=hm.w2;have w4:=hm.w4;have p1:=hm.p1;have p2:=hm.p2;have l1:=hm.d1;have E:=hm.d6;have e:(m.deeds.map a8.d).all (gW m.words m.places)=true:=by
  rw[R4];intro x B;obtain(i|j|rfl):=R5.mp B;show BA (hm.ok i j)
 have e2:iK (.tup (m.deeds.map a8.d))=true:=by simp[iK];omega
 change(bq 2 4 (nD m.words)&&(bq 1 2 (nD m.places)&&(iK (.tup (m.deeds.map a8.d))&&(m.deeds.map a8.d).all (gW m.words m.places))))=true;rw[dh `a `a,dh `a `a,e,e2];rfl
end
noncomputable def vY:Nat->Nat->D->Bool
 |_,_,.non=>true
 |_,_,.bl _=>true
 |_,_,.int _=>true
 |_,L,.str x=>decide (x.cps.size<=L)&&x.cps.all (· < 0x110000)
 |n+1,L,.tup h=>decide (h.length<=L)&&h.all (vY n L)
 |n+1,L,.lst h=>decide (h.length<=L)&&h.all (vY n L)
 |_,_,_=>false
theorem tK:∀{n L:Nat}{d:D},vY n L d=true->Th n L d
 |n,L,.non,_=>by cases n<;>trivial
 |n,L,.bl _,_=>by cases n<;>trivial
 |n,L,.int _,_=>by cases n<;>trivial
 | n,L,.str x,h=>by
   have q:(decide (x.cps.size<=L)&&x.cps.all (· < 0x110000))=true:=by cases n<;>show h
   dsimp[RM,decide_eq_true_eq] at q;cases n<;>show q
 | n+1,L,.tup j,h=>by
   have h:(decide (j.length<=L)&&j.all (vY n L))=true:=h;dsimp[RM,decide_eq_true_eq] at h;show{h.1,λd hd=>tK (R4.mp h.2 d hd)}
 | n+1,L,.lst j,h=>by
   have h:(decide (j.length<=L)&&j.all (vY n L))=true:=h;dsimp[RM,decide_eq_true_eq] at h;show{h.1,λd hd=>tK (R4.mp h.2 d hd)}
 |0,L,.tup j,h=>by cases h
 |0,L,.lst j,h=>by cases h
 |n,L,.frz _,h=>by cases n<;>cases h
 |n,L,.cell _,h=>by cases n<;>cases h
 |n,L,.fn _,h=>by cases n<;>cases h
 |n,L,.exc _ _,h=>by cases n<;>cases h
def Aa (h:g4 w t)(w4:w<=4):Th 2 6 (aw t):=by
 show{by have:=h.1;simp;omega,λd hd=>?_}
 obtain(i|_|rfl):=R5.mp hd;trivial
def sQ (h:vY 0 6 (.str z)=true):Th n 6 (.str z):=(tK h).mono (S5 n) (RN 6)
def gQ {i:Int}:Th n 6 (.int i):=by cases n<;>trivial
def Jy (h:cS w p d)(w4:w<=4):Th 4 6 d.d:=by
 cases d with
 | turn a t c=>
   show{`s,λx j=>?_}
   dsimp[R7,SY,or_false] at j;rcases j with rfl|rfl|rfl|rfl
   .exact sQ `k
   .exact gQ
   .exact(Aa h.2.1 w4).mono `d `d
   .exact gQ
 | join a o t c=>
   show{`s,λx j=>?_}
   dsimp[R7,SY,or_false] at j;rcases j with rfl|rfl|rfl|rfl|rfl
   .exact sQ `k
   .exact gQ
   .exact gQ
   .refine{by have:=h.2.2.1.1;simp;omega,λy u=>?_}
    obtain(z|v|rfl):=R5.mp u;show Aa (h.2.2.1.2 z v) w4
   .exact gQ
 | move a o c=>
   show{`s,λx j=>?_}
   dsimp[R7,SY,or_false] at j;rcases j with rfl|rfl|rfl|rfl
   .exact sQ `k
   all_goals show gQ
 | put a o c=>
   show{`s,λx j=>?_}
   dsimp[R7,SY,or_false] at j;rcases j with rfl|rfl|rfl|rfl
   .exact sQ `k
   all_goals show gQ
def qI (h:aJ m):Th 6 6 m.d:=by
 show{`s,λx j=>?_}
 dsimp[R7,SY,or_false] at j;rcases j with rfl|rfl|rfl
 .exact gQ
 .exact gQ
 .refine{by have:=h.d6;simpa using this,λy u=>?_}
  obtain(z|v|rfl):=R5.mp u;show Jy (h.ok z v) h.w4
def HasB0.q (h:HasB0 P):zh P:=⟨h.is_between,h.is_word,h.is_place,h.is_cost,h.is_tuple_of,h.is_table,h.is_double_table,h.is_turn,h.is_join,h.is_move,h.is_put,h.is_deed,h.is_machine⟩
structure Sub (M M':Mem):Prop where
 len:M.length<=M'.length
 at':∀k,k<M.length->M'[k]?=M[k]?
def Sub.refl:Sub M M:={RN _,λ_ _=>rfl}
def Sub.trans (a:Sub M M1)(b:Sub M1 M2):Sub M M2:={RU a.len b.len,λk hk=>(b.at' k (R9 hk a.len)).trans (a.at' k hk)}
def Sub.app:Sub M (M++X):={`s,λk hk=>RR hk}
def Sub.get {k:Nat}(h:Sub M M')(e:M[k]?=some ds):M'[k]?=some ds:=by rw[h.at' k (RH.mp e).1];show e
def Sub.setq (h:Sub M M')(j:M.length<=q):Sub M (M'.set q ds):={~~~h.len,λk hk=>by rw[RT `a];show h.at' k hk}
def yR (f:D->D)(hz:acc0.length+ds.length<=sz)(v:w M=some ds)(hs:∀d∈ds,∃ρ1,b7 tg d ρ0=some ρ1/\ge ρ1 M=.ok (f d) M)(hk:kl (acc0++ds.map f) M) :
 ae (cY (cJ tg (bB ge) ρ0) w acc0 M) kl:=by
 show eX (λi j u=>u=M/\j=acc0++(ds.take i).map f) (λi j u h=>by rw[h.1];show v) {rfl,`s} ?_ ?_
 .rintro i d j u hd ⟨rfl,rfl⟩;obtain(ρ1|e1|e2):=hs d (Sj hd);have y:i<ds.length:=(RH.mp hd).1;dsimp[cJ,ba,iz,e1,GP];show{ρ1,rfl,?_};rw[e2];show{by simp;omega,rfl,?_}
  rw[Tq,hd];simp
 .rintro j u ⟨rfl,rfl⟩;simpa using hk
noncomputable def qR {j u:Type}(f:j->List u)(n:Nat):∀(ds:List j),(∀d∈ds,(f d).length<=n)->(ds.flatMap f).length<=ds.length*n
 |[],_=>`s
 | d::r,h=>by
   have h1:=h d RY;have h2:=qR f n r λd hd=>h d (RP _ hd);dsimp[List.flatMap_cons,Sa,To,Nat.succ_mul];omega
def yS (j:D->List D)(f:D->D->D)(n:Nat)(hn:∀d∈ds,(j d).length<=n)(hz:ds.length*n<=sz)(I:w M=some ds)
 (hs:∀d∈ds,∃ρ1,b7 t d ρ0=some ρ1/\∃w2,gw2 ρ1 M=.ok w2 M/\w2 M=some (j d)/\∀e∈j d,∃y,b7 u e ρ1=some y/\ge y M=.ok (f d e) M) (hk:kl (ds.flatMap λd=>(j d).map (f d)) M) :
 ae (cY (cJ t (uX u gw2 (bB ge)) ρ0) w [] M) kl:=by
 show eX (λi v B=>B=M/\v=(ds.take i).flatMap λd=>(j d).map (f d)) (λi v B h=>by rw[h.1];show I) {rfl,`s} ?_ ?_
 .rintro i d v B hd ⟨rfl,rfl⟩;obtain(ρ1|e1|w2|e2|F|H):=hs d (Sj hd);dsimp[cJ,ba,iz,e1,uX];show{ρ1,rfl,?_};rw[e2];have E:(ds.take (i+1)).flatMap (λd=>(j d).map (f d))=(ds.take i).flatMap (λd=>(j d).map (f d))++(j d).map (f d):=by
   rw[Tq,hd];simp
  have l1:=qR (λd=>(j d).map (f d)) n (ds.take (i+1)) (λd hd=>~~~(hn d (S6 hd)))
  rw[E] at l1;dsimp[Sa,RK,SJ] at l1;show yR (f d) ?_ F H ⟨rfl,E.symm⟩;have:(min (i+1) ds.length)*n<=ds.length*n:=Nat.mul_le_mul_right _ (Nat.min_le_right _ _);omega
 .rintro v B ⟨rfl,rfl⟩;simpa using hk
noncomputable def qS (w:Nat)(l:List (List Nat)):List (List Nat):=l.flatMap λs=>(List.range w).map λx=>s++[x]
noncomputable def cT (w:Nat):Nat->List (List Nat)
 |0=>[[]]
 |p+1=>qS w (cT w p)
def bw (m:a7):List (List Nat):=cT m.words m.places
def d7 (m:a7)(s:List Nat):Prop:=s.length=m.places/\∀x∈s,x<m.words
def vq:∀s∈cT w p,s.length=p/\∀x∈s,x<w:=by
 induction p with
 |zero=>intro s hs;simp[cT] at hs;subst hs;simp
 | succ p v=>
   intro s hs;dsimp[cT,qS,List.mem_flatMap,R5,Tr] at hs;obtain(t|j|x|B|rfl):=hs;obtain(h1|h2):=v t j;show{by simp[h1],λy u=>?_}
   rcases Si.mp u with z|z
   .exact h2 y z
   .simp at z;omega
def nS:∀s∈bw m,d7 m s:=vq
noncomputable def jV (j:w<=4):∀p≤2,(cT w p).length<=4^p
 |0,_=>by simp[cT]
 | p+1,u=>by
   have:=jV j p `a
   have l:=qR (λs:List Nat=>(List.range w).map λx=>s++[x]) 4 (cT w p) (λd hd=>~~~j)
   calc _<=(cT w p).length*4:=l
    _<=4^p*4:=Nat.mul_le_mul_right _ this
    _=4^(p+1):=by rw[Nat.pow_succ]
def dB (hm:aJ m):(bw m).length<=16:=by
 have h:=jV hm.w4 m.places hm.p2;have h1:=hm.p1;have h2:=hm.p2;have:m.places=1\/m.places=2:=`a
 rcases this with e|e<;>rw[e] at h<;>unfold bw<;>rw[e]<;>omega
theorem sv:∀(p:Nat) (s:List Nat),s.length=p->(∀x∈s,x<w)->s∈cT w p
 | 0,s,hl,_=>by
   obtain rfl:=TH.mp hl;simp[cT]
 | p+1,s,hl,j=>by
   have ne:s≠[]:=by intro e;subst e;cases hl
   have u:=List.dropLast_concat_getLast ne;change s∈qS w (cT w p);unfold qS;rw[List.mem_flatMap];show{s.dropLast,sv p _ (by simp[hl]) (λx h=>j x (List.dropLast_subset _ h)),?_}
   rw[R5];show{s.getLast ne,Tr.mpr (j _ (List.getLast_mem ne)),u}
def pe (hm:aJ m)(h:d7 m s):s∈bw m:=sv _ s h.1 h.2
noncomputable def jc:a8->List Nat->Nat
 |.turn a t _,s=>t.getD (s.getD a 0) 0
 |.join a o t _,s=>(t.getD (s.getD a 0) []).getD (s.getD o 0) 0
 |.move _ o _,s=>s.getD o 0
 |.put _ x _,_=>x
def a8.at':a8->Nat
 |.turn a _ _=>a
 |.join a _ _ _=>a
 |.move a _ _=>a
 |.put a _ _=>a
def b6 (d:a8)(s:List Nat):List Nat:=s.take d.at'++[jc d s]++s.drop (d.at'+1)
def getD_mem {j:Type}{l:List j}{d:j}(h:i<l.length):l.getD i d∈l:=by
 rw[Sy,RZ h];show Ta h
def yn {m:a7}(hd:cS m.words m.places d)(hs:d7 m s):jc d s<m.words:=by
 obtain(hl|j):=hs;cases d with
 | turn a t c=>
   obtain(h1|h2|h3):=hd;have:=j _ (getD_mem (d:=0) (show a<s.length by omega))
   show h2.2 _ (getD_mem (by rw[h2.1];show this))
 | join a o t c=>
   obtain(h1|h2|h3|h4):=hd;have a1:=j _ (getD_mem (d:=0) (show a<s.length by omega))
   have a2:=j _ (getD_mem (d:=0) (show o<s.length by omega))
   have a3:=h3.2 _ (getD_mem (d:=[]) (show s.getD a 0<t.length by rw[h3.1];show a1))
   show a3.2 _ (getD_mem (by rw[a3.1];show a2))
 |move a o c=>show j _ (getD_mem (by obtain(h1|h2|h3):=hd;omega))
 |put a x c=>show hd.2.1
def tj (hd:cS w p d):d.at'<p:=by cases d<;>show hd.1
def r8 (hd:cS m.words m.places d)(hs:d7 m s):d7 m (b6 d s):=by
 have h1:=tj hd;have h2:=yn hd hs;obtain(hl|j):=hs;show{by simp[b6];omega,λx hm=>?_}
 dsimp[b6,Si,RS] at hm;rcases hm with(z|z)|z
 .exact j x (S6 z)
 .omega
 .exact j x (List.mem_of_mem_drop z)
def Pz (m:a7)(r:List Nat):Prop:=r.length<=40/\∀i∈r,i<m.deeds.length
noncomputable def cx (m:a7)(i:Nat):a8:=m.deeds.getD i (.put 0 0 1)
noncomputable def jx (m:a7):List Nat->List Nat->List Nat
 |[],s=>s
 |i::r,s=>jx m r (b6 (cx m i) s)
def iS {m:a7}(hm:aJ m){i:Nat}(hi:i<m.deeds.length):cS m.words m.places (cx m i):=hm.ok _ (getD_mem hi)
noncomputable def qT (hm:aJ m):∀{r:List Nat}{s:List Nat},(∀i∈r,i<m.deeds.length)->d7 m s->d7 m (jx m r s)
 |[],s,_,h=>h
 |i::r,s,hr,h=>qT (r:=r) hm (λj u=>hr j (RP _ u)) (r8 (iS hm (hr i RY)) h)
noncomputable def oZ:∀(a b s:List Nat),jx m (a++b) s=jx m b (jx m a s)
 |[],b,s=>rfl
 |i::a,b,s=>oZ a b _
def CQ {s:List Nat}(hi:i<s.length):(bX (s.map nD).length (i:Int)).bind (λj=>(s.map nD)[j]?)=some (nD (s.getD i 0)):=by
 rw[dj (~~~hi)]
 simp[Sy,hi]
noncomputable def yQ (m:a7)(r:List Nat):Nat:=(r.map λi=>(cx m i).cost).sum
def DZ {i:Nat}(hi:i<m.deeds.length):((bX (m.deeds.map a8.d).length (i:Int)).bind λj=>(m.deeds.map a8.d)[j]?)=some (cx m i).d:=by
 rw[dj (~~~hi)]
 simp[cx,Sy,hi]
def P5 {m:a7}:bZ m.d (.int 2) M=some (.tup (m.deeds.map a8.d)):=rfl
def Ej (hi:i<m.deeds.length):bZ (.tup (m.deeds.map a8.d)) (nD i) M=some (cx m i).d:=DZ hi
def rW {d:a8}:bZ d.d (.int (-1)) M=some (nD d.cost):=by cases d<;>rfl
def mI {s:List Nat}(hi:i<s.length):bZ (aw s) (nD i) M=some (nD (s.getD i 0)):=CQ hi
def MA {t:List (List Nat)}(hi:i<t.length):bZ (.tup (t.map aw)) (nD i) M=some (aw (t.getD i [])):=by
 change(bX (t.map aw).length (i:Int)).bind (λj=>(t.map aw)[j]?)=_;rw[dj (~~~hi)]
 simp[Sy,hi]
def iu (M:Mem)(x:D)(r:List Nat):Prop:=x=.lst (r.map nD)\/∃q,x=.cell q/\M[q]?=some (r.map nD)
def iu.l:iu M (.lst (r.map nD)) r:=.inl rfl
def iu.sub {M M':Mem}(h:iu M x r)(s:Sub M M'):iu M' x r:=h.elim .inl (by rintro⟨q,e,g⟩;show .inr {q,e,s.get g})
def iu.seq (h:iu M x r):cH M x=some (r.map nD):=by
 rcases h with rfl|⟨q,rfl,e⟩
 .rfl
 .exact e
def iu.is (h:iu M x r):ik x=true/\ip x=true/\cM .list x=some true:=by
 rcases h with rfl|⟨q,rfl,e⟩<;>show⟨rfl,rfl,rfl⟩
section
variable{P:Nat->Option Df}{M:Mem}{k L:Nat}{d:D}
def uy (h:zh P)(h13:P 13=some {1,1,fw})(n:Nat)(hd:Th k L d)(j:L<=100)(u:gM d=true):ag P (n+8) 13 [d] M=.ok .non M:=by
 show aj (aE h13 rfl (aG (bH (b:=true) (bE ((aV (af rfl rfl)).trans ((tW h n hd j).trans (by rw[u]))))) ⟨rfl,rfl⟩))
def AY (h:zh P)(h13:P 13=some {1,1,fw})(n:Nat)(hd:Th k L d)(j:L<=100)(u:gM d=false):ag P (n+8) 13 [d] M=.err (.exc 3 none) M:=by
 show gq (eF h13 rfl (iA (bH (b:=false) (bE ((aV (af rfl rfl)).trans ((tW h n hd j).trans (by rw[u]))))) ⟨rfl,rfl⟩))
end
section
variable{P:Nat->Option Df}(h:HasB0 P){M:Mem}
include h
theorem tV (n:Nat)(hm:aJ m):ag P (n+8) 13 [m.d] M=.ok .non M:=uy h.q h.need_machine n (qI hm) `d (rO hm)
theorem ko (h15:P 15=some {1,6,cP})(n:Nat)(hm:aJ m):ag P (n+9) 15 [m.d] M=.ok (.lst ((bw m).map aw)) M:=by
 show aj (aE h15 rfl ?_);have w4:=hm.w4;have p2:=hm.p2;simp[cP,tV h n hm];simp[a7.d,fH];show{`d,`a,?_}
 show eK (λi u j=>j=M/\∃a,u=[some m.d,some (nD m.words),some (nD m.places),some (.tup (m.deeds.map a8.d)),some (.lst ((cT m.words i).map aw)),a]) (λ_ _ _ _=>rfl) {rfl,none,by simp[a7.d,cT,aw]} ?_ ?_
 .rintro i d u j hd ⟨rfl,a,rfl⟩;have y:i<m.places:=by
   have:=(RH.mp hd).1;simpa using this
  show{_,rfl,?_};simp[ik];show yS (λ_=>(List.range m.words).map λ(k:Nat)=>D.int (k:Int)) (λd e=>match d,e with|.tup x,e=>.tup (x++[e])|_,_=>.non) 4 (~~~(λ_ _=>w4)) ?_ rfl ?_ ?_
  .have:=jV w4 i `a
   have:(4:Nat)^i<=4^2:=Nat.pow_le_pow_right `d `a
   dsimp[RK];show aq `a
  .intro d hd;obtain(s|hs|rfl):=R5.mp hd;have{l1,_}:=vq s hs;show{_,rfl,(λ_=>some ((List.range m.words).map λ(k:Nat)=>D.int (k:Int))),aQ ?_,rfl,λe he=>{_,rfl,aj ?_}}
   .simp;omega
   .simp[aw,sz];omega
  .have v:((cT m.words i).map aw).flatMap (λd=>((List.range m.words).map λ(k:Nat)=>D.int (k:Int)).map (λe=>match d,e with|.tup x,e=>D.tup (x++[e])|_,_=>.non))=(cT m.words (i+1)).map aw:=by
    dsimp[cT,qS,List.flatMap_map,List.map_flatMap,SN]
    congr 1
    funext s
    simp[aw,Function.comp_def]
   rw[v];show{?_,rfl,rfl};have:=jV w4 (i+1) `a
   have:(4:Nat)^(i+1)<=4^2:=Nat.pow_le_pow_right `d `a
   dsimp[RK];show aq `a
 .rintro u j ⟨rfl,a,rfl⟩;simp[bw]
end
section
variable{P:Nat->Option Df}(h:lY P){M:Mem}
include h
theorem Ai (n:Nat){m:a7}(hd:cS m.words m.places (.turn a t c))(hs:d7 m s):ag P (n+1) 20 [(a8.turn a t c).d,aw s] M=.ok (nD (jc (.turn a t c) s)) M:=by
 obtain(h1|h2|h3):=hd;have a1:a<s.length:=by rw[hs.1];show h1
 have a2:s.getD a 0<t.length:=by rw[h2.1];show hs.2 _ (getD_mem a1)
 show aj (aE h.turned rfl ?_);simp[-qO,-List.getD_eq_getElem?_getD,lV,a8.d,fH,mI a1,mI a2,jc]
end
def QM:ef.lookup (Str.ofString "turn")=some 20:=`k
def Ku {a:Nat}(j:a<=s.length):ae (eA false (aw s) .non (.int a) M) k↔k (aw (s.take a)) M:=by
 dsimp[eA,aw,aL,cut];rw[if_neg `a]
 simp;rw[Nat.min_eq_left (~~~j)]
def HC {a:Nat}(j:a<=s.length):ae (eA false (aw s) (.int a) .non M) k↔k (aw (s.drop a)) M:=by
 dsimp[eA,aw,aL,cut];rw[if_neg `a]
 simp;rw[Nat.min_eq_left (~~~j),S8 `s]
section
variable{P:Nat->Option Df}(h:lY P){M:Mem}
include h
theorem HB (n:Nat){d:a8}(E:∃a t c,d=.turn a t c)(hm:aJ m)(hd:cS m.words m.places d)(hs:d7 m s):ag P (n+2) 24 [d.d,aw s] M=.ok (aw (b6 d s)) M:=by
 have a0:=tj hd;have l0:=hs.1;have p2:=hm.p2;have u:∀f,ag P (n+1) f [d.d,aw s] M=.ok (nD (jc d s)) M->bZ d.d (.int 1) M=some (nD d.at')->(∀k:D->Mem->Prop,(∃y,bZ d.d (.int 0) M=some (.str y)/\ef.lookup y=some f))->ag P (n+2) 24 [d.d,aw s] M=.ok (aw (b6 d s)) M:=λf e1 e2 j=>by
  obtain(y|j|v):=j λ_ _=>True;show aj (aE h.done rfl ?_);dsimp[qi,ax,fL,Bx,gV,aU,cz,bM,b4,dS,gU,gR,bA,bV,xo];simp[-qO,e1,e2,j,v,cq];rw[Ku `a,e1]
  have B:(d.at':Int)+1=((d.at'+1:Nat):Int):=`a
  rw[B];dsimp[bW,aw,kY];show{`d,?_,?_}
  .simp;show aq `a
  .rw[show D.tup (s.map nD)=aw s from rfl,HC `a]
   dsimp[aw,kY];show{?_,?_,trivial}
   .simp;show aq `a
   .simp[b6]
 obtain(a|t|c|rfl):=E;show u 20 (Ai h n hd hs) rfl λ_=>{_,rfl,QM}
end
@[simp] theorem oO:ae (fc .len [.cell j] M) k↔∃ds,M[j]?=some ds/\k (.int ds.length) M:=by
 change ae (match M[j]? with|some xs=>_|none=>_) k↔_
 cases M[j]?<;>simp
structure aD (M:Mem) (p B:Nat):Prop where
 ex:∃(c:Nat) (cells:List Int) (at_ st:Int),M[p]?=some [.cell c,.int at_,.int st]/\M[c]?=some (cells.map D.int)/\c<p/\0<=at_/\at_<=B/\0<=st
structure aS (p:Nat) (M M':Mem):Prop where
 len:M.length<=M'.length
 at':∀k,k<M.length->k≠p->M'[k]?=M[k]?
def aS.refl:aS p M M:={RN _,λ_ _ _=>rfl}
def aS.trans (a:aS p M M1)(b:aS p M1 M2):aS p M M2:={RU a.len b.len,λk hk n=>(b.at' k (R9 hk a.len) n).trans (a.at' k hk n)}
def aS.set:aS p M (M.set p ds):={`s,λk _ n=>RT (SK n)}
def aS.app:aS p M (M++X):={`s,λk hk _=>RR hk}
def aS.get (h:aS p M M')(e:M[k]?=some ds)(n:k≠p):M'[k]?=some ds:=by rw[h.at' k (RH.mp e).1 n];show e
def aD.lt (h:aD M p B):p<M.length:=by obtain(_|_|_|_|e|_):=h.ex;show(RH.mp e).1
def aD.app (h:aD M p B):aD (M++X) p B:=by
 obtain(c|j|a|st|e1|e2|r):=h.ex;show{c,j,a,st,by rw[RR (RH.mp e1).1];show e1,by rw[RR (RH.mp e2).1];show e2,r}
def aD.mono (h:aD M p B)(F:B<=B'):aD M p B':=by
 obtain(c|j|a|st|e1|e2|u|v|E|y):=h.ex;show{c,j,a,st,e1,e2,u,v,`a,y}
def aD.setq (h:aD M p B)(F:p<q):aD (M.set q ds) p B:=by
 obtain(c|j|a|st|e1|e2|u|v|y|E):=h.ex;show{c,j,a,st,by rw[RT `a];show e1,by rw[RT `a];show e2,u,v,y,E}
def aS.setq (h:aS p M M')(j:M.length<=q):aS p M (M'.set q ds):={~~~h.len,λk hk n=>by rw[RT `a];show h.at' k hk n}
def A2 {a b A B:Int}(h1:0<=a)(h2:a<=A)(h3:0<=b)(h4:b<=B):0<=a*b/\a*b<=A*B:=
 {Int.mul_nonneg h1 h3,Int.mul_le_mul h2 h4 h3 (Int.le_trans h1 h2)}
noncomputable def nk:List Int:=[2147483629,2147483587,2147483579,2147483563,2147483549,2147483543,2147483497,2147483489,2147483477,2147483423,2147483399,2147483353,2147483323]
def jb:List D:=nk.map D.int
def AF:∀q∈nk,0<q/\q<2147483648:=`d
def oC (j:Int)(M:Mem):∃q:Int,bZ (.lst jb) (.int (j % 13)) M=some (.int q)/\0<q/\q<2147483648:=by
 have h1:0<=j % 13:=T3 _ `d
 have h2:j % 13<13:=TZ _ `d
 generalize j % 13=i at h1 h2;obtain(k|rfl):=Int.eq_ofNat_of_zero_le h1;have hk:=Int.ofNat_lt.mp h2;show{nk[k],?_,AF _ (Ta hk)};change(bX jb.length (k:Int)).bind (λj=>jb[j]?)=_;rw[dj (n:=jb.length) hk];change(nk.map D.int)[k]?=_;rw[Sh,RZ hk];rfl
section
variable{P:Nat->Option Df}(h:HasP0 P){M:Mem}
include h
omit h in
theorem gm {x y:Int}(j:a Z M=.ok (.int x) M)(u:b Z M=.ok (.int y) M):ak m .add a b Z M=.ok (.int (x+y)) M:=by
 unfold ak;rw[j];change(b Z M).bind _=_;rw[u];rfl
omit h in
theorem oK {x y:Int}(j:a Z M=.ok (.int x) M)(u:b Z M=.ok (.int y) M)(c:(-(2^64)<x/\x<2^64)\/(-(2^64)<y/\y<2^64)):ak m .mul a b Z M=.ok (.int (x*y)) M:=by
 unfold ak;rw[j];change(b Z M).bind _=_;rw[u];show if_pos c
omit h in
theorem j8 {x y:Int}(j:a Z M=.ok (.int x) M)(u:b Z M=.ok (.int y) M)(c:0<y):ak m .mod a b Z M=.ok (.int (x % y)) M:=by
 unfold ak;rw[j];change(b Z M).bind _=_;rw[u];show if_pos c
omit h in
theorem Du {x y:Int}(j:a Z M=.ok (.int x) M)(u:b Z M=.ok (.int y) M)(c:0<=y/\y<=1000000)(d:x.natAbs<2^64):ak m .pow a b Z M=.ok (.int (x^y.toNat)) M:=by
 unfold ak;rw[j];change(b Z M).bind _=_;rw[u];show if_pos ⟨c.1,c.2,d⟩
omit h in
theorem oD {x q:Int}(hi:Z[i]?.getD none=some (.lst jb))(j:a Z M=.ok (.int x) M)(e:bZ (.lst jb) (.int (x % 13)) M=some (.int q)):ao (aa i) (ak false .mod a (gI 13)) Z M=.ok (.int q) M:=by
 unfold ao;rw[au hi];change(ak false .mod a _ Z M).bind _=_;rw[j8 j rfl `d];change cj M _=_;rw[e];rfl
theorem Ak {x a:Int}(n:Nat)(L:0<=a)(h1:a<=1000000):ae (ag P (n+1) 28 [.int x,.int a] M) λd M'=>M'=M/\∃v:Int,d=.int v/\0<=v:=by
 show aE h.law_spread rfl ?_;show bL rfl (λe=>?_) λe=>?_
 .exact{rfl,x,rfl,Int.le_trans `d (of_decide_eq_true e)}
 clear e;show bf (bQ rfl) (bf (bQ rfl) ?_);obtain(O|e1|p1|p2):=oC a M;obtain(Q|e2|j|_):=oC (a+5) M;obtain(q3|J|F|_):=oC (a+7) M;have u:∀{z c:Int},0<=z->z<=c->c<2^64->z.natAbs<2^64:=λS U H=>`a
 have lt:∀{z c:Int},0<=z->z<=c->c<2^64->-(2^64)<z/\z<2^64:=λS U H=>`a
 have r1:=T3 x (show(1000000007:Int)≠0 by decide)
 have r2:=TZ x (show(0:Int)<1000000007 by decide)
 obtain(W|X):=A2 r1 (Int.le_of_lt r2) (show 0<=2*a+69069 by omega) (show 2*a+69069<=2069069 by omega)
 show bf (bQ (j8 (Du (gm (gm (oK (j8 (au rfl) rfl `d) (gm (oK rfl (au rfl) (.inl `d)) rfl) (.inl (lt r1 (Int.le_of_lt r2) `d))) (oK (au rfl) rfl (.inl (lt L h1 `d)))) rfl) rfl `d (u (c:=10000000000000000000) `a `a `d)) (oD rfl (au rfl) e1) p1)) ?_
 generalize (x % 1000000007*(2*a+69069)+a*40503+977)^(3:Int).toNat=y;have b1:=T3 y (Int.ne_of_gt p1);have b2:=TZ y p1;generalize y % O=one at b1 b2;have b3:=Int.le_of_lt (Int.lt_trans b2 p2);obtain(Y|m4):=A2 b1 b3 (show 0<=a+3 by omega) (show a+3<=1000003 by omega)
 show bf (bQ (j8 (Du (gm (gm (oK (au rfl) (gm (au rfl) rfl) (.inl (lt b1 b3 `d))) (j8 (au rfl) rfl `d)) rfl) rfl `d (u (c:=10000000000000000000) `a `a `d)) (oD rfl (gm (au rfl) rfl) e2) j)) ?_
 generalize (one*(a+3)+x % 65537+5)^(5:Int).toNat=B;have E:=T3 B (Int.ne_of_gt j);have I:=TZ B j;generalize B % Q=two at E I;show bf (bQ (j8 (Du (gm (gm (au rfl) (j8 (au rfl) rfl `d)) (au rfl)) rfl `d (u (c:=10000000000) `a `a `d)) (oD rfl (gm (au rfl) rfl) J) F)) ?_
 generalize (two+one % 1009+a)^(3:Int).toNat=R;have d1:=T3 R (Int.ne_of_gt F);show bC (gm (oK (gm (oK (au rfl) rfl (.inr `d)) (au rfl)) rfl (.inr `d)) (au rfl)) {rfl,_,rfl,?_}
 show Int.add_nonneg (Int.mul_nonneg (Int.add_nonneg (Int.mul_nonneg b1 `d) E) `d) d1
omit h in
theorem Q2:bX 3 2=some 2:=rfl
omit h in
theorem qL {l:List Int}{i:Int}(u:0<=i)(h1:i<l.length):∃x,((bX l.length i).bind λj=>Option.map D.int l[j]?)=some (.int x):=by
 obtain(k|rfl):=Int.eq_ofNat_of_zero_le u;have hk:k<l.length:=`a
 show{l[k],?_};rw[dj hk];simp[hk]
def ow:GS:=#v[av (.one 4) (ak false .mod (ao (aa 0) (gI 2)) (aa 1)),dG (aa 0) (gI 2) (ak false .fdiv (ao (aa 0) (gI 2)) (aa 1)),aM (aa 4)]
def vZ (c:Call):GS:=#v[dG (aa 0) (gI 1) (ak false .add (aa 2) (gI 1)),dG (aa 0) (gI 2) (ah 28 c #[aa 3,aa 2])]
omit h in
theorem OT {x y:Int}(j:a Z M=.ok (.int x) M)(u:b Z M=.ok (.int y) M)(c:0<y/\y<1073741824):ak m .fdiv a b Z M=.ok (.int (x / y)) M:=by
 unfold ak;rw[j];change(b Z M).bind _=_;rw[u];show if_pos c
omit h in
theorem bu (j:a Z M=.ok x M)(u:b Z M=.ok y M)(e:bZ x y M=some d):ao a b Z M=.ok d M:=by
 unfold ao;rw[j];change(b Z M).bind _=_;rw[u];change cj M _=_;rw[e];rfl
omit h in
theorem Mx (e:M[p]?=some [c0,c1,c2]):bZ (.cell p) (.int 0) M=some c0/\bZ (.cell p) (.int 1) M=some c1/\bZ (.cell p) (.int 2) M=some c2:=by
 show{?_,?_,?_}<;>(change(M[p]?).bind _=_;rw[e];rfl)
omit h in
theorem ub {n:Int}(hd:d Z M=.ok z M')(u:a Z M'=.ok (.cell p) M')(v:b Z M'=.ok (.int n) M')(e:M'[p]?=some ds)(hi:bX ds.length n=some i)(h:ae (rest Z (M'.set p (ds.set i z))) kf):ae (aZ (dG a b d) rest Z M) kf:=by
 dsimp[ax];unfold dG;rw[hd];change ae ((a Z M').bind _) _;rw[u];change ae ((b Z M').bind _) _;rw[v];change ae (match M'[p]? with|some ds=>(match bX ds.length n with|some j=>Res.ok (Fl.next Z) (M'.set p (ds.set j z))|none=>.bad)|none=>.bad) _
 rw[e];change ae (match bX ds.length n with|some j=>Res.ok (Fl.next Z) (M'.set p (ds.set j z))|none=>.bad) _
 rw[hi];show h
omit h in
theorem My (j:t Z M=.ok b M)(h1:b=true->ae (A Z M) (gF rest kf))(h2:b=false->ae (B Z M) (gF rest kf)):ae (aZ (aN t A B) rest Z M) kf:=by
 dsimp[ax,fJ];rw[j];cases b with
 |true=>show h1 rfl
 |false=>show h2 rfl
omit h in
theorem rD {j:List Int}{a st:Int}(e1:M1[p]?=some [.cell c,.int a,.int st])(e2:M1[c]?=some (j.map D.int))(lt:c<p)(a0:0<=a)(u:a<=(B+1:Nat))(I:0<=st)(k:aS p M M1)
 (E:0<many) (h1:many<=10000000):ae (ow [some (.cell p),some (nD many),x,y,none] M1) (eD λd M'=>∃v:Nat,d=nD v/\v<many/\aD M' p (B+1)/\aS p M M'):=by
 have F:p<M1.length:=(RH.mp e1).1;have b0:=Int.ofNat_lt.mpr E;have r1:=T3 st (Int.ne_of_gt b0);have r2:=TZ st b0;show bf (bQ (j8 (bu (au rfl) rfl (Mx e1).2.2) (au rfl) b0)) (ub (OT (bu (au rfl) rfl (Mx e1).2.2) (au rfl) {b0,`a}) (au rfl) rfl e1 rfl (bC (au rfl) ?_))
 obtain(v|H):=Int.eq_ofNat_of_zero_le r1;show{v,congrArg D.int H,`a,{c,j,a,st / many,Sk F,?_,lt,a0,u,Int.ediv_nonneg I (Int.le_of_lt b0)},k.trans aS.set}
 rw[RT (SF lt)];show e2
theorem wd (n:Nat){p B many:Nat}(S:aD M p B)(hB:B<=1000000)(J:0<many)(h1:many<=10000000):ae (ag P (n+2) 31 [.cell p,nD many] M) λd M'=>∃v:Nat,d=nD v/\v<many/\aD M' p (B+1)/\aS p M M':=by
 obtain(c|u|a|st|e1|e2|lt|a0|aB|X):=S.ex;have E:p<M.length:=(RH.mp e1).1;obtain(I|U|W):=Mx e1;show aE h.law_take rfl ?_;change ae (aZ (aN _ (aZ _ (aZ _ (aZ _ (vZ (ag P (n+1)))))) _) ow [some (.cell p),some (nD many),none,none,none] M) _;have y:∀(x:Int),ae (vZ (ag P (n+1)) [some (.cell p),some (nD many),some (.int a),some (.int x),none] M) (gF ow (eD λd M'=>∃v:Nat,d=nD v/\v<many/\aD M' p (B+1)/\aS p M M')):=by
  intro x;show ub (gm (au rfl) rfl) (au rfl) rfl e1 rfl ?_;obtain(_|_|R|rfl|v|rfl|Y):=fm.mp (Ak h n a0 `a)
  show ub ((aV (af (au rfl) (af (au rfl) rfl))).trans R) (au rfl) rfl (Sk E) rfl ?_;have ne:=SF lt;show rD (Sk (by rw[List.length_set];show E)) (by rw[RT ne,RT ne];show e2) lt `a `a Y (aS.set.trans aS.set) J h1
 have len:aK .len #[ao (aa 0) (gI 0)] [some (.cell p),some (nD many),some (.int a),some (.int 0),none] M=.ok (.int (u.length:Nat)) M:=by
  show aj ?_;dsimp[cu];rw[af (bu (au rfl) rfl I) rfl,bW];show oO.mpr {_,e2,by rw[RK],rfl}
 show bL (b:=decide (st<(many:Int))) (bE (aj ?_)) (λL=>?_) λL=>?_
 .simp only[dR];rw[bu (au rfl) rfl W,bW,au rfl,bW];show{_,rfl,rfl,rfl}
 .refine bf (bQ (bu (au rfl) rfl U)) (bf (bQ rfl) ?_);change ae (aZ _ _ [some (.cell p),some (nD many),some (.int a),some (.int 0),none] M) _;have F:∀{i:Int}{x:D},((bX u.length i).bind λj=>Option.map D.int u[j]?)=some x->bZ (.cell c) (.int i) M=some x:=λ{i x} ex=>by
   change(M[c]?).bind _=_;rw[e2];change((bX (u.map D.int).length i).bind λj=>(u.map D.int)[j]?)=_;dsimp[RK,Sh];show ex
  show My (b:=decide (a<(u.length:Int))) (bE (aj ?_)) (λO=>?_) λ_=>?_
  .simp only[dR];rw[au rfl,bW,len,bW];show{_,rfl,rfl,rfl}
  .obtain(x|ex):=qL a0 (of_decide_eq_true O);show bf (bQ (bu (bu (au rfl) rfl I) (au rfl) (F ex))) (y x)
  .refine bL (b:=decide ((0:Int)<(u.length:Int))) (bE (aj ?_)) (λQ=>?_) λ_=>y 0
   .simp only[dR,cz];rw[len,bW];show{_,rfl,rfl,rfl}
   .have H:=of_decide_eq_true Q;obtain(x|ex):=qL (T3 (a*5+3) (Int.ne_of_gt H)) (TZ _ H);show bf (bQ (j8 (bu (bu (au rfl) rfl I) (j8 (gm (oK (au rfl) rfl (.inr `d)) rfl) len H) (F ex)) (gm rfl (au rfl)) (Int.lt_of_lt_of_le `d (Int.le_add_of_nonneg_right a0)))) (y _)
 .exact rD e1 e2 lt a0 `a X .refl J h1
end
noncomputable def a8.withC:a8->Nat->a8
 |.turn a t _,c=>.turn a t c
 |.join a o t _,c=>.join a o t c
 |.move a o _,c=>.move a o c
 |.put a x _,c=>.put a x c
def Cc {w p c:Nat}{d:a8}(h:cS w p d)(u:eh c):cS w p (d.withC c):=by
 cases d with
 |turn=>show⟨h.1,h.2.1,u⟩
 |join=>show⟨h.1,h.2.1,h.2.2.1,u⟩
 |move=>show⟨h.1,h.2.1,u⟩
 |put=>show⟨h.1,h.2.1,u⟩
def xy {w p:Nat}{d:a8}(h:cS w p d):eh d.cost:=by
 cases d with
 |turn=>show h.2.2
 |join=>show h.2.2.2
 |move=>show h.2.2
 |put=>show h.2.2
def EG {d:a8}{c:Nat}{M:Mem}{k:D->Mem->Prop}(hk:k (d.withC c).d M):ae (eA false d.d .non (.int (-1)) M) λx M=>ae (eM false .add x (.tup [nD c]) M) k:=by
 cases d<;>(simp[a8.d,eA,aL,cut];show{`d,hk})
def CS (n:Nat)(d:a8):aC (n+3) d.d=true:=by
 have v:∀(n:Nat) (l:List Nat),(l.map nD).all (aC n)=true:=λn l=>by
  rw[R4];intro x u;obtain(i|_|rfl):=R5.mp u;cases n<;>rfl
 cases d with
 |turn a t c=>simp[a8.d,aC,aw,nD];decide +kernel
 |join a o t c=>simp[a8.d,aC,nD,aw];decide +kernel
 |move a o c=>simp[a8.d,aC,nD];decide +kernel
 |put a x c=>simp[a8.d,aC,nD];decide +kernel
def ne_nil {M:Mem}{q:Nat}{ds:List a8}(e:M[q]?=some (ds.map a8.d)):bo .ne (.cell q) (.lst []) M=some (!ds.isEmpty):=by
 have hp:(ds.map a8.d).all (aC 63)=true:=by
  rw[R4];intro x v;obtain(d|_|rfl):=R5.mp v;show CS 60 d
 have u:view M (.cell q)=.lst (ds.map a8.d):=by simp[view,e]
 have h1:=hp;show xC (by rw[u];show h1) rfl ?_
 rw[u];cases ds<;>rfl
@[simp] theorem A1 {m:Bool}{x:List D}{j:Int}{M:Mem}{k:D->Mem->Prop}:ae (eM m .mul (.tup x) (.int j) M) k↔(x.length*j.toNat<=sz/\-(2^63)<=j/\j<2^63)/\k (.tup (List.replicate j.toNat x).flatten) M:=kA
@[simp] theorem L9 {m:Bool}{x:List D}{j:Int}{M:Mem}{k:D->Mem->Prop}:ae (eM m .mul (.lst x) (.int j) M) k↔(x.length*j.toNat<=sz/\-(2^63)<=j/\j<2^63)/\ae (bc m (List.replicate j.toNat x).flatten M) k:=kA
def tY {xs:List D}{a:Nat}{M:Mem}{k:D->Mem->Prop}:ae (eA false (.lst xs) .non (.int a) M) k↔(xs.take a).length<=sz/\k (.lst (xs.take a)) M:=by
 have e:cut xs 0 (min a xs.length)=xs.take a:=by
  unfold cut;rcases Nat.le_total a xs.length with h|h
  .rw[Nat.min_eq_left h];simp
  .rw[Nat.min_eq_right h];simp[S8 h]
 change ae (match aL xs.length 0 D.non,aL xs.length xs.length (.int a) with|some l,some h=>bc false (cut xs l h) M|_,_=>.bad) k↔_
 have e2:aL xs.length xs.length (.int a)=some (min a xs.length):=by
  change some _=_;rw[if_neg `a];simp
 rw[e2];change ae (bc false (cut xs 0 (min a xs.length)) M) k↔_;rw[e,bT]
def De {xs:List D}{a:Nat}{M:Mem}{k:D->Mem->Prop}:ae (eA false (.lst xs) (.int a) .non M) k↔(xs.drop a).length<=sz/\k (.lst (xs.drop a)) M:=by
 have e:cut xs (min a xs.length) xs.length=xs.drop a:=by
  unfold cut;rcases Nat.le_total a xs.length with h|h
  .rw[Nat.min_eq_left h,S8 `s]
  .rw[Nat.min_eq_right h];simp[List.drop_eq_nil_of_le h]
 change ae (match aL xs.length 0 (.int a),aL xs.length xs.length D.non with|some l,some h=>bc false (cut xs l h) M|_,_=>.bad) k↔_
 have e2:aL xs.length 0 (.int a)=some (min a xs.length):=by
  change some _=_;rw[if_neg `a];simp
 rw[e2];change ae (bc false (cut xs (min a xs.length) xs.length) M) k↔_;rw[e,bT]
def pa {w:Nat}{ge:GE}{Z:Env}{M:Mem}{u:List D->Mem->Prop}(f:Nat->Nat)(v:w<=100)(hf:∀k,k<w->ge (some (.int (k:Int))::Z) M=.ok (nD (f k)) M)(hk:u (((List.range w).map f).map nD) M) :
 ae (cY (cJ (.one 0) (bB ge) (none::Z)) (λ_=>some ((List.range w).map λ(k:Nat)=>D.int (k:Int))) [] M) u:=by
 show iD (λd=>match d with|.int i=>nD (f i.toNat)|_=>.non) (aq `o) rfl (λd hd=>?_) ?_
 .obtain(k|hk|rfl):=R5.mp hd;show{_,rfl,hf k (Tr.mp hk)}
 .simpa[Function.comp_def] using hk
def v8 {w:Nat}{f:Nat->Nat}(hf:∀k,k<w->f k<w):g4 w ((List.range w).map f):={`s,λx u=>by
 obtain(k|hk|rfl):=R5.mp u;show hf k (Tr.mp hk)}
section
variable{P:Nat->Option Df}(h:HasP0 P){M:Mem}
include h
theorem wj (n:Nat){p B:Nat}(hp:aD M p B):ae (ag P (n+1) 30 [.cell p] M) λd M'=>d=.cell p/\aD M' p B/\aS p M M':=by
 obtain(c|u|a|st|e1|e2|lt|a0|y|E):=hp.ex;have ne:=Se lt;have v:p<M.length:=(RH.mp e1).1;show aE h.law_anew rfl ?_;simp[kg,e1,Q2];show{{c,u,a,0,by simp[v],?_,lt,a0,y,`a},aS.set}
 rw[RT (SK ne)];show e2
theorem tk (n:Nat){p B many:Nat}{k:D->Mem->Prop}(hp:aD M p B)(hB:B<=1000000)(h0:0<many)(h1:many<=10000000)(hk:∀(v:Nat) (M':Mem),v<many->aD M' p (B+1)->aS p M M'->k (nD v) M'):ae (ag P (n+2) 31 [.cell p,nD many] M) k:=
 ay (wd h n hp hB h0 h1) λd M' ⟨v,e,E,y,u⟩=>by subst e;show hk v M' E y u
end
def bd {B c k m:Nat}(h:B<=c)(e:c+k<=m):B+k<=m:=RU (Nat.add_le_add_right h k) e
def yw {B k m:Nat}(e:k<=m):B+k<=B+m:=Nat.add_le_add_left e B
def pV {xs:List D}{v:Nat}{M:Mem}(h:v<xs.length):bZ (.lst xs) (nD v) M=some xs[v]:=by
 change(bX xs.length (v:Int)).bind (λj=>xs[j]?)=_;rw[dj h];simp[h]
def yt {Z:Env}{M:Mem}{j v c:Nat}(h:Z[j]?.getD none=some (nD v)):(ai (aA .lt (aa j) (gC (.int (c:Int)))):GT) Z M=.ok (decide (v<c)) M:=by
 show aQ ?_;dsimp[ib,dR,aU,cz];show{_,h,_,rfl,_,rfl,?_,trivial};simp
def iq {Z:Env}{M:Mem}{j v c:Nat}(h:Z[j]?.getD none=some (nD v)):(ai (aA .eq (aa j) (gC (.int (c:Int)))):GT) Z M=.ok ((v:Int)==(c:Int)) M:=by
 show aQ ?_;dsimp[ib,dR,aU,cz];show{_,h,_,rfl,_,rfl,rfl,trivial}
def sX {Z:Env}{M:Mem}{j v c:Nat}(h:Z[j]?.getD none=some (nD v)):(ai (aA .gt (aa j) (gC (.int (c:Int)))):GT) Z M=.ok (decide ((c:Int)<(v:Int))) M:=by
 show aQ ?_;dsimp[ib,dR,aU,cz];show{_,h,_,rfl,_,rfl,rfl,trivial}
section
variable{Z:Env}{M:Mem}{g a:GE}{rest:GS}{kf:Fl->Mem->Prop}
section
variable{P:Nat->Option Df}(hp_:HasP0 P)(n:Nat){i j p B many:Nat}(hj:Z[j]?.getD none=some (.cell p))(hg:g Z M=.ok (nD many) M)(hp:aD M p B)(hB:B<=1000000)(h0:0<many)(h1:many<=10000000)
include hp_ hj hg hp hB h0 h1
theorem dA:ae (ah 31 (ag P (n+2)) #[aa j,g] Z M) λd M'=>∃v:Nat,d=nD v/\v<many/\aD M' p (B+1)/\aS p M M':=by
 rw[aV (af (au hj) (af hg rfl))];show wd hp_ n hp hB h0 h1
theorem c5 (hk:∀(v:Nat) (M':Mem),v<many->aD M' p (B+1)->aS p M M'->ae (rest (Z.set i (some (nD v))) M') kf):ae (aZ (av (.one i) (ah 31 (ag P (n+2)) #[aa j,g])) rest Z M) kf:=by
 show bP (dA hp_ n hj hg hp hB h0 h1) ?_;rintro x M' ⟨v,rfl,a,b,c⟩;show hk v M' a b c
theorem Ei {xs:List D}(hl:a Z M=.ok (.lst xs) M)(hz:xs.length=many):ae (ao a (ah 31 (ag P (n+2)) #[aa j,g]) Z M) λd M'=>d∈xs/\aD M' p (B+1)/\aS p M M':=by
 unfold ao;rw[hl,ba,bW,ba];show ay (dA hp_ n hj hg hp hB h0 h1) ?_;rintro x M' ⟨v,rfl,a,b,c⟩;rw[pV `a]
 show{Ta _,b,c}
end
end
section
variable{Z:Env}{M:Mem}{k:D->Mem->Prop}
def f6 {e:GE}{K:Fl->Mem->Prop}(h:ae (e Z M) λx M=>K (.ret x) M):ae (#v[aM e] Z M) K:=by
 dsimp[ax,b4];show h
def uF {e:GE}{j v w:Nat}(he:e Z M=.ok (nD v) M)(hj:Z[j]?.getD none=some (nD w))(u:0<w):ak false .mod e (aa j) Z M=.ok (nD (v % w)) M:=by
 unfold ak;rw[he];change(aa j Z M).bind _=_;rw[au hj];change(if (0:Int)<(w:Int) then Res.ok (D.int ((v:Int) % (w:Int))) M else .bad)=_;rw[if_pos `a]
 rfl
def kW {e f:GE}{v w:Nat}(he:e Z M=.ok (nD v) M)(hf:f Z M=.ok (nD w) M):ak false .add e f Z M=.ok (nD (v+w)) M:=by
 unfold ak;rw[he];change(f Z M).bind _=_;rw[hf];rfl
def Kq {e:GE}{v c:Nat}(he:e Z M=.ok (nD v) M)(u:c<=v):ak false .sub e (gC (.int (c:Int))) Z M=.ok (nD (v-c)) M:=by
 unfold ak;rw[he];change Res.ok (D.int ((v:Int)-(c:Int))) M=_;rw[<- Int.ofNat_sub u]
end
section
variable{P:Nat->Option Df}(h:HasP P){M:Mem}
include h
theorem Aj (n:Nat){p B w:Nat}(hp:aD M p B)(hB:B<=900000)(w2:2<=w)(w4:w<=4):ae (ag P (n+3) 32 [.cell p,nD w] M) λd M'=>∃t,d=aw t/\g4 w t/\aD M' p (B+7)/\aS p M M':=by
 have R:0<w:=R9 `d w2
 have X:w<=10000000:=RU w4 (R1 rfl);show aE h.law_tab rfl ?_;change ae (i5 (ag P (n+2)) [some (.cell p),some (nD w),none,none,none,none] M) _;unfold i5;show c5 h n rfl rfl hp (RU hB `d) `d `d λkind M1 hk p1 k1=>?_
 show c5 h n rfl rfl p1 (bd hB `d) R X λu M2 W p2 k2=>?_
 show c5 h n rfl rfl p2 (bd (k:=2) hB `d) R X λE O ho Y k3=>?_
 have Q:=(k1.trans k2).trans k3;have J:∀(l:List Nat) (M':Mem),g4 w l->aD M' p (B+7)->aS p M M'->(l.map nD).length<=sz/\∃t,D.tup (l.map nD)=aw t/\g4 w t/\aD M' p (B+7)/\aS p M M':=λl M' hl F H=>{aq (by rw[RK,hl.1];omega),l,rfl,hl,F,H}
 have S:aD O p (B+7):=Y.mono (yw (k:=3) `d)
 change ae (aZ _ _ [some (.cell p),some (nD w),some (nD kind),some (nD u),some (nD E),none] O) _;show bL (yt rfl) (λ_=>?_) λ_=>?_
 .simp only[ax,b4,cu,bA,bV,dQ,fF,aU];show{_,rfl,_,rfl,{`a,`a},?_}
  show comp_map (λi I M'=>∃t:List Nat,I=t.map nD/\(∀x∈t,x<w)/\aD M' p (B+3+i)/\aS p M M') (aq `o) (λ_ _ _ _=>rfl) {[],rfl,(λ_ L=>nomatch L),Y,Q} ?_ ?_
  .rintro i d I M' hd _ ⟨t,rfl,U,F,H⟩;have hi:i<w:=by
    have:=(RH.mp hd).1;simpa using this
   show{_,rfl,ay (dA h n rfl rfl F `a R X) ?_}
   rintro _ M4 ⟨v,rfl,hv,p4,k4⟩;show{t++[v],by rw[Sq];rfl,λx L=>?_,p4,H.trans k4}
   rcases Si.mp L with z|z
   .exact U x z
   .rw[RS.mp z];show hv
  .rintro I M' hl ⟨t,rfl,U,F,H⟩;dsimp[RK,Tf] at hl F;show bT.mpr (J t M' ⟨hl,U⟩ (F.mono `a) H)
 show bL (iq rfl) (λ_=>?_) λ_=>?_
 .simp only[ax,b4,cu,bA,bV,dQ,fF,aU];show{_,rfl,_,rfl,{`a,`a},?_}
  show pa (λk=>(k+1+u) % w) `a (λk hk=>uF (kW (kW (au rfl) rfl) (au rfl)) rfl R) (bT.mpr (J _ O (v8 λk _=>Nat.mod_lt _ R) S Q))
 show bL (iq rfl) (λ_=>?_) λ_=>?_
 .simp only[ax,b4,cu,bA,bV,dQ,fF,aU];show{_,rfl,_,rfl,{`a,`a},?_}
  show pa (λk=>if k=u then E else k) `a (λk hk=>?_) (bT.mpr (J _ O (v8 λk hk=>by split<;>assumption) S Q))
  have e:(ai (aA .eq (aa 0) (aa 4)):GT) [some (.int (k:Int)),some (.cell p),some (nD w),some (nD kind),some (nD u),some (nD E),none] O=.ok ((k:Int)==(u:Int)) O:=rfl;by_cases ck:k=u
  .rw[if_pos ck];show je (k:=true) (e.trans (by rw[ck,beq_self_eq_true])) (λ_=>rfl) (λz=>nomatch z)
  .rw[if_neg ck];show je (k:=false) (e.trans (by rw[Sw.mpr `a])) (λz=>nomatch z) (λ_=>rfl)
 show bL (iq rfl) (λ_=>f6 ?_) λ_=>?_
 .simp only[dS,gR,bA,bV,aU];show{_,rfl,aq (n:=1) `d,_,rfl,A1.mpr {{aq `o,`a,`a},List.replicate w u,?_,{Tg,λx L=>by rw[T5 L];show W},S,Q}}
  simp[aw,nD]
 .simp only[ax,fL,Jg,aU,t4,b4,cu,bA,bV,bM];simp;show{`a,aq `a,u,dj W,E,dj ho,((List.range w).set u E).set E u,?_,{`s,λx L=>?_},S.app,Q.trans aS.app}
  .simp[aw,nD,List.map_set]
  .rcases List.mem_or_eq_of_mem_set L with z|rfl
   .rcases List.mem_or_eq_of_mem_set z with y|rfl
    .exact Tr.mp y
    .exact ho
   .exact W
theorem C4 (n:Nat){p B w pl:Nat}(hp:aD M p B)(hB:B<=800000)(w2:2<=w)(w4:w<=4)(p1:1<=pl)(p2:pl<=2):ae (ag P (n+4) 33 [.cell p,nD w,nD pl] M) λd M'=>∃e:a8,d=e.d/\cS w pl e/\aD M' p (B+40)/\aS p M M':=by
 have X:pl<=10000000:=RU p2 (R1 rfl);show aE h.law_deed rfl ?_;change ae (ir (ag P (n+3)) [some (.cell p),some (nD w),some (nD pl),none,none,none,none] M) _;unfold ir;show c5 h (n+1) rfl rfl hp (RU hB `d) `d `d λkind Y hk q1 k1=>?_
 show bP (k:=λd M'=>∃v:Nat,d=nD (1+v)/\v<3/\aD M' p (B+2)/\aS p Y M') ?_ ?_
 .rw[dS];dsimp[cz];show ay (dA h (n+1) rfl rfl q1 (bd hB `d) `d `d) ?_
  rintro _ M2 ⟨v,rfl,J,q,kk⟩;show gZ.mpr {v,by change D.int (1+(v:Int))=D.int ((1+v:Nat):Int);rw[Int.natCast_add];rfl,J,q,kk}
 rintro _ M2 ⟨price,rfl,hc,q2,k2⟩;show c5 h (n+1) rfl rfl q2 (bd hB `d) p1 X λat_ M3 O q3 k3=>?_
 show c5 h (n+1) rfl rfl q3 (bd (k:=3) hB `d) p1 X λu F ho Q U=>?_
 have L:=((k1.trans k2).trans k3).trans U;have co:eh (1+price):={`a,`a}
 have W:aD F p (B+40):=Q.mono (yw (k:=4) `d)
 change ae (aZ _ _ [some (.cell p),some (nD w),some (nD pl),some (nD kind),some (nD (1+price)),some (nD at_),some (nD u)] F) _;show bL (yt rfl) (λ_=>f6 ?_) λ_=>?_
 .simp only[gR,bA,bV,cz,aU,fO];show{_,rfl,_,rfl,_,rfl,ay (Aj h n Q (bd (k:=4) hB `d) w2 w4) λd M' ⟨t,e,I,y,E⟩=>{_,rfl,aq (n:=4) `d,.turn at_ t (1+price),?_,⟨O,I,co⟩,y.mono (yw (k:=11) `d),L.trans E}}
  subst e;rfl
 show bL (yt rfl) (λ_=>f6 ?_) λ_=>?_
 .obtain⟨o,eo,R⟩:∃o:Nat,gg (ai (aA .eq (aa 3) (gI 3))) (ak false .mod (ak false .add (aa 5) (gI 1)) (aa 2)) (aa 6) [some (.cell p),some (nD w),some (nD pl),some (nD kind),some (nD (1+price)),some (nD at_),some (nD u)] F=.ok (nD o) F/\o<pl:=by
   have e:(ai (aA .eq (aa 3) (gI 3)):GT) [some (.cell p),some (nD w),some (nD pl),some (nD kind),some (nD (1+price)),some (nD at_),some (nD u)] F=.ok ((kind:Int)==3) F:=iq rfl;cases q:(kind:Int)==3 with
   |true=>rw[q] at e;show{(at_+1) % pl,je e (λ_=>uF (kW (au rfl) rfl) rfl p1) (λz=>nomatch z),Nat.mod_lt _ p1}
   |false=>rw[q] at e;show{u,je e (λz=>nomatch z) (λ_=>au rfl),ho}
  dsimp[gR,bA,bV,cz,aU];show{_,rfl,?_};rw[eo,bW];show{_,rfl,aq (n:=4) `d,.move at_ o (1+price),rfl,⟨O,R,co⟩,W,L}
 show bL (iq rfl) (λ_=>f6 ?_) λ_=>?_
 .simp only[gR,bA,bV,cz];change ae (ag P (n+3) 31 [.cell p,nD w] F) _;show tk h (n+1) Q (bd (k:=4) hB `d) (R9 `d w2) (RU w4 (R1 rfl)) λv M5 J q5 k5=>?_
  show{aq (n:=4) `d,.put at_ v (1+price),rfl,⟨O,J,co⟩,q5.mono (yw (k:=5) `d),L.trans k5}
 .simp only[ax,b4,gR,bA,bV,cz,cu,dQ,fF,aU];show{_,rfl,_,rfl,_,rfl,_,rfl,{`a,`a},?_}
  show comp_map (λi H M'=>∃t:List (List Nat),H=t.map aw/\(∀x∈t,g4 w x)/\aD M' p (B+4+i*7)/\aS p M M') (aq `o) (λ_ _ _ _=>rfl) {[],rfl,(λ_ S=>nomatch S),Q,L} ?_ ?_
  .rintro i d H M' hd _ ⟨t,rfl,I,y,E⟩;have hi:i<w:=by
    have:=(RH.mp hd).1;simpa using this
   show{_,rfl,?_};rw[aV (af (au rfl) (af (au rfl) rfl))];show ay (Aj h n y `a w2 w4) ?_
   rintro _ F ⟨v,rfl,J,p4,U⟩;show{t++[v],by rw[Sq];rfl,λx S=>?_,p4.mono `a,E.trans U}
   rcases Si.mp S with z|z
   .exact I x z
   .rw[RS.mp z];show J
  .rintro H M' hl ⟨t,rfl,I,y,E⟩;dsimp[RK,Tf] at hl y;show bT.mpr {aq (by rw[RK];omega),_,rfl,aq (n:=5) `d,.join at_ u t (1+price),rfl,{O,ho,⟨hl,I⟩,co},y.mono `a,E}
theorem xW (n:Nat){p B W Pl mo:Nat}(hp:aD M p B)(hB:B<=700000)(W2:2<=W)(W4:W<=4)(P1:1<=Pl)(P2:Pl<=2)(m1:1<=mo)(m6:mo<=6):ae (ag P (n+5) 34 [.cell p,nD W,nD Pl,nD mo] M) λd M'=>∃m:a7,d=m.d/\aJ m/\m.words<=W/\m.places<=Pl/\m.deeds.length<=mo/\aD M' p (B+300)/\aS p M M':=by
 show aE h.law_machine rfl ?_;change ae (fy (ag P (n+4)) [some (.cell p),some (nD W),some (nD Pl),some (nD mo),none,none,none,none] M) _;unfold fy;have plus:∀{Z:Env}{M:Mem}{g:GE}{B c many:Nat}{rest:GS}{K:Fl->Mem->Prop}{i:Nat},Z[0]?.getD none=some (.cell p)->g Z M=.ok (nD many) M->aD M p B->B<=1000000->0<many->many<=10000000->(∀(v:Nat) (M':Mem),v<many->aD M' p (B+1)->aS p M M'->ae (rest (Z.set i (some (nD (c+v)))) M') K)->ae (aZ (av (.one i) (ak false .add (gC (.int (c:Int))) (ah 31 (ag P (n+4)) #[aa 0,g]))) rest Z M) K:=by
  intro Z M g B c many rest K i e0 eg hp hB h0 h1 hk;show bP (k:=λd M'=>∃v:Nat,d=nD (c+v)/\v<many/\aD M' p (B+1)/\aS p M M') ?_ ?_
  .rw[dS];dsimp[cz];show ay (dA h (n+2) e0 eg hp hB h0 h1) ?_;rintro _ M2 ⟨v,rfl,hv,q,kk⟩;show gZ.mpr {v,by change D.int ((c:Int)+(v:Int))=D.int ((c+v:Nat):Int);rw[Int.natCast_add],hv,q,kk}
  .rintro _ M' ⟨v,rfl,a,b,c⟩;show hk v M' a b c
 show plus rfl (Kq (c:=1) (au rfl) `a) hp (RU hB `d) `a `a λw M1 hw q1 k1=>?_
 show plus rfl (au rfl) q1 (bd hB `d) P1 (RU P2 (R1 rfl)) λpl M2 hpl q2 k2=>?_
 have pl2:=q2.lt;have K2:=k1.trans k2;have ML:=K2.len;have w2:2<=2+w:=TX _ _;have w4:2+w<=4:=`a
 have l1:1<=1+pl:=TX _ _;have l2:1+pl<=2:=`a
 generalize hW:2+w=w' at w2 w4;generalize hP:1+pl=p' at l1 l2;show bP (k:=λd M'=>d=.cell M2.length/\M'=M2++[[]]) ?_ ?_
 .simp only[nK,bV];show ky.mpr {S5 _,rfl,rfl}
 rintro _ _ ⟨rfl,rfl⟩;change ae (aZ _ _ [some (.cell p),some (nD w'),some (nD p'),some (nD mo),some (.cell M2.length),none,none,none] (M2++[[]])) _;dsimp[ax,fK,fF,dS,cz];show ay (dA h (n+2) rfl rfl q2.app (bd (k:=2) hB `d) m1 (RU m6 (R1 rfl))) ?_
 rintro _ M3 ⟨many,rfl,hmany,q3,k3⟩;have e3:=k3.get (TU) `a
 have K3:=K2.trans (aS.app.trans k3);generalize hq:M2.length=q at *;show gZ.mpr {_,rfl,{`a,`a},?_}
 rw[show(1+(many:Int)).toNat=1+many by omega]
 show eK (λi Z M'=>∃ds:List a8,M'[q]?=some (ds.map a8.d)/\ds.length=i/\(∀d∈ds,cS w' p' d)/\aD M' p (B+3+i*45)/\aS p M M'/\∃a b c,Z=[some (.cell p),some (nD w'),some (nD p'),some (nD mo),some (.cell q),a,b,c])
  (λ_ _ _ _=>rfl) {[],e3,rfl,(λ_ hd=>nomatch hd),q3,K3,none,none,none,rfl} ?_ ?_
 .rintro i d Z M' hd ⟨ds,e4,hl,hds,q4,K4,a,b,c,rfl⟩;have hi:i<1+many:=by
   have:=(RH.mp hd).1;simpa using this
  have hi6:i<=5:=`a
  have hB4:B+3+i*45<=700228:=`a
  have hqM:=ML;have hpq:=pl2;show{_,rfl,?_};show c5 h (n+2) rfl rfl q4 (RU hB4 `d) `d `d λagain M5 ha q5 k5=>?_
  have e5:=k5.get e4 (SF hpq);show bP (k:=λd M'=>∃e:a8,d=e.d/\cS w' p' e/\aD M' p (B+3+i*45+41)/\aS p M5 M') ?_ ?_
  .rw[aV (af (au rfl) (af (au rfl) (af (au rfl) rfl)))];show ay (C4 h n q5 (bd hB4 `d) w2 w4 l1 l2) (by rintro d M' ⟨e,a,b,c,d⟩;show⟨e,a,b,c,d⟩)
  rintro _ M6 ⟨e,rfl,he,q6,k6⟩;have e6:=k6.get e5 (SF hpq);have K6:=(K4.trans k5).trans k6;have hsm:(ds.map a8.d).length<sz:=Nat.lt_of_le_of_lt (show(ds.map a8.d).length<=50 by rw[RK,hl];omega) `d
  have fin:∀(e:a8) (M'':Mem) (x5 x6:Option D),cS w' p' e->M''[q]?=some (ds.map a8.d)->aD M'' p (B+3+(i+1)*45)->aS p M M''->
   ae (#v[jo (aa 4) (aa 7)] [some (.cell p),some (nD w'),some (nD p'),some (nD mo),some (.cell q),x5,x6,some e.d] M'') λfl M'=>∃ρ',fl=.next ρ'/\∃ds:List a8,M'[q]?=some (ds.map a8.d)/\ds.length=i+1/\(∀d∈ds,cS w' p' d)/\aD M' p (B+3+(i+1)*45)/\aS p M M'/\∃a b c,ρ'=[some (.cell p),some (nD w'),some (nD p'),some (nD mo),some (.cell q),a,b,c]:=by
   intro e M'' x5 x6 he e7 q7 K7;dsimp[ax,Aw,aU];show{_,rfl,_,rfl,q,ds.map a8.d,rfl,e7,hsm,_,rfl,ds++[e],?_,by rw[Sa,hl];rfl,λd hd=>?_,q7.setq hpq,K7.setq hqM,_,_,_,rfl}
   .rw[Sk (RH.mp e7).1,Sq];rfl
   .rcases Si.mp hd with z|z
    .exact hds d z
    .rw[RS.mp z];show he
  change ae (aZ _ _ [some (.cell p),some (nD w'),some (nD p'),some (nD mo),some (.cell q),some d,some (nD again),some e.d] M6) _;have en:(ai (aA .ne (aa 4) (aW false bb)):GT) [some (.cell p),some (nD w'),some (nD p'),some (nD mo),some (.cell q),some d,some (nD again),some e.d] M6=.ok (!ds.isEmpty) M6:=by
   show bE ?_;unfold aA;change(cj M6 (bo .ne (.cell q) (.lst []) M6)).bind _=_;rw[ne_nil e6];rfl
  show bL (kU (iq rfl) en) (λcc=>?_) λ_=>fin e M6 _ _ he e6 (q6.mono `a) K6
  have hpos:0<ds.length:=by
   rw[RM] at cc;cases ds with
   |nil=>show absurd cc.2 `d
   |cons _ _=>show Nat.succ_pos _
  dsimp[ax,fL,dS,gU,gV,gR,bA,bV,sZ,cz];have el:aK .len #[aa 4] [some (.cell p),some (nD w'),some (nD p'),some (nD mo),some (.cell q),some d,some (nD again),some e.d] M6=.ok (nD ds.length) M6:=by
   show aj ?_;dsimp[cu,bA,bV,aU];show{_,rfl,oO.mpr {_,e6,by rw[RK],rfl}}
  change ae (ah 31 (ag P (n+4)) #[aa 0,aK .len #[aa 4]] [some (.cell p),some (nD w'),some (nD p'),some (nD mo),some (.cell q),some d,some (nD again),some e.d] M6) _;show ay (dA h (n+2) rfl el q6 (bd hB4 `d) hpos `a) ?_
  rintro _ M7 ⟨v,rfl,hv,q7,k7⟩;have e7:=k7.get e6 (SF hpq);show{(ds.getD v e).d,?_,1,rfl,rfl,rfl,?_}
  .show(M7[q]?).bind (λds=>(bX ds.length (v:Int)).bind λj=>ds[j]?)=_;rw[e7];change(bX (ds.map a8.d).length (v:Int)).bind (λj=>(ds.map a8.d)[j]?)=_;rw[dj (by rw[RK];show hv)]
   simp[Sy,hv]
  .refine ay (EG ?_) λx1 M3 hx=>{1,rfl,nD e.cost,rW,aq (n:=1) `d,hx}
   show fin _ M7 _ _ (Cc (hds _ (getD_mem hv)) (xy he)) e7 (q7.mono `a) (K6.trans k7)
 .rintro Z M' ⟨ds,e4,hl,hds,q4,K4,a,b,c,rfl⟩;dsimp[RK,Tf] at hl q4;show f6 ?_;dsimp[gR,bA,bV,cu,aU];show{_,rfl,_,rfl,_,rfl,lj.mpr {_,e4,aq (n:=3) `d,⟨w',p',ds⟩,rfl,{w2,w4,l1,l2,?_,?_,hds},?_,?_,?_,q4.mono `a,K4}}
  .show 1<=ds.length;omega
  .show ds.length<=6;omega
  .show w'<=W;omega
  .show p'<=Pl;omega
  .show ds.length<=mo;omega
omit h in
theorem IM {g:GE}{Z:Env}{l:List a8}(e:g Z M=.ok (.tup (l.map a8.d)) M):aK .len #[g] Z M=.ok (nD l.length) M:=by
 show aj ?_;dsimp[cu];rw[af e rfl,bW];show{congrArg (λ(n:Nat)=>D.int n) (RK _),rfl}
theorem Hx (h35:P 35=some {3,6,fx})(n:Nat){p B mo:Nat}{m:a7}(hm:aJ m)(hp:aD M p B)(hB:B<=700000)(O:mo<=40):ae (ag P (n+3) 35 [.cell p,m.d,nD mo] M) λd M'=>∃r:List Nat,d=.lst (r.map nD)/\Pz m r/\r.length<=mo/\aD M' p (B+50)/\aS p M M':=by
 show aE h35 rfl ?_;change ae (fx (ag P (n+2)) [some (.cell p),some m.d,some (nD mo),none,none,none] M) _;unfold fx;show c5 h n rfl rfl hp `a `d `d λkind J _ Y k1=>?_
 show bP (k:=λd M'=>∃v:Nat,d=nD v/\v<=mo/\aD M' p (B+2)/\aS p M M') ?_ ?_
 .show ae (gg _ _ _ [some (.cell p),some m.d,some (nD mo),some (nD kind),none,none] J) _;have t0:(ai (aA .eq (aa 3) (gI 0)):GT) [some (.cell p),some m.d,some (nD mo),some (nD kind),none,none] J=.ok ((kind:Int)==((0:Nat):Int)) J:=iq rfl;rw[Gy,t0,bW];split
  .exact{mo,rfl,RN _,Y.mono `a,k1}
  .refine ay (dA h n (many:=mo+1) rfl rfl Y `a (Nat.succ_pos _) `a) (by rintro d M' ⟨v,e,Q,a,b⟩;show{v,e,Nat.le_of_lt_succ Q,a,k1.trans b})
 intro x M2 R;change ae (aZ _ _ [some (.cell p),some m.d,some (nD mo),some (nD kind),some x,none] M2) _;obtain(many|ex|F|q2|k2):=R;rw[ex];clear ex;dsimp[ax,fL,dQ,fF,aU];have S:=RU F O;show{_,rfl,_,rfl,{Int.le_trans `d (Int.natCast_nonneg _),Int.lt_of_le_of_lt (Int.ofNat_le.mpr S) `d},?_}
 rw[Tt];show comp_map (λi y M'=>∃t:List Nat,y=t.map nD/\(∀x∈t,x<m.deeds.length)/\aD M' p (B+2+i)/\aS p M M') (aq (by rw[RK,Tf];omega)) (λ_ _ _ _=>rfl) {[],rfl,(λ_ z=>nomatch z),q2,k2} ?_ ?_
 .rintro i d y M' hd _ ⟨t,rfl,I,u,E⟩;have W:i<many:=by
   have:=(RH.mp hd).1
   rwa [RK,Tf] at this
  show{_,rfl,?_};show ay (dA h n rfl (IM (bu (au rfl) rfl P5)) u `a hm.d1 (by have:=hm.d6;omega)) ?_
  rintro _ U ⟨v,rfl,Q,p4,k4⟩;show{t++[v],by rw[Sq];rfl,λx R=>?_,p4,E.trans k4}
  rcases Si.mp R with z|z
  .exact I x z
  .rw[RS.mp z];show Q
 .rintro y M' hl ⟨t,rfl,I,u,E⟩;rw[RK,RK,Tf] at hl;rw[RK,Tf] at u;have q3:=u.mono (show B+2+many<=B+50 by omega)
  have X:=E;have hl:=Nat.le_of_eq hl;show bT.mpr {aq (by rw[RK];omega),?_}
  change ae (aZ _ _ [some (.cell p),some m.d,some (nD mo),some (nD kind),some (nD many),some (.lst (t.map nD))] M') _;show bL (iq rfl) (λ_=>?_) λ_=>bC (au rfl) {t,rfl,{`a,I},`a,q3,X}
  show bP (k:=λd U=>U=M'/\d=.lst ((((List.replicate many (t.take 2)).flatten).take many).map nD)) ?_ ?_
  .have l2:((t.map nD).take 2).length<=2:=by rw[SJ];show Nat.min_le_left _ _
   dsimp[gU,dS,aU,cz];show{_,rfl,rfl,rfl,(tY (a:=2)).mpr {aq `a,_,rfl,L9.mpr {{?_,`a,`a},bT.mpr {?_,?_}}}}
   .exact RU (Nat.mul_le_mul l2 (show many<=40 by omega)) `d
   .rw[Tt,List.length_flatten,List.map_replicate,List.sum_replicate_nat];show RU (Nat.mul_le_mul (show many<=40 by omega) l2) `d
   .refine{_,rfl,rfl,rfl,tY.mpr {aq (by rw[SJ];show RU (Nat.min_le_left _ _) `a),rfl,?_}}
    rw[Tt,List.map_take,List.map_flatten,List.map_replicate,List.map_take]
  rintro _ _ ⟨rfl,rfl⟩;have lm:(((List.replicate many (t.take 2)).flatten).take many).length<=many:=by rw[SJ];show Nat.min_le_left _ _
  show mj.mpr (bM.mpr (bC (au rfl) {_,rfl,{`a,λi W=>?_},`a,q3,X}))
  obtain(l|L|H):=List.mem_flatten.mp (S6 W);rw[(List.mem_replicate.mp L).2] at H;show I i (S6 H)
end
def HE {a b:Nat}:ae (eA false (.frz xs) (.int a) (.int b) M) k↔(cut xs (min a xs.length) (min b xs.length)).length<=sz/\k (.lst (cut xs (min a xs.length) (min b xs.length))) M:=by
 change ae (match aL xs.length 0 (.int a),aL xs.length xs.length (.int b) with|some l,some h=>bc false (cut xs l h) M|_,_=>.bad) k↔_
 have e1:aL xs.length 0 (.int a)=some (min a xs.length):=by
  change some _=_;rw[if_neg `a];simp
 have e2:aL xs.length xs.length (.int b)=some (min b xs.length):=by
  change some _=_;rw[if_neg `a];simp
 rw[e1,e2];show bT
def Dd {b:Nat}:ae (eA false (.frz xs) .non (.int b) M) k↔(cut xs 0 (min b xs.length)).length<=sz/\k (.lst (cut xs 0 (min b xs.length))) M:=by
 change ae (match aL xs.length 0 D.non,aL xs.length xs.length (.int b) with|some l,some h=>bc false (cut xs l h) M|_,_=>.bad) k↔_
 have e2:aL xs.length xs.length (.int b)=some (min b xs.length):=by
  change some _=_;rw[if_neg `a];simp
 rw[e2];show bT
def xx {j u:Type}(f:j->u)(l:List j)(a b:Nat):cut (l.map f) a b=(cut l a b).map f:=by simp[cut,List.map_take,List.map_drop]
def qX {j:Type}(l:List j)(a b:Nat):(cut l a b).length<=l.length:=by simp[cut];omega
section
variable{P:Nat->Option Df}(h:HasP0 P){M:Mem}
include h
theorem Hz (n:Nat){ns:List Int}(hn:ns.length<=63):ae (ag P (n+1) 29 [.frz (ns.map D.int)] []) λd M'=>d=.cell 1/\aD M' 1 0:=by
 show aE h.law_open rfl ?_;simp[kc,cq];show(Dd).mpr {?_,?_}
 .exact aq (RU (qX _ _ _) `o)
 dsimp[D1,ky];show{aq (RU (qX _ _ _) `o),(HE).mpr {aq (RU (qX _ _ _) `o),rfl,?_}}
 rw[xx,xx];dsimp[RK,List.length_nil,T2];have j:min 63 ns.length=ns.length:=`a
 rw[j];show eK (λi v M'=>∃l:List Int,M'=[l.map D.int]/\l.length=min 12 ns.length/\∃a b,v=[some (.frz (ns.map D.int)),some (.cell 0),a,b]) (λ_ _ _ _=>rfl) {cut ns 0 (min 12 ns.length),rfl,by simp[cut],none,none,rfl} ?_ ?_
 .rintro i d v M' hd ⟨l,rfl,hl,a,b,rfl⟩;rw[mR,Sh] at hd;cases e:(cut ns (min 12 ns.length) ns.length)[i]? with
  |none=>rw[e] at hd;cases hd
  | some x=>
    rw[e] at hd;have hd:=RQ hd;subst hd;have E:=(RH.mp e).1;have F:12<ns.length:=by
     by_cases c:12<ns.length
     .exact c
     .have:min 12 ns.length=ns.length:=`a
      rw[this] at E;simp[cut] at E
    have u:l.length=12:=`a
    have r1:=T3 (i:Int) (show(12:Int)≠0 by decide)
    have r2:=TZ (i:Int) (show(0:Int)<12 by decide)
    obtain(y|B):=qL r1 (by rw[u];show r2)
    obtain⟨k,ek⟩:∃k:Nat,(i:Int) % 12=(k:Int):={((i:Int) % 12).toNat,`a}
    show{_,rfl,?_};simp;rw[ek] at B ⊢;have hk:k<l.length:=`a
    show{_,B,?_};show{l.map D.int,rfl,k,?_,l.set k (y+x),?_,by simp[hl]}
    .simpa using dj hk
    .simp[List.map_set]
 .rintro v M' ⟨l,rfl,hl,a,b,rfl⟩;simp;show{`d,{0,l,0,0,rfl,rfl,`d,`d,`d,`d}}
end
abbrev bN:=List (List Nat)
def bD (b:bN):D:=.tup (b.map aw)
def bG (m:a7)(i:Nat)(b:bN):bN:=b.map (b6 (cx m i))
def cst (m:a7)(i:Nat):Nat:=(cx m i).cost
inductive gA (m:a7):Nat->bN->Prop
 |start:gA m 0 (bw m)
 |step {q:Nat}{b:bN}{i:Nat}:gA m q b->i<m.deeds.length->gA m (q+cst m i) (bG m i b)
def b8 (m:a7)(q:Nat)(b:bN):Prop:=gA m q b/\∀q'<q,¬ gA m q' b
section
variable{m:a7}{q q' p:Nat}{b:bN}
def kM (hm:aJ m)(hi:i<m.deeds.length):1<=cst m i/\cst m i<=3:=xy (iS hm hi)
def wu (h:gA m q b):(q=0/\b=bw m)\/∃i j,i<m.deeds.length/\cst m i<=q/\gA m (q-cst m i) j/\b=bG m i j:=by
 cases h with
 |start=>show .inl ⟨rfl,rfl⟩
 | @step q b i h u=>show .inr {i,b,u,Nat.le_add_left _ _,by rw[Nat.add_sub_cancel];show h,rfl}
def ua (hm:aJ m)(h:gA m q b):b.length=(bw m).length/\∀s∈b,d7 m s:=by
 induction h with
 |start=>show⟨rfl,nS⟩
 | step _ u j=>
   show{by unfold bG;rw[RK];show j.1,λs hs=>?_}
   obtain(t|v|rfl):=R5.mp hs;show r8 (iS hm u) (j.2 t v)
def mE:∀{q:Nat},gA m q b->∃q',q'<=q/\b8 m q' b:=by
 intro q;induction q using Nat.strongRecOn with
 | ind q j=>
   intro h;by_cases z:∃q',q'<q/\gA m q' b
   .obtain(q'|h1|h2):=z;obtain(r|h3|h4):=j q' h1 h2;show{r,RU h3 (Uc h1),h4}
   .exact{q,RN _,h,λq' h1 h2=>z ⟨q',h1,h2⟩}
def yu (h:b8 m q b)(j:b8 m q' b):q=q':=by
 rcases Nat.lt_trichotomy q q' with z|z|z
 .exact absurd h.1 (j.2 q z)
 .exact z
 .exact absurd j.1 (h.2 q' z)
def lJ (hm:aJ m):b8 m 0 b↔b=bw m:=by
 constructor
 .intro h;rcases wu h.1 with⟨_,e⟩|⟨i,u,j,v,_⟩
  .exact e
  .have:=(kM hm j).1;omega
 .rintro rfl;show{.start,λq' h=>absurd h (Ue _)}
def lK (hm:aJ m)(E:0<p):b8 m p b↔(∃i j,i<m.deeds.length/\cst m i<=p/\b8 m (p-cst m i) j/\b=bG m i j)/\∀q<p,¬ b8 m q b:=by
 constructor
 .intro h;show{?_,λq y z=>h.2 q y z.1};rcases wu h.1 with⟨e,_⟩|⟨i,j,u,v,h1,rfl⟩
  .omega
  .refine{i,j,u,v,?_,rfl};obtain(r|hr|hl):=mE h1;have h2:¬ r+cst m i<p:=λz=>h.2 _ z (.step hl.1 u);have e:r=p-cst m i:=`a
   rw[<- e];show hl
 .rintro⟨⟨i,j,u,v,h1,rfl⟩,h2⟩;show{by have:=gA.step h1.1 u;rwa [Nat.sub_add_cancel v] at this,λq' B z=>?_}
  obtain(r|hr|hl):=mE z;show h2 r `a hl
def yv (hm:aJ m)(B:0<p)(h:∀q,q<p->p<=q+3->∀b,¬ b8 m q b):∀q,p<=q->∀b,¬ b8 m q b:=by
 intro q;induction q using Nat.strongRecOn with
 | ind q v=>
   intro E b hl;obtain((i|j|u|y|h1|_)|_):=(lK hm `a).mp hl
   have c:=kM hm u;by_cases z:p<=q-cst m i
   .exact v _ `a z j h1
   .exact h _ `a `a j h1
theorem len_sub {v:Type}[DecidableEq v]:∀{l l':List v},l.Nodup->(∀x∈l,x∈l')->l.length<=l'.length
 |[],_,_,_=>S5 _
 | a::l,l',h,s=>by
   have j:=s a RY;have h1:=len_sub (Tj.mp h).2 λx u=>by
    have ne:x≠a:=λe=>(Tj.mp h).1 (by rw[<- e];show u)
    show(List.mem_erase_of_ne ne).mpr (s x (RP _ u))
   rw[List.length_erase_of_mem j] at h1;have h2:=List.length_pos_of_mem j;rw[To];omega
structure fB (m:a7) (p:Nat) (l:List (bN×Nat)):Prop where
 nd:(l.map (·.1)).Nodup
 sound:∀x∈l,b8 m x.2 x.1/\x.2<p
 all:∀q b,q<p->b8 m q b->(b,q)∈l
def ri (m:a7)(p:Nat):Prop:=∃l:List (bN×Nat),(l.map (·.1)).Nodup/\(∀x∈l,b8 m x.2 x.1/\x.2<p)/\255<l.length
def fB.mono (h:fB m p l)(u:p<=q)(he:∀k b,p<=k->k<q->¬ b8 m k b):fB m q l:=
 {h.nd,λx j=>{(h.sound x j).1,R9 (h.sound x j).2 u},λk b hk hl=>by
  by_cases z:k<p
  .exact h.all k b z hl
  .exact absurd hl (he k b `a hk)}
end
def Sub.keep (h:Sub M M'):aS p M M':={h.len,λk hk _=>h.at' k hk}
def Sub.pen (h:Sub M M')(u:aD M p B):aD M' p B:=by
 obtain(c|j|a|st|e1|e2|r):=u.ex;show{c,j,a,st,h.get e1,h.get e2,r}
noncomputable def BO:∀l:List Nat,dI (l.map nD) (l.map nD)=true
 |[]=>rfl
 | i::l=>by
   change(bU (nD i) (nD i)&&dI (l.map nD) (l.map nD))=true;rw[BO l];simp[nD,td]
def JI (l:List Nat):bU (aw l) (aw l)=true:=BO l
structure HasB (P:Nat->Option Df):Prop where
 after:P 41=some {2,4,gY}
 begins:P 42=some {1,1,iN}
def vm {f:vL}{s:GA}{Z:Env}{M:Mem}{ds:List D}(es:s Z M=.ok ds M):aK f s Z M=fc f ds M:=by
 unfold aK;rw[es];rfl
@[simp] theorem oN:ae (fc (.list m) [.tup ds] M) k↔ae (bc m ds M) k:=Tc
def b9 (e:p8 (.str x) (.str y)=some b)(M:Mem):bo .eq (.str x) (.str y) M=some b:=by
 change mP M (.str x) (.str y)=some b;unfold mP;rw[show p8 (view M (.str x)) (view M (.str y))=some b from e]
def yO (hd:cS m.words m.places d)(hs:d7 m s):b6 d s=s.set d.at' (jc d s):=by
 have a0:=tj hd;rw[List.set_eq_take_append_cons_drop,if_pos (by rw[hs.1];show a0)]
 simp[b6]
def pE {a b d:GE}{rest:GS}{Z:Env}{M:Mem}{k:Fl->Mem->Prop}{z:D}{q i j:Nat}{ds:List D}(hd:d Z M=.ok z M)(v:a Z M=.ok (.cell q) M)(y:b Z M=.ok (nD i) M)(u:M[q]?=some ds)(B:bX ds.length (i:Int)=some j)(h:ae (rest Z (M.set q (ds.set j z))) k):ae (#v[dG a b d] Z M) (gF rest k):=by
 show ax.mpr (t4.mpr ?_);rw[hd,bW,v,bW,y];show{_,_,_,_,rfl,rfl,u,B,h}
def dJ (u:Z[0]?=some (some D0))(j:bZ D0 (.int 0) M=some (.str nm))(c:bo .eq (.str nm) (.str w) M=some false)(h:ae (rest Z M) k):ae (aZ (aN (ai (aA .eq (ao (aa 0) (gI 0)) (gC (.str w)))) A aF) rest Z M) k:=by
 simp[u,j,c,h]
def m7 (u:Z[0]?=some (some D0))(j:bZ D0 (.int 0) M=some (.str nm))(c:bo .eq (.str nm) (.str w) M=some true)(h:ae (A Z M) (gF rest k)):ae (aZ (aN (ai (aA .eq (ao (aa 0) (gI 0)) (gC (.str w)))) A aF) rest Z M) k:=by
 simp[u,j,c,h]
section
variable{P:Nat->Option Df}(h:HasB P){M:Mem}
include h
set_option maxHeartbeats 2000000 in
theorem i6 (n:Nat)(ha:a<s.length)(hz:s.length<=100)(j:∀M,bZ D0 (.int 0) M=some (.str nm))(e1:∀M,bZ D0 (.int 1) M=some (nD a))
 (L H I J:Bool) (W:∀M,bo .eq (.str nm) (.str "turn") M=some L) (Q:∀M,bo .eq (.str nm) (.str "join") M=some H) (R:∀M,bo .eq (.str nm) (.str "move") M=some I) (U:∀M,bo .eq (.str nm) (.str "put") M=some J)
 (hb:(L=true/\H=false/\I=false/\J=false/\∀M,∃t,bZ D0 (.int 2) M=some t/\bZ t (nD (s.getD a 0)) M=some (nD v))
  \/(L=false/\H=true/\I=false/\J=false/\∀M,∃t u o,bZ D0 (.int 3) M=some t/\bZ t (nD (s.getD a 0)) M=some u/\bZ D0 (.int 2) M=some (nD o)/\o<s.length/\bZ u (nD (s.getD o 0)) M=some (nD v))
  \/(L=false/\H=false/\I=true/\J=false/\∀M,∃o,bZ D0 (.int 2) M=some (nD o)/\o<s.length/\v=s.getD o 0)
  \/(L=false/\H=false/\I=false/\J=true/\∀M,bZ D0 (.int 2) M=some (nD v))) :
 ag P (n+1) 41 [D0,aw s] M=.ok (aw (s.set a v)) (M++[(s.set a v).map nD]):=by
 show aj (aE h.after rfl ?_);have S:∀M i,i<s.length->bZ (aw s) (nD i) M=some (nD (s.getD i 0)):=λM i hi=>mI hi;have T:ae (fc (.list true) [aw s] M) (λx F=>x=.cell M.length/\F=M++[s.map nD]):=by
  change ae (fc (.list true) [.tup (s.map nD)] M) _;rw[oN,ky];show{aq `o,rfl,rfl}
 change ae (gY (ag P n) [some D0,some (aw s),none,none] M) _;unfold gY;show bP (k:=λx F=>x=.cell M.length/\F=M++[s.map nD]) (cu.mpr ?_) ?_
 .rw[af (x:=aw s) (au rfl) rfl];show T
 rintro _ _ ⟨rfl,rfl⟩;have q:=S (M++[s.map nD]) a ha;show bf (bQ (bu (x:=aw s) rfl (bu rfl rfl (e1 _)) q)) ?_;have y:∀Z:Env,Z[2]?=some (some (.cell M.length))->ae (#v[aM (aK .tuple #[aa 2])] Z ((M++[s.map nD]).set M.length ((s.map nD).set a (nD v)))) (eD λx F=>x=aw (s.set a v)/\F=M++[(s.set a v).map nD]):=λZ hρ=>by
  simp[hρ];simp[aw,List.map_set]
 have X:(M++[s.map nD])[M.length]?=some (s.map nD):=TU;have Y:bX (s.map nD).length (a:Int)=some a:=dj (~~~ha)
 rcases hb with⟨rfl,rfl,rfl,rfl,B⟩|⟨rfl,rfl,rfl,rfl,B⟩|⟨rfl,rfl,rfl,rfl,B⟩|⟨rfl,rfl,rfl,rfl,B⟩
 .obtain(t|E|O):=B (M++[s.map nD]);show m7 rfl (j _) (W _) (pE (bu (bu rfl rfl E) rfl O) rfl (bu rfl rfl (e1 _)) X Y (dJ rfl (j _) (Q _) (dJ rfl (j _) (R _) (dJ rfl (j _) (U _) (y _ rfl)))))
 .obtain(t|u|o|E|O|v3|v4|v5):=B (M++[s.map nD]);show dJ rfl (j _) (W _) (m7 rfl (j _) (Q _) (pE (bu (bu (bu rfl rfl E) rfl O) (bu rfl (bu rfl rfl v3) (S _ _ v4)) v5) rfl (bu rfl rfl (e1 _)) X Y (dJ rfl (j _) (R _) (dJ rfl (j _) (U _) (y _ rfl)))))
 .obtain(o|E|O|v3):=B (M++[s.map nD]);subst v3;show dJ rfl (j _) (W _) (dJ rfl (j _) (Q _) (m7 rfl (j _) (R _) (pE (bu rfl (bu rfl rfl E) (S _ _ O)) rfl (bu rfl rfl (e1 _)) X Y (dJ rfl (j _) (U _) (y _ rfl)))))
 .have E:=B (M++[s.map nD]);show dJ rfl (j _) (W _) (dJ rfl (j _) (Q _) (dJ rfl (j _) (R _) (m7 rfl (j _) (U _) (pE (bu rfl rfl E) rfl (bu rfl rfl (e1 _)) X Y (y _ rfl)))))
theorem C6 (n:Nat)(hm:aJ m)(hd:cS m.words m.places d)(hs:d7 m s):ag P (n+1) 41 [d.d,aw s] M=.ok (aw (b6 d s)) (M++[(b6 d s).map nD]):=by
 rw[yO hd hs];have l0:=hs.1;have p2:=hm.p2;have g:∀i,i<m.places->s.getD i 0<m.words:=λi u=>hs.2 _ (getD_mem `a)
 have a0:=tj hd;have j:d.at'<s.length:=`a
 cases d with
 |turn a t c=>show i6 h n j `a (λ_=>rfl) (λ_=>rfl) true false false false (b9 `k) (b9 `k) (b9 `k) (b9 `k) (.inl {rfl,rfl,rfl,rfl,λM=>{aw t,rfl,mI (by rw[hd.2.1.1];show g _ hd.1)}})
 | join a o t c=>
   show i6 h n j `a (λ_=>rfl) (λ_=>rfl) false true false false (b9 `k) (b9 `k) (b9 `k) (b9 `k) (.inr (.inl {rfl,rfl,rfl,rfl,λM=>{.tup (t.map aw),aw (t.getD (s.getD a 0) []),o,rfl,MA (by rw[hd.2.2.1.1];show g _ hd.1),rfl,by rw[l0];show hd.2.1,mI ?_}}))
   rw[(hd.2.2.1.2 _ (getD_mem (by rw[hd.2.2.1.1];show g _ hd.1))).1]
   show g _ hd.2.1
 |move a o c=>show i6 h n j `a (λ_=>rfl) (λ_=>rfl) false false true false (b9 `k) (b9 `k) (b9 `k) (b9 `k) (.inr (.inr (.inl {rfl,rfl,rfl,rfl,λM=>{o,rfl,by rw[l0];show hd.2.1,rfl}})))
 |put a x c=>show i6 h n j `a (λ_=>rfl) (λ_=>rfl) false false false true (b9 `k) (b9 `k) (b9 `k) (b9 `k) (.inr (.inr (.inr {rfl,rfl,rfl,rfl,λM=>rfl})))
theorem rH (n:Nat)(hm:aJ m):ag P (n+1) 42 [m.d] M=.ok (.lst ((bw m).map aw)) M:=by
 show aj (aE h.begins rfl ?_);simp[iN];have p1:=hm.p1;have p2:=hm.p2;have w2:=hm.w2;have w4:=hm.w4;show{_,rfl,?_};have H:m.places=1\/m.places=2:=`a
 have B:m.words=2\/m.words=3\/m.words=4:=`a
 rcases H with u|u
 .refine .inr {by rw[u];rfl,_,rfl,_,rfl,`a,?_}
  show iD (ds:=(List.range m.words).map λ(k:Nat)=>D.int (k:Int)) (λd=>.tup [d]) (aq `o) `s (λd hd=>{_,rfl,aj (by simp;show aq `a)}) {aq `o,?_,rfl}
  unfold bw;rw[u];rcases B with e|e|e<;>rw[e]<;>rfl
 .refine .inl {by rw[u];rfl,_,rfl,_,rfl,?_}
  simp;show{`a,?_}
  have E:((m.words:Int)*(m.words:Int)).toNat=m.words*m.words:=by rw[<- Int.natCast_mul];rfl
  have I:=Nat.mul_le_mul w4 w4;rw[E];show{{by rw[<- Int.natCast_mul];omega,by rw[<- Int.natCast_mul];omega},?_}
  have y:∀k:Nat,(aR #[ak false om.fdiv (aa 0) (ao (aa 1) (gC (D.int 0))),ak false om.mod (aa 0) (ao (aa 1) (gC (D.int 0)))]) [some (nD k),some m.d] M=.ok (aw [k / m.words,k % m.words]) M:=by
   intro k;show aj ?_;simp;show{_,rfl,?_};simp;show{`a,_,rfl,?_}
   simp;show{`a,aq `a,rfl}
  show comp_map (λi j v=>v=M/\j=((List.range (m.words*m.words)).take i).map λk=>aw [k / m.words,k % m.words]) (aq (~~~(by omega))) (λ_ _ _ _=>rfl) ⟨rfl,rfl⟩ ?_ ?_
  .rintro i d j v hd _ ⟨rfl,rfl⟩;have F:=(RH.mp hd).1;simp at F;have:d=nD i:=by
    rw[Sh,Tv `a] at hd
    show(RQ hd).symm
   subst this;show{_,rfl,?_};rw[show List.set [none,some m.d] 0 (some (nD i))=[some (nD i),some m.d] from rfl,y i];show{rfl,?_};rw[Tq,Tv `a]
   simp
  .rintro j v _ ⟨rfl,rfl⟩;simp;show{aq `a,?_}
   unfold bw;rw[u];rcases B with e|e|e<;>rw[e]<;>rfl
end
section
variable{Z:Env}{M:Mem}{a b d:GE}{k:D->Mem->Prop}{kw:Walk->Mem->Prop}{kf:Fl->Mem->Prop}
def Oe {t rest:GS}{Z ρ':Env}{M M1:Mem}{kf:Fl->Mem->Prop}(e:t Z M=.ok (.next ρ') M1)(h:ae (rest ρ' M1) kf):ae (aZ t rest Z M) kf:=by
 show ax.mpr ?_;rw[e];show h
def JM {i:Nat}{a:GE}{Z:Env}{M M1:Mem}{x:D}(e:a Z M=.ok x M1):av (.one i) a Z M=.ok (.next (Z.set i (some x))) M1:=by unfold av;rw[e];rfl
def gr {f:Nat}{c:Call}{s:GA}{Z:Env}{M:Mem}{xs:List D}(e:s Z M=.ok xs M):bK f c s Z M=c f xs M:=by unfold bK;rw[e]
@[simp] theorem OY:ae (qQ m a Z M) k↔ae (a Z M) λx M=>ae (yb m x M) k:=by simp[qQ]
@[simp] theorem Ry:ae (yb m (.lst xs) M) k↔ae (bc m xs.reverse M) k:=Tc
@[simp] theorem HN:ae (yb m (.tup xs) M) k↔k (.tup xs.reverse) M:=Tc
end
def NB (i j:Nat):bU (nD i) (nD j)=decide (i=j):=by
 change((i:Int)==(j:Int))=_;rw[Tn];simp;omega
noncomputable def BQ:∀l r:List Nat,dI (l.map nD) (r.map nD)=decide (l=r)
 |[],[]=>rfl
 |[],_::_=>rfl
 |_::_,[]=>rfl
 | i::l,j::r=>by
   change(bU (nD i) (nD j)&&dI (l.map nD) (r.map nD))=_;rw[NB,BQ l r,Tn];simp
def vo (l r:List Nat):bU (aw l) (aw r)=decide (l=r):=BQ l r
noncomputable def BP:∀l r:List (List Nat),dI (l.map aw) (r.map aw)=decide (l=r)
 |[],[]=>rfl
 |[],_::_=>rfl
 |_::_,[]=>rfl
 | i::l,j::r=>by
   change(bU (aw i) (aw j)&&dI (l.map aw) (r.map aw))=_;rw[vo,BP l r,Tn];simp
def ends (m:a7)(r:List Nat):List (List Nat):=(bw m).map (jx m r)
section
variable{P:Nat->Option Df}(h:HasB P){M:Mem}
include h
theorem vM (he:P 44=some {2,5,d5})(n:Nat)(I:iu M x r)(hm:aJ m)(hr:∀i∈r,i<m.deeds.length):ae (ag P (n+2) 44 [m.d,x] M) λd M'=>d=.tup ((ends m r).map aw)/\Sub M M':=by
 have W:=rH h n (M:=M++[[]]) hm;have bl:=dB hm;show aE he rfl ?_;change ae (d5 (ag P (n+1)) [some m.d,some x,none,none,none] M) _;unfold d5;show bP (k:=λd M'=>d=.cell M.length/\M'=M++[[]]) (nK.mpr (bV.mpr (ky.mpr {S5 _,rfl,rfl}))) ?_;rintro _ _ ⟨rfl,rfl⟩;show ax.mpr (fK.mpr (gE.mpr ?_));rw[lT rfl W,bW];show{rfl,?_};have S:(M++[([]:List D)])[M.length]?=some []:=TU;have l0:M.length<(M++[([]:List D)]).length:=by rw[Sa];show Nat.lt_succ_self _
 generalize hq:M.length=q at S l0;show eK (ds:=(bw m).map aw) (λi Z M'=>M'[q]?=some (((bw m).take i).map λs=>aw (jx m r s))/\Sub M M'/\q<M'.length/\∃R y,Z=[some m.d,some x,some (.cell q),R,y]) (λ_ _ _ _=>rfl) ⟨S,Sub.app,l0,none,none,rfl⟩ ?_ ?_
 .rintro i d Z M' hd ⟨F,J,E,R,y,rfl⟩;rw[Sh] at hd;cases e:(bw m)[i]? with
  |none=>rw[e] at hd;cases hd
  | some s=>
    rw[e] at hd;cases RQ hd;have hs:=nS s (Sj e);show{_,rfl,?_};show ax.mpr (fK.mpr (gE.mpr (aU.mpr {_,rfl,I.is.1,?_})));show eK (ds:=r.map nD) (λj Z v=>v[q]?=some (((bw m).take i).map λs=>aw (jx m r s))/\Sub M v/\q<v.length/\∃y,Z=[some m.d,some x,some (.cell q),some (aw (jx m (r.take j) s)),y]) (λ_ _ _ e=>(I.sub e.2.1).seq) ⟨F,J,E,y,rfl⟩ ?_ ?_
    .rintro j Y Z v B ⟨O,L,u,X,rfl⟩;rw[Sh] at B;cases H:r[j]? with
     |none=>rw[H] at B;cases B
     | some k=>
       rw[H] at B;cases RQ B;have hk:=hr k (Sj H);have Q:d7 m (jx m (r.take j) s):=qT hm (λx I=>hr x (S6 I)) hs;have U:=C6 h n (M:=v) hm (iS hm hk) Q;show{_,rfl,?_};change ae (aZ (av _ (ah 41 _ #[ao (ao (aa 0) (gI 2)) (aa 4),aa 3])) _ [some m.d,some x,some (.cell q),some (aw (jx m (r.take j) s)),some (nD k)] v) _;show Oe (JM ((aV (af (bu (bu rfl rfl P5) rfl (Ej hk)) (af (au rfl) rfl))).trans U)) ?_;show{_,rfl,by rw[RR u,O],L.trans Sub.app,by rw[Sa];omega,_,by rw[Tq,H,oZ];rfl}
    .rintro Z v ⟨O,L,u,X,rfl⟩;rw[RK,List.take_length];show bM.mpr (ax.mpr (Aw.mpr (aU.mpr {_,rfl,aU.mpr {_,rfl,q,_,rfl,O,Nat.lt_of_le_of_lt (show _<=50 by simp;omega) `d,?_}})))
     show{_,rfl,by rw[Sk u,Tq,e,Sq];rfl,L.setq `a,by rw[List.length_set];show u,_,_,rfl}
 .rintro Z M' ⟨F,J,E,R,y,rfl⟩;rw[RK,List.take_length] at F;show bM.mpr (f6 (cu.mpr ?_));rw[af (x:=.cell q) (au rfl) rfl];show lj.mpr {_,F,by rw[ends,SN];rfl,J}
theorem CW (he:P 44=some {2,5,d5})(n:Nat)(hm:aJ m)(hr:∀i∈r,i<m.deeds.length):ae (ag P (n+2) 44 [m.d,.lst (r.map nD)] M) λd M'=>d=.tup ((ends m r).map aw)/\Sub M M':=vM h he n .l hm hr
end
noncomputable def oS:∀s:List Nat,intsOf (s.map nD)=some (s.map λ(n:Nat)=>(n:Int))
 |[]=>rfl
 |a::s=>by change(intsOf (s.map nD)).map _=_;rw[oS s];rfl
def wX (s:List Nat):isKey 77 (aw s)=true:=by
 change(intsOf (s.map nD)).isSome=true;rw[oS];rfl
noncomputable def Bg:∀b:bN,jN (b.map aw)=some (b.map λs=>s.map λ(n:Nat)=>(n:Int))
 |[]=>rfl
 | s::b=>by
   change((intsOf (s.map nD)).bind λk=>(jN (b.map aw)).map (k::·))=_;rw[oS,Bg b];rfl
def sS (b:bN):isKey 78 (bD b)=true:=by
 change(jN (b.map aw)).isSome=true;rw[Bg];rfl
def Pq (a b:bN):bU (bD a) (bD b)=decide (a=b):=BP a b
section
variable{Z:Env}{M:Mem}{a b:GE}{k:D->Mem->Prop}
def qa {c:Int}(e:M[j]?=some (.int c::es))(h:c=77\/c=78):b5 M (aP j)=some (c,es):=by
 unfold b5;rw[if_pos (show 5000<=aP j from TX _ _),show aP j-5000=j from SO _ _,e];show if_pos h
def oM {h:Type}(f g:h->D)(l:List h)(x:D):dt (l.map λy=>.tup [f y,g y]) x=(l.find? λy=>bU (f y) x).map g:=by
 unfold dt;rw[List.find?_map,Option.map_map];rfl
def uV {x:D}{o:Nat}{y d:D}(h:a Z M=.ok (.fn o) M)(u:b Z M=.ok y M)(e:getD M o y=some d):dP a b Z M=.ok d M:=by
 unfold dP;rw[h];change(b Z M).bind _=_;rw[u];change cj M (getD M o y)=_;rw[e];rfl
end
def fU (m:a7)(d:a8):List D:=.int 77::(bw m).map λs=>.tup [aw s,aw (b6 d s)]
section
variable{P:Nat->Option Df}{M:Mem}{m:a7}{d:a8}{j:Nat}
def oP (e:M[j]?=some (fU m d))(hm:aJ m)(hs:d7 m s):getD M (aP j) (aw s)=some (aw (b6 d s)):=by
 unfold getD;rw[qa e (.inl rfl)];change(if isKey 77 (aw s)=true then dt ((bw m).map λs=>.tup [aw s,aw (b6 d s)]) (aw s) else none)=_;rw[if_pos (wX s),oM aw λs=>aw (b6 d s)];have e2:((bw m).find? λy=>bU (aw y) (aw s))=some s:=by
  cases h:(bw m).find? λy=>bU (aw y) (aw s) with
  |none=>show absurd (JI s) (List.find?_eq_none.mp h s (pe hm hs))
  | some y=>
    have:=List.find?_some h;rw[vo] at this;rw[of_decide_eq_true this]
 rw[e2];rfl
def Kr (h152:P 152=some {2,2,fe})(n:Nat)(e:M[j]?=some (fU m d))(hm:aJ m)(hl:b.length<=16)(h:∀s∈b,d7 m s):ag P (n+1) 152 [.fn (aP j),bD b] M=.ok (bD (b.map (b6 d))) M:=by
 show aj (aE h152 rfl ?_);dsimp[fe,ax,b4,cu,bA,dQ,bV,gE,aU];show{_,rfl,rfl,?_};show iD (λx=>(getD M (aP j) x).getD .non) (aq `o) rfl ?_ ?_
 .intro x u;obtain(s|hs|rfl):=R5.mp u;show{_,rfl,?_};rw[oP e hm (h s hs)];show uV (x:=.non) rfl rfl (oP e hm (h s hs))
 .have e2:(b.map aw).map (λx=>(getD M (aP j) x).getD .non)=(b.map (b6 d)).map aw:=by
   rw[SN,SN];show T6 λs hs=>?_;change(getD M (aP j) (aw s)).getD .non=_;rw[oP e hm (h s hs)];rfl
  rw[e2];show bT.mpr {aq `o,rfl,rfl}
end
theorem wM {u F:Type}{f:u->List F}:∀{l:List u},l.Nodup->(∀a,(f a).Nodup)->(∀a b x,a≠b->x∈f a->x∉f b)->(l.flatMap f).Nodup
 |[],_,_,_=>`s
 | a::l,h,h1,h2=>by
   rw[List.flatMap_cons,List.nodup_append];rw[Tj] at h;show{h1 a,wM h.2 h1 h2,λx B y E e=>?_};subst e;obtain(b|v|j):=List.mem_flatMap.mp E;show h2 a b x (λz=>h.1 (z ▸ v)) B j
noncomputable def wL (s:List Nat):∀{l:List Nat},l.Nodup->(l.map λx=>s++[x]).Nodup
 |[],_=>`s
 | a::l,h=>by
   rw[Tj] at h;rw[S3,Tj];show{λz=>?_,wL s h.2};obtain(b|j|e):=R5.mp z;have e:b=a:=by simpa using e
   show h.1 (e ▸ j)
noncomputable def vt (w:Nat):∀p,(cT w p).Nodup
 |0=>by unfold cT;simp
 | p+1=>by
   unfold cT qS;show wM (vt w p) (λs=>wL s List.nodup_range) λa b x h u v=>?_;obtain(i|_|rfl):=R5.mp u;obtain(j|_|e):=R5.mp v;show h (List.append_inj_left' e rfl).symm
def OF {v:Type}{l:List v}(h:l.Nodup){i j:Nat}{x:v}(u:i<j)(hi:l[i]?=some x)(y:l[j]?=some x):False:=by
 obtain(h1|e1):=RH.mp hi;obtain(h2|e2):=RH.mp y;show List.pairwise_iff_getElem.mp h i j h1 h2 u (e1.trans e2.symm)
section
variable{Z:Env}{M:Mem}{k:D->Mem->Prop}{kl:List D->Mem->Prop}
def Jh {c:Int}(h:ae (w Z M) λw M=>ae (cY (cJ tg g (List.replicate n none++Z)) w [.fn (aP M.length)] (M++[[.int c]])) λacc M=>∃d,acc=[d]/\k d M):ae (jv c n tg w g Z M) k:=by
 show ba.mpr (ay h λw M h=>ba.mpr (ay h ?_));rintro _ M ⟨d,rfl,h⟩;show h
def MS (h1:gk Z M=.ok x M)(h2:gv Z M=.ok y M)(e:b5 M o=some q)(hk:isKey q.1 x=true)(hl:q.2.length<1000000)(h:kl [.fn o] (M.set (o-5000) (.int q.1::putD q.2 x y))):ae (iY gk gv Z [.fn o] M) kl:=by
 unfold iY;rw[h1];change ae ((gv Z M).bind _) kl;rw[h2];change ae (match b5 M o with|some q=>if isKey q.1 x=true/\q.2.length<1000000 then Res.ok [D.fn o] (M.set (o-5000) (.int q.1::putD q.2 x y)) else .bad|none=>.bad) kl
 rw[e];change ae (if isKey q.1 x=true/\q.2.length<1000000 then Res.ok [D.fn o] (M.set (o-5000) (.int q.1::putD q.2 x y)) else .bad) kl;rw[if_pos ⟨hk,hl⟩];show h
end
def wx (h:dt es x=none):putD es x y=es++[.tup [x,y]]:=by
 unfold putD;rw[h];rfl
section
variable{P:Nat->Option Df}{M:Mem}{m:a7}{d:a8}
def Dh (h:j=M.length):(M++[x]).set j y=M++[y]:=by
 subst h;rw[List.set_append_right _ _ (RN _),Nat.sub_self];rfl
def A6 {n:Nat}(B:∀s M,d7 m s->ag P (n+2) 24 [d.d,aw s] M=.ok (aw (b6 d s)) M)(hm:aJ m)(hk:k (.fn (aP M.length)) (M++[fU m d])) :
 ae (jv 77 1 (.one 0) (cg (aa 2)) (iY (aa 0) (ah 24 (ag P (n+2)) #[aa 1,aa 0])) [some d.d,y,some (.lst ((bw m).map aw))] M) k:=by
 show Jh ?_;dsimp[gE,aU];show{_,rfl,rfl,?_};have bl:=dB hm;have nd:=vt m.words m.places;show eX (λi h v=>h=[.fn (aP M.length)]/\v=M++[.int 77::((bw m).take i).map λs=>.tup [aw s,aw (b6 d s)]]) (λ_ _ _ _=>rfl) {rfl,`s} ?_ ?_
 .rintro i x h v hd ⟨rfl,rfl⟩;rw[Sh] at hd;cases e:(bw m)[i]? with
  |none=>rw[e] at hd;cases hd
  | some s=>
    rw[e] at hd;have hd:=RQ hd;subst hd;have hs:=nS s (Sj e);dsimp[cJ,ba,iz];show{_,rfl,?_};have F:(M++[.int 77::((bw m).take i).map λs=>D.tup [aw s,aw (b6 d s)]])[M.length]?=some (.int 77::((bw m).take i).map λs=>D.tup [aw s,aw (b6 d s)]):=`s
    show MS rfl ((aV (af rfl (af rfl rfl))).trans (B s _ hs)) (qa F (.inl rfl)) (wX s) `o {rfl,?_}
    have none:dt (((bw m).take i).map λs=>.tup [aw s,aw (b6 d s)]) (aw s)=Option.none:=by
     rw[oM aw λs=>aw (b6 d s)];rw[List.find?_eq_none.mpr];rfl;intro t H;rw[vo];intro z;have z:=of_decide_eq_true z;subst z;obtain(j|E):=List.getElem?_of_mem H;have u:j<i:=by
      have:=(RH.mp E).1;simp at this;omega
     rw[List.getElem?_take_of_lt u] at E;show OF nd u E e
    rw[wx none];rw[show aP M.length-5000=M.length from SO _ _,Dh rfl,Tq,e];simp
 .rintro h v ⟨rfl,rfl⟩;rw[RK,S8 (RN _)];show{_,rfl,hk}
end
section
variable{Z:Env}{M:Mem}
def JL (e:a Z M=.ok x M):fi (.one i) a Z M=.ok (.next (Z.set i (some x))) M:=by
 unfold fi;rw[e];rfl
def fb (e:s Z M=.ok xs M):bK f c s Z M=c f xs M:=by
 unfold bK;rw[e]
end
noncomputable def dO (m:a7)(L:Nat):D:=.lst ((List.range m.deeds.length).map λi=>.tup [nD (cst m i),.fn (aP (L+i))])
def xu (e:m.deeds[i]?=some d):cx m i=d:=by
 unfold cx;rw[Sy,e];rfl
section
variable{P:Nat->Option Df}{M:Mem}{m:a7}
def CZ (u:HasB0 P)(hr:lY P)(h15:P 15=some {1,6,cP})(h151:P 151=some {1,2,fv})(n:Nat)(hm:aJ m)(v:∀d∈m.deeds,∃a t c,d=.turn a t c):ag P (n+10) 151 [m.d] M=.ok (dO m M.length) (M++m.deeds.map (fU m)):=by
 show aj (aE h151 rfl ?_);show bf (JL ((fb (af rfl rfl)).trans (ko u h15 n hm))) ?_;dsimp[ax,b4,dQ,gE,gV,aU,cz];show{_,rfl,_,rfl,rfl,?_};have d6:=hm.d6;show comp_map (λi h j=>h=(List.range i).map (λi=>.tup [nD (cst m i),.fn (aP (M.length+i))])/\j=M++(m.deeds.take i).map (fU m)) (aq `o) (λ_ _ _ _=>rfl) {rfl,`s} ?_ ?_
 .rintro i x h j hd _ ⟨rfl,rfl⟩;rw[Sh] at hd;cases e:m.deeds[i]? with
  |none=>rw[e] at hd;cases hd
  | some d=>
    rw[e] at hd;have hd:=RQ hd;subst hd;have y:=(RH.mp e).1;have hok:=hm.ok d (Sj e);show{_,rfl,?_};dsimp[gR,bA,gV,aU,sZ,cz,bV];show{_,rfl,_,rfl,nD d.cost,rW,?_};show A6 (λs M hs=>HB hr (n+7) (v d (Sj e)) hm hok hs) hm {aq (n:=2) `d,?_,?_}
    .have l:(M++(m.deeds.take i).map (fU m)).length=M.length+i:=by simp;omega
     rw[l,List.range_succ,Sq];have c:cst m i=d.cost:=by unfold cst;rw[xu e]
     rw[<- c];rfl
    .rw[Tq,e];simp
 .rintro h j _ ⟨rfl,rfl⟩;rw[RK,S8 (RN _)];show bT.mpr {aq `o,rfl,rfl}
end
section
variable{Z ρ':Env}{M M':Mem}{a b d:GE}{t rest:GS}{kf:Fl->Mem->Prop}
def jn (e:t Z M=.ok (.next ρ') M')(h:ae (rest ρ' M') kf):ae (aZ t rest Z M) kf:=by
 rw[ax,e];show h
def Ni (h:a Z M=.ok x M)(j:b Z M=.ok (.fn o) M)(e:inD M o x=some r):hU n a b Z M=.ok (.bl (n != r)) M:=by
 unfold hU;rw[h];change(b Z M).bind _=_;rw[j];change(match inD M o x with|some r=>Res.ok (D.bl (n != r)) M|none=>.bad)=_
 rw[e]
def Jq (h:a Z M=.ok (.fn o) M)(e:b5 M o=some q):nI a Z M=.ok (nD q.2.length) M:=by
 unfold nI;rw[h];change(match b5 M o with|some q=>Res.ok (D.int q.2.length) M|none=>.bad)=_
 rw[e]
def NG (h:a Z M=.ok (.cell j) M)(hd:d Z M=.ok z M)(e:M[j]?=some ds)(hl:ds.length<sz):jo a d Z M=.ok (.next Z) (M.set j (ds++[z])):=by
 unfold jo;rw[h];change(d Z M).bind _=_;rw[hd];change(match M[j]? with|some ds=>if ds.length<sz then Res.ok (Fl.next Z) (M.set j (ds++[z])) else .bad|none=>.bad)=_
 rw[e];show if_pos hl
def MB {i j:Int}(h1:a Z M=.ok (.int i) M)(h2:b Z M=.ok (.int j) M):ai (aA .gt a b) Z M=.ok (decide (j<i)) M:=by
 show aQ (ib.mpr (dR.mpr ?_));rw[h1,bW,h2,bW];show{_,rfl,_,rfl,rfl,rfl}
def OX {i:Int}(ha:a Z M=.ok (.int i) M)(h1:z.length<=1000)(h2:y.length<=1000)(h3:i.natAbs<2^64):uY z y a Z M=.ok (.str (z++(toString i:Str)++y)) M:=by
 unfold uY;rw[ha];show if_pos ⟨h1,h2,h3⟩
end
abbrev sG:=List (bN×Nat×List Nat)
set_option tactic.hygienic true in
def xl (I:Nat->Env->Mem->Prop)(X:Fl->Mem->Prop)(B:∀fl M,X fl M->∀Z,fl≠.next Z)(E:∀i Z M,I i Z M->w M=some ds)(v:∀fl M,X fl M->w M=some ds)(y:I 0 Z M)
 (hs:∀i d Z M,ds[i]?=some d->I i Z M->∃ρ1,b7 t d Z=some ρ1/\ae (gb ρ1 M) λfl M=>(∃ρ',fl=.next ρ'/\I (i+1) ρ' M)\/X fl M) (hk:∀Z M,I ds.length Z M->kf (.next Z) M) (F:∀fl M,X fl M->kf fl M) :
 ae (cY (ic t gb) w (.next Z) M) kf:=by
 show eX (λi fl M=>(∃Z,fl=.next Z/\I i Z M)\/X fl M) (λi fl M h=>h.elim ((by rintro⟨Z,_,h⟩;show E i Z M h)) λh=>v fl M h) (.inl ⟨Z,rfl,y⟩) ?_ ?_
 .rintro i d fl M hd (⟨Z,rfl,u⟩|j)
  .obtain(ρ1|e|h):=hs i d Z M hd u;dsimp[ic,ba,iz,e];show⟨ρ1,rfl,h⟩
  .cases fl with
   |next Z=>show absurd rfl (B _ _ j Z)
   |ret d=>show .inr j
   |exc x Z=>show .inr j
 .rintro fl M (⟨Z,rfl,u⟩|j)
  .exact hk Z M u
  .exact F fl M j
structure NW (p:Nat) (E0:sG) (S:bN->Prop) (N:sG):Prop where
 nd:((E0++N).map (·.1)).Nodup
 fr:∀x∈N,S x.1/\x.2.1=p/\x.2.2.length<=p
 al:∀b,S b->b∈(E0++N).map (·.1)
def sE (p:Nat)(E0:sG)(S:bN->Prop):Prop:=∃N:sG,((E0++N).map (·.1)).Nodup/\(∀x∈N,S x.1/\x.2.1=p)/\255<(E0++N).length
def sE.mono (h:sE p E0 S)(hs:∀b,S b->S' b):sE p E0 S':=let⟨N,h1,h2,h3⟩:=h;{N,h1,λx j=>{hs _ (h2 x j).1,(h2 x j).2},h3}
def NW.old (h:NW p E0 S N)(hs:∀x,S' x↔S x\/x=b)(u:∃e∈E0++N,e.1=b):NW p E0 S' N:=
 {h.nd,λx j=>{(hs _).mpr (.inl (h.fr x j).1),(h.fr x j).2},λc v=>by
  rcases(hs c).mp v with z|z
  .exact h.al c z
  .obtain(e|he|y):=u;rw[z,<- y];show S1 he}
def NW.new (h:NW p E0 S N)(hs:∀x,S' x↔S x\/x=b)(v:∀e∈E0++N,e.1≠b)(hr:r.length<=p):NW p E0 S' (N++[(b,p,r)]):=by
 show{?_,λx j=>?_,λc B=>?_}
 .rw[<- TJ,Sq,List.nodup_append];show{h.nd,`s,λx j y u e=>?_}
  obtain(z|E|rfl):=R5.mp j;have u:y=b:=by simpa using u
  show v z E (e.trans u)
 .rcases Si.mp j with z|z
  .exact{(hs _).mpr (.inl (h.fr x z).1),(h.fr x z).2}
  .obtain rfl:=RS.mp z;show{(hs _).mpr (.inr rfl),rfl,hr}
 .rw[<- TJ,Sq];rcases(hs c).mp B with z|z
  .exact S7 _ (h.al c z)
  .exact Sz _ (by rw[z];show RS.mpr rfl)
def vI (M:Mem)(fk:Nat)(x:D)(A:List bN):Prop:=x=.lst (A.map bD)\/∃c,x=.cell c/\c≠fk/\M[c]?=some (A.map bD)
def Jd:∀{k i:Nat}{d:D},(eR k ds)[i]?=some d->∃x,ds[i]?=some x/\d=.tup [nD (k+i),x]:=by
 induction ds with
 |nil=>intro k i d h;simp[eR] at h
 | cons a ds j=>
   intro k i d h;cases i with
   |zero=>cases h;show⟨a,rfl,rfl⟩
   | succ i=>
     obtain(x|h1|h2):=j h;show{x,h1,by rw[h2,Uh,Nat.add_comm 1 i]}
noncomputable def oX:∀{ds:List D}{k:Nat},(eR k ds).length=ds.length
 |[],_=>rfl
 |_::ds,k=>by change(eR (k+1) ds).length+1=ds.length+1;rw[oX]
def i9 (m:a7)(p:Nat)(Ls:Nat->List bN)(i:Nat):List bN:=if cst m i<=p then Ls (p-cst m i) else []
def jE (m:a7)(p:Nat)(Ls:Nat->List bN)(i:Nat)(b:bN):Prop:=∃h,h<i/\b∈(i9 m p Ls h).map (bG m h)
noncomputable def pr (e:bN×Nat×List Nat):bN×Nat:=(e.1,e.2.1)
section
variable{m:a7}{p:Nat}{E0 N:sG}{Ls:Nat->List bN}
def nq (E:sG):(E.map pr).map (·.1)=E.map (·.1):=by rw[SN];rfl
set_option tactic.hygienic true in
def vd (hm:aJ m)(u:∀q,q<p->∀b,b∈Ls q↔b8 m q b)(b:bN):jE m p Ls m.deeds.length b↔∃i j,i<m.deeds.length/\cst m i<=p/\b8 m (p-cst m i) j/\b=bG m i j:=by
 constructor
 .rintro⟨i,v,h⟩;have c:=kM hm v;obtain(j|y|rfl):=R5.mp h;unfold i9 at y;split at y
  .next B=>show{i,j,v,B,(u _ `a j).mp y,rfl}
  .exact nomatch y
 .rintro⟨i,j,v,B,hl,rfl⟩;have c:=kM hm v;show{i,v,S1 ?_};unfold i9;rw[if_pos B];show(u _ `a j).mpr hl
def n6 (hm:aJ m)(v:0<p)(h:∀q,q<p->∀b,b∈Ls q↔b8 m q b)(j:fB m p (E0.map pr))(nd:((E0++N).map (·.1)).Nodup)(B:x∈N)(u:jE m p Ls m.deeds.length x.1):b8 m p x.1:=by
 show(lK hm v).mpr {(vd hm h _).mp u,λq y hl=>?_};have z:=j.all q x.1 y hl;have E:x.1∈E0.map (·.1):=by rw[<- nq];show S1 z
 rw[Sq,List.nodup_append] at nd;show nd.2.2 _ E _ (S1 B) rfl
def II (hm:aJ m)(E:0<p)(v:∀q,q<p->∀b,b∈Ls q↔b8 m q b)(B:fB m p (E0.map pr))(u:NW p E0 (jE m p Ls m.deeds.length) N):fB m (p+1) ((E0++N).map pr)/\∀b,b∈N.map (·.1)↔b8 m p b:=by
 have fl:=λx j=>n6 hm E v B u.nd j (u.fr x j).1;have back:∀b,b8 m p b->∃x∈N,x.1=b:=λb hl=>by
  have F:=(vd hm v b).mpr ((lK hm E).mp hl).1;obtain(x|j|e):=R5.mp (u.al b F);rcases Si.mp j with z|z
  .have s:=B.sound (pr x) (S1 z);have s1:=e ▸ s.1;have:=yu s1 hl;omega
  .exact⟨x,z,e⟩
 show{{by rw[nq];show u.nd,λy H=>?_,λq b I hl=>?_},λb=>{λh=>?_,λh=>?_}}
 .obtain(x|j|rfl):=R5.mp H;rcases Si.mp j with z|z
  .have s:=B.sound (pr x) (S1 z);show{s.1,T4 s.2}
  .have e:x.2.1=p:=(u.fr x z).2.1;show{by change b8 m x.2.1 x.1;rw[e];show fl x z,by change x.2.1<p+1;omega}
 .rcases Ub q p with z|z
  .rw[Sq];show S7 _ (B.all q b z hl)
  .have:q=p:=`a
   subst this;obtain(x|j|rfl):=back b hl;rw[Sq];show Sz _ (R5.mpr {x,j,?_});change(x.1,x.2.1)=_;rw[(u.fr x j).2.1]
 .obtain(x|j|rfl):=R5.mp h;show fl x j
 .obtain(x|j|rfl):=back b h;show S1 j
def Dy (hm:aJ m)(u:0<p)(h:∀q,q<p->∀b,b∈Ls q↔b8 m q b)(j:fB m p (E0.map pr))(E:sE p E0 (jE m p Ls m.deeds.length)):ri m (p+1):=by
 obtain(N|nd|fr|hl):=E;show{(E0++N).map pr,by rw[nq];show nd,λy B=>?_,by rw[RK];show hl}
 obtain(x|v|rfl):=R5.mp B;rcases Si.mp v with z|z
 .have s:=j.sound (pr x) (S1 z);show{s.1,T4 s.2}
 .have e:x.2.1=p:=(fr x z).2;show{by change b8 m x.2.1 x.1;rw[e];show n6 hm u h j nd z (fr x z).1,by change x.2.1<p+1;omega}
def ri.mono (h:ri m p)(u:p<=q):ri m q:=let⟨l,h1,h2,h3⟩:=h;{l,h1,λx j=>{(h2 x j).1,R9 (h2 x j).2 u},h3}
end
noncomputable def lsN (Ls:Nat->List bN)(p:Nat)(A:List bN):Nat->List bN:=λq=>if q=p then A else Ls q
set_option tactic.hygienic true in
def zx {c:GT}{b:GS}{y:Fl->Mem->Prop}(I:Nat->Env->Mem->Prop)
 (hs:∀k Z M,I k Z M->ae (c Z M) λv M1=>(v=false->y (.next Z) M1)/\(v=true->∃k',k=k'+1/\ae (b Z M1) λfl j=>(∃ρ',fl=.next ρ'/\I k' ρ' j)\/((∀ρ',fl≠.next ρ')/\y fl j))) :
 ∀(n k:Nat) (Z:Env) (M:Mem),k<n->I k Z M->ae (kj c b n Z M) y:=by
 intro n;induction n with
 |zero=>intro k Z M h;show absurd h (Ue _)
 | succ n F=>
   intro k Z M h E;unfold kj;show ba.mpr (ay (hs k Z M E) λv M1 ⟨h1,h2⟩=>?_);cases v with
   |false=>show h1 rfl
   | true=>
     obtain(k'|rfl|h3):=h2 rfl;rw[if_pos rfl];show ba.mpr (ay h3 λfl j h4=>?_);rcases h4 with⟨ρ',rfl,u⟩|⟨u,B⟩
     .exact F k' ρ' j `a u
     .cases fl with
      |next ρ'=>show absurd rfl (u ρ')
      |ret d=>show B
      |exc x ρ'=>show B
def Di {c:GT}{b:GS}{Z:Env}{M:Mem}{j:Fl->Mem->Prop}(I:Nat->Env->Mem->Prop)
 (hs:∀k Z M,I k Z M->ae (c Z M) λv M1=>(v=false->j (.next Z) M1)/\(v=true->∃k',k=k'+1/\ae (b Z M1) λfl u=>(∃ρ',fl=.next ρ'/\I k' ρ' u)\/((∀ρ',fl≠.next ρ')/\j fl u))) {k:Nat} (hk:k<100000) (h:I k Z M):ae (mq c b Z M) j:=zx I hs 100000 k Z M hk h
section
variable{M:Mem}{m:a7}{L0 lv fk p:Nat}{E0:sG}{lvs:List D}{Ls:Nat->List bN}{Z:Env}
def Mf {x:D}{A:List bN}(h:vI M fk x A):ot M x=some (!A.isEmpty):=by
 rcases h with rfl|⟨c,rfl,_,e⟩
 .show some (!(A.map bD).isEmpty)=_;rw[List.isEmpty_map]
 .show(M[c]?).map (λxs=>!xs.isEmpty)=_;rw[e];change some (!(A.map bD).isEmpty)=_;rw[List.isEmpty_map]
theorem vX {M:Mem}{g:Nat->Bool}:∀{l:List D}{k:Nat},(∀i x,l[i]?=some x->ot M x=some (g (k+i)))->jG M l=some ((List.range l.length).map λi=>g (k+i))
 |[],_,_=>rfl
 | a::l,k,h=>by
   change(ot M a).bind (λb=>(jG M l).map (b::·))=_;have j:=h 0 a rfl;have h1:=vX (l:=l) (k:=k+1) (M:=M) (g:=g) λi x u=>by
    have:=h (i+1) x u;rw[this,Uh,Nat.add_comm 1 i]
   rw[j,h1,To,List.range_succ_eq_map,S3,SN];change some (g (k+0)::_)=_
   congr 2
   show T6 λi _=>?_;change g (k+1+i)=g (k+(i+1));rw[Uh,Nat.add_comm 1 i]
end
section
variable{Z:Env}{M M':Mem}{kf:Fl->Mem->Prop}
def JK (e:a Z M=.ok x M'):fi (.one i) a Z M=.ok (.next (Z.set i (some x))) M':=by
 unfold fi;rw[e];rfl
def kT (e:a Z M=.ok x M'):av (.one i) a Z M=.ok (.next (Z.set i (some x))) M':=by
 unfold av;rw[e];rfl
def JN (u:a Z M=.ok (.cell j) M)(h:eP (d Z M) (λz M1=>∃ds,M1[j]?=some ds/\ds.length<sz/\kf (.next Z) (M1.set j (ds++[z]))) (λx M1=>kf (.exc x Z) M1)):ae (nh a d Z M) kf:=by
 unfold nh;rw[u];change ae (tB (λz M=>match M[j]? with|some ds=>if ds.length<sz then Res.ok (Fl.next Z) (M.set j (ds++[z])) else .bad|none=>.bad) Z (d Z M)) kf
 cases e:d Z M with
 |bad=>rw[e] at h;show h.elim
 |err x M1=>rw[e] at h;show h
 | ok z M1=>
   rw[e] at h;obtain(ds|e1|hl|h):=h;change ae (match M1[j]? with|some ds=>if ds.length<sz then Res.ok (Fl.next Z) (M1.set j (ds++[z])) else .bad|none=>.bad) kf
   rw[e1];change ae (if ds.length<sz then Res.ok (Fl.next Z) (M1.set j (ds++[z])) else .bad) kf
   rw[if_pos hl];show h
end
noncomputable def ka {α:Type}(k:α->bN)(v:α->D)(E:List α):List D:=.int 78::E.map λe=>.tup [bD (k e),v e]
section
variable{α:Type}{k:α->bN}{v:α->D}{E:List α}{M:Mem}{j:Nat}{b:bN}{x:α}
def qU:dt (E.map λe=>.tup [bD (k e),v e]) (bD b)=(E.find? λe=>decide (k e=b)).map v:=by
 show(oM (λe=>bD (k e)) v E (bD b)).trans ?_
 congr 2
 funext x
 show Pq _ b
def jy (e:M[j]?=some (ka k v E)):b5 M (aP j)=some (78,E.map λe=>.tup [bD (k e),v e]):=qa e (.inr rfl)
def GC (e:M[j]?=some (ka k v E)):inD M (aP j) (bD b)=some (E.any λe=>decide (k e=b)):=by
 unfold inD;rw[jy e];change(if isKey 78 (bD b)=true then some (dt _ (bD b)).isSome else none)=_;rw[if_pos (sS b),qU,Uk]
 congr 1
 rw[Tn,List.find?_isSome,Ur]
def Ng (hn:∀e∈E,k e≠b):putD (E.map λe=>.tup [bD (k e),v e]) (bD b) z=(E.map λe=>.tup [bD (k e),v e])++[.tup [bD b,z]]:=by
 show wx ?_;rw[qU,List.find?_eq_none.mpr];rfl;show λx h e=>hn x h (of_decide_eq_true e)
theorem xq:∀{E:List α},(E.map k).Nodup->∀{x:α},x∈E->(E.find? λe=>decide (k e=k x))=some x
 |[],_,_,h=>nomatch h
 | a::E,nd,x,h=>by
   rw[S3,Tj] at nd;rw[List.find?_cons];by_cases e:k a=k x
   .rw[decide_eq_true e];rcases R7.mp h with z|z
    .rw[z]
    .exact absurd (by rw[e];show S1 z) nd.1
   .rw[decide_eq_false e];rcases R7.mp h with z|z
    .exact absurd (by rw[z]) e
    .exact xq nd.2 z
def Bz (e:M[j]?=some (ka k v E))(nd:(E.map k).Nodup)(h:x∈E):getD M (aP j) (bD (k x))=some (v x):=by
 unfold getD;rw[jy e];change(if isKey 78 (bD (k x))=true then dt _ (bD (k x)) else none)=_;rw[if_pos (sS _),qU,xq nd h];rfl
def Jn {a b d:GE}{x z:D}(hd:d Z M=.ok z M1)(h:a Z M1=.ok (.fn o) M1)(u:b Z M1=.ok x M1)(e:b5 M1 o=some q)(hk:isKey q.1 x=true)(hl:q.2.length<1000000):lE a b d Z M=.ok (.next Z) (M1.set (o-5000) (.int q.1::putD q.2 x z)):=by
 unfold lE;rw[hd];change(a Z M1).bind _=_;rw[h];change(b Z M1).bind _=_;rw[u];change(match b5 M1 o with|some q=>if isKey q.1 x=true/\q.2.length<1000000 then Res.ok (Fl.next Z) (M1.set (o-5000) (.int q.1::putD q.2 x z)) else .bad|none=>.bad)=_
 rw[e];show if_pos ⟨hk,hl⟩
def EB {M1:Mem}{a b d:GE}(hd:d Z M=.ok (v x) M1)(h:a Z M1=.ok (.fn (aP j)) M1)(u:b Z M1=.ok (bD (k x)) M1)(e:M1[j]?=some (ka k v E))(hl:E.length<1000000)(hn:∀e∈E,k e≠k x):lE a b d Z M=.ok (.next Z) (M1.set j (ka k v (E++[x]))):=by
 rw[Jn hd h u (jy e) (sS _) (by rw[RK];show hl),show aP j-5000=j from SO _ _,Ng hn]
 unfold ka;rw[Sq];rfl
def NH (h:(true != E.any λe=>decide (k e=b))=true):∀e∈E,k e≠b:=λe he z=>by
 rw[show(E.any λe=>decide (k e=b))=true from List.any_eq_true.mpr {e,he,decide_eq_true z}] at h;cases h
def JO (h:(true != E.any λe=>decide (k e=b))=false):∃e∈E,k e=b:=by
 cases z:(E.any λe=>decide (k e=b)) with
 | true=>
   obtain(e|he|y):=Ur.mp z;show{e,he,of_decide_eq_true y}
 |false=>rw[z] at h;cases h
end
def g5 (m:a7)(r:List Nat)(b:bN)(q:Nat):Prop:=(∀i∈r,i<m.deeds.length)/\ends m r=b/\yQ m r=q
section
variable{m:a7}{r:List Nat}{b:bN}{q i:Nat}
def g5.nil:g5 m [] (bw m) 0:={(λ_ h=>nomatch h),List.map_id _,rfl}
def g5.snoc (h:g5 m r b q)(hi:i<m.deeds.length):g5 m (r++[i]) (bG m i b) (q+cst m i):=by
 show{λk hk=>?_,?_,?_}
 .rcases Si.mp hk with z|z
  .exact h.1 k z
  .rw[RS.mp z];show hi
 .rw[<- h.2.1];unfold ends bG;rw[SN];show T6 λs _=>oZ r [i] s
 .rw[<- h.2.2];change((r++[i]).map _).sum=_;rw[Sq,List.sum_append];rfl
noncomputable def u7 (hm:aJ m):∀r:List Nat,(∀i∈r,i<m.deeds.length)->r.length<=yQ m r
 |[],_=>S5 _
 | a::r,h=>by
   have c:=(kM hm (h a RY)).1;have t:=u7 hm r λi u=>h i (RP _ u);change r.length+1<=cst m a+yQ m r;omega
def g5.len (hm:aJ m)(h:g5 m r b q):r.length<=q:=h.2.2 ▸ u7 hm r h.1
end
abbrev F3:=List (bN×Nat×Nat)
noncomputable def vC (e:bN×Nat×Nat):D:=.tup [nD e.2.1,.cell e.2.2]
def lN (E:F3):List D:=ka (·.1) vC E
def un (E:F3):sG:=E.map λe=>(e.1,e.2.1,[])
def qo (E:F3):(un E).map (·.1)=E.map (·.1):=by unfold un;rw[SN];rfl
def l7 (E N:F3):un (E++N)=un E++un N:=Sq
def J9 (E:F3):(un E).length=E.length:=RK _
def zE:(∃e∈un E,e.1=b)↔∃e∈E,e.1=b:=by
 constructor
 .rintro⟨x,h,rfl⟩;obtain(e|he|rfl):=R5.mp h;show⟨e,he,rfl⟩
 .rintro⟨e,he,rfl⟩;show{_,S1 he,rfl}
structure ki (B0:Nat) (M0 M:Mem) (m:a7) (lv fk:Nat) (E:F3) (L:List bN):Prop where
 f:M[fk]?=some (lN E)
 fl:fk<M0.length
 ll:lv<M0.length
 lo:B0<=M0.length
 l:M[M0.length]?=some (L.map bD)
 r:∀e∈E,(∃r,M[e.2.2]?=some (r.map nD)/\g5 m r e.1 e.2.1)/\e.2.2≠fk/\e.2.2≠M0.length/\e.2.2≠lv/\B0<=e.2.2
 k:aS fk M0 M
 nd:(E.map (·.1)).Nodup
def uz (c:Call):GS:=#v[av (.one 10) (ah 152 c #[aa 7,aa 9]),aN (ai (hU true (aa 10) (aa 2))) #v[lE (aa 2) (aa 10) (aR #[aa 3,ak true .add (ao (dP (aa 2) (aa 9)) (gI 1)) (aW false #[aa 5])]),jo (aa 4) (aa 10),aN (ai (aA .gt (nI (aa 2)) (gI 255))) #v[fM 8 #[uY "rows have more than " " behaviours" (gI 255)]] aF] aF]
def gO {M:Mem}(e:M[k]?=some x):k<M.length:=(RH.mp e).1
def hV (ea:a Z M=.ok x M1)(es:s Z M1=.ok xs M2):a9 a s Z M=.ok (x::xs) M2:=by
 unfold a9;rw[ea];change(s Z M1).bind _=_;rw[es];rfl
def kQ (h:a Z M=.ok x M)(j:b Z M=.ok y M):ak k o a b Z M=eM k o x y M:=by
 unfold ak;rw[h];change(b Z M).bind _=_;rw[j];rfl
def fG (e:s Z M=.ok xs M1)(hl:xs.length<=100):aR s Z M=.ok (.tup xs) M1:=by
 unfold aR;rw[e];show if_pos (aq `a)
section
variable{P:Nat->Option Df}{M0 M:Mem}{m:a7}{lk lv fk p i B0:Nat}{E:F3}{L:List bN}{b:bN}{x0 x1 x6 x8 x10:Option D}
def Ny (h152:P 152=some {2,2,fe})(n:Nat)(hm:aJ m)(hE:E.length<=255)(s:ki B0 M0 M m lv fk E L)(hL:L.length<=255)(ek:M[lk]?=some (fU m (cx m i)))(hp:p<=900)(hi:i<m.deeds.length)
 (hl:b.length<=16) (hb:∀s∈b,d7 m s) (O:∃e∈E,e.1=b/\e.2.1+cst m i=p) :
 ae (uz (ag P (n+1)) [x0,x1,some (.fn (aP fk)),some (nD p),some (.cell M0.length),some (nD i),x6,some (.fn (aP lk)),x8,some (bD b),x10] M) λfl M'=>
  ((∃e∈E,e.1=bG m i b)/\M'=M/\fl=.next [x0,x1,some (.fn (aP fk)),some (nD p),some (.cell M0.length),some (nD i),x6,some (.fn (aP lk)),x8,some (bD b),some (bD (bG m i b))])\/
  ((∀ e ∈ E,e.1 ≠ bG m i b) /\ ∃ c,ki B0 M0 M' m lv fk (E++[(bG m i b,p,c)]) (L++[bG m i b]) /\
    ((E.length < 255 /\ fl = .next [x0,x1,some (.fn (aP fk)),some (nD p),some (.cell M0.length),some (nD i),x6,some (.fn (aP lk)),x8,some (bD b),some (bD (bG m i b))]) \/
     (E.length=255/\∃Z,fl=.exc (.exc 8 none) Z))):=by
 show bf (bQ (x:=bD (bG m i b)) ((aV (af rfl (af rfl rfl))).trans (Kr h152 n ek hm hl hb))) ?_;show bL (bE (Ni rfl rfl (GC s.f))) (λI=>?_) λI=>.inl {JO I,rfl,rfl};have B:=NH I;obtain(e|he|S|Y):=O;obtain((r|er|ro)|_):=s.r e he;have hr:=ro.len hm;have u:=gO s.l;have U:=Bz s.f s.nd he;rw[S] at U;have e1:(M++[(r++[i]).map nD])[fk]?=some (lN E):=by rw[RR (gO s.f)];show s.f
 have ev:aR #[aa 3,ak true .add (ao (dP (aa 2) (aa 9)) (gI 1)) (aW false #[aa 5])] [x0,x1,some (.fn (aP fk)),some (nD p),some (.cell M0.length),some (nD i),x6,some (.fn (aP lk)),x8,some (bD b),some (bD (bG m i b))] M=.ok (vC (bG m i b,p,M.length)) (M++[(r++[i]).map nD]):=by
  show fG (hV rfl (hV ?_ rfl)) (R1 rfl);show(kQ (bu (uV (x:=.non) rfl rfl U) rfl rfl) (mC (af rfl rfl) (R1 rfl))).trans ?_;change(match M[e.2.2]?,(some [nD i]:Option (List D)) with|some x,some y=>bc true (x++y) M|_,_=>.bad)=_
  rw[er];change(if (r.map nD++[nD i]).length<=sz then _ else _)=_;rw[if_pos (aq `o),Sq];rfl
 show jn (M':=(M++[(r++[i]).map nD]).set fk (lN (E++[(bG m i b,p,M.length)]))) (EB ev rfl rfl e1 `a B) ?_
 have W:=Se s.fl;have F:((M++[(r++[i]).map nD]).set fk (lN (E++[(bG m i b,p,M.length)])))[M0.length]?=some (L.map bD):=by rw[RT W,RR u];show s.l
 show jn (NG rfl rfl F (by rw[RK];show Nat.lt_of_le_of_lt hL `d)) ?_
 generalize v:((M++[(r++[i]).map nD]).set fk (lN (E++[(bG m i b,p,M.length)]))).set M0.length (L.map bD++[bD (bG m i b)])=M';have old:∀{j:Nat}{x:List D},j≠fk->j≠M0.length->M[j]?=some x->M'[j]?=some x:=λ{j x} h1 h2 e=>by
  rw[<- v,RT (SK h2),RT (SK h1),RR (gO e)];show e
 have s2:ki B0 M0 M' m lv fk (E++[(bG m i b,p,M.length)]) (L++[bG m i b]):=by
  show{?_,s.fl,s.ll,s.lo,?_,λX J=>?_,{?_,λj hj n=>?_},?_}
  .rw[<- v,RT (SK W),Sk (by simp;show T4 (gO s.f))]
  .rw[<- v,Sk `o,Sq];rfl
  .rcases Si.mp J with z|z
   .obtain((r'|H|R)|k1|k2|k3):=s.r X z;show{{r',old k1 k2 H,R},k1,k2,k3}
   .obtain rfl:=RS.mp z;show{{r++[i],?_,?_},SF (gO s.f),SF u,SF (Nat.lt_trans s.ll u),RU s.lo (Uc u)}
    .rw[<- v,RT (Se u),RT (Se (gO s.f))];simp
    .have:=ro.snoc hi;rw[Y,S] at this;show this
  .rw[<- v];have:=s.k.len;simp;omega
  .rw[<- v,RT `a,RT (SK n),RR `a];show s.k.at' j hj n
  .rw[Sq,List.nodup_append];show{s.nd,`s,λx hx y Q z=>by
    obtain(w|hw|rfl):=R5.mp hx;have Q:y=bG m i b:=by simpa using Q
    show B w hw (z.trans Q)}
 show bL (MB (Jq rfl (jy s2.f)) rfl) (λh=>?_) λh=>?_
 .have h:=of_decide_eq_true h;dsimp[ax,Dj];show bA.mpr ?_;rw[OX rfl `d `d `d,bW]
  show{aq `d,.inr {B,_,s2,.inr {?_,_,rfl}}}
  simp at h;omega
 .have h:=of_decide_eq_false h;show .inr {B,_,s2,.inl {?_,rfl}};simp at h;omega
end
section
variable{P:Nat->Option Df}{M0 M:Mem}{m:a7}{lk lv fk p i B0:Nat}{E0:F3}{A:List bN}{x8:D}{S:bN->Prop}{x0 x1 x6 x9 x10:Option D}
def wU (h:vI M0 fk x8 A)(k:aS fk M0 M):cH M x8=some (A.map bD):=by
 rcases h with rfl|⟨c,rfl,j,e⟩
 .rfl
 .exact k.get e j
def IV (h152:P 152=some {2,2,fe})(n:Nat)(hm:aJ m)(hi:i<m.deeds.length)(ek:M0[lk]?=some (fU m (cx m i)))(hk:lk≠fk)(R:vI M0 fk x8 A)(U:∀b∈A,∃e∈E0,e.1=b/\e.2.1+cst m i=p)(hok:∀b∈A,b.length<=16/\∀s∈b,d7 m s)(hp:p<=900)
 (s:ki B0 M0 M m lv fk (E0++N) (N.map (·.1))) (h:NW p (un E0) S (un N)) (hl:(E0++N).length<=255)
 (k1:∀M' u J v,ki B0 M0 M' m lv fk (E0++u) (u.map (·.1))->NW p (un E0) (λb=>S b\/b∈A.map (bG m i)) (un u)->(E0++u).length<=255->kf (.next [x0,x1,some (.fn (aP fk)),some (nD p),some (.cell M0.length),some (nD i),x6,some (.fn (aP lk)),some x8,J,v]) M')
 (k2:∀Z M',aS fk M0 M'->sE p (un E0) (λb=>S b\/b∈A.map (bG m i))->kf (.exc (.exc 8 none) Z) M') :
 ae (d3 (.one 9) (cg (aa 8)) (uz (ag P (n+1))) [x0,x1,some (.fn (aP fk)),some (nD p),some (.cell M0.length),some (nD i),x6,some (.fn (aP lk)),some x8,x9,x10] M) kf:=by
 dsimp[fK,gE,aU];show{_,rfl,by rcases R with rfl|⟨c,rfl,_⟩<;>rfl,?_}
 show xl (ds:=A.map bD) (λj Z M'=>∃u J v,ki B0 M0 M' m lv fk (E0++u) (u.map (·.1))/\NW p (un E0) (λb=>S b\/b∈(A.take j).map (bG m i)) (un u)/\(E0++u).length<=255/\Z=[x0,x1,some (.fn (aP fk)),some (nD p),some (.cell M0.length),some (nD i),x6,some (.fn (aP lk)),some x8,J,v])
  (λfl M'=>(∃Z,fl=.exc (.exc 8 none) Z)/\aS fk M0 M'/\sE p (un E0) (λb=>S b\/b∈A.map (bG m i))) ?_ ?_ ?_ {N,x9,x10,s,?_,hl,rfl} ?_ ?_ ?_
 .rintro fl M' ⟨⟨Z,rfl⟩,_⟩ ρ' z;cases z
 .rintro j Z M' ⟨u,_,_,I,_⟩;show wU R I.k
 .rintro fl M' ⟨_,k,_⟩;show wU R k
 .exact{h.nd,λx F=>{.inl (h.fr x F).1,(h.fr x F).2},λb L=>L.elim (h.al b) λz=>by simp at z}
 .rintro j x Z M' hd ⟨u,J,v,I,Q,B,rfl⟩;rw[Sh] at hd;cases e:A[j]? with
  |none=>rw[e] at hd;cases hd
  | some b=>
    rw[e] at hd;have hd:=RQ hd;subst hd;have L:=Sj e;show{_,rfl,?_};obtain(e0|W|eb|ep):=U b L;have H:∀x,(S x\/x∈(A.take (j+1)).map (bG m i))↔((S x\/x∈(A.take j).map (bG m i))\/x=bG m i b):=λx=>by
     rw[Tq,e];simp[or_assoc]
    have O:∀x,(S x\/x∈(A.take (j+1)).map (bG m i))->(S x\/x∈A.map (bG m i)):=λx F=>F.imp id λz=>by
     obtain(y|hy|rfl):=R5.mp z;show S1 (S6 hy)
    show ay (Ny h152 n hm B I (by rw[RK];simp at B;omega) (I.k.get ek hk) hp hi (hok b L).1 (hok b L).2 {e0,S7 _ W,eb,ep}) ?_
    rintro fl M' (⟨hin,rfl,rfl⟩|⟨hno,c,s2,hh⟩)
    .exact .inl {_,rfl,u,_,_,I,Q.old H (by rw[<- l7];show zE.mpr hin),B,rfl}
    .have E:=Q.new H (r:=[]) (λx F z=>by
      rw[<- l7] at F;obtain(e2|X|z2):=zE.mp ⟨x,F,z⟩;show hno e2 X z2) (S5 _)
     rw[show un u++[(bG m i b,p,[])]=un (u++[(bG m i b,p,c)]) from(l7 u [(bG m i b,p,c)]).symm] at E;rw[TJ,show u.map (·.1)++[bG m i b]=(u++[(bG m i b,p,c)]).map (·.1) from by rw[Sq];rfl] at s2
     rcases hh with⟨hlt,rfl⟩|⟨Y,Z,rfl⟩
     .exact .inl {_,rfl,_,_,_,s2,E,by simp at hlt ⊢;omega,rfl}
     .exact .inr {{_,rfl},s2.k,_,E.nd,λx F=>{O _ (E.fr x F).1,(E.fr x F).2.1},by rw[<- l7,J9];simp at Y ⊢;omega}
 .rintro Z M' ⟨u,J,v,I,Q,B,rfl⟩;rw[RK,S8 (RN _)] at Q;show k1 M' u J v I Q B
 .rintro fl M' ⟨⟨Z,rfl⟩,k,ov⟩;show k2 Z M' k ov
end
structure lX (B0:Nat) (M:Mem) (m:a7) (L0 lv fk:Nat) (E:F3) (lvs:List D) (p:Nat) (Ls:Nat->List bN):Prop where
 f:M[fk]?=some (lN E)
 l:M[lv]?=some lvs
 ne:lv≠fk
 len:lvs.length=p
 lvl:∀q x,lvs[q]?=some x->vI M fk x (Ls q)
 led:∀i,i<m.deeds.length->M[L0+i]?=some (fU m (cx m i))/\L0+i≠fk/\L0+i≠lv
 lvn:∀(q c:Nat),lvs[q]?=some (D.cell c)->c≠lv
 row:∀e∈E,(∃r,M[e.2.2]?=some (r.map nD)/\g5 m r e.1 e.2.1)/\e.2.2≠fk/\e.2.2≠lv/\B0<=e.2.2
 lo:B0<=fk
 lss:∀q,q<p->∀b,b∈Ls q↔b8 m q b
 all:fB m p ((un E).map pr)
 few:E.length<=255
def FT (c:Call):GS:=#v[av (.one 8) (gg (ai (aA .le (aa 6) (aa 3))) (ao (aa 1) (ak false .sub (aa 3) (aa 6))) (aW false bb)),d3 (.one 9) (cg (aa 8)) (uz c)]
section
variable{P:Nat->Option Df}{M:Mem}{m:a7}{L0 lv fk p B0:Nat}{E0:F3}{lvs:List D}{Ls:Nat->List bN}
set_option tactic.hygienic true in
def CU (hbn:∀c,bn c=#v[av (.one 3) (aK .len #[aa 1]),av (.one 4) (aW true bb),d3 (.two 5 [6,7]) (iW (aa 0)) (FT c),aM (aa 4)])(h152:P 152=some {2,2,fe})(hnx:P nx=some {3,11,bn})(n:Nat)(hm:aJ m)(hp:p<=900)(s:lX B0 M m L0 lv fk E0 lvs p Ls) :
 eP (ag P (n+2) nx [dO m L0,.cell lv,.fn (aP fk)] M) (λd M'=>d=.cell M.length/\∃N,ki B0 M M' m lv fk (E0++N) (N.map (·.1))/\NW p (un E0) (jE m p Ls m.deeds.length) (un N)/\(E0++N).length<=255)
  (λx M'=>x=.exc 8 none/\sE p (un E0) (jE m p Ls m.deeds.length)/\aS fk M M'):=by
 show eF hnx rfl ?_;change ae (bn (ag P (n+1)) [some (dO m L0),some (.cell lv),some (.fn (aP fk)),none,none,none,none,none,none,none,none] M) _;rw[hbn];have hf:=gO s.f;have hlv:=gO s.l;have W:(E0.map (·.1)).Nodup:=by have:=s.all.nd;rw[nq,qo] at this;show this
 have el:aK .len #[aa 1] [some (dO m L0),some (.cell lv),some (.fn (aP fk)),none,none,none,none,none,none,none,none] M=.ok (nD p) M:=by
  show aj (cu.mpr ?_);rw[af rfl rfl,bW];change ae (match M[lv]? with|some xs=>Res.ok (D.int xs.length) M|none=>.bad) _
  rw[s.l];show{by change D.int (lvs.length:Int)=_;rw[s.len],rfl}
 show bf (bQ el) ?_;show jn rfl ?_;rw[ax];dsimp[fK,J4,aU];show{_,rfl,rfl,?_};have start:ki B0 M (M++[[]]) m lv fk (E0++[]) []:=by
  rw[TM];show{by rw[RR hf];show s.f,hf,hlv,RU s.lo (Uc hf),`s,λe he=>?_,aS.app,W}
  obtain((r|er|ro)|h1|h2):=s.row e he;have:=gO er;show{{r,by rw[RR this];show er,ro},h1,Se this,h2}
 have F:∀q,q<p->∀b∈Ls q,(∃e∈E0,e.1=b/\e.2.1=q)/\b.length<=16/\∀s∈b,d7 m s:=λq Q b u=>by
  have lb:=(s.lss q Q b).mp u;have ok:=ua hm lb.1;show{?_,by rw[ok.1];show dB hm,ok.2}
  have:=s.all.all q b Q lb;unfold un at this;rw[SN] at this;obtain(e|he|z):=R5.mp this;cases z;show⟨e,he,rfl,rfl⟩
 show xl (λi H M'=>∃N y5 y6 y7 X Y B,ki B0 M M' m lv fk (E0++N) (N.map (·.1))/\NW p (un E0) (jE m p Ls i) (un N)/\(E0++N).length<=255/\H=[some (dO m L0),some (.cell lv),some (.fn (aP fk)),some (nD p),some (.cell M.length),y5,y6,y7,X,Y,B])
  (λfl M'=>(∃H,fl=.exc (.exc 8 none) H)/\aS fk M M'/\sE p (un E0) (jE m p Ls m.deeds.length)) ?_ (λ_ _ _ _=>rfl) (λ_ _ _=>rfl) {[],none,none,none,none,none,none,start,?_,?_,rfl} ?_ ?_ ?_
 .rintro fl M' ⟨⟨H,rfl⟩,_⟩ ρ' z;cases z
 .exact{by rw[show un []=[] from rfl,TM,qo];show W,(λx I=>nomatch I),(by rintro b ⟨i,O,_⟩;show absurd O (Ue _))}
 .rw[TM];show s.few
 .rintro i x H M' I ⟨N,y5,y6,y7,X,Y,B,s',nw,hl,rfl⟩;obtain(x2|J|rfl):=Jd I;rw[Sh] at J;have O:i<m.deeds.length:=by
   have:=(RH.mp I).1;rw[oX] at this;simpa using this
  rw[Tv O] at J;cases J;rw[Nat.zero_add];show{_,rfl,?_};obtain(hk1|hk2|_):=s.led i O;have cok:=kM hm O;have v:∀b,(jE m p Ls i b\/b∈(i9 m p Ls i).map (bG m i))↔jE m p Ls (i+1) b:=λb=>by
   constructor
   .rintro(⟨j,hj,h⟩|h)
    .exact{j,T4 hj,h}
    .exact{i,Nat.lt_succ_self _,h}
   .rintro⟨j,hj,h⟩;rcases Ub j i with z|z
    .exact .inl ⟨j,z,h⟩
    .have:j=i:=`a
     subst this;show .inr h
  have hx8:∃x8,gg (ai (aA .le (aa 6) (aa 3))) (ao (aa 1) (ak false .sub (aa 3) (aa 6))) (aW false bb) [some (dO m L0),some (.cell lv),some (.fn (aP fk)),some (nD p),some (.cell M.length),some (nD i),some (nD (cst m i)),some (.fn (aP (L0+i))),X,Y,B] M'=.ok x8 M'/\vI M fk x8 (i9 m p Ls i):=by
   have U:ai (aA .le (aa 6) (aa 3)) [some (dO m L0),some (.cell lv),some (.fn (aP fk)),some (nD p),some (.cell M.length),some (nD i),some (nD (cst m i)),some (.fn (aP (L0+i))),X,Y,B] M'=.ok (decide ((cst m i:Int)<=(p:Int))) M':=by
    show aQ (ib.mpr (dR.mpr (aU.mpr {_,rfl,aU.mpr {_,rfl,_,rfl,_,rfl,rfl,rfl}})))
   by_cases L:cst m i<=p
   .have Q:p-cst m i<lvs.length:=by rw[s.len];omega
    show{lvs[p-cst m i],je U (λ_=>?_) (λz=>absurd `a (of_decide_eq_false z)),?_}
    .refine bu (y:=nD (p-cst m i)) rfl ?_ ?_
     .refine aj (dS.mpr (aU.mpr {_,rfl,aU.mpr {_,rfl,Af.mpr {?_,rfl}}}))
      congr 1;omega
     .show(M'[lv]?).bind _=_;rw[s'.k.get s.l s.ne];change((bX lvs.length ((p-cst m i:Nat):Int)).bind λj=>lvs[j]?)=_;rw[dj Q];show RZ Q
    .have:=s.lvl _ _ (RZ Q);unfold i9;rw[if_pos L];show this
   .refine{.lst [],je U (λz=>absurd (of_decide_eq_true z) `a) (λ_=>mC rfl `d),?_}
    unfold i9;rw[if_neg L];show .inl rfl
  obtain(x8|e8|l8):=hx8;show bf (bQ e8) ?_;rw[ax];have R:∀b∈i9 m p Ls i,cst m i<=p/\b∈Ls (p-cst m i):=λb u=>by
   unfold i9 at u;split at u
   .next L=>show⟨L,u⟩
   .exact nomatch u
  show IV h152 n hm O hk1 hk2 l8 (λb u=>?_) (λb u=>?_) hp s' nw hl (λM2 N' z9 z10 s2 E hl'=>?_) λH M2 k2 ov=>?_
  .obtain(L|h2):=R b u;obtain(e|he|eb|eq):=(F _ `a b h2).1
   show{e,he,eb,`a}
  .obtain(L|h2):=R b u;show(F _ `a b h2).2
  .refine .inl {_,rfl,N',_,_,_,_,_,_,s2,?_,hl',rfl};show{E.nd,λx I=>{(v _).mp (E.fr x I).1,(E.fr x I).2},λb u=>E.al b ((v b).mpr u)}
  .refine .inr {{_,rfl},k2,ov.mono λb u=>?_};obtain(j|hj|h):=(v b).mp u;show{j,`a,h}
 .rintro H M' ⟨N,y5,y6,y7,X,Y,B,s',nw,hl,rfl⟩;rw[oX,RK,Tf] at nw;show bM.mpr (bC rfl ⟨rfl,N,s',nw,hl⟩)
 .rintro fl M' ⟨⟨H,rfl⟩,k,ov⟩;show⟨rfl,ov,k⟩
end
section
variable{M M':Mem}{m:a7}{L0 lv fk p B0:Nat}{E0 N:F3}{lvs:List D}{Ls:Nat->List bN}{Z:Env}
set_option tactic.hygienic true in
def lX.next (hm:aJ m)(H:0<p)(s:lX B0 M m L0 lv fk E0 lvs p Ls)(h:ki B0 M M' m lv fk (E0++N) (N.map (·.1)))(L:NW p (un E0) (jE m p Ls m.deeds.length) (un N))(hl:(E0++N).length<=255) :
 lX B0 (M'.set lv (lvs++[.cell M.length])) m L0 lv fk (E0++N) (lvs++[.cell M.length]) (p+1) (lsN Ls p (N.map (·.1))):=by
 obtain(h1|h2):=II hm H s.lss s.all L;rw[qo] at h2;rw[<- l7] at h1;have I:=R9 h.ll h.k.len;have old:∀{c:Nat}{x:List D},c≠fk->c≠lv->M[c]?=some x->(M'.set lv (lvs++[.cell M.length]))[c]?=some x:=λn1 n2 e=>by
  rw[RT (SK n2)];show h.k.get e n1
 show{?_,Sk I,s.ne,by simp[s.len],λq x j=>?_,λi F=>?_,λq c u=>?_,λe he=>?_,s.lo,λq v b=>?_,h1,hl}
 .rw[RT s.ne];show h.f
 .rcases Ub q p with z|z
  .rw[RR (by rw[s.len];show z)] at j
   unfold lsN;rw[if_neg `a]
   rcases s.lvl q x j with y|⟨c,y,n1,e⟩
   .exact .inl y
   .exact .inr {c,y,n1,old n1 (s.lvn q c (y ▸ j)) e}
  .have v:q=p:=by
    have:=(RH.mp j).1;simp[s.len] at this;omega
   subst v;rw[So (by rw[s.len];show RN _),s.len,Nat.sub_self] at j
   cases j;unfold lsN;rw[if_pos rfl];show .inr {_,rfl,SF h.fl,?_};rw[RT (Se h.ll)];show h.l
 .obtain(e1|e2|B):=s.led i F;show{old e2 B e1,e2,B}
 .rcases Ub q p with z|z
  .rw[RR (by rw[s.len];show z)] at u
   show s.lvn q c u
  .have v:q=p:=by
    have:=(RH.mp u).1;simp[s.len] at this;omega
   subst v;rw[So (by rw[s.len];show RN _),s.len,Nat.sub_self] at u
   cases u;show SF h.ll
 .obtain((r|er|ro)|n1|_|E|J):=h.r e he;show{{r,by rw[RT (SK E)];show er,ro},n1,E,J}
 .unfold lsN;split
  .next z=>rw[z];show h2 b
  .next z=>show s.lss q `a b
def BX (s:lX B0 M m L0 lv fk E0 lvs p Ls)(F:p<=900)(hi:Z[i]?.getD none=some (.cell lv)):∃b:Bool,ai (oV (cw false true false (aa i) (eC (gI 3)) gN)) Z M=.ok b M/\(b=false->∀q,q<p->p<=q+3->Ls q=[])/\(b=true->∃q,q<p/\p<=q+3/\Ls q≠[]):=by
 have y:cw false true false (aa i) (eC (gI 3)) gN Z M=.ok (.lst (lvs.drop (p-3))) M:=by
  show aj (gU.mpr (aU.mpr {_,hi,sZ.mpr (cz.mpr {3,rfl,cz.mpr {rfl,rfl,?_}})}));change ae (match M[lv]? with|some xs=>(match aL xs.length 0 (.int (-3)),aL xs.length xs.length .non with|some l,some h=>bc false (cut xs l h) M|_,_=>.bad)|none=>.bad) _
  rw[s.l];change ae (bc false (cut lvs (-3+(lvs.length:Int)).toNat lvs.length) M) _;have hl:=s.len;have e1:(-3+(lvs.length:Int)).toNat=p-3:=`a
  have e2:cut lvs (p-3) lvs.length=lvs.drop (p-3):=by
   show S8 `s
  rw[e1,e2];show bT.mpr {aq `o,rfl,rfl}
 show{((List.range (lvs.drop (p-3)).length).map λj=>!(Ls (p-3+j)).isEmpty).any id,?_,λh q H E=>?_,λh=>?_}
 .refine bE ?_;unfold oV;rw[y];change(match jG M (lvs.drop (p-3)) with|some bs=>Res.ok (D.bl (bs.any id)) M|none=>.bad)=_
  rw[vX (g:=λq=>!(Ls q).isEmpty) λj x u=>?_];rw[List.getElem?_drop] at u;show Mf (s.lvl _ x u)
 .have z:=List.any_eq_false.mp h;have h1:=z (!(Ls q).isEmpty) (R5.mpr {q-(p-3),?_,?_})
  .cases e:(Ls q) with
   |nil=>rfl
   |cons a l=>rw[e] at h1;show absurd rfl h1
  .rw[Tr,TY,s.len];omega
  .rw[show p-3+(q-(p-3))=q by omega]
 .obtain(x|u|v):=Ur.mp h;obtain(j|B|rfl):=R5.mp u;rw[Tr,TY,s.len] at B;show{p-3+j,`a,`a,λz=>?_}
  rw[z] at v;cases v
def Pn {c:Int}(h:c=77\/c=78)(h1:gk Z (M++[[D.int c]])=.ok x (M++[[D.int c]]))(h2:gv Z (M++[[D.int c]])=.ok y (M++[D.int c]::X))(hk:isKey c x=true):xb c gk gv Z M=.ok (.fn (aP M.length)) (M++[D.int c,D.tup [x,y]]::X):=by
 unfold xb;rw[h1];change(gv Z (M++[[D.int c]])).bind _=_;rw[h2];have e:b5 (M++[D.int c]::X) (aP M.length)=some (c,[]):=qa `s h
 change(match b5 (M++[D.int c]::X) (aP M.length) with|some q=>if isKey q.1 x=true/\q.2.length<1000000 then Res.ok (D.fn (aP M.length)) ((M++[D.int c]::X).set (aP M.length-5000) (.int q.1::putD q.2 x y)) else .bad|none=>.bad)=_
 rw[e];change(if isKey c x=true/\0<1000000 then Res.ok (D.fn (aP M.length)) ((M++[D.int c]::X).set (aP M.length-5000) (.int c::putD [] x y)) else .bad)=_;rw[if_pos {hk,`d},show aP M.length-5000=M.length from SO _ _,List.set_append_right _ _ (RN _),Nat.sub_self]
 rfl
end
noncomputable def sy:Option Nat->D
 |none=>.non
 |some b=>nD b
def AllIn (m:a7):Option Nat->List (bN×Nat)->Prop
 |some b,A=>fB m (b+1) A
 |none,A=>∃p,fB m p A/\∀q,p<=q->∀b,¬ b8 m q b
def g6 (m:a7):Option Nat->Prop
 |some b=>ri m (b+1)
 |none=>∃p,ri m p
def B3 (m:a7)(h:Nat)(M:Mem)(E:F3):Prop:=∀e∈E,(∃r,M[e.2.2]?=some (r.map nD)/\g5 m r e.1 e.2.1)/\h<=e.2.2
section
variable{P:Nat->Option Df}{M:Mem}{m:a7}{bd:Option Nat}
set_option tactic.hygienic true in
def Am (hbn:∀c,bn c=#v[av (.one 3) (aK .len #[aa 1]),av (.one 4) (aW true bb),d3 (.two 5 [6,7]) (iW (aa 0)) (FT c),aM (aa 4)])
 (hbr:∀c,br c=#v[fi (.one 2) (bK 151 c #[aa 0]),av (.one 3) (aK .tuple #[ah 15 c #[aa 0]]),av (.one 4) (xb 78 (aa 3) (aR #[gI 0,aW true bb])),av (.one 5) (aW true #[aW false #[aa 3]]),mq (dF (ai (oV (cw false true false (aa 5) (eC (gI 3)) gN))) (c4 (ai (aA .isN (aa 1) gN)) (ai (aA .le (aK .len #[aa 5]) (aa 1))))) #v[nh (aa 5) (bK nx c #[aa 2,aa 5,aa 4])],aM (aa 4)])
 (hb:HasB0 P) (hr:lY P) (h15:P 15=some {1,6,cP}) (h151:P 151=some {1,2,fv}) (h152:P 152=some {2,2,fe}) (hnx:P nx=some {3,11,bn}) (hrc:P rc=some {2,6,br}) (n:Nat) (hm:aJ m) (ht:∀d∈m.deeds,∃a t c,d=.turn a t c) (hbd:∀b,bd=some b->b<=70) :
 eP (ag P (n+11) rc [m.d,sy bd] M) (λd M'=>∃fk E,d=.fn (aP fk)/\M.length<=fk/\M'[fk]?=some (lN E)/\B3 m M.length M' E/\AllIn m bd ((un E).map pr)/\E.length<=255/\Sub M M') (λx M'=>x=.exc 8 none/\g6 m bd/\Sub M M'):=by
 show eF hrc rfl ?_;change ae (br (ag P (n+10)) [some m.d,some (sy bd),none,none,none,none] M) _;rw[hbr];show jn (JK ((fb (af rfl rfl)).trans (CZ hb hr h15 h151 n hm ht))) ?_;have et:aK .tuple #[ah 15 (ag P (n+10)) #[aa 0]] [some m.d,some (sy bd),some (dO m M.length),none,none,none] (M++m.deeds.map (fU m))=.ok (bD (bw m)) (M++m.deeds.map (fU m)):=by
  show aj (cu.mpr ?_);rw[af ((aV (af rfl rfl)).trans (ko hb h15 (n+1) hm)) rfl,bW];show⟨rfl,rfl⟩
 show jn (kT et) ?_;generalize J:M++m.deeds.map (fU m)=h;have ev:aR #[gI 0,aW true bb] [some m.d,some (sy bd),some (dO m M.length),some (bD (bw m)),none,none] (h++[[D.int 78]])=.ok (.tup [.int 0,.cell (h.length+1)]) (h++[D.int 78]::[[]]):=by
  show fG (hV rfl (hV ?_ rfl)) (R1 rfl);change Res.ok (D.cell (h++[[D.int 78]]).length) ((h++[[D.int 78]])++[[]])=_;rw[Sa,TJ];rfl
 show jn (kT (Pn (.inr rfl) rfl ev (sS _))) ?_;generalize y:h++[D.int 78,D.tup [bD (bw m),D.tup [D.int 0,D.cell (h.length+1)]]]::[[]]=v;show jn rfl ?_;have l1:h.length=M.length+m.deeds.length:=by rw[<- J];simp
 have l2:v.length=h.length+2:=by rw[<- y];simp
 have s1:Sub M (v++[[.lst [bD (bw m)]]]):=by rw[<- y,<- J,TJ,TJ];show Sub.app
 have start:lX M.length (v++[[.lst [bD (bw m)]]]) m M.length v.length h.length [(bw m,0,h.length+1)] [.lst [bD (bw m)]] 1 (λ_=>[bw m]):=by
  show{?_,`s,`a,rfl,λq x S=>?_,λi hi=>?_,λq c hc=>?_,?_,`a,λq hq b=>?_,{by simp[un],λx S=>?_,λq b hq hl=>?_},R1 rfl}
  .rw[RR `a,<- y,So (RN _),Nat.sub_self];rfl
  .cases q with
   |zero=>cases S;show .inl rfl
   |succ q=>simp at S
  .refine{?_,`a,`a}
   rw[RR `a,<- y,RR `a,<- J,So `a]
   rw[SO,Sh,RZ hi];rw[<- xu (RZ hi)];rfl
  .cases q with
   |zero=>cases hc
   |succ q=>simp at hc
  .intro e he;obtain rfl:=RS.mp he;show{{[],?_,g5.nil},by change h.length+1≠h.length;omega,by change h.length+1≠v.length;omega,by change M.length<=h.length+1;omega}
   rw[RR (by change h.length+1<v.length;omega),<- y,So (by change h.length<=h.length+1;omega)]
   rw[SO];rfl
  .have:q=0:=`a
   subst this;rw[lJ hm];show RS
  .have S:=RS.mp S;subst S;show{(lJ hm).mpr rfl,Nat.zero_lt_one}
  .have:q=0:=`a
   subst this;rw[(lJ hm).mp hl];show RS.mpr rfl
 rw[ax];show Di (λk Z M'=>∃p E H Ls g,k=900-p/\1<=p/\(∀b,bd=some b->p<=b+1)/\g<=3/\p+2<=3*E.length+g/\(∀q,q<p->p<=q+g->Ls q=[])/\lX M.length M' m M.length v.length h.length E H p Ls/\Sub M M'/\Z=[some m.d,some (sy bd),some (dO m M.length),some (bD (bw m)),some (.fn (aP h.length)),some (.cell v.length)]) ?_ `a {1,_,_,_,0,rfl,`a,λb _=>`a,`a,R1 rfl,λq h1 h2=>`a,start,s1,rfl}
 rintro k Z M' ⟨p,E,H,Ls,g,rfl,Q,hp2,hg,hpg,X,s,u,rfl⟩;have few:=s.few;have hp:p<=800:=`a
 obtain(b|e1|F|O):=BX s `a (Z:=[some m.d,some (sy bd),some (dO m M.length),some (bD (bw m)),some (.fn (aP h.length)),some (.cell v.length)]) (i:=5) rfl
 have el:aK .len #[aa 5] [some m.d,some (sy bd),some (dO m M.length),some (bD (bw m)),some (.fn (aP h.length)),some (.cell v.length)] M'=.ok (nD p) M':=by
  show aj (cu.mpr ?_);rw[af rfl rfl,bW];change ae (match M'[v.length]? with|some xs=>Res.ok (D.int xs.length) M'|none=>.bad) _
  rw[s.l];show{by change D.int (H.length:Int)=_;rw[s.len],rfl}
 have e3:∃b2:Bool,c4 (ai (aA .isN (aa 1) gN)) (ai (aA .le (aK .len #[aa 5]) (aa 1))) [some m.d,some (sy bd),some (dO m M.length),some (bD (bw m)),some (.fn (aP h.length)),some (.cell v.length)] M'=.ok b2 M'/\(b2=false->∃B,bd=some B/\p=B+1)/\(b2=true->∀B,bd=some B->p<=B):=by
  cases bd with
  |none=>show{true,rfl,(λz=>by cases z),λ_ B z=>by cases z}
  | some B=>
    have hB:=hp2 B rfl;show{decide ((p:Int)<=(B:Int)),yi (x:=false) rfl ?_,λz=>{B,rfl,by have:=of_decide_eq_false z;omega},λz B' e=>by cases e;have:=of_decide_eq_true z;omega}
    show aQ (ib.mpr (dR.mpr ?_));rw[el,bW];show aU.mpr {_,rfl,_,rfl,_,rfl,rfl,rfl}
 obtain(b2|e4|hno|I):=e3;rw[kU e1 e4,bW];show{λR=>?_,λR=>?_}
 .have W:AllIn m bd ((un E).map pr):=by
   have stop:=λhb=>yv hm Q λq' h1 h2 c hl=>by
    have:=(s.lss q' h1 c).mpr hl;rw[F hb q' h1 h2] at this;show nomatch this
   cases L:b2 with
   | false=>
     obtain(B|rfl|hpB):=hno L;change fB m (B+1) _;rw[<- hpB];show s.all
   | true=>
     rw[L,Bool.and_true] at R;cases bd with
     |none=>show{p,s.all,stop R}
     |some B=>show s.all.mono (by have:=I L B rfl;omega) λq c hq _=>stop R q hq c
  show bM.mpr (bC rfl {h.length,E,rfl,`a,s.f,λe he=>{(s.row e he).1,(s.row e he).2.2.2},W,few,u})
 .have hb1:=(Up.mp R).1;have Y:=I (Up.mp R).2;have hg2:g<=2:=by
   obtain(q|h1|h2|h3):=O hb1;rcases Ub g 3 with z|z
   .omega
   .exact absurd (X q h1 `a) h3
  show{900-(p+1),`a,?_}
  rw[ax];have U:=CU hbn h152 hnx (n+8) hm `a s
  show JN rfl ?_;rw[fb (af rfl (af rfl (af rfl rfl)))];have sN:∀{M3:Mem},aS h.length M' M3->Sub M M3:=λk=>{RU u.len k.len,λj hj=>(k.at' j (R9 hj u.len) `a).trans (u.at' j hj)}
  cases e:ag P (n+8+2) nx [dO m M.length,.cell v.length,.fn (aP h.length)] M' with
  |bad=>rw[e] at U;show U.elim
  | err x M3=>
    rw[e] at U;obtain(rfl|ov|kk):=U;show .inr {(λ_ z=>nomatch z),rfl,?_,sN kk};have mn:=Dy hm Q s.lss s.all ov;cases bd with
    |none=>show{_,mn}
    |some B=>show mn.mono (by have:=Y B rfl;omega)
  | ok d M3=>
    rw[e] at U;obtain(rfl|N|s'|nw|hl):=U;show{H,s'.k.get s.l s.ne,by rw[s.len];show Nat.lt_of_le_of_lt hp `d,?_}
    have sx:=s.next hm Q s' nw hl
    show .inl {_,rfl,p+1,E++N,_,_,if N=[] then g+1 else 0,rfl,`a,λB hB=>by have:=Y B hB;omega,?_,?_,λq h1 h2=>?_,sx,(sN s'.k).setq `a,rfl}
    .split<;>omega
    .cases N with
     |nil=>rw[if_pos rfl,TM];omega
     |cons a N=>rw[if_neg `s,Sa,To];omega
    .unfold lsN;split
     .next z=>
      cases N with
      |nil=>rfl
      |cons a N=>rw[if_neg `s] at h2;omega
     .next z=>
      cases N with
      |nil=>rw[if_pos rfl] at h2;show X q `a `a
      |cons a N=>rw[if_neg `s] at h2;omega
end
noncomputable def tU (t:List Nat)(b:bN):bN:=b.map λs=>[t.getD (s.getD 0 0) 0]
structure ia (T:List (List Nat)) (m:a7):Prop where
 p:m.places=1
 all:∀d∈m.deeds,∃t∈T,∃c,d=.turn 0 t c
 ex:∀t∈T,∃c,.turn 0 t c∈m.deeds
section
variable{m:a7}{T:List (List Nat)}
def wc (hs:∀s∈b,s.length=1)(e:cx m i=.turn 0 t c):bG m i b=tU t b:=by
 unfold bG tU;rw[e];show T6 λs h=>?_
 match s,hs s h with
 |[x],_=>rfl
def wt (hm:aJ m)(h:ia T m)(r:gA m q b):∀s∈b,s.length=1:=λs hs=>((ua hm r).2 s hs).1.trans h.p
def KY (hm:aJ m)(h:ia T m)(r:gA m q b)(y:t∈T):∃q,gA m q (tU t b):=by
 obtain(c|v):=h.ex t y;obtain(i|j|e):=List.getElem_of_mem v;have u:cx m i=.turn 0 t c:=by unfold cx;rw[Sy,RZ j,e];rfl
 show{_,by rw[<- wc (wt hm h r) u];show .step r j}
def zR (hm:aJ m)(h:ia T m)(L:List bN)(v:bw m∈L)(cl:∀b∈L,∀t∈T,tU t b∈L)(hl:L.length<=255):¬ g6 m none:=by
 rintro⟨p,l,nd,hs,u⟩;have j:∀{q b},gA m q b->b∈L:=λr=>by
  induction r with
  |start=>show v
  | @step q b i r B I=>
    obtain(t|E|c|e):=h.all (cx m i) (getD_mem B);rw[wc (wt hm h r) e];show cl _ I t E
 have:=len_sub nd λx F=>by
  obtain(y|H|rfl):=R5.mp F;show j (hs y H).1.1
 rw[RK] at this;omega
end
noncomputable def j9 (c:Nat):bN:=[[c % 4],[c / 4 % 4],[c / 16 % 4],[c / 64 % 4]]
noncomputable def MO:bN->Nat
 |[[a],[b],[c],[d]]=>a+4*b+16*c+64*d
 |_=>0
noncomputable def stC (t:List Nat)(c:Nat):Nat:=t.getD (c % 4) 0+4*t.getD (c / 4 % 4) 0+16*t.getD (c / 16 % 4) 0+64*t.getD (c / 64 % 4) 0
def Jf (h:c<256):MO (j9 c)=c:=by change c % 4+4*(c / 4 % 4)+16*(c / 16 % 4)+64*(c / 64 % 4)=c;omega
def nE {t:List Nat}(h:∀x∈t,x<4)(i:Nat):t.getD i 0<4:=by
 rw[Sy];cases e:t[i]? with
 |none=>decide
 |some x=>show h x (Sj e)
def Nm (h:∀x∈t,x<4)(c:Nat):tU t (j9 c)=j9 (stC t c):=by
 have a:=nE h (c % 4);have b:=nE h (c / 4 % 4);have d:=nE h (c / 16 % 4);have e:=nE h (c / 64 % 4);change [[t.getD (c % 4) 0],[t.getD (c / 4 % 4) 0],[t.getD (c / 16 % 4) 0],[t.getD (c / 64 % 4) 0]]=j9 (stC t c);unfold stC;generalize t.getD (c % 4) 0=w at *;generalize t.getD (c / 4 % 4) 0=x at *;generalize t.getD (c / 16 % 4) 0=y at *;generalize t.getD (c / 64 % 4) 0=z at *;change _=[[(w+4*x+16*y+64*z) % 4],[(w+4*x+16*y+64*z) / 4 % 4],[(w+4*x+16*y+64*z) / 16 % 4],[(w+4*x+16*y+64*z) / 64 % 4]];rw[show(w+4*x+16*y+64*z) % 4=w by omega,show(w+4*x+16*y+64*z) / 4 % 4=x by omega,show(w+4*x+16*y+64*z) / 16 % 4=y by omega,show(w+4*x+16*y+64*z) / 64 % 4=z by omega]
noncomputable def mK (x:Nat):List Nat->Bool
 |[]=>false
 |y::r=>Nat.beq x y||mK x r
noncomputable def uT:∀{l:List Nat},mK x l=true->x∈l
 |[],h=>nomatch h
 | y::r,h=>by
   unfold mK at h;rw[TN] at h;rcases h with h|h
   .rw[Nat.eq_of_beq_eq_true h];show .head _
   .exact .tail _ (uT h)
noncomputable def sY (T:List (List Nat)):Nat->List Nat->List Nat->List Nat
 |0,_,S=>S
 |_+1,[],S=>S
 |n+1,c::Q,S=>sY T n (Q++(T.map λt=>stC t c).filter λx=>!mK x S) (S++(T.map λt=>stC t c).filter λx=>!mK x S)
section
variable{m:a7}{T:List (List Nat)}
theorem uU (hm:aJ m)(h:ia T m)(ht:∀t∈T,∀x∈t,x<4):∀(n:Nat) (Q S:List Nat),(∀c∈Q,∃q,gA m q (j9 c))->(∀c∈S,∃q,gA m q (j9 c))->∀c∈sY T n Q S,∃q,gA m q (j9 c)
 |0,_,_,_,hS=>hS
 |_+1,[],_,_,hS=>hS
 | n+1,c::Q,S,hQ,hS=>by
   have new:∀x∈(T.map λt=>stC t c).filter λx=>!mK x S,∃q,gA m q (j9 x):=λx hx=>by
    obtain(t|h1|rfl):=R5.mp (TL.mp hx).1;obtain(q|r):=hQ c (.head _);rw[<- Nm (ht t h1)];show KY hm h r h1
   show uU hm h ht n _ _ (λx hx=>(Si.mp hx).elim (λz=>hQ x (.tail _ z)) (new x)) λx hx=>(Si.mp hx).elim (hS x) (new x)
def xS (hm:aJ m)(h:ia T m)(B:∀t∈T,∀x∈t,x<4)(v:bw m=j9 228)(g:((List.range 256).all λc=>mK c (sY T 400 [228] [228]))=true)(u:AllIn m none A):255<A.length:=by
 obtain(p|al|E):=u;have st:∀c∈[228],∃q,gA m q (j9 c):=λc j=>by
  rw[RS.mp j,<- v];show{0,.start}
 have:=len_sub (l:=List.range 256) (l':=A.map λx=>MO x.1) List.nodup_range λc j=>by
  obtain(q|r):=uU hm h B 400 _ _ st st c (uT (R4.mp g c j));obtain(q|_|l):=mE r;have y:q<p:=Nat.lt_of_not_le λz=>E q z _ l;show R5.mpr {_,al.all q _ y l,Jf (Tr.mp j)}
 rw[RK,Tf] at this;omega
end
def t6 (w:Nat):List Nat:=(List.range w).map λk=>(k+1) % w
noncomputable def ni (w:Nat):List Nat:=(List.range (w-2)).map λk=>2+k
def fV (w:Nat)(f:Nat):List (List Nat):=[t6 w,[1,0]++ni w,[0,0]++ni w].take (2+f)
def Eo:((List.range 256).all λc=>mK c (sY (fV 4 1) 400 [228] [228]))=true:=`k
noncomputable def Nx (T:List (List Nat)):Nat->List bN->List bN
 |0,L=>L
 |n+1,L=>Nx T n (L++(L.flatMap λb=>T.map λt=>tU t b).eraseDups.filter λb=>!L.contains b)
def mh (w f:Nat):List bN:=Nx (fV w f) 8 [cT w 1]
def mi (w f:Nat):Bool:=(mh w f).contains (cT w 1)&&((mh w f).all λb=>(fV w f).all λt=>(mh w f).contains (tU t b))&&decide ((mh w f).length<=255)
def C9:mi 3 0=true:=`k
def C8:mi 3 1=true:=`k
def C7:mi 4 0=true:=`k
def mf {m:a7}(hm:aJ m)(hw:m.words=w)(h:ia (fV w f) m)(s:mi w f=true):¬ g6 m none:=by
 unfold mi at s;rw[RM,RM] at s;show zR hm h (mh w f) ?_ (λb hb t ht=>Uj.mp (R4.mp (R4.mp s.1.2 b hb) t ht)) (of_decide_eq_true s.2);unfold bw;rw[hw,h.p];show Uj.mp s.1.1
def se (f:D->Bool)(g:D->D)(hz:ds.length<=sz)(y:w M=some ds)
 (hs:∀d∈ds,∃ρ1,b7 tg d ρ0=some ρ1/\gc ρ1 M=.ok (f d) M/\(f d=true->ge ρ1 M=.ok (g d) M)) (hk:kl ((ds.filter f).map g) M):ae (cY (cJ tg (iC gc (bB ge)) ρ0) w [] M) kl:=by
 show eX (λi j u=>u=M/\j=((ds.take i).filter f).map g) (λi j u h=>by rw[h.1];show y) ⟨rfl,rfl⟩ ?_ ?_
 .rintro i d j u hd ⟨rfl,rfl⟩;obtain(ρ1|e1|e2|v):=hs d (Sj hd);have B:i<ds.length:=(RH.mp hd).1;dsimp[cJ,e1,ur,Res.bind_ok,iC,e2];rw[Tq,hd];cases q:f d with
  | false=>
    simp[q]
  | true=>
    rw[if_pos rfl];have len:(((ds.take i).filter f).map g).length<=i:=by
     rw[RK];show RU (Ui _ _) `o
    dsimp[bB,v q,Res.bind_ok];rw[if_pos `a]
    simp[q]
 .rintro j u ⟨rfl,rfl⟩;simpa using hk
noncomputable def AD {α:Type}(v:α->D)(q:α->Int×List Int):∀{A:List α},(∀x∈A,rN M (v x)=some (q x))->oB M (A.map v)=some (A.map q)
 |[],_=>rfl
 | x::A,h=>by
   change(rN M (v x)).bind _=_;rw[h x RY];rw[AD v q λy j=>h y (RP _ j)];rfl
def IH {α:Type}(v:α->D)(q:α->Int×List Int){A:List α}(ea:a Z M=.ok (.lst (A.map v)) M1)(h:∀x∈A,rN M1 (v x)=some (q x)):nH a Z M=.ok .non M1\/∃x∈A,nH a Z M=.ok (v x) M1:=by
 unfold nH;rw[ea];change(match oB M1 (A.map v) with|some ks=>Res.ok ((A.map v).getD (argBest (wV ks) ((A.map v).length-1)) .non) M1|none=>.bad)=_\/∃x∈A,(match oB M1 (A.map v) with|some ks=>Res.ok ((A.map v).getD (argBest (wV ks) ((A.map v).length-1)) .non) M1|none=>.bad)=_
 rw[AD v q h];dsimp only;rw[Sy];cases e:(A.map v)[argBest (wV (A.map q)) ((A.map v).length-1)]? with
 |none=>show .inl rfl
 | some d=>
   obtain(x|j|rfl):=R5.mp (Sj e);show .inr ⟨x,j,rfl⟩
section
variable{α:Type}{k:α->bN}{v:α->D}{E:List α}{M:Mem}{fk:Nat}
def Ml (u:Z[j]?.getD none=some (.fn (aP fk)))(h:M[fk]?=some (ka k v E)):e9 c6 (aa j) Z M=.ok (dW (aP fk) E.length c6) M/\dW (aP fk) E.length c6 M=some (E.map λx=>bD (k x)):=by
 constructor
 .unfold e9;rw[au u];change(match b5 M (aP fk) with|some q=>Res.ok (dW (aP fk) q.2.length c6) M|none=>.bad)=_
  rw[jy h];change Res.ok (dW (aP fk) (E.map _).length c6) M=_;rw[RK]
 .unfold dW;rw[jy h];change(if (E.map _).length=E.length then some ((E.map _).map c6) else none)=_;rw[if_pos (RK _),SN];rfl
def xr (m:Bool)(p:α->Bool)(f:α->D)(J:Z[j]?.getD none=some (.fn (aP fk)))(H:M[fk]?=some (ka k v E))(hl:E.length<=sz)
 (L:∀x∈E,t (some (bD (k x))::Z) M=.ok (p x) M) (I:∀x∈E,p x=true->ge (some (bD (k x))::Z) M=.ok (f x) M):bp m 1 (.one 0) (e9 c6 (aa j)) (iC t (bB ge)) Z M=bc m ((E.filter p).map f) M:=by
 obtain(O|w2):=Ml J H;unfold bp;rw[O];change(cY (cJ (.one 0) (iC t (bB ge)) (none::Z)) (dW (aP fk) E.length c6) [] M).bind (bc m)=_;have e:cY (cJ (.one 0) (iC t (bB ge)) (none::Z)) (dW (aP fk) E.length c6) [] M=.ok ((E.filter p).map f) M:=by
  show aQ (eX (λi u y=>y=M/\u=((E.take i).filter p).map f) (λi u y h=>by rw[h.1];show w2) ⟨rfl,rfl⟩ ?_ ?_)
  .rintro i d u y hd ⟨rfl,rfl⟩;rw[Sh] at hd;obtain(x|B|rfl):=R3.mp hd;have hm:=Sj B;have P:i<E.length:=(RH.mp B).1;have F:b7 (.one 0) (bD (k x)) (none::Z)=some (some (bD (k x))::Z):=rfl;dsimp[cJ,F,ur,Res.bind_ok,iC,L x hm];rw[Tq,B];cases q:p x with
   |false=>simp[q]
   | true=>
     rw[if_pos rfl];have len:(((E.take i).filter p).map f).length<=i:=by
      rw[RK];show RU (Ui _ _) `o
     dsimp[bB,I x hm q,Res.bind_ok];rw[if_pos `a]
     simp[q]
  .rintro u y ⟨rfl,rfl⟩;rw[RK,List.take_length];show⟨rfl,rfl⟩
 rw[e];rfl
def EC (m:Bool)(u:Z[j]?.getD none=some (.fn (aP fk)))(h:M[fk]?=some (ka k v E)):kK m (aa j) Z M=bc m (E.map λx=>bD (k x)) M:=by
 unfold kK;rw[au u];change(match b5 M (aP fk) with|some q=>bc m (q.2.map c6) M|none=>.bad)=_
 rw[jy h];change bc m ((E.map _).map c6) M=_;rw[SN];rfl
end
section
variable{Z:Env}{M M1:Mem}{a b:GE}{t:GT}{A rest:GS}{k:Fl->Mem->Prop}
def p7 (e:a Z M=.ok x M):d4 a Z M=.ok (.next Z) M:=by
 unfold d4;rw[e];rfl
def Mh (h1:a Z M=.ok (nD i) M)(h2:b Z M=.ok (nD j) M):ai (aA .le a b) Z M=.ok (decide (i<=j)) M:=by
 show aQ (ib.mpr (dR.mpr ?_));rw[h1,bW,h2,bW];show{_,rfl,_,rfl,?_,rfl};show decide_eq_decide.mpr Int.ofNat_le
def Nh (h:a Z M=.ok x M1)(j:b Z M1=.ok (.fn o) M1)(e:inD M1 o x=some r):ai (hU n a b) Z M=.ok (n != r) M1:=by
 unfold ai hU;rw[h];change Res.bind (Res.bind (b Z M1) _) _=_;rw[j];change Res.bind (match inD M1 o x with|some r=>Res.ok (D.bl (n != r)) M1|none=>.bad) _=_
 rw[e];rfl
def mH (j:t Z M=.ok false M1)(h:ae (rest Z M1) k):ae (aZ (aN t A aF) rest Z M) k:=by
 dsimp[ax,fJ];rw[j];show h
def uK (e:a Z M=.ok (.lst xs) M):aK .len (a9 a bb) Z M=.ok (nD xs.length) M:=by
 show aj (cu.mpr ?_);rw[af e rfl,bW];show⟨rfl,rfl⟩
def MM {r:Res D}{z:D}{M1:Mem}(h:ae r λx M'=>x=z/\M'=M1):r=.ok z M1:=by
 obtain(a|M'|e|rfl|rfl):=fm.mp h;show e
end
def AllIn.nd {bd:Option Nat}(h:AllIn m bd l):(l.map (·.1)).Nodup:=by
 cases bd with
 |none=>obtain(_|h|_):=h;show h.nd
 |some b=>show fB.nd h
def AllIn.sound {bd:Option Nat}(h:AllIn m bd l):∀x∈l,b8 m x.2 x.1:=by
 cases bd with
 |none=>obtain(_|h|_):=h;show λx j=>(h.sound x j).1
 |some b=>show λx j=>(fB.sound h x j).1
def Fh (E:F3):(un E).map pr=E.map λe=>(e.1,e.2.1):=by unfold un;rw[SN];rfl
def IT (r:List Nat):intsOf (r.map nD)=some (r.map λ(i:Nat)=>(i:Int)):=by
 induction r with
 |nil=>rfl
 |cons a r h=>change(intsOf (r.map nD)).map _=_;rw[h];rfl
section
variable{P:Nat->Option Df}{M:Mem}{m:a7}{w:D}{fit:bN->Bool}{Z:Env}{a b:GE}
def Qw (u:a Z M=.ok (nD i) M)(v:b Z M=.ok (nD j) M)(h:j<=i):ak false .sub a b Z M=.ok (nD (i-j)) M:=by
 unfold ak;rw[u];change(b Z M).bind _=_;rw[v];change Res.ok (D.int ((i:Int)-(j:Int))) M=_;rw[<- Int.ofNat_sub h]
def Bn (h:Z[j]?.getD none=some x):ai (aA .isN (aa j) gN) Z M=.ok (eQ x) M:=by
 show bE ?_;unfold aA;rw[au h];rfl
def ud (hf:Z[3]?.getD none=some (.fn (aP fk)))(h:M[fk]?=some (lN E))(nd:(E.map (·.1)).Nodup)(u:x∈E)(j:Z[0]?.getD none=some (bD x.1)):dP (aa 3) (aa 0) Z M=.ok (vC x) M/\ao (dP (aa 3) (aa 0)) (gI 0) Z M=.ok (nD x.2.1) M:=by
 have e:=uV (x:=.non) (au hf) (au j) (Bz h nd u);show{e,bu e rfl rfl}
def CY (n:Nat)(B:∀(M:Mem),eP (ag P n 166 [m.d,.non] M) (λd M'=>∃v E,d=.fn (aP v)/\M.length<=v/\M'[v]?=some (lN E)/\B3 m M.length M' E/\AllIn m none ((un E).map pr)/\E.length<=255/\Sub M M') (λx M'=>x=.exc 8 none/\g6 m none/\Sub M M'))
 (h80:∀M:Mem,ag P n 80 [m.d,w] M=.ok .non M) (h81:∀(M:Mem) (q:Nat) (b:bN),b8 m q b->ag P n 81 [bD b,w] M=.ok (.bl (fit b)) M) (h167:P 167=some {2,7,nU}) :
 eP (ag P (n+1) 167 [m.d,w] M) (λ_ M'=>(∃A,AllIn m none A/\A.length<=255)/\Sub M M') (λx M'=>x=.exc 8 none/\g6 m none/\Sub M M'):=by
 show eF h167 rfl ?_;dsimp[S3,List.map_nil,To,List.length_nil,List.replicate,List.cons_append,T2,Nat.reduceAdd,Nat.reduceSub];unfold nU;rw[ax,p7 ((fb (af rfl (af rfl rfl))).trans (h80 M)),bW,bM,ax,HK];have H:=B M;have O:bK 166 (ag P n) #[aa 0,gN] [some m.d,some w,none,none,none,none,none] M=ag P n 166 [m.d,.non] M:=fb (af rfl (af rfl rfl));rw[O];cases e:ag P n 166 [m.d,.non] M with
 |bad=>rw[e] at H;show H.elim
 |err x j=>rw[e] at H;show H
 | ok d j=>
   rw[e] at H;obtain(v|E|rfl|Q|F|rows|all|few|sub):=H;show bM.mpr ?_;have nd:(E.map (·.1)).Nodup:=by have:=all.nd;rw[Fh,SN] at this;show this
   have snd:∀x∈E,b8 m x.2.1 x.1:=λx u=>all.sound (x.1,x.2.1) (by rw[Fh];show R5.mpr ⟨x,u,rfl⟩)
   have L:E.length<=sz:=aq `a
   have le:((un E).map pr).length<=255:=by unfold un;rw[RK,RK];show few
   have e1:bp false 1 (.one 0) (e9 c6 (aa 2)) (iC (ai (ah 81 (ag P n) #[aa 0,aa 2])) (bB (dP (aa 3) (aa 0)))) [some m.d,some w,some (.fn (aP v)),none,none,none,none] j=.ok (.lst ((E.filter λx=>fit x.1).map vC)) j:=by
    rw[xr false (λx=>fit x.1) vC rfl F L (λx u=>bE ((aV (af rfl (af rfl rfl))).trans (h81 j _ _ (snd x u)))) (λx u _=>(ud rfl F nd u rfl).1)];show if_pos (aq (by rw[RK];show RU (Ui _ _) `a))
   have R:∀x∈E.filter λx=>fit x.1,rN j (vC x)=some ((x.2.1:Int),((j[x.2.2]?.bind intsOf).getD [])):=λx u=>by
    obtain((r|er|_)|_):=rows x (TL.mp u).1;change((j[x.2.2]?).bind intsOf).map _=_;rw[er];change(intsOf (r.map nD)).map _=some (_,(intsOf (r.map nD)).getD []);rw[IT];rfl
   rcases IH vC (λx=>((x.2.1:Int),((j[x.2.2]?.bind intsOf).getD []))) e1 R with I|⟨x,u,I⟩
   .refine bf (bQ I) ?_;show bL (Bn rfl) (λ_=>?_) (λh=>by cases h)
    have ek:aR #[gS "none",kK true (aa 2)] [some m.d,some w,some (.fn (aP v)),some .non,none,none,none] j=.ok (.tup [.str "none",.cell j.length]) (j++[E.map λe=>bD e.1]):=by
     show fG (hV rfl (hV ?_ rfl)) (R1 rfl);rw[EC true rfl F];show if_pos (aq (by rw[RK];omega))
    dsimp[ax,b4];show fm.mpr {_,_,ek,?_};show{{_,all,le},sub.trans Sub.app}
   .refine bf (bQ I) ?_;show aG (Bn (x:=vC x) rfl) ?_;show bf rfl ?_;have e2:bp true 1 (.one 0) (e9 c6 (aa 2)) (iC (ai (aA .le (ao (dP (aa 3) (aa 0)) (gI 0)) (aa 5))) (bB (aR #[aa 0,ak false .sub (aa 5) (ao (dP (aa 3) (aa 0)) (gI 0))]))) [some m.d,some w,some (.fn (aP v)),some (vC x),some (nD x.2.1),some (.cell x.2.2),none] j
     = .ok (.cell j.length) (j++[(E.filter λy=>decide (y.2.1<=x.2.1)).map λy=>.tup [bD y.1,nD (x.2.1-y.2.1)]]):=by
     rw[xr true (λy=>decide (y.2.1<=x.2.1)) (λy=>.tup [bD y.1,nD (x.2.1-y.2.1)]) rfl F L (λy J=>Mh (ud rfl F nd J rfl).2 rfl) (λy J hd=>fG (af rfl (af (Qw rfl (ud rfl F nd J rfl).2 (of_decide_eq_true hd)) rfl)) (R1 rfl))];show if_pos (aq (by rw[RK];show RU (Ui _ _) `a))
    show jn (kT e2) ?_;dsimp[List.set,ax,b4];show fm.mpr {_,_,fG (af rfl (af rfl (af rfl (af rfl rfl)))) (R1 rfl),{_,all,le},sub.trans Sub.app}
end
def vG (m:a7)(x:D):Prop:=x=.non\/∃v:Nat,x=nD v/\v<m.words
def dX (m:a7)(ws:List D):Prop:=ws.length=(bw m).length/\∀x∈ws,vG m x
def Ep:D->Bool
 |.tup [.tup (x::_),w]=>eQ w||bU x w
 |_=>false
noncomputable def qh (f:D->Bool):∀ds:List D,boolsOf (ds.map λd=>.bl (f d))=some (ds.map f)
 |[]=>rfl
 |d::r=>by simp[boolsOf,qh f r]
def all_gen (f:D->Bool)(j:ae (w Z M) λwk M'=>M'=M/\wk M=some ds)(hz:ds.length<=sz)(he:∀d∈ds,∃ρ1,b7 tg d (List.replicate own none++Z)=some ρ1/\ge ρ1 M=.ok (.bl (f d)) M) :
 aK .all #[bp false own tg w (bB ge)] Z M=.ok (.bl (ds.all f)) M:=by
 show aj ?_;dsimp[cu,bA,dQ,bV];show ay j ?_;rintro wk M' ⟨e1,e2⟩;subst e1;show iD (λd=>.bl (f d)) hz e2 he ?_;dsimp[bT,RK,xH];show{hz,_,qh f ds,?_,trivial}
 congr 1
 rw[List.all_map];rfl
def pW:bZ (.tup (x::r)) (.int 0) M=some x:=by
 change(bX (x::r).length ((0:Nat):Int)).bind (λj=>(x::r)[j]?)=_;rw[dj `s]
 rfl
def zw (m:a7)(x:D):Bool:=eQ x||bq 0 ((m.words:Int)-1) x
def gD (m:a7)(d:D):Bool:=dE (bw m).length d&&(pS d).all (zw m)
def Dz (e:c 1 [nD m.words,x] M=.ok (.bl (bq 0 ((m.words:Int)-1) x)) M) :
 uW (aA .isN (aa 0) gN) (ah 1 c #[ao (aa 1) (gI 0),aa 0]) (some x::some m.d::r) M=.ok (.bl (zw m x)) M:=by
 show aj (MR.mpr (dR.mpr (aU.mpr {x,rfl,cz.mpr {eQ x,rfl,eQ x,rfl,?_}})));unfold zw;cases eQ x with
 |true=>show⟨rfl,rfl⟩
 | false=>
   rw[if_neg R6,(aV (af (bu rfl rfl pW) (af rfl rfl))).trans e];show⟨rfl,rfl⟩
def dX.work (hm:aJ m)(h:dX m ws):gD m (.tup ws)=true/\Th 2 20 (.tup ws):=by
 have l:=dB hm;have lw:=h.1;show{Bool.and_eq_true_iff.mpr {beq_iff_eq.mpr h.1,List.all_eq_true.mpr λx j=>?_},`a,λx j=>by rcases h.2 x j with rfl|⟨v,rfl,_⟩<;>trivial}
 rcases h.2 x j with rfl|⟨v,rfl,u⟩
 .rfl
 .show(false||(decide ((0:Int)<=(v:Int))&&decide ((v:Int)<=(m.words:Int)-1)))=true;rw[decide_eq_true (Int.natCast_nonneg v),decide_eq_true (show(v:Int)<=(m.words:Int)-1 by omega)];rfl
section
variable{P:Nat->Option Df}(h:HasB0 P){M:Mem}{m:a7}
include h
theorem pA (h15:P 15=some {1,6,cP})(h79:P 79=some {2,2,gu})(n:Nat)(hm:aJ m)(hd:Th k L d)(F:L<=100):ag P (n+10) 79 [m.d,d] M=.ok (.bl (gD m d)) M:=by
 show aj (aE h79 rfl ?_);have u:=ko h h15 n (M:=M) hm;have j:(bO (ai (ah 4 (ag P (n+9)) #[aK .len #[ah 15 (ag P (n+9)) #[aa 0]],aa 1])):GT) [some m.d,some d] M=.ok (!dE (bw m).length d) M:=by
  show bH (bE ((aV (af (x:=nD (bw m).length) (aj (cu.mpr ?_)) (af rfl rfl))).trans (ja h.q (n+8) hd)));rw[af ((aV (af rfl rfl)).trans u) rfl,bW];show{by rw[RK],rfl}
 unfold gu gD;cases v:dE (bw m).length d with
 | false=>
   rw[v] at j;show bx j rfl ⟨rfl,rfl⟩
 | true=>
   rw[v] at j;show aG j ?_;cases d with
   | tup E=>
     have y:=hd.tup;show bC (all_gen (zw m) ⟨rfl,rfl⟩ (aq `a) λx B=>{_,rfl,Dz (oy h.q (n+7) (y.2 x B))}) ⟨rfl,rfl⟩
   |_=>cases v
theorem LV (h15:P 15=some {1,6,cP})(h79:P 79=some {2,2,gu})(h80:P 80=some {2,2,fQ})(n:Nat)(hm:aJ m)(j:dX m ws):ag P (n+11) 80 [m.d,.tup ws] M=.ok .non M:=by
 show aj (aE h80 rfl ?_);show bf (p7 ((fb (af rfl rfl)).trans (tV h (n+2) hm))) ?_;show aG (bH (bE ((aV (af rfl (af rfl rfl))).trans ((pA h h15 h79 n hm (j.work hm).2 `d).trans (by rw[(j.work hm).1]))))) ⟨rfl,rfl⟩
end
def xN (zs:List D):Prop:=∀z∈zs,∃x r w,z=.tup [.tup (nD x::r),w]/\(w=.non\/∃v:Nat,w=nD v)
def Eu (j:w=.non\/∃v:Nat,w=nD v):bo .eq (nD x) w M=some (bU (nD x) w):=by
 rcases j with rfl|⟨v,rfl⟩
 .exact nP rfl rfl rfl
 .exact nP rfl rfl rfl
section
variable{P:Nat->Option Df}{M:Mem}
def Ap (h81:P 81=some {2,2,iF})(n:Nat)(hz:(fC es ws).length<=sz)(j:xN (fC es ws)):ag P (n+1) 81 [.tup es,.tup ws] M=.ok (.bl ((fC es ws).all Ep)) M:=by
 show aj (aE h81 rfl ?_);unfold iF;show bC (all_gen Ep ⟨rfl,rfl⟩ hz λz hz=>?_) ⟨rfl,rfl⟩;obtain(x|r|w|rfl|u):=j z hz;show{_,rfl,aj ?_};dsimp[MR,dR,cz,aU,gV];show{w,rfl,eQ w,rfl,eQ w,rfl,?_};cases hn:eQ w with
 | true=>
   show{?_,trivial};change _=D.bl (eQ w||bU (nD x) w);rw[hn];rfl
 | false=>
   show{_,rfl,nD x,pW,w,rfl,_,Eu u,?_,trivial};change _=D.bl (eQ w||bU (nD x) w);rw[hn];rfl
end
section
variable{Z:Env}{M:Mem}{kf:Fl->Mem->Prop}{rest:GS}{g a:GE}{s:GA}
def pb (Q:D->Prop)(O:ae (w Z M) λwk M'=>M'=M/\∀M',aS p M M'->wk M'=some ds)(hz:ds.length<=100)(L:aD M p B)
 (hs:∀d∈ds,∀M' E,aS p M M'->aD M' p E->E<=B+100->∃ρ1,b7 tg d (List.replicate own none++Z)=some ρ1/\ae (g ρ1 M') λx u=>Q x/\aD u p (E+1)/\aS p M' u) :
 ae (bp true own tg w (bB g) Z M) λd M'=>∃q ws,d=.cell q/\M'[q]?=some ws/\ws.length=ds.length/\(∀x∈ws,Q x)/\M.length<=q/\aD M' p (B+100)/\aS p M M':=by
 rw[dQ];show ay O ?_;rintro wk M0 ⟨rfl,hk⟩;show comp_map (λi j M'=>aD M' p (B+i)/\aS p M0 M'/\∀x∈j,Q x) (aq `a) (λ_ _ _ h=>hk _ h.2.1) {L,.refl,λ_ h=>nomatch h} ?_ ?_
 .rintro i d j M' hd hl ⟨F,k1,a1⟩;have S:=(RH.mp hd).1;obtain(ρ1|e|o):=hs d (Sj hd) M' (B+i) k1 F `a
  show{ρ1,e,ay o λx R ⟨H,I,J⟩=>{I,k1.trans J,λy v=>?_}};rcases Si.mp v with v|v
  .exact a1 y v
  .rw[RS.mp v];show H
 .rintro j M' hl ⟨F,k1,a1⟩;show ky.mpr {aq `a,M'.length,j,rfl,TU,hl,a1,k1.len,(F.mono `a).app,k1.trans .app}
end
def vp (hm:aJ m):0<(bw m).length:=List.length_pos_of_mem (pe hm (s:=List.replicate m.places 0) {`s,λx h=>by have:=hm.w2;rw[(List.mem_replicate.mp h).2];omega})
def oo {m:a7}(h:Z[j]?.getD none=some m.d):ao (aa j) (gI 0) Z M=.ok (nD m.words) M:=by
 show aj ?_;dsimp[gV,aU,cz];show{_,h,_,pW,rfl,trivial}
def rY (hm:aJ m)(hs:d7 m s):∃x r,aw s=.tup (nD x::r)/\x<m.words:=by
 cases s with
 | nil=>
   have h1:=hs.1;have h2:=hm.p1;rw[<- h1] at h2;show absurd h2 `d
 |cons x t=>show{x,t.map nD,rfl,hs.2 x RY}
def J0 (c:Call):GS:=#v[aN (ai (aA .gt (aa 3) (gI 0))) #v[av (.one 6) (bp true 1 (.one 0) (cg (aa 6)) (bB (gg (ai (aA .eq (ah 31 c #[aa 1,ak false .add (gI 2) (aa 4)]) (gI 0))) gN (aa 0))))] aF,aM (aK .tuple #[aa 6])]
def J1 (c:Call):GS:=(aZ (av (.one 7) (ah 31 c #[aa 0,aK .len #[aa 6]])) (aZ (aN (ai (aA .eq (aa 2) (gI 1))) #v[dG (aa 6) (aa 7) (ah 31 c #[aa 0,ao (aa 1) (gI 0)])] aF) (J0 c)))
structure zb (m:a7) (p B q:Nat) (M0 M:Mem):Prop where
 pen:aD M p B
 keep:aS p M0 M
 new:M0.length<=q
 at':∃ws,M[q]?=some ws/\dX m ws
def fz (m:a7)(p B:Nat)(M0:Mem):D->Mem->Prop:=λd h=>∃j,d=.tup j/\dX m j/\aD h p B/\aS p M0 h
section
variable{P:Nat->Option Df}{M M0:Mem}{m:a7}{p B q:Nat}
def vV (h:zb m p B q M0 M):ae (#v[aM (aK .tuple #[aa 6])] [x0,x1,x2,x3,x4,x5,some (.cell q),x7] M) (eD (fz m p B M0)):=by
 obtain(j|e|u):=h.at';show bC (aj ?_) ⟨j,rfl,u,h.pen,h.keep⟩;dsimp[cu,bA,bV,aU];show{_,rfl,lj.mpr ⟨j,e,rfl,rfl⟩}
set_option tactic.hygienic true in
def fz.mono (u:B<=B')(h:eD (fz m p B M0) fl M):eD (fz m p B' M0) fl M:=by
 cases fl with
 |next Z=>obtain(j|e|_):=h;cases e
 |ret d=>obtain(j|e|v|q|k):=h;show{j,e,v,q.mono u,k}
 |exc x Z=>show h
variable(hp_:HasP0 P)
include hp_
theorem E8 (n:Nat)(hm:aJ m)(L:p<M0.length)(hf:free<4)(h:zb m p B q M0 M)(X:B<=900000):ae (J0 (ag P (n+2)) [some (.cell p),some m.d,x2,some (nD free),x4,x5,some (.cell q),x7] M) (eD (fz m p (B+100) M0)):=by
 have l2:=dB hm;show bL (sX rfl) (λ_=>?_) λ_=>ay (vV h) λfl j=>fz.mono `a
 obtain(ws|e|y):=h.at';have u:q≠p:=by have:=h.new;omega
 show bP (pb (vG m) {rfl,λj k=>k.get e u} (by rw[y.1];omega) h.pen λd hd j S k' Q I=>{_,rfl,?_}) ?_
 .simp only[Gy,ib,dR,cz,aU];show ay (dA hp_ n rfl (by change Res.ok (D.int ((2:Int)+(free:Int))) j=_;rw[show((2:Int)+(free:Int))=((2+free:Nat):Int) by omega]) Q `a `a `a) ?_
  rintro _ U ⟨v,rfl,Y,F,k2⟩;show{(v:Int)==0,rfl,(v:Int)==0,rfl,?_};cases (v:Int)==0 with
  |true=>show{.inl rfl,F,k2}
  |false=>show{d,rfl,y.2 d hd,F,k2}
 .rintro _ W ⟨q',E,rfl,H,hl,J,hn,R,O⟩;show vV {R,h.keep.trans O,RU h.keep.len hn,E,H,hl.trans y.1,J}
theorem E9 (n:Nat)(hm:aJ m)(u:p<M0.length)(hf:free<4)(h:zb m p B q M0 M)(U:B<=800000):ae (J1 (ag P (n+2)) [some (.cell p),some m.d,some (nD kind),some (nD free),x4,x5,some (.cell q),x7] M) (eD (fz m p (B+102) M0)):=by
 have l1:=vp hm;have l2:=dB hm;have w2:=hm.w2;have w4:=hm.w4;obtain(E|e|y):=h.at';have j:q≠p:=by have:=h.new;omega
 have H:p<q:=by have:=h.new;omega
 show c5 hp_ n (many:=E.length) rfl (aj ?_) h.pen `a (by rw[y.1];omega) (by rw[y.1];omega) λat_ R F J k1=>?_
 .simp only[cu,bA,bV,aU];show{_,rfl,oO.mpr ⟨E,e,rfl,rfl⟩}
 have e1:=k1.get e j;show bL (iq rfl) (λ_=>?_) λ_=>ay (E8 hp_ n hm u hf {J,h.keep.trans k1,h.new,E,e1,y} `a) λfl L=>fz.mono `a
 dsimp[ax,t4];show ay (dA hp_ n rfl (oo rfl) J `a `a `a) ?_
 rintro _ S ⟨v,rfl,O,Q,k2⟩;dsimp[aU];have e2:=k2.get e1 j;show{_,rfl,_,rfl,q,at_,E,at_,rfl,rfl,e2,dj F,?_};show ay (E8 hp_ n hm u hf {Q.setq H,((h.keep.trans k1).trans k2).setq h.new,h.new,E.set at_ (nD v),?_,?_,λx I=>?_} `a) λfl L=>fz.mono `a
 .rw[Sk (RH.mp e2).1]
 .rw[List.length_set];show y.1
 .rcases List.mem_or_eq_of_mem_set I with I|rfl
  .exact y.2 x I
  .exact .inr ⟨v,rfl,O⟩
end
section
variable{P:Nat->Option Df}{M:Mem}
def rG (hp_:HasP P)(W:HasB P)(h35:P 35=some {3,6,fx})(h44:P 44=some {2,5,d5})(h83:P 83=some {2,8,iM})(n:Nat)(hm:aJ m)(X:aD M p B)(hB:B<=600000) :
 ae (ag P (n+4) 83 [.cell p,m.d] M) (fz m p (B+400) M):=by
 have l2:=dB hm;have w2:=hm.w2;have w4:=hm.w4;show aE h83 rfl ?_;show c5 hp_ (n+1) (many:=5) rfl rfl X `a `a `a λkind M1 hkd q1 k1=>?_
 show c5 hp_ (n+1) (many:=4) rfl rfl q1 `a `a `a λfree E j Q k2=>?_
 show bf (bQ (lT rfl (rH W (n+2) hm))) ?_;show bP (k:=λd h=>∃r,d=.tup ((ends m r).map aw)/\(∀i∈r,i<m.deeds.length)/\aD h p (B+60)/\aS p E h) ?_ ?_
 .simp only[fO,bA,bV,cz];change ae (ag P (n+3) 35 [.cell p,m.d,nD 6] E) _;show ay (Hx hp_ h35 n hm Q `a `a) ?_
  rintro _ M3 ⟨r,rfl,hr,_,q3,k3⟩;show ay (CW W h44 (n+1) hm hr.2) ?_;rintro _ M4 ⟨rfl,S⟩;show{r,rfl,hr.2,S.pen (q3.mono `a),k3.trans S.keep}
 rintro _ M4 ⟨r,rfl,hr,q4,k4⟩;have U:=(k1.trans k2).trans k4;show bP (pb (vG m) {rfl,λ_ _=>rfl} (by simp[ends];omega) q4 λd hd h B' k' O F=>{_,rfl,?_}) ?_
 .obtain(s|hs|rfl):=R5.mp hd;obtain(b|I|rfl):=R5.mp hs;obtain(x|t|e|hx):=rY hm (qT hm hr (nS b I));rw[e];dsimp[gV,aU,cz];show{_,rfl,_,pW,.inr ⟨x,rfl,hx⟩,O.mono `a,.refl}
 rintro _ M5 ⟨q,ws,rfl,e5,hl,hQ,hn,Y,k5⟩;have y:zb m p (B+260) q M M5:={Y.mono `a,U.trans k5,RU U.len hn,ws,e5,by rw[hl];simp[ends],hQ}
 have u:=X.lt;show bL (iq rfl) (λ_=>?_) λ_=>ay (E9 hp_ (n+1) hm u j y `a) λfl h=>fz.mono `a
 show bP (pb (vG m) {rfl,λ_ _=>rfl} `o Y λd hd h B' k' O F=>{_,rfl,?_}) ?_
 .refine ay (dA hp_ (n+1) rfl (oo rfl) O `a `a `a) ?_
  rintro _ E ⟨v,rfl,hv,Q,k2⟩;show{.inr ⟨v,rfl,hv⟩,Q,k2}
 rintro _ M6 ⟨q',R,rfl,e6,J,H,L,q6,k6⟩;change ae (J1 (ag P (n+1+2)) [some (.cell p),some m.d,some (nD kind),some (nD free),some (.lst ((bw m).map aw)),some (.tup ((ends m r).map aw)),some (.cell q'),none] M6) (eD (fz m p (B+400) M));show ay (E9 hp_ (n+1) hm u j {q6,y.keep.trans k6,RU y.keep.len L,R,e6,by rw[J];simp,H} `a) λfl h=>fz.mono `a
end
def MG (ws:List D)(b:bN):Bool:=(fC (b.map aw) ws).all Ep
theorem uj (hm:aJ m):∀{b:bN}{ws:List D},(∀s∈b,d7 m s)->(∀x∈ws,vG m x)->xN (fC (b.map aw) ws)
 |[],ws,_,_=>by intro z h;cases ws<;>show nomatch h
 |s::b,[],_,_=>by intro z h;show nomatch h
 | s::b,x::ws,j,u=>by
   intro z h;rcases R7.mp (h) with rfl|h
   .obtain(v|r|e|_):=rY hm (j s RY);show{v,r,x,by rw[e],?_}
    rcases u x RY with z|⟨v,z,_⟩
    .exact .inl z
    .exact .inr ⟨v,z⟩
   .exact uj hm (λs hs=>j s (RP _ hs)) (λx y=>u x (RP _ y)) z h
noncomputable def vU:∀{xs ys:List D},(fC xs ys).length<=xs.length
 |[],ys=>by cases ys<;>show RN _
 |_::_,[]=>S5 _
 |x::xs,y::ys=>Nat.succ_le_succ (vU)
section
variable{P:Nat->Option Df}{M:Mem}{m:a7}{ws:List D}{q:Nat}{b:bN}
def OS (n:Nat)(h81:P 81=some {2,2,iF})(hm:aJ m)(h:dX m ws)(lq:b8 m q b):ag P (n+1) 81 [bD b,.tup ws] M=.ok (.bl (MG ws b)) M:=by
 obtain(j|os):=ua hm lq.1;have:=dB hm;show Ap h81 n (aq (RU vU (by rw[RK];omega))) (uj hm os h.2)
end
section
variable{Z:Env}{M:Mem}{a b hi lo:GE}
def tM (ea:a Z M=.ok (.lst xs) M)(h:hi Z M=.ok (nD j) M)(hz:xs.length<=1000):cw false false true a (gC .non) hi Z M=.ok (.lst (xs.take j)) M:=by
 show aj ?_;rw[gU,ea];change ae (hi Z M) _;rw[h];show{rfl,rfl,tY.mpr {aq (by rw[SJ];omega),rfl,rfl}}
def EA (ea:a Z M=.ok (.lst xs) M)(h:lo Z M=.ok (nD j) M)(hz:xs.length<=1000):cw false true false a lo (gC .non) Z M=.ok (.lst (xs.drop j)) M:=by
 show aj ?_;rw[gU,ea];change ae (lo Z M) _;rw[h];show{rfl,rfl,De.mpr {aq (by rw[TY];omega),rfl,rfl}}
def Hr (ea:a Z M=.ok (.int i) M)(u:b Z M=.ok (.int j) M)(h:-(2^62)<=i/\i<=j/\j<2^62/\j-i<2^20):jR a b Z M=.ok (.tup ((List.range (j-i).toNat).map λ(k:Nat)=>D.int (i+(k:Int)))) M:=by
 unfold jR;rw[ea];change(b Z M).bind _=_;rw[u];show if_pos h
def HP (h:Z[1]?.getD none=some (nD w))(u:w=3\/w=4):jR (gC (.int 2)) (aa 1) Z M=.ok (aw (ni w)) M:=by
 rw[Hr (i:=2) (j:=(w:Int)) rfl (au h) `a]
 rcases u with rfl|rfl<;>rfl
def v9 (h:Z[1]?.getD none=some (nD w))(j:w=3\/w=4):ak false .add (aR (a9 (gC (nD x)) (a9 (gC (nD y)) bb))) (jR (gC (.int 2)) (aa 1)) Z M=.ok (aw ([x,y]++ni w)) M:=by
 rw[kQ (fG (af rfl (af rfl rfl)) (R1 rfl)) (HP h j)];show aj (kY.mpr {aq ?_,rfl,rfl});rcases j with rfl|rfl<;>show R1 rfl
end
def xh (h:w=3\/w=4)(hf:f=0\/f=1):(fV w f).length=2+f/\∀t∈fV w f,g4 w t:=by
 rcases h with rfl|rfl<;>rcases hf with rfl|rfl<;>show{rfl,by unfold g4;decide}
section
variable{P:Nat->Option Df}{M:Mem}
def HA (u:HasP0 P)(J:P 233=some {1,7,ke})(n:Nat)(hp:aD M p B)(hB:B<=600000):ae (ag P (n+3) 233 [.cell p] M) λd M'=>∃(m:a7) (b:Bool),d=.tup [m.d,.bl b]/\aJ m/\(∀d∈m.deeds,∃a t c,d=.turn a t c)/\(b=true->∀A,AllIn m none A->255<A.length)/\(b=false->¬ g6 m none)/\aD M' p (B+10)/\aS p M M':=by
 show aE J rfl ?_;show bP (k:=λd M'=>∃w:Nat,d=nD w/\(w=3\/w=4)/\aD M' p (B+1)/\aS p M M') ?_ ?_
 .refine dS.mpr (cz.mpr (ay (dA u n (many:=2) rfl rfl hp `a `d `d) ?_))
  rintro _ U ⟨v,rfl,hv,p1,k1⟩;show gZ.mpr {3+v,congrArg D.int `a,`a,p1,k1}
 rintro _ U ⟨w,rfl,I,p1,k1⟩;show c5 u n (many:=2) rfl rfl p1 `a `d `d λf W hf p2 k2=>?_
 have hf:f=0\/f=1:=`a
 have fl:=(xh I hf).1;have ft:=(xh I hf).2;show bP (k:=λd M'=>d=aw (t6 w)/\M'=W) ?_ ?_
 .simp only[cu,bA,bV,dQ,fF,aU];show{_,rfl,_,rfl,{`a,`a},?_}
  show pa (λk=>(k+1) % w) `a (λk hk=>uF (kW (v:=k) (w:=1) (au rfl) rfl) rfl `a) (bT.mpr {aq `o,rfl,rfl})
 rintro _ _ ⟨rfl,rfl⟩;have Y:D.lst ([aw (t6 w),aw ([1,0]++ni w),aw ([0,0]++ni w)].take (2+f))=.lst ((fV w f).map aw):=congrArg D.lst (by unfold fV;rw[List.map_take];rfl)
 show bf (bQ ((tM (j:=2+f) (mC (af (au rfl) (af (v9 (x:=1) (y:=0) rfl I) (af (v9 (x:=0) (y:=0) rfl I) rfl))) (R1 rfl)) (kW (v:=2) (w:=f) rfl (au rfl)) (R1 rfl)).trans (by rw[Y]))) ?_
 show bP (k:=λd M'=>∃ds:List a8,d=.lst (ds.map a8.d)/\ds.length=2+f/\(∀(j:Nat) x,ds[j]?=some x->∃t c,(fV w f)[j]?=some t/\eh c/\x=.turn 0 t c)/\aD M' p (B+5)/\aS p M M') ?_ ?_
 .refine dQ.mpr (gE.mpr (aU.mpr {_,rfl,rfl,?_}));show comp_map (ds:=(fV w f).map aw) (λi F M'=>∃ds:List a8,F=ds.map a8.d/\ds.length=i/\(∀(j:Nat) x,ds[j]?=some x->∃t c,(fV w f)[j]?=some t/\eh c/\x=.turn 0 t c)/\aD M' p (B+2+i)/\aS p M M') (aq (by rw[RK];omega)) (λ_ _ _ _=>rfl) {[],rfl,rfl,(λ_ _ z=>nomatch z),p2,k1.trans k2} ?_ ?_
  .rintro i d F M' hd _ ⟨ds,rfl,hl,H,q,kk⟩;rw[Sh] at hd;obtain(t|E|rfl):=R3.mp hd;have hi:=(RH.mp E).1;show{_,rfl,gR.mpr (bA.mpr (cz.mpr (bA.mpr (cz.mpr (bA.mpr (aU.mpr {_,rfl,bA.mpr (dS.mpr (cz.mpr ?_))}))))))};show ay (dA u n (many:=3) rfl rfl q `a `d `d) ?_
   rintro _ X ⟨v,rfl,hv,q4,R⟩;show gZ.mpr (bV.mpr {aq (n:=4) `d,ds++[.turn 0 t (1+v)],?_,by rw[Sa,hl];rfl,λj x h=>?_,q4,kk.trans R})
   .rw[Sq];show congrArg (λz=>ds.map a8.d++[D.tup [.str "turn",nD 0,aw t,z]]) (congrArg D.int `a)
   .rcases Ub j ds.length with z|z
    .rw[RR z] at h;show H j x h
    .rw[So z] at h;have:j=ds.length:=by
      have:=(RH.mp h).1;simp at this;omega
     subst this;rw[Nat.sub_self] at h;cases h;show{t,1+v,by rw[hl];show E,{`a,`a},rfl}
  .rintro F M' hl ⟨ds,rfl,L,H,q,kk⟩;rw[RK,fl] at L q;show bT.mpr {aq (by rw[RK];omega),ds,rfl,L,H,q.mono `a,kk}
 rintro _ M3 ⟨ds,rfl,hl,H,p3,k3⟩;show c5 u n (many:=ds.length) rfl (by rw[uK (xs:=ds.map a8.d) rfl,RK]) p3 `a `a `a λat_ X hat p4 R=>?_
 show bC (fG (af (fG (af (au rfl) (af rfl (af ((vm (af ((kQ (EA (xs:=ds.map a8.d) (j:=at_) rfl rfl (by rw[RK];omega)) (tM (xs:=ds.map a8.d) (j:=at_) rfl rfl (by rw[RK];omega))).trans (aj (BZ.mpr (bT.mpr {aq `o,rfl,rfl})))) rfl)).trans rfl) rfl))) (R1 rfl)) (af (ff (x:=((w:Int)==4)) (y:=((f:Int)==1)) rfl λ_=>rfl) rfl)) (R1 rfl)) ?_
 have mem:∀x,x∈ds.drop at_++ds.take at_↔x∈ds:=λx=>by
  rw[Si,or_comm,<- Si,List.take_append_drop]
 have hm:aJ {w,1,ds.drop at_++ds.take at_}:=by
  have ln:(ds.drop at_++ds.take at_).length=2+f:=by simp;omega
  show{show 2<=w by omega,show w<=4 by omega,RN _,R1 rfl,by rw[ln];omega,by rw[ln];omega,λd hd=>?_}
  obtain(j|h):=List.mem_iff_getElem?.mp ((mem d).mp hd);obtain(t|c|E|S|rfl):=H j d h;show{Nat.lt_succ_self 0,ft t (Sj E),S}
 have tb:ia (fV w f) {w,1,ds.drop at_++ds.take at_}:=by
  show{rfl,λd hd=>?_,λt E=>?_}
  .obtain(j|h):=List.mem_iff_getElem?.mp ((mem d).mp hd);obtain(t|c|E|S|e):=H j d h;show{t,Sj E,c,e}
  .obtain(j|h):=List.mem_iff_getElem?.mp E;have lt:j<ds.length:=by rw[hl,<- fl];show(RH.mp h).1
   obtain(t'|c|O|_|e):=H j _ (RZ lt);rw[h] at O;cases O;show{c,(mem _).mpr (by rw[<- e];show Ta lt)}
 show{{w,1,ds.drop at_++ds.take at_},((w:Int)==4)&&((f:Int)==1),?_,hm,(λd hd=>by obtain(t|_|c|e):=tb.all d hd;show{0,t,c,e}),λQ A hA=>?_,λQ=>?_,p4.mono `a,k3.trans R}
 .unfold a7.d;rw[Sq,List.map_drop,List.map_take];rfl
 .rcases I with rfl|rfl
  .exact absurd Q (by rcases hf with rfl|rfl<;>decide)
  .rcases hf with rfl|rfl
   .exact absurd Q `d
   .exact xS hm tb `d rfl Eo hA
 .rcases I with rfl|rfl
  .rcases hf with rfl|rfl
   .exact mf hm rfl tb C9
   .exact mf hm rfl tb C8
  .rcases hf with rfl|rfl
   .exact mf hm rfl tb C7
   .exact absurd Q `d
end
structure vJ (P:Nat->Option Df):Prop where
 whole:P 67=some {1,1,jZ}
 is_in:P 68=some {3,3,mV}
 numbers:P 69=some {4,4,h9}
 is_deed:P 70=some {3,3,dw}
 is_machine:P 71=some {1,1,fE}
noncomputable def pw:D->Bool
 |.int _=>true
 |_=>false
def eq_empty (j:l.all (aC 63)=true):bo .eq (.lst l) (.lst []) M=some l.isEmpty:=by
 show nP j rfl ?_;cases l<;>rfl
noncomputable def pZ (f:D->Bool):∀ds:List D,((ds.filter λd=>!f d).map λ_=>D.int 1).isEmpty=ds.all f
 |[]=>rfl
 | d::r=>by
   have j:=pZ f r;cases q:f d with
   |true=>simpa[q] using j
   |false=>simp[q]
def qC (f:D->Bool)(j:ae (w Z M) λwk M'=>M'=M/\wk M=some ds)(hz:ds.length<=sz)(he:∀d∈ds,gc (some d::Z) M=.ok (!f d) M)(hk:k (.bl (ds.all f)) M) :
 ae (aA .eq (bp false 1 (.one 0) w (iC gc (bB (gI 1)))) (aW false bb) Z M) k:=by
 dsimp[dR,dQ,nK,bV,bT];show ay j ?_;rintro wk M' ⟨e1,e2⟩;subst e1;show se (λd=>!f d) (λ_=>.int 1) hz e2 (λd hd=>{some d::Z,rfl,he d hd,λ_=>rfl}) ?_;show{RU (by rw[RK];show Ui _ _) hz,aq `d,_,eq_empty ?_,?_}
 .rw[R4];intro x u;obtain(_|_|rfl):=R5.mp u;rfl
 .rw[pZ];show hk
section
variable{P:Nat->Option Df}(h:vJ P){M:Mem}{k L:Nat}{d:D}
include h
theorem md (n:Nat)(hd:Th k L d):ag P (n+1) 67 [d] M=.ok (.bl (pw d)) M:=by
 show aj (aE h.whole rfl ?_);cases d with
 |fn j=>cases k<;>show hd.elim
 |exc y p=>cases k<;>show hd.elim
 |_=>show cK rfl
theorem jl (n:Nat)(hd:Th k L d)(lo hi:Int):ag P (n+2) 68 [d,.int lo,.int hi] M=.ok (.bl (bq lo hi d)) M:=by
 show aj (aE h.is_in rfl ?_);have e:ah 67 (ag P (n+1)) #[aa 0] [some d,some (.int lo),some (.int hi)] M=.ok (.bl (pw d)) M:=lT rfl (md h n hd);cases d with
 |fn j=>cases k<;>show hd.elim
 |exc y p=>cases k<;>show hd.elim
 |int i=>show bC (ff e λ_=>va rfl rfl rfl) ⟨rfl,rfl⟩
 |_=>show bC (ff (y:=false) e λz=>by cases z) ⟨rfl,rfl⟩
noncomputable def qB (many:Nat)(lo hi:Int):D->Bool
 |.tup j=>j.length==many&&j.all (bq lo hi)
 |_=>false
theorem qr (n:Nat)(hd:Th k L d)(F:L<=100)(lo hi:Int):ag P (n+3) 69 [d,nD many,.int lo,.int hi] M=.ok (.bl (qB many lo hi d)) M:=by
 show aj (aE h.numbers rfl ?_);cases d with
 |fn j=>cases k<;>show hd.elim
 |exc y p=>cases k<;>show hd.elim
 | tup u=>
   have E:=hd.tup;dsimp[h9,ax,mj,b4,bM,CN,fJ,N4,ib,Ql,cz,aU,Bw,S3,List.map_nil,List.cons_append,T2,SG,SH,S2,Tb,exists_eq_left'];show{true,rfl,true,rfl,?_};rw[if_neg `d]
   show dR.mpr (cu.mpr (bA.mpr (aU.mpr {_,rfl,bV.mpr (IK.mpr (aU.mpr {_,rfl,_,Po,_,rfl,?_}))})));by_cases B:u.length=many
   .have v:(!((u.length:Int)==(many:Int)))=false:=by simp[B]
    rw[v,if_neg `d]
    show qC (bq lo hi) (by simp;show⟨rfl,rfl⟩) (aq `a) (λd hd=>aQ (by simp[jl h n (E.2 d hd)])) ?_
    show{by simp[qB,B],rfl}
   .have v:(!((u.length:Int)==(many:Int)))=true:=by simp;omega
    rw[v,if_pos `d]
    show{by simp[qB,B],rfl}
 |_=>show cK rfl
end
noncomputable abbrev cU:List D:=[.str "turn",.str "join",.str "move",.str "put"]
def AZ (j:Th k L x)(hk:k<=60):bo .notin x (.tup cU) M=some (!(cU.any λy=>bU y x)):=by
 have u:aC 64 x=true:=(j.mono `a (RN L)).pure
 have e:bo .notin x (.tup cU) M=((cH M (.tup cU)).bind (jQ (view M x))).map (!·):=by cases x<;>rfl
 rw[e,j.view];change Option.map _ (jQ x cU)=_;unfold jQ;rw[u,show cU.all (aC 63)=true by decide +kernel]
 rfl
section
variable{P:Nat->Option Df}(h:vJ P){M:Mem}{k L:Nat}{d:D}
include h
theorem A9 (n:Nat)(hl:xs.length≠4/\xs.length≠5):ag P (n+4) 70 [.tup xs,nD w,nD p] M=.ok (.bl false) M:=by
 show aj (aE h.is_deed rfl ?_);show bx (aQ ?_) rfl ⟨rfl,rfl⟩;have e:bo .notin (.int xs.length) (.tup [.int 4,.int 5]) M=some true:=by
  have e1:bU (.int 4) (.int xs.length)=false:=by simp[td];omega
  have e2:bU (.int 5) (.int xs.length)=false:=by simp[td];omega
  change(some ([D.int 4,D.int 5].any λy=>bU y (.int xs.length))).map (!·)=_;simp[e1,e2]
 simp[cM,e];show aq `d
theorem yy (n:Nat)(j:Th k L x)(hk:k<=60)(hl:xs.length=3\/xs.length=4)(hn:(cU.any λy=>bU y x)=false):ag P (n+4) 70 [.tup (x::xs),nD w,nD p] M=.ok (.bl false) M:=by
 show aj (aE h.is_deed rfl ?_);have e:bo .notin (.int (x::xs).length) (.tup [.int 4,.int 5]) M=some false:=by
  change(some ([D.int 4,D.int 5].any λy=>bU y (.int (x::xs).length))).map (!·)=_;rcases hl with e|e<;>simp[td,e]
 have e2:=AZ (M:=M) j hk;rw[hn] at e2;show aG (aQ ?_) (bx (aQ ?_) rfl ⟨rfl,rfl⟩)
 .simp at e;simp[cM,e];show aq `d
 .simp[bX,e2];show aq `d
theorem GD (n:Nat)(j:L+1<=100)(y:bZ (.tup xs) (.int 1) M=some a)(il:bZ (.tup xs) (.int (-1)) M=some c)(u:Th k L a)(v:Th k L c) :
 (c4 (bO (ai (ah 69 (ag P (n+3)) #[aR #[ao (aa 0) (gI 1)],gI 1,gI 0,ak false .sub (aa 2) (gI 1)]))) (bO (ai (ah 68 (ag P (n+3)) #[ao (aa 0) (eC (gI 1)),gI 1,gI 3]))):GT) [some (.tup xs),some (nD w),some (nD p)] M=.ok (!(bq 0 ((p:Int)-1) a&&bq 1 3 c)) M:=by
 have B:ag P (n+3) 69 [.tup [a],.int 1,.int 0,.int ((p:Int)-1)] M=.ok (.bl (qB 1 0 ((p:Int)-1) (.tup [a]))) M:=qr h n (d:=.tup [a]) (k:=k+1) ({`s,λd hd=>by rw[RS.mp hd];show u.mono (RN k) (Nat.le_succ L)}) j 0 _
 have E:=jl h (n+1) (M:=M) v 1 3;have F:1<=sz:=aq `d
 show aQ ?_;simp[-qO,y,il,B,E,F,qB];cases bq 0 ((p:Int)-1) a<;>cases bq 1 3 c<;>simp
end
def Ir:bo .notin (.str "turn") (.tup cU) M=some false:=by
 change(jQ (.str "turn") cU).map (!·)=_;decide +kernel
def Iv:bo .notin (.str "join") (.tup cU) M=some false:=by
 change(jQ (.str "join") cU).map (!·)=_;decide +kernel
def Iu:bo .notin (.str "move") (.tup cU) M=some false:=by
 change(jQ (.str "move") cU).map (!·)=_;decide +kernel
def LX:bo .notin (.str "put") (.tup cU) M=some false:=by
 change(jQ (.str "put") cU).map (!·)=_;decide +kernel
def FR:bo .ne (.bl x) (.bl y) M=some (x != y):=by cases x<;>cases y<;>rfl
def Mz:bo .notin (.int 4) (.tup [.int 4,.int 5]) M=some false/\bo .notin (.int 5) (.tup [.int 4,.int 5]) M=some false:=⟨rfl,rfl⟩
section
variable{P:Nat->Option Df}(h:vJ P){M:Mem}{k L:Nat}{d:D}
include h
theorem yx (n:Nat)(u:L+1<=100)(y:Th k L a)(B:Th k L b)(E:Th k L c):ag P (n+4) 70 [.tup [.str "turn",a,b,c],nD w,nD p] M=.ok (.bl (jF w p [a,b,c])) M:=by
 show aj (aE h.is_deed rfl ?_);change ae (dw _ [some (.tup [.str "turn",a,b,c]),some (nD w),some (nD p)] M) _;show aG (by kernel_rfl) (aG (by kernel_rfl) ?_)
 have j:=GD h n (w:=w) (p:=p) (M:=M) (xs:=[.str "turn",a,b,c]) u rfl rfl y E;cases A:(bq 0 ((p:Int)-1) a&&bq 1 3 c) with
 | false=>
   rw[A] at j;show bx j rfl {?_,rfl};dsimp[jF];rcases Bool.and_eq_false_iff.mp A with q|q<;>simp[q]
 | true=>
   rw[A] at j;dsimp[RM] at A;show aG j ?_;have q:=qr h n (M:=M) (many:=w) B `a 0 ((w:Int)-1)
   show bx (v:=.bl (iI w b)) (by kernel_rfl) (aj (by simp[bX,q];cases b<;>rfl)) {?_,rfl}
   simp[jF,A.1,A.2]
theorem A7 (n:Nat)(u:L+1<=100)(y:Th k L a)(B:Th k L b)(E:Th k L c):ag P (n+4) 70 [.tup [.str "put",a,b,c],nD w,nD p] M=.ok (.bl (mw w p [a,b,c])) M:=by
 show aj (aE h.is_deed rfl ?_);change ae (dw _ [some (.tup [.str "put",a,b,c]),some (nD w),some (nD p)] M) _;show aG (by kernel_rfl) (aG (by kernel_rfl) ?_)
 have j:=GD h n (w:=w) (p:=p) (M:=M) (xs:=[.str "put",a,b,c]) u rfl rfl y E;cases A:(bq 0 ((p:Int)-1) a&&bq 1 3 c) with
 | false=>
   rw[A] at j;show bx j rfl {?_,rfl};dsimp[mw];rcases Bool.and_eq_false_iff.mp A with q|q<;>simp[q]
 | true=>
   rw[A] at j;dsimp[RM] at A;show aG j ?_;have q:=jl h (n+1) (M:=M) B 0 ((w:Int)-1);show aG (by kernel_rfl) (bx (v:=.bl (bq 0 ((w:Int)-1) b)) (by kernel_rfl) (aj (by simp[bX,q])) {?_,rfl})
   simp[mw,A.1,A.2]
theorem yz (n:Nat)(u:L+1<=100)(v:Th k L a)(y:Th k L b)(E:Th k L c):ag P (n+4) 70 [.tup [.str "move",a,b,c],nD w,nD p] M=.ok (.bl (iU w p [a,b,c])) M:=by
 show aj (aE h.is_deed rfl ?_);change ae (dw _ [some (.tup [.str "move",a,b,c]),some (nD w),some (nD p)] M) _;show aG (by kernel_rfl) (aG (by kernel_rfl) ?_)
 have j:=GD h n (w:=w) (p:=p) (M:=M) (xs:=[.str "move",a,b,c]) u rfl rfl v E;cases A:(bq 0 ((p:Int)-1) a&&bq 1 3 c) with
 | false=>
   rw[A] at j;show bx j rfl {?_,rfl};dsimp[iU];rcases Bool.and_eq_false_iff.mp A with q|q<;>simp[q]
 | true=>
   rw[A] at j;dsimp[RM] at A;show aG j ?_;have q:=jl h (n+1) (M:=M) y 0 ((p:Int)-1);show aG (by kernel_rfl) (aG (by kernel_rfl) ?_)
   cases B:bq 0 ((p:Int)-1) b with
   | false=>
     rw[B] at q;show bx (aQ (by simp[bX,q])) rfl {by simp[iU,B],rfl}
   | true=>
     rw[B] at q;show aG (aQ (by simp[bX,q])) (bx (by kernel_rfl) rfl {?_,rfl})
     simp[iU,A.1,A.2,B]
theorem yA (n:Nat)(H:L+1<=100)(I:Th k L a)(J:Th k L b)(he:Th k L e)(O:Th k L c):ag P (n+4) 70 [.tup [.str "join",a,b,e,c],nD w,nD p] M=.ok (.bl (ij w p [a,b,e,c])) M:=by
 show aj (aE h.is_deed rfl ?_);change ae (dw _ [some (.tup [.str "join",a,b,e,c]),some (nD w),some (nD p)] M) _;show aG (by kernel_rfl) (aG (by kernel_rfl) ?_)
 have u:=GD h n (w:=w) (p:=p) (M:=M) (xs:=[.str "join",a,b,e,c]) H rfl rfl I O;cases A:(bq 0 ((p:Int)-1) a&&bq 1 3 c) with
 | false=>
   rw[A] at u;show bx u rfl {?_,rfl};dsimp[ij];rcases Bool.and_eq_false_iff.mp A with q|q<;>simp[q]
 | true=>
   rw[A] at u;dsimp[RM] at A;show aG u ?_;have q:=jl h (n+1) (M:=M) J 0 ((p:Int)-1);show aG (by kernel_rfl) (aG (by kernel_rfl) ?_)
   cases B:bq 0 ((p:Int)-1) b with
   | false=>
     rw[B] at q;show bx (aQ (by simp[bX,q])) rfl {by simp[ij,B],rfl}
   | true=>
     rw[B] at q;show aG (aQ (by simp[bX,q])) (aG (by kernel_rfl) ?_)
     have F:ij w p [a,b,e,c]=jS w e:=by simp[ij,A.1,A.2,B]
     rw[F];cases e with
     |fn j=>show absurd he (by cases k<;>show id)
     |exc y p=>show absurd he (by cases k<;>show id)
     | tup E=>
       have Q:=he.tup;by_cases v:E.length=w
       .refine aG (aQ (by simp[bX,cM,v])) ?_
        dsimp[ax,b4];show qC (iI w) (by simp[bX];show⟨rfl,rfl⟩) (aq `a) (λd hd=>aQ (by
         have q:=qr h n (M:=M) (many:=w) (Q.2 d hd) `a 0 ((w:Int)-1)
         have:qB w 0 ((w:Int)-1) d=iI w d:=by cases d<;>rfl
         rw[this] at q;simp[q])) ?_
        show{by simp[jS,v],rfl}
       .have:¬ ((E.length:Int)=(w:Int)):=`a
        show bx (aQ (by simp[bX,cM,this])) rfl {by simp[jS,v],rfl}
     |_=>show bx rfl rfl ⟨rfl,rfl⟩
omit h in
theorem AL (hl:ds.length≠3/\ds.length≠4):cv w p s ds=false:=by
 have t:jF w p ds=false:=by
  match ds,hl with
  |[],_=>rfl
  |[_],_=>rfl
  |[_,_],_=>rfl
  |[_,_,_],hl=>simp at hl
  |_::_::_::_::_,_=>rfl
 have j:ij w p ds=false:=by
  match ds,hl with
  |[],_=>rfl
  |[_],_=>rfl
  |[_,_],_=>rfl
  |[_,_,_],_=>rfl
  |[_,_,_,_],hl=>simp at hl
  |_::_::_::_::_::_,_=>rfl
 have m:iU w p ds=false:=by
  match ds,hl with
  |[],_=>rfl
  |[_],_=>rfl
  |[_,_],_=>rfl
  |[_,_,_],hl=>simp at hl
  |_::_::_::_::_,_=>rfl
 have u:mw w p ds=false:=by
  match ds,hl with
  |[],_=>rfl
  |[_],_=>rfl
  |[_,_],_=>rfl
  |[_,_,_],hl=>simp at hl
  |_::_::_::_::_,_=>rfl
 unfold cv;rw[t,j,m,u];split<;>first|rfl|(split<;>first|rfl|(split<;>first|rfl|(split<;>rfl)))
theorem jM (n:Nat)(hs:bo .notin (.str s) (.tup cU) M=some false)(j:bo .eq (.str s) (.str "join") M=some bj)(hl:xs.length=3/\bj=true\/xs.length=4/\bj=false):ag P (n+4) 70 [.tup (.str s::xs),nD w,nD p] M=.ok (.bl false) M:=by
 show aj (aE h.is_deed rfl ?_);have u:2<=sz:=aq `d
 have v:4<=sz:=aq `d
 rcases hl with⟨e,rfl⟩|⟨e,rfl⟩
 .refine aG (aQ (by simp[cM,e,Mz.1,u])) (bx (aQ ?_) rfl ⟨rfl,rfl⟩)
  simp[bX,hs,v,j,FR,e]
 .refine aG (aQ (by simp[cM,e,Mz.2,u])) (bx (aQ ?_) rfl ⟨rfl,rfl⟩)
  simp[bX,hs,v,j,FR,e]
theorem A8 (n:Nat)(hi:cM .tuple d=some false):ag P (n+4) 70 [d,nD w,nD p] M=.ok (.bl false) M:=by
 show aj (aE h.is_deed rfl ?_);show bx (aQ (by simp[hi])) rfl ⟨rfl,rfl⟩
theorem Ao (n:Nat)(hd:Th k L d)(hk:k<=60)(E:L+1<=100):ag P (n+4) 70 [d,nD w,nD p] M=.ok (.bl (gW w p d)) M:=by
 cases d with
 |fn j=>show absurd hd (by cases k<;>show id)
 |exc y p=>show absurd hd (by cases k<;>show id)
 | tup xs=>
   have H:=hd.tup;by_cases hl:xs.length≠4/\xs.length≠5
   .rw[A9 h n hl];cases xs with
    |nil=>rfl
    | cons x v=>
      simp at hl;cases x with
      |str s=>change _=Res.ok (D.bl (cv w p s v)) M;rw[AL {`a,`a}]
      |_=>rfl
   .have hl:xs.length=4\/xs.length=5:=`a
    cases xs with
    |nil=>simp at hl
    | cons x v=>
      have F:=H.2 x RY;have u:=λd hd=>H.2 d (RP _ hd);have hl:v.length=3\/v.length=4:=by simp at hl;omega
      by_cases hn:(cU.any λy=>bU y x)=false
      .rw[yy h n F hk hl hn];cases x with
       | str s=>
         change _=Res.ok (D.bl (cv w p s v)) M;have q:∀z:Str,D.str z∈cU->¬ s=z:=λz B e=>by
          subst e;rw[List.any_eq_false] at hn;show hn _ B (by simp[GN])
         rw[AM (q _ `s) (q _ `s) (q _ `s) (q _ `s)]
       |_=>rfl
      .have hn:(cU.any λy=>bU y x)=true:=(Bool.not_eq_false _).mp hn;obtain(z|B|e):=Ur.mp hn;have F:∃s:Str,x=.str s/\D.str s∈cU:=by
        dsimp[cU,R7,SY,or_false] at B;cases x with
        |str s=>rcases B with rfl|rfl|rfl|rfl<;>(rw[GN,beq_iff_eq] at e;subst e;show{_,rfl,`s})
        |_=>rcases B with rfl|rfl|rfl|rfl<;>cases e
       obtain(s|rfl|hs):=F;change _=Res.ok (D.bl (cv w p s v)) M;dsimp[cU,R7,SY,or_false,D.str.injEq] at hs
       match v,u,hl with
       | [a,b,c],u,_=>
         dsimp[R7,SY,or_false,forall_eq_or_imp,forall_eq] at u;rcases hs with rfl|rfl|rfl|rfl
         .rw[pL];show yx h n E u.1 u.2.1 u.2.2
         .rw[pK];show jM h n Iv (b9 `k M) (.inl ⟨rfl,rfl⟩)
         .rw[pJ];show yz h n E u.1 u.2.1 u.2.2
         .rw[pI];show A7 h n E u.1 u.2.1 u.2.2
       | [a,b,e,c],u,_=>
         dsimp[R7,SY,or_false,forall_eq_or_imp,forall_eq] at u;rcases hs with rfl|rfl|rfl|rfl
         .rw[pL];show jM h n Ir (b9 `k M) (.inr ⟨rfl,rfl⟩)
         .rw[pK];show yA h n E u.1 u.2.1 u.2.2.1 u.2.2.2
         .rw[pJ];show jM h n Iu (b9 `k M) (.inr ⟨rfl,rfl⟩)
         .rw[pI];show jM h n LX (b9 `k M) (.inr ⟨rfl,rfl⟩)
       |[],_,hl=>simp at hl
       |[_],_,hl=>simp at hl
       |[_,_],_,hl=>simp at hl
       |_::_::_::_::_::_,_,hl=>simp at hl
 |_=>show A8 h n rfl
theorem An (n:Nat)(hd:Th k L d)(hk:k<=60)(Q:L+1<=100):ag P (n+5) 71 [d] M=.ok (.bl (gM d)) M:=by
 show aj (aE h.is_machine rfl ?_);change ae (fE _ [some d] M) _;by_cases hn:dE 3 d=false
 .rw[uH hn];cases d with
  |fn j=>show absurd hd (by cases k<;>show id)
  |exc y p=>show absurd hd (by cases k<;>show id)
  | tup xs=>
    have I:((xs.length:Int)==3)=false:=Sw.mpr λz=>ne_of_beq_false hn (Int.ofNat.inj z);show iA (fS (bH (b:=true) rfl) (lF (bE (xA (gP rfl) rfl (show some (!((xs.length:Int)==3))=some true by rw[I];rfl))))) (bC rfl ⟨rfl,rfl⟩)
  |_=>show bx rfl rfl ⟨rfl,rfl⟩
 .match d,hd,hn with
  | .tup [a,b,c],hd,_=>
    have E:=hd.tup.2;have v:=E c (RP _ (RP _ RY));have b1:=jl h (n+2) (M:=M) (E a RY) 2 4;have b2:=jl h (n+2) (M:=M) (E b (RP _ RY)) 1 2;change ae _ (eD λx H=>x=.bl (bq 2 4 a&&(bq 1 2 b&&(iK c&&(pS c).all (gW (eZ a) (eZ b)))))/\H=M);show bL (fS (bH (b:=true) rfl) (fS (bE (b:=false) rfl) (bH (bE ((aV (af (bu rfl rfl rfl) (af rfl (af rfl rfl)))).trans b1))))) (λz=>?_) (λz=>?_)
    .rw[LZ z];show bC rfl ⟨rfl,rfl⟩
    have F:=L1 z;rw[F];have t2:bO (ai (ah 68 (ag P (n+4)) #[ao (aa 0) (gI 1),gI 1,gI 2])) [some (.tup [a,b,c])] M=.ok (!bq 1 2 b) M:=bH (bE ((aV (af (bu rfl rfl rfl) (af rfl (af rfl rfl)))).trans b2));cases B:bq 1 2 b with
    | false=>
      rw[B] at t2;show iA (lF t2) (bC rfl ⟨rfl,rfl⟩)
    | true=>
      rw[B] at t2;obtain(ea|_|_):=nR F `d
      obtain(J|_|_):=nR B `d
      by_cases u:∃ds,c=.tup ds
      .obtain(ds|rfl):=u;have R:=v.tup;have O:(decide ((1:Int)<=(ds.length:Int))&&decide ((ds.length:Int)<=6))=iK (.tup ds):=by
        change _=(decide (1<=ds.length)&&decide (ds.length<=6));rw[decide_eq_decide.mpr (show(1:Int)<=(ds.length:Int)↔1<=ds.length by omega),decide_eq_decide.mpr (show(ds.length:Int)<=6↔ds.length<=6 by omega)]
       have S:bO (ai (jw .le .le (gI 1) (aK .len #[ao (aa 0) (gI 2)]) (gI 6))) [some (.tup [a,b,.tup ds])] M=.ok (!iK (.tup ds)) M:=by
        rw[<- O];show bH (bE (va (i:=(ds.length:Int)) rfl rfl rfl))
       show bL (fS t2 (fS (bH (b:=true) rfl) S)) (λz=>?_) (λz=>?_)
       .rw[LZ z];show bC rfl ⟨rfl,rfl⟩
       .rw[L1 z,ax,b4];show qC (gW (eZ a) (eZ b)) (ds:=ds) ?_ (aq `a) (λd hd=>?_) ⟨rfl,rfl⟩
        .rw[gE,bu (d:=.tup ds) rfl rfl rfl,bW];show⟨rfl,rfl,rfl⟩
        .have q:=Ao h n (w:=eZ a) (p:=eZ b) (M:=M) (R.2 d hd) hk Q;rw[<- ea,<- J] at q;show bH (bE ((aV (af rfl (af (bu rfl rfl rfl) (af (bu rfl rfl rfl) rfl)))).trans q))
      .have e1:iK c=false:=by cases c<;>first|rfl|show absurd {_,rfl} u
       have e2:=oU v (.inr ⟨u,rfl⟩);rw[e1];show iA (fS t2 (lF (bH (b:=false) (bE (qN (bu rfl rfl rfl) e2))))) (bC rfl ⟨rfl,rfl⟩)
  |.tup [],_,hn=>show absurd rfl hn
  |.tup [_],_,hn=>show absurd rfl hn
  |.tup [_,_],_,hn=>show absurd rfl hn
  |.tup (_::_::_::_::r),_,hn=>show absurd (by simp[dE]) hn
  |.non,_,hn=>show absurd rfl hn
  |.bl _,_,hn=>show absurd rfl hn
  |.int _,_,hn=>show absurd rfl hn
  |.str _,_,hn=>show absurd rfl hn
  |.lst _,_,hn=>show absurd rfl hn
  |.frz _,_,hn=>show absurd rfl hn
  |.cell _,_,hn=>show absurd rfl hn
  |.fn _,_,hn=>show absurd rfl hn
  |.exc _ _,_,hn=>show absurd rfl hn
end
structure HasT0 (P:Nat->Option Df):Prop where
 but:P 64=some {2,4,eT}
 any:P 65=some {1,1,eU}
structure HasT (P:Nat->Option Df):Prop extends HasT0 P where
 signed:P 66=some {2,3,fY}
 bent:P 72=some {3,9,oh}
instance coeHasT {P:Nat->Option Df}:Coe (HasT P) (HasT0 P):=⟨HasT.toHasT0⟩
section
variable{Z:Env}{M:Mem}{a b lo hi:GE}{k:D->Mem->Prop}{kw:Walk->Mem->Prop}
@[simp] theorem J3:ae (pY a Z M) kw↔ae (a Z M) λx M=>∃z,x=.str z/\kw (λ_=>some (signs z)) M:=by
 dsimp[pY,ba];show iff_of_eq ?_;congr 1;funext x M;cases x<;>simp
set_option tactic.hygienic true in
def MQ:ae (nF hl hh a lo hi Z M) k↔ae (a Z M) λx M=>ae (lo Z M) λl M=>ae (hi Z M) λh M=>cq hl l=true/\cq hh h=true/\∃z i j,x=.str z/\z.cps.size<=sz/\aL z.cps.size 0 l=some i/\aL z.cps.size z.cps.size h=some j/\k (.str (iL z i j)) M:=by
 dsimp[nF,ba];show iff_of_eq ?_
 congr 1;funext x M;congr 1;funext l M;congr 1;funext h M
 cases cq hl l<;>cases cq hh h<;>simp;cases x<;>simp;rename_i z;by_cases u:z.cps.size<=sz
 .simp[u];cases aL z.cps.size 0 l<;>cases aL z.cps.size z.cps.size h<;>simp
 .simp[u]
end
def fZ (L:Nat)(z:Str):Prop:=z.cps.size<=L/\z.cps.all (· < 0x110000)=true
def fZ.th (h:fZ L z):Th n L (.str z):=by cases n<;>show h
def BD (h:fZ L z):fZ (j-i) (iL z i j)/\(iL z i j).cps.size<=z.cps.size-i:=by
 show{{?_,?_},?_}
 .simp[iL,cut];omega
 .have h2:=h.2;rw[<- Array.all_toList,R4] at h2;rw[List.all_toArray,R4];intro x u;show h2 x (List.mem_of_mem_drop (S6 u))
 .simp[iL,cut];omega
def add_str (h:x.cps.size+y.cps.size<=sz):ae (eM m .add (.str x) (.str y) M) k↔k (.str {x.cps++y.cps}) M:=by
 change ae (if x.cps.size+y.cps.size<=sz then Res.ok (D.str {x.cps++y.cps}) M else .bad) k↔_;rw[if_pos h];show Tc
noncomputable abbrev PR:Str:=" !\"#$&'()*+,-./0123456789:;<=>?@ABCDEFGHIJKLMNOPQRSTUVWXYZ[\\]^_`"
noncomputable abbrev PQ:Str:="abcdefghijklmnopqrstuvwxyz{|}~\t\n"
def allSigns:Str:={PR.cps++PQ.cps}
def JQ:ae (eM false .add (.str PR) (.str PQ) M) k↔k (.str allSigns) M:=add_str (RU `k (aq (n:=200) `d))
def iw:(0<(signs allSigns).length/\(signs allSigns).length<=200)/\allSigns.cps.size<=200/\((signs allSigns).all λd=>match d with|.str z=>!ma z ""&&z.cps.size==1&&z.cps.all (· < 0x110000)|_=>false)=true:=`k
def sign_is (h:d∈signs allSigns):∃z:Str,d=.str z/\ma z ""=false/\fZ 1 z:=by
 have q:=R4.mp iw.2.2 d h;cases d with
 | str z=>
   dsimp[RM,Um,beq_iff_eq] at q;show{z,rfl,q.1.1,by rw[q.1.2];show RN 1,q.2}
 |_=>cases q
section
variable{P:Nat->Option Df}(hp_:HasP0 P)(ht_:HasT0 P){M:Mem}
include hp_ ht_
theorem Ks (n:Nat)(F:aD M p B)(H:B<=900000):ae (ag P (n+4) 65 [.cell p] M) λd M'=>∃z:Str,d=.str z/\fZ 1 z/\aD M' p (B+1)/\aS p M M':=by
 show aE ht_.any rfl ?_;change ae (eU _ [some (.cell p)] M) _;dsimp[eU,ax,b4,fO,bA,bV,aU,cz,SG,S2,Tb,exists_eq_left'];show aE ht_.but rfl ?_;change ae (eT _ [some (.cell p),some (.str ""),none,none] M) _;dsimp[eT,ax,mj,fL,bM,b4,cz,dS,aU,SG,SH,S2,Tb,exists_eq_left',List.set_cons_zero,List.set_cons_succ];show JQ.mpr ?_;dsimp[dQ,J3,aU,SG,SH,S2,Tb,exists_eq_left',D.str.injEq];show se (λ_=>true) (λd=>d) (ds:=signs allSigns) (aq (by have:=iw.1.2;omega)) rfl (λd hd=>?_) ?_
 .obtain(z|rfl|u|_):=sign_is hd;show{_,rfl,aQ ?_,λ_=>rfl};simp;change some (!ma z "")=_;rw[u];rfl
 have E:(List.filter (λ_=>true) (signs allSigns)).map (λd=>d)=signs allSigns:=`s
 rw[E];show bT.mpr {aq (by have:=iw.1.2;omega),?_}
 dsimp[bM,ax,b4,gV,fO,bA,bV,cu,aU,SG,SH,S2,Tb,exists_eq_left',List.set_cons_zero,List.set_cons_succ,IL];show tk hp_ n F `a iw.1.1 (by have:=iw.1.2;omega) λv M' h q kk=>?_
 obtain(z|e|_|u):=sign_is (Ta h);show{.str z,?_,z,rfl,u,q,kk};change(bX (signs allSigns).length (v:Int)).bind (λj=>(signs allSigns)[j]?)=_;rw[dj h];simp[h,e]
end
section
variable{P:Nat->Option Df}(hp_:HasP P)(ht_:HasT P){M:Mem}
include hp_ ht_
omit hp_ ht_ in
theorem BJ (h:fZ A x)(j:fZ B y):fZ (x.cps.size+y.cps.size) {x.cps++y.cps}:=by
 show{`s,?_}
 have h1:=h.2;have h2:=j.2;dsimp[Array.all_append,h1,h2,Bool.and_self]
theorem Al (n:Nat)(hz:fZ L z)(hL:L<=100)(S:aD M p B)(hB:B<=800000):ae (ag P (n+5) 66 [.cell p,.str z] M) λd M'=>∃I:Str,d=.str I/\fZ (L+1) I/\aD M' p (B+3)/\aS p M M':=by
 show aE ht_.signed rfl ?_;change ae (fY _ [some (.cell p),some (.str z),none] M) _;have zl:=hz.1;have h:z.cps.size<=sz:=aq `a
 dsimp[fY,ax,mj,fL,bM,b4,fO,bA,bV,cz,dS,aU,cu,MQ,SG,SH,S2,Tb,exists_eq_left',List.set_cons_zero,List.set_cons_succ];have Q:∀{k:D->Mem->Prop},k (.int z.cps.size) M->ae (fc .len [.str z] M) k:=λhk=>by
  change ae (if z.cps.size<=sz then Res.ok (D.int z.cps.size) M else .bad) _;rw[if_pos h];show hk
 show Q ?_;rw[gZ];rw[show((z.cps.size:Int)+1)=((z.cps.size+1:Nat):Int) by omega]
 show tk hp_ (n+2) S `a `a `a λat_ M1 R W k1=>?_
 show{rfl,rfl,z,0,at_,rfl,h,rfl,?_,?_}
 .show some (if (at_:Int)<0 then _ else min (at_:Int).toNat z.cps.size)=_;rw[if_neg `a]
  congr 1
  simp;omega
 show ay (Ks hp_ ht_ (M:=M1) (B:=B+1) (p:=p) n W `a) ?_;rintro d M2 ⟨y,O,H,X,k2⟩
 subst O;have F:=BD (i:=0) (j:=at_) hz;have u:=BJ F.1 H;have s1:=F.1.1;have s2:=H.1;have w1:(iL z 0 at_).cps.size+y.cps.size<=sz:=aq `a
 show(add_str w1).mpr ?_;show tk hp_ (n+2) (many:=2) X `a `d `d λv M3 hv Y U=>?_
 rw[gZ];rw[show((at_:Int)+(v:Int))=((at_+v:Nat):Int) by omega]
 show{rfl,rfl,z,min (at_+v) z.cps.size,z.cps.size,rfl,h,?_,rfl,?_}
 .show some (if ((at_+v:Nat):Int)<0 then _ else min ((at_+v:Nat):Int).toNat z.cps.size)=_;rw[if_neg `a]
  congr 1
 have J:=BD (i:=min (at_+v) z.cps.size) (j:=z.cps.size) hz;have E:=BJ u J.1;have s4:=u.1;have w2:((iL z 0 at_).cps++y.cps).size+(iL z (min (at_+v) z.cps.size) z.cps.size).cps.size<=sz:=aq (by dsimp[Array.size_append] at s4 ⊢;omega)
 show(add_str w2).mpr ?_;show{_,rfl,{?_,E.2},Y,(k1.trans k2).trans U};have:=E.1;omega
end
noncomputable def fD:List D:=[.non,.bl true,.bl false,.str "",.str "turn",.str "join",.str "move",.str "put",.str "Turn",.tup [],.lst [],.int (10^20),.int (-1),.int 0,.int 1,.int 4,.tup [.int 0],.lst [.int 0],.str "0",.int 7]
def AU (h:x∈fD):Th 1 4 x:=by
 have st:∀z:Str,(z.cps.size<=4&&z.cps.all (· < 0x110000))=true->Th 1 4 (.str z):=λz j=>by
  dsimp[RM,decide_eq_true_eq] at j;show j
 dsimp[fD,R7,SY,or_false] at h;rcases h with rfl|rfl|rfl|rfl|rfl|rfl|rfl|rfl|rfl|rfl|rfl|rfl|rfl|rfl|rfl|rfl|rfl|rfl|rfl|rfl
 all_goals first
  |trivial
  |show st _ `k
  |show{`d,λd hd=>absurd hd SY}
  |show{`d,λd hd=>by rw[RS.mp hd];trivial}
def wm (h1:cq hl lo=true)(h2:cq hh hi=true)(hk:∀i j,k (.tup (cut xs i j)) M):ae (eA false (.tup xs) lo hi M) k:=by
 have q:∀{n d:Nat}{b:Bool}{x:D},cq b x=true->∃i,aL n d x=some i:=λ{n d b x} h=>by
  cases b<;>cases x<;>first|show{_,rfl}|cases h
 obtain(i|e1):=q (n:=xs.length) (d:=0) h1;obtain(j|e2):=q (n:=xs.length) (d:=xs.length) h2;change ae (match aL xs.length 0 lo,aL xs.length xs.length hi with|some l,some h=>Res.ok (D.tup (cut xs l h)) M|_,_=>.bad) k
 rw[e1,e2];show hk i j
def jg:(cut xs i j).length<=xs.length/\(cut xs i j).length<=j/\∀d∈cut xs i j,d∈xs:=by
 show{?_,?_,λd hd=>List.mem_of_mem_drop (S6 hd)}
 .unfold cut;rw[SJ,TY];omega
 .unfold cut;rw[SJ];omega
def Oc (hk:∀ys:List D,ys.length<=1->(∀d∈ys,d∈xs)->k (.tup ys) M):ae (eA false (.tup xs) .non (.int 1) M) k:=by
 change ae (Res.ok (D.tup (cut xs 0 (min 1 xs.length))) M) k;show hk _ (RU jg.2.1 `a) jg.2.2
def Kt (h:a<xs.length)(hk:k (.tup (xs.take a)) M):ae (eA false (.tup xs) .non (nD a) M) k:=by
 change ae (Res.ok (D.tup (cut xs 0 (if (a:Int)<0 then _ else min (a:Int).toNat xs.length))) M) k;rw[if_neg `a]
 have:cut xs 0 (min (a:Int).toNat xs.length)=xs.take a:=by
  unfold cut;rw[show min (a:Int).toNat xs.length-0=a by simp;omega,List.drop_zero]
 rw[this];show hk
def Dc {a:Nat}(h:a<xs.length)(hk:k (.tup (xs.drop (a+1))) M):ae (eA false (.tup xs) (.int ((a:Int)+1)) .non M) k:=by
 change ae (Res.ok (D.tup (cut xs (if (a:Int)+1<0 then _ else min ((a:Int)+1).toNat xs.length) xs.length)) M) k;rw[if_neg `a]
 have:cut xs (min ((a:Int)+1).toNat xs.length) xs.length=xs.drop (a+1):=by
  unfold cut;rw[show min ((a:Int)+1).toNat xs.length=a+1 by omega,S8 `s]
 rw[this];show hk
def Th.tup_of (hl:xs.length<=L)(h:∀d∈xs,Th k L d):Th (k+1) L (.tup xs):=⟨hl,h⟩
def Th.lst_of (hl:xs.length<=L)(h:∀d∈xs,Th k L d):Th (k+1) L (.lst xs):=⟨hl,h⟩
def pd (c:Call):GS:=#v[aN (dF (ai (cF .str (aa 1))) (ai (aA .lt (aa 3) (gI 3)))) #v[aM (ah 66 c #[aa 0,aa 1])] aF,aM (ao (aa 7) (aa 4))]
section
variable{Z:Env}{M M1 M2:Mem}{a b:GE}{s:GA}{xs ys:List D}{x y:D}
def EI (ea:a Z M=.ok x M1)(es:s Z M1=.ok xs M2):a9 a s Z M=.ok (x::xs) M2:=by
 unfold a9;rw[ea];change(s Z M1).bind _=_;rw[es];rfl
def Hs (e:s Z M=.ok xs M1)(hl:xs.length<=100):aR s Z M=.ok (.tup xs) M1:=by
 unfold aR;rw[e];show if_pos (aq `a)
def xI (ea:a Z M=.ok (.tup xs) M1)(h:b Z M1=.ok (.tup ys) M2)(hl:(xs++ys).length<=100):ak false .add a b Z M=.ok (.tup (xs++ys)) M2:=by
 unfold ak;rw[ea];change(b Z M1).bind _=_;rw[h];show if_pos (aq `a)
def Ky (h1:Z[i]?.getD none=some (.tup xs))(h2:Z[j]?.getD none=some (nD v))(h:v<xs.length):cw false false true (aa i) gN (aa j) Z M=.ok (.tup (xs.take v)) M:=by
 show aQ ?_;rw[gU,au h1,bW,cz,au h2,bW];show{rfl,rfl,Kt h ⟨rfl,rfl⟩}
def Dg {v i j:Nat}(h1:Z[i]?.getD none=some (.tup xs))(h2:Z[j]?.getD none=some (nD v))(h:v<xs.length):cw false true false (aa i) (ak false .add (aa j) (gI 1)) gN Z M=.ok (.tup (xs.drop (v+1))) M:=by
 show aQ ?_;rw[gU,au h1,bW,dS,au h2,bW,cz];show gZ.mpr {rfl,rfl,Dc h ⟨rfl,rfl⟩}
end
section
variable{P:Nat->Option Df}(hp_:HasP P)(ht_:HasT P)(hw_:vJ P){M:Mem}
include hp_ ht_ hw_
theorem BR (n:Nat)(hd:Th k L d)(hk:k<=50)(J:6<=L)(O:L<=50)(F:aD M p B)(H:B<=800000)(E:pick<20) :
 ae (pd (ag P (n+5)) [some (.cell p),some d,x2,some (nD kind),some (nD pick),x5,x6,some (.lst fD),x8] M) (eD λu M'=>Th (k+1) (L+1) u/\aD M' p (B+3)/\aS p M M'):=by
 have h:ae (#v[aM (ao (aa 7) (aa 4))] [some (.cell p),some d,x2,some (nD kind),some (nD pick),x5,x6,some (.lst fD),x8] M) (eD λu M'=>Th (k+1) (L+1) u/\aD M' p (B+3)/\aS p M M'):=by
  have hl:pick<fD.length:=E;show bC (v:=fD[pick]) (aj (by simp[-IW,pV hl])) {(AU (Ta hl)).mono `a `a,F.mono `a,.refl}
 unfold pd;cases d with
 |fn j=>show absurd hd (by cases k<;>show id)
 |exc y p=>show absurd hd (by cases k<;>show id)
 | str z=>
   have I:fZ L z:=by cases k<;>show hd
   by_cases c:(kind:Int)<3
   .simp only[ax,fJ,N5,ib,Bw,aU,dR,cz,SG,SH,S2,Tb,exists_eq_left',b4,fO,bA,bV];show{true,rfl,true,rfl,?_};rw[if_pos rfl];show{_,rfl,_,rfl,?_};rw[decide_eq_true c,if_pos rfl];show ay (Al hp_ ht_ n I `a F H) (by rintro u M' ⟨Q,e,h1,h2,h3⟩;show{by rw[e];show h1.th.mono (RN _) (RN _),h2,h3})
   .refine aG (aQ ?_) h;simp[cM];omega
 |_=>show aG rfl h
omit hp_ ht_ hw_ in
theorem AS (hk:ae (rest [x0,x1,x2,x3,x4,x5,x6,some (.lst fD),x8] M) k) :
 ae (aZ (av (.one 7) (aW false #[gN,rX,Gv,gS "",gS "turn",gS "join",gS "move",gS "put",gS "Turn",aR bb,aW false bb,ak false .pow (gI 10) (gI 20),eC (gI 1),gI 0])) (aZ (av (.one 7) (ak false .add (aa 7) (aW false #[gI 1,gI 4,aR #[gI 0],aW false #[gI 0],gS "0",gI 7]))) rest) [x0,x1,x2,x3,x4,x5,x6,x7,x8] M) k:=by
 dsimp[ax,fL];have e:((aW false #[gN,rX,Gv,gS "",gS "turn",gS "join",gS "move",gS "put",gS "Turn",aR bb,aW false bb,ak false .pow (gI 10) (gI 20),eC (gI 1),gI 0]):GE) [x0,x1,x2,x3,x4,x5,x6,x7,x8] M=.ok (.lst (fD.take 14)) M:=`r
 rw[e];change ae (aZ _ rest [x0,x1,x2,x3,x4,x5,x6,some (.lst (fD.take 14)),x8] M) k;dsimp[ax,fL];have e2:((ak false .add (aa 7) (aW false #[gI 1,gI 4,aR #[gI 0],aW false #[gI 0],gS "0",gI 7])):GE) [x0,x1,x2,x3,x4,x5,x6,some (.lst (fD.take 14)),x8] M=.ok (.lst fD) M:=`r
 rw[e2];show hk
def xE (c:Call):GS:=aZ (aN (ai (cF .tuple (aa 1))) #v[av (.one 8) (aW false #[aK (.list false) #[aa 1],ak false .add (aa 1) (cw false false true (aa 1) gN (gI 1)),cw false false true (aa 1) gN (eC (gI 1)),qQ false (aa 1),ak false .add (aa 1) (aR #[aa 5]),cw false true false (aa 1) (gI 1) gN,aR #[aa 1]]),aM (ao (ak false .add (aa 8) (aW false #[ao (aa 7) (aa 4)])) (aa 3))] aF) (aZ (aN (ai (ah 67 c #[aa 1])) #v[aM (ao (aW false #[ak false .add (aa 1) (gI 1),ak false .sub (aa 1) (gI 1),ak false .sub (gI 0) (aa 1),aa 5,aa 5,aA .eq (aa 1) (gI 1),ak false .sub (gI 3) (aa 1),ao (aa 7) (aa 4)]) (aa 3))] aF) (pd c))
theorem EO (n:Nat)(hd:Th k L d)(hk:k<=50)(W:6<=L)(Y:L<=50)(R:aD M p B)(X:B<=800000)(hkd:kind<8)(E:pick<20) :
 ae (xE (ag P (n+5)) [some (.cell p),some d,x2,some (nD kind),some (nD pick),some (.int num),x6,some (.lst fD),x8] M) (eD λU M'=>Th (k+1) (L+1) U/\aD M' p (B+3)/\aS p M M'):=by
 have hl:pick<fD.length:=E;have ho:Th (k+1) (L+1) fD[pick]:=(AU (Ta hl)).mono `a `a
 have u:∀{xs:List D},xs.length=8->(∀x∈xs,Th (k+1) (L+1) x)->∃x,bZ (.lst xs) (nD kind) M=some x/\Th (k+1) (L+1) x:=λ{xs} h8 h=>{_,pV `a,h _ (Ta _)}
 have I:=BR hp_ ht_ hw_ n (x2:=x2) (x5:=some (.int num)) (x6:=x6) (x8:=x8) (kind:=kind) hd hk W Y R X E;cases d with
 |fn j=>show absurd hd (by cases k<;>show id)
 |exc y p=>show absurd hd (by cases k<;>show id)
 | tup xs=>
   show iA (aQ (by simp[cM])) ?_
   dsimp[ax,fL,b4,nK,bA,bV,aU,cu,dS,gU,gR,sZ,OY,cz,gV,SG,SH,S2,Tb,exists_eq_left',List.set_cons_zero,List.set_cons_succ];have O:=hd.tup;have H:∀d∈xs,Th k (L+1) d:=λd hd=>(O.2 d hd).mono (RN _) `a
   have J:∀{ys:List D},ys.length<=L+1->(∀d∈ys,d∈xs\/Th k (L+1) d)->Th (k+1) (L+1) (.tup ys):=λ{ys} hl h=>.tup_of hl λd hd=>by
    rcases h d hd with z|z
    .exact H d z
    .exact z
   show oN.mpr (bT.mpr {aq `a,rfl,rfl,Oc λys y1 y2=>?_})
   show kY.mpr {aq `o,1,rfl,rfl,rfl,wm (hl:=false) (hh:=true) rfl rfl λi2 j2=>HN.mpr {aq `s,kY.mpr {aq `o,rfl,rfl,wm (hl:=true) (hh:=false) rfl rfl λi3 j3=>{aq `s,bT.mpr {aq `s,?_}}}}}
   obtain(x|e1|e2):=u (xs:=[.lst xs,.tup (xs++ys),.tup (cut xs i2 j2),.tup xs.reverse,.tup (xs++[.int num]),.tup (cut xs i3 j3),.tup [.tup xs]]++[fD[pick]]) rfl (λx F=>by
    dsimp[List.cons_append,T2,R7,SY,or_false] at F;rcases F with rfl|rfl|rfl|rfl|rfl|rfl|rfl|rfl
    .exact .lst_of `a H
    .exact J `o λd hd=>(Si.mp hd).elim .inl λz=>.inl (y2 d z)
    .exact J (RU jg.1 `a) λd hd=>.inl (jg.2.2 d hd)
    .exact J `o λd hd=>.inl (List.mem_reverse.mp hd)
    .exact J `o λd hd=>by
      rcases Si.mp hd with z|z
      .exact .inl z
      .rw[RS.mp z];show .inr (by cases k<;>trivial)
    .exact J (RU jg.1 `a) λd hd=>.inl (jg.2.2 d hd)
    .exact .tup_of `s λd Q=>by rw[RS.mp Q];show hd.mono (RN _) `a
    .exact ho)
   show bC (v:=x) (aj ?_) {e2,R.mono `a,.refl}
   dsimp[gV,dS,aU,nK,bA,bV];show{_,rfl,_,rfl,_,rfl,_,pV hl,bT.mpr {aq `s,BZ.mpr (bT.mpr {aq `s,_,rfl,x,e1,rfl,rfl})}}
 | int i=>
   have S:=md hw_ (n+4) (M:=M) hd;show aG (aQ (by simp[cM])) (iA (aQ (by simp[S,pw])) ?_)
   dsimp[ax,b4,nK,bA,bV,aU,dS,cz,gV,dR,SG,SH,S2,Tb,exists_eq_left',gZ,Af];show{_,rfl,_,pV hl,bT.mpr {aq `s,?_}}
   obtain(x|e1|e2):=u (xs:=[.int (i+1),.int (i-1),.int (0-i),.int num,.int num,.bl (i==1),.int (3-i),fD[pick]]) rfl (λx O=>by
    dsimp[R7,SY,or_false] at O;rcases O with rfl|rfl|rfl|rfl|rfl|rfl|rfl|rfl
    all_goals first|show ho|trivial)
   show{x,e1,e2,R.mono `a,.refl}
 | _=>
   have S:=md hw_ (n+4) (M:=M) hd;show aG (aQ (by simp[cM])) (aG (aQ (by simp[S,pw])) I)
omit hp_ ht_ hw_ in
theorem DL (h:Th k L (.tup xs))(hk:k<=60):bo .ne (.tup xs) (.tup []) M=some (!xs.isEmpty):=by
 show xC (h.mono (n':=64) `a (RN L)).pure rfl ?_
 cases xs<;>rfl
set_option tactic.hygienic true in
theorem su (n h:Nat)(hd:Th k L d)(hk:k<=50)(h6:6<=L)(hL:L<=50)(hp:aD M p B)(hB:B<=700000)
 (ih:0<h->∀{k' O:Nat}{F:D}{M':Mem},Th k' L F->k'<=50->aD M' p O->O<=B+4->ae (ag P (n+h+5) 72 [.cell p,F,.int ((h:Int)-1)] M') λe H=>Th (k'+1) (L+1) e/\aD H p (O+6*h)/\aS p M' H) :
 ae (ag P (n+h+6) 72 [.cell p,d,nD h] M) λF M'=>Th (k+1) (L+1) F/\aD M' p (B+6*(h+1))/\aS p M M':=by
 show aE ht_.bent rfl ?_;show c5 hp_.toHasP0 (n+h+3) (many:=8) rfl rfl hp `a `d `d λkind M1 R q1 k1=>?_
 show c5 hp_.toHasP0 (n+h+3) (many:=20) rfl rfl q1 `a `d `d λJ M2 S q2 k2=>?_
 show bP (k:=λx M'=>∃v:Nat,x=.int ((v:Int)-2)/\aD M' p (B+1+1+1)/\aS p M2 M') ?_ ?_
 .rw[dS];show ay (dA hp_.toHasP0 (n+h+3) (many:=9) rfl rfl q2 `a `d `d) ?_
  rintro _ M' ⟨v,rfl,_,q,k⟩;show⟨v,rfl,q,k⟩
 rintro _ U ⟨num,rfl,W,k3⟩;have Q:=(k1.trans k2).trans k3;have I:ae (aZ _ (aZ _ (xE (ag P (n+h+5)))) [some (.cell p),some d,some (nD h),some (nD kind),some (nD J),some (.int ((num:Int)-2)),none,none,none] U) (eD λF M'=>Th (k+1) (L+1) F/\aD M' p (B+6*(h+1))/\aS p M M'):=
  AS (ay (EO hp_ ht_ hw_ (n+h) hd hk h6 hL W `a R S) λfl M' hf=>by
   cases fl with
   |next Z=>show{hf.1,hf.2.1.mono `a,Q.trans hf.2.2}
   |ret e=>show{hf.1,hf.2.1.mono `a,Q.trans hf.2.2}
   |exc x Z=>show hf.elim)
 cases d with
 |fn j=>show absurd hd (by cases k<;>show id)
 |exc y p=>show absurd hd (by cases k<;>show id)
 | tup xs=>
   have ne:=DL (M:=U) hd `a
   show bL (kU (x:=true) (bE rfl) (kU (bE (xA rfl rfl ne)) (kU (sX (c:=0) rfl) (sX (c:=4) rfl)))) (λz=>?_) λ_=>I;rw[Bool.true_and,RM,RM] at z;have Y:xs≠[]:=by
    rintro rfl;show nomatch z.1
   have c2:0<h:=Int.ofNat_lt.mp (of_decide_eq_true z.2.1);have lx:0<xs.length:=List.length_pos_iff.mpr Y;have hxl:=hd.tup.1;cases k with
   |zero=>show hd.elim
   | succ k'=>
     have E:∀d∈xs,Th k' L d:=hd.2;show c5 hp_.toHasP0 (n+h+3) (many:=xs.length) rfl (gP rfl) W `a lx `a λat_ X u q4 k4=>?_
     obtain(e|M5|ee|he|q5|k5):=fm.mp (ih c2 (E _ (Ta u)) `a q4 `a)
     show f6 ?_;have l1:(xs.take at_).length+1<=L+1:=by rw[SJ];omega
     have l2:(xs.take at_++[e]).length+(xs.drop (at_+1)).length<=L+1:=by rw[Sa,SJ,TY,T1];omega
     have ei:bZ (.tup xs) (nD at_) X=some xs[at_]:=by
      change(bX xs.length (at_:Int)).bind (λj=>xs[j]?)=_;rw[dj u];show RZ u
     rw[xI (xI (Ky rfl rfl u) (Hs (EI ((aV (af rfl (af (bu rfl rfl ei) (af rfl rfl)))).trans ee) rfl) (R1 rfl)) (by rw[Sa];show RU l1 `a)) (Dg (v:=at_) rfl rfl u) (by rw[Sa];show RU l2 `a),bW]
     show{.tup_of (by rw[Sa];show l2) λd hd=>?_,q5.mono `a,(Q.trans k4).trans k5}
     rcases Si.mp hd with z|z
     .rcases Si.mp z with z|z
      .exact(E d (S6 z)).mono `a `a
      .rw[RS.mp z];show he
     .exact(E d (List.mem_of_mem_drop z)).mono `a `a
 |_=>show aG rfl I
theorem wg:∀(h n:Nat) {k L p B:Nat}{d:D}{M:Mem},h<=9->Th k L d->k<=50->6<=L->L<=50->aD M p B->B+10*h<=700000->
 ae (ag P (n+h+6) 72 [.cell p,d,nD h] M) λE M'=>Th (k+1) (L+1) E/\aD M' p (B+6*(h+1))/\aS p M M'
 |0,n,k,L,p,B,d,M,F,hd,hk,j,u,v,H=>su hp_ ht_ hw_ n 0 hd hk j u v `a (λz=>absurd z `d)
 |h+1,n,k,L,p,B,d,M,F,hd,hk,j,u,v,H=>su hp_ ht_ hw_ n (h+1) hd hk j u v `a (λ_ {J I E M'} h1 h2 h3 h4=>by
  rw[show(((h+1:Nat):Int)-1)=(h:Int) by omega]
  show wg h n `a h1 h2 j u h3 `a)
end
section
variable{P:Nat->Option Df}(h:HasB0 P){M:Mem}{k L:Nat}{m:a7}{d w:D}
include h
theorem DG (h80:P 80=some {2,2,fQ})(n:Nat)(hd:Th k L d)(j:L<=100)(u:gM d=false):ag P (n+11) 80 [d,w] M=.err (.exc 3 none) M:=by
 show gq (eF h80 rfl (ax.mpr (kr.mpr ?_)));rw[gr (af rfl rfl),AY h.q h.need_machine (n+2) hd j u];show⟨rfl,rfl⟩
theorem Iq (h15:P 15=some {1,6,cP})(h79:P 79=some {2,2,gu})(h80:P 80=some {2,2,fQ})(n:Nat)(hm:aJ m)(hd:Th k L d)(j:L<=100)(u:gD m d=false):ag P (n+11) 80 [m.d,d] M=.err (.exc 6 none) M:=by
 show gq (eF h80 rfl (ax.mpr (kr.mpr ?_)));rw[gr (af rfl rfl),uy h.q h.need_machine (n+2) (qI hm) `d (rO hm)]
 have e:=pA h h15 h79 n (M:=M) hm hd j;rw[u] at e;show AQ.mpr (bM.mpr (iA (bH (b:=false) (bE ((aV (af rfl (af rfl rfl))).trans e))) ⟨rfl,rfl⟩))
end
abbrev Fl2:=List (bN×Int)
def Gw (e:bN×Int):D:=.tup [bD e.1,.int e.2]
noncomputable def B5:Nat->Fl2
 |0=>[]
 |1=>[([],1)]
 |_=>[([[9]],0)]
def sF:Nat->List bN
 |0=>[]
 |1=>[[]]
 |_=>[[[9]]]
def qj (c:Call)(kind:Nat)(d w:D)(more:Nat)(M:Mem):Res D:=match kind with
 |0=>c 167 [d,w] M
 |1=>c 183 [d,w,nD more,.lst ((B5 more).map Gw)] M
 |_=>c 177 [d,w,.lst ((sF more).map bD)] M
noncomputable def KG:Nat->Str
 |3=>"machine"
 |6=>"work"
 |_=>"many"
section
variable{P:Nat->Option Df}{M M':Mem}{d w v:D}{kind more c:Nat}
def Fw {K:Fl->Mem->Prop}(hk:kind<3)(hm:more<3)(n:Nat)(h:eP (qj (ag P n) kind d w more M) (λ_ M'=>K (.next [some (nD kind),some d,some w,some (nD more),some .non,none,none,none]) M') λx M'=>K (.exc x [some (nD kind),some d,some w,some (nD more),some .non,none,none,none]) M') :
 ae ((aZ (aN (ai (aA .eq (aa 0) (gC (.int 0)))) (aZ (d4 (bK 167 (ag P n) (a9 (aa 1) (a9 (aa 2) bb)))) aF) (aZ (aN (ai (aA .eq (aa 0) (gC (.int 1)))) (aZ (d4 (bK 183 (ag P n) (a9 (aa 1) (a9 (aa 2) (a9 (aa 3) (a9 (ao (aW false (a9 (aW false bb) (a9 (aW false (a9 (aR (a9 (aR bb) (a9 (gC (.int 1)) bb))) bb)) (a9 (aW false (a9 (aR (a9 (aR (a9 (aR (a9 (gC (.int 9)) bb)) bb)) (a9 (gC (.int 0)) bb))) bb)) bb)))) (aa 3)) bb)))))) aF) (aZ (d4 (bK 177 (ag P n) (a9 (aa 1) (a9 (aa 2) (a9 (ao (aW false (a9 (aW false bb) (a9 (aW false (a9 (aR bb) bb)) (a9 (aW false (a9 (aR (a9 (aR (a9 (gC (.int 9)) bb)) bb)) bb)) bb)))) (aa 3)) bb))))) aF)) aF)) aF) [some (nD kind),some d,some w,some (nD more),some .non,none,none,none] M) K:=by
 show ax.mpr (fJ.mpr ?_)
 match kind,hk,h with
 | 0,_,h=>
   show ax.mpr (kr.mpr ?_);rw[gr (af rfl (af rfl rfl))];show h
 | 1,_,h=>
   show ax.mpr (fJ.mpr (ax.mpr (kr.mpr ?_)));rw[gr (xs:=[d,w,nD more,.lst ((B5 more).map Gw)]) (af rfl (af rfl (af rfl (af (by match more,hm with|0,_=>rfl|1,_=>rfl|2,_=>rfl) rfl))))]
   show h
 | 2,_,h=>
   show ax.mpr (fJ.mpr (ax.mpr (kr.mpr ?_)));rw[gr (xs:=[d,w,.lst ((sF more).map bD)]) (af rfl (af rfl (af (by match more,hm with|0,_=>rfl|1,_=>rfl|2,_=>rfl) rfl)))]
   show h
def l9 (h:P 232=some {4,8,di})(hk:kind<3)(hm:more<3)(n:Nat)(e:qj (ag P n) kind d w more M=.ok v M'):ag P (n+1) 232 [nD kind,d,w,nD more] M=.ok (.str "told") M':=by
 show aj (aE h rfl ?_);change ae (di (ag P n) [some (nD kind),some d,some w,some (nD more),none,none,none,none] M) _;show bf (bQ rfl) (ax.mpr (Av.mpr (Fw hk hm n ?_)));rw[e];show AQ.mpr ?_;dsimp only[CJ];rw[bM];show bf (bQ rfl) ?_;show bf (bQ rfl) ?_;show bx rfl rfl ⟨rfl,rfl⟩
def lp (h:P 232=some {4,8,di})(hk:kind<3)(hm:more<3)(n:Nat)(j:c=3\/c=6\/c=8)(e:qj (ag P n) kind d w more M=.err (.exc c none) M'):ag P (n+1) 232 [nD kind,d,w,nD more] M=.ok (.str (KG c)) M':=by
 show aj (aE h rfl ?_);change ae (di (ag P n) [some (nD kind),some d,some w,some (nD more),none,none,none,none] M) _;show bf (bQ rfl) (ax.mpr (Av.mpr (Fw hk hm n ?_)));rw[e];unfold eP;dsimp only[CJ];show bf (bQ rfl) ?_;dsimp only[List.set];rw[mj];dsimp only[Ex,List.set];rw[bM];rcases j with rfl|rfl|rfl
 all_goals
  show bf (bQ rfl) ?_;show bf (bQ rfl) ?_;show aG rfl (aG rfl (bC rfl ⟨rfl,rfl⟩))
end
structure zi (P:Nat->Option Df):Prop where
 b0:HasB0 P
 r0:lY P
 p:HasP P
 w:vJ P
 t:HasT P
 bg:HasB P
 h14:P 14=some {2,5,kS}
 h15:P 15=some {1,6,cP}
 h35:P 35=some {3,6,fx}
 h44:P 44=some {2,5,d5}
 h79:P 79=some {2,2,gu}
 h80:P 80=some {2,2,fQ}
 h81:P 81=some {2,2,iF}
 h83:P 83=some {2,8,iM}
 h151:P 151=some {1,2,fv}
 h152:P 152=some {2,2,fe}
 h165:P 165=some {3,11,jW}
 h166:P 166=some {2,6,mU}
 h167:P 167=some {2,7,nU}
 h176:P 176=some {2,3,jB}
 h177:P 177=some {3,5,vA}
 h181:P 181=some {1,4,gj}
 h183:P 183=some {4,7,xF}
 h232:P 232=some {4,8,di}
 h233:P 233=some {1,7,ke}
 law:P 234=some {1,11,nV}
def ER (hm:aJ m):2<=(bw m).length:=by
 have w2:=hm.w2;have p1:=hm.p1;have a:∀x,x<2->List.replicate m.places x∈bw m:=λx u=>pe hm {Tg,λy j=>by rw[T5 j];omega}
 have a0:=a 0 `d
 have a1:=a 1 `d
 match bw m,a0,a1 with
 | [x],a0,a1=>
   have e:=(RS.mp a0).trans (RS.mp a1).symm;cases h:m.places with
   |zero=>omega
   |succ k=>rw[h] at e;cases e
 |_::_::_,_,_=>show Nat.le_add_left _ _
section
variable{P:Nat->Option Df}(h:zi P){M:Mem}{m:a7}{d w v:D}{ws:List D}{kind more k L:Nat}
include h
theorem xJ (e:ag P 37 80 [d,w] M=.err v M):qj (ag P 38) kind d w more M=.err v M:=by
 have E:∀{f:Nat}{rest:GS}{j:Env},ae (aZ (d4 (bK 80 (ag P 37) (a9 (aa 0) (a9 (aa 1) bb)))) rest (some d::some w::j) M) (uZ (λ_ _=>False) λy u=>y=v/\u=M):=by
  intro f rest j;show ax.mpr (kr.mpr ?_);rw[gr (af rfl (af rfl rfl)),e];show⟨rfl,rfl⟩
 unfold qj;split
 .exact gq (eF h.h167 rfl (E (f:=0)))
 .exact gq (eF h.h183 rfl (E (f:=0)))
 .exact gq (eF h.h177 rfl (E (f:=0)))
theorem zZ (hk:kind<3)(hm:more<3)(hd:Th k L d)(j:L<=100)(u:gM d=false):ag P 39 232 [nD kind,d,w,nD more] M=.ok (.str "machine") M:=
 lp h.h232 hk hm 38 (.inl rfl) (xJ h (DG h.b0 h.h80 26 hd j u))
theorem zY (hk:kind<3)(hm:more<3)(ho:aJ m)(hd:Th k L w)(j:L<=100)(u:gD m w=false):ag P 39 232 [nD kind,m.d,w,nD more] M=.ok (.str "work") M:=
 lp h.h232 hk hm 38 (.inr (.inl rfl)) (xJ h (Iq h.b0 h.h15 h.h79 h.h80 26 ho hd j u))
theorem wh (n:Nat)(ho:aJ m){L:List bN}(hl:L=[]\/∃b:bN,L=[b]/\b.length<=1/\Th 3 9 (bD b)):ag P (n+10) 176 [m.d,.lst (L.map bD)] M=.ok (.bl L.isEmpty) M:=by
 have b2:=ER ho;show aj (aE h.h176 rfl (bf (bQ (x:=nD (bw m).length) ?_) ?_))
 .rw[uK ((aV (af rfl rfl)).trans (ko h.b0 h.h15 n ho)),RK]
 rcases hl with rfl|⟨b,rfl,u,j⟩
 .exact bC (all_gen (ds:=[]) (λ_=>false) ⟨rfl,rfl⟩ (S5 _) λd z=>nomatch z) ⟨rfl,rfl⟩
 .refine bC (all_gen (ds:=[bD b]) (λ_=>false) ⟨rfl,rfl⟩ (aq (n:=1) `d) λd z=>{_,rfl,?_}) ⟨rfl,rfl⟩
  rw[RS.mp z];show ff (x:=false) (y:=false) (((aV (af rfl (af rfl rfl))).trans (ja h.b0.q (n+8) j)).trans ?_) λz=>nomatch z;rw[show dE (bw m).length (bD b)=false from Sw.mpr (by rw[RK];omega)]
omit h in
theorem FP (hm:more<3):(sF more=[]\/∃b:bN,sF more=[b]/\b.length<=1/\Th 3 9 (bD b))/\(B5 more).map (·.1)=sF more:=by
 match more,hm with
 |0,_=>show{.inl rfl,rfl}
 |1,_=>show{.inr {_,rfl,S5 _,S5 _,λ_ z=>nomatch z},rfl}
 |2,_=>show{.inr {_,rfl,RN _,R1 rfl,λd z=>by rw[RS.mp z];show{R1 rfl,λd z=>by rw[RS.mp z];trivial}},rfl}
theorem tG (ho:aJ m)(j:Z[0]?.getD none=some m.d):aK .tuple (a9 (ah 15 (ag P 37) (a9 (aa 0) bb)) bb) Z M=.ok (bD (bw m)) M:=
 (vm (af ((aV (af (au j) rfl)).trans (ko h.b0 h.h15 28 ho)) rfl)).trans rfl
omit h in
theorem FQ (j:a Z (M++[[.int 78]])=.ok (bD x) (M++[[.int 78]]))(u:b Z (M++[[.int 78]])=.ok (.fn (aP M.length)) (M++[[.int 78]])):ai (hU true a b) Z (M++[[.int 78]])=.ok true (M++[[.int 78]]):=
 Nh (n:=true) j u (GC (k:=id) (v:=λ_=>.non) (E:=[]) (TU))
theorem C1 (n:Nat):ag P (n+1) 181 [.lst []] M=.ok (.fn (aP M.length)) (M++[[.int 78]]):=by
 show MM (aE h.h181 rfl ?_);change ae (gj (ag P n) [some (.lst []),none,none,none] M) _;show jn (kT rfl) ?_;show ax.mpr (fK.mpr (gE.mpr (aU.mpr {_,rfl,rfl,?_})));show eK (ds:=[]) (λ_ j u=>j=[some (.lst []),some (.fn (aP M.length)),none,none]/\u=M++[[.int 78]]) (λ_ _ _ _=>rfl) ⟨rfl,rfl⟩ (λ_ _ _ _ z=>nomatch z) ?_;rintro v u ⟨rfl,rfl⟩;show bM.mpr (bC rfl ⟨rfl,rfl⟩)
theorem xV (hm:more<3)(ho:aJ m)(j:ag P 37 80 [m.d,w] M=.ok .non M):ae (ag P 38 183 [m.d,w,nD more,.lst ((B5 more).map Gw)] M) λ_ M'=>Sub M M':=by
 show aE h.h183 rfl ?_;show bf (p7 ((fb (af rfl (af rfl rfl))).trans j)) ?_;have ek:bp false 2 (.tup [0,1]) (cg (aa 3)) (bB (aa 0)) [some m.d,some w,some (nD more),some (.lst ((B5 more).map Gw)),none,none,none] M=.ok (.lst ((sF more).map bD)) M:=by
  match more,hm with
  |0,_=>rfl
  |1,_=>rfl
  |2,_=>rfl
 have t1:=bH (bE ((aV (af (a:=aa 0) rfl (af (s:=bb) ek rfl))).trans (wh h 27 ho (FP hm).1)))
 match more,hm,t1 with
 | 0,_,t1=>
   show aG t1 (jn (kT ((aV (af rfl rfl)).trans (C1 h 36))) ?_);show bf (bQ (tG h ho rfl)) (bx (lF (FQ rfl rfl)) rfl .app)
 |1,_,t1=>show bx t1 rfl .refl
 |2,_,t1=>show bx t1 rfl .refl
theorem vN (hm:more<3)(ho:aJ m)(j:ag P 37 80 [m.d,w] M=.ok .non M):ae (ag P 38 177 [m.d,w,.lst ((sF more).map bD)] M) λ_ M'=>Sub M M':=by
 show aE h.h177 rfl ?_;show bf (p7 ((fb (af rfl (af rfl rfl))).trans j)) ?_;have t1:=bH (bE ((aV (Z:=[some m.d,some w,some (.lst ((sF more).map bD)),none,none]) (af (a:=aa 0) rfl (af (a:=aa 2) (s:=bb) rfl rfl))).trans (wh h (M:=M) 27 ho (FP hm).1)))
 match more,hm,t1 with
 |0,_,t1=>show aG t1 (jn (kT (M':=M++[[.int 78]]) rfl) (bx (lF (FQ (tG h ho rfl) rfl)) rfl .app))
 |1,_,t1=>show bx t1 rfl .refl
 |2,_,t1=>show bx t1 rfl .refl
theorem rC (hk:kind<3)(hm:more<3)(ho:aJ m)(y:kind=0->∀d∈m.deeds,∃a t c,d=.turn a t c)(B:dX m ws):ae (ag P 39 232 [nD kind,m.d,.tup ws,nD more] M) λd M'=>Sub M M'/\((d=.str "told"/\(kind=0->∃A,AllIn m none A/\A.length<=255))\/(d=.str "many"/\kind=0/\g6 m none)):=by
 have j:∀M:Mem,ag P 37 80 [m.d,.tup ws] M=.ok .non M:=λM=>LV h.b0 h.h15 h.h79 h.h80 26 ho B
 match kind,hk,y with
 | 0,_,y=>
   have q:=CY (fit:=MG ws) (M:=M) 37 (λM=>Am (bd:=none) (λ_=>rfl) (λ_=>rfl) h.b0 h.r0 h.h15 h.h151 h.h152 h.h165 h.h166 26 ho (y rfl) λ_ z=>nomatch z) j (λM q b lq=>OS 36 h.h81 ho B lq) h.h167;cases e:ag P 38 167 [m.d,.tup ws] M with
   |bad=>rw[e] at q;show q.elim
   | err x u=>
     rw[e] at q;obtain(rfl|E|S):=Io.mp q;rw[lp h.h232 (kind:=0) `d hm 38 (.inr (.inr rfl)) e]
     show{S,.inr ⟨rfl,rfl,E⟩}
   | ok x u=>
     rw[e] at q;rw[l9 h.h232 (kind:=0) `d hm 38 e]
     show{q.2,.inl {rfl,λ_=>q.1}}
 | 1,_,_=>
   obtain(v|u|e|S):=fm.mp (xV h hm ho (j M));rw[l9 h.h232 (kind:=1) `d hm 38 e]
   show{S,.inl {rfl,λz=>nomatch z}}
 | 2,_,_=>
   obtain(v|u|e|S):=fm.mp (vN h hm ho (j M));rw[l9 h.h232 (kind:=2) `d hm 38 e]
   show{S,.inl {rfl,λz=>nomatch z}}
end
section
variable{Z:Env}{M M1:Mem}{a b:GE}{t u:GT}{s:GA}
def kD (h1:a Z M=.ok x M1)(h2:b Z M1=.ok x M1)(e:bo .ne x x M1=some false):ai (aA .ne a b) Z M=.ok false M1:=by
 unfold ai aA;rw[h1];change((b Z M1).bind _).bind _=_;rw[h2];change((cj M1 (bo .ne x x M1)).bind _).bind _=_;rw[e];rfl
def JP (h1:t Z M=.ok true M)(h2:u Z M=.ok false M1):dF t u Z M=.ok false M1:=by unfold dF;rw[h1];show h2
def wK:bo .ne (.str "told") (.str "told") M=some false:=rfl
def Iz:bo .ne (.str "many") (.str "many") M=some false:=rfl
def Iy:bo .ne (.str "work") (.str "work") M=some false:=rfl
def IB:bo .ne (.str "machine") (.str "machine") M=some false:=rfl
def t8 (es:aR s Z M=.ok (.tup [x]) M)(j:Z[4]?.getD none=some (.tup ws))(hz:ws.length<=100):ak false .mul (aR s) (aK .len #[aa 4]) Z M=.ok (.tup (List.replicate ws.length x)) M:=by
 rw[kQ es (gP j)];show aj (A1.mpr {{aq ?_,`a,`a},?_,rfl})
 .rw[Tt,T1];omega
 .rw[Tt,List.flatten_replicate_singleton]
end
def vw (m:a7)(ws:List D):List D:=[.tup (ws.take (ws.length-1)),.tup (ws++[.non]),.lst ws,.non,.tup (List.replicate ws.length (nD m.words)),.tup (List.replicate ws.length (.bl true))]
def Ar (h:ys.length≠(bw m).length):gD m (.tup ys)=false:=by
 unfold gD;rw[show dE (bw m).length (.tup ys)=false from Sw.mpr h,Bool.false_and]
def KW (h:0<n)(e:zw m x=false):gD m (.tup (List.replicate n x))=false:=by
 unfold gD;rw[Bool.and_eq_false_iff];show .inr (List.all_eq_false.mpr {x,?_,by rw[e];show R6})
 cases n with
 |zero=>show absurd h `d
 |succ n=>show .head _
def JJ (hm:aJ m)(y:dX m ws)(j:x∈vw m ws):gD m x=false/\Th 2 20 x:=by
 have E:=dB hm;have l0:=vp hm;have lw:=y.1;have tw:∀x∈ws,Th 1 20 x:=λx j=>by rcases y.2 x j with rfl|⟨v,rfl,_⟩<;>trivial
 dsimp[vw,R7,SY,or_false] at j;rcases j with rfl|rfl|rfl|rfl|rfl|rfl
 .exact{Ar (by rw[SJ];omega),.tup_of (by rw[SJ];omega) λx j=>tw x (S6 j)}
 .refine{Ar (by rw[Sa,T1];omega),.tup_of (by rw[Sa,T1];omega) λx j=>(Si.mp j).elim (tw x) λz=>?_}
  rw[RS.mp z];trivial
 .exact{rfl,.lst_of `a tw}
 .exact⟨rfl,trivial⟩
 .refine{KW `a ?_,.tup_of (by rw[Tg];omega) λx j=>by rw[T5 j];trivial}
  change(false||(decide ((0:Int)<=(m.words:Int))&&decide ((m.words:Int)<=(m.words:Int)-1)))=false;rw[decide_eq_false (show ¬ (m.words:Int)<=(m.words:Int)-1 by omega),Bool.and_false];rfl
 .exact{KW `a rfl,.tup_of (by rw[Tg];omega) λx j=>by rw[T5 j];trivial}
section
variable{P:Nat->Option Df}(h:zi P){M:Mem}{p B:Nat}{m:a7}{ws:List D}{kind more:Nat}
include h
theorem Dx (hk:kind<3)(hm:aJ m)(y:∀d∈m.deeds,∃a t c,d=.turn a t c)(v:b=true->∀A,AllIn m none A->255<A.length)(hf:b=false->¬ g6 m none)(E:dX m ws) :
 ae (FN (ag P 39) [x0,x1,some m.d,some (.bl b),x4,some (nD kind),some (.tup ws),x7,x8,x9,x10] M) λfl M'=>Sub M M'/\fl=.next [x0,x1,some m.d,some (.bl b),x4,some (nD kind),some (.tup ws),x7,x8,x9,x10]:=by
 obtain(d|M1|e|S|q):=fm.mp (rC h hk (more:=0) (M:=M) `d hm (λ_=>y) E)
 have e1:=(aV (Z:=[x0,x1,some m.d,some (.bl b),x4,some (nD kind),some (.tup ws),x7,x8,x9,x10]) (af (a:=aa 5) rfl (af (a:=aa 2) rfl (af (a:=aa 6) rfl (af (a:=gC (.int 0)) (s:=bb) rfl rfl))))).trans e;rcases q with⟨rfl,j⟩|⟨rfl,rfl,F⟩
 .refine mH (kD e1 ?_ wK) ⟨S,rfl⟩
  match kind,hk,j with
  | 0,_,j=>
    cases b with
    |false=>rfl
    | true=>
      obtain(A|all|few):=j rfl;have:=v rfl A all;omega
  |1,_,_=>cases b<;>rfl
  |2,_,_=>cases b<;>rfl
 .cases b with
  |false=>show absurd F (hf rfl)
  |true=>show mH (kD e1 rfl Iz) ⟨S,rfl⟩
theorem Be (hk:kind<3)(hm:aJ m)(H:∀d∈m.deeds,∃a t c,d=.turn a t c)(F:b=true->∀A,AllIn m none A->255<A.length)(hf:b=false->¬ g6 m none)(y:dX m ws) :
 ae (Bf (ag P 39) [x0,x1,some m.d,some (.bl b),some (.tup ws),some (nD kind),x6,x7,x8,x9,x10] M) λfl M'=>Sub M M'/\∃j,fl=.next [x0,x1,some m.d,some (.bl b),some (.tup ws),some (nD kind),j,x7,x8,x9,x10]:=by
 have L:=dB hm;have lw:=y.1;show ax.mpr (fK.mpr (gE.mpr ?_));rw[mC (af rfl (af (t8 rfl rfl `a) rfl)) (R1 rfl)]
 show{rfl,eK (ds:=[.tup ws,.tup (List.replicate ws.length .non)]) (λi Z M'=>Sub M M'/\∃j,Z=[x0,x1,some m.d,some (.bl b),some (.tup ws),some (nD kind),j,x7,x8,x9,x10]) (λ_ _ _ _=>rfl) {.refl,_,rfl} ?_ ?_}
 .rintro i d Z M' hd ⟨S,j,rfl⟩;obtain⟨v,rfl,I⟩:∃v,d=.tup v/\dX m v:=by
   rcases R7.mp (Sj hd) with rfl|z
   .exact⟨ws,rfl,y⟩
   .rw[RS.mp z];show{_,rfl,by rw[Tg];show lw,λx J=>.inl (T5 J)}
  show{_,rfl,ay (Dx h hk hm H F hf I) ?_};rintro fl O ⟨E,rfl⟩;show{_,rfl,S.trans E,_,rfl}
 .rintro Z M' ⟨S,j,rfl⟩;show{S,_,rfl}
theorem ES (hk:kind<3)(v:more<3)(hm:aJ m)(E:dX m ws)(ho:Th 7 7 j)(y:gD m bad=false/\Th 2 20 bad) :
 ae (GQ (ag P 39) [x0,x1,some m.d,x3,some (.tup ws),some (nD kind),x6,x7,some j,some (nD more),some bad] M) λfl M'=>Sub M M'/\fl=.next [x0,x1,some m.d,x3,some (.tup ws),some (nD kind),x6,x7,some j,some (nD more),some bad]:=by
 show aG (kD ((aV (af rfl (af rfl (af rfl (af rfl rfl))))).trans (zY h hk v hm y.2 `d y.1)) rfl Iy) ?_
 show aG (BY (bH (bE ((aV (af rfl rfl)).trans (An h.w 34 ho `d `d)))) λz=>?_) ?_
 .have F:gM j=false:=by cases e:gM j;rfl;rw[e] at z;cases z
  obtain⟨w,e⟩:∃w,ao (aW false #[aa 4,aa 10]) (ak false .mod (aa 9) (gI 2)) [x0,x1,some m.d,x3,some (.tup ws),some (nD kind),x6,x7,some j,some (nD more),some bad] M=.ok w M:=by
   match more,v with
   |0,_=>show{_,rfl}
   |1,_=>show{_,rfl}
   |2,_=>show{_,rfl}
  show kD ((aV (af rfl (af rfl (af e (af rfl rfl))))).trans (zZ h hk v ho `d F)) rfl IB
 .match kind,hk with
  |0,_=>show aG (BY (b:=false) rfl λz=>nomatch z) {.refl,rfl}
  | k+1,hk=>
    obtain(d|M1|e|S|q):=fm.mp (rC h hk v (M:=M) hm (λz=>nomatch z) E);rcases q with⟨rfl,_⟩|⟨_,z,_⟩
    .refine mH (JP ?_ (kD ((aV (af rfl (af rfl (af rfl (af rfl rfl))))).trans e) rfl wK)) ⟨S,rfl⟩;show(sX (c:=0) rfl).trans (congrArg (Res.ok · M) (decide_eq_true ?_));omega
    .cases z
theorem zS (Q:aD M p B)(hB:B<=100000):ae (zW (ag P 39) [x0,some (.cell p),x2,x3,x4,x5,x6,x7,x8,x9,x10] M) λfl M'=>aD M' p (B+1000)/\∃Y y4 v y8 y9 F,fl=.next [x0,some (.cell p),Y,x3,y4,v,x6,x7,y8,y9,F]:=by
 show bP (k:=λd M'=>∃m:a7,d=m.d/\aJ m/\aD M' p (B+300)) ?_ ?_
 .refine fO.mpr (bA.mpr ?_);rw[aV (af (au rfl) rfl)];show ay (wj h.p.toHasP0 38 Q) ?_;rintro _ M1 ⟨rfl,p1,k1⟩;change ae (ag P 39 34 [.cell p,nD 4,nD 2,nD 6] M1) _;show ay (xW h.p 34 p1 `a `d `d `d `d `d `d) ?_
  rintro d H ⟨m,e,hm,_,_,_,p2,_⟩;show⟨m,e,hm,p2⟩
 rintro _ M1 ⟨m,rfl,hm,p1⟩;show bP (k:=λd M'=>Th 7 7 d/\aD M' p (B+400)) ?_ ?_
 .rw[aV (af rfl (af rfl (af rfl rfl)))];show ay (wg h.p h.t h.w 5 28 `d (qI hm) `d `d `d p1 `a) ?_
  rintro d H ⟨t,q,_⟩;show{t,q.mono `a}
 rintro E H ⟨to,p2⟩;show c5 h.p.toHasP0 37 (many:=3) rfl rfl p2 `a `d `d λmore M3 y U k3=>?_
 show bP (k:=λd M'=>∃ws,d=.tup ws/\dX m ws/\aD M' p (B+801)) ?_ ?_
 .rw[aV (af rfl (af rfl rfl))];show ay (rG h.p h.bg h.h35 h.h44 h.h83 35 hm U `a) ?_
  rintro d J ⟨ws,e,j,q,_⟩;show{ws,e,j,q.mono `a}
 rintro _ J ⟨ws,rfl,j,W⟩;have R:=dB hm;have lw:=j.1;show bf (bQ (x:=.lst (vw m ws)) (mC (af (aj (gU.mpr (aU.mpr {_,rfl,cz.mpr ?_}))) (af ((kQ (a:=aa 4) rfl (fG (xs:=[.non]) rfl (R1 rfl))).trans (aj (kY.mpr {aq ?_,rfl,rfl}))) (af ((vm (af (a:=aa 4) rfl rfl)).trans (aj (oN.mpr (bT.mpr {aq ?_,rfl,rfl})))) (af rfl (af (t8 (fG (af (oo rfl) rfl) (R1 rfl)) rfl `a) (af (t8 rfl rfl `a) rfl)))))) (R1 rfl))) ?_
 .refine{rfl,rfl,?_};change ae (Res.ok (D.tup (cut ws 0 (if (-1:Int)<0 then((-1:Int)+(ws.length:Int)).toNat else min (-1:Int).toNat ws.length))) _) _;rw[if_pos `d]
  show{congrArg D.tup ?_,rfl};unfold cut;rw[show((-1:Int)+(ws.length:Int)).toNat-0=ws.length-1 by omega,List.drop_zero]
 .rw[Sa,T1];omega
 .omega
 show bP (k:=λd M'=>d∈vw m ws/\aD M' p (B+802)) ?_ ?_
 .refine ay (Ei h.p.toHasP0 37 (many:=6) rfl rfl W `a `d `d (xs:=vw m ws) rfl rfl) ?_
  rintro d L ⟨a,b,_⟩;show⟨a,b⟩
 rintro bad L ⟨O,X⟩;show ax.mpr (fK.mpr (fF.mpr (cz.mpr {3,rfl,{`d,`d},?_})))
 show eK (ds:=(List.range 3).map λ(k:Nat)=>D.int (k:Int)) (λi Z M'=>aD M' p (B+802)/\∃v,Z=[x0,some (.cell p),some m.d,x3,some (.tup ws),v,x6,x7,some E,some (nD more),some bad]) (λ_ _ _ _=>rfl) {X,_,rfl} ?_ ?_
 .rintro i d Z M' hd ⟨q,v,rfl⟩;have I:i<3:=(RH.mp hd).1;rw[Sh,Tv I] at hd;cases hd;show{_,rfl,ay (ES h I y hm j to (JJ hm j O)) ?_};rintro fl M6 ⟨S,rfl⟩;show{_,rfl,S.pen q,_,rfl}
 .rintro Z M' ⟨q,v,rfl⟩;show bM.mpr {q.mono `a,_,_,_,_,_,_,rfl}
omit h in
theorem OJ (h:zi P)(ns:List Int)(hn:ns.length<=63):∃M,ag P 40 234 [.frz (ns.map D.int)] []=.ok (.bl true) M:=by
 have F:ae (ag P 40 234 [.frz (ns.map D.int)] []) λd _=>d=.bl true:=by
  show aE h.law rfl ?_;change ae (nV (ag P 39) [some (.frz (ns.map D.int)),none,none,none,none,none,none,none,none,none,none] []) _;unfold nV;show bP (k:=λd j=>d=.cell 1/\aD j 1 0) ?_ ?_
  .rw[aV (af rfl rfl)];show Hz h.p.toHasP0 38 hn
  rintro _ M1 ⟨rfl,p1⟩;show ax.mpr (KJ.mpr (fO.mpr (bA.mpr ?_)));rw[aV (af (au rfl) rfl)];show ay (wj h.p.toHasP0 38 p1) ?_;rintro _ M2 ⟨rfl,p2,_⟩;show bV.mpr (ay (HA h.p.toHasP0 h.h233 36 p2 `d) ?_)
  rintro _ M3 ⟨m,b,rfl,hm,ht,Y,hf,p3,_⟩;show{_,_,rfl,rfl,bM.mpr ?_};show bP (k:=λd j=>∃ws,d=.tup ws/\dX m ws/\aD j 1 1000) ?_ ?_
  .rw[aV (af rfl (af rfl rfl))];show ay (rG h.p h.bg h.h35 h.h44 h.h83 35 hm p3 `d) ?_
   rintro d W ⟨ws,e,I,q,_⟩;show{ws,e,I,q.mono `d}
  rintro _ W ⟨ws,rfl,I,p4⟩;show ax.mpr (fK.mpr (fF.mpr (cz.mpr {3,rfl,{`d,`d},?_})))
  show eK (ds:=(List.range 3).map λ(k:Nat)=>D.int (k:Int)) (λi Z j=>aD j 1 1000/\∃y E,Z=[some (.frz (ns.map D.int)),some (.cell 1),some m.d,some (.bl b),some (.tup ws),y,E,none,none,none,none]) (λ_ _ _ _=>rfl) {p4,_,_,rfl} ?_ ?_
  .rintro i d Z j hd ⟨q,y,E,rfl⟩;have H:i<3:=(RH.mp hd).1;rw[Sh,Tv H] at hd;cases hd;show{_,rfl,ay (Be h H hm ht Y hf I) ?_};rintro fl X ⟨S,z6,rfl⟩;show{_,rfl,S.pen q,_,_,rfl}
  rintro Z X ⟨p5,y,E,rfl⟩;show bM.mpr (ax.mpr (fK.mpr (fF.mpr (cz.mpr {4,rfl,{`d,`d},?_}))))
  show eK (ds:=(List.range 4).map λ(k:Nat)=>D.int (k:Int)) (λi Z j=>aD j 1 (1000+1000*i)/\∃J L O y E Q R U v,Z=[some (.frz (ns.map D.int)),some (.cell 1),J,L,O,y,E,Q,R,U,v]) (λ_ _ _ _=>rfl) {p5,_,_,_,_,_,_,_,_,_,rfl} ?_ ?_
  .rintro i d Z j hd ⟨q,J,L,O,y,E,Q,R,U,v,rfl⟩;have H:i<4:=(RH.mp hd).1;rw[Sh,Tv H] at hd;cases hd;show{_,rfl,ay (zS h q `a) ?_}
   rintro fl M6 ⟨q6,z2,z4,z5,z8,z9,z10,rfl⟩;show{_,rfl,q6.mono `a,_,_,_,_,_,_,_,_,_,rfl}
  .rintro Z j ⟨q,J,L,O,y,E,Q,R,U,v,rfl⟩;show bM.mpr (bC rfl rfl)
 obtain(d|M|e|rfl):=fm.mp F;show⟨M,e⟩
end
end LD
end
set_option maxHeartbeats 0
namespace K24
open PySem PySem.Spec PyProof.Rows L2 LD
noncomputable def top (i:Nat):Stmt:=PySem.Challenge.pw_leastdeeds_k24_least_refused.main.body.getD i (.Pass {0,0,0,0})
noncomputable def q0:Str×Tok:=("leastdeeds.wholes",312)
noncomputable def q1:Str×Tok:=("leastdeeds.machines",323)
noncomputable def q2:Str×Tok:=("leastdeeds.runs",472)
noncomputable def q3:Str×Tok:=("leastdeeds.works",548)
noncomputable def q4:Str×Tok:=("leastdeeds.least",570)
noncomputable def q5:Str×Tok:=("law_leastdeeds_k24_least_refused",657)
noncomputable def tb:List Ent:=[{0,"is_between",top 9,3,["thing","low","high"],113,q0,gX,false,none,0},
 {1,"is_word",top 16,2,["words","thing"],120,q1,jX,false,none,0},
 {2,"is_place",top 17,2,["places","thing"],127,q1,i4,false,none,0},
 {3,"is_cost",top 18,1,["thing"],134,q1,jY,false,none,0},
 {4,"is_tuple_of",top 19,2,["long","thing"],141,q1,fX,false,none,0},
 {5,"is_table",top 20,2,["words","thing"],146,q1,i1,false,none,0},
 {6,"is_double_table",top 21,2,["words","thing"],151,q1,d9,false,none,0},
 {7,"is_turn",top 22,3,["words","places","parts","at","table","price"],158,q1,gx,false,none,0},
 {8,"is_join",top 23,3,["words","places","parts","at","other","table","price"],165,q1,gz,false,none,0},
 {9,"is_move",top 24,3,["words","places","parts","at","other","price"],172,q1,gy,false,none,0},
 {10,"is_put",top 25,3,["words","places","parts","at","word","price"],179,q1,hZ,false,none,0},
 {11,"is_deed",top 27,3,["words","places","thing","sort","is_sort"],187,q1,dU,false,none,0},
 {12,"is_machine",top 28,1,["thing","words","places","deeds"],192,q1,jA,false,none,0},
 {13,"need_machine",top 29,1,["thing"],199,q1,fw,true,none,0},
 {14,"is_beginning",top 30,2,["machine","thing","words","places","deeds"],204,q1,kS,false,none,0},
 {15,"beginnings",top 31,1,["machine","words","places","deeds","starts","place"],209,q1,cP,true,none,0},
 {20,"turned",top 33,2,["deed","standing","sort","at","table","price"],216,q2,lV,false,none,0},
 {21,"joined",top 34,2,["deed","standing","sort","at","other","table","price"],223,q2,ph,false,none,0},
 {22,"moved",top 35,2,["deed","standing","sort","at","other","price"],230,q2,rf,false,none,0},
 {23,"put_in",top 36,2,["deed","standing","sort","at","word","price"],237,q2,pf,false,none,0},
 {24,"done",top 38,2,["deed","standing","new_word","at"],245,q2,qi,false,none,0},
 {176,"are_behaviours",top 39,2,["machine","things","many"],250,q2,jB,false,none,0},
 {79,"is_work",top 41,2,["machine","thing"],255,q3,gu,false,none,0},
 {80,"need_work",top 42,2,["machine","work"],262,q3,fQ,true,none,0},
 {81,"ends_do",top 43,2,["ends","work"],267,q3,iF,false,none,0},
 {151,"priced_leads",top 46,1,["machine","starts"],272,q4,fv,true,none,0},
 {152,"led_to",top 47,2,["lead","ends"],277,q4,fe,false,none,0},
 {165,"next_level",top 48,3,["leads","levels","found","price","level","number","step_price","lead","ahead","ends","new_ends"],284,q4,jW,true,none,0},
 {166,"reached",top 49,2,["machine","bound","leads","empty_ends","found","levels"],292,q4,mU,true,none,285},
 {167,"least",top 50,2,["machine","work","found","best","price","row","floors"],297,q4,nU,true,none,0},
 {181,"highest_floors",top 51,1,["floors","highest","ends","floor"],304,q4,gj,false,none,0},
 {183,"shows",top 53,4,["machine","work","number","floors","highest","empty_ends","leads"],316,q4,xF,true,none,0},
 {177,"closed",top 54,3,["machine","work","behaviours","known","leads"],321,q4,vA,true,none,0},
 {28,"_law_spread",top 56,2,["cell","at","primes","one","two","three"],328,q5,l4,false,none,0},
 {29,"_law_open",top 57,1,["script","cells","k","cell"],335,q5,kc,false,none,0},
 {30,"_law_anew",top 58,1,["pen"],342,q5,kg,false,none,0},
 {31,"_law_take",top 59,2,["pen","many","at","cell","found"],349,q5,og,false,none,0},
 {64,"_law_sign_but",top 60,2,["pen","others","all_signs","some"],354,q5,eT,false,none,0},
 {65,"_law_any_sign",top 61,1,["pen"],361,q5,eU,false,none,0},
 {66,"_law_signed",top 62,2,["pen","text","at"],368,q5,fY,false,none,0},
 {67,"_law_is_whole",top 63,1,["thing"],375,q5,jZ,false,none,0},
 {32,"_law_tab",top 64,2,["pen","words","kind","word","other","found"],380,q5,i5,false,none,0},
 {33,"_law_deed",top 65,3,["pen","words","places","kind","price","at","other"],385,q5,ir,false,none,0},
 {34,"_law_machine",top 66,4,["pen","words","places","most","deeds","k","again","deed"],392,q5,fy,false,none,0},
 {35,"_law_row",top 67,3,["pen","machine","most","kind","many","found"],397,q5,fx,false,none,0},
 {41,"_law_after",top 68,2,["deed","end","here","own"],404,q5,gY,false,none,0},
 {42,"_law_begins",top 69,1,["machine"],409,q5,iN,false,none,0},
 {44,"_law_ends",top 70,2,["machine","row","found","end","number"],416,q5,d5,false,none,0},
 {68,"_law_is_in",top 71,3,["thing","low","high"],423,q5,mV,false,none,0},
 {69,"_law_numbers",top 72,4,["thing","many","low","high"],428,q5,h9,false,none,0},
 {70,"_law_is_deed",top 73,3,["thing","words","places"],433,q5,dw,false,none,0},
 {71,"_law_is_machine",top 74,1,["thing"],438,q5,fE,false,none,0},
 {72,"_law_bent",top 75,3,["pen","thing","deep","kind","pick","number","at","odd","some"],445,q5,oh,false,none,0},
 {83,"_law_wanted",top 76,2,["pen","machine","kind","free","begins","ends","found","at"],450,q5,iM,false,none,0},
 {232,"_law_told",top 77,4,["kind","machine","work","more","caught","e","some","others"],457,q5,di,false,none,0},
 {233,"_law_full",top 78,1,["pen","words","folds","round_tab","tabs","deeds","at"],462,q5,ke,false,none,0},
 {234,"law",top 79,1,["script","pen","machine","many","work","kind","own","turn","odd","more","bad"],469,q5,nV,false,none,0}]
def rs:Rs:={[Fn,zM,Ft,Fs,Fq,PH,zO,Kk,Fm,zQ,Kj,Kc,Ka,Kf,Fj,Kb,Kd,Kl,zG,Fi,zI,Fo,Ke,Fp,zK,Fv,Fu,Ki,PF],[J6,vT],[zv,E7],[zC,Fd,Fe,Fb,J5,Fc],[xR,E4,E6,zq,E5,JU,JV,JW,JT,zt,JS]}
def Og:EW rs:={⟨Cr,zL,Cy,Cw,Cu,Kh,zN,Hn,Cq,zP,Hm,Hh,Hf,Hk,Cp,Hg,Hi,Ho,zF,Co,zH,Cs,Hj,Ct,zJ,CA,Cz,Hl,Kg,trivial⟩,⟨Hc,N1,trivial⟩,⟨zu,Ca,trivial⟩,⟨zB,Cm,Cn,Cj,Ha,Ck,trivial⟩,⟨B6,B7,B9,zp,B8,G5,G6,G7,G4,zr,G3,trivial⟩}
noncomputable def te0:List (Str×En):=List.map (λx=>(x,En.bl)) ["ValueError","all","any","bool","enumerate","int","isinstance","len","list","min","range","str","tuple","zip"]
def te1:List (Str×En):=[("LEAST_WORDS",.int 2),("MOST_BEHAVIOURS",.int 255),("MOST_COST",.int 3),("MOST_DEEDS",.int 6),("MOST_PLACES",.int 2),("MOST_WORDS",.int 4),("NEW_WORDS",.dct ef),("SORTS",.dct cV),("NoRow",.xk 0),("NoMachine",.xc 3),("TooLong",.xk 4),("NoWork",.xc 6)]
noncomputable def te2:List (Str×En):=[("NoBound",.xk 7),("TooMany",.xc 8),("DeedError",.de)]
def te:List (Str×En):=te0++te1++te2
def tbl:mW:={(tb.filter (·.q.isNone)).map (λe=>(e.x,if e.i==166 then En.fnD e.i else En.fn e.i e.r))++te,[],[],[("NEW_WORDS",ef),("SORTS",cV)],[],[(136,12,14),(142,42,67),(150,29,31),(151,13,27),(158,40,45),(160,24,35),(162,13,90),(162,57,62),(165,14,16),(195,87,92),(210,12,29),(213,11,24),(254,12,30),(273,12,14),(289,11,20),(305,12,14),(363,12,36),(365,16,62),(370,16,83)],[(100,4,40),(101,4,47),(103,4,33),(104,4,26),(106,4,32),(107,4,15),(133,18,27),(141,15,36),(142,16,31),(142,42,53),(144,19,29),(150,12,33),(158,16,27),(160,24,35),(162,29,40),(162,66,77),(165,14,16),(167,8,60),(186,7,32),(186,36,55),(188,4,33),(189,4,77),(194,12,47),(195,7,46),(197,4,33),(198,4,93),(233,29,38),(239,11,20),(239,44,73)],[],rs,tb}
def Pg:Nat->Option Df:=tbl.Pg
def Oh:∀c,tb.map (tbl.rd c)=tb.map λe=>some (e.b c):=λc=>by kernel_rfl
def tab:zc tbl:={Og,Oh,by kernel_rfl,by kernel_rfl,λ_ _ _ _ _ _=>by kernel_rfl,λ_ _ _ _ _ _ _=>by kernel_rfl,λ_ _ _ _ _ _ _ _=>by kernel_rfl,λ_ _ _ _ _ _ _ _ _=>by kernel_rfl,λ_ _ _ _ _ _ _ _ _ _=>by kernel_rfl,λ_ _ _ _ _ _ _ _ _ _ _ _=>by kernel_rfl,λ_ _ _ _ _ _ _ _ _ _ _=>by kernel_rfl,by rw[show tbl.tb.filter (λe=>!(e.df==0))=[tb[28]] from by kernel_rfl];show{{rfl,λ_ _ _ _ _ _ _ _=>{_,_,rfl,rfl,rfl,rfl}},trivial}}
def fa:Fa:=LD.xm (tb.map (λe=>(e.i,e.f))++[(666,1)]) [(0,44),(3,56),(4,68),(6,80),(7,92),(8,104)] 24
def D3:∀ns:List Int,ns.length<=63->∃M,ag Pg 40 234 [.frz (ns.map D.int)] []=.ok (.bl true) M:=OJ (by repeat' (first|rfl|constructor))
end K24
open PySem PySem.W PyProof.Rows K24
set_option maxRecDepth 100000 in
set_option maxHeartbeats 0 in
theorem PySem.Challenge.cw_leastdeeds_k24_least_refused_holds : PySem.Challenge.rw_leastdeeds_k24_least_refused.Holds := by
 w_on;o_law
 show PySem.W.holds_open (r:=K24.yB) (q:=K24.kq) (loose:=K24.pR) (Xt:=fun s=>PySem.W.xlAt K24.kq [] s&&PySem.W.recOk (PySem.W.RowW.records K24.yB.toRowW) s) (XP:=PySem.W.XL K24.kq []) (Yf:=K24.kH.obs) (Ya:=K24.kH.val) (YP:=K24.kH.says) (N:=7146) K24.OK K24.kH.of K24.kH.keeps (fun s e=>PySem.W.xl_of s (Up.mp e).1) PySem.W.XL.keeps `r `r `r (fun s e=>PySem.W.recFacts_of (Up.mp e).2) `r (by first|assumption|decide +kernel) `k ⟨rfl,rfl,rfl,rfl,rfl,`k⟩ ?hw ?hc
 case hw=>w_witness2
 show L2.G9 (l:=PySem.Challenge.rw_leastdeeds_k24_least_refused) (n:=63) (k:=84) (x:="script") (CX:=fun w=>LD.iR PySem.Challenge.rw_leastdeeds_k24_least_refused.prog w) (K:=K24.kh) (sp:=fun w=>LD.FC (K24.kh w.params)) rfl `d rfl ⟨rfl,`d,`d,rfl⟩ (fun w h Y=>PySem.W.kIn_of Y) ?F (fun w H a ns hl hO hS=>⟨a,ns,rfl,hS,hO,hl,fun _=>rfl⟩) (fun _ _ _ _ _ z=>let⟨_,_,_,_,_,_,_,_,_,_,q⟩:=z;q)
 case F=>
  intro w mg fa h KX G hmg;have tk:LD.B2 (K24.kh w.params) K24.tb:=⟨by kernel_rfl,by kernel_rfl,by kernel_rfl,by kernel_rfl⟩
  obtain(m|fd|F):=LD.Hv tk KX G (e:=K24.tb[56]) (Ta _) rfl rfl;have d_NEW_WORDS:=LD.wR (x:="NEW_WORDS") (P:=w.params) (fa:=K24.fa) (fs:=LD.ef) (ad:=238) (es:=#[{hash:=PySem.PyData.keyHash w.params (PySem.Str.ofString "turn"),key:=PySem.Value.str (PySem.Str.ofString "turn") 523,val:=PySem.Value.ref 216},{hash:=PySem.PyData.keyHash w.params (PySem.Str.ofString "join"),key:=PySem.Value.str (PySem.Str.ofString "join") 524,val:=PySem.Value.ref 223},{hash:=PySem.PyData.keyHash w.params (PySem.Str.ofString "move"),key:=PySem.Value.str (PySem.Str.ofString "move") 525,val:=PySem.Value.ref 230},{hash:=PySem.PyData.keyHash w.params (PySem.Str.ofString "put"),key:=PySem.Value.str (PySem.Str.ofString "put") 526,val:=PySem.Value.ref 237}]) (n:=4) KX G (by kernel_rfl) (by kernel_rfl) (by show LD.gp (LD.gp (LD.gp (LD.gp (LD.Bi))))) `k `d (by show .cons ⟨rfl,rfl⟩ (.cons ⟨rfl,rfl⟩ (.cons ⟨rfl,rfl⟩ (.cons ⟨rfl,rfl⟩ (.nil)))))
  have d_SORTS:=LD.wR (x:="SORTS") (P:=w.params) (fa:=K24.fa) (fs:=LD.cV) (ad:=180) (es:=#[{hash:=PySem.PyData.keyHash w.params (PySem.Str.ofString "turn"),key:=PySem.Value.str (PySem.Str.ofString "turn") 427,val:=PySem.Value.ref 158},{hash:=PySem.PyData.keyHash w.params (PySem.Str.ofString "join"),key:=PySem.Value.str (PySem.Str.ofString "join") 428,val:=PySem.Value.ref 165},{hash:=PySem.PyData.keyHash w.params (PySem.Str.ofString "move"),key:=PySem.Value.str (PySem.Str.ofString "move") 429,val:=PySem.Value.ref 172},{hash:=PySem.PyData.keyHash w.params (PySem.Str.ofString "put"),key:=PySem.Value.str (PySem.Str.ofString "put") 430,val:=PySem.Value.ref 179}]) (n:=4) KX G (by kernel_rfl) (by kernel_rfl) (by show LD.gp (LD.gp (LD.gp (LD.gp (LD.Bi))))) `k `d (by show .cons ⟨rfl,rfl⟩ (.cons ⟨rfl,rfl⟩ (.cons ⟨rfl,rfl⟩ (.cons ⟨rfl,rfl⟩ (.nil)))))
  have TO:=fun base=>LD.Hu (base:=base) (P:=PySem.Challenge.rw_leastdeeds_k24_least_refused.prog) (w:=w) (t:=K24.tbl) (fa:=K24.fa) KX G (by kernel_rfl) (LD.JX (by kernel_rfl)) (LD.LR (by kernel_rfl)) (LD.Er (by kernel_rfl)) ⟨rfl,rfl⟩ ⟨d_NEW_WORDS,d_SORTS,trivial⟩ trivial
  have tw:LD.AllP (fun q=>LD.GV K24.fa (K24.kh w.params) mg q.1 q.2.1 q.2.2.1 q.2.2.2) K24.tbl.tw:=trivial
  have xf:LD.AllP (fun f=>LD.GR K24.fa (K24.kh w.params) f) K24.tbl.xf:=trivial
  have ms:∀q∈K24.tbl.ms,LD.qm K24.fa (K24.kh w.params) q.1 q.2.1 q.2.2:=LD.Mb (by kernel_rfl)
  have e:=hmg.symm.trans m;cases e;show⟨fd,fun s v=>by
   obtain(oc|od|kV|doc|pm|an|cdv|ct|osl|rfl|lk|hcd):=F.ex;show .of_eq rfl,fun base _ _=>LD.Mi (n:=39) (f:=234) (LD.CO K24.tab tk KX G (TO base) tw.mem xf.mem ms (by kernel_rfl)) K24.D3 rfl F (LD.p9 (e:=K24.tb[56]) (R4.mp K24.tab.sc K24.tb[56] (Ta _))).1 rfl fun c n a b d s H E C hr=>LD.tO (e:=K24.tb[56]) K24.tab (TO base) tw.mem xf.mem ms (Ta _) c n a b d s H E C hr⟩
