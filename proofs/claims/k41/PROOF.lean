import PyProof.Rows.All
import Wide.All
import OpenK.AllK
import Wide.FinOn
import Lean
import PyProof.EqAt
import PyProof.EqKinds
import PyProof.TupleCall
import PyProof.StrOps
import PyProof.MeetsStr
import PyProof.StrLawsJoin
import PySem.Challenge.RW_leastdeeds_k41_which_steps_mend
set_option Elab.async false
set_option linter.all false
set_option maxRecDepth 100000
set_option tactic.hygienic false
set_option autoImplicit true
set_option relaxedAutoImplicit true
set_option genSizeOfSpec false
set_option genSizeOf false
set_option maxHeartbeats 0
set_option bootstrap.genMatcherCode false
set_option genSizeOf false
noncomputable section
local macro_rules(kind:=«term{_}»)|`({$a:term,*})=>`(⟨$a,*⟩)
local macro_rules(kind:=Lean.Parser.Term.quotedName)|x=>match x[0].isNameLit?.getD .anonymous|>.toString with|"a"=>`(by omega)|"d"=>`(by decide)|"s"=>`(by simp)|"o"=>`(by simp;omega)|"k"=>`(by decide +kernel)|"r"=>`(by rfl)|_=>Lean.Macro.throwUnsupported
local macro_rules|`(tactic|omega)=>`(tactic|first|(simp +arith;done)|lia|omega(config:={}))
abbrev tqa:=@PySem.wpAny_bind
abbrev tqb:=@PySem.wpAny_pure
abbrev tqf:=@PySem.wpAny_field
abbrev tqo:=@PySem.wpAny_holding
abbrev tqp:=@PySem.wpAny_truthy_bool
abbrev Qq:=@List.length_map
abbrev Qr:=@List.getElem?_eq_some_iff
abbrev Qs:=@PySem.W.Frag
abbrev Qt:=@List.length_append
abbrev Qu:=@PySem.Heap.get?_push_of_some
abbrev Qv:=@Nat.le_of_ble_eq_true
abbrev Qw:=@PySem.Value
abbrev Qy:=@Nat.le_refl
abbrev Qz:=@Option.some.inj
abbrev QA:=@PySem.Shared
abbrev QB:=@List.size_toArray
abbrev QC:=@Nat.le_trans
abbrev QD:=@Bool.and_eq_true
abbrev QE:=@List.getElem?_append_left
abbrev QF:=@List.mem_cons_of_mem
abbrev QG:=@List.map_append
abbrev QJ:=@List.getElem?_set_ne
abbrev QK:=@List.mem_map
abbrev QL:=@List.getElem?_eq_getElem
abbrev QM:=@List.mem_cons_self
abbrev QN:=@List.mem_singleton
abbrev QO:=@Nat.lt_of_lt_of_le
abbrev QP:=@Option.map_eq_some_iff
abbrev QR:=@List.getElem?_set_self
abbrev QS:=@List.getElem?_map
abbrev QT:=@List.mem_of_getElem?
abbrev QV:=@List.all_eq_true
abbrev QW:=@PySem.Heap.lt_size
abbrev QX:=@Bool.false_ne_true
abbrev QY:=@PySem.Heap.get?_push_size
abbrev Q1:=@List.length_drop
abbrev Q2:=@List.mem_append
abbrev Q3:=@List.take_of_length_le
abbrev Q4:=@List.getElem?_append_right
abbrev Q5:=@List.mem_of_mem_take
abbrev Q6:=@Nat.ne_of_lt
abbrev Q7:=@List.length_take
abbrev Q8:=@PySem.World
abbrev Q9:=@List.mem_cons
abbrev Rh:=@List.mem_append_right
abbrev Rj:=@PySem.Program
abbrev Rk:=@PyProof.Rows.slot_tuple_getitem
abbrev Rl:=@Nat.add_sub_cancel_left
abbrev Ru:=@Option.bind_eq_some_iff
abbrev Rv:=@List.map_map
abbrev Rw:=@List.length_cons
abbrev Rx:=@List.mem_map_of_mem
abbrev Ry:=@Nat.ne_of_gt
abbrev Rz:=@List.lookup_cons
abbrev RA:=@List.countP_append
abbrev RB:=@PySem.OsState
abbrev RC:=@PySem.W.kia_one
abbrev RD:=@PySem.W.SharedT
abbrev RE:=@List.mem_append_left
abbrev RF:=@List.length_range
abbrev RG:=@Nat.zero_le
abbrev RH:=@List.take_append_drop
abbrev RI:=@List.take_succ
abbrev RJ:=@List.getD_eq_getElem?_getD
abbrev RK:=@List.all_cons
abbrev RL:=@Iff.rfl
abbrev RM:=@Nat.lt_of_le_of_lt
abbrev RN:=@List.mem_of_mem_drop
abbrev RO:=@Nat.lt_irrefl
abbrev RP:=@List.nodup_cons
abbrev RQ:=@List.map_cons
abbrev RR:=@Ne.symm
abbrev RS:=@List.replicate_succ
abbrev RT:=@List.append_assoc
abbrev RU:=@Int.toNat_natCast
abbrev RV:=@List.length_singleton
abbrev RW:=@Nat.min_eq_left
abbrev RX:=@Bool.eq_iff_iff
abbrev RY:=@PySem.Env
abbrev RZ:=@PyProof.Rows.callWith_type1
abbrev R0:=@List.mem_range
abbrev R1:=@List.exists_of_findSome?_eq_some
abbrev R3:=@PySem.Heap.get?_update_other
abbrev R4:=@PySem.Heap.SameBut.update
abbrev R5:=@PySem.W.mg_of
abbrev R6:=@PySem.Around
abbrev R7:=@PySem.Heap.get?_update_self
abbrev R8:=@Function.comp_def
abbrev R9:=@PySem.Heap.SameBut
abbrev Sa:=@PySem.AutoSeq1.wpAny_loadPart'
abbrev Sb:=@List.append_nil
abbrev Sd:=@beq_eq_false_iff_ne
abbrev Se:=@PySem.Heap.size_push
abbrev Sf:=@List.map_congr_left
abbrev Sg:=@PySem.DictEntry
abbrev Sh:=@PySem.Params
abbrev Si:=@Nat.min_eq_right
abbrev Sj:=@Nat.le_add_right
abbrev Sk:=@Int.emod_lt_of_pos
abbrev Sl:=@Array.getElem?_eq_some_iff
abbrev Sm:=@List.length_replicate
abbrev Sn:=@Option.isNone_iff_eq_none
abbrev So:=@List.mem_filter
abbrev Sq:=@Int.emod_nonneg
abbrev Sr:=@Bool.or_eq_true
abbrev Ss:=@PySem.Paired
abbrev Su:=@PySem.Obj.data_mapFields
abbrev Sv:=@List.flatten_cons
abbrev Sw:=@Nat.add_assoc
abbrev Sx:=@List.map_take
abbrev Sy:=@Array.length_toList
abbrev Sz:=@List.length_eq_zero_iff
abbrev SA:=@List.getElem_mem
abbrev SD:=@List.getElem?_replicate
abbrev SF:=@Int.eq_ofNat_of_zero_le
abbrev SG:=@PySem.Comprehension
abbrev SH:=@Nat.le_of_lt
abbrev SI:=@List.drop_eq_nil_of_le
abbrev SJ:=@List.length_nil
abbrev SK:=@List.getElem?_eq_none
abbrev SM:=@Option.isSome_map
abbrev SN:=@Nat.lt_succ_of_lt
abbrev SO:=@List.length_take_le'
abbrev SQ:=@Bool.and_eq_true_iff
abbrev SR:=@Nat.le_total
abbrev SU:=@PySem.mem_of_lookup
abbrev SV:=@List.getElem?_range
abbrev SY:=@List.filterMap_cons
abbrev S0:=@List.map_drop
abbrev S1:=@Nat.not_lt_zero
abbrev S2:=@Nat.le_succ
namespace HD
open PySem PySem.W
noncomputable def hI (tb:String->Option Builtin)(p:Rj)(w:Q8)(n0:Nat)(ann:Option Qw):Nat->RD->Thread->Option RD
 |0,_,_=>none
 | n+1,s,t=>match through t with
   |true=>some s
   | false=>match stepOk n0 ann t with
     |false=>none
     | true=>match stepT (denote tb) p w s t with
       |some (s',t')=>hI tb p w n0 ann n s' t'
       |none=>none
theorem rB {tb:String->Option Builtin}{p:Rj}{w:Q8}{n0:Nat}{ann:Option Qw}:∀{n:Nat}{s s':RD}{t:Thread},hI tb p w n0 ann n s t=some s'->topRun tb p w n0 ann n s.abs t=some s'.abs
 |0,_,_,_,h=>by cases h
 | n+1,s,s',t,h=>by
   unfold hI at h;unfold topRun;cases he:through t with
   |true=>rw[he] at h;cases h;rfl
   | false=>
     rw[he] at h;cases hk:stepOk n0 ann t with
     |false=>rw[hk] at h;cases h
     | true=>
       rw[hk] at h;cases hs:stepT (denote tb) p w s t with
       |none=>rw[hs] at h;cases h
       |some r=>obtain⟨s2,t2⟩:=r;rw[hs] at h;rw[stepT_spec hs];exact rB h
noncomputable def treeOf:List Obj->Nat->BT->BT
 |[],_,t=>t
 |o::r,n,t=>treeOf r (n+1) (t.ins n o)
def yr (P:Sh)(os:RB):RD:={treeOf (boot_heap P).objs.toList 0 .nil,(boot_heap P).objs.toList.length,(boot_heap P).life,#[],boot_drawn,boot_toks,os}
def boot_abs (P:Sh)(os:RB):(yr P os).abs={boot_heap P,#[],boot_drawn,boot_toks,os}:=by kernel_rfl
noncomputable def lC (p q:Rj)(loose:List Str)(Xt:QA->Bool)(g0:Bool)(h0:Heap){α:Type}(Yf:QA->α)(s:QA):=
 ((staticsOk (importedModules p.main.body) h0 s.heap&&namesBound p s.heap&&gensDone s&&laidKept h0 s.heap),openSeen q loose (importedModules p.main.body) Xt g0 s,Yf s)
noncomputable def wH (tb:String->Option Builtin)(p:Rj)(w:Q8)(n0:Nat)(ann:Option Qw):Nat->RD->Thread->Option (RD×Thread)
 |0,s,t=>some (s,t)
 | n+1,s,t=>match through t with
   |true=>none
   | false=>match stepOk n0 ann t with
     |false=>none
     | true=>match stepT (denote tb) p w s t with
       |some (s',t')=>wH tb p w n0 ann n s' t'
       |none=>none
noncomputable def kW (tb:String->Option Builtin)(p:Rj)(w:Q8)(n0:Nat)(ann:Option Qw):Nat->RD->Thread->Option (Flow×RD×Code×Pos)
 |0,_,_=>none
 | n+1,s,t=>match endAt 1 t with
   |some f=>some (f,s,t.code,t.pos)
   | none=>match stepOk n0 ann t with
     |false=>none
     | true=>match stepT (denote tb) p w s t with
       |some (s',t')=>kW tb p w n0 ann n s' t'
       |none=>none
section
variable{tb:String->Option Builtin}{p:Rj}{w:Q8}{n0:Nat}{ann:Option Qw}
theorem AI:∀{n:Nat}{s s':RD}{t t':Thread},wH tb p w n0 ann n s t=some (s',t')->topGo tb p w n0 ann n s.abs t=some (s'.abs,t')
 |0,s,s',t,t',h=>by cases h;rfl
 | n+1,s,s',t,t',h=>by
   unfold wH at h;unfold topGo;cases he:through t with
   |true=>rw[he] at h;cases h
   | false=>
     rw[he] at h;cases hk:stepOk n0 ann t with
     |false=>rw[hk] at h;cases h
     | true=>
       rw[hk] at h;cases hs:stepT (denote tb) p w s t with
       |none=>rw[hs] at h;cases h
       |some q=>obtain⟨s2,t2⟩:=q;rw[hs] at h;rw[stepT_spec hs];exact AI h
theorem qw:∀{n:Nat}{s s':RD}{t:Thread}{f:Flow}{c:Code}{q:Pos},kW tb p w n0 ann n s t=some (f,s',c,q)->segRun tb p w n0 ann 1 n s.abs t=some (f,s'.abs,c,q)
 |0,_,_,_,_,_,_,h=>by cases h
 | n+1,s,s',t,f,c,q,h=>by
   unfold kW at h;unfold segRun;cases he:endAt 1 t with
   |some g=>rw[he] at h;cases h;rfl
   | none=>
     rw[he] at h;cases hk:stepOk n0 ann t with
     |false=>rw[hk] at h;cases h
     | true=>
       rw[hk] at h;cases hs:stepT (denote tb) p w s t with
       |none=>rw[hs] at h;cases h
       |some x=>obtain⟨s2,t2⟩:=x;rw[hs] at h;rw[stepT_spec hs];exact qw h
def u1 {n3 N:Nat}{s s2:RD}{env:Env}{c:Code}{p' p2 q:Pos}{b:List Stmt}{J:Nat}{α:Type}{f:QA->α}{a:α}
 (h3:kW tb p w n0 ann n3 s (piecesOf (b.take J) env c p' [topFrame q])=some (.next,s2,c,p2))
 (h4:(topRun tb p w n0 ann N s2.abs (restOf (b.drop J) env c p2 [topFrame q])).map f=some a):(topRun tb p w n0 ann (n3+N) s.abs (restOf b env c p' [topFrame q])).map f=some a:=by
 obtain⟨r,e3,e4⟩:=QP.mp h4;have k4:=piece_app (qw h3) e3;rw[RH] at k4;rw[k4];exact congrArg some e4
def AS {N:Nat}{s2:RD}{t:Thread}{p' q:Rj}{loose:List Str}{Xt:QA->Bool}{g0:Bool}{h0:Heap}{α:Type}{Yf:QA->α}{a b c}
 (h1:(hI tb p w n0 ann N s2 t).map (λs=>(lC p' q loose Xt g0 h0 Yf s.abs).1)=some a) (h2:(hI tb p w n0 ann N s2 t).map (λs=>(lC p' q loose Xt g0 h0 Yf s.abs).2.1)=some b)
 (h3:(hI tb p w n0 ann N s2 t).map (λs=>(lC p' q loose Xt g0 h0 Yf s.abs).2.2)=some c):(topRun tb p w n0 ann N s2.abs t).map (lC p' q loose Xt g0 h0 Yf)=some (a,b,c):=by
 obtain⟨r,e3,rfl⟩:=QP.mp h1;rw[e3] at h2 h3;cases h2;cases h3;rw[rB e3];rfl
def AU {n1 n2 N:Nat}{s s':RD}{env:Env}{c:Code}{pos p' q:Pos}{t:Thread}{b:List Stmt}{J:Nat}{α:Type}{f:QA->α}{a:α}
 (h1:(wH tb p w n0 ann n1 s t).map (·.2)=some {denote tb (.body b env),c,pos,[topFrame q]}) (h0:endAt 1 (blockOf b env c pos [topFrame q])=some .next)
 (h2:((wH tb p w n0 ann n1 s t).bind λx=>kW tb p w n0 ann n2 x.1 (piecesOf (b.take J) env c pos [topFrame q]))=some (.next,s',c,p'))
 (h3:(topRun tb p w n0 ann N s'.abs (restOf (b.drop J) env c p' [topFrame q])).map f=some a):(topRun tb p w n0 ann (n1+(1+(n2+N))) s.abs t).map f=some a:=by
 obtain⟨⟨s1,t1⟩,e1,e2⟩:=QP.mp h1;have e2:t1={denote tb (.body b env),c,pos,[topFrame q]}:=e2;subst e2;rw[e1] at h2;have h2:kW tb p w n0 ann n2 s1 (piecesOf (b.take J) env c pos [topFrame q])=some (.next,s',c,p'):=h2
 obtain⟨r,e3,e4⟩:=QP.mp h3;have k3:=piece_app (qw h2) e3;rw[RH] at k3;have hb:segRun tb p w n0 ann 1 1 s1.abs (blockOf b env c pos [topFrame q])=some (.next,s1.abs,c,pos):=by
  show(match endAt 1 (blockOf b env c pos [topFrame q]) with|some f=>some (f,s1.abs,c,pos)|none=>_)=_
  rw[h0]
 have k2:=piece_block hb k3;rw[go_top (AI e1) k2];exact congrArg some e4
end
def vJ {p q:Rj}{loose:List Str}{Xt:QA->Bool}{α:Type}{Yf:QA->α}{Ya:Q8->α}{N:Nat}{g0:Bool}{m0:Nat}{ann:Option Qw}
 (open_:∀w:Q8,(fencedOpening treeTable p w N).map (λs=>(s.heap,s.gens,s.drawn,s.toks))=some (boot_heap w.params,Array.mk [],boot_drawn,boot_toks))
 (size:∀w:Q8,((boot_heap w.params).isNs mainGlobals&&(Array.mk ([]:List GenState)).size==0,(boot_heap w.params).objs.size,(boot_heap w.params).nsMap mainGlobals "__annotations__")=(true,m0,ann))
 (run:∀(w:Q8) (os:RB),(topRun treeTable p w m0 ann N (yr w.params os).abs (topStub p)).map (lC p q loose Xt g0 (boot_heap w.params) Yf)=some (true,openGood q loose,Ya w)):LeftO p q loose Xt Yf Ya N g0:=λw=>by
 obtain⟨⟨h,gs,d,k,os⟩,e,e'⟩:=QP.mp (open_ w);obtain⟨rfl,rfl,rfl,rfl⟩:h=boot_heap w.params/\gs=Array.mk []/\d=boot_drawn/\k=boot_toks:=by simpa using e'
 obtain⟨z1,z2,z3⟩:_/\_/\_:=by simpa only[Prod.mk.injEq] using size w
 obtain⟨s1,r,l⟩:=QP.mp (run w os);obtain⟨l1,l2,l3⟩:_/\_/\_:=by simpa only[lC,Prod.mk.injEq] using l
 rw[boot_abs] at r;have t:topFrom treeTable p w N {boot_heap w.params,Array.mk [],boot_drawn,boot_toks,os}=some s1:=by
  unfold topFrom;dsimp only;rw[z1,z2,z3,r];show(match staticsOk (importedModules p.main.body) (boot_heap w.params) s1.heap&&namesBound p s1.heap&&gensDone s1&&laidKept (boot_heap w.params) s1.heap with|true=>_|false=>_)=_
  rw[l1]
 unfold openEnds;rw[e];show(topFrom treeTable p w N _).map _=_;rw[t];exact congrArg some (Prod.ext l2 l3)
end HD
namespace K41
open PySem
abbrev eN (P:Sh)(x:Str)(n:Nat)(v:Qw):Sg:={PyData.keyHash P x,.str x n,v}
noncomputable def qM (j:Nat)(s:Stmt):Stmt:=match s with
 |.ClassDef _ _ _ b _ _ _ _ _ _ _=>b.getD j s
 |_=>s
noncomputable def fg (i:Nat):Stmt:=PySem.Challenge.pw_leastdeeds_k41_which_steps_mend.main.body.getD i (.Pass {0,0,0,0})
noncomputable def nP (s:Stmt):Arguments:=match s with
 |.FunctionDef _ a _ _ _ _ _ _ _ _=>a
 |_=>{[],[],none,[],[],none,[]}
noncomputable def nO (s:Stmt):List Stmt:=match s with
 |.FunctionDef _ _ b _ _ _ _ _ _ _=>b
 |_=>[]
noncomputable def kz (s:Stmt):Scope:=match s with
 |.FunctionDef _ _ _ _ _ _ sc _ _ _=>sc
 |_=>{kind:=.function,names:=[],isGenerator:=false,isCoroutine:=false}
noncomputable def o1:Obj:={cls:=.type "tuple" ,data:=.seq #[]}
noncomputable def o2 (a:String)(b:Nat)(c:Int)(d:Nat)(e:Int):Obj:={cls:=.type "code" ,data:=.fields #[.str (Str.ofString a) b,.str (Str.ofString a) (b+1),.str ("/claim/cut.py") (b+2),.int c 0,.int 0 0,.int 0 0,.int 0 0,.int 0 0,.ref d,.bool false,.int 181 0,.ref (d+1),.none,.none,.none,.none,.int e 0,.int c 0,.str ("/claim/cut.py") (b+4)]}
noncomputable def o3 (a:Nat)(b:Nat)(c:String)(d:Nat):Obj:={cls:=.type "frame" ,slots:=#[some (.ref a),some (.ref 3),some (.ref b),none,some (.str (Str.ofString c) d),none,some (.ref 0)]}
def o4:Obj:={cls:=.type "builtin_function_or_method" ,data:=.fields #[.builtin "type.__prepare__" ,.type "type"]}
def o5 (P:Sh)(a:Nat)(b:String)(c:Int)(d:Nat):Obj:={cls:=.type "dict" ,data:=.dict #[eN P "__module__" a (.str ("leastdeeds.errors") 187),eN P "__qualname__" (a+2) (.str (Str.ofString b) (a+1)),eN P "__firstlineno__" (a+4) (.int c (a+3)),eN P "__static_attributes__" (a+5) (.ref d)] 4}
def o6:Obj:={cls:=.none,data:=.fields #[]}
def o7 (P:Sh)(a:Nat)(b:Int)(c:String)(d:Nat)(e:Nat)(f:String)(g:Nat)(h:Nat):Obj:={cls:=.type "dict" ,data:=.dict #[eN P "__module__" a (.str ("leastdeeds.errors") 187),eN P "__firstlineno__" (a+4) (.int b (a+3)),{hash:=PyData.keyHash P (Str.ofString c),key:=.str (Str.ofString c) d,val:=.ref e},{hash:=PyData.keyHash P (Str.ofString f),key:=.str (Str.ofString f) (d+2),val:=.ref g},eN P "__doc__" (d+3) (.none)] h}
def o8:Obj:={cls:=.type "type" ,data:=.cls {name:="DeedError" ,bases:=[.type "ValueError"],mro:=[.ref 24,.type "ValueError" ,.type "Exception" ,.type "BaseException" ,.type "object"],ns:=23,qualname:="DeedError" ,subclasses:=[.ref 44,.ref 56,.ref 68,.ref 80,.ref 92]},slots:=#[some (.ref 15),none,some (.str ("DeedError") 189),some (.str ("DeedError") 197),some (.builtin "ValueError.__new__"),some (.bool true)]}
def o9 (a:Nat):Obj:={cls:=.type "super" ,data:=.fields #[.ref a,.ref a,.ref a]}
def wh (a:Nat):Obj:={cls:=.type "builtin_function_or_method" ,data:=.fields #[.builtin "object.__init_subclass__" ,.ref a]}
def Af:Obj:={cls:=.type "tuple" ,data:=.seq #[.ref 24]}
def N9 (a:String)(b:Nat)(c:String)(d:Int)(e:Nat)(f:Int)(g:Nat):Obj:={cls:=.type "code" ,data:=.fields #[.str (Str.ofString a) b,.str (Str.ofString c) (b+1),.str ("/claim/cut.py") (b+2),.int d 0,.int 2 0,.int 0 0,.int 0 0,.int 3 0,.ref e,.bool true,.int 181 0,.ref (e+1),.none,.ref (e+2),.ref (e+3),.ref (e+4),.int f 0,.int d 0,.str ("/claim/cut.py") g]}
def Ae (a:String)(b:Nat)(c:Nat)(d:Nat)(e:Nat):Obj:={cls:=.type "type" ,data:=.cls {name:=Str.ofString a,bases:=[.ref 24],mro:=[.ref b,.ref 24,.type "ValueError" ,.type "Exception" ,.type "BaseException" ,.type "object"],ns:=c,qualname:=Str.ofString a},slots:=#[some (.ref d),none,some (.str (Str.ofString a) e),some (.str (Str.ofString a) (e+8)),some (.builtin "ValueError.__new__"),some (.bool true)]}
def Ed (P:Sh)(a:Nat)(b:Int)(c:Nat):Obj:={cls:=.type "dict" ,data:=.dict #[eN P "__module__" a (.str ("leastdeeds.errors") 187),eN P "__firstlineno__" (a+4) (.int b (a+3)),eN P "__static_attributes__" (a+5) (.ref c),eN P "__doc__" (a+6) (.none)] 2}
def N8 (P:Sh)(a:Nat)(b:Nat):Obj:={cls:=.type "dict" ,data:=.dict #[eN P "turn" a (.ref b),eN P "join" (a+1) (.ref (b+7)),eN P "move" (a+2) (.ref (b+14)),eN P "put" (a+3) (.ref (b+21))] 4}
def o16:Obj:={cls:=.type "tuple" ,data:=.seq #[.none]}
def o17:Obj:={cls:=.type "function" ,data:=.func {name:="reached" ,qualname:="reached" ,params:=nP (fg 49),body:=PySem.FuncBody.stmts (nO (fg 49)),scope:=kz (fg 49),globals:=3,closure:=[],defaults:=.ref 284,kwdefaults:=.none,pyModule:=.str ("leastdeeds.least") 571,code:=.ref 290}}
def kA (i:Nat):Str×Nat×Nat×List Str×Bool:=match fg i with
 |.FunctionDef x a _ _ _ _ sc _ _ p=>(x,p.line,a.args.length,sc.names.filterMap (λq=>match q.2 with|.local=>some q.1|_=>none),sc.names.any (λq=>match q.2 with|.cell=>true|_=>false)||i==66)
 |_=>("",0,0,[],false)
def kN (i:Nat):Nat:=bif (kA i).2.2.2.2 then 0 else(kA i).2.2.2.1.length
def AA (i:Nat):Nat:=bif (kA i).2.2.2.2 then 5 else 7
noncomputable def pQ:Nat->Nat->Nat->Nat->List (Nat×Nat×Nat)
 |0,_,_,_=>[]
 |n+1,i,e,t=>(i,e,t)::pQ n (i+1) (e+AA i) (t+kN i+6)
def rP:Nat×Nat×Nat->List Qw:=λ(i,e,_)=>[.int (kA i).2.1 0,.int 0 0,.ref (e+AA i-2)]
def rQ (P:Sh):Nat×Nat×Nat->Sg:=λ(i,e,t)=>{PyData.keyHash P (kA i).1,.str (kA i).1 (t+kN i+5),.ref (e+AA i-1)}
def EL (c:Qw)(i g:Nat)(m d:Qw):Obj:={cls:=c,data:=.func {name:=(kA i).1,qualname:=(kA i).1,params:=nP (fg i),body:=.stmts (nO (fg i)),scope:=kz (fg i),globals:=g,closure:=[],defaults:=.none,kwdefaults:=.none,pyModule:=m,code:=d}}
def kO (m:Str)(k:Nat):Nat×Nat×Nat->List Obj:=λ(i,e,t)=>
 let x:=(kA i).1
 let l:Qw:=.int (kA i).2.1 0
 let q:=t+kN i
 let c:=λ(a:Qw) (b:Qw) (d:Nat)=>({cls:=.type "code",data:=.fields #[.str x t,.str x (t+1),.str "/claim/cut.py" (t+2),l,.int (kA i).2.2.1 0,.int 0 0,.int 0 0,.int 3 0,.ref e,.bool true,.int 181 0,.ref (e+1),.none,a,b,.ref (e+d),.int (q+3:Nat) 0,l,.str "/claim/cut.py" (q+4)]}:Obj)
 [o1,{cls:=.none,data:=.fields #[]}]++bif (kA i).2.2.2.2 then [EL .none i 0 .none .none,c .none .none 2,EL (.type "function") i 3 (.str m k) (.ref (e+3))] else [{cls:=.type "tuple",data:=.seq (((kA i).2.2.2.1.zipIdx (t+3)).map λp=>.str p.1 p.2).toArray},o1,EL .none i 0 .none .none,c (.ref (e+2)) (.ref (e+3)) 4,EL (.type "function") i 3 (.str m k) (.ref (e+5))]
def rR:Nat×Nat×Nat->List Addr:=λ(i,e,_)=>[e+AA i-2,e+AA i-1]
def Eu:=pQ 1 8 95 298
def Et:=pQ 10 16 102 321
def Es:=pQ 8 27 169 422
def Er:=pQ 4 36 219 486
def Ep:=pQ 3 41 248 544
def Eo:=pQ 3 46 267 575
def Em:=pQ 7 53 292 622
def El:=pQ 23 61 339 715
def Of:List Qw:=[.int 2 0,.int 0 0,.ref 20,.int 4 0,.int 0 0,.ref 33,.int 9 0,.int 0 0,.ref 52,.int 11 0,.int 0 0,.ref 64,.int 13 0,.int 0 0,.ref 76,.int 15 0,.int 0 0,.ref 88]++Eu.flatMap rP
def Oe:List Qw:=Of++Et.flatMap rP++Es.flatMap rP++Er.flatMap rP++Ep.flatMap rP
def kt2:List Qw:=Oe++Eo.flatMap rP++[.int 151 0,.int 0 0,.ref 290]++Em.flatMap rP++El.flatMap rP
def Oi (P:Sh):List Sg:=[eN P "__doc__" 166 (.none),eN P "__package__" 167 (.none),eN P "__loader__" 168 (.builtin "__main__.__loader__#opaque"),eN P "__spec__" 169 (.none),eN P "__annotations__" 170 (.ref 6),eN P "__builtins__" 171 (.ref 4),eN P "__file__" 173 (.str "/claim/cut.py" 172),eN P "__cached__" 174 (.none),eN P "DeedError" 206 (.ref 24),eN P "NoRow" 231 (.ref 44),eN P "NoMachine" 247 (.ref 56),eN P "TooLong" 263 (.ref 68),eN P "NoBound" 279 (.ref 80),eN P "TooMany" 295 (.ref 92)]++Eu.map (rQ P)
def Oh (P:Sh):List Sg:=Oi P++[eN P "LEAST_WORDS" 310 (.int 2 309),eN P "MOST_WORDS" 312 (.int 4 311),eN P "MOST_PLACES" 314 (.int 2 313),eN P "MOST_DEEDS" 316 (.int 6 315),eN P "MOST_COST" 318 (.int 3 317),eN P "LONGEST_ROW" 320 (.int 40 319)]++Et.map (rQ P)++[eN P "SORTS" 421 (.ref 168)]++Es.map (rQ P)++Er.map (rQ P)++[eN P "NEW_WORDS" 543 (.ref 247)]++Ep.map (rQ P)++[eN P "MOST_BEHAVIOURS" 574 (.int 255 573)]
def Og (P:Sh):List Sg:=Oh P++Eo.map (rQ P)++[eN P "reached" 615 (.ref 291),eN P "LONGEST_MENDED" 619 (.int 12 618),eN P "WIDEST_WINDOW" 621 (.int 6 620)]++Em.map (rQ P)++El.map (rQ P)
def kg3 (P:Sh):List Sg:=Og P++[eN P "law" 930 (.ref 486)]
noncomputable def Oo (P:Sh):List Obj:=[o1,{cls:=.none,data:=.fields Of.toArray},o2 "<module>" 182 1 11 185,o3 13 3 "__main__" 164,{cls:=.type "tuple",data:=.seq #[.type "ValueError"]},o4,o5 P 196 "DeedError" 2 22,o1,o6,o2 "DeedError" 191 2 18 194,o3 20 17 "leastdeeds.errors" 187,o1,o7 P 196 2 "__static_attributes__" 201 22 "__weakref__" 25 3,o8,{cls:=.type "getset_descriptor",data:=.fields #[.str "__weakref__" 202,.ref 24,.builtin "ExceptionGroup.__weakref__",.none]},o9 24,wh 24,Af,o4,{cls:=.type "dict",data:=.dict #[eN P "__module__" 214 (.str "leastdeeds.errors" 187),eN P "__qualname__" 216 (.str "NoRow" 215),eN P "__firstlineno__" 218 (.int 4 217),eN P "__init__" 226 (.ref 41),eN P "__static_attributes__" 228 (.ref 42)] 5},o1,{cls:=.none,data:=.fields #[.int 6 0,.int 4 0,.ref 40]},o2 "NoRow" 209 4 31 212,o3 33 30 "leastdeeds.errors" 187,o1,o6,{cls:=.type "tuple",data:=.seq #[.str "self" 222,.str "place" 223]},o1,{cls:=.none,data:=.func {name:="__init__",qualname:="NoRow.__init__",params:=nP (qM 0 (fg 2)),body:=PySem.FuncBody.stmts (nO (qM 0 (fg 2))),scope:=kz (qM 0 (fg 2)),globals:=0,closure:=[],defaults:=.none,kwdefaults:=.none,pyModule:=.none,code:=.none}},N9 "__init__" 219 "NoRow.__init__" 6 35 224 225,{cls:=.type "function",data:=.func {name:="__init__",qualname:="NoRow.__init__",params:=nP (qM 0 (fg 2)),body:=PySem.FuncBody.stmts (nO (qM 0 (fg 2))),scope:=kz (qM 0 (fg 2)),globals:=3,closure:=[],defaults:=.none,kwdefaults:=.none,pyModule:=.str "leastdeeds.errors" 187,code:=.ref 40}},{cls:=.type "tuple",data:=.seq #[.str "place" 227]},o7 P 214 4 "__init__" 226 41 "__static_attributes__" 42 2,Ae "NoRow" 44 43 28 207,o9 44,wh 44,Af,o4,o5 P 239 "NoMachine" 9 54,o1,o6,o2 "NoMachine" 234 9 50 237,o3 52 49 "leastdeeds.errors" 187,o1,Ed P 239 9 54,Ae "NoMachine" 56 55 47 232,o9 56,wh 56,Af,o4,o5 P 255 "TooLong" 11 66,o1,o6,o2 "TooLong" 250 11 62 253,o3 64 61 "leastdeeds.errors" 187,o1,Ed P 255 11 66,Ae "TooLong" 68 67 59 248,o9 68,wh 68,Af,o4,o5 P 271 "NoBound" 13 78,o1,o6,o2 "NoBound" 266 13 74 269,o3 76 73 "leastdeeds.errors" 187,o1,Ed P 271 13 78,Ae "NoBound" 80 79 71 264,o9 80,wh 80,Af,o4,o5 P 287 "TooMany" 15 90,o1,o6,o2 "TooMany" 282 15 86 285,o3 88 85 "leastdeeds.errors" 187,o1,Ed P 287 15 90,Ae "TooMany" 92 91 83 280,o9 92,wh 92]++Eu.flatMap (kO "leastdeeds.wholes" 296)
def Om (P:Sh):List Obj:=((Oo P).set 1 ({cls:=.none,data:=.fields Oe.toArray}))++Et.flatMap (kO "leastdeeds.machines" 307)++[N8 P 413 146]++Es.flatMap (kO "leastdeeds.machines" 307)++Er.flatMap (kO "leastdeeds.runs" 484)++[N8 P 535 225]++Ep.flatMap (kO "leastdeeds.runs" 484)
def Ol (P:Sh):List Obj:=((Om P).set 1 ({cls:=.none,data:=.fields kt2.toArray}))++Eo.flatMap (kO "leastdeeds.least" 571)++[o16,o1,o6,{cls:=.type "tuple",data:=.seq #[.str "machine" 607,.str "bound" 608,.str "leads" 609,.str "empty_ends" 610,.str "found" 611,.str "levels" 612]},o1,{cls:=.none,data:=.func {name:="reached",qualname:="reached",params:=nP (fg 49),body:=PySem.FuncBody.stmts (nO (fg 49)),scope:=kz (fg 49),globals:=0,closure:=[],defaults:=.none,kwdefaults:=.none,pyModule:=.none,code:=.none}},N9 "reached" 604 "reached" 151 285 613 614,o17]++Em.flatMap (kO "leastdeeds.mending" 616)++El.flatMap (kO "law_leastdeeds_k41_which_steps_mend" 713)
def Oj:List Addr:=[23,24,43,44,55,56,67,68,79,80,91,92,168,247,284,290,291]++Eu.flatMap rR++Et.flatMap rR++Es.flatMap rR++Er.flatMap rR++Ep.flatMap rR++Eo.flatMap rR++Em.flatMap rR++El.flatMap rR
def kh:Sh->Qs:=λP=>[(3,{cls:=.type "dict",data:=.dict (eN P "__name__" 165 (.str "law_leastdeeds_k41_which_steps_mend" 713)::kg3 P).toArray 87}),
 (485,{cls:=.type "code",data:=.fields #[.str "law" 925,.str "law" 926,.str "/claim/cut.py" 927,.int 417 0,.int 1 0,.int 0 0,.int 0 0,.int 3 0,.ref 482,.bool true,.int 181 0,.ref 483,.none,.none,.none,.ref 484,.int 928 0,.int 417 0,.str "/claim/cut.py" 929]}),
 (486,{cls:=.type "function",data:=.func {name:="law",qualname:="law",params:=nP (fg 84),body:=PySem.FuncBody.stmts (nO (fg 84)),scope:=kz (fg 84),globals:=3,closure:=[],defaults:=.none,kwdefaults:=.none,pyModule:=.str "law_leastdeeds_k41_which_steps_mend" 713,code:=.ref 485}})]++List.map (λa=>(a,(Ol P).getD (a-11) o1)) Oj
def Kn:List Addr:=[3,485,486]++Oj
def Pa:∀P,Kn=(kh P).map (·.1):=λ_=>by kernel_rfl
noncomputable def kq:Rj:=PySem.W.view PySem.Challenge.pw_leastdeeds_k41_which_steps_mend [1,2,3,4,5,6,8,10,11,12,13,14,15,16,17,18,19,20,21,22,23,24,25,26,27,28,29,30,31,32,33,34,36,37,38,39,40,41,42,43,45,46,47,48,51,52,53,54,55,56,57,58,59,61,62,63,64,65,66,67,68,69,70,71,72,73,74,75,76,77,78,79,80,81,82,83,84]
abbrev kH:PySem.W.Hook:=PySem.W.kHook kh Kn Pa
def pP:List Str:=["SORTS","NEW_WORDS","reached"]
abbrev xV:=PySem.Challenge.rw_leastdeeds_k41_which_steps_mend.row
abbrev kX:QA->Bool:=λs=>PySem.W.xlAt kq [] s&&PySem.W.recOk (PySem.W.RowW.records xV.toRowW) s
def EH (P:Sh)(os:RB):RD:={HD.treeOf ((((PySem.W.boot_heap P).objs.toList.set 3 ({cls:=.type "dict",data:=.dict (eN P "__name__" 165 (.str "leastdeeds.wholes" 296)::Oi P).toArray 16})))++Oo P) 0 .nil,102,{},#[],{},307,os}
def EG (P:Sh)(os:RB):RD:={HD.treeOf ((((PySem.W.boot_heap P).objs.toList.set 3 ({cls:=.type "dict",data:=.dict (eN P "__name__" 165 (.str "leastdeeds.least" 571)::Oh P).toArray 50})))++Om P) 0 .nil,267,{},#[],{},575,os}
def EF (P:Sh)(os:RB):RD:={HD.treeOf ((((PySem.W.boot_heap P).objs.toList.set 3 ({cls:=.type "dict",data:=.dict (eN P "__name__" 165 (.str "law_leastdeeds_k41_which_steps_mend" 713)::Og P).toArray 86})))++Ol P) 0 .nil,482,{},#[],{},925,os}
def kE:Env:={scope:=PySem.Challenge.pw_leastdeeds_k41_which_steps_mend.main.scope,locals:=mainNs,globals:=mainNs,cells:=[],code:=.ref 13,frame:=some 14}
def kP (w:Q8)(os:RB):=HD.wH treeTable PySem.Challenge.pw_leastdeeds_k41_which_steps_mend w 11 (some (.ref 6)) 12 (HD.yr w.params os) (PySem.W.topStub PySem.Challenge.pw_leastdeeds_k41_which_steps_mend)
def EB (w:Q8)(os:RB):=(kP w os).bind λx=>HD.kW treeTable PySem.Challenge.pw_leastdeeds_k41_which_steps_mend w 11 (some (.ref 6)) 1333 x.1 (PySem.W.piecesOf ((PySem.W.behindTheImports PySem.Challenge.pw_leastdeeds_k41_which_steps_mend).take 9) kE (.body (PySem.W.behindTheImports PySem.Challenge.pw_leastdeeds_k41_which_steps_mend) kE) {0,0,0,0} [PySem.W.topFrame {0,0,0,0}])
def Ey (w:Q8)(os:RB):Option (Flow×RD×Code×Pos):=some (.next,EH w.params os,(.body (PySem.W.behindTheImports PySem.Challenge.pw_leastdeeds_k41_which_steps_mend) kE),{18,0,21,31})
def EA (w:Q8)(os:RB):=HD.kW treeTable PySem.Challenge.pw_leastdeeds_k41_which_steps_mend w 11 (some (.ref 6)) 1007 (EH w.params os) (PySem.W.piecesOf (((PySem.W.behindTheImports PySem.Challenge.pw_leastdeeds_k41_which_steps_mend).drop 9).take 37) kE (.body (PySem.W.behindTheImports PySem.Challenge.pw_leastdeeds_k41_which_steps_mend) kE) {18,0,21,31} [PySem.W.topFrame {0,0,0,0}])
def Ex (w:Q8)(os:RB):Option (Flow×RD×Code×Pos):=some (.next,EG w.params os,(.body (PySem.W.behindTheImports PySem.Challenge.pw_leastdeeds_k41_which_steps_mend) kE),{132,0,132,15})
def Ez (w:Q8)(os:RB):=HD.kW treeTable PySem.Challenge.pw_leastdeeds_k41_which_steps_mend w 11 (some (.ref 6)) 1104 (EG w.params os) (PySem.W.piecesOf ((((PySem.W.behindTheImports PySem.Challenge.pw_leastdeeds_k41_which_steps_mend).drop 9).drop 37).take 38) kE (.body (PySem.W.behindTheImports PySem.Challenge.pw_leastdeeds_k41_which_steps_mend) kE) {132,0,132,15} [PySem.W.topFrame {0,0,0,0}])
def Ew (w:Q8)(os:RB):Option (Flow×RD×Code×Pos):=some (.next,EF w.params os,(.body (PySem.W.behindTheImports PySem.Challenge.pw_leastdeeds_k41_which_steps_mend) kE),{396,0,416,59})
def kR (w:Q8)(os:RB):=HD.hI treeTable PySem.Challenge.pw_leastdeeds_k41_which_steps_mend w 11 (some (.ref 6)) 3603 (EF w.params os) (PySem.W.restOf ((((PySem.W.behindTheImports PySem.Challenge.pw_leastdeeds_k41_which_steps_mend).drop 9).drop 37).drop 38) kE (.body (PySem.W.behindTheImports PySem.Challenge.pw_leastdeeds_k41_which_steps_mend) kE) {396,0,416,59} [PySem.W.topFrame {0,0,0,0}])
abbrev Ki (P:Sh)(s:RD):=HD.lC PySem.Challenge.pw_leastdeeds_k41_which_steps_mend kq pP kX true (PySem.W.boot_heap P) (λs=>Kn.map s.heap.get?) s.abs
def EE (w:Q8)(os:RB):=(kR w os).map λs=>(Ki w.params s).1
def ED (w:Q8)(os:RB):=(kR w os).map λs=>(Ki w.params s).2.1
def EC (w:Q8)(os:RB):=(kR w os).map λs=>(Ki w.params s).2.2
def EK (w:Q8):=some true
def EJ (w:Q8):=some (PySem.W.openGood kq pP)
def EI (w:Q8):=some ((kh w.params).map λp=>some p.2)
def _root_.PySem.W.Fast.tw15098051263882265248:Rj:=PySem.Challenge.pw_leastdeeds_k41_which_steps_mend
def _root_.PySem.W.Fast.te15098051263882265248:PySem.Challenge.pw_leastdeeds_k41_which_steps_mend=PySem.W.Fast.tw15098051263882265248:=rfl
def _root_.PySem.W.Fast.tw6207018437309134146:Sh->Qs:=K41.kh
def _root_.PySem.W.Fast.te6207018437309134146:K41.kh=PySem.W.Fast.tw6207018437309134146:=rfl
def _root_.PySem.W.Fast.tw16516374954489929885:Sh->RB->RD:=K41.EH
def _root_.PySem.W.Fast.te16516374954489929885:K41.EH=PySem.W.Fast.tw16516374954489929885:=rfl
def _root_.PySem.W.Fast.tw16753374806987012719:Sh->RB->RD:=K41.EG
def _root_.PySem.W.Fast.te16753374806987012719:K41.EG=PySem.W.Fast.tw16753374806987012719:=rfl
def _root_.PySem.W.Fast.tw6028244667081571426:Sh->RB->RD:=K41.EF
def _root_.PySem.W.Fast.te6028244667081571426:K41.EF=PySem.W.Fast.tw6028244667081571426:=rfl
noncomputable def Pm:EE=EE:=rfl
name_quick kq1_41 for EE by Pm
noncomputable def Pk:ED=ED:=rfl
name_quick kq2_41 for ED by Pk
noncomputable def Po:EJ=EJ:=rfl
name_quick kg2_41 for EJ by Po
noncomputable def Pj:EC=EC:=rfl
name_quick kq3_41 for EC by Pj
noncomputable def Pn:EI=EI:=rfl
name_quick kg3_41 for EI by Pn
noncomputable def Ph:EB=EB:=rfl
name_quick kua41 for EB by Ph
noncomputable def Pd:Ey=Ey:=rfl
name_quick kva41 for Ey by Pd
noncomputable def Pf:EA=EA:=rfl
name_quick kub41 for EA by Pf
noncomputable def Pc:Ex=Ex:=rfl
name_quick kvb41 for Ex by Pc
noncomputable def Pe:Ez=Ez:=rfl
name_quick kuc41 for Ez by Pe
noncomputable def Pb:Ew=Ew:=rfl
name_quick kvc41 for Ew by Pb
def Az:∀(w:Q8) (os:RB),PySem.W.Fast.kua41 (w.withFollow "special-get-raises" false) os=PySem.W.Fast.kva41 (w.withFollow "special-get-raises" false) os:=λw os=>by kernel_rfl
def CN:∀(w:Q8) (os:RB),PySem.W.Fast.kua41 (w.withFollow "special-get-raises" true) os=PySem.W.Fast.kva41 (w.withFollow "special-get-raises" true) os:=λw os=>by kernel_rfl
def ka0:∀(w:Q8) (os:RB),EB w os=Ey w os:=λw os=>by
 rw[PySem.W.Fast.kua41_eq,PySem.W.Fast.kva41_eq];exact PySem.W.byRow2 "special-get-raises" (P:=λw=>PySem.W.Fast.kua41 w os=PySem.W.Fast.kva41 w os) (λw=>Az w os) (λw=>CN w os) w
def Ay:∀(w:Q8) (os:RB),PySem.W.Fast.kub41 (w.withFollow "special-get-raises" false) os=PySem.W.Fast.kvb41 (w.withFollow "special-get-raises" false) os:=λw os=>by kernel_rfl
def CM:∀(w:Q8) (os:RB),PySem.W.Fast.kub41 (w.withFollow "special-get-raises" true) os=PySem.W.Fast.kvb41 (w.withFollow "special-get-raises" true) os:=λw os=>by kernel_rfl
def ka1:∀(w:Q8) (os:RB),EA w os=Ex w os:=λw os=>by
 rw[PySem.W.Fast.kub41_eq,PySem.W.Fast.kvb41_eq];exact PySem.W.byRow2 "special-get-raises" (P:=λw=>PySem.W.Fast.kub41 w os=PySem.W.Fast.kvb41 w os) (λw=>Ay w os) (λw=>CM w os) w
def Ax:∀(w:Q8) (os:RB),PySem.W.Fast.kuc41 (w.withFollow "special-get-raises" false) os=PySem.W.Fast.kvc41 (w.withFollow "special-get-raises" false) os:=λw os=>by kernel_rfl
def CK:∀(w:Q8) (os:RB),PySem.W.Fast.kuc41 (w.withFollow "special-get-raises" true) os=PySem.W.Fast.kvc41 (w.withFollow "special-get-raises" true) os:=λw os=>by kernel_rfl
def ka2:∀(w:Q8) (os:RB),Ez w os=Ew w os:=λw os=>by
 rw[PySem.W.Fast.kuc41_eq,PySem.W.Fast.kvc41_eq];exact PySem.W.byRow2 "special-get-raises" (P:=λw=>PySem.W.Fast.kuc41 w os=PySem.W.Fast.kvc41 w os) (λw=>Ax w os) (λw=>CK w os) w
def Au:∀(w:Q8) (os:RB),PySem.W.Fast.kq1_41 (w.withFollow "special-get-raises" false) os=EK (w.withFollow "special-get-raises" false):=λw os=>by kernel_rfl
def CI:∀(w:Q8) (os:RB),PySem.W.Fast.kq1_41 (w.withFollow "special-get-raises" true) os=EK (w.withFollow "special-get-raises" true):=λw os=>by kernel_rfl
def kl1:∀(w:Q8) (os:RB),EE w os=EK w:=λw os=>by
 rw[PySem.W.Fast.kq1_41_eq];exact PySem.W.byRow2 "special-get-raises" (P:=λw=>PySem.W.Fast.kq1_41 w os=EK w) (λw=>Au w os) (λw=>CI w os) w
def As:∀(w:Q8) (os:RB),PySem.W.Fast.kq2_41 (w.withFollow "special-get-raises" false) os=PySem.W.Fast.kg2_41 (w.withFollow "special-get-raises" false):=λw os=>by kernel_rfl
def CH:∀(w:Q8) (os:RB),PySem.W.Fast.kq2_41 (w.withFollow "special-get-raises" true) os=PySem.W.Fast.kg2_41 (w.withFollow "special-get-raises" true):=λw os=>by kernel_rfl
def kl2:∀(w:Q8) (os:RB),ED w os=EJ w:=λw os=>by
 rw[PySem.W.Fast.kq2_41_eq,PySem.W.Fast.kg2_41_eq];exact PySem.W.byRow2 "special-get-raises" (P:=λw=>PySem.W.Fast.kq2_41 w os=PySem.W.Fast.kg2_41 w) (λw=>As w os) (λw=>CH w os) w
def Ar:∀(w:Q8) (os:RB),PySem.W.Fast.kq3_41 (w.withFollow "special-get-raises" false) os=PySem.W.Fast.kg3_41 (w.withFollow "special-get-raises" false):=λw os=>by kernel_rfl
def CG:∀(w:Q8) (os:RB),PySem.W.Fast.kq3_41 (w.withFollow "special-get-raises" true) os=PySem.W.Fast.kg3_41 (w.withFollow "special-get-raises" true):=λw os=>by kernel_rfl
def kl3:∀(w:Q8) (os:RB),EC w os=EI w:=λw os=>by
 rw[PySem.W.Fast.kq3_41_eq,PySem.W.Fast.kg3_41_eq];exact PySem.W.byRow2 "special-get-raises" (P:=λw=>PySem.W.Fast.kq3_41 w os=PySem.W.Fast.kg3_41 w) (λw=>Ar w os) (λw=>CG w os) w
def kp:∀(w:Q8) (os:RB),(kP w os).map (·.2)=some {denote treeTable (.body (PySem.W.behindTheImports PySem.Challenge.pw_leastdeeds_k41_which_steps_mend) kE),(.body (PySem.W.behindTheImports PySem.Challenge.pw_leastdeeds_k41_which_steps_mend) kE),{0,0,0,0},[PySem.W.topFrame {0,0,0,0}]}:=λw os=>by kernel_rfl
def MN:PySem.W.LeftO xV.prog kq pP kX kH.obs kH.val 7060:=HD.vJ (m0:=11) (ann:=some (.ref 6)) (PySem.W.boot_open `r `d (λ_=>rfl)) (λw=>by kernel_rfl) λw os=>HD.AU (J:=9) (kp w os) (by kernel_rfl) (ka0 w os) (HD.u1 (J:=37) (ka1 w os) (HD.u1 (J:=38) (ka2 w os) (HD.AS (kl1 w os) (kl2 w os) (kl3 w os))))
end K41
namespace L2
open PySem PySem.Spec PyProof.Rows
abbrev Key:=Sum Int Str
noncomputable def sS:Key->Qw->Bool
 |.inl k,v=>Value.isInt k v
 |.inr x,v=>Value.isStrOf x v
noncomputable def O9 (w:Q8):Key->Int
 |.inl k=>hashInt k
 |.inr x=>hashStr w x
def c9:∀{k:Key}{v:Qw},sS k v=true->(∃i t,k=Sum.inl i/\v=Value.int i t)\/(∃x t,k=Sum.inr x/\v=Value.str x t)
 | .inl i,v,h=>by
   obtain⟨t,e⟩:=Value.isInt_shape h;exact .inl ⟨i,t,rfl,e⟩
 | .inr x,v,h=>by
   obtain⟨t,e⟩:=Value.isStrOf_shape h;exact .inr ⟨x,t,rfl,e⟩
def jJ (x:Str)(t:Tok):sS (.inr x) (.str x t)=true:=by simp[sS,Value.isStrOf]
def Km (a b:Int):decide ((Sum.inl a:Key)=Sum.inl b)=(a==b):=by
 by_cases e:a=b
 ·subst e;simp
 ·have h:¬ (Sum.inl a:Key)=Sum.inl b:=λq=>e (Sum.inl.inj q);rw[decide_eq_false h];exact(Sd.mpr e).symm
def Kj (a b:Str):decide ((Sum.inr a:Key)=Sum.inr b)=decide (a=b):=by
 by_cases e:a=b
 ·subst e;simp
 ·have h:¬ (Sum.inr a:Key)=Sum.inr b:=λq=>e (Sum.inr.inj q);rw[decide_eq_false h,decide_eq_false e]
def Kl (a:Int)(b:Str):decide ((Sum.inl a:Key)=Sum.inr b)=false:=decide_eq_false (λq=>nomatch q)
def Kk (a:Str)(b:Int):decide ((Sum.inr a:Key)=Sum.inl b)=false:=decide_eq_false (λq=>nomatch q)
def kv (prog:Rj)(w:Q8):PySem.KeyKind prog w Key where
 is:=sS
 hash:=O9 w
 inj:=λv a b F B=>by
  rcases c9 F with⟨i,t,rfl,rfl⟩|⟨x,t,rfl,rfl⟩
  ·rcases c9 B with⟨j,u,rfl,e⟩|⟨y,u,rfl,e⟩
   ·injection e with e1 _;rw[e1]
   ·exact nomatch e
  ·rcases c9 B with⟨j,u,rfl,e⟩|⟨y,u,rfl,e⟩
   ·exact nomatch e
   ·injection e with e1 _;rw[e1]
 byValue:=λk v h=>by
  rcases c9 h with⟨i,t,rfl,rfl⟩|⟨x,t,rfl,rfl⟩<;>rfl
 pyHash:=λz h=>by
  rcases c9 z with⟨i,t,rfl,rfl⟩|⟨x,t,rfl,rfl⟩
  ·exact wpAny_pyHash_int h
  ·exact wpAny_pyHash_str h
 eqBool:=λI z h=>by
  rcases c9 I with⟨i,t,rfl,rfl⟩|⟨x,t,rfl,rfl⟩
  ·rcases c9 z with⟨j,u,rfl,rfl⟩|⟨y,u,rfl,rfl⟩
   ·rw[Km] at h;exact wpAny_eqBool_int h
   ·rw[Kl] at h;exact SeqAt.EqAt.int_str i t y u _ _ _ _ h
  ·rcases c9 z with⟨j,u,rfl,rfl⟩|⟨y,u,rfl,rfl⟩
   ·rw[Kk] at h;exact SeqAt.EqAt.str_int x t j u _ _ _ _ h
   ·rw[Kj] at h;exact wpAny_eqBool_str h
 «strs»:=λk x t v h=>by
  rcases c9 h with⟨i,u,rfl,e⟩|⟨y,u,rfl,e⟩
  ·exact nomatch e
  ·injection e with e1 _
   subst e1;cases v<;>rfl
inductive V where
 |non|bl (b:Bool)|int (i:Int)|str (x:Str)|byt (b:Array UInt8)|flt (b:UInt64)|ref (a:Addr)|ty (n:String)
 deriving DecidableEq
def RelV:V->Qw->Prop
 |.non,u=>u=Value.none
 |.bl b,u=>u=Value.bool b
 |.int i,u=>∃t,u=Value.int i t
 |.str x,u=>∃t,u=Value.str x t
 |.byt b,u=>∃t,u=Value.bytes b t
 |.flt b,u=>∃t,u=Value.float b t
 |.ref a,u=>u=Value.ref a
 |.ty n,u=>u=Value.type n
abbrev Vals:List V->List Qw->Prop:=Ss RelV
def Vals.length (r:Vals xs us):xs.length=us.length:=Paired.length r
noncomputable def Vals.get:∀{xs:List V}{us:List Qw}{i:Nat}{x:V},Vals xs us->xs[i]?=some x->∃u,us[i]?=some u/\RelV x u
 |_,_,_,_,.nil,e=>by simp at e
 |_,_,0,_,.cons r _,e=>by simp at e;subst e;exact{_,rfl,r}
 | _,_,i+1,x,.cons _ t,e=>by
   obtain⟨u,h1,h2⟩:=Vals.get t (by simpa using e)
   exact{u,by simpa using h1,h2}
noncomputable def Vals.set (r:RelV x u):∀{xs:List V}{us:List Qw} (i:Nat),Vals xs us->Vals (xs.set i x) (us.set i u)
 |_,_,_,.nil=>.nil
 |_,_,0,.cons _ t=>.cons r t
 |_,_,i+1,.cons q t=>.cons q (Vals.set r i t)
noncomputable def Vals.append:∀{xs ys:List V}{us ws:List Qw},Vals xs us->Vals ys ws->Vals (xs++ys) (us++ws)
 |_,_,_,_,.nil,s=>s
 |_,_,_,_,.cons r t,s=>.cons r (Vals.append t s)
noncomputable def Vals.take:∀{xs:List V}{us:List Qw} (n:Nat),Vals xs us->Vals (xs.take n) (us.take n)
 |_,_,0,_=>.nil
 |_,_,_+1,.nil=>.nil
 |_,_,n+1,.cons r t=>.cons r (Vals.take n t)
noncomputable def Vals.drop:∀{xs:List V}{us:List Qw} (n:Nat),Vals xs us->Vals (xs.drop n) (us.drop n)
 |_,_,0,r=>r
 |_,_,_+1,.nil=>.nil
 |_,_,n+1,.cons _ t=>Vals.drop n t
def Dq:Option V->Option Qw->Prop
 |some v,some u=>RelV v u
 |none,none=>True
 |_,_=>False
def KV {j:Type}:List (j×V)->List (j×Qw)->Prop:=Ss λ(p:j×V) (q:j×Qw)=>p.1=q.1/\RelV p.2 q.2
noncomputable def kV:Key->V
 |.inl i=>.int i
 |.inr x=>.str x
inductive HO where
 |lst (xs:List V)
 |tup (xs:List V)
 |dK (kvs:List (Key×V))|dT (kvs:List (List Key×V))
 |set (S:Int->Bool) (n:Nat)
 |ins (C dx:Addr) (fs:List (Str×V))
 |own (x:Addr)
 |xd (fs:List (Str×V))
 |met (f x:Addr)
 |rng (lo hi:Int)
 |frz (o:Obj) (u:HO)
 |tbl (ps:Array Qw)
 |ext (φ:Heap->Prop)
 |dn (es:List Sg)
abbrev Hp:=Addr->Option HO
noncomputable def upd (H:Hp)(a:Addr)(o:HO):Hp:=λb=>if b=a then some o else H b
def cx:upd H a o a=some o:=by unfold upd;rw[if_pos rfl]
def aF (h:b≠a):upd H a o b=H b:=by unfold upd;rw[if_neg h]
def aZ {H:Hp}(h:H a=some o)(h':H b=none):a≠b:=by
 intro e;subst e;rw[h] at h';cases h'
section
variable(P:Rj)(w:Q8)
noncomputable def fq (H:Hp)(h:Heap)(a:Addr):HO->Prop
 |.lst xs=>xs.length<=sizeLine/\∃(j:List Qw) (n:Nat),Vals xs j/\h.get? a=some {cls:=.type "list",data:=.seq j.toArray n}
 |.tup xs=>xs.length<=sizeLine/\∃j:List Qw,Vals xs j/\IsTup h a j.toArray
 |.dK y=>y.length<=sizeLine/\(a==sysModules)=false/\∃B,KV y B/\h.DictOf (kv P w) a B
 |.dT y=>y.length<=sizeLine/\(a==sysModules)=false/\∃xs:List (List Key×Addr×Qw),
  Ss (λ(p:List Key×V) (q:List Key×Addr×Qw)=>p.1=q.1/\H q.2.1=some (.tup (p.1.map kV))/\RelV p.2 q.2.2) y xs/\
  ∃o es F,h.get? a=some o/\o.ExactDict/\o.data=.dict es F/\es.toList=xs.map (entryOfKey (tupleKind (kv P w)))/\(xs.map (·.1)).Nodup
 |.set S n=>h.SetOf (intKind P w) a S n
 |.ins C dx fs=>H dx=some (.own a)/\fs.length<=1000/\dx≠a/\h.get? a=some (PySem.W.instObj C dx)/\
  ∃mA,h.Ns1 dx mA/\(∀f,Dq (fs.lookup f) (mA f))/\PySem.Within mA (fs.map (·.1))
 |.own _=>∃o,h.get? a=some o
 |.xd fs=>∃mA,h.Ns1 a mA/\∀f,Dq (fs.lookup f) (mA f)
 |.rng lo hi=>∃t u v,h.get? a=some {cls:=.type "range",data:=.fields #[.int lo t,.int hi u,.int 1 v]}
 |.frz o u=>h.get? a=some o/\fq H h a u
 |.tbl ps=>h.get? a=some {cls:=.none,data:=.fields ps}
 |.met f x=>h.get? a=some (PySem.W.methodObj (.ref f) (.ref x))
 |.ext z=>z h/\(∃o,h.get? a=some o)/\∀h1 h2:Heap,z h1->(∀o,h1.get? a=some o->h2.get? a=some o)->z h2
 |.dn es=>es.length<=sizeLine/\(a==sysModules)=false/\∃o,h.get? a=some o/\o.ExactDict/\o.data=.dict es.toArray es.length
def fc (H:Hp)(h:Heap):Prop:=∀a o,H a=some o->fq P w H h a o
end
section
variable{P:Rj}{w:Q8}{H H':Hp}{h h':Heap}{a:Addr}{o:HO}
def fq.lt (x:fq P w H h a o):a<h.objs.size:=by
 cases o with
 |lst xs=>obtain⟨_,_,_,_,e⟩:=x;exact QW e
 |tup xs=>obtain⟨_,_,_,p⟩:=x;exact p.lt
 |dK j=>obtain⟨_,_,_,_,o,_,_,e,_⟩:=x;exact QW e
 |dT j=>obtain⟨_,_,_,_,o,_,_,e,_⟩:=x;exact QW e
 |set S n=>obtain⟨o,_,_,_,e,_⟩:=x;exact QW e
 |ins C dx fs=>obtain⟨_,_,_,e,_⟩:=x;exact QW e
 |own y=>obtain⟨_,e⟩:=x;exact QW e
 |xd fs=>obtain⟨_,⟨_,_,_,e,_⟩,_⟩:=x;exact QW e
 |rng lo hi=>obtain⟨_,_,_,e⟩:=x;exact QW e
 |frz ob u=>obtain⟨e,_⟩:=x;exact QW e
 |tbl ps=>exact QW (x)
 |met f y=>exact QW (x)
 |ext z=>obtain⟨_,⟨_,e⟩,_⟩:=x;exact QW e
 |dn es=>obtain⟨_,_,_,e,_⟩:=x;exact QW e
noncomputable def Ss.mapP {j y:Type}{F G:j->y->Prop}:∀{l₁:List j}{l₂:List y},Ss F l₁ l₂->(∀a b,F a b->G a b)->Ss G l₁ l₂
 |_,_,.nil,_=>.nil
 |_,_,.cons r t,f=>.cons (f _ _ r) (Ss.mapP t f)
def fq.stay (x:fq P w H h a o)(k:∀b u,(b=a\/H b=some (.own a))->h.get? b=some u->h'.get? b=some u)
 (ho:∀b,H b=some (.own a)->H' b=some (.own a)) (I:∀b xs,H b=some (.tup xs)->H' b=some (.tup xs)):fq P w H' h' a o:=by
 induction o with
 |lst xs=>obtain⟨z,B,n,r,e⟩:=x;exact{z,B,n,r,k _ _ (.inl rfl) e}
 |tup xs=>obtain⟨z,B,r,ob,e,c⟩:=x;exact{z,B,r,ob,k _ _ (.inl rfl) e,c}
 |dK F=>obtain⟨z,y,L,r,ob,es,j,e,c⟩:=x;exact{z,y,L,r,ob,es,j,k _ _ (.inl rfl) e,c}
 | dT F=>
   obtain⟨z,y,xs,r,ob,es,j,e,c⟩:=x;exact{z,y,xs,Ss.mapP r λp q z=>{z.1,I _ _ z.2.1,z.2.2},ob,es,j,k _ _ (.inl rfl) e,c}
 |set S n=>obtain⟨ob,es,j,t,e,c⟩:=x;exact{ob,es,j,t,k _ _ (.inl rfl) e,c}
 | ins C dx fs=>
   obtain⟨d,z,ne,e,mA,⟨od,es,j,e2,c⟩,r⟩:=x;exact{ho _ d,z,ne,k _ _ (.inl rfl) e,mA,{od,es,j,k _ _ (.inr d) e2,c},r}
 |own y=>obtain⟨ob,e⟩:=x;exact{ob,k _ _ (.inl rfl) e}
 |xd fs=>obtain⟨mA,⟨od,es,j,e,c⟩,r⟩:=x;exact{mA,{od,es,j,k _ _ (.inl rfl) e,c},r}
 |rng lo hi=>obtain⟨t,u,v,e⟩:=x;exact{t,u,v,k _ _ (.inl rfl) e}
 |frz ob u J=>obtain⟨e,q⟩:=x;exact{k _ _ (.inl rfl) e,J q}
 | tbl ps=>
   have e:=x;exact k a _ (.inl rfl) e
 | met f y=>
   have e:=x;exact k a _ (.inl rfl) e
 |ext M=>obtain⟨p,⟨o,e⟩,st⟩:=x;exact{st _ _ p λo q=>k _ _ (.inl rfl) q,{o,k _ _ (.inl rfl) e},st}
 |dn es=>obtain⟨z,y,o,e,c⟩:=x;exact{z,y,o,k _ _ (.inl rfl) e,c}
def fc.lt (x:fc P w H h)(e:H a=some o):a<h.objs.size:=(x a o e).lt
def fc.fresh (x:fc P w H h)(e:h.objs.size<=a):H a=none:=by
 cases q:H a with
 |none=>rfl
 |some u=>exact absurd (QO (x.lt q) e) (RO _)
def fc.kept (x:fc P w H h)(k:∀b u,h.get? b=some u->h'.get? b=some u):fc P w H h':=λa o e=>
 (x a o e).stay (λb u _ q=>k b u q) (λ_ q=>q) λ_ _ q=>q
def fc.laid (x:fc P w H h)(k:∀b u,h.get? b=some u->h'.get? b=some u)(y:h.objs.size<=a)(new:fq P w (upd H a o) h' a o):fc P w (upd H a o) h':=λb u e=>by
 have hn:=x.fresh y;by_cases j:b=a
 ·subst j;rw[cx] at e;cases e;exact new
 ·rw[aF j] at e;exact(x b u e).stay (λc v _ q=>k c v q) (λc q=>by rw[aF (aZ q hn)];exact q) λc xs q=>by rw[aF (aZ q hn)];exact q
end
def Rd (H:Hp)(a:Addr)(u:HO):Prop:=H a=some u\/∃o,H a=some (.frz o u)
def Rd.ok (r:Rd H a u)(x:fc P w H h):fq P w H h a u:=by
 rcases r with r|⟨o,r⟩
 ·exact x a u r
 ·obtain⟨_,q⟩:=x a _ r;exact q
def E8:Option HO->Prop
 |some (.lst _)=>True
 |some (.dK _)=>True
 |some (.dT _)=>True
 |some (.set _ _)=>True
 |some (.ins _ _ _)=>True
 |some (.ext _)=>True
 |some (.dn _)=>True
 |_=>False
section
variable{P:Rj}{w:Q8}{H:Hp}{h h':Heap}{x e:Addr}{o':HO}
def fc.write (ok:fc P w H h)(mu:E8 (H x))(he:e=x\/H e=some (.own x))(k:∀b u,b≠e->h.get? b=some u->h'.get? b=some u)(L:∃u,h'.get? e=some u)
 (new:fq P w (upd H x o') h' x o'):fc P w (upd H x o') h':=λb u q=>by
 have B:∀c y,H c=some (.own y)->c≠x:=λc y r z=>by subst z;rw[r] at mu;exact mu
 have F:∀c xs,H c=some (.tup xs)->c≠x:=λc xs r z=>by subst z;rw[r] at mu;exact mu
 by_cases I:b=x
 ·subst I;rw[cx] at q;cases q;exact new
 ·rw[aF I] at q;by_cases j:b=e
  ·have M:H b=some (.own x):=by
    rcases he with z|z
    ·exact absurd (j.trans z) I
    ·rw[j];exact z
   rw[q] at M;cases M;obtain⟨v,O⟩:=L;exact{v,by rw[j];exact O}
  ·refine(ok b u q).stay (λc v J r=>k c v ?_ r) (λc r=>by rw[aF (B c b r)];exact r) λc xs r=>by rw[aF (F c xs r)];exact r
   rcases J with rfl|J
   ·exact j
   ·rintro rfl;rcases he with z|z
    ·exact B c b J z
    ·rw[J] at z;cases z;exact I rfl
end
structure Un (fs ex:List Addr) (H H':Hp) (h h':Heap):Prop where
 keep:∀b o,h.get? b=some o->H b=none->b∉fs->b∉ex->h'.get? b=some o
 slot:∀b o,h.get? b=some o->H b=none->b∈fs->b∉ex->∃sl,h'.get? b=some {o with slots:=sl}
 free:∀b o,h.get? b=some o->H b=none->b∉ex->H' b=none
 there:∀b o,h.get? b=some o->b∉ex->∃o',h'.get? b=some o'
 tups:∀b xs,H b=some (.tup xs)->H' b=some (.tup xs)
 frzs:∀b o u,H b=some (.frz o u)->H' b=some (.frz o u)
 tbls:∀b ps,H b=some (.tbl ps)->∃more,H' b=some (.tbl (ps++more))
section
variable{fs fs' ex ex':List Addr}{H H1 H2:Hp}{h h1 h2 h':Heap}{a x e:Addr}{o:HO}
def Un.any (u:Un fs ex H H1 h h1)(q:h.get? b=some ob)(n:H b=none)(y:b∉ex):∃sl,h1.get? b=some {ob with slots:=sl}:=by
 by_cases j:b∈fs
 ·exact u.slot b ob q n j y
 ·exact{ob.slots,u.keep b ob q n j y}
def Un.kept (k:∀b u,h.get? b=some u->h'.get? b=some u):Un fs ex H H h h':=
 {λb ob q _ _ _=>k b ob q,λb ob q _ _ _=>{ob.slots,k b ob q},λ_ _ _ n _=>n,λb ob q _=>{ob,k b ob q},λ_ _ q=>q,λ_ _ _ q=>q,λ_ ps q=>{#[],by rw[q];simp}}
def Un.refl:Un fs ex H H h h:=Un.kept λ_ _ q=>q
def Un.laid (k:∀b u,h.get? b=some u->h'.get? b=some u)(j:h.objs.size<=a)(hn:H a=none):Un fs ex H (upd H a o) h h' where
 keep:=λb u q _ _ _=>k b u q
 slot:=λb u q _ _ _=>{u.slots,k b u q}
 free:=λb u q n _=>by rw[aF (Q6 (QO (QW q) j))];exact n
 there:=λb u q _=>{u,k b u q}
 tups:=λb xs q=>by rw[aF (aZ q hn)];exact q
 frzs:=λb u xs q=>by rw[aF (aZ q hn)];exact q
 tbls:=λb ps q=>{#[],by rw[aF (aZ q hn),q];simp}
def Un.write (mu:E8 (H x))(he:e=x\/H e=some (.own x))(k:∀b u,b≠e->h.get? b=some u->h'.get? b=some u)(y:∃u,h'.get? e=some u):Un fs ex H (upd H x o) h h':=by
 have F:∀b,H b=none->b≠x:=λb n z=>by subst z;rw[n] at mu;exact mu
 have B:∀b,H b=none->b≠e:=λb n z=>by
  subst z;rcases he with r|r
  ·exact F b n r
  ·rw[n] at r;cases r
 have hm:∀b u,H b=some u->¬ E8 (some u)->b≠x:=λb u q nm z=>by subst z;rw[q] at mu;exact nm mu
 refine{λb u q n _ _=>k b u (B b n) q,λb u q n _ _=>{u.slots,k b u (B b n) q},λb u q n _=>by rw[aF (F b n)];exact n,λb u q _=>?_,
  λb xs q=>by rw[aF (hm b _ q λz=>z)];exact q,λb u xs q=>by rw[aF (hm b _ q λz=>z)];exact q,λb ps q=>{#[],by rw[aF (hm b _ q λz=>z),q];simp}}
 by_cases j:b=e
 ·subst j;exact y
 ·exact{u,k b u j q}
end
noncomputable def DY (h:Heap)(H:Hp):List Addr:=(List.range h.objs.size).filter λa=>(H a).isSome
def mH (h:Heap)(H:Hp):Heap:=PySem.W.hideAll h (DY h H)
def AH (h:Heap)(H:Hp):(mH h H).objs.size=h.objs.size:=PySem.W.hideAll_size _ _
def CT (e:h.get? b=some o)(n:H b=none):(mH h H).get? b=some o:=
 PySem.W.hideAll_get _ e λhm=>by
  have q:(H b).isSome=true:=(So.mp hm).2;rw[n] at q;simp at q
def GQ (e:(mH h H).get? b=some o):h.get? b=some o/\H b=none:=by
 have j:=PySem.W.of_hideAll (DY h H) e;refine{j,?_};cases q:H b with
 |none=>rfl
 | some x=>
   have hm:b∈DY h H:=So.mpr {R0.mpr (QW j),by simp[q]}
   have z:(mH h H).get? b=none:=PySem.W.hideAll_none (DY h H) hm;rw[z] at e;cases e
structure Mod (K:Qs) (mg:Str->Option Qw) (base:Heap):Prop where
 kin:K.In base
 glob:base.Ns mainGlobals mg
 blt:∃mb,base.Ns builtinsNs mb/\∀x:Str,x≠"__name__"->mb x=bootBuiltins x
 nolimit:base.NoLimit
structure Cx where
 prog:Rj
 w:Q8
 K:Qs
 mg:Str->Option Qw
 base:Heap
 A:R6
 N:List Str
 s₀:QA
 H₀:Hp
 env:Env
 outer:List Env
 stack:List Env
 ex:List Addr
 fn:Str->Bool
 calm:Bool
 pn:List (Addr×Obj)
 xe:Qw->QA->Prop
noncomputable def gU (l:List Env):List Addr:=l.filterMap (·.frame)
abbrev Cx.fs (X:Cx):List Addr:=gU X.outer
def w8 (sc:Scope)(x:Str):Prop:=sc.names.lookup x=some .local\/sc.names.lookup x=some .cell\/sc.names.lookup x=some .free
def Loc (sc:Scope)(x:Str):Prop:=sc.names.lookup x=some .local\/sc.names.lookup x=some .cell
def Look (env:Env)(h:Heap)(m:Str->Option Qw)(x:Str)(u:Qw):Prop:=
 (env.kindOf x=some .local/\m x=some u)\/((env.kindOf x=some .cell\/env.kindOf x=some .free)/\∃c,env.cells.lookup x=some c/\h.IsCell c (some u))
structure Cx.Ok (X:Cx):Prop where
 mod:Mod X.K X.mg X.base
 kind:X.env.scope.kind=.function
 glob:X.env.globals=mainGlobals
 blt:X.env.builtins=builtinsNs
 above:X.s₀.heap.objs.size<=X.env.locals
 inj:∀x y c,X.env.cells.lookup x=some c->X.env.cells.lookup y=some c->x=y
 has:∀x,(X.env.kindOf x=some .cell\/X.env.kindOf x=some .free)->∃c,X.env.cells.lookup x=some c
 cab:∀x c,X.fn x=true->X.env.cells.lookup x=some c->X.s₀.heap.objs.size<=c
 hd:X.calm=true->X.A.handled=none
 frames:X.A.frames=some X.stack
 stk:X.stack=X.outer\/(X.stack=X.env::X.outer/\X.env.frame=some X.env.locals)
 exf:∀b∈X.ex,b≠X.env.locals/\∀x c,X.env.cells.lookup x=some c->c≠b
 bs:∀b o,X.base.get? b=some o->X.s₀.heap.get? b=some o/\X.H₀ b=none
 bsz:X.base.objs.size<=X.s₀.heap.objs.size
 noex:∀b o,X.base.get? b=some o->b∉X.ex
 exfs:∀b∈X.ex,b∉X.fs
 funs:X.s₀.heap.FunFrames X.base X.outer
 frf:∀b∈X.fs,X.H₀ b=none
structure Inv (X:Cx) (pins:List (Addr×Obj)) (σ:List (Option V)) (H:Hp) (s:QA):Prop where
 ok:X.Ok
 os:s.os=X.s₀.os
 bare:AllBare s.gens
 base:Un X.fs X.ex X.H₀ H X.s₀.heap s.heap
 loc:∃m,s.heap.Ns X.env.locals m/\∀(i:Nat) (x:Str) (v:V),X.N[i]?=some x->σ[i]?=some (some v)->w8 X.env.scope x->∃u,RelV v u/\Look X.env s.heap m x u
 cell:∀x c,X.env.cells.lookup x=some c->∃v,s.heap.IsCell c v
 free:H X.env.locals=none
 freeC:∀x c,X.env.cells.lookup x=some c->H c=none
 pin:∀p∈X.pn++pins,s.heap.get? p.1=some p.2/\H p.1=none/\p.1≠X.env.locals/\p.1∉X.fs/\∀v,p.2.data≠.cell v
 hok:fc X.prog X.w H s.heap
 len:σ.length=X.N.length
section
variable{X:Cx}{pins:List (Addr×Obj)}{σ:List (Option V)}{H H':Hp}{s:QA}{h':Heap}
def Cx.Ok.nofr (ok:X.Ok)(e:X.base.get? b=some o):b∉X.fs:=λj=>by
 have:=(ok.funs.mem j).1;rw[e] at this;cases this
def Inv.bs (I:Inv X pins σ H s):∀b o,X.base.get? b=some o->s.heap.get? b=some o/\H b=none:=λb o e=>
 {I.base.keep b o (I.ok.bs b o e).1 (I.ok.bs b o e).2 (I.ok.nofr e) (I.ok.noex b o e),I.base.free b o (I.ok.bs b o e).1 (I.ok.bs b o e).2 (I.ok.noex b o e)}
def Inv.bk (I:Inv X pins σ H s):∀b o,X.base.get? b=some o->s.heap.get? b=some o:=λb o e=>(I.bs b o e).1
def Inv.mod (I:Inv X pins σ H s):Mod X.K X.mg X.base:=I.ok.mod
def Inv.kIn (I:Inv X pins σ H s):X.K.In s.heap:=I.ok.mod.kin.keeps I.bk
def Inv.lt (I:Inv X pins σ H s):X.env.locals<s.heap.objs.size:=let{_,hn,_}:=I.loc;hn.lt
def Inv.sz (I:Inv X pins σ H s):X.s₀.heap.objs.size<=s.heap.objs.size:=QC I.ok.above (SH I.lt)
def Inv.nofs (I:Inv X pins σ H s)(h:s.heap.objs.size<=a):a∉X.fs:=λj=>by
 obtain⟨_,o,ho,_⟩:=I.ok.funs.mem j;exact absurd (QO (QW ho) (QC I.sz h)) (RO _)
def Inv.cne (I:Inv X pins σ H s):∀x c,X.env.cells.lookup x=some c->c≠X.env.locals:=λx c e z=>by
 obtain⟨v,o,ho,hd⟩:=I.cell x c e;obtain⟨m,⟨o',es,B,y,j,_⟩,_⟩:=I.loc;rw[z,y] at ho;cases ho;rw[j] at hd;cases hd
def Inv.funs (I:Inv X pins σ H s):s.heap.FunFrames X.base X.outer:=by
 have all:∀(l:List Env),(∀b∈gU l,b∈X.fs)->X.s₀.heap.FunFrames X.base l->s.heap.FunFrames X.base l:=by
  intro l;induction l with
  |nil=>intro _ _;trivial
  | cons env r B=>
    intro hs hl;obtain⟨hk,⟨L,o,hf,hn,ho,hd⟩,hr⟩:=hl;have j:=hs L (by unfold gU;rw[SY,hf];exact QM)
    obtain⟨sl,e⟩:=I.base.slot L o ho (I.ok.frf L j) j λz=>I.ok.exfs L z j;exact{hk,{L,_,hf,hn,e,hd},B (λb y=>hs b (by unfold gU;rw[SY,hf];exact QF _ y)) hr}
 exact all X.outer (λ_ y=>y) I.ok.funs
def Inv.stack (I:Inv X pins σ H s):s.heap.FunFrames X.base X.stack:=by
 rcases I.ok.stk with e|⟨e,hf⟩
 ·rw[e];exact I.funs
 ·rw[e];obtain⟨m,hn,_⟩:=I.loc;refine .cons (by rw[I.ok.kind];decide) hf hn ?_ I.funs
  exact Heap.get?_none_of_le (QC I.ok.bsz I.ok.above)
def Inv.stkSub (I:Inv X pins σ H s):∀b∈gU X.stack,b∈X.env.locals::X.fs:=λb j=>by
 rcases I.ok.stk with e|⟨e,hf⟩
 ·rw[e] at j;exact QF _ j
 ·rw[e] at j;unfold gU at j;rw[SY,hf] at j;exact j
def Inv.stkFree (I:Inv X pins σ H s):∀b∈gU X.stack,H b=none:=λb j=>by
 rcases Q9.mp (I.stkSub b j) with e|j
 ·rw[e];exact I.free
 ·obtain⟨_,o,ho,_⟩:=I.ok.funs.mem j;exact I.base.free b o ho (I.ok.frf b j) λz=>I.ok.exfs b z j
def Inv.step {ch:List Addr}(I:Inv X pins σ H s)
 (B:∀b∈ch,(b∈X.ex\/X.s₀.heap.objs.size<=b)/\b≠X.env.locals/\(∀x c,X.env.cells.lookup x=some c->c≠b)/\∀p∈X.pn++pins,p.1≠b)
 (keep:∀b o,b≠X.env.locals->b∉X.fs->b∉ch->s.heap.get? b=some o->H b=none->h'.get? b=some o)
 (slot:∀b o,b≠X.env.locals->b∈X.fs->b∉ch->s.heap.get? b=some o->H b=none->∃sl,h'.get? b=some {o with slots:=sl}) (free:∀b o,b∉ch->s.heap.get? b=some o->H b=none->H' b=none)
 (there:∀b o,b∉ch->s.heap.get? b=some o->∃o',h'.get? b=some o')
 (tups:∀b xs,H b=some (.tup xs)->H' b=some (.tup xs)) (frzs:∀b o u,H b=some (.frz o u)->H' b=some (.frz o u)) (tbls:∀b ps,H b=some (.tbl ps)->∃more,H' b=some (.tbl (ps++more)))
 (ns:∀m,s.heap.Ns X.env.locals m->h'.Ns X.env.locals m) (hok:fc X.prog X.w H' h') (Y:AllBare g') :
 Inv X pins σ H' {s with heap:=h',gens:=g',drawn:=d',toks:=t'}:=by
 have M:∀b o,X.s₀.heap.get? b=some o->b≠X.env.locals:=λb o e=>Q6 (QO (QW e) I.ok.above);have J:∀b o,X.s₀.heap.get? b=some o->b∉X.ex->b∉ch:=λb o e j L=>by
  rcases(B b L).1 with z|z
  ·exact j z
  ·exact absurd (QO (QW e) z) (RO _)
 have y:∀x c,X.env.cells.lookup x=some c->∀v,s.heap.IsCell c v->h'.IsCell c v:=λx c e v ⟨o,ho,hd⟩=>by
  have F:=λz=>(B c z).2.2.1 x c e rfl;by_cases R:c∈X.fs
  ·obtain⟨sl,q⟩:=slot c o (I.cne x c e) R F ho (I.freeC x c e);exact{_,q,hd}
  ·exact{o,keep c o (I.cne x c e) R F ho (I.freeC x c e),hd}
 refine{I.ok,I.os,Y,{λb o e n L j=>?_,λb o e n L j=>?_,λb o e n j=>?_,λb o e j=>?_,λb xs e=>tups b xs (I.base.tups b xs e),λb o xs e=>frzs b o xs (I.base.frzs b o xs e),λb ps e=>?_},?_,λx c e=>?_,?_,λx c e=>?_,λp S=>?_,hok,I.len}
 ·exact keep b o (M b o e) L (J b o e j) (I.base.keep b o e n L j) (I.base.free b o e n j)
 ·obtain⟨sl,e1⟩:=I.base.slot b o e n L j;obtain⟨O,e2⟩:=slot b _ (M b o e) L (J b o e j) e1 (I.base.free b o e n j);exact⟨O,e2⟩
 ·obtain⟨o',e1⟩:=I.base.there b o e j;exact free b o' (J b o e j) e1 (I.base.free b o e n j)
 ·obtain⟨o',e1⟩:=I.base.there b o e j;exact there b o' (J b o e j) e1
 ·obtain⟨m1,e1⟩:=I.base.tbls b ps e;obtain⟨m2,e2⟩:=tbls b _ e1;exact{m1++m2,by rw[e2,Array.append_assoc]}
 ·obtain⟨m,hn,hl⟩:=I.loc;refine{m,ns m hn,λi x v e1 e2 W=>?_};obtain⟨u,r,l⟩:=hl i x v e1 e2 W;refine{u,r,?_};rcases l with l|⟨k,c,e,z⟩
  ·exact .inl l
  ·exact .inr {k,c,e,y x c e _ z}
 ·obtain⟨v,z⟩:=I.cell x c e;exact{v,y x c e v z}
 ·obtain⟨m,⟨o,_,_,ho,_⟩,_⟩:=I.loc;exact free _ o (λz=>(B _ z).2.1 rfl) ho I.free
 ·obtain⟨v,o,ho,hd⟩:=I.cell x c e;exact free c o (λz=>(B c z).2.2.1 x c e rfl) ho (I.freeC x c e)
 ·obtain⟨e,n,ne,U,d⟩:=I.pin p S;have F:=λz=>(B p.1 z).2.2.2 p S rfl;exact{keep p.1 p.2 ne U F e n,free p.1 p.2 F e n,ne,U,d}
def Inv.un {t':Nat}(I:Inv X pins σ H s)(u:Un X.fs [] H H' s.heap h')(hok:fc X.prog X.w H' h'):Inv X pins σ H' {s with heap:=h',toks:=t'}:=by
 obtain⟨m,⟨o,es,M,ho,r⟩,_⟩:=id I.loc;obtain⟨sl,J⟩:=u.any ho I.free `s
 exact I.step (ch:=[]) (λ_ z=>nomatch z) (λb o _ F _ e n=>u.keep b o e n F `s) (λb o _ F _ e n=>u.slot b o e n F `s) (λb o _ e n=>u.free b o e n `s) (λb o _ e=>u.there b o e `s) u.tups u.frzs u.tbls (λO hm=>by
  obtain⟨o',B,y,j,L⟩:=hm;rw[ho] at j;cases j;exact{_,B,y,J,L}) hok I.bare
def Inv.call {M:Drawn}{ch:List Addr}(I:Inv X pins σ H s)(u:Un (gU X.stack) ch H H' s.heap h')(hok:fc X.prog X.w H' h')(R:AllBare g')
 (y:∀b∈ch,(b∈X.ex\/X.s₀.heap.objs.size<=b)/\b≠X.env.locals/\(∀x c,X.env.cells.lookup x=some c->c≠b)/\∀p∈X.pn++pins,p.1≠b) :
 Inv X pins σ H' {s with heap:=h',gens:=g',drawn:=M,toks:=t'}:=by
 obtain⟨m,⟨o,es,U,ho,r⟩,_⟩:=id I.loc;obtain⟨sl,L⟩:=u.any ho I.free λz=>(y _ z).2.1 rfl;exact I.step y (λb o L O j e n=>u.keep b o e n (λz=>(Q9.mp (I.stkSub b z)).elim L O) j) (λb o _ _ j e n=>u.any e n j) (λb o j e n=>u.free b o e n j) (λb o j e=>u.there b o e j) u.tups u.frzs u.tbls (λW hm=>by
  obtain⟨o',J,F,B,S⟩:=hm;rw[ho] at B;cases B;exact{_,J,F,L,S}) hok R
def Inv.turned {j:Addr}(I:Inv X pins σ H s)(k:∀b o,b≠j->s.heap.get? b=some o->h'.get? b=some o)(hn:H j=none)(F:j≠X.env.locals)
 (h1:j∈X.ex\/X.s₀.heap.objs.size<=j) (h2:∀x c,X.env.cells.lookup x=some c->c≠j) (h3:∀p∈X.pn++pins,p.1≠j):Inv X pins σ H {s with heap:=h',toks:=t'}:=by
 have B:∀b u,H b=some u->b≠j:=λb u e z=>by rw[z,hn] at e;cases e
 refine I.step (ch:=[j]) (λb L=>?_) (λb o _ _ y e _=>k b o (λz=>y (by simp[z])) e) (λb o _ _ y e _=>{o.slots,k b o (λz=>y (by simp[z])) e}) (λ_ _ _ _ n=>n)
  (λb o y e=>{o,k b o (λz=>y (by simp[z])) e}) (λ_ _ e=>e) (λ_ _ _ e=>e) (λb ps e=>{#[],by rw[e];simp}) (λm hm=>?_) (λb u e=>?_) I.bare
 ·have e:b=j:=by simpa using L
  subst e;exact⟨h1,F,h2,h3⟩
 ·obtain⟨o,es,J,ho,r⟩:=hm;exact{o,es,J,k _ o (RR F) ho,r}
 ·refine(I.hok b u e).stay (λc v y q=>k c v ?_ q) (λ_ q=>q) λ_ _ q=>q;rcases y with z|z
  ·rw[z];exact B b u e
  ·exact B c _ z
def Inv.tok (I:Inv X pins σ H s)(t:Nat):Inv X pins σ H {s with toks:=t}:=I.un Un.refl I.hok
def Inv.kept (I:Inv X pins σ H s)(k:∀b u,s.heap.get? b=some u->h'.get? b=some u):Inv X pins σ H {s with heap:=h',toks:=t'}:=I.un (Un.kept k) (I.hok.kept k)
def Inv.laid (I:Inv X pins σ H s)(k:∀b u,s.heap.get? b=some u->h'.get? b=some u)(j:s.heap.objs.size<=a)(new:fq X.prog X.w (upd H a o) h' a o) :
 Inv X pins σ (upd H a o) {s with heap:=h',toks:=t'}:=I.un (Un.laid k j (I.hok.fresh j)) (I.hok.laid k j new)
def Inv.write (I:Inv X pins σ H s)(mu:E8 (H x))(he:e=x\/H e=some (.own x))(k:∀b u,b≠e->s.heap.get? b=some u->h'.get? b=some u)(j:∃u,h'.get? e=some u)
 (new:fq X.prog X.w (upd H x o) h' x o):Inv X pins σ (upd H x o) {s with heap:=h',toks:=t'}:=I.un (Un.write mu he k j) (I.hok.write mu he k j new)
def Inv.pins_of (I:Inv X pins σ H s)(h:∀p∈j,s.heap.get? p.1=some p.2/\H p.1=none/\p.1≠X.env.locals/\p.1∉X.fs/\∀v,p.2.data≠.cell v):Inv X j σ H s:=
 {I.ok,I.os,I.bare,I.base,I.loc,I.cell,I.free,I.freeC,λp y=>(Q2.mp y).elim (λz=>I.pin p (RE _ z)) (h p),I.hok,I.len}
def uj {N:List Str}(y:N.Nodup){i j:Nat}(a:N[i]?=some x)(b:N[j]?=some x):i=j:=by
 obtain⟨h1,e1⟩:=Qr.mp a;obtain⟨h2,e2⟩:=Qr.mp b;exact(List.getElem_inj y).mp (e1.trans e2.symm)
def rE {M:Model}(I:Inv X pins σ H s)(hN:X.N.Nodup)(hi:X.N[i]?=some x)(J:Loc X.env.scope x)(r:RelV v u)
 (h:∀s',Inv X pins (σ.set i (some v)) H s'->(∃a,R9 a s.heap s'.heap/\(a=X.env.locals\/X.env.cells.lookup x=some a))->Q () s') (hf:X.fn x=true\/X.env.scope.names.lookup x=some .local:=by first|exact .inl rfl|exact .inr rfl|assumption):wpAny M A (storeName X.env x u) Q E s:=by
 obtain⟨m,hn,hl⟩:=id I.loc;have hcls:(X.env.scope.kind==.class||(X.env.scope.kind==.module&&X.env.locals != X.env.globals))=false:=by rw[I.ok.kind];rfl
 have O:i<σ.length:=by rw[I.len];exact(Qr.mp hi).1
 have cne:=I.cne;have B:∀{a:Addr}{h':Heap},(∃o,s.heap.get? a=some o/\H a=none)->R9 a s.heap h'->fc X.prog X.w H h':=λ{a h'} ha hs b ob e=>by
  obtain⟨_,_,L⟩:=ha;refine(I.hok b ob e).stay (λc w' F q=>(hs.2 c ?_).trans q) (λ_ q=>q) λ_ _ q=>q;rintro rfl;rcases F with rfl|F
  ·rw[L] at e;cases e
  ·rw[L] at F;cases F
 rcases J with hk|hk
 ·refine wpAny_storeName_local hk hn (λh' hn' hs=>?_) hcls;obtain⟨oL,_,_,hoL,_⟩:=id hn;refine h _ {I.ok,I.os,I.bare,{λb o e n R J=>?_,λb o e n R J=>?_,I.base.free,λb o e J=>?_,I.base.tups,I.base.frzs,I.base.tbls},{_,hn',λj y v' e1 e2 e3=>?_},λy c e=>?_,I.free,I.freeC,λp hp=>?_,B ⟨oL,hoL,I.free⟩ hs,by simpa using I.len} {_,hs,.inl rfl}
  ·exact(hs.2 b (Q6 (QO (QW e) I.ok.above))).trans (I.base.keep b o e n R J)
  ·obtain⟨sl,e1⟩:=I.base.slot b o e n R J;exact{sl,(hs.2 b (Q6 (QO (QW e) I.ok.above))).trans e1}
  ·obtain⟨o',e1⟩:=I.base.there b o e J;exact{o',(hs.2 b (Q6 (QO (QW e) I.ok.above))).trans e1}
  ·by_cases U:j=i
   ·subst U;rw[hi] at e1;cases e1;rw[QR O] at e2;cases e2;exact{u,r,.inl {hk,`s}}
   ·rw[QJ (RR U)] at e2;obtain⟨u',r',q⟩:=hl j y v' e1 e2 e3;refine{u',r',?_};rcases q with⟨k,e⟩|⟨k,c,e,z⟩
    ·refine .inl {k,?_};have:y≠x:=λe=>U (uj hN e1 (e ▸ hi));simp[this,e]
    ·exact .inr {k,c,e,z.sameBut hs (cne y c e)}
  ·obtain⟨w',z⟩:=I.cell y c e;exact{w',z.sameBut hs (cne y c e)}
  ·obtain⟨e,n,ne,nf,d⟩:=I.pin p hp;exact{(hs.2 p.1 ne).trans e,n,ne,nf,d}
 ·have S:X.fn x=true:=by
   rcases hf with z|z
   ·exact z
   ·rw[z] at hk;cases hk
  obtain⟨c,F⟩:=I.ok.has x (.inl hk);obtain⟨w',z⟩:=I.cell x c F;refine wpAny_storeName_cell I.ok.kind hk F z (λh' W hs=>?_);obtain⟨oc,hoc,hocd⟩:=id z;refine h {s with heap:=h'} {I.ok,I.os,I.bare,{λb o e n R J=>?_,λb o e n R J=>?_,I.base.free,λb o e J=>?_,I.base.tups,I.base.frzs,I.base.tbls},{m,hn.sameBut hs (RR (cne x c F)),λj y v' e1 e2 e3=>?_},λy c' e=>?_,I.free,I.freeC,λp hp=>?_,B {oc,hoc,I.freeC x c F} hs,by simpa using I.len} {c,hs,.inr F}
  ·exact(hs.2 b (Q6 (QO (QW e) (I.ok.cab x c S F)))).trans (I.base.keep b o e n R J)
  ·obtain⟨sl,e1⟩:=I.base.slot b o e n R J;exact{sl,(hs.2 b (Q6 (QO (QW e) (I.ok.cab x c S F)))).trans e1}
  ·obtain⟨o',e1⟩:=I.base.there b o e J;exact{o',(hs.2 b (Q6 (QO (QW e) (I.ok.cab x c S F)))).trans e1}
  ·by_cases U:j=i
   ·subst U;rw[hi] at e1;cases e1;rw[QR O] at e2;cases e2;exact{u,r,.inr {.inl hk,c,F,W}}
   ·rw[QJ (RR U)] at e2;obtain⟨u',r',q⟩:=hl j y v' e1 e2 e3;refine{u',r',?_};rcases q with q|⟨k,c',e,z'⟩
    ·exact .inl q
    ·refine .inr {k,c',e,z'.sameBut hs ?_};rintro rfl;exact U (uj hN e1 (I.ok.inj _ _ _ e F ▸ hi))
  ·by_cases Y:c'=c
   ·subst Y;exact{_,W}
   ·obtain⟨w2,z2⟩:=I.cell y c' e;exact{w2,z2.sameBut hs Y}
  ·obtain⟨e,n,ne,nf,d⟩:=I.pin p hp;refine{(hs.2 p.1 ?_).trans e,n,ne,nf,d};intro q;rw[q,hoc] at e;have q':=Qz e;exact d w' (by rw[<- q'];exact hocd)
def tH (I:Inv X pins σ H s)(y:X.N.Nodup)(hi:X.N[i]?=some x)(z:Loc X.env.scope x)(r:RelV v u)
 (h:∀s',Inv X pins (σ.set i (some v)) H s'->Q () s') (hf:X.fn x=true\/X.env.scope.names.lookup x=some .local:=by first|exact .inl rfl|exact .inr rfl|assumption):wpAny M A (storeName X.env x u) Q E s:=
 rE I y hi z r (λs' j _=>h s' j) hf
def Inv.call' (I:Inv X pins σ H s)(ho:s'.os=s.os)(u:Un (gU X.stack) ch H H' s.heap s'.heap)(hok:fc X.prog X.w H' s'.heap)(y:AllBare s'.gens)
 (j:∀b∈ch,(b∈X.ex\/X.s₀.heap.objs.size<=b)/\b≠X.env.locals/\(∀x c,X.env.cells.lookup x=some c->c≠b)/\∀p∈X.pn++pins,p.1≠b):Inv X pins σ H' s':=by
 obtain⟨h',B,z,F,o'⟩:=s';have e:=ho;subst e;exact I.call u hok y j
end
abbrev XK:=Qw->Option Addr->Hp->Prop
abbrev St:=List (Option V)
abbrev VK:=V->Hp->Prop
abbrev TE:=St->Hp->VK->Prop
abbrev TT:=St->Hp->(Bool->Hp->Prop)->Prop
abbrev TA:=St->Hp->(List V->Hp->Prop)->Prop
structure Ends where
 nx:St->Hp->Prop
 rt:VK
 bk:St->Hp->Prop:=λ_ _=>False
 ct:St->Hp->Prop:=λ_ _=>False
abbrev TS:=Ends->St->Hp->Prop
def EP (X:Cx)(pins:List (Addr×Obj))(σ:St)(Q:VK)(u:Qw)(s':QA):Prop:=∃v H',Inv X pins σ H' s'/\RelV v u/\Q v H'
def TP (X:Cx)(pins:List (Addr×Obj))(σ:St)(Q:Bool->Hp->Prop)(b:Bool)(s':QA):Prop:=∃H',Inv X pins σ H' s'/\Q b H'
def AP (X:Cx)(pins:List (Addr×Obj))(σ:St)(Q:List V->Hp->Prop)(us:List Qw)(s':QA):Prop:=∃j H',Inv X pins σ H' s'/\Vals j us/\Q j H'
def SP (X:Cx)(pins:List (Addr×Obj))(D:Ends)(f:Flow)(s':QA):Prop:=
 match f with
 |.next=>∃j H',Inv X pins j H' s'/\D.nx j H'
 |.brk=>∃j H',Inv X pins j H' s'/\D.bk j H'
 |.cont=>∃j H',Inv X pins j H' s'/\D.ct j H'
 |.ret u=>∃v j H',Inv X pins j H' s'/\RelV v u/\D.rt v H'
def PE (X:Cx)(e:Expr)(t:TE):Prop:=
 ∀(pins:List (Addr×Obj)) (s:QA) (σ:St) (H:Hp) (Q:VK),Inv X pins σ H s->t σ H Q->wpAny (model X.prog X.w) X.A (eval e X.env) (EP X pins σ Q) X.xe s
def PT (X:Cx)(e:Expr)(t:TT):Prop:=
 ∀(pins:List (Addr×Obj)) (s:QA) (σ:St) (H:Hp) (Q:Bool->Hp->Prop),Inv X pins σ H s->t σ H Q->wpAny (model X.prog X.w) X.A (isTrue e X.env (eval e X.env)) (TP X pins σ Q) X.xe s
def PW (X:Cx)(e:Expr)(t:TT):Prop:=
 ∀(whole:Sem Qw) (pins:List (Addr×Obj)) (s:QA) (σ:St) (H:Hp) (Q:Bool->Hp->Prop),Inv X pins σ H s->t σ H Q->wpAny (model X.prog X.w) X.A (isTrue e X.env whole) (TP X pins σ Q) X.xe s
def PW.pt (h:PW X e t):PT X e t:=h _
def PA (X:Cx)(es:List Expr)(t:TA):Prop:=
 ∀(pos:Pos) (pins:List (Addr×Obj)) (s:QA) (σ:St) (H:Hp) (Q:List V->Hp->Prop),Inv X pins σ H s->t σ H Q->wpAny (model X.prog X.w) X.A (spliced (backTo pos (starEach es X.env))) (AP X pins σ Q) X.xe s
def PS (X:Cx)(st:Stmt)(t:TS):Prop:=
 ∀(pins:List (Addr×Obj)) (s:QA) (σ:St) (H:Hp) (D:Ends),Inv X pins σ H s->t D σ H->wpAny (model X.prog X.w) X.A (exec st X.env) (SP X pins D) X.xe s
def kG (X:Cx)(st:List Stmt)(t:TS):Prop:=
 ∀(pins:List (Addr×Obj)) (s:QA) (σ:St) (H:Hp) (D:Ends),Inv X pins σ H s->t D σ H->wpAny (model X.prog X.w) X.A (execs st X.env) (SP X pins D) X.xe s
def aP {j:Type}{t:Sem j}{Q Q':j->QA->Prop}{M:Model}{A:R6}{E:Qw->QA->Prop}{s:QA}(h:wpAny M A t Q E s)(y:∀a s,Q a s->Q' a s):wpAny M A t Q' E s:=wpAny_mono h y λ_ _ x=>x
section
variable{X:Cx}
def OF (i:Nat):TE:=λσ H Q=>∃v,σ[i]?=some (some v)/\Q v H
def tC (v:V):TE:=λ_ H Q=>Q v H
def zZ (F:X.N[i]?=some x)(J:w8 X.env.scope x)(hd:(x==("__debug__":Str))=false:=by decide)(z:(x==("__classdict__":Str))=false:=by decide):PE X (.Name x pos) (OF i):=by
 intro pins s σ H Q I h;obtain⟨v,e,h⟩:=h;obtain⟨m,hn,hl⟩:=I.loc;obtain⟨u,r,l⟩:=hl i x v F e J;have y:EP X pins σ Q u s:=⟨v,H,I,r,h⟩;rcases l with⟨hk,hm⟩|⟨hk,c,B,j⟩
 ·exact wpAny_Name (wpAny_loadName_local I.ok.kind hk hn hm y) hd
 ·rcases hk with hk|hk
  ·exact wpAny_Name (wpAny_loadName_cell I.ok.kind hk B j y) hd
  ·exact wpAny_Name (wpAny_loadName_free I.ok.kind hk B j y z) hd
def uc {i j pos}:PE X (.Constant (.int i) j pos) (tC (.int i)):=λ_ _ _ H _ I h=>wpAny_Constant_int {.int i,H,I.tok _,{_,rfl},h}
def Mx {b j pos}:PE X (.Constant (.bool b) j pos) (tC (.bl b)):=λ_ _ _ H _ I h=>Constant_bool {.bl b,H,I,rfl,h}
def JH {j pos}:PE X (.Constant .none j pos) (tC .non):=λ_ _ _ H _ I h=>Constant_none {.non,H,I,rfl,h}
def JD {x j pos}:PE X (.Constant (.str x) j pos) (tC (.str x)):=λ_ _ _ H _ I h=>Calls.Constant_str {.str x,H,I.tok _,{_,rfl},h}
def Gl (X:Cx)(x:Str):Prop:=X.env.kindOf x=some .globalImplicit
def ky (I:Inv X pins σ H s)(j:Gl X x)(hm:X.mg x=some u)(h:Q u s)
 (hd:(x==("__debug__":Str))=false:=by decide):wpAny (model X.prog X.w) X.A (eval (.Name x pos) X.env) Q E s:=
 Calls.Name_function_global I.ok.kind j (Calls.loadGlobal_global (by rw[I.ok.glob];exact I.mod.glob.keeps I.bk) hm h) hd
def gP (I:Inv X pins σ H s)(j:Gl X x)(hm:X.mg x=none)(y:bootBuiltins x=some u)(h:Q u s)
 (hn:x≠"__name__":=by decide) (hd:(x==("__debug__":Str))=false:=by decide):wpAny (model X.prog X.w) X.A (eval (.Name x pos) X.env) Q E s:=by
 obtain⟨z,h1,h2⟩:=I.mod.blt;exact Calls.Name_function_global I.ok.kind j (Calls.loadGlobal_builtin (by rw[I.ok.glob];exact I.mod.glob.keeps I.bk) hm (by rw[I.ok.blt];exact h1.keeps I.bk) ((h2 x hn).trans y) h) hd
def kj (j:Gl X x)(hm:X.mg x=some u)(r:RelV v u)(hd:(x==("__debug__":Str))=false:=by decide):PE X (.Name x pos) (tC v):=
 λ_ _ _ H _ I h=>ky I j hm ⟨v,H,I,r,h⟩ hd
def GK (j:Gl X x)(hm:X.mg x=none)(y:bootBuiltins x=some u)(r:RelV v u)(hn:x≠"__name__":=by decide)(hd:(x==("__debug__":Str))=false:=by decide):PE X (.Name x pos) (tC v):=
 λ_ _ _ H _ I h=>gP I j hm y ⟨v,H,I,r,h⟩ hn hd
variable{a b:Expr}{ta tb:TE}{pos:Pos}
variable{tA tB':TT}{rest:List Expr}
def eW (t u:TT):TT:=λσ H Q=>t σ H λc H1=>if c=true then u σ H1 Q else Q false H1
def eQ (t u:TT):TT:=λσ H Q=>t σ H λc H1=>if c=true then Q true H1 else u σ H1 Q
def bM (t:TT):TT:=λσ H Q=>t σ H λc H1=>Q (!c) H1
def Gy (j:PT X a tA):PW X (.BoolOp .And [a] pos) tA:=by
 intro y pins s σ H Q I h;refine isTrue_and (aP (j pins s σ H Q I h) λc s1 e=>?_);cases c with
 |true=>exact isTrue_and_nil e
 |false=>exact e
def Jt (j:PT X a tA):PW X (.BoolOp .Or [a] pos) tA:=by
 intro y pins s σ H Q I h;refine isTrue_or (aP (j pins s σ H Q I h) λc s1 e=>?_);cases c with
 |false=>exact isTrue_or_nil e
 |true=>exact e
def Ju (z:PT X a tA)(B:PW X (.BoolOp .And (b::rest) pos) tB'):PW X (.BoolOp .And (a::b::rest) pos) (eW tA tB'):=by
 intro F pins s σ H Q I h;refine isTrue_and (aP (z pins s σ H _ I h) λc s1 ⟨H1,j,y⟩=>?_);cases c with
 |true=>exact B F pins s1 σ H1 Q j y
 |false=>exact⟨H1,j,y⟩
def Mq (z:PT X a tA)(B:PW X (.BoolOp .Or (b::rest) pos) tB'):PW X (.BoolOp .Or (a::b::rest) pos) (eQ tA tB'):=by
 intro F pins s σ H Q I h;refine isTrue_or (aP (z pins s σ H _ I h) λc s1 ⟨H1,j,y⟩=>?_);cases c with
 |true=>exact⟨H1,j,y⟩
 |false=>exact B F pins s1 σ H1 Q j y
def Jw (j:PT X a tA):PT X (.UnaryOp .Not a pos) (bM tA):=by
 intro pins s σ H Q I h;exact isTrue_not (j pins s σ H (λc H1=>Q (!c) H1) I h)
def Mh (ta tb:TE):TE:=λσ H Q=>ta σ H λx H1=>∃c,x=.bl c/\if c=true then tb σ H1 Q else Q (.bl false) H1
def OJ (ta tb:TE):TE:=λσ H Q=>ta σ H λx H1=>∃c,x=.bl c/\if c=true then Q (.bl true) H1 else tb σ H1 Q
def Me (ta:TE):TE:=λσ H Q=>ta σ H λx H1=>∃c,x=.bl c/\Q (.bl (!c)) H1
def JF {op}(h:PE X a t):PE X (.BoolOp op [a] pos) t:=λpins s σ H Q I j=>BoolOp_one (h pins s σ H Q I j)
def JJ (z:PE X a ta)(B:PE X (.BoolOp .And (b::rest) pos) tb):PE X (.BoolOp .And (a::b::rest) pos) (Mh ta tb):=by
 intro pins s σ H Q I h;refine BoolOp_and (aP (z pins s σ H _ I h) λv s1 ⟨x,H1,y,r1,j⟩=>?_);obtain⟨c,rfl,j⟩:=j;cases r1;refine tqp ?_;cases c with
 |true=>exact B pins s1 σ H1 Q y j
 |false=>exact{.bl false,H1,y,rfl,j}
def Ms (z:PE X a ta)(B:PE X (.BoolOp .Or (b::rest) pos) tb):PE X (.BoolOp .Or (a::b::rest) pos) (OJ ta tb):=by
 intro pins s σ H Q I h;refine BoolOp_or (aP (z pins s σ H _ I h) λv s1 ⟨x,H1,y,r1,j⟩=>?_);obtain⟨c,rfl,j⟩:=j;cases r1;refine tqp ?_;cases c with
 |false=>exact B pins s1 σ H1 Q y j
 |true=>exact{.bl true,H1,y,rfl,j}
def JG (z:PE X a ta):PE X (.UnaryOp .Not a pos) (Me ta):=by
 intro pins s σ H Q I h;refine UnaryOp_ (aP (z pins s σ H _ I h) λv s1 ⟨x,H1,y,r1,j⟩=>?_);obtain⟨c,rfl,j⟩:=j;cases r1;exact not_of (tqp {.bl (!c),H1,y,rfl,j})
def tIf (t:TT)(ta tb:TE):TE:=λσ H Q=>t σ H λc H1=>if c=true then ta σ H1 Q else tb σ H1 Q
def ud (F:PT X c tA)(z:PE X a ta)(B:PE X b tb):PE X (.IfExp c a b pos) (tIf tA ta tb):=by
 intro pins s σ H Q I h;refine wpAny_IfExp (aP (F pins s σ H _ I h) λd s1 ⟨H1,j,y⟩=>?_);cases d with
 |true=>exact z pins s1 σ H1 Q j y
 |false=>exact B pins s1 σ H1 Q j y
end
def cQ (K:Qs)(H:Hp)(a:Addr)(xs:List V):Prop:=
 Rd H a (.lst xs)\/
  ∃(o:Obj) (j:Array Qw) (n:Nat),K.lookup a=some o/\o.cls=.type "list"/\o.dict=none/\o.data=.seq j n/\j.size<=sizeLine/\Vals xs j.toList
def dO (K:Qs)(H:Hp)(a:Addr)(xs:List V):Prop:=
 Rd H a (.tup xs)\/
  ∃(o:Obj) (j:Array Qw) (n:Nat),K.lookup a=some o/\o.cls=.type "tuple"/\o.data=.seq j n/\j.size<=sizeLine/\Vals xs j.toList
noncomputable def PV:Qw->Option V
 |.none=>some .non
 |.bool b=>some (.bl b)
 |.int i _=>some (.int i)
 |.str x _=>some (.str x)
 |.bytes b _=>some (.byt b)
 |.float b _=>some (.flt b)
 |.ref a=>some (.ref a)
 |.type n=>some (.ty n)
 |_=>none
def RelV.abs (r:RelV x u):PV u=some x:=by
 cases x with
 |non=>cases r;rfl
 |bl _=>cases r;rfl
 |int _=>obtain⟨t,rfl⟩:=r;rfl
 |str _=>obtain⟨t,rfl⟩:=r;rfl
 |byt _=>obtain⟨t,rfl⟩:=r;rfl
 |flt _=>obtain⟨t,rfl⟩:=r;rfl
 |ref _=>cases r;rfl
 |ty _=>cases r;rfl
def RelV.inj (r:RelV x u)(q:RelV y u):x=y:=Qz (r.abs.symm.trans q.abs)
noncomputable def Vals.inj:∀{xs ys:List V}{us:List Qw},Vals xs us->Vals ys us->xs=ys
 |_,_,_,.nil,.nil=>rfl
 |_,_,_,.cons r t,.cons j y=>by rw[r.inj j,Vals.inj t y]
section
variable{X:Cx}{pins:List (Addr×Obj)}{σ:St}{H:Hp}{s:QA}{a:Addr}{xs ys:List V}
def cQ.of {K:Qs}(h:H a=some (.lst xs)):cQ K H a xs:=.inl (.inl h)
def dO.of {K:Qs}(h:H a=some (.tup xs)):dO K H a xs:=.inl (.inl h)
def Inv.list (I:Inv X pins σ H s)(h:cQ X.K H a xs):∃j:List Qw,Vals xs j/\PlainL s.heap a j.toArray/\xs.length<=sizeLine:=by
 rcases h with h|⟨o,j,n,hk,y,hd,hs,B,r⟩
 ·obtain⟨z,j,n,r,e⟩:=h.ok I.hok;exact{j,r,{_,n,e,rfl,rfl,rfl},z}
 ·refine{j.toList,r,{o,n,I.kIn a o hk,y,hd,by simpa using hs},?_}
  have e:=r.length;simp only[Sy] at e;omega
def Inv.tuple (I:Inv X pins σ H s)(h:dO X.K H a xs):∃j:List Qw,Vals xs j/\IsTup s.heap a j.toArray/\xs.length<=sizeLine:=by
 rcases h with h|⟨o,j,n,hk,y,hs,B,r⟩
 ·obtain⟨z,j,r,p⟩:=h.ok I.hok;exact⟨j,r,p,z⟩
 ·refine{j.toList,r,{o,I.kIn a o hk,y,n,by simpa using hs},?_}
  have e:=r.length;simp only[Sy] at e;omega
def Inv.list_inj (I:Inv X pins σ H s)(h:cQ X.K H a xs)(h':cQ X.K H a ys):xs=ys:=by
 obtain⟨y,r,⟨o,n,e,_,_,d⟩,_⟩:=I.list h;obtain⟨j,F,⟨o',J,B,_,_,z⟩,_⟩:=I.list h';rw[e] at B;cases B;rw[d] at z;injection z with d1 _
 have:y=j:=by simpa using congrArg Array.toList d1
 subst this;exact r.inj F
def Inv.tuple_inj (I:Inv X pins σ H s)(h:dO X.K H a xs)(h':dO X.K H a ys):xs=ys:=by
 obtain⟨y,r,⟨o,e,_,n,d⟩,_⟩:=I.tuple h;obtain⟨j,F,⟨o',B,_,J,z⟩,_⟩:=I.tuple h';rw[e] at B;cases B;rw[d] at z;injection z with d1 _
 have:y=j:=by simpa using congrArg Array.toList d1
 subst this;exact r.inj F
end
section
variable{X:Cx}{st:Stmt}{rest:List Stmt}{t u:TS}{e:Expr}{te:TE}{pos:Pos}
def D1:TS:=λD σ H=>D.nx σ H
def OH (t u:TS):TS:=λD σ H=>t {D with nx:=u D} σ H
def GC:kG X [] D1:=λ_ _ σ H _ I h=>wpAny_execs_nil ⟨σ,H,I,h⟩
def Cf (h1:PS X st t)(h2:kG X rest u):kG X (st::rest) (OH t u):=by
 intro pins s σ H D I h;refine wpAny_execs_cons (aP (h1 pins s σ H {D with nx:=u D} I h) λf s1 q=>?_)
 cases f with
 | next=>
   obtain⟨j,H',y,q⟩:=q;exact h2 pins s1 j H' D y q
 |ret v=>exact q
 |brk=>exact q
 |cont=>exact q
def GF:PS X (.Pass pos) D1:=λ_ _ σ H _ I h=>wpAny_Pass ⟨σ,H,I,h⟩
def Inv.quiet (I:Inv X pins σ H s):interactive X.env=false:=by simp[interactive,I.ok.kind]
def Mf (te:TE):TS:=λD σ H=>te σ H λ_ H1=>D.nx σ H1
def ki (he:PE X e te)(hs:swapsWith e none pos.line X.env=pure false:=by rfl):PS X (.Expr e pos) (Mf te):=by
 intro pins s σ H D I h;exact wpAny_Expr_any (aP (he pins s σ H _ I h) (by rintro v s1 ⟨x,H1,j,r1,y⟩;exact⟨σ,H1,j,y⟩)) I.quiet hs
def OI (te:TE):TS:=λD σ H=>te σ H D.rt
def zU (he:PE X e te):PS X (.Return (some e) pos) (OI te):=by
 intro pins s σ H D I h;exact wpAny_Return_some (aP (he pins s σ H _ I h) (by rintro v s1 ⟨x,H1,j,r1,y⟩;exact⟨x,σ,H1,j,r1,y⟩))
def Mc:TS:=λD _ H=>D.rt .non H
def GD:PS X (.Return none pos) Mc:=λ_ _ σ H _ I h=>wpAny_Return_none {.non,σ,H,I,rfl,h}
def OM (c:TT)(t u:TS):TS:=λD σ H=>c σ H λb H1=>if b=true then t D σ H1 else u D σ H1
def Mr (F:PT X c tc)(z:kG X a t)(B:kG X b u):PS X (.If c a b pos) (OM tc t u):=by
 intro pins s σ H D I h;refine wpAny_If (aP (F pins s σ H _ I h) λd s1 ⟨H1,j,y⟩=>?_);cases d with
 |true=>exact z pins s1 σ H1 D j y
 |false=>exact B pins s1 σ H1 D j y
end
abbrev TG:=V->St->Hp->(St->Hp->Prop)->Prop
abbrev w9:=List V->St->Hp->(St->Hp->Prop)->Prop
def PG (X:Cx)(j:Expr)(t:TG):Prop:=
 ∀(pins:List (Addr×Obj)) (s:QA) (σ:St) (H:Hp) (v:V) (u:Qw) (Q:St->Hp->Prop),Inv X pins σ H s->RelV v u->t v σ H Q->
  wpAny (model X.prog X.w) X.A (assign j X.env u) (λ_ s'=>∃y H',Inv X pins y H' s'/\Q y H') X.xe s
def vF (X:Cx)(ts:List Expr)(t:w9):Prop:=
 ∀(pins:List (Addr×Obj)) (s:QA) (σ:St) (H:Hp) (z:List V) (y:List Qw) (Q:St->Hp->Prop),Inv X pins σ H s->Vals z y->t z σ H Q->
  wpAny (model X.prog X.w) X.A (assignInOrder ((assignEach ts X.env).map (·.2)) y) (λ_ s'=>∃j H',Inv X pins j H' s'/\Q j H') X.xe s
abbrev Dn:=V->V->V->Hp->(Hp->Prop)->Prop
def Dr (X:Cx)(t:Dn):Prop:=
 ∀(pins:List (Addr×Obj)) (s:QA) (σ:St) (H:Hp) (o i v:V) (y j u:Qw) (Q:Hp->Prop),Inv X pins σ H s->RelV o y->RelV i j->RelV v u->t o i v H Q->
  wpAny (model X.prog X.w) X.A (setItem y j u) (λ_ s'=>∃H',Inv X pins σ H' s'/\Q H') X.xe s
abbrev LR:=V->V->Hp->VK->Prop
def Ow (X:Cx)(op:Operator)(t:LR):Prop:=
 ∀(pins:List (Addr×Obj)) (s:QA) (σ:St) (H:Hp) (x y:V) (v u:Qw) (Q:VK),Inv X pins σ H s->RelV x v->RelV y u->t x y H Q->
  wpAny (model X.prog X.w) X.A (inplaceOp op v u) (EP X pins σ Q) X.xe s
section
variable{X:Cx}{pos:Pos}
def MT (i:Nat):TG:=λv σ H Q=>Q (σ.set i (some v)) H
def qD (y:X.N.Nodup)(hi:X.N[i]?=some x)(z:Loc X.env.scope x)(hf:X.fn x=true\/X.env.scope.names.lookup x=some .local:=by first|exact .inl rfl|exact .inr rfl|assumption):PG X (.Name x pos) (MT i):=by
 intro pins s σ H v u Q I r h;exact wpAny_assign_Name (tH I y hi z r (λs' j=>{_,H,j,h}) hf)
noncomputable def bj:w9:=λj σ H Q=>j=[]/\Q σ H
def bz (t:TG)(u:w9):w9:=λy σ H Q=>∃v r,y=v::r/\t v σ H λj H'=>u r j H' Q
def wc:vF X [] bj:=by
 intro pins s σ H y j Q I r h;obtain⟨e,h⟩:=h;subst e;cases r;exact assignInOrder_nil ⟨σ,H,I,h⟩
def oM (h1:PG X e t)(h2:vF X es u)
 (hs:(assignEach (e::es) X.env).map (·.2)=assign e X.env::(assignEach es X.env).map (·.2):=by rfl):vF X (e::es) (bz t u):=by
 intro pins s σ H J F Q I r h;obtain⟨v,vr,e1,h⟩:=h;subst e1;cases r with
 | cons r B=>
   rw[hs];refine assignInOrder_cons (aP (h1 pins s σ H _ _ _ I r h) λ_ s1 ⟨j,H1,y,z⟩=>?_);exact h2 pins s1 j H1 _ _ Q y B z
def aU (K:Qs)(n:Nat)(t:w9):TG:=λv σ H Q=>∃a xs,v=.ref a/\dO K H a xs/\xs.length=n/\t xs σ H Q
def ua (F:X.calm=true)(h:vF X es t)
 (hn:(assignEach es X.env).length=n:=by rfl) (j:(assignEach es X.env).findIdx? (·.1)=none:=by rfl):PG X (.Tuple es k pos) (aU X.K n t):=by
 intro pins s σ H v u Q I r y;obtain⟨a,xs,e1,J,hl,y⟩:=y;subst e1;cases r;obtain⟨O,z,L,R⟩:=I.tuple J;refine assign_Tuple_tuple (I.ok.hd F) L (by simp[hn,<- hl,z.length]) j λh' M=>?_
 have B:=I.kept (t':=s.toks) λb o e=>M b o (Q6 (QW e)) e;exact h pins _ σ H xs _ Q B (by simpa using z) y
def Pt (to y:TE)(t:Dn):TG:=λv σ H Q=>to σ H λo H1=>y σ H1 λi H2=>t o i v H2 λj=>Q σ j
def zY (ho:PE X o to)(hi:PE X i ti)(hs:Dr X t)
 (M:∀v,assign (.Subscript o i pos) X.env v=(do
  let j <- holding [v] (eval o X.env)
  let z <- holding [v,j] (eval i X.env)
  standAt pos
  holding [v,j,z] (setItem j z v)
  release [v,j,z] []):=by intro _;rfl):PG X (.Subscript o i pos) (Pt to ti t):=by
 intro pins s σ H v u Q I r h;rw[M];refine tqa (tqo (aP (ho pins s σ H _ I h) λj s1 ⟨x,H1,F,r1,O⟩=>?_));refine tqa (tqo (aP (hi pins s1 σ H1 _ F O) λz s2 ⟨y,H2,J,r2,R⟩=>?_));refine tqa (wpAny_standAt (tqa (tqo (aP (hs pins s2 σ H2 x y v j z u _ J r1 r2 r R) λ_ U ⟨B,L,S⟩=>?_))));exact wpAny_release ⟨σ,B,L,S⟩
def OP (te:TE)(g:TG):TS:=λD σ H=>te σ H λx H1=>g x σ H1 D.nx
def mw (he:PE X e te)(y:PG X tg g)(hs:swapsWithSole [tg] e pos.line X.env=pure false:=by rfl)(z:swappedStores [tg] e X.env=pure none:=by rfl)
 (h1:(assignEach [tg] X.env).map (·.2)=[assign tg X.env]:=by rfl):PS X (.Assign [tg] e pos) (OP te g):=by
 intro pins s σ H D I h;refine wpAny_Assign_stores (aP (he pins s σ H _ I h) λv s1 ⟨x,H1,j,r1,B⟩=>?_) hs z;rw[h1];exact aP (y pins s1 σ H1 x v _ j r1 B) λ_ s2 q=>q
def OO (i:Nat)(te:TE)(j:LR):TS:=λD σ H=>∃x,σ[i]?=some (some x)/\te σ H λy H1=>j x y H1 λz H2=>D.nx (σ.set i (some z)) H2
def Jy (S:X.N.Nodup)(hi:X.N[i]?=some x)(J:Loc X.env.scope x)(he:PE X e te)(ho:Ow X op ti)(hf:X.fn x=true\/X.env.scope.names.lookup x=some .local:=by first|exact .inl rfl|exact .inr rfl|assumption) :
 PS X (.AugAssign (.Name x pos') op e pos) (OO i te ti):=by
 intro pins s σ H D I h;obtain⟨v,e1,h⟩:=h;obtain⟨m,hn,hl⟩:=I.loc;have L:w8 X.env.scope x:=by rcases J with k|k;exact .inl k;exact .inr (.inl k)
 obtain⟨u,r,l⟩:=hl i x v hi e1 L;refine wpAny_AugAssign_Name ?_;have go:wpAny (model X.prog X.w) X.A (eval e X.env) (λw B=>wpAny (model X.prog X.w) X.A (inplaceOp op u w) (λr F=>wpAny (model X.prog X.w) X.A (storeName X.env x r) (λ_=>SP X pins D .next) X.xe F) X.xe B) X.xe s:=by
  refine aP (he pins s σ H _ I h) ?_;rintro w s1 ⟨y,H1,M,r1,W⟩;refine aP (ho pins s1 σ H1 v y u w _ M r r1 W) ?_;rintro z s2 ⟨zv,H2,O,r2,Y⟩;exact tH O S hi J r2 (λs3 R=>{_,H2,R,Y}) hf
 rcases l with⟨hk,hm⟩|⟨hk,c,U,j⟩
 ·exact wpAny_loadName_local I.ok.kind hk hn hm go
 ·rcases hk with hk|hk
  ·exact wpAny_loadName_cell I.ok.kind hk U j go
  ·rcases J with k|k
   ·have:X.env.scope.names.lookup x=some .free:=hk;rw[k] at this;cases this
   ·have:X.env.scope.names.lookup x=some .free:=hk;rw[k] at this;cases this
def ipI (f:Int->Int->Int):LR:=λx y H Q=>∃i j,x=.int i/\y=.int j/\Q (.int (f i j)) H
def Ku:Ow X .Add (ipI λi j=>i+j):=by
 intro pins s σ H x y v u Q I r1 r2 h;obtain⟨i,j,e1,e2,q⟩:=h;subst e1;subst e2;obtain⟨t,rfl⟩:=r1;obtain⟨z,rfl⟩:=r2;exact iadd_int {.int _,H,I.tok _,{_,rfl},q}
end
section
variable{X:Cx}{pos:Pos}
def IH (c:TT)(tb:TS):TS:=λD σ H=>∃W:Nat->St->Hp->Prop,(∃m,W m σ H)/\∀m σ H,W m σ H->
 c σ H λb H1=>if b=true then ∃N:St->Hp->Prop,(∀j H',N j H'->∃y,y<m/\W y j H')/\tb {D with nx:=N,ct:=N,bk:=D.nx} σ H1 else D.nx σ H1
def Cg (Y:PassesOwn (model X.prog X.w) X.A X.env X.xe)(hc:PT X c tc)(hb:kG X body tb):PS X (.While c body [] pos) (IH tc tb):=by
 intro pins s σ H D I h;obtain⟨W,⟨m0,w0⟩,turn⟩:=h;refine wpAny_While (codeAny_whileLoop (λn s'=>∃B H',Inv X pins B H' s'/\W n B H') ?_ m0 ⟨σ,H,I,w0⟩);rintro n s1 ⟨y,H1,I1,w1⟩;refine wpAny_passesOwn Y (aP (hc pins s1 y H1 _ I1 (turn n y H1 w1)) λb s2 ⟨H2,S,F⟩=>?_);cases b with
 | true=>
   obtain⟨N,U,F⟩:=F;rw[if_pos rfl];refine wpAny_passesOwn Y (aP (hb pins s2 y H2 _ S F) λf s3 J=>?_);cases f with
   | next=>
     obtain⟨j,z,L,O⟩:=J;obtain⟨M,hm,R⟩:=U j z O;exact⟨M,hm,j,z,L,R⟩
   | cont=>
     obtain⟨j,z,L,O⟩:=J;obtain⟨M,hm,R⟩:=U j z O;exact⟨M,hm,j,z,L,R⟩
   |brk=>exact J
   |ret v=>exact J
 | false=>
   rw[if_neg QX];exact wpAny_execs_nil ⟨y,H2,S,F⟩
end
structure It where
 go:Nat->Hp->Prop
 yld:Nat->Hp->V->Hp->Prop
 stop:Nat->Hp->Prop
def fN (X:Cx)(pins:List (Addr×Obj))(H:Hp)(b:Addr):Prop:=
 H b=none/\b≠X.env.locals/\b∉X.fs/\(b∈X.ex\/X.s₀.heap.objs.size<=b)/\(∀x c,X.env.cells.lookup x=some c->c≠b)/\∀p∈X.pn++pins,p.1≠b
def Inv.fpOk (I:Inv X pins σ H s)(j:s.heap.objs.size<=b)(hn:H' b=none):fN X pins H' b:=by
 refine{hn,Ry (QO I.lt j),I.nofs j,.inr (QC I.sz j),λx c e z=>?_,λp y z=>?_}
 ·obtain⟨v,q⟩:=I.cell x c e;exact absurd (QO q.lt (by rw[z];exact j)) (RO _)
 ·exact absurd (QO (QW (I.pin p y).1) (by rw[z];exact j)) (RO _)
structure Turn (P:Rj) (w:Q8) (K:Qs) (tg:Expr) (J:It) (fp:List Addr) (it:Addr) (tn:Nat->Heap->Prop):Prop where
 mem:it∈fp
 obj:∀i h,tn i h->∀b∈fp,∃o,h.get? b=some o/\∀v,o.data≠.cell v
 keep:∀i h h',tn i h->(∀b∈fp,∀o,h.get? b=some o->h'.get? b=some o)->tn i h'
 item:∀(X:Cx),X.prog=P->X.w=w->X.K=K->X.calm=true->∀(i:Nat) (pins:List (Addr×Obj)) (s:QA) (σ:St) (H:Hp) (E:Qw->QA->Prop),Inv X pins σ H s->(∀b∈fp,fN X pins H b)->tn i s.heap->J.go i H->
  wpAny (model P w) X.A (pyNext (.ref it)) (λr s1=>∃u,r=some u/\
   wpAny (model P w) X.A (letOwnedTupleGo tg (.ref it) u) (λ_ s2=>∃x H',Inv X pins σ H' s2/\RelV x u/\J.yld i H x H'/\tn (i+1) s2.heap/\∀b∈fp,H' b=none) E s1) E s
 done:∀(X:Cx),X.prog=P->X.w=w->X.K=K->X.calm=true->∀(i:Nat) (pins:List (Addr×Obj)) (s:QA) (σ:St) (H:Hp) (E:Qw->QA->Prop),Inv X pins σ H s->(∀b∈fp,fN X pins H b)->tn i s.heap->J.stop i H->
  wpAny (model P w) X.A (pyNext (.ref it)) (λr s1=>r=none/\Inv X pins σ H s1) E s
 self:∀(A:R6) (i:Nat) (s:QA) (Q:Qw->QA->Prop) (E:Qw->QA->Prop),tn i s.heap->Q (.ref it) s->wpAny (model P w) A (pyIter (.ref it)) Q E s
abbrev TI:=St->Hp->(It->Hp->Prop)->Prop
def LU (X:Cx)(pins:List (Addr×Obj))(σ:St)(tg:Expr)(R:It->Hp->Prop)(j:Qw)(s2:QA):Prop:=
 ∃(z:Addr) (y:List Addr) (B:Nat->Heap->Prop) (J:It) (H':Hp),j=.ref z/\Inv X pins σ H' s2/\Turn X.prog X.w X.K tg J y z B/\B 0 s2.heap/\(∀b∈y,fN X pins H' b)/\R J H'
def PI (X:Cx)(tg j:Expr)(y:TI):Prop:=
 ∀(pins:List (Addr×Obj)) (s:QA) (σ:St) (H:Hp) (R:It->Hp->Prop),Inv X pins σ H s->y σ H R->
  wpAny (model X.prog X.w) X.A (eval j X.env) (λv s1=>wpAny (model X.prog X.w) X.A (pyIter v) (LU X pins σ tg R) X.xe s1) X.xe s
def ya (ho:s.heap.get? it=some o)(y:o.cls=.type n)(hd:o.data=.fields vs)
 (hn:["enumerate","zip","dict_itemiterator","dict_reverseitemiterator","odict_iterator","itertools.zip_longest","itertools.pairwise"].contains n=false) (j:Q () s):wpAny M A (letOwnedTupleGo tg (.ref it) u) Q E s:=by
 cases tg<;>first
  |exact tqb j
  |(cases u<;>first
   |exact tqb j
   | (refine tqa (wpAny_load ho ?_)
      rw[y,hd];show wpAny M A (if (["enumerate","zip","dict_itemiterator","dict_reverseitemiterator","odict_iterator","itertools.zip_longest","itertools.pairwise"].contains n&&vs[0]?==some (rawInt _))=true then _ else _) Q E s;rw[if_neg (by intro h;rw[hn,Bool.false_and] at h;cases h)]
      exact tqb j))
def LZ (K:Qs)(a:Addr):It:=
 {λi H=>∃xs x,cQ K H a xs/\xs[i]?=some x,λi H x H'=>H'=H/\∀xs,cQ K H a xs->xs[i]?=some x,λi H=>∃xs,cQ K H a xs/\xs.length<=i}
def LY (K:Qs)(a:Addr):It:=
 {λi H=>∃xs x,dO K H a xs/\xs[i]?=some x,λi H x H'=>H'=H/\∀xs,dO K H a xs->xs[i]?=some x,λi H=>∃xs,dO K H a xs/\xs.length<=i}
def E9 (lo:Int)(n:Nat):It:={λi _=>i<n,λi H x H'=>H'=H/\x=.int (lo+i),λi _=>n<=i}
def zh {K:Qs}(a y:Addr):Turn P w K tg (LZ K a) [y] y (λi h=>h.IsListIter y a i) where
 mem:=`s
 obj:=λi h st b j=>by
  have e:b=y:=by simpa using j
  subst e;obtain⟨o,e,c,d⟩:=st;exact{o,e,λv z=>by rw[d] at z;cases z}
 keep:=λi h h' st k=>st.at λo e=>k y `s o e
 item:=by
  intro X S Y R hc i pins s σ H E I hf st U;subst S Y R;obtain⟨xs,x,F,hx⟩:=U;obtain⟨its,rv,p,hz⟩:=I.list F;obtain⟨u,hu,ru⟩:=rv.get hx;obtain⟨J,f1,f2,L,M,O⟩:=hf y `s
  refine wpAny_pyNext_list_item st p.isList (by simpa using hu) λh' B sb=>?_
  have I1:=I.turned (t':=s.toks) (λb o j e=>(sb.2 b j).trans e) J f1 L M O;obtain⟨o,e,c,d⟩:=id B;exact{u,rfl,ya e c d `d {x,H,I1,ru,{rfl,λys hy=>by rw[I.list_inj hy F];exact hx},B,λb j=>(hf b j).1}}
 done:=by
  intro X S Y R hc i pins s σ H E I hf st U;subst S Y R;obtain⟨xs,F,hx⟩:=U;obtain⟨its,rv,p,hz⟩:=I.list F;obtain⟨J,f1,f2,L,M,O⟩:=hf y `s
  have hl:=rv.length;exact wpAny_pyNext_list_end (I.ok.hd hc) st p.isList `o λh' eb=>{rfl,I.turned (λb o j e=>eb b o j e) J f1 L M O}
 self:=λ_ _ _ _ _ st h=>wpAny_pyIter_listiter st h
def xl {K:Qs}(a y:Addr):Turn P w K tg (LY K a) [y] y (λi h=>h.IsTupleIter y a i) where
 mem:=`s
 obj:=λi h st b j=>by
  have e:b=y:=by simpa using j
  subst e;obtain⟨o,e,c,d⟩:=st;exact{o,e,λv z=>by rw[d] at z;cases z}
 keep:=λi h h' st k=>st.at λo e=>k y `s o e
 item:=by
  intro X S Y R hc i pins s σ H E I hf st U;subst S Y R;obtain⟨xs,x,F,hx⟩:=U;obtain⟨its,rv,p,hz⟩:=I.tuple F;obtain⟨u,hu,ru⟩:=rv.get hx;obtain⟨J,f1,f2,L,M,O⟩:=hf y `s
  refine wpAny_pyNext_tuple_item st (p) (by simpa using hu) λh' B sb=>?_
  have I1:=I.turned (t':=s.toks) (λb o j e=>(sb.2 b j).trans e) J f1 L M O;obtain⟨o,e,c,d⟩:=id B;exact{u,rfl,ya e c d `d {x,H,I1,ru,{rfl,λys hy=>by rw[I.tuple_inj hy F];exact hx},B,λb j=>(hf b j).1}}
 done:=by
  intro X S Y R hc i pins s σ H E I hf st U;subst S Y R;obtain⟨xs,F,hx⟩:=U;obtain⟨its,rv,p,hz⟩:=I.tuple F;obtain⟨J,f1,f2,L,M,O⟩:=hf y `s
  have hl:=rv.length;exact wpAny_pyNext_tuple_end (I.ok.hd hc) st (p) `o λh' eb=>{rfl,I.turned (λb o j e=>eb b o j e) J f1 L M O}
 self:=λ_ _ _ _ _ st h=>wpAny_pyIter_tupleiter st h
def xm {K:Qs}(j:Addr)(lo:Int)(n:Nat):Turn P w K tg (E9 lo n) [j] j (λi h=>IsRangeIter h j (lo+(i:Nat)*1) ((n:Int)-(i:Nat)) 1) where
 mem:=`s
 obj:=λi h st b y=>by
  have e:b=j:=by simpa using y
  subst e;exact{_,st,λv z=>by
   have z':=z;cases z'}
 keep:=λi h h' st k=>k j `s _ st
 item:=by
  intro X R Y O S i pins s σ H E I hf st U;subst R Y O;obtain⟨F,f1,f2,J,L,M⟩:=hf j `s
  have W:=Walks.range (prog:=X.prog) (w:=X.w) (I.ok.hd S) j lo 1 n;refine W.item i s _ _ U st λv h' tk hv B kk=>?_;obtain⟨t,rfl⟩:=hv;have I1:Inv X pins σ H {s with heap:=h',toks:=tk}:=I.turned (λb o y e=>kk b o (by simpa using y) e) F f1 J L M
  refine{_,rfl,ya B rfl rfl `d {.int (lo+i),H,I1,{t,?_},⟨rfl,rfl⟩,B,λb y=>(hf b y).1}}
  rw[Int.mul_one]
 done:=by
  intro X R Y O S i pins s σ H E I hf st U;subst R Y O;obtain⟨F,f1,f2,J,L,M⟩:=hf j `s
  exact wpAny_pyNext_range_end (I.ok.hd S) st (by have:n<=i:=U;omega) λh' eb=>{rfl,I.turned (λb o y e=>eb b o y e) F f1 J L M}
 self:=λ_ _ _ _ _ st h=>wpAny_pyIter_rangeiter st h
section
variable{X:Cx}{tg:Expr}
def MR (K:Qs)(tl:TE):TI:=λσ H R=>tl σ H λx H1=>∃a,x=.ref a/\(∃xs,cQ K H1 a xs)/\R (LZ K a) H1
def Pr (K:Qs)(tl:TE):TI:=λσ H R=>tl σ H λx H1=>∃a,x=.ref a/\(∃xs,dO K H1 a xs)/\R (LY K a) H1
def GI (hl:PE X l tl):PI X tg l (MR X.K tl):=by
 intro pins s σ H R I h;refine aP (hl pins s σ H _ I h) ?_;rintro v s1 ⟨x,H1,j,r1,F⟩;obtain⟨a,e,⟨xs,z⟩,q⟩:=F;subst e;cases r1;obtain⟨B,L,p,J⟩:=j.list z;refine wpAny_pyIter_list p.isList ?_;refine{s1.heap.objs.size,[s1.heap.objs.size],_,_,H1,rfl,j.kept λb o e=>Qu _ e,zh a _,{_,QY _ rfl,rfl,rfl},λb y=>?_,q};have e:b=s1.heap.objs.size:=by simpa using y
 subst e;exact j.fpOk (Qy _) (j.hok.fresh (Qy _))
def JA (hl:PE X l tl):PI X tg l (Pr X.K tl):=by
 intro pins s σ H R I h;refine aP (hl pins s σ H _ I h) ?_;rintro v s1 ⟨x,H1,j,r1,F⟩;obtain⟨a,e,⟨xs,z⟩,q⟩:=F;subst e;cases r1;obtain⟨B,L,p,J⟩:=j.tuple z;refine wpAny_pyIter_tuple (p) ?_;refine{s1.heap.objs.size,[s1.heap.objs.size],_,_,H1,rfl,j.kept λb o e=>Qu _ e,xl a _,{_,QY _ rfl,rfl,rfl},λb y=>?_,q};have e:b=s1.heap.objs.size:=by simpa using y
 subst e;exact j.fpOk (Qy _) (j.hok.fresh (Qy _))
def Cb {lo hi:Int}(I:Inv X pins σ H s)(h1:-(2^62)<=lo)(h2:lo<2^62)(h3:-(2^62)<=hi)(h4:hi<2^62)
 (q:R (E9 lo (hi-lo).toNat) H):wpAny (model X.prog X.w) X.A (pyIter (.ref s.heap.objs.size)) (LU X pins σ tg R) E {s with heap:=s.heap.push {cls:=.type "range",data:=.fields #[.int lo t,.int hi u,.int 1 v]},toks:=tk}:=by
 refine wpAny_pyIter_range (IsRange.new ..) (small_one h1 h2 h3 h4) ?_;have j:Inv X pins σ H {s with heap:=s.heap.push {cls:=.type "range",data:=.fields #[.int lo t,.int hi u,.int 1 v]},toks:=tk}:=I.kept λb o e=>Qu _ e
 refine{(s.heap.push {cls:=.type "range",data:=.fields #[.int lo t,.int hi u,.int 1 v]}).objs.size,[(s.heap.push {cls:=.type "range",data:=.fields #[.int lo t,.int hi u,.int 1 v]}).objs.size],_,_,H,rfl,
  j.kept λb o e=>Qu _ e,xm _ lo (hi-lo).toNat,?_,λb y=>?_,q}
 ·have e1:lo+((0:Nat):Int)*1=lo:=`s
  have e2:(((hi-lo).toNat:Nat):Int)-((0:Nat):Int)=Builtin.Range.rangeSize lo hi 1:=by rw[rangeSize_one];split<;>omega
  rw[e1,e2];exact QY _ rfl
 ·have e:b=(s.heap.push {cls:=.type "range",data:=.fields #[.int lo t,.int hi u,.int 1 v]}).objs.size:=by simpa using y
  subst e;exact j.fpOk (Qy _) (j.hok.fresh (Qy _))
def MQ (ta:TA):TI:=λσ H R=>ta σ H λy H1=>∃j:Int,y=[.int j]/\-(2^62)<=j/\j<2^62/\R (E9 0 j.toNat) H1
def zX {ta:TA}{p pos:Pos}(F:Gl X "range")(hm:X.mg "range"=none)(B:PA X [a] ta)(hs:starEach [a] X.env=[(false,eval a X.env)]:=by rfl):PI X tg (.Call (.Name "range" p) [a] [] pos) (MQ ta):=by
 intro pins s σ H R I h;refine Call_ (gP I F hm boot_range (RZ (aP (B pos pins s σ H _ I h) λM s1 ⟨O,H1,z,r1,y⟩=>?_) hs rfl));obtain⟨j,e,y,J,q⟩:=y;subst e;cases r1 with
 | cons r L=>
   cases L;obtain⟨t,rfl⟩:=r;exact call_range_1 (Cb z `a `a y J (by simpa using q))
def ON (wi:TI)(g:TG)(tb:TS):TS:=λD σ H=>wi σ H λJ H1=>∃W:Nat->Nat->St->Hp->Prop,(∃m,W 0 m σ H1)/\∀i m σ H,W i m σ H->
 (J.stop i H/\D.nx σ H)\/(J.go i H/\∃N:St->Hp->Prop,(∀σ' H',N σ' H'->∃m',m'<m/\W (i+1) m' σ' H')/\∀x H',J.yld i H x H'->g x σ H' λσ2 H2=>tb {D with nx:=N,ct:=N,bk:=D.nx} σ2 H2)
noncomputable def pG (j:List Addr)(h:Heap):List (Addr×Obj):=j.filterMap λb=>(h.get? b).map λo=>(b,o)
def iK (j:b∈fp)(e:h.get? b=some o):(b,o)∈pG fp h:=List.mem_filterMap.mpr {b,j,by rw[e];rfl}
def Ac (z:p∈pG fp h):p.1∈fp/\h.get? p.1=some p.2:=by
 obtain⟨b,y,e⟩:=List.mem_filterMap.mp z;cases q:h.get? b with
 |none=>rw[q] at e;cases e
 | some o=>
   rw[q] at e;have j:=Qz e;subst j;exact⟨y,q⟩
def Inv.pinned (I:Inv X pins σ H s)(hf:∀b∈y,fN X pins H b)(ho:∀b∈y,∃o,s.heap.get? b=some o/\∀v,o.data≠.cell v):Inv X (pins++pG y s.heap) σ H s:=
 I.pins_of λp L=>(Q2.mp L).elim (λz=>I.pin p (Rh _ z)) λz=>by
  obtain⟨B,e⟩:=Ac z;obtain⟨F,f1,J,_⟩:=hf p.1 B;obtain⟨o,j,d⟩:=ho p.1 B;rw[e] at j;cases j;exact⟨e,F,f1,J,d⟩
def Inv.unpinned (I:Inv X (pins++pl) σ H s):Inv X pins σ H s:=I.pins_of λp j=>I.pin p (Rh _ (RE _ j))
def Jx (hp:PassesOwn (model X.prog X.w) X.A X.env X.xe)(hc:X.calm=true)(hi:PI X tg iter wi)(hg:PG X tg g)(F:kG X body tb)
 (hs:∀x,foldedSetIterable iter X.env x=pure x:=by intro _;rfl):PS X (.For tg iter body [] pos) (ON wi g tb):=by
 intro pins s σ H D I h;refine wpAny_For (aP (hi pins s σ H _ I h) λv s1 h1=>aP h1 λitv s2 h2=>?_) hs;obtain⟨it,U,tn,J,H2,e,I2,T,st2,f2,W,⟨m0,w0⟩,turn⟩:=h2;subst e;have L:∀{H':Hp},(∀b∈U,H' b=none)->∀b∈U,fN X pins H' b:=λhn b F=>{hn b F,(f2 b F).2};refine codeAny_forLoop_any (λn s'=>∃i M H',Inv X pins M H' s'/\tn i s'.heap/\(∀b∈U,H' b=none)/\W i n M H') ?_ m0 {0,σ,H2,I2,st2,λb F=>(f2 b F).1,w0};rintro n s3 ⟨i,O,H3,I3,st3,Y,w3⟩;rcases turn i n O H3 w3 with⟨stop,qn⟩|⟨go,N,hN,step⟩
 ·refine wpAny_passesOwn hp (aP (T.done X rfl rfl rfl hc i pins s3 O H3 X.xe I3 (L Y) st3 stop) λr s4 ⟨hr,I4⟩=>?_);subst hr;exact wpAny_execs_nil ⟨O,H3,I4,qn⟩
 ·refine wpAny_passesOwn hp (aP (T.item X rfl rfl rfl hc i pins s3 O H3 X.xe I3 (L Y) st3 go) λr s4 ⟨u,hr,h4⟩=>?_);subst hr;refine wpAny_passesOwn hp (aP h4 λ_ s5 ⟨x,H5,I5,r5,y5,S,fr5⟩=>?_);have I5':=I5.pinned (L fr5) (T.obj _ _ S);refine wpAny_passesOwn hp (aP (hg _ s5 O H5 x u _ I5' r5 (step x H5 y5)) λ_ s6 ⟨σ6,H6,I6,q6⟩=>?_);refine wpAny_passesOwn hp (aP (F _ s6 σ6 H6 _ I6 q6) λf s7 R=>?_);have B:∀{j:St}{y:Hp},Inv X (pins++pG U s5.heap) j y s7->N j y->∃m,m<n/\∃i M H',Inv X pins M H' s7/\tn i s7.heap/\(∀b∈U,H' b=none)/\W i m M H':=λ{j y} z n7=>by
   obtain⟨m',hm,w7⟩:=hN j y n7;refine{m',hm,i+1,j,y,z.unpinned,T.keep _ _ _ S λb F o e=>(z.pin (b,o) (Rh _ (Rh _ (iK F e)))).1,λb F=>?_,w7};obtain⟨o,e,d⟩:=T.obj _ _ S b F;exact(z.pin (b,o) (Rh _ (Rh _ (iK F e)))).2.1
  cases f with
  |next=>obtain⟨j,y,z,n7⟩:=R;exact B z n7
  |cont=>obtain⟨j,y,z,n7⟩:=R;exact B z n7
  |brk=>obtain⟨j,y,z,R⟩:=R;exact⟨j,y,z.unpinned,R⟩
  |ret v=>obtain⟨x7,j,y,z,r7,R⟩:=R;exact⟨x7,j,y,z.unpinned,r7,R⟩
end
abbrev R2:=V->V->Hp->VK->Prop
def bL (X:Cx)(f:Qw->Qw->Sem Qw)(r:R2):Prop:=
 ∀(pins:List (Addr×Obj)) (s:QA) (σ:St) (H:Hp) (x y:V) (v u:Qw) (Q:VK),Inv X pins σ H s->RelV x v->RelV y u->r x y H Q->
  wpAny (model X.prog X.w) X.A (f v u) (EP X pins σ Q) X.xe s
def LQ (X:Cx)(f:Qw->Sem Qw)(r:V->Hp->VK->Prop):Prop:=
 ∀(pins:List (Addr×Obj)) (s:QA) (σ:St) (H:Hp) (x:V) (v:Qw) (Q:VK),Inv X pins σ H s->RelV x v->r x H Q->
  wpAny (model X.prog X.w) X.A (f v) (EP X pins σ Q) X.xe s
def cf (X:Cx)(f:Qw)(r:List V->Hp->VK->Prop):Prop:=
 ∀(pins:List (Addr×Obj)) (s:QA) (σ:St) (H:Hp) (xs:List V) (j:List Qw) (Q:VK),Inv X pins σ H s->Vals xs j->r xs H Q->
  wpAny (model X.prog X.w) X.A (call f j) (EP X pins σ Q) X.xe s
def PY (X:Cx)(r:V->Hp->(Bool->Hp->Prop)->Prop):Prop:=
 ∀(pins:List (Addr×Obj)) (s:QA) (σ:St) (H:Hp) (x:V) (v:Qw) (Q:Bool->Hp->Prop),Inv X pins σ H s->RelV x v->r x H Q->
  wpAny (model X.prog X.w) X.A (truthy v) (TP X pins σ Q) X.xe s
def zm (r:R2)(ta tb:TE):TE:=λσ H Q=>ta σ H λx H1=>tb σ H1 λy H2=>r x y H2 Q
def tUn (r:V->Hp->VK->Prop)(ta:TE):TE:=λσ H Q=>ta σ H λx H1=>r x H1 Q
def rI (C:Int->Int->Prop)(g:Int->Int->V):R2:=λx y H Q=>∃i j,x=.int i/\y=.int j/\C i j/\Q (g i j) H
def rL (g:Int->Int->V):R2:=λx y H Q=>∃i j,x=.int i/\y=.int j/\Q (g i j) H
def rU (g:Int->V):V->Hp->VK->Prop:=λx H Q=>∃i,x=.int i/\Q (g i) H
section
variable{X:Cx}{a b c:Expr}{ta tb tc:TE}{pos:Pos}
def Di (J:PE X a ta)(L:PE X b tb){R:V->V->Hp->Prop}(I:Inv X pins σ H s)
 (h:ta σ H λx H1=>tb σ H1 λy H2=>R x y H2) {f:Qw->Qw->Sem Qw}
 (hf:∀v u s2 x y H2,Inv X pins σ H2 s2->RelV x v->RelV y u->R x y H2->wpAny (model X.prog X.w) X.A (f v u) Q X.xe s2) :
 wpAny (model X.prog X.w) X.A (eval a X.env) (λv j=>wpAny (model X.prog X.w) X.A (eval b X.env) (λu z=>wpAny (model X.prog X.w) X.A (f v u) Q X.xe z) X.xe j) X.xe s:=by
 refine aP (J pins s σ H _ I h) ?_;rintro v s1 ⟨x,H1,B,r1,M⟩;refine aP (L pins s1 σ H1 _ B M) ?_;rintro u s2 ⟨y,H2,F,r2,O⟩;exact hf v u s2 x y H2 F r1 r2 O
def Mv {r:R2}(ho:bL X (binaryOp op) r)(z:PE X a ta)(B:PE X b tb):PE X (.BinOp a op b pos) (zm r ta tb):=by
 intro pins s σ H Q I h;exact wpAny_BinOp (Di z B I h λv u s2 x y H2 j F J q=>ho pins s2 σ H2 x y v u Q j F J q)
def Ea (ho:LQ X (unaryOp op) r)(y:PE X a ta):PE X (.UnaryOp op a pos) (tUn r ta):=by
 intro pins s σ H Q I h;exact UnaryOp_ (aP (y pins s σ H _ I h) (by rintro v s1 ⟨x,H1,j,r1,z⟩;exact ho pins s1 σ H1 x v Q j r1 z))
def Ec {g:Int->Int->Int}
 (rule:∀(i j:Int) (t u:Tok) (s:QA) (Q:Qw->QA->Prop) (E:Qw->QA->Prop),C i j->Q (.int (g i j) s.toks) {s with toks:=s.toks+1}->wpAny (model X.prog X.w) X.A (f (.int i t) (.int j u)) Q E s) :
 bL X f (rI C λi j=>.int (g i j)):=by
 intro pins s σ H x y v u Q I B F h;obtain⟨i,j,rfl,rfl,z,q⟩:=h;obtain⟨t,rfl⟩:=B;obtain⟨J,rfl⟩:=F;exact rule i j t J s _ _ z {.int (g i j),H,I.tok _,{_,rfl},q}
def JS {g:Int->Int->Int}
 (rule:∀(i j:Int) (t u:Tok) (s:QA) (Q:Qw->QA->Prop) (E:Qw->QA->Prop),Q (.int (g i j) s.toks) {s with toks:=s.toks+1}->wpAny (model X.prog X.w) X.A (f (.int i t) (.int j u)) Q E s) :
 bL X f (rL λi j=>.int (g i j)):=by
 intro pins s σ H x y v u Q I z B h;obtain⟨i,j,rfl,rfl,q⟩:=h;obtain⟨t,rfl⟩:=z;obtain⟨F,rfl⟩:=B;exact rule i j t F s _ _ {.int (g i j),H,I.tok _,{_,rfl},q}
def xH {g:Int->Int->Bool}
 (rule:∀(i j:Int) (t u:Tok) (s:QA) (Q:Qw->QA->Prop) (E:Qw->QA->Prop),Q (.bool (g i j)) s->wpAny (model X.prog X.w) X.A (f (.int i t) (.int j u)) Q E s) :
 bL X f (rL λi j=>.bl (g i j)):=by
 intro pins s σ H x y v u Q I z B h;obtain⟨i,j,rfl,rfl,q⟩:=h;obtain⟨t,rfl⟩:=z;obtain⟨F,rfl⟩:=B;exact rule i j t F s _ _ {.bl (g i j),H,I,rfl,q}
def L4 (i j:Int):Prop:=0<j/\j<1073741824
def L3 (i j:Int):Prop:=0<=j/\j<=1000000/\i.natAbs<2^64
def Du (i j:Int):Prop:=(-(2^64)<i/\i<2^64)\/(-(2^64)<j/\j<2^64)
def Du.ok {i j:Int}(h:Du i j):IntMulOk i j:=by
 rcases h with⟨h1,h2⟩|⟨h1,h2⟩
 ·exact .of_left (intBits_le_64 h1 h2)
 ·exact .of_right (intBits_le_64 h1 h2)
def JR:bL X (binaryOp .Add) (rL λi j=>.int (i+j)):=JS λ_ _ _ _ _ _ _ q=>add_int q
def JK:bL X (binaryOp .Sub) (rL λi j=>.int (i-j)):=JS λ_ _ _ _ _ _ _ q=>sub_int q
def JN:bL X (binaryOp .Mult) (rI Du λi j=>.int (i*j)):=Ec λ_ _ _ _ _ _ _ y q=>mul_int q y.ok
def GO:bL X (binaryOp .FloorDiv) (rI L4 λi j=>.int (i / j)):=Ec λi j _ _ _ _ _ y q=>by
 have h1:=y.1;have h2:=y.2;exact floordiv_int `a (by rw[Int.fdiv_eq_ediv_of_nonneg i `a];exact q) (.inl (PyProof.noPylong_small `a))
def JO:bL X (binaryOp .Mod) (rI (λ_ j=>0<j) λi j=>.int (i % j)):=Ec λi j _ _ _ _ _ y q=>by
 have h1:=y;exact mod_int' `a (by rw[Int.fmod_eq_emod_of_nonneg i `a];exact q)
def JM:bL X (binaryOp .Pow) (rI L3 λi j=>.int (i^j.toNat)):=Ec λ_ _ _ _ _ _ _ y q=>pow_int_small y.1 y.2.1 y.2.2 q
def unI {g:Int->Int}
 (rule:∀(i:Int) (t:Tok) (s:QA) (Q:Qw->QA->Prop) (E:Qw->QA->Prop),Q (.int (g i) s.toks) {s with toks:=s.toks+1}->wpAny (model X.prog X.w) X.A (f (.int i t)) Q E s) :
 LQ X f (rU λi=>.int (g i)):=by
 intro pins s σ H x v Q I j h;obtain⟨i,rfl,q⟩:=h;obtain⟨t,rfl⟩:=j;exact rule i t s _ _ {.int (g i),H,I.tok _,{_,rfl},q}
def yW:LQ X (unaryOp .USub) (rU λi=>.int (-i)):=unI λ_ _ _ _ _ q=>neg_int q
end
noncomputable def IY:V->V->Bool
 |.non,.non=>true|.non,.int _=>true|.int _,.non=>true|.non,.bl _=>true|.bl _,.non=>true|.non,.str _=>true|.str _,.non=>true
 |.int _,.int _=>true|.bl _,.bl _=>true|.str _,.str _=>true|.byt _,.byt _=>true
 |.int _,.str _=>true|.str _,.int _=>true|.bl _,.str _=>true|.str _,.bl _=>true
 |_,_=>false
def rEq:R2:=λx y H Q=>IY x y=true/\Q (.bl (decide (x=y))) H
def rNe:R2:=λx y H Q=>IY x y=true/\Q (.bl (!decide (x=y))) H
def wR {i j:Int}:decide (V.int i=V.int j)=(i==j):=by
 rw[RX];simp
def AQ:decide (V.bl i=V.bl j)=(i==j):=by
 rw[RX];simp
def nW:decide (V.str i=V.str j)=(i==j):=by
 rw[RX];simp
def wU:decide (V.byt i=V.byt j)=(i.toList==j.toList):=by
 rw[RX];cases i;cases j;simp
section
variable{X:Cx}{a b c:Expr}{ta tb tc:TE}{pos:Pos}
def bA (I:Inv X pins σ H s)(q:Q (.bl k) H)(e:k=k'):EP X pins σ Q (.bool k') s:=by
 subst e;exact{.bl k,H,I,rfl,q}
def ME:bL X (compareOp .Eq) rEq:=by
 intro pins s σ H x y v u Q I F z h;obtain⟨hs,q⟩:=h;cases x with
 | non=>
   cases F;cases y with
   |non=>cases z;exact PySem.EqNone.eq_none_none (bA I q `s)
   |bl j=>cases z;exact PySem.EqNone.eq_none_bool (bA I q `s)
   |int j=>obtain⟨B,rfl⟩:=z;exact PySem.EqNone.eq_none_int (bA I q `s)
   |str j=>obtain⟨B,rfl⟩:=z;exact PySem.EqNone.eq_none_str (bA I q `s)
   |_=>exact absurd (hs) QX
 | bl i=>
   cases F;cases y with
   |non=>cases z;exact PySem.EqNone.eq_bool_none (bA I q `s)
   |bl j=>cases z;exact eq_bool (bA I q AQ)
   |str j=>obtain⟨B,rfl⟩:=z;exact PySem.EqMixed.eq_bool_str (bA I q `s)
   |_=>exact absurd (hs) QX
 | int i=>
   obtain⟨t,rfl⟩:=F;cases y with
   |non=>cases z;exact PySem.EqNone.eq_int_none (bA I q `s)
   |int j=>obtain⟨B,rfl⟩:=z;exact eq_int (bA I q wR)
   |str j=>obtain⟨B,rfl⟩:=z;exact PySem.EqMixed.eq_int_str (bA I q `s)
   |_=>exact absurd (hs) QX
 | str i=>
   obtain⟨t,rfl⟩:=F;cases y with
   |non=>cases z;exact PySem.EqNone.eq_str_none (bA I q `s)
   |bl j=>cases z;exact PySem.EqMixed.eq_str_bool (bA I q `s)
   |int j=>obtain⟨B,rfl⟩:=z;exact PySem.EqMixed.eq_str_int (bA I q `s)
   |str j=>obtain⟨B,rfl⟩:=z;exact eq_str (bA I q nW)
   |_=>exact absurd (hs) QX
 | byt i=>
   obtain⟨t,rfl⟩:=F;cases y with
   |byt j=>obtain⟨B,rfl⟩:=z;exact PySem.W.eq_bytes (bA I q wU)
   |_=>exact absurd (hs) QX
 |_=>cases y<;>exact absurd (hs) QX
def Mz:bL X (compareOp .NotEq) rNe:=by
 intro pins s σ H x y v u Q I F z h;obtain⟨hs,q⟩:=h;cases x with
 | non=>
   cases F;cases y with
   |non=>cases z;exact PySem.EqNone.ne_none_none (bA I q `s)
   |bl j=>cases z;exact PySem.EqNone.ne_none_bool (bA I q `s)
   |int j=>obtain⟨B,rfl⟩:=z;exact PySem.EqNone.ne_none_int (bA I q `s)
   |str j=>obtain⟨B,rfl⟩:=z;exact PySem.EqNone.ne_none_str (bA I q `s)
   |_=>exact absurd (hs) QX
 | bl i=>
   cases F;cases y with
   |non=>cases z;exact PySem.EqNone.ne_bool_none (bA I q `s)
   |bl j=>cases z;exact ne_bool (bA I q (congrArg not AQ))
   |str j=>obtain⟨B,rfl⟩:=z;exact PySem.EqMixed.ne_bool_str (bA I q `s)
   |_=>exact absurd (hs) QX
 | int i=>
   obtain⟨t,rfl⟩:=F;cases y with
   |non=>cases z;exact PySem.EqNone.ne_int_none (bA I q `s)
   |int j=>obtain⟨B,rfl⟩:=z;exact ne_int (bA I q (congrArg not wR))
   |str j=>obtain⟨B,rfl⟩:=z;exact PySem.EqMixed.ne_int_str (bA I q `s)
   |_=>exact absurd (hs) QX
 | str i=>
   obtain⟨t,rfl⟩:=F;cases y with
   |non=>cases z;exact PySem.EqNone.ne_str_none (bA I q `s)
   |bl j=>cases z;exact PySem.EqMixed.ne_str_bool (bA I q `s)
   |int j=>obtain⟨B,rfl⟩:=z;exact PySem.EqMixed.ne_str_int (bA I q `s)
   |str j=>obtain⟨B,rfl⟩:=z;exact ne_str (bA I q (congrArg not nW))
   |_=>exact absurd (hs) QX
 | byt i=>
   obtain⟨t,rfl⟩:=F;cases y with
   |byt j=>obtain⟨B,rfl⟩:=z;exact PySem.W.ne_bytes (bA I q (congrArg not wU))
   |_=>exact absurd (hs) QX
 |_=>cases y<;>exact absurd (hs) QX
def MA:bL X (compareOp .Lt) (rL λi j=>.bl (decide (i<j))):=xH λ_ _ _ _ _ _ _ q=>lt_int q
def MB:bL X (compareOp .LtE) (rL λi j=>.bl (decide (i<=j))):=xH λ_ _ _ _ _ _ _ q=>le_int q
def MC:bL X (compareOp .Gt) (rL λi j=>.bl (decide (j<i))):=xH λ_ _ _ _ _ _ _ q=>gt_int q
def MD:bL X (compareOp .GtE) (rL λi j=>.bl (decide (j<=i))):=xH λ_ _ _ _ _ _ _ q=>ge_int q
def Ab:bL X (compareOp .In) (λx y H Q=>∃i j,x=.str i/\y=.str j/\Q (.bl (!(Builtin.Str.occurrences j i 0 j.length 1).isEmpty)) H):=by
 intro pins s σ H x y v u Q I z B h;obtain⟨i,j,rfl,rfl,q⟩:=h;obtain⟨t,rfl⟩:=z;obtain⟨F,rfl⟩:=B;exact in_str (bA I q rfl)
def JP:bL X (compareOp .Is) (λx y H Q=>y=.non/\Q (.bl (decide (x=.non))) H):=by
 intro pins s σ H x y v u Q I j z h;obtain⟨rfl,q⟩:=h;cases z;refine is_none_gen (bA I q ?_);cases x<;>first
  |(cases j;rfl)
  |(obtain⟨t,rfl⟩:=j;rfl)
def GN:bL X (compareOp .IsNot) (λx y H Q=>y=.non/\Q (.bl (!decide (x=.non))) H):=by
 intro pins s σ H x y v u Q I j z h;obtain⟨rfl,q⟩:=h;cases z;refine isnot_none_gen (bA I q ?_);cases x<;>first
  |(cases j;rfl)
  |(obtain⟨t,rfl⟩:=j;rfl)
def ue:bL X (compareOp .NotIn) (λx y H Q=>∃i j,x=.str i/\y=.str j/\Q (.bl (!(!(Builtin.Str.occurrences j i 0 j.length 1).isEmpty))) H):=by
 intro pins s σ H x y v u Q I z B h;obtain⟨i,j,rfl,rfl,q⟩:=h;obtain⟨t,rfl⟩:=z;obtain⟨F,rfl⟩:=B;exact notIn_str (bA I q rfl)
def qE {r:R2}(ho:bL X (compareOp op) r)(z:PE X a ta)(B:PE X b tb)(hm:behindInMarks op b=false):PE X (.Compare a [op] [b] pos) (zm r ta tb):=by
 intro pins s σ H Q I h;exact wpAny_Compare1 (Di z B I h λv u s2 x y H2 j F J q=>ho pins s2 σ H2 x y v u Q j F J q) hm
def DZ (t:TE):TT:=λσ H Q=>t σ H λx H'=>∃k,x=.bl k/\Q k H'
def qC (ho:bL X (compareOp op) r)(L:PE X a ta)(M:PE X b tb)(hm:behindInMarks op b=false):PT X (.Compare a [op] [b] pos) (DZ (zm r ta tb)):=by
 intro pins s σ H Q I h;refine wpAny_isTrue_Compare1 (aP (L pins s σ H _ I h) λv s1 ⟨x,H1,B,r1,O⟩=>aP (M pins s1 σ H1 _ B O) λu s2 ⟨y,H2,F,r2,R⟩=>
  aP (ho pins s2 σ H2 x y v u _ F r1 r2 R) λc W ⟨z,j,J,U,k,e,S⟩=>?_) hm
 subst e;cases U;exact tqp ⟨j,J,S⟩
def tB (r r':R2)(ta tb tc:TE):TE:=λσ H Q=>ta σ H λx H1=>tb σ H1 λy H2=>r x y H2 λz j=>∃k,z=.bl k/\
 (if k=true then tc σ j λF B=>r' y F B Q else Q (.bl false) j)
def Ck (ho:bL X (compareOp op) r)(j:bL X (compareOp op') r')(S:PE X a ta)(U:PE X b tb)(W:PE X c tc)
 (hm:lastMarks [op,op'] [b,c]=false:=by with_unfolding_all rfl):PE X (.Compare a [op,op'] [b,c] pos) (tB r r' ta tb tc):=by
 intro pins s σ H Q I h;refine Compare_chain (aP (S pins s σ H _ I h) λv s1 ⟨x,H1,M,r1,Y⟩=>chain_link (aP (U pins s1 σ H1 _ M Y) λu s2 ⟨y,H2,O,r2,q2⟩=>
  aP (ho pins s2 σ H2 x y v u _ O r1 r2 q2) λd s3 ⟨z,B,F,r3,k,e,J⟩=>?_)) hm
 subst e;cases r3;refine tqp ?_;cases k with
 |false=>exact ite_ff {.bl false,B,F,rfl,J}
 |true=>exact ite_tt (chain_last (aP (W pins s3 σ B _ F J) (by rintro w' s4 ⟨z',L,R,r4,q4⟩;exact j pins s4 σ L y z' u w' Q R r2 r4 q4)))
def Ce (ho:bL X (compareOp op) r)(j:bL X (compareOp op') r')(Y:PE X a ta)(hb:PE X b tb)(hc:PE X c tc)
 (hm:lastMarks [op,op'] [b,c]=false:=by with_unfolding_all rfl):PT X (.Compare a [op,op'] [b,c] pos) (DZ (tB r r' ta tb tc)):=by
 intro pins s σ H Q I h;refine isTrue_chain (aP (Y pins s σ H _ I h) λv s1 ⟨x,H1,O,r1,q1⟩=>test_link (aP (hb pins s1 σ H1 _ O q1) λu s2 ⟨y,H2,R,r2,q2⟩=>
  aP (ho pins s2 σ H2 x y v u _ R r1 r2 q2) λd s3 ⟨z,B,F,r3,k,e,J⟩=>?_)) hm
 subst e;cases r3;refine tqp ?_;cases k with
 | false=>
   obtain⟨k',W,q'⟩:=J;cases W;exact ite_ff ⟨B,F,q'⟩
 | true=>
   refine ite_tt (test_last (aP (hc pins s3 σ B _ F J) λw' s4 ⟨z',L,S,r4,q4⟩=>aP (j pins s4 σ L y z' u w' _ S r2 r4 q4) λd' s5 ⟨z2,M,U,r5,k2,e2,q5⟩=>?_));subst e2;cases r5;exact tqp ⟨M,U,q5⟩
def Dm (K:Qs)(x:V)(H:Hp)(k:Bool):Prop:=
 match x with
 |.non=>k=false
 |.bl b=>k=b
 |.int i=>k=(i != 0)
 |.str y=>y.length<=sizeLine/\k=((y.length:Int) != 0)
 |.byt y=>y.size<=sizeLine/\k=((y.size:Int) != 0)
 |.ref p=>(∃xs,cQ K H p xs/\k=!xs.isEmpty)\/(∃xs,dO K H p xs/\k=!xs.isEmpty)\/∃kvs,H p=some (.dK kvs)/\k=!kvs.isEmpty
 |_=>False
def xZ {κ:Type}{kvs:List (κ×V)}{vs:List (κ×Qw)}(r:KV kvs vs):(!vs.isEmpty)=!kvs.isEmpty:=by
 cases r<;>rfl
def lG {xs:List V}{its:List Qw}(r:Vals xs its):(!its.toArray.isEmpty)=!xs.isEmpty:=by
 cases r<;>simp
def jf:(sizeLine:Nat)<2^63:=by rw[sizeLine_eq];decide
def IE:PY X (λx H Q=>∃k,Dm X.K x H k/\Q k H):=by
 intro pins s σ H x v Q I rx h;obtain⟨k,e,q⟩:=h;have hl:=jf;have hs:=sizeLine_eq;cases x with
 | non=>
   cases rx;have e':=e;subst e';exact truthy_none ⟨H,I,q⟩
 | bl b=>
   cases rx;have e':=e;subst e';exact tqp ⟨H,I,q⟩
 | int i=>
   obtain⟨t,rfl⟩:=rx;have e':=e;subst e';exact PySem.P.truthy_int ⟨H,I,q⟩
 | str y=>
   obtain⟨t,rfl⟩:=rx;obtain⟨hy,e'⟩:y.length<=sizeLine/\k=((y.length:Int) != 0):=e;subst e';exact PySem.P.truthy_str `a {H,I.tok _,q}
 | byt y=>
   obtain⟨t,rfl⟩:=rx;obtain⟨hy,e'⟩:y.size<=sizeLine/\k=((y.size:Int) != 0):=e;subst e';exact PySem.W.truthy_bytes `a {H,I.tok _,q}
 | ref p=>
   cases rx;have e':=e;rcases e' with⟨xs,hx,e'⟩|⟨xs,hx,e'⟩|⟨kvs,hx,e'⟩
   ·subst e';obtain⟨its,r,pl,hz⟩:=I.list hx;have hlen:=r.length;exact wpAny_truthy_list pl.isList (by simp only[QB];omega) {H,I.tok _,by rw[lG r];exact q}
   ·subst e';obtain⟨its,r,pl,hz⟩:=I.tuple hx;have hlen:=r.length;exact truthy_tuple pl (by simp only[QB];omega) {H,I.tok _,by rw[lG r];exact q}
   ·subst e';obtain⟨hz,hS,vs,r,m⟩:kvs.length<=sizeLine/\(p==sysModules)=false/\∃vs,KV kvs vs/\s.heap.DictOf (kv X.prog X.w) p vs:=I.hok p _ hx;have hlen:=Paired.length r;exact wpAny_truthy_dict hS m `a {H,I.tok _,by rw[xZ r];exact q}
 |_=>exact(e).elim
def Cd (y:PE X a ta)(he:∀whole,isTrue a X.env whole=(do let v <- whole;standAt a.pos;holding [v] (truthy v))) :
 PT X a (λσ H Q=>ta σ H λx H'=>∃k,Dm X.K x H' k/\Q k H'):=by
 intro pins s σ H Q I h;exact isTrue_plain (aP (y pins s σ H _ I h) (by rintro v s1 ⟨x,H1,j,r1,z⟩;exact IE pins s1 σ H1 x v Q j r1 z)) (he _)
def xG:bL X (binaryOp .Add) (λx y H Q=>∃i j,x=.str i/\y=.str j/\i.length+j.length<=sizeLine/\Q (.str (i++j)) H):=by
 intro pins s σ H x y v u Q I B F h;obtain⟨i,j,rfl,rfl,z,q⟩:=h;obtain⟨t,rfl⟩:=B;obtain⟨J,rfl⟩:=F;exact add_str (λJ tk=>{.str (i++j),H,I.tok _,{_,rfl},q}) z
def vals1 (r:Vals [x] us):∃u,us=[u]/\RelV x u:=by
 cases r with
 |cons r1 r2=>cases r2;exact{_,rfl,r1}
def vals2 (r:Vals [x,y] us):∃u j,us=[u,j]/\RelV x u/\RelV y j:=by
 cases r with
 | cons r1 r2=>
   cases r2 with
   |cons z B=>cases B;exact{_,_,rfl,r1,z}
def A0:cf X (.type "int") (λxs H Q=>(∃i,xs=[.int i]/\Q (.int i) H)\/∃k,xs=[.bl k]/\Q (.int (if k then 1 else 0)) H):=by
 intro pins s σ H xs j Q I r h;rcases h with⟨i,rfl,q⟩|⟨k,rfl,q⟩
 ·obtain⟨u,rfl,t,rfl⟩:=vals1 r;exact call_int_int {.int i,H,I,{_,rfl},q}
 ·obtain⟨u,rfl,r1⟩:=vals1 r;cases r1;exact call_int_bool {.int (if k then 1 else 0),H,I.tok _,{_,rfl},q}
end
structure Ds (h:Heap) (x dx C:Addr) (mA:Str->Option Qw):Prop where
 obj:h.get? x=some (PySem.W.instObj C dx)
 ns:h.Ns1 dx mA
 ne:dx≠x
set_option tactic.hygienic true in
def Ao {h:Heap}(n:h.Ns1 dx mA):∃od,h.get? dx=some od/\∀name,PySem.W.lookIn name od=some (mA name):=by
 obtain⟨o,es,I,ho,hd,hk,_,hm⟩:=n;refine{o,ho,λname=>?_};have e:=hm name;unfold nsFind findBy at e;rw[<- Array.find?_toList] at e;unfold PySem.W.lookIn;rw[hd];dsimp only;split
 ·rename_i y q;rw[q] at e;exact congrArg some e
 ·rename_i q;rw[q] at e;have a:es.toList.any (·.refKey)=false:=by
   rw[List.any_eq_false];intro y F;obtain⟨z,t,j⟩:=hk y (Array.mem_toList_iff.mp F);simp[DictEntry.refKey,j]
  have B:¬ es.toList.any (·.refKey)=true:=by rw[a];exact QX
  rw[if_neg B];exact congrArg some e
def Ds.look (I:Ds h x dx C mA):∃od,PySem.W.InstAt h x (PySem.W.instObj C dx) C (some od)/\∀name,PySem.W.lookIn name od=some (mA name):=
 let⟨od,ho,hl⟩:=Ao I.ns
 {od,⟨I.obj,rfl,rfl,ho⟩,hl}
section
variable{P:Rj}{w:Q8}{H H':Hp}{h h':Heap}{a C dx:Addr}{fs fs':List (Str×V)}
def Hc (hok:fc P w H h)(e:H a=some (.ins C dx fs)):∃mA,Ds h a dx C mA/\(∀f,Dq (fs.lookup f) (mA f))/\PySem.Within mA (fs.map (·.1))/\fs.length<=1000/\H dx=some (.own a):=by
 obtain⟨d,z,ne,ob,mA,n,r,q⟩:=(hok a _ e);exact{mA,⟨ob,n,ne⟩,r,q,z,d}
end
structure xg (K:Qs) (C:Addr):Prop where
 pg:PySem.W.plainGet K C Str.empty=true
 hd:PySem.W.hasDictIn K C=true
 po:PySem.W.plainOver K C=true
 sa:PySem.W.findIn K (.ref C) "__setattr__"=some (some (.builtin "object.__setattr__"))
def xg.get {K:Qs}(c:xg K C)(f:Str):PySem.W.plainGet K C f=true:=c.pg
def LW (K:Qs)(C:Addr)(f:Str):Prop:=PySem.W.findIn K (.ref C) f=some none
structure Meth (K:Qs) (C:Addr) (m:Str) (f:Addr):Prop where
 at_:PySem.W.findIn K (.ref C) m=some (some (.ref f))
 fn:PySem.W.isFn K (.ref f)=true
 kp:PySem.W.keepIn K (.ref f)=true
section
variable{X:Cx}{pins:List (Addr×Obj)}{σ:St}{H:Hp}{s:QA}{A:R6}{E:Qw->QA->Prop}{Q:Qw->QA->Prop}{c:Qw}{b:Bool}
inductive iE (K:Qs) (H:Hp):V->Qw->Prop where
 |non:iE K H .non (.type "NoneType")
 |bl (x:Bool):iE K H (.bl x) (.type "bool")
 |int (i:Int):iE K H (.int i) (.type "int")
 |str (x:Str):iE K H (.str x) (.type "str")
 |flt (x:UInt64):iE K H (.flt x) (.type "float")
 |lst {a:Addr}{xs:List V} (e:H a=some (.lst xs)):iE K H (.ref a) (.type "list")
 |frz {a:Addr}{o:Obj}{xs:List V} (e:H a=some (.frz o (.lst xs))):iE K H (.ref a) (.type "list")
 |tup {a:Addr}{xs:List V} (e:H a=some (.tup xs)):iE K H (.ref a) (.type "tuple")
 |dK {a:Addr}{kvs:List (Key×V)} (e:H a=some (.dK kvs)):iE K H (.ref a) (.type "dict")
 |dT {a:Addr}{kvs:List (List Key×V)} (e:H a=some (.dT kvs)):iE K H (.ref a) (.type "dict")
 |ins {a C dx:Addr}{fs:List (Str×V)} (e:H a=some (.ins C dx fs)) (cl:xg K C) (ha:PySem.W.findIn K (.ref C) "__class__"=some (some (.builtin "object.__class__")))
  (hn:PySem.W.specialIn K (.builtin "object.__class__") "__get__"=some (some (.builtin "getset_descriptor.__get__"))) (htk:PySem.W.takesIn K (.builtin "object.__class__")=some true)
  (hm:PySem.W.mroIn K C (.type "object")=some true):iE K H (.ref a) (.ref C)
def jK (I:Inv X pins σ H s)(B:RelV x u)(ty:iE X.K H x t)(e:PySem.W.kitOne X.K t c=some b)(h:∀tk,Q (.bool b) {s with toks:=tk}) :
 wpAny (model X.prog X.w) A (call (.builtin "isinstance") [u,c]) Q E s:=by
 cases ty with
 |non=>cases (B);exact RC PySem.W.kitx_none I.kIn True.intro e (λz=>nomatch z) h
 |bl y=>cases (B);exact RC PySem.W.kitx_bool I.kIn True.intro e (λz=>nomatch z) h
 |int i=>obtain⟨t,q⟩:=(B);cases q;exact RC PySem.W.kitx_int I.kIn True.intro e (λz=>nomatch z) h
 |str y=>obtain⟨t,q⟩:=(B);cases q;exact RC PySem.W.kitx_str I.kIn True.intro e (λz=>nomatch z) h
 |flt y=>obtain⟨t,q⟩:=(B);cases q;exact RC PySem.W.kitx_float I.kIn True.intro e (λz=>nomatch z) h
 | @lst a xs j=>
   cases (B);obtain⟨_,_,n,_,h1⟩:=(I.hok a _ j);exact RC PySem.W.kitx_list I.kIn {_,h1,rfl} e (λz=>nomatch z) h
 | @frz a ob xs j=>
   cases (B);obtain⟨_,_,_,n,_,h1⟩:=(I.hok a _ j);exact RC PySem.W.kitx_list I.kIn {_,h1,rfl} e (λz=>nomatch z) h
 | @tup a xs j=>
   cases (B);obtain⟨_,_,_,p⟩:=(I.hok a _ j);obtain⟨o,h1,h2,_⟩:=p;exact RC PySem.W.kitx_tuple I.kIn ⟨o,h1,h2⟩ e (λz=>nomatch z) h
 | @dK a L j=>
   cases (B);obtain⟨_,_,S,_,p⟩:=(I.hok a _ j);obtain⟨o,es,M,h1,h2,_⟩:=p;exact RC PySem.W.kitx_dict I.kIn ⟨o,h1,h2.1⟩ e (λz=>nomatch z) h
 | @dT a L j=>
   cases (B);obtain⟨_,_,xs,_,o,es,M,h1,h2,_⟩:=(I.hok a _ j);exact RC PySem.W.kitx_dict I.kIn ⟨o,h1,h2.1⟩ e (λz=>nomatch z) h
 | @ins a C dx fs j cl R hn F hm=>
   cases (B);obtain⟨mA,O,_⟩:=Hc I.hok j;obtain⟨od,J,_⟩:=O.look;exact RC (PySem.W.kitx_own (cl.get _) cl.hd R hn F hm) I.kIn J e (λz=>nomatch z) h
end
structure du (k:Nat) (A:R6):Prop where
 hd:A.handled=none
 dp:A.depth+3*k+5<recursionLimit
 un:A.units+16*k+200<cLine
 gd:A.guards=some []
def du.mono (r:du k A)(h:j<=k):du j A:={r.hd,by have:=r.dp;omega,by have:=r.un;omega,r.gd}
def du.deeper (r:du (k+1) A)(env:Env):du k (A.deeper env):=
 {r.hd,by have:=r.dp;show A.depth+1+3*k+5<_;omega,by have:=r.un;show A.units+3+16*k+200<_;omega,r.gd}
def du.depth (r:du k A):A.depth<recursionLimit:=by have:=r.dp;omega
def du.units (r:du k A):A.units+64<cLine:=by have:=r.un;omega
def OK:TA:=λ_ H Q=>Q [] H
def Mg (ta:TE)(j:TA):TA:=λσ H Q=>ta σ H λx H1=>j σ H1 λxs H2=>Q (x::xs) H2
section
variable{X:Cx}{e:Expr}{es:List Expr}{te:TE}{t:TA}{pos:Pos}
def eD:PA X [] OK:=λ_ _ _ _ H Q I h=>Calls.spliced_nil {[],H,I,.nil,h}
def cS (z:PE X e te)(hr:PA X es t)(hs:starEach (e::es) X.env=(false,eval e X.env)::starEach es X.env:=by rfl):PA X (e::es) (Mg te t):=by
 intro pos pins s σ H Q I h;rw[hs];refine Calls.spliced_cons (aP (z pins s σ H _ I h) λu s1 ⟨x,H1,j,r1,B⟩=>?_);exact aP (hr pos pins s1 σ H1 _ j B) (by rintro J s2 ⟨xs,H2,y,r2,F⟩;exact{x::xs,H2,y,.cons r1 r2,F})
def OG (t:TA):TE:=λσ H Q=>t σ H λxs H1=>xs.length<=sizeLine/\∀p,H1 p=none->Q (.ref p) (upd H1 p (.tup xs))
def OL (t:TA):TE:=λσ H Q=>t σ H λxs H1=>xs.length<=sizeLine/\∀p,H1 p=none->Q (.ref p) (upd H1 p (.lst xs))
def JC {x1}(h:PA X es t):PE X (.Tuple es x1 pos) (OG t):=by
 intro pins s σ H Q I y;refine wpAny_Tuple_spliced (aP (h pos pins s σ H _ I y) λB s1 ⟨xs,H1,j,r,z,q⟩=>{by rw[<- r.length];exact z,?_})
 have hf:=j.hok.fresh (Qy _);refine{.ref s1.heap.objs.size,upd H1 s1.heap.objs.size (.tup xs),j.laid (λb u e=>Qu _ e) (Qy _) ?_,rfl,q _ hf};exact{z,B,r,{_,QY _ rfl,rfl,_,rfl}}
def JI (h:PA X es t):PE X (.List es pos) (OL t):=by
 intro pins s σ H Q I y;refine wpAny_List_spliced (aP (h pos pins s σ H _ I y) λB s1 ⟨xs,H1,j,r,z,q⟩=>{by rw[<- r.length];exact z,?_})
 have hf:=j.hok.fresh (Qy _);refine{.ref s1.heap.objs.size,upd H1 s1.heap.objs.size (.lst xs),j.laid (λb u e=>Qu _ e) (Qy _) ?_,rfl,q _ hf};exact{z,B,0,r,QY _ rfl}
end
abbrev Sp:=List V->Hp->VK->XK->Prop
abbrev vH:=List Env->Hp->QA->XK->Qw->QA->Prop
structure yK (P:Rj) (w:Q8) (K:Qs) (mg:Str->Option Qw) (base:Heap) (A:R6) (outer:List Env) (s:QA) (H:Hp):Prop where
 frames:A.frames=some outer
 mod:Mod K mg base
 bs:∀b o,base.get? b=some o->s.heap.get? b=some o/\H b=none
 bsz:base.objs.size<=s.heap.objs.size
 funs:s.heap.FunFrames base outer
 frf:∀b∈gU outer,H b=none
 hok:fc P w H s.heap
 bare:AllBare s.gens
def CE (outer:List Env)(P:Rj)(w:Q8)(H:Hp)(s:QA)(Q:VK)(u:Qw)(s':QA):Prop:=
 ∃v H',s'.os=s.os/\AllBare s'.gens/\Un (gU outer) [] H H' s.heap s'.heap/\fc P w H' s'.heap/\RelV v u/\Q v H'
def CR (CX:vH)(outer:List Env)(P:Rj)(w:Q8)(H:Hp)(s:QA)(Q:VK)(E:XK)(r:Result)(s':QA):Prop:=
 match r with
 |.ok (.ret u)=>CE outer P w H s Q u s'
 |.ok _=>False
 |.error e=>CX outer H s E e s'
structure lW (P:Rj) (w:Q8) (K:Qs) (mg:Str->Option Qw) (base:Heap) (CX:vH) (k:Nat) (f:Addr) (fd:FuncData) (ps:List Str) (sp:Sp):Prop where
 len:∀vs H Q E,sp vs H Q E->vs.length=ps.length
 run:∀(A:R6) (outer:List Env) (s:QA) (H:Hp) (args:Args) (us:List Qw) (vs:List V) (Q:VK) (E:XK),du k A->yK P w K mg base A outer s H->BindsTo s fd args (ps.zip us)->Vals vs us->sp vs H Q E->
  codeAny (model P w) A (.call (.ref f) args) (CR CX outer P w H s Q E) s
section
variable{X:Cx}{pins:List (Addr×Obj)}{σ:St}{H:Hp}{s s':QA}
def Inv.env0 (I:Inv X pins σ H s):yK X.prog X.w X.K X.mg X.base X.A X.stack s H:=
 {I.ok.frames,I.ok.mod,I.bs,QC I.ok.bsz I.sz,I.stack,I.stkFree,I.hok,I.bare}
def Inv.after (I:Inv X pins σ H s)(h:CE X.stack X.prog X.w H s Q u s'):EP X pins σ Q u s':=by
 obtain⟨v,H',os,bare,un,hok,r,q⟩:=h;obtain⟨y,g,d,t,j⟩:=s';obtain rfl:j=s.os:=os;exact{v,H',I.call un hok bare (λb z=>absurd z `s),r,q}
end
def D2 (sp:Sp)(dvs:List V)(E:XK)(t:TA):TE:=λσ H Q=>t σ H λvs H1=>sp (vs++dvs) H1 Q E
def Binds (K:Qs)(fd:FuncData)(ps:List Str)(ds:List Qw):Prop:=
 ∀(s:QA) (j:List Qw),K.In s.heap->(j++ds).length=ps.length->BindsTo s fd {j,[]} (ps.zip (j++ds))
def Binds.all {K:Qs}(h:∀us:List Qw,us.length=ps.length->bindArgs fd {us,[]}=pure (ps.zip us)):Binds K fd ps []:=λs us _ hl=>by
 rw[Sb] at hl ⊢;exact .of_eq (h us hl)
def Passes (CX:vH)(X:Cx)(E:XK):Prop:=∀(pins:List (Addr×Obj)) (σ:St) (H:Hp) (s:QA) (e:Qw) (s':QA),Inv X pins σ H s->CX X.stack H s E e s'->X.xe e s'
section
variable{X:Cx}{CX:vH}{k:Nat}{f C:Addr}{fd:FuncData}{ps:List Str}{sp:Sp}{dvs:List V}{ds:List Qw}{E:XK}{x m:Str}{p pos apos:Pos}{e o:Expr}{es:List Expr}{ta:TE}{t:TA}
def zO (F:lW X.prog X.w X.K X.mg X.base CX k f fd ps sp)(hr:du k X.A)(y:Binds X.K fd ps ds)(hd:Vals dvs ds)(z:Passes CX X E)
 (I:Inv X pins σ H s) (r:Vals vs us) (h:sp (vs++dvs) H Q E):wpAny (model X.prog X.w) X.A (call (.ref f) us) (EP X pins σ Q) X.xe s:=by
 have r2:=r.append hd;have hl:(us++ds).length=ps.length:=by rw[<- r2.length];exact F.len _ _ _ _ h
 refine wpAny_call (codeAny_mono (F.run X.A X.stack s H {us,[]} (us++ds) (vs++dvs) Q E hr I.env0 (y s us I.kIn hl) r2 h) λr s' j=>?_);cases r with
 |error e=>exact z pins σ H s e s' I j
 | ok fl=>
   cases fl with
   |ret u=>exact I.after j
   |next=>exact False.elim j
   |brk=>exact False.elim j
   |cont=>exact False.elim j
def GJ (F:lW X.prog X.w X.K X.mg X.base CX k f fd ps sp)(hr:du k X.A)(L:Gl X x)(hm:X.mg x=some (.ref f))(hk:PySem.W.keepIn X.K (.ref f)=true)(J:Binds X.K fd ps ds)(hd:Vals dvs ds)(M:Passes CX X E)
 (B:PA X (e::es) t) (j:(x==("__debug__":Str))=false:=by decide) (he:starEach (e::es) X.env=(false,eval e X.env)::starEach es X.env:=by rfl) (y:(backTo pos (starEach es X.env)).any (·.1)=false:=by rfl) :
 PE X (.Call (.Name x p) (e::es) [] pos) (D2 sp dvs E t):=by
 intro pins s σ H Q I h;refine wpAny_Call_Name_kw (ky I L hm ?_ j);refine PySem.W.callWith_K I.ok.mod.kin hk (aP (B pos pins s σ H _ I h) λO s1 ⟨R,H1,z,r,q⟩=>{z.kIn,?_}) he y;exact zO F hr J hd M z r q
structure Mk (K:Qs) (C f:Addr):Prop where
 makes:PySem.W.makesIn K C=true
 init:PySem.W.findIn K (.ref C) "__init__"=some (some (.ref f))
 fn:PySem.W.isFn K (.ref f)=true
 kp:PySem.W.keepIn K (.ref C)=true
end
structure i5 (N P:List Str) (sc:Scope):Prop where
 kind:sc.kind=.function
 co:sc.isCoroutine=false
 gen:sc.isGenerator=false
 nd:N.Nodup
 pre:N.take P.length=P
 par:∀x∈P,sc.names.lookup x=some .local\/sc.names.lookup x=some .cell
 nofree:∀y∈sc.names,y.2≠.free
noncomputable def sh {j:Str->Option NameKind}:∀{binds:List (Str×Qw)}{m:Str->Option Qw},(∀v,(x,v)∉binds)->bindL j binds m x=m x
 |[],_,_=>rfl
 | (n,v)::r,m,h=>by
   unfold bindL;rw[sh λw y=>h w (QF _ y)];split
   ·have:x≠n:=by rintro rfl;exact h v QM
    simp[this]
   ·rfl
noncomputable def sj {j:Str->Option NameKind}:∀{binds:List (Str×Qw)}{m:Str->Option Qw},(∀v,(x,v)∉binds)->bindC j binds m x=m x
 |[],_,_=>rfl
 | (n,v)::r,m,h=>by
   unfold bindC;rw[sj λw y=>h w (QF _ y)];split
   ·rfl
   ·have:x≠n:=by rintro rfl;exact h v QM
    simp[this]
theorem si {j:Str->Option NameKind}:∀{P:List Str}{vs:List Qw}{i:Nat}{m:Str->Option Qw},P.Nodup->P[i]?=some x->vs[i]?=some v->j x=some .local->
 bindL j (P.zip vs) m x=some v
 |[],_,_,_,_,h,_,_=>by simp at h
 |_::_,[],_,_,_,_,h,_=>by simp at h
 | p::P,w::vs,0,m,nd,h1,h2,hk=>by
   simp at h1 h2;subst h1;subst h2;show bindL j ((p,w)::P.zip vs) m p=_;unfold bindL;rw[sh λv y=>(RP.mp nd).1 (List.of_mem_zip y).1,if_pos hk];simp
 | p::P,w::vs,i+1,m,nd,h1,h2,hk=>by
   unfold bindL;exact si (RP.mp nd).2 (by simpa using h1) (by simpa using h2) hk
theorem sk {j:Str->Option NameKind}:∀{P:List Str}{vs:List Qw}{i:Nat}{m:Str->Option Qw},P.Nodup->P[i]?=some x->vs[i]?=some v->j x≠some .local->
 bindC j (P.zip vs) m x=some v
 |[],_,_,_,_,h,_,_=>by simp at h
 |_::_,[],_,_,_,_,h,_=>by simp at h
 | p::P,w::vs,0,m,nd,h1,h2,hk=>by
   simp at h1 h2;subst h1;subst h2;show bindC j ((p,w)::P.zip vs) m p=_;unfold bindC;rw[sj λv y=>(RP.mp nd).1 (List.of_mem_zip y).1,if_neg hk];simp
 | p::P,w::vs,i+1,m,nd,h1,h2,hk=>by
   unfold bindC;exact sk (RP.mp nd).2 (by simpa using h1) (by simpa using h2) hk
noncomputable def start (N:List Str)(vs:List V):St:=vs.map some++List.replicate (N.length-vs.length) none
noncomputable def gx (CX:vH)(P:Rj)(w:Q8)(K:Qs)(mg:Str->Option Qw)(base:Heap)(N:List Str)(qual:Str)(j:Scope)(f:Addr)(cd:Qw)(A:R6)(outer:List Env)(s:QA)(H:Hp)(E:XK):Cx where
 prog:=P
 w:=w
 K:=K
 mg:=mg
 base:=base
 A:=A.deeper (envOfC qual j s.heap.objs.size f cd)
 N:=N
 s₀:=s
 H₀:=H
 env:=envOfC qual j s.heap.objs.size f cd
 outer:=outer
 stack:=envOfC qual j s.heap.objs.size f cd::outer
 ex:=[]
 calm:=true
 fn:=λ_=>true
 pn:=[]
 xe:=λe s'=>wpAny (model P w) (A.deeper (envOfC qual j s.heap.objs.size f cd)) (leaving (envOfC qual j s.heap.objs.size f cd) e) (λ_ y=>CX outer H s E e y) (λz y=>CX outer H s E z y) s'
def u7 {sc:Scope}(h:sc.names.lookup x=some .cell):∃c,(cellsFrom n sc.names []).lookup x=some c:=by
 have q:=PySem.W.cellsFrom_some sc.names n [] (.inl h);exact Option.isSome_iff_exists.mp q
def AB {K:Qs}
 (S:i5 N ps scope) (hd:A.handled=none) (j:yK P w K mg base A outer s H) (hl:vs.length=ps.length) (r:Vals vs us)
 (x:InCallC s s.heap.objs.size (bindL (envOfC qual scope s.heap.objs.size f cd).kindOf (ps.zip us) λ_=>none) (cellsFrom (s.heap.objs.size+1) scope.names []) (bindC (envOfC qual scope s.heap.objs.size f cd).kindOf (ps.zip us) λ_=>none) s1) :
 Inv (gx CX P w K mg base N qual scope f cd A outer s H E) [] (start N vs) H s1:=by
 have O:ps.length<=N.length:=by have:=congrArg List.length S.pre;rw[Q7] at this;omega
 obtain⟨h1,tk,rfl,hk⟩:=x.done;have F:∀b:Addr,b∉(gx CX P w K mg base N qual scope f cd A outer s H E).ex:=λb z=>absurd (show b∈([]:List Addr) from z) `s
 refine{{j.mod,S.kind,rfl,rfl,Qy _,λy z c h1 h2=>?_,λy B=>?_,λy c _ h=>?_,λ_=>hd,Around.frames_deeper j.frames,.inr ⟨rfl,rfl⟩,λb z=>absurd z (F b),j.bs,j.bsz,λb _ _=>F b,λb z=>absurd z (F b),j.funs,j.frf},
  rfl,j.bare,Un.kept hk,{_,x.toInCall.ns,λi y v h1 h2 h3=>?_},λy c h=>{_,x.cell y c h},j.hok.fresh (Qy _),λy c h=>?_,λp I=>absurd (show p∈([]:List (Addr×Obj)) from I) `s,j.hok.kept hk,?_}
 ·exact name_of_addr x.apart (SU h1) (SU h2)
 ·have B:=B;rcases B with B|B
  ·exact u7 B
  ·exact absurd rfl (S.nofree _ (SU B))
 ·exact SH (x.above y c (SU h))
 ·have hi:i<vs.length:=by
   unfold start at h2;by_cases hi:i<vs.length
   ·exact hi
   ·rw[Q4 (by simpa using hi)] at h2
    rw[SD] at h2;split at h2<;>cases h2
  have M:vs[i]?=some v:=by
   unfold start at h2;rw[QE (by simpa using hi),QS] at h2
   cases e:vs[i]? with
   |none=>rw[e] at h2;cases h2
   |some a=>rw[e] at h2;cases h2;rfl
  obtain⟨u,L,R⟩:=r.get M;have I:ps[i]?=some y:=by
   rw[<- S.pre,List.getElem?_take_of_lt `a];exact h1
  have J:ps.Nodup:=by rw[<- S.pre];exact S.nd.sublist (List.take_sublist _ _)
  refine{u,R,?_};rcases S.par y (QT I) with k|k
  ·exact .inl {k,si J I L k}
  ·obtain⟨c,e⟩:=u7 k;refine .inr {.inl k,c,e,?_};have q:=x.cell y c e;rw[sk J I L (by show scope.names.lookup y≠_;rw[k];decide)] at q
   exact q
 ·exact j.hok.fresh (SH (x.above y c (SU h)))
 ·unfold start;show _=N.length;rw[Qt,Qq,Sm];omega
def MU {K:Qs}{dV kV L pm j ct oc:Qw}
 (lk:K.lookup f=some {oc,od,.func (PySem.W.fnOf name qual params body scope dV kV L pm an j ct),osl}) (U:PySem.W.codeIn K j qual=true) (S:i5 N ps scope)
 (len:∀vs H Q E,sp vs H Q E->vs.length=ps.length)
 (B:∀(A:R6) (outer:List Env) (s:QA) (H:Hp) (vs:List V) (Q:VK) (E:XK),du k (A.deeper (envOfC qual scope s.heap.objs.size f j))->sp vs H Q E->
  ∃t,kG (gx CX P w K mg base N qual scope f j A outer s H E) body t/\t {nx:=λ_ H'=>Q .non H',rt:=Q} (start N vs) H) :
 lW P w K mg base CX (k+1) f (PySem.W.fnOf name qual params body scope dV kV L pm an j ct) ps sp:=by
 refine{len,λA outer s H args us vs Q E hr M hb r R=>?_};have hl:=len _ _ _ _ R;have KX:=M.mod.kin.keeps λb o e=>(M.bs b o e).1;have Y:=M.mod.nolimit.keeps λb o e=>(M.bs b o e).1;have F:∀y∈ps.zip us,scope.names.lookup y.1=some .local\/(scope.names.lookup y.1=some .cell/\((cellsFrom (s.heap.objs.size+1) scope.names []).lookup y.1).isSome=true):=λ⟨n,v⟩ hy=>by
  rcases S.par n (List.of_mem_zip hy).1 with q|q
  ·exact .inl q
  ·exact .inr {q,PySem.W.cellsFrom_some _ _ _ (.inl q)}
 refine codeAny_call_function hr.depth (KX _ _ lk) rfl S.co S.gen rfl (PySem.W.codeRec_of KX U) (hb _ _ _ _ ?_);refine wpAny_newFunctionEnv_cells S.kind F λenv he s1 x=>?_;subst he;refine{Y.keeps x.toInCall.keep,codeAny_func ?_};obtain⟨t,ht,hq⟩:=B A outer s H vs Q E (hr.deeper _) R;have I:Inv (gx CX P w K mg base N qual scope f j A outer s H E) [] (start N vs) H s1:=AB S hr.hd M hl r x;refine wpAny_mono (ht [] s1 (start N vs) H _ I hq) (λfl s' hs=>?_) λe s' hs=>hs;have O:∀{z:St}{H':Hp}{v:V}{u:Qw},Inv (gx CX P w K mg base N qual scope f j A outer s H E) [] z H' s'->RelV v u->Q v H'->CE outer P w H s Q u s':=
  λ{z H' v u} J rv q=>⟨v,H',J.os,J.bare,J.base,J.hok,rv,q⟩
 cases fl with
 | ret u=>
   obtain⟨v,z,H',J,rv,q⟩:=hs;exact O J rv q
 | next=>
   obtain⟨z,H',J,q⟩:=hs;exact O (v:=V.non) J rfl q
 | brk=>
   obtain⟨_,_,_,q⟩:=hs;exact False.elim q
 | cont=>
   obtain⟨_,_,_,q⟩:=hs;exact False.elim q
section
variable{X:Cx}{x:Str}{p pos:Pos}{e:Expr}{es:List Expr}{t:TA}{id T:String}{r:List V->Hp->VK->Prop}
def N4 (r:List V->Hp->VK->Prop)(t:TA):TE:=λσ H Q=>t σ H λj H1=>r j H1 Q
def hV (F:cf X (.builtin id) r)(J:Gl X x)(hm:X.mg x=none)(L:bootBuiltins x=some (.builtin id))(B:PA X (e::es) t)(hn:x≠"__name__":=by decide)(j:(x==("__debug__":Str))=false:=by decide)
 (he:starEach (e::es) X.env=(false,eval e X.env)::starEach es X.env:=by rfl) (y:(backTo pos (starEach es X.env)).any (·.1)=false:=by rfl):PE X (.Call (.Name x p) (e::es) [] pos) (N4 r t):=by
 intro pins s σ H Q I h;refine wpAny_Call_Name_kw (gP I J hm L ?_ hn j);exact PyProof.Rows.callWith_builtin1 (aP (B pos pins s σ H _ I h) (by rintro O s1 ⟨R,H1,z,r1,M⟩;exact F pins s1 σ H1 R O Q z r1 M)) he y
def rN (F:cf X (.type T) r)(J:Gl X x)(hm:X.mg x=none)(L:bootBuiltins x=some (.type T))(B:PA X (e::es) t)(hn:x≠"__name__":=by decide)(j:(x==("__debug__":Str))=false:=by decide)
 (he:starEach (e::es) X.env=(false,eval e X.env)::starEach es X.env:=by rfl) (y:(backTo pos (starEach es X.env)).any (·.1)=false:=by rfl):PE X (.Call (.Name x p) (e::es) [] pos) (N4 r t):=by
 intro pins s σ H Q I h;refine wpAny_Call_Name_kw (gP I J hm L ?_ hn j);exact RZ (aP (B pos pins s σ H _ I h) (by rintro O s1 ⟨R,H1,z,r1,M⟩;exact F pins s1 σ H1 R O Q z r1 M)) he y
end
end L2
namespace HT
open PySem PyProof.Rows
section
variable{prog:Rj}{w:Q8}{A:R6}{E:Qw->QA->Prop}{s:QA}
def HH (W:IsTup s.heap t vs.toArray)(S:IsTup s.heap b ws.toArray)(R:vs≠[])
 (h1:ws=[]->Q (.ref t) s) (h2:ws≠[]->Q (.ref s.heap.objs.size) {s with heap:=s.heap.push {cls:=.type "tuple",data:=.seq (vs++ws).toArray}})
 (hsz:vs.length+ws.length<=sizeLine):wpAny (model prog w) A (binaryOp .Add (.ref t) (.ref b)) Q E s:=by
 obtain⟨⟨cls,O,data,sl⟩,ho,U,n,hd⟩:=id W;obtain⟨⟨M,y,I,z⟩,j,J,n2,L⟩:=id S;subst U hd J L;have e:vs.toArray++ws.toArray=(vs++ws).toArray:=`s
 by_cases B:ws=[]
 ·exact concat_meets {_,ho,rfl} {_,j,rfl} noFill_tuple_add seq_tuple_add PySem.F.slot_tuple_add PySem.F.entry_tuple_add (PySem.F.args_tuple_add_2 _ _)
   (tuple_addW1 t b vs.toArray ws.toArray n n2 O y sl z (by simpa using R) (by simp[B])) {ho,j,h1 B}
 ·refine concat_meets {_,ho,rfl} {_,j,rfl} noFill_tuple_add seq_tuple_add PySem.F.slot_tuple_add PySem.F.entry_tuple_add (PySem.F.args_tuple_add_2 _ _)
   (tuple_addW2 t b vs.toArray ws.toArray n n2 O y sl z (by simpa using R) (by simpa using B) (by rw[QB,QB];exact hsz)) {ho,j,?_}
  rw[e];exact h2 B
noncomputable def aO (n d:Nat):Option Int->Nat
 |none=>d
 |some v=>if v<0 then(v+(n:Int)).toNat else min v.toNat n
def wX (v:Int)(n d:Nat):(if v<0 then max (v+(n:Int)) 0 else min v (n:Int))=((aO n d (some v):Nat):Int):=by
 show(if v<0 then max (v+(n:Int)) 0 else min v (n:Int))=(((if v<0 then(v+(n:Int)).toNat else min v.toNat n):Nat):Int);by_cases j:v<0
 ·simp only[if_pos j];omega
 ·simp only[if_neg j];omega
def yB (lo hi:Option Int)(n:Nat):Builtin.Slice.sliceAdjust lo hi 1 (n:Int)=(((aO n 0 lo:Nat):Int),((aO n n hi:Nat):Int)):=by
 refine Prod.ext ?_ ?_
 ·cases lo with
  |none=>rfl
  |some v=>exact wX v n 0
 ·cases hi with
  |none=>rfl
  |some v=>exact wX v n n
def xC (i j:Nat):Builtin.Slice.slicePlaces (i:Int) (j:Int) 1=j-i:=by
 unfold Builtin.Slice.slicePlaces;split<;>omega
def pA (p:IsPart v o)(h:Q o s):wpAny (model prog w) A (Builtin.Slice.slicePartIndex v) Q E s:=by
 cases p with
 |none=>exact slicePart_none h
 |int i t=>exact slicePart_int h
def i7 {lo hi:Option Int}{Q:Int×Int×Nat->QA->Prop}(hs:s.heap.IsSliceOf sl vl vu .none)(pl:IsPart vl lo)(B:IsPart vu hi)
 (h:Q (((aO n 0 lo:Nat):Int),1,aO n n hi-aO n 0 lo) s):wpAny (model prog w) A (Builtin.Slice.sliceApplied (.ref sl) (pure (n:Int))) Q E s:=by
 obtain⟨os,y,z,j⟩:=id hs;refine tqa (tqa (tqf y j rfl (tqa (tqf y j rfl (tqa (tqf y j rfl (tqb ?_)))))));refine tqa (slicePart_none ?_);rw[if_neg `d]
 refine tqa (pA pl (tqa (pA B (tqa (tqb ?_)))));show wpAny _ _ (match Builtin.Slice.sliceAdjust lo hi 1 (n:Int) with|(lo,hi)=>pure (lo,(1:Int),Builtin.Slice.slicePlaces lo hi 1)) _ _ s
 rw[yB lo hi n];show wpAny _ _ (pure (((aO n 0 lo:Nat):Int),(1:Int),Builtin.Slice.slicePlaces ((aO n 0 lo:Nat):Int) ((aO n n hi:Nat):Int) 1)) _ _ s;rw[xC];exact tqb h
def Ci (xs:Array Qw)(i k:Nat):((List.range k).filterMap λ(m:Nat)=>xs[((i:Int)+(m:Int)*1).toNat]?).toArray=((xs.toList.drop i).take k).toArray:=by
 have e:(λ(m:Nat)=>xs[((i:Int)+(m:Int)*1).toNat]?)=λm=>xs[i+m]?:=by
  funext m
  have:((i:Int)+(m:Int)*1).toNat=i+m:=`a
  rw[this]
 rw[e];have:=pick_run xs i k;rw[List.filterMap_map] at this;have e2:((λx=>xs[x]?)∘λx=>i+x)=λm=>xs[i+m]?:=rfl;rw[e2] at this;rw[this]
def oh {lo hi:Option Int}(y:IsTup s.heap t items)(hs:s.heap.IsSliceOf sl vl vu .none)(pl:IsPart vl lo)(M:IsPart vu hi)
 (L:¬ (aO items.size 0 lo=0/\aO items.size items.size hi=items.size))
 (h:Q (.ref s.heap.objs.size) {s with heap:=s.heap.push {cls:=.type "tuple",data:=.seq ((items.toList.drop (aO items.size 0 lo)).take (aO items.size items.size hi-aO items.size 0 lo)).toArray}})
 (hsz:items.size<=sizeLine):wpAny (model prog w) A (getItem (.ref t) (.ref sl)) Q E s:=by
 have j:sizeOk (.seq ((items.toList.drop (aO items.size 0 lo)).take (aO items.size items.size hi-aO items.size 0 lo)).toArray):=by
  show((items.toList.drop (aO items.size 0 lo)).take (aO items.size items.size hi-aO items.size 0 lo)).toArray.size<=sizeLine;rw[QB,Q7,Q1,Sy];omega
 obtain⟨os,I,B,J⟩:=id hs;have z:s.TypeIs (.ref sl) "slice":=⟨os,I,B⟩;unfold getItem;try with_reducible refine tqo ?_
 first|refine tqa (tqb ?_)|skip
 refine tqa (wpAny_sequenceKey y.typeIs `d ?_)
 refine tqa (wpAny_callSpecial?_slot y.typeIs Rk
  (wpAny_call_entry Rk y.typeIs entry_tuple_getitem ?_ (args_tuple_getitem _ _)))
 show wpAny _ _ (Builtin.Tuple.tupleItemsOf (.ref t) >>= _) _ _ s;refine tqa (tupleItemsOf_ y ?_);refine tqa (wpAny_typeOf z ?_);rw[if_pos `d]
 refine tqa (i7 hs pl M ?_);have F:¬ ((((aO items.size 0 lo:Nat):Int)==0&&(1:Int)==1&&(aO items.size items.size hi-aO items.size 0 lo)==items.size)=true):=by
  intro q;rw[QD,QD] at q;have O:=eq_of_beq q.1.1;have R:=eq_of_beq q.2;exact L {`a,`a}
 show wpAny _ _ (if (((aO items.size 0 lo:Nat):Int)==0&&(1:Int)==1&&(aO items.size items.size hi-aO items.size 0 lo)==items.size)=true then _ else _) _ _ s;rw[if_neg F,Ci];first
  |exact tqa (wpAny_newObj_type (tqb {_,rfl,tqb h}) j)
  |exact tqa (wpAny_newObj_type (tqa (tqb (tqb {_,rfl,tqb h}))) j)
  |exact tqa (tqa (wpAny_newObj_type (tqb (tqb {_,rfl,tqb h})) j))
  |exact tqa (tqa (wpAny_newObj_type (tqb {_,rfl,tqb h}) j))
end
end HT
namespace L2
open PySem PySem.Spec PyProof.Rows
abbrev TO:=St->Hp->(Option Int->Hp->Prop)->Prop
def PO (X:Cx)(e:Option Expr)(t:TO):Prop:=
 ∀(pins:List (Addr×Obj)) (s:QA) (σ:St) (H:Hp) (Q:Option Int->Hp->Prop),Inv X pins σ H s->t σ H Q->
  wpAny (model X.prog X.w) X.A (evalPart e X.env) (λu s'=>∃o H',Inv X pins σ H' s'/\IsPart u o/\Q o H') X.xe s
def FR:TO:=λ_ H Q=>Q none H
def Md (t:TE):TO:=λσ H Q=>t σ H λx H1=>∃i,x=.int i/\Q (some i) H1
section
variable{X:Cx}{e:Expr}{te:TE}{lo hi:Option Expr}{tl th:TO}{pos p2:Pos}
def GH:PO X none FR:=by
 intro pins s σ H Q I h;rw[evalPart_none];exact tqb {none,H,I,.none,h}
def GG (h:PE X e te):PO X (some e) (Md te):=by
 intro pins s σ H Q I y;rw[evalPart_some];refine aP (h pins s σ H _ I y) ?_;rintro u s1 ⟨x,H1,j,r1,z⟩;obtain⟨i,rfl,q⟩:=z;obtain⟨t,rfl⟩:=r1;exact{some i,H1,j,.int i t,q}
def ni (X:Cx)(r:V->Option Int->Option Int->Hp->VK->Prop):Prop:=
 ∀(pins:List (Addr×Obj)) (s:QA) (σ:St) (H:Hp) (x:V) (v j y:Qw) (lo hi:Option Int) (sl:Addr) (Q:VK),Inv X pins σ H s->RelV x v->s.heap.IsSliceOf sl j y .none->IsPart j lo->IsPart y hi->r x lo hi H Q->
  ∃T id,typeLookup (.type T) "__getitem__"=pure (some (.builtin id))/\s.TypeIs v T/\wpAny (model X.prog X.w) X.A (getItem v (.ref sl)) (EP X pins σ Q) X.xe s
def ni.or (h:ni X r)(h':ni X r'):ni X (λx lo hi H Q=>r x lo hi H Q\/r' x lo hi H Q):=by
 intro pins s σ H x v z B lo hi sl Q I y hs pl j q;rcases q with q|q
 ·exact h pins s σ H x v z B lo hi sl Q I y hs pl j q
 ·exact h' pins s σ H x v z B lo hi sl Q I y hs pl j q
def tSl (r:V->Option Int->Option Int->Hp->VK->Prop)(te:TE)(tl th:TO):TE:=λσ H Q=>te σ H λx H1=>tl σ H1 λl H2=>th σ H2 λu j=>r x l u j Q
def Cj (hr:ni X r)(he:PE X e te)(hl:PO X lo tl)(U:PO X hi th):PE X (.Subscript e (.Slice lo hi none p2) pos) (tSl r te tl th):=by
 intro pins s σ H Q I h;refine Subscript_ (aP (he pins s σ H _ I h) λv s1 ⟨x,H1,F,r1,Y⟩=>?_);refine wpAny_Slice (aP (hl pins s1 σ H1 _ F Y) λy s2 ⟨l,H2,J,pl,q2⟩=>aP (U pins s2 σ H2 _ J q2) λz j ⟨u,B,L,W,q3⟩=>?_);rw[evalPart_none];refine tqb ?_;have M:Inv X pins σ B {j with heap:=j.heap.push {cls:=.type "slice",data:=.fields #[y,z,.none]}}:=L.kept λb ob q=>Qu _ q
 obtain⟨T,id,O,S,R⟩:=hr pins {j with heap:=j.heap.push {cls:=.type "slice",data:=.fields #[y,z,.none]}} σ B x v y z l u j.heap.objs.size Q M r1 (Heap.IsSliceOf.new ..) pl W q3
 exact tail_any S O R (by with_unfolding_all rfl)
def qX (xs:List V)(lo hi:Option Int):List V:=(xs.drop (HT.aO xs.length 0 lo)).take (HT.aO xs.length xs.length hi-HT.aO xs.length 0 lo)
def ow (xs:List V)(lo hi:Option Int):(qX xs lo hi).length<=xs.length:=by
 unfold qX;rw[Q7,Q1];omega
def Jl (K:Qs):V->Option Int->Option Int->Hp->VK->Prop:=λx lo hi H Q=>∃a xs,x=.ref a/\dO K H a xs/\
 ¬ (HT.aO xs.length 0 lo=0/\HT.aO xs.length xs.length hi=xs.length)/\∀p,H p=none->Q (.ref p) (upd H p (.tup (qX xs lo hi)))
def IU:ni X (Jl X.K):=by
 intro pins s σ H x v O R lo hi sl Q I M hs pl L h;obtain⟨a,xs,rfl,J,F,q⟩:=h;cases M;obtain⟨y,r,z,B⟩:=I.tuple J;have j:y.toArray.size=xs.length:=by rw[QB];exact r.length.symm
 refine{"tuple",_,Rk.lookup,z.typeIs,?_};refine HT.oh z hs pl L (by rw[j];exact F) ?_ (by rw[j];exact B)
 rw[j];refine{.ref s.heap.objs.size,_,I.laid (λb ob q=>Qu _ q) (Qy _) ?_,rfl,q _ (I.hok.fresh (Qy _))};exact{QC (ow xs lo hi) B,_,(r.drop (HT.aO xs.length 0 lo)).take (HT.aO xs.length xs.length hi-HT.aO xs.length 0 lo),IsTup.new _ _}
def Mp (K:Qs):R2:=λx y H Q=>∃a b xs ys,x=.ref a/\y=.ref b/\dO K H a xs/\dO K H b ys/\xs≠[]/\xs.length+ys.length<=sizeLine/\
 (ys=[]->Q (.ref a) H)/\(ys≠[]->∀p,H p=none->Q (.ref p) (upd H p (.tup (xs++ys))))
def Vals.nil_iff (r:Vals xs us):us=[]↔xs=[]:=by
 cases r with
 |nil=>simp
 |cons _ _=>simp
def GP:bL X (binaryOp .Add) (Mp X.K):=by
 intro pins s σ H x y v u Q I S U h;obtain⟨a,b,xs,ys,rfl,rfl,F,J,L,j,O,R⟩:=h;cases S;cases U;obtain⟨M,r1,p1,_⟩:=I.tuple F;obtain⟨B,r2,p2,_⟩:=I.tuple J;refine HT.HH p1 p2 (λz=>L (r1.nil_iff.mp z)) (λz=>{.ref a,H,I,rfl,O (r2.nil_iff.mp z)}) (λz=>?_) (by rw[<- r1.length,<- r2.length];exact j)
 refine{.ref s.heap.objs.size,_,I.laid (λb ob q=>Qu _ q) (Qy _) ?_,rfl,R (λw=>z (r2.nil_iff.mpr w)) _ (I.hok.fresh (Qy _))};exact{by rw[Qt];exact j,_,r1.append r2,IsTup.new _ _}
end
def bY (n:Nat)(i:Int):Option Nat:=if 0<=i then(if i<n then some i.toNat else none) else if -(n:Int)<=i then some (i+n).toNat else none
def su {y:Type}(xs:List y)(i:Int):Option y:=(bY xs.length i).bind λj=>xs[j]?
def wF {n:Nat}{i:Int}{j:Nat}(h:bY n i=some j):seqIndex? i n=some j/\j<n/\-(n:Int)<=i/\i<n:=by
 unfold bY at h;by_cases y:0<=i
 ·rw[if_pos y] at h;by_cases h1:i<n
  ·rw[if_pos h1] at h;have e:=Qz h;exact{by rw[seqIndex_of y h1,e],`a,`a,h1}
  ·rw[if_neg h1] at h;cases h
 ·rw[if_neg y] at h;by_cases h1:-(n:Int)<=i
  ·rw[if_pos h1] at h;have e:=Qz h;exact{by rw[seqIndex_neg `a h1,e],`a,h1,`a}
  ·rw[if_neg h1] at h;cases h
def q9 {y:Type}{xs:List y}{i:Int}{v:y}(h:su xs i=some v):∃j,seqIndex? i xs.length=some j/\xs[j]?=some v/\j<xs.length/\-(xs.length:Int)<=i/\i<xs.length:=by
 unfold su at h;cases e:bY xs.length i with
 |none=>rw[e] at h;cases h
 | some j=>
   rw[e] at h;obtain⟨h1,h2,h3,h4⟩:=wF e;exact⟨j,h1,h,h2,h3,h4⟩
def gF (b:Expr):Prop:=∀o i,subscripted b false o i=operate [o,i] (getItem o i)
def jT (X:Cx)(r:R2):Prop:=
 ∀(value j:Expr) (pins:List (Addr×Obj)) (s:QA) (σ:St) (H:Hp) (x y:V) (v u:Qw) (Q:VK),Inv X pins σ H s->RelV x v->RelV y u->r x y H Q->
  subscripted j false v u=operate [v,u] (getItem v u)->wpAny (model X.prog X.w) X.A (subscriptTail value j v u) (EP X pins σ Q) X.xe s
def MtR (X:Cx)(id:String)(r:V->List V->Hp->VK->Prop):Prop:=
 ∀(pins:List (Addr×Obj)) (s:QA) (σ:St) (H:Hp) (x:V) (xs:List V) (v:Qw) (j:List Qw) (Q:VK),Inv X pins σ H s->RelV x v->Vals xs j->r x xs H Q->
  wpAny (model X.prog X.w) X.A (call (.builtin id) (v::j)) (EP X pins σ Q) X.xe s
section
variable{X:Cx}{a b:Expr}{ta tb:TE}{pos:Pos}
def jT.or (h:jT X r)(h':jT X r'):jT X (λx y H Q=>r x y H Q\/r' x y H Q):=by
 intro value j pins s σ H x y v u Q I z B q hs;rcases q with q|q
 ·exact h value j pins s σ H x y v u Q I z B q hs
 ·exact h' value j pins s σ H x y v u Q I z B q hs
def pH (hr:jT X r)(z:PE X a ta)(B:PE X b tb)(hs:gF b):PE X (.Subscript a b pos) (zm r ta tb):=by
 intro pins s σ H Q I h;exact Subscript_ (Di z B I h λv u s2 x y H2 j F J q=>hr a b pins s2 σ H2 x y v u Q j F J q (hs _ _))
def Jq (K:Qs):R2:=λx y H Q=>∃p xs i v,x=.ref p/\y=.int i/\cQ K H p xs/\su xs i=some v/\Q v H
def Jo (K:Qs):R2:=λx y H Q=>∃p xs i v,x=.ref p/\y=.int i/\dO K H p xs/\su xs i=some v/\Q v H
def Jp:R2:=λx y H Q=>∃z i c,x=.str z/\y=.int i/\z.length<=sizeLine/\su z.cps.toList i=some c/\Q (.str {#[c]}) H
def G8:jT X (Jq X.K):=by
 intro value M pins s σ H x y v u Q I W Y h hs;obtain⟨p,xs,i,z,rfl,rfl,U,he,q⟩:=h;cases W;obtain⟨t,rfl⟩:=Y;obtain⟨J,r,pl,hz⟩:=I.list U;obtain⟨j,h1,h2,h3,h4,S⟩:=q9 he;obtain⟨w,O,L⟩:=r.get h2;have hl:=r.length;have hn:=jf;have B:EP X pins σ Q w s:=⟨z,H,I,L,q⟩;by_cases R:0<=i
 ·have F:i.toNat=j:=by
   rw[seqIndex_of R S] at h1;exact Qz h1
  exact item_listR pl.isList R `a (by rw[F];simpa using O) B hs
 ·have F:(i+(J.toArray.size:Int)).toNat=j:=by
   rw[seqIndex_neg `a h4] at h1
   rw[QB,<- hl];exact Qz h1
  exact subscriptTail_builtinR pl.isList.typeIs slot_list_getitem.lookup
   (wpAny_getItem_list_neg pl.isList `a (by rw[QB]<;>omega) `a (by rw[F];simpa using O) ⟨rfl,B⟩) hs
def Ko:jT X (Jo X.K):=by
 intro value J pins s σ H x y v u Q I R S h hs;obtain⟨p,xs,i,z,rfl,rfl,M,he,q⟩:=h;cases R;obtain⟨t,rfl⟩:=S;obtain⟨O,r,pl,W⟩:=I.tuple M;obtain⟨j,h1,h2,h3,h4,U⟩:=q9 he;obtain⟨w,L,F⟩:=r.get h2;have hl:=r.length;have hn:=jf;have B:EP X pins σ Q w s:=⟨z,H,I,F,q⟩;exact subscriptTail_builtinR pl.typeIs slot_tuple_getitem.lookup
  (getItem_tuple pl `a `a (by rw[QB,<- hl];exact h1) (by simpa using L) ⟨rfl,B⟩) hs
def Kp:jT X Jp:=by
 intro value B pins s σ H x y v u Q I J L h hs;obtain⟨z,i,c,rfl,rfl,M,he,q⟩:=h;obtain⟨t,rfl⟩:=J;obtain⟨O,rfl⟩:=L;obtain⟨j,h1,h2,h3,h4,F⟩:=q9 he;have hl:z.cps.toList.length=z.length:=by simp[Str.length]
 rw[hl] at h1 h4 F;have hn:=jf;exact tail_any (typeIs_str s z t) slot_str_getitem.lookup (getItem_str (by
  have e1:decide (i < -(2^63:Int))=false:=decide_eq_false `a
  have e2:decide (i≥2^63)=false:=decide_eq_false `a
  rw[e1,e2,Bool.or_false]) (by rw[h1];simpa using h2) {.str {#[c]},H,I.tok _,{_,rfl},q}) hs
def Jr (K:Qs):R2:=λx y H Q=>Jq K x y H Q\/Jo K x y H Q\/Jp x y H Q
def Kq:jT X (Jr X.K):=G8.or (Ko.or Kp)
def xQ (its:List Qw)(n j:Nat)(u:Qw):Obj.mapSeq (·.setIfInBounds j u) {cls:=.type "list",data:=.seq its.toArray n}={cls:=.type "list",data:=.seq (its.set j u).toArray n}:=by
 simp[Obj.mapSeq]
def Inv.lst (I:Inv X pins σ H s)(h:H p=some (.lst xs)) :
 ∃(j:List Qw) (n:Nat),Vals xs j/\s.heap.get? p=some {cls:=.type "list",data:=.seq j.toArray n}/\xs.length<=sizeLine:=by
 obtain⟨z,j,n,r,e⟩:=I.hok p _ h;exact⟨j,n,r,e,z⟩
def Inv.lstUpd {pins:List (Addr×Obj)}{σ:St}{H:Hp}{s:QA}{p:Addr}{xs ys:List V}{j its':List Qw}{n n':Nat}{f:Obj->Obj}(I:Inv X pins σ H s)(h:H p=some (.lst xs))
 (ho:s.heap.get? p=some {cls:=.type "list",data:=.seq j.toArray n}) (hf:f {cls:=.type "list",data:=.seq j.toArray n}={cls:=.type "list",data:=.seq its'.toArray n'}) (r:Vals ys its') (hz:ys.length<=sizeLine) (t:Nat) :
 Inv X pins σ (upd H p (.lst ys)) {s with heap:=s.heap.update p f,toks:=t}:=by
 have e:(s.heap.update p f).get? p=some {cls:=.type "list",data:=.seq its'.toArray n'}:=by
  rw[R7 f ho (by rw[hf]<;>rfl),hf]
 refine I.write (by rw[h];trivial) (.inl rfl) (λb u y q=>(R3 _ _ (RR y)).trans q) {_,e} ?_
 exact⟨hz,its',n',r,e⟩
def D9:V->V->V->Hp->(Hp->Prop)->Prop:=λo i v H Q=>∃p xs k j,o=.ref p/\i=.int k/\H p=some (.lst xs)/\bY xs.length k=some j/\Q (upd H p (.lst (xs.set j v)))
def set_list:Dr X D9:=by
 intro pins s σ H o i v S R u Q I ro M O h;obtain⟨p,xs,k,j,rfl,rfl,F,J,q⟩:=h;cases ro;obtain⟨t,rfl⟩:=M;obtain⟨y,n,r,ho,L⟩:=I.lst F;obtain⟨h1,h2,h3,h4⟩:=wF J;have hl:=r.length;have hn:=jf;have z:Inv X pins σ (upd H p (.lst (xs.set j v))) {s with heap:=s.heap.update p (Obj.mapSeq (·.setIfInBounds j u))}:=
  I.lstUpd F ho (xQ y n j u) (r.set O j) (by rw[List.length_set];exact L) s.toks
 by_cases B:0<=k
 ·have hk:k.toNat=j:=by
   rw[seqIndex_of B h4] at h1;exact Qz h1
  exact PySem.W.ki_setAt ho B `a (by rw[QB,<- hl];exact h4) (by rw[hk];exact{_,z,q})
 ·have hk:(k+(y.toArray.size:Int)).toNat=j:=by
   rw[seqIndex_neg `a h3] at h1
   rw[QB,<- hl];exact Qz h1
  exact PySem.W.ki_setBack ho `a (by rw[QB,<- hl];exact h3) `a (by rw[hk];exact{_,z,q})
def tN (lo hi:Option Int)(n:Nat):(sliceBounds lo hi none n).1=((HT.aO n 0 lo:Nat):Int)/\(sliceBounds lo hi none n).2.1=((HT.aO n n hi:Nat):Int)/\(sliceBounds lo hi none n).2.2=1:=by
 refine{?_,?_,rfl}
 ·cases lo with
  |none=>simp[sliceBounds,HT.aO]
  | some i=>
    simp only[sliceBounds,HT.aO,Option.getD_none,show(1:Int) > 0 by decide,if_true]
    by_cases h:i<0
    ·simp only[h,if_true]<;>omega
    ·simp only[h,if_false]<;>omega
 ·cases hi with
  |none=>simp[sliceBounds,HT.aO]
  | some i=>
    simp only[sliceBounds,HT.aO,Option.getD_none,show(1:Int) > 0 by decide,if_true]
    by_cases h:i<0
    ·simp only[h,if_true]<;>omega
    ·simp only[h,if_false]<;>omega
def sC (j:List Qw)(lo hi:Option Int):slicePick j.toArray lo hi none=((j.drop (HT.aO j.length 0 lo)).take (HT.aO j.length j.length hi-HT.aO j.length 0 lo)).toArray:=by
 obtain⟨h1,h2,h3⟩:=tN lo hi j.toArray.size;unfold slicePick;rw[h1,h2,h3];simp only[sliceRange_one,pick_run,QB]<;>rfl
def Jm (K:Qs):V->Option Int->Option Int->Hp->VK->Prop:=λx lo hi H Q=>∃a xs,x=.ref a/\cQ K H a xs/\∀p,H p=none->Q (.ref p) (upd H p (.lst (qX xs lo hi)))
def Gh:ni X (Jm X.K):=by
 intro pins s σ H x v M O lo hi sl Q I L hs pl J h;obtain⟨a,xs,rfl,z,q⟩:=h;cases L;obtain⟨F,r,y,B⟩:=I.list z;have j:=r.length;refine{"list",_,slot_list_getitem.lookup,y.isList.typeIs,?_};refine wpAny_getItem_list_slice y.isList hs pl J .none `s ?_ (by rw[QB]<;>omega)
 rw[sC,<- j];refine{.ref s.heap.objs.size,_,I.laid (λb ob q=>Qu _ q) (Qy _) ?_,rfl,q _ (I.hok.fresh (Qy _))};exact{QC (ow xs lo hi) B,_,0,(r.drop (HT.aO xs.length 0 lo)).take (HT.aO xs.length xs.length hi-HT.aO xs.length 0 lo),QY _ rfl}
def vc:cf X (.builtin "len") (λxs H Q=>∃p ys,xs=[.ref p]/\(cQ X.K H p ys\/dO X.K H p ys)/\Q (.int ys.length) H):=by
 intro pins s σ H xs L Q I r h;obtain⟨p,ys,rfl,y,q⟩:=h;obtain⟨u,rfl,J⟩:=vals1 r;cases J;have hn:=jf;rcases y with y|y
 ·obtain⟨z,B,pl,F⟩:=I.list y;have j:=B.length;exact Calls.call_len_list pl.isList (by simp only[QB]<;>omega) {.int ys.length,H,I.tok _,{s.toks+1,by rw[QB,j]},q}
 ·obtain⟨z,B,pl,F⟩:=I.tuple y;have j:=B.length;exact len_tuple pl (by simp only[QB]<;>omega) {.int ys.length,H,I.tok _,{s.toks+1,by rw[QB,j]},q}
def vb:cf X (.builtin "len") (λxs H Q=>∃z,xs=[.str z]/\z.length<=sizeLine/\Q (.int z.length) H):=by
 intro pins s σ H xs y Q I r h;obtain⟨z,rfl,j,q⟩:=h;obtain⟨u,rfl,t,rfl⟩:=vals1 r;have hn:=jf;exact len_str `a {.int z.length,H,I.tok _,{_,rfl},q}
def cf.or (h:cf X f r)(h':cf X f r'):cf X f (λxs H Q=>r xs H Q\/r' xs H Q):=by
 intro pins s σ H xs j Q I rs q;rcases q with q|q
 ·exact h pins s σ H xs j Q I rs q
 ·exact h' pins s σ H xs j Q I rs q
def va:cf X (.type "list") (λxs H Q=>∃p ys,xs=[.ref p]/\(cQ X.K H p ys\/dO X.K H p ys)/\∀l,H l=none->Q (.ref l) (upd H l (.lst ys))):=by
 intro pins s σ H xs R Q I r h;obtain⟨p,ys,rfl,J,q⟩:=h;obtain⟨u,rfl,O⟩:=vals1 r;cases O;have B:∀(j:List Qw),Vals ys j->ys.length<=sizeLine->∀(h':Heap) (y:Nat),(∀b o',s.heap.get? b=some o'->h'.get? b=some o')->
  h'.get? s.heap.objs.size=some {cls:=.type "list",dict:=none,data:=.seq j.toArray y,slots:=#[]}->EP X pins σ Q (.ref s.heap.objs.size) {s with heap:=h'}:=λj z L h' y kp e=>
  {.ref s.heap.objs.size,_,I.laid kp (Qy _) (show fq X.prog X.w _ h' _ (.lst ys) from⟨L,j,y,z,e⟩),rfl,q _ (I.hok.fresh (Qy _))}
 rcases J with J|J
 ·obtain⟨j,z,pl,L⟩:=I.list J;have F:=z.length;obtain⟨o,ho,M,n,hd⟩:=pl.isList;exact call_list_seq p (.inl rfl) ho M hd (λh' y kp e=>B j z L h' y kp e) (by simp only[QB]<;>omega)
 ·obtain⟨j,z,pl,L⟩:=I.tuple J;have F:=z.length;obtain⟨o,ho,M,n,hd⟩:=pl;exact call_list_seq p (.inr rfl) ho M hd (λh' y kp e=>B j z L h' y kp e) (by simp only[QB]<;>omega)
def sF:cf X (.type "tuple") (λxs H Q=>∃p ys,xs=[.ref p]/\((cQ X.K H p ys/\∀l,H l=none->Q (.ref l) (upd H l (.tup ys)))\/(dO X.K H p ys/\Q (.ref p) H))):=by
 intro pins s σ H xs O Q I r h;obtain⟨p,ys,rfl,h⟩:=h;obtain⟨u,rfl,M⟩:=vals1 r;cases M;rcases h with⟨y,q⟩|⟨y,q⟩
 ·obtain⟨j,z,pl,J⟩:=I.list y;have F:=z.length;refine call_tuple_list pl.isList (λh' kp=>?_) (by simp only[QB]<;>omega)
  have B:=I.kept (t':=s.toks) kp;have L:Inv X pins σ (upd H h'.objs.size (.tup ys)) {s with heap:=h'.push {cls:=.type "tuple",data:=.seq j.toArray}}:=
   B.laid (λb o e=>Qu _ e) (Qy _) ({J,j,z,IsTup.new _ _})
  exact{.ref h'.objs.size,_,L,rfl,q _ (B.hok.fresh (Qy _))}
 ·obtain⟨j,z,pl,J⟩:=I.tuple y;exact call_tuple_same pl {.ref p,H,I,rfl,q}
def N0 (K:Qs)(T:String)(x:V)(H:Hp):Prop:=match x with
 |.str _=>T="str"
 |.int _=>T="int"
 |.ref p=>(T="list"/\∃xs,cQ K H p xs)\/(T="tuple"/\∃o,K.lookup p=some o/\o.cls=.type "tuple"/\o.dict=none)\/
  (T="dict"/\((∃kvs,H p=some (.dK kvs))\/(∃kvs,H p=some (.dT kvs))\/∃es,H p=some (.dn es)))\/(T="set"/\∃S n,H p=some (.set S n))
 |_=>False
def ID (I:Inv X pins σ H s)(r:RelV x v)(ty:N0 X.K T x H) :
 s.TypeIs v T/\∀a,v=.ref a->∃ob,s.heap.get? a=some ob/\ob.dict=none:=by
 cases x with
 | str z=>
   obtain⟨t,rfl⟩:=r;cases (ty);exact{typeIs_str s z t,λ_ e=>nomatch e}
 | int i=>
   obtain⟨t,rfl⟩:=r;cases (ty);exact{typeIs_int s i t,λ_ e=>nomatch e}
 | ref p=>
   cases r;rcases ty with⟨rfl,xs,B⟩|⟨rfl,o,hk,y,hd⟩|⟨rfl,hk⟩|⟨rfl,S,n,hk⟩
   ·obtain⟨F,_,pl,_⟩:=I.list B;refine{pl.isList.typeIs,λa e=>?_};cases e;obtain⟨o,n,e,c,hd,_⟩:=pl;exact⟨o,e,hd⟩
   ·refine{{o,I.kIn p o hk,y},λa e=>?_};cases e;exact{o,I.kIn _ o hk,hd}
   ·have z:∃o,s.heap.get? p=some o/\o.ExactDict:=by
     rcases hk with⟨j,hk⟩|⟨j,hk⟩|⟨es,hk⟩
     rotate_left 2
     ·obtain⟨_,_,o,e,ex,_⟩:=I.hok p _ hk;exact⟨o,e,ex⟩
     ·obtain⟨_,_,_,_,o,_,_,e,ex,_⟩:=I.hok p _ hk;exact⟨o,e,ex⟩
     ·obtain⟨_,_,_,_,o,_,_,e,ex,_⟩:=I.hok p _ hk;exact⟨o,e,ex⟩
    obtain⟨o,e,ex⟩:=z;refine{⟨o,e,ex.1⟩,λa e2=>?_};cases e2;exact⟨o,e,ex.2.1⟩
   ·obtain⟨o,_,_,_,e,ex,_⟩:=I.hok p _ hk;refine{⟨o,e,ex.1⟩,λa e2=>?_};cases e2;exact⟨o,e,ex.2.1⟩
 |_=>exact False.elim ty
def tBM (K:Qs)(T:String)(r:V->List V->Hp->VK->Prop)(to:TE)(t:TA):TE:=λσ H Q=>to σ H λx H1=>N0 K T x H1/\t σ H1 λxs H2=>r x xs H2 Q
variable{o e:Expr}{es:List Expr}{to:TE}{t:TA}{name:Str}{apos cpos:Pos}{T id:String}{r:V->List V->Hp->VK->Prop}
def xD (R:PlainAttrs T)(slot:Slot T name id)(F:typeOf (.builtin id)=pure (.type "method_descriptor"))(hm:MtR X id r)(ho:PE X o to)(O:PA X (e::es) t)
 (y:attributeBase o name X.env (eval o X.env)=eval o X.env:=by rfl)
 (B:((backTo cpos (starEach (e::es) X.env)).all (λx=>!x.1)&&(backToKw cpos (keywordEach [] X.env)).all (λx=>x.1.isSome)
  && decide ((e::es).length+([]:List Keyword).length+(if ([]:List Keyword).isEmpty then 0 else 1)<30))=true:=by rfl)
 (z:(apos.endLine==cpos.line)=true:=by rfl) (hs:starEach (e::es) X.env=(false,eval e X.env)::starEach es X.env:=by rfl) (j:(backTo cpos (starEach es X.env)).any (·.1)=false:=by rfl) :
 PE X (.Call (.Attribute o name apos) (e::es) [] cpos) (tBM X.K T r to t):=by
 intro pins s σ H Q I h;refine wpAny_Call_method_late y B z rfl (aP (ho pins s σ H _ I h) λv s1 ⟨x,H1,J,r1,ty,S⟩=>?_);obtain⟨h1,h2⟩:=ID J r1 ty;refine{T,id,R,slot,F,h1,h2,?_};have L:=O cpos pins s1 σ H1 _ J S;rw[hs] at L ⊢;refine Calls.callWith_builtin (by show(false||(backTo cpos (starEach es X.env)).any (·.1))=false;rw[j]<;>rfl) (Calls.evalArgs_plain ?_)
 exact aP L (by rintro W s2 ⟨Y,H2,M,r2,U⟩;exact hm pins s2 σ H2 x Y v W Q M r1 r2 U)
end
def Ox (X:Cx)(id:String)(r:V->List V->Hp->VK->Prop):Prop:=
 ∀(pins:List (Addr×Obj)) (s:QA) (σ:St) (H:Hp) (x:V) (xs:List V) (v:Qw) (j:List Qw) (Q:VK),Inv X pins σ H s->RelV x v->Vals xs j->r x xs H Q->
  wpAny (model X.prog X.w) X.A (call (.builtin id) (v::j)) (EP X pins σ Q) X.xe s
def Vals.one:∀{x:V}{us:List Qw},Vals [x] us->∃u,us=[u]/\RelV x u
 |_,_,.cons r .nil=>{_,rfl,r}
noncomputable def Vals.rep (h:Vals xs us):∀k:Nat,Vals (List.replicate k xs).flatten (List.replicate k us).flatten
 |0=>.nil
 | k+1=>by
   rw[RS,RS,Sv,Sv];exact Vals.append h (Vals.rep h k)
theorem foldl_rep (j:List Qw):∀(k:Nat) (acc:List Qw),
 List.foldl (λx1 x2=>x1++x2) acc.toArray (List.replicate k j.toArray)=(acc++(List.replicate k j).flatten).toArray
 |0,acc=>`s
 | k+1,acc=>by
   have e:acc.toArray++j.toArray=(acc++j).toArray:=`s
   have e2:(acc++j)++(List.replicate k j).flatten=acc++(List.replicate (k+1) j).flatten:=by
    rw[RS,Sv,RT]
   rw[<- e2,<- foldl_rep j k (acc++j),<- e,RS,List.foldl_cons]
section
variable{X:Cx}{pins:List (Addr×Obj)}{σ:St}{H:Hp}{s:QA}{l b:Addr}{xs ys zs:List V}
def Inv.lset {j its':List Qw}(I:Inv X pins σ H s)(y:H l=some (.lst xs))
 (e:s.heap.get? l=some {cls:=.type "list",data:=.seq j.toArray n}) (hf:f j.toArray=its'.toArray) (F:Vals ys its') (hz:ys.length<=sizeLine) :
 Inv X pins σ (upd H l (.lst ys)) {s with heap:=s.heap.update l (Obj.mapSeq f),toks:=t'}:=by
 have q:=PySem.IsL.update e f;rw[hf] at q;refine I.write (by rw[y];exact trivial) (.inl rfl) (λJ u z B=>(R3 s.heap (Obj.mapSeq f) (RR z)).trans B) {_,q} ?_
 exact{hz,its',_,F,q}
def Inv.lnew (I:Inv X pins σ H s)(j:Vals ys its)(hz:ys.length<=sizeLine) :
 Inv X pins σ (upd H s.heap.objs.size (.lst ys)) {s with heap:=s.heap.push {cls:=.type "list",data:=.seq its.toArray},toks:=t'}:=
 I.laid (λ_ _ q=>Qu _ q) (Qy _) {hz,its,0,j,QY _ rfl}
def Inv.fresh (I:Inv X pins σ H s):H s.heap.objs.size=none:=I.hok.fresh (Qy _)
def Inv.lstM (I:Inv X pins σ H s)(y:H l=some (.lst xs)):xs.length<=sizeLine/\∃(j:List Qw) (n:Nat),Vals xs j/\xs.length=j.length/\s.heap.get? l=some {cls:=.type "list",data:=.seq j.toArray n}:=by
 obtain⟨z,j,n,r,e⟩:=I.hok l _ y;exact⟨z,j,n,r,r.length,e⟩
def lh (h:n<=sizeLine):Builtin.List.listTooLong n=false:=by
 exact decide_eq_false `a
end
section
variable{X:Cx}
def Gw:V->List V->Hp->VK->Prop:=λx j H Q=>∃l xs y,x=.ref l/\j=[y]/\H l=some (.lst xs)/\xs.length<sizeLine/\Q .non (upd H l (.lst (xs++[y])))
def my:Ox X "list.append" Gw:=by
 intro pins s σ H x S v R Q I M L h;obtain⟨l,xs,y,rfl,rfl,B,O,q⟩:=h;cases M;obtain⟨u,rfl,J⟩:=L.one;obtain⟨z,j,n,r,hl,e⟩:=I.lstM B;refine call_meets F.slot_list_append {_,e,rfl} F.entry_list_append (F.args_list_append_2 _ _) (PySem.list_append l j.toArray n u (by rw[QB];omega)) {e,?_}
 refine{.non,_,I.lset B e `s (r.append (.cons J .nil)) ?_,rfl,q}
 rw[Qt,RV];omega
def Gv:V->List V->Hp->VK->Prop:=λx j H Q=>∃l b xs zs,x=.ref l/\j=[.ref b]/\H l=some (.lst xs)/\H b=some (.lst zs)/\xs.length+zs.length<=sizeLine/\Q .non (upd H l (.lst (xs++zs)))
def Aj:Ox X "list.extend" Gv:=by
 intro pins s σ H x vs v us Q I rx rv h;obtain⟨l,b,xs,zs,rfl,rfl,hH,hB,hz,q⟩:=h;cases rx;obtain⟨u,rfl,ru⟩:=rv.one;cases ru;obtain⟨z,its,n,r,hl,e⟩:=I.lstM hH;obtain⟨z2,its2,n2,r2,hl2,e2⟩:=I.lstM hB;have hsz:its.toArray.size+its2.toArray.size<=sizeLine:=by rw[QB,QB];omega
 have hlong:¬ (!its.toArray.isEmpty&&Builtin.List.listTooLong (its.toArray.size+its2.toArray.size))=true:=by
  rw[lh hsz,Bool.and_false];exact QX
 refine call_meets F.slot_list_extend {_,e,rfl} F.entry_list_extend (F.args_list_extend_2 _ _)
  (AutoSeq1.list_extend_list_list_0 l its.toArray n b its2.toArray n2 hlong (by rw[QB];omega) `a) {e,e2,?_}
 refine{.non,_,I.lset hH e `s (r.append r2) ?_,rfl,q}
 rw[Qt];omega
def OV:R2:=λx y H Q=>∃l b xs zs,x=.ref l/\y=.ref b/\H l=some (.lst xs)/\H b=some (.lst zs)/\xs.length+zs.length<=sizeLine/\∀p,H p=none->Q (.ref p) (upd H p (.lst (xs++zs)))
def JQ:bL X (binaryOp .Add) OV:=by
 intro pins s σ H x y v u Q I O R h;obtain⟨l,b,xs,zs,rfl,rfl,L,J,S,q⟩:=h;cases O;cases R;obtain⟨z,B,n,r,hl,e⟩:=I.lstM L;obtain⟨U,j,n2,r2,M,e2⟩:=I.lstM J;refine PySem.P.add_list e e2 ?_ (by rw[QB,QB];omega)
 have F:B.toArray++j.toArray=(B++j).toArray:=`s
 rw[F];exact{.ref _,_,I.lnew (r.append r2) (by rw[Qt];omega),rfl,q _ I.fresh}
def OT:R2:=λx y H Q=>∃l k xs,x=.ref l/\y=.int k/\H l=some (.lst xs)/\-(2^63)<=k/\k<2^63/\xs.length*k.toNat<=sizeLine/\
 ∀p,H p=none->Q (.ref p) (upd H p (.lst (List.replicate k.toNat xs).flatten))
def len_rep {y:Type}(xs:List y)(k:Nat):(List.replicate k xs).flatten.length=k*xs.length:=by
 induction k with
 |zero=>simp
 |succ k j=>rw[RS,Sv,Qt,j,Nat.succ_mul,Nat.add_comm]
def JL:bL X (binaryOp .Mult) OT:=by
 intro pins s σ H x y v u Q I W Y h;obtain⟨l,k,xs,rfl,rfl,U,h1,h2,R,q⟩:=h;cases W;obtain⟨t,rfl⟩:=Y;obtain⟨z,j,n,r,hl,e⟩:=I.lstM U;have M:j.toArray.size*k.toNat<=sizeLine:=by rw[QB,<- hl];exact R
 have J:¬ j.toArray.size*k.toNat > (2^63-1) / 8:=by
  have:(sizeLine:Nat)<=(2^63-1) / 8:=`d
  omega
 have L:¬ (!Builtin.List.listFitsIndex k)=true:=by
  rw[fitsIndex_both h1 h2];exact QX
 have B:¬ Builtin.List.listTooLong (j.toArray.size*k.toNat)=true:=by
  rw[lh M];exact QX
 have O:List.foldl (λx1 x2=>x1++x2) #[] (List.replicate (if j.toArray.isEmpty=true then 0 else k.toNat) j.toArray)=(List.replicate k.toNat j).flatten.toArray:=by
  have S:=λm=>by
   have:=foldl_rep j m [];rw[List.nil_append] at this;exact this
  rw[S];cases j with
  |nil=>simp
  |cons a r'=>rw[if_neg `s]
 refine wpAny_binaryOp_repeat_ref `d {_,e,rfl} (λs'=>typeIs_int s' k t) noFill_list_mul F.fills_int_mul F.slot_int_rmul repeat_list F.slot_int_index.lookup
  (call_meets F.slot_int_rmul (typeIs_int s k t) F.entry_int_rmul (F.args_int_rmul_2 _ _) (int___rmul___int_list k t l j.toArray n)
   {e,rfl,{_,e,rfl},call_meets F.slot_list_mul {_,e,rfl} F.entry_list_mul (F.args_list_mul_2 _ _) (AutoListH.list___mul___list_int_3 l j.toArray n k t L J B) {e,?_}})
 rw[O];exact{.ref _,_,I.lnew (r.rep k.toNat) (by rw[len_rep,Nat.mul_comm];exact R),rfl,q _ I.fresh}
end
section
variable{prog:Rj}{w:Q8}{A:R6}{E:Qw->QA->Prop}{s:QA}
def zq (j y:List Qw)(a c:Nat):j.toArray.extract 0 a++y.toArray++j.toArray.extract c j.toArray.size=(j.take a++y++j.drop c).toArray:=by
 apply Array.toList_inj.mp;first
  | (simp
     exact Q3 `s)
  |simp[Q3]
  |simp
def yq {a c n:Nat}(j:a<=c)(y:c<=n):sliceBounds (some (a:Int)) (some (c:Int)) none n=((a:Int),(c:Int),1):=by
 simp only[sliceBounds,Option.getD_none]
 congr 1
 ·omega
 ·congr 1;omega
set_option maxRecDepth 100000 in
def sD {a c:Nat}
 (e:s.heap.get? l=some {cls:=.type "list",data:=.seq items n}) (e2:s.heap.get? b=some {cls:=.type "list",data:=.seq new n2}) (hne:l≠b)
 (hs:s.heap.IsSliceOf sl vl vu .none) (pl:IsPart vl (some (a:Int))) (pu:IsPart vu (some (c:Int))) (hac:a<=c) (hc:c<=items.size)
 (hsz:items.size+new.size<=sizeLine) (h:Q () {s with heap:=s.heap.update l (Obj.mapSeq λxs=>xs.extract 0 a++new++xs.extract c xs.size)}) :
 wpAny (model prog w) A (setItem (.ref l) (.ref sl) (.ref b)) Q E s:=by
 have hl:=PySem.IsL.isList e;have hb:=PySem.IsL.isList e2;obtain⟨os,hos,hcs,hds⟩:=id hs;have hTs:s.TypeIs (.ref sl) "slice":=⟨os,hos,hcs⟩;have hstep:¬ ((rawPart none==rawInt 0)=true):=QX;have hsame:Builtin.List.listSameRef (.ref l) (.ref b)=false:=by
  exact Sd.mpr hne
 have hmax:(max (a:Int) (c:Int)).toNat=c:=`a
 have hz':((λxs:Array Qw=>xs.extract 0 a++new++xs.extract c xs.size) items).size<=sizeLine+1:=by
  simp only[Array.size_append,Array.size_extract];omega
 unfold setItem;try with_reducible refine tqo ?_
 first|refine tqa (tqb ?_)|skip
 refine tqa (wpAny_sequenceKey hl.typeIs `d ?_)
 refine tqa (wpAny_callSpecial?_slot hl.typeIs slot_list_setitem
  (wpAny_call_entry slot_list_setitem hl.typeIs entry_list_setitem ?_ (args_list_setitem _ _ _)))
 show wpAny _ _ (Builtin.List.listSubscript? (.ref sl) >>= _) _ _ s;refine tqa ?_;refine tqa (wpAny_specialOf hTs slice_no_index ?_);refine tqb ?_;refine tqa (wpAny_typeOf hTs ?_);first
  |rw[if_neg `d]
  |refine PySem.W.KFB.if_not `d ?_
 rw[listSliceParts_eq];refine tqa (tqa (tqf hos hds rfl (tqa (wpAny_listPart .none ?_))));rw[if_neg hstep];refine tqa (tqf hos hds rfl (tqa (wpAny_listPart pl ?_)));refine tqa (tqf hos hds rfl (tqa (wpAny_listPart pu (tqb ?_))));first
  |simp only[hsame,Bool.false_eq_true,if_false]
  |refine PySem.W.KFB.if_not hsame ?_
  | (dsimp only
     rw[if_neg (by rw[hsame];exact QX)])
 refine tqa ?_;refine tqa (wpAny_typeOf hb.typeIs ?_);first
  |refine PySem.W.KFB.if_so `d ?_
  |rw[if_pos `d]
  |simp only[beq_self_eq_true,Bool.true_or,if_true]
 refine tqa (wpAny_seqItems e2 rfl (tqb ?_));refine tqa (tqa (wpAny_seqItems e rfl (tqb ?_)));refine tqa (wpAny_of_eq ((sliceIndices_raw (some (a:Int)) (some (c:Int)) none items.size `s).trans (congrArg (pure:Int×Int×Int->Sem (Int×Int×Int)) (yq hac hc))) ?_)
 show wpAny _ _ (if ((1:Int)==1)=true then _ else _) _ _ s;rw[if_pos `d]
 refine tqa (wpAny_rule ?_);first
  |simp only[lh hsz,Bool.false_eq_true,if_false]
  |refine PySem.W.KFB.if_not (lh hsz) ?_
 first|refine tqa (tqb ?_)|skip
 rw[hmax,RU];refine tqa (wpAny_updateSeq e rfl ?_);refine tqa (wpAny_letGo ?_);first
  |exact tqa (tqb (tqb {.none,rfl,tqb h}))
  |exact tqb {.none,rfl,tqb h}
end
section
variable{X:Cx}
def zJ {a c:Int}{s:QA}(I:Inv X pins σ H s)
 (L:H l=some (.lst xs)) (R:H b=some (.lst ys)) (B:l≠b) (hs:s.heap.IsSliceOf sl vl vu .none) (U:RelV (.int a) vl) (W:RelV (.int c) vu) (J:0<=a) (y:a<=c) (Y:c<=xs.length)
 (hz:xs.length+ys.length<=sizeLine) (h:∀s',Inv X pins σ (upd H l (.lst (xs.take a.toNat++ys++xs.drop c.toNat))) s'->Q () s') :
 wpAny (model X.prog X.w) X.A (setItem (.ref l) (.ref sl) (.ref b)) Q X.xe s:=by
 obtain⟨ta,rfl⟩:=U;obtain⟨tc,rfl⟩:=W;obtain⟨z,F,n,r,hl,e⟩:=I.lstM L;obtain⟨z2,j,n2,r2,S,e2⟩:=I.lstM R;obtain⟨M,rfl⟩:=SF J;obtain⟨O,rfl⟩:=SF (Int.le_trans J y);refine sD e e2 B hs (.int _ _) (.int _ _) `a (by rw[QB];omega) (by rw[QB,QB];omega) (h _ ?_)
 refine I.lset L e ?_ (Vals.append (Vals.append (r.take _) r2) (r.drop _)) ?_
 ·exact zq F j M O
 ·rw[Qt,Qt,Q7,Q1];omega
end
end L2
namespace Att
open PySem PySem.W PySem.Calls PyProof.Rows
def pR:∀(ns:List Int) (vs:List Qw),WellAll P h vs (ns.map WData.int)->IntsAre vs ns:=by
 intro ns;induction ns with
 | nil=>
   intro vs w;rw[List.map_nil] at w;cases w;exact .nil
 | cons n ns j=>
   intro vs w;rw[RQ] at w;cases w with
   | cons a b=>
     cases a;exact .cons _ _ (j _ b)
def zL {l:OpenLaw}(hn:l.most=some n)
 (j:l.row.toRowW.claim.pre args=true) (I:WellAll P h vals args) :
 ∃a vs ns,vals=[Value.ref a]/\args=[WData.list (ns.map WData.int)]/\h.get? a=some {cls:=.type "list",data:=.seq vs.toArray}/\IntsAre vs ns/\ns.length<=n:=by
 have F:WShape.hasAll [] args [.list .int]=true:=(pre_splitW j).1;have J:l.pre.holds [] {args:=args}=true:=(pre_splitW j).2;obtain⟨d,r,rfl,h1,h2⟩:=hasAllW_cons F;obtain rfl:=hasAllW_nil h2;obtain⟨xs,rfl,h3⟩:=hasW_list h1;obtain⟨ns,rfl⟩:=items_int h3;have z:ns.length<=n:=by
  have h4:(WTm.not (.lt (.lit (.int (n:Int))) (.len (.arg 0)))).holds [] {args:=[.list (ns.map .int)]}=true:=by
   have h4:=(holds_andW J).1;rw[hn] at h4;exact h4
  have B:=condW_of h4 (w_not (w_lt w_lit (w_len_list (w_arg rfl))));rw[Qq] at B;refine Nat.le_of_not_lt λq=>?_;first
   |(rw[decide_eq_true q'] at B;exact absurd B `d)
   |(simp at B;omega)
 cases I with
 | cons L w2=>
   cases w2;cases L with
   |list ho y=>exact{_,_,ns,rfl,rfl,ho,pR ns _ y,z}
def zW (l:OpenLaw)(args:List WData):l.row.toRowW.claim.post args (.bool true) args=true:=
 postW_of
  (show WShape.has [] (.bool true) .bool=true by first|rfl|decide|simp[WShape.has,WShape.arms,WShape.armsAll])
  (w_eq_bool (w_res rfl) w_lit) rfl
def attach_call {l:OpenLaw}
 (hn:l.most=some n) (L:d.params.defaults=[])
 (call:∀(w:Q8) (s₀ j:QA) (mg R:Str->Option Qw) (fa:Addr) (o:Obj) (pm cd y:Qw) (a:Addr) (vs:List Qw) (ns:List Int),
  Ground q loose [] XP w s₀ mg R j.heap->YP w j.heap->
  j.heap.get? fa=some o->o.data=.func (docDef d.name d.params d.body d.scope pm cd y)->j.heap.CodeRec cd d.name->mg d.name=some (.ref fa)->
  j.heap.get? a=some {cls:=.type "list",data:=.seq vs.toArray}->IntsAre vs ns->ns.length<=n->j.gens=#[]->
  codeAny (model l.prog w) callerA (.call (.ref fa) {[.ref a],[]}) (λr s'=>r=.ok (.ret (.bool true))/\OldK j.heap s'.heap/\s'.os=j.os/\AllBare s'.gens) j) :
 WalkO q loose XP YP l.row.toRowW d [] (λf vs=>PySem.call f vs):=by
 intro w s₀ j mg R G Y fa o pm cd y dV kV ho hd J U M hg S vals as I W hrd O hlo;obtain rfl:dV=.none:=Dflts.none U L;obtain rfl:kV=.none:=Dflts.noKw U;obtain⟨a,vs,ns,rfl,rfl,F,z,B⟩:=zL hn I O;refine enter_call (codeAny_mono (call w s₀ j mg R fa o pm cd y a vs ns G Y ho (fd_plain hd) J M F z B hg) λr s' hq=>?_);obtain⟨rfl,h2,h3,h4⟩:=hq;exact{.inl {.bool true,.bool true,[],rfl,λ_=>rfl,.bool true,zW l _,λ_=>{List.Pairwise.nil,λ_ hm=>(nomatch hm)}},h2,h3,h4}
end Att
namespace L2
open PySem PySem.Spec PyProof.Rows
noncomputable def rn:∀{vs:List Qw}{ns:List Int},IntsAre vs ns->Vals (ns.map V.int) vs
 |_,_,.nil=>.nil
 |_,_,.cons n t h=>.cons ⟨t,rfl⟩ (rn h)
def yG (H:Hp):Prop:=∀b,H b=none\/∃o xs,H b=some (.frz o (.lst xs))
def CF {K:Qs}
 (KX:K.In s₁.heap) (M:s₁.heap.Ns mainGlobals mg) (j:s₁.heap.Ns builtinsNs mb) (hbb:∀x:Str,x≠"__name__"->mb x=bootBuiltins x) (L:s₁.heap.NoLimit) (hg:s₁.gens=#[])
 (Y:s₁.heap.get? a=some {cls:=.type "list",data:=.seq vs.toArray}) (hi:IntsAre vs ns) (hl:ns.length<=sizeLine) (hr:du k callerA)
 (F:∀base:Heap,K.In base->base.Ns mainGlobals mg->lW P w K mg base CX k fa fd [x] sp) (I:∀(s:QA) (u:Qw),BindsTo s fd {[u],[]} [(x,u)])
 (hsp:∀H:Hp,yG H->cQ K H a (ns.map V.int)->sp [.ref a] H (λv _=>v=.bl true) λ_ _ _=>False)
 (hCX:∀H e s',CX [] H s₁ (λ_ _ _=>False) e s'->False) :
 codeAny (model P w) callerA (.call (.ref fa) {[.ref a],[]}) (λr s'=>r=.ok (.ret (.bool true))/\OldK s₁.heap s'.heap/\s'.os=s₁.os/\AllBare s'.gens) s₁:=by
 have rv:=rn hi;have R:=hi.length;have B:∀H:Hp,yG H->cQ K H a (ns.map V.int)->fc P w H s₁.heap->(∀b,H b≠none->b=a)->(H a≠none->K.lookup a=none)->
  codeAny (model P w) callerA (.call (.ref fa) {[.ref a],[]}) (λr s'=>r=.ok (.ret (.bool true))/\OldK s₁.heap s'.heap/\s'.os=s₁.os/\AllBare s'.gens) s₁:=by
  intro H hO hS hok hA hK;have iZ:∀{b:Addr}{o:Obj},s₁.heap.get? b=some o->H b=none->(mH s₁.heap H).get? b=some o:=λe n=>CT e n;have noA:∀{b:Addr}{o:Obj}{es:Array Sg}{U:Nat},s₁.heap.get? b=some o->o.data=.dict es U->H b=none:=λ{b o es U} e d=>by
   cases q:H b with
   |none=>rfl
   | some u=>
     have e':=hA b (by rw[q];simp)
     subst e';rw[Y] at e;cases e;have d':=d;cases d'
  have y:∀{b:Addr}{m:Str->Option Qw},s₁.heap.Ns b m->(mH s₁.heap H).Ns b m:=λ{b m} ⟨o,es,U,e,d,r⟩=>{o,es,U,iZ e (noA e d),d,r};have J:=λb o e=>iZ (KX b o e) (by
   cases q:H b with
   |none=>rfl
   | some u=>
     have e':=hA b (by rw[q];simp)
     subst e';rw[hK (by rw[q];simp)] at e;cases e)
  have hM:Mod K mg (mH s₁.heap H):={J,y M,{mb,y j,hbb},let⟨mc,h1,h2⟩:=L;{mc,y h1,h2}}
  have e0:yK P w K mg (mH s₁.heap H) callerA [] s₁ H:={rfl,hM,λb o e=>GQ e,Nat.le_of_eq (AH _ _),trivial,λb j=>absurd (show b∈([]:List Addr) from j) `s,hok,.of_eq hg}
  refine codeAny_mono ((F _ J (y M)).run callerA [] s₁ H {[.ref a],[]} [.ref a] [.ref a] _ _ hr e0 (I s₁ (.ref a)) (.cons rfl .nil) (hsp H hO hS)) λr s' h=>?_;cases r with
  |error e=>exact(hCX H e s' h).elim
  | ok fl=>
    cases fl with
    |next=>exact False.elim h
    |brk=>exact False.elim h
    |cont=>exact False.elim h
    | ret u=>
      obtain⟨v,H',os,bare,un,O,r',q⟩:=h;have q':=q;subst q';obtain rfl:u=Value.bool true:=r';refine{rfl,OldK.of_keep λb o e=>?_,os,bare};cases q:H b with
      |none=>exact un.keep b o e q (by intro z;exact absurd (show b∈([]:List Addr) from z) `s) `s
      | some u=>
        rcases hO b with z|⟨ob,xs,z⟩
        ·rw[q] at z;cases z
        ·have z2:=un.frzs b ob _ z;obtain⟨e1,_⟩:=hok b _ z;obtain⟨e2,_⟩:=O b _ z2;rw[e] at e1;cases e1;exact e2
 cases hk:K.lookup a with
 | some o=>
   have e:=KX a o hk;rw[Y] at e;cases e;refine B (λ_=>none) (λ_=>.inl rfl) (.inr {_,vs.toArray,_,hk,rfl,rfl,rfl,by rw[QB,R];exact hl,by simpa using rv}) (λb u z=>by have S:=z;cases S) (λb z=>absurd rfl z) λz=>absurd rfl z
 | none=>
   refine B (λb=>if b=a then some (.frz {cls:=.type "list",data:=.seq vs.toArray} (.lst (ns.map V.int))) else none) (λb=>?_) (.inl (.inr {{cls:=.type "list",data:=.seq vs.toArray},if_pos rfl})) (λb u z=>?_) (λb z=>?_) λ_=>hk
   ·by_cases j:b=a
    ·exact .inr {_,_,if_pos j}
    ·exact .inl (if_neg j)
   ·by_cases j:b=a
    ·have S:=(if_pos j).symm.trans z;cases S;subst j;exact{Y,by rw[Qq];exact hl,vs,_,rv,Y}
    ·have S:=(if_neg j).symm.trans z;cases S
   ·by_cases j:b=a
    ·exact j
    ·exact absurd (if_neg j) z
def Fs {l:PySem.W.OpenLaw}{K:Sh->Qs}{CX:Q8->vH}{sp:Q8->Sp}
 (hn:l.most=some n) (M:n<=sizeLine) (J:d.params.defaults=[]) (hr:du k callerA)
 (hY:∀(w:Q8) (h:Heap),YP w h->(K w.params).In h)
 (F:∀(w:Q8) (mg:Str->Option Qw) (fa:Addr) (h:Heap),(K w.params).In h->h.Ns mainGlobals mg->mg d.name=some (.ref fa)->
  ∃fd:FuncData,(∀(s:QA) (u:Qw),BindsTo s fd {[u],[]} [(x,u)])/\
   ∀base:Heap,(K w.params).In base->base.Ns mainGlobals mg->lW l.prog w (K w.params) mg base (CX w) k fa fd [x] (sp w))
 (O:∀(w:Q8) (H:Hp) (a:Addr) (ns:List Int),ns.length<=n->yG H->cQ (K w.params) H a (ns.map V.int)->sp w [.ref a] H (λv _=>v=.bl true) λ_ _ _=>False)
 (I:∀(w:Q8) (H:Hp) (s:QA) (e:Qw) (s':QA),CX w [] H s (λ_ _ _=>False) e s'->False) :
 PySem.W.WalkO q loose XP YP l.row.toRowW d [] (λf vs=>PySem.call f vs):=by
 refine Att.attach_call hn J λw s₀ B mg mb fa o pm cd S a vs ns G Y ho hd hcd L z y j hg=>?_;have R:=hY w _ Y;obtain⟨fd,hb,U⟩:=F w mg fa _ R G.T.g L;exact CF R G.T.g G.T.b G.T.builtins G.T.nolimit hg z y (QC j M) hr U hb (λH hO hS=>O w H a ns j hO hS) λH e s'=>I w H B e s'
noncomputable def fx (s:Stmt):Arguments:=match s with
 |.FunctionDef _ a _ _ _ _ _ _ _ _=>a
 |_=>{posonlyargs:=[],args:=[],vararg:=none,kwonlyargs:=[],kw_defaults:=[],kwarg:=none,defaults:=[]}
noncomputable def c5 (s:Stmt):List Stmt:=match s with
 |.FunctionDef _ _ b _ _ _ _ _ _ _=>b
 |_=>[]
noncomputable def bg (s:Stmt):Scope:=match s with
 |.FunctionDef _ _ _ _ _ _ sc _ _ _=>sc
 |_=>{kind:=.function,names:=[],isGenerator:=false,isCoroutine:=false}
abbrev E0:XK:=λ_ _ _=>False
structure xa (K:Qs) (x qual:Str) (st:Stmt) (f:Addr) (fd:FuncData):Prop where
 ex:∃(oc:Qw) (od:Option Addr) (kV doc pm:Qw) (an:Option Addr) (cdv ct:Qw) (osl:Array (Option Qw)),
  fd=PySem.W.fnOf x qual (fx st) (c5 st) (bg st) .none kV doc pm an cdv ct/\K.lookup f=some {oc,od,.func fd,osl}/\PySem.W.codeIn K cdv qual=true
 kp:PySem.W.keepIn K (.ref f)=true
section
variable{P:Rj}{w:Q8}{K:Qs}{mg:Str->Option Qw}{base:Heap}
def Kz {x qual:Str}{st:Stmt}{f:Addr}{oc:Qw}{od B:Option Addr}{z:Array (Option Qw)}{kV y pm j ct:Qw}(l:K.lookup f=some {oc,od,.func (PySem.W.fnOf x qual (fx st) (c5 st) (bg st) .none kV y pm B j ct),z})
 (c:PySem.W.codeIn K j qual=true) (k:PySem.W.keepIn K (.ref f)=true):xa K x qual st f (PySem.W.fnOf x qual (fx st) (c5 st) (bg st) .none kV y pm B j ct):={⟨oc,od,kV,y,pm,B,j,ct,z,rfl,l,c⟩,k}
end
end L2
namespace LD
open PySem
inductive D where
 |non|bl (b:Bool)|int (i:Int)|str (x:Str)|tup (ds:List D)|lst (ds:List D)|frz (ds:List D)|cell (k:Nat)|fn (f:Nat)|exc (c:Nat) (p:Option Int)
 deriving Inhabited
abbrev Mem:=List (List D)
abbrev Env:=List (Option D)
inductive Res (α:Type) where
 |ok (a:α) (M:Mem)
 |err (x:D) (M:Mem)
 |bad
noncomputable def Res.bind {h j:Type}(r:Res h)(f:h->Mem->Res j):Res j:=match r with
 |.ok a M=>f a M
 |.err x M=>.err x M
 |.bad=>.bad
@[simp] theorem Res.bind_ok {h j:Type}(a:h)(M:Mem)(f:h->Mem->Res j):(Res.ok a M).bind f=f a M:=rfl
@[simp] theorem Res.bind_err {h j:Type}(x:D)(M:Mem)(f:h->Mem->Res j):(Res.err x M:Res h).bind f=.err x M:=rfl
@[simp] theorem Res.bind_bad {h j:Type}(f:h->Mem->Res j):(Res.bad:Res h).bind f=.bad:=rfl
inductive oA where
 |add|sub|mul|fdiv|mod|pow
 deriving DecidableEq
inductive jB where
 |eq|ne|lt|le|gt|ge|isN|notN|isin|notin
 deriving DecidableEq
inductive Ty where
 |int|bool|str|tuple|list|own (c:Str)
 deriving DecidableEq
inductive xh where
 |len|tuple|list (m:Bool)|listR (m:Bool)|all|sum|repr
 deriving DecidableEq
inductive fW where
 |one (i:Nat)
 |tup (l:List Nat)
 |two (i:Nat) (l:List Nat)
noncomputable def sz:Nat:=16777216
noncomputable def aS (m:Bool)(ds:List D)(M:Mem):Res D:=if ds.length<=sz then(if m then .ok (.cell M.length) (M++[ds]) else .ok (.lst ds) M) else .bad
noncomputable def lA (ds:List D)(M:Mem):Res D:=if ds.length<=sz then .ok (.tup ds) M else .bad
noncomputable def bT (M:Mem):D->Option (List D)
 |.lst h=>some h
 |.tup h=>some h
 |.frz h=>some h
 |.cell k=>M[k]?
 |_=>none
noncomputable def cv (M:Mem):D->Option (List D)
 |.lst h=>some h
 |.frz h=>some h
 |.cell k=>M[k]?
 |_=>none
noncomputable def fG (M:Mem):D->Option (List D)
 |.lst h=>some h
 |.cell k=>M[k]?
 |_=>none
noncomputable def ax:Nat->D->Bool
 |_,.non=>true
 |_,.bl _=>true
 |_,.int _=>true
 |_,.str x=>x.cps.all (· < 0x110000)
 |n+1,.tup h=>h.all (ax n)
 |n+1,.lst h=>h.all (ax n)
 |0,.tup _=>false
 |0,.lst _=>false
 |_,.frz _=>false
 |_,.cell _=>false
 |_,.fn _=>false
 |_,.exc _ _=>false
mutual
noncomputable def cb:D->D->Bool
 |.non,.non=>true
 |.bl a,.bl b=>a==b
 |.bl a,.int b=>(if a then 1 else 0)==b
 |.int a,.bl b=>a==(if b then 1 else 0)
 |.int a,.int b=>a==b
 |.str a,.str b=>a==b
 |.tup a,.tup b=>cM a b
 |.lst a,.lst b=>cM a b
 |_,_=>false
noncomputable def cM:List D->List D->Bool
 |[],[]=>true
 |a::r,b::t=>cb a b&&cM r t
 |[],_::_=>false
 |_::_,[]=>false
end
noncomputable def hD:D->Bool
 |.str _=>true
 |_=>false
def pW (a b:D):Option Bool:=if hD a&&hD b||ax 64 a&&ax 64 b then some (cb a b) else none
noncomputable def view (M:Mem):D->D
 | .cell k=>match M[k]? with
   |some h=>.lst h
   |none=>.cell k
 |.frz h=>.lst h
 |d=>d
noncomputable def dw:Nat->Mem->D->D
 |0,_,d=>d
 | n+1,M,.cell k=>match M[k]? with
   |some h=>.lst (h.map (dw n M))
   |none=>.cell k
 |n+1,M,.frz h=>.lst (h.map (dw n M))
 |n+1,M,.lst h=>.lst (h.map (dw n M))
 |n+1,M,.tup h=>.tup (h.map (dw n M))
 |_+1,_,d=>d
def mP (M:Mem)(a b:D):Option Bool:=match pW (view M a) (view M b) with
 |some r=>some r
 |none=>pW (dw 64 M a) (dw 64 M b)
def jX (M:Mem):D->Option Bool
 |.non=>some false
 |.bl b=>some b
 |.int i=>some (i != 0)
 |.str x=>if x.cps.size<=sz then some (x.cps.size != 0) else none
 |.tup ds=>some (!ds.isEmpty)
 |.lst ds=>some (!ds.isEmpty)
 |.frz ds=>some (!ds.isEmpty)
 |.cell k=>(M[k]?).map λds=>!ds.isEmpty
 |.fn _=>none
 |.exc _ _=>none
def bY (n:Nat)(i:Int):Option Nat:=if 0<=i then(if i<n then some i.toNat else none) else if -(n:Int)<=i then some (i+n).toNat else none
def fK (m:Bool)(o:oA)(a b:D)(M:Mem):Res D:=match o,a,b with
 |.add,.int i,.int j=>.ok (.int (i+j)) M
 |.add,.str x,.str y=>if x.cps.size+y.cps.size<=sz then .ok (.str {x.cps++y.cps}) M else .bad
 |.add,.tup x,.tup y=>lA (x++y) M
 | .add,a,b=>match fG M a,fG M b with
   |some x,some y=>aS m (x++y) M
   |_,_=>.bad
 |.sub,.int i,.int j=>.ok (.int (i-j)) M
 |.mul,.int i,.int j=>if (-(2^64)<i/\i<2^64)\/(-(2^64)<j/\j<2^64) then .ok (.int (i*j)) M else .bad
 |.mul,.tup x,.int j=>if x.length*j.toNat<=sz/\-(2^63)<=j/\j<2^63 then .ok (.tup (List.replicate j.toNat x).flatten) M else .bad
 | .mul,a,.int j=>match fG M a with
   |some x=>if x.length*j.toNat<=sz/\-(2^63)<=j/\j<2^63 then aS m (List.replicate j.toNat x).flatten M else .bad
   |none=>.bad
 |.fdiv,.int i,.int j=>if 0<j/\j<1073741824 then .ok (.int (i / j)) M else .bad
 |.mod,.int i,.int j=>if 0<j then .ok (.int (i % j)) M else .bad
 |.pow,.int i,.int j=>if 0<=j/\j<=1000000/\i.natAbs<2^64 then .ok (.int (i^j.toNat)) M else .bad
 |_,_,_=>.bad
def pS (x:D)(ds:List D):Option Bool:=if ax 64 x&&ds.all (ax 63) then some (ds.any λy=>cb y x) else none
noncomputable def zo (x y:Str):Bool:=!(Builtin.Str.occurrences y x 0 y.length 1).isEmpty
noncomputable def intsOf:List D->Option (List Int)
 |[]=>some []
 |.int b::r=>(intsOf r).map (b::·)
 |_=>none
def mE:D->Option (List Int)
 |.tup h=>intsOf h
 |_=>none
noncomputable def jI:List D->Option (List (List Int))
 |[]=>some []
 |d::r=>(mE d).bind λk=>(jI r).map (k::·)
def qL:D->Option (List (List Int))
 |.tup h=>jI h
 |_=>none
def isKey (c:Int)(d:D):Bool:=if c=77 then(mE d).isSome else if c=78 then(qL d).isSome else false
def dh (M:Mem)(o:Nat):Option (Int×List D):=if 5000<=o then(match M[o-5000]? with
 |some (.int c::es)=>if c=77\/c=78 then some (c,es) else none
 |_=>none) else none
noncomputable def yf:D->D
 |.tup [k,_]=>k
 |d=>d
noncomputable def PF:D->D
 |.tup [_,v]=>v
 |d=>d
def dM (es:List D)(k:D):Option D:=(es.find? λe=>cb (yf e) k).map PF
def putD (es:List D)(k v:D):List D:=if (dM es k).isSome then es.map (λe=>if cb (yf e) k then .tup [yf e,v] else e) else es++[.tup [k,v]]
def inD (M:Mem)(o:Nat)(k:D):Option Bool:=(dh M o).bind λq=>if isKey q.1 k then some (dM q.2 k).isSome else none
def getD (M:Mem)(o:Nat)(k:D):Option D:=(dh M o).bind λq=>if isKey q.1 k then dM q.2 k else none
noncomputable def xY:D->Bool
 |.non=>true
 |_=>false
def bx (o:jB)(a b:D)(M:Mem):Option Bool:=match o,a,b with
 |.eq,a,b=>mP M a b
 |.ne,a,b=>(mP M a b).map (!·)
 |.lt,.int i,.int j=>some (decide (i<j))
 |.le,.int i,.int j=>some (decide (i<=j))
 |.gt,.int i,.int j=>some (decide (j<i))
 |.ge,.int i,.int j=>some (decide (j<=i))
 |.isN,a,.non=>some (xY a)
 |.notN,a,.non=>some (!xY a)
 |.isin,.str x,.str y=>some (zo x y)
 |.notin,.str x,.str y=>some (!zo x y)
 |.isin,a,b=>(bT M b).bind (pS (view M a))
 |.notin,a,b=>((bT M b).bind (pS (view M a))).map (!·)
 |_,_,_=>none
def bJ (a i:D)(M:Mem):Option D:=match a,i with
 |.str x,.int i=>if x.cps.size<=sz then(bY x.cps.size i).bind λj=>(x.cps[j]?).map λc=>.str {#[c]} else none
 |a,.int i=>(bT M a).bind λh=>(bY h.length i).bind λj=>h[j]?
 |_,_=>none
noncomputable def aO (n d:Nat):D->Option Nat
 |.non=>some d
 |.int v=>some (if v<0 then(v+(n:Int)).toNat else min v.toNat n)
 |_=>none
noncomputable def e9:Bool->D->Bool
 |true,.int _=>true
 |false,.non=>true
 |_,_=>false
noncomputable def cut {h:Type}(xs:List h)(lo hi:Nat):List h:=(xs.drop lo).take (hi-lo)
def cj (m:Bool)(a lo hi:D)(M:Mem):Res D:=match a with
 | .tup xs=>match aO xs.length 0 lo,aO xs.length xs.length hi with
   |some l,some h=>.ok (.tup (cut xs l h)) M
   |_,_=>.bad
 | a=>match cv M a with
   | some xs=>match aO xs.length 0 lo,aO xs.length xs.length hi with
     |some l,some h=>aS m (cut xs l h) M
     |_,_=>.bad
   |none=>.bad
def gQ (t:Ty):D->Option Bool
 |.non=>some false
 |.bl _=>some (t==.bool||t==.int)
 |.int _=>some (t==.int)
 |.str _=>some (t==.str)
 |.tup _=>some (t==.tuple)
 |.lst _=>some (t==.list)
 |.frz _=>some (t==.list)
 |.cell _=>some (t==.list)
 |.fn _=>none
 |.exc _ _=>none
noncomputable def boolsOf:List D->Option (List Bool)
 |[]=>some []
 |.bl b::r=>(boolsOf r).map (b::·)
 |_=>none
def di (f:xh)(ds:List D)(M:Mem):Res D:=match f,ds with
 |.len,[.str x]=>if x.cps.size<=sz then .ok (.int x.cps.size) M else .bad
 | .len,[d]=>match bT M d with
   |some xs=>.ok (.int xs.length) M
   |none=>.bad
 |.tuple,[.tup xs]=>.ok (.tup xs) M
 | .tuple,[d]=>match cv M d with
   |some xs=>.ok (.tup xs) M
   |none=>.bad
 | .list m,[d]=>match bT M d with
   |some xs=>aS m xs M
   |none=>.bad
 |.listR m,[.int n]=>if n<2^20 then aS m ((List.range n.toNat).map λ(k:Nat)=>D.int (k:Int)) M else .bad
 | .all,[d]=>match cv M d with
   | some xs=>match boolsOf xs with
     |some bs=>.ok (.bl (bs.all id)) M
     |none=>.bad
   |none=>.bad
 | .sum,[d]=>match cv M d with
   | some xs=>match intsOf xs with
     |some is=>.ok (.int is.sum) M
     |none=>.bad
   |none=>.bad
 |_,_=>.bad
noncomputable def cg:List Nat->List D->Env->Option Env
 |[],[],h=>some h
 |i::l,d::ds,h=>cg l ds (h.set i (some d))
 |_,_,_=>none
def b4 (t:fW)(d:D)(Z:Env):Option Env:=match t,d with
 |.one i,d=>some (Z.set i (some d))
 |.tup l,.tup h=>cg l h Z
 |.two i l,.tup [d,.tup h]=>cg l h (Z.set i (some d))
 |.tup _,_=>none
 |.two _ _,_=>none
abbrev Walk:=Mem->Option (List D)
noncomputable def eF:Nat->List D->List D
 |_,[]=>[]
 |k,d::r=>.tup [.int k,d]::eF (k+1) r
noncomputable def iz:List D->List D->List D
 |a::r,b::t=>.tup [a,b]::iz r t
 |_,_=>[]
noncomputable def Dv:List D->List D->List D->List D
 |a::r,b::t,c::q=>.tup [a,b,c]::Dv r t q
 |_,_,_=>[]
noncomputable def gn {h:Type}(f:h->D->Mem->Res h)(w:Walk):Nat->Nat->h->Mem->Res h
 |0,_,_,_=>.bad
 | n+1,i,a,M=>match w M with
   |none=>.bad
   | some j=>match j[i]? with
     |none=>.ok a M
     |some d=>(f a d M).bind (gn f w n (i+1))
def cV {h:Type}(f:h->D->Mem->Res h)(w:Walk)(a:h)(M:Mem):Res h:=gn f w (((w M).getD []).length+1) 0 a M
noncomputable def bV {h:Type}(M:Mem):Option h->Res h
 |some a=>.ok a M
 |none=>.bad
@[simp] theorem Cq {h:Type}(M:Mem)(a:h):bV M (some a)=.ok a M:=rfl
@[simp] theorem OW {h:Type}(M:Mem):(bV M none:Res h)=.bad:=rfl
inductive Fl where
 |next (Z:Env)
 |ret (d:D)
 |exc (x:D) (Z:Env)
def NN {a b:Int}:cb (.int a) (.int b)=(a==b):=rfl
end LD
namespace LD
open PySem PySem.Spec PyProof.Rows L2
structure Mu where
 pub:Nat->Option Addr
 priv:List Addr
 ob:Nat->Option Addr
def Mu.Mt (μ:Mu)(a:Addr):Prop:=(∃k,μ.pub k=some a)\/a∈μ.priv
abbrev Fa:=Nat->Option Addr
def KL (K:Qs)(a:Addr)(xs:List V):Prop:=
 ∃(o:Obj) (h:Array Qw) (n:Nat),K.lookup a=some o/\o.cls=.type "list"/\o.dict=none/\o.data=.seq h n/\h.size<=sizeLine/\Vals xs h.toList
def XAt (C:Addr)(u:Option Addr)(a:Addr)(h:Heap):Prop:=∃o j,h.get? a=some o/\o.cls=.ref C/\o.dict=u/\o.data=.fields j/\1<j.size
noncomputable def Bk (c:Nat):Str:=if c=1 then "number" else "place"
def vB (H:Hp)(c:Nat)(h:Option Addr):Option Int->Prop
 |none=>h=none
 |some i=>∃d,h=some d/\H d=some (.xd [(Bk c,.int i)])
def f7 (c:Nat):Nat:=1000+c
def jG (c:Nat):Nat:=900+c
section
variable(fa:Fa)(K:Qs)(μ:Mu)(H:Hp)
mutual
noncomputable def Rep:D->V->Prop
 |.non,v=>v=.non
 |.bl b,v=>v=.bl b
 |.int i,v=>v=.int i
 |.str x,v=>v=.str x
 |.tup j,v=>∃a h,v=.ref a/\dO K H a h/\aG j h
 |.lst j,v=>∃a h,v=.ref a/\(H a=some (.lst h)/\¬ μ.Mt a)/\aG j h
 |.frz j,v=>∃a h,v=.ref a/\((∃ob,H a=some (.frz ob (.lst h)))\/KL K a h)/\aG j h
 |.cell k,v=>∃a,v=.ref a/\μ.pub k=some a
 |.fn f,v=>∃a,v=.ref a/\(fa f=some a\/(fa f=none/\μ.ob f=some a))
 |.exc c p,v=>∃a C u,v=.ref a/\fa (f7 c)=some C/\H a=some (.ext (XAt C u a))/\vB H c u p
noncomputable def aG:List D->List V->Prop
 |[],h=>h=[]
 |d::ds,h=>∃v r,h=v::r/\Rep d v/\aG ds r
end
end
def IsX (o:HO):Prop:=(∃h,o=.ext h)\/∃fs,o=.xd fs
structure ExtW (μ:Mu) (H:Hp) (μ':Mu) (H':Hp):Prop where
 mu:∀k a,μ.pub k=some a->μ'.pub k=some a
 tups:∀a vs,Rd H a (.tup vs)->Rd H' a (.tup vs)
 lsts:∀a vs,H a=some (.lst vs)->¬ μ.Mt a->H' a=some (.lst vs)/\¬ μ'.Mt a
 frzs:∀a ob u,H a=some (.frz ob u)->H' a=some (.frz ob u)
 exts:∀a o,IsX o->H a=some o->H' a=some o
 obs:∀k a,μ.ob k=some a->μ'.ob k=some a
structure Ext (μ:Mu) (H:Hp) (μ':Mu) (H':Hp):Prop extends ExtW μ H μ' H' where
 pr:μ'.priv=μ.priv
 pk:∀a∈μ.priv,H' a=H a
def ExtW.refl:ExtW μ H μ H:={λ_ _ h=>h,λ_ _ h=>h,λ_ _ h n=>⟨h,n⟩,λ_ _ _ h=>h,λ_ _ _ h=>h,λ_ _ h=>h}
def ExtW.trans (a:ExtW μ H μ1 H1)(b:ExtW μ1 H1 μ2 H2):ExtW μ H μ2 H2:=
 {λk x h=>b.mu k x (a.mu k x h),λx j h=>b.tups x j (a.tups x j h),λx j h n=>b.lsts x j (a.lsts x j h n).1 (a.lsts x j h n).2,λx ob u h=>b.frzs x ob u (a.frzs x ob u h),λx o i h=>b.exts x o i (a.exts x o i h),λk x h=>b.obs k x (a.obs k x h)}
def Ext.refl:Ext μ H μ H:={.refl,rfl,λ_ _=>rfl}
def Ext.trans (a:Ext μ H μ1 H1)(b:Ext μ1 H1 μ2 H2):Ext μ H μ2 H2:=
 {a.toExtW.trans b.toExtW,b.pr.trans a.pr,λx h=>(b.pk x (by rw[a.pr];exact h)).trans (a.pk x h)}
section
variable{fa:Fa}{K:Qs}{μ μ':Mu}{H H':Hp}
def ExtW.sqT (x:ExtW μ H μ' H')(h:dO K H a vs):dO K H' a vs:=h.elim (λz=>.inl (x.tups a vs z)) .inr
mutual
theorem Rep.extW (x:ExtW μ H μ' H'):∀{d:D}{v:V},Rep fa K μ H d v->Rep fa K μ' H' d v
 |.non,v,h=>h
 |.bl b,v,h=>h
 |.int i,v,h=>h
 |.str y,v,h=>h
 | .tup u,v,h=>by
   obtain⟨a,j,e,s,r⟩:=h;exact{a,j,e,x.sqT s,aG.extW x r}
 | .lst u,v,h=>by
   obtain⟨a,j,e,s,r⟩:=h;exact{a,j,e,x.lsts a j s.1 s.2,aG.extW x r}
 | .frz u,v,h=>by
   obtain⟨a,j,e,s,r⟩:=h;exact{a,j,e,s.elim ((by rintro⟨ob,z⟩;exact .inl {ob,x.frzs a ob _ z})) .inr,aG.extW x r}
 | .cell k,v,h=>by
   obtain⟨a,e,m⟩:=h;exact{a,e,x.mu k a m}
 | .fn f,v,h=>by
   obtain⟨a,e,m⟩:=h;exact{a,e,m.imp id λz=>{z.1,x.obs _ _ z.2}}
 | .exc c p,v,h=>by
   obtain⟨a,C,B,e,f,g,n⟩:=h;refine{a,C,B,e,f,x.exts _ _ (.inl {_,rfl}) g,?_};cases p with
   |none=>exact n
   |some i=>exact let⟨d,h1,h2⟩:=n;{d,h1,x.exts _ _ (.inr {_,rfl}) h2}
theorem aG.extW (x:ExtW μ H μ' H'):∀{ds:List D}{vs:List V},aG fa K μ H ds vs->aG fa K μ' H' ds vs
 |[],vs,h=>h
 | d::ds,vs,h=>by
   obtain⟨v,r,e,p,q⟩:=h;exact{v,r,e,Rep.extW x p,aG.extW x q}
end
def Rep.ext (x:Ext μ H μ' H')(h:Rep fa K μ H d v):Rep fa K μ' H' d v:=Rep.extW x.toExtW h
def aG.ext (x:Ext μ H μ' H')(h:aG fa K μ H d v):aG fa K μ' H' d v:=aG.extW x.toExtW h
noncomputable def aG.length:∀{ds:List D}{vs:List V},aG fa K μ H ds vs->vs.length=ds.length
 | [],vs,h=>by
   subst h;rfl
 | d::ds,vs,h=>by
   obtain⟨v,r,e,p,q⟩:=h;subst e;simp[aG.length q]
theorem aG.get:∀{ds:List D}{vs:List V}{i:Nat}{d:D},aG fa K μ H ds vs->ds[i]?=some d->∃v,vs[i]?=some v/\Rep fa K μ H d v
 |[],_,_,_,_,e=>by simp at e
 | d::ds,vs,0,j,h,e=>by
   obtain⟨v,r,rfl,p,q⟩:=h;simp at e;subst e;exact⟨v,rfl,p⟩
 | d::ds,vs,i+1,j,h,e=>by
   obtain⟨v,r,rfl,p,q⟩:=h;obtain⟨u,h1,h2⟩:=aG.get q (by simpa using e)
   exact{u,by simpa using h1,h2}
def aG.getV:∀{ds:List D}{vs:List V}{i:Nat}{v:V},aG fa K μ H ds vs->vs[i]?=some v->∃d,ds[i]?=some d/\Rep fa K μ H d v:=by
 intro ds vs i v h e;have hl:=h.length;have j:i<vs.length:=(Qr.mp e).1;obtain⟨d,hd⟩:∃d,ds[i]?=some d:={ds[i]'(`a),`s}
 obtain⟨u,h1,h2⟩:=h.get hd;rw[e] at h1;cases h1;exact⟨d,hd,h2⟩
noncomputable def aG.append:∀{ds es:List D}{vs ws:List V},aG fa K μ H ds vs->aG fa K μ H es ws->aG fa K μ H (ds++es) (vs++ws)
 | [],_,vs,_,h,g=>by
   subst h;exact g
 | d::ds,es,vs,ws,h,g=>by
   obtain⟨v,r,rfl,p,q⟩:=h;exact{v,r++ws,rfl,p,aG.append q g}
def aG.one (h:Rep fa K μ H d v):aG fa K μ H [d] [v]:={v,[],rfl,h,rfl}
noncomputable def aG.drop:∀(n:Nat) {ds:List D}{vs:List V},aG fa K μ H ds vs->aG fa K μ H (ds.drop n) (vs.drop n)
 |0,_,_,h=>h
 | n+1,[],vs,h=>by
   subst h;exact rfl
 | n+1,d::ds,vs,h=>by
   obtain⟨v,r,rfl,p,q⟩:=h;exact aG.drop n q
noncomputable def aG.take:∀(n:Nat) {ds:List D}{vs:List V},aG fa K μ H ds vs->aG fa K μ H (ds.take n) (vs.take n)
 |0,_,_,h=>rfl
 | n+1,[],vs,h=>by
   subst h;exact rfl
 | n+1,d::ds,vs,h=>by
   obtain⟨v,r,rfl,p,q⟩:=h;exact{v,r.take n,rfl,p,aG.take n q}
theorem aG.set:∀(n:Nat) {ds:List D}{vs:List V}{d:D}{v:V},aG fa K μ H ds vs->Rep fa K μ H d v->aG fa K μ H (ds.set n d) (vs.set n v)
 | _,[],vs,_,_,h,_=>by
   subst h;exact rfl
 | 0,d::ds,vs,_,j,h,g=>by
   obtain⟨v,r,rfl,p,q⟩:=h;exact⟨j,r,rfl,g,q⟩
 | n+1,d::ds,vs,_,j,h,g=>by
   obtain⟨v,r,rfl,p,q⟩:=h;exact{v,r.set n j,rfl,p,aG.set n q g}
noncomputable def aG.reverse:∀{ds:List D}{vs:List V},aG fa K μ H ds vs->aG fa K μ H ds.reverse vs.reverse
 | [],vs,h=>by
   subst h;exact rfl
 | d::ds,vs,h=>by
   obtain⟨v,r,rfl,p,q⟩:=h;rw[List.reverse_cons,List.reverse_cons];exact aG.append (aG.reverse q) (.one p)
noncomputable def aG.rep:∀(n:Nat) {ds:List D}{vs:List V},aG fa K μ H ds vs->aG fa K μ H (List.replicate n ds).flatten (List.replicate n vs).flatten
 |0,_,_,_=>rfl
 | n+1,ds,vs,h=>by
   rw[RS,RS,Sv,Sv];exact h.append (aG.rep n h)
noncomputable def aG.ints:∀(ns:List Int),aG fa K μ H (ns.map D.int) (ns.map V.int)
 |[]=>rfl
 |n::ns=>{.int n,ns.map V.int,rfl,rfl,aG.ints ns}
end
noncomputable def ji:Nat->List Str
 |40=>["machine","standing","earlier"]
 |_=>[]
def aQ (k:Nat):Nat:=5000+k
noncomputable def ES (ks:List Int):Int:=reduceHash (Builtin.Tuple.tupleHashOf (ks.map hashInt))
noncomputable def MI (h:List (List Int)):Int:=reduceHash (Builtin.Tuple.tupleHashOf (h.map ES))
def nN (c:Int)(d:D):Option Int:=if c=77 then(mE d).map ES else if c=78 then(qL d).map MI else none
def Dt (fa:Fa)(K:Qs)(μ:Mu)(H:Hp)(c:Int)(p:D×D)(e:Sg):Prop:=∃b v,e.key=.ref b/\nN c p.1=some e.hash/\Rep fa K μ H p.1 (.ref b)/\RelV v e.val/\Rep fa K μ H p.2 v
def jz (fa:Fa)(K:Qs)(μ:Mu)(H:Hp)(a:Addr)(ds:List D):Prop:=
 (∃(c:Nat) (C u:Addr) (fs:List (Str×V)) (j:List D),fa (jG c)=some C/\H a=some (.ins C u fs)/\fs.map (·.1)=(ji c).take fs.length/\ds=.int c::j/\aG fa K μ H j (fs.map (·.2)))\/
 ∃(c:Int) (j:List Sg) (h:List (D×D)),H a=some (.dn j)/\(c=77\/c=78)/\ds=.int c::h.map (λp=>.tup [p.1,p.2])/\Ss (Dt fa K μ H c) h j/\(h.map (·.1)).Nodup
def jz.extW {fa:Fa}{K:Qs}{μ μ':Mu}{H H':Hp}{a:Addr}{ds:List D}(h:jz fa K μ H a ds)(x:ExtW μ H μ' H')(e:H' a=H a):jz fa K μ' H' a ds:=
 h.imp ((by rintro⟨c,C,z,fs,j,h1,h2,h3,h4,u⟩;exact{c,C,z,fs,j,h1,e.trans h2,h3,h4,u.extW x}))
  (by rintro⟨c,j,y,h1,h2,h3,h4,u⟩;exact{c,j,y,e.trans h1,h2,h3,Ss.mapP h4 λp q ⟨b,v,e1,e2,B,E,F⟩=>{b,v,e1,e2,B.extW x,E,F.extW x},u})
def jz.hold {fa:Fa}{K:Qs}{μ:Mu}{H:Hp}{a:Addr}{ds:List D}(h:jz fa K μ H a ds):∃o,H a=some o/\(∀vs,o≠.lst vs):=by
 rcases h with⟨_,_,_,_,_,_,h,_⟩|⟨_,_,_,h,_⟩
 ·exact{_,h,λ_ z=>by cases z}
 ·exact{_,h,λ_ z=>by cases z}
def jz.new {fa:Fa}{K:Qs}{μ:Mu}{H:Hp}{a p:Addr}{ds:List D}(h:jz fa K μ H a ds)(j:H p=none):a≠p:=let{_,e,_}:=h.hold;aZ e j
def jz.nl {fa:Fa}{K:Qs}{μ:Mu}{H:Hp}{a p:Addr}{ds:List D}{vs:List V}(h:jz fa K μ H a ds)(j:H p=some (.lst vs)):a≠p:=λz=>by
 obtain⟨o,e,n⟩:=h.hold;rw[z,j] at e;cases e;exact n _ rfl
def NX (fa:Fa)(K:Qs)(μ:Mu)(H:Hp)(k:Nat)(ds:List D):Prop:=
 (∃a h,μ.pub k=some a/\H a=some (.lst h)/\aG fa K μ H ds h)\/∃a,μ.ob (aQ k)=some a/\μ.pub k=none/\jz fa K μ H a ds
structure RelM (fa:Fa) (K:Qs) (μ:Mu) (H:Hp) (M:Mem):Prop where
 at':∀(k:Nat) (ds:List D),M[k]?=some ds->NX fa K μ H k ds
 out:∀(k:Nat),M.length<=k->μ.pub k=none
 oout:∀(k:Nat),M.length<=k->μ.ob (aQ k)=none
 inj:∀j k a,μ.pub j=some a->μ.pub k=some a->j=k
 oinj:∀j k a,μ.ob (aQ j)=some a->μ.ob (aQ k)=some a->j=k
 sep:∀k a,μ.pub k=some a->μ.ob (aQ k)=none
 pv:∀a∈μ.priv,(∃vs,H a=some (.lst vs))/\∀k,μ.pub k≠some a
structure bt (fa:Fa) (K:Qs) (μ:Mu) (H:Hp) (σ:L2.St) (Z:Env):Prop where
 len:σ.length=Z.length
 at':∀(i:Nat) (d:D),Z[i]?=some (some d)->∃v,σ[i]?=some (some v)/\Rep fa K μ H d v
section
variable{fa:Fa}{K:Qs}{μ μ':Mu}{H H':Hp}{σ:L2.St}{Z:Env}{M:Mem}
def bt.ext (h:bt fa K μ H σ Z)(x:Ext μ H μ' H'):bt fa K μ' H' σ Z:=
 {h.len,λi d e=>let⟨v,h1,h2⟩:=h.at' i d e;{v,h1,h2.ext x}}
def bt.set (h:bt fa K μ H σ Z){i:Nat}{d:D}{v:V}(r:Rep fa K μ H d v):bt fa K μ H (σ.set i (some v)) (Z.set i (some d)):=by
 refine{by simp[h.len],λj z e=>?_}
 by_cases y:j=i
 ·subst y;have hl:j<Z.length:=by
   have:=(Qr.mp e).1;simpa using this
  rw[QR hl] at e;cases e;exact{v,QR (by rw[h.len];exact hl),r}
 ·rw[QJ (RR y)] at e;obtain⟨u,h1,h2⟩:=h.at' j z e;exact{u,by rw[QJ (RR y)];exact h1,h2}
def bt.extW (h:bt fa K μ H σ Z)(x:ExtW μ H μ' H'):bt fa K μ' H' σ Z:=
 {h.len,λi d e=>let⟨v,h1,h2⟩:=h.at' i d e;{v,h1,h2.extW x}}
def RelM.mu_lt (h:RelM fa K μ H M)(e:μ.pub k=some a):∃ds vs,M[k]?=some ds/\H a=some (.lst vs)/\aG fa K μ H ds vs:=by
 by_cases hk:k<M.length
 ·rcases h.at' k M[k] (by simp[hk]) with⟨j,vs,h1,h2,h3⟩|⟨_,_,z,_⟩
  ·rw[e] at h1;cases h1;exact{_,vs,by simp[hk],h2,h3}
  ·rw[e] at z;cases z
 ·rw[h.out k `a] at e;cases e
def RelM.at_ (h:RelM fa K μ H M)(e:M[k]?=some ds)(p:μ.pub k=some a):∃vs,H a=some (.lst vs)/\aG fa K μ H ds vs:=by
 obtain⟨j,vs,h1,h2,h3⟩:=h.mu_lt p;rw[e] at h1;cases h1;exact⟨vs,h2,h3⟩
def RelM.fresh (h:RelM fa K μ H M)(j:H p=none):¬ μ.Mt p:=λe=>by
 rcases e with⟨k,e⟩|e
 ·obtain⟨v,u,_,h2,_⟩:=h.mu_lt e;rw[j] at h2;cases h2
 ·obtain⟨⟨u,h2⟩,_⟩:=h.pv p e;rw[j] at h2;cases h2
def RelM.pne (h:RelM fa K μ H M)(u:H p=none)(j:a∈μ.priv):a≠p:=λe=>by
 obtain⟨⟨v,h2⟩,_⟩:=h.pv a j;rw[e,u] at h2;cases h2
def Ext.alloc (h:RelM fa K μ H M)(j:H p=none):Ext μ H μ (upd H p o):=by
 have rd:∀a u,Rd H a u->Rd (upd H p o) a u:=λa u h=>by
  rcases h with h|⟨ob,h⟩
  ·exact .inl (by rw[aF (aZ h j)];exact h)
  ·exact .inr {ob,by rw[aF (aZ h j)];exact h}
 exact{{λ_ _ h=>h,λa y h=>rd a _ h,λa y h n=>{by rw[aF (aZ h j)];exact h,n},λa ob u h=>by rw[aF (aZ h j)];exact h,λa o _ h=>by rw[aF (aZ h j)];exact h,λ_ _ h=>h},rfl,λa v=>by rw[aF (h.pne j v)]}
def RelM.alloc (h:RelM fa K μ H M)(j:H p=none):RelM fa K μ (upd H p o) M:=
 {λk y e=>(h.at' k y e).imp ((by rintro⟨a,v,h1,h2,h3⟩;exact{a,v,h1,by rw[aF (aZ h2 j)];exact h2,h3.ext (Ext.alloc h j)})) (by rintro⟨a,h1,h2,h3⟩;exact{a,h1,h2,h3.extW (Ext.alloc h j).toExtW (aF (h3.new j))}),h.out,h.oout,h.inj,h.oinj,h.sep,λa u=>{let{⟨v,e⟩,_}:=h.pv a u;{v,by rw[aF (h.pne j u)];exact e},(h.pv a u).2}}
noncomputable def fS (μ:Mu)(n:Nat)(p:Addr):Mu:={λk=>if k=n then some p else μ.pub k,μ.priv,μ.ob}
set_option tactic.hygienic true in
def Ext.cell (h:RelM fa K μ H M)(j:H p=none):Ext μ H (fS μ M.length p) (upd H p o):=by
 have rd:∀a u,Rd H a u->Rd (upd H p o) a u:=λa u h=>by
  rcases h with h|⟨ob,h⟩
  ·exact .inl (by rw[aF (aZ h j)];exact h)
  ·exact .inr {ob,by rw[aF (aZ h j)];exact h}
 refine{{λk a e=>?_,λa y g=>rd a _ g,λa y g n=>{by rw[aF (aZ g j)];exact g,λe=>?_},λa ob u h=>by rw[aF (aZ h j)];exact h,λa o _ h=>by rw[aF (aZ h j)];exact h,λ_ _ h=>h},rfl,λa v=>by rw[aF (h.pne j v)]}
 ·show(if k=M.length then some p else μ.pub k)=some a;split
  ·next q=>rw[q,h.out _ (Qy _)] at e;cases e
  ·exact e
 ·rcases e with⟨k,e⟩|e
  ·have e:(if k=M.length then some p else μ.pub k)=some a:=e;split at e
   ·cases e;exact aZ g j rfl
   ·exact n (.inl ⟨k,e⟩)
  ·exact n (.inr e)
set_option tactic.hygienic true in
def RelM.cell (h:RelM fa K μ H M){p:Addr}{ds:List D}{vs:List V}(u:H p=none)(r:aG fa K μ H ds vs) :
 RelM fa K (fS μ M.length p) (upd H p (.lst vs)) (M++[ds]):=by
 have x:Ext μ H (fS μ M.length p) (upd H p (.lst vs)):=Ext.cell h u;have F:=h.fresh u;refine{λk v e=>?_,λk hk=>?_,λk hk=>h.oout k (by simp at hk;omega),λj k a h1 h2=>?_,h.oinj,λk a z=>?_,λa y=>?_}
 ·by_cases hk:k<M.length
  ·rw[QE hk] at e;rcases h.at' k v e with⟨a,E,h1,h2,h3⟩|⟨a,h1,h2,h3⟩
   ·exact .inl {a,E,x.mu k a h1,by rw[aF (aZ h2 u)];exact h2,h3.ext x}
   ·exact .inr {a,h1,by show(if k=M.length then some p else μ.pub k)=none;rw[if_neg (Q6 hk)];exact h2,h3.extW x.toExtW (aF (h3.new u))}
  ·have B:k=M.length:=by
    have:=(Qr.mp e).1;simp at this;omega
   subst B;rw[Q4 (Qy _)] at e;simp at e;subst e;exact .inl {p,vs,by simp[fS],cx,r.ext x}
 ·simp at hk;show(if k=M.length then some p else μ.pub k)=none;rw[if_neg `a]
  exact h.out k `a
 ·have h1:(if j=M.length then some p else μ.pub j)=some a:=h1;have h2:(if k=M.length then some p else μ.pub k)=some a:=h2;split at h1<;>split at h2
  ·omega
  ·cases h1;exact absurd (.inl ⟨k,h2⟩) F
  ·cases h2;exact absurd (.inl ⟨j,h1⟩) F
  ·exact h.inj j k a h1 h2
 ·have z:(if k=M.length then some p else μ.pub k)=some a:=z;show μ.ob (aQ k)=none;split at z
  ·next e=>rw[e];exact h.oout _ (Qy _)
  ·exact h.sep k a z
 ·obtain⟨⟨E,e⟩,n⟩:=h.pv a y;refine{{E,by rw[aF (h.pne u y)];exact e},λk e2=>?_}
  have e2:(if k=M.length then some p else μ.pub k)=some a:=e2;split at e2
  ·cases e2;exact h.pne u y rfl
  ·exact n k e2
def ExtW.write (h2:H a=some (.lst vs))(e:μ.Mt a):ExtW μ H μ (upd H a (.lst ws)):=by
 have ne:∀b u,Rd H b u->(∀xs,u≠.lst xs)->b≠a:=λb u g j q=>by
  subst q;rcases g with g|⟨ob,g⟩
  ·rw[h2] at g;cases g;exact j _ rfl
  ·rw[h2] at g;cases g
 have rd:∀b u,b≠a->Rd H b u->Rd (upd H a (.lst ws)) b u:=λb u h g=>by
  rcases g with g|⟨ob,g⟩
  ·exact .inl (by rw[aF h];exact g)
  ·exact .inr {ob,by rw[aF h];exact g}
 exact{λ_ _ q=>q,λb v g=>rd b _ (ne b _ g (λxs q=>by cases q)) g,λb v g n=>{by rw[aF (λq=>n (by rw[q];exact e))];exact g,n},λb ob u g=>by rw[aF (λq=>by rw[q,h2] at g;cases g)];exact g,λb o i g=>by rw[aF (λq=>by rw[q,h2] at g;cases g;rcases i with⟨_,i⟩|⟨_,i⟩<;>cases i)];exact g,λ_ _ q=>q}
def Ext.write {k:Nat}{a:Addr}{vs ws:List V}(h:RelM fa K μ H M)(e:μ.pub k=some a):Ext μ H μ (upd H a (.lst ws)):=by
 obtain⟨u,vs,_,h2,_⟩:=h.mu_lt e;exact{ExtW.write h2 (.inl ⟨k,e⟩),rfl,λb j=>by rw[aF (λq=>(h.pv b j).2 k (by rw[q];exact e))]}
def RelM.write (h:RelM fa K μ H M){k:Nat}{a:Addr}{ds:List D}{ws:List V}(e:μ.pub k=some a)(r:aG fa K μ H ds ws):RelM fa K μ (upd H a (.lst ws)) (M.set k ds):=by
 have x:Ext μ H μ (upd H a (.lst ws)):=Ext.write (vs:=ws) h e;refine{λj y q=>?_,λj u=>h.out j (by simpa using u),λj u=>h.oout j (by simpa using u),h.inj,h.oinj,h.sep,λb v=>{let{⟨vs,g⟩,_}:=h.pv b v;{vs,by rw[x.pk b v];exact g},(h.pv b v).2}}
 by_cases u:j=k
 ·subst u;have hl:j<M.length:=by have:=(Qr.mp q).1;simpa using this
  rw[QR hl] at q;cases q;exact .inl {a,ws,e,cx,r.ext x}
 ·rw[QJ (RR u)] at q;rcases h.at' j y q with⟨b,vs,h1,h2,h3⟩|⟨b,h1,h2,h3⟩
  ·have B:b≠a:=λz=>u (h.inj j k a (z ▸ h1) e);exact .inl {b,vs,h1,by rw[aF B];exact h2,h3.ext x}
  ·obtain⟨_,_,_,hl,_⟩:=h.mu_lt e;exact .inr {b,h1,h2,h3.extW x.toExtW (aF (h3.nl hl))}
end
def ae {h:Type}(r:Res h)(k:h->Mem->Prop):Prop:=match r with
 |.ok a M=>k a M
 |_=>False
def aJ {j u:Type}{r:Res j}{f:j->Mem->Res u}{k:u->Mem->Prop}(h:ae (r.bind f) k):∃a M,r=.ok a M/\ae (f a M) k:=by
 cases r with
 |ok a M=>exact⟨a,M,rfl,h⟩
 |err=>exact h.elim
 |bad=>exact h.elim
def kn {j:Type}{M:Mem}{o:Option j}{k:j->Mem->Prop}(h:ae (bV M o) k):∃a,o=some a/\k a M:=by
 cases o with
 |none=>exact h.elim
 |some a=>exact⟨a,rfl,h⟩
def aT {j:Type}{r:Res j}{k k':j->Mem->Prop}(h:ae r k)(m:∀a M,k a M->k' a M):ae r k':=by
 cases r with
 |ok a M=>exact m a M h
 |err=>exact h
 |bad=>exact h
section
variable(fa:Fa)(K:Qs)
def bb (μ:Mu)(H:Hp)(Q:VK)(d:D)(M':Mem):Prop:=∀v H' μ',Ext μ H μ' H'->RelM fa K μ' H' M'->Rep fa K μ' H' d v->Q v H'
def tE (g:Env->Mem->Res D):TE:=λσ H Q=>∃μ Z M,bt fa K μ H σ Z/\RelM fa K μ H M/\ae (g Z M) (bb fa K μ H Q)
def tT (g:Env->Mem->Res Bool):TT:=λσ H Q=>∃μ Z M,bt fa K μ H σ Z/\RelM fa K μ H M/\ae (g Z M) λb h=>∀H' μ',Ext μ H μ' H'->RelM fa K μ' H' h->Q b H'
def tA (g:Env->Mem->Res (List D)):TA:=λσ H Q=>∃μ Z M,bt fa K μ H σ Z/\RelM fa K μ H M/\ae (g Z M) λu j=>∀h H' μ',Ext μ H μ' H'->RelM fa K μ' H' j->aG fa K μ' H' u h->Q h H'
end
def oz (New:Addr->Prop)(C:Addr)(v:Option Addr)(a:Addr)(h:Heap)(H:Hp):Prop:=New a/\H a=none/\∃o j,h.get? a=some o/\o.cls=.ref C/\o.dict=v/\o.data=.fields j/\
 (j[1]?=some .none\/∃T u ts,j[1]?=some (.ref T)/\T≠a/\New T/\H T=none/\h.get? T=some u/\u.data=.fields ts/\ts[3]?=some .none)
def yH (X:Cx)(b:Addr):Prop:=X.s₀.heap.get? b=none/\∀p∈X.pn,p.1≠b
def XW (fa:Fa)(X:Cx)(μ:Mu)(H:Hp)(x:D)(Z:Env)(M:Mem):Prop:=∀h j H' μ' u a C v c p,Inv X h j H' u->Ext μ H μ' H'->bt fa X.K μ' H' j Z->RelM fa X.K μ' H' M->x=.exc c p->fa (f7 c)=some C->vB H' c v p->oz (yH X) C v a u.heap H'->X.xe (.ref a) u
def jV (fa:Fa)(X:Cx)(μ:Mu)(H:Hp)(D:Ends):Fl->Mem->Prop
 |.next h,j=>∀u H' μ',Ext μ H μ' H'->bt fa X.K μ' H' u h->RelM fa X.K μ' H' j->D.nx u H'
 |.ret d,j=>bb fa X.K μ H D.rt d j
 |.exc x h,j=>XW fa X μ H x h j
def tF (fa:Fa)(X:Cx)(g:Env->Mem->Res Fl):TS:=λD σ H=>∃μ Z M,bt fa X.K μ H σ Z/\RelM fa X.K μ H M/\ae (g Z M) (jV fa X μ H D)
def XW.ext (h:XW fa X μ H x Z M)(y:Ext μ H μ' H'):XW fa X μ' H' x Z M:=λj v z u s1 a C B c p I e=>h j v z u s1 a C B c p I (y.trans e)
section
variable{fa:Fa}{K:Qs}{μ μ':Mu}{H H':Hp}{Q:VK}
def bb.ext (h:bb fa K μ H Q d M)(x:Ext μ H μ' H'):bb fa K μ' H' Q d M:=λv u j y m r=>h v u j (x.trans y) m r
def jb {r:Res D}(h:ae r (bb fa K μ H Q))(x:Ext μ H μ' H'):ae r (bb fa K μ' H' Q):=aT h λ_ _ w=>w.ext x
end
def bC (h:PE X e t)(i:∀σ H Q,t' σ H Q->t σ H Q):PE X e t':=λj s σ H Q I q=>h j s σ H Q I (i σ H Q q)
def kg (h:PT X e t)(i:∀σ H Q,t' σ H Q->t σ H Q):PT X e t':=λj s σ H Q I q=>h j s σ H Q I (i σ H Q q)
def zR (h:PW X e t)(i:∀σ H Q,t' σ H Q->t σ H Q):PW X e t':=λw j s σ H Q I q=>h w j s σ H Q I (i σ H Q q)
def Aa (h:PA X e t)(i:∀σ H Q,t' σ H Q->t σ H Q):PA X e t':=λu j s σ H Q I q=>h u j s σ H Q I (i σ H Q q)
def cX (h:PS X e t)(i:∀D σ H,t' D σ H->t D σ H):PS X e t':=λj s σ H D I q=>h j s σ H D I (i D σ H q)
def wb (h:kG X e t)(i:∀D σ H,t' D σ H->t D σ H):kG X e t':=λj s σ H D I q=>h j s σ H D I (i D σ H q)
section
variable{fa:Fa}{K:Qs}{μ:Mu}{H:Hp}{σ:L2.St}{Z:Env}{M:Mem}
def t1 {g:Env->Mem->Res D}{B:Type}{f:D->Mem->Res B}{P:B->Mem->Prop}{R:V->Hp->Prop}(y:bt fa K μ H σ Z)(E:RelM fa K μ H M)(h:ae ((g Z M).bind f) P)
 (k:∀x M1 v u j,Ext μ H j u->bt fa K j u σ Z->RelM fa K j u M1->Rep fa K j u x v->ae (f x M1) P->R v u):tE fa K g σ H R:=by
 obtain⟨x,M1,e,q⟩:=aJ h;refine{μ,Z,M,y,E,?_};rw[e];exact λv u j z F r1=>k x M1 v u j z (y.ext z) F r1 q
def zk {g:Env->Mem->Res Bool}{z:Type}{f:Bool->Mem->Res z}{P:z->Mem->Prop}{R:Bool->Hp->Prop}(v:bt fa K μ H σ Z)(B:RelM fa K μ H M)(h:ae ((g Z M).bind f) P)
 (k:∀b M1 u j,Ext μ H j u->bt fa K j u σ Z->RelM fa K j u M1->ae (f b M1) P->R b u):tT fa K g σ H R:=by
 obtain⟨b,M1,e,q⟩:=aJ h;refine{μ,Z,M,v,B,?_};rw[e];exact λu j y E=>k b M1 u j y (v.ext y) E q
def rD {g:Env->Mem->Res (List D)}{B:Type}{f:List D->Mem->Res B}{P:B->Mem->Prop}{R:List V->Hp->Prop}(y:bt fa K μ H σ Z)(E:RelM fa K μ H M)(h:ae ((g Z M).bind f) P)
 (k:∀ds M1 vs u j,Ext μ H j u->bt fa K j u σ Z->RelM fa K j u M1->aG fa K j u ds vs->ae (f ds M1) P->R vs u):tA fa K g σ H R:=by
 obtain⟨ds,M1,e,q⟩:=aJ h;refine{μ,Z,M,y,E,?_};rw[e];exact λv u j z F r1=>k ds M1 v u j z (y.ext z) F r1 q
end
mutual
noncomputable def toPy:D->PyData
 |.non=>.none
 |.bl b=>.bool b
 |.int i=>.int i
 |.str x=>.str x
 |.tup h=>.tuple (cE h)
 |.lst h=>.list (cE h)
 |.frz _=>.none
 |.cell _=>.none
 |.fn _=>.none
 |.exc _ _=>.none
noncomputable def cE:List D->List PyData
 |[]=>[]
 |d::r=>toPy d::cE r
end
def qu:∀(n:Nat) (d:D),ax n d=true->(toPy d).canLay0=true/\(toPy d).depth<=n:=by
 have all:∀(n:Nat),(∀d,ax n d=true->(toPy d).canLay0=true/\(toPy d).depth<=n)->∀j:List D,j.all (ax n)=true->PyData.canLayAll0 (cE j)=true/\PyData.depthAll (cE j)<=n:=by
  intro n h j;induction j with
  |nil=>intro _;simp[cE,PyData.canLayAll0,PyData.depthAll]
  | cons d r u=>
    intro q;simp only[RK,QD] at q;obtain⟨h1,h2⟩:=h d q.1;obtain⟨h3,h4⟩:=u q.2;simp only[cE,PyData.canLayAll0,PyData.depthAll,h1,h3,Bool.and_self,true_and];omega
 intro n;induction n with
 | zero=>
   intro d h;cases d with
   |str x=>exact{by simpa[toPy,PyData.canLay0,PyData.strOk,ax] using h,by simp[toPy,PyData.depth]}
   |tup _=>simp[ax] at h
   |lst _=>simp[ax] at h
   |frz _=>simp[ax] at h
   |cell _=>simp[ax] at h
   |fn _=>simp[ax] at h
   |exc y p=>simp[ax] at h
   |_=>exact{by simp[toPy,PyData.canLay0],by simp[toPy,PyData.depth]}
 | succ n u=>
   intro d h;cases d with
   |str x=>exact{by simpa[toPy,PyData.canLay0,PyData.strOk,ax] using h,by simp[toPy,PyData.depth]}
   | tup j=>
     obtain⟨h1,h2⟩:=all n u j (by simpa[ax] using h)
     simp only[toPy,PyData.canLay0,PyData.depth,h1,true_and];omega
   | lst j=>
     obtain⟨h1,h2⟩:=all n u j (by simpa[ax] using h)
     simp only[toPy,PyData.canLay0,PyData.depth,h1,true_and];omega
   |frz _=>simp[ax] at h
   |cell _=>simp[ax] at h
   |fn _=>simp[ax] at h
   |exc y p=>simp[ax] at h
   |_=>exact{by simp[toPy,PyData.canLay0],by simp[toPy,PyData.depth]}
def jE (h:ax 64 d=true):SeqAt.shaped (toPy d)=true:=by
 obtain⟨h1,h2⟩:=qu 64 d h;simp[SeqAt.shaped,h1,h2]
mutual
theorem nV:∀(n m:Nat) (a b:D),ax n a=true->ax m b=true->PyData.eqv (toPy a) (toPy b)=cb a b
 | n,m,.tup a,.tup b,h,j=>by
   cases n with
   |zero=>simp[ax] at h
   | succ n=>
     cases m with
     |zero=>simp[ax] at j
     | succ m=>
       exact oX n m a b (by simpa[ax] using h) (by simpa[ax] using j)
 | n,m,.lst a,.lst b,h,j=>by
   cases n with
   |zero=>simp[ax] at h
   | succ n=>
     cases m with
     |zero=>simp[ax] at j
     | succ m=>
       exact oX n m a b (by simpa[ax] using h) (by simpa[ax] using j)
 |n,m,.frz _,_,h,j=>by cases n<;>simp[ax] at h
 |n,m,.cell _,_,h,j=>by cases n<;>simp[ax] at h
 |n,m,.fn _,_,h,j=>by cases n<;>simp[ax] at h
 |n,m,.exc _ _,_,h,j=>by cases n<;>simp[ax] at h
 |n,m,_,.frz _,h,j=>by cases m<;>simp[ax] at j
 |n,m,_,.cell _,h,j=>by cases m<;>simp[ax] at j
 |n,m,_,.fn _,h,j=>by cases m<;>simp[ax] at j
 |n,m,_,.exc _ _,h,j=>by cases m<;>simp[ax] at j
 |_,_,.non,.non,_,_=>by first|rfl|simp[toPy,PyData.eqv];rfl
 |_,_,.non,.bl _,_,_=>by first|rfl|simp[toPy,PyData.eqv];rfl
 |_,_,.non,.int _,_,_=>by first|rfl|simp[toPy,PyData.eqv];rfl
 |_,_,.non,.str _,_,_=>by first|rfl|simp[toPy,PyData.eqv];rfl
 |_,_,.non,.tup _,_,_=>by first|rfl|simp[toPy,PyData.eqv];rfl
 |_,_,.non,.lst _,_,_=>by first|rfl|simp[toPy,PyData.eqv];rfl
 |_,_,.bl _,.non,_,_=>by first|rfl|simp[toPy,PyData.eqv];rfl
 |_,_,.bl _,.bl _,_,_=>by first|rfl|simp[toPy,PyData.eqv];rfl
 |_,_,.bl _,.int _,_,_=>by first|rfl|simp[toPy,PyData.eqv];rfl
 |_,_,.bl _,.str _,_,_=>by first|rfl|simp[toPy,PyData.eqv];rfl
 |_,_,.bl _,.tup _,_,_=>by first|rfl|simp[toPy,PyData.eqv];rfl
 |_,_,.bl _,.lst _,_,_=>by first|rfl|simp[toPy,PyData.eqv];rfl
 |_,_,.int _,.non,_,_=>by first|rfl|simp[toPy,PyData.eqv];rfl
 |_,_,.int _,.bl _,_,_=>by first|rfl|simp[toPy,PyData.eqv];rfl
 |_,_,.int _,.int _,_,_=>by first|rfl|simp[toPy,PyData.eqv];rfl
 |_,_,.int _,.str _,_,_=>by first|rfl|simp[toPy,PyData.eqv];rfl
 |_,_,.int _,.tup _,_,_=>by first|rfl|simp[toPy,PyData.eqv];rfl
 |_,_,.int _,.lst _,_,_=>by first|rfl|simp[toPy,PyData.eqv];rfl
 |_,_,.str _,.non,_,_=>by first|rfl|simp[toPy,PyData.eqv];rfl
 |_,_,.str _,.bl _,_,_=>by first|rfl|simp[toPy,PyData.eqv];rfl
 |_,_,.str _,.int _,_,_=>by first|rfl|simp[toPy,PyData.eqv];rfl
 |_,_,.str _,.str _,_,_=>by first|rfl|simp[toPy,PyData.eqv];rfl
 |_,_,.str _,.tup _,_,_=>by first|rfl|simp[toPy,PyData.eqv];rfl
 |_,_,.str _,.lst _,_,_=>by first|rfl|simp[toPy,PyData.eqv];rfl
 |_,_,.tup _,.non,_,_=>by first|rfl|simp[toPy,PyData.eqv];rfl
 |_,_,.tup _,.bl _,_,_=>by first|rfl|simp[toPy,PyData.eqv];rfl
 |_,_,.tup _,.int _,_,_=>by first|rfl|simp[toPy,PyData.eqv];rfl
 |_,_,.tup _,.str _,_,_=>by first|rfl|simp[toPy,PyData.eqv];rfl
 |_,_,.tup _,.lst _,_,_=>by first|rfl|simp[toPy,PyData.eqv];rfl
 |_,_,.lst _,.non,_,_=>by first|rfl|simp[toPy,PyData.eqv];rfl
 |_,_,.lst _,.bl _,_,_=>by first|rfl|simp[toPy,PyData.eqv];rfl
 |_,_,.lst _,.int _,_,_=>by first|rfl|simp[toPy,PyData.eqv];rfl
 |_,_,.lst _,.str _,_,_=>by first|rfl|simp[toPy,PyData.eqv];rfl
 |_,_,.lst _,.tup _,_,_=>by first|rfl|simp[toPy,PyData.eqv];rfl
theorem oX:∀(n m:Nat) (a b:List D),a.all (ax n)=true->b.all (ax m)=true->PyData.eqvAll (cE a) (cE b)=cM a b
 |n,m,[],[],_,_=>by simp[cE,PyData.eqvAll,cM]
 |n,m,[],_::_,_,_=>by simp[cE,PyData.eqvAll,cM]
 |n,m,_::_,[],_,_=>by simp[cE,PyData.eqvAll,cM]
 | n,m,x::a,y::b,h,j=>by
   simp only[RK,QD] at h j;simp only[cE,PyData.eqvAll,cM];rw[nV n m x y h.1 j.1,oX n m a b h.2 j.2]
end
section
variable{fa:Fa}{X:Cx}{μ:Mu}{H:Hp}{σ:L2.St}{pins:List (Addr×Obj)}{s:QA}{M:Mem}
def hU (j:RelM fa X.K μ H M)(h:Rep fa X.K μ H d v)(e:fG M d=some ds):∃a vs,v=.ref a/\H a=some (.lst vs)/\aG fa X.K μ H ds vs:=by
 cases d with
 | lst xs=>
   cases e;obtain⟨a,vs,e,s,r⟩:=h;exact⟨a,vs,e,s.1,r⟩
 | cell k=>
   obtain⟨a,rfl,hk⟩:=h;obtain⟨vs,h2,h3⟩:=j.at_ e hk;exact⟨a,vs,rfl,h2,h3⟩
 |_=>cases e
def bN (j:RelM fa X.K μ H M)(h:Rep fa X.K μ H d v)(e:cv M d=some ds):∃a vs,v=.ref a/\cQ X.K H a vs/\aG fa X.K μ H ds vs:=by
 cases d with
 | lst xs=>
   obtain⟨a,vs,h1,h2,h3⟩:=hU j h e;exact{a,vs,h1,.of h2,h3}
 | frz xs=>
   cases e;obtain⟨a,vs,e,s,r⟩:=h;exact{a,vs,e,s.elim (λz=>.inl (.inr z)) .inr,r}
 | cell k=>
   obtain⟨a,vs,h1,h2,h3⟩:=hU j h e;exact{a,vs,h1,.of h2,h3}
 |_=>cases e
def i9 (j:RelM fa X.K μ H M)(h:Rep fa X.K μ H d v)(e:bT M d=some ds):∃a vs,v=.ref a/\(cQ X.K H a vs\/dO X.K H a vs)/\aG fa X.K μ H ds vs:=by
 cases d with
 | tup xs=>
   cases e;obtain⟨a,vs,rfl,h1,h2⟩:=h;exact{a,vs,rfl,.inr h1,h2}
 | lst xs=>
   obtain⟨a,vs,h1,h2,h3⟩:=bN j h e;exact{a,vs,h1,.inl h2,h3}
 | frz xs=>
   obtain⟨a,vs,h1,h2,h3⟩:=bN j h e;exact{a,vs,h1,.inl h2,h3}
 | cell k=>
   obtain⟨a,vs,h1,h2,h3⟩:=bN j h e;exact{a,vs,h1,.inl h2,h3}
 |_=>cases e
mutual
theorem eC (I:Inv X pins σ H s):∀(d:D) (n:Nat) (v:V) (u:Qw),ax n d=true->Rep fa X.K μ H d v->RelV v u->∃z,Reads s.heap u (toPy d) z
 | .non,n,v,u,_,h,r=>by
   obtain rfl:v=.non:=h;obtain rfl:u=Value.none:=r;exact{_,.none}
 | .bl b,n,v,u,_,h,r=>by
   obtain rfl:v=.bl b:=h;obtain rfl:u=Value.bool b:=r;exact{_,.bool b}
 | .int i,n,v,u,_,h,r=>by
   obtain rfl:v=.int i:=h;obtain⟨t,rfl⟩:=r;exact{_,.int i t}
 | .str x,n,v,u,_,h,r=>by
   obtain rfl:v=.str x:=h;obtain⟨t,rfl⟩:=r;exact{_,.str x t}
 | .tup B,n,v,u,j,h,r=>by
   cases n with
   |zero=>simp[ax] at j
   | succ n=>
     obtain⟨a,J,rfl,h1,h2⟩:=h;obtain rfl:u=Value.ref a:=r;obtain⟨y,F,⟨o,e1,e2,k,E⟩,_⟩:=I.tuple h1;obtain⟨z,q⟩:=fR I B n J y (by simpa[ax] using j) h2 F
     exact{_,.tuple e1 e2 E (by simpa using q)}
 | .lst B,n,v,u,j,h,r=>by
   cases n with
   |zero=>simp[ax] at j
   | succ n=>
     obtain⟨a,J,rfl,h1,h2⟩:=h;obtain rfl:u=Value.ref a:=r;obtain⟨y,F,⟨o,k,e1,e2,L,E⟩,_⟩:=I.list (cQ.of h1.1);obtain⟨z,q⟩:=fR I B n J y (by simpa[ax] using j) h2 F
     exact{_,.list e1 e2 E (by simpa using q)}
 |.frz k,n,v,u,j,_,_=>by cases n<;>simp[ax] at j
 |.cell k,n,v,u,j,_,_=>by cases n<;>simp[ax] at j
 |.fn f,n,v,u,j,_,_=>by cases n<;>simp[ax] at j
 |.exc _ _,n,v,u,j,_,_=>by cases n<;>simp[ax] at j
theorem fR (I:Inv X pins σ H s):∀(ds:List D) (n:Nat) (vs:List V) (us:List Qw),ds.all (ax n)=true->aG fa X.K μ H ds vs->Vals vs us->∃u,ReadsAll s.heap us (cE ds) u
 | [],n,vs,us,_,h,r=>by
   obtain rfl:vs=[]:=h;cases r;exact{_,.nil}
 | d::ds,n,vs,us,j,h,r=>by
   obtain⟨v,vr,rfl,h1,h2⟩:=h;simp only[RK,QD] at j;cases r with
   | cons r1 r2=>
     obtain⟨u,y⟩:=eC I d n v _ j.1 h1 r1;obtain⟨bs,z⟩:=fR I ds n vr _ j.2 h2 r2;exact{_,.cons y z}
end
def Fv (h:ax n (view M d)=true):(view M d=d/\ax n d=true)\/∃ds,cv M d=some ds/\view M d=.lst ds:=by
 cases d with
 | cell k=>
   cases e:M[k]? with
   | none=>
     have j:view M (.cell k)=.cell k:=by simp[view,e]
     rw[j] at h;cases n<;>simp[ax] at h
   |some ds=>exact .inr {ds,e,by simp[view,e]}
 |frz ds=>exact .inr ⟨ds,rfl,rfl⟩
 |_=>exact .inl ⟨rfl,h⟩
def kI (I:Inv X pins σ H s)(L:RelM fa X.K μ H M)(j:ax 64 (view M d)=true)(h:Rep fa X.K μ H d v)(r:RelV v u):∃B,Reads s.heap u (toPy (view M d)) B:=by
 rcases Fv j with⟨e,y⟩|⟨E,e,J⟩
 ·rw[e];exact eC I _ 64 v u y h r
 ·rw[J] at j ⊢;obtain⟨a,P,rfl,h1,h2⟩:=bN L h e;obtain rfl:u=Value.ref a:=r;obtain⟨z,O,⟨o,k,e1,e2,Q,F⟩,_⟩:=I.list h1;obtain⟨B,q⟩:=fR I E 63 P z (by simpa[ax] using j) h2 O
  exact{_,.list e1 e2 F (by simpa using q)}
theorem jW (I:Inv X pins σ H s)(J:RelM fa X.K μ H M):∀(n m:Nat) (d:D) (v:V) (u:Qw),ax m (dw n M d)=true->Rep fa X.K μ H d v->RelV v u->∃E,Reads s.heap u (toPy (dw n M d)) E
 |0,m,d,v,u,j,h,r=>eC I d m v u j h r
 | n+1,m,d,v,u,j,h,r=>by
   have S:=jW I J n;have all:∀(m:Nat) (z:List D) (B:List V) (L:List Qw),(z.map (dw n M)).all (ax m)=true->aG fa X.K μ H z B->Vals B L->∃E,ReadsAll s.heap L (cE (z.map (dw n M))) E:=by
    intro m z;induction z with
    | nil=>
      intro B L _ h r;obtain rfl:B=[]:=h;cases r;exact{_,.nil}
    | cons d z Q=>
      intro B L j h r;obtain⟨v,vr,rfl,h1,h2⟩:=h;simp only[RQ,RK,QD] at j;cases r with
      | cons r1 r2=>
        obtain⟨E,U⟩:=S m d v _ j.1 h1 r1;obtain⟨bs,W⟩:=Q vr _ j.2 h2 r2;exact{_,.cons U W}
   have lst:∀(z:List D) (a:Addr) (B:List V),ax m (.lst (z.map (dw n M)))=true->cQ X.K H a B->aG fa X.K μ H z B->u=.ref a->∃E,Reads s.heap u (toPy (.lst (z.map (dw n M)))) E:=by
    intro z a B j h1 h2 e;subst e;cases m with
    |zero=>simp[ax] at j
    | succ m=>
      obtain⟨F,R,⟨o,k,e1,e2,Y,O⟩,_⟩:=I.list h1;obtain⟨E,q⟩:=all m z B F (by simpa[ax] using j) h2 R
      exact{_,.list e1 e2 O (by simpa using q)}
   cases d with
   | cell k=>
     cases e:M[k]? with
     | none=>
       have P:dw (n+1) M (.cell k)=.cell k:=by simp[dw,e]
       rw[P] at j;cases m<;>simp[ax] at j
     | some z=>
       have P:dw (n+1) M (.cell k)=.lst (z.map (dw n M)):=by simp[dw,e]
       rw[P] at j ⊢;obtain⟨a,B,rfl,h1,h2⟩:=bN J h e;exact lst z a B j h1 h2 r
   | frz z=>
     obtain⟨a,B,rfl,h1,h2⟩:=bN J h rfl;exact lst z a B j h1 h2 r
   | lst z=>
     obtain⟨a,B,rfl,h1,h2⟩:=bN J h rfl;exact lst z a B j h1 h2 r
   | tup z=>
     have j:ax m (.tup (z.map (dw n M)))=true:=j;cases m with
     |zero=>simp[ax] at j
     | succ m=>
       obtain⟨a,B,rfl,h1,h2⟩:=h;obtain rfl:u=Value.ref a:=r;obtain⟨F,R,⟨o,e1,e2,k,O⟩,_⟩:=I.tuple h1;obtain⟨E,q⟩:=all m z B F (by simpa[ax] using j) h2 R
       exact{_,.tuple e1 e2 O (by simpa using q)}
   |non=>exact eC I .non m v u j h r
   |bl b=>exact eC I (.bl b) m v u j h r
   |int i=>exact eC I (.int i) m v u j h r
   |str x=>exact eC I (.str x) m v u j h r
   |fn f=>exact eC I (.fn f) m v u j h r
   |exc y p=>exact eC I (.exc y p) m v u j h r
abbrev Rm (X:Cx):Prop:=X.A.units+100<cLine
def gK (fa:Fa)(K:Qs)(o:jB):R2:=λx y H Q=>∃μ M h j b,RelM fa K μ H M/\Rep fa K μ H h x/\Rep fa K μ H j y/\bx o h j M=some b/\Q (.bl b) H
set_option tactic.hygienic true in
def uV (hs:(hD a&&hD b)=false)(h:pW a b=some k):ax 64 a=true/\ax 64 b=true/\k=cb a b:=by
 unfold pW at h;rw[hs,Bool.false_or] at h;split at h
 ·next q=>
  simp only[QD] at q;exact{q.1,q.2,(Qz h).symm}
 ·cases h
def uJ (d:D):hD (view M d)=hD d:=by
 cases d with
 |cell k=>cases e:M[k]?<;>simp[view,e,hD]
 |_=>rfl
def rS (n:Nat)(d:D):hD (dw n M d)=hD d:=by
 cases n with
 |zero=>rfl
 | succ n=>
   cases d with
   |cell k=>cases e:M[k]?<;>simp[dw,e,hD]
   |_=>rfl
def rW (I:Inv X pins σ H s)(z:RelM fa X.K μ H M)(hs:(hD a&&hD b)=false)(h:mP M a b=some k)(h1:Rep fa X.K μ H a x)(h2:Rep fa X.K μ H b y)(B:RelV x v)(E:RelV y u) :
 ∃c e j bs,ax 64 c=true/\ax 64 e=true/\k=cb c e/\Reads s.heap v (toPy c) j/\Reads s.heap u (toPy e) bs:=by
 unfold mP at h;cases q:pW (view M a) (view M b) with
 | some r=>
   rw[q] at h;cases h;obtain⟨p1,p2,e⟩:=uV (by rw[uJ,uJ];exact hs) q
   obtain⟨j,r1⟩:=kI I z p1 h1 B;obtain⟨bs,r2⟩:=kI I z p2 h2 E;exact{_,_,j,bs,p1,p2,e,r1,r2}
 | none=>
   rw[q] at h;obtain⟨p1,p2,e⟩:=uV (by rw[rS,rS];exact hs) h
   obtain⟨j,r1⟩:=jW I z 64 64 a x v p1 h1 B;obtain⟨bs,r2⟩:=jW I z 64 64 b y u p2 h2 E;exact{_,_,j,bs,p1,p2,e,r1,r2}
def tG (h:(hD a&&hD b)=true):∃x y,a=.str x/\b=.str y:=by
 cases a with
 | str x=>
   cases b with
   |str y=>exact⟨x,y,rfl,rfl⟩
   |_=>cases h
 |_=>cases h
def wN:mP M (.str x) (.str y)=some (x==y):=by
 have e:cb (.str x) (.str y)=(x==y):=rfl;rw[<- e];rfl
def PU (L:Rm X):bL X (compareOp .Eq) (gK fa X.K .eq):=by
 intro pins s σ H x y v u Q I z B h;obtain⟨μ,M,E,F,b,J,h1,h2,e,q⟩:=h;cases hs:hD E&&hD F with
 | true=>
   obtain⟨i,j,rfl,rfl⟩:=tG hs;obtain rfl:x=.str i:=h1;obtain rfl:y=.str j:=h2;obtain rfl:(i==j)=b:=Qz (wN.symm.trans e);exact ME pins s σ H _ _ v u Q I z B {rfl,by rw[nW];exact q}
 | false=>
   obtain⟨_,_,O,bs,p1,p2,rfl,r1,r2⟩:=rW I J hs (e) h1 h2 z B;refine SeqAt.compareEq_shaped r1 r2 (jE p1) (jE p2) (by unfold Rm at L;omega) ?_
   rw[nV 64 64 _ _ p1 p2];exact{.bl _,H,I,rfl,q}
def PK (O:Rm X):bL X (compareOp .NotEq) (gK fa X.K .ne):=by
 intro pins s σ H x y v u Q I F J h;obtain⟨μ,M,B,E,b,L,h1,h2,e,q⟩:=h;have e:(mP M B E).map (!·)=some b:=e;cases z:mP M B E with
 |none=>rw[z] at e;cases e
 | some k=>
   rw[z] at e;obtain rfl:(!k)=b:=Qz e;cases hs:hD B&&hD E with
   | true=>
     obtain⟨i,j,rfl,rfl⟩:=tG hs;obtain rfl:x=.str i:=h1;obtain rfl:y=.str j:=h2;obtain rfl:(i==j)=k:=Qz (wN.symm.trans z);exact Mz pins s σ H _ _ v u Q I F J {rfl,by rw[nW];exact q}
   | false=>
     obtain⟨_,_,P,bs,p1,p2,rfl,r1,r2⟩:=rW I L hs z h1 h2 F J;refine SeqAt.compareNe_shaped r1 r2 (jE p1) (jE p2) (by unfold Rm at O;omega) ?_
     rw[nV 64 64 _ _ p1 p2];exact{.bl _,H,I,rfl,q}
end
section
variable{fa:Fa}{X:Cx}{μ:Mu}{H:Hp}{σ:L2.St}{pins:List (Addr×Obj)}{s:QA}{M:Mem}
def ij (h:bL X f r)(i:∀x y H Q,r' x y H Q->r x y H Q):bL X f r':=λpins s σ H x y v u Q I j z q=>h pins s σ H x y v u Q I j z (i x y H Q q)
def jn (h:cf X f r)(i:∀xs H Q,r' xs H Q->r xs H Q):cf X f r':=λpins s σ H xs u Q I j q=>h pins s σ H xs u Q I j (i xs H Q q)
def nY {g:Int->Int->Bool}(ho:o=.lt\/o=.le\/o=.gt\/o=.ge)(F:∀i j,bx o (.int i) (.int j) []=some (g i j))(h:gK fa X.K o x y H Q) :
 ∃i j,x=.int i/\y=.int j/\Q (.bl (g i j)) H:=by
 obtain⟨μ,M,v,z,b,I,h1,h2,e,q⟩:=h;have u:∀i j,v=.int i->z=.int j->∃i j,x=.int i/\y=.int j/\Q (.bl (g i j)) H:=λi j e1 e2=>by
  subst e1 e2;have B:bx o (.int i) (.int j) M=some (g i j):=by
   have:=F i j;rcases ho with rfl|rfl|rfl|rfl<;>exact this
  rw[e] at B;have E:=Qz B;subst E;exact⟨i,j,h1,h2,q⟩
 rcases ho with rfl|rfl|rfl|rfl<;>
 ·cases v with
  |int i=>cases z<;>first|exact u _ _ rfl rfl|cases e
  |_=>cases e
def PL:bL X (compareOp .Lt) (gK fa X.K .lt):=ij MA λx y H Q h=>nY (.inl rfl) (λ_ _=>rfl) h
def PM:bL X (compareOp .LtE) (gK fa X.K .le):=ij MB λx y H Q h=>nY (.inr (.inl rfl)) (λ_ _=>rfl) h
def PQ:bL X (compareOp .Gt) (gK fa X.K .gt):=ij MC λx y H Q h=>nY (.inr (.inr (.inl rfl))) (λ_ _=>rfl) h
def PR:bL X (compareOp .GtE) (gK fa X.K .ge):=ij MD λx y H Q h=>nY (.inr (.inr (.inr rfl))) (λ_ _=>rfl) h
def vY {K:Qs}(h:Rep fa K μ H d v):decide (v=.non)=xY d:=by
 cases d with
 |non=>obtain rfl:v=.non:=h;rfl
 |bl b=>obtain rfl:v=.bl b:=h;rfl
 |int b=>obtain rfl:v=.int b:=h;rfl
 |str b=>obtain rfl:v=.str b:=h;rfl
 |tup b=>obtain⟨a,j,rfl,_⟩:=h;rfl
 |lst b=>obtain⟨a,j,rfl,_⟩:=h;rfl
 |frz b=>obtain⟨a,j,rfl,_⟩:=h;rfl
 |cell b=>obtain⟨a,rfl,_⟩:=h;rfl
 |fn b=>obtain⟨a,rfl,_⟩:=h;rfl
 |exc y p=>obtain⟨a,_,_,rfl,_⟩:=h;rfl
def NI:bL X (compareOp .Is) (gK fa X.K .isN):=ij JP λx y H Q h=>by
 obtain⟨μ,M,u,j,b,v,h1,h2,e,q⟩:=h;cases j<;>first|cases (show(none:Option Bool)=some b from e)|skip
 refine{h2,?_};rw[vY h1];rw[Qz e];exact q
def LB:bL X (compareOp .IsNot) (gK fa X.K .notN):=ij GN λx y H Q h=>by
 obtain⟨μ,M,u,j,b,v,h1,h2,e,q⟩:=h;cases j<;>first|cases (show(none:Option Bool)=some b from e)|skip
 refine{h2,?_};rw[vY h1];rw[Qz e];exact q
noncomputable def vp (x:D)(j:ax 64 x=true):∀(ds:List D),ds.all (ax 63)=true->((cE ds).any λy=>PyData.eqv y (toPy x))=ds.any λy=>cb y x
 |[],_=>rfl
 | d::r,h=>by
   simp only[RK,QD] at h;simp only[cE,List.any_cons,nV 63 64 d x h.1 j,vp x j r h.2]
theorem tq (n:Nat):∀ds:List D,ds.all (ax n)=true->PyData.canLayAll0 (cE ds)=true/\PyData.depthAll (cE ds)<=n
 |[],_=>by simp[cE,PyData.canLayAll0,PyData.depthAll]
 | d::r,h=>by
   simp only[RK,QD] at h;obtain⟨h1,h2⟩:=qu n d h.1;obtain⟨h3,h4⟩:=tq n r h.2;simp only[cE,PyData.canLayAll0,PyData.depthAll,h1,h3,Bool.and_self,true_and];omega
def zK (I:Inv X pins σ H s)(J:RelM fa X.K μ H M)(E:ds.all (ax 63)=true)(h:Rep fa X.K μ H d v)(r:RelV v u)(e:bT M d=some ds) :
 (∃y,Reads s.heap u (.list (cE ds)) y)\/∃y,Reads s.heap u (.tuple (cE ds)) y:=by
 obtain⟨a,F,rfl,h1,h2⟩:=i9 J h e;obtain rfl:u=Value.ref a:=r;rcases h1 with h1|h1
 ·obtain⟨j,B,⟨o,k,e1,e2,L,z⟩,_⟩:=I.list h1;obtain⟨y,q⟩:=fR I ds 63 F j E h2 B;exact .inl {_,.list e1 e2 z (by simpa using q)}
 ·obtain⟨j,B,⟨o,e1,e2,k,z⟩,_⟩:=I.tuple h1;obtain⟨y,q⟩:=fR I ds 63 F j E h2 B;exact .inr {_,.tuple e1 e2 z (by simpa using q)}
set_option tactic.hygienic true in
def AD (L:Rm X)(I:Inv X pins σ H s)(F:RelM fa X.K μ H M)(h1:Rep fa X.K μ H dx x)(h2:Rep fa X.K μ H dy y)(O:RelV x v)(P:RelV y u)
 (e1:bT M dy=some ds) (e2:pS (view M dx) ds=some b) (j:Bool) (q:Q (.bool (if j then !b else b)) s):wpAny (model X.prog X.w) X.A (compareOp (if j then .NotIn else .In) v u) Q X.xe s:=by
 unfold pS at e2;split at e2
 ·next z=>
  simp only[QD] at z;obtain⟨p1,p2⟩:=z;have J:=Qz e2;subst J;obtain⟨R,r1⟩:=kI I F p1 h1 O;obtain⟨B,d1⟩:=qu 64 _ p1;obtain⟨E,S⟩:=tq 63 ds p2;have h:X.A.units+1+min (PyData.depthAll (cE ds)) (toPy (view M dx)).depth<cLine:=by unfold Rm at L;omega
  rw[<- vp _ p1 ds p2] at q;rcases zK I F p2 h2 P e1 with⟨bs,r2⟩|⟨bs,r2⟩
  ·cases j
   ·exact SeqAt.in_list_reads r2 r1 E B h q
   ·exact SeqAt.notIn_list_reads r2 r1 E B h q
  ·cases j
   ·exact SeqAt.in_tuple_reads r2 r1 E B h q
   ·exact SeqAt.notIn_tuple_reads r2 r1 E B h q
 ·cases e2
def PN (L:Rm X):bL X (compareOp .In) (gK fa X.K .isin):=by
 intro pins s σ H x y v u Q I B E h;obtain⟨μ,M,z,j,b,J,h1,h2,e,q⟩:=h;have gen:(bT M j).bind (pS (view M z))=some b->wpAny (model X.prog X.w) X.A (compareOp .In v u) (EP X pins σ Q) X.xe s:=λe=>by
  cases e1:bT M j with
  |none=>rw[e1] at e;cases e
  | some O=>
    rw[e1] at e;exact AD L I J h1 h2 B E e1 e false {.bl b,H,I,rfl,q}
 by_cases hs:(∃a,z=.str a)/\∃c,j=.str c
 ·obtain⟨⟨a,rfl⟩,c,rfl⟩:=hs;have F:=Qz e;subst F;exact Ab pins s σ H x y v u Q I B E ⟨a,c,h1,h2,q⟩
 ·refine gen ?_;cases z<;>first|exact e|(cases j<;>first|exact e|exact absurd {{_,rfl},_,rfl} hs)
def HI (O:Rm X):bL X (compareOp .NotIn) (gK fa X.K .notin):=by
 intro pins s σ H x y v u Q I E F h;obtain⟨μ,M,j,z,b,L,h1,h2,e,q⟩:=h;have gen:((bT M z).bind (pS (view M j))).map (!·)=some b->wpAny (model X.prog X.w) X.A (compareOp .NotIn v u) (EP X pins σ Q) X.xe s:=λe=>by
  cases e1:bT M z with
  |none=>rw[e1] at e;cases e
  | some J=>
    rw[e1] at e;cases e2:pS (view M j) J with
    |none=>rw[Option.bind_some,e2] at e;cases e
    | some k=>
      rw[Option.bind_some,e2] at e;have B:=Qz e;subst B;exact AD O I L h1 h2 E F e1 e2 true {.bl _,H,I,rfl,q}
 by_cases hs:(∃a,j=.str a)/\∃c,z=.str c
 ·obtain⟨⟨a,rfl⟩,c,rfl⟩:=hs;have B:=Qz e;subst B;exact ue pins s σ H x y v u Q I E F ⟨a,c,h1,h2,q⟩
 ·refine gen ?_;cases j<;>first|exact e|(cases z<;>first|exact e|exact absurd {{_,rfl},_,rfl} hs)
noncomputable def fi:jB->CmpOp
 |.eq=>.Eq|.ne=>.NotEq|.lt=>.Lt|.le=>.LtE|.gt=>.Gt|.ge=>.GtE|.isN=>.Is|.notN=>.IsNot|.isin=>.In|.notin=>.NotIn
def n4 (h:Rm X):∀o:jB,bL X (compareOp (fi o)) (gK fa X.K o)
 |.eq=>PU h|.ne=>PK h|.lt=>PL|.le=>PM|.gt=>PQ|.ge=>PR|.isN=>NI|.notN=>LB|.isin=>PN h|.notin=>HI h
def mr (fa:Fa)(K:Qs)(m:Bool)(o:oA):R2:=λx y H Q=>∃μ M h j,RelM fa K μ H M/\Rep fa K μ H h x/\Rep fa K μ H j y/\ae (fK m o h j M) (bb fa K μ H Q)
def aR (j:RelM fa X.K μ H M)(h:bb fa X.K μ H Q d M)(r:Rep fa X.K μ H d v):Q v H:=h v H μ .refl j r
set_option tactic.hygienic true in
def gr (j:RelM fa X.K μ H M)(r:aG fa X.K μ H ds vs)(h:ae (aS m ds M) (bb fa X.K μ H Q)):ds.length<=sz/\∀p,H p=none->Q (.ref p) (upd H p (.lst vs)):=by
 unfold aS at h;split at h
 ·next v=>
  refine{v,λp u=>?_};cases m with
  | true=>
    exact h (.ref p) _ (fS μ M.length p) (Ext.cell j u) (j.cell u r) {p,rfl,by simp[fS]}
  | false=>
    exact h (.ref p) _ μ (Ext.alloc j u) (j.alloc u) {p,vs,rfl,{cx,j.fresh u},r.ext (Ext.alloc j u)}
 ·exact h.elim
def hG (j:RelM fa X.K μ H M)(r:aG fa X.K μ H ds vs)(h:bb fa X.K μ H Q (.tup ds) M):∀p,H p=none->Q (.ref p) (upd H p (.tup vs)):=λp u=>
 h (.ref p) _ μ (Ext.alloc j u) (j.alloc u) {p,vs,rfl,.of cx,r.ext (Ext.alloc j u)}
def dz:sz=sizeLine:=by rw[sizeLine_eq];rfl
def Cn:bL X (binaryOp .Add) (λx y H Q=>∃a b ys,x=.ref a/\y=.ref b/\dO X.K H a []/\dO X.K H b ys/\Q (.ref b) H):=by
 intro pins s σ H x y v u Q I rx ry h;obtain⟨a,b,ys,rfl,rfl,U,W,q⟩:=h;cases rx;cases ry;obtain⟨its,r1,p1,_⟩:=I.tuple U;obtain⟨z,r2,p2,_⟩:=I.tuple W;cases r1;obtain⟨⟨cls,S,R,sl⟩,ho,Y,n,hd⟩:=id p1;obtain⟨⟨P,E,B,O⟩,j,J,n2,L⟩:=id p2;subst Y hd J L;exact concat_meets {_,ho,rfl} {_,j,rfl} noFill_tuple_add seq_tuple_add PySem.F.slot_tuple_add PySem.F.entry_tuple_add (PySem.F.args_tuple_add_2 _ _)
  (tuple_addW0 a b #[] z.toArray n n2 S E sl O rfl) {ho,j,{.ref b,H,I,rfl,q}}
def C9 (I:Inv X pins σ H s)(j:RelM fa X.K μ H M)(h1:Rep fa X.K μ H dx x)(h2:Rep fa X.K μ H dy y)(L:RelV x v)(O:RelV y u)
 (h:ae (match fG M dx,fG M dy with|some x,some y=>aS m (x++y) M|_,_=>.bad) (bb fa X.K μ H Q)):wpAny (model X.prog X.w) X.A (binaryOp .Add v u) (EP X pins σ Q) X.xe s:=by
 cases e1:fG M dx with
 |none=>rw[e1] at h;exact h.elim
 | some xs=>
   cases e2:fG M dy with
   |none=>rw[e1,e2] at h;exact h.elim
   | some S=>
     rw[e1,e2] at h;obtain⟨a,P,rfl,E,z⟩:=hU j h1 e1;obtain⟨b,R,rfl,F,B⟩:=hU j h2 e2;obtain⟨J,k⟩:=gr j (z.append B) h;refine JQ pins s σ H _ _ v u Q I L O {a,b,P,R,rfl,rfl,E,F,?_,k};rw[z.length,B.length,<- Qt,<- dz];exact J
set_option tactic.hygienic true in
def NU (m:Bool):bL X (binaryOp .Add) (mr fa X.K m .add):=by
 intro pins s σ H x y v u Q I F J h;obtain⟨μ,M,L,O,B,h1,h2,h⟩:=h;have hi:∀i j,L=.int i->O=.int j->wpAny (model X.prog X.w) X.A (binaryOp .Add v u) (EP X pins σ Q) X.xe s:=λi j e1 e2=>by
  subst e1 e2;exact JR pins s σ H x y v u Q I F J {i,j,h1,h2,aR B h rfl}
 have hs:∀i j,L=.str i->O=.str j->wpAny (model X.prog X.w) X.A (binaryOp .Add v u) (EP X pins σ Q) X.xe s:=λi j e1 e2=>by
  subst e1 e2;have h:ae (if i.cps.size+j.cps.size<=sz then .ok (.str {i.cps++j.cps}) M else .bad) (bb fa X.K μ H Q):=h;split at h
  ·next W=>exact xG pins s σ H x y v u Q I F J {i,j,h1,h2,by rw[<- dz];exact W,aR B h rfl}
  ·exact h.elim
 have ht:∀i j,L=.tup i->O=.tup j->wpAny (model X.prog X.w) X.A (binaryOp .Add v u) (EP X pins σ Q) X.xe s:=λi j e1 e2=>by
  subst e1 e2;have h:ae (if (i++j).length<=sz then .ok (.tup (i++j)) M else .bad) (bb fa X.K μ H Q):=h;split at h
  ·next W=>
   obtain⟨a,R,e1,S,E⟩:=id h1;obtain⟨b,Y,e2,U,P⟩:=id h2;by_cases h0:i=[]
   ·subst h0;obtain rfl:R=[]:=E;exact Cn pins s σ H x y v u Q I F J {a,b,Y,e1,e2,S,U,aR B h ⟨b,Y,rfl,U,P⟩}
   ·have hv:R≠[]:=λz=>h0 (by have:=E.length;rw[z] at this;exact Sz.mp this.symm)
    refine GP pins s σ H x y v u Q I F J {a,b,R,Y,e1,e2,S,U,hv,?_,λz=>?_,λ_=>hG B (E.append P) h}
    ·rw[E.length,P.length,<- Qt,<- dz];exact W
    ·subst z;have ej:=Sz.mp P.length.symm;subst ej;exact aR B h {a,R,rfl,S,by simpa using E}
  ·exact h.elim
 cases L<;>cases O<;>first|exact hi _ _ rfl rfl|exact hs _ _ rfl rfl|exact ht _ _ rfl rfl|exact C9 (m:=m) I B h1 h2 F J h
def sV {g:Int->Int->Int}(hr:bL X (binaryOp op) (rI C λi j=>.int (g i j)))
 (z:∀u v M (P:D->Mem->Prop),ae (fK m o u v M) P->∃i j,u=.int i/\v=.int j/\C i j/\P (.int (g i j)) M):bL X (binaryOp op) (mr fa X.K m o):=ij hr λx y H Q h=>by
 obtain⟨μ,M,u,v,B,h1,h2,h⟩:=h;obtain⟨i,j,rfl,rfl,c,q⟩:=z u v M _ h;exact{i,j,h1,h2,c,aR B q rfl}
def NP (m:Bool):bL X (binaryOp .Sub) (mr fa X.K m .sub):=sV (C:=λ_ _=>True) (ij JK (by rintro x y H Q ⟨i,j,e1,e2,_,q⟩;exact⟨i,j,e1,e2,q⟩)) λu v M P h=>by
 cases u<;>cases v<;>first|exact{_,_,rfl,rfl,trivial,h}|exact h.elim
set_option tactic.hygienic true in
def LG (m:Bool):bL X (binaryOp .FloorDiv) (mr fa X.K m .fdiv):=sV GO λu v M P h=>by
 have y:∀i j,u=.int i->v=.int j->∃i j,u=.int i/\v=.int j/\L4 i j/\P (.int (i / j)) M:=λi j e1 e2=>by
  subst e1 e2;have h:ae (if 0<j/\j<1073741824 then .ok (.int (i / j)) M else .bad) P:=h;split at h
  ·next c=>exact⟨i,j,rfl,rfl,c,h⟩
  ·exact h.elim
 cases u<;>cases v<;>first|exact y _ _ rfl rfl|exact h.elim
set_option tactic.hygienic true in
def NS (m:Bool):bL X (binaryOp .Mod) (mr fa X.K m .mod):=sV JO λu v M P h=>by
 have y:∀i j,u=.int i->v=.int j->∃i j,u=.int i/\v=.int j/\0<j/\P (.int (i % j)) M:=λi j e1 e2=>by
  subst e1 e2;have h:ae (if 0<j then .ok (.int (i % j)) M else .bad) P:=h;split at h
  ·next c=>exact⟨i,j,rfl,rfl,c,h⟩
  ·exact h.elim
 cases u<;>cases v<;>first|exact y _ _ rfl rfl|exact h.elim
set_option tactic.hygienic true in
def NQ (m:Bool):bL X (binaryOp .Pow) (mr fa X.K m .pow):=sV JM λu v M P h=>by
 have y:∀i j,u=.int i->v=.int j->∃i j,u=.int i/\v=.int j/\L3 i j/\P (.int (i^j.toNat)) M:=λi j e1 e2=>by
  subst e1 e2;have h:ae (if 0<=j/\j<=1000000/\i.natAbs<2^64 then .ok (.int (i^j.toNat)) M else .bad) P:=h;split at h
  ·next c=>exact⟨i,j,rfl,rfl,c,h⟩
  ·exact h.elim
 cases u<;>cases v<;>first|exact y _ _ rfl rfl|exact h.elim
set_option tactic.hygienic true in
def B9 {j:Int}(I:Inv X pins σ H s)(z:RelM fa X.K μ H M)(h1:Rep fa X.K μ H dx x)(h2:Rep fa X.K μ H (.int j) y)(F:RelV x v)(J:RelV y u)
 (h:ae (match fG M dx with|some x=>if x.length*j.toNat<=sz/\-(2^63)<=j/\j<2^63 then aS m (List.replicate j.toNat x).flatten M else .bad|none=>.bad) (bb fa X.K μ H Q)) :
 wpAny (model X.prog X.w) X.A (binaryOp .Mult v u) (EP X pins σ Q) X.xe s:=by
 cases e1:fG M dx with
 |none=>rw[e1] at h;exact h.elim
 | some xs=>
   rw[e1] at h;simp only at h;split at h
   ·next c=>
    obtain⟨a,L,rfl,E,B⟩:=hU z h1 e1;obtain⟨O,k⟩:=gr z (B.rep j.toNat) h;exact JL pins s σ H _ _ v u Q I F J {a,j,L,rfl,h2,E,c.2.1,c.2.2,by rw[B.length,<- dz];exact c.1,k}
   ·exact h.elim
end
end LD
namespace LD
open PySem PySem.Spec PyProof.Rows L2 PySem.Builtin
open PySem.Sem (wp)
def oN:fillsNumberSlot (.type "tuple") "mul"=pure false:=
 PySem.fillsNumberSlot_seq F.slot_tuple_mul.lookup `k F.slot_tuple_rmul.lookup `k
def tZ:seqRepeat? (.type "tuple")=pure (some (.builtin "tuple.__mul__")):=by
 unfold seqRepeat?;rw[PySem.seqSlot_of (name:="__mul__") F.slot_tuple_mul.lookup `k,PySem.seqSlot_of (name:="__rmul__") F.slot_tuple_rmul.lookup `k]
 rfl
def qz (a:Int)(t:Tok)(l:Addr)(items:Array Qw)(n:Nat)(dd:Option Addr)(sl:Array (Option Qw)) :
 Meets (Builtin.«int.__rmul__» {[.int a t,.ref l],[]}) (λ_ R s=>s.heap.get? l=some {cls:=.type "tuple",dict:=dd,data:=.seq items n,slots:=sl}/\R (.ok (.ret Value.notImplemented)) s):=
 .of_wp λprog w A R s h=>by obtain⟨j,g,d,tk,os⟩:=s;obtain⟨hl,h⟩:=h;wp_walk using wpAny_loadPart' hl;exact{_,rfl,h}
def xF {x:Int}(h:-(2^63)<=x)(h1:x<2^63):(decide (x < -2^63)||decide (x≥2^63))=false:=by
 rw[decide_eq_false `a,decide_eq_false `a];rfl
def qI (l:Addr)(items:Array Qw)(n:Nat)(dd:Option Addr)(sl:Array (Option Qw))(x:Int)(u:Tok)(j:-(2^63)<=x)(h1:x<2^63)(v:(items.isEmpty||x==1)=true) :
 Meets (Builtin.«tuple.__mul__» {[.ref l,.int x u],[]}) (λ_ R s=>s.heap.get? l=some {cls:=.type "tuple",dict:=dd,data:=.seq items n,slots:=sl}/\R (.ok (.ret (.ref l))) s):=
 .of_wp λprog w A R s h=>by
  obtain⟨y,g,d,tk,os⟩:=s;obtain⟨hl,h⟩:=h;have f1:=AutoSeq1.idx_int;wp_walk using wpAny_loadPart' hl
  refine wpAny_ite_false (by rw[xF j h1];rfl) ?_
  wp_walk using wpAny_loadPart' hl
  exact{_,rfl,h}
def qJ (l:Addr)(items:Array Qw)(n:Nat)(dd:Option Addr)(sl:Array (Option Qw))(x:Int)(u:Tok)(j:-(2^63)<=x)(h1:x<2^63)(y:(items.isEmpty||x==1)=false)(v:(decide (x<=0)||items.isEmpty)=true) :
 Meets (Builtin.«tuple.__mul__» {[.ref l,.int x u],[]}) (λ_ R s=>s.heap.get? l=some {cls:=.type "tuple",dict:=dd,data:=.seq items n,slots:=sl}/\R (.ok (.ret (.ref s.heap.objs.size))) {s with heap:=s.heap.push {cls:=Value.type "tuple",data:=Data.seq #[]},toks:=s.toks}):=
 .of_wp λprog w A R s h=>by
  obtain⟨z,g,d,tk,os⟩:=s;obtain⟨hl,h⟩:=h;have f1:=AutoSeq1.idx_int;wp_walk using wpAny_loadPart' hl
  refine wpAny_ite_false (by rw[xF j h1];rfl) ?_
  wp_walk using wpAny_loadPart' hl
  exact{_,rfl,h}
def qK (l:Addr)(items:Array Qw)(n:Nat)(dd:Option Addr)(sl:Array (Option Qw))(x:Int)(u:Tok)(j:-(2^63)<=x)(h1:x<2^63)(z:(items.isEmpty||x==1)=false)(v:(decide (x<=0)||items.isEmpty)=false)
 (hs:(items.size:Int)*x<=16777216) (y:(List.foldl (λx1 x2=>x1++x2) #[] (List.replicate x.toNat items)).size<=sizeLine) :
 Meets (Builtin.«tuple.__mul__» {[.ref l,.int x u],[]}) (λ_ R s=>s.heap.get? l=some {cls:=.type "tuple",dict:=dd,data:=.seq items n,slots:=sl}/\R (.ok (.ret (.ref s.heap.objs.size))) {s with heap:=s.heap.push {cls:=Value.type "tuple",data:=Data.seq (List.foldl (λx1 x2=>x1++x2) #[] (List.replicate x.toNat items))},toks:=s.toks}):=
 .of_wp λprog w A R s h=>by
  obtain⟨B,g,d,tk,os⟩:=s;obtain⟨hl,h⟩:=h;have f1:=AutoSeq1.idx_int;wp_walk using wpAny_loadPart' hl
  refine wpAny_ite_false (by rw[xF j h1];rfl) ?_
  wp_walk using wpAny_loadPart' hl
  refine wpAny_ite_false (decide_eq_false `a) ?_
  wp_walk using wpAny_loadPart' hl
  refine wpAny_ite_false (decide_eq_false (by unfold Tuple.tupleTooMany;rw[sizeLine_eq];simp;omega)) ?_
  wp_walk using wpAny_loadPart' hl
  exact{_,rfl,h}
section
variable{fa:Fa}{X:Cx}{μ:Mu}{H:Hp}{σ:L2.St}{pins:List (Addr×Obj)}{s:QA}{M:Mem}
def rJ (h:List Qw)(m:Nat):List.foldl (λx1 x2=>x1++x2) #[] (List.replicate m h.toArray)=(List.replicate m h).flatten.toArray:=by
 have:=foldl_rep h m [];rw[List.nil_append] at this;exact this
def GL:bL X (binaryOp .Mult) (λx y H Q=>∃l k xs,x=.ref l/\y=.int k/\dO X.K H l xs/\-(2^63)<=k/\k<2^63/\xs.length*k.toNat<=sz/\
 ((List.replicate k.toNat xs).flatten=xs->Q (.ref l) H)/\∀p,H p=none->Q (.ref p) (upd H p (.tup (List.replicate k.toNat xs).flatten))):=by
 intro pins s σ H x y v u Q I rx ry h;obtain⟨l,k,xs,rfl,rfl,Y,h1,h2,U,q1,q2⟩:=h;cases rx;obtain⟨t,rfl⟩:=ry;obtain⟨j,r,p,hzz⟩:=I.tuple Y;have hl:=r.length;obtain⟨⟨cls,L,data,sl⟩,ho,W,n,hd⟩:=id p;subst W hd;refine wpAny_binaryOp_repeat_ref `d {_,ho,rfl} (λs'=>typeIs_int s' k t) oN F.fills_int_mul F.slot_int_rmul tZ F.slot_int_index.lookup
  (call_meets F.slot_int_rmul (typeIs_int s k t) F.entry_int_rmul (F.args_int_rmul_2 _ _) (qz k t l j.toArray n L sl) {ho,rfl,{_,ho,rfl},?_})
 have new:∀(B:List Qw),Vals (List.replicate k.toNat xs).flatten B->EP X pins σ Q (.ref s.heap.objs.size) {s with heap:=s.heap.push {cls:=Value.type "tuple",data:=Data.seq B.toArray}}:=λB r'=>by
  refine{.ref s.heap.objs.size,_,I.laid (λb ob q=>Qu _ q) (Qy _) ?_,rfl,q2 _ (I.hok.fresh (Qy _))};exact{by rw[len_rep,Nat.mul_comm,<- dz];exact U,_,r',IsTup.new _ _}
 by_cases O:(j.toArray.isEmpty||k==1)=true
 ·refine call_meets F.slot_tuple_mul {_,ho,rfl} F.entry_tuple_mul (F.args_tuple_mul_2 _ _) (qI l j.toArray n L sl k t h1 h2 O) {ho,{.ref l,H,I,rfl,q1 ?_}};rcases Bool.or_eq_true_iff.mp O with z|z
  ·have e:j=[]:=by simpa using z
   subst e;have e2:=Sz.mp hl;subst e2;simp
  ·have e:k=1:=by simpa using z
   subst e;simp
 ·have E:(j.toArray.isEmpty||k==1)=false:=by simpa using O
  by_cases P:(decide (k<=0)||j.toArray.isEmpty)=true
  ·refine call_meets F.slot_tuple_mul {_,ho,rfl} F.entry_tuple_mul (F.args_tuple_mul_2 _ _) (qJ l j.toArray n L sl k t h1 h2 E P) {ho,new [] ?_};have hk:k<=0:=by
    rcases Bool.or_eq_true_iff.mp P with z|z
    ·simpa using z
    ·rw[z] at E;cases E
   have R:k.toNat=0:=`a
   rw[R];exact .nil
  ·have J:(decide (k<=0)||j.toArray.isEmpty)=false:=by simpa using P
   have hk:0<k:=by
    have:=(Bool.or_eq_false_iff.mp J).1;simpa using this
   have hs:(j.toArray.size:Int)*k<=16777216:=by
    have e1:(j.toArray.size:Int)*k=((xs.length*k.toNat:Nat):Int):=by
     rw[QB,<- hl,Int.natCast_mul,Int.toNat_of_nonneg `a]
    rw[e1];have:xs.length*k.toNat<=16777216:=U;omega
   have S:(List.foldl (λx1 x2=>x1++x2) #[] (List.replicate k.toNat j.toArray)).size<=sizeLine:=by
    rw[rJ,QB,len_rep,Nat.mul_comm,<- hl,<- dz];exact U
   refine call_meets F.slot_tuple_mul {_,ho,rfl} F.entry_tuple_mul (F.args_tuple_mul_2 _ _) (qK l j.toArray n L sl k t h1 h2 E J hs S) {ho,?_};rw[rJ];exact new _ (r.rep k.toNat)
set_option tactic.hygienic true in
def NR (m:Bool):bL X (binaryOp .Mult) (mr fa X.K m .mul):=by
 intro pins s σ H x y v u Q I L O h;obtain⟨μ,M,B,E,F,h1,h2,h⟩:=h;have U:∀i j,B=.int i->E=.int j->wpAny (model X.prog X.w) X.A (binaryOp .Mult v u) (EP X pins σ Q) X.xe s:=λi j e1 e2=>by
  subst e1 e2;have h:ae (if (-(2^64)<i/\i<2^64)\/(-(2^64)<j/\j<2^64) then .ok (.int (i*j)) M else .bad) (bb fa X.K μ H Q):=h;split at h
  ·next c=>exact JN pins s σ H x y v u Q I L O {i,j,h1,h2,c,aR F h rfl}
  ·exact h.elim
 have W:∀i j,B=.tup i->E=.int j->wpAny (model X.prog X.w) X.A (binaryOp .Mult v u) (EP X pins σ Q) X.xe s:=λi j e1 e2=>by
  subst e1 e2;have h:ae (if i.length*j.toNat<=sz/\-(2^63)<=j/\j<2^63 then .ok (.tup (List.replicate j.toNat i).flatten) M else .bad) (bb fa X.K μ H Q):=h;split at h
  ·next c=>
   obtain⟨a,R,e1,P,J⟩:=id h1;refine GL pins s σ H x y v u Q I L O {a,j,R,e1,h2,P,c.2.1,c.2.2,by rw[J.length];exact c.1,λz=>?_,hG F (J.rep j.toNat) h}
   refine aR F h {a,R,rfl,P,?_};have:=J.rep j.toNat;rw[z] at this;exact this
  ·exact h.elim
 have hl:∀j,E=.int j->ae (match fG M B with|some x=>if x.length*j.toNat<=sz/\-(2^63)<=j/\j<2^63 then aS m (List.replicate j.toNat x).flatten M else .bad|none=>.bad) (bb fa X.K μ H Q)->
  wpAny (model X.prog X.w) X.A (binaryOp .Mult v u) (EP X pins σ Q) X.xe s:=λj e1 S=>by
  subst e1;exact B9 I F h1 h2 L O S
 cases E with
 |int j=>cases B<;>first|exact U _ _ rfl rfl|exact W _ _ rfl rfl|exact hl _ rfl h
 |_=>cases B<;>exact h.elim
noncomputable def binOp:oA->Operator
 |.add=>.Add|.sub=>.Sub|.mul=>.Mult|.fdiv=>.FloorDiv|.mod=>.Mod|.pow=>.Pow
def NT (m:Bool):∀o:oA,bL X (binaryOp (binOp o)) (mr fa X.K m o)
 |.add=>NU m|.sub=>NP m|.mul=>NR m|.fdiv=>LG m|.mod=>NS m|.pow=>NQ m
end
end LD
namespace LD
open PySem PySem.Spec PyProof.Rows L2
section
variable{fa:Fa}{X:Cx}{μ:Mu}{H:Hp}{σ:L2.St}{pins:List (Addr×Obj)}{s:QA}{M:Mem}
def Kr (h:jT X r)(i:∀x y H Q,r' x y H Q->r x y H Q):jT X r':=λz j pins s σ H x y v u Q I B E q hs=>h z j pins s σ H x y v u Q I B E (i x y H Q q) hs
def rIdx (fa:Fa)(K:Qs):R2:=λx y H Q=>∃μ M h j d,RelM fa K μ H M/\Rep fa K μ H h x/\Rep fa K μ H j y/\bJ h j M=some d/\bb fa K μ H Q d M
def uI (n:Nat)(i:Int):LD.bY n i=L2.bY n i:=rfl
set_option tactic.hygienic true in
def EO:jT X (rIdx fa X.K):=Kr Kq λx y H Q h=>by
 obtain⟨μ,M,u,I,d,F,h1,h2,e,q⟩:=h;have gen:∀i,I=.int i->((bT M u).bind λE=>(LD.bY E.length i).bind λj=>E[j]?)=some d->Jr X.K x y H Q:=λi R O=>by
  subst R;clear e;have e:=O;clear O;cases e1:bT M u with
  |none=>rw[e1] at e;cases e
  | some E=>
    rw[e1,Option.bind_some] at e;obtain⟨a,L,rfl,B,r⟩:=i9 F h1 e1;cases e2:LD.bY E.length i with
    |none=>rw[e2] at e;cases e
    | some j=>
      rw[e2,Option.bind_some] at e;obtain⟨v,U,P⟩:=r.get e;have he:su L i=some v:=by
       unfold su;rw[r.length,<- uI,e2];exact U
      rcases B with B|B
      ·exact .inl {a,L,i,v,rfl,h2,B,he,aR F q P}
      ·exact .inr (.inl {a,L,i,v,rfl,h2,B,he,aR F q P})
 have str:∀z i,u=.str z->I=.int i->Jr X.K x y H Q:=λz i e1 e2=>by
  subst e1 e2;have e:(if z.cps.size<=sz then(LD.bY z.cps.size i).bind λj=>(z.cps[j]?).map λc=>D.str {#[c]} else none)=some d:=e;split at e
  ·next W=>
   cases e2:LD.bY z.cps.size i with
   |none=>rw[e2] at e;cases e
   | some j=>
     rw[e2,Option.bind_some] at e;cases J:z.cps[j]? with
     |none=>rw[J] at e;cases e
     | some c=>
       rw[J] at e;have S:=Qz e;subst S;refine .inr (.inr {z,i,c,h1,h2,by rw[<- dz];exact W,?_,aR F q rfl})
       unfold su;rw[show z.cps.toList.length=z.cps.size by simp,<- uI,e2]
       simpa using J
  ·cases e
 cases I with
 |int i=>cases u<;>first|exact str _ _ rfl rfl|exact gen _ rfl e
 |_=>cases u<;>cases (e)
def IV (h:ni X r)(i:∀x lo hi H Q,r' x lo hi H Q->r x lo hi H Q):ni X r':=λpins s σ H x v y z lo hi sl Q I u hs pl j q=>h pins s σ H x v y z lo hi sl Q I u hs pl j (i x lo hi H Q q)
noncomputable def pI:D->Option (Option Int)
 |.non=>some none
 |.int i=>some (some i)
 |_=>none
def tX (n d:Nat)(x:D):LD.aO n d x=(pI x).map (HT.aO n d):=by
 cases x<;>rfl
def tP:ni X (λx lo hi H Q=>∃a xs,x=.ref a/\dO X.K H a xs/\(HT.aO xs.length 0 lo=0/\HT.aO xs.length xs.length hi=xs.length)/\Q (.ref a) H):=by
 intro pins s σ H x v U W lo hi sl Q I R hs pl P h;obtain⟨a,xs,rfl,O,J,q⟩:=h;cases R;obtain⟨j,r,u,S⟩:=I.tuple O;refine{"tuple",_,Rk.lookup,u.typeIs,?_};have y:j.toArray.size=xs.length:=by rw[QB];exact r.length.symm
 rw[<- y] at J;obtain⟨os,F,E,L⟩:=id hs;have B:s.TypeIs (.ref sl) "slice":=⟨os,F,E⟩;unfold getItem;try with_reducible refine tqo ?_
 first|refine tqa (tqb ?_)|skip
 refine tqa (wpAny_sequenceKey u.typeIs `d ?_)
 refine tqa (wpAny_callSpecial?_slot u.typeIs Rk
  (wpAny_call_entry Rk u.typeIs entry_tuple_getitem ?_ (args_tuple_getitem _ _)))
 show wpAny _ _ (Builtin.Tuple.tupleItemsOf (.ref a) >>= _) _ _ s;refine tqa (tupleItemsOf_ u ?_);refine tqa (wpAny_typeOf B ?_);rw[if_pos `d]
 refine tqa (HT.i7 hs pl P ?_);have z:(((HT.aO j.toArray.size 0 lo:Nat):Int)==0&&(1:Int)==1&&(HT.aO j.toArray.size j.toArray.size hi-HT.aO j.toArray.size 0 lo)==j.toArray.size)=true:=by
  rw[J.1,J.2];simp
 show wpAny _ _ (if (((HT.aO j.toArray.size 0 lo:Nat):Int)==0&&(1:Int)==1&&(HT.aO j.toArray.size j.toArray.size hi-HT.aO j.toArray.size 0 lo)==j.toArray.size)=true then _ else _) _ _ s;rw[if_pos z];refine tqa ?_;refine tqa (wpAny_typeOf u.typeIs ?_);refine tqb ?_;rw[if_pos `d]
 exact tqa (wpAny_rule (tqb {_,rfl,tqb {.ref a,H,I,rfl,q}}))
def OS (fa:Fa)(K:Qs)(m:Bool):V->Option Int->Option Int->Hp->VK->Prop:=λx lo u H Q=>∃μ M j dl h,RelM fa K μ H M/\Rep fa K μ H j x/\pI dl=some lo/\pI h=some u/\ae (cj m j dl h M) (bb fa K μ H Q)
def Gd (m:Bool):ni X (OS fa X.K m):=by
 refine IV (Gh.or (IU.or tP)) λx lo u H Q h=>?_;obtain⟨μ,M,z,dl,E,B,h1,e1,e2,h⟩:=h;have gen:ae (match cv M z with
  | some xs=>match LD.aO xs.length 0 dl,LD.aO xs.length xs.length E with
    |some l,some h=>aS m (cut xs l h) M
    |_,_=>.bad
  |none=>.bad) (bb fa X.K μ H Q)->Jm X.K x lo u H Q:=λh=>by
  cases e:cv M z with
  |none=>rw[e] at h;exact h.elim
  | some xs=>
    rw[e] at h;simp only[tX,e1,e2,Option.map_some] at h;obtain⟨a,j,rfl,v,r⟩:=bN B h1 e;have hl:=r.length;obtain⟨_,k⟩:=gr B ((r.drop (HT.aO xs.length 0 lo)).take (HT.aO xs.length xs.length u-HT.aO xs.length 0 lo)) h;refine{a,j,rfl,v,?_};unfold qX;rw[hl];exact k
 have tup:∀xs,z=.tup xs->Jl X.K x lo u H Q\/∃a xs,x=.ref a/\dO X.K H a xs/\(HT.aO xs.length 0 lo=0/\HT.aO xs.length xs.length u=xs.length)/\Q (.ref a) H:=λxs e=>by
  subst e;have h:ae (match LD.aO xs.length 0 dl,LD.aO xs.length xs.length E with
   |some l,some h=>.ok (.tup (cut xs l h)) M
   |_,_=>.bad) (bb fa X.K μ H Q):=h
  simp only[tX,e1,e2,Option.map_some] at h;obtain⟨a,j,rfl,v,r⟩:=h1;have hl:=r.length;by_cases y:HT.aO j.length 0 lo=0/\HT.aO j.length j.length u=j.length
  ·refine .inr {a,j,rfl,v,y,?_};rw[hl] at y;have F:cut xs (HT.aO xs.length 0 lo) (HT.aO xs.length xs.length u)=xs:=by rw[y.1,y.2];simp[cut]
   rw[F] at h;exact aR B h ⟨a,j,rfl,v,r⟩
  ·refine .inl {a,j,rfl,v,y,?_};have k:=hG B ((r.drop (HT.aO xs.length 0 lo)).take (HT.aO xs.length xs.length u-HT.aO xs.length 0 lo)) h;unfold qX;rw[hl];exact k
 cases z<;>first|exact .inr (tup _ rfl)|exact .inl (gen h)
def oI (fa:Fa)(K:Qs)(f:xh):List V->Hp->VK->Prop:=λj H Q=>∃μ M h,RelM fa K μ H M/\aG fa K μ H h j/\ae (di f h M) (bb fa K μ H Q)
def pC {d:D}{vs:List V}{K:Qs}(h:aG fa K μ H [d] vs):∃v,vs=[v]/\Rep fa K μ H d v:=by
 obtain⟨v,r,rfl,h1,h2⟩:=h;obtain rfl:r=[]:=h2;exact⟨v,rfl,h1⟩
set_option tactic.hygienic true in
def MY:cf X (.builtin "len") (oI fa X.K .len):=jn (vc.or vb) λB H Q h=>by
 obtain⟨μ,M,E,j,r,h⟩:=h
 match E,r,h with
 |[],_,h=>exact h.elim
 |d::_::_,_,h=>cases d<;>exact h.elim
 | [d],r,h=>
   obtain⟨v,rfl,y⟩:=pC r;have gen:ae (match bT M d with|some xs=>.ok (.int xs.length) M|none=>.bad) (bb fa X.K μ H Q)->∃p u,[v]=[.ref p]/\(cQ X.K H p u\/dO X.K H p u)/\Q (.int u.length) H:=λh=>by
    cases e:bT M d with
    |none=>rw[e] at h;exact h.elim
    | some xs=>
      rw[e] at h;obtain⟨a,B,rfl,F,r⟩:=i9 j y e;refine{a,B,rfl,F,?_};rw[r.length];exact aR j h rfl
   have str:∀x,d=.str x->∃z,[v]=[V.str z]/\z.length<=sizeLine/\Q (.int z.length) H:=λx e=>by
    subst e;have h:ae (if x.cps.size<=sz then .ok (.int x.cps.size) M else .bad) (bb fa X.K μ H Q):=h;split at h
    ·next c=>exact{x,by rw[show v=.str x from y],by rw[<- dz];exact c,aR j h rfl}
    ·exact h.elim
   cases d<;>first|exact .inr (str _ rfl)|exact .inl (gen h)
def Hh:cf X (.type "tuple") (oI fa X.K .tuple):=jn sF λu H Q h=>by
 obtain⟨μ,M,E,y,r,h⟩:=h
 match E,r,h with
 |[],_,h=>exact h.elim
 |d::_::_,_,h=>cases d<;>exact h.elim
 | [d],r,h=>
   obtain⟨v,rfl,B⟩:=pC r;have gen:ae (match cv M d with|some xs=>.ok (.tup xs) M|none=>.bad) (bb fa X.K μ H Q)->∃p j,[v]=[.ref p]/\((cQ X.K H p j/\∀l,H l=none->Q (.ref l) (upd H l (.tup j)))\/(dO X.K H p j/\Q (.ref p) H)):=λh=>by
    cases e:cv M d with
    |none=>rw[e] at h;exact h.elim
    | some xs=>
      rw[e] at h;obtain⟨a,u,rfl,z,r⟩:=bN y B e;exact{a,u,rfl,.inl {z,hG y r h}}
   have tup:∀x,d=.tup x->∃p j,[v]=[.ref p]/\((cQ X.K H p j/\∀l,H l=none->Q (.ref l) (upd H l (.tup j)))\/(dO X.K H p j/\Q (.ref p) H)):=λx e=>by
    subst e;obtain⟨a,u,rfl,z,r⟩:=id B;exact{a,u,rfl,.inr {z,aR y h B}}
   cases d<;>first|exact tup _ rfl|exact gen h
def KI (m:Bool):cf X (.type "list") (oI fa X.K (.list m)):=jn va λu H Q h=>by
 obtain⟨μ,M,y,j,r,h⟩:=h
 match y,r,h with
 |[],_,h=>exact h.elim
 |_::_::_,_,h=>exact h.elim
 | [d],r,h=>
   obtain⟨v,rfl,B⟩:=pC r;have h:ae (match bT M d with|some xs=>aS m xs M|none=>.bad) (bb fa X.K μ H Q):=h
   cases e:bT M d with
   |none=>rw[e] at h;exact h.elim
   | some xs=>
     rw[e] at h;obtain⟨a,u,rfl,z,r⟩:=i9 j B e;obtain⟨_,k⟩:=gr j r h;exact⟨a,u,rfl,z,k⟩
end
section
variable{fa:Fa}{X:Cx}{μ:Mu}{H:Hp}{σ:L2.St}{pins:List (Addr×Obj)}{s:QA}{M:Mem}
set_option tactic.hygienic true in
def OB (hM:RelM fa X.K μ H M)(h:Rep fa X.K μ H d v)(e:jX M d=some k):Dm X.K v H k:=by
 cases d with
 |non=>obtain rfl:v=.non:=h;exact(Qz e).symm
 |bl b=>obtain rfl:v=.bl b:=h;exact(Qz e).symm
 |int i=>obtain rfl:v=.int i:=h;exact(Qz e).symm
 | str x=>
   obtain rfl:v=.str x:=h;have e:(if x.cps.size<=sz then some (x.cps.size != 0) else none)=some k:=e;split at e
   ·next c=>
    refine{by rw[<- dz];exact c,?_}
    rw[<- Qz e];show(x.cps.size != 0)=((x.cps.size:Int) != 0);rw[RX];simp
   ·cases e
 | tup ds=>
   obtain⟨a,vs,rfl,hq,r⟩:=h;refine .inr (.inl {vs,hq,?_});rw[<- Qz e];have:=r.length;cases vs<;>cases ds<;>simp_all
 | lst ds=>
   obtain⟨a,vs,rfl,hq,r⟩:=bN hM h rfl;refine .inl {vs,hq,?_};rw[<- Qz e];have:=r.length;cases vs<;>cases ds<;>simp_all
 | frz ds=>
   obtain⟨a,vs,rfl,hq,r⟩:=bN hM h rfl;refine .inl {vs,hq,?_};rw[<- Qz e];have:=r.length;cases vs<;>cases ds<;>simp_all
 | cell c=>
   have e:(M[c]?).map (λds=>!ds.isEmpty)=some k:=e;cases e1:M[c]? with
   |none=>rw[e1] at e;cases e
   | some ds=>
     rw[e1] at e;obtain⟨a,vs,rfl,hq,r⟩:=bN hM h e1;refine .inl {vs,hq,?_};rw[<- Qz e];have:=r.length;cases vs<;>cases ds<;>simp_all
 |fn f=>cases e
 |exc y p=>cases e
def zP:∀{ds:List D}{bs:List Bool}{vs:List V}{us:List Qw},boolsOf ds=some bs->aG fa X.K μ H ds vs->Vals vs us->PyProof.Rows.LSm.BoolsAre us bs:=by
 intro ds;induction ds with
 | nil=>
   intro bs vs us e h r;obtain rfl:vs=[]:=h;cases r;cases e;exact .nil
 | cons d ds j=>
   intro bs vs us e h r;obtain⟨v,vr,rfl,h1,h2⟩:=h;cases r with
   | cons r1 r2=>
     cases d with
     | bl b=>
       have e:(boolsOf ds).map (b::·)=some bs:=e;cases e1:boolsOf ds with
       |none=>rw[e1] at e;cases e
       | some u=>
         rw[e1] at e;have e2:=Qz e;subst e2;obtain rfl:v=.bl b:=h1;obtain rfl:_=Value.bool b:=r1;exact .cons b (j e1 h2 r2)
     |_=>cases e
def q8:cf X (.builtin "all") (λxs H Q=>∃μ ds bs p vs,xs=[.ref p]/\X.calm=true/\cQ X.K H p vs/\aG fa X.K μ H ds vs/\boolsOf ds=some bs/\Q (.bl (bs.all id)) H):=by
 intro pins s σ H xs us Q I r h;obtain⟨μ,ds,bs,p,vs,rfl,J,L,O,E,q⟩:=h;obtain⟨u,rfl,R⟩:=vals1 r;cases R;obtain⟨j,P,pl,Y⟩:=I.list L;have B:=zP E O P;have y:=pl.lt;refine call_all_walk (wpAny_pyIter_list pl.isList ?_);refine{s.heap.objs.size,[s.heap.objs.size,p],[s.heap.objs.size],j.toArray.size,_,_,λi=>(bs[i]?).getD true,rfl,Walks.list (A:=X.A.in1) (I.ok.hd J) _ p (Q6 y) j.toArray,
  {{_,QY _ rfl,rfl,rfl},pl.isList.push _},λi v s' U S F z=>?_,λW tk hk=>?_}
 ·obtain⟨b,e,rfl⟩:=B.get i v (by simpa using F)
  simp only[e,Option.getD_some] at z;exact tqp z
 ·have e:((List.range j.toArray.size).all λi=>(bs[i]?).getD true)=bs.all id:=by
   rw[QB,B.length];exact PyProof.Rows.LSm.range_all bs
  rw[e];exact{.bl _,H,I.kept (PyProof.Rows.LSm.kept_iter hk),rfl,q}
def B8:∀{ds:List D}{bs:List Int}{vs:List V}{us:List Qw},intsOf ds=some bs->aG fa X.K μ H ds vs->Vals vs us->IntsAre us bs:=by
 intro ds;induction ds with
 | nil=>
   intro bs vs us e h r;obtain rfl:vs=[]:=h;cases r;cases e;exact .nil
 | cons d ds j=>
   intro bs vs us e h r;obtain⟨v,vr,rfl,h1,h2⟩:=h;cases r with
   | cons r1 r2=>
     cases d with
     | int b=>
       have e:(intsOf ds).map (b::·)=some bs:=e;cases e1:intsOf ds with
       |none=>rw[e1] at e;cases e
       | some u=>
         rw[e1] at e;have e2:=Qz e;subst e2;obtain rfl:v=.int b:=h1;obtain⟨t,rfl⟩:=r1;exact .cons b t (j e1 h2 r2)
     |_=>cases e
def sG:cf X (.builtin "sum") (λxs H Q=>∃μ ds bs p vs,xs=[.ref p]/\X.calm=true/\cQ X.K H p vs/\aG fa X.K μ H ds vs/\intsOf ds=some bs/\Q (.int bs.sum) H):=by
 intro pins s σ H xs U Q I r h;obtain⟨μ,ds,ns,p,vs,rfl,B,E,J,z,q⟩:=h;obtain⟨u,rfl,O⟩:=vals1 r;cases O;obtain⟨F,L,pl,S⟩:=I.list E;have v:=B8 z J L;obtain⟨xs,y⟩:=v.allInts.items;have j:=y ▸ pl.isList;refine sum_intListG (I.ok.hd B) j λR tk P hk=>?_;have e1:ns=xs.toList.map (·.1):=by
  rw[<- nums_intItems,<- y];exact(v.numsOf).symm
 have e2:preSum (numAt xs) xs.size=ns.sum:=by
  rw[preSum_eq,Q3 `s,e1]
 rw[e2];exact{.int _,H,I.kept hk,⟨P,rfl⟩,q}
def Na (z:X.calm=true):cf X (.builtin "all") (oI fa X.K .all):=jn (q8) λu H Q h=>by
 obtain⟨μ,M,y,j,r,h⟩:=h
 match y,r,h with
 |[],_,h=>exact h.elim
 |d::_::_,_,h=>exact h.elim
 | [d],r,h=>
   obtain⟨v,rfl,E⟩:=pC r;have h:ae (match cv M d with|some xs=>(match boolsOf xs with|some bs=>.ok (.bl (bs.all id)) M|none=>.bad)|none=>.bad) (bb fa X.K μ H Q):=h
   cases e:cv M d with
   |none=>rw[e] at h;exact h.elim
   | some xs=>
     rw[e] at h;simp only at h;cases e2:boolsOf xs with
     |none=>rw[e2] at h;exact h.elim
     | some bs=>
       rw[e2] at h;obtain⟨a,u,rfl,B,r⟩:=bN j E e;exact{μ,xs,bs,a,u,rfl,z,B,r,e2,aR j h rfl}
def MW (z:X.calm=true):cf X (.builtin "sum") (oI fa X.K .sum):=jn (sG) λu H Q h=>by
 obtain⟨μ,M,y,j,r,h⟩:=h
 match y,r,h with
 |[],_,h=>exact h.elim
 |d::_::_,_,h=>exact h.elim
 | [d],r,h=>
   obtain⟨v,rfl,E⟩:=pC r;have h:ae (match cv M d with|some xs=>(match intsOf xs with|some bs=>.ok (.int bs.sum) M|none=>.bad)|none=>.bad) (bb fa X.K μ H Q):=h
   cases e:cv M d with
   |none=>rw[e] at h;exact h.elim
   | some xs=>
     rw[e] at h;simp only at h;cases e2:intsOf xs with
     |none=>rw[e2] at h;exact h.elim
     | some bs=>
       rw[e2] at h;obtain⟨a,u,rfl,B,r⟩:=bN j E e;exact{μ,xs,bs,a,u,rfl,z,B,r,e2,aR j h rfl}
noncomputable def tyName:Ty->String
 |.int=>"int" | .bool=>"bool" | .str=>"str" | .tuple=>"tuple" | .list=>"list" | .own _=>""
def N1:D->String
 |.non=>"NoneType" | .bl _=>"bool" | .int _=>"int" | .str _=>"str" | .tup _=>"tuple" | _=>"list"
def Ma (t:Ty)(d:D)(b:Bool)(j:∀c,t≠.own c)(e:gQ t d=some b):PySem.W.kitOne X.K (.type (N1 d)) (.type (tyName t))=some b:=by
 cases t with
 |own c=>exact absurd rfl (j c)
 |_=>cases d<;>first|(cases (show(none:Option Bool)=some b from e))|(have h:=Qz e;subst h;(first|rfl|decide +kernel))
def BA (J:RelM fa X.K μ H M)(h:Rep fa X.K μ H d v)(e:gQ t d=some b)(I:Inv X pins σ H s)(r:RelV v u)
 (j:PySem.W.kitOne X.K (.type (N1 d)) c=some b) (q:∀tk,Q (.bool b) {s with toks:=tk}):wpAny (model X.prog X.w) X.A (call (.builtin "isinstance") [u,c]) Q X.xe s:=by
 cases d with
 |non=>obtain rfl:v=.non:=h;exact jK I r .non j q
 |bl x=>obtain rfl:v=.bl x:=h;exact jK I r (.bl x) j q
 |int x=>obtain rfl:v=.int x:=h;exact jK I r (.int x) j q
 |str x=>obtain rfl:v=.str x:=h;exact jK I r (.str x) j q
 | tup F=>
   obtain⟨a,O,rfl,B,_⟩:=h;obtain rfl:u=Value.ref a:=r;obtain⟨E,L,⟨o,h1,h2,_⟩,_⟩:=I.tuple B;exact RC PySem.W.kitx_tuple I.kIn ⟨o,h1,h2⟩ j (λz=>nomatch z) q
 | lst F=>
   obtain⟨a,O,rfl,B,_⟩:=bN J h rfl;obtain rfl:u=Value.ref a:=r;obtain⟨E,L,⟨o,n,h1,h2,_⟩,_⟩:=I.list B;exact RC PySem.W.kitx_list I.kIn ⟨o,h1,h2⟩ j (λz=>nomatch z) q
 | frz F=>
   obtain⟨a,O,rfl,B,_⟩:=bN J h rfl;obtain rfl:u=Value.ref a:=r;obtain⟨E,L,⟨o,n,h1,h2,_⟩,_⟩:=I.list B;exact RC PySem.W.kitx_list I.kIn ⟨o,h1,h2⟩ j (λz=>nomatch z) q
 | cell k=>
   obtain⟨a,rfl,hk⟩:=h;obtain⟨F,O,_,B,_⟩:=J.mu_lt hk;obtain rfl:u=Value.ref a:=r;obtain⟨E,L,⟨o,n,h1,h2,_⟩,_⟩:=I.list (cQ.of B);exact RC PySem.W.kitx_list I.kIn ⟨o,h1,h2⟩ j (λz=>nomatch z) q
 |fn f=>cases e
 |exc y p=>cases e
def Mo (fa:Fa)(K:Qs)(t:Ty):List V->Hp->VK->Prop:=λh H Q=>∃μ M d v b,h=[v,.ty (tyName t)]/\RelM fa K μ H M/\Rep fa K μ H d v/\gQ t d=some b/\Q (.bl b) H
def KJ (t:Ty)(y:∀c,t≠.own c):cf X (.builtin "isinstance") (Mo fa X.K t):=by
 intro pins s σ H xs B Q I r h;obtain⟨μ,M,d,v,b,rfl,j,z,e,q⟩:=h;obtain⟨u,w,rfl,r1,r2⟩:=vals2 r;obtain rfl:w=Value.type (tyName t):=r2;exact BA j z e I r1 (Ma t d b y e) λtk=>{.bl b,H,I.tok _,rfl,q}
end
section
variable{fa:Fa}{X:Cx}
abbrev DE (fa:Fa)(X:Cx)(e:Expr)(g:Env->Mem->Res D):Prop:=PE X e (tE fa X.K g)
abbrev DT (fa:Fa)(X:Cx)(e:Expr)(g:Env->Mem->Res Bool):Prop:=PT X e (tT fa X.K g)
abbrev DW (fa:Fa)(X:Cx)(e:Expr)(g:Env->Mem->Res Bool):Prop:=PW X e (tT fa X.K g)
abbrev DA (fa:Fa)(X:Cx)(es:List Expr)(g:Env->Mem->Res (List D)):Prop:=PA X es (tA fa X.K g)
abbrev DS (fa:Fa)(X:Cx)(st:Stmt)(g:Env->Mem->Res Fl):Prop:=PS X st (tF fa X g)
abbrev nk (fa:Fa)(X:Cx)(st:List Stmt)(g:Env->Mem->Res Fl):Prop:=kG X st (tF fa X g)
variable{a b d:Expr}{ga gb gd:Env->Mem->Res D}{pos:Pos}
def Nk {i:Nat}(B:X.N[i]?=some x)(E:w8 X.env.scope x)(hd:(x==("__debug__":Str))=false)(j:(x==("__classdict__":Str))=false) :
 DE fa X (.Name x pos) (λZ M=>bV M (Z[i]?.getD none)):=bC (zZ B E hd j) λI H Q ⟨F,Z,M,y,z,h⟩=>by
 obtain⟨d,e,w⟩:=kn h;have u:Z[i]?=some (some d):=by
  cases q:Z[i]? with
  |none=>rw[q] at e;cases e
  |some o=>rw[q] at e;simp at e;rw[e]
 obtain⟨v,h1,h2⟩:=y.at' i d u;exact{v,h1,aR z w h2}
def iX (h:PE X e (tC v))(r:∀μ H,Rep fa X.K μ H dc v):DE fa X e (λ_ M=>.ok dc M):=bC h (by rintro z H Q ⟨μ,y,M,u,j,h⟩;exact aR j h (r μ H))
def Nv {i:Int}:DE fa X (.Constant (.int i) j pos) (λ_ M=>.ok (.int i) M):=iX uc λ_ _=>rfl
def PJ:DE fa X (.Constant (.bool i) j pos) (λ_ M=>.ok (.bl i) M):=iX Mx λ_ _=>rfl
def Nm:DE fa X (.Constant (.str i) j pos) (λ_ M=>.ok (.str i) M):=iX JD λ_ _=>rfl
def Nq:DE fa X (.Constant .none j pos) (λ_ M=>.ok .non M):=iX JH λ_ _=>rfl
def t2 {Q:Type}{f:D->D->Mem->Res Q}{P:Q->Mem->Prop}{R:V->V->Hp->Prop}(S:bt fa X.K μ H σ Z)(U:RelM fa X.K μ H M)
 (h:ae ((ga Z M).bind λx M=>(gb Z M).bind λy M=>f x y M) P)
 (k:∀x y B v u z j,Ext μ H j z->bt fa X.K j z σ Z->RelM fa X.K j z B->Rep fa X.K j z x v->Rep fa X.K j z y u->ae (f x y B) P->R v u z) :
 tE fa X.K ga σ H λv L=>tE fa X.K gb σ L λu z=>R v u z:=
 t1 S U h λx M1 v L Y W E I r1 h1=>t1 E I h1 λy B u z j O F J r2 h2=>k x y B v u z j (W.trans O) F J (r1.ext O) r2 h2
def NA (m:Bool)(o:oA)(J:DE fa X a ga)(L:DE fa X b gb):DE fa X (.BinOp a (binOp o) b pos) (λZ M=>(ga Z M).bind λx M=>(gb Z M).bind λy M=>fK m o x y M):=
 bC (Mv (NT m o) J L) (by rintro S H Q ⟨R,Z,M,E,I,h⟩;exact t2 E I h λx y B v u P z O F j r1 r2 h2=>{z,B,x,y,j,r1,r2,jb h2 O})
def pM {P:D->Mem->Prop}(h:ae ((bV M r).bind λb M=>.ok (.bl b) M) P):∃b,r=some b/\P (.bl b) M:=by
 obtain⟨b,j,e,q⟩:=aJ h;cases r with
 |none=>cases e
 |some u=>cases e;exact{_,rfl,q}
def Ny (O:Rm X)(o:jB)(J:DE fa X a ga)(L:DE fa X b gb)(hm:behindInMarks (fi o) b=false) :
 DE fa X (.Compare a [fi o] [b] pos) (λZ M=>(ga Z M).bind λx M=>(gb Z M).bind λy M=>(bV M (bx o x y M)).bind λb M=>.ok (.bl b) M):=
 bC (qE (n4 O o) J L hm) λU H Q ⟨S,Z,M,E,I,h⟩=>t2 E I h λx y B v u R z P F j r1 r2 h2=>by
  obtain⟨b,e,q⟩:=pM h2;exact{z,B,x,y,b,j,r1,r2,e,aR j (q.ext P) rfl}
def K1 (W:Rm X)(o:jB)(S:DE fa X a ga)(U:DE fa X b gb)(hm:behindInMarks (fi o) b=false) :
 DT fa X (.Compare a [fi o] [b] pos) (λZ M=>((ga Z M).bind λx M=>(gb Z M).bind λy M=>(bV M (bx o x y M)).bind λb M=>.ok (.bl b) M).bind λx M=>bV M (jX M x)):=
 kg (qC (n4 W o) S U hm) λσ H Q ⟨μ,Z,M,O,R,h⟩=>by
  obtain⟨z,I,e,q⟩:=aJ h;have L:ae ((ga Z M).bind λx M=>(gb Z M).bind λy M=>(bV M (bx o x y M)).bind λb M=>.ok (.bl b) M) (λd M=>d=z/\M=I):=by rw[e];exact⟨rfl,rfl⟩
  refine t2 O R L λx y F v u E B Y P j r1 r2 h2=>?_;obtain⟨b,e1,e2,J⟩:=pM h2;subst e2 J;exact{B,F,x,y,b,j,r1,r2,e1,b,rfl,q E B Y j}
def FO (F:∀Z M x M',g Z M=.ok x M'->∃k,x=.bl k)(h:tT fa X.K (λZ M=>(g Z M).bind λx M=>bV M (jX M x)) σ H Q) :
 tE fa X.K g σ H (λx u=>∃k,x=.bl k/\Q k u):=by
 obtain⟨L,Z,M,B,E,h⟩:=h;obtain⟨x,z,e,q⟩:=aJ h;obtain⟨k,rfl⟩:=F Z M x z e;refine{L,Z,M,B,E,?_};rw[e];intro v y j J I r1;obtain rfl:v=.bl k:=r1;exact{k,rfl,q y j J I}
def EN {o O:jB}{L:Env->Mem->Res D}(S:L2.St)(H:Hp)(Q:VK):tE fa X.K (λZ M=>(ga Z M).bind λx M=>(gb Z M).bind λy M=>(bV M (bx o x y M)).bind λk M=>
 if k then(L Z M).bind λz M=>(bV M (bx O y z M)).bind λb M=>.ok (.bl b) M else .ok (.bl false) M) S H Q->tB (gK fa X.K o) (gK fa X.K O) (tE fa X.K ga) (tE fa X.K gb) (tE fa X.K L) S H Q:=λ⟨μ,Z,M,hE,hM,h⟩=>by
 refine t2 hE hM h λx y U v u H2 I P F j r1 r2 h2=>?_;obtain⟨k,M3,e,q⟩:=aJ h2;cases E:bx o x y U with
 |none=>rw[E] at e;cases e
 | some k'=>
   rw[E] at e;cases e;refine{I,_,x,y,k,j,r1,r2,E,k,rfl,?_};cases k with
   |false=>exact aR j (bb.ext q P) rfl
   | true=>
     refine t1 F j q λz W w H4 J R hE4 B r4 h4=>?_;obtain⟨b,Y,q4⟩:=pM h4;exact{J,W,y,z,b,B,r2.ext R,r4,Y,aR B (q4.ext (P.trans R)) rfl}
def Nz (j:Rm X)(o h:jB)(u:DE fa X a ga)(v:DE fa X b gb)(B:DE fa X d gc)(hm:lastMarks [fi o,fi h] [b,d]=false) :
 DE fa X (.Compare a [fi o,fi h] [b,d] pos) (λZ M=>(ga Z M).bind λx M=>(gb Z M).bind λy M=>(bV M (bx o x y M)).bind λk M=>
  if k then(gc Z M).bind λz M=>(bV M (bx h y z M)).bind λb M=>.ok (.bl b) M else .ok (.bl false) M):=bC (Ck (n4 j o) (n4 j h) u v B hm) EN
def Co {x:D}(h:((bV M r).bind λb M=>Res.ok (.bl b) M)=.ok x M'):∃k,x=.bl k:=by
 cases r with
 |none=>cases h
 |some b=>cases h;exact⟨b,rfl⟩
def fj {j u:Type}{r:Res j}{f:j->Mem->Res u}{x:u}(h:r.bind f=.ok x M):∃a M1,r=.ok a M1/\f a M1=.ok x M:=by
 cases r with
 |ok a M1=>exact⟨a,M1,rfl,h⟩
 |err=>cases h
 |bad=>cases h
def K5 (v:Rm X)(o j:jB){u:Env->Mem->Res D}(B:DE fa X a ga)(E:DE fa X b gb)(F:DE fa X d u)(hm:lastMarks [fi o,fi j] [b,d]=false) :
 DT fa X (.Compare a [fi o,fi j] [b,d] pos) (λZ M=>((ga Z M).bind λx M=>(gb Z M).bind λy M=>(bV M (bx o x y M)).bind λk M=>
  if k then(u Z M).bind λz M=>(bV M (bx j y z M)).bind λb M=>.ok (.bl b) M else .ok (.bl false) M).bind λx M=>bV M (jX M x)):=
 kg (Ce (n4 v o) (n4 v j) B E F hm) λI H Q h=>EN I H _ (FO (λZ M x J e=>by
  obtain⟨S,L,_,e⟩:=fj e;obtain⟨U,O,_,e⟩:=fj e;obtain⟨k,P,_,e⟩:=fj e;cases k with
  |false=>cases e;exact{_,rfl}
  | true=>
    obtain⟨W,R,_,e⟩:=fj e;exact Co e) h)
def Nr (B:DE fa X a ga):DE fa X (.UnaryOp .USub a pos) (λZ M=>(ga Z M).bind λx M=>match x with|.int i=>.ok (.int (-i)) M|_=>.bad):=
 bC (Ea yW B) λO H Q ⟨L,Z,M,u,z,h⟩=>t1 u z h λx J v I F E y j r1 h1=>by
  cases x with
  |int i=>exact{i,r1,aR j (bb.ext h1 E) rfl}
  |_=>exact h1.elim
def NC {rest:List Expr}(I:DE fa X a ga)(J:DE fa X (.BoolOp .And (b::rest) pos) gb):DE fa X (.BoolOp .And (a::b::rest) pos) (λZ M=>(ga Z M).bind λx M=>match x with
 |.bl true=>gb Z M
 |.bl false=>.ok (.bl false) M
 |_=>.bad):=
 bC (JJ I J) λP H Q ⟨O,Z,M,E,F,h⟩=>t1 E F h λx B v L y z u j r1 h1=>by
  cases x with
  | bl k=>
    refine{k,r1,?_};cases k with
    |true=>exact{y,Z,B,u,j,jb h1 z}
    |false=>exact aR j (bb.ext h1 z) rfl
  |_=>exact h1.elim
def PH {rest:List Expr}(I:DE fa X a ga)(J:DE fa X (.BoolOp .Or (b::rest) pos) gb):DE fa X (.BoolOp .Or (a::b::rest) pos) (λZ M=>(ga Z M).bind λx M=>match x with
 |.bl true=>.ok (.bl true) M
 |.bl false=>gb Z M
 |_=>.bad):=
 bC (Ms I J) λP H Q ⟨O,Z,M,E,F,h⟩=>t1 E F h λx B v L y z u j r1 h1=>by
  cases x with
  | bl k=>
    refine{k,r1,?_};cases k with
    |true=>exact aR j (bb.ext h1 z) rfl
    |false=>exact{y,Z,B,u,j,jb h1 z}
  |_=>exact h1.elim
def EV (h:DE fa X a ga):DE fa X (.BoolOp op [a] pos) ga:=JF h
def Np (B:DE fa X a ga):DE fa X (.UnaryOp .Not a pos) (λZ M=>(ga Z M).bind λx M=>match x with|.bl k=>.ok (.bl (!k)) M|_=>.bad):=
 bC (JG B) λO H Q ⟨L,Z,M,u,z,h⟩=>t1 u z h λx J v I F E y j r1 h1=>by
  cases x with
  |bl k=>exact{k,r1,aR j (bb.ext h1 E) rfl}
  |_=>exact h1.elim
variable{ta tb:Env->Mem->Res Bool}
def Hm (h:DT fa X a ta):DW fa X (.BoolOp .And [a] pos) ta:=Gy h
def KW (h:DT fa X a ta):DW fa X (.BoolOp .Or [a] pos) ta:=Jt h
def N7 {Q:Bool->Hp->Prop}(x:Ext μ H μ' H')(h:ae b' λb M'=>∀u j,Ext μ H j u->RelM fa X.K j u M'->Q b u):ae b' λb M'=>∀u j,Ext μ' H' j u->RelM fa X.K j u M'->Q b u:=
 aT h λb M q u j y m=>q u j (x.trans y) m
def KY {rest:List Expr}(I:DT fa X a ta)(J:DW fa X (.BoolOp .And (b::rest) pos) tb):DW fa X (.BoolOp .And (a::b::rest) pos) (λZ M=>(ta Z M).bind λk M=>if k then tb Z M else .ok false M):=
 zR (Ju I J) λO H Q ⟨L,Z,M,E,F,h⟩=>zk E F h λk B z u y v j h1=>by
  cases k with
  |true=>exact{u,Z,B,v,j,N7 y h1}
  |false=>exact h1 z u y j
def Nd {rest:List Expr}(I:DT fa X a ta)(J:DW fa X (.BoolOp .Or (b::rest) pos) tb):DW fa X (.BoolOp .Or (a::b::rest) pos) (λZ M=>(ta Z M).bind λk M=>if k then .ok true M else tb Z M):=
 zR (Mq I J) λO H Q ⟨L,Z,M,E,F,h⟩=>zk E F h λk B z u y v j h1=>by
  cases k with
  |true=>exact h1 z u y j
  |false=>exact{u,Z,B,v,j,N7 y h1}
def KZ (E:DT fa X a ta):DT fa X (.UnaryOp .Not a pos) (λZ M=>(ta Z M).bind λk M=>.ok (!k) M):=
 kg (Jw E) (by rintro L H Q ⟨J,Z,M,y,B,h⟩;exact zk y B h λk I v u F z j h1=>h1 v u F j)
def C3 (F:DE fa X a ga)(he:∀whole,isTrue a X.env whole=(do let v <- whole;standAt a.pos;holding [v] (truthy v))):DT fa X a (λZ M=>(ga Z M).bind λx M=>bV M (jX M x)):=
 kg (Cd F he) λO H Q ⟨L,Z,M,z,E,h⟩=>t1 z E h λx J v y u I B j r1 h1=>by
  obtain⟨k,e,q⟩:=kn h1;exact{k,OB j r1 e,q y u I j}
def Nu (J:DT fa X c gc)(F:DE fa X a ga)(I:DE fa X b gb):DE fa X (.IfExp c a b pos) (λZ M=>(gc Z M).bind λk M=>if k then ga Z M else gb Z M):=
 bC (ud J F I) λP H Q ⟨O,Z,M,B,E,h⟩=>zk B E h λk y L v z j u h1=>by
  cases k with
  |true=>exact{v,Z,y,j,u,jb h1 z}
  |false=>exact{v,Z,y,j,u,jb h1 z}
def Nw (J:DE fa X a ga)(L:DE fa X b gb)(hs:gF b):DE fa X (.Subscript a b pos) (λZ M=>(ga Z M).bind λx M=>(gb Z M).bind λy M=>bV M (bJ x y M)):=
 bC (pH EO J L hs) λS H Q ⟨R,Z,M,E,I,h⟩=>t2 E I h λx y B v u P z O F j r1 r2 h2=>by
  obtain⟨d,e,q⟩:=kn h2;exact{z,B,x,y,d,j,r1,r2,e,q.ext O}
def DO (fa:Fa)(X:Cx)(e:Option Expr)(z:Bool)(g:Env->Mem->Res D):Prop:=PO X e λB H Q=>∃u v M,bt fa X.K u H B v/\RelM fa X.K u H M/\ae (g v M) λd y=>∃o,e9 z d=true/\pI d=some o/\∀j h,Ext u H h j->RelM fa X.K h j y->Q o j
def Hu:DO fa X none false (λ_ M=>.ok .non M):=λh s v H Q I ⟨u,z,M,y,j,o,_,e,k⟩=>by
 cases e;exact GH h s v H Q I (k H u .refl j)
def Ht (E:DE fa X a ga):DO fa X (some a) true ga:=λj s L H Q I ⟨F,J,M,z,B,h⟩=>GG E j s L H Q I {F,J,M,z,B,aT h λd O ⟨o,p,e,k⟩ v y u x m r=>by
 cases d with
 |int i=>cases e;exact{i,r,k y u x m}
 |_=>cases p}
def part_of {d:D}(h:e9 hp d=true):∃o,pI d=some o:=by
 cases hp<;>cases d<;>first|exact{_,rfl}|cases h
set_option tactic.hygienic true in
def Nn (m hl hh:Bool){lo hi:Option Expr}(ha:DE fa X a ga)(F:DO fa X lo hl gl)(E:DO fa X hi hh gh):DE fa X (.Subscript a (.Slice lo hi none p2) pos)
 (λZ M=>(ga Z M).bind λx M=>(gl Z M).bind λl M=>(gh Z M).bind λh M=>if e9 hl l&&e9 hh h then cj m x l h M else .bad):=
 bC (Cj (Gd m) ha F E) λσ H Q ⟨μ,Z,M,hE,hM,h⟩=>t1 hE hM h λx U v H1 J x1 j y r1 h1=>by
  obtain⟨l,W,e2,h2⟩:=aJ h1;obtain⟨u,Y,e3,h3⟩:=aJ h2;split at h3
  ·next c=>
   rw[QD] at c;obtain⟨ol,P⟩:=part_of c.1;obtain⟨ou,R⟩:=part_of c.2;refine{J,Z,U,j,y,?_};rw[e2];refine{ol,c.1,P,λH2 L I z=>{L,Z,W,j.ext I,z,?_}};rw[e3];exact{ou,c.2,R,λH3 O S B=>{O,Y,x,l,u,B,(r1.ext I).ext S,P,R,jb h3 ((x1.trans I).trans S)}}
  ·exact h3.elim
def Lr:DA fa X [] (λ_ M=>.ok [] M):=Aa eD (by rintro z H Q ⟨u,y,M,v,j,h⟩;exact h [] H u .refl j rfl)
def HB (P:DE fa X a ga)(hs:DA fa X es gs)(I:starEach (a::es) X.env=(false,eval a X.env)::starEach es X.env) :
 DA fa X (a::es) (λZ M=>(ga Z M).bind λx M=>(gs Z M).bind λxs M=>.ok (x::xs) M):=
 Aa (cS P hs I) (by rintro σ H Q ⟨μ,Z,M,J,O,h⟩;exact t1 J O h λx W v U S R j u r1 h1=>rD j u h1 λxs Y B F z E L y r2 h2=>h2 (v::B) F z (R.trans E) y {v,B,rfl,r1.ext E,r2})
set_option tactic.hygienic true in
def Nl (hs:DA fa X es gs):DE fa X (.Tuple es k pos) (λZ M=>(gs Z M).bind lA):=
 bC (JC hs) λL H Q ⟨J,Z,M,u,y,h⟩=>rD u y h λxs F I E B z v j r1 h1=>by
  unfold lA at h1;split at h1
  ·next c=>exact{by rw[r1.length,<- dz];exact c,hG j r1 (bb.ext h1 z)}
  ·exact h1.elim
def Nt (m:Bool)(hs:DA fa X es gs):DE fa X (.List es pos) (λZ M=>(gs Z M).bind (aS m)):=
 bC (JI hs) λL H Q ⟨J,Z,M,u,y,h⟩=>rD u y h λxs F I E B z v j r1 h1=>by
  obtain⟨c,k⟩:=gr j r1 (jb h1 z);exact{by rw[r1.length,<- dz];exact c,k}
end
def rZ (o:Obj)(f:Array Qw->Array Qw):(o.mapFields f).dict=o.dict:=by
 obtain⟨c,d,h,sl⟩:=o;cases h<;>rfl
section
variable{P:Rj}{w:Q8}{M:Model}{A:R6}{E:Qw->QA->Prop}{base:Heap}{env:RY}{outer:List RY}{L a C:Addr}{dx:Option Addr}{New:Addr->Prop}{H:Hp}{s:QA}{Q:Unit->QA->Prop}
def vR (hfr:A.frames=some (env::outer))(hl:s.heap.FunFrames base (env::outer))(hf:env.frame=some L)
 (he:s.heap.get? a=some oe) (hd:oe.data=.fields vs) (hsz:1<vs.size)
 (h:∀S T oT ts,(∀b o,b∉gU (env::outer)->b≠a->s.heap.get? b=some o->S.get? b=some o)->(∀b o,b≠a->s.heap.get? b=some o->∃sl,S.get? b=some {o with slots:=sl})->s.heap.objs.size<=T->T≠a->
  S.get? a=some (oe.mapFields (·.setIfInBounds 1 (.ref T)))->S.get? T=some oT->oT.data=.fields ts->ts[3]?=some .none->Q () {s with heap:=S}) :
 wpAny M A (do let f <- frameOf env;let pl <- entryPlaceOf L had;let b <- EntryCells.newEntry head f .none (rawInt L) .none pl;setField (.ref a) 1 b) (λ_ s'=>wpAny M A (setFlight (.ref a) none) Q E s') E s:=by
 have U:a∉gU (env::outer):=λhm=>by
  obtain⟨_,o,ho,hnf⟩:=hl.mem hm;rw[he] at ho;cases ho;exact hnf vs hd
 refine tqa (wpAny_frameOf_fun hfr hl hf λj v=>?_);refine tqa (wpAny_entryPlaceOf λpl W=>?_);refine tqa (wpAny_newObj_type ?_ (W.sizeOk5 _ _ _ _ _));have F:j.get? a=some oe:=(v.2.1 a U).trans he;generalize ho:({cls:=.type "traceback",dict:=none,data:=.fields ([head,.ref L,.none,rawInt L,.none]++(if pl.isEmpty then List.replicate 6 Value.none else pl)).toArray}:Obj)=o;have O:o.data=.fields ([head,.ref L,.none,rawInt L,.none]++(if pl.isEmpty then List.replicate 6 Value.none else pl)).toArray:=by rw[<- ho]
 have I:=Qu o F;refine wpAny_setField I hd hsz ?_;have R:=Ry (QW F);have B:=Su hd (·.setIfInBounds 1 (Value.ref j.objs.size));have J:=R7 (Obj.mapFields (·.setIfInBounds 1 (Value.ref j.objs.size))) I (Obj.isFreed_of_fields B);have y:=(R3 (j.push o) (Obj.mapFields (·.setIfInBounds 1 (Value.ref j.objs.size))) (RR R)).trans (QY j (Obj.isFreed_of_fields O));refine tqa (tqf J B (x:=.ref j.objs.size) (by simp[hsz]) ?_)
 rw[if_pos `s]
 refine wpAny_setField y O (by simp only[QB,Qt,Rw,SJ]<;>omega) ?_
 have keep:∀b u,b≠a->j.get? b=some u->(((j.push o).update a (Obj.mapFields (·.setIfInBounds 1 (Value.ref j.objs.size)))).update j.objs.size (Obj.mapFields (·.setIfInBounds 3 ((none:Option Addr).elim Value.none λf=>rawInt f)))).get? b=some u:=λb u z Y=>by
  have hbT:=Ry (QW Y);rw[R3 _ _ hbT,R3 _ _ (RR z)];exact Qu _ Y
 refine h _ j.objs.size _ _ (λb u Y z q=>keep b u z ((v.2.1 b Y).trans q)) (λb u z q=>?_) (Nat.le_of_eq v.1.symm) R ?_ (R7 _ y (Obj.isFreed_of_fields (Su O _))) (Su O _) ?_
 ·obtain⟨sl,e⟩:=v.2.2 b u q;exact{sl,keep b _ z e}
 ·rw[R3 _ _ R];exact J
 ·first|(simp;done)|(rcases W with rfl|⟨_,_,_,_,_,_,_,rfl⟩<;>simp)
def GR (hfr:A.frames=some (env::outer))(hl:s.heap.FunFrames base (env::outer))(hf:env.frame=some L)(hF:oz New C dx a s.heap H)(hN:∀b,s.heap.objs.size<=b->New b)(hok:fc P w H s.heap)(J:∀b∈gU (env::outer),H b=none)
 (h:∀B ch,(∀b∈ch,New b/\H b=none/\∃o vs,s.heap.get? b=some o/\o.data=.fields vs)->Un (gU (env::outer)) ch H H s.heap B->fc P w H B->oz New C dx a B H->Q () {s with heap:=B}) :
 wpAny M A (noteFrame (.ref a) env) (λ_ s1=>wpAny M A (setFlight (.ref a) none) Q E s1) E s:=by
 obtain⟨na,ha,oe,vs,he,hc,Y,hd,tr⟩:=hF;have U:∀B ch,(∀b∈ch,New b/\H b=none/\∃o vs,s.heap.get? b=some o/\o.data=.fields vs)->(∀b o,b∉gU (env::outer)->b∉ch->s.heap.get? b=some o->B.get? b=some o)->(∀b o,b∉ch->s.heap.get? b=some o->∃sl,B.get? b=some {o with slots:=sl})->oz New C dx a B H->Q () {s with heap:=B}:=λB ch W keep slot fl=>by
  refine h B ch W {λb o q _ j F=>keep b o j F q,λb o q _ _ F=>slot b o F q,λ_ _ _ n _=>n,λb o q F=>let⟨sl,e⟩:=slot b o F q;{_,e},λ_ _ e=>e,λ_ _ _ e=>e,λb ps e=>{#[],by rw[e];simp}} (λb u e=>(hok b u e).stay (λc v hc q=>?_) (λ_ q=>q) λ_ _ q=>q) fl
  have nn:H c≠none:=by rcases hc with z|z<;>(intro z';first|(rw[z,e] at z';cases z')|(rw[z] at z';cases z'))
  exact keep c v (λz=>nn (J c z)) (λz=>nn (W c z).2.1) q
 unfold noteFrame;simp only[hf];rcases tr with h1|⟨T,oT,ts,h1,hTa,nT,hT0,hT,I,h3⟩
 ·refine tqa (tqf he hd h1 ?_);rw[if_neg `d]
  refine vR hfr hl hf he hd (Sl.mp h1).1 λB T oT ts k1 k2 R k4 k5 k6 k7 k8=>?_;refine U B [a] (λb j=>?_) (λb o j F q=>k1 b o j (λz=>F (by simp[z])) q) (λb o F q=>k2 b o (λz=>F (by simp[z])) q) {na,ha,_,_,k5,?_,?_,Su hd _,.inr {T,oT,ts,by simp[(Sl.mp h1).1],k4,hN _ R,hok.fresh R,k6,k7,k8}}
  ·rcases QN.mp j with rfl
   exact⟨na,ha,oe,vs,he,hd⟩
  ·rw[Obj.cls_mapFields];exact hc
  ·rw[rZ];exact Y
 ·refine tqa (tqf he hd h1 ?_);rw[if_pos `s]
  refine tqa (tqf hT I h3 ?_);rw[if_neg (by simp[rawInt])]
  refine tqa (wpAny_setField hT I (Sl.mp h3).1 ?_);have y:∀b,b≠T->(s.heap.update T (Obj.mapFields (·.setIfInBounds 3 Value.none))).get? b=s.heap.get? b:=λb j=>R3 _ _ (RR j);have S:∀b o,s.heap.get? b=some o->(∀vs,o.data≠.fields vs)->b≠T:=λb o j O q=>by
   rw[q,hT] at j;cases j;exact O ts I
  have hz:(s.heap.update T (Obj.mapFields (·.setIfInBounds 3 Value.none))).objs.size=s.heap.objs.size:=Heap.size_after_update ..;refine vR hfr (hl.of_keeps λb o j O=>{o,(y b (S b o j O)).trans j,rfl}) hf ((y a (RR hTa)).trans he) hd (Sl.mp h1).1 λB T' oT' ts' k1 k2 R k4 k5 k6 k7 k8=>?_;have R:s.heap.objs.size<=T':=by rw[<- hz];exact R
  refine U B [a,T] (λb j=>?_) (λb o j F q=>k1 b o j (λz=>F (by simp[z])) ((y b (λz=>F (by simp[z]))).trans q)) (λb o F q=>k2 b o (λz=>F (by simp[z])) ((y b (λz=>F (by simp[z]))).trans q)) {na,ha,_,_,k5,?_,?_,Su hd _,.inr {T',oT',ts',by simp[(Sl.mp h1).1],k4,hN _ R,hok.fresh R,k6,k7,k8}}
  ·rcases Q9.mp j with rfl|j
   ·exact⟨na,ha,oe,vs,he,hd⟩
   ·rcases QN.mp j with rfl
    exact⟨nT,hT0,oT,ts,hT,I⟩
  ·rw[Obj.cls_mapFields];exact hc
  ·rw[rZ];exact Y
end
def iG (P:Rj)(w:Q8):vH:=λouter H s E e s'=>∃a C dx H',e=.ref a/\s'.os=s.os/\AllBare s'.gens/\Un (gU outer) [] H H' s.heap s'.heap/\fc P w H' s'.heap/\oz (λb=>s.heap.get? b=none) C dx a s'.heap H'/\E (.ref C) dx H'
def oz.imp (f:oz New C dx a h H)(i:∀b,New b->New' b):oz New' C dx a h H:=by
 obtain⟨u,j,o,F,h1,h2,h3,h4,B⟩:=f;refine{i _ u,j,o,F,h1,h2,h3,h4,?_};rcases B with t|⟨T,v,ts,t1,t2,y,z⟩
 ·exact .inl t
 ·exact .inr {T,v,ts,t1,t2,i _ y,z}
section
variable{P:Rj}{w:Q8}{K:Qs}{mg:Str->Option Qw}{base:Heap}{N:List Str}{qual:Str}{scope:Scope}{f:Addr}{cd:Qw}{A:R6}{outer:List RY}{s:QA}{H:Hp}{E:XK}
def CC (I:Inv (gx (iG P w) P w K mg base N qual scope f cd A outer s H E) pins σ H' s')(W:oz (yH (gx (iG P w) P w K mg base N qual scope f cd A outer s H E)) C dx a s'.heap H')(U:E (.ref C) dx H') :
 (gx (iG P w) P w K mg base N qual scope f cd A outer s H E).xe (.ref a) s':=by
 have F:=I.stack;have J:=I.sz;have Y:∀b o,s.heap.get? b=some o->b∈gU (envOfC qual scope s.heap.objs.size f cd::outer)->b∈gU outer:=λb o q y=>by
  rcases Q9.mp (y) with e|e
  ·exact absurd (QW q) (by rw[e];exact RO _)
  ·exact e
 unfold gx;refine tqa (GR (New:=λb=>s.heap.get? b=none) I.ok.frames F rfl (W.imp λb z=>z.1) (λb z=>Heap.get?_none_of_le (QC J z)) I.hok I.stkFree λh' R B u hok fl=>?_);have v:∀b o,s.heap.get? b=some o->b∉R:=λb o q z=>by have:=(B b z).1;rw[q] at this;cases this
 have h:=I.base;refine{a,C,dx,H',rfl,I.os,I.bare,{λb o q n y j=>?_,λb o q n y j=>?_,h.free,λb o q j=>?_,h.tups,h.frzs,h.tbls},hok,fl,U}
 ·exact u.keep b o (h.keep b o q n y j) (h.free b o q n j) (λz=>y (Y b o q z)) (v b o q)
 ·obtain⟨sl,e⟩:=h.slot b o q n y j;obtain⟨O,S⟩:=u.any e (h.free b o q n j) (v b o q);exact⟨O,S⟩
 ·obtain⟨o',e⟩:=h.there b o q j;exact u.there b o' e (v b o q)
end
section
variable{X:Cx}{pins:List (Addr×Obj)}{σ:L2.St}{H H':Hp}{s s':QA}{E:XK}{e:Qw}
def rT (I:Inv X pins σ H s)(v:X.ex=[])(h:iG X.prog X.w X.stack H s E e s'):∃a C dx H',e=.ref a/\Inv X pins σ H' s'/\oz (yH X) C dx a s'.heap H'/\E (.ref C) dx H':=by
 obtain⟨a,C,dx,H',rfl,os,bare,un,hok,fl,q⟩:=h;refine{a,C,dx,H',rfl,I.call' os un hok bare (λb z=>absurd z `s),fl.imp λb z=>{?_,λp u e=>?_},q}
 ·cases e:X.s₀.heap.get? b with
  |none=>rfl
  | some o=>
    obtain⟨y,j⟩:=I.base.there b o e (by rw[v];simp)
    rw[z] at j;cases j
 ·have:=(I.pin p (RE _ u)).1;rw[e,z] at this;cases this
end
def fB {h:Type}(r:Res h)(k:h->Mem->Prop)(j:D->Mem->Prop):Prop:=match r with
 |.ok a M=>k a M
 |.err x M=>j x M
 |.bad=>False
def pL {j:Type}{r:Res j}{k:j->Mem->Prop}{u:D->Mem->Prop}(h:ae r k):fB r k u:=by
 cases r with
 |ok a M=>exact h
 |err=>exact h.elim
 |bad=>exact h
def E4 (fa:Fa)(K:Qs)(μ:Mu)(H:Hp)(E:XK)(x:D)(M':Mem):Prop:=∀C dx c p H' h,Ext μ H h H'->RelM fa K h H' M'->x=.exc c p->fa (f7 c)=some C->vB H' c dx p->E (.ref C) dx H'
def Eb:Passes (iG P w) X E0:=λ_ _ _ _ _ _ _ h=>let{_,_,_,_,_,_,_,_,_,_,z}:=h;z.elim
def D4 (fa:Fa)(K:Qs)(k:Nat)(call:List D->Mem->Res D):Sp:=λu H Q E=>u.length=k/\∃h M j,RelM fa K h H M/\aG fa K h H j u/\fB (call j M) (bb fa K h H Q) (E4 fa K h H E)
def g6 (fa:Fa)(P:Rj)(w:Q8)(K:Qs)(mg:Str->Option Qw)(base:Heap)(n:Nat)(f:Nat)(call:List D->Mem->Res D):Prop:=
 (∀h M,call h M=.bad)\/∃(ad:Addr) (j:FuncData) (ps:List Str),fa f=some ad/\PySem.W.keepIn K (.ref ad)=true/\Binds K j ps []/\(∀h M,h.length≠ps.length->call h M=.bad)/\lW P w K mg base (iG P w) (2*n+4) ad j ps (D4 fa K ps.length call)/\((fa (500+f)).isSome=true->Binds K j ps [.none])
section
variable{fa:Fa}{X:Cx}{a b d:Expr}{ga gb gd:Env->Mem->Res D}{pos p:Pos}{es:List Expr}{gs:Env->Mem->Res (List D)}{n:Nat}
def A6 {call:List D->Mem->Res D}{r:Res (List D)}(j:∀ds M,call ds M=.bad)(h:ae (r.bind λds M=>call ds M) P):False:=by
 obtain⟨ds,M,_,q⟩:=aJ h;rw[j] at q;exact q
def sd {call:List D->Mem->Res D}(v:bt fa X.K μ H σ Z)(z:RelM fa X.K μ H M)(h:ae ((gs Z M).bind λds M=>call ds M) (bb fa X.K μ H Q))
 (hk:∀ds M1,ds.length≠k->call ds M1=.bad):D2 (D4 fa X.K k call) [] E0 (tA fa X.K gs) σ H Q:=by
 refine rD v z h λds M1 F E u B y j r1 h1=>?_;rw[Sb];refine{?_,u,M1,ds,j,r1,pL (jb h1 B)};rw[r1.length];by_cases hl:ds.length=k
 ·exact hl
 ·rw[hk ds M1 hl] at h1;exact h1.elim
def Ly {call:List D->Mem->Res D}(C:g6 fa X.prog X.w X.K X.mg X.base n f call)(hr:du (2*n+4) X.A)(E:Gl X x)(hm:∀ad,fa f=some ad->X.mg x=some (.ref ad))(hs:DA fa X (a::es) gs)
 (j:(x==("__debug__":Str))=false) (he:starEach (a::es) X.env=(false,eval a X.env)::starEach es X.env) (u:(backTo pos (starEach es X.env)).any (·.1)=false) :
 DE fa X (.Call (.Name x p) (a::es) [] pos) (λZ M=>(gs Z M).bind λds M=>call ds M):=by
 rcases C with B|⟨ad,O,ps,h1,h2,h3,h4,F,_⟩
 ·exact(by rintro z s L H Q I ⟨J,Z,M,v,y,h⟩;exact(A6 B h).elim)
 ·exact bC (GJ F hr E (hm ad h1) h2 h3 .nil Eb hs j he u) (by rintro L H Q ⟨J,Z,M,v,y,h⟩;exact sd v y h h4)
def HF {i:Nat}{x:Str}{call:Nat->List D->Mem->Res D}(C:∀f,g6 fa X.prog X.w X.K X.mg X.base n f (call f))(hr:du (2*n+4) X.A)(hN:X.N[i]?=some x)(hv:w8 X.env.scope x)(hs:DA fa X (a::es) gs)
 (hd:(x==("__debug__":Str))=false) (z:(x==("__classdict__":Str))=false) (he:starEach (a::es) X.env=(false,eval a X.env)::starEach es X.env) (B:(backTo pos (starEach es X.env)).any (·.1)=false) :
 DE fa X (.Call (.Name x p) (a::es) [] pos) (λZ M=>match Z[i]?.getD none with|some (.fn f)=>(gs Z M).bind λds M=>call f ds M|_=>.bad):=by
 rintro y s R H Q I ⟨μ,Z,M,P,hM,h⟩;dsimp only at h;cases e:Z[i]?.getD none with
 |none=>rw[e] at h;exact h.elim
 | some df=>
   cases df with
   | fn f=>
     rw[e] at h;have e':Z[i]?=some (some (.fn f)):=by
      cases q:Z[i]? with
      |none=>rw[q] at e;cases e
      |some o=>rw[q] at e;simp at e;rw[e]
     obtain⟨v,E,J⟩:=P.at' i _ e';obtain⟨ad,rfl,j⟩:=J;rcases C f with hb|⟨Y,fd,ps,h1,h2,h3,h4,F,_⟩
     ·exact(A6 hb h).elim
     ·rcases j with j|⟨j,_⟩<;>rw[j] at h1<;>cases h1
      refine wpAny_Call_Name_kw (aP (zZ hN hv hd z y s R H (λv S=>v=.ref ad/\S=H) I {_,E,rfl,rfl}) λu s1 ⟨v,U,L,r1,e1,e2⟩=>?_);subst e1 e2;obtain rfl:u=Value.ref ad:=r1;refine PySem.W.callWith_K L.ok.mod.kin h2 (aP (hs pos y s1 R U _ L (sd P hM h h4)) λus s2 ⟨vs,H2,O,r,q⟩=>{O.kIn,?_}) he B;exact zO F hr h3 .nil Eb O r q
   |_=>rw[e] at h;exact h.elim
def yk (f:xh){id:String}(I:cf X (.builtin id) (oI fa X.K f))(J:Gl X x)(hm:X.mg x=none)(L:bootBuiltins x=some (.builtin id))(hs:DA fa X (a::es) gs)(hn:x≠"__name__")(u:(x==("__debug__":Str))=false)
 (he:starEach (a::es) X.env=(false,eval a X.env)::starEach es X.env) (v:(backTo pos (starEach es X.env)).any (·.1)=false):DE fa X (.Call (.Name x p) (a::es) [] pos) (λZ M=>(gs Z M).bind λds M=>di f ds M):=
 bC (hV I J hm L hs hn u he v) (by rintro U H Q ⟨S,Z,M,B,F,h⟩;exact rD B F h λds z R P y O E j r1 h1=>{y,z,ds,j,r1,jb h1 O})
def AR (f:xh)(I:cf X (.type T) (oI fa X.K f))(J:Gl X x)(hm:X.mg x=none)(L:bootBuiltins x=some (.type T))(hs:DA fa X (a::es) gs)(hn:x≠"__name__")(u:(x==("__debug__":Str))=false)
 (he:starEach (a::es) X.env=(false,eval a X.env)::starEach es X.env) (v:(backTo pos (starEach es X.env)).any (·.1)=false):DE fa X (.Call (.Name x p) (a::es) [] pos) (λZ M=>(gs Z M).bind λds M=>di f ds M):=
 bC (rN I J hm L hs hn u he v) (by rintro U H Q ⟨S,Z,M,B,F,h⟩;exact rD B F h λds z R P y O E j r1 h1=>{y,z,ds,j,r1,jb h1 O})
def Lu (t:Ty)(R:∀c,t≠.own c)(O:DE fa X a ga)(P:Gl X "isinstance")(hm:X.mg "isinstance"=none)(S:bootBuiltins "isinstance"=some (.builtin "isinstance"))(y:Gl X x)(z:X.mg x=none)(B:bootBuiltins x=some (.type (tyName t)))
 (hn:x≠"__name__") (u:(x==("__debug__":Str))=false)
 (he:starEach [a,.Name x p1] X.env=(false,eval a X.env)::starEach [.Name x p1] X.env):DE fa X (.Call (.Name "isinstance" p2) [a,.Name x p1] [] pos) (λZ M=>(ga Z M).bind λx M=>(bV M (gQ t x)).bind λb M=>.ok (.bl b) M):=
 bC (hV (KJ t R) P hm S (cS O (cS (GK y z B (v:=.ty (tyName t)) rfl hn u) eD `r) he) `d `d he `r) λσ H Q ⟨Y,Z,M,I,L,h⟩=>t1 I L h λx F v W E U J j r1 h1=>by
  obtain⟨b,e,q⟩:=pM h1;exact{E,F,x,v,b,rfl,j,r1,e,aR j (q.ext U) rfl}
def gT (fa:Fa)(K:Qs)(t:fW):TG:=λv z H Q=>∃u y M d h,bt fa K u H z y/\RelM fa K u H M/\Rep fa K u H d v/\b4 t d y=some h/\∀j,bt fa K u H j h->Q j H
def ub (h:PG X tg g)(i:∀v y H Q,g' v y H Q->g v y H Q):PG X tg g':=λj s y H v u Q I r q=>h j s y H v u Q I r (i v y H Q q)
def wd (h:vF X tg g)(i:∀v y H Q,g' v y H Q->g v y H Q):vF X tg g':=λj s y H v u Q I r q=>h j s y H v u Q I r (i v y H Q q)
def Hz (u:X.N.Nodup)(hi:X.N[i]?=some x)(y:Loc X.env.scope x)(hf:X.fn x=true\/X.env.scope.names.lookup x=some .local):PG X (.Name x pos) (gT fa X.K (.one i)):=
 ub (qD u hi y hf) λv I H Q ⟨E,F,M,d,z,j,B,r,e,k⟩=>by
  have h:=Qz e;subst h;exact k _ (j.set r)
def Kx (fa:Fa)(K:Qs)(l:List Nat):w9:=λz B H Q=>∃u y M v h,bt fa K u H B y/\RelM fa K u H M/\aG fa K u H v z/\cg l v y=some h/\∀j,bt fa K u H j h->Q j H
inductive iT (X:Cx):List Nat->List Expr->Prop
 |nil:iT X [] []
 |cons {i:Nat}{x:Str}{p:Pos}{l:List Nat}{ns:List Expr} (hi:X.N[i]?=some x) (hx:Loc X.env.scope x) (hf:X.fn x=true\/X.env.scope.names.lookup x=some .local) (r:iT X l ns):iT X (i::l) (.Name x p::ns)
set_option tactic.hygienic true in
def iT.each (h:iT X l ns):(assignEach ns X.env).length=l.length/\(assignEach ns X.env).findIdx? (·.1)=none:=by
 induction h with
 |nil=>exact⟨rfl,rfl⟩
 | cons u v hf r j=>
   rename_i i x p l ns;have e:assignEach (.Name x p::ns) X.env=(false,assign (.Name x p) X.env)::assignEach ns X.env:=rfl;rw[e];refine{by simp[j.1],?_}
   rw[List.findIdx?_cons];simp[j.2]
def uW (I:X.N.Nodup)(h:iT X l ns):vF X ns (Kx fa X.K l):=by
 induction h with
 | nil=>
   refine wd wc ?_;rintro B R H Q ⟨E,P,M,j,u,y,z,r,e,k⟩;cases j with
   | nil=>
     obtain rfl:B=[]:=r;have F:=Qz e;subst F;exact{rfl,k _ y}
   |cons=>cases e
 | cons J L hf r O=>
   refine wd (oM (qD I J L hf) O `r) ?_;rintro B R H Q ⟨E,P,M,j,u,y,z,r,e,k⟩
   cases j with
   |nil=>cases e
   | cons d j=>
     obtain⟨v,vr,rfl,r1,r2⟩:=r;exact{v,vr,rfl,E,_,M,j,u,y.set r1,z,r2,e,k}
noncomputable def iA:∀{l:List Nat}{ds:List D}{Z ρ1:Env},cg l ds Z=some ρ1->ds.length=l.length
 |[],[],_,_,_=>rfl
 |_::_,[],_,_,h=>by cases h
 |[],_::_,_,_,h=>by cases h
 | _::l,_::ds,_,_,h=>by
   have:=iA (ds:=ds) h;simp[this]
def Lp (E:X.calm=true)(B:X.N.Nodup)(h:iT X l ns):PG X (.Tuple ns k pos) (gT fa X.K (.tup l)):=
 ub (ua E (uW B h) h.each.1 h.each.2) λv O H Q ⟨J,L,M,d,j,y,z,r,e,k⟩=>by
  cases d with
  | tup u=>
    obtain⟨a,I,rfl,F,r⟩:=r;exact{a,I,rfl,F,by rw[r.length];exact iA e,J,L,M,u,j,y,z,r,e,k}
  |_=>cases e
set_option tactic.hygienic true in
def vg {d:D}(h:b4 (.two j l) d Z=some ρ1):∃e ds,d=.tup [e,.tup ds]/\cg l ds (Z.set j (some e))=some ρ1:=by
 unfold b4 at h;split at h
 ·next e=>cases e
 ·next e=>cases e
 ·next e=>cases e;exact{_,_,rfl,h}
 ·cases h
 ·cases h
def Lo (E:X.calm=true)(B:X.N.Nodup){ns:List Expr}(hi:X.N[i]?=some x)(R:Loc X.env.scope x)(hf:X.fn x=true\/X.env.scope.names.lookup x=some .local)(h:iT X l ns):PG X (.Tuple [.Name x px,.Tuple ns k2 p2] k pos) (gT fa X.K (.two i l)):=
 ub (ua E (oM (qD B hi R hf) (oM (ua E (uW B h) h.each.1 h.each.2) wc))) λv σ H Q ⟨Y,Z,M,d,y,L,O,r,e,k⟩=>by
  obtain⟨I,J,rfl,e⟩:=vg e;obtain⟨a,vs,rfl,P,S,U,rfl,r0,v1,u,rfl,r1,r2⟩:=r;obtain rfl:u=[]:=r2;obtain⟨b,W,rfl,j,F⟩:=r1;exact{a,_,rfl,P,rfl,S,_,rfl,.ref b,[],rfl,b,W,rfl,j,by rw[F.length];exact iA e,Y,Z.set i (some I),M,J,y,L.set r0,O,F,e,λz h1=>{rfl,k z h1}}
end
section
variable{fa:Fa}{X:Cx}{a b d:Expr}{ga gb gd:Env->Mem->Res D}{pos p:Pos}{es:List Expr}{gs:Env->Mem->Res (List D)}{n:Nat}
def Lg (O:DE fa X a ga)(P:PG X tg (gT fa X.K t))(hs:swapsWithSole [tg] a pos.line X.env=pure false)(Q:swappedStores [tg] a X.env=pure none)(h1:(assignEach [tg] X.env).map (·.2)=[assign tg X.env]) :
 DS fa X (.Assign [tg] a pos) (λZ M=>(ga Z M).bind λx M=>(bV M (b4 t x Z)).bind λρ1 M=>.ok (.next ρ1) M):=
 cX (mw O P hs Q h1) λD Y H ⟨W,Z,M,J,L,h⟩=>t1 J L h λx I v F u R z j r1 h1=>by
  obtain⟨ρ1,U,e,q⟩:=aJ h1;cases y:b4 t x Z with
  |none=>rw[y] at e;cases e
  | some S=>
    rw[y] at e;cases e;exact{u,Z,I,x,ρ1,z,j,r1,y,λE B=>q E F u R B j}
def ig {y:Ends}{ad:Addr}(z:bt fa X.K μ H σ Z)(v:RelM fa X.K μ H M)(hk:μ.pub k=some ad)(r:aG fa X.K μ H ds ws)
 (q:∀j u h,Ext μ H h u->bt fa X.K h u j Z->RelM fa X.K h u (M.set k ds)->y.nx j u):y.nx σ (upd H ad (.lst ws)):=
 q σ _ μ (Ext.write (vs:=ws) v hk) (z.ext (Ext.write (vs:=ws) v hk)) (v.write hk r)
def La (ha:DE fa X a ga)(hb:DE fa X b gb)(hd:DE fa X d gd){p2:Pos}
 (h0:∀v,assign (.Subscript a b p2) X.env v=(do
  let B <- holding [v] (eval a X.env)
  let L <- holding [v,B] (eval b X.env)
  standAt p2
  holding [v,B,L] (setItem B L v)
  release [v,B,L] [])) (hs:swapsWithSole [.Subscript a b p2] d pos.line X.env=pure false) (hw:swappedStores [.Subscript a b p2] d X.env=pure none) (h1:(assignEach [.Subscript a b p2] X.env).map (·.2)=[assign (.Subscript a b p2) X.env]) :
 DS fa X (.Assign [.Subscript a b p2] d pos) (λZ M=>(gd Z M).bind λz M=>(ga Z M).bind λx M=>(gb Z M).bind λy M=>match x,y with
  | .cell k,.int n=>match M[k]? with
    | some ds=>match bY ds.length n with
      |some j=>.ok (.next Z) (M.set k (ds.set j z))
      |none=>.bad
    |none=>.bad
  |_,_=>.bad):=
 cX (mw hd (zY ha hb set_list h0) hs hw h1) λU σ H ⟨μ,Z,M,hE,hM,h⟩=>t1 hE hM h λz M1 v H1 μ1 x1 F J r1 h1=>t2 F J h1 λx y M2 vx vy Y μ2 S I u rx ry h2=>by
  have O:∀k n,x=.cell k->y=.int n->D9 vx vy v Y λH3=>U.nx σ H3:=λk n e1 e2=>by
   subst e1 e2;dsimp only at h2;cases e:M2[k]? with
   |none=>rw[e] at h2;exact h2.elim
   | some ds=>
     rw[e] at h2;dsimp only at h2;cases E:LD.bY ds.length n with
     |none=>rw[E] at h2;exact h2.elim
     | some j=>
       rw[E] at h2;obtain⟨ad,rfl,hk⟩:=rx;obtain⟨ws,h4,R⟩:=u.at_ e hk;have q:=h2;refine{ad,ws,n,j,rfl,ry,h4,by rw[R.length];exact E,ig I u hk (R.set j (r1.ext S)) λQ W P x' e' m'=>q Q W P ((x1.trans S).trans x') e' m'}
  cases x with
  | cell k=>cases y with
    |int n=>exact O k n rfl rfl
    |_=>exact h2.elim
  |_=>exact h2.elim
set_option tactic.hygienic true in
def Lh (ha:DE fa X a ga)(hd:DE fa X d gd){j u:Pos}(v:attributeBase a "append" X.env (eval a X.env)=eval a X.env)(y:(j.endLine==u.line)=true)(hs:starEach [d] X.env=[(false,eval d X.env)])
 (O:swapsWith (.Call (.Attribute a "append" j) [d] [] u) none pos.line X.env=pure false) :
 DS fa X (.Expr (.Call (.Attribute a "append" j) [d] [] u) pos) (λZ M=>(ga Z M).bind λx M=>(gd Z M).bind λz M=>match x with
  | .cell k=>match M[k]? with
    |some ds=>if ds.length<sz then .ok (.next Z) (M.set k (ds++[z])) else .bad
    |none=>.bad
  |_=>.bad):=
 cX (ki (xD PySem.F.plainAttrs_list PySem.F.slot_list_append PySem.F.type_list_append my ha (cS hd eD hs) v (by rw[hs];rfl) y hs `r) O) λD' σ H ⟨μ,Z,M,J,hM,h⟩=>by
  obtain⟨x,M1,e1,h1⟩:=aJ h;obtain⟨z,M2,e2,h2⟩:=aJ h1;cases x with
  | cell k=>
    dsimp only at h2;cases e:M2[k]? with
    |none=>rw[e] at h2;exact h2.elim
    | some ds=>
      rw[e] at h2;dsimp only at h2;split at h2
      ·next hz=>
       have q:=h2;refine{μ,Z,M,J,hM,?_};rw[e1];intro vx H1 S Q B rx;obtain⟨ad,rfl,hk⟩:=rx;obtain⟨ds1,P,_,L,_⟩:=B.mu_lt hk;refine{.inl {rfl,P,cQ.of L},S,Z,M1,J.ext Q,B,?_};rw[e2];intro vz H2 μ2 I E rz;obtain⟨ws,h4,W⟩:=E.at_ e (I.mu k ad hk);refine{ad,ws,vz,rfl,rfl,h4,by rw[W.length,<- dz];exact hz,?_}
       exact ig ((J.ext Q).ext I) E (I.mu k ad hk) (W.append (.one rz)) λU Y R x' e' m'=>q U Y R ((Q.trans I).trans x') e' m'
      ·exact h2.elim
  |_=>exact h2.elim
def Nf (F:DE fa X a ga)(hs:swapsWith a none pos.line X.env=pure false):DS fa X (.Expr a pos) (λZ M=>(ga Z M).bind λ_ M=>.ok (.next Z) M):=
 cX (ki F hs) (by rintro L J H ⟨P,Z,M,B,E,h⟩;exact t1 B E h λx O v z y I j u r1 h1=>h1 J z y I j u)
def K9 (v:DE fa X a ga):DS fa X (.Return (some a) pos) (λZ M=>(ga Z M).bind λx M=>.ok (.ret x) M):=
 cX (zU v) λz E H ⟨y,Z,M,j,u,h⟩=>by
  obtain⟨x,B,e,q⟩:=aJ h;refine{y,Z,M,j,u,?_};rw[e];exact q
def Ho:DS fa X (.Return none pos) (λ_ M=>.ok (.ret .non) M):=cX GD (by rintro u B H ⟨y,z,M,v,j,h⟩;exact aR j h rfl)
def Hq:DS fa X (.Pass pos) (λZ M=>.ok (.next Z) M):=cX GF (by rintro z y H ⟨v,Z,M,j,u,h⟩;exact h y H v .refl j u)
def Le {st:Stmt}:DS fa X st (λ_ _=>.bad):=(by rintro j s E H u I ⟨z,B,M,v,y,h⟩;exact h.elim)
set_option tactic.hygienic true in
def jV.ext (x:Ext μ H μ' H')(q:jV fa X μ H D' fl M):jV fa X μ' H' D' fl M:=by
 cases fl with
 |next u=>exact λv j h y e m=>q v j h (x.trans y) e m
 |ret d=>exact bb.ext q x
 |exc z u=>exact XW.ext q x
def JT (x:Ext μ H μ' H')(h:ae r (jV fa X μ H D')):ae r (jV fa X μ' H' D'):=aT h λfl M q=>q.ext x
def Lb {st z:List Stmt}(I:DT fa X c gc)(J:nk fa X st gt)(hf:nk fa X z gf):DS fa X (.If c st z pos) (λZ M=>(gc Z M).bind λk M=>if k then gt Z M else gf Z M):=
 cX (Mr I J hf) λL Q H ⟨P,Z,M,E,F,h⟩=>zk E F h λk y O v B j u h1=>by
  cases k with
  |true=>exact{v,Z,y,j,u,JT B h1}
  |false=>exact{v,Z,y,j,u,JT B h1}
def Hn:nk fa X [] (λZ M=>.ok (.next Z) M):=wb GC (by rintro z y H ⟨v,Z,M,j,u,h⟩;exact h y H v .refl j u)
set_option tactic.hygienic true in
def C4 {st:Stmt}(h1:DS fa X st g)(h2:nk fa X ss g'):nk fa X (st::ss) (λZ M=>(g Z M).bind λfl M=>match fl with
 |.next Z=>g' Z M
 |fl=>.ok fl M):=
 wb (Cf h1 h2) λL P H ⟨I,Z,M,B,E,h⟩=>by
  obtain⟨fl,z,e,q⟩:=aJ h;refine{I,Z,M,B,E,?_};rw[e];cases fl with
  |next j=>exact λJ O y F u v=>{y,j,z,u,v,JT F q}
  |ret d=>exact q
  |exc x j=>exact q
end
def eK (fa:Fa)(K:Qs)(μ0:Mu)(H0:Hp)(w:Walk)(J:It):Prop:=
 ∀(h:Mu) (H:Hp) (M:Mem) (u:List D),ExtW μ0 H0 h H->RelM fa K h H M->w M=some u->(∀(i:Nat) (d:D),u[i]?=some d->J.go i H/\∀x j,J.yld i H x j->Ext h H h j/\RelM fa K h j M/\Rep fa K h j d x)/\∀i,u.length<=i->J.stop i H
def tI (fa:Fa)(K:Qs)(g:Env->Mem->Res Walk):TI:=λz H R=>∃u v M,bt fa K u H z v/\RelM fa K u H M/\ae (g v M) λw y=>∀J j h,Ext u H h j->RelM fa K h j y->eK fa K h j w J->R J j
abbrev DI (fa:Fa)(X:Cx)(tg h:Expr)(g:Env->Mem->Res Walk):Prop:=PI X tg h (tI fa X.K g)
def ri {K:Qs}(h:eK fa K μ0 H0 w J)(x:ExtW μ0 H0 μ1 H1):eK fa K μ1 H1 w J:=λv H M j y u e=>h v H M j (x.trans y) u e
section
variable{fa:Fa}{X:Cx}{tg a b d:Expr}{ga gb gd:Env->Mem->Res D}{pos p:Pos}{es:List Expr}{n:Nat}
def yV {ad:Addr}(h:Rep fa X.K μ0 H0 dd (.ref ad)):eK fa X.K μ0 H0 (λM=>cv M dd) (LZ X.K ad):=λP H M O x u e=>by
 obtain⟨B,j,E,s,r⟩:=bN u (Rep.extW x h) e;cases E;refine{λi d hd=>?_,λi F=>{j,s,by rw[r.length];exact F}}
 obtain⟨v,z,J⟩:=r.get hd;refine{⟨j,v,s,z⟩,λy L ⟨e,I⟩=>?_};subst e;have:=I j s;rw[z] at this;cases this;exact{.refl,u,J}
def Bn {ad:Addr}(h:Rep fa X.K μ0 H0 (.tup ds) (.ref ad)):eK fa X.K μ0 H0 (λ_=>some ds) (LY X.K ad):=λP H M B x F E=>by
 cases E;obtain⟨z,j,e,s,r⟩:=Rep.extW x h;cases e;refine{λi d hd=>?_,λi I=>{j,s,by rw[r.length];exact I}}
 obtain⟨v,u,L⟩:=r.get hd;refine{⟨j,v,s,u⟩,λy O ⟨e,J⟩=>?_};subst e;have:=J j s;rw[u] at this;cases this;exact{.refl,F,L}
def Bo (lo:Int)(n:Nat):eK fa X.K μ0 H0 (λ_=>some ((List.range n).map λ(k:Nat)=>D.int (lo+(k:Int)))) (E9 lo n):=λz H M v x j e=>by
 cases e;refine{λi d hd=>?_,λi h=>(show n<=i by simpa using h)}
 rw[QS] at hd;by_cases h:i<n
 ·rw[SV h] at hd;have e:=Qz hd;subst e;refine{h,λy u ⟨e1,e2⟩=>?_};subst e1 e2;exact{.refl,j,rfl}
 ·rw[SK (by simpa using h)] at hd;cases hd
def b8 (ga:Env->Mem->Res D):Env->Mem->Res Walk:=λj M=>(ga j M).bind λx M=>match x with
 |.lst h=>.ok (λ_=>some h) M
 |.tup h=>.ok (λ_=>some h) M
 |.frz h=>.ok (λ_=>some h) M
 |.cell k=>.ok (λM=>M[k]?) M
 |_=>.bad
def Lm (Y:DE fa X a ga):DI fa X tg a (b8 ga):=λu s S H R I ⟨Q,Z,M,U,W,h⟩=>by
 obtain⟨x,L,e,q⟩:=aJ h;have lst:(∀j B,RelM fa X.K j B L->∀v,Rep fa X.K j B x v->∃y,cv L x=some y)->(∀J B j,Ext Q H j B->RelM fa X.K j B L->eK fa X.K j B (λM=>cv M x) J->R J B)->
  wpAny (model X.prog X.w) X.A (eval a X.env) (λv s1=>wpAny (model X.prog X.w) X.A (pyIter v) (LU X u S tg R) X.xe s1) X.xe s:=λhx q=>by
  refine GI Y u s S H R I {Q,Z,M,U,W,?_};rw[e];intro v F z P E r1;obtain⟨y,er⟩:=hx z F E v r1;obtain⟨ad,O,rfl,s1,r⟩:=bN E r1 er;exact{ad,rfl,⟨O,s1⟩,q _ F z P E (yV r1)}
 cases x with
 |lst y=>exact lst (λ_ _ _ _ _=>⟨y,rfl⟩) q
 |frz y=>exact lst (λ_ _ _ _ _=>⟨y,rfl⟩) q
 | tup y=>
   refine JA Y u s S H R I {Q,Z,M,U,W,?_};rw[e];intro v F z P E r1;obtain⟨ad,O,rfl,s1,r⟩:=id r1;exact{ad,rfl,⟨O,s1⟩,q _ F z P E (Bn r1)}
 |cell k=>exact lst (λj B m' v ⟨ad,_,hk⟩=>let{y,_,e,_}:=m'.mu_lt hk;⟨y,e⟩) q
 |_=>exact q.elim
def cJ (ga:Env->Mem->Res D):Env->Mem->Res Walk:=λh M=>(ga h M).bind λx M=>match x with
 |.int n=>if -(2^62)<=n/\n<2^62 then .ok (λ_=>some ((List.range n.toNat).map λ(k:Nat)=>D.int (k:Int))) M else .bad
 |_=>.bad
set_option tactic.hygienic true in
def Hx (J:DE fa X a ga)(L:Gl X "range")(hm:X.mg "range"=none)(hs:starEach [a] X.env=[(false,eval a X.env)]):DI fa X tg (.Call (.Name "range" p) [a] [] pos) (cJ ga):=λj s P H R I ⟨S,U,M,B,F,h⟩=>by
 refine zX L hm (cS J eD hs) hs j s P H R I ?_;refine t1 B F h λx Q v z u O E y r1 h1=>?_;cases x with
 | int n=>
   dsimp only at h1;split at h1
   ·next c=>
    obtain rfl:v=.int n:=r1;refine{n,rfl,c.1,c.2,h1 _ z u O y ?_};have:=Bo (fa:=fa) (X:=X) (μ0:=u) (H0:=z) 0 n.toNat;simpa using this
   ·exact h1.elim
 |_=>exact h1.elim
def gm (t:fW)(gb:Env->Mem->Res Fl):Fl->D->Mem->Res Fl:=λfl d M=>match fl with
 |.next j=>(bV M (b4 t d j)).bind λh M=>gb h M
 |fl=>.ok fl M
noncomputable def Fl.out:Fl->Bool
 |.next _=>false
 |_=>true
set_option tactic.hygienic true in
theorem lD {gb:Env->Mem->Res Fl}(ho:fl.out=true):∀(n i:Nat) (M:Mem),ae (gn (gm t gb) w n i fl M) P->P fl M
 |0,_,_,h=>h.elim
 | n+1,i,M,h=>by
   unfold gn at h;cases e:w M with
   |none=>rw[e] at h;exact h.elim
   | some j=>
     rw[e] at h;dsimp only at h;cases e2:j[i]? with
     |none=>rw[e2] at h;exact h
     | some v=>
       rw[e2] at h;cases fl with
       |next u=>cases ho
       |ret d=>exact lD ho n (i+1) M h
       |exc x u=>exact lD ho n (i+1) M h
def tL (fa:Fa)(X:Cx)(g:Env->Mem->Res Fl):TS:=λD h H=>(∀h H,D.nx h H->D.ct h H)/\tF fa X g D h H
abbrev Oz (fa:Fa)(X:Cx)(st:List Stmt)(g:Env->Mem->Res Fl):Prop:=kG X st (tL fa X g)
def Nh {body:List Stmt}{gb:Env->Mem->Res Fl}(h:nk fa X body gb):Oz fa X body gb:=λj s u H D I q=>h j s u H D I q.2
set_option tactic.hygienic true in
def Lc {gw:Env->Mem->Res Walk}{gb:Env->Mem->Res Fl}(hp:PassesOwn (model X.prog X.w) X.A X.env X.xe)(hc:X.calm=true)(hi:DI fa X tg a gw)(hg:PG X tg (gT fa X.K t))(hb:Oz fa X body gb)
 (hs:∀x,foldedSetIterable a X.env x=pure x):DS fa X (.For tg a body [] pos) (λZ M=>(gw Z M).bind λw M=>cV (gm t gb) w (.next Z) M):=
 cX (Jx hp hc hi hg hb hs) λD' σ H ⟨μ,Z,M,hE,hM,h⟩=>by
  obtain⟨w,M1,e,q⟩:=aJ h;refine{μ,Z,M,hE,hM,?_};rw[e];intro J H1 I x1 hM1 wk;have hE1:=hE.ext x1;refine{λi m E F=>∃j u L,Ext I H1 j F/\bt fa X.K j F E u/\RelM fa X.K j F L/\ae (gn (gm t gb) w m i (.next u) L) (jV fa X μ H D'),
   {_,I,Z,M1,.refl,hE1,hM1,q},?_}
  rintro i m σ2 H2 ⟨B,S,M2,R,O,P,v⟩;cases m with
  |zero=>exact v.elim
  | succ m=>
    unfold gn at v;cases e2:w M2 with
    |none=>rw[e2] at v;exact v.elim
    | some ds=>
      rw[e2] at v;dsimp only at v;obtain⟨go,stop⟩:=wk B H2 M2 ds R.toExtW P e2;cases ed:ds[i]? with
      | none=>
        rw[ed] at v;exact .inl {stop i (List.getElem?_eq_none_iff.mp ed),v σ2 H2 B (x1.trans R) O P}
      | some d=>
        rw[ed] at v;obtain⟨g1,g2⟩:=go i d ed;refine .inr {g1,λE F=>∃j u L,Ext I H1 j F/\bt fa X.K j F E u/\RelM fa X.K j F L/\ae (gn (gm t gb) w m (i+1) (.next u) L) (jV fa X μ H D'),λE F z=>{m,`a,z},λy H3 hy=>?_}
        obtain⟨x3,Q,r3⟩:=g2 y H3 hy;obtain⟨fl,M4,e4,q4⟩:=aJ v;obtain⟨U,M5,Y,e6⟩:=fj e4;cases eb:b4 t d S with
        |none=>rw[eb] at Y;cases Y
        | some ρ5=>
          rw[eb] at Y;cases Y;refine{B,S,_,d,U,O.ext x3,Q,r3,eb,λσ5 hE5=>{λ_ _ z=>z,B,U,_,hE5,Q,?_}};rw[e6];cases fl with
          |next W=>exact λσ6 H6 μ6 x6 hE6 hM6=>{μ6,W,M4,(R.trans x3).trans x6,hE6,hM6,q4}
          |ret d6=>exact(lD rfl m (i+1) M4 q4).ext ((x1.trans R).trans x3)
          |exc x6 W=>exact(lD rfl m (i+1) M4 q4).ext ((x1.trans R).trans x3)
end
abbrev FF:Qw->QA->Prop:=λ_ _=>False
section
variable{prog:Rj}{w:Q8}{A:R6}{s:QA}
def AV
 (J:compTurn ce k it acc env=(standAt p >>= λ_=>pyNext it >>= λr=>match r with
  |none=>pure (.done .next)
  |some v=>letOwnedTupleGo target it v >>= λ_=>assign target env v >>= λ_=>body >>= λ_=>again (.compLoop ce k it acc env)))
 (hd:(model prog w).den (.compLoop ce k it acc env)=(compTurn ce k it acc env).onRaise (λx=>do noteFrame x env;theTreesLotGoes x)/\A.under (.compLoop ce k it acc env)=A) (I:Nat->QA->Prop)
 (turn:∀n s,I n s->wpAny (model prog w) A (pyNext it) (λr j=>match r with
  |none=>R (.ok .next) j
  |some v=>wpAny (model prog w) A (letOwnedTupleGo target it v) (λ_ y=>wpAny (model prog w) A (assign target env v) (λ_ z=>wpAny (model prog w) A body (λ_ B=>∃m,m<n/\I m B) FF z) FF y) FF j) FF s)
 (n:Nat) (h:I n s):codeAny (model prog w) A (.compLoop ce k it acc env) R s:=by
 refine codeAny_loop rfl I (λn s L=>?_) n h;rw[hd.1,hd.2];refine wpAny_noted ?_;rw[J];refine wpAny_noRaise ?_;refine tqa (wpAny_standAt (tqa (aP (turn n s L) λr j u=>?_)));cases r with
 |none=>exact tqb u
 | some v=>
   refine tqa (aP u λ_ y E=>?_);exact tqa (aP E λ_ z F=>tqa (aP F λ_ B H=>tqb ⟨rfl,H⟩))
def BF (y h j:Expr)(B:List SG)(u:Scope)(pos:Pos)(z acc:Qw)(env:RY) :
 compTurn (.ListComp y [{h,j,[],0}] u pos) 0 z acc env=(standAt j.pos >>= λ_=>pyNext z >>= λr=>match r with
  |none=>pure (.done .next)
  |some v=>letOwnedTupleGo h z v >>= λ_=>assign h env v >>= λ_=>(eval y env >>= λx=>call (.builtin "list.append") [acc,x] >>= λ_=>pure ()) >>= λ_=>again (.compLoop (.ListComp y [{h,j,[],0}] u pos) 0 z acc env)):=`r
def turn_if (y h j c:Expr)(u:Scope)(pos:Pos)(z acc:Qw)(env:RY) :
 compTurn (.ListComp y [{h,j,[c],0}] u pos) 0 z acc env=(standAt j.pos >>= λ_=>pyNext z >>= λr=>match r with
  |none=>pure (.done .next)
  |some v=>letOwnedTupleGo h z v >>= λ_=>assign h env v >>= λ_=>(isTrue c env (eval c env) >>= λok=>if ok=true then(eval y env >>= λx=>call (.builtin "list.append") [acc,x] >>= λ_=>pure ()) else pure ()) >>= λ_=>again (.compLoop (.ListComp y [{h,j,[c],0}] u pos) 0 z acc env)):=by
 rw[compTurn_list];refine congrArg _ (funext λ_=>congrArg _ (funext λr=>?_));cases r with
 |none=>rfl
 | some v=>
   simp only[List.forIn_cons,List.forIn_nil,if_true,bind_assoc,pure_bind];refine congrArg _ (funext λ_=>congrArg _ (funext λ_=>congrArg _ (funext λok=>?_)));cases ok<;>simp
def BD (z h y t2 B:Expr)(u:Scope)(pos:Pos)(E acc:Qw)(env:RY) :
 compTurn (.ListComp z [{h,y,[],0},{t2,B,[],0}] u pos) 0 E acc env=(standAt y.pos >>= λ_=>pyNext E >>= λr=>match r with
  |none=>pure (.done .next)
  |some v=>letOwnedTupleGo h E v >>= λ_=>assign h env v >>= λ_=>(eval B env >>= λx=>standAt B.pos >>= λ_=>foldedSetIterable B env x >>= λx=>holding [x] (pyIter x) >>= λj=>runOwn (.compStart (.ListComp z [{h,y,[],0},{t2,B,[],0}] u pos) 1 j acc env) env >>= λ_=>pure ()) >>= λ_=>again (.compLoop (.ListComp z [{h,y,[],0},{t2,B,[],0}] u pos) 0 E acc env)):=by
 refine bind_congr λ_=>bind_congr λr=>?_;cases r with
 |none=>rfl
 |some v=>simp
def BE (y h u t2 B:Expr)(j:Scope)(pos:Pos)(z acc:Qw)(env:RY) :
 compTurn (.ListComp y [{h,u,[],0},{t2,B,[],0}] j pos) 1 z acc env=(standAt B.pos >>= λ_=>pyNext z >>= λr=>match r with
  |none=>pure (.done .next)
  |some v=>letOwnedTupleGo t2 z v >>= λ_=>assign t2 env v >>= λ_=>(eval y env >>= λx=>call (.builtin "list.append") [acc,x] >>= λ_=>pure ()) >>= λ_=>again (.compLoop (.ListComp y [{h,u,[],0},{t2,B,[],0}] j pos) 1 z acc env)):=by
 rfl
set_option tactic.hygienic true in
theorem lK (env:RY):∀(ns:List (Str×NameKind)) (h:List (Str×Addr)),(∀y∈ns,y.2=.free->∃c,env.cells.lookup y.1=some c)->(∀x c,h.lookup x=some c->env.cells.lookup x=some c)->
 ∃cl,(forIn ns h λ(y:Str×NameKind) (r:List (Str×Addr))=>if (y.2==NameKind.free)=true then cellOf env y.1 >>= λa=>pure (ForInStep.yield ((y.1,a)::r)) else pure (ForInStep.yield r):Sem _)=pure cl/\
  (∀x c,cl.lookup x=some c->env.cells.lookup x=some c)/\(∀x c,h.lookup x=some c->∃E,cl.lookup x=some E)/\∀y∈ns,y.2=.free->∃c,cl.lookup y.1=some c
 |[],h,_,h2=>{h,`s,h2,λx c e=>⟨c,e⟩,λy j=>nomatch j}
 | (n,k)::ns,h,h1,h2=>by
   by_cases hk:k=.free
   ·subst hk;obtain⟨a,v⟩:=h1 (n,.free) QM rfl;have lk:∀x c,((n,a)::h).lookup x=some c->env.cells.lookup x=some c:=λx c e=>by
     rw[Rz] at e;split at e
     ·next q=>cases e;rw[eq_of_beq q];exact v
     ·exact h2 x c e
    obtain⟨cl,e,p1,p2,u⟩:=lK env ns ((n,a)::h) (λy j=>h1 y (QF _ j)) lk;refine{cl,?_,p1,λx c q=>?_,λy j hf=>?_}
    ·rw[List.forIn_cons];have H:cellOf env n=pure a:=by unfold cellOf;rw[v]
     simp only[beq_self_eq_true,if_true,H];exact e
    ·by_cases B:x=n
     ·exact p2 x a (by rw[Rz,B];simp)
     ·exact p2 x c (by rw[Rz,Sd.mpr B];exact q)
    ·rcases Q9.mp j with z|z
     ·subst z;exact p2 n a (by simp[Rz])
     ·exact u y z hf
   ·obtain⟨cl,e,p1,p2,u⟩:=lK env ns h (λy j=>h1 y (QF _ j)) h2;refine{cl,?_,p1,p2,λy j hf=>?_}
    ·rw[List.forIn_cons];have F:(k==NameKind.free)=false:=by simpa using hk
     simp only[F,Bool.false_eq_true,if_false];exact e
    ·rcases Q9.mp j with z|z
     ·subst z;exact absurd hf hk
     ·exact u y z hf
def qf (h:∀y∈j.names,y.2=.free->∃c,env.cells.lookup y.1=some c) :
 ∃cl,closureFor j env=pure cl/\(∀x c,cl.lookup x=some c->env.cells.lookup x=some c)/\∀y∈j.names,y.2=.free->∃c,cl.lookup y.1=some c:=by
 obtain⟨cl,e,p1,_,u⟩:=lK env j.names [] h (λx c q=>nomatch q);exact{cl,by unfold closureFor;simp only[bind_pure];exact e,p1,u}
end
noncomputable def f5 (X:Cx)(own bn:List Str)(scope:Scope)(cl:List (Str×Addr))(C:Addr)(fp:List Addr)(s:QA)(H:Hp):Cx:=
 {X with N:=own++bn,s₀:=s,H₀:=H,env:=compEnvC scope cl C X.env,outer:=X.stack,ex:=fp,fn:=λx=>scope.names.lookup x==some .cell,pn:=[],xe:=FF}
set_option tactic.hygienic true in
noncomputable def mem_of_lookup {j:Type}:∀{l:List (Str×j)}{x:Str}{k:j},l.lookup x=some k->(x,k)∈l
 |[],_,_,h=>by cases h
 | (n,b)::r,x,k,h=>by
   rw[Rz] at h;split at h
   ·next q=>cases h;rw[eq_of_beq q];exact QM
   ·exact QF _ (mem_of_lookup h)
set_option tactic.hygienic true in
theorem gJ {env:RY}:∀{j:List (Str×NameKind)}{x:Str}{k:NameKind},
 (j.map λ(n,k)=>if (k==NameKind.free&&env.scope.kind==.function&&env.kindOf n==some .cell) then(n,NameKind.cell) else(n,k)).lookup x=some k->
 ∃k0,(x,k0)∈j/\j.lookup x=some k0/\(k=k0\/(k0=.free/\k=.cell))
 |[],_,_,h=>by cases h
 | (n,k0)::r,x,k,h=>by
   have y:=@gJ env r x k;have h:List.lookup x ((if (k0==NameKind.free&&env.scope.kind==.function&&env.kindOf n==some .cell)=true then(n,NameKind.cell) else(n,k0))::_)=some k:=h;cases u:x==n with
   | true=>
     have e:=eq_of_beq u;subst e;refine{k0,QM,by simp[Rz],?_}
     split at h
     ·next c=>
      simp[Rz] at h;simp at c;exact .inr ⟨c.1.1,h.symm⟩
     ·simp[Rz] at h;exact .inl h.symm
   | false=>
     have v:List.lookup x (r.map λ(n,k)=>if (k==NameKind.free&&env.scope.kind==.function&&env.kindOf n==some .cell) then(n,NameKind.cell) else(n,k))=some k:=by
      split at h<;>simpa[Rz,u] using h
     obtain⟨k1,h1,h2,h3⟩:=y v;exact{k1,QF _ h1,by simp[Rz,u];exact h2,h3}
noncomputable def pK {h j:Type}{R:h->j->Prop}:∀{l:List h}{r:List j}{i:Nat}{x:h},Ss R l r->l[i]?=some x->∃y,r[i]?=some y/\R x y
 |_,_,_,_,.nil,e=>by simp at e
 |_,_,0,_,.cons p _,e=>by simp at e;subst e;exact{_,rfl,p}
 | _,_,i+1,x,.cons _ t,e=>by
   obtain⟨y,h1,h2⟩:=pK t (by simpa using e)
   exact{y,by simpa using h1,h2}
structure fQ (X:Cx) (own bn:List Str) (scope:Scope):Prop where
 kind:scope.kind=.function
 cel:∀y∈scope.names,y.2=.cell->scope.names.lookup y.1=some .cell
 loc:∀y∈scope.names,y.2=.local->scope.names.lookup y.1=some .local
 free:∀y∈scope.names,y.2=.free->X.env.kindOf y.1=some .cell\/X.env.kindOf y.1=some .free
 dis:Ss (λb x=>(b=x/\scope.names.lookup x≠some .local/\scope.names.lookup x≠some .cell)\/scope.names.lookup b=none) bn X.N
noncomputable def jm:∀(h:List (Str×NameKind)) (n:Nat) (acc:List (Str×Addr)),cellsFrom n h acc=cellsFrom n h []++acc
 |[],_,_=>rfl
 | (nm,k)::r,n,acc=>by
   unfold cellsFrom;split
   ·rw[jm r (n+1) ((nm,n)::acc),jm r (n+1) [(nm,n)],RT];rfl
   ·exact jm r n acc
set_option tactic.hygienic true in
theorem u6:∀{j:List (Str×NameKind)}{n:Nat}{x:Str}{c:Addr},(x,c)∈cellsFrom n j []->(x,NameKind.cell)∈j
 |[],_,_,_,h=>nomatch h
 | (nm,k)::r,n,x,c,h=>by
   unfold cellsFrom at h;split at h
   ·next e=>
    rw[jm] at h;rcases Q2.mp h with h|h
    ·exact QF _ (u6 h)
    ·cases QN.mp h;rw[eq_of_beq e];exact QM
   ·exact QF _ (u6 h)
theorem qg:∀{j:List (Str×NameKind)}{n:Nat}{x:Str},(x,NameKind.cell)∈j->∃c,(x,c)∈cellsFrom n j []
 | (nm,k)::r,n,x,h=>by
   unfold cellsFrom;rcases Q9.mp h with h|h
   ·cases h;rw[if_pos (by rfl:(NameKind.cell==NameKind.cell)=true),jm]
    exact{n,Rh _ (QN.mpr rfl)}
   ·split
    ·obtain⟨c,u⟩:=qg h;rw[jm];exact{c,RE _ u}
    ·exact qg h
noncomputable def mB {j:Type}:∀{l:List (Str×j)}{x:Str}{b:j},(x,b)∈l->∃c,l.lookup x=some c
 | (n,u)::r,x,b,h=>by
   rw[Rz];cases e:x==n with
   |true=>exact{_,rfl}
   | false=>
     rcases Q9.mp h with z|z
     ·cases z;rw[beq_self_eq_true] at e;cases e
     ·exact mB z
def rX
 (h:Q (newEnv scope s.heap.objs.size globals (cellsFrom (s.heap.objs.size+1) scope.names cl) qual none .none (some env) builtinsNs) {s with heap:=pushCells (s.heap.push {cls:=.type "dict",data:=.dict #[]}) scope.names}) :
 wpAny M A (newFunctionEnv scope globals cl [] qual none .none (some env)) Q E s:=by
 simp only[newFunctionEnv,Option.isSome_some,if_true];refine tqa (wpAny_alloc ?_);refine tqa (wpAny_layCells _ (λv kind j=>by cases u:kind==NameKind.cell<;>simp[u]) _ _ _ _ ?_)
 rw[show({s with heap:=s.heap.push {cls:=.type "dict",data:=.dict #[]}}:QA).heap.objs.size=s.heap.objs.size+1 from Se ..]
 exact tqa (tqb (tqb h))
section
variable{X:Cx}{pins:List (Addr×Obj)}{σ:L2.St}{H:Hp}{s:QA}{fp:List Addr}{scope:Scope}{cl:List (Str×Addr)}{own bn:List Str}
structure Cl (X:Cx) (scope:Scope) (cl:List (Str×Addr)) (n:Nat):Prop where
 sub:∀x c,cl.lookup x=some c->(scope.names.lookup x=some .cell/\n<c)\/(scope.names.lookup x≠some .cell/\X.env.cells.lookup x=some c)
 inj:∀x y c,cl.lookup x=some c->cl.lookup y=some c->scope.names.lookup x=some .cell->scope.names.lookup y=some .cell->x=y
 has:∀y∈scope.names,(y.2=.free\/y.2=.cell)->∃c,cl.lookup y.1=some c
def EW (S:fQ X own bn scope)(h1:∀x c,cl.lookup x=some c->X.env.cells.lookup x=some c)(h2:∀y∈scope.names,y.2=.free->∃c,cl.lookup y.1=some c)(h:Heap)(hn:h.objs.size=n+1) :
 Cl X scope (cellsFrom (n+1) scope.names cl) n/\∀x c,(cellsFrom (n+1) scope.names cl).lookup x=some c->scope.names.lookup x=some .cell->(pushCells h scope.names).IsCell c none:=by
 have ok:=cellsFrom_ok scope.names h (n+1) [] {λ_ _ hm=>(nomatch hm),List.Pairwise.nil} (by rw[hn];exact Qy _)
 rw[hn] at ok;rw[jm];have j:∀{x c},(cellsFrom (n+1) scope.names []++cl).lookup x=some c->scope.names.lookup x=some .cell->(x,c)∈cellsFrom (n+1) scope.names []:=λ{x c} e u=>by
  obtain⟨E,I⟩:=qg (mem_of_lookup u);obtain⟨J,h2⟩:=mB I;rw[List.lookup_append,h2] at e;cases e;exact mem_of_lookup h2
 have v:∀{x c},(cellsFrom (n+1) scope.names []++cl).lookup x=some c->scope.names.lookup x≠some .cell->cl.lookup x=some c:=λ{x c} e u=>by
  rw[List.lookup_append] at e;cases z:(cellsFrom (n+1) scope.names []).lookup x with
  |none=>rw[z] at e;exact e
  |some E=>exact absurd (S.cel _ (u6 (mem_of_lookup z)) rfl) u
 refine{{λx c e=>?_,λx y c e1 e2 u B=>?_,λy B hk=>?_},λx c e u=>(ok.empty x c (j e u)).1}
 ·by_cases u:scope.names.lookup x=some .cell
  ·exact .inl {u,(ok.empty x c (j e u)).2}
  ·exact .inr {u,h1 x c (v e u)}
 ·exact name_of_addr ok.apart (j e1 u) (j e2 B)
 ·rcases hk with hk|hk
  ·obtain⟨c,F⟩:=h2 y B hk;rw[List.lookup_append];cases (cellsFrom (n+1) scope.names []).lookup y.1 with
   |none=>exact⟨c,F⟩
   |some E=>exact⟨E,rfl⟩
  ·obtain⟨c,F⟩:=qg (by rw[<- hk];exact B)
   obtain⟨J,e2⟩:=mB F;rw[List.lookup_append,e2];exact⟨J,rfl⟩
def HG (I:Inv X pins σ H s)(S:fQ X own bn scope)(j:Cl X scope cl s.heap.objs.size)(v:∀b∈fp,fN X pins H b)(B:∀b∈fp,∃o,s.heap.get? b=some o) :
 (f5 X own bn scope cl s.heap.objs.size fp s H).Ok where
 mod:=I.ok.mod
 kind:=S.kind
 glob:=I.ok.glob
 blt:=I.ok.blt
 above:=Qy _
 inj:=λx y c h1 h2=>by
  have lt:=λz e=>Nat.not_lt.mpr (SH (let{_,q}:=I.cell z c e;q.lt))
  rcases j.sub x c h1 with⟨a1,a2⟩|⟨a1,a2⟩<;>rcases j.sub y c h2 with⟨b1,b2⟩|⟨b1,b2⟩
  ·exact j.inj x y c h1 h2 a1 b1
  ·exact absurd a2 (lt y b2)
  ·exact absurd b2 (lt x a2)
  ·exact I.ok.inj x y c a2 b2
 has:=λx h=>by
  have E:∀k,(relabel scope X.env).names.lookup x=some k->(k=.cell\/k=.free)->∃c,cl.lookup x=some c:=λk hk F=>by
   obtain⟨L,h1,h2,h3⟩:=gJ hk;refine j.has _ h1 ?_;rcases h3 with e|⟨e,_⟩
   ·rcases F with z|z
    ·exact .inr (e.symm.trans z)
    ·exact .inl (e.symm.trans z)
   ·exact .inl e
  rcases h with h|h
  ·exact E _ h (.inl rfl)
  ·exact E _ h (.inr rfl)
 cab:=λx c h e=>by
  rcases j.sub x c e with⟨_,a2⟩|⟨a1,_⟩
  ·exact SH a2
  ·exact absurd (eq_of_beq h) a1
 hd:=I.ok.hd
 frames:=I.ok.frames
 stk:=.inl rfl
 exf:=λb u=>{λe=>by
  obtain⟨o,ho⟩:=B b u;exact absurd (QW ho) (by rw[e];exact RO _),λx c e=>by
  rcases j.sub x c e with⟨_,a2⟩|⟨_,a2⟩
  ·obtain⟨o,ho⟩:=B b u;exact λz=>absurd (QW ho) (by rw[<- z];exact Nat.lt_asymm a2)
  ·exact(v b u).2.2.2.2.1 x c a2}
 bs:=λb o e=>I.bs b o e
 bsz:=QC I.ok.bsz I.sz
 noex:=λb o e u=>by
  rcases(v b u).2.2.2.1 with z|z
  ·exact I.ok.noex b o e z
  ·exact absurd (QO (QW e) (QC I.ok.bsz z)) (RO _)
 exfs:=λb u J=>by
  rcases Q9.mp (I.stkSub b J) with e|e
  ·exact(v b u).2.1 e
  ·exact(v b u).2.2.1 e
 funs:=I.stack
 frf:=λb u=>I.stkFree b u
def u3 (I:Inv X pins σ H s)(S:fQ X own bn scope)(h:Cl X scope cl s.heap.objs.size)(P:∀b∈fp,fN X pins H b)(O:∀b∈fp,∃o,s.heap.get? b=some o)
 (hn:h'.Ns s.heap.objs.size m) (hk:∀b o,s.heap.get? b=some o->h'.get? b=some o) (M:∀x c,cl.lookup x=some c->scope.names.lookup x=some .cell->h'.IsCell c none) :
 Inv (f5 X own bn scope cl s.heap.objs.size fp s H) [] (List.replicate own.length none++σ) H {s with heap:=h',toks:=t'} where
 ok:=HG I S h P O
 os:=rfl
 bare:=I.bare
 base:=Un.kept hk
 loc:=by
  refine{m,hn,λi x v e1 e2 W=>?_};have e1:(own++bn)[i]?=some x:=e1;have U:own.length<=i:=by
   by_cases q:i<own.length
   ·rw[QE (by simpa using q),SD] at e2
    simp[q] at e2
   ·omega
  rw[Q4 U] at e1;rw[Q4 (by simpa using U)] at e2
  simp only[Sm] at e2;have L:X.N[i-own.length]?=some x/\scope.names.lookup x≠some .local/\scope.names.lookup x≠some .cell:=by
   rcases pK S.dis e1 with⟨y,h1,⟨h2,h3⟩|h2⟩
   ·subst h2;exact⟨h1,h3⟩
   ·exfalso;have no:∀k,(relabel scope X.env).names.lookup x≠some k:=λk hk=>by
     obtain⟨Q,_,h3,_⟩:=gJ hk;rw[h2] at h3;cases h3
    rcases W with z|z|z
    ·exact no _ z
    ·exact no _ z
    ·exact no _ z
  have R:∀k,(relabel scope X.env).names.lookup x=some k->(k=.local\/k=.cell\/k=.free)->∃c,(k=.cell\/k=.free)/\cl.lookup x=some c/\(X.env.kindOf x=some .cell\/X.env.kindOf x=some .free):=λk j J=>by
   obtain⟨Q,h1,h2,h3⟩:=gJ j;have nl:Q≠.local:=λe=>L.2.1 (by rw[h2,e])
   have hf:Q=.free:=by
    rcases h3 with e|⟨e,_⟩
    ·rcases J with z|z|z
     ·exact absurd (e.symm.trans z) nl
     ·exact absurd (by rw[h2,e.symm.trans z]) L.2.2
     ·exact e.symm.trans z
    ·exact e
   obtain⟨c,Y⟩:=h.has _ h1 (.inl hf);refine{c,?_,Y,S.free _ h1 hf};rcases J with z|z|z
   ·rcases h3 with e|⟨_,e⟩
    ·rw[hf] at e;rw[e] at z;cases z
    ·rw[e] at z;cases z
   ·exact .inl z
   ·exact .inr z
  have B:∀k,(relabel scope X.env).names.lookup x=some k->(k=.local\/k=.cell\/k=.free)->∃u,RelV v u/\Look (compEnvC scope cl s.heap.objs.size X.env) h' m x u:=λk j J=>by
   obtain⟨c,h1,h2,h3⟩:=R k j J;obtain⟨m0,_,hl⟩:=I.loc;obtain⟨u,r,l⟩:=hl _ x v L.1 e2 (.inr h3);refine{u,r,.inr {?_,c,h2,?_}}
   ·rcases h1 with z|z
    ·subst z;exact .inl j
    ·subst z;exact .inr j
   ·rcases l with⟨z,_⟩|⟨_,c',F,E⟩
    ·rcases h3 with q|q
     ·rw[z] at q;cases q
     ·rw[z] at q;cases q
    ·rcases h.sub x c h2 with⟨a1,_⟩|⟨_,a2⟩
     ·exact absurd a1 L.2.2
     rw[a2] at F;cases F;obtain⟨o,ho,hd⟩:=E;exact{o,hk _ _ ho,hd}
  rcases W with z|z|z
  ·exact B _ z (.inl rfl)
  ·exact B _ z (.inr (.inl rfl))
  ·exact B _ z (.inr (.inr rfl))
 cell:=λx c e=>by
  rcases h.sub x c e with⟨a1,_⟩|⟨_,a2⟩
  ·exact{none,M x c e a1}
  obtain⟨v,o,ho,hd⟩:=I.cell x c a2;exact{v,o,hk _ _ ho,hd}
 free:=I.hok.fresh (Qy _)
 freeC:=λx c e=>(h.sub x c e).elim (λz=>I.hok.fresh (SH z.2)) λz=>I.freeC x c z.2
 pin:=λp hp=>nomatch hp
 hok:=I.hok.kept hk
 len:=by
  show(List.replicate own.length none++σ).length=(own++bn).length;have:=Paired.length S.dis;simp[I.len,this]
def comp_back (I:Inv X pins σ H s)(h:∀b∈fp,fN X pins H b)(j:Inv (f5 X own bn scope cl C fp s H) pins' σ' H' s'):Inv X pins σ H' s':=
 I.call' j.os j.base j.hok j.bare λb u=>{(h b u).2.2.2.1,(h b u).2.1,(h b u).2.2.2.2.1,(h b u).2.2.2.2.2}
def r6 (I:Inv X pins σ H s)(hf:H' s.heap.objs.size=none)(h:Inv X pins σ' H' s')(hs:R9 s.heap.objs.size s'.heap h''):Inv X pins σ' H' {s' with heap:=h''}:=
 h.turned (λb o j e=>(hs.2 b j).trans e) hf (Ry I.lt) (.inr I.sz) (λx c e z=>by
  obtain⟨v,q⟩:=I.cell x c e;exact absurd q.lt (by rw[z];exact RO _)) λp u z=>absurd (QW (I.pin p u).1) (by rw[z];exact RO _)
end
structure fO (a:Addr) (μ:Mu) (H:Hp) (μ':Mu) (H':Hp):Prop extends ExtW μ H μ' H' where
 pr:μ'.priv=μ.priv
 pk:∀b∈μ.priv,b≠a->H' b=H b
def fO.refl:fO a μ H μ H:={.refl,rfl,λ_ _ _=>rfl}
def fO.trans (x:fO a μ H μ1 H1)(y:fO a μ1 H1 μ2 H2):fO a μ H μ2 H2:=
 {x.toExtW.trans y.toExtW,y.pr.trans x.pr,λb h n=>(y.pk b (by rw[x.pr];exact h) n).trans (x.pk b h n)}
def Ext.toD (x:Ext μ H μ' H'):fO a μ H μ' H':={x.toExtW,x.pr,λb h _=>x.pk b h}
noncomputable def slots:fW->List Nat
 |.one i=>[i]
 |.tup l=>l
 |.two i l=>i::l
def Clear (W:List Nat)(Z:Env):Prop:=∀i∈W,∀d,Z[i]?≠some (some d)
section
variable{fa:Fa}{K:Qs}{μ μ':Mu}{H H':Hp}{σ:L2.St}{Z ρ1:Env}{M:Mem}{a:Addr}
def bt.weak (h:bt fa K μ H σ ρ1)(hl:ρ1.length=Z.length)(w:∀(i:Nat) d,Z[i]?=some (some d)->ρ1[i]?=some (some d)):bt fa K μ H σ Z:=
 {h.len.trans hl,λi d e=>h.at' i d (w i d e)}
theorem kQ:∀{l:List Nat}{ds:List D}{Z ρ1:Env},cg l ds Z=some ρ1->ρ1.length=Z.length/\∀i,i∉l->ρ1[i]?=Z[i]?
 |[],[],Z,ρ1,h=>by cases h;exact{rfl,λ_ _=>rfl}
 |_::_,[],_,_,h=>by cases h
 |[],_::_,_,_,h=>by cases h
 | j::l,d::ds,Z,ρ1,h=>by
   obtain⟨h1,h2⟩:=kQ (ds:=ds) h;refine{by simpa using h1,λi u=>?_}
   rw[h2 i (λz=>u (QF _ z)),QJ (λz=>u (by rw[z];exact QM))]
def sg (h:b4 t d Z=some ρ1):ρ1.length=Z.length/\∀i,i∉slots t->ρ1[i]?=Z[i]?:=by
 cases t with
 | one j=>
   cases h;exact{`s,λi u=>QJ (λz=>u (by rw[z];exact QM))}
 | tup l=>
   cases d with
   |tup v=>exact kQ h
   |_=>cases h
 | two j l=>
   obtain⟨e,v,rfl,h⟩:=vg h;obtain⟨h1,h2⟩:=kQ h;refine{by simpa using h1,λi u=>?_}
   rw[h2 i (λz=>u (QF _ z)),QJ (λz=>u (by rw[z];exact QM))]
def bt.unbind (h:b4 t d Z=some ρ1)(c:Clear (slots t) Z)(r:bt fa K μ H σ ρ1):bt fa K μ H σ Z:=by
 obtain⟨h1,h2⟩:=sg h;refine r.weak h1 λi d e=>?_;by_cases j:i∈slots t
 ·exact absurd e (c i j d)
 ·rw[h2 i j];exact e
def RelM.writeP (h:RelM fa K μ H M)(e:a∈μ.priv)(v:H a=some (.lst vs)):RelM fa K μ (upd H a (.lst ws)) M:=by
 have x:ExtW μ H μ (upd H a (.lst ws)):=ExtW.write v (.inr e);refine{λk B q=>?_,h.out,h.oout,h.inj,h.oinj,h.sep,λb y=>{?_,(h.pv b y).2}}
 ·rcases h.at' k B q with⟨b,u,h1,h2,h3⟩|⟨b,h1,h2,h3⟩
  ·have E:b≠a:=λz=>(h.pv a e).2 k (by rw[h1,z])
   exact .inl {b,u,h1,by rw[aF E];exact h2,h3.extW x}
  ·exact .inr {b,h1,h2,h3.extW x (aF (h3.nl v))}
 ·by_cases j:b=a
  ·subst j;exact⟨ws,cx⟩
  ·obtain⟨u,q⟩:=(h.pv b y).1;exact{u,by rw[aF j];exact q}
def fO.writeP (e:a∈μ.priv)(h:H a=some (.lst vs)):fO a μ H μ (upd H a (.lst ws)):=
 {ExtW.write h (.inr e),rfl,λb _ n=>by rw[aF n]}
end
abbrev PA:=Mu->Hp->List D->Prop
def yF (A:PA):Prop:=∀μ H μ' H' h,Ext μ H μ' H'->A μ H h->A μ' H' h
def LA (fa:Fa)(K:Qs)(a:Addr):PA:=λμ H h=>a∈μ.priv/\∃j,H a=some (.lst j)/\aG fa K μ H h j
def LA.stab {K:Qs}:yF (LA fa K a):=(by rintro _ _ _ _ _ x ⟨h1,h,h2,h3⟩;exact{by rw[x.pr];exact h1,h,by rw[x.pk _ h1];exact h2,h3.ext x})
def WB (fa:Fa)(K:Qs)(A:PA)(a:Addr)(μ:Mu)(H:Hp)(Z:Env)(Q:L2.St->Hp->Prop)(acc:List D)(M':Mem):Prop:=
 ∀h H' μ',fO a μ H μ' H'->bt fa K μ' H' h Z->RelM fa K μ' H' M'->A μ' H' acc->Q h H'
def WB.ext {K:Qs}(h:WB fa K A a μ H Z Q acc M')(x:fO a μ H μ1 H1):WB fa K A a μ1 H1 Z Q acc M':=
 λj H' μ' y e m h1=>h j H' μ' (x.trans y) e m h1
def DB (fa:Fa)(X:Cx)(A:PA)(a:Addr)(W:List Nat)(body:Sem Unit)(g:Env->List D->Mem->Res (List D)):Prop:=
 ∀(h:List (Addr×Obj)) (s:QA) (σ:L2.St) (H:Hp) (Q:L2.St->Hp->Prop) (μ:Mu) (Z:Env) (M:Mem) (j:List D),Inv X h σ H s->bt fa X.K μ H σ Z->RelM fa X.K μ H M->Clear W Z->A μ H j->
  ae (g Z j M) (WB fa X.K A a μ H Z Q)->wpAny (model X.prog X.w) X.A body (λ_ v=>∃u H',Inv X h u H' v/\Q u H') X.xe s
def bI (ge:Env->Mem->Res D):Env->List D->Mem->Res (List D):=λZ h M=>(ge Z M).bind λx M=>if h.length<sz then .ok (h++[x]) M else .bad
def rV (j:Env->Mem->Res Bool)(g:Env->List D->Mem->Res (List D)):Env->List D->Mem->Res (List D):=λZ h M=>(j Z M).bind λk M=>if k then g Z h M else .ok h M
def cW (t:fW)(g:Env->List D->Mem->Res (List D))(Z:Env):List D->D->Mem->Res (List D):=λh d M=>(bV M (b4 t d Z)).bind λρ1 M=>g ρ1 h M
def uS (t:fW)(j:Env->Mem->Res Walk)(g:Env->List D->Mem->Res (List D)):Env->List D->Mem->Res (List D):=λZ h M=>(j Z M).bind λw M=>cV (cW t g Z) w h M
section
variable{fa:Fa}{X:Cx}{a:Addr}
set_option tactic.hygienic true in
def uZ (he:DE fa X elt ge):DB fa X (LA fa X.K a) a [] (eval elt X.env >>= λx=>call (.builtin "list.append") [.ref a,x] >>= λ_=>pure ()) (bI ge):=by
 rintro z s σ H Q μ Z M Y I P hM hc ⟨R,J,hH,hr⟩ h;obtain⟨x,W,e,q⟩:=aJ h;split at q
 ·next hz=>
  refine tqa (aP (he z s σ H (λv y=>∃j,Ext μ H j y/\RelM fa X.K j y W/\Rep fa X.K j y x v) I {μ,Z,M,P,hM,?_}) λu s1 ⟨v,y,S,rv,j,F,O,r1⟩=>?_)
  ·rw[e];exact λv y j F O r1=>⟨j,F,O,r1⟩
  have B:y a=some (.lst J):=by rw[F.pk a R];exact hH
  have E:a∈j.priv:=by rw[F.pr];exact R
  have hl:J.length<sizeLine:=by rw[hr.length,<- dz];exact hz
  refine tqa (aP (my z s1 σ y (.ref a) [v] (.ref a) [u] (λ_ L=>L=upd y a (.lst (J++[v]))) S rfl (.cons rv .nil) ⟨a,J,v,rfl,rfl,B,hl,rfl⟩) λ_ s2 ⟨_,L,U,_,e2⟩=>tqb {σ,L,U,?_});subst e2;have xd:fO a j y j (upd y a (.lst (J++[v]))):=fO.writeP E B;exact q σ _ j (F.toD.trans xd) ((P.ext F).extW xd.toExtW) (O.writeP E B) {E,_,cx,((hr.ext F).append (.one r1)).extW xd.toExtW}
 ·exact q.elim
def Nj (O:yF A)(U:DT fa X c gc)(S:DB fa X A a W body g) :
 DB fa X A a W (isTrue c X.env (eval c X.env) >>= λok=>if ok=true then body else pure ()) (rV gc g):=by
 intro u s σ H Q μ Z M B I E R Y L h;obtain⟨k,J,e,q⟩:=aJ h;refine tqa (aP (U u s σ H (λb y=>b=k/\∃j,Ext μ H j y/\RelM fa X.K j y J) I {μ,Z,M,E,R,?_}) λb s1 ⟨y,F,P,j,v,z⟩=>?_)
 ·rw[e];exact λy j v z=>⟨rfl,j,v,z⟩
 subst P;cases b with
 | true=>
   rw[if_pos rfl];exact S u s1 σ y Q j Z J B F (E.ext v) z Y (O _ _ _ _ _ v L) (aT q λ_ _ w=>w.ext v.toD)
 | false=>
   rw[if_neg QX];exact tqb {σ,y,F,q σ y j v.toD (E.ext v) z (O _ _ _ _ _ v L)}
def qY (sA:yF A)
 (heq:compTurn ce k (.ref it) (.ref a) X.env=(standAt p >>= λ_=>pyNext (.ref it) >>= λr=>match r with
  |none=>pure (.done .next)
  |some v=>letOwnedTupleGo tg (.ref it) v >>= λ_=>assign tg X.env v >>= λ_=>body >>= λ_=>again (.compLoop ce k (.ref it) (.ref a) X.env)))
 (hd:(model X.prog X.w).den (.compLoop ce k (.ref it) (.ref a) X.env)=(compTurn ce k (.ref it) (.ref a) X.env).onRaise (λx=>do noteFrame x X.env;theTreesLotGoes x)/\X.A.under (.compLoop ce k (.ref it) (.ref a) X.env)=X.A) (hx:X.xe=FF) (U:X.calm=true) (T:Turn X.prog X.w X.K tg J fp it tn) (hg:PG X tg (gT fa X.K t)) (S:DB fa X A a W body g) (hW:∀i∈W,i∉slots t)
 (I:Inv X pins σ H s) (st:tn 0 s.heap) (hf:∀b∈fp,fN X pins H b) (hE:bt fa X.K μ H σ Z) (hM:RelM fa X.K μ H M)
 (hcl:Clear (slots t++W) Z) (hA:A μ H acc) (wk:eK fa X.K μ H w J) (q:ae (cV (cW t g Z) w acc M) (WB fa X.K A a μ H Z Q)) :
 codeAny (model X.prog X.w) X.A (.compLoop ce k (.ref it) (.ref a) X.env) (λr Y=>r=.ok .next/\∃j H',Inv X pins j H' Y/\Q j H') s:=by
 have stat:∀{H':Hp},(∀b∈fp,H' b=none)->∀b∈fp,fN X pins H' b:=λhn b S=>{hn b S,(hf b S).2};have clt:=λi hi=>hcl i (RE _ hi);have clW:∀d ρ1,b4 t d Z=some ρ1->Clear W ρ1:=λd ρ1 e i hi d' z=>by
  rw[(sg e).2 i (hW i hi)] at z;exact hcl i (Rh _ hi) d' z
 let P:Nat->Nat->QA->Prop:=λm i Y=>∃j H' μ' M' B,Inv X pins j H' Y/\tn i Y.heap/\(∀b∈fp,H' b=none)/\fO a μ H μ' H'/\bt fa X.K μ' H' j Z/\RelM fa X.K μ' H' M'/\A μ' H' B/\
  ae (gn (cW t g Z) w m i B M') (WB fa X.K A a μ H Z Q)
 have P0:∃m,P m 0 s:={_,σ,H,μ,M,acc,I,st,λb S=>(hf b S).1,.refl,hE,hM,hA,q};obtain⟨m0,P0⟩:=P0;have hturn:∀(n:Nat) (i:Nat) (s3:QA),P n i s3->wpAny (model X.prog X.w) X.A (pyNext (.ref it)) (λr y=>match r with
  |none=>(∃j H',Inv X pins j H' y/\Q j H')
  |some v=>wpAny (model X.prog X.w) X.A (letOwnedTupleGo tg (.ref it) v) (λ_ F=>wpAny (model X.prog X.w) X.A (assign tg X.env v) (λ_ L=>wpAny (model X.prog X.w) X.A body (λ_ O=>∃m,m<n/\P m (i+1) O) FF L) FF F) FF y) FF s3:=by
  rintro n i s3 ⟨σ3,H3,E,M3,R,I3,st3,fr3,x3,hE3,hM3,hA3,q3⟩;have one:∀(d:D) (rest:List D->Mem->Res (List D)) (next:List D->Mem->Prop),J.go i H3->(∀x H',J.yld i H3 x H'->Ext E H3 E H'/\RelM fa X.K E H' M3/\Rep fa X.K E H' d x)->ae ((cW t g Z R d M3).bind rest) (WB fa X.K A a μ H Z Q)->
   (∀j H' μ' M' B Y,Inv X pins j H' Y->tn (i+1) Y.heap->(∀b∈fp,H' b=none)->fO a μ H μ' H'->bt fa X.K μ' H' j Z->RelM fa X.K μ' H' M'->A μ' H' B->ae (rest B M') (WB fa X.K A a μ H Z Q)->∃m,m<n/\P m (i+1) Y)->
   wpAny (model X.prog X.w) X.A (pyNext (.ref it)) (λr y=>match r with
    |none=>(∃j H',Inv X pins j H' y/\Q j H')
    |some v=>wpAny (model X.prog X.w) X.A (letOwnedTupleGo tg (.ref it) v) (λ_ F=>wpAny (model X.prog X.w) X.A (assign tg X.env v) (λ_ L=>wpAny (model X.prog X.w) X.A body (λ_ O=>∃m,m<n/\P m (i+1) O) FF L) FF F) FF y) FF s3:=by
   intro d rest next go yl qd fin
   refine aP (T.item X rfl rfl rfl U i pins s3 σ3 H3 FF I3 (stat fr3) st3 go) ?_;rintro r s4 ⟨u,hr4,h4⟩;subst hr4;refine aP h4 ?_;rintro _ s5 ⟨x,H5,I5,r5,y5,st5,fr5⟩;obtain⟨x5,hM5,rd⟩:=yl x H5 y5;have I5':=I5.pinned (stat fr5) (T.obj _ _ st5);obtain⟨acc6,M6,e6,q6⟩:=aJ qd;obtain⟨ρ1,M7,e7,e8⟩:=fj e6;cases eb:b4 t d Z with
   |none=>rw[eb] at e7;cases e7
   | some ρ2=>
     rw[eb] at e7;cases e7;have hg':=hg _ s5 σ3 H5 x u (λj H'=>H'=H5/\bt fa X.K E H5 j ρ1) I5' r5 {E,Z,_,d,ρ1,hE3.ext x5,hM5,rd,eb,λσ1 h1=>⟨rfl,h1⟩};rw[hx] at hg';refine aP hg' ?_;rintro _ s6 ⟨σ6,H6,I6,eH,hE6⟩;subst eH;have hb':=S _ s6 σ6 H6 (λj H'=>∃μ',fO a E H6 μ' H'/\bt fa X.K μ' H' j ρ1/\RelM fa X.K μ' H' M6/\A μ' H' acc6) E ρ1 _ R I6 hE6 hM5 (clW d ρ1 eb) (sA _ _ _ _ _ x5 hA3) (by
      rw[e8];exact λj H' μ' z1 z2 z3 z4=>⟨μ',z1,z2,z3,z4⟩)
     rw[hx] at hb';refine aP hb' ?_;rintro _ s7 ⟨σ7,H7,I7,μ7,x7,hE7,hM7,hA7⟩;refine fin σ7 H7 μ7 M6 acc6 s7 I7.unpinned (T.keep _ _ _ st5 λb S o e=>(I7.pin (b,o) (Rh _ (Rh _ (iK S e)))).1) (λb S=>?_) ((x3.trans x5.toD).trans x7) (hE7.unbind eb clt) hM7 hA7 q6;obtain⟨o,e,dd⟩:=T.obj _ _ st5 b S;exact(I7.pin (b,o) (Rh _ (Rh _ (iK S e)))).2.1
  have stop:J.stop i H3->ae (.ok R M3) (WB fa X.K A a μ H Z Q)->wpAny (model X.prog X.w) X.A (pyNext (.ref it)) (λr y=>match r with
   |none=>(∃j H',Inv X pins j H' y/\Q j H')
   |some v=>wpAny (model X.prog X.w) X.A (letOwnedTupleGo tg (.ref it) v) (λ_ F=>wpAny (model X.prog X.w) X.A (assign tg X.env v) (λ_ L=>wpAny (model X.prog X.w) X.A body (λ_ O=>∃m,m<n/\P m (i+1) O) FF L) FF F) FF y) FF s3:=λhs q=>by
   refine aP (T.done X rfl rfl rfl U i pins s3 σ3 H3 FF I3 (stat fr3) st3 hs) ?_;rintro r s4 ⟨hr4,I4⟩;subst hr4;exact{σ3,H3,I4,q σ3 H3 E x3 hE3 hM3 hA3}
  cases n with
  |zero=>exact q3.elim
  | succ n=>
    unfold gn at q3;cases e2:w M3 with
    |none=>rw[e2] at q3;exact q3.elim
    | some ds=>
      rw[e2] at q3;dsimp only at q3;obtain⟨go,stp⟩:=wk E H3 M3 ds x3.toExtW hM3 e2;cases ed:ds[i]? with
      | none=>
        rw[ed] at q3;exact stop (stp i (List.getElem?_eq_none_iff.mp ed)) q3
      | some d=>
        rw[ed] at q3;obtain⟨g1,g2⟩:=go i d ed;refine one d (gn (cW t g Z) w n (i+1)) (λ_ _=>True) g1 g2 q3 ?_;intro j H' μ' M' B Y z1 z2 z3 z4 z5 z6 z7 z8;exact{n,`a,j,H',μ',M',B,z1,z2,z3,z4,z5,z6,z7,z8}
 refine AV heq hd (λn Y=>∃i,P n i Y) (λn s3 ⟨i,h3⟩=>?_) m0 {0,P0};refine aP (hturn n i s3 h3) λr s1 h=>?_;cases r with
 |none=>exact⟨rfl,h⟩
 |some v=>exact aP h λ_ s2 h=>aP h λ_ s3 h=>aP h (by rintro _ s4 ⟨m,hm,h⟩;exact{m,hm,i+1,h})
end
section
variable{prog:Rj}{w:Q8}{A:R6}{s:QA}{R:Result->QA->Prop}
def sE {j t1 B t2 y:Expr}
 (E:codeAny (model prog w) A (.compLoop (.ListComp j [{t1,B,f1,0},{t2,y,f2,0}] scope pos) 1 it acc env) R s)
 (h:wpAny (model prog w) A (pyIter it) (λu v=>codeAny (model prog w) A (.compLoop (.ListComp j [{t1,B,f1,0},{t2,y,f2,0}] scope pos) 1 u acc env) R v)
  (notedBy (model prog w) A env λx v=>R (.error x) v) s) :
 codeAny (model prog w) A (.compStart (.ListComp j [{t1,B,f1,0},{t2,y,f2,0}] scope pos) 1 it acc env) R s:=by
 refine codeAny_of_tree ?_;refine wpAny_notedAt ?_;refine tqa (wpAny_askSetting (wpAny_ite ?_));split
 ·first
   |exact tqa (tqb (tqb (And.intro rfl E)))
   |exact tqb (And.intro rfl E)
 ·first
   |exact tqa (wpAny_rule (tqa (wpAny_standAt (tqa (wpAny_mono h (λu v z=>tqb (And.intro rfl z)) λ_ _ x=>x)))))
   |(refine tqa (wpAny_rule ?_);show wpAny _ _ (standAt y.pos >>= _) _ _ s;exact tqa (wpAny_standAt (tqa (wpAny_mono h (λu v z=>tqb (And.intro rfl z)) λ_ _ x=>x))))
end
section
variable{fa:Fa}{X:Cx}{a:Addr}
def Lq {y t1 W t2 B:Expr}(hx:X.xe=FF)(F:X.calm=true)(hi:DI fa X t2 B gw)(hg:PG X t2 (gT fa X.K t))(he:DE fa X y ge)
 (hs:∀x,foldedSetIterable B X.env x=pure x) :
 DB fa X (LA fa X.K a) a (slots t) (eval B X.env >>= λx=>standAt B.pos >>= λ_=>foldedSetIterable B X.env x >>= λx=>holding [x] (pyIter x) >>= λj=>runOwn (.compStart (.ListComp y [{t1,W,[],0},{t2,B,[],0}] scope pos) 1 j (.ref a) X.env) X.env >>= λ_=>pure ()) (uS t gw (bI ge)):=by
 intro E s σ H Q μ Z M acc I hE hM hc hA h;obtain⟨w,M1,e,q⟩:=aJ h;refine tqa (aP (hi E s σ H (λJ U=>∃u,Ext μ H u U/\RelM fa X.K u U M1/\eK fa X.K u U w J) I {μ,Z,M,hE,hM,?_}) λv s1 h1=>?_)
 ·rw[e];exact λJ U u x1 m1 Y=>⟨u,x1,m1,Y⟩
 refine tqa (wpAny_standAt (tqa (wpAny_of_eq (hs v) (tqa (tqo (aP h1 λitv s2 h2=>?_))))));obtain⟨it,fp,tn,J,H2,ei,I2,T,P,f2,μ2,x2,m2,Y⟩:=h2;subst ei;have go:=qY LA.stab (BE y t1 W t2 B scope pos (.ref it) (.ref a) X.env) ⟨rfl,rfl⟩ hx F T hg (uZ he) (λi hi=>nomatch hi) I2 P f2 (hE.ext x2) m2 (by simpa using hc) (LA.stab _ _ _ _ _ x2 hA) Y (aT q λ_ _ z=>z.ext x2.toD)
 refine tqa (wpAny_runOwn ?_);have L:codeAny (model X.prog X.w) (X.A.mark none) (.compLoop (.ListComp y [{t1,W,[],0},{t2,B,[],0}] scope pos) 1 (.ref it) (.ref a) X.env) (λr O=>match r with|.ok f=>wpAny (model X.prog X.w) X.A (pure ():Sem Unit) (λ_ O=>∃S H',Inv X E S H' O/\Q S H') X.xe O|.error e=>cameBackBy (model X.prog X.w) X.A X.env X.xe e O) s2:=
  codeAny_mono go λr O ⟨er,z⟩=>by subst er;exact tqb z
 exact sE L (T.self _ 0 _ _ _ P L)
end
section
variable{fa:Fa}{K:Qs}{μ1 μ':Mu}{H1 H':Hp}{M1 M':Mem}{a:Addr}
noncomputable def J8 (μ:Mu)(a:Addr):Mu:={μ.pub,a::μ.priv,μ.ob}
def mO (h:RelM fa K μ1 H1 M1)(j:H1 a=none)(o:HO):ExtW μ1 H1 (J8 μ1 a) (upd H1 a o):=by
 have x:ExtW μ1 H1 μ1 (upd H1 a o):=(Ext.alloc h j).toExtW;refine{x.mu,x.tups,λb u e n=>{(x.lsts b u e n).1,λz=>?_},x.frzs,x.exts,x.obs};rcases z with z|z
 ·exact n (.inl z)
 ·rcases Q9.mp z with z|z
  ·subst z;rw[j] at e;cases e
  ·exact n (.inr z)
def zQ (h:RelM fa K μ1 H1 M1)(j:H1 a=none)(vs:List V):RelM fa K (J8 μ1 a) (upd H1 a (.lst vs)) M1:=by
 have x:=mO h j (.lst vs);refine{λk v e=>(h.at' k v e).imp ((by rintro⟨b,u,h1,h2,h3⟩;exact{b,u,h1,by rw[aF (aZ h2 j)];exact h2,h3.extW x})) (by rintro⟨b,h1,h2,h3⟩;exact{b,h1,h2,h3.extW x (aF (h3.new j))}),h.out,h.oout,h.inj,h.oinj,h.sep,λb y=>?_}
 ·rcases Q9.mp y with z|z
  ·subst z;exact{⟨vs,cx⟩,λk e=>by
    obtain⟨_,_,_,q,_⟩:=h.mu_lt e;rw[j] at q;cases q}
  ·obtain⟨⟨u,q⟩,n⟩:=h.pv b z;exact{{u,by rw[aF (aZ q j)];exact q},n}
set_option tactic.hygienic true in
def Gz (h:RelM fa K μ1 H1 M1)(ha:H1 a=none)(x:fO a (J8 μ1 a) (upd H1 a (.lst [])) μ' H')(v:RelM fa K μ' H' M')(hH:H' a=some (.lst vs))(hr:aG fa K μ' H' acc vs)
 (q:ae (aS m acc M') (bb fa K μ1 H1 Q)):Q (.ref a) H':=by
 have S:=λz=>h.pne ha z rfl;have E:=x.pr;have U:∀k,μ'.pub k≠some a:=(v.pv a (by rw[E];exact QM)).2
 have F:=mO h ha (.lst []);have xe:Ext μ1 H1 ⟨μ'.pub,μ1.priv,μ'.ob⟩ H':=by
  refine{{λk b e=>x.mu k b e,λb y e=>x.tups b y (F.tups b y e),λb y e n=>?_,λb ob u e=>x.frzs b ob u (F.frzs b ob u e),λb o i e=>x.exts b o i (F.exts b o i e),λk b e=>x.obs k b (F.obs k b e)},rfl,λb B=>?_}
  ·obtain⟨H,I⟩:=F.lsts b y e n;obtain⟨z3,z4⟩:=x.lsts b y H I;refine{z3,λz=>z4 ?_};rcases z with z|z
   ·exact .inl z
   ·exact .inr (by rw[E];exact QF _ z)
  ·have nb:b≠a:=λe=>S (by rw[<- e];exact B)
   rw[x.pk b (QF _ B) nb,aF nb]
 have Y:ExtW μ' H' ⟨μ'.pub,μ1.priv,μ'.ob⟩ H':={λ_ _ e=>e,λ_ _ e=>e,λb y e n=>{e,λz=>n (z.elim .inl λz=>.inr (by rw[E];exact QF _ z))},λ_ _ _ e=>e,λ_ _ _ e=>e,λ_ _ e=>e}
 have me:RelM fa K ⟨μ'.pub,μ1.priv,μ'.ob⟩ H' M':={λk L e=>(v.at' k L e).imp ((by rintro⟨b,y,h1,h2,h3⟩;exact{b,y,h1,h2,h3.extW Y})) (by rintro⟨b,h1,h2,h3⟩;exact{b,h1,h2,h3.extW Y rfl}),v.out,v.oout,v.inj,v.oinj,v.sep,λb B=>v.pv b (by rw[E];exact QF _ B)}
 have re:=hr.extW Y;have R:¬ (⟨μ'.pub,μ1.priv,μ'.ob⟩:Mu).Mt a:=λz=>z.elim ((by rintro⟨k,e⟩;exact U k e)) S
 unfold aS at q;split at q
 ·cases m with
  | false=>
    exact q (.ref a) H' _ xe me {a,vs,rfl,⟨hH,R⟩,re}
  | true=>
    have pc:∀k b,(fS ⟨μ'.pub,μ1.priv,μ'.ob⟩ M'.length a).pub k=some b->(k=M'.length/\b=a)\/(k≠M'.length/\μ'.pub k=some b):=λk b e=>by
     have e:(if k=M'.length then some a else μ'.pub k)=some b:=e;split at e
     ·next z=>cases e;exact .inl ⟨z,rfl⟩
     ·next z=>exact .inr ⟨z,e⟩
    have O:∀k b,μ'.pub k=some b->(fS ⟨μ'.pub,μ1.priv,μ'.ob⟩ M'.length a).pub k=some b:=λk b e=>by
     show(if k=M'.length then some a else μ'.pub k)=some b;split
     ·next z=>rw[z,v.out _ (Qy _)] at e;cases e
     ·exact e
    have ac:(fS ⟨μ'.pub,μ1.priv,μ'.ob⟩ M'.length a).pub M'.length=some a:=by
     show(if M'.length=M'.length then some a else _)=some a;rw[if_pos rfl]
    have nc:∀b,¬ μ'.Mt b->¬ (fS ⟨μ'.pub,μ1.priv,μ'.ob⟩ M'.length a).Mt b:=λb n z=>by
     rcases z with⟨k,z⟩|z
     ·rcases pc k b z with⟨_,e⟩|⟨_,e⟩
      ·exact n (.inr (by rw[E,e];exact QM))
      ·exact n (.inl ⟨k,e⟩)
     ·exact n (.inr (by rw[E];exact QF _ z))
    have xc:ExtW μ' H' (fS ⟨μ'.pub,μ1.priv,μ'.ob⟩ M'.length a) H':={O,λ_ _ e=>e,λb y e n=>{e,nc b n},λ_ _ _ e=>e,λ_ _ _ e=>e,λ_ _ e=>e};have W:Ext μ1 H1 (fS ⟨μ'.pub,μ1.priv,μ'.ob⟩ M'.length a) H':=by
     refine{{λk b e=>O k b (x.mu k b e),xe.tups,λb y e n=>?_,xe.frzs,xe.exts,xe.obs},rfl,xe.pk};obtain⟨H,I⟩:=F.lsts b y e n;obtain⟨z3,z4⟩:=x.lsts b y H I;exact{z3,nc b z4}
    have P:RelM fa K (fS ⟨μ'.pub,μ1.priv,μ'.ob⟩ M'.length a) H' (M'++[acc]):=by
     refine{λk L e=>?_,λk hk=>?_,λk hk=>v.oout k (by simp at hk;omega),λj k b e1 e2=>?_,v.oinj,λk b z=>?_,λb B=>?_}
     ·by_cases hk:k<M'.length
      ·rw[QE hk] at e;rcases v.at' k L e with⟨b,y,h1,h2,h3⟩|⟨b,h1,h2,h3⟩
       ·exact .inl {b,y,O k b h1,h2,h3.extW xc}
       ·exact .inr {b,h1,by show(if k=M'.length then some a else μ'.pub k)=none;rw[if_neg (Q6 hk)];exact h2,h3.extW xc rfl}
      ·have M:k=M'.length:=by
        have:=(Qr.mp e).1;simp at this;omega
       subst M;rw[Q4 (Qy _)] at e;simp at e;subst e;exact .inl {a,vs,ac,hH,hr.extW xc}
     ·simp at hk;show(if k=M'.length then some a else μ'.pub k)=none;rw[if_neg `a]
      exact v.out k `a
     ·rcases pc j b e1 with⟨j1,J⟩|⟨j1,J⟩<;>rcases pc k b e2 with⟨k1,k2⟩|⟨k1,k2⟩
      ·omega
      ·exact absurd (J ▸ k2) (U k)
      ·exact absurd (k2 ▸ J) (U j)
      ·exact v.inj j k b J k2
     ·show μ'.ob (aQ k)=none;rcases pc k b z with⟨e,_⟩|⟨_,e⟩
      ·rw[e];exact v.oout _ (Qy _)
      ·exact v.sep k b e
     ·have B:=B;obtain⟨H,I⟩:=v.pv b (by rw[E];exact QF _ B)
      refine{H,λk e=>?_};rcases pc k b e with⟨_,e⟩|⟨_,e⟩
      ·exact S (e ▸ B)
      ·exact I k e
    exact q (.ref a) H' _ W P ⟨a,rfl,ac⟩
 ·exact q.elim
end
section
variable{fa:Fa}{X:Cx}
def bG (m:Bool)(n:Nat)(t:fW)(j:Env->Mem->Res Walk)(g:Env->List D->Mem->Res (List D)):Env->Mem->Res D:=λh M=>
 (j h M).bind λw M=>(cV (cW t g (List.replicate n none++h)) w [] M).bind (aS m)
def qm (X:Cx)(u B h:Expr)(y:List Expr)(rest:List SG)(j:Scope)(pos:Pos)(body:Addr->RY->Sem Unit):Prop:=
 ∀(z a:Addr) (env:RY),compTurn (.ListComp u ({B,h,y,0}::rest) j pos) 0 (.ref z) (.ref a) env=(standAt h.pos >>= λ_=>pyNext (.ref z) >>= λr=>match r with
  |none=>pure (.done .next)
  |some v=>letOwnedTupleGo B (.ref z) v >>= λ_=>assign B env v >>= λ_=>body a env >>= λ_=>again (.compLoop (.ListComp u ({B,h,y,0}::rest) j pos) 0 (.ref z) (.ref a) env))
structure Block (fa:Fa) (X:Cx) (A:Addr->PA) (own bn:List Str) (scope:Scope) (tg:Expr) (t:fW) (W:List Nat) (body:Addr->RY->Sem Unit) (g:Env->List D->Mem->Res (List D)):Prop where
 pg:∀cl C fp s H,PG (f5 X own bn scope cl C fp s H) tg (gT fa X.K t)
 db:∀cl C fp s H a,DB fa (f5 X own bn scope cl C fp s H) (A a) a W (body a (compEnvC scope cl C X.env)) g
def r9 (h:∀i∈W,i<n):Clear W (List.replicate n none++Z):=λi j d e=>by
 rw[QE (by simpa using h i j),SD] at e
 simp[h i j] at e
def t4 {K:Qs}(n:Nat)(h:bt fa K μ H σ Z):bt fa K μ H (List.replicate n none++σ) (List.replicate n none++Z):=by
 refine{by simp[h.len],λi d e=>?_}
 by_cases j:i<n
 ·rw[QE (by simpa using j),SD] at e
  simp[j] at e
 ·rw[Q4 `o] at e ⊢
  simp only[Sm] at e ⊢;exact h.at' _ d e
def qe {rest:List SG}
 (S:fQ X own bn scope) (R:X.calm=true) (hi:DI fa X tg iter gw) (B:Block fa X (LA fa X.K) own bn scope tg t W body g) (hT:qm X elt tg iter ifs rest scope pos body) (hW:∀i∈W,i∉slots t) (hn:∀i∈slots t++W,i<own.length)
 (hs:∀x,foldedSetIterable iter X.env x=pure x)
 (I:Inv X pins σ H s) (hE:bt fa X.K μ H σ Z) (hM:RelM fa X.K μ H M) (h:ae (bG m own.length t gw g Z M) (bb fa X.K μ H Q))
 (post:∀(a C:Addr) (s':QA) (H':Hp),Inv X pins σ H' s'->Q (.ref a) H'->(∃m,s'.heap.Ns C m)->(∀σ2 E s2,Inv X pins σ2 E s2->(H' C=none->E C=none)->E C=none/\∀P,R9 C s2.heap P->Inv X pins σ2 E {s2 with heap:=P})->H' C=none->(C≠X.env.locals/\∀x c,X.env.cells.lookup x=some c->c≠C)->compPost (model X.prog X.w) X.A X.xe use QQ (.ref a) C (.ok .next) s') :
 wpAny (model X.prog X.w) X.A (comprehension (.ListComp elt ({tg,iter,ifs,0}::rest) scope pos) scope X.env p0 (newList []) false (eval iter X.env) use) QQ X.xe s:=by
 obtain⟨w,M1,ew,q⟩:=aJ h;obtain⟨acc,M2,ea,q2⟩:=aJ q;obtain⟨cl,hcl,O,L⟩:=qf λy hy hf=>I.ok.has y.1 (S.free y hy hf);refine wpAny_comprehension_free rfl hs hcl S.kind S.loc ?_;refine aP (hi pins s σ H (λJ H1=>∃μ1,Ext μ H μ1 H1/\RelM fa X.K μ1 H1 M1/\eK fa X.K μ1 H1 w J) I {μ,Z,M,hE,hM,?_}) λv s1 h1=>aP h1 λitv s2 h2=>?_
 ·rw[ew];exact λJ H1 μ1 x1 m1 wk=>⟨μ1,x1,m1,wk⟩
 obtain⟨it,fp,tn,J,E,ei,I2,T,st2,f2,μ2,x2,m2,wk⟩:=h2;subst ei;refine wpAny_newObj_type ?_;have ha:=I2.hok.fresh (Qy _);have I3:Inv X pins σ (upd E s2.heap.objs.size (.lst [])) {s2 with heap:=s2.heap.push {cls:=.type "list",dict:=none,data:=.seq ([]:List Qw).toArray}}:=
  I2.laid (λb o e=>Qu _ e) (Qy _) {RG _,[],_,.nil,QY _ rfl}
 generalize hs3:({s2 with heap:=s2.heap.push {cls:=.type "list",dict:=none,data:=.seq ([]:List Qw).toArray}}:QA)=s3 at I3 ⊢
 have k3:∀b o,s2.heap.get? b=some o->s3.heap.get? b=some o:=λb o e=>by rw[<- hs3];exact Qu _ e
 have fo2:=T.obj _ _ st2;have f3:∀b∈fp,fN X pins (upd E s2.heap.objs.size (.lst [])) b:=λb u=>by
  obtain⟨o,e,_⟩:=fo2 b u;exact{by rw[aF (Q6 (QW e))];exact(f2 b u).1,(f2 b u).2}
 have fo3:∀b∈fp,∃o,s3.heap.get? b=some o:=λb u=>let{o,e,_}:=fo2 b u;{o,k3 b o e}
 obtain⟨CL,U⟩:=EW S O L (s3.heap.push {cls:=.type "dict",data:=.dict #[]}) (Se ..);generalize F:cellsFrom (s3.heap.objs.size+1) scope.names cl=cl' at CL U;refine rX ?_;rw[F];have j:(pushCells (s3.heap.push {cls:=.type "dict",data:=.dict #[]}) scope.names).Ns s3.heap.objs.size (λ_=>none):=(Heap.Ns.new s3.heap (.type "dict")).keeps (pushCells_keeps _ _);have k4:∀b o,s3.heap.get? b=some o->(pushCells (s3.heap.push {cls:=.type "dict",data:=.dict #[]}) scope.names).get? b=some o:=λb o e=>pushCells_keeps _ _ b o (Qu _ e);generalize pushCells (s3.heap.push {cls:=.type "dict",data:=.dict #[]}) scope.names=h₁ at j k4 U ⊢;clear hcl F O L cl
 rename List (Str×Addr)=>cl
 have I4:=u3 (t':=s3.toks) I3 S CL f3 fo3 j k4 U;have Y:=I4.ok;have f4:∀b∈fp,fN (f5 X own bn scope cl s3.heap.objs.size fp s3 (upd E s2.heap.objs.size (.lst []))) [] (upd E s2.heap.objs.size (.lst [])) b:=λb u=>
  {(f3 b u).1,(Y.exf b u).1,Y.exfs b u,.inl u,(Y.exf b u).2,λp hp=>nomatch hp}
 have st4:=T.keep _ _ _ st2 λb u o e=>k4 b o (k3 b o e);have x3:=mO m2 ha (.lst []);have go:=qY LA.stab (X:=f5 X own bn scope cl s3.heap.objs.size fp s3 (upd E s2.heap.objs.size (.lst []))) (acc:=[]) (hT it s2.heap.objs.size _) ⟨rfl,rfl⟩ rfl R T (B.pg _ _ _ _ _) (B.db _ _ _ _ _ _) hW I4 st4 f4
  (t4 own.length ((hE.ext x2).extW x3)) (zQ m2 ha []) (r9 hn) {QM,_,cx,rfl} (ri wk x3) (by
   rw[ea];rintro σ' H' μ' z1 z2 z3 ⟨_,vs',z4,z5⟩;exact Gz m2 ha z1 z3 z4 z5 (jb q2 x2))
 have go':codeAny (model X.prog X.w) X.A (.compLoop (.ListComp elt ({tg,iter,ifs,0}::rest) scope pos) 0 (.ref it) (.ref s2.heap.objs.size) (compEnvC scope cl s3.heap.objs.size X.env)) (compPost (model X.prog X.w) X.A X.xe use QQ (.ref s2.heap.objs.size) s3.heap.objs.size) {s3 with heap:=h₁}:=
  codeAny_mono go λr s' ⟨er,σ',H',I',z⟩=>by
   subst er;refine post _ _ s' H' (comp_back I3 f3 I') z (let{m,hn,_}:=I'.loc;⟨m,hn⟩) (λσ2 E s2' I2' hf=>{hf I'.free,λP hs''=>r6 I3 (hf I'.free) I2' hs''}) I'.free {Ry I3.lt,λx c e z=>by
    obtain⟨v,q⟩:=I3.cell x c e;exact absurd q.lt (by rw[z];exact RO _)}
 exact codeAny_compStart_list go' (T.self _ 0 _ _ _ st4 go')
def Lx (m:Bool){v z j:Expr}{rest:List SG}
 (S:fQ X own bn scope) (u:X.calm=true) (hi:DI fa X z j gw) (B:Block fa X (LA fa X.K) own bn scope z t W body g) (R:qm X v z j ifs rest scope pos body) (U:∀i∈W,i∉slots t) (hn:∀i∈slots t++W,i<own.length)
 (hs:∀x,foldedSetIterable j X.env x=pure x):DE fa X (.ListComp v ({z,j,ifs,0}::rest) scope pos) (bG m own.length t gw g):=by
 rintro F s σ H Q I ⟨μ,Z,M,O,P,h⟩;rw[eval_ListComp];refine qe S u hi B R U hn hs I O P h ?_;rintro a C Y H' J q ⟨m,hn⟩ y hf _;exact{m,hn,λL E=>{.ref a,H',(y σ H' Y J id).2 L E,rfl,q}}
def yi (m:Bool){y:Str}{rest:List SG}
 (S:fQ X own bn scope) (j:X.calm=true) (hi:DI fa X tg iter gw) (B:Block fa X (LA fa X.K) own bn scope tg t W body g) (hT:qm X elt tg iter ifs rest scope pos body) (hW:∀i∈W,i∉slots t) (hn:∀i∈slots t++W,i<own.length)
 (hs:∀x,foldedSetIterable iter X.env x=pure x) (hN:X.N.Nodup) (hy:X.N[i]?=some y) (hl:X.env.scope.names.lookup y=some .local)
 (J:swapsWith (.ListComp elt ({tg,iter,ifs,0}::rest) scope pos) (some (.Name y py)) spos.line X.env=pure true) :
 DS fa X (.Assign [.Name y py] (.ListComp elt ({tg,iter,ifs,0}::rest) scope pos) spos) (λZ M=>(bG m own.length t gw g Z M).bind λx M=>(bV M (b4 (.one i) x Z)).bind λρ1 M=>.ok (.next ρ1) M):=by
 rintro O s σ H D' I ⟨μ,Z,M,L,Y,h⟩;obtain⟨x,M1,ex,q⟩:=aJ h;rw[exec_Assign_Name_used _ _ _ _ J];refine tqa (wpAny_standAt (tqa ?_));refine tqa (aP (qe S j hi B hT hW hn hs I L Y (by
  rw[ex];exact λv H' μ' P m1 r1=>q _ H' μ' P ((L.ext P).set r1) m1) ?_) λ_ s' hq=>tqb (tqb hq))
 rintro a C s' H' Q q ⟨m,hn⟩ u hf ⟨nL,nC⟩;refine wpAny_assign_Name (rE Q hN hy (.inl hl) (v:=.ref a) rfl (λs2 R ⟨b,hb,E⟩=>?_) (.inr hl));have nb:C≠b:=by
  rcases E with z|z
  ·rw[z];exact nL
  ·exact RR (nC y b z)
 exact{m,hn.sameBut hb nb,λU F=>{_,H',(u _ H' s2 R id).2 U F,q}}
end
section
variable{X:Cx}{pins:List (Addr×Obj)}{σ:L2.St}{H:Hp}{s:QA}{h':Heap}{t':Nat}{ch:List Addr}
def vO (I:Inv X pins σ H s)(hf:∀b∈ch,fN X pins H b)(k:∀b o,b∉ch->s.heap.get? b=some o->h'.get? b=some o):Inv X pins σ H {s with heap:=h',toks:=t'}:=by
 have j:∀b u,H b=some u->b∉ch:=λb u e z=>by rw[(hf b z).1] at e;cases e
 refine I.step (λb y=>{(hf b y).2.2.2.1,(hf b y).2.1,(hf b y).2.2.2.2.1,(hf b y).2.2.2.2.2}) (λb o _ _ h e _=>k b o h e) (λb o _ _ h e _=>{o.slots,k b o h e}) (λ_ _ _ _ n=>n)
  (λb o h e=>{o,k b o h e}) (λ_ _ e=>e) (λ_ _ _ e=>e) (λb ps e=>{#[],by rw[e];simp}) (λm hm=>?_) (λb u e=>?_) I.bare
 ·obtain⟨o,E,B,ho,r⟩:=hm;exact{o,E,B,k _ o (λz=>(hf _ z).2.1 rfl) ho,r}
 ·refine(I.hok b u e).stay (λc v h q=>k c v ?_ q) (λ_ q=>q) λ_ _ q=>q;rcases h with z|z
  ·rw[z];exact j b u e
  ·exact j c _ z
def rq (I:Inv X pins σ H s)(hf:∀b∈ch,fN X pins H b)(k:∀b o,b∉ch->s.heap.get? b=some o->h'.get? b=some o)(B:s.heap.objs.size<=T)(new:fq X.prog X.w (upd H T o) h' T o) :
 Inv X pins σ (upd H T o) {s with heap:=h',toks:=t'}:=by
 have hn:=I.hok.fresh B;have y:∀b u,H b=some u->b∉ch:=λb u e z=>by rw[(hf b z).1] at e;cases e
 refine I.step (λb h=>{(hf b h).2.2.2.1,(hf b h).2.1,(hf b h).2.2.2.2.1,(hf b h).2.2.2.2.2}) (λb o _ _ j e _=>k b o j e) (λb o _ _ j e _=>{o.slots,k b o j e})
  (λb o _ e n=>by rw[aF (Q6 (QO (QW e) B))];exact n)
  (λb o j e=>{o,k b o j e}) (λb xs e=>by rw[aF (aZ e hn)];exact e) (λb ob u e=>by rw[aF (aZ e hn)];exact e) (λb ps e=>{#[],by rw[aF (aZ e hn),e];simp}) (λm hm=>?_) (λb u e=>?_) I.bare
 ·obtain⟨o,F,E,ho,r⟩:=hm;exact{o,F,E,k _ o (λz=>(hf _ z).2.1 rfl) ho,r}
 ·by_cases h:b=T
  ·subst h;rw[cx] at e;cases e;exact new
  ·rw[aF h] at e;refine(I.hok b u e).stay (λc v j q=>k c v ?_ q) (λc q=>by rw[aF (aZ q hn)];exact q) λc xs q=>by rw[aF (aZ q hn)];exact q
   rcases j with z|z
   ·rw[z];exact y b u e
   ·exact y c _ z
end
section
variable{fa:Fa}{X:Cx}{a:Expr}{ga:Env->Mem->Res D}{pos p:Pos}
noncomputable def iq:∀(ds:List D) (k i:Nat),(eF k ds)[i]?=(ds[i]?).map λd=>.tup [.int ((k+i:Nat):Int),d]
 |[],_,_=>by simp[eF]
 |d::ds,k,0=>by simp[eF]
 | d::ds,k,i+1=>by
   have:=iq ds (k+1) i;simp only[eF,List.getElem?_cons_succ,this]
   congr 1
   funext d
   congr 3
   omega
noncomputable def jj:∀(ds:List D) (k:Nat),(eF k ds).length=ds.length
 |[],_=>rfl
 |d::ds,k=>by simp[eF,jj ds]
end
def b5:Bool->Heap->Addr->Array Qw->Prop
 |true,h,a,j=>h.IsList a j
 |false,h,a,j=>h.IsTuple a j
def eP:Bool->Heap->Addr->Addr->Nat->Prop
 |true,h,j,a,i=>h.IsListIter j a i
 |false,h,j,a,i=>h.IsTupleIter j a i
def b5.extBut (x:b5 b h a its)(hs:Heap.ExtBut c h h')(n:a≠c):b5 b h' a its:=by
 cases b<;>(obtain⟨o,ho,r⟩:=x;exact{o,hs a o n ho,r})
def eP.extBut (x:eP b h it a i)(hs:Heap.ExtBut c h h')(n:it≠c):eP b h' it a i:=by
 cases b<;>(obtain⟨o,ho,r⟩:=x;exact{o,hs it o n ho,r})
def b5.at (x:b5 b h a its)(k:∀o,h.get? a=some o->h'.get? a=some o):b5 b h' a its:=by
 cases b<;>(obtain⟨o,ho,r⟩:=x;exact{o,k o ho,r})
def eP.at (x:eP b h it a i)(k:∀o,h.get? it=some o->h'.get? it=some o):eP b h' it a i:=by
 cases b<;>(obtain⟨o,ho,r⟩:=x;exact{o,k o ho,r})
def eP.obj (x:eP b h it a i):∃o,h.get? it=some o/\∀v,o.data≠.cell v:=by
 cases b<;>(obtain⟨o,ho,c,d⟩:=x;exact{o,ho,λv z=>by rw[d] at z;cases z})
section
variable{prog:Rj}{w:Q8}{A:R6}{E:Qw->QA->Prop}{s:QA}
def vt {a b:Nat}(h:a≠b):@Ne Addr a b:=h
def Ik {T:Addr}{j:Array Qw}{k:Nat}{x:Qw}{Q:Unit->QA->Prop}(v:s.heap.get? T=some {cls:=.type "tuple",data:=.seq j})(hz:j.size<=64)
 (h:∀u,u.get? T=some {cls:=.type "tuple",data:=.seq (j.setIfInBounds k x)}->R9 T s.heap u->Q () {s with heap:=u}) :
 wpAny (model prog w) A (updateSeq T (·.setIfInBounds k x)) Q E s:=by
 refine wpAny_updateSeq v rfl (h _ ?_ (R4 ..)) (QC hz `d) (by rw[Array.size_setIfInBounds];exact QC hz `d)
 rw[R7 _ v rfl];simp[Obj.mapSeq]
def iH {b:Bool}{y a:Addr}{i:Nat}{j:Array Qw}{Q:Qw->QA->Prop}(hh:A.handled=none)(h:eP b s.heap y a i)(hl:b5 b s.heap a j)
 (I:∀x u,j[i]?=some x->eP b u y a (i+1)->R9 y s.heap u->Q x {s with heap:=u})
 (H:j[i]?=none->∀u e,Heap.ExtBut y s.heap u->(∃o,u.get? e=some o/\o.cls=.type "StopIteration")->E (.ref e) {s with heap:=u}):wpAny (model prog w) A (Builtin.SmallTypes.nextOf (.ref y)) Q E s:=by
 cases b with
 | true=>cases v : j[i]? with
   |some x=>exact wpAny_nextOf_list_item h hl v λu=>I x u v
   |none=>exact wpAny_nextOf_list_end hh h hl v (H v)
 | false=>
   obtain⟨o,ho,J,hd⟩:=id h;obtain⟨L,B,_,nl,z⟩:=hl;refine tqa (wpAny_callSpecial?_slot h.typeIs F.slot_tuple_iterator_next
    (wpAny_call_entry F.slot_tuple_iterator_next h.typeIs F.entry_tuple_iterator_next ?_ (F.args_tuple_iterator_next_1 _)))
   show wpAny _ _ (field (.ref y) 0 >>= _) _ _ s;refine tqa (tqf ho hd rfl ?_);show wpAny _ _ (if (Value.ref a==Value.none)=true then _ else _) _ _ s;rw[if_neg (show ¬ ((Value.ref a==Value.none)=true) from QX)];refine tqa (tqf ho hd rfl ?_);refine tqa (wpAny_seqItems B z ?_);cases v:j[i]? with
   | some x=>
     simp only[RU,v];refine tqa (wpAny_setField ho hd `s (tqb {x,rfl,tqb (I x _ v ?_ (R4 ..))}))
     exact{_,R7 _ ho (Obj.isFreed_of_fields (Su hd _)),(Obj.cls_mapFields ..).trans J,by
      rw[Su hd];simp[rawInt]}
   | none=>
     simp only[RU,v];refine tqa (wpAny_rule (tqa (wpAny_setField ho hd `s ?_)))
     refine tqa ?_;refine tqa (wpAny_newObj_type ?_ (by size_fits))
     refine tqa (wpAny_of_eq (by first|rfl|(simp only[firstArgMember];rfl)) ?_)
     refine wpAny_newObj_type ?_ (by size_fits)
     refine tqa (wpAny_handled ?_);first|rw[show A.in1.handled=none from hh]|rw[hh]
     refine tqa (tqb (wpAny_throw ?_));exact H v _ _ (((R4 ..).extBut.push _).push _) {_,QY _ rfl,rfl}
noncomputable abbrev i6 (us:Array Qw):Obj:={cls:=.type "tuple",data:=.seq us}
noncomputable def qA (n k j:Nat):List Qw:=(List.range' k j).map λk=>Value.ref (n+k)
def yD (n m:Nat)(h j:Heap):Prop:=∀(c:Nat) o,(c<n\/c=n+m\/n+m+2<c)->h.get? c=some o->j.get? c=some o
def yI (n i k:Nat)(l:List (Bool×Nat))(h:Heap):Prop:=∀(j:Nat) b a,l[j]?=some (b,a)->eP b h (n+j) a (if j<k then i+1 else i)
def LS (n:Nat)(l:List (Bool×Nat))(xs:Nat->Array Qw)(h:Heap):Prop:=∀(j:Nat) b a,l[j]?=some (b,a)->a<n/\b5 b h a (xs j)
abbrev ql (h:Heap)(n m:Nat)(v:Qw):Prop:=IsZip h (n+m+2) (n+m) (n+m+1) v
def PX (n m i k:Nat)(l:List (Bool×Nat))(xs:Nat->Array Qw)(v h:Heap):Prop:=ql h n m .ellipsis/\(∃u:Array Qw,u.size=m/\(∀j<k,u[j]?=(xs j)[i]?)/\h.get? (n+m+1)=some (i6 u))/\yI n i k l h/\LS n l xs h/\yD n m v h/\h.objs.size=v.objs.size
theorem Ek {M:Model}{u:Type}{f:Qw×Nat->u->Sem (ForInStep u)}{b:u}{Q:u->QA->Prop}(n m:Nat)(I:Nat->QA->Prop)
 (hs:∀k s,k<m->I k s->wpAny M A (f (.ref (n+k),k) b) (λr v=>r=.yield b/\I (k+1) v) E s) (y:∀s,I m s->Q b s):∀(j k:Nat) (s:QA),k+j=m->I k s->wpAny M A (forIn ((qA n k j).zipIdx k) b f) Q E s
 |0,k,s,e,h=>tqb (y s (e ▸ h))
 | j+1,k,s,e,h=>by
   show wpAny M A (forIn ((Value.ref (n+k),k)::(qA n (k+1) j).zipIdx (k+1)) b f) Q E s;rw[List.forIn_cons];refine tqa (aP (hs k s `a h) ?_)
   rintro _ v ⟨rfl,z⟩;exact Ek n m I hs y j (k+1) v `a z
def sY {n m i:Nat}{l:List (Bool×Nat)}{xs:Nat->Array Qw}{us:Array Qw}{Q:Qw->QA->Prop}(hh:A.handled=none)(hl:l.length=m+1)(h64:m<64)
 (hz:ql s.heap n (m+1) .none) (hTI:s.heap.get? (n+(m+1))=some (i6 (qA n 0 (m+1)).toArray)) (hTO:s.heap.get? (n+(m+1)+1)=some (i6 us)) (U:us.size=m+1) (hi:yI n i 0 l s.heap) (H:LS n l xs s.heap)
 (hQ:∀F us,us.size=m+1->(∀k<m+1,us[k]?=(xs k)[i]?)->ql F n (m+1) (rawInt s.heap.objs.size)->F.get? (n+(m+1)+1)=some (i6 us)->yI n (i+1) 0 l F->F.get? s.heap.objs.size=some (i6 us)->yD n (m+1) s.heap F->Q (.ref s.heap.objs.size) {s with heap:=F})
 (hE:∀F e k,k<m+1->(xs k)[i]?=none->yD n (m+1) s.heap F->(∃o,F.get? e=some o/\o.cls=.type "StopIteration")->E (.ref e) {s with heap:=F}) :
 wpAny (model prog w) A (Builtin.«zip.__next__» {[.ref (n+(m+1)+2)],[]}) (λfin s'=>∃v,fin=.done (.ret v)/\Q v s') E s:=by
 show wpAny _ _ (field (.ref (n+(m+1)+2)) 2 >>= _) _ _ _;refine tqa (tqf hz rfl rfl ?_);refine tqa (tqf hz rfl rfl ?_);refine tqa (wpAny_seqItems hTI rfl ?_);refine tqa ?_;refine tqa (tqf hz rfl rfl (tqb ?_));refine tqa (wpAny_rule ?_);refine tqa (tqf hz rfl rfl ?_);refine tqa (wpAny_setField_rec hz `s λh0 hz0 S=>?_)
 have u0:∀(c:Nat) o,c≠n+(m+1)+2->s.heap.get? c=some o->h0.get? c=some o:=λc o ne=>S.extBut c o ne;have mm:∀{j b a},l[j]?=some (b,a)->j<m+1:=λe=>hl ▸ (Qr.mp e).1;refine tqa (Ek n (m+1) (λk s'=>∃h,s'={s with heap:=h}/\PX n (m+1) i k l xs s.heap h) ?_ ?_ (m+1) 0 _ (Nat.zero_add _) {h0,rfl,hz0,{us,U,λ_ z=>absurd z (S1 _),u0 _ _ `a hTO},λj b a e=>(hi j b a e).at λo=>u0 _ o (by have:=mm e;omega),λj b a e=>{(H j b a e).1,(H j b a e).2.at λo=>u0 _ o (by have:=(H j b a e).1;omega)},λc o L=>u0 c o `a,S.1})
 ·rintro k _ hk ⟨h,rfl,hz,⟨us,U,hx,hT⟩,hi,H,kp,sz⟩;obtain⟨⟨b,a⟩,e⟩:∃p,l[k]?=some p:={_,QL `a}
  have it:=hi k b a e;rw[if_neg (RO k)] at it;refine tqa (wpAny_onRaise ?_);refine tqa (iH hh it (H k b a e).2 (λx h1 ex j1 u=>tqb ?_) λen h1 e1 u ⟨oe,J,R⟩=>?_)
  ·have O:=u.extBut _ _ (vt `a) hT
   refine tqa (wpAny_seqItems O rfl ?_);refine tqa (Ik O `a λh2 hT2 B=>?_)
   have I:∀(c:Nat) o,c≠n+k->c≠n+(m+1)+1->h.get? c=some o->h2.get? c=some o:=λc o x y z=>B.extBut c o y (u.extBut c o x z);refine tqa (wpAny_letGo (tqb {rfl,h2,rfl,I _ _ `a `a hz,{_,(Array.size_setIfInBounds ..).trans U,λj hj=>?_,hT2},λj b' a' M=>?_,λj b a e=>{(H j b a e).1,(H j b a e).2.at λo=>I _ o (by have:=(H j b a e).1;omega) (by have:=(H j b a e).1;omega)},λc o L x=>I c o `a `a (kp c o L x),by rw[B.1,u.1,sz]}))
   ·by_cases jk:j=k
    ·subst jk;rw[Array.getElem?_setIfInBounds_self_of_lt `a,ex]
    ·rw[Array.getElem?_setIfInBounds_ne (RR jk),hx j `a]
   ·by_cases jk:j=k
    ·subst jk;cases e.symm.trans M;rw[if_pos (Nat.lt_succ_self _)];exact j1.at λo=>B.extBut _ o (vt `a)
    ·have q:=hi j b' a' M;have:=mm M;rw[show(if j<k+1 then i+1 else i)=if j<k then i+1 else i by split<;>split<;>omega]
     exact q.at λo=>I _ o `a `a
  ·have W:=u _ _ (vt `a) hz
   have hez:e1≠n+(m+1)+2:=λx=>by subst x;rw[W] at J;cases J;simp at R
   exact wpAny_setField_rec W `s λh2 _ B=>hE h2 e1 k hk en (λc o L x=>B.extBut _ _ (vt `a) (u _ _ (vt `a) (kp c o L x))) {oe,B.extBut _ _ hez J,R}
 ·rintro _ ⟨h4,rfl,X,⟨us,U,hx,hT⟩,hi,H,kp,sz4⟩;refine tqa (wpAny_seqItems hT rfl ?_);refine tqa (wpAny_newTuple (hsz:=QC (show us.toList.length<=64 by rw[Sy];omega) `d) ?_)
  have hzlt:=QW X;refine tqa ?_;have hz6:ql (h4.push (i6 us)) n (m+1) .ellipsis:=Qu _ X;refine tqa (wpAny_setField_rec hz6 `s λh7 hz7 hs7=>?_)
  refine wpAny_setField_rec hz7 `s λh8 Y hs8=>?_
  have I:∀(c:Nat) o,c≠n+(m+1)+2->(h4.push (i6 us)).get? c=some o->h8.get? c=some o:=λc o c1 e=>hs8.extBut _ _ c1 (hs7.extBut _ _ c1 e);refine tqb {_,rfl,?_};have P:=I h4.objs.size _ (Ry hzlt) (QY _ rfl);rw[sz4] at P Y ⊢;refine hQ h8 us U hx Y (I _ _ `a (Qu _ hT)) (λj b a e=>?_) P λc o L e=>I c o `a (Qu _ (kp c o L e))
  have q:=hi j b a e;rw[if_pos (mm e)] at q;exact q.at λo M=>I _ o (by have:=mm e;omega) (Qu _ M)
end
def iw (K:Qs)(H:Hp):Bool->Addr->List V->Prop
 |true,a,xs=>cQ K H a xs
 |false,a,xs=>dO K H a xs
noncomputable def fC:D->Bool
 |.tup _=>false
 |_=>true
noncomputable def da:D->Bool
 |.tup _=>true
 |.lst _=>true
 |.frz _=>true
 |.cell _=>true
 |_=>false
def nE {X:Cx}{u:List (Addr×Obj)}{v:L2.St}{H:Hp}{s:QA}{b:Bool}{a:Addr}{xs:List V}(I:Inv X u v H s)(h:iw X.K H b a xs):∃j:List Qw,Vals xs j/\b5 b s.heap a j.toArray:=by
 cases b with
 |true=>obtain⟨j,r,p,_⟩:=I.list h;exact⟨j,r,p.isList⟩
 |false=>obtain⟨j,r,p,_⟩:=I.tuple h;exact⟨j,r,p⟩
def kU {X:Cx}{j:List (Addr×Obj)}{v:L2.St}{H:Hp}{s:QA}{b:Bool}{a:Addr}{xs ys:List V}(I:Inv X j v H s)(h:iw X.K H b a xs)(u:iw X.K H b a ys):xs=ys:=by
 cases b with
 |true=>exact I.list_inj h u
 |false=>exact I.tuple_inj h u
def kS {fa:Fa}{X:Cx}{μ:Mu}{H:Hp}{M:Mem}{d:D}{a:Addr}{ds:List D}(v:RelM fa X.K μ H M)(h:Rep fa X.K μ H d (.ref a))(e:bT M d=some ds):∃vs,iw X.K H (fC d) a vs/\aG fa X.K μ H ds vs:=by
 cases d with
 |tup xs=>cases e;obtain⟨u,vs,e,s,r⟩:=h;cases e;exact⟨vs,s,r⟩
 |lst xs=>obtain⟨u,vs,j,s,r⟩:=bN v h (e);cases j;exact⟨vs,s,r⟩
 |frz xs=>obtain⟨u,vs,j,s,r⟩:=bN v h (e);cases j;exact⟨vs,s,r⟩
 |cell k=>obtain⟨u,vs,j,s,r⟩:=bN v h (e);cases j;exact⟨vs,s,r⟩
 |_=>cases e
def kT {fa:Fa}{X:Cx}{y:List (Addr×Obj)}{L:L2.St}{μ:Mu}{H:Hp}{s:QA}{M:Mem}{d:D}{v:V}(I:Inv X y L H s)(F:RelM fa X.K μ H M)(h:Rep fa X.K μ H d v)(e:da d=true):∃(a:Nat) (j:Array Qw),v=.ref a/\b5 (fC d) s.heap a j:=by
 have u:∀B,bT M d=some B->∃(a:Nat) (j:Array Qw),v=.ref a/\b5 (fC d) s.heap a j:=λB z=>by
  obtain⟨a,J,rfl,_,_⟩:=i9 F h z;obtain⟨J,s1,_⟩:=kS F h z;obtain⟨j,_,p⟩:=nE I s1;exact⟨a,j.toArray,rfl,p⟩
 cases d with
 |tup xs=>exact u xs rfl
 |lst xs=>exact u xs rfl
 |frz xs=>exact u xs rfl
 | cell k=>
   obtain⟨a,e,hk⟩:=id h;obtain⟨B,_,z,_⟩:=F.mu_lt hk;exact u B z
 |_=>cases e
def b5.lt {b:Bool}{h:Heap}{a:Addr}{j:Array Qw}(x:b5 b h a j):a<h.objs.size:=by
 cases b<;>(obtain⟨o,ho,r⟩:=x;exact QW ho)
def b5.push {b:Bool}{h:Heap}{a:Addr}{j:Array Qw}(x:b5 b h a j)(ob:Obj):b5 b (h.push ob) a j:=by
 cases b<;>(obtain⟨o,ho,r⟩:=x;exact{o,Qu _ ho,r})
noncomputable def d3 (b:Bool)(a:Addr):Obj:={cls:=.type (if b then "list_iterator" else "tuple_iterator"),data:=.fields #[.ref a,.int 0 0]}
def eP.new {b:Bool}{h:Heap}{j a:Addr}(e:h.get? j=some (d3 b a)):eP b h j a 0:=by
 cases b<;>exact{_,e,rfl,rfl}
def pD {prog:Rj}{w:Q8}{A:R6}{E:Qw->QA->Prop}{s:QA}{b:Bool}{a:Addr}{j:Array Qw}{Q:Qw->QA->Prop}(h:b5 b s.heap a j)(u:Q (.ref s.heap.objs.size) {s with heap:=s.heap.push (d3 b a)}):wpAny (model prog w) A (pyIter (.ref a)) Q E s:=by
 cases b with
 |true=>exact wpAny_pyIter_list h u
 |false=>exact wpAny_pyIter_tuple h u
abbrev jA:=List (Bool×Nat)
def LX (K:Qs)(l:jA):It:=
 {λi H=>∀ (j : Nat) b a,l[j]? = some (b,a) -> ∃ xs x,iw K H b a xs /\ xs[i]? = some x,
  λi H v u=>∃p h,H p=none/\v=.ref p/\u=upd H p (.tup h)/\h.length=l.length/\∀(j:Nat) b a,l[j]?=some (b,a)->∀xs,iw K H b a xs->h[j]?=xs[i]?,
  λi H=>(∀(j:Nat) b a,l[j]?=some (b,a)->∃xs,iw K H b a xs)/\∃(j:Nat) (b:Bool) (a:Nat) (xs:List V),l[j]?=some (b,a)/\iw K H b a xs/\xs.length<=i}
def yC (n m:Nat)(l:jA)(i:Nat)(h:Heap):Prop:=ql h n (m+1) .none/\h.get? (n+(m+1))=some (i6 (qA n 0 (m+1)).toArray)/\(∃j:Array Qw,j.size=m+1/\h.get? (n+(m+1)+1)=some (i6 j))/\yI n i 0 l h
noncomputable def HQ (n m:Nat):List Addr:=List.range' n (m+4)
def ee {n m b:Nat}:b∈HQ n m↔n<=b/\b<n+(m+4):=List.mem_range'_1
def D5 {X:Cx}{u:List (Addr×Obj)}{B:L2.St}{H:Hp}{s:QA}{l:jA}(I:Inv X u B H s)(h:∀(j:Nat) b a,l[j]?=some (b,a)->∃xs,iw X.K H b a xs) :
 ∃(vs:Nat->List V) (ws:Nat->List Qw),∀(j:Nat) b a,l[j]?=some (b,a)->iw X.K H b a (vs j)/\Vals (vs j) (ws j)/\b5 b s.heap a (ws j).toArray:=by
 obtain⟨f,hf⟩:=Classical.skolem.mp λj:Nat=>show ∃p:List V×List Qw,∀b a,l[j]?=some (b,a)->iw X.K H b a p.1/\Vals p.1 p.2/\b5 b s.heap a p.2.toArray from by
  cases e:l[j]? with
  |none=>exact{([],[]),λ_ _ z=>by cases z}
  | some p=>
    obtain⟨xs,y⟩:=h j p.1 p.2 e;obtain⟨v,r,q⟩:=nE I y;exact{(xs,v),λJ F z=>by cases z;exact⟨y,r,q⟩}
 exact{λj=>(f j).1,λj=>(f j).2,hf}
theorem DJ:∀{us:List Qw}{R:Nat->V->Prop},(∀(k:Nat) w,us[k]?=some w->∃y,RelV y w/\R k y)->∃ys,Vals ys us/\∀(k:Nat) y,ys[k]?=some y->R k y
 |[],R,_=>{[],.nil,λ_ _ z=>by simp at z}
 | w::r,R,h=>by
   obtain⟨y,e,q⟩:=h 0 w rfl;obtain⟨ys,v,t⟩:=DJ λk w e=>h (k+1) w e;exact{y::ys,.cons e v,λk z e=>match k,e with
    |0,e=>by cases e;exact q
    |k+1,e=>t k z e}
def BC {P:Rj}{w:Q8}{K:Qs}{M:List Expr}{kk:Nat}{pos:Pos}(n m:Nat)(l:jA)(hl:l.length=m+1)(O:m<64)(hn:∀(j:Nat) b a,l[j]?=some (b,a)->a<n) :
 Turn P w K (.Tuple M kk pos) (LX K l) (HQ n m) (n+(m+1)+2) (λi h=>yC n m l i h) where
 mem:=ee.mpr `a
 obj:=λi h ⟨h1,h2,⟨us,_,h3⟩,B⟩ (b:Nat) u=>by
  replace u:=ee.mp u;by_cases c:b<n+(m+1)
  ·obtain⟨j,rfl⟩:∃j,b=n+j:={b-n,`a}
   exact(B j _ _ (QL `a)).obj
  ·rcases(show b=n+(m+1)\/b=n+(m+1)+1\/b=n+(m+1)+2 by omega) with rfl|rfl|rfl
   ·exact{_,h2,λv z=>by cases z}
   ·exact{_,h3,λv z=>by cases z}
   ·exact{_,h1,λv z=>by cases z}
 keep:=λi h h' ⟨h1,h2,⟨us,y,h3⟩,B⟩ k=>{k _ (ee.mpr `a) _ h1,k _ (ee.mpr `a) _ h2,{us,y,k _ (ee.mpr `a) _ h3},λj b a e=>(B j b a e).at (k _ (ee.mpr (by have:=(Qr.mp e).1;omega)))}
 item:=by
  rintro X hP S hK hc i U s σ H E I hf ⟨h1,h2,⟨us,y,h3⟩,B⟩ hg;subst hP S hK;obtain⟨vs,ws,L⟩:=D5 I λj b a e=>(hg j b a e).imp (by rintro _ ⟨_,h,_⟩;exact h)
  have it:∀k,k<m+1->∃x w b a,l[k]?=some (b,a)/\(vs k)[i]?=some x/\(ws k)[i]?=some w/\RelV x w:=λk hk=>by
   have e:l[k]?=some (l[k]'(`a)):=QL _
   obtain⟨xs,x,J,ex⟩:=hg k _ _ e;obtain⟨q1,q2,_⟩:=L k _ _ e;rw[kU I J q1] at ex;obtain⟨w,S,r⟩:=q2.get ex;exact{x,w,_,_,e,ex,S,r}
  have R:s.TypeIs (.ref (n+(m+1)+2)) "zip":={_,h1,rfl};unfold pyNext;refine tqa (wpAny_attempt (wpAny_callSpecial?_slot R F.slot_zip_next
   (wpAny_call_entry F.slot_zip_next R F.entry_zip_next
    (sY (I.ok.hd hc) hl O h1 h2 h3 y B (λj b a e=>{hn j b a e,(L j b a e).2.2}) (λh4 us y J z1 z2 g hTT hk=>tqb {_,rfl,?_}) λh' e k hk en _ _=>?_) (F.args_zip_next_1 _))))
  ·have zlt:n+(m+1)+2<s.heap.objs.size:=QW h1;refine wpAny_letOwnedTupleGo_zip z1 λh5 hz5 hs5=>?_;have Y:∀(c:Nat) o,c≠n+(m+1)+2->h4.get? c=some o->h5.get? c=some o:=λc o=>hs5.extBut c o;obtain⟨ys,vy,ty⟩:=DJ (us:=us.toList) λk w e=>by
    have hk:k<m+1:=by have:=(Qr.mp e).1;rw[Sy] at this;omega
    obtain⟨x,w',_,_,_,ex,ew,r⟩:=it k hk;have q:=J k hk;rw[Array.getElem?_toList] at e;simp only[List.getElem?_toArray] at q;rw[e,ew] at q;cases q;exact⟨x,r,ex⟩
   have ly:ys.length=m+1:=by rw[vy.length,Sy,y]
   refine{.ref s.heap.objs.size,upd H s.heap.objs.size (.tup ys),rq (s:=s) I hf (λ(b:Nat) o u q=>Y b o (λz=>u (ee.mpr `a)) (hk b o (by rw[ee] at u;omega) q)) (Qy _) {by rw[ly];exact QC (show m+1<=64 by omega) `d,us.toList,vy,{_,Y _ _ (Ry zlt) hTT,rfl,_,rfl}},rfl,
    {_,ys,I.hok.fresh (Qy _),rfl,rfl,ly.trans hl.symm,λj b a e xs J=>?_},{hz5,Y _ _ `a (hk _ _ `a h2),{us,y,Y _ _ `a z2},λj b a e=>(g j b a e).at λo=>Y _ o (by have:=(Qr.mp e).1;omega)},λ(b:Nat) u=>?_}
   ·have hj:j<ys.length:=by have:=(Qr.mp e).1;omega
    have e1:=QL hj;rw[kU I J (L j b a e).1,ty j _ e1,e1]
   ·rw[ee] at u;rw[aF (Q6 (by omega:(b:Nat)<s.heap.objs.size))];exact(hf b (ee.mpr u)).1
  ·obtain⟨_,_,_,_,_,_,ew,_⟩:=it k hk;simp only[List.getElem?_toArray] at en;rw[ew] at en;cases en
 done:=by
  rintro X hP S hK hc i U s σ H E I hf ⟨h1,h2,⟨us,y,h3⟩,B⟩ ⟨hs,k,b,a,xs,ek,hq,le⟩;subst hP S hK;obtain⟨vs,ws,L⟩:=D5 I hs;have R:s.TypeIs (.ref (n+(m+1)+2)) "zip":={_,h1,rfl};unfold pyNext;refine tqa (wpAny_attempt (wpAny_callSpecial?_slot R F.slot_zip_next
   (wpAny_call_entry F.slot_zip_next R F.entry_zip_next
    (sY (I.ok.hd hc) hl O h1 h2 h3 y B (λj b a e=>{hn j b a e,(L j b a e).2.2}) (λh4 us y J _ _ _ _ _=>?_) λh' e k _ _ hk he=>?_) (F.args_zip_next_1 _))))
  ·exfalso;have hk:=(Qr.mp ek).1;have q:=J k `a
   obtain⟨q1,q2,_⟩:=L k b a ek;rw[Array.getElem?_eq_getElem `a] at q
   simp only[List.getElem?_toArray] at q;rw[SK (by rw[<- q2.length,kU I q1 hq];exact le)] at q
   cases q
  ·obtain⟨o,ho,hcl⟩:=he;refine tqa (wpAny_isInstance ⟨o,ho,hcl⟩ isSubtype_stop ?_);exact tqb {rfl,vO I hf λ(b:Nat) o u q=>hk b o (by rw[ee] at u;omega) q}
 self:=λ_ _ _ _ _ st h=>wpAny_pyIter_zip st.1 h
noncomputable def ib (h:Heap):jA->Heap
 |[]=>h
 |p::r=>ib (h.push (d3 p.1 p.2)) r
noncomputable def sM (h:Heap):jA->List Qw
 |[]=>[]
 |p::r=>.ref h.objs.size::sM (h.push (d3 p.1 p.2)) r
noncomputable def pE:∀{h:Heap}{l:jA},(ib h l).objs.size=h.objs.size+l.length
 |_,[]=>rfl
 |h,p::r=>by show(ib _ r).objs.size=_;rw[pE,Se,Rw];omega
noncomputable def mv:∀{l:jA}{h:Heap}{c:Nat}{o:Obj},h.get? c=some o->(ib h l).get? c=some o
 |[],_,_,_,e=>e
 |_::r,_,_,_,e=>mv (l:=r) (Qu _ e)
noncomputable def rM:∀{l:jA}{h:Heap}{j:Nat}{p:Bool×Nat},l[j]?=some p->(ib h l).get? (h.objs.size+j)=some (d3 p.1 p.2)
 |_::r,h,0,_,e=>by cases e;exact mv (l:=r) (QY _ rfl)
 | q::r,h,j+1,_,e=>by
   have:=rM (h:=h.push (d3 q.1 q.2)) (j:=j) e;rw[Se,Sw,Nat.add_comm 1] at this;exact this
noncomputable def t8:∀{l:jA}{h:Heap}{n k:Nat},h.objs.size=n+k->sM h l=qA n k l.length
 |[],_,_,_,_=>rfl
 | p::r,h,n,k,e=>by
   have:=t8 (l:=r) (h:=h.push (d3 p.1 p.2)) (k:=k+1) (by rw[Se,e];rfl)
   show Value.ref h.objs.size::sM _ r=Value.ref (n+k)::qA n (k+1) r.length;rw[this,e]
abbrev Dw (h:Heap)(l:jA):Heap:=(ib h l).push (i6 (sM h l).toArray)
abbrev yM (h:Heap)(l:jA):Heap:=(Dw h l).push (i6 (l.map λ_=>Value.none).toArray)
abbrev s9 (h:Heap)(l:jA):Heap:=(yM h l).push {cls:=.type "zip",data:=.fields #[.none,.bool false,.bool false,.ref (ib h l).objs.size,.ref (Dw h l).objs.size]}
def Fe (h:Heap){l:jA}{m:Nat}(hl:l.length=m+1):(yM h l).objs.size=h.objs.size+(m+1)+2/\yC h.objs.size m l 0 (s9 h l)/\∀c o,h.get? c=some o->(s9 h l).get? c=some o:=by
 have u:(ib h l).objs.size=h.objs.size+(m+1):=by rw[pE,hl]
 have s1:(Dw h l).objs.size=h.objs.size+(m+1)+1:=by rw[Se,u]
 have s2:(yM h l).objs.size=h.objs.size+(m+1)+2:=by rw[Se,s1]
 have B:∀{c:Nat}{o},(ib h l).get? c=some o->(s9 h l).get? c=some o:=λe=>Qu _ (Qu _ (Qu _ e));have v:(s9 h l).get? (ib h l).objs.size=some _:=Qu _ (Qu _ (QY _ rfl));have y:(s9 h l).get? (Dw h l).objs.size=some _:=Qu _ (QY _ rfl);have z:(s9 h l).get? (yM h l).objs.size=some _:=QY _ rfl;rw[u,t8 (Nat.add_zero _).symm,hl] at v;rw[s1] at y;rw[s2,s1,u] at z;exact{s2,{z,v,{_,by simp[hl],y},λj b a e=>eP.new (B (rM e))},λc o e=>B (mv e)}
def xP (b0:Bool)(a0:Nat)(b1:Bool)(a1:Nat)(xs0 xs1:Array Qw) :
 Meets (Builtin.«zip.__new__» {[.type "zip",.ref a0,.ref a1],[]}) (λ_ R s=>b5 b0 s.heap a0 xs0/\b5 b1 s.heap a1 xs1/\
  R (.ok (.ret (.ref (yM s.heap [(b0,a0),(b1,a1)]).objs.size))) {s with heap:=s9 s.heap [(b0,a0),(b1,a1)]}):=
 .of_wp λprog w A R s h=>by
  obtain⟨y,g,d,tk,os⟩:=s;obtain⟨z,B,h⟩:=h;have j:=sub_zip;have u:=z;have v:b5 b1 (Shared.heap {y.push (d3 b0 a0),g,d,tk,os}) a1 xs1:=(B).push _;wp_walk using pD u,pD v
  exact{_,rfl,h}
section
variable{prog:Rj}{w:Q8}{A:R6}{E:Qw->QA->Prop}{s:QA}{a0 a1 a2:Nat}{b0 b1 b2:Bool}{xs0 xs1 xs2:Array Qw}{Q:Qw->QA->Prop}
def AZ (u:b5 b0 s.heap a0 xs0)(v:b5 b1 s.heap a1 xs1)(h:∀j,yC s.heap.objs.size 1 [(b0,a0),(b1,a1)] 0 j->(∀c o,s.heap.get? c=some o->j.get? c=some o)->Q (.ref (s.heap.objs.size+2+2)) {s with heap:=j}) :
 wpAny (model prog w) A (call (.type "zip") [.ref a0,.ref a1]) Q E s:=by
 obtain⟨z,y,x⟩:=Fe s.heap (l:=[(b0,a0),(b1,a1)]) rfl;refine callType_new F.called_zip `d (F.typeCall_zip_2 _ _) (F.newCall_zip_2 _ _) (λobj=>F.args_object_init_3 obj _ _) F.entry_zip_new (xP b0 a0 b1 a1 xs0 xs1) {u,v,?_}
 show _/\_;rw[z];exact{{_,y.1,rfl},h _ y x}
end
def pw (d0 d1:D):Walk:=λM=>(bT M d0).bind λh=>(bT M d1).map λj=>iz h j
def nR (j u:Env->Mem->Res D):Env->Mem->Res Walk:=λh M=>(j h M).bind λd0 M=>(u h M).bind λd1 M=>if da d0&&da d1 then .ok (pw d0 d1) M else .bad
noncomputable def s8:∀(j u:List D) (i:Nat) (d:D),(iz j u)[i]?=some d↔∃h e1,j[i]?=some h/\u[i]?=some e1/\d=.tup [h,e1]
 |v::t0,y::t1,0,d=>by simp[iz,eq_comm]
 | v::t0,y::t1,i+1,d=>by
   have:=s8 t0 t1 i d;simpa[iz] using this
 |[],_,i,d=>by simp[iz]
 |_::_,[],i,d=>by simp[iz]
noncomputable def sZ:∀(j u:List D) (i:Nat),(iz j u).length<=i->j.length<=i\/u.length<=i
 |v::t0,y::t1,0,h=>by simp[iz] at h
 | v::t0,y::t1,i+1,h=>by
   have:=sZ t0 t1 i (by simpa[iz] using h)
   simpa using this
 |[],_,i,h=>`s
 |_::_,[],i,h=>`s
def L5 (d0 d1 d2:D):Walk:=λM=>(bT M d0).bind λh=>(bT M d1).bind λj=>(bT M d2).map λu=>Dv h j u
def MS (j u v:Env->Mem->Res D):Env->Mem->Res Walk:=λh M=>(j h M).bind λd0 M=>(u h M).bind λd1 M=>(v h M).bind λd2 M=>if da d0&&da d1&&da d2 then .ok (L5 d0 d1 d2) M else .bad
noncomputable def D8 {fa:Fa}{K:Qs}{μ:Mu}{H:Hp}:∀{es:List D}{ws:List V},es.length=ws.length->(∀(j:Nat) e w,es[j]?=some e->ws[j]?=some w->Rep fa K μ H e w)->aG fa K μ H es ws
 |[],[],_,_=>rfl
 |e::es,w::ws,hl,h=>{w,ws,rfl,h 0 e w rfl rfl,D8 (by simpa using hl) λj e w=>h (j+1) e w}
def Bm {fa:Fa}{X:Cx}{μ0:Mu}{H0:Hp}{l:jA}{w:Walk} (Y:∀μ H M ds,ExtW μ0 H0 μ H->RelM fa X.K μ H M->w M=some ds->∃ys:List (List D),ys.length=l.length/\(∀(j:Nat) y b a,ys[j]?=some y->l[j]?=some (b,a)->∃vs,iw X.K H b a vs/\aG fa X.K μ H y vs)/\
 (∀(i:Nat) d,ds[i]?=some d->∃es,d=.tup es/\es.map some=ys.map (·[i]?))/\∀i,ds.length<=i->∃y∈ys,y.length<=i):eK fa X.K μ0 H0 w (LX X.K l):=λμ H M ds x L e=>by
 obtain⟨ys,hl,B,hd,he⟩:=Y μ H M ds x L e;have at_:∀(j:Nat) b a,l[j]?=some (b,a)->∃y vs,ys[j]?=some y/\iw X.K H b a vs/\aG fa X.K μ H y vs:=λj b a e=>by
  have hj:=(Qr.mp e).1;have u:=QL (l:=ys) (i:=j) `a
  obtain⟨vs,q,r⟩:=B j _ b a u e;exact{_,vs,u,q,r}
 refine{λi d O=>?_,λi O=>{λj b a e=>?_,?_}}
 ·obtain⟨es,rfl,F⟩:=hd i d O;have J:∀{j:Nat}{y:List D},ys[j]?=some y->es[j]?.map some=some y[i]?:=λ{j y} u=>by
   have:=congrArg (·[j]?) F;simpa[u] using this
  have le:es.length=l.length:=by have:=congrArg List.length F;simpa[hl] using this
  have S:∀(j:Nat) b a,l[j]?=some (b,a)->∃vs e v,es[j]?=some e/\iw X.K H b a vs/\vs[i]?=some v/\Rep fa X.K μ H e v:=λj b a e=>by
   obtain⟨y,vs,u,q,r⟩:=at_ j b a e;have z:=J u;cases h:es[j]? with
   |none=>rw[h] at z;cases z
   | some e=>
     rw[h] at z;obtain⟨v,B,R⟩:=r.get (Qz z).symm;exact⟨vs,e,v,rfl,q,B,R⟩
  refine{λj b a e=>?_,λy H' ⟨p,zs,P,u,U,lz,t⟩=>?_}
  ·obtain⟨vs,_,v,_,q,B,_⟩:=S j b a e;exact⟨vs,v,q,B⟩
  subst U u;refine{Ext.alloc L P,L.alloc P,p,zs,rfl,.inl (.inl cx),D8 (le.trans lz.symm) λj e w F W=>?_};have I:=QL (l:=l) (i:=j) (by have:=(Qr.mp F).1;omega)
  obtain⟨vs,e',v,h1,q,B,R⟩:=S j _ _ I;have z:=t j _ _ I vs q;rw[W,B] at z;rw[F] at h1;cases z;cases h1;exact R.ext (Ext.alloc L P)
 ·obtain⟨_,vs,_,q,_⟩:=at_ j b a e;exact⟨vs,q⟩
 ·obtain⟨y,hy,ly⟩:=he i O;obtain⟨j,J⟩:=List.getElem?_of_mem hy;have I:=QL (l:=l) (i:=j) (by have:=(Qr.mp J).1;omega)
  obtain⟨vs,q,r⟩:=B j y _ _ J I;exact{j,_,_,vs,I,q,by rw[r.length];exact ly}
section
variable{fa:Fa}{X:Cx}{μ0:Mu}{H0:Hp}{d0 d1 d2:D}{a0 a1 a2:Nat}(r0:Rep fa X.K μ0 H0 d0 (.ref a0))(r1:Rep fa X.K μ0 H0 d1 (.ref a1))(r2:Rep fa X.K μ0 H0 d2 (.ref a2))
include r0 r1
theorem yU:eK fa X.K μ0 H0 (pw d0 d1) (LX X.K [(fC d0,a0),(fC d1,a1)]):=Bm λR H M O x F e=>by
 obtain⟨v,L,e⟩:=Ru.mp e;obtain⟨B,s1,rfl⟩:=QP.mp e;refine{[v,B],rfl,λj y b a u h=>?_,λi d hd=>?_,λi J=>?_}
 ·match j,u,h with
  |0,u,h=>cases u;cases h;exact kS F (Rep.extW x r0) L
  |1,u,h=>cases u;cases h;exact kS F (Rep.extW x r1) s1
 ·obtain⟨P,e1,I,h1,rfl⟩:=(s8 v B i d).mp hd;exact{_,rfl,by simp[I,h1]}
 ·rcases sZ v B i J with z|z<;>exact{_,`s,z}
include r2
end
set_option tactic.hygienic true in
def Hw {fa:Fa}{X:Cx}{B:List Expr}{kk:Nat}{tp p pos:Pos}{Y e1:Expr}{g0 g1:Env->Mem->Res D}(h0:DE fa X Y g0)(h1:DE fa X e1 g1)(hg:Gl X "zip")(hm:X.mg "zip"=none)
 (F:starEach [Y,e1] X.env=[(false,eval Y X.env),(false,eval e1 X.env)]) (v:starEach [e1] X.env=[(false,eval e1 X.env)]):DI fa X (.Tuple B kk tp) (.Call (.Name "zip" p) [Y,e1] [] pos) (nR g0 g1):=by
 rintro O s σ H R I ⟨μ,Z,M,hE,hM,h⟩;obtain⟨d0,M0,c0,t0⟩:=aJ h;obtain⟨d1,M1,c1,t1⟩:=aJ t0;split at t1
 ·next J=>
  simp only[QD] at J;obtain⟨hq0,hq1⟩:=J;refine Call_ (gP I hg hm boot_zip (RZ (aP (cS h0 (cS h1 eD v) (by rw[F,v]) pos O s σ H (λvs y=>∃U W u,vs=[U,W]/\Ext μ H u y/\RelM fa X.K u y M1/\Rep fa X.K u y d0 U/\Rep fa X.K u y d1 W) I ?_) λus s1 ⟨vs,y,z,r1,U,W,u,ev,x1,L,P,S⟩=>?_) (by rw[F,v]) (by rw[v];rfl)))
  ·refine{μ,Z,M,hE,hM,?_};rw[c0];intro U y u x1 L r0;refine{u,Z,M0,(hE.ext x1),L,?_};rw[c1];intro W H2 μ2 x2 m2 r1;exact{U,W,μ2,rfl,(x1.trans x2),m2,(r0.ext x2),r1}
  subst ev;obtain⟨a0,its0,rfl,z0⟩:=kT z L P hq0;obtain⟨a1,its1,rfl,z1⟩:=kT z L S hq1;cases r1 with
  | cons y0 r1=>
    cases r1 with
    | cons y1 r1=>
      cases r1;obtain rfl:=y0;obtain rfl:=y1;refine AZ z0 z1 λh1 za hk=>?_;have I2:=z.kept (t':=s1.toks) hk;refine wpAny_pyIter_zip za.1 ?_;refine{s1.heap.objs.size+2+2,HQ s1.heap.objs.size 1,_,_,y,rfl,I2,BC s1.heap.objs.size 1 [(fC d0,a0),(fC d1,a1)] rfl `d (λj b a e=>match j,e with
       |0,e=>by cases e;exact z0.lt
       |1,e=>by cases e;exact z1.lt),za,λb hb=>?_,t1 _ y u x1 L (yU P S)}
      have hb:=(ee.mp hb).1;exact z.fpOk hb (z.hok.fresh hb)
 ·exact t1.elim
noncomputable def yg (h:Addr):Obj:={cls:=.type "enumerate",data:=.fields #[.none,.bool false,.ref h,rawInt 0,.none,.none]}
set_option tactic.hygienic true in
def Al (l:Addr)(us:Array Qw)(n:Nat)(dct:Option Addr)(sl:Array (Option Qw)) :
 Meets (Builtin.«enumerate.__new__» {[.type "enumerate",.ref l],[]}) (λ_ R s=>s.heap.get? l=some {.type "tuple",dct,.seq us n,sl}/\
  R (.ok (.ret (.ref (s.heap.push (d3 false l)).objs.size))) {s with heap:=(s.heap.push (d3 false l)).push (yg s.heap.objs.size)}):=
 .of_wp λprog w A R s h=>by
  obtain⟨v,g,d,tk,os⟩:=s;obtain⟨j,h⟩:=h;have q:=sub_enumerate;have u:Heap.IsTuple (Shared.heap ⟨v,g,d,tk,os⟩) l us:={_,j,rfl,n,rfl};wp_walk using Sa j
  refine wpAny_stack_any λ_=>tqb ?_;split
  ·rename_i c _ _ _ _ _;cases (c==Value.type "enumerate")<;>
   ·wp_walk using Sa j,wpAny_pyIter_tuple u
    exact{_,rfl,h}
  ·wp_walk using Sa j,wpAny_pyIter_tuple u
   exact{_,rfl,h}
section
variable{prog:Rj}{w:Q8}{A:R6}{E:Qw->QA->Prop}{s:QA}
def Dc (u:b5 b s.heap l us)
 (h:∀j,IsEnum j (s.heap.objs.size+1) s.heap.objs.size 0 .none->eP b j s.heap.objs.size l 0->(∀c o,s.heap.get? c=some o->j.get? c=some o)->Q (.ref (s.heap.objs.size+1)) {s with heap:=j}):wpAny (model prog w) A (call (.type "enumerate") [.ref l]) Q E s:=by
 cases b with
 |true=>exact call_enumerate_list u λj e i _ k=>h j e i k
 | false=>
   obtain⟨⟨c,dct,B,sl⟩,z,y,n,hd⟩:=u;cases y;cases hd;refine callType_new F.called_enumerate `d (F.typeCall_enumerate_1 _) (F.newCall_enumerate_1 _) (λo=>F.args_object_init_2 o _) F.entry_enumerate_new (Al l us n dct sl) {z,?_}
   have v:(s.heap.push (d3 false l)).objs.size=s.heap.objs.size+1:=Se ..;rw[v];have he:IsEnum ((s.heap.push (d3 false l)).push (yg s.heap.objs.size)) (s.heap.objs.size+1) s.heap.objs.size 0 .none:=by
    have:=QY (s.heap.push (d3 false l)) (o:=yg s.heap.objs.size) rfl;rw[v] at this;exact this
   exact{{_,he,rfl},h _ he (eP.new (Qu _ (QY _ rfl))) λc o x=>Qu _ (Qu _ x)}
def Lj (hh:A.handled=none)(y:l≠it)(us:Array Qw):Draws prog w A it [it,l] us.size (λi v=>us[i]?=some v) (λi h=>eP b h it l i/\b5 b h l us) where
 live:=λ_ _ st=>let{o,ho,_}:=st.1.obj;⟨o,ho⟩
 frame:=λ_ _ _ st hk=>{st.1.at λo e=>hk it `s o e,st.2.at λo e=>hk l `s o e}
 item:=λi s Q E J st I=>iH hh st.1 st.2 (λx F u B j=>I _ F s.toks u {B,st.2.extBut j.extBut y} j) λz=>by rw[Array.getElem?_eq_getElem J] at z;cases z
 done:=λs Q E st H=>iH hh st.1 st.2 (λx F u=>by rw[Array.getElem?_eq_none (Qy _)] at u;cases u) λ_=>H
def Li (hh:A.handled=none)(v:us[i]?=none):Draws prog w A it [it,l] i (λ_ _=>True) (λk h=>k=i/\eP b h it l i/\b5 b h l us) where
 live:=λ_ _ st=>let{o,ho,_}:=st.2.1.obj;⟨o,ho⟩
 frame:=λ_ _ _ st hk=>{st.1,st.2.1.at λo e=>hk it `s o e,st.2.2.at λo e=>hk l `s o e}
 item:=λk s Q E u st z=>absurd st.1 (Q6 u)
 done:=λs Q E st j=>iH hh st.2.1 st.2.2 (λx y e=>by rw[v] at e;cases e) λ_=>j
def Ng {P:Nat->Qw->Prop}{St:Nat->Heap->Prop}(D:Draws prog w A it fp n P St)(k:Nat):Draws prog w A it fp (k+n) (λj=>P (j-k)) (λj h=>k<=j/\St (j-k) h) where
 live:=λ_ _ st=>D.live _ _ st.2
 frame:=λ_ _ _ st hk=>{st.1,D.frame _ _ _ st.2 hk}
 item:=λj s Q E B st y=>D.item (j-k) s Q E (by have:=st.1;omega) st.2 λx u tk z hs=>y x u tk z {Nat.le_succ_of_le st.1,by rw[Nat.succ_sub st.1];exact hs}
 done:=λs Q E st v=>D.done s Q E (by have:=st.2;rwa [Rl] at this) v
end
noncomputable def Oy (K:Qs)(b:Bool)(a:Addr)(k:Nat):It:=
 {λi H=>∃xs x,iw K H b a xs/\xs[i]?=some x,λi H v h=>∃p x,H p=none/\v=.ref p/\h=upd H p (.tup [.int (k+i:Nat),x])/\∀xs,iw K H b a xs->xs[i]?=some x,λi H=>∃xs,iw K H b a xs/\xs.length<=i}
def rA {K:Qs}(b:Bool)(a L e:Addr)(k:Nat)(M:e≠L)(hna:a≠L)(hea:e≠a) :
 Turn P w K (.Tuple elts kk pos) (Oy K b a k) [e,L] e (λi h=>(∃old,IsEnum h e L (k+i:Nat) old)/\eP b h L a i) where
 mem:=`s
 obj:=λi h ⟨⟨old,he⟩,hi⟩ c B=>by
  rcases Q9.mp B with z|z
  ·subst z;exact{_,he,λv z=>by cases z}
  ·have e:c=L:=by simpa using z
   subst e;exact hi.obj
 keep:=(by rintro i h h' ⟨⟨old,he⟩,st⟩ q;exact{{old,q e `s _ he},st.at λo e=>q L `s o e})
 item:=by
  intro X hP hw hK hc i S s σ H E I hf st hg;subst hP hw hK;obtain⟨xs,x,Y,hx⟩:=hg;obtain⟨⟨old,he⟩,F⟩:=st;obtain⟨J,rv,p⟩:=nE I Y;obtain⟨u,hu,ru⟩:=rv.get hx;have hi:i<J.toArray.size:=by have:=(Qr.mp hu).1;simpa using this
  have R:k+i-k=i:=Rl k i;refine wpAny_pyNext_enum_itemD (Ng (Lj (A:=X.A.in1) (I.ok.hd hc) hna J.toArray) k) he {Sj k i,by rw[R];exact⟨F,p⟩} (Nat.add_lt_add_left hi k) M (by simp[M,hea]) λU h1 tk y ho j hT hsz hk=>{_,rfl,?_}
  rw[R] at y;replace j:=j.2;rw[show k+i+1-k=i+1 from Rl k (i+1)] at j;have eu:U=u:=by
   have y:J[i]?=some U:=by simpa using y
   rw[hu] at y;exact(Qz y).symm
  subst eu;have hT0:=I.hok.fresh (Qy _);have Q:=QW he;refine wpAny_letOwnedTupleGo_enum ho λh2 he2 O=>?_;have hT2:h2.get? s.heap.objs.size=some {cls:=.type "tuple",data:=.seq #[.int (k+i:Nat) tk,U]}:=(O.2 _ (Ry Q)).trans hT;refine{.ref s.heap.objs.size,upd H s.heap.objs.size (.tup [.int (k+i:Nat),x]),rq (s:=s) I hf (λc o B q=>(O.2 c (λz=>B (by simp[z]))).trans (hk c o (λz=>B (by simp[z])) (λz=>B (by simp[z])) q)) (Qy _) {?_,[.int (k+i:Nat) tk,U],.cons {_,rfl} (.cons ru .nil),{_,hT2,rfl,_,rfl}},rfl,
   {_,x,hT0,rfl,rfl,λys hy=>by rw[kU I hy Y];exact hx},{⟨U,he2⟩,j.1.extBut O.extBut (RR M)},λc B=>?_}
  ·show 2<=sizeLine;decide
  ·have:c<s.heap.objs.size:=by
    rcases Q9.mp B with z|z
    ·subst z;exact Q
    ·have e:c=L:=by simpa using z
     subst e;obtain⟨o,e,_⟩:=F.obj;exact QW e
   rw[aF (Q6 this)];exact(hf c B).1
 done:=by
  intro X hP hw hK hc i S s σ H E I hf st hg;subst hP hw hK;obtain⟨xs,Y,hx⟩:=hg;obtain⟨⟨old,he⟩,F⟩:=st;obtain⟨J,rv,p⟩:=nE I Y;have hl:=rv.length;exact wpAny_pyNext_enum_endD (Li (A:=X.A.in1) (I.ok.hd hc) `o) he ⟨rfl,F,p⟩ λh' eb=>{rfl,vO I hf λc o B q=>eb c o (λz=>B (by simp[z])) q}
 self:=(by rintro _ _ _ _ _ ⟨⟨old,he⟩,_⟩ h;exact wpAny_pyIter_enum he h)
section
variable{fa:Fa}{X:Cx}{a:Expr}{ga:Env->Mem->Res D}{pos p:Pos}
def rj {ad:Addr}{k:Nat}(h:Rep fa X.K μ0 H0 dd (.ref ad)):eK fa X.K μ0 H0 (λM=>(bT M dd).map (eF k)) (Oy X.K (fC dd) ad k):=λY H M W x j e=>by
 dsimp only at e;cases u:bT M dd with
 |none=>rw[u] at e;cases e
 | some I=>
   rw[u] at e;have e:=Qz e;subst e;obtain⟨F,s,r⟩:=kS j (Rep.extW x h) u;refine{λi d hd=>?_,λi P=>{F,s,by rw[r.length,<- jj I k];exact P}}
   rw[iq] at hd;cases e1:I[i]? with
   |none=>rw[e1] at hd;cases hd
   | some U=>
     rw[e1] at hd;have hd:=Qz hd;subst hd;obtain⟨v,J,R⟩:=r.get e1;refine{⟨F,v,s,J⟩,λy S ⟨q,z,B,O,L,Q⟩=>?_};have:=Q F s;rw[J] at this;cases this;subst L O;refine{Ext.alloc j B,j.alloc B,q,[.int (k+i:Nat),v],rfl,.inl (.inl cx),.int (k+i:Nat),[v],rfl,rfl,v,[],rfl,R.ext (Ext.alloc j B),rfl}
def iL (ga:Env->Mem->Res D):Env->Mem->Res Walk:=λh M=>(ga h M).bind λx M=>if da x=true then .ok (λM=>(bT M x).map (eF 0)) M else .bad
def Hy {B:List Expr}(ha:DE fa X a ga)(hg:Gl X "enumerate")(hm:X.mg "enumerate"=none)(hs:starEach [a] X.env=[(false,eval a X.env)]):DI fa X (.Tuple B kk tp) (.Call (.Name "enumerate" p) [a] [] pos) (iL ga):=by
 rintro F s σ H R I ⟨Y,Z,M,hE,hM,h⟩;obtain⟨x,M1,e,q⟩:=aJ h;cases Q:da x with
 |false=>rw[Q] at q;exact q.elim
 |true=>
 rw[Q] at q;refine Call_ (gP I hg hm boot_enumerate (RZ (aP (cS ha eD hs pos F s σ H (λW u=>∃v j,W=[v]/\Ext Y H j u/\RelM fa X.K j u M1/\Rep fa X.K j u x v) I {Y,Z,M,hE,hM,?_}) λus s1 ⟨W,u,J,r1,v,j,ev,S,O,U⟩=>?_) hs rfl))
 ·rw[e];exact λv u j S O r1=>⟨v,j,rfl,S,O,r1⟩
 subst ev;obtain⟨ad,its,rfl,p1⟩:=kT J O U Q;cases r1 with
 | cons r1 rr=>
   cases rr;obtain rfl:=r1;have y:=p1.lt;refine Dc p1 λh1 he P hk=>?_;have I2:=J.kept (t':=s1.toks) hk;refine wpAny_pyIter_enum he ?_;refine{s1.heap.objs.size+1,[s1.heap.objs.size+1,s1.heap.objs.size],_,_,u,rfl,I2,rA (fC x) ad s1.heap.objs.size (s1.heap.objs.size+1) 0 (Nat.succ_ne_self _) (Q6 y) (Ry (SN y)),{{.none,he},P},λb L=>?_,q _ u j S O (rj U)};have L:s1.heap.objs.size<=b:=by
    rcases Q9.mp L with z|z
    ·subst z;exact S2 _
    ·have e:b=s1.heap.objs.size:=by simpa using z
     subst e;exact Qy _
   exact J.fpOk L (J.hok.fresh L)
end
abbrev GE:=Env->Mem->Res D
abbrev GT:=Env->Mem->Res Bool
abbrev GA:=Env->Mem->Res (List D)
abbrev GW:=Env->Mem->Res Walk
abbrev GS:=Env->Mem->Res Fl
abbrev GB:=Env->List D->Mem->Res (List D)
abbrev Call:=Nat->List D->Mem->Res D
def aa (i:Nat):GE:=λh M=>bV M (h[i]?.getD none)
noncomputable def gC (d:D):GE:=λ_ M=>.ok d M
def ag (m:Bool)(o:oA)(a b:GE):GE:=λh M=>(a h M).bind λx M=>(b h M).bind λy M=>fK m o x y M
def av (o:jB)(a b:GE):GE:=λh M=>(a h M).bind λx M=>(b h M).bind λy M=>(bV M (bx o x y M)).bind λb M=>.ok (.bl b) M
def j0 (o j:jB)(a b c:GE):GE:=λh M=>(a h M).bind λx M=>(b h M).bind λy M=>(bV M (bx o x y M)).bind λk M=>
 if k then(c h M).bind λz M=>(bV M (bx j y z M)).bind λb M=>.ok (.bl b) M else .ok (.bl false) M
def fX (a:GE):GE:=λh M=>(a h M).bind λx M=>match x with|.int i=>.ok (.int (-i)) M|_=>.bad
def dS (a b:GE):GE:=λh M=>(a h M).bind λx M=>match x with|.bl true=>b h M|.bl false=>.ok (.bl false) M|_=>.bad
def Ot (a b:GE):GE:=λh M=>(a h M).bind λx M=>match x with|.bl true=>.ok (.bl true) M|.bl false=>b h M|_=>.bad
def Kw (a:GE):GE:=λh M=>(a h M).bind λx M=>match x with|.bl k=>.ok (.bl (!k)) M|_=>.bad
def fY (t:GT)(a b:GE):GE:=λh M=>(t h M).bind λk M=>if k then a h M else b h M
def aw (a b:GE):GE:=λh M=>(a h M).bind λx M=>(b h M).bind λy M=>bV M (bJ x y M)
def aY (m hl hh:Bool)(a lo hi:GE):GE:=λj M=>(a j M).bind λx M=>(lo j M).bind λl M=>(hi j M).bind λh M=>if e9 hl l&&e9 hh h then cj m x l h M else .bad
noncomputable def bj:GA:=λ_ M=>.ok [] M
def bz (a:GE)(s:GA):GA:=λh M=>(a h M).bind λx M=>(s h M).bind λxs M=>.ok (x::xs) M
def aU (s:GA):GE:=λh M=>(s h M).bind lA
def aL (m:Bool)(s:GA):GE:=λh M=>(s h M).bind (aS m)
def ai (f:Nat)(c:Call)(s:GA):GE:=λj M=>(s j M).bind λh M=>c f h M
def mL (i:Nat)(c:Call)(s:GA):GE:=λh M=>match h[i]?.getD none with|some (.fn f)=>(s h M).bind λj M=>c f j M|_=>.bad
def aB (f:xh)(s:GA):GE:=λj M=>(s j M).bind λh M=>di f h M
def cq (t:Ty)(a:GE):GE:=λh M=>(a h M).bind λx M=>(bV M (gQ t x)).bind λb M=>.ok (.bl b) M
def ak (a:GE):GT:=λh M=>(a h M).bind λx M=>bV M (jX M x)
def eW (a b:GT):GT:=λh M=>(a h M).bind λk M=>if k then b h M else .ok false M
def eQ (a b:GT):GT:=λh M=>(a h M).bind λk M=>if k then .ok true M else b h M
def bM (a:GT):GT:=λh M=>(a h M).bind λk M=>.ok (!k) M
def ao (t:fW)(a:GE):GS:=λj M=>(a j M).bind λx M=>(bV M (b4 t x j)).bind λh M=>.ok (.next h) M
def eY (a b d:GE):GS:=λh M=>(d h M).bind λz M=>(a h M).bind λx M=>(b h M).bind λy M=>match x,y with
 | .cell k,.int n=>match M[k]? with
   | some u=>match bY u.length n with
     |some j=>.ok (.next h) (M.set k (u.set j z))
     |none=>.bad
   |none=>.bad
 |_,_=>.bad
def cU (a d:GE):GS:=λh M=>(a h M).bind λx M=>(d h M).bind λz M=>match x with
 | .cell k=>match M[k]? with
   |some j=>if j.length<sz then .ok (.next h) (M.set k (j++[z])) else .bad
   |none=>.bad
 |_=>.bad
def sEx (a:GE):GS:=λh M=>(a h M).bind λ_ M=>.ok (.next h) M
def aA (a:GE):GS:=λh M=>(a h M).bind λx M=>.ok (.ret x) M
noncomputable def D6:GS:=λ_ M=>.ok (.ret .non) M
def D7:GS:=λh M=>.ok (.next h) M
def xy:GS:=λ_ _=>.bad
def aI (c:GT)(a b:GS):GS:=λh M=>(c h M).bind λk M=>if k then a h M else b h M
def cy (t:fW)(w:GW)(b:GS):GS:=λh M=>(w h M).bind λw M=>cV (gm t b) w (.next h) M
def aC:GS:=λh M=>.ok (.next h) M
noncomputable def bc (a b:GS):GS:=λh M=>(a h M).bind λfl M=>match fl with
 |.next h=>b h M
 |fl=>.ok fl M
noncomputable def notStar:Expr->Bool
 |.Starred _ _=>false
 |_=>true
def bo (h:notStar a=true):starEach (a::es) env=(false,eval a env)::starEach es env:=by
 cases a<;>first|rfl|cases h
noncomputable def cZ:∀{es:List Expr},es.all notStar=true->(backTo pos (starEach es env)).any (·.1)=false
 |[],_=>rfl
 | a::es,h=>by
   simp only[RK,QD] at h;have j:=cZ (pos:=pos) (env:=env) h.2;rw[bo h.1];simpa[backTo] using j
section
variable{fa:Fa}{X:Cx}{a b d:Expr}{ga gb gd:GE}{ta tb:GT}{pos p:Pos}{es:List Expr}{gs:GA}{n:Nat}
def Ji {i:Int}(h:Gl X x)(hm:X.mg x=some (.int i t))(hd:(x==("__debug__":Str))=false):DE fa X (.Name x pos) (gC (.int i)):=iX (v:=.int i) (kj h hm ⟨t,rfl⟩ hd) λ_ _=>rfl
end
structure Df where
 params:Nat
 slots:Nat
 body:Call->GS
noncomputable def PD:Fl->Mem->Res D
 |.ret d,M=>.ok d M
 |.next _,M=>.ok .non M
 |.exc x _,M=>.err x M
def PC:Res Fl->Res D
 |.ok fl M=>PD fl M
 |_=>.bad
def gu (c:Call)(d:Df)(ds:List D)(M:Mem):Res D:=if ds.length=d.params then PC (d.body c (ds.map some++List.replicate (d.slots-ds.length) none) M) else .bad
noncomputable def ah (P:Nat->Option Df):Nat->Call
 |0,_,_,_=>.bad
 | n+1,f,h,M=>match P f with
   |none=>.bad
   |some d=>gu (ah P n) d h M
structure yJ (K:Qs) (x qual:Str) (st:Stmt) (f:Addr) (fd:FuncData):Prop where
 ex:∃(oc:Qw) (od:Option Addr) (dV kV doc pm:Qw) (an:Option Addr) (cdv ct:Qw) (osl:Array (Option Qw)),
  fd=PySem.W.fnOf x qual (fx st) (c5 st) (bg st) dV kV doc pm an cdv ct/\K.lookup f=some {oc,od,.func fd,osl}/\PySem.W.codeIn K cdv qual=true
 kp:PySem.W.keepIn K (.ref f)=true
def xa.toD {K:Qs}{st:Stmt}(F:xa K x qual st f fd):yJ K x qual st f fd:=let⟨oc,od,kV,j,pm,v,h,ct,u,r⟩:=F.ex;{{oc,od,.none,kV,j,pm,v,h,ct,u,r},F.kp}
structure yL (fa:Fa) (P:Rj) (w:Q8) (K:Qs) (mg:Str->Option Qw) (base:Heap) (f:Nat) (d:Df):Prop where
 ex:∃(ad:Addr) (fd:FuncData) (ps N:List Str) (st:Stmt) (x qual:Str),fa f=some ad/\yJ K x qual st ad fd/\Binds K fd ps []/\((fa (500+f)).isSome=true->Binds K fd ps [.none])/\i5 N ps (bg st)/\d.params=ps.length/\d.slots=N.length/\
  ∀(call:Call) (n:Nat) (cdv:Qw) (A:R6) (outer:List RY) (s:QA) (H:Hp) (E:XK),(∀f,g6 fa P w K mg base n f (call f))->du (2*n+5) (A.deeper (envOfC qual (bg st) s.heap.objs.size ad cdv))->
   nk fa (gx (iG P w) P w K mg base N qual (bg st) ad cdv A outer s H E) (c5 st) (d.body call)
def zp {K:Qs}(h:aG fa K μ H ds vs):bt fa K μ H (L2.start N vs) (ds.map some++List.replicate (N.length-ds.length) none):=by
 have hl:=h.length;refine{by unfold L2.start;simp[hl],λi d e=>?_}
 by_cases j:i<ds.length
 ·rw[QE (by simpa using j),QS] at e
  cases e1:ds[i]? with
  |none=>rw[e1] at e;cases e
  | some z=>
    rw[e1] at e;cases e;obtain⟨v,u,y⟩:=h.get e1;refine{v,?_,y};unfold L2.start;rw[QE `o,QS,u]
    rfl
 ·rw[Q4 `o,SD] at e
  split at e<;>cases e
def wJ {K:Qs}{st:Stmt}(F:yJ K x qual st f fd)(S:i5 N ps (bg st))(len:∀vs H Q E,sp vs H Q E->vs.length=ps.length)
 (j:∀(h:Qw) (A:R6) (outer:List RY) (s:QA) (H:Hp) (vs:List V) (Q:VK) (E:XK),du k (A.deeper (envOfC qual (bg st) s.heap.objs.size f h))->sp vs H Q E->
  ∃t,kG (gx (iG P w) P w K mg base N qual (bg st) f h A outer s H E) (c5 st) t/\t {nx:=λ_ y=>Q .non y,rt:=Q} (start N vs) H):lW P w K mg base (iG P w) (k+1) f fd ps sp:=by
 obtain⟨oc,od,dV,kV,z,pm,I,h,ct,B,rfl,lk,u⟩:=F.ex;exact MU lk u S len λA outer s H vs Q E hr v=>j h A outer s H vs Q E hr v
set_option tactic.hygienic true in
def sf {K:Qs}
 (hs:d.slots=N.length) (L:RelM fa K μ H M) (hr:aG fa K μ H ds vs) (h:fB (gu c d ds M) (bb fa K μ H Q) (E4 fa K μ H E)):tF fa (gx (iG P w) P w K mg base N qual scope f cd A outer s H E) (d.body c) {nx:=λ_ u=>Q .non u,rt:=Q} (start N vs) H:=by
 unfold gu at h;split at h
 ·refine{μ,_,M,zp hr,L,?_};rw[<- hs];cases e1:d.body c (ds.map some++List.replicate (d.slots-ds.length) none) M with
  | ok fl U=>
    rw[e1] at h;cases fl with
    | next z=>
      have v:=h;exact λB u j S Y R=>v .non u j S R rfl
    |ret d=>exact h
    | exc x z=>
      have v:=h;exact λF B u j s' a C J c p I y _ m ex O hn fl=>CC I fl (v C J c p u j y m ex O hn)
  |err=>rw[e1] at h;exact h.elim
  |bad=>rw[e1] at h;exact h.elim
 ·exact h.elim
theorem vd {P:Rj}{w:Q8}{K:Qs}(h:∀f d,Pg f=some d->yL fa P w K mg base f d):∀(n f:Nat),g6 fa P w K mg base n f (ah Pg n f)
 |0,f=>.inl λ_ _=>rfl
 | n+1,f=>by
   have U:=vd h n;cases e:Pg f with
   |none=>exact .inl λj M=>by show(match Pg f with|none=>Res.bad|some d=>gu (ah Pg n) d j M)=Res.bad;rw[e]
   | some d=>
     have eq:∀j M,ah Pg (n+1) f j M=gu (ah Pg n) d j M:=λj M=>by show(match Pg f with|none=>Res.bad|some d=>gu (ah Pg n) d j M)=_;rw[e]
     obtain⟨ad,J,ps,N,st,x,I,h1,F,O,z,S,R,hs,u⟩:=(h f d e).ex;refine .inr {ad,J,ps,h1,F.kp,O,λj M hl=>?_,?_,z}
     ·rw[eq];unfold gu;rw[if_neg (by rw[R];exact hl)]
     ·refine wJ F S (λY H Q E v=>v.1) λy A outer s H Y Q E hr v=>{_,u (ah Pg n) n y A outer s H E U hr,?_};obtain⟨hl,μ,M,j,L,hr,B⟩:=v;rw[eq] at B;exact sf hs L hr B
def qx (a d:GE):GS:=λh M=>(a h M).bind λx M=>(d h M).bind λz M=>match x,z with
 | .cell k,.cell j=>(match M[k]?,M[j]? with
   |some u,some v=>if u.length+v.length<=sz then .ok (.next h) (M.set k (u++v)) else .bad
   |_,_=>.bad)
 |_,_=>.bad
set_option tactic.hygienic true in
def Ld {a d:Expr}{ga gd:GE}{pos u v:Pos}(ha:DE fa X a ga)(hd:DE fa X d gd)(B:attributeBase a "extend" X.env (eval a X.env)=eval a X.env)(E:(u.endLine==v.line)=true)(hs:starEach [d] X.env=[(false,eval d X.env)])
 (W:swapsWith (.Call (.Attribute a "extend" u) [d] [] v) none pos.line X.env=pure false) :
 DS fa X (.Expr (.Call (.Attribute a "extend" u) [d] [] v) pos) (qx ga gd):=
 cX (ki (xD PySem.F.plainAttrs_list PySem.F.slot_list_extend PySem.F.type_list_extend Aj ha (cS hd eD hs) B (by rw[hs];rfl) E hs `r) W) λD' σ H ⟨μ,Z,M,S,hM,h⟩=>by
  obtain⟨x,M1,e1,h1⟩:=aJ h;obtain⟨z,O,e2,h2⟩:=aJ h1;obtain⟨k,j,I,L,rfl,rfl,J,P,Y,q⟩:∃k j I L,x=.cell k/\z=.cell j/\O[k]?=some I/\O[j]?=some L/\I.length+L.length<=sz/\jV fa X μ H D' (.next Z) (O.set k (I++L)):=by
   cases x with
   | cell k=>
     cases z with
     | cell j=>
       dsimp only at h2;cases J:O[k]? with
       |none=>rw[J] at h2;exact h2.elim
       | some I=>
         cases P:O[j]? with
         |none=>rw[J,P] at h2;exact h2.elim
         | some L=>
           rw[J,P] at h2;dsimp only at h2;split at h2
           ·next Y=>exact⟨k,j,I,L,rfl,rfl,J,P,Y,h2⟩
           ·exact h2.elim
     |_=>exact h2.elim
   |_=>exact h2.elim
  refine{μ,Z,M,S,hM,?_};rw[e1];intro vx H1 μ1 x1 Q rx;obtain⟨ad,rfl,hk⟩:=rx;obtain⟨ds1,ws1,_,U,_⟩:=Q.mu_lt hk;refine{.inl {rfl,ws1,cQ.of U},μ1,Z,M1,S.ext x1,Q,?_};rw[e2];intro vz H2 μ2 R y rz;obtain⟨bd,rfl,hj⟩:=rz;obtain⟨ws,h4,h5⟩:=y.at_ J (R.mu k ad hk);obtain⟨us,h6,h7⟩:=y.at_ P hj;refine{ad,bd,ws,us,rfl,rfl,h4,h6,by rw[h5.length,h7.length,<- dz];exact Y,?_}
  exact ig ((S.ext x1).ext R) y (R.mu k ad hk) (h5.append h7) λσ' H' μ' x' e' m'=>q σ' H' μ' ((x1.trans R).trans x') e' m'
def pq (P:Sh)(e:Sg)(h:Str×Addr):Prop:=∃t,e={PyData.keyHash P h.1,.str h.1 t,.ref h.2}
structure fU (K:Qs) (P:Sh) (a:Addr) (kvs:List (Str×Addr)):Prop where
 ex:∃(es:Array Sg) (n:Nat),K.lookup a=some {cls:=.type "dict",data:=.dict es n}/\Ss (pq P) es.toList kvs
 nd:(kvs.map (·.1)).Nodup
 ns:(a==sysModules)=false
def wB (kvs:List (Str×Addr)):List (Key×Qw):=kvs.map λh=>(Sum.inr h.1,.ref h.2)
noncomputable def uX:∀{es:List Sg}{kvs:List (Str×Addr)},Ss (pq P) es kvs->∀e∈es,∃x t,e.key=.str x t/\e.hash=PyData.keyHash P x
 |_,_,.nil,e,h=>nomatch h
 | _,_,.cons r t,e,h=>by
   rcases Q9.mp h with z|z
   ·subst z;obtain⟨t,rfl⟩:=r;exact{_,t,rfl,rfl}
   ·exact uX t e z
noncomputable def qc:∀{es:List Sg}{kvs:List (Str×Addr)},Ss (pq w.params) es kvs->Pairs (kv prog w) es (wB kvs)
 |_,_,.nil=>.nil
 | e::es,h::kvs,.cons r t=>by
   obtain⟨u,rfl⟩:=r;exact Pairs.cons (jJ h.1 u) rfl (qc t)
def uH (I:Inv X pins σ H s)(h:fU X.K X.w.params a kvs):s.heap.DictOf (kv X.prog X.w) a (wB kvs):=by
 obtain⟨j,n,lk,pr⟩:=h.ex;refine{_,j,n,I.kIn _ _ lk,⟨rfl,rfl,rfl⟩,rfl,λe he=>?_,qc pr,?_}
 ·obtain⟨x,t,e1,e2⟩:=uX pr e (by simpa using he)
  exact{Sum.inr x,by rw[e1];exact jJ x t,e2}
 ·have e:(wB kvs).map (·.1)=(kvs.map (·.1)).map Sum.inr:=by unfold wB;simp
  rw[e];exact List.Pairwise.map _ (λa b (n:a≠b) z=>n (Sum.inr.inj z)) h.nd
def Aq (kvs:List (Str×Addr))(k:Str):valueAt (wB kvs) (Sum.inr k:Key)=(kvs.lookup k).map Value.ref:=by
 induction kvs with
 |nil=>rfl
 | cons j r h=>
   unfold valueAt wB at h ⊢;rw[RQ,List.find?_cons,Rz];by_cases e:j.1=k
   ·subst e;simp
   ·have e2:decide ((Sum.inr j.1:Key)=Sum.inr k)=false:=decide_eq_false λz=>e (Sum.inr.inj z);have u:=Sd.mpr (RR e);rw[e2,u];exact h
def eU (fa:Fa)(kvs:List (Str×Addr))(fs:List (Str×Nat)):Prop:=Ss (λ(p:Str×Addr) (q:Str×Nat)=>p.1=q.1/\fa q.2=some p.2) kvs fs
theorem eU.look:∀{kvs:List (Str×Addr)}{fs:List (Str×Nat)},eU fa kvs fs->(fs.lookup k=none/\kvs.lookup k=none)\/∃f ad,fs.lookup k=some f/\kvs.lookup k=some ad/\fa f=some ad
 |_,_,.nil=>.inl ⟨rfl,rfl⟩
 | (x,a)::r,(y,f)::t,.cons ⟨e1,e2⟩ q=>by
   subst e1;rw[Rz,Rz];cases e:k==x with
   |true=>exact .inr ⟨f,a,rfl,rfl,e2⟩
   |false=>exact eU.look q
def lI (fs:List (Str×Nat))(i:GE):GE:=λh M=>(i h M).bind λd M=>match d with
 |.str k=>bV M ((fs.lookup k).map D.fn)
 |_=>.bad
def iM (fs:List (Str×Nat))(i:GE):GE:=λh M=>(i h M).bind λd M=>match d with
 |.str k=>.ok (.bl (!(fs.lookup k).isSome)) M
 |_=>.bad
section
variable{fa:Fa}{X:Cx}{a b:Expr}{ga gb:GE}{pos p:Pos}{ad:Addr}{kvs:List (Str×Addr)}{fs:List (Str×Nat)}{x:Str}
def CO (hd:fU X.K X.w.params ad kvs):jT X (λx y H Q=>∃k v,x=.ref ad/\y=.str k/\kvs.lookup k=some v/\Q (.ref v) H):=by
 intro z j E s P H x y v u Q I M O h hs;obtain⟨k,c,rfl,rfl,hk,q⟩:=h;cases M;obtain⟨t,rfl⟩:=O;have B:=uH I hd;have J:s.TypeIs (.ref ad) "dict":=let{o,_,_,ho,{L,_},_}:=B;⟨o,ho,L⟩
 refine tail_any J PySem.F.slot_dict_getitem.lookup (wpAny_getItem_of (k:=(Sum.inr k:Key)) (jJ k t) B.mapOf (v:=.ref c) ?_ ?_) hs
 ·rw[Aq,hk];rfl
 ·exact{.ref c,H,I.tok _,rfl,q}
def uf (hd:fU X.K X.w.params ad kvs):bL X (compareOp .NotIn) (λx y H Q=>∃k,x=.str k/\y=.ref ad/\Q (.bl (!(kvs.lookup k).isSome)) H):=by
 intro j s F H x y v u Q I B E h;obtain⟨k,rfl,rfl,q⟩:=h;obtain⟨t,rfl⟩:=B;cases E;have z:=uH I hd;refine wpAny_notIn_of (k:=(Sum.inr k:Key)) (jJ k t) hd.ns z.mapOf ?_;rw[Aq,SM];exact{.bl _,H,I.tok _,rfl,q}
def Jk (hd:fU X.K X.w.params ad kvs)(ho:eU fa kvs fs)(L:Gl X x)(hm:X.mg x=some (.ref ad))(u:(x==("__debug__":Str))=false)(J:DE fa X b gb)(hs:gF b):DE fa X (.Subscript (.Name x p) b pos) (lI fs gb):=
 bC (pH (CO hd) (kj (v:=.ref ad) L hm rfl u) J hs) λU H Q ⟨R,S,M,E,I,h⟩=>t1 E I h λd P v z y O F j r1 h1=>by
  cases d with
  | str k=>
    obtain⟨d,e,q⟩:=kn h1;rcases ho.look with⟨e1,_⟩|⟨f,c,e1,e2,B⟩
    ·rw[e1] at e;cases e
    ·rw[e1] at e;cases e;exact{k,c,rfl,r1,e2,q (.ref c) z y O j {c,rfl,.inl B}}
  |_=>exact h1.elim
def Cp {d:D}{P:D->Mem->Prop}(h:ae (match d with|.str k=>Res.ok (.bl (!(fs.lookup k).isSome)) M1|_=>.bad) P):∃k,d=.str k/\P (.bl (!(fs.lookup k).isSome)) M1:=by
 cases d with
 |str k=>exact⟨k,rfl,h⟩
 |_=>exact h.elim
def C6 (ho:eU fa kvs fs)(k:Str):(kvs.lookup k).isSome=(fs.lookup k).isSome:=by
 rcases ho.look with⟨e1,e2⟩|⟨f,c,e1,e2,_⟩<;>rw[e1,e2]<;>rfl
def AF (ho:eU fa kvs fs)(z:L2.St)(H:Hp)(Q:VK)(h:tE fa X.K (iM fs ga) z H Q):zm (λx y H Q=>∃k,x=.str k/\y=.ref ad/\Q (.bl (!(kvs.lookup k).isSome)) H) (tE fa X.K ga) (tC (.ref ad)) z H Q:=by
 obtain⟨O,P,M,E,I,h⟩:=h;refine t1 E I h λd L v B u J F j r1 h1=>?_;obtain⟨k,rfl,q⟩:=Cp h1;refine{k,r1,rfl,?_};rw[C6 ho];exact q (.bl _) B u J j rfl
def Jj (hd:fU X.K X.w.params ad kvs)(ho:eU fa kvs fs)(z:Gl X x)(hm:X.mg x=some (.ref ad))(j:(x==("__debug__":Str))=false)(y:DE fa X a ga)(u:behindInMarks .NotIn (.Name x p)=false):DE fa X (.Compare a [.NotIn] [.Name x p] pos) (iM fs ga):=
 bC (qE (uf hd) y (kj (v:=.ref ad) z hm rfl j) u) λB H Q h=>AF ho B H Q h
def Js (hd:fU X.K X.w.params ad kvs)(ho:eU fa kvs fs)(J:Gl X x)(hm:X.mg x=some (.ref ad))(j:(x==("__debug__":Str))=false)(I:DE fa X a ga)(u:behindInMarks .NotIn (.Name x p)=false):DT fa X (.Compare a [.NotIn] [.Name x p] pos) (ak (iM fs ga)):=
 kg (qC (uf hd) I (kj (v:=.ref ad) J hm rfl j) u) λW H Q h=>by
  refine AF ho W H _ ?_;obtain⟨S,U,M,E,F,h⟩:=h;obtain⟨z,M3,e,q⟩:=aJ h;refine{S,U,M,E,F,?_};rw[e];have L:∃k,z=.bl k:=by
   obtain⟨d,Y,e1,e2⟩:=fj e;cases d<;>first|(cases e2;exact{_,rfl})|cases e2
  obtain⟨k,rfl⟩:=L;intro v B y R O P;obtain rfl:v=.bl k:=P;exact{k,rfl,q B y R O}
def mI (m:Bool)(a:GE):GE:=λh M=>(a h M).bind λx M=>match x with
 |.int n=>if -(2^62)<=n/\n<2^20 then aS m ((List.range n.toNat).map λ(k:Nat)=>D.int (k:Int)) M else .bad
 |_=>.bad
def xX:∀(n:Nat) (y:List Qw),y.length=n->(∀(i:Nat) (v:Qw),y[i]?=some v->∃t,v=.int (i:Int) t)->Vals ((List.range n).map λ(k:Nat)=>V.int (k:Int)) y:=by
 intro n y hl h;have z:∀(k:Nat) (y:List Qw),(∀(i:Nat) (v:Qw),y[i]?=some v->∃t,v=.int ((k+i:Nat):Int) t)->Vals ((List.range y.length).map λj=>V.int ((k+j:Nat):Int)) y:=by
  intro k y;induction y generalizing k with
  |nil=>intro _;exact .nil
  | cons v r B=>
    intro h;rw[Rw,List.range_succ_eq_map,RQ,Rv];refine .cons (h 0 v rfl) ?_;have:=B (k+1) λi u e=>by
     have:=h (i+1) u (by simpa using e)
     rw[show k+1+i=k+(i+1) by omega];exact this
    refine cast (congrArg (λf=>Vals ((List.range r.length).map f) r) ?_) this
    funext j
    congr 2
    omega
 have:=z 0 y λi v e=>by rw[Nat.zero_add];exact h i v e
 rw[hl] at this;simpa using this
def Gq (m:Bool)(hc:X.calm=true)(ha:DE fa X a ga)(L:Gl X "list")(P:X.mg "list"=none)(hg:Gl X "range")(hm:X.mg "range"=none)(hs:starEach [a] X.env=[(false,eval a X.env)])
 (F:starEach [.Call (.Name "range" p2) [a] [] pos2] X.env=[(false,eval (.Call (.Name "range" p2) [a] [] pos2) X.env)]) :
 DE fa X (.Call (.Name "list" p1) [.Call (.Name "range" p2) [a] [] pos2] [] pos) (mI m ga):=by
 rintro y s σ H Q I ⟨μ,Z,M,hE,hM,h⟩;obtain⟨x,M1,e,q⟩:=aJ h;have U:∀n,x=.int n->ae (if -(2^62)<=n/\n<2^20 then aS m ((List.range n.toNat).map λ(k:Nat)=>D.int (k:Int)) M1 else .bad) (bb fa X.K μ H Q)->
  wpAny (model X.prog X.w) X.A (eval (.Call (.Name "list" p1) [.Call (.Name "range" p2) [a] [] pos2] [] pos) X.env) (EP X y σ Q) X.xe s:=λn en J=>by
  subst en;by_cases c:-(2^62)<=n/\n<2^20
  ·rw[if_pos c] at J;refine Call_ (gP I L P (by decide +kernel:bootBuiltins "list"=some (.type "list")) (RZ ?_ F rfl))
   rw[F];refine Calls.spliced_cons ?_;refine Call_ (gP I hg hm boot_range (RZ (aP (cS ha eD hs pos2 y s σ H (λvs E=>∃j,vs=[.int n]/\Ext μ H j E/\RelM fa X.K j E M1) I {μ,Z,M,hE,hM,?_}) λus s1 ⟨vs,E,I1,r1,j,ev,Y,W⟩=>?_) hs rfl))
   ·rw[e];intro v E j Y W r1;obtain rfl:v=.int n:=r1;exact⟨j,rfl,Y,W⟩
   subst ev;cases r1 with
   | cons r rr=>
     cases rr;obtain⟨t,rfl⟩:=r;refine call_range_1 ?_;refine Calls.spliced_nil ?_;refine call_list_range (n:=n.toNat) (I.ok.hd hc) (IsRange.new ..) (small_one `a `a `a `a) (by rw[rangeSize_one];split<;>omega) `a λh' tk B c' kp eS S=>?_
     obtain⟨R,O⟩:=S;have I2:Inv X y σ E {s1 with heap:=s1.heap.push {cls:=.type "range",data:=.fields #[.int 0 s1.toks,.int n t,.int 1 (s1.toks+1)]},toks:=s1.toks+1+1}:=I1.kept λb o e=>Qu _ e
     have hv:=xX n.toNat B.toList (by simpa using R) λi v e=>by
      obtain⟨u,z⟩:=O i v (by simpa using e)
      exact{u,by rw[z];simp}
     have rl:aG fa X.K j E ((List.range n.toNat).map λ(k:Nat)=>D.int (k:Int)) ((List.range n.toNat).map λ(k:Nat)=>V.int (k:Int)):=by
      have:=aG.ints (fa:=fa) (K:=X.K) (μ:=j) (H:=E) ((List.range n.toNat).map λ(k:Nat)=>(k:Int));simpa[Rv,R8] using this
     obtain⟨c1,k1⟩:=gr W rl (jb J Y);refine{.ref _,_,I2.laid (o:=.lst ((List.range n.toNat).map λ(k:Nat)=>V.int (k:Int))) kp (Qy _) {?_,B.toList,c',hv,by simpa using eS},rfl,k1 _ (I2.hok.fresh (Qy _))}
     rw[rl.length,<- dz];exact c1
  ·rw[if_neg c] at J;exact J.elim
 cases x with
 |int n=>exact U n rfl q
 |_=>exact q.elim
end
noncomputable def qZ (bn N:List Str)(sc scope:Scope):Bool:=
 scope.names.all (λy=>(y.2 != .cell||scope.names.lookup y.1==some .cell)&&(y.2 != .local||scope.names.lookup y.1==some .local)&&(y.2 != .free||sc.names.lookup y.1==some .cell||sc.names.lookup y.1==some .free)) &&
 bn.length==N.length&&(bn.zip N).all λp=>(p.1==p.2&&(scope.names.lookup p.2 != some .local&&scope.names.lookup p.2 != some .cell))||scope.names.lookup p.1==none
noncomputable def pJ {j v:Type}{R:j->v->Prop}:∀{l:List j}{r:List v},l.length=r.length->(∀p∈l.zip r,R p.1 p.2)->Ss R l r
 |[],[],_,_=>.nil
 |a::l,b::r,h,g=>.cons (g (a,b) QM) (pJ (by simpa using h) λp z=>g p (QF _ z))
 |[],_::_,h,_=>by cases h
 |_::_,[],h,_=>by cases h
def AW (hk:scope.kind=.function)(hs:X.env.scope=sc)(v:X.N=N)(h:qZ bn N sc scope=true):fQ X own bn scope:=by
 unfold qZ at h;rw[QD,QD,QV,QV] at h;obtain⟨⟨h1,hl⟩,h2⟩:=h;refine{hk,λy j e=>?_,λy j e=>?_,λy j e=>?_,?_}
 ·have:=h1 y j;rw[e] at this;simpa using this
 ·have:=h1 y j;simp only[QD] at this;rw[e] at this;simpa using this
 ·have:=h1 y j;simp only[QD] at this;rw[e] at this;show X.env.scope.names.lookup y.1=_\/X.env.scope.names.lookup y.1=_;rw[hs];simpa using this
 ·rw[v];refine pJ (by simpa using hl) λp z=>?_
  have:=h2 p z;simp only[Sr,QD,beq_iff_eq,bne_iff_ne] at this;exact this
section
variable{fa:Fa}{X:Cx}{elt tg iter c t2 i2:Expr}{scope:Scope}{pos:Pos}{own bn:List Str}{t u:fW}{gw gw2:GW}{ge:GE}{gc:GT}
def kM {l:List Nat}(h:l.all (· < n)=true):∀i∈l,i<n:=λi j=>by
 have:=QV.mp h i j;simpa using this
def zI {l W:List Nat}(h:W.all (λi=>!l.contains i)=true):∀i∈W,i∉l:=λi j z=>by
 have:=QV.mp h i j;simp[z] at this
variable{i:Nat}{y:Str}{py spos:Pos}
def Gr {i:Int}(j:Gl X x)(hm:∃t,X.mg x=some (.int i t))(hd:(x==("__debug__":Str))=false):DE fa X (.Name x pos) (gC (.int i)):=let{_,h}:=hm;Ji j h hd
def Gu (h:∃ad j,X.mg x=some (.ref ad)/\fU X.K X.w.params ad j/\eU fa j fs)(B:Gl X x)(v:(x==("__debug__":Str))=false)(z:DE fa X b gb)(hs:gF b):DE fa X (.Subscript (.Name x p) b pos) (lI fs gb):=
 let{_,_,h1,h2,h3}:=h;Jk h2 h3 B h1 v z hs
def Gs (h:∃ad j,X.mg x=some (.ref ad)/\fU X.K X.w.params ad j/\eU fa j fs)(E:Gl X x)(v:(x==("__debug__":Str))=false)(B:DE fa X a ga)(z:behindInMarks .NotIn (.Name x p)=false):DE fa X (.Compare a [.NotIn] [.Name x p] pos) (iM fs ga):=
 let{_,_,h1,h2,h3}:=h;Jj h2 h3 E h1 v B z
def Gx (h:∃ad j,X.mg x=some (.ref ad)/\fU X.K X.w.params ad j/\eU fa j fs)(E:Gl X x)(v:(x==("__debug__":Str))=false)(B:DE fa X a ga)(z:behindInMarks .NotIn (.Name x p)=false):DT fa X (.Compare a [.NotIn] [.Name x p] pos) (ak (iM fs ga)):=
 let{_,_,h1,h2,h3}:=h;Js h2 h3 E h1 v B z
def Gp (h:du (n+4) X.A):Rm X:=by have:=h.un;show X.A.units+100<cLine;omega
end
noncomputable def iO {j v:Type}{f g:j->Option v}:∀{l:List j},(∀x∈l,f x=g x)->l.filterMap f=l.filterMap g
 |[],_=>rfl
 | a::l,h=>by
   rw[SY,SY,h a QM,iO λx u=>h x (QF _ u)]
def rK (n:Nat)(xs:List Qw)(h:xs.length=n):(List.range n).filterMap (λ(k:Nat)=>xs[n-1-k]?)=xs.reverse:=by
 have e:∀k∈List.range n,xs[n-1-k]?=some (xs.reverse.getD k .none):=λk hk=>by
  have hk:=R0.mp hk;rw[RJ,List.getElem?_reverse `a,h,QL `a]
  simp
 have:(List.range n).filterMap (λk=>xs[n-1-k]?)=(List.range n).map λk=>xs.reverse.getD k .none:=by
  rw[iO e];simp
 rw[this];refine List.ext_getElem? λi=>?_;rw[QS];by_cases j:i<n
 ·rw[SV j];show some (xs.reverse.getD i .none)=_;rw[RJ,QL (show i<xs.reverse.length by simp;omega)]
  simp
 ·rw[SK `o,SK `o]
  rfl
def sy (h:List Qw):slicePick h.toArray none none (some (-1))=h.reverse.toArray:=by
 unfold slicePick sliceBounds sliceRange;simp only[Option.getD_some,QB];have e1:¬ ((-1:Int) > 0):=`d
 simp only[e1,if_false];have e2:(if (h.length:Int)-1 > -1 then((h.length:Int)-1 - -1 - -1-1) / (- -1) else 0).toNat=h.length:=by
  split
  ·simp
  ·omega
 rw[e2,List.filterMap_map,<- rK h.length h rfl]
 congr 1
 refine iO λk hk=>?_;have j:((h.length:Int)-1+-1*(k:Int)).toNat=h.length-1-k:=`a
 show h.toArray[((h.length:Int)-1+-1*(k:Int)).toNat]?=_;rw[j];simp
section
variable{prog:Rj}{w:Q8}{A:R6}{E:Qw->QA->Prop}{s:QA}
def og (z:IsTup s.heap t items)(hs:s.heap.IsSliceOf sl .none .none (.int (-1) k))
 (h:Q (.ref s.heap.objs.size) {s with heap:=s.heap.push {cls:=.type "tuple",data:=.seq items.toList.reverse.toArray}})
 (hsz:items.size<=sizeLine):wpAny (model prog w) A (getItem (.ref t) (.ref sl)) Q E s:=by
 have j:sizeOk (.seq items.toList.reverse.toArray):=by
  show items.toList.reverse.toArray.size<=sizeLine;simpa using hsz
 obtain⟨os,u,F,v⟩:=id hs;have B:s.TypeIs (.ref sl) "slice":=⟨os,u,F⟩;unfold getItem;try with_reducible refine tqo ?_
 first|refine tqa (tqb ?_)|skip
 refine tqa (wpAny_sequenceKey z.typeIs `d ?_)
 refine tqa (wpAny_callSpecial?_slot z.typeIs Rk
  (wpAny_call_entry Rk z.typeIs entry_tuple_getitem ?_ (args_tuple_getitem _ _)))
 show wpAny _ _ (Builtin.Tuple.tupleItemsOf (.ref t) >>= _) _ _ s;refine tqa (tupleItemsOf_ z ?_);refine tqa (wpAny_typeOf B ?_);rw[if_pos `d]
 refine tqa (tqa (tqa (tqf u v rfl (tqa (tqf u v rfl (tqa (tqf u v rfl (tqb ?_))))))));refine tqa (slicePart_int ?_);rw[if_neg `d]
 refine tqa (slicePart_none (tqa (slicePart_none (tqa (tqb ?_)))));have J:Builtin.Slice.sliceAdjust none none (-1) (items.size:Int)=((items.size:Int)-1,-1):=by simp[Builtin.Slice.sliceAdjust]
 have L:Builtin.Slice.slicePlaces ((items.size:Int)-1) (-1) (-1)=items.size:=by
  unfold Builtin.Slice.slicePlaces;rw[if_neg `d]
  split
  ·simp
  ·omega
 show wpAny _ _ (match Builtin.Slice.sliceAdjust none none (-1) (items.size:Int) with|(lo,M)=>pure (lo,(-1:Int),Builtin.Slice.slicePlaces lo M (-1))) _ _ s
 rw[J];show wpAny _ _ (pure ((items.size:Int)-1,(-1:Int),Builtin.Slice.slicePlaces ((items.size:Int)-1) (-1) (-1))) _ _ s;rw[L];refine tqb ?_;have H:¬ ((((items.size:Int)-1)==0&&(-1:Int)==1&&items.size==items.size)=true):=`s
 show wpAny _ _ (if (((items.size:Int)-1)==0&&(-1:Int)==1&&items.size==items.size)=true then _ else _) _ _ s;rw[if_neg H];have y:((List.range items.size).filterMap λ(m:Nat)=>items[(((items.size:Int)-1)+(m:Int) * -1).toNat]?).toArray=items.toList.reverse.toArray:=by
  rw[<- rK items.size items.toList `s]
  congr 1
  refine iO λm hm=>?_;have I:((items.size:Int)-1+(m:Int) * -1).toNat=items.size-1-m:=`a
  rw[I];simp
 rw[y];first
  |exact tqa (wpAny_newObj_type (tqb {_,rfl,tqb h}) j)
  |exact tqa (wpAny_newObj_type (tqa (tqb (tqb {_,rfl,tqb h}))) j)
  |exact tqa (tqa (wpAny_newObj_type (tqb (tqb {_,rfl,tqb h})) j))
  |exact tqa (tqa (wpAny_newObj_type (tqb {_,rfl,tqb h}) j))
end
section
variable{fa:Fa}{X:Cx}{a st:Expr}{ga:GE}{pos p2:Pos}
def B7 (m:Bool)(x:D)(M:Mem):Res D:=match x with
 |.tup xs=>.ok (.tup xs.reverse) M
 | x=>match cv M x with
   |some xs=>aS m xs.reverse M
   |none=>.bad
def uR (m:Bool)(a:GE):GE:=λh M=>(a h M).bind λx M=>B7 m x M
def Jn (K:Qs):V->Hp->VK->Prop:=λx H Q=>∃a xs,x=.ref a/\((cQ K H a xs/\∀p,H p=none->Q (.ref p) (upd H p (.lst xs.reverse)))\/(dO K H a xs/\∀p,H p=none->Q (.ref p) (upd H p (.tup xs.reverse))))
noncomputable def oB:∀{xs:List V}{us:List Qw},Vals xs us->Vals xs.reverse us.reverse
 |_,_,.nil=>.nil
 | _,_,.cons p r=>by
   rw[List.reverse_cons,List.reverse_cons];exact(oB r).append (.cons p .nil)
def JE (ha:PE X a ta)(P:PE X st ts) :
 PE X (.Subscript a (.Slice none none (some st) p2) pos) (λF H Q=>ta F H λx O=>ts F O λy W=>y=.int (-1)/\Jn X.K x W Q):=by
 intro j s F H Q I h;refine Subscript_ (aP (ha j s F H _ I h) λv s1 ⟨x,O,I1,r1,q1⟩=>?_);refine wpAny_Slice ?_;rw[evalPart_none];refine tqb ?_;refine tqb ?_;rw[evalPart_some];refine aP (P j s1 F O _ I1 q1) ?_;rintro vu u ⟨y,Y,I3,r3,ey,q3⟩;subst ey;obtain⟨k,rfl⟩:=r3;have J:Inv X j F Y {u with heap:=u.heap.push {cls:=.type "slice",data:=.fields #[.none,.none,.int (-1) k]}}:=I3.kept λb ob q=>Qu _ q
 have L:(u.heap.push {cls:=.type "slice",data:=.fields #[.none,.none,.int (-1) k]}).IsSliceOf u.heap.objs.size .none .none (.int (-1) k):=Heap.IsSliceOf.new ..;obtain⟨b,xs,rfl,q⟩:=q3;cases r1;have U:∃T id,typeLookup (.type T) "__getitem__"=pure (some (.builtin id))/\Shared.TypeIs {u with heap:=u.heap.push {cls:=.type "slice",data:=.fields #[.none,.none,.int (-1) k]}} (.ref b) T/\wpAny (model X.prog X.w) X.A (getItem (.ref b) (.ref u.heap.objs.size)) (EP X j F Q) X.xe {u with heap:=u.heap.push {cls:=.type "slice",data:=.fields #[.none,.none,.int (-1) k]}}:=by
  rcases q with⟨R,q⟩|⟨R,q⟩
  ·obtain⟨S,r,B,M⟩:=J.list R;have z:=r.length;refine{"list",_,slot_list_getitem.lookup,B.isList.typeIs,?_};refine wpAny_getItem_list_slice B.isList L .none .none (.int (-1) k) `d ?_ (by rw[QB]<;>omega)
   rw[sy];refine{.ref _,_,J.laid (λb ob q=>Qu _ q) (Qy _) ?_,rfl,q _ (J.hok.fresh (Qy _))};exact{by simpa using M,_,0,oB r,QY _ rfl}
  ·obtain⟨S,r,B,M⟩:=J.tuple R;have z:=r.length;refine{"tuple",_,Rk.lookup,B.typeIs,?_};refine og B L ?_ (by rw[QB,<- z];exact M)
   refine{.ref _,_,J.laid (λb ob q=>Qu _ q) (Qy _) ?_,rfl,q _ (J.hok.fresh (Qy _))};exact{by simpa using M,_,oB r,IsTup.new _ _}
 obtain⟨T,id,hT,B,hg⟩:=U;exact tail_any B hT hg (by with_unfolding_all rfl)
def Mm (m:Bool)(U:DE fa X a ga):DE fa X (.Subscript a (.Slice none none (some (.UnaryOp .USub (.Constant (.int 1) k pc) pu)) p2) pos) (uR m ga):=
 bC (JE U (Ea yW uc)) λY H Q ⟨L,W,M,O,S,h⟩=>t1 O S h λx F v B I J P y r1 h1=>by
  refine{1,rfl,rfl,?_};have lst:∀(u:List D) (b:Addr) (j:List V),cQ X.K B b j->aG fa X.K I B u j->ae (aS m u.reverse F) (bb fa X.K L H Q)->Jn X.K (.ref b) B Q:=λu b j hs hr h1=>by
   obtain⟨_,q⟩:=gr y hr.reverse (jb h1 J);exact{b,j,rfl,.inl ⟨hs,q⟩}
  cases x with
  | tup u=>
    obtain⟨b,j,rfl,hs,hr⟩:=r1;exact{b,j,rfl,.inr {hs,hG y hr.reverse (bb.ext h1 J)}}
  | lst u=>
    obtain⟨b,j,rfl,hs,hr⟩:=r1;exact lst u b j (cQ.of hs.1) hr h1
  | frz u=>
    obtain⟨b,j,rfl,hs,hr⟩:=r1;exact lst u b j (hs.elim ((by rintro⟨o,z⟩;exact .inl (.inr ⟨o,z⟩))) .inr) hr h1
  | cell k=>
    obtain⟨b,rfl,hk⟩:=r1;obtain⟨u,j,e,R,hr⟩:=y.mu_lt hk;have h1:ae (match F[k]? with|some xs=>aS m xs.reverse F|none=>.bad) (bb fa X.K L H Q):=h1
    rw[e] at h1;exact lst u b j (cQ.of R) hr h1
  |_=>exact h1.elim
def mJ (a:GE):GE:=λh M=>(a h M).bind λx M=>match x with
 |.int i=>.ok (.int i) M
 |.bl k=>.ok (.int (if k then 1 else 0)) M
 |_=>.bad
def Jh (J:DE fa X a ga)(L:Gl X "int")(hm:X.mg "int"=none)(he:starEach [a] X.env=(false,eval a X.env)::starEach [] X.env):DE fa X (.Call (.Name "int" p) [a] [] pos) (mJ ga):=
 bC (rN A0 L hm `k (cS J eD he) `d `d he `r) λS H Q ⟨P,R,M,B,I,h⟩=>t1 B I h λx O v y u z F j r1 h1=>by
  cases x with
  |int i=>obtain rfl:v=.int i:=r1;exact .inl {i,rfl,h1 _ y u z j rfl}
  |bl k=>obtain rfl:v=.bl k:=r1;exact .inr {k,rfl,h1 _ y u z j rfl}
  |_=>exact h1.elim
end
def mm {fa:Fa}{mg:Str->Option Qw}(e:fa i=some f)(m:mg x=some (.ref f)):∀ad,fa i=some ad->mg x=some (.ref ad):=λad h=>by rw[e] at h;cases h;exact m
def us1 {j:Type}{p:List j->Prop}(h:∀a,p [a])(us:List j)(hl:us.length=1):p us:=by
 obtain⟨a,rfl⟩:=List.length_eq_one_iff.mp hl;exact h a
def us2 {j:Type}{p:List j->Prop}(h:∀a b,p [a,b]):∀(us:List j) (hl:us.length=2),p us
 |[a,b],_=>h a b
def us3 {j:Type}{p:List j->Prop}(h:∀a b c,p [a,b,c]):∀(us:List j) (hl:us.length=3),p us
 |[a,b,c],_=>h a b c
def us4 {j:Type}{p:List j->Prop}(h:∀a b c d,p [a,b,c,d]):∀(us:List j) (hl:us.length=4),p us
 |[a,b,c,d],_=>h a b c d
def Aw:Ss (pq P) [] []:=.nil
def gA (h:Ss (pq P) es kvs):Ss (pq P) ({PyData.keyHash P x,.str x t,.ref a}::es) ((x,a)::kvs):=.cons ⟨t,rfl⟩ h
def D3 (K:Qs):Sp:=λj H Q _=>∃(a:Addr) (ns:List Int),j=[.ref a]/\cQ K H a (ns.map V.int)/\yG H/\ns.length<=63/\∀h,Q (.bl true) h
def Kh {K:Qs}{ad:Addr}{st:Stmt}(h:∀f d,Pg f=some d->yL fa P w K mg base f d)
 (hl:∀ns:List Int,ns.length<=63->∃M,ah Pg (n+1) f [.frz (ns.map D.int)] []=.ok (.bl true) M) (e:Pg f=some d) (F:xa K x qual st ad fd) (S:i5 N [y] (bg st)) (hs:d.slots=N.length)
 (u:∀(call:Call) (n:Nat) (j:Qw) (A:R6) (outer:List RY) (s:QA) (H:Hp) (E:XK),(∀f,g6 fa P w K mg base n f (call f))->du (2*n+5) (A.deeper (envOfC qual (bg st) s.heap.objs.size ad j))->
  nk fa (gx (iG P w) P w K mg base N qual (bg st) ad j A outer s H E) (c5 st) (d.body call)):lW P w K mg base (iG P w) (2*n+5+1) ad fd [y] (D3 K):=by
 have eq:∀I M,ah Pg (n+1) f I M=gu (ah Pg n) d I M:=λI M=>by show(match Pg f with|none=>Res.bad|some d=>gu (ah Pg n) d I M)=_;rw[e]
 refine wJ (xa.toD F) S (λU H Q E B=>?_) λj A outer s H U Q E hr B=>{_,u (ah Pg n) n j A outer s H E (vd h n) hr,?_}
 ·obtain⟨a,ns,rfl,_⟩:=B;rfl
 ·obtain⟨a,ns,rfl,R,O,hn,q⟩:=B;obtain⟨Y,J⟩:=hl ns hn;rw[eq] at J;have rp:aG fa K {λ_=>none,[],λ_=>none} H [.frz (ns.map D.int)] [.ref a]:=by
   refine{.ref a,[],rfl,{a,ns.map V.int,rfl,?_,aG.ints ns},rfl};rcases R with(z|⟨o,z⟩)|z
   ·rcases O a with y|⟨o,xs,y⟩
    ·rw[y] at z;cases z
    ·rw[y] at z;cases z
   ·exact .inl ⟨o,z⟩
   ·exact .inr z
  refine sf (μ:={λ_=>none,[],λ_=>none}) (M:=[]) hs {λk I z=>by simp at z,λ_ _=>rfl,λ_ _=>rfl,(λ_ _ _ z=>nomatch z),(λ_ _ _ z=>nomatch z),(λ_ _ z=>nomatch z),(λ_ z=>nomatch z)} rp ?_
  rw[J];intro v L X _ _ r;obtain rfl:v=.bl true:=r;exact q L
def wy {K:Qs}{ad:Addr}(X:K.In h)(G:h.Ns mainGlobals mg)(a:PySem.W.nsIn K mainGlobals x=some (some (.ref ad)))
 (l:K.lookup ad=some {cls:=.type "dict",data:=.dict es n}) (he:Ss (pq P) es.toList j) (nd:(j.map (·.1)).Nodup) (ns:(ad==sysModules)=false) (dk:eU fa j fs):∃ad j,mg x=some (.ref ad)/\fU K P ad j/\eU fa j fs:=
 {ad,j,R5 X G a,{⟨es,n,l,he⟩,nd,ns},dk}
end LD
namespace LD
open PySem PySem.Spec PySem.Calls PyProof.Rows PySem.W
section
variable{prog:Rj}{w:Q8}{A:R6}{E:Qw->QA->Prop}{s:QA}{K:Frag}{x C:Addr}{ox:Obj}{od:Option Obj}{name:Str}
noncomputable def H8 (K:Frag)(C:Addr):Bool:=findIn K (.ref C) "__getattribute__"==some (some (.builtin "BaseException.__getattribute__"))&&findIn K (.ref C) "__getattr__"==some none&&mroIn K C (.type "BaseException")==some true&&mroIn K C (.type "object")==some true &&
 findIn K (.ref C) "__class__"==some (some (.builtin "object.__class__"))&&specialIn K (.builtin "object.__class__") "__get__"==some (some (.builtin "getset_descriptor.__get__"))&&takesIn K (.builtin "object.__class__")==some true
end
end LD
namespace LD
open PySem PySem.Spec PyProof.Rows L2
noncomputable def bB (f:Nat)(c:Call)(s:GA):GE:=λj M=>match s j M with
 |.ok h M=>c f h M
 |_=>.bad
noncomputable def td (k:D->Mem->Res Fl)(Z:Env):Res D->Res Fl
 |.ok d M=>k d M
 |.err x M=>.ok (.exc x Z) M
 |.bad=>.bad
def hR (a:GE):GS:=λh M=>td (λ_ M=>.ok (.next h) M) h (a h M)
def c8 (t:fW)(a:GE):GS:=λh M=>td (λx M=>(bV M (b4 t x h)).bind λj M=>.ok (.next j) M) h (a h M)
def xw (a:GE):GS:=λh M=>td (λx M=>.ok (.ret x) M) h (a h M)
noncomputable def yb (t:GT)(a b:GE):GE:=λh M=>match t h M with
 |.ok k M=>if k then a h M else b h M
 |_=>.bad
noncomputable def dH (c:Nat)(s:GA):GS:=λh M=>match s h M with
 |.ok j M=>if j.length<=sz then .ok (.exc (.exc c none) h) M else .bad
 |_=>.bad
def II (fa:Fa)(X:Cx)(g:GE):TE:=λv H Q=>∃h j M,bt fa X.K h H v j/\RelM fa X.K h H M/\fB (g j M) (bb fa X.K h H Q) (λx u=>XW fa X h H x j u)
abbrev DX (fa:Fa)(X:Cx)(e:Expr)(g:GE):Prop:=PE X e (II fa X g)
section
variable{fa:Fa}{X:Cx}{a b:Expr}{ga gb:GE}{ta:GT}{pos p:Pos}{es:List Expr}{gs:GA}{n:Nat}
def x_call (f:Nat){call:Call}(C:∀f,g6 fa X.prog X.w X.K X.mg X.base n f (call f))(hr:du (2*n+4) X.A)(hex:X.ex=[])(hg:Gl X x)(hm:∀ad,fa f=some ad->X.mg x=some (.ref ad))(hs:DA fa X (a::es) gs)
 (hdb:(x==("__debug__":Str))=false) (he:notStar a=true) (hpl:es.all notStar=true):DX fa X (.Call (.Name x p) (a::es) [] pos) (bB f call gs):=by
 rintro B s σ H Q I ⟨μ,Z,M,hE,hM,h⟩;unfold bB at h;cases eg:gs Z M with
 |err=>rw[eg] at h;exact h.elim
 |bad=>rw[eg] at h;exact h.elim
 | ok E R=>
   rw[eg] at h;have h:fB (call f E R) (bb fa X.K μ H Q) (λx P=>XW fa X μ H x Z P):=h;rcases C f with hb|⟨ad,fd,ps,h1,h2,h3,h4,F,_⟩
   ·rw[hb] at h;exact h.elim
   ·have hl:E.length=ps.length:=by
     by_cases hl:E.length=ps.length
     ·exact hl
     ·rw[h4 E R hl] at h;exact h.elim
    refine wpAny_Call_Name_kw (ky I hg (hm ad h1) ?_ hdb);refine PySem.W.callWith_K I.ok.mod.kin h2 (aP (hs pos B s σ H (λU z=>∃j,Ext μ H j z/\RelM fa X.K j z R/\aG fa X.K j z E U) I {μ,Z,M,hE,hM,by rw[eg];exact λU z j Y m1 r1=>⟨j,Y,m1,r1⟩}) λus s1 ⟨U,z,O,r,j,Y,m1,r1⟩=>{O.kIn,?_}) (bo he) (cZ hpl)
    have hsp:D4 fa X.K ps.length (call f) U z Q λCv dx J=>∃y P v C' c p,Cv=.ref C'/\Ext j z v J/\RelM fa X.K v J P/\y=.exc c p/\fa (f7 c)=some C'/\vB J c dx p/\XW fa X μ H y Z P:=by
     refine{by rw[r1.length];exact hl,j,R,E,m1,r1,?_}
     cases S:call f E R with
     |ok d M2=>rw[S] at h;exact bb.ext h Y
     |err y M2=>rw[S] at h;exact λC dx c p J v y' m ex hc hn=>{_,M2,v,C,c,p,rfl,y',m,ex,hc,hn,h}
     |bad=>rw[S] at h;exact h.elim
    have hl2:us.length=ps.length:=by rw[<- r.length,r1.length];exact hl
    have hb:=h3 s1 us O.kIn (by simpa using hl2)
    rw[Sb] at hb;refine wpAny_call (codeAny_mono (F.run X.A X.stack s1 z {us,[]} us U Q _ hr O.env0 hb r hsp) λr' s' L=>?_);cases r' with
    | error e=>
      unfold CR at L;obtain⟨a',C',dx,J,rfl,I',fl,y,P,v,C2,c,p,S,ye,m',ey,hc,hn,hw⟩:=rT O hex L;cases S;exact hw B σ J v s' a' C' dx c p I' (Y.trans ye) ((hE.ext Y).ext ye) m' ey hc hn fl
    | ok fl=>
      cases fl with
      |ret u=>exact O.after L
      |next=>exact False.elim L
      |brk=>exact False.elim L
      |cont=>exact False.elim L
def Fq (f:Nat){call:Call}(C:∀f,g6 fa X.prog X.w X.K X.mg X.base n f (call f))(hr:du (2*n+4) X.A)(hex:X.ex=[])(hg:Gl X x)(hm:∀ad,fa f=some ad->X.mg x=some (.ref ad))(hdf:(fa (500+f)).isSome=true)(hs:DE fa X a ga)
 (hdb:(x==("__debug__":Str))=false) (he:notStar a=true):DX fa X (.Call (.Name x p) [a] [] pos) (bB f call (bz ga (bz (gC .non) bj))):=by
 rintro E s σ H Q I ⟨μ,Z,M,hE,hM,h⟩;unfold bB at h;cases eg:ga Z M with
 |err=>unfold bz at h;rw[eg] at h;exact h.elim
 |bad=>unfold bz at h;rw[eg] at h;exact h.elim
 | ok L S=>
   unfold bz at h;rw[eg] at h;have h:fB (call f [L,.non] S) (bb fa X.K μ H Q) (λx R=>XW fa X μ H x Z R):=h;rcases C f with hb|⟨ad,fd,ps,h1,h2,h3,h4,F,hbd⟩
   ·rw[hb] at h;exact h.elim
   ·have hl:2=ps.length:=by
     by_cases hl:2=ps.length
     ·exact hl
     ·rw[h4 [L,.non] S hl] at h;exact h.elim
    refine wpAny_Call_Name_kw (ky I hg (hm ad h1) ?_ hdb);refine PySem.W.callWith_K I.ok.mod.kin h2 (aP (cS hs eD (bo he) pos E s σ H (λvs B=>∃v j,vs=[v]/\Ext μ H j B/\RelM fa X.K j B S/\Rep fa X.K j B L v) I {μ,Z,M,hE,hM,by rw[eg];exact λv B j x1 m1 r1=>⟨v,j,rfl,x1,m1,r1⟩}) λus s1 ⟨vs,B,P,r,v0,j,ev,x1,m1,r0⟩=>{P.kIn,?_}) (bo he) (cZ rfl)
    subst ev;have r1:aG fa X.K j B [L,.non] [v0,.non]:={v0,[.non],rfl,r0,.non,[],rfl,rfl,rfl};have hsp:D4 fa X.K ps.length (call f) [v0,.non] B Q λCv dx J=>∃y R z C' c p,Cv=.ref C'/\Ext j B z J/\RelM fa X.K z J R/\y=.exc c p/\fa (f7 c)=some C'/\vB J c dx p/\XW fa X μ H y Z R:=by
     refine{hl,j,S,[L,.non],m1,r1,?_};cases U:call f [L,.non] S with
     |ok d M2=>rw[U] at h;exact bb.ext h x1
     |err y M2=>rw[U] at h;exact λC dx c p J z y' m ex hc hn=>{_,M2,z,C,c,p,rfl,y',m,ex,hc,hn,h}
     |bad=>rw[U] at h;exact h.elim
    have Y:=r.length.symm;have hb:=hbd hdf s1 us P.kIn (by rw[Qt,Y];exact hl)
    obtain⟨u0,rfl⟩:∃u0,us=[u0]:=List.length_eq_one_iff.mp Y;have r2:Vals [v0,.non] [u0,.none]:=by cases r with|cons a _=>exact .cons a (.cons rfl .nil)
    refine wpAny_call (codeAny_mono (F.run X.A X.stack s1 B {[u0],[]} [u0,.none] [v0,.non] Q _ hr P.env0 hb r2 hsp) λr' s' O=>?_);cases r' with
    | error e=>
      unfold CR at O;obtain⟨a',C',dx,J,rfl,I',fl,y,R,z,C2,c,p,U,ye,m',ey,hc,hn,hw⟩:=rT P hex O;cases U;exact hw E σ J z s' a' C' dx c p I' (x1.trans ye) ((hE.ext x1).ext ye) m' ey hc hn fl
    | ok fl=>
      cases fl with
      |ret u=>exact P.after O
      |next=>exact False.elim O
      |brk=>exact False.elim O
      |cont=>exact False.elim O
def L6 (S:DT fa X c ta)(P:DX fa X a ga)(R:DX fa X b gb):DX fa X (.IfExp c a b pos) (yb ta ga gb):=
 bC (ud S P R) λW H Q ⟨B,j,M,F,O,h⟩=>by
  unfold yb at h;cases u:ta j M with
  |err=>rw[u] at h;exact h.elim
  |bad=>rw[u] at h;exact h.elim
  | ok k v=>
    rw[u] at h;refine{B,j,M,F,O,?_};rw[u];intro I E z U;have go:∀g:GE,fB (g j v) (bb fa X.K B H Q) (λx J=>XW fa X B H x j J)->II fa X g W I Q:=λg q=>by
     refine{E,j,v,F.ext z,U,?_};cases e:g j v with
     |ok d L=>rw[e] at q;exact bb.ext q z
     |err y L=>rw[e] at q;exact XW.ext q z
     |bad=>rw[e] at q;exact q
    cases k with
    |true=>exact go ga h
    |false=>exact go gb h
def Mi (I:DX fa X a ga)(hs:swapsWith a none pos.line X.env=pure false):DS fa X (.Expr a pos) (hR ga):=
 cX (ki I hs) λP O H ⟨L,z,M,u,F,h⟩=>{L,z,M,u,F,by
  unfold hR at h;cases e:ga z M with
  |ok d E=>rw[e] at h;exact λv B j y J r1=>h O B j y (u.ext y) J
  |err x E=>rw[e] at h;exact h
  |bad=>rw[e] at h;exact h.elim}
def I9 (R:DX fa X a ga)(S:PG X tg (gT fa X.K t))(hs:swapsWithSole [tg] a pos.line X.env=pure false)(U:swappedStores [tg] a X.env=pure none)(h1:(assignEach [tg] X.env).map (·.2)=[assign tg X.env]) :
 DS fa X (.Assign [tg] a pos) (c8 t ga):=
 cX (mw R S hs U h1) λD σ H ⟨W,y,M,I,Q,h⟩=>{W,y,M,I,Q,by
  unfold c8 at h;cases e:ga y M with
  | ok d P=>
    rw[e] at h;obtain⟨E,M2,u,q⟩:=aJ h;cases z:b4 t d y with
    |none=>rw[z] at u;cases u
    | some Y=>
      rw[z] at u;cases u;exact λv O j L J r1=>{j,y,_,d,E,I.ext L,J,r1,z,λF B=>q F O j L B J}
  |err x P=>rw[e] at h;exact h
  |bad=>rw[e] at h;exact h.elim}
def IZ (z:DX fa X a ga):DS fa X (.Return (some a) pos) (xw ga):=
 cX (zU z) λE F H ⟨B,j,M,v,y,h⟩=>{B,j,M,v,y,by
  unfold xw at h;cases e:ga j M with
  |ok d u=>rw[e] at h;exact h
  |err x u=>rw[e] at h;exact h
  |bad=>rw[e] at h;exact h.elim}
end
noncomputable abbrev A3:List Qw:=[.type "ValueError",.type "Exception",.type "BaseException",.type "object"]
noncomputable def IX (K:Qs)(C:Addr)(f:ClassData->Addr->List Qw->String->Bool):Bool:=match K.lookup C with
 | some {.type "type",_,.cls h,sl}=>(match h.mro,sl.toList with
   |.ref j::bm,[_,_,_,_,some (.builtin n),_]=>f h j bm n
   |_,_=>false)
 |_=>false
set_option tactic.hygienic true in
def IW {K:Qs}(X:K.In h)(q:IX K C f=true) :
 ∃u N nm q bs hdct sn sub ab col dd k0 k1 k2 k3 k5 dl n j,f {nm,bs,.ref j::u,N,q,hdct,sn,sub,ab,col,dl} j u n=true/\h.get? C=some {.type "type",dd,.cls {nm,bs,.ref j::u,N,q,hdct,sn,sub,ab,col,dl},#[k0,k1,k2,k3,some (.builtin n),k5]}:=by
 unfold IX at q;split at q
 ·rename_i dd y sl ho;split at q
  ·rename_i j u k0 k1 k2 k3 n k5 hm hs;obtain⟨nm,bs,B,ns,qn,hd,sn,sub,ab,col,z⟩:=y;subst hm;have v:sl=#[k0,k1,k2,k3,some (.builtin n),k5]:=by
    obtain⟨l⟩:=sl;simp only at hs;rw[hs]
   subst v;exact{_,_,_,_,_,_,_,_,_,_,_,_,_,_,_,_,_,_,_,q,X _ _ ho}
  ·cases q
 ·cases q
def CZ {K:Qs}(X:K.In h)(q:PySem.W.excIn K C bmB newId=true) :
 ∃j N nm q bs hdct sn sub ab col dd k0 k1 k2 k3 k5 v,h.get? C=some (excClassObj nm q C N bs j hdct sn sub ab col dd k0 k1 k2 k3 k5 newId)/\h.Ns N v/\v "__init__"=none/\OwnTail h bmB j:=by
 obtain⟨j,ns,nm,qn,bs,hd,sn,sub,ab,col,dd,k0,k1,k2,k3,k5,dl,n,z,q,ho⟩:=IW X q;simp only[QD,beq_iff_eq,Bool.not_eq_true'] at q;obtain⟨⟨⟨⟨⟨rfl,rfl⟩,rfl⟩,y⟩,hok⟩,u⟩:=q;exact{j,ns,nm,qn,bs,hd,sn,sub,ab,col,dd,k0,k1,k2,k3,k5,_,ho,.of_isNs (PySem.W.isNs_of_in X hok),PySem.W.nsMap_none_of_in X hok u,PySem.W.tail_of_in X y}
def Ad (x:fq P w H h a o):∃ob,h.get? a=some ob:=by
 cases o with
 |lst xs=>obtain⟨_,_,_,_,e⟩:=x;exact{_,e}
 |tup xs=>obtain⟨_,_,_,ob,e,_⟩:=x;exact{_,e}
 |dK j=>obtain⟨_,_,_,_,o,_,_,e,_⟩:=x;exact{_,e}
 |dT j=>obtain⟨_,_,_,_,o,_,_,e,_⟩:=x;exact{_,e}
 |set S n=>obtain⟨o,_,_,_,e,_⟩:=x;exact{_,e}
 |ins C v fs=>obtain⟨_,_,_,e,_⟩:=x;exact{_,e}
 |own y=>exact x
 |xd fs=>obtain⟨_,⟨_,_,_,e,_⟩,_⟩:=x;exact{_,e}
 |rng lo z=>obtain⟨_,_,_,e⟩:=x;exact{_,e}
 |frz ob u=>obtain⟨e,_⟩:=x;exact{_,e}
 |tbl ps=>exact{_,x}
 |met f y=>exact{_,x}
 |ext B=>obtain⟨_,e,_⟩:=x;exact e
 |dn es=>obtain⟨_,_,o,e,_⟩:=x;exact⟨o,e⟩
def CP (I:Inv X pins σ H s)(h:X.ex=[])(hn:s.heap.get? e=none):yH X e/\H e=none:=by
 refine{{?_,λp v z=>?_},?_}
 ·cases q:X.s₀.heap.get? e with
  |none=>rfl
  | some o=>
    obtain⟨y,j⟩:=I.base.there e o q (by rw[h];simp)
    rw[hn] at j;cases j
 ·have:=(I.pin p (RE _ v)).1;rw[z,hn] at this;cases this
 ·cases q:H e with
  |none=>rfl
  | some u=>
    obtain⟨ob,z⟩:=Ad (I.hok e u q);rw[hn] at z;cases z
section
variable{fa:Fa}{X:Cx}{a b:Expr}{ga gb:GE}{ta:GT}{pos p:Pos}{es:List Expr}{gs:GA}{n:Nat}
set_option tactic.hygienic true in
def Gk (c:Nat){x:Str}(hx:∃C,X.mg x=some (.ref C)/\fa (f7 c)=some C/\PySem.W.excIn X.K C A3 "ValueError.__new__"=true)(L:X.ex=[])(hg:Gl X x)(hc:X.calm=true)(hs:DA fa X (a::es) gs)
 (J:(x==("__debug__":Str))=false) (he:notStar a=true) (S:es.all notStar=true):DS fa X (.Raise (some (.Call (.Name x np) (a::es) [] cpos)) none pos) (dH c gs):=by
 rintro u s σ H D' I ⟨μ,Z,M,hE,hM,h⟩;obtain⟨C,Q,O,P⟩:=hx;obtain⟨bm,N,nm,q,bs,hdct,sn,sub,ab,col,dd,k0,k1,k2,k3,k5,mN,hC,hN,R,T⟩:=CZ I.ok.mod.kin P;unfold dH at h;cases z:gs Z M with
 |err=>rw[z] at h;exact h.elim
 |bad=>rw[z] at h;exact h.elim
 | ok ds M1=>
   rw[z] at h;dsimp only at h;split at h
   ·next hz=>
    refine wpAny_Raise_call_subT (nm:=nm) (q:=q) (N:=N) (bs:=bs) (hdct:=hdct) (sn:=sn) (sub:=sub) (ab:=ab) (col:=col) (dd:=dd) (k0:=k0) (k1:=k1) (k2:=k2) (k3:=k3) (k5:=k5) PySem.F.excBase_ValueError (T.hasType `k) (I.ok.hd hc) (cZ (by simp[he,S])) R (ky I hg Q {rfl,?_} J)
    have ar:=aP (hs cpos u s σ H (λvs v=>∃j,Ext μ H j v/\RelM fa X.K j v M1/\aG fa X.K j v ds vs) I {μ,Z,M,hE,hM,by rw[z];exact λvs v j E U r1=>⟨j,E,U,r1⟩}) (Q':=λY s2=>([]:List (Str×Qw))=[]/\Y.length<=sizeLine/\s2.heap.get? C=some (excClassObj nm q C N bs bm hdct sn sub ab col dd k0 k1 k2 k3 k5 "ValueError.__new__")/\s2.heap.Ns N mN/\OwnTail s2.heap A3 bm/\∀B e,Heap.MadeExcOf s2.heap B e (.ref C) Y->X.xe (.ref e) {s2 with heap:=B}) λY s1 ⟨vs,v,y,r,j,E,U,r1⟩=>by
     refine{rfl,?_,y.bk _ _ hC,hN.keeps y.bk,T.keeps y.bk,λB e hm=>?_}
     ·rw[<- r.length,r1.length,<- dz];exact hz
     ·obtain⟨t,ht,_,_⟩:=hm.there;obtain⟨n1,n2⟩:=CP y L hm.new;exact h u σ v j {s1 with heap:=B} e C none c none (y.kept hm.keeps) E (hE.ext E) U rfl O rfl {n1,n2,_,_,ht,rfl,rfl,rfl,.inl rfl}
    rw[bo he] at ar ⊢;exact PySem.Calls.evalArgs_plain ar
   ·exact h.elim
end
structure LO (fa:Fa) (K:Qs):Prop where
 g:∀c C,fa (f7 c)=some C->H8 K C=true/\PySem.W.mroIn K C (.type "ValueError")=some true/\PySem.W.isIn K (.ref C) C=true
 d:∀c C D,fa (f7 c)=some C->fa 999=some D->PySem.W.isIn K (.ref C) D=true/\PySem.W.mroIn K C (.ref D)=some true/\PySem.W.mroIn K D (.type "BaseException")=some true/\PySem.W.typeIn K (.ref D)=some (.type "type")
 n:∀c C c' C',fa (f7 c)=some C->fa (f7 c')=some C'->c'≠c->PySem.W.kin_not K C C'=true
noncomputable def Ia (K:Qs)(cl:List (Nat×Addr))(D:Addr):Bool:=PySem.W.mroIn K D (.type "BaseException")==some true&&PySem.W.typeIn K (.ref D)==some (.type "type") &&
 cl.all λq=>H8 K q.2&&PySem.W.mroIn K q.2 (.type "ValueError")==some true&&PySem.W.isIn K (.ref q.2) q.2&&PySem.W.isIn K (.ref q.2) D&&PySem.W.mroIn K q.2 (.ref D)==some true&&cl.all λr=>r.1==q.1||PySem.W.kin_not K q.2 r.2
noncomputable def wM (l cl:List (Nat×Addr))(D:Addr):Fa:=λi=>if i<999 then l.lookup i else if i=999 then some D else cl.lookup (i-1000)
set_option tactic.hygienic true in
noncomputable def lookup_mem:∀{l:List (Nat×Addr)}{c:Nat}{C:Addr},l.lookup c=some C->(c,C)∈l
 |[],_,_,h=>by cases h
 | (a,b)::r,c,C,h=>by
   rw[Rz] at h;split at h
   ·next e=>cases h;rw[eq_of_beq e];exact QM
   ·exact QF _ (lookup_mem h)
def nU {D:Addr}(h:wM l cl D (f7 c)=some C):(c,C)∈cl:=by
 unfold wM f7 at h;rw[if_neg `a,if_neg `a,Rl] at h
 exact lookup_mem h
def H9 {K:Qs}{D:Addr}(h:Ia K cl D=true):LO (wM l cl D) K:=by
 unfold Ia at h;simp only[QD,beq_iff_eq,QV,Sr] at h;obtain⟨⟨h1,h2⟩,h3⟩:=h;refine{λc C e=>?_,λc C v e j=>?_,λc C y u e j n=>?_}
 ·obtain⟨⟨⟨⟨⟨a1,a2⟩,a3⟩,a4⟩,a5⟩,a6⟩:=h3 _ (nU e);exact⟨a1,a2,a3⟩
 ·obtain⟨⟨⟨⟨⟨a1,a2⟩,a3⟩,a4⟩,a5⟩,a6⟩:=h3 _ (nU e);cases j;exact⟨a4,a5,h1,h2⟩
 ·obtain⟨⟨⟨⟨⟨a1,a2⟩,a3⟩,a4⟩,a5⟩,a6⟩:=h3 _ (nU e);exact(a6 _ (nU j)).elim (λz=>absurd z n) id
def fit (z:Str)(i:Int)(y:Str):Prop:=i.natAbs.log2<1920/\(z++(toString i:Str)).length<=sizeLine/\(z++(toString i:Str)++y).length<=sizeLine
section
variable{X:Cx}{a:Expr}{ta:TE}{pos p1 p2 p3:Pos}{j j2:Nat}{z y:Str}
def tF3 (z y:Str)(ta:TE):TE:=λB H Q=>z.length<=sizeLine/\ta B H λv u=>∃i,v=.int i/\fit z i y/\Q (.str (z++(toString i:Str)++y)) u
def A9 (z:Str):Str.empty++z=z:=by
 cases z with
 |mk c=>show Str.mk (#[]++c)=_;simp
def Mw (P:PE X a ta):PE X (.JoinedStr [.Constant (.str z) j p1,.FormattedValue a (-1) none p2,.Constant (.str y) j2 p3] pos) (tF3 z y ta):=by
 rintro B s S H Q I ⟨R,h⟩;refine JoinedStr_many (joinParts_cons (Calls.Constant_str ?_));show(Str.empty++z).length<=sizeLine/\_;rw[A9];refine{R,joinParts_cons (FormattedValue_plain (aP (P B _ S H _ (I.tok _) h) λu s1 ⟨v,J,L,r1,i,M,⟨f1,O,F⟩,q⟩=>?_))};subst M;obtain⟨t,rfl⟩:=r1;refine formatField_int_small f1 {O,joinParts_cons (Calls.Constant_str {F,joinParts_nil ?_ F})};exact{.str _,J,L.tok _,{_,rfl},q}
end
def LP (C:Addr)(v:Option Addr)(a:Addr)(h:Heap):Prop:=∃o u B,h.get? a=some o/\o.cls=.ref C/\o.dict=v/\o.data=.fields u/\u[0]?=some (.ref B)/\u[1]?=some .none
def KP (K:Qs)(C:Addr)(fI:Addr):Bool:=IX K C λcd C' bm n=>C'==C&&n=="ValueError.__new__"&&!cd.hasDel&&PySem.W.tailIn K A3 bm&&PySem.W.nsOkIn K cd.ns&&PySem.W.nsIn K cd.ns "__init__"==some (some (.ref fI))
def spI (C:Addr)(fld:Str):Sp:=λh H Q _=>∃e i,h=[.ref e,.int i]/\H e=some (.ext (LP C none e))/\i.natAbs<2^64/\∀d,H d=none->d≠e->Q .non (upd (upd H d (.xd [(fld,.int i)])) e (.ext (LP C (some d) e)))
def len_app (a b:Str):(a++b).length=a.length+b.length:=by
 show(Str.append a b).length=_;unfold Str.append Str.length;simp
def KA {i:Int}(hz:z.length<=1000)(u:y.length<=1000)(hi:i.natAbs<2^64):fit z i y:=by
 have h1:i.natAbs.log2<1920:=by
  by_cases h:i.natAbs=0
  ·rw[h];decide
  ·exact QO ((Nat.log2_lt h).mpr hi) `a
 have h2:=PyProof.Rows.int_text_len_1921 h1;have hs:sizeLine=16777216:=dz.symm;refine{h1,?_,?_}
 ·rw[len_app];omega
 ·rw[len_app,len_app];omega
def Be (fa:Fa)(P:Rj)(w:Q8)(K:Qs)(mg:Str->Option Qw)(base:Heap)(c:Nat)(x:Str):Prop:=
 ∃C h j y u,mg x=some (.ref C)/\fa (f7 c)=some C/\KP K C h=true/\PySem.W.keepIn K (.ref C)=true/\K.lookup h=some u/\u.cls=.type "function"/\Binds K j ["self",y] []/\lW P w K mg base (iG P w) 1 h j ["self",y] (spI C (Bk c))
section
variable{fa:Fa}{X:Cx}{a b:Expr}{ga gb:GE}{ta:GT}{pos p np cpos:Pos}{es:List Expr}{gs:GA}{n:Nat}{x:Str}
def E3 (fa:Fa)(K:Qs)(f:Str):Prop:=∀c C,fa (f7 c)=some C->Bk c=f->PySem.W.hasDictIn K C=true/\PySem.W.findIn K (.ref C) f=some none
end
def inC (s:Stmt):Stmt:=match s with
 |.ClassDef _ _ _ (b::_) _ _ _ _ _ _ _=>b
 |_=>s
def oq (z y:Str)(a:GE):GE:=λh M=>(a h M).bind λd M=>match d with
 |.int i=>if z.length<=1000/\y.length<=1000/\i.natAbs<2^64 then .ok (.str (z++(toString i:Str)++y)) M else .bad
 |_=>.bad
set_option tactic.hygienic true in
def OR (O:DE fa X a ga):DE fa X (.JoinedStr [.Constant (.str z) j p1,.FormattedValue a (-1) none p2,.Constant (.str y) j2 p3] pos) (oq z y ga):=
 bC (Mw O) λW H Q ⟨B,U,M,J,L,h⟩=>by
  obtain⟨R,F,I,h1⟩:=aJ h;cases R with
  | int i=>
    have h1:ae (if z.length<=1000/\y.length<=1000/\i.natAbs<2^64 then .ok (.str (z++(toString i:Str)++y)) F else .bad) (bb fa X.K B H Q):=h1;split at h1
    ·next hm=>
     refine{QC hm.1 (by rw[<- dz];decide),B,U,M,J,L,?_}
     rw[I];intro v E u S P r1;obtain rfl:v=.int i:=r1;exact{i,rfl,KA hm.1 hm.2.1 hm.2.2,h1 (.str _) E u S P rfl}
    ·exact h1.elim
  |_=>exact h1.elim
def E5 (fa:Fa)(K:Qs)(mg:Str->Option Qw)(x1 x2:Str)(k1 k2:Nat):Prop:=∃h j,mg x1=some (.ref h)/\mg x2=some (.ref j)/\∀c C,c=k1\/c=k2->fa (f7 c)=some C->PySem.W.exmAny K (.ref C) [.ref h,.ref j]=some true
def Pz (M:Mem)(o:Nat)(nm:Str):Option D:=if 5000<=o then(match M[o-5000]? with
 |some (.int c::es)=>((ji c.toNat).findIdx? (·==nm)).bind λi=>es[i]?
 |_=>none) else none
def fh (nm:Str)(a:GE):GE:=λh M=>(a h M).bind λx M=>match x with
 |.fn o=>bV M (Pz M o nm)
 |_=>.bad
def LV (fa:Fa)(K:Qs):Prop:=∀c C,fa (jG c)=some C->ji c≠[]->xg K C/\∀f∈ji c,LW K C f
def Py (M:Mem)(o:Nat)(nm:Str)(z:D):Option Mem:=if 5000<=o then(match M[o-5000]? with
 |some (.int c::es)=>((ji c.toNat).findIdx? (·==nm)).bind λi=>if i<es.length then some (M.set (o-5000) (.int c::es.set i z)) else if i=es.length then some (M.set (o-5000) (.int c::(es++[z]))) else none
 |_=>none) else none
def sL (nm:Str)(a v:GE):GS:=λh M=>(v h M).bind λz M=>(a h M).bind λx M=>match x with
 | .fn o=>(match Py M o nm z with
   |some j=>.ok (.next h) j
   |none=>.bad)
 |_=>.bad
def qo (fa:Fa)(K:Qs)(m:Str)(c f:Nat):Prop:=∃C,fa (jG c)=some C/\xg K C/\(∀ad,fa f=some ad->Meth K C m ad)/\m∉ji c/\ji c≠[]
def JU (M:Mem)(o:Nat):Option Nat:=if 5000<=o then(match M[o-5000]? with
 |some (.int c::_)=>some c.toNat
 |_=>none) else none
def ic (c f:Nat)(call:Call)(a:GE)(s:GA):GE:=λh M=>(a h M).bind λx M=>match x with
 |.fn o=>if JU M o=some c then(s h M).bind λj M=>call f (.fn o::j) M else .bad
 |_=>.bad
noncomputable def pN (μ:Mu)(k:Nat)(p:Addr):Mu:={μ.pub,μ.priv,λj=>if j=aQ k then some p else μ.ob j}
section
variable{fa:Fa}{K:Qs}{μ:Mu}{H:Hp}{M:Mem}
def RelM.ob_ins (h:RelM fa K μ H M)(e:μ.ob (aQ k)=some a):∃o,H a=some o:=by
 by_cases hk:k<M.length
 ·rcases h.at' k M[k] (by simp[hk]) with⟨b,j,h1,_⟩|⟨b,h1,h2,h3⟩
  ·rw[h.sep _ _ h1] at e;cases e
  ·rw[e] at h1;cases h1;exact let{o,z,_}:=h3.hold;⟨o,z⟩
 ·rw[h.oout k (Nat.le_of_not_lt hk)] at e;cases e
end
def Pw (a:GE):GE:=λj M=>(a j M).bind λx M=>match x with
 | .cell k=>match M[k]? with
   | some h=>match h[h.length - 1]? with
     |some y=>.ok y (M.set k h.dropLast)
     |none=>.bad
   |none=>.bad
 |_=>.bad
end LD
namespace LD
open PySem
section
variable{prog:Rj}{w:Q8}{A:R6}{E:Qw->QA->Prop}{s:QA}
abbrev TK (prog:Rj)(w:Q8)(h:Heap)(ks:List Int)(a:Addr):Prop:=IsTupleKey (intKind prog w) h ks a
inductive ix (prog:Rj) (w:Q8) (h:Heap):List (List Int)->List Qw->Prop
 |nil:ix prog w h [] []
 |cons {ks:List Int}{a:Addr}{kss:List (List Int)}{vs:List Qw}:TK prog w h ks a->ix prog w h kss vs->ix prog w h (ks::kss) (.ref a::vs)
def NK (prog:Rj)(w:Q8)(h:Heap)(j:List (List Int))(a:Addr):Prop:=∃o items n,h.get? a=some o/\o.cls=.type "tuple"/\o.data=.seq items n/\ix prog w h j items.toList
noncomputable def ix.inj:∀{x y:List (List Int)}{vs:List Qw},ix prog w h x vs->ix prog w h y vs->x=y
 |_,_,_,.nil,.nil=>rfl
 |_,_,_,.cons a r,.cons b t=>by rw[a.inj b,ix.inj r t]
def NK.typeIs (x:NK prog w s.heap kss a):s.TypeIs (.ref a) "tuple":=let{o,_,_,ho,h,_}:=x;⟨o,ho,h⟩
def NK.inj (z:NK prog w h x a)(B:NK prog w h y a):x=y:=by
 obtain⟨o,i,n,h1,_,h2,h3⟩:=z;obtain⟨I,F,H,j,_,u,v⟩:=B;rw[h1] at j;cases j;rw[h2] at u;cases u;exact h3.inj v
noncomputable def ix.keeps (ho:h.get? d=some o)(hd:o.data=.dict es ep)(hs:R9 d h h'):∀{j:List (List Int)}{vs:List Qw},ix prog w h j vs->ix prog w h' j vs
 |_,_,.nil=>.nil
 |_,_,.cons a r=>.cons (a.keeps ho hd hs) (ix.keeps ho hd hs r)
def NK.keeps (x:NK prog w h kss a)(ho:h.get? d=some o)(hd:o.data=.dict es ep)(hs:R9 d h h'):NK prog w h' kss a:=by
 obtain⟨u,i,n,h1,h2,h3,h4⟩:=x;refine{u,i,n,(hs.2 a λz=>?_).trans h1,h2,h3,h4.keeps ho hd hs};rw[z,ho] at h1;cases h1;rw[hd] at h3;cases h3
noncomputable def uq (prog:Rj)(w:Q8)(h:List (List Int)):Int:=reduceHash (Builtin.Tuple.tupleHashOf (h.map (tupleKeyHash (intKind prog w))))
noncomputable def nK (h:List (List Int)):Nat:=(h.map λks=>ks.length+1).sum+1
def GV (J:A.units+2<cLine)(hk:NK prog w s.heap kss a)(h:Q (uq prog w kss) {s with toks:=s.toks+nK kss}):wpAny (model prog w) A (pyHash (.ref a)) Q E s:=by
 have y:=hk.typeIs;obtain⟨o,items,n,ho,_,hd,H⟩:=hk;first|unfold pyHashByItsType|skip
 first|refine tqa (wpAny_cRoomFor_or (.inr `a) ?_)|skip
 refine tqa (wpAny_specialOf y F.slot_tuple_hash.lookup ?_);rw[if_neg (by rw[beq_builtin_none];exact QX)]
 refine tqa (wpAny_specialOf y F.slot_tuple_hash.lookup ?_);refine tqa (wpAny_callSpecialIfBoundUnlessNone?_slot y F.slot_tuple_hash (wpAny_call_entry F.slot_tuple_hash y F.entry_tuple_hash ?_ (F.args_tuple_hash_1 _)));show wpAny _ _ (Builtin.Tuple.tupleItemsOf (.ref a) >>= _) _ _ s;refine tqa (wpAny_tupleItemsOf ho hd ?_);refine tqa ?_;rw[<- Array.forIn_toList];refine wpAny_forIn_list _ (λrest (b:Array Int) B=>∃done left,kss=done++left/\ix prog w s.heap left rest/\b.toList=done.map (tupleKeyHash (intKind prog w))/\B={s with toks:=s.toks+(done.map λks=>ks.length+1).sum}) _ ?_ ?_ _ _ {[],kss,rfl,H,rfl,rfl}
 ·rintro x rest b B ⟨done,left,rfl,hl,z,rfl⟩;cases hl with
  | @cons k c u _ h1 j=>
    refine tqa (wpAny_pyHash_tuple ?_ h1 ?_)
    ·show A.units+1<cLine;omega
    ·first
      |exact tqb {done++[k],u,`s,j,by simp[z],by simp[Sw]}
      |exact tqa (tqb (tqb {done++[k],u,`s,j,by simp[z],by simp[Sw]}))
 ·rintro b B ⟨done,left,rfl,hl,z,rfl⟩;cases hl;rw[Sb] at h;show wpAny _ _ (retInt (Builtin.Tuple.tupleHashOf b.toList)) _ _ _;rw[z];refine wpAny_ret_mkInt ?_;generalize I:Builtin.Tuple.tupleHashOf (done.map (tupleKeyHash (intKind prog w)))=v;show wpAny _ _ (if (decide (-(2:Int)^63<=v)&&decide (v<2^63))=true then _ else _) Q E _;unfold uq reduceHash at h;rw[I] at h;by_cases hr:(decide (-(2:Int)^63<=v)&&decide (v<2^63))=true
  ·rw[if_pos hr];rw[if_pos hr] at h;exact tqb (by simpa[nK,Sw] using h)
  ·rw[if_neg hr];rw[if_neg hr] at h;exact tqa (wpAny_rule (tqb (by simpa[nK,Sw] using h)))
def xJ (hu:A.units<cLine)(hx:NK prog w s.heap x a)(hy:NK prog w s.heap y b)(h:P (.done (.ret (.bool (decide (x=y))))) s) :
 wpAny (model prog w) A (Builtin.«tuple.__eq__» {[.ref a,.ref b],[]}) P E s:=by
 have Q:=hy.typeIs;obtain⟨oa,xs,na,X,_,R,U⟩:=hx;obtain⟨ob,ys,nb,Y,_,S,W⟩:=hy;show wpAny _ _ (isInstance (.ref b) (.type "tuple") >>= _) _ _ s;refine tqa (wpAny_isInstance Q isSubtype_tuple_tuple ?_);refine tqa (wpAny_tupleItemsOf X R (tqa (wpAny_tupleItemsOf Y S (tqa ?_))));refine wpAny_forIn_list _ (λrest r L=>r.1=none/\L=s/\∃M O z B,rest=List.zip z B/\ix prog w s.heap M z/\ix prog w s.heap O B/\decide (M=O)=decide (x=y)/\(z.length==B.length)=(xs.size==ys.size)) _ ?_ ?_ _ _ {rfl,rfl,x,y,xs.toList,ys.toList,rfl,U,W,rfl,`s}
 ·rintro⟨u,v⟩ rest r L ⟨hr,rfl,M,O,z,B,J,I,H,j,F⟩;cases I with
  |nil=>simp at J
  | @cons k1 u' x2 xs2 h1 hx2=>
    cases H with
    |nil=>simp at J
    | @cons k2 v' y2 ys2 h2 hy2=>
      obtain⟨⟨rfl,rfl⟩,rfl⟩:=J;refine tqa (wpAny_eqBool_tuple hu h1 h2 ?_);by_cases hk:k1=k2
      ·subst hk;rw[decide_eq_true rfl];refine tqb {rfl,rfl,x2,y2,xs2,ys2,rfl,hx2,hy2,?_,by simpa using F}
       rw[<- j];by_cases hxy:x2=y2<;>simp[hxy]
      ·rw[decide_eq_false hk];rw[show decide (x=y)=false by rw[<- j];simp[hk]] at h
       exact tqa (tqb (tqb (tqb h)))
 ·rintro⟨r1,r2⟩ L ⟨hr,rfl,M,O,z,B,J,I,H,j,F⟩;subst hr;refine tqb ?_;show P (.done (.ret (.bool (xs.size==ys.size)))) L;rw[<- F,show(z.length==B.length)=decide (x=y) from ?_]
  ·exact h
  ·rw[<- j];cases I with
   |nil=>cases H<;>simp
   | cons _ _=>cases H with
     |nil=>simp
     |cons _ _=>simp at J
def MF (z:A.units+2<cLine)(u:NK prog w s.heap x a)(v:NK prog w s.heap y b)(h:Q (decide (x=y)) s):wpAny (model prog w) A (eqBool (.ref a) (.ref b)) Q E s:=by
 unfold eqBool;try with_reducible refine tqo ?_
 by_cases j:(Value.ref a==Value.ref b)=true
 ·rw[if_pos j];obtain rfl:a=b:=by have:=eq_of_beq j;injection this
  obtain rfl:=u.inj v;exact tqa (wpAny_rule (tqb (by simpa using h)))
 ·rw[if_neg j];refine tqa (wpAny_richCompare_same_room u.typeIs v.typeIs F.slot_tuple_eq (wpAny_call_entry F.slot_tuple_eq u.typeIs F.entry_tuple_eq (xJ ?_ u v {_,rfl,(λe=>nomatch e),tqp h}) (F.args_tuple_eq_2 _ _)) `a)
  show A.units+1<cLine;omega
def BI (d:Nat)(hk:TK prog w s.heap ks a)(h:Q true s):wpAny (model prog w) A (eqIsQuiet (d+1) (.ref a)) Q E s:=by
 have B:=hk.typeIs;obtain⟨o,items,n,ho,_,hd,H⟩:=hk;unfold eqIsQuiet;refine tqa (wpAny_specialOf B F.slot_tuple_eq.lookup ?_);refine tqa (wpAny_isInstance B isSubtype_tuple_tuple ?_);refine tqa (wpAny_seqItems ho hd (tqa ?_));rw[<- Array.forIn_toList];refine wpAny_forIn_list _ (λrest r z=>r.1=none/\z=s/\∀v∈rest,carriedByValue v=true) _ ?_ ?_ _ _ ⟨rfl,rfl,H.byValue⟩
 ·rintro v rest r z ⟨hr,rfl,j⟩;rw[eqIsQuiet_byValue _ (j v QM)];refine tqa (tqb ?_);exact tqb {rfl,rfl,λu y=>j u (QF _ y)}
 ·rintro⟨r1,r2⟩ z ⟨hr,rfl,_⟩;subst hr;exact tqb h
def Cr (hk:NK prog w s.heap kss a)(h:Q true s):wpAny (model prog w) A (eqIsQuiet 8 (.ref a)) Q E s:=by
 have z:=hk.typeIs;obtain⟨o,items,n,ho,_,hd,B⟩:=hk;unfold eqIsQuiet;refine tqa (wpAny_specialOf z F.slot_tuple_eq.lookup ?_);refine tqa (wpAny_isInstance z isSubtype_tuple_tuple ?_);refine tqa (wpAny_seqItems ho hd (tqa ?_));rw[<- Array.forIn_toList];refine wpAny_forIn_list _ (λrest r y=>r.1=none/\y=s/\∃ks,ix prog w s.heap ks rest) _ ?_ ?_ _ _ ⟨rfl,rfl,kss,B⟩
 ·rintro v rest r y ⟨hr,rfl,ks,hl⟩;cases hl with
  | @cons k c u _ h1 j=>
    refine tqa (BI 6 h1 ?_);exact tqb ⟨rfl,rfl,u,j⟩
 ·rintro⟨r1,r2⟩ y ⟨hr,rfl,_⟩;subst hr;exact tqb h
end
def JY (prog:Rj)(w:Q8):HeapKind prog w (List (List Int)) where
 is:=NK prog w
 hash:=uq prog w
 draws:=nK
 room:=λA=>A.units+2<cLine
 inj:=λu v=>u.inj v
 keeps:=λx ho hd hs=>x.keeps ho hd hs
 pyHash:=λj hk h=>GV j hk h
 eqBool:=λj u v h=>MF j u v h
 quiet:=λhk h=>Cr hk h
end LD
namespace LD
open PySem PySem.Spec PyProof.Rows
section
variable{prog:Rj}{w:Q8}{K:Type}[DecidableEq K]{knd:HeapKind prog w K}{A:R6}{E:Qw->QA->Prop}{s:QA}
def iU (knd:HeapKind prog w K)(h:Heap)(d:Addr)(xs:List (K×Addr×Qw)):Prop:=
 ∃o j,h.get? d=some o/\o.ExactDict/\o.data=.dict j xs.length/\j.toList=xs.map (entryOfKey knd)/\(∀x∈xs,knd.is h x.1 x.2.1)/\(xs.map (·.1)).Nodup
def iU.of (x:iU knd h d xs):h.DictOfH knd d xs:=let⟨o,j,r⟩:=x;{o,j,_,r}
def lJ (O:knd.room A)(h:knd.is s.heap k a)(hm:iU knd s.heap d xs)
 (J:∀I,iU knd I d (storedH xs k a v)->R9 d s.heap I->Q () {s with heap:=I,toks:=s.toks+knd.draws k})
 (hsz:xs.length<=sizeLine) :
 wpAny (model prog w) A (dictSet d (.ref a) v) Q E s:=by
 obtain⟨o,P,ho,L,hd,he,z,hn⟩:=hm;unfold dictSet;try with_reducible refine tqo ?_
 refine tqa (knd.pyHash O h ?_);unfold dictSetHashed;try with_reducible refine tqo ?_
 refine tqa (wpAny_dictFind_heap O h ho hd he z hn ?_ ?_)
 ·intro B;have F:=not_mem_keys_of_get B;have e:=storedH_new (atKey_none_of_get B);refine tqa (wpAny_rule (wpAny_updateDictKeys (hz:=by have e:=size_of_entries he;omega) ho hd (J _ {_,_,R7 _ ho (Obj.isFreed_of_dict (Obj.data_mapDictKeys hd _)),
   L.mapDictKeys _,(Obj.data_mapDictKeys hd _).trans (by rw[e,Qt];rfl),?_,?_,?_} (R4 ..))))
  ·rw[e];simp[he,entryOfKey]
  ·rw[e];intro x u;rcases Q2.mp u with u|u
   ·exact knd.keeps (z x u) ho hd (R4 ..)
   ·simp only[QN] at u;subst u;exact knd.keeps h ho hd (R4 ..)
  ·rw[e];rw[QG,List.nodup_append];refine{hn,`s,?_}
   intro x u y H;simp only[RQ,List.map_nil,QN] at H;subst H;exact λe=>F (e ▸ u)
 ·intro j p M;have e:=storedH_old (atKey_of_get hn M);refine tqa (wpAny_rule (tqa (wpAny_updateDict ho hd (wpAny_point (J _ {_,_,R7 _ ho (Obj.isFreed_of_dict (Obj.data_mapDict hd _)),
   L.mapDict _,(Obj.data_mapDict hd _).trans (by rw[e,Qq]),?_,?_,?_} (R4 ..))))))
  ·rw[e];have:=modify_map_putAt (entryOfKey knd) (λe:Sg=>{e with val:=v}) k v (λ_ _=>rfl) hn M
   rw[<- he] at this;obtain⟨l⟩:=P;simpa using this
  ·rw[e];intro x u;obtain⟨y,H,rfl⟩:=QK.mp u;unfold putAt;split<;>exact knd.keeps (z y H) ho hd (R4 ..)
  ·rw[e];rw[keys_map_putAt];exact hn
def xv (F:knd.room A.in1)(j:knd.is s.heap k a)(hm:iU knd s.heap d xs)
 (B:∀h,iU knd h d (storedH xs k a v)->R9 d s.heap h->Q () {s with heap:=h,toks:=s.toks+knd.draws k})
 (hsz:xs.length<=sizeLine) :
 wpAny (model prog w) A (setItem (.ref d) (.ref a) v) Q E s:=by
 have u:=hm.of.typeIs;unfold setItem;try with_reducible refine tqo ?_
 refine tqa (wpAny_sequenceKey u `d ?_)
 refine tqa (wpAny_callSpecial?_slot u slot_dict_setitem
  (wpAny_call_entry slot_dict_setitem u entry_dict_setitem ?_ (args_dict_setitem _ _ _)))
 refine tqa (wpAny_notOrdered_dict u ?_);show wpAny _ _ (dictSet d (.ref a) v >>= _) _ _ s;exact tqa (lJ (hsz:=hsz) F j hm λh y z=>tqb {.none,rfl,tqb (B h y z)})
end
end LD
namespace LD
open PySem PySem.Spec PyProof.Rows L2
noncomputable def j8 (c:GT)(b:GS):Nat->Env->Mem->Res Fl
 |0,_,_=>.bad
 | n+1,h,M=>(c h M).bind λk M=>if k then(b h M).bind λfl M=>(match fl with
   |.next h=>j8 c b n h M
   |fl=>.ok fl M) else .ok (.next h) M
def i8 (c:GT)(b:GS):GS:=λh M=>j8 c b 100000 h M
section
variable{fa:Fa}{X:Cx}{c:Expr}{body:List Stmt}{gc:GT}{gb:GS}{pos:Pos}
set_option tactic.hygienic true in
def Gj (hp:PassesOwn (model X.prog X.w) X.A X.env X.xe)(hc:DT fa X c gc)(hb:nk fa X body gb):DS fa X (.While c body [] pos) (i8 gc gb):=
 cX (Cg hp hc hb) λD' σ H ⟨L,Z,M,hE,hM,h⟩=>by
  refine{λm v y=>∃j u B,Ext L H j y/\bt fa X.K j y v u/\RelM fa X.K j y B/\ae (j8 gc gb m u B) (jV fa X L H D'),{100000,L,Z,M,.refl,hE,hM,h},?_};rintro m σ2 H2 ⟨μ2,P,M2,R,E,U,q2⟩;cases m with
  |zero=>exact q2.elim
  | succ m=>
    obtain⟨k,M3,e3,q3⟩:=aJ q2;refine{μ2,P,M2,E,U,?_};rw[e3];intro H3 O J I;have F:=E.ext J;cases k with
    |false=>exact q3 σ2 H3 O (R.trans J) F I
    | true=>
      obtain⟨fl,M4,e4,Y⟩:=aJ q3;refine{λv y=>∃j u B,Ext L H j y/\bt fa X.K j y v u/\RelM fa X.K j y B/\ae (j8 gc gb m u B) (jV fa X L H D'),λv y z=>{m,Nat.lt_succ_self m,z},O,P,M3,F,I,?_};rw[e4];cases fl with
      |next Q=>exact λσ6 H6 μ6 x6 S W=>{μ6,Q,M4,(R.trans J).trans x6,S,W,Y}
      |ret d6=>exact bb.ext Y (R.trans J)
      |exc x6 Q=>exact XW.ext Y (R.trans J)
end
theorem wG {K:Qs}:∀{ds:List D}{vs:List V}{us:List Qw}{ks:List Int},aG fa K μ H ds vs->Vals vs us->intsOf ds=some ks->ItemsAre (intKind prog w) ks us
 | [],vs,us,ks,h,r,e=>by
   obtain rfl:vs=[]:=h;cases r;cases e;exact .nil
 | .int i::ds,vs,us,ks,h,r,e=>by
   obtain⟨v,vr,rfl,p,q⟩:=h;cases r with
   | cons r1 r2=>
     obtain⟨k,j,e⟩:=QP.mp e;subst e;obtain rfl:v=.int i:=p;obtain⟨t,rfl⟩:=r1;exact .cons (by simp[intKind,Value.isInt]) (wG q r2 j)
 |.non::_,_,_,_,_,_,e=>by cases e
 |.bl _::_,_,_,_,_,_,e=>by cases e
 |.str _::_,_,_,_,_,_,e=>by cases e
 |.tup _::_,_,_,_,_,_,e=>by cases e
 |.lst _::_,_,_,_,_,_,e=>by cases e
 |.frz _::_,_,_,_,_,_,e=>by cases e
 |.cell _::_,_,_,_,_,_,e=>by cases e
 |.fn _::_,_,_,_,_,_,e=>by cases e
 |.exc _ _::_,_,_,_,_,_,e=>by cases e
section
variable{fa:Fa}{X:Cx}{pins:List (Addr×Obj)}{σ:L2.St}{H:Hp}{s:QA}{μ:Mu}
def zi (I:Inv X pins σ H s)(r:Rep fa X.K μ H (.tup ds) (.ref b)):∃vs h o n,aG fa X.K μ H ds vs/\Vals vs h/\s.heap.get? b=some o/\o.cls=.type "tuple"/\o.data=.seq h.toArray n:=by
 obtain⟨a,vs,e,j,u⟩:=r;cases e;obtain⟨h,v,p,_⟩:=I.tuple j;obtain⟨o,h1,h2,n,h3⟩:=p;exact⟨vs,h,o,n,u,v,h1,h2,h3⟩
def wD (I:Inv X pins σ H s)(r:Rep fa X.K μ H d (.ref b))(e:mE d=some ks):TK X.prog X.w s.heap ks b:=by
 cases d with
 | tup v=>
   obtain⟨y,h,o,n,j,u,h1,h2,h3⟩:=zi I r;exact{o,h.toArray,n,h1,h2,h3,by simpa using wG j u e}
 |_=>cases e
theorem uF (I:Inv X pins σ H s):∀{ds:List D}{vs:List V}{us:List Qw}{j:List (List Int)},aG fa X.K μ H ds vs->Vals vs us->jI ds=some j->ix X.prog X.w s.heap j us
 | [],vs,us,j,h,r,e=>by
   obtain rfl:vs=[]:=h;cases r;cases e;exact .nil
 | d::ds,vs,us,j,h,r,e=>by
   obtain⟨v,vr,rfl,p,q⟩:=h;cases r with
   | cons r1 r2=>
     obtain⟨k,y,e⟩:=Ru.mp e;obtain⟨E,u,e⟩:=QP.mp e;subst e;cases d with
     | tup z=>
       obtain⟨a,J,rfl,B,F⟩:=id p;obtain rfl:=(r1);exact .cons (wD I p y) (uF I q r2 u)
     |_=>cases y
def G7 (I:Inv X pins σ H s)(r:Rep fa X.K μ H d (.ref b))(e:qL d=some kss):NK X.prog X.w s.heap kss b:=by
 cases d with
 | tup v=>
   obtain⟨y,h,o,n,j,u,h1,h2,h3⟩:=zi I r;exact{o,h.toArray,n,h1,h2,h3,by simpa using uF I j u e}
 |_=>cases e
end
theorem uK:∀{a b:List D}{x y:List Int},intsOf a=some x->intsOf b=some y->cM a b=decide (x=y)/\(x=y->a=b)
 |[],[],_,_,e,f=>by cases e;cases f;exact{rfl,λ_=>rfl}
 | [],.int j::b,_,_,e,f=>by
   obtain⟨_,_,rfl⟩:=QP.mp f;cases e;exact{by simp[cM],λz=>by cases z}
 | .int i::a,[],_,_,e,f=>by
   obtain⟨_,_,rfl⟩:=QP.mp e;cases f;exact{by simp[cM],λz=>by cases z}
 | .int i::a,.int j::b,_,_,e,f=>by
   obtain⟨x,e1,rfl⟩:=QP.mp e;obtain⟨y,f1,rfl⟩:=QP.mp f;obtain⟨h1,h2⟩:=uK e1 f1;refine{?_,λz=>?_}
   ·show(i==j&&cM a b)=_;rw[h1];by_cases z:i=j<;>simp[z]
   ·cases z;rw[h2 rfl]
 |.non::_,_,_,_,e,_=>by cases e
 |.bl _::_,_,_,_,e,_=>by cases e
 |.str _::_,_,_,_,e,_=>by cases e
 |.tup _::_,_,_,_,e,_=>by cases e
 |.lst _::_,_,_,_,e,_=>by cases e
 |.frz _::_,_,_,_,e,_=>by cases e
 |.cell _::_,_,_,_,e,_=>by cases e
 |.fn _::_,_,_,_,e,_=>by cases e
 |.exc _ _::_,_,_,_,e,_=>by cases e
 |_,.non::_,_,_,_,e=>by cases e
 |_,.bl _::_,_,_,_,e=>by cases e
 |_,.str _::_,_,_,_,e=>by cases e
 |_,.tup _::_,_,_,_,e=>by cases e
 |_,.lst _::_,_,_,_,e=>by cases e
 |_,.frz _::_,_,_,_,e=>by cases e
 |_,.cell _::_,_,_,_,e=>by cases e
 |_,.fn _::_,_,_,_,e=>by cases e
 |_,.exc _ _::_,_,_,_,e=>by cases e
def oS (e:mE d=some x):∃ds,d=.tup ds/\intsOf ds=some x:=by
 cases d with
 |tup ds=>exact⟨ds,rfl,e⟩
 |_=>cases e
def uG (e:mE a=some x)(f:mE b=some y):cb a b=decide (x=y)/\(x=y->a=b):=by
 obtain⟨h,rfl,e⟩:=oS e;obtain⟨bs,rfl,f⟩:=oS f;obtain⟨h1,h2⟩:=uK e f;exact{h1,λz=>by rw[h2 z]}
theorem rO:∀{a b:List D}{x y:List (List Int)},jI a=some x->jI b=some y->cM a b=decide (x=y)/\(x=y->a=b)
 |[],[],_,_,e,f=>by cases e;cases f;exact{rfl,λ_=>rfl}
 | [],d::b,_,_,e,f=>by
   obtain⟨_,_,f⟩:=Ru.mp f;obtain⟨_,_,rfl⟩:=QP.mp f;cases e;exact{by simp[cM],λz=>by cases z}
 | d::a,[],_,_,e,f=>by
   obtain⟨_,_,e⟩:=Ru.mp e;obtain⟨_,_,rfl⟩:=QP.mp e;cases f;exact{by simp[cM],λz=>by cases z}
 | d::a,j::b,_,_,e,f=>by
   obtain⟨k,u,e⟩:=Ru.mp e;obtain⟨x,e1,rfl⟩:=QP.mp e;obtain⟨E,h,f⟩:=Ru.mp f;obtain⟨y,f1,rfl⟩:=QP.mp f;obtain⟨v,B⟩:=uG u h;obtain⟨h1,h2⟩:=rO e1 f1;refine{?_,λz=>?_}
   ·show(cb d j&&cM a b)=_;rw[h1,v];by_cases z:k=E<;>simp[z]
   ·cases z;rw[h2 rfl,B rfl]
def CJ (e:qL a=some x)(f:qL b=some y):cb a b=decide (x=y)/\(x=y->a=b):=by
 cases a with
 | tup h=>
   cases b with
   | tup bs=>
     obtain⟨h1,h2⟩:=rO e f;exact{h1,λz=>by rw[h2 z]}
   |_=>cases f
 |_=>cases e
structure KD (X:Cx) (c:Int) where
 K:Type
 dq:DecidableEq K
 knd:HeapKind X.prog X.w K
 dec:D->Option K
 hash:∀d,nN c d=(dec d).map knd.hash
 is:∀{fa:Fa}{μ:Mu}{H:Hp}{pins:List (Addr×Obj)}{σ:L2.St}{s:QA}{d:D}{b:Addr}{k:K},Inv X pins σ H s->Rep fa X.K μ H d (.ref b)->dec d=some k->knd.is s.heap k b
 beq:∀{a b:D}{x y:K},dec a=some x->dec b=some y->cb a b=decide (x=y)/\(x=y->a=b)
 ref:∀{fa:Fa}{μ:Mu}{H:Hp}{d:D}{v:V}{k:K},Rep fa X.K μ H d v->dec d=some k->∃b,v=.ref b
 room:Rm X->knd.room X.A.in1
 room0:Rm X->knd.room X.A
def KD.f (X:Cx):KD X 77 where
 K:=List Int
 dq:=inferInstance
 knd:=tupleKind (intKind X.prog X.w)
 dec:=mE
 hash:=λd=>by unfold nN;rw[if_pos rfl];rfl
 is:=λI r e=>wD I r e
 beq:=λe f=>uG e f
 ref:=λr e=>by
  obtain⟨j,rfl,_⟩:=oS e;obtain⟨a,_,rfl,_⟩:=r;exact⟨a,rfl⟩
 room:=λh=>by show X.A.units+1<cLine;unfold Rm at h;omega
 room0:=λh=>by show X.A.units<cLine;unfold Rm at h;omega
def KD.n (X:Cx):KD X 78 where
 K:=List (List Int)
 dq:=inferInstance
 knd:=JY X.prog X.w
 dec:=qL
 hash:=λd=>by unfold nN;rw[if_neg `d,if_pos rfl];rfl
 is:=λI r e=>G7 I r e
 beq:=λe f=>CJ e f
 ref:=λ{fa μ H d v k} r e=>by
  cases d with
  | tup j=>
    obtain⟨a,_,rfl,_⟩:=r;exact⟨a,rfl⟩
  |_=>cases e
 room:=λh=>by show X.A.units+1+2<cLine;unfold Rm at h;omega
 room0:=λh=>by show X.A.units+2<cLine;unfold Rm at h;omega
noncomputable instance kdq {X:Cx}{c:Int} (kd:KD X c):DecidableEq kd.K:=kd.dq
noncomputable def lY (p:D×D):D:=.tup [p.1,p.2]
section
variable{fa:Fa}{X:Cx}{pins:List (Addr×Obj)}{σ:L2.St}{H:Hp}{s:QA}{μ:Mu}{c:Int}{kd:KD X c}{kvs:List (D×D)}
abbrev DP (fa:Fa)(X:Cx)(μ:Mu)(H:Hp){c:Int}(kd:KD X c):List (D×D)->List (kd.K×Addr×Qw)->Prop:=Ss λp x=>kd.dec p.1=some x.1/\Rep fa X.K μ H p.1 (.ref x.2.1)/\∃v,RelV v x.2.2/\Rep fa X.K μ H p.2 v
theorem KD.xs (kd:KD X c):∀{kvs:List (D×D)}{es:List Sg},Ss (Dt fa X.K μ H c) kvs es->∃xs,es=xs.map (entryOfKey kd.knd)/\DP fa X μ H kd kvs xs
 |_,_,.nil=>{[],rfl,.nil}
 | _,_,.cons ⟨b,v,e1,e2,h,j,u⟩ r=>by
   obtain⟨xs,rfl,q⟩:=KD.xs kd r;rw[kd.hash] at e2;obtain⟨k,z,y⟩:=QP.mp e2;refine{(k,b,_)::xs,?_,.cons ⟨z,h,v,j,u⟩ q};rw[RQ]
   congr 1
   unfold entryOfKey;rw[y,<- e1]
def KD.back {xs:List (kd.K×Addr×Qw)}:∀{kvs:List (D×D)},DP fa X μ H kd kvs xs->Ss (Dt fa X.K μ H c) kvs (xs.map (entryOfKey kd.knd)):=by
 intro kvs h;induction h with
 |nil=>exact .nil
 |cons r _ j=>exact .cons (let⟨h1,h2,v,h3,h4⟩:=r;{_,v,rfl,by rw[kd.hash,h1];rfl,h2,h3,h4}) j
def DP.mem (h:DP fa X μ H kd kvs xs)(m:x∈xs):∃p∈kvs,kd.dec p.1=some x.1/\Rep fa X.K μ H p.1 (.ref x.2.1):=by
 induction h with
 |nil=>cases m
 | cons r _ u=>
   rcases Q9.mp m with rfl|m
   ·exact{_,QM,r.1,r.2.1}
   ·obtain⟨p,j,q⟩:=u m;exact{p,QF _ j,q}
def DP.nodup (h:DP fa X μ H kd kvs xs)(n:(kvs.map (·.1)).Nodup):(xs.map (·.1)).Nodup:=by
 induction h with
 |nil=>exact List.nodup_nil
 | @cons p x ps B r t u=>
   rw[RQ,RP] at n ⊢;refine{λm=>n.1 ?_,u n.2};obtain⟨y,z,j⟩:=QK.mp m;obtain⟨q,v,e1,_⟩:=DP.mem t z;have:=(kd.beq r.1 e1).2 j.symm;rw[this];exact QK.mpr ⟨q,v,rfl⟩
def KD.dict {xs:List (kd.K×Addr×Qw)}(I:Inv X pins σ H s)(e:H a=some (.dn (xs.map (entryOfKey kd.knd))))(h:DP fa X μ H kd kvs xs)(n:(kvs.map (·.1)).Nodup):(a==sysModules)=false/\xs.length<=sizeLine/\iU kd.knd s.heap a xs:=by
 obtain⟨z,y,o,h1,h2,h3⟩:=(I.hok a _ e);refine{y,by simpa using z,o,_,h1,h2,by rw[h3,Qq],`s,λx j=>?_,h.nodup n}
 obtain⟨p,_,e1,e2⟩:=h.mem j;exact kd.is I e2 e1
def DP.look (h:DP fa X μ H kd kvs xs)(hk:kd.dec k=some kk):(dM (kvs.map lY) k=none/\atKey xs kk=none)\/∃d b v u,dM (kvs.map lY) k=some d/\atKey xs kk=some (b,u)/\RelV v u/\Rep fa X.K μ H d v:=by
 induction h with
 |nil=>exact .inl ⟨rfl,rfl⟩
 | @cons p x ps y r t j=>
   obtain⟨h1,h2,v,h3,h4⟩:=r;have b:=(kd.beq h1 hk).1;unfold dM atKey at j ⊢;rw[RQ,List.find?_cons,List.find?_cons];rw[show cb (yf (lY p)) k=decide (x.1=kk) from b];by_cases z:x.1=kk
   ·rw[decide_eq_true z];exact .inr ⟨p.2,x.2.1,v,x.2.2,rfl,rfl,h3,h4⟩
   ·rw[decide_eq_false z];exact j
def jZ (kvs:List (D×D))(k d:D):List (D×D):=if (dM (kvs.map lY) k).isSome then kvs.map (λp=>if cb p.1 k then(p.1,d) else p) else kvs++[(k,d)]
def Jv (kvs:List (D×D))(k d:D):(jZ kvs k d).map lY=putD (kvs.map lY) k d:=by
 unfold jZ putD;split
 ·rw[Rv,Rv];refine Sf λp _=>?_;show lY (if cb p.1 k then(p.1,d) else p)=if cb p.1 k then _ else _;split<;>rfl
 ·rw[QG];rfl
def zS (kvs:List (D×D))(k d:D):(jZ kvs k d).map (·.1)=if (dM (kvs.map lY) k).isSome then kvs.map (·.1) else kvs.map (·.1)++[k]:=by
 unfold jZ;split
 ·rw[Rv];refine Sf λp _=>?_;show(if cb p.1 k then(p.1,d) else p).1=p.1;split<;>rfl
 ·rw[QG];rfl
set_option tactic.hygienic true in
def DP.put (h:DP fa X μ H kd kvs xs)(hk:kd.dec k=some kk)(B:Rep fa X.K μ H k (.ref b))(j:RelV v u)(rd:Rep fa X.K μ H d v):DP fa X μ H kd (jZ kvs k d) (storedH xs kk b u):=by
 have e:(dM (kvs.map lY) k).isSome=(atKey xs kk).isSome:=by
  rcases h.look hk with⟨h1,h2⟩|⟨_,_,_,_,h1,h2,_⟩<;>rw[h1,h2]<;>rfl
 unfold jZ storedH;rw[e];split
 ·next hs=>
  clear e hs;induction h with
  |nil=>exact .nil
  | @cons p x ps E r t y=>
    refine .cons ?_ y;have b2:=(kd.beq r.1 hk).1;unfold putAt;dsimp only;rw[b2];by_cases z:x.1=kk
    ·rw[decide_eq_true z,if_pos z,if_pos rfl];exact⟨r.1,r.2.1,v,j,rd⟩
    ·rw[decide_eq_false z,if_neg z,if_neg QX];exact r
 ·exact Paired.snoc h ⟨hk,B,v,j,rd⟩
set_option tactic.hygienic true in
def DP.keys (h:DP fa X μ H kd kvs xs)(n:(kvs.map (·.1)).Nodup)(hk:kd.dec k=some kk):((jZ kvs k d).map (·.1)).Nodup:=by
 rw[zS];split
 ·exact n
 ·next z=>
  refine List.nodup_append.mpr {n,`s,λa u b v q=>z ?_}
  obtain rfl:=QN.mp v;subst q;obtain⟨p,y,j⟩:=QK.mp u;rw[dM,SM,List.find?_isSome];refine{lY p,QK.mpr ⟨p,y,rfl⟩,?_};show cb p.1 a=true;rw[j,(kd.beq hk hk).1];exact decide_eq_true rfl
end
def iN (a b:GE):GE:=λh M=>(a h M).bind λx M=>(b h M).bind λk M=>match x with
 |.fn o=>bV M (getD M o k)
 |_=>.bad
def mK (n:Bool)(a b:GE):GE:=λh M=>(a h M).bind λk M=>(b h M).bind λx M=>match x with
 | .fn o=>(match inD M o k with
   |some r=>.ok (.bl (n != r)) M
   |none=>.bad)
 |_=>.bad
def kY (a b d:GE):GS:=λh M=>(d h M).bind λz M=>(a h M).bind λx M=>(b h M).bind λk M=>match x with
 | .fn o=>(match dh M o with
   |some q=>if isKey q.1 k=true/\q.2.length<1000000 then .ok (.next h) (M.set (o-5000) (.int q.1::putD q.2 k z)) else .bad
   |none=>.bad)
 |_=>.bad
structure iy (fa:Fa):Prop where
 of:∀o,5000<=o->fa o=none
 n77:fa (jG 77)=none
 n78:fa (jG 78)=none
section
variable{fa:Fa}{K:Qs}{μ:Mu}{H:Hp}{M:Mem}
def Ext.dic (h:RelM fa K μ H M)(v:H a=some (.dn es)):Ext μ H μ (upd H a (.dn es')):=by
 have ne:∀{b o},H b=some o->(∀es,o≠.dn es)->b≠a:=λg n z=>by rw[z,v] at g;cases g;exact n _ rfl
 refine{{λ_ _ q=>q,λb j g=>?_,λb j g n=>{by rw[aF (ne g (λ_ z=>by cases z))];exact g,n},λb ob u g=>by rw[aF (ne g (λ_ z=>by cases z))];exact g,λb o i g=>?_,λ_ _ q=>q},rfl,λb y=>?_}
 ·rcases g with g|⟨ob,g⟩
  ·exact .inl (by rw[aF (ne g (λ_ z=>by cases z))];exact g)
  ·exact .inr {ob,by rw[aF (ne g (λ_ z=>by cases z))];exact g}
 ·rw[aF (ne g (λ_ z=>by rcases i with⟨_,i⟩|⟨_,i⟩<;>(rw[i] at z;cases z)))];exact g
 ·obtain⟨⟨j,g⟩,_⟩:=h.pv b y;rw[aF (ne g (λ_ z=>by cases z))]
def RelM.dicW (h:RelM fa K μ H M)(e:M[k]?=some ds)(v:μ.ob (aQ k)=some a)(I:H a=some (.dn es))(new:jz fa K μ (upd H a (.dn es')) a y):RelM fa K μ (upd H a (.dn es')) (M.set k y):=by
 have x:Ext μ H μ (upd H a (.dn es')):=Ext.dic h I;refine{λj B q=>?_,λj u=>h.out j (by simpa using u),λj u=>h.oout j (by simpa using u),h.inj,h.oinj,h.sep,λb E=>{let{⟨F,g⟩,_}:=h.pv b E;{F,by rw[x.pk b E];exact g},(h.pv b E).2}}
 by_cases u:j=k
 ·subst u;rw[QR (Qr.mp e).1] at q;cases q;refine .inr {a,v,?_,new};cases z:μ.pub j with
  |none=>rfl
  |some b=>rw[h.sep j b z] at v;cases v
 ·rw[QJ (RR u)] at q;rcases h.at' j B q with⟨b,F,h1,h2,h3⟩|⟨b,h1,h2,h3⟩
  ·exact .inl {b,F,h1,by rw[aF (λz=>by rw[z,I] at h2;cases h2)];exact h2,h3.ext x}
  ·exact .inr {b,h1,h2,h3.extW x.toExtW (aF λz=>u (h.oinj _ _ a (z ▸ h1) v))}
set_option tactic.hygienic true in
def Ext.dicNew (h:RelM fa K μ H M)(u:H x=none):Ext μ H (pN μ M.length x) (upd H x (.dn [])):=by
 have e:Ext μ H μ (upd H x (.dn [])):=Ext.alloc h u;refine{{e.mu,e.tups,λb v g n=>{(e.lsts b v g n).1,n},e.frzs,e.exts,λj b z=>?_},rfl,e.pk};show(if j=aQ M.length then some x else μ.ob j)=some b;split
 ·next q=>rw[q,h.oout _ (Qy _)] at z;cases z
 ·exact z
set_option tactic.hygienic true in
def RelM.dicNew {c:Int}(h:RelM fa K μ H M)(u:H x=none)(F:c=77\/c=78):RelM fa K (pN μ M.length x) (upd H x (.dn [])) (M++[[.int c]]):=by
 have X:=Ext.dicNew h u;have old:∀{b o},H b=some o->(upd H x (.dn [])) b=some o:=λg=>by rw[aF (aZ g u)];exact g
 have pc:∀{k b},(pN μ M.length x).ob (aQ k)=some b->(k=M.length/\b=x)\/μ.ob (aQ k)=some b:=λ{k b} z=>by
  have z:(if aQ k=aQ M.length then some x else μ.ob (aQ k))=some b:=z;split at z
  ·next q=>cases z;exact .inl {Nat.add_left_cancel q,rfl}
  ·exact .inr z
 refine{λk E q=>?_,λk hk=>h.out k (by simp at hk;omega),λk hk=>?_,h.inj,λj k b e1 e2=>?_,λk b z=>?_,λb B=>{?_,(h.pv b B).2}}
 ·by_cases hk:k<M.length
  ·rw[QE hk] at q;rcases h.at' k E q with⟨b,y,h1,h2,h3⟩|⟨b,h1,h2,h3⟩
   ·exact .inl {b,y,h1,old h2,h3.ext X}
   ·exact .inr {b,X.obs _ _ h1,h2,h3.extW X.toExtW (by obtain⟨o,e,_⟩:=h3.hold;rw[old e,e])}
  ·have v:k=M.length:=by
    have:=(Qr.mp q).1;simp at this;omega
   subst v;rw[Q4 (Qy _)] at q;simp at q;subst q;exact .inr {x,by show(if aQ M.length=aQ M.length then some x else _)=some x;rw[if_pos rfl],h.out _ (Qy _),.inr {c,[],[],cx,F,rfl,.nil,List.nodup_nil}}
 ·show(if aQ k=aQ M.length then some x else μ.ob (aQ k))=none;simp at hk;rw[if_neg (λz=>by have:=Nat.add_left_cancel z;omega)]
  exact h.oout k `a
 ·rcases pc e1 with⟨a1,a2⟩|a1<;>rcases pc e2 with⟨b1,b2⟩|b1
  ·omega
  ·subst a2;obtain⟨_,z⟩:=h.ob_ins b1;rw[u] at z;cases z
  ·subst b2;obtain⟨_,z⟩:=h.ob_ins a1;rw[u] at z;cases z
  ·exact h.oinj j k b a1 b1
 ·show(if aQ k=aQ M.length then some x else μ.ob (aQ k))=none;have z:μ.pub k=some b:=z;rw[if_neg (λq=>by rw[Nat.add_left_cancel q,h.out _ (Qy _)] at z;cases z)]
  exact h.sep k b z
 ·obtain⟨⟨y,g⟩,_⟩:=h.pv b B;exact{y,old g}
end
section
variable{fa:Fa}{X:Cx}{pins:List (Addr×Obj)}{σ:L2.St}{H:Hp}{s:QA}{μ:Mu}{M:Mem}
set_option tactic.hygienic true in
def oU {c:Int}(h:isKey c d=true)(kd:KD X c):∃kk,kd.dec d=some kk:=by
 have e:(nN c d).isSome=true:=by
  unfold isKey at h;unfold nN;split at h
  ·next z=>rw[if_pos z,SM];exact h
  ·next z=>
   rw[if_neg z];split at h
   ·next y=>rw[if_pos y,SM];exact h
   ·cases h
 rw[kd.hash,SM] at e;exact Option.isSome_iff_exists.mp e
def MO {c:Int}(X:Cx)(h:c=77\/c=78):Nonempty (KD X c):=by
 rcases h with rfl|rfl
 ·exact{KD.f X}
 ·exact{KD.n X}
set_option tactic.hygienic true in
def qb (hd:iy fa)(I:Inv X pins σ H s)(L:RelM fa X.K μ H M)(r:Rep fa X.K μ H (.fn o) v)(e:dh M o=some q) :
 ∃(a:Addr) (kd:KD X q.1) (h:List (D×D)) (xs:List (kd.K×Addr×Qw)),v=.ref a/\5000<=o/\μ.ob o=some a/\M[o-5000]?=some (.int q.1::q.2)/\H a=some (.dn (xs.map (entryOfKey kd.knd)))/\(q.1=77\/q.1=78)/\q.2=h.map lY/\DP fa X μ H kd h xs/\(h.map (·.1)).Nodup:=by
 unfold dh at e;split at e
 ·next ho=>
  split at e
  ·next c Q B=>
   split at e
   ·next z=>
    cases e;obtain⟨a,rfl,j⟩:=r;rcases j with j|⟨_,j⟩
    ·rw[hd.of o ho] at j;cases j
    have E:aQ (o-5000)=o:=Nat.add_sub_cancel' ho;rcases L.at' _ _ B with⟨b,R,h1,_⟩|⟨b,h1,h2,⟨n,C,P,fs,y,h3,h4,F,u,J⟩|⟨O,y,h,h3,h4,F,u,J⟩⟩
    ·have:=L.sep _ _ h1;rw[E,j] at this;cases this
    ·have u:=(List.cons.inj u).1;have u:=D.int.inj u;rcases z with rfl|rfl
     ·have:n=77:=`a
      rw[this,hd.n77] at h3;cases h3
     ·have:n=78:=`a
      rw[this,hd.n78] at h3;cases h3
    ·rw[E,j] at h1;cases h1;obtain⟨e1,e2⟩:=List.cons.inj F;cases D.int.inj e1;obtain⟨kd⟩:=MO X z;obtain⟨xs,rfl,dp⟩:=kd.xs u;exact⟨a,kd,h,xs,rfl,ho,j,B,h3,z,e2,dp,J⟩
   ·cases e
  ·cases e
 ·cases e
def rDG (fa:Fa)(K:Qs):R2:=λx y H Q=>∃μ M o h d,RelM fa K μ H M/\Rep fa K μ H (.fn o) x/\Rep fa K μ H h y/\getD M o h=some d/\bb fa K μ H Q d M
set_option tactic.hygienic true in
def EM (Y:Rm X)(hd:iy fa):jT X (rDG fa X.K):=by
 intro E B pins s σ H x y v u Q I rx ry h hs;obtain⟨μ,M,o,dy,d,P,r1,r2,e,q⟩:=h;obtain⟨qq,e1,e2⟩:=Ru.mp e;split at e2
 ·next hk=>
  obtain⟨a,J,kvs,xs,rfl,ho,ha,em,W,hc,U,dp,nd⟩:=qb hd I P r1 e1;obtain⟨kk,L⟩:=oU hk J;obtain⟨b,rfl⟩:=J.ref r2 L;obtain⟨ys,hz,O⟩:=KD.dict I W dp nd;obtain rfl:v=Value.ref a:=rx;obtain rfl:u=Value.ref b:=ry;rw[U] at e2;rcases dp.look L with⟨z,_⟩|⟨d',b',v',u',z,g,ru,rd⟩
  ·rw[z] at e2;cases e2
  ·rw[z] at e2;cases e2;have R:=O.of.typeIs;have h2:wpAny (model X.prog X.w) X.A (getItem (.ref a) (.ref b)) (EP X pins σ Q) X.xe s:=wpAny_getItem_heap (J.room Y) (J.is I r2 L) O.of g {v',H,I.tok _,ru,aR P q rd};refine tqa ?_;rw[getitemInPython_of_ne R.not_modules];refine tqa (wpAny_specialOf R PySem.F.slot_dict_getitem.lookup ?_);have j:wpAny (model X.prog X.w) X.A (subscripted B false (.ref a) (.ref b)) (λr S=>wpAny (model X.prog X.w) X.A (letTemporaryGo E (.ref a) r >>= λ_=>pure r) (EP X pins σ Q) X.xe S) X.xe s:=by
    rw[hs];exact wpAny_operating (wpAny_mono h2 (λr S h3=>tqa (wpAny_letTemporaryGo (tqb h3))) λ_ _ x=>x)
   first
    |exact tqb (tqa j)
    |exact tqa (tqb (tqa j))
    |exact tqa j
 ·cases e2
def rDI (fa:Fa)(K:Qs)(n:Bool):R2:=λx y H Q=>∃μ M o h b,RelM fa K μ H M/\Rep fa K μ H h x/\Rep fa K μ H (.fn o) y/\inD M o h=some b/\Q (.bl (n != b)) H
set_option tactic.hygienic true in
def EX (F:Rm X)(hd:iy fa)(n:Bool):bL X (compareOp (if n then .NotIn else .In)) (rDI fa X.K n):=by
 intro pins s σ H x y v u Q I S U h;obtain⟨μ,M,o,L,b,R,r1,r2,e,q⟩:=h;obtain⟨qq,e1,e2⟩:=Ru.mp e;split at e2
 ·next hk=>
  obtain⟨a,j,B,xs,rfl,ho,Y,W,P,hc,O,dp,nd⟩:=qb hd I R r2 e1;obtain⟨kk,z⟩:=oU hk j;obtain⟨c,rfl⟩:=j.ref r1 z;obtain⟨J,hz,E⟩:=KD.dict I P dp nd;obtain rfl:v=Value.ref c:=S;obtain rfl:u=Value.ref a:=U;rw[O] at e2;cases e2;have eq:(dM (B.map lY) L).isSome=(atKey xs kk).isSome:=by
   rcases dp.look z with⟨h1,h2⟩|⟨_,_,_,_,h1,h2,_⟩<;>rw[h1,h2]<;>rfl
  rw[eq] at q;cases n with
  |false=>exact wpAny_in_heap (j.room F) (j.is I r1 z) J E.of {.bl _,H,I.tok _,rfl,by simpa using q}
  |true=>exact wpAny_notIn_heap (j.room F) (j.is I r1 z) J E.of {.bl _,H,I.tok _,rfl,by simpa using q}
 ·cases e2
def rDS (fa:Fa)(K:Qs):Dn:=λx y v H Q=>∃μ M o j d q,RelM fa K μ H M/\Rep fa K μ H (.fn o) x/\Rep fa K μ H j y/\Rep fa K μ H d v/\dh M o=some q/\isKey q.1 j=true/\q.2.length<1000000/\∀h,Ext μ H μ h->RelM fa K μ h (M.set (o-5000) (.int q.1::putD q.2 j d))->Q h
def qU (hd:iy fa)(I:Inv X pins σ H s)(Q:RelM fa X.K μ H M)(r1:Rep fa X.K μ H (.fn o) x)(r2:Rep fa X.K μ H dy y)(ry:RelV y iv)(rv:RelV v u)(r3:Rep fa X.K μ H d v)(e1:dh M o=some q)(hk:isKey q.1 dy=true)(hl:q.2.length<1000000) :
 ∃(a b:Addr) (kd:KD X q.1) (kk:kd.K) (xs:List (kd.K×Addr×Qw)),x=.ref a/\iv=.ref b/\kd.knd.is s.heap kk b/\xs.length<=sizeLine/\iU kd.knd s.heap a xs/\∀J t,iU kd.knd J a (storedH xs kk b u)->R9 a s.heap J->∃O,Inv X pins σ O {s with heap:=J,toks:=t}/\Ext μ H μ O/\RelM fa X.K μ O (M.set (o-5000) (.int q.1::putD q.2 dy d)):=by
 obtain⟨a,kd,h,xs,rfl,ho,ha,Y,L,hc,E,dp,nd⟩:=qb hd I Q r1 e1;obtain⟨kk,F⟩:=oU hk kd;obtain⟨b,rfl⟩:=kd.ref r2 F;obtain⟨ys,hz,S⟩:=KD.dict I L dp nd;obtain rfl:iv=Value.ref b:=ry;have j:=dp.put F r2 rv r3;refine{a,b,kd,kk,xs,rfl,rfl,kd.is I r2 F,hz,S,λJ t P hs=>?_};obtain⟨R,es',h1,h2,h3,h4,_,_⟩:=P;have lx:(storedH xs kk b u).length<=sizeLine:=by
  have l1:=Paired.length j;have l2:(jZ h dy d).length<=h.length+1:=by
   unfold jZ;split<;>simp
  have l3:h.length<1000000:=by rw[E,Qq] at hl;exact hl
  rw[<- l1,sizeLine_eq];omega
 have eo:aQ (o-5000)=o:=Nat.add_sub_cancel' ho;have x:=Ext.dic (es':=(storedH xs kk b u).map (entryOfKey kd.knd)) Q L;refine{upd H a (.dn ((storedH xs kk b u).map (entryOfKey kd.knd))),I.write (by rw[L];exact True.intro) (.inl rfl) (λb q hb z=>(hs.2 b hb).trans z) ⟨R,h1⟩ {by simpa using lx,ys,R,h1,h2,?_},x,?_}
 ·have B:=congrArg List.length h4;rw[Qq] at B;rw[h3,<- h4,B]
 ·refine Q.dicW Y (by rw[eo];exact ha) L (.inr {q.1,_,jZ h dy d,cx,hc,?_,Ss.mapP (KD.back j) (by rintro p e ⟨b,v,e1,e2,E,U,W⟩;exact{b,v,e1,e2,E.ext x,U,W.ext x}),dp.keys nd F})
  rw[E,<- Jv];rfl
def Gi (P:Rm X)(hd:iy fa):Dr X (rDS fa X.K):=by
 intro pins s σ H x y v W iv u Q I rx ry rv h;obtain⟨μ,M,o,dy,d,q,L,r1,r2,Y,e1,hk,hl,k⟩:=h;obtain⟨a,b,S,kk,xs,rfl,rfl,O,R,F,z⟩:=qU hd I L r1 r2 ry rv Y e1 hk hl;obtain rfl:W=Value.ref a:=rx;refine xv (hsz:=R) (S.room P) O F λJ j hs=>?_;obtain⟨B,E,x',U⟩:=z J _ j hs;exact{B,E,k B x' U}
end
section
variable{fa:Fa}{X:Cx}{a b d:Expr}{ga gb gd:GE}{pos:Pos}
def Lw (O:Rm X)(hd:iy fa)(J:DE fa X a ga)(L:DE fa X b gb)(hs:gF b):DE fa X (.Subscript a b pos) (iN ga gb):=
 bC (pH (EM O hd) J L hs) λW H Q ⟨S,U,M,E,I,h⟩=>t2 E I h λx y B v u R z P F j r1 r2 h2=>by
  cases x with
  | fn o=>
    obtain⟨d,e,q⟩:=kn h2;exact{z,B,o,y,d,j,r1,r2,e,bb.ext q P}
  |_=>exact h2.elim
def wQ {x y:D}(h:ae (match y with|.fn o=>(match inD M o x with|some r=>Res.ok (D.bl (n != r)) M|none=>.bad)|_=>.bad) k):∃o r,y=.fn o/\inD M o x=some r/\k (.bl (n != r)) M:=by
 cases y with
 | fn o=>
   dsimp only at h;cases e:inD M o x with
   |none=>rw[e] at h;exact h.elim
   |some r=>rw[e] at h;exact⟨o,r,rfl,e,h⟩
 |_=>exact h.elim
def Nx (n:Bool)(O:Rm X)(hd:iy fa)(J:DE fa X a ga)(L:DE fa X b gb)(hm:behindInMarks (if n then .NotIn else .In) b=false):DE fa X (.Compare a [if n then .NotIn else .In] [b] pos) (mK n ga gb):=
 bC (qE (EX O hd n) J L hm) λW H Q ⟨S,U,M,E,I,h⟩=>t2 E I h λx y B v u R z P F j r1 r2 h2=>by
  obtain⟨o,r,rfl,e,q⟩:=wQ h2;exact{z,B,o,x,r,j,r1,r2,e,aR j (q.ext P) rfl}
def K0 (n:Bool)(W:Rm X)(hd:iy fa)(S:DE fa X a ga)(U:DE fa X b gb)(hm:behindInMarks (if n then .NotIn else .In) b=false):DT fa X (.Compare a [if n then .NotIn else .In] [b] pos) (ak (mK n ga gb)):=
 kg (qC (EX W hd n) S U hm) λσ H Q ⟨μ,Z,M,O,R,h⟩=>by
  obtain⟨z,I,e,q⟩:=aJ h;have L:ae (mK n ga gb Z M) (λd M=>d=z/\M=I):=by rw[e];exact⟨rfl,rfl⟩
  refine t2 O R L λx y F v u E B Y P j r1 r2 h2=>?_;obtain⟨o,r,rfl,e1,e2,J⟩:=wQ h2;subst e2 J;exact{B,F,o,x,r,j,r1,r2,e1,n != r,rfl,q E B Y j}
set_option tactic.hygienic true in
def I8 (hu:Rm X)(hk:iy fa)(W:DE fa X a ga)(Y:DE fa X b gb)(hd:DE fa X d gd)
 (R:∀v,assign (.Subscript a b p2) X.env v=(do
  let u <- holding [v] (eval a X.env)
  let J <- holding [v,u] (eval b X.env)
  standAt p2
  holding [v,u,J] (setItem u J v)
  release [v,u,J] [])) (hs:swapsWithSole [.Subscript a b p2] d pos.line X.env=pure false) (hw:swappedStores [.Subscript a b p2] d X.env=pure none) :
 DS fa X (.Assign [.Subscript a b p2] d pos) (kY ga gb gd):=
 cX (mw hd (zY W Y (Gi hu hk) R) hs hw) λD' σ H ⟨μ,Z,M,S,U,h⟩=>t1 S U h λz M1 v H1 μ1 x1 B F r1 h1=>t2 B F h1 λx y L vx vy H2 j P E I rx ry h2=>by
  cases x with
  | fn o=>
    dsimp only at h2;cases e:dh L o with
    |none=>rw[e] at h2;exact h2.elim
    | some q=>
      rw[e] at h2;dsimp only at h2;split at h2
      ·next c=>
       have w:=h2;exact{j,L,o,y,z,q,I,rx,ry,r1.ext P,e,c.1,c.2,λQ O m'=>w σ Q j ((x1.trans P).trans O) (E.ext O) m'}
      ·exact h2.elim
  |_=>exact h2.elim
end
def uA (hd:(d==sysModules)=false) :
 MeetsIn prog w (Builtin.«dict.__len__» {[.ref d],[]}) (λ_ R s=>∃o es u,s.heap.get? d=some o/\o.data=.dict es u/\R (.ok (.ret (.int es.size s.toks))) {s with toks:=s.toks+1}):=
 .of_wp λA R s ⟨o,es,u,ho,j,h⟩=>by
  show wpAny _ _ (dictSize d >>= _) _ _ s;refine tqa (tqa (wpAny_dictEntries ho j (tqb ?_)));refine tqa (wpAny_pendingCount_other hd (wpAny_ret_mkInt ?_));rw[Nat.add_zero];exact h
def Kf (hd:(d==sysModules)=false)(ho:s.heap.get? d=some o)(y:o.cls=.type "dict")(j:o.data=.dict es ep)(v:es.size<2^62)
 (h:∀t t',Q (.int es.size t) {s with toks:=t'}):wpAny (model prog w) A (call (.builtin "len") [.ref d]) Q E s:=by
 have u:s.TypeIs (.ref d) "dict":=⟨o,ho,y⟩;refine Calls.call_function_entry kind_len plain_len entry_len (args_len1 _) ?_;refine tqa (tqb ?_);refine tqa (wpAny_callSpecial?_slot u F.slot_dict_len (call_meetsIn F.slot_dict_len u F.entry_dict_len (F.args_dict_len_1 _) (uA hd) {o,es,ep,ho,j,?_}));refine tqa (tqo (tqb (tqa (wpAny_letGo ?_))));rw[if_neg `a]
 rw[if_neg `a]
 exact tqa (wpAny_mkInt (tqb {_,rfl,h _ _}))
def nS (a:GE):GE:=λh M=>(a h M).bind λx M=>match x with
 | .fn o=>(match dh M o with
   |some q=>.ok (.int q.2.length) M
   |none=>.bad)
 |_=>.bad
section
variable{fa:Fa}{X:Cx}{a:Expr}{ga:GE}{p pos:Pos}
def KN (hd:iy fa):cf X (.builtin "len") (λxs H Q=>∃μ M o q v,xs=[v]/\RelM fa X.K μ H M/\Rep fa X.K μ H (.fn o) v/\dh M o=some q/\Q (.int q.2.length) H):=by
 intro j s σ H xs us Q I r h;obtain⟨μ,M,o,q,v,rfl,F,P,e,k⟩:=h;obtain⟨b,J,L,R,rfl,ho,U,S,E,W,u,dp,nd⟩:=qb hd I F P e;cases r with
 | cons r O=>
   cases O;obtain rfl:=(r);obtain⟨z,y,ob,h1,h2,h3⟩:=(I.hok b _ E);have B:(R.map (entryOfKey J.knd)).toArray.size=q.2.length:=by
    rw[u,QB,Qq,Qq];exact(Paired.length dp).symm
   refine Kf y h1 h2.1 h3 ?_ λt Y=>{.int q.2.length,H,I.tok _,{t,by rw[B]},k}
   rw[QB];rw[sizeLine_eq] at z;omega
def Lv (hd:iy fa)(I:Gl X "len")(hm:X.mg "len"=none)(F:DE fa X a ga)(he:notStar a=true):DE fa X (.Call (.Name "len" p) [a] [] pos) (nS ga):=
 bC (hV (KN hd) I hm PySem.boot_len (cS F eD (by rw[bo he])) `d `d (by rw[bo he]) `r) λR H Q ⟨O,P,M,z,E,h⟩=>t1 z E h λx y v L u J B j r1 h1=>by
  cases x with
  | fn o=>
    dsimp only at h1;cases e:dh y o with
    |none=>rw[e] at h1;exact h1.elim
    |some q=>rw[e] at h1;exact{u,y,o,q,v,rfl,j,r1,e,aR j (bb.ext h1 J) rfl}
  |_=>exact h1.elim
end
def jN (u y:GE):Env->List D->Mem->Res (List D):=λj h M=>(u j M).bind λk M=>(y j M).bind λv M=>match h with
 | [.fn o]=>(match dh M o with
   |some q=>if isKey q.1 k=true/\q.2.length<1000000 then .ok h (M.set (o-5000) (.int q.1::putD q.2 k v)) else .bad
   |none=>.bad)
 |_=>.bad
def kB (c:Int)(n:Nat)(t:fW)(u:GW)(g:GB):GE:=λj M=>(u j M).bind λw M=>(cV (cW t g (List.replicate n none++j)) w [.fn (aQ M.length)] (M++[[.int c]])).bind λh M=>match h with
 |[d]=>.ok d M
 |_=>.bad
def xb (a:Addr):PA:=λj _ h=>∃o,h=[.fn o]/\5000<=o/\j.ob o=some a
def xb.stab:yF (xb a):=(by rintro _ _ _ _ _ x ⟨o,h1,h2,h3⟩;exact{o,h1,h2,x.obs _ _ h3})
def BG (B y h j:Expr)(u:Scope)(pos:Pos)(z:Qw)(d:Addr)(env:RY) :
 compTurn (.DictComp B y [{h,j,[],0}] u pos) 0 z (.ref d) env=(standAt j.pos >>= λ_=>pyNext z >>= λr=>match r with
  |none=>pure (.done .next)
  |some v=>letOwnedTupleGo h z v >>= λ_=>assign h env v >>= λ_=>(eval B env >>= λE=>holding [E] (eval y env) >>= λF=>standAt {B.pos with endLine:=y.pos.endLine,endCol:=y.pos.endCol} >>= λ_=>holding [E,F] (dictSet d E F)) >>= λ_=>again (.compLoop (.DictComp B y [{h,j,[],0}] u pos) 0 z (.ref d) env)):=`r
section
variable{fa:Fa}{X:Cx}{a:Addr}
set_option tactic.hygienic true in
def HA (hu:Rm X)(hd:iy fa)(hk:DE fa X kx gk)(hv:DE fa X vx gv):DB fa X (xb a) a [] (eval kx X.env >>= λY=>holding [Y] (eval vx X.env) >>= λvv=>standAt {kx.pos with endLine:=vx.pos.endLine,endCol:=vx.pos.endCol} >>= λ_=>holding [Y,vv] (dictSet a Y vv)) (jN gk gv):=by
 rintro z s O H Q μ Z M _ I U hM hc ⟨o,rfl,ho,W⟩ h;obtain⟨k,M1,e,h⟩:=aJ h;obtain⟨v,M2,e2,h⟩:=aJ h;dsimp only at h;cases R:dh M2 o with
 |none=>rw[R] at h;exact h.elim
 | some q=>
   rw[R] at h;dsimp only at h;split at h
   ·next c=>
    refine tqa (aP (hk z s O H (λv y=>∃j,Ext μ H j y/\RelM fa X.K j y M1/\Rep fa X.K j y k v) I {μ,Z,M,U,hM,?_}) λuk s1 ⟨wk,y,I1,rk,j,B,E,r1⟩=>?_)
    ·rw[e];exact λv y j B E r1=>⟨j,B,E,r1⟩
    refine tqa (tqo (aP (hv z s1 O y (λw J=>∃u,Ext j y u J/\RelM fa X.K u J M2/\Rep fa X.K u J v w) I1 {j,Z,M1,U.ext B,E,?_}) λuv s2 ⟨wv,J,I2,rv,u,L,m2,r2⟩=>?_))
    ·rw[e2];exact λv y j B E r1=>⟨j,B,E,r1⟩
    have F:=L.obs _ _ (B.obs _ _ W);obtain⟨a',b,kd,kk,xs,ea,rfl,hi,hz,dd,S⟩:=qU hd I2 m2 {a,rfl,.inr {hd.of _ ho,F}} (r1.ext L) rk rv r2 R c.1 c.2;cases ea;refine tqa (wpAny_standAt (tqo (lJ (hsz:=hz) (kd.room0 hu) hi dd λh' P hs=>?_)));obtain⟨H',I',x',m'⟩:=S h' _ P hs;exact{O,H',I',h O H' u ((B.trans L).trans x').toD (((U.ext B).ext L).ext x') m' {o,rfl,ho,x'.obs _ _ F}}
   ·exact h.elim
def vK {c:Int}{rest:List SG}(hc:c=77\/c=78)(hd:iy fa)
 (S:fQ X own bn scope) (Y:X.calm=true) (hi:DI fa X tg iter gw) (B:Block fa X xb own bn scope tg t W body g) (hT:∀(it a:Addr) (env:RY),compTurn (.DictComp kx vx ({tg,iter,ifs,0}::rest) scope pos) 0 (.ref it) (.ref a) env=(standAt iter.pos >>= λ_=>pyNext (.ref it) >>= λr=>match r with
  |none=>pure (.done .next)
  |some v=>letOwnedTupleGo tg (.ref it) v >>= λ_=>assign tg env v >>= λ_=>body a env >>= λ_=>again (.compLoop (.DictComp kx vx ({tg,iter,ifs,0}::rest) scope pos) 0 (.ref it) (.ref a) env))) (hW:∀i∈W,i∉slots t) (hn:∀i∈slots t++W,i<own.length)
 (hs:∀x,foldedSetIterable iter X.env x=pure x)
 (I:Inv X pins σ H s) (hE:bt fa X.K μ H σ Z) (hM:RelM fa X.K μ H M) (h:ae (kB c own.length t gw g Z M) (bb fa X.K μ H Q))
 (post:∀(a C:Addr) (s':QA) (E:Hp),Inv X pins σ E s'->Q (.ref a) E->(∃m,s'.heap.Ns C m)->(∀σ2 F s2,Inv X pins σ2 F s2->(E C=none->F C=none)->F C=none/\∀U,R9 C s2.heap U->Inv X pins σ2 F {s2 with heap:=U})->E C=none->(C≠X.env.locals/\∀x c,X.env.cells.lookup x=some c->c≠C)->compPost (model X.prog X.w) X.A X.xe use QQ (.ref a) C (.ok .next) s') :
 wpAny (model X.prog X.w) X.A (comprehension (.DictComp kx vx ({tg,iter,ifs,0}::rest) scope pos) scope X.env p0 newDict false (eval iter X.env) use) QQ X.xe s:=by
 obtain⟨w,M1,ew,q⟩:=aJ h;obtain⟨acc,M2,ea,q2⟩:=aJ q;obtain⟨cl,hcl,R,P⟩:=qf λy hy hf=>I.ok.has y.1 (S.free y hy hf);refine wpAny_comprehension_free rfl hs hcl S.kind S.loc ?_;refine aP (hi pins s σ H (λJ H1=>∃L,Ext μ H L H1/\RelM fa X.K L H1 M1/\eK fa X.K L H1 w J) I {μ,Z,M,hE,hM,?_}) λv s1 h1=>aP h1 λitv s2 h2=>?_
 ·rw[ew];exact λJ H1 L x1 m1 wk=>⟨L,x1,m1,wk⟩
 obtain⟨it,fp,tn,J,F,ei,I2,T,st2,f2,μ2,x2,m2,wk⟩:=h2;subst ei;refine tqa (wpAny_alloc (tqb ?_));have j:sysModules<s2.heap.objs.size:=Nat.lt_trans `d (I2.mod.glob.keeps I2.bk).lt
 have ha:=I2.hok.fresh (Qy _);have I3:Inv X pins σ (upd F s2.heap.objs.size (.dn [])) {s2 with heap:=s2.heap.push {cls:=.type "dict",data:=.dict #[]}}:=
  I2.laid (λb o e=>Qu _ e) (Qy _) {RG _,Sd.mpr (RR (Q6 j)),_,QY _ rfl,⟨rfl,rfl,rfl⟩,rfl}
 generalize hs3:({s2 with heap:=s2.heap.push {cls:=.type "dict",data:=.dict #[]}}:QA)=s3 at I3 ⊢
 have k3:∀b o,s2.heap.get? b=some o->s3.heap.get? b=some o:=λb o e=>by rw[<- hs3];exact Qu _ e
 have fo2:=T.obj _ _ st2;have f3:∀b∈fp,fN X pins (upd F s2.heap.objs.size (.dn [])) b:=λb j=>by
  obtain⟨o,e,_⟩:=fo2 b j;exact{by rw[aF (Q6 (QW e))];exact(f2 b j).1,(f2 b j).2}
 have fo3:∀b∈fp,∃o,s3.heap.get? b=some o:=λb j=>let{o,e,_}:=fo2 b j;{o,k3 b o e}
 obtain⟨CL,hce⟩:=EW S R P (s3.heap.push {cls:=.type "dict",data:=.dict #[]}) (Se ..);generalize O:cellsFrom (s3.heap.objs.size+1) scope.names cl=cl' at CL hce;refine rX ?_;rw[O];have u:(pushCells (s3.heap.push {cls:=.type "dict",data:=.dict #[]}) scope.names).Ns s3.heap.objs.size (λ_=>none):=(Heap.Ns.new s3.heap (.type "dict")).keeps (pushCells_keeps _ _);have k4:∀b o,s3.heap.get? b=some o->(pushCells (s3.heap.push {cls:=.type "dict",data:=.dict #[]}) scope.names).get? b=some o:=λb o e=>pushCells_keeps _ _ b o (Qu _ e);generalize pushCells (s3.heap.push {cls:=.type "dict",data:=.dict #[]}) scope.names=h₁ at u k4 hce ⊢;clear hcl O R P cl
 rename List (Str×Addr)=>cl
 have I4:=u3 (t':=s3.toks) I3 S CL f3 fo3 u k4 hce;have ok4:=I4.ok;have f4:∀b∈fp,fN (f5 X own bn scope cl s3.heap.objs.size fp s3 (upd F s2.heap.objs.size (.dn []))) [] (upd F s2.heap.objs.size (.dn [])) b:=λb j=>
  {(f3 b j).1,(ok4.exf b j).1,ok4.exfs b j,.inl j,(ok4.exf b j).2,λp hp=>nomatch hp}
 have st4:=T.keep _ _ _ st2 λb j o e=>k4 b o (k3 b o e);have x3:=Ext.dicNew m2 ha;have m3:=m2.dicNew ha hc;have go:=qY xb.stab (X:=f5 X own bn scope cl s3.heap.objs.size fp s3 (upd F s2.heap.objs.size (.dn []))) (acc:=[.fn (aQ M1.length)]) (Q:=λ_ E=>Q (.ref s2.heap.objs.size) E) (hT it s2.heap.objs.size _) ⟨rfl,rfl⟩ rfl Y T (B.pg _ _ _ _ _) (B.db _ _ _ _ _ _) hW I4 st4 f4
  (t4 own.length ((hE.ext x2).ext x3)) m3 (r9 hn) {_,rfl,Sj _ _,if_pos rfl} (ri wk x3.toExtW) (by
   rw[ea];rintro σ' E μ' z1 z2 z3 ⟨o,rfl,ho,hob⟩;have z:Ext _ _ μ' E:={z1.toExtW,z1.pr,λb j=>z1.pk b j λe=>by
    obtain⟨⟨vs,q⟩,_⟩:=m2.pv b j;rw[e,ha] at q;cases q}
   exact q2 (.ref s2.heap.objs.size) E μ' ((x2.trans x3).trans z) z3 {_,rfl,.inr {hd.of _ ho,hob}})
 have go':codeAny (model X.prog X.w) X.A (.compLoop (.DictComp kx vx ({tg,iter,ifs,0}::rest) scope pos) 0 (.ref it) (.ref s2.heap.objs.size) (compEnvC scope cl s3.heap.objs.size X.env)) (compPost (model X.prog X.w) X.A X.xe use QQ (.ref s2.heap.objs.size) s3.heap.objs.size) {s3 with heap:=h₁}:=
  codeAny_mono go λr s' ⟨er,σ',E,I',z⟩=>by
   subst er;refine post _ _ s' E (comp_back I3 f3 I') z (let{m,hn,_}:=I'.loc;⟨m,hn⟩) (λσ2 F s2' I2' hf=>{hf I'.free,λU hs''=>r6 I3 (hf I'.free) I2' hs''}) I'.free {Ry I3.lt,λx c e z=>by
    obtain⟨v,q⟩:=I3.cell x c e;exact absurd q.lt (by rw[z];exact RO _)}
 exact codeAny_compStart_dict go' (T.self _ 0 _ _ _ st4 go')
def HE {c:Int}{z y E j:Expr}{pos:Pos}(hc:c=77\/c=78)(hd:iy fa)
 (S:fQ X own bn scope) (u:X.calm=true) (hi:DI fa X E j gw) (B:Block fa X xb own bn scope E t [] (λa env=>eval z env >>= λJ=>holding [J] (eval y env) >>= λP=>standAt {z.pos with endLine:=y.pos.endLine,endCol:=y.pos.endCol} >>= λ_=>holding [J,P] (dictSet a J P)) (jN gk gv)) (hn:∀i∈slots t++[],i<own.length)
 (hs:∀x,foldedSetIterable j X.env x=pure x):DE fa X (.DictComp z y [{E,j,[],0}] scope pos) (kB c own.length t gw (jN gk gv)):=by
 rintro O s σ H Q I ⟨μ,Z,M,W,Y,h⟩;refine vK hc hd S u hi B (λit a env=>BG z y E j scope pos (.ref it) a env) (λ_ h=>nomatch h) hn hs I W Y h ?_;rintro a C s' L R q ⟨m,hn⟩ v hf _;exact{m,hn,λU F=>{.ref a,L,(v σ L s' R id).2 U F,rfl,q}}
end
def Dl (hh:A.in1.handled=none)(S:p≠I)(Y:Nat->Bool)(G:Heap->Prop)(J:∀h u,G h->(∀b o,b∉[I]->h.get? b=some o->u.get? b=some o)->G u)
 (U:∀i v (s:QA) (Q:Bool->QA->Prop) (E:Qw->QA->Prop),items[i]?=some v->G s.heap->(∀t,Q (Y i) {s with toks:=t})->wpAny (model prog w) A.in1 (truthy v) Q E s):∀(k i:Nat) (s:QA),items.size-i=k->i<=items.size->(s.heap.IsListIter I p i/\s.heap.IsList p items)->G s.heap->
 (∀u tk,G u->R (.ok (.ret (.bool (((List.range items.size).drop i).any Y)))) {s with heap:=u,toks:=tk})->codeAny (model prog w) A (.builtin "any.loop" {[.ref I],[]}) R s:=by
 have W:=Walks.list (prog:=prog) (w:=w) hh I p S items;intro k;induction k with
 | zero=>
   intro i s hk hi z g L;have P:i=items.size:=`a
   subst P;refine codeAny_builtin F.entry_any_loop ?_;rw[Around.under_plainId F.plain_any_loop _];refine tqa (W.done s _ _ z λu tk j=>?_);refine tqa (wpAny_rule (tqb ?_));have:=L u tk (J _ _ g j);rw[List.drop_of_length_le `s] at this
   exact this
 | succ k ih=>
   intro i s hk hi z g L;have y:i<items.size:=`a
   have hd:(List.range items.size).drop i=i::(List.range items.size).drop (i+1):=by
    rw[List.drop_eq_getElem_cons (by simpa using y)];simp
   refine codeAny_builtin F.entry_any_loop ?_;rw[Around.under_plainId F.plain_any_loop _];refine tqa (W.item i s _ _ y z λv u tk hP B j=>?_);refine tqa (tqo (U i v _ _ _ hP (J _ _ g j) λt=>?_));refine tqa (wpAny_letGo ?_);cases hb:Y i with
   | false=>
     refine tqb {plainId_quiet F.plain_any_loop _,ih (i+1) _ `a y B (J _ _ g j) λO H M=>?_}
     have:=L O H M;rw[hd,List.any_cons,hb,Bool.false_or] at this;exact this
   | true=>
     refine tqa (wpAny_rule (tqb ?_));have:=L u t (J _ _ g j);rw[hd,List.any_cons,hb,Bool.true_or] at this;exact this
def range_any (bs:List Bool):((List.range bs.length).any λi=>(bs[i]?).getD false)=bs.any id:=by
 rw[RX,List.any_eq_true,List.any_eq_true];constructor
 ·rintro⟨i,_,e⟩;cases z:bs[i]? with
  |none=>rw[z] at e;cases e
  |some b=>rw[z] at e;exact{b,QT z,e}
 ·rintro⟨b,j,e⟩;obtain⟨i,h⟩:=List.getElem?_of_mem j;exact{i,R0.mpr (Qr.mp h).1,by rw[h];exact e}
def oC (M:Mem):D->Option Bool
 |.bl b=>some b
 |d=>(cv M d).map λxs=>!xs.isEmpty
def BH (h:oC M d=some b):d=.bl b\/∃xs,cv M d=some xs/\b=!xs.isEmpty:=by
 cases d with
 |bl c=>cases h;exact .inl rfl
 | _=>
   simp only[oC] at h;obtain⟨xs,e1,e2⟩:=QP.mp h;exact .inr ⟨xs,e1,e2.symm⟩
noncomputable def jD (M:Mem):List D->Option (List Bool)
 |[]=>some []
 |d::r=>(oC M d).bind λb=>(jD M r).map (b::·)
theorem tm:∀{ds:List D}{bs:List Bool},jD M ds=some bs->bs.length=ds.length/\∀(i:Nat) d,ds[i]?=some d->∃b,bs[i]?=some b/\oC M d=some b
 |[],_,h=>by cases h;exact{rfl,λ_ _ e=>by simp at e}
 | d::ds,_,h=>by
   obtain⟨b,e,h⟩:=Ru.mp h;obtain⟨bs,e2,rfl⟩:=QP.mp h;obtain⟨h1,h2⟩:=tm e2;refine{by simp[h1],λi j z=>?_}
   cases i with
   |zero=>cases z;exact⟨b,rfl,e⟩
   |succ i=>exact h2 i j z
def qP (a:GE):GE:=λj M=>(a j M).bind λx M=>match cv M x with
 | some h=>(match jD M h with
   |some bs=>.ok (.bl (bs.any id)) M
   |none=>.bad)
 |none=>.bad
section
variable{fa:Fa}{X:Cx}{a:Expr}{ga:GE}{p pos:Pos}
def MZ:cf X (.builtin "any") (λxs H Q=>∃μ M ds bs p vs,xs=[.ref p]/\X.calm=true/\RelM fa X.K μ H M/\cQ X.K H p vs/\aG fa X.K μ H ds vs/\jD M ds=some bs/\Q (.bl (bs.any id)) H):=by
 intro y s σ H xs us Q I r h;obtain⟨μ,M,ds,bs,p,vs,rfl,hc,hM,hq,rl,eb,q⟩:=h;obtain⟨u,rfl,rx⟩:=vals1 r;cases rx;obtain⟨j,S,pl,hz⟩:=I.list hq;obtain⟨hl,hb⟩:=tm eb;have P:=pl.lt;refine call_function_tree F.kind_any F.plain_any F.entry_any (F.args_any1 _) ?_;refine tqa (tqb ?_);refine tqa (wpAny_pyIter_list pl.isList ?_);refine tqb {plainId_quiet F.plain_any_loop _,Dl (I.ok.hd hc) (Q6 P) (λi=>(bs[i]?).getD false) (λh=>∀b o,s.heap.get? b=some o->h.get? b=some o) (λh h' g k b o e=>k b o (λz=>by rw[QN.mp z] at e;exact absurd (QW e) (RO _)) (g b o e)) ?_ j.toArray.size 0 _ rfl (RG _) {{_,QY _ rfl,rfl,rfl},pl.isList.push _} (λb o e=>Qu _ e) λh' tk g=>?_}
 ·intro i v s' Q' E' e g O;have e:j[i]?=some v:=by simpa using e
  have Y:i<vs.length:=by rw[S.length];exact(Qr.mp e).1
  obtain⟨d,ed,rd⟩:=rl.getV (QL Y);obtain⟨u,W,E⟩:=S.get (QL Y);rw[e] at W;cases W;obtain⟨b,e1,e2⟩:=hb i d ed;rw[e1] at O;have list:∀xs,cv M d=some xs->b=!xs.isEmpty->wpAny (model X.prog X.w) X.A.in1 (truthy v) Q' E' s':=λxs J L=>by
   obtain⟨a,ws,ev,hw,U⟩:=bN hM rd J;rw[ev] at E;obtain rfl:=(E);have I':Inv X y σ H {s with heap:=s'.heap,toks:=s.toks}:=I.kept g
   obtain⟨its',B,R,hz'⟩:=I'.list hw;have hlen:=B.length;have hs:=sizeLine_eq;refine wpAny_truthy_list R.isList (by simp only[QB];omega) ?_
   rw[lG B,show ws.isEmpty=xs.isEmpty by rw[RX,List.isEmpty_iff_length_eq_zero,List.isEmpty_iff_length_eq_zero,U.length],<- L]
   exact O _
  rcases BH e2 with rfl|⟨xs,J,L⟩
  ·rw[show vs[i]=V.bl b from rd] at E;obtain rfl:=(E);exact tqp (O _)
  ·exact list xs J L
 ·rw[List.drop_zero,QB,<- S.length,rl.length,<- hl,range_any];exact{.bl _,H,I.kept g,rfl,q}
def NB (J:X.calm=true)(L:Gl X "any")(hm:X.mg "any"=none)(I:DE fa X a ga)(he:notStar a=true):DE fa X (.Call (.Name "any" p) [a] [] pos) (qP ga):=
 bC (hV (MZ) L hm `k (cS I eD (by rw[bo he])) `d `d (by rw[bo he]) `r) λY H Q ⟨U,W,M,B,F,h⟩=>t1 B F h λx u v S y R E j r1 h1=>by
  cases e:cv u x with
  |none=>rw[e] at h1;exact h1.elim
  | some z=>
    rw[e] at h1;dsimp only at h1;cases e2:jD u z with
    |none=>rw[e2] at h1;exact h1.elim
    | some bs=>
      rw[e2] at h1;obtain⟨a,P,rfl,O,r⟩:=bN j r1 e;exact{y,u,z,bs,a,P,rfl,J,j,O,r,e2,aR j (bb.ext h1 R) rfl}
end
def wI (c:Int)(gk gv:GE):GE:=λj M=>(gk j (M++[[.int c]])).bind λk u=>(gv j u).bind λv h=>match dh h (aQ M.length) with
 |some q=>if isKey q.1 k=true/\q.2.length<1000000 then .ok (.fn (aQ M.length)) (h.set (aQ M.length-5000) (.int q.1::putD q.2 k v)) else .bad
 |none=>.bad
section
variable{fa:Fa}{X:Cx}{kx vx:Expr}{gk gv:GE}{pos:Pos}
set_option tactic.hygienic true in
def HC (c:Int)(hc:c=77\/c=78)(hu:Rm X)(hd:iy fa)(hk:DE fa X kx gk)(hv:DE fa X vx gv):DE fa X (.Dict [some kx] [vx] pos) (wI c gk gv):=by
 rintro u s W H Q I ⟨μ,Z,M,hE,hM,h⟩;obtain⟨k,M1,e1,h⟩:=aJ h;obtain⟨v,M2,e2,h⟩:=aJ h;cases L:dh M2 (aQ M.length) with
 |none=>rw[L] at h;exact h.elim
 | some q=>
   rw[L] at h;dsimp only at h;split at h
   ·next cc=>
    have hb:sysModules<s.heap.objs.size:=Nat.lt_trans `d (I.mod.glob.keeps I.bk).lt
    have ha:=I.hok.fresh (Qy _);have I0:Inv X u W (upd H s.heap.objs.size (.dn [])) {s with heap:=s.heap.push {cls:=.type "dict",data:=.dict #[]}}:=
     I.laid (λb o e=>Qu _ e) (Qy _) {RG _,Sd.mpr (RR (Q6 hb)),_,QY _ rfl,⟨rfl,rfl,rfl⟩,rfl}
    have S:=Ext.dicNew hM ha;have m0:=hM.dicNew ha hc;have P:(pN μ M.length s.heap.objs.size).ob (aQ M.length)=some s.heap.objs.size:=if_pos rfl;refine wpAny_Dict_any rfl rfl `s (Qv rfl) ?_
    refine tqa (aP (hk u _ W _ (λv z=>∃j,Ext (pN μ M.length s.heap.objs.size) (upd H s.heap.objs.size (.dn [])) j z/\RelM fa X.K j z M1/\Rep fa X.K j z k v) I0 {_,Z,_,hE.ext S,m0,?_}) λuk s1 ⟨wk,z,I1,rk,j,B,n1,r1⟩=>?_)
    ·rw[e1];exact λv z j B R r1=>⟨j,B,R,r1⟩
    refine tqa (tqo (tqa (aP (hv u s1 W z (λw F=>∃y,Ext j z y F/\RelM fa X.K y F M2/\Rep fa X.K y F v w) I1 {j,Z,M1,(hE.ext S).ext B,n1,?_}) λuv s2 ⟨wv,F,I2,rv,y,U,m2,r2⟩=>?_)))
    ·rw[e2];exact λv z j B R r1=>⟨j,B,R,r1⟩
    refine tqa (wpAny_standAt (tqb ?_));refine tqa (tqo (tqb (tqb ?_)));have E:=U.obs _ _ (B.obs _ _ P);obtain⟨a',b,kd,kk,xs,ea,rfl,hi,hz,dd,O⟩:=qU hd I2 m2 {_,rfl,.inr {hd.of _ (Sj _ _),E}} (r1.ext U) rk rv r2 L cc.1 cc.2;cases ea;unfold storeAll;rw[List.forIn_cons];refine tqa (tqa (lJ (hsz:=hz) (kd.room0 hu) hi dd λh' J hs=>tqb ?_));obtain⟨Y,I',x',m'⟩:=O h' _ J hs;refine tqb {.ref s.heap.objs.size,Y,I',rfl,h _ Y y (((S.trans B).trans U).trans x') m' {_,rfl,.inr {hd.of _ (Sj _ _),x'.obs _ _ E}}}
   ·exact h.elim
end
section
variable{fa:Fa}{X:Cx}{a tg iter:Expr}{ga:GE}{gw:GW}{apos cpos:Pos}
def kZ (a d:GE):GS:=λh M=>(a h M).bind λx M=>match x with
 | .cell k=>td (λz M=>match M[k]? with
   |some j=>if j.length<sz then .ok (.next h) (M.set k (j++[z])) else .bad
   |none=>.bad) h (d h M)
 |_=>.bad
set_option tactic.hygienic true in
def Hr (ha:DE fa X a ga)(hd:DX fa X d gd)(j:attributeBase a "append" X.env (eval a X.env)=eval a X.env)(u:(apos.endLine==cpos.line)=true)(hs:starEach [d] X.env=[(false,eval d X.env)])
 (R:swapsWith (.Call (.Attribute a "append" apos) [d] [] cpos) none pos.line X.env=pure false) :
 DS fa X (.Expr (.Call (.Attribute a "append" apos) [d] [] cpos) pos) (kZ ga gd):=
 cX (ki (xD PySem.F.plainAttrs_list PySem.F.slot_list_append PySem.F.type_list_append my ha (cS hd eD hs) j (by rw[hs];rfl) u hs `r) R) λD' σ H ⟨μ,L,M,P,hM,h⟩=>by
  obtain⟨x,M1,e1,h1⟩:=aJ h;cases x with
  | cell k=>
    refine{μ,L,M,P,hM,?_};rw[e1];intro vx H1 W I v rx;obtain⟨ad,rfl,hk⟩:=rx;obtain⟨ds1,S,_,Q,_⟩:=v.mu_lt hk;refine{.inl {rfl,S,cQ.of Q},W,L,M1,P.ext I,v,?_};cases e2:gd L M1 with
    |bad=>rw[e2] at h1;exact h1.elim
    | err y E=>
      rw[e2] at h1;exact XW.ext h1 I
    | ok z E=>
      rw[e2] at h1;have h2:ae (match E[k]? with|some O=>if O.length<sz then Res.ok (Fl.next L) (E.set k (O++[z])) else .bad|none=>.bad) (jV fa X μ H D'):=h1
      cases e:E[k]? with
      |none=>rw[e] at h2;exact h2.elim
      | some O=>
        rw[e] at h2;dsimp only at h2;split at h2
        ·next hz=>
         have q:=h2;intro vz H2 μ2 J B rz;obtain⟨ws,h4,h5⟩:=B.at_ e (J.mu k ad hk);refine{ad,ws,vz,rfl,rfl,h4,by rw[h5.length,<- dz];exact hz,?_}
         exact ig ((P.ext I).ext J) B (J.mu k ad hk) (h5.append (.one rz)) λY H' U x' e' m'=>q Y H' U ((I.trans J).trans x') e' m'
        ·exact h2.elim
  |_=>exact h1.elim
end
end LD
namespace LD
open PySem
def ob {α β:Type}{a:Option α}{f:α->Option β}{r:β}(h:a.bind f=some r):∃x,a=some x/\f x=some r:=Ru.mp h
def oi {α:Type}{c:Prop}[Decidable c]{a:Option α}{r:α}(h:(if c then a else none)=some r):c/\a=some r:=by
 split at h
 ·exact{by assumption,h}
 ·cases h
section
variable{β:Type}{r:β}{e:Expr}{st:Stmt}
def od {c:Prop}[Decidable c]{f:c->Option β}(h:(if x:c then f x else none)=some r):∃x,f x=some r:=by
 by_cases z:c
 ·rw[dif_pos z] at h;exact⟨z,h⟩
 ·rw[dif_neg z] at h;cases h
local macro_rules|`(command|#check $n:ident $a*)=>do
 let m:=a[0]!.raw;let c:Lean.TSyntax `ident:=⟨a[1]!.raw⟩;let v:Array (Lean.TSyntax `ident):=(a.extract 3 a.size).map λx=>⟨x.raw⟩;let f:=Lean.mkIdentFrom c (c.getId++`elim)
 `(noncomputable def $n {β:Type} e:=λg=>if h:e.ctorIdx=$(⟨a[2]!.raw⟩) then @$f (λ_=>Option β) e h g else none
 theorem $(⟨m⟩) {β:Type}{e}{g}{y:β}(h:$n e g=some y):∃$[$v:ident]*,e=$c $v*∧g $v*=some y:=(od h).elim λz h=>@$f (λe=>∀z,@$f (λ_=>Option β) e z g=some y→∃$[$v:ident]*,e=$c $v*∧g $v*=some y) e z (λ$v* _ h=>by exact⟨$v,*,rfl,h⟩) z h)
#check JZ uu Expr.UnaryOp 3 a b c
#check Eh ux Expr.BoolOp 0 a b c
#check Oa Ah Expr.ListComp 8 a b c d
#check J1 wx Expr.IfExp 5 a b c d
#check J5 qH Expr.Compare 15 a b c d
#check xN oO Expr.Call 16 a b c d
#check OZ G1 Expr.FormattedValue 17 a b c d
#check OY GZ Expr.JoinedStr 18 a b
#check xM nM Expr.Constant 19 a b c
#check MJ Cu Expr.Attribute 20 a b c
#check mx gz Expr.Subscript 21 a b c
#check nName cF Expr.Name 23 a b
#check qF gy Expr.Tuple 25 a b c
#check Ct qG Expr.Slice 26 a b c d
#check tY kc Stmt.Assign 5 a b c
#check OQ Gn Stmt.Raise 16 a b c
#check xx nF Stmt.Expr 24 a b
#check O0 G3 Expr.BinOp 2 a b c d
#check OX GY Expr.List 24 a b
#check sRt Jb Stmt.Return 3 a b
#check sFr Je Stmt.For 9 a b c d f
#check sIf Jd Stmt.If 12 a b c d
#check sPs Jc Stmt.Pass 25 a
variable{α:Type}{l:List α}
noncomputable def n0 (l:List α)(v:Option β):Option β:=if l.isEmpty=true then v else none
def iJ {v:Option β}(h:n0 l v=some r):l=[]/\v=some r:=(oi h).elim λc h=>{List.isEmpty_iff.mp c,h}
noncomputable def nC (l:List α)(k:α->List α->Option β):Option β:=match l with
 |[]=>none
 |a::s=>k a s
def lj {k:α->List α->Option β}(h:nC l k=some r):∃a s,l=a::s/\k a s=some r:=by
 cases l with
 |nil=>cases h
 |cons a s=>exact⟨a,s,rfl,h⟩
def n1 (l:List α)(k:α->Option β):Option β:=nC l λa s=>n0 s (k a)
def cH {k:α->Option β}(h:n1 l k=some r):∃a,l=[a]/\k a=some r:=by
 obtain⟨a,s,rfl,h⟩:=lj h;obtain⟨rfl,h⟩:=iJ h;exact⟨a,rfl,h⟩
def n2 (l:List α)(k:α->α->Option β):Option β:=nC l λa s=>n1 s (k a)
def iI {k:α->α->Option β}(h:n2 l k=some r):∃a b,l=[a,b]/\k a b=some r:=by
 obtain⟨a,s,rfl,h⟩:=lj h;obtain⟨b,rfl,h⟩:=cH h;exact⟨a,b,rfl,h⟩
def Cs (e:Expr)(k:Str->Option β):Option β:=xM e λc _ _=>match c with
 |.str z=>k z
 |_=>none
def wu {k:Str->Option β}(h:Cs e k=some r):∃z i p,e=.Constant (.str z) i p/\k z=some r:=by
 obtain⟨c,i,p,rfl,h⟩:=nM h;cases c with
 |str z=>exact⟨z,i,p,rfl,h⟩
 |_=>cases h
def J0 (e:Expr)(k:Int->Option β):Option β:=xM e λc _ _=>match c with
 |.int z=>k z
 |_=>none
def G0 {k:Int->Option β}(h:J0 e k=some r):∃z i p,e=.Constant (.int z) i p/\k z=some r:=by
 obtain⟨c,i,p,rfl,h⟩:=nM h;cases c with
 |int z=>exact⟨z,i,p,rfl,h⟩
 |_=>cases h
def Ob (e:Expr)(k:Expr->Option β):Option β:=OZ e λa i s _=>if i=-1/\s.isNone=true then k a else none
def J2 {k:Expr->Option β}(h:Ob e k=some r):∃a p,e=.FormattedValue a (-1) none p/\k a=some r:=by
 obtain⟨a,i,s,p,rfl,h⟩:=G1 h;obtain⟨⟨rfl,c⟩,k⟩:=oi h;rw[Sn.mp c];exact⟨a,p,rfl,k⟩
noncomputable def nG (c:SG)(k:Expr->Expr->List Expr->Option β):Option β:=if c.is_async=0 then k c.target c.iter c.ifs else none
def sP {c:SG}{k:Expr->Expr->List Expr->Option β}(h:nG c k=some r):∃t i f,c={t,i,f,0}/\k t i f=some r:=by
 obtain⟨z,h⟩:=oi h;cases c;cases z;exact{_,_,_,rfl,h}
def oo (e:Expr)(k:Str->List Expr->Pos->Option β):Option β:=xN e λf es ks p=>nName f λx _=>n0 ks (k x es p)
def gM {k:Str->List Expr->Pos->Option β}(h:oo e k=some r):∃x q es p,e=.Call (.Name x q) es [] p/\k x es p=some r:=by
 obtain⟨f,es,ks,p,rfl,h⟩:=oO h;obtain⟨x,q,rfl,h⟩:=cF h;obtain⟨rfl,h⟩:=iJ h;exact⟨x,q,es,p,rfl,h⟩
def Eg (e:Expr)(k:Expr->Str->Expr->Bool->Option β):Option β:=xN e λf es ks p=>MJ f λa m q=>n0 ks (n1 es λd=>k a m d (q.endLine==p.line))
def uw {k:Expr->Str->Expr->Bool->Option β}(h:Eg e k=some r):∃a m q d p,e=.Call (.Attribute a m q) [d] [] p/\k a m d (q.endLine==p.line)=some r:=by
 obtain⟨f,es,ks,p,rfl,h⟩:=oO h;obtain⟨a,m,q,rfl,h⟩:=Cu h;obtain⟨rfl,h⟩:=iJ h;obtain⟨d,rfl,h⟩:=cH h;exact⟨a,m,q,d,p,rfl,h⟩
def bZ {a b:Option β}(h:a.or b=some r):a=some r\/b=some r:=by
 cases a with
 |none=>exact .inr h
 |some x=>exact .inl h
end
end LD
namespace LD
open PySem PySem.Spec PyProof.Rows L2
noncomputable def maxD:List D->Mem->Res D
 |[.int a,.int b],M=>.ok (.int (if b > a then b else a)) M
 |_,_=>.bad
def qO (s:GA):GE:=λj M=>(s j M).bind λh M=>maxD h M
def OU (fa:Fa)(K:Qs):List V->Hp->VK->Prop:=λu H Q=>∃h M j,RelM fa K h H M/\aG fa K h H j u/\ae (maxD j M) (bb fa K h H Q)
section
variable{fa:Fa}{X:Cx}{a:Expr}{es:List Expr}{gs:GA}{p pos:Pos}
set_option tactic.hygienic true in
def MX (B:X.calm=true):cf X (.builtin "max") (OU fa X.K):=by
 intro y s W H xs S Q I r h;obtain⟨U,M,P,z,J,h⟩:=h;unfold maxD at h;split at h
 ·next i j=>
  obtain⟨L,r1,rfl,h1,h2⟩:=J;obtain⟨O,r2,rfl,h3,h4⟩:=h2;obtain rfl:r2=[]:=h4;obtain rfl:L=.int i:=h1;obtain rfl:O=.int j:=h3;cases r with
  | cons E v=>
    cases v with
    | cons v F=>
      cases F;obtain⟨t,rfl⟩:=E;obtain⟨u,rfl⟩:=v;refine max_two_ints (I.ok.hd B) λR tk hk=>?_;refine{.int (if j > i then j else i),H,I.kept hk,?_,aR z h rfl};split
      ·exact⟨u,rfl⟩
      ·exact⟨t,rfl⟩
 ·exact h.elim
def Mn (I:X.calm=true)(J:Gl X "max")(hm:X.mg "max"=none)(hs:DA fa X (a::es) gs)(he:notStar a=true)(u:es.all notStar=true) :
 DE fa X (.Call (.Name "max" p) (a::es) [] pos) (qO gs):=
 bC (hV (MX I) J hm `k hs `d `d (bo he) (cZ u)) (by rintro U H Q ⟨R,S,M,B,F,h⟩;exact rD B F h λz y P O v L E j r1 h1=>{v,y,z,j,r1,jb h1 L})
end
inductive En where
 |fn (i:Nat) (r:Bool)|fnD (i:Nat)|int (i:Int)|str (z:Str)|dct (fs:List (Str×Nat))|xc (k:Nat)|xi (k:Nat)|xk (k:Nat)|de|bl|cls (c f:Nat)
structure E6 (fa:Fa) (P:Rj) (w:Q8) (K:Qs) (mg:Str->Option Qw) (base:Heap) (T:List (Str×En)):Prop where
 fn:∀{x:Str}{i:Nat}{r:Bool},T.lookup x=some (.fn i r)->∀ad,fa i=some ad->mg x=some (.ref ad)
 fnD:∀{x:Str}{i:Nat},T.lookup x=some (.fnD i)->(∀ad,fa i=some ad->mg x=some (.ref ad))/\(fa (500+i)).isSome=true
 int:∀{x:Str}{i:Int},T.lookup x=some (.int i)->∃t,mg x=some (.int i t)
 str:∀{x:Str}{z:Str},T.lookup x=some (.str z)->∃t,mg x=some (.str z t)
 dct:∀{x:Str}{fs:List (Str×Nat)},T.lookup x=some (.dct fs)->∃ad kvs,mg x=some (.ref ad)/\fU K w.params ad kvs/\eU fa kvs fs
 xc:∀{x:Str}{k:Nat},T.lookup x=some (.xc k)->∃C,mg x=some (.ref C)/\fa (f7 k)=some C/\PySem.W.excIn K C A3 "ValueError.__new__"=true/\PySem.W.keepIn K (.ref C)=true
 xi:∀{x:Str}{k:Nat},T.lookup x=some (.xi k)->Be fa P w K mg base k x/\∃D,mg x=some (.ref D)/\fa (f7 k)=some D
 xk:∀{x:Str}{k:Nat},T.lookup x=some (.xk k)->∃D,mg x=some (.ref D)/\fa (f7 k)=some D
 de:∀{x:Str},T.lookup x=some .de->∃D,mg x=some (.ref D)/\fa 999=some D
 bl:∀{x:Str},T.lookup x=some .bl->mg x=none
 xcs:LO fa K
 ob:LV fa K
 of:∀o,5000<=o->fa o=none
 od:fa (jG 77)=none/\fa (jG 78)=none
 cls:∀{x:Str}{c f:Nat},T.lookup x=some (.cls c f)->∃C,mg x=some (.ref C)/\fa (jG c)=some C/\∀ad,fa f=some ad->Mk K C ad
structure G where
 T:List (Str×En)
 tw:List (Str×Str×Nat×Nat)
 xf:List Str
 cel:List (Nat×Nat×Nat)
 txt:List (Nat×Nat×Nat)
 ms:List (Str×Nat×Nat)
 c:Call
 N:List Str
 sc:Scope
 lv:Nat
 oc:List Str:=[]
structure fe (fa:Fa) (n:Nat) (g:G) (X:Cx):Prop where
 N:X.N=g.N
 nd:g.N.Nodup
 sc:X.env.scope=g.sc
 T:E6 fa X.prog X.w X.K X.mg X.base g.T
 tw:∀q∈g.tw,E5 fa X.K X.mg q.1 q.2.1 q.2.2.1 q.2.2.2
 xf:∀f∈g.xf,E3 fa X.K f
 ms:∀q∈g.ms,qo fa X.K q.1 q.2.1 q.2.2
 fn:g.lv≠1->∀x,X.fn x=true
 oc:∀x∈g.oc,X.fn x=true
 calm:0<g.lv->X.calm=true
 C:0<g.lv->∀f,g6 fa X.prog X.w X.K X.mg X.base n f (g.c f)
 hr:0<g.lv->du (2*n+4+1) X.A
 top:2<=g.lv->X.ex=[]/\X.stack=X.env::X.outer/\X.env.frame=some X.env.locals/\X.env.scope.kind=.function
 po:g.lv=2->PassesOwn (model X.prog X.w) X.A X.env X.xe
structure Rc where
 e:G->Expr->Option GE
 t:G->Expr->Option GT
 x:G->Expr->Option GE
 w:G->Expr->Expr->Option GW
 s:G->Stmt->Option GS
abbrev dP:=Rc->G->Expr->Option GE
abbrev E7:=Rc->G->Expr->Option GT
abbrev vD:=Rc->G->Expr->Expr->Option GW
abbrev jx:=Rc->G->Stmt->Option GS
structure iF (fa:Fa) (n:Nat) (R:Rc):Prop where
 e:∀{g:G}{X:Cx}{a:Expr}{ga:GE},fe fa n g X->R.e g a=some ga->DE fa X a ga
 t:∀{g:G}{X:Cx}{a:Expr}{ga:GT},fe fa n g X->R.t g a=some ga->DT fa X a ga
 x:∀{g:G}{X:Cx}{a:Expr}{ga:GE},fe fa n g X->R.x g a=some ga->DX fa X a ga
 w:∀{g:G}{X:Cx}{t a:Expr}{ga:GW},fe fa n g X->R.w g t a=some ga->DI fa X t a ga
 s:∀{g:G}{X:Cx}{a:Stmt}{ga:GS},fe fa n g X->R.s g a=some ga->DS fa X a ga
def SE (r:dP):Prop:=∀{fa:Fa}{n:Nat}{R:Rc},iF fa n R->∀{g:G}{X:Cx},fe fa n g X->∀{a:Expr}{h:GE},r R g a=some h->DE fa X a h
def ST (r:E7):Prop:=∀{fa:Fa}{n:Nat}{R:Rc},iF fa n R->∀{g:G}{X:Cx},fe fa n g X->∀{a:Expr}{h:GT},r R g a=some h->DT fa X a h
def SX (r:dP):Prop:=∀{fa:Fa}{n:Nat}{R:Rc},iF fa n R->∀{g:G}{X:Cx},fe fa n g X->∀{a:Expr}{h:GE},r R g a=some h->DX fa X a h
def SW (r:vD):Prop:=∀{fa:Fa}{n:Nat}{R:Rc},iF fa n R->∀{g:G}{X:Cx},fe fa n g X->∀{t a:Expr}{h:GW},r R g t a=some h->DI fa X t a h
def SS (r:jx):Prop:=∀{fa:Fa}{n:Nat}{R:Rc},iF fa n R->∀{g:G}{X:Cx},fe fa n g X->∀{a:Stmt}{h:GS},r R g a=some h->DS fa X a h
structure Rs where
 e:List dP
 t:List E7
 x:List dP
 w:List vD
 s:List jx
noncomputable def It (rs:Rs):Nat->Rc
 |0=>{λ_ _=>none,λ_ _=>none,λ_ _=>none,λ_ _ _=>none,λ_ _=>none}
 |n+1=>{λg a=>rs.e.findSome? λr=>r (It rs n) g a,λg a=>rs.t.findSome? λr=>r (It rs n) g a,λg a=>rs.x.findSome? λr=>r (It rs n) g a,λg t a=>rs.w.findSome? λr=>r (It rs n) g t a,λg a=>rs.s.findSome? λr=>r (It rs n) g a}
noncomputable def AllP {h:Type}(p:h->Prop):List h->Prop
 |[]=>True
 |a::l=>p a/\AllP p l
noncomputable def AllP.mem {j:Type}{p:j->Prop}:∀{l:List j},AllP p l->∀a∈l,p a
 |_::_,h,a,m=>(Q9.mp m).elim (λe=>e ▸ h.1) (AllP.mem h.2 a)
structure Dp (rs:Rs):Prop where
 e:AllP SE rs.e
 t:AllP ST rs.t
 x:AllP SX rs.x
 w:AllP SW rs.w
 s:AllP SS rs.s
theorem Fb (h:Dp rs):∀k,iF fa n (It rs k)
 |0=>{(λ_ z=>nomatch z),(λ_ z=>nomatch z),(λ_ z=>nomatch z),(λ_ z=>nomatch z),(λ_ z=>nomatch z)}
 | k+1=>by
   have j:=Fb (n:=n) (fa:=fa) h k;refine{λo z=>?_,λo z=>?_,λo z=>?_,λo z=>?_,λo z=>?_}
   ·obtain⟨r,m,e⟩:=R1 z;exact h.e.mem r m j o e
   ·obtain⟨r,m,e⟩:=R1 z;exact h.t.mem r m j o e
   ·obtain⟨r,m,e⟩:=R1 z;exact h.x.mem r m j o e
   ·obtain⟨r,m,e⟩:=R1 z;exact h.w.mem r m j o e
   ·obtain⟨r,m,e⟩:=R1 z;exact h.s.mem r m j o e
noncomputable def Ou:Str:="__debug__"
def jh (g:G)(x:Str):Bool:=g.sc.names.lookup x==some .globalImplicit&&!(x==Ou)
def vr (g:G)(x:Str):Option Nat:=if (g.sc.names.lookup x==some .local||g.sc.names.lookup x==some .cell||g.sc.names.lookup x==some .free)&&!(x==Ou)&&!(x==("__classdict__":Str)) then g.N.findIdx? (·==x) else none
section
variable{fa:Fa}{n:Nat}{g:G}{X:Cx}{R:Rc}(o:fe fa n g X)
include o
theorem d4 (h:jh g x=true):Gl X x/\(x==("__debug__":Str))=false:=by
 unfold jh at h;rw[QD,Bool.not_eq_true'] at h;exact{by show X.env.scope.names.lookup x=_;rw[o.sc];exact eq_of_beq h.1,h.2}
theorem xW (h:g.N.findIdx? (·==x)=some i):X.N[i]?=some x:=by
 obtain⟨j,h1,_⟩:=List.findIdx?_eq_some_iff_getElem.mp h;rw[o.N,QL j,eq_of_beq h1]
theorem DH (h:vr g x=some i):X.N[i]?=some x/\w8 X.env.scope x/\(x==("__debug__":Str))=false/\(x==("__classdict__":Str))=false:=by
 obtain⟨c,h⟩:=oi h;simp only[QD,Sr,Bool.not_eq_true'] at c;refine{xW o h,?_,c.1.2,c.2};rw[o.sc];rcases c.1.1 with(z|z)|z
 ·exact .inl (eq_of_beq z)
 ·exact .inr (.inl (eq_of_beq z))
 ·exact .inr (.inr (eq_of_beq z))
omit o
theorem fe.rm (o:fe fa n g X)(h:0<g.lv):Rm X:=Gp (o.hr h)
end
noncomputable def cA (f:Expr->Option GE):List Expr->Option GA
 |[]=>some bj
 |a::r=>if notStar a=true then(f a).bind λx=>(cA f r).bind λy=>some (bz x y) else none
theorem jR (hf:∀{a:Expr}{j:GE},f a=some j->DE fa X a j):∀{es:List Expr}{u:GA},cA f es=some u->DA fa X es u/\es.all notStar=true
 |[],_,h=>by cases h;exact⟨Lr,rfl⟩
 | a::r,_,h=>by
   obtain⟨c,h⟩:=oi h;obtain⟨x,v,h⟩:=ob h;obtain⟨y,z,h⟩:=ob h;cases h;obtain⟨h1,h2⟩:=jR hf z;exact{HB (hf v) h1 (bo c),by rw[RK,c,h2];rfl}
noncomputable def vo (f:Expr->Option GE)(k:GE->GE->GE):List Expr->Option GE
 |[]=>none
 |[a]=>f a
 |a::b::r=>(f a).bind λx=>(vo f k (b::r)).bind λy=>some (k x y)
noncomputable def wZ (hf:∀{a:Expr}{j:GE},f a=some j->DE fa X a j):∀{es:List Expr}{ge:GE},vo f dS es=some ge->DE fa X (.BoolOp .And es pos) ge
 |[a],_,h=>EV (hf h)
 | a::b::r,_,h=>by
   obtain⟨x,u,h⟩:=ob h;obtain⟨y,v,h⟩:=ob h;cases h;exact NC (hf u) (wZ hf v)
noncomputable def A8 (hf:∀{a:Expr}{j:GE},f a=some j->DE fa X a j):∀{es:List Expr}{ge:GE},vo f Ot es=some ge->DE fa X (.BoolOp .Or es pos) ge
 |[a],_,h=>EV (hf h)
 | a::b::r,_,h=>by
   obtain⟨x,u,h⟩:=ob h;obtain⟨y,v,h⟩:=ob h;cases h;exact PH (hf u) (A8 hf v)
noncomputable def tD (f:Expr->Option GT)(k:GT->GT->GT):List Expr->Option GT
 |[]=>none
 |[a]=>f a
 |a::b::r=>(f a).bind λx=>(tD f k (b::r)).bind λy=>some (k x y)
noncomputable def vU (hf:∀{a:Expr}{j:GT},f a=some j->DT fa X a j):∀{es:List Expr}{ge:GT},tD f eW es=some ge->DW fa X (.BoolOp .And es pos) ge
 |[a],_,h=>Hm (hf h)
 | a::b::r,_,h=>by
   obtain⟨x,u,h⟩:=ob h;obtain⟨y,v,h⟩:=ob h;cases h;exact KY (hf u) (vU hf v)
noncomputable def zl (hf:∀{a:Expr}{j:GT},f a=some j->DT fa X a j):∀{es:List Expr}{ge:GT},tD f eQ es=some ge->DW fa X (.BoolOp .Or es pos) ge
 |[a],_,h=>KW (hf h)
 | a::b::r,_,h=>by
   obtain⟨x,u,h⟩:=ob h;obtain⟨y,v,h⟩:=ob h;cases h;exact Nd (hf u) (zl hf v)
def DK:dP:=λ_ g e=>nName e λx _=>((vr g x).bind λi=>some (aa i)).or (if jh g x=true then(g.T.lookup x).bind fun
 |.int i=>some (gC (.int i))
 |.str i=>some (gC (.str i))
 |_=>none else none)
def Bs:SE DK:=by
 intro fa n R y g X o a u h;replace h:=cF h;obtain⟨x,p,rfl,h⟩:=h;rcases bZ h with h|h
 ·obtain⟨i,e,h⟩:=ob h;cases h;obtain⟨a,b,c,d⟩:=DH o e;exact Nk a b c d
 ·obtain⟨c,h⟩:=oi h;obtain⟨j,hd⟩:=d4 o c;obtain⟨t,e,h⟩:=ob h;cases t with
  |int i=>cases h;exact Gr j (o.T.int e) hd
  |str i=>cases h;obtain⟨t,e⟩:=o.T.str e;exact iX (v:=.str _) (kj j e ⟨t,rfl⟩ hd) λ_ _=>rfl
  |_=>cases h
def zf:dP:=λ_ _ e=>xM e fun
 |.int i,_,_=>some (gC (.int i))
 |.bool i,_,_=>some (gC (.bl i))
 |.str i,_,_=>some (gC (.str i))
 |.none,_,_=>some (gC .non)
 |_,_,_=>none
def ze:SE zf:=by
 intro fa n R u g X o a j h;replace h:=nM h;obtain⟨c,i,p,rfl,h⟩:=h;cases c with
 |int i=>cases h;exact Nv
 |bool i=>cases h;exact PJ
 |str i=>cases h;exact Nm
 |none=>cases h;exact Nq
 |_=>cases h
noncomputable def G.cl (g:G)(p:Pos):Bool:=g.cel.contains (p.line,p.col,p.endCol)
def G.tx (g:G)(p:Pos):Bool:=g.txt.contains (p.line,p.col,p.endCol)
noncomputable def E1:Operator->Option oA
 |.Add=>some .add|.Sub=>some .sub|.Mult=>some .mul|.FloorDiv=>some .fdiv|.Mod=>some .mod|.Pow=>some .pow|_=>none
def Dj (h:E1 q=some b):q=binOp b:=by cases q<;>cases h<;>rfl
noncomputable def gq:CmpOp->jB
 |.Eq=>.eq|.NotEq=>.ne|.Lt=>.lt|.LtE=>.le|.Gt=>.gt|.GtE=>.ge|.Is=>.isN|.IsNot=>.notN|.In=>.isin|.NotIn=>.notin
def c6 (q:CmpOp):fi (gq q)=q:=by cases q<;>rfl
def Iq:dP:=λR g e=>(O0 e λa q b p=>(E1 q).bind λq=>(R.e g a).bind λx=>(R.e g b).bind λy=>some (ag (g.cl p) q x y)).or
 ((JZ e λq a _=>match q with
   |.USub=>(R.e g a).bind λx=>some (fX x)
   |.Not=>(R.e g a).bind λx=>some (Kw x)
   |_=>none).or
 ((Eh e λq h _=>match q with
   |.And=>vo (R.e g) dS h
   |.Or=>vo (R.e g) Ot h).or
 ((J1 e λc a b _=>(R.t g c).bind λt=>(R.e g a).bind λx=>(R.e g b).bind λy=>some (fY t x y)).or
 ((qF e λh _ _=>(cA (R.e g) h).bind λs=>some (aU s)).or (OX e λh p=>(cA (R.e g) h).bind λs=>some (aL (g.cl p) s))))))
def FD:SE Iq:=by
 intro fa n R j g X o a F h;replace h:=bZ h;rcases h with h|h
 ·obtain⟨a,q,b,p,rfl,h⟩:=G3 h;obtain⟨q,B,h⟩:=ob h;obtain⟨x,u,h⟩:=ob h;obtain⟨y,v,h⟩:=ob h;cases h;rw[Dj B];exact NA _ _ (j.e o u) (j.e o v)
 replace h:=bZ h;rcases h with h|h
 ·obtain⟨q,a,p,rfl,h⟩:=uu h;cases q with
  |USub=>obtain⟨x,u,h⟩:=ob h;cases h;exact Nr (j.e o u)
  |Not=>obtain⟨x,u,h⟩:=ob h;cases h;exact Np (j.e o u)
  |_=>cases h
 replace h:=bZ h;rcases h with h|h
 ·obtain⟨q,z,p,rfl,h⟩:=ux h;cases q with
  |And=>exact wZ (j.e o) h
  |Or=>exact A8 (j.e o) h
 replace h:=bZ h;rcases h with h|h
 ·obtain⟨c,a,b,p,rfl,h⟩:=wx h;obtain⟨t,E,h⟩:=ob h;obtain⟨x,u,h⟩:=ob h;obtain⟨y,v,h⟩:=ob h;cases h;exact Nu (j.t o E) (j.e o u) (j.e o v)
 replace h:=bZ h;rcases h with h|h
 ·obtain⟨z,k,p,rfl,h⟩:=gy h;obtain⟨s,hs,h⟩:=ob h;cases h;exact Nl (jR (j.e o) hs).1
 ·obtain⟨z,p,rfl,h⟩:=GY h;obtain⟨s,hs,h⟩:=ob h;cases h;exact Nt _ (jR (j.e o) hs).1
def C8 (g:G)(x:Str):Option (List (Str×Nat)):=if jh g x=true then(match g.T.lookup x with|some (.dct fs)=>some fs|_=>none) else none
set_option tactic.hygienic true in
def uY (o:fe fa n g X)(h:C8 g x=some fs):(∃ad j,X.mg x=some (.ref ad)/\fU X.K X.w.params ad j/\eU fa j fs)/\Gl X x/\(x==("__debug__":Str))=false:=by
 obtain⟨c,h⟩:=oi h;split at h
 ·next e=>cases h;exact{o.T.dct e,d4 o c}
 ·cases h
def De (R:Rc)(g:G)(e:Expr):Option GE:=J5 e λa h bs _=>
 (n2 h λq r=>n2 bs λb c=>if 0<g.lv/\behindInMarks r c=false then(R.e g a).bind λy=>(R.e g b).bind λz=>(R.e g c).bind λu=>some (j0 (gq q) (gq r) y z u) else none).or
 (n1 h λq=>n1 bs λb=>(if gq q=.notin then nName b λx _=>(C8 g x).bind λfs=>(R.e g a).bind λy=>some (iM fs y) else none).or
  (if 0<g.lv/\behindInMarks q b=false then(R.e g a).bind λy=>(R.e g b).bind λz=>some (av (gq q) y z) else none))
def IA:dP:=De
def ui (h:gq q=.notin):q=.NotIn:=(c6 q).symm.trans (congrArg fi h)
def FJ:SE IA:=by
 intro fa n R j g X o a F h;replace h:=qH h;obtain⟨a,H,bs,p,rfl,h⟩:=h;replace h:=bZ h;rcases h with h|h
 ·replace h:=iI h;obtain⟨q,r,rfl,h⟩:=h;obtain⟨b,d,rfl,h⟩:=iI h;obtain⟨c,h⟩:=oi h;replace h:=ob h;obtain⟨y,v,h⟩:=h;replace h:=ob h;obtain⟨z,B,h⟩:=h;replace h:=ob h;obtain⟨u,E,h⟩:=h;cases h;have:=Nz (o.rm c.1) (gq q) (gq r) (j.e o v) (j.e o B) (j.e o E) (by rw[c6,c6];exact c.2) (pos:=p)
  rw[c6,c6] at this;exact this
 replace h:=cH h;obtain⟨q,rfl,h⟩:=h;replace h:=cH h;obtain⟨b,rfl,h⟩:=h;replace h:=bZ h;rcases h with h|h
 ·replace h:=oi h;obtain⟨c,h⟩:=h;obtain⟨x,_,rfl,h⟩:=cF h;obtain⟨fs,e,h⟩:=ob h;obtain⟨y,v,h⟩:=ob h;cases h;obtain⟨d,e1,e2⟩:=uY o e;rw[ui c];exact Gs d e1 e2 (j.e o v) rfl
 ·obtain⟨c,h⟩:=oi h;obtain⟨y,v,h⟩:=ob h;obtain⟨z,B,h⟩:=ob h;cases h;have:=Ny (o.rm c.1) (gq q) (j.e o v) (j.e o B) (by rw[c6];exact c.2) (pos:=p)
  rw[c6] at this;exact this
noncomputable def OC:Expr->Bool
 |.Compare ..=>false
 |.BoolOp ..=>false
 |.UnaryOp ..=>false
 |.IfExp ..=>false
 |_=>true
def vT:E7:=λR g e=>((De R g e).bind λx=>some (ak x)).or
 ((Eh e λq h _=>match q with
   |.And=>tD (R.t g) eW h
   |.Or=>tD (R.t g) eQ h).or
 ((JZ e λq a _=>match q with
   |.Not=>(R.t g a).bind λx=>some (bM x)
   |_=>none).or (if OC e=true then(R.e g e).bind λx=>some (ak x) else none)))
def Fx (j:iF fa n R)(o:fe fa n g X)(h:De R g a=some ga):DT fa X a (ak ga):=by
 replace h:=qH h;obtain⟨a,F,bs,p,rfl,h⟩:=h;replace h:=bZ h;rcases h with h|h
 ·replace h:=iI h;obtain⟨q,r,rfl,h⟩:=h;obtain⟨b,d,rfl,h⟩:=iI h;obtain⟨c,h⟩:=oi h;replace h:=ob h;obtain⟨y,v,h⟩:=h;replace h:=ob h;obtain⟨z,B,h⟩:=h;replace h:=ob h;obtain⟨u,E,h⟩:=h;cases h;have:=K5 (o.rm c.1) (gq q) (gq r) (j.e o v) (j.e o B) (j.e o E) (by rw[c6,c6];exact c.2) (pos:=p)
  rw[c6,c6] at this;exact this
 replace h:=cH h;obtain⟨q,rfl,h⟩:=h;replace h:=cH h;obtain⟨b,rfl,h⟩:=h;replace h:=bZ h;rcases h with h|h
 ·replace h:=oi h;obtain⟨c,h⟩:=h;obtain⟨x,_,rfl,h⟩:=cF h;obtain⟨fs,e,h⟩:=ob h;obtain⟨y,v,h⟩:=ob h;cases h;obtain⟨d,e1,e2⟩:=uY o e;rw[ui c];exact Gx d e1 e2 (j.e o v) rfl
 ·obtain⟨c,h⟩:=oi h;obtain⟨y,v,h⟩:=ob h;obtain⟨z,B,h⟩:=ob h;cases h;have:=K1 (o.rm c.1) (gq q) (j.e o v) (j.e o B) (by rw[c6];exact c.2) (pos:=p)
  rw[c6] at this;exact this
def L9:ST vT:=by
 intro fa n R u g X o a y h;replace h:=bZ h;rcases h with h|h
 ·obtain⟨x,j,h⟩:=ob h;cases h;exact Fx u o j
 replace h:=bZ h;rcases h with h|h
 ·obtain⟨q,v,p,rfl,h⟩:=ux h;cases q with
  |And=>exact PW.pt (vU (u.t o) h)
  |Or=>exact PW.pt (zl (u.t o) h)
 replace h:=bZ h;rcases h with h|h
 ·obtain⟨q,a,p,rfl,h⟩:=uu h;cases q with
  |Not=>obtain⟨x,j,h⟩:=ob h;cases h;exact KZ (u.t o j)
  |_=>cases h
 ·obtain⟨c,h⟩:=oi h;obtain⟨x,j,h⟩:=ob h;cases h;exact C3 (u.e o j) λ_=>by cases a<;>first|rfl|cases c
noncomputable def Bh:jx:=λ_ _ st=>match st with
 |.Raise ..=>some xy
 |_=>none
def Fj:SS Bh:=λ{fa n R} _ {g X} _ {a j} h=>by
 unfold Bh at h;split at h
 ·cases h;exact Le
 ·cases h
noncomputable def jd:Expr->Bool
 |.Slice ..=>false
 |_=>true
def ja (h:jd b=true):gF b:=by
 intro x i;cases b<;>first|rfl|cases h
noncomputable def cO (f:Expr->Option GE):Option Expr->Option GE
 |none=>some (gC .non)
 |some a=>f a
def EY (hf:∀{a:Expr}{j:GE},f a=some j->DE fa X a j)(h:cO f q=some ge):DO fa X q q.isSome ge:=by
 cases q with
 |none=>cases h;exact Hu
 |some a=>exact Ht (hf h)
noncomputable def Ij:UnaryOp->Bool
 |.USub=>true
 |_=>false
def Fy (h:Ij q=true):q=.USub:=by cases q<;>first|rfl|cases h
def Io:dP:=λR g e=>mx e λa b _=>nName a λx _=>(C8 g x).bind λfs=>if jd b=true then(R.e g b).bind λy=>some (lI fs y) else none
def FA:SE Io:=by
 intro fa n R u g X o a v h;replace h:=gz h;obtain⟨a,b,p,rfl,h⟩:=h;replace h:=cF h;obtain⟨x,q,rfl,h⟩:=h;obtain⟨fs,e,h⟩:=ob h;obtain⟨c,h⟩:=oi h;obtain⟨y,j,h⟩:=ob h;cases h;obtain⟨d,e1,e2⟩:=uY o e;exact Gu d e1 e2 (u.e o j) (ja c)
def Iw:dP:=λR g e=>mx e λa b p=>(Ct b λlo h st _=>if st.isNone=true/\g.tx p=false then(R.e g a).bind λx=>(cO (R.e g) lo).bind λy=>(cO (R.e g) h).bind λz=>some (aY (g.cl p) lo.isSome h.isSome x y z) else none).or
 (if jd b=true then(R.e g a).bind λx=>(R.e g b).bind λy=>some (aw x y) else none)
def FI:SE Iw:=by
 intro fa n R j g X o a E h;replace h:=gz h;obtain⟨a,b,p,rfl,h⟩:=h;replace h:=bZ h;rcases h with h|h
 ·obtain⟨lo,F,st,p2,rfl,h⟩:=qG h;obtain⟨⟨c,_⟩,h⟩:=oi h;replace h:=ob h;obtain⟨x,u,h⟩:=h;replace h:=ob h;obtain⟨y,v,h⟩:=h;replace h:=ob h;obtain⟨z,B,h⟩:=h;cases h;rw[Sn.mp c];exact Nn _ _ _ (j.e o u) (EY (j.e o) v) (EY (j.e o) B)
 ·obtain⟨c,h⟩:=oi h;obtain⟨x,u,h⟩:=ob h;obtain⟨y,v,h⟩:=ob h;cases h;exact Nw (j.e o u) (j.e o v) (ja c)
def Ip:dP:=λR g e=>mx e λa b p=>Ct b λlo h st _=>st.bind λs=>JZ s λq c _=>J0 c λz=>if lo.isNone=true/\h.isNone=true/\Ij q=true/\z=1 then(R.e g a).bind λx=>some (uR (g.cl p) x) else none
def FC:SE Ip:=by
 intro fa n R E g X o a F h;replace h:=gz h;obtain⟨a,b,p,rfl,h⟩:=h;replace h:=qG h;obtain⟨lo,H,st,p2,rfl,h⟩:=h;obtain⟨s,rfl,h⟩:=ob h;replace h:=uu h;obtain⟨q,c,_,rfl,h⟩:=h;replace h:=G0 h;obtain⟨z,_,_,rfl,h⟩:=h;obtain⟨⟨j,u,v,y⟩,k⟩:=oi h;rw[Sn.mp j,Sn.mp u,Fy v,y];obtain⟨x,B,k⟩:=ob k;cases k;exact Mm _ (E.e o B)
noncomputable def lx (g:G)(x:Str):Option Nat:=if (g.sc.names.lookup x==some .local||(g.sc.names.lookup x==some .cell&&(g.lv != 1||g.oc.contains x)))=true then g.N.findIdx? (·==x) else none
noncomputable def Ei (g:G):List Expr->Option (List Nat)
 |[]=>some []
 |e::r=>nName e λx _=>(lx g x).bind λi=>(Ei g r).bind λl=>some (i::l)
def cG (g:G)(e:Expr):Option fW:=(nName e λx _=>(lx g x).bind λi=>some (.one i)).or (qF e λh _ _=>if 0<g.lv then((Ei g h).bind λl=>some (.tup l)).or (n2 h λa b=>nName a λx _=>qF b λbs _ _=>(lx g x).bind λi=>(Ei g bs).bind λl=>some (.two i l)) else none)
section
variable{fa:Fa}{n:Nat}{g:G}{X:Cx}{R:Rc}(o:fe fa n g X)
include o
theorem sQ (h:lx g x=some i):X.N[i]?=some x/\L2.Loc X.env.scope x/\(X.fn x=true\/X.env.scope.names.lookup x=some .local):=by
 obtain⟨c,h⟩:=oi h;rw[Sr,QD] at c;refine{xW o h,?_,?_}
 ·unfold L2.Loc;rw[o.sc];rcases c with z|z
  ·exact .inl (eq_of_beq z)
  ·exact .inr (eq_of_beq z.1)
 ·rcases c with z|z
  ·right;rw[o.sc];exact eq_of_beq z
  ·rcases Bool.or_eq_true_iff.mp z.2 with q|q
   ·exact .inl (o.fn (by simpa using q) x)
   ·exact .inl (o.oc x (List.contains_iff_mem.mp q))
theorem uB:∀{es:List Expr}{l:List Nat},Ei g es=some l->iT X l es
 |[],_,h=>by cases h;exact .nil
 | e::r,_,h=>by
   replace h:=cF h;obtain⟨x,p,rfl,h⟩:=h;obtain⟨i,j,h⟩:=ob h;obtain⟨l,hl,h⟩:=ob h;cases h;obtain⟨a,b,c⟩:=sQ o j;exact .cons a b c (uB hl)
theorem jQ (h:cG g t=some tt):PG X t (gT fa X.K tt):=by
 replace h:=bZ h;rcases h with h|h
 ·obtain⟨x,p,rfl,h⟩:=cF h;replace h:=ob h;obtain⟨i,j,h⟩:=h;cases h;obtain⟨a,b,c⟩:=sQ o j;exact Hz (o.N ▸ o.nd) a b c
 ·replace h:=gy h;obtain⟨v,k,p,rfl,h⟩:=h;replace h:=oi h;obtain⟨c,h⟩:=h;replace h:=bZ h;rcases h with h|h
  ·obtain⟨l,hl,h⟩:=ob h;cases h;exact Lp (o.calm c) (o.N ▸ o.nd) (uB o hl)
  ·obtain⟨a,b,rfl,h⟩:=iI h;replace h:=cF h;obtain⟨x,y,rfl,h⟩:=h;replace h:=gy h;obtain⟨bs,k2,p2,rfl,h⟩:=h;obtain⟨i,j,h⟩:=ob h;obtain⟨l,hl,h⟩:=ob h;cases h;obtain⟨e1,e2,u⟩:=sQ o j;exact Lo (o.calm c) (o.N ▸ o.nd) e1 e2 u (uB o hl)
end
def cB (nm:Str)(R:Rc)(g:G)(e:Expr):Option (List Expr×GA):=oo e λx h _=>nC h λa h=>if x=nm/\jh g x=true/\(match g.T.lookup x with|some .bl=>true|_=>false)=true/\0<g.lv then(cA (R.e g) (a::h)).bind λj=>some (a::h,j) else none
def lM {g:G}(h:(match g.T.lookup x with|some .bl=>true|_=>false)=true):g.T.lookup x=some .bl:=by
 split at h
 ·assumption
 ·cases h
def lL (B:iF fa n R)(o:fe fa n g X)(h:cB nm R g e=some (as,u)):∃p pos a es,as=a::es/\e=.Call (.Name nm p) (a::es) [] pos/\Gl X nm/\X.mg nm=none/\0<g.lv/\DA fa X (a::es) u/\notStar a=true/\es.all notStar=true:=by
 replace h:=gM h;obtain⟨x,q,es,p,rfl,h⟩:=h;replace h:=lj h;obtain⟨a,es,rfl,h⟩:=h;replace h:=oi h;obtain⟨⟨rfl,v,y,z⟩,h⟩:=h;obtain⟨u,j,h⟩:=ob h;cases h;obtain⟨d,ns⟩:=jR (B.e o) j;rw[RK,QD] at ns;exact{_,_,_,_,rfl,rfl,(d4 o v).1,o.T.bl (lM y),z,d,ns.1,ns.2}
def Iu:dP:=λR g e=>(cB "len" R g e).bind λq=>some (aB .len q.2)
def FG:SE Iu:=λ{fa n R} v {g X} o {a z} h=>by
 obtain⟨⟨y,B⟩,u,h⟩:=ob h;cases h;obtain⟨_,_,_,_,_,rfl,j,hm,_,d,n1,n2⟩:=lL v o u;exact yk .len MY j hm PySem.boot_len d `d `d (bo n1) (cZ n2)
def IC:dP:=λR g e=>(cB "all" R g e).bind λq=>some (aB .all q.2)
def FL:SE IC:=λ{fa n R} v {g X} o {a z} h=>by
 obtain⟨⟨y,B⟩,u,h⟩:=ob h;cases h;obtain⟨_,_,_,_,_,rfl,j,hm,lv,d,n1,n2⟩:=lL v o u;exact yk .all (Na (o.calm lv)) j hm `k d `d `d (bo n1) (cZ n2)
def Im:dP:=λR g e=>(cB "sum" R g e).bind λq=>some (aB .sum q.2)
def Fz:SE Im:=λ{fa n R} v {g X} o {a z} h=>by
 obtain⟨⟨y,B⟩,u,h⟩:=ob h;cases h;obtain⟨_,_,_,_,_,rfl,j,hm,lv,d,n1,n2⟩:=lL v o u;exact yk .sum (MW (o.calm lv)) j hm `k d `d `d (bo n1) (cZ n2)
def Ir:dP:=λR g e=>(cB "max" R g e).bind λq=>some (qO q.2)
def FE:SE Ir:=λ{fa n R} v {g X} o {a z} h=>by
 obtain⟨⟨y,B⟩,u,h⟩:=ob h;cases h;obtain⟨_,_,_,_,_,rfl,j,hm,lv,d,n1,n2⟩:=lL v o u;exact Mn (o.calm lv) j hm d n1 n2
def yZ:dP:=λR g e=>(cB "tuple" R g e).bind λq=>some (aB .tuple q.2)
def yY:SE yZ:=λ{fa n R} v {g X} o {a z} h=>by
 obtain⟨⟨y,B⟩,u,h⟩:=ob h;cases h;obtain⟨_,_,_,_,_,rfl,j,hm,_,d,n1,n2⟩:=lL v o u;exact AR .tuple Hh j hm `k d `d `d (bo n1) (cZ n2)
def DM:dP:=λR g e=>(cB "list" R g e).bind λq=>some (aB (.list (g.cl e.pos)) q.2)
def Bu:SE DM:=λ{fa n R} v {g X} o {a z} h=>by
 obtain⟨⟨y,B⟩,u,h⟩:=ob h;cases h;obtain⟨_,_,_,_,_,rfl,j,hm,_,d,n1,n2⟩:=lL v o u;exact AR (.list _) (KI _) j hm `k d `d `d (bo n1) (cZ n2)
def cR (R:Rc)(g:G)(nm:Str)(e:Expr):Option (Expr×GE):=oo e λx h _=>n1 h λa=>if x=nm/\jh g x=true/\(match g.T.lookup x with|some .bl=>true|_=>false)=true/\0<g.lv/\notStar a=true then(R.e g a).bind λy=>some (a,y) else none
def n5 (E:iF fa n R)(o:fe fa n g X)(h:cR R g nm e=some (a,ga)):∃p pos,e=.Call (.Name nm p) [a] [] pos/\Gl X nm/\X.mg nm=none/\0<g.lv/\DE fa X a ga/\starEach [a] X.env=[(false,eval a X.env)]:=by
 replace h:=gM h;obtain⟨x,q,F,p,rfl,h⟩:=h;replace h:=cH h;obtain⟨a,rfl,h⟩:=h;replace h:=oi h;obtain⟨⟨rfl,j,u,v,z⟩,h⟩:=h;obtain⟨y,B,h⟩:=ob h;cases h;exact{_,_,rfl,(d4 o j).1,o.T.bl (lM u),v,E.e o B,bo z}
def zb:dP:=λR g e=>oo e λx h p=>n1 h λb=>if x="list"/\jh g x=true/\(match g.T.lookup x with|some .bl=>true|_=>false)=true then(cR R g "range" b).bind λq=>some (mI (g.cl p) q.2) else none
def y3:SE zb:=λ{fa n R} B {g X} o {a F} h=>by
 replace h:=gM h;obtain⟨x,q,E,p,rfl,h⟩:=h;replace h:=cH h;obtain⟨b,rfl,h⟩:=h;replace h:=oi h;obtain⟨⟨rfl,j,u⟩,h⟩:=h;obtain⟨⟨b,y⟩,z,h⟩:=ob h;cases h;obtain⟨_,_,rfl,v,hm,lv,d,hs⟩:=n5 B o z;exact Gq _ (o.calm lv) d (d4 o j).1 (o.T.bl (lM u)) v hm hs rfl
def Iv:dP:=λR g e=>(cR R g "int" e).bind λq=>some (mJ q.2)
def FH:SE Iv:=λ{fa n R} v {g X} o {a z} h=>by
 obtain⟨⟨b,y⟩,u,h⟩:=ob h;cases h;obtain⟨_,_,rfl,j,hm,lv,d,hs⟩:=n5 v o u;exact Jh d j hm hs
def BB (x:Str):Option Ty:=if x="int" then some .int else if x="bool" then some .bool else if x="str" then some .str else if x="tuple" then some .tuple else if x="list" then some .list else none
def FN (h:BB x=some t):bootBuiltins x=some (.type (tyName t))/\(∀c,t≠.own c)/\x≠"__name__"/\(x==("__debug__":Str))=false:=by
 unfold BB at h;split at h
 ·subst x;cases h;exact{`k,(λ_ z=>nomatch z),`d,`d}
 split at h
 ·subst x;cases h;exact{`k,(λ_ z=>nomatch z),`d,`d}
 split at h
 ·subst x;cases h;exact{`k,(λ_ z=>nomatch z),`d,`d}
 split at h
 ·subst x;cases h;exact{`k,(λ_ z=>nomatch z),`d,`d}
 split at h
 ·subst x;cases h;exact{`k,(λ_ z=>nomatch z),`d,`d}
 ·cases h
def cI (R:Rc)(g:G)(e:Expr):Option (Str×GE):=oo e λy h _=>n2 h λa b=>nName b λx _=>if y="isinstance"/\jh g y=true/\(match g.T.lookup y with|some .bl=>true|_=>false)=true/\jh g x=true/\notStar a=true then(R.e g a).bind λz=>some (x,z) else none
def NM (F:iF fa n R)(o:fe fa n g X)(h:cI R g e=some (x,ga)):∃p q a pos,e=.Call (.Name "isinstance" p) [a,.Name x q] [] pos/\Gl X "isinstance"/\X.mg "isinstance"=none/\Gl X x/\(x==("__debug__":Str))=false/\DE fa X a ga/\starEach [a,.Name x q] X.env=(false,eval a X.env)::starEach [.Name x q] X.env:=by
 replace h:=gM h;obtain⟨y,q,H,p,rfl,h⟩:=h;replace h:=iI h;obtain⟨a,b,rfl,h⟩:=h;replace h:=cF h;obtain⟨x,I,rfl,h⟩:=h;replace h:=oi h;obtain⟨⟨rfl,u,v,j,B⟩,h⟩:=h;obtain⟨z,E,h⟩:=ob h;cases h;exact{_,_,_,_,rfl,(d4 o u).1,o.T.bl (lM v),(d4 o j).1,(d4 o j).2,F.e o E,bo B}
def DN:dP:=λR g e=>(cI R g e).bind λq=>if (match g.T.lookup q.1 with|some .bl=>true|_=>false)=true then(BB q.1).bind λt=>some (cq t q.2) else none
def Bv:SE DN:=λ{fa n R} E {g X} o {a F} h=>by
 obtain⟨⟨x,z⟩,v,h⟩:=ob h;obtain⟨c,h⟩:=oi h;obtain⟨t,y,h⟩:=ob h;cases h;obtain⟨_,_,_,_,rfl,u,hm,B,hd,d,hs⟩:=NM E o v;obtain⟨b1,b2,b3,j⟩:=FN y;exact Lu t b2 d u hm `k B (o.T.bl (lM c)) b1 b3 j hs
def DV:dP:=λR g e=>oo e λx h _=>nC h λa h=>if 0<g.lv then(match vr g x with
 |some i=>(cA (R.e g) (a::h)).bind λj=>some (mL i g.c j)
 | none=>if jh g x = true then(match g.T.lookup x with
   |some (.fn i _)=>(cA (R.e g) (a::h)).bind λj=>some (ai i g.c j)
   |_=>none) else none) else none
set_option tactic.hygienic true in
def Bz:SE DV:=λ{fa n R} u {g X} o {a E} h=>by
 replace h:=gM h;obtain⟨x,q,z,p,rfl,h⟩:=h;replace h:=lj h;obtain⟨a,z,rfl,h⟩:=h
 ·obtain⟨lv,h⟩:=oi h;split at h
  ·next e=>
   obtain⟨B,j,h⟩:=ob h;cases h;obtain⟨d,ns⟩:=jR (u.e o) j;rw[RK,QD] at ns;obtain⟨a,b,v,y⟩:=DH o e;exact HF (o.C lv) ((o.hr lv).mono (S2 _)) a b d v y (bo ns.1) (cZ ns.2)
  ·obtain⟨c,h⟩:=oi h;split at h
   ·next e=>
    obtain⟨B,j,h⟩:=ob h;cases h;obtain⟨d,ns⟩:=jR (u.e o) j;rw[RK,QD] at ns;exact Ly (o.C lv _) ((o.hr lv).mono (S2 _)) (d4 o c).1 (o.T.fn e) d (d4 o c).2 (bo ns.1) (cZ ns.2)
   ·cases h
def DC:dP:=λR g e=>(oo e λx h _=>nC h λa h=>if 2<=g.lv/\jh g x=true then(match g.T.lookup x with
 |some (.fn i true)=>(cA (R.e g) (a::h)).bind λj=>some (bB i g.c j)
 |_=>none) else none).or (J1 e λc a b _=>(R.x g a).bind λx=>(R.x g b).bind λy=>(R.t g c).bind λt=>some (yb t x y))
set_option tactic.hygienic true in
def Bj:SX DC:=λ{fa n R} j {g X} o {a F} h=>by
 replace h:=bZ h;rcases h with h|h
 ·obtain⟨x,q,v,p,rfl,h⟩:=gM h;obtain⟨a,v,rfl,h⟩:=lj h;replace h:=oi h;obtain⟨⟨lv,c⟩,h⟩:=h;split at h
  ·next e=>
   replace h:=ob h;obtain⟨H,u,h⟩:=h;cases h;obtain⟨d,ns⟩:=jR (j.e o) u;rw[RK,QD] at ns;exact x_call _ (o.C `a) ((o.hr `a).mono (S2 _)) (o.top lv).1 (d4 o c).1 (o.T.fn e) d (d4 o c).2 ns.1 ns.2
  ·cases h
 ·obtain⟨c,a,b,p,rfl,h⟩:=wx h;obtain⟨x,B,h⟩:=ob h;obtain⟨y,E,h⟩:=ob h;obtain⟨t,z,h⟩:=ob h;cases h;exact L6 (j.t o z) (j.x o B) (j.x o E)
def yS:dP:=λR g e=>oo e λx h _=>n1 h λa=>if 2<=g.lv/\jh g x=true/\notStar a=true then(match g.T.lookup x with
 |some (.fnD i)=>(R.e g a).bind λy=>some (bB i g.c (bz y (bz (gC .non) bj)))
 |_=>none) else none
set_option tactic.hygienic true in
def yR:SX yS:=λ{fa n R} u {g X} o {a z} h=>by
 replace h:=gM h;obtain⟨x,q,v,p,rfl,h⟩:=h;replace h:=cH h;obtain⟨a,rfl,h⟩:=h;replace h:=oi h;obtain⟨⟨lv,c,st⟩,h⟩:=h;split at h
 ·next e=>
  replace h:=ob h;obtain⟨y,j,h⟩:=h;cases h;exact Fq _ (o.C `a) ((o.hr `a).mono (S2 _)) (o.top lv).1 (d4 o c).1 (o.T.fnD e).1 (o.T.fnD e).2 (u.e o j) (d4 o c).2 st
 ·cases h
noncomputable def nJ:Expr->Bool
 |.Call _ [] _ _=>false
 |_=>true
def iZ (h:nJ a=true):attributeBase a m env w=w:=by
 cases a with
 | Call f j ks p=>
   cases j with
   |nil=>cases h
   |cons _ _=>cases f<;>rfl
 |_=>rfl
def NY:dP:=λR g e=>OY e λl _=>nC l λa l=>n2 l λb c=>Cs a λz=>Ob b λb=>Cs c λy=>(R.e g b).bind λx=>some (oq z y x)
def Iy:SE NY:=λ{fa n R} u {g X} o {a v} h=>by
 replace h:=GZ h;obtain⟨l,p,rfl,h⟩:=h;replace h:=lj h;obtain⟨a,l,rfl,h⟩:=h;replace h:=iI h;obtain⟨b,c,rfl,h⟩:=h;replace h:=wu h;obtain⟨z,_,_,rfl,h⟩:=h;replace h:=J2 h;obtain⟨b,_,rfl,h⟩:=h;replace h:=wu h;obtain⟨y,_,_,rfl,h⟩:=h;obtain⟨x,j,h⟩:=ob h;cases h;exact OR (u.e o j)
def DF:vD:=λR g _ e=>(cR R g "range" e).bind λq=>some (cJ q.2)
def Bq:SW DF:=λ{z n R} v {g X} o {t a B} h=>by
 obtain⟨⟨b,y⟩,u,h⟩:=ob h;cases h;obtain⟨_,_,rfl,j,hm,_,d,hs⟩:=n5 v o u;exact Hx d j hm hs
def DG:vD:=λR g t e=>qF t λ_ _ _=>(cR R g "enumerate" e).bind λq=>some (iL q.2)
def Br:SW DG:=λ{z n R} v {g X} o {t a B} h=>by
 replace h:=gy h;obtain⟨_,_,_,rfl,h⟩:=h;obtain⟨⟨b,y⟩,u,h⟩:=ob h;cases h;obtain⟨_,_,rfl,j,hm,_,d,hs⟩:=n5 v o u;exact Hy d j hm hs
def cN (R:Rc)(g:G)(nm:Str)(e:Expr):Option (List Expr):=oo e λx h _=>if x=nm/\jh g x=true/\(match g.T.lookup x with|some .bl=>true|_=>false)=true/\0<g.lv/\h.all notStar=true then some h else none
def NL (o:fe fa n g X)(h:cN R g nm e=some es):∃p pos,e=.Call (.Name nm p) es [] pos/\Gl X nm/\X.mg nm=none/\es.all notStar=true:=by
 replace h:=gM h;obtain⟨x,q,es,p,rfl,h⟩:=h;replace h:=oi h;obtain⟨⟨rfl,j,u,y,v⟩,h⟩:=h;cases h;exact{_,_,rfl,(d4 o j).1,o.T.bl (lM u),v}
noncomputable def xp:∀{es:List Expr},es.all notStar=true->starEach es env=es.map λa=>(false,eval a env)
 |[],_=>rfl
 | a::es,h=>by
   rw[RK,QD] at h;rw[bo h.1,xp h.2];rfl
def DD:vD:=λR g t e=>qF t λ_ _ _=>(cN R g "zip" e).bind λh=>n2 h λa b=>(R.e g a).bind λx=>(R.e g b).bind λy=>some (nR x y)
def Bp:SW DD:=λ{F n R} j {g X} o {t a H} h=>by
 replace h:=gy h;obtain⟨_,_,_,rfl,h⟩:=h;obtain⟨E,v,k⟩:=ob h;clear h;obtain⟨_,_,rfl,u,hm,ns⟩:=NL o v;replace k:=iI k;obtain⟨a,b,rfl,k⟩:=k;obtain⟨x,z,k⟩:=ob k;obtain⟨y,B,k⟩:=ob k;cases k;exact Hw (j.e o z) (j.e o B) u hm (xp ns) (xp (SQ.mp (RK ▸ ns)).2)
def Ig:vD:=λR g _ e=>if g.tx e.pos=false then(R.e g e).bind λx=>some (b8 x) else none
def Ft:SW Ig:=λ{v n R} u {g X} o {t a y} h=>by
 obtain⟨_,h⟩:=oi h;obtain⟨x,j,h⟩:=ob h;cases h;exact Lm (u.e o j)
noncomputable def ku:Expr->Bool
 |.Set ..=>false
 |_=>true
def wK (h:ku a=true)(x:Qw):foldedSetIterable a env x=pure x:=by
 cases a<;>first|rfl|cases h
noncomputable def xE:Expr->List Str
 |.Name x _=>[x]
 |.Tuple h _ _=>(h.map fun|.Name x _=>[x]|.Tuple bs _ _=>bs.filterMap (fun|.Name x _=>some x|_=>none)|_=>[]).flatten
 |_=>[]
noncomputable def vf (g:G)(own:List Str):List Str:=g.N.map λx=>if own.contains x then x++("%":Str) else x
noncomputable def Ca (h sc:Scope):Scope:={h with names:=h.names.map λ(n,k)=>if (k==.free&&sc.kind==.function&&sc.names.lookup n==some .cell) then(n,.cell) else(n,k)}
def G.inC (g:G)(own:List Str)(h:Scope):G:={g with N:=own++vf g own,sc:=Ca h g.sc,lv:=1,oc:=(h.names.filter λy=>h.names.lookup y.1==some .cell).map (·.1)}
def wg (g:G)(own:List Str)(h:Scope):Prop:=0<g.lv/\h.kind=.function/\qZ (vf g own) g.N g.sc h=true/\(own++vf g own).Nodup
instance (g:G) (own:List Str) (scope:Scope):Decidable (wg g own scope):=by unfold wg;infer_instance
def ym (o:fe fa n g X)(c:wg g own scope):fQ X own (vf g own) scope/\∀cl C j s H,fe fa n (g.inC own scope) (f5 X own (vf g own) scope cl C j s H):=by
 obtain⟨h,u,v,B⟩:=c;refine{AW u o.sc o.N v,λcl C j s H=>{rfl,B,?_,o.T,o.tw,o.xf,o.ms,(λz=>absurd rfl z),(λx E=>by obtain⟨y,F,e⟩:=QK.mp E;subst e;exact(So.mp F).2),λ_=>o.calm h,λ_=>o.C h,λ_=>o.hr h,(λz=>absurd (show 2<=1 from z) `d),(λz=>nomatch z)}}
 show relabel scope X.env=Ca scope g.sc;unfold relabel Ca Env.kindOf;rw[o.sc]
structure L1 (fa:Fa) (X:Cx) (e:Expr) (k:Nat) (t:fW) (gw:GW) (gb:GB):Prop where
 ex:∃elt tg iter ifs rest scope pos own bn W body,e=.ListComp elt ({tg,iter,ifs,0}::rest) scope pos/\k=own.length/\fQ X own bn scope/\DI fa X tg iter gw/\Block fa X (LA fa X.K) own bn scope tg t W body gb/\qm X elt tg iter ifs rest scope pos body/\(∀i∈W,i∉slots t)/\(∀i∈slots t++W,i<own.length)/\∀x,foldedSetIterable iter X.env x=pure x
def cC (R:Rc)(g:G)(e:Expr):Option (Nat×fW×GW×GB):=Oa e λB y h _=>(n1 y λc=>nG c λz j v=>let own:=xE z
 if wg g own h/\ku j=true then(R.w g z j).bind λw=>(cG (g.inC own h) z).bind λt=>(R.e (g.inC own h) B).bind λx=>if (slots t).all (· < own.length)=true then(n0 v (some (own.length,t,w,bI x))).or (n1 v λc=>(R.t (g.inC own h) c).bind λq=>some (own.length,t,w,rV q (bI x))) else none else none).or
 (n2 y λc d=>nG c λz j v=>nG d λt2 F E=>let own:=xE z++xE t2
  n0 v (n0 E (if wg g own h/\ku j=true/\ku F=true then(R.w g z j).bind λw=>(cG (g.inC own h) z).bind λt=>(R.w (g.inC own h) t2 F).bind λw2=>(cG (g.inC own h) t2).bind λu=>(R.e (g.inC own h) B).bind λx=>if (slots t++slots u).all (· < own.length)=true/\(slots u).all (λi=>!(slots t).contains i)=true then some (own.length,t,w,uS u w2 (bI x)) else none else none)))
def EZ (z:iF fa n R)(o:fe fa n g X)(h:cC R g e=some (k,t,gw,gb)):L1 fa X e k t gw gb:=by
 replace h:=Ah h;obtain⟨B,gens,E,p,rfl,h⟩:=h;replace h:=bZ h;rcases h with h|h
 ·replace h:=cH h;obtain⟨c,rfl,h⟩:=h;replace h:=sP h;obtain⟨tg,y,Y,rfl,h⟩:=h;replace h:=oi h;obtain⟨⟨c,J⟩,h⟩:=h;replace h:=ob h;obtain⟨w,M,h⟩:=h;replace h:=ob h;obtain⟨t,L,h⟩:=h;replace h:=ob h;obtain⟨x,P,h⟩:=h;replace h:=oi h;obtain⟨I,h⟩:=h;obtain⟨S,O⟩:=ym o c;replace h:=bZ h;rcases h with h|h
  ·obtain⟨rfl,h⟩:=iJ h;cases h;exact{_,_,_,_,_,_,_,_,_,[],(λa env=>eval B env >>= λx=>call (.builtin "list.append") [.ref a,x] >>= λ_=>pure ()),rfl,rfl,S,z.w o M,{λcl C v s H=>jQ (O cl C v s H) L,λcl C v s H a=>uZ (z.e (O cl C v s H) P)},(λF a env=>BF _ _ _ [] _ _ (.ref F) (.ref a) env),(λi h=>nomatch h),(by simpa using kM I),wK J}
  ·obtain⟨d,rfl,h⟩:=cH h;obtain⟨q,hq,h⟩:=ob h;cases h;exact{_,_,_,_,_,_,_,_,_,[],(λa env=>PySem.isTrue d env (eval d env) >>= λok=>if ok=true then(eval B env >>= λx=>call (.builtin "list.append") [.ref a,x] >>= λ_=>pure ()) else pure ()),rfl,rfl,S,z.w o M,{λcl C v s H=>jQ (O cl C v s H) L,λcl C v s H a=>Nj LA.stab (z.t (O cl C v s H) hq) (uZ (z.e (O cl C v s H) P))},(λF a env=>turn_if _ _ _ _ _ _ (.ref F) (.ref a) env),(λi h=>nomatch h),(by simpa using kM I),wK J}
 ·replace h:=iI h;obtain⟨c,d,rfl,h⟩:=h;replace h:=sP h;obtain⟨tg,y,Y,rfl,h⟩:=h;replace h:=sP h;obtain⟨t2,Q,ifs2,rfl,h⟩:=h;replace h:=iJ h;obtain⟨rfl,h⟩:=h;replace h:=iJ h;obtain⟨rfl,h⟩:=h;obtain⟨⟨c,J,U⟩,h⟩:=oi h;obtain⟨w,M,h⟩:=ob h;obtain⟨t,L,h⟩:=ob h;obtain⟨w2,W,h⟩:=ob h;obtain⟨u,hu,h⟩:=ob h;obtain⟨x,P,h⟩:=ob h;obtain⟨⟨I,c3⟩,h⟩:=oi h;cases h;obtain⟨S,O⟩:=ym o c;exact{_,_,_,_,_,_,_,_,_,slots u,(λa env=>eval Q env >>= λx=>standAt Q.pos >>= λ_=>foldedSetIterable Q env x >>= λx=>holding [x] (pyIter x) >>= λj=>runOwn (.compStart (.ListComp B [{tg,y,[],0},{t2,Q,[],0}] E p) 1 j (.ref a) env) env >>= λ_=>pure ()),rfl,rfl,S,z.w o M,{λcl C v s H=>jQ (O cl C v s H) L,λcl C v s H a=>Lq rfl (o.calm c.1) (z.w (O cl C v s H) W) (jQ (O cl C v s H) hu) (z.e (O cl C v s H) P) (wK U)},(λF a env=>BD _ _ _ _ _ _ _ (.ref F) (.ref a) env),zI c3,kM I,wK J}
def DU:dP:=λR g e=>if 0<g.lv then(cC R g e).bind λq=>some (bG (g.cl e.pos) q.1 q.2.1 q.2.2.1 q.2.2.2) else none
def By:SE DU:=λ{J n R} H {g X} o {a L} h=>by
 obtain⟨lv,h⟩:=oi h;obtain⟨⟨k,t,w,b⟩,z,h⟩:=ob h;cases h;obtain⟨v,M,u,E,rest,j,F,own,I,W,body,rfl,rfl,S,y,B,T,h1,h2,h3⟩:=(EZ H o z).ex;exact Lx _ S (o.calm lv) y B T h1 h2 h3
noncomputable def ve (f:Stmt->Option GS):List Stmt->Option GS
 |[]=>some aC
 |a::r=>(f a).bind λx=>(ve f r).bind λy=>some (bc x y)
noncomputable def kF (hf:∀{a:Stmt}{j:GS},f a=some j->DS fa X a j):∀{ss:List Stmt}{u:GS},ve f ss=some u->nk fa X ss u
 |[],_,h=>by cases h;exact Hn
 | a::r,_,h=>by
   obtain⟨x,v,h⟩:=ob h;obtain⟨y,z,h⟩:=ob h;cases h;exact C4 (hf v) (kF hf z)
noncomputable def wj:Expr->Bool
 |.ListComp ..=>false
 |.SetComp ..=>false
 |.DictComp ..=>false
 |_=>true
def wm (h:wj a=true):swapsWith a t l env=pure false:=by
 cases a<;>first|rfl|cases h
def LJ (g:G)(h a:Expr):Bool:=match a with
 |.ListComp ..=>(match h with|.Name y _=>g.sc.names.lookup y==some .cell|_=>false)
 |.Tuple ..=>(match h with|.Name ..=>true|_=>false)
 |.SetComp ..=>false
 |.DictComp ..=>(match h with|.Name y _=>g.sc.names.lookup y==some .cell|_=>false)
 |_=>true
set_option tactic.hygienic true in
def LI (o:fe fa n g X)(c:LJ g tg a=true)(j:cG g tg=some t):swapsWithSole [tg] a l X.env=pure false/\swappedStores [tg] a X.env=pure none/\(assignEach [tg] X.env).map (·.2)=[assign tg X.env]:=by
 refine{?_,?_,?_}
 ·cases a<;>first|rfl|cases c|skip
  all_goals cases tg<;>first|cases c|skip
  all_goals
  next y p=>
  have e:=eq_of_beq c;have hk:(X.env.kindOf y==some .local)=false:=by unfold Env.kindOf;rw[o.sc,e];rfl
  show(pure (X.env.blockKind==.function&&X.env.kindOf y==some .local&&_&&_):Sem Bool)=pure false;rw[hk,Bool.and_false,Bool.false_and,Bool.false_and]
 ·replace j:=bZ j;rcases j with h|h
  ·obtain⟨_,_,rfl,_⟩:=cF h;cases a<;>first|rfl|cases c
  ·obtain⟨_,_,_,rfl,_⟩:=gy h;cases a<;>first|rfl|cases c
 ·replace j:=bZ j;rcases j with h|h
  ·obtain⟨_,_,rfl,_⟩:=cF h;rfl
  ·obtain⟨_,_,_,rfl,_⟩:=gy h;rfl
def HX:jx:=λR g st=>tY st λts a _=>n1 ts λh=>if LJ g h a=true then(cG g h).bind λt=>((R.x g a).bind λx=>some (c8 t x)).or ((R.e g a).bind λx=>some (ao t x)) else none
def Fn:SS HX:=λ{y n R} u {g X} o {a z} h=>by
 replace h:=kc h;obtain⟨ts,a,p,rfl,h⟩:=h;replace h:=cH h;obtain⟨B,rfl,h⟩:=h;obtain⟨c,h⟩:=oi h;obtain⟨t,j,h⟩:=ob h;obtain⟨a1,a2,a3⟩:=LI o c j;replace h:=bZ h;rcases h with h|h
 ·obtain⟨x,e,h⟩:=ob h;cases h;exact I9 (u.x o e) (jQ o j) a1 a2 a3
 ·obtain⟨x,v,h⟩:=ob h;cases h;exact Lg (u.e o v) (jQ o j) a1 a2 a3
def Dy:jx:=λR g st=>tY st λts d _=>n1 ts λt=>nName t λy v=>Oa d λu j h p=>if 2<=g.lv/\g.sc.names.lookup y=some .local/\(v.line==p.line)=true/\(h.names.any λ(n,k)=>n==y&&(k==.local||k==.cell))=false then(cC R g (.ListComp u j h p)).bind λq=>(g.N.findIdx? (·==y)).bind λi=>some (ao (.one i) (bG (g.cl p) q.1 q.2.1 q.2.2.1 q.2.2.2)) else none
def Bg:SS Dy:=λ{fa n R} rc {g X} o {a ga} h=>by
 replace h:=kc h;obtain⟨ts,d,_,rfl,h⟩:=h;replace h:=cH h;obtain⟨t,rfl,h⟩:=h;replace h:=cF h;obtain⟨y,Y,rfl,h⟩:=h;replace h:=Ah h;obtain⟨_,_,v,p,rfl,h⟩:=h
 ·next=>
  obtain⟨⟨lv,F,H,I⟩,h⟩:=oi h;obtain⟨⟨k,t,w,b⟩,P,h⟩:=ob h;obtain⟨i,O,h⟩:=ob h;cases h;obtain⟨L,tg,E,Q,rest,z,U,own,bn,W,body,J,rfl,S,j,B,T,h1,h2,h3⟩:=(EZ rc o P).ex;cases J;have hl:X.env.scope.names.lookup y=some .local:=by rw[o.sc];exact F
  refine yi _ S (o.calm `a) j B T h1 h2 h3 (o.N ▸ o.nd) (xW o O) hl ?_
  have hk:=(o.top lv).2.2.2;have M:(X.env.blockKind==.function)=true:=by unfold Env.blockKind;rw[hk];rfl
  have u:(X.env.kindOf y==some .local)=true:=by unfold Env.kindOf;rw[hl];rfl
  show(pure (X.env.blockKind==.function&&X.env.kindOf y==some .local&&(Y.line==p.line)&&!(v.names.any λ(n,k)=>n==y&&(k==.local||k==.cell))):Sem Bool)=pure true;rw[M,u,H,I];rfl
def HU:jx:=λR g st=>tY st λts d _=>n1 ts λt=>mx t λa b _=>if jd b=true then(R.e g a).bind λx=>(R.e g b).bind λy=>(R.e g d).bind λz=>some (eY x y z) else none
def Fh:SS HU:=λ{F n R} j {g X} o {a H} h=>by
 replace h:=kc h;obtain⟨ts,d,_,rfl,h⟩:=h;replace h:=cH h;obtain⟨t,rfl,h⟩:=h;replace h:=gz h;obtain⟨a,b,p2,rfl,h⟩:=h
 ·next=>
  obtain⟨c,h⟩:=oi h;obtain⟨x,u,h⟩:=ob h;obtain⟨y,B,h⟩:=ob h;obtain⟨z,E,h⟩:=ob h;cases h;refine La (j.e o u) (j.e o B) (j.e o E) (λv=>?_) ?_ ?_ rfl
  ·cases b<;>first|rfl|cases c
  ·cases d<;>rfl
  ·cases d<;>rfl
def HY:jx:=λR g st=>xx st λe _=>Eg e λa m d q=>if m="append"/\nJ a=true/\q=true/\notStar d=true then(R.e g a).bind λx=>(R.e g d).bind λy=>some (cU x y) else none
def Fo:SS HY:=λ{F n R} j {g X} o {a H} h=>by
 replace h:=nF h;obtain⟨e,_,rfl,h⟩:=h;replace h:=uw h;obtain⟨a,m,q,d,p,rfl,h⟩:=h;replace h:=oi h;obtain⟨⟨rfl,u,v,z⟩,h⟩:=h;obtain⟨x,B,h⟩:=ob h;obtain⟨y,E,h⟩:=ob h;cases h;exact Lh (j.e o B) (j.e o E) (iZ u) v (bo z) rfl
def HS:jx:=λR g st=>(xx st λa _=>if wj a=true then((R.x g a).bind λx=>some (hR x)).or ((R.e g a).bind λx=>some (sEx x)) else none).or
 ((sRt st λq _=>match q with
   |none=>some D6
   |some a=>((R.x g a).bind λx=>some (xw x)).or ((R.e g a).bind λx=>some (aA x))).or
 ((sPs st λ_=>some D7).or
 ((sIf st λc st u _=>(R.t g c).bind λt=>(ve (R.s g) st).bind λx=>(ve (R.s g) u).bind λy=>some (aI t x y)).or
 (sFr st λh a body j _=>n0 j (if g.lv=2/\ku a=true then(R.w g h a).bind λw=>(cG g h).bind λt=>(ve (R.s g) body).bind λx=>some (cy t w x) else none)))))
def Fg:SS HS:=λ{F n R} j {g X} o {a H} h=>by
 replace h:=bZ h;rcases h with h|h
 ·obtain⟨a,p,rfl,h⟩:=nF h;obtain⟨c,h⟩:=oi h;rcases bZ h with h|h
  ·obtain⟨x,e,h⟩:=ob h;cases h;exact Mi (j.x o e) (wm c)
  ·obtain⟨x,u,h⟩:=ob h;cases h;exact Nf (j.e o u) (wm c)
 replace h:=bZ h;rcases h with h|h
 ·obtain⟨q,p,rfl,h⟩:=Jb h;cases q with
  |none=>cases h;exact Ho
  | some a=>
    rcases bZ h with h|h
    ·obtain⟨x,e,h⟩:=ob h;cases h;exact IZ (j.x o e)
    ·obtain⟨x,u,h⟩:=ob h;cases h;exact K9 (j.e o u)
 replace h:=bZ h;rcases h with h|h
 ·obtain⟨p,rfl,h⟩:=Jc h;cases h;exact Hq
 replace h:=bZ h;rcases h with h|h
 ·obtain⟨c,st,I,p,rfl,h⟩:=Jd h;obtain⟨t,v,h⟩:=ob h;obtain⟨x,u,h⟩:=ob h;obtain⟨y,B,h⟩:=ob h;cases h;exact Lb (j.t o v) (kF (j.s o) u) (kF (j.s o) B)
 ·obtain⟨J,a,body,E,p,rfl,h⟩:=Je h;obtain⟨rfl,h⟩:=iJ h;obtain⟨⟨lv,c⟩,h⟩:=oi h;obtain⟨w,z,h⟩:=ob h;obtain⟨t,v,h⟩:=ob h;obtain⟨x,u,h⟩:=ob h;cases h;exact Lc (o.po lv) (o.calm `a) (j.w o z) (jQ o v) (Nh (kF (j.s o) u)) (wK c)
def yQ:jx:=λR g st=>OQ st λe c _=>if c.isNone=true then e.bind λe=>oo e λx h _=>nC h λa h=>if 2<=g.lv/\jh g x=true then(match g.T.lookup x with
 |some (.xc k)=>(cA (R.e g) (a::h)).bind λj=>some (dH k j)
 |_=>none) else none else none
set_option tactic.hygienic true in
def yP:SS yQ:=λ{y n R} v {g X} o {a z} h=>by
 replace h:=Gn h;obtain⟨e,c,_,rfl,h⟩:=h;replace h:=oi h;obtain⟨c,h⟩:=h;rw[Sn.mp c];replace h:=ob h;obtain⟨e,rfl,h⟩:=h;replace h:=gM h;obtain⟨x,q,u,p,rfl,h⟩:=h;replace h:=lj h;obtain⟨a,u,rfl,h⟩:=h
 ·obtain⟨⟨lv,c⟩,k⟩:=oi h;clear h;split at k
  ·next e=>
   obtain⟨B,j,k⟩:=ob k;cases k;obtain⟨d,ns⟩:=jR (v.e o) j;rw[RK,QD] at ns;obtain⟨C,h1,h2,h3,_⟩:=o.T.xc e;exact Gk _ ⟨C,h1,h2,h3⟩ (o.top lv).1 (d4 o c).1 (o.calm `a) d (d4 o c).2 ns.1 ns.2
  ·cases k
def HV:jx:=λR g st=>xx st λe _=>Eg e λa m d q=>if m="extend"/\nJ a=true/\q=true/\notStar d=true then(R.e g a).bind λx=>(R.e g d).bind λy=>some (qx x y) else none
def Fi:SS HV:=λ{F n R} j {g X} o {a H} h=>by
 replace h:=nF h;obtain⟨e,_,rfl,h⟩:=h;replace h:=uw h;obtain⟨a,m,q,d,p,rfl,h⟩:=h;replace h:=oi h;obtain⟨⟨rfl,u,v,z⟩,h⟩:=h;obtain⟨x,B,h⟩:=ob h;obtain⟨y,E,h⟩:=ob h;cases h;exact Ld (j.e o B) (j.e o E) (iZ u) v (bo z) rfl
section
variable{β:Type}{e:Expr}{st:Stmt}{r:β}
noncomputable def J3 (e:Expr)(k:List (Option Expr)->List Expr->Pos->Option β):Option β:=if h:e.ctorIdx=6 then @Expr.Dict.elim (λ_=>Option β) e h k else none
def G2 (h:J3 e k=some r):∃a b c,e=.Dict a b c/\k a b c=some r:=(od h).elim λz h=>@Expr.Dict.elim (λe=>∀z,@Expr.Dict.elim (λ_=>Option β) e z k=some r->∃a b c,e=.Dict a b c/\k a b c=some r) e z (λa b c _ h=>⟨a,b,c,rfl,h⟩) z h
noncomputable def N5 (e:Stmt)(k:Expr->List Stmt->List Stmt->Pos->Option β):Option β:=if h:e.ctorIdx=11 then @Stmt.While.elim (λ_=>Option β) e h k else none
def Ja (h:N5 st k=some r):∃a b c d,st=.While a b c d/\k a b c d=some r:=(od h).elim λz h=>@Stmt.While.elim (λe=>∀z,@Stmt.While.elim (λ_=>Option β) e z k=some r->∃a b c d,e=.While a b c d/\k a b c d=some r) st z (λa b c d _ h=>⟨a,b,c,d,rfl,h⟩) z h
noncomputable def Oc (e:Expr)(k:Expr->Expr->List SG->Scope->Pos->Option β):Option β:=if h:e.ctorIdx=10 then @Expr.DictComp.elim (λ_=>Option β) e h k else none
def J4 (h:Oc e k=some r):∃a b c d p,e=.DictComp a b c d p/\k a b c d p=some r:=(od h).elim λz h=>@Expr.DictComp.elim (λe=>∀z,@Expr.DictComp.elim (λ_=>Option β) e z k=some r->∃a b c d p,e=.DictComp a b c d p/\k a b c d p=some r) e z (λa b c d p _ h=>⟨a,b,c,d,p,rfl,h⟩) z h
end
def pY (o:fe fa n g X):iy fa:=⟨o.T.of,o.T.od.1,o.T.od.2⟩
def DR:dP:=λR g e=>mx e λa b p=>if g.tx p=true/\jd b=true/\0<g.lv then(R.e g a).bind λx=>(R.e g b).bind λy=>some (iN x y) else none
def Bx:SE DR:=λ{z n R} j {g X} o {a B} h=>by
 replace h:=gz h;obtain⟨a,b,p,rfl,h⟩:=h;replace h:=oi h;obtain⟨⟨_,c,lv⟩,h⟩:=h;obtain⟨x,u,h⟩:=ob h;obtain⟨y,v,h⟩:=ob h;cases h;exact Lw (o.rm lv) (pY o) (j.e o u) (j.e o v) (ja c)
noncomputable def isIn (q:CmpOp):Option Bool:=match q with
 |.In=>some false
 |.NotIn=>some true
 |_=>none
def Hb (h:isIn q=some n):q=if n then .NotIn else .In:=by
 cases q<;>first|(cases h;rfl)|cases h
def LC (R:Rc)(g:G)(e:Expr):Option GE:=J5 e λa h bs p=>n1 h λq=>n1 bs λb=>if g.tx p=true/\behindInMarks q b=false/\0<g.lv then(isIn q).bind λn=>(R.e g a).bind λx=>(R.e g b).bind λy=>some (mK n x y) else none
def HJ (j:iF fa n R)(o:fe fa n g X)(h:LC R g e=some ge):DE fa X e ge/\DT fa X e (ak ge):=by
 replace h:=qH h;obtain⟨a,z,bs,p,rfl,h⟩:=h;replace h:=cH h;obtain⟨q,rfl,h⟩:=h;replace h:=cH h;obtain⟨b,rfl,h⟩:=h;replace h:=oi h;obtain⟨⟨_,c,lv⟩,h⟩:=h;obtain⟨m,hm,h⟩:=ob h;obtain⟨x,u,h⟩:=ob h;obtain⟨y,v,h⟩:=ob h;cases h;have e:=Hb hm;subst e;exact{Nx m (o.rm lv) (pY o) (j.e o u) (j.e o v) c,K0 m (o.rm lv) (pY o) (j.e o u) (j.e o v) c}
def Ii:E7:=λR g e=>(LC R g e).bind λx=>some (ak x)
def Fw:ST Ii:=λ{v n R} u {g X} o {a y} h=>by
 obtain⟨x,j,h⟩:=ob h;cases h;exact(HJ u o j).2
def Dx:jx:=λR g st=>tY st λts d _=>n1 ts λt=>mx t λa b p=>if g.tx p=true/\jd b=true/\0<g.lv then(R.e g a).bind λx=>(R.e g b).bind λy=>(R.e g d).bind λz=>some (kY x y z) else none
def Bf:SS Dx:=λ{F n R} j {g X} o {a H} h=>by
 replace h:=kc h;obtain⟨ts,d,_,rfl,h⟩:=h;replace h:=cH h;obtain⟨t,rfl,h⟩:=h;replace h:=gz h;obtain⟨a,b,p2,rfl,h⟩:=h;replace h:=oi h;obtain⟨⟨_,c,lv⟩,h⟩:=h;obtain⟨x,u,h⟩:=ob h;obtain⟨y,B,h⟩:=ob h;obtain⟨z,E,h⟩:=ob h;cases h;refine I8 (o.rm lv) (pY o) (j.e o u) (j.e o B) (j.e o E) (λv=>?_) ?_ ?_
 ·cases b<;>first|rfl|cases c
 ·cases d<;>rfl
 ·cases d<;>rfl
def DQ:dP:=λR g e=>if g.tx e.pos=true then(cR R g "len" e).bind λq=>if notStar q.1=true then some (nS q.2) else none else none
def Bw:SE DQ:=λ{z n R} v {g X} o {a B} h=>by
 obtain⟨_,h⟩:=oi h;obtain⟨⟨b,y⟩,u,h⟩:=ob h;obtain⟨c,h⟩:=oi h;cases h;obtain⟨_,_,rfl,j,hm,_,d,hs⟩:=n5 v o u;exact Lv (pY o) j hm d c
def zd:dP:=λR g e=>Oc e λB E u h p=>n1 u λc=>nG c λz j v=>let own:=xE z
 n0 v (if wg g own h/\ku j=true then(R.w g z j).bind λw=>(cG (g.inC own h) z).bind λt=>(R.e (g.inC own h) B).bind λx=>(R.e (g.inC own h) E).bind λy=>if (slots t).all (· < own.length)=true then some (kB (if g.tx p=true then 78 else 77) own.length t w (jN x y)) else none else none)
def zc:SE zd:=λ{Q n R} u {g X} o {a U} h=>by
 replace h:=J4 h;obtain⟨W,vx,z,v,p,rfl,h⟩:=h;replace h:=cH h;obtain⟨c,rfl,h⟩:=h;replace h:=sP h;obtain⟨Y,B,P,rfl,h⟩:=h;replace h:=iJ h;obtain⟨rfl,h⟩:=h;replace h:=oi h;obtain⟨⟨c,F⟩,h⟩:=h;obtain⟨w,J,h⟩:=ob h;obtain⟨t,I,h⟩:=ob h;obtain⟨x,L,h⟩:=ob h;obtain⟨y,M,h⟩:=ob h;obtain⟨E,h⟩:=oi h;cases h;obtain⟨S,O⟩:=ym o c;exact HE (by split<;>simp) (pY o) S (o.calm c.1) (u.w o J) {λcl C j s H=>jQ (O cl C j s H) I,λcl C j s H a=>HA ((O cl C j s H).rm Nat.zero_lt_one) (pY o) (u.e (O cl C j s H) L) (u.e (O cl C j s H) M)} (by simpa using kM E) (wK F)
def yO:jx:=λR g st=>N5 st λc body h _=>n0 h (if g.lv=2 then(R.t g c).bind λt=>(ve (R.s g) body).bind λb=>some (i8 t b) else none)
def yN:SS yO:=λ{z n R} j {g X} o {a B} h=>by
 replace h:=Ja h;obtain⟨c,body,y,p,rfl,h⟩:=h;replace h:=iJ h;obtain⟨rfl,h⟩:=h;replace h:=oi h;obtain⟨lv,h⟩:=h;obtain⟨t,v,h⟩:=ob h;obtain⟨b,u,h⟩:=ob h;cases h;exact Gj (o.po lv) (j.t o v) (kF (j.s o) u)
def IB:dP:=λR g e=>(cR R g "any" e).bind λq=>if notStar q.1=true then some (qP q.2) else none
def FK:SE IB:=λ{z n R} v {g X} o {a B} h=>by
 obtain⟨⟨b,y⟩,u,h⟩:=ob h;obtain⟨c,h⟩:=oi h;cases h;obtain⟨_,_,rfl,j,hm,lv,d,hs⟩:=n5 v o u;exact NB (o.calm lv) j hm d c
def NZ:dP:=λR g e=>J3 e λks h p=>n1 ks λk=>k.bind λk=>n1 h λv=>if 0<g.lv then(R.e g k).bind λx=>(R.e g v).bind λy=>some (wI (if g.tx p=true then 78 else 77) x y) else none
def Iz:SE NZ:=λ{B n R} j {g X} o {a E} h=>by
 replace h:=G2 h;obtain⟨ks,F,p,rfl,h⟩:=h;replace h:=cH h;obtain⟨k,rfl,h⟩:=h;obtain⟨k,rfl,h⟩:=Ru.mp h;replace h:=cH h;obtain⟨v,rfl,h⟩:=h;replace h:=oi h;obtain⟨lv,h⟩:=h;obtain⟨x,u,h⟩:=ob h;obtain⟨y,z,h⟩:=ob h;cases h;exact HC _ (by split<;>simp) (o.rm lv) (pY o) (j.e o u) (j.e o z)
def Dz:jx:=λR g st=>xx st λe _=>Eg e λa m d q=>if m="append"/\nJ a=true/\q=true/\notStar d=true then(R.e g a).bind λx=>(R.x g d).bind λy=>some (kZ x y) else none
def Bi:SS Dz:=λ{F n R} j {g X} o {a H} h=>by
 replace h:=nF h;obtain⟨e,_,rfl,h⟩:=h;replace h:=uw h;obtain⟨a,m,q,d,p,rfl,h⟩:=h;replace h:=oi h;obtain⟨⟨rfl,u,v,z⟩,h⟩:=h;obtain⟨x,B,h⟩:=ob h;obtain⟨y,E,h⟩:=ob h;cases h;exact Hr (j.e o B) (j.x o E) (iZ u) v (bo z) rfl
def kJ (f:D->D->Mem->Option D)(a b:GE):GE:=λh M=>match a h M with
 | .ok x M=>(match b h M with
   |.ok y M=>bV M (f x y M)
   |_=>.bad)
 |.err x M=>.err x M
 |.bad=>.bad
def AO (x y:D)(M:Mem):Option D:=match x with
 |.fn o=>getD M o y
 |_=>none
section
variable{fa:Fa}{X:Cx}{a b:Expr}{ga gb:GE}{pos:Pos}{f:D->D->Mem->Option D}
def N3 {R:V->V->Hp->Prop}(U:bt fa X.K μ H σ Z)(hM:RelM fa X.K μ H M)(h:fB (kJ f ga gb Z M) (bb fa X.K μ H Q) (λx M'=>XW fa X μ H x Z M'))
 (k:∀x y d B v u z j,Ext μ H j z->RelM fa X.K j z B->Rep fa X.K j z x v->Rep fa X.K j z y u->f x y B=some d->bb fa X.K μ H Q d B->R v u z) :
 II fa X ga σ H λv S=>tE fa X.K gb σ S λu z=>R v u z:=by
 refine{μ,Z,M,U,hM,?_};unfold kJ at h;cases F:ga Z M with
 |bad=>rw[F] at h;exact h.elim
 |err y E=>rw[F] at h;exact h
 | ok x E=>
   rw[F] at h;dsimp only at h;intro v S P W L rx;refine{P,Z,E,U.ext W,L,?_};cases I:gb Z E with
   |bad=>rw[I] at h;exact h.elim
   |err y B=>rw[I] at h;exact h.elim
   | ok y B=>
     rw[I] at h;dsimp only at h;intro u z j Y O ry;cases J:f x y B with
     |none=>rw[J] at h;exact h.elim
     |some d=>rw[J] at h;exact k x y d B v u z j (W.trans Y) O (rx.ext Y) ry J h
def L7 (I:DX fa X a ga)(J:DE fa X b gb)(hs:gF b):DX fa X (.Subscript a b pos) (kJ bJ ga gb):=
 bC (pH EO I J hs) (by rintro S H Q ⟨P,R,M,E,F,h⟩;exact N3 E F h λx y d B v u O z L j r1 r2 e q=>{z,B,x,y,d,j,r1,r2,e,q.ext L})
def Ib (L:Rm X)(hd:iy fa)(I:DX fa X a ga)(J:DE fa X b gb)(hs:gF b):DX fa X (.Subscript a b pos) (kJ AO ga gb):=
 bC (pH (EM L hd) I J hs) λU H Q ⟨R,S,M,E,F,h⟩=>N3 E F h λx y d B v u P z O j r1 r2 e q=>by
  cases x with
  |fn o=>exact{z,B,o,y,d,j,r1,r2,e,bb.ext q O}
  |_=>cases e
end
def HZ:dP:=λR g e=>mx e λa b p=>if jd b=true/\0<g.lv then(R.x g a).bind λx=>(R.e g b).bind λy=>some (if g.tx p=true then kJ AO x y else kJ bJ x y) else none
def Fp:SX HZ:=λ{fa n R} j {g X} o {a ga} h=>by
 replace h:=gz h;obtain⟨a,b,p,rfl,h⟩:=h;replace h:=oi h;obtain⟨⟨c,lv⟩,h⟩:=h;obtain⟨x,u,h⟩:=ob h;obtain⟨y,v,h⟩:=ob h;cases h;split
 ·exact Ib (o.rm lv) (pY o) (j.x o u) (j.e o v) (ja c)
 ·exact L7 (j.x o u) (j.e o v) (ja c)
def qy (i:Nat)(a:GE):GS:=λh M=>match h[i]?.getD none with
 | some (.int x)=>(a h M).bind λy M=>(match y with
   |.int y=>.ok (.next (h.set i (some (.int (x+y))))) M
   |_=>.bad)
 |_=>.bad
def Lf {i:Nat}{x:Str}{e:Expr}{ge:GE}{p2 pos:Pos}(P:X.N.Nodup)(hi:X.N[i]?=some x)(R:Loc X.env.scope x)(he:DE fa X e ge)(hf:X.fn x=true\/X.env.scope.names.lookup x=some .local):DS fa X (.AugAssign (.Name x p2) .Add e pos) (qy i ge):=
 cX (Jy P hi R he Ku hf) λD Y H ⟨L,j,M,F,O,h⟩=>by
  obtain⟨a,E,y,z,e1,h⟩:∃a,j[i]?.getD none=some (.int a)/\∃y z,ge j M=.ok (.int y) z/\jV fa X L H D (.next (j.set i (some (.int (a+y))))) z:=by
   unfold qy at h;cases B:j[i]?.getD none with
   |none=>rw[B] at h;exact h.elim
   | some d=>
     rw[B] at h;cases d with
     | int a=>
       obtain⟨y,z,e1,h⟩:=aJ h;cases y with
       |int y=>exact⟨a,rfl,y,z,e1,h⟩
       |_=>exact h.elim
     |_=>exact h.elim
  have B:j[i]?=some (some (.int a)):=by
   cases q:j[i]? with
   |none=>rw[q] at E;cases E
   |some o=>rw[q] at E;exact congrArg some E
  obtain⟨v,Q,S⟩:=F.at' i _ B;obtain rfl:v=.int a:=S;refine{_,Q,L,j,M,F,O,?_};rw[e1];intro u W U J I r1;obtain rfl:u=.int y:=r1;exact{a,y,rfl,rfl,h _ _ _ J ((F.ext J).set (d:=.int (a+y)) rfl) I}
def Pu (to tl th:TE):TG:=λv h H Q=>to h H λo z=>tl h z λl B=>th h B λu j=>∃(p b:Addr) (xs y:List V) (a c:Int),o=.ref p/\v=.ref b/\l=.int a/\u=.int c/\j p=some (.lst xs)/\j b=some (.lst y)/\p≠b/\0<=a/\a<=c/\c<=xs.length/\xs.length+y.length<=sizeLine/\Q h (upd j p (.lst (xs.take a.toNat++y++xs.drop c.toNat)))
def JB {o lo hi:Expr}{to tl th:TE}{p2 pos:Pos}(ho:PE X o to)(hl:PE X lo tl)(hh:PE X hi th)
 (Y:∀v,assign (.Subscript o (.Slice (some lo) (some hi) none p2) pos) X.env v=(do
  let y <- holding [v] (eval o X.env)
  let E <- holding [v,y] (eval (.Slice (some lo) (some hi) none p2) X.env)
  standAt pos
  holding [v,y,E] (setItem y E v)
  release [E,v,y] [])):PG X (.Subscript o (.Slice (some lo) (some hi) none p2) pos) (Pu to tl th):=by
 intro j s z H v u Q I r h;rw[Y];refine tqa (tqo (aP (ho j s z H _ I h) λy s1 ⟨x,J,P,r1,q1⟩=>?_));refine tqa (tqo (wpAny_Slice ?_));rw[evalPart_some];refine aP (hl j s1 z J _ P q1) ?_;rintro vl s2 ⟨l,L,R,r2,q2⟩;rw[evalPart_some];refine aP (hh j s2 z L _ R q2) ?_;rintro vh F ⟨w,M,S,r3,q3⟩;rw[evalPart_none];refine tqb ?_;obtain⟨p,b,xs,ys,a,c,rfl,rfl,rfl,rfl,e1,e2,ne,W,B,hc,hz,q⟩:=q3;have U:Inv X j z M {F with heap:=F.heap.push {cls:=.type "slice",data:=.fields #[vl,vh,.none]}}:=S.kept (t':=F.toks) λb ob q=>Qu _ q
 cases r1;cases r;refine tqa (wpAny_standAt (tqa (tqo (zJ U e1 e2 ne (Heap.IsSliceOf.new ..) r2 r3 W B hc hz λs' O=>?_))));exact wpAny_release {z,_,O,q}
noncomputable def mT:D->Nat->Bool
 |.cell q,k=>q==k
 |_,_=>false
def AY {fa:Fa}{K:Qs}{μ:Mu}{H:Hp}{M:Mem}{z:D}{es:List D}{k:Nat}{p b:Addr}(h:RelM fa K μ H M)(hz:Rep fa K μ H z (.ref b))(hk:μ.pub k=some p)(c:mT z k=false)(e:fG M z=some es):p≠b:=by
 cases z with
 | lst u=>
   obtain⟨a,v,e1,s,_⟩:=hz;cases e1;exact λe=>s.2 (e ▸ .inl ⟨k,hk⟩)
 | cell q=>
   obtain⟨a,e1,j⟩:=hz;cases e1;intro e;subst e;rw[h.inj _ _ _ j hk] at c;exact absurd (show(k==k)=false from c) `s
 |_=>cases e
def tW (a lo hi d:GE):GS:=λu M=>(d u M).bind λz M=>(a u M).bind λx M=>(lo u M).bind λl M=>(hi u M).bind λh M=>match x,l,h with
 | .cell k,.int i,.int j=>(match M[k]?,fG M z with
   |some v,some y=>if mT z k=false/\0<=i/\i<=j/\j<=v.length/\v.length+y.length<=sz then .ok (.next u) (M.set k (v.take i.toNat++y++v.drop j.toNat)) else .bad
   |_,_=>.bad)
 |_,_,_=>.bad
set_option tactic.hygienic true in
def K8 {a lo hi d:Expr}{ga gl gh gd:GE}{p2 B pos:Pos}(ha:DE fa X a ga)(hl:DE fa X lo gl)(hh:DE fa X hi gh)(hd:DE fa X d gd)
 (h0:∀v,assign (.Subscript a (.Slice (some lo) (some hi) none p2) B) X.env v=(do
  let P <- holding [v] (eval a X.env)
  let iv <- holding [v,P] (eval (.Slice (some lo) (some hi) none p2) X.env)
  standAt B
  holding [v,P,iv] (setItem P iv v)
  release [iv,v,P] [])) (hs:swapsWithSole [.Subscript a (.Slice (some lo) (some hi) none p2) B] d pos.line X.env=pure false) (hw:swappedStores [.Subscript a (.Slice (some lo) (some hi) none p2) B] d X.env=pure none)
 (h1:(assignEach [.Subscript a (.Slice (some lo) (some hi) none p2) B] X.env).map (·.2)=[assign (.Subscript a (.Slice (some lo) (some hi) none p2) B) X.env]) :
 DS fa X (.Assign [.Subscript a (.Slice (some lo) (some hi) none p2) B] d pos) (tW ga gl gh gd):=
 cX (mw hd (JB ha hl hh h0) hs hw h1) λD' σ H ⟨μ,Z,M,hE,hM,h⟩=>t1 hE hM h λz M1 vz H1 μ1 x1 Q U rz h1=>t1 Q U h1 λx M2 vx H2 μ2 x2 R W rx h2=>t2 R W h2 λl h J vl vh H3 μ3 x3 S u rl rh h3=>by
  obtain⟨I,k,i,j,y,rfl,rfl,rfl,L,cz,F,c0,c1,c2,c3,q⟩:∃I k i j y,x=.cell k/\l=.int i/\h=.int j/\fG J z=some I/\mT z k=false/\J[k]?=some y/\0<=i/\i<=j/\j<=y.length/\y.length+I.length<=sz/\jV fa X μ H D' (.next Z) (J.set k (y.take i.toNat++I++y.drop j.toNat)):=by
   cases x with
   | cell k=>
     cases l with
     | int i=>
       cases h with
       | int j=>
         dsimp only at h3;cases F:J[k]? with
         |none=>rw[F] at h3;exact h3.elim
         | some y=>
           cases L:fG J z with
           |none=>rw[F,L] at h3;exact h3.elim
           | some I=>
             rw[F,L] at h3;dsimp only at h3;split at h3
             ·next c=>exact⟨I,k,i,j,y,rfl,rfl,rfl,rfl,c.1,F,c.2.1,c.2.2.1,c.2.2.2.1,c.2.2.2.2,h3⟩
             ·exact h3.elim
       |_=>exact h3.elim
     |_=>exact h3.elim
   |_=>exact h3.elim
  obtain⟨p,rfl,hk⟩:=rx.ext x3;have O:=(rz.ext x2).ext x3;obtain⟨b,ys,rfl,hb,ry⟩:=hU u O L;obtain⟨xs,Y,E⟩:=u.at_ F hk;have lx:=E.length;have ly:=ry.length;refine{p,b,xs,ys,i,j,rfl,rfl,rl,rh,Y,hb,AY u O hk cz L,c0,c1,by rw[lx];exact c2,by rw[lx,ly,<- dz];exact c3,?_}
  exact ig S u hk (((E.take i.toNat).append ry).append (E.drop j.toNat)) λσ' H' μ' x' e' m'=>q σ' H' μ' (((x1.trans x2).trans x3).trans x') e' m'
noncomputable def C1 (h:Addr):Obj:={cls:=.type "enumerate",data:=.fields #[.none,.bool false,.ref h,rawInt 1,.none,.none]}
set_option tactic.hygienic true in
def Am (l:Addr)(us:Array Qw)(n:Nat)(dct:Option Addr)(sl:Array (Option Qw))(t:Tok) :
 Meets (Builtin.«enumerate.__new__» {[.type "enumerate",.ref l],[("start",.int 1 t)]}) (λ_ R s=>s.heap.get? l=some {.type "list",dct,.seq us n,sl}/\
  R (.ok (.ret (.ref (s.heap.push (d3 true l)).objs.size))) {s with heap:=(s.heap.push (d3 true l)).push (C1 s.heap.objs.size)}):=
 .of_wp λprog w A R s h=>by
  obtain⟨v,g,d,tk,os⟩:=s;obtain⟨j,h⟩:=h;have q:=sub_enumerate;have u:Heap.IsList (Shared.heap ⟨v,g,d,tk,os⟩) l us:={_,j,rfl,n,rfl};wp_walk using Sa j
  refine wpAny_stack_any λ_=>tqb ?_;split
  ·rename_i c _ _ _ _ _;cases (c==Value.type "enumerate")<;>
   ·wp_walk using Sa j,wpAny_pyIter_list u
    exact{_,rfl,h}
  ·wp_walk using Sa j,wpAny_pyIter_list u
   exact{_,rfl,h}
section
variable{prog:Rj}{w:Q8}{A:R6}{E:Qw->QA->Prop}{s:QA}
def Mb {T y:String}{B:Builtin}{u:List Qw}{v:List (Str×Qw)}{S:PySem.Spec}{Q:Qw->QA->Prop}(j:TypeCalled T y "object.__init__")(J:checkTypeCall T ⟨u,v⟩=pure ())(z:checkBuiltinCall y {.type T::u,v}=pure ())(en:entryFor table y=some B)
 (I:∀o,argsOk "object.__init__" {o::u,v}) (hi:∀o s1,s1.TypeIs o T->∀(A:R6) (Q:Fin->QA->Prop) E,Q (.done (.ret .none)) s1->wpAny (model prog w) A (Builtin.«object.__init__» {o::u,v}) Q E s1) (g:Meets (B {.type T::u,v}) S)
 (h:S A.in1 (wants (λo s1=>s1.TypeIs o T/\Q o s1) E) s):wpAny (model prog w) A (call (.type T) u v) Q E s:=by
 have⟨c,tl,L⟩:=j.mro;have e1:=j.made;have e2:=j.sub;have M:=j.notType;have O:=j.canCreate;refine wpAny_call (codeAny_of_tree (show wpAny _ _ (callAny (.type T) _) _ _ _ from tqb {Code.quiet_builtin _ `k,codeAny_builtin F.entry_type_call ?_}))
 rw[Around.under_plain (weight_type_call_type T u v) (units_type_call_type T u v)]
 repeat (any_goals (first|assumption|wp_step))
 refine codeAny_mono (codeAny_call_builtin j.plain en (wpAny_of_eq z (g prog w A.in1 _ s h))) λr s1 hr=>?_;cases r with
 |error e=>exact hr
 | ok fl=>
   cases fl with
   | ret o=>
     have W:=hr.1;have P:=j.init.lookup;have U:=j.init.bind o
     repeat (any_goals (first|assumption|wp_step))
     refine codeAny_mono (codeAny_call_builtin (R:=wants (λr s2=>r=.none/\s2=s1) λ_ _=>False) j.init.plain F.entry_object_init (j.init.check _ _ _ _ _ _ _ _ hr.1 (I o) (hi o s1 hr.1 _ _ _ ⟨rfl,rfl⟩))) λr2 s2 h2=>?_;cases r2 with
     |error e=>exact h2.elim
     | ok H=>
       cases H with
       | ret r=>
         obtain⟨rfl,rfl⟩:=h2;have Y:=hr.2
         repeat (any_goals (first|assumption|wp_step))
       |_=>exact h2.elim
   |_=>exact hr.elim
def Dd {t:Tok}(v:b5 true s.heap l us)
 (h:∀j,IsEnum j (s.heap.objs.size+1) s.heap.objs.size 1 .none->eP true j s.heap.objs.size l 0->(∀c o,s.heap.get? c=some o->j.get? c=some o)->Q (.ref (s.heap.objs.size+1)) {s with heap:=j}):wpAny (model prog w) A (call (.type "enumerate") [.ref l] [("start",.int 1 t)]) Q E s:=by
 obtain⟨⟨c,dct,B,sl⟩,z,y,n,hd⟩:=v;cases y;cases hd;refine Mb F.called_enumerate (by kernel_rfl) (by kernel_rfl) F.entry_enumerate_new (λo=>?_) (λo s1 J A Q E L=>?_) (Am l us n dct sl t) {z,?_}
 ·unfold argsOk;kernel_rfl
 ·have H:=F.called_enumerate.init.lookup;have I:=F.called_enumerate.made
  repeat (any_goals (first|assumption|wp_step))
 have u:(s.heap.push (d3 true l)).objs.size=s.heap.objs.size+1:=Se ..;rw[u];have he:IsEnum ((s.heap.push (d3 true l)).push (C1 s.heap.objs.size)) (s.heap.objs.size+1) s.heap.objs.size 1 .none:=by
  have:=QY (s.heap.push (d3 true l)) (o:=C1 s.heap.objs.size) rfl;rw[u] at this;exact this
 exact{{_,he,rfl},h _ he (eP.new (Qu _ (QY _ rfl))) λc o x=>Qu _ (Qu _ x)}
end
def NF {u:Model}{A:R6}{E:Qw->QA->Prop}{s:QA}{env:RY}{pos:Pos}{T:String}{e:Expr}{j:List Keyword}{Q:Qw->QA->Prop}
 (h:wpAny u A (PySem.spliced (backTo pos (starEach [e] env))) (λvs s1=>wpAny u A (PySem.evalAll ((backToKw pos (keywordEach j env)).map (·.2))) (λus s2=>wpAny u A (PySem.call (.type T) vs (((backToKw pos (keywordEach j env)).filterMap (·.1)).zip us)) Q E s2) E s1) E s)
 (hs:starEach [e] env=[(false,eval e env)]) (v:(backToKw pos (keywordEach j env)).all (·.1.isSome)=true) (y:(backToKw pos (keywordEach j env)).any (·.1.isNone)=false) :
 wpAny u A (callWith pos (.type T) [] (backTo pos (starEach [e] env)) (backToKw pos (keywordEach j env))) Q E s:=by
 rw[hs] at h ⊢;unfold callWith;refine tqa (tqo (wpAny_mono (evalArgs_kwB (f:=.type T) (x:=eval e env) (rest:=[]) (Q:=λa s1=>wpAny u A (PySem.call (.type T) a.pos a.kw) Q E s1) v h) (λa s1 h1=>tqa (wpAny_standAt ?_)) λ_ _ x=>x));simp only[show(backTo pos [(false,eval e env)]).any (·.1)=false from rfl,y,Bool.or_false];exact tqa (tqb (tqa (wpAny_mono h1 (λr s2 hr=>tqa (tqo (wpAny_point (tqb hr)))) λ_ _ x=>x)))
section
variable{fa:Fa}{X:Cx}{a:Expr}{ga:Env->Mem->Res D}{pos p kp cp:Pos}{ci:Nat}
def uT (ga:Env->Mem->Res D):Env->Mem->Res Walk:=λh M=>(ga h M).bind λx M=>if da x=true/\fC x=true then .ok (λM=>(bT M x).map (eF 1)) M else .bad
def Ln {F:List Expr}(ha:DE fa X a ga)(hg:Gl X "enumerate")(hm:X.mg "enumerate"=none)(hs:starEach [a] X.env=[(false,eval a X.env)]):DI fa X (.Tuple F kk tp) (.Call (.Name "enumerate" p) [a] [{some "start",.Constant (.int 1) ci cp,kp}] pos) (uT ga):=by
 rintro u s σ H R I ⟨μ,Z,M,hE,hM,h⟩;obtain⟨x,M1,e,q⟩:=aJ h;by_cases J:da x=true/\fC x=true
 case neg=>rw[if_neg J] at q;exact q.elim
 rw[if_pos J] at q;have hA:=cS ha eD hs pos u s σ H (λY y=>∃v j,Y=[v]/\Ext μ H j y/\RelM fa X.K j y M1/\Rep fa X.K j y x v) I {μ,Z,M,hE,hM,by rw[e];exact λv y j U Q r1=>⟨v,j,rfl,U,Q,r1⟩}
 refine wpAny_Call_Name_kw (gP I hg hm boot_enumerate ?_);refine NF (aP hA λus s1 ⟨Y,y,I1,r1,v,j,ev,U,Q,W⟩=>?_) hs rfl rfl;subst ev;cases r1 with
 | cons r1 rr=>
   cases rr;refine kws_cons (aP (uc u s1 σ y (λv' L=>v'=.int 1/\L=y) I1 ⟨rfl,rfl⟩) λnv s2 ⟨nx,L,O,r2,en,eh⟩=>kws_nil ?_);subst en eh;obtain⟨t,rfl⟩:=r2;obtain⟨ad,its,rfl,p1⟩:=kT O Q W J.1;obtain rfl:=r1;have B:=p1.lt;rw[J.2] at p1;refine Dd p1 λh1 he S hk=>?_;have I3:=O.kept (t':=s2.toks) hk;refine wpAny_pyIter_enum he ?_;refine{s2.heap.objs.size+1,[s2.heap.objs.size+1,s2.heap.objs.size],_,_,L,rfl,I3,rA (fC x) ad s2.heap.objs.size (s2.heap.objs.size+1) 1 (Nat.succ_ne_self _) (Q6 B) (Ry (SN B)),{{.none,he},J.2 ▸ S},λb P=>?_,q _ L j U Q (rj W)};have P:s2.heap.objs.size<=b:=by
    rcases Q9.mp P with z|z
    ·subst z;exact S2 _
    ·have e:b=s2.heap.objs.size:=by simpa using z
     subst e;exact Qy _
   exact O.fpOk P (O.hok.fresh P)
end
variable{β:Type}{r:β}
noncomputable def N6 (e:Stmt)(k:Expr->Operator->Expr->Pos->Option β):Option β:=if h:e.ctorIdx=7 then @Stmt.AugAssign.elim (λ_=>Option β) e h k else none
def Jf {st:Stmt}{k:Expr->Operator->Expr->Pos->Option β}(h:N6 st k=some r):∃a b c d,st=.AugAssign a b c d/\k a b c d=some r:=(od h).elim λz h=>@Stmt.AugAssign.elim (λe=>∀z,@Stmt.AugAssign.elim (λ_=>Option β) e z k=some r->∃a b c d,e=.AugAssign a b c d/\k a b c d=some r) st z (λa b c d _ h=>⟨a,b,c,d,rfl,h⟩) z h
def HW:jx:=λR g st=>N6 st λt h a _=>nName t λx _=>if h=.Add then(lx g x).bind λi=>(R.e g a).bind λy=>some (qy i y) else none
def Fm:SS HW:=λ{fa n R} v {g X} o {a ga} h=>by
 obtain⟨t,z,a,p,rfl,h⟩:=Jf h;obtain⟨x,q,rfl,h⟩:=cF h;obtain⟨rfl,h⟩:=oi h;obtain⟨i,j,h⟩:=ob h;obtain⟨y,u,h⟩:=ob h;cases h;obtain⟨h1,h2,h3⟩:=sQ o j;exact Lf (o.N ▸ o.nd) h1 h2 (v.e o u) h3
def HR:jx:=λR g st=>tY st λts d _=>n1 ts λt=>mx t λa b _=>Ct b λlo h st _=>if st.isNone=true then lo.bind λlo=>h.bind λh=>(R.e g a).bind λx=>(R.e g lo).bind λy=>(R.e g h).bind λz=>(R.e g d).bind λw=>some (tW x y z w) else none
def Ff:SS HR:=λ{fa n R} j {g X} o {a ga} h=>by
 obtain⟨ts,d,J,rfl,h⟩:=kc h;obtain⟨t,rfl,h⟩:=cH h;obtain⟨a,b,p,rfl,h⟩:=gz h;obtain⟨lo,u,st,p2,rfl,h⟩:=qG h;obtain⟨c,h⟩:=oi h;cases lo with
 |none=>cases h
 |some lo=>
 cases u with
 |none=>cases h
 |some u=>
 cases st with
 |some s=>cases c
 |none=>
 obtain⟨x,F,h⟩:=ob (show Option.bind _ _=_ from h);obtain⟨y,H,h⟩:=ob h;obtain⟨z,I,h⟩:=ob h;obtain⟨w,B,h⟩:=ob h;cases h;exact K8 (j.e o F) (j.e o H) (j.e o I) (j.e o B) (λv=>rfl) (by cases d<;>rfl) (by cases d<;>rfl) rfl
def Ih:vD:=λR g t e=>qF t λ_ _ _=>xN e λh j ks _=>nName h λx _=>n1 j λa=>n1 ks λk=>xM k.value λc _ _=>if x="enumerate"/\jh g x=true/\(match g.T.lookup x with|some .bl=>true|_=>false)=true/\0<g.lv/\notStar a=true/\k.arg=some ("start":Str)/\c=.int 1 then(R.e g a).bind λy=>some (uT y) else none
def Fu:SW Ih:=λ{fa n R} F {g X} o {t a ga} h=>by
 obtain⟨_,_,_,rfl,h⟩:=gy h;obtain⟨hd,H,ks,p,rfl,h⟩:=oO h;obtain⟨x,q,rfl,h⟩:=cF h;obtain⟨a,rfl,h⟩:=cH h;obtain⟨⟨I,J,kp⟩,rfl,h⟩:=cH h;obtain⟨c,i,cp,rfl,h⟩:=nM h;obtain⟨⟨e1,u,v,lv,z,e2,j⟩,h⟩:=oi h;obtain⟨y,B,h⟩:=ob h;cases h;dsimp only at e2 j;subst e1 e2 j;exact Ln (F.e o B) (d4 o u).1 (o.T.bl (lM v)) (bo z)
end LD
namespace LD
open PySem PySem.Spec PyProof.Rows L2
noncomputable def minD:List D->Mem->Res D
 |[.int a,.int b],M=>.ok (.int (if b<a then b else a)) M
 |_,_=>.bad
def sT (s:GA):GE:=λj M=>(s j M).bind λh M=>minD h M
section
variable{fa:Fa}{X:Cx}{a:Expr}{es:List Expr}{gs:GA}{p pos:Pos}
set_option tactic.hygienic true in
def KH (B:X.calm=true):cf X (.builtin "min") (λvs H Q=>∃μ M ds,RelM fa X.K μ H M/\aG fa X.K μ H ds vs/\ae (minD ds M) (bb fa X.K μ H Q)):=by
 intro y s S H xs R Q I r h;obtain⟨μ,M,ds,z,J,h⟩:=h;unfold minD at h;split at h
 ·next i j=>
  obtain⟨L,r1,rfl,h1,O,r2,rfl,h3,h4⟩:=J;obtain rfl:r2=[]:=h4;obtain rfl:L=.int i:=h1;obtain rfl:O=.int j:=h3;cases r with
  | cons E v=>
    cases v with
    | cons v F=>
      cases F;obtain⟨t,rfl⟩:=E;obtain⟨u,rfl⟩:=v;refine min_two_ints (I.ok.hd B) λP tk hk=>?_;refine{.int (if j<i then j else i),H,I.kept hk,?_,aR z h rfl};split
      ·exact⟨u,rfl⟩
      ·exact⟨t,rfl⟩
 ·exact h.elim
end
def DL:dP:=λR g e=>(cB "min" R g e).bind λq=>some (sT q.2)
def Bt:SE DL:=λ{fa n R} J {g X} o {a S} h=>by
 obtain⟨⟨P,gs⟩,I,h⟩:=ob h;cases h;obtain⟨_,_,_,_,_,rfl,F,hm,lv,d,n1,n2⟩:=lL J o I;exact bC (hV (KH (o.calm lv)) F hm `k d `d `d (bo n1) (cZ n2)) (by rintro σ H Q ⟨W,Y,M,z,E,h⟩;exact rD z E h λy v U O u L B j r1 h1=>{u,v,y,j,r1,jb h1 L})
structure Ent where
 i:Nat
 x:Str
 st:Stmt
 ps:Nat
 N:List Str
 f:Addr
 pm:Str×Tok
 b:Call->GS
 r:Bool:=false
 q:Option Str:=none
 df:Addr:=0
noncomputable def Ent.qn (e:Ent):Str:=e.q.getD e.x
structure nh where
 T:List (Str×En)
 tw:List (Str×Str×Nat×Nat)
 xf:List Str
 dl:List (Str×List (Str×Nat))
 il:List (Str×Nat)
 cel:List (Nat×Nat×Nat)
 txt:List (Nat×Nat×Nat)
 ms:List (Str×Nat×Nat)
 rs:Rs
 tb:List Ent
def nh.g (t:nh)(e:Ent)(c:Call):G:={t.T,t.tw,t.xf,t.cel,t.txt,t.ms,c,e.N,bg e.st,2,[]}
noncomputable def nh.Pg (t:nh)(i:Nat):Option Df:=(t.tb.find? (·.i==i)).map λe=>⟨e.ps,e.N.length,e.b⟩
def nh.rd (t:nh)(c:Call)(e:Ent):Option GS:=ve ((It t.rs 60).s (t.g e c)) (c5 e.st)
def C0 (e:Ent):Bool:=decide ((bg e.st).kind=.function)&&!(bg e.st).isCoroutine&&!(bg e.st).isGenerator&&decide e.N.Nodup&&((e.N.take e.ps).length==e.ps)&&((e.N.take e.ps).all λx=>(bg e.st).names.lookup x==some .local||(bg e.st).names.lookup x==some .cell)&&((bg e.st).names.all (·.2 != .free))
def pX (h:C0 e=true):i5 e.N (e.N.take e.ps) (bg e.st)/\(e.N.take e.ps).length=e.ps:=by
 unfold C0 at h;simp only[QD,decide_eq_true_eq,Bool.not_eq_true',QV,Sr,beq_iff_eq,bne_iff_ne] at h;obtain⟨⟨⟨⟨⟨⟨h1,h2⟩,h3⟩,h4⟩,j⟩,u⟩,v⟩:=h;exact{{h1,h2,h3,h4,by rw[j],u,v},j}
noncomputable def Ent.dV (e:Ent):Qw:=if e.df=0 then .none else .ref e.df
def KQ (e:Ent):Option Obj:=some {.type "function",none,.func (PySem.W.fnOf e.x e.qn (fx e.st) (c5 e.st) (bg e.st) e.dV .none .none (.str e.pm.1 e.pm.2) none (.ref (e.f-1)) .none),#[]}
def mz {j u:Type}{f g:j->u}{l:List j}(h:l.map f=l.map g){a:j}(m:a∈l):f a=g a:=List.map_inj_left.mp h a m
def oZ (e:Ent)(us:List Qw)(kV j pm:Qw)(u:Option Addr)(h ct:Qw):Sem (List (Str×Qw)):=bindArgs (PySem.W.fnOf e.x e.qn (fx e.st) (c5 e.st) (bg e.st) e.dV kV j pm u h ct) {us,[]}
def nq (tb:List Ent)(k:Nat)(us:List Qw):Prop:=∀(kV j pm:Qw) (u:Option Addr) (h ct:Qw),(tb.filter λe=>e.ps==k&&e.df==0).map (λe=>oZ e us kV j pm u h ct)=(tb.filter λe=>e.ps==k&&e.df==0).map λe=>pure ((e.N.take e.ps).zip us)
structure yE (t:nh):Prop where
 rs:Dp t.rs
 rd:∀c,t.tb.map (t.rd c)=t.tb.map λe=>some (e.b c)
 sc:t.tb.all C0=true
 ar:t.tb.all (λe=>e.ps==0||e.ps==1||e.ps==2||e.ps==3||e.ps==4||e.ps==6||e.ps==5)=true
 a0:nq t.tb 0 []
 a1:∀a,nq t.tb 1 [a]
 a2:∀a b,nq t.tb 2 [a,b]
 a3:∀a b c,nq t.tb 3 [a,b,c]
 a4:∀a b c d,nq t.tb 4 [a,b,c,d]
 a6:∀a b c d e f,nq t.tb 6 [a,b,c,d,e,f]
 a5:∀a b c d e,nq t.tb 5 [a,b,c,d,e]
 ad:AllP (λe=>e.ps=2/\∀(a b kV doc pm:Qw) (an:Option Addr) (cdv ct:Qw),∃k k1,oZ e [a,b] kV doc pm an cdv ct=seqItems? (.ref e.df) >>= k/\k (some #[.none])=pure ((e.N.take e.ps).zip [a,b])/\oZ e [a] kV doc pm an cdv ct=seqItems? (.ref e.df) >>= k1/\k1 (some #[.none])=pure ((e.N.take e.ps).zip [a,.none])) (t.tb.filter λe=>!(e.df==0))
structure Bd (K:Qs) (tb:List Ent):Prop where
 ns:(tb.filter (·.q.isNone)).map (λe=>PySem.W.nsIn K mainGlobals e.x)=(tb.filter (·.q.isNone)).map λe=>some (some (.ref e.f))
 lk:tb.map (λe=>K.lookup e.f)=tb.map KQ
 dk:tb.all (λe=>e.df==0||(match K.lookup e.df with|some {_,_,.seq its _,_}=>its==#[.none]|_=>false))=true
 ck:tb.all (λe=>PySem.W.codeIn K (.ref (e.f-1)) e.qn&&PySem.W.keepIn K (.ref e.f))=true
def IG {K:Qs}{tb:List Ent}(k:Bd K tb)(m:e∈tb):yJ K e.x e.qn e.st e.f (PySem.W.fnOf e.x e.qn (fx e.st) (c5 e.st) (bg e.st) e.dV .none .none (.str e.pm.1 e.pm.2) none (.ref (e.f-1)) .none):=by
 have c:=QV.mp k.ck e m;rw[QD] at c;exact{{_,_,_,_,_,_,_,_,_,_,rfl,mz k.lk m,c.1},c.2}
def FQ {K:Qs}{h:Heap}(k:Bd K tb)(X:K.In h)(G:h.Ns mainGlobals mg)(m:e∈tb)(u:e.q.isNone=true)(hd:e.df=0):mg e.x=some (.ref e.f)/\∃j,xa K e.x e.qn e.st e.f j:=by
 have c:=QV.mp k.ck e m;rw[QD] at c;have l:=mz k.lk m;unfold KQ Ent.dV at l;rw[if_pos hd] at l;exact{R5 X G (mz k.ns (So.mpr ⟨m,u⟩)),_,Kz l c.1 c.2}
def us6 {j:Type}{p:List j->Prop}(h:∀a b c d e f,p [a,b,c,d,e,f]):∀(us:List j) (hl:us.length=6),p us
 |[a,b,c,d,e,f],_=>h a b c d e f
def us5 {j:Type}{p:List j->Prop}(h:∀a b c d e,p [a,b,c,d,e]):∀(us:List j) (hl:us.length=5),p us
 |[a,b,c,d,e],_=>h a b c d e
def BK {t:nh}(T:yE t){e:Ent}(m:e∈t.tb)(H:e.df=0)(kV B pm:Qw)(E:Option Addr)(j ct:Qw):∀us:List Qw,us.length=(e.N.take e.ps).length->oZ e us kV B pm E j ct=pure ((e.N.take e.ps).zip us):=by
 have hl:=(pX (QV.mp T.sc e m)).2;have a:=QV.mp T.ar e m;have f:∀{k:Nat}{us:List Qw},e.ps=k->nq t.tb k us->oZ e us kV B pm E j ct=pure ((e.N.take e.ps).zip us):=λ{k us} hk F=>mz (F kV B pm E j ct) (So.mpr {m,by rw[hk,H];simp})
 rw[hl];simp only[Sr,beq_iff_eq] at a;rcases a with(((((a|a)|a)|a)|a)|a)|a
 ·rw[a];exact λus h=>by rw[Sz.mp h];exact a ▸ f a T.a0
 ·rw[a];exact us1 λx=>a ▸ f a (T.a1 x)
 ·rw[a];exact us2 λx y=>a ▸ f a (T.a2 x y)
 ·rw[a];exact us3 λx y z=>a ▸ f a (T.a3 x y z)
 ·rw[a];exact us4 λx y z u=>a ▸ f a (T.a4 x y z u)
 ·rw[a];exact us6 λx y z u v w=>a ▸ f a (T.a6 x y z u v w)
 ·rw[a];exact us5 λx y z u v=>a ▸ f a (T.a5 x y z u v)
section
variable{fa:Fa}{P:Rj}{w:Q8}{K:Qs}{mg:Str->Option Qw}{base:Heap}{t:nh}
def tv (T:yE t)(TO:E6 fa P w K mg base t.T)(tw:∀q∈t.tw,E5 fa K mg q.1 q.2.1 q.2.2.1 q.2.2.2)(xf:∀f∈t.xf,E3 fa K f)(ms:∀q∈t.ms,qo fa K q.1 q.2.1 q.2.2){e:Ent}(m:e∈t.tb){ad:Addr}(call:Call)(n:Nat)(j:Qw)(A:R6)(outer:List RY)(s:QA)(H:Hp)(E:XK)
 (C:∀f,g6 fa P w K mg base n f (call f)) (hr:du (2*n+5) (A.deeper (envOfC e.qn (bg e.st) s.heap.objs.size ad j))):nk fa (gx (iG P w) P w K mg base e.N e.qn (bg e.st) ad j A outer s H E) (c5 e.st) (e.b call):=by
 have S:=(pX (QV.mp T.sc e m)).1;exact kF ((Fb T.rs 60).s (g:=t.g e call) (X:=gx (iG P w) P w K mg base e.N e.qn (bg e.st) ad j A outer s H E) {rfl,S.nd,rfl,TO,tw,xf,ms,λ_ _=>rfl,(λ_ h=>nomatch h),λ_=>rfl,λ_=>C,λ_=>hr,λ_=>⟨rfl,rfl,rfl,S.kind⟩,λ_=>PassesOwn.leaving}) (mz (T.rd call) m)
set_option tactic.hygienic true in
def zj (k:Bd K tb)(m:en∈tb)(h:en.df≠0)(X:K.In s.heap)(e1:oZ en us .none .none (.str en.pm.1 en.pm.2) none (.ref (en.f-1)) .none=seqItems? (.ref en.df) >>= kk)(e2:kk (some #[.none])=pure out) :
 BindsTo s (PySem.W.fnOf en.x en.qn (fx en.st) (c5 en.st) (bg en.st) en.dV .none .none (.str en.pm.1 en.pm.2) none (.ref (en.f-1)) .none) {us,[]} out:=by
 have dk:=QV.mp k.dk en m;rw[Sr] at dk;rcases dk with dk|dk
 ·exact absurd (eq_of_beq dk) h
 split at dk
 ·next lk=>
  have q:=eq_of_beq dk;subst q;exact BindsTo.of_defaults (by show en.dV=_;unfold Ent.dV;rw[if_neg h]) (X _ _ lk) rfl (by show oZ en us _ _ _ _ _ _=seqItems? en.dV >>= _;unfold Ent.dV;rw[if_neg h];exact e1) e2
 ·cases dk
def BJ (T:yE t)(k:Bd K t.tb)(X:K.In h)(G:h.Ns mainGlobals mg)(TO:E6 fa P w K mg base t.T)(tw:∀q∈t.tw,E5 fa K mg q.1 q.2.1 q.2.2.1 q.2.2.2)(xf:∀f∈t.xf,E3 fa K f)(ms:∀q∈t.ms,qo fa K q.1 q.2.1 q.2.2)(hf:t.tb.all (λe=>fa e.i==some e.f&&(!(fa (500+e.i)).isSome||!(e.df==0)))=true) :
 ∀f d,t.Pg f=some d->yL fa P w K mg base f d:=by
 intro f d e;obtain⟨en,he,rfl⟩:=QP.mp e;have m:=List.mem_of_find?_eq_some he;have J:en.i=f:=by have:=List.find?_some he;simpa using this
 have F:=IG k m;obtain⟨S,hl⟩:=pX (QV.mp T.sc en m);have u:=QV.mp hf en m;rw[QD,Sr] at u;have M:fa f=some en.f:=by rw[<- J];exact eq_of_beq u.1
 have B:Binds K (PySem.W.fnOf en.x en.qn (fx en.st) (c5 en.st) (bg en.st) en.dV .none .none (.str en.pm.1 en.pm.2) none (.ref (en.f-1)) .none) (en.N.take en.ps) []:=by
  by_cases v:en.df=0
  ·exact .all (BK T m v _ _ _ _ _ _)
  ·intro s I X j;obtain⟨h2,hk⟩:=T.ad.mem en (So.mpr {m,by simpa using v})
   rw[Sb] at j ⊢;rw[hl,h2] at j
   match I,j with
   | [a,b],_=>
     obtain⟨kk,_,e1,e2,_⟩:=hk a b .none .none (.str en.pm.1 en.pm.2) none (.ref (en.f-1)) .none;exact zj k m v X e1 e2
 have L:(fa (500+f)).isSome=true->Binds K (PySem.W.fnOf en.x en.qn (fx en.st) (c5 en.st) (bg en.st) en.dV .none .none (.str en.pm.1 en.pm.2) none (.ref (en.f-1)) .none) (en.N.take en.ps) [.none]:=λhs s I X j=>by
  have v:en.df≠0:=by
   rcases u.2 with z|z
   ·rw[J,hs] at z;cases z
   ·simpa using z
  obtain⟨h2,hk⟩:=T.ad.mem en (So.mpr {m,by simpa using v})
  rw[hl,h2,Qt] at j
  match I,j with
  | [a],_=>
    obtain⟨_,kk,_,_,e1,e2⟩:=hk a .none .none .none (.str en.pm.1 en.pm.2) none (.ref (en.f-1)) .none;exact zj k m v X e1 e2
 exact{en.f,_,en.N.take en.ps,en.N,en.st,en.x,en.qn,M,F,B,L,S,hl.symm,rfl,λcall n y A outer s H E C hr=>tv T TO tw xf ms m call n y A outer s H E C hr}
noncomputable def KR (K:Qs)(fa:Fa)(t:nh)(p:Str×En):Bool:=match p.2 with
 |.fn i _=>(match PySem.W.nsIn K mainGlobals p.1 with|some (some (.ref a))=>fa i==some a|_=>false)
 |.fnD i=>(match PySem.W.nsIn K mainGlobals p.1 with|some (some (.ref a))=>fa i==some a&&(fa (500+i)).isSome|_=>false)
 |.int i=>(match PySem.W.nsIn K mainGlobals p.1 with|some (some (.int j _))=>i==j|_=>false)
 |.str i=>(match PySem.W.nsIn K mainGlobals p.1 with|some (some (.str j _))=>i==j|_=>false)
 |.xc k=>(match PySem.W.nsIn K mainGlobals p.1 with|some (some (.ref a))=>fa (f7 k)==some a&&PySem.W.excIn K a A3 "ValueError.__new__"&&PySem.W.keepIn K (.ref a)|_=>false)
 |.xi k=>(match PySem.W.nsIn K mainGlobals p.1 with|some (some (.ref a))=>fa (f7 k)==some a&&t.il.contains (p.1,k)|_=>false)
 |.xk k=>(match PySem.W.nsIn K mainGlobals p.1 with|some (some (.ref a))=>fa (f7 k)==some a|_=>false)
 |.de=>(match PySem.W.nsIn K mainGlobals p.1 with|some (some (.ref a))=>fa 999==some a|_=>false)
 |.bl=>(match PySem.W.nsIn K mainGlobals p.1 with|some none=>true|_=>false)
 |.dct fs=>t.dl.contains (p.1,fs)
 |.cls c f=>(match PySem.W.nsIn K mainGlobals p.1 with|some (some (.ref a))=>fa (jG c)==some a&&PySem.W.makesIn K a&&PySem.W.keepIn K (.ref a)&&(match fa f with|some ad=>PySem.W.findIn K (.ref a) "__init__"==some (some (.ref ad))&&PySem.W.isFn K (.ref ad)|none=>true)|_=>false)
set_option tactic.hygienic true in
def FP (X:K.In h)(G:h.Ns mainGlobals mg)(F:t.T.all (KR K fa t)=true)(H:LO fa K)(y:LV fa K)(B:∀o,5000<=o->fa o=none)(z:fa (jG 77)=none/\fa (jG 78)=none)(hd:AllP (λq=>∃ad j,mg q.1=some (.ref ad)/\fU K w.params ad j/\eU fa j q.2) t.dl)(hi:AllP (λq=>Be fa P w K mg base q.2 q.1) t.il):E6 fa P w K mg base t.T:=by
 have E:∀{x:Str}{e:En},t.T.lookup x=some e->KR K fa t (x,e)=true:=λ{x e} l=>QV.mp F _ (mem_of_lookup l);refine{λ{x i r} l ad u=>?_,λ{x i} l=>?_,λ{x i} l=>?_,λ{x i} l=>?_,λ{x fs} l=>?_,λ{x k} l=>?_,λ{x k} l=>?_,λ{x k} l=>?_,λ{x} l=>?_,λ{x} l=>?_,H,y,B,z,λ{x c f} l=>?_};all_goals have b:=E l;unfold KR at b;dsimp only at b
 ·split at b
  ·next e=>have b:=eq_of_beq b;rw[u] at b;cases b;exact R5 X G e
  ·cases b
 ·split at b
  ·next e=>rw[QD] at b;exact{λad u=>by have b1:=eq_of_beq b.1;rw[u] at b1;cases b1;exact R5 X G e,b.2}
  ·cases b
 ·split at b
  ·next e=>have b:=eq_of_beq b;subst b;exact{_,R5 X G e}
  ·cases b
 ·split at b
  ·next e=>have b:=eq_of_beq b;subst b;exact{_,R5 X G e}
  ·cases b
 ·exact hd.mem (x,fs) (List.contains_iff_mem.mp b)
 ·split at b
  ·next e=>simp only[QD] at b;exact{_,R5 X G e,eq_of_beq b.1.1,b.1.2,b.2}
  ·cases b
 ·split at b
  ·next e=>rw[QD] at b;exact{hi.mem (x,k) (List.contains_iff_mem.mp b.2),_,R5 X G e,eq_of_beq b.1}
  ·cases b
 ·split at b
  ·next e=>exact{_,R5 X G e,eq_of_beq b}
  ·cases b
 ·split at b
  ·next e=>exact{_,R5 X G e,eq_of_beq b}
  ·cases b
 ·split at b
  ·next e=>exact PySem.W.mg_none_of X G e
  ·cases b
 ·split at b
  ·next a e=>
   simp only[QD] at b;refine{a,R5 X G e,eq_of_beq b.1.1.1,λad v=>?_};have b2:=b.2;rw[v] at b2;simp only[QD] at b2;exact{b.1.1.2,eq_of_beq b2.1,b2.2,b.1.2}
  ·cases b
end
noncomputable def yp (K:Qs)(C:Addr):Bool:=PySem.W.plainGet K C Str.empty&&PySem.W.hasDictIn K C&&PySem.W.plainOver K C&&PySem.W.findIn K (.ref C) "__setattr__"==some (some (.builtin "object.__setattr__"))
def AX {K:Qs}(h:yp K C=true):xg K C:=by
 unfold yp at h;simp only[QD] at h;exact{h.1.1.1,h.1.1.2,h.1.2,eq_of_beq h.2}
def JW (K:Qs)(fa:Fa):Bool:=match fa (jG 40) with
 |some C=>yp K C&&(ji 40).all λf=>PySem.W.findIn K (.ref C) f==some none
 |none=>true
def JV {K:Qs}(h:JW K fa=true):LV fa K:=λc C e ne=>by
 have j:c=40:=by
  unfold ji at ne;split at ne
  ·rfl
  ·exact absurd rfl ne
 subst j;unfold JW at h;rw[e] at h;simp only[QD,QV] at h;exact{AX h.1,λf m=>eq_of_beq (h.2 f m)}
def Ka (K:Qs)(fa:Fa)(q:Str×Nat×Nat):Bool:=match fa (jG q.2.1) with
 | some C=>yp K C && (match fa q.2.2 with
   |some ad=>PySem.W.findIn K (.ref C) q.1==some (some (.ref ad))&&PySem.W.isFn K (.ref ad)&&PySem.W.keepIn K (.ref ad)
   |none=>true)&&!(ji q.2.1).contains q.1&&!(ji q.2.1).isEmpty
 |none=>false
def J9 {K:Qs}{l:List (Str×Nat×Nat)}(h:l.all (Ka K fa)=true):∀q∈l,qo fa K q.1 q.2.1 q.2.2:=λq m=>by
 have h:=QV.mp h q m;unfold Ka at h;cases e:fa (jG q.2.1) with
 |none=>rw[e] at h;cases h
 | some C=>
   rw[e] at h;simp only[QD,Bool.not_eq_true'] at h;refine{C,e,AX h.1.1.1,λad j=>?_,λz=>?_,λz=>?_}
   ·have b:=h.1.1.2;rw[j] at b;simp only[QD] at b;exact{eq_of_beq b.1.1,b.1.2,b.2}
   ·have:=List.contains_iff_mem.mpr z;rw[h.1.2] at this;cases this
   ·rw[z] at h;exact absurd h.2 `d
def CY {D:Addr}(h:cl.all (λq=>decide (q.1<4000))=true):∀o,5000<=o->wM l cl D o=none:=λo ho=>by
 unfold wM;rw[if_neg `a,if_neg `a]
 cases e:cl.lookup (o-1000) with
 |none=>rfl
 | some C=>
   have:=of_decide_eq_true (QV.mp h _ (lookup_mem e));omega
end LD
section
local macro_rules|`(#[$a,*])=>do return<-a.getElems.foldrM (β:=Lean.Term) (λx r=>`(LD.bz $x $r)) (<-`(LD.bj))
local macro_rules|`(#v[$a,*])=>do return<-a.getElems.foldrM (β:=Lean.Term) (λx r=>`(LD.bc $x $r)) (<-`(LD.aC))
namespace LD
open PySem
abbrev gI (n:Int):GE:=gC (.int n)
abbrev gS (x:Str):GE:=gC (.str x)
abbrev gN:GE:=gC .non
abbrev Oq:GE:=gC (.bl true)
abbrev Ky:GE:=gC (.bl false)
abbrev rF:GS:=bc (aA Ky) aC
noncomputable def eO:List (Str×Nat):=[("turn",7),("join",8),("move",9),("put",10)]
def cK:List (Str×Nat):=[("turn",20),("join",21),("move",22),("put",23)]
def ju (c:Call):GS:=#v[aI (eQ (ak (cq .bool (aa 0))) (bM (ak (cq .int (aa 0))))) rF aC,aA (j0 .le .le (aa 1) (aa 0) (aa 2))]
def mV (c:Call):GS:=#v[aA (ai 0 c #[aa 1,gI 0,ag false .sub (aa 0) (gI 1)])]
def lS (c:Call):GS:=#v[aA (ai 0 c #[aa 1,gI 0,ag false .sub (aa 0) (gI 1)])]
def m7 (c:Call):GS:=#v[aA (ai 0 c #[aa 0,gI 1,gI 3])]
def iB (c:Call):GS:=#v[aA (dS (cq .tuple (aa 1)) (av .eq (aB .len #[aa 1]) (aa 0)))]
def lR (c:Call):GS:=#v[aA (dS (ai 4 c #[aa 0,aa 1]) (aB .all #[bG false 1 (.one 0) (b8 (aa 1)) (bI (ai 1 c #[aa 1,aa 0]))]))]
def fZ (c:Call):GS:=#v[aA (dS (ai 4 c #[aa 0,aa 1]) (aB .all #[bG false 1 (.one 0) (b8 (aa 1)) (bI (ai 5 c #[aa 1,aa 0]))]))]
def mW (c:Call):GS:=#v[aI (ak (av .ne (aB .len #[aa 2]) (gI 3))) rF aC,ao (.tup [3,4,5]) (aa 2),aA (dS (ai 2 c #[aa 1,aa 3]) (dS (ai 5 c #[aa 0,aa 4]) (ai 3 c #[aa 5])))]
def mY (c:Call):GS:=#v[aI (ak (av .ne (aB .len #[aa 2]) (gI 4))) rF aC,ao (.tup [3,4,5,6]) (aa 2),aI (eQ (bM (ak (ai 2 c #[aa 1,aa 3]))) (bM (ak (ai 2 c #[aa 1,aa 4])))) rF aC,aA (dS (ai 6 c #[aa 0,aa 5]) (ai 3 c #[aa 6]))]
def mX (c:Call):GS:=#v[aI (ak (av .ne (aB .len #[aa 2]) (gI 3))) rF aC,ao (.tup [3,4,5]) (aa 2),aA (dS (ai 2 c #[aa 1,aa 3]) (dS (ai 2 c #[aa 1,aa 4]) (ai 3 c #[aa 5])))]
def pf (c:Call):GS:=#v[aI (ak (av .ne (aB .len #[aa 2]) (gI 3))) rF aC,ao (.tup [3,4,5]) (aa 2),aA (dS (ai 2 c #[aa 1,aa 3]) (dS (ai 1 c #[aa 0,aa 4]) (ai 3 c #[aa 5])))]
def mZ (c:Call):GS:=#v[aI (eQ (bM (ak (cq .tuple (aa 2)))) (bM (ak (aa 2)))) rF aC,ao (.one 3) (aw (aa 2) (gI 0)),aI (eQ (bM (ak (cq .str (aa 3)))) (ak (iM eO (aa 3)))) rF aC,ao (.one 4) (lI eO (aa 3)),aA (mL 4 c #[aa 0,aa 1,aY false true false (aa 2) (gI 1) gN])]
def jt (c:Call):GS:=#v[aI (bM (ak (ai 4 c #[gI 3,aa 0]))) rF aC,ao (.tup [1,2,3]) (aa 0),aI (eQ (bM (ak (ai 0 c #[aa 1,gI 2,gI 4]))) (bM (ak (ai 0 c #[aa 2,gI 1,gI 2])))) rF aC,aI (eQ (bM (ak (cq .tuple (aa 3)))) (bM (ak (j0 .le .le (gI 1) (aB .len #[aa 3]) (gI 6))))) rF aC,aA (aB .all #[bG false 1 (.one 0) (b8 (aa 3)) (bI (ai 11 c #[aa 2,aa 3,aa 0]))])]
def hZ (c:Call):GS:=#v[aI (bM (ak (ai 12 c #[aa 0]))) #v[dH 3 #[gS "this is no machine"]] aC]
def cw (c:Call):GS:=#v[hR (bB 13 c #[aa 0]),ao (.tup [1,2,3]) (aa 0),ao (.one 4) (aL false #[aU bj]),cy (.one 5) (cJ (aa 2)) #v[ao (.one 4) (bG false 2 (.one 0) (b8 (aa 4)) (uS (.one 1) (cJ (aa 3)) (bI (ag false .add (aa 0) (aU #[aa 1])))))],aA (aa 4)]
def fm (c:Call):GS:=#v[aA (ai 0 c #[aa 1,gI 0,ag false .sub (aB .len #[aw (aa 0) (gI 2)]) (gI 1)])]
def hX (c:Call):GS:=#v[aI (bM (ak (cq .list (aa 1)))) #v[xy] aC,cy (.tup [2,3]) (iL (aa 1)) #v[aI (bM (ak (ai 16 c #[aa 0,aa 3]))) #v[xy] aC]]
def lP (c:Call):GS:=#v[hR (bB 13 c #[aa 0]),hR (bB 17 c #[aa 0,aa 1]),aI (ak (av .gt (aB .len #[aa 1]) (gI 40))) #v[dH 4 #[oq "a row has at most " " deeds" (gI 40)]] aC]
def lN (c:Call):GS:=#v[ao (.tup [2,3,4,5]) (aa 0),aA (aw (aa 4) (aw (aa 1) (aa 3)))]
def lQ (c:Call):GS:=#v[ao (.tup [2,3,4,5,6]) (aa 0),aA (aw (aw (aa 5) (aw (aa 1) (aa 3))) (aw (aa 1) (aa 4)))]
def n8 (c:Call):GS:=#v[ao (.tup [2,3,4,5]) (aa 0),aA (aw (aa 1) (aa 4))]
def lO (c:Call):GS:=#v[ao (.tup [2,3,4,5]) (aa 0),aA (aa 4)]
def qi (c:Call):GS:=#v[ao (.one 2) (lI cK (aw (aa 0) (gI 0))),ao (.one 3) (aw (aa 0) (gI 1)),aA (ag false .add (ag false .add (aY false false true (aa 1) gN (aa 3)) (aU #[mL 2 c #[aa 0,aa 1]])) (aY false true false (aa 1) (ag false .add (aa 3) (gI 1)) gN))]
def h9 (c:Call):GS:=#v[ao (.one 3) (aL true #[aa 2]),cy (.one 4) (b8 (aa 1)) #v[cU (aa 3) (ai 24 c #[aw (aw (aa 0) (gI 2)) (aa 4),aw (aa 3) (fX (gI 1))])],aA (aa 3)]
def lZ (c:Call):GS:=#v[aI (ak (av .ge (aa 0) (ag false .pow (gI 10) (gI 18)))) #v[aA (aa 0)] aC,ao (.one 2) (aL false #[gI 2147483629,gI 2147483587,gI 2147483579,gI 2147483563,gI 2147483549,gI 2147483543,gI 2147483497,gI 2147483489]),ao (.one 2) (ag false .add (aa 2) (aL false #[gI 2147483477,gI 2147483423,gI 2147483399,gI 2147483353,gI 2147483323])),ao (.one 3) (ag false .mod (ag false .pow (ag false .add (ag false .add (ag false .mul (ag false .mod (aa 0) (gI 1000000007)) (ag false .add (ag false .mul (gI 2) (aa 1)) (gI 69069))) (ag false .mul (aa 1) (gI 40503))) (gI 977)) (gI 3)) (aw (aa 2) (ag false .mod (aa 1) (gI 13)))),ao (.one 4) (ag false .mod (ag false .pow (ag false .add (ag false .add (ag false .mul (aa 3) (ag false .add (aa 1) (gI 3))) (ag false .mod (aa 0) (gI 65537))) (gI 5)) (gI 5)) (aw (aa 2) (ag false .mod (ag false .add (aa 1) (gI 5)) (gI 13)))),ao (.one 5) (ag false .mod (ag false .pow (ag false .add (ag false .add (aa 4) (ag false .mod (aa 3) (gI 1009))) (aa 1)) (gI 3)) (aw (aa 2) (ag false .mod (ag false .add (aa 1) (gI 7)) (gI 13)))),aA (ag false .add (ag false .mul (ag false .add (ag false .mul (aa 3) (gI 2147483647)) (aa 4)) (gI 2147483647)) (aa 5))]
def j4 (c:Call):GS:=#v[ao (.one 1) (aB (.list true) #[aY false false true (aa 0) gN (gI 12)]),cy (.tup [2,3]) (iL (aY false true true (aa 0) (gI 12) (gI 63))) #v[eY (aa 1) (ag false .mod (aa 2) (gI 12)) (ag false .add (aw (aa 1) (ag false .mod (aa 2) (gI 12))) (aa 3))],aA (aL true #[aa 1,gI 0,gI 0])]
def j5 (c:Call):GS:=#v[eY (aa 0) (gI 2) (gI 0),aA (aa 0)]
def oy (c:Call):GS:=#v[aI (ak (av .lt (aw (aa 0) (gI 2)) (aa 1))) #v[ao (.one 2) (aw (aa 0) (gI 1)),ao (.one 3) (gI 0),aI (ak (av .lt (aa 2) (aB .len #[aw (aa 0) (gI 0)]))) #v[ao (.one 3) (aw (aw (aa 0) (gI 0)) (aa 2))] #v[aI (ak (av .gt (aB .len #[aw (aa 0) (gI 0)]) (gI 0))) #v[ao (.one 3) (ag false .mod (aw (aw (aa 0) (gI 0)) (ag false .mod (ag false .add (ag false .mul (aa 2) (gI 5)) (gI 3)) (aB .len #[aw (aa 0) (gI 0)]))) (ag false .add (ag false .pow (gI 10) (gI 17)) (aa 2)))] aC],eY (aa 0) (gI 1) (ag false .add (aa 2) (gI 1)),eY (aa 0) (gI 2) (ai 28 c #[aa 3,aa 2])] aC,ao (.one 4) (ag false .mod (aw (aa 0) (gI 2)) (aa 1)),eY (aa 0) (gI 2) (ag false .fdiv (aw (aa 0) (gI 2)) (aa 1)),aA (aa 4)]
def iR (c:Call):GS:=#v[ao (.one 2) (ai 31 c #[aa 0,gI 6]),ao (.one 3) (ai 31 c #[aa 0,aa 1]),ao (.one 4) (ai 31 c #[aa 0,aa 1]),aI (ak (av .lt (aa 2) (gI 2))) #v[aA (aB .tuple #[bG false 1 (.one 0) (cJ (aa 1)) (bI (ai 31 c #[aa 1,aa 2]))])] aC,aI (ak (av .eq (aa 2) (gI 2))) #v[aA (aB .tuple #[bG false 1 (.one 0) (cJ (aa 1)) (bI (ag false .mod (ag false .add (ag false .add (aa 0) (gI 1)) (aa 4)) (aa 2)))])] aC,aI (ak (av .eq (aa 2) (gI 3))) #v[aA (aB .tuple #[bG false 1 (.one 0) (cJ (aa 1)) (bI (fY (ak (av .eq (aa 0) (aa 4))) (aa 5) (aa 0)))])] aC,aI (ak (av .eq (aa 2) (gI 4))) #v[aA (ag false .mul (aU #[aa 3]) (aa 1))] aC,ao (.one 5) (mI true (aa 1)),eY (aa 5) (aa 3) (aa 4),eY (aa 5) (aa 4) (aa 3),aA (aB .tuple #[aa 5])]
def ie (c:Call):GS:=#v[ao (.one 3) (ai 31 c #[aa 0,gI 8]),ao (.one 4) (ag false .add (gI 1) (ai 31 c #[aa 0,gI 3])),ao (.one 5) (ai 31 c #[aa 0,aa 2]),ao (.one 6) (ai 31 c #[aa 0,aa 2]),aI (ak (av .lt (aa 3) (gI 3))) #v[aA (aU #[gS "turn",aa 5,ai 32 c #[aa 0,aa 1],aa 4])] aC,aI (ak (av .lt (aa 3) (gI 5))) #v[aA (aU #[gS "move",aa 5,fY (ak (av .eq (aa 3) (gI 3))) (ag false .mod (ag false .add (aa 5) (gI 1)) (aa 2)) (aa 6),aa 4])] aC,aI (ak (av .eq (aa 3) (gI 5))) #v[aA (aU #[gS "put",aa 5,ai 31 c #[aa 0,aa 1],aa 4])] aC,aA (aU #[gS "join",aa 5,aa 6,aB .tuple #[bG false 1 (.one 0) (cJ (aa 1)) (bI (ai 32 c #[aa 1,aa 2]))],aa 4])]
def fT (c:Call):GS:=#v[ao (.one 1) (ag false .add (gI 2) (ai 31 c #[aa 0,ag false .sub (aa 1) (gI 1)])),ao (.one 2) (ag false .add (gI 1) (ai 31 c #[aa 0,aa 2])),ao (.one 4) (aL true bj),cy (.one 5) (cJ (ag false .add (gI 1) (ai 31 c #[aa 0,aa 3]))) #v[ao (.one 6) (ai 31 c #[aa 0,gI 5]),ao (.one 7) (ai 33 c #[aa 0,aa 1,aa 2]),aI (eW (ak (av .eq (aa 6) (gI 0))) (ak (av .ne (aa 4) (aL false bj)))) #v[ao (.one 7) (ag false .add (aY false false true (aw (aa 4) (ai 31 c #[aa 0,aB .len #[aa 4]])) gN (fX (gI 1))) (aU #[aw (aa 7) (fX (gI 1))]))] aC,cU (aa 4) (aa 7)],aA (aU #[aa 1,aa 2,aB .tuple #[aa 4]])]
def gX (c:Call):GS:=#v[ao (.one 3) (ai 31 c #[aa 0,gI 4]),ao (.one 4) (fY (ak (av .eq (aa 3) (gI 0))) (aa 2) (ai 31 c #[aa 0,ag false .add (aa 2) (gI 1)])),ao (.one 5) (bG false 1 (.one 0) (cJ (aa 4)) (bI (ai 31 c #[aa 1,aB .len #[aw (aa 2) (gI 2)]]))),aI (ak (av .eq (aa 3) (gI 1))) #v[ao (.one 5) (aY false false true (ag false .mul (aY false false true (aa 5) gN (gI 2)) (aa 4)) gN (aa 4))] aC,aA (aa 5)]
def gg (c:Call):GS:=#v[aI (ak (av .isN (aa 1) gN)) #v[aA (av .isN (aa 0) gN)] aC,aI (eQ (ak (cq .bool (aa 1))) (ak (cq .bool (aa 0)))) #v[aA (dS (cq .bool (aa 1)) (dS (cq .bool (aa 0)) (av .eq (aa 0) (aa 1))))] aC,aI (ak (cq .int (aa 1))) #v[aA (dS (cq .int (aa 0)) (av .eq (aa 0) (aa 1)))] aC,aI (ak (cq .str (aa 1))) #v[aA (dS (cq .str (aa 0)) (av .eq (aa 0) (aa 1)))] aC,aI (eQ (ak (av .ne (cq .tuple (aa 1)) (cq .tuple (aa 0)))) (ak (av .ne (cq .list (aa 1)) (cq .list (aa 0))))) rF aC,aI (ak (av .ne (aB .len #[aa 0]) (aB .len #[aa 1]))) rF aC,aA (av .notin Ky (bG false 2 (.tup [0,1]) (nR (aa 0) (aa 1)) (bI (ai 40 c #[aa 0,aa 1]))))]
def jv (c:Call):GS:=#v[ao (.one 2) (aB (.list true) #[aa 1]),ao (.one 3) (aw (aa 1) (aw (aa 0) (gI 1))),aI (ak (av .eq (aw (aa 0) (gI 0)) (gS "turn"))) #v[eY (aa 2) (aw (aa 0) (gI 1)) (aw (aw (aa 0) (gI 2)) (aa 3))] aC,aI (ak (av .eq (aw (aa 0) (gI 0)) (gS "join"))) #v[eY (aa 2) (aw (aa 0) (gI 1)) (aw (aw (aw (aa 0) (gI 3)) (aa 3)) (aw (aa 1) (aw (aa 0) (gI 2))))] aC,aI (ak (av .eq (aw (aa 0) (gI 0)) (gS "move"))) #v[eY (aa 2) (aw (aa 0) (gI 1)) (aw (aa 1) (aw (aa 0) (gI 2)))] aC,aI (ak (av .eq (aw (aa 0) (gI 0)) (gS "put"))) #v[eY (aa 2) (aw (aa 0) (gI 1)) (aw (aa 0) (gI 2))] aC,aA (aB .tuple #[aa 2])]
def iC (c:Call):GS:=#v[aI (ak (av .eq (aw (aa 0) (gI 1)) (gI 1))) #v[aA (bG false 1 (.one 0) (cJ (aw (aa 0) (gI 0))) (bI (aU #[aa 0])))] aC,aA (bG false 1 (.one 0) (cJ (ag false .mul (aw (aa 0) (gI 0)) (aw (aa 0) (gI 0)))) (bI (aU #[ag false .fdiv (aa 0) (aw (aa 1) (gI 0)),ag false .mod (aa 0) (aw (aa 1) (gI 0))])))]
def fy (c:Call):GS:=#v[ao (.one 2) (aL true bj),cy (.one 3) (b8 (ai 42 c #[aa 0])) #v[cy (.one 4) (b8 (aa 1)) #v[ao (.one 3) (ai 41 c #[aw (aw (aa 0) (gI 2)) (aa 4),aa 3])],cU (aa 2) (aa 3)],aA (aB .tuple #[aa 2])]
def iu (c:Call):GS:=#v[aA (aB .tuple #[bG false 1 (.one 0) (b8 (ai 15 c #[aa 0])) (bI (aw (ai 25 c #[aa 1,aa 2,aa 0]) (fX (gI 1))))])]
def eA (c:Call):GS:=#v[aA (aB .sum #[bG false 1 (.one 0) (b8 (aa 1)) (bI (aw (aw (aw (aa 1) (gI 2)) (aa 0)) (fX (gI 1))))])]
def gY (c:Call):GS:=#v[aA (dS (cq .int (aa 0)) (Kw (cq .bool (aa 0))))]
def m8 (c:Call):GS:=#v[aA (dS (ai 67 c #[aa 0]) (j0 .le .le (aa 1) (aa 0) (aa 2)))]
def dr (c:Call):GS:=#v[aA (aB .sum #[bG false 1 (.one 0) (b8 (aa 1)) (bI (aw (aw (aw (aa 1) (gI 2)) (aa 0)) (fX (gI 1))))])]
def qk (c:Call):GS:=#v[hR (bB 18 c #[aa 1,aa 2]),sL "machine" (aa 0) (aa 1),sL "standing" (aa 0) (aB (.list false) #[aa 2]),sL "earlier" (aa 0) (aL true bj)]
def yx (c:Call):GS:=#v[aA (aB (.list true) #[fh "standing" (aa 0)])]
def vM (c:Call):GS:=#v[aA (ai 47 c #[fh "machine" (aa 0),fh "standing" (aa 0)])]
def ph (c:Call):GS:=#v[aA (ai 46 c #[fh "machine" (aa 0),fh "standing" (aa 0)])]
def yy (c:Call):GS:=#v[aI (bM (ak (ai 0 c #[aa 1,gI 0,aB .len #[fh "standing" (aa 0)]]))) #v[dH 9 #[gS "no deed can be put in there"]] aC,aI (bM (ak (ai 16 c #[fh "machine" (aa 0),aa 2]))) #v[dH 10 #[gS "the machine has no such deed"]] aC,aI (ak (av .ge (aB .len #[fh "standing" (aa 0)]) (gI 40))) #v[dH 4 #[oq "a row has at most " " deeds" (gI 40)]] aC,aA (ic 40 136 c (aa 0) #[ag false .add (ag false .add (aY false false true (fh "standing" (aa 0)) gN (aa 1)) (aL false #[aa 2])) (aY false true false (fh "standing" (aa 0)) (aa 1) gN)])]
def yz (c:Call):GS:=#v[aI (bM (ak (ai 0 c #[aa 1,gI 0,ag false .sub (aB .len #[fh "standing" (aa 0)]) (gI 1)]))) #v[dH 9 #[gS "no deed stands there"]] aC,aA (ic 40 136 c (aa 0) #[ag false .add (aY false false true (fh "standing" (aa 0)) gN (aa 1)) (aY false true false (fh "standing" (aa 0)) (ag false .add (aa 1) (gI 1)) gN)])]
def vN (c:Call):GS:=#v[aI (bM (ak (fh "earlier" (aa 0)))) #v[dH 11 #[gS "no change stands"]] aC,aA (ic 40 137 c (aa 0) #[Pw (fh "earlier" (aa 0))])]
def sJ (c:Call):GS:=#v[cU (fh "earlier" (aa 0)) (fh "standing" (aa 0)),aA (ic 40 137 c (aa 0) #[aa 1])]
def vL (c:Call):GS:=#v[c8 (.one 2) (bB 48 c #[fh "machine" (aa 0),fh "standing" (aa 0),aa 1]),sL "standing" (aa 0) (aa 1),aA (aa 2)]
def sI (c:Call):GS:=#v[ao (.one 3) (ai 31 c #[aa 0,gI 4]),ao (.one 4) (aw (aa 2) (fX (gI 1))),ao (.one 5) (ai 31 c #[aa 0,ag false .add (aB .len #[aa 4]) (gI 1)]),ao (.one 6) (ai 31 c #[aa 0,aB .len #[aw (aa 1) (gI 2)]]),aI (eW (ak (av .eq (aa 3) (gI 0))) (ak (av .gt (aB .len #[aa 2]) (gI 1)))) #v[aA (aU #[aY false false true (aa 2) gN (fX (gI 1)),aU bj])] aC,aI (eW (eQ (ak (av .eq (aa 3) (gI 1))) (ak (av .eq (aB .len #[aa 4]) (gI 40)))) (ak (av .ne (aa 4) (aL false bj)))) #v[ao (.one 5) (ag false .mod (aa 5) (aB .len #[aa 4])),aA (aU #[ag false .add (aa 2) (aL false #[ag false .add (aY false false true (aa 4) gN (aa 5)) (aY false true false (aa 4) (ag false .add (aa 5) (gI 1)) gN)]),aU #[aa 5]])] aC,aA (aU #[ag false .add (aa 2) (aL false #[ag false .add (ag false .add (aY false false true (aa 4) gN (aa 5)) (aL false #[aa 6])) (aY false true false (aa 4) (aa 5) gN)]),aU #[aa 5,aa 6]])]
def A7 (c:Call):GS:=#v[aI (ak (av .eq (aB .len #[aa 1]) (gI 2))) #v[aA (ic 40 133 c (aa 0) #[aw (aa 1) (gI 0),aw (aa 1) (gI 1)])] aC,aA (fY (ak (av .eq (aa 1) (aU bj))) (ic 40 135 c (aa 0) bj) (ic 40 134 c (aa 0) #[aw (aa 1) (gI 0)]))]
def l6 (c:Call):GS:=#v[cy (.tup [3,4,5]) (MS (ai 42 c #[aa 0]) (ai 44 c #[aa 0,aa 1]) (ai 44 c #[aa 0,aa 2])) #v[aI (ak (av .ne (aa 4) (aa 5))) #v[aA (aa 3)] aC],aA gN]
def sH (c:Call):GS:=#v[aA (aL false #[aL false #[gI 0,gI 1,gI 2],aL false #[gI 0,gI 2,gI 1],aL false #[gI 1,gI 0,gI 2],aL false #[gI 1,gI 2,gI 0],aL false #[gI 2,gI 0,gI 1],aL false #[gI 2,gI 1,gI 0]])]
def qj (c:Call):GS:=#v[cy (.one 4) (b8 (ag false .add (aw (ai 141 c bj) (aa 3)) (aL false #[gI 0,gI 1,gI 2]))) #v[aI (ak (av .eq (aa 4) (gI 0))) #v[ao (.one 5) (ic 40 130 c (aa 0) bj),aI (bM (ak (ai 40 c #[aa 5,aa 2]))) rF aC,cU (aa 5) (gI 0)] aC,aI (eW (ak (av .eq (aa 4) (gI 1))) (bM (ak (ai 40 c #[ic 40 131 c (aa 0) bj,ai 89 c #[aa 1,aa 2]])))) rF aC,aI (eW (ak (av .eq (aa 4) (gI 2))) (bM (ak (ai 40 c #[ic 40 132 c (aa 0) bj,ai 44 c #[aa 1,aa 2]])))) rF aC],aA Oq]
def dQ (c:Call):GS:=#v[c8 (.one 1) (bB 15 c #[aa 0]),aA (bG false 1 (.one 0) (b8 (aw (aa 0) (gI 2))) (bI (aU #[aw (aa 0) (fX (gI 1)),kB 77 1 (.one 0) (b8 (aa 2)) (jN (aa 0) (ai 24 c #[aa 1,aa 0]))])))]
def dY (c:Call):GS:=#v[aA (aB .tuple #[bG false 1 (.one 0) (b8 (aa 1)) (bI (iN (aa 1) (aa 0)))])]
def fz (c:Call):GS:=#v[ao (.one 2) (aw (aL false #[aU #[gI 3,gI 1,gI 6],aU #[gI 2,gI 2,gI 3],aU #[gI 3,gI 1,gI 4],aU #[gI 2,gI 2,gI 2],aU #[gI 4,gI 1,gI 2]]) (ag false .mod (aa 1) (gI 5))),aA (ai 34 c #[aa 0,aw (aa 2) (gI 0),aw (aa 2) (gI 1),aw (aa 2) (gI 2)])]
def gW (c:Call):GS:=#v[ao (.one 3) (aB .len #[aa 1]),ao (.one 4) (aL true bj),cy (.two 5 [6,7]) (iL (aa 0)) #v[ao (.one 8) (fY (ak (av .le (aa 6) (aa 3))) (aw (aa 1) (ag false .sub (aa 3) (aa 6))) (aL false bj)),cy (.one 9) (b8 (aa 8)) #v[ao (.one 10) (ai 152 c #[aa 7,aa 9]),aI (ak (mK true (aa 10) (aa 2))) #v[kY (aa 2) (aa 10) (aU #[aa 3,ag true .add (aw (iN (aa 2) (aa 9)) (gI 1)) (aL false #[aa 5])]),cU (aa 4) (aa 10),aI (ak (av .gt (nS (aa 2)) (gI 255))) #v[dH 8 #[oq "rows have more than " " behaviours" (gI 255)]] aC] aC]],aA (aa 4)]
def jr (c:Call):GS:=#v[c8 (.one 2) (bB 151 c #[aa 0]),ao (.one 3) (aB .tuple #[ai 15 c #[aa 0]]),ao (.one 4) (wI 78 (aa 3) (aU #[gI 0,aL true bj])),ao (.one 5) (aL true #[aL false #[aa 3]]),i8 (eW (ak (qP (aY false true false (aa 5) (fX (gI 3)) gN))) (eQ (ak (av .isN (aa 1) gN)) (ak (av .le (aB .len #[aa 5]) (aa 1))))) #v[kZ (aa 5) (bB 165 c #[aa 2,aa 5,aa 4])],aA (aa 4)]
def fv (c:Call):GS:=#v[aI (bM (ak (cq .list (aa 1)))) rF aC,aA (av .eq (bG false 1 (.one 0) (b8 (aa 1)) (rV (bM (ak (ai 68 c #[aa 0,gI 0,ag false .sub (aB .len #[aw (aa 1) (gI 2)]) (gI 1)]))) (bI (gI 1)))) (aL false bj))]
def cP (c:Call):GS:=#v[hR (bB 18 c #[aa 0,aa 1]),aI (ak (av .gt (aB .len #[aa 1]) (gI 12))) #v[dH 4 #[oq "a row that is mended has at most " " deeds" (gI 12)]] aC,aI (bM (ak (ai 0 c #[aa 2,gI 1,gI 6]))) #v[dH 7 #[oq "windows are at most 1 to " " deeds long" (gI 6)]] aC]
def chF (c:Call):GS:=#v[ao (.tup [7,8]) (aw (aa 0) (aa 6)),qy 4 (aa 7),ao (.one 2) (ai 152 c #[aa 8,aa 2]),ao (.tup [9,10]) (iN (aa 1) (aa 2)),aI (ak (av .lt (aa 9) (aa 4))) #v[aA (aU #[aa 5,aB (.list false) #[aa 10]])] aC]
def c7 (c:Call):GS:=#v[ao (.one 4) (gI 0),cy (.tup [5,6]) (uT (aa 3)) (chF c),aA gN]
def nsF (c:Call):GS:=#v[ao (.one 7) (ai 197 c #[aa 4,aa 1,aa 5,aY false true true (aa 2) (aa 6) (ag false .add (aa 6) (aa 3))]),aI (ak (av .notN (aa 7) gN)) #v[ao (.tup [8,9]) (aa 7),aA (aU #[aa 6,aa 8,aa 9])] aC]
def f9 (c:Call):GS:=#v[c8 (.one 4) (bB 151 c #[aa 0]),ao (.one 5) (aB .tuple #[ai 15 c #[aa 0]]),cy (.one 6) (cJ (aB .len #[aa 2])) (nsF c),aA gN]
def Od (c:Call):GS:=#v[ao (.tup [7,8,9]) (aa 6),tW (aa 4) (aa 7) (ag false .add (aa 7) (aa 8)) (aa 9),cU (aa 5) (aa 6),c8 (.one 6) (bB 198 c #[aa 0,aa 3,aa 4,aa 2])]
def js (c:Call):GS:=#v[hR (bB 196 c #[aa 0,aa 1,aa 2]),c8 (.one 3) (bB 166 c #[aa 0,gN]),ao (.one 4) (aB (.list true) #[aa 1]),ao (.one 5) (aL true bj),c8 (.one 6) (bB 198 c #[aa 0,aa 3,aa 4,aa 2]),i8 (ak (av .notN (aa 6) gN)) (Od c),aA (aU #[aa 4,aa 5])]
def dm (c:Call):GS:=#v[aA (dS (cq .list (aa 1)) (aB .all #[bG false 1 (.one 0) (b8 (aa 1)) (bI (ai 16 c #[aa 1,aa 0]))]))]
def dj (c:Call):GS:=#v[ao (.tup [4,5,6]) (aa 3),aI (eQ (bM (ak (ai 0 c #[aa 5,gI 1,aa 2]))) (bM (ak (ai 0 c #[aa 4,gI 0,ag false .sub (aB .len #[aa 1]) (aa 5)])))) #v[aA gN] aC,aI (bM (ak (ai 200 c #[aa 0,aa 6]))) #v[aA gN] aC,ao (.one 7) (ag false .add (aa 4) (aa 5)),ao (.one 8) (aY false true true (aa 1) (aa 4) (aa 7)),aI (ak (av .ge (ai 47 c #[aa 0,aa 6]) (ai 47 c #[aa 0,aa 8]))) #v[aA gN] aC,aI (ak (av .ne (ai 46 c #[aa 0,aa 6]) (ai 46 c #[aa 0,aa 8]))) #v[aA gN] aC,aA (ag true .add (ag false .add (aY false false true (aa 1) gN (aa 4)) (aa 6)) (aY false true false (aa 1) (aa 7) gN))]
def fL (c:Call):GS:=#v[hR (bB 196 c #[aa 0,aa 1,aa 2]),ao (.one 4) (aB (.list true) #[aa 1]),cy (.one 5) (b8 (aa 3)) #v[ao (.one 4) (ai 208 c #[aa 0,aa 4,aa 2,aa 5]),aI (ak (av .isN (aa 4) gN)) #v[aA gN] aC],aA (aa 4)]
def dI (c:Call):GS:=#v[ao (.one 1) (aL false #[aU #[gS "turn",gI 0,aU #[gI 1,gI 2,gI 3,gI 0],gI 1],aU #[gS "turn",gI 0,aU #[gI 2,gI 3,gI 0,gI 1],gI 3]]),ao (.one 2) (ai 31 c #[aa 0,gI 2]),ao (.one 3) (ag false .add (gI 7) (ai 31 c #[aa 0,gI 6])),ao (.one 4) (ag true .mul (aL false #[ag false .sub (gI 1) (aa 2)]) (aa 3)),cy (.one 5) (cJ (ai 31 c #[aa 0,gI 3])) #v[eY (aa 4) (ai 31 c #[aa 0,aa 3]) (aa 2)],aA (aU #[aU #[gI 4,gI 1,aB .tuple #[ag false .add (aY false true false (aa 1) (aa 2) gN) (aY false false true (aa 1) gN (aa 2))]],aa 4])]
def gj (c:Call):GS:=#v[cy (.tup [4,5,6]) (b8 (aa 3)) #v[aI (eQ (bM (ak (j0 .le .le (gI 1) (aa 5) (aa 2)))) (eQ (bM (ak (j0 .le .le (gI 0) (aa 4) (ag false .sub (aB .len #[aa 1]) (aa 5))))) (bM (ak (ai 171 c #[aa 0,aa 6]))))) #v[aA gN] aC,ao (.one 7) (aY false true true (aa 1) (aa 4) (ag false .add (aa 4) (aa 5))),aI (ak (av .ge (ai 89 c #[aa 0,aa 6]) (ai 89 c #[aa 0,aa 7]))) #v[aA gN] aC,aI (ak (av .ne (ai 44 c #[aa 0,aa 6]) (ai 44 c #[aa 0,aa 7]))) #v[aA gN] aC,ao (.one 1) (ag false .add (ag false .add (aY false false true (aa 1) gN (aa 4)) (aa 6)) (aY false true false (aa 1) (ag false .add (aa 4) (aa 5)) gN))],aA (aa 1)]
def eI (c:Call):GS:=#v[ao (.one 1) (aL true #[aL false bj]),cy (.one 2) (cJ (aB .len #[aw (aa 0) (gI 2)])) #v[cU (aa 1) (aL false #[aa 2]),qx (aa 1) (bG true 1 (.one 0) (cJ (aB .len #[aw (aa 0) (gI 2)])) (bI (aL false #[aa 3,aa 0])))],aA (aa 1)]
def dt (c:Call):GS:=#v[ao (.one 4) (ai 212 c #[aa 1]),ao (.one 5) (bG false 1 (.one 0) (b8 (aa 4)) (bI (aU #[aa 0,ai 44 c #[aa 2,aa 0],ai 89 c #[aa 2,aa 0]]))),ao (.one 6) (aL true bj),cy (.one 7) (cJ (ag false .mul (gI 4) (mJ (av .ne (aa 2) (aL false bj))))) #v[ao (.one 8) (ai 31 c #[aa 0,aB .len #[aa 2]]),ao (.one 9) (ag false .add (gI 1) (ai 31 c #[aa 0,sT #[aa 3,ag false .sub (aB .len #[aa 2]) (aa 8)]])),ao (.one 10) (aY false true true (aa 2) (aa 8) (ag false .add (aa 8) (aa 9))),ao (.one 11) (ai 44 c #[aa 1,aa 10]),ao (.one 12) (ai 89 c #[aa 1,aa 10]),ao (.one 13) (bG false 3 (.tup [0,1,2]) (b8 (aa 5)) (rV (eW (ak (av .eq (aa 1) (aa 14))) (ak (av .lt (aa 2) (aa 15)))) (bI (aa 0)))),aI (ak (av .ne (aa 13) (aL false bj))) #v[ao (.one 14) (aw (aa 13) (ai 31 c #[aa 0,aB .len #[aa 13]])),cU (aa 6) (aU #[aa 8,aa 9,aB (.list false) #[aa 14]]),ao (.one 2) (ag false .add (ag false .add (aY false false true (aa 2) gN (aa 8)) (aa 14)) (aY false true false (aa 2) (ag false .add (aa 8) (aa 9)) gN))] aC,aI (ak (av .eq (aa 2) (aL false bj))) #v[aA (aa 6)] aC],aA (aa 6)]
def dD (c:Call):GS:=#v[cy (.tup [2,3,4]) (b8 (aa 1)) #v[ao (.one 0) (ag false .add (ag false .add (aY false false true (aa 0) gN (aa 2)) (aa 4)) (aY false true false (aa 0) (qO #[gI 0,ag false .add (aa 2) (aa 3)]) gN))],aA (aa 0)]
noncomputable def dJ (c:Call):GS:=#v[ao (.one 4) (ai 31 c #[aa 0,gI 12]),ao (.one 5) (aw (aL false #[ag false .sub (ai 31 c #[aa 0,gI 29]) (gI 14),gI 0,gI 1,gI 7,gI 13,ag false .pow (gI 10) (gI 20)]) (ai 31 c #[aa 0,gI 6])),ao (.one 6) (ai 31 c #[aa 0,aB .len #[aw (aa 1) (gI 2)]]),ao (.one 7) (ai 31 c #[aa 0,aB .len #[aa 3]]),ao (.tup [8,9,10]) (aw (aa 3) (aa 7)),ao (.one 11) (ai 31 c #[aa 0,ag false .add (aB .len #[aa 10]) (gI 1)]),aI (ak (av .eq (aa 4) (gI 0))) #v[aA (ag false .add (aY false false true (aa 3) gN (aa 7)) (aY false true false (aa 3) (ag false .add (aa 7) (gI 1)) gN))] aC,aI (ak (av .eq (aa 4) (gI 1))) #v[aA (ag false .add (ag false .add (aY false false true (aa 3) gN (aa 7)) (aL false #[aw (aa 3) (aa 7)])) (aY false true false (aa 3) (aa 7) gN))] aC,aI (ak (av .eq (aa 4) (gI 2))) #v[aA (ag false .add (ag false .add (aY false false true (aa 3) gN (aa 7)) (uR false (aY false true true (aa 3) (aa 7) (ag false .add (aa 7) (gI 2))))) (aY false true false (aa 3) (ag false .add (aa 7) (gI 2)) gN))] aC,ao (.one 12) (aL true #[aU #[aa 5,aa 9,aa 10],aU #[aa 8,aa 5,aa 10],aU #[ag false .add (aa 8) (gI 1),aa 9,aa 10]]),cU (aa 12) (aU #[aa 8,aa 9,ag false .add (ag false .add (aY false false true (aa 10) gN (aa 11)) (aL false #[aa 5])) (aY false true false (aa 10) (aa 11) gN)]),cU (aa 12) (aU #[aa 8,aa 9,ag false .add (ag false .add (aY false false true (aa 10) gN (aa 11)) (aL false #[aa 6])) (aY false true false (aa 10) (ag false .add (aa 11) (gI 1)) gN)]),cU (aa 12) (aU #[aa 8,aa 9,ag false .add (aY false false true (aa 10) gN (aa 11)) (aY false true false (aa 10) (ag false .add (aa 11) (gI 1)) gN)]),cU (aa 12) (aU #[aa 8,aa 9,ag false .mul (aL false #[aa 6]) (gI 41)]),cU (aa 12) (aU #[ag false .sub (aa 8) (aB .len #[ai 214 c #[aa 2,aY false false true (aa 3) gN (aa 7)]]),aa 9,aa 10]),cU (aa 12) (aU #[ag false .sub (aa 8) (gI 1),aa 9,aa 10]),aA (ag false .add (ag false .add (aY false false true (aa 3) gN (aa 7)) (aL false #[aw (aa 12) (ag false .sub (aa 4) (gI 3))])) (aY false true false (aa 3) (ag false .add (aa 7) (gI 1)) gN))]
def yv (c:Call):GS:=#v[c8 (.one 14) (bB 209 c #[aa 4,aa 12,aa 13,aa 11]),aI (bM (ak (ai 40 c #[aa 14,ai 211 c #[aa 4,aa 5,aa 13,aa 10]]))) rF aC,aI (eQ (ak (av .ne (aa 11) (aa 10))) (ak (av .ne (aa 12) (aa 5)))) rF aC,aI (ak (av .notN (aa 14) gN)) #v[cU (aa 14) (gI 9)] aC,aI (eQ (ak (av .ne (aa 11) (aa 10))) (ak (av .ne (aa 12) (aa 5)))) rF aC]
def xR (c:Call):GS:=#v[ao (.one 11) (bG false 3 (.tup [0,1,2]) (b8 (aa 10)) (bI (aU #[aa 0,aa 1,aB (.list false) #[aa 2]]))),ao (.one 12) (aB (.list false) #[aa 5]),cy (.one 13) (b8 (aL false #[aa 3,ag false .add (gI 1) (ai 31 c #[aa 1,aa 3]),aa 3])) (yv c)]
def yu (c:Call):GS:=#v[ao (.one 9) (fY (ak (av .lt (aa 8) (gI 4))) (aw (aa 7) (aw (aL false #[gI 0,ag false .sub (aB .len #[aa 7]) (gI 1)]) (ag false .mod (aa 8) (gI 2)))) (aa 6)),aI (ak (av .ne (aa 9) (aL false bj))) #v[cU (aa 7) (ai 215 c #[aa 1,aa 4,aa 5,aa 9])] aC]
def yA (c:Call):GS:=#v[cy (.one 8) (cJ (gI 6)) (yu c),cy (.one 10) (b8 (aa 7)) (xR c)]
def xO (c:Call):GS:=bc (ao (.one 6) (ai 213 c #[aa 1,aa 4,aa 5,aa 3])) (bc (ao (.one 7) (aL true #[aa 6,aL false bj])) (bc (aI (ak (av .eq (aw (aa 4) (gI 1)) (gI 1))) #v[kZ (aa 7) (kJ bJ (bB 199 c #[aa 4,aB (.list false) #[aa 5],aa 3]) (gI 1))] aC) (yA c)))
def tj (c:Call):GS:=bc (ao (.one 3) (ag false .add (gI 1) (ai 31 c #[aa 1,gI 6]))) (bc (ao (.one 4) (ai 160 c #[ai 30 c #[aa 1],aa 2])) (bc (ao (.one 5) (ai 35 c #[aa 1,aa 4,gI 12])) (bc (aI (eW (ak (av .eq (aa 2) (gI 2))) (ak (av .eq (ai 31 c #[aa 1,gI 3]) (gI 0)))) #v[ao (.tup [4,5]) (ai 210 c #[aa 1])] aC) (xO c))))
def n9 (c:Call):GS:=#v[ao (.one 1) (ai 29 c #[aa 0]),cy (.one 2) (cJ (gI 4)) (tj c),aA Oq]
@[simp] theorem bf {h j:Type}{r:Res h}{f:h->Mem->Res j}{k:j->Mem->Prop}:ae (r.bind f) k↔ae r λa M=>ae (f a M) k:=by cases r<;>rfl
@[simp] theorem bE {h:Type}{a:h}{k:h->Mem->Prop}:ae (.ok a M) k↔k a M:=RL
@[simp] theorem QU {h:Type}{k:h->Mem->Prop}:ae (.bad:Res h) k↔False:=RL
@[simp] theorem gL {h:Type}{M:Mem}{o:Option h}{k:h->Mem->Prop}:ae (bV M o) k↔∃a,o=some a/\k a M:=by cases o<;>simp[bV]
def eT {j:Type}{r:Res j}{k:j->Mem->Prop}:ae r k↔∃a M,r=.ok a M/\k a M:=by
 cases r with
 |ok a M=>exact{λh=>⟨a,M,rfl,h⟩,λ⟨_,_,e,h⟩=>by cases e;exact h}
 |err=>simp[ae]
 |bad=>simp[ae]
def nZ (j:ax 64 (view M x)=true)(z:ax 64 (view M y)=true)(h:cb (view M x) (view M y)=v):bx .eq x y M=some v:=by
 have e:pW (view M x) (view M y)=some v:=by unfold pW;rw[j,z,h];simp
 show mP M x y=_;unfold mP;rw[e]
def iY (j:ax 64 (view M x)=true)(z:ax 64 (view M y)=true)(h:cb (view M x) (view M y)=v):bx .ne x y M=some (!v):=by
 show(bx .eq x y M).map (!·)=_;rw[nZ j z h];rfl
section
variable{Z:Env}{M:Mem}{a b d lo hi:GE}{s:GA}{t u:GT}{k:D->Mem->Prop}{c:Call}
@[simp] theorem a7 {i:Nat}:ae (aa i Z M) k↔∃d,Z[i]?.getD none=some d/\k d M:=by simp[aa]
@[simp] theorem eR {d:D}:ae (gC d Z M) k↔k d M:=RL
@[simp] theorem jP {m:Bool}{o:oA}:ae (ag m o a b Z M) k↔ae (a Z M) λx M=>ae (b Z M) λy M=>ae (fK m o x y M) k:=by simp[ag]
@[simp] theorem iQ {o:jB}:ae (av o a b Z M) k↔ae (a Z M) λx M=>ae (b Z M) λy M=>∃v,bx o x y M=some v/\k (.bl v) M:=by simp[av]
@[simp] theorem Rp {o h:jB}:ae (j0 o h a b d Z M) k↔ae (a Z M) λx M=>ae (b Z M) λy M=>∃v,bx o x y M=some v/\if v=true then ae (d Z M) λz M=>∃v,bx h y z M=some v/\k (.bl v) M else k (.bl false) M:=by
 simp only[j0,bf,gL];refine iff_of_eq ?_
 congr 1;funext x M;congr 1;funext y M;refine propext (exists_congr λv=>and_congr_right λ_=>?_)
 cases v<;>simp
@[simp] theorem yh:ae (fX a Z M) k↔ae (a Z M) λx M=>∃i,x=.int i/\k (.int (-i)) M:=by
 simp only[fX,bf];refine iff_of_eq ?_;congr 1;funext x M;cases x<;>simp
set_option tactic.hygienic true in
@[simp] theorem Rq:ae (dS a b Z M) k↔ae (a Z M) λx M=>∃v,x=.bl v/\if v=true then ae (b Z M) k else k (.bl false) M:=by
 simp only[dS,bf];refine iff_of_eq ?_;congr 1;funext x M;cases x<;>simp;rename_i v;cases v<;>simp
@[simp] theorem Nc:ae (fY t a b Z M) k↔ae (t Z M) λv M=>if v=true then ae (a Z M) k else ae (b Z M) k:=by
 simp only[fY,bf];refine iff_of_eq ?_;congr 1;funext v M;cases v<;>simp
@[simp] theorem iP:ae (aw a b Z M) k↔ae (a Z M) λx M=>ae (b Z M) λy M=>∃d,bJ x y M=some d/\k d M:=by simp[aw]
@[simp] theorem eG {m hl hh:Bool}:ae (aY m hl hh a lo hi Z M) k↔ae (a Z M) λx M=>ae (lo Z M) λl M=>ae (hi Z M) λh M=>e9 hl l=true/\e9 hh h=true/\ae (cj m x l h M) k:=by
 simp only[aY,bf];refine iff_of_eq ?_
 congr 1;funext x M;congr 1;funext l M;congr 1;funext h M
 cases e9 hl l<;>cases e9 hh h<;>simp
@[simp] theorem cL {k:List D->Mem->Prop}:ae (bj Z M) k↔k [] M:=RL
@[simp] theorem b9 {k:List D->Mem->Prop}:ae (bz a s Z M) k↔ae (a Z M) λx M=>ae (s Z M) λxs M=>k (x::xs) M:=by simp[bz]
@[simp] theorem gp:ae (aU s Z M) k↔ae (s Z M) λxs M=>xs.length<=sz/\k (.tup xs) M:=by
 simp only[aU,bf];refine iff_of_eq ?_;congr 1;funext xs M;unfold lA;split<;>simp[*]
def ug {m:Bool}{xs:List D}:ae (aS m xs M) k↔xs.length<=sz/\if m=true then k (.cell M.length) (M++[xs]) else k (.lst xs) M:=by
 unfold aS;cases m<;>split<;>simp[*]
@[simp] theorem bX {xs:List D}:ae (aS false xs M) k↔xs.length<=sz/\k (.lst xs) M:=by simp[ug]
@[simp] theorem km {xs:List D}:ae (aS true xs M) k↔xs.length<=sz/\k (.cell M.length) (M++[xs]):=by simp[ug]
@[simp] theorem ET {m:Bool}:ae (aL m s Z M) k↔ae (s Z M) λxs M=>ae (aS m xs M) k:=by simp[aL]
@[simp] theorem AM {f:Nat}:ae (ai f c s Z M) k↔ae (s Z M) λds M=>ae (c f ds M) k:=by simp[ai]
@[simp] theorem Hl {i:Nat}:ae (mL i c s Z M) k↔∃f,Z[i]?.getD none=some (.fn f)/\ae (s Z M) λds M=>ae (c f ds M) k:=by
 unfold mL;cases e:Z[i]?.getD none with
 |none=>simp
 |some d=>cases d<;>simp
@[simp] theorem dB {f:xh}:ae (aB f s Z M) k↔ae (s Z M) λds M=>ae (di f ds M) k:=by simp[aB]
@[simp] theorem Rf {t:Ty}:ae (cq t a Z M) k↔ae (a Z M) λx M=>∃v,gQ t x=some v/\k (.bl v) M:=by simp[cq]
@[simp] theorem KS {fs:List (Str×Nat)}:ae (lI fs a Z M) k↔ae (a Z M) λx M=>∃y f,x=.str y/\fs.lookup y=some f/\k (.fn f) M:=by
 simp only[lI,bf];refine iff_of_eq ?_;congr 1;funext x M;cases x<;>simp;exact{(by rintro⟨_,⟨f,h,e⟩,q⟩;exact{f,h,e ▸ q}),(by rintro⟨f,h,q⟩;exact{_,⟨f,h,rfl⟩,q})}
@[simp] theorem Rg {fs:List (Str×Nat)}:ae (iM fs a Z M) k↔ae (a Z M) λx M=>∃y,x=.str y/\k (.bl (!(fs.lookup y).isSome)) M:=by
 simp only[iM,bf];refine iff_of_eq ?_;congr 1;funext x M;cases x<;>simp
set_option tactic.hygienic true in
@[simp] theorem Hj {m:Bool}:ae (mI m a Z M) k↔ae (a Z M) λx M=>∃n,x=.int n/\(-(2^62)<=n/\n<2^20)/\ae (aS m ((List.range n.toNat).map λ(k:Nat)=>D.int (k:Int)) M) k:=by
 simp only[mI,bf];refine iff_of_eq ?_;congr 1;funext x M;cases x<;>simp;rename_i n;split<;>simp[*]
variable{kb:Bool->Mem->Prop}
@[simp] theorem pz:ae (ak a Z M) kb↔ae (a Z M) λx M=>∃v,jX M x=some v/\kb v M:=by simp[ak]
@[simp] theorem t_or:ae (eQ t u Z M) kb↔ae (t Z M) λv M=>if v=true then kb true M else ae (u Z M) kb:=by
 simp only[eQ,bf];refine iff_of_eq ?_;congr 1;funext v M;cases v<;>simp
@[simp] theorem Rn:ae (bM t Z M) kb↔ae (t Z M) λv M=>kb (!v) M:=by simp[bM]
variable{kf:Fl->Mem->Prop}{sa sb:GS}
def gG (b:GS)(k:Fl->Mem->Prop):Fl->Mem->Prop
 |.next Z,M=>ae (b Z M) k
 |.ret d,M=>k (.ret d) M
 |.exc x Z,M=>k (.exc x Z) M
@[simp] theorem OE {b:GS}{x:D}:gG b kf (.exc x Z) M↔kf (.exc x Z) M:=RL
@[simp] theorem aX {b:GS}:gG b kf (.next Z) M↔ae (b Z M) kf:=RL
@[simp] theorem OD {b:GS}{d:D}:gG b kf (.ret d) M↔kf (.ret d) M:=RL
@[simp] theorem aD:ae (bc sa sb Z M) kf↔ae (sa Z M) (gG sb kf):=by
 simp only[bc,bf];refine iff_of_eq ?_;congr 1;funext fl M;cases fl<;>rfl
@[simp] theorem fu:ae (aC Z M) kf↔kf (.next Z) M:=RL
@[simp] theorem mq {i:Nat}:ae (ao (.one i) a Z M) kf↔ae (a Z M) λx M=>kf (.next (Z.set i (some x))) M:=by simp[ao,b4]
@[simp] theorem QI {l:List Nat}:ae (ao (.tup l) a Z M) kf↔ae (a Z M) λx M=>∃ds ρ1,x=.tup ds/\cg l ds Z=some ρ1/\kf (.next ρ1) M:=by
 simp only[ao,bf,gL,bE];refine iff_of_eq ?_;congr 1;funext x M;cases x<;>simp[b4]
@[simp] theorem ka:ae (eY a b d Z M) kf↔ae (d Z M) λz M=>ae (a Z M) λx M=>ae (b Z M) λy M=>∃j n ds i,x=.cell j/\y=.int n/\M[j]?=some ds/\bY ds.length n=some i/\kf (.next Z) (M.set j (ds.set i z)):=by
 simp only[eY,bf];refine iff_of_eq ?_
 congr 1;funext z M;congr 1;funext x M;congr 1;funext y M
 cases x with
 | cell j=>
   cases y with
   | int n=>
     cases e:M[j]? with
     |none=>simp[e]
     | some ds=>
       cases e2:bY ds.length n with
       |none=>simp[e,e2]
       |some i=>simp[e,e2]
   |_=>simp
 |_=>simp
set_option tactic.hygienic true in
@[simp] theorem zN:ae (cU a d Z M) kf↔ae (a Z M) λx M=>ae (d Z M) λz M=>∃j ds,x=.cell j/\M[j]?=some ds/\ds.length<sz/\kf (.next Z) (M.set j (ds++[z])):=by
 simp only[cU,bf];refine iff_of_eq ?_
 congr 1;funext x M;congr 1;funext z M
 cases x<;>simp;rename_i j;cases e:M[j]? with
 |none=>simp
 |some ds=>by_cases h:ds.length<sz<;>simp[h]
@[simp] theorem eX:ae (aA a Z M) kf↔ae (a Z M) λx M=>kf (.ret x) M:=by simp[aA]
@[simp] theorem P9:ae (D6 Z M) kf↔kf (.ret .non) M:=RL
@[simp] theorem Qa:ae (D7 Z M) kf↔kf (.next Z) M:=RL
@[simp] theorem QH:ae (xy Z M) kf↔False:=RL
@[simp] theorem ml:ae (aI t sa sb Z M) kf↔ae (t Z M) λv M=>if v=true then ae (sa Z M) kf else ae (sb Z M) kf:=by
 simp only[aI,bf];refine iff_of_eq ?_;congr 1;funext v M;cases v<;>simp
variable{kw:Walk->Mem->Prop}
set_option tactic.hygienic true in
@[simp] theorem eV:ae (cJ a Z M) kw↔ae (a Z M) λx M=>∃n,x=.int n/\(-(2^62)<=n/\n<2^62)/\kw (λ_=>some ((List.range n.toNat).map λ(k:Nat)=>D.int (k:Int))) M:=by
 simp only[cJ,bf];refine iff_of_eq ?_;congr 1;funext x M;cases x<;>simp;rename_i n;split<;>simp[*]
@[simp] theorem fA:ae (b8 a Z M) kw↔ae (a Z M) λx M=>da x=true/\kw (λM=>bT M x) M:=by
 simp only[b8,bf];refine iff_of_eq ?_;congr 1;funext x M;cases x<;>simp[da]<;>rfl
@[simp] theorem Ie:ae (iL a Z M) kw↔ae (a Z M) λx M=>da x=true/\kw (λM=>(bT M x).map (eF 0)) M:=by
 simp only[iL,bf];refine iff_of_eq ?_;congr 1;funext x M;split<;>simp[*]
@[simp] theorem Ql:ae (nR a b Z M) kw↔ae (a Z M) λx M=>ae (b Z M) λy M=>(da x&&da y)=true/\kw (pw x y) M:=by
 simp only[nR,bf];refine iff_of_eq ?_;congr 1;funext x M;congr 1;funext y M;split<;>simp[*]
def mM (k:D->Mem->Prop):Fl->Mem->Prop
 |.ret d,M=>k d M
 |.next _,M=>k .non M
 |.exc _ _,_=>False
@[simp] theorem Qi {d:D}:mM k (.ret d) M↔k d M:=RL
@[simp] theorem PB:mM k (.next Z) M↔k .non M:=RL
def aE {d:Df}{ds:List D}(e:P f=some d)(hl:ds.length=d.params)(h:ae (d.body (ah P n) (ds.map some++List.replicate (d.slots-ds.length) none) M) (mM k)):ae (ah P (n+1) f ds M) k:=by
 show ae (match P f with|none=>Res.bad|some d=>gu (ah P n) d ds M) k
 rw[e];show ae (gu (ah P n) d ds M) k;unfold gu;rw[if_pos hl];revert h;cases d.body (ah P n) (ds.map some++List.replicate (d.slots-ds.length) none) M with
 |ok fl M=>cases fl<;>exact id
 |err=>exact id
 |bad=>exact id
@[simp] theorem uh {h:Type}{a:h}{k:h->Mem->Prop}{j:D->Mem->Prop}:fB (.ok a M) k j↔k a M:=RL
@[simp] theorem Qd {h:Type}{x:D}{k:h->Mem->Prop}:fB (.err x M:Res h) k kx↔kx x M:=RL
def yc (k h:D->Mem->Prop):Fl->Mem->Prop
 |.ret d,M=>k d M
 |.next _,M=>k .non M
 |.exc x _,M=>h x M
def pe {d:Df}{j:D->Mem->Prop}(e:P f=some d)(hl:ds.length=d.params)(h:ae (d.body (ah P n) (ds.map some++List.replicate (d.slots-ds.length) none) M) (yc k j)):fB (ah P (n+1) f ds M) k j:=by
 show fB (match P f with|none=>Res.bad|some d=>gu (ah P n) d ds M) k j
 rw[e];show fB (gu (ah P n) d ds M) k j;unfold gu;rw[if_pos hl];revert h;cases d.body (ah P n) (ds.map some++List.replicate (d.slots-ds.length) none) M with
 |ok fl M=>cases fl<;>exact id
 |err=>exact id
 |bad=>exact id
@[simp] theorem Ra {d:D}{h:D->Mem->Prop}:yc k h (.ret d) M↔k d M:=RL
@[simp] theorem Qh {h:D->Mem->Prop}:yc k h (.next Z) M↔k .non M:=RL
@[simp] theorem Rb:yc k kx (.exc x Z) M↔kx x M:=RL
@[simp] theorem P5 {f:Nat}:fB (bB f c s Z M) k kx↔ae (s Z M) λds M=>fB (c f ds M) k kx:=by
 unfold bB;cases s Z M<;>rfl
@[simp] theorem tV:ae (hR a Z M) kf↔fB (a Z M) (λ_ M=>kf (.next Z) M) (λx M=>kf (.exc x Z) M):=by
 unfold hR;cases a Z M<;>rfl
@[simp] theorem Gm {i:Nat}:ae (c8 (.one i) a Z M) kf↔fB (a Z M) (λx M=>kf (.next (Z.set i (some x))) M) (λx M=>kf (.exc x Z) M):=by
 unfold c8;cases a Z M<;>rfl
@[simp] theorem B6 {i:Nat}:ae (dH i s Z M) kf↔ae (s Z M) λds M=>ds.length<=sz/\kf (.exc (.exc i none) Z) M:=by
 unfold dH;cases s Z M with
 |ok ds j=>by_cases h:ds.length<=sz<;>simp[h]
 |err=>exact RL
 |bad=>exact RL
def fE {v:Type}{f:v->D->Mem->Res v}{w:Walk}{ds:List D}{a:v}{k:v->Mem->Prop}(I:Nat->v->Mem->Prop)(E:∀i a M,I i a M->w M=some ds)(B:I 0 a M)
 (hs:∀i d a M,ds[i]?=some d->I i a M->ae (f a d M) (I (i+1))) (hk:∀a M,I ds.length a M->k a M):ae (cV f w a M) k:=by
 have z:∀(m i:Nat) (a:v) (M:Mem),ds.length-i<m->i<=ds.length->I i a M->ae (gn f w m i a M) k:=by
  intro m;induction m with
  |zero=>intro i a M h;exact absurd h (S1 _)
  | succ m L=>
    intro i a M h hi y;show ae (match w M with|none=>Res.bad|some ds=>match ds[i]? with|none=>Res.ok a M|some d=>(f a d M).bind (gn f w m (i+1))) k
    rw[E i a M y];dsimp only;by_cases j:i<ds.length
    ·rw[QL j];simp only[bf];exact aT (hs i ds[i] a M (QL j) y) λH F J=>L (i+1) H F `a j J
    ·have e:i=ds.length:=`a
     subst e;rw[SK (Qy _)];exact hk a M y
 unfold cV;rw[E 0 a M B];exact z _ 0 a M `s (RG _) B
def dA {t:fW}{w:Walk}{v:GS}{ds:List D}(I:Nat->Env->Mem->Prop)(z:∀i Z M,I i Z M->w M=some ds)(y:I 0 Z M)
 (hs:∀i d Z M,ds[i]?=some d->I i Z M->∃ρ1,b4 t d Z=some ρ1/\ae (v ρ1 M) λfl M=>∃ρ',fl=.next ρ'/\I (i+1) ρ' M) (hk:∀Z M,I ds.length Z M->kf (.next Z) M):ae (cV (gm t v) w (.next Z) M) kf:=by
 refine fE (λi fl M=>∃Z,fl=.next Z/\I i Z M) ((by rintro i fl M ⟨Z,_,h⟩;exact z i Z M h)) ⟨Z,rfl,y⟩ ?_ ?_
 ·rintro i d fl M hd ⟨Z,rfl,j⟩;obtain⟨ρ1,e,h⟩:=hs i d Z M hd j;simp only[gm,bf,gL,e];exact⟨ρ1,rfl,h⟩
 ·rintro fl M ⟨Z,rfl,j⟩;exact hk Z M j
@[simp] theorem dR {j:fW}{w:GW}{h:GS}:ae (cy j w h Z M) kf↔ae (w Z M) λw M=>ae (cV (gm j h) w (.next Z) M) kf:=by simp[cy]
@[simp] theorem fb {m:Bool}{n:Nat}{h:fW}{w:GW}{g:GB}:ae (bG m n h w g Z M) k↔ae (w Z M) λw M=>ae (cV (cW h g (List.replicate n none++Z)) w [] M) λacc M=>ae (aS m acc M) k:=by simp[bG]
variable{kl:List D->Mem->Prop}
@[simp] theorem E2 {ge:GE}{acc:List D}:ae (bI ge Z acc M) kl↔ae (ge Z M) λx M=>acc.length<sz/\kl (acc++[x]) M:=by
 simp only[bI,bf];refine iff_of_eq ?_;congr 1;funext x M;split<;>simp[*]
def comp_map {v:fW}{w:Walk}{ge:GE}{ds:List D}{j:Env}(I:Nat->List D->Mem->Prop)(hz:ds.length<=sz)(B:∀i acc M,I i acc M->w M=some ds)(y:I 0 [] M)
 (hs:∀i d acc M,ds[i]?=some d->acc.length=i->I i acc M->∃ρ1,b4 v d j=some ρ1/\ae (ge ρ1 M) λx M=>I (i+1) (acc++[x]) M) (hk:∀acc M,acc.length=ds.length->I ds.length acc M->kl acc M) :
 ae (cV (cW v (bI ge) j) w [] M) kl:=by
 refine fE (λi acc M=>acc.length=i/\I i acc M) (λi acc M h=>B i acc M h.2) ⟨rfl,y⟩ ?_ (λacc M h=>hk acc M h.1 h.2);rintro i d acc M hd ⟨hl,z⟩;obtain⟨ρ1,e,h⟩:=hs i d acc M hd hl z;have hi:i<ds.length:=(Qr.mp hd).1;simp only[cW,bf,gL,e,E2];exact{ρ1,rfl,aT h λx M h=>{`a,by simp[hl],h}}
end
def b6 {M:Mem}(j:t Z M=.ok false M)(h:ae (rest Z M) k):ae (bc (aI t A aC) rest Z M) k:=by
 simp only[aD,ml];rw[j];exact h
def Ha {k:Fl->Mem->Prop}(j:t Z M=.ok true M)(he:e Z M=.ok v M)(h:k (.ret v) M):ae (bc (aI t #v[aA e] aC) rest Z M) k:=by
 simp only[aD,ml,eX];rw[j];show ae (e Z M) _;rw[he];exact h
def bH {v:D}(he:e Z M=.ok v M)(h:k (.ret v) M):ae (#v[aA e] Z M) k:=by
 simp only[aD,eX];rw[he];exact h
structure HasB0 (P:Nat->Option Df):Prop where
 is_between:P 0=some {3,3,ju}
 is_word:P 1=some {2,2,mV}
 is_place:P 2=some {2,2,lS}
 is_cost:P 3=some {1,1,m7}
 is_tuple_of:P 4=some {2,2,iB}
 is_table:P 5=some {2,2,lR}
 is_double_table:P 6=some {2,2,fZ}
 is_turn:P 7=some {3,6,mW}
 is_join:P 8=some {3,7,mY}
 is_move:P 9=some {3,6,mX}
 is_put:P 10=some {3,6,pf}
 is_deed:P 11=some {3,5,mZ}
 is_machine:P 12=some {1,4,jt}
 need_machine:P 13=some {1,1,hZ}
structure HasM0 (P:Nat->Option Df):Prop extends HasB0 P where
 is_deed_number:P 16=some {2,2,fm}
 need_numbers:P 17=some {2,4,hX}
 need_row:P 18=some {2,2,lP}
structure HasM (P:Nat->Option Df):Prop extends HasM0 P where
 turned:P 20=some {2,6,lN}
 joined:P 21=some {2,7,lQ}
 moved:P 22=some {2,6,n8}
 put_in:P 23=some {2,6,lO}
 done:P 24=some {2,4,qi}
 all_standing:P 25=some {3,5,h9}
structure HasP0 (P:Nat->Option Df):Prop where
 law_spread:P 28=some {2,6,lZ}
 law_open:P 29=some {1,4,j4}
 law_anew:P 30=some {1,1,j5}
 law_take:P 31=some {2,5,oy}
structure HasP (P:Nat->Option Df):Prop extends HasP0 P where
 law_tab:P 32=some {2,6,iR}
 law_deed:P 33=some {3,7,ie}
 law_machine:P 34=some {4,8,fT}
instance coeHasB0 {P:Nat->Option Df}:Coe (HasM0 P) (HasB0 P):=⟨HasM0.toHasB0⟩
instance coeHasBM {P:Nat->Option Df}:Coe (HasM P) (HasB0 P):={λh=>h.toHasM0.toHasB0}
structure jU (P:Nat->Option Df):Prop where
 turned:P 20=some {2,6,lN}
 joined:P 21=some {2,7,lQ}
 moved:P 22=some {2,6,n8}
 put_in:P 23=some {2,6,lO}
 done:P 24=some {2,4,qi}
def HasM.r {P:Nat->Option Df}(h:HasM P):jU P:=⟨h.turned,h.joined,h.moved,h.put_in,h.done⟩
instance coeHasR0 {P:Nat->Option Df}:Coe (HasM P) (jU P):=⟨HasM.r⟩
instance coeHasM {P:Nat->Option Df}:Coe (HasM P) (HasM0 P):=⟨HasM.toHasM0⟩
instance coeHasP {P:Nat->Option Df}:Coe (HasP P) (HasP0 P):=⟨HasP.toHasP0⟩
@[simp] theorem Ro {d:Option D}{r:Env}:(d::r)[0]?.getD none=d:=rfl
section
variable{M:Mem}{k:D->Mem->Prop}
def kr {j:Type}{c:Prop}[Decidable c]{r:Res j}{k:j->Mem->Prop}:ae (if c then r else .bad) k↔c/\ae r k:=by split<;>simp[*]
@[simp] theorem vA {m:Bool}{i j:Int}:ae (fK m .add (.int i) (.int j) M) k↔k (.int (i+j)) M:=RL
@[simp] theorem IJ {m:Bool}{i j:Int}:ae (fK m .sub (.int i) (.int j) M) k↔k (.int (i-j)) M:=RL
@[simp] theorem QZ {m:Bool}{i j:Int}:ae (fK m .mul (.int i) (.int j) M) k↔((-(2^64)<i/\i<2^64)\/(-(2^64)<j/\j<2^64))/\k (.int (i*j)) M:=kr
@[simp] theorem Q0 {m:Bool}{i j:Int}:ae (fK m .mod (.int i) (.int j) M) k↔0<j/\k (.int (i % j)) M:=kr
@[simp] theorem Qj {m:Bool}{i j:Int}:ae (fK m .fdiv (.int i) (.int j) M) k↔(0<j/\j<1073741824)/\k (.int (i / j)) M:=kr
@[simp] theorem Bc {m:Bool}{x y:List D}:ae (fK m .add (.tup x) (.tup y) M) k↔(x++y).length<=sz/\k (.tup (x++y)) M:=by
 show ae (lA _ _) k↔_;unfold lA;exact kr
@[simp] theorem Ri {m:Bool}{x y:List D}:ae (fK m .add (.lst x) (.lst y) M) k↔ae (aS m (x++y) M) k:=RL
@[simp] theorem Qm {i j:Int}:bx .lt (.int i) (.int j) M=some (decide (i<j)):=rfl
@[simp] theorem Qn {i j:Int}:bx .le (.int i) (.int j) M=some (decide (i<=j)):=rfl
@[simp] theorem Qo {i j:Int}:bx .gt (.int i) (.int j) M=some (decide (j<i)):=rfl
@[simp] theorem Qp {i j:Int}:bx .ge (.int i) (.int j) M=some (decide (j<=i)):=rfl
@[simp] theorem Rt {i j:Int}:bx .eq (.int i) (.int j) M=some (i==j):=rfl
@[simp] theorem Rr {i j:Int}:bx .ne (.int i) (.int j) M=some (!(i==j)):=rfl
@[simp] theorem Qx {b:Bool}:jX M (.bl b)=some b:=rfl
@[simp] theorem P6 {ds:List D}:jX M (.tup ds)=some (!ds.isEmpty):=rfl
@[simp] theorem P7 {ds:List D}:jX M (.lst ds)=some (!ds.isEmpty):=rfl
@[simp] theorem Qe {ds:List D}:ae (di .len [.tup ds] M) k↔k (.int ds.length) M:=RL
@[simp] theorem Qf {ds:List D}:ae (di .len [.lst ds] M) k↔k (.int ds.length) M:=RL
@[simp] theorem Qk {ds:List D}:ae (di .all [.lst ds] M) k↔∃bs,boolsOf ds=some bs/\k (.bl (bs.all id)) M:=by
 show ae (match boolsOf ds with|some bs=>_|none=>_) k↔_
 cases boolsOf ds<;>simp
@[simp] theorem P8 {ds:List D}:ae (di .sum [.lst ds] M) k↔∃bs,intsOf ds=some bs/\k (.int bs.sum) M:=by
 show ae (match intsOf ds with|some bs=>_|none=>_) k↔_
 cases intsOf ds<;>simp
@[simp] theorem N2 {ds:List D}:ae (di .tuple [.lst ds] M) k↔k (.tup ds) M:=RL
@[simp] theorem xn {j:Nat}:ae (di .tuple [.cell j] M) k↔∃ds,M[j]?=some ds/\k (.tup ds) M:=by
 show ae (match M[j]? with|some xs=>_|none=>_) k↔_
 cases M[j]?<;>simp
@[simp] theorem CA {m:Bool}{ds:List D}:ae (di (.list m) [.lst ds] M) k↔ae (aS m ds M) k:=RL
@[simp] theorem gD {ds:List D}{i:Int}:bJ (.tup ds) (.int i) M=(bY ds.length i).bind λj=>ds[j]?:=rfl
@[simp] theorem Qg {ds:List D}{i:Int}:bJ (.lst ds) (.int i) M=(bY ds.length i).bind λj=>ds[j]?:=rfl
@[simp] theorem Pq {j:Nat}{i:Int}:bJ (.cell j) (.int i) M=(M[j]?).bind λds=>(bY ds.length i).bind λj=>ds[j]?:=rfl
def dg {n i:Nat}(h:i<n):bY n (i:Int)=some i:=by
 unfold bY;rw[if_pos (Int.natCast_nonneg i),if_pos (by exact_mod_cast h)];rfl
def G9 {n:Nat}(h:0<n):bY n (-1)=some (n-1):=by
 unfold bY;rw[if_neg `a,if_pos `a]
 congr 1;omega
end
def fJ {j:Type}{r:Res j}{d:j}{M:Mem}(h:ae r λx M'=>x=d/\M'=M):r=.ok d M:=by
 obtain⟨a,M',e,rfl,rfl⟩:=eT.mp h;exact e
def aj {r:Res D}{d:D}{M:Mem}(h:ae r λx M'=>x=d/\M'=M):r=.ok d M:=by
 obtain⟨a,M',e,rfl,rfl⟩:=eT.mp h;exact e
section
variable{P:Nat->Option Df}(h:HasB0 P){M:Mem}
include h
theorem ff (n:Nat)(t lo hi:Int):ah P (n+1) 0 [.int t,.int lo,.int hi] M=.ok (.bl (decide (lo<=t)&&decide (t<=hi))) M:=by
 refine aj (aE h.is_between rfl ?_);simp[ju,gQ];by_cases h1:lo<=t<;>simp[h1]<;>omega
end
def dN {z:fW}{w:Walk}{ge:GE}{ds:List D}{u:Env}{M:Mem}{y:List D->Mem->Prop}(f:D->D)(hz:ds.length<=sz)(B:w M=some ds)(hs:∀d∈ds,∃ρ1,b4 z d u=some ρ1/\ge ρ1 M=.ok (f d) M)(hk:y (ds.map f) M) :
 ae (cV (cW z (bI ge) u) w [] M) y:=by
 refine comp_map (λi j v=>v=M/\j=(ds.take i).map f) hz (λi j v h=>by rw[h.1];exact B) ⟨rfl,rfl⟩ ?_ ?_
 ·rintro i d j v hd _ ⟨rfl,rfl⟩;obtain⟨ρ1,e1,e2⟩:=hs d (QT hd);refine{ρ1,e1,?_};rw[e2];refine{rfl,?_};have E:i<ds.length:=(Qr.mp hd).1;rw[RI,hd];simp
 ·rintro j v _ ⟨rfl,rfl⟩;simpa using hk
def yt {ds:List D}(h:∀d∈ds,d=.bl true):∃bs,boolsOf ds=some bs/\bs.all id=true:=by
 induction ds with
 |nil=>exact{[],rfl,rfl}
 | cons d r j=>
   obtain⟨bs,e,q⟩:=j λd hd=>h d (QF _ hd);obtain rfl:=h d QM;exact{true::bs,by simp[boolsOf,e],by simpa using q}
def pj {u:fW}{ge:GE}{w:Walk}{ds:List D}{j:Env}{M:Mem}(hz:ds.length<=sz)(v:w M=some ds)(he:∀d∈ds,∃ρ1,b4 u d j=some ρ1/\ge ρ1 M=.ok (.bl true) M) :
 ae (cV (cW u (bI ge) j) w [] M) λacc M'=>acc.length<=sz/\∃bs,boolsOf acc=some bs/\¬ false∈bs/\M'=M:=by
 refine dN (λ_=>.bl true) hz v he ?_;obtain⟨bs,y,B⟩:=yt (ds:=ds.map λ_=>D.bl true) `s
 refine{by simpa using hz,bs,y,λz=>?_,rfl}
 have:=QV.mp B false z;cases this
abbrev nD (n:Nat):D:=.int (n:Int)
def au (l:List Nat):D:=.tup (l.map nD)
inductive aW where
 |turn (at_:Nat) (tab:List Nat) (cost:Nat)
 |join (at_ other:Nat) (tab:List (List Nat)) (cost:Nat)
 |move (at_ other cost:Nat)
 |put (at_ word cost:Nat)
def aW.d:aW->D
 |.turn a t c=>.tup [.str "turn",nD a,au t,nD c]
 |.join a o t c=>.tup [.str "join",nD a,nD o,.tup (t.map au),nD c]
 |.move a o c=>.tup [.str "move",nD a,nD o,nD c]
 |.put a w c=>.tup [.str "put",nD a,nD w,nD c]
noncomputable def aW.cost:aW->Nat
 |.turn _ _ c=>c
 |.join _ _ _ c=>c
 |.move _ _ c=>c
 |.put _ _ c=>c
structure aH where
 words:Nat
 places:Nat
 deeds:List aW
noncomputable def aH.d (m:aH):D:=.tup [nD m.words,nD m.places,.tup (m.deeds.map aW.d)]
def gZ (w:Nat)(t:List Nat):Prop:=t.length=w/\∀x∈t,x<w
def fP (c:Nat):Prop:=1<=c/\c<=3
def bO (w p:Nat):aW->Prop
 |.turn a t c=>a<p/\gZ w t/\fP c
 |.join a o t c=>a<p/\o<p/\(t.length=w/\∀x∈t,gZ w x)/\fP c
 |.move a o c=>a<p/\o<p/\fP c
 |.put a x c=>a<p/\x<w/\fP c
structure aK (m:aH):Prop where
 w2:2<=m.words
 w4:m.words<=4
 p1:1<=m.places
 p2:m.places<=2
 d1:1<=m.deeds.length
 d6:m.deeds.length<=6
 ok:∀d∈m.deeds,bO m.words m.places d
def ay {n:Nat}(h:n<=100000):n<=sz:=QC h `d
section
variable{P:Nat->Option Df}(h:HasB0 P){M:Mem}
include h
theorem vV (n:Nat){w t:Nat}(j:t<w):ah P (n+2) 1 [nD w,nD t] M=.ok (.bl true) M:=by
 refine aj (aE h.is_word rfl ?_);simp[mV,ff h];omega
theorem hJ (n:Nat){w t:Nat}(j:t<w):ah P (n+2) 2 [nD w,nD t] M=.ok (.bl true) M:=by
 refine aj (aE h.is_place rfl ?_);simp[lS,ff h];omega
theorem kL (n:Nat){c:Nat}(j:fP c):ah P (n+2) 3 [nD c] M=.ok (.bl true) M:=by
 unfold fP at j;refine aj (aE h.is_cost rfl ?_);simp[m7,ff h];omega
theorem oG (n:Nat){w:Nat}{ds:List D}(j:ds.length=w):ah P (n+1) 4 [nD w,.tup ds] M=.ok (.bl true) M:=by
 refine aj (aE h.is_tuple_of rfl ?_);simp[iB,gQ,j]
theorem tJ (n:Nat){w:Nat}{t:List Nat}(v:w<=4)(j:gZ w t):ah P (n+3) 5 [nD w,au t] M=.ok (.bl true) M:=by
 refine aj (aE h.is_table rfl ?_);have e:ah P (n+2) 4 [nD w,au t] M=.ok (.bl true) M:=oG h (n+1) (by simpa using j.1)
 simp[lR,e];refine{rfl,pj (ay (by simp[j.1];omega)) rfl λd hd=>?_}
 obtain⟨x,u,rfl⟩:=QK.mp hd;refine{_,rfl,aj ?_};simp[vV h n (j.2 x u)]
theorem zG (n:Nat){w:Nat}{t:List (List Nat)}(u:w<=4)(j:t.length=w/\∀x∈t,gZ w x):ah P (n+4) 6 [nD w,.tup (t.map au)] M=.ok (.bl true) M:=by
 refine aj (aE h.is_double_table rfl ?_);have e:ah P (n+3) 4 [nD w,.tup (t.map au)] M=.ok (.bl true) M:=oG h (n+2) (by simpa using j.1)
 simp[fZ,e];refine{rfl,pj (ay (by simp[j.1];omega)) rfl λd hd=>?_}
 obtain⟨x,v,rfl⟩:=QK.mp hd;refine{_,rfl,aj ?_};simp[tJ h n u (j.2 x v)]
theorem FU (n:Nat){w p a c:Nat}{t:List Nat}(j:w<=4)(hd:bO w p (.turn a t c)):ah P (n+4) 7 [nD w,nD p,.tup [nD a,au t,nD c]] M=.ok (.bl true) M:=by
 obtain⟨h1,h2,h3⟩:=hd;refine aj (aE h.is_turn rfl ?_);simp[mW,cg,hJ h (n+1) h1,tJ h n j h2,kL h (n+1) h3]
theorem F2 (n:Nat){w p a o c:Nat}{t:List (List Nat)}(j:w<=4)(hd:bO w p (.join a o t c)):ah P (n+5) 8 [nD w,nD p,.tup [nD a,nD o,.tup (t.map au),nD c]] M=.ok (.bl true) M:=by
 obtain⟨h1,h2,h3,h4⟩:=hd;refine aj (aE h.is_join rfl ?_);simp[mY,cg,hJ h (n+2) h1,hJ h (n+2) h2,zG h n j h3,kL h (n+2) h4]
theorem FY (n:Nat){w p a o c:Nat}(hd:bO w p (.move a o c)):ah P (n+3) 9 [nD w,nD p,.tup [nD a,nD o,nD c]] M=.ok (.bl true) M:=by
 obtain⟨h1,h2,h3⟩:=hd;refine aj (aE h.is_move rfl ?_);simp[mX,cg,hJ h n h1,hJ h n h2,kL h n h3]
theorem FW (n:Nat){w p a x c:Nat}(hd:bO w p (.put a x c)):ah P (n+3) 10 [nD w,nD p,.tup [nD a,nD x,nD c]] M=.ok (.bl true) M:=by
 obtain⟨h1,h2,h3⟩:=hd;refine aj (aE h.is_put rfl ?_);simp[pf,cg,hJ h n h1,vV h n h2,kL h n h3]
end
def O4:eO.lookup (Str.ofString "turn")=some 7:=`k
def O3:eO.lookup (Str.ofString "join")=some 8:=`k
def O2:eO.lookup (Str.ofString "move")=some 9:=`k
def O1:eO.lookup (Str.ofString "put")=some 10:=`k
section
variable{P:Nat->Option Df}(h:HasB0 P){M:Mem}
include h
theorem sU (n:Nat){w p f:Nat}{s:Str}{ds:List D}(lk:eO.lookup s=some f)(q:ah P (n+5) f [nD w,nD p,.tup ds] M=.ok (.bl true) M):ah P (n+6) 11 [nD w,nD p,.tup (.str s::ds)] M=.ok (.bl true) M:=by
 refine aj (aE h.is_deed rfl ?_);simp[-List.lookup_isSome_iff,mZ,gQ,bY,lk,cj,aO,e9,cut,q]
theorem F6 (n:Nat){w p:Nat}{d:aW}(j:w<=4)(hd:bO w p d):ah P (n+6) 11 [nD w,nD p,d.d] M=.ok (.bl true) M:=by
 cases d with
 |turn a t c=>exact sU h n O4 (FU h (n+1) j hd)
 |join a o t c=>exact sU h n O3 (F2 h n j hd)
 |move a o c=>exact sU h n O2 (FY h (n+2) hd)
 |put a x c=>exact sU h n O1 (FW h (n+2) hd)
theorem FZ (n:Nat){m:aH}(hm:aK m):ah P (n+7) 12 [m.d] M=.ok (.bl true) M:=by
 refine aj (aE h.is_machine rfl ?_);have e:ah P (n+6) 4 [.int 3,.tup [nD m.words,nD m.places,.tup (m.deeds.map aW.d)]] M=.ok (.bl true) M:=oG h (n+5) rfl;have l1:=hm.d1;have u:=hm.d6;have b1:(decide ((2:Int)<=(m.words:Int))&&decide ((m.words:Int)<=4))=true:=by have:=hm.w2;have:=hm.w4;simp;omega
 have b2:(decide ((1:Int)<=(m.places:Int))&&decide ((m.places:Int)<=2))=true:=by have:=hm.p1;have:=hm.p2;simp;omega
 simp only[QD,decide_eq_true_eq] at b1 b2;simp[jt,aH.d,e,cg,ff h,b1,b2,gQ];refine{`a,`a,rfl,pj (ay `o) rfl λd hd=>?_}
 obtain⟨x,j,rfl⟩:=QK.mp hd;refine{_,rfl,aj ?_};simp[F6 h n hm.w4 (hm.ok x j)]
end
section
variable{Z:Env}{M:Mem}{a b:GE}{s:GA}{k:D->Mem->Prop}{kf:Fl->Mem->Prop}{t u:GT}{A rest:GS}
def bq {t rest:GS}{ρ':Env}(e:t Z M=.ok (.next ρ') M)(h:ae (rest ρ' M) kf):ae (bc t rest Z M) kf:=by
 simp only[aD];rw[e];exact h
def af {x:D}{xs:List D}(h:a Z M=.ok x M)(es:s Z M=.ok xs M):bz a s Z M=.ok (x::xs) M:=by
 unfold bz;rw[h];show(s Z M).bind _=_;rw[es];rfl
def cY {xs:List D}(es:s Z M=.ok xs M)(hl:xs.length<=100):aL false s Z M=.ok (.lst xs) M:=by
 unfold aL;rw[es];show(if xs.length<=sz then(if false=true then _ else Res.ok (D.lst xs) M) else .bad)=_;rw[if_pos (ay `a)]
 rfl
def ng {xs ys:List D}(h:a Z M=.ok (.lst xs) M)(j:b Z M=.ok (.lst ys) M)(hl:(xs++ys).length<=100):ag false .add a b Z M=.ok (.lst (xs++ys)) M:=by
 unfold ag;rw[h];show(b Z M).bind _=_;rw[j];show(if (xs++ys).length<=sz then(if false=true then _ else Res.ok (D.lst (xs++ys)) M) else .bad)=_;rw[if_pos (ay `a)]
 rfl
def bK {i:Nat}{x:D}(e:a Z M=.ok x M):ao (.one i) a Z M=.ok (.next (Z.set i (some x))) M:=by
 unfold ao;rw[e];rfl
def aq {j:Nat}{x:D}(h:Z[j]?.getD none=some x):aa j Z M=.ok x M:=by
 unfold aa;rw[h];rfl
def bh {f:Nat}{c:Call}{xs:List D}(e:s Z M=.ok xs M):ai f c s Z M=c f xs M:=by
 unfold ai;rw[e];rfl
def cn {i:Nat}(h:ae (a Z M) k)(hk:∀x M',k x M'->ae (rest (Z.set i (some x)) M') kf):ae (bc (ao (.one i) a) rest Z M) kf:=by
 obtain⟨x,M',e,q⟩:=eT.mp h;simp only[aD];unfold ao;rw[e];exact hk x M' q
def mF (j:t Z M=.ok true M)(h:ae (A Z M) (gG rest kf)):ae (bc (aI t A aC) rest Z M) kf:=by
 simp only[aD,ml];rw[j];exact h
def bu {b:Bool}(h:t Z M=.ok b M)(h1:b=true->ae (A Z M) (gG rest kf))(h2:b=false->ae (rest Z M) kf):ae (bc (aI t A aC) rest Z M) kf:=by
 cases b with
 |true=>exact mF h (h1 rfl)
 |false=>exact b6 h (h2 rfl)
def jc {b:Bool}(h:t Z M=.ok b M):bM t Z M=.ok (!b) M:=by
 unfold bM;rw[h];rfl
def bR {b:Bool}(h:a Z M=.ok (.bl b) M):ak a Z M=.ok b M:=by
 unfold ak;rw[h];rfl
def My (h1:t Z M=.ok false M)(h2:u Z M=.ok false M):eQ t u Z M=.ok false M:=by
 unfold eQ;rw[h1];exact h2
def sO {x y:Bool}(h1:t Z M=.ok x M)(h2:u Z M=.ok y M):eQ t u Z M=.ok (x||y) M:=by
 unfold eQ;rw[h1];cases x with
 |true=>rfl
 |false=>exact h2
def LM {b:Bool}(h1:t Z M=.ok b M)(h2:b=true->u Z M=.ok false M):eW t u Z M=.ok false M:=by
 unfold eW;rw[h1];cases b with
 |true=>exact h2 rfl
 |false=>rfl
def ra {x y:Bool}(h1:t Z M=.ok x M)(h2:u Z M=.ok y M):eW t u Z M=.ok (x&&y) M:=by
 unfold eW;rw[h1];cases x with
 |true=>exact h2
 |false=>rfl
def Bb {x y:Bool}(h1:a Z M=.ok (.bl x) M)(h2:x=true->b Z M=.ok (.bl y) M):dS a b Z M=.ok (.bl (x&&y)) M:=by
 unfold dS;rw[h1];cases x with
 |true=>exact h2 rfl
 |false=>rfl
def gB {k:Bool}{x:D}(h:t Z M=.ok k M)(h1:k=true->a Z M=.ok x M)(h2:k=false->b Z M=.ok x M):fY t a b Z M=.ok x M:=by
 unfold fY;rw[h];cases k with
 |true=>exact h1 rfl
 |false=>exact h2 rfl
def u5 {l h i:Int}{c:GE}(h1:a Z M=.ok (.int l) M)(h2:b Z M=.ok (.int i) M)(h3:c Z M=.ok (.int h) M):j0 .le .le a b c Z M=.ok (.bl (decide (l<=i)&&decide (i<=h))) M:=by
 unfold j0;rw[h1];show(b Z M).bind _=_;rw[h2];show(if decide (l<=i)=true then _ else _)=_;cases decide (l<=i) with
 | true=>
   show(c Z M).bind _=_;rw[h3];rfl
 |false=>rfl
end
structure Sub (M M':Mem):Prop where
 len:M.length<=M'.length
 at':∀k,k<M.length->M'[k]?=M[k]?
def Sub.refl:Sub M M:={Qy _,λ_ _=>rfl}
def Sub.trans (a:Sub M M1)(b:Sub M1 M2):Sub M M2:={QC a.len b.len,λk hk=>(b.at' k (QO hk a.len)).trans (a.at' k hk)}
def Sub.app:Sub M (M++X):={`s,λk hk=>QE hk}
def Sub.get {k:Nat}(h:Sub M M')(e:M[k]?=some ds):M'[k]?=some ds:=by rw[h.at' k (Qr.mp e).1];exact e
def Sub.setq (h:Sub M M')(j:M.length<=q):Sub M (M'.set q ds):={by simpa using h.len,λk hk=>by rw[QJ `a];exact h.at' k hk}
def yn (f:D->D)(hz:acc0.length+ds.length<=sz)(v:w M=some ds)(hs:∀d∈ds,∃ρ1,b4 tg d ρ0=some ρ1/\ge ρ1 M=.ok (f d) M)(hk:kl (acc0++ds.map f) M) :
 ae (cV (cW tg (bI ge) ρ0) w acc0 M) kl:=by
 refine fE (λi j u=>u=M/\j=acc0++(ds.take i).map f) (λi j u h=>by rw[h.1];exact v) {rfl,`s} ?_ ?_
 ·rintro i d j u hd ⟨rfl,rfl⟩;obtain⟨ρ1,e1,e2⟩:=hs d (QT hd);have y:i<ds.length:=(Qr.mp hd).1;simp only[cW,bf,gL,e1,E2];refine{ρ1,rfl,?_};rw[e2];refine{by simp;omega,rfl,?_}
  rw[RI,hd];simp
 ·rintro j u ⟨rfl,rfl⟩;simpa using hk
noncomputable def qQ {j u:Type}(f:j->List u)(n:Nat):∀(ds:List j),(∀d∈ds,(f d).length<=n)->(ds.flatMap f).length<=ds.length*n
 |[],_=>`s
 | d::r,h=>by
   have h1:=h d QM;have h2:=qQ f n r λd hd=>h d (QF _ hd);simp only[List.flatMap_cons,Qt,Rw,Nat.succ_mul];omega
def yo (j:D->List D)(f:D->D->D)(n:Nat)(hn:∀d∈ds,(j d).length<=n)(hz:ds.length*n<=sz)(H:w M=some ds)
 (hs:∀d∈ds,∃ρ1,b4 t d ρ0=some ρ1/\∃w2,gw2 ρ1 M=.ok w2 M/\w2 M=some (j d)/\∀e∈j d,∃y,b4 u e ρ1=some y/\ge y M=.ok (f d e) M) (hk:kl (ds.flatMap λd=>(j d).map (f d)) M) :
 ae (cV (cW t (uS u gw2 (bI ge)) ρ0) w [] M) kl:=by
 refine fE (λi v z=>z=M/\v=(ds.take i).flatMap λd=>(j d).map (f d)) (λi v z h=>by rw[h.1];exact H) {rfl,`s} ?_ ?_
 ·rintro i d v z hd ⟨rfl,rfl⟩;obtain⟨ρ1,e1,w2,e2,E,F⟩:=hs d (QT hd);simp only[cW,bf,gL,e1,uS];refine{ρ1,rfl,?_};rw[e2];have B:(ds.take (i+1)).flatMap (λd=>(j d).map (f d))=(ds.take i).flatMap (λd=>(j d).map (f d))++(j d).map (f d):=by
   rw[RI,hd];simp
  have l1:=qQ (λd=>(j d).map (f d)) n (ds.take (i+1)) (λd hd=>by simpa using hn d (Q5 hd))
  rw[B] at l1;simp only[Qt,Qq,Q7] at l1;refine yn (f d) ?_ E F ⟨rfl,B.symm⟩;have:(min (i+1) ds.length)*n<=ds.length*n:=Nat.mul_le_mul_right _ (Nat.min_le_right _ _);omega
 ·rintro v z ⟨rfl,rfl⟩;simpa using hk
noncomputable def qR (w:Nat)(l:List (List Nat)):List (List Nat):=l.flatMap λs=>(List.range w).map λx=>s++[x]
noncomputable def dC (w:Nat):Nat->List (List Nat)
 |0=>[[]]
 |p+1=>qR w (dC w p)
def bp (m:aH):List (List Nat):=dC m.words m.places
def dZ (m:aH)(s:List Nat):Prop:=s.length=m.places/\∀x∈s,x<m.words
def vm:∀s∈dC w p,s.length=p/\∀x∈s,x<w:=by
 induction p with
 |zero=>intro s hs;simp[dC] at hs;subst hs;simp
 | succ p v=>
   intro s hs;simp only[dC,qR,List.mem_flatMap,QK,R0] at hs;obtain⟨t,j,x,B,rfl⟩:=hs;obtain⟨h1,h2⟩:=v t j;refine{by simp[h1],λy u=>?_}
   rcases Q2.mp u with z|z
   ·exact h2 y z
   ·simp at z;omega
def n6:∀s∈bp m,dZ m s:=vm
noncomputable def jS (j:w<=4):∀p≤2,(dC w p).length<=4^p
 |0,_=>by simp[dC]
 | p+1,u=>by
   have:=jS j p `a
   have l:=qQ (λs:List Nat=>(List.range w).map λx=>s++[x]) 4 (dC w p) (λd hd=>by simpa using j)
   calc _<=(dC w p).length*4:=l
    _<=4^p*4:=Nat.mul_le_mul_right _ this
    _=4^(p+1):=by rw[Nat.pow_succ]
def jo (hm:aK m):(bp m).length<=16:=by
 have h:=jS hm.w4 m.places hm.p2;have h1:=hm.p1;have h2:=hm.p2;have:m.places=1\/m.places=2:=`a
 rcases this with e|e<;>rw[e] at h<;>unfold bp<;>rw[e]<;>omega
theorem sq:∀(p:Nat) (s:List Nat),s.length=p->(∀x∈s,x<w)->s∈dC w p
 | 0,s,hl,_=>by
   obtain rfl:=Sz.mp hl;simp[dC]
 | p+1,s,hl,j=>by
   have ne:s≠[]:=by intro e;subst e;cases hl
   have u:=List.dropLast_concat_getLast ne;show s∈qR w (dC w p);unfold qR;rw[List.mem_flatMap];refine{s.dropLast,sq p _ (by simp[hl]) (λx h=>j x (List.dropLast_subset _ h)),?_}
   rw[QK];exact{s.getLast ne,R0.mpr (j _ (List.getLast_mem ne)),u}
def Dk (hm:aK m)(h:dZ m s):s∈bp m:=sq _ s h.1 h.2
noncomputable def d9:aW->List Nat->Nat
 |.turn a t _,s=>t.getD (s.getD a 0) 0
 |.join a o t _,s=>(t.getD (s.getD a 0) []).getD (s.getD o 0) 0
 |.move _ o _,s=>s.getD o 0
 |.put _ x _,_=>x
def aW.at':aW->Nat
 |.turn a _ _=>a
 |.join a _ _ _=>a
 |.move a _ _=>a
 |.put a _ _=>a
def bS (d:aW)(s:List Nat):List Nat:=s.take d.at'++[d9 d s]++s.drop (d.at'+1)
def getD_mem {j:Type}{l:List j}{d:j}(h:i<l.length):l.getD i d∈l:=by
 rw[RJ,QL h];exact SA h
def xK {m:aH}(hd:bO m.words m.places d)(hs:dZ m s):d9 d s<m.words:=by
 obtain⟨hl,j⟩:=hs;cases d with
 | turn a t c=>
   obtain⟨h1,h2,h3⟩:=hd;have:=j _ (getD_mem (d:=0) (show a<s.length by omega))
   exact h2.2 _ (getD_mem (by rw[h2.1];exact this))
 | join a o t c=>
   obtain⟨h1,h2,h3,h4⟩:=hd;have a1:=j _ (getD_mem (d:=0) (show a<s.length by omega))
   have a2:=j _ (getD_mem (d:=0) (show o<s.length by omega))
   have a3:=h3.2 _ (getD_mem (d:=[]) (show s.getD a 0<t.length by rw[h3.1];exact a1))
   exact a3.2 _ (getD_mem (by rw[a3.1];exact a2))
 |move a o c=>exact j _ (getD_mem (by obtain⟨h1,h2,h3⟩:=hd;omega))
 |put a x c=>exact hd.2.1
def sW (hd:bO w p d):d.at'<p:=by cases d<;>exact hd.1
def rY (hd:bO m.words m.places d)(hs:dZ m s):dZ m (bS d s):=by
 have h1:=sW hd;have h2:=xK hd hs;obtain⟨hl,j⟩:=hs;refine{by simp[bS];omega,λx hm=>?_}
 simp only[bS,Q2,QN] at hm;rcases hm with(z|z)|z
 ·exact j x (Q5 z)
 ·omega
 ·exact j x (RN z)
def fD (m:aH)(r:List Nat):Prop:=r.length<=40/\∀i∈r,i<m.deeds.length
noncomputable def bW (m:aH)(i:Nat):aW:=m.deeds.getD i (.put 0 0 1)
noncomputable def dU (m:aH):List Nat->List Nat->List Nat
 |[],s=>s
 |i::r,s=>dU m r (bS (bW m i) s)
noncomputable def eZ (m:aH):List Nat->List Nat->List (List Nat)
 |[],s=>[s]
 |i::r,s=>s::eZ m r (bS (bW m i) s)
def gH {m:aH}(hm:aK m){i:Nat}(hi:i<m.deeds.length):bO m.words m.places (bW m i):=hm.ok _ (getD_mem hi)
noncomputable def qS (hm:aK m):∀{r:List Nat}{s:List Nat},(∀i∈r,i<m.deeds.length)->dZ m s->dZ m (dU m r s)
 |[],s,_,h=>h
 |i::r,s,hr,h=>qS (r:=r) hm (λj u=>hr j (QF _ u)) (rY (gH hm (hr i QM)) h)
noncomputable def pa:∀(a b s:List Nat),dU m (a++b) s=dU m b (dU m a s)
 |[],b,s=>rfl
 |i::a,b,s=>pa a b _
noncomputable def rG:∀(r:List Nat) (i:Nat) (s:List Nat),eZ m (r++[i]) s=eZ m r s++[bS (bW m i) (dU m r s)]
 |[],i,s=>rfl
 |j::r,i,s=>by simp[eZ,dU,rG r i]
noncomputable def oH:∀(r s:List Nat),(eZ m r s).length=r.length+1
 |[],s=>rfl
 |i::r,s=>by simp[eZ,oH r]
noncomputable def rH:∀(r s:List Nat),(eZ m r s)[r.length]?=some (dU m r s)
 |[],s=>rfl
 |i::r,s=>by simp[eZ,dU,rH r]
def om (r s:List Nat):((bY (eZ m r s).length (-1)).bind λj=>Option.map au (eZ m r s)[j]?)=some (au (dU m r s)):=by
 rw[oH,G9 `a]
 show Option.map au (eZ m r s)[r.length+1-1]?=_;rw[Nat.add_sub_cancel,rH];rfl
def BL {s:List Nat}(hi:i<s.length):(bY (s.map nD).length (i:Int)).bind (λj=>(s.map nD)[j]?)=some (nD (s.getD i 0)):=by
 rw[dg (by simpa using hi)]
 simp[RJ,hi]
def aV (r:List Nat):D:=.lst (r.map nD)
noncomputable def aN (m:aH)(r:List Nat):Nat:=(r.map λi=>(bW m i).cost).sum
def Cw {i:Nat}(hi:i<m.deeds.length):((bY (m.deeds.map aW.d).length (i:Int)).bind λj=>(m.deeds.map aW.d)[j]?)=some (bW m i).d:=by
 rw[dg (by simpa using hi)]
 simp[bW,RJ,hi]
def An {m:aH}:bJ m.d (.int 2) M=some (.tup (m.deeds.map aW.d)):=rfl
def lH (hi:i<m.deeds.length):bJ (.tup (m.deeds.map aW.d)) (nD i) M=some (bW m i).d:=Cw hi
def jL {d:aW}:bJ d.d (.int (-1)) M=some (nD d.cost):=by cases d<;>rfl
def gR {s:List Nat}(hi:i<s.length):bJ (au s) (nD i) M=some (nD (s.getD i 0)):=BL hi
def AE {t:List (List Nat)}(hi:i<t.length):bJ (.tup (t.map au)) (nD i) M=some (au (t.getD i [])):=by
 show(bY (t.map au).length (i:Int)).bind (λj=>(t.map au)[j]?)=_;rw[dg (by simpa using hi)]
 simp[RJ,hi]
def ba (M:Mem)(x:D)(r:List Nat):Prop:=x=.lst (r.map nD)\/∃q,x=.cell q/\M[q]?=some (r.map nD)
def ba.l:ba M (.lst (r.map nD)) r:=.inl rfl
def ba.c (h:M[q]?=some (r.map nD)):ba M (.cell q) r:=.inr ⟨q,rfl,h⟩
def ba.sub {M M':Mem}(h:ba M x r)(s:Sub M M'):ba M' x r:=h.elim .inl (by rintro⟨q,e,g⟩;exact .inr {q,e,s.get g})
def ba.seq (h:ba M x r):bT M x=some (r.map nD):=by
 rcases h with rfl|⟨q,rfl,e⟩
 ·rfl
 ·exact e
def ba.rd (h:ba M x r):cv M x=some (r.map nD):=by
 rcases h with rfl|⟨q,rfl,e⟩
 ·rfl
 ·exact e
def ba.is (h:ba M x r):da x=true/\fC x=true/\gQ .list x=some true:=by
 rcases h with rfl|⟨q,rfl,e⟩<;>exact⟨rfl,rfl,rfl⟩
def ba.len (h:ba M x r):ae (di .len [x] M) k↔k (.int r.length) M:=by
 rcases h with rfl|⟨q,rfl,e⟩
 ·show k (.int (r.map nD).length) M↔_;simp
 ·show ae (match M[q]? with|some xs=>_|none=>_) k↔_
  rw[e];simp
def ba.list (h:ba M x r):ae (di (.list m) [x] M) k↔ae (aS m (r.map nD) M) k:=by
 rcases h with rfl|⟨q,rfl,e⟩
 ·exact RL
 ·show ae (match M[q]? with|some xs=>_|none=>_) k↔_
  rw[e]
def ba.vw (h:ba M x r):view M x=.lst (r.map nD):=by
 rcases h with rfl|⟨q,rfl,e⟩
 ·rfl
 ·simp[view,e]
noncomputable def oV (f:Nat->Nat):∀(r:List Nat),∃bs,intsOf (r.map λi=>nD (f i))=some bs/\bs.sum=(((r.map f).sum:Nat):Int)
 |[]=>{[],rfl,rfl}
 | i::r=>by
   obtain⟨bs,e1,e2⟩:=oV f r;exact{(f i:Int)::bs,by simp[intsOf,e1],by simp[e2]}
section
variable{P:Nat->Option Df}(h:HasB0 P){M:Mem}
include h
theorem tK (n:Nat)(hm:aK m):ah P (n+8) 13 [m.d] M=.ok .non M:=by
 refine aj (aE h.need_machine rfl ?_);simp[hZ,FZ h n hm]
theorem nA (h15:P 15=some {1,6,cw})(n:Nat)(hm:aK m):ah P (n+9) 15 [m.d] M=.ok (.lst ((bp m).map au)) M:=by
 refine aj (aE h15 rfl ?_);have w4:=hm.w4;have p2:=hm.p2;simp[cw,tK h n hm];simp[aH.d,cg];refine{`d,`a,?_}
 refine dA (λi u j=>j=M/\∃a,u=[some m.d,some (nD m.words),some (nD m.places),some (.tup (m.deeds.map aW.d)),some (.lst ((dC m.words i).map au)),a]) (λ_ _ _ _=>rfl) {rfl,none,by simp[aH.d,dC,au]} ?_ ?_
 ·rintro i d u j hd ⟨rfl,a,rfl⟩;have y:i<m.places:=by
   have:=(Qr.mp hd).1;simpa using this
  refine{_,rfl,?_};simp[da];refine yo (λ_=>(List.range m.words).map λ(k:Nat)=>D.int (k:Int)) (λd e=>match d,e with|.tup x,e=>.tup (x++[e])|_,_=>.non) 4 (by simpa using λ_ _=>w4) ?_ rfl ?_ ?_
  ·have:=jS w4 i `a
   have:(4:Nat)^i<=4^2:=Nat.pow_le_pow_right `d `a
   simp only[Qq];exact ay `a
  ·intro d hd;obtain⟨s,hs,rfl⟩:=QK.mp hd;have{l1,_}:=vm s hs;refine{_,rfl,(λ_=>some ((List.range m.words).map λ(k:Nat)=>D.int (k:Int))),fJ ?_,rfl,λe he=>{_,rfl,aj ?_}}
   ·simp;omega
   ·simp[au,sz];omega
  ·have v:((dC m.words i).map au).flatMap (λd=>((List.range m.words).map λ(k:Nat)=>D.int (k:Int)).map (λe=>match d,e with|.tup x,e=>D.tup (x++[e])|_,_=>.non))=(dC m.words (i+1)).map au:=by
    simp only[dC,qR,List.flatMap_map,List.map_flatMap,Rv]
    congr 1
    funext s
    simp[au,R8]
   rw[v];refine{?_,rfl,rfl};have:=jS w4 (i+1) `a
   have:(4:Nat)^(i+1)<=4^2:=Nat.pow_le_pow_right `d `a
   simp only[Qq];exact ay `a
 ·rintro u j ⟨rfl,a,rfl⟩;simp[bp]
end
section
variable{P:Nat->Option Df}(h:HasM0 P){M:Mem}
include h
theorem F5 (n:Nat){m:aH}(hi:i<m.deeds.length):ah P (n+2) 16 [m.d,nD i] M=.ok (.bl true) M:=by
 refine aj (aE h.is_deed_number rfl ?_);simp[fm,aH.d,bY,ff h.toHasB0];omega
theorem xq (n:Nat){m:aH}(v:ba M x r)(hr:∀i∈r,i<m.deeds.length):ah P (n+3) 17 [m.d,x] M=.ok .non M:=by
 refine aj (aE h.need_numbers rfl ?_);obtain⟨y,z,B⟩:=v.is;simp[hX,y,z,B];refine dA (λi u j=>j=M/\∃a b,u=[some m.d,some x,a,b]) (λ_ _ _ e=>by rw[e.1,v.seq];rfl) ⟨rfl,none,none,rfl⟩ ?_ ?_
 ·rintro i d u j hd ⟨rfl,a,b,rfl⟩;rw[iq] at hd;rw[QS] at hd;cases e:r[i]? with
  |none=>rw[e] at hd;cases hd
  | some x=>
    rw[e] at hd;simp at hd;subst hd;refine{_,rfl,?_};simp[F5 h n (hr x (QT e))]
 ·rintro u j ⟨rfl,a,b,rfl⟩;simp
theorem zy (n:Nat)(j:ba M x r)(hm:aK m)(hr:fD m r):ah P (n+9) 18 [m.d,x] M=.ok .non M:=by
 have e:=xq h (n+5) j hr.2;refine aj (aE h.need_row rfl ?_);simp[lP,tK h.toHasB0 n hm,e];rw[j.len];have:=hr.1;simp;omega
theorem mh (h47:P 47=some {2,2,eA})(n:Nat){m:aH}(j:ba M x r)(hl:r.length<=100000)(hr:∀i∈r,i<m.deeds.length):ah P (n+1) 47 [m.d,x] M=.ok (nD (aN m r)) M:=by
 refine aj (aE h47 rfl ?_);simp[eA,j.is];refine dN (λd=>match d with|.int i=>nD (bW m i.toNat).cost|_=>.non) (ay `o) j.seq ?_ ?_
 ·intro d hd;obtain⟨x,j,rfl⟩:=QK.mp hd;refine{_,rfl,aj ?_};simp[-gD,An,lH (hr x j),jL]
 ·obtain⟨bs,e1,e2⟩:=oV (λi=>(bW m i).cost) r;refine{?_,bs,?_,?_,rfl}
  ·simp;exact ay `a
  ·simpa[R8] using e1
  ·exact e2
end
section
variable{P:Nat->Option Df}(h:jU P){M:Mem}
include h
theorem zr (n:Nat){m:aH}(hd:bO m.words m.places (.turn a t c))(hs:dZ m s):ah P (n+1) 20 [(aW.turn a t c).d,au s] M=.ok (nD (d9 (.turn a t c) s)) M:=by
 obtain⟨h1,h2,h3⟩:=hd;have a1:a<s.length:=by rw[hs.1];exact h1
 have a2:s.getD a 0<t.length:=by rw[h2.1];exact hs.2 _ (getD_mem a1)
 refine aj (aE h.turned rfl ?_);simp[-gD,-List.getD_eq_getElem?_getD,lN,aW.d,cg,gR a1,gR a2,d9]
theorem zE (n:Nat){a o c:Nat}(hd:bO m.words m.places (.join a o t c))(hs:dZ m s):ah P (n+1) 21 [(aW.join a o t c).d,au s] M=.ok (nD (d9 (.join a o t c) s)) M:=by
 obtain⟨h1,h2,h3,h4⟩:=hd;have a1:a<s.length:=by rw[hs.1];exact h1
 have a2:o<s.length:=by rw[hs.1];exact h2
 have a3:s.getD a 0<t.length:=by rw[h3.1];exact hs.2 _ (getD_mem a1)
 have a4:s.getD o 0<(t.getD (s.getD a 0) []).length:=by rw[(h3.2 _ (getD_mem a3)).1];exact hs.2 _ (getD_mem a2)
 refine aj (aE h.joined rfl ?_);simp[-gD,-List.getD_eq_getElem?_getD,lQ,aW.d,cg,gR a1,gR a2,AE a3,gR a4,d9]
theorem BR (n:Nat)(hd:bO m.words m.places (.move a o c))(hs:dZ m s):ah P (n+1) 22 [(aW.move a o c).d,au s] M=.ok (nD (d9 (.move a o c) s)) M:=by
 obtain⟨h1,h2,h3⟩:=hd;have a2:o<s.length:=by rw[hs.1];exact h2
 refine aj (aE h.moved rfl ?_);simp[-gD,-List.getD_eq_getElem?_getD,n8,aW.d,cg,gR a2,d9]
theorem BO (n:Nat):ah P (n+1) 23 [(aW.put a x c).d,au s] M=.ok (nD (d9 (.put a x c) s)) M:=by
 refine aj (aE h.put_in rfl ?_);simp[lO,aW.d,cg,d9]
end
def O8:cK.lookup (Str.ofString "turn")=some 20:=`k
def O7:cK.lookup (Str.ofString "join")=some 21:=`k
def O6:cK.lookup (Str.ofString "move")=some 22:=`k
def O5:cK.lookup (Str.ofString "put")=some 23:=`k
def IT {a:Nat}(j:a<=s.length):ae (cj false (au s) .non (.int a) M) k↔k (au (s.take a)) M:=by
 simp only[cj,au,aO,cut];rw[if_neg `a]
 simp;rw[RW (by simpa using j)]
def Ga {a:Nat}(j:a<=s.length):ae (cj false (au s) (.int a) .non M) k↔k (au (s.drop a)) M:=by
 simp only[cj,au,aO,cut];rw[if_neg `a]
 simp;rw[RW (by simpa using j),Q3 `s]
section
variable{P:Nat->Option Df}(h:jU P){M:Mem}
include h
theorem vX (n:Nat){d:aW}(hm:aK m)(hd:bO m.words m.places d)(hs:dZ m s):ah P (n+2) 24 [d.d,au s] M=.ok (au (bS d s)) M:=by
 have a0:=sW hd;have l0:=hs.1;have p2:=hm.p2;have j:∀f,ah P (n+1) f [d.d,au s] M=.ok (nD (d9 d s)) M->bJ d.d (.int 1) M=some (nD d.at')->(∀k:D->Mem->Prop,(∃y,bJ d.d (.int 0) M=some (.str y)/\cK.lookup y=some f))->ah P (n+2) 24 [d.d,au s] M=.ok (au (bS d s)) M:=λf e1 e2 u=>by
  obtain⟨y,u,v⟩:=u λ_ _=>True;refine aj (aE h.done rfl ?_);simp only[qi,aD,mq,KS,iP,a7,eR,aX,eX,jP,eG,gp,b9,cL,Hl];simp[-gD,e1,e2,u,v,e9];rw[IT `a,e1]
  have z:(d.at':Int)+1=((d.at'+1:Nat):Int):=`a
  rw[z];simp only[bE,au,Bc];refine{`d,?_,?_}
  ·simp;exact ay `a
  ·rw[show D.tup (s.map nD)=au s from rfl,Ga `a]
   simp only[au,Bc];refine{?_,?_,trivial}
   ·simp;exact ay `a
   ·simp[bS]
 cases d with
 |turn a t c=>exact j 20 (zr h n hd hs) rfl λ_=>{_,rfl,O8}
 |join a o t c=>exact j 21 (zE h n hd hs) rfl λ_=>{_,rfl,O7}
 |move a o c=>exact j 22 (BR h n hd hs) rfl λ_=>{_,rfl,O6}
 |put a x c=>exact j 23 (BO h n) rfl λ_=>{_,rfl,O5}
end
section
variable{P:Nat->Option Df}(h:HasM P){M:Mem}
include h
theorem vI (n:Nat)(u:ba M x r)(hm:aK m)(F:r.length<=100000)(hr:∀i∈r,i<m.deeds.length)(hs:dZ m s):ah P (n+3) 25 [m.d,x,au s] M=.ok (.cell M.length) (M++[(eZ m r s).map au]):=by
 refine aj (aE h.all_standing rfl ?_);simp[h9,u.is];refine{`d,?_}
 refine dA (λi B v=>v=M++[(eZ m (r.take i) s).map au]/\∃a,B=[some m.d,some x,some (au s),some (.cell M.length),a]) (λ_ _ _ e=>by rw[e.1];exact(u.sub Sub.app).seq) {by simp[eZ],none,rfl} ?_ ?_
 ·rintro i d B v hd ⟨rfl,a,rfl⟩;rw[QS] at hd;cases e:r[i]? with
  |none=>rw[e] at hd;cases hd
  | some x=>
    rw[e] at hd;simp at hd;subst hd;have u:=hr x (QT e);have H:i<r.length:=(Qr.mp e).1;refine{_,rfl,?_};have z:dZ m (dU m (r.take i) s):=qS hm (λj E=>hr j (Q5 E)) hs;have hl:=oH (m:=m) (r.take i) s;have y:(r.take i).length=i:=by simp;omega
    simp[-gD,An,lH u,om,vX h.r n hm (gH hm u) z];refine{?_,?_}
    ·rw[hl,y];exact RM (show i+1<=100001 by omega) `d
    ·rw[RI,e];simp[rG]
 ·rintro B v ⟨rfl,a,rfl⟩;simp
def yw (m:aH)(r:List Nat):D:=.tup ((bp m).map λs=>au (dU m r s))
theorem mi (h15:P 15=some {1,6,cw})(h46:P 46=some {2,2,iu})(n:Nat)(z:ba M x r)(hm:aK m)(v:r.length<=100000)(hr:∀i∈r,i<m.deeds.length):ah P (n+10) 46 [m.d,x] M=.ok (yw m r) (M++(bp m).map λs=>(eZ m r s).map au):=by
 refine aj (aE h46 rfl ?_);simp[iu,nA h.toHasM0.toHasB0 h15 n hm];refine{rfl,?_};have bl:=jo hm;refine comp_map (λi j u=>j=((bp m).take i).map (λs=>au (dU m r s))/\u=M++((bp m).take i).map λs=>(eZ m r s).map au) (ay `o) (λ_ _ _ _=>rfl) `s ?_ ?_
 ·rintro i d j u hd _ ⟨rfl,y⟩;rw[QS] at hd;cases e:(bp m)[i]? with
  |none=>rw[e] at hd;cases hd
  | some s=>
    rw[e] at hd;have hd:=Qz hd;subst hd;have hs:=n6 s (QT e);refine{_,rfl,?_};have st:=vI h (n+6) (M:=u) (by rw[y];exact z.sub Sub.app) hm v hr hs
    simp[st,om];rw[y,RI,RI];simp[e]
 ·rintro j u _ ⟨rfl,rfl⟩;simp;exact{ay `a,by simp[yw,Q3]}
end
@[simp] theorem uE:ae (di .len [.cell j] M) k↔∃ds,M[j]?=some ds/\k (.int ds.length) M:=by
 show ae (match M[j]? with|some xs=>_|none=>_) k↔_
 cases M[j]?<;>simp
structure az (M:Mem) (p B:Nat):Prop where
 ex:∃(c:Nat) (cells:List Int) (at_ st:Int),M[p]?=some [.cell c,.int at_,.int st]/\M[c]?=some (cells.map D.int)/\c<p/\0<=at_/\at_<=B/\0<=st
structure aM (p:Nat) (M M':Mem):Prop where
 len:M.length<=M'.length
 at':∀k,k<M.length->k≠p->M'[k]?=M[k]?
def aM.refl:aM p M M:={Qy _,λ_ _ _=>rfl}
def aM.trans (a:aM p M M1)(b:aM p M1 M2):aM p M M2:={QC a.len b.len,λk hk n=>(b.at' k (QO hk a.len) n).trans (a.at' k hk n)}
def aM.set:aM p M (M.set p ds):={`s,λk _ n=>QJ (RR n)}
def aM.app:aM p M (M++X):={`s,λk hk _=>QE hk}
def aM.get (h:aM p M M')(e:M[k]?=some ds)(n:k≠p):M'[k]?=some ds:=by rw[h.at' k (Qr.mp e).1 n];exact e
def az.lt (h:az M p B):p<M.length:=by obtain⟨_,_,_,_,e,_⟩:=h.ex;exact(Qr.mp e).1
def az.app (h:az M p B):az (M++X) p B:=by
 obtain⟨c,j,a,st,e1,e2,r⟩:=h.ex;exact{c,j,a,st,by rw[QE (Qr.mp e1).1];exact e1,by rw[QE (Qr.mp e2).1];exact e2,r}
def az.mono (h:az M p B)(E:B<=B'):az M p B':=by
 obtain⟨c,j,a,st,e1,e2,u,v,z,y⟩:=h.ex;exact{c,j,a,st,e1,e2,u,v,`a,y}
def az.setq (h:az M p B)(E:p<q):az (M.set q ds) p B:=by
 obtain⟨c,j,a,st,e1,e2,u,v,y,z⟩:=h.ex;exact{c,j,a,st,by rw[QJ `a];exact e1,by rw[QJ `a];exact e2,u,v,y,z}
def aM.setq (h:aM p M M')(j:M.length<=q):aM p M (M'.set q ds):={by simpa using h.len,λk hk n=>by rw[QJ `a];exact h.at' k hk n}
def Ai {a b A B:Int}(h1:0<=a)(h2:a<=A)(h3:0<=b)(h4:b<=B):0<=a*b/\a*b<=A*B:=
 {Int.mul_nonneg h1 h3,Int.mul_le_mul h2 h4 h3 (Int.le_trans h1 h2)}
noncomputable def nH:List Int:=[2147483629,2147483587,2147483579,2147483563,2147483549,2147483543,2147483497,2147483489,2147483477,2147483423,2147483399,2147483353,2147483323]
def iW:List D:=nH.map D.int
def zV:∀q∈nH,0<q/\q<2147483648:=`d
def oJ (j:Int)(M:Mem):∃q:Int,bJ (.lst iW) (.int (j % 13)) M=some (.int q)/\0<q/\q<2147483648:=by
 have h1:0<=j % 13:=Sq _ `d
 have h2:j % 13<13:=Sk _ `d
 generalize j % 13=i at h1 h2;obtain⟨k,rfl⟩:=SF h1;have hk:=Int.ofNat_lt.mp h2;refine{nH[k],?_,zV _ (SA hk)};show(bY iW.length (k:Int)).bind (λj=>iW[j]?)=_;rw[dg (n:=iW.length) hk];show(nH.map D.int)[k]?=_;rw[QS,QL hk];rfl
section
variable{P:Nat->Option Df}(h:HasP0 P){M:Mem}
include h
omit h in
theorem fM {x y:Int}(j:a Z M=.ok (.int x) M)(u:b Z M=.ok (.int y) M):ag m .add a b Z M=.ok (.int (x+y)) M:=by
 unfold ag;rw[j];show(b Z M).bind _=_;rw[u];rfl
omit h in
theorem lq {x y:Int}(j:a Z M=.ok (.int x) M)(u:b Z M=.ok (.int y) M)(c:(-(2^64)<x/\x<2^64)\/(-(2^64)<y/\y<2^64)):ag m .mul a b Z M=.ok (.int (x*y)) M:=by
 unfold ag;rw[j];show(b Z M).bind _=_;rw[u];exact if_pos c
omit h in
theorem je {x y:Int}(j:a Z M=.ok (.int x) M)(u:b Z M=.ok (.int y) M)(c:0<y):ag m .mod a b Z M=.ok (.int (x % y)) M:=by
 unfold ag;rw[j];show(b Z M).bind _=_;rw[u];exact if_pos c
omit h in
theorem xB {x y:Int}(j:a Z M=.ok (.int x) M)(u:b Z M=.ok (.int y) M)(c:0<=y/\y<=1000000)(d:x.natAbs<2^64):ag m .pow a b Z M=.ok (.int (x^y.toNat)) M:=by
 unfold ag;rw[j];show(b Z M).bind _=_;rw[u];exact if_pos ⟨c.1,c.2,d⟩
omit h in
theorem oK {x q:Int}(hi:Z[i]?.getD none=some (.lst iW))(j:a Z M=.ok (.int x) M)(e:bJ (.lst iW) (.int (x % 13)) M=some (.int q)):aw (aa i) (ag false .mod a (gI 13)) Z M=.ok (.int q) M:=by
 unfold aw;rw[aq hi];show(ag false .mod a _ Z M).bind _=_;rw[je j rfl `d];show bV M _=_;rw[e];rfl
theorem zu {x a:Int}(n:Nat)(L:0<=a)(h1:a<=1000000):ae (ah P (n+1) 28 [.int x,.int a] M) λd M'=>M'=M/\∃v:Int,d=.int v/\0<=v:=by
 refine aE h.law_spread rfl ?_;refine bu rfl (λe=>?_) λe=>?_
 ·exact{rfl,x,rfl,Int.le_trans `d (of_decide_eq_true e)}
 clear e;refine bq (bK rfl) (bq (bK rfl) ?_);obtain⟨O,e1,p1,p2⟩:=oJ a M;obtain⟨Q,e2,j,_⟩:=oJ (a+5) M;obtain⟨q3,J,F,_⟩:=oJ (a+7) M;have u:∀{z c:Int},0<=z->z<=c->c<2^64->z.natAbs<2^64:=λS U H=>`a
 have lt:∀{z c:Int},0<=z->z<=c->c<2^64->-(2^64)<z/\z<2^64:=λS U H=>`a
 have r1:=Sq x (show(1000000007:Int)≠0 by decide)
 have r2:=Sk x (show(0:Int)<1000000007 by decide)
 obtain⟨W,X⟩:=Ai r1 (Int.le_of_lt r2) (show 0<=2*a+69069 by omega) (show 2*a+69069<=2069069 by omega)
 refine bq (bK (je (xB (fM (fM (lq (je (aq rfl) rfl `d) (fM (lq rfl (aq rfl) (.inl `d)) rfl) (.inl (lt r1 (Int.le_of_lt r2) `d))) (lq (aq rfl) rfl (.inl (lt L h1 `d)))) rfl) rfl `d (u (c:=10000000000000000000) `a `a `d)) (oK rfl (aq rfl) e1) p1)) ?_
 generalize (x % 1000000007*(2*a+69069)+a*40503+977)^(3:Int).toNat=y;have b1:=Sq y (Int.ne_of_gt p1);have b2:=Sk y p1;generalize y % O=one at b1 b2;have b3:=Int.le_of_lt (Int.lt_trans b2 p2);obtain⟨Y,m4⟩:=Ai b1 b3 (show 0<=a+3 by omega) (show a+3<=1000003 by omega)
 refine bq (bK (je (xB (fM (fM (lq (aq rfl) (fM (aq rfl) rfl) (.inl (lt b1 b3 `d))) (je (aq rfl) rfl `d)) rfl) rfl `d (u (c:=10000000000000000000) `a `a `d)) (oK rfl (fM (aq rfl) rfl) e2) j)) ?_
 generalize (one*(a+3)+x % 65537+5)^(5:Int).toNat=B;have E:=Sq B (Int.ne_of_gt j);have I:=Sk B j;generalize B % Q=two at E I;refine bq (bK (je (xB (fM (fM (aq rfl) (je (aq rfl) rfl `d)) (aq rfl)) rfl `d (u (c:=10000000000) `a `a `d)) (oK rfl (fM (aq rfl) rfl) J) F)) ?_
 generalize (two+one % 1009+a)^(3:Int).toNat=R;have d1:=Sq R (Int.ne_of_gt F);refine bH (fM (lq (fM (lq (aq rfl) rfl (.inr `d)) (aq rfl)) rfl (.inr `d)) (aq rfl)) {rfl,_,rfl,?_}
 exact Int.add_nonneg (Int.mul_nonneg (Int.add_nonneg (Int.mul_nonneg b1 `d) E) `d) d1
omit h in
theorem Pp:bY 3 2=some 2:=rfl
omit h in
theorem qN {l:List Int}{i:Int}(u:0<=i)(h1:i<l.length):∃x,((bY l.length i).bind λj=>Option.map D.int l[j]?)=some (.int x):=by
 obtain⟨k,rfl⟩:=SF u;have hk:k<l.length:=`a
 refine{l[k],?_};rw[dg hk];simp[hk]
def oD:GS:=#v[ao (.one 4) (ag false .mod (aw (aa 0) (gI 2)) (aa 1)),eY (aa 0) (gI 2) (ag false .fdiv (aw (aa 0) (gI 2)) (aa 1)),aA (aa 4)]
def vQ (c:Call):GS:=#v[eY (aa 0) (gI 1) (ag false .add (aa 2) (gI 1)),eY (aa 0) (gI 2) (ai 28 c #[aa 3,aa 2])]
omit h in
theorem MV {x y:Int}(j:a Z M=.ok (.int x) M)(u:b Z M=.ok (.int y) M)(c:0<y/\y<1073741824):ag m .fdiv a b Z M=.ok (.int (x / y)) M:=by
 unfold ag;rw[j];show(b Z M).bind _=_;rw[u];exact if_pos c
omit h in
theorem b7 (j:a Z M=.ok x M)(u:b Z M=.ok y M)(e:bJ x y M=some d):aw a b Z M=.ok d M:=by
 unfold aw;rw[j];show(b Z M).bind _=_;rw[u];show bV M _=_;rw[e];rfl
omit h in
theorem Ks (e:M[p]?=some [c0,c1,c2]):bJ (.cell p) (.int 0) M=some c0/\bJ (.cell p) (.int 1) M=some c1/\bJ (.cell p) (.int 2) M=some c2:=by
 refine{?_,?_,?_}<;>(show(M[p]?).bind _=_;rw[e];rfl)
omit h in
theorem t6 {n:Int}(hd:d Z M=.ok z M')(u:a Z M'=.ok (.cell p) M')(v:b Z M'=.ok (.int n) M')(e:M'[p]?=some ds)(hi:bY ds.length n=some i)(h:ae (rest Z (M'.set p (ds.set i z))) kf):ae (bc (eY a b d) rest Z M) kf:=by
 simp only[aD];unfold eY;rw[hd];show ae ((a Z M').bind _) _;rw[u];show ae ((b Z M').bind _) _;rw[v];show ae (match M'[p]? with|some ds=>(match bY ds.length n with|some j=>Res.ok (Fl.next Z) (M'.set p (ds.set j z))|none=>.bad)|none=>.bad) _
 rw[e];show ae (match bY ds.length n with|some j=>Res.ok (Fl.next Z) (M'.set p (ds.set j z))|none=>.bad) _
 rw[hi];exact h
omit h in
theorem Kt (j:t Z M=.ok b M)(h1:b=true->ae (A Z M) (gG rest kf))(h2:b=false->ae (B Z M) (gG rest kf)):ae (bc (aI t A B) rest Z M) kf:=by
 simp only[aD,ml];rw[j];cases b with
 |true=>exact h1 rfl
 |false=>exact h2 rfl
omit h in
theorem rC {j:List Int}{a st:Int}(e1:M1[p]?=some [.cell c,.int a,.int st])(e2:M1[c]?=some (j.map D.int))(lt:c<p)(a0:0<=a)(u:a<=(B+1:Nat))(H:0<=st)(k:aM p M M1)
 (z:0<many) (h1:many<=10000000):ae (oD [some (.cell p),some (nD many),x,y,none] M1) (mM λd M'=>∃v:Nat,d=nD v/\v<many/\az M' p (B+1)/\aM p M M'):=by
 have E:p<M1.length:=(Qr.mp e1).1;have b0:=Int.ofNat_lt.mpr z;have r1:=Sq st (Int.ne_of_gt b0);have r2:=Sk st b0;refine bq (bK (je (b7 (aq rfl) rfl (Ks e1).2.2) (aq rfl) b0)) (t6 (MV (b7 (aq rfl) rfl (Ks e1).2.2) (aq rfl) {b0,`a}) (aq rfl) rfl e1 rfl (bH (aq rfl) ?_))
 obtain⟨v,F⟩:=SF r1;refine{v,congrArg D.int F,`a,{c,j,a,st / many,QR E,?_,lt,a0,u,Int.ediv_nonneg H (Int.le_of_lt b0)},k.trans aM.set}
 rw[QJ (Ry lt)];exact e2
theorem vW (n:Nat){p B many:Nat}(R:az M p B)(hB:B<=1000000)(I:0<many)(h1:many<=10000000):ae (ah P (n+2) 31 [.cell p,nD many] M) λd M'=>∃v:Nat,d=nD v/\v<many/\az M' p (B+1)/\aM p M M':=by
 obtain⟨c,u,a,st,e1,e2,lt,a0,Y,W⟩:=R.ex;have z:p<M.length:=(Qr.mp e1).1;obtain⟨H,S,U⟩:=Ks e1;refine aE h.law_take rfl ?_;show ae (bc (aI _ (bc _ (bc _ (bc _ (vQ (ah P (n+1)))))) _) oD [some (.cell p),some (nD many),none,none,none] M) _;have y:∀(x:Int),ae (vQ (ah P (n+1)) [some (.cell p),some (nD many),some (.int a),some (.int x),none] M) (gG oD (mM λd M'=>∃v:Nat,d=nD v/\v<many/\az M' p (B+1)/\aM p M M')):=by
  intro x;refine t6 (fM (aq rfl) rfl) (aq rfl) rfl e1 rfl ?_;obtain⟨_,_,Q,rfl,v,rfl,X⟩:=eT.mp (zu h n a0 `a)
  refine t6 ((bh (af (aq rfl) (af (aq rfl) rfl))).trans Q) (aq rfl) rfl (QR z) rfl ?_;have ne:=Ry lt;exact rC (QR (by rw[List.length_set];exact z)) (by rw[QJ ne,QJ ne];exact e2) lt `a `a X (aM.set.trans aM.set) I h1
 have len:aB .len #[aw (aa 0) (gI 0)] [some (.cell p),some (nD many),some (.int a),some (.int 0),none] M=.ok (.int (u.length:Nat)) M:=by
  refine aj ?_;simp only[dB];rw[af (b7 (aq rfl) rfl H) rfl,bE];exact uE.mpr {_,e2,by rw[Qq],rfl}
 refine bu (b:=decide (st<(many:Int))) (bR (aj ?_)) (λJ=>?_) λJ=>?_
 ·simp only[iQ];rw[b7 (aq rfl) rfl U,bE,aq rfl,bE];exact{_,rfl,rfl,rfl}
 ·refine bq (bK (b7 (aq rfl) rfl S)) (bq (bK rfl) ?_);show ae (bc _ _ [some (.cell p),some (nD many),some (.int a),some (.int 0),none] M) _;have E:∀{i:Int}{x:D},((bY u.length i).bind λj=>Option.map D.int u[j]?)=some x->bJ (.cell c) (.int i) M=some x:=λ{i x} ex=>by
   show(M[c]?).bind _=_;rw[e2];show((bY (u.map D.int).length i).bind λj=>(u.map D.int)[j]?)=_;simp only[Qq,QS];exact ex
  refine Kt (b:=decide (a<(u.length:Int))) (bR (aj ?_)) (λL=>?_) λ_=>?_
  ·simp only[iQ];rw[aq rfl,bE,len,bE];exact{_,rfl,rfl,rfl}
  ·obtain⟨x,ex⟩:=qN a0 (of_decide_eq_true L);exact bq (bK (b7 (b7 (aq rfl) rfl H) (aq rfl) (E ex))) (y x)
  ·refine bu (b:=decide ((0:Int)<(u.length:Int))) (bR (aj ?_)) (λO=>?_) λ_=>y 0
   ·simp only[iQ,eR];rw[len,bE];exact{_,rfl,rfl,rfl}
   ·have F:=of_decide_eq_true O;obtain⟨x,ex⟩:=qN (Sq (a*5+3) (Int.ne_of_gt F)) (Sk _ F);exact bq (bK (je (b7 (b7 (aq rfl) rfl H) (je (fM (lq (aq rfl) rfl (.inr `d)) rfl) len F) (E ex)) (fM rfl (aq rfl)) (Int.lt_of_lt_of_le `d (Int.le_add_of_nonneg_right a0)))) (y _)
 ·exact rC e1 e2 lt a0 `a W .refl I h1
end
noncomputable def aW.withC:aW->Nat->aW
 |.turn a t _,c=>.turn a t c
 |.join a o t _,c=>.join a o t c
 |.move a o _,c=>.move a o c
 |.put a x _,c=>.put a x c
def Bl {w p c:Nat}{d:aW}(h:bO w p d)(u:fP c):bO w p (d.withC c):=by
 cases d with
 |turn=>exact⟨h.1,h.2.1,u⟩
 |join=>exact⟨h.1,h.2.1,h.2.2.1,u⟩
 |move=>exact⟨h.1,h.2.1,u⟩
 |put=>exact⟨h.1,h.2.1,u⟩
def wW {w p:Nat}{d:aW}(h:bO w p d):fP d.cost:=by
 cases d with
 |turn=>exact h.2.2
 |join=>exact h.2.2.2
 |move=>exact h.2.2
 |put=>exact h.2.2
def C7 {d:aW}{c:Nat}{M:Mem}{k:D->Mem->Prop}(hk:k (d.withC c).d M):ae (cj false d.d .non (.int (-1)) M) λx M=>ae (fK false .add x (.tup [nD c]) M) k:=by
 cases d<;>(simp[aW.d,cj,aO,cut];exact{`d,hk})
def BM (n:Nat)(d:aW):ax (n+3) d.d=true:=by
 have v:∀(n:Nat) (l:List Nat),(l.map nD).all (ax n)=true:=λn l=>by
  rw[QV];intro x u;obtain⟨i,_,rfl⟩:=QK.mp u;cases n<;>rfl
 cases d with
 |turn a t c=>simp[aW.d,ax,au,nD];decide +kernel
 |join a o t c=>simp[aW.d,ax,nD,au];decide +kernel
 |move a o c=>simp[aW.d,ax,nD];decide +kernel
 |put a x c=>simp[aW.d,ax,nD];decide +kernel
def ne_nil {M:Mem}{q:Nat}{ds:List aW}(e:M[q]?=some (ds.map aW.d)):bx .ne (.cell q) (.lst []) M=some (!ds.isEmpty):=by
 have hp:(ds.map aW.d).all (ax 63)=true:=by
  rw[QV];intro x v;obtain⟨d,_,rfl⟩:=QK.mp v;exact BM 60 d
 have u:view M (.cell q)=.lst (ds.map aW.d):=by simp[view,e]
 have h1:=hp;refine iY (by rw[u];exact h1) rfl ?_
 rw[u];cases ds<;>rfl
@[simp] theorem J6 {m:Bool}{x:List D}{j:Int}{M:Mem}{k:D->Mem->Prop}:ae (fK m .mul (.tup x) (.int j) M) k↔(x.length*j.toNat<=sz/\-(2^63)<=j/\j<2^63)/\k (.tup (List.replicate j.toNat x).flatten) M:=kr
@[simp] theorem J7 {m:Bool}{x:List D}{j:Int}{M:Mem}{k:D->Mem->Prop}:ae (fK m .mul (.lst x) (.int j) M) k↔(x.length*j.toNat<=sz/\-(2^63)<=j/\j<2^63)/\ae (aS m (List.replicate j.toNat x).flatten M) k:=kr
def tO {xs:List D}{a:Nat}{M:Mem}{k:D->Mem->Prop}:ae (cj false (.lst xs) .non (.int a) M) k↔(xs.take a).length<=sz/\k (.lst (xs.take a)) M:=by
 have e:cut xs 0 (min a xs.length)=xs.take a:=by
  unfold cut;rcases SR a xs.length with h|h
  ·rw[RW h];simp
  ·rw[Si h];simp[Q3 h]
 show ae (match aO xs.length 0 D.non,aO xs.length xs.length (.int a) with|some l,some h=>aS false (cut xs l h) M|_,_=>.bad) k↔_
 have e2:aO xs.length xs.length (.int a)=some (min a xs.length):=by
  show some _=_;rw[if_neg `a];simp
 rw[e2];show ae (aS false (cut xs 0 (min a xs.length)) M) k↔_;rw[e,bX]
def B4 {xs:List D}{a:Nat}{M:Mem}{k:D->Mem->Prop}:ae (cj false (.lst xs) (.int a) .non M) k↔(xs.drop a).length<=sz/\k (.lst (xs.drop a)) M:=by
 have e:cut xs (min a xs.length) xs.length=xs.drop a:=by
  unfold cut;rcases SR a xs.length with h|h
  ·rw[RW h,Q3 `s]
  ·rw[Si h];simp[SI h]
 show ae (match aO xs.length 0 (.int a),aO xs.length xs.length D.non with|some l,some h=>aS false (cut xs l h) M|_,_=>.bad) k↔_
 have e2:aO xs.length 0 (.int a)=some (min a xs.length):=by
  show some _=_;rw[if_neg `a];simp
 rw[e2];show ae (aS false (cut xs (min a xs.length) xs.length) M) k↔_;rw[e,bX]
def u2 {w:Nat}{ge:GE}{Z:Env}{M:Mem}{u:List D->Mem->Prop}(f:Nat->Nat)(v:w<=100)(hf:∀k,k<w->ge (some (.int (k:Int))::Z) M=.ok (nD (f k)) M)(hk:u (((List.range w).map f).map nD) M) :
 ae (cV (cW (.one 0) (bI ge) (none::Z)) (λ_=>some ((List.range w).map λ(k:Nat)=>D.int (k:Int))) [] M) u:=by
 refine dN (λd=>match d with|.int i=>nD (f i.toNat)|_=>.non) (ay `o) rfl (λd hd=>?_) ?_
 ·obtain⟨k,hk,rfl⟩:=QK.mp hd;exact{_,rfl,hf k (R0.mp hk)}
 ·simpa[R8] using hk
def vS {w:Nat}{f:Nat->Nat}(hf:∀k,k<w->f k<w):gZ w ((List.range w).map f):={`s,λx u=>by
 obtain⟨k,hk,rfl⟩:=QK.mp u;exact hf k (R0.mp hk)}
section
variable{P:Nat->Option Df}(h:HasP0 P){M:Mem}
include h
theorem F7 (n:Nat){p B:Nat}(hp:az M p B):ae (ah P (n+1) 30 [.cell p] M) λd M'=>d=.cell p/\az M' p B/\aM p M M':=by
 obtain⟨c,u,a,st,e1,e2,lt,a0,y,z⟩:=hp.ex;have ne:=Q6 lt;have v:p<M.length:=(Qr.mp e1).1;refine aE h.law_anew rfl ?_;simp[j5,e1,Pp];refine{{c,u,a,0,by simp[v],?_,lt,a0,y,`a},aM.set}
 rw[QJ (RR ne)];exact e2
theorem tk (n:Nat){p B many:Nat}{k:D->Mem->Prop}(hp:az M p B)(hB:B<=1000000)(h0:0<many)(h1:many<=10000000)(hk:∀(v:Nat) (M':Mem),v<many->az M' p (B+1)->aM p M M'->k (nD v) M'):ae (ah P (n+2) 31 [.cell p,nD many] M) k:=
 aT (vW h n hp hB h0 h1) λd M' ⟨v,e,z,y,u⟩=>by subst e;exact hk v M' z y u
end
def bd {B c k m:Nat}(h:B<=c)(e:c+k<=m):B+k<=m:=QC (Nat.add_le_add_right h k) e
def xU {B k m:Nat}(e:k<=m):B+k<=B+m:=Nat.add_le_add_left e B
def MP {xs:List D}{v:Nat}{M:Mem}(h:v<xs.length):bJ (.lst xs) (nD v) M=some xs[v]:=by
 show(bY xs.length (v:Int)).bind (λj=>xs[j]?)=_;rw[dg h];simp[h]
def pO {Z:Env}{M:Mem}{j v c:Nat}(h:Z[j]?.getD none=some (nD v)):(ak (av .lt (aa j) (gC (.int (c:Int)))):GT) Z M=.ok (decide (v<c)) M:=by
 refine fJ ?_;simp only[pz,iQ,a7,eR];refine{_,h,_,rfl,_,rfl,?_,trivial};simp
def gV {Z:Env}{M:Mem}{j v c:Nat}(h:Z[j]?.getD none=some (nD v)):(ak (av .eq (aa j) (gC (.int (c:Int)))):GT) Z M=.ok ((v:Int)==(c:Int)) M:=by
 refine fJ ?_;simp only[pz,iQ,a7,eR];exact{_,h,_,rfl,_,rfl,rfl,trivial}
section
variable{Z:Env}{M:Mem}{g a:GE}{rest:GS}{kf:Fl->Mem->Prop}
section
variable{P:Nat->Option Df}(hp_:HasP0 P)(n:Nat){i j p B many:Nat}(hj:Z[j]?.getD none=some (.cell p))(hg:g Z M=.ok (nD many) M)(hp:az M p B)(hB:B<=1000000)(h0:0<many)(h1:many<=10000000)
include hp_ hj hg hp hB h0 h1
theorem dW:ae (ai 31 (ah P (n+2)) #[aa j,g] Z M) λd M'=>∃v:Nat,d=nD v/\v<many/\az M' p (B+1)/\aM p M M':=by
 rw[bh (af (aq hj) (af hg rfl))];exact vW hp_ n hp hB h0 h1
theorem eB (hk:∀(v:Nat) (M':Mem),v<many->az M' p (B+1)->aM p M M'->ae (rest (Z.set i (some (nD v))) M') kf):ae (bc (ao (.one i) (ai 31 (ah P (n+2)) #[aa j,g])) rest Z M) kf:=by
 refine cn (dW hp_ n hj hg hp hB h0 h1) ?_;rintro x M' ⟨v,rfl,a,b,c⟩;exact hk v M' a b c
theorem CQ {xs:List D}(hl:a Z M=.ok (.lst xs) M)(hz:xs.length=many):ae (aw a (ai 31 (ah P (n+2)) #[aa j,g]) Z M) λd M'=>d∈xs/\az M' p (B+1)/\aM p M M':=by
 unfold aw;rw[hl,bf,bE,bf];refine aT (dW hp_ n hj hg hp hB h0 h1) ?_;rintro x M' ⟨v,rfl,a,b,c⟩;rw[MP `a]
 exact{SA _,b,c}
end
end
section
variable{Z:Env}{M:Mem}{k:D->Mem->Prop}
def cm {e:GE}{K:Fl->Mem->Prop}(h:ae (e Z M) λx M=>K (.ret x) M):ae (#v[aA e] Z M) K:=by
 simp only[aD,eX];exact h
def Ak {e:GE}{j v w:Nat}(he:e Z M=.ok (nD v) M)(hj:Z[j]?.getD none=some (nD w))(u:0<w):ag false .mod e (aa j) Z M=.ok (nD (v % w)) M:=by
 unfold ag;rw[he];show(aa j Z M).bind _=_;rw[aq hj];show(if (0:Int)<(w:Int) then Res.ok (D.int ((v:Int) % (w:Int))) M else .bad)=_;rw[if_pos `a]
 rfl
def rb {e f:GE}{v w:Nat}(he:e Z M=.ok (nD v) M)(hf:f Z M=.ok (nD w) M):ag false .add e f Z M=.ok (nD (v+w)) M:=by
 unfold ag;rw[he];show(f Z M).bind _=_;rw[hf];rfl
def IK {e:GE}{v c:Nat}(he:e Z M=.ok (nD v) M)(u:c<=v):ag false .sub e (gC (.int (c:Int))) Z M=.ok (nD (v-c)) M:=by
 unfold ag;rw[he];show Res.ok (D.int ((v:Int)-(c:Int))) M=_;rw[<- Int.ofNat_sub u]
end
section
variable{P:Nat->Option Df}(h:HasP P){M:Mem}
include h
theorem zt (n:Nat){p B w:Nat}(hp:az M p B)(hB:B<=900000)(w2:2<=w)(w4:w<=4):ae (ah P (n+3) 32 [.cell p,nD w] M) λd M'=>∃t,d=au t/\gZ w t/\az M' p (B+7)/\aM p M M':=by
 have R:0<w:=QO `d w2
 have X:w<=10000000:=QC w4 (Qv rfl);refine aE h.law_tab rfl ?_;show ae (iR (ah P (n+2)) [some (.cell p),some (nD w),none,none,none,none] M) _;unfold iR;refine eB h n rfl rfl hp (QC hB `d) `d `d λkind M1 hk p1 k1=>?_
 refine eB h n rfl rfl p1 (bd hB `d) R X λu M2 W p2 k2=>?_
 refine eB h n rfl rfl p2 (bd (k:=2) hB `d) R X λE O ho Y k3=>?_
 have Q:=(k1.trans k2).trans k3;have J:∀(l:List Nat) (M':Mem),gZ w l->az M' p (B+7)->aM p M M'->(l.map nD).length<=sz/\∃t,D.tup (l.map nD)=au t/\gZ w t/\az M' p (B+7)/\aM p M M':=λl M' hl F H=>{ay (by rw[Qq,hl.1];omega),l,rfl,hl,F,H}
 have S:az O p (B+7):=Y.mono (xU (k:=3) `d)
 show ae (bc _ _ [some (.cell p),some (nD w),some (nD kind),some (nD u),some (nD E),none] O) _;refine bu (pO rfl) (λ_=>?_) λ_=>?_
 ·simp only[aD,eX,dB,b9,cL,fb,eV,a7];refine{_,rfl,_,rfl,{`a,`a},?_}
  refine comp_map (λi I M'=>∃t:List Nat,I=t.map nD/\(∀x∈t,x<w)/\az M' p (B+3+i)/\aM p M M') (ay `o) (λ_ _ _ _=>rfl) {[],rfl,(λ_ L=>nomatch L),Y,Q} ?_ ?_
  ·rintro i d I M' hd _ ⟨t,rfl,U,F,H⟩;have hi:i<w:=by
    have:=(Qr.mp hd).1;simpa using this
   refine{_,rfl,aT (dW h n rfl rfl F `a R X) ?_}
   rintro _ M4 ⟨v,rfl,hv,p4,k4⟩;refine{t++[v],by rw[QG];rfl,λx L=>?_,p4,H.trans k4}
   rcases Q2.mp L with z|z
   ·exact U x z
   ·rw[QN.mp z];exact hv
  ·rintro I M' hl ⟨t,rfl,U,F,H⟩;simp only[Qq,RF] at hl F;exact bX.mpr (J t M' ⟨hl,U⟩ (F.mono `a) H)
 refine bu (gV rfl) (λ_=>?_) λ_=>?_
 ·simp only[aD,eX,dB,b9,cL,fb,eV,a7];refine{_,rfl,_,rfl,{`a,`a},?_}
  exact u2 (λk=>(k+1+u) % w) `a (λk hk=>Ak (rb (rb (aq rfl) rfl) (aq rfl)) rfl R) (bX.mpr (J _ O (vS λk _=>Nat.mod_lt _ R) S Q))
 refine bu (gV rfl) (λ_=>?_) λ_=>?_
 ·simp only[aD,eX,dB,b9,cL,fb,eV,a7];refine{_,rfl,_,rfl,{`a,`a},?_}
  refine u2 (λk=>if k=u then E else k) `a (λk hk=>?_) (bX.mpr (J _ O (vS λk hk=>by split<;>assumption) S Q))
  have e:(ak (av .eq (aa 0) (aa 4)):GT) [some (.int (k:Int)),some (.cell p),some (nD w),some (nD kind),some (nD u),some (nD E),none] O=.ok ((k:Int)==(u:Int)) O:=rfl;by_cases ck:k=u
  ·rw[if_pos ck];exact gB (k:=true) (e.trans (by rw[ck,beq_self_eq_true])) (λ_=>rfl) (λz=>nomatch z)
  ·rw[if_neg ck];exact gB (k:=false) (e.trans (by rw[Sd.mpr `a])) (λz=>nomatch z) (λ_=>rfl)
 refine bu (gV rfl) (λ_=>cm ?_) λ_=>?_
 ·simp only[jP,gp,b9,cL,a7];refine{_,rfl,ay (n:=1) `d,_,rfl,J6.mpr {{ay `o,`a,`a},List.replicate w u,?_,{Sm,λx L=>by rw[List.eq_of_mem_replicate L];exact W},S,Q}}
  simp[au,nD]
 ·simp only[aD,mq,Hj,a7,ka,eX,dB,b9,cL,aX];simp;refine{`a,ay `a,u,dg W,E,dg ho,((List.range w).set u E).set E u,?_,{`s,λx L=>?_},S.app,Q.trans aM.app}
  ·simp[au,nD,List.map_set]
  ·rcases List.mem_or_eq_of_mem_set L with z|rfl
   ·rcases List.mem_or_eq_of_mem_set z with y|rfl
    ·exact R0.mp y
    ·exact ho
   ·exact W
theorem BX (n:Nat){p B w pl:Nat}(hp:az M p B)(hB:B<=800000)(w2:2<=w)(w4:w<=4)(p1:1<=pl)(p2:pl<=2):ae (ah P (n+4) 33 [.cell p,nD w,nD pl] M) λd M'=>∃e:aW,d=e.d/\bO w pl e/\az M' p (B+40)/\aM p M M':=by
 have X:pl<=10000000:=QC p2 (Qv rfl);refine aE h.law_deed rfl ?_;show ae (ie (ah P (n+3)) [some (.cell p),some (nD w),some (nD pl),none,none,none,none] M) _;unfold ie;refine eB h (n+1) rfl rfl hp (QC hB `d) `d `d λkind Y hk q1 k1=>?_
 refine cn (k:=λd M'=>∃v:Nat,d=nD (1+v)/\v<3/\az M' p (B+2)/\aM p Y M') ?_ ?_
 ·rw[jP];simp only[eR];refine aT (dW h (n+1) rfl rfl q1 (bd hB `d) `d `d) ?_
  rintro _ M2 ⟨v,rfl,J,q,kk⟩;exact vA.mpr {v,by show D.int (1+(v:Int))=D.int ((1+v:Nat):Int);rw[Int.natCast_add];rfl,J,q,kk}
 rintro _ M2 ⟨price,rfl,hc,q2,k2⟩;refine eB h (n+1) rfl rfl q2 (bd hB `d) p1 X λat_ M3 O q3 k3=>?_
 refine eB h (n+1) rfl rfl q3 (bd (k:=3) hB `d) p1 X λu F ho Q U=>?_
 have L:=((k1.trans k2).trans k3).trans U;have co:fP (1+price):={`a,`a}
 have W:az F p (B+40):=Q.mono (xU (k:=4) `d)
 show ae (bc _ _ [some (.cell p),some (nD w),some (nD pl),some (nD kind),some (nD (1+price)),some (nD at_),some (nD u)] F) _;refine bu (pO rfl) (λ_=>cm ?_) λ_=>?_
 ·simp only[gp,b9,cL,eR,a7,AM];refine{_,rfl,_,rfl,_,rfl,aT (zt h n Q (bd (k:=4) hB `d) w2 w4) λd M' ⟨t,e,I,y,E⟩=>{_,rfl,ay (n:=4) `d,.turn at_ t (1+price),?_,⟨O,I,co⟩,y.mono (xU (k:=11) `d),L.trans E}}
  subst e;rfl
 refine bu (pO rfl) (λ_=>cm ?_) λ_=>?_
 ·obtain⟨o,eo,R⟩:∃o:Nat,fY (ak (av .eq (aa 3) (gI 3))) (ag false .mod (ag false .add (aa 5) (gI 1)) (aa 2)) (aa 6) [some (.cell p),some (nD w),some (nD pl),some (nD kind),some (nD (1+price)),some (nD at_),some (nD u)] F=.ok (nD o) F/\o<pl:=by
   have e:(ak (av .eq (aa 3) (gI 3)):GT) [some (.cell p),some (nD w),some (nD pl),some (nD kind),some (nD (1+price)),some (nD at_),some (nD u)] F=.ok ((kind:Int)==3) F:=gV rfl;cases q:(kind:Int)==3 with
   |true=>rw[q] at e;exact{(at_+1) % pl,gB e (λ_=>Ak (rb (aq rfl) rfl) rfl p1) (λz=>nomatch z),Nat.mod_lt _ p1}
   |false=>rw[q] at e;exact{u,gB e (λz=>nomatch z) (λ_=>aq rfl),ho}
  simp only[gp,b9,cL,eR,a7];refine{_,rfl,?_};rw[eo,bE];exact{_,rfl,ay (n:=4) `d,.move at_ o (1+price),rfl,⟨O,R,co⟩,W,L}
 refine bu (gV rfl) (λ_=>cm ?_) λ_=>?_
 ·simp only[gp,b9,cL,eR];show ae (ah P (n+3) 31 [.cell p,nD w] F) _;refine tk h (n+1) Q (bd (k:=4) hB `d) (QO `d w2) (QC w4 (Qv rfl)) λv M5 J q5 k5=>?_
  exact{ay (n:=4) `d,.put at_ v (1+price),rfl,⟨O,J,co⟩,q5.mono (xU (k:=5) `d),L.trans k5}
 ·simp only[aD,eX,gp,b9,cL,eR,dB,fb,eV,a7];refine{_,rfl,_,rfl,_,rfl,_,rfl,{`a,`a},?_}
  refine comp_map (λi H M'=>∃t:List (List Nat),H=t.map au/\(∀x∈t,gZ w x)/\az M' p (B+4+i*7)/\aM p M M') (ay `o) (λ_ _ _ _=>rfl) {[],rfl,(λ_ S=>nomatch S),Q,L} ?_ ?_
  ·rintro i d H M' hd _ ⟨t,rfl,I,y,E⟩;have hi:i<w:=by
    have:=(Qr.mp hd).1;simpa using this
   refine{_,rfl,?_};rw[bh (af (aq rfl) (af (aq rfl) rfl))];refine aT (zt h n y `a w2 w4) ?_
   rintro _ F ⟨v,rfl,J,p4,U⟩;refine{t++[v],by rw[QG];rfl,λx S=>?_,p4.mono `a,E.trans U}
   rcases Q2.mp S with z|z
   ·exact I x z
   ·rw[QN.mp z];exact J
  ·rintro H M' hl ⟨t,rfl,I,y,E⟩;simp only[Qq,RF] at hl y;exact bX.mpr {ay (by rw[Qq];omega),_,rfl,ay (n:=5) `d,.join at_ u t (1+price),rfl,{O,ho,⟨hl,I⟩,co},y.mono `a,E}
theorem xr (n:Nat){p B W Pl mo:Nat}(hp:az M p B)(hB:B<=700000)(W2:2<=W)(W4:W<=4)(P1:1<=Pl)(P2:Pl<=2)(m1:1<=mo)(m6:mo<=6):ae (ah P (n+5) 34 [.cell p,nD W,nD Pl,nD mo] M) λd M'=>∃m:aH,d=m.d/\aK m/\m.words<=W/\m.places<=Pl/\m.deeds.length<=mo/\az M' p (B+300)/\aM p M M':=by
 refine aE h.law_machine rfl ?_;show ae (fT (ah P (n+4)) [some (.cell p),some (nD W),some (nD Pl),some (nD mo),none,none,none,none] M) _;unfold fT;have plus:∀{Z:Env}{M:Mem}{g:GE}{B c many:Nat}{rest:GS}{K:Fl->Mem->Prop}{i:Nat},Z[0]?.getD none=some (.cell p)->g Z M=.ok (nD many) M->az M p B->B<=1000000->0<many->many<=10000000->(∀(v:Nat) (M':Mem),v<many->az M' p (B+1)->aM p M M'->ae (rest (Z.set i (some (nD (c+v)))) M') K)->ae (bc (ao (.one i) (ag false .add (gC (.int (c:Int))) (ai 31 (ah P (n+4)) #[aa 0,g]))) rest Z M) K:=by
  intro Z M g B c many rest K i e0 eg hp hB h0 h1 hk;refine cn (k:=λd M'=>∃v:Nat,d=nD (c+v)/\v<many/\az M' p (B+1)/\aM p M M') ?_ ?_
  ·rw[jP];simp only[eR];refine aT (dW h (n+2) e0 eg hp hB h0 h1) ?_;rintro _ M2 ⟨v,rfl,hv,q,kk⟩;exact vA.mpr {v,by show D.int ((c:Int)+(v:Int))=D.int ((c+v:Nat):Int);rw[Int.natCast_add],hv,q,kk}
  ·rintro _ M' ⟨v,rfl,a,b,c⟩;exact hk v M' a b c
 refine plus rfl (IK (c:=1) (aq rfl) `a) hp (QC hB `d) `a `a λw M1 hw q1 k1=>?_
 refine plus rfl (aq rfl) q1 (bd hB `d) P1 (QC P2 (Qv rfl)) λpl M2 hpl q2 k2=>?_
 have pl2:=q2.lt;have K2:=k1.trans k2;have ML:=K2.len;have w2:2<=2+w:=Sj _ _;have w4:2+w<=4:=`a
 have l1:1<=1+pl:=Sj _ _;have l2:1+pl<=2:=`a
 generalize hW:2+w=w' at w2 w4;generalize hP:1+pl=p' at l1 l2;refine cn (k:=λd M'=>d=.cell M2.length/\M'=M2++[[]]) ?_ ?_
 ·simp only[ET,cL];exact km.mpr {RG _,rfl,rfl}
 rintro _ _ ⟨rfl,rfl⟩;show ae (bc _ _ [some (.cell p),some (nD w'),some (nD p'),some (nD mo),some (.cell M2.length),none,none,none] (M2++[[]])) _;simp only[aD,dR,eV,jP,eR];refine aT (dW h (n+2) rfl rfl q2.app (bd (k:=2) hB `d) m1 (QC m6 (Qv rfl))) ?_
 rintro _ M3 ⟨many,rfl,hmany,q3,k3⟩;have e3:=k3.get (List.getElem?_concat_length) `a
 have K3:=K2.trans (aM.app.trans k3);generalize hq:M2.length=q at *;refine vA.mpr {_,rfl,{`a,`a},?_}
 rw[show(1+(many:Int)).toNat=1+many by omega]
 refine dA (λi Z M'=>∃ds:List aW,M'[q]?=some (ds.map aW.d)/\ds.length=i/\(∀d∈ds,bO w' p' d)/\az M' p (B+3+i*45)/\aM p M M'/\∃a b c,Z=[some (.cell p),some (nD w'),some (nD p'),some (nD mo),some (.cell q),a,b,c])
  (λ_ _ _ _=>rfl) {[],e3,rfl,(λ_ hd=>nomatch hd),q3,K3,none,none,none,rfl} ?_ ?_
 ·rintro i d Z M' hd ⟨ds,e4,hl,hds,q4,K4,a,b,c,rfl⟩;have hi:i<1+many:=by
   have:=(Qr.mp hd).1;simpa using this
  have hi6:i<=5:=`a
  have hB4:B+3+i*45<=700228:=`a
  have hqM:=ML;have hpq:=pl2;refine{_,rfl,?_};refine eB h (n+2) rfl rfl q4 (QC hB4 `d) `d `d λagain M5 ha q5 k5=>?_
  have e5:=k5.get e4 (Ry hpq);refine cn (k:=λd M'=>∃e:aW,d=e.d/\bO w' p' e/\az M' p (B+3+i*45+41)/\aM p M5 M') ?_ ?_
  ·rw[bh (af (aq rfl) (af (aq rfl) (af (aq rfl) rfl)))];exact aT (BX h n q5 (bd hB4 `d) w2 w4 l1 l2) (by rintro d M' ⟨e,a,b,c,d⟩;exact⟨e,a,b,c,d⟩)
  rintro _ M6 ⟨e,rfl,he,q6,k6⟩;have e6:=k6.get e5 (Ry hpq);have K6:=(K4.trans k5).trans k6;have hsm:(ds.map aW.d).length<sz:=RM (show(ds.map aW.d).length<=50 by rw[Qq,hl];omega) `d
  have fin:∀(e:aW) (M'':Mem) (x5 x6:Option D),bO w' p' e->M''[q]?=some (ds.map aW.d)->az M'' p (B+3+(i+1)*45)->aM p M M''->
   ae (#v[cU (aa 4) (aa 7)] [some (.cell p),some (nD w'),some (nD p'),some (nD mo),some (.cell q),x5,x6,some e.d] M'') λfl M'=>∃ρ',fl=.next ρ'/\∃ds:List aW,M'[q]?=some (ds.map aW.d)/\ds.length=i+1/\(∀d∈ds,bO w' p' d)/\az M' p (B+3+(i+1)*45)/\aM p M M'/\∃a b c,ρ'=[some (.cell p),some (nD w'),some (nD p'),some (nD mo),some (.cell q),a,b,c]:=by
   intro e M'' x5 x6 he e7 q7 K7;simp only[aD,zN,a7];refine{_,rfl,_,rfl,q,ds.map aW.d,rfl,e7,hsm,_,rfl,ds++[e],?_,by rw[Qt,hl];rfl,λd hd=>?_,q7.setq hpq,K7.setq hqM,_,_,_,rfl}
   ·rw[QR (Qr.mp e7).1,QG];rfl
   ·rcases Q2.mp hd with z|z
    ·exact hds d z
    ·rw[QN.mp z];exact he
  show ae (bc _ _ [some (.cell p),some (nD w'),some (nD p'),some (nD mo),some (.cell q),some d,some (nD again),some e.d] M6) _;have en:(ak (av .ne (aa 4) (aL false bj)):GT) [some (.cell p),some (nD w'),some (nD p'),some (nD mo),some (.cell q),some d,some (nD again),some e.d] M6=.ok (!ds.isEmpty) M6:=by
   refine bR ?_;unfold av;show(bV M6 (bx .ne (.cell q) (.lst []) M6)).bind _=_;rw[ne_nil e6];rfl
  refine bu (ra (gV rfl) en) (λcc=>?_) λ_=>fin e M6 _ _ he e6 (q6.mono `a) K6
  have hpos:0<ds.length:=by
   rw[QD] at cc;cases ds with
   |nil=>exact absurd cc.2 `d
   |cons _ _=>exact Nat.succ_pos _
  simp only[aD,mq,jP,eG,iP,gp,b9,cL,yh,eR];have el:aB .len #[aa 4] [some (.cell p),some (nD w'),some (nD p'),some (nD mo),some (.cell q),some d,some (nD again),some e.d] M6=.ok (nD ds.length) M6:=by
   refine aj ?_;simp only[dB,b9,cL,a7];exact{_,rfl,uE.mpr {_,e6,by rw[Qq],rfl}}
  show ae (ai 31 (ah P (n+4)) #[aa 0,aB .len #[aa 4]] [some (.cell p),some (nD w'),some (nD p'),some (nD mo),some (.cell q),some d,some (nD again),some e.d] M6) _;refine aT (dW h (n+2) rfl el q6 (bd hB4 `d) hpos `a) ?_
  rintro _ M7 ⟨v,rfl,hv,q7,k7⟩;have e7:=k7.get e6 (Ry hpq);refine{(ds.getD v e).d,?_,1,rfl,rfl,rfl,?_}
  ·show(M7[q]?).bind (λds=>(bY ds.length (v:Int)).bind λj=>ds[j]?)=_;rw[e7];show(bY (ds.map aW.d).length (v:Int)).bind (λj=>(ds.map aW.d)[j]?)=_;rw[dg (by rw[Qq];exact hv)]
   simp[RJ,hv]
  ·refine aT (C7 ?_) λx1 M3 hx=>{1,rfl,nD e.cost,jL,ay (n:=1) `d,hx}
   exact fin _ M7 _ _ (Bl (hds _ (getD_mem hv)) (wW he)) e7 (q7.mono `a) (K6.trans k7)
 ·rintro Z M' ⟨ds,e4,hl,hds,q4,K4,a,b,c,rfl⟩;simp only[Qq,RF] at hl q4;refine cm ?_;simp only[gp,b9,cL,dB,a7];refine{_,rfl,_,rfl,_,rfl,xn.mpr {_,e4,ay (n:=3) `d,⟨w',p',ds⟩,rfl,{w2,w4,l1,l2,?_,?_,hds},?_,?_,?_,q4.mono `a,K4}}
  ·show 1<=ds.length;omega
  ·show ds.length<=6;omega
  ·show w'<=W;omega
  ·show p'<=Pl;omega
  ·show ds.length<=mo;omega
omit h in
theorem G6 {g:GE}{Z:Env}{l:List aW}(e:g Z M=.ok (.tup (l.map aW.d)) M):aB .len #[g] Z M=.ok (nD l.length) M:=by
 refine aj ?_;simp only[dB];rw[af e rfl,bE];exact{congrArg (λ(n:Nat)=>D.int n) (Qq _),rfl}
theorem FV (h35:P 35=some {3,6,gX})(n:Nat){p B mo:Nat}{m:aH}(hm:aK m)(hp:az M p B)(hB:B<=700000)(O:mo<=40):ae (ah P (n+3) 35 [.cell p,m.d,nD mo] M) λd M'=>∃r:List Nat,d=.lst (r.map nD)/\fD m r/\r.length<=mo/\az M' p (B+50)/\aM p M M':=by
 refine aE h35 rfl ?_;show ae (gX (ah P (n+2)) [some (.cell p),some m.d,some (nD mo),none,none,none] M) _;unfold gX;refine eB h n rfl rfl hp `a `d `d λkind J _ Y k1=>?_
 refine cn (k:=λd M'=>∃v:Nat,d=nD v/\v<=mo/\az M' p (B+2)/\aM p M M') ?_ ?_
 ·show ae (fY _ _ _ [some (.cell p),some m.d,some (nD mo),some (nD kind),none,none] J) _;have t0:(ak (av .eq (aa 3) (gI 0)):GT) [some (.cell p),some m.d,some (nD mo),some (nD kind),none,none] J=.ok ((kind:Int)==((0:Nat):Int)) J:=gV rfl;rw[Nc,t0,bE];split
  ·exact{mo,rfl,Qy _,Y.mono `a,k1}
  ·refine aT (dW h n (many:=mo+1) rfl rfl Y `a (Nat.succ_pos _) `a) (by rintro d M' ⟨v,e,Q,a,b⟩;exact{v,e,Nat.le_of_lt_succ Q,a,k1.trans b})
 intro x M2 R;show ae (bc _ _ [some (.cell p),some m.d,some (nD mo),some (nD kind),some x,none] M2) _;obtain⟨many,ex,F,q2,k2⟩:=R;rw[ex];clear ex;simp only[aD,mq,fb,eV,a7];have S:=QC F O;refine{_,rfl,_,rfl,{Int.le_trans `d (Int.natCast_nonneg _),Int.lt_of_le_of_lt (Int.ofNat_le.mpr S) `d},?_}
 rw[RU];refine comp_map (λi y M'=>∃t:List Nat,y=t.map nD/\(∀x∈t,x<m.deeds.length)/\az M' p (B+2+i)/\aM p M M') (ay (by rw[Qq,RF];omega)) (λ_ _ _ _=>rfl) {[],rfl,(λ_ z=>nomatch z),q2,k2} ?_ ?_
 ·rintro i d y M' hd _ ⟨t,rfl,I,u,E⟩;have W:i<many:=by
   have:=(Qr.mp hd).1
   rwa [Qq,RF] at this
  refine{_,rfl,?_};refine aT (dW h n rfl (G6 (b7 (aq rfl) rfl An)) u `a hm.d1 (by have:=hm.d6;omega)) ?_
  rintro _ U ⟨v,rfl,Q,p4,k4⟩;refine{t++[v],by rw[QG];rfl,λx R=>?_,p4,E.trans k4}
  rcases Q2.mp R with z|z
  ·exact I x z
  ·rw[QN.mp z];exact Q
 ·rintro y M' hl ⟨t,rfl,I,u,E⟩;rw[Qq,Qq,RF] at hl;rw[Qq,RF] at u;have q3:=u.mono (show B+2+many<=B+50 by omega)
  have X:=E;have hl:=Nat.le_of_eq hl;refine bX.mpr {ay (by rw[Qq];omega),?_}
  show ae (bc _ _ [some (.cell p),some m.d,some (nD mo),some (nD kind),some (nD many),some (.lst (t.map nD))] M') _;refine bu (gV rfl) (λ_=>?_) λ_=>bH (aq rfl) {t,rfl,{`a,I},`a,q3,X}
  refine cn (k:=λd U=>U=M'/\d=.lst ((((List.replicate many (t.take 2)).flatten).take many).map nD)) ?_ ?_
  ·have l2:((t.map nD).take 2).length<=2:=by rw[Q7];exact Nat.min_le_left _ _
   simp only[eG,jP,a7,eR];refine{_,rfl,rfl,rfl,(tO (a:=2)).mpr {ay `a,_,rfl,J7.mpr {{?_,`a,`a},bX.mpr {?_,?_}}}}
   ·exact QC (Nat.mul_le_mul l2 (show many<=40 by omega)) `d
   ·rw[RU,List.length_flatten,List.map_replicate,List.sum_replicate_nat];exact QC (Nat.mul_le_mul (show many<=40 by omega) l2) `d
   ·refine{_,rfl,rfl,rfl,tO.mpr {ay (by rw[Q7];exact QC (Nat.min_le_left _ _) `a),rfl,?_}}
    rw[RU,Sx,List.map_flatten,List.map_replicate,Sx]
  rintro _ _ ⟨rfl,rfl⟩;have lm:(((List.replicate many (t.take 2)).flatten).take many).length<=many:=by rw[Q7];exact Nat.min_le_left _ _
  refine fu.mpr (aX.mpr (bH (aq rfl) {_,rfl,{`a,λi W=>?_},`a,q3,X}))
  obtain⟨l,L,H⟩:=List.mem_flatten.mp (Q5 W);rw[(List.mem_replicate.mp L).2] at H;exact I i (Q5 H)
end
def Gb {a b:Nat}:ae (cj false (.frz xs) (.int a) (.int b) M) k↔(cut xs (min a xs.length) (min b xs.length)).length<=sz/\k (.lst (cut xs (min a xs.length) (min b xs.length))) M:=by
 show ae (match aO xs.length 0 (.int a),aO xs.length xs.length (.int b) with|some l,some h=>aS false (cut xs l h) M|_,_=>.bad) k↔_
 have e1:aO xs.length 0 (.int a)=some (min a xs.length):=by
  show some _=_;rw[if_neg `a];simp
 have e2:aO xs.length xs.length (.int b)=some (min b xs.length):=by
  show some _=_;rw[if_neg `a];simp
 rw[e1,e2];exact bX
def B3 {b:Nat}:ae (cj false (.frz xs) .non (.int b) M) k↔(cut xs 0 (min b xs.length)).length<=sz/\k (.lst (cut xs 0 (min b xs.length))) M:=by
 show ae (match aO xs.length 0 D.non,aO xs.length xs.length (.int b) with|some l,some h=>aS false (cut xs l h) M|_,_=>.bad) k↔_
 have e2:aO xs.length xs.length (.int b)=some (min b xs.length):=by
  show some _=_;rw[if_neg `a];simp
 rw[e2];exact bX
def wV {j u:Type}(f:j->u)(l:List j)(a b:Nat):cut (l.map f) a b=(cut l a b).map f:=by simp[cut,Sx,S0]
def qW {j:Type}(l:List j)(a b:Nat):(cut l a b).length<=l.length:=by simp[cut];omega
section
variable{P:Nat->Option Df}(h:HasP0 P){M:Mem}
include h
theorem FX (n:Nat){ns:List Int}(hn:ns.length<=63):ae (ah P (n+1) 29 [.frz (ns.map D.int)] []) λd M'=>d=.cell 1/\az M' 1 0:=by
 refine aE h.law_open rfl ?_;simp[j4,e9];refine(B3).mpr {?_,?_}
 ·exact ay (QC (qW _ _ _) `o)
 simp only[CA,km];refine{ay (QC (qW _ _ _) `o),(Gb).mpr {ay (QC (qW _ _ _) `o),rfl,?_}}
 rw[wV,wV];simp only[Qq,SJ,List.nil_append];have j:min 63 ns.length=ns.length:=`a
 rw[j];refine dA (λi v M'=>∃l:List Int,M'=[l.map D.int]/\l.length=min 12 ns.length/\∃a b,v=[some (.frz (ns.map D.int)),some (.cell 0),a,b]) (λ_ _ _ _=>rfl) {cut ns 0 (min 12 ns.length),rfl,by simp[cut],none,none,rfl} ?_ ?_
 ·rintro i d v M' hd ⟨l,rfl,hl,a,b,rfl⟩;rw[iq,QS] at hd;cases e:(cut ns (min 12 ns.length) ns.length)[i]? with
  |none=>rw[e] at hd;cases hd
  | some x=>
    rw[e] at hd;have hd:=Qz hd;subst hd;have B:=(Qr.mp e).1;have E:12<ns.length:=by
     by_cases c:12<ns.length
     ·exact c
     ·have:min 12 ns.length=ns.length:=`a
      rw[this] at B;simp[cut] at B
    have u:l.length=12:=`a
    have r1:=Sq (i:Int) (show(12:Int)≠0 by decide)
    have r2:=Sk (i:Int) (show(0:Int)<12 by decide)
    obtain⟨y,z⟩:=qN r1 (by rw[u];exact r2)
    obtain⟨k,F⟩:∃k:Nat,(i:Int) % 12=(k:Int):={((i:Int) % 12).toNat,`a}
    refine{_,rfl,?_};simp;rw[F] at z ⊢;have hk:k<l.length:=`a
    refine{_,z,?_};refine{l.map D.int,rfl,k,?_,l.set k (y+x),?_,by simp[hl]}
    ·simpa using dg hk
    ·simp[List.map_set]
 ·rintro v M' ⟨l,rfl,hl,a,b,rfl⟩;simp;exact{`d,{0,l,0,0,rfl,rfl,`d,`d,`d,`d}}
end
abbrev bP:=List (List Nat)
def bD (b:bP):D:=.tup (b.map au)
def bw (m:aH)(i:Nat)(b:bP):bP:=b.map (bS (bW m i))
def cst (m:aH)(i:Nat):Nat:=(bW m i).cost
inductive jy (m:aH):Nat->bP->Prop
 |start:jy m 0 (bp m)
 |step {q:Nat}{b:bP}{i:Nat}:jy m q b->i<m.deeds.length->jy m (q+cst m i) (bw m i b)
def bQ (m:aH)(q:Nat)(b:bP):Prop:=jy m q b/\∀q'<q,¬ jy m q' b
section
variable{m:aH}{q q' p:Nat}{b:bP}
def jl (hm:aK m)(hi:i<m.deeds.length):1<=cst m i/\cst m i<=3:=wW (gH hm hi)
def vZ (h:jy m q b):(q=0/\b=bp m)\/∃i j,i<m.deeds.length/\cst m i<=q/\jy m (q-cst m i) j/\b=bw m i j:=by
 cases h with
 |start=>exact .inl ⟨rfl,rfl⟩
 | @step q b i h u=>exact .inr {i,b,u,Nat.le_add_left _ _,by rw[Nat.add_sub_cancel];exact h,rfl}
def t5 (hm:aK m)(h:jy m q b):b.length=(bp m).length/\∀s∈b,dZ m s:=by
 induction h with
 |start=>exact⟨rfl,n6⟩
 | step _ u j=>
   refine{by unfold bw;rw[Qq];exact j.1,λs hs=>?_}
   obtain⟨t,v,rfl⟩:=QK.mp hs;exact rY (gH hm u) (j.2 t v)
def mD:∀{q:Nat},jy m q b->∃q',q'<=q/\bQ m q' b:=by
 intro q;induction q using Nat.strongRecOn with
 | ind q j=>
   intro h;by_cases z:∃q',q'<q/\jy m q' b
   ·obtain⟨q',h1,h2⟩:=z;obtain⟨r,h3,h4⟩:=j q' h1 h2;exact{r,QC h3 (SH h1),h4}
   ·exact{q,Qy _,h,λq' h1 h2=>z ⟨q',h1,h2⟩}
def xS (h:bQ m q b)(j:bQ m q' b):q=q':=by
 rcases Nat.lt_trichotomy q q' with z|z|z
 ·exact absurd h.1 (j.2 q z)
 ·exact z
 ·exact absurd j.1 (h.2 q' z)
def lE (hm:aK m):bQ m 0 b↔b=bp m:=by
 constructor
 ·intro h;rcases vZ h.1 with⟨_,e⟩|⟨i,u,j,v,_⟩
  ·exact e
  ·have:=(jl hm j).1;omega
 ·rintro rfl;exact{.start,λq' h=>absurd h (S1 _)}
def lF (hm:aK m)(E:0<p):bQ m p b↔(∃i j,i<m.deeds.length/\cst m i<=p/\bQ m (p-cst m i) j/\b=bw m i j)/\∀q<p,¬ bQ m q b:=by
 constructor
 ·intro h;refine{?_,λq y z=>h.2 q y z.1};rcases vZ h.1 with⟨e,_⟩|⟨i,j,u,v,h1,rfl⟩
  ·omega
  ·refine{i,j,u,v,?_,rfl};obtain⟨r,hr,hl⟩:=mD h1;have h2:¬ r+cst m i<p:=λz=>h.2 _ z (.step hl.1 u);have e:r=p-cst m i:=`a
   rw[<- e];exact hl
 ·rintro⟨⟨i,j,u,v,h1,rfl⟩,h2⟩;refine{by have:=jy.step h1.1 u;rwa [Nat.sub_add_cancel v] at this,λq' B z=>?_}
  obtain⟨r,hr,hl⟩:=mD z;exact h2 r `a hl
def xT (hm:aK m)(B:0<p)(h:∀q,q<p->p<=q+3->∀b,¬ bQ m q b):∀q,p<=q->∀b,¬ bQ m q b:=by
 intro q;induction q using Nat.strongRecOn with
 | ind q v=>
   intro E b hl;obtain⟨⟨i,j,u,y,h1,_⟩,_⟩:=(lF hm `a).mp hl
   have c:=jl hm u;by_cases z:p<=q-cst m i
   ·exact v _ `a z j h1
   ·exact h _ `a `a j h1
noncomputable def Ag {j u:Type}{f:j->u}:∀{l:List j},(l.map f).Nodup->l.Nodup
 |[],_=>.nil
 | a::l,h=>by
   rw[RQ,RP] at h;exact List.nodup_cons.mpr {λz=>h.1 (Rx z),Ag h.2}
theorem len_sub {v:Type}[DecidableEq v]:∀{l l':List v},l.Nodup->(∀x∈l,x∈l')->l.length<=l'.length
 |[],_,_,_=>RG _
 | a::l,l',h,s=>by
   have j:=s a QM;have h1:=len_sub (RP.mp h).2 λx u=>by
    have ne:x≠a:=λe=>(RP.mp h).1 (by rw[<- e];exact u)
    exact(List.mem_erase_of_ne ne).mpr (s x (QF _ u))
   rw[List.length_erase_of_mem j] at h1;have h2:=List.length_pos_of_mem j;rw[Rw];omega
structure fV (m:aH) (p:Nat) (l:List (bP×Nat)):Prop where
 nd:(l.map (·.1)).Nodup
 sound:∀x∈l,bQ m x.2 x.1/\x.2<p
 all:∀q b,q<p->bQ m q b->(b,q)∈l
def rf (m:aH)(p:Nat):Prop:=∃l:List (bP×Nat),(l.map (·.1)).Nodup/\(∀x∈l,bQ m x.2 x.1/\x.2<p)/\255<l.length
def fV.mono (h:fV m p l)(u:p<=q)(he:∀k b,p<=k->k<q->¬ bQ m k b):fV m q l:=
 {h.nd,λx j=>{(h.sound x j).1,QO (h.sound x j).2 u},λk b hk hl=>by
  by_cases z:k<p
  ·exact h.all k b z hl
  ·exact absurd hl (he k b `a hk)}
end
def Sub.keep (h:Sub M M'):aM p M M':={h.len,λk hk _=>h.at' k hk}
def Sub.pen (h:Sub M M')(u:az M p B):az M' p B:=by
 obtain⟨c,j,a,st,e1,e2,r⟩:=u.ex;exact{c,j,a,st,h.get e1,h.get e2,r}
noncomputable def A4:∀l:List Nat,cM (l.map nD) (l.map nD)=true
 |[]=>rfl
 | i::l=>by
   show(cb (nD i) (nD i)&&cM (l.map nD) (l.map nD))=true;rw[A4 l];simp[nD,NN]
def HL (l:List Nat):cb (au l) (au l)=true:=A4 l
def Cc (n:Nat)(l:List Nat):ax (n+1) (au l)=true:=by
 show(l.map nD).all (ax n)=true;rw[QV];intro x j;obtain⟨i,_,rfl⟩:=QK.mp j;cases n<;>rfl
def jF (n:Nat)(l:List (List Nat)):(l.map au).all (ax (n+1))=true:=by
 rw[QV];intro x j;obtain⟨i,_,rfl⟩:=QK.mp j;exact Cc n i
def mR (a b:List Nat):aN m (a++b)=aN m a+aN m b:=by simp[aN]
structure HasB (P:Nat->Option Df):Prop where
 after:P 41=some {2,4,jv}
 begins:P 42=some {1,1,iC}
structure Fc (P:Nat->Option Df):Prop where
 same:P 40=some {2,2,gg}
noncomputable def rg:∀ds:List D,iz ds ds=ds.map λd=>.tup [d,d]
 |[]=>rfl
 |d::r=>by simp[iz,rg r]
def xI {ds:List D}:bx .notin (.bl false) (.lst (ds.map λ_=>.bl true)) M=some true:=by
 show(pS (.bl false) (ds.map λ_=>.bl true)).map (!·)=_;unfold pS;rw[if_pos]
 ·have:(ds.map λ_=>D.bl true).any (λy=>cb y (.bl false))=false:=by
   rw[List.any_eq_false];intro x j;obtain⟨_,_,rfl⟩:=QK.mp j;exact QX
  rw[this];rfl
 ·simp[ax]
@[simp] theorem Cz:ae (di (.list m) [.tup ds] M) k↔ae (aS m ds M) k:=RL
def cT (e:pW (.str x) (.str y)=some b)(M:Mem):bx .eq (.str x) (.str y) M=some b:=by
 show mP M (.str x) (.str y)=some b;unfold mP;rw[show pW (view M (.str x)) (view M (.str y))=some b from e]
def yj (hd:bO m.words m.places d)(hs:dZ m s):bS d s=s.set d.at' (d9 d s):=by
 have a0:=sW hd;rw[List.set_eq_take_append_cons_drop,if_pos (by rw[hs.1];exact a0)]
 simp[bS]
def d8 (u:Z[0]?=some (some D0))(j:bJ D0 (.int 0) M=some (.str nm))(c:bx .eq (.str nm) (.str w) M=some false)(h:ae (rest Z M) k):ae (bc (aI (ak (av .eq (aw (aa 0) (gI 0)) (gC (.str w)))) A aC) rest Z M) k:=by
 simp[u,j,c,h]
def ny (u:Z[0]?=some (some D0))(j:bJ D0 (.int 0) M=some (.str nm))(c:bx .eq (.str nm) (.str w) M=some true)(h:ae (A Z M) (gG rest k)):ae (bc (aI (ak (av .eq (aw (aa 0) (gI 0)) (gC (.str w)))) A aC) rest Z M) k:=by
 simp[u,j,c,h]
def tR (c:Call):GS:=#v[aI (ak (av .ne (aB .len #[aa 0]) (aB .len #[aa 1]))) rF aC,aA (av .notin Ky (bG false 2 (.tup [0,1]) (nR (aa 0) (aa 1)) (bI (ai 40 c #[aa 0,aa 1]))))]
section
variable{P:Nat->Option Df}(h:Fc P){M:Mem}
include h
theorem zx (n:Nat)(i:Nat):ah P (n+1) 40 [nD i,nD i] M=.ok (.bl true) M:=by
 refine aj (aE h.same rfl ?_);show ae (gg (ah P n) [some (nD i),some (nD i)] M) _;exact b6 rfl (b6 rfl (Ha rfl (v:=.bl ((i:Int)==(i:Int))) rfl {`s,rfl}))
theorem zM (n:Nat)(j:bT M x=some ds)(u:bT M y=some ds)(hz:ds.length<=sz)(hs:∀d∈ds,ah P n 40 [d,d] M=.ok (.bl true) M)(hk:kl (ds.map λ_=>.bl true) M) :
 ae (cV (cW (.tup [0,1]) (bI (ai 40 (ah P n) #[aa 0,aa 1])) (none::none::Z)) (pw x y) [] M) kl:=by
 refine dN (ds:=ds.map λd=>.tup [d,d]) (λ_=>.bl true) (by simpa using hz) ?_ ?_ ?_
 ·simp[pw,j,u,rg]
 ·intro d hd;obtain⟨e,he,rfl⟩:=QK.mp hd;refine{_,rfl,?_};refine aj ?_;simp;rw[hs e he];exact⟨rfl,rfl⟩
 ·simpa[R8] using hk
theorem B5 (n:Nat)(j:bT M x=some ds)(u:bT M y=some ds)(lx:di .len [x] M=.ok (.int ds.length) M)(v:di .len [y] M=.ok (.int ds.length) M)(z:da x=true)(B:da y=true)(hz:ds.length<=sz)(hs:∀d∈ds,ah P n 40 [d,d] M=.ok (.bl true) M) :
 ae (tR (ah P n) [some x,some y] M) (mM λd M'=>d=.bl true/\M'=M):=by
 simp[tR,lx,v,z,B];exact zM h n j u hz hs {by simpa using hz,xI,rfl}
theorem zw (n:Nat)(j:ba M x r)(u:ba M y r)(hz:r.length<=100000):ah P (n+2) 40 [x,y] M=.ok (.bl true) M:=by
 refine aj (aE h.same rfl ?_);show ae (gg (ah P (n+1)) [some x,some y] M) _;have l:∀{z:D},ba M z r->di .len [z] M=.ok (.int (r.map nD).length) M:=λhz=>aj (hz.len.mpr {by rw[Qq],rfl})
 have z:=B5 h (n+1) j.seq u.seq (l j) (l u) j.is.1 u.is.1 (ay `o) λd hd=>by obtain⟨i,_,rfl⟩:=QK.mp hd;exact zx h n i
 rcases j with rfl|⟨q,rfl,e⟩<;>rcases u with rfl|⟨B,rfl,v⟩<;>exact b6 rfl (b6 rfl (b6 rfl (b6 rfl (b6 rfl z))))
end
section
variable{P:Nat->Option Df}(h:HasB P){M:Mem}
include h
set_option maxHeartbeats 2000000 in
theorem iS (n:Nat)(ha:a<s.length)(hz:s.length<=100)(j:∀M,bJ D0 (.int 0) M=some (.str nm))(e1:∀M,bJ D0 (.int 1) M=some (nD a))
 (I E F H:Bool) (U:∀M,bx .eq (.str nm) (.str "turn") M=some I) (O:∀M,bx .eq (.str nm) (.str "join") M=some E) (Q:∀M,bx .eq (.str nm) (.str "move") M=some F) (R:∀M,bx .eq (.str nm) (.str "put") M=some H)
 (hb:(I=true/\E=false/\F=false/\H=false/\∀M,∃t,bJ D0 (.int 2) M=some t/\bJ t (nD (s.getD a 0)) M=some (nD v))
  \/(I=false/\E=true/\F=false/\H=false/\∀M,∃t u o,bJ D0 (.int 3) M=some t/\bJ t (nD (s.getD a 0)) M=some u/\bJ D0 (.int 2) M=some (nD o)/\o<s.length/\bJ u (nD (s.getD o 0)) M=some (nD v))
  \/(I=false/\E=false/\F=true/\H=false/\∀M,∃o,bJ D0 (.int 2) M=some (nD o)/\o<s.length/\v=s.getD o 0)
  \/(I=false/\E=false/\F=false/\H=true/\∀M,bJ D0 (.int 2) M=some (nD v))) :
 ah P (n+1) 41 [D0,au s] M=.ok (au (s.set a v)) (M++[(s.set a v).map nD]):=by
 refine aj (aE h.after rfl ?_);have S:∀M i,i<s.length->bJ (au s) (nD i) M=some (nD (s.getD i 0)):=λM i hi=>gR hi;have T:ae (di (.list true) [au s] M) (λx L=>x=.cell M.length/\L=M++[s.map nD]):=by
  show ae (di (.list true) [.tup (s.map nD)] M) _;rw[Cz,km];exact{ay `o,rfl,rfl}
 simp only[jv,aD,mq,dB,iP,eR,b9,cL,a7,RQ,List.map_nil,List.cons_append,List.nil_append,List.getElem?_cons_zero,List.getElem?_cons_succ,Option.getD_some,Option.some.injEq,exists_eq_left',aX];refine aT T λx L hx=>?_;obtain⟨rfl,rfl⟩:=hx;have q:=S (M++[s.map nD]) a ha;refine{_,rfl,_,rfl,_,e1 _,_,q,?_};have y:∀Z:Env,Z[2]?=some (some (.cell M.length))->ae (#v[aA (aB .tuple #[aa 2])] Z ((M++[s.map nD]).set M.length ((s.map nD).set a (nD v)))) (mM λx L=>x=au (s.set a v)/\L=M++[(s.set a v).map nD]):=λZ Y=>by
  simp[Y];simp[au,List.map_set]
 have W:(M++[s.map nD])[M.length]?=some (s.map nD):=`s
 have X:bY (s.map nD).length (a:Int)=some a:=dg (by simpa using ha)
 rcases hb with⟨rfl,rfl,rfl,rfl,z⟩|⟨rfl,rfl,rfl,rfl,z⟩|⟨rfl,rfl,rfl,rfl,z⟩|⟨rfl,rfl,rfl,rfl,z⟩
 ·obtain⟨t,B,J⟩:=z (M++[s.map nD]);refine aD.mp (ny rfl (j _) (U _) ?_);simp only[aD,ka,iP,a7,eR];refine{_,rfl,_,B,_,rfl,_,J,_,rfl,_,rfl,_,e1 _,_,_,_,_,rfl,rfl,W,X,?_};exact d8 rfl (j _) (O _) (d8 rfl (j _) (Q _) (d8 rfl (j _) (R _) (y _ rfl)))
 ·obtain⟨t,u,o,B,J,v3,v4,v5⟩:=z (M++[s.map nD]);refine aD.mp (d8 rfl (j _) (U _) (ny rfl (j _) (O _) ?_));simp only[aD,ka,iP,a7,eR];refine{_,rfl,_,B,_,rfl,_,J,_,rfl,_,rfl,_,v3,_,S _ _ v4,_,v5,_,rfl,_,rfl,_,e1 _,_,_,_,_,rfl,rfl,W,X,?_};exact d8 rfl (j _) (Q _) (d8 rfl (j _) (R _) (y _ rfl))
 ·obtain⟨o,B,J,v3⟩:=z (M++[s.map nD]);subst v3;refine aD.mp (d8 rfl (j _) (U _) (d8 rfl (j _) (O _) (ny rfl (j _) (Q _) ?_)));simp only[aD,ka,iP,a7,eR];refine{_,rfl,_,rfl,_,B,_,S _ _ J,_,rfl,_,rfl,_,e1 _,_,_,_,_,rfl,rfl,W,X,?_};exact d8 rfl (j _) (R _) (y _ rfl)
 ·have B:=z (M++[s.map nD]);refine aD.mp (d8 rfl (j _) (U _) (d8 rfl (j _) (O _) (d8 rfl (j _) (Q _) (ny rfl (j _) (R _) ?_))));simp only[aD,ka,iP,a7,eR];refine{_,rfl,_,B,_,rfl,_,rfl,_,e1 _,_,_,_,_,rfl,rfl,W,X,?_};exact y [some D0,some (au s),some (.cell M.length),some (nD (s.getD a 0))] rfl
theorem B2 (n:Nat)(hm:aK m)(hd:bO m.words m.places d)(hs:dZ m s):ah P (n+1) 41 [d.d,au s] M=.ok (au (bS d s)) (M++[(bS d s).map nD]):=by
 rw[yj hd hs];have l0:=hs.1;have p2:=hm.p2;have g:∀i,i<m.places->s.getD i 0<m.words:=λi u=>hs.2 _ (getD_mem `a)
 have a0:=sW hd;have j:d.at'<s.length:=`a
 cases d with
 |turn a t c=>exact iS h n j `a (λ_=>rfl) (λ_=>rfl) true false false false (cT `k) (cT `k) (cT `k) (cT `k) (.inl {rfl,rfl,rfl,rfl,λM=>{au t,rfl,gR (by rw[hd.2.1.1];exact g _ hd.1)}})
 | join a o t c=>
   refine iS h n j `a (λ_=>rfl) (λ_=>rfl) false true false false (cT `k) (cT `k) (cT `k) (cT `k) (.inr (.inl {rfl,rfl,rfl,rfl,λM=>{.tup (t.map au),au (t.getD (s.getD a 0) []),o,rfl,AE (by rw[hd.2.2.1.1];exact g _ hd.1),rfl,by rw[l0];exact hd.2.1,gR ?_}}))
   rw[(hd.2.2.1.2 _ (getD_mem (by rw[hd.2.2.1.1];exact g _ hd.1))).1]
   exact g _ hd.2.1
 |move a o c=>exact iS h n j `a (λ_=>rfl) (λ_=>rfl) false false true false (cT `k) (cT `k) (cT `k) (cT `k) (.inr (.inr (.inl {rfl,rfl,rfl,rfl,λM=>{o,rfl,by rw[l0];exact hd.2.1,rfl}})))
 |put a x c=>exact iS h n j `a (λ_=>rfl) (λ_=>rfl) false false false true (cT `k) (cT `k) (cT `k) (cT `k) (.inr (.inr (.inr {rfl,rfl,rfl,rfl,λM=>rfl})))
theorem zH (n:Nat)(hm:aK m):ah P (n+1) 42 [m.d] M=.ok (.lst ((bp m).map au)) M:=by
 refine aj (aE h.begins rfl ?_);simp[iC];have p1:=hm.p1;have p2:=hm.p2;have w2:=hm.w2;have w4:=hm.w4;refine{_,rfl,?_};have F:m.places=1\/m.places=2:=`a
 have z:m.words=2\/m.words=3\/m.words=4:=`a
 rcases F with u|u
 ·refine .inr {by rw[u];rfl,_,rfl,_,rfl,`a,?_}
  refine dN (ds:=(List.range m.words).map λ(k:Nat)=>D.int (k:Int)) (λd=>.tup [d]) (ay `o) `s (λd hd=>{_,rfl,aj (by simp;exact ay `a)}) {ay `o,?_,rfl}
  unfold bp;rw[u];rcases z with e|e|e<;>rw[e]<;>rfl
 ·refine .inl {by rw[u];rfl,_,rfl,_,rfl,?_}
  simp;refine{`a,?_}
  have B:((m.words:Int)*(m.words:Int)).toNat=m.words*m.words:=by rw[<- Int.natCast_mul];rfl
  have H:=Nat.mul_le_mul w4 w4;rw[B];refine{{by rw[<- Int.natCast_mul];omega,by rw[<- Int.natCast_mul];omega},?_}
  have y:∀k:Nat,(aU #[ag false oA.fdiv (aa 0) (aw (aa 1) (gC (D.int 0))),ag false oA.mod (aa 0) (aw (aa 1) (gC (D.int 0)))]) [some (nD k),some m.d] M=.ok (au [k / m.words,k % m.words]) M:=by
   intro k;refine aj ?_;simp;refine{_,rfl,?_};simp;refine{`a,_,rfl,?_}
   simp;exact{`a,ay `a,rfl}
  refine comp_map (λi j v=>v=M/\j=((List.range (m.words*m.words)).take i).map λk=>au [k / m.words,k % m.words]) (ay (by simpa using by omega)) (λ_ _ _ _=>rfl) ⟨rfl,rfl⟩ ?_ ?_
  ·rintro i d j v hd _ ⟨rfl,rfl⟩;have E:=(Qr.mp hd).1;simp at E;have:d=nD i:=by
    rw[QS,SV `a] at hd
    exact(Qz hd).symm
   subst this;refine{_,rfl,?_};rw[show List.set [none,some m.d] 0 (some (nD i))=[some (nD i),some m.d] from rfl,y i];refine{rfl,?_};rw[RI,SV `a]
   simp
  ·rintro j v _ ⟨rfl,rfl⟩;simp;refine{ay `a,?_}
   unfold bp;rw[u];rcases z with e|e|e<;>rw[e]<;>rfl
end
section
variable{Z:Env}{M:Mem}{a b d:GE}{k:D->Mem->Prop}{kw:Walk->Mem->Prop}{kf:Fl->Mem->Prop}
@[simp] theorem Qc:ae (B7 m (.lst xs) M) k↔ae (aS m xs.reverse M) k:=RL
@[simp] theorem Qb:ae (B7 m (.tup xs) M) k↔k (.tup xs.reverse) M:=RL
def kC (I:Nat->Env->Mem->Prop)(R:D->Mem->Prop)(B:∀i Z M,I i Z M->w M=some ds)(v:∀d M,R d M->w M=some ds)(z:I 0 Z M)
 (hs:∀i d Z M,ds[i]?=some d->I i Z M->∃ρ1,b4 t d Z=some ρ1/\ae (gb ρ1 M) λfl M=>(∃ρ',fl=.next ρ'/\I (i+1) ρ' M)\/∃d,fl=.ret d/\R d M) (hk:∀Z M,I ds.length Z M->kf (.next Z) M) (hr:∀d M,R d M->kf (.ret d) M) :
 ae (cV (gm t gb) w (.next Z) M) kf:=by
 refine fE (λi fl M=>(∃Z,fl=.next Z/\I i Z M)\/∃d,fl=.ret d/\R d M) (λi fl M h=>h.elim ((by rintro⟨Z,_,h⟩;exact B i Z M h)) (by rintro⟨d,_,h⟩;exact v d M h)) (.inl ⟨Z,rfl,z⟩) ?_ ?_
 ·rintro i d fl M hd (⟨Z,rfl,j⟩|⟨y,rfl,u⟩)
  ·obtain⟨ρ1,e,h⟩:=hs i d Z M hd j;simp only[gm,bf,gL,e];exact⟨ρ1,rfl,h⟩
  ·exact .inr ⟨y,rfl,u⟩
 ·rintro fl M (⟨Z,rfl,j⟩|⟨d,rfl,u⟩)
  ·exact hk Z M j
  ·exact hr d M u
end
def LF (i j:Nat):cb (nD i) (nD j)=decide (i=j):=by
 show((i:Int)==(j:Int))=_;rw[RX];simp;omega
noncomputable def qh:∀l r:List Nat,cM (l.map nD) (r.map nD)=decide (l=r)
 |[],[]=>rfl
 |[],_::_=>rfl
 |_::_,[]=>rfl
 | i::l,j::r=>by
   show(cb (nD i) (nD j)&&cM (l.map nD) (r.map nD))=_;rw[LF,qh l r,RX];simp
def vk (l r:List Nat):cb (au l) (au r)=decide (l=r):=qh l r
noncomputable def mU:∀l r:List (List Nat),cM (l.map au) (r.map au)=decide (l=r)
 |[],[]=>rfl
 |[],_::_=>rfl
 |_::_,[]=>rfl
 | i::l,j::r=>by
   show(cb (au i) (au j)&&cM (l.map au) (r.map au))=_;rw[vk,mU l r,RX];simp
def la (n:Nat)(l:List Nat):ax (n+1) (.lst (l.map nD))=true:=by
 show(l.map nD).all (ax n)=true;rw[QV];intro x j;obtain⟨i,_,rfl⟩:=QK.mp j;cases n<;>rfl
def A1 {l r:List (List Nat)}:bx .eq (.tup (l.map au)) (.tup (r.map au)) M=some (decide (l=r)):=nZ (jF 62 l) (jF 62 r) (mU l r)
def se {l r:List (List Nat)}:bx .ne (.tup (l.map au)) (.tup (r.map au)) M=some (!decide (l=r)):=iY (jF 62 l) (jF 62 r) (mU l r)
def ends (m:aH)(r:List Nat):List (List Nat):=(bp m).map (dU m r)
def sm (m:aH)(r:List Nat):yw m r=.tup ((ends m r).map au):=by simp[yw,ends,R8]
section
variable{P:Nat->Option Df}(h:HasB P){M:Mem}
include h
theorem ia (he:P 44=some {2,5,fy})(n:Nat)(H:ba M x r)(hm:aK m)(hr:∀i∈r,i<m.deeds.length):ae (ah P (n+2) 44 [m.d,x] M) λd M'=>d=.tup ((ends m r).map au)/\Sub M M':=by
 have U:=zH h n (M:=M++[[]]) hm;have bl:=jo hm;refine aE he rfl ?_;simp[fy,U];refine{rfl,?_};generalize R:M.length=q;refine dA (λi Z M'=>M'[q]?=some (((bp m).take i).map λs=>au (dU m r s))/\Sub M M'/\q<M'.length/\∃Q y,Z=[some m.d,some x,some (.cell q),Q,y]) (λ_ _ _ _=>rfl) {by subst R;simp,Sub.app,by subst R;simp,none,none,rfl} ?_ ?_
 ·rintro i d Z M' hd ⟨E,I,B,Q,y,rfl⟩;rw[QS] at hd;cases e:(bp m)[i]? with
  |none=>rw[e] at hd;cases hd
  | some s=>
    rw[e] at hd;cases Qz hd;have hs:=n6 s (QT e);refine{_,rfl,?_};simp[H.is];refine dA (λj Z v=>v[q]?=some (((bp m).take i).map λs=>au (dU m r s))/\Sub M v/\q<v.length/\∃y,Z=[some m.d,some x,some (.cell q),some (au (dU m (r.take j) s)),y]) (λ_ _ _ e=>(H.sub e.2.1).seq) ⟨E,I,B,y,rfl⟩ ?_ ?_
    ·rintro j X Z v z ⟨L,J,u,W,rfl⟩;rw[QS] at z;cases F:r[j]? with
     |none=>rw[F] at z;cases z
     | some k=>
       rw[F] at z;cases Qz z;have hk:=hr k (QT F);have O:dZ m (dU m (r.take j) s):=qS hm (λx H=>hr x (Q5 H)) hs;have S:=B2 h n (M:=v) hm (gH hm hk) O;refine{_,rfl,?_};simp[-gD,An,lH hk,S];exact{by rw[QE u,L,Sx],J.trans Sub.app,`a,by rw[RI,F];simp[pa,dU]}
    ·rintro Z v ⟨L,J,u,W,rfl⟩;simp[L];exact{RM (show _<=50 by omega) `d,by rw[QR u,RI];simp[e],J.setq `a,u}
 ·rintro Z M' ⟨E,I,B,Q,y,rfl⟩;rw[Qq,List.take_length] at E;simp[E,ends,R8,I]
end
noncomputable def oW:∀s:List Nat,intsOf (s.map nD)=some (s.map λ(n:Nat)=>(n:Int))
 |[]=>rfl
 |a::s=>by show(intsOf (s.map nD)).map _=_;rw[oW s];rfl
def wC (s:List Nat):isKey 77 (au s)=true:=by
 show(intsOf (s.map nD)).isSome=true;rw[oW];rfl
noncomputable def Av:∀b:bP,jI (b.map au)=some (b.map λs=>s.map λ(n:Nat)=>(n:Int))
 |[]=>rfl
 | s::b=>by
   show((intsOf (s.map nD)).bind λk=>(jI (b.map au)).map (k::·))=_;rw[oW,Av b];rfl
def sR (b:bP):isKey 78 (bD b)=true:=by
 show(jI (b.map au)).isSome=true;rw[Av];rfl
def NO (a b:bP):cb (bD a) (bD b)=decide (a=b):=mU a b
section
variable{Z:Env}{M:Mem}{a b:GE}{k:D->Mem->Prop}
def qa {c:Int}(e:M[j]?=some (.int c::es))(h:c=77\/c=78):dh M (aQ j)=some (c,es):=by
 unfold dh;rw[if_pos (show 5000<=aQ j from Sj _ _),show aQ j-5000=j from Rl _ _,e];exact if_pos h
def oP {h:Type}(f g:h->D)(l:List h)(x:D):dM (l.map λy=>.tup [f y,g y]) x=(l.find? λy=>cb (f y) x).map g:=by
 unfold dM;rw[List.find?_map,Option.map_map];rfl
def uQ {x:D}{o:Nat}{y d:D}(h:a Z M=.ok (.fn o) M)(u:b Z M=.ok y M)(e:getD M o y=some d):iN a b Z M=.ok d M:=by
 unfold iN;rw[h];show(b Z M).bind _=_;rw[u];show bV M (getD M o y)=_;rw[e];rfl
end
def eE (m:aH)(d:aW):List D:=.int 77::(bp m).map λs=>.tup [au s,au (bS d s)]
section
variable{P:Nat->Option Df}{M:Mem}{m:aH}{d:aW}{j:Nat}
def oR (e:M[j]?=some (eE m d))(hm:aK m)(hs:dZ m s):getD M (aQ j) (au s)=some (au (bS d s)):=by
 unfold getD;rw[qa e (.inl rfl)];show(if isKey 77 (au s)=true then dM ((bp m).map λs=>.tup [au s,au (bS d s)]) (au s) else none)=_;rw[if_pos (wC s),oP au λs=>au (bS d s)];have e2:((bp m).find? λy=>cb (au y) (au s))=some s:=by
  cases h:(bp m).find? λy=>cb (au y) (au s) with
  |none=>exact absurd (HL s) (List.find?_eq_none.mp h s (Dk hm hs))
  | some y=>
    have:=List.find?_some h;rw[vk] at this;rw[of_decide_eq_true this]
 rw[e2];rfl
def zD (h152:P 152=some {2,2,dY})(n:Nat)(e:M[j]?=some (eE m d))(hm:aK m)(hl:b.length<=16)(h:∀s∈b,dZ m s):ah P (n+1) 152 [.fn (aQ j),bD b] M=.ok (bD (b.map (bS d))) M:=by
 refine aj (aE h152 rfl ?_);simp only[dY,aD,eX,dB,b9,fb,cL,fA,a7];refine{_,rfl,rfl,?_};refine dN (λx=>(getD M (aQ j) x).getD .non) (ay `o) rfl ?_ ?_
 ·intro x u;obtain⟨s,hs,rfl⟩:=QK.mp u;refine{_,rfl,?_};rw[oR e hm (h s hs)];exact uQ (x:=.non) rfl rfl (oR e hm (h s hs))
 ·have e2:(b.map au).map (λx=>(getD M (aQ j) x).getD .non)=(b.map (bS d)).map au:=by
   rw[Rv,Rv];refine Sf λs hs=>?_;show(getD M (aQ j) (au s)).getD .non=_;rw[oR e hm (h s hs)];rfl
  rw[e2];exact bX.mpr {ay `o,rfl,rfl}
end
theorem wt {u F:Type}{f:u->List F}:∀{l:List u},l.Nodup->(∀a,(f a).Nodup)->(∀a b x,a≠b->x∈f a->x∉f b)->(l.flatMap f).Nodup
 |[],_,_,_=>`s
 | a::l,h,h1,h2=>by
   rw[List.flatMap_cons,List.nodup_append];rw[RP] at h;refine{h1 a,wt h.2 h1 h2,λx B y E e=>?_};subst e;obtain⟨b,v,j⟩:=List.mem_flatMap.mp E;exact h2 a b x (λz=>h.1 (z ▸ v)) B j
noncomputable def wq (s:List Nat):∀{l:List Nat},l.Nodup->(l.map λx=>s++[x]).Nodup
 |[],_=>`s
 | a::l,h=>by
   rw[RP] at h;rw[RQ,RP];refine{λz=>?_,wq s h.2};obtain⟨b,j,e⟩:=QK.mp z;have e:b=a:=by simpa using e
   exact h.1 (e ▸ j)
noncomputable def vn (w:Nat):∀p,(dC w p).Nodup
 |0=>by unfold dC;simp
 | p+1=>by
   unfold dC qR;refine wt (vn w p) (λs=>wq s List.nodup_range) λa b x h u v=>?_;obtain⟨i,_,rfl⟩:=QK.mp u;obtain⟨j,_,e⟩:=QK.mp v;exact h (List.append_inj_left' e rfl).symm
def MH {v:Type}{l:List v}(h:l.Nodup){i j:Nat}{x:v}(u:i<j)(hi:l[i]?=some x)(y:l[j]?=some x):False:=by
 obtain⟨h1,e1⟩:=Qr.mp hi;obtain⟨h2,e2⟩:=Qr.mp y;exact List.pairwise_iff_getElem.mp h i j h1 h2 u (e1.trans e2.symm)
section
variable{Z:Env}{M:Mem}{k:D->Mem->Prop}{kl:List D->Mem->Prop}
def Hk {c:Int}(h:ae (w Z M) λw M=>ae (cV (cW tg g (List.replicate n none++Z)) w [.fn (aQ M.length)] (M++[[.int c]])) λacc M=>∃d,acc=[d]/\k d M):ae (kB c n tg w g Z M) k:=by
 refine bf.mpr (aT h λw M h=>bf.mpr (aT h ?_));rintro _ M ⟨d,rfl,h⟩;exact h
def KU (h1:gk Z M=.ok x M)(h2:gv Z M=.ok y M)(e:dh M o=some q)(hk:isKey q.1 x=true)(hl:q.2.length<1000000)(h:kl [.fn o] (M.set (o-5000) (.int q.1::putD q.2 x y))):ae (jN gk gv Z [.fn o] M) kl:=by
 unfold jN;rw[h1];show ae ((gv Z M).bind _) kl;rw[h2];show ae (match dh M o with|some q=>if isKey q.1 x=true/\q.2.length<1000000 then Res.ok [D.fn o] (M.set (o-5000) (.int q.1::putD q.2 x y)) else .bad|none=>.bad) kl
 rw[e];show ae (if isKey q.1 x=true/\q.2.length<1000000 then Res.ok [D.fn o] (M.set (o-5000) (.int q.1::putD q.2 x y)) else .bad) kl;rw[if_pos ⟨hk,hl⟩];exact h
end
def wa (h:dM es x=none):putD es x y=es++[.tup [x,y]]:=by
 unfold putD;rw[h];rfl
section
variable{P:Nat->Option Df}{M:Mem}{m:aH}{d:aW}
def tQ (h:j=M.length):(M++[x]).set j y=M++[y]:=by
 subst h;rw[List.set_append_right _ _ (Qy _),Nat.sub_self];rfl
def Ap {n:Nat}(B:∀s M,dZ m s->ah P (n+2) 24 [d.d,au s] M=.ok (au (bS d s)) M)(hm:aK m)(hk:k (.fn (aQ M.length)) (M++[eE m d])) :
 ae (kB 77 1 (.one 0) (b8 (aa 2)) (jN (aa 0) (ai 24 (ah P (n+2)) #[aa 1,aa 0])) [some d.d,y,some (.lst ((bp m).map au))] M) k:=by
 refine Hk ?_;simp only[fA,a7];refine{_,rfl,rfl,?_};have bl:=jo hm;have nd:=vn m.words m.places;refine fE (λi h v=>h=[.fn (aQ M.length)]/\v=M++[.int 77::((bp m).take i).map λs=>.tup [au s,au (bS d s)]]) (λ_ _ _ _=>rfl) {rfl,`s} ?_ ?_
 ·rintro i x h v hd ⟨rfl,rfl⟩;rw[QS] at hd;cases e:(bp m)[i]? with
  |none=>rw[e] at hd;cases hd
  | some s=>
    rw[e] at hd;have hd:=Qz hd;subst hd;have hs:=n6 s (QT e);simp only[cW,bf,gL];refine{_,rfl,?_};have F:(M++[.int 77::((bp m).take i).map λs=>D.tup [au s,au (bS d s)]])[M.length]?=some (.int 77::((bp m).take i).map λs=>D.tup [au s,au (bS d s)]):=`s
    refine KU rfl ((bh (af rfl (af rfl rfl))).trans (B s _ hs)) (qa F (.inl rfl)) (wC s) `o {rfl,?_}
    have none:dM (((bp m).take i).map λs=>.tup [au s,au (bS d s)]) (au s)=Option.none:=by
     rw[oP au λs=>au (bS d s)];rw[List.find?_eq_none.mpr];rfl;intro t H;rw[vk];intro z;have z:=of_decide_eq_true z;subst z;obtain⟨j,E⟩:=List.getElem?_of_mem H;have u:j<i:=by
      have:=(Qr.mp E).1;simp at this;omega
     rw[List.getElem?_take_of_lt u] at E;exact MH nd u E e
    rw[wa none];rw[show aQ M.length-5000=M.length from Rl _ _,tQ rfl,RI,e];simp
 ·rintro h v ⟨rfl,rfl⟩;rw[Qq,Q3 (Qy _)];exact{_,rfl,hk}
end
section
variable{Z:Env}{M:Mem}
def HM (e:a Z M=.ok x M):c8 (.one i) a Z M=.ok (.next (Z.set i (some x))) M:=by
 unfold c8;rw[e];rfl
def dG (e:s Z M=.ok xs M):bB f c s Z M=c f xs M:=by
 unfold bB;rw[e]
end
noncomputable def cD (m:aH)(L:Nat):D:=.lst ((List.range m.deeds.length).map λi=>.tup [nD (cst m i),.fn (aQ (L+i))])
def qV (e:m.deeds[i]?=some d):bW m i=d:=by
 unfold bW;rw[RJ,e];rfl
section
variable{P:Nat->Option Df}{M:Mem}{m:aH}
def tM (u:HasB0 P)(hr:jU P)(h15:P 15=some {1,6,cw})(h151:P 151=some {1,2,dQ})(n:Nat)(hm:aK m):ah P (n+10) 151 [m.d] M=.ok (cD m M.length) (M++m.deeds.map (eE m)):=by
 refine aj (aE h151 rfl ?_);refine bq (HM ((dG (af rfl rfl)).trans (nA u h15 n hm))) ?_;simp only[aD,eX,fb,fA,iP,a7,eR];refine{_,rfl,_,rfl,rfl,?_};have d6:=hm.d6;refine comp_map (λi h j=>h=(List.range i).map (λi=>.tup [nD (cst m i),.fn (aQ (M.length+i))])/\j=M++(m.deeds.take i).map (eE m)) (ay `o) (λ_ _ _ _=>rfl) {rfl,`s} ?_ ?_
 ·rintro i x h j hd _ ⟨rfl,rfl⟩;rw[QS] at hd;cases e:m.deeds[i]? with
  |none=>rw[e] at hd;cases hd
  | some d=>
    rw[e] at hd;have hd:=Qz hd;subst hd;have v:=(Qr.mp e).1;have hok:=hm.ok d (QT e);refine{_,rfl,?_};simp only[gp,b9,iP,a7,yh,eR,cL];refine{_,rfl,_,rfl,nD d.cost,jL,?_};refine Ap (λs M hs=>vX hr (n+7) hm hok hs) hm {ay (n:=2) `d,?_,?_}
    ·have l:(M++(m.deeds.take i).map (eE m)).length=M.length+i:=by simp;omega
     rw[l,List.range_succ,QG];have c:cst m i=d.cost:=by unfold cst;rw[qV e]
     rw[<- c];rfl
    ·rw[RI,e];simp
 ·rintro h j _ ⟨rfl,rfl⟩;rw[Qq,Q3 (Qy _)];exact bX.mpr {ay `o,rfl,rfl}
end
section
variable{Z ρ':Env}{M M':Mem}{a b d:GE}{t rest:GS}{kf:Fl->Mem->Prop}
def d7 (e:t Z M=.ok (.next ρ') M')(h:ae (rest ρ' M') kf):ae (bc t rest Z M) kf:=by
 rw[aD,e];exact h
def Ll (h:a Z M=.ok x M)(j:b Z M=.ok (.fn o) M)(e:inD M o x=some r):mK n a b Z M=.ok (.bl (n != r)) M:=by
 unfold mK;rw[h];show(b Z M).bind _=_;rw[j];show(match inD M o x with|some r=>Res.ok (D.bl (n != r)) M|none=>.bad)=_
 rw[e]
def Hv (h:a Z M=.ok (.fn o) M)(e:dh M o=some q):nS a Z M=.ok (nD q.2.length) M:=by
 unfold nS;rw[h];show(match dh M o with|some q=>Res.ok (D.int q.2.length) M|none=>.bad)=_
 rw[e]
def LK (h:a Z M=.ok (.cell j) M)(hd:d Z M=.ok z M)(e:M[j]?=some ds)(hl:ds.length<sz):cU a d Z M=.ok (.next Z) (M.set j (ds++[z])):=by
 unfold cU;rw[h];show(d Z M).bind _=_;rw[hd];show(match M[j]? with|some ds=>if ds.length<sz then Res.ok (Fl.next Z) (M.set j (ds++[z])) else .bad|none=>.bad)=_
 rw[e];exact if_pos hl
def j9 (e:s Z M=.ok xs M)(hl:xs.length<=100):aU s Z M=.ok (.tup xs) M:=by
 unfold aU;rw[e];exact if_pos (ay `a)
def Kv {i j:Int}(h1:a Z M=.ok (.int i) M)(h2:b Z M=.ok (.int j) M):ak (av .gt a b) Z M=.ok (decide (j<i)) M:=by
 refine fJ (pz.mpr (iQ.mpr ?_));rw[h1,bE,h2,bE];exact{_,rfl,_,rfl,rfl,rfl}
def Nb {i:Int}(ha:a Z M=.ok (.int i) M)(h1:z.length<=1000)(h2:y.length<=1000)(h3:i.natAbs<2^64):oq z y a Z M=.ok (.str (z++(toString i:Str)++y)) M:=by
 unfold oq;rw[ha];exact if_pos ⟨h1,h2,h3⟩
end
abbrev qs:=List (bP×Nat×List Nat)
set_option tactic.hygienic true in
def wL (I:Nat->Env->Mem->Prop)(X:Fl->Mem->Prop)(z:∀fl M,X fl M->∀Z,fl≠.next Z)(B:∀i Z M,I i Z M->w M=some ds)(v:∀fl M,X fl M->w M=some ds)(y:I 0 Z M)
 (hs:∀i d Z M,ds[i]?=some d->I i Z M->∃ρ1,b4 t d Z=some ρ1/\ae (gb ρ1 M) λfl M=>(∃ρ',fl=.next ρ'/\I (i+1) ρ' M)\/X fl M) (hk:∀Z M,I ds.length Z M->kf (.next Z) M) (E:∀fl M,X fl M->kf fl M) :
 ae (cV (gm t gb) w (.next Z) M) kf:=by
 refine fE (λi fl M=>(∃Z,fl=.next Z/\I i Z M)\/X fl M) (λi fl M h=>h.elim ((by rintro⟨Z,_,h⟩;exact B i Z M h)) λh=>v fl M h) (.inl ⟨Z,rfl,y⟩) ?_ ?_
 ·rintro i d fl M hd (⟨Z,rfl,u⟩|j)
  ·obtain⟨ρ1,e,h⟩:=hs i d Z M hd u;simp only[gm,bf,gL,e];exact⟨ρ1,rfl,h⟩
  ·cases fl with
   |next Z=>exact absurd rfl (z _ _ j Z)
   |ret d=>exact .inr j
   |exc x Z=>exact .inr j
 ·rintro fl M (⟨Z,rfl,u⟩|j)
  ·exact hk Z M u
  ·exact E fl M j
structure NW (p:Nat) (E0:qs) (S:bP->Prop) (N:qs):Prop where
 nd:((E0++N).map (·.1)).Nodup
 fr:∀x∈N,S x.1/\x.2.1=p/\x.2.2.length<=p
 al:∀b,S b->b∈(E0++N).map (·.1)
def sv (p:Nat)(E0:qs)(S:bP->Prop):Prop:=∃N:qs,((E0++N).map (·.1)).Nodup/\(∀x∈N,S x.1/\x.2.1=p)/\255<(E0++N).length
def sv.mono (h:sv p E0 S)(hs:∀b,S b->S' b):sv p E0 S':=let⟨N,h1,h2,h3⟩:=h;{N,h1,λx j=>{hs _ (h2 x j).1,(h2 x j).2},h3}
def NW.old (h:NW p E0 S N)(hs:∀x,S' x↔S x\/x=b)(u:∃e∈E0++N,e.1=b):NW p E0 S' N:=
 {h.nd,λx j=>{(hs _).mpr (.inl (h.fr x j).1),(h.fr x j).2},λc v=>by
  rcases(hs c).mp v with z|z
  ·exact h.al c z
  ·obtain⟨e,he,y⟩:=u;rw[z,<- y];exact Rx he}
def NW.new (h:NW p E0 S N)(hs:∀x,S' x↔S x\/x=b)(v:∀e∈E0++N,e.1≠b)(hr:r.length<=p):NW p E0 S' (N++[(b,p,r)]):=by
 refine{?_,λx j=>?_,λc B=>?_}
 ·rw[<- RT,QG,List.nodup_append];refine{h.nd,`s,λx j y u e=>?_}
  obtain⟨z,E,rfl⟩:=QK.mp j;have u:y=b:=by simpa using u
  exact v z E (e.trans u)
 ·rcases Q2.mp j with z|z
  ·exact{(hs _).mpr (.inl (h.fr x z).1),(h.fr x z).2}
  ·obtain rfl:=QN.mp z;exact{(hs _).mpr (.inr rfl),rfl,hr}
 ·rw[<- RT,QG];rcases(hs c).mp B with z|z
  ·exact RE _ (h.al c z)
  ·exact Rh _ (by rw[z];exact QN.mpr rfl)
def vG (M:Mem)(fk:Nat)(x:D)(A:List bP):Prop:=x=.lst (A.map bD)\/∃c,x=.cell c/\c≠fk/\M[c]?=some (A.map bD)
def Hi:∀{k i:Nat}{d:D},(eF k ds)[i]?=some d->∃x,ds[i]?=some x/\d=.tup [nD (k+i),x]:=by
 induction ds with
 |nil=>intro k i d h;simp[eF] at h
 | cons a ds j=>
   intro k i d h;cases i with
   |zero=>cases h;exact⟨a,rfl,rfl⟩
   | succ i=>
     obtain⟨x,h1,h2⟩:=j h;exact{x,h1,by rw[h2,Sw,Nat.add_comm 1 i]}
noncomputable def oY:∀{ds:List D}{k:Nat},(eF k ds).length=ds.length
 |[],_=>rfl
 |_::ds,k=>by show(eF (k+1) ds).length+1=ds.length+1;rw[oY]
def iV (m:aH)(p:Nat)(Ls:Nat->List bP)(i:Nat):List bP:=if cst m i<=p then Ls (p-cst m i) else []
def jC (m:aH)(p:Nat)(Ls:Nat->List bP)(i:Nat)(b:bP):Prop:=∃h,h<i/\b∈(iV m p Ls h).map (bw m h)
noncomputable def pr (e:bP×Nat×List Nat):bP×Nat:=(e.1,e.2.1)
section
variable{m:aH}{p:Nat}{E0 N:qs}{Ls:Nat->List bP}
def nI (E:qs):(E.map pr).map (·.1)=E.map (·.1):=by rw[Rv];rfl
set_option tactic.hygienic true in
def u9 (hm:aK m)(u:∀q,q<p->∀b,b∈Ls q↔bQ m q b)(b:bP):jC m p Ls m.deeds.length b↔∃i j,i<m.deeds.length/\cst m i<=p/\bQ m (p-cst m i) j/\b=bw m i j:=by
 constructor
 ·rintro⟨i,v,h⟩;have c:=jl hm v;obtain⟨j,y,rfl⟩:=QK.mp h;unfold iV at y;split at y
  ·next z=>exact{i,j,v,z,(u _ `a j).mp y,rfl}
  ·exact nomatch y
 ·rintro⟨i,j,v,z,hl,rfl⟩;have c:=jl hm v;refine{i,v,Rx ?_};unfold iV;rw[if_pos z];exact(u _ `a j).mpr hl
def ot (hm:aK m)(v:0<p)(h:∀q,q<p->∀b,b∈Ls q↔bQ m q b)(j:fV m p (E0.map pr))(nd:((E0++N).map (·.1)).Nodup)(B:x∈N)(u:jC m p Ls m.deeds.length x.1):bQ m p x.1:=by
 refine(lF hm v).mpr {(u9 hm h _).mp u,λq y hl=>?_};have z:=j.all q x.1 y hl;have E:x.1∈E0.map (·.1):=by rw[<- nI];exact Rx z
 rw[QG,List.nodup_append] at nd;exact nd.2.2 _ E _ (Rx B) rfl
def G5 (hm:aK m)(E:0<p)(v:∀q,q<p->∀b,b∈Ls q↔bQ m q b)(B:fV m p (E0.map pr))(u:NW p E0 (jC m p Ls m.deeds.length) N):fV m (p+1) ((E0++N).map pr)/\∀b,b∈N.map (·.1)↔bQ m p b:=by
 have fl:=λx j=>ot hm E v B u.nd j (u.fr x j).1;have back:∀b,bQ m p b->∃x∈N,x.1=b:=λb hl=>by
  have F:=(u9 hm v b).mpr ((lF hm E).mp hl).1;obtain⟨x,j,e⟩:=QK.mp (u.al b F);rcases Q2.mp j with z|z
  ·have s:=B.sound (pr x) (Rx z);have s1:=e ▸ s.1;have:=xS s1 hl;omega
  ·exact⟨x,z,e⟩
 refine{{by rw[nI];exact u.nd,λy H=>?_,λq b I hl=>?_},λb=>{λh=>?_,λh=>?_}}
 ·obtain⟨x,j,rfl⟩:=QK.mp H;rcases Q2.mp j with z|z
  ·have s:=B.sound (pr x) (Rx z);exact{s.1,SN s.2}
  ·have e:x.2.1=p:=(u.fr x z).2.1;exact{by show bQ m x.2.1 x.1;rw[e];exact fl x z,by show x.2.1<p+1;omega}
 ·rcases Nat.lt_or_ge q p with z|z
  ·rw[QG];exact RE _ (B.all q b z hl)
  ·have:q=p:=`a
   subst this;obtain⟨x,j,rfl⟩:=back b hl;rw[QG];refine Rh _ (QK.mpr {x,j,?_});show(x.1,x.2.1)=_;rw[(u.fr x j).2.1]
 ·obtain⟨x,j,rfl⟩:=QK.mp h;exact fl x j
 ·obtain⟨x,j,rfl⟩:=back b h;exact Rx j
def Cm (hm:aK m)(u:0<p)(h:∀q,q<p->∀b,b∈Ls q↔bQ m q b)(j:fV m p (E0.map pr))(E:sv p E0 (jC m p Ls m.deeds.length)):rf m (p+1):=by
 obtain⟨N,nd,fr,hl⟩:=E;refine{(E0++N).map pr,by rw[nI];exact nd,λy B=>?_,by rw[Qq];exact hl}
 obtain⟨x,v,rfl⟩:=QK.mp B;rcases Q2.mp v with z|z
 ·have s:=j.sound (pr x) (Rx z);exact{s.1,SN s.2}
 ·have e:x.2.1=p:=(fr x z).2;exact{by show bQ m x.2.1 x.1;rw[e];exact ot hm u h j nd z (fr x z).1,by show x.2.1<p+1;omega}
def rf.mono (h:rf m p)(u:p<=q):rf m q:=let⟨l,h1,h2,h3⟩:=h;{l,h1,λx j=>{(h2 x j).1,QO (h2 x j).2 u},h3}
end
noncomputable def lsN (Ls:Nat->List bP)(p:Nat)(A:List bP):Nat->List bP:=λq=>if q=p then A else Ls q
set_option tactic.hygienic true in
def yT {c:GT}{b:GS}{y:Fl->Mem->Prop}(I:Nat->Env->Mem->Prop)
 (hs:∀k Z M,I k Z M->ae (c Z M) λv M1=>(v=false->y (.next Z) M1)/\(v=true->∃k',k=k'+1/\ae (b Z M1) λfl j=>(∃ρ',fl=.next ρ'/\I k' ρ' j)\/((∀ρ',fl≠.next ρ')/\y fl j))) :
 ∀(n k:Nat) (Z:Env) (M:Mem),k<n->I k Z M->ae (j8 c b n Z M) y:=by
 intro n;induction n with
 |zero=>intro k Z M h;exact absurd h (S1 _)
 | succ n E=>
   intro k Z M h B;unfold j8;refine bf.mpr (aT (hs k Z M B) λv M1 ⟨h1,h2⟩=>?_);cases v with
   |false=>exact h1 rfl
   | true=>
     obtain⟨k',rfl,h3⟩:=h2 rfl;rw[if_pos rfl];refine bf.mpr (aT h3 λfl j h4=>?_);rcases h4 with⟨ρ',rfl,u⟩|⟨u,z⟩
     ·exact E k' ρ' j `a u
     ·cases fl with
      |next ρ'=>exact absurd rfl (u ρ')
      |ret d=>exact z
      |exc x ρ'=>exact z
def tS {c:GT}{b:GS}{Z:Env}{M:Mem}{j:Fl->Mem->Prop}(I:Nat->Env->Mem->Prop)
 (hs:∀k Z M,I k Z M->ae (c Z M) λv M1=>(v=false->j (.next Z) M1)/\(v=true->∃k',k=k'+1/\ae (b Z M1) λfl u=>(∃ρ',fl=.next ρ'/\I k' ρ' u)\/((∀ρ',fl≠.next ρ')/\j fl u))) {k:Nat} (hk:k<100000) (h:I k Z M):ae (i8 c b Z M) j:=yT I hs 100000 k Z M hk h
section
variable{M:Mem}{m:aH}{L0 lv fk p:Nat}{E0:qs}{lvs:List D}{Ls:Nat->List bP}{Z:Env}
def Ke {x:D}{A:List bP}(h:vG M fk x A):oC M x=some (!A.isEmpty):=by
 rcases h with rfl|⟨c,rfl,_,e⟩
 ·show some (!(A.map bD).isEmpty)=_;rw[List.isEmpty_map]
 ·show(M[c]?).map (λxs=>!xs.isEmpty)=_;rw[e];show some (!(A.map bD).isEmpty)=_;rw[List.isEmpty_map]
theorem vP {M:Mem}{g:Nat->Bool}:∀{l:List D}{k:Nat},(∀i x,l[i]?=some x->oC M x=some (g (k+i)))->jD M l=some ((List.range l.length).map λi=>g (k+i))
 |[],_,_=>rfl
 | a::l,k,h=>by
   show(oC M a).bind (λb=>(jD M l).map (b::·))=_;have j:=h 0 a rfl;have h1:=vP (l:=l) (k:=k+1) (M:=M) (g:=g) λi x u=>by
    have:=h (i+1) x u;rw[this,Sw,Nat.add_comm 1 i]
   rw[j,h1,Rw,List.range_succ_eq_map,RQ,Rv];show some (g (k+0)::_)=_
   congr 2
   refine Sf λi _=>?_;show g (k+1+i)=g (k+(i+1));rw[Sw,Nat.add_comm 1 i]
end
section
variable{Z:Env}{M M':Mem}{kf:Fl->Mem->Prop}
def w5 (e:a Z M=.ok x M'):c8 (.one i) a Z M=.ok (.next (Z.set i (some x))) M':=by
 unfold c8;rw[e];rfl
def eJ (e:a Z M=.ok x M'):ao (.one i) a Z M=.ok (.next (Z.set i (some x))) M':=by
 unfold ao;rw[e];rfl
def w6 (u:a Z M=.ok (.cell j) M)(h:fB (d Z M) (λz M1=>∃ds,M1[j]?=some ds/\ds.length<sz/\kf (.next Z) (M1.set j (ds++[z]))) (λx M1=>kf (.exc x Z) M1)):ae (kZ a d Z M) kf:=by
 unfold kZ;rw[u];show ae (td (λz M=>match M[j]? with|some ds=>if ds.length<sz then Res.ok (Fl.next Z) (M.set j (ds++[z])) else .bad|none=>.bad) Z (d Z M)) kf
 cases e:d Z M with
 |bad=>rw[e] at h;exact h.elim
 |err x M1=>rw[e] at h;exact h
 | ok z M1=>
   rw[e] at h;obtain⟨ds,e1,hl,h⟩:=h;show ae (match M1[j]? with|some ds=>if ds.length<sz then Res.ok (Fl.next Z) (M1.set j (ds++[z])) else .bad|none=>.bad) kf
   rw[e1];show ae (if ds.length<sz then Res.ok (Fl.next Z) (M1.set j (ds++[z])) else .bad) kf
   rw[if_pos hl];exact h
end
noncomputable def pd {α:Type}(k:α->bP)(v:α->D)(E:List α):List D:=.int 78::E.map λe=>.tup [bD (k e),v e]
section
variable{α:Type}{k:α->bP}{v:α->D}{E:List α}{M:Mem}{j:Nat}{b:bP}{x:α}
def qT:dM (E.map λe=>.tup [bD (k e),v e]) (bD b)=(E.find? λe=>decide (k e=b)).map v:=by
 refine(oP (λe=>bD (k e)) v E (bD b)).trans ?_
 congr 2
 funext x
 exact NO _ b
def pZ (e:M[j]?=some (pd k v E)):dh M (aQ j)=some (78,E.map λe=>.tup [bD (k e),v e]):=qa e (.inr rfl)
def Ni (e:M[j]?=some (pd k v E)):inD M (aQ j) (bD b)=some (E.any λe=>decide (k e=b)):=by
 unfold inD;rw[pZ e];show(if isKey 78 (bD b)=true then some (dM _ (bD b)).isSome else none)=_;rw[if_pos (sR b),qT,SM]
 congr 1
 rw[RX,List.find?_isSome,List.any_eq_true]
def Lk (hn:∀e∈E,k e≠b):putD (E.map λe=>.tup [bD (k e),v e]) (bD b) z=(E.map λe=>.tup [bD (k e),v e])++[.tup [bD b,z]]:=by
 refine wa ?_;rw[qT,List.find?_eq_none.mpr];rfl;exact λx h e=>hn x h (of_decide_eq_true e)
theorem wO:∀{E:List α},(E.map k).Nodup->∀{x:α},x∈E->(E.find? λe=>decide (k e=k x))=some x
 |[],_,_,h=>nomatch h
 | a::E,nd,x,h=>by
   rw[RQ,RP] at nd;rw[List.find?_cons];by_cases e:k a=k x
   ·rw[decide_eq_true e];rcases Q9.mp h with z|z
    ·rw[z]
    ·exact absurd (by rw[e];exact Rx z) nd.1
   ·rw[decide_eq_false e];rcases Q9.mp h with z|z
    ·exact absurd (by rw[z]) e
    ·exact wO nd.2 z
def AN (e:M[j]?=some (pd k v E))(nd:(E.map k).Nodup)(h:x∈E):getD M (aQ j) (bD (k x))=some (v x):=by
 unfold getD;rw[pZ e];show(if isKey 78 (bD (k x))=true then dM _ (bD (k x)) else none)=_;rw[if_pos (sR _),qT,wO nd h];rfl
def Hs {a b d:GE}{x z:D}(hd:d Z M=.ok z M1)(h:a Z M1=.ok (.fn o) M1)(u:b Z M1=.ok x M1)(e:dh M1 o=some q)(hk:isKey q.1 x=true)(hl:q.2.length<1000000):kY a b d Z M=.ok (.next Z) (M1.set (o-5000) (.int q.1::putD q.2 x z)):=by
 unfold kY;rw[hd];show(a Z M1).bind _=_;rw[h];show(b Z M1).bind _=_;rw[u];show(match dh M1 o with|some q=>if isKey q.1 x=true/\q.2.length<1000000 then Res.ok (Fl.next Z) (M1.set (o-5000) (.int q.1::putD q.2 x z)) else .bad|none=>.bad)=_
 rw[e];exact if_pos ⟨hk,hl⟩
def C5 {M1:Mem}{a b d:GE}(hd:d Z M=.ok (v x) M1)(h:a Z M1=.ok (.fn (aQ j)) M1)(u:b Z M1=.ok (bD (k x)) M1)(e:M1[j]?=some (pd k v E))(hl:E.length<1000000)(hn:∀e∈E,k e≠k x):kY a b d Z M=.ok (.next Z) (M1.set j (pd k v (E++[x]))):=by
 rw[Hs hd h u (pZ e) (sR _) (by rw[Qq];exact hl),show aQ j-5000=j from Rl _ _,Lk hn]
 unfold pd;rw[QG];rfl
def LL (h:(true != E.any λe=>decide (k e=b))=true):∀e∈E,k e≠b:=λe he z=>by
 rw[show(E.any λe=>decide (k e=b))=true from List.any_eq_true.mpr {e,he,decide_eq_true z}] at h;cases h
def HN (h:(true != E.any λe=>decide (k e=b))=false):∃e∈E,k e=b:=by
 cases z:(E.any λe=>decide (k e=b)) with
 | true=>
   obtain⟨e,he,y⟩:=List.any_eq_true.mp z;exact{e,he,of_decide_eq_true y}
 |false=>rw[z] at h;cases h
end
def dF (m:aH)(r:List Nat)(b:bP)(q:Nat):Prop:=(∀i∈r,i<m.deeds.length)/\ends m r=b/\aN m r=q
section
variable{m:aH}{r:List Nat}{b:bP}{q i:Nat}
def dF.nil:dF m [] (bp m) 0:={(λ_ h=>nomatch h),List.map_id _,rfl}
def dF.snoc (h:dF m r b q)(hi:i<m.deeds.length):dF m (r++[i]) (bw m i b) (q+cst m i):=by
 refine{λk hk=>?_,?_,?_}
 ·rcases Q2.mp hk with z|z
  ·exact h.1 k z
  ·rw[QN.mp z];exact hi
 ·rw[<- h.2.1];unfold ends bw;rw[Rv];exact Sf λs _=>pa r [i] s
 ·rw[<- h.2.2];show((r++[i]).map _).sum=_;rw[QG,List.sum_append];rfl
noncomputable def dX (hm:aK m):∀r:List Nat,(∀i∈r,i<m.deeds.length)->r.length<=aN m r
 |[],_=>RG _
 | a::r,h=>by
   have c:=(jl hm (h a QM)).1;have t:=dX hm r λi u=>h i (QF _ u);show r.length+1<=cst m a+aN m r;omega
def dF.len (hm:aK m)(h:dF m r b q):r.length<=q:=h.2.2 ▸ dX hm r h.1
def dF.rch (h:dF m r b q):jy m q b:=by
 obtain⟨h1,rfl,rfl⟩:=h
 suffices z:∀(u:List Nat),(∀i∈u,i<m.deeds.length)->∀(b:bP) (q:Nat),jy m q b->jy m (q+aN m u) (b.map (dU m u)) by
  have:=z r h1 (bp m) 0 .start;rw[Nat.zero_add] at this;exact this
 intro u;induction u with
 |nil=>intro _ b q h;rw[show b.map (dU m [])=b from List.map_id b];exact h
 | cons a u B=>
   intro h1 b q h;have:=B (λi y=>h1 i (QF _ y)) _ _ (h.step (h1 a QM));rw[show aN m (a::u)=cst m a+aN m u from rfl,<- Sw];rw[show b.map (dU m (a::u))=(bw m a b).map (dU m u) from by unfold bw;rw[Rv];rfl]
   exact this
end
abbrev F3:=List (bP×Nat×Nat)
noncomputable def vC (e:bP×Nat×Nat):D:=.tup [nD e.2.1,.cell e.2.2]
def j3 (E:F3):List D:=pd (·.1) vC E
def un (E:F3):qs:=E.map λe=>(e.1,e.2.1,[])
def qt (E:F3):(un E).map (·.1)=E.map (·.1):=by unfold un;rw[Rv];rfl
def l9 (E N:F3):un (E++N)=un E++un N:=QG
def Il (E:F3):(un E).length=E.length:=Qq _
def yX:(∃e∈un E,e.1=b)↔∃e∈E,e.1=b:=by
 constructor
 ·rintro⟨x,h,rfl⟩;obtain⟨e,he,rfl⟩:=QK.mp h;exact⟨e,he,rfl⟩
 ·rintro⟨e,he,rfl⟩;exact{_,Rx he,rfl}
structure j6 (B0:Nat) (M0 M:Mem) (m:aH) (lv fk:Nat) (E:F3) (L:List bP):Prop where
 f:M[fk]?=some (j3 E)
 fl:fk<M0.length
 ll:lv<M0.length
 lo:B0<=M0.length
 l:M[M0.length]?=some (L.map bD)
 r:∀e∈E,(∃r,M[e.2.2]?=some (r.map nD)/\dF m r e.1 e.2.1)/\e.2.2≠fk/\e.2.2≠M0.length/\e.2.2≠lv/\B0<=e.2.2
 k:aM fk M0 M
 nd:(E.map (·.1)).Nodup
def ur (c:Call):GS:=#v[ao (.one 10) (ai 152 c #[aa 7,aa 9]),aI (ak (mK true (aa 10) (aa 2))) #v[kY (aa 2) (aa 10) (aU #[aa 3,ag true .add (aw (iN (aa 2) (aa 9)) (gI 1)) (aL false #[aa 5])]),cU (aa 4) (aa 10),aI (ak (av .gt (nS (aa 2)) (gI 255))) #v[dH 8 #[oq "rows have more than " " behaviours" (gI 255)]] aC] aC]
def gO {M:Mem}(e:M[k]?=some x):k<M.length:=(Qr.mp e).1
def bF (h:a Z M=.ok x M1)(es:s Z M1=.ok xs M2):bz a s Z M=.ok (x::xs) M2:=by
 unfold bz;rw[h];show(s Z M1).bind _=_;rw[es];rfl
def cu (h:a Z M=.ok x M)(j:b Z M=.ok y M):ag k o a b Z M=fK k o x y M:=by
 unfold ag;rw[h];show(b Z M).bind _=_;rw[j];rfl
def ma (e:s Z M=.ok xs M1)(hl:xs.length<=100):aU s Z M=.ok (.tup xs) M1:=by
 unfold aU;rw[e];exact if_pos (ay `a)
section
variable{P:Nat->Option Df}{M0 M:Mem}{m:aH}{lk lv fk p i B0:Nat}{E:F3}{L:List bP}{b:bP}{x0 x1 x6 x8 x10:Option D}
def Lz (h152:P 152=some {2,2,dY})(n:Nat)(hm:aK m)(hE:E.length<=255)(s:j6 B0 M0 M m lv fk E L)(hL:L.length<=255)(Y:M[lk]?=some (eE m (bW m i)))(hp:p<=900)(hi:i<m.deeds.length)
 (hl:b.length<=16) (hb:∀s∈b,dZ m s) (O:∃e∈E,e.1=b/\e.2.1+cst m i=p) :
 ae (ur (ah P (n+1)) [x0,x1,some (.fn (aQ fk)),some (nD p),some (.cell M0.length),some (nD i),x6,some (.fn (aQ lk)),x8,some (bD b),x10] M) λfl M'=>
  ((∃e∈E,e.1=bw m i b)/\M'=M/\fl=.next [x0,x1,some (.fn (aQ fk)),some (nD p),some (.cell M0.length),some (nD i),x6,some (.fn (aQ lk)),x8,some (bD b),some (bD (bw m i b))])\/
  ((∀ e ∈ E,e.1 ≠ bw m i b) /\ ∃ c,j6 B0 M0 M' m lv fk (E++[(bw m i b,p,c)]) (L++[bw m i b]) /\
    ((E.length < 255 /\ fl = .next [x0,x1,some (.fn (aQ fk)),some (nD p),some (.cell M0.length),some (nD i),x6,some (.fn (aQ lk)),x8,some (bD b),some (bD (bw m i b))]) \/
     (E.length=255/\∃Z,fl=.exc (.exc 8 none) Z))):=by
 refine bq (bK (x:=bD (bw m i b)) ((bh (af rfl (af rfl rfl))).trans (zD h152 n Y hm hl hb))) ?_;refine bu (bR (Ll rfl rfl (Ni s.f))) (λI=>?_) λI=>.inl {HN I,rfl,rfl};have B:=LL I;obtain⟨e,he,S,ep⟩:=O;obtain⟨⟨r,er,ro⟩,_⟩:=s.r e he;have hr:=ro.len hm;have u:=gO s.l;have U:=AN s.f s.nd he;rw[S] at U;have e1:(M++[(r++[i]).map nD])[fk]?=some (j3 E):=by rw[QE (gO s.f)];exact s.f
 have ev:aU #[aa 3,ag true .add (aw (iN (aa 2) (aa 9)) (gI 1)) (aL false #[aa 5])] [x0,x1,some (.fn (aQ fk)),some (nD p),some (.cell M0.length),some (nD i),x6,some (.fn (aQ lk)),x8,some (bD b),some (bD (bw m i b))] M=.ok (vC (bw m i b,p,M.length)) (M++[(r++[i]).map nD]):=by
  refine ma (bF rfl (bF ?_ rfl)) (Qv rfl);refine(cu (b7 (uQ (x:=.non) rfl rfl U) rfl rfl) (cY (af rfl rfl) (Qv rfl))).trans ?_;show(match M[e.2.2]?,(some [nD i]:Option (List D)) with|some x,some y=>aS true (x++y) M|_,_=>.bad)=_
  rw[er];show(if (r.map nD++[nD i]).length<=sz then _ else _)=_;rw[if_pos (ay `o),QG];rfl
 refine d7 (M':=(M++[(r++[i]).map nD]).set fk (j3 (E++[(bw m i b,p,M.length)]))) (C5 ev rfl rfl e1 `a B) ?_
 have W:=Q6 s.fl;have F:((M++[(r++[i]).map nD]).set fk (j3 (E++[(bw m i b,p,M.length)])))[M0.length]?=some (L.map bD):=by rw[QJ W,QE u];exact s.l
 refine d7 (LK rfl rfl F (by rw[Qq];exact RM hL `d)) ?_
 generalize v:((M++[(r++[i]).map nD]).set fk (j3 (E++[(bw m i b,p,M.length)]))).set M0.length (L.map bD++[bD (bw m i b)])=M';have old:∀{j:Nat}{x:List D},j≠fk->j≠M0.length->M[j]?=some x->M'[j]?=some x:=λ{j x} h1 h2 e=>by
  rw[<- v,QJ (RR h2),QJ (RR h1),QE (gO e)];exact e
 have s2:j6 B0 M0 M' m lv fk (E++[(bw m i b,p,M.length)]) (L++[bw m i b]):=by
  refine{?_,s.fl,s.ll,s.lo,?_,λX J=>?_,{?_,λj hj n=>?_},?_}
  ·rw[<- v,QJ (RR W),QR (by simp;exact SN (gO s.f))]
  ·rw[<- v,QR `o,QG];rfl
  ·rcases Q2.mp J with z|z
   ·obtain⟨⟨r',H,R⟩,k1,k2,k3⟩:=s.r X z;exact{{r',old k1 k2 H,R},k1,k2,k3}
   ·obtain rfl:=QN.mp z;refine{{r++[i],?_,?_},Ry (gO s.f),Ry u,Ry (Nat.lt_trans s.ll u),QC s.lo (SH u)}
    ·rw[<- v,QJ (Q6 u),QJ (Q6 (gO s.f))];simp
    ·have:=ro.snoc hi;rw[ep,S] at this;exact this
  ·rw[<- v];have:=s.k.len;simp;omega
  ·rw[<- v,QJ `a,QJ (RR n),QE `a];exact s.k.at' j hj n
  ·rw[QG,List.nodup_append];exact{s.nd,`s,λx hx y Q z=>by
    obtain⟨w,hw,rfl⟩:=QK.mp hx;have Q:y=bw m i b:=by simpa using Q
    exact B w hw (z.trans Q)}
 refine bu (Kv (Hv rfl (pZ s2.f)) rfl) (λh=>?_) λh=>?_
 ·have h:=of_decide_eq_true h;simp only[aD,B6];refine b9.mpr ?_;rw[Nb rfl `d `d `d,bE]
  refine{ay `d,.inr {B,_,s2,.inr {?_,_,rfl}}}
  simp at h;omega
 ·have h:=of_decide_eq_false h;refine .inr {B,_,s2,.inl {?_,rfl}};simp at h;omega
end
section
variable{P:Nat->Option Df}{M0 M:Mem}{m:aH}{lk lv fk p i B0:Nat}{E0:F3}{A:List bP}{x8:D}{S:bP->Prop}{x0 x1 x6 x9 x10:Option D}
def wz (h:vG M0 fk x8 A)(k:aM fk M0 M):bT M x8=some (A.map bD):=by
 rcases h with rfl|⟨c,rfl,j,e⟩
 ·rfl
 ·exact k.get e j
def Hd (h152:P 152=some {2,2,dY})(n:Nat)(hm:aK m)(hi:i<m.deeds.length)(ek:M0[lk]?=some (eE m (bW m i)))(hk:lk≠fk)(R:vG M0 fk x8 A)(U:∀b∈A,∃e∈E0,e.1=b/\e.2.1+cst m i=p)(hok:∀b∈A,b.length<=16/\∀s∈b,dZ m s)(hp:p<=900)
 (s:j6 B0 M0 M m lv fk (E0++N) (N.map (·.1))) (h:NW p (un E0) S (un N)) (hl:(E0++N).length<=255)
 (k1:∀M' u J v,j6 B0 M0 M' m lv fk (E0++u) (u.map (·.1))->NW p (un E0) (λb=>S b\/b∈A.map (bw m i)) (un u)->(E0++u).length<=255->kf (.next [x0,x1,some (.fn (aQ fk)),some (nD p),some (.cell M0.length),some (nD i),x6,some (.fn (aQ lk)),some x8,J,v]) M')
 (k2:∀Z M',aM fk M0 M'->sv p (un E0) (λb=>S b\/b∈A.map (bw m i))->kf (.exc (.exc 8 none) Z) M') :
 ae (cy (.one 9) (b8 (aa 8)) (ur (ah P (n+1))) [x0,x1,some (.fn (aQ fk)),some (nD p),some (.cell M0.length),some (nD i),x6,some (.fn (aQ lk)),some x8,x9,x10] M) kf:=by
 simp only[dR,fA,a7];refine{_,rfl,by rcases R with rfl|⟨c,rfl,_⟩<;>rfl,?_}
 refine wL (ds:=A.map bD) (λj Z M'=>∃u J v,j6 B0 M0 M' m lv fk (E0++u) (u.map (·.1))/\NW p (un E0) (λb=>S b\/b∈(A.take j).map (bw m i)) (un u)/\(E0++u).length<=255/\Z=[x0,x1,some (.fn (aQ fk)),some (nD p),some (.cell M0.length),some (nD i),x6,some (.fn (aQ lk)),some x8,J,v])
  (λfl M'=>(∃Z,fl=.exc (.exc 8 none) Z)/\aM fk M0 M'/\sv p (un E0) (λb=>S b\/b∈A.map (bw m i))) ?_ ?_ ?_ {N,x9,x10,s,?_,hl,rfl} ?_ ?_ ?_
 ·rintro fl M' ⟨⟨Z,rfl⟩,_⟩ ρ' z;cases z
 ·rintro j Z M' ⟨u,_,_,I,_⟩;exact wz R I.k
 ·rintro fl M' ⟨_,k,_⟩;exact wz R k
 ·exact{h.nd,λx F=>{.inl (h.fr x F).1,(h.fr x F).2},λb L=>L.elim (h.al b) λz=>by simp at z}
 ·rintro j x Z M' hd ⟨u,J,v,I,Q,B,rfl⟩;rw[QS] at hd;cases e:A[j]? with
  |none=>rw[e] at hd;cases hd
  | some b=>
    rw[e] at hd;have hd:=Qz hd;subst hd;have L:=QT e;refine{_,rfl,?_};obtain⟨e0,W,eb,ep⟩:=U b L;have H:∀x,(S x\/x∈(A.take (j+1)).map (bw m i))↔((S x\/x∈(A.take j).map (bw m i))\/x=bw m i b):=λx=>by
     rw[RI,e];simp[or_assoc]
    have O:∀x,(S x\/x∈(A.take (j+1)).map (bw m i))->(S x\/x∈A.map (bw m i)):=λx F=>F.imp id λz=>by
     obtain⟨y,hy,rfl⟩:=QK.mp z;exact Rx (Q5 hy)
    refine aT (Lz h152 n hm B I (by rw[Qq];simp at B;omega) (I.k.get ek hk) hp hi (hok b L).1 (hok b L).2 {e0,RE _ W,eb,ep}) ?_
    rintro fl M' (⟨hin,rfl,rfl⟩|⟨hno,c,s2,hh⟩)
    ·exact .inl {_,rfl,u,_,_,I,Q.old H (by rw[<- l9];exact yX.mpr hin),B,rfl}
    ·have E:=Q.new H (r:=[]) (λx F z=>by
      rw[<- l9] at F;obtain⟨e2,X,z2⟩:=yX.mp ⟨x,F,z⟩;exact hno e2 X z2) (RG _)
     rw[show un u++[(bw m i b,p,[])]=un (u++[(bw m i b,p,c)]) from(l9 u [(bw m i b,p,c)]).symm] at E;rw[RT,show u.map (·.1)++[bw m i b]=(u++[(bw m i b,p,c)]).map (·.1) from by rw[QG];rfl] at s2
     rcases hh with⟨hlt,rfl⟩|⟨Y,Z,rfl⟩
     ·exact .inl {_,rfl,_,_,_,s2,E,by simp at hlt ⊢;omega,rfl}
     ·exact .inr {{_,rfl},s2.k,_,E.nd,λx F=>{O _ (E.fr x F).1,(E.fr x F).2.1},by rw[<- l9,Il];simp at Y ⊢;omega}
 ·rintro Z M' ⟨u,J,v,I,Q,B,rfl⟩;rw[Qq,Q3 (Qy _)] at Q;exact k1 M' u J v I Q B
 ·rintro fl M' ⟨⟨Z,rfl⟩,k,ov⟩;exact k2 Z M' k ov
end
structure lU (B0:Nat) (M:Mem) (m:aH) (L0 lv fk:Nat) (E:F3) (lvs:List D) (p:Nat) (Ls:Nat->List bP):Prop where
 f:M[fk]?=some (j3 E)
 l:M[lv]?=some lvs
 ne:lv≠fk
 len:lvs.length=p
 lvl:∀q x,lvs[q]?=some x->vG M fk x (Ls q)
 led:∀i,i<m.deeds.length->M[L0+i]?=some (eE m (bW m i))/\L0+i≠fk/\L0+i≠lv
 lvn:∀(q c:Nat),lvs[q]?=some (D.cell c)->c≠lv
 row:∀e∈E,(∃r,M[e.2.2]?=some (r.map nD)/\dF m r e.1 e.2.1)/\e.2.2≠fk/\e.2.2≠lv/\B0<=e.2.2
 lo:B0<=fk
 lss:∀q,q<p->∀b,b∈Ls q↔bQ m q b
 all:fV m p ((un E).map pr)
 few:E.length<=255
def Ef (c:Call):GS:=#v[ao (.one 8) (fY (ak (av .le (aa 6) (aa 3))) (aw (aa 1) (ag false .sub (aa 3) (aa 6))) (aL false bj)),cy (.one 9) (b8 (aa 8)) (ur c)]
section
variable{P:Nat->Option Df}{M:Mem}{m:aH}{L0 lv fk p B0:Nat}{E0:F3}{lvs:List D}{Ls:Nat->List bP}
set_option tactic.hygienic true in
def BQ (hbn:∀c,bn c=#v[ao (.one 3) (aB .len #[aa 1]),ao (.one 4) (aL true bj),cy (.two 5 [6,7]) (iL (aa 0)) (Ef c),aA (aa 4)])(h152:P 152=some {2,2,dY})(hnx:P nx=some {3,11,bn})(n:Nat)(hm:aK m)(hp:p<=900)(s:lU B0 M m L0 lv fk E0 lvs p Ls) :
 fB (ah P (n+2) nx [cD m L0,.cell lv,.fn (aQ fk)] M) (λd M'=>d=.cell M.length/\∃N,j6 B0 M M' m lv fk (E0++N) (N.map (·.1))/\NW p (un E0) (jC m p Ls m.deeds.length) (un N)/\(E0++N).length<=255)
  (λx M'=>x=.exc 8 none/\sv p (un E0) (jC m p Ls m.deeds.length)/\aM fk M M'):=by
 refine pe hnx rfl ?_;show ae (bn (ah P (n+1)) [some (cD m L0),some (.cell lv),some (.fn (aQ fk)),none,none,none,none,none,none,none,none] M) _;rw[hbn];have hf:=gO s.f;have hlv:=gO s.l;have W:(E0.map (·.1)).Nodup:=by have:=s.all.nd;rw[nI,qt] at this;exact this
 have el:aB .len #[aa 1] [some (cD m L0),some (.cell lv),some (.fn (aQ fk)),none,none,none,none,none,none,none,none] M=.ok (nD p) M:=by
  refine aj (dB.mpr ?_);rw[af rfl rfl,bE];show ae (match M[lv]? with|some xs=>Res.ok (D.int xs.length) M|none=>.bad) _
  rw[s.l];exact{by show D.int (lvs.length:Int)=_;rw[s.len],rfl}
 refine bq (bK el) ?_;refine d7 rfl ?_;rw[aD];simp only[dR,Ie,a7];refine{_,rfl,rfl,?_};have start:j6 B0 M (M++[[]]) m lv fk (E0++[]) []:=by
  rw[Sb];refine{by rw[QE hf];exact s.f,hf,hlv,QC s.lo (SH hf),`s,λe he=>?_,aM.app,W}
  obtain⟨⟨r,er,ro⟩,h1,h2⟩:=s.row e he;have:=gO er;exact{{r,by rw[QE this];exact er,ro},h1,Q6 this,h2}
 have F:∀q,q<p->∀b∈Ls q,(∃e∈E0,e.1=b/\e.2.1=q)/\b.length<=16/\∀s∈b,dZ m s:=λq Q b u=>by
  have lb:=(s.lss q Q b).mp u;have ok:=t5 hm lb.1;refine{?_,by rw[ok.1];exact jo hm,ok.2}
  have:=s.all.all q b Q lb;unfold un at this;rw[Rv] at this;obtain⟨e,he,z⟩:=QK.mp this;cases z;exact⟨e,he,rfl,rfl⟩
 refine wL (λi H M'=>∃N y5 y6 y7 X Y B,j6 B0 M M' m lv fk (E0++N) (N.map (·.1))/\NW p (un E0) (jC m p Ls i) (un N)/\(E0++N).length<=255/\H=[some (cD m L0),some (.cell lv),some (.fn (aQ fk)),some (nD p),some (.cell M.length),y5,y6,y7,X,Y,B])
  (λfl M'=>(∃H,fl=.exc (.exc 8 none) H)/\aM fk M M'/\sv p (un E0) (jC m p Ls m.deeds.length)) ?_ (λ_ _ _ _=>rfl) (λ_ _ _=>rfl) {[],none,none,none,none,none,none,start,?_,?_,rfl} ?_ ?_ ?_
 ·rintro fl M' ⟨⟨H,rfl⟩,_⟩ ρ' z;cases z
 ·exact{by rw[show un []=[] from rfl,Sb,qt];exact W,(λx I=>nomatch I),(by rintro b ⟨i,O,_⟩;exact absurd O (S1 _))}
 ·rw[Sb];exact s.few
 ·rintro i x H M' I ⟨N,y5,y6,y7,X,Y,B,s',nw,hl,rfl⟩;obtain⟨x2,J,rfl⟩:=Hi I;rw[QS] at J;have O:i<m.deeds.length:=by
   have:=(Qr.mp I).1;rw[oY] at this;simpa using this
  rw[SV O] at J;cases J;rw[Nat.zero_add];refine{_,rfl,?_};obtain⟨hk1,hk2,_⟩:=s.led i O;have cok:=jl hm O;have v:∀b,(jC m p Ls i b\/b∈(iV m p Ls i).map (bw m i))↔jC m p Ls (i+1) b:=λb=>by
   constructor
   ·rintro(⟨j,hj,h⟩|h)
    ·exact{j,SN hj,h}
    ·exact{i,Nat.lt_succ_self _,h}
   ·rintro⟨j,hj,h⟩;rcases Nat.lt_or_ge j i with z|z
    ·exact .inl ⟨j,z,h⟩
    ·have:j=i:=`a
     subst this;exact .inr h
  have hx8:∃x8,fY (ak (av .le (aa 6) (aa 3))) (aw (aa 1) (ag false .sub (aa 3) (aa 6))) (aL false bj) [some (cD m L0),some (.cell lv),some (.fn (aQ fk)),some (nD p),some (.cell M.length),some (nD i),some (nD (cst m i)),some (.fn (aQ (L0+i))),X,Y,B] M'=.ok x8 M'/\vG M fk x8 (iV m p Ls i):=by
   have U:ak (av .le (aa 6) (aa 3)) [some (cD m L0),some (.cell lv),some (.fn (aQ fk)),some (nD p),some (.cell M.length),some (nD i),some (nD (cst m i)),some (.fn (aQ (L0+i))),X,Y,B] M'=.ok (decide ((cst m i:Int)<=(p:Int))) M':=by
    exact fJ (pz.mpr (iQ.mpr (a7.mpr {_,rfl,a7.mpr {_,rfl,_,rfl,_,rfl,rfl,rfl}})))
   by_cases L:cst m i<=p
   ·have Q:p-cst m i<lvs.length:=by rw[s.len];omega
    refine{lvs[p-cst m i],gB U (λ_=>?_) (λz=>absurd `a (of_decide_eq_false z)),?_}
    ·refine b7 (y:=nD (p-cst m i)) rfl ?_ ?_
     ·refine aj (jP.mpr (a7.mpr {_,rfl,a7.mpr {_,rfl,IJ.mpr {?_,rfl}}}))
      congr 1;omega
     ·show(M'[lv]?).bind _=_;rw[s'.k.get s.l s.ne];show((bY lvs.length ((p-cst m i:Nat):Int)).bind λj=>lvs[j]?)=_;rw[dg Q];exact QL Q
    ·have:=s.lvl _ _ (QL Q);unfold iV;rw[if_pos L];exact this
   ·refine{.lst [],gB U (λz=>absurd (of_decide_eq_true z) `a) (λ_=>cY rfl `d),?_}
    unfold iV;rw[if_neg L];exact .inl rfl
  obtain⟨x8,e8,l8⟩:=hx8;refine bq (bK e8) ?_;rw[aD];have R:∀b∈iV m p Ls i,cst m i<=p/\b∈Ls (p-cst m i):=λb u=>by
   unfold iV at u;split at u
   ·next L=>exact⟨L,u⟩
   ·exact nomatch u
  refine Hd h152 n hm O hk1 hk2 l8 (λb u=>?_) (λb u=>?_) hp s' nw hl (λM2 N' z9 z10 s2 E hl'=>?_) λH M2 k2 ov=>?_
  ·obtain⟨L,h2⟩:=R b u;obtain⟨e,he,eb,eq⟩:=(F _ `a b h2).1
   exact{e,he,eb,`a}
  ·obtain⟨L,h2⟩:=R b u;exact(F _ `a b h2).2
  ·refine .inl {_,rfl,N',_,_,_,_,_,_,s2,?_,hl',rfl};exact{E.nd,λx I=>{(v _).mp (E.fr x I).1,(E.fr x I).2},λb u=>E.al b ((v b).mpr u)}
  ·refine .inr {{_,rfl},k2,ov.mono λb u=>?_};obtain⟨j,hj,h⟩:=(v b).mp u;exact{j,`a,h}
 ·rintro H M' ⟨N,y5,y6,y7,X,Y,B,s',nw,hl,rfl⟩;rw[oY,Qq,RF] at nw;exact aX.mpr (bH rfl ⟨rfl,N,s',nw,hl⟩)
 ·rintro fl M' ⟨⟨H,rfl⟩,k,ov⟩;exact⟨rfl,ov,k⟩
end
section
variable{M M':Mem}{m:aH}{L0 lv fk p B0:Nat}{E0 N:F3}{lvs:List D}{Ls:Nat->List bP}{Z:Env}
set_option tactic.hygienic true in
def lU.next (hm:aK m)(H:0<p)(s:lU B0 M m L0 lv fk E0 lvs p Ls)(h:j6 B0 M M' m lv fk (E0++N) (N.map (·.1)))(L:NW p (un E0) (jC m p Ls m.deeds.length) (un N))(hl:(E0++N).length<=255) :
 lU B0 (M'.set lv (lvs++[.cell M.length])) m L0 lv fk (E0++N) (lvs++[.cell M.length]) (p+1) (lsN Ls p (N.map (·.1))):=by
 obtain⟨h1,h2⟩:=G5 hm H s.lss s.all L;rw[qt] at h2;rw[<- l9] at h1;have I:=QO h.ll h.k.len;have old:∀{c:Nat}{x:List D},c≠fk->c≠lv->M[c]?=some x->(M'.set lv (lvs++[.cell M.length]))[c]?=some x:=λn1 n2 e=>by
  rw[QJ (RR n2)];exact h.k.get e n1
 refine{?_,QR I,s.ne,by simp[s.len],λq x j=>?_,λi F=>?_,λq c u=>?_,λe he=>?_,s.lo,λq v b=>?_,h1,hl}
 ·rw[QJ s.ne];exact h.f
 ·rcases Nat.lt_or_ge q p with z|z
  ·rw[QE (by rw[s.len];exact z)] at j
   unfold lsN;rw[if_neg `a]
   rcases s.lvl q x j with y|⟨c,y,n1,e⟩
   ·exact .inl y
   ·exact .inr {c,y,n1,old n1 (s.lvn q c (y ▸ j)) e}
  ·have v:q=p:=by
    have:=(Qr.mp j).1;simp[s.len] at this;omega
   subst v;rw[Q4 (by rw[s.len];exact Qy _),s.len,Nat.sub_self] at j
   cases j;unfold lsN;rw[if_pos rfl];refine .inr {_,rfl,Ry h.fl,?_};rw[QJ (Q6 h.ll)];exact h.l
 ·obtain⟨e1,e2,B⟩:=s.led i F;exact{old e2 B e1,e2,B}
 ·rcases Nat.lt_or_ge q p with z|z
  ·rw[QE (by rw[s.len];exact z)] at u
   exact s.lvn q c u
  ·have v:q=p:=by
    have:=(Qr.mp u).1;simp[s.len] at this;omega
   subst v;rw[Q4 (by rw[s.len];exact Qy _),s.len,Nat.sub_self] at u
   cases u;exact Ry h.ll
 ·obtain⟨⟨r,er,ro⟩,n1,_,E,J⟩:=h.r e he;exact{{r,by rw[QJ (RR E)];exact er,ro},n1,E,J}
 ·unfold lsN;split
  ·next z=>rw[z];exact h2 b
  ·next z=>exact s.lss q `a b
def Ba (s:lU B0 M m L0 lv fk E0 lvs p Ls)(F:p<=900)(hi:Z[i]?.getD none=some (.cell lv)):∃b:Bool,ak (qP (aY false true false (aa i) (fX (gI 3)) gN)) Z M=.ok b M/\(b=false->∀q,q<p->p<=q+3->Ls q=[])/\(b=true->∃q,q<p/\p<=q+3/\Ls q≠[]):=by
 have y:aY false true false (aa i) (fX (gI 3)) gN Z M=.ok (.lst (lvs.drop (p-3))) M:=by
  refine aj (eG.mpr (a7.mpr {_,hi,yh.mpr (eR.mpr {3,rfl,eR.mpr {rfl,rfl,?_}})}));show ae (match M[lv]? with|some xs=>(match aO xs.length 0 (.int (-3)),aO xs.length xs.length .non with|some l,some h=>aS false (cut xs l h) M|_,_=>.bad)|none=>.bad) _
  rw[s.l];show ae (aS false (cut lvs (-3+(lvs.length:Int)).toNat lvs.length) M) _;have hl:=s.len;have e1:(-3+(lvs.length:Int)).toNat=p-3:=`a
  have e2:cut lvs (p-3) lvs.length=lvs.drop (p-3):=by
   exact Q3 `s
  rw[e1,e2];exact bX.mpr {ay `o,rfl,rfl}
 refine{((List.range (lvs.drop (p-3)).length).map λj=>!(Ls (p-3+j)).isEmpty).any id,?_,λh q H E=>?_,λh=>?_}
 ·refine bR ?_;unfold qP;rw[y];show(match jD M (lvs.drop (p-3)) with|some bs=>Res.ok (D.bl (bs.any id)) M|none=>.bad)=_
  rw[vP (g:=λq=>!(Ls q).isEmpty) λj x u=>?_];rw[List.getElem?_drop] at u;exact Ke (s.lvl _ x u)
 ·have z:=List.any_eq_false.mp h;have h1:=z (!(Ls q).isEmpty) (QK.mpr {q-(p-3),?_,?_})
  ·cases e:(Ls q) with
   |nil=>rfl
   |cons a l=>rw[e] at h1;exact absurd rfl h1
  ·rw[R0,Q1,s.len];omega
  ·rw[show p-3+(q-(p-3))=q by omega]
 ·obtain⟨x,u,v⟩:=List.any_eq_true.mp h;obtain⟨j,B,rfl⟩:=QK.mp u;rw[R0,Q1,s.len] at B;refine{p-3+j,`a,`a,λz=>?_}
  rw[z] at v;cases v
def ND {c:Int}(h:c=77\/c=78)(h1:gk Z (M++[[D.int c]])=.ok x (M++[[D.int c]]))(h2:gv Z (M++[[D.int c]])=.ok y (M++[D.int c]::X))(hk:isKey c x=true):wI c gk gv Z M=.ok (.fn (aQ M.length)) (M++[D.int c,D.tup [x,y]]::X):=by
 unfold wI;rw[h1];show(gv Z (M++[[D.int c]])).bind _=_;rw[h2];have e:dh (M++[D.int c]::X) (aQ M.length)=some (c,[]):=qa `s h
 show(match dh (M++[D.int c]::X) (aQ M.length) with|some q=>if isKey q.1 x=true/\q.2.length<1000000 then Res.ok (D.fn (aQ M.length)) ((M++[D.int c]::X).set (aQ M.length-5000) (.int q.1::putD q.2 x y)) else .bad|none=>.bad)=_
 rw[e];show(if isKey c x=true/\0<1000000 then Res.ok (D.fn (aQ M.length)) ((M++[D.int c]::X).set (aQ M.length-5000) (.int c::putD [] x y)) else .bad)=_;rw[if_pos {hk,`d},show aQ M.length-5000=M.length from Rl _ _,List.set_append_right _ _ (Qy _),Nat.sub_self]
 rfl
end
noncomputable def sr:Option Nat->D
 |none=>.non
 |some b=>nD b
def AllIn (m:aH):Option Nat->List (bP×Nat)->Prop
 |some b,A=>fV m (b+1) A
 |none,A=>∃p,fV m p A/\∀q,p<=q->∀b,¬ bQ m q b
def eM (m:aH):Option Nat->Prop
 |some b=>rf m (b+1)
 |none=>∃p,rf m p
def vE (m:aH)(h:Nat)(M:Mem)(E:F3):Prop:=∀e∈E,(∃r,M[e.2.2]?=some (r.map nD)/\dF m r e.1 e.2.1)/\h<=e.2.2
section
variable{P:Nat->Option Df}{M:Mem}{m:aH}{bd:Option Nat}
set_option tactic.hygienic true in
def zz (hbn:∀c,bn c=#v[ao (.one 3) (aB .len #[aa 1]),ao (.one 4) (aL true bj),cy (.two 5 [6,7]) (iL (aa 0)) (Ef c),aA (aa 4)])
 (hbr:∀c,br c=#v[c8 (.one 2) (bB 151 c #[aa 0]),ao (.one 3) (aB .tuple #[ai 15 c #[aa 0]]),ao (.one 4) (wI 78 (aa 3) (aU #[gI 0,aL true bj])),ao (.one 5) (aL true #[aL false #[aa 3]]),i8 (eW (ak (qP (aY false true false (aa 5) (fX (gI 3)) gN))) (eQ (ak (av .isN (aa 1) gN)) (ak (av .le (aB .len #[aa 5]) (aa 1))))) #v[kZ (aa 5) (bB nx c #[aa 2,aa 5,aa 4])],aA (aa 4)])
 (hb:HasB0 P) (hr:jU P) (h15:P 15=some {1,6,cw}) (h151:P 151=some {1,2,dQ}) (h152:P 152=some {2,2,dY}) (hnx:P nx=some {3,11,bn}) (hrc:P rc=some {2,6,br}) (n:Nat) (hm:aK m) (hbd:∀b,bd=some b->b<=70) :
 fB (ah P (n+11) rc [m.d,sr bd] M) (λd M'=>∃fk E,d=.fn (aQ fk)/\M.length<=fk/\M'[fk]?=some (j3 E)/\vE m M.length M' E/\AllIn m bd ((un E).map pr)/\E.length<=255/\Sub M M') (λx M'=>x=.exc 8 none/\eM m bd/\Sub M M'):=by
 refine pe hrc rfl ?_;show ae (br (ah P (n+10)) [some m.d,some (sr bd),none,none,none,none] M) _;rw[hbr];refine d7 (w5 ((dG (af rfl rfl)).trans (tM hb hr h15 h151 n hm))) ?_;have et:aB .tuple #[ai 15 (ah P (n+10)) #[aa 0]] [some m.d,some (sr bd),some (cD m M.length),none,none,none] (M++m.deeds.map (eE m))=.ok (bD (bp m)) (M++m.deeds.map (eE m)):=by
  refine aj (dB.mpr ?_);rw[af ((bh (af rfl rfl)).trans (nA hb h15 (n+1) hm)) rfl,bE];exact⟨rfl,rfl⟩
 refine d7 (eJ et) ?_;generalize J:M++m.deeds.map (eE m)=h;have ev:aU #[gI 0,aL true bj] [some m.d,some (sr bd),some (cD m M.length),some (bD (bp m)),none,none] (h++[[D.int 78]])=.ok (.tup [.int 0,.cell (h.length+1)]) (h++[D.int 78]::[[]]):=by
  refine ma (bF rfl (bF ?_ rfl)) (Qv rfl);show Res.ok (D.cell (h++[[D.int 78]]).length) ((h++[[D.int 78]])++[[]])=_;rw[Qt,RT];rfl
 refine d7 (eJ (ND (.inr rfl) rfl ev (sR _))) ?_;generalize y:h++[D.int 78,D.tup [bD (bp m),D.tup [D.int 0,D.cell (h.length+1)]]]::[[]]=v;refine d7 rfl ?_;have l1:h.length=M.length+m.deeds.length:=by rw[<- J];simp
 have l2:v.length=h.length+2:=by rw[<- y];simp
 have s1:Sub M (v++[[.lst [bD (bp m)]]]):=by rw[<- y,<- J,RT,RT];exact Sub.app
 have start:lU M.length (v++[[.lst [bD (bp m)]]]) m M.length v.length h.length [(bp m,0,h.length+1)] [.lst [bD (bp m)]] 1 (λ_=>[bp m]):=by
  refine{?_,`s,`a,rfl,λq x S=>?_,λi hi=>?_,λq c hc=>?_,?_,`a,λq hq b=>?_,{by simp[un],λx S=>?_,λq b hq hl=>?_},Qv rfl}
  ·rw[QE `a,<- y,Q4 (Qy _),Nat.sub_self];rfl
  ·cases q with
   |zero=>cases S;exact .inl rfl
   |succ q=>simp at S
  ·refine{?_,`a,`a}
   rw[QE `a,<- y,QE `a,<- J,Q4 `a]
   rw[Rl,QS,QL hi];rw[<- qV (QL hi)];rfl
  ·cases q with
   |zero=>cases hc
   |succ q=>simp at hc
  ·intro e he;obtain rfl:=QN.mp he;refine{{[],?_,dF.nil},by show h.length+1≠h.length;omega,by show h.length+1≠v.length;omega,by show M.length<=h.length+1;omega}
   rw[QE (by show h.length+1<v.length;omega),<- y,Q4 (by show h.length<=h.length+1;omega)]
   rw[Rl];rfl
  ·have:q=0:=`a
   subst this;rw[lE hm];exact QN
  ·have S:=QN.mp S;subst S;exact{(lE hm).mpr rfl,Nat.zero_lt_one}
  ·have:q=0:=`a
   subst this;rw[(lE hm).mp hl];exact QN.mpr rfl
 rw[aD];refine tS (λk Z M'=>∃p E H Ls g,k=900-p/\1<=p/\(∀b,bd=some b->p<=b+1)/\g<=3/\p+2<=3*E.length+g/\(∀q,q<p->p<=q+g->Ls q=[])/\lU M.length M' m M.length v.length h.length E H p Ls/\Sub M M'/\Z=[some m.d,some (sr bd),some (cD m M.length),some (bD (bp m)),some (.fn (aQ h.length)),some (.cell v.length)]) ?_ `a {1,_,_,_,0,rfl,`a,λb _=>`a,`a,Qv rfl,λq h1 h2=>`a,start,s1,rfl}
 rintro k Z M' ⟨p,E,H,Ls,g,rfl,Q,hp2,hg,hpg,X,s,u,rfl⟩;have few:=s.few;have hp:p<=800:=`a
 obtain⟨b,e1,F,O⟩:=Ba s `a (Z:=[some m.d,some (sr bd),some (cD m M.length),some (bD (bp m)),some (.fn (aQ h.length)),some (.cell v.length)]) (i:=5) rfl
 have el:aB .len #[aa 5] [some m.d,some (sr bd),some (cD m M.length),some (bD (bp m)),some (.fn (aQ h.length)),some (.cell v.length)] M'=.ok (nD p) M':=by
  refine aj (dB.mpr ?_);rw[af rfl rfl,bE];show ae (match M'[v.length]? with|some xs=>Res.ok (D.int xs.length) M'|none=>.bad) _
  rw[s.l];exact{by show D.int (H.length:Int)=_;rw[s.len],rfl}
 have e3:∃b2:Bool,eQ (ak (av .isN (aa 1) gN)) (ak (av .le (aB .len #[aa 5]) (aa 1))) [some m.d,some (sr bd),some (cD m M.length),some (bD (bp m)),some (.fn (aQ h.length)),some (.cell v.length)] M'=.ok b2 M'/\(b2=false->∃B,bd=some B/\p=B+1)/\(b2=true->∀B,bd=some B->p<=B):=by
  cases bd with
  |none=>exact{true,rfl,(λz=>by cases z),λ_ B z=>by cases z}
  | some B=>
    have hB:=hp2 B rfl;refine{decide ((p:Int)<=(B:Int)),sO (x:=false) rfl ?_,λz=>{B,rfl,by have:=of_decide_eq_false z;omega},λz B' e=>by cases e;have:=of_decide_eq_true z;omega}
    refine fJ (pz.mpr (iQ.mpr ?_));rw[el,bE];exact a7.mpr {_,rfl,_,rfl,_,rfl,rfl,rfl}
 obtain⟨b2,e4,hno,I⟩:=e3;rw[ra e1 e4,bE];refine{λR=>?_,λR=>?_}
 ·have W:AllIn m bd ((un E).map pr):=by
   have stop:=λhb=>xT hm Q λq' h1 h2 c hl=>by
    have:=(s.lss q' h1 c).mpr hl;rw[F hb q' h1 h2] at this;exact nomatch this
   cases L:b2 with
   | false=>
     obtain⟨B,rfl,hpB⟩:=hno L;show fV m (B+1) _;rw[<- hpB];exact s.all
   | true=>
     rw[L,Bool.and_true] at R;cases bd with
     |none=>exact{p,s.all,stop R}
     |some B=>exact s.all.mono (by have:=I L B rfl;omega) λq c hq _=>stop R q hq c
  exact aX.mpr (bH rfl {h.length,E,rfl,`a,s.f,λe he=>{(s.row e he).1,(s.row e he).2.2.2},W,few,u})
 ·have hb1:=(SQ.mp R).1;have Y:=I (SQ.mp R).2;have hg2:g<=2:=by
   obtain⟨q,h1,h2,h3⟩:=O hb1;rcases Nat.lt_or_ge g 3 with z|z
   ·omega
   ·exact absurd (X q h1 `a) h3
  refine{900-(p+1),`a,?_}
  rw[aD];have U:=BQ hbn h152 hnx (n+8) hm `a s
  refine w6 rfl ?_;rw[dG (af rfl (af rfl (af rfl rfl)))];have sN:∀{M3:Mem},aM h.length M' M3->Sub M M3:=λk=>{QC u.len k.len,λj hj=>(k.at' j (QO hj u.len) `a).trans (u.at' j hj)}
  cases e:ah P (n+8+2) nx [cD m M.length,.cell v.length,.fn (aQ h.length)] M' with
  |bad=>rw[e] at U;exact U.elim
  | err x M3=>
    rw[e] at U;obtain⟨rfl,ov,kk⟩:=U;refine .inr {(λ_ z=>nomatch z),rfl,?_,sN kk};have mn:=Cm hm Q s.lss s.all ov;cases bd with
    |none=>exact{_,mn}
    |some B=>exact mn.mono (by have:=Y B rfl;omega)
  | ok d M3=>
    rw[e] at U;obtain⟨rfl,N,s',nw,hl⟩:=U;refine{H,s'.k.get s.l s.ne,by rw[s.len];exact RM hp `d,?_}
    have sx:=s.next hm Q s' nw hl
    refine .inl {_,rfl,p+1,E++N,_,_,if N=[] then g+1 else 0,rfl,`a,λB hB=>by have:=Y B hB;omega,?_,?_,λq h1 h2=>?_,sx,(sN s'.k).setq `a,rfl}
    ·split<;>omega
    ·cases N with
     |nil=>rw[if_pos rfl,Sb];omega
     |cons a N=>rw[if_neg `s,Qt,Rw];omega
    ·unfold lsN;split
     ·next z=>
      cases N with
      |nil=>rfl
      |cons a N=>rw[if_neg `s] at h2;omega
     ·next z=>
      cases N with
      |nil=>rw[if_pos rfl] at h2;exact X q `a `a
      |cons a N=>rw[if_neg `s] at h2;omega
end
def F9:ae (cj false (.lst xs) .non (nD a) M) k↔(xs.take a).length<=sz/\k (.lst (xs.take a)) M:=tO
structure Ov where
 place:Nat
 num:Nat
 back:Bool
def Ov.d (s:Ov):D:=.tup [nD s.place,nD s.num,.bl s.back]
def r8 (f:D->Bool)(g:D->D)(hz:ds.length<=sz)(y:w M=some ds)
 (hs:∀d∈ds,∃ρ1,b4 tg d ρ0=some ρ1/\gc ρ1 M=.ok (f d) M/\(f d=true->ge ρ1 M=.ok (g d) M)) (hk:kl ((ds.filter f).map g) M):ae (cV (cW tg (rV gc (bI ge)) ρ0) w [] M) kl:=by
 refine fE (λi j u=>u=M/\j=((ds.take i).filter f).map g) (λi j u h=>by rw[h.1];exact y) ⟨rfl,rfl⟩ ?_ ?_
 ·rintro i d j u hd ⟨rfl,rfl⟩;obtain⟨ρ1,e1,e2,v⟩:=hs d (QT hd);have z:i<ds.length:=(Qr.mp hd).1;simp only[cW,e1,Cq,Res.bind_ok,rV,e2];rw[RI,hd];cases q:f d with
  | false=>
    simp[q]
  | true=>
    rw[if_pos rfl];have len:(((ds.take i).filter f).map g).length<=i:=by
     rw[Qq];exact QC (List.length_filter_le _ _) `o
    simp only[bI,v q,Res.bind_ok];rw[if_pos `a]
    simp[q]
 ·rintro j u ⟨rfl,rfl⟩;simpa using hk
def pB (u:ba M x r)(hl:r.length<=100000):ae (cj false x (nD a) (nD (a+b)) M) k↔k (.lst (((r.drop a).take b).map nD)) M:=by
 have e:cj false x (nD a) (nD (a+b)) M=aS false (cut (r.map nD) (min a r.length) (min (a+b) r.length)) M:=by
  have e1:aO (r.map nD).length 0 (nD a)=some (min a r.length):=by
   show some _=_;rw[if_neg `a];simp
  have e2:aO (r.map nD).length (r.map nD).length (nD (a+b))=some (min (a+b) r.length):=by
   show some _=_;rw[if_neg `a];simp
   congr 1
  have:cj false x (nD a) (nD (a+b)) M=match cv M x with|some xs=>(match aO xs.length 0 (nD a),aO xs.length xs.length (nD (a+b)) with|some l,some h=>aS false (cut xs l h) M|_,_=>.bad)|none=>.bad:=by
   rcases u with rfl|⟨q,rfl,_⟩<;>rfl
  rw[this,u.rd];dsimp only;rw[e1,e2]
 have c:cut (r.map nD) (min a r.length) (min (a+b) r.length)=((r.drop a).take b).map nD:=by
  unfold cut;rw[Sx,S0];rcases SR a r.length with q|q
  ·rw[RW q];rcases SR (a+b) r.length with j|j
   ·rw[RW j];congr 1;omega
   ·rw[Si j,Q3 `s,Q3 `o]
  ·rw[Si q,SI `s,SI (by simpa using q)];simp
 rw[e,c,bX];exact{λz=>z.2,λz=>{ay `o,z}}
def mj (j:ba M x r)(hl:r.length<=100000):ae (cj false x .non (nD a) M) k↔k (.lst ((r.take a).map nD)) M:=by
 have:cj false x .non (nD a) M=cj false (.lst (r.map nD)) .non (nD a) M:=by
  have h2:∀y,(y=x\/y=.lst (r.map nD))->cj false y .non (nD a) M=match cv M y with|some xs=>(match aO xs.length 0 D.non,aO xs.length xs.length (nD a) with|some l,some h=>aS false (cut xs l h) M|_,_=>.bad)|none=>.bad:=λy u=>by
   rcases u with rfl|rfl
   ·rcases j with rfl|⟨q,rfl,_⟩<;>rfl
   ·rfl
  rw[h2 x (.inl rfl),h2 _ (.inr rfl),j.rd];rfl
 rw[this,F9,Sx];exact{λz=>z.2,λz=>{ay `o,z}}
def jY (j:ba M x r)(hl:r.length<=100000):ae (cj false x (nD a) .non M) k↔k (.lst ((r.drop a).map nD)) M:=by
 have:cj false x (nD a) .non M=cj false (.lst (r.map nD)) (nD a) .non M:=by
  have h2:∀y,(y=x\/y=.lst (r.map nD))->cj false y (nD a) .non M=match cv M y with|some xs=>(match aO xs.length 0 (nD a),aO xs.length xs.length D.non with|some l,some h=>aS false (cut xs l h) M|_,_=>.bad)|none=>.bad:=λy u=>by
   rcases u with rfl|rfl
   ·rcases j with rfl|⟨q,rfl,_⟩<;>rfl
   ·rfl
  rw[h2 x (.inl rfl),h2 _ (.inr rfl),j.rd];rfl
 rw[this];rw[B4,S0];exact{λz=>z.2,λz=>{ay `o,z}}
def wY (j:ba M x a)(u:ba M y b):bx .ne x y M=some (!decide (a=b)):=
 iY (by rw[j.vw];exact la 63 a) (by rw[u.vw];exact la 63 b) (by rw[j.vw,u.vw];exact qh a b)
def eq_empty (j:l.all (ax 63)=true):bx .eq (.lst l) (.lst []) M=some l.isEmpty:=by
 refine nZ j rfl ?_;cases l<;>rfl
noncomputable def pV (f:D->Bool):∀ds:List D,((ds.filter λd=>!f d).map λ_=>D.int 1).isEmpty=ds.all f
 |[]=>rfl
 | d::r=>by
   have j:=pV f r;cases q:f d with
   |true=>simpa[q] using j
   |false=>simp[q]
def GU (f:D->Bool)(j:ae (w Z M) λwk M'=>M'=M/\wk M=some ds)(hz:ds.length<=sz)(he:∀d∈ds,gc (some d::Z) M=.ok (!f d) M)(hk:k (.bl (ds.all f)) M) :
 ae (av .eq (bG false 1 (.one 0) w (rV gc (bI (gI 1)))) (aL false bj) Z M) k:=by
 simp only[iQ,fb,ET,cL,bX];refine aT j ?_;rintro wk M' ⟨e1,e2⟩;subst e1;refine r8 (λd=>!f d) (λ_=>.int 1) hz e2 (λd hd=>{some d::Z,rfl,he d hd,λ_=>rfl}) ?_;refine{QC (by rw[Qq];exact List.length_filter_le _ _) hz,ay `d,_,eq_empty ?_,?_}
 ·rw[QV];intro x u;obtain⟨_,_,rfl⟩:=QK.mp u;rfl
 ·rw[pV];exact hk
section
variable{M0 M M':Mem}{fk dv c i:Nat}{E E':qs}{cs:List Nat}{Q:Nat->List bP}{b:bP}
def jH (e:M[k]?=some x):k<M.length:=(Qr.mp e).1
end
def AllIn.nd {bd:Option Nat}(h:AllIn m bd l):(l.map (·.1)).Nodup:=by
 cases bd with
 |none=>obtain⟨_,h,_⟩:=h;exact h.nd
 |some b=>exact fV.nd h
def AllIn.sound {bd:Option Nat}(h:AllIn m bd l):∀x∈l,bQ m x.2 x.1:=by
 cases bd with
 |none=>obtain⟨_,h,_⟩:=h;exact λx j=>(h.sound x j).1
 |some b=>exact λx j=>(fV.sound h x j).1
def xj (E:F3):(un E).map pr=E.map λe=>(e.1,e.2.1):=by unfold un;rw[Rv];rfl
def mS (h1:a Z M=.ok x M)(h2:b Z M=.ok y M)(h3:bx o x y M=some v):av o a b Z M=.ok (.bl v) M:=by
 unfold av;rw[h1];show(b Z M).bind _=_;rw[h2];show(bV M (bx o x y M)).bind _=_;rw[h3];rfl
section
variable{P:Nat->Option Df}{M:Mem}{m:aH}{w:D}{fit:bP->Bool}
def AllIn.mem (h:AllIn m none A):(b,q)∈A↔bQ m q b:=by
 refine{λz=>h.sound _ z,λz=>?_};obtain⟨p,h,no⟩:=h;rcases Nat.lt_or_ge q p with j|j
 ·exact h.all q b j z
 ·exact absurd z (no q j b)
def AllIn.few (h:AllIn m none A)(hl:A.length<=255):¬ eM m none:=by
 rintro⟨p,z,v,y,j⟩;have:=len_sub (Ag v) λx u=>h.mem.mpr (y x u).1;omega
end
noncomputable def win (r:List Nat)(p l:Nat):List Nat:=(r.drop p).take l
def c4 (r:List Nat)(p l:Nat)(c:List Nat):List Nat:=r.take p++c++r.drop (p+l)
def bU (m:aH)(r:List Nat):Prop:=∀i∈r,i<m.deeds.length
structure g5 (m:aH) (w:Nat) (r:List Nat) (p l:Nat) (c:List Nat):Prop where
 l1:1<=l
 lw:l<=w
 pl:p+l<=r.length
 ok:bU m c
 en:ends m c=ends m (win r p l)
 lt:aN m c<aN m (win r p l)
def Calm (m:aH)(w:Nat)(r:List Nat):Prop:=∀p l,1<=l->l<=w->p+l<=r.length->bQ m (aN m (win r p l)) (ends m (win r p l))
def Ic (h:p+l<=r.length):c4 r p l (win r p l)=r:=by
 unfold c4 win;rw[RT,<- List.drop_drop,RH,RH]
def j7 (h:p+l<=r.length):(win r p l).length=l:=by unfold win;rw[Q7,Q1];omega
def bU.win (h:bU m r):bU m (win r p l):=λi j=>h i (RN (Q5 j))
def bU.put (h:bU m r)(u:bU m c):bU m (c4 r p l c):=λi j=>by
 unfold c4 at j;rw[Q2,Q2] at j;rcases j with(z|z)|z
 ·exact h i (Q5 z)
 ·exact u i z
 ·exact h i (RN z)
section
variable{m:aH}{w p l:Nat}{r c:List Nat}
def t7:aN m (c4 r p l c)=aN m (r.take p)+aN m c+aN m (r.drop (p+l)):=by unfold c4;rw[mR,mR]
def v8 (h:p+l<=r.length):aN m (c4 r p l c)+aN m (win r p l)=aN m r+aN m c:=by
 have e:=congrArg (aN m) (Ic h);rw[t7] at e ⊢;omega
def g5.less (s:g5 m w r p l c):aN m (c4 r p l c)<aN m r:=by
 have:=v8 (m:=m) (c:=c) s.pl;have:=s.lt;omega
end
inductive eL (m:aH) (w:Nat):List Nat->List (Nat×Nat×List Nat)->List Nat->Prop
 |nil:eL m w r [] r
 |snoc:eL m w r ss t->g5 m w t p l c->eL m w r (ss++[(p,l,c)]) (c4 t p l c)
def fF (s:Nat×Nat×List Nat):D:=.tup [nD s.1,nD s.2.1,aV s.2.2]
section
variable{m:aH}{w:Nat}
def eL.num (h:eL m w r ss t)(hr:bU m r):bU m t:=by
 induction h with
 |nil=>exact hr
 |snoc _ s j=>exact j.put s.ok
def eL.cost (h:eL m w r ss t):aN m t+ss.length<=aN m r:=by
 induction h with
 |nil=>exact Qy _
 | snoc h s j=>
   have:=s.less;rw[Qt,RV];omega
def gE (hm:aK m)(hr:bU m r):aN m r<=3*r.length:=by
 induction r with
 |nil=>exact Qy _
 | cons i r u=>
   have h1:=(jl hm (hr i QM)).2;have h2:=u λj h=>hr j (QF _ h);show aN m ([i]++r)<=_;rw[mR,Rw];have:aN m [i]=cst m i:=by simp[aN,cst]
   omega
end
structure HasO0 (P:Nat->Option Df):Prop where
 init:P 129=some {3,3,qk}
 beh:P 132=some {1,1,ph}
structure HasO (P:Nat->Option Df):Prop extends HasO0 P where
 row:P 130=some {1,1,yx}
 cost:P 131=some {1,1,vM}
 put:P 133=some {3,3,yy}
 out:P 134=some {2,2,yz}
 back:P 135=some {1,1,vN}
 change:P 136=some {2,2,sJ}
 give:P 137=some {2,3,vL}
 summed:P 47=some {2,2,eA}
instance coeHasO {P:Nat->Option Df}:Coe (HasO P) (HasO0 P):=⟨HasO.toHasO0⟩
section
variable{Z:Env}{M M':Mem}{a v:GE}{s:GA}{k i:Nat}{es:List D}{nm:Str}{kf:Fl->Mem->Prop}{rest:GS}
def m9 (ha:a Z M=.ok (.cell k) M)(j:b Z M=.ok z M)(hk:M[k]?=some ds)(hz:ds.length<sz)(h:ae (rest Z (M.set k (ds++[z]))) kf):ae (bc (cU a b) rest Z M) kf:=by
 simp only[aD];unfold cU;rw[ha];show ae ((b Z M).bind _) _;rw[j];show ae (match M[k]? with|some ds=>(if ds.length<sz then Res.ok (Fl.next Z) (M.set k (ds++[z])) else .bad)|none=>.bad) _
 rw[hk];show ae (if ds.length<sz then _ else _) _;rw[if_pos hz];exact h
def ir (es:s Z M=.ok ds M):aB f s Z M=di f ds M:=by
 unfold aB;rw[es];rfl
def f6 (h1:a Z M=.ok x M)(h2:b Z M=.ok y M)(h3:bx o x y M=some w):av o a b Z M=.ok (.bl w) M:=by
 unfold av;rw[h1];show(b Z M).bind _=_;rw[h2];show(bV M (bx o x y M)).bind _=_;rw[h3];rfl
end
structure lX (m:aH) (fk:Nat) (M:Mem) (E:F3):Prop where
 d:M[fk]?=some (j3 E)
 rows:∀e∈E,∃r,M[e.2.2]?=some (r.map nD)/\dF m r e.1 e.2.1
 all:AllIn m none ((un E).map pr)
def lX.sub (h:lX m fk M E)(s:Sub M M'):lX m fk M' E:={s.get h.d,λe he=>let⟨r,a,b⟩:=h.rows e he;{r,s.get a,b},h.all}
def lX.look (h:lX m fk M E)(hr:bU m r):∃q t c,getD M (aQ fk) (bD (ends m r))=some (.tup [nD q,.cell c])/\M[c]?=some (t.map nD)/\dF m t (ends m r) q/\bQ m q (ends m r)/\q<=aN m r:=by
 have ro:dF m r (ends m r) (aN m r):=⟨hr,rfl,rfl⟩;obtain⟨q,y,hl⟩:=mD ro.rch;have z:=h.all.mem.mpr hl;rw[xj] at z;obtain⟨x,j,ex⟩:=QK.mp z;have nd:(E.map (·.1)).Nodup:=by have:=h.all.nd;rw[xj,Rv] at this;exact this
 have g:=AN (v:=vC) h.d nd j;have e1:x.1=ends m r:=congrArg Prod.fst ex;have e2:x.2.1=q:=congrArg Prod.snd ex;obtain⟨t,u,rt⟩:=h.rows x j;rw[e1,e2] at rt;rw[e1] at g;exact{q,t,x.2.2,by rw[g,<- e2];rfl,u,rt,hl,y}
section
variable{Z:Env}{M:Mem}{a b:GE}{kf:Fl->Mem->Prop}{kw:Walk->Mem->Prop}
@[simp] theorem L8:ae (uT a Z M) kw↔ae (a Z M) λx M=>(da x=true/\fC x=true)/\kw (λM=>(bT M x).map (eF 1)) M:=by
 simp only[uT,bf];refine iff_of_eq ?_;congr 1;funext x M;split<;>simp[*]
def i4 (e:a Z M=.ok (.tup ds) M)(h:cg l ds Z=some ρ1):ao (.tup l) a Z M=.ok (.next ρ1) M:=by
 unfold ao;rw[e];show(bV M (cg l ds Z)).bind _=_;rw[h];rfl
def LH {x y:Int}(h:Z[i]?.getD none=some (.int x))(e:a Z M=.ok (.int y) M):qy i a Z M=.ok (.next (Z.set i (some (.int (x+y))))) M:=by
 unfold qy;rw[h];show(a Z M).bind _=_;rw[e];rfl
end
def Ej {a b:Nat}:bx .lt (nD a) (nD b) M=some (decide (a<b)):=by
 show some (decide ((a:Int)<(b:Int)))=_;simp
def AK (hr:bU m r)(hi:i<m.deeds.length):ends m (r++[i])=bw m i (ends m r)/\aN m (r++[i])=aN m r+cst m i:=(dF.snoc (⟨hr,rfl,rfl⟩:dF m r _ _) hi).2
section
variable{P:Nat->Option Df}{M:Mem}{m:aH}{w:List Nat}
def CS (hi:i<m.deeds.length):bJ (cD m L) (nD i) M=some (.tup [nD (cst m i),.fn (aQ (L+i))]):=by
 show(bY ((List.range m.deeds.length).map λi=>D.tup [nD (cst m i),.fn (aQ (L+i))]).length (i:Int)).bind (λj=>((List.range m.deeds.length).map λi=>D.tup [nD (cst m i),.fn (aQ (L+i))])[j]?)=_;rw[dg (by simpa using hi)]
 simp[hi]
def xt (h152:P 152=some {2,2,dY})(h197:P 197=some {4,11,c7})(n:Nat)(hm:aK m)(f:lX m fk M E)(W:∀i<m.deeds.length,M[L+i]?=some (eE m (bW m i)))(H:bU m w)(hl:w.length<=100) :
 ae (ah P (n+2) 197 [cD m L,.fn (aQ fk),bD (bp m),.lst (w.map nD)] M) λd M'=>M'=M/\((d=.non/\∀l,1<=l->l<=w.length->bQ m (aN m (w.take l)) (ends m (w.take l)))\/∃l c,d=.tup [nD l,aV c]/\1<=l/\l<=w.length/\bU m c/\ends m c=ends m (w.take l)/\aN m c<aN m (w.take l)):=by
 refine aE h197 rfl ?_;show ae (c7 (ah P (n+1)) [some (cD m L),some (.fn (aQ fk)),some (bD (bp m)),some (.lst (w.map nD)),none,none,none,none,none,none,none] M) _;unfold c7;refine bq (bK rfl) ?_;rw[aD,dR,L8,a7];refine{_,rfl,⟨rfl,rfl⟩,?_};refine kC (ds:=eF 1 (w.map nD)) (λi Z M'=>M'=M/\∃a5 a6 y B F j,Z=[some (cD m L),some (.fn (aQ fk)),some (bD (ends m (w.take i))),some (.lst (w.map nD)),some (nD (aN m (w.take i))),a5,a6,y,B,F,j]/\∀l,1<=l->l<=i->bQ m (aN m (w.take l)) (ends m (w.take l)))
  (λd M'=>M'=M/\∃l c,d=.tup [nD l,aV c]/\1<=l/\l<=w.length/\bU m c/\ends m c=ends m (w.take l)/\aN m c<aN m (w.take l)) (λ_ _ _ _=>rfl) (λ_ _ _=>rfl) {rfl,none,none,none,none,none,none,?_,λl h1 h2=>absurd h2 `a} ?_ ?_ ?_
 ·show _=[_,_,some (bD (ends m [])),_,some (nD (aN m [])),_,_,_,_,_,_];rw[show ends m []=bp m from List.map_id _];rfl
 ·rintro i d Z _ hd ⟨rfl,a5,a6,y,B,F,j,rfl,v⟩;rw[iq,QS] at hd;cases e:w[i]? with
  |none=>rw[e] at hd;cases hd
  | some x=>
    rw[e] at hd;have hd:=Qz hd;subst hd;have S:i<w.length:=(Qr.mp e).1;have I:=H x (QT e);have R:w.take (i+1)=w.take i++[x]:=by rw[RI,e];rfl
    have J:bU m (w.take i):=λk hk=>H k (Q5 hk);have u:bU m (w.take (i+1)):=λk hk=>H k (Q5 hk);obtain⟨e1,e2⟩:=AK J I;rw[<- R] at e1 e2;refine{_,rfl,?_};refine bq (i4 (b7 rfl rfl (CS I)) rfl) (bq (LH rfl rfl) ?_);have O:=t5 hm (dF.rch (⟨J,rfl,rfl⟩:dF m (w.take i) _ _));refine bq (bK ((bh (af rfl (af rfl rfl))).trans (zD h152 n (W x I) hm (by rw[O.1];exact jo hm) O.2))) ?_
    obtain⟨q,t,c,g,Q,rt,hl,X⟩:=f.look u;rw[e1] at g;refine bq (i4 (uQ (x:=.non) rfl rfl g) rfl) ?_;refine bu (b:=decide (q<aN m (w.take (i+1)))) (bR (f6 rfl rfl (by rw[e2];exact Ej))) (λz=>?_) (λz=>?_)
    ·refine cm ?_;simp only[gp,b9,cL,a7,dB];refine{_,rfl,_,rfl,?_};refine(ba.c Q).list.mpr (bX.mpr {ay (by rw[Qq];have:=rt.len hm;have:=gE hm u;have:(w.take (i+1)).length<=w.length:=SO _ _;omega),ay (n:=2) `d,?_})
     refine .inr {_,rfl,rfl,i+1,t,?_,`a,S,rt.1,rt.2.1,by rw[rt.2.2];exact of_decide_eq_true z}
     show D.tup [.int ((1+i:Nat):Int),_]=_;rw[Nat.add_comm];rfl
    ·refine .inl {_,rfl,rfl,some (.int ((1+i:Nat):Int)),some (nD x),some (nD (cst m x)),some (.fn (aQ (L+x))),some (nD q),some (.cell c),by rw[e1,e2];rfl,λl h1 h2=>?_}
     by_cases U:l<=i
     ·exact v l h1 U
     ·have:l=i+1:=`a
      subst this;have:q=aN m (w.take (i+1)):=by have:=of_decide_eq_false z;omega
      rw[<- this];exact hl
 ·rintro Z M' ⟨rfl,a5,a6,y,B,F,j,rfl,v⟩;rw[jj,Qq] at v;exact aX.mpr (cm (eR.mpr {rfl,.inl ⟨rfl,v⟩}))
 ·rintro d M' ⟨rfl,h⟩;exact{rfl,.inr h}
end
section
variable{P:Nat->Option Df}{M:Mem}{m:aH}{w:Nat}{r:List Nat}
def we {s:GA}{c:Call}{k:D->Mem->Prop}(e:s Z M=.ok xs M')(h:ae (c f xs M') k):ae (ai f c s Z M) k:=by
 unfold ai;rw[e];exact h
def Kg {i:Nat}(hi:i<m.deeds.length):(M++m.deeds.map (eE m))[M.length+i]?=some (eE m (bW m i)):=by
 rw[Q4 `a,Rl,QS,QL hi]
 rw[<- qV (QL hi)];rfl
def tf (h:l<=w):((r.drop p).take w).take l=win r p l:=by unfold win;rw[List.take_take,RW h]
def BP (Q:HasB0 P)(hr:jU P)(h15:P 15=some {1,6,cw})(h151:P 151=some {1,2,dQ})(h152:P 152=some {2,2,dY})(h197:P 197=some {4,11,c7})(h198:P 198=some {4,10,f9})(n:Nat)(hm:aK m)(f:lX m fk M E)(X:ba M x r)(hn:bU m r)(hl:r.length<=100)(hw:w<=6) :
 ae (ah P (n+11) 198 [m.d,.fn (aQ fk),x,nD w] M) λd M'=>Sub M M'/\((d=.non/\Calm m w r)\/∃s,d=fF s/\g5 m w r s.1 s.2.1 s.2.2):=by
 refine aE h198 rfl ?_;show ae (f9 (ah P (n+10)) [some m.d,some (.fn (aQ fk)),some x,some (nD w),none,none,none,none,none,none] M) _;unfold f9;refine d7 (w5 ((dG (af rfl rfl)).trans (tM Q hr h15 h151 n hm))) ?_;have s1:Sub M (M++m.deeds.map (eE m)):=.app;have H:=λi (F:i<m.deeds.length)=>Kg (M:=M) F;generalize M++m.deeds.map (eE m)=u at s1 H ⊢;generalize M.length=L at H ⊢;refine d7 (eJ (x:=bD (bp m)) (M':=u) (aj (dB.mpr ?_))) ?_
 ·rw[af ((bh (af rfl rfl)).trans (nA Q h15 (n+1) hm)) rfl,bE];exact⟨rfl,rfl⟩
 have f1:=f.sub s1;have R:=X.sub s1;rw[aD,dR,eV,dB];show ae (di .len [x] u) _;rw[R.len];refine{_,rfl,`a,?_}
 refine kC (ds:=(List.range r.length).map λ(k:Nat)=>D.int (k:Int)) (λi I M'=>M'=u/\∃a6 v y z,I=[some m.d,some (.fn (aQ fk)),some x,some (nD w),some (cD m L),some (bD (bp m)),a6,v,y,z]/\∀p<i,∀l,1<=l->l<=w->p+l<=r.length->bQ m (aN m (win r p l)) (ends m (win r p l)))
  (λd M'=>M'=u/\∃s,d=fF s/\g5 m w r s.1 s.2.1 s.2.2) (λ_ _ _ _=>rfl) (λ_ _ _=>rfl) {rfl,none,none,none,none,rfl,λp h=>absurd h (S1 _)} ?_ ?_ ?_
 ·rintro i d I J hd ⟨rfl,a6,v,y,z,rfl,B⟩;rw[QS] at hd;cases e:(List.range r.length)[i]? with
  |none=>rw[e] at hd;cases hd
  | some k=>
    rw[e] at hd;obtain⟨F,O⟩:=Qr.mp e;rw[List.getElem_range] at O;rw[RF] at F;subst O;have hd:=Qz hd;subst hd;refine{_,rfl,?_};have hz:((r.drop i).take w).length<=w:=List.length_take_le _ _;have S:aY false true true (aa 2) (aa 6) (ag false .add (aa 6) (aa 3)) [some m.d,some (.fn (aQ fk)),some x,some (nD w),some (cD m L),some (bD (bp m)),some (nD i),v,y,z] J=.ok (.lst (((r.drop i).take w).map nD)) J:=
     aj (eG.mpr {rfl,rfl,(pB R `a).mpr ⟨rfl,rfl⟩})
    refine cn (h:=(we (af rfl (af rfl (af rfl (af S rfl)))) (xt h152 h197 (n+8) hm f1 H (w:=(r.drop i).take w) (λk hk=>hn k (RN (Q5 hk))) `a))) ?_
    rintro d _ ⟨rfl,⟨rfl,cl⟩|⟨l,c,rfl,h1,h2,U,he,j⟩⟩
    ·refine b6 rfl (.inl {_,rfl,rfl,_,_,_,_,rfl,λp Y l h1 h2 h3=>?_});by_cases W:p<i
     ·exact B p W l h1 h2 h3
     ·have:p=i:=`a
      subst this;rw[<- tf h2];exact cl l h1 (by rw[Q7,Q1];omega)
    ·have h3:l<=w:=`a
     rw[Q7,Q1] at h2;rw[tf h3] at he j;refine mF rfl (bq (i4 rfl rfl) (cm ?_));simp only[gp,b9,cL,a7];exact{_,rfl,_,rfl,_,rfl,ay (n:=3) `d,.inr {_,rfl,rfl,(i,l,c),rfl,h1,h3,by show i+l<=_;omega,U,he,j}}
 ·rintro I _ ⟨rfl,a6,v,y,z,rfl,B⟩;rw[Qq,RF] at B;refine aX.mpr (cm (eR.mpr {s1,.inl {rfl,λp l h1 h2 h3=>B p `a l h1 h2 h3}}))
 ·rintro d _ ⟨rfl,h⟩;exact{s1,.inr h}
end
section
variable{P:Nat->Option Df}{M:Mem}{m:aH}{w:Nat}{r:List Nat}
def vi (h:HasB0 P)(n:Nat){a b c:GE}{x y z:Int}{Z:Env}(j:a Z M=.ok (.int x) M)(u:b Z M=.ok (.int y) M)(v:c Z M=.ok (.int z) M):bM (ak (ai 0 (ah P (n+1)) #[a,b,c])) Z M=.ok (!(decide (y<=x)&&decide (x<=z))) M:=
 jc (bR ((bh (af j (af u (af v rfl)))).trans (ff h n _ _ _)))
def mC (h:ba M x r)(e:Z[i]?.getD none=some x):aB .len #[aa i] Z M=.ok (nD r.length) M:=by
 rw[ir (af (aq e) rfl)];exact aj (h.len.mpr ⟨rfl,rfl⟩)
def uC (h:ba M x r)(hl:r.length<=100000)(e:Z[i]?.getD none=some x):aB (.list true) #[aa i] Z M=.ok (.cell M.length) (M++[r.map nD]):=by
 rw[ir (af (aq e) rfl)];exact aj (h.list.mpr (km.mpr {ay (by rw[Qq];exact hl),rfl,rfl}))
def oQ (h:ba M x r)(hl:r.length<=100000)(e:Z[i]?.getD none=some x):aB (.list false) #[aa i] Z M=.ok (aV r) M:=by
 rw[ir (af (aq e) rfl)];exact aj (h.list.mpr (bX.mpr {ay (by rw[Qq];exact hl),rfl,rfl}))
def oj (h:HasM0 P)(h196:P 196=some {3,3,cP})(n:Nat)(hm:aK m)(j:ba M x r)(hr:fD m r)(hl:r.length<=12)(h1:1<=w)(u:w<=6):ah P (n+10) 196 [m.d,x,nD w] M=.ok .non M:=by
 refine aj (aE h196 rfl ?_);show ae (cP (ah P (n+9)) [some m.d,some x,some (nD w)] M) _;unfold cP;rw[aD,tV,dG (af rfl (af rfl rfl)),zy h n j hm hr];refine uh.mpr (aX.mpr (b6 (bR (f6 (mC j rfl) rfl (w:=false) ?_)) (b6 ?_ ⟨rfl,rfl⟩)))
 ·show some (decide ((12:Int)<(r.length:Int)))=_;rw[decide_eq_false `a]
 ·rw[vi h.toHasB0 (n+8) rfl rfl rfl,decide_eq_true `a,decide_eq_true `a];rfl
def IQ {a lo hi d:GE}{Z:Env}{es:List D}{z:D}{j p q:Nat}(hd:d Z M=.ok z M)(v:a Z M=.ok (.cell j) M)(hl:lo Z M=.ok (nD p) M)(hh:hi Z M=.ok (nD q) M)(e:M[j]?=some ds)(u:fG M z=some es)(h:mT z j=false)(h1:p<=q)(h2:q<=ds.length)(h3:ds.length+es.length<=100000):tW a lo hi d Z M=.ok (.next Z) (M.set j (ds.take p++es++ds.drop q)):=by
 unfold tW;rw[hd];show(a Z M).bind _=_;rw[v];show(lo Z M).bind _=_;rw[hl];show(hi Z M).bind _=_;rw[hh];show(match M[j]?,fG M z with|some ds,some es=>(if mT z j=false/\0<=(p:Int)/\(p:Int)<=(q:Int)/\(q:Int)<=ds.length/\ds.length+es.length<=sz then Res.ok (Fl.next Z) (M.set j (ds.take (p:Int).toNat++es++ds.drop (q:Int).toNat)) else .bad)|_,_=>.bad)=_
 rw[e,u];show(if _ then _ else _)=_;rw[if_pos {h,`a,`a,`a,QC h3 `d}]
 rfl
def MK (c:Call):js c=#v[hR (bB 196 c #[aa 0,aa 1,aa 2]),c8 (.one 3) (bB 166 c #[aa 0,gN]),ao (.one 4) (aB (.list true) #[aa 1]),ao (.one 5) (aL true bj),c8 (.one 6) (bB 198 c #[aa 0,aa 3,aa 4,aa 2]),i8 (ak (av .notN (aa 6) gN)) (Od c),aA (aU #[aa 4,aa 5])]:=rfl
def lT {a:GE}{Z:Env}{j:Fl->Mem->Prop}{rest:GS}{k:D->Mem->Prop}(h:fB (a Z M) k (λx M'=>j (.exc x Z) M'))(hk:∀x M',k x M'->ae (rest (Z.set i (some x)) M') j):ae (bc (c8 (.one i) a) rest Z M) j:=by
 rw[aD,Gm];cases e:a Z M with
 |ok x u=>rw[e] at h;exact hk x u h
 |err x u=>rw[e] at h;exact h
 |bad=>rw[e] at h;exact h
def sX (m:aH)(w:Nat)(t:List Nat)(d:D):Prop:=(d=.non/\Calm m w t)\/∃s,d=fF s/\g5 m w t s.1 s.2.1 s.2.2
def PZ (m:aH)(w:Nat)(r:List Nat)(M:Mem)(d:D)(M':Mem):Prop:=∃j k h t,d=.tup [.cell j,.cell k]/\M.length<=j/\M.length<=k/\M'[j]?=some (t.map nD)/\M'[k]?=some (h.map fF)/\eL m w r h t/\Calm m w t/\Sub M M'
def zB (h:HasM P)(h196:P 196=some {3,3,cP})(h199:P 199=some {3,10,js})(n:Nat)(hm:aK m)
 (h166:∀(M:Mem),fB (ah P (n+11) 166 [m.d,.non] M) (λd M'=>∃v E,d=.fn (aQ v)/\M.length<=v/\M'[v]?=some (j3 E)/\vE m M.length M' E/\AllIn m none ((un E).map pr)/\E.length<=255/\Sub M M') (λx M'=>x=.exc 8 none/\eM m none/\Sub M M'))
 (h198:∀{M v E x t},lX m v M E->ba M x t->bU m t->t.length<=100->ae (ah P (n+11) 198 [m.d,.fn (aQ v),x,nD w] M) λd M'=>Sub M M'/\sX m w t d)
 (hx:ba M x r) (hr:fD m r) (hl:r.length<=12) (h1:1<=w) (h6:w<=6) :
 fB (ah P (n+12) 199 [m.d,x,nD w] M) (λd M'=>PZ m w r M d M'/\¬ eM m none) (λx M'=>x=.exc 8 none/\eM m none/\Sub M M'):=by
 refine pe h199 rfl ?_;show ae (js (ah P (n+11)) [some m.d,some x,some (nD w),none,none,none,none,none,none,none] M) _;rw[MK,aD,tV,dG (af rfl (af rfl (af rfl rfl))),oj h h196 (n+1) hm hx hr hl h1 h6];refine uh.mpr (aX.mpr (lT (k:=λd M'=>∃v E,d=.fn (aQ v)/\lX m v M' E/\Sub M M'/\¬ eM m none) ?_ ?_))
 ·rw[dG (af rfl (af rfl rfl))];have t:=h166 M;cases e:ah P (n+11) 166 [m.d,.non] M with
  |bad=>rw[e] at t;exact t.elim
  |err y u=>rw[e] at t;exact t
  | ok d u=>
    rw[e] at t;obtain⟨v,E,rfl,_,ef,S,all,few,s1⟩:=t;exact{v,E,rfl,{ef,λe he=>(S e he).1,all},s1,all.few (by rw[xj,Qq];exact few)}
 rintro _ u ⟨v,E,rfl,f,s1,few⟩;have c0:=gE hm hr.2;have x1:=hx.sub s1;refine d7 (eJ (uC x1 `a rfl)) (d7 (eJ (x:=.cell (u.length+1)) (M':=u++[r.map nD]++[[]]) (by show Res.ok (D.cell (u++[r.map nD]).length) _=_;rw[Qt];rfl)) ?_)
 have s2:Sub u (u++[r.map nD]++[[]]):=Sub.app.trans .app;have J:(u++[r.map nD]++[[]])[u.length]?=some (r.map nD):=`s
 have eq:(u++[r.map nD]++[[]])[u.length+1]?=some (([]:List (Nat×Nat×List Nat)).map fF):=`s
 generalize u++[r.map nD]++[[]]=M2 at s2 J eq ⊢;generalize hj:u.length=j at J eq ⊢;refine lT (k:=λd M'=>Sub M2 M'/\sX m w r d) ?_ ?_
 ·rw[dG (af rfl (af rfl (af rfl (af rfl rfl))))];exact pL (h198 (f.sub s2) (.c J) hr.2 `a)
 rintro d M3 ⟨U,hd⟩;rw[aD];refine tS (λk Z M'=>∃B t d Y a8 a9,Z=[some m.d,some x,some (nD w),some (.fn (aQ v)),some (.cell j),some (.cell (j+1)),some d,Y,a8,a9]/\M'[j]?=some (t.map nD)/\M'[j+1]?=some (B.map fF)/\eL m w r B t/\sX m w t d/\Sub u M'/\aN m t<=k) ?_ (k:=aN m r) `a {[],r,d,none,none,none,rfl,U.get J,U.get eq,.nil,hd,s2.trans U,Qy _}
 rintro k Z L ⟨B,t,d,Y,a8,a9,rfl,e1,e2,md,⟨rfl,cl⟩|⟨⟨p,l,c⟩,rfl,F⟩,s4,hk⟩
 ·refine{λ_=>?_,λz=>nomatch z};refine aX.mpr (cm ?_);simp only[gp,b9,cL,a7];exact{_,rfl,_,rfl,ay (n:=2) `d,{_,_,B,t,rfl,by have:=s1.len;omega,by have:=s1.len;omega,e1,e2,md,cl,s1.trans s4},few}
 ·refine{λz=>(nomatch z),λ_=>?_};replace F:g5 m w t p l c:=F;have lt:=F.less;have nt:=md.num hr.2;have mc:=md.cost;have tl:=dX hm t nt;have cc:=dX hm c F.ok;have wl:=F.lt;have pc:=t7 (m:=m) (r:=t) (p:=p) (l:=l) (c:=c);have ps:=v8 (m:=m) (c:=c) F.pl;obtain⟨k,rfl⟩:∃k',k=k'+1:={k-1,`a}
  refine{k,rfl,?_};have pl:=F.pl;refine bq (i4 rfl rfl) (d7 (IQ (p:=p) (q:=p+l) rfl rfl rfl rfl e1 rfl rfl (Sj _ _) (by rw[Qq];exact pl) (by rw[Qq,Qq];exact(by omega:t.length+c.length<=100000))) ?_)
  have Q:(L.set j ((t.map nD).take p++c.map nD++(t.map nD).drop (p+l)))[j+1]?=some (B.map fF):=by rw[QJ `a];exact e2
  have g0:(L.set j ((t.map nD).take p++c.map nD++(t.map nD).drop (p+l)))[j]?=some ((c4 t p l c).map nD):=by
   rw[QR (Qr.mp e1).1];unfold c4;simp
  have s5:=s4.setq (q:=j) (ds:=(t.map nD).take p++c.map nD++(t.map nD).drop (p+l)) `a
  generalize L.set j ((t.map nD).take p++c.map nD++(t.map nD).drop (p+l))=O at g0 Q s5 ⊢;refine m9 (k:=j+1) rfl rfl Q (by rw[Qq];exact QO (by omega:_<1000) `d) ?_
  have g2:(O.set (j+1) (B.map fF++[fF (p,l,c)]))[j+1]?=some ((B++[(p,l,c)]).map fF):=by
   rw[QR (Qr.mp Q).1,QG];rfl
  have R:(O.set (j+1) (B.map fF++[fF (p,l,c)]))[j]?=some ((c4 t p l c).map nD):=by rw[QJ `a];exact g0
  have W:=s5.setq (q:=j+1) (ds:=B.map fF++[fF (p,l,c)]) `a
  generalize O.set (j+1) (B.map fF++[fF (p,l,c)])=M6 at g2 R W ⊢;have H:=md.snoc F;have I:=H.num hr.2;have tl':=dX hm _ I;refine lT (k:=λd M'=>Sub M6 M'/\sX m w (c4 t p l c) d) ?_ ?_
  ·rw[dG (af rfl (af rfl (af rfl (af rfl rfl))))];exact pL (h198 (f.sub W) (.c R) I (by have:=H.cost;omega))
  rintro d M7 ⟨X,hd⟩;exact .inl {_,rfl,_,_,d,_,_,_,rfl,X.get R,X.get g2,H,hd,W.trans X,`a}
end
section
variable{P:Nat->Option Df}{M M1:Mem}{m:aH}{w:D}{fit:bP->Bool}{Z:Env}{a b:GE}{t:GT}{A rest:GS}{k:Fl->Mem->Prop}
def ik (h:Z[j]?.getD none=some m.d):aB .len #[aw (aa j) (gI 2)] Z M=.ok (nD m.deeds.length) M:=by
 refine aj (dB.mpr ?_);rw[af (b7 (aq h) rfl rfl) rfl,bE];show ae (Res.ok (D.int ((m.deeds.map aW.d).length:Int)) M) _;rw[Qq];exact⟨rfl,rfl⟩
end
structure qp (P:Nat->Option Df):Prop where
 whole:P 67=some {1,1,gY}
 is_in:P 68=some {3,3,m8}
def CB (e:a Z M=.ok (.lst xs) M):aB .len #[a] Z M=.ok (nD xs.length) M:=by
 refine aj (dB.mpr ?_);rw[af e rfl,bE];exact⟨rfl,rfl⟩
section
variable{P:Nat->Option Df}{M:Mem}{m:aH}
def zA (j:HasB0 P)(hr:jU P)(h15:P 15=some {1,6,cw})(h151:P 151=some {1,2,dQ})(h152:P 152=some {2,2,dY})(h165:P 165=some {3,11,gW})(h166:P 166=some {2,6,jr})(n:Nat)(hm:aK m) :
 fB (ah P (n+11) 166 [m.d,.non] M) (λd M'=>∃h E,d=.fn (aQ h)/\M.length<=h/\M'[h]?=some (j3 E)/\vE m M.length M' E/\AllIn m none ((un E).map pr)/\E.length<=255/\Sub M M') (λx M'=>x=.exc 8 none/\eM m none/\Sub M M'):=
 zz (bd:=none) (λ_=>rfl) (λ_=>rfl) j hr h15 h151 h152 h165 h166 n hm (λ_ z=>nomatch z)
def kK (h89:P 89=some {2,2,dr})(n:Nat)(h:ba M x r)(hl:r.length<=100000)(hr:∀i∈r,i<m.deeds.length):ah P (n+1) 89 [m.d,x] M=.ok (nD (aN m r)) M:=by
 refine aj (aE h89 rfl ?_);simp[dr,h.is];refine dN (λd=>match d with|.int i=>nD (bW m i.toNat).cost|_=>.non) (ay `o) h.seq ?_ ?_
 ·intro d hd;obtain⟨x,h,rfl⟩:=QK.mp hd;refine{_,rfl,aj ?_};simp[-gD,An,lH (hr x h),jL]
 ·obtain⟨bs,e1,e2⟩:=oV (λi=>(bW m i).cost) r;refine{?_,bs,?_,?_,rfl}
  ·simp;exact ay `a
  ·simpa[R8] using e1
  ·exact e2
end
def uO (r:List Nat)(ss:List (Nat×Nat×List Nat)):List Nat:=ss.foldl (λt s=>c4 t s.1 s.2.1 s.2.2) r
def uN:uO r (ss++[s])=c4 (uO r ss) s.1 s.2.1 s.2.2:=by unfold uO;rw[List.foldl_append];rfl
def eL.go (h:eL m w r ss t):t=uO r ss/\∀i s,ss[i]?=some s->g5 m w (uO r (ss.take i)) s.1 s.2.1 s.2.2:=by
 induction h with
 |nil=>exact{rfl,λi s e=>nomatch e}
 | @snoc ss t p l c h y u=>
   obtain⟨rfl,u⟩:=u;refine{(uN (s:=(p,l,c))).symm,λi s e=>?_};by_cases v:i<ss.length
   ·rw[QE v] at e;rw[List.take_append_of_le_length `a]
    exact u i s e
   ·have j:=(Qr.mp e).1;rw[Qt,RV] at j;obtain rfl:i=ss.length:=`a
    rw[Q4 (Qy _),Nat.sub_self] at e;cases e;rw[List.take_left'];exact y;rfl
section
variable{P:Nat->Option Df}{M:Mem}{m:aH}{w:Nat}{r:List Nat}
def eL.pre (h:eL m w r ss t):∀i,eL m w r (ss.take i) (uO r (ss.take i)):=by
 induction h with
 |nil=>exact λi=>by rw[List.take_nil];exact .nil
 | @snoc ss t p l c h v u=>
   intro i;by_cases j:i<=ss.length
   ·rw[List.take_append_of_le_length j];exact u i
   ·rw[Q3 (by rw[Qt,RV];omega)]
    have z:=h.snoc v;rw[h.go.1] at z;exact(uN (s:=(p,l,c))) ▸ z
def eL.num_le (h:eL m w r ss t)(hm:aK m)(hr:bU m r)(hl:r.length<=12):bU m t/\t.length<=36/\ss.length<=36:=by
 have:=h.cost;have:=gE hm hr;have:=dX hm t (h.num hr);exact{h.num hr,`a,`a}
end
def wo:∀{b:Bool},(!b)=true->b=false:=`d
def Ee:∀{b:Bool},(!b)=false->b=true:=`d
abbrev IS:=Int×Int×List Int
def iD (s:IS):D:=.tup [.int s.1,.int s.2.1,.lst (s.2.2.map .int)]
def toN (c:List Int):List Nat:=c.map Int.toNat
noncomputable def EU (m:aH):D->Bool
 |.int x=>decide (0<=x)&&decide (x<=(m.deeds.length:Int)-1)
 |_=>false
def uo (m:aH)(c:List Int):Bool:=(c.map D.int).all (EU m)
def pF (w:Nat)(r:List Nat)(p l:Int):Bool:=(decide (1<=l)&&decide (l<=(w:Int)))&&(decide (0<=p)&&decide (p<=(r.length:Int)-l))
def stepI (m:aH)(w:Nat)(r:List Nat)(s:IS):Option (List Nat):=
 if pF w r s.1 s.2.1=true then
  if uo m s.2.2=true then
   if aN m (win r s.1.toNat s.2.1.toNat)<=aN m (toN s.2.2) then none
   else if ends m (toN s.2.2)=ends m (win r s.1.toNat s.2.1.toNat) then some (c4 r s.1.toNat s.2.1.toNat (toN s.2.2)) else none
  else none
 else none
noncomputable def jg (m:aH)(w:Nat):List Nat->List IS->Option (List Nat)
 |r,[]=>some r
 |r,s::ss=>(stepI m w r s).bind λt=>jg m w t ss
def um (h:uo m c=true):bU m (toN c)/\c.map D.int=(toN c).map nD:=by
 have h:∀x∈c,0<=x/\x<=(m.deeds.length:Int)-1:=λx j=>by
  have:=QV.mp h _ (Rx (f:=D.int) j);have:(decide (0<=x)&&decide (x<=(m.deeds.length:Int)-1))=true:=this;rw[QD,decide_eq_true_eq,decide_eq_true_eq] at this;exact this
 refine{λi u=>?_,?_}
 ·obtain⟨x,j,rfl⟩:=QK.mp u;have:=h x j;omega
 ·unfold toN;rw[Rv];refine Sf λx j=>?_;have:=(h x j).1;show D.int x=D.int ((x.toNat:Nat):Int);rw[Int.toNat_of_nonneg this]
def t9 (h:pF w r p l=true):∃a b:Nat,p=a/\l=b/\1<=b/\b<=w/\a+b<=r.length:=by
 unfold pF at h;simp only[QD,decide_eq_true_eq] at h;obtain⟨⟨h1,h2⟩,h3,h4⟩:=h;exact{p.toNat,l.toNat,`a,`a,`a,`a,`a}
def oE (h:pF w r p l=false):stepI m w r (p,l,c)=none:=by unfold stepI;rw[if_neg (by rw[h];exact QX)]
def mf (h:uo m c=false):stepI m w r (p,l,c)=none:=by
 unfold stepI;split
 ·rw[if_neg (by rw[h];exact QX)]
 ·rfl
def oF {p l:Nat}(h:pF w r p l=true)(h2:uo m c=true):stepI m w r (p,l,c)=if aN m (win r p l)<=aN m (toN c) then none else if ends m (toN c)=ends m (win r p l) then some (c4 r p l (toN c)) else none:=by
 unfold stepI;rw[if_pos h,if_pos h2];rfl
def xo (e:stepI m w r s=some t):∃p l:Nat,g5 m w r p l (toN s.2.2)/\t=c4 r p l (toN s.2.2):=by
 obtain⟨p,l,c⟩:=s;cases h1:pF w r p l with
 |false=>rw[oE h1] at e;cases e
 | true=>
   cases h2:uo m c with
   |false=>rw[mf h2] at e;cases e
   | true=>
     obtain⟨a,b,rfl,rfl,h,j,u⟩:=t9 h1;rw[oF h1 h2] at e;by_cases h3:aN m (win r a b)<=aN m (toN c)
     ·rw[if_pos h3] at e;cases e
     ·rw[if_neg h3] at e;by_cases h4:ends m (toN c)=ends m (win r a b)
      ·rw[if_pos h4] at e;exact{a,b,{h,j,u,(um h2).1,h4,Nat.lt_of_not_le h3},(Qz e).symm}
      ·rw[if_neg h4] at e;cases e
noncomputable def A2 (f:D->Bool):∀ds:List D,boolsOf (ds.map λd=>D.bl (f d))=some (ds.map f)
 |[]=>rfl
 | d::r=>by
   show(boolsOf (r.map _)).map (f d::·)=_;rw[A2 f r];rfl
def LN {w:GW}{ge:GE}{Z:Env}{M:Mem}(f:D->Bool){ds:List D}(h:ae (w Z M) λwk M'=>M'=M/\wk M=some ds)(hz:ds.length<=sz)(he:∀d∈ds,ge (some d::Z) M=.ok (.bl (f d)) M) :
 aB .all #[bG false 1 (.one 0) w (bI ge)] Z M=.ok (.bl (ds.all f)) M:=by
 refine aj ?_;simp only[dB,b9,fb,cL];refine aT h ?_;rintro wk M' ⟨e1,e2⟩;subst e1;refine dN (λd=>.bl (f d)) hz e2 (λd hd=>{some d::Z,rfl,he d hd}) ?_;simp only[bX,Qq];refine{hz,?_};show ae (match boolsOf (ds.map λd=>D.bl (f d)) with|some bs=>Res.ok (D.bl (bs.all id)) M'|none=>.bad) _
 rw[A2];refine{?_,rfl};rw[List.all_map];rfl
def nQ {b:Bool}{A C:GS}{t:GT}{Z:Env}{M M1:Mem}{h:Fl->Mem->Prop}(j:t Z M=.ok b M1)(h1:b=true->ae (A Z M1) (gG C h))(h2:b=false->ae (C Z M1) h):ae (bc (aI t A aC) C Z M) h:=by
 rw[aD,ml,j];cases b with
 |true=>exact h1 rfl
 |false=>exact fu.mpr (aX.mpr (h2 rfl))
def u4 {o:jB}{a b:GE}{x y:D}{v:Bool}{Z:Env}{M M1 h:Mem}(h1:a Z M=.ok x M1)(h2:b Z M1=.ok y h)(h3:bx o x y h=some v):ak (av o a b) Z M=.ok v h:=by
 unfold ak av;rw[h1];show(Res.bind (Res.bind (b Z M1) _) _)=_;rw[h2];show(Res.bind (bV h (bx o x y h) |>.bind λb M=>Res.ok (D.bl b) M) _)=_;rw[h3];rfl
def HP {a b:GE}{Z:Env}{M:Mem}{xs ys:List D}(h:a Z M=.ok (.lst xs) M)(j:b Z M=.ok (.lst ys) M)(hl:(xs++ys).length<=100):ag true .add a b Z M=.ok (.cell M.length) (M++[xs++ys]):=by
 refine(cu h j).trans ?_;show(if (xs++ys).length<=sz then(if true=true then _ else Res.ok (D.lst (xs++ys)) M) else .bad)=_;rw[if_pos (ay `a)];rfl
def ER {a b:Nat}:bx .ge (nD a) (nD b) M=some (decide (b<=a)):=congrArg some (decide_eq_decide.mpr Int.ofNat_le)
section
variable{P:Nat->Option Df}{M:Mem}{m:aH}{w:Nat}{r:List Nat}
def BW (h:HasM0 P)(n:Nat)(x:Int):ah P (n+2) 16 [m.d,.int x] M=.ok (.bl (EU m (.int x))) M:=by
 refine aj (aE h.is_deed_number rfl ?_);have e2:ag false .sub (aB .len #[aw (aa 0) (gI 2)]) (gI 1) [some m.d,some (.int x)] M=.ok (.int ((m.deeds.length:Int)-1)) M:=(cu (ik rfl) rfl).trans rfl;show ae (fm (ah P (n+1)) [some m.d,some (.int x)] M) _;exact bH ((bh (af rfl (af rfl (af e2 rfl)))).trans (ff h.toHasB0 n _ _ _)) ⟨rfl,rfl⟩
def xu (h:HasM0 P)(h200:P 200=some {2,2,dm})(n:Nat){c:List Int}(hl:c.length<=100000):ah P (n+3) 200 [m.d,.lst (c.map D.int)] M=.ok (.bl (uo m c)) M:=by
 refine aj (aE h200 rfl ?_);show ae (dm (ah P (n+2)) [some m.d,some (.lst (c.map D.int))] M) _;refine bH (Bb (x:=true) rfl λ_=>LN (ds:=c.map D.int) (EU m) ?_ (ay (by rw[Qq];exact hl)) λd hd=>?_) ⟨rfl,rfl⟩
 ·rw[fA,aq rfl,bE];exact⟨rfl,rfl,rfl⟩
 ·obtain⟨x,j,rfl⟩:=QK.mp hd;exact(bh (af rfl (af rfl rfl))).trans (BW h n x)
def BZ (h:HasM P)(h15:P 15=some {1,6,cw})(h46:P 46=some {2,2,iu})(h47:P 47=some {2,2,eA})(h200:P 200=some {2,2,dm})(h208:P 208=some {4,9,dj})(n:Nat)(hm:aK m)(B:ba M x r)(hn:bU m r)(hl:r.length<=40)(s:IS)(F:s.2.2.length<=60) :
 ae (ah P (n+11) 208 [m.d,x,nD w,iD s] M) λd M'=>Sub M M'/\((d=.non/\stepI m w r s=none)\/∃t q,d=.cell q/\M.length<=q/\M'[q]?=some (t.map nD)/\stepI m w r s=some t):=by
 obtain⟨p,l,c⟩:=s;replace F:c.length<=60:=F;refine aE h208 rfl ?_;show ae (dj (ah P (n+10)) [some m.d,some x,some (nD w),some (iD (p,l,c)),none,none,none,none,none] M) _;unfold dj;refine bq (i4 (ρ1:=[some m.d,some x,some (nD w),some (iD (p,l,c)),some (.int p),some (.int l),some (.lst (c.map D.int)),none,none]) rfl rfl) ?_;have E:=h.toHasM0.toHasB0;refine bu (sO (vi (x:=l) (y:=1) (z:=w) E (n+9) rfl rfl rfl) (vi (x:=p) (y:=0) (z:=(r.length:Int)-l) E (n+9) rfl rfl ((cu (mC B rfl) rfl).trans rfl))) (λz=>?_) (λz=>?_)
 ·have z:pF w r p l=false:=wo ((Bool.not_and _ _).trans z);exact bH rfl {.refl,.inl {rfl,oE z}}
 have z:pF w r p l=true:=Ee ((Bool.not_and _ _).trans z);refine bu (jc (bR ((bh (af rfl (af rfl rfl))).trans (xu h.toHasM0 h200 (n+7) `a)))) (λy=>?_) (λy=>?_)
 ·exact bH rfl {.refl,.inl {rfl,mf (wo y)}}
 have y:=Ee y;obtain⟨ok,O⟩:=um y;obtain⟨p,l,rfl,rfl,R,S,H⟩:=t9 z;rw[oF z y,O];have Q:(toN c).length=c.length:=Qq _;generalize toN c=j at ok Q ⊢;refine bq (bK (x:=nD (p+l)) rfl) ?_;refine bq (bK (x:=aV (win r p l)) (aj (eG.mpr {rfl,rfl,(pB B `a).mpr ⟨rfl,rfl⟩}))) ?_
 have J:=mh h.toHasM0 h47 (n+9) (M:=M) (m:=m) (x:=aV j) .l `a ok
 have L:=mh h.toHasM0 h47 (n+9) (M:=M) (m:=m) (x:=aV (win r p l)) .l (by rw[j7 H];omega) hn.win
 refine bu (bR (f6 ((bh (af rfl (af rfl rfl))).trans J) ((bh (af rfl (af rfl rfl))).trans L) ER)) (λu=>?_) (λu=>?_)
 ·exact bH rfl {.refl,.inl {rfl,if_pos (of_decide_eq_true u)}}
 rw[if_neg (of_decide_eq_false u)];have e1:=mi h h15 h46 n (M:=M) (x:=aV j) .l hm `a ok
 have e2:=λv=>mi h h15 h46 n (M:=v) (x:=aV (win r p l)) .l hm (by rw[j7 H];omega) hn.win
 refine nQ (u4 ((bh (af rfl (af rfl rfl))).trans e1) ((bh (af rfl (af rfl rfl))).trans (e2 _)) (by rw[sm,sm];exact se)) (λu=>?_) (λu=>?_)
 ·exact bH rfl {Sub.app.trans .app,.inl {rfl,if_neg (of_decide_eq_false (wo u))}}
 rw[if_pos (of_decide_eq_true (Ee u))];have s1:=(Sub.app (M:=M) (X:=(bp m).map λs=>(eZ m j s).map au)).trans (.app (X:=(bp m).map λs=>(eZ m (win r p l) s).map au));generalize M++(bp m).map (λs=>(eZ m j s).map au)++(bp m).map (λs=>(eZ m (win r p l) s).map au)=v at s1 ⊢;have I:=B.sub s1;refine cm (Z:=[some m.d,some x,some (nD w),some (iD (p,l,c)),some (nD p),some (nD l),some (aV j),some (nD (p+l)),some (aV (win r p l))]) ?_;have t1:aY false false true (aa 1) gN (aa 4) [some m.d,some x,some (nD w),some (iD (p,l,c)),some (nD p),some (nD l),some (aV j),some (nD (p+l)),some (aV (win r p l))] v=.ok (aV (r.take p)) v:=aj (eG.mpr {rfl,rfl,(mj I `a).mpr ⟨rfl,rfl⟩})
 have t2:aY false true false (aa 1) (aa 7) gN [some m.d,some x,some (nD w),some (iD (p,l,c)),some (nD p),some (nD l),some (aV j),some (nD (p+l)),some (aV (win r p l))] v=.ok (aV (r.drop (p+l))) v:=aj (eG.mpr {rfl,rfl,(jY I `a).mpr ⟨rfl,rfl⟩})
 rw[HP (ng t1 rfl ?_) t2 ?_,bE]
 ·exact{s1.trans .app,.inr {_,_,rfl,s1.len,by unfold c4;simp,rfl}}
 ·rw[<- QG,Qq,Qt,Q7];omega
 ·rw[<- QG,<- QG,Qq,Qt,Qt,Q7,Q1];omega
def kD {j:Type}{ss:List j}{s:j}(e:ss[i]?=some s):ss.drop i=s::ss.drop (i+1):=by
 obtain⟨h,e⟩:=Qr.mp e;rw[List.drop_eq_getElem_cons h,e]
def uP:jg m w r (s::ss)=(stepI m w r s).bind λt=>jg m w t ss:=rfl
def BS {ss:List IS}(h:HasM P)(h196:P 196=some {3,3,cP})(h209:P 209=some {4,6,fL})(n:Nat)(hm:aK m)
 (h208:∀{M x t s},ba M x t->bU m t->t.length<=40->s∈ss->ae (ah P (n+11) 208 [m.d,x,nD w,iD s] M) λd M'=>Sub M M'/\((d=.non/\stepI m w t s=none)\/∃u q,d=.cell q/\M.length<=q/\M'[q]?=some (u.map nD)/\stepI m w t s=some u))
 (H:ba M x r) (hr:fD m r) (hl:r.length<=12) (h1:1<=w) (J:w<=6) :
 ae (ah P (n+12) 209 [m.d,x,nD w,.lst (ss.map iD)] M) λd M'=>Sub M M'/\((d=.non/\jg m w r ss=none)\/∃t q,d=.cell q/\M.length<=q/\M'[q]?=some (t.map nD)/\t.length<=40/\jg m w r ss=some t):=by
 refine aE h209 rfl ?_;show ae (fL (ah P (n+11)) [some m.d,some x,some (nD w),some (.lst (ss.map iD)),none,none] M) _;unfold fL;rw[aD,tV,dG (af rfl (af rfl (af rfl rfl))),oj h h196 (n+1) hm H hr hl h1 J];have cr:=gE hm hr.2;refine uh.mpr (aX.mpr (d7 (eJ (uC H `a rfl)) ?_))
 rw[aD,dR,fA];refine a7.mpr {_,rfl,rfl,?_};refine kC (ds:=ss.map iD) (λi B M'=>Sub M M'/\∃t q a5,B=[some m.d,some x,some (nD w),some (.lst (ss.map iD)),some (.cell q),a5]/\M.length<=q/\M'[q]?=some (t.map nD)/\bU m t/\aN m t<=36/\jg m w r ss=jg m w t (ss.drop i))
  (λd M'=>Sub M M'/\d=.non/\jg m w r ss=none) (λ_ _ _ _=>rfl) (λ_ _ _=>rfl) {.app,r,M.length,none,rfl,Qy _,`s,hr.2,`a,rfl} ?_ ?_ ?_
 ·rintro i d B E hd ⟨s1,t,q,a5,rfl,F,eq,v,ct,j⟩;rw[QS] at hd;cases e:ss[i]? with
  |none=>rw[e] at hd;cases hd
  | some s=>
    rw[e] at hd;have hd:=Qz hd;subst hd;refine{_,rfl,?_};have tl:=dX hm t v;rw[kD e,uP] at j;refine cn (h:=we (af rfl (af rfl (af rfl (af rfl rfl)))) (h208 (.c eq) v `a (QT e))) ?_
    rintro _ O ⟨s2,⟨rfl,e2⟩|⟨u,L,rfl,z,y,e2⟩⟩
    ·rw[e2] at j;exact mF rfl (bH rfl (.inr {_,rfl,s1.trans s2,rfl,j}))
    ·rw[e2] at j;obtain⟨p,l,I,rfl⟩:=xo e2;have:=I.less;exact b6 rfl (.inl {_,rfl,s1.trans s2,_,L,_,rfl,QC s1.len z,y,v.put I.ok,`a,j})
 ·rintro B E ⟨s1,t,q,a5,rfl,F,eq,v,ct,j⟩;have tl:=dX hm t v;rw[Qq,List.drop_length] at j;exact aX.mpr (cm (a7.mpr {_,rfl,s1,.inr {t,q,rfl,F,eq,`a,j}}))
 ·rintro d E ⟨s1,rfl,j⟩;exact{s1,.inl ⟨rfl,j⟩}
def jw (M:Mem)(y:D)(ss:List IS):Prop:=y=.lst (ss.map iD)\/∃q,y=.cell q/\M[q]?=some (ss.map iD)
def jw.sub (h:jw M y ss)(s:Sub M M'):jw M' y ss:=h.imp id (by rintro⟨q,e,g⟩;exact{q,e,s.get g})
def jw.seq (h:jw M y ss):da y=true/\bT M y=some (ss.map iD):=by
 rcases h with rfl|⟨q,rfl,e⟩
 ·exact⟨rfl,rfl⟩
 ·exact⟨rfl,e⟩
def IM (h:qp P)(n:Nat)(x:Int):ah P (n+1) 67 [.int x] M=.ok (.bl true) M:=by
 refine aj (aE h.whole rfl ?_);show ae (gY (ah P n) [some (.int x)] M) _;exact bH rfl ⟨rfl,rfl⟩
def IP {lo hi:Int}(h:qp P)(n:Nat)(x:Int):ah P (n+2) 68 [.int x,.int lo,.int hi] M=.ok (.bl (decide (lo<=x)&&decide (x<=hi))) M:=by
 refine aj (aE h.is_in rfl ?_);exact bH (Bb (x:=true) ((bh (af rfl rfl)).trans (IM h n x)) λ_=>u5 rfl rfl rfl) ⟨rfl,rfl⟩
def zF (h:qp P)(h171:P 171=some {2,2,fv})(n:Nat){c:List Int}(hl:c.length<=100000):ah P (n+3) 171 [m.d,.lst (c.map D.int)] M=.ok (.bl (uo m c)) M:=by
 refine aj (aE h171 rfl ?_);show ae (fv (ah P (n+2)) [some m.d,some (.lst (c.map D.int))] M) _;refine b6 (jc (b:=true) (bR rfl)) ?_;rw[aD,eX];refine GU (ds:=c.map D.int) (EU m) ?_ (ay (by rw[Qq];exact hl)) (λd hd=>?_) ⟨rfl,rfl⟩
 ·rw[fA,aq rfl,bE];exact⟨rfl,rfl,rfl⟩
 ·obtain⟨x,j,rfl⟩:=QK.mp hd;have e2:ag false .sub (aB .len #[aw (aa 1) (gI 2)]) (gI 1) [some (.int x),some m.d,some (.lst (c.map D.int))] M=.ok (.int ((m.deeds.length:Int)-1)) M:=(cu (ik rfl) rfl).trans rfl;exact jc (bR ((bh (af rfl (af rfl (af e2 rfl)))).trans (IP h n x)))
def no3:∀A B N:Bool,(!A||(!B||!N))=true->(A&&B)=false\/N=false:=`d
def OA:∀A B N:Bool,(!A||(!B||!N))=false->(A&&B)=true/\N=true:=`d
def BU {ss:List IS}(S:HasB P)(hN:qp P)(h44:P 44=some {2,5,fy})(h89:P 89=some {2,2,dr})(h171:P 171=some {2,2,fv})(h211:P 211=some {4,8,gj})(n:Nat)(hm:aK m)
 (hx:ba M x r) (hr:fD m r) (hl:r.length<=12) (Q:jw M y ss) (hc:∀s∈ss,s.2.2.length<=60) :
 ae (ah P (n+4) 211 [m.d,x,nD w,y] M) λd M'=>Sub M M'/\((d=.non/\jg m w r ss=none)\/∃t,ba M' d t/\t.length<=40/\jg m w r ss=some t):=by
 refine aE h211 rfl ?_;show ae (gj (ah P (n+3)) [some m.d,some x,some (nD w),some y,none,none,none,none] M) _;unfold gj;have cr:=gE hm hr.2;rw[aD,dR,fA];refine a7.mpr {_,rfl,Q.seq.1,?_};refine kC (ds:=ss.map iD) (λi R M'=>Sub M M'/\∃z t a4 a5 a6 J,R=[some m.d,some z,some (nD w),some y,a4,a5,a6,J]/\ba M' z t/\bU m t/\aN m t<=36/\jg m w r ss=jg m w t (ss.drop i))
  (λd M'=>Sub M M'/\d=.non/\jg m w r ss=none) (λ_ _ _ e=>(Q.sub e.1).seq.2) (λ_ _ e=>(Q.sub e.1).seq.2) {.refl,x,r,none,none,none,none,rfl,hx,hr.2,`a,rfl} ?_ ?_ ?_
 ·rintro i d R E hd ⟨s1,z,t,a4,a5,a6,J,rfl,H,B,ct,j⟩;rw[QS] at hd;cases e:ss[i]? with
  |none=>rw[e] at hd;cases hd
  | some s=>
    rw[e] at hd;have hd:=Qz hd;subst hd;have tl:=dX hm t B;rw[kD e,uP] at j;have I:=hc s (QT e);obtain⟨p,l,c⟩:=s;replace I:c.length<=60:=I;refine{[some m.d,some z,some (nD w),some y,some (.int p),some (.int l),some (.lst (c.map D.int)),J],rfl,?_};refine bu (sO (jc (bR (u5 (l:=1) (i:=l) (h:=w) rfl rfl rfl))) (sO (jc (bR (u5 (l:=0) (i:=p) (h:=(t.length:Int)-l) rfl rfl ((cu (mC H rfl) rfl).trans rfl)))) (jc (bR ((bh (af rfl (af rfl rfl))).trans (zF hN h171 n `a)))))) (λb=>?_) (λb=>?_)
    ·have e2:stepI m w t (p,l,c)=none:=(no3 _ _ _ b).elim oE mf;rw[e2] at j;exact bH rfl (.inr {_,rfl,s1,rfl,j})
    obtain⟨L,zn⟩:=OA _ _ _ b;obtain⟨ok,ec⟩:=um zn;replace L:pF w t p l=true:=L;obtain⟨p,l,rfl,rfl,o1,o2,U⟩:=t9 L;rw[oF L zn] at j;rw[ec];have I:(toN c).length<=60:=by unfold toN;rw[Qq];exact I
    generalize toN c=v at ok I j ⊢;refine bq (bK (x:=aV (win t p l)) (aj (eG.mpr {rfl,rfl,(pB H `a).mpr ⟨rfl,rfl⟩}))) ?_
    have c1:=kK h89 (n+2) (M:=E) (m:=m) (x:=aV v) .l `a ok
    have c2:=kK h89 (n+2) (M:=E) (m:=m) (x:=aV (win t p l)) .l (by rw[j7 U];omega) B.win
    refine bu (bR (f6 ((bh (af rfl (af rfl rfl))).trans c1) ((bh (af rfl (af rfl rfl))).trans c2) ER)) (λu=>?_) (λu=>?_)
    ·rw[if_pos (of_decide_eq_true u)] at j;exact bH rfl (.inr {_,rfl,s1,rfl,j})
    have O:=of_decide_eq_false u;rw[if_neg O] at j;obtain⟨_,M2,e3,rfl,s2⟩:=eT.mp (ia S h44 (n+1) (M:=E) (x:=aV v) .l hm ok);obtain⟨_,M3,e4,rfl,W⟩:=eT.mp (ia S h44 (n+1) (M:=M2) (x:=aV (win t p l)) .l hm B.win);refine nQ (u4 ((bh (af rfl (af rfl rfl))).trans e3) ((bh (af rfl (af rfl rfl))).trans e4) se) (λu=>?_) (λu=>?_)
    ·rw[if_neg (of_decide_eq_false (wo u))] at j;exact bH rfl (.inr {_,rfl,(s1.trans s2).trans W,rfl,j})
    have F:=of_decide_eq_true (Ee u);rw[if_pos F] at j;have so:g5 m w t p l v:={o1,o2,U,ok,F,`a}
    have X:=s2.trans W;have Y:=H.sub X;have ep:aV (c4 t p l v)=.lst ((t.take p).map nD++v.map nD++(t.drop (p+l)).map nD):=by unfold c4 aV;simp
    refine bq (bK (x:=aV (c4 t p l v)) (ep ▸ ng (ng (aj (eG.mpr {rfl,rfl,(mj Y `a).mpr ⟨rfl,rfl⟩})) rfl ?_) (aj (eG.mpr {rfl,rfl,(jY Y `a).mpr ⟨rfl,rfl⟩})) ?_)) ?_
    ·rw[<- QG,Qq,Qt,Q7];omega
    ·rw[<- QG,<- QG,Qq,Qt,Qt,Q7,Q1];omega
    ·have:=so.less;exact .inl {_,rfl,s1.trans X,_,c4 t p l v,_,_,_,_,rfl,.l,B.put ok,`a,j}
 ·rintro R E ⟨s1,z,t,a4,a5,a6,J,rfl,H,B,ct,j⟩;have tl:=dX hm t B;rw[Qq,List.drop_length] at j;exact aX.mpr (cm (a7.mpr {_,rfl,s1,.inr {t,H,`a,j}}))
 ·rintro d E ⟨s1,rfl,j⟩;exact{s1,.inl ⟨rfl,j⟩}
end
section
variable{P:Nat->Option Df}{M:Mem}{p B:Nat}{m:aH}
def aH.withC (m:aH)(c:Nat):aH:={m.words,m.places,m.deeds.map (·.withC c)}
end
section
variable{P:Nat->Option Df}{M M1 M2 M3:Mem}{Z:Env}{g a gi d:GE}{rest:GS}{K:Fl->Mem->Prop}{p B c many n j:Nat}
def AL (h:HasP0 P)(u:Z[j]?.getD none=some (.cell p))(y:g Z M=.ok (nD many) M)(F:az M p B)(E:B<=1000000)(z:0<many)(h1:many<=10000000) :
 ∃(v:Nat) (M':Mem),ag false .add (gC (.int (c:Nat))) (ai 31 (ah P (n+2)) #[aa j,g]) Z M=.ok (nD (c+v)) M'/\v<many/\az M' p (B+1)/\aM p M M':=by
 obtain⟨_,M',e,v,rfl,H,q,k⟩:=eT.mp (dW h n u y F E z h1);refine{v,M',?_,H,q,k};unfold ag;show(ai 31 _ _ Z M).bind _=_;rw[e];rfl
def tU {i:Nat}(h:HasP0 P)(u:Z[j]?.getD none=some (.cell p))(y:g Z M=.ok (nD many) M)(F:az M p B)(E:B<=1000000)(z:0<many)(h1:many<=10000000)
 (hk:∀(v:Nat) (M':Mem),v<many->az M' p (B+1)->aM p M M'->ae (rest (Z.set i (some (nD (c+v)))) M') K):ae (bc (ao (.one i) (ag false .add (gC (.int (c:Nat))) (ai 31 (ah P (n+2)) #[aa j,g]))) rest Z M) K:=by
 obtain⟨v,M',e,H,q,k⟩:=AL (c:=c) (n:=n) h u y F E z h1;exact d7 (eJ e) (hk v M' H q k)
end
noncomputable def jq (s:IS):Bool:=decide (s.1<0)||decide (s.2.1<0)
structure d5 (b:Nat) (ss:List IS):Prop where
 len:ss.length<=42+b
 row:∀s∈ss,s.2.2.length<=42+b
 few:ss.countP jq<=b
def grow (s:IS)(n:Nat):Nat:=(if jq s=true then 2*n else n)+60
noncomputable def jM:List IS->Nat->Nat
 |[],n=>n
 |s::ss,n=>jM ss (grow s n)
def CU {p l:Int}(h:p<0\/l<0):grow (p,l,c) n=2*n+60:=by
 unfold grow jq;rw[if_pos];rcases h with h|h
 ·rw[decide_eq_true (p:=(p,l,c).1<0) h];rfl
 ·rw[decide_eq_true (p:=(p,l,c).2.1<0) h,Bool.or_true]
def Hf {p l:Int}(h:¬ (p<0\/l<0)):grow (p,l,c) n=n+60:=by
 unfold grow jq;rw[if_neg];rw[decide_eq_false (p:=(p,l,c).1<0) λz=>h (.inl z),decide_eq_false (p:=(p,l,c).2.1<0) λz=>h (.inr z)];decide
noncomputable def pU:∀{ss:List IS}{n k},n<=k->jM ss n<=jM ss k
 |[],_,_,h=>h
 |s::ss,_,_,h=>pU (ss:=ss) (by unfold grow;split<;>omega)
noncomputable def uM:∀{ss:List IS}{n},n<=jM ss n
 |[],n=>Qy _
 |s::ss,n=>QC (by unfold grow;split<;>omega) (uM (ss:=ss) (n:=grow s n))
theorem pT:∀{ss:List IS}{n},jM ss n<=(n+60*ss.length)*2^ss.countP jq
 |[],n=>by show n<=(n+0)*1;omega
 | s::ss,n=>by
   refine QC (pT (ss:=ss) (n:=grow s n)) ?_;rw[List.countP_cons,Rw];unfold grow;by_cases e:jq s=true
   ·rw[if_pos e,if_pos e,Nat.pow_succ,Nat.mul_comm _ 2,<- Nat.mul_assoc];exact Nat.mul_le_mul_right _ `a
   ·rw[if_neg e,if_neg e,Nat.add_zero];exact Nat.mul_le_mul_right _ `a
def d5.grow (h:d5 b ss)(j:b<=8)(hn:n<=12):jM ss n<=1000000:=by
 have h1:n+60*ss.length<=3100:=by have:=h.len;omega
 have h2:2^ss.countP jq<=256:=QC (Nat.pow_le_pow_right `d (QC h.few j)) `d
 exact QC pT (QC (Nat.mul_le_mul h1 h2) `d)
def d5.sub (h:d5 b (A++C)):d5 b A:={by have:=h.len;rw[Qt] at this;omega,λs hs=>h.row s (RE _ hs),by have:=h.few;rw[RA] at this;omega}
def fH (n:Nat)(v:Int):Nat:=if v<0 then(v+(n:Int)).toNat else min v.toNat n
def tu {j:Type}{ds:List j}{k:Nat}:ds.take (fH ds.length (k:Int))=ds.take k:=by
 unfold fH;rw[if_neg `a,RU]
 rcases SR k ds.length with h|h
 ·rw[RW h]
 ·rw[Si h,List.take_length,Q3 h]
def pb {j:Type}{ds:List j}{k:Nat}:ds.drop (fH ds.length (k:Int))=ds.drop k:=by
 unfold fH;rw[if_neg `a,RU]
 rcases SR k ds.length with h|h
 ·rw[RW h]
 ·rw[Si h,List.drop_length,SI h]
def ip {xs:List D}(h:xs.length<=4000000):aS false xs M=.ok (.lst xs) M:=by
 unfold aS;rw[if_pos (QC h `d)];rfl
section
variable{a b lo hi:GE}{Z:Env}{M:Mem}{x:D}{ds xs ys:List D}{u v:Int}
def Ge (j:cv M x=some ds)(hl:ds.length<=1000000):cj false x .non (.int v) M=.ok (.lst (ds.take (fH ds.length v))) M:=by
 have:cj false x .non (.int v) M=aS false (cut ds 0 (fH ds.length v)) M:=by
  cases x with
  |lst y=>cases j;rfl
  |frz y=>cases j;rfl
  | cell k=>
    show(match M[k]? with|some xs=>(match aO xs.length 0 .non,aO xs.length xs.length (.int v) with|some l,some h=>aS false (cut xs l h) M|_,_=>.bad)|none=>.bad)=_
    rw[show M[k]?=some ds from j];rfl
  |_=>cases j
 rw[this];unfold cut;rw[List.drop_zero,Nat.sub_zero];exact ip (QC (SO _ _) `a)
def Gf (j:cv M x=some ds)(hl:ds.length<=1000000):cj false x (.int v) .non M=.ok (.lst (ds.drop (fH ds.length v))) M:=by
 have:cj false x (.int v) .non M=aS false (cut ds (fH ds.length v) ds.length) M:=by
  cases x with
  |lst y=>cases j;rfl
  |frz y=>cases j;rfl
  | cell k=>
    show(match M[k]? with|some xs=>(match aO xs.length 0 (.int v),aO xs.length xs.length .non with|some l,some h=>aS false (cut xs l h) M|_,_=>.bad)|none=>.bad)=_
    rw[show M[k]?=some ds from j];rfl
  |_=>cases j
 rw[this];unfold cut;rw[Q3 (by rw[Q1];exact Qy _)]
 exact ip (by rw[Q1];omega)
def Gg (j:cv M x=some ds)(hl:ds.length<=1000000):cj false x (.int u) (.int v) M=.ok (.lst (cut ds (fH ds.length u) (fH ds.length v))) M:=by
 have:cj false x (.int u) (.int v) M=aS false (cut ds (fH ds.length u) (fH ds.length v)) M:=by
  cases x with
  |lst y=>cases j;rfl
  |frz y=>cases j;rfl
  | cell k=>
    show(match M[k]? with|some xs=>(match aO xs.length 0 (.int u),aO xs.length xs.length (.int v) with|some l,some h=>aS false (cut xs l h) M|_,_=>.bad)|none=>.bad)=_
    rw[show M[k]?=some ds from j];rfl
  |_=>cases j
 rw[this];exact ip (by unfold cut;rw[Q7,Q1];omega)
def qv (h:a Z M=.ok x M)(j:hi Z M=.ok (.int v) M)(y:cv M x=some ds)(hl:ds.length<=1000000):aY false false true a gN hi Z M=.ok (.lst (ds.take (fH ds.length v))) M:=by
 refine aj (eG.mpr ?_);rw[h,bE,eR,j,bE,Ge y hl];exact⟨rfl,rfl,rfl,rfl⟩
def nB (h:a Z M=.ok x M)(j:lo Z M=.ok (.int v) M)(y:cv M x=some ds)(hl:ds.length<=1000000):aY false true false a lo gN Z M=.ok (.lst (ds.drop (fH ds.length v))) M:=by
 refine aj (eG.mpr ?_);rw[h,bE,j,bE,eR,Gf y hl];exact⟨rfl,rfl,rfl,rfl⟩
def F8 (h:a Z M=.ok x M)(y:lo Z M=.ok (.int u) M)(j:hi Z M=.ok (.int v) M)(z:cv M x=some ds)(hl:ds.length<=1000000):aY false true true a lo hi Z M=.ok (.lst (cut ds (fH ds.length u) (fH ds.length v))) M:=by
 refine aj (eG.mpr ?_);rw[h,bE,y,bE,j,bE,Gg z hl];exact⟨rfl,rfl,rfl,rfl⟩
def dE (h:a Z M=.ok (.lst xs) M)(j:b Z M=.ok (.lst ys) M)(hl:xs.length+ys.length<=4000000):ag false .add a b Z M=.ok (.lst (xs++ys)) M:=by
 refine(cu h j).trans ?_;exact ip (by rw[Qt];exact hl)
def uD (h:cv M x=some ds):di .len [x] M=.ok (nD ds.length) M:=by
 cases x with
 |lst j=>cases h;rfl
 |frz j=>cases h;rfl
 | cell k=>
   show(match M[k]? with|some xs=>Res.ok (D.int xs.length) M|none=>.bad)=_
   rw[show M[k]?=some ds from h]
 |_=>cases h
def Kd (h:a Z M=.ok (.int u) M)(j:b Z M=.ok (.int v) M):qO #[a,b] Z M=.ok (.int (if v > u then v else u)) M:=by
 unfold qO;rw[af h (af j rfl)];rfl
end
section
variable{P:Nat->Option Df}{M:Mem}
def zC {ss:List IS}{ds:List D}(h214:P 214=some {2,5,dD})(n:Nat)(H:cv M x=some ds)(hl:jM ss ds.length<=1000000)(F:∀s∈ss,s.2.2.length<=60) :
 ae (ah P (n+1) 214 [x,.lst (ss.map iD)] M) λd M'=>M'=M/\∃es,cv M d=some es:=by
 refine aE h214 rfl ?_;show ae (dD (ah P n) [some x,some (.lst (ss.map iD)),none,none,none] M) _;unfold dD;rw[aD,dR,fA];refine a7.mpr {_,rfl,rfl,?_};refine dA (ds:=ss.map iD) (λi Z M'=>M'=M/\∃z es a2 a3 a4,Z=[some z,some (.lst (ss.map iD)),a2,a3,a4]/\cv M z=some es/\jM (ss.drop i) es.length<=1000000) (λ_ _ _ _=>rfl) ⟨rfl,x,ds,none,none,none,rfl,H,hl⟩ ?_ ?_
 ·rintro i d Z y hd ⟨rfl,z,es,a2,a3,a4,rfl,j,h⟩;rw[QS] at hd;cases e:ss[i]? with
  |none=>rw[e] at hd;cases hd
  | some s=>
    rw[e] at hd;have hd:=Qz hd;subst hd;rw[kD e] at h;have E:=F s (QT e);have le:es.length<=1000000:=QC uM h;obtain⟨p,l,c⟩:=s;replace E:c.length<=60:=E;refine{[some z,some (.lst (ss.map iD)),some (.int p),some (.int l),some (.lst (c.map D.int))],rfl,?_};have t1:=qv (a:=aa 0) (hi:=aa 2) (Z:=[some z,some (.lst (ss.map iD)),some (.int p),some (.int l),some (.lst (c.map D.int))]) (M:=y) rfl rfl j le;have t2:=nB (a:=aa 0) (lo:=qO #[gI 0,ag false .add (aa 2) (aa 3)]) (Z:=[some z,some (.lst (ss.map iD)),some (.int p),some (.int l),some (.lst (c.map D.int))]) (M:=y) rfl (Kd rfl (fM rfl rfl)) j le;have l1:=SO (fH es.length p) es;refine bq (bK (dE (dE t1 rfl (by rw[Qq];omega)) t2 (by rw[Qt,Qq,Q1];omega))) {_,rfl,rfl,_,_,_,_,_,rfl,rfl,?_}
    refine QC (pU ?_) h;rw[Qt,Qt,Qq,Q1,Q7];by_cases B:p<0\/l<0
    ·rw[CU B];generalize fH es.length p=I;generalize fH es.length (if p+l > 0 then p+l else 0)=J;omega
    ·rw[Hf B];unfold fH;split<;>split<;>split<;>omega
 ·rintro Z y ⟨rfl,z,es,a2,a3,a4,rfl,j,h⟩;exact aX.mpr (cm (a7.mpr {_,rfl,rfl,es,j}))
end
def nj (p:Nat)(M:Mem)(y:D)(ss:List IS):Prop:=y=.lst (ss.map iD)\/∃q,y=.cell q/\q≠p/\M[q]?=some (ss.map iD)
def nj.keep (h:nj p M y ss)(k:aM p M M'):nj p M' y ss:=h.imp id (by rintro⟨q,e,n,g⟩;exact{q,e,n,k.get g n})
def nj.at' (h:nj p M y ss):jw M y ss:=h.imp id (by rintro⟨q,e,n,g⟩;exact⟨q,e,g⟩)
def nj.rd (h:nj p M y ss):cv M y=some (ss.map iD):=by
 rcases h with rfl|⟨q,rfl,_,e⟩
 ·rfl
 ·exact e
def l7 (p:Nat)(M:Mem)(x:D)(r:List Nat):Prop:=x=aV r\/∃q,x=.cell q/\q≠p/\M[q]?=some (r.map nD)
def l7.keep (h:l7 p M x r)(k:aM p M M'):l7 p M' x r:=h.imp id (by rintro⟨q,e,n,g⟩;exact{q,e,n,k.get g n})
def l7.at' (h:l7 p M x r):ba M x r:=h.imp id (by rintro⟨q,e,n,g⟩;exact⟨q,e,g⟩)
def mG (u:cv M x=some ds)(e:ds[k]?=some d):bJ x (nD k) M=some d:=by
 have hk:=(Qr.mp e).1;cases x with
 | lst h=>
   cases u;show(bY ds.length (k:Int)).bind (λj=>ds[j]?)=_;rw[dg hk];exact e
 | frz h=>
   cases u;show(bY ds.length (k:Int)).bind (λj=>ds[j]?)=_;rw[dg hk];exact e
 | cell q=>
   show(M[q]?).bind (λh=>(bY h.length (k:Int)).bind λj=>h[j]?)=_;rw[show M[q]?=some ds from u];show(bY ds.length (k:Int)).bind (λj=>ds[j]?)=_;rw[dg hk];exact e
 |_=>cases u
def nX {j:Type}{ds:List j}{a k:Nat}:cut ds (fH ds.length (a:Int)) (fH ds.length ((a:Int)+(k:Int)))=(ds.drop a).take k:=by
 unfold fH cut;rw[if_neg `a,if_neg `a,RU,show((a:Int)+(k:Int)).toNat=a+k by omega]
 rcases SR a ds.length with h|h
 ·rw[RW h];rcases SR (a+k) ds.length with h2|h2
  ·rw[RW h2,Rl]
  ·rw[Si h2,Q3 (by rw[Q1];exact Qy _),Q3 (by rw[Q1];omega)]
 ·rw[Si h,List.drop_length,SI h,List.take_nil,List.take_nil]
section
variable{ss:List IS}{s:IS}{b k:Nat}
def d5.b0 (h:d5 b ss)(e:ss[k]?=some s):d5 (b+1) (ss.take k++ss.drop (k+1)):=by
 have d:=RH k ss;rw[kD e] at d;have l:=h.len;have f:=h.few;rw[<- d] at l f;rw[Qt,Rw] at l;rw[RA,List.countP_cons] at f;refine{by rw[Qt];omega,λt j=>?_,by rw[RA];omega}
 refine QC (h.row t ?_) `a
 rcases Q2.mp j with z|z
 ·exact Q5 z
 ·exact RN z
def d5.b3 (h:d5 b ss)(e:ss[k]?=some s){t:IS}(v:t.2.2.length<=43+b):d5 (b+1) (ss.take k++[t]++ss.drop (k+1)):=by
 have d:=RH k ss;rw[kD e] at d;have l:=h.len;have f:=h.few;rw[<- d] at l f;rw[Qt,Rw] at l;rw[RA,List.countP_cons] at f;refine{by rw[Qt,Qt,RV];omega,λu j=>?_,?_}
 ·rcases Q2.mp j with z|z
  ·rcases Q2.mp z with z|z
   ·exact QC (h.row u (Q5 z)) `a
   ·rw[QN.mp z];omega
  ·exact QC (h.row u (RN z)) `a
 ·rw[RA,RA];have:[t].countP jq<=1:=List.countP_le_length;omega
def d5.b1 (h:d5 b ss)(e:ss[k]?=some s):d5 (b+1) (ss.take k++[s]++ss.drop k):=by
 have d:=RH k ss;have l:=h.len;have f:=h.few;rw[<- d] at l f;rw[Qt] at l;rw[RA] at f;refine{by rw[Qt,Qt,RV];omega,λu j=>?_,?_}
 ·refine QC (h.row u ?_) `a
  rcases Q2.mp j with z|z
  ·rcases Q2.mp z with z|z
   ·exact Q5 z
   ·rw[QN.mp z];exact QT e
  ·exact RN z
 ·rw[RA,RA];have:[s].countP jq<=1:=List.countP_le_length;omega
def d5.b2 (h:d5 b ss):d5 (b+1) (ss.take k++((ss.drop k).take 2).reverse++ss.drop (k+2)):=by
 have d:=RH k ss;have j:=RH 2 (ss.drop k);rw[List.drop_drop] at j;rw[<- j,<- RT] at d;have l:=h.len;have f:=h.few;rw[<- d] at l f;rw[Qt,Qt] at l;rw[RA,RA] at f;refine{by rw[Qt,Qt,List.length_reverse];omega,λu v=>?_,?_}
 ·refine QC (h.row u ?_) `a
  rcases Q2.mp v with z|z
  ·rcases Q2.mp z with z|z
   ·exact Q5 z
   ·exact RN (Q5 (List.mem_reverse.mp z))
  ·exact RN z
 ·rw[RA,RA,List.countP_reverse];omega
end
section
variable{Z:Env}{M M1 M2:Mem}{a b:GE}{x y:D}
def HK (h:a Z M=.ok x M1)(j:b Z M1=.ok y M2):ag k o a b Z M=fK k o x y M2:=by
 unfold ag;rw[h];show(b Z M1).bind _=_;rw[j];rfl
def He (h:a Z M=.ok x M1)(j:b Z M1=.ok y M2)(e:bJ x y M2=some d):aw a b Z M=.ok d M2:=by
 unfold aw;rw[h];show(b Z M1).bind _=_;rw[j];show bV M2 (bJ x y M2)=_;rw[e];rfl
def wA {s:GA}{xs:List D}(e:s Z M=.ok xs M1)(hl:xs.length<=100):aL false s Z M=.ok (.lst xs) M1:=by
 unfold aL;rw[e];exact ip `a
def lB {s:GA}{xs:List D}(e:s Z M=.ok xs M)(hl:xs.length<=100):aL true s Z M=.ok (.cell M.length) (M++[xs]):=by
 unfold aL;rw[e];show(if xs.length<=sz then _ else _)=_;rw[if_pos (ay `a)];rfl
def i3 {z:List D}:(M++[z])[M.length]?=some z:=`s
def Jg {ds:List D}(h:a Z M=.ok (.lst ds) M)(hl:ds.length<=1000):uR false a Z M=.ok (.lst ds.reverse) M:=by
 unfold uR;rw[h];exact ip (by rw[List.length_reverse];omega)
def uL {k c:Nat}(h:((k:Int)==(c:Int))=false):k≠c:=λe=>by
 subst e;rw[beq_self_eq_true] at h;cases h
end
section
variable{P:Nat->Option Df}{M:Mem}{m:aH}{r:List Nat}{p B b:Nat}{x y:D}
def B1 {ss:List IS}(I:HasP0 P)(h214:P 214=some {2,5,dD})(h215:P 215=some {4,13,dJ})(n:Nat)(hm:aK m)(hx:l7 p M x r)(hr:r.length<=12)(Q:nj p M y ss)(h0:ss≠[])(is:d5 b ss)(hb:b<=6)(hp:az M p B)(hB:B<=700000) :
 ae (ah P (n+3) 215 [.cell p,m.d,x,y] M) λd M'=>∃ss',d=.lst (ss'.map iD)/\d5 (b+1) ss'/\az M' p (B+6)/\aM p M M':=by
 refine aE h215 rfl ?_;show ae (dJ (ah P (n+2)) [some (.cell p),some m.d,some x,some y,none,none,none,none,none,none,none,none,none] M) _;unfold dJ;refine eB I n (many:=12) rfl rfl hp `a `d `d λH M1 hk p1 k1=>?_
 simp only[List.set];obtain⟨_,M2,e2,v,rfl,hv,p2,k2⟩:=eT.mp (dW I n (Z:=[some (.cell p),some m.d,some x,some y,some (nD H),none,none,none,none,none,none,none,none]) (j:=0) (g:=gC (.int 29)) (many:=29) rfl rfl p1 `a `d `d)
 obtain⟨_,M3,W,u,rfl,hu,p3,k3⟩:=eT.mp (dW I n (Z:=[some (.cell p),some m.d,some x,some y,some (nD H),none,none,none,none,none,none,none,none]) (j:=0) (g:=gC (.int 6)) (many:=6) rfl rfl p2 `a `d `d)
 have ko:∃o:Int,bJ (.lst [.int ((v:Int)-14),.int 0,.int 1,.int 7,.int 13,.int ((10:Int)^(20:Int).toNat)]) (nD u) M3=some (.int o):=by
  match u,hu with
  |0,_=>exact{_,rfl}
  |1,_=>exact{_,rfl}
  |2,_=>exact{_,rfl}
  |3,_=>exact{_,rfl}
  |4,_=>exact{_,rfl}
  |5,_=>exact{_,rfl}
 obtain⟨o,eo⟩:=ko;refine d7 (eJ (He (wA (bF ((HK e2 rfl).trans rfl) (bF rfl (bF rfl (bF rfl (bF rfl (bF (xB rfl rfl {`d,`d} `d) rfl)))))) (Qv rfl)) W eo)) ?_
 simp only[List.set];clear eo e2 W hv hu;have k03:=(k1.trans k2).trans k3;have d1:=hm.d1;have d6:=hm.d6;refine eB I n (many:=m.deeds.length) rfl (ik rfl) p3 `a `a `a λnum M4 hnum p4 k4=>?_
 simp only[List.set];have k04:=k03.trans k4;have y4:=Q.keep k04;have sl:=is.len;have s0:0<ss.length:=List.length_pos_iff.mpr h0;have l4:di .len [y] M4=.ok (nD ss.length) M4:=(uD y4.rd).trans (by rw[Qq])
 refine eB I n (many:=ss.length) rfl ((ir (af rfl rfl)).trans l4) p4 `a s0 `a λt M5 ht p5 k5=>?_
 simp only[List.set];have k05:=k04.trans k5;have y5:=Q.keep k05;obtain⟨s,S⟩:∃s,ss[t]?=some s:={_,QL ht};have rs:=is.row s (QT S);have b0:=is.b0 S;have b1:=is.b1 S;have b2:=is.b2 (k:=t);have b3:=λz h=>is.b3 S (t:=z) h;have st:=is.grow `a hr
 have cs:=is.row;have em:(ss.map iD)[t]?=some (iD s):=by rw[QS,S];rfl
 obtain⟨pl,lo,c⟩:=s;replace rs:c.length<=42+b:=rs;refine bq (i4 (ds:=[.int pl,.int lo,.lst (c.map D.int)]) (ρ1:=[some (.cell p),some m.d,some x,some y,some (nD H),some (.int o),some (nD num),some (nD t),some (.int pl),some (.int lo),some (.lst (c.map D.int)),none,none]) (b7 rfl rfl (mG y5.rd em)) rfl) ?_;have l5:∀M,ag false .add (aB .len #[aa 10]) (gI 1) [some (.cell p),some m.d,some x,some y,some (nD H),some (.int o),some (nD num),some (nD t),some (.int pl),some (.int lo),some (.lst (c.map D.int)),none,none] M=.ok (nD (c.length+1)) M:=λM=>by
  refine(cu ((ir (af rfl rfl)).trans rfl) rfl).trans ?_;show Res.ok (D.int (((c.map D.int).length:Int)+1)) M=_;rw[Qq];rfl
 refine eB I n (many:=c.length+1) rfl (l5 _) p5 `a `a `a λsp M6 hsp p6 k6=>?_
 simp only[List.set];have F:=k05.trans k6;have R:=(Q.keep F).rd;have x6:=(hx.keep F).at'.rd;have lm:(ss.map iD).length<=1000000:=by rw[Qq];omega
 have tT:∀{Z:Env}{M},Z[3]?.getD none=some y->Z[7]?.getD none=some (nD t)->cv M y=some (ss.map iD)->aY false false true (aa 3) gN (aa 7) Z M=.ok (.lst ((ss.take t).map iD)) M:=λW e7 Q=>by
  rw[qv (aq W) (aq e7) Q lm,tu,Sx]
 have tF:∀{Z:Env}{M}{j:Nat}{g:GE},Z[3]?.getD none=some y->g Z M=.ok (nD j) M->cv M y=some (ss.map iD)->aY false true false (aa 3) g gN Z M=.ok (.lst ((ss.drop j).map iD)) M:=λW e7 Q=>by
  rw[nB (aq W) e7 Q lm,pb,S0]
 have lt:(ss.take t).length<=ss.length:=SO _ _;refine bu (gV (v:=H) (c:=0) rfl) (λ_=>?_) (λz0=>?_)
 ·refine bH (dE (tT rfl rfl R) (tF (j:=t+1) rfl rfl R) (by rw[Qq,Qq,Q1];omega)) {_,by rw[QG],b0,p6,F}
 refine bu (gV (v:=H) (c:=1) rfl) (λ_=>?_) (λz1=>?_)
 ·refine bH (dE (dE (tT rfl rfl R) (cY (af (b7 rfl rfl (mG R em)) rfl) (Qv rfl)) (by rw[Qq];show _+1<=_;omega)) (tF (j:=t) rfl rfl R) (by rw[Qt,Qq,Qq,Q1];show _+1+_<=_;omega)) {_,by rw[QG,QG];rfl,b1,p6,F}
 refine bu (gV (v:=H) (c:=2) rfl) (λ_=>?_) (λz2=>?_)
 ·refine bH (dE (dE (tT rfl rfl R) (Jg (F8 (u:=(t:Int)) (v:=(t:Int)+(2:Nat)) rfl rfl rfl R lm) ?_) ?_) (tF (j:=t+2) rfl rfl R) ?_) {_,?_,b2,p6,F}
  ·rw[nX];exact QC (List.length_take_le _ _) `d
  ·rw[nX,List.length_reverse,Qq];have:=List.length_take_le 2 ((ss.map iD).drop t);omega
  ·rw[nX,Qt,List.length_reverse,Qq,Qq,Q1];have:=List.length_take_le 2 ((ss.map iD).drop t);omega
  ·rw[nX];simp only[QG,List.map_reverse,Sx,S0]
 have hk3:3<=H:=by have:=uL z0;have:=uL z1;have:=uL z2;omega
 refine d7 (eJ (lB (af (j9 (af rfl (af rfl (af rfl rfl))) (Qv rfl)) (af (j9 (af rfl (af rfl (af rfl rfl))) (Qv rfl)) (af (j9 (af (fM rfl rfl) (af rfl (af rfl rfl))) (Qv rfl)) rfl))) (Qv rfl))) ?_;simp only[List.set];have lc:(c.map D.int).length<=1000000:=by rw[Qq];omega
 generalize E:[some (.cell p),some m.d,some x,some y,some (nD H),some (.int o),some (nD num),some (nD t),some (.int pl),some (.int lo),some (.lst (c.map D.int)),some (nD sp),some (.cell M6.length)]=Z;have v3:Z[3]?.getD none=some y:=by subst E;rfl
 have v4:Z[4]?.getD none=some (nD H):=by subst E;rfl
 have v5:Z[5]?.getD none=some (.int o):=by subst E;rfl
 have v6:Z[6]?.getD none=some (nD num):=by subst E;rfl
 have v7:Z[7]?.getD none=some (nD t):=by subst E;rfl
 have Y:Z[8]?.getD none=some (.int pl):=by subst E;rfl
 have v9:Z[9]?.getD none=some (.int lo):=by subst E;rfl
 have O:Z[10]?.getD none=some (.lst (c.map D.int)):=by subst E;rfl
 have U:Z[11]?.getD none=some (nD sp):=by subst E;rfl
 have v12:Z[12]?.getD none=some (.cell M6.length):=by subst E;rfl
 have v2:Z[2]?.getD none=some x:=by subst E;rfl
 clear E;have T1:∀M,aY false false true (aa 10) gN (aa 11) Z M=.ok (.lst ((c.take sp).map D.int)) M:=λM=>by
  rw[qv (aq O) (aq U) rfl lc,tu,Sx]
 have F0:∀M,aY false true false (aa 10) (aa 11) gN Z M=.ok (.lst ((c.drop sp).map D.int)) M:=λM=>by
  rw[nB (aq O) (aq U) rfl lc,pb,S0]
 have F1:∀M,aY false true false (aa 10) (ag false .add (aa 11) (gI 1)) gN Z M=.ok (.lst ((c.drop (sp+1)).map D.int)) M:=λM=>by
  rw[nB (v:=((sp+1:Nat):Int)) (aq O) ((cu (aq U) rfl).trans rfl) rfl lc,pb,S0]
 have ct:(c.take sp).length<=c.length:=SO _ _;have app:∀{zs:List IS}{z:IS}{g:GE}{rest:GS}{K:Fl->Mem->Prop},zs.length<=20->(∀M,M=M6++[zs.map iD]->g Z M=.ok (iD z) M)->ae (rest Z (M6++[(zs++[z]).map iD])) K->ae (bc (cU (aa 12) g) rest Z (M6++[zs.map iD])) K:=λ{zs z g rest K} hz hg h=>by
  refine m9 (aq v12) (hg _ rfl) i3 (RM (by rw[Qq];exact hz) `d) ?_
  rw[tQ rfl];rw[QG] at h;exact h
 have J:∀{M}{a b c:GE}{i j:Int}{l:List Int},a Z M=.ok (.int i) M->b Z M=.ok (.int j) M->c Z M=.ok (.lst (l.map D.int)) M->aU #[a,b,c] Z M=.ok (iD (i,j,l)) M:=λha hb hc=>j9 (af ha (af hb (af hc rfl))) (Qv rfl);refine app (zs:=[(o,lo,c),(pl,o,c),(pl+1,lo,c)]) (z:=(pl,lo,c.take sp++[o]++c.drop sp)) (Qv rfl) (λM _=>J (aq Y) (aq v9) ?_) ?_
 ·rw[QG,QG];exact dE (dE (T1 M) (cY (af (aq v5) rfl) (Qv rfl)) (by simp only[Qt,Qq,Q1,Rw,SJ];omega)) (F0 M) (by simp only[Qt,Qq,Q1,Rw,SJ];omega)
 refine app (z:=(pl,lo,c.take sp++[(num:Int)]++c.drop (sp+1))) (Qv rfl) (λM _=>J (aq Y) (aq v9) ?_) ?_
 ·rw[QG,QG];exact dE (dE (T1 M) (cY (af (aq v6) rfl) (Qv rfl)) (by simp only[Qt,Qq,Q1,Rw,SJ];omega)) (F1 M) (by simp only[Qt,Qq,Q1,Rw,SJ];omega)
 refine app (z:=(pl,lo,c.take sp++c.drop (sp+1))) (Qv rfl) (λM _=>J (aq Y) (aq v9) ?_) ?_
 ·rw[QG];exact dE (T1 M) (F1 M) (by rw[Qq,Qq,Q1];omega)
 refine app (z:=(pl,lo,List.replicate 41 (num:Int))) (Qv rfl) (λM _=>J (aq Y) (aq v9) ?_) ?_
 ·refine(cu (cY (af (aq v6) rfl) (Qv rfl)) rfl).trans ?_;show(if 1*(41:Int).toNat<=sz/\-(2^63)<=(41:Int)/\(41:Int)<2^63 then aS false (List.replicate (41:Int).toNat [nD num]).flatten M else .bad)=_;rw[if_pos {`d,`d,`d}]
  exact ip (Qv rfl)
 have L:∀M,cv M y=some (ss.map iD)->cv M x=some (r.map nD)->∃len:Int,aB .len #[ai 214 (ah P (n+2)) #[aa 2,aY false false true (aa 3) gN (aa 7)]] Z M=.ok (.int len) M:=λM ey ex=>by
  have dd:=RH t ss;have is':d5 b (ss.take t):=d5.sub (C:=ss.drop t) (by rw[dd];exact is)
  obtain⟨d,_,e,rfl,S,he⟩:=eT.mp (zC h214 (n+1) (ss:=ss.take t) ex (is'.grow `a (by rw[Qq];exact hr)) λs hs=>QC (is'.row s hs) `a)
  exact{S.length,(ir (af ((bh (af (aq v2) (af (tT v3 v7 ey) rfl))).trans e) rfl)).trans (uD he)}
 obtain⟨len,L⟩:=L _ ((Q.keep F).keep (.app (X:=[_]))).rd ((hx.keep F).keep (.app (X:=[_]))).at'.rd;refine app (z:=(pl-len,lo,c)) (Qv rfl) (λM e=>J ((cu (aq Y) (by subst e;exact L)).trans rfl) (aq v9) (aq O)) ?_
 refine app (z:=(pl-1,lo,c)) (Qv rfl) (λM _=>J ((cu (aq Y) rfl).trans rfl) (aq v9) (aq O)) ?_;generalize hos:[(o,lo,c),(pl,o,c),(pl+1,lo,c)]++[(pl,lo,c.take sp++[o]++c.drop sp)]++[(pl,lo,c.take sp++[(num:Int)]++c.drop (sp+1))]++[(pl,lo,c.take sp++c.drop (sp+1))]++[(pl,lo,List.replicate 41 (num:Int))]++[(pl-len,lo,c)]++[(pl-1,lo,c)]=os;have lo9:os.length=9:=by subst hos;rfl
 have ro:∀s∈os,s.2.2.length<=43+b:=by
  subst hos;intro s hs;simp only[Q2,Q9,List.not_mem_nil,or_false] at hs;rcases hs with((((((h|h|h)|h)|h)|h)|h)|h)|h<;>rw[h]<;>simp<;>omega
 obtain⟨z,ez⟩:∃z,os[H-3]?=some z:={_,QL `a}
 have em2:(os.map iD)[H-3]?=some (iD z):=by rw[QS,ez];rfl
 have e43:∀M,ag false .sub (aa 4) (gI 3) Z M=.ok (nD (H-3)) M:=λM=>by
  refine(cu (aq v4) rfl).trans ?_;show Res.ok (D.int ((H:Int)-3)) M=_;rw[show(H:Int)-3=((H-3:Nat):Int) by omega]
 have y7:=((Q.keep F).keep (.app (X:=[os.map iD]))).rd;refine bH (dE (dE (tT v3 v7 y7) (cY (af (b7 (aq v12) (e43 _) (mG (ds:=os.map iD) i3 em2)) rfl) (Qv rfl)) (by rw[Qq];show _+1<=_;omega)) (tF (j:=t+1) v3 ((cu (aq v7) rfl).trans rfl) y7) (by rw[Qt,Qq,Qq,Q1];show _+1+_<=_;omega)) {_,by rw[QG,QG];rfl,b3 z (ro z (QT ez)),p6.app,F.trans .app}
end
section
variable{P:Nat->Option Df}{M:Mem}{m:aH}{w:Nat}{r:List Nat}{Z:Env}
def Kb {a b:GE}{x y:Nat}(e1:a Z M=.ok (nD x) M)(e2:b Z M=.ok (nD y) M):sT #[a,b] Z M=.ok (nD (min x y)) M:=by
 unfold sT;rw[af e1 (af e2 rfl)];show Res.ok (D.int (if (y:Int)<(x:Int) then(y:Int) else(x:Int))) M=_
 congr 2
 omega
end
def ke (h:((List.range n).map λ(k:Nat)=>D.int (k:Int))[i]?=some d):i<n/\d=nD i:=by
 rw[QS] at h;obtain⟨j,u,rfl⟩:=QP.mp h;obtain⟨h1,h2⟩:=Qr.mp u;rw[RF] at h1;rw[List.getElem_range] at h2;exact{h1,by rw[h2]}
section
variable{P:Nat->Option Df}{M M1:Mem}{m:aH}{Z:Env}
def KO {a d:GE}{k j:Nat}{ds es:List D}(v:a Z M=.ok (.cell k) M)(hd:d Z M=.ok (.cell j) M1)(u:M1[k]?=some ds)(h:M1[j]?=some es)(hz:ds.length+es.length<=100000):qx a d Z M=.ok (.next Z) (M1.set k (ds++es)):=by
 unfold qx;rw[v];show(d Z M).bind _=_;rw[hd];show(match M1[k]?,M1[j]? with|some ds,some es=>if ds.length+es.length<=sz then Res.ok (Fl.next Z) (M1.set k (ds++es)) else .bad|_,_=>.bad)=_
 rw[u,h];exact if_pos (ay hz)
@[irreducible] def yd:GE:=bG true 1 (.one 0) (cJ (aB .len #[aw (aa 0) (gI 2)])) (bI (aL false #[aa 3,aa 0]))
@[irreducible] def CW:GW:=cJ (aB .len #[aw (aa 0) (gI 2)])
def KG (c:Call):eI c=#v[ao (.one 1) (aL true #[aL false bj]),cy (.one 2) CW #v[cU (aa 1) (aL false #[aa 2]),qx (aa 1) yd],aA (aa 1)]:=by first|rfl|(unfold yd CW;rfl)
def Fd (m:aH)(rs:List (List Nat)):Prop:=∀r∈rs,bU m r/\r.length<=2
def F4 (h212:P 212=some {1,3,eI})(n:Nat)(hm:aK m) :
 ae (ah P (n+1) 212 [m.d] M) λd M'=>∃rs,d=.cell M.length/\M'[M.length]?=some (rs.map aV)/\rs.length<=50/\Fd m rs/\Sub M M':=by
 refine aE h212 rfl ?_;simp only[RQ,List.map_nil,Rw,SJ,List.replicate,List.cons_append,List.nil_append,Nat.reduceAdd,Nat.reduceSub];rw[KG];have d6:=hm.d6;refine d7 (eJ (lB (af (cY rfl (RG _)) rfl) (Qv rfl))) ?_;rw[aD,dR];unfold CW;rw[eV,ik rfl,bE];refine{_,rfl,`a,?_}
 refine dA (ds:=(List.range m.deeds.length).map λ(k:Nat)=>D.int (k:Int)) (λi Z M'=>∃rs a2,Z=[some m.d,some (.cell M.length),a2]/\M'[M.length]?=some (rs.map aV)/\rs.length<=1+7*i/\Fd m rs/\Sub M M') (λ_ _ _ _=>rfl) {[[]],none,rfl,i3,`d,λr hr=>by rw[QN.mp hr];exact{λi v=>(nomatch v),RG _},.app} ?_ ?_
 ·rintro i d Z M1 hd ⟨rs,a2,rfl,er,F,E,s1⟩;obtain⟨v,rfl⟩:=ke hd;refine{[some m.d,some (.cell M.length),some (nD i)],rfl,?_};refine m9 (k:=M.length) rfl (cY (af rfl rfl) (Qv rfl)) er (RM (by rw[Qq];omega:_<=100) `d) ?_
  have u:(M1.set M.length (rs.map aV++[.lst [nD i]]))[M.length]?=some ((rs++[[i]]).map aV):=by
   rw[QR (jH er),QG];rfl
  have s2:=s1.setq (q:=M.length) (ds:=rs.map aV++[.lst [nD i]]) (Qy _);generalize M1.set M.length (rs.map aV++[.lst [nD i]])=y at u s2 ⊢;have H:yd [some m.d,some (.cell M.length),some (nD i)] y=.ok (.cell y.length) (y++[((List.range m.deeds.length).map λk=>[i,k]).map aV]):=by
   unfold yd;refine fJ ?_;rw[fb,eV,ik rfl,bE];refine{_,rfl,`a,?_}
   refine dN (ds:=(List.range m.deeds.length).map λ(k:Nat)=>D.int (k:Int)) (λd=>.lst [nD i,d]) (ay `o) rfl (λd hd=>{_,rfl,cY (af rfl (af rfl rfl)) (Qv rfl)}) ?_
   refine km.mpr {ay `o,rfl,?_}
   rw[Rv,Rv];rfl
  refine d7 (KO rfl H (by rw[QE (jH u)];exact u) i3 `o) {_,rfl,rs++[[i]]++(List.range m.deeds.length).map λk=>[i,k],_,rfl,?_,by simp;omega,?_,(s2.trans .app).setq (Qy _)}
  ·rw[QR (by simp;have:=jH u;omega),QG (l₁:=rs++[[i]])]
  ·intro r hr;rcases Q2.mp hr with z|z
   ·rcases Q2.mp z with z|z
    ·exact E r z
    ·rw[QN.mp z];exact{λj h=>by rw[QN.mp h];exact v,Qv rfl}
   ·obtain⟨k,hk,rfl⟩:=QK.mp z;have hk:=R0.mp hk;refine{λj h=>?_,Qy _};rcases Q9.mp h with rfl|h
    ·exact v
    ·rw[QN.mp h];exact hk
 ·rintro Z M1 ⟨rs,a2,rfl,er,F,E,s1⟩;rw[Qq,RF] at F;exact aX.mpr (cm (a7.mpr {_,rfl,rs,rfl,er,`a,E,s1}))
end
def jO (m:aH)(r:List Nat):D:=.tup [aV r,bD (ends m r),nD (aN m r)]
def KC (b:bP)(q:Nat):D->Bool
 |.tup [_,.tup e,.int k]=>cM e (b.map au)&&decide (k<(q:Int))
 |_=>false
noncomputable def Px:D->D
 |.tup (d::_)=>d
 |d=>d
def NJ (h:ba M x r):bx .eq x (.lst []) M=some (decide (r=[])):=by
 refine nZ (by rw[h.vw];exact la 63 _) rfl ?_
 rw[h.vw];exact qh r []
def NH (l:List (List Nat)):bx .ne (.lst (l.map aV)) (.lst []) M=some (!decide (l=[])):=by
 refine iY (v:=decide (l=[])) ?_ rfl ?_
 ·show(l.map aV).all (ax 63)=true;rw[QV];intro x h;obtain⟨y,_,rfl⟩:=QK.mp h;exact la 62 _
 ·cases l<;>rfl
def AG {a b:Nat}{r:List Nat}:iD (a,b,r.map λk:Nat=>(k:Int))=.tup [nD a,nD b,aV r]:=by
 show D.tup [_,_,.lst ((r.map λk:Nat=>(k:Int)).map D.int)]=_;rw[Rv];rfl
structure qr (ss:List IS):Prop where
 len:ss.length<=4
 ok:∀s∈ss,0<=s.1/\0<=s.2.1/\s.2.2.length<=2
def qr.is (h:qr ss):d5 0 ss:=by
 refine{by have:=h.len;omega,λs hs=>by have:=(h.ok s hs).2.2;omega,?_}
 rw[List.countP_eq_zero.mpr]
 ·exact Qy _
 ·intro s hs;obtain⟨h1,h2,_⟩:=h.ok s hs;unfold jq;rw[decide_eq_false `a,decide_eq_false `a];decide
section
variable{P:Nat->Option Df}{M M1:Mem}{m:aH}{Z:Env}{p B w:Nat}{r:List Nat}
def BV (X:HasP0 P)(hb:HasB P)(h44:P 44=some {2,5,fy})(h89:P 89=some {2,2,dr})(h212:P 212=some {1,3,eI})(h213:P 213=some {4,15,dt})(n:Nat)(hm:aK m)(hx:l7 p M x r)(hr:fD m r)(hl:r.length<=12)(h1:1<=w)(h6:w<=6)(hp:az M p B)(hB:B<=700000) :
 ae (ah P (n+3) 213 [.cell p,m.d,x,nD w] M) λd M'=>∃q ss,d=.cell q/\M.length<=q/\M'[q]?=some (ss.map iD)/\d5 0 ss/\az M' p (B+12)/\aM p M M':=by
 refine aE h213 rfl ?_;show ae (dt (ah P (n+2)) [some (.cell p),some m.d,some x,some (nD w),none,none,none,none,none,none,none,none,none,none,none] M) _;unfold dt;refine cn (h:=we (af rfl rfl) (F4 h212 (n+1) hm)) ?_;rintro _ M1 ⟨rs,rfl,er,l50,fo,s1⟩;simp only[List.set];have ec:ae (bG false 1 (.one 0) (b8 (aa 4)) (bI (aU #[aa 0,ai 44 (ah P (n+2)) #[aa 2,aa 0],ai 89 (ah P (n+2)) #[aa 2,aa 0]])) [some (.cell p),some m.d,some x,some (nD w),some (.cell M.length),none,none,none,none,none,none,none,none,none,none] M1) λd M'=>d=.lst (rs.map (jO m))/\Sub M1 M':=by
  rw[fb,fA];refine a7.mpr {_,rfl,rfl,?_};refine comp_map (ds:=rs.map aV) (λi U M'=>Sub M1 M'/\U=(rs.take i).map (jO m)) (ay (by rw[Qq];omega)) (λ_ _ _ e=>e.1.get er) {.refl,rfl} ?_ ?_
  ·rintro i d U Q hd _ ⟨s2,rfl⟩;rw[QS] at hd;cases e:rs[i]? with
   |none=>rw[e] at hd;cases hd
   | some r0=>
     rw[e] at hd;have hd:=Qz hd;subst hd;obtain⟨o1,o2⟩:=fo r0 (QT e);refine{_,rfl,?_};obtain⟨_,R,e3,rfl,s3⟩:=eT.mp (ia hb h44 n (M:=Q) (x:=aV r0) .l hm o1);rw[ma (bF rfl (bF ((bh (xs:=[m.d,aV r0]) (af rfl (af rfl rfl))).trans e3) (bF ((bh (xs:=[m.d,aV r0]) (af rfl (af rfl rfl))).trans (kK h89 (n+1) (x:=aV r0) .l `a o1)) rfl))) (Qv rfl),bE]
     refine{s2.trans s3,?_};rw[RI,e,QG];rfl
  ·rintro U Q _ ⟨s2,rfl⟩;rw[Qq,List.take_length];exact bX.mpr {ay (by rw[Qq];omega),rfl,s2}
 refine cn (h:=ec) ?_;rintro _ Q ⟨rfl,s2⟩;simp only[List.set];clear ec er;refine d7 (eJ (lB rfl (RG _))) ?_;simp only[List.set];have k3:aM p M (Q++[[]]):=((s1.trans s2).trans .app).keep;have p3:az (Q++[[]]) p B:=((s1.trans s2).trans .app).pen hp;have g3:(Q++[[]])[Q.length]?=some (([]:List IS).map iD):=i3;have l3:=(s1.trans s2).len;have pl:=hp.lt;generalize Q++[[]]=R at k3 p3 g3 ⊢;generalize Q.length=q at g3 l3 ⊢;clear s1 s2;have ex:ae (ag false .mul (gI 4) (mJ (av .ne (aa 2) (aL false bj))) [some (.cell p),some m.d,some x,some (nD w),some (.cell M.length),some (.lst (rs.map (jO m))),some (.cell q),none,none,none,none,none,none,none,none] R) λd M'=>M'=R/\∃N:Nat,d=nD N/\N<=4/\(0<N->r≠[]):=by
  have z:=wY (M:=R) (y:=.lst []) (b:=[]) (hx.keep k3).at' (.inl rfl);by_cases h0:r=[]
  ·rw[decide_eq_true h0] at z;have ei:mJ (av .ne (aa 2) (aL false bj)) [some (.cell p),some m.d,some x,some (nD w),some (.cell M.length),some (.lst (rs.map (jO m))),some (.cell q),none,none,none,none,none,none,none,none] R=.ok (.int 0) R:=by
    unfold mJ;rw[mS (x:=x) (y:=.lst []) rfl (cY rfl (RG _)) z];rfl
   rw[lq rfl ei (.inl {`d,`d})]
   exact{rfl,0,rfl,`d,λh=>absurd h `d}
  ·rw[decide_eq_false h0] at z;have ei:mJ (av .ne (aa 2) (aL false bj)) [some (.cell p),some m.d,some x,some (nD w),some (.cell M.length),some (.lst (rs.map (jO m))),some (.cell q),none,none,none,none,none,none,none,none] R=.ok (.int 1) R:=by
    unfold mJ;rw[mS (x:=x) (y:=.lst []) rfl (cY rfl (RG _)) z];rfl
   rw[lq rfl ei (.inl {`d,`d})]
   exact{rfl,4,rfl,`d,λ_=>h0}
 rw[aD,dR,eV];refine aT ex ?_;rintro _ _ ⟨rfl,N,rfl,hN,hN0⟩;refine{_,rfl,`a,?_}
 refine kC (ds:=(List.range (N:Int).toNat).map λ(k:Nat)=>D.int (k:Int)) (λi Z M'=>∃L j ss y7 y8 y9 H I J E F,Z=[some (.cell p),some m.d,some L,some (nD w),some (.cell M.length),some (.lst (rs.map (jO m))),some (.cell q),y7,y8,y9,H,I,J,E,F]/\aM p M M'/\az M' p (B+3*i)/\M'[q]?=some (ss.map iD)/\ss.length<=i/\(∀s∈ss,0<=s.1/\0<=s.2.1/\s.2.2.length<=2)/\bU m j/\j.length<=12+2*i/\(0<N->j≠[])/\((L=x/\j=r)\/L=aV j))
  (λd M'=>d=.cell q/\aM p M M'/\az M' p (B+12)/\∃ss,M'[q]?=some (ss.map iD)/\qr ss) (λ_ _ _ _=>rfl) (λ_ _ _=>rfl) {x,r,[],none,none,none,none,none,none,none,none,rfl,k3,p3,g3,Qy _,λ_ h=>(nomatch h),hr.2,`a,hN0,.inl ⟨rfl,rfl⟩} ?_ ?_ ?_
 ·rintro i d Z M4 hd ⟨L,j,ss,y7,y8,y9,H,I,J,E,F,rfl,k4,p4,g4,ls,gs,nr,lr,nz,Y⟩;obtain⟨hi,rfl⟩:=ke hd;have hi:i<N:=hi;have nz:=nz `a
  have rx:∀M',aM p M M'->ba M' L j:=λM' k=>by
   rcases Y with⟨rfl,rfl⟩|rfl
   ·exact(hx.keep k).at'
   ·exact .l
  have lp:0<j.length:=List.length_pos_iff.mpr nz;refine{[some (.cell p),some m.d,some L,some (nD w),some (.cell M.length),some (.lst (rs.map (jO m))),some (.cell q),some (nD i),y8,y9,H,I,J,E,F],rfl,?_};refine eB X n (many:=j.length) rfl (mC (rx M4 k4) rfl) p4 `a lp `a λv M5 hv p5 k5=>?_
  simp only[List.set];have k05:=k4.trans k5;have es:ag false .sub (aB .len #[aa 2]) (aa 8) [some (.cell p),some m.d,some L,some (nD w),some (.cell M.length),some (.lst (rs.map (jO m))),some (.cell q),some (nD i),some (nD v),y9,H,I,J,E,F] M5=.ok (nD (j.length-v)) M5:=(cu (mC (rx M5 k05) rfl) rfl).trans (by
   show Res.ok (D.int ((j.length:Int)-(v:Int))) M5=_;rw[show(j.length:Int)-(v:Int)=((j.length-v:Nat):Int) by omega])
  refine tU (c:=1) (many:=min w (j.length-v)) X rfl (Kb rfl es) p5 `a `a `a λu M6 hu p6 k6=>?_
  simp only[List.set];have k06:=k05.trans k6;have lv:v+(1+u)<=j.length:=`a
  have nw:=nr.win (p:=v) (l:=1+u);have lw:=j7 lv;refine bq (bK (x:=aV (win j v (1+u))) (aj (eG.mpr {rfl,rfl,(pB (rx M6 k06) `a).mpr ⟨rfl,rfl⟩}))) ?_
  simp only[List.set];generalize hW:win j v (1+u)=W at nw lw ⊢;refine cn (h:=we (af rfl (af rfl rfl)) (ia hb h44 n (M:=M6) (x:=aV W) .l hm nw)) ?_;rintro _ M7 ⟨rfl,s7⟩;simp only[List.set];refine bq (bK ((bh (af rfl (af rfl rfl))).trans (kK h89 (n+1) (x:=aV W) .l `a nw))) ?_
  simp only[List.set];have k07:=k06.trans s7.keep;have p7:=s7.pen p6;have g7:=s7.get ((k5.trans k6).get g4 `a)
  clear s7 p4 p5 p6 k5 k6 g4 es;obtain⟨gd,eg,hg,_⟩:∃gd:List (List Nat),bG false 3 (.tup [0,1,2]) (b8 (aa 5)) (rV (eW (ak (av .eq (aa 1) (aa 14))) (ak (av .lt (aa 2) (aa 15)))) (bI (aa 0))) [some (.cell p),some m.d,some L,some (nD w),some (.cell M.length),some (.lst (rs.map (jO m))),some (.cell q),some (nD i),some (nD v),some (nD (1+u)),some (aV W),some (bD (ends m W)),some (nD (aN m W)),E,F] M7=.ok (.lst (gd.map aV)) M7/\(∀g∈gd,g∈rs)/\gd.length<=50:=by
   refine{rs.filter λr=>KC (ends m W) (aN m W) (jO m r),aj ?_,λg h=>(So.mp h).1,QC (List.length_filter_le _ _) l50};rw[fb,fA];refine a7.mpr {_,rfl,rfl,?_};refine r8 (ds:=rs.map (jO m)) (KC (ends m W) (aN m W)) Px (ay (by rw[Qq];omega)) rfl (λd hd=>?_) ?_
   ·obtain⟨r0,_,rfl⟩:=QK.mp hd;refine{[some (aV r0),some (bD (ends m r0)),some (nD (aN m r0)),some (.cell p),some m.d,some L,some (nD w),some (.cell M.length),some (.lst (rs.map (jO m))),some (.cell q),some (nD i),some (nD v),some (nD (1+u)),some (aV W),some (bD (ends m W)),some (nD (aN m W)),E,F],rfl,?_,λ_=>rfl};refine(ra (bR (f6 rfl rfl A1)) (bR (f6 rfl rfl Ej))).trans ?_;show _=Res.ok (cM ((ends m r0).map au) ((ends m W).map au)&&decide (((aN m r0:Nat):Int)<((aN m W:Nat):Int))) M7;rw[mU]
    congr 2
    exact decide_eq_decide.mpr Int.ofNat_lt.symm
   ·refine bX.mpr {ay ?_,?_,rfl}
    ·rw[Qq];exact QC (List.length_filter_le _ _) (by rw[Qq];omega)
    ·rw[List.filter_map,Rv];rfl
  refine bq (bK eg) ?_;simp only[List.set];clear eg;have S:∀{M':Mem}{x2:D}{r2:List Nat}{O:List IS}{z13 z14:Option D},aM p M M'->az M' p (B+3*(i+1))->M'[q]?=some (O.map iD)->O.length<=i+1->(∀s∈O,0<=s.1/\0<=s.2.1/\s.2.2.length<=2)->bU m r2->r2.length<=12+2*(i+1)->((x2=x/\r2=r)\/x2=aV r2)->
   ae (#v[aI (ak (av .eq (aa 2) (aL false bj))) #v[aA (aa 6)] aC] [some (.cell p),some m.d,some x2,some (nD w),some (.cell M.length),some (.lst (rs.map (jO m))),some (.cell q),some (nD i),some (nD v),some (nD (1+u)),some (aV W),some (bD (ends m W)),some (nD (aN m W)),z13,z14] M') λfl M'=>(∃ρ',fl=.next ρ'/\∃(L:D) (j:List Nat) (ss:List IS) (y7 y8 y9 H I J E F:Option D),ρ'=[some (.cell p),some m.d,some L,some (nD w),some (.cell M.length),some (.lst (rs.map (jO m))),some (.cell q),y7,y8,y9,H,I,J,E,F]/\aM p M M'/\az M' p (B+3*(i+1))/\M'[q]?=some (ss.map iD)/\ss.length<=i+1/\(∀s∈ss,0<=s.1/\0<=s.2.1/\s.2.2.length<=2)/\bU m j/\j.length<=12+2*(i+1)/\(0<N->j≠[])/\((L=x/\j=r)\/L=aV j))\/∃d,fl=.ret d/\d=.cell q/\aM p M M'/\az M' p (B+12)/\∃ss,M'[q]?=some (ss.map iD)/\qr ss:=λ{M' x2 r2 O z13 z14} k p' g l o nu le hx2=>by
   have rx2:ba M' x2 r2:=by
    rcases hx2 with⟨rfl,rfl⟩|rfl
    ·exact(hx.keep k).at'
    ·exact .l
   refine bu (bR (mS rfl (cY rfl (RG _)) (NJ rx2))) (λz=>?_) (λz=>?_)
   ·exact bH rfl (.inr {_,rfl,rfl,k,p'.mono `a,O,g,{`a,o}})
   ·exact .inl {_,rfl,x2,r2,O,_,_,_,_,_,_,_,_,rfl,k,p',g,l,o,nu,le,λ_=>of_decide_eq_false z,hx2}
  refine bu (bR (mS rfl (cY rfl (RG _)) (NH gd))) (λz=>?_) (λz=>?_)
  ·have lg:0<gd.length:=List.length_pos_iff.mpr (of_decide_eq_false (wo z));refine cn (h:=CQ X n (many:=gd.length) rfl (CB rfl |>.trans (by rw[Qq])) p7 `a lg `a rfl (by rw[Qq])) ?_
   rintro _ M8 ⟨hd,p8,k8⟩;obtain⟨r0,hr0,rfl⟩:=QK.mp hd;obtain⟨o1,o2⟩:=fo r0 (hg r0 hr0);simp only[List.set];have g8:=k8.get g7 `a
   refine m9 (k:=q) rfl (j9 (af rfl (af rfl (af (oQ (x:=aV r0) .l `a rfl) rfl))) (Qv rfl)) g8 (RM (by rw[Qq];omega:_<=100) `d) ?_
   have k9:aM p M (M8.set q (ss.map iD++[.tup [nD v,nD (1+u),aV r0]])):=(k07.trans k8).setq l3;have p9:az (M8.set q (ss.map iD++[.tup [nD v,nD (1+u),aV r0]])) p (B+3*i+1+1+1):=p8.setq `a
   have g9:(M8.set q (ss.map iD++[.tup [nD v,nD (1+u),aV r0]]))[q]?=some ((ss++[((v:Int),((1+u:Nat):Int),r0.map λk:Nat=>(k:Int))]).map iD):=by
    rw[QR (jH g8),QG];exact congrArg some (congrArg _ (congrArg (λz=>[z]) AG.symm))
   generalize M8.set q (ss.map iD++[.tup [nD v,nD (1+u),aV r0]])=M9 at k9 p9 g9 ⊢;have x9:=rx M9 k9;have ep:aV (c4 j v (1+u) r0)=.lst ((j.take v).map nD++r0.map nD++(j.drop (v+(1+u))).map nD):=by unfold c4 aV;simp
   refine bq (bK (x:=aV (c4 j v (1+u) r0)) (ep ▸ ng (ng (aj (eG.mpr {rfl,rfl,(mj x9 `a).mpr ⟨rfl,rfl⟩})) rfl (by rw[<- QG,Qq,Qt,Q7];omega)) (aj (eG.mpr {rfl,rfl,(jY x9 `a).mpr ⟨rfl,rfl⟩})) (by rw[<- QG,<- QG,Qq,Qt,Qt,Q7,Q1];omega))) ?_
   simp only[List.set];refine fu.mpr (aX.mpr (S k9 (p9.mono `a) g9 (by rw[Qt,RV];omega) (λs hs=>?_) (nr.put o1) ?_ (.inr rfl)))
   ·rcases Q2.mp hs with z|z
    ·exact gs s z
    ·rw[QN.mp z];refine{Int.natCast_nonneg _,Int.natCast_nonneg _,?_};show(r0.map _).length<=2;rw[Qq];exact o2
   ·unfold c4;rw[Qt,Qt,Q7,Q1];omega
  ·exact S k07 (p7.mono `a) g7 `a gs nr `a Y
 ·rintro Z M4 ⟨L,j,ss,y7,y8,y9,H,I,J,E,F,rfl,k4,p4,g4,ls,gs,nr,lr,nz,Y⟩;rw[Qq,RF] at ls p4;exact aX.mpr (cm (a7.mpr {_,rfl,q,ss,rfl,l3,g4,qr.is {`a,gs},p4.mono `a,k4}))
 ·rintro d M4 ⟨rfl,k4,p4,ss,g4,go⟩;exact⟨q,ss,rfl,l3,g4,go.is,p4,k4⟩
end
noncomputable def mQ:List aW:=[.turn 0 [1,2,3,0] 1,.turn 0 [2,3,0,1] 3]
def CV (k:Nat)(x:D):(List.replicate k [x]).flatten=List.replicate k x:=by
 induction k with
 |zero=>rfl
 |succ k h=>rw[RS,Sv,h,RS];rfl
section
variable{P:Nat->Option Df}{M:Mem}{p B:Nat}
def G4 {a b:GE}{Z:Env}{x k:Nat}(h:a Z M=.ok (.lst [nD x]) M)(j:b Z M=.ok (nD k) M)(hk:k<=100):ag true .mul a b Z M=.ok (.cell M.length) (M++[(List.replicate k x).map nD]):=by
 refine(cu h j).trans ?_;show(if 1*((k:Int)).toNat<=sz/\-(2^63)<=(k:Int)/\(k:Int)<2^63 then aS true (List.replicate ((k:Int)).toNat [nD x]).flatten M else .bad)=_;rw[if_pos {ay `a,`a,`a},RU,CV,List.map_replicate]
 unfold aS;rw[if_pos (ay (by rw[Sm];omega))];rfl
end
def AJ {m:aH}(L:List bP)(z:L.length<=255)(h:∀q b,jy m q b->b∈L):¬ eM m none:=by
 rintro⟨p,l,nd,hl,j⟩;have:=len_sub (l':=L) nd λx u=>by
  obtain⟨y,v,rfl⟩:=QK.mp u;exact h _ _ (hl y v).1.1
 rw[Qq] at this;omega
noncomputable def allB:Nat->List bP
 |0=>[[]]
 |k+1=>(allB k).flatMap λb=>[[0]::b,[1]::b,[2]::b]
theorem uz:∀{k:Nat}{b:bP},b.length=k->(∀s∈b,∃x,x<3/\s=[x])->b∈allB k
 |0,[],_,_=>QN.mpr rfl
 | k+1,s::b,hl,h=>by
   have v:=uz (k:=k) (b:=b) (Nat.succ.inj hl) λt j=>h t (QF _ j);obtain⟨x,u,rfl⟩:=h s QM;refine List.mem_flatMap.mpr {b,v,?_}
   match x,u with
   |0,_=>exact QM
   |1,_=>exact QF _ QM
   |2,_=>exact QF _ (QF _ QM)
def Hg {m:aH}(hm:aK m)(j:m.words<=3)(u:m.places=1):¬ eM m none:=by
 have w2:=hm.w2;have v:(bp m).length=m.words:=by
  have j:m.words=2\/m.words=3:=`a
  unfold bp;rw[u];rcases j with e|e<;>rw[e]<;>rfl
 refine AJ (allB m.words) ?_ λq b h=>?_
 ·have j:m.words=2\/m.words=3:=`a
  rcases j with e|e<;>rw[e]<;>decide
 ·obtain⟨y,z⟩:=t5 hm h;refine uz (y.trans v) λs hs=>?_;obtain⟨h1,h2⟩:=z s hs;rw[u] at h1
  match s,h1 with
  |[x],_=>exact{x,QO (h2 x QM) j,rfl}
def xA:List bP:=[[[0],[1],[2],[3]],[[1],[2],[3],[0]],[[2],[3],[0],[1]],[[3],[0],[1],[2]]]
def uU {m:aH}(j:bp m∈xA)(h:∀b∈xA,∀i<m.deeds.length,bw m i b∈xA):¬ eM m none:=by
 refine AJ xA `d λq b hr=>?_
 induction hr with
 |start=>exact j
 |step _ u v=>exact h _ v _ u
section
variable{P:Nat->Option Df}{M:Mem}{p B:Nat}{m:aH}
def BN (h:HasP P)(h160:P 160=some {2,3,fz})(n:Nat)(E:t<4)(z:az M p B)(y:B<=700000):ae (ah P (n+6) 160 [.cell p,nD t] M) λd M'=>∃m:aH,d=m.d/\aK m/\m.words<=3/\az M' p (B+300)/\aM p M M':=by
 refine aE h160 rfl ?_;have j:∃a b c:Nat,aw (aL false #[aU #[gI 3,gI 1,gI 6],aU #[gI 2,gI 2,gI 3],aU #[gI 3,gI 1,gI 4],aU #[gI 2,gI 2,gI 2],aU #[gI 4,gI 1,gI 2]]) (ag false .mod (aa 1) (gI 5)) [some (.cell p),some (nD t),none] M=.ok (.tup [nD a,nD b,nD c]) M/\2<=a/\a<=3/\1<=b/\b<=2/\1<=c/\c<=6:=by
  match t,E with
  |0,_=>exact{3,1,6,rfl,`d}
  |1,_=>exact{2,2,3,rfl,`d}
  |2,_=>exact{3,1,4,rfl,`d}
  |3,_=>exact{2,2,2,rfl,`d}
 obtain⟨a,b,c,e,a2,a4,b1,b2,u,v⟩:=j;refine bq (bK e) ?_;rw[aD,eX,bh (af rfl (af (b7 rfl rfl rfl) (af (b7 rfl rfl rfl) (af (b7 rfl rfl rfl) rfl))))];refine aT (xr h n z y a2 `a b1 b2 u v) ?_
 rintro d M' ⟨m,rfl,hm,F,_,_,q,k⟩;exact{m,rfl,hm,`a,q,k}
def BY (E:HasP0 P)(h210:P 210=some {1,6,dI})(n:Nat)(X:az M p B)(hB:B<=700000):ae (ah P (n+3) 210 [.cell p] M) λd M'=>∃(m:aH) (q:Nat) (r:List Nat),d=.tup [m.d,.cell q]/\aK m/\M'[q]?=some (r.map nD)/\fD m r/\r.length<=12/\¬ eM m none/\az M' p (B+10)/\aM p M M':=by
 refine aE h210 rfl ?_;show ae (dI (ah P (n+2)) [some (.cell p),none,none,none,none,none] M) _;unfold dI;refine bq (bK (x:=.lst (mQ.map aW.d)) rfl) ?_;refine eB E n (many:=2) rfl rfl X `a `d `d λj M1 ha p1 k1=>?_
 refine tU (c:=7) (many:=6) (n:=n) E rfl rfl p1 `a `d `d λv y hv p2 k2=>?_
 simp only[List.set];have e1:aL false #[ag false .sub (gI 1) (aa 2)] [some (.cell p),some (.lst (mQ.map aW.d)),some (nD j),some (nD (7+v)),none,none] y=.ok (.lst [nD (1-j)]) y:=cY (af ((cu rfl rfl).trans (by
  show Res.ok (D.int ((1:Int)-(j:Int))) y=_;rw[show(1:Int)-(j:Int)=((1-j:Nat):Int) by omega])) rfl) (by show 1<=100;decide)
 rw[aD,eJ (G4 e1 rfl `a),bE,aX]
 simp only[List.set];have p3:az (y++[(List.replicate (7+v) (1-j)).map nD]) p (B+1+1):=p2.app;have Y:aM p M (y++[(List.replicate (7+v) (1-j)).map nD]):=(k1.trans k2).trans .app;have er:(y++[(List.replicate (7+v) (1-j)).map nD])[y.length]?=some ((List.replicate (7+v) (1-j)).map nD):=`s
 have pl:=X.lt;have ll:M.length<=y.length:=(k1.trans k2).len;generalize y++[(List.replicate (7+v) (1-j)).map nD]=M3 at p3 Y er ⊢;generalize y.length=q at er ll ⊢;have J:∀M' F (r:List Nat),M'[q]?=some (r.map nD)->r.length=7+v->(∀i∈r,i<2)->az M' p (B+10)->aM p M M'->ae (#v[aA (aU #[aU #[gI 4,gI 1,aB .tuple #[ag false .add (aY false true false (aa 1) (aa 2) gN) (aY false false true (aa 1) gN (aa 2))]],aa 4])] [some (.cell p),some (.lst (mQ.map aW.d)),some (nD j),some (nD (7+v)),some (.cell q),F] M') (mM λd M'=>∃(m:aH) (q:Nat) (r:List Nat),d=.tup [m.d,.cell q]/\aK m/\M'[q]?=some (r.map nD)/\fD m r/\r.length<=12/\¬ eM m none/\az M' p (B+10)/\aM p M M'):=λM' F r e1 e2 e3 e4 I=>by
  have O:∃ds:List aW,aB .tuple #[ag false .add (aY false true false (aa 1) (aa 2) gN) (aY false false true (aa 1) gN (aa 2))] [some (.cell p),some (.lst (mQ.map aW.d)),some (nD j),some (nD (7+v)),some (.cell q),F] M'=.ok (.tup (ds.map aW.d)) M'/\ds.length=2/\(∀d∈ds,bO 4 1 d)/\¬ eM {4,1,ds} none:=by
   match j,ha with
   |0,_=>exact{[.turn 0 [1,2,3,0] 1,.turn 0 [2,3,0,1] 3],rfl,rfl,by simp[bO,gZ,fP],uU `d `d}
   |1,_=>exact{[.turn 0 [2,3,0,1] 3,.turn 0 [1,2,3,0] 1],rfl,rfl,by simp[bO,gZ,fP],uU `d `d}
  obtain⟨ds,ed,l2,ok,fw⟩:=O;refine bH (ma (bF (ma (bF rfl (bF rfl (bF ed rfl))) (Qv rfl)) (bF rfl rfl)) (Qv rfl)) ?_;exact{{4,1,ds},q,r,rfl,{Qv rfl,Qv rfl,Qv rfl,Qv rfl,by show 1<=ds.length;omega,by show ds.length<=6;omega,ok},e1,{`a,λi H=>by show i<ds.length;have:=e3 i H;omega},`a,fw,e4,I}
 rw[aD,dR,eV];refine aT (dW E n (many:=3) rfl rfl p3 `a `d `d) ?_
 rintro _ M4 ⟨u,rfl,hu,p4,k4⟩;refine{_,rfl,`a,?_}
 refine dA (ds:=(List.range (u:Int).toNat).map λ(k:Nat)=>D.int (k:Int)) (λi S M'=>i<=2/\az M' p (B+3+i)/\aM p M M'/\∃(F:Option D) (r:List Nat),M'[q]?=some (r.map nD)/\r.length=7+v/\(∀i∈r,i<2)/\S=[some (.cell p),some (.lst (mQ.map aW.d)),some (nD j),some (nD (7+v)),some (.cell q),F]) (λ_ _ _ _=>rfl) {`a,p4.mono `a,Y.trans k4,none,_,k4.get er `a,Sm ..,λi H=>by rw[(List.mem_replicate.mp H).2];omega,rfl} ?_ ?_
 ·rintro i d S U hd ⟨H,R,L,F,r,I,Q,r2,rfl⟩;obtain⟨hi2,rfl⟩:=ke hd;refine{_,rfl,?_};rw[aD,ka];refine a7.mpr {_,rfl,a7.mpr {_,rfl,aT (dW E n (many:=7+v) rfl rfl R `a `a `a) ?_}}
  rintro _ M6 ⟨z,rfl,hz,p6,k6⟩;have W:=k6.get I `a
  refine{_,_,_,z,rfl,rfl,W,dg (by rw[Qq];omega),aX.mpr (fu.mpr {_,rfl,`a,(p6.setq `a).mono `a,(L.trans k6).setq `a,_,r.set z j,?_,by rw[List.length_set];exact Q,λi H=>?_,rfl})}
  ·rw[QR (Qr.mp W).1,List.map_set]
  ·rcases List.mem_or_eq_of_mem_set H with h|h
   ·exact r2 i h
   ·omega
 ·rintro S U ⟨H,R,L,F,r,I,Q,r2,rfl⟩;exact aX.mpr (J U F r I Q r2 (R.mono `a) L)
end
structure HasC0 (P:Nat->Option Df):Prop where
 change:P 138=some {3,7,sI}
 do_:P 139=some {2,2,A7}
structure HasC (P:Nat->Option Df):Prop extends HasC0 P where
 price:P 89=some {2,2,dr}
 parted:P 140=some {3,6,l6}
structure HasE0 (P:Nat->Option Df):Prop extends HasC0 P where
 orders:P 141=some {0,0,sH}
structure P4 (P:Nat->Option Df):Prop extends HasE0 P where
 price:P 89=some {2,2,dr}
 parted:P 140=some {3,6,l6}
 right:P 142=some {4,6,qj}
instance coeHasE0 {P:Nat->Option Df}:Coe (HasE0 P) (HasC0 P):=⟨HasE0.toHasC0⟩
instance coeHasE {P:Nat->Option Df}:Coe (P4 P) (HasC P):={λh=>⟨h.toHasC0,h.price,h.parted⟩}
section
variable{P:Nat->Option Df}{M:Mem}{m:aH}{k e:Nat}{r:List Nat}{hs:List (List Nat)}
def FT (h1:a Z M=.ok x M1)(h2:b Z M1=.ok y M2)(h3:f x y M2=some d):kJ f a b Z M=.ok d M2:=by
 unfold kJ;rw[h1];dsimp only;rw[h2];show bV M2 (f x y M2)=_;rw[h3];rfl
end
structure lV (P:Nat->Option Df):Prop where
 m:HasM P
 b:HasB P
 s:Fc P
 n:qp P
 p:HasP P
 h15:P 15=some {1,6,cw}
 h35:P 35=some {3,6,gX}
 h44:P 44=some {2,5,fy}
 h46:P 46=some {2,2,iu}
 h47:P 47=some {2,2,eA}
 h89:P 89=some {2,2,dr}
 h151:P 151=some {1,2,dQ}
 h152:P 152=some {2,2,dY}
 h160:P 160=some {2,3,fz}
 h165:P 165=some {3,11,gW}
 h166:P 166=some {2,6,jr}
 h171:P 171=some {2,2,fv}
 h196:P 196=some {3,3,cP}
 h197:P 197=some {4,11,c7}
 h198:P 198=some {4,10,f9}
 h199:P 199=some {3,10,js}
 h200:P 200=some {2,2,dm}
 h208:P 208=some {4,9,dj}
 h209:P 209=some {4,6,fL}
 h210:P 210=some {1,6,dI}
 h211:P 211=some {4,8,gj}
 h212:P 212=some {1,3,eI}
 h213:P 213=some {4,15,dt}
 h214:P 214=some {2,5,dD}
 h215:P 215=some {4,13,dJ}
 h216:P 216=some {1,15,n9}
def zT (n:Nat)(c:List Int):(c.map D.int).all (ax n)=true:=by
 rw[QV];intro x h;obtain⟨i,_,rfl⟩:=QK.mp h;cases n<;>rfl
def qB (ss:List IS):ax 64 (.lst (ss.map iD))=true:=by
 show(ss.map iD).all (ax 63)=true;rw[QV];intro x h;obtain⟨s,_,rfl⟩:=QK.mp h;show(true&&(true&&((s.2.2.map D.int).all (ax 61)&&true)))=true;rw[zT];rfl
noncomputable def vj:∀c:List Int,cM (c.map D.int) (c.map D.int)=true
 |[]=>rfl
 | x::c=>by
   show((x==x)&&cM (c.map D.int) (c.map D.int))=true;rw[vj c,beq_self_eq_true];rfl
noncomputable def A5:∀ss:List IS,cM (ss.map iD) (ss.map iD)=true
 |[]=>rfl
 | s::ss=>by
   show(((s.1==s.1)&&((s.2.1==s.2.1)&&(cM (s.2.2.map D.int) (s.2.2.map D.int)&&true)))&&cM (ss.map iD) (ss.map iD))=true;rw[A5 ss,vj,beq_self_eq_true,beq_self_eq_true];rfl
section
variable{P:Nat->Option Df}{M:Mem}{m:aH}{w p k B b:Nat}{r:List Nat}{ss:List IS}
def jw.vw (h:jw M y ss):view M y=.lst (ss.map iD):=by
 rcases h with rfl|⟨q,rfl,e⟩
 ·rfl
 ·show(match M[q]? with|some j=>D.lst j|none=>.cell q)=_
  rw[e]
def MG (h:jw M y ss):bx .ne (.lst (ss.map iD)) y M=some false:=by
 refine iY (v:=true) (qB _) ?_ ?_
 ·rw[h.vw];exact qB _
 ·rw[h.vw];exact A5 ss
def GX (h:jw M y ss):bx .ne y (.lst []) M=some (!decide (ss=[])):=by
 refine iY (v:=decide (ss=[])) ?_ rfl ?_
 ·rw[h.vw];exact qB _
 ·rw[h.vw];cases ss<;>rfl
def ft (M:Mem)(p k b:Nat)(y:D):Prop:=∃ss,d5 b ss/\(y=.lst (ss.map iD)\/∃q,y=.cell q/\q≠p/\q≠k/\M[q]?=some (ss.map iD))
def ft.keep (h:ft M p k b y)(s:aM p M M'):ft M' p k b y:=by
 obtain⟨ss,i,h⟩:=h;exact{ss,i,h.imp id (by rintro⟨q,e,n,n2,g⟩;exact{q,e,n,n2,s.get g n})}
def ft.set (h:ft M p k b y):ft (M.set k ds) p k b y:=by
 obtain⟨ss,i,h⟩:=h;exact{ss,i,h.imp id (by rintro⟨q,e,n,n2,g⟩;exact{q,e,n,n2,by rw[QJ (RR n2)];exact g})}
def d5.mono (h:d5 b ss)(j:b<=b'):d5 b' ss:={by have:=h.len;omega,λs hs=>by have:=h.row s hs;omega,QC h.few j}
def ft.mono (h:ft M p k b y)(j:b<=b'):ft M p k b' y:=by
 obtain⟨ss,i,h⟩:=h;exact{ss,i.mono j,h}
def ft.sl (h:ft M p k b y):∃ss,d5 b ss/\nj p M y ss:=by
 obtain⟨ss,i,h⟩:=h;exact{ss,i,h.imp id (by rintro⟨q,e,n,_,g⟩;exact⟨q,e,n,g⟩)}
def JX {a:GT}{Z:Env}{M M':Mem}{v:Bool}(h:a Z M=.ok v M'):bM a Z M=.ok (!v) M':=by
 unfold bM;rw[h];rfl
def IF {a:GE}{Z:Env}{M M':Mem}{v:Bool}(h:a Z M=.ok (.bl v) M'):ak a Z M=.ok v M':=by
 unfold ak;rw[h];rfl
def NG {f:Nat}{c:Call}{s:GA}{Z:Env}{M M':Mem}{xs:List D}(e:s Z M=.ok xs M'):ai f c s Z M=c f xs M':=by
 unfold ai;rw[e];rfl
def Dh {x0 x2 x3 x6 x7 x8 x9 x14:Option D}{x5 x10:D}{U:Fl->Mem->Prop}(h:lV P)(hm:aK m)(I:l7 p M x5 r)(hr:fD m r)(hl:r.length<=12)(R:nj p M x10 ss)(O:∀s∈ss,s.2.2.length<=60)(h1:1<=w)(X:w<=6)(L:az M p B)
 (kk:∀M' y,aM p M M'->az M' p B->U (.next [x0,some (.cell p),x2,x3,some m.d,some x5,x6,x7,x8,x9,some x10,some (.lst (ss.map iD)),some (aV r),some (nD w),y]) M') :
 ae (yv (ah P 39) [x0,some (.cell p),x2,x3,some m.d,some x5,x6,x7,x8,x9,some x10,some (.lst (ss.map iD)),some (aV r),some (nD w),x14] M) U:=by
 unfold yv;have z:=BS (ss:=ss) (x:=aV r) (M:=M) h.m h.h196 h.h209 27 hm (λI hn hl hs=>BZ h.m h.h15 h.h46 h.h47 h.h200 h.h208 27 hm I hn hl _ (O _ hs)) .l hr hl h1 X;refine lT (k:=λd M'=>Sub M M'/\((d=.non/\jg m w r ss=none)\/∃t q,d=.cell q/\M.length<=q/\M'[q]?=some (t.map nD)/\t.length<=40/\jg m w r ss=some t)) ?_ ?_
 ·rw[dG (af rfl (af rfl (af rfl (af rfl rfl))))];exact pL z
 clear z;intro d W hd;simp only[List.set];have s1:=hd.1;have x1:=(I.keep s1.keep).at';have y1:=(R.keep s1.keep).at';obtain⟨v,F,e2,s2,Q⟩:=eT.mp (BU (x:=x5) (M:=W) (w:=w) h.b h.n h.h44 h.h89 h.h171 h.h211 35 hm x1 hr hl y1 O);have J:ah P 39 40 [d,v] F=.ok (.bl true) F:=by
  rcases hd.2 with⟨rfl,H⟩|⟨t,q,rfl,_,e1,lt,H⟩
  ·rcases Q with⟨rfl,_⟩|⟨t,_,_,E⟩
   ·refine aj (aE h.s.same rfl ?_);show ae (gg (ah P 38) [some .non,some .non] F) _;exact mF rfl (bH rfl ⟨rfl,rfl⟩)
   ·rw[H] at E;cases E
  ·rcases Q with⟨rfl,E⟩|⟨u,hu,lu,E⟩
   ·rw[H] at E;cases E
   ·rw[H] at E;cases E;exact zw h.s 37 (.c (s2.get e1)) hu `a
 refine nQ (b:=false) (JX (v:=true) (IF ((NG (bF rfl (bF ((bh (af rfl (af rfl (af rfl (af rfl rfl))))).trans e2) rfl))).trans J))) (λz=>nomatch z) λ_=>?_;have ne:∀{M' y},aM p M M'->eQ (ak (av .ne (aa 11) (aa 10))) (ak (av .ne (aa 12) (aa 5))) [x0,some (.cell p),x2,x3,some m.d,some x5,x6,x7,x8,x9,some x10,some (.lst (ss.map iD)),some (aV r),some (nD w),y] M'=.ok false M':=λ{M' y} k=>by
  refine My (bR (f6 rfl rfl (MG (R.keep k).at'))) (bR (f6 rfl rfl ?_));rw[wY (x:=aV r) .l (I.keep k).at',decide_eq_true rfl];rfl
 have j:=s1.trans s2;refine b6 (ne j.keep) ?_;rcases hd.2 with⟨rfl,_⟩|⟨t,q,rfl,Y,e1,lt,_⟩
 ·exact b6 rfl (b6 (ne j.keep) (kk F _ j.keep (j.pen L)))
 ·refine mF rfl (m9 rfl rfl (s2.get e1) (RM (by rw[Qq];exact lt) `d) ?_)
  have pl:=L.lt;have S:=j.keep (p:=p)|>.setq (q:=q) (ds:=t.map nD++[D.int 9]) Y;exact fu.mpr (aX.mpr (b6 (ne S) (kk _ _ S ((j.pen L).setq `a))))
def Cy {x0 x2 x6 x7 x8 x9 x11 x12 x13 x14:Option D}{x5 x10:D}{S:Fl->Mem->Prop}(h:lV P)(hm:aK m)(R:l7 p M x5 r)(hr:fD m r)(hl:r.length<=12)(H:nj p M x10 ss)(is:d5 6 ss)(h1:1<=w)(O:w<=6)(Y:az M p B)(hB:B<=700000)
 (kk:∀M' I J v y,aM p M M'->az M' p (B+1)->S (.next [x0,some (.cell p),x2,some (nD w),some m.d,some x5,x6,x7,x8,x9,some x10,I,J,v,y]) M') :
 ae (xR (ah P 39) [x0,some (.cell p),x2,some (nD w),some m.d,some x5,x6,x7,x8,x9,some x10,x11,x12,x13,x14] M) S:=by
 unfold xR;have sl:=is.len;have Q:∀s∈ss,s.2.2.length<=60:=λs hs=>QC (is.row s hs) `d
 have E:bG false 3 (.tup [0,1,2]) (b8 (aa 10)) (bI (aU (bz (aa 0) (bz (aa 1) (bz (aB (.list false) (bz (aa 2) bj)) bj))))) [x0,some (.cell p),x2,some (nD w),some m.d,some x5,x6,x7,x8,x9,some x10,x11,x12,x13,x14] M=.ok (.lst (ss.map iD)) M:=by
  refine aj ?_;rw[fb,fA];refine a7.mpr {_,rfl,H.at'.seq.1,?_};refine dN (ds:=ss.map iD) (λd=>d) (ay (by rw[Qq];omega)) H.at'.seq.2 (λd hd=>?_) (bX.mpr {ay (by rw[Qq,Qq];omega),by rw[List.map_id'],rfl})
  obtain⟨s,hs,rfl⟩:=QK.mp hd;have X:di (.list false) [.lst (s.2.2.map D.int)] M=.ok (.lst (s.2.2.map D.int)) M:=ip (by rw[Qq];have:=Q s hs;omega)
  exact{_,rfl,j9 (af rfl (af rfl (af ((ir (af rfl rfl)).trans X) rfl))) (Qv rfl)}
 refine bq (bK E) (bq (bK (oQ R.at' `a rfl)) ?_)
 simp only[List.set];clear E;rw[aD,dR,fA];obtain⟨u,U,e1,hu,p1,k1⟩:=AL (c:=1) (n:=37) (many:=w) (j:=1) (g:=aa 3) (Z:=[x0,some (.cell p),x2,some (nD w),some m.d,some x5,x6,x7,x8,x9,some x10,some (.lst (ss.map iD)),some (aV r),x13,x14]) h.p.toHasP0 rfl rfl Y `a `a `a
 have W:aL false (bz (aa 3) (bz (ag false .add (gC (.int 1)) (ai 31 (ah P 39) (bz (aa 1) (bz (aa 3) bj)))) (bz (aa 3) bj))) [x0,some (.cell p),x2,some (nD w),some m.d,some x5,x6,x7,x8,x9,some x10,some (.lst (ss.map iD)),some (aV r),x13,x14] M=.ok (.lst [nD w,nD (1+u),nD w]) U:=wA (bF rfl (bF e1 (bF rfl rfl))) (Qv rfl);rw[W,bE];refine{rfl,?_};refine dA (ds:=[nD w,nD (1+u),nD w]) (λi Z M'=>aM p M M'/\az M' p (B+1)/\∃v y,Z=[x0,some (.cell p),x2,some (nD w),some m.d,some x5,x6,x7,x8,x9,some x10,some (.lst (ss.map iD)),some (aV r),v,y]) (λ_ _ _ _=>rfl) {k1,p1,_,_,rfl} ?_ ?_
 ·rintro i d Z L hd ⟨k2,p2,v,y,rfl⟩;obtain⟨F,rfl,o1,o2⟩:∃F,d=nD F/\1<=F/\F<=6:=by
   have hd:=QT hd;simp only[Q9,List.not_mem_nil,or_false] at hd;rcases hd with rfl|rfl|rfl
   ·exact⟨w,rfl,h1,O⟩
   ·exact{1+u,rfl,`a,`a}
   ·exact⟨w,rfl,h1,O⟩
  exact{_,rfl,Dh h hm (R.keep k2) hr hl (H.keep k2) Q o1 o2 p2 λM3 z k3 p3=>{_,rfl,k2.trans k3,p3,_,_,rfl}}
 ·rintro Z L ⟨k2,p2,v,y,rfl⟩;exact aX.mpr (fu.mpr (kk L _ _ _ _ k2 p2))
def Dg {x0 x2 x9 x10 x11 x12 x13 x14:Option D}{x5 x6:D}{i:Nat}{xs:List D}{U:Fl->Mem->Prop}(h:lV P)(hm:aK m)(hx:l7 p M x5 r)(hl:r.length<=12)(hi:i<6)(hk:M[k]?=some xs)(kp:k≠p)(pk:p<k)(E:∀y∈xs,ft M p k i y)(I:x6∈xs)(lx:xs.length<=3+i)(S:az M p B)(Y:B<=700000)
 (kk:∀M' u z9,M'[k]?=some u->(∀y∈u,ft M' p k (i+1) y)->x6∈u->u.length<=3+(i+1)->az M' p (B+6)->(∀M0,M0.length<=k->aM p M0 M->aM p M0 M')->U (.next [x0,some (.cell p),x2,some (nD w),some m.d,some x5,some x6,some (.cell k),some (nD i),z9,x10,x11,x12,x13,x14]) M') :
 ae (yu (ah P 39) [x0,some (.cell p),x2,some (nD w),some m.d,some x5,some x6,some (.cell k),some (nD i),x9,x10,x11,x12,x13,x14] M) U:=by
 unfold yu;have l0:0<xs.length:=List.length_pos_of_mem I;have lk:aB .len (bz (aa 7) bj) [x0,some (.cell p),x2,some (nD w),some m.d,some x5,some x6,some (.cell k),some (nD i),x9,x10,x11,x12,x13,x14] M=.ok (nD xs.length) M:=(ir (af rfl rfl)).trans (uD (x:=.cell k) hk);obtain⟨y,hy,R⟩:∃y∈xs,fY (ak (av .lt (aa 8) (gC (.int 4)))) (aw (aa 7) (aw (aL false (bz (gC (.int 0)) (bz (ag false .sub (aB .len (bz (aa 7) bj)) (gC (.int 1))) bj))) (ag false .mod (aa 8) (gC (.int 2))))) (aa 6) [x0,some (.cell p),x2,some (nD w),some m.d,some x5,some x6,some (.cell k),some (nD i),x9,x10,x11,x12,x13,x14] M=.ok y M:=by
  by_cases h4:i<4
  ·have e1:ag false .sub (aB .len (bz (aa 7) bj)) (gC (.int 1)) [x0,some (.cell p),x2,some (nD w),some m.d,some x5,some x6,some (.cell k),some (nD i),x9,x10,x11,x12,x13,x14] M=.ok (nD (xs.length-1)) M:=(cu lk rfl).trans (by
    show Res.ok (D.int ((xs.length:Int)-1)) M=_;rw[show(xs.length:Int)-1=((xs.length-1:Nat):Int) by omega])
   have e2:ag false .mod (aa 8) (gC (.int 2)) [x0,some (.cell p),x2,some (nD w),some m.d,some x5,some x6,some (.cell k),some (nD i),x9,x10,x11,x12,x13,x14] M=.ok (nD (i % 2)) M:=je (x:=(i:Int)) (y:=2) rfl rfl `d
   obtain⟨j,hj,X⟩:∃j,j<xs.length/\[nD 0,nD (xs.length-1)][i % 2]?=some (nD j):=by
    rcases Nat.mod_two_eq_zero_or_one i with z|z<;>rw[z]
    ·exact{0,l0,rfl}
    ·exact{xs.length-1,`a,rfl}
   have W:aw (aL false (bz (gC (.int 0)) (bz (ag false .sub (aB .len (bz (aa 7) bj)) (gC (.int 1))) bj))) (ag false .mod (aa 8) (gC (.int 2))) [x0,some (.cell p),x2,some (nD w),some m.d,some x5,some x6,some (.cell k),some (nD i),x9,x10,x11,x12,x13,x14] M=.ok (nD j) M:=b7 (cY (af rfl (af e1 rfl)) (Qv rfl)) e2 (mG (x:=.lst [nD 0,nD (xs.length-1)]) rfl X);refine{xs[j],SA _,gB (k:=true) ((pO (v:=i) (c:=4) rfl).trans (by rw[decide_eq_true h4])) (λ_=>b7 rfl W (mG (x:=.cell k) hk (QL hj))) (λz=>nomatch z)}
  ·exact{x6,I,gB (k:=false) ((pO (v:=i) (c:=4) rfl).trans (by rw[decide_eq_false h4])) (λz=>nomatch z) (λ_=>rfl)}
 refine bq (bK R) ?_;simp only[List.set];clear R lk;obtain⟨ss,is,F⟩:=(E y hy).sl;refine bu (bR (mS rfl (cY rfl (RG _)) (GX F.at'))) (λz=>?_) (λz=>?_)
 ·have ne:=of_decide_eq_false (wo z);rw[aD,zN];refine a7.mpr {_,rfl,we (af rfl (af rfl (af rfl (af rfl rfl)))) (aT (B1 h.p.toHasP0 h.h214 h.h215 36 hm hx hl F ne is `a S Y) ?_)}
  rintro _ M1 ⟨H,rfl,L,p1,k1⟩;have Q:=k1.get hk kp;refine{k,xs,rfl,Q,RM (by omega:_<=100) `d,aX.mpr (fu.mpr (aX.mpr (fu.mpr (kk _ (xs++[.lst (H.map iD)]) _ (QR (jH Q)) (λa J=>?_) (RE _ I) (by rw[Qt,RV];omega) (p1.setq pk) λM0 l0 O=>(O.trans k1).setq l0))))}
  rcases Q2.mp J with z|z
  ·exact(((E a z).keep k1).mono (S2 _)).set
  ·rw[QN.mp z];exact{H,L,.inl rfl}
 ·exact fu.mpr (kk M xs _ hk (λa J=>(E a J).mono (S2 _)) I `a (S.mono `a) λM0 _ O=>O)
def vq {x0 x2 x8 x9 x10 x11 x12 x13 x14:Option D}{x5 x6:D}{xs:List D}{M0:Mem}{X:Fl->Mem->Prop}(h:lV P)(hm:aK m)(W:l7 p M0 x5 r)(k0:aM p M0 M)(m0:M0.length<=k)(hr:fD m r)(hl:r.length<=12)(h1:1<=w)(Y:w<=6)(hk:M[k]?=some xs)(kp:k≠p)(pk:p<k)(j:∀y∈xs,ft M p k 0 y)(H:x6∈xs)(lx:xs.length<=3)(hp:az M p B)(hB:B<=600000)
 (kk:∀M' L I F u v z E,az M' p (B+100)->X (.next [x0,some (.cell p),x2,some (nD w),some m.d,some x5,some x6,some (.cell k),L,I,F,u,v,z,E]) M') :
 ae (yA (ah P 39) [x0,some (.cell p),x2,some (nD w),some m.d,some x5,some x6,some (.cell k),x8,x9,x10,x11,x12,x13,x14] M) X:=by
 unfold yA;rw[aD,dR,eV,eR];refine{6,rfl,{`d,`d},?_}
 refine dA (ds:=(List.range 6).map λ(k:Nat)=>D.int (k:Int)) (λi J M'=>aM p M0 M'/\az M' p (B+6*i)/\∃xs L I,J=[x0,some (.cell p),x2,some (nD w),some m.d,some x5,some x6,some (.cell k),L,I,x10,x11,x12,x13,x14]/\M'[k]?=some xs/\(∀y∈xs,ft M' p k i y)/\x6∈xs/\xs.length<=3+i) (λ_ _ _ _=>rfl) {k0,hp,xs,_,_,rfl,hk,j,H,lx} ?_ ?_
 ·rintro i d J O hd ⟨k1,p1,xs,L,I,rfl,hk,j,H,lx⟩;obtain⟨U,rfl⟩:=ke hd;exact{_,rfl,Dg h hm (W.keep k1) hl U hk kp pk j H lx p1 `a λQ S I a b c d e f=>{_,rfl,f M0 m0 k1,e.mono `a,S,_,_,rfl,a,b,c,d}}
 ·rintro J O ⟨k1,p1,xs,L,I,rfl,hk,j,H,lx⟩;rw[aX,aD,dR,fA];refine a7.mpr {_,rfl,rfl,?_};have lx:xs.length<=9:=lx;have p1:az O p (B+36):=p1;have j:∀y∈xs,ft O p k 6 y:=j;refine dA (ds:=xs) (λi J M'=>aM p O M'/\az M' p (B+36+i)/\∃F u v z E,J=[x0,some (.cell p),x2,some (nD w),some m.d,some x5,some x6,some (.cell k),L,I,F,u,v,z,E]) (λ_ _ _ e=>e.1.get hk kp) {.refl,p1,_,_,_,_,_,rfl} ?_ ?_
  ·rintro i d J Q hd ⟨k2,p2,F,u,v,z,E,rfl⟩;have U:=(Qr.mp hd).1;obtain⟨ss,is,R⟩:=((j d (QT hd)).keep k2).sl;exact{_,rfl,Cy h hm ((W.keep k1).keep k2) hr hl R is h1 Y p2 `a λM3 u v z E k3 p3=>{_,rfl,k2.trans k3,p3,_,_,_,_,_,rfl}}
  ·rintro J Q ⟨k2,p2,F,u,v,z,E,rfl⟩;exact aX.mpr (fu.mpr (kk Q _ _ _ _ _ _ _ (p2.mono `a)))
def IL (ss:List (Nat×Nat×List Nat)):ss.map fF=(ss.map λs=>(((s.1:Int),(s.2.1:Int),s.2.2.map λk:Nat=>(k:Int)):IS)).map iD:=by
 rw[Rv];exact Sf λs _=>AG.symm
def Kc {t:List Nat}{ss:List (Nat×Nat×List Nat)}(hm:aK m)(hr:fD m r)(hl:r.length<=12)(z:w<=6)(md:eL m w r ss t):d5 0 (ss.map λs=>(((s.1:Int),(s.2.1:Int),s.2.2.map λk:Nat=>(k:Int)):IS)):=by
 obtain⟨_,_,sl⟩:=md.num_le hm hr.2 hl;refine{by rw[Qq];omega,λs hs=>?_,?_}
 ·obtain⟨u,v,rfl⟩:=QK.mp hs;obtain⟨i,e⟩:=List.getElem?_of_mem v;have h:g5 m w (uO r (ss.take i)) u.1 u.2.1 u.2.2:=md.go.2 i u e;obtain⟨y,_,_⟩:=(md.pre i).num_le hm hr.2 hl;have cl:=dX hm u.2.2 h.ok;have j:=gE hm (y.win (p:=u.1) (l:=u.2.1));rw[j7 h.pl] at j;have:=h.lt;have:=h.lw;show(u.2.2.map _).length<=_;rw[Qq];omega
 ·rw[List.countP_eq_zero.mpr]
  ·exact Qy _
  ·intro s hs;obtain⟨u,_,rfl⟩:=QK.mp hs;unfold jq;rw[decide_eq_false (by show ¬ ((u.1:Int)<0);omega),decide_eq_false (by show ¬ ((u.2.1:Int)<0);omega)];decide
def uy {x0 x2 x6 x7 x8 x9 x10 x11 x12 x13 x14:Option D}{x5:D}{kf:Fl->Mem->Prop}(h:lV P)(hm:aK m)(few:m.places=1->¬ eM m none)(hx:l7 p M x5 r)(hr:fD m r)(hl:r.length<=12)(h1:1<=w)(Q:w<=6)(hp:az M p B)(hB:B<=500000)
 (kk:∀M' z6 z7 z8 z9 F H I J L,az M' p (B+150)->kf (.next [x0,some (.cell p),x2,some (nD w),some m.d,some x5,z6,z7,z8,z9,F,H,I,J,L]) M') :
 ae (xO (ah P 39) [x0,some (.cell p),x2,some (nD w),some m.d,some x5,x6,x7,x8,x9,x10,x11,x12,x13,x14] M) kf:=by
 unfold xO;refine cn (h:=we (af rfl (af rfl (af rfl (af rfl rfl)))) (BV h.p.toHasP0 h.b h.h44 h.h89 h.h212 h.h213 36 hm hx hr hl h1 Q hp `a)) ?_
 rintro _ v ⟨q,ss,rfl,hq,eq,is,p1,k1⟩;simp only[List.set];have pl:=hp.lt;have u:=p1.lt;have q1:=jH eq;refine d7 (eJ (lB (af rfl (af (cY rfl (RG _)) rfl)) (Qv rfl))) ?_;simp only[List.set];have e2:(v++[[D.cell q,.lst []]])[v.length]?=some [D.cell q,.lst []]:=i3;have s2:Sub v (v++[[D.cell q,.lst []]]):=.app;generalize v++[[D.cell q,.lst []]]=O at e2 s2 ⊢;generalize hk:v.length=k at e2 u q1 ⊢;have p2:=s2.pen p1;have i0:∀M',Sub O M'->ft M' p k 0 (.cell q):=λM' s=>{ss,is,.inr {q,rfl,`a,`a,(s2.trans s).get eq}}
 have i1:∀M',ft M' p k 0 (.lst []):=λM'=>{[],{RG _,λ_ h=>(nomatch h),RG _},.inl rfl};have E:=hx.keep k1;refine bu (bR (f6 (x:=nD m.places) (b7 rfl rfl rfl) rfl (w:=((m.places:Int)==(1:Nat))) rfl)) (λz=>?_) (λz=>?_)
 ·have fw:=few (by have:=eq_of_beq z;omega)
  have Y:=E.keep s2.keep;have z:=zB (x:=aV r) (M:=O) h.m h.h196 h.h199 27 hm (λM=>zA h.m.toHasM0.toHasB0 h.m.r h.h15 h.h151 h.h152 h.h165 h.h166 27 hm) (λf x nt tl=>BP h.m.toHasM0.toHasB0 h.m.r h.h15 h.h151 h.h152 h.h197 h.h198 27 hm f x nt tl Q) .l hr hl h1 Q;rw[aD];refine w6 (j:=k) rfl ?_;have ec:bB 199 (ah P 39) (bz (aa 4) (bz (aB (.list false) (bz (aa 5) bj)) (bz (aa 3) bj))) [x0,some (.cell p),x2,some (nD w),some m.d,some x5,some (.cell q),some (.cell k),x8,x9,x10,x11,x12,x13,x14] O=ah P 39 199 [m.d,aV r,nD w] O:=dG (af rfl (af (oQ Y.at' `a rfl) (af rfl rfl)))
  cases e:ah P 39 199 [m.d,aV r,nD w] O with
  |bad=>rw[e] at z;exact z.elim
  |err y W=>rw[e] at z;exact(fw z.2.1).elim
  | ok d W=>
    rw[e] at z;obtain⟨⟨j,S,st,t,rfl,hj,hkq,ej,ek,md,_,U⟩,_⟩:=z;rw[FT (ec.trans e) rfl (show bJ (.tup [.cell j,.cell S]) (.int 1) W=some (.cell S) from rfl)];have m2:=jH e2;have k3:=U.get e2;refine{_,k3,QO (by decide:2<100) `d,fu.mpr (aX.mpr ?_)}
    rw[IL] at ek;refine vq (M0:=v) (xs:=[.cell q,.lst [],.cell S]) h hm E ((s2.trans U).keep.setq `a) `a hr hl h1 Q (QR (jH k3)) `a u (λy R=>?_) QM (Qv rfl) ((U.pen p2).setq u) `a λM' z8 z9 F H I J L X=>kk M' _ _ _ _ _ _ _ _ _ (X.mono `a)
    simp only[Q9,List.not_mem_nil,or_false] at R;rcases R with rfl|rfl|rfl
    ·exact(i0 W U).set
    ·exact i1 _
    ·exact ft.set {_,Kc hm hr hl Q md,.inr {S,rfl,`a,`a,ek}}
 ·refine vq (M0:=v) (xs:=[.cell q,.lst []]) h hm E s2.keep `a hr hl h1 Q e2 `a u (λy R=>?_) QM (Qv rfl) p2 `a λM' z8 z9 F H I J L X=>kk M' _ _ _ _ _ _ _ _ _ (X.mono `a)
  simp only[Q9,List.not_mem_nil,or_false] at R;rcases R with rfl|rfl
  ·exact i0 O .refl
  ·exact i1 _
def Jz {k t:Nat}{Z:Env}(h:HasP0 P)(e1:Z[1]?.getD none=some (.cell p))(e2:Z[2]?.getD none=some (nD t))(F:az M p B)(I:B<=500000) :
 ∃b M1,eW (ak (av .eq (aa 2) (gC (.int (k:Nat))))) (ak (av .eq (ai 31 (ah P 39) (bz (aa 1) (bz (gC (.int 3)) bj))) (gC (.int 0)))) Z M=.ok b M1/\az M1 p (B+1)/\aM p M M1:=by
 have u:ae (ai 31 (ah P 39) (bz (aa 1) (bz (gC (.int 3)) bj)) Z M) λd y=>∃v:Nat,d=nD v/\v<3/\az y p (B+1)/\aM p M y:=dW h 37 (many:=3) e1 rfl F `a `d `d
 obtain⟨d,M1,H,v,rfl,J,p1,k1⟩:=eT.mp u;have j:ak (av .eq (aa 2) (gC (.int (k:Nat)))) Z M=.ok ((t:Int)==(k:Int)) M:=bR (f6 (aq e2) rfl rfl);cases E:((t:Int)==(k:Int)) with
 | false=>
   rw[E] at j;exact{false,M,LM (b:=false) j (λz=>nomatch z),F.mono `a,.refl}
 | true=>
   rw[E] at j;refine{(v:Int)==0,M1,?_,p1,k1};unfold eW;rw[j];show ak _ Z M=_;unfold ak av;rw[H];rfl
def NV {a:GE}{Z ρ1:Env}{M M1:Mem}{ds:List D}{l:List Nat}(e:a Z M=.ok (.tup ds) M1)(h:cg l ds Z=some ρ1):ao (.tup l) a Z M=.ok (.next ρ1) M1:=by
 unfold ao;rw[e];show(bV M1 (cg l ds Z)).bind _=_;rw[h];rfl
def zg {x0 x3 x4 x5 x6 x7 x8 x9 x10 x11 x12 x13 x14:Option D}{F:Nat}{X:Fl->Mem->Prop}(h:lV P)(ht:F<4)(hp:az M p B)(hB:B<=300000)
 (kk:∀M' z3 z4 z5 R S U W j u y z E,az M' p (B+600)->X (.next [x0,some (.cell p),some (nD F),z3,z4,z5,R,S,U,W,j,u,y,z,E]) M') :
 ae (tj (ah P 39) [x0,some (.cell p),some (nD F),x3,x4,x5,x6,x7,x8,x9,x10,x11,x12,x13,x14] M) X:=by
 unfold tj;refine tU (c:=1) (many:=6) (n:=37) h.p.toHasP0 rfl rfl hp `a `d `d λv M0 hv p0 k0=>?_
 simp only[List.set];refine cn (k:=λd M'=>∃m:aH,d=m.d/\aK m/\m.words<=3/\az M' p (B+301)) ?_ ?_
 ·rw[AM,b9,bh (xs:=[.cell p]) (af rfl rfl)];refine aT (F7 h.p.toHasP0 38 p0) ?_;rintro _ M1 ⟨rfl,p1,k1⟩;rw[b9];refine a7.mpr {_,rfl,cL.mpr ?_};refine aT (BN h.p h.h160 33 ht p1 `a) ?_
  rintro d M2 ⟨m,e,hm,Q,p2,_⟩;exact{m,e,hm,Q,p2.mono `a}
 rintro _ M1 ⟨m,rfl,hm,Q,p1⟩;simp only[List.set];obtain⟨_,M2,e2,r,rfl,hr,rl,p2,k2⟩:=eT.mp (FV h.p h.h35 36 (mo:=12) hm p1 `a `d)
 refine d7 (eJ ((bh (xs:=[.cell p,m.d,nD 12]) (af rfl (af rfl (af rfl rfl)))).trans e2)) ?_;simp only[List.set];obtain⟨b,M4,e4,Y,k4⟩:=Jz (k:=2) (t:=F) (Z:=[x0,some (.cell p),some (nD F),some (nD (1+v)),some m.d,some (.lst (r.map nD)),x6,x7,x8,x9,x10,x11,x12,x13,x14]) h.p.toHasP0 rfl rfl p2 `a
 refine nQ e4 (λ_=>?_) λ_=>uy (x5:=.lst (r.map nD)) h hm (Hg hm Q) (.inl rfl) hr rl `a `a Y `a λM' R S U W j u y z E q=>kk M' _ _ _ _ _ _ _ _ _ _ _ _ (q.mono `a)
 obtain⟨_,M5,e5,m5,q,r5,rfl,J,eq,L,O,fw,p5,k5⟩:=eT.mp (BY h.p.toHasP0 h.h210 36 Y `a)
 refine d7 (NV (ρ1:=[x0,some (.cell p),some (nD F),some (nD (1+v)),some m5.d,some (.cell q),x6,x7,x8,x9,x10,x11,x12,x13,x14]) ((bh (xs:=[.cell p]) (af rfl rfl)).trans e5) rfl) ?_;refine fu.mpr (aX.mpr (uy h J (λ_=>fw) (.inr {q,rfl,?_,eq}) L O `a `a p5 `a λM' R S U W j u y z E q=>kk M' _ _ _ _ _ _ _ _ _ _ _ _ (q.mono `a)))
 rintro rfl;obtain⟨c,H,a,st,I,_⟩:=p5.ex;rw[eq] at I;cases r5 with
 |nil=>cases Qz I
 |cons a r5=>exact D.noConfusion (List.cons.inj (Qz I)).1
def MM (h:lV P)(ns:List Int)(hn:ns.length<=63):∃M,ah P 40 216 [.frz (ns.map D.int)] []=.ok (.bl true) M:=by
 have F:ae (ah P 40 216 [.frz (ns.map D.int)] []) λd _=>d=.bl true:=by
  refine aE h.h216 rfl ?_;show ae (n9 (ah P 39) [some (.frz (ns.map D.int)),none,none,none,none,none,none,none,none,none,none,none,none,none,none] []) _;unfold n9;refine cn (k:=λd E=>d=.cell 1/\az E 1 0) ?_ ?_
  ·rw[bh (af rfl rfl)];exact FX h.p.toHasP0 38 hn
  rintro _ M1 ⟨rfl,p1⟩;rw[aD,dR,eV,eR];refine{4,rfl,{`d,`d},?_}
  refine dA (ds:=(List.range 4).map λ(k:Nat)=>D.int (k:Int)) (λi U E=>az E 1 (600*i)/\∃H I J L O Q R S j u v y z,U=[some (.frz (ns.map D.int)),some (.cell 1),H,I,J,L,O,Q,R,S,j,u,v,y,z]) (λ_ _ _ _=>rfl) {p1,_,_,_,_,_,_,_,_,_,_,_,_,_,rfl} ?_ ?_
  ·rintro i d U E hd ⟨W,H,I,J,L,O,Q,R,S,j,u,v,y,z,rfl⟩;obtain⟨X,rfl⟩:=ke hd;refine{_,rfl,?_};exact zg h X W `a λM2 z3 z4 z5 z6 z7 z8 z9 Y z11 z12 z13 z14 p2=>{_,rfl,p2.mono `a,_,_,_,_,_,_,_,_,_,_,_,_,_,rfl}
  ·rintro U E ⟨W,H,I,J,L,O,Q,R,S,j,u,v,y,z,rfl⟩;rw[aX];exact bH rfl rfl
 obtain⟨d,M,e,rfl⟩:=eT.mp F;exact⟨M,e⟩
end
end LD
end
set_option maxHeartbeats 0
namespace K41
open PySem PySem.Spec PyProof.Rows L2 LD
noncomputable def top (i:Nat):Stmt:=PySem.Challenge.pw_leastdeeds_k41_which_steps_mend.main.body.getD i (.Pass {0,0,0,0})
noncomputable def q0:Str×Tok:=("leastdeeds.wholes",296)
noncomputable def q1:Str×Tok:=("leastdeeds.machines",307)
noncomputable def q2:Str×Tok:=("leastdeeds.runs",484)
noncomputable def q3:Str×Tok:=("leastdeeds.least",571)
noncomputable def q4:Str×Tok:=("leastdeeds.mending",616)
noncomputable def q5:Str×Tok:=("law_leastdeeds_k41_which_steps_mend",713)
noncomputable def tb:List Ent:=[{0,"is_between",top 8,3,["thing","low","high"],101,q0,ju,false,none,0},
 {1,"is_word",top 16,2,["words","thing"],108,q1,mV,false,none,0},
 {2,"is_place",top 17,2,["places","thing"],115,q1,lS,false,none,0},
 {3,"is_cost",top 18,1,["thing"],122,q1,m7,false,none,0},
 {4,"is_tuple_of",top 19,2,["long","thing"],129,q1,iB,false,none,0},
 {5,"is_table",top 20,2,["words","thing"],134,q1,lR,false,none,0},
 {6,"is_double_table",top 21,2,["words","thing"],139,q1,fZ,false,none,0},
 {7,"is_turn",top 22,3,["words","places","parts","at","table","price"],146,q1,mW,false,none,0},
 {8,"is_join",top 23,3,["words","places","parts","at","other","table","price"],153,q1,mY,false,none,0},
 {9,"is_move",top 24,3,["words","places","parts","at","other","price"],160,q1,mX,false,none,0},
 {10,"is_put",top 25,3,["words","places","parts","at","word","price"],167,q1,pf,false,none,0},
 {11,"is_deed",top 27,3,["words","places","thing","sort","is_sort"],175,q1,mZ,false,none,0},
 {12,"is_machine",top 28,1,["thing","words","places","deeds"],180,q1,jt,false,none,0},
 {13,"need_machine",top 29,1,["thing"],187,q1,hZ,true,none,0},
 {15,"beginnings",top 30,1,["machine","words","places","deeds","starts","place"],192,q1,cw,true,none,0},
 {16,"is_deed_number",top 31,2,["machine","thing"],199,q1,fm,false,none,0},
 {17,"need_numbers",top 32,2,["machine","row","place","thing"],206,q1,hX,true,none,0},
 {18,"need_row",top 33,2,["machine","row"],213,q1,lP,true,none,0},
 {47,"summed_cost",top 34,2,["machine","row"],218,q1,eA,false,none,0},
 {20,"turned",top 36,2,["deed","standing","sort","at","table","price"],225,q2,lN,false,none,0},
 {21,"joined",top 37,2,["deed","standing","sort","at","other","table","price"],232,q2,lQ,false,none,0},
 {22,"moved",top 38,2,["deed","standing","sort","at","other","price"],239,q2,n8,false,none,0},
 {23,"put_in",top 39,2,["deed","standing","sort","at","word","price"],246,q2,lO,false,none,0},
 {24,"done",top 41,2,["deed","standing","new_word","at"],254,q2,qi,false,none,0},
 {25,"all_standing",top 42,3,["machine","row","beginning","standings","number"],261,q2,h9,false,none,0},
 {46,"ends_of",top 43,2,["machine","row"],266,q2,iu,false,none,0},
 {151,"priced_leads",top 46,1,["machine","starts"],271,q3,dQ,true,none,0},
 {152,"led_to",top 47,2,["lead","ends"],276,q3,dY,false,none,0},
 {165,"next_level",top 48,3,["leads","levels","found","price","level","number","step_price","lead","ahead","ends","new_ends"],283,q3,gW,true,none,0},
 {166,"reached",top 49,2,["machine","bound","leads","empty_ends","found","levels"],291,q3,jr,true,none,284},
 {196,"need_mendable",top 53,3,["machine","row","most"],298,q4,cP,true,none,0},
 {197,"cheaper_window",top 54,4,["leads","found","ends","deeds","price","long","number","step_price","lead","least_price","least_row"],305,q4,c7,false,none,0},
 {198,"next_step",top 55,4,["machine","found","row","most","leads","empty_ends","place","window","long","cheaper"],312,q4,f9,true,none,0},
 {199,"mended",top 56,3,["machine","row","most","found","standing","steps","step","place","long","cheaper"],319,q4,js,true,none,0},
 {200,"are_deed_numbers",top 57,2,["machine","thing"],324,q4,dm,false,none,0},
 {208,"behind_window",top 58,4,["machine","row","most","step","place","long","cheaper","beyond","window"],331,q4,dj,false,none,0},
 {209,"made_by",top 59,4,["machine","row","most","steps","standing","step"],338,q4,fL,true,none,0},
 {28,"_law_spread",top 61,2,["cell","at","primes","one","two","three"],345,q5,lZ,false,none,0},
 {29,"_law_open",top 62,1,["script","cells","k","cell"],352,q5,j4,false,none,0},
 {30,"_law_anew",top 63,1,["pen"],359,q5,j5,false,none,0},
 {31,"_law_take",top 64,2,["pen","many","at","cell","found"],366,q5,oy,false,none,0},
 {67,"_law_is_whole",top 65,1,["thing"],373,q5,gY,false,none,0},
 {40,"_law_same",top 66,2,["found","due"],378,q5,gg,false,none,0},
 {32,"_law_tab",top 67,2,["pen","words","kind","word","other","found"],383,q5,iR,false,none,0},
 {33,"_law_deed",top 68,3,["pen","words","places","kind","price","at","other"],388,q5,ie,false,none,0},
 {34,"_law_machine",top 69,4,["pen","words","places","most","deeds","k","again","deed"],395,q5,fT,false,none,0},
 {35,"_law_row",top 70,3,["pen","machine","most","kind","many","found"],400,q5,gX,false,none,0},
 {41,"_law_after",top 71,2,["deed","end","here","own"],407,q5,jv,false,none,0},
 {42,"_law_begins",top 72,1,["machine"],412,q5,iC,false,none,0},
 {44,"_law_ends",top 73,2,["machine","row","found","end","number"],419,q5,fy,false,none,0},
 {89,"_law_price",top 74,2,["machine","row"],424,q5,dr,false,none,0},
 {68,"_law_is_in",top 75,3,["thing","low","high"],431,q5,m8,false,none,0},
 {160,"_law_some_machine",top 76,2,["pen","turn","size"],438,q5,fz,false,none,0},
 {171,"_law_is_row",top 77,2,["machine","row"],443,q5,fv,false,none,0},
 {210,"_law_dear_round",top 78,1,["pen","deeds","at","many","row","k"],450,q5,dI,false,none,0},
 {211,"_law_done",top 79,4,["machine","row","most","steps","place","long","some","window"],457,q5,gj,false,none,0},
 {212,"_law_few_rows",top 80,1,["machine","found","number"],462,q5,eI,false,none,0},
 {213,"_law_drawn_steps",top 81,4,["pen","machine","row","most","some","ends","steps","k","place","long","window","here","price","good","other"],467,q5,dt,false,none,0},
 {214,"_law_standing",top 82,2,["row","steps","place","long","some"],474,q5,dD,false,none,0},
 {215,"_law_bent_steps",top 83,4,["pen","machine","row","steps","kind","odd","number","at","place","long","some","spot","others"],481,q5,dJ,false,none,0},
 {216,"law",top 84,1,["script","pen","turn","most","machine","row","steps","lists","k","base","some","handed","own","bound","found"],486,q5,n9,true,none,0}]
def rs:Rs:={[DL,DR,DQ,NZ,zd,IB,DK,zf,IA,Iq,Io,Iw,Ip,Iu,IC,Im,Ir,yZ,zb,DM,Iv,DN,DV,DU,NY],[Ii,vT],[HZ,yS,DC],[Ih,DF,DG,DD,Ig],[HW,HR,HV,Dx,Dz,yO,Dy,HU,HX,HY,HS,yQ,Bh]}
def Mj:Dp rs:={⟨Bt,Bx,Bw,Iz,zc,FK,Bs,ze,FJ,FD,FA,FI,FC,FG,FL,Fz,FE,yY,y3,Bu,FH,Bv,Bz,By,Iy,trivial⟩,⟨Fw,L9,trivial⟩,⟨Fp,yR,Bj,trivial⟩,⟨Fu,Bq,Br,Bp,Ft,trivial⟩,⟨Fm,Ff,Fi,Bf,Bi,yN,Bg,Fh,Fn,Fo,Fg,yP,Fj,trivial⟩}
noncomputable def te0:List (Str×En):=List.map (λx=>(x,En.bl)) ["all","any","bool","enumerate","int","isinstance","len","list","max","min","range","str","sum","tuple","zip"]
def te1:List (Str×En):=[("LEAST_WORDS",.int 2),("LONGEST_MENDED",.int 12),("LONGEST_ROW",.int 40),("MOST_BEHAVIOURS",.int 255),("MOST_COST",.int 3),("MOST_DEEDS",.int 6),("MOST_PLACES",.int 2),("MOST_WORDS",.int 4),("WIDEST_WINDOW",.int 6),("NEW_WORDS",.dct cK),("SORTS",.dct eO),("NoMachine",.xc 3)]
noncomputable def te2:List (Str×En):=[("TooLong",.xc 4),("NoBound",.xc 7),("TooMany",.xc 8),("DeedError",.de)]
def te:List (Str×En):=te0++te1++te2
def tbl:nh:={(tb.filter (·.q.isNone)).map (λe=>(e.x,if e.i==166 then En.fnD e.i else En.fn e.i e.r))++te,[],[],[("NEW_WORDS",cK),("SORTS",eO)],[],[(125,16,27),(140,12,14),(146,42,67),(154,29,31),(155,13,27),(190,15,24),(191,12,14),(204,15,19),(206,15,19),(210,15,19),(212,15,19),(213,11,47),(216,15,24),(218,19,63),(233,12,29),(236,11,24),(281,12,30),(300,12,14),(316,11,20),(332,12,14),(353,10,25),(369,12,16),(372,21,74),(377,12,14),(409,13,77),(426,16,27)],[(137,18,27),(145,15,36),(146,16,31),(146,42,53),(148,19,29),(154,12,33),(174,33,44)],[],rs,tb}
def Pg:Nat->Option Df:=tbl.Pg
def Ml:∀c,tb.map (tbl.rd c)=tb.map λe=>some (e.b c):=λc=>by kernel_rfl
def tab:yE tbl:={Mj,Ml,by kernel_rfl,by kernel_rfl,λ_ _ _ _ _ _=>by kernel_rfl,λ_ _ _ _ _ _ _=>by kernel_rfl,λ_ _ _ _ _ _ _ _=>by kernel_rfl,λ_ _ _ _ _ _ _ _ _=>by kernel_rfl,λ_ _ _ _ _ _ _ _ _ _=>by kernel_rfl,λ_ _ _ _ _ _ _ _ _ _ _ _=>by kernel_rfl,λ_ _ _ _ _ _ _ _ _ _ _=>by kernel_rfl,by rw[show tbl.tb.filter (λe=>!(e.df==0))=[tb[29]] from by kernel_rfl];exact{{rfl,λ_ _ _ _ _ _ _ _=>{_,_,rfl,rfl,rfl,rfl}},trivial}}
def fa:Fa:=LD.wM (tb.map (λe=>(e.i,e.f))++[(666,1)]) [(0,44),(3,56),(4,68),(7,80),(8,92)] 24
def CD:∀ns:List Int,ns.length<=63->∃M,ah Pg 40 216 [.frz (ns.map D.int)] []=.ok (.bl true) M:=MM (by repeat' (first|rfl|constructor))
end K41
open PySem PySem.W PyProof.Rows K41
set_option maxRecDepth 100000 in
set_option maxHeartbeats 0 in
theorem PySem.Challenge.cw_leastdeeds_k41_which_steps_mend_holds : PySem.Challenge.rw_leastdeeds_k41_which_steps_mend.Holds := by
 w_on;o_law
 refine PySem.W.holds_open (r:=K41.xV) (q:=K41.kq) (loose:=K41.pP) (Xt:=fun s=>PySem.W.xlAt K41.kq [] s&&PySem.W.recOk (PySem.W.RowW.records K41.xV.toRowW) s) (XP:=PySem.W.XL K41.kq []) (Yf:=K41.kH.obs) (Ya:=K41.kH.val) (YP:=K41.kH.says) (N:=7060) K41.MN K41.kH.of K41.kH.keeps (fun s e=>PySem.W.xl_of s (SQ.mp e).1) PySem.W.XL.keeps `r `r `r (fun s e=>PySem.W.recFacts_of (SQ.mp e).2) `r (by first|assumption|decide +kernel) `k ⟨rfl,rfl,rfl,rfl,rfl,`k⟩ ?hw ?hc
 case hw=>w_witness2
 refine L2.Fs (l:=PySem.Challenge.rw_leastdeeds_k41_which_steps_mend) (n:=63) (k:=84) (x:="script") (CX:=fun w=>LD.iG PySem.Challenge.rw_leastdeeds_k41_which_steps_mend.prog w) (K:=K41.kh) (sp:=fun w=>LD.D3 (K41.kh w.params)) rfl `d rfl ⟨rfl,`d,`d,rfl⟩ (fun w h Y=>PySem.W.kIn_of Y) ?F (fun w H a ns hl hO hS=>⟨a,ns,rfl,hS,hO,hl,fun _=>rfl⟩) (fun _ _ _ _ _ z=>let⟨_,_,_,_,_,_,_,_,_,_,q⟩:=z;q)
 case F=>
  intro w mg fa h KX G hmg;have tk:LD.Bd (K41.kh w.params) K41.tb:=⟨by kernel_rfl,by kernel_rfl,by kernel_rfl,by kernel_rfl⟩
  obtain⟨m,fd,F⟩:=LD.FQ tk KX G (e:=K41.tb[60]) (SA _) rfl rfl;have d_NEW_WORDS:=LD.wy (x:="NEW_WORDS") (P:=w.params) (fa:=K41.fa) (fs:=LD.cK) (ad:=247) (es:=#[{hash:=PySem.PyData.keyHash w.params (PySem.Str.ofString "turn"),key:=PySem.Value.str (PySem.Str.ofString "turn") 535,val:=PySem.Value.ref 225},{hash:=PySem.PyData.keyHash w.params (PySem.Str.ofString "join"),key:=PySem.Value.str (PySem.Str.ofString "join") 536,val:=PySem.Value.ref 232},{hash:=PySem.PyData.keyHash w.params (PySem.Str.ofString "move"),key:=PySem.Value.str (PySem.Str.ofString "move") 537,val:=PySem.Value.ref 239},{hash:=PySem.PyData.keyHash w.params (PySem.Str.ofString "put"),key:=PySem.Value.str (PySem.Str.ofString "put") 538,val:=PySem.Value.ref 246}]) (n:=4) KX G (by kernel_rfl) (by kernel_rfl) (by exact LD.gA (LD.gA (LD.gA (LD.gA (LD.Aw))))) `k `d (by exact .cons ⟨rfl,rfl⟩ (.cons ⟨rfl,rfl⟩ (.cons ⟨rfl,rfl⟩ (.cons ⟨rfl,rfl⟩ (.nil)))))
  have d_SORTS:=LD.wy (x:="SORTS") (P:=w.params) (fa:=K41.fa) (fs:=LD.eO) (ad:=168) (es:=#[{hash:=PySem.PyData.keyHash w.params (PySem.Str.ofString "turn"),key:=PySem.Value.str (PySem.Str.ofString "turn") 413,val:=PySem.Value.ref 146},{hash:=PySem.PyData.keyHash w.params (PySem.Str.ofString "join"),key:=PySem.Value.str (PySem.Str.ofString "join") 414,val:=PySem.Value.ref 153},{hash:=PySem.PyData.keyHash w.params (PySem.Str.ofString "move"),key:=PySem.Value.str (PySem.Str.ofString "move") 415,val:=PySem.Value.ref 160},{hash:=PySem.PyData.keyHash w.params (PySem.Str.ofString "put"),key:=PySem.Value.str (PySem.Str.ofString "put") 416,val:=PySem.Value.ref 167}]) (n:=4) KX G (by kernel_rfl) (by kernel_rfl) (by exact LD.gA (LD.gA (LD.gA (LD.gA (LD.Aw))))) `k `d (by exact .cons ⟨rfl,rfl⟩ (.cons ⟨rfl,rfl⟩ (.cons ⟨rfl,rfl⟩ (.cons ⟨rfl,rfl⟩ (.nil)))))
  have TO:=fun base=>LD.FP (base:=base) (P:=PySem.Challenge.rw_leastdeeds_k41_which_steps_mend.prog) (w:=w) (t:=K41.tbl) (fa:=K41.fa) KX G (by kernel_rfl) (LD.H9 (by kernel_rfl)) (LD.JV (by kernel_rfl)) (LD.CY (by kernel_rfl)) ⟨rfl,rfl⟩ ⟨d_NEW_WORDS,d_SORTS,trivial⟩ trivial
  have tw:LD.AllP (fun q=>LD.E5 K41.fa (K41.kh w.params) mg q.1 q.2.1 q.2.2.1 q.2.2.2) K41.tbl.tw:=trivial
  have xf:LD.AllP (fun f=>LD.E3 K41.fa (K41.kh w.params) f) K41.tbl.xf:=trivial
  have ms:∀q∈K41.tbl.ms,LD.qo K41.fa (K41.kh w.params) q.1 q.2.1 q.2.2:=LD.J9 (by kernel_rfl)
  have e:=hmg.symm.trans m;cases e;exact⟨fd,fun s v=>by
   obtain⟨oc,od,kV,doc,pm,an,cdv,ct,osl,rfl,lk,hcd⟩:=F.ex;exact .of_eq rfl,fun base _ _=>LD.Kh (n:=39) (f:=216) (LD.BJ K41.tab tk KX G (TO base) tw.mem xf.mem ms (by kernel_rfl)) K41.CD rfl F (LD.pX (e:=K41.tb[60]) (QV.mp K41.tab.sc K41.tb[60] (SA _))).1 rfl fun c n a b d s H E C hr=>LD.tv (e:=K41.tb[60]) K41.tab (TO base) tw.mem xf.mem ms (SA _) c n a b d s H E C hr⟩
