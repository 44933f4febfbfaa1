import PyProof.Rows.All
import Wide.All
import OpenK.AllK
import Wide.FinOn
import Lean
import PyProof.EqAt
import PyProof.EqKinds
import PyProof.TupleCall
import PyProof.StrOps
import PyProof.MeetsStr
import PyProof.StrLawsJoin
import PySem.Challenge.RW_leastdeeds_k27_whole_far_rows
set_option Elab.async false
set_option linter.all false
set_option maxRecDepth 100000
set_option tactic.hygienic false
set_option autoImplicit true
set_option relaxedAutoImplicit true
set_option genSizeOfSpec false
set_option genSizeOf false
set_option maxHeartbeats 0
set_option bootstrap.genMatcherCode false
set_option genSizeOf false
noncomputable section
local macro_rules(kind:=«term{_}»)|`({$a:term,*})=>`(⟨$a,*⟩)
local macro_rules(kind:=Lean.Parser.Term.quotedName)|x=>match x[0].isNameLit?.getD .anonymous|>.toString with|"a"=>`(by omega)|"d"=>`(by decide)|"s"=>`(by simp)|"o"=>`(by simp;omega)|"k"=>`(by decide +kernel)|"r"=>`(by rfl)|_=>Lean.Macro.throwUnsupported
local macro_rules|`(tactic|omega)=>`(tactic|first|(simp +arith;done)|lia|omega(config:={}))
abbrev tqa:=@PySem.wpAny_bind
abbrev tqb:=@PySem.wpAny_pure
abbrev tqf:=@PySem.wpAny_field
abbrev tqo:=@PySem.wpAny_holding
abbrev tqp:=@PySem.wpAny_truthy_bool
abbrev Ql:=@PySem.W.Frag
abbrev Qm:=@List.getElem?_eq_some_iff
abbrev Qn:=@List.length_map
abbrev Qo:=@PySem.Value
abbrev Qq:=@PySem.Heap.get?_push_of_some
abbrev Qr:=@PySem.Shared
abbrev Qs:=@Bool.and_eq_true
abbrev Qt:=@Nat.le_refl
abbrev Qu:=@List.mem_cons_of_mem
abbrev Qv:=@Option.map_eq_some_iff
abbrev Qw:=@Option.some.inj
abbrev QA:=@List.getElem?_append_left
abbrev QB:=@List.mem_cons_self
abbrev QC:=@List.mem_map
abbrev QD:=@List.size_toArray
abbrev QE:=@List.getElem?_eq_getElem
abbrev QF:=@Nat.le_trans
abbrev QG:=@PySem.Heap.lt_size
abbrev QH:=@List.getElem?_set_ne
abbrev QI:=@List.all_eq_true
abbrev QJ:=@Nat.le_of_ble_eq_true
abbrev QK:=@PySem.Heap.get?_push_size
abbrev QN:=@List.mem_singleton
abbrev QO:=@List.getElem?_map
abbrev QP:=@Bool.false_ne_true
abbrev QT:=@Nat.lt_of_lt_of_le
abbrev QU:=@PySem.Heap.get?_update_other
abbrev QW:=@Nat.ne_of_lt
abbrev QX:=@PySem.AutoSeq1.wpAny_loadPart'
abbrev QY:=@List.getElem?_append_right
abbrev QZ:=@List.map_map
abbrev Q0:=@PySem.Program
abbrev Q1:=@List.mem_cons
abbrev Q2:=@PySem.World
abbrev Q8:=@List.map_append
abbrev Q9:=@List.mem_of_getElem?
abbrev Rj:=@List.mem_append_right
abbrev Rk:=@List.getElem?_set_self
abbrev Rl:=@Option.bind_eq_some_iff
abbrev Rn:=@List.getD_eq_getElem?_getD
abbrev Ro:=@PySem.Heap.get?_update_self
abbrev Rp:=@List.length_append
abbrev Rq:=@List.lookup_cons
abbrev Rr:=@List.map_congr_left
abbrev Rt:=@Nat.ne_of_gt
abbrev Ru:=@Ne.symm
abbrev Rv:=@List.mem_append_left
abbrev Rw:=@List.mem_append
abbrev Rx:=@List.length_range
abbrev Ry:=@PySem.OsState
abbrev Rz:=@List.take_succ
abbrev RA:=@PySem.W.kia_one
abbrev RB:=@PySem.W.SharedT
abbrev RC:=@Bool.eq_iff_iff
abbrev RD:=@List.take_of_length_le
abbrev RE:=@List.mem_map_of_mem
abbrev RF:=@Bool.or_eq_true
abbrev RG:=@Nat.add_sub_cancel_left
abbrev RH:=@Array.getElem?_eq_some_iff
abbrev RI:=@List.map_cons
abbrev RJ:=@List.all_cons
abbrev RK:=@PySem.DictEntry
abbrev RL:=@PySem.Around
abbrev RM:=@List.mem_filter
abbrev RN:=@PySem.Obj.data_mapFields
abbrev RO:=@Nat.lt_irrefl
abbrev RP:=@Int.toNat_natCast
abbrev RQ:=@PySem.Heap.SameBut.update
abbrev RR:=@PyProof.Rows.slot_tuple_getitem
abbrev RS:=@Iff.rfl
abbrev RT:=@List.mem_range
abbrev RU:=@PySem.W.mg_of
abbrev RV:=@List.length_cons
abbrev RW:=@beq_eq_false_iff_ne
abbrev RX:=@Nat.zero_le
abbrev RY:=@List.nodup_cons
abbrev RZ:=@List.append_nil
abbrev R0:=@PySem.Env
abbrev R1:=@PyProof.Rows.callWith_type1
abbrev R3:=@Option.isSome_map
abbrev R4:=@List.exists_of_findSome?_eq_some
abbrev R5:=@List.append_assoc
abbrev R6:=@Array.getElem?_eq_getElem
abbrev R7:=@PySem.Paired
abbrev R8:=@PySem.Heap.SameBut
abbrev R9:=@Nat.le_add_right
abbrev Sa:=@List.length_take
abbrev Sb:=@List.mem_of_mem_take
abbrev Sd:=@PySem.Params
abbrev Se:=@List.length_eq_zero_iff
abbrev Sf:=@PySem.Heap.size_push
abbrev Sg:=@PySem.Around.under_plainId
abbrev Sh:=@List.replicate_succ
abbrev Si:=@Nat.lt_or_ge
abbrev Sj:=@Nat.add_assoc
abbrev Sk:=@Int.emod_lt_of_pos
abbrev Sl:=@List.length_filter_le
abbrev Sm:=@Option.isNone_iff_eq_none
abbrev Sn:=@Nat.not_lt_zero
abbrev So:=@Int.emod_nonneg
abbrev Sq:=@Nat.lt_succ_of_lt
abbrev Sr:=@Bool.not_eq_true'
abbrev Ss:=@PySem.Obj.isFreed_of_fields
abbrev Su:=@Array.length_toList
abbrev Sv:=@List.getElem?_replicate
abbrev Sw:=@PySem.Comprehension
abbrev Sx:=@Nat.lt_of_le_of_lt
abbrev Sy:=@Nat.le_of_lt
abbrev Sz:=@PySem.F.plain_min_loop
abbrev SA:=@PyProof.Rows.IntsAre
abbrev SD:=@List.flatten_cons
abbrev SF:=@Function.comp_def
abbrev SG:=@PySem.F.slot_dict_keyiterator_next
abbrev SH:=@Bool.and_eq_true_iff
abbrev SI:=@List.getElem_mem
abbrev SJ:=@List.any_eq_true
abbrev SK:=@PySem.mem_of_lookup
abbrev SM:=@List.getElem?_range
abbrev SN:=@PySem.Heap.get?_none_of_le
abbrev SO:=@Option.isSome_iff_exists
abbrev SQ:=@List.nil_append
abbrev SR:=@PySem.W.callWith_K
abbrev SU:=@List.find?_eq_none
namespace HD
open PySem PySem.W
noncomputable def gR (tb:String->Option Builtin)(p:Q0)(w:Q2)(n0:Nat)(ann:Option Qo):Nat->RB->Thread->Option RB
 |0,_,_=>none
 | n + 1, s, t => match through t with
   |true=>some s
   | false => match stepOk n0 ann t with
     |false=>none
     | true => match stepT (denote tb) p w s t with
       |some (s',t')=>gR tb p w n0 ann n s' t'
       |none=>none
def qX {tb:String->Option Builtin}{p:Q0}{w:Q2}{n0:Nat}{ann:Option Qo}:∀{n:Nat}{s s':RB}{t:Thread},gR tb p w n0 ann n s t=some s'->topRun tb p w n0 ann n s.abs t=some s'.abs
 |0,_,_,_,h=>by cases h
 | n + 1, s, s', t, h => by
   unfold gR at h;unfold topRun;cases he:through t with
   |true=>rw[he] at h;cases h;rfl
   | false =>
     rw[he] at h;cases hk:stepOk n0 ann t with
     |false=>rw[hk] at h;cases h
     | true =>
       rw[hk] at h;cases hs:stepT (denote tb) p w s t with
       |none=>rw[hs] at h;cases h
       |some r=>obtain⟨s2,t2⟩:=r;rw[hs] at h;rw[stepT_spec hs];exact qX h
noncomputable def treeOf:List Obj->Nat->BT->BT
 |[],_,t=>t
 |o::r,n,t=>treeOf r (n+1) (t.ins n o)
def yk (P:Sd)(os:Ry):RB:={treeOf (boot_heap P).objs.toList 0 .nil,(boot_heap P).objs.toList.length,(boot_heap P).life,#[],boot_drawn,boot_toks,os}
def boot_abs (P:Sd)(os:Ry):(yk P os).abs={boot_heap P,#[],boot_drawn,boot_toks,os}:=by kernel_rfl
noncomputable def kW (p q:Q0)(loose:List Str)(Xt:Qr->Bool)(g0:Bool)(h0:Heap){α:Type}(Yf:Qr->α)(s:Qr):=
 ((staticsOk (importedModules p.main.body) h0 s.heap&&namesBound p s.heap&&gensDone s&&laidKept h0 s.heap),openSeen q loose (importedModules p.main.body) Xt g0 s,Yf s)
noncomputable def wo (tb:String->Option Builtin)(p:Q0)(w:Q2)(n0:Nat)(ann:Option Qo):Nat->RB->Thread->Option (RB×Thread)
 |0,s,t=>some (s,t)
 | n + 1, s, t => match through t with
   |true=>none
   | false => match stepOk n0 ann t with
     |false=>none
     | true => match stepT (denote tb) p w s t with
       |some (s',t')=>wo tb p w n0 ann n s' t'
       |none=>none
noncomputable def kS (tb:String->Option Builtin)(p:Q0)(w:Q2)(n0:Nat)(ann:Option Qo):Nat->RB->Thread->Option (Flow×RB×Code×Pos)
 |0,_,_=>none
 | n + 1, s, t => match endAt 1 t with
   |some f=>some (f,s,t.code,t.pos)
   | none => match stepOk n0 ann t with
     |false=>none
     | true => match stepT (denote tb) p w s t with
       |some (s',t')=>kS tb p w n0 ann n s' t'
       |none=>none
section
variable{tb:String->Option Builtin}{p:Q0}{w:Q2}{n0:Nat}{ann:Option Qo}
def AO:∀{n:Nat}{s s':RB}{t t':Thread},wo tb p w n0 ann n s t=some (s',t')->topGo tb p w n0 ann n s.abs t=some (s'.abs,t')
 |0,s,s',t,t',h=>by cases h;rfl
 | n + 1, s, s', t, t', h => by
   unfold wo at h;unfold topGo;cases he:through t with
   |true=>rw[he] at h;cases h
   | false =>
     rw[he] at h;cases hk:stepOk n0 ann t with
     |false=>rw[hk] at h;cases h
     | true =>
       rw[hk] at h;cases hs:stepT (denote tb) p w s t with
       |none=>rw[hs] at h;cases h
       |some q=>obtain⟨s2,t2⟩:=q;rw[hs] at h;rw[stepT_spec hs];exact AO h
def qg:∀{n:Nat}{s s':RB}{t:Thread}{f:Flow}{c:Code}{q:Pos},kS tb p w n0 ann n s t=some (f,s',c,q)->segRun tb p w n0 ann 1 n s.abs t=some (f,s'.abs,c,q)
 |0,_,_,_,_,_,_,h=>by cases h
 | n + 1, s, s', t, f, c, q, h => by
   unfold kS at h;unfold segRun;cases he:endAt 1 t with
   |some g=>rw[he] at h;cases h;rfl
   | none =>
     rw[he] at h;cases hk:stepOk n0 ann t with
     |false=>rw[hk] at h;cases h
     | true =>
       rw[hk] at h;cases hs:stepT (denote tb) p w s t with
       |none=>rw[hs] at h;cases h
       |some x=>obtain⟨s2,t2⟩:=x;rw[hs] at h;rw[stepT_spec hs];exact qg h
def uJ {n3 N:Nat}{s s2:RB}{env:Env}{c:Code}{p' p2 q:Pos}{b:List Stmt}{J:Nat}{α:Type}{f:Qr->α}{a:α}
 (h3:kS tb p w n0 ann n3 s (piecesOf (b.take J) env c p' [topFrame q])=some (.next,s2,c,p2))
 (h4:(topRun tb p w n0 ann N s2.abs (restOf (b.drop J) env c p2 [topFrame q])).map f=some a):(topRun tb p w n0 ann (n3+N) s.abs (restOf b env c p' [topFrame q])).map f=some a:=by
 obtain⟨r,e3,e4⟩:=Qv.mp h4;have k4:=piece_app (qg h3) e3;rw[List.take_append_drop] at k4;rw[k4];exact congrArg some e4
def A0 {N:Nat}{s2:RB}{t:Thread}{p' q:Q0}{loose:List Str}{Xt:Qr->Bool}{g0:Bool}{h0:Heap}{α:Type}{Yf:Qr->α}{a b c}
 (h1:(gR tb p w n0 ann N s2 t).map (λs=>(kW p' q loose Xt g0 h0 Yf s.abs).1)=some a) (h2:(gR tb p w n0 ann N s2 t).map (λs=>(kW p' q loose Xt g0 h0 Yf s.abs).2.1)=some b)
 (h3:(gR tb p w n0 ann N s2 t).map (λs=>(kW p' q loose Xt g0 h0 Yf s.abs).2.2)=some c):(topRun tb p w n0 ann N s2.abs t).map (kW p' q loose Xt g0 h0 Yf)=some (a,b,c):=by
 obtain⟨r,e3,rfl⟩:=Qv.mp h1;rw[e3] at h2 h3;cases h2;cases h3;rw[qX e3];rfl
def A1 {n1 n2 N:Nat}{s s':RB}{env:Env}{c:Code}{pos p' q:Pos}{t:Thread}{b:List Stmt}{J:Nat}{α:Type}{f:Qr->α}{a:α}
 (h1:(wo tb p w n0 ann n1 s t).map (·.2)=some {denote tb (.body b env),c,pos,[topFrame q]}) (h0:endAt 1 (blockOf b env c pos [topFrame q])=some .next)
 (h2:((wo tb p w n0 ann n1 s t).bind λx=>kS tb p w n0 ann n2 x.1 (piecesOf (b.take J) env c pos [topFrame q]))=some (.next,s',c,p'))
 (h3:(topRun tb p w n0 ann N s'.abs (restOf (b.drop J) env c p' [topFrame q])).map f=some a):(topRun tb p w n0 ann (n1+(1+(n2+N))) s.abs t).map f=some a:=by
 obtain⟨⟨s1,t1⟩,e1,e2⟩:=Qv.mp h1;have e2:t1={denote tb (.body b env),c,pos,[topFrame q]}:=e2;subst e2;rw[e1] at h2;have h2:kS tb p w n0 ann n2 s1 (piecesOf (b.take J) env c pos [topFrame q])=some (.next,s',c,p'):=h2
 obtain⟨r,e3,e4⟩:=Qv.mp h3;have k3:=piece_app (qg h2) e3;rw[List.take_append_drop] at k3;have hb:segRun tb p w n0 ann 1 1 s1.abs (blockOf b env c pos [topFrame q])=some (.next,s1.abs,c,pos):=by
  show(match endAt 1 (blockOf b env c pos [topFrame q]) with|some f=>some (f,s1.abs,c,pos)|none=>_)=_
  rw[h0]
 have k2:=piece_block hb k3;rw[go_top (AO e1) k2];exact congrArg some e4
end
def vf {p q:Q0}{loose:List Str}{Xt:Qr->Bool}{α:Type}{Yf:Qr->α}{Ya:Q2->α}{N:Nat}{g0:Bool}{m0:Nat}{ann:Option Qo}
 (open_:∀w:Q2,(fencedOpening treeTable p w N).map (λs=>(s.heap,s.gens,s.drawn,s.toks))=some (boot_heap w.params,Array.mk [],boot_drawn,boot_toks))
 (size:∀w:Q2,((boot_heap w.params).isNs mainGlobals&&(Array.mk ([]:List GenState)).size==0,(boot_heap w.params).objs.size,(boot_heap w.params).nsMap mainGlobals "__annotations__")=(true,m0,ann))
 (run:∀(w:Q2) (os:Ry),(topRun treeTable p w m0 ann N (yk w.params os).abs (topStub p)).map (kW p q loose Xt g0 (boot_heap w.params) Yf)=some (true,openGood q loose,Ya w)):LeftO p q loose Xt Yf Ya N g0:=λw=>by
 obtain⟨⟨h,gs,d,k,os⟩,e,e'⟩:=Qv.mp (open_ w);obtain⟨rfl,rfl,rfl,rfl⟩:h=boot_heap w.params/\gs=Array.mk []/\d=boot_drawn/\k=boot_toks:=by simpa using e'
 obtain⟨z1,z2,z3⟩:_/\_/\_:=by simpa only[Prod.mk.injEq] using size w
 obtain⟨s1,r,l⟩:=Qv.mp (run w os);obtain⟨l1,l2,l3⟩:_/\_/\_:=by simpa only[kW,Prod.mk.injEq] using l
 rw[boot_abs] at r;have t:topFrom treeTable p w N {boot_heap w.params,Array.mk [],boot_drawn,boot_toks,os}=some s1:=by
  unfold topFrom;dsimp only;rw[z1,z2,z3,r];show(match staticsOk (importedModules p.main.body) (boot_heap w.params) s1.heap&&namesBound p s1.heap&&gensDone s1&&laidKept (boot_heap w.params) s1.heap with|true=>_|false=>_)=_
  rw[l1]
 unfold openEnds;rw[e];show(topFrom treeTable p w N _).map _=_;rw[t];exact congrArg some (Prod.ext l2 l3)
end HD
namespace K27
open PySem
abbrev eN (P:Sd)(x:Str)(n:Nat)(v:Qo):RK:={PyData.keyHash P x,.str x n,v}
noncomputable def qu (j:Nat)(s:Stmt):Stmt:=match s with
 |.ClassDef _ _ _ b _ _ _ _ _ _ _=>b.getD j s
 |_=>s
noncomputable def eJ (i:Nat):Stmt:=PySem.Challenge.pw_leastdeeds_k27_whole_far_rows.main.body.getD i (.Pass {0,0,0,0})
noncomputable def nr (s:Stmt):Arguments:=match s with
 |.FunctionDef _ a _ _ _ _ _ _ _ _=>a
 |_=>{[],[],none,[],[],none,[]}
noncomputable def nq (s:Stmt):List Stmt:=match s with
 |.FunctionDef _ _ b _ _ _ _ _ _ _=>b
 |_=>[]
noncomputable def ka (s:Stmt):Scope:=match s with
 |.FunctionDef _ _ _ _ _ _ sc _ _ _=>sc
 |_=>{kind:=.function,names:=[],isGenerator:=false,isCoroutine:=false}
noncomputable def o1:Obj:={cls:=.type "tuple" ,data:=.seq #[]}
noncomputable def o2 (a:String)(b:Nat)(c:Int)(d:Nat)(e:Int):Obj:={cls:=.type "code" ,data:=.fields #[.str (Str.ofString a) b ,.str (Str.ofString a) (b+1) ,.str ("/claim/cut.py") (b+2) ,.int c 0 ,.int 0 0 ,.int 0 0 ,.int 0 0 ,.int 0 0 ,.ref d ,.bool false ,.int 181 0 ,.ref (d+1) ,.none ,.none ,.none ,.none ,.int e 0 ,.int c 0 ,.str ("/claim/cut.py") (b+4)]}
noncomputable def o3 (a:Nat)(b:Nat)(c:String)(d:Nat):Obj:={cls:=.type "frame" ,slots:=#[some (.ref a) ,some (.ref 3) ,some (.ref b) ,none ,some (.str (Str.ofString c) d) ,none ,some (.ref 0)]}
def o4:Obj:={cls:=.type "builtin_function_or_method" ,data:=.fields #[.builtin "type.__prepare__" ,.type "type"]}
def o5 (P:Sd)(a:Nat)(b:String)(c:Int)(d:Nat):Obj:={cls:=.type "dict" ,data:=.dict #[{hash:=PyData.keyHash P ("__module__") ,key:=.str ("__module__") a ,val:=.str ("leastdeeds.errors") 187} ,{hash:=PyData.keyHash P ("__qualname__") ,key:=.str ("__qualname__") (a+2) ,val:=.str (Str.ofString b) (a+1)} ,{hash:=PyData.keyHash P ("__firstlineno__") ,key:=.str ("__firstlineno__") (a+4) ,val:=.int c (a+3)} ,{hash:=PyData.keyHash P ("__static_attributes__") ,key:=.str ("__static_attributes__") (a+5) ,val:=.ref d}] 4}
def o6:Obj:={cls:=.none ,data:=.fields #[]}
def o7 (P:Sd)(a:Nat)(b:Int)(c:String)(d:Nat)(e:Nat)(f:String)(g:Nat)(h:Nat):Obj:={cls:=.type "dict" ,data:=.dict #[{hash:=PyData.keyHash P ("__module__") ,key:=.str ("__module__") a ,val:=.str ("leastdeeds.errors") 187} ,{hash:=PyData.keyHash P ("__firstlineno__") ,key:=.str ("__firstlineno__") (a+4) ,val:=.int b (a+3)} ,{hash:=PyData.keyHash P (Str.ofString c) ,key:=.str (Str.ofString c) d ,val:=.ref e} ,{hash:=PyData.keyHash P (Str.ofString f) ,key:=.str (Str.ofString f) (d+2) ,val:=.ref g} ,{hash:=PyData.keyHash P ("__doc__") ,key:=.str ("__doc__") (d+3) ,val:=.none}] h}
def o8:Obj:={cls:=.type "type" ,data:=.cls {name:="DeedError" ,bases:=[.type "ValueError"] ,mro:=[.ref 24 ,.type "ValueError" ,.type "Exception" ,.type "BaseException" ,.type "object"] ,ns:=23 ,qualname:="DeedError" ,subclasses:=[.ref 44 ,.ref 56 ,.ref 68 ,.ref 80 ,.ref 92]} ,slots:=#[some (.ref 15) ,none ,some (.str ("DeedError") 189) ,some (.str ("DeedError") 197) ,some (.builtin "ValueError.__new__") ,some (.bool true)]}
def o9 (a:Nat):Obj:={cls:=.type "super" ,data:=.fields #[.ref a ,.ref a ,.ref a]}
def vS (a:Nat):Obj:={cls:=.type "builtin_function_or_method" ,data:=.fields #[.builtin "object.__init_subclass__" ,.ref a]}
def Aa:Obj:={cls:=.type "tuple" ,data:=.seq #[.ref 24]}
def Ob (a:String)(b:Nat)(c:String)(d:Int)(e:Nat)(f:Int)(g:Nat):Obj:={cls:=.type "code" ,data:=.fields #[.str (Str.ofString a) b ,.str (Str.ofString c) (b+1) ,.str ("/claim/cut.py") (b+2) ,.int d 0 ,.int 2 0 ,.int 0 0 ,.int 0 0 ,.int 3 0 ,.ref e ,.bool true ,.int 181 0 ,.ref (e+1) ,.none ,.ref (e+2) ,.ref (e+3) ,.ref (e+4) ,.int f 0 ,.int d 0 ,.str ("/claim/cut.py") g]}
def o13:Obj:={cls:=.type "function" ,data:=.func {name:="__init__" ,qualname:="NoRow.__init__" ,params:=nr (qu 0 (eJ 2)) ,body:=PySem.FuncBody.stmts (nq (qu 0 (eJ 2))) ,scope:=ka (qu 0 (eJ 2)) ,globals:=3 ,closure:=[] ,defaults:=.none ,kwdefaults:=.none ,pyModule:=.str ("leastdeeds.errors") 187 ,code:=.ref 40}}
def zZ (a:String)(b:Nat)(c:Nat)(d:Nat)(e:Nat):Obj:={cls:=.type "type" ,data:=.cls {name:=Str.ofString a ,bases:=[.ref 24] ,mro:=[.ref b ,.ref 24 ,.type "ValueError" ,.type "Exception" ,.type "BaseException" ,.type "object"] ,ns:=c ,qualname:=Str.ofString a} ,slots:=#[some (.ref d) ,none ,some (.str (Str.ofString a) e) ,some (.str (Str.ofString a) (e+8)) ,some (.builtin "ValueError.__new__") ,some (.bool true)]}
def Et (P:Sd)(a:Nat)(b:Int)(c:Nat):Obj:={cls:=.type "dict" ,data:=.dict #[{hash:=PyData.keyHash P ("__module__") ,key:=.str ("__module__") a ,val:=.str ("leastdeeds.errors") 187} ,{hash:=PyData.keyHash P ("__firstlineno__") ,key:=.str ("__firstlineno__") (a+4) ,val:=.int b (a+3)} ,{hash:=PyData.keyHash P ("__static_attributes__") ,key:=.str ("__static_attributes__") (a+5) ,val:=.ref c} ,{hash:=PyData.keyHash P ("__doc__") ,key:=.str ("__doc__") (a+6) ,val:=.none}] 2}
def Oa (P:Sd)(a:Nat)(b:Nat):Obj:={cls:=.type "dict" ,data:=.dict #[{hash:=PyData.keyHash P ("turn") ,key:=.str ("turn") a ,val:=.ref b} ,{hash:=PyData.keyHash P ("join") ,key:=.str ("join") (a+1) ,val:=.ref (b+7)} ,{hash:=PyData.keyHash P ("move") ,key:=.str ("move") (a+2) ,val:=.ref (b+14)} ,{hash:=PyData.keyHash P ("put") ,key:=.str ("put") (a+3) ,val:=.ref (b+21)}] 4}
def o17:Obj:={cls:=.type "tuple" ,data:=.seq #[.none]}
def o18:Obj:={cls:=.type "function" ,data:=.func {name:="reached" ,qualname:="reached" ,params:=nr (eJ 57) ,body:=PySem.FuncBody.stmts (nq (eJ 57)) ,scope:=ka (eJ 57) ,globals:=3 ,closure:=[] ,defaults:=.ref 325 ,kwdefaults:=.none ,pyModule:=.str ("leastdeeds.least") 621 ,code:=.ref 331}}
def kc (i:Nat):Str×Nat×Nat×List Str×Bool:=match eJ i with
 |.FunctionDef x a _ _ _ _ sc _ _ p=>(x,p.line,a.args.length,sc.names.filterMap (λq=>match q.2 with|.local=>some q.1|_=>none),sc.names.any (λq=>match q.2 with|.cell=>true|_=>false)||i==51||i==75)
 |_=>("",0,0,[],false)
def kN (i:Nat):Nat:=bif (kc i).2.2.2.2 then 0 else(kc i).2.2.2.1.length
def AD (i:Nat):Nat:=bif (kc i).2.2.2.2 then 5 else 7
def nS:Nat->Nat->Nat->Nat->List (Nat×Nat×Nat)
 |0,_,_,_=>[]
 |n+1,i,e,t=>(i,e,t)::nS n (i+1) (e+AD i) (t+kN i+6)
def pG:Nat×Nat×Nat->List Qo:=λ(i,e,_)=>[.int (kc i).2.1 0,.int 0 0,.ref (e+AD i-2)]
def pH (P:Sd):Nat×Nat×Nat->RK:=λ(i,e,t)=>{PyData.keyHash P (kc i).1,.str (kc i).1 (t+kN i+5),.ref (e+AD i-1)}
def E4 (c:Qo)(i g:Nat)(m d:Qo):Obj:={cls:=c,data:=.func {name:=(kc i).1,qualname:=(kc i).1,params:=nr (eJ i),body:=.stmts (nq (eJ i)),scope:=ka (eJ i),globals:=g,closure:=[],defaults:=.none,kwdefaults:=.none,pyModule:=m,code:=d}}
def kO (m:Str)(k:Nat):Nat×Nat×Nat->List Obj:=λ(i,e,t)=>
 let x:=(kc i).1
 let l:Qo:=.int (kc i).2.1 0
 let q:=t+kN i
 let c:=λ(a:Qo) (b:Qo) (d:Nat)=>({cls:=.type "code",data:=.fields #[.str x t,.str x (t+1),.str "/claim/cut.py" (t+2),l,.int (kc i).2.2.1 0,.int 0 0,.int 0 0,.int 3 0,.ref e,.bool true,.int 181 0,.ref (e+1),.none,a,b,.ref (e+d),.int (q+3:Nat) 0,l,.str "/claim/cut.py" (q+4)]}:Obj)
 [o1,{cls:=.none,data:=.fields #[]}]++bif (kc i).2.2.2.2 then [E4 .none i 0 .none .none,c .none .none 2,E4 (.type "function") i 3 (.str m k) (.ref (e+3))] else [{cls:=.type "tuple",data:=.seq (((kc i).2.2.2.1.zipIdx (t+3)).map λp=>.str p.1 p.2).toArray},o1,E4 .none i 0 .none .none,c (.ref (e+2)) (.ref (e+3)) 4,E4 (.type "function") i 3 (.str m k) (.ref (e+5))]
def pI:Nat×Nat×Nat->List Addr:=λ(i,e,_)=>[e+AD i-2,e+AD i-1]
def EL:=nS 1 8 95 298
def EK:=nS 10 16 102 321
def EJ:=nS 10 27 169 422
def EI:=nS 4 38 231 500
def EH:=nS 5 43 260 558
def EG:=nS 3 49 291 601
def EF:=nS 3 54 308 625
def EE:=nS 4 58 333 666
def ED:=nS 15 63 357 704
def Oh:List Qo:=[.int 2 0,.int 0 0,.ref 20,.int 4 0,.int 0 0,.ref 33,.int 9 0,.int 0 0,.ref 52,.int 11 0,.int 0 0,.ref 64,.int 13 0,.int 0 0,.ref 76,.int 15 0,.int 0 0,.ref 88]++EL.flatMap pG
def Og:List Qo:=Oh++EK.flatMap pG++EJ.flatMap pG++EI.flatMap pG
def kt2:List Qo:=Og++EH.flatMap pG++EG.flatMap pG++EF.flatMap pG++[.int 174 0,.int 0 0,.ref 331]++EE.flatMap pG++ED.flatMap pG
def Ol (P:Sd):List RK:=[eN P "__doc__" 166 (.none),eN P "__package__" 167 (.none),eN P "__loader__" 168 (.builtin "__main__.__loader__#opaque"),eN P "__spec__" 169 (.none),eN P "__annotations__" 170 (.ref 6),eN P "__builtins__" 171 (.ref 4),eN P "__file__" 173 (.str "/claim/cut.py" 172),eN P "__cached__" 174 (.none),eN P "DeedError" 206 (.ref 24),eN P "NoRow" 231 (.ref 44),eN P "NoMachine" 247 (.ref 56),eN P "TooLong" 263 (.ref 68),eN P "NoWork" 279 (.ref 80),eN P "TooMany" 295 (.ref 92)]++EL.map (pH P)
def Oj (P:Sd):List RK:=Ol P++[eN P "LEAST_WORDS" 310 (.int 2 309),eN P "MOST_WORDS" 312 (.int 4 311),eN P "MOST_PLACES" 314 (.int 2 313),eN P "MOST_DEEDS" 316 (.int 6 315),eN P "MOST_COST" 318 (.int 3 317),eN P "LONGEST_ROW" 320 (.int 40 319)]++EK.map (pH P)++[eN P "SORTS" 421 (.ref 168)]++EJ.map (pH P)++EI.map (pH P)++[eN P "NEW_WORDS" 557 (.ref 259)]
def Oi (P:Sd):List RK:=Oj P++EH.map (pH P)++EG.map (pH P)++[eN P "MOST_BEHAVIOURS" 624 (.int 255 623)]++EF.map (pH P)++[eN P "reached" 665 (.ref 332)]++EE.map (pH P)++ED.map (pH P)
def kg3 (P:Sd):List RK:=Oi P++[eN P "law" 835 (.ref 452)]
noncomputable def Ot (P:Sd):List Obj:=[o1,{cls:=.none,data:=.fields Oh.toArray},o2 "<module>" 182 1 11 185,o3 13 3 "__main__" 164,{cls:=.type "tuple",data:=.seq #[.type "ValueError"]},o4,o5 P 196 "DeedError" 2 22,o1,o6,o2 "DeedError" 191 2 18 194,o3 20 17 "leastdeeds.errors" 187,o1,o7 P 196 2 "__static_attributes__" 201 22 "__weakref__" 25 3,o8,{cls:=.type "getset_descriptor",data:=.fields #[.str "__weakref__" 202,.ref 24,.builtin "ExceptionGroup.__weakref__",.none]},o9 24,vS 24,Aa,o4,{cls:=.type "dict",data:=.dict #[eN P "__module__" 214 (.str "leastdeeds.errors" 187),eN P "__qualname__" 216 (.str "NoRow" 215),eN P "__firstlineno__" 218 (.int 4 217),eN P "__init__" 226 (.ref 41),eN P "__static_attributes__" 228 (.ref 42)] 5},o1,{cls:=.none,data:=.fields #[.int 6 0,.int 4 0,.ref 40]},o2 "NoRow" 209 4 31 212,o3 33 30 "leastdeeds.errors" 187,o1,o6,{cls:=.type "tuple",data:=.seq #[.str "self" 222,.str "place" 223]},o1,{cls:=.none,data:=.func {name:="__init__",qualname:="NoRow.__init__",params:=nr (qu 0 (eJ 2)),body:=PySem.FuncBody.stmts (nq (qu 0 (eJ 2))),scope:=ka (qu 0 (eJ 2)),globals:=0,closure:=[],defaults:=.none,kwdefaults:=.none,pyModule:=.none,code:=.none}},Ob "__init__" 219 "NoRow.__init__" 6 35 224 225,o13,{cls:=.type "tuple",data:=.seq #[.str "place" 227]},o7 P 214 4 "__init__" 226 41 "__static_attributes__" 42 2,zZ "NoRow" 44 43 28 207,o9 44,vS 44,Aa,o4,o5 P 239 "NoMachine" 9 54,o1,o6,o2 "NoMachine" 234 9 50 237,o3 52 49 "leastdeeds.errors" 187,o1,Et P 239 9 54,zZ "NoMachine" 56 55 47 232,o9 56,vS 56,Aa,o4,o5 P 255 "TooLong" 11 66,o1,o6,o2 "TooLong" 250 11 62 253,o3 64 61 "leastdeeds.errors" 187,o1,Et P 255 11 66,zZ "TooLong" 68 67 59 248,o9 68,vS 68,Aa,o4,o5 P 271 "NoWork" 13 78,o1,o6,o2 "NoWork" 266 13 74 269,o3 76 73 "leastdeeds.errors" 187,o1,Et P 271 13 78,zZ "NoWork" 80 79 71 264,o9 80,vS 80,Aa,o4,o5 P 287 "TooMany" 15 90,o1,o6,o2 "TooMany" 282 15 86 285,o3 88 85 "leastdeeds.errors" 187,o1,Et P 287 15 90,zZ "TooMany" 92 91 83 280,o9 92,vS 92]++EL.flatMap (kO "leastdeeds.wholes" 296)
def Oq (P:Sd):List Obj:=((Ot P).set 1 ({cls:=.none,data:=.fields Og.toArray}))++EK.flatMap (kO "leastdeeds.machines" 307)++[Oa P 413 146]++EJ.flatMap (kO "leastdeeds.machines" 307)++EI.flatMap (kO "leastdeeds.runs" 498)++[Oa P 549 237]
def Oo (P:Sd):List Obj:=((Oq P).set 1 ({cls:=.none,data:=.fields kt2.toArray}))++EH.flatMap (kO "leastdeeds.runs" 498)++EG.flatMap (kO "leastdeeds.works" 599)++EF.flatMap (kO "leastdeeds.least" 621)++[o17,o1,o6,{cls:=.type "tuple",data:=.seq #[.str "machine" 657,.str "bound" 658,.str "leads" 659,.str "empty_ends" 660,.str "found" 661,.str "levels" 662]},o1,{cls:=.none,data:=.func {name:="reached",qualname:="reached",params:=nr (eJ 57),body:=PySem.FuncBody.stmts (nq (eJ 57)),scope:=ka (eJ 57),globals:=0,closure:=[],defaults:=.none,kwdefaults:=.none,pyModule:=.none,code:=.none}},Ob "reached" 654 "reached" 174 326 663 664,o18]++EE.flatMap (kO "leastdeeds.least" 621)++ED.flatMap (kO "law_leastdeeds_k27_whole_far_rows" 702)
def Om:List Addr:=[23,24,40,41,43,44,55,56,67,68,79,80,91,92,168,259,325,331,332]++EL.flatMap pI++EK.flatMap pI++EJ.flatMap pI++EI.flatMap pI++EH.flatMap pI++EG.flatMap pI++EF.flatMap pI++EE.flatMap pI++ED.flatMap pI
def kh:Sd->Ql:=λP=>[(2,{cls:=.none,data:=.dict #[]}),
 (3,{cls:=.type "dict",data:=.dict (eN P "__name__" 165 (.str "law_leastdeeds_k27_whole_far_rows" 702)::kg3 P).toArray 81}),
 (451,{cls:=.type "code",data:=.fields #[.str "law" 830,.str "law" 831,.str "/claim/cut.py" 832,.int 348 0,.int 1 0,.int 0 0,.int 0 0,.int 3 0,.ref 448,.bool true,.int 181 0,.ref 449,.none,.none,.none,.ref 450,.int 833 0,.int 348 0,.str "/claim/cut.py" 834]}),
 (452,{cls:=.type "function",data:=.func {name:="law",qualname:="law",params:=nr (eJ 78),body:=PySem.FuncBody.stmts (nq (eJ 78)),scope:=ka (eJ 78),globals:=3,closure:=[],defaults:=.none,kwdefaults:=.none,pyModule:=.str "law_leastdeeds_k27_whole_far_rows" 702,code:=.ref 451}})]++List.map (λa=>(a,(Oo P).getD (a-11) o1)) Om
def KG:List Addr:=[2,3,451,452]++Om
def Pd:∀P,KG=(kh P).map (·.1):=λ_=>by kernel_rfl
noncomputable def kq:Q0:=PySem.W.view PySem.Challenge.pw_leastdeeds_k27_whole_far_rows [1,2,3,4,5,6,8,10,11,12,13,14,15,16,17,18,19,20,21,22,23,24,25,26,27,28,29,30,31,32,33,34,35,36,38,39,40,41,42,43,44,45,46,47,49,50,51,53,54,55,56,58,59,60,61,63,64,65,66,67,68,69,70,71,72,73,74,75,76,77,78]
abbrev kH:PySem.W.Hook:=PySem.W.kHook kh KG Pd
def pF:List Str:=["SORTS","NEW_WORDS","reached"]
abbrev xQ:=PySem.Challenge.rw_leastdeeds_k27_whole_far_rows.row
abbrev kX:Qr->Bool:=λs=>PySem.W.xlAt kq [] s&&PySem.W.recOk (PySem.W.RowW.records xQ.toRowW) s
def EZ (P:Sd)(os:Ry):RB:={HD.treeOf ((((PySem.W.boot_heap P).objs.toList.set 3 ({cls:=.type "dict",data:=.dict (eN P "__name__" 165 (.str "leastdeeds.wholes" 296)::Ol P).toArray 16})))++Ot P) 0 .nil,102,{},#[],{},307,os}
def EY (P:Sd)(os:Ry):RB:={HD.treeOf ((((PySem.W.boot_heap P).objs.toList.set 3 ({cls:=.type "dict",data:=.dict (eN P "__name__" 165 (.str "leastdeeds.runs" 498)::Oj P).toArray 48})))++Oq P) 0 .nil,260,{},#[],{},558,os}
def EX (P:Sd)(os:Ry):RB:={HD.treeOf ((((PySem.W.boot_heap P).objs.toList.set 3 ({cls:=.type "dict",data:=.dict (eN P "__name__" 165 (.str "law_leastdeeds_k27_whole_far_rows" 702)::Oi P).toArray 80})))++Oo P) 0 .nil,448,{},#[],{},830,os}
def kE:Env:={scope:=PySem.Challenge.pw_leastdeeds_k27_whole_far_rows.main.scope,locals:=mainNs,globals:=mainNs,cells:=[],code:=.ref 13,frame:=some 14}
def kP (w:Q2)(os:Ry):=HD.wo treeTable PySem.Challenge.pw_leastdeeds_k27_whole_far_rows w 11 (some (.ref 6)) 12 (HD.yk w.params os) (PySem.W.topStub PySem.Challenge.pw_leastdeeds_k27_whole_far_rows)
def ET (w:Q2)(os:Ry):=(kP w os).bind λx=>HD.kS treeTable PySem.Challenge.pw_leastdeeds_k27_whole_far_rows w 11 (some (.ref 6)) 1333 x.1 (PySem.W.piecesOf ((PySem.W.behindTheImports PySem.Challenge.pw_leastdeeds_k27_whole_far_rows).take 9) kE (.body (PySem.W.behindTheImports PySem.Challenge.pw_leastdeeds_k27_whole_far_rows) kE) {0,0,0,0} [PySem.W.topFrame {0,0,0,0}])
def EO (w:Q2)(os:Ry):Option (Flow×RB×Code×Pos):=some (.next,EZ w.params os,(.body (PySem.W.behindTheImports PySem.Challenge.pw_leastdeeds_k27_whole_far_rows) kE),{18,0,21,31})
def ES (w:Q2)(os:Ry):=HD.kS treeTable PySem.Challenge.pw_leastdeeds_k27_whole_far_rows w 11 (some (.ref 6)) 954 (EZ w.params os) (PySem.W.piecesOf (((PySem.W.behindTheImports PySem.Challenge.pw_leastdeeds_k27_whole_far_rows).drop 9).take 34) kE (.body (PySem.W.behindTheImports PySem.Challenge.pw_leastdeeds_k27_whole_far_rows) kE) {18,0,21,31} [PySem.W.topFrame {0,0,0,0}])
def EN (w:Q2)(os:Ry):Option (Flow×RB×Code×Pos):=some (.next,EY w.params os,(.body (PySem.W.behindTheImports PySem.Challenge.pw_leastdeeds_k27_whole_far_rows) kE),{125,0,125,9})
def ER (w:Q2)(os:Ry):=HD.kS treeTable PySem.Challenge.pw_leastdeeds_k27_whole_far_rows w 11 (some (.ref 6)) 954 (EY w.params os) (PySem.W.piecesOf ((((PySem.W.behindTheImports PySem.Challenge.pw_leastdeeds_k27_whole_far_rows).drop 9).drop 34).take 35) kE (.body (PySem.W.behindTheImports PySem.Challenge.pw_leastdeeds_k27_whole_far_rows) kE) {125,0,125,9} [PySem.W.topFrame {0,0,0,0}])
def EM (w:Q2)(os:Ry):Option (Flow×RB×Code×Pos):=some (.next,EX w.params os,(.body (PySem.W.behindTheImports PySem.Challenge.pw_leastdeeds_k27_whole_far_rows) kE),{335,0,347,65})
def kR (w:Q2)(os:Ry):=HD.gR treeTable PySem.Challenge.pw_leastdeeds_k27_whole_far_rows w 11 (some (.ref 6)) 3400 (EX w.params os) (PySem.W.restOf ((((PySem.W.behindTheImports PySem.Challenge.pw_leastdeeds_k27_whole_far_rows).drop 9).drop 34).drop 35) kE (.body (PySem.W.behindTheImports PySem.Challenge.pw_leastdeeds_k27_whole_far_rows) kE) {335,0,347,65} [PySem.W.topFrame {0,0,0,0}])
abbrev Kx (P:Sd)(s:RB):=HD.kW PySem.Challenge.pw_leastdeeds_k27_whole_far_rows kq pF kX true (PySem.W.boot_heap P) (λs=>KG.map s.heap.get?) s.abs
def EW (w:Q2)(os:Ry):=(kR w os).map λs=>(Kx w.params s).1
def EV (w:Q2)(os:Ry):=(kR w os).map λs=>(Kx w.params s).2.1
def EU (w:Q2)(os:Ry):=(kR w os).map λs=>(Kx w.params s).2.2
def E3 (w:Q2):=some true
def E2 (w:Q2):=some (PySem.W.openGood kq pF)
def E1 (w:Q2):=some ((kh w.params).map λp=>some p.2)
def _root_.PySem.W.Fast.tw13090012313730158271:Q0:=PySem.Challenge.pw_leastdeeds_k27_whole_far_rows
def _root_.PySem.W.Fast.te13090012313730158271:PySem.Challenge.pw_leastdeeds_k27_whole_far_rows=PySem.W.Fast.tw13090012313730158271:=rfl
def _root_.PySem.W.Fast.tw14491980793723450885:Sd->Ql:=K27.kh
def _root_.PySem.W.Fast.te14491980793723450885:K27.kh=PySem.W.Fast.tw14491980793723450885:=rfl
def _root_.PySem.W.Fast.tw12694084780331060650:Sd->Ry->RB:=K27.EZ
def _root_.PySem.W.Fast.te12694084780331060650:K27.EZ=PySem.W.Fast.tw12694084780331060650:=rfl
def _root_.PySem.W.Fast.tw15711400459265849318:Sd->Ry->RB:=K27.EY
def _root_.PySem.W.Fast.te15711400459265849318:K27.EY=PySem.W.Fast.tw15711400459265849318:=rfl
def _root_.PySem.W.Fast.tw7262274427933796189:Sd->Ry->RB:=K27.EX
def _root_.PySem.W.Fast.te7262274427933796189:K27.EX=PySem.W.Fast.tw7262274427933796189:=rfl
def Pp:EW=EW:=rfl
name_quick kq1_27 for EW by Pp
def Po:EV=EV:=rfl
name_quick kq2_27 for EV by Po
def Pr:E2=E2:=rfl
name_quick kg2_27 for E2 by Pr
def Pn:EU=EU:=rfl
name_quick kq3_27 for EU by Pn
def Pq:E1=E1:=rfl
name_quick kg3_27 for E1 by Pq
def Pm:ET=ET:=rfl
name_quick kua27 for ET by Pm
def Ph:EO=EO:=rfl
name_quick kva27 for EO by Ph
def Pk:ES=ES:=rfl
name_quick kub27 for ES by Pk
def Pf:EN=EN:=rfl
name_quick kvb27 for EN by Pf
def Pj:ER=ER:=rfl
name_quick kuc27 for ER by Pj
def Pe:EM=EM:=rfl
name_quick kvc27 for EM by Pe
def AB:∀(w:Q2) (os:Ry),PySem.W.Fast.kua27 (w.withFollow "special-get-raises" false) os=PySem.W.Fast.kva27 (w.withFollow "special-get-raises" false) os:=λw os=>by kernel_rfl
def C1:∀(w:Q2) (os:Ry),PySem.W.Fast.kua27 (w.withFollow "special-get-raises" true) os=PySem.W.Fast.kva27 (w.withFollow "special-get-raises" true) os:=λw os=>by kernel_rfl
def ka0:∀(w:Q2) (os:Ry),ET w os=EO w os:=λw os=>by
 rw[PySem.W.Fast.kua27_eq,PySem.W.Fast.kva27_eq];exact PySem.W.byRow2 "special-get-raises" (P:=λw=>PySem.W.Fast.kua27 w os=PySem.W.Fast.kva27 w os) (λw=>AB w os) (λw=>C1 w os) w
def AA:∀(w:Q2) (os:Ry),PySem.W.Fast.kub27 (w.withFollow "special-get-raises" false) os=PySem.W.Fast.kvb27 (w.withFollow "special-get-raises" false) os:=λw os=>by kernel_rfl
def C0:∀(w:Q2) (os:Ry),PySem.W.Fast.kub27 (w.withFollow "special-get-raises" true) os=PySem.W.Fast.kvb27 (w.withFollow "special-get-raises" true) os:=λw os=>by kernel_rfl
def ka1:∀(w:Q2) (os:Ry),ES w os=EN w os:=λw os=>by
 rw[PySem.W.Fast.kub27_eq,PySem.W.Fast.kvb27_eq];exact PySem.W.byRow2 "special-get-raises" (P:=λw=>PySem.W.Fast.kub27 w os=PySem.W.Fast.kvb27 w os) (λw=>AA w os) (λw=>C0 w os) w
def Az:∀(w:Q2) (os:Ry),PySem.W.Fast.kuc27 (w.withFollow "special-get-raises" false) os=PySem.W.Fast.kvc27 (w.withFollow "special-get-raises" false) os:=λw os=>by kernel_rfl
def CZ:∀(w:Q2) (os:Ry),PySem.W.Fast.kuc27 (w.withFollow "special-get-raises" true) os=PySem.W.Fast.kvc27 (w.withFollow "special-get-raises" true) os:=λw os=>by kernel_rfl
def ka2:∀(w:Q2) (os:Ry),ER w os=EM w os:=λw os=>by
 rw[PySem.W.Fast.kuc27_eq,PySem.W.Fast.kvc27_eq];exact PySem.W.byRow2 "special-get-raises" (P:=λw=>PySem.W.Fast.kuc27 w os=PySem.W.Fast.kvc27 w os) (λw=>Az w os) (λw=>CZ w os) w
def Au:∀(w:Q2) (os:Ry),PySem.W.Fast.kq1_27 (w.withFollow "special-get-raises" false) os=E3 (w.withFollow "special-get-raises" false):=λw os=>by kernel_rfl
def CV:∀(w:Q2) (os:Ry),PySem.W.Fast.kq1_27 (w.withFollow "special-get-raises" true) os=E3 (w.withFollow "special-get-raises" true):=λw os=>by kernel_rfl
def kl1:∀(w:Q2) (os:Ry),EW w os=E3 w:=λw os=>by
 rw[PySem.W.Fast.kq1_27_eq];exact PySem.W.byRow2 "special-get-raises" (P:=λw=>PySem.W.Fast.kq1_27 w os=E3 w) (λw=>Au w os) (λw=>CV w os) w
def As:∀(w:Q2) (os:Ry),PySem.W.Fast.kq2_27 (w.withFollow "special-get-raises" false) os=PySem.W.Fast.kg2_27 (w.withFollow "special-get-raises" false):=λw os=>by kernel_rfl
def CU:∀(w:Q2) (os:Ry),PySem.W.Fast.kq2_27 (w.withFollow "special-get-raises" true) os=PySem.W.Fast.kg2_27 (w.withFollow "special-get-raises" true):=λw os=>by kernel_rfl
def kl2:∀(w:Q2) (os:Ry),EV w os=E2 w:=λw os=>by
 rw[PySem.W.Fast.kq2_27_eq,PySem.W.Fast.kg2_27_eq];exact PySem.W.byRow2 "special-get-raises" (P:=λw=>PySem.W.Fast.kq2_27 w os=PySem.W.Fast.kg2_27 w) (λw=>As w os) (λw=>CU w os) w
def Ar:∀(w:Q2) (os:Ry),PySem.W.Fast.kq3_27 (w.withFollow "special-get-raises" false) os=PySem.W.Fast.kg3_27 (w.withFollow "special-get-raises" false):=λw os=>by kernel_rfl
def CT:∀(w:Q2) (os:Ry),PySem.W.Fast.kq3_27 (w.withFollow "special-get-raises" true) os=PySem.W.Fast.kg3_27 (w.withFollow "special-get-raises" true):=λw os=>by kernel_rfl
def kl3:∀(w:Q2) (os:Ry),EU w os=E1 w:=λw os=>by
 rw[PySem.W.Fast.kq3_27_eq,PySem.W.Fast.kg3_27_eq];exact PySem.W.byRow2 "special-get-raises" (P:=λw=>PySem.W.Fast.kq3_27 w os=PySem.W.Fast.kg3_27 w) (λw=>Ar w os) (λw=>CT w os) w
def kp:∀(w:Q2) (os:Ry),(kP w os).map (·.2)=some {denote treeTable (.body (PySem.W.behindTheImports PySem.Challenge.pw_leastdeeds_k27_whole_far_rows) kE),(.body (PySem.W.behindTheImports PySem.Challenge.pw_leastdeeds_k27_whole_far_rows) kE),{0,0,0,0},[PySem.W.topFrame {0,0,0,0}]}:=λw os=>by kernel_rfl
def MU:PySem.W.LeftO xQ.prog kq pF kX kH.obs kH.val 6654:=HD.vf (m0:=11) (ann:=some (.ref 6)) (PySem.W.boot_open `r `d (λ_=>rfl)) (λw=>by kernel_rfl) λw os=>HD.A1 (J:=9) (kp w os) (by kernel_rfl) (ka0 w os) (HD.uJ (J:=34) (ka1 w os) (HD.uJ (J:=35) (ka2 w os) (HD.A0 (kl1 w os) (kl2 w os) (kl3 w os))))
end K27
namespace L2
open PySem PySem.Spec PyProof.Rows
abbrev Key:=Sum Int Str
noncomputable def sk:Key->Qo->Bool
 |.inl k,v=>Value.isInt k v
 |.inr x,v=>Value.isStrOf x v
noncomputable def Pc (w:Q2):Key->Int
 |.inl k=>hashInt k
 |.inr x=>hashStr w x
def cS:∀{k:Key}{v:Qo},sk k v=true->(∃i t,k=Sum.inl i/\v=Value.int i t)\/(∃x t,k=Sum.inr x/\v=Value.str x t)
 | .inl i, v, h => by
   obtain⟨t,e⟩:=Value.isInt_shape (k:=i) (v:=v) h;exact .inl ⟨i,t,rfl,e⟩
 | .inr x, v, h => by
   obtain⟨t,e⟩:=Value.isStrOf_shape (x:=x) (v:=v) h;exact .inr ⟨x,t,rfl,e⟩
def jz (x:Str)(t:Tok):sk (.inr x) (.str x t)=true:=by simp[sk,Value.isStrOf]
def KC (a b:Int):decide ((Sum.inl a:Key)=Sum.inl b)=(a==b):=by
 by_cases e:a=b
 ·subst e;simp
 ·have h:¬ (Sum.inl a:Key)=Sum.inl b:=λq=>e (Sum.inl.inj q);rw[decide_eq_false h];exact(RW.mpr e).symm
def Ky (a b:Str):decide ((Sum.inr a:Key)=Sum.inr b)=decide (a=b):=by
 by_cases e:a=b
 ·subst e;simp
 ·have h:¬ (Sum.inr a:Key)=Sum.inr b:=λq=>e (Sum.inr.inj q);rw[decide_eq_false h,decide_eq_false e]
def KA (a:Int)(b:Str):decide ((Sum.inl a:Key)=Sum.inr b)=false:=decide_eq_false (λq=>nomatch q)
def Kz (a:Str)(b:Int):decide ((Sum.inr a:Key)=Sum.inl b)=false:=decide_eq_false (λq=>nomatch q)
def j9 (prog:Q0)(w:Q2):PySem.KeyKind prog w Key where
 is:=sk
 hash:=Pc w
 inj:=λv a b F B=>by
  rcases cS F with⟨i,t,rfl,rfl⟩|⟨x,t,rfl,rfl⟩
  ·rcases cS B with⟨j,u,rfl,e⟩|⟨y,u,rfl,e⟩
   ·injection e with e1 _;rw[e1]
   ·exact nomatch e
  ·rcases cS B with⟨j,u,rfl,e⟩|⟨y,u,rfl,e⟩
   ·exact nomatch e
   ·injection e with e1 _;rw[e1]
 byValue:=λk v h=>by
  rcases cS h with⟨i,t,rfl,rfl⟩|⟨x,t,rfl,rfl⟩<;>rfl
 pyHash:=λz h=>by
  rcases cS z with⟨i,t,rfl,rfl⟩|⟨x,t,rfl,rfl⟩
  ·exact wpAny_pyHash_int h
  ·exact wpAny_pyHash_str h
 eqBool:=λI z h=>by
  rcases cS I with⟨i,t,rfl,rfl⟩|⟨x,t,rfl,rfl⟩
  ·rcases cS z with⟨j,u,rfl,rfl⟩|⟨y,u,rfl,rfl⟩
   ·rw[KC] at h;exact wpAny_eqBool_int h
   ·rw[KA] at h;exact SeqAt.EqAt.int_str i t y u _ _ _ _ h
  ·rcases cS z with⟨j,u,rfl,rfl⟩|⟨y,u,rfl,rfl⟩
   ·rw[Kz] at h;exact SeqAt.EqAt.str_int x t j u _ _ _ _ h
   ·rw[Ky] at h;exact wpAny_eqBool_str h
 «strs»:=λk x t v h=>by
  rcases cS h with⟨i,u,rfl,e⟩|⟨y,u,rfl,e⟩
  ·exact nomatch e
  ·injection e with e1 _
   subst e1;cases v<;>rfl
inductive V where
 |non|bl (b:Bool)|int (i:Int)|str (x:Str)|byt (b:Array UInt8)|flt (b:UInt64)|ref (a:Addr)|ty (n:String)
 deriving DecidableEq
def RelV:V->Qo->Prop
 |.non,u=>u=Value.none
 |.bl b,u=>u=Value.bool b
 |.int i,u=>∃t,u=Value.int i t
 |.str x,u=>∃t,u=Value.str x t
 |.byt b,u=>∃t,u=Value.bytes b t
 |.flt b,u=>∃t,u=Value.float b t
 |.ref a,u=>u=Value.ref a
 |.ty n,u=>u=Value.type n
abbrev Vals:List V->List Qo->Prop:=R7 RelV
def Vals.length {xs:List V}{us:List Qo}(r:Vals xs us):xs.length=us.length:=Paired.length r
def Vals.get:∀{xs:List V}{us:List Qo}{i:Nat}{x:V},Vals xs us->xs[i]?=some x->∃u,us[i]?=some u/\RelV x u
 |_,_,_,_,.nil,e=>by simp at e
 |_,_,0,_,.cons r _,e=>by simp at e;subst e;exact{_,rfl,r}
 | _, _, i + 1, x, .cons _ t, e => by
   obtain⟨u,h1,h2⟩:=Vals.get (i:=i) (x:=x) t (by simpa using e)
   exact{u,by simpa using h1,h2}
def Vals.set {x:V}{u:Qo}(r:RelV x u):∀{xs:List V}{us:List Qo} (i:Nat),Vals xs us->Vals (xs.set i x) (us.set i u)
 |_,_,_,.nil=>.nil
 |_,_,0,.cons _ t=>.cons r t
 |_,_,i+1,.cons q t=>.cons q (Vals.set r i t)
def Vals.append:∀{xs ys:List V}{us ws:List Qo},Vals xs us->Vals ys ws->Vals (xs++ys) (us++ws)
 |_,_,_,_,.nil,s=>s
 |_,_,_,_,.cons r t,s=>.cons r (Vals.append t s)
def Vals.take:∀{xs:List V}{us:List Qo} (n:Nat),Vals xs us->Vals (xs.take n) (us.take n)
 |_,_,0,_=>.nil
 |_,_,_+1,.nil=>.nil
 |_,_,n+1,.cons r t=>.cons r (Vals.take n t)
def Vals.drop:∀{xs:List V}{us:List Qo} (n:Nat),Vals xs us->Vals (xs.drop n) (us.drop n)
 |_,_,0,r=>r
 |_,_,_+1,.nil=>.nil
 |_,_,n+1,.cons _ t=>Vals.drop n t
def DF:Option V->Option Qo->Prop
 |some v,some u=>RelV v u
 |none,none=>True
 |_,_=>False
def KV {j:Type}:List (j×V)->List (j×Qo)->Prop:=R7 λ(p:j×V) (q:j×Qo)=>p.1=q.1/\RelV p.2 q.2
noncomputable def kV:Key->V
 |.inl i=>.int i
 |.inr x=>.str x
inductive HO where
 |lst (xs:List V)
 |tup (xs:List V)
 |dK (kvs:List (Key×V))|dT (kvs:List (List Key×V))
 |set (S:Int->Bool) (n:Nat)
 |ins (C dx:Addr) (fs:List (Str×V))
 |own (x:Addr)
 |xd (fs:List (Str×V))
 |met (f x:Addr)
 |rng (lo hi:Int)
 |frz (o:Obj) (u:HO)
 |tbl (ps:Array Qo)
 |ext (φ:Heap->Prop)
 |dn (es:List RK)
abbrev Hp:=Addr->Option HO
noncomputable def upd (H:Hp)(a:Addr)(o:HO):Hp:=λb=>if b=a then some o else H b
def bA {H:Hp}{a:Addr}{o:HO}:upd H a o a=some o:=by unfold upd;rw[if_pos rfl]
def ao {H:Hp}{a b:Addr}{o:HO}(h:b≠a):upd H a o b=H b:=by unfold upd;rw[if_neg h]
def aV {H:Hp}{a b:Addr}{o:HO}(h:H a=some o)(h':H b=none):a≠b:=by
 intro e;subst e;rw[h] at h';cases h'
section
variable(P:Q0)(w:Q2)
def cf (H:Hp)(h:Heap)(a:Addr):HO->Prop
 |.lst xs=>xs.length<=sizeLine/\∃(j:List Qo) (n:Nat),Vals xs j/\h.get? a=some {cls:=.type "list",data:=.seq j.toArray n}
 |.tup xs=>xs.length<=sizeLine/\∃j:List Qo,Vals xs j/\IsTup h a j.toArray
 |.dK y=>y.length<=sizeLine/\(a==sysModules)=false/\∃B,KV y B/\h.DictOf (j9 P w) a B
 |.dT y=>y.length<=sizeLine/\(a==sysModules)=false/\∃xs:List (List Key×Addr×Qo),
  R7 (λ(p:List Key×V) (q:List Key×Addr×Qo)=>p.1=q.1/\H q.2.1=some (.tup (p.1.map kV))/\RelV p.2 q.2.2) y xs/\
  ∃o es F,h.get? a=some o/\o.ExactDict/\o.data=.dict es F/\es.toList=xs.map (entryOfKey (tupleKind (j9 P w)))/\(xs.map (·.1)).Nodup
 |.set S n=>h.SetOf (intKind P w) a S n
 |.ins C dx fs=>H dx=some (.own a)/\fs.length<=1000/\dx≠a/\h.get? a=some (PySem.W.instObj C dx)/\
  ∃mA,h.Ns1 dx mA/\(∀f,DF (fs.lookup f) (mA f))/\PySem.Within mA (fs.map (·.1))
 |.own _=>∃o,h.get? a=some o
 |.xd fs=>∃mA,h.Ns1 a mA/\∀f,DF (fs.lookup f) (mA f)
 |.rng lo hi=>∃t u v,h.get? a=some {cls:=.type "range",data:=.fields #[.int lo t,.int hi u,.int 1 v]}
 |.frz o u=>h.get? a=some o/\cf H h a u
 |.tbl ps=>h.get? a=some {cls:=.none,data:=.fields ps}
 |.met f x=>h.get? a=some (PySem.W.methodObj (.ref f) (.ref x))
 |.ext z=>z h/\(∃o,h.get? a=some o)/\∀h1 h2:Heap,z h1->(∀o,h1.get? a=some o->h2.get? a=some o)->z h2
 |.dn es=>es.length<=sizeLine/\(a==sysModules)=false/\∃o,h.get? a=some o/\o.ExactDict/\o.data=.dict es.toArray es.length
def d4 (H:Hp)(h:Heap):Prop:=∀a o,H a=some o->cf P w H h a o
end
section
variable{P:Q0}{w:Q2}{H H':Hp}{h h':Heap}{a:Addr}{o:HO}
def cf.lt (x:cf P w H h a o):a<h.objs.size:=by
 cases o with
 |lst xs=>obtain⟨_,_,_,_,e⟩:=x;exact QG e
 |tup xs=>obtain⟨_,_,_,p⟩:=x;exact p.lt
 |dK j=>obtain⟨_,_,_,_,o,_,_,e,_⟩:=x;exact QG e
 |dT j=>obtain⟨_,_,_,_,o,_,_,e,_⟩:=x;exact QG e
 |set S n=>obtain⟨o,_,_,_,e,_⟩:=x;exact QG e
 |ins C dx fs=>obtain⟨_,_,_,e,_⟩:=x;exact QG e
 |own y=>obtain⟨_,e⟩:=x;exact QG e
 |xd fs=>obtain⟨_,⟨_,_,_,e,_⟩,_⟩:=x;exact QG e
 |rng lo hi=>obtain⟨_,_,_,e⟩:=x;exact QG e
 |frz ob u=>obtain⟨e,_⟩:=x;exact QG e
 |tbl ps=>exact QG (show h.get? a=some _ from x)
 |met f y=>exact QG (show h.get? a=some _ from x)
 |ext z=>obtain⟨_,⟨_,e⟩,_⟩:=x;exact QG e
 |dn es=>obtain⟨_,_,_,e,_⟩:=x;exact QG e
def R7.mapP {j y:Type}{F G:j->y->Prop}:∀{l₁:List j}{l₂:List y},R7 F l₁ l₂->(∀a b,F a b->G a b)->R7 G l₁ l₂
 |_,_,.nil,_=>.nil
 |_,_,.cons r t,f=>.cons (f _ _ r) (R7.mapP t f)
def cf.stay (x:cf P w H h a o)(k:∀b u,(b=a\/H b=some (.own a))->h.get? b=some u->h'.get? b=some u)
 (ho:∀b,H b=some (.own a)->H' b=some (.own a)) (I:∀b xs,H b=some (.tup xs)->H' b=some (.tup xs)):cf P w H' h' a o:=by
 induction o with
 |lst xs=>obtain⟨z,B,n,r,e⟩:=x;exact{z,B,n,r,k _ _ (.inl rfl) e}
 |tup xs=>obtain⟨z,B,r,ob,e,c⟩:=x;exact{z,B,r,ob,k _ _ (.inl rfl) e,c}
 |dK F=>obtain⟨z,y,L,r,ob,es,j,e,c⟩:=x;exact{z,y,L,r,ob,es,j,k _ _ (.inl rfl) e,c}
 | dT F =>
   obtain⟨z,y,xs,r,ob,es,j,e,c⟩:=x;exact{z,y,xs,R7.mapP r λp q z=>{z.1,I _ _ z.2.1,z.2.2},ob,es,j,k _ _ (.inl rfl) e,c}
 |set S n=>obtain⟨ob,es,j,t,e,c⟩:=x;exact{ob,es,j,t,k _ _ (.inl rfl) e,c}
 | ins C dx fs =>
   obtain⟨d,z,ne,e,mA,⟨od,es,j,e2,c⟩,r⟩:=x;exact{ho _ d,z,ne,k _ _ (.inl rfl) e,mA,{od,es,j,k _ _ (.inr d) e2,c},r}
 |own y=>obtain⟨ob,e⟩:=x;exact{ob,k _ _ (.inl rfl) e}
 |xd fs=>obtain⟨mA,⟨od,es,j,e,c⟩,r⟩:=x;exact{mA,{od,es,j,k _ _ (.inl rfl) e,c},r}
 |rng lo hi=>obtain⟨t,u,v,e⟩:=x;exact{t,u,v,k _ _ (.inl rfl) e}
 |frz ob u J=>obtain⟨e,q⟩:=x;exact{k _ _ (.inl rfl) e,J q}
 | tbl ps =>
   have e:h.get? a=some {cls:=.none,data:=.fields ps}:=x;show h'.get? a=some {cls:=.none,data:=.fields ps};exact k a _ (.inl rfl) e
 | met f y =>
   have e:h.get? a=some (PySem.W.methodObj (.ref f) (.ref y)):=x;show h'.get? a=some (PySem.W.methodObj (.ref f) (.ref y));exact k a _ (.inl rfl) e
 |ext M=>obtain⟨p,⟨o,e⟩,st⟩:=x;exact{st _ _ p λo q=>k _ _ (.inl rfl) q,{o,k _ _ (.inl rfl) e},st}
 |dn es=>obtain⟨z,y,o,e,c⟩:=x;exact{z,y,o,k _ _ (.inl rfl) e,c}
def d4.lt (x:d4 P w H h)(e:H a=some o):a<h.objs.size:=(x a o e).lt
def d4.fresh (x:d4 P w H h)(e:h.objs.size<=a):H a=none:=by
 cases q:H a with
 |none=>rfl
 |some u=>exact absurd (QT (x.lt q) e) (RO _)
def d4.kept (x:d4 P w H h)(k:∀b u,h.get? b=some u->h'.get? b=some u):d4 P w H h':=λa o e=>
 (x a o e).stay (λb u _ q=>k b u q) (λ_ q=>q) λ_ _ q=>q
def d4.laid (x:d4 P w H h)(k:∀b u,h.get? b=some u->h'.get? b=some u)(y:h.objs.size<=a)(new:cf P w (upd H a o) h' a o):d4 P w (upd H a o) h':=λb u e=>by
 have hn:=x.fresh y;by_cases j:b=a
 ·subst j;rw[bA] at e;cases e;exact new
 ·rw[ao j] at e;exact(x b u e).stay (λc v _ q=>k c v q) (λc q=>by rw[ao (aV q hn)];exact q) λc xs q=>by rw[ao (aV q hn)];exact q
end
def Rd (H:Hp)(a:Addr)(u:HO):Prop:=H a=some u\/∃o,H a=some (.frz o u)
def Rd.ok {P:Q0}{w:Q2}{H:Hp}{h:Heap}{a:Addr}{u:HO}(r:Rd H a u)(x:d4 P w H h):cf P w H h a u:=by
 rcases r with r|⟨o,r⟩
 ·exact x a u r
 ·obtain⟨_,q⟩:=x a _ r;exact q
def Fo:Option HO->Prop
 |some (.lst _)=>True
 |some (.dK _)=>True
 |some (.dT _)=>True
 |some (.set _ _)=>True
 |some (.ins _ _ _)=>True
 |some (.ext _)=>True
 |some (.dn _)=>True
 |_=>False
section
variable{P:Q0}{w:Q2}{H:Hp}{h h':Heap}{x e:Addr}{o':HO}
def d4.write (ok:d4 P w H h)(mu:Fo (H x))(he:e=x\/H e=some (.own x))(k:∀b u,b≠e->h.get? b=some u->h'.get? b=some u)(L:∃u,h'.get? e=some u)
 (new:cf P w (upd H x o') h' x o'):d4 P w (upd H x o') h':=λb u q=>by
 have B:∀c y,H c=some (.own y)->c≠x:=λc y r z=>by subst z;rw[r] at mu;exact mu
 have F:∀c xs,H c=some (.tup xs)->c≠x:=λc xs r z=>by subst z;rw[r] at mu;exact mu
 by_cases I:b=x
 ·subst I;rw[bA] at q;cases q;exact new
 ·rw[ao I] at q;by_cases j:b=e
  ·have M:H b=some (.own x):=by
    rcases he with z|z
    ·exact absurd (j.trans z) I
    ·rw[j];exact z
   rw[q] at M;cases M;obtain⟨v,O⟩:=L;exact{v,by rw[j];exact O}
  ·refine(ok b u q).stay (λc v J r=>k c v ?_ r) (λc r=>by rw[ao (B c b r)];exact r) λc xs r=>by rw[ao (F c xs r)];exact r
   rcases J with rfl|J
   ·exact j
   ·rintro rfl;rcases he with z|z
    ·exact B c b J z
    ·rw[J] at z;cases z;exact I rfl
end
structure Un (fs ex:List Addr) (H H':Hp) (h h':Heap):Prop where
 keep:∀b o,h.get? b=some o->H b=none->b∉fs->b∉ex->h'.get? b=some o
 slot:∀b o,h.get? b=some o->H b=none->b∈fs->b∉ex->∃sl,h'.get? b=some {o with slots:=sl}
 free:∀b o,h.get? b=some o->H b=none->b∉ex->H' b=none
 there:∀b o,h.get? b=some o->b∉ex->∃o',h'.get? b=some o'
 tups:∀b xs,H b=some (.tup xs)->H' b=some (.tup xs)
 frzs:∀b o u,H b=some (.frz o u)->H' b=some (.frz o u)
 tbls:∀b ps,H b=some (.tbl ps)->∃more,H' b=some (.tbl (ps++more))
section
variable{fs fs' ex ex':List Addr}{H H1 H2:Hp}{h h1 h2 h':Heap}{a x e:Addr}{o:HO}
def Un.any (u:Un fs ex H H1 h h1){b:Addr}{ob:Obj}(q:h.get? b=some ob)(n:H b=none)(y:b∉ex):∃sl,h1.get? b=some {ob with slots:=sl}:=by
 by_cases j:b∈fs
 ·exact u.slot b ob q n j y
 ·exact{ob.slots,u.keep b ob q n j y}
def Un.kept (k:∀b u,h.get? b=some u->h'.get? b=some u):Un fs ex H H h h':=
 {λb ob q _ _ _=>k b ob q,λb ob q _ _ _=>{ob.slots,k b ob q},λ_ _ _ n _=>n,λb ob q _=>{ob,k b ob q},λ_ _ q=>q,λ_ _ _ q=>q,λ_ ps q=>{#[],by rw[q];simp}}
def Un.refl:Un fs ex H H h h:=Un.kept λ_ _ q=>q
def Un.laid (k:∀b u,h.get? b=some u->h'.get? b=some u)(j:h.objs.size<=a)(hn:H a=none):Un fs ex H (upd H a o) h h' where
 keep:=λb u q _ _ _=>k b u q
 slot:=λb u q _ _ _=>{u.slots,k b u q}
 free:=λb u q n _=>by rw[ao (QW (QT (QG q) j))];exact n
 there:=λb u q _=>{u,k b u q}
 tups:=λb xs q=>by rw[ao (aV q hn)];exact q
 frzs:=λb u xs q=>by rw[ao (aV q hn)];exact q
 tbls:=λb ps q=>{#[],by rw[ao (aV q hn),q];simp}
def Un.write (mu:Fo (H x))(he:e=x\/H e=some (.own x))(k:∀b u,b≠e->h.get? b=some u->h'.get? b=some u)(y:∃u,h'.get? e=some u):Un fs ex H (upd H x o) h h':=by
 have F:∀b,H b=none->b≠x:=λb n z=>by subst z;rw[n] at mu;exact mu
 have B:∀b,H b=none->b≠e:=λb n z=>by
  subst z;rcases he with r|r
  ·exact F b n r
  ·rw[n] at r;cases r
 have hm:∀b u,H b=some u->¬ Fo (some u)->b≠x:=λb u q nm z=>by subst z;rw[q] at mu;exact nm mu
 refine{λb u q n _ _=>k b u (B b n) q,λb u q n _ _=>{u.slots,k b u (B b n) q},λb u q n _=>by rw[ao (F b n)];exact n,λb u q _=>?_,
  λb xs q=>by rw[ao (hm b _ q λz=>z)];exact q,λb u xs q=>by rw[ao (hm b _ q λz=>z)];exact q,λb ps q=>{#[],by rw[ao (hm b _ q λz=>z),q];simp}}
 by_cases j:b=e
 ·subst j;exact y
 ·exact{u,k b u j q}
end
noncomputable def Ed (h:Heap)(H:Hp):List Addr:=(List.range h.objs.size).filter λa=>(H a).isSome
def lj (h:Heap)(H:Hp):Heap:=PySem.W.hideAll h (Ed h H)
def AM (h:Heap)(H:Hp):(lj h H).objs.size=h.objs.size:=PySem.W.hideAll_size _ _
def C9 {h:Heap}{H:Hp}{b:Addr}{o:Obj}(e:h.get? b=some o)(n:H b=none):(lj h H).get? b=some o:=
 PySem.W.hideAll_get _ e λhm=>by
  have q:(H b).isSome=true:=(RM.mp hm).2;rw[n] at q;simp at q
def G0 {h:Heap}{H:Hp}{b:Addr}{o:Obj}(e:(lj h H).get? b=some o):h.get? b=some o/\H b=none:=by
 have j:h.get? b=some o:=PySem.W.of_hideAll (Ed h H) e;refine{j,?_};cases q:H b with
 |none=>rfl
 | some x =>
   have hm:b∈Ed h H:=RM.mpr {RT.mpr (QG j),by simp[q]}
   have z:(lj h H).get? b=none:=PySem.W.hideAll_none (Ed h H) hm;rw[z] at e;cases e
structure Mod (K:Ql) (mg:Str->Option Qo) (base:Heap):Prop where
 kin:K.In base
 glob:base.Ns mainGlobals mg
 blt:∃mb,base.Ns builtinsNs mb/\∀x:Str,x≠"__name__"->mb x=bootBuiltins x
 nolimit:base.NoLimit
structure Cx where
 prog:Q0
 w:Q2
 K:Ql
 mg:Str->Option Qo
 base:Heap
 A:RL
 N:List Str
 s₀:Qr
 H₀:Hp
 env:Env
 outer:List Env
 stack:List Env
 ex:List Addr
 fn:Str->Bool
 calm:Bool
 pn:List (Addr×Obj)
 xe:Qo->Qr->Prop
noncomputable def fK (l:List Env):List Addr:=l.filterMap (·.frame)
abbrev Cx.fs (X:Cx):List Addr:=fK X.outer
def u7 (sc:Scope)(x:Str):Prop:=sc.names.lookup x=some .local\/sc.names.lookup x=some .cell\/sc.names.lookup x=some .free
def Loc (sc:Scope)(x:Str):Prop:=sc.names.lookup x=some .local\/sc.names.lookup x=some .cell
def Look (env:Env)(h:Heap)(m:Str->Option Qo)(x:Str)(u:Qo):Prop:=
 (env.kindOf x=some .local/\m x=some u)\/((env.kindOf x=some .cell\/env.kindOf x=some .free)/\∃c,env.cells.lookup x=some c/\h.IsCell c (some u))
structure Cx.Ok (X:Cx):Prop where
 mod:Mod X.K X.mg X.base
 kind:X.env.scope.kind=.function
 glob:X.env.globals=mainGlobals
 blt:X.env.builtins=builtinsNs
 above:X.s₀.heap.objs.size<=X.env.locals
 inj:∀x y c,X.env.cells.lookup x=some c->X.env.cells.lookup y=some c->x=y
 has:∀x,(X.env.kindOf x=some .cell\/X.env.kindOf x=some .free)->∃c,X.env.cells.lookup x=some c
 cab:∀x c,X.fn x=true->X.env.cells.lookup x=some c->X.s₀.heap.objs.size<=c
 hd:X.calm=true->X.A.handled=none
 frames:X.A.frames=some X.stack
 stk:X.stack=X.outer\/(X.stack=X.env::X.outer/\X.env.frame=some X.env.locals)
 exf:∀b∈X.ex,b≠X.env.locals/\∀x c,X.env.cells.lookup x=some c->c≠b
 bs:∀b o,X.base.get? b=some o->X.s₀.heap.get? b=some o/\X.H₀ b=none
 bsz:X.base.objs.size<=X.s₀.heap.objs.size
 noex:∀b o,X.base.get? b=some o->b∉X.ex
 exfs:∀b∈X.ex,b∉X.fs
 funs:X.s₀.heap.FunFrames X.base X.outer
 frf:∀b∈X.fs,X.H₀ b=none
structure Inv (X:Cx) (pins:List (Addr×Obj)) (σ:List (Option V)) (H:Hp) (s:Qr):Prop where
 ok:X.Ok
 os:s.os=X.s₀.os
 bare:AllBare s.gens
 base:Un X.fs X.ex X.H₀ H X.s₀.heap s.heap
 loc:∃m,s.heap.Ns X.env.locals m/\∀(i:Nat) (x:Str) (v:V),X.N[i]?=some x->σ[i]?=some (some v)->u7 X.env.scope x->∃u,RelV v u/\Look X.env s.heap m x u
 cell:∀x c,X.env.cells.lookup x=some c->∃v,s.heap.IsCell c v
 free:H X.env.locals=none
 freeC:∀x c,X.env.cells.lookup x=some c->H c=none
 pin:∀p∈X.pn++pins,s.heap.get? p.1=some p.2/\H p.1=none/\p.1≠X.env.locals/\p.1∉X.fs/\∀v,p.2.data≠.cell v
 hok:d4 X.prog X.w H s.heap
 len:σ.length=X.N.length
section
variable{X:Cx}{pins:List (Addr×Obj)}{σ:List (Option V)}{H H':Hp}{s:Qr}{h':Heap}
def Cx.Ok.nofr (ok:X.Ok){b:Addr}{o:Obj}(e:X.base.get? b=some o):b∉X.fs:=λj=>by
 have:=(ok.funs.mem j).1;rw[e] at this;cases this
def Inv.bs (I:Inv X pins σ H s):∀b o,X.base.get? b=some o->s.heap.get? b=some o/\H b=none:=λb o e=>
 {I.base.keep b o (I.ok.bs b o e).1 (I.ok.bs b o e).2 (I.ok.nofr e) (I.ok.noex b o e),I.base.free b o (I.ok.bs b o e).1 (I.ok.bs b o e).2 (I.ok.noex b o e)}
def Inv.bk (I:Inv X pins σ H s):∀b o,X.base.get? b=some o->s.heap.get? b=some o:=λb o e=>(I.bs b o e).1
def Inv.mod (I:Inv X pins σ H s):Mod X.K X.mg X.base:=I.ok.mod
def Inv.kIn (I:Inv X pins σ H s):X.K.In s.heap:=I.ok.mod.kin.keeps I.bk
def Inv.lt (I:Inv X pins σ H s):X.env.locals<s.heap.objs.size:=let{_,hn,_}:=I.loc;hn.lt
def Inv.sz (I:Inv X pins σ H s):X.s₀.heap.objs.size<=s.heap.objs.size:=QF I.ok.above (Sy I.lt)
def Inv.nofs (I:Inv X pins σ H s){a:Addr}(h:s.heap.objs.size<=a):a∉X.fs:=λj=>by
 obtain⟨_,o,ho,_⟩:=I.ok.funs.mem j;exact absurd (QT (QG ho) (QF I.sz h)) (RO _)
def Inv.cne (I:Inv X pins σ H s):∀x c,X.env.cells.lookup x=some c->c≠X.env.locals:=λx c e z=>by
 obtain⟨v,o,ho,hd⟩:=I.cell x c e;obtain⟨m,⟨o',es,B,y,j,_⟩,_⟩:=I.loc;rw[z,y] at ho;cases ho;rw[j] at hd;cases hd
def Inv.funs (I:Inv X pins σ H s):s.heap.FunFrames X.base X.outer:=by
 have all:∀(l:List Env),(∀b∈fK l,b∈X.fs)->X.s₀.heap.FunFrames X.base l->s.heap.FunFrames X.base l:=by
  intro l;induction l with
  |nil=>intro _ _;trivial
  | cons env r J =>
    intro hs hl;obtain⟨F,⟨L,o,B,hn,ho,hd⟩,hr⟩:=hl;have j:L∈X.fs:=hs L (by unfold fK;rw[List.filterMap_cons,B];exact QB)
    obtain⟨sl,e⟩:=I.base.slot L o ho (I.ok.frf L j) j λz=>I.ok.exfs L z j;exact{F,{L,_,B,hn,e,hd},J (λb y=>hs b (by unfold fK;rw[List.filterMap_cons,B];exact Qu _ y)) hr}
 exact all X.outer (λ_ y=>y) I.ok.funs
def Inv.stack (I:Inv X pins σ H s):s.heap.FunFrames X.base X.stack:=by
 rcases I.ok.stk with e|⟨e,j⟩
 ·rw[e];exact I.funs
 ·rw[e];obtain⟨m,hn,_⟩:=I.loc;refine .cons (by rw[I.ok.kind];decide) j hn ?_ I.funs
  exact SN (QF I.ok.bsz I.ok.above)
def Inv.stkSub (I:Inv X pins σ H s):∀b∈fK X.stack,b∈X.env.locals::X.fs:=λb j=>by
 rcases I.ok.stk with e|⟨e,y⟩
 ·rw[e] at j;exact Qu _ j
 ·rw[e] at j;unfold fK at j;rw[List.filterMap_cons,y] at j;exact j
def Inv.stkFree (I:Inv X pins σ H s):∀b∈fK X.stack,H b=none:=λb j=>by
 rcases Q1.mp (I.stkSub b j) with e|j
 ·rw[e];exact I.free
 ·obtain⟨_,o,ho,_⟩:=I.ok.funs.mem j;exact I.base.free b o ho (I.ok.frf b j) λz=>I.ok.exfs b z j
def Inv.step {g':Array GenState}{t':Nat}{d':Drawn}{ch:List Addr}(I:Inv X pins σ H s)
 (B:∀b∈ch,(b∈X.ex\/X.s₀.heap.objs.size<=b)/\b≠X.env.locals/\(∀x c,X.env.cells.lookup x=some c->c≠b)/\∀p∈X.pn++pins,p.1≠b)
 (keep:∀b o,b≠X.env.locals->b∉X.fs->b∉ch->s.heap.get? b=some o->H b=none->h'.get? b=some o)
 (slot:∀b o,b≠X.env.locals->b∈X.fs->b∉ch->s.heap.get? b=some o->H b=none->∃sl,h'.get? b=some {o with slots:=sl}) (free:∀b o,b∉ch->s.heap.get? b=some o->H b=none->H' b=none)
 (there:∀b o,b∉ch->s.heap.get? b=some o->∃o',h'.get? b=some o')
 (tups:∀b xs,H b=some (.tup xs)->H' b=some (.tup xs)) (frzs:∀b o u,H b=some (.frz o u)->H' b=some (.frz o u)) (tbls:∀b ps,H b=some (.tbl ps)->∃more,H' b=some (.tbl (ps++more)))
 (ns:∀m,s.heap.Ns X.env.locals m->h'.Ns X.env.locals m) (hok:d4 X.prog X.w H' h') (Y:AllBare g') :
 Inv X pins σ H' {s with heap:=h',gens:=g',drawn:=d',toks:=t'}:=by
 have M:∀b o,X.s₀.heap.get? b=some o->b≠X.env.locals:=λb o e=>QW (QT (QG e) I.ok.above);have J:∀b o,X.s₀.heap.get? b=some o->b∉X.ex->b∉ch:=λb o e j L=>by
  rcases(B b L).1 with z|z
  ·exact j z
  ·exact absurd (QT (QG e) z) (RO _)
 have y:∀x c,X.env.cells.lookup x=some c->∀v,s.heap.IsCell c v->h'.IsCell c v:=λx c e v ⟨o,ho,hd⟩=>by
  have F:c∉ch:=λz=>(B c z).2.2.1 x c e rfl;by_cases R:c∈X.fs
  ·obtain⟨sl,q⟩:=slot c o (I.cne x c e) R F ho (I.freeC x c e);exact{_,q,hd}
  ·exact{o,keep c o (I.cne x c e) R F ho (I.freeC x c e),hd}
 refine{I.ok,I.os,Y,{λb o e n L j=>?_,λb o e n L j=>?_,λb o e n j=>?_,λb o e j=>?_,λb xs e=>tups b xs (I.base.tups b xs e),λb o xs e=>frzs b o xs (I.base.frzs b o xs e),λb ps e=>?_},?_,λx c e=>?_,?_,λx c e=>?_,λp S=>?_,hok,I.len}
 ·exact keep b o (M b o e) L (J b o e j) (I.base.keep b o e n L j) (I.base.free b o e n j)
 ·obtain⟨sl,e1⟩:=I.base.slot b o e n L j;obtain⟨O,e2⟩:=slot b _ (M b o e) L (J b o e j) e1 (I.base.free b o e n j);exact⟨O,e2⟩
 ·obtain⟨o',e1⟩:=I.base.there b o e j;exact free b o' (J b o e j) e1 (I.base.free b o e n j)
 ·obtain⟨o',e1⟩:=I.base.there b o e j;exact there b o' (J b o e j) e1
 ·obtain⟨m1,e1⟩:=I.base.tbls b ps e;obtain⟨m2,e2⟩:=tbls b _ e1;exact{m1++m2,by rw[e2,Array.append_assoc]}
 ·obtain⟨m,hn,hl⟩:=I.loc;refine{m,ns m hn,λi x v e1 e2 W=>?_};obtain⟨u,r,l⟩:=hl i x v e1 e2 W;refine{u,r,?_};rcases l with l|⟨k,c,e,z⟩
  ·exact .inl l
  ·exact .inr {k,c,e,y x c e _ z}
 ·obtain⟨v,z⟩:=I.cell x c e;exact{v,y x c e v z}
 ·obtain⟨m,⟨o,_,_,ho,_⟩,_⟩:=I.loc;exact free _ o (λz=>(B _ z).2.1 rfl) ho I.free
 ·obtain⟨v,o,ho,hd⟩:=I.cell x c e;exact free c o (λz=>(B c z).2.2.1 x c e rfl) ho (I.freeC x c e)
 ·obtain⟨e,n,ne,U,d⟩:=I.pin p S;have F:p.1∉ch:=λz=>(B p.1 z).2.2.2 p S rfl;exact{keep p.1 p.2 ne U F e n,free p.1 p.2 F e n,ne,U,d}
def Inv.un {t':Nat}(I:Inv X pins σ H s)(u:Un X.fs [] H H' s.heap h')(hok:d4 X.prog X.w H' h'):Inv X pins σ H' {s with heap:=h',toks:=t'}:=by
 obtain⟨m,⟨o,es,M,ho,r⟩,_⟩:=id I.loc;obtain⟨sl,J⟩:=u.any ho I.free `s
 exact I.step (g':=s.gens) (d':=s.drawn) (ch:=[]) (λ_ z=>nomatch z) (λb o _ F _ e n=>u.keep b o e n F `s) (λb o _ F _ e n=>u.slot b o e n F `s) (λb o _ e n=>u.free b o e n `s) (λb o _ e=>u.there b o e `s) u.tups u.frzs u.tbls (λO hm=>by
  obtain⟨o',B,y,j,L⟩:=hm;rw[ho] at j;cases j;exact{_,B,y,J,L}) hok I.bare
def Inv.call {g':Array GenState}{t':Nat}{d':Drawn}{ch:List Addr}(I:Inv X pins σ H s)(u:Un (fK X.stack) ch H H' s.heap h')(hok:d4 X.prog X.w H' h')(O:AllBare g')
 (y:∀b∈ch,(b∈X.ex\/X.s₀.heap.objs.size<=b)/\b≠X.env.locals/\(∀x c,X.env.cells.lookup x=some c->c≠b)/\∀p∈X.pn++pins,p.1≠b) :
 Inv X pins σ H' {s with heap:=h',gens:=g',drawn:=d',toks:=t'}:=by
 obtain⟨m,⟨o,es,S,ho,r⟩,_⟩:=id I.loc;obtain⟨sl,L⟩:=u.any ho I.free λz=>(y _ z).2.1 rfl;exact I.step (ch:=ch) y (λb o L M j e n=>u.keep b o e n (λz=>(Q1.mp (I.stkSub b z)).elim L M) j) (λb o _ _ j e n=>u.any e n j) (λb o j e n=>u.free b o e n j) (λb o j e=>u.there b o e j) u.tups u.frzs u.tbls (λU hm=>by
  obtain⟨o',J,F,B,R⟩:=hm;rw[ho] at B;cases B;exact{_,J,F,L,R}) hok O
def Inv.turned {t':Nat}{j:Addr}(I:Inv X pins σ H s)(k:∀b o,b≠j->s.heap.get? b=some o->h'.get? b=some o)(hn:H j=none)(F:j≠X.env.locals)
 (h1:j∈X.ex\/X.s₀.heap.objs.size<=j) (h2:∀x c,X.env.cells.lookup x=some c->c≠j) (h3:∀p∈X.pn++pins,p.1≠j):Inv X pins σ H {s with heap:=h',toks:=t'}:=by
 have B:∀b u,H b=some u->b≠j:=λb u e z=>by rw[z,hn] at e;cases e
 refine I.step (g':=s.gens) (d':=s.drawn) (ch:=[j]) (λb L=>?_) (λb o _ _ y e _=>k b o (λz=>y (by simp[z])) e) (λb o _ _ y e _=>{o.slots,k b o (λz=>y (by simp[z])) e}) (λ_ _ _ _ n=>n)
  (λb o y e=>{o,k b o (λz=>y (by simp[z])) e}) (λ_ _ e=>e) (λ_ _ _ e=>e) (λb ps e=>{#[],by rw[e];simp}) (λm hm=>?_) (λb u e=>?_) I.bare
 ·have e:b=j:=by simpa using L
  subst e;exact⟨h1,F,h2,h3⟩
 ·obtain⟨o,es,J,ho,r⟩:=hm;exact{o,es,J,k _ o (Ru F) ho,r}
 ·refine(I.hok b u e).stay (λc v y q=>k c v ?_ q) (λ_ q=>q) λ_ _ q=>q;rcases y with z|z
  ·rw[z];exact B b u e
  ·exact B c _ z
def Inv.tok (I:Inv X pins σ H s)(t:Nat):Inv X pins σ H {s with toks:=t}:=I.un (h':=s.heap) (t':=t) Un.refl I.hok
def Inv.kept {t':Nat}(I:Inv X pins σ H s)(k:∀b u,s.heap.get? b=some u->h'.get? b=some u):Inv X pins σ H {s with heap:=h',toks:=t'}:=I.un (Un.kept k) (I.hok.kept k)
def Inv.laid {a:Addr}{o:HO}{t':Nat}(I:Inv X pins σ H s)(k:∀b u,s.heap.get? b=some u->h'.get? b=some u)(j:s.heap.objs.size<=a)(new:cf X.prog X.w (upd H a o) h' a o) :
 Inv X pins σ (upd H a o) {s with heap:=h',toks:=t'}:=I.un (Un.laid k j (I.hok.fresh j)) (I.hok.laid k j new)
def Inv.write {x e:Addr}{o:HO}{t':Nat}(I:Inv X pins σ H s)(mu:Fo (H x))(he:e=x\/H e=some (.own x))(k:∀b u,b≠e->s.heap.get? b=some u->h'.get? b=some u)(j:∃u,h'.get? e=some u)
 (new:cf X.prog X.w (upd H x o) h' x o):Inv X pins σ (upd H x o) {s with heap:=h',toks:=t'}:=I.un (Un.write mu he k j) (I.hok.write mu he k j new)
def Inv.pins_of {j:List (Addr×Obj)}(I:Inv X pins σ H s)(h:∀p∈j,s.heap.get? p.1=some p.2/\H p.1=none/\p.1≠X.env.locals/\p.1∉X.fs/\∀v,p.2.data≠.cell v):Inv X j σ H s:=
 {I.ok,I.os,I.bare,I.base,I.loc,I.cell,I.free,I.freeC,λp y=>(Rw.mp y).elim (λz=>I.pin p (Rv _ z)) (h p),I.hok,I.len}
def tX {N:List Str}(y:N.Nodup){i j:Nat}{x:Str}(a:N[i]?=some x)(b:N[j]?=some x):i=j:=by
 obtain⟨h1,e1⟩:=Qm.mp a;obtain⟨h2,e2⟩:=Qm.mp b;exact(List.getElem_inj y).mp (e1.trans e2.symm)
def qZ {M:Model}{A:RL}{E:Qo->Qr->Prop}{i:Nat}{x:Str}{v:V}{u:Qo}{Q:Unit->Qr->Prop}(I:Inv X pins σ H s)(hN:X.N.Nodup)(hi:X.N[i]?=some x)(J:Loc X.env.scope x)(r:RelV v u)
 (h:∀s',Inv X pins (σ.set i (some v)) H s'->(∃a,R8 a s.heap s'.heap/\(a=X.env.locals\/X.env.cells.lookup x=some a))->Q () s') (hf:X.fn x=true\/X.env.scope.names.lookup x=some .local:=by first|exact .inl rfl|exact .inr rfl|assumption):wpAny M A (storeName X.env x u) Q E s:=by
 obtain⟨m,hn,hl⟩:=id I.loc;have hcls:(X.env.scope.kind==.class||(X.env.scope.kind==.module&&X.env.locals != X.env.globals))=false:=by rw[I.ok.kind];rfl
 have O:i<σ.length:=by rw[I.len];exact(Qm.mp hi).1
 have cne:=I.cne;have B:∀{a:Addr}{h':Heap},(∃o,s.heap.get? a=some o/\H a=none)->R8 a s.heap h'->d4 X.prog X.w H h':=λ{a h'} ha hs b ob e=>by
  obtain⟨_,_,L⟩:=ha;refine(I.hok b ob e).stay (λc w' F q=>(hs.2 c ?_).trans q) (λ_ q=>q) λ_ _ q=>q;rintro rfl;rcases F with rfl|F
  ·rw[L] at e;cases e
  ·rw[L] at F;cases F
 rcases J with R|R
 ·refine wpAny_storeName_local R hn (λh' hn' hs=>?_) hcls;obtain⟨oL,_,_,hoL,_⟩:=id hn;refine h _ {I.ok,I.os,I.bare,{λb o e n S J=>?_,λb o e n S J=>?_,I.base.free,λb o e J=>?_,I.base.tups,I.base.frzs,I.base.tbls},{_,hn',λj y v' e1 e2 e3=>?_},λy c e=>?_,I.free,I.freeC,λp hp=>?_,B ⟨oL,hoL,I.free⟩ hs,by simpa using I.len} {_,hs,.inl rfl}
  ·exact(hs.2 b (QW (QT (QG e) I.ok.above))).trans (I.base.keep b o e n S J)
  ·obtain⟨sl,e1⟩:=I.base.slot b o e n S J;exact{sl,(hs.2 b (QW (QT (QG e) I.ok.above))).trans e1}
  ·obtain⟨o',e1⟩:=I.base.there b o e J;exact{o',(hs.2 b (QW (QT (QG e) I.ok.above))).trans e1}
  ·by_cases W:j=i
   ·subst W;rw[hi] at e1;cases e1;rw[Rk O] at e2;cases e2;exact{u,r,.inl {R,`s}}
   ·rw[QH (Ru W)] at e2;obtain⟨u',r',q⟩:=hl j y v' e1 e2 e3;refine{u',r',?_};rcases q with⟨k,e⟩|⟨k,c,e,z⟩
    ·refine .inl {k,?_};have:y≠x:=λe=>W (tX hN e1 (e ▸ hi));simp[this,e]
    ·exact .inr {k,c,e,z.sameBut hs (cne y c e)}
  ·obtain⟨w',z⟩:=I.cell y c e;exact{w',z.sameBut hs (cne y c e)}
  ·obtain⟨e,n,ne,nf,d⟩:=I.pin p hp;exact{(hs.2 p.1 ne).trans e,n,ne,nf,d}
 ·have U:X.fn x=true:=by
   rcases hf with z|z
   ·exact z
   ·rw[z] at R;cases R
  obtain⟨c,F⟩:=I.ok.has x (.inl R);obtain⟨w',z⟩:=I.cell x c F;refine wpAny_storeName_cell I.ok.kind R F z (λh' Y hs=>?_);obtain⟨oc,hoc,hocd⟩:=id z;refine h {s with heap:=h'} {I.ok,I.os,I.bare,{λb o e n S J=>?_,λb o e n S J=>?_,I.base.free,λb o e J=>?_,I.base.tups,I.base.frzs,I.base.tbls},{m,hn.sameBut hs (Ru (cne x c F)),λj y v' e1 e2 e3=>?_},λy c' e=>?_,I.free,I.freeC,λp hp=>?_,B {oc,hoc,I.freeC x c F} hs,by simpa using I.len} {c,hs,.inr F}
  ·exact(hs.2 b (QW (QT (QG e) (I.ok.cab x c U F)))).trans (I.base.keep b o e n S J)
  ·obtain⟨sl,e1⟩:=I.base.slot b o e n S J;exact{sl,(hs.2 b (QW (QT (QG e) (I.ok.cab x c U F)))).trans e1}
  ·obtain⟨o',e1⟩:=I.base.there b o e J;exact{o',(hs.2 b (QW (QT (QG e) (I.ok.cab x c U F)))).trans e1}
  ·by_cases W:j=i
   ·subst W;rw[hi] at e1;cases e1;rw[Rk O] at e2;cases e2;exact{u,r,.inr {.inl R,c,F,Y}}
   ·rw[QH (Ru W)] at e2;obtain⟨u',r',q⟩:=hl j y v' e1 e2 e3;refine{u',r',?_};rcases q with q|⟨k,c',e,z'⟩
    ·exact .inl q
    ·refine .inr {k,c',e,z'.sameBut hs ?_};rintro rfl;exact W (tX hN e1 (I.ok.inj _ _ _ e F ▸ hi))
  ·by_cases hcc:c'=c
   ·subst hcc;exact{_,Y}
   ·obtain⟨w2,z2⟩:=I.cell y c' e;exact{w2,z2.sameBut hs hcc}
  ·obtain⟨e,n,ne,nf,d⟩:=I.pin p hp;refine{(hs.2 p.1 ?_).trans e,n,ne,nf,d};intro q;rw[q,hoc] at e;have q':oc=p.2:=Qw e;exact d w' (by rw[<- q'];exact hocd)
def BY {M:Model}{A:RL}{E:Qo->Qr->Prop}{i:Nat}{x:Str}{v:V}{u:Qo}{Q:Unit->Qr->Prop}(I:Inv X pins σ H s)(y:X.N.Nodup)(hi:X.N[i]?=some x)(B:Loc X.env.scope x)(r:RelV v u)
 (h:∀s',Inv X pins (σ.set i (some v)) H s'->Q () s') (z:X.fn x=true\/X.env.scope.names.lookup x=some .local:=by first|exact .inl rfl|exact .inr rfl|assumption):wpAny M A (storeName X.env x u) Q E s:=
 qZ I y hi B r (λs' j _=>h s' j) z
def Inv.call' {s':Qr}{ch:List Addr}(I:Inv X pins σ H s)(ho:s'.os=s.os)(u:Un (fK X.stack) ch H H' s.heap s'.heap)(hok:d4 X.prog X.w H' s'.heap)(y:AllBare s'.gens)
 (j:∀b∈ch,(b∈X.ex\/X.s₀.heap.objs.size<=b)/\b≠X.env.locals/\(∀x c,X.env.cells.lookup x=some c->c≠b)/\∀p∈X.pn++pins,p.1≠b):Inv X pins σ H' s':=by
 obtain⟨h',g',d',t',o'⟩:=s';have e:o'=s.os:=ho;subst e;exact I.call (g':=g') (t':=t') (d':=d') u hok y j
end
abbrev XK:=Qo->Option Addr->Hp->Prop
abbrev St:=List (Option V)
abbrev VK:=V->Hp->Prop
abbrev TE:=St->Hp->VK->Prop
abbrev TT:=St->Hp->(Bool->Hp->Prop)->Prop
abbrev TA:=St->Hp->(List V->Hp->Prop)->Prop
structure Ends where
 nx:St->Hp->Prop
 rt:VK
 bk:St->Hp->Prop:=λ_ _=>False
 ct:St->Hp->Prop:=λ_ _=>False
abbrev TS:=Ends->St->Hp->Prop
def EP (X:Cx)(pins:List (Addr×Obj))(σ:St)(Q:VK)(u:Qo)(s':Qr):Prop:=∃v H',Inv X pins σ H' s'/\RelV v u/\Q v H'
def TP (X:Cx)(pins:List (Addr×Obj))(σ:St)(Q:Bool->Hp->Prop)(b:Bool)(s':Qr):Prop:=∃H',Inv X pins σ H' s'/\Q b H'
def AP (X:Cx)(pins:List (Addr×Obj))(σ:St)(Q:List V->Hp->Prop)(us:List Qo)(s':Qr):Prop:=∃j H',Inv X pins σ H' s'/\Vals j us/\Q j H'
def SP (X:Cx)(pins:List (Addr×Obj))(D:Ends)(f:Flow)(s':Qr):Prop:=
 match f with
 |.next=>∃j H',Inv X pins j H' s'/\D.nx j H'
 |.brk=>∃j H',Inv X pins j H' s'/\D.bk j H'
 |.cont=>∃j H',Inv X pins j H' s'/\D.ct j H'
 |.ret u=>∃v j H',Inv X pins j H' s'/\RelV v u/\D.rt v H'
def PE (X:Cx)(e:Expr)(t:TE):Prop:=
 ∀(pins:List (Addr×Obj)) (s:Qr) (σ:St) (H:Hp) (Q:VK),Inv X pins σ H s->t σ H Q->wpAny (model X.prog X.w) X.A (eval e X.env) (EP X pins σ Q) X.xe s
def PT (X:Cx)(e:Expr)(t:TT):Prop:=
 ∀(pins:List (Addr×Obj)) (s:Qr) (σ:St) (H:Hp) (Q:Bool->Hp->Prop),Inv X pins σ H s->t σ H Q->wpAny (model X.prog X.w) X.A (isTrue e X.env (eval e X.env)) (TP X pins σ Q) X.xe s
def PW (X:Cx)(e:Expr)(t:TT):Prop:=
 ∀(whole:Sem Qo) (pins:List (Addr×Obj)) (s:Qr) (σ:St) (H:Hp) (Q:Bool->Hp->Prop),Inv X pins σ H s->t σ H Q->wpAny (model X.prog X.w) X.A (isTrue e X.env whole) (TP X pins σ Q) X.xe s
def PW.pt {X:Cx}{e:Expr}{t:TT}(h:PW X e t):PT X e t:=h _
def PA (X:Cx)(es:List Expr)(t:TA):Prop:=
 ∀(pos:Pos) (pins:List (Addr×Obj)) (s:Qr) (σ:St) (H:Hp) (Q:List V->Hp->Prop),Inv X pins σ H s->t σ H Q->wpAny (model X.prog X.w) X.A (spliced (backTo pos (starEach es X.env))) (AP X pins σ Q) X.xe s
def PS (X:Cx)(st:Stmt)(t:TS):Prop:=
 ∀(pins:List (Addr×Obj)) (s:Qr) (σ:St) (H:Hp) (D:Ends),Inv X pins σ H s->t D σ H->wpAny (model X.prog X.w) X.A (exec st X.env) (SP X pins D) X.xe s
def kB (X:Cx)(st:List Stmt)(t:TS):Prop:=
 ∀(pins:List (Addr×Obj)) (s:Qr) (σ:St) (H:Hp) (D:Ends),Inv X pins σ H s->t D σ H->wpAny (model X.prog X.w) X.A (execs st X.env) (SP X pins D) X.xe s
def aQ {j:Type}{t:Sem j}{Q Q':j->Qr->Prop}{M:Model}{A:RL}{E:Qo->Qr->Prop}{s:Qr}(h:wpAny M A t Q E s)(y:∀a s,Q a s->Q' a s):wpAny M A t Q' E s:=wpAny_mono h y λ_ _ x=>x
section
variable{X:Cx}
def BW (i:Nat):TE:=λσ H Q=>∃v,σ[i]?=some (some v)/\Q v H
def tC (v:V):TE:=λ_ H Q=>Q v H
def pw {i:Nat}{x:Str}{pos:Pos}(J:X.N[i]?=some x)(L:u7 X.env.scope x)(hd:(x==("__debug__":Str))=false:=by decide)(B:(x==("__classdict__":Str))=false:=by decide):PE X (.Name x pos) (BW i):=by
 intro pins s σ H Q I h;obtain⟨v,e,h⟩:=h;obtain⟨m,hn,hl⟩:=I.loc;obtain⟨u,r,l⟩:=hl i x v J e L;have y:EP X pins σ Q u s:=⟨v,H,I,r,h⟩;rcases l with⟨z,hm⟩|⟨z,c,F,j⟩
 ·exact wpAny_Name (wpAny_loadName_local I.ok.kind z hn hm y) hd
 ·rcases z with z|z
  ·exact wpAny_Name (wpAny_loadName_cell I.ok.kind z F j y) hd
  ·exact wpAny_Name (wpAny_loadName_free I.ok.kind z F j y B) hd
def JS {i j pos}:PE X (.Constant (.int i) j pos) (tC (.int i)):=λ_ _ _ H _ I h=>wpAny_Constant_int {.int i,H,I.tok _,{_,rfl},h}
def MH {b j pos}:PE X (.Constant (.bool b) j pos) (tC (.bl b)):=λ_ _ _ H _ I h=>Constant_bool {.bl b,H,I,rfl,h}
def JQ {j pos}:PE X (.Constant .none j pos) (tC .non):=λ_ _ _ H _ I h=>Constant_none {.non,H,I,rfl,h}
def JN {x j pos}:PE X (.Constant (.str x) j pos) (tC (.str x)):=λ_ _ _ H _ I h=>Calls.Constant_str {.str x,H,I.tok _,{_,rfl},h}
def Gl (X:Cx)(x:Str):Prop:=X.env.kindOf x=some .globalImplicit
def f7 {E:Qo->Qr->Prop}{pins:List (Addr×Obj)}{s:Qr}{σ:St}{H:Hp}{x:Str}{u:Qo}{pos:Pos}{Q:Qo->Qr->Prop}(I:Inv X pins σ H s)(j:Gl X x)(hm:X.mg x=some u)(h:Q u s)
 (hd:(x==("__debug__":Str))=false:=by decide):wpAny (model X.prog X.w) X.A (eval (.Name x pos) X.env) Q E s:=
 Calls.Name_function_global I.ok.kind j (Calls.loadGlobal_global (by rw[I.ok.glob];exact I.mod.glob.keeps I.bk) hm h) hd
def gD {E:Qo->Qr->Prop}{pins:List (Addr×Obj)}{s:Qr}{σ:St}{H:Hp}{x:Str}{u:Qo}{pos:Pos}{Q:Qo->Qr->Prop}(I:Inv X pins σ H s)(j:Gl X x)(hm:X.mg x=none)(y:bootBuiltins x=some u)(h:Q u s)
 (hn:x≠"__name__":=by decide) (hd:(x==("__debug__":Str))=false:=by decide):wpAny (model X.prog X.w) X.A (eval (.Name x pos) X.env) Q E s:=by
 obtain⟨z,h1,h2⟩:=I.mod.blt;exact Calls.Name_function_global I.ok.kind j (Calls.loadGlobal_builtin (by rw[I.ok.glob];exact I.mod.glob.keeps I.bk) hm (by rw[I.ok.blt];exact h1.keeps I.bk) ((h2 x hn).trans y) h) hd
def j0 {x:Str}{v:V}{u:Qo}{pos:Pos}(j:Gl X x)(hm:X.mg x=some u)(r:RelV v u)(hd:(x==("__debug__":Str))=false:=by decide):PE X (.Name x pos) (tC v):=
 λ_ _ _ H _ I h=>f7 I j hm ⟨v,H,I,r,h⟩ hd
def GR {x:Str}{v:V}{u:Qo}{pos:Pos}(j:Gl X x)(hm:X.mg x=none)(y:bootBuiltins x=some u)(r:RelV v u)(hn:x≠"__name__":=by decide)(hd:(x==("__debug__":Str))=false:=by decide):PE X (.Name x pos) (tC v):=
 λ_ _ _ H _ I h=>gD I j hm y ⟨v,H,I,r,h⟩ hn hd
variable{a b:Expr}{ta tb:TE}{pos:Pos}
variable{tA tB':TT}{rest:List Expr}
def fD (t u:TT):TT:=λσ H Q=>t σ H λc H1=>if c=true then u σ H1 Q else Q false H1
def eX (t u:TT):TT:=λσ H Q=>t σ H λc H1=>if c=true then Q true H1 else u σ H1 Q
def cq (t:TT):TT:=λσ H Q=>t σ H λc H1=>Q (!c) H1
def GH (j:PT X a tA):PW X (.BoolOp .And [a] pos) tA:=by
 intro y pins s σ H Q I h;refine isTrue_and (aQ (j pins s σ H Q I h) λc s1 e=>?_);cases c with
 |true=>exact isTrue_and_nil e
 |false=>exact e
def JE (j:PT X a tA):PW X (.BoolOp .Or [a] pos) tA:=by
 intro y pins s σ H Q I h;refine isTrue_or (aQ (j pins s σ H Q I h) λc s1 e=>?_);cases c with
 |false=>exact isTrue_or_nil e
 |true=>exact e
def JF (z:PT X a tA)(B:PW X (.BoolOp .And (b::rest) pos) tB'):PW X (.BoolOp .And (a::b::rest) pos) (fD tA tB'):=by
 intro F pins s σ H Q I h;refine isTrue_and (aQ (z pins s σ H _ I h) λc s1 ⟨H1,j,y⟩=>?_);cases c with
 |true=>exact B F pins s1 σ H1 Q j y
 |false=>exact⟨H1,j,y⟩
def MA (z:PT X a tA)(B:PW X (.BoolOp .Or (b::rest) pos) tB'):PW X (.BoolOp .Or (a::b::rest) pos) (eX tA tB'):=by
 intro F pins s σ H Q I h;refine isTrue_or (aQ (z pins s σ H _ I h) λc s1 ⟨H1,j,y⟩=>?_);cases c with
 |true=>exact⟨H1,j,y⟩
 |false=>exact B F pins s1 σ H1 Q j y
def JI (j:PT X a tA):PT X (.UnaryOp .Not a pos) (cq tA):=by
 intro pins s σ H Q I h;exact isTrue_not (j pins s σ H (λc H1=>Q (!c) H1) I h)
def Mr (ta tb:TE):TE:=λσ H Q=>ta σ H λx H1=>∃c,x=.bl c/\if c=true then tb σ H1 Q else Q (.bl false) H1
def OI (ta tb:TE):TE:=λσ H Q=>ta σ H λx H1=>∃c,x=.bl c/\if c=true then Q (.bl true) H1 else tb σ H1 Q
def Mo (ta:TE):TE:=λσ H Q=>ta σ H λx H1=>∃c,x=.bl c/\Q (.bl (!c)) H1
def JO {op}{t:TE}(h:PE X a t):PE X (.BoolOp op [a] pos) t:=λpins s σ H Q I j=>BoolOp_one (h pins s σ H Q I j)
def JU (z:PE X a ta)(B:PE X (.BoolOp .And (b::rest) pos) tb):PE X (.BoolOp .And (a::b::rest) pos) (Mr ta tb):=by
 intro pins s σ H Q I h;refine BoolOp_and (aQ (z pins s σ H _ I h) λv s1 ⟨x,H1,y,r1,j⟩=>?_);obtain⟨c,rfl,j⟩:=j;cases r1;refine tqp ?_;cases c with
 |true=>exact B pins s1 σ H1 Q y j
 |false=>exact{.bl false,H1,y,rfl,j}
def MD (z:PE X a ta)(B:PE X (.BoolOp .Or (b::rest) pos) tb):PE X (.BoolOp .Or (a::b::rest) pos) (OI ta tb):=by
 intro pins s σ H Q I h;refine BoolOp_or (aQ (z pins s σ H _ I h) λv s1 ⟨x,H1,y,r1,j⟩=>?_);obtain⟨c,rfl,j⟩:=j;cases r1;refine tqp ?_;cases c with
 |false=>exact B pins s1 σ H1 Q y j
 |true=>exact{.bl true,H1,y,rfl,j}
def JP (z:PE X a ta):PE X (.UnaryOp .Not a pos) (Mo ta):=by
 intro pins s σ H Q I h;refine UnaryOp_ (aQ (z pins s σ H _ I h) λv s1 ⟨x,H1,y,r1,j⟩=>?_);obtain⟨c,rfl,j⟩:=j;cases r1;exact not_of (tqp {.bl (!c),H1,y,rfl,j})
def tIf (t:TT)(ta tb:TE):TE:=λσ H Q=>t σ H λc H1=>if c=true then ta σ H1 Q else tb σ H1 Q
def tO {c:Expr}(F:PT X c tA)(z:PE X a ta)(B:PE X b tb):PE X (.IfExp c a b pos) (tIf tA ta tb):=by
 intro pins s σ H Q I h;refine wpAny_IfExp (aQ (F pins s σ H _ I h) λd s1 ⟨H1,j,y⟩=>?_);cases d with
 |true=>exact z pins s1 σ H1 Q j y
 |false=>exact B pins s1 σ H1 Q j y
end
def cP (K:Ql)(H:Hp)(a:Addr)(xs:List V):Prop:=
 Rd H a (.lst xs)\/
  ∃(o:Obj) (j:Array Qo) (n:Nat),K.lookup a=some o/\o.cls=.type "list"/\o.dict=none/\o.data=.seq j n/\j.size<=sizeLine/\Vals xs j.toList
def dw (K:Ql)(H:Hp)(a:Addr)(xs:List V):Prop:=
 Rd H a (.tup xs)\/
  ∃(o:Obj) (j:Array Qo) (n:Nat),K.lookup a=some o/\o.cls=.type "tuple"/\o.data=.seq j n/\j.size<=sizeLine/\Vals xs j.toList
noncomputable def PU:Qo->Option V
 |.none=>some .non
 |.bool b=>some (.bl b)
 |.int i _=>some (.int i)
 |.str x _=>some (.str x)
 |.bytes b _=>some (.byt b)
 |.float b _=>some (.flt b)
 |.ref a=>some (.ref a)
 |.type n=>some (.ty n)
 |_=>none
def RelV.abs {x:V}{u:Qo}(r:RelV x u):PU u=some x:=by
 cases x with
 |non=>cases r;rfl
 |bl _=>cases r;rfl
 |int _=>obtain⟨t,rfl⟩:=r;rfl
 |str _=>obtain⟨t,rfl⟩:=r;rfl
 |byt _=>obtain⟨t,rfl⟩:=r;rfl
 |flt _=>obtain⟨t,rfl⟩:=r;rfl
 |ref _=>cases r;rfl
 |ty _=>cases r;rfl
def RelV.inj {x y:V}{u:Qo}(r:RelV x u)(q:RelV y u):x=y:=Qw (r.abs.symm.trans q.abs)
def Vals.inj:∀{xs ys:List V}{us:List Qo},Vals xs us->Vals ys us->xs=ys
 |_,_,_,.nil,.nil=>rfl
 |_,_,_,.cons r t,.cons j y=>by rw[r.inj j,Vals.inj t y]
section
variable{X:Cx}{pins:List (Addr×Obj)}{σ:St}{H:Hp}{s:Qr}{a:Addr}{xs ys:List V}
def cP.of {K:Ql}(h:H a=some (.lst xs)):cP K H a xs:=.inl (.inl h)
def dw.of {K:Ql}(h:H a=some (.tup xs)):dw K H a xs:=.inl (.inl h)
def Inv.list (I:Inv X pins σ H s)(h:cP X.K H a xs):∃j:List Qo,Vals xs j/\PlainL s.heap a j.toArray/\xs.length<=sizeLine:=by
 rcases h with h|⟨o,j,n,B,y,hd,hs,F,r⟩
 ·obtain⟨z,j,n,r,e⟩:=h.ok I.hok;exact{j,r,{_,n,e,rfl,rfl,rfl},z}
 ·refine{j.toList,r,{o,n,I.kIn a o B,y,hd,by simpa using hs},?_}
  have e:=r.length;simp only[Su] at e;omega
def Inv.tuple (I:Inv X pins σ H s)(h:dw X.K H a xs):∃j:List Qo,Vals xs j/\IsTup s.heap a j.toArray/\xs.length<=sizeLine:=by
 rcases h with h|⟨o,j,n,B,y,hs,F,r⟩
 ·obtain⟨z,j,r,p⟩:=h.ok I.hok;exact⟨j,r,p,z⟩
 ·refine{j.toList,r,{o,I.kIn a o B,y,n,by simpa using hs},?_}
  have e:=r.length;simp only[Su] at e;omega
def Inv.list_inj (I:Inv X pins σ H s)(h:cP X.K H a xs)(h':cP X.K H a ys):xs=ys:=by
 obtain⟨y,r,⟨o,n,e,_,_,d⟩,_⟩:=I.list h;obtain⟨j,F,⟨o',J,B,_,_,z⟩,_⟩:=I.list h';rw[e] at B;cases B;rw[d] at z;injection z with d1 _
 have:y=j:=by simpa using congrArg Array.toList d1
 subst this;exact r.inj F
def Inv.tuple_inj (I:Inv X pins σ H s)(h:dw X.K H a xs)(h':dw X.K H a ys):xs=ys:=by
 obtain⟨y,r,⟨o,e,_,n,d⟩,_⟩:=I.tuple h;obtain⟨j,F,⟨o',B,_,J,z⟩,_⟩:=I.tuple h';rw[e] at B;cases B;rw[d] at z;injection z with d1 _
 have:y=j:=by simpa using congrArg Array.toList d1
 subst this;exact r.inj F
end
section
variable{X:Cx}{st:Stmt}{rest:List Stmt}{t u:TS}{e:Expr}{te:TE}{pos:Pos}
def Ef:TS:=λD σ H=>D.nx σ H
def OG (t u:TS):TS:=λD σ H=>t {D with nx:=u D} σ H
def vN:kB X [] Ef:=λ_ _ σ H _ I h=>wpAny_execs_nil ⟨σ,H,I,h⟩
def oo (h1:PS X st t)(h2:kB X rest u):kB X (st::rest) (OG t u):=by
 intro pins s σ H D I h;refine wpAny_execs_cons (aQ (h1 pins s σ H {D with nx:=u D} I h) λf s1 q=>?_)
 cases f with
 | next =>
   obtain⟨j,H',y,q⟩:=q;exact h2 pins s1 j H' D y q
 |ret v=>exact q
 |brk=>exact q
 |cont=>exact q
def GL:PS X (.Pass pos) Ef:=λ_ _ σ H _ I h=>wpAny_Pass ⟨σ,H,I,h⟩
def Inv.quiet {pins:List (Addr×Obj)}{σ:St}{H:Hp}{s:Qr}(I:Inv X pins σ H s):interactive X.env=false:=by simp[interactive,I.ok.kind]
def Mp (te:TE):TS:=λD σ H=>te σ H λ_ H1=>D.nx σ H1
def iR (he:PE X e te)(hs:swapsWith e none pos.line X.env=pure false:=by rfl):PS X (.Expr e pos) (Mp te):=by
 intro pins s σ H D I h;exact wpAny_Expr_any (aQ (he pins s σ H _ I h) λv s1 ⟨x,H1,j,r1,y⟩=>⟨σ,H1,j,y⟩) I.quiet hs
def OH (te:TE):TS:=λD σ H=>te σ H D.rt
def zO (he:PE X e te):PS X (.Return (some e) pos) (OH te):=by
 intro pins s σ H D I h;exact wpAny_Return_some (aQ (he pins s σ H _ I h) λv s1 ⟨x,H1,j,r1,y⟩=>⟨x,σ,H1,j,r1,y⟩)
def Mm:TS:=λD _ H=>D.rt .non H
def GK:PS X (.Return none pos) Mm:=λ_ _ σ H _ I h=>wpAny_Return_none {.non,σ,H,I,rfl,h}
def OM (c:TT)(t u:TS):TS:=λD σ H=>c σ H λb H1=>if b=true then t D σ H1 else u D σ H1
def MB {c:Expr}{a b:List Stmt}{tc:TT}(F:PT X c tc)(z:kB X a t)(B:kB X b u):PS X (.If c a b pos) (OM tc t u):=by
 intro pins s σ H D I h;refine wpAny_If (aQ (F pins s σ H _ I h) λd s1 ⟨H1,j,y⟩=>?_);cases d with
 |true=>exact z pins s1 σ H1 D j y
 |false=>exact B pins s1 σ H1 D j y
end
abbrev TG:=V->St->Hp->(St->Hp->Prop)->Prop
abbrev rY:=List V->St->Hp->(St->Hp->Prop)->Prop
def PG (X:Cx)(j:Expr)(t:TG):Prop:=
 ∀(pins:List (Addr×Obj)) (s:Qr) (σ:St) (H:Hp) (v:V) (u:Qo) (Q:St->Hp->Prop),Inv X pins σ H s->RelV v u->t v σ H Q->
  wpAny (model X.prog X.w) X.A (assign j X.env u) (λ_ s'=>∃y H',Inv X pins y H' s'/\Q y H') X.xe s
def vc (X:Cx)(ts:List Expr)(t:rY):Prop:=
 ∀(pins:List (Addr×Obj)) (s:Qr) (σ:St) (H:Hp) (z:List V) (y:List Qo) (Q:St->Hp->Prop),Inv X pins σ H s->Vals z y->t z σ H Q->
  wpAny (model X.prog X.w) X.A (assignInOrder ((assignEach ts X.env).map (·.2)) y) (λ_ s'=>∃j H',Inv X pins j H' s'/\Q j H') X.xe s
abbrev yr:=V->V->V->Hp->(Hp->Prop)->Prop
def DG (X:Cx)(t:yr):Prop:=
 ∀(pins:List (Addr×Obj)) (s:Qr) (σ:St) (H:Hp) (o i v:V) (y j u:Qo) (Q:Hp->Prop),Inv X pins σ H s->RelV o y->RelV i j->RelV v u->t o i v H Q->
  wpAny (model X.prog X.w) X.A (setItem y j u) (λ_ s'=>∃H',Inv X pins σ H' s'/\Q H') X.xe s
section
variable{X:Cx}{pos:Pos}
def M9 (i:Nat):TG:=λv σ H Q=>Q (σ.set i (some v)) H
def qm {i:Nat}{x:Str}(y:X.N.Nodup)(hi:X.N[i]?=some x)(B:Loc X.env.scope x)(z:X.fn x=true\/X.env.scope.names.lookup x=some .local:=by first|exact .inl rfl|exact .inr rfl|assumption):PG X (.Name x pos) (M9 i):=by
 intro pins s σ H v u Q I r h;exact wpAny_assign_Name (BY I y hi B r (λs' j=>{_,H,j,h}) z)
noncomputable def c9:rY:=λj σ H Q=>j=[]/\Q σ H
def dY (t:TG)(u:rY):rY:=λy σ H Q=>∃v r,y=v::r/\t v σ H λj H'=>u r j H' Q
def vP:vc X [] c9:=by
 intro pins s σ H y j Q I r h;obtain⟨e,h⟩:=h;subst e;cases r;exact assignInOrder_nil ⟨σ,H,I,h⟩
def oy {e:Expr}{es:List Expr}{t:TG}{u:rY}(h1:PG X e t)(h2:vc X es u)
 (hs:(assignEach (e::es) X.env).map (·.2)=assign e X.env::(assignEach es X.env).map (·.2):=by rfl):vc X (e::es) (dY t u):=by
 intro pins s σ H J F Q I r h;obtain⟨v,vr,e1,h⟩:=h;subst e1;cases r with
 | cons r B =>
   rw[hs];refine assignInOrder_cons (aQ (h1 pins s σ H _ _ _ I r h) λ_ s1 ⟨j,H1,y,z⟩=>?_);exact h2 pins s1 j H1 _ _ Q y B z
def aZ (K:Ql)(n:Nat)(t:rY):TG:=λv σ H Q=>∃a xs,v=.ref a/\dw K H a xs/\xs.length=n/\t xs σ H Q
def tM {es:List Expr}{k:Nat}{t:rY}{n:Nat}(F:X.calm=true)(h:vc X es t)
 (hn:(assignEach es X.env).length=n:=by rfl) (j:(assignEach es X.env).findIdx? (·.1)=none:=by rfl):PG X (.Tuple es k pos) (aZ X.K n t):=by
 intro pins s σ H v u Q I r y;obtain⟨a,xs,e1,J,hl,y⟩:=y;subst e1;cases r;obtain⟨O,z,L,R⟩:=I.tuple J;refine assign_Tuple_tuple (I.ok.hd F) L (by simp[hn,<- hl,z.length]) j λh' M=>?_
 have B:Inv X pins σ H {s with heap:=h'}:=I.kept (t':=s.toks) λb o e=>M b o (QW (QG e)) e
 exact h pins _ σ H xs _ Q B (by simpa using z) y
def Px (to y:TE)(t:yr):TG:=λv σ H Q=>to σ H λo H1=>y σ H1 λi H2=>t o i v H2 λj=>Q σ j
def zU {o i:Expr}{to B:TE}{t:yr}(ho:PE X o to)(hi:PE X i B)(hs:DG X t)
 (O:∀v,assign (.Subscript o i pos) X.env v=(do
  let j <- holding [v] (eval o X.env)
  let z <- holding [v,j] (eval i X.env)
  standAt pos
  holding [v,j,z] (setItem j z v)
  release [v,j,z] []):=by intro _;rfl):PG X (.Subscript o i pos) (Px to B t):=by
 intro pins s σ H v u Q I r h;rw[O];refine tqa (tqo (aQ (ho pins s σ H _ I h) λj s1 ⟨x,H1,J,r1,R⟩=>?_));refine tqa (tqo (aQ (hi pins s1 σ H1 _ J R) λz s2 ⟨y,H2,L,r2,S⟩=>?_));refine tqa (wpAny_standAt (tqa (tqo (aQ (hs pins s2 σ H2 x y v j z u _ L r1 r2 r S) λ_ W ⟨F,M,U⟩=>?_))));exact wpAny_release ⟨σ,F,M,U⟩
def OO (te:TE)(g:TG):TS:=λD σ H=>te σ H λx H1=>g x σ H1 D.nx
def pj {tg e:Expr}{te:TE}{g:TG}(he:PE X e te)(y:PG X tg g)(hs:swapsWithSole [tg] e pos.line X.env=pure false:=by rfl)(z:swappedStores [tg] e X.env=pure none:=by rfl)
 (h1:(assignEach [tg] X.env).map (·.2)=[assign tg X.env]:=by rfl):PS X (.Assign [tg] e pos) (OO te g):=by
 intro pins s σ H D I h;refine wpAny_Assign_stores (aQ (he pins s σ H _ I h) λv s1 ⟨x,H1,j,r1,B⟩=>?_) hs z;rw[h1];exact aQ (y pins s1 σ H1 x v _ j r1 B) λ_ s2 q=>q
end
section
variable{X:Cx}{pos:Pos}
def IX (c:TT)(tb:TS):TS:=λD σ H=>∃W:Nat->St->Hp->Prop,(∃m,W m σ H)/\∀m σ H,W m σ H->
 c σ H λb H1=>if b=true then ∃N:St->Hp->Prop,(∀j H',N j H'->∃y,y<m/\W y j H')/\tb {D with nx:=N,ct:=N,bk:=D.nx} σ H1 else D.nx σ H1
def Cq {c:Expr}{body:List Stmt}{tc:TT}{tb:TS}(Y:PassesOwn (model X.prog X.w) X.A X.env X.xe)(hc:PT X c tc)(hb:kB X body tb):PS X (.While c body [] pos) (IX tc tb):=by
 intro pins s σ H D I h;obtain⟨W,⟨m0,w0⟩,turn⟩:=h;refine wpAny_While (codeAny_whileLoop (λn s'=>∃B H',Inv X pins B H' s'/\W n B H') ?_ m0 ⟨σ,H,I,w0⟩);rintro n s1 ⟨y,H1,I1,w1⟩;refine wpAny_passesOwn Y (aQ (hc pins s1 y H1 _ I1 (turn n y H1 w1)) λb s2 ⟨H2,S,F⟩=>?_);cases b with
 | true =>
   obtain⟨N,U,F⟩:=F;rw[if_pos rfl];refine wpAny_passesOwn Y (aQ (hb pins s2 y H2 _ S F) λf s3 J=>?_);cases f with
   | next =>
     obtain⟨j,z,L,O⟩:=J;obtain⟨M,hm,R⟩:=U j z O;exact⟨M,hm,j,z,L,R⟩
   | cont =>
     obtain⟨j,z,L,O⟩:=J;obtain⟨M,hm,R⟩:=U j z O;exact⟨M,hm,j,z,L,R⟩
   |brk=>exact J
   |ret v=>exact J
 | false =>
   rw[if_neg QP];exact wpAny_execs_nil ⟨y,H2,S,F⟩
end
structure It where
 go:Nat->Hp->Prop
 yld:Nat->Hp->V->Hp->Prop
 stop:Nat->Hp->Prop
def fh (X:Cx)(pins:List (Addr×Obj))(H:Hp)(b:Addr):Prop:=
 H b=none/\b≠X.env.locals/\b∉X.fs/\(b∈X.ex\/X.s₀.heap.objs.size<=b)/\(∀x c,X.env.cells.lookup x=some c->c≠b)/\∀p∈X.pn++pins,p.1≠b
def Inv.fpOk {X:Cx}{pins:List (Addr×Obj)}{σ:St}{H H':Hp}{s:Qr}{b:Addr}(I:Inv X pins σ H s)(j:s.heap.objs.size<=b)(hn:H' b=none):fh X pins H' b:=by
 refine{hn,Rt (QT I.lt j),I.nofs j,.inr (QF I.sz j),λx c e z=>?_,λp y z=>?_}
 ·obtain⟨v,q⟩:=I.cell x c e;exact absurd (QT q.lt (by rw[z];exact j)) (RO _)
 ·exact absurd (QT (QG (I.pin p y).1) (by rw[z];exact j)) (RO _)
structure Turn (P:Q0) (w:Q2) (K:Ql) (tg:Expr) (J:It) (fp:List Addr) (it:Addr) (tn:Nat->Heap->Prop):Prop where
 mem:it∈fp
 obj:∀i h,tn i h->∀b∈fp,∃o,h.get? b=some o/\∀v,o.data≠.cell v
 keep:∀i h h',tn i h->(∀b∈fp,∀o,h.get? b=some o->h'.get? b=some o)->tn i h'
 item:∀(X:Cx),X.prog=P->X.w=w->X.K=K->X.calm=true->∀(i:Nat) (pins:List (Addr×Obj)) (s:Qr) (σ:St) (H:Hp) (E:Qo->Qr->Prop),Inv X pins σ H s->(∀b∈fp,fh X pins H b)->tn i s.heap->J.go i H->
  wpAny (model P w) X.A (pyNext (.ref it)) (λr s1=>∃u,r=some u/\
   wpAny (model P w) X.A (letOwnedTupleGo tg (.ref it) u) (λ_ s2=>∃x H',Inv X pins σ H' s2/\RelV x u/\J.yld i H x H'/\tn (i+1) s2.heap/\∀b∈fp,H' b=none) E s1) E s
 done:∀(X:Cx),X.prog=P->X.w=w->X.K=K->X.calm=true->∀(i:Nat) (pins:List (Addr×Obj)) (s:Qr) (σ:St) (H:Hp) (E:Qo->Qr->Prop),Inv X pins σ H s->(∀b∈fp,fh X pins H b)->tn i s.heap->J.stop i H->
  wpAny (model P w) X.A (pyNext (.ref it)) (λr s1=>r=none/\Inv X pins σ H s1) E s
 self:∀(A:RL) (i:Nat) (s:Qr) (Q:Qo->Qr->Prop) (E:Qo->Qr->Prop),tn i s.heap->Q (.ref it) s->wpAny (model P w) A (pyIter (.ref it)) Q E s
abbrev TI:=St->Hp->(It->Hp->Prop)->Prop
def L5 (X:Cx)(pins:List (Addr×Obj))(σ:St)(tg:Expr)(R:It->Hp->Prop)(j:Qo)(s2:Qr):Prop:=
 ∃(z:Addr) (y:List Addr) (B:Nat->Heap->Prop) (J:It) (H':Hp),j=.ref z/\Inv X pins σ H' s2/\Turn X.prog X.w X.K tg J y z B/\B 0 s2.heap/\(∀b∈y,fh X pins H' b)/\R J H'
def PI (X:Cx)(tg j:Expr)(y:TI):Prop:=
 ∀(pins:List (Addr×Obj)) (s:Qr) (σ:St) (H:Hp) (R:It->Hp->Prop),Inv X pins σ H s->y σ H R->
  wpAny (model X.prog X.w) X.A (eval j X.env) (λv s1=>wpAny (model X.prog X.w) X.A (pyIter v) (L5 X pins σ tg R) X.xe s1) X.xe s
def sr {M:Model}{A:RL}{E:Qo->Qr->Prop}{s:Qr}{tg:Expr}{y:Addr}{u:Qo}{o:Obj}{n:String}{vs:Array Qo}{Q:Unit->Qr->Prop}(ho:s.heap.get? y=some o)(z:o.cls=.type n)(hd:o.data=.fields vs)
 (hn:["enumerate","zip","dict_itemiterator","dict_reverseitemiterator","odict_iterator","itertools.zip_longest","itertools.pairwise"].contains n=false) (j:Q () s):wpAny M A (letOwnedTupleGo tg (.ref y) u) Q E s:=by
 unfold letOwnedTupleGo;cases tg<;>first
  |exact tqb j
  |(cases u<;>first
   |exact tqb j
   | (refine tqa (wpAny_load ho ?_)
      rw[z,hd];show wpAny M A (if (["enumerate","zip","dict_itemiterator","dict_reverseitemiterator","odict_iterator","itertools.zip_longest","itertools.pairwise"].contains n&&vs[0]?==some (rawInt _))=true then _ else _) Q E s;rw[if_neg (by intro h;rw[hn,Bool.false_and] at h;cases h)]
      exact tqb j))
def Ma (K:Ql)(a:Addr):It:=
 {λi H=>∃xs x,cP K H a xs/\xs[i]?=some x,λi H x H'=>H'=H/\∀xs,cP K H a xs->xs[i]?=some x,λi H=>∃xs,cP K H a xs/\xs.length<=i}
def L9 (K:Ql)(a:Addr):It:=
 {λi H=>∃xs x,dw K H a xs/\xs[i]?=some x,λi H x H'=>H'=H/\∀xs,dw K H a xs->xs[i]?=some x,λi H=>∃xs,dw K H a xs/\xs.length<=i}
def Fp (lo:Int)(n:Nat):It:={λi _=>i<n,λi H x H'=>H'=H/\x=.int (lo+i),λi _=>n<=i}
def zb {P:Q0}{w:Q2}{K:Ql}{tg:Expr}(a y:Addr):Turn P w K tg (Ma K a) [y] y (λi h=>h.IsListIter y a i) where
 mem:=`s
 obj:=λi h st b j=>by
  have e:b=y:=by simpa using j
  subst e;obtain⟨o,e,c,d⟩:=st;exact{o,e,λv z=>by rw[d] at z;cases z}
 keep:=λi h h' st k=>st.at λo e=>k y `s o e
 item:=by
  intro X U hw S hc i pins s σ H E I F st Y;subst U hw S;obtain⟨xs,x,J,hx⟩:=Y;obtain⟨its,rv,p,hz⟩:=I.list J;obtain⟨u,hu,ru⟩:=rv.get hx;obtain⟨L,f1,f2,M,O,R⟩:=F y `s
  refine wpAny_pyNext_list_item st p.isList (x:=u) (by simpa using hu) λh' B sb=>?_
  have I1:Inv X pins σ H {s with heap:=h'}:=I.turned (t':=s.toks) (λb o j e=>(sb.2 b j).trans e) L f1 M O R
  obtain⟨o,e,c,d⟩:=id B;exact{u,rfl,sr (s:={s with heap:=h'}) e c d `d {x,H,I1,ru,{rfl,λys hy=>by rw[I.list_inj hy J];exact hx},B,λb j=>(F b j).1}}
 done:=by
  intro X U hw S hc i pins s σ H E I F st Y;subst U hw S;obtain⟨xs,J,hx⟩:=Y;obtain⟨its,rv,p,hz⟩:=I.list J;obtain⟨L,f1,f2,M,O,R⟩:=F y `s
  have hl:=rv.length;exact wpAny_pyNext_list_end (I.ok.hd hc) st p.isList `o λh' eb=>{rfl,I.turned (t':=s.toks) (λb o j e=>eb b o j e) L f1 M O R}
 self:=λ_ _ _ _ _ st h=>wpAny_pyIter_listiter st h
def wY {P:Q0}{w:Q2}{K:Ql}{tg:Expr}(a y:Addr):Turn P w K tg (L9 K a) [y] y (λi h=>h.IsTupleIter y a i) where
 mem:=`s
 obj:=λi h st b j=>by
  have e:b=y:=by simpa using j
  subst e;obtain⟨o,e,c,d⟩:=st;exact{o,e,λv z=>by rw[d] at z;cases z}
 keep:=λi h h' st k=>st.at λo e=>k y `s o e
 item:=by
  intro X Y hw U hc i pins s σ H E I J st hg;subst Y hw U;obtain⟨xs,x,L,hx⟩:=hg;obtain⟨B,rv,p,hz⟩:=I.tuple L;obtain⟨u,hu,ru⟩:=rv.get hx;obtain⟨M,f1,f2,O,R,S⟩:=J y `s
  refine wpAny_pyNext_tuple_item st (show s.heap.IsTuple a B.toArray from p) (x:=u) (by simpa using hu) λh' F sb=>?_
  have I1:Inv X pins σ H {s with heap:=h'}:=I.turned (t':=s.toks) (λb o j e=>(sb.2 b j).trans e) M f1 O R S
  obtain⟨o,e,c,d⟩:=id F;exact{u,rfl,sr (s:={s with heap:=h'}) e c d `d {x,H,I1,ru,{rfl,λys hy=>by rw[I.tuple_inj hy L];exact hx},F,λb j=>(J b j).1}}
 done:=by
  intro X Y hw U hc i pins s σ H E I J st hg;subst Y hw U;obtain⟨xs,L,hx⟩:=hg;obtain⟨B,rv,p,hz⟩:=I.tuple L;obtain⟨M,f1,f2,O,R,S⟩:=J y `s
  have hl:=rv.length;exact wpAny_pyNext_tuple_end (I.ok.hd hc) st (show s.heap.IsTuple a B.toArray from p) `o λh' eb=>{rfl,I.turned (t':=s.toks) (λb o j e=>eb b o j e) M f1 O R S}
 self:=λ_ _ _ _ _ st h=>wpAny_pyIter_tupleiter st h
def wZ {P:Q0}{w:Q2}{K:Ql}{tg:Expr}(j:Addr)(lo:Int)(n:Nat):Turn P w K tg (Fp lo n) [j] j (λi h=>IsRangeIter h j (lo+(i:Nat)*1) ((n:Int)-(i:Nat)) 1) where
 mem:=`s
 obj:=λi h st b y=>by
  have e:b=j:=by simpa using y
  subst e;exact{_,st,λv z=>by
   have z':Data.fields _=Data.cell v:=z;cases z'}
 keep:=λi h h' st k=>k j `s _ st
 item:=by
  intro X S hw R U i pins s σ H E I F st Y;subst S hw R;obtain⟨J,f1,f2,L,M,O⟩:=F j `s
  have W:=Walks.range (prog:=X.prog) (w:=X.w) (I.ok.hd U) j lo 1 n;refine W.item i s _ _ Y st λv h' tk hv B kk=>?_;obtain⟨t,rfl⟩:=hv;have I1:Inv X pins σ H {s with heap:=h',toks:=tk}:=I.turned (λb o y e=>kk b o (by simpa using y) e) J f1 L M O
  refine{_,rfl,sr (s:={s with heap:=h',toks:=tk}) (n:="range_iterator") B rfl rfl `d {.int (lo+i),H,I1,{t,?_},⟨rfl,rfl⟩,B,λb y=>(F b y).1}}
  rw[Int.mul_one]
 done:=by
  intro X S hw R U i pins s σ H E I F st Y;subst S hw R;obtain⟨J,f1,f2,L,M,O⟩:=F j `s
  exact wpAny_pyNext_range_end (I.ok.hd U) st (by have:n<=i:=Y;omega) λh' eb=>{rfl,I.turned (t':=s.toks) (λb o y e=>eb b o y e) J f1 L M O}
 self:=λ_ _ _ _ _ st h=>wpAny_pyIter_rangeiter st h
section
variable{X:Cx}{tg:Expr}
def MZ (K:Ql)(tl:TE):TI:=λσ H R=>tl σ H λx H1=>∃a,x=.ref a/\(∃xs,cP K H1 a xs)/\R (Ma K a) H1
def Pw (K:Ql)(tl:TE):TI:=λσ H R=>tl σ H λx H1=>∃a,x=.ref a/\(∃xs,dw K H1 a xs)/\R (L9 K a) H1
def GP {l:Expr}{tl:TE}(hl:PE X l tl):PI X tg l (MZ X.K tl):=by
 intro pins s σ H R I h;refine aQ (hl pins s σ H _ I h) λv s1 ⟨x,H1,j,r1,F⟩=>?_;obtain⟨a,e,⟨xs,z⟩,q⟩:=F;subst e;cases r1;obtain⟨B,L,p,J⟩:=j.list z;refine wpAny_pyIter_list p.isList ?_;refine{s1.heap.objs.size,[s1.heap.objs.size],_,_,H1,rfl,j.kept (t':=s1.toks) λb o e=>Qq _ e,zb a _,{_,QK _ rfl,rfl,rfl},λb y=>?_,q};have e:b=s1.heap.objs.size:=by simpa using y
 subst e;exact j.fpOk (Qt _) (j.hok.fresh (Qt _))
def JL {l:Expr}{tl:TE}(hl:PE X l tl):PI X tg l (Pw X.K tl):=by
 intro pins s σ H R I h;refine aQ (hl pins s σ H _ I h) λv s1 ⟨x,H1,j,r1,F⟩=>?_;obtain⟨a,e,⟨xs,B⟩,q⟩:=F;subst e;cases r1;obtain⟨y,L,p,J⟩:=j.tuple B;refine wpAny_pyIter_tuple (show s1.heap.IsTuple a y.toArray from p) ?_;refine{s1.heap.objs.size,[s1.heap.objs.size],_,_,H1,rfl,j.kept (t':=s1.toks) λb o e=>Qq _ e,wY a _,{_,QK _ rfl,rfl,rfl},λb z=>?_,q};have e:b=s1.heap.objs.size:=by simpa using z
 subst e;exact j.fpOk (Qt _) (j.hok.fresh (Qt _))
def Cn {pins:List (Addr×Obj)}{σ:St}{H:Hp}{s:Qr}{R:It->Hp->Prop}{E:Qo->Qr->Prop}{lo hi:Int}{t u v:Tok}{tk:Nat}(I:Inv X pins σ H s)(h1:-(2^62)<=lo)(h2:lo<2^62)(h3:-(2^62)<=hi)(h4:hi<2^62)
 (q:R (Fp lo (hi-lo).toNat) H):wpAny (model X.prog X.w) X.A (pyIter (.ref s.heap.objs.size)) (L5 X pins σ tg R) E {s with heap:=s.heap.push {cls:=.type "range",data:=.fields #[.int lo t,.int hi u,.int 1 v]},toks:=tk}:=by
 refine wpAny_pyIter_range (IsRange.new ..) (small_one h1 h2 h3 h4) ?_;have j:Inv X pins σ H {s with heap:=s.heap.push {cls:=.type "range",data:=.fields #[.int lo t,.int hi u,.int 1 v]},toks:=tk}:=I.kept λb o e=>Qq _ e
 refine{(s.heap.push {cls:=.type "range",data:=.fields #[.int lo t,.int hi u,.int 1 v]}).objs.size,[(s.heap.push {cls:=.type "range",data:=.fields #[.int lo t,.int hi u,.int 1 v]}).objs.size],_,_,H,rfl,
  j.kept (t':=tk) λb o e=>Qq _ e,wZ _ lo (hi-lo).toNat,?_,λb y=>?_,q}
 ·have e1:lo+((0:Nat):Int)*1=lo:=`s
  have e2:(((hi-lo).toNat:Nat):Int)-((0:Nat):Int)=Builtin.Range.rangeSize lo hi 1:=by rw[rangeSize_one];split<;>omega
  show IsRangeIter _ _ (lo+((0:Nat):Int)*1) ((((hi-lo).toNat:Nat):Int)-((0:Nat):Int)) 1;rw[e1,e2];exact QK _ rfl
 ·have e:b=(s.heap.push {cls:=.type "range",data:=.fields #[.int lo t,.int hi u,.int 1 v]}).objs.size:=by simpa using y
  subst e;exact j.fpOk (Qt _) (j.hok.fresh (Qt _))
def MY (ta:TA):TI:=λσ H R=>ta σ H λy H1=>∃j:Int,y=[.int j]/\-(2^62)<=j/\j<2^62/\R (Fp 0 j.toNat) H1
def zT {a:Expr}{ta:TA}{p pos:Pos}(F:Gl X "range")(hm:X.mg "range"=none)(B:PA X [a] ta)(hs:starEach [a] X.env=[(false,eval a X.env)]:=by rfl):PI X tg (.Call (.Name "range" p) [a] [] pos) (MY ta):=by
 intro pins s σ H R I h;refine Call_ (gD I F hm boot_range (R1 (aQ (B pos pins s σ H _ I h) λM s1 ⟨O,H1,z,r1,y⟩=>?_) hs rfl));obtain⟨j,e,y,J,q⟩:=y;subst e;cases r1 with
 | cons r L =>
   cases L;obtain⟨t,rfl⟩:=r;exact call_range_1 (Cn z `a `a y J (by simpa using q))
def ON (wi:TI)(g:TG)(tb:TS):TS:=λD σ H=>wi σ H λJ H1=>∃W:Nat->Nat->St->Hp->Prop,(∃m,W 0 m σ H1)/\∀i m σ H,W i m σ H->
 (J.stop i H/\D.nx σ H)\/(J.go i H/\∃N:St->Hp->Prop,(∀σ' H',N σ' H'->∃m',m'<m/\W (i+1) m' σ' H')/\∀x H',J.yld i H x H'->g x σ H' λσ2 H2=>tb {D with nx:=N,ct:=N,bk:=D.nx} σ2 H2)
noncomputable def pq (j:List Addr)(h:Heap):List (Addr×Obj):=j.filterMap λb=>(h.get? b).map λo=>(b,o)
def iG {j:List Addr}{h:Heap}{b:Addr}{o:Obj}(y:b∈j)(e:h.get? b=some o):(b,o)∈pq j h:=List.mem_filterMap.mpr {b,y,by rw[e];rfl}
def zX {j:List Addr}{h:Heap}{p:Addr×Obj}(B:p∈pq j h):p.1∈j/\h.get? p.1=some p.2:=by
 obtain⟨b,z,e⟩:=List.mem_filterMap.mp B;cases q:h.get? b with
 |none=>rw[q] at e;cases e
 | some o =>
   rw[q] at e;have y:(b,o)=p:=Qw e;subst y;exact⟨z,q⟩
def Inv.pinned {pins:List (Addr×Obj)}{σ:St}{H:Hp}{s:Qr}{j:List Addr}(I:Inv X pins σ H s)(L:∀b∈j,fh X pins H b)(ho:∀b∈j,∃o,s.heap.get? b=some o/\∀v,o.data≠.cell v):Inv X (pins++pq j s.heap) σ H s:=
 I.pins_of λp M=>(Rw.mp M).elim (λz=>I.pin p (Rj _ z)) λz=>by
  obtain⟨B,e⟩:=zX z;obtain⟨F,f1,J,_⟩:=L p.1 B;obtain⟨o,y,d⟩:=ho p.1 B;rw[e] at y;cases y;exact⟨e,F,f1,J,d⟩
def Inv.unpinned {pins pl:List (Addr×Obj)}{σ:St}{H:Hp}{s:Qr}(I:Inv X (pins++pl) σ H s):Inv X pins σ H s:=I.pins_of λp j=>I.pin p (Rj _ (Rv _ j))
def JJ {L:Expr}{body:List Stmt}{wi:TI}{g:TG}{tb:TS}{pos:Pos}(hp:PassesOwn (model X.prog X.w) X.A X.env X.xe)(hc:X.calm=true)(hi:PI X tg L wi)(hg:PG X tg g)(F:kB X body tb)
 (hs:∀x,foldedSetIterable L X.env x=pure x:=by intro _;rfl):PS X (.For tg L body [] pos) (ON wi g tb):=by
 intro pins s σ H D I h;refine wpAny_For (aQ (hi pins s σ H _ I h) λv s1 h1=>aQ h1 λitv s2 h2=>?_) hs;obtain⟨it,Y,tn,J,H2,e,I2,T,st2,f2,W,⟨m0,w0⟩,turn⟩:=h2;subst e;have M:∀{H':Hp},(∀b∈Y,H' b=none)->∀b∈Y,fh X pins H' b:=λhn b F=>{hn b F,(f2 b F).2};refine codeAny_forLoop_any (λn s'=>∃i O H',Inv X pins O H' s'/\tn i s'.heap/\(∀b∈Y,H' b=none)/\W i n O H') ?_ m0 {0,σ,H2,I2,st2,λb F=>(f2 b F).1,w0};rintro n s3 ⟨i,R,H3,I3,st3,fr3,w3⟩;rcases turn i n R H3 w3 with⟨stop,qn⟩|⟨go,N,hN,step⟩
 ·refine wpAny_passesOwn hp (aQ (T.done X rfl rfl rfl hc i pins s3 R H3 X.xe I3 (M fr3) st3 stop) λr s4 ⟨hr,I4⟩=>?_);subst hr;exact wpAny_execs_nil ⟨R,H3,I4,qn⟩
 ·refine wpAny_passesOwn hp (aQ (T.item X rfl rfl rfl hc i pins s3 R H3 X.xe I3 (M fr3) st3 go) λr s4 ⟨u,hr,h4⟩=>?_);subst hr;refine wpAny_passesOwn hp (aQ h4 λ_ s5 ⟨x,H5,I5,r5,y5,U,fr5⟩=>?_);have I5':=I5.pinned (M fr5) (T.obj _ _ U);refine wpAny_passesOwn hp (aQ (hg _ s5 R H5 x u _ I5' r5 (step x H5 y5)) λ_ s6 ⟨σ6,H6,I6,q6⟩=>?_);refine wpAny_passesOwn hp (aQ (F _ s6 σ6 H6 _ I6 q6) λf s7 S=>?_);have B:∀{j:St}{y:Hp},Inv X (pins++pq Y s5.heap) j y s7->N j y->∃m,m<n/\∃i O H',Inv X pins O H' s7/\tn i s7.heap/\(∀b∈Y,H' b=none)/\W i m O H':=λ{j y} z n7=>by
   obtain⟨m',hm,w7⟩:=hN j y n7;refine{m',hm,i+1,j,y,z.unpinned,T.keep _ _ _ U λb F o e=>(z.pin (b,o) (Rj _ (Rj _ (iG F e)))).1,λb F=>?_,w7};obtain⟨o,e,d⟩:=T.obj _ _ U b F;exact(z.pin (b,o) (Rj _ (Rj _ (iG F e)))).2.1
  cases f with
  |next=>obtain⟨j,y,z,n7⟩:=S;exact B z n7
  |cont=>obtain⟨j,y,z,n7⟩:=S;exact B z n7
  |brk=>obtain⟨j,y,z,S⟩:=S;exact⟨j,y,z.unpinned,S⟩
  |ret v=>obtain⟨x7,j,y,z,r7,S⟩:=S;exact⟨x7,j,y,z.unpinned,r7,S⟩
end
abbrev R2:=V->V->Hp->VK->Prop
def bF (X:Cx)(f:Qo->Qo->Sem Qo)(r:R2):Prop:=
 ∀(pins:List (Addr×Obj)) (s:Qr) (σ:St) (H:Hp) (x y:V) (v u:Qo) (Q:VK),Inv X pins σ H s->RelV x v->RelV y u->r x y H Q->
  wpAny (model X.prog X.w) X.A (f v u) (EP X pins σ Q) X.xe s
def L3 (X:Cx)(f:Qo->Sem Qo)(r:V->Hp->VK->Prop):Prop:=
 ∀(pins:List (Addr×Obj)) (s:Qr) (σ:St) (H:Hp) (x:V) (v:Qo) (Q:VK),Inv X pins σ H s->RelV x v->r x H Q->
  wpAny (model X.prog X.w) X.A (f v) (EP X pins σ Q) X.xe s
def b8 (X:Cx)(f:Qo)(r:List V->Hp->VK->Prop):Prop:=
 ∀(pins:List (Addr×Obj)) (s:Qr) (σ:St) (H:Hp) (xs:List V) (j:List Qo) (Q:VK),Inv X pins σ H s->Vals xs j->r xs H Q->
  wpAny (model X.prog X.w) X.A (call f j) (EP X pins σ Q) X.xe s
def PX (X:Cx)(r:V->Hp->(Bool->Hp->Prop)->Prop):Prop:=
 ∀(pins:List (Addr×Obj)) (s:Qr) (σ:St) (H:Hp) (x:V) (v:Qo) (Q:Bool->Hp->Prop),Inv X pins σ H s->RelV x v->r x H Q->
  wpAny (model X.prog X.w) X.A (truthy v) (TP X pins σ Q) X.xe s
def zi (r:R2)(ta tb:TE):TE:=λσ H Q=>ta σ H λx H1=>tb σ H1 λy H2=>r x y H2 Q
def tUn (r:V->Hp->VK->Prop)(ta:TE):TE:=λσ H Q=>ta σ H λx H1=>r x H1 Q
def rI (C:Int->Int->Prop)(g:Int->Int->V):R2:=λx y H Q=>∃i j,x=.int i/\y=.int j/\C i j/\Q (g i j) H
def rg (g:Int->Int->V):R2:=λx y H Q=>∃i j,x=.int i/\y=.int j/\Q (g i j) H
def rU (g:Int->V):V->Hp->VK->Prop:=λx H Q=>∃i,x=.int i/\Q (g i) H
section
variable{X:Cx}{a b c:Expr}{ta tb tc:TE}{pos:Pos}
def Du (J:PE X a ta)(L:PE X b tb){pins:List (Addr×Obj)}{s:Qr}{σ:St}{H:Hp}{R:V->V->Hp->Prop}(I:Inv X pins σ H s)
 (h:ta σ H λx H1=>tb σ H1 λy H2=>R x y H2) {Q:Qo->Qr->Prop}{f:Qo->Qo->Sem Qo}
 (M:∀v u s2 x y H2,Inv X pins σ H2 s2->RelV x v->RelV y u->R x y H2->wpAny (model X.prog X.w) X.A (f v u) Q X.xe s2) :
 wpAny (model X.prog X.w) X.A (eval a X.env) (λv j=>wpAny (model X.prog X.w) X.A (eval b X.env) (λu z=>wpAny (model X.prog X.w) X.A (f v u) Q X.xe z) X.xe j) X.xe s:=by
 refine aQ (J pins s σ H _ I h) λv s1 ⟨x,H1,B,r1,O⟩=>?_;refine aQ (L pins s1 σ H1 _ B O) λu s2 ⟨y,H2,F,r2,S⟩=>?_;exact M v u s2 x y H2 F r1 r2 S
def ME {op:Operator}{r:R2}(ho:bF X (binaryOp op) r)(z:PE X a ta)(B:PE X b tb):PE X (.BinOp a op b pos) (zi r ta tb):=by
 intro pins s σ H Q I h;exact wpAny_BinOp (Du z B I h λv u s2 x y H2 j F J q=>ho pins s2 σ H2 x y v u Q j F J q)
def MC {op:UnaryOp}{r:V->Hp->VK->Prop}(ho:L3 X (unaryOp op) r)(y:PE X a ta):PE X (.UnaryOp op a pos) (tUn r ta):=by
 intro pins s σ H Q I h;exact UnaryOp_ (aQ (y pins s σ H _ I h) λv s1 ⟨x,H1,j,r1,z⟩=>ho pins s1 σ H1 x v Q j r1 z)
def Es {f:Qo->Qo->Sem Qo}{C:Int->Int->Prop}{g:Int->Int->Int}
 (rule:∀(i j:Int) (t u:Tok) (s:Qr) (Q:Qo->Qr->Prop) (E:Qo->Qr->Prop),C i j->Q (.int (g i j) s.toks) {s with toks:=s.toks+1}->wpAny (model X.prog X.w) X.A (f (.int i t) (.int j u)) Q E s) :
 bF X f (rI C λi j=>.int (g i j)):=by
 intro pins s σ H x y v u Q I B F h;obtain⟨i,j,rfl,rfl,z,q⟩:=h;obtain⟨t,rfl⟩:=B;obtain⟨J,rfl⟩:=F;exact rule i j t J s _ _ z {.int (g i j),H,I.tok _,{_,rfl},q}
def J4 {f:Qo->Qo->Sem Qo}{g:Int->Int->Int}
 (rule:∀(i j:Int) (t u:Tok) (s:Qr) (Q:Qo->Qr->Prop) (E:Qo->Qr->Prop),Q (.int (g i j) s.toks) {s with toks:=s.toks+1}->wpAny (model X.prog X.w) X.A (f (.int i t) (.int j u)) Q E s) :
 bF X f (rg λi j=>.int (g i j)):=by
 intro pins s σ H x y v u Q I z B h;obtain⟨i,j,rfl,rfl,q⟩:=h;obtain⟨t,rfl⟩:=z;obtain⟨F,rfl⟩:=B;exact rule i j t F s _ _ {.int (g i j),H,I.tok _,{_,rfl},q}
def xv {f:Qo->Qo->Sem Qo}{g:Int->Int->Bool}
 (rule:∀(i j:Int) (t u:Tok) (s:Qr) (Q:Qo->Qr->Prop) (E:Qo->Qr->Prop),Q (.bool (g i j)) s->wpAny (model X.prog X.w) X.A (f (.int i t) (.int j u)) Q E s) :
 bF X f (rg λi j=>.bl (g i j)):=by
 intro pins s σ H x y v u Q I z B h;obtain⟨i,j,rfl,rfl,q⟩:=h;obtain⟨t,rfl⟩:=z;obtain⟨F,rfl⟩:=B;exact rule i j t F s _ _ {.bl (g i j),H,I,rfl,q}
def Mf (i j:Int):Prop:=0<j/\j<1073741824
def Me (i j:Int):Prop:=0<=j/\j<=1000000/\i.natAbs<2^64
def DJ (i j:Int):Prop:=(-(2^64)<i/\i<2^64)\/(-(2^64)<j/\j<2^64)
def DJ.ok {i j:Int}(h:DJ i j):IntMulOk i j:=by
 rcases h with⟨h1,h2⟩|⟨h1,h2⟩
 ·exact .of_left (intBits_le_64 h1 h2)
 ·exact .of_right (intBits_le_64 h1 h2)
def J3:bF X (binaryOp .Add) (rg λi j=>.int (i+j)):=J4 λ_ _ _ _ _ _ _ q=>add_int q
def JV:bF X (binaryOp .Sub) (rg λi j=>.int (i-j)):=J4 λ_ _ _ _ _ _ _ q=>sub_int q
def JY:bF X (binaryOp .Mult) (rI DJ λi j=>.int (i*j)):=Es λ_ _ _ _ _ _ _ y q=>mul_int q y.ok
def GY:bF X (binaryOp .FloorDiv) (rI Mf λi j=>.int (i / j)):=Es λi j _ _ _ _ _ y q=>by
 have h1:(0:Int)<j:=y.1;have h2:j<1073741824:=y.2;exact floordiv_int `a (by rw[Int.fdiv_eq_ediv_of_nonneg i `a];exact q) (.inl (PyProof.noPylong_small `a))
def JZ:bF X (binaryOp .Mod) (rI (λ_ j=>0<j) λi j=>.int (i % j)):=Es λi j _ _ _ _ _ y q=>by
 have h1:(0:Int)<j:=y;exact mod_int' `a (by rw[Int.fmod_eq_emod_of_nonneg i `a];exact q)
def JX:bF X (binaryOp .Pow) (rI Me λi j=>.int (i^j.toNat)):=Es λ_ _ _ _ _ _ _ y q=>pow_int_small y.1 y.2.1 y.2.2 q
def unI {f:Qo->Sem Qo}{g:Int->Int}
 (rule:∀(i:Int) (t:Tok) (s:Qr) (Q:Qo->Qr->Prop) (E:Qo->Qr->Prop),Q (.int (g i) s.toks) {s with toks:=s.toks+1}->wpAny (model X.prog X.w) X.A (f (.int i t)) Q E s) :
 L3 X f (rU λi=>.int (g i)):=by
 intro pins s σ H x v Q I j h;obtain⟨i,rfl,q⟩:=h;obtain⟨t,rfl⟩:=j;exact rule i t s _ _ {.int (g i),H,I.tok _,{_,rfl},q}
def Iz:L3 X (unaryOp .USub) (rU λi=>.int (-i)):=unI λ_ _ _ _ _ q=>neg_int q
end
noncomputable def Je:V->V->Bool
 |.non,.non=>true|.non,.int _=>true|.int _,.non=>true|.non,.bl _=>true|.bl _,.non=>true|.non,.str _=>true|.str _,.non=>true
 |.int _,.int _=>true|.bl _,.bl _=>true|.str _,.str _=>true|.byt _,.byt _=>true
 |.int _,.str _=>true|.str _,.int _=>true|.bl _,.str _=>true|.str _,.bl _=>true
 |_,_=>false
def rEq:R2:=λx y H Q=>Je x y=true/\Q (.bl (decide (x=y))) H
def rNe:R2:=λx y H Q=>Je x y=true/\Q (.bl (!decide (x=y))) H
def wB {i j:Int}:decide (V.int i=V.int j)=(i==j):=by
 rw[RC];simp
def AY {i j:Bool}:decide (V.bl i=V.bl j)=(i==j):=by
 rw[RC];simp
def nB {i j:Str}:decide (V.str i=V.str j)=(i==j):=by
 rw[RC];simp
def wC {i j:Array UInt8}:decide (V.byt i=V.byt j)=(i.toList==j.toList):=by
 rw[RC];cases i;cases j;simp
section
variable{X:Cx}{a b c:Expr}{ta tb tc:TE}{pos:Pos}
def bj {pins:List (Addr×Obj)}{σ:St}{H:Hp}{s:Qr}{Q:VK}{k k':Bool}(I:Inv X pins σ H s)(q:Q (.bl k) H)(e:k=k'):EP X pins σ Q (.bool k') s:=by
 subst e;exact{.bl k,H,I,rfl,q}
def MP:bF X (compareOp .Eq) rEq:=by
 intro pins s σ H x y v u Q I F z h;obtain⟨hs,q⟩:=h;cases x with
 | non =>
   cases F;cases y with
   |non=>cases z;exact PySem.EqNone.eq_none_none (bj I q `s)
   |bl j=>cases z;exact PySem.EqNone.eq_none_bool (bj I q `s)
   |int j=>obtain⟨B,rfl⟩:=z;exact PySem.EqNone.eq_none_int (bj I q `s)
   |str j=>obtain⟨B,rfl⟩:=z;exact PySem.EqNone.eq_none_str (bj I q `s)
   |_=>exact absurd (show false=true from hs) QP
 | bl i =>
   cases F;cases y with
   |non=>cases z;exact PySem.EqNone.eq_bool_none (bj I q `s)
   |bl j=>cases z;exact eq_bool (bj I q AY)
   |str j=>obtain⟨B,rfl⟩:=z;exact PySem.EqMixed.eq_bool_str (bj I q `s)
   |_=>exact absurd (show false=true from hs) QP
 | int i =>
   obtain⟨t,rfl⟩:=F;cases y with
   |non=>cases z;exact PySem.EqNone.eq_int_none (bj I q `s)
   |int j=>obtain⟨B,rfl⟩:=z;exact eq_int (bj I q wB)
   |str j=>obtain⟨B,rfl⟩:=z;exact PySem.EqMixed.eq_int_str (bj I q `s)
   |_=>exact absurd (show false=true from hs) QP
 | str i =>
   obtain⟨t,rfl⟩:=F;cases y with
   |non=>cases z;exact PySem.EqNone.eq_str_none (bj I q `s)
   |bl j=>cases z;exact PySem.EqMixed.eq_str_bool (bj I q `s)
   |int j=>obtain⟨B,rfl⟩:=z;exact PySem.EqMixed.eq_str_int (bj I q `s)
   |str j=>obtain⟨B,rfl⟩:=z;exact eq_str (bj I q nB)
   |_=>exact absurd (show false=true from hs) QP
 | byt i =>
   obtain⟨t,rfl⟩:=F;cases y with
   |byt j=>obtain⟨B,rfl⟩:=z;exact PySem.W.eq_bytes (bj I q wC)
   |_=>exact absurd (show false=true from hs) QP
 |_=>cases y<;>exact absurd (show false=true from hs) QP
def MJ:bF X (compareOp .NotEq) rNe:=by
 intro pins s σ H x y v u Q I F z h;obtain⟨hs,q⟩:=h;cases x with
 | non =>
   cases F;cases y with
   |non=>cases z;exact PySem.EqNone.ne_none_none (bj I q `s)
   |bl j=>cases z;exact PySem.EqNone.ne_none_bool (bj I q `s)
   |int j=>obtain⟨B,rfl⟩:=z;exact PySem.EqNone.ne_none_int (bj I q `s)
   |str j=>obtain⟨B,rfl⟩:=z;exact PySem.EqNone.ne_none_str (bj I q `s)
   |_=>exact absurd (show false=true from hs) QP
 | bl i =>
   cases F;cases y with
   |non=>cases z;exact PySem.EqNone.ne_bool_none (bj I q `s)
   |bl j=>cases z;exact ne_bool (bj I q (congrArg not AY))
   |str j=>obtain⟨B,rfl⟩:=z;exact PySem.EqMixed.ne_bool_str (bj I q `s)
   |_=>exact absurd (show false=true from hs) QP
 | int i =>
   obtain⟨t,rfl⟩:=F;cases y with
   |non=>cases z;exact PySem.EqNone.ne_int_none (bj I q `s)
   |int j=>obtain⟨B,rfl⟩:=z;exact ne_int (bj I q (congrArg not wB))
   |str j=>obtain⟨B,rfl⟩:=z;exact PySem.EqMixed.ne_int_str (bj I q `s)
   |_=>exact absurd (show false=true from hs) QP
 | str i =>
   obtain⟨t,rfl⟩:=F;cases y with
   |non=>cases z;exact PySem.EqNone.ne_str_none (bj I q `s)
   |bl j=>cases z;exact PySem.EqMixed.ne_str_bool (bj I q `s)
   |int j=>obtain⟨B,rfl⟩:=z;exact PySem.EqMixed.ne_str_int (bj I q `s)
   |str j=>obtain⟨B,rfl⟩:=z;exact ne_str (bj I q (congrArg not nB))
   |_=>exact absurd (show false=true from hs) QP
 | byt i =>
   obtain⟨t,rfl⟩:=F;cases y with
   |byt j=>obtain⟨B,rfl⟩:=z;exact PySem.W.ne_bytes (bj I q (congrArg not wC))
   |_=>exact absurd (show false=true from hs) QP
 |_=>cases y<;>exact absurd (show false=true from hs) QP
def MK:bF X (compareOp .Lt) (rg λi j=>.bl (decide (i<j))):=xv λ_ _ _ _ _ _ _ q=>lt_int q
def MM:bF X (compareOp .LtE) (rg λi j=>.bl (decide (i<=j))):=xv λ_ _ _ _ _ _ _ q=>le_int q
def MN:bF X (compareOp .Gt) (rg λi j=>.bl (decide (j<i))):=xv λ_ _ _ _ _ _ _ q=>gt_int q
def MO:bF X (compareOp .GtE) (rg λi j=>.bl (decide (j<=i))):=xv λ_ _ _ _ _ _ _ q=>ge_int q
def zW:bF X (compareOp .In) (λx y H Q=>∃i j,x=.str i/\y=.str j/\Q (.bl (!(Builtin.Str.occurrences j i 0 j.length 1).isEmpty)) H):=by
 intro pins s σ H x y v u Q I z B h;obtain⟨i,j,rfl,rfl,q⟩:=h;obtain⟨t,rfl⟩:=z;obtain⟨F,rfl⟩:=B;exact in_str (bj I q rfl)
def J0:bF X (compareOp .Is) (λx y H Q=>y=.non/\Q (.bl (decide (x=.non))) H):=by
 intro pins s σ H x y v u Q I j z h;obtain⟨rfl,q⟩:=h;cases z;refine is_none_gen (bj I q ?_);cases x<;>first
  |(cases j;rfl)
  |(obtain⟨t,rfl⟩:=j;rfl)
def GX:bF X (compareOp .IsNot) (λx y H Q=>y=.non/\Q (.bl (!decide (x=.non))) H):=by
 intro pins s σ H x y v u Q I j z h;obtain⟨rfl,q⟩:=h;cases z;refine isnot_none_gen (bj I q ?_);cases x<;>first
  |(cases j;rfl)
  |(obtain⟨t,rfl⟩:=j;rfl)
def tP:bF X (compareOp .NotIn) (λx y H Q=>∃i j,x=.str i/\y=.str j/\Q (.bl (!(!(Builtin.Str.occurrences j i 0 j.length 1).isEmpty))) H):=by
 intro pins s σ H x y v u Q I z B h;obtain⟨i,j,rfl,rfl,q⟩:=h;obtain⟨t,rfl⟩:=z;obtain⟨F,rfl⟩:=B;exact notIn_str (bj I q rfl)
def mZ {op:CmpOp}{r:R2}(ho:bF X (compareOp op) r)(z:PE X a ta)(B:PE X b tb)(hm:behindInMarks op b=false):PE X (.Compare a [op] [b] pos) (zi r ta tb):=by
 intro pins s σ H Q I h;exact wpAny_Compare1 (Du z B I h λv u s2 x y H2 j F J q=>ho pins s2 σ H2 x y v u Q j F J q) hm
def Ee (t:TE):TT:=λσ H Q=>t σ H λx H'=>∃k,x=.bl k/\Q k H'
def qk {op:CmpOp}{r:R2}(ho:bF X (compareOp op) r)(L:PE X a ta)(M:PE X b tb)(hm:behindInMarks op b=false):PT X (.Compare a [op] [b] pos) (Ee (zi r ta tb)):=by
 intro pins s σ H Q I h;refine wpAny_isTrue_Compare1 (aQ (L pins s σ H _ I h) λv s1 ⟨x,H1,B,r1,O⟩=>aQ (M pins s1 σ H1 _ B O) λu s2 ⟨y,H2,F,r2,R⟩=>
  aQ (ho pins s2 σ H2 x y v u _ F r1 r2 R) λc W ⟨z,j,J,U,k,e,S⟩=>?_) hm
 subst e;cases U;exact tqp ⟨j,J,S⟩
def sQ (r r':R2)(ta tb tc:TE):TE:=λσ H Q=>ta σ H λx H1=>tb σ H1 λy H2=>r x y H2 λz j=>∃k,z=.bl k/\
 (if k=true then tc σ j λF B=>r' y F B Q else Q (.bl false) j)
def Cu {op j:CmpOp}{r r':R2}(ho:bF X (compareOp op) r)(B:bF X (compareOp j) r')(U:PE X a ta)(W:PE X b tb)(Y:PE X c tc)
 (hm:lastMarks [op,j] [b,c]=false:=by with_unfolding_all rfl):PE X (.Compare a [op,j] [b,c] pos) (sQ r r' ta tb tc):=by
 intro pins s σ H Q I h;refine Compare_chain (aQ (U pins s σ H _ I h) λv s1 ⟨x,H1,O,r1,q1⟩=>chain_link (aQ (W pins s1 σ H1 _ O q1) λu s2 ⟨y,H2,R,r2,q2⟩=>
  aQ (ho pins s2 σ H2 x y v u _ R r1 r2 q2) λd s3 ⟨z,F,J,r3,k,e,L⟩=>?_)) hm
 subst e;cases r3;refine tqp ?_;cases k with
 |false=>exact ite_ff {.bl false,F,J,rfl,L}
 |true=>exact ite_tt (chain_last (aQ (Y pins s3 σ F _ J L) λw' s4 ⟨z',M,S,r4,q4⟩=>B pins s4 σ M y z' u w' Q S r2 r4 q4))
def Cp {op j:CmpOp}{r r':R2}(ho:bF X (compareOp op) r)(B:bF X (compareOp j) r')(ha:PE X a ta)(hb:PE X b tb)(hc:PE X c tc)
 (hm:lastMarks [op,j] [b,c]=false:=by with_unfolding_all rfl):PT X (.Compare a [op,j] [b,c] pos) (Ee (sQ r r' ta tb tc)):=by
 intro pins s σ H Q I h;refine isTrue_chain (aQ (ha pins s σ H _ I h) λv s1 ⟨x,H1,R,r1,q1⟩=>test_link (aQ (hb pins s1 σ H1 _ R q1) λu s2 ⟨y,H2,S,r2,q2⟩=>
  aQ (ho pins s2 σ H2 x y v u _ S r1 r2 q2) λd s3 ⟨z,F,J,r3,k,e,L⟩=>?_)) hm
 subst e;cases r3;refine tqp ?_;cases k with
 | false =>
   obtain⟨k',Y,q'⟩:=L;cases Y;exact ite_ff ⟨F,J,q'⟩
 | true =>
   refine ite_tt (test_last (aQ (hc pins s3 σ F _ J L) λw' s4 ⟨z',M,U,r4,q4⟩=>aQ (B pins s4 σ M y z' u w' _ U r2 r4 q4) λd' s5 ⟨z2,O,W,r5,k2,e2,q5⟩=>?_));subst e2;cases r5;exact tqp ⟨O,W,q5⟩
def Dz (K:Ql)(x:V)(H:Hp)(k:Bool):Prop:=
 match x with
 |.non=>k=false
 |.bl b=>k=b
 |.int i=>k=(i != 0)
 |.str y=>y.length<=sizeLine/\k=((y.length:Int) != 0)
 |.byt y=>y.size<=sizeLine/\k=((y.size:Int) != 0)
 |.ref p=>(∃xs,cP K H p xs/\k=!xs.isEmpty)\/(∃xs,dw K H p xs/\k=!xs.isEmpty)\/∃kvs,H p=some (.dK kvs)/\k=!kvs.isEmpty
 |_=>False
def xT {κ:Type}{kvs:List (κ×V)}{vs:List (κ×Qo)}(r:KV kvs vs):(!vs.isEmpty)=!kvs.isEmpty:=by
 cases r<;>rfl
def lh {xs:List V}{its:List Qo}(r:Vals xs its):(!its.toArray.isEmpty)=!xs.isEmpty:=by
 cases r<;>simp
def ig:(sizeLine:Nat)<2^63:=by rw[sizeLine_eq];decide
def IU:PX X (λx H Q=>∃k,Dz X.K x H k/\Q k H):=by
 intro pins s σ H x v Q I rx h;obtain⟨k,e,q⟩:=h;have hl:=ig;have hs:sizeLine=16777216:=sizeLine_eq;cases x with
 | non =>
   cases rx;have e':k=false:=e;subst e';exact truthy_none ⟨H,I,q⟩
 | bl b =>
   cases rx;have e':k=b:=e;subst e';exact tqp ⟨H,I,q⟩
 | int i =>
   obtain⟨t,rfl⟩:=rx;have e':k=(i != 0):=e;subst e';exact PySem.P.truthy_int ⟨H,I,q⟩
 | str y =>
   obtain⟨t,rfl⟩:=rx;obtain⟨hy,e'⟩:y.length<=sizeLine/\k=((y.length:Int) != 0):=e;subst e';exact PySem.P.truthy_str `a {H,I.tok _,q}
 | byt y =>
   obtain⟨t,rfl⟩:=rx;obtain⟨hy,e'⟩:y.size<=sizeLine/\k=((y.size:Int) != 0):=e;subst e';exact PySem.W.truthy_bytes `a {H,I.tok _,q}
 | ref p =>
   cases rx;have e':(∃xs,cP X.K H p xs/\k=!xs.isEmpty)\/(∃xs,dw X.K H p xs/\k=!xs.isEmpty)\/∃kvs,H p=some (.dK kvs)/\k=!kvs.isEmpty:=e;rcases e' with⟨xs,hx,e'⟩|⟨xs,hx,e'⟩|⟨kvs,hx,e'⟩
   ·subst e';obtain⟨its,r,pl,hz⟩:=I.list hx;have hlen:=r.length;exact wpAny_truthy_list pl.isList (by simp only[QD];omega) {H,I.tok _,by rw[lh r];exact q}
   ·subst e';obtain⟨its,r,pl,hz⟩:=I.tuple hx;have hlen:=r.length;exact truthy_tuple pl (by simp only[QD];omega) {H,I.tok _,by rw[lh r];exact q}
   ·subst e';obtain⟨hz,hS,vs,r,m⟩:kvs.length<=sizeLine/\(p==sysModules)=false/\∃vs,KV kvs vs/\s.heap.DictOf (j9 X.prog X.w) p vs:=I.hok p _ hx;have hlen:kvs.length=vs.length:=Paired.length r;exact wpAny_truthy_dict hS m `a {H,I.tok _,by rw[xT r];exact q}
 |_=>exact(show False from e).elim
def Co (y:PE X a ta)(he:∀whole,isTrue a X.env whole=(do let v <- whole;standAt a.pos;holding [v] (truthy v))) :
 PT X a (λσ H Q=>ta σ H λx H'=>∃k,Dz X.K x H' k/\Q k H'):=by
 intro pins s σ H Q I h;exact isTrue_plain (aQ (y pins s σ H _ I h) λv s1 ⟨x,H1,j,r1,z⟩=>IU pins s1 σ H1 x v Q j r1 z) (he _)
def xu:bF X (binaryOp .Add) (λx y H Q=>∃i j,x=.str i/\y=.str j/\i.length+j.length<=sizeLine/\Q (.str (i++j)) H):=by
 intro pins s σ H x y v u Q I B F h;obtain⟨i,j,rfl,rfl,z,q⟩:=h;obtain⟨t,rfl⟩:=B;obtain⟨J,rfl⟩:=F;exact add_str (λJ tk=>{.str (i++j),H,I.tok _,{_,rfl},q}) z
def vals1 {x:V}{us:List Qo}(r:Vals [x] us):∃u,us=[u]/\RelV x u:=by
 cases r with
 |cons r1 r2=>cases r2;exact{_,rfl,r1}
def vals2 {x y:V}{us:List Qo}(r:Vals [x,y] us):∃u j,us=[u,j]/\RelV x u/\RelV y j:=by
 cases r with
 | cons r1 r2 =>
   cases r2 with
   |cons z B=>cases B;exact{_,_,rfl,r1,z}
end
structure DH (h:Heap) (x dx C:Addr) (mA:Str->Option Qo):Prop where
 obj:h.get? x=some (PySem.W.instObj C dx)
 ns:h.Ns1 dx mA
 ne:dx≠x
set_option tactic.hygienic true in
def Ak {h:Heap}{dx:Addr}{mA:Str->Option Qo}(n:h.Ns1 dx mA):∃od,h.get? dx=some od/\∀name,PySem.W.lookIn name od=some (mA name):=by
 obtain⟨o,es,J,ho,hd,F,_,hm⟩:=n;refine{o,ho,λname=>?_};have e:=hm name;unfold nsFind findBy at e;rw[<- Array.find?_toList] at e;unfold PySem.W.lookIn;rw[hd];dsimp only;split
 ·rename_i y q;rw[q] at e;exact congrArg some e
 ·rename_i q;rw[q] at e;have a:es.toList.any (·.refKey)=false:=by
   rw[List.any_eq_false];intro y I;obtain⟨z,t,j⟩:=F y (Array.mem_toList_iff.mp I);simp[DictEntry.refKey,j]
  have B:¬ es.toList.any (·.refKey)=true:=by rw[a];exact QP
  rw[if_neg B];exact congrArg some e
def DH.look {h:Heap}{x dx C:Addr}{mA:Str->Option Qo}(I:DH h x dx C mA):∃od,PySem.W.InstAt h x (PySem.W.instObj C dx) C (some od)/\∀name,PySem.W.lookIn name od=some (mA name):=
 let⟨od,ho,hl⟩:=Ak I.ns
 {od,⟨I.obj,rfl,rfl,ho⟩,hl}
section
variable{P:Q0}{w:Q2}{H H':Hp}{h h':Heap}{a C dx:Addr}{fs fs':List (Str×V)}
def Hj (hok:d4 P w H h)(e:H a=some (.ins C dx fs)):∃mA,DH h a dx C mA/\(∀f,DF (fs.lookup f) (mA f))/\PySem.Within mA (fs.map (·.1))/\fs.length<=1000/\H dx=some (.own a):=by
 obtain⟨d,z,ne,ob,mA,n,r,q⟩:=(show cf P w H h a (.ins C dx fs) from hok a _ e);exact{mA,⟨ob,n,ne⟩,r,q,z,d}
end
structure wR (K:Ql) (C:Addr):Prop where
 pg:PySem.W.plainGet K C Str.empty=true
 hd:PySem.W.hasDictIn K C=true
 po:PySem.W.plainOver K C=true
 sa:PySem.W.findIn K (.ref C) "__setattr__"=some (some (.builtin "object.__setattr__"))
def wR.get {K:Ql}{C:Addr}(c:wR K C)(f:Str):PySem.W.plainGet K C f=true:=c.pg
def L7 (K:Ql)(C:Addr)(f:Str):Prop:=PySem.W.findIn K (.ref C) f=some none
structure Meth (K:Ql) (C:Addr) (m:Str) (f:Addr):Prop where
 at_:PySem.W.findIn K (.ref C) m=some (some (.ref f))
 fn:PySem.W.isFn K (.ref f)=true
 kp:PySem.W.keepIn K (.ref f)=true
section
variable{X:Cx}{pins:List (Addr×Obj)}{σ:St}{H:Hp}{s:Qr}{A:RL}{E:Qo->Qr->Prop}{Q:Qo->Qr->Prop}{c:Qo}{b:Bool}
inductive iA (K:Ql) (H:Hp):V->Qo->Prop where
 |non:iA K H .non (.type "NoneType")
 |bl (x:Bool):iA K H (.bl x) (.type "bool")
 |int (i:Int):iA K H (.int i) (.type "int")
 |str (x:Str):iA K H (.str x) (.type "str")
 |flt (x:UInt64):iA K H (.flt x) (.type "float")
 |lst {a:Addr}{xs:List V} (e:H a=some (.lst xs)):iA K H (.ref a) (.type "list")
 |frz {a:Addr}{o:Obj}{xs:List V} (e:H a=some (.frz o (.lst xs))):iA K H (.ref a) (.type "list")
 |tup {a:Addr}{xs:List V} (e:H a=some (.tup xs)):iA K H (.ref a) (.type "tuple")
 |dK {a:Addr}{kvs:List (Key×V)} (e:H a=some (.dK kvs)):iA K H (.ref a) (.type "dict")
 |dT {a:Addr}{kvs:List (List Key×V)} (e:H a=some (.dT kvs)):iA K H (.ref a) (.type "dict")
 |ins {a C dx:Addr}{fs:List (Str×V)} (e:H a=some (.ins C dx fs)) (cl:wR K C) (ha:PySem.W.findIn K (.ref C) "__class__"=some (some (.builtin "object.__class__")))
  (hn:PySem.W.specialIn K (.builtin "object.__class__") "__get__"=some (some (.builtin "getset_descriptor.__get__"))) (htk:PySem.W.takesIn K (.builtin "object.__class__")=some true)
  (hm:PySem.W.mroIn K C (.type "object")=some true):iA K H (.ref a) (.ref C)
def jA {x:V}{u t:Qo}(I:Inv X pins σ H s)(B:RelV x u)(ty:iA X.K H x t)(e:PySem.W.kitOne X.K t c=some b)(h:∀tk,Q (.bool b) {s with toks:=tk}) :
 wpAny (model X.prog X.w) A (call (.builtin "isinstance") [u,c]) Q E s:=by
 cases ty with
 |non=>cases (show u=Value.none from B);exact RA PySem.W.kitx_none I.kIn True.intro e (λz=>nomatch z) h
 |bl y=>cases (show u=Value.bool y from B);exact RA PySem.W.kitx_bool I.kIn True.intro e (λz=>nomatch z) h
 |int i=>obtain⟨t,q⟩:=(show ∃t,u=Value.int i t from B);cases q;exact RA PySem.W.kitx_int I.kIn True.intro e (λz=>nomatch z) h
 |str y=>obtain⟨t,q⟩:=(show ∃t,u=Value.str y t from B);cases q;exact RA PySem.W.kitx_str I.kIn True.intro e (λz=>nomatch z) h
 |flt y=>obtain⟨t,q⟩:=(show ∃t,u=Value.float y t from B);cases q;exact RA PySem.W.kitx_float I.kIn True.intro e (λz=>nomatch z) h
 | @lst a xs j =>
   cases (show u=Value.ref a from B);obtain⟨_,_,n,_,h1⟩:=(show cf X.prog X.w H s.heap a (.lst xs) from I.hok a _ j);exact RA PySem.W.kitx_list I.kIn {_,h1,rfl} e (λz=>nomatch z) h
 | @frz a ob xs j =>
   cases (show u=Value.ref a from B);obtain⟨_,_,_,n,_,h1⟩:=(show cf X.prog X.w H s.heap a (.frz ob (.lst xs)) from I.hok a _ j);exact RA PySem.W.kitx_list I.kIn {_,h1,rfl} e (λz=>nomatch z) h
 | @tup a xs j =>
   cases (show u=Value.ref a from B);obtain⟨_,_,_,p⟩:=(show cf X.prog X.w H s.heap a (.tup xs) from I.hok a _ j);obtain⟨o,h1,h2,_⟩:=p;exact RA PySem.W.kitx_tuple I.kIn ⟨o,h1,h2⟩ e (λz=>nomatch z) h
 | @dK a F j =>
   cases (show u=Value.ref a from B);obtain⟨_,_,S,_,p⟩:=(show cf X.prog X.w H s.heap a (.dK F) from I.hok a _ j);obtain⟨o,es,M,h1,h2,_⟩:=p;exact RA PySem.W.kitx_dict I.kIn ⟨o,h1,h2.1⟩ e (λz=>nomatch z) h
 | @dT a F j =>
   cases (show u=Value.ref a from B);obtain⟨_,_,xs,_,o,es,M,h1,h2,_⟩:=(show cf X.prog X.w H s.heap a (.dT F) from I.hok a _ j);exact RA PySem.W.kitx_dict I.kIn ⟨o,h1,h2.1⟩ e (λz=>nomatch z) h
 | @ins a C dx fs j cl R hn L hm =>
   cases (show u=Value.ref a from B);obtain⟨mA,O,_⟩:=Hj I.hok j;obtain⟨od,J,_⟩:=O.look;exact RA (PySem.W.kitx_own (cl.get _) cl.hd R hn L hm) I.kIn J e (λz=>nomatch z) h
end
structure bW (k:Nat) (A:RL):Prop where
 hd:A.handled=none
 dp:A.depth+3*k+5<recursionLimit
 un:A.units+16*k+200<cLine
 gd:A.guards=some []
def bW.mono {j k:Nat}{A:RL}(r:bW k A)(h:j<=k):bW j A:={r.hd,by have:=r.dp;omega,by have:=r.un;omega,r.gd}
def bW.deeper {k:Nat}{A:RL}(r:bW (k+1) A)(env:Env):bW k (A.deeper env):=
 {r.hd,by have:=r.dp;show A.depth+1+3*k+5<_;omega,by have:=r.un;show A.units+3+16*k+200<_;omega,r.gd}
def xG {A:RL}{C:Addr}{us:List Qo}{j:List (Str×Qo)}:(A.under (.builtin "type.__call__" {.ref C::us,j})).depth=A.depth+1:=by
 first|rfl|simp[Around.under,Code.weight,Code.isCreation,Code.isGuard,Code.isCaller,Code.frames,Code.isFrame,guardIds]
def xF {A:RL}{C:Addr}{us:List Qo}{j:List (Str×Qo)}:(A.under (.builtin "type.__call__" {.ref C::us,j})).units=A.units+1:=by
 first|rfl|simp[Around.under,Code.cUnits,Code.frames,Code.isFrame]
def bW.make {k:Nat}{A:RL}(r:bW (k+1) A)(C:Addr)(us:List Qo)(j:List (Str×Qo)):bW k (A.under (.builtin "type.__call__" {.ref C::us,j})):=
 {r.hd,by have:=r.dp;rw[xG];omega,by have:=r.un;rw[xF];omega,r.gd}
def bW.depth {k:Nat}{A:RL}(r:bW k A):A.depth<recursionLimit:=by have:=r.dp;omega
def bW.units {k:Nat}{A:RL}(r:bW k A):A.units+64<cLine:=by have:=r.un;omega
def OJ:TA:=λ_ H Q=>Q [] H
def Mq (ta:TE)(j:TA):TA:=λσ H Q=>ta σ H λx H1=>j σ H1 λxs H2=>Q (x::xs) H2
section
variable{X:Cx}{e:Expr}{es:List Expr}{te:TE}{t:TA}{pos:Pos}
def cW:PA X [] OJ:=λ_ _ _ _ H Q I h=>Calls.spliced_nil {[],H,I,.nil,h}
def bI (z:PE X e te)(hr:PA X es t)(hs:starEach (e::es) X.env=(false,eval e X.env)::starEach es X.env:=by rfl):PA X (e::es) (Mq te t):=by
 intro pos pins s σ H Q I h;rw[hs];show wpAny _ _ (spliced ((false,eval e X.env)::backTo pos (starEach es X.env))) _ _ s;refine Calls.spliced_cons (aQ (z pins s σ H _ I h) λu s1 ⟨x,H1,j,r1,B⟩=>?_);exact aQ (hr pos pins s1 σ H1 _ j B) λJ s2 ⟨xs,H2,y,r2,F⟩=>{x::xs,H2,y,.cons r1 r2,F}
def OF (t:TA):TE:=λσ H Q=>t σ H λxs H1=>xs.length<=sizeLine/\∀p,H1 p=none->Q (.ref p) (upd H1 p (.tup xs))
def OK (t:TA):TE:=λσ H Q=>t σ H λxs H1=>xs.length<=sizeLine/\∀p,H1 p=none->Q (.ref p) (upd H1 p (.lst xs))
def JM {x1}(h:PA X es t):PE X (.Tuple es x1 pos) (OF t):=by
 intro pins s σ H Q I B;refine wpAny_Tuple_spliced (aQ (h pos pins s σ H _ I B) λF s1 ⟨xs,H1,j,r,z,q⟩=>{by rw[<- r.length];exact z,?_})
 have y:H1 s1.heap.objs.size=none:=j.hok.fresh (Qt _);refine{.ref s1.heap.objs.size,upd H1 s1.heap.objs.size (.tup xs),j.laid (t':=s1.toks) (λb u e=>Qq _ e) (Qt _) ?_,rfl,q _ y};exact{z,F,r,{_,QK _ rfl,rfl,_,rfl}}
def JR (h:PA X es t):PE X (.List es pos) (OK t):=by
 intro pins s σ H Q I B;refine wpAny_List_spliced (aQ (h pos pins s σ H _ I B) λF s1 ⟨xs,H1,j,r,z,q⟩=>{by rw[<- r.length];exact z,?_})
 have y:H1 s1.heap.objs.size=none:=j.hok.fresh (Qt _);refine{.ref s1.heap.objs.size,upd H1 s1.heap.objs.size (.lst xs),j.laid (t':=s1.toks) (λb u e=>Qq _ e) (Qt _) ?_,rfl,q _ y};exact{z,F,0,r,QK _ rfl}
end
abbrev Sp:=List V->Hp->VK->XK->Prop
abbrev n4:=List Env->Hp->Qr->XK->Qo->Qr->Prop
structure oV (P:Q0) (w:Q2) (K:Ql) (mg:Str->Option Qo) (base:Heap) (A:RL) (outer:List Env) (s:Qr) (H:Hp):Prop where
 frames:A.frames=some outer
 mod:Mod K mg base
 bs:∀b o,base.get? b=some o->s.heap.get? b=some o/\H b=none
 bsz:base.objs.size<=s.heap.objs.size
 funs:s.heap.FunFrames base outer
 frf:∀b∈fK outer,H b=none
 hok:d4 P w H s.heap
 bare:AllBare s.gens
def CE (outer:List Env)(P:Q0)(w:Q2)(H:Hp)(s:Qr)(Q:VK)(u:Qo)(s':Qr):Prop:=
 ∃v H',s'.os=s.os/\AllBare s'.gens/\Un (fK outer) [] H H' s.heap s'.heap/\d4 P w H' s'.heap/\RelV v u/\Q v H'
def CR (CX:n4)(outer:List Env)(P:Q0)(w:Q2)(H:Hp)(s:Qr)(Q:VK)(E:XK)(r:Result)(s':Qr):Prop:=
 match r with
 |.ok (.ret u)=>CE outer P w H s Q u s'
 |.ok _=>False
 |.error e=>CX outer H s E e s'
structure jV (P:Q0) (w:Q2) (K:Ql) (mg:Str->Option Qo) (base:Heap) (CX:n4) (k:Nat) (f:Addr) (fd:FuncData) (ps:List Str) (sp:Sp):Prop where
 len:∀vs H Q E,sp vs H Q E->vs.length=ps.length
 run:∀(A:RL) (outer:List Env) (s:Qr) (H:Hp) (args:Args) (us:List Qo) (vs:List V) (Q:VK) (E:XK),bW k A->oV P w K mg base A outer s H->BindsTo s fd args (ps.zip us)->Vals vs us->sp vs H Q E->
  codeAny (model P w) A (.call (.ref f) args) (CR CX outer P w H s Q E) s
def oV.make {P:Q0}{w:Q2}{K:Ql}{mg:Str->Option Qo}{base:Heap}{A:RL}{outer:List Env}{s:Qr}{H:Hp}(e:oV P w K mg base A outer s H)(C:Addr)(us:List Qo)(j:List (Str×Qo)) :
 oV P w K mg base (A.under (.builtin "type.__call__" {.ref C::us,j})) outer s H:={by first|exact e.frames|(simpa[Around.under,Code.envs,Code.isFrame,pushEnvs] using e.frames),e.mod,e.bs,e.bsz,e.funs,e.frf,e.hok,e.bare}
section
variable{X:Cx}{pins:List (Addr×Obj)}{σ:St}{H:Hp}{s s':Qr}
def Inv.env0 (I:Inv X pins σ H s):oV X.prog X.w X.K X.mg X.base X.A X.stack s H:=
 {I.ok.frames,I.ok.mod,I.bs,QF I.ok.bsz I.sz,I.stack,I.stkFree,I.hok,I.bare}
def Inv.after {Q:VK}{u:Qo}(I:Inv X pins σ H s)(h:CE X.stack X.prog X.w H s Q u s'):EP X pins σ Q u s':=by
 obtain⟨v,H',os,bare,un,hok,r,q⟩:=h;obtain⟨y,g,d,t,j⟩:=s';obtain rfl:j=s.os:=os;exact{v,H',I.call (h':=y) (g':=g) (d':=d) (t':=t) (ch:=[]) un hok bare (λb z=>absurd z `s),r,q}
end
def Eg (sp:Sp)(dvs:List V)(E:XK)(t:TA):TE:=λσ H Q=>t σ H λvs H1=>sp (vs++dvs) H1 Q E
def Binds (K:Ql)(fd:FuncData)(ps:List Str)(ds:List Qo):Prop:=
 ∀(s:Qr) (j:List Qo),K.In s.heap->(j++ds).length=ps.length->BindsTo s fd {j,[]} (ps.zip (j++ds))
def Binds.all {K:Ql}{fd:FuncData}{ps:List Str}(h:∀us:List Qo,us.length=ps.length->bindArgs fd {us,[]}=pure (ps.zip us)):Binds K fd ps []:=λs us _ hl=>by
 rw[RZ] at hl ⊢;exact .of_eq (h us hl)
def Passes (CX:n4)(X:Cx)(E:XK):Prop:=∀(pins:List (Addr×Obj)) (σ:St) (H:Hp) (s:Qr) (e:Qo) (s':Qr),Inv X pins σ H s->CX X.stack H s E e s'->X.xe e s'
section
variable{X:Cx}{CX:n4}{k:Nat}{f C:Addr}{fd:FuncData}{ps:List Str}{sp:Sp}{dvs:List V}{ds:List Qo}{E:XK}{x m:Str}{p pos apos:Pos}{e o:Expr}{es:List Expr}{ta:TE}{t:TA}
def zF {pins:List (Addr×Obj)}{σ:St}{H:Hp}{s:Qr}{Q:VK}{us:List Qo}{vs:List V}(F:jV X.prog X.w X.K X.mg X.base CX k f fd ps sp)(hr:bW k X.A)(y:Binds X.K fd ps ds)(hd:Vals dvs ds)(z:Passes CX X E)
 (I:Inv X pins σ H s) (r:Vals vs us) (h:sp (vs++dvs) H Q E):wpAny (model X.prog X.w) X.A (call (.ref f) us) (EP X pins σ Q) X.xe s:=by
 have r2:Vals (vs++dvs) (us++ds):=r.append hd;have hl:(us++ds).length=ps.length:=by rw[<- r2.length];exact F.len _ _ _ _ h
 refine wpAny_call (codeAny_mono (F.run X.A X.stack s H {us,[]} (us++ds) (vs++dvs) Q E hr I.env0 (y s us I.kIn hl) r2 h) λr s' j=>?_);cases r with
 |error e=>exact z pins σ H s e s' I j
 | ok fl =>
   cases fl with
   |ret u=>exact I.after j
   |next=>exact False.elim j
   |brk=>exact False.elim j
   |cont=>exact False.elim j
def GQ (F:jV X.prog X.w X.K X.mg X.base CX k f fd ps sp)(hr:bW k X.A)(L:Gl X x)(hm:X.mg x=some (.ref f))(M:PySem.W.keepIn X.K (.ref f)=true)(J:Binds X.K fd ps ds)(hd:Vals dvs ds)(O:Passes CX X E)
 (B:PA X (e::es) t) (j:(x==("__debug__":Str))=false:=by decide) (he:starEach (e::es) X.env=(false,eval e X.env)::starEach es X.env:=by rfl) (y:(backTo pos (starEach es X.env)).any (·.1)=false:=by rfl) :
 PE X (.Call (.Name x p) (e::es) [] pos) (Eg sp dvs E t):=by
 intro pins s σ H Q I h;refine wpAny_Call_Name_kw (f7 I L hm ?_ j);refine SR (h₀:=X.base) I.ok.mod.kin M (aQ (B pos pins s σ H _ I h) λR s1 ⟨S,H1,z,r,q⟩=>{z.kIn,?_}) he y;exact zF F hr J hd O z r q
structure Mk (K:Ql) (C f:Addr):Prop where
 makes:PySem.W.makesIn K C=true
 init:PySem.W.findIn K (.ref C) "__init__"=some (some (.ref f))
 fn:PySem.W.isFn K (.ref f)=true
 kp:PySem.W.keepIn K (.ref C)=true
end
structure gp (N P:List Str) (sc:Scope):Prop where
 kind:sc.kind=.function
 co:sc.isCoroutine=false
 gen:sc.isGenerator=false
 nd:N.Nodup
 pre:N.take P.length=P
 par:∀x∈P,sc.names.lookup x=some .local\/sc.names.lookup x=some .cell
 nofree:∀y∈sc.names,y.2≠.free
def rP {j:Str->Option NameKind}{x:Str}:∀{binds:List (Str×Qo)}{m:Str->Option Qo},(∀v,(x,v)∉binds)->bindL j binds m x=m x
 |[],_,_=>rfl
 | (n, v) :: r, m, h => by
   unfold bindL;rw[rP λw y=>h w (Qu _ y)];split
   ·have:x≠n:=by rintro rfl;exact h v QB
    simp[this]
   ·rfl
def rR {j:Str->Option NameKind}{x:Str}:∀{binds:List (Str×Qo)}{m:Str->Option Qo},(∀v,(x,v)∉binds)->bindC j binds m x=m x
 |[],_,_=>rfl
 | (n, v) :: r, m, h => by
   unfold bindC;rw[rR λw y=>h w (Qu _ y)];split
   ·rfl
   ·have:x≠n:=by rintro rfl;exact h v QB
    simp[this]
def rQ {j:Str->Option NameKind}{x:Str}{v:Qo}:∀{P:List Str}{vs:List Qo}{i:Nat}{m:Str->Option Qo},P.Nodup->P[i]?=some x->vs[i]?=some v->j x=some .local->
 bindL j (P.zip vs) m x=some v
 |[],_,_,_,_,h,_,_=>by simp at h
 |_::_,[],_,_,_,_,h,_=>by simp at h
 | p :: P, w :: vs, 0, m, nd, h1, h2, y => by
   simp at h1 h2;subst h1;subst h2;show bindL j ((p,w)::P.zip vs) m p=_;unfold bindL;rw[rP λv z=>(RY.mp nd).1 (List.of_mem_zip z).1,if_pos y];simp
 | p :: P, w :: vs, i + 1, m, nd, h1, h2, y => by
   show bindL j ((p,w)::P.zip vs) m x=_;unfold bindL;exact rQ (i:=i) (RY.mp nd).2 (by simpa using h1) (by simpa using h2) y
def rS {j:Str->Option NameKind}{x:Str}{v:Qo}:∀{P:List Str}{vs:List Qo}{i:Nat}{m:Str->Option Qo},P.Nodup->P[i]?=some x->vs[i]?=some v->j x≠some .local->
 bindC j (P.zip vs) m x=some v
 |[],_,_,_,_,h,_,_=>by simp at h
 |_::_,[],_,_,_,_,h,_=>by simp at h
 | p :: P, w :: vs, 0, m, nd, h1, h2, y => by
   simp at h1 h2;subst h1;subst h2;show bindC j ((p,w)::P.zip vs) m p=_;unfold bindC;rw[rR λv z=>(RY.mp nd).1 (List.of_mem_zip z).1,if_neg y];simp
 | p :: P, w :: vs, i + 1, m, nd, h1, h2, y => by
   show bindC j ((p,w)::P.zip vs) m x=_;unfold bindC;exact rS (i:=i) (RY.mp nd).2 (by simpa using h1) (by simpa using h2) y
noncomputable def start (N:List Str)(vs:List V):St:=vs.map some++List.replicate (N.length-vs.length) none
noncomputable def eM (CX:n4)(P:Q0)(w:Q2)(K:Ql)(mg:Str->Option Qo)(base:Heap)(N:List Str)(y:Str)(j:Scope)(f:Addr)(B:Qo)(A:RL)(outer:List Env)(s:Qr)(H:Hp)(E:XK):Cx where
 prog:=P
 w:=w
 K:=K
 mg:=mg
 base:=base
 A:=A.deeper (envOfC y j s.heap.objs.size f B)
 N:=N
 s₀:=s
 H₀:=H
 env:=envOfC y j s.heap.objs.size f B
 outer:=outer
 stack:=envOfC y j s.heap.objs.size f B::outer
 ex:=[]
 calm:=true
 fn:=λ_=>true
 pn:=[]
 xe:=λe s'=>wpAny (model P w) (A.deeper (envOfC y j s.heap.objs.size f B)) (leaving (envOfC y j s.heap.objs.size f B) e) (λ_ z=>CX outer H s E e z) (λF z=>CX outer H s E F z) s'
def uN {sc:Scope}{n:Nat}{x:Str}(h:sc.names.lookup x=some .cell):∃c,(cellsFrom n sc.names []).lookup x=some c:=by
 have q:=PySem.W.cellsFrom_some sc.names n [] (.inl h);exact SO.mp q
def AH {CX:n4}{P:Q0}{w:Q2}{K:Ql}{mg:Str->Option Qo}{base:Heap}{N ps:List Str}{B:Str}{j:Scope}{f:Addr}{O:Qo}{A:RL}{outer:List Env}{s s1:Qr}{H:Hp}{E:XK}{us:List Qo}{vs:List V}
 (S:gp N ps j) (hd:A.handled=none) (F:oV P w K mg base A outer s H) (hl:vs.length=ps.length) (r:Vals vs us)
 (x:InCallC s s.heap.objs.size (bindL (envOfC B j s.heap.objs.size f O).kindOf (ps.zip us) λ_=>none) (cellsFrom (s.heap.objs.size+1) j.names []) (bindC (envOfC B j s.heap.objs.size f O).kindOf (ps.zip us) λ_=>none) s1) :
 Inv (eM CX P w K mg base N B j f O A outer s H E) [] (start N vs) H s1:=by
 have hpl:ps.length<=N.length:=by have:=congrArg List.length S.pre;rw[Sa] at this;omega
 obtain⟨h1,tk,rfl,R⟩:=x.done;have J:∀b:Addr,b∉(eM CX P w K mg base N B j f O A outer s H E).ex:=λb z=>absurd (show b∈([]:List Addr) from z) `s
 refine{{F.mod,S.kind,rfl,rfl,Qt _,λy z c h1 h2=>?_,λy I=>?_,λy c _ h=>?_,λ_=>hd,Around.frames_deeper F.frames,.inr ⟨rfl,rfl⟩,λb z=>absurd z (J b),F.bs,F.bsz,λb _ _=>J b,λb z=>absurd z (J b),F.funs,F.frf},
  rfl,F.bare,Un.kept R,{_,x.toInCall.ns,λi y v h1 h2 h3=>?_},λy c h=>{_,x.cell y c h},F.hok.fresh (Qt _),λy c h=>?_,λp L=>absurd (show p∈([]:List (Addr×Obj)) from L) `s,F.hok.kept R,?_}
 ·exact name_of_addr x.apart (SK h1) (SK h2)
 ·have I:j.names.lookup y=some .cell\/j.names.lookup y=some .free:=I;rcases I with I|I
  ·exact uN I
  ·exact absurd rfl (S.nofree _ (SK I))
 ·exact Sy (x.above y c (SK h))
 ·have hi:i<vs.length:=by
   unfold start at h2;by_cases hi:i<vs.length
   ·exact hi
   ·rw[QY (by simpa using hi)] at h2
    rw[Sv] at h2;split at h2<;>cases h2
  have Y:vs[i]?=some v:=by
   unfold start at h2;rw[QA (by simpa using hi),QO] at h2
   cases e:vs[i]? with
   |none=>rw[e] at h2;cases h2
   |some a=>rw[e] at h2;cases h2;rfl
  obtain⟨u,U,rv⟩:=r.get Y;have L:ps[i]?=some y:=by
   rw[<- S.pre,List.getElem?_take_of_lt `a];exact h1
  have M:ps.Nodup:=by rw[<- S.pre];exact S.nd.sublist (List.take_sublist _ _)
  refine{u,rv,?_};rcases S.par y (Q9 L) with k|k
  ·exact .inl {k,rQ M L U k}
  ·obtain⟨c,e⟩:=uN (n:=s.heap.objs.size+1) k;refine .inr {.inl k,c,e,?_};have q:=x.cell y c e;rw[rS M L U (by show j.names.lookup y≠_;rw[k];decide)] at q
   exact q
 ·exact F.hok.fresh (Sy (x.above y c (SK h)))
 ·unfold start;show _=N.length;rw[Rp,Qn,List.length_replicate];omega
def Na {CX:n4}{P:Q0}{w:Q2}{K:Ql}{mg:Str->Option Qo}{base:Heap}{k:Nat}{f:Addr}{name z:Str}{params:Arguments}{body:List Stmt}{j:Scope}{dV kV O pm B ct oc:Qo}{an od:Option Addr}
 {osl:Array (Option Qo)}{N ps:List Str}{sp:Sp} (lk:K.lookup f=some {oc,od,.func (PySem.W.fnOf name z params body j dV kV O pm an B ct),osl}) (hcd:PySem.W.codeIn K B z=true) (S:gp N ps j)
 (len:∀vs H Q E,sp vs H Q E->vs.length=ps.length)
 (L:∀(A:RL) (outer:List Env) (s:Qr) (H:Hp) (vs:List V) (Q:VK) (E:XK),bW k (A.deeper (envOfC z j s.heap.objs.size f B))->sp vs H Q E->
  ∃t,kB (eM CX P w K mg base N z j f B A outer s H E) body t/\t {nx:=λ_ H'=>Q .non H',rt:=Q} (start N vs) H) :
 jV P w K mg base CX (k+1) f (PySem.W.fnOf name z params body j dV kV O pm an B ct) ps sp:=by
 refine{len,λA outer s H args us vs Q E hr R hb r Y=>?_};have hl:=len _ _ _ _ Y;have KX:K.In s.heap:=R.mod.kin.keeps λb o e=>(R.bs b o e).1;have lim:s.heap.NoLimit:=R.mod.nolimit.keeps λb o e=>(R.bs b o e).1;have M:∀y∈ps.zip us,j.names.lookup y.1=some .local\/(j.names.lookup y.1=some .cell/\((cellsFrom (s.heap.objs.size+1) j.names []).lookup y.1).isSome=true):=λ⟨n,v⟩ hy=>by
  rcases S.par n (List.of_mem_zip hy).1 with q|q
  ·exact .inl q
  ·exact .inr {q,PySem.W.cellsFrom_some _ _ _ (.inl q)}
 refine codeAny_call_function hr.depth (KX _ _ lk) rfl S.co S.gen rfl (PySem.W.codeRec_of KX hcd) (hb _ _ _ _ ?_);refine wpAny_newFunctionEnv_cells S.kind M λenv he s1 x=>?_;subst he;refine{lim.keeps x.toInCall.keep,codeAny_func ?_};obtain⟨t,ht,hq⟩:=L A outer s H vs Q E (hr.deeper _) Y;have I:Inv (eM CX P w K mg base N z j f B A outer s H E) [] (start N vs) H s1:=AH S hr.hd R hl r x;refine wpAny_mono (ht [] s1 (start N vs) H _ I hq) (λfl s' hs=>?_) λe s' hs=>hs;have U:∀{F:St}{H':Hp}{v:V}{u:Qo},Inv (eM CX P w K mg base N z j f B A outer s H E) [] F H' s'->RelV v u->Q v H'->CE outer P w H s Q u s':=
  λ{F H' v u} J rv q=>⟨v,H',J.os,J.bare,J.base,J.hok,rv,q⟩
 cases fl with
 | ret u =>
   obtain⟨v,F,H',J,rv,q⟩:=hs;exact U J rv q
 | next =>
   obtain⟨F,H',J,q⟩:=hs;exact U (v:=V.non) (u:=Value.none) J rfl q
 | brk =>
   obtain⟨_,_,_,q⟩:=hs;exact False.elim q
 | cont =>
   obtain⟨_,_,_,q⟩:=hs;exact False.elim q
section
variable{X:Cx}{x:Str}{p pos:Pos}{e:Expr}{es:List Expr}{t:TA}{id T:String}{r:List V->Hp->VK->Prop}
def N6 (r:List V->Hp->VK->Prop)(t:TA):TE:=λσ H Q=>t σ H λj H1=>r j H1 Q
def i7 (F:b8 X (.builtin id) r)(J:Gl X x)(hm:X.mg x=none)(L:bootBuiltins x=some (.builtin id))(B:PA X (e::es) t)(hn:x≠"__name__":=by decide)(j:(x==("__debug__":Str))=false:=by decide)
 (he:starEach (e::es) X.env=(false,eval e X.env)::starEach es X.env:=by rfl) (y:(backTo pos (starEach es X.env)).any (·.1)=false:=by rfl):PE X (.Call (.Name x p) (e::es) [] pos) (N6 r t):=by
 intro pins s σ H Q I h;refine wpAny_Call_Name_kw (gD I J hm L ?_ hn j);exact PyProof.Rows.callWith_builtin1 (aQ (B pos pins s σ H _ I h) λO s1 ⟨R,H1,z,r1,M⟩=>F pins s1 σ H1 R O Q z r1 M) he y
def rj (F:b8 X (.type T) r)(J:Gl X x)(hm:X.mg x=none)(L:bootBuiltins x=some (.type T))(B:PA X (e::es) t)(hn:x≠"__name__":=by decide)(j:(x==("__debug__":Str))=false:=by decide)
 (he:starEach (e::es) X.env=(false,eval e X.env)::starEach es X.env:=by rfl) (y:(backTo pos (starEach es X.env)).any (·.1)=false:=by rfl):PE X (.Call (.Name x p) (e::es) [] pos) (N6 r t):=by
 intro pins s σ H Q I h;refine wpAny_Call_Name_kw (gD I J hm L ?_ hn j);exact R1 (aQ (B pos pins s σ H _ I h) λO s1 ⟨R,H1,z,r1,M⟩=>F pins s1 σ H1 R O Q z r1 M) he y
end
end L2
namespace HT
open PySem PyProof.Rows
section
variable{prog:Q0}{w:Q2}{A:RL}{E:Qo->Qr->Prop}{s:Qr}
def HU {t b:Addr}{vs ws:List Qo}{Q:Qo->Qr->Prop}(W:IsTup s.heap t vs.toArray)(U:IsTup s.heap b ws.toArray)(S:vs≠[])
 (h1:ws=[]->Q (.ref t) s) (h2:ws≠[]->Q (.ref s.heap.objs.size) {s with heap:=s.heap.push {cls:=.type "tuple",data:=.seq (vs++ws).toArray}})
 (hsz:vs.length+ws.length<=sizeLine):wpAny (model prog w) A (binaryOp .Add (.ref t) (.ref b)) Q E s:=by
 obtain⟨⟨cls,O,data,sl⟩,ho,R,n,hd⟩:=id W;obtain⟨⟨M,y,L,I⟩,j,z,n2,B⟩:=id U;simp only at R hd z B;subst R hd z B;have e:vs.toArray++ws.toArray=(vs++ws).toArray:=`s
 by_cases J:ws=[]
 ·exact concat_meets {_,ho,rfl} {_,j,rfl} noFill_tuple_add seq_tuple_add PySem.F.slot_tuple_add PySem.F.entry_tuple_add (PySem.F.args_tuple_add_2 _ _)
   (tuple_addW1 t b vs.toArray ws.toArray n n2 O y sl I (by simpa using S) (by simp[J])) {ho,j,h1 J}
 ·refine concat_meets {_,ho,rfl} {_,j,rfl} noFill_tuple_add seq_tuple_add PySem.F.slot_tuple_add PySem.F.entry_tuple_add (PySem.F.args_tuple_add_2 _ _)
   (tuple_addW2 t b vs.toArray ws.toArray n n2 O y sl I (by simpa using S) (by simpa using J) (by rw[QD,QD];exact hsz)) {ho,j,?_}
  rw[e];exact h2 J
noncomputable def aW (n d:Nat):Option Int->Nat
 |none=>d
 |some v=>if v<0 then(v+(n:Int)).toNat else min v.toNat n
def Jo (n d:Nat)(hd:d<=n)(o:Option Int):aW n d o<=n:=by
 cases o with
 |none=>exact hd
 | some v =>
   show(if v<0 then(v+(n:Int)).toNat else min v.toNat n)<=n;by_cases j:v<0
   ·rw[if_pos j];omega
   ·rw[if_neg j];exact Nat.min_le_right _ _
def wG (v:Int)(n d:Nat):(if v<0 then max (v+(n:Int)) 0 else min v (n:Int))=((aW n d (some v):Nat):Int):=by
 show(if v<0 then max (v+(n:Int)) 0 else min v (n:Int))=(((if v<0 then(v+(n:Int)).toNat else min v.toNat n):Nat):Int);by_cases j:v<0
 ·simp only[if_pos j];omega
 ·simp only[if_neg j];omega
def yn (lo hi:Option Int)(n:Nat):Builtin.Slice.sliceAdjust lo hi 1 (n:Int)=(((aW n 0 lo:Nat):Int),((aW n n hi:Nat):Int)):=by
 have h1:¬ ((1:Int)<0):=`a
 unfold Builtin.Slice.sliceAdjust;simp only[h1,if_false];refine Prod.ext ?_ ?_
 ·cases lo with
  |none=>rfl
  |some v=>exact wG v n 0
 ·cases hi with
  |none=>rfl
  |some v=>exact wG v n n
def xp (i j:Nat):Builtin.Slice.slicePlaces (i:Int) (j:Int) 1=j-i:=by
 unfold Builtin.Slice.slicePlaces;have h1:(1:Int) > 0:=`a
 simp only[h1,if_true,Int.ediv_one];split<;>omega
def oZ {v:Qo}{o:Option Int}{Q:Option Int->Qr->Prop}(p:IsPart v o)(h:Q o s):wpAny (model prog w) A (Builtin.Slice.slicePartIndex v) Q E s:=by
 cases p with
 |none=>exact slicePart_none h
 |int i t=>exact slicePart_int h
def i1 {sl:Addr}{z B:Qo}{lo hi:Option Int}{n:Nat}{Q:Int×Int×Nat->Qr->Prop}(hs:s.heap.IsSliceOf sl z B .none)(pl:IsPart z lo)(I:IsPart B hi)
 (h:Q (((aW n 0 lo:Nat):Int),1,aW n n hi-aW n 0 lo) s):wpAny (model prog w) A (Builtin.Slice.sliceApplied (.ref sl) (pure (n:Int))) Q E s:=by
 obtain⟨os,y,F,j⟩:=id hs;unfold Builtin.Slice.sliceApplied Builtin.Slice.sliceFields;refine tqa (tqa (tqf y j (x:=z) rfl (tqa (tqf y j (x:=B) rfl (tqa (tqf y j (x:=.none) rfl (tqb ?_)))))));refine tqa (slicePart_none ?_);show wpAny _ _ (if ((1:Int)==0)=true then _ else _) _ _ s;rw[if_neg `d]
 refine tqa (oZ pl (tqa (oZ I (tqa (tqb ?_)))));show wpAny _ _ (match Builtin.Slice.sliceAdjust lo hi 1 (n:Int) with|(lo,hi)=>pure (lo,(1:Int),Builtin.Slice.slicePlaces lo hi 1)) _ _ s
 rw[yn lo hi n];show wpAny _ _ (pure (((aW n 0 lo:Nat):Int),(1:Int),Builtin.Slice.slicePlaces ((aW n 0 lo:Nat):Int) ((aW n n hi:Nat):Int) 1)) _ _ s;rw[xp];exact tqb h
def Cs (xs:Array Qo)(i k:Nat):((List.range k).filterMap λ(m:Nat)=>xs[((i:Int)+(m:Int)*1).toNat]?).toArray=((xs.toList.drop i).take k).toArray:=by
 have e:(λ(m:Nat)=>xs[((i:Int)+(m:Int)*1).toNat]?)=λm=>xs[i+m]?:=by
  funext m
  have:((i:Int)+(m:Int)*1).toNat=i+m:=`a
  rw[this]
 rw[e];have:=pick_run xs i k;rw[List.filterMap_map] at this;have e2:((λx=>xs[x]?)∘λx=>i+x)=λm=>xs[i+m]?:=rfl;rw[e2] at this;rw[this]
def nO {t sl:Addr}{items:Array Qo}{J L:Qo}{lo hi:Option Int}{Q:Qo->Qr->Prop}(y:IsTup s.heap t items)(hs:s.heap.IsSliceOf sl J L .none)(pl:IsPart J lo)(R:IsPart L hi)
 (O:¬ (aW items.size 0 lo=0/\aW items.size items.size hi=items.size))
 (h:Q (.ref s.heap.objs.size) {s with heap:=s.heap.push {cls:=.type "tuple",data:=.seq ((items.toList.drop (aW items.size 0 lo)).take (aW items.size items.size hi-aW items.size 0 lo)).toArray}})
 (hsz:items.size<=sizeLine):wpAny (model prog w) A (getItem (.ref t) (.ref sl)) Q E s:=by
 have j:sizeOk (.seq ((items.toList.drop (aW items.size 0 lo)).take (aW items.size items.size hi-aW items.size 0 lo)).toArray):=by
  show((items.toList.drop (aW items.size 0 lo)).take (aW items.size items.size hi-aW items.size 0 lo)).toArray.size<=sizeLine;rw[QD,Sa,List.length_drop,Su];omega
 have S:aW items.size items.size hi<=items.size:=Jo _ _ (Qt _) hi;obtain⟨os,I,B,M⟩:=id hs;have z:s.TypeIs (.ref sl) "slice":=⟨os,I,B⟩;unfold getItem;try with_reducible refine tqo ?_
 first|refine tqa (tqb ?_)|skip
 refine tqa (wpAny_sequenceKey y.typeIs `d ?_)
 refine tqa (wpAny_callSpecial?_slot (name:=Str.ofString "__getitem__") y.typeIs RR
  (wpAny_call_entry RR y.typeIs entry_tuple_getitem ?_ (args_tuple_getitem _ _)))
 show wpAny _ _ (Builtin.Tuple.tupleItemsOf (.ref t) >>= _) _ _ s;refine tqa (tupleItemsOf_ y ?_);refine tqa (wpAny_typeOf z ?_);rw[if_pos `d]
 refine tqa (i1 hs pl R ?_);have F:¬ ((((aW items.size 0 lo:Nat):Int)==0&&(1:Int)==1&&(aW items.size items.size hi-aW items.size 0 lo)==items.size)=true):=by
  intro q;rw[Qs,Qs] at q;have U:((aW items.size 0 lo:Nat):Int)=0:=eq_of_beq q.1.1;have W:aW items.size items.size hi-aW items.size 0 lo=items.size:=eq_of_beq q.2;exact O {`a,`a}
 show wpAny _ _ (if (((aW items.size 0 lo:Nat):Int)==0&&(1:Int)==1&&(aW items.size items.size hi-aW items.size 0 lo)==items.size)=true then _ else _) _ _ s;rw[if_neg F,Cs];first
  |exact tqa (m:=Builtin.Tuple.tupleExact _) (wpAny_newObj_type (tqb {_,rfl,tqb h}) j)
  |exact tqa (m:=Builtin.Tuple.tupleExact _) (wpAny_newObj_type (tqa (tqb (tqb {_,rfl,tqb h}))) j)
  |exact tqa (tqa (m:=Builtin.Tuple.tupleExact _) (wpAny_newObj_type (tqb (tqb {_,rfl,tqb h})) j))
  |exact tqa (tqa (m:=Builtin.Tuple.tupleExact _) (wpAny_newObj_type (tqb {_,rfl,tqb h}) j))
end
end HT
namespace L2
open PySem PySem.Spec PyProof.Rows
abbrev TO:=St->Hp->(Option Int->Hp->Prop)->Prop
def PO (X:Cx)(e:Option Expr)(t:TO):Prop:=
 ∀(pins:List (Addr×Obj)) (s:Qr) (σ:St) (H:Hp) (Q:Option Int->Hp->Prop),Inv X pins σ H s->t σ H Q->
  wpAny (model X.prog X.w) X.A (evalPart e X.env) (λu s'=>∃o H',Inv X pins σ H' s'/\IsPart u o/\Q o H') X.xe s
def F0:TO:=λ_ H Q=>Q none H
def Mn (t:TE):TO:=λσ H Q=>t σ H λx H1=>∃i,x=.int i/\Q (some i) H1
section
variable{X:Cx}{e:Expr}{te:TE}{lo hi:Option Expr}{tl th:TO}{pos p2:Pos}
def GO:PO X none F0:=by
 intro pins s σ H Q I h;rw[evalPart_none];exact tqb {none,H,I,.none,h}
def GN (h:PE X e te):PO X (some e) (Mn te):=by
 intro pins s σ H Q I y;rw[evalPart_some];refine aQ (h pins s σ H _ I y) λu s1 ⟨x,H1,j,r1,z⟩=>?_;obtain⟨i,rfl,q⟩:=z;obtain⟨t,rfl⟩:=r1;exact{some i,H1,j,.int i t,q}
def mL (X:Cx)(r:V->Option Int->Option Int->Hp->VK->Prop):Prop:=
 ∀(pins:List (Addr×Obj)) (s:Qr) (σ:St) (H:Hp) (x:V) (v j y:Qo) (lo hi:Option Int) (sl:Addr) (Q:VK),Inv X pins σ H s->RelV x v->s.heap.IsSliceOf sl j y .none->IsPart j lo->IsPart y hi->r x lo hi H Q->
  ∃T id,typeLookup (.type T) "__getitem__"=pure (some (.builtin id))/\s.TypeIs v T/\wpAny (model X.prog X.w) X.A (getItem v (.ref sl)) (EP X pins σ Q) X.xe s
def mL.or {r r':V->Option Int->Option Int->Hp->VK->Prop}(h:mL X r)(h':mL X r'):mL X (λx lo hi H Q=>r x lo hi H Q\/r' x lo hi H Q):=by
 intro pins s σ H x v B F lo hi sl Q I z hs j y q;rcases q with q|q
 ·exact h pins s σ H x v B F lo hi sl Q I z hs j y q
 ·exact h' pins s σ H x v B F lo hi sl Q I z hs j y q
def tSl (r:V->Option Int->Option Int->Hp->VK->Prop)(te:TE)(tl th:TO):TE:=λσ H Q=>te σ H λx H1=>tl σ H1 λl H2=>th σ H2 λu j=>r x l u j Q
def Ct {r:V->Option Int->Option Int->Hp->VK->Prop}(hr:mL X r)(he:PE X e te)(hl:PO X lo tl)(U:PO X hi th):PE X (.Subscript e (.Slice lo hi none p2) pos) (tSl r te tl th):=by
 intro pins s σ H Q I h;refine Subscript_ (aQ (he pins s σ H _ I h) λv s1 ⟨x,H1,F,r1,q1⟩=>?_);refine wpAny_Slice (aQ (hl pins s1 σ H1 _ F q1) λy s2 ⟨l,H2,J,W,q2⟩=>aQ (U pins s2 σ H2 _ J q2) λz j ⟨u,B,L,Y,q3⟩=>?_);rw[evalPart_none];refine tqb ?_;have M:Inv X pins σ B {j with heap:=j.heap.push {cls:=.type "slice",data:=.fields #[y,z,.none]}}:=L.kept (t':=j.toks) λb ob q=>Qq _ q
 obtain⟨T,id,O,S,R⟩:=hr pins {j with heap:=j.heap.push {cls:=.type "slice",data:=.fields #[y,z,.none]}} σ B x v y z l u j.heap.objs.size Q M r1 (Heap.IsSliceOf.new ..) W Y q3
 show wpAny (model X.prog X.w) X.A (subscriptTail e (.Slice lo hi none p2) v (.ref j.heap.objs.size)) (EP X pins σ Q) X.xe {j with heap:=j.heap.push {cls:=.type "slice",data:=.fields #[y,z,.none]}}
 exact tail_any (ops:=[.ref j.heap.objs.size,v]) S O R (by with_unfolding_all rfl)
def mC (xs:List V)(lo hi:Option Int):List V:=(xs.drop (HT.aW xs.length 0 lo)).take (HT.aW xs.length xs.length hi-HT.aW xs.length 0 lo)
def nW (xs:List V)(lo hi:Option Int):(mC xs lo hi).length<=xs.length:=by
 unfold mC;rw[Sa,List.length_drop];omega
def Jx (K:Ql):V->Option Int->Option Int->Hp->VK->Prop:=λx lo hi H Q=>∃a xs,x=.ref a/\dw K H a xs/\
 ¬ (HT.aW xs.length 0 lo=0/\HT.aW xs.length xs.length hi=xs.length)/\∀p,H p=none->Q (.ref p) (upd H p (.tup (mC xs lo hi)))
def Jb:mL X (Jx X.K):=by
 intro pins s σ H x v R S lo hi sl Q I O hs L M h;obtain⟨a,xs,rfl,J,F,q⟩:=h;cases O;obtain⟨y,r,z,B⟩:=I.tuple J;have j:y.toArray.size=xs.length:=by rw[QD];exact r.length.symm
 refine{"tuple",_,RR.lookup,z.typeIs,?_};refine HT.nO z hs L M (by rw[j];exact F) ?_ (by rw[j];exact B)
 rw[j];refine{.ref s.heap.objs.size,_,I.laid (t':=s.toks) (o:=.tup (mC xs lo hi)) (λb ob q=>Qq _ q) (Qt _) ?_,rfl,q _ (I.hok.fresh (Qt _))};exact{QF (nW xs lo hi) B,_,(r.drop (HT.aW xs.length 0 lo)).take (HT.aW xs.length xs.length hi-HT.aW xs.length 0 lo),IsTup.new _ _}
def Mz (K:Ql):R2:=λx y H Q=>∃a b xs ys,x=.ref a/\y=.ref b/\dw K H a xs/\dw K H b ys/\xs≠[]/\xs.length+ys.length<=sizeLine/\
 (ys=[]->Q (.ref a) H)/\(ys≠[]->∀p,H p=none->Q (.ref p) (upd H p (.tup (xs++ys))))
def Vals.nil_iff {xs:List V}{us:List Qo}(r:Vals xs us):us=[]↔xs=[]:=by
 cases r with
 |nil=>simp
 |cons _ _=>simp
def GZ:bF X (binaryOp .Add) (Mz X.K):=by
 intro pins s σ H x y v u Q I S U h;obtain⟨a,b,xs,ys,rfl,rfl,F,J,L,j,O,R⟩:=h;cases S;cases U;obtain⟨M,r1,p1,_⟩:=I.tuple F;obtain⟨B,r2,p2,_⟩:=I.tuple J;refine HT.HU p1 p2 (λz=>L (r1.nil_iff.mp z)) (λz=>{.ref a,H,I,rfl,O (r2.nil_iff.mp z)}) (λz=>?_) (by rw[<- r1.length,<- r2.length];exact j)
 refine{.ref s.heap.objs.size,_,I.laid (t':=s.toks) (o:=.tup (xs++ys)) (λb ob q=>Qq _ q) (Qt _) ?_,rfl,R (λw=>z (r2.nil_iff.mpr w)) _ (I.hok.fresh (Qt _))};exact{by rw[Rp];exact j,_,r1.append r2,IsTup.new _ _}
end
def bY (n:Nat)(i:Int):Option Nat:=if 0<=i then(if i<n then some i.toNat else none) else if -(n:Int)<=i then some (i+n).toNat else none
def rW {y:Type}(xs:List y)(i:Int):Option y:=(bY xs.length i).bind λj=>xs[j]?
def wh {n:Nat}{i:Int}{j:Nat}(h:bY n i=some j):seqIndex? i n=some j/\j<n/\-(n:Int)<=i/\i<n:=by
 unfold bY at h;by_cases y:0<=i
 ·rw[if_pos y] at h;by_cases h1:i<n
  ·rw[if_pos h1] at h;have e:i.toNat=j:=Qw h;exact{by rw[seqIndex_of y h1,e],`a,`a,h1}
  ·rw[if_neg h1] at h;cases h
 ·rw[if_neg y] at h;by_cases h1:-(n:Int)<=i
  ·rw[if_pos h1] at h;have e:(i+n).toNat=j:=Qw h;exact{by rw[seqIndex_neg `a h1,e],`a,h1,`a}
  ·rw[if_neg h1] at h;cases h
def qM {y:Type}{xs:List y}{i:Int}{v:y}(h:rW xs i=some v):∃j,seqIndex? i xs.length=some j/\xs[j]?=some v/\j<xs.length/\-(xs.length:Int)<=i/\i<xs.length:=by
 unfold rW at h;cases e:bY xs.length i with
 |none=>rw[e] at h;cases h
 | some j =>
   rw[e] at h;obtain⟨h1,h2,h3,h4⟩:=wh e;exact⟨j,h1,h,h2,h3,h4⟩
def iY (b:Expr):Prop:=∀o i,subscripted b false o i=operate [o,i] (getItem o i)
def jK (X:Cx)(r:R2):Prop:=
 ∀(value j:Expr) (pins:List (Addr×Obj)) (s:Qr) (σ:St) (H:Hp) (x y:V) (v u:Qo) (Q:VK),Inv X pins σ H s->RelV x v->RelV y u->r x y H Q->
  subscripted j false v u=operate [v,u] (getItem v u)->wpAny (model X.prog X.w) X.A (subscriptTail value j v u) (EP X pins σ Q) X.xe s
def Ow (X:Cx)(id:String)(r:V->List V->Hp->VK->Prop):Prop:=
 ∀(pins:List (Addr×Obj)) (s:Qr) (σ:St) (H:Hp) (x:V) (xs:List V) (v:Qo) (j:List Qo) (Q:VK),Inv X pins σ H s->RelV x v->Vals xs j->r x xs H Q->
  wpAny (model X.prog X.w) X.A (call (.builtin id) (v::j)) (EP X pins σ Q) X.xe s
section
variable{X:Cx}{a b:Expr}{ta tb:TE}{pos:Pos}
def jK.or {r r':R2}(h:jK X r)(h':jK X r'):jK X (λx y H Q=>r x y H Q\/r' x y H Q):=by
 intro value j pins s σ H x y v u Q I z B q hs;rcases q with q|q
 ·exact h value j pins s σ H x y v u Q I z B q hs
 ·exact h' value j pins s σ H x y v u Q I z B q hs
def xq {r:R2}(hr:jK X r)(z:PE X a ta)(B:PE X b tb)(hs:iY b):PE X (.Subscript a b pos) (zi r ta tb):=by
 intro pins s σ H Q I h;exact Subscript_ (Du z B I h λv u s2 x y H2 j F J q=>hr a b pins s2 σ H2 x y v u Q j F J q (hs _ _))
def JB (K:Ql):R2:=λx y H Q=>∃p xs i v,x=.ref p/\y=.int i/\cP K H p xs/\rW xs i=some v/\Q v H
def Jz (K:Ql):R2:=λx y H Q=>∃p xs i v,x=.ref p/\y=.int i/\dw K H p xs/\rW xs i=some v/\Q v H
def JA:R2:=λx y H Q=>∃z i c,x=.str z/\y=.int i/\z.length<=sizeLine/\rW z.cps.toList i=some c/\Q (.str {#[c]}) H
def Hf:jK X (JB X.K):=by
 intro value O pins s σ H x y v u Q I rx ry h hs;obtain⟨p,xs,i,z,rfl,rfl,Y,W,q⟩:=h;cases rx;obtain⟨t,rfl⟩:=ry;obtain⟨J,r,L,hz⟩:=I.list Y;obtain⟨j,h1,h2,h3,h4,U⟩:=qM W;obtain⟨w,R,M⟩:=r.get h2;have hl:=r.length;have hn:=ig;have B:EP X pins σ Q w s:=⟨z,H,I,M,q⟩;by_cases S:0<=i
 ·have F:i.toNat=j:=by
   rw[seqIndex_of S U] at h1;exact Qw h1
  exact item_listR L.isList S `a (by rw[F];simpa using R) B hs
 ·have F:(i+(J.toArray.size:Int)).toNat=j:=by
   rw[seqIndex_neg `a h4] at h1
   rw[QD,<- hl];exact Qw h1
  exact subscriptTail_builtinR (x:=w) L.isList.typeIs slot_list_getitem.lookup
   (wpAny_getItem_list_neg (Q:=λr s'=>r=w/\EP X pins σ Q r s') L.isList `a (by rw[QD]<;>omega) `a (by rw[F];simpa using R) ⟨rfl,B⟩) hs
def KH:jK X (Jz X.K):=by
 intro value J pins s σ H x y v u Q I U W h hs;obtain⟨p,xs,i,z,rfl,rfl,R,O,q⟩:=h;cases U;obtain⟨t,rfl⟩:=W;obtain⟨S,r,L,hz⟩:=I.tuple R;obtain⟨j,h1,h2,h3,h4,Y⟩:=qM O;obtain⟨w,M,F⟩:=r.get h2;have hl:=r.length;have hn:=ig;have B:EP X pins σ Q w s:=⟨z,H,I,F,q⟩;exact subscriptTail_builtinR (x:=w) L.typeIs slot_tuple_getitem.lookup
  (getItem_tuple (j:=j) (Q:=λr s'=>r=w/\EP X pins σ Q r s') L `a `a (by rw[QD,<- hl];exact h1) (by simpa using M) ⟨rfl,B⟩) hs
def KI:jK X JA:=by
 intro value B pins s σ H x y v u Q I L M h hs;obtain⟨z,i,c,rfl,rfl,O,J,q⟩:=h;obtain⟨t,rfl⟩:=L;obtain⟨R,rfl⟩:=M;obtain⟨j,h1,h2,h3,h4,F⟩:=qM J;have hl:z.cps.toList.length=z.length:=by simp[Str.length]
 rw[hl] at h1 h4 F;have hn:=ig;exact tail_any (typeIs_str s z t) slot_str_getitem.lookup (getItem_str (c:=c) (by
  have e1:decide (i < -(2^63:Int))=false:=decide_eq_false `a
  have e2:decide (i≥2^63)=false:=decide_eq_false `a
  rw[e1,e2,Bool.or_false]) (by rw[h1];simpa using h2) {.str {#[c]},H,I.tok _,{_,rfl},q}) hs
def JC (K:Ql):R2:=λx y H Q=>JB K x y H Q\/Jz K x y H Q\/JA x y H Q
def KJ:jK X (JC X.K):=Hf.or (KH.or KI)
def xE (its:List Qo)(n j:Nat)(u:Qo):Obj.mapSeq (·.setIfInBounds j u) {cls:=.type "list",data:=.seq its.toArray n}={cls:=.type "list",data:=.seq (its.set j u).toArray n}:=by
 simp[Obj.mapSeq]
def Inv.lst {pins:List (Addr×Obj)}{σ:St}{H:Hp}{s:Qr}{p:Addr}{xs:List V}(I:Inv X pins σ H s)(h:H p=some (.lst xs)) :
 ∃(j:List Qo) (n:Nat),Vals xs j/\s.heap.get? p=some {cls:=.type "list",data:=.seq j.toArray n}/\xs.length<=sizeLine:=by
 obtain⟨z,j,n,r,e⟩:=I.hok p _ h;exact⟨j,n,r,e,z⟩
def Inv.lstUpd {pins:List (Addr×Obj)}{σ:St}{H:Hp}{s:Qr}{p:Addr}{xs ys:List V}{j its':List Qo}{n n':Nat}{f:Obj->Obj}(I:Inv X pins σ H s)(h:H p=some (.lst xs))
 (ho:s.heap.get? p=some {cls:=.type "list",data:=.seq j.toArray n}) (y:f {cls:=.type "list",data:=.seq j.toArray n}={cls:=.type "list",data:=.seq its'.toArray n'}) (r:Vals ys its') (hz:ys.length<=sizeLine) (t:Nat) :
 Inv X pins σ (upd H p (.lst ys)) {s with heap:=s.heap.update p f,toks:=t}:=by
 have e:(s.heap.update p f).get? p=some {cls:=.type "list",data:=.seq its'.toArray n'}:=by
  rw[Ro f ho (by rw[y]<;>rfl),y]
 refine I.write (x:=p) (e:=p) (by rw[h];trivial) (.inl rfl) (λb u z q=>(QU _ _ (Ru z)).trans q) {_,e} ?_
 exact⟨hz,its',n',r,e⟩
def Ep:V->V->V->Hp->(Hp->Prop)->Prop:=λo i v H Q=>∃p xs k j,o=.ref p/\i=.int k/\H p=some (.lst xs)/\bY xs.length k=some j/\Q (upd H p (.lst (xs.set j v)))
def set_list:DG X Ep:=by
 intro pins s σ H o i v U S u Q I ro O R h;obtain⟨p,xs,k,j,rfl,rfl,J,L,q⟩:=h;cases ro;obtain⟨t,rfl⟩:=O;obtain⟨y,n,r,ho,M⟩:=I.lst J;obtain⟨h1,h2,h3,h4⟩:=wh L;have hl:=r.length;have hn:=ig;have B:Inv X pins σ (upd H p (.lst (xs.set j v))) {s with heap:=s.heap.update p (Obj.mapSeq (·.setIfInBounds j u))}:=
  I.lstUpd J ho (xE y n j u) (r.set R j) (by rw[List.length_set];exact M) s.toks
 by_cases F:0<=k
 ·have z:k.toNat=j:=by
   rw[seqIndex_of F h4] at h1;exact Qw h1
  exact PySem.W.ki_setAt ho F `a (by rw[QD,<- hl];exact h4) (by rw[z];exact{_,B,q})
 ·have z:(k+(y.toArray.size:Int)).toNat=j:=by
   rw[seqIndex_neg `a h3] at h1
   rw[QD,<- hl];exact Qw h1
  exact PySem.W.ki_setBack ho `a (by rw[QD,<- hl];exact h3) `a (by rw[z];exact{_,B,q})
def sY (lo hi:Option Int)(n:Nat):(sliceBounds lo hi none n).1=((HT.aW n 0 lo:Nat):Int)/\(sliceBounds lo hi none n).2.1=((HT.aW n n hi:Nat):Int)/\(sliceBounds lo hi none n).2.2=1:=by
 refine{?_,?_,rfl}
 ·cases lo with
  |none=>simp[sliceBounds,HT.aW]
  | some i =>
    simp only[sliceBounds,HT.aW,Option.getD_none,show(1:Int) > 0 by decide,if_true]
    by_cases h:i<0
    ·simp only[h,if_true]<;>omega
    ·simp only[h,if_false]<;>omega
 ·cases hi with
  |none=>simp[sliceBounds,HT.aW]
  | some i =>
    simp only[sliceBounds,HT.aW,Option.getD_none,show(1:Int) > 0 by decide,if_true]
    by_cases h:i<0
    ·simp only[h,if_true]<;>omega
    ·simp only[h,if_false]<;>omega
def r9 (j:List Qo)(lo hi:Option Int):slicePick j.toArray lo hi none=((j.drop (HT.aW j.length 0 lo)).take (HT.aW j.length j.length hi-HT.aW j.length 0 lo)).toArray:=by
 obtain⟨h1,h2,h3⟩:=sY lo hi j.toArray.size;unfold slicePick;rw[h1,h2,h3];simp only[sliceRange_one,pick_run,QD]<;>rfl
def Jy (K:Ql):V->Option Int->Option Int->Hp->VK->Prop:=λx lo hi H Q=>∃a xs,x=.ref a/\cP K H a xs/\∀p,H p=none->Q (.ref p) (upd H p (.lst (mC xs lo hi)))
def Gm:mL X (Jy X.K):=by
 intro pins s σ H x v O R lo hi sl Q I M hs J L h;obtain⟨a,xs,rfl,z,q⟩:=h;cases M;obtain⟨F,r,y,B⟩:=I.list z;have j:=r.length;refine{"list",_,slot_list_getitem.lookup,y.isList.typeIs,?_};refine wpAny_getItem_list_slice y.isList hs J L .none `s ?_ (by rw[QD]<;>omega)
 rw[r9,<- j];refine{.ref s.heap.objs.size,_,I.laid (t':=s.toks) (o:=.lst (mC xs lo hi)) (λb ob q=>Qq _ q) (Qt _) ?_,rfl,q _ (I.hok.fresh (Qt _))};exact{QF (nW xs lo hi) B,_,0,(r.drop (HT.aW xs.length 0 lo)).take (HT.aW xs.length xs.length hi-HT.aW xs.length 0 lo),QK _ rfl}
def uR:b8 X (.builtin "len") (λxs H Q=>∃p ys,xs=[.ref p]/\(cP X.K H p ys\/dw X.K H p ys)/\Q (.int ys.length) H):=by
 intro pins s σ H xs M Q I r h;obtain⟨p,ys,rfl,y,q⟩:=h;obtain⟨u,rfl,L⟩:=vals1 r;cases L;have hn:=ig;rcases y with y|y
 ·obtain⟨z,F,B,J⟩:=I.list y;have j:=F.length;exact Calls.call_len_list B.isList (by simp only[QD]<;>omega) {.int ys.length,H,I.tok _,{s.toks+1,by rw[QD,j]},q}
 ·obtain⟨z,F,B,J⟩:=I.tuple y;have j:=F.length;exact len_tuple B (by simp only[QD]<;>omega) {.int ys.length,H,I.tok _,{s.toks+1,by rw[QD,j]},q}
def uQ:b8 X (.builtin "len") (λxs H Q=>∃z,xs=[.str z]/\z.length<=sizeLine/\Q (.int z.length) H):=by
 intro pins s σ H xs y Q I r h;obtain⟨z,rfl,j,q⟩:=h;obtain⟨u,rfl,t,rfl⟩:=vals1 r;have hn:=ig;exact len_str `a {.int z.length,H,I.tok _,{_,rfl},q}
def b8.or {f:Qo}{r r':List V->Hp->VK->Prop}(h:b8 X f r)(h':b8 X f r'):b8 X f (λxs H Q=>r xs H Q\/r' xs H Q):=by
 intro pins s σ H xs j Q I rs q;rcases q with q|q
 ·exact h pins s σ H xs j Q I rs q
 ·exact h' pins s σ H xs j Q I rs q
def uP:b8 X (.type "list") (λxs H Q=>∃p ys,xs=[.ref p]/\(cP X.K H p ys\/dw X.K H p ys)/\∀l,H l=none->Q (.ref l) (upd H l (.lst ys))):=by
 intro pins s σ H xs S Q I r h;obtain⟨p,ys,rfl,J,q⟩:=h;obtain⟨u,rfl,R⟩:=vals1 r;cases R;have B:∀(j:List Qo),Vals ys j->ys.length<=sizeLine->∀(h':Heap) (y:Nat),(∀b o',s.heap.get? b=some o'->h'.get? b=some o')->
  h'.get? s.heap.objs.size=some {cls:=.type "list",dict:=none,data:=.seq j.toArray y,slots:=#[]}->EP X pins σ Q (.ref s.heap.objs.size) {s with heap:=h'}:=λj z L h' y kp e=>
  {.ref s.heap.objs.size,_,I.laid (t':=s.toks) kp (Qt _) (show cf X.prog X.w _ h' _ (.lst ys) from⟨L,j,y,z,e⟩),rfl,q _ (I.hok.fresh (Qt _))}
 rcases J with J|J
 ·obtain⟨j,z,O,L⟩:=I.list J;have F:=z.length;obtain⟨o,ho,M,n,hd⟩:=O.isList;exact call_list_seq p (.inl rfl) ho M hd (λh' y kp e=>B j z L h' y kp e) (by simp only[QD]<;>omega)
 ·obtain⟨j,z,O,L⟩:=I.tuple J;have F:=z.length;obtain⟨o,ho,M,n,hd⟩:=O;exact call_list_seq p (.inr rfl) ho M hd (λh' y kp e=>B j z L h' y kp e) (by simp only[QD]<;>omega)
def se:b8 X (.type "tuple") (λxs H Q=>∃p ys,xs=[.ref p]/\((cP X.K H p ys/\∀l,H l=none->Q (.ref l) (upd H l (.tup ys)))\/(dw X.K H p ys/\Q (.ref p) H))):=by
 intro pins s σ H xs R Q I r h;obtain⟨p,ys,rfl,h⟩:=h;obtain⟨u,rfl,O⟩:=vals1 r;cases O;rcases h with⟨y,q⟩|⟨y,q⟩
 ·obtain⟨j,B,z,L⟩:=I.list y;have J:=B.length;refine call_tuple_list z.isList (λh' kp=>?_) (by simp only[QD]<;>omega)
  have F:Inv X pins σ H {s with heap:=h'}:=I.kept (t':=s.toks) kp
  have M:Inv X pins σ (upd H h'.objs.size (.tup ys)) {s with heap:=h'.push {cls:=.type "tuple",data:=.seq j.toArray}}:=
   F.laid (t':=s.toks) (λb o e=>Qq _ e) (Qt _) (show cf X.prog X.w _ _ _ (.tup ys) from{L,j,B,IsTup.new _ _})
  exact{.ref h'.objs.size,_,M,rfl,q _ (F.hok.fresh (Qt _))}
 ·obtain⟨j,B,z,L⟩:=I.tuple y;exact call_tuple_same z {.ref p,H,I,rfl,q}
def N1 (K:Ql)(T:String)(x:V)(H:Hp):Prop:=match x with
 |.str _=>T="str"
 |.int _=>T="int"
 |.ref p=>(T="list"/\∃xs,cP K H p xs)\/(T="tuple"/\∃o,K.lookup p=some o/\o.cls=.type "tuple"/\o.dict=none)\/
  (T="dict"/\((∃kvs,H p=some (.dK kvs))\/(∃kvs,H p=some (.dT kvs))\/∃es,H p=some (.dn es)))\/(T="set"/\∃S n,H p=some (.set S n))
 |_=>False
def IS {pins:List (Addr×Obj)}{σ:St}{H:Hp}{s:Qr}{T:String}{x:V}{v:Qo}(I:Inv X pins σ H s)(r:RelV x v)(ty:N1 X.K T x H) :
 s.TypeIs v T/\∀a,v=.ref a->∃ob,s.heap.get? a=some ob/\ob.dict=none:=by
 cases x with
 | str z =>
   obtain⟨t,rfl⟩:=r;cases (show T="str" from ty);exact{typeIs_str s z t,λ_ e=>nomatch e}
 | int i =>
   obtain⟨t,rfl⟩:=r;cases (show T="int" from ty);exact{typeIs_int s i t,λ_ e=>nomatch e}
 | ref p =>
   cases r;rcases ty with⟨rfl,xs,J⟩|⟨rfl,o,j,F,hd⟩|⟨rfl,j⟩|⟨rfl,S,n,j⟩
   ·obtain⟨L,_,B,_⟩:=I.list J;refine{B.isList.typeIs,λa e=>?_};cases e;obtain⟨o,n,e,c,hd,_⟩:=B;exact⟨o,e,hd⟩
   ·refine{{o,I.kIn p o j,F},λa e=>?_};cases e;exact{o,I.kIn _ o j,hd}
   ·have z:∃o,s.heap.get? p=some o/\o.ExactDict:=by
     rcases j with⟨y,j⟩|⟨y,j⟩|⟨es,j⟩
     rotate_left 2
     ·obtain⟨_,_,o,e,ex,_⟩:=I.hok p _ j;exact⟨o,e,ex⟩
     ·obtain⟨_,_,_,_,o,_,_,e,ex,_⟩:=I.hok p _ j;exact⟨o,e,ex⟩
     ·obtain⟨_,_,_,_,o,_,_,e,ex,_⟩:=I.hok p _ j;exact⟨o,e,ex⟩
    obtain⟨o,e,ex⟩:=z;refine{⟨o,e,ex.1⟩,λa e2=>?_};cases e2;exact⟨o,e,ex.2.1⟩
   ·obtain⟨o,_,_,_,e,ex,_⟩:=I.hok p _ j;refine{⟨o,e,ex.1⟩,λa e2=>?_};cases e2;exact⟨o,e,ex.2.1⟩
 |_=>exact False.elim ty
def tBM (K:Ql)(T:String)(r:V->List V->Hp->VK->Prop)(to:TE)(t:TA):TE:=λσ H Q=>to σ H λx H1=>N1 K T x H1/\t σ H1 λxs H2=>r x xs H2 Q
variable{o e:Expr}{es:List Expr}{to:TE}{t:TA}{name:Str}{apos cpos:Pos}{T id:String}{r:V->List V->Hp->VK->Prop}
def si (R:PlainAttrs T)(slot:Slot T name id)(F:typeOf (.builtin id)=pure (.type "method_descriptor"))(hm:Ow X id r)(ho:PE X o to)(O:PA X (e::es) t)
 (y:attributeBase o name X.env (eval o X.env)=eval o X.env:=by rfl)
 (B:((backTo cpos (starEach (e::es) X.env)).all (λx=>!x.1)&&(backToKw cpos (keywordEach [] X.env)).all (λx=>x.1.isSome)
  && decide ((e::es).length+([]:List Keyword).length+(if ([]:List Keyword).isEmpty then 0 else 1)<30))=true:=by rfl)
 (z:(apos.endLine==cpos.line)=true:=by rfl) (hs:starEach (e::es) X.env=(false,eval e X.env)::starEach es X.env:=by rfl) (j:(backTo cpos (starEach es X.env)).any (·.1)=false:=by rfl) :
 PE X (.Call (.Attribute o name apos) (e::es) [] cpos) (tBM X.K T r to t):=by
 intro pins s σ H Q I h;refine wpAny_Call_method_late y B z rfl (aQ (ho pins s σ H _ I h) λv s1 ⟨x,H1,J,r1,ty,S⟩=>?_);obtain⟨h1,h2⟩:=IS J r1 ty;refine{T,id,R,slot,F,h1,h2,?_};have L:=O cpos pins s1 σ H1 _ J S;rw[hs] at L ⊢;refine Calls.callWith_builtin (by show(false||(backTo cpos (starEach es X.env)).any (·.1))=false;rw[j]<;>rfl) (Calls.evalArgs_plain ?_)
 exact aQ L λW s2 ⟨Y,H2,M,r2,U⟩=>hm pins s2 σ H2 x Y v W Q M r1 r2 U
end
def Ox (X:Cx)(id:String)(r:V->List V->Hp->VK->Prop):Prop:=
 ∀(pins:List (Addr×Obj)) (s:Qr) (σ:St) (H:Hp) (x:V) (xs:List V) (v:Qo) (j:List Qo) (Q:VK),Inv X pins σ H s->RelV x v->Vals xs j->r x xs H Q->
  wpAny (model X.prog X.w) X.A (call (.builtin id) (v::j)) (EP X pins σ Q) X.xe s
def Vals.one:∀{x:V}{us:List Qo},Vals [x] us->∃u,us=[u]/\RelV x u
 |_,_,.cons r .nil=>{_,rfl,r}
def Vals.rep {xs:List V}{us:List Qo}(h:Vals xs us):∀k:Nat,Vals (List.replicate k xs).flatten (List.replicate k us).flatten
 |0=>.nil
 | k + 1 => by
   rw[Sh,Sh,SD,SD];exact Vals.append h (Vals.rep h k)
def foldl_rep (j:List Qo):∀(k:Nat) (acc:List Qo),
 List.foldl (λx1 x2=>x1++x2) acc.toArray (List.replicate k j.toArray)=(acc++(List.replicate k j).flatten).toArray
 |0,acc=>`s
 | k + 1, acc => by
   have e:acc.toArray++j.toArray=(acc++j).toArray:=`s
   have e2:(acc++j)++(List.replicate k j).flatten=acc++(List.replicate (k+1) j).flatten:=by
    rw[Sh,SD,R5]
   rw[<- e2,<- foldl_rep j k (acc++j),<- e,Sh,List.foldl_cons]
section
variable{X:Cx}{pins:List (Addr×Obj)}{σ:St}{H:Hp}{s:Qr}{l b:Addr}{xs ys zs:List V}
def Inv.lset {j its':List Qo}{n:Nat}{f:Array Qo->Array Qo}{t':Nat}(I:Inv X pins σ H s)(y:H l=some (.lst xs))
 (e:s.heap.get? l=some {cls:=.type "list",data:=.seq j.toArray n}) (B:f j.toArray=its'.toArray) (J:Vals ys its') (hz:ys.length<=sizeLine) :
 Inv X pins σ (upd H l (.lst ys)) {s with heap:=s.heap.update l (Obj.mapSeq f),toks:=t'}:=by
 have q:=PySem.IsL.update e f;rw[B] at q;refine I.write (x:=l) (e:=l) (by rw[y];exact trivial) (.inl rfl) (λL u z F=>(QU s.heap (Obj.mapSeq f) (Ru z)).trans F) {_,q} ?_
 exact{hz,its',_,J,q}
def Inv.lnew {j:List Qo}{t':Nat}(I:Inv X pins σ H s)(y:Vals ys j)(hz:ys.length<=sizeLine) :
 Inv X pins σ (upd H s.heap.objs.size (.lst ys)) {s with heap:=s.heap.push {cls:=.type "list",data:=.seq j.toArray},toks:=t'}:=
 I.laid (λ_ _ q=>Qq _ q) (Qt _) {hz,j,0,y,QK _ rfl}
def Inv.fresh (I:Inv X pins σ H s):H s.heap.objs.size=none:=I.hok.fresh (Qt _)
def Inv.lstM (I:Inv X pins σ H s)(y:H l=some (.lst xs)):xs.length<=sizeLine/\∃(j:List Qo) (n:Nat),Vals xs j/\xs.length=j.length/\s.heap.get? l=some {cls:=.type "list",data:=.seq j.toArray n}:=by
 obtain⟨z,j,n,r,e⟩:=I.hok l _ y;exact⟨z,j,n,r,r.length,e⟩
def CB {n:Nat}(h:n<=sizeLine):Builtin.List.listTooLong n=false:=by
 unfold Builtin.List.listTooLong;exact decide_eq_false `a
end
section
variable{X:Cx}
def GF:V->List V->Hp->VK->Prop:=λx j H Q=>∃l xs y,x=.ref l/\j=[y]/\H l=some (.lst xs)/\xs.length<sizeLine/\Q .non (upd H l (.lst (xs++[y])))
def l7:Ox X "list.append" GF:=by
 intro pins s σ H x S v R Q I M L h;obtain⟨l,xs,y,rfl,rfl,B,O,q⟩:=h;cases M;obtain⟨u,rfl,J⟩:=L.one;obtain⟨z,j,n,r,hl,e⟩:=I.lstM B;refine call_meets F.slot_list_append {_,e,rfl} F.entry_list_append (F.args_list_append_2 _ _) (PySem.list_append l j.toArray n u (by rw[QD];omega)) {e,?_}
 refine{.non,_,I.lset (its':=j++[u]) B e `s (r.append (.cons J .nil)) ?_,rfl,q}
 rw[Rp,List.length_singleton];omega
def OX:R2:=λx y H Q=>∃l b xs zs,x=.ref l/\y=.ref b/\H l=some (.lst xs)/\H b=some (.lst zs)/\xs.length+zs.length<=sizeLine/\∀p,H p=none->Q (.ref p) (upd H p (.lst (xs++zs)))
def J2:bF X (binaryOp .Add) OX:=by
 intro pins s σ H x y v u Q I O R h;obtain⟨l,b,xs,zs,rfl,rfl,L,J,S,q⟩:=h;cases O;cases R;obtain⟨z,B,n,r,hl,e⟩:=I.lstM L;obtain⟨U,j,n2,r2,M,e2⟩:=I.lstM J;refine PySem.P.add_list e e2 ?_ (by rw[QD,QD];omega)
 have F:B.toArray++j.toArray=(B++j).toArray:=`s
 rw[F];exact{.ref _,_,I.lnew (t':=s.toks) (r.append r2) (by rw[Rp];omega),rfl,q _ I.fresh}
def OU:R2:=λx y H Q=>∃l k xs,x=.ref l/\y=.int k/\H l=some (.lst xs)/\-(2^63)<=k/\k<2^63/\xs.length*k.toNat<=sizeLine/\
 ∀p,H p=none->Q (.ref p) (upd H p (.lst (List.replicate k.toNat xs).flatten))
def len_rep {y:Type}(xs:List y)(k:Nat):(List.replicate k xs).flatten.length=k*xs.length:=by
 induction k with
 |zero=>simp
 |succ k j=>rw[Sh,SD,Rp,j,Nat.succ_mul,Nat.add_comm]
def JW:bF X (binaryOp .Mult) OU:=by
 intro pins s σ H x y v u Q I rx ry h;obtain⟨l,k,xs,rfl,rfl,hH,h1,h2,W,q⟩:=h;cases rx;obtain⟨t,rfl⟩:=ry;obtain⟨z,j,n,r,hl,e⟩:=I.lstM hH;have M:j.toArray.size*k.toNat<=sizeLine:=by rw[QD,<- hl];exact W
 have J:¬ j.toArray.size*k.toNat > (2^63-1) / 8:=by
  have:(sizeLine:Nat)<=(2^63-1) / 8:=`d
  omega
 have L:¬ (!Builtin.List.listFitsIndex k)=true:=by
  rw[fitsIndex_both h1 h2];exact QP
 have B:¬ Builtin.List.listTooLong (j.toArray.size*k.toNat)=true:=by
  rw[CB M];exact QP
 have O:List.foldl (λR S=>R++S) #[] (List.replicate (if j.toArray.isEmpty=true then 0 else k.toNat) j.toArray)=(List.replicate k.toNat j).flatten.toArray:=by
  have Y:∀m:Nat,List.foldl (λR S=>R++S) #[] (List.replicate m j.toArray)=(List.replicate m j).flatten.toArray:=λm=>by
   have:=foldl_rep j m [];rw[SQ] at this;exact this
  rw[Y];cases j with
  |nil=>simp
  |cons a r'=>rw[if_neg `s]
 refine wpAny_binaryOp_repeat_ref (T:="list") (U:="int") `d {_,e,rfl} (λs'=>typeIs_int s' k t) noFill_list_mul F.fills_int_mul F.slot_int_rmul repeat_list F.slot_int_index.lookup
  (call_meets F.slot_int_rmul (typeIs_int s k t) F.entry_int_rmul (F.args_int_rmul_2 _ _) (int___rmul___int_list k t l j.toArray n)
   {e,rfl,{_,e,rfl},call_meets F.slot_list_mul {_,e,rfl} F.entry_list_mul (F.args_list_mul_2 _ _) (AutoListH.list___mul___list_int_3 l j.toArray n k t L J B) {e,?_}})
 rw[O];exact{.ref _,_,I.lnew (t':=s.toks) (r.rep k.toNat) (by rw[len_rep,Nat.mul_comm];exact W),rfl,q _ I.fresh}
end
end L2
namespace Att
open PySem PySem.W PySem.Calls PyProof.Rows
def pJ {P:Sd}{h:Heap}:∀(ns:List Int) (vs:List Qo),WellAll P h vs (ns.map WData.int)->SA vs ns:=by
 intro ns;induction ns with
 | nil =>
   intro vs w;rw[List.map_nil] at w;cases w;exact .nil
 | cons n ns j =>
   intro vs w;rw[RI] at w;cases w with
   | cons a b =>
     cases a;exact .cons _ _ (j _ b)
def zD {l:OpenLaw}{n:Nat}(hn:l.most=some n){P:Sd}{h:Heap}{args:List WData}{y:List Qo}
 (j:l.row.toRowW.claim.pre args=true) (J:WellAll P h y args) :
 ∃a vs ns,y=[Value.ref a]/\args=[WData.list (ns.map WData.int)]/\h.get? a=some {cls:=.type "list",data:=.seq vs.toArray}/\SA vs ns/\ns.length<=n:=by
 have I:WShape.hasAll [] args [.list .int]=true:=(pre_splitW j).1;have L:l.pre.holds [] {args:=args}=true:=(pre_splitW j).2;obtain⟨d,r,rfl,h1,h2⟩:=hasAllW_cons I;obtain rfl:=hasAllW_nil h2;obtain⟨xs,rfl,h3⟩:=hasW_list h1;obtain⟨ns,rfl⟩:=items_int h3;have B:ns.length<=n:=by
  unfold OpenLaw.pre at L;have h4:(WTm.not (.lt (.lit (.int (n:Int))) (.len (.arg 0)))).holds [] {args:=[.list (ns.map .int)]}=true:=by
   have h4:=(holds_andW L).1;rw[hn] at h4;exact h4
  have F:=condW_of h4 (w_not (w_lt w_lit (w_len_list (w_arg rfl))));rw[Qn] at F;refine Nat.le_of_not_lt λq=>?_;have M:(n:Int)<((ns.length:Nat):Int):=`a
  first
   |(rw[decide_eq_true M] at F;exact absurd F `d)
   |(simp at F;omega)
 cases J with
 | cons O w2 =>
   cases w2;cases O with
   |list ho z=>exact{_,_,ns,rfl,rfl,ho,pJ ns _ z,B}
def zS (l:OpenLaw)(args:List WData):l.row.toRowW.claim.post args (.bool true) args=true:=
 postW_of (r:=l.row.toRowW) (X:=(true==true))
  (show WShape.has [] (.bool true) .bool=true by first|rfl|decide|simp[WShape.has,WShape.arms,WShape.armsAll])
  (show(WTm.eq .res (.lit (.bool true))).value [] {args:=args,res:=some (.bool true),after:=args}=some (.bool (true==true)) from w_eq_bool (w_res rfl) w_lit) rfl
def attach_call {l:OpenLaw}{n:Nat}{q:Q0}{loose:List Str}{U:(Str->Option Qo)->Heap->Prop}{W:Q2->Heap->Prop}{d:DefRec}
 (hn:l.most=some n) (M:d.params.defaults=[])
 (call:∀(w:Q2) (s₀ j:Qr) (mg S:Str->Option Qo) (fa:Addr) (o:Obj) (pm J y:Qo) (a:Addr) (vs:List Qo) (ns:List Int),
  Ground q loose [] U w s₀ mg S j.heap->W w j.heap->
  j.heap.get? fa=some o->o.data=.func (docDef d.name d.params d.body d.scope pm J y)->j.heap.CodeRec J d.name->mg d.name=some (.ref fa)->
  j.heap.get? a=some {cls:=.type "list",data:=.seq vs.toArray}->SA vs ns->ns.length<=n->j.gens=#[]->
  codeAny (model l.prog w) callerA (.call (.ref fa) {[.ref a],[]}) (λr s'=>r=.ok (.ret (.bool true))/\OldK j.heap s'.heap/\s'.os=j.os/\AllBare s'.gens) j) :
 WalkO q loose U W l.row.toRowW d [] (λf vs=>PySem.call f vs):=by
 intro w s₀ j mg S G Y fa o pm J y dV kV ho hd L hD O hg args vals as I hlay hrd R hlo;obtain rfl:dV=.none:=Dflts.none hD M;obtain rfl:kV=.none:=Dflts.noKw hD;obtain⟨a,vs,ns,rfl,rfl,F,z,B⟩:=zD hn I R;refine enter_call (codeAny_mono (call w s₀ j mg S fa o pm J y a vs ns G Y ho (fd_plain hd) L O F z B hg) λr s' hq=>?_);obtain⟨rfl,h2,h3,h4⟩:=hq;exact{.inl {.bool true,.bool true,[],rfl,λ_=>rfl,.bool true,zS l _,λ_=>{List.Pairwise.nil,λ_ hm=>(nomatch hm)}},h2,h3,h4}
end Att
namespace L2
open PySem PySem.Spec PyProof.Rows
def qU:∀{vs:List Qo}{ns:List Int},SA vs ns->Vals (ns.map V.int) vs
 |_,_,.nil=>.nil
 |_,_,.cons n t h=>.cons ⟨t,rfl⟩ (qU h)
def yu (H:Hp):Prop:=∀b,H b=none\/∃o xs,H b=some (.frz o (.lst xs))
def CS {P:Q0}{w:Q2}{K:Ql}{mg mb:Str->Option Qo}{CX:n4}{k:Nat}{fa a:Addr}{fd:FuncData}{x:Str}{sp:Sp}{j:Qr}{vs:List Qo}{ns:List Int}
 (KX:K.In j.heap) (R:j.heap.Ns mainGlobals mg) (y:j.heap.Ns builtinsNs mb) (hbb:∀x:Str,x≠"__name__"->mb x=bootBuiltins x) (O:j.heap.NoLimit) (hg:j.gens=#[])
 (ha:j.heap.get? a=some {cls:=.type "list",data:=.seq vs.toArray}) (hi:SA vs ns) (hl:ns.length<=sizeLine) (hr:bW k callerA)
 (F:∀base:Heap,K.In base->base.Ns mainGlobals mg->jV P w K mg base CX k fa fd [x] sp) (J:∀(s:Qr) (u:Qo),BindsTo s fd {[u],[]} [(x,u)])
 (hsp:∀H:Hp,yu H->cP K H a (ns.map V.int)->sp [.ref a] H (λv _=>v=.bl true) λ_ _ _=>False)
 (hCX:∀H e s',CX [] H j (λ_ _ _=>False) e s'->False) :
 codeAny (model P w) callerA (.call (.ref fa) {[.ref a],[]}) (λr s'=>r=.ok (.ret (.bool true))/\OldK j.heap s'.heap/\s'.os=j.os/\AllBare s'.gens) j:=by
 have rv:=qU hi;have U:=hi.length;have I:∀H:Hp,yu H->cP K H a (ns.map V.int)->d4 P w H j.heap->(∀b,H b≠none->b=a)->(H a≠none->K.lookup a=none)->
  codeAny (model P w) callerA (.call (.ref fa) {[.ref a],[]}) (λr s'=>r=.ok (.ret (.bool true))/\OldK j.heap s'.heap/\s'.os=j.os/\AllBare s'.gens) j:=by
  intro H hO hS hok hA hK;have g8:∀{b:Addr}{o:Obj},j.heap.get? b=some o->H b=none->(lj j.heap H).get? b=some o:=λe n=>C9 e n;have noA:∀{b:Addr}{o:Obj}{es:Array RK}{L:Nat},j.heap.get? b=some o->o.data=.dict es L->H b=none:=λ{b o es L} e d=>by
   cases q:H b with
   |none=>rfl
   | some u =>
     have e':b=a:=hA b (by rw[q];simp)
     subst e';rw[ha] at e;cases e;have d':Data.seq vs.toArray _=Data.dict es L:=d;cases d'
  have B:∀{b:Addr}{m:Str->Option Qo},j.heap.Ns b m->(lj j.heap H).Ns b m:=λ{b m} ⟨o,es,L,e,d,r⟩=>{o,es,L,g8 e (noA e d),d,r};have M:K.In (lj j.heap H):=λb o e=>g8 (KX b o e) (by
   cases q:H b with
   |none=>rfl
   | some u =>
     have e':b=a:=hA b (by rw[q];simp)
     subst e';rw[hK (by rw[q];simp)] at e;cases e)
  have hM:Mod K mg (lj j.heap H):={M,B R,{mb,B y,hbb},let⟨mc,h1,h2⟩:=O;{mc,B h1,h2}}
  have e0:oV P w K mg (lj j.heap H) callerA [] j H:={rfl,hM,λb o e=>G0 e,Nat.le_of_eq (AM _ _),trivial,λb y=>absurd (show b∈([]:List Addr) from y) `s,hok,.of_eq hg}
  refine codeAny_mono ((F _ M (B R)).run callerA [] j H {[.ref a],[]} [.ref a] [.ref a] _ _ hr e0 (J j (.ref a)) (.cons rfl .nil) (hsp H hO hS)) λr s' h=>?_;cases r with
  |error e=>exact(hCX H e s' h).elim
  | ok fl =>
    cases fl with
    |next=>exact False.elim h
    |brk=>exact False.elim h
    |cont=>exact False.elim h
    | ret u =>
      obtain⟨v,H',os,bare,un,S,r',q⟩:=h;have q':v=.bl true:=q;subst q';obtain rfl:u=Value.bool true:=r';refine{rfl,OldK.of_keep λb o e=>?_,os,bare};cases q:H b with
      |none=>exact un.keep b o e q (by intro z;exact absurd (show b∈([]:List Addr) from z) `s) `s
      | some u =>
        rcases hO b with z|⟨ob,xs,z⟩
        ·rw[q] at z;cases z
        ·have z2:=un.frzs b ob _ z;obtain⟨e1,_⟩:=hok b _ z;obtain⟨e2,_⟩:=S b _ z2;rw[e] at e1;cases e1;exact e2
 cases hk:K.lookup a with
 | some o =>
   have e:=KX a o hk;rw[ha] at e;cases e;refine I (λ_=>none) (λ_=>.inl rfl) (.inr {_,vs.toArray,_,hk,rfl,rfl,rfl,by rw[QD,U];exact hl,by simpa using rv}) (λb u z=>by have Y:(none:Option HO)=some u:=z;cases Y) (λb z=>absurd rfl z) λz=>absurd rfl z
 | none =>
   refine I (λb=>if b=a then some (.frz {cls:=.type "list",data:=.seq vs.toArray} (.lst (ns.map V.int))) else none) (λb=>?_) (.inl (.inr {{cls:=.type "list",data:=.seq vs.toArray},if_pos rfl})) (λb u z=>?_) (λb z=>?_) λ_=>hk
   ·by_cases y:b=a
    ·exact .inr {_,_,if_pos y}
    ·exact .inl (if_neg y)
   ·by_cases y:b=a
    ·have Y:=(if_pos y).symm.trans z;cases Y;subst y;exact{ha,by rw[Qn];exact hl,vs,_,rv,ha}
    ·have Y:=(if_neg y).symm.trans z;cases Y
   ·by_cases y:b=a
    ·exact y
    ·exact absurd (if_neg y) z
def FA {l:PySem.W.OpenLaw}{n k:Nat}{q:Q0}{loose:List Str}{U:(Str->Option Qo)->Heap->Prop}{S:Q2->Heap->Prop}{d:DefRec}{K:Sd->Ql}{CX:Q2->n4}{sp:Q2->Sp}{x:Str}
 (hn:l.most=some n) (M:n<=sizeLine) (J:d.params.defaults=[]) (hr:bW k callerA)
 (hY:∀(w:Q2) (h:Heap),S w h->(K w.params).In h)
 (F:∀(w:Q2) (mg:Str->Option Qo) (fa:Addr) (h:Heap),(K w.params).In h->h.Ns mainGlobals mg->mg d.name=some (.ref fa)->
  ∃fd:FuncData,(∀(s:Qr) (u:Qo),BindsTo s fd {[u],[]} [(x,u)])/\
   ∀base:Heap,(K w.params).In base->base.Ns mainGlobals mg->jV l.prog w (K w.params) mg base (CX w) k fa fd [x] (sp w))
 (O:∀(w:Q2) (H:Hp) (a:Addr) (ns:List Int),ns.length<=n->yu H->cP (K w.params) H a (ns.map V.int)->sp w [.ref a] H (λv _=>v=.bl true) λ_ _ _=>False)
 (I:∀(w:Q2) (H:Hp) (s:Qr) (e:Qo) (s':Qr),CX w [] H s (λ_ _ _=>False) e s'->False) :
 PySem.W.WalkO q loose U S l.row.toRowW d [] (λf vs=>PySem.call f vs):=by
 refine Att.attach_call hn J λw s₀ B mg mb fa o pm cd doc a vs ns G Y ho hd hcd L z y j hg=>?_;have R:=hY w _ Y;obtain⟨fd,hb,hF⟩:=F w mg fa _ R G.T.g L;exact CS R G.T.g G.T.b G.T.builtins G.T.nolimit hg z y (QF j M) hr hF hb (λH hO hS=>O w H a ns j hO hS) λH e s'=>I w H B e s'
noncomputable def c4 (s:Stmt):Arguments:=match s with
 |.FunctionDef _ a _ _ _ _ _ _ _ _=>a
 |_=>{posonlyargs:=[],args:=[],vararg:=none,kwonlyargs:=[],kw_defaults:=[],kwarg:=none,defaults:=[]}
noncomputable def bK (s:Stmt):List Stmt:=match s with
 |.FunctionDef _ _ b _ _ _ _ _ _ _=>b
 |_=>[]
noncomputable def aF (s:Stmt):Scope:=match s with
 |.FunctionDef _ _ _ _ _ _ sc _ _ _=>sc
 |_=>{kind:=.function,names:=[],isGenerator:=false,isCoroutine:=false}
abbrev E0:XK:=λ_ _ _=>False
structure nZ (K:Ql) (x qual:Str) (st:Stmt) (f:Addr) (fd:FuncData):Prop where
 ex:∃(oc:Qo) (od:Option Addr) (kV doc pm:Qo) (an:Option Addr) (cdv ct:Qo) (osl:Array (Option Qo)),
  fd=PySem.W.fnOf x qual (c4 st) (bK st) (aF st) .none kV doc pm an cdv ct/\K.lookup f=some {oc,od,.func fd,osl}/\PySem.W.codeIn K cdv qual=true
 kp:PySem.W.keepIn K (.ref f)=true
section
variable{P:Q0}{w:Q2}{K:Ql}{mg:Str->Option Qo}{base:Heap}
def nZ.binds {x j:Str}{st:Stmt}{f:Addr}{fd:FuncData}{ps:List Str}(F:nZ K x j st f fd)
 (h:∀(kV z pm:Qo) (B:Option Addr) (y ct:Qo) (us:List Qo),us.length=ps.length->bindArgs (PySem.W.fnOf x j (c4 st) (bK st) (aF st) .none kV z pm B y ct) {us,[]}=pure (ps.zip us)):Binds K fd ps []:=by
 obtain⟨oc,od,kV,z,pm,B,y,ct,J,rfl,lk,I⟩:=F.ex;exact .all (h kV z pm B y ct)
def AQ {x j:Str}{st:Stmt}{f:Addr}{oc:Qo}{od F:Option Addr}{B:Array (Option Qo)}{kV z pm y ct:Qo}(l:K.lookup f=some {oc,od,.func (PySem.W.fnOf x j (c4 st) (bK st) (aF st) .none kV z pm F y ct),B})
 (c:PySem.W.codeIn K y j=true) (k:PySem.W.keepIn K (.ref f)=true):nZ K x j st f (PySem.W.fnOf x j (c4 st) (bK st) (aF st) .none kV z pm F y ct):={⟨oc,od,kV,z,pm,F,y,ct,B,rfl,l,c⟩,k}
end
end L2
namespace LD
open PySem
inductive D where
 |non|bl (b:Bool)|int (i:Int)|str (x:Str)|tup (ds:List D)|lst (ds:List D)|frz (ds:List D)|cell (k:Nat)|fn (f:Nat)|exc (c:Nat) (p:Option Int)
 deriving Inhabited
abbrev Mem:=List (List D)
abbrev Env:=List (Option D)
inductive Res (α:Type) where
 |ok (a:α) (M:Mem)
 |err (x:D) (M:Mem)
 |bad
noncomputable def Res.bind {h j:Type}(r:Res h)(f:h->Mem->Res j):Res j:=match r with
 |.ok a M=>f a M
 |.err x M=>.err x M
 |.bad=>.bad
@[simp] theorem Res.bind_ok {h j:Type}(a:h)(M:Mem)(f:h->Mem->Res j):(Res.ok a M).bind f=f a M:=rfl
@[simp] theorem Res.bind_err {h j:Type}(x:D)(M:Mem)(f:h->Mem->Res j):(Res.err x M:Res h).bind f=.err x M:=rfl
@[simp] theorem Res.bind_bad {h j:Type}(f:h->Mem->Res j):(Res.bad:Res h).bind f=.bad:=rfl
inductive n5 where
 |add|sub|mul|fdiv|mod|pow
 deriving DecidableEq
inductive jn where
 |eq|ne|lt|le|gt|ge|isN|notN|isin|notin
 deriving DecidableEq
inductive Ty where
 |int|bool|str|tuple|list|own (c:Str)
 deriving DecidableEq
inductive wU where
 |len|tuple|list (m:Bool)|listR (m:Bool)|all|sum|repr
 deriving DecidableEq
inductive fC where
 |one (i:Nat)
 |tup (l:List Nat)
 |two (i:Nat) (l:List Nat)
noncomputable def sz:Nat:=16777216
noncomputable def ba (m:Bool)(ds:List D)(M:Mem):Res D:=if ds.length<=sz then(if m then .ok (.cell M.length) (M++[ds]) else .ok (.lst ds) M) else .bad
noncomputable def kU (ds:List D)(M:Mem):Res D:=if ds.length<=sz then .ok (.tup ds) M else .bad
noncomputable def cv (M:Mem):D->Option (List D)
 |.lst h=>some h
 |.tup h=>some h
 |.frz h=>some h
 |.cell k=>M[k]?
 |_=>none
noncomputable def ef (M:Mem):D->Option (List D)
 |.lst h=>some h
 |.frz h=>some h
 |.cell k=>M[k]?
 |_=>none
noncomputable def ja (M:Mem):D->Option (List D)
 |.lst h=>some h
 |.cell k=>M[k]?
 |_=>none
noncomputable def aw:Nat->D->Bool
 |_,.non=>true
 |_,.bl _=>true
 |_,.int _=>true
 |_,.str x=>x.cps.all (· < 0x110000)
 |n+1,.tup h=>h.all (aw n)
 |n+1,.lst h=>h.all (aw n)
 |0,.tup _=>false
 |0,.lst _=>false
 |_,.frz _=>false
 |_,.cell _=>false
 |_,.fn _=>false
 |_,.exc _ _=>false
mutual
noncomputable def bG:D->D->Bool
 |.non,.non=>true
 |.bl a,.bl b=>a==b
 |.bl a,.int b=>(if a then 1 else 0)==b
 |.int a,.bl b=>a==(if b then 1 else 0)
 |.int a,.int b=>a==b
 |.str a,.str b=>a==b
 |.tup a,.tup b=>dM a b
 |.lst a,.lst b=>dM a b
 |_,_=>false
noncomputable def dM:List D->List D->Bool
 |[],[]=>true
 |a::r,b::t=>bG a b&&dM r t
 |[],_::_=>false
 |_::_,[]=>false
end
noncomputable def gP:D->Bool
 |.str _=>true
 |_=>false
def kr (a b:D):Option Bool:=if gP a&&gP b||aw 64 a&&aw 64 b then some (bG a b) else none
noncomputable def view (M:Mem):D->D
 | .cell k => match M[k]? with
   |some h=>.lst h
   |none=>.cell k
 |.frz h=>.lst h
 |d=>d
noncomputable def cY:Nat->Mem->D->D
 |0,_,d=>d
 | n + 1, M, .cell k => match M[k]? with
   |some h=>.lst (h.map (cY n M))
   |none=>.cell k
 |n+1,M,.frz h=>.lst (h.map (cY n M))
 |n+1,M,.lst h=>.lst (h.map (cY n M))
 |n+1,M,.tup h=>.tup (h.map (cY n M))
 |_+1,_,d=>d
def my (M:Mem)(a b:D):Option Bool:=match kr (view M a) (view M b) with
 |some r=>some r
 |none=>kr (cY 64 M a) (cY 64 M b)
def jO (M:Mem):D->Option Bool
 |.non=>some false
 |.bl b=>some b
 |.int i=>some (i != 0)
 |.str x=>if x.cps.size<=sz then some (x.cps.size != 0) else none
 |.tup ds=>some (!ds.isEmpty)
 |.lst ds=>some (!ds.isEmpty)
 |.frz ds=>some (!ds.isEmpty)
 |.cell k=>(M[k]?).map λds=>!ds.isEmpty
 |.fn _=>none
 |.exc _ _=>none
def bY (n:Nat)(i:Int):Option Nat:=if 0<=i then(if i<n then some i.toNat else none) else if -(n:Int)<=i then some (i+n).toNat else none
def fE (m:Bool)(o:n5)(a b:D)(M:Mem):Res D:=match o,a,b with
 |.add,.int i,.int j=>.ok (.int (i+j)) M
 |.add,.str x,.str y=>if x.cps.size+y.cps.size<=sz then .ok (.str {x.cps++y.cps}) M else .bad
 |.add,.tup x,.tup y=>kU (x++y) M
 | .add, a, b => match ja M a, ja M b with
   |some x,some y=>ba m (x++y) M
   |_,_=>.bad
 |.sub,.int i,.int j=>.ok (.int (i-j)) M
 |.mul,.int i,.int j=>if (-(2^64)<i/\i<2^64)\/(-(2^64)<j/\j<2^64) then .ok (.int (i*j)) M else .bad
 |.mul,.tup x,.int j=>if x.length*j.toNat<=sz/\-(2^63)<=j/\j<2^63 then .ok (.tup (List.replicate j.toNat x).flatten) M else .bad
 | .mul, a, .int j => match ja M a with
   |some x=>if x.length*j.toNat<=sz/\-(2^63)<=j/\j<2^63 then ba m (List.replicate j.toNat x).flatten M else .bad
   |none=>.bad
 |.fdiv,.int i,.int j=>if 0<j/\j<1073741824 then .ok (.int (i / j)) M else .bad
 |.mod,.int i,.int j=>if 0<j then .ok (.int (i % j)) M else .bad
 |.pow,.int i,.int j=>if 0<=j/\j<=1000000/\i.natAbs<2^64 then .ok (.int (i^j.toNat)) M else .bad
 |_,_,_=>.bad
def uo (x:D)(ds:List D):Option Bool:=if aw 64 x&&ds.all (aw 63) then some (ds.any λy=>bG y x) else none
noncomputable def zj (x y:Str):Bool:=!(Builtin.Str.occurrences y x 0 y.length 1).isEmpty
noncomputable def intsOf:List D->Option (List Int)
 |[]=>some []
 |.int b::r=>(intsOf r).map (b::·)
 |_=>none
def mi:D->Option (List Int)
 |.tup h=>intsOf h
 |_=>none
def jy:List D->Option (List (List Int))
 |[]=>some []
 |d::r=>(mi d).bind λk=>(jy r).map (k::·)
def qt:D->Option (List (List Int))
 |.tup h=>jy h
 |_=>none
def isKey (c:Int)(d:D):Bool:=if c=77 then(mi d).isSome else if c=78 then(qt d).isSome else false
def bq (M:Mem)(o:Nat):Option (Int×List D):=if 5000<=o then(match M[o-5000]? with
 |some (.int c::es)=>if c=77\/c=78 then some (c,es) else none
 |_=>none) else none
noncomputable def cK:D->D
 |.tup [k,_]=>k
 |d=>d
noncomputable def PD:D->D
 |.tup [_,v]=>v
 |d=>d
def cx (es:List D)(k:D):Option D:=(es.find? λe=>bG (cK e) k).map PD
def putD (es:List D)(k v:D):List D:=if (cx es k).isSome then es.map (λe=>if bG (cK e) k then .tup [cK e,v] else e) else es++[.tup [k,v]]
def inD (M:Mem)(o:Nat)(k:D):Option Bool:=(bq M o).bind λq=>if isKey q.1 k then some (cx q.2 k).isSome else none
def getD (M:Mem)(o:Nat)(k:D):Option D:=(bq M o).bind λq=>if isKey q.1 k then cx q.2 k else none
noncomputable def eK:D->Bool
 |.non=>true
 |_=>false
def bB (o:jn)(a b:D)(M:Mem):Option Bool:=match o,a,b with
 |.eq,a,b=>my M a b
 |.ne,a,b=>(my M a b).map (!·)
 |.lt,.int i,.int j=>some (decide (i<j))
 |.le,.int i,.int j=>some (decide (i<=j))
 |.gt,.int i,.int j=>some (decide (j<i))
 |.ge,.int i,.int j=>some (decide (j<=i))
 |.isN,a,.non=>some (eK a)
 |.notN,a,.non=>some (!eK a)
 |.isin,.str x,.str y=>some (zj x y)
 |.notin,.str x,.str y=>some (!zj x y)
 |.isin,a,b=>(cv M b).bind (uo (view M a))
 |.notin,a,b=>((cv M b).bind (uo (view M a))).map (!·)
 |_,_,_=>none
def bQ (a i:D)(M:Mem):Option D:=match a,i with
 |.str x,.int i=>if x.cps.size<=sz then(bY x.cps.size i).bind λj=>(x.cps[j]?).map λc=>.str {#[c]} else none
 |a,.int i=>(cv M a).bind λh=>(bY h.length i).bind λj=>h[j]?
 |_,_=>none
noncomputable def aW (n d:Nat):D->Option Nat
 |.non=>some d
 |.int v=>some (if v<0 then(v+(n:Int)).toNat else min v.toNat n)
 |_=>none
noncomputable def eh:Bool->D->Bool
 |true,.int _=>true
 |false,.non=>true
 |_,_=>false
noncomputable def cut {h:Type}(xs:List h)(lo hi:Nat):List h:=(xs.drop lo).take (hi-lo)
def gx (m:Bool)(a lo hi:D)(M:Mem):Res D:=match a with
 | .tup xs => match aW xs.length 0 lo, aW xs.length xs.length hi with
   |some l,some h=>.ok (.tup (cut xs l h)) M
   |_,_=>.bad
 | a => match ef M a with
   | some xs => match aW xs.length 0 lo, aW xs.length xs.length hi with
     |some l,some h=>ba m (cut xs l h) M
     |_,_=>.bad
   |none=>.bad
def gE (t:Ty):D->Option Bool
 |.non=>some false
 |.bl _=>some (t==.bool||t==.int)
 |.int _=>some (t==.int)
 |.str _=>some (t==.str)
 |.tup _=>some (t==.tuple)
 |.lst _=>some (t==.list)
 |.frz _=>some (t==.list)
 |.cell _=>some (t==.list)
 |.fn _=>none
 |.exc _ _=>none
noncomputable def boolsOf:List D->Option (List Bool)
 |[]=>some []
 |.bl b::r=>(boolsOf r).map (b::·)
 |_=>none
def ff (f:wU)(ds:List D)(M:Mem):Res D:=match f,ds with
 |.len,[.str x]=>if x.cps.size<=sz then .ok (.int x.cps.size) M else .bad
 | .len, [d] => match cv M d with
   |some xs=>.ok (.int xs.length) M
   |none=>.bad
 |.tuple,[.tup xs]=>.ok (.tup xs) M
 | .tuple, [d] => match ef M d with
   |some xs=>.ok (.tup xs) M
   |none=>.bad
 | .list m, [d] => match cv M d with
   |some xs=>ba m xs M
   |none=>.bad
 |.listR m,[.int n]=>if n<2^20 then ba m ((List.range n.toNat).map λ(k:Nat)=>D.int (k:Int)) M else .bad
 | .all, [d] => match ef M d with
   | some xs => match boolsOf xs with
     |some bs=>.ok (.bl (bs.all id)) M
     |none=>.bad
   |none=>.bad
 | .sum, [d] => match ef M d with
   | some xs => match intsOf xs with
     |some is=>.ok (.int is.sum) M
     |none=>.bad
   |none=>.bad
 |_,_=>.bad
noncomputable def cJ:List Nat->List D->Env->Option Env
 |[],[],h=>some h
 |i::l,d::ds,h=>cJ l ds (h.set i (some d))
 |_,_,_=>none
def bL (t:fC)(d:D)(Z:Env):Option Env:=match t,d with
 |.one i,d=>some (Z.set i (some d))
 |.tup l,.tup h=>cJ l h Z
 |.two i l,.tup [d,.tup h]=>cJ l h (Z.set i (some d))
 |.tup _,_=>none
 |.two _ _,_=>none
abbrev Walk:=Mem->Option (List D)
noncomputable def eY:Nat->List D->List D
 |_,[]=>[]
 |k,d::r=>.tup [.int k,d]::eY (k+1) r
noncomputable def eC:List D->List D->List D
 |a::r,b::t=>.tup [a,b]::eC r t
 |_,_=>[]
def fQ {h:Type}(f:h->D->Mem->Res h)(w:Walk):Nat->Nat->h->Mem->Res h
 |0,_,_,_=>.bad
 | n + 1, i, a, M => match w M with
   |none=>.bad
   | some j => match j[i]? with
     |none=>.ok a M
     |some d=>(f a d M).bind (fQ f w n (i+1))
def cF {h:Type}(f:h->D->Mem->Res h)(w:Walk)(a:h)(M:Mem):Res h:=fQ f w (((w M).getD []).length+1) 0 a M
noncomputable def b9 {h:Type}(M:Mem):Option h->Res h
 |some a=>.ok a M
 |none=>.bad
@[simp] theorem tU {h:Type}(M:Mem)(a:h):b9 M (some a)=.ok a M:=rfl
@[simp] theorem OY {h:Type}(M:Mem):(b9 M none:Res h)=.bad:=rfl
inductive Fl where
 |next (Z:Env)
 |ret (d:D)
 |exc (x:D) (Z:Env)
def NP {a b:Int}:bG (.int a) (.int b)=(a==b):=rfl
end LD
namespace LD
open PySem PySem.Spec PyProof.Rows L2
structure Mu where
 pub:Nat->Option Addr
 priv:List Addr
 ob:Nat->Option Addr
def Mu.Mt (μ:Mu)(a:Addr):Prop:=(∃k,μ.pub k=some a)\/a∈μ.priv
abbrev Fa:=Nat->Option Addr
def KL (K:Ql)(a:Addr)(xs:List V):Prop:=
 ∃(o:Obj) (h:Array Qo) (n:Nat),K.lookup a=some o/\o.cls=.type "list"/\o.dict=none/\o.data=.seq h n/\h.size<=sizeLine/\Vals xs h.toList
def XAt (C:Addr)(u:Option Addr)(a:Addr)(h:Heap):Prop:=∃o j,h.get? a=some o/\o.cls=.ref C/\o.dict=u/\o.data=.fields j/\1<j.size
noncomputable def gQ (c:Nat):Str:=if c=1 then "number" else "place"
def u6 (H:Hp)(c:Nat)(h:Option Addr):Option Int->Prop
 |none=>h=none
 |some i=>∃d,h=some d/\H d=some (.xd [(gQ c,.int i)])
def eU (c:Nat):Nat:=1000+c
def jv (c:Nat):Nat:=900+c
section
variable(fa:Fa)(K:Ql)(μ:Mu)(H:Hp)
mutual
def Rep:D->V->Prop
 |.non,v=>v=.non
 |.bl b,v=>v=.bl b
 |.int i,v=>v=.int i
 |.str x,v=>v=.str x
 |.tup j,v=>∃a h,v=.ref a/\dw K H a h/\aG j h
 |.lst j,v=>∃a h,v=.ref a/\(H a=some (.lst h)/\¬ μ.Mt a)/\aG j h
 |.frz j,v=>∃a h,v=.ref a/\((∃ob,H a=some (.frz ob (.lst h)))\/KL K a h)/\aG j h
 |.cell k,v=>∃a,v=.ref a/\μ.pub k=some a
 |.fn f,v=>∃a,v=.ref a/\(fa f=some a\/(fa f=none/\μ.ob f=some a))
 |.exc c p,v=>∃a C u,v=.ref a/\fa (eU c)=some C/\H a=some (.ext (XAt C u a))/\u6 H c u p
def aG:List D->List V->Prop
 |[],h=>h=[]
 |d::ds,h=>∃v r,h=v::r/\Rep d v/\aG ds r
end
end
def IsX (o:HO):Prop:=(∃h,o=.ext h)\/∃fs,o=.xd fs
structure ExtW (μ:Mu) (H:Hp) (μ':Mu) (H':Hp):Prop where
 mu:∀k a,μ.pub k=some a->μ'.pub k=some a
 tups:∀a vs,Rd H a (.tup vs)->Rd H' a (.tup vs)
 lsts:∀a vs,H a=some (.lst vs)->¬ μ.Mt a->H' a=some (.lst vs)/\¬ μ'.Mt a
 frzs:∀a ob u,H a=some (.frz ob u)->H' a=some (.frz ob u)
 exts:∀a o,IsX o->H a=some o->H' a=some o
 obs:∀k a,μ.ob k=some a->μ'.ob k=some a
structure Ext (μ:Mu) (H:Hp) (μ':Mu) (H':Hp):Prop extends ExtW μ H μ' H' where
 pr:μ'.priv=μ.priv
 pk:∀a∈μ.priv,H' a=H a
def ExtW.refl:ExtW μ H μ H:={λ_ _ h=>h,λ_ _ h=>h,λ_ _ h n=>⟨h,n⟩,λ_ _ _ h=>h,λ_ _ _ h=>h,λ_ _ h=>h}
def ExtW.trans (a:ExtW μ H μ1 H1)(b:ExtW μ1 H1 μ2 H2):ExtW μ H μ2 H2:=
 {λk x h=>b.mu k x (a.mu k x h),λx j h=>b.tups x j (a.tups x j h),λx j h n=>b.lsts x j (a.lsts x j h n).1 (a.lsts x j h n).2,λx ob u h=>b.frzs x ob u (a.frzs x ob u h),λx o i h=>b.exts x o i (a.exts x o i h),λk x h=>b.obs k x (a.obs k x h)}
def Ext.refl:Ext μ H μ H:={.refl,rfl,λ_ _=>rfl}
def Ext.trans (a:Ext μ H μ1 H1)(b:Ext μ1 H1 μ2 H2):Ext μ H μ2 H2:=
 {a.toExtW.trans b.toExtW,b.pr.trans a.pr,λx h=>(b.pk x (by rw[a.pr];exact h)).trans (a.pk x h)}
section
variable{fa:Fa}{K:Ql}{μ μ':Mu}{H H':Hp}
def ExtW.sqT (x:ExtW μ H μ' H')(h:dw K H a vs):dw K H' a vs:=h.elim (λz=>.inl (x.tups a vs z)) .inr
mutual
def Rep.extW (x:ExtW μ H μ' H'):∀{d:D}{v:V},Rep fa K μ H d v->Rep fa K μ' H' d v
 |.non,v,h=>h
 |.bl b,v,h=>h
 |.int i,v,h=>h
 |.str y,v,h=>h
 | .tup u, v, h => by
   obtain⟨a,j,e,s,r⟩:=h;exact{a,j,e,x.sqT s,aG.extW x r}
 | .lst u, v, h => by
   obtain⟨a,j,e,s,r⟩:=h;exact{a,j,e,x.lsts a j s.1 s.2,aG.extW x r}
 | .frz u, v, h => by
   obtain⟨a,j,e,s,r⟩:=h;exact{a,j,e,s.elim (λ⟨ob,z⟩=>.inl {ob,x.frzs a ob _ z}) .inr,aG.extW x r}
 | .cell k, v, h => by
   obtain⟨a,e,m⟩:=h;exact{a,e,x.mu k a m}
 | .fn f, v, h => by
   obtain⟨a,e,m⟩:=h;exact{a,e,m.imp id λz=>{z.1,x.obs _ _ z.2}}
 | .exc c p, v, h => by
   obtain⟨a,C,B,e,f,g,n⟩:=h;refine{a,C,B,e,f,x.exts _ _ (.inl {_,rfl}) g,?_};cases p with
   |none=>exact n
   |some i=>exact let⟨d,h1,h2⟩:=n;{d,h1,x.exts _ _ (.inr {_,rfl}) h2}
def aG.extW (x:ExtW μ H μ' H'):∀{ds:List D}{vs:List V},aG fa K μ H ds vs->aG fa K μ' H' ds vs
 |[],vs,h=>h
 | d :: ds, vs, h => by
   obtain⟨v,r,e,p,q⟩:=h;exact{v,r,e,Rep.extW x p,aG.extW x q}
end
def Rep.ext (x:Ext μ H μ' H')(h:Rep fa K μ H d v):Rep fa K μ' H' d v:=Rep.extW x.toExtW h
def aG.ext (x:Ext μ H μ' H')(h:aG fa K μ H d v):aG fa K μ' H' d v:=aG.extW x.toExtW h
def aG.length:∀{ds:List D}{vs:List V},aG fa K μ H ds vs->vs.length=ds.length
 | [], vs, h => by
   subst h;rfl
 | d :: ds, vs, h => by
   obtain⟨v,r,e,p,q⟩:=h;subst e;simp[aG.length q]
def aG.get:∀{ds:List D}{vs:List V}{i:Nat}{d:D},aG fa K μ H ds vs->ds[i]?=some d->∃v,vs[i]?=some v/\Rep fa K μ H d v
 |[],_,_,_,_,e=>by simp at e
 | d :: ds, vs, 0, j, h, e => by
   obtain⟨v,r,rfl,p,q⟩:=h;simp at e;subst e;exact⟨v,rfl,p⟩
 | d :: ds, vs, i + 1, j, h, e => by
   obtain⟨v,r,rfl,p,q⟩:=h;obtain⟨u,h1,h2⟩:=aG.get q (by simpa using e)
   exact{u,by simpa using h1,h2}
def aG.getV:∀{ds:List D}{vs:List V}{i:Nat}{v:V},aG fa K μ H ds vs->vs[i]?=some v->∃d,ds[i]?=some d/\Rep fa K μ H d v:=by
 intro ds vs i v h e;have hl:=h.length;have j:i<vs.length:=(Qm.mp e).1;obtain⟨d,hd⟩:∃d,ds[i]?=some d:={ds[i]'(`a),`s}
 obtain⟨u,h1,h2⟩:=h.get hd;rw[e] at h1;cases h1;exact⟨d,hd,h2⟩
def aG.append:∀{ds es:List D}{vs ws:List V},aG fa K μ H ds vs->aG fa K μ H es ws->aG fa K μ H (ds++es) (vs++ws)
 | [], _, vs, _, h, g => by
   subst h;exact g
 | d :: ds, es, vs, ws, h, g => by
   obtain⟨v,r,rfl,p,q⟩:=h;exact{v,r++ws,rfl,p,aG.append q g}
def aG.one (h:Rep fa K μ H d v):aG fa K μ H [d] [v]:={v,[],rfl,h,rfl}
def aG.drop:∀(n:Nat) {ds:List D}{vs:List V},aG fa K μ H ds vs->aG fa K μ H (ds.drop n) (vs.drop n)
 |0,_,_,h=>h
 | n + 1, [], vs, h => by
   subst h;exact rfl
 | n + 1, d :: ds, vs, h => by
   obtain⟨v,r,rfl,p,q⟩:=h;exact aG.drop n q
def aG.take:∀(n:Nat) {ds:List D}{vs:List V},aG fa K μ H ds vs->aG fa K μ H (ds.take n) (vs.take n)
 |0,_,_,h=>rfl
 | n + 1, [], vs, h => by
   subst h;exact rfl
 | n + 1, d :: ds, vs, h => by
   obtain⟨v,r,rfl,p,q⟩:=h;exact{v,r.take n,rfl,p,aG.take n q}
def aG.set:∀(n:Nat) {ds:List D}{vs:List V}{d:D}{v:V},aG fa K μ H ds vs->Rep fa K μ H d v->aG fa K μ H (ds.set n d) (vs.set n v)
 | _, [], vs, _, _, h, _ => by
   subst h;exact rfl
 | 0, d :: ds, vs, _, j, h, g => by
   obtain⟨v,r,rfl,p,q⟩:=h;exact⟨j,r,rfl,g,q⟩
 | n + 1, d :: ds, vs, _, j, h, g => by
   obtain⟨v,r,rfl,p,q⟩:=h;exact{v,r.set n j,rfl,p,aG.set n q g}
def aG.rep:∀(n:Nat) {ds:List D}{vs:List V},aG fa K μ H ds vs->aG fa K μ H (List.replicate n ds).flatten (List.replicate n vs).flatten
 |0,_,_,_=>rfl
 | n + 1, ds, vs, h => by
   rw[Sh,Sh,SD,SD];exact h.append (aG.rep n h)
def aG.ints:∀(ns:List Int),aG fa K μ H (ns.map D.int) (ns.map V.int)
 |[]=>rfl
 |n::ns=>{.int n,ns.map V.int,rfl,rfl,aG.ints ns}
end
noncomputable def lu:Nat->List Str
 |40=>["machine","standing","earlier"]
 |_=>[]
def aB (k:Nat):Nat:=5000+k
noncomputable def E6 (ks:List Int):Int:=reduceHash (Builtin.Tuple.tupleHashOf (ks.map hashInt))
noncomputable def MS (h:List (List Int)):Int:=reduceHash (Builtin.Tuple.tupleHashOf (h.map E6))
def nk (c:Int)(d:D):Option Int:=if c=77 then(mi d).map E6 else if c=78 then(qt d).map MS else none
def mO (fa:Fa)(K:Ql)(μ:Mu)(H:Hp)(c:Int)(p:D×D)(e:RK):Prop:=∃b v,e.key=.ref b/\nk c p.1=some e.hash/\Rep fa K μ H p.1 (.ref b)/\RelV v e.val/\Rep fa K μ H p.2 v
def jl (fa:Fa)(K:Ql)(μ:Mu)(H:Hp)(a:Addr)(ds:List D):Prop:=
 (∃(c:Nat) (C u:Addr) (fs:List (Str×V)) (j:List D),fa (jv c)=some C/\H a=some (.ins C u fs)/\fs.map (·.1)=(lu c).take fs.length/\ds=.int c::j/\aG fa K μ H j (fs.map (·.2)))\/
 ∃(c:Int) (j:List RK) (h:List (D×D)),H a=some (.dn j)/\(c=77\/c=78)/\ds=.int c::h.map (λp=>.tup [p.1,p.2])/\R7 (mO fa K μ H c) h j/\(h.map (·.1)).Nodup
def jl.extW {fa:Fa}{K:Ql}{μ μ':Mu}{H H':Hp}{a:Addr}{ds:List D}(h:jl fa K μ H a ds)(x:ExtW μ H μ' H')(e:H' a=H a):jl fa K μ' H' a ds:=
 h.imp (λ⟨c,C,z,fs,j,h1,h2,h3,h4,u⟩=>{c,C,z,fs,j,h1,e.trans h2,h3,h4,u.extW x})
  λ⟨c,j,y,h1,h2,h3,h4,u⟩=>{c,j,y,e.trans h1,h2,h3,R7.mapP h4 λp q ⟨b,v,e1,e2,B,E,F⟩=>{b,v,e1,e2,B.extW x,E,F.extW x},u}
def jl.hold {fa:Fa}{K:Ql}{μ:Mu}{H:Hp}{a:Addr}{ds:List D}(h:jl fa K μ H a ds):∃o,H a=some o/\(∀vs,o≠.lst vs):=by
 rcases h with⟨_,_,_,_,_,_,h,_⟩|⟨_,_,_,h,_⟩
 ·exact{_,h,λ_ z=>by cases z}
 ·exact{_,h,λ_ z=>by cases z}
def jl.new {fa:Fa}{K:Ql}{μ:Mu}{H:Hp}{a p:Addr}{ds:List D}(h:jl fa K μ H a ds)(j:H p=none):a≠p:=let{_,e,_}:=h.hold;aV e j
def jl.nl {fa:Fa}{K:Ql}{μ:Mu}{H:Hp}{a p:Addr}{ds:List D}{vs:List V}(h:jl fa K μ H a ds)(j:H p=some (.lst vs)):a≠p:=λz=>by
 obtain⟨o,e,n⟩:=h.hold;rw[z,j] at e;cases e;exact n _ rfl
def NX (fa:Fa)(K:Ql)(μ:Mu)(H:Hp)(k:Nat)(ds:List D):Prop:=
 (∃a h,μ.pub k=some a/\H a=some (.lst h)/\aG fa K μ H ds h)\/∃a,μ.ob (aB k)=some a/\μ.pub k=none/\jl fa K μ H a ds
structure RelM (fa:Fa) (K:Ql) (μ:Mu) (H:Hp) (M:Mem):Prop where
 at':∀(k:Nat) (ds:List D),M[k]?=some ds->NX fa K μ H k ds
 out:∀(k:Nat),M.length<=k->μ.pub k=none
 oout:∀(k:Nat),M.length<=k->μ.ob (aB k)=none
 inj:∀j k a,μ.pub j=some a->μ.pub k=some a->j=k
 oinj:∀j k a,μ.ob (aB j)=some a->μ.ob (aB k)=some a->j=k
 sep:∀k a,μ.pub k=some a->μ.ob (aB k)=none
 pv:∀a∈μ.priv,(∃vs,H a=some (.lst vs))/\∀k,μ.pub k≠some a
structure bc (fa:Fa) (K:Ql) (μ:Mu) (H:Hp) (σ:L2.St) (Z:Env):Prop where
 len:σ.length=Z.length
 at':∀(i:Nat) (d:D),Z[i]?=some (some d)->∃v,σ[i]?=some (some v)/\Rep fa K μ H d v
section
variable{fa:Fa}{K:Ql}{μ μ':Mu}{H H':Hp}{σ:L2.St}{Z:Env}{M:Mem}
def bc.ext (h:bc fa K μ H σ Z)(x:Ext μ H μ' H'):bc fa K μ' H' σ Z:=
 {h.len,λi d e=>let⟨v,h1,h2⟩:=h.at' i d e;{v,h1,h2.ext x}}
def bc.set (h:bc fa K μ H σ Z){i:Nat}{d:D}{v:V}(r:Rep fa K μ H d v):bc fa K μ H (σ.set i (some v)) (Z.set i (some d)):=by
 refine{by simp[h.len],λj z e=>?_}
 by_cases y:j=i
 ·subst y;have hl:j<Z.length:=by
   have:=(Qm.mp e).1;simpa using this
  rw[Rk hl] at e;cases e;exact{v,Rk (by rw[h.len];exact hl),r}
 ·rw[QH (Ru y)] at e;obtain⟨u,h1,h2⟩:=h.at' j z e;exact{u,by rw[QH (Ru y)];exact h1,h2}
def bc.extW (h:bc fa K μ H σ Z)(x:ExtW μ H μ' H'):bc fa K μ' H' σ Z:=
 {h.len,λi d e=>let⟨v,h1,h2⟩:=h.at' i d e;{v,h1,h2.extW x}}
def RelM.mu_lt (h:RelM fa K μ H M)(e:μ.pub k=some a):∃ds vs,M[k]?=some ds/\H a=some (.lst vs)/\aG fa K μ H ds vs:=by
 by_cases j:k<M.length
 ·rcases h.at' k M[k] (by simp[j]) with⟨u,vs,h1,h2,h3⟩|⟨_,_,z,_⟩
  ·rw[e] at h1;cases h1;exact{_,vs,by simp[j],h2,h3}
  ·rw[e] at z;cases z
 ·rw[h.out k `a] at e;cases e
def RelM.at_ (h:RelM fa K μ H M)(e:M[k]?=some ds)(p:μ.pub k=some a):∃vs,H a=some (.lst vs)/\aG fa K μ H ds vs:=by
 obtain⟨j,vs,h1,h2,h3⟩:=h.mu_lt p;rw[e] at h1;cases h1;exact⟨vs,h2,h3⟩
def RelM.fresh (h:RelM fa K μ H M)(j:H p=none):¬ μ.Mt p:=λe=>by
 rcases e with⟨k,e⟩|e
 ·obtain⟨v,u,_,h2,_⟩:=h.mu_lt e;rw[j] at h2;cases h2
 ·obtain⟨⟨u,h2⟩,_⟩:=h.pv p e;rw[j] at h2;cases h2
def RelM.pne (h:RelM fa K μ H M)(u:H p=none)(j:a∈μ.priv):a≠p:=λe=>by
 obtain⟨⟨v,h2⟩,_⟩:=h.pv a j;rw[e,u] at h2;cases h2
def Ext.alloc (h:RelM fa K μ H M)(j:H p=none):Ext μ H μ (upd H p o):=by
 have rd:∀a u,Rd H a u->Rd (upd H p o) a u:=λa u h=>by
  rcases h with h|⟨ob,h⟩
  ·exact .inl (by rw[ao (aV h j)];exact h)
  ·exact .inr {ob,by rw[ao (aV h j)];exact h}
 exact{{λ_ _ h=>h,λa y h=>rd a _ h,λa y h n=>{by rw[ao (aV h j)];exact h,n},λa ob u h=>by rw[ao (aV h j)];exact h,λa o _ h=>by rw[ao (aV h j)];exact h,λ_ _ h=>h},rfl,λa v=>by rw[ao (h.pne j v)]}
def RelM.alloc (h:RelM fa K μ H M)(j:H p=none):RelM fa K μ (upd H p o) M:=
 {λk y e=>(h.at' k y e).imp (λ⟨a,v,h1,h2,h3⟩=>{a,v,h1,by rw[ao (aV h2 j)];exact h2,h3.ext (Ext.alloc h j)}) λ⟨a,h1,h2,h3⟩=>{a,h1,h2,h3.extW (Ext.alloc h j).toExtW (ao (h3.new j))},h.out,h.oout,h.inj,h.oinj,h.sep,λa u=>{let{⟨v,e⟩,_}:=h.pv a u;{v,by rw[ao (h.pne j u)];exact e},(h.pv a u).2}}
noncomputable def ft (μ:Mu)(n:Nat)(p:Addr):Mu:={λk=>if k=n then some p else μ.pub k,μ.priv,μ.ob}
set_option tactic.hygienic true in
def Ext.cell (h:RelM fa K μ H M)(j:H p=none):Ext μ H (ft μ M.length p) (upd H p o):=by
 have rd:∀a u,Rd H a u->Rd (upd H p o) a u:=λa u h=>by
  rcases h with h|⟨ob,h⟩
  ·exact .inl (by rw[ao (aV h j)];exact h)
  ·exact .inr {ob,by rw[ao (aV h j)];exact h}
 refine{{λk a e=>?_,λa y g=>rd a _ g,λa y g n=>{by rw[ao (aV g j)];exact g,λe=>?_},λa ob u h=>by rw[ao (aV h j)];exact h,λa o _ h=>by rw[ao (aV h j)];exact h,λ_ _ h=>h},rfl,λa v=>by rw[ao (h.pne j v)]}
 ·show(if k=M.length then some p else μ.pub k)=some a;split
  ·next q=>rw[q,h.out _ (Qt _)] at e;cases e
  ·exact e
 ·rcases e with⟨k,e⟩|e
  ·have e:(if k=M.length then some p else μ.pub k)=some a:=e;split at e
   ·cases e;exact aV g j rfl
   ·exact n (.inl ⟨k,e⟩)
  ·exact n (.inr e)
set_option tactic.hygienic true in
def RelM.cell (h:RelM fa K μ H M){p:Addr}{ds:List D}{vs:List V}(v:H p=none)(r:aG fa K μ H ds vs) :
 RelM fa K (ft μ M.length p) (upd H p (.lst vs)) (M++[ds]):=by
 have x:Ext μ H (ft μ M.length p) (upd H p (.lst vs)):=Ext.cell h v;have I:=h.fresh v;refine{λk y e=>?_,λk u=>?_,λk u=>h.oout k (by simp at u;omega),λj k a h1 h2=>?_,h.oinj,λk a z=>?_,λa B=>?_}
 ·by_cases u:k<M.length
  ·rw[QA u] at e;rcases h.at' k y e with⟨a,F,h1,h2,h3⟩|⟨a,h1,h2,h3⟩
   ·exact .inl {a,F,x.mu k a h1,by rw[ao (aV h2 v)];exact h2,h3.ext x}
   ·exact .inr {a,h1,by show(if k=M.length then some p else μ.pub k)=none;rw[if_neg (QW u)];exact h2,h3.extW x.toExtW (ao (h3.new v))}
  ·have E:k=M.length:=by
    have:=(Qm.mp e).1;simp at this;omega
   subst E;rw[QY (Qt _)] at e;simp at e;subst e;exact .inl {p,vs,by simp[ft],bA,r.ext x}
 ·simp at u;show(if k=M.length then some p else μ.pub k)=none;rw[if_neg `a]
  exact h.out k `a
 ·have h1:(if j=M.length then some p else μ.pub j)=some a:=h1;have h2:(if k=M.length then some p else μ.pub k)=some a:=h2;split at h1<;>split at h2
  ·omega
  ·cases h1;exact absurd (.inl ⟨k,h2⟩) I
  ·cases h2;exact absurd (.inl ⟨j,h1⟩) I
  ·exact h.inj j k a h1 h2
 ·have z:(if k=M.length then some p else μ.pub k)=some a:=z;show μ.ob (aB k)=none;split at z
  ·next e=>rw[e];exact h.oout _ (Qt _)
  ·exact h.sep k a z
 ·obtain⟨⟨F,e⟩,n⟩:=h.pv a B;refine{{F,by rw[ao (h.pne v B)];exact e},λk e2=>?_}
  have e2:(if k=M.length then some p else μ.pub k)=some a:=e2;split at e2
  ·cases e2;exact h.pne v B rfl
  ·exact n k e2
def ExtW.write (h2:H a=some (.lst vs))(e:μ.Mt a):ExtW μ H μ (upd H a (.lst ws)):=by
 have ne:∀b u,Rd H b u->(∀xs,u≠.lst xs)->b≠a:=λb u g j q=>by
  subst q;rcases g with g|⟨ob,g⟩
  ·rw[h2] at g;cases g;exact j _ rfl
  ·rw[h2] at g;cases g
 have rd:∀b u,b≠a->Rd H b u->Rd (upd H a (.lst ws)) b u:=λb u h g=>by
  rcases g with g|⟨ob,g⟩
  ·exact .inl (by rw[ao h];exact g)
  ·exact .inr {ob,by rw[ao h];exact g}
 exact{λ_ _ q=>q,λb v g=>rd b _ (ne b _ g (λxs q=>by cases q)) g,λb v g n=>{by rw[ao (λq=>n (by rw[q];exact e))];exact g,n},λb ob u g=>by rw[ao (λq=>by rw[q,h2] at g;cases g)];exact g,λb o i g=>by rw[ao (λq=>by rw[q,h2] at g;cases g;rcases i with⟨_,i⟩|⟨_,i⟩<;>cases i)];exact g,λ_ _ q=>q}
def Ext.write {k:Nat}{a:Addr}{vs ws:List V}(h:RelM fa K μ H M)(e:μ.pub k=some a):Ext μ H μ (upd H a (.lst ws)):=by
 obtain⟨u,vs,_,h2,_⟩:=h.mu_lt e;exact{ExtW.write h2 (.inl ⟨k,e⟩),rfl,λb j=>by rw[ao (λq=>(h.pv b j).2 k (by rw[q];exact e))]}
def RelM.write (h:RelM fa K μ H M){k:Nat}{a:Addr}{ds:List D}{ws:List V}(e:μ.pub k=some a)(r:aG fa K μ H ds ws):RelM fa K μ (upd H a (.lst ws)) (M.set k ds):=by
 have x:Ext μ H μ (upd H a (.lst ws)):=Ext.write (vs:=ws) h e;refine{λj y q=>?_,λj u=>h.out j (by simpa using u),λj u=>h.oout j (by simpa using u),h.inj,h.oinj,h.sep,λb v=>{let{⟨vs,g⟩,_}:=h.pv b v;{vs,by rw[x.pk b v];exact g},(h.pv b v).2}}
 by_cases u:j=k
 ·subst u;have hl:j<M.length:=by have:=(Qm.mp q).1;simpa using this
  rw[Rk hl] at q;cases q;exact .inl {a,ws,e,bA,r.ext x}
 ·rw[QH (Ru u)] at q;rcases h.at' j y q with⟨b,vs,h1,h2,h3⟩|⟨b,h1,h2,h3⟩
  ·have B:b≠a:=λz=>u (h.inj j k a (z ▸ h1) e);exact .inl {b,vs,h1,by rw[ao B];exact h2,h3.ext x}
  ·obtain⟨_,_,_,hl,_⟩:=h.mu_lt e;exact .inr {b,h1,h2,h3.extW x.toExtW (ao (h3.nl hl))}
end
def ae {h:Type}(r:Res h)(k:h->Mem->Prop):Prop:=match r with
 |.ok a M=>k a M
 |_=>False
def az {j u:Type}{r:Res j}{f:j->Mem->Res u}{k:u->Mem->Prop}(h:ae (r.bind f) k):∃a M,r=.ok a M/\ae (f a M) k:=by
 cases r with
 |ok a M=>exact⟨a,M,rfl,h⟩
 |err=>exact h.elim
 |bad=>exact h.elim
def j3 {j:Type}{M:Mem}{o:Option j}{k:j->Mem->Prop}(h:ae (b9 M o) k):∃a,o=some a/\k a M:=by
 cases o with
 |none=>exact h.elim
 |some a=>exact⟨a,rfl,h⟩
def aU {j:Type}{r:Res j}{k k':j->Mem->Prop}(h:ae r k)(m:∀a M,k a M->k' a M):ae r k':=by
 cases r with
 |ok a M=>exact m a M h
 |err=>exact h
 |bad=>exact h
section
variable(fa:Fa)(K:Ql)
def aX (μ:Mu)(H:Hp)(Q:VK)(d:D)(M':Mem):Prop:=∀v H' μ',Ext μ H μ' H'->RelM fa K μ' H' M'->Rep fa K μ' H' d v->Q v H'
def tE (g:Env->Mem->Res D):TE:=λσ H Q=>∃μ Z M,bc fa K μ H σ Z/\RelM fa K μ H M/\ae (g Z M) (aX fa K μ H Q)
def tT (g:Env->Mem->Res Bool):TT:=λσ H Q=>∃μ Z M,bc fa K μ H σ Z/\RelM fa K μ H M/\ae (g Z M) λb h=>∀H' μ',Ext μ H μ' H'->RelM fa K μ' H' h->Q b H'
def tA (g:Env->Mem->Res (List D)):TA:=λσ H Q=>∃μ Z M,bc fa K μ H σ Z/\RelM fa K μ H M/\ae (g Z M) λu j=>∀h H' μ',Ext μ H μ' H'->RelM fa K μ' H' j->aG fa K μ' H' u h->Q h H'
end
def mM (New:Addr->Prop)(C:Addr)(v:Option Addr)(a:Addr)(h:Heap)(H:Hp):Prop:=New a/\H a=none/\∃o j,h.get? a=some o/\o.cls=.ref C/\o.dict=v/\o.data=.fields j/\
 (j[1]?=some .none\/∃T u ts,j[1]?=some (.ref T)/\T≠a/\New T/\H T=none/\h.get? T=some u/\u.data=.fields ts/\ts[3]?=some .none)
def oU (X:Cx)(b:Addr):Prop:=X.s₀.heap.get? b=none/\∀p∈X.pn,p.1≠b
def XW (fa:Fa)(X:Cx)(μ:Mu)(H:Hp)(x:D)(Z:Env)(M:Mem):Prop:=∀h j H' μ' u a C v c p,Inv X h j H' u->Ext μ H μ' H'->bc fa X.K μ' H' j Z->RelM fa X.K μ' H' M->x=.exc c p->fa (eU c)=some C->u6 H' c v p->mM (oU X) C v a u.heap H'->X.xe (.ref a) u
def lP (fa:Fa)(X:Cx)(μ:Mu)(H:Hp)(D:Ends):Fl->Mem->Prop
 |.next h,j=>∀u H' μ',Ext μ H μ' H'->bc fa X.K μ' H' u h->RelM fa X.K μ' H' j->D.nx u H'
 |.ret d,j=>aX fa X.K μ H D.rt d j
 |.exc x h,j=>XW fa X μ H x h j
def tF (fa:Fa)(X:Cx)(g:Env->Mem->Res Fl):TS:=λD σ H=>∃μ Z M,bc fa X.K μ H σ Z/\RelM fa X.K μ H M/\ae (g Z M) (lP fa X μ H D)
def XW.ext (h:XW fa X μ H x Z M)(y:Ext μ H μ' H'):XW fa X μ' H' x Z M:=λj v z u s1 a C B c p I e=>h j v z u s1 a C B c p I (y.trans e)
section
variable{fa:Fa}{K:Ql}{μ μ':Mu}{H H':Hp}{Q:VK}
def aX.ext (h:aX fa K μ H Q d M)(x:Ext μ H μ' H'):aX fa K μ' H' Q d M:=λv u j y m r=>h v u j (x.trans y) m r
def ju {r:Res D}(h:ae r (aX fa K μ H Q))(x:Ext μ H μ' H'):ae r (aX fa K μ' H' Q):=aU h λ_ _ w=>w.ext x
end
def bt (h:PE X e t)(i:∀σ H Q,t' σ H Q->t σ H Q):PE X e t':=λj s σ H Q I q=>h j s σ H Q I (i σ H Q q)
def jZ (h:PT X e t)(i:∀σ H Q,t' σ H Q->t σ H Q):PT X e t':=λj s σ H Q I q=>h j s σ H Q I (i σ H Q q)
def zM (h:PW X e t)(i:∀σ H Q,t' σ H Q->t σ H Q):PW X e t':=λw j s σ H Q I q=>h w j s σ H Q I (i σ H Q q)
def zV (h:PA X e t)(i:∀σ H Q,t' σ H Q->t σ H Q):PA X e t':=λu j s σ H Q I q=>h u j s σ H Q I (i σ H Q q)
def da (h:PS X e t)(i:∀D σ H,t' D σ H->t D σ H):PS X e t':=λj s σ H D I q=>h j s σ H D I (i D σ H q)
def vO (h:kB X e t)(i:∀D σ H,t' D σ H->t D σ H):kB X e t':=λj s σ H D I q=>h j s σ H D I (i D σ H q)
section
variable{fa:Fa}{K:Ql}{μ:Mu}{H:Hp}{σ:L2.St}{Z:Env}{M:Mem}
def t1 {g:Env->Mem->Res D}{B:Type}{f:D->Mem->Res B}{P:B->Mem->Prop}{R:V->Hp->Prop}(y:bc fa K μ H σ Z)(E:RelM fa K μ H M)(h:ae ((g Z M).bind f) P)
 (k:∀x M1 v u j,Ext μ H j u->bc fa K j u σ Z->RelM fa K j u M1->Rep fa K j u x v->ae (f x M1) P->R v u):tE fa K g σ H R:=by
 obtain⟨x,M1,e,q⟩:=az h;refine{μ,Z,M,y,E,?_};rw[e];exact λv u j z F r1=>k x M1 v u j z (y.ext z) F r1 q
def zg {g:Env->Mem->Res Bool}{z:Type}{f:Bool->Mem->Res z}{P:z->Mem->Prop}{R:Bool->Hp->Prop}(v:bc fa K μ H σ Z)(B:RelM fa K μ H M)(h:ae ((g Z M).bind f) P)
 (k:∀b M1 u j,Ext μ H j u->bc fa K j u σ Z->RelM fa K j u M1->ae (f b M1) P->R b u):tT fa K g σ H R:=by
 obtain⟨b,M1,e,q⟩:=az h;refine{μ,Z,M,v,B,?_};rw[e];exact λu j y E=>k b M1 u j y (v.ext y) E q
def sS {g:Env->Mem->Res (List D)}{B:Type}{f:List D->Mem->Res B}{P:B->Mem->Prop}{R:List V->Hp->Prop}(y:bc fa K μ H σ Z)(E:RelM fa K μ H M)(h:ae ((g Z M).bind f) P)
 (k:∀ds M1 vs u j,Ext μ H j u->bc fa K j u σ Z->RelM fa K j u M1->aG fa K j u ds vs->ae (f ds M1) P->R vs u):tA fa K g σ H R:=by
 obtain⟨ds,M1,e,q⟩:=az h;refine{μ,Z,M,y,E,?_};rw[e];exact λv u j z F r1=>k ds M1 v u j z (y.ext z) F r1 q
end
mutual
noncomputable def toPy:D->PyData
 |.non=>.none
 |.bl b=>.bool b
 |.int i=>.int i
 |.str x=>.str x
 |.tup h=>.tuple (cm h)
 |.lst h=>.list (cm h)
 |.frz _=>.none
 |.cell _=>.none
 |.fn _=>.none
 |.exc _ _=>.none
noncomputable def cm:List D->List PyData
 |[]=>[]
 |d::r=>toPy d::cm r
end
def qc:∀(n:Nat) (d:D),aw n d=true->(toPy d).canLay0=true/\(toPy d).depth<=n:=by
 have all:∀(n:Nat),(∀d,aw n d=true->(toPy d).canLay0=true/\(toPy d).depth<=n)->∀j:List D,j.all (aw n)=true->PyData.canLayAll0 (cm j)=true/\PyData.depthAll (cm j)<=n:=by
  intro n h j;induction j with
  |nil=>intro _;simp[cm,PyData.canLayAll0,PyData.depthAll]
  | cons d r u =>
    intro q;simp only[RJ,Qs] at q;obtain⟨h1,h2⟩:=h d q.1;obtain⟨h3,h4⟩:=u q.2;simp only[cm,PyData.canLayAll0,PyData.depthAll,h1,h3,Bool.and_self,true_and];omega
 intro n;induction n with
 | zero =>
   intro d h;cases d with
   |str x=>exact{by simpa[toPy,PyData.canLay0,PyData.strOk,aw] using h,by simp[toPy,PyData.depth]}
   |tup _=>simp[aw] at h
   |lst _=>simp[aw] at h
   |frz _=>simp[aw] at h
   |cell _=>simp[aw] at h
   |fn _=>simp[aw] at h
   |exc y p=>simp[aw] at h
   |_=>exact{by simp[toPy,PyData.canLay0],by simp[toPy,PyData.depth]}
 | succ n u =>
   intro d h;cases d with
   |str x=>exact{by simpa[toPy,PyData.canLay0,PyData.strOk,aw] using h,by simp[toPy,PyData.depth]}
   | tup j =>
     obtain⟨h1,h2⟩:=all n u j (by simpa[aw] using h)
     simp only[toPy,PyData.canLay0,PyData.depth,h1,true_and];omega
   | lst j =>
     obtain⟨h1,h2⟩:=all n u j (by simpa[aw] using h)
     simp only[toPy,PyData.canLay0,PyData.depth,h1,true_and];omega
   |frz _=>simp[aw] at h
   |cell _=>simp[aw] at h
   |fn _=>simp[aw] at h
   |exc y p=>simp[aw] at h
   |_=>exact{by simp[toPy,PyData.canLay0],by simp[toPy,PyData.depth]}
def jt (h:aw 64 d=true):SeqAt.shaped (toPy d)=true:=by
 obtain⟨h1,h2⟩:=qc 64 d h;simp[SeqAt.shaped,h1,h2]
mutual
def nz:∀(n m:Nat) (a b:D),aw n a=true->aw m b=true->PyData.eqv (toPy a) (toPy b)=bG a b
 | n, m, .tup a, .tup b, h, j => by
   cases n with
   |zero=>simp[aw] at h
   | succ n =>
     cases m with
     |zero=>simp[aw] at j
     | succ m =>
       exact oK n m a b (by simpa[aw] using h) (by simpa[aw] using j)
 | n, m, .lst a, .lst b, h, j => by
   cases n with
   |zero=>simp[aw] at h
   | succ n =>
     cases m with
     |zero=>simp[aw] at j
     | succ m =>
       exact oK n m a b (by simpa[aw] using h) (by simpa[aw] using j)
 |n,m,.frz _,_,h,j=>by cases n<;>simp[aw] at h
 |n,m,.cell _,_,h,j=>by cases n<;>simp[aw] at h
 |n,m,.fn _,_,h,j=>by cases n<;>simp[aw] at h
 |n,m,.exc _ _,_,h,j=>by cases n<;>simp[aw] at h
 |n,m,_,.frz _,h,j=>by cases m<;>simp[aw] at j
 |n,m,_,.cell _,h,j=>by cases m<;>simp[aw] at j
 |n,m,_,.fn _,h,j=>by cases m<;>simp[aw] at j
 |n,m,_,.exc _ _,h,j=>by cases m<;>simp[aw] at j
 |_,_,.non,.non,_,_=>by first|rfl|simp[toPy,PyData.eqv];rfl
 |_,_,.non,.bl _,_,_=>by first|rfl|simp[toPy,PyData.eqv];rfl
 |_,_,.non,.int _,_,_=>by first|rfl|simp[toPy,PyData.eqv];rfl
 |_,_,.non,.str _,_,_=>by first|rfl|simp[toPy,PyData.eqv];rfl
 |_,_,.non,.tup _,_,_=>by first|rfl|simp[toPy,PyData.eqv];rfl
 |_,_,.non,.lst _,_,_=>by first|rfl|simp[toPy,PyData.eqv];rfl
 |_,_,.bl _,.non,_,_=>by first|rfl|simp[toPy,PyData.eqv];rfl
 |_,_,.bl _,.bl _,_,_=>by first|rfl|simp[toPy,PyData.eqv];rfl
 |_,_,.bl _,.int _,_,_=>by first|rfl|simp[toPy,PyData.eqv];rfl
 |_,_,.bl _,.str _,_,_=>by first|rfl|simp[toPy,PyData.eqv];rfl
 |_,_,.bl _,.tup _,_,_=>by first|rfl|simp[toPy,PyData.eqv];rfl
 |_,_,.bl _,.lst _,_,_=>by first|rfl|simp[toPy,PyData.eqv];rfl
 |_,_,.int _,.non,_,_=>by first|rfl|simp[toPy,PyData.eqv];rfl
 |_,_,.int _,.bl _,_,_=>by first|rfl|simp[toPy,PyData.eqv];rfl
 |_,_,.int _,.int _,_,_=>by first|rfl|simp[toPy,PyData.eqv];rfl
 |_,_,.int _,.str _,_,_=>by first|rfl|simp[toPy,PyData.eqv];rfl
 |_,_,.int _,.tup _,_,_=>by first|rfl|simp[toPy,PyData.eqv];rfl
 |_,_,.int _,.lst _,_,_=>by first|rfl|simp[toPy,PyData.eqv];rfl
 |_,_,.str _,.non,_,_=>by first|rfl|simp[toPy,PyData.eqv];rfl
 |_,_,.str _,.bl _,_,_=>by first|rfl|simp[toPy,PyData.eqv];rfl
 |_,_,.str _,.int _,_,_=>by first|rfl|simp[toPy,PyData.eqv];rfl
 |_,_,.str _,.str _,_,_=>by first|rfl|simp[toPy,PyData.eqv];rfl
 |_,_,.str _,.tup _,_,_=>by first|rfl|simp[toPy,PyData.eqv];rfl
 |_,_,.str _,.lst _,_,_=>by first|rfl|simp[toPy,PyData.eqv];rfl
 |_,_,.tup _,.non,_,_=>by first|rfl|simp[toPy,PyData.eqv];rfl
 |_,_,.tup _,.bl _,_,_=>by first|rfl|simp[toPy,PyData.eqv];rfl
 |_,_,.tup _,.int _,_,_=>by first|rfl|simp[toPy,PyData.eqv];rfl
 |_,_,.tup _,.str _,_,_=>by first|rfl|simp[toPy,PyData.eqv];rfl
 |_,_,.tup _,.lst _,_,_=>by first|rfl|simp[toPy,PyData.eqv];rfl
 |_,_,.lst _,.non,_,_=>by first|rfl|simp[toPy,PyData.eqv];rfl
 |_,_,.lst _,.bl _,_,_=>by first|rfl|simp[toPy,PyData.eqv];rfl
 |_,_,.lst _,.int _,_,_=>by first|rfl|simp[toPy,PyData.eqv];rfl
 |_,_,.lst _,.str _,_,_=>by first|rfl|simp[toPy,PyData.eqv];rfl
 |_,_,.lst _,.tup _,_,_=>by first|rfl|simp[toPy,PyData.eqv];rfl
def oK:∀(n m:Nat) (a b:List D),a.all (aw n)=true->b.all (aw m)=true->PyData.eqvAll (cm a) (cm b)=dM a b
 |n,m,[],[],_,_=>by simp[cm,PyData.eqvAll,dM]
 |n,m,[],_::_,_,_=>by simp[cm,PyData.eqvAll,dM]
 |n,m,_::_,[],_,_=>by simp[cm,PyData.eqvAll,dM]
 | n, m, x :: a, y :: b, h, j => by
   simp only[RJ,Qs] at h j;simp only[cm,PyData.eqvAll,dM];rw[nz n m x y h.1 j.1,oK n m a b h.2 j.2]
end
section
variable{fa:Fa}{X:Cx}{μ:Mu}{H:Hp}{σ:L2.St}{pins:List (Addr×Obj)}{s:Qr}{M:Mem}
def i5 (j:RelM fa X.K μ H M)(h:Rep fa X.K μ H d v)(e:ja M d=some ds):∃a vs,v=.ref a/\H a=some (.lst vs)/\aG fa X.K μ H ds vs:=by
 cases d with
 | lst xs =>
   cases e;obtain⟨a,vs,e,s,r⟩:=h;exact⟨a,vs,e,s.1,r⟩
 | cell k =>
   obtain⟨a,rfl,u⟩:=h;obtain⟨vs,h2,h3⟩:=j.at_ e u;exact⟨a,vs,rfl,h2,h3⟩
 |_=>cases e
def bu (j:RelM fa X.K μ H M)(h:Rep fa X.K μ H d v)(e:ef M d=some ds):∃a vs,v=.ref a/\cP X.K H a vs/\aG fa X.K μ H ds vs:=by
 cases d with
 | lst xs =>
   obtain⟨a,vs,h1,h2,h3⟩:=i5 j h e;exact{a,vs,h1,.of h2,h3}
 | frz xs =>
   cases e;obtain⟨a,vs,e,s,r⟩:=h;exact{a,vs,e,s.elim (λz=>.inl (.inr z)) .inr,r}
 | cell k =>
   obtain⟨a,vs,h1,h2,h3⟩:=i5 j h e;exact{a,vs,h1,.of h2,h3}
 |_=>cases e
def i4 (j:RelM fa X.K μ H M)(h:Rep fa X.K μ H d v)(e:cv M d=some ds):∃a vs,v=.ref a/\(cP X.K H a vs\/dw X.K H a vs)/\aG fa X.K μ H ds vs:=by
 cases d with
 | tup xs =>
   cases e;obtain⟨a,vs,rfl,h1,h2⟩:=h;exact{a,vs,rfl,.inr h1,h2}
 | lst xs =>
   obtain⟨a,vs,h1,h2,h3⟩:=bu j h e;exact{a,vs,h1,.inl h2,h3}
 | frz xs =>
   obtain⟨a,vs,h1,h2,h3⟩:=bu j h e;exact{a,vs,h1,.inl h2,h3}
 | cell k =>
   obtain⟨a,vs,h1,h2,h3⟩:=bu j h e;exact{a,vs,h1,.inl h2,h3}
 |_=>cases e
mutual
def dX (I:Inv X pins σ H s):∀(d:D) (n:Nat) (v:V) (u:Qo),aw n d=true->Rep fa X.K μ H d v->RelV v u->∃z,Reads s.heap u (toPy d) z
 | .non, n, v, u, _, h, r => by
   obtain rfl:v=.non:=h;obtain rfl:u=Value.none:=r;exact{_,.none}
 | .bl b, n, v, u, _, h, r => by
   obtain rfl:v=.bl b:=h;obtain rfl:u=Value.bool b:=r;exact{_,.bool b}
 | .int i, n, v, u, _, h, r => by
   obtain rfl:v=.int i:=h;obtain⟨t,rfl⟩:=r;exact{_,.int i t}
 | .str x, n, v, u, _, h, r => by
   obtain rfl:v=.str x:=h;obtain⟨t,rfl⟩:=r;exact{_,.str x t}
 | .tup B, n, v, u, j, h, r => by
   cases n with
   |zero=>simp[aw] at j
   | succ n =>
     obtain⟨a,J,rfl,h1,h2⟩:=h;obtain rfl:u=Value.ref a:=r;obtain⟨y,F,⟨o,e1,e2,k,E⟩,_⟩:=I.tuple h1;obtain⟨z,q⟩:=fq I B n J y (by simpa[aw] using j) h2 F
     exact{_,.tuple e1 e2 E (by simpa using q)}
 | .lst B, n, v, u, j, h, r => by
   cases n with
   |zero=>simp[aw] at j
   | succ n =>
     obtain⟨a,J,rfl,h1,h2⟩:=h;obtain rfl:u=Value.ref a:=r;obtain⟨y,F,⟨o,k,e1,e2,L,E⟩,_⟩:=I.list (cP.of h1.1);obtain⟨z,q⟩:=fq I B n J y (by simpa[aw] using j) h2 F
     exact{_,.list e1 e2 E (by simpa using q)}
 |.frz k,n,v,u,j,_,_=>by cases n<;>simp[aw] at j
 |.cell k,n,v,u,j,_,_=>by cases n<;>simp[aw] at j
 |.fn f,n,v,u,j,_,_=>by cases n<;>simp[aw] at j
 |.exc _ _,n,v,u,j,_,_=>by cases n<;>simp[aw] at j
def fq (I:Inv X pins σ H s):∀(ds:List D) (n:Nat) (vs:List V) (us:List Qo),ds.all (aw n)=true->aG fa X.K μ H ds vs->Vals vs us->∃u,ReadsAll s.heap us (cm ds) u
 | [], n, vs, us, _, h, r => by
   obtain rfl:vs=[]:=h;cases r;exact{_,.nil}
 | d :: ds, n, vs, us, j, h, r => by
   obtain⟨v,vr,rfl,h1,h2⟩:=h;simp only[RJ,Qs] at j;cases r with
   | cons r1 r2 =>
     obtain⟨u,y⟩:=dX I d n v _ j.1 h1 r1;obtain⟨bs,z⟩:=fq I ds n vr _ j.2 h2 r2;exact{_,.cons y z}
end
def FD (h:aw n (view M d)=true):(view M d=d/\aw n d=true)\/∃ds,ef M d=some ds/\view M d=.lst ds:=by
 cases d with
 | cell k =>
   cases e:M[k]? with
   | none =>
     have j:view M (.cell k)=.cell k:=by simp[view,e]
     rw[j] at h;cases n<;>simp[aw] at h
   |some ds=>exact .inr {ds,e,by simp[view,e]}
 |frz ds=>exact .inr ⟨ds,rfl,rfl⟩
 |_=>exact .inl ⟨rfl,h⟩
def kF (I:Inv X pins σ H s)(L:RelM fa X.K μ H M)(j:aw 64 (view M d)=true)(h:Rep fa X.K μ H d v)(r:RelV v u):∃B,Reads s.heap u (toPy (view M d)) B:=by
 rcases FD j with⟨e,y⟩|⟨E,e,J⟩
 ·rw[e];exact dX I _ 64 v u y h r
 ·rw[J] at j ⊢;obtain⟨a,P,rfl,h1,h2⟩:=bu L h e;obtain rfl:u=Value.ref a:=r;obtain⟨z,O,⟨o,k,e1,e2,Q,F⟩,_⟩:=I.list h1;obtain⟨B,q⟩:=fq I E 63 P z (by simpa[aw] using j) h2 O
  exact{_,.list e1 e2 F (by simpa using q)}
def jN (I:Inv X pins σ H s)(J:RelM fa X.K μ H M):∀(n m:Nat) (d:D) (v:V) (u:Qo),aw m (cY n M d)=true->Rep fa X.K μ H d v->RelV v u->∃E,Reads s.heap u (toPy (cY n M d)) E
 |0,m,d,v,u,j,h,r=>dX I d m v u j h r
 | n + 1, m, d, v, u, j, h, r => by
   have S:=jN I J n;have all:∀(m:Nat) (z:List D) (B:List V) (L:List Qo),(z.map (cY n M)).all (aw m)=true->aG fa X.K μ H z B->Vals B L->∃E,ReadsAll s.heap L (cm (z.map (cY n M))) E:=by
    intro m z;induction z with
    | nil =>
      intro B L _ h r;obtain rfl:B=[]:=h;cases r;exact{_,.nil}
    | cons d z Q =>
      intro B L j h r;obtain⟨v,vr,rfl,h1,h2⟩:=h;simp only[RI,RJ,Qs] at j;cases r with
      | cons r1 r2 =>
        obtain⟨E,U⟩:=S m d v _ j.1 h1 r1;obtain⟨bs,W⟩:=Q vr _ j.2 h2 r2;exact{_,.cons U W}
   have lst:∀(z:List D) (a:Addr) (B:List V),aw m (.lst (z.map (cY n M)))=true->cP X.K H a B->aG fa X.K μ H z B->u=.ref a->∃E,Reads s.heap u (toPy (.lst (z.map (cY n M)))) E:=by
    intro z a B j h1 h2 e;subst e;cases m with
    |zero=>simp[aw] at j
    | succ m =>
      obtain⟨F,R,⟨o,k,e1,e2,Y,O⟩,_⟩:=I.list h1;obtain⟨E,q⟩:=all m z B F (by simpa[aw] using j) h2 R
      exact{_,.list e1 e2 O (by simpa using q)}
   cases d with
   | cell k =>
     cases e:M[k]? with
     | none =>
       have P:cY (n+1) M (.cell k)=.cell k:=by simp[cY,e]
       rw[P] at j;cases m<;>simp[aw] at j
     | some z =>
       have P:cY (n+1) M (.cell k)=.lst (z.map (cY n M)):=by simp[cY,e]
       rw[P] at j ⊢;obtain⟨a,B,rfl,h1,h2⟩:=bu J h e;exact lst z a B j h1 h2 r
   | frz z =>
     obtain⟨a,B,rfl,h1,h2⟩:=bu J h rfl;exact lst z a B j h1 h2 r
   | lst z =>
     obtain⟨a,B,rfl,h1,h2⟩:=bu J h rfl;exact lst z a B j h1 h2 r
   | tup z =>
     have j:aw m (.tup (z.map (cY n M)))=true:=j;cases m with
     |zero=>simp[aw] at j
     | succ m =>
       obtain⟨a,B,rfl,h1,h2⟩:=h;obtain rfl:u=Value.ref a:=r;obtain⟨F,R,⟨o,e1,e2,k,O⟩,_⟩:=I.tuple h1;obtain⟨E,q⟩:=all m z B F (by simpa[aw] using j) h2 R
       exact{_,.tuple e1 e2 O (by simpa using q)}
   |non=>exact dX I .non m v u j h r
   |bl b=>exact dX I (.bl b) m v u j h r
   |int i=>exact dX I (.int i) m v u j h r
   |str x=>exact dX I (.str x) m v u j h r
   |fn f=>exact dX I (.fn f) m v u j h r
   |exc y p=>exact dX I (.exc y p) m v u j h r
abbrev Rm (X:Cx):Prop:=X.A.units+100<cLine
def gz (fa:Fa)(K:Ql)(o:jn):R2:=λx y H Q=>∃μ M h j b,RelM fa K μ H M/\Rep fa K μ H h x/\Rep fa K μ H j y/\bB o h j M=some b/\Q (.bl b) H
set_option tactic.hygienic true in
def uE (hs:(gP a&&gP b)=false)(h:kr a b=some k):aw 64 a=true/\aw 64 b=true/\k=bG a b:=by
 unfold kr at h;rw[hs,Bool.false_or] at h;split at h
 ·next q=>
  simp only[Qs] at q;exact{q.1,q.2,(Qw h).symm}
 ·cases h
def ui (d:D):gP (view M d)=gP d:=by
 cases d with
 |cell k=>cases e:M[k]?<;>simp[view,e,gP]
 |_=>rfl
def rA (n:Nat)(d:D):gP (cY n M d)=gP d:=by
 cases n with
 |zero=>rfl
 | succ n =>
   cases d with
   |cell k=>cases e:M[k]?<;>simp[cY,e,gP]
   |_=>rfl
def rG (I:Inv X pins σ H s)(z:RelM fa X.K μ H M)(hs:(gP a&&gP b)=false)(h:my M a b=some k)(h1:Rep fa X.K μ H a x)(h2:Rep fa X.K μ H b y)(B:RelV x v)(E:RelV y u) :
 ∃c e j bs,aw 64 c=true/\aw 64 e=true/\k=bG c e/\Reads s.heap v (toPy c) j/\Reads s.heap u (toPy e) bs:=by
 unfold my at h;cases q:kr (view M a) (view M b) with
 | some r =>
   rw[q] at h;cases h;obtain⟨p1,p2,e⟩:=uE (by rw[ui,ui];exact hs) q
   obtain⟨j,r1⟩:=kF I z p1 h1 B;obtain⟨bs,r2⟩:=kF I z p2 h2 E;exact{_,_,j,bs,p1,p2,e,r1,r2}
 | none =>
   rw[q] at h;obtain⟨p1,p2,e⟩:=uE (by rw[rA,rA];exact hs) h
   obtain⟨j,r1⟩:=jN I z 64 64 a x v p1 h1 B;obtain⟨bs,r2⟩:=jN I z 64 64 b y u p2 h2 E;exact{_,_,j,bs,p1,p2,e,r1,r2}
def sT (h:(gP a&&gP b)=true):∃x y,a=.str x/\b=.str y:=by
 cases a with
 | str x =>
   cases b with
   |str y=>exact⟨x,y,rfl,rfl⟩
   |_=>cases h
 |_=>cases h
def wu:my M (.str x) (.str y)=some (x==y):=by
 have e:bG (.str x) (.str y)=(x==y):=rfl;rw[<- e];rfl
def PR (L:Rm X):bF X (compareOp .Eq) (gz fa X.K .eq):=by
 intro pins s σ H x y v u Q I z B h;obtain⟨μ,M,E,F,b,J,h1,h2,e,q⟩:=h;cases hs:gP E&&gP F with
 | true =>
   obtain⟨i,j,rfl,rfl⟩:=sT hs;obtain rfl:x=.str i:=h1;obtain rfl:y=.str j:=h2;obtain rfl:(i==j)=b:=Qw (wu.symm.trans e);exact MP pins s σ H _ _ v u Q I z B {rfl,by rw[nB];exact q}
 | false =>
   obtain⟨_,_,O,bs,p1,p2,rfl,r1,r2⟩:=rG I J hs (e) h1 h2 z B;refine SeqAt.compareEq_shaped r1 r2 (jt p1) (jt p2) (by unfold Rm at L;omega) ?_
   rw[nz 64 64 _ _ p1 p2];exact{.bl _,H,I,rfl,q}
def PJ (O:Rm X):bF X (compareOp .NotEq) (gz fa X.K .ne):=by
 intro pins s σ H x y v u Q I F J h;obtain⟨μ,M,B,E,b,L,h1,h2,e,q⟩:=h;have e:(my M B E).map (!·)=some b:=e;cases z:my M B E with
 |none=>rw[z] at e;cases e
 | some k =>
   rw[z] at e;obtain rfl:(!k)=b:=Qw e;cases hs:gP B&&gP E with
   | true =>
     obtain⟨i,j,rfl,rfl⟩:=sT hs;obtain rfl:x=.str i:=h1;obtain rfl:y=.str j:=h2;obtain rfl:(i==j)=k:=Qw (wu.symm.trans z);exact MJ pins s σ H _ _ v u Q I F J {rfl,by rw[nB];exact q}
   | false =>
     obtain⟨_,_,P,bs,p1,p2,rfl,r1,r2⟩:=rG I L hs z h1 h2 F J;refine SeqAt.compareNe_shaped r1 r2 (jt p1) (jt p2) (by unfold Rm at O;omega) ?_
     rw[nz 64 64 _ _ p1 p2];exact{.bl _,H,I,rfl,q}
end
section
variable{fa:Fa}{X:Cx}{μ:Mu}{H:Hp}{σ:L2.St}{pins:List (Addr×Obj)}{s:Qr}{M:Mem}
def ic (h:bF X f r)(i:∀x y H Q,r' x y H Q->r x y H Q):bF X f r':=λpins s σ H x y v u Q I j z q=>h pins s σ H x y v u Q I j z (i x y H Q q)
def jf (h:b8 X f r)(i:∀xs H Q,r' xs H Q->r xs H Q):b8 X f r':=λpins s σ H xs u Q I j q=>h pins s σ H xs u Q I j (i xs H Q q)
def nE {g:Int->Int->Bool}(ho:o=.lt\/o=.le\/o=.gt\/o=.ge)(F:∀i j,bB o (.int i) (.int j) []=some (g i j))(h:gz fa X.K o x y H Q) :
 ∃i j,x=.int i/\y=.int j/\Q (.bl (g i j)) H:=by
 obtain⟨μ,M,v,z,b,I,h1,h2,e,q⟩:=h;have u:∀i j,v=.int i->z=.int j->∃i j,x=.int i/\y=.int j/\Q (.bl (g i j)) H:=λi j e1 e2=>by
  subst e1 e2;have B:bB o (.int i) (.int j) M=some (g i j):=by
   have:=F i j;rcases ho with rfl|rfl|rfl|rfl<;>exact this
  rw[e] at B;have E:=Qw B;subst E;exact⟨i,j,h1,h2,q⟩
 rcases ho with rfl|rfl|rfl|rfl<;>
 ·cases v with
  |int i=>cases z<;>first|exact u _ _ rfl rfl|cases e
  |_=>cases e
def PK:bF X (compareOp .Lt) (gz fa X.K .lt):=ic MK λx y H Q h=>nE (.inl rfl) (λ_ _=>rfl) h
def PL:bF X (compareOp .LtE) (gz fa X.K .le):=ic MM λx y H Q h=>nE (.inr (.inl rfl)) (λ_ _=>rfl) h
def PN:bF X (compareOp .Gt) (gz fa X.K .gt):=ic MN λx y H Q h=>nE (.inr (.inr (.inl rfl))) (λ_ _=>rfl) h
def PQ:bF X (compareOp .GtE) (gz fa X.K .ge):=ic MO λx y H Q h=>nE (.inr (.inr (.inr rfl))) (λ_ _=>rfl) h
def vK {K:Ql}(h:Rep fa K μ H d v):decide (v=.non)=eK d:=by
 cases d with
 |non=>obtain rfl:v=.non:=h;rfl
 |bl b=>obtain rfl:v=.bl b:=h;rfl
 |int b=>obtain rfl:v=.int b:=h;rfl
 |str b=>obtain rfl:v=.str b:=h;rfl
 |tup b=>obtain⟨a,j,rfl,_⟩:=h;rfl
 |lst b=>obtain⟨a,j,rfl,_⟩:=h;rfl
 |frz b=>obtain⟨a,j,rfl,_⟩:=h;rfl
 |cell b=>obtain⟨a,rfl,_⟩:=h;rfl
 |fn b=>obtain⟨a,rfl,_⟩:=h;rfl
 |exc y p=>obtain⟨a,_,_,rfl,_⟩:=h;rfl
def NM:bF X (compareOp .Is) (gz fa X.K .isN):=ic J0 λx y H Q h=>by
 obtain⟨μ,M,u,j,b,v,h1,h2,e,q⟩:=h;cases j<;>first|cases (show(none:Option Bool)=some b from e)|skip
 refine{h2,?_};rw[vK h1];rw[Qw e];exact q
def LR:bF X (compareOp .IsNot) (gz fa X.K .notN):=ic GX λx y H Q h=>by
 obtain⟨μ,M,u,j,b,v,h1,h2,e,q⟩:=h;cases j<;>first|cases (show(none:Option Bool)=some b from e)|skip
 refine{h2,?_};rw[vK h1];rw[Qw e];exact q
def u3 (x:D)(j:aw 64 x=true):∀(ds:List D),ds.all (aw 63)=true->((cm ds).any λy=>PyData.eqv y (toPy x))=ds.any λy=>bG y x
 |[],_=>rfl
 | d :: r, h => by
   simp only[RJ,Qs] at h;simp only[cm,List.any_cons,nz 63 64 d x h.1 j,u3 x j r h.2]
def sO (n:Nat):∀ds:List D,ds.all (aw n)=true->PyData.canLayAll0 (cm ds)=true/\PyData.depthAll (cm ds)<=n
 |[],_=>by simp[cm,PyData.canLayAll0,PyData.depthAll]
 | d :: r, h => by
   simp only[RJ,Qs] at h;obtain⟨h1,h2⟩:=qc n d h.1;obtain⟨h3,h4⟩:=sO n r h.2;simp only[cm,PyData.canLayAll0,PyData.depthAll,h1,h3,Bool.and_self,true_and];omega
def zC (I:Inv X pins σ H s)(J:RelM fa X.K μ H M)(E:ds.all (aw 63)=true)(h:Rep fa X.K μ H d v)(r:RelV v u)(e:cv M d=some ds) :
 (∃y,Reads s.heap u (.list (cm ds)) y)\/∃y,Reads s.heap u (.tuple (cm ds)) y:=by
 obtain⟨a,F,rfl,h1,h2⟩:=i4 J h e;obtain rfl:u=Value.ref a:=r;rcases h1 with h1|h1
 ·obtain⟨j,B,⟨o,k,e1,e2,L,z⟩,_⟩:=I.list h1;obtain⟨y,q⟩:=fq I ds 63 F j E h2 B;exact .inl {_,.list e1 e2 z (by simpa using q)}
 ·obtain⟨j,B,⟨o,e1,e2,k,z⟩,_⟩:=I.tuple h1;obtain⟨y,q⟩:=fq I ds 63 F j E h2 B;exact .inr {_,.tuple e1 e2 z (by simpa using q)}
set_option tactic.hygienic true in
def AI (L:Rm X)(I:Inv X pins σ H s)(F:RelM fa X.K μ H M)(h1:Rep fa X.K μ H dx x)(h2:Rep fa X.K μ H dy y)(O:RelV x v)(P:RelV y u)
 (e1:cv M dy=some ds) (e2:uo (view M dx) ds=some b) (j:Bool) (q:Q (.bool (if j then !b else b)) s):wpAny (model X.prog X.w) X.A (compareOp (if j then .NotIn else .In) v u) Q X.xe s:=by
 unfold uo at e2;split at e2
 ·next z=>
  simp only[Qs] at z;obtain⟨p1,p2⟩:=z;have J:=Qw e2;subst J;obtain⟨R,r1⟩:=kF I F p1 h1 O;obtain⟨B,d1⟩:=qc 64 _ p1;obtain⟨E,S⟩:=sO 63 ds p2;have h:X.A.units+1+min (PyData.depthAll (cm ds)) (toPy (view M dx)).depth<cLine:=by unfold Rm at L;omega
  rw[<- u3 _ p1 ds p2] at q;rcases zC I F p2 h2 P e1 with⟨bs,r2⟩|⟨bs,r2⟩
  ·cases j
   ·exact SeqAt.in_list_reads r2 r1 E B h q
   ·exact SeqAt.notIn_list_reads r2 r1 E B h q
  ·cases j
   ·exact SeqAt.in_tuple_reads r2 r1 E B h q
   ·exact SeqAt.notIn_tuple_reads r2 r1 E B h q
 ·cases e2
def PM (L:Rm X):bF X (compareOp .In) (gz fa X.K .isin):=by
 intro pins s σ H x y v u Q I B E h;obtain⟨μ,M,z,j,b,J,h1,h2,e,q⟩:=h;have gen:(cv M j).bind (uo (view M z))=some b->wpAny (model X.prog X.w) X.A (compareOp .In v u) (EP X pins σ Q) X.xe s:=λe=>by
  cases e1:cv M j with
  |none=>rw[e1] at e;cases e
  | some O =>
    rw[e1] at e;exact AI L I J h1 h2 B E e1 e false {.bl b,H,I,rfl,q}
 by_cases hs:(∃a,z=.str a)/\∃c,j=.str c
 ·obtain⟨⟨a,rfl⟩,c,rfl⟩:=hs;have F:=Qw e;subst F;exact zW pins s σ H x y v u Q I B E ⟨a,c,h1,h2,q⟩
 ·refine gen ?_;cases z<;>first|exact e|(cases j<;>first|exact e|exact absurd {{_,rfl},_,rfl} hs)
def HV (O:Rm X):bF X (compareOp .NotIn) (gz fa X.K .notin):=by
 intro pins s σ H x y v u Q I E F h;obtain⟨μ,M,j,z,b,L,h1,h2,e,q⟩:=h;have gen:((cv M z).bind (uo (view M j))).map (!·)=some b->wpAny (model X.prog X.w) X.A (compareOp .NotIn v u) (EP X pins σ Q) X.xe s:=λe=>by
  cases e1:cv M z with
  |none=>rw[e1] at e;cases e
  | some J =>
    rw[e1] at e;cases e2:uo (view M j) J with
    |none=>rw[Option.bind_some,e2] at e;cases e
    | some k =>
      rw[Option.bind_some,e2] at e;have B:=Qw e;subst B;exact AI O I L h1 h2 E F e1 e2 true {.bl _,H,I,rfl,q}
 by_cases hs:(∃a,j=.str a)/\∃c,z=.str c
 ·obtain⟨⟨a,rfl⟩,c,rfl⟩:=hs;have B:=Qw e;subst B;exact tP pins s σ H x y v u Q I E F ⟨a,c,h1,h2,q⟩
 ·refine gen ?_;cases j<;>first|exact e|(cases z<;>first|exact e|exact absurd {{_,rfl},_,rfl} hs)
noncomputable def d7:jn->CmpOp
 |.eq=>.Eq|.ne=>.NotEq|.lt=>.Lt|.le=>.LtE|.gt=>.Gt|.ge=>.GtE|.isN=>.Is|.notN=>.IsNot|.isin=>.In|.notin=>.NotIn
def nF (h:Rm X):∀o:jn,bF X (compareOp (d7 o)) (gz fa X.K o)
 |.eq=>PR h|.ne=>PJ h|.lt=>PK|.le=>PL|.gt=>PN|.ge=>PQ|.isN=>NM|.notN=>LR|.isin=>PM h|.notin=>HV h
def lX (fa:Fa)(K:Ql)(m:Bool)(o:n5):R2:=λx y H Q=>∃μ M h j,RelM fa K μ H M/\Rep fa K μ H h x/\Rep fa K μ H j y/\ae (fE m o h j M) (aX fa K μ H Q)
def aM (j:RelM fa X.K μ H M)(h:aX fa X.K μ H Q d M)(r:Rep fa X.K μ H d v):Q v H:=h v H μ .refl j r
set_option tactic.hygienic true in
def fV (j:RelM fa X.K μ H M)(r:aG fa X.K μ H ds vs)(h:ae (ba m ds M) (aX fa X.K μ H Q)):ds.length<=sz/\∀p,H p=none->Q (.ref p) (upd H p (.lst vs)):=by
 unfold ba at h;split at h
 ·next v=>
  refine{v,λp u=>?_};cases m with
  | true =>
    exact h (.ref p) _ (ft μ M.length p) (Ext.cell j u) (j.cell u r) {p,rfl,by simp[ft]}
  | false =>
    exact h (.ref p) _ μ (Ext.alloc j u) (j.alloc u) {p,vs,rfl,{bA,j.fresh u},r.ext (Ext.alloc j u)}
 ·exact h.elim
def iZ (j:RelM fa X.K μ H M)(r:aG fa X.K μ H ds vs)(h:aX fa X.K μ H Q (.tup ds) M):∀p,H p=none->Q (.ref p) (upd H p (.tup vs)):=λp u=>
 h (.ref p) _ μ (Ext.alloc j u) (j.alloc u) {p,vs,rfl,.of bA,r.ext (Ext.alloc j u)}
def cQ:sz=sizeLine:=by rw[sizeLine_eq];rfl
def Cy:bF X (binaryOp .Add) (λx y H Q=>∃a b ys,x=.ref a/\y=.ref b/\dw X.K H a []/\dw X.K H b ys/\Q (.ref b) H):=by
 intro pins s σ H x y v u Q I rx ry h;obtain⟨a,b,ys,rfl,rfl,U,W,q⟩:=h;cases rx;cases ry;obtain⟨its,r1,p1,_⟩:=I.tuple U;obtain⟨z,r2,p2,_⟩:=I.tuple W;cases r1;obtain⟨⟨cls,S,R,sl⟩,ho,Y,n,hd⟩:=id p1;obtain⟨⟨P,E,B,O⟩,j,J,n2,L⟩:=id p2;subst Y hd J L;exact concat_meets {_,ho,rfl} {_,j,rfl} noFill_tuple_add seq_tuple_add PySem.F.slot_tuple_add PySem.F.entry_tuple_add (PySem.F.args_tuple_add_2 _ _)
  (tuple_addW0 a b #[] z.toArray n n2 S E sl O rfl) {ho,j,{.ref b,H,I,rfl,q}}
def Dr (I:Inv X pins σ H s)(j:RelM fa X.K μ H M)(h1:Rep fa X.K μ H dx x)(h2:Rep fa X.K μ H dy y)(L:RelV x v)(O:RelV y u)
 (h:ae (match ja M dx,ja M dy with|some x,some y=>ba m (x++y) M|_,_=>.bad) (aX fa X.K μ H Q)):wpAny (model X.prog X.w) X.A (binaryOp .Add v u) (EP X pins σ Q) X.xe s:=by
 cases e1:ja M dx with
 |none=>rw[e1] at h;exact h.elim
 | some xs =>
   cases e2:ja M dy with
   |none=>rw[e1,e2] at h;exact h.elim
   | some S =>
     rw[e1,e2] at h;obtain⟨a,P,rfl,E,z⟩:=i5 j h1 e1;obtain⟨b,R,rfl,F,B⟩:=i5 j h2 e2;obtain⟨J,k⟩:=fV j (z.append B) h;refine J2 pins s σ H _ _ v u Q I L O {a,b,P,R,rfl,rfl,E,F,?_,k};rw[z.length,B.length,<- Rp,<- cQ];exact J
set_option tactic.hygienic true in
def NV (m:Bool):bF X (binaryOp .Add) (lX fa X.K m .add):=by
 intro pins s σ H x y v u Q I F J h;obtain⟨μ,M,L,O,B,h1,h2,h⟩:=h;have hi:∀i j,L=.int i->O=.int j->wpAny (model X.prog X.w) X.A (binaryOp .Add v u) (EP X pins σ Q) X.xe s:=λi j e1 e2=>by
  subst e1 e2;exact J3 pins s σ H x y v u Q I F J {i,j,h1,h2,aM B h rfl}
 have hs:∀i j,L=.str i->O=.str j->wpAny (model X.prog X.w) X.A (binaryOp .Add v u) (EP X pins σ Q) X.xe s:=λi j e1 e2=>by
  subst e1 e2;have h:ae (if i.cps.size+j.cps.size<=sz then .ok (.str {i.cps++j.cps}) M else .bad) (aX fa X.K μ H Q):=h;split at h
  ·next W=>exact xu pins s σ H x y v u Q I F J {i,j,h1,h2,by rw[<- cQ];exact W,aM B h rfl}
  ·exact h.elim
 have ht:∀i j,L=.tup i->O=.tup j->wpAny (model X.prog X.w) X.A (binaryOp .Add v u) (EP X pins σ Q) X.xe s:=λi j e1 e2=>by
  subst e1 e2;have h:ae (if (i++j).length<=sz then .ok (.tup (i++j)) M else .bad) (aX fa X.K μ H Q):=h;split at h
  ·next W=>
   obtain⟨a,R,e1,S,E⟩:=id h1;obtain⟨b,Y,e2,U,P⟩:=id h2;by_cases h0:i=[]
   ·subst h0;obtain rfl:R=[]:=E;exact Cy pins s σ H x y v u Q I F J {a,b,Y,e1,e2,S,U,aM B h ⟨b,Y,rfl,U,P⟩}
   ·have hv:R≠[]:=λz=>h0 (by have:=E.length;rw[z] at this;exact Se.mp this.symm)
    refine GZ pins s σ H x y v u Q I F J {a,b,R,Y,e1,e2,S,U,hv,?_,λz=>?_,λ_=>iZ B (E.append P) h}
    ·rw[E.length,P.length,<- Rp,<- cQ];exact W
    ·subst z;have ej:=Se.mp P.length.symm;subst ej;exact aM B h {a,R,rfl,S,by simpa using E}
  ·exact h.elim
 cases L<;>cases O<;>first|exact hi _ _ rfl rfl|exact hs _ _ rfl rfl|exact ht _ _ rfl rfl|exact Dr (m:=m) I B h1 h2 F J h
def sy {g:Int->Int->Int}(hr:bF X (binaryOp op) (rI C λi j=>.int (g i j)))
 (z:∀u v M (P:D->Mem->Prop),ae (fE m o u v M) P->∃i j,u=.int i/\v=.int j/\C i j/\P (.int (g i j)) M):bF X (binaryOp op) (lX fa X.K m o):=ic hr λx y H Q h=>by
 obtain⟨μ,M,u,v,B,h1,h2,h⟩:=h;obtain⟨i,j,rfl,rfl,c,q⟩:=z u v M _ h;exact{i,j,h1,h2,c,aM B q rfl}
def NQ (m:Bool):bF X (binaryOp .Sub) (lX fa X.K m .sub):=sy (C:=λ_ _=>True) (ic JV λx y H Q ⟨i,j,e1,e2,_,q⟩=>⟨i,j,e1,e2,q⟩) λu v M P h=>by
 cases u<;>cases v<;>first|exact{_,_,rfl,rfl,trivial,h}|exact h.elim
set_option tactic.hygienic true in
def LV (m:Bool):bF X (binaryOp .FloorDiv) (lX fa X.K m .fdiv):=sy GY λu v M P h=>by
 have y:∀i j,u=.int i->v=.int j->∃i j,u=.int i/\v=.int j/\Mf i j/\P (.int (i / j)) M:=λi j e1 e2=>by
  subst e1 e2;have h:ae (if 0<j/\j<1073741824 then .ok (.int (i / j)) M else .bad) P:=h;split at h
  ·next c=>exact⟨i,j,rfl,rfl,c,h⟩
  ·exact h.elim
 cases u<;>cases v<;>first|exact y _ _ rfl rfl|exact h.elim
set_option tactic.hygienic true in
def NT (m:Bool):bF X (binaryOp .Mod) (lX fa X.K m .mod):=sy JZ λu v M P h=>by
 have y:∀i j,u=.int i->v=.int j->∃i j,u=.int i/\v=.int j/\0<j/\P (.int (i % j)) M:=λi j e1 e2=>by
  subst e1 e2;have h:ae (if 0<j then .ok (.int (i % j)) M else .bad) P:=h;split at h
  ·next c=>exact⟨i,j,rfl,rfl,c,h⟩
  ·exact h.elim
 cases u<;>cases v<;>first|exact y _ _ rfl rfl|exact h.elim
set_option tactic.hygienic true in
def NR (m:Bool):bF X (binaryOp .Pow) (lX fa X.K m .pow):=sy JX λu v M P h=>by
 have y:∀i j,u=.int i->v=.int j->∃i j,u=.int i/\v=.int j/\Me i j/\P (.int (i^j.toNat)) M:=λi j e1 e2=>by
  subst e1 e2;have h:ae (if 0<=j/\j<=1000000/\i.natAbs<2^64 then .ok (.int (i^j.toNat)) M else .bad) P:=h;split at h
  ·next c=>exact⟨i,j,rfl,rfl,c,h⟩
  ·exact h.elim
 cases u<;>cases v<;>first|exact y _ _ rfl rfl|exact h.elim
set_option tactic.hygienic true in
def Ck {j:Int}(I:Inv X pins σ H s)(z:RelM fa X.K μ H M)(h1:Rep fa X.K μ H dx x)(h2:Rep fa X.K μ H (.int j) y)(F:RelV x v)(J:RelV y u)
 (h:ae (match ja M dx with|some x=>if x.length*j.toNat<=sz/\-(2^63)<=j/\j<2^63 then ba m (List.replicate j.toNat x).flatten M else .bad|none=>.bad) (aX fa X.K μ H Q)) :
 wpAny (model X.prog X.w) X.A (binaryOp .Mult v u) (EP X pins σ Q) X.xe s:=by
 cases e1:ja M dx with
 |none=>rw[e1] at h;exact h.elim
 | some xs =>
   rw[e1] at h;simp only at h;split at h
   ·next c=>
    obtain⟨a,L,rfl,E,B⟩:=i5 z h1 e1;obtain⟨O,k⟩:=fV z (B.rep j.toNat) h;exact JW pins s σ H _ _ v u Q I F J {a,j,L,rfl,h2,E,c.2.1,c.2.2,by rw[B.length,<- cQ];exact c.1,k}
   ·exact h.elim
end
end LD
namespace LD
open PySem PySem.Spec PyProof.Rows L2 PySem.Builtin
open PySem.Sem (wp)
def oz:fillsNumberSlot (.type "tuple") "mul"=pure false:=
 PySem.fillsNumberSlot_seq F.slot_tuple_mul.lookup `k F.slot_tuple_rmul.lookup `k
def tu:seqRepeat? (.type "tuple")=pure (some (.builtin "tuple.__mul__")):=by
 unfold seqRepeat?;rw[PySem.seqSlot_of (name:="__mul__") F.slot_tuple_mul.lookup `k,PySem.seqSlot_of (name:="__rmul__") F.slot_tuple_rmul.lookup `k]
 rfl
def qi (a:Int)(t:Tok)(l:Addr)(items:Array Qo)(n:Nat)(dd:Option Addr)(sl:Array (Option Qo)) :
 Meets (Builtin.«int.__rmul__» {[.int a t,.ref l],[]}) (λ_ R s=>s.heap.get? l=some {cls:=.type "tuple",dict:=dd,data:=.seq items n,slots:=sl}/\R (.ok (.ret Value.notImplemented)) s):=
 .of_wp λprog w A R s h=>by obtain⟨j,g,d,tk,os⟩:=s;obtain⟨hl,h⟩:=h;wp_walk using wpAny_loadPart' hl;exact{_,rfl,h}
def xt {x:Int}(h:-(2^63)<=x)(h1:x<2^63):(decide (x < -2^63)||decide (x≥2^63))=false:=by
 rw[decide_eq_false `a,decide_eq_false `a];rfl
def qp (l:Addr)(items:Array Qo)(n:Nat)(dd:Option Addr)(sl:Array (Option Qo))(x:Int)(u:Tok)(j:-(2^63)<=x)(h1:x<2^63)(v:(items.isEmpty||x==1)=true) :
 Meets (Builtin.«tuple.__mul__» {[.ref l,.int x u],[]}) (λ_ R s=>s.heap.get? l=some {cls:=.type "tuple",dict:=dd,data:=.seq items n,slots:=sl}/\R (.ok (.ret (.ref l))) s):=
 .of_wp λprog w A R s h=>by
  obtain⟨y,g,d,tk,os⟩:=s;obtain⟨hl,h⟩:=h;have f1:=AutoSeq1.idx_int;wp_walk using wpAny_loadPart' hl
  refine wpAny_ite_false (by rw[xt j h1];rfl) ?_
  wp_walk using wpAny_loadPart' hl
  exact{_,rfl,h}
def qr (l:Addr)(items:Array Qo)(n:Nat)(dd:Option Addr)(sl:Array (Option Qo))(x:Int)(u:Tok)(j:-(2^63)<=x)(h1:x<2^63)(y:(items.isEmpty||x==1)=false)(v:(decide (x<=0)||items.isEmpty)=true) :
 Meets (Builtin.«tuple.__mul__» {[.ref l,.int x u],[]}) (λ_ R s=>s.heap.get? l=some {cls:=.type "tuple",dict:=dd,data:=.seq items n,slots:=sl}/\R (.ok (.ret (.ref s.heap.objs.size))) {s with heap:=s.heap.push {cls:=Value.type "tuple",data:=Data.seq #[]},toks:=s.toks}):=
 .of_wp λprog w A R s h=>by
  obtain⟨z,g,d,tk,os⟩:=s;obtain⟨hl,h⟩:=h;have f1:=AutoSeq1.idx_int;wp_walk using wpAny_loadPart' hl
  refine wpAny_ite_false (by rw[xt j h1];rfl) ?_
  wp_walk using wpAny_loadPart' hl
  exact{_,rfl,h}
def qs (l:Addr)(items:Array Qo)(n:Nat)(dd:Option Addr)(sl:Array (Option Qo))(x:Int)(u:Tok)(j:-(2^63)<=x)(h1:x<2^63)(z:(items.isEmpty||x==1)=false)(v:(decide (x<=0)||items.isEmpty)=false)
 (hs:(items.size:Int)*x<=16777216) (y:(List.foldl (λx1 x2=>x1++x2) #[] (List.replicate x.toNat items)).size<=sizeLine) :
 Meets (Builtin.«tuple.__mul__» {[.ref l,.int x u],[]}) (λ_ R s=>s.heap.get? l=some {cls:=.type "tuple",dict:=dd,data:=.seq items n,slots:=sl}/\R (.ok (.ret (.ref s.heap.objs.size))) {s with heap:=s.heap.push {cls:=Value.type "tuple",data:=Data.seq (List.foldl (λx1 x2=>x1++x2) #[] (List.replicate x.toNat items))},toks:=s.toks}):=
 .of_wp λprog w A R s h=>by
  obtain⟨B,g,d,tk,os⟩:=s;obtain⟨hl,h⟩:=h;have f1:=AutoSeq1.idx_int;wp_walk using wpAny_loadPart' hl
  refine wpAny_ite_false (by rw[xt j h1];rfl) ?_
  wp_walk using wpAny_loadPart' hl
  refine wpAny_ite_false (decide_eq_false `a) ?_
  wp_walk using wpAny_loadPart' hl
  refine wpAny_ite_false (decide_eq_false (by unfold Tuple.tupleTooMany;rw[sizeLine_eq];simp;omega)) ?_
  wp_walk using wpAny_loadPart' hl
  exact{_,rfl,h}
section
variable{fa:Fa}{X:Cx}{μ:Mu}{H:Hp}{σ:L2.St}{pins:List (Addr×Obj)}{s:Qr}{M:Mem}
def rf (h:List Qo)(m:Nat):List.foldl (λx1 x2=>x1++x2) #[] (List.replicate m h.toArray)=(List.replicate m h).flatten.toArray:=by
 have:=foldl_rep h m [];rw[SQ] at this;exact this
def GV:bF X (binaryOp .Mult) (λx y H Q=>∃l k xs,x=.ref l/\y=.int k/\dw X.K H l xs/\-(2^63)<=k/\k<2^63/\xs.length*k.toNat<=sz/\
 ((List.replicate k.toNat xs).flatten=xs->Q (.ref l) H)/\∀p,H p=none->Q (.ref p) (upd H p (.tup (List.replicate k.toNat xs).flatten))):=by
 intro pins s σ H x y v u Q I rx ry h;obtain⟨l,k,xs,rfl,rfl,hq,h1,h2,U,q1,q2⟩:=h;cases rx;obtain⟨t,rfl⟩:=ry;obtain⟨j,r,p,hzz⟩:=I.tuple hq;have hl:=r.length;obtain⟨⟨cls,L,data,sl⟩,ho,W,n,hd⟩:=id p;subst W hd;refine wpAny_binaryOp_repeat_ref `d {_,ho,rfl} (λs'=>typeIs_int s' k t) oz F.fills_int_mul F.slot_int_rmul tu F.slot_int_index.lookup
  (call_meets F.slot_int_rmul (typeIs_int s k t) F.entry_int_rmul (F.args_int_rmul_2 _ _) (qi k t l j.toArray n L sl) {ho,rfl,{_,ho,rfl},?_})
 have new:∀(B:List Qo),Vals (List.replicate k.toNat xs).flatten B->EP X pins σ Q (.ref s.heap.objs.size) {s with heap:=s.heap.push {cls:=Value.type "tuple",data:=Data.seq B.toArray}}:=λB r'=>by
  refine{.ref s.heap.objs.size,_,I.laid (λb ob q=>Qq _ q) (Qt _) ?_,rfl,q2 _ (I.hok.fresh (Qt _))};exact{by rw[len_rep,Nat.mul_comm,<- cQ];exact U,_,r',IsTup.new _ _}
 by_cases O:(j.toArray.isEmpty||k==1)=true
 ·refine call_meets F.slot_tuple_mul {_,ho,rfl} F.entry_tuple_mul (F.args_tuple_mul_2 _ _) (qp l j.toArray n L sl k t h1 h2 O) {ho,{.ref l,H,I,rfl,q1 ?_}};rcases Bool.or_eq_true_iff.mp O with z|z
  ·have e:j=[]:=by simpa using z
   subst e;have e2:=Se.mp hl;subst e2;simp
  ·have e:k=1:=by simpa using z
   subst e;simp
 ·have E:(j.toArray.isEmpty||k==1)=false:=by simpa using O
  by_cases P:(decide (k<=0)||j.toArray.isEmpty)=true
  ·refine call_meets F.slot_tuple_mul {_,ho,rfl} F.entry_tuple_mul (F.args_tuple_mul_2 _ _) (qr l j.toArray n L sl k t h1 h2 E P) {ho,new [] ?_};have Y:k<=0:=by
    rcases Bool.or_eq_true_iff.mp P with z|z
    ·simpa using z
    ·rw[z] at E;cases E
   have R:k.toNat=0:=`a
   rw[R];exact .nil
  ·have J:(decide (k<=0)||j.toArray.isEmpty)=false:=by simpa using P
   have Y:0<k:=by
    have:=(Bool.or_eq_false_iff.mp J).1;simpa using this
   have hs:(j.toArray.size:Int)*k<=16777216:=by
    have e1:(j.toArray.size:Int)*k=((xs.length*k.toNat:Nat):Int):=by
     rw[QD,<- hl,Int.natCast_mul,Int.toNat_of_nonneg `a]
    rw[e1];have:xs.length*k.toNat<=16777216:=U;omega
   have S:(List.foldl (λx1 x2=>x1++x2) #[] (List.replicate k.toNat j.toArray)).size<=sizeLine:=by
    rw[rf,QD,len_rep,Nat.mul_comm,<- hl,<- cQ];exact U
   refine call_meets F.slot_tuple_mul {_,ho,rfl} F.entry_tuple_mul (F.args_tuple_mul_2 _ _) (qs l j.toArray n L sl k t h1 h2 E J hs S) {ho,?_};rw[rf];exact new _ (r.rep k.toNat)
set_option tactic.hygienic true in
def NS (m:Bool):bF X (binaryOp .Mult) (lX fa X.K m .mul):=by
 intro pins s σ H x y v u Q I L O h;obtain⟨μ,M,B,E,F,h1,h2,h⟩:=h;have U:∀i j,B=.int i->E=.int j->wpAny (model X.prog X.w) X.A (binaryOp .Mult v u) (EP X pins σ Q) X.xe s:=λi j e1 e2=>by
  subst e1 e2;have h:ae (if (-(2^64)<i/\i<2^64)\/(-(2^64)<j/\j<2^64) then .ok (.int (i*j)) M else .bad) (aX fa X.K μ H Q):=h;split at h
  ·next c=>exact JY pins s σ H x y v u Q I L O {i,j,h1,h2,c,aM F h rfl}
  ·exact h.elim
 have W:∀i j,B=.tup i->E=.int j->wpAny (model X.prog X.w) X.A (binaryOp .Mult v u) (EP X pins σ Q) X.xe s:=λi j e1 e2=>by
  subst e1 e2;have h:ae (if i.length*j.toNat<=sz/\-(2^63)<=j/\j<2^63 then .ok (.tup (List.replicate j.toNat i).flatten) M else .bad) (aX fa X.K μ H Q):=h;split at h
  ·next c=>
   obtain⟨a,R,e1,P,J⟩:=id h1;refine GV pins s σ H x y v u Q I L O {a,j,R,e1,h2,P,c.2.1,c.2.2,by rw[J.length];exact c.1,λz=>?_,iZ F (J.rep j.toNat) h}
   refine aM F h {a,R,rfl,P,?_};have:=J.rep j.toNat;rw[z] at this;exact this
  ·exact h.elim
 have hl:∀j,E=.int j->ae (match ja M B with|some x=>if x.length*j.toNat<=sz/\-(2^63)<=j/\j<2^63 then ba m (List.replicate j.toNat x).flatten M else .bad|none=>.bad) (aX fa X.K μ H Q)->
  wpAny (model X.prog X.w) X.A (binaryOp .Mult v u) (EP X pins σ Q) X.xe s:=λj e1 S=>by
  subst e1;exact Ck I F h1 h2 L O S
 cases E with
 |int j=>cases B<;>first|exact U _ _ rfl rfl|exact W _ _ rfl rfl|exact hl _ rfl h
 |_=>cases B<;>exact h.elim
noncomputable def binOp:n5->Operator
 |.add=>.Add|.sub=>.Sub|.mul=>.Mult|.fdiv=>.FloorDiv|.mod=>.Mod|.pow=>.Pow
def NU (m:Bool):∀o:n5,bF X (binaryOp (binOp o)) (lX fa X.K m o)
 |.add=>NV m|.sub=>NQ m|.mul=>NS m|.fdiv=>LV m|.mod=>NT m|.pow=>NR m
end
end LD
namespace LD
open PySem PySem.Spec PyProof.Rows L2
section
variable{fa:Fa}{X:Cx}{μ:Mu}{H:Hp}{σ:L2.St}{pins:List (Addr×Obj)}{s:Qr}{M:Mem}
def KN (h:jK X r)(i:∀x y H Q,r' x y H Q->r x y H Q):jK X r':=λz j pins s σ H x y v u Q I B E q hs=>h z j pins s σ H x y v u Q I B E (i x y H Q q) hs
def rIdx (fa:Fa)(K:Ql):R2:=λx y H Q=>∃μ M h j d,RelM fa K μ H M/\Rep fa K μ H h x/\Rep fa K μ H j y/\bQ h j M=some d/\aX fa K μ H Q d M
def uh (n:Nat)(i:Int):LD.bY n i=L2.bY n i:=rfl
set_option tactic.hygienic true in
def MX:jK X (rIdx fa X.K):=KN KJ λx y H Q h=>by
 obtain⟨μ,M,u,I,d,F,h1,h2,e,q⟩:=h;have gen:∀i,I=.int i->((cv M u).bind λE=>(LD.bY E.length i).bind λj=>E[j]?)=some d->JC X.K x y H Q:=λi S O=>by
  subst S;clear e;have e:=O;clear O;cases e1:cv M u with
  |none=>rw[e1] at e;cases e
  | some E =>
    rw[e1,Option.bind_some] at e;obtain⟨a,L,rfl,B,r⟩:=i4 F h1 e1;cases e2:LD.bY E.length i with
    |none=>rw[e2] at e;cases e
    | some j =>
      rw[e2,Option.bind_some] at e;obtain⟨v,W,R⟩:=r.get e;have P:rW L i=some v:=by
       unfold rW;rw[r.length,<- uh,e2];exact W
      rcases B with B|B
      ·exact .inl {a,L,i,v,rfl,h2,B,P,aM F q R}
      ·exact .inr (.inl {a,L,i,v,rfl,h2,B,P,aM F q R})
 have str:∀z i,u=.str z->I=.int i->JC X.K x y H Q:=λz i e1 e2=>by
  subst e1 e2;have e:(if z.cps.size<=sz then(LD.bY z.cps.size i).bind λj=>(z.cps[j]?).map λc=>D.str {#[c]} else none)=some d:=e;split at e
  ·next Y=>
   cases e2:LD.bY z.cps.size i with
   |none=>rw[e2] at e;cases e
   | some j =>
     rw[e2,Option.bind_some] at e;cases J:z.cps[j]? with
     |none=>rw[J] at e;cases e
     | some c =>
       rw[J] at e;have U:=Qw e;subst U;refine .inr (.inr {z,i,c,h1,h2,by rw[<- cQ];exact Y,?_,aM F q rfl})
       unfold rW;rw[show z.cps.toList.length=z.cps.size by simp,<- uh,e2]
       simpa using J
  ·cases e
 cases I with
 |int i=>cases u<;>first|exact str _ _ rfl rfl|exact gen _ rfl e
 |_=>cases u<;>cases (e)
def Jc (h:mL X r)(i:∀x lo hi H Q,r' x lo hi H Q->r x lo hi H Q):mL X r':=λpins s σ H x v z B lo hi sl Q I y hs j u q=>h pins s σ H x v z B lo hi sl Q I y hs j u (i x lo hi H Q q)
noncomputable def pz:D->Option (Option Int)
 |.non=>some none
 |.int i=>some (some i)
 |_=>none
def s9 (n d:Nat)(x:D):LD.aW n d x=(pz x).map (HT.aW n d):=by
 cases x<;>rfl
def sZ:mL X (λx lo hi H Q=>∃a xs,x=.ref a/\dw X.K H a xs/\(HT.aW xs.length 0 lo=0/\HT.aW xs.length xs.length hi=xs.length)/\Q (.ref a) H):=by
 intro pins s σ H x v W Y lo hi sl Q I S hs P R h;obtain⟨a,xs,rfl,O,J,q⟩:=h;cases S;obtain⟨j,r,u,U⟩:=I.tuple O;refine{"tuple",_,RR.lookup,u.typeIs,?_};have y:j.toArray.size=xs.length:=by rw[QD];exact r.length.symm
 rw[<- y] at J;obtain⟨os,F,E,L⟩:=id hs;have B:s.TypeIs (.ref sl) "slice":=⟨os,F,E⟩;unfold getItem;try with_reducible refine tqo ?_
 first|refine tqa (tqb ?_)|skip
 refine tqa (wpAny_sequenceKey u.typeIs `d ?_)
 refine tqa (wpAny_callSpecial?_slot u.typeIs RR
  (wpAny_call_entry RR u.typeIs entry_tuple_getitem ?_ (args_tuple_getitem _ _)))
 show wpAny _ _ (Builtin.Tuple.tupleItemsOf (.ref a) >>= _) _ _ s;refine tqa (tupleItemsOf_ u ?_);refine tqa (wpAny_typeOf B ?_);rw[if_pos `d]
 refine tqa (HT.i1 hs P R ?_);have z:(((HT.aW j.toArray.size 0 lo:Nat):Int)==0&&(1:Int)==1&&(HT.aW j.toArray.size j.toArray.size hi-HT.aW j.toArray.size 0 lo)==j.toArray.size)=true:=by
  rw[J.1,J.2];simp
 show wpAny _ _ (if (((HT.aW j.toArray.size 0 lo:Nat):Int)==0&&(1:Int)==1&&(HT.aW j.toArray.size j.toArray.size hi-HT.aW j.toArray.size 0 lo)==j.toArray.size)=true then _ else _) _ _ s;rw[if_pos z];refine tqa ?_;refine tqa (wpAny_typeOf u.typeIs ?_);refine tqb ?_;rw[if_pos `d]
 exact tqa (wpAny_rule (tqb {_,rfl,tqb {.ref a,H,I,rfl,q}}))
def OT (fa:Fa)(K:Ql)(m:Bool):V->Option Int->Option Int->Hp->VK->Prop:=λx lo u H Q=>∃μ M j dl h,RelM fa K μ H M/\Rep fa K μ H j x/\pz dl=some lo/\pz h=some u/\ae (gx m j dl h M) (aX fa K μ H Q)
def Gj (m:Bool):mL X (OT fa X.K m):=by
 refine Jc (Gm.or (Jb.or sZ)) λx lo u H Q h=>?_;obtain⟨μ,M,z,dl,E,B,h1,e1,e2,h⟩:=h;have gen:ae (match ef M z with
  | some xs => match LD.aW xs.length 0 dl, LD.aW xs.length xs.length E with
    |some l,some h=>ba m (cut xs l h) M
    |_,_=>.bad
  |none=>.bad) (aX fa X.K μ H Q)->Jy X.K x lo u H Q:=λh=>by
  cases e:ef M z with
  |none=>rw[e] at h;exact h.elim
  | some xs =>
    rw[e] at h;simp only[s9,e1,e2,Option.map_some] at h;obtain⟨a,j,rfl,v,r⟩:=bu B h1 e;have hl:=r.length;obtain⟨_,k⟩:=fV B ((r.drop (HT.aW xs.length 0 lo)).take (HT.aW xs.length xs.length u-HT.aW xs.length 0 lo)) h;refine{a,j,rfl,v,?_};unfold mC;rw[hl];exact k
 have tup:∀xs,z=.tup xs->Jx X.K x lo u H Q\/∃a xs,x=.ref a/\dw X.K H a xs/\(HT.aW xs.length 0 lo=0/\HT.aW xs.length xs.length u=xs.length)/\Q (.ref a) H:=λxs e=>by
  subst e;have h:ae (match LD.aW xs.length 0 dl,LD.aW xs.length xs.length E with
   |some l,some h=>.ok (.tup (cut xs l h)) M
   |_,_=>.bad) (aX fa X.K μ H Q):=h
  simp only[s9,e1,e2,Option.map_some] at h;obtain⟨a,j,rfl,v,r⟩:=h1;have hl:=r.length;by_cases y:HT.aW j.length 0 lo=0/\HT.aW j.length j.length u=j.length
  ·refine .inr {a,j,rfl,v,y,?_};rw[hl] at y;have F:cut xs (HT.aW xs.length 0 lo) (HT.aW xs.length xs.length u)=xs:=by rw[y.1,y.2];simp[cut]
   rw[F] at h;exact aM B h ⟨a,j,rfl,v,r⟩
  ·refine .inl {a,j,rfl,v,y,?_};have k:=iZ B ((r.drop (HT.aW xs.length 0 lo)).take (HT.aW xs.length xs.length u-HT.aW xs.length 0 lo)) h;unfold mC;rw[hl];exact k
 cases z<;>first|exact .inr (tup _ rfl)|exact .inl (gen h)
def om (fa:Fa)(K:Ql)(f:wU):List V->Hp->VK->Prop:=λj H Q=>∃μ M h,RelM fa K μ H M/\aG fa K μ H h j/\ae (ff f h M) (aX fa K μ H Q)
def pe {d:D}{vs:List V}{K:Ql}(h:aG fa K μ H [d] vs):∃v,vs=[v]/\Rep fa K μ H d v:=by
 obtain⟨v,r,rfl,h1,h2⟩:=h;obtain rfl:r=[]:=h2;exact⟨v,rfl,h1⟩
set_option tactic.hygienic true in
def Ng:b8 X (.builtin "len") (om fa X.K .len):=jf (uR.or uQ) λB H Q h=>by
 obtain⟨μ,M,E,j,r,h⟩:=h
 match E,r,h with
 |[],_,h=>exact h.elim
 |d::_::_,_,h=>cases d<;>exact h.elim
 | [d], r, h =>
   obtain⟨v,rfl,y⟩:=pe r;have gen:ae (match cv M d with|some xs=>.ok (.int xs.length) M|none=>.bad) (aX fa X.K μ H Q)->∃p u,[v]=[.ref p]/\(cP X.K H p u\/dw X.K H p u)/\Q (.int u.length) H:=λh=>by
    cases e:cv M d with
    |none=>rw[e] at h;exact h.elim
    | some xs =>
      rw[e] at h;obtain⟨a,B,rfl,F,r⟩:=i4 j y e;refine{a,B,rfl,F,?_};rw[r.length];exact aM j h rfl
   have str:∀x,d=.str x->∃z,[v]=[V.str z]/\z.length<=sizeLine/\Q (.int z.length) H:=λx e=>by
    subst e;have h:ae (if x.cps.size<=sz then .ok (.int x.cps.size) M else .bad) (aX fa X.K μ H Q):=h;split at h
    ·next c=>exact{x,by rw[show v=.str x from y],by rw[<- cQ];exact c,aM j h rfl}
    ·exact h.elim
   cases d<;>first|exact .inr (str _ rfl)|exact .inl (gen h)
def Hm:b8 X (.type "tuple") (om fa X.K .tuple):=jf se λu H Q h=>by
 obtain⟨μ,M,E,y,r,h⟩:=h
 match E,r,h with
 |[],_,h=>exact h.elim
 |d::_::_,_,h=>cases d<;>exact h.elim
 | [d], r, h =>
   obtain⟨v,rfl,B⟩:=pe r;have gen:ae (match ef M d with|some xs=>.ok (.tup xs) M|none=>.bad) (aX fa X.K μ H Q)->∃p j,[v]=[.ref p]/\((cP X.K H p j/\∀l,H l=none->Q (.ref l) (upd H l (.tup j)))\/(dw X.K H p j/\Q (.ref p) H)):=λh=>by
    cases e:ef M d with
    |none=>rw[e] at h;exact h.elim
    | some xs =>
      rw[e] at h;obtain⟨a,u,rfl,z,r⟩:=bu y B e;exact{a,u,rfl,.inl {z,iZ y r h}}
   have tup:∀x,d=.tup x->∃p j,[v]=[.ref p]/\((cP X.K H p j/\∀l,H l=none->Q (.ref l) (upd H l (.tup j)))\/(dw X.K H p j/\Q (.ref p) H)):=λx e=>by
    subst e;obtain⟨a,u,rfl,z,r⟩:=id B;exact{a,u,rfl,.inr {z,aM y h B}}
   cases d<;>first|exact tup _ rfl|exact gen h
def K5 (m:Bool):b8 X (.type "list") (om fa X.K (.list m)):=jf uP λu H Q h=>by
 obtain⟨μ,M,y,j,r,h⟩:=h
 match y,r,h with
 |[],_,h=>exact h.elim
 |_::_::_,_,h=>exact h.elim
 | [d], r, h =>
   obtain⟨v,rfl,B⟩:=pe r;have h:ae (match cv M d with|some xs=>ba m xs M|none=>.bad) (aX fa X.K μ H Q):=h
   cases e:cv M d with
   |none=>rw[e] at h;exact h.elim
   | some xs =>
     rw[e] at h;obtain⟨a,u,rfl,z,r⟩:=i4 j B e;obtain⟨_,k⟩:=fV j r h;exact⟨a,u,rfl,z,k⟩
end
section
variable{fa:Fa}{X:Cx}{μ:Mu}{H:Hp}{σ:L2.St}{pins:List (Addr×Obj)}{s:Qr}{M:Mem}
set_option tactic.hygienic true in
def OB (hM:RelM fa X.K μ H M)(h:Rep fa X.K μ H d v)(e:jO M d=some k):Dz X.K v H k:=by
 cases d with
 |non=>obtain rfl:v=.non:=h;exact(Qw e).symm
 |bl b=>obtain rfl:v=.bl b:=h;exact(Qw e).symm
 |int i=>obtain rfl:v=.int i:=h;exact(Qw e).symm
 | str x =>
   obtain rfl:v=.str x:=h;have e:(if x.cps.size<=sz then some (x.cps.size != 0) else none)=some k:=e;split at e
   ·next c=>
    refine{by rw[<- cQ];exact c,?_}
    rw[<- Qw e];show(x.cps.size != 0)=((x.cps.size:Int) != 0);rw[RC];simp
   ·cases e
 | tup ds =>
   obtain⟨a,vs,rfl,hq,r⟩:=h;refine .inr (.inl {vs,hq,?_});rw[<- Qw e];have:=r.length;cases vs<;>cases ds<;>simp_all
 | lst ds =>
   obtain⟨a,vs,rfl,hq,r⟩:=bu hM h rfl;refine .inl {vs,hq,?_};rw[<- Qw e];have:=r.length;cases vs<;>cases ds<;>simp_all
 | frz ds =>
   obtain⟨a,vs,rfl,hq,r⟩:=bu hM h rfl;refine .inl {vs,hq,?_};rw[<- Qw e];have:=r.length;cases vs<;>cases ds<;>simp_all
 | cell c =>
   have e:(M[c]?).map (λds=>!ds.isEmpty)=some k:=e;cases e1:M[c]? with
   |none=>rw[e1] at e;cases e
   | some ds =>
     rw[e1] at e;obtain⟨a,vs,rfl,hq,r⟩:=bu hM h e1;refine .inl {vs,hq,?_};rw[<- Qw e];have:=r.length;cases vs<;>cases ds<;>simp_all
 |fn f=>cases e
 |exc y p=>cases e
def zK:∀{ds:List D}{bs:List Bool}{vs:List V}{us:List Qo},boolsOf ds=some bs->aG fa X.K μ H ds vs->Vals vs us->PyProof.Rows.LSm.BoolsAre us bs:=by
 intro ds;induction ds with
 | nil =>
   intro bs vs us e h r;obtain rfl:vs=[]:=h;cases r;cases e;exact .nil
 | cons d ds j =>
   intro bs vs us e h r;obtain⟨v,vr,rfl,h1,h2⟩:=h;cases r with
   | cons r1 r2 =>
     cases d with
     | bl b =>
       have e:(boolsOf ds).map (b::·)=some bs:=e;cases e1:boolsOf ds with
       |none=>rw[e1] at e;cases e
       | some u =>
         rw[e1] at e;have e2:=Qw e;subst e2;obtain rfl:v=.bl b:=h1;obtain rfl:_=Value.bool b:=r1;exact .cons b (j e1 h2 r2)
     |_=>cases e
def qI:b8 X (.builtin "all") (λxs H Q=>∃μ ds bs p vs,xs=[.ref p]/\X.calm=true/\cP X.K H p vs/\aG fa X.K μ H ds vs/\boolsOf ds=some bs/\Q (.bl (bs.all id)) H):=by
 intro pins s σ H xs us Q I r h;obtain⟨μ,ds,bs,p,vs,rfl,L,P,R,F,q⟩:=h;obtain⟨u,rfl,U⟩:=vals1 r;cases U;obtain⟨j,S,z,hz⟩:=I.list P;have E:=zK F R S;have y:=z.lt;refine call_all_walk (wpAny_pyIter_list z.isList ?_);refine{s.heap.objs.size,[s.heap.objs.size,p],[s.heap.objs.size],j.toArray.size,_,_,λi=>(bs[i]?).getD true,rfl,Walks.list (A:=X.A.in1) (I.ok.hd L) _ p (QW y) j.toArray,
  {{_,QK _ rfl,rfl,rfl},z.isList.push _},λi v s' Y W J B=>?_,λh' tk O=>?_}
 ·obtain⟨b,e,rfl⟩:=E.get i v (by simpa using J)
  simp only[e,Option.getD_some] at B;exact tqp B
 ·have e:((List.range j.toArray.size).all λi=>(bs[i]?).getD true)=bs.all id:=by
   rw[QD,E.length];exact PyProof.Rows.LSm.range_all bs
  rw[e];exact{.bl _,H,I.kept (PyProof.Rows.LSm.kept_iter O),rfl,q}
def tB:∀{ds:List D}{bs:List Int}{vs:List V}{us:List Qo},intsOf ds=some bs->aG fa X.K μ H ds vs->Vals vs us->SA us bs:=by
 intro ds;induction ds with
 | nil =>
   intro bs vs us e h r;obtain rfl:vs=[]:=h;cases r;cases e;exact .nil
 | cons d ds j =>
   intro bs vs us e h r;obtain⟨v,vr,rfl,h1,h2⟩:=h;cases r with
   | cons r1 r2 =>
     cases d with
     | int b =>
       have e:(intsOf ds).map (b::·)=some bs:=e;cases e1:intsOf ds with
       |none=>rw[e1] at e;cases e
       | some u =>
         rw[e1] at e;have e2:=Qw e;subst e2;obtain rfl:v=.int b:=h1;obtain⟨t,rfl⟩:=r1;exact .cons b t (j e1 h2 r2)
     |_=>cases e
def sf:b8 X (.builtin "sum") (λxs H Q=>∃μ ds bs p vs,xs=[.ref p]/\X.calm=true/\cP X.K H p vs/\aG fa X.K μ H ds vs/\intsOf ds=some bs/\Q (.int bs.sum) H):=by
 intro pins s σ H xs Y Q I r h;obtain⟨μ,ds,ns,p,vs,rfl,B,F,O,z,q⟩:=h;obtain⟨u,rfl,R⟩:=vals1 r;cases R;obtain⟨J,P,L,W⟩:=I.list F;have v:=tB z O P;obtain⟨xs,y⟩:=v.allInts.items;have j:=y ▸ L.isList;refine sum_intListG (I.ok.hd B) j λU tk S E=>?_;have e1:ns=xs.toList.map (·.1):=by
  rw[<- nums_intItems,<- y];exact(v.numsOf).symm
 have e2:preSum (numAt xs) xs.size=ns.sum:=by
  rw[preSum_eq,RD `s,e1]
 rw[e2];exact{.int _,H,I.kept E,⟨S,rfl⟩,q}
def Ni (z:X.calm=true):b8 X (.builtin "all") (om fa X.K .all):=jf (qI) λu H Q h=>by
 obtain⟨μ,M,y,j,r,h⟩:=h
 match y,r,h with
 |[],_,h=>exact h.elim
 |d::_::_,_,h=>exact h.elim
 | [d], r, h =>
   obtain⟨v,rfl,E⟩:=pe r;have h:ae (match ef M d with|some xs=>(match boolsOf xs with|some bs=>.ok (.bl (bs.all id)) M|none=>.bad)|none=>.bad) (aX fa X.K μ H Q):=h
   cases e:ef M d with
   |none=>rw[e] at h;exact h.elim
   | some xs =>
     rw[e] at h;simp only at h;cases e2:boolsOf xs with
     |none=>rw[e2] at h;exact h.elim
     | some bs =>
       rw[e2] at h;obtain⟨a,u,rfl,B,r⟩:=bu j E e;exact{μ,xs,bs,a,u,rfl,z,B,r,e2,aM j h rfl}
def Nd (z:X.calm=true):b8 X (.builtin "sum") (om fa X.K .sum):=jf (sf) λu H Q h=>by
 obtain⟨μ,M,y,j,r,h⟩:=h
 match y,r,h with
 |[],_,h=>exact h.elim
 |d::_::_,_,h=>exact h.elim
 | [d], r, h =>
   obtain⟨v,rfl,E⟩:=pe r;have h:ae (match ef M d with|some xs=>(match intsOf xs with|some bs=>.ok (.int bs.sum) M|none=>.bad)|none=>.bad) (aX fa X.K μ H Q):=h
   cases e:ef M d with
   |none=>rw[e] at h;exact h.elim
   | some xs =>
     rw[e] at h;simp only at h;cases e2:intsOf xs with
     |none=>rw[e2] at h;exact h.elim
     | some bs =>
       rw[e2] at h;obtain⟨a,u,rfl,B,r⟩:=bu j E e;exact{μ,xs,bs,a,u,rfl,z,B,r,e2,aM j h rfl}
noncomputable def tyName:Ty->String
 |.int=>"int" | .bool=>"bool" | .str=>"str" | .tuple=>"tuple" | .list=>"list" | .own _=>""
def N2:D->String
 |.non=>"NoneType" | .bl _=>"bool" | .int _=>"int" | .str _=>"str" | .tup _=>"tuple" | _=>"list"
def Mi (t:Ty)(d:D)(b:Bool)(j:∀c,t≠.own c)(e:gE t d=some b):PySem.W.kitOne X.K (.type (N2 d)) (.type (tyName t))=some b:=by
 cases t with
 |own c=>exact absurd rfl (j c)
 |_=>cases d<;>first|(cases (show(none:Option Bool)=some b from e))|(have h:=Qw e;subst h;(first|rfl|decide +kernel))
def BI (J:RelM fa X.K μ H M)(h:Rep fa X.K μ H d v)(e:gE t d=some b)(I:Inv X pins σ H s)(r:RelV v u)
 (j:PySem.W.kitOne X.K (.type (N2 d)) c=some b) (q:∀tk,Q (.bool b) {s with toks:=tk}):wpAny (model X.prog X.w) X.A (call (.builtin "isinstance") [u,c]) Q X.xe s:=by
 cases d with
 |non=>obtain rfl:v=.non:=h;exact jA I r .non j q
 |bl x=>obtain rfl:v=.bl x:=h;exact jA I r (.bl x) j q
 |int x=>obtain rfl:v=.int x:=h;exact jA I r (.int x) j q
 |str x=>obtain rfl:v=.str x:=h;exact jA I r (.str x) j q
 | tup F =>
   obtain⟨a,O,rfl,B,_⟩:=h;obtain rfl:u=Value.ref a:=r;obtain⟨E,L,⟨o,h1,h2,_⟩,_⟩:=I.tuple B;exact RA PySem.W.kitx_tuple I.kIn ⟨o,h1,h2⟩ j (λz=>nomatch z) q
 | lst F =>
   obtain⟨a,O,rfl,B,_⟩:=bu J h rfl;obtain rfl:u=Value.ref a:=r;obtain⟨E,L,⟨o,n,h1,h2,_⟩,_⟩:=I.list B;exact RA PySem.W.kitx_list I.kIn ⟨o,h1,h2⟩ j (λz=>nomatch z) q
 | frz F =>
   obtain⟨a,O,rfl,B,_⟩:=bu J h rfl;obtain rfl:u=Value.ref a:=r;obtain⟨E,L,⟨o,n,h1,h2,_⟩,_⟩:=I.list B;exact RA PySem.W.kitx_list I.kIn ⟨o,h1,h2⟩ j (λz=>nomatch z) q
 | cell k =>
   obtain⟨a,rfl,P⟩:=h;obtain⟨F,O,_,B,_⟩:=J.mu_lt P;obtain rfl:u=Value.ref a:=r;obtain⟨E,L,⟨o,n,h1,h2,_⟩,_⟩:=I.list (cP.of B);exact RA PySem.W.kitx_list I.kIn ⟨o,h1,h2⟩ j (λz=>nomatch z) q
 |fn f=>cases e
 |exc y p=>cases e
def My (fa:Fa)(K:Ql)(t:Ty):List V->Hp->VK->Prop:=λh H Q=>∃μ M d v b,h=[v,.ty (tyName t)]/\RelM fa K μ H M/\Rep fa K μ H d v/\gE t d=some b/\Q (.bl b) H
def K8 (t:Ty)(y:∀c,t≠.own c):b8 X (.builtin "isinstance") (My fa X.K t):=by
 intro pins s σ H xs B Q I r h;obtain⟨μ,M,d,v,b,rfl,j,z,e,q⟩:=h;obtain⟨u,w,rfl,r1,r2⟩:=vals2 r;obtain rfl:w=Value.type (tyName t):=r2;exact BI j z e I r1 (Mi t d b y e) λtk=>{.bl b,H,I.tok _,rfl,q}
end
section
variable{fa:Fa}{X:Cx}
abbrev DE (fa:Fa)(X:Cx)(e:Expr)(g:Env->Mem->Res D):Prop:=PE X e (tE fa X.K g)
abbrev DT (fa:Fa)(X:Cx)(e:Expr)(g:Env->Mem->Res Bool):Prop:=PT X e (tT fa X.K g)
abbrev DW (fa:Fa)(X:Cx)(e:Expr)(g:Env->Mem->Res Bool):Prop:=PW X e (tT fa X.K g)
abbrev DA (fa:Fa)(X:Cx)(es:List Expr)(g:Env->Mem->Res (List D)):Prop:=PA X es (tA fa X.K g)
abbrev DS (fa:Fa)(X:Cx)(st:Stmt)(g:Env->Mem->Res Fl):Prop:=PS X st (tF fa X g)
abbrev kD (fa:Fa)(X:Cx)(st:List Stmt)(g:Env->Mem->Res Fl):Prop:=kB X st (tF fa X g)
variable{a b d:Expr}{ga gb gd:Env->Mem->Res D}{pos:Pos}
def Nq {i:Nat}(B:X.N[i]?=some x)(E:u7 X.env.scope x)(hd:(x==("__debug__":Str))=false)(j:(x==("__classdict__":Str))=false) :
 DE fa X (.Name x pos) (λZ M=>b9 M (Z[i]?.getD none)):=bt (pw B E hd j) λI H Q ⟨F,Z,M,y,z,h⟩=>by
 obtain⟨d,e,w⟩:=j3 h;have u:Z[i]?=some (some d):=by
  cases q:Z[i]? with
  |none=>rw[q] at e;cases e
  |some o=>rw[q] at e;simp at e;rw[e]
 obtain⟨v,h1,h2⟩:=y.at' i d u;exact{v,h1,aM z w h2}
def iW (h:PE X e (tC v))(r:∀μ H,Rep fa X.K μ H dc v):DE fa X e (λ_ M=>.ok dc M):=bt h λz H Q ⟨μ,y,M,u,j,h⟩=>aM j h (r μ H)
def NA {i:Int}:DE fa X (.Constant (.int i) j pos) (λ_ M=>.ok (.int i) M):=iW JS λ_ _=>rfl
def LP:DE fa X (.Constant (.bool i) j pos) (λ_ M=>.ok (.bl i) M):=iW MH λ_ _=>rfl
def Nt:DE fa X (.Constant (.str i) j pos) (λ_ M=>.ok (.str i) M):=iW JN λ_ _=>rfl
def E9:DE fa X (.Constant .none j pos) (λ_ M=>.ok .non M):=iW JQ λ_ _=>rfl
def t2 {Q:Type}{f:D->D->Mem->Res Q}{P:Q->Mem->Prop}{R:V->V->Hp->Prop}(S:bc fa X.K μ H σ Z)(U:RelM fa X.K μ H M)
 (h:ae ((ga Z M).bind λx M=>(gb Z M).bind λy M=>f x y M) P)
 (k:∀x y B v u z j,Ext μ H j z->bc fa X.K j z σ Z->RelM fa X.K j z B->Rep fa X.K j z x v->Rep fa X.K j z y u->ae (f x y B) P->R v u z) :
 tE fa X.K ga σ H λv L=>tE fa X.K gb σ L λu z=>R v u z:=
 t1 S U h λx M1 v L Y W E I r1 h1=>t1 E I h1 λy B u z j O F J r2 h2=>k x y B v u z j (W.trans O) F J (r1.ext O) r2 h2
def NH (m:Bool)(o:n5)(J:DE fa X a ga)(L:DE fa X b gb):DE fa X (.BinOp a (binOp o) b pos) (λZ M=>(ga Z M).bind λx M=>(gb Z M).bind λy M=>fE m o x y M):=
 bt (ME (NU m o) J L) λS H Q ⟨R,Z,M,E,I,h⟩=>t2 E I h λx y B v u P z O F j r1 r2 h2=>{z,B,x,y,j,r1,r2,ju h2 O}
def pC {P:D->Mem->Prop}(h:ae ((b9 M r).bind λb M=>.ok (.bl b) M) P):∃b,r=some b/\P (.bl b) M:=by
 obtain⟨b,j,e,q⟩:=az h;cases r with
 |none=>cases e
 |some u=>cases e;exact{_,rfl,q}
def NF (O:Rm X)(o:jn)(J:DE fa X a ga)(L:DE fa X b gb)(hm:behindInMarks (d7 o) b=false) :
 DE fa X (.Compare a [d7 o] [b] pos) (λZ M=>(ga Z M).bind λx M=>(gb Z M).bind λy M=>(b9 M (bB o x y M)).bind λb M=>.ok (.bl b) M):=
 bt (mZ (nF O o) J L hm) λU H Q ⟨S,Z,M,E,I,h⟩=>t2 E I h λx y B v u R z P F j r1 r2 h2=>by
  obtain⟨b,e,q⟩:=pC h2;exact{z,B,x,y,b,j,r1,r2,e,aM j (q.ext P) rfl}
def Lk (W:Rm X)(o:jn)(S:DE fa X a ga)(U:DE fa X b gb)(hm:behindInMarks (d7 o) b=false) :
 DT fa X (.Compare a [d7 o] [b] pos) (λZ M=>((ga Z M).bind λx M=>(gb Z M).bind λy M=>(b9 M (bB o x y M)).bind λb M=>.ok (.bl b) M).bind λx M=>b9 M (jO M x)):=
 jZ (qk (nF W o) S U hm) λσ H Q ⟨μ,Z,M,O,R,h⟩=>by
  obtain⟨z,I,e,q⟩:=az h;have L:ae ((ga Z M).bind λx M=>(gb Z M).bind λy M=>(b9 M (bB o x y M)).bind λb M=>.ok (.bl b) M) (λd M=>d=z/\M=I):=by rw[e];exact⟨rfl,rfl⟩
  refine t2 O R L λx y F v u E B Y P j r1 r2 h2=>?_;obtain⟨b,e1,e2,J⟩:=pC h2;subst e2 J;exact{B,F,x,y,b,j,r1,r2,e1,b,rfl,q E B Y j}
def FW (F:∀Z M x M',g Z M=.ok x M'->∃k,x=.bl k)(h:tT fa X.K (λZ M=>(g Z M).bind λx M=>b9 M (jO M x)) σ H Q) :
 tE fa X.K g σ H (λx u=>∃k,x=.bl k/\Q k u):=by
 obtain⟨L,Z,M,B,E,h⟩:=h;obtain⟨x,z,e,q⟩:=az h;obtain⟨k,rfl⟩:=F Z M x z e;refine{L,Z,M,B,E,?_};rw[e];intro v y j J I r1;obtain rfl:v=.bl k:=r1;exact{k,rfl,q y j J I}
def E5 {o O:jn}{L:Env->Mem->Res D}(S:L2.St)(H:Hp)(Q:VK):tE fa X.K (λZ M=>(ga Z M).bind λx M=>(gb Z M).bind λy M=>(b9 M (bB o x y M)).bind λk M=>
 if k then(L Z M).bind λz M=>(b9 M (bB O y z M)).bind λb M=>.ok (.bl b) M else .ok (.bl false) M) S H Q->sQ (gz fa X.K o) (gz fa X.K O) (tE fa X.K ga) (tE fa X.K gb) (tE fa X.K L) S H Q:=λ⟨μ,Z,M,hE,hM,h⟩=>by
 refine t2 hE hM h λx y U v u H2 I P F j r1 r2 h2=>?_;obtain⟨k,M3,e,q⟩:=az h2;cases E:bB o x y U with
 |none=>rw[E] at e;cases e
 | some k' =>
   rw[E] at e;cases e;refine{I,_,x,y,k,j,r1,r2,E,k,rfl,?_};cases k with
   |false=>exact aM j (aX.ext q P) rfl
   | true =>
     refine t1 F j q λz W w H4 J R hE4 B r4 h4=>?_;obtain⟨b,Y,q4⟩:=pC h4;exact{J,W,y,z,b,B,r2.ext R,r4,Y,aM B (q4.ext (P.trans R)) rfl}
def NG (j:Rm X)(o h:jn)(u:DE fa X a ga)(v:DE fa X b gb)(B:DE fa X d gc)(hm:lastMarks [d7 o,d7 h] [b,d]=false) :
 DE fa X (.Compare a [d7 o,d7 h] [b,d] pos) (λZ M=>(ga Z M).bind λx M=>(gb Z M).bind λy M=>(b9 M (bB o x y M)).bind λk M=>
  if k then(gc Z M).bind λz M=>(b9 M (bB h y z M)).bind λb M=>.ok (.bl b) M else .ok (.bl false) M):=bt (Cu (nF j o) (nF j h) u v B hm) E5
def Cz {x:D}(h:((b9 M r).bind λb M=>Res.ok (.bl b) M)=.ok x M'):∃k,x=.bl k:=by
 cases r with
 |none=>cases h
 |some b=>cases h;exact⟨b,rfl⟩
def eO {j u:Type}{r:Res j}{f:j->Mem->Res u}{x:u}(h:r.bind f=.ok x M):∃a M1,r=.ok a M1/\f a M1=.ok x M:=by
 cases r with
 |ok a M1=>exact⟨a,M1,rfl,h⟩
 |err=>cases h
 |bad=>cases h
def Ll (v:Rm X)(o j:jn){u:Env->Mem->Res D}(B:DE fa X a ga)(E:DE fa X b gb)(F:DE fa X d u)(hm:lastMarks [d7 o,d7 j] [b,d]=false) :
 DT fa X (.Compare a [d7 o,d7 j] [b,d] pos) (λZ M=>((ga Z M).bind λx M=>(gb Z M).bind λy M=>(b9 M (bB o x y M)).bind λk M=>
  if k then(u Z M).bind λz M=>(b9 M (bB j y z M)).bind λb M=>.ok (.bl b) M else .ok (.bl false) M).bind λx M=>b9 M (jO M x)):=
 jZ (Cp (nF v o) (nF v j) B E F hm) λI H Q h=>E5 I H _ (FW (λZ M x J e=>by
  obtain⟨S,L,_,e⟩:=eO e;obtain⟨U,O,_,e⟩:=eO e;obtain⟨k,P,_,e⟩:=eO e;cases k with
  |false=>cases e;exact{_,rfl}
  | true =>
    obtain⟨W,R,_,e⟩:=eO e;exact Cz e) h)
def Nw (B:DE fa X a ga):DE fa X (.UnaryOp .USub a pos) (λZ M=>(ga Z M).bind λx M=>match x with|.int i=>.ok (.int (-i)) M|_=>.bad):=
 bt (MC Iz B) λO H Q ⟨L,Z,M,u,z,h⟩=>t1 u z h λx J v I F E y j r1 h1=>by
  cases x with
  |int i=>exact{i,r1,aM j (aX.ext h1 E) rfl}
  |_=>exact h1.elim
def NJ {rest:List Expr}(I:DE fa X a ga)(J:DE fa X (.BoolOp .And (b::rest) pos) gb):DE fa X (.BoolOp .And (a::b::rest) pos) (λZ M=>(ga Z M).bind λx M=>match x with
 |.bl true=>gb Z M
 |.bl false=>.ok (.bl false) M
 |_=>.bad):=
 bt (JU I J) λP H Q ⟨O,Z,M,E,F,h⟩=>t1 E F h λx B v L y z u j r1 h1=>by
  cases x with
  | bl k =>
    refine{k,r1,?_};cases k with
    |true=>exact{y,Z,B,u,j,ju h1 z}
    |false=>exact aM j (aX.ext h1 z) rfl
  |_=>exact h1.elim
def PF {rest:List Expr}(I:DE fa X a ga)(J:DE fa X (.BoolOp .Or (b::rest) pos) gb):DE fa X (.BoolOp .Or (a::b::rest) pos) (λZ M=>(ga Z M).bind λx M=>match x with
 |.bl true=>.ok (.bl true) M
 |.bl false=>gb Z M
 |_=>.bad):=
 bt (MD I J) λP H Q ⟨O,Z,M,E,F,h⟩=>t1 E F h λx B v L y z u j r1 h1=>by
  cases x with
  | bl k =>
    refine{k,r1,?_};cases k with
    |true=>exact aM j (aX.ext h1 z) rfl
    |false=>exact{y,Z,B,u,j,ju h1 z}
  |_=>exact h1.elim
def E8 (h:DE fa X a ga):DE fa X (.BoolOp op [a] pos) ga:=JO h
def Nv (B:DE fa X a ga):DE fa X (.UnaryOp .Not a pos) (λZ M=>(ga Z M).bind λx M=>match x with|.bl k=>.ok (.bl (!k)) M|_=>.bad):=
 bt (JP B) λO H Q ⟨L,Z,M,u,z,h⟩=>t1 u z h λx J v I F E y j r1 h1=>by
  cases x with
  |bl k=>exact{k,r1,aM j (aX.ext h1 E) rfl}
  |_=>exact h1.elim
variable{ta tb:Env->Mem->Res Bool}
def Hw (h:DT fa X a ta):DW fa X (.BoolOp .And [a] pos) ta:=GH h
def Lg (h:DT fa X a ta):DW fa X (.BoolOp .Or [a] pos) ta:=JE h
def N9 {Q:Bool->Hp->Prop}(x:Ext μ H μ' H')(h:ae b' λb M'=>∀u j,Ext μ H j u->RelM fa X.K j u M'->Q b u):ae b' λb M'=>∀u j,Ext μ' H' j u->RelM fa X.K j u M'->Q b u:=
 aU h λb M q u j y m=>q u j (x.trans y) m
def Lh {rest:List Expr}(I:DT fa X a ta)(J:DW fa X (.BoolOp .And (b::rest) pos) tb):DW fa X (.BoolOp .And (a::b::rest) pos) (λZ M=>(ta Z M).bind λk M=>if k then tb Z M else .ok false M):=
 zM (JF I J) λO H Q ⟨L,Z,M,E,F,h⟩=>zg E F h λk B z u y v j h1=>by
  cases k with
  |true=>exact{u,Z,B,v,j,N9 y h1}
  |false=>exact h1 z u y j
def Nl {rest:List Expr}(I:DT fa X a ta)(J:DW fa X (.BoolOp .Or (b::rest) pos) tb):DW fa X (.BoolOp .Or (a::b::rest) pos) (λZ M=>(ta Z M).bind λk M=>if k then .ok true M else tb Z M):=
 zM (MA I J) λO H Q ⟨L,Z,M,E,F,h⟩=>zg E F h λk B z u y v j h1=>by
  cases k with
  |true=>exact h1 z u y j
  |false=>exact{u,Z,B,v,j,N9 y h1}
def Li (E:DT fa X a ta):DT fa X (.UnaryOp .Not a pos) (λZ M=>(ta Z M).bind λk M=>.ok (!k) M):=
 jZ (JI E) λL H Q ⟨J,Z,M,y,B,h⟩=>zg y B h λk I v u F z j h1=>h1 v u F j
def Di (F:DE fa X a ga)(he:∀whole,isTrue a X.env whole=(do let v <- whole;standAt a.pos;holding [v] (truthy v))):DT fa X a (λZ M=>(ga Z M).bind λx M=>b9 M (jO M x)):=
 jZ (Co F he) λO H Q ⟨L,Z,M,z,E,h⟩=>t1 z E h λx J v y u I B j r1 h1=>by
  obtain⟨k,e,q⟩:=j3 h1;exact{k,OB j r1 e,q y u I j}
def Ny (J:DT fa X c gc)(F:DE fa X a ga)(I:DE fa X b gb):DE fa X (.IfExp c a b pos) (λZ M=>(gc Z M).bind λk M=>if k then ga Z M else gb Z M):=
 bt (tO J F I) λP H Q ⟨O,Z,M,B,E,h⟩=>zg B E h λk y L v z j u h1=>by
  cases k with
  |true=>exact{v,Z,y,j,u,ju h1 z}
  |false=>exact{v,Z,y,j,u,ju h1 z}
def NB (J:DE fa X a ga)(L:DE fa X b gb)(hs:iY b):DE fa X (.Subscript a b pos) (λZ M=>(ga Z M).bind λx M=>(gb Z M).bind λy M=>b9 M (bQ x y M)):=
 bt (xq MX J L hs) λS H Q ⟨R,Z,M,E,I,h⟩=>t2 E I h λx y B v u P z O F j r1 r2 h2=>by
  obtain⟨d,e,q⟩:=j3 h2;exact{z,B,x,y,d,j,r1,r2,e,q.ext O}
def DO (fa:Fa)(X:Cx)(e:Option Expr)(z:Bool)(g:Env->Mem->Res D):Prop:=PO X e λB H Q=>∃u v M,bc fa X.K u H B v/\RelM fa X.K u H M/\ae (g v M) λd y=>∃o,eh z d=true/\pz d=some o/\∀j h,Ext u H h j->RelM fa X.K h j y->Q o j
def HC:DO fa X none false (λ_ M=>.ok .non M):=λh s v H Q I ⟨u,z,M,y,j,o,_,e,k⟩=>by
 cases e;exact GO h s v H Q I (k H u .refl j)
def HB (E:DE fa X a ga):DO fa X (some a) true ga:=λj s L H Q I ⟨F,J,M,z,B,h⟩=>GN E j s L H Q I {F,J,M,z,B,aU h λd O ⟨o,p,e,k⟩ v y u x m r=>by
 cases d with
 |int i=>cases e;exact{i,r,k y u x m}
 |_=>cases p}
def part_of {d:D}(h:eh hp d=true):∃o,pz d=some o:=by
 cases hp<;>cases d<;>first|exact{_,rfl}|cases h
set_option tactic.hygienic true in
def Nu (m hl hh:Bool){lo hi:Option Expr}(ha:DE fa X a ga)(F:DO fa X lo hl gl)(E:DO fa X hi hh gh):DE fa X (.Subscript a (.Slice lo hi none p2) pos)
 (λZ M=>(ga Z M).bind λx M=>(gl Z M).bind λl M=>(gh Z M).bind λh M=>if eh hl l&&eh hh h then gx m x l h M else .bad):=
 bt (Ct (Gj m) ha F E) λσ H Q ⟨μ,Z,M,hE,hM,h⟩=>t1 hE hM h λx U v H1 J x1 j y r1 h1=>by
  obtain⟨l,W,e2,h2⟩:=az h1;obtain⟨u,Y,e3,h3⟩:=az h2;split at h3
  ·next c=>
   rw[Qs] at c;obtain⟨ol,P⟩:=part_of c.1;obtain⟨ou,R⟩:=part_of c.2;refine{J,Z,U,j,y,?_};rw[e2];refine{ol,c.1,P,λH2 L I z=>{L,Z,W,j.ext I,z,?_}};rw[e3];exact{ou,c.2,R,λH3 O S B=>{O,Y,x,l,u,B,(r1.ext I).ext S,P,R,ju h3 ((x1.trans I).trans S)}}
  ·exact h3.elim
def LI:DA fa X [] (λ_ M=>.ok [] M):=zV cW λz H Q ⟨u,y,M,v,j,h⟩=>h [] H u .refl j rfl
def HN (P:DE fa X a ga)(hs:DA fa X es gs)(I:starEach (a::es) X.env=(false,eval a X.env)::starEach es X.env) :
 DA fa X (a::es) (λZ M=>(ga Z M).bind λx M=>(gs Z M).bind λxs M=>.ok (x::xs) M):=
 zV (bI P hs I) λσ H Q ⟨μ,Z,M,J,O,h⟩=>t1 J O h λx W v U S R j u r1 h1=>sS j u h1 λxs Y B F z E L y r2 h2=>h2 (v::B) F z (R.trans E) y {v,B,rfl,r1.ext E,r2}
set_option tactic.hygienic true in
def Nr (hs:DA fa X es gs):DE fa X (.Tuple es k pos) (λZ M=>(gs Z M).bind kU):=
 bt (JM hs) λL H Q ⟨J,Z,M,u,y,h⟩=>sS u y h λxs F I E B z v j r1 h1=>by
  unfold kU at h1;split at h1
  ·next c=>exact{by rw[r1.length,<- cQ];exact c,iZ j r1 (aX.ext h1 z)}
  ·exact h1.elim
def Nx (m:Bool)(hs:DA fa X es gs):DE fa X (.List es pos) (λZ M=>(gs Z M).bind (ba m)):=
 bt (JR hs) λL H Q ⟨J,Z,M,u,y,h⟩=>sS u y h λxs F I E B z v j r1 h1=>by
  obtain⟨c,k⟩:=fV j r1 (ju h1 z);exact{by rw[r1.length,<- cQ];exact c,k}
end
def mB (o:Obj)(f:Array Qo->Array Qo):(o.mapFields f).dict=o.dict:=by
 obtain⟨c,d,h,sl⟩:=o;cases h<;>rfl
section
variable{P:Q0}{w:Q2}{M:Model}{A:RL}{E:Qo->Qr->Prop}{base:Heap}{env:R0}{outer:List R0}{L a C:Addr}{dx:Option Addr}{New:Addr->Prop}{H:Hp}{s:Qr}{Q:Unit->Qr->Prop}
def vq (hfr:A.frames=some (env::outer))(hl:s.heap.FunFrames base (env::outer))(hf:env.frame=some L)
 (he:s.heap.get? a=some oe) (hd:oe.data=.fields vs) (hsz:1<vs.size)
 (h:∀h' T oT ts,(∀b o,b∉fK (env::outer)->b≠a->s.heap.get? b=some o->h'.get? b=some o)->(∀b o,b≠a->s.heap.get? b=some o->∃sl,h'.get? b=some {o with slots:=sl})->s.heap.objs.size<=T->T≠a->
  h'.get? a=some (oe.mapFields (·.setIfInBounds 1 (.ref T)))->h'.get? T=some oT->oT.data=.fields ts->ts[3]?=some .none->Q () {s with heap:=h'}) :
 wpAny M A (do let f <- frameOf env;let pl <- entryPlaceOf L had;let b <- EntryCells.newEntry head f .none (rawInt L) .none pl;setField (.ref a) 1 b) (λ_ s'=>wpAny M A (setFlight (.ref a) none) Q E s') E s:=by
 have S:a∉fK (env::outer):=λhm=>by
  obtain⟨_,o,ho,hnf⟩:=hl.mem hm;rw[he] at ho;cases ho;exact hnf vs hd
 refine tqa (wpAny_frameOf_fun hfr hl hf λj v=>?_);refine tqa (wpAny_entryPlaceOf λpl U=>?_);refine tqa (wpAny_newObj_type ?_ (U.sizeOk5 _ _ _ _ _));have F:j.get? a=some oe:=(v.2.1 a S).trans he;generalize ho:({cls:=.type "traceback",dict:=none,data:=.fields ([head,.ref L,.none,rawInt L,.none]++(if pl.isEmpty then List.replicate 6 Value.none else pl)).toArray}:Obj)=o;have O:o.data=.fields ([head,.ref L,.none,rawInt L,.none]++(if pl.isEmpty then List.replicate 6 Value.none else pl)).toArray:=by rw[<- ho]
 have I:=Qq o F;refine wpAny_setField I hd hsz ?_;have R:=Rt (QG F);have B:=RN hd (·.setIfInBounds 1 (Value.ref j.objs.size));have J:=Ro (Obj.mapFields (·.setIfInBounds 1 (Value.ref j.objs.size))) I (Ss B);have y:=(QU (j.push o) (Obj.mapFields (·.setIfInBounds 1 (Value.ref j.objs.size))) (Ru R)).trans (QK j (Ss O));refine tqa (tqf J B (x:=.ref j.objs.size) (by simp[hsz]) ?_)
 rw[if_pos `s]
 refine wpAny_setField y O (by simp only[QD,Rp,RV,List.length_nil]<;>omega) ?_
 have keep:∀b u,b≠a->j.get? b=some u->(((j.push o).update a (Obj.mapFields (·.setIfInBounds 1 (Value.ref j.objs.size)))).update j.objs.size (Obj.mapFields (·.setIfInBounds 3 ((none:Option Addr).elim Value.none λf=>rawInt f)))).get? b=some u:=λb u z W=>by
  have Y:=Rt (QG W);rw[QU _ _ Y,QU _ _ (Ru z)];exact Qq _ W
 refine h _ j.objs.size _ _ (λb u W z q=>keep b u z ((v.2.1 b W).trans q)) (λb u z q=>?_) (Nat.le_of_eq v.1.symm) R ?_ (Ro _ y (Ss (RN O _))) (RN O _) ?_
 ·obtain⟨sl,e⟩:=v.2.2 b u q;exact{sl,keep b _ z e}
 ·rw[QU _ _ R];exact J
 ·first|(simp;done)|(rcases U with rfl|⟨_,_,_,_,_,_,_,rfl⟩<;>simp)
def vU (hfr:A.frames=some (env::outer))(hl:s.heap.FunFrames base (env::outer))(hf:env.frame=some L)(hF:mM New C dx a s.heap H)(hN:∀b,s.heap.objs.size<=b->New b)(hok:d4 P w H s.heap)(I:∀b∈fK (env::outer),H b=none)
 (h:∀h' ch,(∀b∈ch,New b/\H b=none/\∃o vs,s.heap.get? b=some o/\o.data=.fields vs)->Un (fK (env::outer)) ch H H s.heap h'->d4 P w H h'->mM New C dx a h' H->Q () {s with heap:=h'}) :
 wpAny M A (noteFrame (.ref a) env) (λ_ s1=>wpAny M A (setFlight (.ref a) none) Q E s1) E s:=by
 obtain⟨na,ha,oe,vs,S,hc,Y,hd,tr⟩:=hF;have U:∀h' ch,(∀b∈ch,New b/\H b=none/\∃o vs,s.heap.get? b=some o/\o.data=.fields vs)->(∀b o,b∉fK (env::outer)->b∉ch->s.heap.get? b=some o->h'.get? b=some o)->(∀b o,b∉ch->s.heap.get? b=some o->∃sl,h'.get? b=some {o with slots:=sl})->mM New C dx a h' H->Q () {s with heap:=h'}:=λh' ch W keep slot fl=>by
  refine h h' ch W {λb o q _ j B=>keep b o j B q,λb o q _ _ B=>slot b o B q,λ_ _ _ n _=>n,λb o q B=>let⟨sl,e⟩:=slot b o B q;{_,e},λ_ _ e=>e,λ_ _ _ e=>e,λb ps e=>{#[],by rw[e];simp}} (λb u e=>(hok b u e).stay (λc v hc q=>?_) (λ_ q=>q) λ_ _ q=>q) fl
  have nn:H c≠none:=by rcases hc with z|z<;>(intro z';first|(rw[z,e] at z';cases z')|(rw[z] at z';cases z'))
  exact keep c v (λz=>nn (I c z)) (λz=>nn (W c z).2.1) q
 unfold noteFrame;simp only[hf];rcases tr with h1|⟨T,oT,ts,h1,hTa,nT,hT0,hT,F,h3⟩
 ·refine tqa (tqf S hd h1 ?_);rw[if_neg `d]
  refine vq hfr hl hf S hd (RH.mp h1).1 λh' T oT ts k1 k2 O k4 k5 k6 k7 k8=>?_;refine U h' [a] (λb j=>?_) (λb o j B q=>k1 b o j (λz=>B (by simp[z])) q) (λb o B q=>k2 b o (λz=>B (by simp[z])) q) {na,ha,_,_,k5,?_,?_,RN hd _,.inr {T,oT,ts,by simp[(RH.mp h1).1],k4,hN _ O,hok.fresh O,k6,k7,k8}}
  ·rcases QN.mp j with rfl
   exact⟨na,ha,oe,vs,S,hd⟩
  ·rw[Obj.cls_mapFields];exact hc
  ·rw[mB];exact Y
 ·refine tqa (tqf S hd h1 ?_);rw[if_pos `s]
  refine tqa (tqf hT F h3 ?_);rw[if_neg (by simp[rawInt])]
  refine tqa (wpAny_setField hT F (RH.mp h3).1 ?_);have y:∀b,b≠T->(s.heap.update T (Obj.mapFields (·.setIfInBounds 3 Value.none))).get? b=s.heap.get? b:=λb j=>QU _ _ (Ru j);have R:∀b o,s.heap.get? b=some o->(∀vs,o.data≠.fields vs)->b≠T:=λb o j J q=>by
   rw[q,hT] at j;cases j;exact J ts F
  have hz:(s.heap.update T (Obj.mapFields (·.setIfInBounds 3 Value.none))).objs.size=s.heap.objs.size:=Heap.size_after_update ..;refine vq hfr (hl.of_keeps λb o j J=>{o,(y b (R b o j J)).trans j,rfl}) hf ((y a (Ru hTa)).trans S) hd (RH.mp h1).1 λh' T' oT' ts' k1 k2 O k4 k5 k6 k7 k8=>?_;have O:s.heap.objs.size<=T':=by rw[<- hz];exact O
  refine U h' [a,T] (λb j=>?_) (λb o j B q=>k1 b o j (λz=>B (by simp[z])) ((y b (λz=>B (by simp[z]))).trans q)) (λb o B q=>k2 b o (λz=>B (by simp[z])) ((y b (λz=>B (by simp[z]))).trans q)) {na,ha,_,_,k5,?_,?_,RN hd _,.inr {T',oT',ts',by simp[(RH.mp h1).1],k4,hN _ O,hok.fresh O,k6,k7,k8}}
  ·rcases Q1.mp j with rfl|j
   ·exact⟨na,ha,oe,vs,S,hd⟩
   ·rcases QN.mp j with rfl
    exact⟨nT,hT0,oT,ts,hT,F⟩
  ·rw[Obj.cls_mapFields];exact hc
  ·rw[mB];exact Y
end
def fP (P:Q0)(w:Q2):n4:=λouter H s E e s'=>∃a C dx H',e=.ref a/\s'.os=s.os/\AllBare s'.gens/\Un (fK outer) [] H H' s.heap s'.heap/\d4 P w H' s'.heap/\mM (λb=>s.heap.get? b=none) C dx a s'.heap H'/\E (.ref C) dx H'
def mM.imp (f:mM New C dx a h H)(i:∀b,New b->New' b):mM New' C dx a h H:=by
 obtain⟨u,j,o,F,h1,h2,h3,h4,B⟩:=f;refine{i _ u,j,o,F,h1,h2,h3,h4,?_};rcases B with t|⟨T,v,ts,t1,t2,y,z⟩
 ·exact .inl t
 ·exact .inr {T,v,ts,t1,t2,i _ y,z}
section
variable{P:Q0}{w:Q2}{K:Ql}{mg:Str->Option Qo}{base:Heap}{N:List Str}{qual:Str}{scope:Scope}{f:Addr}{cd:Qo}{A:RL}{outer:List R0}{s:Qr}{H:Hp}{E:XK}
def CP (I:Inv (eM (fP P w) P w K mg base N qual scope f cd A outer s H E) pins σ H' s')(W:mM (oU (eM (fP P w) P w K mg base N qual scope f cd A outer s H E)) C dx a s'.heap H')(U:E (.ref C) dx H') :
 (eM (fP P w) P w K mg base N qual scope f cd A outer s H E).xe (.ref a) s':=by
 have F:=I.stack;have J:=I.sz;have Y:∀b o,s.heap.get? b=some o->b∈fK (envOfC qual scope s.heap.objs.size f cd::outer)->b∈fK outer:=λb o q y=>by
  rcases Q1.mp (y) with e|e
  ·exact absurd (QG q) (by rw[e];exact RO _)
  ·exact e
 unfold eM;refine tqa (vU (New:=λb=>s.heap.get? b=none) I.ok.frames F rfl (W.imp λb z=>z.1) (λb z=>SN (QF J z)) I.hok I.stkFree λh' R B u hok fl=>?_);have v:∀b o,s.heap.get? b=some o->b∉R:=λb o q z=>by have:=(B b z).1;rw[q] at this;cases this
 have h:=I.base;refine{a,C,dx,H',rfl,I.os,I.bare,{λb o q n y j=>?_,λb o q n y j=>?_,h.free,λb o q j=>?_,h.tups,h.frzs,h.tbls},hok,fl,U}
 ·exact u.keep b o (h.keep b o q n y j) (h.free b o q n j) (λz=>y (Y b o q z)) (v b o q)
 ·obtain⟨sl,e⟩:=h.slot b o q n y j;obtain⟨O,S⟩:=u.any e (h.free b o q n j) (v b o q);exact⟨O,S⟩
 ·obtain⟨o',e⟩:=h.there b o q j;exact u.there b o' e (v b o q)
end
section
variable{X:Cx}{pins:List (Addr×Obj)}{σ:L2.St}{H H':Hp}{s s':Qr}{E:XK}{e:Qo}
def rC (I:Inv X pins σ H s)(v:X.ex=[])(h:fP X.prog X.w X.stack H s E e s'):∃a C dx H',e=.ref a/\Inv X pins σ H' s'/\mM (oU X) C dx a s'.heap H'/\E (.ref C) dx H':=by
 obtain⟨a,C,dx,H',rfl,os,bare,un,hok,fl,q⟩:=h;refine{a,C,dx,H',rfl,I.call' os un hok bare (λb z=>absurd z `s),fl.imp λb z=>{?_,λp u e=>?_},q}
 ·cases e:X.s₀.heap.get? b with
  |none=>rfl
  | some o =>
    obtain⟨y,j⟩:=I.base.there b o e (by rw[v];simp)
    rw[z] at j;cases j
 ·have:=(I.pin p (Rv _ u)).1;rw[e,z] at this;cases this
def C4 (I:Inv X pins σ H s)(j:∀b∈ch,X.s₀.heap.get? b=none/\(∃o vs,s.heap.get? b=some o/\o.data=.fields vs)/\∀p∈X.pn++pins,p.1≠b)(u:Un (fK X.stack) ch H H s.heap h')(hok:d4 X.prog X.w H h'):Inv X pins σ H {s with heap:=h'}:=by
 obtain⟨m,⟨o,es,ep,ho,hd,r⟩,hl⟩:=id I.loc;have J:X.env.locals∉ch:=λz=>by
  obtain⟨R,vs,e,d⟩:=(j _ z).2.1;rw[ho] at e;cases e;rw[hd] at d;cases d
 have F:∀x c,X.env.cells.lookup x=some c->c∉ch:=λx c e z=>by
  obtain⟨R,vs,U,d⟩:=(j _ z).2.1;obtain⟨v,o2,e2,d2⟩:=I.cell x c e;rw[e2] at U;cases U;rw[d2] at d;cases d
 have n0:∀b o,X.s₀.heap.get? b=some o->b∉ch:=λb o e z=>by rw[(j b z).1] at e;cases e
 have O:∀b o,X.s₀.heap.get? b=some o->b∉X.fs->b∉fK X.stack:=λb o e n z=>(Q1.mp (I.stkSub b z)).elim (λq=>absurd (QG e) (by rw[q];exact Nat.not_lt.mpr I.ok.above)) n
 obtain⟨sl,hL⟩:=u.any ho I.free J;have h:∀x c,X.env.cells.lookup x=some c->∀v,s.heap.IsCell c v->h'.IsCell c v:=λx c e v ⟨o,ho,hd⟩=>by
  obtain⟨sl,q⟩:=u.any ho (I.freeC x c e) (F x c e);exact{_,q,hd}
 refine{I.ok,I.os,I.bare,{λb o e n B y=>?_,λb o e n B y=>?_,I.base.free,λb o e y=>?_,I.base.tups,I.base.frzs,I.base.tbls},{m,{_,es,ep,hL,hd,r},λi x v e1 e2 e3=>?_},λx c e=>?_,I.free,I.freeC,λp W=>?_,hok,I.len}
 ·exact u.keep b o (I.base.keep b o e n B y) (I.base.free b o e n y) (O b o e B) (n0 b o e)
 ·obtain⟨sl,e1⟩:=I.base.slot b o e n B y;obtain⟨S,e2⟩:=u.any e1 (I.base.free b o e n y) (n0 b o e);exact⟨S,e2⟩
 ·obtain⟨R,e1⟩:=I.base.there b o e y;exact u.there b R e1 (n0 b o e)
 ·obtain⟨u',r',l⟩:=hl i x v e1 e2 e3;refine{u',r',?_};rcases l with l|⟨k,c,e,z⟩
  ·exact .inl l
  ·exact .inr {k,c,e,h x c e _ z}
 ·obtain⟨v,z⟩:=I.cell x c e;exact{v,h x c e v z}
 ·obtain⟨e,n,ne,Y,d⟩:=I.pin p W;exact{u.keep p.1 p.2 e n (λz=>(Q1.mp (I.stkSub _ z)).elim ne Y) λz=>(j _ z).2.2 p W rfl,n,ne,Y,d}
def AF (I:Inv X pins σ H s)(J:X.ex=[])(hn:H a=none)(O:X.s₀.heap.get? a=none)(R:∃ob vs,s.heap.get? a=some ob/\ob.data=.fields vs)(S:∀p∈X.pn++pins,p.1≠a)(new:cf X.prog X.w (upd H a o) s.heap a o):Inv X pins σ (upd H a o) s:=by
 obtain⟨ob,vs,j,hd⟩:=R;have ne:∀b u,H b=some u->b≠a:=λb u e=>aV e hn;refine{I.ok,I.os,I.bare,{I.base.keep,I.base.slot,λb o e n J=>?_,I.base.there,λb xs e=>?_,λb o u e=>?_,λb ps e=>?_},I.loc,I.cell,?_,λx c e=>?_,λp y=>?_,λb u e=>?_,I.len}
 ·rw[ao (λz=>by rw[z,O] at e;cases e)];exact I.base.free b o e n J
 ·have q:=I.base.tups b xs e;rw[ao (ne b _ q)];exact q
 ·have q:=I.base.frzs b o u e;rw[ao (ne b _ q)];exact q
 ·obtain⟨m,q⟩:=I.base.tbls b ps e;exact{m,by rw[ao (ne b _ q)];exact q}
 ·obtain⟨m,⟨oL,W,U,ho,h,_⟩,_⟩:=id I.loc;rw[ao (λz=>by rw[z,j] at ho;cases ho;rw[hd] at h;cases h)];exact I.free
 ·obtain⟨v,Y,e2,B⟩:=I.cell x c e;rw[ao (λz=>by rw[z,j] at e2;cases e2;rw[hd] at B;cases B)];exact I.freeC x c e
 ·obtain⟨e,n,r⟩:=I.pin p y;exact{e,by rw[ao (S p y)];exact n,r}
 ·by_cases F:b=a
  ·subst F;rw[bA] at e;cases e;exact new
  ·rw[ao F] at e;exact(I.hok b u e).stay (λc v _ q=>q) (λc q=>by rw[ao (ne c _ q)];exact q) λc xs q=>by rw[ao (ne c _ q)];exact q
end
def fb {h:Type}(r:Res h)(k:h->Mem->Prop)(j:D->Mem->Prop):Prop:=match r with
 |.ok a M=>k a M
 |.err x M=>j x M
 |.bad=>False
def J5 {j:Type}{r:Res j}{k:j->Mem->Prop}{u:D->Mem->Prop}(h:ae r k):fb r k u:=by
 cases r with
 |ok a M=>exact h
 |err=>exact h.elim
 |bad=>exact h
def Fj (fa:Fa)(K:Ql)(μ:Mu)(H:Hp)(E:XK)(x:D)(M':Mem):Prop:=∀C dx c p H' h,Ext μ H h H'->RelM fa K h H' M'->x=.exc c p->fa (eU c)=some C->u6 H' c dx p->E (.ref C) dx H'
def Er:Passes (fP P w) X E0:=λ_ _ _ _ _ _ _ h=>let{_,_,_,_,_,_,_,_,_,_,z}:=h;z.elim
def Ei (fa:Fa)(K:Ql)(k:Nat)(call:List D->Mem->Res D):Sp:=λu H Q E=>u.length=k/\∃h M j,RelM fa K h H M/\aG fa K h H j u/\fb (call j M) (aX fa K h H Q) (Fj fa K h H E)
def gO (fa:Fa)(P:Q0)(w:Q2)(K:Ql)(mg:Str->Option Qo)(base:Heap)(n:Nat)(f:Nat)(call:List D->Mem->Res D):Prop:=
 (∀h M,call h M=.bad)\/∃(ad:Addr) (j:FuncData) (ps:List Str),fa f=some ad/\PySem.W.keepIn K (.ref ad)=true/\Binds K j ps []/\(∀h M,h.length≠ps.length->call h M=.bad)/\jV P w K mg base (fP P w) (2*n+4) ad j ps (Ei fa K ps.length call)/\((fa (500+f)).isSome=true->Binds K j ps [.none])
section
variable{fa:Fa}{X:Cx}{a b d:Expr}{ga gb gd:Env->Mem->Res D}{pos p:Pos}{es:List Expr}{gs:Env->Mem->Res (List D)}{n:Nat}
def Bf {call:List D->Mem->Res D}{r:Res (List D)}(j:∀ds M,call ds M=.bad)(h:ae (r.bind λds M=>call ds M) P):False:=by
 obtain⟨ds,M,_,q⟩:=az h;rw[j] at q;exact q
def rM {call:List D->Mem->Res D}(v:bc fa X.K μ H σ Z)(z:RelM fa X.K μ H M)(h:ae ((gs Z M).bind λds M=>call ds M) (aX fa X.K μ H Q))
 (B:∀ds M1,ds.length≠k->call ds M1=.bad):Eg (Ei fa X.K k call) [] E0 (tA fa X.K gs) σ H Q:=by
 refine sS v z h λds M1 I F u E y j r1 h1=>?_;rw[RZ];refine{?_,u,M1,ds,j,r1,J5 (ju h1 E)};rw[r1.length];by_cases hl:ds.length=k
 ·exact hl
 ·rw[B ds M1 hl] at h1;exact h1.elim
def LO {call:List D->Mem->Res D}(C:gO fa X.prog X.w X.K X.mg X.base n f call)(hr:bW (2*n+4) X.A)(E:Gl X x)(hm:∀ad,fa f=some ad->X.mg x=some (.ref ad))(hs:DA fa X (a::es) gs)
 (j:(x==("__debug__":Str))=false) (he:starEach (a::es) X.env=(false,eval a X.env)::starEach es X.env) (u:(backTo pos (starEach es X.env)).any (·.1)=false) :
 DE fa X (.Call (.Name x p) (a::es) [] pos) (λZ M=>(gs Z M).bind λds M=>call ds M):=by
 rcases C with B|⟨ad,O,ps,h1,h2,h3,h4,F,_⟩
 ·exact λz s L H Q I ⟨J,Z,M,v,y,h⟩=>(Bf B h).elim
 ·exact bt (GQ F hr E (hm ad h1) h2 h3 .nil Er hs j he u) λL H Q ⟨J,Z,M,v,y,h⟩=>rM v y h h4
def HR {i:Nat}{x:Str}{call:Nat->List D->Mem->Res D}(C:∀f,gO fa X.prog X.w X.K X.mg X.base n f (call f))(hr:bW (2*n+4) X.A)(hN:X.N[i]?=some x)(hv:u7 X.env.scope x)(hs:DA fa X (a::es) gs)
 (hd:(x==("__debug__":Str))=false) (z:(x==("__classdict__":Str))=false) (he:starEach (a::es) X.env=(false,eval a X.env)::starEach es X.env) (B:(backTo pos (starEach es X.env)).any (·.1)=false) :
 DE fa X (.Call (.Name x p) (a::es) [] pos) (λZ M=>match Z[i]?.getD none with|some (.fn f)=>(gs Z M).bind λds M=>call f ds M|_=>.bad):=by
 intro y s R H Q I ⟨μ,Z,M,P,hM,h⟩;dsimp only at h;cases e:Z[i]?.getD none with
 |none=>rw[e] at h;exact h.elim
 | some df =>
   cases df with
   | fn f =>
     rw[e] at h;have e':Z[i]?=some (some (.fn f)):=by
      cases q:Z[i]? with
      |none=>rw[q] at e;cases e
      |some o=>rw[q] at e;simp at e;rw[e]
     obtain⟨v,E,J⟩:=P.at' i _ e';obtain⟨ad,rfl,j⟩:=J;rcases C f with hb|⟨Y,fd,ps,h1,h2,h3,h4,F,_⟩
     ·exact(Bf hb h).elim
     ·rcases j with j|⟨j,_⟩<;>rw[j] at h1<;>cases h1
      refine wpAny_Call_Name_kw (aQ (pw hN hv hd z y s R H (λv S=>v=.ref ad/\S=H) I {_,E,rfl,rfl}) λu s1 ⟨v,U,L,r1,e1,e2⟩=>?_);subst e1 e2;obtain rfl:u=Value.ref ad:=r1;refine SR L.ok.mod.kin h2 (aQ (hs pos y s1 R U _ L (rM P hM h h4)) λus s2 ⟨vs,H2,O,r,q⟩=>{O.kIn,?_}) he B;exact zF F hr h3 .nil Er O r q
   |_=>rw[e] at h;exact h.elim
def yd (f:wU){id:String}(I:b8 X (.builtin id) (om fa X.K f))(J:Gl X x)(hm:X.mg x=none)(L:bootBuiltins x=some (.builtin id))(hs:DA fa X (a::es) gs)(hn:x≠"__name__")(u:(x==("__debug__":Str))=false)
 (he:starEach (a::es) X.env=(false,eval a X.env)::starEach es X.env) (v:(backTo pos (starEach es X.env)).any (·.1)=false):DE fa X (.Call (.Name x p) (a::es) [] pos) (λZ M=>(gs Z M).bind λds M=>ff f ds M):=
 bt (i7 I J hm L hs hn u he v) λU H Q ⟨S,Z,M,B,F,h⟩=>sS B F h λds z R P y O E j r1 h1=>{y,z,ds,j,r1,ju h1 O}
def AZ (f:wU)(I:b8 X (.type T) (om fa X.K f))(J:Gl X x)(hm:X.mg x=none)(L:bootBuiltins x=some (.type T))(hs:DA fa X (a::es) gs)(hn:x≠"__name__")(u:(x==("__debug__":Str))=false)
 (he:starEach (a::es) X.env=(false,eval a X.env)::starEach es X.env) (v:(backTo pos (starEach es X.env)).any (·.1)=false):DE fa X (.Call (.Name x p) (a::es) [] pos) (λZ M=>(gs Z M).bind λds M=>ff f ds M):=
 bt (rj I J hm L hs hn u he v) λU H Q ⟨S,Z,M,B,F,h⟩=>sS B F h λds z R P y O E j r1 h1=>{y,z,ds,j,r1,ju h1 O}
def LJ (t:Ty)(R:∀c,t≠.own c)(O:DE fa X a ga)(P:Gl X "isinstance")(hm:X.mg "isinstance"=none)(S:bootBuiltins "isinstance"=some (.builtin "isinstance"))(y:Gl X x)(z:X.mg x=none)(B:bootBuiltins x=some (.type (tyName t)))
 (hn:x≠"__name__") (u:(x==("__debug__":Str))=false)
 (he:starEach [a,.Name x p1] X.env=(false,eval a X.env)::starEach [.Name x p1] X.env):DE fa X (.Call (.Name "isinstance" p2) [a,.Name x p1] [] pos) (λZ M=>(ga Z M).bind λx M=>(b9 M (gE t x)).bind λb M=>.ok (.bl b) M):=
 bt (i7 (K8 t R) P hm S (bI O (bI (GR y z B (v:=.ty (tyName t)) rfl hn u) cW `r) he) `d `d he `r) λσ H Q ⟨Y,Z,M,I,L,h⟩=>t1 I L h λx F v W E U J j r1 h1=>by
  obtain⟨b,e,q⟩:=pC h1;exact{E,F,x,v,b,rfl,j,r1,e,aM j (q.ext U) rfl}
def gT (fa:Fa)(K:Ql)(t:fC):TG:=λv z H Q=>∃u y M d h,bc fa K u H z y/\RelM fa K u H M/\Rep fa K u H d v/\bL t d y=some h/\∀j,bc fa K u H j h->Q j H
def tN (h:PG X tg g)(i:∀v y H Q,g' v y H Q->g v y H Q):PG X tg g':=λj s y H v u Q I r q=>h j s y H v u Q I r (i v y H Q q)
def vQ (h:vc X tg g)(i:∀v y H Q,g' v y H Q->g v y H Q):vc X tg g':=λj s y H v u Q I r q=>h j s y H v u Q I r (i v y H Q q)
def HL (u:X.N.Nodup)(hi:X.N[i]?=some x)(z:Loc X.env.scope x)(y:X.fn x=true\/X.env.scope.names.lookup x=some .local):PG X (.Name x pos) (gT fa X.K (.one i)):=
 tN (qm u hi z y) λv J H Q ⟨F,I,M,d,B,j,E,r,e,k⟩=>by
  have h:=Qw e;subst h;exact k _ (j.set r)
def K1 (fa:Fa)(K:Ql)(l:List Nat):rY:=λz B H Q=>∃u y M v h,bc fa K u H B y/\RelM fa K u H M/\aG fa K u H v z/\cJ l v y=some h/\∀j,bc fa K u H j h->Q j H
inductive iO (X:Cx):List Nat->List Expr->Prop
 |nil:iO X [] []
 |cons {i:Nat}{x:Str}{p:Pos}{l:List Nat}{ns:List Expr} (hi:X.N[i]?=some x) (hx:Loc X.env.scope x) (hf:X.fn x=true\/X.env.scope.names.lookup x=some .local) (r:iO X l ns):iO X (i::l) (.Name x p::ns)
set_option tactic.hygienic true in
def iO.each (h:iO X l ns):(assignEach ns X.env).length=l.length/\(assignEach ns X.env).findIdx? (·.1)=none:=by
 induction h with
 |nil=>exact⟨rfl,rfl⟩
 | cons v y u r j =>
   rename_i i x p l ns;have e:assignEach (.Name x p::ns) X.env=(false,assign (.Name x p) X.env)::assignEach ns X.env:=rfl;rw[e];refine{by simp[j.1],?_}
   rw[List.findIdx?_cons];simp[j.2]
def uF (I:X.N.Nodup)(h:iO X l ns):vc X ns (K1 fa X.K l):=by
 induction h with
 | nil =>
   refine vQ vP λB S H Q ⟨E,R,M,j,u,y,z,r,e,k⟩=>?_;cases j with
   | nil =>
     obtain rfl:B=[]:=r;have F:=Qw e;subst F;exact{rfl,k _ y}
   |cons=>cases e
 | cons L O J r P =>
   refine vQ (oy (qm I L O J) P `r) λB S H Q ⟨E,R,M,j,u,y,z,r,e,k⟩=>?_
   cases j with
   |nil=>cases e
   | cons d j =>
     obtain⟨v,vr,rfl,r1,r2⟩:=r;exact{v,vr,rfl,E,_,M,j,u,y.set r1,z,r2,e,k}
def iy:∀{l:List Nat}{ds:List D}{Z j:Env},cJ l ds Z=some j->ds.length=l.length
 |[],[],_,_,_=>rfl
 |_::_,[],_,_,h=>by cases h
 |[],_::_,_,_,h=>by cases h
 | _ :: l, _ :: ds, _, _, h => by
   have:=iy (ds:=ds) h;simp[this]
def LG (E:X.calm=true)(B:X.N.Nodup)(h:iO X l ns):PG X (.Tuple ns k pos) (gT fa X.K (.tup l)):=
 tN (tM E (uF B h) h.each.1 h.each.2) λv O H Q ⟨J,L,M,d,j,y,z,r,e,k⟩=>by
  cases d with
  | tup u =>
    obtain⟨a,I,rfl,F,r⟩:=r;exact{a,I,rfl,F,by rw[r.length];exact iy e,J,L,M,u,j,y,z,r,e,k}
  |_=>cases e
set_option tactic.hygienic true in
def uV {d:D}(h:bL (.two j l) d Z=some ρ1):∃e ds,d=.tup [e,.tup ds]/\cJ l ds (Z.set j (some e))=some ρ1:=by
 unfold bL at h;split at h
 ·next e=>cases e
 ·next e=>cases e
 ·next e=>cases e;exact{_,_,rfl,h}
 ·cases h
 ·cases h
def LF (E:X.calm=true)(B:X.N.Nodup){ns:List Expr}(hi:X.N[i]?=some x)(S:Loc X.env.scope x)(P:X.fn x=true\/X.env.scope.names.lookup x=some .local)(h:iO X l ns):PG X (.Tuple [.Name x px,.Tuple ns k2 p2] k pos) (gT fa X.K (.two i l)):=
 tN (tM E (oy (qm B hi S P) (oy (tM E (uF B h) h.each.1 h.each.2) vP))) λv σ H Q ⟨μ,Z,M,d,y,L,O,r,e,k⟩=>by
  obtain⟨I,J,rfl,e⟩:=uV e;obtain⟨a,vs,rfl,R,U,W,rfl,r0,v1,u,rfl,r1,r2⟩:=r;obtain rfl:u=[]:=r2;obtain⟨b,Y,rfl,j,F⟩:=r1;exact{a,_,rfl,R,rfl,U,_,rfl,.ref b,[],rfl,b,Y,rfl,j,by rw[F.length];exact iy e,μ,Z.set i (some I),M,J,y,L.set r0,O,F,e,λz h1=>{rfl,k z h1}}
end
section
variable{fa:Fa}{X:Cx}{a b d:Expr}{ga gb gd:Env->Mem->Res D}{pos p:Pos}{es:List Expr}{gs:Env->Mem->Res (List D)}{n:Nat}
def Lr (P:DE fa X a ga)(Q:PG X tg (gT fa X.K t))(hs:swapsWithSole [tg] a pos.line X.env=pure false)(R:swappedStores [tg] a X.env=pure none)(h1:(assignEach [tg] X.env).map (·.2)=[assign tg X.env]) :
 DS fa X (.Assign [tg] a pos) (λZ M=>(ga Z M).bind λx M=>(b9 M (bL t x Z)).bind λj M=>.ok (.next j) M):=
 da (pj P Q hs R h1) λD σ H ⟨Y,Z,M,L,O,h⟩=>t1 L O h λx J v I y S B u r1 h1=>by
  obtain⟨j,W,e,q⟩:=az h1;cases z:bL t x Z with
  |none=>rw[z] at e;cases e
  | some U =>
    rw[z] at e;cases e;exact{y,Z,J,x,j,B,u,r1,z,λF E=>q F I y S E u}
def jq {z:Ends}{ad:Addr}(B:bc fa X.K μ H σ Z)(v:RelM fa X.K μ H M)(y:μ.pub k=some ad)(r:aG fa X.K μ H ds ws)
 (q:∀j u h,Ext μ H h u->bc fa X.K h u j Z->RelM fa X.K h u (M.set k ds)->z.nx j u):z.nx σ (upd H ad (.lst ws)):=
 q σ _ μ (Ext.write (vs:=ws) v y) (B.ext (Ext.write (vs:=ws) v y)) (v.write y r)
def Ln (ha:DE fa X a ga)(hb:DE fa X b gb)(hd:DE fa X d gd){p2:Pos}
 (h0:∀v,assign (.Subscript a b p2) X.env v=(do
  let B <- holding [v] (eval a X.env)
  let L <- holding [v,B] (eval b X.env)
  standAt p2
  holding [v,B,L] (setItem B L v)
  release [v,B,L] [])) (hs:swapsWithSole [.Subscript a b p2] d pos.line X.env=pure false) (hw:swappedStores [.Subscript a b p2] d X.env=pure none) (h1:(assignEach [.Subscript a b p2] X.env).map (·.2)=[assign (.Subscript a b p2) X.env]) :
 DS fa X (.Assign [.Subscript a b p2] d pos) (λZ M=>(gd Z M).bind λz M=>(ga Z M).bind λx M=>(gb Z M).bind λy M=>match x,y with
  | .cell k, .int n => match M[k]? with
    | some ds => match bY ds.length n with
      |some j=>.ok (.next Z) (M.set k (ds.set j z))
      |none=>.bad
    |none=>.bad
  |_,_=>.bad):=
 da (pj hd (zU ha hb set_list h0) hs hw h1) λW σ H ⟨μ,Z,M,hE,hM,h⟩=>t1 hE hM h λz M1 v H1 μ1 x1 F J r1 h1=>t2 F J h1 λx y M2 vx vy H2 μ2 U I u rx ry h2=>by
  have O:∀k n,x=.cell k->y=.int n->Ep vx vy v H2 λH3=>W.nx σ H3:=λk n e1 e2=>by
   subst e1 e2;dsimp only at h2;cases e:M2[k]? with
   |none=>rw[e] at h2;exact h2.elim
   | some ds =>
     rw[e] at h2;dsimp only at h2;cases E:LD.bY ds.length n with
     |none=>rw[E] at h2;exact h2.elim
     | some j =>
       rw[E] at h2;obtain⟨ad,rfl,S⟩:=rx;obtain⟨ws,h4,R⟩:=u.at_ e S;have q:=h2;refine{ad,ws,n,j,rfl,ry,h4,by rw[R.length];exact E,jq I u S (R.set j (r1.ext U)) λQ Y P x' e' m'=>q Q Y P ((x1.trans U).trans x') e' m'}
  cases x with
  | cell k => cases y with
    |int n=>exact O k n rfl rfl
    |_=>exact h2.elim
  |_=>exact h2.elim
set_option tactic.hygienic true in
def Lu (ha:DE fa X a ga)(hd:DE fa X d gd){j u:Pos}(v:attributeBase a "append" X.env (eval a X.env)=eval a X.env)(y:(j.endLine==u.line)=true)(hs:starEach [d] X.env=[(false,eval d X.env)])
 (P:swapsWith (.Call (.Attribute a "append" j) [d] [] u) none pos.line X.env=pure false) :
 DS fa X (.Expr (.Call (.Attribute a "append" j) [d] [] u) pos) (λZ M=>(ga Z M).bind λx M=>(gd Z M).bind λz M=>match x with
  | .cell k => match M[k]? with
    |some ds=>if ds.length<sz then .ok (.next Z) (M.set k (ds++[z])) else .bad
    |none=>.bad
  |_=>.bad):=
 da (iR (si PySem.F.plainAttrs_list PySem.F.slot_list_append PySem.F.type_list_append l7 ha (bI hd cW hs) v (by rw[hs];rfl) y hs `r) P) λD' σ H ⟨μ,Z,M,J,hM,h⟩=>by
  obtain⟨x,M1,e1,h1⟩:=az h;obtain⟨z,M2,e2,h2⟩:=az h1;cases x with
  | cell k =>
    dsimp only at h2;cases e:M2[k]? with
    |none=>rw[e] at h2;exact h2.elim
    | some ds =>
      rw[e] at h2;dsimp only at h2;split at h2
      ·next hz=>
       have q:=h2;refine{μ,Z,M,J,hM,?_};rw[e1];intro vx H1 U R B rx;obtain⟨ad,rfl,O⟩:=rx;obtain⟨ds1,Q,_,L,_⟩:=B.mu_lt O;refine{.inl {rfl,Q,cP.of L},U,Z,M1,J.ext R,B,?_};rw[e2];intro vz H2 μ2 I E rz;obtain⟨ws,h4,Y⟩:=E.at_ e (I.mu k ad O);refine{ad,ws,vz,rfl,rfl,h4,by rw[Y.length,<- cQ];exact hz,?_}
       exact jq ((J.ext R).ext I) E (I.mu k ad O) (Y.append (.one rz)) λW H' S x' e' m'=>q W H' S ((R.trans I).trans x') e' m'
      ·exact h2.elim
  |_=>exact h2.elim
def Nm (F:DE fa X a ga)(hs:swapsWith a none pos.line X.env=pure false):DS fa X (.Expr a pos) (λZ M=>(ga Z M).bind λ_ M=>.ok (.next Z) M):=
 da (iR F hs) λL J H ⟨P,Z,M,B,E,h⟩=>t1 B E h λx O v z y I j u r1 h1=>h1 J z y I j u
def Lm (v:DE fa X a ga):DS fa X (.Return (some a) pos) (λZ M=>(ga Z M).bind λx M=>.ok (.ret x) M):=
 da (zO v) λz E H ⟨y,Z,M,j,u,h⟩=>by
  obtain⟨x,B,e,q⟩:=az h;refine{y,Z,M,j,u,?_};rw[e];exact q
def Hy:DS fa X (.Return none pos) (λ_ M=>.ok (.ret .non) M):=da GK λu B H ⟨y,z,M,v,j,h⟩=>aM j h rfl
def Hz:DS fa X (.Pass pos) (λZ M=>.ok (.next Z) M):=da GL λz y H ⟨v,Z,M,j,u,h⟩=>h y H v .refl j u
set_option tactic.hygienic true in
def lP.ext (x:Ext μ H μ' H')(q:lP fa X μ H D' fl M):lP fa X μ' H' D' fl M:=by
 cases fl with
 |next u=>exact λv j h y e m=>q v j h (x.trans y) e m
 |ret d=>exact aX.ext q x
 |exc z u=>exact XW.ext q x
def J6 (x:Ext μ H μ' H')(h:ae r (lP fa X μ H D')):ae r (lP fa X μ' H' D'):=aU h λfl M q=>q.ext x
def Lo {st z:List Stmt}(I:DT fa X c gc)(L:kD fa X st gt)(J:kD fa X z gf):DS fa X (.If c st z pos) (λZ M=>(gc Z M).bind λk M=>if k then gt Z M else gf Z M):=
 da (MB I L J) λO R H ⟨Q,Z,M,E,F,h⟩=>zg E F h λk y P v B j u h1=>by
  cases k with
  |true=>exact{v,Z,y,j,u,J6 B h1}
  |false=>exact{v,Z,y,j,u,J6 B h1}
def Hx:kD fa X [] (λZ M=>.ok (.next Z) M):=vO vN λz y H ⟨v,Z,M,j,u,h⟩=>h y H v .refl j u
set_option tactic.hygienic true in
def Dj {st:Stmt}(h1:DS fa X st g)(h2:kD fa X ss g'):kD fa X (st::ss) (λZ M=>(g Z M).bind λfl M=>match fl with
 |.next Z=>g' Z M
 |fl=>.ok fl M):=
 vO (oo h1 h2) λL P H ⟨I,Z,M,B,E,h⟩=>by
  obtain⟨fl,z,e,q⟩:=az h;refine{I,Z,M,B,E,?_};rw[e];cases fl with
  |next j=>exact λJ O y F u v=>{y,j,z,u,v,J6 F q}
  |ret d=>exact q
  |exc x j=>exact q
end
def dh (fa:Fa)(K:Ql)(μ0:Mu)(H0:Hp)(w:Walk)(J:It):Prop:=
 ∀(h:Mu) (H:Hp) (M:Mem) (u:List D),ExtW μ0 H0 h H->RelM fa K h H M->w M=some u->(∀(i:Nat) (d:D),u[i]?=some d->J.go i H/\∀x j,J.yld i H x j->Ext h H h j/\RelM fa K h j M/\Rep fa K h j d x)/\∀i,u.length<=i->J.stop i H
def tI (fa:Fa)(K:Ql)(g:Env->Mem->Res Walk):TI:=λz H R=>∃u v M,bc fa K u H z v/\RelM fa K u H M/\ae (g v M) λw y=>∀J j h,Ext u H h j->RelM fa K h j y->dh fa K h j w J->R J j
abbrev DI (fa:Fa)(X:Cx)(tg h:Expr)(g:Env->Mem->Res Walk):Prop:=PI X tg h (tI fa X.K g)
def qT {K:Ql}(h:dh fa K μ0 H0 w J)(x:ExtW μ0 H0 μ1 H1):dh fa K μ1 H1 w J:=λv H M j y u e=>h v H M j (x.trans y) u e
section
variable{fa:Fa}{X:Cx}{tg a b d:Expr}{ga gb gd:Env->Mem->Res D}{pos p:Pos}{es:List Expr}{n:Nat}
def yJ {ad:Addr}(h:Rep fa X.K μ0 H0 dd (.ref ad)):dh fa X.K μ0 H0 (λM=>ef M dd) (Ma X.K ad):=λP H M O x u e=>by
 obtain⟨B,j,E,s,r⟩:=bu u (Rep.extW x h) e;cases E;refine{λi d hd=>?_,λi F=>{j,s,by rw[r.length];exact F}}
 obtain⟨v,z,J⟩:=r.get hd;refine{⟨j,v,s,z⟩,λy L ⟨e,I⟩=>?_};subst e;have:=I j s;rw[z] at this;cases this;exact{.refl,u,J}
def Bs {ad:Addr}(h:Rep fa X.K μ0 H0 (.tup ds) (.ref ad)):dh fa X.K μ0 H0 (λ_=>some ds) (L9 X.K ad):=λP H M B x F E=>by
 cases E;obtain⟨z,j,e,s,r⟩:=Rep.extW x h;cases e;refine{λi d hd=>?_,λi I=>{j,s,by rw[r.length];exact I}}
 obtain⟨v,u,L⟩:=r.get hd;refine{⟨j,v,s,u⟩,λy O ⟨e,J⟩=>?_};subst e;have:=J j s;rw[u] at this;cases this;exact{.refl,F,L}
def Bt (lo:Int)(n:Nat):dh fa X.K μ0 H0 (λ_=>some ((List.range n).map λ(k:Nat)=>D.int (lo+(k:Int)))) (Fp lo n):=λz H M v x j e=>by
 cases e;refine{λi d hd=>?_,λi h=>(show n<=i by simpa using h)}
 rw[QO] at hd;by_cases h:i<n
 ·rw[SM h] at hd;have e:=Qw hd;subst e;refine{h,λy u ⟨e1,e2⟩=>?_};subst e1 e2;exact{.refl,j,rfl}
 ·rw[List.getElem?_eq_none (by simpa using h)] at hd;cases hd
def bT (ga:Env->Mem->Res D):Env->Mem->Res Walk:=λj M=>(ga j M).bind λx M=>match x with
 |.lst h=>.ok (λ_=>some h) M
 |.tup h=>.ok (λ_=>some h) M
 |.frz h=>.ok (λ_=>some h) M
 |.cell k=>.ok (λM=>M[k]?) M
 |_=>.bad
def LC (Y:DE fa X a ga):DI fa X tg a (bT ga):=λu s S H R I ⟨Q,Z,M,U,W,h⟩=>by
 obtain⟨x,L,e,q⟩:=az h;have lst:(∀j B,RelM fa X.K j B L->∀v,Rep fa X.K j B x v->∃y,ef L x=some y)->(∀J B j,Ext Q H j B->RelM fa X.K j B L->dh fa X.K j B (λM=>ef M x) J->R J B)->
  wpAny (model X.prog X.w) X.A (eval a X.env) (λv s1=>wpAny (model X.prog X.w) X.A (pyIter v) (L5 X u S tg R) X.xe s1) X.xe s:=λhx q=>by
  refine GP Y u s S H R I {Q,Z,M,U,W,?_};rw[e];intro v F z P E r1;obtain⟨y,er⟩:=hx z F E v r1;obtain⟨ad,O,rfl,s1,r⟩:=bu E r1 er;exact{ad,rfl,⟨O,s1⟩,q _ F z P E (yJ r1)}
 cases x with
 |lst y=>exact lst (λ_ _ _ _ _=>⟨y,rfl⟩) q
 |frz y=>exact lst (λ_ _ _ _ _=>⟨y,rfl⟩) q
 | tup y =>
   refine JL Y u s S H R I {Q,Z,M,U,W,?_};rw[e];intro v F z P E r1;obtain⟨ad,O,rfl,s1,r⟩:=id r1;exact{ad,rfl,⟨O,s1⟩,q _ F z P E (Bs r1)}
 |cell k=>exact lst (λj B m' v ⟨ad,_,hk⟩=>let{y,_,e,_}:=m'.mu_lt hk;⟨y,e⟩) q
 |_=>exact q.elim
def dH (ga:Env->Mem->Res D):Env->Mem->Res Walk:=λh M=>(ga h M).bind λx M=>match x with
 |.int n=>if -(2^62)<=n/\n<2^62 then .ok (λ_=>some ((List.range n.toNat).map λ(k:Nat)=>D.int (k:Int))) M else .bad
 |_=>.bad
set_option tactic.hygienic true in
def HI (J:DE fa X a ga)(L:Gl X "range")(hm:X.mg "range"=none)(hs:starEach [a] X.env=[(false,eval a X.env)]):DI fa X tg (.Call (.Name "range" p) [a] [] pos) (dH ga):=λj s P H R I ⟨S,U,M,B,F,h⟩=>by
 refine zT L hm (bI J cW hs) hs j s P H R I ?_;refine t1 B F h λx Q v z u O E y r1 h1=>?_;cases x with
 | int n =>
   dsimp only at h1;split at h1
   ·next c=>
    obtain rfl:v=.int n:=r1;refine{n,rfl,c.1,c.2,h1 _ z u O y ?_};have:=Bt (fa:=fa) (X:=X) (μ0:=u) (H0:=z) 0 n.toNat;simpa using this
   ·exact h1.elim
 |_=>exact h1.elim
def hV (t:fC)(gb:Env->Mem->Res Fl):Fl->D->Mem->Res Fl:=λfl d M=>match fl with
 |.next j=>(b9 M (bL t d j)).bind λh M=>gb h M
 |fl=>.ok fl M
noncomputable def Fl.out:Fl->Bool
 |.next _=>false
 |_=>true
set_option tactic.hygienic true in
def kY {gb:Env->Mem->Res Fl}(ho:fl.out=true):∀(n i:Nat) (M:Mem),ae (fQ (hV t gb) w n i fl M) P->P fl M
 |0,_,_,h=>h.elim
 | n + 1, i, M, h => by
   unfold fQ at h;cases e:w M with
   |none=>rw[e] at h;exact h.elim
   | some j =>
     rw[e] at h;dsimp only at h;cases e2:j[i]? with
     |none=>rw[e2] at h;exact h
     | some v =>
       rw[e2] at h;cases fl with
       |next u=>cases ho
       |ret d=>exact kY ho n (i+1) M h
       |exc x u=>exact kY ho n (i+1) M h
def tL (fa:Fa)(X:Cx)(g:Env->Mem->Res Fl):TS:=λD h H=>(∀h H,D.nx h H->D.ct h H)/\tF fa X g D h H
abbrev Oz (fa:Fa)(X:Cx)(st:List Stmt)(g:Env->Mem->Res Fl):Prop:=kB X st (tL fa X g)
def Nn {body:List Stmt}{gb:Env->Mem->Res Fl}(h:kD fa X body gb):Oz fa X body gb:=λj s u H D I q=>h j s u H D I q.2
set_option tactic.hygienic true in
def Lq {gw:Env->Mem->Res Walk}{gb:Env->Mem->Res Fl}(hp:PassesOwn (model X.prog X.w) X.A X.env X.xe)(hc:X.calm=true)(hi:DI fa X tg a gw)(hg:PG X tg (gT fa X.K t))(hb:Oz fa X body gb)
 (hs:∀x,foldedSetIterable a X.env x=pure x):DS fa X (.For tg a body [] pos) (λZ M=>(gw Z M).bind λw M=>cF (hV t gb) w (.next Z) M):=
 da (JJ hp hc hi hg hb hs) λD' σ H ⟨μ,Z,M,hE,hM,h⟩=>by
  obtain⟨w,M1,e,q⟩:=az h;refine{μ,Z,M,hE,hM,?_};rw[e];intro J H1 I x1 hM1 wk;have hE1:=hE.ext x1;refine{λi m E F=>∃j u L,Ext I H1 j F/\bc fa X.K j F E u/\RelM fa X.K j F L/\ae (fQ (hV t gb) w m i (.next u) L) (lP fa X μ H D'),
   {_,I,Z,M1,.refl,hE1,hM1,q},?_}
  rintro i m σ2 H2 ⟨B,S,M2,R,O,P,v⟩;cases m with
  |zero=>exact v.elim
  | succ m =>
    unfold fQ at v;cases e2:w M2 with
    |none=>rw[e2] at v;exact v.elim
    | some ds =>
      rw[e2] at v;dsimp only at v;obtain⟨go,stop⟩:=wk B H2 M2 ds R.toExtW P e2;cases ed:ds[i]? with
      | none =>
        rw[ed] at v;exact .inl {stop i (List.getElem?_eq_none_iff.mp ed),v σ2 H2 B (x1.trans R) O P}
      | some d =>
        rw[ed] at v;obtain⟨g1,g2⟩:=go i d ed;refine .inr {g1,λE F=>∃j u L,Ext I H1 j F/\bc fa X.K j F E u/\RelM fa X.K j F L/\ae (fQ (hV t gb) w m (i+1) (.next u) L) (lP fa X μ H D'),λE F z=>{m,`a,z},λy H3 hy=>?_}
        obtain⟨x3,Q,r3⟩:=g2 y H3 hy;obtain⟨fl,M4,e4,q4⟩:=az v;obtain⟨U,M5,Y,e6⟩:=eO e4;cases eb:bL t d S with
        |none=>rw[eb] at Y;cases Y
        | some ρ5 =>
          rw[eb] at Y;cases Y;refine{B,S,_,d,U,O.ext x3,Q,r3,eb,λσ5 hE5=>{λ_ _ z=>z,B,U,_,hE5,Q,?_}};rw[e6];cases fl with
          |next W=>exact λσ6 H6 μ6 x6 hE6 hM6=>{μ6,W,M4,(R.trans x3).trans x6,hE6,hM6,q4}
          |ret d6=>exact(kY rfl m (i+1) M4 q4).ext ((x1.trans R).trans x3)
          |exc x6 W=>exact(kY rfl m (i+1) M4 q4).ext ((x1.trans R).trans x3)
end
abbrev FF:Qo->Qr->Prop:=λ_ _=>False
section
variable{prog:Q0}{w:Q2}{A:RL}{s:Qr}
def A2
 (J:compTurn ce k it acc env=(standAt p >>= λ_=>pyNext it >>= λr=>match r with
  |none=>pure (.done .next)
  |some v=>letOwnedTupleGo target it v >>= λ_=>assign target env v >>= λ_=>body >>= λ_=>again (.compLoop ce k it acc env)))
 (hd:(model prog w).den (.compLoop ce k it acc env)=(compTurn ce k it acc env).onRaise (λx=>do noteFrame x env;theTreesLotGoes x)/\A.under (.compLoop ce k it acc env)=A) (I:Nat->Qr->Prop)
 (turn:∀n s,I n s->wpAny (model prog w) A (pyNext it) (λr j=>match r with
  |none=>R (.ok .next) j
  |some v=>wpAny (model prog w) A (letOwnedTupleGo target it v) (λ_ y=>wpAny (model prog w) A (assign target env v) (λ_ z=>wpAny (model prog w) A body (λ_ B=>∃m,m<n/\I m B) FF z) FF y) FF j) FF s)
 (n:Nat) (h:I n s):codeAny (model prog w) A (.compLoop ce k it acc env) R s:=by
 refine codeAny_loop rfl I (λn s L=>?_) n h;rw[hd.1,hd.2];refine wpAny_noted ?_;rw[J];refine wpAny_noRaise ?_;refine tqa (wpAny_standAt (tqa (aQ (turn n s L) λr j u=>?_)));cases r with
 |none=>exact tqb u
 | some v =>
   refine tqa (aQ u λ_ y E=>?_);exact tqa (aQ E λ_ z F=>tqa (aQ F λ_ B H=>tqb ⟨rfl,H⟩))
def BO (y h j:Expr)(B:List Sw)(u:Scope)(pos:Pos)(z acc:Qo)(env:R0) :
 compTurn (.ListComp y [{h,j,[],0}] u pos) 0 z acc env=(standAt j.pos >>= λ_=>pyNext z >>= λr=>match r with
  |none=>pure (.done .next)
  |some v=>letOwnedTupleGo h z v >>= λ_=>assign h env v >>= λ_=>(eval y env >>= λx=>call (.builtin "list.append") [acc,x] >>= λ_=>pure ()) >>= λ_=>again (.compLoop (.ListComp y [{h,j,[],0}] u pos) 0 z acc env)):=`r
def turn_if (y h j c:Expr)(u:Scope)(pos:Pos)(z acc:Qo)(env:R0) :
 compTurn (.ListComp y [{h,j,[c],0}] u pos) 0 z acc env=(standAt j.pos >>= λ_=>pyNext z >>= λr=>match r with
  |none=>pure (.done .next)
  |some v=>letOwnedTupleGo h z v >>= λ_=>assign h env v >>= λ_=>(isTrue c env (eval c env) >>= λok=>if ok=true then(eval y env >>= λx=>call (.builtin "list.append") [acc,x] >>= λ_=>pure ()) else pure ()) >>= λ_=>again (.compLoop (.ListComp y [{h,j,[c],0}] u pos) 0 z acc env)):=by
 rw[compTurn_list];refine congrArg _ (funext λ_=>congrArg _ (funext λr=>?_));cases r with
 |none=>rfl
 | some v =>
   simp only[List.forIn_cons,List.forIn_nil,if_true,bind_assoc,pure_bind];refine congrArg _ (funext λ_=>congrArg _ (funext λ_=>congrArg _ (funext λok=>?_)));cases ok<;>simp
def BM (z h y t2 B:Expr)(u:Scope)(pos:Pos)(E acc:Qo)(env:R0) :
 compTurn (.ListComp z [{h,y,[],0},{t2,B,[],0}] u pos) 0 E acc env=(standAt y.pos >>= λ_=>pyNext E >>= λr=>match r with
  |none=>pure (.done .next)
  |some v=>letOwnedTupleGo h E v >>= λ_=>assign h env v >>= λ_=>(eval B env >>= λx=>standAt B.pos >>= λ_=>foldedSetIterable B env x >>= λx=>holding [x] (pyIter x) >>= λj=>runOwn (.compStart (.ListComp z [{h,y,[],0},{t2,B,[],0}] u pos) 1 j acc env) env >>= λ_=>pure ()) >>= λ_=>again (.compLoop (.ListComp z [{h,y,[],0},{t2,B,[],0}] u pos) 0 E acc env)):=by
 refine bind_congr λ_=>bind_congr λr=>?_;cases r with
 |none=>rfl
 |some v=>simp
def BN (y h u t2 B:Expr)(j:Scope)(pos:Pos)(z acc:Qo)(env:R0) :
 compTurn (.ListComp y [{h,u,[],0},{t2,B,[],0}] j pos) 1 z acc env=(standAt B.pos >>= λ_=>pyNext z >>= λr=>match r with
  |none=>pure (.done .next)
  |some v=>letOwnedTupleGo t2 z v >>= λ_=>assign t2 env v >>= λ_=>(eval y env >>= λx=>call (.builtin "list.append") [acc,x] >>= λ_=>pure ()) >>= λ_=>again (.compLoop (.ListComp y [{h,u,[],0},{t2,B,[],0}] j pos) 1 z acc env)):=by
 rfl
set_option tactic.hygienic true in
def lB (env:R0):∀(ns:List (Str×NameKind)) (h:List (Str×Addr)),(∀y∈ns,y.2=.free->∃c,env.cells.lookup y.1=some c)->(∀x c,h.lookup x=some c->env.cells.lookup x=some c)->
 ∃cl,(forIn ns h λ(y:Str×NameKind) (r:List (Str×Addr))=>if (y.2==NameKind.free)=true then cellOf env y.1 >>= λa=>pure (ForInStep.yield ((y.1,a)::r)) else pure (ForInStep.yield r):Sem _)=pure cl/\
  (∀x c,cl.lookup x=some c->env.cells.lookup x=some c)/\(∀x c,h.lookup x=some c->∃H,cl.lookup x=some H)/\∀y∈ns,y.2=.free->∃c,cl.lookup y.1=some c
 |[],h,_,h2=>{h,`s,h2,λx c e=>⟨c,e⟩,λy j=>nomatch j}
 | (n, k) :: ns, h, h1, h2 => by
   by_cases v:k=.free
   ·subst v;obtain⟨a,E⟩:=h1 (n,.free) QB rfl;have lk:∀x c,((n,a)::h).lookup x=some c->env.cells.lookup x=some c:=λx c e=>by
     rw[Rq] at e;split at e
     ·next q=>cases e;rw[eq_of_beq q];exact E
     ·exact h2 x c e
    obtain⟨cl,e,p1,p2,B⟩:=lB env ns ((n,a)::h) (λy j=>h1 y (Qu _ j)) lk;refine{cl,?_,p1,λx c q=>?_,λy j u=>?_}
    ·rw[List.forIn_cons];have J:cellOf env n=pure a:=by unfold cellOf;rw[E]
     simp only[beq_self_eq_true,if_true,J];exact e
    ·by_cases F:x=n
     ·exact p2 x a (by rw[Rq,F];simp)
     ·exact p2 x c (by rw[Rq,RW.mpr F];exact q)
    ·rcases Q1.mp j with z|z
     ·subst z;exact p2 n a (by simp[Rq])
     ·exact B y z u
   ·obtain⟨cl,e,p1,p2,B⟩:=lB env ns h (λy j=>h1 y (Qu _ j)) h2;refine{cl,?_,p1,p2,λy j u=>?_}
    ·rw[List.forIn_cons];have I:(k==NameKind.free)=false:=by simpa using v
     simp only[I,Bool.false_eq_true,if_false];exact e
    ·rcases Q1.mp j with z|z
     ·subst z;exact absurd u v
     ·exact B y z u
def pQ (h:∀y∈j.names,y.2=.free->∃c,env.cells.lookup y.1=some c) :
 ∃cl,closureFor j env=pure cl/\(∀x c,cl.lookup x=some c->env.cells.lookup x=some c)/\∀y∈j.names,y.2=.free->∃c,cl.lookup y.1=some c:=by
 obtain⟨cl,e,p1,_,u⟩:=lB env j.names [] h (λx c q=>nomatch q);exact{cl,by unfold closureFor;simp only[bind_pure];exact e,p1,u}
end
noncomputable def fM (X:Cx)(own bn:List Str)(scope:Scope)(cl:List (Str×Addr))(C:Addr)(fp:List Addr)(s:Qr)(H:Hp):Cx:=
 {X with N:=own++bn,s₀:=s,H₀:=H,env:=compEnvC scope cl C X.env,outer:=X.stack,ex:=fp,fn:=λx=>scope.names.lookup x==some .cell,pn:=[],xe:=FF}
set_option tactic.hygienic true in
def mem_of_lookup {j:Type}:∀{l:List (Str×j)}{x:Str}{k:j},l.lookup x=some k->(x,k)∈l
 |[],_,_,h=>by cases h
 | (n, b) :: r, x, k, h => by
   rw[Rq] at h;split at h
   ·next q=>cases h;rw[eq_of_beq q];exact QB
   ·exact Qu _ (mem_of_lookup h)
set_option tactic.hygienic true in
def gy {env:R0}:∀{j:List (Str×NameKind)}{x:Str}{k:NameKind},
 (j.map λ(n,k)=>if (k==NameKind.free&&env.scope.kind==.function&&env.kindOf n==some .cell) then(n,NameKind.cell) else(n,k)).lookup x=some k->
 ∃k0,(x,k0)∈j/\j.lookup x=some k0/\(k=k0\/(k0=.free/\k=.cell))
 |[],_,_,h=>by cases h
 | (n, k0) :: r, x, k, h => by
   have y:=@gy env r x k;have h:List.lookup x ((if (k0==NameKind.free&&env.scope.kind==.function&&env.kindOf n==some .cell)=true then(n,NameKind.cell) else(n,k0))::_)=some k:=h;cases u:x==n with
   | true =>
     have e:=eq_of_beq u;subst e;refine{k0,QB,by simp[Rq],?_}
     split at h
     ·next c=>
      simp[Rq] at h;simp at c;exact .inr ⟨c.1.1,h.symm⟩
     ·simp[Rq] at h;exact .inl h.symm
   | false =>
     have v:List.lookup x (r.map λ(n,k)=>if (k==NameKind.free&&env.scope.kind==.function&&env.kindOf n==some .cell) then(n,NameKind.cell) else(n,k))=some k:=by
      split at h<;>simpa[Rq,u] using h
     obtain⟨k1,h1,h2,h3⟩:=y v;exact{k1,Qu _ h1,by simp[Rq,u];exact h2,h3}
def pB {h j:Type}{R:h->j->Prop}:∀{l:List h}{r:List j}{i:Nat}{x:h},R7 R l r->l[i]?=some x->∃y,r[i]?=some y/\R x y
 |_,_,_,_,.nil,e=>by simp at e
 |_,_,0,_,.cons p _,e=>by simp at e;subst e;exact{_,rfl,p}
 | _, _, i + 1, x, .cons _ t, e => by
   obtain⟨y,h1,h2⟩:=pB t (by simpa using e)
   exact{y,by simpa using h1,h2}
structure fm (X:Cx) (own bn:List Str) (scope:Scope):Prop where
 kind:scope.kind=.function
 cel:∀y∈scope.names,y.2=.cell->scope.names.lookup y.1=some .cell
 loc:∀y∈scope.names,y.2=.local->scope.names.lookup y.1=some .local
 free:∀y∈scope.names,y.2=.free->X.env.kindOf y.1=some .cell\/X.env.kindOf y.1=some .free
 dis:R7 (λb x=>(b=x/\scope.names.lookup x≠some .local/\scope.names.lookup x≠some .cell)\/scope.names.lookup b=none) bn X.N
def je:∀(h:List (Str×NameKind)) (n:Nat) (acc:List (Str×Addr)),cellsFrom n h acc=cellsFrom n h []++acc
 |[],_,_=>rfl
 | (nm, k) :: r, n, acc => by
   unfold cellsFrom;split
   ·rw[je r (n+1) ((nm,n)::acc),je r (n+1) [(nm,n)],R5];rfl
   ·exact je r n acc
set_option tactic.hygienic true in
def uM:∀{j:List (Str×NameKind)}{n:Nat}{x:Str}{c:Addr},(x,c)∈cellsFrom n j []->(x,NameKind.cell)∈j
 |[],_,_,_,h=>nomatch h
 | (nm, k) :: r, n, x, c, h => by
   unfold cellsFrom at h;split at h
   ·next e=>
    rw[je] at h;rcases Rw.mp h with h|h
    ·exact Qu _ (uM h)
    ·cases QN.mp h;rw[eq_of_beq e];exact QB
   ·exact Qu _ (uM h)
def pR:∀{j:List (Str×NameKind)}{n:Nat}{x:Str},(x,NameKind.cell)∈j->∃c,(x,c)∈cellsFrom n j []
 | (nm, k) :: r, n, x, h => by
   unfold cellsFrom;rcases Q1.mp h with h|h
   ·cases h;rw[if_pos (by rfl:(NameKind.cell==NameKind.cell)=true),je]
    exact{n,Rj _ (QN.mpr rfl)}
   ·split
    ·obtain⟨c,u⟩:=pR h;rw[je];exact{c,Rv _ u}
    ·exact pR h
def mf {j:Type}:∀{l:List (Str×j)}{x:Str}{b:j},(x,b)∈l->∃c,l.lookup x=some c
 | (n, u) :: r, x, b, h => by
   rw[Rq];cases e:x==n with
   |true=>exact{_,rfl}
   | false =>
     rcases Q1.mp h with z|z
     ·cases z;rw[beq_self_eq_true] at e;cases e
     ·exact mf z
def rH
 (h:Q (newEnv scope s.heap.objs.size globals (cellsFrom (s.heap.objs.size+1) scope.names cl) qual none .none (some env) builtinsNs) {s with heap:=pushCells (s.heap.push {cls:=.type "dict",data:=.dict #[]}) scope.names}) :
 wpAny M A (newFunctionEnv scope globals cl [] qual none .none (some env)) Q E s:=by
 simp only[newFunctionEnv,Option.isSome_some,if_true];refine tqa (wpAny_alloc ?_);refine tqa (wpAny_layCells _ (λv kind j=>by cases u:kind==NameKind.cell<;>simp[u]) _ _ _ _ ?_)
 rw[show({s with heap:=s.heap.push {cls:=.type "dict",data:=.dict #[]}}:Qr).heap.objs.size=s.heap.objs.size+1 from Sf ..]
 exact tqa (tqb (tqb h))
section
variable{X:Cx}{pins:List (Addr×Obj)}{σ:L2.St}{H:Hp}{s:Qr}{fp:List Addr}{scope:Scope}{cl:List (Str×Addr)}{own bn:List Str}
structure Cl (X:Cx) (scope:Scope) (cl:List (Str×Addr)) (n:Nat):Prop where
 sub:∀x c,cl.lookup x=some c->(scope.names.lookup x=some .cell/\n<c)\/(scope.names.lookup x≠some .cell/\X.env.cells.lookup x=some c)
 inj:∀x y c,cl.lookup x=some c->cl.lookup y=some c->scope.names.lookup x=some .cell->scope.names.lookup y=some .cell->x=y
 has:∀y∈scope.names,(y.2=.free\/y.2=.cell)->∃c,cl.lookup y.1=some c
def Fb (S:fm X own bn scope)(h1:∀x c,cl.lookup x=some c->X.env.cells.lookup x=some c)(h2:∀y∈scope.names,y.2=.free->∃c,cl.lookup y.1=some c)(h:Heap)(hn:h.objs.size=n+1) :
 Cl X scope (cellsFrom (n+1) scope.names cl) n/\∀x c,(cellsFrom (n+1) scope.names cl).lookup x=some c->scope.names.lookup x=some .cell->(pushCells h scope.names).IsCell c none:=by
 have ok:=cellsFrom_ok scope.names h (n+1) [] {λ_ _ hm=>(nomatch hm),List.Pairwise.nil} (by rw[hn];exact Qt _)
 rw[hn] at ok;rw[je];have j:∀{x c},(cellsFrom (n+1) scope.names []++cl).lookup x=some c->scope.names.lookup x=some .cell->(x,c)∈cellsFrom (n+1) scope.names []:=λ{x c} e u=>by
  obtain⟨F,J⟩:=pR (mem_of_lookup u);obtain⟨L,h2⟩:=mf J;rw[List.lookup_append,h2] at e;cases e;exact mem_of_lookup h2
 have B:∀{x c},(cellsFrom (n+1) scope.names []++cl).lookup x=some c->scope.names.lookup x≠some .cell->cl.lookup x=some c:=λ{x c} e u=>by
  rw[List.lookup_append] at e;cases z:(cellsFrom (n+1) scope.names []).lookup x with
  |none=>rw[z] at e;exact e
  |some F=>exact absurd (S.cel _ (uM (mem_of_lookup z)) rfl) u
 refine{{λx c e=>?_,λx y c e1 e2 u E=>?_,λy E v=>?_},λx c e u=>(ok.empty x c (j e u)).1}
 ·by_cases u:scope.names.lookup x=some .cell
  ·exact .inl {u,(ok.empty x c (j e u)).2}
  ·exact .inr {u,h1 x c (B e u)}
 ·exact name_of_addr ok.apart (j e1 u) (j e2 E)
 ·rcases v with v|v
  ·obtain⟨c,I⟩:=h2 y E v;rw[List.lookup_append];cases (cellsFrom (n+1) scope.names []).lookup y.1 with
   |none=>exact⟨c,I⟩
   |some F=>exact⟨F,rfl⟩
  ·obtain⟨c,I⟩:=pR (by rw[<- v];exact E)
   obtain⟨L,e2⟩:=mf I;rw[List.lookup_append,e2];exact⟨L,rfl⟩
def HS (I:Inv X pins σ H s)(S:fm X own bn scope)(j:Cl X scope cl s.heap.objs.size)(v:∀b∈fp,fh X pins H b)(B:∀b∈fp,∃o,s.heap.get? b=some o) :
 (fM X own bn scope cl s.heap.objs.size fp s H).Ok where
 mod:=I.ok.mod
 kind:=S.kind
 glob:=I.ok.glob
 blt:=I.ok.blt
 above:=Qt _
 inj:=λx y c h1 h2=>by
  have lt:=λz e=>Nat.not_lt.mpr (Sy (let{_,q}:=I.cell z c e;q.lt))
  rcases j.sub x c h1 with⟨a1,a2⟩|⟨a1,a2⟩<;>rcases j.sub y c h2 with⟨J,F⟩|⟨J,F⟩
  ·exact j.inj x y c h1 h2 a1 J
  ·exact absurd a2 (lt y F)
  ·exact absurd F (lt x a2)
  ·exact I.ok.inj x y c a2 F
 has:=λx h=>by
  have E:∀k,(relabel scope X.env).names.lookup x=some k->(k=.cell\/k=.free)->∃c,cl.lookup x=some c:=λk M L=>by
   obtain⟨P,h1,h2,h3⟩:=gy M;refine j.has _ h1 ?_;rcases h3 with e|⟨e,_⟩
   ·rcases L with z|z
    ·exact .inr (e.symm.trans z)
    ·exact .inl (e.symm.trans z)
   ·exact .inl e
  rcases h with h|h
  ·exact E _ h (.inl rfl)
  ·exact E _ h (.inr rfl)
 cab:=λx c h e=>by
  rcases j.sub x c e with⟨_,a2⟩|⟨a1,_⟩
  ·exact Sy a2
  ·exact absurd (eq_of_beq h) a1
 hd:=I.ok.hd
 frames:=I.ok.frames
 stk:=.inl rfl
 exf:=λb u=>{λe=>by
  obtain⟨o,ho⟩:=B b u;exact absurd (QG ho) (by rw[e];exact RO _),λx c e=>by
  rcases j.sub x c e with⟨_,a2⟩|⟨_,a2⟩
  ·obtain⟨o,ho⟩:=B b u;exact λz=>absurd (QG ho) (by rw[<- z];exact Nat.lt_asymm a2)
  ·exact(v b u).2.2.2.2.1 x c a2}
 bs:=λb o e=>I.bs b o e
 bsz:=QF I.ok.bsz I.sz
 noex:=λb o e u=>by
  rcases(v b u).2.2.2.1 with z|z
  ·exact I.ok.noex b o e z
  ·exact absurd (QT (QG e) (QF I.ok.bsz z)) (RO _)
 exfs:=λb u O=>by
  rcases Q1.mp (I.stkSub b O) with e|e
  ·exact(v b u).2.1 e
  ·exact(v b u).2.2.1 e
 funs:=I.stack
 frf:=λb u=>I.stkFree b u
def uL (I:Inv X pins σ H s)(S:fm X own bn scope)(h:Cl X scope cl s.heap.objs.size)(R:∀b∈fp,fh X pins H b)(Q:∀b∈fp,∃o,s.heap.get? b=some o)
 (hn:h'.Ns s.heap.objs.size m) (F:∀b o,s.heap.get? b=some o->h'.get? b=some o) (O:∀x c,cl.lookup x=some c->scope.names.lookup x=some .cell->h'.IsCell c none) :
 Inv (fM X own bn scope cl s.heap.objs.size fp s H) [] (List.replicate own.length none++σ) H {s with heap:=h',toks:=t'} where
 ok:=HS I S h R Q
 os:=rfl
 bare:=I.bare
 base:=Un.kept F
 loc:=by
  refine{m,hn,λi x v e1 e2 hv=>?_};have e1:(own++bn)[i]?=some x:=e1;have Y:own.length<=i:=by
   by_cases q:i<own.length
   ·rw[QA (by simpa using q),Sv] at e2
    simp[q] at e2
   ·omega
  rw[QY Y] at e1;rw[QY (by simpa using Y)] at e2
  simp only[List.length_replicate] at e2;have M:X.N[i-own.length]?=some x/\scope.names.lookup x≠some .local/\scope.names.lookup x≠some .cell:=by
   rcases pB S.dis e1 with⟨y,h1,⟨h2,h3⟩|h2⟩
   ·subst h2;exact⟨h1,h3⟩
   ·exfalso;have no:∀k,(relabel scope X.env).names.lookup x≠some k:=λk F=>by
     obtain⟨U,_,h3,_⟩:=gy F;rw[h2] at h3;cases h3
    rcases hv with z|z|z
    ·exact no _ z
    ·exact no _ z
    ·exact no _ z
  have W:∀k,(relabel scope X.env).names.lookup x=some k->(k=.local\/k=.cell\/k=.free)->∃c,(k=.cell\/k=.free)/\cl.lookup x=some c/\(X.env.kindOf x=some .cell\/X.env.kindOf x=some .free):=λk j L=>by
   obtain⟨U,h1,h2,h3⟩:=gy j;have nl:U≠.local:=λe=>M.2.1 (by rw[h2,e])
   have P:U=.free:=by
    rcases h3 with e|⟨e,_⟩
    ·rcases L with z|z|z
     ·exact absurd (e.symm.trans z) nl
     ·exact absurd (by rw[h2,e.symm.trans z]) M.2.2
     ·exact e.symm.trans z
    ·exact e
   obtain⟨c,hc⟩:=h.has _ h1 (.inl P);refine{c,?_,hc,S.free _ h1 P};rcases L with z|z|z
   ·rcases h3 with e|⟨_,e⟩
    ·rw[P] at e;rw[e] at z;cases z
    ·rw[e] at z;cases z
   ·exact .inl z
   ·exact .inr z
  have B:∀k,(relabel scope X.env).names.lookup x=some k->(k=.local\/k=.cell\/k=.free)->∃u,RelV v u/\Look (compEnvC scope cl s.heap.objs.size X.env) h' m x u:=λk j L=>by
   obtain⟨c,h1,h2,h3⟩:=W k j L;obtain⟨m0,_,hl⟩:=I.loc;obtain⟨u,r,l⟩:=hl _ x v M.1 e2 (.inr h3);refine{u,r,.inr {?_,c,h2,?_}}
   ·rcases h1 with z|z
    ·subst z;exact .inl j
    ·subst z;exact .inr j
   ·rcases l with⟨z,_⟩|⟨_,c',J,E⟩
    ·rcases h3 with q|q
     ·rw[z] at q;cases q
     ·rw[z] at q;cases q
    ·rcases h.sub x c h2 with⟨a1,_⟩|⟨_,a2⟩
     ·exact absurd a1 M.2.2
     rw[a2] at J;cases J;obtain⟨o,ho,hd⟩:=E;exact{o,F _ _ ho,hd}
  rcases hv with z|z|z
  ·exact B _ z (.inl rfl)
  ·exact B _ z (.inr (.inl rfl))
  ·exact B _ z (.inr (.inr rfl))
 cell:=λx c e=>by
  rcases h.sub x c e with⟨a1,_⟩|⟨_,a2⟩
  ·exact{none,O x c e a1}
  obtain⟨v,o,ho,hd⟩:=I.cell x c a2;exact{v,o,F _ _ ho,hd}
 free:=I.hok.fresh (Qt _)
 freeC:=λx c e=>(h.sub x c e).elim (λz=>I.hok.fresh (Sy z.2)) λz=>I.freeC x c z.2
 pin:=λp hp=>nomatch hp
 hok:=I.hok.kept F
 len:=by
  show(List.replicate own.length none++σ).length=(own++bn).length;have:=Paired.length S.dis;simp[I.len,this]
def comp_back (I:Inv X pins σ H s)(h:∀b∈fp,fh X pins H b)(j:Inv (fM X own bn scope cl C fp s H) pins' σ' H' s'):Inv X pins σ H' s':=
 I.call' j.os j.base j.hok j.bare λb u=>{(h b u).2.2.2.1,(h b u).2.1,(h b u).2.2.2.2.1,(h b u).2.2.2.2.2}
def rK (I:Inv X pins σ H s)(u:H' s.heap.objs.size=none)(h:Inv X pins σ' H' s')(hs:R8 s.heap.objs.size s'.heap h''):Inv X pins σ' H' {s' with heap:=h''}:=
 h.turned (λb o j e=>(hs.2 b j).trans e) u (Rt I.lt) (.inr I.sz) (λx c e z=>by
  obtain⟨v,q⟩:=I.cell x c e;exact absurd q.lt (by rw[z];exact RO _)) λp y z=>absurd (QG (I.pin p y).1) (by rw[z];exact RO _)
end
structure fj (a:Addr) (μ:Mu) (H:Hp) (μ':Mu) (H':Hp):Prop extends ExtW μ H μ' H' where
 pr:μ'.priv=μ.priv
 pk:∀b∈μ.priv,b≠a->H' b=H b
def fj.refl:fj a μ H μ H:={.refl,rfl,λ_ _ _=>rfl}
def fj.trans (x:fj a μ H μ1 H1)(y:fj a μ1 H1 μ2 H2):fj a μ H μ2 H2:=
 {x.toExtW.trans y.toExtW,y.pr.trans x.pr,λb h n=>(y.pk b (by rw[x.pr];exact h) n).trans (x.pk b h n)}
def Ext.toD (x:Ext μ H μ' H'):fj a μ H μ' H':={x.toExtW,x.pr,λb h _=>x.pk b h}
noncomputable def slots:fC->List Nat
 |.one i=>[i]
 |.tup l=>l
 |.two i l=>i::l
def Clear (W:List Nat)(Z:Env):Prop:=∀i∈W,∀d,Z[i]?≠some (some d)
section
variable{fa:Fa}{K:Ql}{μ μ':Mu}{H H':Hp}{σ:L2.St}{Z ρ1:Env}{M:Mem}{a:Addr}
def bc.weak (h:bc fa K μ H σ ρ1)(hl:ρ1.length=Z.length)(w:∀(i:Nat) d,Z[i]?=some (some d)->ρ1[i]?=some (some d)):bc fa K μ H σ Z:=
 {h.len.trans hl,λi d e=>h.at' i d (w i d e)}
def kL:∀{l:List Nat}{ds:List D}{Z ρ1:Env},cJ l ds Z=some ρ1->ρ1.length=Z.length/\∀i,i∉l->ρ1[i]?=Z[i]?
 |[],[],Z,ρ1,h=>by cases h;exact{rfl,λ_ _=>rfl}
 |_::_,[],_,_,h=>by cases h
 |[],_::_,_,_,h=>by cases h
 | j :: l, d :: ds, Z, ρ1, h => by
   obtain⟨h1,h2⟩:=kL (ds:=ds) h;refine{by simpa using h1,λi u=>?_}
   rw[h2 i (λz=>u (Qu _ z)),QH (λz=>u (by rw[z];exact QB))]
def rO (h:bL t d Z=some ρ1):ρ1.length=Z.length/\∀i,i∉slots t->ρ1[i]?=Z[i]?:=by
 cases t with
 | one j =>
   cases h;exact{`s,λi u=>QH (λz=>u (by rw[z];exact QB))}
 | tup l =>
   cases d with
   |tup v=>exact kL h
   |_=>cases h
 | two j l =>
   obtain⟨e,v,rfl,h⟩:=uV h;obtain⟨h1,h2⟩:=kL h;refine{by simpa using h1,λi u=>?_}
   rw[h2 i (λz=>u (Qu _ z)),QH (λz=>u (by rw[z];exact QB))]
def bc.unbind (h:bL t d Z=some ρ1)(c:Clear (slots t) Z)(r:bc fa K μ H σ ρ1):bc fa K μ H σ Z:=by
 obtain⟨h1,h2⟩:=rO h;refine r.weak h1 λi d e=>?_;by_cases j:i∈slots t
 ·exact absurd e (c i j d)
 ·rw[h2 i j];exact e
def RelM.writeP (h:RelM fa K μ H M)(e:a∈μ.priv)(v:H a=some (.lst vs)):RelM fa K μ (upd H a (.lst ws)) M:=by
 have x:ExtW μ H μ (upd H a (.lst ws)):=ExtW.write v (.inr e);refine{λk B q=>?_,h.out,h.oout,h.inj,h.oinj,h.sep,λb y=>{?_,(h.pv b y).2}}
 ·rcases h.at' k B q with⟨b,u,h1,h2,h3⟩|⟨b,h1,h2,h3⟩
  ·have E:b≠a:=λz=>(h.pv a e).2 k (by rw[h1,z])
   exact .inl {b,u,h1,by rw[ao E];exact h2,h3.extW x}
  ·exact .inr {b,h1,h2,h3.extW x (ao (h3.nl v))}
 ·by_cases j:b=a
  ·subst j;exact⟨ws,bA⟩
  ·obtain⟨u,q⟩:=(h.pv b y).1;exact{u,by rw[ao j];exact q}
def fj.writeP (e:a∈μ.priv)(h:H a=some (.lst vs)):fj a μ H μ (upd H a (.lst ws)):=
 {ExtW.write h (.inr e),rfl,λb _ n=>by rw[ao n]}
end
abbrev PA:=Mu->Hp->List D->Prop
def yt (A:PA):Prop:=∀μ H μ' H' h,Ext μ H μ' H'->A μ H h->A μ' H' h
def LA (fa:Fa)(K:Ql)(a:Addr):PA:=λμ H h=>a∈μ.priv/\∃j,H a=some (.lst j)/\aG fa K μ H h j
def LA.stab {K:Ql}:yt (LA fa K a):=λ_ _ _ _ _ x ⟨h1,h,h2,h3⟩=>{by rw[x.pr];exact h1,h,by rw[x.pk _ h1];exact h2,h3.ext x}
def WB (fa:Fa)(K:Ql)(A:PA)(a:Addr)(μ:Mu)(H:Hp)(Z:Env)(Q:L2.St->Hp->Prop)(acc:List D)(M':Mem):Prop:=
 ∀h H' μ',fj a μ H μ' H'->bc fa K μ' H' h Z->RelM fa K μ' H' M'->A μ' H' acc->Q h H'
def WB.ext {K:Ql}(h:WB fa K A a μ H Z Q acc M')(x:fj a μ H μ1 H1):WB fa K A a μ1 H1 Z Q acc M':=
 λj H' μ' y e m h1=>h j H' μ' (x.trans y) e m h1
def DB (fa:Fa)(X:Cx)(A:PA)(a:Addr)(W:List Nat)(body:Sem Unit)(g:Env->List D->Mem->Res (List D)):Prop:=
 ∀(h:List (Addr×Obj)) (s:Qr) (σ:L2.St) (H:Hp) (Q:L2.St->Hp->Prop) (μ:Mu) (Z:Env) (M:Mem) (j:List D),Inv X h σ H s->bc fa X.K μ H σ Z->RelM fa X.K μ H M->Clear W Z->A μ H j->
  ae (g Z j M) (WB fa X.K A a μ H Z Q)->wpAny (model X.prog X.w) X.A body (λ_ v=>∃u H',Inv X h u H' v/\Q u H') X.xe s
def bb (ge:Env->Mem->Res D):Env->List D->Mem->Res (List D):=λZ h M=>(ge Z M).bind λx M=>if h.length<sz then .ok (h++[x]) M else .bad
def kg (j:Env->Mem->Res Bool)(g:Env->List D->Mem->Res (List D)):Env->List D->Mem->Res (List D):=λZ h M=>(j Z M).bind λk M=>if k then g Z h M else .ok h M
def cn (t:fC)(g:Env->List D->Mem->Res (List D))(Z:Env):List D->D->Mem->Res (List D):=λh d M=>(b9 M (bL t d Z)).bind λρ1 M=>g ρ1 h M
def ux (t:fC)(j:Env->Mem->Res Walk)(g:Env->List D->Mem->Res (List D)):Env->List D->Mem->Res (List D):=λZ h M=>(j Z M).bind λw M=>cF (cn t g Z) w h M
section
variable{fa:Fa}{X:Cx}{a:Addr}
set_option tactic.hygienic true in
def uI (he:DE fa X elt ge):DB fa X (LA fa X.K a) a [] (eval elt X.env >>= λx=>call (.builtin "list.append") [.ref a,x] >>= λ_=>pure ()) (bb ge):=by
 intro z s σ H Q μ Z M Y I P hM hc ⟨R,J,hH,hr⟩ h;obtain⟨x,W,e,q⟩:=az h;split at q
 ·next hz=>
  refine tqa (aQ (he z s σ H (λv y=>∃j,Ext μ H j y/\RelM fa X.K j y W/\Rep fa X.K j y x v) I {μ,Z,M,P,hM,?_}) λu s1 ⟨v,y,S,rv,j,F,O,r1⟩=>?_)
  ·rw[e];exact λv y j F O r1=>⟨j,F,O,r1⟩
  have B:y a=some (.lst J):=by rw[F.pk a R];exact hH
  have E:a∈j.priv:=by rw[F.pr];exact R
  have hl:J.length<sizeLine:=by rw[hr.length,<- cQ];exact hz
  refine tqa (aQ (l7 z s1 σ y (.ref a) [v] (.ref a) [u] (λ_ L=>L=upd y a (.lst (J++[v]))) S rfl (.cons rv .nil) ⟨a,J,v,rfl,rfl,B,hl,rfl⟩) λ_ s2 ⟨_,L,U,_,e2⟩=>tqb {σ,L,U,?_});subst e2;have xd:fj a j y j (upd y a (.lst (J++[v]))):=fj.writeP E B;exact q σ _ j (F.toD.trans xd) ((P.ext F).extW xd.toExtW) (O.writeP E B) {E,_,bA,((hr.ext F).append (.one r1)).extW xd.toExtW}
 ·exact q.elim
def Np (O:yt A)(U:DT fa X c gc)(S:DB fa X A a W body g) :
 DB fa X A a W (isTrue c X.env (eval c X.env) >>= λok=>if ok=true then body else pure ()) (kg gc g):=by
 intro u s σ H Q μ Z M B I E R Y L h;obtain⟨k,J,e,q⟩:=az h;refine tqa (aQ (U u s σ H (λb y=>b=k/\∃j,Ext μ H j y/\RelM fa X.K j y J) I {μ,Z,M,E,R,?_}) λb s1 ⟨y,F,P,j,v,z⟩=>?_)
 ·rw[e];exact λy j v z=>⟨rfl,j,v,z⟩
 subst P;cases b with
 | true =>
   rw[if_pos rfl];exact S u s1 σ y Q j Z J B F (E.ext v) z Y (O _ _ _ _ _ v L) (aU q λ_ _ w=>w.ext v.toD)
 | false =>
   rw[if_neg QP];exact tqb {σ,y,F,q σ y j v.toD (E.ext v) z (O _ _ _ _ _ v L)}
def qG (sA:yt A)
 (heq:compTurn ce k (.ref it) (.ref a) X.env=(standAt p >>= λ_=>pyNext (.ref it) >>= λr=>match r with
  |none=>pure (.done .next)
  |some v=>letOwnedTupleGo tg (.ref it) v >>= λ_=>assign tg X.env v >>= λ_=>body >>= λ_=>again (.compLoop ce k (.ref it) (.ref a) X.env)))
 (hd:(model X.prog X.w).den (.compLoop ce k (.ref it) (.ref a) X.env)=(compTurn ce k (.ref it) (.ref a) X.env).onRaise (λx=>do noteFrame x X.env;theTreesLotGoes x)/\X.A.under (.compLoop ce k (.ref it) (.ref a) X.env)=X.A) (hx:X.xe=FF) (U:X.calm=true) (T:Turn X.prog X.w X.K tg J fp it tn) (hg:PG X tg (gT fa X.K t)) (S:DB fa X A a W body g) (hW:∀i∈W,i∉slots t)
 (I:Inv X pins σ H s) (st:tn 0 s.heap) (hf:∀b∈fp,fh X pins H b) (hE:bc fa X.K μ H σ Z) (hM:RelM fa X.K μ H M)
 (hcl:Clear (slots t++W) Z) (hA:A μ H acc) (wk:dh fa X.K μ H w J) (q:ae (cF (cn t g Z) w acc M) (WB fa X.K A a μ H Z Q)) :
 codeAny (model X.prog X.w) X.A (.compLoop ce k (.ref it) (.ref a) X.env) (λr Y=>r=.ok .next/\∃j H',Inv X pins j H' Y/\Q j H') s:=by
 have stat:∀{H':Hp},(∀b∈fp,H' b=none)->∀b∈fp,fh X pins H' b:=λhn b S=>{hn b S,(hf b S).2};have clt:=λi hi=>hcl i (Rv _ hi);have clW:∀d ρ1,bL t d Z=some ρ1->Clear W ρ1:=λd ρ1 e i hi d' z=>by
  rw[(rO e).2 i (hW i hi)] at z;exact hcl i (Rj _ hi) d' z
 let P:Nat->Nat->Qr->Prop:=λm i Y=>∃j H' μ' M' B,Inv X pins j H' Y/\tn i Y.heap/\(∀b∈fp,H' b=none)/\fj a μ H μ' H'/\bc fa X.K μ' H' j Z/\RelM fa X.K μ' H' M'/\A μ' H' B/\
  ae (fQ (cn t g Z) w m i B M') (WB fa X.K A a μ H Z Q)
 have P0:∃m,P m 0 s:={_,σ,H,μ,M,acc,I,st,λb S=>(hf b S).1,.refl,hE,hM,hA,q};obtain⟨m0,P0⟩:=P0;have hturn:∀(n:Nat) (i:Nat) (s3:Qr),P n i s3->wpAny (model X.prog X.w) X.A (pyNext (.ref it)) (λr y=>match r with
  |none=>(∃j H',Inv X pins j H' y/\Q j H')
  |some v=>wpAny (model X.prog X.w) X.A (letOwnedTupleGo tg (.ref it) v) (λ_ F=>wpAny (model X.prog X.w) X.A (assign tg X.env v) (λ_ L=>wpAny (model X.prog X.w) X.A body (λ_ O=>∃m,m<n/\P m (i+1) O) FF L) FF F) FF y) FF s3:=by
  rintro n i s3 ⟨σ3,H3,E,M3,R,I3,st3,fr3,x3,hE3,hM3,hA3,q3⟩;have one:∀(d:D) (rest:List D->Mem->Res (List D)) (next:List D->Mem->Prop),J.go i H3->(∀x H',J.yld i H3 x H'->Ext E H3 E H'/\RelM fa X.K E H' M3/\Rep fa X.K E H' d x)->ae ((cn t g Z R d M3).bind rest) (WB fa X.K A a μ H Z Q)->
   (∀j H' μ' M' B Y,Inv X pins j H' Y->tn (i+1) Y.heap->(∀b∈fp,H' b=none)->fj a μ H μ' H'->bc fa X.K μ' H' j Z->RelM fa X.K μ' H' M'->A μ' H' B->ae (rest B M') (WB fa X.K A a μ H Z Q)->∃m,m<n/\P m (i+1) Y)->
   wpAny (model X.prog X.w) X.A (pyNext (.ref it)) (λr y=>match r with
    |none=>(∃j H',Inv X pins j H' y/\Q j H')
    |some v=>wpAny (model X.prog X.w) X.A (letOwnedTupleGo tg (.ref it) v) (λ_ F=>wpAny (model X.prog X.w) X.A (assign tg X.env v) (λ_ L=>wpAny (model X.prog X.w) X.A body (λ_ O=>∃m,m<n/\P m (i+1) O) FF L) FF F) FF y) FF s3:=by
   intro d rest next go yl qd fin
   refine aQ (T.item X rfl rfl rfl U i pins s3 σ3 H3 FF I3 (stat fr3) st3 go) λr s4 ⟨u,hr4,h4⟩=>?_;subst hr4;refine aQ h4 λ_ s5 ⟨x,H5,I5,r5,y5,st5,fr5⟩=>?_;obtain⟨x5,hM5,rd⟩:=yl x H5 y5;have I5':=I5.pinned (stat fr5) (T.obj _ _ st5);obtain⟨acc6,M6,e6,q6⟩:=az qd;obtain⟨ρ1,M7,e7,e8⟩:=eO e6;cases eb:bL t d Z with
   |none=>rw[eb] at e7;cases e7
   | some ρ2 =>
     rw[eb] at e7;cases e7;have hg':=hg _ s5 σ3 H5 x u (λj H'=>H'=H5/\bc fa X.K E H5 j ρ1) I5' r5 {E,Z,_,d,ρ1,hE3.ext x5,hM5,rd,eb,λσ1 h1=>⟨rfl,h1⟩};rw[hx] at hg';refine aQ hg' λ_ s6 ⟨σ6,H6,I6,eH,hE6⟩=>?_;subst eH;have hb':=S _ s6 σ6 H6 (λj H'=>∃μ',fj a E H6 μ' H'/\bc fa X.K μ' H' j ρ1/\RelM fa X.K μ' H' M6/\A μ' H' acc6) E ρ1 _ R I6 hE6 hM5 (clW d ρ1 eb) (sA _ _ _ _ _ x5 hA3) (by
      rw[e8];exact λj H' μ' z1 z2 z3 z4=>⟨μ',z1,z2,z3,z4⟩)
     rw[hx] at hb';refine aQ hb' λ_ s7 ⟨σ7,H7,I7,μ7,x7,hE7,hM7,hA7⟩=>?_;refine fin σ7 H7 μ7 M6 acc6 s7 I7.unpinned (T.keep _ _ _ st5 λb S o e=>(I7.pin (b,o) (Rj _ (Rj _ (iG S e)))).1) (λb S=>?_) ((x3.trans x5.toD).trans x7) (hE7.unbind eb clt) hM7 hA7 q6;obtain⟨o,e,dd⟩:=T.obj _ _ st5 b S;exact(I7.pin (b,o) (Rj _ (Rj _ (iG S e)))).2.1
  have stop:J.stop i H3->ae (.ok R M3) (WB fa X.K A a μ H Z Q)->wpAny (model X.prog X.w) X.A (pyNext (.ref it)) (λr y=>match r with
   |none=>(∃j H',Inv X pins j H' y/\Q j H')
   |some v=>wpAny (model X.prog X.w) X.A (letOwnedTupleGo tg (.ref it) v) (λ_ F=>wpAny (model X.prog X.w) X.A (assign tg X.env v) (λ_ L=>wpAny (model X.prog X.w) X.A body (λ_ O=>∃m,m<n/\P m (i+1) O) FF L) FF F) FF y) FF s3:=λhs q=>by
   refine aQ (T.done X rfl rfl rfl U i pins s3 σ3 H3 FF I3 (stat fr3) st3 hs) λr s4 ⟨hr4,I4⟩=>?_;subst hr4;exact{σ3,H3,I4,q σ3 H3 E x3 hE3 hM3 hA3}
  cases n with
  |zero=>exact q3.elim
  | succ n =>
    unfold fQ at q3;cases e2:w M3 with
    |none=>rw[e2] at q3;exact q3.elim
    | some ds =>
      rw[e2] at q3;dsimp only at q3;obtain⟨go,stp⟩:=wk E H3 M3 ds x3.toExtW hM3 e2;cases ed:ds[i]? with
      | none =>
        rw[ed] at q3;exact stop (stp i (List.getElem?_eq_none_iff.mp ed)) q3
      | some d =>
        rw[ed] at q3;obtain⟨g1,g2⟩:=go i d ed;refine one d (fQ (cn t g Z) w n (i+1)) (λ_ _=>True) g1 g2 q3 ?_;intro j H' μ' M' B Y z1 z2 z3 z4 z5 z6 z7 z8;exact{n,`a,j,H',μ',M',B,z1,z2,z3,z4,z5,z6,z7,z8}
 refine A2 heq hd (λn Y=>∃i,P n i Y) (λn s3 ⟨i,h3⟩=>?_) m0 {0,P0};refine aQ (hturn n i s3 h3) λr s1 h=>?_;cases r with
 |none=>exact⟨rfl,h⟩
 |some v=>exact aQ h λ_ s2 h=>aQ h λ_ s3 h=>aQ h λ_ s4 ⟨m,hm,h⟩=>{m,hm,i+1,h}
end
section
variable{prog:Q0}{w:Q2}{A:RL}{s:Qr}{R:Result->Qr->Prop}
def sd {j t1 B t2 y:Expr}
 (E:codeAny (model prog w) A (.compLoop (.ListComp j [{t1,B,f1,0},{t2,y,f2,0}] scope pos) 1 it acc env) R s)
 (h:wpAny (model prog w) A (pyIter it) (λu v=>codeAny (model prog w) A (.compLoop (.ListComp j [{t1,B,f1,0},{t2,y,f2,0}] scope pos) 1 u acc env) R v)
  (notedBy (model prog w) A env λx v=>R (.error x) v) s) :
 codeAny (model prog w) A (.compStart (.ListComp j [{t1,B,f1,0},{t2,y,f2,0}] scope pos) 1 it acc env) R s:=by
 refine codeAny_of_tree ?_;refine wpAny_notedAt ?_;refine tqa (wpAny_askSetting (wpAny_ite ?_));split
 ·first
   |exact tqa (tqb (tqb (And.intro rfl E)))
   |exact tqb (And.intro rfl E)
 ·first
   |exact tqa (wpAny_rule (tqa (wpAny_standAt (tqa (wpAny_mono h (λu v z=>tqb (And.intro rfl z)) λ_ _ x=>x)))))
   |(refine tqa (wpAny_rule ?_);show wpAny _ _ (standAt y.pos >>= _) _ _ s;exact tqa (wpAny_standAt (tqa (wpAny_mono h (λu v z=>tqb (And.intro rfl z)) λ_ _ x=>x))))
end
section
variable{fa:Fa}{X:Cx}{a:Addr}
def LH {y t1 W t2 B:Expr}(hx:X.xe=FF)(F:X.calm=true)(hi:DI fa X t2 B gw)(hg:PG X t2 (gT fa X.K t))(he:DE fa X y ge)
 (hs:∀x,foldedSetIterable B X.env x=pure x) :
 DB fa X (LA fa X.K a) a (slots t) (eval B X.env >>= λx=>standAt B.pos >>= λ_=>foldedSetIterable B X.env x >>= λx=>holding [x] (pyIter x) >>= λj=>runOwn (.compStart (.ListComp y [{t1,W,[],0},{t2,B,[],0}] scope pos) 1 j (.ref a) X.env) X.env >>= λ_=>pure ()) (ux t gw (bb ge)):=by
 intro E s σ H Q μ Z M acc I hE hM hc hA h;obtain⟨w,M1,e,q⟩:=az h;refine tqa (aQ (hi E s σ H (λJ U=>∃u,Ext μ H u U/\RelM fa X.K u U M1/\dh fa X.K u U w J) I {μ,Z,M,hE,hM,?_}) λv s1 h1=>?_)
 ·rw[e];exact λJ U u x1 m1 Y=>⟨u,x1,m1,Y⟩
 refine tqa (wpAny_standAt (tqa (wpAny_of_eq (hs v) (tqa (tqo (aQ h1 λitv s2 h2=>?_))))));obtain⟨it,fp,tn,J,H2,ei,I2,T,P,f2,μ2,x2,m2,Y⟩:=h2;subst ei;have go:=qG LA.stab (BN y t1 W t2 B scope pos (.ref it) (.ref a) X.env) ⟨rfl,rfl⟩ hx F T hg (uI he) (λi hi=>nomatch hi) I2 P f2 (hE.ext x2) m2 (by simpa using hc) (LA.stab _ _ _ _ _ x2 hA) Y (aU q λ_ _ z=>z.ext x2.toD)
 refine tqa (wpAny_runOwn ?_);have L:codeAny (model X.prog X.w) (X.A.mark none) (.compLoop (.ListComp y [{t1,W,[],0},{t2,B,[],0}] scope pos) 1 (.ref it) (.ref a) X.env) (λr O=>match r with|.ok f=>wpAny (model X.prog X.w) X.A (pure ():Sem Unit) (λ_ O=>∃S H',Inv X E S H' O/\Q S H') X.xe O|.error e=>cameBackBy (model X.prog X.w) X.A X.env X.xe e O) s2:=
  codeAny_mono go λr O ⟨er,z⟩=>by subst er;exact tqb z
 exact sd L (T.self _ 0 _ _ _ P L)
end
section
variable{fa:Fa}{K:Ql}{μ1 μ':Mu}{H1 H':Hp}{M1 M':Mem}{a:Addr}
noncomputable def Kg (μ:Mu)(a:Addr):Mu:={μ.pub,a::μ.priv,μ.ob}
def mw (h:RelM fa K μ1 H1 M1)(j:H1 a=none)(o:HO):ExtW μ1 H1 (Kg μ1 a) (upd H1 a o):=by
 have x:ExtW μ1 H1 μ1 (upd H1 a o):=(Ext.alloc h j).toExtW;refine{x.mu,x.tups,λb u e n=>{(x.lsts b u e n).1,λz=>?_},x.frzs,x.exts,x.obs};rcases z with z|z
 ·exact n (.inl z)
 ·rcases Q1.mp z with z|z
  ·subst z;rw[j] at e;cases e
  ·exact n (.inr z)
def zL (h:RelM fa K μ1 H1 M1)(j:H1 a=none)(vs:List V):RelM fa K (Kg μ1 a) (upd H1 a (.lst vs)) M1:=by
 have x:=mw h j (.lst vs);refine{λk v e=>(h.at' k v e).imp (λ⟨b,u,h1,h2,h3⟩=>{b,u,h1,by rw[ao (aV h2 j)];exact h2,h3.extW x}) λ⟨b,h1,h2,h3⟩=>{b,h1,h2,h3.extW x (ao (h3.new j))},h.out,h.oout,h.inj,h.oinj,h.sep,λb y=>?_}
 ·rcases Q1.mp y with z|z
  ·subst z;exact{⟨vs,bA⟩,λk e=>by
    obtain⟨_,_,_,q,_⟩:=h.mu_lt e;rw[j] at q;cases q}
  ·obtain⟨⟨u,q⟩,n⟩:=h.pv b z;exact{{u,by rw[ao (aV q j)];exact q},n}
set_option tactic.hygienic true in
def GI (h:RelM fa K μ1 H1 M1)(ha:H1 a=none)(x:fj a (Kg μ1 a) (upd H1 a (.lst [])) μ' H')(v:RelM fa K μ' H' M')(hH:H' a=some (.lst vs))(hr:aG fa K μ' H' acc vs)
 (q:ae (ba m acc M') (aX fa K μ1 H1 Q)):Q (.ref a) H':=by
 have U:=λz=>h.pne ha z rfl;have E:=x.pr;have W:∀k,μ'.pub k≠some a:=(v.pv a (by rw[E];exact QB)).2
 have H:=mw h ha (.lst []);have xe:Ext μ1 H1 ⟨μ'.pub,μ1.priv,μ'.ob⟩ H':=by
  refine{{λk b e=>x.mu k b e,λb y e=>x.tups b y (H.tups b y e),λb y e n=>?_,λb ob u e=>x.frzs b ob u (H.frzs b ob u e),λb o i e=>x.exts b o i (H.exts b o i e),λk b e=>x.obs k b (H.obs k b e)},rfl,λb B=>?_}
  ·obtain⟨I,J⟩:=H.lsts b y e n;obtain⟨z3,z4⟩:=x.lsts b y I J;refine{z3,λz=>z4 ?_};rcases z with z|z
   ·exact .inl z
   ·exact .inr (by rw[E];exact Qu _ z)
  ·have nb:b≠a:=λe=>U (by rw[<- e];exact B)
   rw[x.pk b (Qu _ B) nb,ao nb]
 have xw:ExtW μ' H' ⟨μ'.pub,μ1.priv,μ'.ob⟩ H':={λ_ _ e=>e,λ_ _ e=>e,λb y e n=>{e,λz=>n (z.elim .inl λz=>.inr (by rw[E];exact Qu _ z))},λ_ _ _ e=>e,λ_ _ _ e=>e,λ_ _ e=>e}
 have me:RelM fa K ⟨μ'.pub,μ1.priv,μ'.ob⟩ H' M':={λk M e=>(v.at' k M e).imp (λ⟨b,y,h1,h2,h3⟩=>{b,y,h1,h2,h3.extW xw}) λ⟨b,h1,h2,h3⟩=>{b,h1,h2,h3.extW xw rfl},v.out,v.oout,v.inj,v.oinj,v.sep,λb B=>v.pv b (by rw[E];exact Qu _ B)}
 have re:=hr.extW xw;have S:¬ (⟨μ'.pub,μ1.priv,μ'.ob⟩:Mu).Mt a:=λz=>z.elim (λ⟨k,e⟩=>W k e) U;unfold ba at q;split at q
 ·cases m with
  | false =>
    exact q (.ref a) H' _ xe me {a,vs,rfl,⟨hH,S⟩,re}
  | true =>
    have pc:∀k b,(ft ⟨μ'.pub,μ1.priv,μ'.ob⟩ M'.length a).pub k=some b->(k=M'.length/\b=a)\/(k≠M'.length/\μ'.pub k=some b):=λk b e=>by
     have e:(if k=M'.length then some a else μ'.pub k)=some b:=e;split at e
     ·next z=>cases e;exact .inl ⟨z,rfl⟩
     ·next z=>exact .inr ⟨z,e⟩
    have P:∀k b,μ'.pub k=some b->(ft ⟨μ'.pub,μ1.priv,μ'.ob⟩ M'.length a).pub k=some b:=λk b e=>by
     show(if k=M'.length then some a else μ'.pub k)=some b;split
     ·next z=>rw[z,v.out _ (Qt _)] at e;cases e
     ·exact e
    have ac:(ft ⟨μ'.pub,μ1.priv,μ'.ob⟩ M'.length a).pub M'.length=some a:=by
     show(if M'.length=M'.length then some a else _)=some a;rw[if_pos rfl]
    have nc:∀b,¬ μ'.Mt b->¬ (ft ⟨μ'.pub,μ1.priv,μ'.ob⟩ M'.length a).Mt b:=λb n z=>by
     rcases z with⟨k,z⟩|z
     ·rcases pc k b z with⟨_,e⟩|⟨_,e⟩
      ·exact n (.inr (by rw[E,e];exact QB))
      ·exact n (.inl ⟨k,e⟩)
     ·exact n (.inr (by rw[E];exact Qu _ z))
    have xc:ExtW μ' H' (ft ⟨μ'.pub,μ1.priv,μ'.ob⟩ M'.length a) H':={P,λ_ _ e=>e,λb y e n=>{e,nc b n},λ_ _ _ e=>e,λ_ _ _ e=>e,λ_ _ e=>e};have Y:Ext μ1 H1 (ft ⟨μ'.pub,μ1.priv,μ'.ob⟩ M'.length a) H':=by
     refine{{λk b e=>P k b (x.mu k b e),xe.tups,λb y e n=>?_,xe.frzs,xe.exts,xe.obs},rfl,xe.pk};obtain⟨I,J⟩:=H.lsts b y e n;obtain⟨z3,z4⟩:=x.lsts b y I J;exact{z3,nc b z4}
    have R:RelM fa K (ft ⟨μ'.pub,μ1.priv,μ'.ob⟩ M'.length a) H' (M'++[acc]):=by
     refine{λk M e=>?_,λk F=>?_,λk F=>v.oout k (by simp at F;omega),λj k b e1 e2=>?_,v.oinj,λk b z=>?_,λb B=>?_}
     ·by_cases F:k<M'.length
      ·rw[QA F] at e;rcases v.at' k M e with⟨b,y,h1,h2,h3⟩|⟨b,h1,h2,h3⟩
       ·exact .inl {b,y,P k b h1,h2,h3.extW xc}
       ·exact .inr {b,h1,by show(if k=M'.length then some a else μ'.pub k)=none;rw[if_neg (QW F)];exact h2,h3.extW xc rfl}
      ·have O:k=M'.length:=by
        have:=(Qm.mp e).1;simp at this;omega
       subst O;rw[QY (Qt _)] at e;simp at e;subst e;exact .inl {a,vs,ac,hH,hr.extW xc}
     ·simp at F;show(if k=M'.length then some a else μ'.pub k)=none;rw[if_neg `a]
      exact v.out k `a
     ·rcases pc j b e1 with⟨j1,L⟩|⟨j1,L⟩<;>rcases pc k b e2 with⟨k1,k2⟩|⟨k1,k2⟩
      ·omega
      ·exact absurd (L ▸ k2) (W k)
      ·exact absurd (k2 ▸ L) (W j)
      ·exact v.inj j k b L k2
     ·show μ'.ob (aB k)=none;rcases pc k b z with⟨e,_⟩|⟨_,e⟩
      ·rw[e];exact v.oout _ (Qt _)
      ·exact v.sep k b e
     ·have B:=B;obtain⟨I,J⟩:=v.pv b (by rw[E];exact Qu _ B)
      refine{I,λk e=>?_};rcases pc k b e with⟨_,e⟩|⟨_,e⟩
      ·exact U (e ▸ B)
      ·exact J k e
    exact q (.ref a) H' _ Y R ⟨a,rfl,ac⟩
 ·exact q.elim
end
section
variable{fa:Fa}{X:Cx}
def a9 (m:Bool)(n:Nat)(t:fC)(j:Env->Mem->Res Walk)(g:Env->List D->Mem->Res (List D)):Env->Mem->Res D:=λh M=>
 (j h M).bind λw M=>(cF (cn t g (List.replicate n none++h)) w [] M).bind (ba m)
def pY (X:Cx)(u B h:Expr)(y:List Expr)(rest:List Sw)(j:Scope)(pos:Pos)(body:Addr->R0->Sem Unit):Prop:=
 ∀(z a:Addr) (env:R0),compTurn (.ListComp u ({B,h,y,0}::rest) j pos) 0 (.ref z) (.ref a) env=(standAt h.pos >>= λ_=>pyNext (.ref z) >>= λr=>match r with
  |none=>pure (.done .next)
  |some v=>letOwnedTupleGo B (.ref z) v >>= λ_=>assign B env v >>= λ_=>body a env >>= λ_=>again (.compLoop (.ListComp u ({B,h,y,0}::rest) j pos) 0 (.ref z) (.ref a) env))
structure Block (fa:Fa) (X:Cx) (A:Addr->PA) (own bn:List Str) (scope:Scope) (tg:Expr) (t:fC) (W:List Nat) (body:Addr->R0->Sem Unit) (g:Env->List D->Mem->Res (List D)):Prop where
 pg:∀cl C fp s H,PG (fM X own bn scope cl C fp s H) tg (gT fa X.K t)
 db:∀cl C fp s H a,DB fa (fM X own bn scope cl C fp s H) (A a) a W (body a (compEnvC scope cl C X.env)) g
def rL (h:∀i∈W,i<n):Clear W (List.replicate n none++Z):=λi j d e=>by
 rw[QA (by simpa using h i j),Sv] at e
 simp[h i j] at e
def tD {K:Ql}(n:Nat)(h:bc fa K μ H σ Z):bc fa K μ H (List.replicate n none++σ) (List.replicate n none++Z):=by
 refine{by simp[h.len],λi d e=>?_}
 by_cases j:i<n
 ·rw[QA (by simpa using j),Sv] at e
  simp[j] at e
 ·rw[QY `o] at e ⊢
  simp only[List.length_replicate] at e ⊢;exact h.at' _ d e
def pP {rest:List Sw}
 (S:fm X own bn scope) (R:X.calm=true) (hi:DI fa X tg iter gw) (B:Block fa X (LA fa X.K) own bn scope tg t W body g) (hT:pY X elt tg iter ifs rest scope pos body) (hW:∀i∈W,i∉slots t) (hn:∀i∈slots t++W,i<own.length)
 (hs:∀x,foldedSetIterable iter X.env x=pure x)
 (I:Inv X pins σ H s) (hE:bc fa X.K μ H σ Z) (hM:RelM fa X.K μ H M) (h:ae (a9 m own.length t gw g Z M) (aX fa X.K μ H Q))
 (post:∀(a C:Addr) (s':Qr) (H':Hp),Inv X pins σ H' s'->Q (.ref a) H'->(∃m,s'.heap.Ns C m)->(∀σ2 E s2,Inv X pins σ2 E s2->(H' C=none->E C=none)->E C=none/\∀P,R8 C s2.heap P->Inv X pins σ2 E {s2 with heap:=P})->H' C=none->(C≠X.env.locals/\∀x c,X.env.cells.lookup x=some c->c≠C)->compPost (model X.prog X.w) X.A X.xe use QQ (.ref a) C (.ok .next) s') :
 wpAny (model X.prog X.w) X.A (comprehension (.ListComp elt ({tg,iter,ifs,0}::rest) scope pos) scope X.env p0 (newList []) false (eval iter X.env) use) QQ X.xe s:=by
 obtain⟨w,M1,ew,q⟩:=az h;obtain⟨acc,M2,ea,q2⟩:=az q;obtain⟨cl,hcl,O,L⟩:=pQ λy hy hf=>I.ok.has y.1 (S.free y hy hf);refine wpAny_comprehension_free rfl hs hcl S.kind S.loc ?_;refine aQ (hi pins s σ H (λJ H1=>∃μ1,Ext μ H μ1 H1/\RelM fa X.K μ1 H1 M1/\dh fa X.K μ1 H1 w J) I {μ,Z,M,hE,hM,?_}) λv s1 h1=>aQ h1 λitv s2 h2=>?_
 ·rw[ew];exact λJ H1 μ1 x1 m1 wk=>⟨μ1,x1,m1,wk⟩
 obtain⟨it,fp,tn,J,E,ei,I2,T,st2,f2,μ2,x2,m2,wk⟩:=h2;subst ei;refine wpAny_newObj_type ?_;have ha:=I2.hok.fresh (Qt _);have I3:Inv X pins σ (upd E s2.heap.objs.size (.lst [])) {s2 with heap:=s2.heap.push {cls:=.type "list",dict:=none,data:=.seq ([]:List Qo).toArray}}:=
  I2.laid (λb o e=>Qq _ e) (Qt _) {RX _,[],_,.nil,QK _ rfl}
 generalize hs3:({s2 with heap:=s2.heap.push {cls:=.type "list",dict:=none,data:=.seq ([]:List Qo).toArray}}:Qr)=s3 at I3 ⊢
 have k3:∀b o,s2.heap.get? b=some o->s3.heap.get? b=some o:=λb o e=>by rw[<- hs3];exact Qq _ e
 have fo2:=T.obj _ _ st2;have f3:∀b∈fp,fh X pins (upd E s2.heap.objs.size (.lst [])) b:=λb u=>by
  obtain⟨o,e,_⟩:=fo2 b u;exact{by rw[ao (QW (QG e))];exact(f2 b u).1,(f2 b u).2}
 have fo3:∀b∈fp,∃o,s3.heap.get? b=some o:=λb u=>let{o,e,_}:=fo2 b u;{o,k3 b o e}
 obtain⟨CL,U⟩:=Fb S O L (s3.heap.push {cls:=.type "dict",data:=.dict #[]}) (Sf ..);generalize F:cellsFrom (s3.heap.objs.size+1) scope.names cl=cl' at CL U;refine rH ?_;rw[F];have j:(pushCells (s3.heap.push {cls:=.type "dict",data:=.dict #[]}) scope.names).Ns s3.heap.objs.size (λ_=>none):=(Heap.Ns.new s3.heap (.type "dict")).keeps (pushCells_keeps _ _);have k4:∀b o,s3.heap.get? b=some o->(pushCells (s3.heap.push {cls:=.type "dict",data:=.dict #[]}) scope.names).get? b=some o:=λb o e=>pushCells_keeps _ _ b o (Qq _ e);generalize pushCells (s3.heap.push {cls:=.type "dict",data:=.dict #[]}) scope.names=h₁ at j k4 U ⊢;clear hcl F O L cl
 rename List (Str×Addr)=>cl
 have I4:=uL (t':=s3.toks) I3 S CL f3 fo3 j k4 U;have Y:=I4.ok;have f4:∀b∈fp,fh (fM X own bn scope cl s3.heap.objs.size fp s3 (upd E s2.heap.objs.size (.lst []))) [] (upd E s2.heap.objs.size (.lst [])) b:=λb u=>
  {(f3 b u).1,(Y.exf b u).1,Y.exfs b u,.inl u,(Y.exf b u).2,λp hp=>nomatch hp}
 have st4:=T.keep _ _ _ st2 λb u o e=>k4 b o (k3 b o e);have x3:=mw m2 ha (.lst []);have go:=qG LA.stab (X:=fM X own bn scope cl s3.heap.objs.size fp s3 (upd E s2.heap.objs.size (.lst []))) (acc:=[]) (hT it s2.heap.objs.size _) ⟨rfl,rfl⟩ rfl R T (B.pg _ _ _ _ _) (B.db _ _ _ _ _ _) hW I4 st4 f4
  (tD own.length ((hE.ext x2).extW x3)) (zL m2 ha []) (rL hn) {QB,_,bA,rfl} (qT wk x3) (by
   rw[ea];rintro σ' H' μ' z1 z2 z3 ⟨_,vs',z4,z5⟩;exact GI m2 ha z1 z3 z4 z5 (ju q2 x2))
 have go':codeAny (model X.prog X.w) X.A (.compLoop (.ListComp elt ({tg,iter,ifs,0}::rest) scope pos) 0 (.ref it) (.ref s2.heap.objs.size) (compEnvC scope cl s3.heap.objs.size X.env)) (compPost (model X.prog X.w) X.A X.xe use QQ (.ref s2.heap.objs.size) s3.heap.objs.size) {s3 with heap:=h₁}:=
  codeAny_mono go λr s' ⟨er,σ',H',I',z⟩=>by
   subst er;refine post _ _ s' H' (comp_back I3 f3 I') z (let{m,hn,_}:=I'.loc;⟨m,hn⟩) (λσ2 E s2' I2' hf=>{hf I'.free,λP hs''=>rK I3 (hf I'.free) I2' hs''}) I'.free {Rt I3.lt,λx c e z=>by
    obtain⟨v,q⟩:=I3.cell x c e;exact absurd q.lt (by rw[z];exact RO _)}
 exact codeAny_compStart_list go' (T.self _ 0 _ _ _ st4 go')
def LN (m:Bool){v z j:Expr}{rest:List Sw}
 (S:fm X own bn scope) (u:X.calm=true) (hi:DI fa X z j gw) (B:Block fa X (LA fa X.K) own bn scope z t W body g) (R:pY X v z j ifs rest scope pos body) (U:∀i∈W,i∉slots t) (hn:∀i∈slots t++W,i<own.length)
 (hs:∀x,foldedSetIterable j X.env x=pure x):DE fa X (.ListComp v ({z,j,ifs,0}::rest) scope pos) (a9 m own.length t gw g):=by
 intro F s σ H Q I ⟨μ,Z,M,O,P,h⟩;rw[eval_ListComp];refine pP S u hi B R U hn hs I O P h ?_;intro a C Y H' J q ⟨m,hn⟩ y hf _;exact{m,hn,λL E=>{.ref a,H',(y σ H' Y J id).2 L E,rfl,q}}
def yb (m:Bool){y:Str}{rest:List Sw}
 (S:fm X own bn scope) (j:X.calm=true) (hi:DI fa X tg iter gw) (B:Block fa X (LA fa X.K) own bn scope tg t W body g) (hT:pY X elt tg iter ifs rest scope pos body) (hW:∀i∈W,i∉slots t) (hn:∀i∈slots t++W,i<own.length)
 (hs:∀x,foldedSetIterable iter X.env x=pure x) (hN:X.N.Nodup) (hy:X.N[i]?=some y) (hl:X.env.scope.names.lookup y=some .local)
 (J:swapsWith (.ListComp elt ({tg,iter,ifs,0}::rest) scope pos) (some (.Name y py)) spos.line X.env=pure true) :
 DS fa X (.Assign [.Name y py] (.ListComp elt ({tg,iter,ifs,0}::rest) scope pos) spos) (λZ M=>(a9 m own.length t gw g Z M).bind λx M=>(b9 M (bL (.one i) x Z)).bind λL M=>.ok (.next L) M):=by
 intro P s σ H D' I ⟨μ,Z,M,O,hM,h⟩;obtain⟨x,M1,ex,q⟩:=az h;rw[exec_Assign_Name_used _ _ _ _ J];refine tqa (wpAny_standAt (tqa ?_));refine tqa (aQ (pP S j hi B hT hW hn hs I O hM (by
  rw[ex];exact λv H' μ' Q m1 r1=>q _ H' μ' Q ((O.ext Q).set r1) m1) ?_) λ_ s' hq=>tqb (tqb hq))
 intro a C s' H' R q ⟨m,hn⟩ u hf ⟨nL,nC⟩;refine wpAny_assign_Name (qZ R hN hy (.inl hl) (v:=.ref a) rfl (λs2 U ⟨b,hb,E⟩=>?_) (.inr hl));have nb:C≠b:=by
  rcases E with z|z
  ·rw[z];exact nL
  ·exact Ru (nC y b z)
 exact{m,hn.sameBut hb nb,λY F=>{_,H',(u _ H' s2 U id).2 Y F,q}}
end
section
variable{X:Cx}{pins:List (Addr×Obj)}{σ:L2.St}{H:Hp}{s:Qr}{h':Heap}{t':Nat}{ch:List Addr}
def vn (I:Inv X pins σ H s)(j:∀b∈ch,fh X pins H b)(k:∀b o,b∉ch->s.heap.get? b=some o->h'.get? b=some o):Inv X pins σ H {s with heap:=h',toks:=t'}:=by
 have y:∀b u,H b=some u->b∉ch:=λb u e z=>by rw[(j b z).1] at e;cases e
 refine I.step (λb B=>{(j b B).2.2.2.1,(j b B).2.1,(j b B).2.2.2.2.1,(j b B).2.2.2.2.2}) (λb o _ _ h e _=>k b o h e) (λb o _ _ h e _=>{o.slots,k b o h e}) (λ_ _ _ _ n=>n)
  (λb o h e=>{o,k b o h e}) (λ_ _ e=>e) (λ_ _ _ e=>e) (λb ps e=>{#[],by rw[e];simp}) (λm hm=>?_) (λb u e=>?_) I.bare
 ·obtain⟨o,F,E,ho,r⟩:=hm;exact{o,F,E,k _ o (λz=>(j _ z).2.1 rfl) ho,r}
 ·refine(I.hok b u e).stay (λc v h q=>k c v ?_ q) (λ_ q=>q) λ_ _ q=>q;rcases h with z|z
  ·rw[z];exact y b u e
  ·exact y c _ z
def qW (I:Inv X pins σ H s)(y:∀b∈ch,fh X pins H b)(k:∀b o,b∉ch->s.heap.get? b=some o->h'.get? b=some o)(E:s.heap.objs.size<=T)(new:cf X.prog X.w (upd H T o) h' T o) :
 Inv X pins σ (upd H T o) {s with heap:=h',toks:=t'}:=by
 have hn:=I.hok.fresh E;have B:∀b u,H b=some u->b∉ch:=λb u e z=>by rw[(y b z).1] at e;cases e
 refine I.step (λb h=>{(y b h).2.2.2.1,(y b h).2.1,(y b h).2.2.2.2.1,(y b h).2.2.2.2.2}) (λb o _ _ j e _=>k b o j e) (λb o _ _ j e _=>{o.slots,k b o j e})
  (λb o _ e n=>by rw[ao (QW (QT (QG e) E))];exact n)
  (λb o j e=>{o,k b o j e}) (λb xs e=>by rw[ao (aV e hn)];exact e) (λb ob u e=>by rw[ao (aV e hn)];exact e) (λb ps e=>{#[],by rw[ao (aV e hn),e];simp}) (λm hm=>?_) (λb u e=>?_) I.bare
 ·obtain⟨o,J,F,ho,r⟩:=hm;exact{o,J,F,k _ o (λz=>(y _ z).2.1 rfl) ho,r}
 ·by_cases h:b=T
  ·subst h;rw[bA] at e;cases e;exact new
  ·rw[ao h] at e;refine(I.hok b u e).stay (λc v j q=>k c v ?_ q) (λc q=>by rw[ao (aV q hn)];exact q) λc xs q=>by rw[ao (aV q hn)];exact q
   rcases j with z|z
   ·rw[z];exact B b u e
   ·exact B c _ z
end
section
variable{fa:Fa}{X:Cx}{a:Expr}{ga:Env->Mem->Res D}{pos p:Pos}
def jD:∀(ds:List D) (k i:Nat),(eY k ds)[i]?=(ds[i]?).map λd=>.tup [.int ((k+i:Nat):Int),d]
 |[],_,_=>by simp[eY]
 |d::ds,k,0=>by simp[eY]
 | d :: ds, k, i + 1 => by
   have:=jD ds (k+1) i;simp only[eY,List.getElem?_cons_succ,this]
   congr 1
   funext d
   congr 3
   omega
def mz:∀(ds:List D) (k:Nat),(eY k ds).length=ds.length
 |[],_=>rfl
 |d::ds,k=>by simp[eY,mz ds]
end
def bX:Bool->Heap->Addr->Array Qo->Prop
 |true,h,a,j=>h.IsList a j
 |false,h,a,j=>h.IsTuple a j
def eQ:Bool->Heap->Addr->Addr->Nat->Prop
 |true,h,j,a,i=>h.IsListIter j a i
 |false,h,j,a,i=>h.IsTupleIter j a i
def bX.extBut (x:bX b h a its)(hs:Heap.ExtBut c h h')(n:a≠c):bX b h' a its:=by
 cases b<;>(obtain⟨o,ho,r⟩:=x;exact{o,hs a o n ho,r})
def eQ.extBut (x:eQ b h it a i)(hs:Heap.ExtBut c h h')(n:it≠c):eQ b h' it a i:=by
 cases b<;>(obtain⟨o,ho,r⟩:=x;exact{o,hs it o n ho,r})
def bX.at (x:bX b h a its)(k:∀o,h.get? a=some o->h'.get? a=some o):bX b h' a its:=by
 cases b<;>(obtain⟨o,ho,r⟩:=x;exact{o,k o ho,r})
def eQ.at (x:eQ b h it a i)(k:∀o,h.get? it=some o->h'.get? it=some o):eQ b h' it a i:=by
 cases b<;>(obtain⟨o,ho,r⟩:=x;exact{o,k o ho,r})
def eQ.obj (x:eQ b h it a i):∃o,h.get? it=some o/\∀v,o.data≠.cell v:=by
 cases b<;>(obtain⟨o,ho,c,d⟩:=x;exact{o,ho,λv z=>by rw[d] at z;cases z})
section
variable{prog:Q0}{w:Q2}{A:RL}{E:Qo->Qr->Prop}{s:Qr}
def u4 {a b:Nat}(h:a≠b):@Ne Addr a b:=h
def Iw {T:Addr}{j:Array Qo}{k:Nat}{x:Qo}{Q:Unit->Qr->Prop}(u:s.heap.get? T=some {cls:=.type "tuple",data:=.seq j})(hz:j.size<=64)
 (h:∀h',h'.get? T=some {cls:=.type "tuple",data:=.seq (j.setIfInBounds k x)}->R8 T s.heap h'->Q () {s with heap:=h'}) :
 wpAny (model prog w) A (updateSeq T (·.setIfInBounds k x)) Q E s:=by
 refine wpAny_updateSeq u rfl (h _ ?_ (RQ ..)) (QF hz `d) (by rw[Array.size_setIfInBounds];exact QF hz `d)
 rw[Ro _ u rfl];simp[Obj.mapSeq]
def iE {b:Bool}{v a:Addr}{i:Nat}{j:Array Qo}{Q:Qo->Qr->Prop}(hh:A.handled=none)(h:eQ b s.heap v a i)(hl:bX b s.heap a j)
 (H:∀x h',j[i]?=some x->eQ b h' v a (i+1)->R8 v s.heap h'->Q x {s with heap:=h'})
 (B:j[i]?=none->∀h' e,Heap.ExtBut v s.heap h'->(∃o,h'.get? e=some o/\o.cls=.type "StopIteration")->E (.ref e) {s with heap:=h'}):wpAny (model prog w) A (Builtin.SmallTypes.nextOf (.ref v)) Q E s:=by
 cases b with
 | true => cases u : j[i]? with
   |some x=>exact wpAny_nextOf_list_item h hl u λh'=>H x h' u
   |none=>exact wpAny_nextOf_list_end hh h hl u (B u)
 | false =>
   obtain⟨o,ho,I,hd⟩:=id h;obtain⟨J,z,_,nl,y⟩:=hl;refine tqa (wpAny_callSpecial?_slot h.typeIs F.slot_tuple_iterator_next
    (wpAny_call_entry F.slot_tuple_iterator_next h.typeIs F.entry_tuple_iterator_next ?_ (F.args_tuple_iterator_next_1 _)))
   show wpAny _ _ (field (.ref v) 0 >>= _) _ _ s;refine tqa (tqf ho hd rfl ?_);show wpAny _ _ (if (Value.ref a==Value.none)=true then _ else _) _ _ s;rw[if_neg (show ¬ ((Value.ref a==Value.none)=true) from QP)];refine tqa (tqf ho hd rfl ?_);refine tqa (wpAny_seqItems z y ?_);cases u:j[i]? with
   | some x =>
     simp only[RP,u];refine tqa (wpAny_setField ho hd `s (tqb {x,rfl,tqb (H x _ u ?_ (RQ ..))}))
     exact{_,Ro _ ho (Ss (RN hd _)),(Obj.cls_mapFields ..).trans I,by
      rw[RN hd];simp[rawInt]}
   | none =>
     simp only[RP,u];refine tqa (wpAny_rule (tqa (wpAny_setField ho hd `s ?_)))
     refine tqa ?_;refine tqa (wpAny_newObj_type ?_ (by size_fits))
     refine tqa (wpAny_of_eq (by first|rfl|(simp only[firstArgMember];rfl)) ?_)
     refine wpAny_newObj_type ?_ (by size_fits)
     refine tqa (wpAny_handled ?_);first|rw[show A.in1.handled=none from hh]|rw[hh]
     refine tqa (tqb (wpAny_throw ?_));exact B u _ _ (((RQ ..).extBut.push _).push _) {_,QK _ rfl,rfl}
noncomputable abbrev i0 (us:Array Qo):Obj:={cls:=.type "tuple",data:=.seq us}
noncomputable def qj (n k j:Nat):List Qo:=(List.range' k j).map λk=>Value.ref (n+k)
def yp (n m:Nat)(h h':Heap):Prop:=∀(c:Nat) o,(c<n\/c=n+m\/n+m+2<c)->h.get? c=some o->h'.get? c=some o
def yw (n i k:Nat)(l:List (Bool×Nat))(h:Heap):Prop:=∀(j:Nat) b a,l[j]?=some (b,a)->eQ b h (n+j) a (if j<k then i+1 else i)
def L4 (n:Nat)(l:List (Bool×Nat))(xs:Nat->Array Qo)(h:Heap):Prop:=∀(j:Nat) b a,l[j]?=some (b,a)->a<n/\bX b h a (xs j)
abbrev pX (h:Heap)(n m:Nat)(v:Qo):Prop:=IsZip h (n+m+2) (n+m) (n+m+1) v
def PV (n m i k:Nat)(l:List (Bool×Nat))(xs:Nat->Array Qo)(v h:Heap):Prop:=pX h n m .ellipsis/\(∃u:Array Qo,u.size=m/\(∀j<k,u[j]?=(xs j)[i]?)/\h.get? (n+m+1)=some (i0 u))/\yw n i k l h/\L4 n l xs h/\yp n m v h/\h.objs.size=v.objs.size
def EA {M:Model}{u:Type}{f:Qo×Nat->u->Sem (ForInStep u)}{b:u}{Q:u->Qr->Prop}(n m:Nat)(I:Nat->Qr->Prop)
 (hs:∀k s,k<m->I k s->wpAny M A (f (.ref (n+k),k) b) (λr v=>r=.yield b/\I (k+1) v) E s) (y:∀s,I m s->Q b s):∀(j k:Nat) (s:Qr),k+j=m->I k s->wpAny M A (forIn ((qj n k j).zipIdx k) b f) Q E s
 |0,k,s,e,h=>tqb (y s (e ▸ h))
 | j + 1, k, s, e, h => by
   show wpAny M A (forIn ((Value.ref (n+k),k)::(qj n (k+1) j).zipIdx (k+1)) b f) Q E s;rw[List.forIn_cons];refine tqa (aQ (hs k s `a h) ?_)
   rintro _ v ⟨rfl,z⟩;exact EA n m I hs y j (k+1) v `a z
def sD {n m i:Nat}{l:List (Bool×Nat)}{xs:Nat->Array Qo}{us:Array Qo}{Q:Qo->Qr->Prop}(hh:A.handled=none)(hl:l.length=m+1)(h64:m<64)
 (hz:pX s.heap n (m+1) .none) (hTI:s.heap.get? (n+(m+1))=some (i0 (qj n 0 (m+1)).toArray)) (hTO:s.heap.get? (n+(m+1)+1)=some (i0 us)) (S:us.size=m+1) (hi:yw n i 0 l s.heap) (F:L4 n l xs s.heap)
 (hQ:∀h' us,us.size=m+1->(∀k<m+1,us[k]?=(xs k)[i]?)->pX h' n (m+1) (rawInt s.heap.objs.size)->h'.get? (n+(m+1)+1)=some (i0 us)->yw n (i+1) 0 l h'->h'.get? s.heap.objs.size=some (i0 us)->yp n (m+1) s.heap h'->Q (.ref s.heap.objs.size) {s with heap:=h'})
 (hE:∀h' e k,k<m+1->(xs k)[i]?=none->yp n (m+1) s.heap h'->(∃o,h'.get? e=some o/\o.cls=.type "StopIteration")->E (.ref e) {s with heap:=h'}) :
 wpAny (model prog w) A (Builtin.«zip.__next__» {[.ref (n+(m+1)+2)],[]}) (λfin s'=>∃v,fin=.done (.ret v)/\Q v s') E s:=by
 show wpAny _ _ (field (.ref (n+(m+1)+2)) 2 >>= _) _ _ _;refine tqa (tqf hz rfl rfl ?_);refine tqa (tqf hz rfl rfl ?_);refine tqa (wpAny_seqItems hTI rfl ?_);refine tqa ?_;refine tqa (tqf hz rfl rfl (tqb ?_));refine tqa (wpAny_rule ?_);refine tqa (tqf hz rfl rfl ?_);refine tqa (wpAny_setField_rec hz `s λh0 hz0 R=>?_)
 have u0:∀(c:Nat) o,c≠n+(m+1)+2->s.heap.get? c=some o->h0.get? c=some o:=λc o ne=>R.extBut c o ne;have mm:∀{j b a},l[j]?=some (b,a)->j<m+1:=λe=>hl ▸ (Qm.mp e).1;refine tqa (EA n (m+1) (λk s'=>∃h,s'={s with heap:=h}/\PV n (m+1) i k l xs s.heap h) ?_ ?_ (m+1) 0 _ (Nat.zero_add _) {h0,rfl,hz0,{us,S,λ_ z=>absurd z (Sn _),u0 _ _ `a hTO},λj b a e=>(hi j b a e).at λo=>u0 _ o (by have:=mm e;omega),λj b a e=>{(F j b a e).1,(F j b a e).2.at λo=>u0 _ o (by have:=(F j b a e).1;omega)},λc o J=>u0 c o `a,R.1})
 ·rintro k _ hk ⟨h,rfl,hz,⟨us,S,hx,hT⟩,hi,F,kp,sz⟩;obtain⟨⟨b,a⟩,e⟩:∃p,l[k]?=some p:={_,QE `a}
  have it:=hi k b a e;rw[if_neg (RO k)] at it;refine tqa (wpAny_onRaise ?_);refine tqa (iE hh it (F k b a e).2 (λx h1 ex j1 u=>tqb ?_) λen h1 e1 u ⟨oe,I,P⟩=>?_)
  ·have M:=u.extBut _ _ (u4 `a) hT
   refine tqa (wpAny_seqItems M rfl ?_);refine tqa (Iw M `a λh2 hT2 B=>?_)
   have H:∀(c:Nat) o,c≠n+k->c≠n+(m+1)+1->h.get? c=some o->h2.get? c=some o:=λc o x y z=>B.extBut c o y (u.extBut c o x z);refine tqa (wpAny_letGo (tqb {rfl,h2,rfl,H _ _ `a `a hz,{_,(Array.size_setIfInBounds ..).trans S,λj hj=>?_,hT2},λj b' a' L=>?_,λj b a e=>{(F j b a e).1,(F j b a e).2.at λo=>H _ o (by have:=(F j b a e).1;omega) (by have:=(F j b a e).1;omega)},λc o J x=>H c o `a `a (kp c o J x),by rw[B.1,u.1,sz]}))
   ·by_cases jk:j=k
    ·subst jk;rw[Array.getElem?_setIfInBounds_self_of_lt `a,ex]
    ·rw[Array.getElem?_setIfInBounds_ne (Ru jk),hx j `a]
   ·by_cases jk:j=k
    ·subst jk;cases e.symm.trans L;rw[if_pos (Nat.lt_succ_self _)];exact j1.at λo=>B.extBut _ o (u4 `a)
    ·have q:=hi j b' a' L;have:=mm L;rw[show(if j<k+1 then i+1 else i)=if j<k then i+1 else i by split<;>split<;>omega]
     exact q.at λo=>H _ o `a `a
  ·have U:=u _ _ (u4 `a) hz
   have hez:e1≠n+(m+1)+2:=λx=>by subst x;rw[U] at I;cases I;simp at P
   exact wpAny_setField_rec U `s λh2 _ B=>hE h2 e1 k hk en (λc o J x=>B.extBut _ _ (u4 `a) (u _ _ (u4 `a) (kp c o J x))) {oe,B.extBut _ _ hez I,P}
 ·rintro _ ⟨h4,rfl,W,⟨us,S,hx,hT⟩,hi,F,kp,sz4⟩;refine tqa (wpAny_seqItems hT rfl ?_);refine tqa (wpAny_newTuple (hsz:=QF (show us.toList.length<=64 by rw[Su];omega) `d) ?_)
  have Y:=QG W;refine tqa ?_;have hz6:pX (h4.push (i0 us)) n (m+1) .ellipsis:=Qq _ W;refine tqa (wpAny_setField_rec hz6 `s λh7 hz7 hs7=>?_)
  refine wpAny_setField_rec hz7 `s λh8 X hs8=>?_
  have H:∀(c:Nat) o,c≠n+(m+1)+2->(h4.push (i0 us)).get? c=some o->h8.get? c=some o:=λc o c1 e=>hs8.extBut _ _ c1 (hs7.extBut _ _ c1 e);refine tqb {_,rfl,?_};have O:=H h4.objs.size _ (Rt Y) (QK _ rfl);rw[sz4] at O X ⊢;refine hQ h8 us S hx X (H _ _ `a (Qq _ hT)) (λj b a e=>?_) O λc o J e=>H c o `a (Qq _ (kp c o J e))
  have q:=hi j b a e;rw[if_pos (mm e)] at q;exact q.at λo L=>H _ o (by have:=mm e;omega) (Qq _ L)
end
def iu (K:Ql)(H:Hp):Bool->Addr->List V->Prop
 |true,a,xs=>cP K H a xs
 |false,a,xs=>dw K H a xs
noncomputable def hZ:D->Bool
 |.tup _=>false
 |_=>true
noncomputable def fR:D->Bool
 |.tup _=>true
 |.lst _=>true
 |.frz _=>true
 |.cell _=>true
 |_=>false
def mT {X:Cx}{u:List (Addr×Obj)}{v:L2.St}{H:Hp}{s:Qr}{b:Bool}{a:Addr}{xs:List V}(I:Inv X u v H s)(h:iu X.K H b a xs):∃j:List Qo,Vals xs j/\bX b s.heap a j.toArray:=by
 cases b with
 |true=>obtain⟨j,r,p,_⟩:=I.list h;exact⟨j,r,p.isList⟩
 |false=>obtain⟨j,r,p,_⟩:=I.tuple h;exact⟨j,r,p⟩
def kQ {X:Cx}{j:List (Addr×Obj)}{u:L2.St}{H:Hp}{s:Qr}{b:Bool}{a:Addr}{xs ys:List V}(I:Inv X j u H s)(h:iu X.K H b a xs)(h':iu X.K H b a ys):xs=ys:=by
 cases b with
 |true=>exact I.list_inj h h'
 |false=>exact I.tuple_inj h h'
def kM {fa:Fa}{X:Cx}{μ:Mu}{H:Hp}{M:Mem}{d:D}{a:Addr}{ds:List D}(v:RelM fa X.K μ H M)(h:Rep fa X.K μ H d (.ref a))(e:cv M d=some ds):∃vs,iu X.K H (hZ d) a vs/\aG fa X.K μ H ds vs:=by
 cases d with
 |tup xs=>cases e;obtain⟨u,vs,e,s,r⟩:=h;cases e;exact⟨vs,s,r⟩
 |lst xs=>obtain⟨u,vs,j,s,r⟩:=bu v h (e);cases j;exact⟨vs,s,r⟩
 |frz xs=>obtain⟨u,vs,j,s,r⟩:=bu v h (e);cases j;exact⟨vs,s,r⟩
 |cell k=>obtain⟨u,vs,j,s,r⟩:=bu v h (e);cases j;exact⟨vs,s,r⟩
 |_=>cases e
def og {fa:Fa}{X:Cx}{y:List (Addr×Obj)}{O:L2.St}{μ:Mu}{H:Hp}{s:Qr}{M:Mem}{d:D}{v:V}(I:Inv X y O H s)(F:RelM fa X.K μ H M)(h:Rep fa X.K μ H d v)(e:fR d=true):∃(a:Nat) (j:Array Qo),v=.ref a/\bX (hZ d) s.heap a j:=by
 have u:∀B,cv M d=some B->∃(a:Nat) (j:Array Qo),v=.ref a/\bX (hZ d) s.heap a j:=λB z=>by
  obtain⟨a,L,rfl,_,_⟩:=i4 F h z;obtain⟨L,s1,_⟩:=kM F h z;obtain⟨j,_,p⟩:=mT I s1;exact⟨a,j.toArray,rfl,p⟩
 cases d with
 |tup xs=>exact u xs rfl
 |lst xs=>exact u xs rfl
 |frz xs=>exact u xs rfl
 | cell k =>
   obtain⟨a,e,J⟩:=id h;obtain⟨B,_,z,_⟩:=F.mu_lt J;exact u B z
 |_=>cases e
def bX.lt {b:Bool}{h:Heap}{a:Addr}{j:Array Qo}(x:bX b h a j):a<h.objs.size:=by
 cases b<;>(obtain⟨o,ho,r⟩:=x;exact QG ho)
def bX.push {b:Bool}{h:Heap}{a:Addr}{j:Array Qo}(x:bX b h a j)(ob:Obj):bX b (h.push ob) a j:=by
 cases b<;>(obtain⟨o,ho,r⟩:=x;exact{o,Qq _ ho,r})
noncomputable def fu (b:Bool)(a:Addr):Obj:={cls:=.type (if b then "list_iterator" else "tuple_iterator"),data:=.fields #[.ref a,.int 0 0]}
def eQ.new {b:Bool}{h:Heap}{j a:Addr}(e:h.get? j=some (fu b a)):eQ b h j a 0:=by
 cases b<;>exact{_,e,rfl,rfl}
def pf {prog:Q0}{w:Q2}{A:RL}{E:Qo->Qr->Prop}{s:Qr}{b:Bool}{a:Addr}{j:Array Qo}{Q:Qo->Qr->Prop}(h:bX b s.heap a j)(u:Q (.ref s.heap.objs.size) {s with heap:=s.heap.push (fu b a)}):wpAny (model prog w) A (pyIter (.ref a)) Q E s:=by
 cases b with
 |true=>exact wpAny_pyIter_list h u
 |false=>exact wpAny_pyIter_tuple h u
abbrev jm:=List (Bool×Nat)
def L8 (K:Ql)(l:jm):It:=
 {λi H => ∀ (j : Nat) b a, l[j]? = some (b, a) -> ∃ xs x, iu K H b a xs /\ xs[i]? = some x,
  λi H v u=>∃p h,H p=none/\v=.ref p/\u=upd H p (.tup h)/\h.length=l.length/\∀(j:Nat) b a,l[j]?=some (b,a)->∀xs,iu K H b a xs->h[j]?=xs[i]?,
  λi H=>(∀(j:Nat) b a,l[j]?=some (b,a)->∃xs,iu K H b a xs)/\∃(j:Nat) (b:Bool) (a:Nat) (xs:List V),l[j]?=some (b,a)/\iu K H b a xs/\xs.length<=i}
def yo (n m:Nat)(l:jm)(i:Nat)(h:Heap):Prop:=pX h n (m+1) .none/\h.get? (n+(m+1))=some (i0 (qj n 0 (m+1)).toArray)/\(∃j:Array Qo,j.size=m+1/\h.get? (n+(m+1)+1)=some (i0 j))/\yw n i 0 l h
noncomputable def Ic (n m:Nat):List Addr:=List.range' n (m+4)
def dP {n m b:Nat}:b∈Ic n m↔n<=b/\b<n+(m+4):=List.mem_range'_1
def Ej {X:Cx}{u:List (Addr×Obj)}{F:L2.St}{H:Hp}{s:Qr}{l:jm}(I:Inv X u F H s)(h:∀(j:Nat) b a,l[j]?=some (b,a)->∃xs,iu X.K H b a xs) :
 ∃(vs:Nat->List V) (ws:Nat->List Qo),∀(j:Nat) b a,l[j]?=some (b,a)->iu X.K H b a (vs j)/\Vals (vs j) (ws j)/\bX b s.heap a (ws j).toArray:=by
 obtain⟨f,B⟩:=Classical.skolem.mp λj:Nat=>show ∃p:List V×List Qo,∀b a,l[j]?=some (b,a)->iu X.K H b a p.1/\Vals p.1 p.2/\bX b s.heap a p.2.toArray from by
  cases e:l[j]? with
  |none=>exact{([],[]),λ_ _ z=>by cases z}
  | some p =>
    obtain⟨xs,y⟩:=h j p.1 p.2 e;obtain⟨v,r,q⟩:=mT I y;exact{(xs,v),λL J z=>by cases z;exact⟨y,r,q⟩}
 exact{λj=>(f j).1,λj=>(f j).2,B}
def DZ:∀{us:List Qo}{R:Nat->V->Prop},(∀(k:Nat) w,us[k]?=some w->∃y,RelV y w/\R k y)->∃ys,Vals ys us/\∀(k:Nat) y,ys[k]?=some y->R k y
 |[],R,_=>{[],.nil,λ_ _ z=>by simp at z}
 | w :: r, R, h => by
   obtain⟨y,e,q⟩:=h 0 w rfl;obtain⟨ys,v,t⟩:=DZ λk w e=>h (k+1) w e;exact{y::ys,.cons e v,λk z e=>match k,e with
    |0,e=>by cases e;exact q
    |k+1,e=>t k z e}
def BL {P:Q0}{w:Q2}{K:Ql}{O:List Expr}{kk:Nat}{pos:Pos}(n m:Nat)(l:jm)(hl:l.length=m+1)(R:m<64)(hn:∀(j:Nat) b a,l[j]?=some (b,a)->a<n) :
 Turn P w K (.Tuple O kk pos) (L8 K l) (Ic n m) (n+(m+1)+2) (λi h=>yo n m l i h) where
 mem:=dP.mpr `a
 obj:=λi h ⟨h1,h2,⟨us,_,h3⟩,J⟩ (b:Nat) y=>by
  replace y:=dP.mp y;by_cases c:b<n+(m+1)
  ·obtain⟨j,rfl⟩:∃j,b=n+j:={b-n,`a}
   exact(J j _ _ (QE `a)).obj
  ·rcases(show b=n+(m+1)\/b=n+(m+1)+1\/b=n+(m+1)+2 by omega) with rfl|rfl|rfl
   ·exact{_,h2,λv z=>by cases z}
   ·exact{_,h3,λv z=>by cases z}
   ·exact{_,h1,λv z=>by cases z}
 keep:=λi h h' ⟨h1,h2,⟨us,B,h3⟩,J⟩ k=>{k _ (dP.mpr `a) _ h1,k _ (dP.mpr `a) _ h2,{us,B,k _ (dP.mpr `a) _ h3},λj b a e=>(J j b a e).at (k _ (dP.mpr (by have:=(Qm.mp e).1;omega)))}
 item:=by
  intro X hP U hK hc i Y s σ H E I hf {h1,h2,⟨us,B,h3⟩,J} hg;subst hP U hK;obtain⟨vs,ws,M⟩:=Ej I λj b a e=>(hg j b a e).imp λ_ ⟨_,h,_⟩=>h;have it:∀k,k<m+1->∃x w b a,l[k]?=some (b,a)/\(vs k)[i]?=some x/\(ws k)[i]?=some w/\RelV x w:=λk u=>by
   have e:l[k]?=some (l[k]'(`a)):=QE _
   obtain⟨xs,x,L,ex⟩:=hg k _ _ e;obtain⟨q1,q2,_⟩:=M k _ _ e;rw[kQ I L q1] at ex;obtain⟨w,U,r⟩:=q2.get ex;exact{x,w,_,_,e,ex,U,r}
  have S:s.TypeIs (.ref (n+(m+1)+2)) "zip":={_,h1,rfl};unfold pyNext;refine tqa (wpAny_attempt (wpAny_callSpecial?_slot S F.slot_zip_next
   (wpAny_call_entry F.slot_zip_next S F.entry_zip_next
    (sD (I.ok.hd hc) hl R h1 h2 h3 B J (λj b a e=>{hn j b a e,(M j b a e).2.2}) (λh4 us B L z1 z2 g hTT u=>tqb {_,rfl,?_}) λh' e k u en _ _=>?_) (F.args_zip_next_1 _))))
  ·have zlt:n+(m+1)+2<s.heap.objs.size:=QG h1;refine wpAny_letOwnedTupleGo_zip z1 λh5 hz5 hs5=>?_;have up:∀(c:Nat) o,c≠n+(m+1)+2->h4.get? c=some o->h5.get? c=some o:=λc o=>hs5.extBut c o;obtain⟨ys,vy,ty⟩:=DZ (us:=us.toList) λk w e=>by
    have u:k<m+1:=by have:=(Qm.mp e).1;rw[Su] at this;omega
    obtain⟨x,w',_,_,_,ex,ew,r⟩:=it k u;have q:=L k u;rw[Array.getElem?_toList] at e;simp only[List.getElem?_toArray] at q;rw[e,ew] at q;cases q;exact⟨x,r,ex⟩
   have ly:ys.length=m+1:=by rw[vy.length,Su,B]
   refine{.ref s.heap.objs.size,upd H s.heap.objs.size (.tup ys),qW (s:=s) I hf (λ(b:Nat) o y q=>up b o (λz=>y (dP.mpr `a)) (u b o (by rw[dP] at y;omega) q)) (Qt _) {by rw[ly];exact QF (show m+1<=64 by omega) `d,us.toList,vy,{_,up _ _ (Rt zlt) hTT,rfl,_,rfl}},rfl,
    {_,ys,I.hok.fresh (Qt _),rfl,rfl,ly.trans hl.symm,λj b a e xs L=>?_},{hz5,up _ _ `a (u _ _ `a h2),{us,B,up _ _ `a z2},λj b a e=>(g j b a e).at λo=>up _ o (by have:=(Qm.mp e).1;omega)},λ(b:Nat) y=>?_}
   ·have hj:j<ys.length:=by have:=(Qm.mp e).1;omega
    have e1:=QE hj;rw[kQ I L (M j b a e).1,ty j _ e1,e1]
   ·rw[dP] at y;rw[ao (QW (by omega:(b:Nat)<s.heap.objs.size))];exact(hf b (dP.mpr y)).1
  ·obtain⟨_,_,_,_,_,_,ew,_⟩:=it k u;simp only[List.getElem?_toArray] at en;rw[ew] at en;cases en
 done:=by
  intro X hP U hK hc i Y s σ H E I hf {h1,h2,⟨us,B,h3⟩,J} ⟨hs,k,b,a,xs,ek,hq,le⟩;subst hP U hK;obtain⟨vs,ws,M⟩:=Ej I hs;have S:s.TypeIs (.ref (n+(m+1)+2)) "zip":={_,h1,rfl};unfold pyNext;refine tqa (wpAny_attempt (wpAny_callSpecial?_slot S F.slot_zip_next
   (wpAny_call_entry F.slot_zip_next S F.entry_zip_next
    (sD (I.ok.hd hc) hl R h1 h2 h3 B J (λj b a e=>{hn j b a e,(M j b a e).2.2}) (λh4 us B L _ _ _ _ _=>?_) λh' e k _ _ u he=>?_) (F.args_zip_next_1 _))))
  ·exfalso;have u:=(Qm.mp ek).1;have q:=L k `a
   obtain⟨q1,q2,_⟩:=M k b a ek;rw[R6 `a] at q
   simp only[List.getElem?_toArray] at q;rw[List.getElem?_eq_none (by rw[<- q2.length,kQ I q1 hq];exact le)] at q
   cases q
  ·obtain⟨o,ho,hcl⟩:=he;refine tqa (wpAny_isInstance ⟨o,ho,hcl⟩ isSubtype_stop ?_);exact tqb {rfl,vn I hf λ(b:Nat) o y q=>u b o (by rw[dP] at y;omega) q}
 self:=λ_ _ _ _ _ st h=>wpAny_pyIter_zip st.1 h
def hX (h:Heap):jm->Heap
 |[]=>h
 |p::r=>hX (h.push (fu p.1 p.2)) r
def sh (h:Heap):jm->List Qo
 |[]=>[]
 |p::r=>.ref h.objs.size::sh (h.push (fu p.1 p.2)) r
def ph:∀{h:Heap}{l:jm},(hX h l).objs.size=h.objs.size+l.length
 |_,[]=>rfl
 |h,p::r=>by show(hX _ r).objs.size=_;rw[ph,Sf,RV];omega
def lY:∀{l:jm}{h:Heap}{c:Nat}{o:Obj},h.get? c=some o->(hX h l).get? c=some o
 |[],_,_,_,e=>e
 |_::r,_,_,_,e=>lY (l:=r) (Qq _ e)
def rh:∀{l:jm}{h:Heap}{j:Nat}{p:Bool×Nat},l[j]?=some p->(hX h l).get? (h.objs.size+j)=some (fu p.1 p.2)
 |_::r,h,0,_,e=>by cases e;exact lY (l:=r) (QK _ rfl)
 | q :: r, h, j + 1, _, e => by
   have:=rh (h:=h.push (fu q.1 q.2)) (j:=j) e;rw[Sf,Sj,Nat.add_comm 1] at this;exact this
def tJ:∀{l:jm}{h:Heap}{n k:Nat},h.objs.size=n+k->sh h l=qj n k l.length
 |[],_,_,_,_=>rfl
 | p :: r, h, n, k, e => by
   have:=tJ (l:=r) (h:=h.push (fu p.1 p.2)) (k:=k+1) (by rw[Sf,e];rfl)
   show Value.ref h.objs.size::sh _ r=Value.ref (n+k)::qj n (k+1) r.length;rw[this,e]
abbrev DK (h:Heap)(l:jm):Heap:=(hX h l).push (i0 (sh h l).toArray)
abbrev yz (h:Heap)(l:jm):Heap:=(DK h l).push (i0 (l.map λ_=>Value.none).toArray)
abbrev sG (h:Heap)(l:jm):Heap:=(yz h l).push {cls:=.type "zip",data:=.fields #[.none,.bool false,.bool false,.ref (hX h l).objs.size,.ref (DK h l).objs.size]}
def Ft (h:Heap){l:jm}{m:Nat}(hl:l.length=m+1):(yz h l).objs.size=h.objs.size+(m+1)+2/\yo h.objs.size m l 0 (sG h l)/\∀c o,h.get? c=some o->(sG h l).get? c=some o:=by
 have u:(hX h l).objs.size=h.objs.size+(m+1):=by rw[ph,hl]
 have s1:(DK h l).objs.size=h.objs.size+(m+1)+1:=by rw[Sf,u]
 have s2:(yz h l).objs.size=h.objs.size+(m+1)+2:=by rw[Sf,s1]
 have B:∀{c:Nat}{o},(hX h l).get? c=some o->(sG h l).get? c=some o:=λe=>Qq _ (Qq _ (Qq _ e));have v:(sG h l).get? (hX h l).objs.size=some _:=Qq _ (Qq _ (QK _ rfl));have y:(sG h l).get? (DK h l).objs.size=some _:=Qq _ (QK _ rfl);have z:(sG h l).get? (yz h l).objs.size=some _:=QK _ rfl;rw[u,tJ (Nat.add_zero _).symm,hl] at v;rw[s1] at y;rw[s2,s1,u] at z;exact{s2,{z,v,{_,by simp[hl],y},λj b a e=>eQ.new (B (rh e))},λc o e=>B (lY e)}
def xD (b0:Bool)(a0:Nat)(b1:Bool)(a1:Nat)(xs0 xs1:Array Qo) :
 Meets (Builtin.«zip.__new__» {[.type "zip",.ref a0,.ref a1],[]}) (λ_ R s=>bX b0 s.heap a0 xs0/\bX b1 s.heap a1 xs1/\
  R (.ok (.ret (.ref (yz s.heap [(b0,a0),(b1,a1)]).objs.size))) {s with heap:=sG s.heap [(b0,a0),(b1,a1)]}):=
 .of_wp λprog w A R s h=>by
  obtain⟨y,g,d,tk,os⟩:=s;obtain⟨z,B,h⟩:=h;have j:=sub_zip;have u:=z;have v:bX b1 (Shared.heap {y.push (fu b0 a0),g,d,tk,os}) a1 xs1:=(B).push _;wp_walk using pf u,pf v
  exact{_,rfl,h}
section
variable{prog:Q0}{w:Q2}{A:RL}{E:Qo->Qr->Prop}{s:Qr}{a0 a1 a2:Nat}{b0 b1 b2:Bool}{xs0 xs1 xs2:Array Qo}{Q:Qo->Qr->Prop}
def A6 (j:bX b0 s.heap a0 xs0)(u:bX b1 s.heap a1 xs1)(h:∀h',yo s.heap.objs.size 1 [(b0,a0),(b1,a1)] 0 h'->(∀c o,s.heap.get? c=some o->h'.get? c=some o)->Q (.ref (s.heap.objs.size+2+2)) {s with heap:=h'}) :
 wpAny (model prog w) A (call (.type "zip") [.ref a0,.ref a1]) Q E s:=by
 obtain⟨z,y,x⟩:=Ft s.heap (l:=[(b0,a0),(b1,a1)]) rfl;refine callType_new F.called_zip `d (F.typeCall_zip_2 _ _) (F.newCall_zip_2 _ _) (λobj=>F.args_object_init_3 obj _ _) F.entry_zip_new (xD b0 a0 b1 a1 xs0 xs1) {j,u,?_}
 show _/\_;rw[z];exact{{_,y.1,rfl},h _ y x}
end
def wV (d0 d1:D):Walk:=λM=>(cv M d0).bind λh=>(cv M d1).map λj=>eC h j
def nu (j u:Env->Mem->Res D):Env->Mem->Res Walk:=λh M=>(j h M).bind λd0 M=>(u h M).bind λd1 M=>if fR d0&&fR d1 then .ok (wV d0 d1) M else .bad
def sF:∀(j u:List D) (i:Nat) (d:D),(eC j u)[i]?=some d↔∃h e1,j[i]?=some h/\u[i]?=some e1/\d=.tup [h,e1]
 |v::t0,y::t1,0,d=>by simp[eC,eq_comm]
 | v :: t0, y :: t1, i + 1, d => by
   have:=sF t0 t1 i d;simpa[eC] using this
 |[],_,i,d=>by simp[eC]
 |_::_,[],i,d=>by simp[eC]
def sE:∀(j u:List D) (i:Nat),(eC j u).length<=i->j.length<=i\/u.length<=i
 |v::t0,y::t1,0,h=>by simp[eC] at h
 | v :: t0, y :: t1, i + 1, h => by
   have:=sE t0 t1 i (by simpa[eC] using h)
   simpa using this
 |[],_,i,h=>`s
 |_::_,[],i,h=>`s
def Eo {fa:Fa}{K:Ql}{μ:Mu}{H:Hp}:∀{es:List D}{ws:List V},es.length=ws.length->(∀(j:Nat) e w,es[j]?=some e->ws[j]?=some w->Rep fa K μ H e w)->aG fa K μ H es ws
 |[],[],_,_=>rfl
 |e::es,w::ws,hl,h=>{w,ws,rfl,h 0 e w rfl rfl,Eo (by simpa using hl) λj e w=>h (j+1) e w}
def Br {fa:Fa}{X:Cx}{μ0:Mu}{H0:Hp}{l:jm}{w:Walk} (hw:∀μ H M ds,ExtW μ0 H0 μ H->RelM fa X.K μ H M->w M=some ds->∃ys:List (List D),ys.length=l.length/\(∀(j:Nat) y b a,ys[j]?=some y->l[j]?=some (b,a)->∃vs,iu X.K H b a vs/\aG fa X.K μ H y vs)/\
 (∀(i:Nat) d,ds[i]?=some d->∃es,d=.tup es/\es.map some=ys.map (·[i]?))/\∀i,ds.length<=i->∃y∈ys,y.length<=i):dh fa X.K μ0 H0 w (L8 X.K l):=λμ H M ds x L e=>by
 obtain⟨ys,hl,B,hd,Y⟩:=hw μ H M ds x L e;have at_:∀(j:Nat) b a,l[j]?=some (b,a)->∃y vs,ys[j]?=some y/\iu X.K H b a vs/\aG fa X.K μ H y vs:=λj b a e=>by
  have hj:=(Qm.mp e).1;have u:=QE (l:=ys) (i:=j) `a
  obtain⟨vs,q,r⟩:=B j _ b a u e;exact{_,vs,u,q,r}
 refine{λi d O=>?_,λi O=>{λj b a e=>?_,?_}}
 ·obtain⟨es,rfl,F⟩:=hd i d O;have J:∀{j:Nat}{y:List D},ys[j]?=some y->es[j]?.map some=some y[i]?:=λ{j y} u=>by
   have:=congrArg (·[j]?) F;simpa[u] using this
  have le:es.length=l.length:=by have:=congrArg List.length F;simpa[hl] using this
  have S:∀(j:Nat) b a,l[j]?=some (b,a)->∃vs e v,es[j]?=some e/\iu X.K H b a vs/\vs[i]?=some v/\Rep fa X.K μ H e v:=λj b a e=>by
   obtain⟨y,vs,u,q,r⟩:=at_ j b a e;have z:=J u;cases h:es[j]? with
   |none=>rw[h] at z;cases z
   | some e =>
     rw[h] at z;obtain⟨v,B,R⟩:=r.get (Qw z).symm;exact⟨vs,e,v,rfl,q,B,R⟩
  refine{λj b a e=>?_,λy H' ⟨p,zs,P,u,U,lz,t⟩=>?_}
  ·obtain⟨vs,_,v,_,q,B,_⟩:=S j b a e;exact⟨vs,v,q,B⟩
  subst U u;refine{Ext.alloc L P,L.alloc P,p,zs,rfl,.inl (.inl bA),Eo (le.trans lz.symm) λj e w F W=>?_};have I:=QE (l:=l) (i:=j) (by have:=(Qm.mp F).1;omega)
  obtain⟨vs,e',v,h1,q,B,R⟩:=S j _ _ I;have z:=t j _ _ I vs q;rw[W,B] at z;rw[F] at h1;cases z;cases h1;exact R.ext (Ext.alloc L P)
 ·obtain⟨_,vs,_,q,_⟩:=at_ j b a e;exact⟨vs,q⟩
 ·obtain⟨y,hy,ly⟩:=Y i O;obtain⟨j,J⟩:=List.getElem?_of_mem hy;have I:=QE (l:=l) (i:=j) (by have:=(Qm.mp J).1;omega)
  obtain⟨vs,q,r⟩:=B j y _ _ J I;exact{j,_,_,vs,I,q,by rw[r.length];exact ly}
section
variable{fa:Fa}{X:Cx}{μ0:Mu}{H0:Hp}{d0 d1 d2:D}{a0 a1 a2:Nat}(r0:Rep fa X.K μ0 H0 d0 (.ref a0))(r1:Rep fa X.K μ0 H0 d1 (.ref a1))(r2:Rep fa X.K μ0 H0 d2 (.ref a2))
include r0 r1
theorem yI:dh fa X.K μ0 H0 (wV d0 d1) (L8 X.K [(hZ d0,a0),(hZ d1,a1)]):=Br λR H M O x F e=>by
 obtain⟨v,L,e⟩:=Rl.mp e;obtain⟨B,s1,rfl⟩:=Qv.mp e;refine{[v,B],rfl,λj y b a u h=>?_,λi d hd=>?_,λi J=>?_}
 ·match j,u,h with
  |0,u,h=>cases u;cases h;exact kM F (Rep.extW x r0) L
  |1,u,h=>cases u;cases h;exact kM F (Rep.extW x r1) s1
 ·obtain⟨P,e1,I,h1,rfl⟩:=(sF v B i d).mp hd;exact{_,rfl,by simp[I,h1]}
 ·rcases sE v B i J with z|z<;>exact{_,`s,z}
include r2
end
set_option tactic.hygienic true in
def HH {fa:Fa}{X:Cx}{B:List Expr}{kk:Nat}{tp p pos:Pos}{Y e1:Expr}{g0 g1:Env->Mem->Res D}(h0:DE fa X Y g0)(h1:DE fa X e1 g1)(hg:Gl X "zip")(hm:X.mg "zip"=none)
 (F:starEach [Y,e1] X.env=[(false,eval Y X.env),(false,eval e1 X.env)]) (v:starEach [e1] X.env=[(false,eval e1 X.env)]):DI fa X (.Tuple B kk tp) (.Call (.Name "zip" p) [Y,e1] [] pos) (nu g0 g1):=by
 intro O s σ H R I ⟨μ,Z,M,hE,hM,h⟩;obtain⟨d0,M0,c0,t0⟩:=az h;obtain⟨d1,M1,c1,t1⟩:=az t0;split at t1
 ·next J=>
  simp only[Qs] at J;obtain⟨hq0,hq1⟩:=J;refine Call_ (gD I hg hm boot_zip (R1 (aQ (bI h0 (bI h1 cW v) (by rw[F,v]) pos O s σ H (λvs y=>∃U W u,vs=[U,W]/\Ext μ H u y/\RelM fa X.K u y M1/\Rep fa X.K u y d0 U/\Rep fa X.K u y d1 W) I ?_) λus s1 ⟨vs,y,z,r1,U,W,u,ev,x1,L,P,S⟩=>?_) (by rw[F,v]) (by rw[v];rfl)))
  ·refine{μ,Z,M,hE,hM,?_};rw[c0];intro U y u x1 L r0;refine{u,Z,M0,(hE.ext x1),L,?_};rw[c1];intro W H2 μ2 x2 m2 r1;exact{U,W,μ2,rfl,(x1.trans x2),m2,(r0.ext x2),r1}
  subst ev;obtain⟨a0,its0,rfl,z0⟩:=og z L P hq0;obtain⟨a1,its1,rfl,z1⟩:=og z L S hq1;cases r1 with
  | cons y0 r1 =>
    cases r1 with
    | cons y1 r1 =>
      cases r1;obtain rfl:=y0;obtain rfl:=y1;refine A6 z0 z1 λh1 za hk=>?_;have I2:=z.kept (t':=s1.toks) hk;refine wpAny_pyIter_zip za.1 ?_;refine{s1.heap.objs.size+2+2,Ic s1.heap.objs.size 1,_,_,y,rfl,I2,BL s1.heap.objs.size 1 [(hZ d0,a0),(hZ d1,a1)] rfl `d (λj b a e=>match j,e with
       |0,e=>by cases e;exact z0.lt
       |1,e=>by cases e;exact z1.lt),za,λb hb=>?_,t1 _ y u x1 L (yI P S)}
      have hb:=(dP.mp hb).1;exact z.fpOk hb (z.hok.fresh hb)
 ·exact t1.elim
noncomputable def xY (h:Addr):Obj:={cls:=.type "enumerate",data:=.fields #[.none,.bool false,.ref h,rawInt 0,.none,.none]}
set_option tactic.hygienic true in
def Ai (l:Addr)(us:Array Qo)(n:Nat)(dct:Option Addr)(sl:Array (Option Qo)) :
 Meets (Builtin.«enumerate.__new__» {[.type "enumerate",.ref l],[]}) (λ_ R s=>s.heap.get? l=some {.type "tuple",dct,.seq us n,sl}/\
  R (.ok (.ret (.ref (s.heap.push (fu false l)).objs.size))) {s with heap:=(s.heap.push (fu false l)).push (xY s.heap.objs.size)}):=
 .of_wp λprog w A R s h=>by
  obtain⟨v,g,d,tk,os⟩:=s;obtain⟨j,h⟩:=h;have q:=sub_enumerate;have u:Heap.IsTuple (Shared.heap ⟨v,g,d,tk,os⟩) l us:={_,j,rfl,n,rfl};wp_walk using QX j
  refine wpAny_stack_any λ_=>tqb ?_;split
  ·rename_i c _ _ _ _ _;cases (c==Value.type "enumerate")<;>
   ·wp_walk using QX j,wpAny_pyIter_tuple u
    exact{_,rfl,h}
  ·wp_walk using QX j,wpAny_pyIter_tuple u
   exact{_,rfl,h}
section
variable{prog:Q0}{w:Q2}{A:RL}{E:Qo->Qr->Prop}{s:Qr}
def Ds (j:bX b s.heap l us)
 (h:∀h',IsEnum h' (s.heap.objs.size+1) s.heap.objs.size 0 .none->eQ b h' s.heap.objs.size l 0->(∀c o,s.heap.get? c=some o->h'.get? c=some o)->Q (.ref (s.heap.objs.size+1)) {s with heap:=h'}):wpAny (model prog w) A (call (.type "enumerate") [.ref l]) Q E s:=by
 cases b with
 |true=>exact call_enumerate_list j λh' e i _ k=>h h' e i k
 | false =>
   obtain⟨⟨c,dct,B,sl⟩,z,y,n,hd⟩:=j;cases y;cases hd;refine callType_new F.called_enumerate `d (F.typeCall_enumerate_1 _) (F.newCall_enumerate_1 _) (λo=>F.args_object_init_2 o _) F.entry_enumerate_new (Ai l us n dct sl) {z,?_}
   have v:(s.heap.push (fu false l)).objs.size=s.heap.objs.size+1:=Sf ..;rw[v];have u:IsEnum ((s.heap.push (fu false l)).push (xY s.heap.objs.size)) (s.heap.objs.size+1) s.heap.objs.size 0 .none:=by
    have:=QK (s.heap.push (fu false l)) (o:=xY s.heap.objs.size) rfl;rw[v] at this;exact this
   exact{{_,u,rfl},h _ u (eQ.new (Qq _ (QK _ rfl))) λc o x=>Qq _ (Qq _ x)}
def Lw (hh:A.handled=none)(y:l≠it)(us:Array Qo):Draws prog w A it [it,l] us.size (λi v=>us[i]?=some v) (λi h=>eQ b h it l i/\bX b h l us) where
 live:=λ_ _ st=>let{o,ho,_}:=st.1.obj;⟨o,ho⟩
 frame:=λ_ _ _ st H=>{st.1.at λo e=>H it `s o e,st.2.at λo e=>H l `s o e}
 item:=λi s Q E L st J=>iE hh st.1 st.2 (λx F u B j=>J _ F s.toks u {B,st.2.extBut j.extBut y} j) λz=>by rw[R6 L] at z;cases z
 done:=λs Q E st I=>iE hh st.1 st.2 (λx F u=>by rw[Array.getElem?_eq_none (Qt _)] at u;cases u) λ_=>I
def Lv (hh:A.handled=none)(y:us[i]?=none):Draws prog w A it [it,l] i (λ_ _=>True) (λk h=>k=i/\eQ b h it l i/\bX b h l us) where
 live:=λ_ _ st=>let{o,ho,_}:=st.2.1.obj;⟨o,ho⟩
 frame:=λ_ _ _ st j=>{st.1,st.2.1.at λo e=>j it `s o e,st.2.2.at λo e=>j l `s o e}
 item:=λk s Q E v st B=>absurd st.1 (QW v)
 done:=λs Q E st u=>iE hh st.2.1 st.2.2 (λx z e=>by rw[y] at e;cases e) λ_=>u
end
noncomputable def Oy (K:Ql)(b:Bool)(a:Addr):It:=
 {λi H=>∃xs x,iu K H b a xs/\xs[i]?=some x,λi H v h=>∃p x,H p=none/\v=.ref p/\h=upd H p (.tup [.int i,x])/\∀xs,iu K H b a xs->xs[i]?=some x,λi H=>∃xs,iu K H b a xs/\xs.length<=i}
def zd {K:Ql}(b:Bool)(a L e:Addr)(M:e≠L)(hna:a≠L)(hea:e≠a) :
 Turn P w K (.Tuple elts kk pos) (Oy K b a) [e,L] e (λi h=>(∃old,IsEnum h e L (i:Nat) old)/\eQ b h L a i) where
 mem:=`s
 obj:=λi h ⟨⟨old,y⟩,hi⟩ c j=>by
  rcases Q1.mp j with z|z
  ·subst z;exact{_,y,λv z=>by cases z}
  ·have e:c=L:=by simpa using z
   subst e;exact hi.obj
 keep:=λi h h' ⟨⟨old,y⟩,st⟩ k=>{{old,k e `s _ y},st.at λo e=>k L `s o e}
 item:=by
  intro X hP hw hK hc i S s σ H E I Y st hg;subst hP hw hK;obtain⟨xs,x,hq,hx⟩:=hg;obtain⟨⟨old,y⟩,B⟩:=st;obtain⟨J,rv,p⟩:=mT I hq;obtain⟨u,hu,ru⟩:=rv.get hx;have hi:i<J.toArray.size:=by have:=(Qm.mp hu).1;simpa using this
  refine wpAny_pyNext_enum_itemD (Lw (A:=X.A.in1) (I.ok.hd hc) hna J.toArray) y ⟨B,p⟩ hi M (by simp[M,hea]) λU h1 tk F ho R hT hsz hk=>{_,rfl,?_}
  have eu:U=u:=by
   have F:J[i]?=some U:=by simpa using F
   rw[hu] at F;exact(Qw F).symm
  subst eu;have hT0:=I.hok.fresh (Qt _);have Q:=QG y;refine wpAny_letOwnedTupleGo_enum ho λh2 he2 O=>?_;have hT2:h2.get? s.heap.objs.size=some {cls:=.type "tuple",data:=.seq #[.int i tk,U]}:=(O.2 _ (Rt Q)).trans hT;refine{.ref s.heap.objs.size,upd H s.heap.objs.size (.tup [.int i,x]),qW (s:=s) I Y (λc o j q=>(O.2 c (λz=>j (by simp[z]))).trans (hk c o (λz=>j (by simp[z])) (λz=>j (by simp[z])) q)) (Qt _) {?_,[.int i tk,U],.cons {_,rfl} (.cons ru .nil),{_,hT2,rfl,_,rfl}},rfl,
   {_,x,hT0,rfl,rfl,λys hy=>by rw[kQ I hy hq];exact hx},{⟨U,he2⟩,R.1.extBut O.extBut (Ru M)},λc j=>?_}
  ·show 2<=sizeLine;decide
  ·have:c<s.heap.objs.size:=by
    rcases Q1.mp j with z|z
    ·subst z;exact Q
    ·have e:c=L:=by simpa using z
     subst e;obtain⟨o,e,_⟩:=B.obj;exact QG e
   rw[ao (QW this)];exact(Y c j).1
 done:=by
  intro X hP hw hK hc i S s σ H E I Y st hg;subst hP hw hK;obtain⟨xs,hq,hx⟩:=hg;obtain⟨⟨old,y⟩,B⟩:=st;obtain⟨J,rv,p⟩:=mT I hq;have hl:=rv.length;exact wpAny_pyNext_enum_endD (Lv (A:=X.A.in1) (I.ok.hd hc) `o) y ⟨rfl,B,p⟩ λh' eb=>{rfl,vn I Y λc o j q=>eb c o (λz=>j (by simp[z])) q}
 self:=λ_ _ _ _ _ ⟨⟨old,y⟩,_⟩ h=>wpAny_pyIter_enum y h
section
variable{fa:Fa}{X:Cx}{a:Expr}{ga:Env->Mem->Res D}{pos p:Pos}
def yK {ad:Addr}(h:Rep fa X.K μ0 H0 dd (.ref ad)):dh fa X.K μ0 H0 (λM=>(cv M dd).map (eY 0)) (Oy X.K (hZ dd) ad):=λY H M W x j e=>by
 dsimp only at e;cases u:cv M dd with
 |none=>rw[u] at e;cases e
 | some I =>
   rw[u] at e;have e:=Qw e;subst e;obtain⟨F,s,r⟩:=kM j (Rep.extW x h) u;refine{λi d hd=>?_,λi P=>{F,s,by rw[r.length,<- mz I 0];exact P}}
   rw[jD] at hd;cases e1:I[i]? with
   |none=>rw[e1] at hd;cases hd
   | some U =>
     rw[e1] at hd;have hd:=Qw hd;subst hd;obtain⟨v,J,R⟩:=r.get e1;refine{⟨F,v,s,J⟩,λy S ⟨q,z,B,O,L,Q⟩=>?_};have:=Q F s;rw[J] at this;cases this;subst L O;refine{Ext.alloc j B,j.alloc B,q,[.int i,v],rfl,.inl (.inl bA),.int i,[v],rfl,?_,v,[],rfl,R.ext (Ext.alloc j B),rfl};show V.int i=V.int ((0+i:Nat):Int);rw[Nat.zero_add]
def iI (ga:Env->Mem->Res D):Env->Mem->Res Walk:=λh M=>(ga h M).bind λx M=>if fR x=true then .ok (λM=>(cv M x).map (eY 0)) M else .bad
def HK {B:List Expr}(ha:DE fa X a ga)(hg:Gl X "enumerate")(hm:X.mg "enumerate"=none)(hs:starEach [a] X.env=[(false,eval a X.env)]):DI fa X (.Tuple B kk tp) (.Call (.Name "enumerate" p) [a] [] pos) (iI ga):=by
 intro F s σ H R I ⟨μ,Z,M,hE,hM,h⟩;obtain⟨x,M1,e,q⟩:=az h;cases Q:fR x with
 |false=>rw[Q] at q;exact q.elim
 |true=>
 rw[Q] at q;refine Call_ (gD I hg hm boot_enumerate (R1 (aQ (bI ha cW hs pos F s σ H (λY u=>∃v j,Y=[v]/\Ext μ H j u/\RelM fa X.K j u M1/\Rep fa X.K j u x v) I {μ,Z,M,hE,hM,?_}) λus s1 ⟨Y,u,J,r1,v,j,ev,S,O,W⟩=>?_) hs rfl))
 ·rw[e];exact λv u j S O r1=>⟨v,j,rfl,S,O,r1⟩
 subst ev;obtain⟨ad,its,rfl,p1⟩:=og J O W Q;cases r1 with
 | cons r1 rr =>
   cases rr;obtain rfl:=r1;have y:=p1.lt;refine Ds p1 λh1 U P hk=>?_;have I2:=J.kept (t':=s1.toks) hk;refine wpAny_pyIter_enum U ?_;refine{s1.heap.objs.size+1,[s1.heap.objs.size+1,s1.heap.objs.size],_,_,u,rfl,I2,zd (hZ x) ad s1.heap.objs.size (s1.heap.objs.size+1) (Nat.succ_ne_self _) (QW y) (Rt (Sq y)),{{.none,U},P},λb L=>?_,q _ u j S O (yK W)};have L:s1.heap.objs.size<=b:=by
    rcases Q1.mp L with z|z
    ·subst z;exact Nat.le_succ _
    ·have e:b=s1.heap.objs.size:=by simpa using z
     subst e;exact Qt _
   exact J.fpOk L (J.hok.fresh L)
end
abbrev GE:=Env->Mem->Res D
abbrev GT:=Env->Mem->Res Bool
abbrev GA:=Env->Mem->Res (List D)
abbrev GW:=Env->Mem->Res Walk
abbrev GS:=Env->Mem->Res Fl
abbrev GB:=Env->List D->Mem->Res (List D)
abbrev Call:=Nat->List D->Mem->Res D
def aa (i:Nat):GE:=λh M=>b9 M (h[i]?.getD none)
noncomputable def gC (d:D):GE:=λ_ M=>.ok d M
def ak (m:Bool)(o:n5)(a b:GE):GE:=λh M=>(a h M).bind λx M=>(b h M).bind λy M=>fE m o x y M
def aK (o:jn)(a b:GE):GE:=λh M=>(a h M).bind λx M=>(b h M).bind λy M=>(b9 M (bB o x y M)).bind λb M=>.ok (.bl b) M
def uz (o j:jn)(a b c:GE):GE:=λh M=>(a h M).bind λx M=>(b h M).bind λy M=>(b9 M (bB o x y M)).bind λk M=>
 if k then(c h M).bind λz M=>(b9 M (bB j y z M)).bind λb M=>.ok (.bl b) M else .ok (.bl false) M
def gZ (a:GE):GE:=λh M=>(a h M).bind λx M=>match x with|.int i=>.ok (.int (-i)) M|_=>.bad
def eL (a b:GE):GE:=λh M=>(a h M).bind λx M=>match x with|.bl true=>b h M|.bl false=>.ok (.bl false) M|_=>.bad
def uu (a b:GE):GE:=λh M=>(a h M).bind λx M=>match x with|.bl true=>.ok (.bl true) M|.bl false=>b h M|_=>.bad
def Py (a:GE):GE:=λh M=>(a h M).bind λx M=>match x with|.bl k=>.ok (.bl (!k)) M|_=>.bad
def g7 (t:GT)(a b:GE):GE:=λh M=>(t h M).bind λk M=>if k then a h M else b h M
def av (a b:GE):GE:=λh M=>(a h M).bind λx M=>(b h M).bind λy M=>b9 M (bQ x y M)
def eV (m hl hh:Bool)(a lo hi:GE):GE:=λj M=>(a j M).bind λx M=>(lo j M).bind λl M=>(hi j M).bind λh M=>if eh hl l&&eh hh h then gx m x l h M else .bad
noncomputable def c9:GA:=λ_ M=>.ok [] M
def dY (a:GE)(s:GA):GA:=λh M=>(a h M).bind λx M=>(s h M).bind λxs M=>.ok (x::xs) M
def aZ (s:GA):GE:=λh M=>(s h M).bind kU
def bR (m:Bool)(s:GA):GE:=λh M=>(s h M).bind (ba m)
def ai (f:Nat)(c:Call)(s:GA):GE:=λj M=>(s j M).bind λh M=>c f h M
def mr (i:Nat)(c:Call)(s:GA):GE:=λh M=>match h[i]?.getD none with|some (.fn f)=>(s h M).bind λj M=>c f j M|_=>.bad
def aN (f:wU)(s:GA):GE:=λj M=>(s j M).bind λh M=>ff f h M
def h6 (t:Ty)(a:GE):GE:=λh M=>(a h M).bind λx M=>(b9 M (gE t x)).bind λb M=>.ok (.bl b) M
def au (a:GE):GT:=λh M=>(a h M).bind λx M=>b9 M (jO M x)
def fD (a b:GT):GT:=λh M=>(a h M).bind λk M=>if k then b h M else .ok false M
def eX (a b:GT):GT:=λh M=>(a h M).bind λk M=>if k then .ok true M else b h M
def cq (a:GT):GT:=λh M=>(a h M).bind λk M=>.ok (!k) M
def ax (t:fC)(a:GE):GS:=λj M=>(a j M).bind λx M=>(b9 M (bL t x j)).bind λh M=>.ok (.next h) M
def eE (a b d:GE):GS:=λh M=>(d h M).bind λz M=>(a h M).bind λx M=>(b h M).bind λy M=>match x,y with
 | .cell k, .int n => match M[k]? with
   | some u => match bY u.length n with
     |some j=>.ok (.next h) (M.set k (u.set j z))
     |none=>.bad
   |none=>.bad
 |_,_=>.bad
def i3 (a d:GE):GS:=λh M=>(a h M).bind λx M=>(d h M).bind λz M=>match x with
 | .cell k => match M[k]? with
   |some j=>if j.length<sz then .ok (.next h) (M.set k (j++[z])) else .bad
   |none=>.bad
 |_=>.bad
def sEx (a:GE):GS:=λh M=>(a h M).bind λ_ M=>.ok (.next h) M
def aS (a:GE):GS:=λh M=>(a h M).bind λx M=>.ok (.ret x) M
noncomputable def Ek:GS:=λ_ M=>.ok (.ret .non) M
def El:GS:=λh M=>.ok (.next h) M
def OQ:GS:=λ_ _=>.bad
def a7 (c:GT)(a b:GS):GS:=λh M=>(c h M).bind λk M=>if k then a h M else b h M
def eF (t:fC)(w:GW)(b:GS):GS:=λh M=>(w h M).bind λw M=>cF (hV t b) w (.next h) M
def aT:GS:=λh M=>.ok (.next h) M
noncomputable def aY (a b:GS):GS:=λh M=>(a h M).bind λfl M=>match fl with
 |.next h=>b h M
 |fl=>.ok fl M
noncomputable def notStar:Expr->Bool
 |.Starred _ _=>false
 |_=>true
def aR (h:notStar a=true):starEach (a::es) env=(false,eval a env)::starEach es env:=by
 cases a<;>first|rfl|cases h
def cu:∀{es:List Expr},es.all notStar=true->(backTo pos (starEach es env)).any (·.1)=false
 |[],_=>rfl
 | a :: es, h => by
   simp only[RJ,Qs] at h;have j:=cu (pos:=pos) (env:=env) h.2;rw[aR h.1];simpa[backTo] using j
section
variable{fa:Fa}{X:Cx}{a b d:Expr}{ga gb gd:GE}{ta tb:GT}{pos p:Pos}{es:List Expr}{gs:GA}{n:Nat}
def OS:DE fa X (.Constant (.bool i) j pos) (gC (.bl i)):=LP
def Ju {i:Int}(h:Gl X x)(hm:X.mg x=some (.int i t))(hd:(x==("__debug__":Str))=false):DE fa X (.Name x pos) (gC (.int i)):=iW (v:=.int i) (j0 h hm ⟨t,rfl⟩ hd) λ_ _=>rfl
end
structure Df where
 params:Nat
 slots:Nat
 body:Call->GS
noncomputable def PC:Fl->Mem->Res D
 |.ret d,M=>.ok d M
 |.next _,M=>.ok .non M
 |.exc x _,M=>.err x M
def PB:Res Fl->Res D
 |.ok fl M=>PC fl M
 |_=>.bad
def fY (c:Call)(d:Df)(ds:List D)(M:Mem):Res D:=if ds.length=d.params then PB (d.body c (ds.map some++List.replicate (d.slots-ds.length) none) M) else .bad
def ag (P:Nat->Option Df):Nat->Call
 |0,_,_,_=>.bad
 | n + 1, f, h, M => match P f with
   |none=>.bad
   |some d=>fY (ag P n) d h M
structure yx (K:Ql) (x qual:Str) (st:Stmt) (f:Addr) (fd:FuncData):Prop where
 ex:∃(oc:Qo) (od:Option Addr) (dV kV doc pm:Qo) (an:Option Addr) (cdv ct:Qo) (osl:Array (Option Qo)),
  fd=PySem.W.fnOf x qual (c4 st) (bK st) (aF st) dV kV doc pm an cdv ct/\K.lookup f=some {oc,od,.func fd,osl}/\PySem.W.codeIn K cdv qual=true
 kp:PySem.W.keepIn K (.ref f)=true
def nZ.toD {K:Ql}{st:Stmt}(F:nZ K x qual st f fd):yx K x qual st f fd:=let⟨oc,od,kV,j,pm,v,h,ct,u,r⟩:=F.ex;{{oc,od,.none,kV,j,pm,v,h,ct,u,r},F.kp}
structure yy (fa:Fa) (P:Q0) (w:Q2) (K:Ql) (mg:Str->Option Qo) (base:Heap) (f:Nat) (d:Df):Prop where
 ex:∃(ad:Addr) (fd:FuncData) (ps N:List Str) (st:Stmt) (x qual:Str),fa f=some ad/\yx K x qual st ad fd/\Binds K fd ps []/\((fa (500+f)).isSome=true->Binds K fd ps [.none])/\gp N ps (aF st)/\d.params=ps.length/\d.slots=N.length/\
  ∀(call:Call) (n:Nat) (cdv:Qo) (A:RL) (outer:List R0) (s:Qr) (H:Hp) (E:XK),(∀f,gO fa P w K mg base n f (call f))->bW (2*n+5) (A.deeper (envOfC qual (aF st) s.heap.objs.size ad cdv))->
   kD fa (eM (fP P w) P w K mg base N qual (aF st) ad cdv A outer s H E) (bK st) (d.body call)
def zk {K:Ql}(h:aG fa K μ H ds vs):bc fa K μ H (L2.start N vs) (ds.map some++List.replicate (N.length-ds.length) none):=by
 have hl:=h.length;refine{by unfold L2.start;simp[hl],λi d e=>?_}
 by_cases j:i<ds.length
 ·rw[QA (by simpa using j),QO] at e
  cases e1:ds[i]? with
  |none=>rw[e1] at e;cases e
  | some z =>
    rw[e1] at e;cases e;obtain⟨v,u,y⟩:=h.get e1;refine{v,?_,y};unfold L2.start;rw[QA `o,QO,u]
    rfl
 ·rw[QY `o,Sv] at e
  split at e<;>cases e
def qy {K:Ql}{st:Stmt}(F:yx K x qual st f fd)(S:gp N ps (aF st))(len:∀vs H Q E,sp vs H Q E->vs.length=ps.length)
 (j:∀(h:Qo) (A:RL) (outer:List R0) (s:Qr) (H:Hp) (vs:List V) (Q:VK) (E:XK),bW k (A.deeper (envOfC qual (aF st) s.heap.objs.size f h))->sp vs H Q E->
  ∃t,kB (eM (fP P w) P w K mg base N qual (aF st) f h A outer s H E) (bK st) t/\t {nx:=λ_ y=>Q .non y,rt:=Q} (start N vs) H):jV P w K mg base (fP P w) (k+1) f fd ps sp:=by
 obtain⟨oc,od,dV,kV,z,pm,I,h,ct,B,rfl,lk,u⟩:=F.ex;exact Na lk u S len λA outer s H vs Q E hr v=>j h A outer s H vs Q E hr v
set_option tactic.hygienic true in
def rN {K:Ql}
 (hs:d.slots=N.length) (L:RelM fa K μ H M) (hr:aG fa K μ H ds vs) (h:fb (fY c d ds M) (aX fa K μ H Q) (Fj fa K μ H E)):tF fa (eM (fP P w) P w K mg base N qual scope f cd A outer s H E) (d.body c) {nx:=λ_ u=>Q .non u,rt:=Q} (start N vs) H:=by
 unfold fY at h;split at h
 ·refine{μ,_,M,zk hr,L,?_};rw[<- hs];cases e1:d.body c (ds.map some++List.replicate (d.slots-ds.length) none) M with
  | ok fl U =>
    rw[e1] at h;cases fl with
    | next z =>
      have v:=h;exact λB u j S Y R=>v .non u j S R rfl
    |ret d=>exact h
    | exc x z =>
      have v:=h;exact λF B u j s' a C J c p I y _ m ex O hn fl=>CP I fl (v C J c p u j y m ex O hn)
  |err=>rw[e1] at h;exact h.elim
  |bad=>rw[e1] at h;exact h.elim
 ·exact h.elim
def uS {P:Q0}{w:Q2}{K:Ql}(h:∀f d,Pg f=some d->yy fa P w K mg base f d):∀(n f:Nat),gO fa P w K mg base n f (ag Pg n f)
 |0,f=>.inl λ_ _=>rfl
 | n + 1, f => by
   have U:=uS h n;cases e:Pg f with
   |none=>exact .inl λj M=>by show(match Pg f with|none=>Res.bad|some d=>fY (ag Pg n) d j M)=Res.bad;rw[e]
   | some d =>
     have eq:∀j M,ag Pg (n+1) f j M=fY (ag Pg n) d j M:=λj M=>by show(match Pg f with|none=>Res.bad|some d=>fY (ag Pg n) d j M)=_;rw[e]
     obtain⟨ad,J,ps,N,st,x,I,h1,F,O,z,S,R,hs,u⟩:=(h f d e).ex;refine .inr {ad,J,ps,h1,F.kp,O,λj M hl=>?_,?_,z}
     ·rw[eq];unfold fY;rw[if_neg (by rw[R];exact hl)]
     ·refine qy F S (λY H Q E v=>v.1) λy A outer s H Y Q E hr v=>{_,u (ag Pg n) n y A outer s H E U hr,?_};obtain⟨hl,μ,M,j,L,hr,B⟩:=v;rw[eq] at B;exact rN hs L hr B
def oW (P:Sd)(e:RK)(h:Str×Addr):Prop:=∃t,e={PyData.keyHash P h.1,.str h.1 t,.ref h.2}
structure fz (K:Ql) (P:Sd) (a:Addr) (kvs:List (Str×Addr)):Prop where
 ex:∃(es:Array RK) (n:Nat),K.lookup a=some {cls:=.type "dict",data:=.dict es n}/\R7 (oW P) es.toList kvs
 nd:(kvs.map (·.1)).Nodup
 ns:(a==sysModules)=false
def wc (kvs:List (Str×Addr)):List (Key×Qo):=kvs.map λh=>(Sum.inr h.1,.ref h.2)
def uG:∀{es:List RK}{kvs:List (Str×Addr)},R7 (oW P) es kvs->∀e∈es,∃x t,e.key=.str x t/\e.hash=PyData.keyHash P x
 |_,_,.nil,e,h=>nomatch h
 | _, _, .cons r t, e, h => by
   rcases Q1.mp h with z|z
   ·subst z;obtain⟨t,rfl⟩:=r;exact{_,t,rfl,rfl}
   ·exact uG t e z
def pO:∀{es:List RK}{kvs:List (Str×Addr)},R7 (oW w.params) es kvs->Pairs (j9 prog w) es (wc kvs)
 |_,_,.nil=>.nil
 | e :: es, h :: kvs, .cons r t => by
   obtain⟨u,rfl⟩:=r;exact Pairs.cons (jz h.1 u) rfl (pO t)
def ug (I:Inv X pins σ H s)(h:fz X.K X.w.params a kvs):s.heap.DictOf (j9 X.prog X.w) a (wc kvs):=by
 obtain⟨j,n,lk,pr⟩:=h.ex;refine{_,j,n,I.kIn _ _ lk,⟨rfl,rfl,rfl⟩,rfl,λe u=>?_,pO pr,?_}
 ·obtain⟨x,t,e1,e2⟩:=uG pr e (by simpa using u)
  exact{Sum.inr x,by rw[e1];exact jz x t,e2}
 ·have e:(wc kvs).map (·.1)=(kvs.map (·.1)).map Sum.inr:=by unfold wc;simp
  rw[e];exact List.Pairwise.map _ (λa b (n:a≠b) z=>n (Sum.inr.inj z)) h.nd
def Aq (kvs:List (Str×Addr))(k:Str):valueAt (wc kvs) (Sum.inr k:Key)=(kvs.lookup k).map Value.ref:=by
 induction kvs with
 |nil=>rfl
 | cons j r h =>
   unfold valueAt wc at h ⊢;rw[RI,List.find?_cons,Rq];by_cases e:j.1=k
   ·subst e;simp
   ·have e2:decide ((Sum.inr j.1:Key)=Sum.inr k)=false:=decide_eq_false λz=>e (Sum.inr.inj z);have u:=RW.mpr (Ru e);rw[e2,u];exact h
def d9 (fa:Fa)(kvs:List (Str×Addr))(fs:List (Str×Nat)):Prop:=R7 (λ(p:Str×Addr) (q:Str×Nat)=>p.1=q.1/\fa q.2=some p.2) kvs fs
def d9.look:∀{kvs:List (Str×Addr)}{fs:List (Str×Nat)},d9 fa kvs fs->(fs.lookup k=none/\kvs.lookup k=none)\/∃f ad,fs.lookup k=some f/\kvs.lookup k=some ad/\fa f=some ad
 |_,_,.nil=>.inl ⟨rfl,rfl⟩
 | (x, a) :: r, (y, f) :: t, .cons ⟨e1, e2⟩ q => by
   subst e1;rw[Rq,Rq];cases e:k==x with
   |true=>exact .inr ⟨f,a,rfl,rfl,e2⟩
   |false=>exact d9.look q
def lr (fs:List (Str×Nat))(i:GE):GE:=λh M=>(i h M).bind λd M=>match d with
 |.str k=>b9 M ((fs.lookup k).map D.fn)
 |_=>.bad
def iJ (fs:List (Str×Nat))(i:GE):GE:=λh M=>(i h M).bind λd M=>match d with
 |.str k=>.ok (.bl (!(fs.lookup k).isSome)) M
 |_=>.bad
section
variable{fa:Fa}{X:Cx}{a b:Expr}{ga gb:GE}{pos p:Pos}{ad:Addr}{kvs:List (Str×Addr)}{fs:List (Str×Nat)}{x:Str}
def C3 (hd:fz X.K X.w.params ad kvs):jK X (λx y H Q=>∃k v,x=.ref ad/\y=.str k/\kvs.lookup k=some v/\Q (.ref v) H):=by
 intro z j E s R H x y v u Q I O P h hs;obtain⟨k,c,rfl,rfl,M,q⟩:=h;cases O;obtain⟨t,rfl⟩:=P;have B:=ug I hd;have J:s.TypeIs (.ref ad) "dict":=let{o,_,_,ho,{L,_},_}:=B;⟨o,ho,L⟩
 refine tail_any J PySem.F.slot_dict_getitem.lookup (wpAny_getItem_of (k:=(Sum.inr k:Key)) (jz k t) B.mapOf (v:=.ref c) ?_ ?_) hs
 ·rw[Aq,M];rfl
 ·exact{.ref c,H,I.tok _,rfl,q}
def tQ (hd:fz X.K X.w.params ad kvs):bF X (compareOp .NotIn) (λx y H Q=>∃k,x=.str k/\y=.ref ad/\Q (.bl (!(kvs.lookup k).isSome)) H):=by
 intro j s F H x y v u Q I B E h;obtain⟨k,rfl,rfl,q⟩:=h;obtain⟨t,rfl⟩:=B;cases E;have z:=ug I hd;refine wpAny_notIn_of (k:=(Sum.inr k:Key)) (jz k t) hd.ns z.mapOf ?_;rw[Aq,R3];exact{.bl _,H,I.tok _,rfl,q}
def Jw (hd:fz X.K X.w.params ad kvs)(ho:d9 fa kvs fs)(L:Gl X x)(hm:X.mg x=some (.ref ad))(u:(x==("__debug__":Str))=false)(J:DE fa X b gb)(hs:iY b):DE fa X (.Subscript (.Name x p) b pos) (lr fs gb):=
 bt (xq (C3 hd) (j0 (v:=.ref ad) L hm rfl u) J hs) λU H Q ⟨R,S,M,E,I,h⟩=>t1 E I h λd P v z y O F j r1 h1=>by
  cases d with
  | str k =>
    obtain⟨d,e,q⟩:=j3 h1;rcases ho.look with⟨e1,_⟩|⟨f,c,e1,e2,B⟩
    ·rw[e1] at e;cases e
    ·rw[e1] at e;cases e;exact{k,c,rfl,r1,e2,q (.ref c) z y O j {c,rfl,.inl B}}
  |_=>exact h1.elim
def CA {d:D}{P:D->Mem->Prop}(h:ae (match d with|.str k=>Res.ok (.bl (!(fs.lookup k).isSome)) M1|_=>.bad) P):∃k,d=.str k/\P (.bl (!(fs.lookup k).isSome)) M1:=by
 cases d with
 |str k=>exact⟨k,rfl,h⟩
 |_=>exact h.elim
def Dm (ho:d9 fa kvs fs)(k:Str):(kvs.lookup k).isSome=(fs.lookup k).isSome:=by
 rcases ho.look with⟨e1,e2⟩|⟨f,c,e1,e2,_⟩<;>rw[e1,e2]<;>rfl
def AK (ho:d9 fa kvs fs)(z:L2.St)(H:Hp)(Q:VK)(h:tE fa X.K (iJ fs ga) z H Q):zi (λx y H Q=>∃k,x=.str k/\y=.ref ad/\Q (.bl (!(kvs.lookup k).isSome)) H) (tE fa X.K ga) (tC (.ref ad)) z H Q:=by
 obtain⟨O,P,M,E,I,h⟩:=h;refine t1 E I h λd L v B u J F j r1 h1=>?_;obtain⟨k,rfl,q⟩:=CA h1;refine{k,r1,rfl,?_};rw[Dm ho];exact q (.bl _) B u J j rfl
def Jv (hd:fz X.K X.w.params ad kvs)(ho:d9 fa kvs fs)(z:Gl X x)(hm:X.mg x=some (.ref ad))(j:(x==("__debug__":Str))=false)(y:DE fa X a ga)(u:behindInMarks .NotIn (.Name x p)=false):DE fa X (.Compare a [.NotIn] [.Name x p] pos) (iJ fs ga):=
 bt (mZ (tQ hd) y (j0 (v:=.ref ad) z hm rfl j) u) λB H Q h=>AK ho B H Q h
def JD (hd:fz X.K X.w.params ad kvs)(ho:d9 fa kvs fs)(J:Gl X x)(hm:X.mg x=some (.ref ad))(j:(x==("__debug__":Str))=false)(I:DE fa X a ga)(u:behindInMarks .NotIn (.Name x p)=false):DT fa X (.Compare a [.NotIn] [.Name x p] pos) (au (iJ fs ga)):=
 jZ (qk (tQ hd) I (j0 (v:=.ref ad) J hm rfl j) u) λW H Q h=>by
  refine AK ho W H _ ?_;obtain⟨S,U,M,E,F,h⟩:=h;obtain⟨z,M3,e,q⟩:=az h;refine{S,U,M,E,F,?_};rw[e];have L:∃k,z=.bl k:=by
   obtain⟨d,Y,e1,e2⟩:=eO e;cases d<;>first|(cases e2;exact{_,rfl})|cases e2
  obtain⟨k,rfl⟩:=L;intro v B y R O P;obtain rfl:v=.bl k:=P;exact{k,rfl,q B y R O}
def mq (m:Bool)(a:GE):GE:=λh M=>(a h M).bind λx M=>match x with
 |.int n=>if -(2^62)<=n/\n<2^20 then ba m ((List.range n.toNat).map λ(k:Nat)=>D.int (k:Int)) M else .bad
 |_=>.bad
def xS:∀(n:Nat) (y:List Qo),y.length=n->(∀(i:Nat) (v:Qo),y[i]?=some v->∃t,v=.int (i:Int) t)->Vals ((List.range n).map λ(k:Nat)=>V.int (k:Int)) y:=by
 intro n y hl h;have z:∀(k:Nat) (y:List Qo),(∀(i:Nat) (v:Qo),y[i]?=some v->∃t,v=.int ((k+i:Nat):Int) t)->Vals ((List.range y.length).map λj=>V.int ((k+j:Nat):Int)) y:=by
  intro k y;induction y generalizing k with
  |nil=>intro _;exact .nil
  | cons v r B =>
    intro h;rw[RV,List.range_succ_eq_map,RI,QZ];refine .cons (h 0 v rfl) ?_;have:=B (k+1) λi u e=>by
     have:=h (i+1) u (by simpa using e)
     rw[show k+1+i=k+(i+1) by omega];exact this
    refine cast (congrArg (λf=>Vals ((List.range r.length).map f) r) ?_) this
    funext j
    congr 2
    omega
 have:=z 0 y λi v e=>by rw[Nat.zero_add];exact h i v e
 rw[hl] at this;simpa using this
def Gx (m:Bool)(hc:X.calm=true)(ha:DE fa X a ga)(L:Gl X "list")(P:X.mg "list"=none)(hg:Gl X "range")(hm:X.mg "range"=none)(hs:starEach [a] X.env=[(false,eval a X.env)])
 (F:starEach [.Call (.Name "range" p2) [a] [] pos2] X.env=[(false,eval (.Call (.Name "range" p2) [a] [] pos2) X.env)]) :
 DE fa X (.Call (.Name "list" p1) [.Call (.Name "range" p2) [a] [] pos2] [] pos) (mq m ga):=by
 intro y s σ H Q I ⟨μ,Z,M,hE,hM,h⟩;obtain⟨x,M1,e,q⟩:=az h;have U:∀n,x=.int n->ae (if -(2^62)<=n/\n<2^20 then ba m ((List.range n.toNat).map λ(k:Nat)=>D.int (k:Int)) M1 else .bad) (aX fa X.K μ H Q)->
  wpAny (model X.prog X.w) X.A (eval (.Call (.Name "list" p1) [.Call (.Name "range" p2) [a] [] pos2] [] pos) X.env) (EP X y σ Q) X.xe s:=λn en J=>by
  subst en;by_cases c:-(2^62)<=n/\n<2^20
  ·rw[if_pos c] at J;refine Call_ (gD I L P (by decide +kernel:bootBuiltins "list"=some (.type "list")) (R1 ?_ F rfl))
   rw[F];refine Calls.spliced_cons ?_;refine Call_ (gD I hg hm boot_range (R1 (aQ (bI ha cW hs pos2 y s σ H (λvs E=>∃j,vs=[.int n]/\Ext μ H j E/\RelM fa X.K j E M1) I {μ,Z,M,hE,hM,?_}) λus s1 ⟨vs,E,I1,r1,j,ev,Y,W⟩=>?_) hs rfl))
   ·rw[e];intro v E j Y W r1;obtain rfl:v=.int n:=r1;exact⟨j,rfl,Y,W⟩
   subst ev;cases r1 with
   | cons r rr =>
     cases rr;obtain⟨t,rfl⟩:=r;refine call_range_1 ?_;refine Calls.spliced_nil ?_;refine call_list_range (n:=n.toNat) (I.ok.hd hc) (IsRange.new ..) (small_one `a `a `a `a) (by rw[rangeSize_one];split<;>omega) `a λh' tk B c' kp eS S=>?_
     obtain⟨R,O⟩:=S;have I2:Inv X y σ E {s1 with heap:=s1.heap.push {cls:=.type "range",data:=.fields #[.int 0 s1.toks,.int n t,.int 1 (s1.toks+1)]},toks:=s1.toks+1+1}:=I1.kept λb o e=>Qq _ e
     have hv:=xS n.toNat B.toList (by simpa using R) λi v e=>by
      obtain⟨u,z⟩:=O i v (by simpa using e)
      exact{u,by rw[z];simp}
     have rl:aG fa X.K j E ((List.range n.toNat).map λ(k:Nat)=>D.int (k:Int)) ((List.range n.toNat).map λ(k:Nat)=>V.int (k:Int)):=by
      have:=aG.ints (fa:=fa) (K:=X.K) (μ:=j) (H:=E) ((List.range n.toNat).map λ(k:Nat)=>(k:Int));simpa[QZ,SF] using this
     obtain⟨c1,k1⟩:=fV W rl (ju J Y);refine{.ref _,_,I2.laid (o:=.lst ((List.range n.toNat).map λ(k:Nat)=>V.int (k:Int))) kp (Qt _) {?_,B.toList,c',hv,by simpa using eS},rfl,k1 _ (I2.hok.fresh (Qt _))}
     rw[rl.length,<- cQ];exact c1
  ·rw[if_neg c] at J;exact J.elim
 cases x with
 |int n=>exact U n rfl q
 |_=>exact q.elim
end
noncomputable def qH (bn N:List Str)(sc scope:Scope):Bool:=
 scope.names.all (λy=>(y.2 != .cell||scope.names.lookup y.1==some .cell)&&(y.2 != .local||scope.names.lookup y.1==some .local)&&(y.2 != .free||sc.names.lookup y.1==some .cell||sc.names.lookup y.1==some .free)) &&
 bn.length==N.length&&(bn.zip N).all λp=>(p.1==p.2&&(scope.names.lookup p.2 != some .local&&scope.names.lookup p.2 != some .cell))||scope.names.lookup p.1==none
def pA {j v:Type}{R:j->v->Prop}:∀{l:List j}{r:List v},l.length=r.length->(∀p∈l.zip r,R p.1 p.2)->R7 R l r
 |[],[],_,_=>.nil
 |a::l,b::r,h,g=>.cons (g (a,b) QB) (pA (by simpa using h) λp z=>g p (Qu _ z))
 |[],_::_,h,_=>by cases h
 |_::_,[],h,_=>by cases h
def A4 (z:scope.kind=.function)(hs:X.env.scope=sc)(v:X.N=N)(h:qH bn N sc scope=true):fm X own bn scope:=by
 unfold qH at h;rw[Qs,Qs,QI,QI] at h;obtain⟨⟨h1,hl⟩,h2⟩:=h;refine{z,λy j e=>?_,λy j e=>?_,λy j e=>?_,?_}
 ·have:=h1 y j;rw[e] at this;simpa using this
 ·have:=h1 y j;simp only[Qs] at this;rw[e] at this;simpa using this
 ·have:=h1 y j;simp only[Qs] at this;rw[e] at this;show X.env.scope.names.lookup y.1=_\/X.env.scope.names.lookup y.1=_;rw[hs];simpa using this
 ·rw[v];refine pA (by simpa using hl) λp B=>?_
  have:=h2 p B;simp only[RF,Qs,beq_iff_eq,bne_iff_ne] at this;exact this
section
variable{fa:Fa}{X:Cx}{elt tg iter c t2 i2:Expr}{scope:Scope}{pos:Pos}{own bn:List Str}{t u:fC}{gw gw2:GW}{ge:GE}{gc:GT}
def kK {l:List Nat}(h:l.all (· < n)=true):∀i∈l,i<n:=λi j=>by
 have:=QI.mp h i j;simpa using this
def zz {l W:List Nat}(h:W.all (λi=>!l.contains i)=true):∀i∈W,i∉l:=λi j z=>by
 have:=QI.mp h i j;simp[z] at this
variable{i:Nat}{y:Str}{py spos:Pos}
def Gy {i:Int}(j:Gl X x)(hm:∃t,X.mg x=some (.int i t))(hd:(x==("__debug__":Str))=false):DE fa X (.Name x pos) (gC (.int i)):=let{_,h}:=hm;Ju j h hd
def GD (h:∃ad j,X.mg x=some (.ref ad)/\fz X.K X.w.params ad j/\d9 fa j fs)(B:Gl X x)(v:(x==("__debug__":Str))=false)(z:DE fa X b gb)(hs:iY b):DE fa X (.Subscript (.Name x p) b pos) (lr fs gb):=
 let{_,_,h1,h2,h3}:=h;Jw h2 h3 B h1 v z hs
def Gz (h:∃ad j,X.mg x=some (.ref ad)/\fz X.K X.w.params ad j/\d9 fa j fs)(E:Gl X x)(v:(x==("__debug__":Str))=false)(B:DE fa X a ga)(z:behindInMarks .NotIn (.Name x p)=false):DE fa X (.Compare a [.NotIn] [.Name x p] pos) (iJ fs ga):=
 let{_,_,h1,h2,h3}:=h;Jv h2 h3 E h1 v B z
def GG (h:∃ad j,X.mg x=some (.ref ad)/\fz X.K X.w.params ad j/\d9 fa j fs)(E:Gl X x)(v:(x==("__debug__":Str))=false)(B:DE fa X a ga)(z:behindInMarks .NotIn (.Name x p)=false):DT fa X (.Compare a [.NotIn] [.Name x p] pos) (au (iJ fs ga)):=
 let{_,_,h1,h2,h3}:=h;JD h2 h3 E h1 v B z
def Gs (h:bW (n+4) X.A):Rm X:=by have:=h.un;show X.A.units+100<cLine;omega
end
section
variable{fa:Fa}{X:Cx}{a st:Expr}{ga:GE}{pos p2:Pos}
def Js (m:Bool)(x:D)(M:Mem):Res D:=match x with
 |.tup xs=>.ok (.tup xs.reverse) M
 | x => match ef M x with
   |some xs=>ba m xs.reverse M
   |none=>.bad
end
def mm {fa:Fa}{mg:Str->Option Qo}(e:fa i=some f)(m:mg x=some (.ref f)):∀ad,fa i=some ad->mg x=some (.ref ad):=λad h=>by rw[e] at h;cases h;exact m
def NY {j:Type}{p:List j->Prop}(h:∀a,p [a])(us:List j)(hl:us.length=1):p us:=by
 obtain⟨a,rfl⟩:=List.length_eq_one_iff.mp hl;exact h a
def Iv {j:Type}{p:List j->Prop}(h:∀a b,p [a,b]):∀(us:List j) (hl:us.length=2),p us
 |[a,b],_=>h a b
def us3 {j:Type}{p:List j->Prop}(h:∀a b c,p [a,b,c]):∀(us:List j) (hl:us.length=3),p us
 |[a,b,c],_=>h a b c
def us4 {j:Type}{p:List j->Prop}(h:∀a b c d,p [a,b,c,d]):∀(us:List j) (hl:us.length=4),p us
 |[a,b,c,d],_=>h a b c d
def Ag {K:Ql}(X:K.In h)(G:h.Ns mainGlobals mg)(a:PySem.W.nsIn K mainGlobals x=some (some (.ref f))):mg x=some (.ref f):=RU X G a
def Ay:R7 (oW P) [] []:=.nil
def f9 (h:R7 (oW P) es kvs):R7 (oW P) ({PyData.keyHash P x,.str x t,.ref a}::es) ((x,a)::kvs):=.cons ⟨t,rfl⟩ h
def Eh (K:Ql):Sp:=λj H Q _=>∃(a:Addr) (ns:List Int),j=[.ref a]/\cP K H a (ns.map V.int)/\yu H/\ns.length<=63/\∀h,Q (.bl true) h
def Kw {K:Ql}{ad:Addr}{st:Stmt}(h:∀f d,Pg f=some d->yy fa P w K mg base f d)
 (hl:∀ns:List Int,ns.length<=63->∃M,ag Pg (n+1) f [.frz (ns.map D.int)] []=.ok (.bl true) M) (e:Pg f=some d) (F:nZ K x qual st ad fd) (S:gp N [y] (aF st)) (hs:d.slots=N.length)
 (u:∀(call:Call) (n:Nat) (j:Qo) (A:RL) (outer:List R0) (s:Qr) (H:Hp) (E:XK),(∀f,gO fa P w K mg base n f (call f))->bW (2*n+5) (A.deeper (envOfC qual (aF st) s.heap.objs.size ad j))->
  kD fa (eM (fP P w) P w K mg base N qual (aF st) ad j A outer s H E) (bK st) (d.body call)):jV P w K mg base (fP P w) (2*n+5+1) ad fd [y] (Eh K):=by
 have eq:∀I M,ag Pg (n+1) f I M=fY (ag Pg n) d I M:=λI M=>by show(match Pg f with|none=>Res.bad|some d=>fY (ag Pg n) d I M)=_;rw[e]
 refine qy (nZ.toD F) S (λU H Q E B=>?_) λj A outer s H U Q E hr B=>{_,u (ag Pg n) n j A outer s H E (uS h n) hr,?_}
 ·obtain⟨a,ns,rfl,_⟩:=B;rfl
 ·obtain⟨a,ns,rfl,R,O,hn,q⟩:=B;obtain⟨Y,J⟩:=hl ns hn;rw[eq] at J;have rp:aG fa K {λ_=>none,[],λ_=>none} H [.frz (ns.map D.int)] [.ref a]:=by
   refine{.ref a,[],rfl,{a,ns.map V.int,rfl,?_,aG.ints ns},rfl};rcases R with(z|⟨o,z⟩)|z
   ·rcases O a with y|⟨o,xs,y⟩
    ·rw[y] at z;cases z
    ·rw[y] at z;cases z
   ·exact .inl ⟨o,z⟩
   ·exact .inr z
  refine rN (μ:={λ_=>none,[],λ_=>none}) (M:=[]) hs {λk I z=>by simp at z,λ_ _=>rfl,λ_ _=>rfl,(λ_ _ _ z=>nomatch z),(λ_ _ _ z=>nomatch z),(λ_ _ z=>nomatch z),(λ_ z=>nomatch z)} rp ?_
  rw[J];intro v L X _ _ r;obtain rfl:v=.bl true:=r;exact q L
def v9 {K:Ql}{ad:Addr}(X:K.In h)(G:h.Ns mainGlobals mg)(a:PySem.W.nsIn K mainGlobals x=some (some (.ref ad)))
 (l:K.lookup ad=some {cls:=.type "dict",data:=.dict es n}) (he:R7 (oW P) es.toList j) (nd:(j.map (·.1)).Nodup) (ns:(ad==sysModules)=false) (dk:d9 fa j fs):∃ad j,mg x=some (.ref ad)/\fz K P ad j/\d9 fa j fs:=
 {ad,j,RU X G a,{⟨es,n,l,he⟩,nd,ns},dk}
end LD
namespace LD
open PySem PySem.Spec PySem.Calls PyProof.Rows PySem.W
section
variable{prog:Q0}{w:Q2}{A:RL}{E:Qo->Qr->Prop}{s:Qr}{K:Frag}{x C:Addr}{ox:Obj}{od:Option Obj}{name:Str}
noncomputable def Ik (K:Frag)(C:Addr):Bool:=findIn K (.ref C) "__getattribute__"==some (some (.builtin "BaseException.__getattribute__"))&&findIn K (.ref C) "__getattr__"==some none&&mroIn K C (.type "BaseException")==some true&&mroIn K C (.type "object")==some true &&
 findIn K (.ref C) "__class__"==some (some (.builtin "object.__class__"))&&specialIn K (.builtin "object.__class__") "__get__"==some (some (.builtin "getset_descriptor.__get__"))&&takesIn K (.builtin "object.__class__")==some true
end
end LD
namespace LD
open PySem PySem.Spec PyProof.Rows L2
noncomputable def bw (f:Nat)(c:Call)(s:GA):GE:=λj M=>match s j M with
 |.ok h M=>c f h M
 |_=>.bad
noncomputable def sH (k:D->Mem->Res Fl)(Z:Env):Res D->Res Fl
 |.ok d M=>k d M
 |.err x M=>.ok (.exc x Z) M
 |.bad=>.bad
def fX (a:GE):GS:=λh M=>sH (λ_ M=>.ok (.next h) M) h (a h M)
def dU (t:fC)(a:GE):GS:=λh M=>sH (λx M=>(b9 M (bL t x h)).bind λj M=>.ok (.next j) M) h (a h M)
def xh (a:GE):GS:=λh M=>sH (λx M=>.ok (.ret x) M) h (a h M)
noncomputable def xU (t:GT)(a b:GE):GE:=λh M=>match t h M with
 |.ok k M=>if k then a h M else b h M
 |_=>.bad
noncomputable def fG (c:Nat)(s:GA):GS:=λh M=>match s h M with
 |.ok j M=>if j.length<=sz then .ok (.exc (.exc c none) h) M else .bad
 |_=>.bad
def N5 (fa:Fa)(X:Cx)(g:GE):TE:=λv H Q=>∃h j M,bc fa X.K h H v j/\RelM fa X.K h H M/\fb (g j M) (aX fa X.K h H Q) (λx u=>XW fa X h H x j u)
abbrev DX (fa:Fa)(X:Cx)(e:Expr)(g:GE):Prop:=PE X e (N5 fa X g)
section
variable{fa:Fa}{X:Cx}{a b:Expr}{ga gb:GE}{ta:GT}{pos p:Pos}{es:List Expr}{gs:GA}{n:Nat}
def x_call (f:Nat){call:Call}(C:∀f,gO fa X.prog X.w X.K X.mg X.base n f (call f))(hr:bW (2*n+4) X.A)(hex:X.ex=[])(hg:Gl X x)(hm:∀ad,fa f=some ad->X.mg x=some (.ref ad))(hs:DA fa X (a::es) gs)
 (hdb:(x==("__debug__":Str))=false) (he:notStar a=true) (hpl:es.all notStar=true):DX fa X (.Call (.Name x p) (a::es) [] pos) (bw f call gs):=by
 intro B s σ H Q I ⟨μ,Z,M,hE,hM,h⟩;unfold bw at h;cases eg:gs Z M with
 |err=>rw[eg] at h;exact h.elim
 |bad=>rw[eg] at h;exact h.elim
 | ok E R =>
   rw[eg] at h;have h:fb (call f E R) (aX fa X.K μ H Q) (λx P=>XW fa X μ H x Z P):=h;rcases C f with hb|⟨ad,fd,ps,h1,h2,h3,h4,F,_⟩
   ·rw[hb] at h;exact h.elim
   ·have hl:E.length=ps.length:=by
     by_cases hl:E.length=ps.length
     ·exact hl
     ·rw[h4 E R hl] at h;exact h.elim
    refine wpAny_Call_Name_kw (f7 I hg (hm ad h1) ?_ hdb);refine SR I.ok.mod.kin h2 (aQ (hs pos B s σ H (λU z=>∃j,Ext μ H j z/\RelM fa X.K j z R/\aG fa X.K j z E U) I {μ,Z,M,hE,hM,by rw[eg];exact λU z j Y m1 r1=>⟨j,Y,m1,r1⟩}) λus s1 ⟨U,z,O,r,j,Y,m1,r1⟩=>{O.kIn,?_}) (aR he) (cu hpl)
    have hsp:Ei fa X.K ps.length (call f) U z Q λCv dx J=>∃y P v C' c p,Cv=.ref C'/\Ext j z v J/\RelM fa X.K v J P/\y=.exc c p/\fa (eU c)=some C'/\u6 J c dx p/\XW fa X μ H y Z P:=by
     refine{by rw[r1.length];exact hl,j,R,E,m1,r1,?_}
     cases S:call f E R with
     |ok d M2=>rw[S] at h;exact aX.ext h Y
     |err y M2=>rw[S] at h;exact λC dx c p J v y' m ex hc hn=>{_,M2,v,C,c,p,rfl,y',m,ex,hc,hn,h}
     |bad=>rw[S] at h;exact h.elim
    have hl2:us.length=ps.length:=by rw[<- r.length,r1.length];exact hl
    have hb:=h3 s1 us O.kIn (by simpa using hl2)
    rw[RZ] at hb;refine wpAny_call (codeAny_mono (F.run X.A X.stack s1 z {us,[]} us U Q _ hr O.env0 hb r hsp) λr' s' L=>?_);cases r' with
    | error e =>
      unfold CR at L;obtain⟨a',C',dx,J,rfl,I',fl,y,P,v,C2,c,p,S,ye,m',ey,hc,hn,hw⟩:=rC O hex L;cases S;exact hw B σ J v s' a' C' dx c p I' (Y.trans ye) ((hE.ext Y).ext ye) m' ey hc hn fl
    | ok fl =>
      cases fl with
      |ret u=>exact O.after L
      |next=>exact False.elim L
      |brk=>exact False.elim L
      |cont=>exact False.elim L
def Fz (f:Nat){call:Call}(C:∀f,gO fa X.prog X.w X.K X.mg X.base n f (call f))(hr:bW (2*n+4) X.A)(hex:X.ex=[])(hg:Gl X x)(hm:∀ad,fa f=some ad->X.mg x=some (.ref ad))(hdf:(fa (500+f)).isSome=true)(hs:DE fa X a ga)
 (hdb:(x==("__debug__":Str))=false) (he:notStar a=true):DX fa X (.Call (.Name x p) [a] [] pos) (bw f call (dY ga (dY (gC .non) c9))):=by
 intro E s σ H Q I ⟨μ,Z,M,hE,hM,h⟩;unfold bw at h;cases eg:ga Z M with
 |err=>unfold dY at h;rw[eg] at h;exact h.elim
 |bad=>unfold dY at h;rw[eg] at h;exact h.elim
 | ok L S =>
   unfold dY at h;rw[eg] at h;have h:fb (call f [L,.non] S) (aX fa X.K μ H Q) (λx R=>XW fa X μ H x Z R):=h;rcases C f with hb|⟨ad,fd,ps,h1,h2,h3,h4,F,hbd⟩
   ·rw[hb] at h;exact h.elim
   ·have hl:2=ps.length:=by
     by_cases hl:2=ps.length
     ·exact hl
     ·rw[h4 [L,.non] S hl] at h;exact h.elim
    refine wpAny_Call_Name_kw (f7 I hg (hm ad h1) ?_ hdb);refine SR I.ok.mod.kin h2 (aQ (bI hs cW (aR he) pos E s σ H (λvs B=>∃v j,vs=[v]/\Ext μ H j B/\RelM fa X.K j B S/\Rep fa X.K j B L v) I {μ,Z,M,hE,hM,by rw[eg];exact λv B j x1 m1 r1=>⟨v,j,rfl,x1,m1,r1⟩}) λus s1 ⟨vs,B,P,r,v0,j,ev,x1,m1,r0⟩=>{P.kIn,?_}) (aR he) (cu rfl)
    subst ev;have r1:aG fa X.K j B [L,.non] [v0,.non]:={v0,[.non],rfl,r0,.non,[],rfl,rfl,rfl};have hsp:Ei fa X.K ps.length (call f) [v0,.non] B Q λCv dx J=>∃y R z C' c p,Cv=.ref C'/\Ext j B z J/\RelM fa X.K z J R/\y=.exc c p/\fa (eU c)=some C'/\u6 J c dx p/\XW fa X μ H y Z R:=by
     refine{hl,j,S,[L,.non],m1,r1,?_};cases U:call f [L,.non] S with
     |ok d M2=>rw[U] at h;exact aX.ext h x1
     |err y M2=>rw[U] at h;exact λC dx c p J z y' m ex hc hn=>{_,M2,z,C,c,p,rfl,y',m,ex,hc,hn,h}
     |bad=>rw[U] at h;exact h.elim
    have Y:=r.length.symm;have hb:=hbd hdf s1 us P.kIn (by rw[Rp,Y];exact hl)
    obtain⟨u0,rfl⟩:∃u0,us=[u0]:=List.length_eq_one_iff.mp Y;have r2:Vals [v0,.non] [u0,.none]:=by cases r with|cons a _=>exact .cons a (.cons rfl .nil)
    refine wpAny_call (codeAny_mono (F.run X.A X.stack s1 B {[u0],[]} [u0,.none] [v0,.non] Q _ hr P.env0 hb r2 hsp) λr' s' O=>?_);cases r' with
    | error e =>
      unfold CR at O;obtain⟨a',C',dx,J,rfl,I',fl,y,R,z,C2,c,p,U,ye,m',ey,hc,hn,hw⟩:=rC P hex O;cases U;exact hw E σ J z s' a' C' dx c p I' (x1.trans ye) ((hE.ext x1).ext ye) m' ey hc hn fl
    | ok fl =>
      cases fl with
      |ret u=>exact P.after O
      |next=>exact False.elim O
      |brk=>exact False.elim O
      |cont=>exact False.elim O
def Mg (S:DT fa X c ta)(P:DX fa X a ga)(R:DX fa X b gb):DX fa X (.IfExp c a b pos) (xU ta ga gb):=
 bt (tO S P R) λW H Q ⟨B,j,M,F,O,h⟩=>by
  unfold xU at h;cases u:ta j M with
  |err=>rw[u] at h;exact h.elim
  |bad=>rw[u] at h;exact h.elim
  | ok k v =>
    rw[u] at h;refine{B,j,M,F,O,?_};rw[u];intro I E z U;have go:∀g:GE,fb (g j v) (aX fa X.K B H Q) (λx J=>XW fa X B H x j J)->N5 fa X g W I Q:=λg q=>by
     refine{E,j,v,F.ext z,U,?_};cases e:g j v with
     |ok d L=>rw[e] at q;exact aX.ext q z
     |err y L=>rw[e] at q;exact XW.ext q z
     |bad=>rw[e] at q;exact q
    cases k with
    |true=>exact go ga h
    |false=>exact go gb h
def Ms (I:DX fa X a ga)(hs:swapsWith a none pos.line X.env=pure false):DS fa X (.Expr a pos) (fX ga):=
 da (iR I hs) λP O H ⟨L,z,M,u,F,h⟩=>{L,z,M,u,F,by
  unfold fX at h;cases e:ga z M with
  |ok d E=>rw[e] at h;exact λv B j y J r1=>h O B j y (u.ext y) J
  |err x E=>rw[e] at h;exact h
  |bad=>rw[e] at h;exact h.elim}
def Jh (R:DX fa X a ga)(S:PG X tg (gT fa X.K t))(hs:swapsWithSole [tg] a pos.line X.env=pure false)(U:swappedStores [tg] a X.env=pure none)(h1:(assignEach [tg] X.env).map (·.2)=[assign tg X.env]) :
 DS fa X (.Assign [tg] a pos) (dU t ga):=
 da (pj R S hs U h1) λD σ H ⟨W,y,M,I,Q,h⟩=>{W,y,M,I,Q,by
  unfold dU at h;cases e:ga y M with
  | ok d P =>
    rw[e] at h;obtain⟨E,M2,u,q⟩:=az h;cases z:bL t d y with
    |none=>rw[z] at u;cases u
    | some Y =>
      rw[z] at u;cases u;exact λv O j L J r1=>{j,y,_,d,E,I.ext L,J,r1,z,λF B=>q F O j L B J}
  |err x P=>rw[e] at h;exact h
  |bad=>rw[e] at h;exact h.elim}
def Jf (z:DX fa X a ga):DS fa X (.Return (some a) pos) (xh ga):=
 da (zO z) λE F H ⟨B,j,M,v,y,h⟩=>{B,j,M,v,y,by
  unfold xh at h;cases e:ga j M with
  |ok d u=>rw[e] at h;exact h
  |err x u=>rw[e] at h;exact h
  |bad=>rw[e] at h;exact h.elim}
end
noncomputable abbrev nX:List Qo:=[.type "ValueError",.type "Exception",.type "BaseException",.type "object"]
noncomputable def Jd (K:Ql)(C:Addr)(f:ClassData->Addr->List Qo->String->Bool):Bool:=match K.lookup C with
 | some {.type "type", _, .cls h, sl} => (match h.mro, sl.toList with
   |.ref j::bm,[_,_,_,_,some (.builtin n),_]=>f h j bm n
   |_,_=>false)
 |_=>false
set_option tactic.hygienic true in
def zB {K:Ql}(X:K.In h)(q:Jd K C f=true) :
 ∃u N nm q bs hdct sn sub ab col dd k0 k1 k2 k3 k5 dl n j,f {nm,bs,.ref j::u,N,q,hdct,sn,sub,ab,col,dl} j u n=true/\h.get? C=some {.type "type",dd,.cls {nm,bs,.ref j::u,N,q,hdct,sn,sub,ab,col,dl},#[k0,k1,k2,k3,some (.builtin n),k5]}:=by
 unfold Jd at q;split at q
 ·rename_i dd y sl ho;split at q
  ·rename_i j u k0 k1 k2 k3 n k5 hm hs;obtain⟨nm,bs,B,ns,qn,hd,sn,sub,ab,col,z⟩:=y;subst hm;have v:sl=#[k0,k1,k2,k3,some (.builtin n),k5]:=by
    obtain⟨l⟩:=sl;simp only at hs;rw[hs]
   subst v;exact{_,_,_,_,_,_,_,_,_,_,_,_,_,_,_,_,_,_,_,q,X _ _ ho}
  ·cases q
 ·cases q
def De {K:Ql}(X:K.In h)(q:PySem.W.excIn K C bmB newId=true) :
 ∃j N nm q bs hdct sn sub ab col dd k0 k1 k2 k3 k5 v,h.get? C=some (excClassObj nm q C N bs j hdct sn sub ab col dd k0 k1 k2 k3 k5 newId)/\h.Ns N v/\v "__init__"=none/\OwnTail h bmB j:=by
 obtain⟨j,ns,nm,qn,bs,hd,sn,sub,ab,col,dd,k0,k1,k2,k3,k5,dl,n,z,q,ho⟩:=zB X q;simp only[Qs,beq_iff_eq,Sr] at q;obtain⟨⟨⟨⟨⟨rfl,rfl⟩,rfl⟩,y⟩,hok⟩,u⟩:=q;exact{j,ns,nm,qn,bs,hd,sn,sub,ab,col,dd,k0,k1,k2,k3,k5,_,ho,.of_isNs (PySem.W.isNs_of_in X hok),PySem.W.nsMap_none_of_in X hok u,PySem.W.tail_of_in X y}
def zY (x:cf P w H h a o):∃ob,h.get? a=some ob:=by
 cases o with
 |lst xs=>obtain⟨_,_,_,_,e⟩:=x;exact{_,e}
 |tup xs=>obtain⟨_,_,_,ob,e,_⟩:=x;exact{_,e}
 |dK j=>obtain⟨_,_,_,_,o,_,_,e,_⟩:=x;exact{_,e}
 |dT j=>obtain⟨_,_,_,_,o,_,_,e,_⟩:=x;exact{_,e}
 |set S n=>obtain⟨o,_,_,_,e,_⟩:=x;exact{_,e}
 |ins C v fs=>obtain⟨_,_,_,e,_⟩:=x;exact{_,e}
 |own y=>exact x
 |xd fs=>obtain⟨_,⟨_,_,_,e,_⟩,_⟩:=x;exact{_,e}
 |rng lo z=>obtain⟨_,_,_,e⟩:=x;exact{_,e}
 |frz ob u=>obtain⟨e,_⟩:=x;exact{_,e}
 |tbl ps=>exact{_,x}
 |met f y=>exact{_,x}
 |ext B=>obtain⟨_,e,_⟩:=x;exact e
 |dn es=>obtain⟨_,_,o,e,_⟩:=x;exact⟨o,e⟩
def oF (I:Inv X pins σ H s)(h:X.ex=[])(hn:s.heap.get? e=none):oU X e/\H e=none:=by
 refine{{?_,λp v z=>?_},?_}
 ·cases q:X.s₀.heap.get? e with
  |none=>rfl
  | some o =>
    obtain⟨y,j⟩:=I.base.there e o q (by rw[h];simp)
    rw[hn] at j;cases j
 ·have:=(I.pin p (Rv _ v)).1;rw[z,hn] at this;cases this
 ·cases q:H e with
  |none=>rfl
  | some u =>
    obtain⟨ob,z⟩:=zY (I.hok e u q);rw[hn] at z;cases z
section
variable{fa:Fa}{X:Cx}{a b:Expr}{ga gb:GE}{ta:GT}{pos p:Pos}{es:List Expr}{gs:GA}{n:Nat}
set_option tactic.hygienic true in
def Gq (c:Nat){x:Str}(hx:∃C,X.mg x=some (.ref C)/\fa (eU c)=some C/\PySem.W.excIn X.K C nX "ValueError.__new__"=true)(L:X.ex=[])(hg:Gl X x)(hc:X.calm=true)(hs:DA fa X (a::es) gs)
 (J:(x==("__debug__":Str))=false) (he:notStar a=true) (S:es.all notStar=true):DS fa X (.Raise (some (.Call (.Name x np) (a::es) [] cpos)) none pos) (fG c gs):=by
 intro u s σ H D' I ⟨μ,Z,M,hE,hM,h⟩;obtain⟨C,Q,O,P⟩:=hx;obtain⟨bm,N,nm,q,bs,hdct,sn,sub,ab,col,dd,k0,k1,k2,k3,k5,mN,hC,hN,R,T⟩:=De I.ok.mod.kin P;unfold fG at h;cases z:gs Z M with
 |err=>rw[z] at h;exact h.elim
 |bad=>rw[z] at h;exact h.elim
 | ok ds M1 =>
   rw[z] at h;dsimp only at h;split at h
   ·next hz=>
    refine wpAny_Raise_call_subT (nm:=nm) (q:=q) (N:=N) (bs:=bs) (hdct:=hdct) (sn:=sn) (sub:=sub) (ab:=ab) (col:=col) (dd:=dd) (k0:=k0) (k1:=k1) (k2:=k2) (k3:=k3) (k5:=k5) PySem.F.excBase_ValueError (T.hasType `k) (I.ok.hd hc) (cu (by simp[he,S])) R (f7 I hg Q {rfl,?_} J)
    have ar:=aQ (hs cpos u s σ H (λvs v=>∃j,Ext μ H j v/\RelM fa X.K j v M1/\aG fa X.K j v ds vs) I {μ,Z,M,hE,hM,by rw[z];exact λvs v j E U r1=>⟨j,E,U,r1⟩}) (Q':=λY s2=>([]:List (Str×Qo))=[]/\Y.length<=sizeLine/\s2.heap.get? C=some (excClassObj nm q C N bs bm hdct sn sub ab col dd k0 k1 k2 k3 k5 "ValueError.__new__")/\s2.heap.Ns N mN/\OwnTail s2.heap nX bm/\∀B e,Heap.MadeExcOf s2.heap B e (.ref C) Y->X.xe (.ref e) {s2 with heap:=B}) λY s1 ⟨vs,v,y,r,j,E,U,r1⟩=>by
     refine{rfl,?_,y.bk _ _ hC,hN.keeps y.bk,T.keeps y.bk,λB e hm=>?_}
     ·rw[<- r.length,r1.length,<- cQ];exact hz
     ·obtain⟨t,ht,_,_⟩:=hm.there;obtain⟨n1,n2⟩:=oF y L hm.new;exact h u σ v j {s1 with heap:=B} e C none c none (y.kept hm.keeps) E (hE.ext E) U rfl O rfl {n1,n2,_,_,ht,rfl,rfl,rfl,.inl rfl}
    rw[aR he] at ar ⊢;exact PySem.Calls.evalArgs_plain ar
   ·exact h.elim
end
structure L1 (fa:Fa) (K:Ql):Prop where
 g:∀c C,fa (eU c)=some C->Ik K C=true/\PySem.W.mroIn K C (.type "ValueError")=some true/\PySem.W.isIn K (.ref C) C=true
 d:∀c C D,fa (eU c)=some C->fa 999=some D->PySem.W.isIn K (.ref C) D=true/\PySem.W.mroIn K C (.ref D)=some true/\PySem.W.mroIn K D (.type "BaseException")=some true/\PySem.W.typeIn K (.ref D)=some (.type "type")
 n:∀c C c' C',fa (eU c)=some C->fa (eU c')=some C'->c'≠c->PySem.W.kin_not K C C'=true
def xW (f:mM New C dx a s.heap H)(h:Q () s):wpAny M A (setFlight (.ref a) none) Q E s:=by
 obtain⟨_,_,o,B,h1,_,_,h4,z⟩:=f;rcases z with t|⟨T,y,ts,t1,_,_,_,j,u,v⟩
 ·refine tqa (tqf h1 h4 t ?_);rw[if_neg `d]
  exact tqb h
 ·refine tqa (tqf h1 h4 t1 ?_);rw[if_pos `s]
  refine wpAny_setField j u (RH.mp v).1 ?_;have e:=Heap.update_setField_same s.heap T y ts 3 .none j u v;show Q () {s with heap:=s.heap.update T (Obj.mapFields (·.setIfInBounds 3 .none))}
  rw[e];exact h
section
variable{X:Cx}{pins:List (Addr×Obj)}{σ:L2.St}{H:Hp}{s:Qr}
noncomputable abbrev sm (X:Cx)(pn:List (Addr×Obj))(E:Qo->Qr->Prop):Cx:={X with pn:=pn,xe:=E}
noncomputable abbrev so (X:Cx)(v:Qo)(E:Qo->Qr->Prop):Cx:={X with A:=X.A.mark (some v),calm:=false,xe:=E}
def AG (I:Inv X pins σ H s)(E:Qo->Qr->Prop):Inv (sm X (X.pn++pins) E) [] σ H s:=
 {⟨I.ok.mod,I.ok.kind,I.ok.glob,I.ok.blt,I.ok.above,I.ok.inj,I.ok.has,I.ok.cab,I.ok.hd,I.ok.frames,I.ok.stk,I.ok.exf,I.ok.bs,I.ok.bsz,I.ok.noex,I.ok.exfs,I.ok.funs,I.ok.frf⟩,I.os,I.bare,I.base,I.loc,I.cell,I.free,I.freeC,λp hp=>I.pin p (by simpa using hp),I.hok,I.len}
def ij (I:Inv (sm X (X.pn++pins) E) pins' σ H s):Inv X pins σ H s:=
 {⟨I.ok.mod,I.ok.kind,I.ok.glob,I.ok.blt,I.ok.above,I.ok.inj,I.ok.has,I.ok.cab,I.ok.hd,I.ok.frames,I.ok.stk,I.ok.exf,I.ok.bs,I.ok.bsz,I.ok.noex,I.ok.exfs,I.ok.funs,I.ok.frf⟩,I.os,I.bare,I.base,I.loc,I.cell,I.free,I.freeC,λp hp=>I.pin p (Rv _ hp),I.hok,I.len}
def rB (I:Inv X pins σ H s)(v:Qo)(E:Qo->Qr->Prop):Inv (so X v E) pins σ H s:=
 {{I.ok.mod,I.ok.kind,I.ok.glob,I.ok.blt,I.ok.above,I.ok.inj,I.ok.has,I.ok.cab,(λz=>nomatch z),I.ok.frames,I.ok.stk,I.ok.exf,I.ok.bs,I.ok.bsz,I.ok.noex,I.ok.exfs,I.ok.funs,I.ok.frf},I.os,I.bare,I.base,I.loc,I.cell,I.free,I.freeC,I.pin,I.hok,I.len}
def jB (hh:X.calm=true->X.A.handled=none)(I:Inv (so X v E) pins σ H s):Inv X pins σ H s:=
 {⟨I.ok.mod,I.ok.kind,I.ok.glob,I.ok.blt,I.ok.above,I.ok.inj,I.ok.has,I.ok.cab,hh,I.ok.frames,I.ok.stk,I.ok.exf,I.ok.bs,I.ok.bsz,I.ok.noex,I.ok.exfs,I.ok.funs,I.ok.frf⟩,I.os,I.bare,I.base,I.loc,I.cell,I.free,I.freeC,I.pin,I.hok,I.len}
end
noncomputable def Im (K:Ql)(cl:List (Nat×Addr))(D:Addr):Bool:=PySem.W.mroIn K D (.type "BaseException")==some true&&PySem.W.typeIn K (.ref D)==some (.type "type") &&
 cl.all λq=>Ik K q.2&&PySem.W.mroIn K q.2 (.type "ValueError")==some true&&PySem.W.isIn K (.ref q.2) q.2&&PySem.W.isIn K (.ref q.2) D&&PySem.W.mroIn K q.2 (.ref D)==some true&&cl.all λr=>r.1==q.1||PySem.W.kin_not K q.2 r.2
noncomputable def uB (l cl:List (Nat×Addr))(D:Addr):Fa:=λi=>if i<999 then l.lookup i else if i=999 then some D else cl.lookup (i-1000)
set_option tactic.hygienic true in
def lookup_mem:∀{l:List (Nat×Addr)}{c:Nat}{C:Addr},l.lookup c=some C->(c,C)∈l
 |[],_,_,h=>by cases h
 | (a, b) :: r, c, C, h => by
   rw[Rq] at h;split at h
   ·next e=>cases h;rw[eq_of_beq e];exact QB
   ·exact Qu _ (lookup_mem h)
def km {D:Addr}(h:uB l cl D (eU c)=some C):(c,C)∈cl:=by
 unfold uB eU at h;rw[if_neg `a,if_neg `a,RG] at h
 exact lookup_mem h
def Il {K:Ql}{D:Addr}(h:Im K cl D=true):L1 (uB l cl D) K:=by
 unfold Im at h;simp only[Qs,beq_iff_eq,QI,RF] at h;obtain⟨⟨h1,h2⟩,h3⟩:=h;refine{λc C e=>?_,λc C y e u=>?_,λc C B v e u n=>?_}
 ·obtain⟨⟨⟨⟨⟨a1,a2⟩,a3⟩,a4⟩,j⟩,a6⟩:=h3 _ (km e);exact⟨a1,a2,a3⟩
 ·obtain⟨⟨⟨⟨⟨a1,a2⟩,a3⟩,a4⟩,j⟩,a6⟩:=h3 _ (km e);cases u;exact⟨a4,j,h1,h2⟩
 ·obtain⟨⟨⟨⟨⟨a1,a2⟩,a3⟩,a4⟩,j⟩,a6⟩:=h3 _ (km e);exact(a6 _ (km u)).elim (λz=>absurd z n) id
end LD
namespace LD
open PySem PySem.Spec PySem.Calls PyProof.Rows
section
variable{prog:Q0}{w:Q2}{A:RL}{E:Qo->Qr->Prop}{h:Heap}{g:Array GenState}{d:Drawn}{t:Nat}{os:Ry}
variable{nm q:Str}{C N:Addr}{bs bm:List Qo}{hdct:Bool}{sn:List Str}{sub:List Qo}{ab:Bool}{col:Option Bool}{dd:Option Addr}{k0 k1 k2 k3 k5:Option Qo}
def Dd (J:h.get? C=some (excClassObj nm q C N bs bm hdct sn sub ab col dd k0 k1 k2 k3 k5 "ValueError.__new__"))(T:OwnTail h nX bm)
 (he:h.get? e=some oe) (v:oe.cls=.ref C) (hd:oe.data=.fields vs) (H:vs[0]?=some (.ref t0))
 (M:∀h' O,(∀b o,b≠e->h.get? b=some o->h'.get? b=some o)->h'.get? e=some (oe.mapFields (·.setIfInBounds 0 (.ref O)))->Q .none ⟨h',g,d,t,os⟩) :
 wpAny (model prog w) A (call (.builtin "ValueError.__init__") [.ref e,u]) Q E ⟨h,g,d,t,os⟩:=by
 refine wpAny_call (codeAny_call_builtin PySem.F.excBase_ValueError.init.plain PySem.F.excBase_ValueError.initEntry (wpAny_check_init_subT PySem.F.excBase_ValueError T J he v ?_));wp_walk
 have B:(h.push {cls:=.type "tuple",data:=.seq #[u]}).get? e=some oe:=Qq _ he;rw[hd];refine tqb ?_;rw[H];refine tqb ?_;refine tqa (wpAny_setField B hd (RH.mp H).1 ?_);wp_walk
 refine M _ h.objs.size (λb o L I=>?_) ?_
 ·rw[QU _ _ (Ru L)];exact Qq _ I
 ·exact Ro _ B (Ss (RN hd _))
end
noncomputable def oj:List Qo->Bool
 |.ref _::r=>oj r
 |l=>l==nX
def tG (self:Qo):∀{l:List Qo},oj l=true->refuseLoop self "__setattr__" l=pure ()
 |[],e=>absurd e `d
 | a :: r, e => by
   cases a with
   |ref c=>rw[refuseLoop_ref];exact tG self e
   | _ =>
     have q:=eq_of_beq (e);rw[q];exact PySem.F.store_ValueError.passes self
def sg (K:Ql)(C:Addr):Bool:=(PySem.W.clsIn K C).any (λu=>oj u.mro)&&PySem.W.mroIn K C (.type "object")==some true
def MI {K:Ql}(X:K.In s.heap)(J:PySem.W.InstAt s.heap x ox C od)(u:sg K C=true)(S:PySem.W.takerIn K C name=some none)
 (h:∀b,wpAny (model prog w) A.in1 (Builtin.ObjectAttr.storeInOwnDict (.ref x) (.ref C) (.str name tk) name v b) (λH B=>match H with|.done f=>R (.ok f) B|.again I=>I.quiet=true/\codeAny (model prog w) A I R B) (λe B=>R (.error e) B) s) :
 codeAny (model prog w) A (.call (.builtin "object.__setattr__") {[.ref x,.str name tk,v],[]}) R s:=by
 unfold sg at u;rw[Qs,beq_iff_eq] at u;obtain⟨L,Q,ho⟩:=PySem.W.any_some u.1;have G:=PySem.F.store_ValueError;have M:PySem.W.Looks (model prog w) s.heap (isInstance (.ref x) (.type "object")) true:=J.type.andThen (PySem.W.looks_mroIn X u.2);obtain⟨at',O,hr⟩:=Rl.mp S;have e1:PySem.W.Looks (model prog w) s.heap (mroOf (.ref C)) L.mro:=(PySem.W.looks_clsIn X Q).andThen .now;have e2:PySem.W.Looks (model prog w) s.heap (Builtin.ObjectAttr.storeTaker? at') none:=by
  cases at' with
  |none=>exact .now
  | some a =>
    obtain⟨b,P,hn⟩:=Qv.mp hr;cases b with
    |true=>cases hn
    |false=>exact(PySem.W.looks_takesIn X P).andThen .now
 refine codeAny_call_builtin PySem.F.store_object.slot.plain G.entry (@PySem.W.check_slot (model prog w) _ _ s "object.__setattr__" "object" "__setattr__" (.ref x) [.str name tk,v] [] _ G.kind G.split M (G.args (.ref x) (.str name tk) v) ?_);rw[PySem.W.osa_eq];refine tqa ?_;rw[refuse_eq];refine tqa (J.type.here (tqa (e1.here ?_)));rw[tG _ ho];exact tqb (tqa (J.type.here (tqa ((PySem.W.looks_findIn X O).here (tqa (e2.here (h _)))))))
def Hq {K:Ql}(X:K.In s.heap)(J:PySem.W.InstAt s.heap x ox C none)
 (hs:PySem.W.findIn K (.ref C) "__setattr__"=some (some (.builtin "object.__setattr__"))) (hp:sg K C=true) (ht:PySem.W.takerIn K C name=some none) (hh:PySem.W.hasDictIn K C=true) (hd:ox.data=.fields vs)
 (h:∀h' d,s.heap.objs.size<=d->h'.Ns1 d (λy=>if y=name then some v else none)->h'.get? x=some {ox with dict:=some d}->(∀b o,b≠x->s.heap.get? b=some o->h'.get? b=some o)->Q () {s with heap:=h',toks:=s.toks+2}) :
 wpAny (model prog w) A (setAttr (.ref x) name v) Q E s:=by
 refine PySem.W.set_plain X J hs (MI X J hp ht λb=>?_);obtain⟨cd,hc,M⟩:=PySem.W.any_some hh;have S:=J.at_;obtain⟨oc,I,U,Y⟩:=ox;obtain rfl:oc=.ref C:=J.cls;obtain rfl:U=.fields vs:=hd;have P:I=none:=by
  have:=J.dict;cases I with
  |none=>rfl
  |some d=>exact this.elim
 subst P;refine tqa (tqb (tqa (tqa (wpAny_loadPart S (tqa (PySem.W.Looks.here (PySem.W.looks_clsIn X hc) ?_))))));rw[M];refine tqa (wpAny_alloc ?_);have H:(s.heap.push {cls:=.type "dict",data:=.dict #[]}).get? x=some {.ref C,none,.fields vs,Y}:=Qq _ S;refine tqa (wpAny_update H (tqb ?_));have u:=Rt (QG S);have e1:(s.heap.push {cls:=.type "dict",data:=.dict #[]}).get? s.heap.objs.size=some {cls:=.type "dict",data:=.dict #[]}:=QK s.heap rfl;have e2:((s.heap.push {cls:=.type "dict",data:=.dict #[]}).update x (λo=>{o with dict:=some s.heap.objs.size})).get? s.heap.objs.size=some {cls:=.type "dict",data:=.dict #[]}:=(QU _ _ (Ru u)).trans e1
 have e3:((s.heap.push {cls:=.type "dict",data:=.dict #[]}).update x (λo=>{o with dict:=some s.heap.objs.size})).Ns s.heap.objs.size (λ_=>none):={_,#[],_,e2,rfl,(λe he=>absurd he `s),λ_=>rfl}
 have e4:=Ro (λo=>{o with dict:=some s.heap.objs.size}) H rfl
 refine tqa (tqb (tqa ?_));refine wpAny_nsSet1 (Heap.Ns1.of_empty e3) λh' B F=>?_;obtain⟨oD,esD,epD,R,O,L⟩:=B.count (PySem.Within.cons name v PySem.Within.nil);refine tqa (wpAny_lookBehind R (by rw[O];exact pastItsLine_dict (QF L (by show 1<=sizeLine+1;omega))) ?_)
 refine tqb (h _ s.heap.objs.size (Qt _) B ((F.2 _ (Ru u)).trans e4) λb o hb e=>?_);rw[F.2 b (QW (QG e)),QU _ _ (Ru hb)];exact Qq _ e
end LD
namespace LD
open PySem PySem.Spec PyProof.Rows L2
def fit (z:Str)(i:Int)(y:Str):Prop:=i.natAbs.log2<1920/\(z++(toString i:Str)).length<=sizeLine/\(z++(toString i:Str)++y).length<=sizeLine
section
variable{X:Cx}{a:Expr}{ta:TE}{pos p1 p2 p3:Pos}{j j2:Nat}{z y:Str}
def N4 (z y:Str)(ta:TE):TE:=λB H Q=>z.length<=sizeLine/\ta B H λv u=>∃i,v=.int i/\fit z i y/\Q (.str (z++(toString i:Str)++y)) u
def rX (z:Str):Str.empty++z=z:=by
 cases z with
 |mk c=>show Str.mk (#[]++c)=_;simp
def ym (z:Str):z++Str.empty=z:=by
 cases z with
 |mk c=>show Str.mk (c++#[])=_;simp
def MF (P:PE X a ta):PE X (.JoinedStr [.Constant (.str z) j p1,.FormattedValue a (-1) none p2,.Constant (.str y) j2 p3] pos) (N4 z y ta):=by
 intro B s S H Q I ⟨R,h⟩;refine JoinedStr_many (joinParts_cons (Calls.Constant_str ?_));show(Str.empty++z).length<=sizeLine/\_;rw[rX];refine{R,joinParts_cons (FormattedValue_plain (aQ (P B _ S H _ (I.tok _) h) λu s1 ⟨v,J,L,r1,i,M,⟨f1,O,F⟩,q⟩=>?_))};subst M;obtain⟨t,rfl⟩:=r1;refine formatField_int_small f1 {O,joinParts_cons (Calls.Constant_str {F,joinParts_nil ?_ F})};exact{.str _,J,L.tok _,{_,rfl},q}
def MG (O:PE X a ta):PE X (.JoinedStr [.Constant (.str z) j p1,.FormattedValue a (-1) none p2] pos) (N4 z Str.empty ta):=by
 intro B s R H Q I ⟨P,h⟩;refine JoinedStr_many (joinParts_cons (Calls.Constant_str ?_));show(Str.empty++z).length<=sizeLine/\_;rw[rX];refine{P,joinParts_cons (FormattedValue_plain (aQ (O B _ R H _ (I.tok _) h) λu s1 ⟨v,J,L,r1,i,M,⟨f1,F,S⟩,q⟩=>?_))};subst M;obtain⟨t,rfl⟩:=r1;refine formatField_int_small f1 {F,joinParts_nil ?_ F};have e:z++(toString i:Str)++Str.empty=z++(toString i:Str):=by
  exact ym _
 rw[e] at q;exact{.str _,J,L.tok _,{_,rfl},q}
end
def fg (C:Addr)(v:Option Addr)(a:Addr)(h:Heap):Prop:=∃o u B,h.get? a=some o/\o.cls=.ref C/\o.dict=v/\o.data=.fields u/\u[0]?=some (.ref B)/\u[1]?=some .none
def ko (K:Ql)(C:Addr)(fI:Addr):Bool:=Jd K C λcd C' bm n=>C'==C&&n=="ValueError.__new__"&&!cd.hasDel&&PySem.W.tailIn K nX bm&&PySem.W.nsOkIn K cd.ns&&PySem.W.nsIn K cd.ns "__init__"==some (some (.ref fI))
set_option tactic.hygienic true in
def xx {K:Ql}(X:K.In h)(G:h.Ns N mg)(e:PySem.W.nsIn K N x=some (some v)):mg x=some v:=by
 obtain⟨o,J,I,ho,hd,_,F⟩:=G;unfold PySem.W.nsIn at e;split at e
 ·rename_i c d u L sl q;have:=X _ _ q;rw[ho] at this;cases this;cases hd;split at e
  ·rename_i H B;cases e;rw[<- F];unfold nsFind findBy;rw[<- Array.find?_toList,B];rfl
  ·split at e<;>cases e
 ·cases e
def mx {K:Ql}(X:K.In h)(q:ko K C fI=true) :
 ∃bm N nm q bs hdct sn sub ab col dd k0 k1 k2 k3 k5 v,h.get? C=some (excClassObj nm q C N bs bm hdct sn sub ab col dd k0 k1 k2 k3 k5 "ValueError.__new__")/\h.Ns N v/\v "__init__"=some (.ref fI)/\OwnTail h nX bm:=by
 obtain⟨bm,ns,nm,qn,bs,hd,sn,sub,ab,col,dd,k0,k1,k2,k3,k5,dl,n,F,q,ho⟩:=zB X q;simp only[Qs,beq_iff_eq,Sr] at q;obtain⟨⟨⟨⟨⟨rfl,rfl⟩,rfl⟩,B⟩,hok⟩,u⟩:=q;exact{bm,ns,nm,qn,bs,hd,sn,sub,ab,col,dd,k0,k1,k2,k3,k5,_,ho,.of_isNs (PySem.W.isNs_of_in X hok),xx X (.of_isNs (PySem.W.isNs_of_in X hok)) u,PySem.W.tail_of_in X B}
set_option tactic.hygienic true in
def By (h:H a=some o):upd H a o=H:=by
 funext b
 unfold upd;split
 ·next e=>rw[e,h]
 ·rfl
section
variable{X:Cx}{a b:Expr}{ta tb:TE}{apos cpos p1 pos:Pos}{x:Str}{D:Addr}
def OL (K:Ql)(ta tb:TE):TE:=λF H Q=>ta F H λv I=>tb F I λu B=>∃e C J,v=.ref e/\B e=some (.ext (fg C none e))/\ko K C J=true/\Q .non B
def qa (x:fg C dx e h):cf P w H h e (.ext (fg C dx e)):=by
 refine{x,let{o,_,_,e,_}:=x;⟨o,e⟩,λB F ⟨o,v,u,k1,k2⟩ kk=>{o,v,u,kk o k1,k2}}
def JT {pl:Sem Bool}(hD:X.mg x=some (.ref D))(hg:Gl X x)(h1:PySem.W.readsIn X.K D (.type "type")=true)(h2:PySem.W.findCls X.K (.ref D) (.type "type") "__init__"=some (.val (.builtin "ValueError.__init__")))
 (h3:PySem.W.specialIn X.K (.ref D) "__getattribute__"=some (some (.builtin "type.__getattribute__"))) (ha:PE X a ta) (P:PE X b tb) (he:notStar a=true) (J:notStar b=true) (R:(x==("__debug__":Str))=false)
 (ht:eval (.Call (.Attribute (.Name x p1) "__init__" apos) [a,b] [] cpos) X.env=(do
  let ov <- eval (.Name x p1) X.env
  standAt apos.atName
  let(f,first) <- holding [ov] (getMethod ov "__init__" pl)
  callWith cpos f first (backTo cpos (starEach [a,b] X.env)) (backToKw cpos (keywordEach [] X.env)))) :
 PE X (.Call (.Attribute (.Name x p1) "__init__" apos) [a,b] [] cpos) (OL X.K ta tb):=by
 intro B s σ H Q I h;refine PySem.W.methodCall_KW (f7 I hg hD ?_ R) ht;refine PySem.W.method_cls I.kIn h3 (PySem.W.cls_value I.kIn h1 h2 rfl ?_);refine Calls.callWith_builtin (cu (by simp[he,J])) ?_
 have ar:=aQ ((bI ha (bI P cW (aR J)) (aR he)) cpos B {s with toks:=s.toks+1} σ H (λL S=>match L with|[v,u]=>∃e C Y,v=.ref e/\S e=some (.ext (fg C none e))/\ko X.K C Y=true/\Q .non S|_=>False) (I.tok _) h) (Q':=λus s2=>wpAny (model X.prog X.w) X.A (call (.builtin "ValueError.__init__") ([]++us) []) (EP X B σ Q) X.xe s2) λus s1 ⟨L,H1,M,r,F⟩=>by
  match L,r,F with
  |[],_,F=>exact F.elim
  |[_],_,F=>exact F.elim
  |_::_::_::_,_,F=>exact F.elim
  | [v, u], r, ⟨e, C, Y, ev, O, hx, q⟩ =>
    subst ev;obtain⟨w1,w2,rfl,r1,r2⟩:=vals2 r;obtain rfl:w1=Value.ref e:=r1;obtain⟨⟨o,L,t0,k1,k2,k3,k4,k5,k6⟩,_,_⟩:=M.hok e _ O;obtain⟨bm,N,nm,qq,bs,hdct,sn,sub,ab,col,dd,c0,c1,c2,c3,c5,mN,hC,hN,hni,T⟩:=mx M.kIn hx;obtain⟨hp,gg,dr,tk,os⟩:=s1;refine Dd hC T k1 k2 k4 k5 λh' tp kk ke=>?_;have nw:fg C none e h':={_,_,tp,ke,by rw[Obj.cls_mapFields];exact k2,by rw[mB];exact k3,RN k4 _,by simp[(RH.mp k5).1],by rw[Array.getElem?_setIfInBounds_ne `d];exact k6}
    have U:=M.write (t':=tk) (by rw[O];exact True.intro) (.inl rfl) (λb u P z=>kk b u P z) {_,ke} (qa nw)
    rw[By O] at U;exact{.non,H1,U,rfl,q}
 rw[aR he] at ar ⊢;exact PySem.Calls.evalArgs_plain ar
end
def setIn (K:Ql)(C:Addr)(fld:Str):Bool:=PySem.W.findIn K (.ref C) "__setattr__"==some (some (.builtin "object.__setattr__"))&&sg K C&&PySem.W.takerIn K C fld==some none&&PySem.W.hasDictIn K C
section
variable{X:Cx}{o value:Expr}{to tv:TE}{p' pos:Pos}{fld:Str}
def Ml (K:Ql)(tv to:TE)(fld:Str):TS:=λD v H=>tv v H λy B=>to v B λx u=>∃e C i,x=.ref e/\y=.int i/\u e=some (.ext (fg C none e))/\setIn K C fld=true/\∀d,u d=none->d≠e->D.nx v (upd (upd u d (.xd [(fld,.int i)])) e (.ext (fg C (some d) e)))
def GJ (ho:PE X o to)(hv:PE X value tv)(hs:swapsWith value (some (.Attribute o fld p')) pos.line X.env=pure false):PS X (.Assign [.Attribute o fld p'] value pos) (Ml X.K tv to fld):=by
 intro L s σ H D I h;refine plainObj_wpAny_Assign_Attribute (aQ (hv L s σ H _ I h) λu s1 ⟨y,H1,I1,ry,q⟩=>aQ (ho L s1 σ H1 _ I1 q) λov s2 ⟨x,S,P,rx,e,C,i,ex,ey,B,J,q2⟩=>?_) hs;subst ex ey;obtain rfl:ov=Value.ref e:=rx;obtain⟨t,rfl⟩:=ry;simp only[setIn,Qs,beq_iff_eq] at J;obtain⟨⟨⟨g1,g2⟩,g3⟩,g4⟩:=J;obtain⟨⟨ob,vs,t0,k1,k2,k3,k4,k5,k6⟩,_,_⟩:=P.hok e _ B;have IA:PySem.W.InstAt s2.heap e ob C none:={k1,k2,by unfold PySem.W.notCls;rw[k4],by rw[k3];trivial}
 refine Hq P.kIn IA g1 g2 g3 g4 k4 λh' d hd hns R kk=>?_;have F:=P.hok.fresh hd;have Q:d≠e:=λz=>by rw[z,B] at F;cases F
 have lt:∀b o,s2.heap.get? b=some o->b≠d:=λb o q z=>absurd (QG q) (by rw[z];exact Nat.not_lt.mpr hd)
 have ne:∀b,S b=none->b≠e:=λb q z=>by rw[z,B] at q;cases q
 have M:∀b,b≠d->b≠e->upd (upd S d (.xd [(fld,.int i)])) e (.ext (fg C (some d) e)) b=S b:=λb z1 U=>by rw[ao U,ao z1]
 have nd:∀b u,S b=some u->b≠d:=λb u q=>aV q F;refine{σ,_,P.un {λb o q n _ _=>kk b o (ne b n) q,λb o q n _ _=>{o.slots,kk b o (ne b n) q},λb o q n _=>?_,λb o q _=>?_,λb xs q=>?_,λb o u q=>?_,λb ps q=>{#[],?_}} λb u q=>?_,q2 d F Q}
 ·rw[M b (lt b o q) (ne b n)];exact n
 ·by_cases z:b=e
  ·exact{_,by rw[z];exact R}
  ·exact{o,kk b o z q}
 ·rw[M b (nd b _ q) (λz=>by rw[z,B] at q;cases q)];exact q
 ·rw[M b (nd b _ q) (λz=>by rw[z,B] at q;cases q)];exact q
 ·rw[M b (nd b _ q) (λz=>by rw[z,B] at q;cases q)];simpa using q
 ·by_cases z:b=e
  ·subst z;rw[bA] at q;cases q;exact qa {_,vs,t0,R,k2,rfl,k4,k5,k6}
  ·by_cases U:b=d
   ·subst U;rw[ao Q,bA] at q;cases q;refine{_,hns,λf=>?_};by_cases Y:f=fld
    ·subst Y;simp only[Rq,beq_self_eq_true,if_true];exact⟨t,rfl⟩
    ·rw[if_neg Y];have:([(fld,V.int i)]:List (Str×V)).lookup f=none:=by simp[Rq,RW.mpr Y]
     rw[this];trivial
   ·rw[M b U z] at q;refine(P.hok b u q).stay (λc v O w=>kk c v ?_ w) (λc w=>?_) λc xs w=>?_
    ·rcases O with O|O
     ·rw[O];exact z
     ·intro y;rw[y,B] at O;cases O
    ·rw[M c (nd c _ w) (λy=>by rw[y,B] at w;cases w)];exact w
    ·rw[M c (nd c _ w) (λy=>by rw[y,B] at w;cases w)];exact w
end
end LD
namespace LD
open PySem PySem.Spec PyProof.Rows
section
variable{prog:Q0}{w:Q2}{A:RL}{E:Qo->Qr->Prop}{h:Heap}{g:Array GenState}{d:Drawn}{t:Nat}{os:Ry}
variable{nm q:Str}{C N:Addr}{bs bm:List Qo}{hdct:Bool}{sn:List Str}{sub:List Qo}{ab:Bool}{col:Option Bool}{dd:Option Addr}{k0 k1 k2 k3 k5:Option Qo}
def r8
 (H:h.get? C=some (excClassObj nm q C N bs bm hdct sn sub ab col dd k0 k1 k2 k3 k5 "ValueError.__new__")) (T:OwnTail h nX bm) (hn:h.Ns N mN) (hi:mN "__init__"=some (.ref fI)) (J:h.get? fI=some oI) (L:oI.cls=.type "function")
 (R:∀h' e,Heap.MadeExcOf h h' e (.ref C) rest->wpAny (model prog w) A (call (.ref fI) (.ref e::rest)) (λr M=>r=.none/\Q (.done (.ret (.ref e))) M) E ⟨h',g,d,t,os⟩) (z:rest.length<=sizeLine) :
 wpAny (model prog w) A (Builtin.«type.__call__» {.ref C::rest,[]}) Q E ⟨h,g,d,t,os⟩:=by
 have F:=PySem.F.excBase_ValueError
 repeat (first|with_reducible refine wpAny_loadPart_at H ?_|with_reducible refine wpAny_madeBy_exc H ?_|wp_step)
 refine codeAny_call_builtin_code (Code.quiet_builtin _ F.quiet) (wpAny_check_new_subT F T H ?_);refine codeAny_exc_new_subT F T H ?_ z;have kp:∀b o,h.get? b=some o->((h.push {cls:=.type "tuple",data:=.seq rest.toArray}).push {cls:=.ref C,data:=.fields #[.ref h.objs.size,.none,.none,.none,.bool false,.none]}).get? b=some o:=λb o P=>Qq _ (Qq _ P);have j:=kp _ _ H;have u:=kp _ _ J;have y:=hn.keeps kp;have B:=T.keeps kp;have v:((h.push {cls:=.type "tuple",data:=.seq rest.toArray}).push {cls:=.ref C,data:=.fields #[.ref h.objs.size,.none,.none,.none,.bool false,.none]}).get? (h.objs.size+1)=some {cls:=.ref C,data:=.fields #[.ref h.objs.size,.none,.none,.none,.bool false,.none]}:=by heap_get
 have I:(Value.ref C::bm).contains (.ref C)=true:=`s
 repeat (first|with_reducible refine wpAny_loadPart_at v ?_|(with_reducible refine wpAny_isSubtype_exc j ?_;rw[I])|wp_step)
 refine wpAny_typeLookup_tail j y B F.mroIs F.init.lookup ?_;rw[hi];refine tqo (tqa ?_);refine tqa (wpAny_typeOf {_,u,L} ?_);rw[if_pos `d]
 refine tqb (tqa (wpAny_mono (R _ (h.objs.size+1) {kp,SN (Nat.le_succ _),h.objs.size,v,SN (Qt _),?_}) (λr M hr=>?_) λ_ _ x=>x))
 ·exact Qq _ (Heap.get?_push_at rfl rfl)
 ·obtain⟨rfl,O⟩:=hr;wp_walk
  exact O
def A8
 (u:h.get? C=some (excClassObj nm q C N bs bm hdct sn sub ab col dd k0 k1 k2 k3 k5 "ValueError.__new__")) (T:OwnTail h nX bm) (hn:h.Ns N mN) (hi:mN "__init__"=some (.ref fI)) (v:h.get? fI=some oI) (y:oI.cls=.type "function")
 (z:∀h' e,Heap.MadeExcOf h h' e (.ref C) rest->wpAny (model prog w) (A.under (.builtin "type.__call__" {.ref C::rest,[]})) (call (.ref fI) (.ref e::rest)) (λr B=>r=.none/\Q (.ref e) B) E ⟨h',g,d,t,os⟩) (j:rest.length<=sizeLine) :
 wpAny (model prog w) A (call (.ref C) rest) Q E ⟨h,g,d,t,os⟩:=by
 have f1:=tc_lookup;have F:=tc_bind (.ref C);refine wpAny_call (codeAny_of_tree ?_)
 repeat (any_goals (first|assumption|with_reducible refine wpAny_loadPart_at u ?_|wp_step))
 refine{rfl,?_};refine codeAny_call_builtin_at (Code.quiet_builtin _ `k) entry_typeCall (wpAny_check_type_call_sub u (r8 u T hn hi v y (λh' e hm=>?_) j))
 exact z h' e hm
end
end LD
namespace LD
open PySem PySem.Spec PyProof.Rows L2
def Fs (x m:Str)(a b:Expr)(p1 u h:Pos)(env:R0):Prop:=∃B,eval (.Call (.Attribute (.Name x p1) m u) [a,b] [] h) env=(do
 let v <- eval (.Name x p1) env
 standAt u.atName
 let(f,first) <- holding [v] (getMethod v m B)
 callWith h f first (backTo h (starEach [a,b] env)) (backToKw h (keywordEach [] env)))
def N7 (C:Addr)(fld:Str):Sp:=λh H Q _=>∃e i,h=[.ref e,.int i]/\H e=some (.ext (fg C none e))/\i.natAbs<2^64/\∀d,H d=none->d≠e->Q .non (upd (upd H d (.xd [(fld,.int i)])) e (.ext (fg C (some d) e)))
def len_app (a b:Str):(a++b).length=a.length+b.length:=by
 show(Str.append a b).length=_;unfold Str.append Str.length;simp
def AR {i:Int}(hz:z.length<=1000)(u:y.length<=1000)(hi:i.natAbs<2^64):fit z i y:=by
 have h1:i.natAbs.log2<1920:=by
  by_cases h:i.natAbs=0
  ·rw[h];decide
  ·exact QT ((Nat.log2_lt h).mpr hi) `a
 have h2:=PyProof.Rows.int_text_len_1921 h1;have hs:sizeLine=16777216:=cQ.symm;refine{h1,?_,?_}
 ·rw[len_app];omega
 ·rw[len_app,len_app];omega
section
variable{P:Q0}{w:Q2}{K:Ql}{mg:Str->Option Qo}{base:Heap}{qual y fld z:Str}{st:Stmt}{f C D fI:Addr}{fd:FuncData}{p1 p2 p3 p4 p5 p6 p7 p8 p9 p10 p11 p12 p13:Pos}{j:Nat}
def KW (F:nZ K "__init__" qual st f fd)(S:gp ["self",y] ["self",y] (aF st))
 (hb:bK st=[.Expr (.Call (.Attribute (.Name "DeedError" p1) "__init__" p2) [.Name "self" p3,.JoinedStr [.Constant (.str z) j p4,.FormattedValue (.Name y p5) (-1) none p6] p7] [] p8) p9,.Assign [.Attribute (.Name "self" p10) fld p11] (.Name y p12) p13])
 (u:∀L B,Fs "DeedError" "__init__" (.Name "self" p3) (.JoinedStr [.Constant (.str z) j p4,.FormattedValue (.Name y p5) (-1) none p6] p7) p1 p2 p8 (envOfC qual (aF st) L f B))
 (hz:z.length<=1000) (O:(y==("__debug__":Str))=false) (M:(y==("__classdict__":Str))=false) (v0:(aF st).names.lookup ("self":Str)=some .local) (v1:(aF st).names.lookup y=some .local)
 (hg:∀L B,(envOfC qual (aF st) L f B).kindOf "DeedError"=some .globalImplicit) (hD:mg "DeedError"=some (.ref D)) (h1:PySem.W.readsIn K D (.type "type")=true) (h2:PySem.W.findCls K (.ref D) (.type "type") "__init__"=some (.val (.builtin "ValueError.__init__")))
 (h3:PySem.W.specialIn K (.ref D) "__getattribute__"=some (some (.builtin "type.__getattribute__"))) (Y:ko K C fI=true) (v:setIn K C fld=true):jV P w K mg base (fP P w) 1 f fd ["self",y] (N7 C fld):=by
 refine qy (nZ.toD F) S (λvs H Q E ⟨e,i,I,_⟩=>by rw[I];rfl) λh A outer s H vs Q E hr ⟨e,i,I,R,hi,q⟩=>?_
 subst I;rw[hb];have U:u7 (eM (fP P w) P w K mg base ["self",y] qual (aF st) f h A outer s H E).env.scope "self":=.inl v0;have X:u7 (eM (fP P w) P w K mg base ["self",y] qual (aF st) f h A outer s H E).env.scope y:=.inl v1;have a0:∀p,PE (eM (fP P w) P w K mg base ["self",y] qual (aF st) f h A outer s H E) (.Name "self" p) (BW 0):=λp=>pw rfl U;have a1:∀p,PE (eM (fP P w) P w K mg base ["self",y] qual (aF st) f h A outer s H E) (.Name y p) (BW 1):=λp=>pw rfl X O M;obtain⟨pl,u⟩:=u s.heap.objs.size h;refine{_,oo (iR (JT hD (hg _ _) h1 h2 h3 (a0 p3) (MG (a1 p5)) rfl rfl rfl u) rfl) (oo (GJ (a0 p10) (a1 p12) rfl) vN),?_};refine{.ref e,rfl,QF hz (by rw[<- cQ];decide),.int i,rfl,i,rfl,AR hz `d hi,e,C,fI,rfl,R,Y,?_}
 exact{.int i,rfl,.ref e,rfl,e,C,i,rfl,rfl,R,v,λd hd J=>q d hd J}
end
def kC (fa:Fa)(P:Q0)(w:Q2)(K:Ql)(mg:Str->Option Qo)(base:Heap)(c:Nat)(x:Str):Prop:=
 ∃C h j y u,mg x=some (.ref C)/\fa (eU c)=some C/\ko K C h=true/\PySem.W.keepIn K (.ref C)=true/\K.lookup h=some u/\u.cls=.type "function"/\Binds K j ["self",y] []/\jV P w K mg base (fP P w) 1 h j ["self",y] (N7 C (gQ c))
section
variable{X:Cx}{pins:List (Addr×Obj)}{σ:L2.St}{H H0:Hp}{s:Qr}{fa:Fa}
def vg (I:Inv X pins σ H s)(B:H a=some (.ext F))(h:∀b,b≠a->H0 b=H b)(hz:H0 a=none):Inv X pins σ H0 s:=by
 have j:∀b,H b=none->b≠a:=λb q z=>by rw[z,B] at q;cases q
 have no:∀b u,H b=some u->(∀F,u≠.ext F)->H0 b=some u:=λb u q n=>by
  rw[h b (λz=>by rw[z,B] at q;cases q;exact n _ rfl)];exact q
 refine{I.ok,I.os,I.bare,{I.base.keep,I.base.slot,λb o e n J=>?_,I.base.there,λb xs e=>?_,λb o u e=>?_,λb ps e=>?_},I.loc,I.cell,?_,λx c e=>?_,λp y=>?_,λb u e=>?_,I.len}
 ·have q:=I.base.free b o e n J;rw[h b (j b q)];exact q
 ·exact no _ _ (I.base.tups b xs e) (λ_ z=>nomatch z)
 ·exact no _ _ (I.base.frzs b o u e) (λ_ z=>nomatch z)
 ·obtain⟨m,q⟩:=I.base.tbls b ps e;exact{m,no _ _ q (λ_ z=>nomatch z)}
 ·rw[h _ (j _ I.free)];exact I.free
 ·rw[h _ (j _ (I.freeC x c e))];exact I.freeC x c e
 ·obtain⟨e,n,r⟩:=I.pin p y;exact{e,by rw[h _ (j _ n)];exact n,r}
 ·by_cases E:b=a
  ·rw[E,hz] at e;cases e
  ·rw[h b E] at e;exact(I.hok b u e).stay (λc v _ q=>q) (λc q=>no _ _ q (λ_ z=>nomatch z)) λc xs q=>no _ _ q (λ_ z=>nomatch z)
def Kl {i:Int}(J:kC fa X.prog X.w X.K X.mg X.base c x)(hr:bW 2 X.A)(L:X.ex=[])(I:Inv X pins σ H s)(hC:X.mg x=some (.ref C))(hi:i.natAbs<2^64)
 (h:∀e d M,fa (eU c)=some C->oU X e->H e=none->H d=none->d≠e->Inv X pins σ (upd (upd H d (.xd [(gQ c,.int i)])) e (.ext (fg C (some d) e))) M->Q (.ref e) M):wpAny (model X.prog X.w) X.A (call (.ref C) [.int i t]) Q X.xe s:=by
 obtain⟨C',fI,fd,y,oI,m1,hf,U,hk,R,S,hb,F⟩:=J;rw[hC] at m1;cases m1;obtain⟨bm,N,nm,q,bs,hdct,sn,sub,ab,col,dd,k0,k1,k2,k3,k5,mN,P,hN,W,T⟩:=mx I.kIn U;obtain⟨hp,g,dr,tk,os⟩:=s;refine A8 P T hN W (I.kIn _ _ R) S (λh' e hm=>?_) (by rw[<- cQ];exact QJ rfl)
 obtain⟨tp,ht,_,_⟩:=hm.there;obtain⟨n1,n2⟩:=oF I L hm.new;have I1:=I.kept (t':=tk) hm.keeps;have O:=AF I1 L n2 n1.1 {_,_,ht,rfl} (λp hp z=>by
  have:=(I.pin p hp).1;rw[z,hm.new] at this;cases this) (qa {_,_,tp,ht,rfl,rfl,rfl,rfl,rfl})
 have E:=hb ⟨h',g,dr,tk,os⟩ [.ref e,.int i t] O.kIn rfl;rw[RZ] at E;refine wpAny_call (codeAny_mono (F.run _ X.stack ⟨h',g,dr,tk,os⟩ (upd H e (.ext (fg C none e))) {[.ref e,.int i t],[]} [.ref e,.int i t] [.ref e,.int i] (λv Y=>v=.non/\∃d,H d=none/\d≠e/\Y=upd (upd H d (.xd [(gQ c,.int i)])) e (.ext (fg C (some d) e))) (λ_ _ _=>False) (hr.make C [.int i t] []) (O.env0.make C [.int i t] []) E (.cons rfl (.cons ⟨t,rfl⟩ .nil)) ?_) λr M j=>?_)
 ·refine{e,i,rfl,bA,hi,λd hd B=>{rfl,d,by rw[ao B] at hd;exact hd,B,?_}}
  funext b
  unfold upd;split
  ·rfl
  ·split
   ·rfl
   ·rfl
 ·cases r with
  | error e' =>
    obtain⟨_,_,_,_,_,_,_,_,_,_,z⟩:=j;exact z.elim
  | ok fl =>
    cases fl with
    | ret u =>
      obtain⟨v,Y,I3,rv,ev,d,hd,B,eH⟩:=O.after j;subst ev eH;exact{rv,h e d M hf n1 n2 hd B I3}
    |next=>exact False.elim j
    |brk=>exact False.elim j
    |cont=>exact False.elim j
end
def jY (c:Nat)(a:GE):GS:=λh M=>match a h M with
 |.ok (.int i) M=>if i.natAbs<2^64 then .ok (.exc (.exc c (some i)) h) M else .bad
 |_=>.bad
def xo
 (u:bm.contains (.type "BaseException")=true) (hh:A.handled=none)
 (h:wpAny M A x (λv j=>∃e o vs,v=.ref e/\j.heap.get? C=some (excClassObj nm q C N bs bm hdct sn sub ab col dd k0 k1 k2 k3 k5 newId)/\j.heap.get? e=some o/\o.cls=.ref C/\o.data=.fields vs/\vs[1]?=some .none/\E (.ref e) j) E s) :
 wpAny M A (raiseStmt env (some x) none) Q E s:=by
 have z:(Value.ref C::bm).contains (.type "BaseException")=true:=by rw[List.contains_cons,u,Bool.or_true]
 refine tqa (wpAny_mono h (λv j y=>?_) λ_ _ x=>x);obtain⟨e,⟨cl,od,I,sl⟩,vs,rfl,B,F,L,hd,h1,J⟩:=y;obtain rfl:cl=.ref C:=L;obtain rfl:I=.fields vs:=hd;obtain⟨O,g,d,tk,os⟩:=j
 repeat (first|with_reducible refine wpAny_loadPart_at F ?_|with_reducible refine wpAny_loadPart_at B ?_|(with_reducible refine wpAny_isSubtype_exc B ?_;rw[z])|(with_reducible refine tqf F rfl h1 ?_)|wp_step)
 exact wpAny_raiseNew_none hh J
section
variable{fa:Fa}{X:Cx}{a b:Expr}{ga gb:GE}{ta:GT}{pos p np cpos:Pos}{es:List Expr}{gs:GA}{n:Nat}{x:Str}
def Dg (c:Nat)(J:kC fa X.prog X.w X.K X.mg X.base c x)(hr:bW 2 X.A)(P:X.ex=[])(hg:Gl X x)(ha:DE fa X a ga)(L:(x==("__debug__":Str))=false)(he:notStar a=true)(I:Inv X pins σ H s)
 (h:∃μ Z M,bc fa X.K μ H σ Z/\RelM fa X.K μ H M/\ae (ga Z M) λd M'=>∃i,d=.int i/\i.natAbs<2^64/\∀u j e d C z,Ext μ H j u->bc fa X.K j u σ Z->RelM fa X.K j u M'->X.mg x=some (.ref C)->fa (eU c)=some C->oU X e->u e=none->u d=none->d≠e->Inv X pins σ (upd (upd u d (.xd [(gQ c,.int i)])) e (.ext (fg C (some d) e))) z->Q (.ref e) z) :
 wpAny (model X.prog X.w) X.A (eval (.Call (.Name x np) [a] [] cpos) X.env) Q X.xe s:=by
 obtain⟨μ,Z,M,Y,hM,h⟩:=h;obtain⟨C,fI,fd,y,oI,B,hf,hin,hk,r⟩:=id J;refine wpAny_Call_Name_kw (f7 I hg B ?_ L);refine SR I.ok.mod.kin hk (aQ (bI ha cW (aR he) cpos pins s σ H (λvs u=>∃j F i,Ext μ H j u/\RelM fa X.K j u F/\vs=[.int i]/\i.natAbs<2^64/\∀u j e d C z,Ext μ H j u->bc fa X.K j u σ Z->RelM fa X.K j u F->X.mg x=some (.ref C)->fa (eU c)=some C->oU X e->u e=none->u d=none->d≠e->Inv X pins σ (upd (upd u d (.xd [(gQ c,.int i)])) e (.ext (fg C (some d) e))) z->Q (.ref e) z) I {μ,Z,M,Y,hM,aU h λd M' ⟨i,ed,S,k⟩ v u j E B r1=>by
  subst ed;obtain rfl:v=.int i:=r1;exact⟨j,M',i,E,B,rfl,S,k⟩}) λus s1 ⟨vs,u,U,r,j,F,i,E,mm,ev,S,k⟩=>{U.kIn,?_}) (aR he) (cu rfl)
 subst ev;cases r with
 | cons r1 r2 =>
   cases r2;obtain⟨t,rfl⟩:=r1;exact Kl J hr P U B S λe d z R n1 n2 hd O I3=>k u j e d C z E (Y.ext E) mm B R n1 n2 hd O I3
set_option tactic.hygienic true in
def Cd (c:Nat)(J:kC fa X.prog X.w X.K X.mg X.base c x)(hr:bW 2 X.A)(hex:X.ex=[])(hg:Gl X x)(hc:X.calm=true)(ha:DE fa X a ga)(hdb:(x==("__debug__":Str))=false)(he:notStar a=true):DS fa X (.Raise (some (.Call (.Name x np) [a] [] cpos)) none pos) (jY c ga):=by
 intro pins s σ H D' I ⟨μ,Z,M,hE,hM,h⟩;obtain⟨C,fI,fd,y,oI,m1,hf,hin,hk,r⟩:=id J;obtain⟨bm,N,nm,q,bs,z,sn,sub,ab,R,dd,k0,k1,k2,k3,k5,mN,U,hN,hni,T⟩:=mx I.ok.mod.kin hin;rw[arm_exec_Raise];refine tqa (wpAny_standAt (xo (T.hasType `k) (I.ok.hd hc) (tqa (wpAny_mono (Dg (Q:=λv j=>∃e o F,v=.ref e/\j.heap.get? C=some (excClassObj nm q C N bs bm z sn sub ab R dd k0 k1 k2 k3 k5 "ValueError.__new__")/\j.heap.get? e=some o/\o.cls=.ref C/\o.data=.fields F/\F[1]?=some .none/\X.xe (.ref e) j) c J hr hex hg ha hdb he I ?_) (λv s₃ E=>tqa (wpAny_standAt (tqb E))) λ_ _ x=>x))))
 refine{μ,Z,M,hE,hM,?_};unfold jY at h;cases S:ga Z M with
 |err=>rw[S] at h;exact h.elim
 |bad=>rw[S] at h;exact h.elim
 | ok x0 M1 =>
   rw[S] at h;cases x0 with
   | int i =>
     dsimp only at h;split at h
     ·next hi=>
      refine{i,rfl,hi,λO L e d C' s' x1 W u hm hf nw he hd hde P=>?_};rw[m1] at hm;cases hm;have ne:upd (upd O d (.xd [(gQ c,.int i)])) e (.ext (fg C (some d) e)) e=some (.ext (fg C (some d) e)):=bA;obtain⟨⟨o,F,t0,g1,g2,g3,g4,g5,g6⟩,_,_⟩:=P.hok e _ ne;have B:upd O d (.xd [(gQ c,.int i)]) e=none:=by rw[ao (Ru hde)];exact he
      have I4:=vg P ne (λb hb=>(ao hb).symm) B;have Y:RelM fa X.K L (upd O d (.xd [(gQ c,.int i)])) M1:=u.alloc hd;have xd:=Ext.alloc (o:=.xd [(gQ c,.int i)]) u hd;exact{e,o,F,rfl,P.bk _ _ U,g1,g2,g4,g6,h pins σ _ L s' e C (some d) c (some i) I4 (x1.trans xd) (W.ext xd) Y rfl hf ⟨d,rfl,bA⟩ {nw,B,o,F,g1,g2,g3,g4,.inl g6}}
     ·exact h.elim
   |_=>exact h.elim
def Fi (fa:Fa)(K:Ql)(f:Str):Prop:=∀c C,fa (eU c)=some C->gQ c=f->PySem.W.hasDictIn K C=true/\PySem.W.findIn K (.ref C) f=some none
end
noncomputable def inC (s:Stmt):Stmt:=match s with
 |.ClassDef _ _ _ (b::_) _ _ _ _ _ _ _=>b
 |_=>s
def uy (z y:Str)(a:GE):GE:=λh M=>(a h M).bind λd M=>match d with
 |.int i=>if z.length<=1000/\y.length<=1000/\i.natAbs<2^64 then .ok (.str (z++(toString i:Str)++y)) M else .bad
 |_=>.bad
set_option tactic.hygienic true in
def OR (O:DE fa X a ga):DE fa X (.JoinedStr [.Constant (.str z) j p1,.FormattedValue a (-1) none p2,.Constant (.str y) j2 p3] pos) (uy z y ga):=
 bt (MF O) λW H Q ⟨B,U,M,J,L,h⟩=>by
  obtain⟨R,F,I,h1⟩:=az h;cases R with
  | int i =>
    have h1:ae (if z.length<=1000/\y.length<=1000/\i.natAbs<2^64 then .ok (.str (z++(toString i:Str)++y)) F else .bad) (aX fa X.K B H Q):=h1;split at h1
    ·next hm=>
     refine{QF hm.1 (by rw[<- cQ];decide),B,U,M,J,L,?_}
     rw[I];intro v E u S P r1;obtain rfl:v=.int i:=r1;exact{i,rfl,AR hm.1 hm.2.1 hm.2.2,h1 (.str _) E u S P rfl}
    ·exact h1.elim
  |_=>exact h1.elim
def KY (K:Ql)(C D j:Addr)(h:Str):Bool:=ko K C j&&PySem.W.keepIn K (.ref C)&&PySem.W.readsIn K D (.type "type")&&(PySem.W.specialIn K (.ref D) "__getattribute__"==some (some (.builtin "type.__getattribute__")))&&setIn K C h&&PySem.W.keepIn K (.ref j)
def C6 {K:Ql}{st:Stmt}{C D E B:Addr}(X:K.In h)(G:h.Ns mainGlobals mg)
 (a:PySem.W.nsIn K mainGlobals x=some (some (.ref C))) (aD:PySem.W.nsIn K mainGlobals "DeedError"=some (some (.ref D))) (hf:fa (eU c)=some C) (b:KY K C D E (gQ c)=true) (h2:PySem.W.findCls K (.ref D) (.type "type") "__init__"=some (.val (.builtin "ValueError.__init__")))
 (l:K.lookup E=some {.type "function",none,.func (PySem.W.fnOf "__init__" qual (c4 st) (bK st) (aF st) .none .none .none (.str pm t) none (.ref B) .none),#[]}) (e:PySem.W.codeIn K (.ref B) qual=true) (S:gp ["self",y] ["self",y] (aF st))
 (hb:bK st=[.Expr (.Call (.Attribute (.Name "DeedError" p1) "__init__" p2) [.Name "self" p3,.JoinedStr [.Constant (.str z) j p4,.FormattedValue (.Name y p5) (-1) none p6] p7] [] p8) p9,.Assign [.Attribute (.Name "self" p10) (gQ c) p11] (.Name y p12) p13])
 (M:∀L B,Fs "DeedError" "__init__" (.Name "self" p3) (.JoinedStr [.Constant (.str z) j p4,.FormattedValue (.Name y p5) (-1) none p6] p7) p1 p2 p8 (envOfC qual (aF st) L E B))
 (hz:z.length<=1000) (Q:(y==("__debug__":Str))=false) (O:(y==("__classdict__":Str))=false) (v0:(aF st).names.lookup ("self":Str)=some .local) (v1:(aF st).names.lookup y=some .local)
 (hg:∀L B,(envOfC qual (aF st) L E B).kindOf "DeedError"=some .globalImplicit)
 (J:∀(kV v pm:Qo) (H:Option Addr) (u ct U Y:Qo),bindArgs (PySem.W.fnOf "__init__" qual (c4 st) (bK st) (aF st) .none kV v pm H u ct) {[U,Y],[]}=pure ((["self",y]:List Str).zip [U,Y])) (P:Q0) (base:Heap):kC fa P w K mg base c x:=by
 simp only[KY,Qs,beq_iff_eq] at b;obtain⟨⟨⟨⟨⟨R,b2⟩,b3⟩,b4⟩,b5⟩,b6⟩:=b;have F:=AQ l e b6;exact{C,E,_,y,_,RU X G a,hf,R,b2,l,rfl,F.binds λkV v pm H u ct I hl=>Iv (p:=λI=>bindArgs (PySem.W.fnOf "__init__" qual (c4 st) (bK st) (aF st) .none kV v pm H u ct) {I,[]}=pure ((["self",y]:List Str).zip I)) (J kV v pm H u ct) I hl,
  KW F S hb M hz Q O v0 v1 hg (RU X G aD) b3 h2 b4 R b5}
def lQ (k1 k2:Nat)(h:GS):Fl->Mem->Res Fl
 | .exc x j, M => match x with
   |.exc c _=>if c=k1\/c=k2 then(h j M).bind λfl M=>match fl with|.exc _ _=>.bad|fl=>.ok fl M else .bad
   |_=>.bad
 |fl,M=>.ok fl M
def lW (b:GS)(k1 k2:Nat)(h:GS):GS:=λj M=>(b j M).bind (lQ k1 k2 h)
def wO (fa:Fa)(K:Ql)(mg:Str->Option Qo)(x1 x2:Str)(k1 k2:Nat):Prop:=∃h j,mg x1=some (.ref h)/\mg x2=some (.ref j)/\∀c C,c=k1\/c=k2->fa (eU c)=some C->PySem.W.exmAny K (.ref C) [.ref h,.ref j]=some true
noncomputable def OA (K:Ql)(cl:List (Nat×Addr))(h j:Addr)(k1 k2:Nat):Bool:=cl.all λq=>!(q.1==k1||q.1==k2)||PySem.W.exmAny K (.ref q.2) [.ref h,.ref j]==some true
def IT {K:Ql}{D j u:Addr}(y:mg x1=some (.ref j))(B:mg x2=some (.ref u))(h:OA K cl j u k1 k2=true):wO (uB l cl D) K mg x1 x2 k1 k2:=by
 refine{j,u,y,B,λc C v e=>?_};have:=QI.mp h _ (km e);rw[RF] at this;rcases this with z|z
 ·have e1:(c==k1||c==k2)=true:=by simpa using v
  rw[e1] at z;cases z
 ·exact eq_of_beq z
def L6 (fa:Fa)(K:Ql):Prop:=∀c C,fa (jv c)=some C->lu c≠[]->wR K C/\∀f∈lu c,L7 K C f
def pZ (fa:Fa)(K:Ql)(m:Str)(c f:Nat):Prop:=∃C,fa (jv c)=some C/\wR K C/\(∀ad,fa f=some ad->Meth K C m ad)/\m∉lu c/\lu c≠[]
noncomputable def nj (μ:Mu)(k:Nat)(p:Addr):Mu:={μ.pub,μ.priv,λj=>if j=aB k then some p else μ.ob j}
section
variable{fa:Fa}{K:Ql}{μ:Mu}{H:Hp}{M:Mem}
def RelM.ob_ins (h:RelM fa K μ H M)(e:μ.ob (aB k)=some a):∃o,H a=some o:=by
 by_cases j:k<M.length
 ·rcases h.at' k M[k] (by simp[j]) with⟨b,u,h1,_⟩|⟨b,h1,h2,h3⟩
  ·rw[h.sep _ _ h1] at e;cases e
  ·rw[e] at h1;cases h1;exact let{o,z,_}:=h3.hold;⟨o,z⟩
 ·rw[h.oout k (Nat.le_of_not_lt j)] at e;cases e
end
end LD
namespace LD
open PySem
section
variable{prog:Q0}{w:Q2}{A:RL}{E:Qo->Qr->Prop}{s:Qr}
abbrev TK (prog:Q0)(w:Q2)(h:Heap)(ks:List Int)(a:Addr):Prop:=IsTupleKey (intKind prog w) h ks a
inductive iw (prog:Q0) (w:Q2) (h:Heap):List (List Int)->List Qo->Prop
 |nil:iw prog w h [] []
 |cons {ks:List Int}{a:Addr}{kss:List (List Int)}{vs:List Qo}:TK prog w h ks a->iw prog w h kss vs->iw prog w h (ks::kss) (.ref a::vs)
def NK (prog:Q0)(w:Q2)(h:Heap)(j:List (List Int))(a:Addr):Prop:=∃o items n,h.get? a=some o/\o.cls=.type "tuple"/\o.data=.seq items n/\iw prog w h j items.toList
def iw.inj:∀{x y:List (List Int)}{vs:List Qo},iw prog w h x vs->iw prog w h y vs->x=y
 |_,_,_,.nil,.nil=>rfl
 |_,_,_,.cons a r,.cons b t=>by rw[a.inj b,iw.inj r t]
def NK.typeIs (x:NK prog w s.heap kss a):s.TypeIs (.ref a) "tuple":=let{o,_,_,ho,h,_}:=x;⟨o,ho,h⟩
def NK.inj (z:NK prog w h x a)(B:NK prog w h y a):x=y:=by
 obtain⟨o,i,n,h1,_,h2,h3⟩:=z;obtain⟨I,F,H,j,_,u,v⟩:=B;rw[h1] at j;cases j;rw[h2] at u;cases u;exact h3.inj v
def iw.keeps (ho:h.get? d=some o)(hd:o.data=.dict es ep)(hs:R8 d h h'):∀{j:List (List Int)}{vs:List Qo},iw prog w h j vs->iw prog w h' j vs
 |_,_,.nil=>.nil
 |_,_,.cons a r=>.cons (a.keeps ho hd hs) (iw.keeps ho hd hs r)
def NK.keeps (x:NK prog w h kss a)(ho:h.get? d=some o)(hd:o.data=.dict es ep)(hs:R8 d h h'):NK prog w h' kss a:=by
 obtain⟨u,i,n,h1,h2,h3,h4⟩:=x;refine{u,i,n,(hs.2 a λz=>?_).trans h1,h2,h3,h4.keeps ho hd hs};rw[z,ho] at h1;cases h1;rw[hd] at h3;cases h3
noncomputable def tY (prog:Q0)(w:Q2)(h:List (List Int)):Int:=reduceHash (Builtin.Tuple.tupleHashOf (h.map (tupleKeyHash (intKind prog w))))
noncomputable def ng (h:List (List Int)):Nat:=(h.map λks=>ks.length+1).sum+1
def G1 (L:A.units+2<cLine)(H:NK prog w s.heap kss a)(h:Q (tY prog w kss) {s with toks:=s.toks+ng kss}):wpAny (model prog w) A (pyHash (.ref a)) Q E s:=by
 have y:=H.typeIs;obtain⟨o,items,n,ho,_,hd,I⟩:=H;first|unfold pyHashByItsType|skip
 first|refine tqa (wpAny_cRoomFor_or (.inr `a) ?_)|skip
 refine tqa (wpAny_specialOf y F.slot_tuple_hash.lookup ?_);rw[if_neg (by rw[beq_builtin_none];exact QP)]
 refine tqa (wpAny_specialOf y F.slot_tuple_hash.lookup ?_);refine tqa (wpAny_callSpecialIfBoundUnlessNone?_slot y F.slot_tuple_hash (wpAny_call_entry F.slot_tuple_hash y F.entry_tuple_hash ?_ (F.args_tuple_hash_1 _)));show wpAny _ _ (Builtin.Tuple.tupleItemsOf (.ref a) >>= _) _ _ s;refine tqa (wpAny_tupleItemsOf ho hd ?_);refine tqa ?_;rw[<- Array.forIn_toList];refine wpAny_forIn_list _ (λrest (b:Array Int) B=>∃done left,kss=done++left/\iw prog w s.heap left rest/\b.toList=done.map (tupleKeyHash (intKind prog w))/\B={s with toks:=s.toks+(done.map λks=>ks.length+1).sum}) _ ?_ ?_ _ _ {[],kss,rfl,I,rfl,rfl}
 ·rintro x rest b B ⟨done,left,rfl,hl,z,rfl⟩;cases hl with
  | @cons k c u _ h1 j =>
    refine tqa (wpAny_pyHash_tuple ?_ h1 ?_)
    ·show A.units+1<cLine;omega
    ·first
      |exact tqb {done++[k],u,`s,j,by simp[z],by simp[Sj]}
      |exact tqa (tqb (tqb {done++[k],u,`s,j,by simp[z],by simp[Sj]}))
 ·rintro b B ⟨done,left,rfl,hl,z,rfl⟩;cases hl;rw[RZ] at h;show wpAny _ _ (retInt (Builtin.Tuple.tupleHashOf b.toList)) _ _ _;rw[z];refine wpAny_ret_mkInt ?_;generalize J:Builtin.Tuple.tupleHashOf (done.map (tupleKeyHash (intKind prog w)))=v;show wpAny _ _ (if (decide (-(2:Int)^63<=v)&&decide (v<2^63))=true then _ else _) Q E _;unfold tY reduceHash at h;rw[J] at h;by_cases hr:(decide (-(2:Int)^63<=v)&&decide (v<2^63))=true
  ·rw[if_pos hr];rw[if_pos hr] at h;exact tqb (by simpa[ng,Sj] using h)
  ·rw[if_neg hr];rw[if_neg hr] at h;exact tqa (wpAny_rule (tqb (by simpa[ng,Sj] using h)))
def xy (hu:A.units<cLine)(hx:NK prog w s.heap x a)(hy:NK prog w s.heap y b)(h:P (.done (.ret (.bool (decide (x=y))))) s) :
 wpAny (model prog w) A (Builtin.«tuple.__eq__» {[.ref a,.ref b],[]}) P E s:=by
 have Q:=hy.typeIs;obtain⟨oa,xs,na,Y,_,R,U⟩:=hx;obtain⟨ob,ys,nb,hob,_,S,W⟩:=hy;show wpAny _ _ (isInstance (.ref b) (.type "tuple") >>= _) _ _ s;refine tqa (wpAny_isInstance Q isSubtype_tuple_tuple ?_);refine tqa (wpAny_tupleItemsOf Y R (tqa (wpAny_tupleItemsOf hob S (tqa ?_))));refine wpAny_forIn_list _ (λrest r L=>r.1=none/\L=s/\∃M O z B,rest=List.zip z B/\iw prog w s.heap M z/\iw prog w s.heap O B/\decide (M=O)=decide (x=y)/\(z.length==B.length)=(xs.size==ys.size)) _ ?_ ?_ _ _ {rfl,rfl,x,y,xs.toList,ys.toList,rfl,U,W,rfl,`s}
 ·rintro⟨u,v⟩ rest r L ⟨hr,rfl,M,O,z,B,J,I,H,j,F⟩;cases I with
  |nil=>simp at J
  | @cons k1 u' x2 xs2 h1 hx2 =>
    cases H with
    |nil=>simp at J
    | @cons k2 v' y2 ys2 h2 hy2 =>
      obtain⟨⟨rfl,rfl⟩,rfl⟩:=J;refine tqa (wpAny_eqBool_tuple hu h1 h2 ?_);by_cases X:k1=k2
      ·subst X;rw[decide_eq_true rfl];refine tqb {rfl,rfl,x2,y2,xs2,ys2,rfl,hx2,hy2,?_,by simpa using F}
       rw[<- j];by_cases hxy:x2=y2<;>simp[hxy]
      ·rw[decide_eq_false X];rw[show decide (x=y)=false by rw[<- j];simp[X]] at h
       exact tqa (tqb (tqb (tqb h)))
 ·rintro⟨r1,r2⟩ L ⟨hr,rfl,M,O,z,B,J,I,H,j,F⟩;subst hr;refine tqb ?_;show P (.done (.ret (.bool (xs.size==ys.size)))) L;rw[<- F,show(z.length==B.length)=decide (x=y) from ?_]
  ·exact h
  ·rw[<- j];cases I with
   |nil=>cases H<;>simp
   | cons _ _ => cases H with
     |nil=>simp
     |cons _ _=>simp at J
def MQ (z:A.units+2<cLine)(u:NK prog w s.heap x a)(v:NK prog w s.heap y b)(h:Q (decide (x=y)) s):wpAny (model prog w) A (eqBool (.ref a) (.ref b)) Q E s:=by
 unfold eqBool;try with_reducible refine tqo ?_
 by_cases j:(Value.ref a==Value.ref b)=true
 ·rw[if_pos j];obtain rfl:a=b:=by have:=eq_of_beq j;injection this
  obtain rfl:=u.inj v;exact tqa (wpAny_rule (tqb (by simpa using h)))
 ·rw[if_neg j];refine tqa (wpAny_richCompare_same_room u.typeIs v.typeIs F.slot_tuple_eq (wpAny_call_entry F.slot_tuple_eq u.typeIs F.entry_tuple_eq (xy ?_ u v {_,rfl,(λe=>nomatch e),tqp h}) (F.args_tuple_eq_2 _ _)) `a)
  show A.units+1<cLine;omega
def BR (d:Nat)(H:TK prog w s.heap ks a)(h:Q true s):wpAny (model prog w) A (eqIsQuiet (d+1) (.ref a)) Q E s:=by
 have B:=H.typeIs;obtain⟨o,items,n,ho,_,hd,I⟩:=H;unfold eqIsQuiet;refine tqa (wpAny_specialOf B F.slot_tuple_eq.lookup ?_);refine tqa (wpAny_isInstance B isSubtype_tuple_tuple ?_);refine tqa (wpAny_seqItems ho hd (tqa ?_));rw[<- Array.forIn_toList];refine wpAny_forIn_list _ (λrest r z=>r.1=none/\z=s/\∀v∈rest,carriedByValue v=true) _ ?_ ?_ _ _ ⟨rfl,rfl,I.byValue⟩
 ·rintro v rest r z ⟨hr,rfl,j⟩;rw[eqIsQuiet_byValue _ (j v QB)];refine tqa (tqb ?_);exact tqb {rfl,rfl,λu y=>j u (Qu _ y)}
 ·rintro⟨r1,r2⟩ z ⟨hr,rfl,_⟩;subst hr;exact tqb h
def CC (B:NK prog w s.heap kss a)(h:Q true s):wpAny (model prog w) A (eqIsQuiet 8 (.ref a)) Q E s:=by
 have z:=B.typeIs;obtain⟨o,items,n,ho,_,hd,H⟩:=B;unfold eqIsQuiet;refine tqa (wpAny_specialOf z F.slot_tuple_eq.lookup ?_);refine tqa (wpAny_isInstance z isSubtype_tuple_tuple ?_);refine tqa (wpAny_seqItems ho hd (tqa ?_));rw[<- Array.forIn_toList];refine wpAny_forIn_list _ (λrest r y=>r.1=none/\y=s/\∃ks,iw prog w s.heap ks rest) _ ?_ ?_ _ _ ⟨rfl,rfl,kss,H⟩
 ·rintro v rest r y ⟨hr,rfl,ks,hl⟩;cases hl with
  | @cons k c u _ h1 j =>
    refine tqa (BR 6 h1 ?_);exact tqb ⟨rfl,rfl,u,j⟩
 ·rintro⟨r1,r2⟩ y ⟨hr,rfl,_⟩;subst hr;exact tqb h
end
def J9 (prog:Q0)(w:Q2):HeapKind prog w (List (List Int)) where
 is:=NK prog w
 hash:=tY prog w
 draws:=ng
 room:=λA=>A.units+2<cLine
 inj:=λv y=>v.inj y
 keeps:=λx ho hd hs=>x.keeps ho hd hs
 pyHash:=λu j h=>G1 u j h
 eqBool:=λu v y h=>MQ u v y h
 quiet:=λj h=>CC j h
end LD
namespace LD
open PySem PySem.Spec PyProof.Rows
section
variable{prog:Q0}{w:Q2}{K:Type}[DecidableEq K]{knd:HeapKind prog w K}{A:RL}{E:Qo->Qr->Prop}{s:Qr}
def iP (knd:HeapKind prog w K)(h:Heap)(d:Addr)(xs:List (K×Addr×Qo)):Prop:=
 ∃o j,h.get? d=some o/\o.ExactDict/\o.data=.dict j xs.length/\j.toList=xs.map (entryOfKey knd)/\(∀x∈xs,knd.is h x.1 x.2.1)/\(xs.map (·.1)).Nodup
def iP.of (x:iP knd h d xs):h.DictOfH knd d xs:=let⟨o,j,r⟩:=x;{o,j,_,r}
def lA (O:knd.room A)(h:knd.is s.heap k a)(hm:iP knd s.heap d xs)
 (J:∀h',iP knd h' d (storedH xs k a v)->R8 d s.heap h'->Q () {s with heap:=h',toks:=s.toks+knd.draws k})
 (hsz:xs.length<=sizeLine) :
 wpAny (model prog w) A (dictSet d (.ref a) v) Q E s:=by
 obtain⟨o,P,ho,L,hd,H,z,hn⟩:=hm;unfold dictSet;try with_reducible refine tqo ?_
 refine tqa (knd.pyHash O h ?_);unfold dictSetHashed;try with_reducible refine tqo ?_
 refine tqa (wpAny_dictFind_heap O h ho hd H z hn ?_ ?_)
 ·intro B;have F:=not_mem_keys_of_get B;have e:=storedH_new (atKey_none_of_get B);refine tqa (wpAny_rule (wpAny_updateDictKeys (hz:=by have e:=size_of_entries H;omega) ho hd (J _ {_,_,Ro _ ho (Obj.isFreed_of_dict (Obj.data_mapDictKeys hd _)),
   L.mapDictKeys _,(Obj.data_mapDictKeys hd _).trans (by rw[e,Rp];rfl),?_,?_,?_} (RQ ..))))
  ·rw[e];simp[H,entryOfKey]
  ·rw[e];intro x u;rcases Rw.mp u with u|u
   ·exact knd.keeps (z x u) ho hd (RQ ..)
   ·simp only[QN] at u;subst u;exact knd.keeps h ho hd (RQ ..)
  ·rw[e];rw[Q8,List.nodup_append];refine{hn,`s,?_}
   intro x u y I;simp only[RI,List.map_nil,QN] at I;subst I;exact λe=>F (e ▸ u)
 ·intro j p M;have e:=storedH_old (atKey_of_get hn M);refine tqa (wpAny_rule (tqa (wpAny_updateDict ho hd (wpAny_point (J _ {_,_,Ro _ ho (Obj.isFreed_of_dict (Obj.data_mapDict hd _)),
   L.mapDict _,(Obj.data_mapDict hd _).trans (by rw[e,Qn]),?_,?_,?_} (RQ ..))))))
  ·rw[e];have:=modify_map_putAt (entryOfKey knd) (λe:RK=>{e with val:=v}) k v (λ_ _=>rfl) hn M
   rw[<- H] at this;obtain⟨l⟩:=P;simpa using this
  ·rw[e];intro x u;obtain⟨y,I,rfl⟩:=QC.mp u;unfold putAt;split<;>exact knd.keeps (z y I) ho hd (RQ ..)
  ·rw[e];rw[keys_map_putAt];exact hn
def xg (B:knd.room A.in1)(h:knd.is s.heap k a)(hm:iP knd s.heap d xs)
 (z:∀h',iP knd h' d (storedH xs k a v)->R8 d s.heap h'->Q () {s with heap:=h',toks:=s.toks+knd.draws k})
 (hsz:xs.length<=sizeLine) :
 wpAny (model prog w) A (setItem (.ref d) (.ref a) v) Q E s:=by
 have j:=hm.of.typeIs;unfold setItem;try with_reducible refine tqo ?_
 refine tqa (wpAny_sequenceKey j `d ?_)
 refine tqa (wpAny_callSpecial?_slot j slot_dict_setitem
  (wpAny_call_entry slot_dict_setitem j entry_dict_setitem ?_ (args_dict_setitem _ _ _)))
 refine tqa (wpAny_notOrdered_dict j ?_);show wpAny _ _ (dictSet d (.ref a) v >>= _) _ _ s;exact tqa (lA (hsz:=hsz) B h hm λh' u y=>tqb {.none,rfl,tqb (z h' u y)})
end
end LD
namespace LD
open PySem PySem.Spec PyProof.Rows L2
def Ho {K:Ql}(h:PySem.W.exmAny K c [d,d]=some true):PySem.W.exmOne K c d=some true:=by
 obtain⟨u,d1,e1,e2,v⟩:=PySem.W.exmAny_cons h;obtain⟨B,E,j,y,z⟩:=PySem.W.exmAny_cons e2;rw[e1] at j;cases j;cases y;cases u with
 |true=>exact e1
 |false=>subst z;cases v
section
variable{fa:Fa}{X:Cx}{pos np hp:Pos}{x1:Str}{k1:Nat}{body suite:List Stmt}{b0:Stmt}{gB gH:GS}
set_option tactic.hygienic true in
def Cf (h2:wO fa X.K X.mg x1 x1 k1 k1)(hex:X.ex=[])(L:X.stack=X.env::X.outer)(hfr:X.env.frame=some X.env.locals)
 (hg:Gl X x1) (hdb:(x1==("__debug__":Str))=false) (S:∀pn E,kD fa (sm X pn E) body gB) (hh:∀v E,kD fa (so X v E) (b0::suite) gH) :
 DS fa X (.Try body [.ExceptHandler (some (.Name x1 np)) none (b0::suite) hp] [] [] pos) (lW gB k1 k1 gH):=by
 intro J s σ H D' I ⟨μ,Z,M,hE,hM,h⟩;obtain⟨D1,D2,m1,m2,hm⟩:=h2;obtain rfl:D1=D2:=by rw[m1] at m2;cases m2;rfl
 obtain⟨fl,M1,e,q⟩:=az h;refine wpAny_Try_except (wpAny_mono (S (X.pn++J) (λe s₁=>wpAny (model X.prog X.w) X.A (noteFrame e X.env) (λ_ s₂=>wpAny (model X.prog X.w) X.A (setFlight e none) (λ_ s₃=>wpAny (model X.prog X.w) X.A (handleBy e X.env [.ExceptHandler (some (.Name x1 np)) none (b0::suite) hp]) (SP X J D') X.xe s₃) X.xe s₂) X.xe s₁) [] s σ H D' (AG I _) {μ,Z,M,hE,hM,?_}) (λf s1 z=>?_) λ_ _ z=>z)
 ·rw[e];cases fl with
  |next ρ'=>exact q
  |ret d=>exact q
  | exc y ρ1 =>
    intro pins' σ' H' μ' s' a C dx c p Q ye hE1 hM1 ey hcC hn fl;refine vU (by rw[<- L];exact Q.ok.frames) (by rw[<- L];exact Q.stack) hfr fl (λb z=>(oF Q hex (SN z)).1) Q.hok (by rw[<- L];exact Q.stkFree) λh' ch P u hok R=>?_
    have O:=C4 (ij Q) (λb S=>{(P b S).1.1,(P b S).2.2,(P b S).1.2}) (by rw[L];exact u) hok
    obtain⟨nw,ha,o,vs,h1,h2,h3,h4,tr⟩:=id R;have Y:PySem.W.notCls o=true:=by unfold PySem.W.notCls;rw[h4]
    subst ey;have U:c=k1\/c=k1:=by
     by_cases z:c=k1\/c=k1
     ·exact z
     ·unfold lQ at q;dsimp only at q;rw[if_neg z] at q;exact q.elim
    unfold lQ at q;dsimp only at q;rw[if_pos U] at q;obtain⟨fl3,M2,e3,q3⟩:=az q;have IA:∃od,PySem.W.InstAt h' a o C od:=by
     cases p with
     | none =>
       exact{none,h1,h2,Y,by rw[h3,hn];trivial}
     | some k =>
       obtain⟨d,rfl,hd⟩:=hn;obtain⟨mA,⟨od,es,ep,ed,_⟩,_⟩:=hok d _ hd;exact{some od,h1,h2,Y,by rw[h3];exact ed}
    obtain⟨od,IA⟩:=IA;refine wpAny_handleBy_cons (codeAny_handlers_test (f7 (rB O (.ref a) X.xe) hg m1 ?_ hdb)) (by intro z;cases z)
    refine(PySem.W.exm_one O.kIn IA.type (Ho (hm c C U hcC))).at ?_;refine codeAny_handlers_suite (xW R ?_);refine wpAny_mono (hh (.ref a) _ J _ σ' H' D' (rB O (.ref a) _) {μ',_,M1,hE1,hM1,?_}) (λf s5 z=>?_) λ_ _ z=>z
    ·rw[e3];cases fl3 with
     |next ρ2=>exact λσ2 H2 μ2 x2 hE2 hM2=>q3 σ2 H2 μ2 (ye.trans x2) hE2 hM2
     |ret d=>exact aX.ext q3 ye
     |exc=>exact q3.elim
    ·dsimp only;cases f with
     | next =>
       obtain⟨j,B,F,z⟩:=z;exact{_,B,jB O.ok.hd F,z}
     | ret u =>
       obtain⟨v,j,B,F,r5,z⟩:=z;exact{v,_,B,jB O.ok.hd F,r5,z}
     |brk=>obtain⟨_,B,F,z⟩:=z;exact{_,B,jB O.ok.hd F,z}
     |cont=>obtain⟨_,B,F,z⟩:=z;exact{_,B,jB O.ok.hd F,z}
 ·cases f with
  |next=>obtain⟨j,B,F,z⟩:=z;exact wpAny_execs_nil {j,B,ij F,z}
  |ret u=>obtain⟨v,j,B,F,r5,z⟩:=z;exact{v,j,B,ij F,r5,z}
  |brk=>obtain⟨j,B,F,z⟩:=z;exact{j,B,ij F,z}
  |cont=>obtain⟨j,B,F,z⟩:=z;exact{j,B,ij F,z}
end
def jW (c:GT)(b:GS):Nat->Env->Mem->Res Fl
 |0,_,_=>.bad
 | n + 1, h, M => (c h M).bind λk M => if k then(b h M).bind λfl M => (match fl with
   |.next h=>jW c b n h M
   |fl=>.ok fl M) else .ok (.next h) M
def lV (c:GT)(b:GS):GS:=λh M=>jW c b 100000 h M
section
variable{fa:Fa}{X:Cx}{c:Expr}{body:List Stmt}{gc:GT}{gb:GS}{pos:Pos}
set_option tactic.hygienic true in
def Gp (hp:PassesOwn (model X.prog X.w) X.A X.env X.xe)(hc:DT fa X c gc)(hb:kD fa X body gb):DS fa X (.While c body [] pos) (lV gc gb):=
 da (Cq hp hc hb) λD' σ H ⟨L,Z,M,hE,hM,h⟩=>by
  refine{λm v y=>∃j u B,Ext L H j y/\bc fa X.K j y v u/\RelM fa X.K j y B/\ae (jW gc gb m u B) (lP fa X L H D'),{100000,L,Z,M,.refl,hE,hM,h},?_};rintro m σ2 H2 ⟨μ2,P,M2,R,E,U,q2⟩;cases m with
  |zero=>exact q2.elim
  | succ m =>
    obtain⟨k,M3,e3,q3⟩:=az q2;refine{μ2,P,M2,E,U,?_};rw[e3];intro H3 O J I;have F:=E.ext J;cases k with
    |false=>exact q3 σ2 H3 O (R.trans J) F I
    | true =>
      obtain⟨fl,M4,e4,Y⟩:=az q3;refine{λv y=>∃j u B,Ext L H j y/\bc fa X.K j y v u/\RelM fa X.K j y B/\ae (jW gc gb m u B) (lP fa X L H D'),λv y z=>{m,Nat.lt_succ_self m,z},O,P,M3,F,I,?_};rw[e4];cases fl with
      |next Q=>exact λσ6 H6 μ6 x6 S W=>{μ6,Q,M4,(R.trans J).trans x6,S,W,Y}
      |ret d6=>exact aX.ext Y (R.trans J)
      |exc x6 Q=>exact XW.ext Y (R.trans J)
end
def wj {K:Ql}:∀{ds:List D}{vs:List V}{us:List Qo}{ks:List Int},aG fa K μ H ds vs->Vals vs us->intsOf ds=some ks->ItemsAre (intKind prog w) ks us
 | [], vs, us, ks, h, r, e => by
   obtain rfl:vs=[]:=h;cases r;cases e;exact .nil
 | .int i :: ds, vs, us, ks, h, r, e => by
   obtain⟨v,vr,rfl,p,q⟩:=h;cases r with
   | cons r1 r2 =>
     obtain⟨k,j,e⟩:=Qv.mp e;subst e;obtain rfl:v=.int i:=p;obtain⟨t,rfl⟩:=r1;exact .cons (by simp[intKind,Value.isInt]) (wj q r2 j)
 |.non::_,_,_,_,_,_,e=>by cases e
 |.bl _::_,_,_,_,_,_,e=>by cases e
 |.str _::_,_,_,_,_,_,e=>by cases e
 |.tup _::_,_,_,_,_,_,e=>by cases e
 |.lst _::_,_,_,_,_,_,e=>by cases e
 |.frz _::_,_,_,_,_,_,e=>by cases e
 |.cell _::_,_,_,_,_,_,e=>by cases e
 |.fn _::_,_,_,_,_,_,e=>by cases e
 |.exc _ _::_,_,_,_,_,_,e=>by cases e
section
variable{fa:Fa}{X:Cx}{pins:List (Addr×Obj)}{σ:L2.St}{H:Hp}{s:Qr}{μ:Mu}
def ze (I:Inv X pins σ H s)(r:Rep fa X.K μ H (.tup ds) (.ref b)):∃vs h o n,aG fa X.K μ H ds vs/\Vals vs h/\s.heap.get? b=some o/\o.cls=.type "tuple"/\o.data=.seq h.toArray n:=by
 obtain⟨a,vs,e,j,u⟩:=r;cases e;obtain⟨h,v,p,_⟩:=I.tuple j;obtain⟨o,h1,h2,n,h3⟩:=p;exact⟨vs,h,o,n,u,v,h1,h2,h3⟩
def wg (I:Inv X pins σ H s)(r:Rep fa X.K μ H d (.ref b))(e:mi d=some ks):TK X.prog X.w s.heap ks b:=by
 cases d with
 | tup v =>
   obtain⟨y,h,o,n,j,u,h1,h2,h3⟩:=ze I r;exact{o,h.toArray,n,h1,h2,h3,by simpa using wj j u e}
 |_=>cases e
def ud (I:Inv X pins σ H s):∀{ds:List D}{vs:List V}{us:List Qo}{j:List (List Int)},aG fa X.K μ H ds vs->Vals vs us->jy ds=some j->iw X.prog X.w s.heap j us
 | [], vs, us, j, h, r, e => by
   obtain rfl:vs=[]:=h;cases r;cases e;exact .nil
 | d :: ds, vs, us, j, h, r, e => by
   obtain⟨v,vr,rfl,p,q⟩:=h;cases r with
   | cons r1 r2 =>
     obtain⟨k,y,e⟩:=Rl.mp e;obtain⟨E,u,e⟩:=Qv.mp e;subst e;cases d with
     | tup z =>
       obtain⟨a,J,rfl,B,F⟩:=id p;obtain rfl:=(r1);exact .cons (wg I p y) (ud I q r2 u)
     |_=>cases y
def He (I:Inv X pins σ H s)(r:Rep fa X.K μ H d (.ref b))(e:qt d=some kss):NK X.prog X.w s.heap kss b:=by
 cases d with
 | tup v =>
   obtain⟨y,h,o,n,j,u,h1,h2,h3⟩:=ze I r;exact{o,h.toArray,n,h1,h2,h3,by simpa using ud I j u e}
 |_=>cases e
end
def um:∀{a b:List D}{x y:List Int},intsOf a=some x->intsOf b=some y->dM a b=decide (x=y)/\(x=y->a=b)
 |[],[],_,_,e,f=>by cases e;cases f;exact{rfl,λ_=>rfl}
 | [], .int j :: b, _, _, e, f => by
   obtain⟨_,_,rfl⟩:=Qv.mp f;cases e;exact{by simp[dM],λz=>by cases z}
 | .int i :: a, [], _, _, e, f => by
   obtain⟨_,_,rfl⟩:=Qv.mp e;cases f;exact{by simp[dM],λz=>by cases z}
 | .int i :: a, .int j :: b, _, _, e, f => by
   obtain⟨x,e1,rfl⟩:=Qv.mp e;obtain⟨y,f1,rfl⟩:=Qv.mp f;obtain⟨h1,h2⟩:=um e1 f1;refine{?_,λz=>?_}
   ·show(i==j&&dM a b)=_;rw[h1];by_cases z:i=j<;>simp[z]
   ·cases z;rw[h2 rfl]
 |.non::_,_,_,_,e,_=>by cases e
 |.bl _::_,_,_,_,e,_=>by cases e
 |.str _::_,_,_,_,e,_=>by cases e
 |.tup _::_,_,_,_,e,_=>by cases e
 |.lst _::_,_,_,_,e,_=>by cases e
 |.frz _::_,_,_,_,e,_=>by cases e
 |.cell _::_,_,_,_,e,_=>by cases e
 |.fn _::_,_,_,_,e,_=>by cases e
 |.exc _ _::_,_,_,_,e,_=>by cases e
 |_,.non::_,_,_,_,e=>by cases e
 |_,.bl _::_,_,_,_,e=>by cases e
 |_,.str _::_,_,_,_,e=>by cases e
 |_,.tup _::_,_,_,_,e=>by cases e
 |_,.lst _::_,_,_,_,e=>by cases e
 |_,.frz _::_,_,_,_,e=>by cases e
 |_,.cell _::_,_,_,_,e=>by cases e
 |_,.fn _::_,_,_,_,e=>by cases e
 |_,.exc _ _::_,_,_,_,e=>by cases e
def oE (e:mi d=some x):∃ds,d=.tup ds/\intsOf ds=some x:=by
 cases d with
 |tup ds=>exact⟨ds,rfl,e⟩
 |_=>cases e
def uf (e:mi a=some x)(f:mi b=some y):bG a b=decide (x=y)/\(x=y->a=b):=by
 obtain⟨h,rfl,e⟩:=oE e;obtain⟨bs,rfl,f⟩:=oE f;obtain⟨h1,h2⟩:=um e f;exact{h1,λz=>by rw[h2 z]}
def rn:∀{a b:List D}{x y:List (List Int)},jy a=some x->jy b=some y->dM a b=decide (x=y)/\(x=y->a=b)
 |[],[],_,_,e,f=>by cases e;cases f;exact{rfl,λ_=>rfl}
 | [], d :: b, _, _, e, f => by
   obtain⟨_,_,f⟩:=Rl.mp f;obtain⟨_,_,rfl⟩:=Qv.mp f;cases e;exact{by simp[dM],λz=>by cases z}
 | d :: a, [], _, _, e, f => by
   obtain⟨_,_,e⟩:=Rl.mp e;obtain⟨_,_,rfl⟩:=Qv.mp e;cases f;exact{by simp[dM],λz=>by cases z}
 | d :: a, j :: b, _, _, e, f => by
   obtain⟨k,u,e⟩:=Rl.mp e;obtain⟨x,e1,rfl⟩:=Qv.mp e;obtain⟨E,h,f⟩:=Rl.mp f;obtain⟨y,f1,rfl⟩:=Qv.mp f;obtain⟨v,B⟩:=uf u h;obtain⟨h1,h2⟩:=rn e1 f1;refine{?_,λz=>?_}
   ·show(bG d j&&dM a b)=_;rw[h1,v];by_cases z:k=E<;>simp[z]
   ·cases z;rw[h2 rfl,B rfl]
def CY (e:qt a=some x)(f:qt b=some y):bG a b=decide (x=y)/\(x=y->a=b):=by
 cases a with
 | tup h =>
   cases b with
   | tup bs =>
     obtain⟨h1,h2⟩:=rn e f;exact{h1,λz=>by rw[h2 z]}
   |_=>cases f
 |_=>cases e
structure KD (X:Cx) (c:Int) where
 K:Type
 dq:DecidableEq K
 knd:HeapKind X.prog X.w K
 dec:D->Option K
 hash:∀d,nk c d=(dec d).map knd.hash
 is:∀{fa:Fa}{μ:Mu}{H:Hp}{pins:List (Addr×Obj)}{σ:L2.St}{s:Qr}{d:D}{b:Addr}{k:K},Inv X pins σ H s->Rep fa X.K μ H d (.ref b)->dec d=some k->knd.is s.heap k b
 beq:∀{a b:D}{x y:K},dec a=some x->dec b=some y->bG a b=decide (x=y)/\(x=y->a=b)
 ref:∀{fa:Fa}{μ:Mu}{H:Hp}{d:D}{v:V}{k:K},Rep fa X.K μ H d v->dec d=some k->∃b,v=.ref b
 room:Rm X->knd.room X.A.in1
 room0:Rm X->knd.room X.A
def KD.f (X:Cx):KD X 77 where
 K:=List Int
 dq:=inferInstance
 knd:=tupleKind (intKind X.prog X.w)
 dec:=mi
 hash:=λd=>by unfold nk;rw[if_pos rfl];rfl
 is:=λI r e=>wg I r e
 beq:=λe f=>uf e f
 ref:=λr e=>by
  obtain⟨j,rfl,_⟩:=oE e;obtain⟨a,_,rfl,_⟩:=r;exact⟨a,rfl⟩
 room:=λh=>by show X.A.units+1<cLine;unfold Rm at h;omega
 room0:=λh=>by show X.A.units<cLine;unfold Rm at h;omega
def KD.n (X:Cx):KD X 78 where
 K:=List (List Int)
 dq:=inferInstance
 knd:=J9 X.prog X.w
 dec:=qt
 hash:=λd=>by unfold nk;rw[if_neg `d,if_pos rfl];rfl
 is:=λI r e=>He I r e
 beq:=λe f=>CY e f
 ref:=λ{fa μ H d v k} r e=>by
  cases d with
  | tup j =>
    obtain⟨a,_,rfl,_⟩:=r;exact⟨a,rfl⟩
  |_=>cases e
 room:=λh=>by show X.A.units+1+2<cLine;unfold Rm at h;omega
 room0:=λh=>by show X.A.units+2<cLine;unfold Rm at h;omega
noncomputable instance kdq {X:Cx}{c:Int} (kd:KD X c):DecidableEq kd.K:=kd.dq
noncomputable def ib (p:D×D):D:=.tup [p.1,p.2]
section
variable{fa:Fa}{X:Cx}{pins:List (Addr×Obj)}{σ:L2.St}{H:Hp}{s:Qr}{μ:Mu}{c:Int}{kd:KD X c}{kvs:List (D×D)}
abbrev DP (fa:Fa)(X:Cx)(μ:Mu)(H:Hp){c:Int}(kd:KD X c):List (D×D)->List (kd.K×Addr×Qo)->Prop:=R7 λp x=>kd.dec p.1=some x.1/\Rep fa X.K μ H p.1 (.ref x.2.1)/\∃v,RelV v x.2.2/\Rep fa X.K μ H p.2 v
def KD.xs (kd:KD X c):∀{kvs:List (D×D)}{es:List RK},R7 (mO fa X.K μ H c) kvs es->∃xs,es=xs.map (entryOfKey kd.knd)/\DP fa X μ H kd kvs xs
 |_,_,.nil=>{[],rfl,.nil}
 | _, _, .cons ⟨b, v, e1, e2, h, j, u⟩ r => by
   obtain⟨xs,rfl,q⟩:=KD.xs kd r;rw[kd.hash] at e2;obtain⟨k,z,y⟩:=Qv.mp e2;refine{(k,b,_)::xs,?_,.cons ⟨z,h,v,j,u⟩ q};rw[RI]
   congr 1
   unfold entryOfKey;rw[y,<- e1]
def KD.back {xs:List (kd.K×Addr×Qo)}:∀{kvs:List (D×D)},DP fa X μ H kd kvs xs->R7 (mO fa X.K μ H c) kvs (xs.map (entryOfKey kd.knd)):=by
 intro kvs h;induction h with
 |nil=>exact .nil
 |cons r _ j=>exact .cons (let⟨h1,h2,v,h3,h4⟩:=r;{_,v,rfl,by rw[kd.hash,h1];rfl,h2,h3,h4}) j
def DP.mem (h:DP fa X μ H kd kvs xs)(m:x∈xs):∃p∈kvs,kd.dec p.1=some x.1/\Rep fa X.K μ H p.1 (.ref x.2.1):=by
 induction h with
 |nil=>cases m
 | cons r _ u =>
   rcases Q1.mp m with rfl|m
   ·exact{_,QB,r.1,r.2.1}
   ·obtain⟨p,j,q⟩:=u m;exact{p,Qu _ j,q}
def DP.nodup (h:DP fa X μ H kd kvs xs)(n:(kvs.map (·.1)).Nodup):(xs.map (·.1)).Nodup:=by
 induction h with
 |nil=>exact List.nodup_nil
 | @cons p x ps B r t u =>
   rw[RI,RY] at n ⊢;refine{λm=>n.1 ?_,u n.2};obtain⟨y,z,j⟩:=QC.mp m;obtain⟨q,v,e1,_⟩:=DP.mem t z;have:=(kd.beq r.1 e1).2 j.symm;rw[this];exact QC.mpr ⟨q,v,rfl⟩
def KD.dict {xs:List (kd.K×Addr×Qo)}(I:Inv X pins σ H s)(e:H a=some (.dn (xs.map (entryOfKey kd.knd))))(h:DP fa X μ H kd kvs xs)(n:(kvs.map (·.1)).Nodup):(a==sysModules)=false/\xs.length<=sizeLine/\iP kd.knd s.heap a xs:=by
 obtain⟨z,y,o,h1,h2,h3⟩:=(I.hok a _ e);refine{y,by simpa using z,o,_,h1,h2,by rw[h3,Qn],`s,λx j=>?_,h.nodup n}
 obtain⟨p,_,e1,e2⟩:=h.mem j;exact kd.is I e2 e1
def DP.look (h:DP fa X μ H kd kvs xs)(y:kd.dec k=some kk):(cx (kvs.map ib) k=none/\atKey xs kk=none)\/∃d b v u,cx (kvs.map ib) k=some d/\atKey xs kk=some (b,u)/\RelV v u/\Rep fa X.K μ H d v:=by
 induction h with
 |nil=>exact .inl ⟨rfl,rfl⟩
 | @cons p x ps B r t j =>
   obtain⟨h1,h2,v,h3,h4⟩:=r;have b:=(kd.beq h1 y).1;unfold cx atKey at j ⊢;rw[RI,List.find?_cons,List.find?_cons];rw[show bG (cK (ib p)) k=decide (x.1=kk) from b];by_cases z:x.1=kk
   ·rw[decide_eq_true z];exact .inr ⟨p.2,x.2.1,v,x.2.2,rfl,rfl,h3,h4⟩
   ·rw[decide_eq_false z];exact j
def jP (kvs:List (D×D))(k d:D):List (D×D):=if (cx (kvs.map ib) k).isSome then kvs.map (λp=>if bG p.1 k then(p.1,d) else p) else kvs++[(k,d)]
def JH (kvs:List (D×D))(k d:D):(jP kvs k d).map ib=putD (kvs.map ib) k d:=by
 unfold jP putD;split
 ·rw[QZ,QZ];refine Rr λp _=>?_;show ib (if bG p.1 k then(p.1,d) else p)=if bG p.1 k then _ else _;split<;>rfl
 ·rw[Q8];rfl
def zN (kvs:List (D×D))(k d:D):(jP kvs k d).map (·.1)=if (cx (kvs.map ib) k).isSome then kvs.map (·.1) else kvs.map (·.1)++[k]:=by
 unfold jP;split
 ·rw[QZ];refine Rr λp _=>?_;show(if bG p.1 k then(p.1,d) else p).1=p.1;split<;>rfl
 ·rw[Q8];rfl
set_option tactic.hygienic true in
def DP.put (h:DP fa X μ H kd kvs xs)(j:kd.dec k=some kk)(F:Rep fa X.K μ H k (.ref b))(y:RelV v u)(rd:Rep fa X.K μ H d v):DP fa X μ H kd (jP kvs k d) (storedH xs kk b u):=by
 have e:(cx (kvs.map ib) k).isSome=(atKey xs kk).isSome:=by
  rcases h.look j with⟨h1,h2⟩|⟨_,_,_,_,h1,h2,_⟩<;>rw[h1,h2]<;>rfl
 unfold jP storedH;rw[e];split
 ·next hs=>
  clear e hs;induction h with
  |nil=>exact .nil
  | @cons p x ps I r t E =>
    refine .cons ?_ E;have B:=(kd.beq r.1 j).1;unfold putAt;dsimp only;rw[B];by_cases z:x.1=kk
    ·rw[decide_eq_true z,if_pos z,if_pos rfl];exact⟨r.1,r.2.1,v,y,rd⟩
    ·rw[decide_eq_false z,if_neg z,if_neg QP];exact r
 ·exact Paired.snoc h ⟨j,F,v,y,rd⟩
set_option tactic.hygienic true in
def DP.keys (h:DP fa X μ H kd kvs xs)(n:(kvs.map (·.1)).Nodup)(j:kd.dec k=some kk):((jP kvs k d).map (·.1)).Nodup:=by
 rw[zN];split
 ·exact n
 ·next z=>
  refine List.nodup_append.mpr {n,`s,λa v b y q=>z ?_}
  obtain rfl:=QN.mp y;subst q;obtain⟨p,B,u⟩:=QC.mp v;rw[cx,R3,List.find?_isSome];refine{ib p,QC.mpr ⟨p,B,rfl⟩,?_};show bG p.1 a=true;rw[u,(kd.beq j j).1];exact decide_eq_true rfl
end
def cZ (a b:GE):GE:=λh M=>(a h M).bind λx M=>(b h M).bind λk M=>match x with
 |.fn o=>b9 M (getD M o k)
 |_=>.bad
def jb (n:Bool)(a b:GE):GE:=λh M=>(a h M).bind λk M=>(b h M).bind λx M=>match x with
 | .fn o => (match inD M o k with
   |some r=>.ok (.bl (n != r)) M
   |none=>.bad)
 |_=>.bad
def iD (a b d:GE):GS:=λh M=>(d h M).bind λz M=>(a h M).bind λx M=>(b h M).bind λk M=>match x with
 | .fn o => (match bq M o with
   |some q=>if isKey q.1 k=true/\q.2.length<1000000 then .ok (.next h) (M.set (o-5000) (.int q.1::putD q.2 k z)) else .bad
   |none=>.bad)
 |_=>.bad
noncomputable def xV (c:Int):GE:=λ_ M=>.ok (.fn (aB M.length)) (M++[[.int c]])
structure eB (fa:Fa):Prop where
 of:∀o,5000<=o->fa o=none
 n77:fa (jv 77)=none
 n78:fa (jv 78)=none
section
variable{fa:Fa}{K:Ql}{μ:Mu}{H:Hp}{M:Mem}
def Ext.dic (h:RelM fa K μ H M)(v:H a=some (.dn es)):Ext μ H μ (upd H a (.dn es')):=by
 have ne:∀{b o},H b=some o->(∀es,o≠.dn es)->b≠a:=λg n z=>by rw[z,v] at g;cases g;exact n _ rfl
 refine{{λ_ _ q=>q,λb j g=>?_,λb j g n=>{by rw[ao (ne g (λ_ z=>by cases z))];exact g,n},λb ob u g=>by rw[ao (ne g (λ_ z=>by cases z))];exact g,λb o i g=>?_,λ_ _ q=>q},rfl,λb y=>?_}
 ·rcases g with g|⟨ob,g⟩
  ·exact .inl (by rw[ao (ne g (λ_ z=>by cases z))];exact g)
  ·exact .inr {ob,by rw[ao (ne g (λ_ z=>by cases z))];exact g}
 ·rw[ao (ne g (λ_ z=>by rcases i with⟨_,i⟩|⟨_,i⟩<;>(rw[i] at z;cases z)))];exact g
 ·obtain⟨⟨j,g⟩,_⟩:=h.pv b y;rw[ao (ne g (λ_ z=>by cases z))]
def RelM.dicW (h:RelM fa K μ H M)(e:M[k]?=some ds)(v:μ.ob (aB k)=some a)(I:H a=some (.dn es))(new:jl fa K μ (upd H a (.dn es')) a y):RelM fa K μ (upd H a (.dn es')) (M.set k y):=by
 have x:Ext μ H μ (upd H a (.dn es')):=Ext.dic h I;refine{λj B q=>?_,λj u=>h.out j (by simpa using u),λj u=>h.oout j (by simpa using u),h.inj,h.oinj,h.sep,λb E=>{let{⟨F,g⟩,_}:=h.pv b E;{F,by rw[x.pk b E];exact g},(h.pv b E).2}}
 by_cases u:j=k
 ·subst u;rw[Rk (Qm.mp e).1] at q;cases q;refine .inr {a,v,?_,new};cases z:μ.pub j with
  |none=>rfl
  |some b=>rw[h.sep j b z] at v;cases v
 ·rw[QH (Ru u)] at q;rcases h.at' j B q with⟨b,F,h1,h2,h3⟩|⟨b,h1,h2,h3⟩
  ·exact .inl {b,F,h1,by rw[ao (λz=>by rw[z,I] at h2;cases h2)];exact h2,h3.ext x}
  ·exact .inr {b,h1,h2,h3.extW x.toExtW (ao λz=>u (h.oinj _ _ a (z ▸ h1) v))}
set_option tactic.hygienic true in
def Ext.dicNew (h:RelM fa K μ H M)(u:H x=none):Ext μ H (nj μ M.length x) (upd H x (.dn [])):=by
 have e:Ext μ H μ (upd H x (.dn [])):=Ext.alloc h u;refine{{e.mu,e.tups,λb v g n=>{(e.lsts b v g n).1,n},e.frzs,e.exts,λj b z=>?_},rfl,e.pk};show(if j=aB M.length then some x else μ.ob j)=some b;split
 ·next q=>rw[q,h.oout _ (Qt _)] at z;cases z
 ·exact z
set_option tactic.hygienic true in
def RelM.dicNew {c:Int}(h:RelM fa K μ H M)(v:H x=none)(L:c=77\/c=78):RelM fa K (nj μ M.length x) (upd H x (.dn [])) (M++[[.int c]]):=by
 have X:=Ext.dicNew h v;have old:∀{b o},H b=some o->(upd H x (.dn [])) b=some o:=λg=>by rw[ao (aV g v)];exact g
 have pc:∀{k b},(nj μ M.length x).ob (aB k)=some b->(k=M.length/\b=x)\/μ.ob (aB k)=some b:=λ{k b} z=>by
  have z:(if aB k=aB M.length then some x else μ.ob (aB k))=some b:=z;split at z
  ·next q=>cases z;exact .inl {Nat.add_left_cancel q,rfl}
  ·exact .inr z
 refine{λk J q=>?_,λk u=>h.out k (by simp at u;omega),λk u=>?_,h.inj,λj k b e1 e2=>?_,λk b z=>?_,λb F=>{?_,(h.pv b F).2}}
 ·by_cases u:k<M.length
  ·rw[QA u] at q;rcases h.at' k J q with⟨b,E,h1,h2,h3⟩|⟨b,h1,h2,h3⟩
   ·exact .inl {b,E,h1,old h2,h3.ext X}
   ·exact .inr {b,X.obs _ _ h1,h2,h3.extW X.toExtW (by obtain⟨o,e,_⟩:=h3.hold;rw[old e,e])}
  ·have B:k=M.length:=by
    have:=(Qm.mp q).1;simp at this;omega
   subst B;rw[QY (Qt _)] at q;simp at q;subst q;exact .inr {x,by show(if aB M.length=aB M.length then some x else _)=some x;rw[if_pos rfl],h.out _ (Qt _),.inr {c,[],[],bA,L,rfl,.nil,List.nodup_nil}}
 ·show(if aB k=aB M.length then some x else μ.ob (aB k))=none;simp at u;rw[if_neg (λz=>by have:=Nat.add_left_cancel z;omega)]
  exact h.oout k `a
 ·rcases pc e1 with⟨a1,a2⟩|a1<;>rcases pc e2 with⟨y,I⟩|y
  ·omega
  ·subst a2;obtain⟨_,z⟩:=h.ob_ins y;rw[v] at z;cases z
  ·subst I;obtain⟨_,z⟩:=h.ob_ins a1;rw[v] at z;cases z
  ·exact h.oinj j k b a1 y
 ·show(if aB k=aB M.length then some x else μ.ob (aB k))=none;have z:μ.pub k=some b:=z;rw[if_neg (λq=>by rw[Nat.add_left_cancel q,h.out _ (Qt _)] at z;cases z)]
  exact h.sep k b z
 ·obtain⟨⟨E,g⟩,_⟩:=h.pv b F;exact{E,old g}
end
section
variable{fa:Fa}{X:Cx}{pins:List (Addr×Obj)}{σ:L2.St}{H:Hp}{s:Qr}{μ:Mu}{M:Mem}
set_option tactic.hygienic true in
def lg {c:Int}(h:isKey c d=true)(kd:KD X c):∃kk,kd.dec d=some kk:=by
 have e:(nk c d).isSome=true:=by
  unfold isKey at h;unfold nk;split at h
  ·next z=>rw[if_pos z,R3];exact h
  ·next z=>
   rw[if_neg z];split at h
   ·next y=>rw[if_pos y,R3];exact h
   ·cases h
 rw[kd.hash,R3] at e;exact SO.mp e
def MV {c:Int}(X:Cx)(h:c=77\/c=78):Nonempty (KD X c):=by
 rcases h with rfl|rfl
 ·exact{KD.f X}
 ·exact{KD.n X}
set_option tactic.hygienic true in
def ku (hd:eB fa)(I:Inv X pins σ H s)(L:RelM fa X.K μ H M)(r:Rep fa X.K μ H (.fn o) v)(e:bq M o=some q) :
 ∃(a:Addr) (kd:KD X q.1) (h:List (D×D)) (xs:List (kd.K×Addr×Qo)),v=.ref a/\5000<=o/\μ.ob o=some a/\M[o-5000]?=some (.int q.1::q.2)/\H a=some (.dn (xs.map (entryOfKey kd.knd)))/\(q.1=77\/q.1=78)/\q.2=h.map ib/\DP fa X μ H kd h xs/\(h.map (·.1)).Nodup:=by
 unfold bq at e;split at e
 ·next ho=>
  split at e
  ·next c Q B=>
   split at e
   ·next z=>
    cases e;obtain⟨a,rfl,j⟩:=r;rcases j with j|⟨_,j⟩
    ·rw[hd.of o ho] at j;cases j
    have E:aB (o-5000)=o:=Nat.add_sub_cancel' ho;rcases L.at' _ _ B with⟨b,R,h1,_⟩|⟨b,h1,h2,⟨n,C,P,fs,y,h3,h4,F,u,J⟩|⟨O,y,h,h3,h4,F,u,J⟩⟩
    ·have:=L.sep _ _ h1;rw[E,j] at this;cases this
    ·have u:=(List.cons.inj u).1;have u:=D.int.inj u;rcases z with rfl|rfl
     ·have:n=77:=`a
      rw[this,hd.n77] at h3;cases h3
     ·have:n=78:=`a
      rw[this,hd.n78] at h3;cases h3
    ·rw[E,j] at h1;cases h1;obtain⟨e1,e2⟩:=List.cons.inj F;cases D.int.inj e1;obtain⟨kd⟩:=MV X z;obtain⟨xs,rfl,dp⟩:=kd.xs u;exact⟨a,kd,h,xs,rfl,ho,j,B,h3,z,e2,dp,J⟩
   ·cases e
  ·cases e
 ·cases e
def rDG (fa:Fa)(K:Ql):R2:=λx y H Q=>∃μ M o h d,RelM fa K μ H M/\Rep fa K μ H (.fn o) x/\Rep fa K μ H h y/\getD M o h=some d/\aX fa K μ H Q d M
set_option tactic.hygienic true in
def MW (hu:Rm X)(hd:eB fa):jK X (rDG fa X.K):=by
 intro E B pins s σ H x y v u Q I rx ry h hs;obtain⟨μ,M,o,dy,d,P,r1,r2,e,q⟩:=h;obtain⟨qq,e1,e2⟩:=Rl.mp e;split at e2
 ·next Y=>
  obtain⟨a,J,kvs,xs,rfl,ho,ha,em,W,hc,U,dp,nd⟩:=ku hd I P r1 e1;obtain⟨kk,L⟩:=lg Y J;obtain⟨b,rfl⟩:=J.ref r2 L;obtain⟨ys,hz,O⟩:=KD.dict I W dp nd;obtain rfl:v=Value.ref a:=rx;obtain rfl:u=Value.ref b:=ry;rw[U] at e2;rcases dp.look L with⟨z,_⟩|⟨d',b',v',u',z,g,ru,rd⟩
  ·rw[z] at e2;cases e2
  ·rw[z] at e2;cases e2;have R:=O.of.typeIs;have h2:wpAny (model X.prog X.w) X.A (getItem (.ref a) (.ref b)) (EP X pins σ Q) X.xe s:=wpAny_getItem_heap (J.room hu) (J.is I r2 L) O.of g {v',H,I.tok _,ru,aM P q rd};refine tqa ?_;rw[getitemInPython_of_ne R.not_modules];refine tqa (wpAny_specialOf R PySem.F.slot_dict_getitem.lookup ?_);have j:wpAny (model X.prog X.w) X.A (subscripted B false (.ref a) (.ref b)) (λr S=>wpAny (model X.prog X.w) X.A (letTemporaryGo E (.ref a) r >>= λ_=>pure r) (EP X pins σ Q) X.xe S) X.xe s:=by
    rw[hs];exact wpAny_operating (wpAny_mono h2 (λr S h3=>tqa (wpAny_letTemporaryGo (tqb h3))) λ_ _ x=>x)
   first
    |exact tqb (tqa j)
    |exact tqa (tqb (tqa j))
    |exact tqa j
 ·cases e2
def rDI (fa:Fa)(K:Ql)(n:Bool):R2:=λx y H Q=>∃μ M o h b,RelM fa K μ H M/\Rep fa K μ H h x/\Rep fa K μ H (.fn o) y/\inD M o h=some b/\Q (.bl (n != b)) H
set_option tactic.hygienic true in
def Fc (F:Rm X)(hd:eB fa)(n:Bool):bF X (compareOp (if n then .NotIn else .In)) (rDI fa X.K n):=by
 intro pins s σ H x y v u Q I U W h;obtain⟨μ,M,o,L,b,R,r1,r2,e,q⟩:=h;obtain⟨qq,e1,e2⟩:=Rl.mp e;split at e2
 ·next S=>
  obtain⟨a,j,B,xs,rfl,ho,ha,Y,P,hc,O,dp,nd⟩:=ku hd I R r2 e1;obtain⟨kk,z⟩:=lg S j;obtain⟨c,rfl⟩:=j.ref r1 z;obtain⟨J,hz,E⟩:=KD.dict I P dp nd;obtain rfl:v=Value.ref c:=U;obtain rfl:u=Value.ref a:=W;rw[O] at e2;cases e2;have eq:(cx (B.map ib) L).isSome=(atKey xs kk).isSome:=by
   rcases dp.look z with⟨h1,h2⟩|⟨_,_,_,_,h1,h2,_⟩<;>rw[h1,h2]<;>rfl
  rw[eq] at q;cases n with
  |false=>exact wpAny_in_heap (j.room F) (j.is I r1 z) J E.of {.bl _,H,I.tok _,rfl,by simpa using q}
  |true=>exact wpAny_notIn_heap (j.room F) (j.is I r1 z) J E.of {.bl _,H,I.tok _,rfl,by simpa using q}
 ·cases e2
def rDS (fa:Fa)(K:Ql):yr:=λx y v H Q=>∃μ M o j d q,RelM fa K μ H M/\Rep fa K μ H (.fn o) x/\Rep fa K μ H j y/\Rep fa K μ H d v/\bq M o=some q/\isKey q.1 j=true/\q.2.length<1000000/\∀h,Ext μ H μ h->RelM fa K μ h (M.set (o-5000) (.int q.1::putD q.2 j d))->Q h
def qD (hd:eB fa)(I:Inv X pins σ H s)(P:RelM fa X.K μ H M)(r1:Rep fa X.K μ H (.fn o) x)(r2:Rep fa X.K μ H dy y)(ry:RelV y iv)(rv:RelV v u)(r3:Rep fa X.K μ H d v)(e1:bq M o=some q)(hk:isKey q.1 dy=true)(hl:q.2.length<1000000) :
 ∃(a b:Addr) (kd:KD X q.1) (kk:kd.K) (xs:List (kd.K×Addr×Qo)),x=.ref a/\iv=.ref b/\kd.knd.is s.heap kk b/\xs.length<=sizeLine/\iP kd.knd s.heap a xs/\∀h' t,iP kd.knd h' a (storedH xs kk b u)->R8 a s.heap h'->∃L,Inv X pins σ L {s with heap:=h',toks:=t}/\Ext μ H μ L/\RelM fa X.K μ L (M.set (o-5000) (.int q.1::putD q.2 dy d)):=by
 obtain⟨a,kd,h,xs,rfl,ho,ha,W,J,hc,E,dp,nd⟩:=ku hd I P r1 e1;obtain⟨kk,F⟩:=lg hk kd;obtain⟨b,rfl⟩:=kd.ref r2 F;obtain⟨ys,hz,R⟩:=KD.dict I J dp nd;obtain rfl:iv=Value.ref b:=ry;have j:=dp.put F r2 rv r3;refine{a,b,kd,kk,xs,rfl,rfl,kd.is I r2 F,hz,R,λh' t O hs=>?_};obtain⟨Q,es',h1,h2,h3,h4,_,_⟩:=O;have lx:(storedH xs kk b u).length<=sizeLine:=by
  have l1:=Paired.length j;have l2:(jP h dy d).length<=h.length+1:=by
   unfold jP;split<;>simp
  have l3:h.length<1000000:=by rw[E,Qn] at hl;exact hl
  rw[<- l1,sizeLine_eq];omega
 have Y:aB (o-5000)=o:=Nat.add_sub_cancel' ho;have x:=Ext.dic (es':=(storedH xs kk b u).map (entryOfKey kd.knd)) P J;refine{upd H a (.dn ((storedH xs kk b u).map (entryOfKey kd.knd))),I.write (by rw[J];exact True.intro) (.inl rfl) (λb q hb z=>(hs.2 b hb).trans z) ⟨Q,h1⟩ {by simpa using lx,ys,Q,h1,h2,?_},x,?_}
 ·have B:=congrArg List.length h4;rw[Qn] at B;rw[h3,<- h4,B]
 ·refine P.dicW W (by rw[Y];exact ha) J (.inr {q.1,_,jP h dy d,bA,hc,?_,R7.mapP (KD.back j) λp e ⟨b,v,e1,e2,E,S,U⟩=>{b,v,e1,e2,E.ext x,S,U.ext x},dp.keys nd F})
  rw[E,<- JH];rfl
def Gn (R:Rm X)(hd:eB fa):DG X (rDS fa X.K):=by
 intro pins s σ H x y v Y iv u Q I rx ry rv h;obtain⟨μ,M,o,dy,d,q,L,r1,r2,r3,e1,P,hl,k⟩:=h;obtain⟨a,b,U,kk,xs,rfl,rfl,O,S,F,z⟩:=qD hd I L r1 r2 ry rv r3 e1 P hl;obtain rfl:Y=Value.ref a:=rx;refine xg (hsz:=S) (U.room R) O F λJ j hs=>?_;obtain⟨B,E,x',W⟩:=z J _ j hs;exact{B,E,k B x' W}
end
section
variable{fa:Fa}{X:Cx}{a b d:Expr}{ga gb gd:GE}{pos:Pos}
def LM (O:Rm X)(hd:eB fa)(J:DE fa X a ga)(L:DE fa X b gb)(hs:iY b):DE fa X (.Subscript a b pos) (cZ ga gb):=
 bt (xq (MW O hd) J L hs) λW H Q ⟨S,U,M,E,I,h⟩=>t2 E I h λx y B v u R z P F j r1 r2 h2=>by
  cases x with
  | fn o =>
    obtain⟨d,e,q⟩:=j3 h2;exact{z,B,o,y,d,j,r1,r2,e,aX.ext q P}
  |_=>exact h2.elim
def wA {x y:D}(h:ae (match y with|.fn o=>(match inD M o x with|some r=>Res.ok (D.bl (n != r)) M|none=>.bad)|_=>.bad) k):∃o r,y=.fn o/\inD M o x=some r/\k (.bl (n != r)) M:=by
 cases y with
 | fn o =>
   dsimp only at h;cases e:inD M o x with
   |none=>rw[e] at h;exact h.elim
   |some r=>rw[e] at h;exact⟨o,r,rfl,e,h⟩
 |_=>exact h.elim
def NC (n:Bool)(O:Rm X)(hd:eB fa)(J:DE fa X a ga)(L:DE fa X b gb)(hm:behindInMarks (if n then .NotIn else .In) b=false):DE fa X (.Compare a [if n then .NotIn else .In] [b] pos) (jb n ga gb):=
 bt (mZ (Fc O hd n) J L hm) λW H Q ⟨S,U,M,E,I,h⟩=>t2 E I h λx y B v u R z P F j r1 r2 h2=>by
  obtain⟨o,r,rfl,e,q⟩:=wA h2;exact{z,B,o,x,r,j,r1,r2,e,aM j (q.ext P) rfl}
def Lj (n:Bool)(W:Rm X)(hd:eB fa)(S:DE fa X a ga)(U:DE fa X b gb)(hm:behindInMarks (if n then .NotIn else .In) b=false):DT fa X (.Compare a [if n then .NotIn else .In] [b] pos) (au (jb n ga gb)):=
 jZ (qk (Fc W hd n) S U hm) λσ H Q ⟨μ,Z,M,O,R,h⟩=>by
  obtain⟨z,I,e,q⟩:=az h;have L:ae (jb n ga gb Z M) (λd M=>d=z/\M=I):=by rw[e];exact⟨rfl,rfl⟩
  refine t2 O R L λx y F v u E B Y P j r1 r2 h2=>?_;obtain⟨o,r,rfl,e1,e2,J⟩:=wA h2;subst e2 J;exact{B,F,o,x,r,j,r1,r2,e1,n != r,rfl,q E B Y j}
set_option tactic.hygienic true in
def Jg (hu:Rm X)(hk:eB fa)(W:DE fa X a ga)(Y:DE fa X b gb)(hd:DE fa X d gd)
 (R:∀v,assign (.Subscript a b p2) X.env v=(do
  let u <- holding [v] (eval a X.env)
  let J <- holding [v,u] (eval b X.env)
  standAt p2
  holding [v,u,J] (setItem u J v)
  release [v,u,J] [])) (hs:swapsWithSole [.Subscript a b p2] d pos.line X.env=pure false) (hw:swappedStores [.Subscript a b p2] d X.env=pure none) :
 DS fa X (.Assign [.Subscript a b p2] d pos) (iD ga gb gd):=
 da (pj hd (zU W Y (Gn hu hk) R) hs hw) λD' σ H ⟨μ,Z,M,S,U,h⟩=>t1 S U h λz M1 v H1 μ1 x1 B F r1 h1=>t2 B F h1 λx y L vx vy H2 j P E I rx ry h2=>by
  cases x with
  | fn o =>
    dsimp only at h2;cases e:bq L o with
    |none=>rw[e] at h2;exact h2.elim
    | some q =>
      rw[e] at h2;dsimp only at h2;split at h2
      ·next c=>
       have w:=h2;exact{j,L,o,y,z,q,I,rx,ry,r1.ext P,e,c.1,c.2,λQ O m'=>w σ Q j ((x1.trans P).trans O) (E.ext O) m'}
      ·exact h2.elim
  |_=>exact h2.elim
def LK (c:Int)(z:c=77\/c=78)(hd:eB fa):DE fa X (.Dict [] [] pos) (xV c):=by
 intro v s J H Q I ⟨B,F,M,E,j,h⟩;have y:sysModules<s.heap.objs.size:=Nat.lt_trans `d (I.mod.glob.keeps I.bk).lt
 have u:=I.hok.fresh (Qt _);refine wpAny_Dict_empty {.ref s.heap.objs.size,_,I.laid (o:=.dn []) (λ_ _ q=>Qq _ q) (Qt _) {RX _,RW.mpr (Ru (QW y)),_,QK _ rfl,⟨rfl,rfl,rfl⟩,rfl},rfl,?_};refine h _ _ (nj B M.length s.heap.objs.size) (Ext.dicNew j u) (j.dicNew u z) {_,rfl,.inr {hd.of _ (R9 _ _),?_}};show(if aB M.length=aB M.length then some s.heap.objs.size else _)=_;rw[if_pos rfl]
end
def t8 (hd:(d==sysModules)=false) :
 MeetsIn prog w (Builtin.«dict.__len__» {[.ref d],[]}) (λ_ R s=>∃o es u,s.heap.get? d=some o/\o.data=.dict es u/\R (.ok (.ret (.int es.size s.toks))) {s with toks:=s.toks+1}):=
 .of_wp λA R s ⟨o,es,u,ho,j,h⟩=>by
  show wpAny _ _ (dictSize d >>= _) _ _ s;refine tqa (tqa (wpAny_dictEntries ho j (tqb ?_)));refine tqa (wpAny_pendingCount_other hd (wpAny_ret_mkInt ?_));rw[Nat.add_zero];exact h
def Ku (hd:(d==sysModules)=false)(ho:s.heap.get? d=some o)(y:o.cls=.type "dict")(j:o.data=.dict es ep)(v:es.size<2^62)
 (h:∀t t',Q (.int es.size t) {s with toks:=t'}):wpAny (model prog w) A (call (.builtin "len") [.ref d]) Q E s:=by
 have u:s.TypeIs (.ref d) "dict":=⟨o,ho,y⟩;refine Calls.call_function_entry kind_len plain_len entry_len (args_len1 _) ?_;refine tqa (tqb ?_);refine tqa (wpAny_callSpecial?_slot u F.slot_dict_len (call_meetsIn F.slot_dict_len u F.entry_dict_len (F.args_dict_len_1 _) (t8 hd) {o,es,ep,ho,j,?_}));refine tqa (tqo (tqb (tqa (wpAny_letGo ?_))));rw[if_neg `a]
 rw[if_neg `a]
 exact tqa (wpAny_mkInt (tqb {_,rfl,h _ _}))
def ny (a:GE):GE:=λh M=>(a h M).bind λx M=>match x with
 | .fn o => (match bq M o with
   |some q=>.ok (.int q.2.length) M
   |none=>.bad)
 |_=>.bad
section
variable{fa:Fa}{X:Cx}{a:Expr}{ga:GE}{p pos:Pos}
def K9 (hd:eB fa):b8 X (.builtin "len") (λxs H Q=>∃μ M o q v,xs=[v]/\RelM fa X.K μ H M/\Rep fa X.K μ H (.fn o) v/\bq M o=some q/\Q (.int q.2.length) H):=by
 intro j s σ H xs us Q I r h;obtain⟨μ,M,o,q,v,rfl,F,P,e,k⟩:=h;obtain⟨b,J,L,R,rfl,ho,U,S,E,W,u,dp,nd⟩:=ku hd I F P e;cases r with
 | cons r O =>
   cases O;obtain rfl:=(r);obtain⟨z,y,ob,h1,h2,h3⟩:=(I.hok b _ E);have B:(R.map (entryOfKey J.knd)).toArray.size=q.2.length:=by
    rw[u,QD,Qn,Qn];exact(Paired.length dp).symm
   refine Ku y h1 h2.1 h3 ?_ λt Y=>{.int q.2.length,H,I.tok _,{t,by rw[B]},k}
   rw[QD];rw[sizeLine_eq] at z;omega
def LL (hd:eB fa)(I:Gl X "len")(hm:X.mg "len"=none)(F:DE fa X a ga)(he:notStar a=true):DE fa X (.Call (.Name "len" p) [a] [] pos) (ny ga):=
 bt (i7 (K9 hd) I hm PySem.boot_len (bI F cW (by rw[aR he])) `d `d (by rw[aR he]) `r) λR H Q ⟨O,P,M,z,E,h⟩=>t1 z E h λx y v L u J B j r1 h1=>by
  cases x with
  | fn o =>
    dsimp only at h1;cases e:bq y o with
    |none=>rw[e] at h1;exact h1.elim
    |some q=>rw[e] at h1;exact{u,y,o,q,v,rfl,j,r1,e,aM j (aX.ext h1 J) rfl}
  |_=>exact h1.elim
end
def jC (u y:GE):Env->List D->Mem->Res (List D):=λj h M=>(u j M).bind λk M=>(y j M).bind λv M=>match h with
 | [.fn o] => (match bq M o with
   |some q=>if isKey q.1 k=true/\q.2.length<1000000 then .ok h (M.set (o-5000) (.int q.1::putD q.2 k v)) else .bad
   |none=>.bad)
 |_=>.bad
def kj (c:Int)(n:Nat)(t:fC)(u:GW)(g:GB):GE:=λj M=>(u j M).bind λw M=>(cF (cn t g (List.replicate n none++j)) w [.fn (aB M.length)] (M++[[.int c]])).bind λh M=>match h with
 |[d]=>.ok d M
 |_=>.bad
def wQ (a:Addr):PA:=λj _ h=>∃o,h=[.fn o]/\5000<=o/\j.ob o=some a
def wQ.stab:yt (wQ a):=λ_ _ _ _ _ x ⟨o,h1,h2,h3⟩=>{o,h1,h2,x.obs _ _ h3}
def BP (B y h j:Expr)(u:Scope)(pos:Pos)(z:Qo)(d:Addr)(env:R0) :
 compTurn (.DictComp B y [{h,j,[],0}] u pos) 0 z (.ref d) env=(standAt j.pos >>= λ_=>pyNext z >>= λr=>match r with
  |none=>pure (.done .next)
  |some v=>letOwnedTupleGo h z v >>= λ_=>assign h env v >>= λ_=>(eval B env >>= λE=>holding [E] (eval y env) >>= λF=>standAt {B.pos with endLine:=y.pos.endLine,endCol:=y.pos.endCol} >>= λ_=>holding [E,F] (dictSet d E F)) >>= λ_=>again (.compLoop (.DictComp B y [{h,j,[],0}] u pos) 0 z (.ref d) env)):=`r
section
variable{fa:Fa}{X:Cx}{a:Addr}
set_option tactic.hygienic true in
def HM (hu:Rm X)(hd:eB fa)(hk:DE fa X kx gk)(hv:DE fa X vx gv):DB fa X (wQ a) a [] (eval kx X.env >>= λY=>holding [Y] (eval vx X.env) >>= λvv=>standAt {kx.pos with endLine:=vx.pos.endLine,endCol:=vx.pos.endCol} >>= λ_=>holding [Y,vv] (dictSet a Y vv)) (jC gk gv):=by
 rintro z s O H Q μ Z M _ I U hM hc ⟨o,rfl,ho,W⟩ h;obtain⟨k,M1,e,h⟩:=az h;obtain⟨v,M2,e2,h⟩:=az h;dsimp only at h;cases R:bq M2 o with
 |none=>rw[R] at h;exact h.elim
 | some q =>
   rw[R] at h;dsimp only at h;split at h
   ·next c=>
    refine tqa (aQ (hk z s O H (λv y=>∃j,Ext μ H j y/\RelM fa X.K j y M1/\Rep fa X.K j y k v) I {μ,Z,M,U,hM,?_}) λuk s1 ⟨wk,y,I1,rk,j,B,E,r1⟩=>?_)
    ·rw[e];exact λv y j B E r1=>⟨j,B,E,r1⟩
    refine tqa (tqo (aQ (hv z s1 O y (λw J=>∃u,Ext j y u J/\RelM fa X.K u J M2/\Rep fa X.K u J v w) I1 {j,Z,M1,U.ext B,E,?_}) λuv s2 ⟨wv,J,I2,rv,u,L,m2,r2⟩=>?_))
    ·rw[e2];exact λv y j B E r1=>⟨j,B,E,r1⟩
    have F:=L.obs _ _ (B.obs _ _ W);obtain⟨a',b,kd,kk,xs,ea,rfl,hi,hz,dd,S⟩:=qD hd I2 m2 {a,rfl,.inr {hd.of _ ho,F}} (r1.ext L) rk rv r2 R c.1 c.2;cases ea;refine tqa (wpAny_standAt (tqo (lA (hsz:=hz) (kd.room0 hu) hi dd λh' P hs=>?_)));obtain⟨H',I',x',m'⟩:=S h' _ P hs;exact{O,H',I',h O H' u ((B.trans L).trans x').toD (((U.ext B).ext L).ext x') m' {o,rfl,ho,x'.obs _ _ F}}
   ·exact h.elim
def vk {c:Int}{rest:List Sw}(hc:c=77\/c=78)(hd:eB fa)
 (S:fm X own bn scope) (Y:X.calm=true) (hi:DI fa X tg iter gw) (B:Block fa X wQ own bn scope tg t W body g) (hT:∀(it a:Addr) (env:R0),compTurn (.DictComp kx vx ({tg,iter,ifs,0}::rest) scope pos) 0 (.ref it) (.ref a) env=(standAt iter.pos >>= λ_=>pyNext (.ref it) >>= λr=>match r with
  |none=>pure (.done .next)
  |some v=>letOwnedTupleGo tg (.ref it) v >>= λ_=>assign tg env v >>= λ_=>body a env >>= λ_=>again (.compLoop (.DictComp kx vx ({tg,iter,ifs,0}::rest) scope pos) 0 (.ref it) (.ref a) env))) (hW:∀i∈W,i∉slots t) (hn:∀i∈slots t++W,i<own.length)
 (hs:∀x,foldedSetIterable iter X.env x=pure x)
 (I:Inv X pins σ H s) (hE:bc fa X.K μ H σ Z) (hM:RelM fa X.K μ H M) (h:ae (kj c own.length t gw g Z M) (aX fa X.K μ H Q))
 (post:∀(a C:Addr) (s':Qr) (E:Hp),Inv X pins σ E s'->Q (.ref a) E->(∃m,s'.heap.Ns C m)->(∀σ2 F s2,Inv X pins σ2 F s2->(E C=none->F C=none)->F C=none/\∀U,R8 C s2.heap U->Inv X pins σ2 F {s2 with heap:=U})->E C=none->(C≠X.env.locals/\∀x c,X.env.cells.lookup x=some c->c≠C)->compPost (model X.prog X.w) X.A X.xe use QQ (.ref a) C (.ok .next) s') :
 wpAny (model X.prog X.w) X.A (comprehension (.DictComp kx vx ({tg,iter,ifs,0}::rest) scope pos) scope X.env p0 newDict false (eval iter X.env) use) QQ X.xe s:=by
 obtain⟨w,M1,ew,q⟩:=az h;obtain⟨acc,M2,ea,q2⟩:=az q;obtain⟨cl,hcl,R,P⟩:=pQ λy hy hf=>I.ok.has y.1 (S.free y hy hf);refine wpAny_comprehension_free rfl hs hcl S.kind S.loc ?_;refine aQ (hi pins s σ H (λJ H1=>∃L,Ext μ H L H1/\RelM fa X.K L H1 M1/\dh fa X.K L H1 w J) I {μ,Z,M,hE,hM,?_}) λv s1 h1=>aQ h1 λitv s2 h2=>?_
 ·rw[ew];exact λJ H1 L x1 m1 wk=>⟨L,x1,m1,wk⟩
 obtain⟨it,fp,tn,J,F,ei,I2,T,st2,f2,μ2,x2,m2,wk⟩:=h2;subst ei;refine tqa (wpAny_alloc (tqb ?_));have j:sysModules<s2.heap.objs.size:=Nat.lt_trans `d (I2.mod.glob.keeps I2.bk).lt
 have ha:=I2.hok.fresh (Qt _);have I3:Inv X pins σ (upd F s2.heap.objs.size (.dn [])) {s2 with heap:=s2.heap.push {cls:=.type "dict",data:=.dict #[]}}:=
  I2.laid (λb o e=>Qq _ e) (Qt _) {RX _,RW.mpr (Ru (QW j)),_,QK _ rfl,⟨rfl,rfl,rfl⟩,rfl}
 generalize hs3:({s2 with heap:=s2.heap.push {cls:=.type "dict",data:=.dict #[]}}:Qr)=s3 at I3 ⊢
 have k3:∀b o,s2.heap.get? b=some o->s3.heap.get? b=some o:=λb o e=>by rw[<- hs3];exact Qq _ e
 have fo2:=T.obj _ _ st2;have f3:∀b∈fp,fh X pins (upd F s2.heap.objs.size (.dn [])) b:=λb j=>by
  obtain⟨o,e,_⟩:=fo2 b j;exact{by rw[ao (QW (QG e))];exact(f2 b j).1,(f2 b j).2}
 have fo3:∀b∈fp,∃o,s3.heap.get? b=some o:=λb j=>let{o,e,_}:=fo2 b j;{o,k3 b o e}
 obtain⟨CL,hce⟩:=Fb S R P (s3.heap.push {cls:=.type "dict",data:=.dict #[]}) (Sf ..);generalize O:cellsFrom (s3.heap.objs.size+1) scope.names cl=cl' at CL hce;refine rH ?_;rw[O];have u:(pushCells (s3.heap.push {cls:=.type "dict",data:=.dict #[]}) scope.names).Ns s3.heap.objs.size (λ_=>none):=(Heap.Ns.new s3.heap (.type "dict")).keeps (pushCells_keeps _ _);have k4:∀b o,s3.heap.get? b=some o->(pushCells (s3.heap.push {cls:=.type "dict",data:=.dict #[]}) scope.names).get? b=some o:=λb o e=>pushCells_keeps _ _ b o (Qq _ e);generalize pushCells (s3.heap.push {cls:=.type "dict",data:=.dict #[]}) scope.names=h₁ at u k4 hce ⊢;clear hcl O R P cl
 rename List (Str×Addr)=>cl
 have I4:=uL (t':=s3.toks) I3 S CL f3 fo3 u k4 hce;have ok4:=I4.ok;have f4:∀b∈fp,fh (fM X own bn scope cl s3.heap.objs.size fp s3 (upd F s2.heap.objs.size (.dn []))) [] (upd F s2.heap.objs.size (.dn [])) b:=λb j=>
  {(f3 b j).1,(ok4.exf b j).1,ok4.exfs b j,.inl j,(ok4.exf b j).2,λp hp=>nomatch hp}
 have st4:=T.keep _ _ _ st2 λb j o e=>k4 b o (k3 b o e);have x3:=Ext.dicNew m2 ha;have m3:=m2.dicNew ha hc;have go:=qG wQ.stab (X:=fM X own bn scope cl s3.heap.objs.size fp s3 (upd F s2.heap.objs.size (.dn []))) (acc:=[.fn (aB M1.length)]) (Q:=λ_ E=>Q (.ref s2.heap.objs.size) E) (hT it s2.heap.objs.size _) ⟨rfl,rfl⟩ rfl Y T (B.pg _ _ _ _ _) (B.db _ _ _ _ _ _) hW I4 st4 f4
  (tD own.length ((hE.ext x2).ext x3)) m3 (rL hn) {_,rfl,R9 _ _,if_pos rfl} (qT wk x3.toExtW) (by
   rw[ea];rintro σ' E μ' z1 z2 z3 ⟨o,rfl,ho,hob⟩;have z:Ext _ _ μ' E:={z1.toExtW,z1.pr,λb j=>z1.pk b j λe=>by
    obtain⟨⟨vs,q⟩,_⟩:=m2.pv b j;rw[e,ha] at q;cases q}
   exact q2 (.ref s2.heap.objs.size) E μ' ((x2.trans x3).trans z) z3 {_,rfl,.inr {hd.of _ ho,hob}})
 have go':codeAny (model X.prog X.w) X.A (.compLoop (.DictComp kx vx ({tg,iter,ifs,0}::rest) scope pos) 0 (.ref it) (.ref s2.heap.objs.size) (compEnvC scope cl s3.heap.objs.size X.env)) (compPost (model X.prog X.w) X.A X.xe use QQ (.ref s2.heap.objs.size) s3.heap.objs.size) {s3 with heap:=h₁}:=
  codeAny_mono go λr s' ⟨er,σ',E,I',z⟩=>by
   subst er;refine post _ _ s' E (comp_back I3 f3 I') z (let{m,hn,_}:=I'.loc;⟨m,hn⟩) (λσ2 F s2' I2' hf=>{hf I'.free,λU hs''=>rK I3 (hf I'.free) I2' hs''}) I'.free {Rt I3.lt,λx c e z=>by
    obtain⟨v,q⟩:=I3.cell x c e;exact absurd q.lt (by rw[z];exact RO _)}
 exact codeAny_compStart_dict go' (T.self _ 0 _ _ _ st4 go')
def HQ {c:Int}{z y E j:Expr}{pos:Pos}(hc:c=77\/c=78)(hd:eB fa)
 (S:fm X own bn scope) (u:X.calm=true) (hi:DI fa X E j gw) (B:Block fa X wQ own bn scope E t [] (λa env=>eval z env >>= λJ=>holding [J] (eval y env) >>= λP=>standAt {z.pos with endLine:=y.pos.endLine,endCol:=y.pos.endCol} >>= λ_=>holding [J,P] (dictSet a J P)) (jC gk gv)) (hn:∀i∈slots t++[],i<own.length)
 (hs:∀x,foldedSetIterable j X.env x=pure x):DE fa X (.DictComp z y [{E,j,[],0}] scope pos) (kj c own.length t gw (jC gk gv)):=by
 intro O s σ H Q I ⟨μ,Z,M,W,Y,h⟩;refine vk hc hd S u hi B (λit a env=>BP z y E j scope pos (.ref it) a env) (λ_ h=>nomatch h) hn hs I W Y h ?_;intro a C s' L R q ⟨m,hn⟩ v hf _;exact{m,hn,λU F=>{.ref a,L,(v σ L s' R id).2 U F,rfl,q}}
end
def Dx (hh:A.in1.handled=none)(P:p≠I)(U:Nat->Bool)(G:Heap->Prop)(H:∀h h',G h->(∀b o,b∉[I]->h.get? b=some o->h'.get? b=some o)->G h')
 (S:∀i v (s:Qr) (Q:Bool->Qr->Prop) (E:Qo->Qr->Prop),items[i]?=some v->G s.heap->(∀t,Q (U i) {s with toks:=t})->wpAny (model prog w) A.in1 (truthy v) Q E s):∀(k i:Nat) (s:Qr),items.size-i=k->i<=items.size->(s.heap.IsListIter I p i/\s.heap.IsList p items)->G s.heap->
 (∀h' tk,G h'->R (.ok (.ret (.bool (((List.range items.size).drop i).any U)))) {s with heap:=h',toks:=tk})->codeAny (model prog w) A (.builtin "any.loop" {[.ref I],[]}) R s:=by
 have W:=Walks.list (prog:=prog) (w:=w) hh I p P items;intro k;induction k with
 | zero =>
   intro i s hk hi y g J;have O:i=items.size:=`a
   subst O;refine codeAny_builtin F.entry_any_loop ?_;rw[Sg F.plain_any_loop _];refine tqa (W.done s _ _ y λh' tk j=>?_);refine tqa (wpAny_rule (tqb ?_));have:=J h' tk (H _ _ g j);rw[List.drop_of_length_le `s] at this
   exact this
 | succ k ih =>
   intro i s hk hi y g J;have u:i<items.size:=`a
   have hd:(List.range items.size).drop i=i::(List.range items.size).drop (i+1):=by
    rw[List.drop_eq_getElem_cons (by simpa using u)];simp
   refine codeAny_builtin F.entry_any_loop ?_;rw[Sg F.plain_any_loop _];refine tqa (W.item i s _ _ u y λv h' tk hP z j=>?_);refine tqa (tqo (S i v _ _ _ hP (H _ _ g j) λt=>?_));refine tqa (wpAny_letGo ?_);cases Y:U i with
   | false =>
     refine tqb {plainId_quiet F.plain_any_loop _,ih (i+1) _ `a u z (H _ _ g j) λM B L=>?_}
     have:=J M B L;rw[hd,List.any_cons,Y,Bool.false_or] at this;exact this
   | true =>
     refine tqa (wpAny_rule (tqb ?_));have:=J h' t (H _ _ g j);rw[hd,List.any_cons,Y,Bool.true_or] at this;exact this
def range_any (bs:List Bool):((List.range bs.length).any λi=>(bs[i]?).getD false)=bs.any id:=by
 rw[RC,SJ,SJ];constructor
 ·rintro⟨i,_,e⟩;cases z:bs[i]? with
  |none=>rw[z] at e;cases e
  |some b=>rw[z] at e;exact{b,Q9 z,e}
 ·rintro⟨b,j,e⟩;obtain⟨i,h⟩:=List.getElem?_of_mem j;exact{i,RT.mpr (Qm.mp h).1,by rw[h];exact e}
def n6 (M:Mem):D->Option Bool
 |.bl b=>some b
 |d=>(ef M d).map λxs=>!xs.isEmpty
def BQ (h:n6 M d=some b):d=.bl b\/∃xs,ef M d=some xs/\b=!xs.isEmpty:=by
 cases d with
 |bl c=>cases h;exact .inl rfl
 | _ =>
   simp only[n6] at h;obtain⟨xs,e1,e2⟩:=Qv.mp h;exact .inr ⟨xs,e1,e2.symm⟩
def jr (M:Mem):List D->Option (List Bool)
 |[]=>some []
 |d::r=>(n6 M d).bind λb=>(jr M r).map (b::·)
def sM:∀{ds:List D}{bs:List Bool},jr M ds=some bs->bs.length=ds.length/\∀(i:Nat) d,ds[i]?=some d->∃b,bs[i]?=some b/\n6 M d=some b
 |[],_,h=>by cases h;exact{rfl,λ_ _ e=>by simp at e}
 | d :: ds, _, h => by
   obtain⟨b,e,h⟩:=Rl.mp h;obtain⟨bs,e2,rfl⟩:=Qv.mp h;obtain⟨h1,h2⟩:=sM e2;refine{by simp[h1],λi j z=>?_}
   cases i with
   |zero=>cases z;exact⟨b,rfl,e⟩
   |succ i=>exact h2 i j z
def qx (a:GE):GE:=λj M=>(a j M).bind λx M=>match ef M x with
 | some h => (match jr M h with
   |some bs=>.ok (.bl (bs.any id)) M
   |none=>.bad)
 |none=>.bad
section
variable{fa:Fa}{X:Cx}{a:Expr}{ga:GE}{p pos:Pos}
def Nh:b8 X (.builtin "any") (λxs H Q=>∃μ M ds bs p vs,xs=[.ref p]/\X.calm=true/\RelM fa X.K μ H M/\cP X.K H p vs/\aG fa X.K μ H ds vs/\jr M ds=some bs/\Q (.bl (bs.any id)) H):=by
 intro y s σ H xs us Q I r h;obtain⟨μ,M,ds,bs,p,vs,rfl,hc,hM,hq,rl,eb,q⟩:=h;obtain⟨u,rfl,rx⟩:=vals1 r;cases rx;obtain⟨j,U,R,hz⟩:=I.list hq;obtain⟨hl,hb⟩:=sM eb;have P:=R.lt;refine call_function_tree F.kind_any F.plain_any F.entry_any (F.args_any1 _) ?_;refine tqa (tqb ?_);refine tqa (wpAny_pyIter_list R.isList ?_);refine tqb {plainId_quiet F.plain_any_loop _,Dx (I.ok.hd hc) (QW P) (λi=>(bs[i]?).getD false) (λh=>∀b o,s.heap.get? b=some o->h.get? b=some o) (λh h' g k b o e=>k b o (λz=>by rw[QN.mp z] at e;exact absurd (QG e) (RO _)) (g b o e)) ?_ j.toArray.size 0 _ rfl (RX _) {{_,QK _ rfl,rfl,rfl},R.isList.push _} (λb o e=>Qq _ e) λh' tk g=>?_}
 ·intro i v s' Q' E' e g O;have e:j[i]?=some v:=by simpa using e
  have hi:i<vs.length:=by rw[U.length];exact(Qm.mp e).1
  obtain⟨d,ed,rd⟩:=rl.getV (QE hi);obtain⟨u,Y,E⟩:=U.get (QE hi);rw[e] at Y;cases Y;obtain⟨b,e1,e2⟩:=hb i d ed;rw[e1] at O;have list:∀xs,ef M d=some xs->b=!xs.isEmpty->wpAny (model X.prog X.w) X.A.in1 (truthy v) Q' E' s':=λxs J L=>by
   obtain⟨a,ws,ev,hw,W⟩:=bu hM rd J;rw[ev] at E;obtain rfl:=(E);have I':Inv X y σ H {s with heap:=s'.heap,toks:=s.toks}:=I.kept g
   obtain⟨its',B,S,hz'⟩:=I'.list hw;have hlen:=B.length;have hs:=sizeLine_eq;refine wpAny_truthy_list S.isList (by simp only[QD];omega) ?_
   rw[lh B,show ws.isEmpty=xs.isEmpty by rw[RC,List.isEmpty_iff_length_eq_zero,List.isEmpty_iff_length_eq_zero,W.length],<- L]
   exact O _
  rcases BQ e2 with rfl|⟨xs,J,L⟩
  ·rw[show vs[i]=V.bl b from rd] at E;obtain rfl:=(E);exact tqp (O _)
  ·exact list xs J L
 ·rw[List.drop_zero,QD,<- U.length,rl.length,<- hl,range_any];exact{.bl _,H,I.kept g,rfl,q}
def NI (J:X.calm=true)(L:Gl X "any")(hm:X.mg "any"=none)(I:DE fa X a ga)(he:notStar a=true):DE fa X (.Call (.Name "any" p) [a] [] pos) (qx ga):=
 bt (i7 (Nh) L hm `k (bI I cW (by rw[aR he])) `d `d (by rw[aR he]) `r) λY H Q ⟨U,W,M,B,F,h⟩=>t1 B F h λx u v S y R E j r1 h1=>by
  cases e:ef u x with
  |none=>rw[e] at h1;exact h1.elim
  | some z =>
    rw[e] at h1;dsimp only at h1;cases e2:jr u z with
    |none=>rw[e2] at h1;exact h1.elim
    | some bs =>
      rw[e2] at h1;obtain⟨a,P,rfl,O,r⟩:=bu j r1 e;exact{y,u,z,bs,a,P,rfl,J,j,O,r,e2,aM j (aX.ext h1 R) rfl}
end
def wq (c:Int)(gk gv:GE):GE:=λj M=>(gk j (M++[[.int c]])).bind λk u=>(gv j u).bind λv h=>match bq h (aB M.length) with
 |some q=>if isKey q.1 k=true/\q.2.length<1000000 then .ok (.fn (aB M.length)) (h.set (aB M.length-5000) (.int q.1::putD q.2 k v)) else .bad
 |none=>.bad
section
variable{fa:Fa}{X:Cx}{kx vx:Expr}{gk gv:GE}{pos:Pos}
set_option tactic.hygienic true in
def HP (c:Int)(hc:c=77\/c=78)(hu:Rm X)(hd:eB fa)(hk:DE fa X kx gk)(hv:DE fa X vx gv):DE fa X (.Dict [some kx] [vx] pos) (wq c gk gv):=by
 intro u s W H Q I ⟨μ,Z,M,hE,hM,h⟩;obtain⟨k,M1,e1,h⟩:=az h;obtain⟨v,M2,e2,h⟩:=az h;cases L:bq M2 (aB M.length) with
 |none=>rw[L] at h;exact h.elim
 | some q =>
   rw[L] at h;dsimp only at h;split at h
   ·next cc=>
    have hb:sysModules<s.heap.objs.size:=Nat.lt_trans `d (I.mod.glob.keeps I.bk).lt
    have ha:=I.hok.fresh (Qt _);have I0:Inv X u W (upd H s.heap.objs.size (.dn [])) {s with heap:=s.heap.push {cls:=.type "dict",data:=.dict #[]}}:=
     I.laid (λb o e=>Qq _ e) (Qt _) {RX _,RW.mpr (Ru (QW hb)),_,QK _ rfl,⟨rfl,rfl,rfl⟩,rfl}
    have S:=Ext.dicNew hM ha;have m0:=hM.dicNew ha hc;have P:(nj μ M.length s.heap.objs.size).ob (aB M.length)=some s.heap.objs.size:=if_pos rfl;refine wpAny_Dict_any rfl rfl `s (QJ rfl) ?_
    refine tqa (aQ (hk u _ W _ (λv z=>∃j,Ext (nj μ M.length s.heap.objs.size) (upd H s.heap.objs.size (.dn [])) j z/\RelM fa X.K j z M1/\Rep fa X.K j z k v) I0 {_,Z,_,hE.ext S,m0,?_}) λuk s1 ⟨wk,z,I1,rk,j,B,n1,r1⟩=>?_)
    ·rw[e1];exact λv z j B R r1=>⟨j,B,R,r1⟩
    refine tqa (tqo (tqa (aQ (hv u s1 W z (λw F=>∃y,Ext j z y F/\RelM fa X.K y F M2/\Rep fa X.K y F v w) I1 {j,Z,M1,(hE.ext S).ext B,n1,?_}) λuv s2 ⟨wv,F,I2,rv,y,U,m2,r2⟩=>?_)))
    ·rw[e2];exact λv z j B R r1=>⟨j,B,R,r1⟩
    refine tqa (wpAny_standAt (tqb ?_));refine tqa (tqo (tqb (tqb ?_)));have E:=U.obs _ _ (B.obs _ _ P);obtain⟨a',b,kd,kk,xs,ea,rfl,hi,hz,dd,O⟩:=qD hd I2 m2 {_,rfl,.inr {hd.of _ (R9 _ _),E}} (r1.ext U) rk rv r2 L cc.1 cc.2;cases ea;unfold storeAll;rw[List.forIn_cons];refine tqa (tqa (lA (hsz:=hz) (kd.room0 hu) hi dd λh' J hs=>tqb ?_));obtain⟨Y,I',x',m'⟩:=O h' _ J hs;refine tqb {.ref s.heap.objs.size,Y,I',rfl,h _ Y y (((S.trans B).trans U).trans x') m' {_,rfl,.inr {hd.of _ (R9 _ _),x'.obs _ _ E}}}
   ·exact h.elim
end
section
variable{prog:Q0}{w:Q2}{A:RL}{E:Qo->Qr->Prop}{s:Qr}{it d:Addr}{i ep:Nat}{od:Obj}{es:Array RK}{e:RK}{Q:Option Qo->Qr->Prop}{QV:Qo->Qr->Prop}
def Ax (hd:(d==sysModules)=false)(ho:s.heap.get? d=some od)(v:od.ExactDict)(h:od.data=.dict es ep)
 (u:QV (.ref s.heap.objs.size) {s with heap:=s.heap.push {cls:=.type "dict_keyiterator",data:=.fields #[.ref d,.int 0 0,.int es.size 0,.int ep 0]}}) :
 wpAny (model prog w) A (pyIter (.ref d)) QV E s:=by
 have j:s.TypeIs (.ref d) "dict":=⟨od,ho,v.1⟩;refine wpAny_pyIter_slot j F.slot_dict_iter (wpAny_call_entry F.slot_dict_iter j F.entry_dict_iter ?_ (F.args_dict_iter_1 _));refine tqa ?_;refine tqa (wpAny_notOrdered_dict j ?_);refine tqb ?_;show wpAny _ _ (Builtin.Dict.showsAll d >>= _) _ _ s;unfold Builtin.Dict.showsAll;rw[if_neg (by rw[hd];exact QP)]
 refine tqa (tqb ?_);refine tqa (wpAny_dictEntries ho h ?_);refine tqa (wpAny_dictEpoch ho h ?_);refine tqa (wpAny_newObj_type (tqb {_,rfl,"dict_keyiterator",_,{_,QK _ rfl,rfl},F.slot_dict_keyiterator_next.lookup,?_}));simpa[rawInt] using u
def ue (h:s.heap.IsKeyIter it d i es.size ep)(v:s.heap.get? d=some od)(u:od.data=.dict es ep)(B:es[i]?=some e)
 (y:∀h',h'.IsKeyIter it d (i+1) es.size ep->R8 it s.heap h'->Q (some e.key) {s with heap:=h'}):wpAny (model prog w) A (pyNext (.ref it)) Q E s:=by
 obtain⟨o,ho,z,hd⟩:=id h;refine tqa (wpAny_attempt (wpAny_callSpecial?_slot h.typeIs SG
  (wpAny_call_entry SG h.typeIs F.entry_dict_keyiterator_next ?_ (F.args_dict_keyiterator_next_1 _))))
 refine tqa (tqb ?_);refine tqa ?_;refine tqa ?_;first|refine tqa (wpAny_typeNameOfWhole_keyiter h.typeIs (tqb ?_))|refine tqa (wpAny_typeNameOf_keyiter h.typeIs (tqb ?_))
 refine tqa (wpAny_fieldsOf ho hd ?_);show wpAny _ _ (if (Value.ref d==Value.none)=true then _ else _) _ _ s;rw[if_neg (show ¬ ((Value.ref d==Value.none)=true) from QP)];refine tqa (tqb ?_);refine tqa (wpAny_dictEntries v u ?_);rw[if_neg `s]
 refine tqa (tqb ?_);refine tqa (wpAny_dictEpoch v u ?_);rw[if_neg `s]
 refine tqb ?_;simp only[show ¬ ((i:Int)<0) from by omega,if_false,RP,B]
 refine tqa ?_;first|refine tqa (wpAny_typeNameOfWhole_keyiter h.typeIs (tqb ?_))|refine tqa (wpAny_typeNameOf_keyiter h.typeIs (tqb ?_))
 refine tqa (wpAny_isOneOf_keyiter h.typeIs ?_);show wpAny _ _ (setField (.ref it) 1 (rawInt ((i:Int)+1)) >>= _) _ _ s;refine tqa (wpAny_setField ho hd `s ?_)
 have j:(s.heap.update it (Obj.mapFields (·.setIfInBounds 1 (rawInt ((i:Int)+1))))).IsKeyIter it d (i+1) es.size ep:=
  {_,Ro _ ho (Ss (RN hd _)),(Obj.cls_mapFields ..).trans z,by rw[RN hd];simp[rawInt]}
 refine tqa (tqo ?_);refine tqa (wpAny_isOneOf_keyiter j.typeIs ?_);exact tqb (tqb {_,rfl,tqb (y _ j (RQ ..))})
def we (hh:A.handled=none)(h:s.heap.IsKeyIter it d i es.size ep)(u:s.heap.get? d=some od)(j:od.data=.dict es ep)(v:es.size<=i)
 (z:∀h',Heap.ExtBut it s.heap h'->Q none {s with heap:=h'}):wpAny (model prog w) A (pyNext (.ref it)) Q E s:=by
 obtain⟨o,ho,B,hd⟩:=id h;refine tqa (wpAny_attempt (wpAny_callSpecial?_slot h.typeIs SG
  (wpAny_call_entry SG h.typeIs F.entry_dict_keyiterator_next ?_ (F.args_dict_keyiterator_next_1 _))))
 refine tqa (tqb ?_);refine tqa ?_;refine tqa ?_;first|refine tqa (wpAny_typeNameOfWhole_keyiter h.typeIs (tqb ?_))|refine tqa (wpAny_typeNameOf_keyiter h.typeIs (tqb ?_))
 refine tqa (wpAny_fieldsOf ho hd ?_);have y:Builtin.Dict_items.ownsTuple "dict_keyiterator"=false:=`d
 show wpAny _ _ (if (Value.ref d==Value.none)=true then _ else _) _ _ s;rw[if_neg (show ¬ ((Value.ref d==Value.none)=true) from QP)];refine tqa (tqb ?_);refine tqa (wpAny_dictEntries u j ?_);rw[if_neg `s]
 refine tqa (tqb ?_);refine tqa (wpAny_dictEpoch u j ?_);rw[if_neg `s]
 refine tqb ?_;simp only[show ¬ ((i:Int)<0) from by omega,if_false,RP,Array.getElem?_eq_none v]
 refine tqa ?_;first|refine tqa (wpAny_typeNameOfWhole_keyiter h.typeIs (tqb ?_))|refine tqa (wpAny_typeNameOf_keyiter h.typeIs (tqb ?_))
 show wpAny _ _ (setField (.ref it) 0 .none >>= _) _ _ s;refine tqa (wpAny_setField ho hd `s ?_)
 refine tqa ?_;refine tqa (wpAny_newObj_type ?_ (by size_fits))
 refine tqa (wpAny_of_eq (by first|rfl|(simp only[firstArgMember];rfl)) ?_)
 refine wpAny_newObj_type ?_ (by size_fits)
 refine tqa (wpAny_handled ?_);rw[show A.in1.handled=none from hh];refine tqa (tqb (wpAny_throw ?_));refine tqa (wpAny_isInstance {_,QK _ rfl,rfl} isSubtype_stop ?_);exact tqb (z _ (((RQ ..).extBut.push _).push _))
end
noncomputable def Mb (a:Addr)(n:Nat)(f:RK->Qo):It:=
 {λi H=>∃h e x,H a=some (.dn h)/\h.length=n/\h[i]?=some e/\RelV x (f e),λi H x j=>j=H/\∀h e,H a=some (.dn h)->h[i]?=some e->RelV x (f e),λi H=>∃h,H a=some (.dn h)/\h.length=n/\n<=i}
def zc {K:Ql}(a u:Addr)(n:Nat):Turn P w K tg (Mb a n (·.key)) [u] u (λi h=>h.IsKeyIter u a i n n) where
 mem:=`s
 obj:=λi h st b j=>by
  have e:b=u:=by simpa using j
  subst e;obtain⟨o,e,c,d⟩:=st;exact{o,e,λv z=>by rw[d] at z;cases z}
 keep:=λi h h' st k=>st.at λo e=>k u `s o e
 item:=by
  intro X Y hw U hc i B s σ H E I L st hg;subst Y hw U;obtain⟨es,e,x,J,rfl,he,rx⟩:=hg;obtain⟨z,y,o,h1,h2,h3⟩:=(I.hok a _ J);obtain⟨O,f1,f2,Q,R,S⟩:=L u `s
  refine ue (by simpa using st) h1 h3 (by simpa using he) λh' F sb=>?_
  have I1:=I.turned (t':=s.toks) (λb o j e=>(sb.2 b j).trans e) O f1 Q R S;obtain⟨o',e',c',d'⟩:=id F;exact{e.key,rfl,sr e' c' d' `d {x,H,I1,rx,{rfl,λes' e2 q1 q2=>by rw[J] at q1;cases q1;rw[he] at q2;cases q2;exact rx},by simpa using F,λb j=>(L b j).1}}
 done:=by
  intro X Y hw U hc i B s σ H E I L st hg;subst Y hw U;obtain⟨es,J,rfl,hl⟩:=hg;obtain⟨z,y,o,h1,h2,h3⟩:=(I.hok a _ J);obtain⟨O,f1,f2,Q,R,S⟩:=L u `s
  exact we (I.ok.hd hc) (by simpa using st) h1 h3 (by simpa using hl) λh' eb=>{rfl,I.turned (λb o j e=>eb b o j e) O f1 Q R S}
 self:=λ_ _ _ _ _ st h=>wpAny_pyIter_keyiter st h
def dW (o n:Nat)(f:D->D):Walk:=λM=>match bq M o with
 |some q=>if q.2.length=n then some (q.2.map f) else none
 |none=>none
def eT (f:D->D)(ga:GE):GW:=λh M=>(ga h M).bind λx M=>match x with
 | .fn o => (match bq M o with
   |some q=>.ok (dW o q.2.length f) M
   |none=>.bad)
 |_=>.bad
def R7.get {j u:Type}{F:j->u->Prop}:∀{l:List j}{r:List u}{i:Nat}{a:j},R7 F l r->l[i]?=some a->∃b,r[i]?=some b/\F a b
 |_,_,0,_,.cons h t,e=>by cases e;exact{_,rfl,h}
 |_,_,i+1,_,.cons h t,e=>R7.get t (i:=i) e
section
variable{fa:Fa}{X:Cx}{K:Ql}{μ:Mu}{H:Hp}{M:Mem}
set_option tactic.hygienic true in
def nA (hd:eB fa)(z:RelM fa K μ H M)(B:μ.ob o=some a)(e:bq M o=some q):∃(es:List RK) (h:List (D×D)),H a=some (.dn es)/\q.2=h.map ib/\R7 (mO fa K μ H q.1) h es:=by
 unfold bq at e;split at e
 ·next ho=>
  split at e
  ·next c es E=>
   split at e
   ·next I=>
    cases e;have v:aB (o-5000)=o:=Nat.add_sub_cancel' ho;rcases z.at' _ _ E with⟨b,O,h1,_⟩|⟨b,h1,h2,⟨n,C,L,fs,u,h3,h4,y,j,F⟩|⟨J,u,h,h3,h4,y,j,F⟩⟩
    ·have:=z.sep _ _ h1;rw[v,B] at this;cases this
    ·have j:=(List.cons.inj j).1;have j:=D.int.inj j;rcases I with rfl|rfl
     ·have:n=77:=`a
      rw[this,hd.n77] at h3;cases h3
     ·have:n=78:=`a
      rw[this,hd.n78] at h3;cases h3
    ·rw[v,B] at h1;cases h1;obtain⟨e1,e2⟩:=List.cons.inj y;cases D.int.inj e1;exact⟨u,h,h3,e2,j⟩
   ·cases e
  ·cases e
 ·cases e
set_option tactic.hygienic true in
def Bu (hd:eB fa)(R:∀{μ:Mu}{H:Hp}{c:Int}{p:D×D}{e:RK},mO fa K μ H c p e->∃v,RelV v (g e)/\Rep fa K μ H (f (ib p)) v)(Q:μ.ob o=some a):dh fa K μ H (dW o n f) (Mb a n g):=λU W P ds x z e=>by
 unfold dW at e;cases eq:bq P o with
 |none=>rw[eq] at e;cases e
 | some q =>
   rw[eq] at e;dsimp only at e;split at e
   ·next hl=>
    cases e;obtain⟨E,J,I,u,pr⟩:=nA hd z (x.obs _ _ Q) eq;have j:E.length=n:=by rw[<- hl,u,Qn];exact(Paired.length pr).symm
    refine{λi d h=>?_,λi h=>{E,I,j,by rw[Qn,hl] at h;exact h}}
    rw[QO,u,QO] at h;cases F:J[i]? with
    |none=>rw[F] at h;cases h
    | some p =>
      rw[F] at h;cases h;obtain⟨L,B,r⟩:=R7.get pr F;obtain⟨v,O,rd⟩:=R r;refine{⟨E,L,v,I,j,B,O⟩,λy Y ⟨e2,S⟩=>?_};subst e2;rw[(S E L I B).inj O];exact{.refl,z,rd}
   ·cases e
def Hs {c:Int}(h:mO fa K μ H c p e):∃v,RelV v e.key/\Rep fa K μ H (cK (ib p)) v:=let{b,_,h1,_,h2,_}:=h;{.ref b,h1,h2}
variable{a tg:Expr}{ga:GE}{apos cpos:Pos}
abbrev Mc (fa:Fa)(X:Cx)(f:D->D)(h:List (Addr×Obj))(y:L2.St)(R:It->Hp->Prop)(v:Qo)(s1:Qr):Prop:=∃(b:Addr) (u:List RK) (j:Hp),v=.ref b/\Inv X h y j s1/\j b=some (.dn u)/\∀g,(∀{μ:Mu}{H:Hp}{c:Int}{p:D×D}{e:RK},mO fa X.K μ H c p e->∃v,RelV v (g e)/\Rep fa X.K μ H (f (ib p)) v)->R (Mb b u.length g) j
def HG (hd:eB fa)(q:ae (match x with|.fn o=>(match bq M1 o with|some q=>Res.ok (dW o q.2.length f) M1|none=>.bad)|_=>.bad) λw M'=>∀J z j,Ext μ H j z->RelM fa X.K j z M'->dh fa X.K j z w J->R J z)(F:Inv X pins σ H1 s1)(S:RelV v u)(x1:Ext μ H μ1 H1)(E:RelM fa X.K μ1 H1 M1)(r1:Rep fa X.K μ1 H1 x v):Mc fa X f pins σ R u s1:=by
 cases x with
 | fn o =>
   dsimp only at q;cases y:bq M1 o with
   |none=>rw[y] at q;exact q.elim
   | some Q =>
     rw[y] at q;obtain⟨b,rfl,h⟩:=r1;have ho:5000<=o:=by
      unfold bq at y;split at y
      ·assumption
      ·cases y
     rcases h with h|⟨_,h⟩
     ·rw[hd.of o ho] at h;cases h
     obtain⟨B,P,L,I,pr⟩:=nA hd E h y;have hl:B.length=Q.2.length:=by rw[I,Qn];exact(Paired.length pr).symm
     exact{b,B,H1,S,F,L,λg O=>q _ H1 μ1 x1 E (hl ▸ Bu hd O h)}
 |_=>exact q.elim
def Dn (hd:eB fa)(O:DE fa X a ga)(I:Inv X pins σ H s)(h:tI fa X.K (eT f ga) σ H R):wpAny (model X.prog X.w) X.A (eval a X.env) (Mc fa X f pins σ R) X.xe s:=by
 obtain⟨μ,Q,M,J,L,h⟩:=h;obtain⟨x,F,e,q⟩:=az h;refine aQ (O pins s σ H (λv y=>∃j,Ext μ H j y/\RelM fa X.K j y F/\Rep fa X.K j y x v) I {μ,Q,M,J,L,?_}) λu s1 ⟨v,y,E,P,j,B,z,r1⟩=>HG hd q E P B z r1;rw[e];exact λv y j B z r1=>⟨j,B,z,r1⟩
def HJ (hd:eB fa)(L:DE fa X a ga):DI fa X tg a (eT cK ga):=λu s P H R I h=>by
 refine aQ (Dn hd L I h) λv s1 ⟨b,E,B,F,j,J,q⟩=>?_;subst F;obtain⟨z,y,o,h1,h2,h3⟩:=(j.hok b _ J);refine Ax y h1 h2 h3 ?_;refine{s1.heap.objs.size,[s1.heap.objs.size],_,_,B,rfl,j.kept λb o e=>Qq _ e,zc b _ E.length,{_,QK _ rfl,rfl,rfl},λb O=>?_,q _ Hs};have e:b=s1.heap.objs.size:=by simpa using O
 subst e;exact j.fpOk (Qt _) (j.hok.fresh (Qt _))
end
section
variable{fa:Fa}{X:Cx}{a tg iter:Expr}{ga:GE}{gw:GW}{apos cpos:Pos}
def mW (a d:GE):GS:=λh M=>(a h M).bind λx M=>match x with
 | .cell k => sH (λz M => match M[k]? with
   |some j=>if j.length<sz then .ok (.next h) (M.set k (j++[z])) else .bad
   |none=>.bad) h (d h M)
 |_=>.bad
set_option tactic.hygienic true in
def HA (ha:DE fa X a ga)(hd:DX fa X d gd)(j:attributeBase a "append" X.env (eval a X.env)=eval a X.env)(u:(apos.endLine==cpos.line)=true)(hs:starEach [d] X.env=[(false,eval d X.env)])
 (S:swapsWith (.Call (.Attribute a "append" apos) [d] [] cpos) none pos.line X.env=pure false) :
 DS fa X (.Expr (.Call (.Attribute a "append" apos) [d] [] cpos) pos) (mW ga gd):=
 da (iR (si PySem.F.plainAttrs_list PySem.F.slot_list_append PySem.F.type_list_append l7 ha (bI hd cW hs) j (by rw[hs];rfl) u hs `r) S) λD' σ H ⟨μ,L,M,P,hM,h⟩=>by
  obtain⟨x,M1,e1,h1⟩:=az h;cases x with
  | cell k =>
    refine{μ,L,M,P,hM,?_};rw[e1];intro vx H1 Y I v rx;obtain⟨ad,rfl,R⟩:=rx;obtain⟨ds1,U,_,Q,_⟩:=v.mu_lt R;refine{.inl {rfl,U,cP.of Q},Y,L,M1,P.ext I,v,?_};cases e2:gd L M1 with
    |bad=>rw[e2] at h1;exact h1.elim
    | err y E =>
      rw[e2] at h1;exact XW.ext h1 I
    | ok z E =>
      rw[e2] at h1;have h2:ae (match E[k]? with|some O=>if O.length<sz then Res.ok (Fl.next L) (E.set k (O++[z])) else .bad|none=>.bad) (lP fa X μ H D'):=h1
      cases e:E[k]? with
      |none=>rw[e] at h2;exact h2.elim
      | some O =>
        rw[e] at h2;dsimp only at h2;split at h2
        ·next hz=>
         have q:=h2;intro vz H2 μ2 J B rz;obtain⟨ws,h4,h5⟩:=B.at_ e (J.mu k ad R);refine{ad,ws,vz,rfl,rfl,h4,by rw[h5.length,<- cQ];exact hz,?_}
         exact jq ((P.ext I).ext J) B (J.mu k ad R) (h5.append (.one rz)) λσ' H' W x' e' m'=>q σ' H' W ((I.trans J).trans x') e' m'
        ·exact h2.elim
  |_=>exact h1.elim
end
def ip (a b c:GE):GE:=λh M=>(a h M).bind λx M=>match x with
 | .fn o => if (bq M o).isSome = true then(b h M).bind λy M => (c h M).bind λz M => (match bq M o with
   |some q=>if isKey q.1 y=true then .ok ((cx q.2 y).getD z) M else .bad
   |none=>.bad) else .bad
 |_=>.bad
section
variable{fa:Fa}{X:Cx}{a b c:Expr}{ga gb gc:GE}
def Kk (Y:Rm X)(hd:eB fa):Ow X "dict.get" (λx vs H Q=>∃μ M o q y z L O,RelM fa X.K μ H M/\Rep fa X.K μ H (.fn o) x/\vs=[L,O]/\Rep fa X.K μ H y L/\Rep fa X.K μ H z O/\bq M o=some q/\isKey q.1 y=true/\aX fa X.K μ H Q ((cx q.2 y).getD z) M):=by
 intro R s σ H x vs v us Q I rx u h;obtain⟨μ,M,o,q,y,z,L,O,J,r1,rfl,r2,r3,e1,W,B⟩:=h;obtain⟨a,j,kvs,xs,rfl,ho,ha,em,U,hc,S,dp,nd⟩:=ku hd I J r1 e1;obtain⟨kk,E⟩:=lg W j;obtain⟨b,rfl⟩:=j.ref r2 E;obtain⟨ys,hz,P⟩:=KD.dict I U dp nd;obtain rfl:v=Value.ref a:=rx;cases u with
 |cons ry u=>
 cases u with
 |cons rz u=>
 cases u;obtain rfl:=ry;rw[S] at B;refine call_meetsIn PySem.F.slot_dict_get P.of.typeIs PySem.F.entry_dict_get (PySem.F.args_dict_get_3 _ _ _) (meetsH_dict_get_default j.knd a b ys _) {j.room Y,kk,xs,j.is I r2 E,P.of,?_};rcases dp.look E with⟨l,g⟩|⟨d',b',v',u',l,g,ru,rd⟩
 ·rw[l] at B;rw[g];exact{_,H,I.tok _,rz,aM J B r3}
 ·rw[l] at B;rw[g];exact{_,H,I.tok _,ru,aM J B rd}
set_option tactic.hygienic true in
def ND (hu:Rm X)(hd:eB fa)(ha:DE fa X a ga)(hb:DE fa X b gb)(hc:DE fa X c gc)(B:attributeBase a "get" X.env (eval a X.env)=eval a X.env)(E:(apos.endLine==cpos.line)=true)(hs:starEach [b,c] X.env=[(false,eval b X.env),(false,eval c X.env)])(j:starEach [c] X.env=[(false,eval c X.env)]):DE fa X (.Call (.Attribute a "get" apos) [b,c] [] cpos) (ip ga gb gc):=
 bt (si PySem.F.plainAttrs_dict PySem.F.slot_dict_get PySem.F.type_dict_get (Kk hu hd) ha (bI hb (bI hc cW j) (by rw[hs,j])) B (by rw[hs];rfl) E (by rw[hs,j]) (by rw[j];rfl)) λσ H Q ⟨μ,Z,M,P,hM,h⟩=>by
  obtain⟨x,M1,e1,h1⟩:=az h;cases x with
  | fn o =>
    dsimp only at h1;split at h1
    ·next hz=>
     obtain⟨q0,L⟩:=SO.mp hz;obtain⟨y,M2,e2,h2⟩:=az h1;obtain⟨z,M3,e3,h3⟩:=az h2;refine{μ,Z,M,P,hM,?_};rw[e1];intro v H1 J U I r1;have ho:5000<=o:=by
      unfold bq at L;split at L
      ·assumption
      ·cases L
     obtain⟨p,rfl,u⟩:=id r1;have u:J.ob o=some p:=by
      rcases u with u|⟨_,u⟩
      ·rw[hd.of o ho] at u;cases u
      ·exact u
     obtain⟨es,_,hH,_⟩:=nA hd I u L;refine{.inr (.inr (.inl {rfl,.inr (.inr ⟨es,hH⟩)})),J,Z,M1,P.ext U,I,?_};rw[e2];intro y' H2 μ2 W R r2;refine{μ2,Z,M2,(P.ext U).ext W,R,?_};rw[e3];intro z' H3 μ3 Y S r3;cases O:bq M3 o with
     |none=>rw[O] at h3;exact h3.elim
     | some q =>
       rw[O] at h3;dsimp only at h3;split at h3
       ·next hk=>exact{μ3,M3,o,q,y,z,_,z',S,(r1.ext W).ext Y,rfl,r2.ext Y,r3,O,hk,aX.ext (aX.ext (aX.ext h3 U) W) Y}
       ·exact h3.elim
    ·exact h1.elim
  |_=>exact h1.elim
end
noncomputable def jw:List Int->List Int->Bool
 |[],[]=>false
 |[],_::_=>true
 |_::_,[]=>false
 |a::x,b::y=>if (a==b)=true then jw x y else decide (a<b)
def qR (A:RL)(s:Qr)(x y:Qo)(k:Bool):Prop:=∀(prog:Q0) (w:Q2) (E:Qo->Qr->Prop) (Q:Qo->Qr->Prop),Q (.bool k) s->wpAny (model prog w) A (richCompare .Lt x y) Q E s
def ints_get (h:SA us is)(i:Nat)(hi:i<us.length):∃a t,us[i]?=some (.int a t)/\is.drop i=a::is.drop (i+1):=by
 induction h generalizing i with
 |nil=>exact absurd hi (Sn _)
 | cons a t _ j =>
   cases i with
   |zero=>exact⟨a,t,rfl,rfl⟩
   |succ i=>exact j i (Nat.lt_of_succ_lt_succ hi)
def Hb (l b:Addr)(us vs:List Qo)(is j:List Int)(n n2:Nat)(dd B:Option Addr)(sl F:Array (Option Qo))(H:SA us is)(E:SA vs j):∀(k i:Nat),us.length-i=k->i<=us.length->i<=vs.length->
 Meets (Builtin.«list.__eq__.loop» {[.ref l,.ref b,rawInt i,rawInt 0],[]}) (λ_ R s=>s.heap.get? l=some {.type "list",dd,.seq us.toArray n,sl}/\s.heap.get? b=some {.type "list",B,.seq vs.toArray n2,F}/\R (.ok (.ret (.bool (jw (is.drop i) (j.drop i))))) s):=by
 intro k;induction k with
 | zero =>
   intro i O h1 h2 prog w A R s h;obtain⟨P,g,d,tk,os⟩:=s;obtain⟨hl,v,h⟩:=h;wp_walk using QX hl,QX v
   have e1:us.toArray[((i:Nat):Int).toNat]?=none:=by simp;omega
   rw[e1];wp_walk using QX hl,QX v
   have S:=E.length;rw[List.drop_of_length_le (show is.length<=i by rw[<- H.length];omega)] at h
   refine cast (congrArg (λz=>R (.ok (.ret (.bool z))) _) ?_) h;cases e:j.drop i with
   | nil =>
     have:=List.drop_eq_nil_iff.mp e;simp[jw];omega
   | cons c r =>
     have:i<j.length:=by
      rcases Si i j.length with z|z
      ·exact z
      ·rw[List.drop_of_length_le z] at e;cases e
     simp[jw];omega
 | succ k Q =>
   intro i O h1 h2 prog w A R s h;obtain⟨P,g,d,tk,os⟩:=s;obtain⟨hl,v,h⟩:=h;obtain⟨a,t,L,I⟩:=ints_get H i `a
   wp_walk using QX hl,QX v
   have e1:us.toArray[((i:Nat):Int).toNat]?=some (.int a t):=by simpa using L
   rw[I] at h;rcases Si i vs.length with z|z
   ·obtain⟨c,u,M,J⟩:=ints_get E i z;have e2:vs.toArray[((i:Nat):Int).toNat]?=some (.int c u):=by simpa using M
    rw[e1,e2];rw[J] at h;refine tqa (PySem.SeqAt.EqAt.int_int a t c u prog w _ _ ?_);cases y:(a==c) with
    | true =>
      rw[show jw (a::is.drop (i+1)) (c::j.drop (i+1))=jw (is.drop (i+1)) (j.drop (i+1)) from if_pos y] at h;wp_walk
      rw[show((i:Int)+1)=((i+1:Nat):Int) from rfl];exact{plainId_quiet MeetsSeq3.plain_eq_loop _,codeAny_builtin MeetsSeq3.entry_eq_loop (by
       rw[Sg MeetsSeq3.plain_eq_loop _];exact Q (i+1) `a `a z prog w A R _ ⟨hl,v,h⟩)}
    | false =>
      rw[show jw (a::is.drop (i+1)) (c::j.drop (i+1))=decide (a<c) from if_neg (by rw[y];exact QP)] at h
      wp_walk using QX hl,QX v
      rw[e1,e2];refine tqa (wpAny_lt_int ?_);exact tqb h
   ·have e2:vs.toArray[((i:Nat):Int).toNat]?=none:=by simp;omega
    rw[e1,e2];wp_walk using QX hl,QX v
    rw[List.drop_of_length_le (show j.length<=i by rw[<- E.length];omega)] at h
    refine cast (congrArg (λz=>R (.ok (.ret (.bool z))) _) ?_) h;simp[jw];omega
def qR.lists (hl:s.heap.IsList l us.toArray)(L:s.heap.IsList b vs.toArray)(O:SA us is)(P:SA vs js)(hr:A.units<cLine):qR A s (.ref l) (.ref b) (jw is js):=λprog w E Q h=>by
 obtain⟨⟨cls,J,I,sl⟩,ho,M,n,hd⟩:=id hl;obtain⟨⟨H,j,y,v⟩,u,z,n2,B⟩:=id L;cases M;cases hd;cases z;cases B;have S:Meets (Builtin.«list.__lt__» {[.ref l,.ref b],[]}) (λ_ R s=>s.heap.get? l=some {.type "list",J,.seq us.toArray n,sl}/\s.heap.get? b=some {.type "list",j,.seq vs.toArray n2,v}/\R (.ok (.ret (.bool (jw is js)))) s):=by
  intro prog w A R s h;obtain⟨W,g,d,tk,os⟩:=s;obtain⟨h1,h2,h⟩:=h;have U:=AutoSeq1.sub_list_list;wp_walk using QX h1,QX h2
  exact{plainId_quiet MeetsSeq3.plain_eq_loop _,codeAny_builtin MeetsSeq3.entry_eq_loop (by
   rw[Sg MeetsSeq3.plain_eq_loop _];exact Hb l b us vs is js n n2 J j sl v O P _ 0 rfl (RX _) (RX _) prog w A R _ ⟨h1,h2,h⟩)}
 exact richCompare_meets_room {_,ho,rfl} {_,u,rfl} F.slot_list_lt F.entry_list_lt (F.args_list_lt_2 _ _) S {ho,u,show Value.bool (jw is js)≠Value.notImplemented/\Q (.bool (jw is js)) s from{(λx=>nomatch x),h}} hr
def C5 (h:SA us is)(h':SA us js):is=js:=by
 induction h generalizing js with
 |nil=>cases h';rfl
 |cons a t _ j=>cases h' with|cons _ _ r=>rw[j r]
def rD (h:SA us is)(u:j<us.length):∃t,us[j]=.int (is.getD j 0) t:=by
 induction h generalizing j with
 |nil=>exact absurd u (Sn _)
 | cons a t _ v =>
   cases j with
   |zero=>exact⟨t,rfl⟩
   |succ j=>exact v (Nat.lt_of_succ_lt_succ u)
def wL:∀(is u:List Int),is.length=u.length->((List.range is.length).all λj=>is.getD j 0==u.getD j 0)=(is==u)
 |[],[],_=>rfl
 | a :: is, b :: u, h => by
   rw[RV,List.range_succ_eq_map,RJ,List.all_map];have:=wL is u (Nat.succ.inj h);show((a==b)&&_)=((a==b)&&(is==u));rw[<- this];rfl
def EqAt.intLists (hl:s.heap.IsList l us.toArray)(h:s.heap.IsList b vs.toArray)(u:SA us is)(v:SA vs js)(hr:A.units<cLine):PySem.SeqAt.EqAt A s (.ref l) (.ref b) (is==js):=by
 by_cases e:l=b
 ·subst e;obtain⟨o,e1,_,n,d1⟩:=hl;obtain⟨M,e2,_,L,B⟩:=h;rw[e1] at e2;cases e2;rw[d1] at B;have:=(Data.seq.inj B).1;have:us=vs:=by simpa using this
  subst this;rw[C5 u v,beq_self_eq_true];exact PySem.SeqAt.EqAt.same _
 ·refine PySem.SeqAt.EqAt.of_refs e ?_;have l1:=u.length;have l2:=v.length;by_cases z:us.length=vs.length
  ·have r:=PySem.SeqAt.RcAt.lists hl h (by simpa using z) hr λj h1 h2=>by
    obtain⟨t,F⟩:=rD u (by simpa using h1)
    obtain⟨E,H⟩:=rD v (by simpa using h2)
    have I:us.toArray[j]=.int (is.getD j 0) t:=by simpa using F
    have J:vs.toArray[j]=.int (js.getD j 0) E:=by simpa using H
    rw[I,J];exact PySem.SeqAt.EqAt.int_int _ t _ E
   rw[show us.toArray.size=is.length by simp[l1],wL is js `a] at r
   exact r
  ·have r:=PySem.SeqAt.RcAt.lists_lengths hl h (by simpa using z) hr
   rw[show(is==js)=false from RW.mpr λy=>z (by rw[l1,l2,y])]
   exact r
def ma (a:Int)(is:List Int)(b:Int)(h:List Int):Bool:=if (a==b)=true then(if (is==h)=true then false else jw is h) else decide (a<b)
def qR.pairs {a c:Int}(P:s.heap.IsTuple p #[.int a t,.ref l])(hq:s.heap.IsTuple q #[.int c u,.ref b])(hl:s.heap.IsList l us.toArray)(Y:s.heap.IsList b vs.toArray)(S:SA us is)(U:SA vs js)(hr:A.units<cLine)(I:A.in1.units<cLine):qR A s (.ref p) (.ref q) (ma a is c js):=λprog w E Q h=>by
 obtain⟨⟨cls,X,M,sl⟩,ho,hc,n,hd⟩:=id P;obtain⟨⟨L,z,y,J⟩,v,B,n2,H⟩:=id hq;cases hc;cases hd;cases B;cases H;have ml:Meets (Builtin.«tuple.__lt__» {[.ref p,.ref q],[]}) (λA R s=>s.heap.get? p=some {.type "tuple",X,.seq #[.int a t,.ref l] n,sl}/\s.heap.get? q=some {.type "tuple",z,.seq #[.int c u,.ref b] n2,J}/\s.heap.IsList l us.toArray/\s.heap.IsList b vs.toArray/\A.in1.units<cLine/\R (.ok (.ret (.bool (ma a is c js)))) s):=.of_wp λprog w A R s h=>by
  obtain⟨P,g,d,tk,os⟩:=s;obtain⟨h1,h2,k1,k2,W,h⟩:=h;have f2:=AutoSeq1.sub_tuple_tuple;wp_walk using QX h1,QX h2
  refine PySem.SeqAt.EqAt.int_int a t c u prog w _ _ ?_;cases j:(a==c) with
  | false =>
    rw[show ma a is c js=decide (a<c) from if_neg (by rw[j];exact QP)] at h
    exact tqa (wpAny_rule (tqa (wpAny_lt_int (tqa (tqb (tqb (tqb (tqb {_,rfl,h}))))))))
  | true =>
    rw[show ma a is c js=(if (is==js)=true then false else jw is js) from if_pos j] at h;refine tqb (tqa (tqa (EqAt.intLists k1 k2 S U W prog w _ _ ?_)));cases O:(is==js) with
    | false =>
      rw[O,if_neg QP] at h;exact tqa (wpAny_rule (tqa (qR.lists k1 k2 S U W prog w _ _ (tqa (tqb (tqb (tqb (tqb {_,rfl,h}))))))))
    | true =>
      rw[O,if_pos rfl] at h;exact tqb (tqb (tqb {_,rfl,h}))
 exact richCompare_meets_room {_,ho,rfl} {_,v,rfl} F.slot_tuple_lt F.entry_tuple_lt (F.args_tuple_lt_2 _ _) ml {ho,v,hl,Y,I,show Value.bool (ma a is c js)≠Value.notImplemented/\Q (.bool (ma a is c js)) s from{(λx=>nomatch x),h}} hr
section
variable{prog:Q0}{w:Q2}{A:RL}{I p S:Addr}{items:Array Qo}{R:Result->Qr->Prop}{kw:List (Str×Qo)}
def m8:(toString "min"++toString ".loop":String)="min.loop":=`d
def lJ (I S:Addr)(h h':Heap):Prop:=∀(b:Addr) o,b≠I->b≠S->h.get? b=some o->h'.get? b=some o
def CH (hh:A.in1.handled=none)(hne:p≠I)(P:S≠I)(hSp:S≠p)(Y:Nat->Nat->Bool)(G:Heap->Prop)(hG:∀h h',G h->lJ I S h h'->G h')
 (hcmp:∀i j vi vj (s:Qr) (Q:Qo->Qr->Prop) (E:Qo->Qr->Prop),items[i]?=some vi->items[j]?=some vj->G s.heap->Q (.bool (Y i j)) s->wpAny (model prog w) A.in1 (richCompare .Lt vi vj) Q E s) :
 ∀(k j:Nat) (s:Qr) (L:Qo) (c:Nat),items.size-(j+1)=k->j+1<=items.size->s.heap.IsListIter I p (j+1)->s.heap.IsList p items->items[argBest Y j]?=some L->s.heap.get? S=some {.type "list",none,.seq #[L,L] c,#[]}->G s.heap->
 (∀v h' tk,items[argBest Y (items.size-1)]?=some v->lJ I S s.heap h'->R (.ok (.ret v)) {s with heap:=h',toks:=tk})->codeAny (model prog w) A (.builtin "min.loop" {[.ref I,.none,.ref S],kw}) R s:=by
 have W:=Walks.list (prog:=prog) (w:=w) hh I p hne items;intro k;induction k with
 | zero =>
   intro j s L c hk hj hi hl hb hS g hR;have hin:j+1=items.size:=`a
   refine codeAny_builtin F.entry_min_loop ?_;rw[Sg Sz _];refine tqa (wpAny_seqItems hS rfl ?_);refine tqa (wpAny_tryCatch (W.done s _ _ {hin ▸ hi,hl} λh' tk z=>?_));have y:=z S _ (by simpa using P) hS
   refine tqa (wpAny_updateSeq y rfl (tqa (wpAny_letGo (tqb ?_))));exact hR L _ tk (by rw[<- hin];exact hb) λb o n1 n2 e=>(QU _ _ (Ru n2)).trans (z b o (by simpa using n1) e)
 | succ k ih =>
   intro j s L c hk hj hi hl hb hS g hR;have U:j+1<items.size:=`a
   refine codeAny_builtin F.entry_min_loop ?_;rw[Sg Sz _];refine tqa (wpAny_seqItems hS rfl ?_);refine tqa (wpAny_tryCatch (W.item (j+1) s _ _ U ⟨hi,hl⟩ λv h' tk hP u z=>?_));have y:=z S _ (by simpa using P) hS
   have J:lJ I S s.heap h':=λb o n1 _ e=>z b o (by simpa using n1) e
   show wpAny _ A.in1 (tryCatch (holding [v,v] (richCompare .Lt v L >>= _)) _ >>= _) _ _ _;refine tqa (wpAny_tryCatch (tqo (tqa (hcmp (j+1) (argBest Y j) v L _ _ _ hP hb (hG _ _ g J) ?_))));refine tqa (tqo (tqp ?_));refine tqa (wpAny_letGo (tqb ?_));cases hbb:Y (j+1) (argBest Y j) with
   | true =>
     refine tqa (wpAny_updateSeq y rfl (tqa (wpAny_letGo ?_)));rw[m8];have st2:lJ I S s.heap (h'.update S (Obj.mapSeq λ_=>#[v,v])):=λb o n1 n2 e=>(QU _ _ (Ru n2)).trans (J b o n1 n2 e);refine tqb {plainId_quiet Sz _,ih (j+1) _ v _ `a U (u.1.at λo e=>(QU _ _ P).trans e) (u.2.at λo e=>(QU _ _ hSp).trans e) (by simp only[argBest,hbb,if_true];exact hP) (Ro _ y rfl) (hG _ _ g st2) λv' M H O B=>?_}
     exact hR v' M H O λb o n1 n2 e=>B b o n1 n2 (st2 b o n1 n2 e)
   | false =>
     refine tqa (wpAny_letGo ?_);rw[m8];refine tqb {plainId_quiet Sz _,ih (j+1) _ L c `a U u.1 u.2 (by simp only[argBest,hbb,Bool.false_eq_true,if_false];exact hb) y (hG _ _ g J) λv' M H O B=>?_}
     exact hR v' M H O λb o n1 n2 e=>B b o n1 n2 (J b o n1 n2 e)
def Ah (hh:A.in1.handled=none)(M:p≠I)(z:S≠I)(H:S≠p)(U:Nat->Nat->Bool)(G:Heap->Prop)(hG:∀h h',G h->lJ I S h h'->G h')
 (J:∀i j vi vj (s:Qr) (Q:Qo->Qr->Prop) (E:Qo->Qr->Prop),items[i]?=some vi->items[j]?=some vj->G s.heap->Q (.bool (U i j)) s->wpAny (model prog w) A.in1 (richCompare .Lt vi vj) Q E s)
 (hi:s.heap.IsListIter I p 0) (hl:s.heap.IsList p items) (hS:s.heap.get? S=some {.type "list",none,.seq #[] c,#[]}) (g:G s.heap)
 (hR:∀v h' tk,(items.size=0/\v=dv\/items[argBest U (items.size-1)]?=some v)->lJ I S s.heap h'->R (.ok (.ret v)) {s with heap:=h',toks:=tk}):codeAny (model prog w) A (.builtin "min.loop" {[.ref I,.none,.ref S],[(kn,dv)]}) R s:=by
 have W:=Walks.list (prog:=prog) (w:=w) hh I p M items;refine codeAny_builtin F.entry_min_loop ?_;rw[Sg Sz _];refine tqa (wpAny_seqItems hS rfl ?_);rcases Nat.eq_zero_or_pos items.size with hz|hn
 ·refine tqa (wpAny_tryCatch (W.done s _ _ {hz ▸ hi,hl} λh' tk u=>?_));refine tqa (wpAny_rule (tqb ?_));exact hR dv h' tk (.inl ⟨hz,rfl⟩) λb o n1 _ e=>u b o (by simpa using n1) e
 ·refine tqa (wpAny_tryCatch (W.item 0 s _ _ hn ⟨hi,hl⟩ λv h' tk hP y u=>?_));have B:=u S _ (by simpa using z) hS
  have O:lJ I S s.heap (h'.update S (Obj.mapSeq λ_=>#[v,v])):=λb o n1 n2 e=>(QU _ _ (Ru n2)).trans (u b o (by simpa using n1) e)
  show wpAny _ A.in1 (updateSeq S (λ_=>#[v,v]) >>= _) _ _ _;refine tqa (wpAny_updateSeq B rfl ?_);rw[m8];refine tqb {plainId_quiet Sz _,CH hh M z H U G hG J _ 0 _ v _ rfl hn (y.1.at λo e=>(QU _ _ z).trans e) (y.2.at λo e=>(QU _ _ H).trans e) hP (Ro _ B rfl) (hG _ _ g O) λv' Y P hP' L=>?_};exact hR v' Y P (.inr hP') λb o n1 n2 e=>L b o n1 n2 (O b o n1 n2 e)
end
def Bh (a v:Qo):argsOk "min" {[a],[(Str.ofString "default",v)]}:=by unfold argsOk;kernel_rfl
def A7 (hh:A.in1.handled=none)(hl:s.heap.IsList p items)(H:p<s.heap.objs.size)(y:Nat->Nat->Bool)
 (u:∀i j L M (z:Qr) (Q:Qo->Qr->Prop) (E:Qo->Qr->Prop),items[i]?=some L->items[j]?=some M->(∀b o,s.heap.get? b=some o->z.heap.get? b=some o)->Q (.bool (y i j)) z->wpAny (model prog w) A.in1 (richCompare .Lt L M) Q E z)
 (O:∀v h' tk,(items.size=0/\v=dv\/items[argBest y (items.size-1)]?=some v)->(∀b o,s.heap.get? b=some o->h'.get? b=some o)->Q v {s with heap:=h',toks:=tk}):wpAny (model prog w) A (call (.builtin "min") [.ref p] [(Str.ofString "default",dv)]) Q E s:=by
 refine kmk_tree F.kind_min F.plain_min F.entry_min (Bh _ _) ?_;refine tqa (wpAny_of_eq (rfl) ?_);refine tqa (tqb ?_);refine tqa (wpAny_pyIter_list hl ?_);refine tqa (wpAny_newObj_type ?_);rw[m8];have lt:∀{b:Addr}{o:Obj},s.heap.get? b=some o->b≠s.heap.objs.size/\b≠s.heap.objs.size+1:=λe=>{QW (QG e),QW (Sq (QG e))};have J:(s.heap.push {cls:=.type "list_iterator",data:=.fields #[.ref p,.int 0 0]}).objs.size=s.heap.objs.size+1:=Sf ..;refine tqb {plainId_quiet Sz _,?_};rw[J];have B:∀{b:Addr}{o:Obj},s.heap.get? b=some o->((s.heap.push {cls:=.type "list_iterator",data:=.fields #[.ref p,.int 0 0]}).push {cls:=.type "list",data:=.seq #[]}).get? b=some o:=λe=>Qq _ (Qq _ e);refine Ah hh (QW H) (Nat.succ_ne_self _) (Rt (Sq H)) y (λh=>∀b o,s.heap.get? b=some o->h.get? b=some o) (λh h' g st b o e=>st b o (lt e).1 (lt e).2 (g b o e)) u (c:=0) {_,Qq _ (QK _ rfl),rfl,rfl} (hl.at λo e=>B e) ?_ (λb o e=>B e) λv h' tk P st=>O v h' tk P λb o e=>st b o (lt e).1 (lt e).2 (B e);have:=QK (s.heap.push {cls:=.type "list_iterator",data:=.fields #[.ref p,.int 0 0]}) (o:={cls:=.type "list",data:=.seq #[]}) rfl;rw[J] at this;exact this
def ri (M:Mem):D->Option (Int×List Int)
 |.tup [.int q,r]=>((ef M r).bind intsOf).map λis=>(q,is)
 |_=>none
def ql (M:Mem):List D->Option (List (Int×List Int))
 |[]=>some []
 |d::ds=>(ri M d).bind λk=>(ql M ds).map (k::·)
def md (ks:List (Int×List Int))(i j:Nat):Bool:=ma (ks.getD i (0,[])).1 (ks.getD i (0,[])).2 (ks.getD j (0,[])).1 (ks.getD j (0,[])).2
def lp (a:GE):GE:=λj M=>(a j M).bind λx M=>match ef M x with
 | some h => (match ql M h with
   |some ks=>.ok (h.getD (argBest (md ks) (h.length-1)) .non) M
   |none=>.bad)
 |none=>.bad
def zQ:∀{ds:List D}{ks:List (Int×List Int)},ql M ds=some ks->∀(i:Nat) (d:D),ds[i]?=some d->ri M d=some (ks.getD i (0,[]))
 |[],_,_,_,_,h=>by simp at h
 | d :: ds, ks, e, i, j, h => by
   obtain⟨k,e1,e2⟩:=Rl.mp e;obtain⟨v,u,rfl⟩:=Qv.mp e2;cases i with
   |zero=>cases h;exact e1
   |succ i=>exact zQ u i j h
set_option tactic.hygienic true in
def JK (e:ri M d=some k):∃r ds,d=.tup [.int k.1,r]/\ef M r=some ds/\intsOf ds=some k.2:=by
 unfold ri at e;split at e
 ·next q r=>
  obtain⟨is,e1,rfl⟩:=Qv.mp e;obtain⟨ds,e2,h⟩:=Rl.mp e1;exact⟨r,ds,rfl,e2,h⟩
 ·cases e
section
variable{fa:Fa}{X:Cx}{a:Expr}{ga:GE}{pos p kp cp:Pos}{ci:Nat}
def Jt (hu:Rm X)(hc:X.calm=true)(hg:Gl X "min")(hm:X.mg "min"=none)(ha:DE fa X a ga)(hs:starEach [a] X.env=[(false,eval a X.env)]):DE fa X (.Call (.Name "min" p) [a] [{some "default",.Constant .none ci cp,kp}] pos) (lp ga):=by
 intro E s σ H Q I ⟨μ,Z,M,hE,hM,h⟩;obtain⟨x,M1,e,q⟩:=az h;have hA:=bI ha cW hs pos E s σ H (λvs H1=>∃v y,vs=[v]/\Ext μ H y H1/\RelM fa X.K y H1 M1/\Rep fa X.K y H1 x v) I {μ,Z,M,hE,hM,by rw[e];exact λv H1 y x1 m1 r1=>⟨v,y,rfl,x1,m1,r1⟩}
 refine wpAny_Call_Name_kw (gD I hg hm boot_min ?_);refine callWith_kw (aQ hA λus s1 ⟨vs,H1,I1,r1,v,y,ev,x1,m1,rv⟩=>?_) (by rw[hs];rfl) (by rw[hs];rfl)
 subst ev;cases r1 with
 |cons r1 rr=>
 cases rr;refine kws_cons ?_;refine aQ (E9 E s1 σ H1 (λY O=>∃z,Ext y H1 z O/\RelM fa X.K z O M1/\Y=.non) I1 {y,Z,M1,hE.ext x1,m1,λY O z x2 m2 r2=>⟨z,x2,m2,r2⟩}) λnv s2 ⟨nx,O,I2,r2,z,x2,m2,en⟩=>?_;subst en;obtain rfl:=(r2);refine kws_nil ?_;cases e0:ef M1 x with
 |none=>rw[e0] at q;exact q.elim
 | some ds =>
   rw[e0] at q;cases ek:ql M1 ds with
   |none=>dsimp only at q;rw[ek] at q;exact q.elim
   | some ks =>
     dsimp only at q;rw[ek] at q;have rv2:=rv.ext x2;obtain⟨ad,vs,rfl,sq,rl⟩:=bu m2 rv2 e0;obtain rfl:=r1;obtain⟨B,rvs,pl,hz⟩:=I2.list sq;have P:B.length=ds.length:=by rw[<- rvs.length,rl.length]
     have hAt:∀(i:Nat) (v:Qo),B.toArray[i]?=some v->∃d Y,ds[i]?=some d/\Rep fa X.K z O d Y/\RelV Y v:=λi v L=>by
      have L:B[i]?=some v:=by simpa using L
      have hi:i<vs.length:=by rw[rvs.length];exact(Qm.mp L).1
      obtain⟨d,ed,rd⟩:=rl.getV (QE hi);obtain⟨u,eu,ru⟩:=rvs.get (QE hi);rw[L] at eu;cases eu;exact{d,_,ed,rd,ru}
     have U:∀(i:Nat) (v:Qo) (W:Qr),B.toArray[i]?=some v->(∀b o,s2.heap.get? b=some o->W.heap.get? b=some o)->∃(p l:Addr) (t:Tok) (us:List Qo),v=.ref p/\W.heap.IsTuple p #[.int (ks.getD i (0,[])).1 t,.ref l]/\W.heap.IsList l us.toArray/\SA us (ks.getD i (0,[])).2:=λi v W L g=>by
      obtain⟨d,Y,ed,rd,ru⟩:=hAt i v L;obtain⟨r,rs,rfl,e2,e3⟩:=JK (zQ ek i d ed);obtain⟨tp,tvs,rfl,tsq,F⟩:=rd;obtain rfl:=(ru);have I':Inv X E σ O {s2 with heap:=W.heap,toks:=s2.toks}:=I2.kept g
      obtain⟨tits,J,tpl,_⟩:=I'.tuple tsq;obtain⟨w1,ws1,rfl,q1,F⟩:=F;obtain⟨w2,ws2,rfl,q2,F⟩:=F;cases F;obtain rfl:=(q1);obtain⟨l,lvs,rfl,lsq,lrl⟩:=bu m2 q2 e2;cases J with
      |cons t1 J=>
      cases J with
      |cons t2 J=>
      cases J;obtain⟨t,rfl⟩:=t1;obtain rfl:=t2;obtain⟨lits,lrv,lpl,_⟩:=I'.list lsq;exact{tp,l,t,lits,rfl,tpl,lpl.isList,tB e3 lrl lrv}
     refine A7 (I2.ok.hd hc) pl.isList pl.lt (md ks) (λi j vi vj W Q' E' hi hj g hQ=>?_) λv h' tk L g=>?_
     ·obtain⟨p1,l1,t1,NY,rfl,a1,a2,a3⟩:=U i vi W hi g;obtain⟨p2,l2,t2,Iv,rfl,b1,b2,b3⟩:=U j vj W hj g;exact qR.pairs a1 b1 a2 b2 a3 b3 (by show X.A.units+1<cLine;omega) (by show X.A.units+1+1<cLine;omega) _ _ _ _ hQ
     ·rcases L with⟨hz0,rfl⟩|L
      ·have:ds=[]:=Se.mp (by rw[<- P];simpa using hz0)
       subst this;exact{.non,O,I2.kept g,rfl,aM m2 (aX.ext (aX.ext q x1) x2) rfl}
      ·obtain⟨d,Y,ed,rd,ru⟩:=hAt _ v L;have es:B.toArray.size=ds.length:=by simpa using P
       rw[es] at ed;have q:aX fa X.K μ H Q (ds.getD (argBest (md ks) (ds.length-1)) .non) M1:=q;rw[Rn,ed] at q;exact{Y,O,I2.kept g,ru,aM m2 (aX.ext (aX.ext q x1) x2) rd}
end
section
variable{prog:Q0}{w:Q2}{A:RL}{E:Qo->Qr->Prop}{s:Qr}{d:Addr}{od:Obj}{es:Array RK}{ep:Nat}
def Io (hh:A.handled=none){I:Addr}(H:d≠I)(y:od.data=.dict es ep):Walks prog w A I [I,d] [I] es.size (λi v=>∃e,es[i]?=some e/\v=e.key) (λi h=>h.IsKeyIter I d i es.size ep/\h.get? d=some od) where
 sub:=λb u=>by rw[QN.mp u];simp
 frame:=λi h B st k=>{st.1.at λo e=>k I `s o e,k d `s _ st.2}
 item:=λi s Q E J st j=>ue st.1 st.2 y (R6 J) λB F hs=>j _ B s.toks {_,R6 J,rfl} {F,(hs.2 d H).trans st.2} λb o u e=>hs.extBut b o (λz=>u (by rw[z];simp)) e
 done:=λs Q E st j=>we hh st.1 st.2 y (Qt _) λB x=>j B s.toks λb o u e=>x b o (λz=>u (by rw[z];simp)) e
 self:=λi s Q E st j=>wpAny_pyIter_keyiter st.1 j
def vh {R:Result->Qr->Prop}(hh:A.handled=none)(hsm:(d==sysModules)=false)(ho:s.heap.get? d=some od)(hc:od.ExactDict)(Q:od.data=.dict es ep)(hn:es.size<=sizeLine)(S:Addr)(j:S≠d)(W:Qo)(J:Nat)(hS:s.heap.get? S=some {cls:=.type "list",data:=.seq #[] J})
 (hR:∀h' tk acc H,(∀b o,b≠S->s.heap.get? b=some o->h'.get? b=some o)->h'.get? S=some {.type "list",none,.seq acc H,#[]}->ItemsOf (λi v=>∃e,es[i]?=some e/\v=e.key) acc es.size->R (.ok (.ret W)) {s with heap:=h',toks:=tk}) :
 wpAny (model prog w) A.in1 (Builtin.List.listExtendWith (.ref S) (.ref d) W) (λfin B=>match fin with|.done f=>R (.ok f) B|.again H=>H.quiet=true/\codeAny (model prog w) A H R B) (λe B=>R (.error e) B) s:=by
 have hT:s.TypeIs (.ref d) "dict":=⟨od,ho,hc.1⟩;have M:=QW (QG hS);have hdI:=QW (QG ho);unfold Builtin.List.listExtendWith;refine tqa (wpAny_typeOf hT ?_);have h1:Builtin.List.listSameRef (.ref S) (.ref d)=false:=by simp[Builtin.List.listSameRef,j]
 have h2:(Value.type "dict"==Value.type "list")=false:=`d
 have h3:(Value.type "dict"==Value.type "tuple")=false:=`d
 simp only[h1,h2,h3,Bool.or_false,Bool.false_eq_true,if_false];refine tqa (Ax hsm ho hc Q ?_);have u:Shared.TypeIs {s with heap:=s.heap.push {cls:=.type "dict_keyiterator",data:=.fields #[.ref d,.int 0 0,.int es.size 0,.int ep 0]}} (.ref d) "dict":={od,Qq _ ho,hc.1}
 refine tqa (tqo ?_);unfold Builtin.List.listLengthHint;refine tqa (wpAny_specialOf u PySem.F.slot_dict_len.lookup ?_)
 wp_delta
 refine tqa (wpAny_isInstance (b:=true) u (by rw[isSubtype_type];kernel_rfl) ?_)
 show wpAny _ _ (typeOf (Value.ref d) >>= _) _ _ _;refine tqa (wpAny_typeOf u ?_);refine tqb ?_;rw[if_pos `d]
 have hSf:S∉[s.heap.objs.size,d]:=λz=>by
  rcases Q1.mp z with z|z
  ·exact M z
  ·exact j (QN.mp z)
 generalize U:s.heap.push {cls:=.type "dict_keyiterator",data:=.fields #[.ref d,.int 0 0,.int es.size 0,.int ep 0]}=h1;have Y:∀{b:Addr}{o:Obj},s.heap.get? b=some o->h1.get? b=some o:=λe=>by rw[<- U];exact Qq _ e
 have hit:h1.get? s.heap.objs.size=some {cls:=.type "dict_keyiterator",data:=.fields #[.ref d,.int 0 0,.int es.size 0,.int ep 0]}:=by rw[<- U];exact QK _ rfl
 refine tqa (wpAny_rule (tqa ?_));show wpAny _ _ (updateSeq S (·.push .none) >>= λ_=>updateSeq S (·.pop)) _ _ {s with heap:=h1}
 refine tqa (wpAny_updateSeq (Y hS) rfl ?_);have L:=Ro (Obj.mapSeq (·.push Value.none)) (Y hS) rfl;refine wpAny_updateSeq L rfl ?_;have hS3:=Ro (Obj.mapSeq (·.pop)) L rfl;have y:∀{b:Addr}{o:Obj},b≠S->h1.get? b=some o->((h1.update S (Obj.mapSeq (·.push Value.none))).update S (Obj.mapSeq (·.pop))).get? b=some o:=λP e=>(QU _ _ (Ru P)).trans ((QU _ _ (Ru P)).trans e);refine tqb {plainId_quiet PySem.F.plain_extend_loop _,codeAny_extend_loopS (Io (A:=A.in1) hh hdI Q).toS hn _ hSf _ es.size 0 _ _ _ rfl (RX _) {{_,y (Ru M) hit,rfl,rfl},y (Ru j) (Y ho)} hS3 (ItemsOf.nil _) λB I H hm hS' O=>?_};rw[Moved.eq_with hm];refine hR B.heap B.toks I H (λb ob P e=>hm.heap b ob (λh=>?_) (y P (Y e))) hS' O;rcases Q1.mp h with e'|h
 ·exact P e'
 ·exact absurd (QG e) (by rw[QN.mp h];exact RO _)
def yj {Q:Qo->Qr->Prop}(hh:A.handled=none)(L:(d==sysModules)=false)(ho:s.heap.get? d=some od)(P:od.ExactDict)(J:od.data=.dict es ep)(hn:es.size<=sizeLine)
 (M:∀h' tk acc H,(∀b o,s.heap.get? b=some o->h'.get? b=some o)->h'.get? s.heap.objs.size=some {.type "list",none,.seq acc H,#[]}->ItemsOf (λi v=>∃e,es[i]?=some e/\v=e.key) acc es.size->Q (.ref s.heap.objs.size) {s with heap:=h',toks:=tk}) :
 wpAny (model prog w) A (call (.type "list") [.ref d]) Q E s:=by
 refine callType_codes (Q₁:=λobj h=>obj=.ref s.heap.objs.size/\h={s with heap:=s.heap.push {cls:=.type "list",data:=.seq #[]}}) PySem.F.called_list (PySem.F.typeCall_list_1 _) PySem.F.entry_list_init (code_list_new _ ⟨rfl,rfl⟩) λobj h y=>?_
 obtain⟨rfl,rfl⟩:=y;have u:=QG ho;have B:(s.heap.push {cls:=.type "list",data:=.seq #[]}).get? s.heap.objs.size=some {cls:=.type "list",data:=.seq #[]}:=QK _ rfl;refine{{_,B,rfl},PySem.F.args_list_init_2 _ _,?_};show wpAny _ _ (do let old <- Builtin.List.listItems (.ref s.heap.objs.size);Builtin.List.listUpdate (.ref s.heap.objs.size) (λ_=>#[]);letGo old.toList.reverse;Builtin.List.listExtendWith (.ref s.heap.objs.size) (.ref d) .none) _ _ _
 refine tqa ?_;unfold Builtin.List.listItems;refine tqa (wpAny_seqItems B rfl (tqb ?_));show wpAny _ _ (updateSeq s.heap.objs.size (λ_=>#[]) >>= λ_=>letGo (#[]:Array Qo).toList.reverse >>= λ_=>Builtin.List.listExtendWith (.ref s.heap.objs.size) (.ref d) .none) _ _ _;refine tqa (wpAny_updateSeq B rfl ?_);have z:∀b o,b≠s.heap.objs.size->s.heap.get? b=some o->((s.heap.push {cls:=.type "list",data:=.seq #[]}).update s.heap.objs.size (Obj.mapSeq (λ_=>(#[]:Array Qo)))).get? b=some o:=λb o O e=>(QU _ _ (Ru O)).trans (Qq _ e);refine tqa (wpAny_letGo ?_);refine vh (A:=A.in1) hh L (z d od (QW u) ho) P J hn _ (Rt u) .none _ (Ro (Obj.mapSeq (λ_=>(#[]:Array Qo))) B rfl) λh' tk acc H R I j=>?_;exact{rfl,M h' tk acc H (λb o e=>R b o (QW (QG e)) (z b o (QW (QG e)) e)) I j}
end
def ki (m:Bool)(a:GE):GE:=λh M=>(a h M).bind λx M=>match x with
 | .fn o => (match bq M o with
   |some q=>ba m (q.2.map cK) M
   |none=>.bad)
 |_=>.bad
def CW {fa:Fa}{K:Ql}{μ:Mu}{H:Hp}{c:Int}{j:List (D×D)}{es:List RK}(h:R7 (mO fa K μ H c) j es):∃vs,aG fa K μ H ((j.map ib).map cK) vs/\Vals vs (es.map (·.key)):=by
 induction h with
 |nil=>exact{[],rfl,.nil}
 | cons h t y =>
   obtain⟨vs,r,v⟩:=y;obtain⟨b,_,u,_,z,_⟩:=h;exact{.ref b::vs,{.ref b,vs,rfl,z,r},.cons (u.trans rfl) v}
section
variable{fa:Fa}{X:Cx}{a:Expr}{ga:GE}{pos p:Pos}
def Hn (hc:X.calm=true)(hd:eB fa)(m:Bool):b8 X (.type "list") (λxs H Q=>∃μ M o q x,RelM fa X.K μ H M/\xs=[x]/\Rep fa X.K μ H (.fn o) x/\bq M o=some q/\ae (ba m (q.2.map cK) M) (aX fa X.K μ H Q)):=by
 intro P s σ H xs us Q I r h;obtain⟨μ,M,o,q,x,J,rfl,rx,e,w⟩:=h;obtain⟨u,rfl,ru⟩:=vals1 r;obtain⟨ad,_,_,_,rfl,_,ha,_⟩:=ku hd I J rx e;obtain rfl:=(ru);obtain⟨es,kvs,hH,F,pr⟩:=nA hd J ha e;obtain⟨R,rl,S⟩:=CW pr;rw[F] at w;obtain⟨_,k⟩:=fV J rl w;obtain⟨z,y,ob,h1,h2,h3⟩:=(I.hok ad _ hH);refine yj (I.ok.hd hc) y h1 h2 h3 (by simpa using z) λh' tk v U kp O j=>?_
 have Y:v=(es.map (·.key)).toArray:=by
  refine Array.ext_getElem? λi=>?_;have hs:v.size=es.length:=by have:=j.1;simpa using this
  rcases Si i v.size with B|B
  ·rw[R6 B];obtain⟨W,L,ev⟩:=j.2 i _ (R6 B);rw[ev];have L:es[i]?=some W:=by simpa using L
   simp[L]
  ·rw[Array.getElem?_eq_none B];exact(Array.getElem?_eq_none (by rw[QD,Qn,<- hs];exact B)).symm
 rw[Y] at O;have hl:R.length<=sizeLine:=by rw[S.length,Qn];exact z
 exact{.ref s.heap.objs.size,_,I.laid kp (Qt _) (show cf X.prog X.w _ h' _ (.lst R) from{hl,_,U,S,O}),rfl,k _ (I.hok.fresh (Qt _))}
def GC (I:X.calm=true)(hd:eB fa)(m:Bool)(J:Gl X "list")(hm:X.mg "list"=none)(F:DE fa X a ga)(hs:starEach [a] X.env=[(false,eval a X.env)]):DE fa X (.Call (.Name "list" p) [a] [] pos) (ki m ga):=
 bt (rj (Hn I hd m) J hm boot_list (bI F cW hs) (he:=by rw[hs];rfl)) λU H Q ⟨O,P,M,z,B,h⟩=>by
  obtain⟨x,y,e1,h1⟩:=az h;refine{O,P,M,z,B,?_};rw[e1];intro v R u L j r1;cases x with
  | fn o =>
    dsimp only at h1;cases eq:bq y o with
    |none=>rw[eq] at h1;exact h1.elim
    |some q=>rw[eq] at h1;exact{u,y,o,q,v,j,rfl,r1,eq,aU h1 λd S h2=>aX.ext h2 L}
  |_=>exact h1.elim
end
end LD
namespace LD
open PySem
def ob {α β:Type}{a:Option α}{f:α->Option β}{r:β}(h:a.bind f=some r):∃x,a=some x/\f x=some r:=Rl.mp h
def oi {α:Type}{c:Prop}[Decidable c]{a:Option α}{r:α}(h:(if c then a else none)=some r):c/\a=some r:=by
 split at h
 ·exact{by assumption,h}
 ·cases h
section
variable{β:Type}{r:β}{e:Expr}{st:Stmt}
def od {c:Prop}[Decidable c]{f:c->Option β}(h:(if x:c then f x else none)=some r):∃x,f x=some r:=by
 by_cases z:c
 ·rw[dif_pos z] at h;exact⟨z,h⟩
 ·rw[dif_neg z] at h;cases h
local macro_rules|`(command|#check $n:ident $a*)=>do
 let m:=a[0]!.raw;let c:Lean.TSyntax `ident:=⟨a[1]!.raw⟩;let v:Array (Lean.TSyntax `ident):=(a.extract 3 a.size).map λx=>⟨x.raw⟩;let f:=Lean.mkIdentFrom c (c.getId++`elim)
 `(noncomputable def $n {β:Type} e:=λg=>if h:e.ctorIdx=$(⟨a[2]!.raw⟩) then @$f (λ_=>Option β) e h g else none
 theorem $(⟨m⟩) {β:Type}{e}{g}{y:β}(h:$n e g=some y):∃$[$v:ident]*,e=$c $v*∧g $v*=some y:=(od h).elim λz h=>@$f (λe=>∀z,@$f (λ_=>Option β) e z g=some y→∃$[$v:ident]*,e=$c $v*∧g $v*=some y) e z (λ$v* _ h=>by exact⟨$v,*,rfl,h⟩) z h)
#check Oc Ac Expr.UnaryOp 3 a b c
#check Ew t7 Expr.BoolOp 0 a b c
#check Od Ad Expr.ListComp 8 a b c d
#check Ka v7 Expr.IfExp 5 a b c d
#check CG ni Expr.Compare 15 a b c d
#check pD i8 Expr.Call 16 a b c d
#check O2 G5 Expr.FormattedValue 17 a b c d
#check O1 G4 Expr.JoinedStr 18 a b
#check xB nh Expr.Constant 19 a b c
#check xC oA Expr.Attribute 20 a b c
#check t6 j8 Expr.Subscript 21 a b c
#check nName cw Expr.Name 23 a b
#check t5 gW Expr.Tuple 25 a b c
#check OZ G2 Expr.Slice 26 a b c d
#check xl mV Stmt.Assign 5 a b c
#check Jm vH Stmt.Raise 16 a b c
#check sTr Jk Stmt.Try 17 a b c d f
#check xj mU Stmt.Expr 24 a b
#check O3 G6 Expr.BinOp 2 a b c d
#check O0 G3 Expr.List 24 a b
#check sRt Jl Stmt.Return 3 a b
#check sFr Jq Stmt.For 9 a b c d f
#check sIf Jp Stmt.If 12 a b c d
#check sPs Jn Stmt.Pass 25 a
variable{α:Type}{l:List α}
noncomputable def n0 (l:List α)(v:Option β):Option β:=if l.isEmpty=true then v else none
def eG {v:Option β}(h:n0 l v=some r):l=[]/\v=some r:=(oi h).elim λc h=>{List.isEmpty_iff.mp c,h}
noncomputable def nC (l:List α)(k:α->List α->Option β):Option β:=match l with
 |[]=>none
 |a::s=>k a s
def iF {k:α->List α->Option β}(h:nC l k=some r):∃a s,l=a::s/\k a s=some r:=by
 cases l with
 |nil=>cases h
 |cons a s=>exact⟨a,s,rfl,h⟩
def n1 (l:List α)(k:α->Option β):Option β:=nC l λa s=>n0 s (k a)
def cb {k:α->Option β}(h:n1 l k=some r):∃a,l=[a]/\k a=some r:=by
 obtain⟨a,s,rfl,h⟩:=iF h;obtain⟨rfl,h⟩:=eG h;exact⟨a,rfl,h⟩
def n2 (l:List α)(k:α->α->Option β):Option β:=nC l λa s=>n1 s (k a)
def gA {k:α->α->Option β}(h:n2 l k=some r):∃a b,l=[a,b]/\k a b=some r:=by
 obtain⟨a,s,rfl,h⟩:=iF h;obtain⟨b,rfl,h⟩:=cb h;exact⟨a,b,rfl,h⟩
def CD (e:Expr)(k:Str->Option β):Option β:=xB e λc _ _=>match c with
 |.str z=>k z
 |_=>none
def vZ {k:Str->Option β}(h:CD e k=some r):∃z i p,e=.Constant (.str z) i p/\k z=some r:=by
 obtain⟨c,i,p,rfl,h⟩:=nh h;cases c with
 |str z=>exact⟨z,i,p,rfl,h⟩
 |_=>cases h
def Oe (e:Expr)(k:Expr->Option β):Option β:=O2 e λa i s _=>if i=-1/\s.isNone=true then k a else none
def Kb {k:Expr->Option β}(h:Oe e k=some r):∃a p,e=.FormattedValue a (-1) none p/\k a=some r:=by
 obtain⟨a,i,s,p,rfl,h⟩:=G5 h;obtain⟨⟨rfl,c⟩,k⟩:=oi h;rw[Sm.mp c];exact⟨a,p,rfl,k⟩
noncomputable def nG (c:Sw)(k:Expr->Expr->List Expr->Option β):Option β:=if c.is_async=0 then k c.target c.iter c.ifs else none
def sj {c:Sw}{k:Expr->Expr->List Expr->Option β}(h:nG c k=some r):∃t i f,c={t,i,f,0}/\k t i f=some r:=by
 obtain⟨z,h⟩:=oi h;cases c;cases z;exact{_,_,_,rfl,h}
def lZ (e:Expr)(k:Str->List Expr->Pos->Option β):Option β:=pD e λf es ks p=>nName f λx _=>n0 ks (k x es p)
def fH {k:Str->List Expr->Pos->Option β}(h:lZ e k=some r):∃x q es p,e=.Call (.Name x q) es [] p/\k x es p=some r:=by
 obtain⟨f,es,ks,p,rfl,h⟩:=i8 h;obtain⟨x,q,rfl,h⟩:=cw h;obtain⟨rfl,h⟩:=eG h;exact⟨x,q,es,p,rfl,h⟩
def Kd (e:Expr)(k:Expr->Str->Expr->Bool->Option β):Option β:=pD e λf es ks p=>xC f λa m q=>n0 ks (n1 es λd=>k a m d (q.endLine==p.line))
def Ae {k:Expr->Str->Expr->Bool->Option β}(h:Kd e k=some r):∃a m q d p,e=.Call (.Attribute a m q) [d] [] p/\k a m d (q.endLine==p.line)=some r:=by
 obtain⟨f,es,ks,p,rfl,h⟩:=i8 h;obtain⟨a,m,q,rfl,h⟩:=oA h;obtain⟨rfl,h⟩:=eG h;obtain⟨d,rfl,h⟩:=cb h;exact⟨a,m,q,d,p,rfl,h⟩
def bO {a b:Option β}(h:a.or b=some r):a=some r\/b=some r:=by
 cases a with
 |none=>exact .inr h
 |some x=>exact .inl h
end
end LD
namespace LD
open PySem PySem.Spec PyProof.Rows L2
noncomputable def maxD:List D->Mem->Res D
 |[.int a,.int b],M=>.ok (.int (if b > a then b else a)) M
 |_,_=>.bad
def qw (s:GA):GE:=λj M=>(s j M).bind λh M=>maxD h M
def OV (fa:Fa)(K:Ql):List V->Hp->VK->Prop:=λu H Q=>∃h M j,RelM fa K h H M/\aG fa K h H j u/\ae (maxD j M) (aX fa K h H Q)
section
variable{fa:Fa}{X:Cx}{a:Expr}{es:List Expr}{gs:GA}{p pos:Pos}
set_option tactic.hygienic true in
def Nf (B:X.calm=true):b8 X (.builtin "max") (OV fa X.K):=by
 intro y s Y H xs U Q I r h;obtain⟨W,M,R,z,L,h⟩:=h;unfold maxD at h;split at h
 ·next i j=>
  obtain⟨O,r1,rfl,h1,h2⟩:=L;obtain⟨P,r2,rfl,h3,h4⟩:=h2;obtain rfl:r2=[]:=h4;obtain rfl:O=.int i:=h1;obtain rfl:P=.int j:=h3;cases r with
  | cons F v =>
    cases v with
    | cons v J =>
      cases J;obtain⟨t,rfl⟩:=F;obtain⟨u,rfl⟩:=v;refine max_two_ints (I.ok.hd B) λS tk E=>?_;refine{.int (if j > i then j else i),H,I.kept E,?_,aM z h rfl};split
      ·exact⟨u,rfl⟩
      ·exact⟨t,rfl⟩
 ·exact h.elim
def Mx (I:X.calm=true)(J:Gl X "max")(hm:X.mg "max"=none)(hs:DA fa X (a::es) gs)(he:notStar a=true)(u:es.all notStar=true) :
 DE fa X (.Call (.Name "max" p) (a::es) [] pos) (qw gs):=
 bt (i7 (Nf I) J hm `k hs `d `d (aR he) (cu u)) λU H Q ⟨R,S,M,B,F,h⟩=>sS B F h λz y P O v L E j r1 h1=>{v,y,z,j,r1,ju h1 L}
end
inductive En where
 |fn (i:Nat) (r:Bool)|fnD (i:Nat)|int (i:Int)|str (z:Str)|dct (fs:List (Str×Nat))|xc (k:Nat)|xi (k:Nat)|xk (k:Nat)|de|bl|cls (c f:Nat)
structure Fm (fa:Fa) (P:Q0) (w:Q2) (K:Ql) (mg:Str->Option Qo) (base:Heap) (T:List (Str×En)):Prop where
 fn:∀{x:Str}{i:Nat}{r:Bool},T.lookup x=some (.fn i r)->∀ad,fa i=some ad->mg x=some (.ref ad)
 fnD:∀{x:Str}{i:Nat},T.lookup x=some (.fnD i)->(∀ad,fa i=some ad->mg x=some (.ref ad))/\(fa (500+i)).isSome=true
 int:∀{x:Str}{i:Int},T.lookup x=some (.int i)->∃t,mg x=some (.int i t)
 str:∀{x:Str}{z:Str},T.lookup x=some (.str z)->∃t,mg x=some (.str z t)
 dct:∀{x:Str}{fs:List (Str×Nat)},T.lookup x=some (.dct fs)->∃ad kvs,mg x=some (.ref ad)/\fz K w.params ad kvs/\d9 fa kvs fs
 xc:∀{x:Str}{k:Nat},T.lookup x=some (.xc k)->∃C,mg x=some (.ref C)/\fa (eU k)=some C/\PySem.W.excIn K C nX "ValueError.__new__"=true/\PySem.W.keepIn K (.ref C)=true
 xi:∀{x:Str}{k:Nat},T.lookup x=some (.xi k)->kC fa P w K mg base k x/\∃D,mg x=some (.ref D)/\fa (eU k)=some D
 xk:∀{x:Str}{k:Nat},T.lookup x=some (.xk k)->∃D,mg x=some (.ref D)/\fa (eU k)=some D
 de:∀{x:Str},T.lookup x=some .de->∃D,mg x=some (.ref D)/\fa 999=some D
 bl:∀{x:Str},T.lookup x=some .bl->mg x=none
 xcs:L1 fa K
 ob:L6 fa K
 of:∀o,5000<=o->fa o=none
 od:fa (jv 77)=none/\fa (jv 78)=none
 cls:∀{x:Str}{c f:Nat},T.lookup x=some (.cls c f)->∃C,mg x=some (.ref C)/\fa (jv c)=some C/\∀ad,fa f=some ad->Mk K C ad
structure G where
 T:List (Str×En)
 tw:List (Str×Str×Nat×Nat)
 xf:List Str
 cel:List (Nat×Nat×Nat)
 txt:List (Nat×Nat×Nat)
 ms:List (Str×Nat×Nat)
 c:Call
 N:List Str
 sc:Scope
 lv:Nat
 oc:List Str:=[]
structure dJ (fa:Fa) (n:Nat) (g:G) (X:Cx):Prop where
 N:X.N=g.N
 nd:g.N.Nodup
 sc:X.env.scope=g.sc
 T:Fm fa X.prog X.w X.K X.mg X.base g.T
 tw:∀q∈g.tw,wO fa X.K X.mg q.1 q.2.1 q.2.2.1 q.2.2.2
 xf:∀f∈g.xf,Fi fa X.K f
 ms:∀q∈g.ms,pZ fa X.K q.1 q.2.1 q.2.2
 fn:g.lv≠1->∀x,X.fn x=true
 oc:∀x∈g.oc,X.fn x=true
 calm:0<g.lv->X.calm=true
 C:0<g.lv->∀f,gO fa X.prog X.w X.K X.mg X.base n f (g.c f)
 hr:0<g.lv->bW (2*n+4+1) X.A
 top:2<=g.lv->X.ex=[]/\X.stack=X.env::X.outer/\X.env.frame=some X.env.locals/\X.env.scope.kind=.function
 po:g.lv=2->PassesOwn (model X.prog X.w) X.A X.env X.xe
structure Rc where
 e:G->Expr->Option GE
 t:G->Expr->Option GT
 x:G->Expr->Option GE
 w:G->Expr->Expr->Option GW
 s:G->Stmt->Option GS
abbrev di:=Rc->G->Expr->Option GE
abbrev Fn:=Rc->G->Expr->Option GT
abbrev u9:=Rc->G->Expr->Expr->Option GW
abbrev jJ:=Rc->G->Stmt->Option GS
structure iB (fa:Fa) (n:Nat) (R:Rc):Prop where
 e:∀{g:G}{X:Cx}{a:Expr}{ga:GE},dJ fa n g X->R.e g a=some ga->DE fa X a ga
 t:∀{g:G}{X:Cx}{a:Expr}{ga:GT},dJ fa n g X->R.t g a=some ga->DT fa X a ga
 x:∀{g:G}{X:Cx}{a:Expr}{ga:GE},dJ fa n g X->R.x g a=some ga->DX fa X a ga
 w:∀{g:G}{X:Cx}{t a:Expr}{ga:GW},dJ fa n g X->R.w g t a=some ga->DI fa X t a ga
 s:∀{g:G}{X:Cx}{a:Stmt}{ga:GS},dJ fa n g X->R.s g a=some ga->DS fa X a ga
def SE (r:di):Prop:=∀{fa:Fa}{n:Nat}{R:Rc},iB fa n R->∀{g:G}{X:Cx},dJ fa n g X->∀{a:Expr}{h:GE},r R g a=some h->DE fa X a h
def ST (r:Fn):Prop:=∀{fa:Fa}{n:Nat}{R:Rc},iB fa n R->∀{g:G}{X:Cx},dJ fa n g X->∀{a:Expr}{h:GT},r R g a=some h->DT fa X a h
def SX (r:di):Prop:=∀{fa:Fa}{n:Nat}{R:Rc},iB fa n R->∀{g:G}{X:Cx},dJ fa n g X->∀{a:Expr}{h:GE},r R g a=some h->DX fa X a h
def SW (r:u9):Prop:=∀{fa:Fa}{n:Nat}{R:Rc},iB fa n R->∀{g:G}{X:Cx},dJ fa n g X->∀{t a:Expr}{h:GW},r R g t a=some h->DI fa X t a h
def SS (r:jJ):Prop:=∀{fa:Fa}{n:Nat}{R:Rc},iB fa n R->∀{g:G}{X:Cx},dJ fa n g X->∀{a:Stmt}{h:GS},r R g a=some h->DS fa X a h
structure Rs where
 e:List di
 t:List Fn
 x:List di
 w:List u9
 s:List jJ
noncomputable def It (rs:Rs):Nat->Rc
 |0=>{λ_ _=>none,λ_ _=>none,λ_ _=>none,λ_ _ _=>none,λ_ _=>none}
 |n+1=>{λg a=>rs.e.findSome? λr=>r (It rs n) g a,λg a=>rs.t.findSome? λr=>r (It rs n) g a,λg a=>rs.x.findSome? λr=>r (It rs n) g a,λg t a=>rs.w.findSome? λr=>r (It rs n) g t a,λg a=>rs.s.findSome? λr=>r (It rs n) g a}
def AllP {h:Type}(p:h->Prop):List h->Prop
 |[]=>True
 |a::l=>p a/\AllP p l
def AllP.mem {j:Type}{p:j->Prop}:∀{l:List j},AllP p l->∀a∈l,p a
 |_::_,h,a,m=>(Q1.mp m).elim (λe=>e ▸ h.1) (AllP.mem h.2 a)
structure DC (rs:Rs):Prop where
 e:AllP SE rs.e
 t:AllP ST rs.t
 x:AllP SX rs.x
 w:AllP SW rs.w
 s:AllP SS rs.s
def Fq (h:DC rs):∀k,iB fa n (It rs k)
 |0=>{(λ_ z=>nomatch z),(λ_ z=>nomatch z),(λ_ z=>nomatch z),(λ_ z=>nomatch z),(λ_ z=>nomatch z)}
 | k + 1 => by
   have j:=Fq (n:=n) (fa:=fa) h k;refine{λo z=>?_,λo z=>?_,λo z=>?_,λo z=>?_,λo z=>?_}
   ·obtain⟨r,m,e⟩:=R4 z;exact h.e.mem r m j o e
   ·obtain⟨r,m,e⟩:=R4 z;exact h.t.mem r m j o e
   ·obtain⟨r,m,e⟩:=R4 z;exact h.x.mem r m j o e
   ·obtain⟨r,m,e⟩:=R4 z;exact h.w.mem r m j o e
   ·obtain⟨r,m,e⟩:=R4 z;exact h.s.mem r m j o e
noncomputable def Ou:Str:="__debug__"
def ik (g:G)(x:Str):Bool:=g.sc.names.lookup x==some .globalImplicit&&!(x==Ou)
def vr (g:G)(x:Str):Option Nat:=if (g.sc.names.lookup x==some .local||g.sc.names.lookup x==some .cell||g.sc.names.lookup x==some .free)&&!(x==Ou)&&!(x==("__classdict__":Str)) then g.N.findIdx? (·==x) else none
section
variable{fa:Fa}{n:Nat}{g:G}{X:Cx}{R:Rc}(o:dJ fa n g X)
include o
theorem cH (h:ik g x=true):Gl X x/\(x==("__debug__":Str))=false:=by
 unfold ik at h;rw[Qs,Sr] at h;exact{by show X.env.scope.names.lookup x=_;rw[o.sc];exact eq_of_beq h.1,h.2}
theorem xR (h:g.N.findIdx? (·==x)=some i):X.N[i]?=some x:=by
 obtain⟨j,h1,_⟩:=List.findIdx?_eq_some_iff_getElem.mp h;rw[o.N,QE j,eq_of_beq h1]
theorem DY (h:vr g x=some i):X.N[i]?=some x/\u7 X.env.scope x/\(x==("__debug__":Str))=false/\(x==("__classdict__":Str))=false:=by
 obtain⟨c,h⟩:=oi h;simp only[Qs,RF,Sr] at c;refine{xR o h,?_,c.1.2,c.2};rw[o.sc];rcases c.1.1 with(z|z)|z
 ·exact .inl (eq_of_beq z)
 ·exact .inr (.inl (eq_of_beq z))
 ·exact .inr (.inr (eq_of_beq z))
omit o
theorem dJ.rm (o:dJ fa n g X)(h:0<g.lv):Rm X:=Gs (o.hr h)
end
def cA (f:Expr->Option GE):List Expr->Option GA
 |[]=>some c9
 |a::r=>if notStar a=true then(f a).bind λx=>(cA f r).bind λy=>some (dY x y) else none
def jG (v:∀{a:Expr}{j:GE},f a=some j->DE fa X a j):∀{es:List Expr}{u:GA},cA f es=some u->DA fa X es u/\es.all notStar=true
 |[],_,h=>by cases h;exact⟨LI,rfl⟩
 | a :: r, _, h => by
   obtain⟨c,h⟩:=oi h;obtain⟨x,z,h⟩:=ob h;obtain⟨y,B,h⟩:=ob h;cases h;obtain⟨h1,h2⟩:=jG v B;exact{HN (v z) h1 (aR c),by rw[RJ,c,h2];rfl}
noncomputable def u2 (f:Expr->Option GE)(k:GE->GE->GE):List Expr->Option GE
 |[]=>none
 |[a]=>f a
 |a::b::r=>(f a).bind λx=>(u2 f k (b::r)).bind λy=>some (k x y)
def wN (j:∀{a:Expr}{u:GE},f a=some u->DE fa X a u):∀{es:List Expr}{ge:GE},u2 f eL es=some ge->DE fa X (.BoolOp .And es pos) ge
 |[a],_,h=>E8 (j h)
 | a :: b :: r, _, h => by
   obtain⟨x,v,h⟩:=ob h;obtain⟨y,z,h⟩:=ob h;cases h;exact NJ (j v) (wN j z)
def Bg (j:∀{a:Expr}{u:GE},f a=some u->DE fa X a u):∀{es:List Expr}{ge:GE},u2 f uu es=some ge->DE fa X (.BoolOp .Or es pos) ge
 |[a],_,h=>E8 (j h)
 | a :: b :: r, _, h => by
   obtain⟨x,v,h⟩:=ob h;obtain⟨y,z,h⟩:=ob h;cases h;exact PF (j v) (Bg j z)
noncomputable def sR (f:Expr->Option GT)(k:GT->GT->GT):List Expr->Option GT
 |[]=>none
 |[a]=>f a
 |a::b::r=>(f a).bind λx=>(sR f k (b::r)).bind λy=>some (k x y)
def vu (j:∀{a:Expr}{u:GT},f a=some u->DT fa X a u):∀{es:List Expr}{ge:GT},sR f fD es=some ge->DW fa X (.BoolOp .And es pos) ge
 |[a],_,h=>Hw (j h)
 | a :: b :: r, _, h => by
   obtain⟨x,v,h⟩:=ob h;obtain⟨y,z,h⟩:=ob h;cases h;exact Lh (j v) (vu j z)
def zh (j:∀{a:Expr}{u:GT},f a=some u->DT fa X a u):∀{es:List Expr}{ge:GT},sR f eX es=some ge->DW fa X (.BoolOp .Or es pos) ge
 |[a],_,h=>Lg (j h)
 | a :: b :: r, _, h => by
   obtain⟨x,v,h⟩:=ob h;obtain⟨y,z,h⟩:=ob h;cases h;exact Nl (j v) (zh j z)
def D4:di:=λ_ g e=>nName e λx _=>((vr g x).bind λi=>some (aa i)).or (if ik g x=true then(g.T.lookup x).bind fun
 |.int i=>some (gC (.int i))
 |.str i=>some (gC (.str i))
 |_=>none else none)
def Bz:SE D4:=by
 intro fa n R y g X o a u h;replace h:=cw h;obtain⟨x,p,rfl,h⟩:=h;rcases bO h with h|h
 ·obtain⟨i,e,h⟩:=ob h;cases h;obtain⟨a,b,c,d⟩:=DY o e;exact Nq a b c d
 ·obtain⟨c,h⟩:=oi h;obtain⟨j,hd⟩:=cH o c;obtain⟨t,e,h⟩:=ob h;cases t with
  |int i=>cases h;exact Gy j (o.T.int e) hd
  |str i=>cases h;obtain⟨t,e⟩:=o.T.str e;exact iW (v:=.str _) (j0 j e ⟨t,rfl⟩ hd) λ_ _=>rfl
  |_=>cases h
def y4:di:=λ_ _ e=>xB e fun
 |.int i,_,_=>some (gC (.int i))
 |.bool i,_,_=>some (gC (.bl i))
 |.str i,_,_=>some (gC (.str i))
 |.none,_,_=>some (gC .non)
 |_,_,_=>none
def y3:SE y4:=by
 intro fa n R u g X o a j h;replace h:=nh h;obtain⟨c,i,p,rfl,h⟩:=h;cases c with
 |int i=>cases h;exact NA
 |bool i=>cases h;exact LP
 |str i=>cases h;exact Nt
 |none=>cases h;exact E9
 |_=>cases h
noncomputable def G.cl (g:G)(p:Pos):Bool:=g.cel.contains (p.line,p.col,p.endCol)
def G.tx (g:G)(p:Pos):Bool:=g.txt.contains (p.line,p.col,p.endCol)
noncomputable def Ff:Operator->Option n5
 |.Add=>some .add|.Sub=>some .sub|.Mult=>some .mul|.FloorDiv=>some .fdiv|.Mod=>some .mod|.Pow=>some .pow|_=>none
def Dv (h:Ff q=some b):q=binOp b:=by cases q<;>cases h<;>rfl
noncomputable def fx:CmpOp->jn
 |.Eq=>.eq|.NotEq=>.ne|.Lt=>.lt|.LtE=>.le|.Gt=>.gt|.GtE=>.ge|.Is=>.isN|.IsNot=>.notN|.In=>.isin|.NotIn=>.notin
def cz (q:CmpOp):d7 (fx q)=q:=by cases q<;>rfl
def IF:di:=λR g e=>(O3 e λa q b p=>(Ff q).bind λq=>(R.e g a).bind λx=>(R.e g b).bind λy=>some (ak (g.cl p) q x y)).or
 ((Oc e λq a _ => match q with
   |.USub=>(R.e g a).bind λx=>some (gZ x)
   |.Not=>(R.e g a).bind λx=>some (Py x)
   |_=>none).or
 ((Ew e λq h _ => match q with
   |.And=>u2 (R.e g) eL h
   |.Or=>u2 (R.e g) uu h).or
 ((Ka e λc a b _=>(R.t g c).bind λt=>(R.e g a).bind λx=>(R.e g b).bind λy=>some (g7 t x y)).or
 ((t5 e λh _ _=>(cA (R.e g) h).bind λs=>some (aZ s)).or (O0 e λh p=>(cA (R.e g) h).bind λs=>some (bR (g.cl p) s))))))
def FJ:SE IF:=by
 intro fa n R j g X o a F h;replace h:=bO h;rcases h with h|h
 ·obtain⟨a,q,b,p,rfl,h⟩:=G6 h;obtain⟨q,B,h⟩:=ob h;obtain⟨x,u,h⟩:=ob h;obtain⟨y,v,h⟩:=ob h;cases h;rw[Dv B];exact NH _ _ (j.e o u) (j.e o v)
 replace h:=bO h;rcases h with h|h
 ·obtain⟨q,a,p,rfl,h⟩:=Ac h;cases q with
  |USub=>obtain⟨x,u,h⟩:=ob h;cases h;exact Nw (j.e o u)
  |Not=>obtain⟨x,u,h⟩:=ob h;cases h;exact Nv (j.e o u)
  |_=>cases h
 replace h:=bO h;rcases h with h|h
 ·obtain⟨q,z,p,rfl,h⟩:=t7 h;cases q with
  |And=>exact wN (j.e o) h
  |Or=>exact Bg (j.e o) h
 replace h:=bO h;rcases h with h|h
 ·obtain⟨c,a,b,p,rfl,h⟩:=v7 h;obtain⟨t,E,h⟩:=ob h;obtain⟨x,u,h⟩:=ob h;obtain⟨y,v,h⟩:=ob h;cases h;exact Ny (j.t o E) (j.e o u) (j.e o v)
 replace h:=bO h;rcases h with h|h
 ·obtain⟨z,k,p,rfl,h⟩:=gW h;obtain⟨s,hs,h⟩:=ob h;cases h;exact Nr (jG (j.e o) hs).1
 ·obtain⟨z,p,rfl,h⟩:=G3 h;obtain⟨s,hs,h⟩:=ob h;cases h;exact Nx _ (jG (j.e o) hs).1
def Dq (g:G)(x:Str):Option (List (Str×Nat)):=if ik g x=true then(match g.T.lookup x with|some (.dct fs)=>some fs|_=>none) else none
set_option tactic.hygienic true in
def uH (o:dJ fa n g X)(h:Dq g x=some fs):(∃ad j,X.mg x=some (.ref ad)/\fz X.K X.w.params ad j/\d9 fa j fs)/\Gl X x/\(x==("__debug__":Str))=false:=by
 obtain⟨c,h⟩:=oi h;split at h
 ·next e=>cases h;exact{o.T.dct e,cH o c}
 ·cases h
def Dt (R:Rc)(g:G)(e:Expr):Option GE:=CG e λa h bs _=>
 (n2 h λq r=>n2 bs λb c=>if 0<g.lv/\behindInMarks r c=false then(R.e g a).bind λy=>(R.e g b).bind λz=>(R.e g c).bind λu=>some (uz (fx q) (fx r) y z u) else none).or
 (n1 h λq=>n1 bs λb=>(if fx q=.notin then nName b λx _=>(Dq g x).bind λfs=>(R.e g a).bind λy=>some (iJ fs y) else none).or
  (if 0<g.lv/\behindInMarks q b=false then(R.e g a).bind λy=>(R.e g b).bind λz=>some (aK (fx q) y z) else none))
def IM:di:=Dt
def tV (h:fx q=.notin):q=.NotIn:=(cz q).symm.trans (congrArg d7 h)
def FP:SE IM:=by
 intro fa n R j g X o a F h;replace h:=ni h;obtain⟨a,H,bs,p,rfl,h⟩:=h;replace h:=bO h;rcases h with h|h
 ·replace h:=gA h;obtain⟨q,r,rfl,h⟩:=h;obtain⟨b,d,rfl,h⟩:=gA h;obtain⟨c,h⟩:=oi h;replace h:=ob h;obtain⟨y,v,h⟩:=h;replace h:=ob h;obtain⟨z,B,h⟩:=h;replace h:=ob h;obtain⟨u,E,h⟩:=h;cases h;have:=NG (o.rm c.1) (fx q) (fx r) (j.e o v) (j.e o B) (j.e o E) (by rw[cz,cz];exact c.2) (pos:=p)
  rw[cz,cz] at this;exact this
 replace h:=cb h;obtain⟨q,rfl,h⟩:=h;replace h:=cb h;obtain⟨b,rfl,h⟩:=h;replace h:=bO h;rcases h with h|h
 ·replace h:=oi h;obtain⟨c,h⟩:=h;obtain⟨x,_,rfl,h⟩:=cw h;obtain⟨fs,e,h⟩:=ob h;obtain⟨y,v,h⟩:=ob h;cases h;obtain⟨d,e1,e2⟩:=uH o e;rw[tV c];exact Gz d e1 e2 (j.e o v) rfl
 ·obtain⟨c,h⟩:=oi h;obtain⟨y,v,h⟩:=ob h;obtain⟨z,B,h⟩:=ob h;cases h;have:=NF (o.rm c.1) (fx q) (j.e o v) (j.e o B) (by rw[cz];exact c.2) (pos:=p)
  rw[cz] at this;exact this
noncomputable def OC:Expr->Bool
 |.Compare ..=>false
 |.BoolOp ..=>false
 |.UnaryOp ..=>false
 |.IfExp ..=>false
 |_=>true
def vT:Fn:=λR g e=>((Dt R g e).bind λx=>some (au x)).or
 ((Ew e λq h _ => match q with
   |.And=>sR (R.t g) fD h
   |.Or=>sR (R.t g) eX h).or
 ((Oc e λq a _ => match q with
   |.Not=>(R.t g a).bind λx=>some (cq x)
   |_=>none).or (if OC e=true then(R.e g e).bind λx=>some (au x) else none)))
def FG (j:iB fa n R)(o:dJ fa n g X)(h:Dt R g a=some ga):DT fa X a (au ga):=by
 replace h:=ni h;obtain⟨a,F,bs,p,rfl,h⟩:=h;replace h:=bO h;rcases h with h|h
 ·replace h:=gA h;obtain⟨q,r,rfl,h⟩:=h;obtain⟨b,d,rfl,h⟩:=gA h;obtain⟨c,h⟩:=oi h;replace h:=ob h;obtain⟨y,v,h⟩:=h;replace h:=ob h;obtain⟨z,B,h⟩:=h;replace h:=ob h;obtain⟨u,E,h⟩:=h;cases h;have:=Ll (o.rm c.1) (fx q) (fx r) (j.e o v) (j.e o B) (j.e o E) (by rw[cz,cz];exact c.2) (pos:=p)
  rw[cz,cz] at this;exact this
 replace h:=cb h;obtain⟨q,rfl,h⟩:=h;replace h:=cb h;obtain⟨b,rfl,h⟩:=h;replace h:=bO h;rcases h with h|h
 ·replace h:=oi h;obtain⟨c,h⟩:=h;obtain⟨x,_,rfl,h⟩:=cw h;obtain⟨fs,e,h⟩:=ob h;obtain⟨y,v,h⟩:=ob h;cases h;obtain⟨d,e1,e2⟩:=uH o e;rw[tV c];exact GG d e1 e2 (j.e o v) rfl
 ·obtain⟨c,h⟩:=oi h;obtain⟨y,v,h⟩:=ob h;obtain⟨z,B,h⟩:=ob h;cases h;have:=Lk (o.rm c.1) (fx q) (j.e o v) (j.e o B) (by rw[cz];exact c.2) (pos:=p)
  rw[cz] at this;exact this
def Mh:ST vT:=by
 intro fa n R u g X o a y h;replace h:=bO h;rcases h with h|h
 ·obtain⟨x,j,h⟩:=ob h;cases h;exact FG u o j
 replace h:=bO h;rcases h with h|h
 ·obtain⟨q,v,p,rfl,h⟩:=t7 h;cases q with
  |And=>exact PW.pt (vu (u.t o) h)
  |Or=>exact PW.pt (zh (u.t o) h)
 replace h:=bO h;rcases h with h|h
 ·obtain⟨q,a,p,rfl,h⟩:=Ac h;cases q with
  |Not=>obtain⟨x,j,h⟩:=ob h;cases h;exact Li (u.t o j)
  |_=>cases h
 ·obtain⟨c,h⟩:=oi h;obtain⟨x,j,h⟩:=ob h;cases h;exact Di (u.e o j) λ_=>by cases a<;>first|rfl|cases c
noncomputable def j5:Expr->Bool
 |.Slice ..=>false
 |_=>true
def ow (h:j5 b=true):iY b:=by
 intro x i;cases b<;>first|rfl|cases h
noncomputable def cO (f:Expr->Option GE):Option Expr->Option GE
 |none=>some (gC .non)
 |some a=>f a
def Fd (u:∀{a:Expr}{j:GE},f a=some j->DE fa X a j)(h:cO f q=some ge):DO fa X q q.isSome ge:=by
 cases q with
 |none=>cases h;exact HC
 |some a=>exact HB (u h)
def IE:di:=λR g e=>t6 e λa b _=>nName a λx _=>(Dq g x).bind λfs=>if j5 b=true then(R.e g b).bind λy=>some (lr fs y) else none
def FI:SE IE:=by
 intro fa n R u g X o a v h;replace h:=j8 h;obtain⟨a,b,p,rfl,h⟩:=h;replace h:=cw h;obtain⟨x,q,rfl,h⟩:=h;obtain⟨fs,e,h⟩:=ob h;obtain⟨c,h⟩:=oi h;obtain⟨y,j,h⟩:=ob h;cases h;obtain⟨d,e1,e2⟩:=uH o e;exact GD d e1 e2 (u.e o j) (ow c)
def IJ:di:=λR g e=>t6 e λa b p=>(OZ b λlo h st _=>if st.isNone=true/\g.tx p=false then(R.e g a).bind λx=>(cO (R.e g) lo).bind λy=>(cO (R.e g) h).bind λz=>some (eV (g.cl p) lo.isSome h.isSome x y z) else none).or
 (if j5 b=true then(R.e g a).bind λx=>(R.e g b).bind λy=>some (av x y) else none)
def FO:SE IJ:=by
 intro fa n R j g X o a E h;replace h:=j8 h;obtain⟨a,b,p,rfl,h⟩:=h;replace h:=bO h;rcases h with h|h
 ·obtain⟨lo,F,st,p2,rfl,h⟩:=G2 h;obtain⟨⟨c,_⟩,h⟩:=oi h;replace h:=ob h;obtain⟨x,u,h⟩:=h;replace h:=ob h;obtain⟨y,v,h⟩:=h;replace h:=ob h;obtain⟨z,B,h⟩:=h;cases h;rw[Sm.mp c];exact Nu _ _ _ (j.e o u) (Fd (j.e o) v) (Fd (j.e o) B)
 ·obtain⟨c,h⟩:=oi h;obtain⟨x,u,h⟩:=ob h;obtain⟨y,v,h⟩:=ob h;cases h;exact NB (j.e o u) (j.e o v) (ow c)
noncomputable def lx (g:G)(x:Str):Option Nat:=if (g.sc.names.lookup x==some .local||(g.sc.names.lookup x==some .cell&&(g.lv != 1||g.oc.contains x)))=true then g.N.findIdx? (·==x) else none
def Ey (g:G):List Expr->Option (List Nat)
 |[]=>some []
 |e::r=>nName e λx _=>(lx g x).bind λi=>(Ey g r).bind λl=>some (i::l)
def cG (g:G)(e:Expr):Option fC:=(nName e λx _=>(lx g x).bind λi=>some (.one i)).or (t5 e λh _ _=>if 0<g.lv then((Ey g h).bind λl=>some (.tup l)).or (n2 h λa b=>nName a λx _=>t5 b λbs _ _=>(lx g x).bind λi=>(Ey g bs).bind λl=>some (.two i l)) else none)
section
variable{fa:Fa}{n:Nat}{g:G}{X:Cx}{R:Rc}(o:dJ fa n g X)
include o
theorem xH (h:lx g x=some i):X.N[i]?=some x/\L2.Loc X.env.scope x/\(X.fn x=true\/X.env.scope.names.lookup x=some .local):=by
 obtain⟨c,h⟩:=oi h;rw[RF,Qs] at c;refine{xR o h,?_,?_}
 ·unfold L2.Loc;rw[o.sc];rcases c with z|z
  ·exact .inl (eq_of_beq z)
  ·exact .inr (eq_of_beq z.1)
 ·rcases c with z|z
  ·right;rw[o.sc];exact eq_of_beq z
  ·rcases Bool.or_eq_true_iff.mp z.2 with q|q
   ·exact .inl (o.fn (by simpa using q) x)
   ·exact .inl (o.oc x (List.contains_iff_mem.mp q))
theorem t9:∀{es:List Expr}{l:List Nat},Ey g es=some l->iO X l es
 |[],_,h=>by cases h;exact .nil
 | e :: r, _, h => by
   replace h:=cw h;obtain⟨x,p,rfl,h⟩:=h;obtain⟨i,j,h⟩:=ob h;obtain⟨l,hl,h⟩:=ob h;cases h;obtain⟨a,b,c⟩:=xH o j;exact .cons a b c (t9 hl)
theorem jF (h:cG g t=some tt):PG X t (gT fa X.K tt):=by
 replace h:=bO h;rcases h with h|h
 ·obtain⟨x,p,rfl,h⟩:=cw h;replace h:=ob h;obtain⟨i,j,h⟩:=h;cases h;obtain⟨a,b,c⟩:=xH o j;exact HL (o.N ▸ o.nd) a b c
 ·replace h:=gW h;obtain⟨v,k,p,rfl,h⟩:=h;replace h:=oi h;obtain⟨c,h⟩:=h;replace h:=bO h;rcases h with h|h
  ·obtain⟨l,hl,h⟩:=ob h;cases h;exact LG (o.calm c) (o.N ▸ o.nd) (t9 o hl)
  ·obtain⟨a,b,rfl,h⟩:=gA h;replace h:=cw h;obtain⟨x,y,rfl,h⟩:=h;replace h:=gW h;obtain⟨bs,k2,p2,rfl,h⟩:=h;obtain⟨i,j,h⟩:=ob h;obtain⟨l,hl,h⟩:=ob h;cases h;obtain⟨e1,e2,u⟩:=xH o j;exact LF (o.calm c) (o.N ▸ o.nd) e1 e2 u (t9 o hl)
end
def cB (nm:Str)(R:Rc)(g:G)(e:Expr):Option (List Expr×GA):=lZ e λx h _=>nC h λa h=>if x=nm/\ik g x=true/\(match g.T.lookup x with|some .bl=>true|_=>false)=true/\0<g.lv then(cA (R.e g) (a::h)).bind λj=>some (a::h,j) else none
def lC {g:G}(h:(match g.T.lookup x with|some .bl=>true|_=>false)=true):g.T.lookup x=some .bl:=by
 split at h
 ·assumption
 ·cases h
def nI (B:iB fa n R)(o:dJ fa n g X)(h:cB nm R g e=some (as,u)):∃p pos a es,as=a::es/\e=.Call (.Name nm p) (a::es) [] pos/\Gl X nm/\X.mg nm=none/\0<g.lv/\DA fa X (a::es) u/\notStar a=true/\es.all notStar=true:=by
 replace h:=fH h;obtain⟨x,q,es,p,rfl,h⟩:=h;replace h:=iF h;obtain⟨a,es,rfl,h⟩:=h;replace h:=oi h;obtain⟨⟨rfl,v,y,z⟩,h⟩:=h;obtain⟨u,j,h⟩:=ob h;cases h;obtain⟨d,ns⟩:=jG (B.e o) j;rw[RJ,Qs] at ns;exact{_,_,_,_,rfl,rfl,(cH o v).1,o.T.bl (lC y),z,d,ns.1,ns.2}
def IH:di:=λR g e=>(cB "len" R g e).bind λq=>some (aN .len q.2)
def FL:SE IH:=λ{fa n R} v {g X} o {a z} h=>by
 obtain⟨⟨y,B⟩,u,h⟩:=ob h;cases h;obtain⟨_,_,_,_,_,rfl,j,hm,_,d,n1,n2⟩:=nI v o u;exact yd .len Ng j hm PySem.boot_len d `d `d (aR n1) (cu n2)
def IQ:di:=λR g e=>(cB "all" R g e).bind λq=>some (aN .all q.2)
def FR:SE IQ:=λ{fa n R} v {g X} o {a z} h=>by
 obtain⟨⟨y,B⟩,u,h⟩:=ob h;cases h;obtain⟨_,_,_,_,_,rfl,j,hm,lv,d,n1,n2⟩:=nI v o u;exact yd .all (Ni (o.calm lv)) j hm `k d `d `d (aR n1) (cu n2)
def ID:di:=λR g e=>(cB "sum" R g e).bind λq=>some (aN .sum q.2)
def FH:SE ID:=λ{fa n R} v {g X} o {a z} h=>by
 obtain⟨⟨y,B⟩,u,h⟩:=ob h;cases h;obtain⟨_,_,_,_,_,rfl,j,hm,lv,d,n1,n2⟩:=nI v o u;exact yd .sum (Nd (o.calm lv)) j hm `k d `d `d (aR n1) (cu n2)
def IG:di:=λR g e=>(cB "max" R g e).bind λq=>some (qw q.2)
def FK:SE IG:=λ{fa n R} v {g X} o {a z} h=>by
 obtain⟨⟨y,B⟩,u,h⟩:=ob h;cases h;obtain⟨_,_,_,_,_,rfl,j,hm,lv,d,n1,n2⟩:=nI v o u;exact Mx (o.calm lv) j hm d n1 n2
def yR:di:=λR g e=>(cB "tuple" R g e).bind λq=>some (aN .tuple q.2)
def yQ:SE yR:=λ{fa n R} v {g X} o {a z} h=>by
 obtain⟨⟨y,B⟩,u,h⟩:=ob h;cases h;obtain⟨_,_,_,_,_,rfl,j,hm,_,d,n1,n2⟩:=nI v o u;exact AZ .tuple Hm j hm `k d `d `d (aR n1) (cu n2)
def D6:di:=λR g e=>(cB "list" R g e).bind λq=>some (aN (.list (g.cl e.pos)) q.2)
def BB:SE D6:=λ{fa n R} v {g X} o {a z} h=>by
 obtain⟨⟨y,B⟩,u,h⟩:=ob h;cases h;obtain⟨_,_,_,_,_,rfl,j,hm,_,d,n1,n2⟩:=nI v o u;exact AZ (.list _) (K5 _) j hm `k d `d `d (aR n1) (cu n2)
def cR (R:Rc)(g:G)(nm:Str)(e:Expr):Option (Expr×GE):=lZ e λx h _=>n1 h λa=>if x=nm/\ik g x=true/\(match g.T.lookup x with|some .bl=>true|_=>false)=true/\0<g.lv/\notStar a=true then(R.e g a).bind λy=>some (a,y) else none
def nH (E:iB fa n R)(o:dJ fa n g X)(h:cR R g nm e=some (a,ga)):∃p pos,e=.Call (.Name nm p) [a] [] pos/\Gl X nm/\X.mg nm=none/\0<g.lv/\DE fa X a ga/\starEach [a] X.env=[(false,eval a X.env)]:=by
 replace h:=fH h;obtain⟨x,q,F,p,rfl,h⟩:=h;replace h:=cb h;obtain⟨a,rfl,h⟩:=h;replace h:=oi h;obtain⟨⟨rfl,j,u,v,z⟩,h⟩:=h;obtain⟨y,B,h⟩:=ob h;cases h;exact{_,_,rfl,(cH o j).1,o.T.bl (lC u),v,E.e o B,aR z}
def yT:di:=λR g e=>lZ e λx h p=>n1 h λb=>if x="list"/\ik g x=true/\(match g.T.lookup x with|some .bl=>true|_=>false)=true then(cR R g "range" b).bind λq=>some (mq (g.cl p) q.2) else none
def yS:SE yT:=λ{fa n R} B {g X} o {a F} h=>by
 replace h:=fH h;obtain⟨x,q,E,p,rfl,h⟩:=h;replace h:=cb h;obtain⟨b,rfl,h⟩:=h;replace h:=oi h;obtain⟨⟨rfl,j,u⟩,h⟩:=h;obtain⟨⟨b,y⟩,z,h⟩:=ob h;cases h;obtain⟨_,_,rfl,v,hm,lv,d,hs⟩:=nH B o z;exact Gx _ (o.calm lv) d (cH o j).1 (o.T.bl (lC u)) v hm hs rfl
def BJ (x:Str):Option Ty:=if x="int" then some .int else if x="bool" then some .bool else if x="str" then some .str else if x="tuple" then some .tuple else if x="list" then some .list else none
def FT (h:BJ x=some t):bootBuiltins x=some (.type (tyName t))/\(∀c,t≠.own c)/\x≠"__name__"/\(x==("__debug__":Str))=false:=by
 unfold BJ at h;split at h
 ·subst x;cases h;exact{`k,(λ_ z=>nomatch z),`d,`d}
 split at h
 ·subst x;cases h;exact{`k,(λ_ z=>nomatch z),`d,`d}
 split at h
 ·subst x;cases h;exact{`k,(λ_ z=>nomatch z),`d,`d}
 split at h
 ·subst x;cases h;exact{`k,(λ_ z=>nomatch z),`d,`d}
 split at h
 ·subst x;cases h;exact{`k,(λ_ z=>nomatch z),`d,`d}
 ·cases h
def cI (R:Rc)(g:G)(e:Expr):Option (Str×GE):=lZ e λy h _=>n2 h λa b=>nName b λx _=>if y="isinstance"/\ik g y=true/\(match g.T.lookup y with|some .bl=>true|_=>false)=true/\ik g x=true/\notStar a=true then(R.e g a).bind λz=>some (x,z) else none
def NO (F:iB fa n R)(o:dJ fa n g X)(h:cI R g e=some (x,ga)):∃p q a pos,e=.Call (.Name "isinstance" p) [a,.Name x q] [] pos/\Gl X "isinstance"/\X.mg "isinstance"=none/\Gl X x/\(x==("__debug__":Str))=false/\DE fa X a ga/\starEach [a,.Name x q] X.env=(false,eval a X.env)::starEach [.Name x q] X.env:=by
 replace h:=fH h;obtain⟨y,q,H,p,rfl,h⟩:=h;replace h:=gA h;obtain⟨a,b,rfl,h⟩:=h;replace h:=cw h;obtain⟨x,I,rfl,h⟩:=h;replace h:=oi h;obtain⟨⟨rfl,u,v,j,B⟩,h⟩:=h;obtain⟨z,E,h⟩:=ob h;cases h;exact{_,_,_,_,rfl,(cH o u).1,o.T.bl (lC v),(cH o j).1,(cH o j).2,F.e o E,aR B}
def D7:di:=λR g e=>(cI R g e).bind λq=>if (match g.T.lookup q.1 with|some .bl=>true|_=>false)=true then(BJ q.1).bind λt=>some (h6 t q.2) else none
def BC:SE D7:=λ{fa n R} I {g X} o {a J} h=>by
 obtain⟨⟨x,z⟩,E,h⟩:=ob h;obtain⟨c,h⟩:=oi h;obtain⟨t,F,h⟩:=ob h;cases h;obtain⟨_,_,_,_,rfl,B,hm,H,hd,d,hs⟩:=NO I o E;obtain⟨j,u,v,y⟩:=FT F;exact LJ t u d B hm `k H (o.T.bl (lC c)) j v y hs
def Ec:di:=λR g e=>lZ e λx h _=>nC h λa h=>if 0<g.lv then(match vr g x with
 |some i=>(cA (R.e g) (a::h)).bind λj=>some (mr i g.c j)
 | none => if ik g x = true then(match g.T.lookup x with
   |some (.fn i _)=>(cA (R.e g) (a::h)).bind λj=>some (ai i g.c j)
   |_=>none) else none) else none
set_option tactic.hygienic true in
def BH:SE Ec:=λ{fa n R} u {g X} o {a E} h=>by
 replace h:=fH h;obtain⟨x,q,z,p,rfl,h⟩:=h;replace h:=iF h;obtain⟨a,z,rfl,h⟩:=h
 ·obtain⟨lv,h⟩:=oi h;split at h
  ·next e=>
   obtain⟨B,j,h⟩:=ob h;cases h;obtain⟨d,ns⟩:=jG (u.e o) j;rw[RJ,Qs] at ns;obtain⟨a,b,v,y⟩:=DY o e;exact HR (o.C lv) ((o.hr lv).mono (Nat.le_succ _)) a b d v y (aR ns.1) (cu ns.2)
  ·obtain⟨c,h⟩:=oi h;split at h
   ·next e=>
    obtain⟨B,j,h⟩:=ob h;cases h;obtain⟨d,ns⟩:=jG (u.e o) j;rw[RJ,Qs] at ns;exact LO (o.C lv _) ((o.hr lv).mono (Nat.le_succ _)) (cH o c).1 (o.T.fn e) d (cH o c).2 (aR ns.1) (cu ns.2)
   ·cases h
def DQ:di:=λR g e=>(lZ e λx h _=>nC h λa h=>if 2<=g.lv/\ik g x=true then(match g.T.lookup x with
 |some (.fn i true)=>(cA (R.e g) (a::h)).bind λj=>some (bw i g.c j)
 |_=>none) else none).or (Ka e λc a b _=>(R.x g a).bind λx=>(R.x g b).bind λy=>(R.t g c).bind λt=>some (xU t x y))
set_option tactic.hygienic true in
def Bp:SX DQ:=λ{fa n R} j {g X} o {a F} h=>by
 replace h:=bO h;rcases h with h|h
 ·obtain⟨x,q,v,p,rfl,h⟩:=fH h;obtain⟨a,v,rfl,h⟩:=iF h;replace h:=oi h;obtain⟨⟨lv,c⟩,h⟩:=h;split at h
  ·next e=>
   replace h:=ob h;obtain⟨H,u,h⟩:=h;cases h;obtain⟨d,ns⟩:=jG (j.e o) u;rw[RJ,Qs] at ns;exact x_call _ (o.C `a) ((o.hr `a).mono (Nat.le_succ _)) (o.top lv).1 (cH o c).1 (o.T.fn e) d (cH o c).2 ns.1 ns.2
  ·cases h
 ·obtain⟨c,a,b,p,rfl,h⟩:=v7 h;obtain⟨x,B,h⟩:=ob h;obtain⟨y,E,h⟩:=ob h;obtain⟨t,z,h⟩:=ob h;cases h;exact Mg (j.t o z) (j.x o B) (j.x o E)
def yF:di:=λR g e=>lZ e λx h _=>n1 h λa=>if 2<=g.lv/\ik g x=true/\notStar a=true then(match g.T.lookup x with
 |some (.fnD i)=>(R.e g a).bind λy=>some (bw i g.c (dY y (dY (gC .non) c9)))
 |_=>none) else none
set_option tactic.hygienic true in
def yE:SX yF:=λ{fa n R} u {g X} o {a z} h=>by
 replace h:=fH h;obtain⟨x,q,v,p,rfl,h⟩:=h;replace h:=cb h;obtain⟨a,rfl,h⟩:=h;replace h:=oi h;obtain⟨⟨lv,c,st⟩,h⟩:=h;split at h
 ·next e=>
  replace h:=ob h;obtain⟨y,j,h⟩:=h;cases h;exact Fz _ (o.C `a) ((o.hr `a).mono (Nat.le_succ _)) (o.top lv).1 (cH o c).1 (o.T.fnD e).1 (o.T.fnD e).2 (u.e o j) (cH o c).2 st
 ·cases h
def Jr (h:bW (n+4) A):bW 2 A:=h.mono `a
noncomputable def j7:Expr->Bool
 |.Call ..=>false
 |_=>true
def g8 (h:j7 a=true):attributeBase a m env w=w:=by
 cases a<;>first|rfl|cases h
def NZ:di:=λR g e=>O1 e λl _=>nC l λa l=>n2 l λb c=>CD a λz=>Oe b λb=>CD c λy=>(R.e g b).bind λx=>some (uy z y x)
def IK:SE NZ:=λ{fa n R} u {g X} o {a v} h=>by
 replace h:=G4 h;obtain⟨l,p,rfl,h⟩:=h;replace h:=iF h;obtain⟨a,l,rfl,h⟩:=h;replace h:=gA h;obtain⟨b,c,rfl,h⟩:=h;replace h:=vZ h;obtain⟨z,_,_,rfl,h⟩:=h;replace h:=Kb h;obtain⟨b,_,rfl,h⟩:=h;replace h:=vZ h;obtain⟨y,_,_,rfl,h⟩:=h;obtain⟨x,j,h⟩:=ob h;cases h;exact OR (u.e o j)
def DU:u9:=λR g _ e=>(cR R g "range" e).bind λq=>some (dH q.2)
def Bw:SW DU:=λ{z n R} v {g X} o {t a B} h=>by
 obtain⟨⟨b,y⟩,u,h⟩:=ob h;cases h;obtain⟨_,_,rfl,j,hm,_,d,hs⟩:=nH v o u;exact HI d j hm hs
def DV:u9:=λR g t e=>t5 t λ_ _ _=>(cR R g "enumerate" e).bind λq=>some (iI q.2)
def Bx:SW DV:=λ{z n R} v {g X} o {t a B} h=>by
 replace h:=gW h;obtain⟨_,_,_,rfl,h⟩:=h;obtain⟨⟨b,y⟩,u,h⟩:=ob h;cases h;obtain⟨_,_,rfl,j,hm,_,d,hs⟩:=nH v o u;exact HK d j hm hs
def cN (R:Rc)(g:G)(nm:Str)(e:Expr):Option (List Expr):=lZ e λx h _=>if x=nm/\ik g x=true/\(match g.T.lookup x with|some .bl=>true|_=>false)=true/\0<g.lv/\h.all notStar=true then some h else none
def NN (o:dJ fa n g X)(h:cN R g nm e=some es):∃p pos,e=.Call (.Name nm p) es [] pos/\Gl X nm/\X.mg nm=none/\es.all notStar=true:=by
 replace h:=fH h;obtain⟨x,q,es,p,rfl,h⟩:=h;replace h:=oi h;obtain⟨⟨rfl,j,u,y,v⟩,h⟩:=h;cases h;exact{_,_,rfl,(cH o j).1,o.T.bl (lC u),v}
def w6:∀{es:List Expr},es.all notStar=true->starEach es env=es.map λa=>(false,eval a env)
 |[],_=>rfl
 | a :: es, h => by
   rw[RJ,Qs] at h;rw[aR h.1,w6 h.2];rfl
def DR:u9:=λR g t e=>t5 t λ_ _ _=>(cN R g "zip" e).bind λh=>n2 h λa b=>(R.e g a).bind λx=>(R.e g b).bind λy=>some (nu x y)
def Bv:SW DR:=λ{F n R} j {g X} o {t a H} h=>by
 replace h:=gW h;obtain⟨_,_,_,rfl,h⟩:=h;obtain⟨E,v,k⟩:=ob h;clear h;obtain⟨_,_,rfl,u,hm,ns⟩:=NN o v;replace k:=gA k;obtain⟨a,b,rfl,k⟩:=k;obtain⟨x,z,k⟩:=ob k;obtain⟨y,B,k⟩:=ob k;cases k;exact HH (j.e o z) (j.e o B) u hm (w6 ns) (w6 (SH.mp (RJ ▸ ns)).2)
def Ir:u9:=λR g _ e=>if g.tx e.pos=false then(R.e g e).bind λx=>some (bT x) else none
def FC:SW Ir:=λ{v n R} u {g X} o {t a y} h=>by
 obtain⟨_,h⟩:=oi h;obtain⟨x,j,h⟩:=ob h;cases h;exact LC (u.e o j)
noncomputable def j6:Expr->Bool
 |.Set ..=>false
 |_=>true
def wt (h:j6 a=true)(x:Qo):foldedSetIterable a env x=pure x:=by
 cases a<;>first|rfl|cases h
noncomputable def xr:Expr->List Str
 |.Name x _=>[x]
 |.Tuple h _ _=>(h.map fun|.Name x _=>[x]|.Tuple bs _ _=>bs.filterMap (fun|.Name x _=>some x|_=>none)|_=>[]).flatten
 |_=>[]
noncomputable def uU (g:G)(own:List Str):List Str:=g.N.map λx=>if own.contains x then x++("%":Str) else x
noncomputable def Cm (h sc:Scope):Scope:={h with names:=h.names.map λ(n,k)=>if (k==.free&&sc.kind==.function&&sc.names.lookup n==some .cell) then(n,.cell) else(n,k)}
def G.inC (g:G)(own:List Str)(h:Scope):G:={g with N:=own++uU g own,sc:=Cm h g.sc,lv:=1,oc:=(h.names.filter λy=>h.names.lookup y.1==some .cell).map (·.1)}
def vR (g:G)(own:List Str)(h:Scope):Prop:=0<g.lv/\h.kind=.function/\qH (uU g own) g.N g.sc h=true/\(own++uU g own).Nodup
instance (g:G) (own:List Str) (scope:Scope):Decidable (vR g own scope):=by unfold vR;infer_instance
def yf (o:dJ fa n g X)(c:vR g own scope):fm X own (uU g own) scope/\∀cl C j s H,dJ fa n (g.inC own scope) (fM X own (uU g own) scope cl C j s H):=by
 obtain⟨h,u,v,B⟩:=c;refine{A4 u o.sc o.N v,λcl C j s H=>{rfl,B,?_,o.T,o.tw,o.xf,o.ms,(λz=>absurd rfl z),(λx E=>by obtain⟨y,F,e⟩:=QC.mp E;subst e;exact(RM.mp F).2),λ_=>o.calm h,λ_=>o.C h,λ_=>o.hr h,(λz=>absurd (show 2<=1 from z) `d),(λz=>nomatch z)}}
 show relabel scope X.env=Cm scope g.sc;unfold relabel Cm Env.kindOf;rw[o.sc]
structure Md (fa:Fa) (X:Cx) (e:Expr) (k:Nat) (t:fC) (gw:GW) (gb:GB):Prop where
 ex:∃elt tg iter ifs rest scope pos own bn W body,e=.ListComp elt ({tg,iter,ifs,0}::rest) scope pos/\k=own.length/\fm X own bn scope/\DI fa X tg iter gw/\Block fa X (LA fa X.K) own bn scope tg t W body gb/\pY X elt tg iter ifs rest scope pos body/\(∀i∈W,i∉slots t)/\(∀i∈slots t++W,i<own.length)/\∀x,foldedSetIterable iter X.env x=pure x
def cC (R:Rc)(g:G)(e:Expr):Option (Nat×fC×GW×GB):=Od e λB y h _=>(n1 y λc=>nG c λz j v=>let own:=xr z
 if vR g own h/\j6 j=true then(R.w g z j).bind λw=>(cG (g.inC own h) z).bind λt=>(R.e (g.inC own h) B).bind λx=>if (slots t).all (· < own.length)=true then(n0 v (some (own.length,t,w,bb x))).or (n1 v λc=>(R.t (g.inC own h) c).bind λq=>some (own.length,t,w,kg q (bb x))) else none else none).or
 (n2 y λc d=>nG c λz j v=>nG d λt2 F E=>let own:=xr z++xr t2
  n0 v (n0 E (if vR g own h/\j6 j=true/\j6 F=true then(R.w g z j).bind λw=>(cG (g.inC own h) z).bind λt=>(R.w (g.inC own h) t2 F).bind λw2=>(cG (g.inC own h) t2).bind λu=>(R.e (g.inC own h) B).bind λx=>if (slots t++slots u).all (· < own.length)=true/\(slots u).all (λi=>!(slots t).contains i)=true then some (own.length,t,w,ux u w2 (bb x)) else none else none)))
def Fe (z:iB fa n R)(o:dJ fa n g X)(h:cC R g e=some (k,t,gw,gb)):Md fa X e k t gw gb:=by
 replace h:=Ad h;obtain⟨B,gens,E,p,rfl,h⟩:=h;replace h:=bO h;rcases h with h|h
 ·replace h:=cb h;obtain⟨c,rfl,h⟩:=h;replace h:=sj h;obtain⟨tg,y,Y,rfl,h⟩:=h;replace h:=oi h;obtain⟨⟨c,J⟩,h⟩:=h;replace h:=ob h;obtain⟨w,M,h⟩:=h;replace h:=ob h;obtain⟨t,L,h⟩:=h;replace h:=ob h;obtain⟨x,P,h⟩:=h;replace h:=oi h;obtain⟨I,h⟩:=h;obtain⟨S,O⟩:=yf o c;replace h:=bO h;rcases h with h|h
  ·obtain⟨rfl,h⟩:=eG h;cases h;exact{_,_,_,_,_,_,_,_,_,[],(λa env=>eval B env >>= λx=>call (.builtin "list.append") [.ref a,x] >>= λ_=>pure ()),rfl,rfl,S,z.w o M,{λcl C v s H=>jF (O cl C v s H) L,λcl C v s H a=>uI (z.e (O cl C v s H) P)},(λF a env=>BO _ _ _ [] _ _ (.ref F) (.ref a) env),(λi h=>nomatch h),(by simpa using kK I),wt J}
  ·obtain⟨d,rfl,h⟩:=cb h;obtain⟨q,hq,h⟩:=ob h;cases h;exact{_,_,_,_,_,_,_,_,_,[],(λa env=>PySem.isTrue d env (eval d env) >>= λok=>if ok=true then(eval B env >>= λx=>call (.builtin "list.append") [.ref a,x] >>= λ_=>pure ()) else pure ()),rfl,rfl,S,z.w o M,{λcl C v s H=>jF (O cl C v s H) L,λcl C v s H a=>Np LA.stab (z.t (O cl C v s H) hq) (uI (z.e (O cl C v s H) P))},(λF a env=>turn_if _ _ _ _ _ _ (.ref F) (.ref a) env),(λi h=>nomatch h),(by simpa using kK I),wt J}
 ·replace h:=gA h;obtain⟨c,d,rfl,h⟩:=h;replace h:=sj h;obtain⟨tg,y,Y,rfl,h⟩:=h;replace h:=sj h;obtain⟨t2,Q,ifs2,rfl,h⟩:=h;replace h:=eG h;obtain⟨rfl,h⟩:=h;replace h:=eG h;obtain⟨rfl,h⟩:=h;obtain⟨⟨c,J,U⟩,h⟩:=oi h;obtain⟨w,M,h⟩:=ob h;obtain⟨t,L,h⟩:=ob h;obtain⟨w2,W,h⟩:=ob h;obtain⟨u,hu,h⟩:=ob h;obtain⟨x,P,h⟩:=ob h;obtain⟨⟨I,c3⟩,h⟩:=oi h;cases h;obtain⟨S,O⟩:=yf o c;exact{_,_,_,_,_,_,_,_,_,slots u,(λa env=>eval Q env >>= λx=>standAt Q.pos >>= λ_=>foldedSetIterable Q env x >>= λx=>holding [x] (pyIter x) >>= λj=>runOwn (.compStart (.ListComp B [{tg,y,[],0},{t2,Q,[],0}] E p) 1 j (.ref a) env) env >>= λ_=>pure ()),rfl,rfl,S,z.w o M,{λcl C v s H=>jF (O cl C v s H) L,λcl C v s H a=>LH rfl (o.calm c.1) (z.w (O cl C v s H) W) (jF (O cl C v s H) hu) (z.e (O cl C v s H) P) (wt U)},(λF a env=>BM _ _ _ _ _ _ _ (.ref F) (.ref a) env),zz c3,kK I,wt J}
def Eb:di:=λR g e=>if 0<g.lv then(cC R g e).bind λq=>some (a9 (g.cl e.pos) q.1 q.2.1 q.2.2.1 q.2.2.2) else none
def BG:SE Eb:=λ{J n R} H {g X} o {a L} h=>by
 obtain⟨lv,h⟩:=oi h;obtain⟨⟨k,t,w,b⟩,z,h⟩:=ob h;cases h;obtain⟨v,M,u,E,rest,j,F,own,I,W,body,rfl,rfl,S,y,B,T,h1,h2,h3⟩:=(Fe H o z).ex;exact LN _ S (o.calm lv) y B T h1 h2 h3
def pS (f:Stmt->Option GS):List Stmt->Option GS
 |[]=>some aT
 |a::r=>(f a).bind λx=>(pS f r).bind λy=>some (aY x y)
def iq (v:∀{a:Stmt}{j:GS},f a=some j->DS fa X a j):∀{ss:List Stmt}{u:GS},pS f ss=some u->kD fa X ss u
 |[],_,h=>by cases h;exact Hx
 | a :: r, _, h => by
   obtain⟨x,z,h⟩:=ob h;obtain⟨y,B,h⟩:=ob h;cases h;exact Dj (v z) (iq v B)
noncomputable def vV:Expr->Bool
 |.ListComp ..=>false
 |.SetComp ..=>false
 |.DictComp ..=>false
 |_=>true
def vW (h:vV a=true):swapsWith a t l env=pure false:=by
 cases a<;>first|rfl|cases h
def LX (g:G)(h a:Expr):Bool:=match a with
 |.ListComp ..=>(match h with|.Name y _=>g.sc.names.lookup y==some .cell|_=>false)
 |.Tuple ..=>(match h with|.Name ..=>true|_=>false)
 |.SetComp ..=>false
 |.DictComp ..=>(match h with|.Name y _=>g.sc.names.lookup y==some .cell|_=>false)
 |_=>true
set_option tactic.hygienic true in
def LW (o:dJ fa n g X)(c:LX g tg a=true)(j:cG g tg=some t):swapsWithSole [tg] a l X.env=pure false/\swappedStores [tg] a X.env=pure none/\(assignEach [tg] X.env).map (·.2)=[assign tg X.env]:=by
 refine{?_,?_,?_}
 ·cases a<;>first|rfl|cases c|skip
  all_goals cases tg<;>first|cases c|skip
  all_goals
  next y p=>
  have e:=eq_of_beq c;have u:(X.env.kindOf y==some .local)=false:=by unfold Env.kindOf;rw[o.sc,e];rfl
  show(pure (X.env.blockKind==.function&&X.env.kindOf y==some .local&&_&&_):Sem Bool)=pure false;rw[u,Bool.and_false,Bool.false_and,Bool.false_and]
 ·replace j:=bO j;rcases j with h|h
  ·obtain⟨_,_,rfl,_⟩:=cw h;cases a<;>first|rfl|cases c
  ·obtain⟨_,_,_,rfl,_⟩:=gW h;cases a<;>first|rfl|cases c
 ·replace j:=bO j;rcases j with h|h
  ·obtain⟨_,_,rfl,_⟩:=cw h;rfl
  ·obtain⟨_,_,_,rfl,_⟩:=gW h;rfl
def Ii:jJ:=λR g st=>xl st λts a _=>n1 ts λh=>if LX g h a=true then(cG g h).bind λt=>((R.x g a).bind λx=>some (dU t x)).or ((R.e g a).bind λx=>some (ax t x)) else none
def Fx:SS Ii:=λ{y n R} u {g X} o {a z} h=>by
 replace h:=mV h;obtain⟨ts,a,p,rfl,h⟩:=h;replace h:=cb h;obtain⟨B,rfl,h⟩:=h;obtain⟨c,h⟩:=oi h;obtain⟨t,j,h⟩:=ob h;obtain⟨a1,a2,a3⟩:=LW o c j;replace h:=bO h;rcases h with h|h
 ·obtain⟨x,e,h⟩:=ob h;cases h;exact Jh (u.x o e) (jF o j) a1 a2 a3
 ·obtain⟨x,v,h⟩:=ob h;cases h;exact Lr (u.e o v) (jF o j) a1 a2 a3
def DM:jJ:=λR g st=>xl st λts d _=>n1 ts λt=>nName t λy v=>Od d λu j h p=>if 2<=g.lv/\g.sc.names.lookup y=some .local/\(v.line==p.line)=true/\(h.names.any λ(n,k)=>n==y&&(k==.local||k==.cell))=false then(cC R g (.ListComp u j h p)).bind λq=>(g.N.findIdx? (·==y)).bind λi=>some (ax (.one i) (a9 (g.cl p) q.1 q.2.1 q.2.2.1 q.2.2.2)) else none
def Bn:SS DM:=λ{fa n R} rc {g X} o {a ga} h=>by
 replace h:=mV h;obtain⟨ts,d,_,rfl,h⟩:=h;replace h:=cb h;obtain⟨t,rfl,h⟩:=h;replace h:=cw h;obtain⟨y,py,rfl,h⟩:=h;replace h:=Ad h;obtain⟨_,_,v,p,rfl,h⟩:=h
 ·next=>
  obtain⟨⟨lv,F,H,I⟩,h⟩:=oi h;obtain⟨⟨k,t,w,b⟩,Q,h⟩:=ob h;obtain⟨i,O,h⟩:=ob h;cases h;obtain⟨L,tg,E,U,rest,z,Y,own,bn,W,body,J,rfl,S,j,B,T,h1,h2,h3⟩:=(Fe rc o Q).ex;cases J;have hl:X.env.scope.names.lookup y=some .local:=by rw[o.sc];exact F
  refine yb _ S (o.calm `a) j B T h1 h2 h3 (o.N ▸ o.nd) (xR o O) hl ?_
  have P:=(o.top lv).2.2.2;have M:(X.env.blockKind==.function)=true:=by unfold Env.blockKind;rw[P];rfl
  have u:(X.env.kindOf y==some .local)=true:=by unfold Env.kindOf;rw[hl];rfl
  show(pure (X.env.blockKind==.function&&X.env.kindOf y==some .local&&(py.line==p.line)&&!(v.names.any λ(n,k)=>n==y&&(k==.local||k==.cell))):Sem Bool)=pure true;rw[M,u,H,I];rfl
def Ig:jJ:=λR g st=>xl st λts d _=>n1 ts λt=>t6 t λa b _=>if j5 b=true then(R.e g a).bind λx=>(R.e g b).bind λy=>(R.e g d).bind λz=>some (eE x y z) else none
def Fv:SS Ig:=λ{F n R} j {g X} o {a H} h=>by
 replace h:=mV h;obtain⟨ts,d,_,rfl,h⟩:=h;replace h:=cb h;obtain⟨t,rfl,h⟩:=h;replace h:=j8 h;obtain⟨a,b,p2,rfl,h⟩:=h
 ·next=>
  obtain⟨c,h⟩:=oi h;obtain⟨x,u,h⟩:=ob h;obtain⟨y,B,h⟩:=ob h;obtain⟨z,E,h⟩:=ob h;cases h;refine Ln (j.e o u) (j.e o B) (j.e o E) (λv=>?_) ?_ ?_ rfl
  ·cases b<;>first|rfl|cases c
  ·cases d<;>rfl
  ·cases d<;>rfl
def Ij:jJ:=λR g st=>xj st λe _=>Kd e λa m d q=>if m="append"/\j7 a=true/\q=true/\notStar d=true then(R.e g a).bind λx=>(R.e g d).bind λy=>some (i3 x y) else none
def Fy:SS Ij:=λ{F n R} j {g X} o {a H} h=>by
 replace h:=mU h;obtain⟨e,_,rfl,h⟩:=h;replace h:=Ae h;obtain⟨a,m,q,d,p,rfl,h⟩:=h;replace h:=oi h;obtain⟨⟨rfl,u,v,z⟩,h⟩:=h;obtain⟨x,B,h⟩:=ob h;obtain⟨y,E,h⟩:=ob h;cases h;exact Lu (j.e o B) (j.e o E) (g8 u) v (aR z) rfl
def Ie:jJ:=λR g st=>(xj st λa _=>if vV a=true then((R.x g a).bind λx=>some (fX x)).or ((R.e g a).bind λx=>some (sEx x)) else none).or
 ((sRt st λq _ => match q with
   |none=>some Ek
   |some a=>((R.x g a).bind λx=>some (xh x)).or ((R.e g a).bind λx=>some (aS x))).or
 ((sPs st λ_=>some El).or
 ((sIf st λc st u _=>(R.t g c).bind λt=>(pS (R.s g) st).bind λx=>(pS (R.s g) u).bind λy=>some (a7 t x y)).or
 (sFr st λh a body j _=>n0 j (if g.lv=2/\j6 a=true then(R.w g h a).bind λw=>(cG g h).bind λt=>(pS (R.s g) body).bind λx=>some (eF t w x) else none)))))
def Fu:SS Ie:=λ{F n R} j {g X} o {a H} h=>by
 replace h:=bO h;rcases h with h|h
 ·obtain⟨a,p,rfl,h⟩:=mU h;obtain⟨c,h⟩:=oi h;rcases bO h with h|h
  ·obtain⟨x,e,h⟩:=ob h;cases h;exact Ms (j.x o e) (vW c)
  ·obtain⟨x,u,h⟩:=ob h;cases h;exact Nm (j.e o u) (vW c)
 replace h:=bO h;rcases h with h|h
 ·obtain⟨q,p,rfl,h⟩:=Jl h;cases q with
  |none=>cases h;exact Hy
  | some a =>
    rcases bO h with h|h
    ·obtain⟨x,e,h⟩:=ob h;cases h;exact Jf (j.x o e)
    ·obtain⟨x,u,h⟩:=ob h;cases h;exact Lm (j.e o u)
 replace h:=bO h;rcases h with h|h
 ·obtain⟨p,rfl,h⟩:=Jn h;cases h;exact Hz
 replace h:=bO h;rcases h with h|h
 ·obtain⟨c,st,I,p,rfl,h⟩:=Jp h;obtain⟨t,v,h⟩:=ob h;obtain⟨x,u,h⟩:=ob h;obtain⟨y,B,h⟩:=ob h;cases h;exact Lo (j.t o v) (iq (j.s o) u) (iq (j.s o) B)
 ·obtain⟨J,a,body,E,p,rfl,h⟩:=Jq h;obtain⟨rfl,h⟩:=eG h;obtain⟨⟨lv,c⟩,h⟩:=oi h;obtain⟨w,z,h⟩:=ob h;obtain⟨t,v,h⟩:=ob h;obtain⟨x,u,h⟩:=ob h;cases h;exact Lq (o.po lv) (o.calm `a) (j.w o z) (jF o v) (Nn (iq (j.s o) u)) (wt c)
def yD:jJ:=λR g st=>Jm st λe c _=>if c.isNone=true then e.bind λe=>lZ e λx h _=>nC h λa h=>if 2<=g.lv/\ik g x=true then(match g.T.lookup x with
 |some (.xc k)=>(cA (R.e g) (a::h)).bind λj=>some (fG k j)
 |_=>none) else none else none
set_option tactic.hygienic true in
def yC:SS yD:=λ{y n R} v {g X} o {a z} h=>by
 replace h:=vH h;obtain⟨e,c,_,rfl,h⟩:=h;replace h:=oi h;obtain⟨c,h⟩:=h;rw[Sm.mp c];replace h:=ob h;obtain⟨e,rfl,h⟩:=h;replace h:=fH h;obtain⟨x,q,u,p,rfl,h⟩:=h;replace h:=iF h;obtain⟨a,u,rfl,h⟩:=h
 ·obtain⟨⟨lv,c⟩,k⟩:=oi h;clear h;split at k
  ·next e=>
   obtain⟨B,j,k⟩:=ob k;cases k;obtain⟨d,ns⟩:=jG (v.e o) j;rw[RJ,Qs] at ns;obtain⟨C,h1,h2,h3,_⟩:=o.T.xc e;exact Gq _ ⟨C,h1,h2,h3⟩ (o.top lv).1 (cH o c).1 (o.calm `a) d (cH o c).2 ns.1 ns.2
  ·cases k
def vl:jJ:=λR g st=>Jm st λe c _=>if c.isNone=true then e.bind λe=>lZ e λx h _=>nC h λa h=>if 2<=g.lv/\ik g x=true then(match g.T.lookup x with
 |some (.xi k)=>if notStar a=true/\h.isEmpty=true then(R.e g a).bind λy=>some (jY k y) else none
 |_=>none) else none else none
set_option tactic.hygienic true in
def wW:SS vl:=λ{E n R} B {g X} o {a F} h=>by
 replace h:=vH h;obtain⟨e,c,_,rfl,h⟩:=h;replace h:=oi h;obtain⟨c,h⟩:=h;rw[Sm.mp c];replace h:=ob h;obtain⟨e,rfl,h⟩:=h;replace h:=fH h;obtain⟨x,q,v,p,rfl,h⟩:=h;replace h:=iF h;obtain⟨a,v,rfl,h⟩:=h
 ·obtain⟨⟨lv,c⟩,k⟩:=oi h;clear h;split at k
  ·next e=>
   obtain⟨⟨j,u⟩,k⟩:=oi k;obtain⟨y,z,k⟩:=ob k;cases k;rw[List.isEmpty_iff.mp u];exact Cd _ (o.T.xi e).1 (Jr (o.hr `a)) (o.top lv).1 (cH o c).1 (o.calm `a) (B.e o z) (cH o c).2 j
  ·cases k
def C7 (o:dJ fa n g X)(lv:2<=g.lv)(pn:List (Addr×Obj))(E:Qo->Qr->Prop):dJ fa n {g with lv:=3} (sm X pn E):={o.N,o.nd,o.sc,o.T,o.tw,o.xf,o.ms,λ_=>o.fn `a,o.oc,λ_=>o.calm `a,λ_=>o.C `a,λ_=>o.hr `a,λ_=>o.top lv,(λz=>nomatch z)}
def C8 (o:dJ fa n g X)(lv:2<=g.lv)(v:Qo)(E:Qo->Qr->Prop):dJ fa n {g with lv:=0} (so X v E):={o.N,o.nd,o.sc,o.T,o.tw,o.xf,o.ms,λ_=>o.fn `a,o.oc,(λz=>absurd (show 0<0 from z) `d),(λz=>absurd (show 0<0 from z) `d),(λz=>absurd (show 0<0 from z) `d),(λz=>absurd (show 2<=0 from z) `d),(λz=>nomatch z)}
def OW:V->List V->Hp->VK->Prop:=λx h H Q=>∃l xs i y,x=.ref l/\h=[.int (i:Nat),y]/\H l=some (.lst xs)/\xs.length<sizeLine/\i<=xs.length/\Q .non (upd H l (.lst (xs.take i++y::xs.drop i)))
def KU (j:List Qo)(i:Nat)(u:Qo)(h:i<=j.length):(j.toArray.extract 0 i).push u++j.toArray.extract i=(j.take i++u::j.drop i).toArray:=by
 apply Array.toList_inj.mp;simp[Array.toList_extract,List.extract_eq_take_drop,RD]
def Kj:Ox X "list.insert" OW:=by
 intro L s σ H x Y v W Q I U S h;obtain⟨l,xs,i,y,rfl,rfl,J,P,O,q⟩:=h;cases U;cases S with
 | cons r1 r2 =>
   obtain⟨u,rfl,R⟩:=vals1 r2;obtain⟨t,rfl⟩:=r1;obtain⟨z,j,n,r,hl,e⟩:=I.lstM J;obtain⟨x,B⟩:∃x:Int,x=(i:Int):={_,rfl};rw[<- B];have E:x<2^63:=B ▸ Int.lt_of_lt_of_le (Int.ofNat_lt.mpr (Sx O (Nat.lt_trans P ig))) (Int.le_of_eq (Int.natCast_pow 2 63));have M:=fitsIndex_both (k:=x) (Int.le_trans (Int.neg_nonpos_of_nonneg (Int.pow_nonneg `d)) (B ▸ Int.natCast_nonneg i)) E
   refine call_meets F.slot_list_insert {_,e,rfl} F.entry_list_insert (F.args_list_insert_3 _ _ _) (PySem.AutoSeq1.list_insert_list_int_val_1 l j.toArray n x t u (by rw[M];exact QP) (by rw[QD];omega)) {e,?_}
   refine{.non,_,I.lset (its':=j.take i++u::j.drop i) J e ?_ ((r.take i).append (.cons R (r.drop i))) ?_,rfl,q}
   ·show(j.toArray.extract 0 (if x<0 then _ else min x.toNat j.toArray.size)).push u++j.toArray.extract (if x<0 then _ else min x.toNat j.toArray.size)=_;rw[if_neg `a,B,RP,QD,Nat.min_eq_left `a]
    exact KU j i u `a
   ·rw[Rp,RV,Sa,List.length_drop];omega
def tf (a i d:GE):GS:=λu M=>(a u M).bind λx M=>(i u M).bind λj M=>(d u M).bind λz M=>match x,j with
 | .cell k, .int j => (match M[k]? with
   |some h=>if h.length<sz/\0<=j/\j.toNat<=h.length then .ok (.next u) (M.set k (h.take j.toNat++z::h.drop j.toNat)) else .bad
   |_=>.bad)
 |_,_=>.bad
set_option tactic.hygienic true in
def Lp {a i d:Expr}{ga gi gd:GE}{pos u v:Pos}(ha:DE fa X a ga)(hi:DE fa X i gi)(hd:DE fa X d gd)(E:attributeBase a "insert" X.env (eval a X.env)=eval a X.env)(I:(u.endLine==v.line)=true)(hs:starEach [i,d] X.env=(false,eval i X.env)::starEach [d] X.env)(J:starEach [d] X.env=[(false,eval d X.env)])
 (hsw:swapsWith (.Call (.Attribute a "insert" u) [i,d] [] v) none pos.line X.env=pure false) :
 DS fa X (.Expr (.Call (.Attribute a "insert" u) [i,d] [] v) pos) (tf ga gi gd):=
 da (iR (si PySem.F.plainAttrs_list PySem.F.slot_list_insert PySem.F.type_list_insert Kj ha (bI hi (bI hd cW J) hs) E (by rw[hs,J];rfl) I hs (by rw[J];rfl)) hsw) λD' σ H ⟨μ,Y,M,S,hM,h⟩=>by
  obtain⟨x,M1,e1,h1⟩:=az h;obtain⟨y,M2,e2,h2⟩:=az h1;obtain⟨z,M3,e3,h3⟩:=az h2;obtain⟨k,j,B,rfl,rfl,L,Q,hj,q⟩:∃k,∃j:Nat,∃B,x=.cell k/\y=.int j/\M3[k]?=some B/\B.length<sz/\j<=B.length/\lP fa X μ H D' (.next Y) (M3.set k (B.take j++z::B.drop j)):=by
   cases x with
   | cell k =>
     cases y with
     | int j =>
       dsimp only at h3;cases L:M3[k]? with
       |none=>rw[L] at h3;exact h3.elim
       | some B =>
         rw[L] at h3;dsimp only at h3;split at h3
         ·next Q=>exact{k,j.toNat,B,rfl,by rw[Int.toNat_of_nonneg Q.2.1],L,Q.1,Q.2.2,h3}
         ·exact h3.elim
     |_=>exact h3.elim
   |_=>exact h3.elim
  refine{μ,Y,M,S,hM,?_};rw[e1];intro vx H1 μ1 U O rx;obtain⟨ad,rfl,hk⟩:=rx;obtain⟨ds1,ws1,_,hH1,_⟩:=O.mu_lt hk;refine{.inl {rfl,ws1,cP.of hH1},μ1,Y,M1,S.ext U,O,?_};rw[e2];intro vy H2 μ2 R hM2 ry;refine{μ2,Y,M2,(S.ext U).ext R,hM2,?_};rw[e3];intro vz H3 μ3 W P rz;obtain⟨ws,h4,h5⟩:=P.at_ L (W.mu k ad (R.mu k ad hk));have hl:=h5.length;cases ry;refine{ad,ws,j,vz,rfl,rfl,h4,by rw[hl,<- cQ];exact Q,by rw[hl];exact hj,?_}
  exact jq (((S.ext U).ext R).ext W) P (W.mu k ad (R.mu k ad hk)) ((h5.take j).append (aG.append (aG.one rz) (h5.drop j))) λσ' H' μ' x' e' m'=>q σ' H' μ' (((U.trans R).trans W).trans x') e' m'
def Ih:jJ:=λR g st=>xj st λe _=>pD e λf h ks p=>xC f λa m q=>n0 ks (n2 h λi d=>if m="insert"/\j7 a=true/\(q.endLine==p.line)=true/\notStar i=true/\notStar d=true then(R.e g a).bind λx=>(R.e g i).bind λj=>(R.e g d).bind λy=>some (tf x j y) else none)
def Fw:SS Ih:=λ{L n R} u {g X} o {a M} h=>by
 replace h:=mU h;obtain⟨e,_,rfl,h⟩:=h;replace h:=i8 h;obtain⟨f,J,ks,p,rfl,h⟩:=h;replace h:=oA h;obtain⟨a,m,q,rfl,h⟩:=h;replace h:=eG h;obtain⟨rfl,h⟩:=h;replace h:=gA h;obtain⟨i,d,rfl,h⟩:=h;replace h:=oi h;obtain⟨⟨rfl,v,z,B,E⟩,h⟩:=h;obtain⟨x,H,h⟩:=ob h;obtain⟨j,F,h⟩:=ob h;obtain⟨y,I,h⟩:=ob h;cases h;exact Lp (u.e o H) (u.e o F) (u.e o I) (g8 v) z (aR B) (aR E) rfl
def J1:bF X (compareOp .Is) (λx y H Q=>∃a b,x=.bl a/\y=.bl b/\Q (.bl (a==b)) H):=by
 intro j s E H x y v u Q I z B h;obtain⟨a,b,rfl,rfl,q⟩:=h;cases z;cases B;exact wpAny_of_eq (show compareOp .Is (.bool a) (.bool b)=pure (.bool (a==b)) by cases a<;>cases b<;>rfl) (bj I q rfl)
def uw (a:GE)(v:Bool):GE:=λh M=>(a h M).bind λx M=>(gC (.bl v) h M).bind λy M=>match x,y with
 |.bl i,.bl j=>.ok (.bl (i==j)) M
 |_,_=>.bad
def Nz {a b:Expr}{B:GE}{pos:Pos}{v:Bool}(J:DE fa X a B)(L:DE fa X b (gC (.bl v)))(hm:behindInMarks .Is b=false):DE fa X (.Compare a [.Is] [b] pos) (uw B v):=
 bt (mZ J1 J L hm) λY H Q ⟨U,W,M,E,I,h⟩=>t2 E I h λx y S v u R P O F z r1 r2 h2=>by
  cases x with
  | bl i =>
    cases y with
    |bl j=>cases r1;cases r2;exact{i,j,rfl,rfl,aM z (ju h2 O) rfl}
    |_=>exact h2.elim
  |_=>exact h2.elim
def II:di:=λR g e=>CG e λa h bs _=>n1 h λq=>n1 bs λb=>xB b λc _ _=>match c with
 |.bool v=>if fx q=.isN then(R.e g a).bind λx=>some (uw x v) else none
 |_=>none
def FN:SE II:=by
 intro y n R u g X o a z h;replace h:=ni h;obtain⟨a,E,bs,p,rfl,h⟩:=h;replace h:=cb h;obtain⟨q,rfl,h⟩:=h;replace h:=cb h;obtain⟨b,rfl,h⟩:=h;replace h:=nh h;obtain⟨c,i,B,rfl,h⟩:=h;cases c with
 | bool v =>
   replace h:=oi h;obtain⟨c,h⟩:=h;replace h:=ob h;obtain⟨x,j,h⟩:=h;cases h;rw[show q=.Is from(cz q).symm.trans (congrArg d7 c)];exact Nz (u.e o j) OS rfl
 |_=>cases h
def vm:jJ:=λR g st=>sTr st λbody hs j y _=>n0 j (n0 y (n1 hs fun
 |.ExceptHandler t nm z _=>t.bind λt=>nName t λx _=>nC z λb h=>if nm.isNone=true/\2<=g.lv/\ik g x=true then(g.tw.find? λq=>q.1==x&&q.2.1==x&&q.2.2.1==q.2.2.2).bind λq=>(pS (R.s {g with lv:=3}) body).bind λu=>(pS (R.s {g with lv:=0}) (b::h)).bind λv=>some (lW u q.2.2.1 q.2.2.1 v) else none))
def wX:SS vm:=λ{L n R} B {g X} o {a O} h=>by
 replace h:=Jk h;obtain⟨body,hs,J,M,_,rfl,h⟩:=h;replace h:=eG h;obtain⟨rfl,h⟩:=h;replace h:=eG h;obtain⟨rfl,h⟩:=h;replace h:=cb h;obtain⟨hd,rfl,h⟩:=h;obtain⟨t,nm,P,_⟩:=hd;replace h:=ob h;obtain⟨t,rfl,h⟩:=h;replace h:=cw h;obtain⟨x,_,rfl,h⟩:=h;replace h:=iF h;obtain⟨b,j,rfl,h⟩:=h;obtain⟨⟨F,lv,c⟩,k⟩:=oi h;clear h;rw[Sm.mp F];obtain⟨q,z,k⟩:=ob k;obtain⟨u,H,k⟩:=ob k;obtain⟨v,I,k⟩:=ob k;cases k;have tw:=o.tw q (List.mem_of_find?_eq_some z);have e:=List.find?_some z;rw[Qs,Qs] at e;rw[eq_of_beq e.1.1,eq_of_beq e.1.2,<- eq_of_beq e.2] at tw;have y:=o.top lv;exact Cf tw y.1 y.2.1 y.2.2.1 (cH o c).1 (cH o c).2 (λpn E=>iq (B.s (C7 o lv pn E)) H) (λv E=>iq (B.s (C8 o lv v E)) I)
section
variable{β:Type}{e:Expr}{st:Stmt}{r:β}
noncomputable def CF (e:Expr)(k:List (Option Expr)->List Expr->Pos->Option β):Option β:=if h:e.ctorIdx=6 then @Expr.Dict.elim (λ_=>Option β) e h k else none
def v8 (h:CF e k=some r):∃a b c,e=.Dict a b c/\k a b c=some r:=(od h).elim λz h=>@Expr.Dict.elim (λe=>∀z,@Expr.Dict.elim (λ_=>Option β) e z k=some r->∃a b c,e=.Dict a b c/\k a b c=some r) e z (λa b c _ h=>⟨a,b,c,rfl,h⟩) z h
noncomputable def N8 (e:Stmt)(k:Expr->List Stmt->List Stmt->Pos->Option β):Option β:=if h:e.ctorIdx=11 then @Stmt.While.elim (λ_=>Option β) e h k else none
def Jj (h:N8 st k=some r):∃a b c d,st=.While a b c d/\k a b c d=some r:=(od h).elim λz h=>@Stmt.While.elim (λe=>∀z,@Stmt.While.elim (λ_=>Option β) e z k=some r->∃a b c d,e=.While a b c d/\k a b c d=some r) st z (λa b c d _ h=>⟨a,b,c,d,rfl,h⟩) z h
noncomputable def Of (e:Expr)(k:Expr->Expr->List Sw->Scope->Pos->Option β):Option β:=if h:e.ctorIdx=10 then @Expr.DictComp.elim (λ_=>Option β) e h k else none
def Kc (h:Of e k=some r):∃a b c d p,e=.DictComp a b c d p/\k a b c d p=some r:=(od h).elim λz h=>@Expr.DictComp.elim (λe=>∀z,@Expr.DictComp.elim (λ_=>Option β) e z k=some r->∃a b c d p,e=.DictComp a b c d p/\k a b c d p=some r) e z (λa b c d p _ h=>⟨a,b,c,d,p,rfl,h⟩) z h
end
def lN (o:dJ fa n g X):eB fa:=⟨o.T.of,o.T.od.1,o.T.od.2⟩
def Ea:di:=λR g e=>t6 e λa b p=>if g.tx p=true/\j5 b=true/\0<g.lv then(R.e g a).bind λx=>(R.e g b).bind λy=>some (cZ x y) else none
def BF:SE Ea:=λ{z n R} j {g X} o {a B} h=>by
 replace h:=j8 h;obtain⟨a,b,p,rfl,h⟩:=h;replace h:=oi h;obtain⟨⟨_,c,lv⟩,h⟩:=h;obtain⟨x,u,h⟩:=ob h;obtain⟨y,v,h⟩:=ob h;cases h;exact LM (o.rm lv) (lN o) (j.e o u) (j.e o v) (ow c)
noncomputable def isIn (q:CmpOp):Option Bool:=match q with
 |.In=>some false
 |.NotIn=>some true
 |_=>none
def Hh (h:isIn q=some n):q=if n then .NotIn else .In:=by
 cases q<;>first|(cases h;rfl)|cases h
def LS (R:Rc)(g:G)(e:Expr):Option GE:=CG e λa h bs p=>n1 h λq=>n1 bs λb=>if g.tx p=true/\behindInMarks q b=false/\0<g.lv then(isIn q).bind λn=>(R.e g a).bind λx=>(R.e g b).bind λy=>some (jb n x y) else none
def HW (j:iB fa n R)(o:dJ fa n g X)(h:LS R g e=some ge):DE fa X e ge/\DT fa X e (au ge):=by
 replace h:=ni h;obtain⟨a,z,bs,p,rfl,h⟩:=h;replace h:=cb h;obtain⟨q,rfl,h⟩:=h;replace h:=cb h;obtain⟨b,rfl,h⟩:=h;replace h:=oi h;obtain⟨⟨_,c,lv⟩,h⟩:=h;obtain⟨m,hm,h⟩:=ob h;obtain⟨x,u,h⟩:=ob h;obtain⟨y,v,h⟩:=ob h;cases h;have e:=Hh hm;subst e;exact{NC m (o.rm lv) (lN o) (j.e o u) (j.e o v) c,Lj m (o.rm lv) (lN o) (j.e o u) (j.e o v) c}
def Iu:Fn:=λR g e=>(LS R g e).bind λx=>some (au x)
def FE:ST Iu:=λ{v n R} u {g X} o {a y} h=>by
 obtain⟨x,j,h⟩:=ob h;cases h;exact(HW u o j).2
def DL:jJ:=λR g st=>xl st λts d _=>n1 ts λt=>t6 t λa b p=>if g.tx p=true/\j5 b=true/\0<g.lv then(R.e g a).bind λx=>(R.e g b).bind λy=>(R.e g d).bind λz=>some (iD x y z) else none
def Bm:SS DL:=λ{F n R} j {g X} o {a H} h=>by
 replace h:=mV h;obtain⟨ts,d,_,rfl,h⟩:=h;replace h:=cb h;obtain⟨t,rfl,h⟩:=h;replace h:=j8 h;obtain⟨a,b,p2,rfl,h⟩:=h;replace h:=oi h;obtain⟨⟨_,c,lv⟩,h⟩:=h;obtain⟨x,u,h⟩:=ob h;obtain⟨y,B,h⟩:=ob h;obtain⟨z,E,h⟩:=ob h;cases h;refine Jg (o.rm lv) (lN o) (j.e o u) (j.e o B) (j.e o E) (λv=>?_) ?_ ?_
 ·cases b<;>first|rfl|cases c
 ·cases d<;>rfl
 ·cases d<;>rfl
def D8:di:=λR g e=>CF e λks h p=>n0 ks (n0 h (some (xV (if g.tx p=true then 78 else 77))))
def BD:SE D8:=λ{j n R} v {g X} o {a u} h=>by
 replace h:=v8 h;obtain⟨ks,y,p,rfl,h⟩:=h;replace h:=eG h;obtain⟨rfl,h⟩:=h;replace h:=eG h;obtain⟨rfl,h⟩:=h;cases h;exact LK _ (by split<;>simp) (lN o)
def D9:di:=λR g e=>if g.tx e.pos=true then(cR R g "len" e).bind λq=>if notStar q.1=true then some (ny q.2) else none else none
def BE:SE D9:=λ{z n R} v {g X} o {a B} h=>by
 obtain⟨_,h⟩:=oi h;obtain⟨⟨b,y⟩,u,h⟩:=ob h;obtain⟨c,h⟩:=oi h;cases h;obtain⟨_,_,rfl,j,hm,_,d,hs⟩:=nH v o u;exact LL (lN o) j hm d c
def yZ:di:=λR g e=>Of e λB E u h p=>n1 u λc=>nG c λz j v=>let own:=xr z
 n0 v (if vR g own h/\j6 j=true then(R.w g z j).bind λw=>(cG (g.inC own h) z).bind λt=>(R.e (g.inC own h) B).bind λx=>(R.e (g.inC own h) E).bind λy=>if (slots t).all (· < own.length)=true then some (kj (if g.tx p=true then 78 else 77) own.length t w (jC x y)) else none else none)
def yY:SE yZ:=λ{Q n R} u {g X} o {a U} h=>by
 replace h:=Kc h;obtain⟨W,vx,z,v,p,rfl,h⟩:=h;replace h:=cb h;obtain⟨c,rfl,h⟩:=h;replace h:=sj h;obtain⟨Y,B,P,rfl,h⟩:=h;replace h:=eG h;obtain⟨rfl,h⟩:=h;replace h:=oi h;obtain⟨⟨c,F⟩,h⟩:=h;obtain⟨w,J,h⟩:=ob h;obtain⟨t,I,h⟩:=ob h;obtain⟨x,L,h⟩:=ob h;obtain⟨y,M,h⟩:=ob h;obtain⟨E,h⟩:=oi h;cases h;obtain⟨S,O⟩:=yf o c;exact HQ (by split<;>simp) (lN o) S (o.calm c.1) (u.w o J) {λcl C j s H=>jF (O cl C j s H) I,λcl C j s H a=>HM ((O cl C j s H).rm Nat.zero_lt_one) (lN o) (u.e (O cl C j s H) L) (u.e (O cl C j s H) M)} (by simpa using kK E) (wt F)
def yB:jJ:=λR g st=>N8 st λc body h _=>n0 h (if g.lv=2 then(R.t g c).bind λt=>(pS (R.s g) body).bind λb=>some (lV t b) else none)
def yA:SS yB:=λ{z n R} j {g X} o {a B} h=>by
 replace h:=Jj h;obtain⟨c,body,y,p,rfl,h⟩:=h;replace h:=eG h;obtain⟨rfl,h⟩:=h;replace h:=oi h;obtain⟨lv,h⟩:=h;obtain⟨t,v,h⟩:=ob h;obtain⟨b,u,h⟩:=ob h;cases h;exact Gp (o.po lv) (j.t o v) (iq (j.s o) u)
def IP:di:=λR g e=>(cR R g "any" e).bind λq=>if notStar q.1=true then some (qx q.2) else none
def FQ:SE IP:=λ{z n R} v {g X} o {a B} h=>by
 obtain⟨⟨b,y⟩,u,h⟩:=ob h;obtain⟨c,h⟩:=oi h;cases h;obtain⟨_,_,rfl,j,hm,lv,d,hs⟩:=nH v o u;exact NI (o.calm lv) j hm d c
def N0:di:=λR g e=>CF e λks h p=>n1 ks λk=>k.bind λk=>n1 h λv=>if 0<g.lv then(R.e g k).bind λx=>(R.e g v).bind λy=>some (wq (if g.tx p=true then 78 else 77) x y) else none
def IL:SE N0:=λ{B n R} j {g X} o {a E} h=>by
 replace h:=v8 h;obtain⟨ks,F,p,rfl,h⟩:=h;replace h:=cb h;obtain⟨k,rfl,h⟩:=h;obtain⟨k,rfl,h⟩:=Rl.mp h;replace h:=cb h;obtain⟨v,rfl,h⟩:=h;replace h:=oi h;obtain⟨lv,h⟩:=h;obtain⟨x,u,h⟩:=ob h;obtain⟨y,z,h⟩:=ob h;cases h;exact HP _ (by split<;>simp) (o.rm lv) (lN o) (j.e o u) (j.e o z)
def yM:u9:=λR g _ e=>if g.cl e.pos=true then(R.e g e).bind λx=>some (eT cK x) else none
def yL:SW yM:=λ{v n R} u {g X} o {t a y} h=>by
 obtain⟨_,h⟩:=oi h;obtain⟨x,j,h⟩:=ob h;cases h;exact HJ (lN o) (u.e o j)
def DN:jJ:=λR g st=>xj st λe _=>Kd e λa m d q=>if m="append"/\j7 a=true/\q=true/\notStar d=true then(R.e g a).bind λx=>(R.x g d).bind λy=>some (mW x y) else none
def Bo:SS DN:=λ{F n R} j {g X} o {a H} h=>by
 replace h:=mU h;obtain⟨e,_,rfl,h⟩:=h;replace h:=Ae h;obtain⟨a,m,q,d,p,rfl,h⟩:=h;replace h:=oi h;obtain⟨⟨rfl,u,v,z⟩,h⟩:=h;obtain⟨x,B,h⟩:=ob h;obtain⟨y,E,h⟩:=ob h;cases h;exact HA (j.e o B) (j.x o E) (g8 u) v (aR z) rfl
def yX:di:=λR g e=>pD e λh j ks p=>xC h λa m ap=>n0 ks (n2 j λb c=>if m="get"/\j7 a=true/\(ap.endLine==p.line)=true/\notStar b=true/\notStar c=true/\0<g.lv then(R.e g a).bind λx=>(R.e g b).bind λy=>(R.e g c).bind λz=>some (ip x y z) else none)
def yW:SE yX:=λ{L n R} j {g X} o {a M} h=>by
 replace h:=i8 h;obtain⟨hd,J,ks,p,rfl,h⟩:=h;replace h:=oA h;obtain⟨a,m,ap,rfl,h⟩:=h;replace h:=eG h;obtain⟨rfl,h⟩:=h;replace h:=gA h;obtain⟨b,c,rfl,h⟩:=h;replace h:=oi h;obtain⟨⟨rfl,v,B,E,u,lv⟩,h⟩:=h;obtain⟨x,F,h⟩:=ob h;obtain⟨y,H,h⟩:=ob h;obtain⟨z,I,h⟩:=ob h;cases h;exact ND (o.rm lv) (lN o) (j.e o F) (j.e o H) (j.e o I) (g8 v) B (by rw[aR E,aR u];rfl) (aR u)
def D5:di:=λR g e=>pD e λh j ks p=>nName h λx _=>n1 j λa=>n1 ks λk=>xB k.value λc _ _=>if x="min"/\ik g x=true/\(match g.T.lookup x with|some .bl=>true|_=>false)=true/\0<g.lv/\notStar a=true/\k.arg=some "default"/\(match c with|.none=>true|_=>false)=true then(R.e g a).bind λy=>some (lp y) else none
def BA:SE D5:=λ{I n R} F {g X} o {a J} h=>by
 replace h:=i8 h;obtain⟨hd,H,ks,p,rfl,h⟩:=h;replace h:=cw h;obtain⟨x,q,rfl,h⟩:=h;replace h:=cb h;obtain⟨a,rfl,h⟩:=h;replace h:=cb h;obtain⟨⟨L,M,kp⟩,rfl,h⟩:=h;replace h:=nh h;obtain⟨c,i,cp,rfl,h⟩:=h;replace h:=oi h;obtain⟨⟨rfl,j,u,lv,v,rfl,z⟩,h⟩:=h;have B:c=.none:=by revert z;cases c<;>simp
 subst B;obtain⟨y,E,h⟩:=ob h;cases h;exact Jt (o.rm lv) (o.calm lv) (cH o j).1 (o.T.bl (lC u)) (F.e o E) (aR v)
def yV:di:=λR g e=>if g.tx e.pos=true then(cR R g "list" e).bind λq=>some (ki (g.cl e.pos) q.2) else none
def yU:SE yV:=λ{z n R} v {g X} o {a B} h=>by
 obtain⟨_,h⟩:=oi h;obtain⟨⟨b,y⟩,u,h⟩:=ob h;cases h;obtain⟨_,_,rfl,j,hm,lv,d,hs⟩:=nH v o u;exact GC (o.calm lv) (lN o) _ j hm d hs
structure Ent where
 i:Nat
 x:Str
 st:Stmt
 ps:Nat
 N:List Str
 f:Addr
 pm:Str×Tok
 b:Call->GS
 r:Bool:=false
 q:Option Str:=none
 df:Addr:=0
noncomputable def Ent.qn (e:Ent):Str:=e.q.getD e.x
structure mK where
 T:List (Str×En)
 tw:List (Str×Str×Nat×Nat)
 xf:List Str
 dl:List (Str×List (Str×Nat))
 il:List (Str×Nat)
 cel:List (Nat×Nat×Nat)
 txt:List (Nat×Nat×Nat)
 ms:List (Str×Nat×Nat)
 rs:Rs
 tb:List Ent
def mK.g (t:mK)(e:Ent)(c:Call):G:={t.T,t.tw,t.xf,t.cel,t.txt,t.ms,c,e.N,aF e.st,2,[]}
noncomputable def mK.Pg (t:mK)(i:Nat):Option Df:=(t.tb.find? (·.i==i)).map λe=>⟨e.ps,e.N.length,e.b⟩
def mK.rd (t:mK)(c:Call)(e:Ent):Option GS:=pS ((It t.rs 60).s (t.g e c)) (bK e.st)
def Dh (e:Ent):Bool:=decide ((aF e.st).kind=.function)&&!(aF e.st).isCoroutine&&!(aF e.st).isGenerator&&decide e.N.Nodup&&((e.N.take e.ps).length==e.ps)&&((e.N.take e.ps).all λx=>(aF e.st).names.lookup x==some .local||(aF e.st).names.lookup x==some .cell)&&((aF e.st).names.all (·.2 != .free))
def pM (h:Dh e=true):gp e.N (e.N.take e.ps) (aF e.st)/\(e.N.take e.ps).length=e.ps:=by
 unfold Dh at h;simp only[Qs,decide_eq_true_eq,Sr,QI,RF,beq_iff_eq,bne_iff_ne] at h;obtain⟨⟨⟨⟨⟨⟨h1,h2⟩,h3⟩,h4⟩,j⟩,u⟩,v⟩:=h;exact{{h1,h2,h3,h4,by rw[j],u,v},j}
noncomputable def Ent.dV (e:Ent):Qo:=if e.df=0 then .none else .ref e.df
def Lb (e:Ent):Option Obj:=some {.type "function",none,.func (PySem.W.fnOf e.x e.qn (c4 e.st) (bK e.st) (aF e.st) e.dV .none .none (.str e.pm.1 e.pm.2) none (.ref (e.f-1)) .none),#[]}
def l9 {j u:Type}{f g:j->u}{l:List j}(h:l.map f=l.map g){a:j}(m:a∈l):f a=g a:=List.map_inj_left.mp h a m
def oN (e:Ent)(us:List Qo)(kV j pm:Qo)(u:Option Addr)(h ct:Qo):Sem (List (Str×Qo)):=bindArgs (PySem.W.fnOf e.x e.qn (c4 e.st) (bK e.st) (aF e.st) e.dV kV j pm u h ct) {us,[]}
def oX (tb:List Ent)(k:Nat)(us:List Qo):Prop:=∀(kV j pm:Qo) (u:Option Addr) (h ct:Qo),(tb.filter λe=>e.ps==k&&e.df==0).map (λe=>oN e us kV j pm u h ct)=(tb.filter λe=>e.ps==k&&e.df==0).map λe=>pure ((e.N.take e.ps).zip us)
structure yq (t:mK):Prop where
 rs:DC t.rs
 rd:∀c,t.tb.map (t.rd c)=t.tb.map λe=>some (e.b c)
 sc:t.tb.all Dh=true
 ar:t.tb.all (λe=>e.ps==0||e.ps==1||e.ps==2||e.ps==3||e.ps==4||e.ps==6)=true
 a0:oX t.tb 0 []
 a1:∀a,oX t.tb 1 [a]
 a2:∀a b,oX t.tb 2 [a,b]
 a3:∀a b c,oX t.tb 3 [a,b,c]
 a4:∀a b c d,oX t.tb 4 [a,b,c,d]
 a6:∀a b c d e f,oX t.tb 6 [a,b,c,d,e,f]
 ad:AllP (λe=>e.ps=2/\∀(a b kV doc pm:Qo) (an:Option Addr) (cdv ct:Qo),∃k k1,oN e [a,b] kV doc pm an cdv ct=seqItems? (.ref e.df) >>= k/\k (some #[.none])=pure ((e.N.take e.ps).zip [a,b])/\oN e [a] kV doc pm an cdv ct=seqItems? (.ref e.df) >>= k1/\k1 (some #[.none])=pure ((e.N.take e.ps).zip [a,.none])) (t.tb.filter λe=>!(e.df==0))
structure Bl (K:Ql) (tb:List Ent):Prop where
 ns:(tb.filter (·.q.isNone)).map (λe=>PySem.W.nsIn K mainGlobals e.x)=(tb.filter (·.q.isNone)).map λe=>some (some (.ref e.f))
 lk:tb.map (λe=>K.lookup e.f)=tb.map Lb
 dk:tb.all (λe=>e.df==0||(match K.lookup e.df with|some {_,_,.seq its _,_}=>its==#[.none]|_=>false))=true
 ck:tb.all (λe=>PySem.W.codeIn K (.ref (e.f-1)) e.qn&&PySem.W.keepIn K (.ref e.f))=true
def IW {K:Ql}{tb:List Ent}(k:Bl K tb)(m:e∈tb):yx K e.x e.qn e.st e.f (PySem.W.fnOf e.x e.qn (c4 e.st) (bK e.st) (aF e.st) e.dV .none .none (.str e.pm.1 e.pm.2) none (.ref (e.f-1)) .none):=by
 have c:=QI.mp k.ck e m;rw[Qs] at c;exact{{_,_,_,_,_,_,_,_,_,_,rfl,l9 k.lk m,c.1},c.2}
def FY {K:Ql}{h:Heap}(k:Bl K tb)(X:K.In h)(G:h.Ns mainGlobals mg)(m:e∈tb)(u:e.q.isNone=true)(hd:e.df=0):mg e.x=some (.ref e.f)/\∃j,nZ K e.x e.qn e.st e.f j:=by
 have c:=QI.mp k.ck e m;rw[Qs] at c;have l:=l9 k.lk m;unfold Lb Ent.dV at l;rw[if_pos hd] at l;exact{RU X G (l9 k.ns (RM.mpr ⟨m,u⟩)),_,AQ l c.1 c.2}
def us6 {j:Type}{p:List j->Prop}(h:∀a b c d e f,p [a,b,c,d,e,f]):∀(us:List j) (hl:us.length=6),p us
 |[a,b,c,d,e,f],_=>h a b c d e f
def BU {t:mK}(T:yq t){e:Ent}(m:e∈t.tb)(H:e.df=0)(kV B pm:Qo)(E:Option Addr)(j ct:Qo):∀us:List Qo,us.length=(e.N.take e.ps).length->oN e us kV B pm E j ct=pure ((e.N.take e.ps).zip us):=by
 have hl:=(pM (QI.mp T.sc e m)).2;have a:=QI.mp T.ar e m;have f:∀{k:Nat}{us:List Qo},e.ps=k->oX t.tb k us->oN e us kV B pm E j ct=pure ((e.N.take e.ps).zip us):=λ{k us} I F=>l9 (F kV B pm E j ct) (RM.mpr {m,by rw[I,H];simp})
 rw[hl];simp only[RF,beq_iff_eq] at a;rcases a with((((a|a)|a)|a)|a)|a
 ·rw[a];exact λus h=>by rw[Se.mp h];exact a ▸ f a T.a0
 ·rw[a];exact NY λx=>a ▸ f a (T.a1 x)
 ·rw[a];exact Iv λx y=>a ▸ f a (T.a2 x y)
 ·rw[a];exact us3 λx y z=>a ▸ f a (T.a3 x y z)
 ·rw[a];exact us4 λx y z u=>a ▸ f a (T.a4 x y z u)
 ·rw[a];exact us6 λx y z u v w=>a ▸ f a (T.a6 x y z u v w)
section
variable{fa:Fa}{P:Q0}{w:Q2}{K:Ql}{mg:Str->Option Qo}{base:Heap}{t:mK}
def sP (T:yq t)(TO:Fm fa P w K mg base t.T)(tw:∀q∈t.tw,wO fa K mg q.1 q.2.1 q.2.2.1 q.2.2.2)(xf:∀f∈t.xf,Fi fa K f)(ms:∀q∈t.ms,pZ fa K q.1 q.2.1 q.2.2){e:Ent}(m:e∈t.tb){ad:Addr}(call:Call)(n:Nat)(j:Qo)(A:RL)(outer:List R0)(s:Qr)(H:Hp)(E:XK)
 (C:∀f,gO fa P w K mg base n f (call f)) (hr:bW (2*n+5) (A.deeper (envOfC e.qn (aF e.st) s.heap.objs.size ad j))):kD fa (eM (fP P w) P w K mg base e.N e.qn (aF e.st) ad j A outer s H E) (bK e.st) (e.b call):=by
 have S:=(pM (QI.mp T.sc e m)).1;exact iq ((Fq T.rs 60).s (g:=t.g e call) (X:=eM (fP P w) P w K mg base e.N e.qn (aF e.st) ad j A outer s H E) {rfl,S.nd,rfl,TO,tw,xf,ms,λ_ _=>rfl,(λ_ h=>nomatch h),λ_=>rfl,λ_=>C,λ_=>hr,λ_=>⟨rfl,rfl,rfl,S.kind⟩,λ_=>PassesOwn.leaving}) (l9 (T.rd call) m)
set_option tactic.hygienic true in
def zf (k:Bl K tb)(m:en∈tb)(h:en.df≠0)(X:K.In s.heap)(e1:oN en us .none .none (.str en.pm.1 en.pm.2) none (.ref (en.f-1)) .none=seqItems? (.ref en.df) >>= kk)(e2:kk (some #[.none])=pure out) :
 BindsTo s (PySem.W.fnOf en.x en.qn (c4 en.st) (bK en.st) (aF en.st) en.dV .none .none (.str en.pm.1 en.pm.2) none (.ref (en.f-1)) .none) {us,[]} out:=by
 have dk:=QI.mp k.dk en m;rw[RF] at dk;rcases dk with dk|dk
 ·exact absurd (eq_of_beq dk) h
 split at dk
 ·next lk=>
  have q:=eq_of_beq dk;subst q;exact BindsTo.of_defaults (by show en.dV=_;unfold Ent.dV;rw[if_neg h]) (X _ _ lk) rfl (by show oN en us _ _ _ _ _ _=seqItems? en.dV >>= _;unfold Ent.dV;rw[if_neg h];exact e1) e2
 ·cases dk
def BS (T:yq t)(k:Bl K t.tb)(X:K.In h)(G:h.Ns mainGlobals mg)(TO:Fm fa P w K mg base t.T)(tw:∀q∈t.tw,wO fa K mg q.1 q.2.1 q.2.2.1 q.2.2.2)(xf:∀f∈t.xf,Fi fa K f)(ms:∀q∈t.ms,pZ fa K q.1 q.2.1 q.2.2)(U:t.tb.all (λe=>fa e.i==some e.f&&(!(fa (500+e.i)).isSome||!(e.df==0)))=true) :
 ∀f d,t.Pg f=some d->yy fa P w K mg base f d:=by
 intro f d e;obtain⟨j,O,rfl⟩:=Qv.mp e;have m:=List.mem_of_find?_eq_some O;have M:j.i=f:=by have:=List.find?_some O;simpa using this
 have F:=IW k m;obtain⟨S,hl⟩:=pM (QI.mp T.sc j m);have v:=QI.mp U j m;rw[Qs,RF] at v;have R:fa f=some j.f:=by rw[<- M];exact eq_of_beq v.1
 have B:Binds K (PySem.W.fnOf j.x j.qn (c4 j.st) (bK j.st) (aF j.st) j.dV .none .none (.str j.pm.1 j.pm.2) none (.ref (j.f-1)) .none) (j.N.take j.ps) []:=by
  by_cases y:j.df=0
  ·exact .all (BU T m y _ _ _ _ _ _)
  ·intro s L X u;obtain⟨h2,J⟩:=T.ad.mem j (RM.mpr {m,by simpa using y})
   rw[RZ] at u ⊢;rw[hl,h2] at u
   match L,u with
   | [a, b], _ =>
     obtain⟨kk,_,e1,e2,_⟩:=J a b .none .none (.str j.pm.1 j.pm.2) none (.ref (j.f-1)) .none;exact zf k m y X e1 e2
 have Q:(fa (500+f)).isSome=true->Binds K (PySem.W.fnOf j.x j.qn (c4 j.st) (bK j.st) (aF j.st) j.dV .none .none (.str j.pm.1 j.pm.2) none (.ref (j.f-1)) .none) (j.N.take j.ps) [.none]:=λhs s L X u=>by
  have y:j.df≠0:=by
   rcases v.2 with z|z
   ·rw[M,hs] at z;cases z
   ·simpa using z
  obtain⟨h2,J⟩:=T.ad.mem j (RM.mpr {m,by simpa using y})
  rw[hl,h2,Rp] at u
  match L,u with
  | [a], _ =>
    obtain⟨_,kk,_,_,e1,e2⟩:=J a .none .none .none (.str j.pm.1 j.pm.2) none (.ref (j.f-1)) .none;exact zf k m y X e1 e2
 exact{j.f,_,j.N.take j.ps,j.N,j.st,j.x,j.qn,R,F,B,Q,S,hl.symm,rfl,λcall n I A outer s H E C hr=>sP T TO tw xf ms m call n I A outer s H E C hr}
noncomputable def Lc (K:Ql)(fa:Fa)(t:mK)(p:Str×En):Bool:=match p.2 with
 |.fn i _=>(match PySem.W.nsIn K mainGlobals p.1 with|some (some (.ref a))=>fa i==some a|_=>false)
 |.fnD i=>(match PySem.W.nsIn K mainGlobals p.1 with|some (some (.ref a))=>fa i==some a&&(fa (500+i)).isSome|_=>false)
 |.int i=>(match PySem.W.nsIn K mainGlobals p.1 with|some (some (.int j _))=>i==j|_=>false)
 |.str i=>(match PySem.W.nsIn K mainGlobals p.1 with|some (some (.str j _))=>i==j|_=>false)
 |.xc k=>(match PySem.W.nsIn K mainGlobals p.1 with|some (some (.ref a))=>fa (eU k)==some a&&PySem.W.excIn K a nX "ValueError.__new__"&&PySem.W.keepIn K (.ref a)|_=>false)
 |.xi k=>(match PySem.W.nsIn K mainGlobals p.1 with|some (some (.ref a))=>fa (eU k)==some a&&t.il.contains (p.1,k)|_=>false)
 |.xk k=>(match PySem.W.nsIn K mainGlobals p.1 with|some (some (.ref a))=>fa (eU k)==some a|_=>false)
 |.de=>(match PySem.W.nsIn K mainGlobals p.1 with|some (some (.ref a))=>fa 999==some a|_=>false)
 |.bl=>(match PySem.W.nsIn K mainGlobals p.1 with|some none=>true|_=>false)
 |.dct fs=>t.dl.contains (p.1,fs)
 |.cls c f=>(match PySem.W.nsIn K mainGlobals p.1 with|some (some (.ref a))=>fa (jv c)==some a&&PySem.W.makesIn K a&&PySem.W.keepIn K (.ref a)&&(match fa f with|some ad=>PySem.W.findIn K (.ref a) "__init__"==some (some (.ref ad))&&PySem.W.isFn K (.ref ad)|none=>true)|_=>false)
set_option tactic.hygienic true in
def FX (X:K.In h)(G:h.Ns mainGlobals mg)(I:t.T.all (Lc K fa t)=true)(J:L1 fa K)(z:L6 fa K)(E:∀o,5000<=o->fa o=none)(B:fa (jv 77)=none/\fa (jv 78)=none)(hd:AllP (λq=>∃ad j,mg q.1=some (.ref ad)/\fz K w.params ad j/\d9 fa j q.2) t.dl)(hi:AllP (λq=>kC fa P w K mg base q.2 q.1) t.il):Fm fa P w K mg base t.T:=by
 have F:∀{x:Str}{e:En},t.T.lookup x=some e->Lc K fa t (x,e)=true:=λ{x e} l=>QI.mp I _ (mem_of_lookup l);refine{λ{x i r} l ad v=>?_,λ{x i} l=>?_,λ{x i} l=>?_,λ{x i} l=>?_,λ{x fs} l=>?_,λ{x k} l=>?_,λ{x k} l=>?_,λ{x k} l=>?_,λ{x} l=>?_,λ{x} l=>?_,J,z,E,B,λ{x c f} l=>?_};all_goals have b:=F l;unfold Lc at b;dsimp only at b
 ·split at b
  ·next e=>have b:=eq_of_beq b;rw[v] at b;cases b;exact RU X G e
  ·cases b
 ·split at b
  ·next e=>rw[Qs] at b;exact{λad v=>by have H:=eq_of_beq b.1;rw[v] at H;cases H;exact RU X G e,b.2}
  ·cases b
 ·split at b
  ·next e=>have b:=eq_of_beq b;subst b;exact{_,RU X G e}
  ·cases b
 ·split at b
  ·next e=>have b:=eq_of_beq b;subst b;exact{_,RU X G e}
  ·cases b
 ·exact hd.mem (x,fs) (List.contains_iff_mem.mp b)
 ·split at b
  ·next e=>simp only[Qs] at b;exact{_,RU X G e,eq_of_beq b.1.1,b.1.2,b.2}
  ·cases b
 ·split at b
  ·next e=>rw[Qs] at b;exact{hi.mem (x,k) (List.contains_iff_mem.mp b.2),_,RU X G e,eq_of_beq b.1}
  ·cases b
 ·split at b
  ·next e=>exact{_,RU X G e,eq_of_beq b}
  ·cases b
 ·split at b
  ·next e=>exact{_,RU X G e,eq_of_beq b}
  ·cases b
 ·split at b
  ·next e=>exact PySem.W.mg_none_of X G e
  ·cases b
 ·split at b
  ·next a e=>
   simp only[Qs] at b;refine{a,RU X G e,eq_of_beq b.1.1.1,λad y=>?_};have u:=b.2;rw[y] at u;simp only[Qs] at u;exact{b.1.1.2,eq_of_beq u.1,u.2,b.1.2}
  ·cases b
end
noncomputable def yi (K:Ql)(C:Addr):Bool:=PySem.W.plainGet K C Str.empty&&PySem.W.hasDictIn K C&&PySem.W.plainOver K C&&PySem.W.findIn K (.ref C) "__setattr__"==some (some (.builtin "object.__setattr__"))
def A5 {K:Ql}(h:yi K C=true):wR K C:=by
 unfold yi at h;simp only[Qs] at h;exact{h.1.1.1,h.1.1.2,h.1.2,eq_of_beq h.2}
def J8 (K:Ql)(fa:Fa):Bool:=match fa (jv 40) with
 |some C=>yi K C&&(lu 40).all λf=>PySem.W.findIn K (.ref C) f==some none
 |none=>true
def J7 {K:Ql}(h:J8 K fa=true):L6 fa K:=λc C e ne=>by
 have j:c=40:=by
  unfold lu at ne;split at ne
  ·rfl
  ·exact absurd rfl ne
 subst j;unfold J8 at h;rw[e] at h;simp only[Qs,QI] at h;exact{A5 h.1,λf m=>eq_of_beq (h.2 f m)}
def Ki (K:Ql)(fa:Fa)(q:Str×Nat×Nat):Bool:=match fa (jv q.2.1) with
 | some C => yi K C && (match fa q.2.2 with
   |some ad=>PySem.W.findIn K (.ref C) q.1==some (some (.ref ad))&&PySem.W.isFn K (.ref ad)&&PySem.W.keepIn K (.ref ad)
   |none=>true)&&!(lu q.2.1).contains q.1&&!(lu q.2.1).isEmpty
 |none=>false
def Kh {K:Ql}{l:List (Str×Nat×Nat)}(h:l.all (Ki K fa)=true):∀q∈l,pZ fa K q.1 q.2.1 q.2.2:=λq m=>by
 have h:=QI.mp h q m;unfold Ki at h;cases e:fa (jv q.2.1) with
 |none=>rw[e] at h;cases h
 | some C =>
   rw[e] at h;simp only[Qs,Sr] at h;refine{C,e,A5 h.1.1.1,λad j=>?_,λz=>?_,λz=>?_}
   ·have b:=h.1.1.2;rw[j] at b;simp only[Qs] at b;exact{eq_of_beq b.1.1,b.1.2,b.2}
   ·have:=List.contains_iff_mem.mpr z;rw[h.1.2] at this;cases this
   ·rw[z] at h;exact absurd h.2 `d
def Dc {D:Addr}(h:cl.all (λq=>decide (q.1<4000))=true):∀o,5000<=o->uB l cl D o=none:=λo ho=>by
 unfold uB;rw[if_neg `a,if_neg `a]
 cases e:cl.lookup (o-1000) with
 |none=>rfl
 | some C =>
   have:=of_decide_eq_true (QI.mp h _ (lookup_mem e));omega
end LD
section
local macro_rules|`(#[$a,*])=>do return<-a.getElems.foldrM (β:=Lean.Term) (λx r=>`(LD.dY $x $r)) (<-`(LD.c9))
local macro_rules|`(#v[$a,*])=>do return<-a.getElems.foldrM (β:=Lean.Term) (λx r=>`(LD.aY $x $r)) (<-`(LD.aT))
namespace LD
open PySem
abbrev gI (n:Int):GE:=gC (.int n)
abbrev gS (x:Str):GE:=gC (.str x)
abbrev gN:GE:=gC .non
abbrev K0:GE:=gC (.bl true)
abbrev gFf:GE:=gC (.bl false)
abbrev rF:GS:=aY (aS gFf) aT
noncomputable def d3:List (Str×Nat):=[("turn",7),("join",8),("move",9),("put",10)]
def cy:List (Str×Nat):=[("turn",20),("join",21),("move",22),("put",23)]
def ji (c:Call):GS:=#v[a7 (eX (au (h6 .bool (aa 0))) (cq (au (h6 .int (aa 0))))) rF aT,aS (uz .le .le (aa 1) (aa 0) (aa 2))]
def mD (c:Call):GS:=#v[aS (ai 0 c #[aa 1,gI 0,ak false .sub (aa 0) (gI 1)])]
def lI (c:Call):GS:=#v[aS (ai 0 c #[aa 1,gI 0,ak false .sub (aa 0) (gI 1)])]
def mI (c:Call):GS:=#v[aS (ai 0 c #[aa 0,gI 1,gI 3])]
def fT (c:Call):GS:=#v[aS (eL (h6 .tuple (aa 1)) (aK .eq (aN .len #[aa 1]) (aa 0)))]
def lH (c:Call):GS:=#v[aS (eL (ai 4 c #[aa 0,aa 1]) (aN .all #[a9 false 1 (.one 0) (bT (aa 1)) (bb (ai 1 c #[aa 1,aa 0]))]))]
def fF (c:Call):GS:=#v[aS (eL (ai 4 c #[aa 0,aa 1]) (aN .all #[a9 false 1 (.one 0) (bT (aa 1)) (bb (ai 5 c #[aa 1,aa 0]))]))]
def mE (c:Call):GS:=#v[a7 (au (aK .ne (aN .len #[aa 2]) (gI 3))) rF aT,ax (.tup [3,4,5]) (aa 2),aS (eL (ai 2 c #[aa 1,aa 3]) (eL (ai 5 c #[aa 0,aa 4]) (ai 3 c #[aa 5])))]
def mG (c:Call):GS:=#v[a7 (au (aK .ne (aN .len #[aa 2]) (gI 4))) rF aT,ax (.tup [3,4,5,6]) (aa 2),a7 (eX (cq (au (ai 2 c #[aa 1,aa 3]))) (cq (au (ai 2 c #[aa 1,aa 4])))) rF aT,aS (eL (ai 6 c #[aa 0,aa 5]) (ai 3 c #[aa 6]))]
def mF (c:Call):GS:=#v[a7 (au (aK .ne (aN .len #[aa 2]) (gI 3))) rF aT,ax (.tup [3,4,5]) (aa 2),aS (eL (ai 2 c #[aa 1,aa 3]) (eL (ai 2 c #[aa 1,aa 4]) (ai 3 c #[aa 5])))]
def oR (c:Call):GS:=#v[a7 (au (aK .ne (aN .len #[aa 2]) (gI 3))) rF aT,ax (.tup [3,4,5]) (aa 2),aS (eL (ai 2 c #[aa 1,aa 3]) (eL (ai 1 c #[aa 0,aa 4]) (ai 3 c #[aa 5])))]
def mH (c:Call):GS:=#v[a7 (eX (cq (au (h6 .tuple (aa 2)))) (cq (au (aa 2)))) rF aT,ax (.one 3) (av (aa 2) (gI 0)),a7 (eX (cq (au (h6 .str (aa 3)))) (au (iJ d3 (aa 3)))) rF aT,ax (.one 4) (lr d3 (aa 3)),aS (mr 4 c #[aa 0,aa 1,eV false true false (aa 2) (gI 1) gN])]
def jh (c:Call):GS:=#v[a7 (cq (au (ai 4 c #[gI 3,aa 0]))) rF aT,ax (.tup [1,2,3]) (aa 0),a7 (eX (cq (au (ai 0 c #[aa 1,gI 2,gI 4]))) (cq (au (ai 0 c #[aa 2,gI 1,gI 2])))) rF aT,a7 (eX (cq (au (h6 .tuple (aa 3)))) (cq (au (uz .le .le (gI 1) (aN .len #[aa 3]) (gI 6))))) rF aT,aS (aN .all #[a9 false 1 (.one 0) (bT (aa 3)) (bb (ai 11 c #[aa 2,aa 3,aa 0]))])]
def hI (c:Call):GS:=#v[a7 (cq (au (ai 12 c #[aa 0]))) #v[fG 3 #[gS "this is no machine"]] aT]
def cM (c:Call):GS:=#v[ax (.tup [2,3,4]) (aa 0),aS (eL (ai 4 c #[aa 3,aa 1]) (aN .all #[a9 false 1 (.one 0) (bT (aa 1)) (bb (ai 1 c #[aa 3,aa 0]))]))]
def bz (c:Call):GS:=#v[fX (bw 13 c #[aa 0]),ax (.tup [1,2,3]) (aa 0),ax (.one 4) (bR false #[aZ c9]),eF (.one 5) (dH (aa 2)) #v[ax (.one 4) (a9 false 2 (.one 0) (bT (aa 4)) (ux (.one 1) (dH (aa 3)) (bb (ak false .add (aa 0) (aZ #[aa 1])))))],aS (aa 4)]
def f5 (c:Call):GS:=#v[aS (ai 0 c #[aa 1,gI 0,ak false .sub (aN .len #[av (aa 0) (gI 2)]) (gI 1)])]
def g9 (c:Call):GS:=#v[a7 (cq (au (h6 .list (aa 1)))) #v[jY 0 (gI 0)] aT,eF (.tup [2,3]) (iI (aa 1)) #v[a7 (cq (au (ai 16 c #[aa 0,aa 3]))) #v[jY 0 (aa 2)] aT]]
def lF (c:Call):GS:=#v[fX (bw 13 c #[aa 0]),fX (bw 17 c #[aa 0,aa 1]),a7 (au (aK .gt (aN .len #[aa 1]) (gI 40))) #v[fG 4 #[uy "a row has at most " " deeds" (gI 40)]] aT]
def mJ (c:Call):GS:=#v[fX (bw 18 c #[aa 0,aa 1]),aS (ai 47 c #[aa 0,aa 1])]
def lD (c:Call):GS:=#v[ax (.tup [2,3,4,5]) (aa 0),aS (av (aa 4) (av (aa 1) (aa 3)))]
def lG (c:Call):GS:=#v[ax (.tup [2,3,4,5,6]) (aa 0),aS (av (av (aa 5) (av (aa 1) (aa 3))) (av (aa 1) (aa 4)))]
def nJ (c:Call):GS:=#v[ax (.tup [2,3,4,5]) (aa 0),aS (av (aa 1) (aa 4))]
def lE (c:Call):GS:=#v[ax (.tup [2,3,4,5]) (aa 0),aS (aa 4)]
def pV (c:Call):GS:=#v[ax (.one 2) (lr cy (av (aa 0) (gI 0))),ax (.one 3) (av (aa 0) (gI 1)),aS (ak false .add (ak false .add (eV false false true (aa 1) gN (aa 3)) (aZ #[mr 2 c #[aa 0,aa 1]])) (eV false true false (aa 1) (ak false .add (aa 3) (gI 1)) gN))]
def hJ (c:Call):GS:=#v[ax (.one 3) (bR true #[aa 2]),eF (.one 4) (bT (aa 1)) #v[i3 (aa 3) (ai 24 c #[av (av (aa 0) (gI 2)) (aa 4),av (aa 3) (gZ (gI 1))])],aS (aa 3)]
def fN (c:Call):GS:=#v[fX (bw 18 c #[aa 0,aa 1]),aS (ai 46 c #[aa 0,aa 1])]
def lO (c:Call):GS:=#v[a7 (au (aK .ge (aa 0) (ak false .pow (gI 10) (gI 18)))) #v[aS (aa 0)] aT,ax (.one 2) (bR false #[gI 2147483629,gI 2147483587,gI 2147483579,gI 2147483563,gI 2147483549,gI 2147483543,gI 2147483497,gI 2147483489]),ax (.one 2) (ak false .add (aa 2) (bR false #[gI 2147483477,gI 2147483423,gI 2147483399,gI 2147483353,gI 2147483323])),ax (.one 3) (ak false .mod (ak false .pow (ak false .add (ak false .add (ak false .mul (ak false .mod (aa 0) (gI 1000000007)) (ak false .add (ak false .mul (gI 2) (aa 1)) (gI 69069))) (ak false .mul (aa 1) (gI 40503))) (gI 977)) (gI 3)) (av (aa 2) (ak false .mod (aa 1) (gI 13)))),ax (.one 4) (ak false .mod (ak false .pow (ak false .add (ak false .add (ak false .mul (aa 3) (ak false .add (aa 1) (gI 3))) (ak false .mod (aa 0) (gI 65537))) (gI 5)) (gI 5)) (av (aa 2) (ak false .mod (ak false .add (aa 1) (gI 5)) (gI 13)))),ax (.one 5) (ak false .mod (ak false .pow (ak false .add (ak false .add (aa 4) (ak false .mod (aa 3) (gI 1009))) (aa 1)) (gI 3)) (av (aa 2) (ak false .mod (ak false .add (aa 1) (gI 7)) (gI 13)))),aS (ak false .add (ak false .mul (ak false .add (ak false .mul (aa 3) (gI 2147483647)) (aa 4)) (gI 2147483647)) (aa 5))]
def jS (c:Call):GS:=#v[ax (.one 1) (aN (.list true) #[eV false false true (aa 0) gN (gI 12)]),eF (.tup [2,3]) (iI (eV false true true (aa 0) (gI 12) (gI 63))) #v[eE (aa 1) (ak false .mod (aa 2) (gI 12)) (ak false .add (av (aa 1) (ak false .mod (aa 2) (gI 12))) (aa 3))],aS (bR true #[aa 1,gI 0,gI 0])]
def jT (c:Call):GS:=#v[eE (aa 0) (gI 2) (gI 0),aS (aa 0)]
def nY (c:Call):GS:=#v[a7 (au (aK .lt (av (aa 0) (gI 2)) (aa 1))) #v[ax (.one 2) (av (aa 0) (gI 1)),ax (.one 3) (gI 0),a7 (au (aK .lt (aa 2) (aN .len #[av (aa 0) (gI 0)]))) #v[ax (.one 3) (av (av (aa 0) (gI 0)) (aa 2))] #v[a7 (au (aK .gt (aN .len #[av (aa 0) (gI 0)]) (gI 0))) #v[ax (.one 3) (ak false .mod (av (av (aa 0) (gI 0)) (ak false .mod (ak false .add (ak false .mul (aa 2) (gI 5)) (gI 3)) (aN .len #[av (aa 0) (gI 0)]))) (ak false .add (ak false .pow (gI 10) (gI 17)) (aa 2)))] aT],eE (aa 0) (gI 1) (ak false .add (aa 2) (gI 1)),eE (aa 0) (gI 2) (ai 28 c #[aa 3,aa 2])] aT,ax (.one 4) (ak false .mod (av (aa 0) (gI 2)) (aa 1)),eE (aa 0) (gI 2) (ak false .fdiv (av (aa 0) (gI 2)) (aa 1)),aS (aa 4)]
def iM (c:Call):GS:=#v[ax (.one 2) (ai 31 c #[aa 0,gI 6]),ax (.one 3) (ai 31 c #[aa 0,aa 1]),ax (.one 4) (ai 31 c #[aa 0,aa 1]),a7 (au (aK .lt (aa 2) (gI 2))) #v[aS (aN .tuple #[a9 false 1 (.one 0) (dH (aa 1)) (bb (ai 31 c #[aa 1,aa 2]))])] aT,a7 (au (aK .eq (aa 2) (gI 2))) #v[aS (aN .tuple #[a9 false 1 (.one 0) (dH (aa 1)) (bb (ak false .mod (ak false .add (ak false .add (aa 0) (gI 1)) (aa 4)) (aa 2)))])] aT,a7 (au (aK .eq (aa 2) (gI 3))) #v[aS (aN .tuple #[a9 false 1 (.one 0) (dH (aa 1)) (bb (g7 (au (aK .eq (aa 0) (aa 4))) (aa 5) (aa 0)))])] aT,a7 (au (aK .eq (aa 2) (gI 4))) #v[aS (ak false .mul (aZ #[aa 3]) (aa 1))] aT,ax (.one 5) (mq true (aa 1)),eE (aa 5) (aa 3) (aa 4),eE (aa 5) (aa 4) (aa 3),aS (aN .tuple #[aa 5])]
def ia (c:Call):GS:=#v[ax (.one 3) (ai 31 c #[aa 0,gI 8]),ax (.one 4) (ak false .add (gI 1) (ai 31 c #[aa 0,gI 3])),ax (.one 5) (ai 31 c #[aa 0,aa 2]),ax (.one 6) (ai 31 c #[aa 0,aa 2]),a7 (au (aK .lt (aa 3) (gI 3))) #v[aS (aZ #[gS "turn",aa 5,ai 32 c #[aa 0,aa 1],aa 4])] aT,a7 (au (aK .lt (aa 3) (gI 5))) #v[aS (aZ #[gS "move",aa 5,g7 (au (aK .eq (aa 3) (gI 3))) (ak false .mod (ak false .add (aa 5) (gI 1)) (aa 2)) (aa 6),aa 4])] aT,a7 (au (aK .eq (aa 3) (gI 5))) #v[aS (aZ #[gS "put",aa 5,ai 31 c #[aa 0,aa 1],aa 4])] aT,aS (aZ #[gS "join",aa 5,aa 6,aN .tuple #[a9 false 1 (.one 0) (dH (aa 1)) (bb (ai 32 c #[aa 1,aa 2]))],aa 4])]
def fy (c:Call):GS:=#v[ax (.one 1) (ak false .add (gI 2) (ai 31 c #[aa 0,ak false .sub (aa 1) (gI 1)])),ax (.one 2) (ak false .add (gI 1) (ai 31 c #[aa 0,aa 2])),ax (.one 4) (bR true c9),eF (.one 5) (dH (ak false .add (gI 1) (ai 31 c #[aa 0,aa 3]))) #v[ax (.one 6) (ai 31 c #[aa 0,gI 5]),ax (.one 7) (ai 33 c #[aa 0,aa 1,aa 2]),a7 (fD (au (aK .eq (aa 6) (gI 0))) (au (aK .ne (aa 4) (bR false c9)))) #v[ax (.one 7) (ak false .add (eV false false true (av (aa 4) (ai 31 c #[aa 0,aN .len #[aa 4]])) gN (gZ (gI 1))) (aZ #[av (aa 7) (gZ (gI 1))]))] aT,i3 (aa 4) (aa 7)],aS (aZ #[aa 1,aa 2,aN .tuple #[aa 4]])]
def gL (c:Call):GS:=#v[ax (.one 3) (ai 31 c #[aa 0,gI 4]),ax (.one 4) (g7 (au (aK .eq (aa 3) (gI 0))) (aa 2) (ai 31 c #[aa 0,ak false .add (aa 2) (gI 1)])),ax (.one 5) (a9 false 1 (.one 0) (dH (aa 4)) (bb (ai 31 c #[aa 1,aN .len #[av (aa 2) (gI 2)]]))),a7 (au (aK .eq (aa 3) (gI 1))) #v[ax (.one 5) (eV false false true (ak false .mul (eV false false true (aa 5) gN (gI 2)) (aa 4)) gN (aa 4))] aT,aS (aa 5)]
def jj (c:Call):GS:=#v[ax (.one 2) (aN (.list true) #[aa 1]),ax (.one 3) (av (aa 1) (av (aa 0) (gI 1))),a7 (au (aK .eq (av (aa 0) (gI 0)) (gS "turn"))) #v[eE (aa 2) (av (aa 0) (gI 1)) (av (av (aa 0) (gI 2)) (aa 3))] aT,a7 (au (aK .eq (av (aa 0) (gI 0)) (gS "join"))) #v[eE (aa 2) (av (aa 0) (gI 1)) (av (av (av (aa 0) (gI 3)) (aa 3)) (av (aa 1) (av (aa 0) (gI 2))))] aT,a7 (au (aK .eq (av (aa 0) (gI 0)) (gS "move"))) #v[eE (aa 2) (av (aa 0) (gI 1)) (av (aa 1) (av (aa 0) (gI 2)))] aT,a7 (au (aK .eq (av (aa 0) (gI 0)) (gS "put"))) #v[eE (aa 2) (av (aa 0) (gI 1)) (av (aa 0) (gI 2))] aT,aS (aN .tuple #[aa 2])]
def iz (c:Call):GS:=#v[a7 (au (aK .eq (av (aa 0) (gI 1)) (gI 1))) #v[aS (a9 false 1 (.one 0) (dH (av (aa 0) (gI 0))) (bb (aZ #[aa 0])))] aT,aS (a9 false 1 (.one 0) (dH (ak false .mul (av (aa 0) (gI 0)) (av (aa 0) (gI 0)))) (bb (aZ #[ak false .fdiv (aa 0) (av (aa 1) (gI 0)),ak false .mod (aa 0) (av (aa 1) (gI 0))])))]
def fO (c:Call):GS:=#v[ax (.one 2) (bR true c9),eF (.one 3) (bT (ai 42 c #[aa 0])) #v[eF (.one 4) (bT (aa 1)) #v[ax (.one 3) (ai 41 c #[av (av (aa 0) (gI 2)) (aa 4),aa 3])],i3 (aa 2) (aa 3)],aS (aN .tuple #[aa 2])]
def gm (c:Call):GS:=#v[aS (aN .tuple #[a9 false 1 (.one 0) (bT (ai 15 c #[aa 0])) (bb (av (ai 25 c #[aa 1,aa 2,aa 0]) (gZ (gI 1))))])]
def dQ (c:Call):GS:=#v[aS (aN .sum #[a9 false 1 (.one 0) (bT (aa 1)) (bb (av (av (av (aa 1) (gI 2)) (aa 0)) (gZ (gI 1))))])]
def jI (c:Call):GS:=#v[a7 (cq (au (ai 4 c #[aN .len #[ai 15 c #[aa 0]],aa 1]))) rF aT,aS (aN .all #[a9 false 1 (.one 0) (bT (aa 1)) (bb (uu (aK .isN (aa 0) gN) (ai 1 c #[av (aa 1) (gI 0),aa 0])))])]
def jR (c:Call):GS:=#v[fX (bw 13 c #[aa 0]),a7 (cq (au (ai 79 c #[aa 0,aa 1]))) #v[fG 6 #[gS "this is no work of the machine"]] aT]
def ir (c:Call):GS:=#v[aS (aN .all #[a9 false 2 (.tup [0,1]) (nu (aa 0) (aa 1)) (bb (uu (aK .isN (aa 1) gN) (aK .eq (av (aa 0) (gI 0)) (aa 1))))])]
def h9 (c:Call):GS:=#v[aS (aK .eq (a9 false 2 (.tup [0,1]) (nu (aa 0) (aa 1)) (kg (fD (au (aK .notN (aa 1) gN)) (au (aK .ne (av (aa 0) (gI 0)) (aa 1)))) (bb (gI 1)))) (bR false c9))]
def dz (c:Call):GS:=#v[dU (.one 1) (bw 15 c #[aa 0]),aS (a9 false 1 (.one 0) (bT (av (aa 0) (gI 2))) (bb (aZ #[av (aa 0) (gZ (gI 1)),kj 77 1 (.one 0) (bT (aa 2)) (jC (aa 0) (ai 24 c #[aa 1,aa 0]))])))]
def dE (c:Call):GS:=#v[aS (aN .tuple #[a9 false 1 (.one 0) (bT (aa 1)) (bb (cZ (aa 1) (aa 0)))])]
def eW (c:Call):GS:=#v[ax (.one 2) (av (bR false #[aZ #[gI 3,gI 1,gI 6],aZ #[gI 2,gI 2,gI 3],aZ #[gI 3,gI 1,gI 4],aZ #[gI 2,gI 2,gI 2],aZ #[gI 4,gI 1,gI 2]]) (ak false .mod (aa 1) (gI 5))),aS (ai 34 c #[aa 0,av (aa 2) (gI 0),av (aa 2) (gI 1),av (aa 2) (gI 2)])]
def gK (c:Call):GS:=#v[ax (.one 3) (aN .len #[aa 1]),ax (.one 4) (bR true c9),eF (.two 5 [6,7]) (iI (aa 0)) #v[ax (.one 8) (g7 (au (aK .le (aa 6) (aa 3))) (av (aa 1) (ak false .sub (aa 3) (aa 6))) (bR false c9)),eF (.one 9) (bT (aa 8)) #v[ax (.one 10) (ai 152 c #[aa 7,aa 9]),a7 (au (jb true (aa 10) (aa 2))) #v[iD (aa 2) (aa 10) (aZ #[aa 3,ak true .add (av (cZ (aa 2) (aa 9)) (gI 1)) (bR false #[aa 5])]),i3 (aa 4) (aa 10),a7 (au (aK .gt (ny (aa 2)) (gI 255))) #v[fG 8 #[uy "rows have more than " " behaviours" (gI 255)]] aT] aT]],aS (aa 4)]
def jg (c:Call):GS:=#v[dU (.one 2) (bw 151 c #[aa 0]),ax (.one 3) (aN .tuple #[ai 15 c #[aa 0]]),ax (.one 4) (wq 78 (aa 3) (aZ #[gI 0,bR true c9])),ax (.one 5) (bR true #[bR false #[aa 3]]),lV (fD (au (qx (eV false true false (aa 5) (gZ (gI 3)) gN))) (eX (au (aK .isN (aa 1) gN)) (au (aK .le (aN .len #[aa 5]) (aa 1))))) #v[mW (aa 5) (bw 165 c #[aa 2,aa 5,aa 4])],aS (aa 4)]
def nK (c:Call):GS:=#v[fX (bw 80 c #[aa 0,aa 1]),dU (.one 2) (bw 166 c #[aa 0,gN]),ax (.one 3) (lp (a9 false 1 (.one 0) (eT cK (aa 2)) (kg (au (ai 81 c #[aa 0,aa 2])) (bb (cZ (aa 3) (aa 0)))))),a7 (au (aK .isN (aa 3) gN)) #v[aS (aZ #[gS "none",ki true (aa 2)])] aT,ax (.tup [4,5]) (aa 3),ax (.one 6) (a9 true 1 (.one 0) (eT cK (aa 2)) (kg (au (aK .le (av (cZ (aa 3) (aa 0)) (gI 0)) (aa 5))) (bb (aZ #[aa 0,ak false .sub (aa 5) (av (cZ (aa 3) (aa 0)) (gI 0))])))),aS (aZ #[gS "row",aa 4,aa 5,aa 6])]
def eP (c:Call):GS:=#v[ax (.one 2) (aN .len #[ai 15 c #[aa 0]]),aS (aN .all #[a9 false 1 (.one 0) (bT (aa 1)) (bb (eL (ai 4 c #[aa 3,aa 0]) (aN .all #[a9 false 1 (.one 0) (bT (aa 0)) (bb (ai 14 c #[aa 2,aa 0]))])))])]
def dF (c:Call):GS:=#v[ax (.one 1) (xV 78),eF (.tup [2,3]) (bT (aa 0)) #v[iD (aa 1) (aa 2) (qw #[aa 3,ip (aa 1) (aa 2) (aa 3)])],aS (aa 1)]
def dR (c:Call):GS:=#v[ax (.one 4) (cZ (aa 2) (aa 3)),a7 (au (aK .le (aa 4) (gI 0))) #v[aS K0] aT,a7 (au (ai 81 c #[aa 3,aa 1])) rF aT,eF (.tup [5,6]) (bT (aa 0)) #v[ax (.one 7) (ak false .sub (aa 4) (aa 5)),a7 (fD (au (aK .gt (aa 7) (gI 0))) (au (aK .lt (ip (aa 2) (ai 152 c #[aa 6,aa 3]) (gI 0)) (aa 7)))) rF aT],aS K0]
def kz (c:Call):GS:=#v[fX (bw 80 c #[aa 0,aa 1]),a7 (cq (au (ai 176 c #[aa 0,a9 false 2 (.tup [0,1]) (bT (aa 3)) (bb (aa 0))]))) rF aT,ax (.one 4) (ai 181 c #[aa 3]),ax (.one 5) (aN .tuple #[ai 15 c #[aa 0]]),a7 (eX (au (jb true (aa 5) (aa 4))) (au (aK .lt (cZ (aa 4) (aa 5)) (aa 2)))) rF aT,dU (.one 6) (bw 151 c #[aa 0]),aS (aN .all #[a9 false 1 (.one 0) (eT cK (aa 4)) (bb (ai 182 c #[aa 7,aa 2,aa 5,aa 0]))])]
def pd (c:Call):GS:=#v[ax (.one 7) (aZ #[aa 1,aa 2,aN .tuple #[aa 6]]),ax (.one 8) (aN .tuple #[a9 false 1 (.one 0) (bT (ai 15 c #[aa 7])) (bb (ak false .mod (ak false .add (av (aa 0) (gI 0)) (aa 6)) (aa 2)))]),dU (.one 9) (bw 167 c #[aa 7,aa 8]),aS (eL (aK .eq (eV false false true (aa 9) gN (gI 2)) (aZ #[gS "row",ak false .mul (aa 5) (aa 3)])) (aK .eq (ai 19 c #[aa 7,aN (.list false) #[av (aa 9) (gI 2)]]) (ak false .mul (aa 5) (aa 3))))]
def Cj (c:Call):GE:=aN .tuple #[a9 false 1 (.one 0) (dH (aa 1)) (bb (ak false .mod (ak false .add (aa 0) (gI 1)) (aa 2)))]
def dZ (c:Call):GS:=aY (ax (.one 1) (ak false .add (gI 2) (ai 31 c #[aa 0,gI 3]))) (aY (ax (.one 2) (ak false .add (gI 1) (ai 31 c #[aa 0,gI 2]))) (aY (ax (.one 3) (ak false .add (gI 1) (ai 31 c #[aa 0,gI 3]))) (aY (ax (.one 4) (ai 31 c #[aa 0,gI 2])) (aY (ax (.one 5) (ai 31 c #[aa 0,aa 1])) (aY (ax (.one 6) (bR true #[aZ #[gS "turn",gI 0,Cj c,aa 3]])) (aY (a7 (au (aK .eq (aa 4) (gI 1))) #v[tf (aa 6) (ai 31 c #[aa 0,gI 2]) (aZ #[gS "move",gI 0,gI 0,ak false .add (gI 1) (ai 31 c #[aa 0,gI 3])])] aT) (pd c)))))))
@[irreducible] def xM (c:Call):GE:=a9 false 1 (.one 0) (dH (aa 4)) (bb (ak false .mod (ak false .add (aa 4) (aa 0)) (gI 2)))
def xK (c:Call):GS:=#v[a7 (eX (au (aK .ne (av (aa 7) (gI 0)) (gS "row"))) (eX (au (aK .gt (av (aa 7) (gI 1)) (aa 4))) (au (aK .ne (aN .len #[av (aa 7) (gI 2)]) (av (aa 7) (gI 1)))))) rF aT,a7 (cq (au (ai 84 c #[ai 44 c #[aa 5,av (aa 7) (gI 2)],aa 6]))) rF aT,aS (uw (ai 183 c #[aa 5,aa 6,av (aa 7) (gI 1),aN (.list false) #[av (aa 7) (gI 3)]]) true)]
def xJ (c:Call):GS:=aY (ax (.one 6) (aN .tuple #[a9 false 1 (.one 0) (bT (ai 44 c #[aa 5,xM c])) (bb (av (aa 0) (gI 0)))])) (aY (dU (.one 7) (bw 167 c #[aa 5,aa 6])) (xK c))
def EB (c:Call):GS:=aY (ax (.one 5) (aZ #[gI 4,gI 2,aZ #[aZ #[gS "join",gI 0,gI 1,aa 1,gI 1],aZ #[gS "join",gI 1,gI 0,aa 2,gI 1]]])) (xJ c)
def d8 (c:Call):GS:=aY (ax (.one 1) (aZ #[aZ #[gI 0,gI 1,gI 0,gI 1],aZ #[gI 2,gI 0,gI 2,gI 0],aZ #[gI 1,gI 3,gI 1,gI 3],aZ #[gI 3,gI 2,gI 3,gI 2]])) (aY (ax (.one 2) (aZ #[aZ #[gI 1,gI 3,gI 0,gI 3],aZ #[gI 0,gI 2,gI 1,gI 2],aZ #[gI 3,gI 1,gI 3,gI 1],aZ #[gI 2,gI 0,gI 2,gI 0]])) (aY (ax (.one 3) (ai 31 c #[aa 0,gI 2])) (aY (ax (.one 4) (ak false .add (gI 41) (ai 31 c #[aa 0,gI 70]))) (EB c))))
def sL (c:Call):GS:=#v[ax (.one 3) (ai 160 c #[ai 30 c #[aa 1],aa 2]),ax (.one 4) (ai 35 c #[aa 1,aa 3,gI 40]),ax (.one 5) (aN .tuple #[a9 false 1 (.one 0) (bT (ai 27 c #[aa 3,aN (.list false) #[aa 4]])) (bb (av (aa 0) (gI 0)))]),ax (.one 6) (aZ #[gS "many"]),lW #v[dU (.one 6) (bw 167 c #[aa 3,aa 5])] 8 8 #v[ax (.one 6) (aZ #[gS "many"])],a7 (eX (au (aK .eq (av (aa 6) (gI 0)) (gS "none"))) (fD (au (aK .eq (av (aa 6) (gI 0)) (gS "row"))) (au (aK .gt (av (aa 6) (gI 1)) (ai 19 c #[aa 3,aN (.list false) #[aa 4]]))))) rF aT]
def nM (c:Call):GS:=#v[ax (.one 1) (ai 29 c #[aa 0]),a7 (eX (cq (au (ai 187 c #[ai 30 c #[aa 1]]))) (cq (au (ai 188 c #[aa 1])))) rF aT,eF (.one 2) (dH (gI 4)) (sL c),aS K0]
@[simp] theorem a8 {h j:Type}{r:Res h}{f:h->Mem->Res j}{k:j->Mem->Prop}:ae (r.bind f) k↔ae r λa M=>ae (f a M) k:=by cases r<;>rfl
@[simp] theorem bg {h:Type}{a:h}{k:h->Mem->Prop}:ae (.ok a M) k↔k a M:=RS
@[simp] theorem QL {h:Type}{k:h->Mem->Prop}:ae (.bad:Res h) k↔False:=RS
@[simp] theorem ie {h:Type}{M:Mem}{o:Option h}{k:h->Mem->Prop}:ae (b9 M o) k↔∃a,o=some a/\k a M:=by cases o<;>simp[b9]
def dG {j:Type}{r:Res j}{k:j->Mem->Prop}:ae r k↔∃a M,r=.ok a M/\k a M:=by
 cases r with
 |ok a M=>exact{λh=>⟨a,M,rfl,h⟩,λ⟨_,_,e,h⟩=>by cases e;exact h}
 |err=>simp[ae]
 |bad=>simp[ae]
def ky (j:aw 64 (view M x)=true)(z:aw 64 (view M y)=true)(h:bG (view M x) (view M y)=v):bB .eq x y M=some v:=by
 have e:kr (view M x) (view M y)=some v:=by unfold kr;rw[j,z,h];simp
 show my M x y=_;unfold my;rw[e]
def wI (j:aw 64 (view M x)=true)(z:aw 64 (view M y)=true)(h:bG (view M x) (view M y)=v):bB .ne x y M=some (!v):=by
 show(bB .eq x y M).map (!·)=_;rw[ky j z h];rfl
section
variable{Z:Env}{M:Mem}{a b d lo hi:GE}{s:GA}{t u:GT}{k:D->Mem->Prop}{c:Call}
@[simp] theorem bo {i:Nat}:ae (aa i Z M) k↔∃d,Z[i]?.getD none=some d/\k d M:=by simp[aa]
@[simp] theorem eA {d:D}:ae (gC d Z M) k↔k d M:=RS
@[simp] theorem jE {m:Bool}{o:n5}:ae (ak m o a b Z M) k↔ae (a Z M) λx M=>ae (b Z M) λy M=>ae (fE m o x y M) k:=by simp[ak]
@[simp] theorem fw {o:jn}:ae (aK o a b Z M) k↔ae (a Z M) λx M=>ae (b Z M) λy M=>∃v,bB o x y M=some v/\k (.bl v) M:=by simp[aK]
@[simp] theorem Rf {o h:jn}:ae (uz o h a b d Z M) k↔ae (a Z M) λx M=>ae (b Z M) λy M=>∃v,bB o x y M=some v/\if v=true then ae (d Z M) λz M=>∃v,bB h y z M=some v/\k (.bl v) M else k (.bl false) M:=by
 simp only[uz,a8,ie];refine iff_of_eq ?_
 congr 1;funext x M;congr 1;funext y M;refine propext (exists_congr λv=>and_congr_right λ_=>?_)
 cases v<;>simp
@[simp] theorem xZ:ae (gZ a Z M) k↔ae (a Z M) λx M=>∃i,x=.int i/\k (.int (-i)) M:=by
 simp only[gZ,a8];refine iff_of_eq ?_;congr 1;funext x M;cases x<;>simp
set_option tactic.hygienic true in
@[simp] theorem Rg:ae (eL a b Z M) k↔ae (a Z M) λx M=>∃v,x=.bl v/\if v=true then ae (b Z M) k else k (.bl false) M:=by
 simp only[eL,a8];refine iff_of_eq ?_;congr 1;funext x M;cases x<;>simp;rename_i v;cases v<;>simp
set_option tactic.hygienic true in
@[simp] theorem Ld:ae (uu a b Z M) k↔ae (a Z M) λx M=>∃v,x=.bl v/\if v=true then k (.bl true) M else ae (b Z M) k:=by
 simp only[uu,a8];refine iff_of_eq ?_;congr 1;funext x M;cases x<;>simp;rename_i v;cases v<;>simp
@[simp] theorem Nk:ae (g7 t a b Z M) k↔ae (t Z M) λv M=>if v=true then ae (a Z M) k else ae (b Z M) k:=by
 simp only[g7,a8];refine iff_of_eq ?_;congr 1;funext v M;cases v<;>simp
@[simp] theorem gG:ae (av a b Z M) k↔ae (a Z M) λx M=>ae (b Z M) λy M=>∃d,bQ x y M=some d/\k d M:=by simp[av]
@[simp] theorem su {m hl hh:Bool}:ae (eV m hl hh a lo hi Z M) k↔ae (a Z M) λx M=>ae (lo Z M) λl M=>ae (hi Z M) λh M=>eh hl l=true/\eh hh h=true/\ae (gx m x l h M) k:=by
 simp only[eV,a8];refine iff_of_eq ?_
 congr 1;funext x M;congr 1;funext l M;congr 1;funext h M
 cases eh hl l<;>cases eh hh h<;>simp
@[simp] theorem cT {k:List D->Mem->Prop}:ae (c9 Z M) k↔k [] M:=RS
@[simp] theorem bS {k:List D->Mem->Prop}:ae (dY a s Z M) k↔ae (a Z M) λx M=>ae (s Z M) λxs M=>k (x::xs) M:=by simp[dY]
@[simp] theorem iL:ae (aZ s Z M) k↔ae (s Z M) λxs M=>xs.length<=sz/\k (.tup xs) M:=by
 simp only[aZ,a8];refine iff_of_eq ?_;congr 1;funext xs M;unfold kU;split<;>simp[*]
def tS {m:Bool}{xs:List D}:ae (ba m xs M) k↔xs.length<=sz/\if m=true then k (.cell M.length) (M++[xs]) else k (.lst xs) M:=by
 unfold ba;cases m<;>split<;>simp[*]
@[simp] theorem bE {xs:List D}:ae (ba false xs M) k↔xs.length<=sz/\k (.lst xs) M:=by simp[tS]
@[simp] theorem m7 {xs:List D}:ae (ba true xs M) k↔xs.length<=sz/\k (.cell M.length) (M++[xs]):=by simp[tS]
@[simp] theorem ya {m:Bool}:ae (bR m s Z M) k↔ae (s Z M) λxs M=>ae (ba m xs M) k:=by simp[bR]
@[simp] theorem AV {f:Nat}:ae (ai f c s Z M) k↔ae (s Z M) λds M=>ae (c f ds M) k:=by simp[ai]
@[simp] theorem Hv {i:Nat}:ae (mr i c s Z M) k↔∃f,Z[i]?.getD none=some (.fn f)/\ae (s Z M) λds M=>ae (c f ds M) k:=by
 unfold mr;cases e:Z[i]?.getD none with
 |none=>simp
 |some d=>cases d<;>simp
@[simp] theorem bU {f:wU}:ae (aN f s Z M) k↔ae (s Z M) λds M=>ae (ff f ds M) k:=by simp[aN]
@[simp] theorem Q5 {t:Ty}:ae (h6 t a Z M) k↔ae (a Z M) λx M=>∃v,gE t x=some v/\k (.bl v) M:=by simp[h6]
@[simp] theorem Le {fs:List (Str×Nat)}:ae (lr fs a Z M) k↔ae (a Z M) λx M=>∃y f,x=.str y/\fs.lookup y=some f/\k (.fn f) M:=by
 simp only[lr,a8];refine iff_of_eq ?_;congr 1;funext x M;cases x<;>simp;exact{λ⟨_,⟨f,h,e⟩,q⟩=>{f,h,e ▸ q},λ⟨f,h,q⟩=>{_,⟨f,h,rfl⟩,q}}
@[simp] theorem Q6 {fs:List (Str×Nat)}:ae (iJ fs a Z M) k↔ae (a Z M) λx M=>∃y,x=.str y/\k (.bl (!(fs.lookup y).isSome)) M:=by
 simp only[iJ,a8];refine iff_of_eq ?_;congr 1;funext x M;cases x<;>simp
set_option tactic.hygienic true in
@[simp] theorem Ht {m:Bool}:ae (mq m a Z M) k↔ae (a Z M) λx M=>∃n,x=.int n/\(-(2^62)<=n/\n<2^20)/\ae (ba m ((List.range n.toNat).map λ(k:Nat)=>D.int (k:Int)) M) k:=by
 simp only[mq,a8];refine iff_of_eq ?_;congr 1;funext x M;cases x<;>simp;rename_i n;split<;>simp[*]
variable{kb:Bool->Mem->Prop}
@[simp] theorem kG:ae (au a Z M) kb↔ae (a Z M) λx M=>∃v,jO M x=some v/\kb v M:=by simp[au]
@[simp] theorem Mj:ae (fD t u Z M) kb↔ae (t Z M) λv M=>if v=true then ae (u Z M) kb else kb false M:=by
 simp only[fD,a8];refine iff_of_eq ?_;congr 1;funext v M;cases v<;>simp
@[simp] theorem t_or:ae (eX t u Z M) kb↔ae (t Z M) λv M=>if v=true then kb true M else ae (u Z M) kb:=by
 simp only[eX,a8];refine iff_of_eq ?_;congr 1;funext v M;cases v<;>simp
@[simp] theorem Ra:ae (cq t Z M) kb↔ae (t Z M) λv M=>kb (!v) M:=by simp[cq]
variable{kf:Fl->Mem->Prop}{sa sb:GS}
def hU (b:GS)(k:Fl->Mem->Prop):Fl->Mem->Prop
 |.next Z,M=>ae (b Z M) k
 |.ret d,M=>k (.ret d) M
 |.exc x Z,M=>k (.exc x Z) M
@[simp] theorem OE {b:GS}{x:D}:hU b kf (.exc x Z) M↔kf (.exc x Z) M:=RS
@[simp] theorem b7 {b:GS}:hU b kf (.next Z) M↔ae (b Z M) kf:=RS
@[simp] theorem OD {b:GS}{d:D}:hU b kf (.ret d) M↔kf (.ret d) M:=RS
@[simp] theorem aJ:ae (aY sa sb Z M) kf↔ae (sa Z M) (hU sb kf):=by
 simp only[aY,a8];refine iff_of_eq ?_;congr 1;funext fl M;cases fl<;>rfl
@[simp] theorem zE:ae (aT Z M) kf↔kf (.next Z) M:=RS
@[simp] theorem lU {i:Nat}:ae (ax (.one i) a Z M) kf↔ae (a Z M) λx M=>kf (.next (Z.set i (some x))) M:=by simp[ax,bL]
@[simp] theorem Qz {l:List Nat}:ae (ax (.tup l) a Z M) kf↔ae (a Z M) λx M=>∃ds h,x=.tup ds/\cJ l ds Z=some h/\kf (.next h) M:=by
 simp only[ax,a8,ie,bg];refine iff_of_eq ?_;congr 1;funext x M;cases x<;>simp[bL]
@[simp] theorem lS:ae (eE a b d Z M) kf↔ae (d Z M) λz M=>ae (a Z M) λx M=>ae (b Z M) λy M=>∃j n ds i,x=.cell j/\y=.int n/\M[j]?=some ds/\bY ds.length n=some i/\kf (.next Z) (M.set j (ds.set i z)):=by
 simp only[eE,a8];refine iff_of_eq ?_
 congr 1;funext z M;congr 1;funext x M;congr 1;funext y M
 cases x with
 | cell j =>
   cases y with
   | int n =>
     cases e:M[j]? with
     |none=>simp[e]
     | some ds =>
       cases e2:bY ds.length n with
       |none=>simp[e,e2]
       |some i=>simp[e,e2]
   |_=>simp
 |_=>simp
set_option tactic.hygienic true in
@[simp] theorem Ji:ae (i3 a d Z M) kf↔ae (a Z M) λx M=>ae (d Z M) λz M=>∃j ds,x=.cell j/\M[j]?=some ds/\ds.length<sz/\kf (.next Z) (M.set j (ds++[z])):=by
 simp only[i3,a8];refine iff_of_eq ?_
 congr 1;funext x M;congr 1;funext z M
 cases x<;>simp;rename_i j;cases e:M[j]? with
 |none=>simp
 |some ds=>by_cases h:ds.length<sz<;>simp[h]
@[simp] theorem dA:ae (aS a Z M) kf↔ae (a Z M) λx M=>kf (.ret x) M:=by simp[aS]
@[simp] theorem P6:ae (Ek Z M) kf↔kf (.ret .non) M:=RS
@[simp] theorem P7:ae (El Z M) kf↔kf (.next Z) M:=RS
@[simp] theorem Qy:ae (OQ Z M) kf↔False:=RS
@[simp] theorem lT:ae (a7 t sa sb Z M) kf↔ae (t Z M) λv M=>if v=true then ae (sa Z M) kf else ae (sb Z M) kf:=by
 simp only[a7,a8];refine iff_of_eq ?_;congr 1;funext v M;cases v<;>simp
variable{kw:Walk->Mem->Prop}
set_option tactic.hygienic true in
@[simp] theorem gq:ae (dH a Z M) kw↔ae (a Z M) λx M=>∃n,x=.int n/\(-(2^62)<=n/\n<2^62)/\kw (λ_=>some ((List.range n.toNat).map λ(k:Nat)=>D.int (k:Int))) M:=by
 simp only[dH,a8];refine iff_of_eq ?_;congr 1;funext x M;cases x<;>simp;rename_i n;split<;>simp[*]
@[simp] theorem iC:ae (bT a Z M) kw↔ae (a Z M) λx M=>fR x=true/\kw (λM=>cv M x) M:=by
 simp only[bT,a8];refine iff_of_eq ?_;congr 1;funext x M;cases x<;>simp[fR]<;>rfl
@[simp] theorem Iq:ae (iI a Z M) kw↔ae (a Z M) λx M=>fR x=true/\kw (λM=>(cv M x).map (eY 0)) M:=by
 simp only[iI,a8];refine iff_of_eq ?_;congr 1;funext x M;split<;>simp[*]
@[simp] theorem Ip:ae (nu a b Z M) kw↔ae (a Z M) λx M=>ae (b Z M) λy M=>(fR x&&fR y)=true/\kw (wV x y) M:=by
 simp only[nu,a8];refine iff_of_eq ?_;congr 1;funext x M;congr 1;funext y M;split<;>simp[*]
def jd (k:D->Mem->Prop):Fl->Mem->Prop
 |.ret d,M=>k d M
 |.next _,M=>k .non M
 |.exc _ _,_=>False
@[simp] theorem Qf {d:D}:jd k (.ret d) M↔k d M:=RS
@[simp] theorem Pz:jd k (.next Z) M↔k .non M:=RS
def aE {d:Df}{ds:List D}(e:P f=some d)(hl:ds.length=d.params)(h:ae (d.body (ag P n) (ds.map some++List.replicate (d.slots-ds.length) none) M) (jd k)):ae (ag P (n+1) f ds M) k:=by
 show ae (match P f with|none=>Res.bad|some d=>fY (ag P n) d ds M) k
 rw[e];show ae (fY (ag P n) d ds M) k;unfold fY;rw[if_pos hl];revert h;cases d.body (ag P n) (ds.map some++List.replicate (d.slots-ds.length) none) M with
 |ok fl M=>cases fl<;>exact id
 |err=>exact id
 |bad=>exact id
@[simp] theorem QM {h:Type}{a:h}{k:h->Mem->Prop}{j:D->Mem->Prop}:fb (.ok a M) k j↔k a M:=RS
@[simp] theorem Qa {h:Type}{x:D}{k:h->Mem->Prop}:fb (.err x M:Res h) k kx↔kx x M:=RS
def xX (k h:D->Mem->Prop):Fl->Mem->Prop
 |.ret d,M=>k d M
 |.next _,M=>k .non M
 |.exc x _,M=>h x M
def oQ {d:Df}{j:D->Mem->Prop}(e:P f=some d)(hl:ds.length=d.params)(h:ae (d.body (ag P n) (ds.map some++List.replicate (d.slots-ds.length) none) M) (xX k j)):fb (ag P (n+1) f ds M) k j:=by
 show fb (match P f with|none=>Res.bad|some d=>fY (ag P n) d ds M) k j
 rw[e];show fb (fY (ag P n) d ds M) k j;unfold fY;rw[if_pos hl];revert h;cases d.body (ag P n) (ds.map some++List.replicate (d.slots-ds.length) none) M with
 |ok fl M=>cases fl<;>exact id
 |err=>exact id
 |bad=>exact id
@[simp] theorem Q3 {d:D}{h:D->Mem->Prop}:xX k h (.ret d) M↔k d M:=RS
@[simp] theorem Qe {h:D->Mem->Prop}:xX k h (.next Z) M↔k .non M:=RS
@[simp] theorem Q4:xX k kx (.exc x Z) M↔kx x M:=RS
@[simp] theorem PY {f:Nat}:fb (bw f c s Z M) k kx↔ae (s Z M) λds M=>fb (c f ds M) k kx:=by
 unfold bw;cases s Z M<;>rfl
@[simp] theorem Qx:ae (fX a Z M) kf↔fb (a Z M) (λ_ M=>kf (.next Z) M) (λx M=>kf (.exc x Z) M):=by
 unfold fX;cases a Z M<;>rfl
@[simp] theorem vG {i:Nat}:ae (dU (.one i) a Z M) kf↔fb (a Z M) (λx M=>kf (.next (Z.set i (some x))) M) (λx M=>kf (.exc x Z) M):=by
 unfold dU;cases a Z M<;>rfl
@[simp] theorem Cc {i:Nat}:ae (fG i s Z M) kf↔ae (s Z M) λds M=>ds.length<=sz/\kf (.exc (.exc i none) Z) M:=by
 unfold fG;cases s Z M with
 |ok ds j=>by_cases h:ds.length<=sz<;>simp[h]
 |err=>exact RS
 |bad=>exact RS
def PH (k1 k2:Nat)(h:GS)(kf:Fl->Mem->Prop):Fl->Mem->Prop
 |.exc x Z,M=>∃c p,x=.exc c p/\(c=k1\/c=k2)/\ae (h Z M) (λfl M=>match fl with|.exc _ _=>False|fl=>kf fl M)
 |fl,M=>kf fl M
set_option tactic.hygienic true in
@[simp] theorem Ce {k1 k2:Nat}{h:GS}:ae (lW sa k1 k2 h Z M) kf↔ae (sa Z M) (PH k1 k2 h kf):=by
 simp only[lW,a8];refine iff_of_eq ?_;congr 1;funext fl M;cases fl with
 | exc x Z =>
   cases x with
   | exc c p =>
     by_cases j:c=k1\/c=k2
     ·have e:lQ k1 k2 h (.exc (.exc c p) Z) M=(h Z M).bind λfl M=>match fl with|.exc _ _=>.bad|fl=>.ok fl M:=if_pos j
      rw[e];simp only[a8];refine propext {λz=>{c,p,rfl,j,aU z λfl M q=>?_},λ⟨_,_,e,_,z⟩=>?_}
      ·cases fl with
       |exc=>exact q.elim
       |next=>exact q
       |ret=>exact q
      ·refine aU z λfl M q=>?_;cases fl with
       |exc=>exact q.elim
       |next=>exact q
       |ret=>exact q
     ·have e:lQ k1 k2 h (.exc (.exc c p) Z) M=.bad:=if_neg j;rw[e];exact propext {λz=>z.elim,λ⟨_,_,e,z,_⟩=>by cases e;exact absurd z j}
   |_=>exact propext {λz=>z.elim,λ⟨_,_,e,_⟩=>by cases e}
 |next Z=>rfl
 |ret d=>rfl
def eZ {v:Type}{f:v->D->Mem->Res v}{w:Walk}{ds:List D}{a:v}{k:v->Mem->Prop}(I:Nat->v->Mem->Prop)(E:∀i a M,I i a M->w M=some ds)(B:I 0 a M)
 (hs:∀i d a M,ds[i]?=some d->I i a M->ae (f a d M) (I (i+1))) (L:∀a M,I ds.length a M->k a M):ae (cF f w a M) k:=by
 have z:∀(m i:Nat) (a:v) (M:Mem),ds.length-i<m->i<=ds.length->I i a M->ae (fQ f w m i a M) k:=by
  intro m;induction m with
  |zero=>intro i a M h;exact absurd h (Sn _)
  | succ m O =>
    intro i a M h hi y;show ae (match w M with|none=>Res.bad|some ds=>match ds[i]? with|none=>Res.ok a M|some d=>(f a d M).bind (fQ f w m (i+1))) k
    rw[E i a M y];dsimp only;by_cases j:i<ds.length
    ·rw[QE j];simp only[a8];exact aU (hs i ds[i] a M (QE j) y) λH F J=>O (i+1) H F `a j J
    ·have e:i=ds.length:=`a
     subst e;rw[List.getElem?_eq_none (Qt _)];exact L a M y
 unfold cF;rw[E 0 a M B];exact z _ 0 a M `s (RX _) B
def fv {t:fC}{w:Walk}{y:GS}{ds:List D}(I:Nat->Env->Mem->Prop)(E:∀i Z M,I i Z M->w M=some ds)(z:I 0 Z M)
 (hs:∀i d Z M,ds[i]?=some d->I i Z M->∃j,bL t d Z=some j/\ae (y j M) λfl M=>∃ρ',fl=.next ρ'/\I (i+1) ρ' M) (B:∀Z M,I ds.length Z M->kf (.next Z) M):ae (cF (hV t y) w (.next Z) M) kf:=by
 refine eZ (λi fl M=>∃Z,fl=.next Z/\I i Z M) (λi fl M ⟨Z,_,h⟩=>E i Z M h) ⟨Z,rfl,z⟩ ?_ ?_
 ·rintro i d fl M hd ⟨Z,rfl,v⟩;obtain⟨j,e,h⟩:=hs i d Z M hd v;simp only[hV,a8,ie,e];exact⟨j,rfl,h⟩
 ·rintro fl M ⟨Z,rfl,v⟩;exact B Z M v
@[simp] theorem jX {j:fC}{w:GW}{h:GS}:ae (eF j w h Z M) kf↔ae (w Z M) λw M=>ae (cF (hV j h) w (.next Z) M) kf:=by simp[eF]
@[simp] theorem dg {m:Bool}{n:Nat}{h:fC}{w:GW}{g:GB}:ae (a9 m n h w g Z M) k↔ae (w Z M) λw M=>ae (cF (cn h g (List.replicate n none++Z)) w [] M) λacc M=>ae (ba m acc M) k:=by simp[a9]
variable{kl:List D->Mem->Prop}
@[simp] theorem Fh {ge:GE}{acc:List D}:ae (bb ge Z acc M) kl↔ae (ge Z M) λx M=>acc.length<sz/\kl (acc++[x]) M:=by
 simp only[bb,a8];refine iff_of_eq ?_;congr 1;funext x M;split<;>simp[*]
def comp_map {y:fC}{w:Walk}{ge:GE}{ds:List D}{v:Env}(I:Nat->List D->Mem->Prop)(hz:ds.length<=sz)(F:∀i acc M,I i acc M->w M=some ds)(z:I 0 [] M)
 (hs:∀i d acc M,ds[i]?=some d->acc.length=i->I i acc M->∃j,bL y d v=some j/\ae (ge j M) λx M=>I (i+1) (acc++[x]) M) (E:∀acc M,acc.length=ds.length->I ds.length acc M->kl acc M) :
 ae (cF (cn y (bb ge) v) w [] M) kl:=by
 refine eZ (λi acc M=>acc.length=i/\I i acc M) (λi acc M h=>F i acc M h.2) ⟨rfl,z⟩ ?_ (λacc M h=>E acc M h.1 h.2);rintro i d acc M hd ⟨hl,B⟩;obtain⟨j,e,h⟩:=hs i d acc M hd hl B;have hi:i<ds.length:=(Qm.mp hd).1;simp only[cn,a8,ie,e,Fh];exact{j,rfl,aU h λx M h=>{`a,by simp[hl],h}}
end
def c8 {M:Mem}(j:t Z M=.ok false M)(h:ae (rest Z M) k):ae (aY (a7 t A aT) rest Z M) k:=by
 simp only[aJ,lT];rw[j];exact h
def iT {k:Fl->Mem->Prop}(j:t Z M=.ok true M)(he:e Z M=.ok v M)(h:k (.ret v) M):ae (aY (a7 t #v[aS e] aT) rest Z M) k:=by
 simp only[aJ,lT,dA];rw[j];show ae (e Z M) _;rw[he];exact h
def cD {v:D}(he:e Z M=.ok v M)(h:k (.ret v) M):ae (#v[aS e] Z M) k:=by
 simp only[aJ,dA];rw[he];exact h
structure HasB0 (P:Nat->Option Df):Prop where
 is_between:P 0=some {3,3,ji}
 is_word:P 1=some {2,2,mD}
 is_place:P 2=some {2,2,lI}
 is_cost:P 3=some {1,1,mI}
 is_tuple_of:P 4=some {2,2,fT}
 is_table:P 5=some {2,2,lH}
 is_double_table:P 6=some {2,2,fF}
 is_turn:P 7=some {3,6,mE}
 is_join:P 8=some {3,7,mG}
 is_move:P 9=some {3,6,mF}
 is_put:P 10=some {3,6,oR}
 is_deed:P 11=some {3,5,mH}
 is_machine:P 12=some {1,4,jh}
 need_machine:P 13=some {1,1,hI}
structure HasM0 (P:Nat->Option Df):Prop extends HasB0 P where
 is_deed_number:P 16=some {2,2,f5}
 need_numbers:P 17=some {2,4,g9}
 need_row:P 18=some {2,2,lF}
structure HasM (P:Nat->Option Df):Prop extends HasM0 P where
 turned:P 20=some {2,6,lD}
 joined:P 21=some {2,7,lG}
 moved:P 22=some {2,6,nJ}
 put_in:P 23=some {2,6,lE}
 done:P 24=some {2,4,pV}
 all_standing:P 25=some {3,5,hJ}
structure HasP0 (P:Nat->Option Df):Prop where
 law_spread:P 28=some {2,6,lO}
 law_open:P 29=some {1,4,jS}
 law_anew:P 30=some {1,1,jT}
 law_take:P 31=some {2,5,nY}
structure HasP (P:Nat->Option Df):Prop extends HasP0 P where
 law_tab:P 32=some {2,6,iM}
 law_deed:P 33=some {3,7,ia}
 law_machine:P 34=some {4,8,fy}
instance coeHasB0 {P:Nat->Option Df}:Coe (HasM0 P) (HasB0 P):=⟨HasM0.toHasB0⟩
instance coeHasBM {P:Nat->Option Df}:Coe (HasM P) (HasB0 P):={λh=>h.toHasM0.toHasB0}
structure jL (P:Nat->Option Df):Prop where
 turned:P 20=some {2,6,lD}
 joined:P 21=some {2,7,lG}
 moved:P 22=some {2,6,nJ}
 put_in:P 23=some {2,6,lE}
 done:P 24=some {2,4,pV}
def HasM.r {P:Nat->Option Df}(h:HasM P):jL P:=⟨h.turned,h.joined,h.moved,h.put_in,h.done⟩
instance coeHasR0 {P:Nat->Option Df}:Coe (HasM P) (jL P):=⟨HasM.r⟩
instance coeHasM {P:Nat->Option Df}:Coe (HasM P) (HasM0 P):=⟨HasM.toHasM0⟩
instance coeHasP {P:Nat->Option Df}:Coe (HasP P) (HasP0 P):=⟨HasP.toHasP0⟩
@[simp] theorem Rb {d:Option D}{r:Env}:(d::r)[0]?.getD none=d:=rfl
section
variable{M:Mem}{k:D->Mem->Prop}
def j4 {j:Type}{c:Prop}[Decidable c]{r:Res j}{k:j->Mem->Prop}:ae (if c then r else .bad) k↔c/\ae r k:=by split<;>simp[*]
@[simp] theorem u5 {m:Bool}{i j:Int}:ae (fE m .add (.int i) (.int j) M) k↔k (.int (i+j)) M:=RS
@[simp] theorem IY {m:Bool}{i j:Int}:ae (fE m .sub (.int i) (.int j) M) k↔k (.int (i-j)) M:=RS
@[simp] theorem QR {m:Bool}{i j:Int}:ae (fE m .mul (.int i) (.int j) M) k↔((-(2^64)<i/\i<2^64)\/(-(2^64)<j/\j<2^64))/\k (.int (i*j)) M:=j4
@[simp] theorem QS {m:Bool}{i j:Int}:ae (fE m .mod (.int i) (.int j) M) k↔0<j/\k (.int (i % j)) M:=j4
@[simp] theorem Qg {m:Bool}{i j:Int}:ae (fE m .fdiv (.int i) (.int j) M) k↔(0<j/\j<1073741824)/\k (.int (i / j)) M:=j4
@[simp] theorem Bk {m:Bool}{x y:List D}:ae (fE m .add (.tup x) (.tup y) M) k↔(x++y).length<=sz/\k (.tup (x++y)) M:=by
 show ae (kU _ _) k↔_;unfold kU;exact j4
@[simp] theorem Q7 {m:Bool}{x y:List D}:ae (fE m .add (.lst x) (.lst y) M) k↔ae (ba m (x++y) M) k:=RS
@[simp] theorem Qh {i j:Int}:bB .lt (.int i) (.int j) M=some (decide (i<j)):=rfl
@[simp] theorem Qi {i j:Int}:bB .le (.int i) (.int j) M=some (decide (i<=j)):=rfl
@[simp] theorem Qj {i j:Int}:bB .gt (.int i) (.int j) M=some (decide (j<i)):=rfl
@[simp] theorem Qk {i j:Int}:bB .ge (.int i) (.int j) M=some (decide (j<=i)):=rfl
@[simp] theorem Ri {i j:Int}:bB .eq (.int i) (.int j) M=some (i==j):=rfl
@[simp] theorem Rh {i j:Int}:bB .ne (.int i) (.int j) M=some (!(i==j)):=rfl
@[simp] theorem Qp {b:Bool}:jO M (.bl b)=some b:=rfl
@[simp] theorem PZ {ds:List D}:jO M (.tup ds)=some (!ds.isEmpty):=rfl
@[simp] theorem P4 {ds:List D}:jO M (.lst ds)=some (!ds.isEmpty):=rfl
@[simp] theorem Qb {ds:List D}:ae (ff .len [.tup ds] M) k↔k (.int ds.length) M:=RS
@[simp] theorem Qc {ds:List D}:ae (ff .len [.lst ds] M) k↔k (.int ds.length) M:=RS
@[simp] theorem qO {ds:List D}:ae (ff .all [.lst ds] M) k↔∃bs,boolsOf ds=some bs/\k (.bl (bs.all id)) M:=by
 show ae (match boolsOf ds with|some bs=>_|none=>_) k↔_
 cases boolsOf ds<;>simp
@[simp] theorem P5 {ds:List D}:ae (ff .sum [.lst ds] M) k↔∃bs,intsOf ds=some bs/\k (.int bs.sum) M:=by
 show ae (match intsOf ds with|some bs=>_|none=>_) k↔_
 cases intsOf ds<;>simp
@[simp] theorem N3 {ds:List D}:ae (ff .tuple [.lst ds] M) k↔k (.tup ds) M:=RS
@[simp] theorem oY {j:Nat}:ae (ff .tuple [.cell j] M) k↔∃ds,M[j]?=some ds/\k (.tup ds) M:=by
 show ae (match M[j]? with|some xs=>_|none=>_) k↔_
 cases M[j]?<;>simp
@[simp] theorem ub {m:Bool}{ds:List D}:ae (ff (.list m) [.lst ds] M) k↔ae (ba m ds M) k:=RS
@[simp] theorem gY {ds:List D}{i:Int}:bQ (.tup ds) (.int i) M=(bY ds.length i).bind λj=>ds[j]?:=rfl
@[simp] theorem Qd {ds:List D}{i:Int}:bQ (.lst ds) (.int i) M=(bY ds.length i).bind λj=>ds[j]?:=rfl
@[simp] theorem Pu {j:Nat}{i:Int}:bQ (.cell j) (.int i) M=(M[j]?).bind λds=>(bY ds.length i).bind λj=>ds[j]?:=rfl
def eR {n i:Nat}(h:i<n):bY n (i:Int)=some i:=by
 unfold bY;rw[if_pos (Int.natCast_nonneg i),if_pos (by exact_mod_cast h)];rfl
def Hg {n:Nat}(h:0<n):bY n (-1)=some (n-1):=by
 unfold bY;rw[if_neg `a,if_pos `a]
 congr 1;omega
end
def dt {j:Type}{r:Res j}{d:j}{M:Mem}(h:ae r λx M'=>x=d/\M'=M):r=.ok d M:=by
 obtain⟨a,M',e,rfl,rfl⟩:=dG.mp h;exact e
def ah {r:Res D}{d:D}{M:Mem}(h:ae r λx M'=>x=d/\M'=M):r=.ok d M:=by
 obtain⟨a,M',e,rfl,rfl⟩:=dG.mp h;exact e
section
variable{P:Nat->Option Df}(h:HasB0 P){M:Mem}
include h
theorem fo (n:Nat)(t lo hi:Int):ag P (n+1) 0 [.int t,.int lo,.int hi] M=.ok (.bl (decide (lo<=t)&&decide (t<=hi))) M:=by
 refine ah (aE h.is_between rfl ?_);simp[ji,gE];by_cases h1:lo<=t<;>simp[h1]<;>omega
end
def du {B:fC}{w:Walk}{ge:GE}{ds:List D}{v:Env}{M:Mem}{z:List D->Mem->Prop}(f:D->D)(hz:ds.length<=sz)(F:w M=some ds)(hs:∀d∈ds,∃u,bL B d v=some u/\ge u M=.ok (f d) M)(E:z (ds.map f) M) :
 ae (cF (cn B (bb ge) v) w [] M) z:=by
 refine comp_map (λi j y=>y=M/\j=(ds.take i).map f) hz (λi j y h=>by rw[h.1];exact F) ⟨rfl,rfl⟩ ?_ ?_
 ·rintro i d j y hd _ ⟨rfl,rfl⟩;obtain⟨u,e1,e2⟩:=hs d (Q9 hd);refine{u,e1,?_};rw[e2];refine{rfl,?_};have H:i<ds.length:=(Qm.mp hd).1;rw[Rz,hd];simp
 ·rintro j y _ ⟨rfl,rfl⟩;simpa using E
def pT {ds:List D}(h:∀d∈ds,d=.bl true):∃bs,boolsOf ds=some bs/\bs.all id=true:=by
 induction ds with
 |nil=>exact{[],rfl,rfl}
 | cons d r j =>
   obtain⟨bs,e,q⟩:=j λd hd=>h d (Qu _ hd);obtain rfl:=h d QB;exact{true::bs,by simp[boolsOf,e],by simpa using q}
def all_true {w:GW}{ge:GE}{Z:Env}{M:Mem}{k:D->Mem->Prop}{ds:List D}(u:ae (w Z M) λwk M'=>M'=M/\wk M=some ds)(hz:ds.length<=sz)(he:∀d∈ds,ge (some d::Z) M=.ok (.bl true) M)(j:k (.bl true) M) :
 ae (aN .all #[a9 false 1 (.one 0) w (bb ge)] Z M) k:=by
 simp only[bU,bS,dg,cT];refine aU u λwk M' ⟨e1,e2⟩=>?_;subst e1;refine du (λ_=>.bl true) hz e2 (λd hd=>{some d::Z,rfl,he d hd}) ?_;obtain⟨bs,v,y⟩:=pT (ds:=ds.map λ_=>D.bl true) `s
 simp only[bE,Qn,qO];exact{hz,bs,v,by rw[y];exact j}
def oS {v:fC}{ge:GE}{w:Walk}{ds:List D}{j:Env}{M:Mem}(hz:ds.length<=sz)(y:w M=some ds)(he:∀d∈ds,∃u,bL v d j=some u/\ge u M=.ok (.bl true) M) :
 ae (cF (cn v (bb ge) j) w [] M) λacc M'=>acc.length<=sz/\∃bs,boolsOf acc=some bs/\¬ false∈bs/\M'=M:=by
 refine du (λ_=>.bl true) hz y he ?_;obtain⟨bs,B,E⟩:=pT (ds:=ds.map λ_=>D.bl true) `s
 refine{by simpa using hz,bs,B,λz=>?_,rfl}
 have:=QI.mp E false z;cases this
abbrev nD (n:Nat):D:=.int (n:Int)
def aj (l:List Nat):D:=.tup (l.map nD)
inductive aP where
 |turn (at_:Nat) (tab:List Nat) (cost:Nat)
 |join (at_ other:Nat) (tab:List (List Nat)) (cost:Nat)
 |move (at_ other cost:Nat)
 |put (at_ word cost:Nat)
def aP.d:aP->D
 |.turn a t c=>.tup [.str "turn",nD a,aj t,nD c]
 |.join a o t c=>.tup [.str "join",nD a,nD o,.tup (t.map aj),nD c]
 |.move a o c=>.tup [.str "move",nD a,nD o,nD c]
 |.put a w c=>.tup [.str "put",nD a,nD w,nD c]
noncomputable def aP.cost:aP->Nat
 |.turn _ _ c=>c
 |.join _ _ _ c=>c
 |.move _ _ c=>c
 |.put _ _ c=>c
structure aC where
 words:Nat
 places:Nat
 deeds:List aP
noncomputable def aC.d (m:aC):D:=.tup [nD m.words,nD m.places,.tup (m.deeds.map aP.d)]
def fU (w:Nat)(t:List Nat):Prop:=t.length=w/\∀x∈t,x<w
def gM (c:Nat):Prop:=1<=c/\c<=3
def bM (w p:Nat):aP->Prop
 |.turn a t c=>a<p/\fU w t/\gM c
 |.join a o t c=>a<p/\o<p/\(t.length=w/\∀x∈t,fU w x)/\gM c
 |.move a o c=>a<p/\o<p/\gM c
 |.put a x c=>a<p/\x<w/\gM c
structure aA (m:aC):Prop where
 w2:2<=m.words
 w4:m.words<=4
 p1:1<=m.places
 p2:m.places<=2
 d1:1<=m.deeds.length
 d6:m.deeds.length<=6
 ok:∀d∈m.deeds,bM m.words m.places d
def ay {n:Nat}(h:n<=100000):n<=sz:=QF h `d
section
variable{P:Nat->Option Df}(h:HasB0 P){M:Mem}
include h
theorem qf (n:Nat){w t:Nat}(j:t<w):ag P (n+2) 1 [nD w,nD t] M=.ok (.bl true) M:=by
 refine ah (aE h.is_word rfl ?_);simp[mD,fo h];omega
theorem gU (n:Nat){w t:Nat}(j:t<w):ag P (n+2) 2 [nD w,nD t] M=.ok (.bl true) M:=by
 refine ah (aE h.is_place rfl ?_);simp[lI,fo h];omega
theorem kJ (n:Nat){c:Nat}(j:gM c):ag P (n+2) 3 [nD c] M=.ok (.bl true) M:=by
 unfold gM at j;refine ah (aE h.is_cost rfl ?_);simp[mI,fo h];omega
theorem kI (n:Nat){w:Nat}{ds:List D}(j:ds.length=w):ag P (n+1) 4 [nD w,.tup ds] M=.ok (.bl true) M:=by
 refine ah (aE h.is_tuple_of rfl ?_);simp[fT,gE,j]
theorem sU (n:Nat){w:Nat}{t:List Nat}(v:w<=4)(j:fU w t):ag P (n+3) 5 [nD w,aj t] M=.ok (.bl true) M:=by
 refine ah (aE h.is_table rfl ?_);have e:ag P (n+2) 4 [nD w,aj t] M=.ok (.bl true) M:=kI h (n+1) (by simpa using j.1)
 simp[lH,e];refine{rfl,oS (ay (by simp[j.1];omega)) rfl λd hd=>?_}
 obtain⟨x,u,rfl⟩:=QC.mp hd;refine{_,rfl,ah ?_};simp[qf h n (j.2 x u)]
theorem zw (n:Nat){w:Nat}{t:List (List Nat)}(u:w<=4)(j:t.length=w/\∀x∈t,fU w x):ag P (n+4) 6 [nD w,.tup (t.map aj)] M=.ok (.bl true) M:=by
 refine ah (aE h.is_double_table rfl ?_);have e:ag P (n+3) 4 [nD w,.tup (t.map aj)] M=.ok (.bl true) M:=kI h (n+2) (by simpa using j.1)
 simp[fF,e];refine{rfl,oS (ay (by simp[j.1];omega)) rfl λd hd=>?_}
 obtain⟨x,v,rfl⟩:=QC.mp hd;refine{_,rfl,ah ?_};simp[sU h n u (j.2 x v)]
theorem F1 (n:Nat){w p a c:Nat}{t:List Nat}(j:w<=4)(hd:bM w p (.turn a t c)):ag P (n+4) 7 [nD w,nD p,.tup [nD a,aj t,nD c]] M=.ok (.bl true) M:=by
 obtain⟨h1,h2,h3⟩:=hd;refine ah (aE h.is_turn rfl ?_);simp[mE,cJ,gU h (n+1) h1,sU h n j h2,kJ h (n+1) h3]
theorem Ga (n:Nat){w p a o c:Nat}{t:List (List Nat)}(j:w<=4)(hd:bM w p (.join a o t c)):ag P (n+5) 8 [nD w,nD p,.tup [nD a,nD o,.tup (t.map aj),nD c]] M=.ok (.bl true) M:=by
 obtain⟨h1,h2,h3,h4⟩:=hd;refine ah (aE h.is_join rfl ?_);simp[mG,cJ,gU h (n+2) h1,gU h (n+2) h2,zw h n j h3,kJ h (n+2) h4]
theorem F7 (n:Nat){w p a o c:Nat}(hd:bM w p (.move a o c)):ag P (n+3) 9 [nD w,nD p,.tup [nD a,nD o,nD c]] M=.ok (.bl true) M:=by
 obtain⟨h1,h2,h3⟩:=hd;refine ah (aE h.is_move rfl ?_);simp[mF,cJ,gU h n h1,gU h n h2,kJ h n h3]
theorem F5 (n:Nat){w p a x c:Nat}(hd:bM w p (.put a x c)):ag P (n+3) 10 [nD w,nD p,.tup [nD a,nD x,nD c]] M=.ok (.bl true) M:=by
 obtain⟨h1,h2,h3⟩:=hd;refine ah (aE h.is_put rfl ?_);simp[oR,cJ,gU h n h1,qf h n h2,kJ h n h3]
end
def O7:d3.lookup (Str.ofString "turn")=some 7:=`k
def O6:d3.lookup (Str.ofString "join")=some 8:=`k
def O5:d3.lookup (Str.ofString "move")=some 9:=`k
def O4:d3.lookup (Str.ofString "put")=some 10:=`k
section
variable{P:Nat->Option Df}(h:HasB0 P){M:Mem}
include h
theorem sv (n:Nat){w p f:Nat}{s:Str}{ds:List D}(lk:d3.lookup s=some f)(q:ag P (n+5) f [nD w,nD p,.tup ds] M=.ok (.bl true) M):ag P (n+6) 11 [nD w,nD p,.tup (.str s::ds)] M=.ok (.bl true) M:=by
 refine ah (aE h.is_deed rfl ?_);simp[-List.lookup_isSome_iff,mH,gE,bY,lk,gx,aW,eh,cut,q]
theorem Ge (n:Nat){w p:Nat}{d:aP}(j:w<=4)(hd:bM w p d):ag P (n+6) 11 [nD w,nD p,d.d] M=.ok (.bl true) M:=by
 cases d with
 |turn a t c=>exact sv h n O7 (F1 h (n+1) j hd)
 |join a o t c=>exact sv h n O6 (Ga h n j hd)
 |move a o c=>exact sv h n O5 (F7 h (n+2) hd)
 |put a x c=>exact sv h n O4 (F5 h (n+2) hd)
theorem F8 (n:Nat){m:aC}(hm:aA m):ag P (n+7) 12 [m.d] M=.ok (.bl true) M:=by
 refine ah (aE h.is_machine rfl ?_);have e:ag P (n+6) 4 [.int 3,.tup [nD m.words,nD m.places,.tup (m.deeds.map aP.d)]] M=.ok (.bl true) M:=kI h (n+5) rfl;have l1:=hm.d1;have y:=hm.d6;have j:(decide ((2:Int)<=(m.words:Int))&&decide ((m.words:Int)<=4))=true:=by have:=hm.w2;have:=hm.w4;simp;omega
 have u:(decide ((1:Int)<=(m.places:Int))&&decide ((m.places:Int)<=2))=true:=by have:=hm.p1;have:=hm.p2;simp;omega
 simp only[Qs,decide_eq_true_eq] at j u;simp[jh,aC.d,e,cJ,fo h,j,u,gE];refine{`a,`a,rfl,oS (ay `o) rfl λd hd=>?_}
 obtain⟨x,v,rfl⟩:=QC.mp hd;refine{_,rfl,ah ?_};simp[Ge h n hm.w4 (hm.ok x v)]
end
section
variable{Z:Env}{M:Mem}{a b:GE}{s:GA}{k:D->Mem->Prop}{kf:Fl->Mem->Prop}{t u:GT}{A rest:GS}
def bJ {t rest:GS}{ρ':Env}(e:t Z M=.ok (.next ρ') M)(h:ae (rest ρ' M) kf):ae (aY t rest Z M) kf:=by
 simp only[aJ];rw[e];exact h
def af {x:D}{xs:List D}(h:a Z M=.ok x M)(es:s Z M=.ok xs M):dY a s Z M=.ok (x::xs) M:=by
 unfold dY;rw[h];show(s Z M).bind _=_;rw[es];rfl
def Aj {xs:List D}(es:s Z M=.ok xs M)(hl:xs.length<=100):bR false s Z M=.ok (.lst xs) M:=by
 unfold bR;rw[es];show(if xs.length<=sz then(if false=true then _ else Res.ok (D.lst xs) M) else .bad)=_;rw[if_pos (ay `a)]
 rfl
def cj {i:Nat}{x:D}(e:a Z M=.ok x M):ax (.one i) a Z M=.ok (.next (Z.set i (some x))) M:=by
 unfold ax;rw[e];rfl
def aq {j:Nat}{x:D}(h:Z[j]?.getD none=some x):aa j Z M=.ok x M:=by
 unfold aa;rw[h];rfl
def a5 {f:Nat}{c:Call}{xs:List D}(e:s Z M=.ok xs M):ai f c s Z M=c f xs M:=by
 unfold ai;rw[e];rfl
def eD {i:Nat}(h:ae (a Z M) k)(j:∀x M',k x M'->ae (rest (Z.set i (some x)) M') kf):ae (aY (ax (.one i) a) rest Z M) kf:=by
 obtain⟨x,M',e,q⟩:=dG.mp h;simp only[aJ];unfold ax;rw[e];exact j x M' q
def KP (j:t Z M=.ok true M)(h:ae (A Z M) (hU rest kf)):ae (aY (a7 t A aT) rest Z M) kf:=by
 simp only[aJ,lT];rw[j];exact h
def bZ {b:Bool}(h:t Z M=.ok b M)(h1:b=true->ae (A Z M) (hU rest kf))(h2:b=false->ae (rest Z M) kf):ae (aY (a7 t A aT) rest Z M) kf:=by
 cases b with
 |true=>exact KP h (h1 rfl)
 |false=>exact c8 h (h2 rfl)
def tW {b:Bool}(h:t Z M=.ok b M):cq t Z M=.ok (!b) M:=by
 unfold cq;rw[h];rfl
def cg {b:Bool}(h:a Z M=.ok (.bl b) M):au a Z M=.ok b M:=by
 unfold au;rw[h];rfl
def m5 {x y:Bool}(h1:t Z M=.ok x M)(h2:u Z M=.ok y M):eX t u Z M=.ok (x||y) M:=by
 unfold eX;rw[h1];cases x with
 |true=>rfl
 |false=>exact h2
def Bj {b:Bool}(h1:t Z M=.ok b M)(h2:b=true->u Z M=.ok false M):fD t u Z M=.ok false M:=by
 unfold fD;rw[h1];cases b with
 |true=>exact h2 rfl
 |false=>rfl
def qN {x y:Bool}(h1:t Z M=.ok x M)(h2:u Z M=.ok y M):fD t u Z M=.ok (x&&y) M:=by
 unfold fD;rw[h1];cases x with
 |true=>exact h2
 |false=>rfl
def pW {x y:Bool}(h1:a Z M=.ok (.bl x) M)(h2:x=true->b Z M=.ok (.bl y) M):eL a b Z M=.ok (.bl (x&&y)) M:=by
 unfold eL;rw[h1];cases x with
 |true=>exact h2 rfl
 |false=>rfl
def iU {k:Bool}{x:D}(h:t Z M=.ok k M)(h1:k=true->a Z M=.ok x M)(h2:k=false->b Z M=.ok x M):g7 t a b Z M=.ok x M:=by
 unfold g7;rw[h];cases k with
 |true=>exact h1 rfl
 |false=>exact h2 rfl
end
structure Sub (M M':Mem):Prop where
 len:M.length<=M'.length
 at':∀k,k<M.length->M'[k]?=M[k]?
def Sub.refl:Sub M M:={Qt _,λ_ _=>rfl}
def Sub.trans (a:Sub M M1)(b:Sub M1 M2):Sub M M2:={QF a.len b.len,λk j=>(b.at' k (QT j a.len)).trans (a.at' k j)}
def Sub.app:Sub M (M++X):={`s,λk j=>QA j}
def Sub.get {k:Nat}(h:Sub M M')(e:M[k]?=some ds):M'[k]?=some ds:=by rw[h.at' k (Qm.mp e).1];exact e
def Sub.setq (h:Sub M M')(u:M.length<=q):Sub M (M'.set q ds):={by simpa using h.len,λk j=>by rw[QH `a];exact h.at' k j}
def yg (f:D->D)(hz:acc0.length+ds.length<=sz)(z:w M=some ds)(hs:∀d∈ds,∃u,bL tg d ρ0=some u/\ge u M=.ok (f d) M)(y:kl (acc0++ds.map f) M) :
 ae (cF (cn tg (bb ge) ρ0) w acc0 M) kl:=by
 refine eZ (λi j v=>v=M/\j=acc0++(ds.take i).map f) (λi j v h=>by rw[h.1];exact z) {rfl,`s} ?_ ?_
 ·rintro i d j v hd ⟨rfl,rfl⟩;obtain⟨u,e1,e2⟩:=hs d (Q9 hd);have B:i<ds.length:=(Qm.mp hd).1;simp only[cn,a8,ie,e1,Fh];refine{u,rfl,?_};rw[e2];refine{by simp;omega,rfl,?_}
  rw[Rz,hd];simp
 ·rintro j v ⟨rfl,rfl⟩;simpa using y
def qA {j u:Type}(f:j->List u)(n:Nat):∀(ds:List j),(∀d∈ds,(f d).length<=n)->(ds.flatMap f).length<=ds.length*n
 |[],_=>`s
 | d :: r, h => by
   have h1:=h d QB;have h2:=qA f n r λd hd=>h d (Qu _ hd);simp only[List.flatMap_cons,Rp,RV,Nat.succ_mul];omega
def yh (j:D->List D)(f:D->D->D)(n:Nat)(hn:∀d∈ds,(j d).length<=n)(hz:ds.length*n<=sz)(J:w M=some ds)
 (hs:∀d∈ds,∃v,bL t d ρ0=some v/\∃w2,gw2 v M=.ok w2 M/\w2 M=some (j d)/\∀e∈j d,∃z,bL u e v=some z/\ge z M=.ok (f d e) M) (I:kl (ds.flatMap λd=>(j d).map (f d)) M) :
 ae (cF (cn t (ux u gw2 (bb ge)) ρ0) w [] M) kl:=by
 refine eZ (λi y B=>B=M/\y=(ds.take i).flatMap λd=>(j d).map (f d)) (λi y B h=>by rw[h.1];exact J) {rfl,`s} ?_ ?_
 ·rintro i d y B hd ⟨rfl,rfl⟩;obtain⟨v,e1,w2,e2,F,H⟩:=hs d (Q9 hd);simp only[cn,a8,ie,e1,ux];refine{v,rfl,?_};rw[e2];have E:(ds.take (i+1)).flatMap (λd=>(j d).map (f d))=(ds.take i).flatMap (λd=>(j d).map (f d))++(j d).map (f d):=by
   rw[Rz,hd];simp
  have l1:=qA (λd=>(j d).map (f d)) n (ds.take (i+1)) (λd hd=>by simpa using hn d (Sb hd))
  rw[E] at l1;simp only[Rp,Qn,Sa] at l1;refine yg (f d) ?_ F H ⟨rfl,E.symm⟩;have:(min (i+1) ds.length)*n<=ds.length*n:=Nat.mul_le_mul_right _ (Nat.min_le_right _ _);omega
 ·rintro y B ⟨rfl,rfl⟩;simpa using I
noncomputable def qB (w:Nat)(l:List (List Nat)):List (List Nat):=l.flatMap λs=>(List.range w).map λx=>s++[x]
def c6 (w:Nat):Nat->List (List Nat)
 |0=>[[]]
 |p+1=>qB w (c6 w p)
def aL (m:aC):List (List Nat):=c6 m.words m.places
def bV (m:aC)(s:List Nat):Prop:=s.length=m.places/\∀x∈s,x<m.words
def uZ:∀s∈c6 w p,s.length=p/\∀x∈s,x<w:=by
 induction p with
 |zero=>intro s hs;simp[c6] at hs;subst hs;simp
 | succ p v =>
   intro s hs;simp only[c6,qB,List.mem_flatMap,QC,RT] at hs;obtain⟨t,j,x,B,rfl⟩:=hs;obtain⟨h1,h2⟩:=v t j;refine{by simp[h1],λy u=>?_}
   rcases Rw.mp u with z|z
   ·exact h2 y z
   ·simp at z;omega
def gj:∀s∈aL m,bV m s:=uZ
def jH (j:w<=4):∀p≤2,(c6 w p).length<=4^p
 |0,_=>by simp[c6]
 | p + 1, u => by
   have:=jH j p `a
   have l:=qA (λs:List Nat=>(List.range w).map λx=>s++[x]) 4 (c6 w p) (λd hd=>by simpa using j)
   calc _<=(c6 w p).length*4:=l
    _<=4^p*4:=Nat.mul_le_mul_right _ this
    _=4^(p+1):=by rw[Nat.pow_succ]
def dD (hm:aA m):(aL m).length<=16:=by
 have h:=jH hm.w4 m.places hm.p2;have h1:=hm.p1;have h2:=hm.p2;have:m.places=1\/m.places=2:=`a
 rcases this with e|e<;>rw[e] at h<;>unfold aL<;>rw[e]<;>omega
def rT:∀(p:Nat) (s:List Nat),s.length=p->(∀x∈s,x<w)->s∈c6 w p
 | 0, s, hl, _ => by
   obtain rfl:=Se.mp hl;simp[c6]
 | p + 1, s, hl, j => by
   have ne:s≠[]:=by intro e;subst e;cases hl
   have u:=List.dropLast_concat_getLast ne;show s∈qB w (c6 w p);unfold qB;rw[List.mem_flatMap];refine{s.dropLast,rT p _ (by simp[hl]) (λx h=>j x (List.dropLast_subset _ h)),?_}
   rw[QC];exact{s.getLast ne,RT.mpr (j _ (List.getLast_mem ne)),u}
def uY (hm:aA m)(h:bV m s):s∈aL m:=rT _ s h.1 h.2
noncomputable def dO:aP->List Nat->Nat
 |.turn a t _,s=>t.getD (s.getD a 0) 0
 |.join a o t _,s=>(t.getD (s.getD a 0) []).getD (s.getD o 0) 0
 |.move _ o _,s=>s.getD o 0
 |.put _ x _,_=>x
def aP.at':aP->Nat
 |.turn a _ _=>a
 |.join a _ _ _=>a
 |.move a _ _=>a
 |.put a _ _=>a
def bx (d:aP)(s:List Nat):List Nat:=s.take d.at'++[dO d s]++s.drop (d.at'+1)
def getD_mem {j:Type}{l:List j}{d:j}(h:i<l.length):l.getD i d∈l:=by
 rw[Rn,QE h];exact SI h
def xA {m:aC}(hd:bM m.words m.places d)(hs:bV m s):dO d s<m.words:=by
 obtain⟨hl,j⟩:=hs;cases d with
 | turn a t c =>
   obtain⟨h1,h2,h3⟩:=hd;have:=j _ (getD_mem (d:=0) (show a<s.length by omega))
   exact h2.2 _ (getD_mem (by rw[h2.1];exact this))
 | join a o t c =>
   obtain⟨h1,h2,h3,h4⟩:=hd;have a1:=j _ (getD_mem (d:=0) (show a<s.length by omega))
   have a2:=j _ (getD_mem (d:=0) (show o<s.length by omega))
   have a3:=h3.2 _ (getD_mem (d:=[]) (show s.getD a 0<t.length by rw[h3.1];exact a1))
   exact a3.2 _ (getD_mem (by rw[a3.1];exact a2))
 |move a o c=>exact j _ (getD_mem (by obtain⟨h1,h2,h3⟩:=hd;omega))
 |put a x c=>exact hd.2.1
def sC (hd:bM w p d):d.at'<p:=by cases d<;>exact hd.1
def rJ (hd:bM m.words m.places d)(hs:bV m s):bV m (bx d s):=by
 have h1:=sC hd;have h2:=xA hd hs;obtain⟨hl,j⟩:=hs;refine{by simp[bx];omega,λx hm=>?_}
 simp only[bx,List.mem_append,QN] at hm;rcases hm with(z|z)|z
 ·exact j x (Sb z)
 ·omega
 ·exact j x (List.mem_of_mem_drop z)
def lL (m:aC)(r:List Nat):Prop:=r.length<=40/\∀i∈r,i<m.deeds.length
noncomputable def bC (m:aC)(i:Nat):aP:=m.deeds.getD i (.put 0 0 1)
def dB (m:aC):List Nat->List Nat->List Nat
 |[],s=>s
 |i::r,s=>dB m r (bx (bC m i) s)
def ee (m:aC):List Nat->List Nat->List (List Nat)
 |[],s=>[s]
 |i::r,s=>s::ee m r (bx (bC m i) s)
def gu {m:aC}(hm:aA m){i:Nat}(hi:i<m.deeds.length):bM m.words m.places (bC m i):=hm.ok _ (getD_mem hi)
def qC (hm:aA m):∀{r:List Nat}{s:List Nat},(∀i∈r,i<m.deeds.length)->bV m s->bV m (dB m r s)
 |[],s,_,h=>h
 |i::r,s,hr,h=>qC (r:=r) hm (λj u=>hr j (Qu _ u)) (rJ (gu hm (hr i QB)) h)
def oO:∀(a b s:List Nat),dB m (a++b) s=dB m b (dB m a s)
 |[],b,s=>rfl
 |i::a,b,s=>oO a b _
def ra:∀(r:List Nat) (i:Nat) (s:List Nat),ee m (r++[i]) s=ee m r s++[bx (bC m i) (dB m r s)]
 |[],i,s=>rfl
 |j::r,i,s=>by simp[ee,dB,ra r i]
def oh:∀(r s:List Nat),(ee m r s).length=r.length+1
 |[],s=>rfl
 |i::r,s=>by simp[ee,oh r]
def rb:∀(r s:List Nat),(ee m r s)[r.length]?=some (dB m r s)
 |[],s=>rfl
 |i::r,s=>by simp[ee,dB,rb r]
def nR (r s:List Nat):((bY (ee m r s).length (-1)).bind λj=>Option.map aj (ee m r s)[j]?)=some (aj (dB m r s)):=by
 rw[oh,Hg `a]
 show Option.map aj (ee m r s)[r.length+1-1]?=_;rw[Nat.add_sub_cancel,rb];rfl
def BV {s:List Nat}(hi:i<s.length):(bY (s.map nD).length (i:Int)).bind (λj=>(s.map nD)[j]?)=some (nD (s.getD i 0)):=by
 rw[eR (by simpa using hi)]
 simp[Rn,hi]
def qh (r:List Nat):D:=.lst (r.map nD)
noncomputable def d5 (m:aC)(r:List Nat):Nat:=(r.map λi=>(bC m i).cost).sum
def CM {i:Nat}(hi:i<m.deeds.length):((bY (m.deeds.map aP.d).length (i:Int)).bind λj=>(m.deeds.map aP.d)[j]?)=some (bC m i).d:=by
 rw[eR (by simpa using hi)]
 simp[bC,Rn,hi]
def Ex {m:aC}:bQ m.d (.int 2) M=some (.tup (m.deeds.map aP.d)):=rfl
def oH (hi:i<m.deeds.length):bQ (.tup (m.deeds.map aP.d)) (nD i) M=some (bC m i).d:=CM hi
def mj {d:aP}:bQ d.d (.int (-1)) M=some (nD d.cost):=by cases d<;>rfl
def gF {s:List Nat}(hi:i<s.length):bQ (aj s) (nD i) M=some (nD (s.getD i 0)):=BV hi
def AJ {t:List (List Nat)}(hi:i<t.length):bQ (.tup (t.map aj)) (nD i) M=some (aj (t.getD i [])):=by
 show(bY (t.map aj).length (i:Int)).bind (λj=>(t.map aj)[j]?)=_;rw[eR (by simpa using hi)]
 simp[Rn,hi]
def cU (M:Mem)(x:D)(r:List Nat):Prop:=x=.lst (r.map nD)\/∃q,x=.cell q/\M[q]?=some (r.map nD)
def cU.l:cU M (.lst (r.map nD)) r:=.inl rfl
def cU.c (h:M[q]?=some (r.map nD)):cU M (.cell q) r:=.inr ⟨q,rfl,h⟩
def cU.sub {M M':Mem}(h:cU M x r)(s:Sub M M'):cU M' x r:=h.elim .inl λ⟨q,e,g⟩=>.inr {q,e,s.get g}
def cU.seq (h:cU M x r):cv M x=some (r.map nD):=by
 rcases h with rfl|⟨q,rfl,e⟩
 ·rfl
 ·exact e
def cU.is (h:cU M x r):fR x=true/\hZ x=true/\gE .list x=some true:=by
 rcases h with rfl|⟨q,rfl,e⟩<;>exact⟨rfl,rfl,rfl⟩
def cU.len (h:cU M x r):ae (ff .len [x] M) k↔k (.int r.length) M:=by
 rcases h with rfl|⟨q,rfl,e⟩
 ·show k (.int (r.map nD).length) M↔_;simp
 ·show ae (match M[q]? with|some xs=>_|none=>_) k↔_
  rw[e];simp
def uj (f:Nat->Nat):∀(r:List Nat),∃bs,intsOf (r.map λi=>nD (f i))=some bs/\bs.sum=(((r.map f).sum:Nat):Int)
 |[]=>{[],rfl,rfl}
 | i :: r => by
   obtain⟨bs,e1,e2⟩:=uj f r;exact{(f i:Int)::bs,by simp[intsOf,e1],by simp[e2]}
section
variable{P:Nat->Option Df}(h:HasB0 P){M:Mem}
include h
theorem n9 (n:Nat)(hm:aA m):ag P (n+8) 13 [m.d] M=.ok .non M:=by
 refine ah (aE h.need_machine rfl ?_);simp[hI,F8 h n hm]
theorem gV (h15:P 15=some {1,6,bz})(n:Nat)(hm:aA m):ag P (n+9) 15 [m.d] M=.ok (.lst ((aL m).map aj)) M:=by
 refine ah (aE h15 rfl ?_);have w4:=hm.w4;have p2:=hm.p2;simp[bz,n9 h n hm];simp[aC.d,cJ];refine{`d,`a,?_}
 refine fv (λi u j=>j=M/\∃a,u=[some m.d,some (nD m.words),some (nD m.places),some (.tup (m.deeds.map aP.d)),some (.lst ((c6 m.words i).map aj)),a]) (λ_ _ _ _=>rfl) {rfl,none,by simp[aC.d,c6,aj]} ?_ ?_
 ·rintro i d u j hd ⟨rfl,a,rfl⟩;have z:i<m.places:=by
   have:=(Qm.mp hd).1;simpa using this
  refine{_,rfl,?_};simp[fR];refine yh (λ_=>(List.range m.words).map λ(k:Nat)=>D.int (k:Int)) (λd e=>match d,e with|.tup x,e=>.tup (x++[e])|_,_=>.non) 4 (by simpa using λ_ _=>w4) ?_ rfl ?_ ?_
  ·have:=jH w4 i `a
   have:(4:Nat)^i<=4^2:=Nat.pow_le_pow_right `d `a
   simp only[Qn];exact ay `a
  ·intro d hd;obtain⟨s,hs,rfl⟩:=QC.mp hd;have{l1,_}:=uZ s hs;refine{_,rfl,(λ_=>some ((List.range m.words).map λ(k:Nat)=>D.int (k:Int))),dt ?_,rfl,λe y=>{_,rfl,ah ?_}}
   ·simp;omega
   ·simp[aj,sz];omega
  ·have v:((c6 m.words i).map aj).flatMap (λd=>((List.range m.words).map λ(k:Nat)=>D.int (k:Int)).map (λe=>match d,e with|.tup x,e=>D.tup (x++[e])|_,_=>.non))=(c6 m.words (i+1)).map aj:=by
    simp only[c6,qB,List.flatMap_map,List.map_flatMap,QZ]
    congr 1
    funext s
    simp[aj,SF]
   rw[v];refine{?_,rfl,rfl};have:=jH w4 (i+1) `a
   have:(4:Nat)^(i+1)<=4^2:=Nat.pow_le_pow_right `d `a
   simp only[Qn];exact ay `a
 ·rintro u j ⟨rfl,a,rfl⟩;simp[aL]
end
section
variable{P:Nat->Option Df}(h:HasM0 P){M:Mem}
include h
theorem Gd (n:Nat){m:aC}(hi:i<m.deeds.length):ag P (n+2) 16 [m.d,nD i] M=.ok (.bl true) M:=by
 refine ah (aE h.is_deed_number rfl ?_);simp[f5,aC.d,bY,fo h.toHasB0];omega
theorem w8 (n:Nat){m:aC}(v:cU M x r)(hr:∀i∈r,i<m.deeds.length):ag P (n+3) 17 [m.d,x] M=.ok .non M:=by
 refine ah (aE h.need_numbers rfl ?_);obtain⟨y,z,B⟩:=v.is;simp[g9,y,z,B];refine fv (λi u j=>j=M/\∃a b,u=[some m.d,some x,a,b]) (λ_ _ _ e=>by rw[e.1,v.seq];rfl) ⟨rfl,none,none,rfl⟩ ?_ ?_
 ·rintro i d u j hd ⟨rfl,a,b,rfl⟩;rw[jD] at hd;rw[QO] at hd;cases e:r[i]? with
  |none=>rw[e] at hd;cases hd
  | some x =>
    rw[e] at hd;simp at hd;subst hd;refine{_,rfl,?_};simp[Gd h n (hr x (Q9 e))]
 ·rintro u j ⟨rfl,a,b,rfl⟩;simp
theorem q8 (n:Nat)(j:cU M x r)(hm:aA m)(hr:lL m r):ag P (n+9) 18 [m.d,x] M=.ok .non M:=by
 have e:=w8 h (n+5) j hr.2;refine ah (aE h.need_row rfl ?_);simp[lF,n9 h.toHasB0 n hm,e];rw[j.len];have:=hr.1;simp;omega
theorem sV (h47:P 47=some {2,2,dQ})(n:Nat){m:aC}(j:cU M x r)(hl:r.length<=100000)(hr:∀i∈r,i<m.deeds.length):ag P (n+1) 47 [m.d,x] M=.ok (nD (d5 m r)) M:=by
 refine ah (aE h47 rfl ?_);simp[dQ,j.is];refine du (λd=>match d with|.int i=>nD (bC m i.toNat).cost|_=>.non) (ay `o) j.seq ?_ ?_
 ·intro d hd;obtain⟨x,j,rfl⟩:=QC.mp hd;refine{_,rfl,ah ?_};simp[-gY,Ex,oH (hr x j),mj]
 ·obtain⟨bs,e1,e2⟩:=uj (λi=>(bC m i).cost) r;refine{?_,bs,?_,?_,rfl}
  ·simp;exact ay `a
  ·simpa[SF] using e1
  ·exact e2
theorem xb (h19:P 19=some {2,2,mJ})(h47:P 47=some {2,2,dQ})(n:Nat)(j:cU M x r)(hm:aA m)(hr:lL m r):ag P (n+10) 19 [m.d,x] M=.ok (nD (d5 m r)) M:=by
 refine ah (aE h19 rfl ?_);simp[mJ,q8 h n j hm hr,sV h h47 (n+8) j (QF hr.1 `d) hr.2]
theorem vE (h19:P 19=some {2,2,mJ})(h47:P 47=some {2,2,dQ})(n:Nat)(hm:aA m)(hr:lL m r):ag P (n+10) 19 [m.d,qh r] M=.ok (nD (d5 m r)) M:=xb h h19 h47 n .l hm hr
end
section
variable{P:Nat->Option Df}(h:jL P){M:Mem}
include h
theorem zl (n:Nat){m:aC}(hd:bM m.words m.places (.turn a t c))(hs:bV m s):ag P (n+1) 20 [(aP.turn a t c).d,aj s] M=.ok (nD (dO (.turn a t c) s)) M:=by
 obtain⟨h1,h2,h3⟩:=hd;have a1:a<s.length:=by rw[hs.1];exact h1
 have a2:s.getD a 0<t.length:=by rw[h2.1];exact hs.2 _ (getD_mem a1)
 refine ah (aE h.turned rfl ?_);simp[-gY,-List.getD_eq_getElem?_getD,lD,aP.d,cJ,gF a1,gF a2,dO]
theorem zu (n:Nat){a o c:Nat}(hd:bM m.words m.places (.join a o t c))(hs:bV m s):ag P (n+1) 21 [(aP.join a o t c).d,aj s] M=.ok (nD (dO (.join a o t c) s)) M:=by
 obtain⟨h1,h2,h3,h4⟩:=hd;have a1:a<s.length:=by rw[hs.1];exact h1
 have a2:o<s.length:=by rw[hs.1];exact h2
 have a3:s.getD a 0<t.length:=by rw[h3.1];exact hs.2 _ (getD_mem a1)
 have a4:s.getD o 0<(t.getD (s.getD a 0) []).length:=by rw[(h3.2 _ (getD_mem a3)).1];exact hs.2 _ (getD_mem a2)
 refine ah (aE h.joined rfl ?_);simp[-gY,-List.getD_eq_getElem?_getD,lG,aP.d,cJ,gF a1,gF a2,AJ a3,gF a4,dO]
theorem B4 (n:Nat)(hd:bM m.words m.places (.move a o c))(hs:bV m s):ag P (n+1) 22 [(aP.move a o c).d,aj s] M=.ok (nD (dO (.move a o c) s)) M:=by
 obtain⟨h1,h2,h3⟩:=hd;have a2:o<s.length:=by rw[hs.1];exact h2
 refine ah (aE h.moved rfl ?_);simp[-gY,-List.getD_eq_getElem?_getD,nJ,aP.d,cJ,gF a2,dO]
theorem B2 (n:Nat):ag P (n+1) 23 [(aP.put a x c).d,aj s] M=.ok (nD (dO (.put a x c) s)) M:=by
 refine ah (aE h.put_in rfl ?_);simp[lE,aP.d,cJ,dO]
end
def Pb:cy.lookup (Str.ofString "turn")=some 20:=`k
def Pa:cy.lookup (Str.ofString "join")=some 21:=`k
def O9:cy.lookup (Str.ofString "move")=some 22:=`k
def O8:cy.lookup (Str.ofString "put")=some 23:=`k
def Ja {a:Nat}(j:a<=s.length):ae (gx false (aj s) .non (.int a) M) k↔k (aj (s.take a)) M:=by
 simp only[gx,aj,aW,cut];rw[if_neg `a]
 simp;rw[Nat.min_eq_left (by simpa using j)]
def Gh {a:Nat}(j:a<=s.length):ae (gx false (aj s) (.int a) .non M) k↔k (aj (s.drop a)) M:=by
 simp only[gx,aj,aW,cut];rw[if_neg `a]
 simp;rw[Nat.min_eq_left (by simpa using j),RD `s]
section
variable{P:Nat->Option Df}(h:jL P){M:Mem}
include h
theorem vD (n:Nat){d:aP}(hm:aA m)(hd:bM m.words m.places d)(hs:bV m s):ag P (n+2) 24 [d.d,aj s] M=.ok (aj (bx d s)) M:=by
 have a0:=sC hd;have l0:=hs.1;have p2:=hm.p2;have j:∀f,ag P (n+1) f [d.d,aj s] M=.ok (nD (dO d s)) M->bQ d.d (.int 1) M=some (nD d.at')->(∀k:D->Mem->Prop,(∃y,bQ d.d (.int 0) M=some (.str y)/\cy.lookup y=some f))->ag P (n+2) 24 [d.d,aj s] M=.ok (aj (bx d s)) M:=λf e1 e2 u=>by
  obtain⟨y,u,v⟩:=u λ_ _=>True;refine ah (aE h.done rfl ?_);simp only[pV,aJ,lU,Le,gG,bo,eA,b7,dA,jE,su,iL,bS,cT,Hv];simp[-gY,e1,e2,u,v,eh];rw[Ja `a,e1]
  have z:(d.at':Int)+1=((d.at'+1:Nat):Int):=`a
  rw[z];simp only[bg,aj,Bk];refine{`d,?_,?_}
  ·simp;exact ay `a
  ·rw[show D.tup (s.map nD)=aj s from rfl,Gh `a]
   simp only[aj,Bk];refine{?_,?_,trivial}
   ·simp;exact ay `a
   ·simp[bx]
 cases d with
 |turn a t c=>exact j 20 (zl h n hd hs) rfl λ_=>{_,rfl,Pb}
 |join a o t c=>exact j 21 (zu h n hd hs) rfl λ_=>{_,rfl,Pa}
 |move a o c=>exact j 22 (B4 h n hd hs) rfl λ_=>{_,rfl,O9}
 |put a x c=>exact j 23 (B2 h n) rfl λ_=>{_,rfl,O8}
end
section
variable{P:Nat->Option Df}(h:HasM P){M:Mem}
include h
theorem ve (n:Nat)(u:cU M x r)(hm:aA m)(F:r.length<=100000)(hr:∀i∈r,i<m.deeds.length)(hs:bV m s):ag P (n+3) 25 [m.d,x,aj s] M=.ok (.cell M.length) (M++[(ee m r s).map aj]):=by
 refine ah (aE h.all_standing rfl ?_);simp[hJ,u.is];refine{`d,?_}
 refine fv (λi B v=>v=M++[(ee m (r.take i) s).map aj]/\∃a,B=[some m.d,some x,some (aj s),some (.cell M.length),a]) (λ_ _ _ e=>by rw[e.1];exact(u.sub Sub.app).seq) {by simp[ee],none,rfl} ?_ ?_
 ·rintro i d B v hd ⟨rfl,a,rfl⟩;rw[QO] at hd;cases e:r[i]? with
  |none=>rw[e] at hd;cases hd
  | some x =>
    rw[e] at hd;simp at hd;subst hd;have u:=hr x (Q9 e);have H:i<r.length:=(Qm.mp e).1;refine{_,rfl,?_};have z:bV m (dB m (r.take i) s):=qC hm (λj E=>hr j (Sb E)) hs;have hl:=oh (m:=m) (r.take i) s;have y:(r.take i).length=i:=by simp;omega
    simp[-gY,Ex,oH u,nR,vD h.r n hm (gu hm u) z];refine{?_,?_}
    ·rw[hl,y];exact Sx (show i+1<=100001 by omega) `d
    ·rw[Rz,e];simp[ra]
 ·rintro B v ⟨rfl,a,rfl⟩;simp
def qL (m:aC)(r:List Nat):D:=.tup ((aL m).map λs=>aj (dB m r s))
theorem sX (h15:P 15=some {1,6,bz})(h46:P 46=some {2,2,gm})(n:Nat)(z:cU M x r)(hm:aA m)(v:r.length<=100000)(hr:∀i∈r,i<m.deeds.length):ag P (n+10) 46 [m.d,x] M=.ok (qL m r) (M++(aL m).map λs=>(ee m r s).map aj):=by
 refine ah (aE h46 rfl ?_);simp[gm,gV h.toHasM0.toHasB0 h15 n hm];refine{rfl,?_};have bl:=dD hm;refine comp_map (λi j u=>j=((aL m).take i).map (λs=>aj (dB m r s))/\u=M++((aL m).take i).map λs=>(ee m r s).map aj) (ay `o) (λ_ _ _ _=>rfl) `s ?_ ?_
 ·rintro i d j u hd _ ⟨rfl,y⟩;rw[QO] at hd;cases e:(aL m)[i]? with
  |none=>rw[e] at hd;cases hd
  | some s =>
    rw[e] at hd;have hd:=Qw hd;subst hd;have hs:=gj s (Q9 e);refine{_,rfl,?_};have st:=ve h (n+6) (M:=u) (by rw[y];exact z.sub Sub.app) hm v hr hs
    simp[st,nR];rw[y,Rz,Rz];simp[e]
 ·rintro j u _ ⟨rfl,rfl⟩;simp;exact{ay `a,by simp[qL,RD]}
theorem zx (h15:P 15=some {1,6,bz})(h27:P 27=some {2,2,fN})(h46:P 46=some {2,2,gm})(n:Nat)(j:cU M x r)(hm:aA m)(hr:lL m r):ag P (n+11) 27 [m.d,x] M=.ok (qL m r) (M++(aL m).map λs=>(ee m r s).map aj):=by
 refine ah (aE h27 rfl ?_);simp[fN,q8 h.toHasM0 (n+1) j hm hr,sX h h15 h46 n j hm (QF hr.1 `d) hr.2]
theorem I9 (h15:P 15=some {1,6,bz})(h27:P 27=some {2,2,fN})(h46:P 46=some {2,2,gm})(n:Nat)(hm:aA m)(hr:lL m r):ag P (n+11) 27 [m.d,qh r] M=.ok (qL m r) (M++(aL m).map λs=>(ee m r s).map aj):=zx h h15 h27 h46 n .l hm hr
end
@[simp] theorem uc:ae (ff .len [.cell j] M) k↔∃ds,M[j]?=some ds/\k (.int ds.length) M:=by
 show ae (match M[j]? with|some xs=>_|none=>_) k↔_
 cases M[j]?<;>simp
structure aI (M:Mem) (p B:Nat):Prop where
 ex:∃(c:Nat) (cells:List Int) (at_ st:Int),M[p]?=some [.cell c,.int at_,.int st]/\M[c]?=some (cells.map D.int)/\c<p/\0<=at_/\at_<=B/\0<=st
structure bf (p:Nat) (M M':Mem):Prop where
 len:M.length<=M'.length
 at':∀k,k<M.length->k≠p->M'[k]?=M[k]?
def bf.refl:bf p M M:={Qt _,λ_ _ _=>rfl}
def bf.trans (a:bf p M M1)(b:bf p M1 M2):bf p M M2:={QF a.len b.len,λk j n=>(b.at' k (QT j a.len) n).trans (a.at' k j n)}
def bf.set:bf p M (M.set p ds):={`s,λk _ n=>QH (Ru n)}
def bf.app:bf p M (M++X):={`s,λk j _=>QA j}
def bf.get (h:bf p M M')(e:M[k]?=some ds)(n:k≠p):M'[k]?=some ds:=by rw[h.at' k (Qm.mp e).1 n];exact e
def aI.lt (h:aI M p B):p<M.length:=by obtain⟨_,_,_,_,e,_⟩:=h.ex;exact(Qm.mp e).1
def aI.app (h:aI M p B):aI (M++X) p B:=by
 obtain⟨c,j,a,st,e1,e2,r⟩:=h.ex;exact{c,j,a,st,by rw[QA (Qm.mp e1).1];exact e1,by rw[QA (Qm.mp e2).1];exact e2,r}
def aI.mono (h:aI M p B)(E:B<=B'):aI M p B':=by
 obtain⟨c,j,a,st,e1,e2,u,v,z,y⟩:=h.ex;exact{c,j,a,st,e1,e2,u,v,`a,y}
def aI.setq (h:aI M p B)(E:p<q):aI (M.set q ds) p B:=by
 obtain⟨c,j,a,st,e1,e2,u,v,y,z⟩:=h.ex;exact{c,j,a,st,by rw[QH `a];exact e1,by rw[QH `a];exact e2,u,v,y,z}
def bf.setq (h:bf p M M')(u:M.length<=q):bf p M (M'.set q ds):={by simpa using h.len,λk j n=>by rw[QH `a];exact h.at' k j n}
def Af {a b A B:Int}(h1:0<=a)(h2:a<=A)(h3:0<=b)(h4:b<=B):0<=a*b/\a*b<=A*B:=
 {Int.mul_nonneg h1 h3,Int.mul_le_mul h2 h4 h3 (Int.le_trans h1 h2)}
noncomputable def mX:List Int:=[2147483629,2147483587,2147483579,2147483563,2147483549,2147483543,2147483497,2147483489,2147483477,2147483423,2147483399,2147483353,2147483323]
def iS:List D:=mX.map D.int
def zR:∀q∈mX,0<q/\q<2147483648:=`d
def oq (j:Int)(M:Mem):∃q:Int,bQ (.lst iS) (.int (j % 13)) M=some (.int q)/\0<q/\q<2147483648:=by
 have h1:0<=j % 13:=So _ `d
 have h2:j % 13<13:=Sk _ `d
 generalize j % 13=i at h1 h2;obtain⟨k,rfl⟩:=Int.eq_ofNat_of_zero_le h1;have u:=Int.ofNat_lt.mp h2;refine{mX[k],?_,zR _ (SI u)};show(bY iS.length (k:Int)).bind (λj=>iS[j]?)=_;rw[eR (n:=iS.length) u];show(mX.map D.int)[k]?=_;rw[QO,QE u];rfl
section
variable{P:Nat->Option Df}(h:HasP0 P){M:Mem}
include h
omit h in
theorem f6 {x y:Int}(j:a Z M=.ok (.int x) M)(u:b Z M=.ok (.int y) M):ak m .add a b Z M=.ok (.int (x+y)) M:=by
 unfold ak;rw[j];show(b Z M).bind _=_;rw[u];rfl
omit h in
theorem l4 {x y:Int}(j:a Z M=.ok (.int x) M)(u:b Z M=.ok (.int y) M)(c:(-(2^64)<x/\x<2^64)\/(-(2^64)<y/\y<2^64)):ak m .mul a b Z M=.ok (.int (x*y)) M:=by
 unfold ak;rw[j];show(b Z M).bind _=_;rw[u];exact if_pos c
omit h in
theorem i9 {x y:Int}(j:a Z M=.ok (.int x) M)(u:b Z M=.ok (.int y) M)(c:0<y):ak m .mod a b Z M=.ok (.int (x % y)) M:=by
 unfold ak;rw[j];show(b Z M).bind _=_;rw[u];exact if_pos c
omit h in
theorem Cr {x y:Int}(j:a Z M=.ok (.int x) M)(u:b Z M=.ok (.int y) M)(c:0<=y/\y<=1000000)(d:x.natAbs<2^64):ak m .pow a b Z M=.ok (.int (x^y.toNat)) M:=by
 unfold ak;rw[j];show(b Z M).bind _=_;rw[u];exact if_pos ⟨c.1,c.2,d⟩
omit h in
theorem ot {x q:Int}(hi:Z[i]?.getD none=some (.lst iS))(j:a Z M=.ok (.int x) M)(e:bQ (.lst iS) (.int (x % 13)) M=some (.int q)):av (aa i) (ak false .mod a (gI 13)) Z M=.ok (.int q) M:=by
 unfold av;rw[aq hi];show(ak false .mod a _ Z M).bind _=_;rw[i9 j rfl `d];show b9 M _=_;rw[e];rfl
theorem zo {x a:Int}(n:Nat)(R:0<=a)(h1:a<=1000000):ae (ag P (n+1) 28 [.int x,.int a] M) λd M'=>M'=M/\∃v:Int,d=.int v/\0<=v:=by
 refine aE h.law_spread rfl ?_;refine bZ rfl (λe=>?_) λe=>?_
 ·exact{rfl,x,rfl,Int.le_trans `d (of_decide_eq_true e)}
 clear e;refine bJ (cj rfl) (bJ (cj rfl) ?_);obtain⟨S,e1,p1,p2⟩:=oq a M;obtain⟨U,e2,u,_⟩:=oq (a+5) M;obtain⟨q3,Q,J,_⟩:=oq (a+7) M;have y:∀{z c:Int},0<=z->z<=c->c<2^64->z.natAbs<2^64:=λX Y L=>`a
 have lt:∀{z c:Int},0<=z->z<=c->c<2^64->-(2^64)<z/\z<2^64:=λX Y L=>`a
 have r1:=So x (show(1000000007:Int)≠0 by decide)
 have r2:=Sk x (show(0:Int)<1000000007 by decide)
 obtain⟨m1,m2⟩:=Af r1 (Int.le_of_lt r2) (show 0<=2*a+69069 by omega) (show 2*a+69069<=2069069 by omega)
 refine bJ (cj (i9 (Cr (f6 (f6 (l4 (i9 (aq rfl) rfl `d) (f6 (l4 rfl (aq rfl) (.inl `d)) rfl) (.inl (lt r1 (Int.le_of_lt r2) `d))) (l4 (aq rfl) rfl (.inl (lt R h1 `d)))) rfl) rfl `d (y (c:=10000000000000000000) `a `a `d)) (ot rfl (aq rfl) e1) p1)) ?_
 generalize (x % 1000000007*(2*a+69069)+a*40503+977)^(3:Int).toNat=B;have j:=So B (Int.ne_of_gt p1);have F:=Sk B p1;generalize B % S=one at j F;have H:=Int.le_of_lt (Int.lt_trans F p2);obtain⟨m3,m4⟩:=Af j H (show 0<=a+3 by omega) (show a+3<=1000003 by omega)
 refine bJ (cj (i9 (Cr (f6 (f6 (l4 (aq rfl) (f6 (aq rfl) rfl) (.inl (lt j H `d))) (i9 (aq rfl) rfl `d)) rfl) rfl `d (y (c:=10000000000000000000) `a `a `d)) (ot rfl (f6 (aq rfl) rfl) e2) u)) ?_
 generalize (one*(a+3)+x % 65537+5)^(5:Int).toNat=E;have I:=So E (Int.ne_of_gt u);have O:=Sk E u;generalize E % U=two at I O;refine bJ (cj (i9 (Cr (f6 (f6 (aq rfl) (i9 (aq rfl) rfl `d)) (aq rfl)) rfl `d (y (c:=10000000000) `a `a `d)) (ot rfl (f6 (aq rfl) rfl) Q) J)) ?_
 generalize (two+one % 1009+a)^(3:Int).toNat=W;have d1:=So W (Int.ne_of_gt J);refine cD (f6 (l4 (f6 (l4 (aq rfl) rfl (.inr `d)) (aq rfl)) rfl (.inr `d)) (aq rfl)) {rfl,_,rfl,?_}
 exact Int.add_nonneg (Int.mul_nonneg (Int.add_nonneg (Int.mul_nonneg j `d) I) `d) d1
omit h in
theorem Pt:bY 3 2=some 2:=rfl
omit h in
theorem qv {l:List Int}{i:Int}(v:0<=i)(h1:i<l.length):∃x,((bY l.length i).bind λj=>Option.map D.int l[j]?)=some (.int x):=by
 obtain⟨k,rfl⟩:=Int.eq_ofNat_of_zero_le v;have u:k<l.length:=`a
 refine{l[k],?_};rw[eR u];simp[u]
def n8:GS:=#v[ax (.one 4) (ak false .mod (av (aa 0) (gI 2)) (aa 1)),eE (aa 0) (gI 2) (ak false .fdiv (av (aa 0) (gI 2)) (aa 1)),aS (aa 4)]
def vp (c:Call):GS:=#v[eE (aa 0) (gI 1) (ak false .add (aa 2) (gI 1)),eE (aa 0) (gI 2) (ai 28 c #[aa 3,aa 2])]
omit h in
theorem Nc {x y:Int}(j:a Z M=.ok (.int x) M)(u:b Z M=.ok (.int y) M)(c:0<y/\y<1073741824):ak m .fdiv a b Z M=.ok (.int (x / y)) M:=by
 unfold ak;rw[j];show(b Z M).bind _=_;rw[u];exact if_pos c
omit h in
theorem bp (j:a Z M=.ok x M)(u:b Z M=.ok y M)(e:bQ x y M=some d):av a b Z M=.ok d M:=by
 unfold av;rw[j];show(b Z M).bind _=_;rw[u];show b9 M _=_;rw[e];rfl
omit h in
theorem KO (e:M[p]?=some [c0,c1,c2]):bQ (.cell p) (.int 0) M=some c0/\bQ (.cell p) (.int 1) M=some c1/\bQ (.cell p) (.int 2) M=some c2:=by
 refine{?_,?_,?_}<;>(show(M[p]?).bind _=_;rw[e];rfl)
omit h in
theorem tH {n:Int}(hd:d Z M=.ok z M')(u:a Z M'=.ok (.cell p) M')(v:b Z M'=.ok (.int n) M')(e:M'[p]?=some ds)(hi:bY ds.length n=some i)(h:ae (rest Z (M'.set p (ds.set i z))) kf):ae (aY (eE a b d) rest Z M) kf:=by
 simp only[aJ];unfold eE;rw[hd];show ae ((a Z M').bind _) _;rw[u];show ae ((b Z M').bind _) _;rw[v];show ae (match M'[p]? with|some ds=>(match bY ds.length n with|some j=>Res.ok (Fl.next Z) (M'.set p (ds.set j z))|none=>.bad)|none=>.bad) _
 rw[e];show ae (match bY ds.length n with|some j=>Res.ok (Fl.next Z) (M'.set p (ds.set j z))|none=>.bad) _
 rw[hi];exact h
omit h in
theorem KQ (j:t Z M=.ok b M)(h1:b=true->ae (A Z M) (hU rest kf))(h2:b=false->ae (B Z M) (hU rest kf)):ae (aY (a7 t A B) rest Z M) kf:=by
 simp only[aJ,lT];rw[j];cases b with
 |true=>exact h1 rfl
 |false=>exact h2 rfl
omit h in
theorem qY {j:List Int}{a st:Int}(e1:M1[p]?=some [.cell c,.int a,.int st])(e2:M1[c]?=some (j.map D.int))(lt:c<p)(a0:0<=a)(u:a<=(B+1:Nat))(H:0<=st)(k:bf p M M1)
 (z:0<many) (h1:many<=10000000):ae (n8 [some (.cell p),some (nD many),x,y,none] M1) (jd λd M'=>∃v:Nat,d=nD v/\v<many/\aI M' p (B+1)/\bf p M M'):=by
 have E:p<M1.length:=(Qm.mp e1).1;have b0:=Int.ofNat_lt.mpr z;have r1:=So st (Int.ne_of_gt b0);have r2:=Sk st b0;refine bJ (cj (i9 (bp (aq rfl) rfl (KO e1).2.2) (aq rfl) b0)) (tH (Nc (bp (aq rfl) rfl (KO e1).2.2) (aq rfl) {b0,`a}) (aq rfl) rfl e1 rfl (cD (aq rfl) ?_))
 obtain⟨v,F⟩:=Int.eq_ofNat_of_zero_le r1;refine{v,congrArg D.int F,`a,{c,j,a,st / many,Rk E,?_,lt,a0,u,Int.ediv_nonneg H (Int.le_of_lt b0)},k.trans bf.set}
 rw[QH (Rt lt)];exact e2
theorem vB (n:Nat){p B many:Nat}(R:aI M p B)(hB:B<=1000000)(I:0<many)(h1:many<=10000000):ae (ag P (n+2) 31 [.cell p,nD many] M) λd M'=>∃v:Nat,d=nD v/\v<many/\aI M' p (B+1)/\bf p M M':=by
 obtain⟨c,u,a,st,e1,e2,lt,a0,Y,W⟩:=R.ex;have z:p<M.length:=(Qm.mp e1).1;obtain⟨H,S,U⟩:=KO e1;refine aE h.law_take rfl ?_;show ae (aY (a7 _ (aY _ (aY _ (aY _ (vp (ag P (n+1)))))) _) n8 [some (.cell p),some (nD many),none,none,none] M) _;have y:∀(x:Int),ae (vp (ag P (n+1)) [some (.cell p),some (nD many),some (.int a),some (.int x),none] M) (hU n8 (jd λd M'=>∃v:Nat,d=nD v/\v<many/\aI M' p (B+1)/\bf p M M')):=by
  intro x;refine tH (f6 (aq rfl) rfl) (aq rfl) rfl e1 rfl ?_;obtain⟨_,_,Q,rfl,v,rfl,X⟩:=dG.mp (zo h n a0 `a)
  refine tH ((a5 (af (aq rfl) (af (aq rfl) rfl))).trans Q) (aq rfl) rfl (Rk z) rfl ?_;have ne:=Rt lt;exact qY (Rk (by rw[List.length_set];exact z)) (by rw[QH ne,QH ne];exact e2) lt `a `a X (bf.set.trans bf.set) I h1
 have len:aN .len #[av (aa 0) (gI 0)] [some (.cell p),some (nD many),some (.int a),some (.int 0),none] M=.ok (.int (u.length:Nat)) M:=by
  refine ah ?_;simp only[bU];rw[af (bp (aq rfl) rfl H) rfl,bg];exact uc.mpr {_,e2,by rw[Qn],rfl}
 refine bZ (b:=decide (st<(many:Int))) (cg (ah ?_)) (λJ=>?_) λJ=>?_
 ·simp only[fw];rw[bp (aq rfl) rfl U,bg,aq rfl,bg];exact{_,rfl,rfl,rfl}
 ·refine bJ (cj (bp (aq rfl) rfl S)) (bJ (cj rfl) ?_);show ae (aY _ _ [some (.cell p),some (nD many),some (.int a),some (.int 0),none] M) _;have E:∀{i:Int}{x:D},((bY u.length i).bind λj=>Option.map D.int u[j]?)=some x->bQ (.cell c) (.int i) M=some x:=λ{i x} ex=>by
   show(M[c]?).bind _=_;rw[e2];show((bY (u.map D.int).length i).bind λj=>(u.map D.int)[j]?)=_;simp only[Qn,QO];exact ex
  refine KQ (b:=decide (a<(u.length:Int))) (cg (ah ?_)) (λL=>?_) λ_=>?_
  ·simp only[fw];rw[aq rfl,bg,len,bg];exact{_,rfl,rfl,rfl}
  ·obtain⟨x,ex⟩:=qv a0 (of_decide_eq_true L);exact bJ (cj (bp (bp (aq rfl) rfl H) (aq rfl) (E ex))) (y x)
  ·refine bZ (b:=decide ((0:Int)<(u.length:Int))) (cg (ah ?_)) (λO=>?_) λ_=>y 0
   ·simp only[fw,eA];rw[len,bg];exact{_,rfl,rfl,rfl}
   ·have F:=of_decide_eq_true O;obtain⟨x,ex⟩:=qv (So (a*5+3) (Int.ne_of_gt F)) (Sk _ F);exact bJ (cj (i9 (bp (bp (aq rfl) rfl H) (i9 (f6 (l4 (aq rfl) rfl (.inr `d)) rfl) len F) (E ex)) (f6 rfl (aq rfl)) (Int.lt_of_lt_of_le `d (Int.le_add_of_nonneg_right a0)))) (y _)
 ·exact qY e1 e2 lt a0 `a W .refl I h1
end
noncomputable def aP.withC:aP->Nat->aP
 |.turn a t _,c=>.turn a t c
 |.join a o t _,c=>.join a o t c
 |.move a o _,c=>.move a o c
 |.put a x _,c=>.put a x c
def Bq {w p c:Nat}{d:aP}(h:bM w p d)(u:gM c):bM w p (d.withC c):=by
 cases d with
 |turn=>exact⟨h.1,h.2.1,u⟩
 |join=>exact⟨h.1,h.2.1,h.2.2.1,u⟩
 |move=>exact⟨h.1,h.2.1,u⟩
 |put=>exact⟨h.1,h.2.1,u⟩
def wF {w p:Nat}{d:aP}(h:bM w p d):gM d.cost:=by
 cases d with
 |turn=>exact h.2.2
 |join=>exact h.2.2.2
 |move=>exact h.2.2
 |put=>exact h.2.2
def Dp {d:aP}{c:Nat}{M:Mem}{k:D->Mem->Prop}(u:k (d.withC c).d M):ae (gx false d.d .non (.int (-1)) M) λx M=>ae (fE false .add x (.tup [nD c]) M) k:=by
 cases d<;>(simp[aP.d,gx,aW,cut];exact{`d,u})
def BX (n:Nat)(d:aP):aw (n+3) d.d=true:=by
 have v:∀(n:Nat) (l:List Nat),(l.map nD).all (aw n)=true:=λn l=>by
  rw[QI];intro x u;obtain⟨i,_,rfl⟩:=QC.mp u;cases n<;>rfl
 cases d with
 |turn a t c=>simp[aP.d,aw,aj,nD];decide +kernel
 |join a o t c=>simp[aP.d,aw,nD,aj];decide +kernel
 |move a o c=>simp[aP.d,aw,nD];decide +kernel
 |put a x c=>simp[aP.d,aw,nD];decide +kernel
def ne_nil {M:Mem}{q:Nat}{ds:List aP}(e:M[q]?=some (ds.map aP.d)):bB .ne (.cell q) (.lst []) M=some (!ds.isEmpty):=by
 have hp:(ds.map aP.d).all (aw 63)=true:=by
  rw[QI];intro x v;obtain⟨d,_,rfl⟩:=QC.mp v;exact BX 60 d
 have u:view M (.cell q)=.lst (ds.map aP.d):=by simp[view,e]
 have h1:=hp;refine wI (by rw[u];exact h1) rfl ?_
 rw[u];cases ds<;>rfl
@[simp] theorem Ke {m:Bool}{x:List D}{j:Int}{M:Mem}{k:D->Mem->Prop}:ae (fE m .mul (.tup x) (.int j) M) k↔(x.length*j.toNat<=sz/\-(2^63)<=j/\j<2^63)/\k (.tup (List.replicate j.toNat x).flatten) M:=j4
@[simp] theorem Kf {m:Bool}{x:List D}{j:Int}{M:Mem}{k:D->Mem->Prop}:ae (fE m .mul (.lst x) (.int j) M) k↔(x.length*j.toNat<=sz/\-(2^63)<=j/\j<2^63)/\ae (ba m (List.replicate j.toNat x).flatten M) k:=j4
def zA {xs:List D}{a:Nat}{M:Mem}{k:D->Mem->Prop}:ae (gx false (.lst xs) .non (.int a) M) k↔(xs.take a).length<=sz/\k (.lst (xs.take a)) M:=by
 have e:cut xs 0 (min a xs.length)=xs.take a:=by
  unfold cut;rcases Nat.le_total a xs.length with h|h
  ·rw[Nat.min_eq_left h];simp
  ·rw[Nat.min_eq_right h];simp[RD h]
 show ae (match aW xs.length 0 D.non,aW xs.length xs.length (.int a) with|some l,some h=>ba false (cut xs l h) M|_,_=>.bad) k↔_
 have e2:aW xs.length xs.length (.int a)=some (min a xs.length):=by
  show some _=_;rw[if_neg `a];simp
 rw[e2];show ae (ba false (cut xs 0 (min a xs.length)) M) k↔_;rw[e,bE]
def oP {w:Nat}{ge:GE}{Z:Env}{M:Mem}{v:List D->Mem->Prop}(f:Nat->Nat)(z:w<=100)(y:∀k,k<w->ge (some (.int (k:Int))::Z) M=.ok (nD (f k)) M)(u:v (((List.range w).map f).map nD) M) :
 ae (cF (cn (.one 0) (bb ge) (none::Z)) (λ_=>some ((List.range w).map λ(k:Nat)=>D.int (k:Int))) [] M) v:=by
 refine du (λd=>match d with|.int i=>nD (f i.toNat)|_=>.non) (ay `o) rfl (λd hd=>?_) ?_
 ·obtain⟨k,u,rfl⟩:=QC.mp hd;exact{_,rfl,y k (RT.mp u)}
 ·simpa[SF] using u
def vt {w:Nat}{f:Nat->Nat}(u:∀k,k<w->f k<w):fU w ((List.range w).map f):={`s,λx y=>by
 obtain⟨k,v,rfl⟩:=QC.mp y;exact u k (RT.mp v)}
section
variable{P:Nat->Option Df}(h:HasP0 P){M:Mem}
include h
theorem vF (n:Nat){p B:Nat}(hp:aI M p B):ae (ag P (n+1) 30 [.cell p] M) λd M'=>d=.cell p/\aI M' p B/\bf p M M':=by
 obtain⟨c,u,a,st,e1,e2,lt,a0,y,z⟩:=hp.ex;have ne:=QW lt;have v:p<M.length:=(Qm.mp e1).1;refine aE h.law_anew rfl ?_;simp[jT,e1,Pt];refine{{c,u,a,0,by simp[v],?_,lt,a0,y,`a},bf.set}
 rw[QH (Ru ne)];exact e2
theorem tk (n:Nat){p B many:Nat}{k:D->Mem->Prop}(hp:aI M p B)(hB:B<=1000000)(h0:0<many)(h1:many<=10000000)(z:∀(v:Nat) (M':Mem),v<many->aI M' p (B+1)->bf p M M'->k (nD v) M'):ae (ag P (n+2) 31 [.cell p,nD many] M) k:=
 aU (vB h n hp hB h0 h1) λd M' ⟨v,e,E,y,u⟩=>by subst e;exact z v M' E y u
end
def bd {B c k m:Nat}(h:B<=c)(e:c+k<=m):B+k<=m:=QF (Nat.add_le_add_right h k) e
def xP {B k m:Nat}(e:k<=m):B+k<=B+m:=Nat.add_le_add_left e B
def xI {Z:Env}{M:Mem}{j v c:Nat}(h:Z[j]?.getD none=some (nD v)):(au (aK .lt (aa j) (gC (.int (c:Int)))):GT) Z M=.ok (decide (v<c)) M:=by
 refine dt ?_;simp only[kG,fw,bo,eA];refine{_,h,_,rfl,_,rfl,?_,trivial};simp
def iK {Z:Env}{M:Mem}{j v c:Nat}(h:Z[j]?.getD none=some (nD v)):(au (aK .eq (aa j) (gC (.int (c:Int)))):GT) Z M=.ok ((v:Int)==(c:Int)) M:=by
 refine dt ?_;simp only[kG,fw,bo,eA];exact{_,h,_,rfl,_,rfl,rfl,trivial}
section
variable{Z:Env}{M:Mem}{g a:GE}{rest:GS}{kf:Fl->Mem->Prop}
section
variable{P:Nat->Option Df}(hp_:HasP0 P)(n:Nat){i j p B many:Nat}(hj:Z[j]?.getD none=some (.cell p))(hg:g Z M=.ok (nD many) M)(hp:aI M p B)(hB:B<=1000000)(h0:0<many)(h1:many<=10000000)
include hp_ hj hg hp hB h0 h1
theorem fL:ae (ai 31 (ag P (n+2)) #[aa j,g] Z M) λd M'=>∃v:Nat,d=nD v/\v<many/\aI M' p (B+1)/\bf p M M':=by
 rw[a5 (af (aq hj) (af hg rfl))];exact vB hp_ n hp hB h0 h1
theorem e9 (u:∀(v:Nat) (M':Mem),v<many->aI M' p (B+1)->bf p M M'->ae (rest (Z.set i (some (nD v))) M') kf):ae (aY (ax (.one i) (ai 31 (ag P (n+2)) #[aa j,g])) rest Z M) kf:=by
 refine eD (fL hp_ n hj hg hp hB h0 h1) ?_;rintro x M' ⟨v,rfl,a,b,c⟩;exact u v M' a b c
end
end
section
variable{Z:Env}{M:Mem}{k:D->Mem->Prop}
def fW {e:GE}{K:Fl->Mem->Prop}(h:ae (e Z M) λx M=>K (.ret x) M):ae (#v[aS e] Z M) K:=by
 simp only[aJ,dA];exact h
def pE {e:GE}{j v w:Nat}(he:e Z M=.ok (nD v) M)(hj:Z[j]?.getD none=some (nD w))(u:0<w):ak false .mod e (aa j) Z M=.ok (nD (v % w)) M:=by
 unfold ak;rw[he];show(aa j Z M).bind _=_;rw[aq hj];show(if (0:Int)<(w:Int) then Res.ok (D.int ((v:Int) % (w:Int))) M else .bad)=_;rw[if_pos `a]
 rfl
def iX {e f:GE}{v w:Nat}(he:e Z M=.ok (nD v) M)(u:f Z M=.ok (nD w) M):ak false .add e f Z M=.ok (nD (v+w)) M:=by
 unfold ak;rw[he];show(f Z M).bind _=_;rw[u];rfl
def IZ {e:GE}{v c:Nat}(he:e Z M=.ok (nD v) M)(u:c<=v):ak false .sub e (gC (.int (c:Int))) Z M=.ok (nD (v-c)) M:=by
 unfold ak;rw[he];show Res.ok (D.int ((v:Int)-(c:Int))) M=_;rw[<- Int.ofNat_sub u]
end
section
variable{P:Nat->Option Df}(h:HasP P){M:Mem}
include h
theorem zm (n:Nat){p B w:Nat}(hp:aI M p B)(hB:B<=900000)(w2:2<=w)(w4:w<=4):ae (ag P (n+3) 32 [.cell p,nD w] M) λd M'=>∃t,d=aj t/\fU w t/\aI M' p (B+7)/\bf p M M':=by
 have R:0<w:=QT `d w2
 have Y:w<=10000000:=QF w4 (QJ rfl);refine aE h.law_tab rfl ?_;show ae (iM (ag P (n+2)) [some (.cell p),some (nD w),none,none,none,none] M) _;unfold iM;refine e9 h n rfl rfl hp (QF hB `d) `d `d λkind M1 U p1 k1=>?_
 refine e9 h n rfl rfl p1 (bd hB `d) R Y λu M2 X p2 k2=>?_
 refine e9 h n rfl rfl p2 (bd (k:=2) hB `d) R Y λE O ho p3 k3=>?_
 have Q:=(k1.trans k2).trans k3;have J:∀(l:List Nat) (M':Mem),fU w l->aI M' p (B+7)->bf p M M'->(l.map nD).length<=sz/\∃t,D.tup (l.map nD)=aj t/\fU w t/\aI M' p (B+7)/\bf p M M':=λl M' hl F H=>{ay (by rw[Qn,hl.1];omega),l,rfl,hl,F,H}
 have S:aI O p (B+7):=p3.mono (xP (k:=3) `d)
 show ae (aY _ _ [some (.cell p),some (nD w),some (nD kind),some (nD u),some (nD E),none] O) _;refine bZ (xI rfl) (λ_=>?_) λ_=>?_
 ·simp only[aJ,dA,bU,bS,cT,dg,gq,bo];refine{_,rfl,_,rfl,{`a,`a},?_}
  refine comp_map (λi I M'=>∃t:List Nat,I=t.map nD/\(∀x∈t,x<w)/\aI M' p (B+3+i)/\bf p M M') (ay `o) (λ_ _ _ _=>rfl) {[],rfl,(λ_ L=>nomatch L),p3,Q} ?_ ?_
  ·rintro i d I M' hd _ ⟨t,rfl,W,F,H⟩;have hi:i<w:=by
    have:=(Qm.mp hd).1;simpa using this
   refine{_,rfl,aU (fL h n rfl rfl F `a R Y) ?_}
   rintro _ M4 ⟨v,rfl,hv,p4,k4⟩;refine{t++[v],by rw[Q8];rfl,λx L=>?_,p4,H.trans k4}
   rcases Rw.mp L with z|z
   ·exact W x z
   ·rw[QN.mp z];exact hv
  ·rintro I M' hl ⟨t,rfl,W,F,H⟩;simp only[Qn,Rx] at hl F;exact bE.mpr (J t M' ⟨hl,W⟩ (F.mono `a) H)
 refine bZ (iK rfl) (λ_=>?_) λ_=>?_
 ·simp only[aJ,dA,bU,bS,cT,dg,gq,bo];refine{_,rfl,_,rfl,{`a,`a},?_}
  exact oP (λk=>(k+1+u) % w) `a (λk U=>pE (iX (iX (aq rfl) rfl) (aq rfl)) rfl R) (bE.mpr (J _ O (vt λk _=>Nat.mod_lt _ R) S Q))
 refine bZ (iK rfl) (λ_=>?_) λ_=>?_
 ·simp only[aJ,dA,bU,bS,cT,dg,gq,bo];refine{_,rfl,_,rfl,{`a,`a},?_}
  refine oP (λk=>if k=u then E else k) `a (λk U=>?_) (bE.mpr (J _ O (vt λk U=>by split<;>assumption) S Q))
  have e:(au (aK .eq (aa 0) (aa 4)):GT) [some (.int (k:Int)),some (.cell p),some (nD w),some (nD kind),some (nD u),some (nD E),none] O=.ok ((k:Int)==(u:Int)) O:=rfl;by_cases ck:k=u
  ·rw[if_pos ck];exact iU (k:=true) (e.trans (by rw[ck,beq_self_eq_true])) (λ_=>rfl) (λz=>nomatch z)
  ·rw[if_neg ck];exact iU (k:=false) (e.trans (by rw[RW.mpr `a])) (λz=>nomatch z) (λ_=>rfl)
 refine bZ (iK rfl) (λ_=>fW ?_) λ_=>?_
 ·simp only[jE,iL,bS,cT,bo];refine{_,rfl,ay (n:=1) `d,_,rfl,Ke.mpr {{ay `o,`a,`a},List.replicate w u,?_,{List.length_replicate,λx L=>by rw[List.eq_of_mem_replicate L];exact X},S,Q}}
  simp[aj,nD]
 ·simp only[aJ,lU,Ht,bo,lS,dA,bU,bS,cT,b7];simp;refine{`a,ay `a,u,eR X,E,eR ho,((List.range w).set u E).set E u,?_,{`s,λx L=>?_},S.app,Q.trans bf.app}
  ·simp[aj,nD,List.map_set]
  ·rcases List.mem_or_eq_of_mem_set L with z|rfl
   ·rcases List.mem_or_eq_of_mem_set z with y|rfl
    ·exact RT.mp y
    ·exact ho
   ·exact X
theorem B8 (n:Nat){p B w pl:Nat}(hp:aI M p B)(hB:B<=800000)(w2:2<=w)(w4:w<=4)(p1:1<=pl)(p2:pl<=2):ae (ag P (n+4) 33 [.cell p,nD w,nD pl] M) λd M'=>∃e:aP,d=e.d/\bM w pl e/\aI M' p (B+40)/\bf p M M':=by
 have X:pl<=10000000:=QF p2 (QJ rfl);refine aE h.law_deed rfl ?_;show ae (ia (ag P (n+3)) [some (.cell p),some (nD w),some (nD pl),none,none,none,none] M) _;unfold ia;refine e9 h (n+1) rfl rfl hp (QF hB `d) `d `d λkind Y hk q1 k1=>?_
 refine eD (k:=λd M'=>∃v:Nat,d=nD (1+v)/\v<3/\aI M' p (B+2)/\bf p Y M') ?_ ?_
 ·rw[jE];simp only[eA];refine aU (fL h (n+1) rfl rfl q1 (bd hB `d) `d `d) ?_
  rintro _ M2 ⟨v,rfl,J,q,kk⟩;exact u5.mpr {v,by show D.int (1+(v:Int))=D.int ((1+v:Nat):Int);rw[Int.natCast_add];rfl,J,q,kk}
 rintro _ M2 ⟨price,rfl,hc,q2,k2⟩;refine e9 h (n+1) rfl rfl q2 (bd hB `d) p1 X λat_ M3 O q3 k3=>?_
 refine e9 h (n+1) rfl rfl q3 (bd (k:=3) hB `d) p1 X λu F ho Q U=>?_
 have L:=((k1.trans k2).trans k3).trans U;have co:gM (1+price):={`a,`a}
 have W:aI F p (B+40):=Q.mono (xP (k:=4) `d)
 show ae (aY _ _ [some (.cell p),some (nD w),some (nD pl),some (nD kind),some (nD (1+price)),some (nD at_),some (nD u)] F) _;refine bZ (xI rfl) (λ_=>fW ?_) λ_=>?_
 ·simp only[iL,bS,cT,eA,bo,AV];refine{_,rfl,_,rfl,_,rfl,aU (zm h n Q (bd (k:=4) hB `d) w2 w4) λd M' ⟨t,e,I,y,E⟩=>{_,rfl,ay (n:=4) `d,.turn at_ t (1+price),?_,⟨O,I,co⟩,y.mono (xP (k:=11) `d),L.trans E}}
  subst e;rfl
 refine bZ (xI rfl) (λ_=>fW ?_) λ_=>?_
 ·obtain⟨o,eo,R⟩:∃o:Nat,g7 (au (aK .eq (aa 3) (gI 3))) (ak false .mod (ak false .add (aa 5) (gI 1)) (aa 2)) (aa 6) [some (.cell p),some (nD w),some (nD pl),some (nD kind),some (nD (1+price)),some (nD at_),some (nD u)] F=.ok (nD o) F/\o<pl:=by
   have e:(au (aK .eq (aa 3) (gI 3)):GT) [some (.cell p),some (nD w),some (nD pl),some (nD kind),some (nD (1+price)),some (nD at_),some (nD u)] F=.ok ((kind:Int)==3) F:=iK rfl;cases q:(kind:Int)==3 with
   |true=>rw[q] at e;exact{(at_+1) % pl,iU e (λ_=>pE (iX (aq rfl) rfl) rfl p1) (λz=>nomatch z),Nat.mod_lt _ p1}
   |false=>rw[q] at e;exact{u,iU e (λz=>nomatch z) (λ_=>aq rfl),ho}
  simp only[iL,bS,cT,eA,bo];refine{_,rfl,?_};rw[eo,bg];exact{_,rfl,ay (n:=4) `d,.move at_ o (1+price),rfl,⟨O,R,co⟩,W,L}
 refine bZ (iK rfl) (λ_=>fW ?_) λ_=>?_
 ·simp only[iL,bS,cT,eA];show ae (ag P (n+3) 31 [.cell p,nD w] F) _;refine tk h (n+1) Q (bd (k:=4) hB `d) (QT `d w2) (QF w4 (QJ rfl)) λv M5 J q5 k5=>?_
  exact{ay (n:=4) `d,.put at_ v (1+price),rfl,⟨O,J,co⟩,q5.mono (xP (k:=5) `d),L.trans k5}
 ·simp only[aJ,dA,iL,bS,cT,eA,bU,dg,gq,bo];refine{_,rfl,_,rfl,_,rfl,_,rfl,{`a,`a},?_}
  refine comp_map (λi H M'=>∃t:List (List Nat),H=t.map aj/\(∀x∈t,fU w x)/\aI M' p (B+4+i*7)/\bf p M M') (ay `o) (λ_ _ _ _=>rfl) {[],rfl,(λ_ S=>nomatch S),Q,L} ?_ ?_
  ·rintro i d H M' hd _ ⟨t,rfl,I,y,E⟩;have hi:i<w:=by
    have:=(Qm.mp hd).1;simpa using this
   refine{_,rfl,?_};rw[a5 (af (aq rfl) (af (aq rfl) rfl))];refine aU (zm h n y `a w2 w4) ?_
   rintro _ F ⟨v,rfl,J,p4,U⟩;refine{t++[v],by rw[Q8];rfl,λx S=>?_,p4.mono `a,E.trans U}
   rcases Rw.mp S with z|z
   ·exact I x z
   ·rw[QN.mp z];exact J
  ·rintro H M' hl ⟨t,rfl,I,y,E⟩;simp only[Qn,Rx] at hl y;exact bE.mpr {ay (by rw[Qn];omega),_,rfl,ay (n:=5) `d,.join at_ u t (1+price),rfl,{O,ho,⟨hl,I⟩,co},y.mono `a,E}
theorem w9 (n:Nat){p B W Pl mo:Nat}(hp:aI M p B)(hB:B<=700000)(W2:2<=W)(W4:W<=4)(P1:1<=Pl)(P2:Pl<=2)(m1:1<=mo)(m6:mo<=6):ae (ag P (n+5) 34 [.cell p,nD W,nD Pl,nD mo] M) λd M'=>∃m:aC,d=m.d/\aA m/\m.words<=W/\m.places<=Pl/\m.deeds.length<=mo/\aI M' p (B+300)/\bf p M M':=by
 refine aE h.law_machine rfl ?_;show ae (fy (ag P (n+4)) [some (.cell p),some (nD W),some (nD Pl),some (nD mo),none,none,none,none] M) _;unfold fy;have plus:∀{Z:Env}{M:Mem}{g:GE}{B c many:Nat}{rest:GS}{K:Fl->Mem->Prop}{i:Nat},Z[0]?.getD none=some (.cell p)->g Z M=.ok (nD many) M->aI M p B->B<=1000000->0<many->many<=10000000->(∀(v:Nat) (M':Mem),v<many->aI M' p (B+1)->bf p M M'->ae (rest (Z.set i (some (nD (c+v)))) M') K)->ae (aY (ax (.one i) (ak false .add (gC (.int (c:Int))) (ai 31 (ag P (n+4)) #[aa 0,g]))) rest Z M) K:=by
  intro Z M g B c many rest K i e0 eg hp hB h0 h1 hk;refine eD (k:=λd M'=>∃v:Nat,d=nD (c+v)/\v<many/\aI M' p (B+1)/\bf p M M') ?_ ?_
  ·rw[jE];simp only[eA];refine aU (fL h (n+2) e0 eg hp hB h0 h1) ?_;rintro _ M2 ⟨v,rfl,hv,q,kk⟩;exact u5.mpr {v,by show D.int ((c:Int)+(v:Int))=D.int ((c+v:Nat):Int);rw[Int.natCast_add],hv,q,kk}
  ·rintro _ M' ⟨v,rfl,a,b,c⟩;exact hk v M' a b c
 refine plus rfl (IZ (c:=1) (aq rfl) `a) hp (QF hB `d) `a `a λw M1 hw q1 k1=>?_
 refine plus rfl (aq rfl) q1 (bd hB `d) P1 (QF P2 (QJ rfl)) λpl M2 hpl q2 k2=>?_
 have pl2:=q2.lt;have K2:=k1.trans k2;have ML:=K2.len;have w2:2<=2+w:=R9 _ _;have w4:2+w<=4:=`a
 have l1:1<=1+pl:=R9 _ _;have l2:1+pl<=2:=`a
 generalize hW:2+w=w' at w2 w4;generalize hP:1+pl=p' at l1 l2;refine eD (k:=λd M'=>d=.cell M2.length/\M'=M2++[[]]) ?_ ?_
 ·simp only[ya,cT];exact m7.mpr {RX _,rfl,rfl}
 rintro _ _ ⟨rfl,rfl⟩;show ae (aY _ _ [some (.cell p),some (nD w'),some (nD p'),some (nD mo),some (.cell M2.length),none,none,none] (M2++[[]])) _;simp only[aJ,jX,gq,jE,eA];refine aU (fL h (n+2) rfl rfl q2.app (bd (k:=2) hB `d) m1 (QF m6 (QJ rfl))) ?_
 rintro _ M3 ⟨many,rfl,hmany,q3,k3⟩;have e3:=k3.get (List.getElem?_concat_length) `a
 have K3:=K2.trans (bf.app.trans k3);generalize hq:M2.length=q at *;refine u5.mpr {_,rfl,{`a,`a},?_}
 rw[show(1+(many:Int)).toNat=1+many by omega]
 refine fv (λi Z M'=>∃ds:List aP,M'[q]?=some (ds.map aP.d)/\ds.length=i/\(∀d∈ds,bM w' p' d)/\aI M' p (B+3+i*45)/\bf p M M'/\∃a b c,Z=[some (.cell p),some (nD w'),some (nD p'),some (nD mo),some (.cell q),a,b,c])
  (λ_ _ _ _=>rfl) {[],e3,rfl,(λ_ hd=>nomatch hd),q3,K3,none,none,none,rfl} ?_ ?_
 ·rintro i d Z M' hd ⟨ds,e4,hl,hds,q4,K4,a,b,c,rfl⟩;have hi:i<1+many:=by
   have:=(Qm.mp hd).1;simpa using this
  have hi6:i<=5:=`a
  have hB4:B+3+i*45<=700228:=`a
  have hqM:=ML;have hpq:=pl2;refine{_,rfl,?_};refine e9 h (n+2) rfl rfl q4 (QF hB4 `d) `d `d λagain M5 ha q5 k5=>?_
  have e5:=k5.get e4 (Rt hpq);refine eD (k:=λd M'=>∃e:aP,d=e.d/\bM w' p' e/\aI M' p (B+3+i*45+41)/\bf p M5 M') ?_ ?_
  ·rw[a5 (af (aq rfl) (af (aq rfl) (af (aq rfl) rfl)))];exact aU (B8 h n q5 (bd hB4 `d) w2 w4 l1 l2) λd M' ⟨e,a,b,c,d⟩=>⟨e,a,b,c,d⟩
  rintro _ M6 ⟨e,rfl,he,q6,k6⟩;have e6:=k6.get e5 (Rt hpq);have K6:=(K4.trans k5).trans k6;have hsm:(ds.map aP.d).length<sz:=Sx (show(ds.map aP.d).length<=50 by rw[Qn,hl];omega) `d
  have fin:∀(e:aP) (M'':Mem) (x5 x6:Option D),bM w' p' e->M''[q]?=some (ds.map aP.d)->aI M'' p (B+3+(i+1)*45)->bf p M M''->
   ae (#v[i3 (aa 4) (aa 7)] [some (.cell p),some (nD w'),some (nD p'),some (nD mo),some (.cell q),x5,x6,some e.d] M'') λfl M'=>∃ρ',fl=.next ρ'/\∃ds:List aP,M'[q]?=some (ds.map aP.d)/\ds.length=i+1/\(∀d∈ds,bM w' p' d)/\aI M' p (B+3+(i+1)*45)/\bf p M M'/\∃a b c,ρ'=[some (.cell p),some (nD w'),some (nD p'),some (nD mo),some (.cell q),a,b,c]:=by
   intro e M'' x5 x6 he e7 q7 K7;simp only[aJ,Ji,bo];refine{_,rfl,_,rfl,q,ds.map aP.d,rfl,e7,hsm,_,rfl,ds++[e],?_,by rw[Rp,hl];rfl,λd hd=>?_,q7.setq hpq,K7.setq hqM,_,_,_,rfl}
   ·rw[Rk (Qm.mp e7).1,Q8];rfl
   ·rcases Rw.mp hd with z|z
    ·exact hds d z
    ·rw[QN.mp z];exact he
  show ae (aY _ _ [some (.cell p),some (nD w'),some (nD p'),some (nD mo),some (.cell q),some d,some (nD again),some e.d] M6) _;have en:(au (aK .ne (aa 4) (bR false c9)):GT) [some (.cell p),some (nD w'),some (nD p'),some (nD mo),some (.cell q),some d,some (nD again),some e.d] M6=.ok (!ds.isEmpty) M6:=by
   refine cg ?_;unfold aK;show(b9 M6 (bB .ne (.cell q) (.lst []) M6)).bind _=_;rw[ne_nil e6];rfl
  refine bZ (qN (iK rfl) en) (λcc=>?_) λ_=>fin e M6 _ _ he e6 (q6.mono `a) K6
  have hpos:0<ds.length:=by
   rw[Qs] at cc;cases ds with
   |nil=>exact absurd cc.2 `d
   |cons _ _=>exact Nat.succ_pos _
  simp only[aJ,lU,jE,su,gG,iL,bS,cT,xZ,eA];have el:aN .len #[aa 4] [some (.cell p),some (nD w'),some (nD p'),some (nD mo),some (.cell q),some d,some (nD again),some e.d] M6=.ok (nD ds.length) M6:=by
   refine ah ?_;simp only[bU,bS,cT,bo];exact{_,rfl,uc.mpr {_,e6,by rw[Qn],rfl}}
  show ae (ai 31 (ag P (n+4)) #[aa 0,aN .len #[aa 4]] [some (.cell p),some (nD w'),some (nD p'),some (nD mo),some (.cell q),some d,some (nD again),some e.d] M6) _;refine aU (fL h (n+2) rfl el q6 (bd hB4 `d) hpos `a) ?_
  rintro _ M7 ⟨v,rfl,hv,q7,k7⟩;have e7:=k7.get e6 (Rt hpq);refine{(ds.getD v e).d,?_,1,rfl,rfl,rfl,?_}
  ·show(M7[q]?).bind (λds=>(bY ds.length (v:Int)).bind λj=>ds[j]?)=_;rw[e7];show(bY (ds.map aP.d).length (v:Int)).bind (λj=>(ds.map aP.d)[j]?)=_;rw[eR (by rw[Qn];exact hv)]
   simp[Rn,hv]
  ·refine aU (Dp ?_) λx1 M3 hx=>{1,rfl,nD e.cost,mj,ay (n:=1) `d,hx}
   exact fin _ M7 _ _ (Bq (hds _ (getD_mem hv)) (wF he)) e7 (q7.mono `a) (K6.trans k7)
 ·rintro Z M' ⟨ds,e4,hl,hds,q4,K4,a,b,c,rfl⟩;simp only[Qn,Rx] at hl q4;refine fW ?_;simp only[iL,bS,cT,bU,bo];refine{_,rfl,_,rfl,_,rfl,oY.mpr {_,e4,ay (n:=3) `d,⟨w',p',ds⟩,rfl,{w2,w4,l1,l2,?_,?_,hds},?_,?_,?_,q4.mono `a,K4}}
  ·show 1<=ds.length;omega
  ·show ds.length<=6;omega
  ·show w'<=W;omega
  ·show p'<=Pl;omega
  ·show ds.length<=mo;omega
omit h in
theorem Hd {g:GE}{Z:Env}{l:List aP}(e:g Z M=.ok (.tup (l.map aP.d)) M):aN .len #[g] Z M=.ok (nD l.length) M:=by
 refine ah ?_;simp only[bU];rw[af e rfl,bg];exact{congrArg (λ(n:Nat)=>D.int n) (Qn _),rfl}
theorem F4 (h35:P 35=some {3,6,gL})(n:Nat){p B mo:Nat}{m:aC}(hm:aA m)(hp:aI M p B)(hB:B<=700000)(O:mo<=40):ae (ag P (n+3) 35 [.cell p,m.d,nD mo] M) λd M'=>∃r:List Nat,d=.lst (r.map nD)/\lL m r/\r.length<=mo/\aI M' p (B+50)/\bf p M M':=by
 refine aE h35 rfl ?_;show ae (gL (ag P (n+2)) [some (.cell p),some m.d,some (nD mo),none,none,none] M) _;unfold gL;refine e9 h n rfl rfl hp `a `d `d λkind J _ Y k1=>?_
 refine eD (k:=λd M'=>∃v:Nat,d=nD v/\v<=mo/\aI M' p (B+2)/\bf p M M') ?_ ?_
 ·show ae (g7 _ _ _ [some (.cell p),some m.d,some (nD mo),some (nD kind),none,none] J) _;have t0:(au (aK .eq (aa 3) (gI 0)):GT) [some (.cell p),some m.d,some (nD mo),some (nD kind),none,none] J=.ok ((kind:Int)==((0:Nat):Int)) J:=iK rfl;rw[Nk,t0,bg];split
  ·exact{mo,rfl,Qt _,Y.mono `a,k1}
  ·refine aU (fL h n (many:=mo+1) rfl rfl Y `a (Nat.succ_pos _) `a) λd M' ⟨v,e,Q,a,b⟩=>{v,e,Nat.le_of_lt_succ Q,a,k1.trans b}
 intro x M2 R;show ae (aY _ _ [some (.cell p),some m.d,some (nD mo),some (nD kind),some x,none] M2) _;obtain⟨many,ex,F,q2,k2⟩:=R;rw[ex];clear ex;simp only[aJ,lU,dg,gq,bo];have S:=QF F O;refine{_,rfl,_,rfl,{Int.le_trans `d (Int.natCast_nonneg _),Int.lt_of_le_of_lt (Int.ofNat_le.mpr S) `d},?_}
 rw[RP];refine comp_map (λi y M'=>∃t:List Nat,y=t.map nD/\(∀x∈t,x<m.deeds.length)/\aI M' p (B+2+i)/\bf p M M') (ay (by rw[Qn,Rx];omega)) (λ_ _ _ _=>rfl) {[],rfl,(λ_ z=>nomatch z),q2,k2} ?_ ?_
 ·rintro i d y M' hd _ ⟨t,rfl,I,u,E⟩;have W:i<many:=by
   have:=(Qm.mp hd).1
   rwa [Qn,Rx] at this
  refine{_,rfl,?_};refine aU (fL h n rfl (Hd (bp (aq rfl) rfl Ex)) u `a hm.d1 (by have:=hm.d6;omega)) ?_
  rintro _ U ⟨v,rfl,Q,p4,k4⟩;refine{t++[v],by rw[Q8];rfl,λx R=>?_,p4,E.trans k4}
  rcases Rw.mp R with z|z
  ·exact I x z
  ·rw[QN.mp z];exact Q
 ·rintro y M' hl ⟨t,rfl,I,u,E⟩;rw[Qn,Qn,Rx] at hl;rw[Qn,Rx] at u;have q3:=u.mono (show B+2+many<=B+50 by omega)
  have X:=E;have hl:=Nat.le_of_eq hl;refine bE.mpr {ay (by rw[Qn];omega),?_}
  show ae (aY _ _ [some (.cell p),some m.d,some (nD mo),some (nD kind),some (nD many),some (.lst (t.map nD))] M') _;refine bZ (iK rfl) (λ_=>?_) λ_=>cD (aq rfl) {t,rfl,{`a,I},`a,q3,X}
  refine eD (k:=λd U=>U=M'/\d=.lst ((((List.replicate many (t.take 2)).flatten).take many).map nD)) ?_ ?_
  ·have l2:((t.map nD).take 2).length<=2:=by rw[Sa];exact Nat.min_le_left _ _
   simp only[su,jE,bo,eA];refine{_,rfl,rfl,rfl,(zA (a:=2)).mpr {ay `a,_,rfl,Kf.mpr {{?_,`a,`a},bE.mpr {?_,?_}}}}
   ·exact QF (Nat.mul_le_mul l2 (show many<=40 by omega)) `d
   ·rw[RP,List.length_flatten,List.map_replicate,List.sum_replicate_nat];exact QF (Nat.mul_le_mul (show many<=40 by omega) l2) `d
   ·refine{_,rfl,rfl,rfl,zA.mpr {ay (by rw[Sa];exact QF (Nat.min_le_left _ _) `a),rfl,?_}}
    rw[RP,List.map_take,List.map_flatten,List.map_replicate,List.map_take]
  rintro _ _ ⟨rfl,rfl⟩;have lm:(((List.replicate many (t.take 2)).flatten).take many).length<=many:=by rw[Sa];exact Nat.min_le_left _ _
  refine zE.mpr (b7.mpr (cD (aq rfl) {_,rfl,{`a,λi W=>?_},`a,q3,X}))
  obtain⟨l,L,H⟩:=List.mem_flatten.mp (Sb W);rw[(List.mem_replicate.mp L).2] at H;exact I i (Sb H)
end
def Gi {a b:Nat}:ae (gx false (.frz xs) (.int a) (.int b) M) k↔(cut xs (min a xs.length) (min b xs.length)).length<=sz/\k (.lst (cut xs (min a xs.length) (min b xs.length))) M:=by
 show ae (match aW xs.length 0 (.int a),aW xs.length xs.length (.int b) with|some l,some h=>ba false (cut xs l h) M|_,_=>.bad) k↔_
 have e1:aW xs.length 0 (.int a)=some (min a xs.length):=by
  show some _=_;rw[if_neg `a];simp
 have e2:aW xs.length xs.length (.int b)=some (min b xs.length):=by
  show some _=_;rw[if_neg `a];simp
 rw[e1,e2];exact bE
def Ca {b:Nat}:ae (gx false (.frz xs) .non (.int b) M) k↔(cut xs 0 (min b xs.length)).length<=sz/\k (.lst (cut xs 0 (min b xs.length))) M:=by
 show ae (match aW xs.length 0 D.non,aW xs.length xs.length (.int b) with|some l,some h=>ba false (cut xs l h) M|_,_=>.bad) k↔_
 have e2:aW xs.length xs.length (.int b)=some (min b xs.length):=by
  show some _=_;rw[if_neg `a];simp
 rw[e2];exact bE
def wD {j u:Type}(f:j->u)(l:List j)(a b:Nat):cut (l.map f) a b=(cut l a b).map f:=by simp[cut,List.map_take,List.map_drop]
def qF {j:Type}(l:List j)(a b:Nat):(cut l a b).length<=l.length:=by simp[cut];omega
section
variable{P:Nat->Option Df}(h:HasP0 P){M:Mem}
include h
theorem F6 (n:Nat){ns:List Int}(hn:ns.length<=63):ae (ag P (n+1) 29 [.frz (ns.map D.int)] []) λd M'=>d=.cell 1/\aI M' 1 0:=by
 refine aE h.law_open rfl ?_;simp[jS,eh];refine(Ca).mpr {?_,?_}
 ·exact ay (QF (qF _ _ _) `o)
 simp only[ub,m7];refine{ay (QF (qF _ _ _) `o),(Gi).mpr {ay (QF (qF _ _ _) `o),rfl,?_}}
 rw[wD,wD];simp only[Qn,List.length_nil,SQ];have j:min 63 ns.length=ns.length:=`a
 rw[j];refine fv (λi v M'=>∃l:List Int,M'=[l.map D.int]/\l.length=min 12 ns.length/\∃a b,v=[some (.frz (ns.map D.int)),some (.cell 0),a,b]) (λ_ _ _ _=>rfl) {cut ns 0 (min 12 ns.length),rfl,by simp[cut],none,none,rfl} ?_ ?_
 ·rintro i d v M' hd ⟨l,rfl,hl,a,b,rfl⟩;rw[jD,QO] at hd;cases e:(cut ns (min 12 ns.length) ns.length)[i]? with
  |none=>rw[e] at hd;cases hd
  | some x =>
    rw[e] at hd;have hd:=Qw hd;subst hd;have B:=(Qm.mp e).1;have E:12<ns.length:=by
     by_cases c:12<ns.length
     ·exact c
     ·have:min 12 ns.length=ns.length:=`a
      rw[this] at B;simp[cut] at B
    have u:l.length=12:=`a
    have r1:=So (i:Int) (show(12:Int)≠0 by decide)
    have r2:=Sk (i:Int) (show(0:Int)<12 by decide)
    obtain⟨y,z⟩:=qv r1 (by rw[u];exact r2)
    obtain⟨k,F⟩:∃k:Nat,(i:Int) % 12=(k:Int):={((i:Int) % 12).toNat,`a}
    refine{_,rfl,?_};simp;rw[F] at z ⊢;have H:k<l.length:=`a
    refine{_,z,?_};refine{l.map D.int,rfl,k,?_,l.set k (y+x),?_,by simp[hl]}
    ·simpa using eR H
    ·simp[List.map_set]
 ·rintro v M' ⟨l,rfl,hl,a,b,rfl⟩;simp;exact{`d,{0,l,0,0,rfl,rfl,`d,`d,`d,`d}}
end
abbrev aH:=List (List Nat)
def bD (b:aH):D:=.tup (b.map aj)
def aO (m:aC)(i:Nat)(b:aH):aH:=b.map (bx (bC m i))
def cst (m:aC)(i:Nat):Nat:=(bC m i).cost
inductive gn (m:aC):Nat->aH->Prop
 |start:gn m 0 (aL m)
 |step {q:Nat}{b:aH}{i:Nat}:gn m q b->i<m.deeds.length->gn m (q+cst m i) (aO m i b)
def bH (m:aC)(q:Nat)(b:aH):Prop:=gn m q b/\∀q'<q,¬ gn m q' b
section
variable{m:aC}{q q' p:Nat}{b:aH}
def kv (hm:aA m)(hi:i<m.deeds.length):1<=cst m i/\cst m i<=3:=wF (gu hm hi)
def vL (h:gn m q b):(q=0/\b=aL m)\/∃i j,i<m.deeds.length/\cst m i<=q/\gn m (q-cst m i) j/\b=aO m i j:=by
 cases h with
 |start=>exact .inl ⟨rfl,rfl⟩
 | @step q b i h u=>exact .inr {i,b,u,Nat.le_add_left _ _,by rw[Nat.add_sub_cancel];exact h,rfl}
def i6 (hm:aA m)(h:gn m q b):b.length=(aL m).length/\∀s∈b,bV m s:=by
 induction h with
 |start=>exact⟨rfl,gj⟩
 | step _ u j =>
   refine{by unfold aO;rw[Qn];exact j.1,λs hs=>?_}
   obtain⟨t,v,rfl⟩:=QC.mp hs;exact rJ (gu hm u) (j.2 t v)
def jx:∀{q:Nat},gn m q b->∃q',q'<=q/\bH m q' b:=by
 intro q;induction q using Nat.strongRecOn with
 | ind q j =>
   intro h;by_cases z:∃q',q'<q/\gn m q' b
   ·obtain⟨q',h1,h2⟩:=z;obtain⟨r,h3,h4⟩:=j q' h1 h2;exact{r,QF h3 (Sy h1),h4}
   ·exact{q,Qt _,h,λq' h1 h2=>z ⟨q',h1,h2⟩}
def xN (h:bH m q b)(h':bH m q' b):q=q':=by
 rcases Nat.lt_trichotomy q q' with z|z|z
 ·exact absurd h.1 (h'.2 q z)
 ·exact z
 ·exact absurd h'.1 (h.2 q' z)
def iH (hm:aA m):bH m 0 b↔b=aL m:=by
 constructor
 ·intro h;rcases vL h.1 with⟨_,e⟩|⟨i,u,j,v,_⟩
  ·exact e
  ·have:=(kv hm j).1;omega
 ·rintro rfl;exact{.start,λq' h=>absurd h (Sn _)}
def kZ (hm:aA m)(E:0<p):bH m p b↔(∃i j,i<m.deeds.length/\cst m i<=p/\bH m (p-cst m i) j/\b=aO m i j)/\∀q<p,¬ bH m q b:=by
 constructor
 ·intro h;refine{?_,λq y z=>h.2 q y z.1};rcases vL h.1 with⟨e,_⟩|⟨i,j,u,v,h1,rfl⟩
  ·omega
  ·refine{i,j,u,v,?_,rfl};obtain⟨r,hr,hl⟩:=jx h1;have h2:¬ r+cst m i<p:=λz=>h.2 _ z (.step hl.1 u);have e:r=p-cst m i:=`a
   rw[<- e];exact hl
 ·rintro⟨⟨i,j,u,v,h1,rfl⟩,h2⟩;refine{by have:=gn.step h1.1 u;rwa [Nat.sub_add_cancel v] at this,λq' B z=>?_}
  obtain⟨r,hr,hl⟩:=jx z;exact h2 r `a hl
def xO (hm:aA m)(B:0<p)(h:∀q,q<p->p<=q+3->∀b,¬ bH m q b):∀q,p<=q->∀b,¬ bH m q b:=by
 intro q;induction q using Nat.strongRecOn with
 | ind q v =>
   intro E b hl;obtain⟨⟨i,j,u,y,h1,_⟩,_⟩:=(kZ hm `a).mp hl
   have c:=kv hm u;by_cases z:p<=q-cst m i
   ·exact v _ `a z j h1
   ·exact h _ `a `a j h1
def len_sub {v:Type}[DecidableEq v]:∀{l l':List v},l.Nodup->(∀x∈l,x∈l')->l.length<=l'.length
 |[],_,_,_=>RX _
 | a :: l, l', h, s => by
   have j:=s a QB;have h1:=len_sub (RY.mp h).2 λx u=>by
    have ne:x≠a:=λe=>(RY.mp h).1 (by rw[<- e];exact u)
    exact(List.mem_erase_of_ne ne).mpr (s x (Qu _ u))
   rw[List.length_erase_of_mem j] at h1;have h2:=List.length_pos_of_mem j;rw[RV];omega
structure fA (m:aC) (p:Nat) (l:List (aH×Nat)):Prop where
 nd:(l.map (·.1)).Nodup
 sound:∀x∈l,bH m x.2 x.1/\x.2<p
 all:∀q b,q<p->bH m q b->(b,q)∈l
def qQ (m:aC)(p:Nat):Prop:=∃l:List (aH×Nat),(l.map (·.1)).Nodup/\(∀x∈l,bH m x.2 x.1/\x.2<p)/\255<l.length
def fA.mono (h:fA m p l)(v:p<=q)(he:∀k b,p<=k->k<q->¬ bH m k b):fA m q l:=
 {h.nd,λx j=>{(h.sound x j).1,QT (h.sound x j).2 v},λk b u hl=>by
  by_cases z:k<p
  ·exact h.all k b z hl
  ·exact absurd hl (he k b `a u)}
end
def Sub.pen (h:Sub M M')(u:aI M p B):aI M' p B:=by
 obtain⟨c,j,a,st,e1,e2,r⟩:=u.ex;exact{c,j,a,st,h.get e1,h.get e2,r}
def Bb:∀l:List Nat,dM (l.map nD) (l.map nD)=true
 |[]=>rfl
 | i :: l => by
   show(bG (nD i) (nD i)&&dM (l.map nD) (l.map nD))=true;rw[Bb l];simp[nD,NP]
def HX (l:List Nat):bG (aj l) (aj l)=true:=Bb l
structure HasB (P:Nat->Option Df):Prop where
 after:P 41=some {2,4,jj}
 begins:P 42=some {1,1,iz}
@[simp] theorem CN:ae (ff (.list m) [.tup ds] M) k↔ae (ba m ds M) k:=RS
def bN (e:kr (.str x) (.str y)=some b)(M:Mem):bB .eq (.str x) (.str y) M=some b:=by
 show my M (.str x) (.str y)=some b;unfold my;rw[show kr (view M (.str x)) (view M (.str y))=some b from e]
def yc (hd:bM m.words m.places d)(hs:bV m s):bx d s=s.set d.at' (dO d s):=by
 have a0:=sC hd;rw[List.set_eq_take_append_cons_drop,if_pos (by rw[hs.1];exact a0)]
 simp[bx]
def dN (u:Z[0]?=some (some D0))(j:bQ D0 (.int 0) M=some (.str nm))(c:bB .eq (.str nm) (.str w) M=some false)(h:ae (rest Z M) k):ae (aY (a7 (au (aK .eq (av (aa 0) (gI 0)) (gC (.str w)))) A aT) rest Z M) k:=by
 simp[u,j,c,h]
def mS (u:Z[0]?=some (some D0))(j:bQ D0 (.int 0) M=some (.str nm))(c:bB .eq (.str nm) (.str w) M=some true)(h:ae (A Z M) (hU rest k)):ae (aY (a7 (au (aK .eq (av (aa 0) (gI 0)) (gC (.str w)))) A aT) rest Z M) k:=by
 simp[u,j,c,h]
section
variable{P:Nat->Option Df}(h:HasB P){M:Mem}
include h
set_option maxHeartbeats 2000000 in
theorem iN (n:Nat)(ha:a<s.length)(hz:s.length<=100)(j:∀M,bQ D0 (.int 0) M=some (.str nm))(e1:∀M,bQ D0 (.int 1) M=some (nD a))
 (I E F H:Bool) (U:∀M,bB .eq (.str nm) (.str "turn") M=some I) (O:∀M,bB .eq (.str nm) (.str "join") M=some E) (Q:∀M,bB .eq (.str nm) (.str "move") M=some F) (R:∀M,bB .eq (.str nm) (.str "put") M=some H)
 (hb:(I=true/\E=false/\F=false/\H=false/\∀M,∃t,bQ D0 (.int 2) M=some t/\bQ t (nD (s.getD a 0)) M=some (nD v))
  \/(I=false/\E=true/\F=false/\H=false/\∀M,∃t u o,bQ D0 (.int 3) M=some t/\bQ t (nD (s.getD a 0)) M=some u/\bQ D0 (.int 2) M=some (nD o)/\o<s.length/\bQ u (nD (s.getD o 0)) M=some (nD v))
  \/(I=false/\E=false/\F=true/\H=false/\∀M,∃o,bQ D0 (.int 2) M=some (nD o)/\o<s.length/\v=s.getD o 0)
  \/(I=false/\E=false/\F=false/\H=true/\∀M,bQ D0 (.int 2) M=some (nD v))) :
 ag P (n+1) 41 [D0,aj s] M=.ok (aj (s.set a v)) (M++[(s.set a v).map nD]):=by
 refine ah (aE h.after rfl ?_);have S:∀M i,i<s.length->bQ (aj s) (nD i) M=some (nD (s.getD i 0)):=λM i hi=>gF hi;have T:ae (ff (.list true) [aj s] M) (λx L=>x=.cell M.length/\L=M++[s.map nD]):=by
  show ae (ff (.list true) [.tup (s.map nD)] M) _;rw[CN,m7];exact{ay `o,rfl,rfl}
 simp only[jj,aJ,lU,bU,gG,eA,bS,cT,bo,RI,List.map_nil,List.cons_append,SQ,List.getElem?_cons_zero,List.getElem?_cons_succ,Option.getD_some,Option.some.injEq,exists_eq_left',b7];refine aU T λx L hx=>?_;obtain⟨rfl,rfl⟩:=hx;have q:=S (M++[s.map nD]) a ha;refine{_,rfl,_,rfl,_,e1 _,_,q,?_};have y:∀Z:Env,Z[2]?=some (some (.cell M.length))->ae (#v[aS (aN .tuple #[aa 2])] Z ((M++[s.map nD]).set M.length ((s.map nD).set a (nD v)))) (jd λx L=>x=aj (s.set a v)/\L=M++[(s.set a v).map nD]):=λZ Y=>by
  simp[Y];simp[aj,List.map_set]
 have W:(M++[s.map nD])[M.length]?=some (s.map nD):=`s
 have X:bY (s.map nD).length (a:Int)=some a:=eR (by simpa using ha)
 rcases hb with⟨rfl,rfl,rfl,rfl,z⟩|⟨rfl,rfl,rfl,rfl,z⟩|⟨rfl,rfl,rfl,rfl,z⟩|⟨rfl,rfl,rfl,rfl,z⟩
 ·obtain⟨t,B,J⟩:=z (M++[s.map nD]);refine aJ.mp (mS rfl (j _) (U _) ?_);simp only[aJ,lS,gG,bo,eA];refine{_,rfl,_,B,_,rfl,_,J,_,rfl,_,rfl,_,e1 _,_,_,_,_,rfl,rfl,W,X,?_};exact dN rfl (j _) (O _) (dN rfl (j _) (Q _) (dN rfl (j _) (R _) (y _ rfl)))
 ·obtain⟨t,u,o,B,J,v3,v4,v5⟩:=z (M++[s.map nD]);refine aJ.mp (dN rfl (j _) (U _) (mS rfl (j _) (O _) ?_));simp only[aJ,lS,gG,bo,eA];refine{_,rfl,_,B,_,rfl,_,J,_,rfl,_,rfl,_,v3,_,S _ _ v4,_,v5,_,rfl,_,rfl,_,e1 _,_,_,_,_,rfl,rfl,W,X,?_};exact dN rfl (j _) (Q _) (dN rfl (j _) (R _) (y _ rfl))
 ·obtain⟨o,B,J,v3⟩:=z (M++[s.map nD]);subst v3;refine aJ.mp (dN rfl (j _) (U _) (dN rfl (j _) (O _) (mS rfl (j _) (Q _) ?_)));simp only[aJ,lS,gG,bo,eA];refine{_,rfl,_,rfl,_,B,_,S _ _ J,_,rfl,_,rfl,_,e1 _,_,_,_,_,rfl,rfl,W,X,?_};exact dN rfl (j _) (R _) (y _ rfl)
 ·have B:=z (M++[s.map nD]);refine aJ.mp (dN rfl (j _) (U _) (dN rfl (j _) (O _) (dN rfl (j _) (Q _) (mS rfl (j _) (R _) ?_))));simp only[aJ,lS,gG,bo,eA];refine{_,rfl,_,B,_,rfl,_,rfl,_,e1 _,_,_,_,_,rfl,rfl,W,X,?_};exact y [some D0,some (aj s),some (.cell M.length),some (nD (s.getD a 0))] rfl
theorem B9 (n:Nat)(hm:aA m)(hd:bM m.words m.places d)(hs:bV m s):ag P (n+1) 41 [d.d,aj s] M=.ok (aj (bx d s)) (M++[(bx d s).map nD]):=by
 rw[yc hd hs];have l0:=hs.1;have p2:=hm.p2;have g:∀i,i<m.places->s.getD i 0<m.words:=λi u=>hs.2 _ (getD_mem `a)
 have a0:=sC hd;have j:d.at'<s.length:=`a
 cases d with
 |turn a t c=>exact iN h n j `a (λ_=>rfl) (λ_=>rfl) true false false false (bN `k) (bN `k) (bN `k) (bN `k) (.inl {rfl,rfl,rfl,rfl,λM=>{aj t,rfl,gF (by rw[hd.2.1.1];exact g _ hd.1)}})
 | join a o t c =>
   refine iN h n j `a (λ_=>rfl) (λ_=>rfl) false true false false (bN `k) (bN `k) (bN `k) (bN `k) (.inr (.inl {rfl,rfl,rfl,rfl,λM=>{.tup (t.map aj),aj (t.getD (s.getD a 0) []),o,rfl,AJ (by rw[hd.2.2.1.1];exact g _ hd.1),rfl,by rw[l0];exact hd.2.1,gF ?_}}))
   rw[(hd.2.2.1.2 _ (getD_mem (by rw[hd.2.2.1.1];exact g _ hd.1))).1]
   exact g _ hd.2.1
 |move a o c=>exact iN h n j `a (λ_=>rfl) (λ_=>rfl) false false true false (bN `k) (bN `k) (bN `k) (bN `k) (.inr (.inr (.inl {rfl,rfl,rfl,rfl,λM=>{o,rfl,by rw[l0];exact hd.2.1,rfl}})))
 |put a x c=>exact iN h n j `a (λ_=>rfl) (λ_=>rfl) false false false true (bN `k) (bN `k) (bN `k) (bN `k) (.inr (.inr (.inr {rfl,rfl,rfl,rfl,λM=>rfl})))
theorem zy (n:Nat)(hm:aA m):ag P (n+1) 42 [m.d] M=.ok (.lst ((aL m).map aj)) M:=by
 refine ah (aE h.begins rfl ?_);simp[iz];have p1:=hm.p1;have p2:=hm.p2;have w2:=hm.w2;have w4:=hm.w4;refine{_,rfl,?_};have F:m.places=1\/m.places=2:=`a
 have z:m.words=2\/m.words=3\/m.words=4:=`a
 rcases F with u|u
 ·refine .inr {by rw[u];rfl,_,rfl,_,rfl,`a,?_}
  refine du (ds:=(List.range m.words).map λ(k:Nat)=>D.int (k:Int)) (λd=>.tup [d]) (ay `o) `s (λd hd=>{_,rfl,ah (by simp;exact ay `a)}) {ay `o,?_,rfl}
  unfold aL;rw[u];rcases z with e|e|e<;>rw[e]<;>rfl
 ·refine .inl {by rw[u];rfl,_,rfl,_,rfl,?_}
  simp;refine{`a,?_}
  have B:((m.words:Int)*(m.words:Int)).toNat=m.words*m.words:=by rw[<- Int.natCast_mul];rfl
  have H:=Nat.mul_le_mul w4 w4;rw[B];refine{{by rw[<- Int.natCast_mul];omega,by rw[<- Int.natCast_mul];omega},?_}
  have y:∀k:Nat,(aZ #[ak false n5.fdiv (aa 0) (av (aa 1) (gC (D.int 0))),ak false n5.mod (aa 0) (av (aa 1) (gC (D.int 0)))]) [some (nD k),some m.d] M=.ok (aj [k / m.words,k % m.words]) M:=by
   intro k;refine ah ?_;simp;refine{_,rfl,?_};simp;refine{`a,_,rfl,?_}
   simp;exact{`a,ay `a,rfl}
  refine comp_map (λi j v=>v=M/\j=((List.range (m.words*m.words)).take i).map λk=>aj [k / m.words,k % m.words]) (ay (by simpa using by omega)) (λ_ _ _ _=>rfl) ⟨rfl,rfl⟩ ?_ ?_
  ·rintro i d j v hd _ ⟨rfl,rfl⟩;have E:=(Qm.mp hd).1;simp at E;have:d=nD i:=by
    rw[QO,SM `a] at hd
    exact(Qw hd).symm
   subst this;refine{_,rfl,?_};rw[show List.set [none,some m.d] 0 (some (nD i))=[some (nD i),some m.d] from rfl,y i];refine{rfl,?_};rw[Rz,SM `a]
   simp
  ·rintro j v _ ⟨rfl,rfl⟩;simp;refine{ay `a,?_}
   unfold aL;rw[u];rcases z with e|e|e<;>rw[e]<;>rfl
end
section
variable{Z:Env}{M:Mem}{a b d:GE}{k:D->Mem->Prop}{kw:Walk->Mem->Prop}{kf:Fl->Mem->Prop}
@[simp] theorem P9:ae (Js m (.lst xs) M) k↔ae (ba m xs.reverse M) k:=RS
@[simp] theorem P8:ae (Js m (.tup xs) M) k↔k (.tup xs.reverse) M:=RS
end
def LU (i j:Nat):bG (nD i) (nD j)=decide (i=j):=by
 show((i:Int)==(j:Int))=_;rw[RC];simp;omega
def Bd:∀l r:List Nat,dM (l.map nD) (r.map nD)=decide (l=r)
 |[],[]=>rfl
 |[],_::_=>rfl
 |_::_,[]=>rfl
 | i :: l, j :: r => by
   show(bG (nD i) (nD j)&&dM (l.map nD) (r.map nD))=_;rw[LU,Bd l r,RC];simp
def uX (l r:List Nat):bG (aj l) (aj r)=decide (l=r):=Bd l r
def Bc:∀l r:List (List Nat),dM (l.map aj) (r.map aj)=decide (l=r)
 |[],[]=>rfl
 |[],_::_=>rfl
 |_::_,[]=>rfl
 | i :: l, j :: r => by
   show(bG (aj i) (aj j)&&dM (l.map aj) (r.map aj))=_;rw[uX,Bc l r,RC];simp
def ends (m:aC)(r:List Nat):List (List Nat):=(aL m).map (dB m r)
def Be (m:aC)(r:List Nat):qL m r=.tup ((ends m r).map aj):=by simp[qL,ends,SF]
section
variable{P:Nat->Option Df}(h:HasB P){M:Mem}
include h
theorem nQ (he:P 44=some {2,5,fO})(n:Nat)(H:cU M x r)(hm:aA m)(hr:∀i∈r,i<m.deeds.length):ae (ag P (n+2) 44 [m.d,x] M) λd M'=>d=.tup ((ends m r).map aj)/\Sub M M':=by
 have W:=zy h n (M:=M++[[]]) hm;have bl:=dD hm;refine aE he rfl ?_;simp[fO,W];refine{rfl,?_};generalize S:M.length=q;refine fv (λi Z M'=>M'[q]?=some (((aL m).take i).map λs=>aj (dB m r s))/\Sub M M'/\q<M'.length/\∃Q y,Z=[some m.d,some x,some (.cell q),Q,y]) (λ_ _ _ _=>rfl) {by subst S;simp,Sub.app,by subst S;simp,none,none,rfl} ?_ ?_
 ·rintro i d Z M' hd ⟨E,I,B,Q,y,rfl⟩;rw[QO] at hd;cases e:(aL m)[i]? with
  |none=>rw[e] at hd;cases hd
  | some s =>
    rw[e] at hd;cases Qw hd;have hs:=gj s (Q9 e);refine{_,rfl,?_};simp[H.is];refine fv (λj Z v=>v[q]?=some (((aL m).take i).map λs=>aj (dB m r s))/\Sub M v/\q<v.length/\∃y,Z=[some m.d,some x,some (.cell q),some (aj (dB m (r.take j) s)),y]) (λ_ _ _ e=>(H.sub e.2.1).seq) ⟨E,I,B,y,rfl⟩ ?_ ?_
    ·rintro j Y Z v z ⟨L,J,u,X,rfl⟩;rw[QO] at z;cases F:r[j]? with
     |none=>rw[F] at z;cases z
     | some k =>
       rw[F] at z;cases Qw z;have R:=hr k (Q9 F);have O:bV m (dB m (r.take j) s):=qC hm (λx H=>hr x (Sb H)) hs;have U:=B9 h n (M:=v) hm (gu hm R) O;refine{_,rfl,?_};simp[-gY,Ex,oH R,U];exact{by rw[QA u,L,List.map_take],J.trans Sub.app,`a,by rw[Rz,F];simp[oO,dB]}
    ·rintro Z v ⟨L,J,u,X,rfl⟩;simp[L];exact{Sx (show _<=50 by omega) `d,by rw[Rk u,Rz];simp[e],J.setq `a,u}
 ·rintro Z M' ⟨E,I,B,Q,y,rfl⟩;rw[Qn,List.take_length] at E;simp[E,ends,SF,I]
theorem B5 (he:P 44=some {2,5,fO})(n:Nat)(hm:aA m)(hr:∀i∈r,i<m.deeds.length):ae (ag P (n+2) 44 [m.d,.lst (r.map nD)] M) λd M'=>d=.tup ((ends m r).map aj)/\Sub M M':=nQ h he n .l hm hr
end
def oG:∀s:List Nat,intsOf (s.map nD)=some (s.map λ(n:Nat)=>(n:Int))
 |[]=>rfl
 |a::s=>by show(intsOf (s.map nD)).map _=_;rw[oG s];rfl
def wd (s:List Nat):isKey 77 (aj s)=true:=by
 show(intsOf (s.map nD)).isSome=true;rw[oG];rfl
def Aw:∀b:aH,jy (b.map aj)=some (b.map λs=>s.map λ(n:Nat)=>(n:Int))
 |[]=>rfl
 | s :: b => by
   show((intsOf (s.map nD)).bind λk=>(jy (b.map aj)).map (k::·))=_;rw[oG,Aw b];rfl
def la (b:aH):isKey 78 (bD b)=true:=by
 show(jy (b.map aj)).isSome=true;rw[Aw];rfl
def Fg (a b:aH):bG (bD a) (bD b)=decide (a=b):=Bc a b
section
variable{Z:Env}{M:Mem}{a b:GE}{k:D->Mem->Prop}
def pN {c:Int}(e:M[j]?=some (.int c::es))(h:c=77\/c=78):bq M (aB j)=some (c,es):=by
 unfold bq;rw[if_pos (show 5000<=aB j from R9 _ _),show aB j-5000=j from RG _ _,e];exact if_pos h
def oB {h:Type}(f g:h->D)(l:List h)(x:D):cx (l.map λy=>.tup [f y,g y]) x=(l.find? λy=>bG (f y) x).map g:=by
 unfold cx;rw[List.find?_map,Option.map_map];rfl
def pK {x:D}{o:Nat}{y d:D}(h:a Z M=.ok (.fn o) M)(u:b Z M=.ok y M)(e:getD M o y=some d):cZ a b Z M=.ok d M:=by
 unfold cZ;rw[h];show(b Z M).bind _=_;rw[u];show b9 M (getD M o y)=_;rw[e];rfl
end
def eI (m:aC)(d:aP):List D:=.int 77::(aL m).map λs=>.tup [aj s,aj (bx d s)]
section
variable{P:Nat->Option Df}{M:Mem}{m:aC}{d:aP}{j:Nat}
def oC (e:M[j]?=some (eI m d))(hm:aA m)(hs:bV m s):getD M (aB j) (aj s)=some (aj (bx d s)):=by
 unfold getD;rw[pN e (.inl rfl)];show(if isKey 77 (aj s)=true then cx ((aL m).map λs=>.tup [aj s,aj (bx d s)]) (aj s) else none)=_;rw[if_pos (wd s),oB aj λs=>aj (bx d s)];have e2:((aL m).find? λy=>bG (aj y) (aj s))=some s:=by
  cases h:(aL m).find? λy=>bG (aj y) (aj s) with
  |none=>exact absurd (HX s) (SU.mp h s (uY hm hs))
  | some y =>
    have:=List.find?_some h;rw[uX] at this;rw[of_decide_eq_true this]
 rw[e2];rfl
def zt (h152:P 152=some {2,2,dE})(n:Nat)(e:M[j]?=some (eI m d))(hm:aA m)(hl:b.length<=16)(h:∀s∈b,bV m s):ag P (n+1) 152 [.fn (aB j),bD b] M=.ok (bD (b.map (bx d))) M:=by
 refine ah (aE h152 rfl ?_);simp only[dE,aJ,dA,bU,bS,dg,cT,iC,bo];refine{_,rfl,rfl,?_};refine du (λx=>(getD M (aB j) x).getD .non) (ay `o) rfl ?_ ?_
 ·intro x u;obtain⟨s,hs,rfl⟩:=QC.mp u;refine{_,rfl,?_};rw[oC e hm (h s hs)];exact pK (x:=.non) rfl rfl (oC e hm (h s hs))
 ·have e2:(b.map aj).map (λx=>(getD M (aB j) x).getD .non)=(b.map (bx d)).map aj:=by
   rw[QZ,QZ];refine Rr λs hs=>?_;show(getD M (aB j) (aj s)).getD .non=_;rw[oC e hm (h s hs)];rfl
  rw[e2];exact bE.mpr {ay `o,rfl,rfl}
end
def vY {u F:Type}{f:u->List F}:∀{l:List u},l.Nodup->(∀a,(f a).Nodup)->(∀a b x,a≠b->x∈f a->x∉f b)->(l.flatMap f).Nodup
 |[],_,_,_=>`s
 | a :: l, h, h1, h2 => by
   rw[List.flatMap_cons,List.nodup_append];rw[RY] at h;refine{h1 a,vY h.2 h1 h2,λx B y E e=>?_};subst e;obtain⟨b,v,j⟩:=List.mem_flatMap.mp E;exact h2 a b x (λz=>h.1 (z ▸ v)) B j
def vX (s:List Nat):∀{l:List Nat},l.Nodup->(l.map λx=>s++[x]).Nodup
 |[],_=>`s
 | a :: l, h => by
   rw[RY] at h;rw[RI,RY];refine{λz=>?_,vX s h.2};obtain⟨b,j,e⟩:=QC.mp z;have e:b=a:=by simpa using e
   exact h.1 (e ▸ j)
def u1 (w:Nat):∀p,(c6 w p).Nodup
 |0=>by unfold c6;simp
 | p + 1 => by
   unfold c6 qB;refine vY (u1 w p) (λs=>vX s List.nodup_range) λa b x h u v=>?_;obtain⟨i,_,rfl⟩:=QC.mp u;obtain⟨j,_,e⟩:=QC.mp v;exact h (List.append_inj_left' e rfl).symm
def MR {v:Type}{l:List v}(h:l.Nodup){i j:Nat}{x:v}(u:i<j)(hi:l[i]?=some x)(y:l[j]?=some x):False:=by
 obtain⟨h1,e1⟩:=Qm.mp hi;obtain⟨h2,e2⟩:=Qm.mp y;exact List.pairwise_iff_getElem.mp h i j h1 h2 u (e1.trans e2.symm)
section
variable{Z:Env}{M:Mem}{k:D->Mem->Prop}{kl:List D->Mem->Prop}
def Hu {c:Int}(h:ae (w Z M) λw M=>ae (cF (cn tg g (List.replicate n none++Z)) w [.fn (aB M.length)] (M++[[.int c]])) λacc M=>∃d,acc=[d]/\k d M):ae (kj c n tg w g Z M) k:=by
 refine a8.mpr (aU h λw M h=>a8.mpr (aU h ?_));rintro _ M ⟨d,rfl,h⟩;exact h
def Lf (h1:gk Z M=.ok x M)(h2:gv Z M=.ok y M)(e:bq M o=some q)(j:isKey q.1 x=true)(hl:q.2.length<1000000)(h:kl [.fn o] (M.set (o-5000) (.int q.1::putD q.2 x y))):ae (jC gk gv Z [.fn o] M) kl:=by
 unfold jC;rw[h1];show ae ((gv Z M).bind _) kl;rw[h2];show ae (match bq M o with|some q=>if isKey q.1 x=true/\q.2.length<1000000 then Res.ok [D.fn o] (M.set (o-5000) (.int q.1::putD q.2 x y)) else .bad|none=>.bad) kl
 rw[e];show ae (if isKey q.1 x=true/\q.2.length<1000000 then Res.ok [D.fn o] (M.set (o-5000) (.int q.1::putD q.2 x y)) else .bad) kl;rw[if_pos ⟨j,hl⟩];exact h
end
def vM (h:cx es x=none):putD es x y=es++[.tup [x,y]]:=by
 unfold putD;rw[h];rfl
section
variable{P:Nat->Option Df}{M:Mem}{m:aC}{d:aP}
def s8 (h:j=M.length):(M++[x]).set j y=M++[y]:=by
 subst h;rw[List.set_append_right _ _ (Qt _),Nat.sub_self];rfl
def Ap {n:Nat}(B:∀s M,bV m s->ag P (n+2) 24 [d.d,aj s] M=.ok (aj (bx d s)) M)(hm:aA m)(H:k (.fn (aB M.length)) (M++[eI m d])) :
 ae (kj 77 1 (.one 0) (bT (aa 2)) (jC (aa 0) (ai 24 (ag P (n+2)) #[aa 1,aa 0])) [some d.d,y,some (.lst ((aL m).map aj))] M) k:=by
 refine Hu ?_;simp only[iC,bo];refine{_,rfl,rfl,?_};have bl:=dD hm;have nd:=u1 m.words m.places;refine eZ (λi h v=>h=[.fn (aB M.length)]/\v=M++[.int 77::((aL m).take i).map λs=>.tup [aj s,aj (bx d s)]]) (λ_ _ _ _=>rfl) {rfl,`s} ?_ ?_
 ·rintro i x h v hd ⟨rfl,rfl⟩;rw[QO] at hd;cases e:(aL m)[i]? with
  |none=>rw[e] at hd;cases hd
  | some s =>
    rw[e] at hd;have hd:=Qw hd;subst hd;have hs:=gj s (Q9 e);simp only[cn,a8,ie];refine{_,rfl,?_};have F:(M++[.int 77::((aL m).take i).map λs=>D.tup [aj s,aj (bx d s)]])[M.length]?=some (.int 77::((aL m).take i).map λs=>D.tup [aj s,aj (bx d s)]):=`s
    refine Lf rfl ((a5 (af rfl (af rfl rfl))).trans (B s _ hs)) (pN F (.inl rfl)) (wd s) `o {rfl,?_}
    have none:cx (((aL m).take i).map λs=>.tup [aj s,aj (bx d s)]) (aj s)=Option.none:=by
     rw[oB aj λs=>aj (bx d s)];rw[SU.mpr];rfl;intro t I;rw[uX];intro z;have z:=of_decide_eq_true z;subst z;obtain⟨j,E⟩:=List.getElem?_of_mem I;have u:j<i:=by
      have:=(Qm.mp E).1;simp at this;omega
     rw[List.getElem?_take_of_lt u] at E;exact MR nd u E e
    rw[vM none];rw[show aB M.length-5000=M.length from RG _ _,s8 rfl,Rz,e];simp
 ·rintro h v ⟨rfl,rfl⟩;rw[Qn,RD (Qt _)];exact{_,rfl,H}
end
section
variable{Z:Env}{M:Mem}
def HY (e:a Z M=.ok x M):dU (.one i) a Z M=.ok (.next (Z.set i (some x))) M:=by
 unfold dU;rw[e];rfl
def dC (e:s Z M=.ok xs M):bw f c s Z M=c f xs M:=by
 unfold bw;rw[e]
end
noncomputable def bP (m:aC)(L:Nat):D:=.lst ((List.range m.deeds.length).map λi=>.tup [nD (cst m i),.fn (aB (L+i))])
def qE (e:m.deeds[i]?=some d):bC m i=d:=by
 unfold bC;rw[Rn,e];rfl
section
variable{P:Nat->Option Df}{M:Mem}{m:aC}
def sW (u:HasB0 P)(hr:jL P)(h15:P 15=some {1,6,bz})(h151:P 151=some {1,2,dz})(n:Nat)(hm:aA m):ag P (n+10) 151 [m.d] M=.ok (bP m M.length) (M++m.deeds.map (eI m)):=by
 refine ah (aE h151 rfl ?_);refine bJ (HY ((dC (af rfl rfl)).trans (gV u h15 n hm))) ?_;simp only[aJ,dA,dg,iC,gG,bo,eA];refine{_,rfl,_,rfl,rfl,?_};have d6:=hm.d6;refine comp_map (λi h j=>h=(List.range i).map (λi=>.tup [nD (cst m i),.fn (aB (M.length+i))])/\j=M++(m.deeds.take i).map (eI m)) (ay `o) (λ_ _ _ _=>rfl) {rfl,`s} ?_ ?_
 ·rintro i x h j hd _ ⟨rfl,rfl⟩;rw[QO] at hd;cases e:m.deeds[i]? with
  |none=>rw[e] at hd;cases hd
  | some d =>
    rw[e] at hd;have hd:=Qw hd;subst hd;have v:=(Qm.mp e).1;have hok:=hm.ok d (Q9 e);refine{_,rfl,?_};simp only[iL,bS,gG,bo,xZ,eA,cT];refine{_,rfl,_,rfl,nD d.cost,mj,?_};refine Ap (λs M hs=>vD hr (n+7) hm hok hs) hm {ay (n:=2) `d,?_,?_}
    ·have l:(M++(m.deeds.take i).map (eI m)).length=M.length+i:=by simp;omega
     rw[l,List.range_succ,Q8];have c:cst m i=d.cost:=by unfold cst;rw[qE e]
     rw[<- c];rfl
    ·rw[Rz,e];simp
 ·rintro h j _ ⟨rfl,rfl⟩;rw[Qn,RD (Qt _)];exact bE.mpr {ay `o,rfl,rfl}
end
section
variable{Z ρ':Env}{M M':Mem}{a b d:GE}{t rest:GS}{kf:Fl->Mem->Prop}
def c7 (e:t Z M=.ok (.next ρ') M')(h:ae (rest ρ' M') kf):ae (aY t rest Z M) kf:=by
 rw[aJ,e];exact h
def LB (h:a Z M=.ok x M)(j:b Z M=.ok (.fn o) M)(e:inD M o x=some r):jb n a b Z M=.ok (.bl (n != r)) M:=by
 unfold jb;rw[h];show(b Z M).bind _=_;rw[j];show(match inD M o x with|some r=>Res.ok (D.bl (n != r)) M|none=>.bad)=_
 rw[e]
def HE (h:a Z M=.ok (.fn o) M)(e:bq M o=some q):ny a Z M=.ok (nD q.2.length) M:=by
 unfold ny;rw[h];show(match bq M o with|some q=>Res.ok (D.int q.2.length) M|none=>.bad)=_
 rw[e]
def LY (h:a Z M=.ok (.cell j) M)(hd:d Z M=.ok z M)(e:M[j]?=some ds)(hl:ds.length<sz):i3 a d Z M=.ok (.next Z) (M.set j (ds++[z])):=by
 unfold i3;rw[h];show(d Z M).bind _=_;rw[hd];show(match M[j]? with|some ds=>if ds.length<sz then Res.ok (Fl.next Z) (M.set j (ds++[z])) else .bad|none=>.bad)=_
 rw[e];exact if_pos hl
def KZ {i j:Int}(h1:a Z M=.ok (.int i) M)(h2:b Z M=.ok (.int j) M):au (aK .gt a b) Z M=.ok (decide (j<i)) M:=by
 refine dt (kG.mpr (fw.mpr ?_));rw[h1,bg,h2,bg];exact{_,rfl,_,rfl,rfl,rfl}
def Nj {i:Int}(ha:a Z M=.ok (.int i) M)(h1:z.length<=1000)(h2:y.length<=1000)(h3:i.natAbs<2^64):uy z y a Z M=.ok (.str (z++(toString i:Str)++y)) M:=by
 unfold uy;rw[ha];exact if_pos ⟨h1,h2,h3⟩
end
abbrev r6:=List (aH×Nat×List Nat)
set_option tactic.hygienic true in
def qz (I:Nat->Env->Mem->Prop)(X:Fl->Mem->Prop)(B:∀fl M,X fl M->∀Z,fl≠.next Z)(F:∀i Z M,I i Z M->w M=some ds)(y:∀fl M,X fl M->w M=some ds)(z:I 0 Z M)
 (hs:∀i d Z M,ds[i]?=some d->I i Z M->∃j,bL t d Z=some j/\ae (gb j M) λfl M=>(∃ρ',fl=.next ρ'/\I (i+1) ρ' M)\/X fl M) (E:∀Z M,I ds.length Z M->kf (.next Z) M) (H:∀fl M,X fl M->kf fl M) :
 ae (cF (hV t gb) w (.next Z) M) kf:=by
 refine eZ (λi fl M=>(∃Z,fl=.next Z/\I i Z M)\/X fl M) (λi fl M h=>h.elim (λ⟨Z,_,h⟩=>F i Z M h) λh=>y fl M h) (.inl ⟨Z,rfl,z⟩) ?_ ?_
 ·rintro i d fl M hd (⟨Z,rfl,v⟩|u)
  ·obtain⟨j,e,h⟩:=hs i d Z M hd v;simp only[hV,a8,ie,e];exact⟨j,rfl,h⟩
  ·cases fl with
   |next Z=>exact absurd rfl (B _ _ u Z)
   |ret d=>exact .inr u
   |exc x Z=>exact .inr u
 ·rintro fl M (⟨Z,rfl,v⟩|u)
  ·exact E Z M v
  ·exact H fl M u
structure NW (p:Nat) (E0:r6) (S:aH->Prop) (N:r6):Prop where
 nd:((E0++N).map (·.1)).Nodup
 fr:∀x∈N,S x.1/\x.2.1=p/\x.2.2.length<=p
 al:∀b,S b->b∈(E0++N).map (·.1)
def rZ (p:Nat)(E0:r6)(S:aH->Prop):Prop:=∃N:r6,((E0++N).map (·.1)).Nodup/\(∀x∈N,S x.1/\x.2.1=p)/\255<(E0++N).length
def rZ.mono (h:rZ p E0 S)(hs:∀b,S b->S' b):rZ p E0 S':=let⟨N,h1,h2,h3⟩:=h;{N,h1,λx j=>{hs _ (h2 x j).1,(h2 x j).2},h3}
def NW.old (h:NW p E0 S N)(hs:∀x,S' x↔S x\/x=b)(u:∃e∈E0++N,e.1=b):NW p E0 S' N:=
 {h.nd,λx j=>{(hs _).mpr (.inl (h.fr x j).1),(h.fr x j).2},λc v=>by
  rcases(hs c).mp v with z|z
  ·exact h.al c z
  ·obtain⟨e,y,B⟩:=u;rw[z,<- B];exact RE y}
def NW.new (h:NW p E0 S N)(hs:∀x,S' x↔S x\/x=b)(v:∀e∈E0++N,e.1≠b)(hr:r.length<=p):NW p E0 S' (N++[(b,p,r)]):=by
 refine{?_,λx j=>?_,λc B=>?_}
 ·rw[<- R5,Q8,List.nodup_append];refine{h.nd,`s,λx j y u e=>?_}
  obtain⟨z,E,rfl⟩:=QC.mp j;have u:y=b:=by simpa using u
  exact v z E (e.trans u)
 ·rcases Rw.mp j with z|z
  ·exact{(hs _).mpr (.inl (h.fr x z).1),(h.fr x z).2}
  ·obtain rfl:=QN.mp z;exact{(hs _).mpr (.inr rfl),rfl,hr}
 ·rw[<- R5,Q8];rcases(hs c).mp B with z|z
  ·exact Rv _ (h.al c z)
  ·exact Rj _ (by rw[z];exact QN.mpr rfl)
def vd (M:Mem)(fk:Nat)(x:D)(A:List aH):Prop:=x=.lst (A.map bD)\/∃c,x=.cell c/\c≠fk/\M[c]?=some (A.map bD)
def Hr:∀{k i:Nat}{d:D},(eY k ds)[i]?=some d->∃x,ds[i]?=some x/\d=.tup [nD (k+i),x]:=by
 induction ds with
 |nil=>intro k i d h;simp[eY] at h
 | cons a ds j =>
   intro k i d h;cases i with
   |zero=>cases h;exact⟨a,rfl,rfl⟩
   | succ i =>
     obtain⟨x,h1,h2⟩:=j h;exact{x,h1,by rw[h2,Sj,Nat.add_comm 1 i]}
def oM:∀{ds:List D}{k:Nat},(eY k ds).length=ds.length
 |[],_=>rfl
 |_::ds,k=>by show(eY (k+1) ds).length+1=ds.length+1;rw[oM]
def iQ (m:aC)(p:Nat)(Ls:Nat->List aH)(i:Nat):List aH:=if cst m i<=p then Ls (p-cst m i) else []
def jo (m:aC)(p:Nat)(Ls:Nat->List aH)(i:Nat)(b:aH):Prop:=∃h,h<i/\b∈(iQ m p Ls h).map (aO m h)
noncomputable def pr (e:aH×Nat×List Nat):aH×Nat:=(e.1,e.2.1)
section
variable{m:aC}{p:Nat}{E0 N:r6}{Ls:Nat->List aH}
def mY (E:r6):(E.map pr).map (·.1)=E.map (·.1):=by rw[QZ];rfl
set_option tactic.hygienic true in
def uO (hm:aA m)(u:∀q,q<p->∀b,b∈Ls q↔bH m q b)(b:aH):jo m p Ls m.deeds.length b↔∃i j,i<m.deeds.length/\cst m i<=p/\bH m (p-cst m i) j/\b=aO m i j:=by
 constructor
 ·rintro⟨i,v,h⟩;have c:=kv hm v;obtain⟨j,y,rfl⟩:=QC.mp h;unfold iQ at y;split at y
  ·next z=>exact{i,j,v,z,(u _ `a j).mp y,rfl}
  ·exact nomatch y
 ·rintro⟨i,j,v,z,hl,rfl⟩;have c:=kv hm v;refine{i,v,RE ?_};unfold iQ;rw[if_pos z];exact(u _ `a j).mpr hl
def nV (hm:aA m)(v:0<p)(h:∀q,q<p->∀b,b∈Ls q↔bH m q b)(j:fA m p (E0.map pr))(nd:((E0++N).map (·.1)).Nodup)(B:x∈N)(u:jo m p Ls m.deeds.length x.1):bH m p x.1:=by
 refine(kZ hm v).mpr {(uO hm h _).mp u,λq y hl=>?_};have z:=j.all q x.1 y hl;have E:x.1∈E0.map (·.1):=by rw[<- mY];exact RE z
 rw[Q8,List.nodup_append] at nd;exact nd.2.2 _ E _ (RE B) rfl
def Ha (hm:aA m)(E:0<p)(v:∀q,q<p->∀b,b∈Ls q↔bH m q b)(B:fA m p (E0.map pr))(u:NW p E0 (jo m p Ls m.deeds.length) N):fA m (p+1) ((E0++N).map pr)/\∀b,b∈N.map (·.1)↔bH m p b:=by
 have fl:=λx j=>nV hm E v B u.nd j (u.fr x j).1;have back:∀b,bH m p b->∃x∈N,x.1=b:=λb hl=>by
  have F:=(uO hm v b).mpr ((kZ hm E).mp hl).1;obtain⟨x,j,e⟩:=QC.mp (u.al b F);rcases Rw.mp j with z|z
  ·have s:=B.sound (pr x) (RE z);have s1:=e ▸ s.1;have:=xN s1 hl;omega
  ·exact⟨x,z,e⟩
 refine{{by rw[mY];exact u.nd,λy H=>?_,λq b I hl=>?_},λb=>{λh=>?_,λh=>?_}}
 ·obtain⟨x,j,rfl⟩:=QC.mp H;rcases Rw.mp j with z|z
  ·have s:=B.sound (pr x) (RE z);exact{s.1,Sq s.2}
  ·have e:x.2.1=p:=(u.fr x z).2.1;exact{by show bH m x.2.1 x.1;rw[e];exact fl x z,by show x.2.1<p+1;omega}
 ·rcases Si q p with z|z
  ·rw[Q8];exact Rv _ (B.all q b z hl)
  ·have:q=p:=`a
   subst this;obtain⟨x,j,rfl⟩:=back b hl;rw[Q8];refine Rj _ (QC.mpr {x,j,?_});show(x.1,x.2.1)=_;rw[(u.fr x j).2.1]
 ·obtain⟨x,j,rfl⟩:=QC.mp h;exact fl x j
 ·obtain⟨x,j,rfl⟩:=back b h;exact RE j
def Cw (hm:aA m)(u:0<p)(h:∀q,q<p->∀b,b∈Ls q↔bH m q b)(j:fA m p (E0.map pr))(E:rZ p E0 (jo m p Ls m.deeds.length)):qQ m (p+1):=by
 obtain⟨N,nd,fr,hl⟩:=E;refine{(E0++N).map pr,by rw[mY];exact nd,λy B=>?_,by rw[Qn];exact hl}
 obtain⟨x,v,rfl⟩:=QC.mp B;rcases Rw.mp v with z|z
 ·have s:=j.sound (pr x) (RE z);exact{s.1,Sq s.2}
 ·have e:x.2.1=p:=(fr x z).2;exact{by show bH m x.2.1 x.1;rw[e];exact nV hm u h j nd z (fr x z).1,by show x.2.1<p+1;omega}
def qQ.mono (h:qQ m p)(u:p<=q):qQ m q:=let⟨l,h1,h2,h3⟩:=h;{l,h1,λx j=>{(h2 x j).1,QT (h2 x j).2 u},h3}
end
noncomputable def lsN (Ls:Nat->List aH)(p:Nat)(A:List aH):Nat->List aH:=λq=>if q=p then A else Ls q
set_option tactic.hygienic true in
def yH {c:GT}{b:GS}{y:Fl->Mem->Prop}(I:Nat->Env->Mem->Prop)
 (hs:∀k Z M,I k Z M->ae (c Z M) λv M1=>(v=false->y (.next Z) M1)/\(v=true->∃k',k=k'+1/\ae (b Z M1) λfl j=>(∃ρ',fl=.next ρ'/\I k' ρ' j)\/((∀ρ',fl≠.next ρ')/\y fl j))) :
 ∀(n k:Nat) (Z:Env) (M:Mem),k<n->I k Z M->ae (jW c b n Z M) y:=by
 intro n;induction n with
 |zero=>intro k Z M h;exact absurd h (Sn _)
 | succ n E =>
   intro k Z M h B;unfold jW;refine a8.mpr (aU (hs k Z M B) λv M1 ⟨h1,h2⟩=>?_);cases v with
   |false=>exact h1 rfl
   | true =>
     obtain⟨k',rfl,h3⟩:=h2 rfl;rw[if_pos rfl];refine a8.mpr (aU h3 λfl j h4=>?_);rcases h4 with⟨ρ',rfl,u⟩|⟨u,z⟩
     ·exact E k' ρ' j `a u
     ·cases fl with
      |next ρ'=>exact absurd rfl (u ρ')
      |ret d=>exact z
      |exc x ρ'=>exact z
def Cb {c:GT}{b:GS}{Z:Env}{M:Mem}{j:Fl->Mem->Prop}(I:Nat->Env->Mem->Prop)
 (hs:∀k Z M,I k Z M->ae (c Z M) λv M1=>(v=false->j (.next Z) M1)/\(v=true->∃k',k=k'+1/\ae (b Z M1) λfl u=>(∃ρ',fl=.next ρ'/\I k' ρ' u)\/((∀ρ',fl≠.next ρ')/\j fl u))) {k:Nat} (y:k<100000) (h:I k Z M):ae (lV c b Z M) j:=yH I hs 100000 k Z M y h
section
variable{M:Mem}{m:aC}{L0 lv fk p:Nat}{E0:r6}{lvs:List D}{Ls:Nat->List aH}{Z:Env}
def Km {x:D}{A:List aH}(h:vd M fk x A):n6 M x=some (!A.isEmpty):=by
 rcases h with rfl|⟨c,rfl,_,e⟩
 ·show some (!(A.map bD).isEmpty)=_;rw[List.isEmpty_map]
 ·show(M[c]?).map (λxs=>!xs.isEmpty)=_;rw[e];show some (!(A.map bD).isEmpty)=_;rw[List.isEmpty_map]
def vo {M:Mem}{g:Nat->Bool}:∀{l:List D}{k:Nat},(∀i x,l[i]?=some x->n6 M x=some (g (k+i)))->jr M l=some ((List.range l.length).map λi=>g (k+i))
 |[],_,_=>rfl
 | a :: l, k, h => by
   show(n6 M a).bind (λb=>(jr M l).map (b::·))=_;have j:=h 0 a rfl;have h1:=vo (l:=l) (k:=k+1) (M:=M) (g:=g) λi x u=>by
    have:=h (i+1) x u;rw[this,Sj,Nat.add_comm 1 i]
   rw[j,h1,RV,List.range_succ_eq_map,RI,QZ];show some (g (k+0)::_)=_
   congr 2
   refine Rr λi _=>?_;show g (k+1+i)=g (k+(i+1));rw[Sj,Nat.add_comm 1 i]
end
section
variable{Z:Env}{M M':Mem}{kf:Fl->Mem->Prop}
def nN (e:a Z M=.ok x M'):dU (.one i) a Z M=.ok (.next (Z.set i (some x))) M':=by
 unfold dU;rw[e];rfl
def cX (e:a Z M=.ok x M'):ax (.one i) a Z M=.ok (.next (Z.set i (some x))) M':=by
 unfold ax;rw[e];rfl
def HZ (u:a Z M=.ok (.cell j) M)(h:fb (d Z M) (λz M1=>∃ds,M1[j]?=some ds/\ds.length<sz/\kf (.next Z) (M1.set j (ds++[z]))) (λx M1=>kf (.exc x Z) M1)):ae (mW a d Z M) kf:=by
 unfold mW;rw[u];show ae (sH (λz M=>match M[j]? with|some ds=>if ds.length<sz then Res.ok (Fl.next Z) (M.set j (ds++[z])) else .bad|none=>.bad) Z (d Z M)) kf
 cases e:d Z M with
 |bad=>rw[e] at h;exact h.elim
 |err x M1=>rw[e] at h;exact h
 | ok z M1 =>
   rw[e] at h;obtain⟨ds,e1,hl,h⟩:=h;show ae (match M1[j]? with|some ds=>if ds.length<sz then Res.ok (Fl.next Z) (M1.set j (ds++[z])) else .bad|none=>.bad) kf
   rw[e1];show ae (if ds.length<sz then Res.ok (Fl.next Z) (M1.set j (ds++[z])) else .bad) kf
   rw[if_pos hl];exact h
end
noncomputable def fZ {α:Type}(k:α->aH)(v:α->D)(E:List α):List D:=.int 78::E.map λe=>.tup [bD (k e),v e]
section
variable{α:Type}{k:α->aH}{v:α->D}{E:List α}{M:Mem}{j:Nat}{b:aH}{x:α}
def iV:cx (E.map λe=>.tup [bD (k e),v e]) (bD b)=(E.find? λe=>decide (k e=b)).map v:=by
 refine(oB (λe=>bD (k e)) v E (bD b)).trans ?_
 congr 2
 funext x
 exact Fg _ b
def fc (e:M[j]?=some (fZ k v E)):bq M (aB j)=some (78,E.map λe=>.tup [bD (k e),v e]):=pN e (.inr rfl)
def E7 (e:M[j]?=some (fZ k v E)):inD M (aB j) (bD b)=some (E.any λe=>decide (k e=b)):=by
 unfold inD;rw[fc e];show(if isKey 78 (bD b)=true then some (cx _ (bD b)).isSome else none)=_;rw[if_pos (la b),iV,R3]
 congr 1
 rw[RC,List.find?_isSome,SJ]
def Lx (hn:∀e∈E,k e≠b):putD (E.map λe=>.tup [bD (k e),v e]) (bD b) z=(E.map λe=>.tup [bD (k e),v e])++[.tup [bD b,z]]:=by
 refine vM ?_;rw[iV,SU.mpr];rfl;exact λx h e=>hn x h (of_decide_eq_true e)
def wy:∀{E:List α},(E.map k).Nodup->∀{x:α},x∈E->(E.find? λe=>decide (k e=k x))=some x
 |[],_,_,h=>nomatch h
 | a :: E, nd, x, h => by
   rw[RI,RY] at nd;rw[List.find?_cons];by_cases e:k a=k x
   ·rw[decide_eq_true e];rcases Q1.mp h with z|z
    ·rw[z]
    ·exact absurd (by rw[e];exact RE z) nd.1
   ·rw[decide_eq_false e];rcases Q1.mp h with z|z
    ·exact absurd (by rw[z]) e
    ·exact wy nd.2 z
def AW (e:M[j]?=some (fZ k v E))(nd:(E.map k).Nodup)(h:x∈E):getD M (aB j) (bD (k x))=some (v x):=by
 unfold getD;rw[fc e];show(if isKey 78 (bD (k x))=true then cx _ (bD (k x)) else none)=_;rw[if_pos (la _),iV,wy nd h];rfl
def wx {a b d:GE}{x z:D}(hd:d Z M=.ok z M1)(h:a Z M1=.ok (.fn o) M1)(u:b Z M1=.ok x M1)(e:bq M1 o=some q)(y:isKey q.1 x=true)(hl:q.2.length<1000000):iD a b d Z M=.ok (.next Z) (M1.set (o-5000) (.int q.1::putD q.2 x z)):=by
 unfold iD;rw[hd];show(a Z M1).bind _=_;rw[h];show(b Z M1).bind _=_;rw[u];show(match bq M1 o with|some q=>if isKey q.1 x=true/\q.2.length<1000000 then Res.ok (Fl.next Z) (M1.set (o-5000) (.int q.1::putD q.2 x z)) else .bad|none=>.bad)=_
 rw[e];exact if_pos ⟨y,hl⟩
def Dk {M1:Mem}{a b d:GE}(hd:d Z M=.ok (v x) M1)(h:a Z M1=.ok (.fn (aB j)) M1)(u:b Z M1=.ok (bD (k x)) M1)(e:M1[j]?=some (fZ k v E))(hl:E.length<1000000)(hn:∀e∈E,k e≠k x):iD a b d Z M=.ok (.next Z) (M1.set j (fZ k v (E++[x]))):=by
 rw[wx hd h u (fc e) (la _) (by rw[Qn];exact hl),show aB j-5000=j from RG _ _,Lx hn]
 unfold fZ;rw[Q8];rfl
def LZ (h:(true != E.any λe=>decide (k e=b))=true):∀e∈E,k e≠b:=λe u z=>by
 rw[show(E.any λe=>decide (k e=b))=true from List.any_eq_true.mpr {e,u,decide_eq_true z}] at h;cases h
def H8 (h:(true != E.any λe=>decide (k e=b))=false):∃e∈E,k e=b:=by
 cases z:(E.any λe=>decide (k e=b)) with
 | true =>
   obtain⟨e,u,y⟩:=SJ.mp z;exact{e,u,of_decide_eq_true y}
 |false=>rw[z] at h;cases h
end
def dI (m:aC)(r:List Nat)(b:aH)(q:Nat):Prop:=(∀i∈r,i<m.deeds.length)/\ends m r=b/\d5 m r=q
section
variable{m:aC}{r:List Nat}{b:aH}{q i:Nat}
def dI.nil:dI m [] (aL m) 0:={(λ_ h=>nomatch h),List.map_id _,rfl}
def dI.snoc (h:dI m r b q)(hi:i<m.deeds.length):dI m (r++[i]) (aO m i b) (q+cst m i):=by
 refine{λk u=>?_,?_,?_}
 ·rcases Rw.mp u with z|z
  ·exact h.1 k z
  ·rw[QN.mp z];exact hi
 ·rw[<- h.2.1];unfold ends aO;rw[QZ];exact Rr λs _=>oO r [i] s
 ·rw[<- h.2.2];show((r++[i]).map _).sum=_;rw[Q8,List.sum_append];rfl
def uK (hm:aA m):∀r:List Nat,(∀i∈r,i<m.deeds.length)->r.length<=d5 m r
 |[],_=>RX _
 | a :: r, h => by
   have c:=(kv hm (h a QB)).1;have t:=uK hm r λi u=>h i (Qu _ u);show r.length+1<=cst m a+d5 m r;omega
def dI.len (hm:aA m)(h:dI m r b q):r.length<=q:=h.2.2 ▸ uK hm r h.1
def dI.rch (h:dI m r b q):gn m q b:=by
 obtain⟨h1,rfl,rfl⟩:=h
 suffices z:∀(u:List Nat),(∀i∈u,i<m.deeds.length)->∀(b:aH) (q:Nat),gn m q b->gn m (q+d5 m u) (b.map (dB m u)) by
  have:=z r h1 (aL m) 0 .start;rw[Nat.zero_add] at this;exact this
 intro u;induction u with
 |nil=>intro _ b q h;rw[show b.map (dB m [])=b from List.map_id b];exact h
 | cons a u B =>
   intro h1 b q h;have:=B (λi y=>h1 i (Qu _ y)) _ _ (h.step (h1 a QB));rw[show d5 m (a::u)=cst m a+d5 m u from rfl,<- Sj];rw[show b.map (dB m (a::u))=(aO m a b).map (dB m u) from by unfold aO;rw[QZ];rfl]
   exact this
end
abbrev F3:=List (aH×Nat×Nat)
noncomputable def vC (e:aH×Nat×Nat):D:=.tup [nD e.2.1,.cell e.2.2]
def jQ (E:F3):List D:=fZ (·.1) vC E
def un (E:F3):r6:=E.map λe=>(e.1,e.2.1,[])
def qb (E:F3):(un E).map (·.1)=E.map (·.1):=by unfold un;rw[QZ];rfl
def lR (E N:F3):un (E++N)=un E++un N:=Q8
def IC (E:F3):(un E).length=E.length:=Qn _
def yN:(∃e∈un E,e.1=b)↔∃e∈E,e.1=b:=by
 constructor
 ·rintro⟨x,j,rfl⟩;obtain⟨e,h,rfl⟩:=QC.mp j;exact⟨e,h,rfl⟩
 ·rintro⟨e,h,rfl⟩;exact{_,RE h,rfl}
structure jU (B0:Nat) (M0 M:Mem) (m:aC) (lv fk:Nat) (E:F3) (L:List aH):Prop where
 f:M[fk]?=some (jQ E)
 fl:fk<M0.length
 ll:lv<M0.length
 lo:B0<=M0.length
 l:M[M0.length]?=some (L.map bD)
 r:∀e∈E,(∃r,M[e.2.2]?=some (r.map nD)/\dI m r e.1 e.2.1)/\e.2.2≠fk/\e.2.2≠M0.length/\e.2.2≠lv/\B0<=e.2.2
 k:bf fk M0 M
 nd:(E.map (·.1)).Nodup
def tZ (c:Call):GS:=#v[ax (.one 10) (ai 152 c #[aa 7,aa 9]),a7 (au (jb true (aa 10) (aa 2))) #v[iD (aa 2) (aa 10) (aZ #[aa 3,ak true .add (av (cZ (aa 2) (aa 9)) (gI 1)) (bR false #[aa 5])]),i3 (aa 4) (aa 10),a7 (au (aK .gt (ny (aa 2)) (gI 255))) #v[fG 8 #[uy "rows have more than " " behaviours" (gI 255)]] aT] aT]
def ez {M:Mem}(e:M[k]?=some x):k<M.length:=(Qm.mp e).1
def cL (h:a Z M=.ok x M1)(es:s Z M1=.ok xs M2):dY a s Z M=.ok (x::xs) M2:=by
 unfold dY;rw[h];show(s Z M1).bind _=_;rw[es];rfl
def qJ (h:a Z M=.ok x M)(j:b Z M=.ok y M):ak k o a b Z M=fE k o x y M:=by
 unfold ak;rw[h];show(b Z M).bind _=_;rw[j];rfl
def dS (e:s Z M=.ok xs M1)(hl:xs.length<=100):aZ s Z M=.ok (.tup xs) M1:=by
 unfold aZ;rw[e];exact if_pos (ay `a)
section
variable{P:Nat->Option Df}{M0 M:Mem}{m:aC}{lk lv fk p i B0:Nat}{E:F3}{L:List aH}{b:aH}{x0 x1 x6 x8 x10:Option D}
def LQ (h152:P 152=some {2,2,dE})(n:Nat)(hm:aA m)(hE:E.length<=255)(s:jU B0 M0 M m lv fk E L)(hL:L.length<=255)(ek:M[lk]?=some (eI m (bC m i)))(hp:p<=900)(hi:i<m.deeds.length)
 (hl:b.length<=16) (hb:∀s∈b,bV m s) (O:∃e∈E,e.1=b/\e.2.1+cst m i=p) :
 ae (tZ (ag P (n+1)) [x0,x1,some (.fn (aB fk)),some (nD p),some (.cell M0.length),some (nD i),x6,some (.fn (aB lk)),x8,some (bD b),x10] M) λfl M'=>
  ((∃e∈E,e.1=aO m i b)/\M'=M/\fl=.next [x0,x1,some (.fn (aB fk)),some (nD p),some (.cell M0.length),some (nD i),x6,some (.fn (aB lk)),x8,some (bD b),some (bD (aO m i b))])\/
  ((∀ e ∈ E, e.1 ≠ aO m i b) /\ ∃ c, jU B0 M0 M' m lv fk (E ++ [(aO m i b, p, c)]) (L ++ [aO m i b]) /\
    ((E.length < 255 /\ fl = .next [x0, x1, some (.fn (aB fk)), some (nD p), some (.cell M0.length), some (nD i), x6, some (.fn (aB lk)), x8, some (bD b), some (bD (aO m i b))]) \/
     (E.length=255/\∃Z,fl=.exc (.exc 8 none) Z))):=by
 refine bJ (cj (x:=bD (aO m i b)) ((a5 (af rfl (af rfl rfl))).trans (zt h152 n ek hm hl hb))) ?_;refine bZ (cg (LB rfl rfl (E7 s.f))) (λI=>?_) λI=>.inl {H8 I,rfl,rfl};have B:=LZ I;obtain⟨e,W,S,ep⟩:=O;obtain⟨⟨r,er,ro⟩,_⟩:=s.r e W;have hr:=ro.len hm;have u:=ez s.l;have U:=AW s.f s.nd W;rw[S] at U;have e1:(M++[(r++[i]).map nD])[fk]?=some (jQ E):=by rw[QA (ez s.f)];exact s.f
 have ev:aZ #[aa 3,ak true .add (av (cZ (aa 2) (aa 9)) (gI 1)) (bR false #[aa 5])] [x0,x1,some (.fn (aB fk)),some (nD p),some (.cell M0.length),some (nD i),x6,some (.fn (aB lk)),x8,some (bD b),some (bD (aO m i b))] M=.ok (vC (aO m i b,p,M.length)) (M++[(r++[i]).map nD]):=by
  refine dS (cL rfl (cL ?_ rfl)) (QJ rfl);refine(qJ (bp (pK (x:=.non) rfl rfl U) rfl rfl) (Aj (af rfl rfl) (QJ rfl))).trans ?_;show(match M[e.2.2]?,(some [nD i]:Option (List D)) with|some x,some y=>ba true (x++y) M|_,_=>.bad)=_
  rw[er];show(if (r.map nD++[nD i]).length<=sz then _ else _)=_;rw[if_pos (ay `o),Q8];rfl
 refine c7 (M':=(M++[(r++[i]).map nD]).set fk (jQ (E++[(aO m i b,p,M.length)]))) (Dk ev rfl rfl e1 `a B) ?_
 have X:=QW s.fl;have F:((M++[(r++[i]).map nD]).set fk (jQ (E++[(aO m i b,p,M.length)])))[M0.length]?=some (L.map bD):=by rw[QH X,QA u];exact s.l
 refine c7 (LY rfl rfl F (by rw[Qn];exact Sx hL `d)) ?_
 generalize v:((M++[(r++[i]).map nD]).set fk (jQ (E++[(aO m i b,p,M.length)]))).set M0.length (L.map bD++[bD (aO m i b)])=M';have old:∀{j:Nat}{x:List D},j≠fk->j≠M0.length->M[j]?=some x->M'[j]?=some x:=λ{j x} h1 h2 e=>by
  rw[<- v,QH (Ru h2),QH (Ru h1),QA (ez e)];exact e
 have s2:jU B0 M0 M' m lv fk (E++[(aO m i b,p,M.length)]) (L++[aO m i b]):=by
  refine{?_,s.fl,s.ll,s.lo,?_,λY J=>?_,{?_,λj hj n=>?_},?_}
  ·rw[<- v,QH (Ru X),Rk (by simp;exact Sq (ez s.f))]
  ·rw[<- v,Rk `o,Q8];rfl
  ·rcases Rw.mp J with z|z
   ·obtain⟨⟨r',H,R⟩,k1,k2,k3⟩:=s.r Y z;exact{{r',old k1 k2 H,R},k1,k2,k3}
   ·obtain rfl:=QN.mp z;refine{{r++[i],?_,?_},Rt (ez s.f),Rt u,Rt (Nat.lt_trans s.ll u),QF s.lo (Sy u)}
    ·rw[<- v,QH (QW u),QH (QW (ez s.f))];simp
    ·have:=ro.snoc hi;rw[ep,S] at this;exact this
  ·rw[<- v];have:=s.k.len;simp;omega
  ·rw[<- v,QH `a,QH (Ru n),QA `a];exact s.k.at' j hj n
  ·rw[Q8,List.nodup_append];exact{s.nd,`s,λx hx y Q z=>by
    obtain⟨w,hw,rfl⟩:=QC.mp hx;have Q:y=aO m i b:=by simpa using Q
    exact B w hw (z.trans Q)}
 refine bZ (KZ (HE rfl (fc s2.f)) rfl) (λh=>?_) λh=>?_
 ·have h:=of_decide_eq_true h;simp only[aJ,Cc];refine bS.mpr ?_;rw[Nj rfl `d `d `d,bg]
  refine{ay `d,.inr {B,_,s2,.inr {?_,_,rfl}}}
  simp at h;omega
 ·have h:=of_decide_eq_false h;refine .inr {B,_,s2,.inl {?_,rfl}};simp at h;omega
end
section
variable{P:Nat->Option Df}{M0 M:Mem}{m:aC}{lk lv fk p i B0:Nat}{E0:F3}{A:List aH}{x8:D}{S:aH->Prop}{x0 x1 x6 x9 x10:Option D}
def wa (h:vd M0 fk x8 A)(k:bf fk M0 M):cv M x8=some (A.map bD):=by
 rcases h with rfl|⟨c,rfl,j,e⟩
 ·rfl
 ·exact k.get e j
def Hk (h152:P 152=some {2,2,dE})(n:Nat)(hm:aA m)(hi:i<m.deeds.length)(ek:M0[lk]?=some (eI m (bC m i)))(hk:lk≠fk)(R:vd M0 fk x8 A)(U:∀b∈A,∃e∈E0,e.1=b/\e.2.1+cst m i=p)(hok:∀b∈A,b.length<=16/\∀s∈b,bV m s)(hp:p<=900)
 (s:jU B0 M0 M m lv fk (E0++N) (N.map (·.1))) (h:NW p (un E0) S (un N)) (hl:(E0++N).length<=255)
 (k1:∀M' u J v,jU B0 M0 M' m lv fk (E0++u) (u.map (·.1))->NW p (un E0) (λb=>S b\/b∈A.map (aO m i)) (un u)->(E0++u).length<=255->kf (.next [x0,x1,some (.fn (aB fk)),some (nD p),some (.cell M0.length),some (nD i),x6,some (.fn (aB lk)),some x8,J,v]) M')
 (k2:∀Z M',bf fk M0 M'->rZ p (un E0) (λb=>S b\/b∈A.map (aO m i))->kf (.exc (.exc 8 none) Z) M') :
 ae (eF (.one 9) (bT (aa 8)) (tZ (ag P (n+1))) [x0,x1,some (.fn (aB fk)),some (nD p),some (.cell M0.length),some (nD i),x6,some (.fn (aB lk)),some x8,x9,x10] M) kf:=by
 simp only[jX,iC,bo];refine{_,rfl,by rcases R with rfl|⟨c,rfl,_⟩<;>rfl,?_}
 refine qz (ds:=A.map bD) (λj Z M'=>∃u J v,jU B0 M0 M' m lv fk (E0++u) (u.map (·.1))/\NW p (un E0) (λb=>S b\/b∈(A.take j).map (aO m i)) (un u)/\(E0++u).length<=255/\Z=[x0,x1,some (.fn (aB fk)),some (nD p),some (.cell M0.length),some (nD i),x6,some (.fn (aB lk)),some x8,J,v])
  (λfl M'=>(∃Z,fl=.exc (.exc 8 none) Z)/\bf fk M0 M'/\rZ p (un E0) (λb=>S b\/b∈A.map (aO m i))) ?_ ?_ ?_ {N,x9,x10,s,?_,hl,rfl} ?_ ?_ ?_
 ·rintro fl M' ⟨⟨Z,rfl⟩,_⟩ ρ' z;cases z
 ·rintro j Z M' ⟨u,_,_,I,_⟩;exact wa R I.k
 ·rintro fl M' ⟨_,k,_⟩;exact wa R k
 ·exact{h.nd,λx F=>{.inl (h.fr x F).1,(h.fr x F).2},λb L=>L.elim (h.al b) λz=>by simp at z}
 ·rintro j x Z M' hd ⟨u,J,v,I,Q,B,rfl⟩;rw[QO] at hd;cases e:A[j]? with
  |none=>rw[e] at hd;cases hd
  | some b =>
    rw[e] at hd;have hd:=Qw hd;subst hd;have L:=Q9 e;refine{_,rfl,?_};obtain⟨e0,W,eb,ep⟩:=U b L;have H:∀x,(S x\/x∈(A.take (j+1)).map (aO m i))↔((S x\/x∈(A.take j).map (aO m i))\/x=aO m i b):=λx=>by
     rw[Rz,e];simp[or_assoc]
    have O:∀x,(S x\/x∈(A.take (j+1)).map (aO m i))->(S x\/x∈A.map (aO m i)):=λx F=>F.imp id λz=>by
     obtain⟨y,hy,rfl⟩:=QC.mp z;exact RE (Sb hy)
    refine aU (LQ h152 n hm B I (by rw[Qn];simp at B;omega) (I.k.get ek hk) hp hi (hok b L).1 (hok b L).2 {e0,Rv _ W,eb,ep}) ?_
    rintro fl M' (⟨hin,rfl,rfl⟩|⟨hno,c,s2,hh⟩)
    ·exact .inl {_,rfl,u,_,_,I,Q.old H (by rw[<- lR];exact yN.mpr hin),B,rfl}
    ·have E:=Q.new H (r:=[]) (λx F z=>by
      rw[<- lR] at F;obtain⟨e2,X,z2⟩:=yN.mp ⟨x,F,z⟩;exact hno e2 X z2) (RX _)
     rw[show un u++[(aO m i b,p,[])]=un (u++[(aO m i b,p,c)]) from(lR u [(aO m i b,p,c)]).symm] at E;rw[R5,show u.map (·.1)++[aO m i b]=(u++[(aO m i b,p,c)]).map (·.1) from by rw[Q8];rfl] at s2
     rcases hh with⟨hlt,rfl⟩|⟨Y,Z,rfl⟩
     ·exact .inl {_,rfl,_,_,_,s2,E,by simp at hlt ⊢;omega,rfl}
     ·exact .inr {{_,rfl},s2.k,_,E.nd,λx F=>{O _ (E.fr x F).1,(E.fr x F).2.1},by rw[<- lR,IC];simp at Y ⊢;omega}
 ·rintro Z M' ⟨u,J,v,I,Q,B,rfl⟩;rw[Qn,RD (Qt _)] at Q;exact k1 M' u J v I Q B
 ·rintro fl M' ⟨⟨Z,rfl⟩,k,ov⟩;exact k2 Z M' k ov
end
structure lK (B0:Nat) (M:Mem) (m:aC) (L0 lv fk:Nat) (E:F3) (lvs:List D) (p:Nat) (Ls:Nat->List aH):Prop where
 f:M[fk]?=some (jQ E)
 l:M[lv]?=some lvs
 ne:lv≠fk
 len:lvs.length=p
 lvl:∀q x,lvs[q]?=some x->vd M fk x (Ls q)
 led:∀i,i<m.deeds.length->M[L0+i]?=some (eI m (bC m i))/\L0+i≠fk/\L0+i≠lv
 lvn:∀(q c:Nat),lvs[q]?=some (D.cell c)->c≠lv
 row:∀e∈E,(∃r,M[e.2.2]?=some (r.map nD)/\dI m r e.1 e.2.1)/\e.2.2≠fk/\e.2.2≠lv/\B0<=e.2.2
 lo:B0<=fk
 lss:∀q,q<p->∀b,b∈Ls q↔bH m q b
 all:fA m p ((un E).map pr)
 few:E.length<=255
def Eu (c:Call):GS:=#v[ax (.one 8) (g7 (au (aK .le (aa 6) (aa 3))) (av (aa 1) (ak false .sub (aa 3) (aa 6))) (bR false c9)),eF (.one 9) (bT (aa 8)) (tZ c)]
section
variable{P:Nat->Option Df}{M:Mem}{m:aC}{L0 lv fk p B0:Nat}{E0:F3}{lvs:List D}{Ls:Nat->List aH}
set_option tactic.hygienic true in
def B3 (hbn:∀c,bn c=#v[ax (.one 3) (aN .len #[aa 1]),ax (.one 4) (bR true c9),eF (.two 5 [6,7]) (iI (aa 0)) (Eu c),aS (aa 4)])(h152:P 152=some {2,2,dE})(hnx:P nx=some {3,11,bn})(n:Nat)(hm:aA m)(hp:p<=900)(s:lK B0 M m L0 lv fk E0 lvs p Ls) :
 fb (ag P (n+2) nx [bP m L0,.cell lv,.fn (aB fk)] M) (λd M'=>d=.cell M.length/\∃N,jU B0 M M' m lv fk (E0++N) (N.map (·.1))/\NW p (un E0) (jo m p Ls m.deeds.length) (un N)/\(E0++N).length<=255)
  (λx M'=>x=.exc 8 none/\rZ p (un E0) (jo m p Ls m.deeds.length)/\bf fk M M'):=by
 refine oQ hnx rfl ?_;show ae (bn (ag P (n+1)) [some (bP m L0),some (.cell lv),some (.fn (aB fk)),none,none,none,none,none,none,none,none] M) _;rw[hbn];have hf:=ez s.f;have hlv:=ez s.l;have X:(E0.map (·.1)).Nodup:=by have:=s.all.nd;rw[mY,qb] at this;exact this
 have el:aN .len #[aa 1] [some (bP m L0),some (.cell lv),some (.fn (aB fk)),none,none,none,none,none,none,none,none] M=.ok (nD p) M:=by
  refine ah (bU.mpr ?_);rw[af rfl rfl,bg];show ae (match M[lv]? with|some xs=>Res.ok (D.int xs.length) M|none=>.bad) _
  rw[s.l];exact{by show D.int (lvs.length:Int)=_;rw[s.len],rfl}
 refine bJ (cj el) ?_;refine c7 rfl ?_;rw[aJ];simp only[jX,Iq,bo];refine{_,rfl,rfl,?_};have start:jU B0 M (M++[[]]) m lv fk (E0++[]) []:=by
  rw[RZ];refine{by rw[QA hf];exact s.f,hf,hlv,QF s.lo (Sy hf),`s,λe U=>?_,bf.app,X}
  obtain⟨⟨r,er,ro⟩,h1,h2⟩:=s.row e U;have:=ez er;exact{{r,by rw[QA this];exact er,ro},h1,QW this,h2}
 have F:∀q,q<p->∀b∈Ls q,(∃e∈E0,e.1=b/\e.2.1=q)/\b.length<=16/\∀s∈b,bV m s:=λq Q b u=>by
  have lb:=(s.lss q Q b).mp u;have ok:=i6 hm lb.1;refine{?_,by rw[ok.1];exact dD hm,ok.2}
  have:=s.all.all q b Q lb;unfold un at this;rw[QZ] at this;obtain⟨e,U,z⟩:=QC.mp this;cases z;exact⟨e,U,rfl,rfl⟩
 refine qz (λi H M'=>∃N y5 y6 y7 Y y9 B,jU B0 M M' m lv fk (E0++N) (N.map (·.1))/\NW p (un E0) (jo m p Ls i) (un N)/\(E0++N).length<=255/\H=[some (bP m L0),some (.cell lv),some (.fn (aB fk)),some (nD p),some (.cell M.length),y5,y6,y7,Y,y9,B])
  (λfl M'=>(∃H,fl=.exc (.exc 8 none) H)/\bf fk M M'/\rZ p (un E0) (jo m p Ls m.deeds.length)) ?_ (λ_ _ _ _=>rfl) (λ_ _ _=>rfl) {[],none,none,none,none,none,none,start,?_,?_,rfl} ?_ ?_ ?_
 ·rintro fl M' ⟨⟨H,rfl⟩,_⟩ ρ' z;cases z
 ·exact{by rw[show un []=[] from rfl,RZ,qb];exact X,(λx I=>nomatch I),λb ⟨i,O,_⟩=>absurd O (Sn _)}
 ·rw[RZ];exact s.few
 ·rintro i x H M' I ⟨N,y5,y6,y7,Y,y9,B,s',nw,hl,rfl⟩;obtain⟨x2,J,rfl⟩:=Hr I;rw[QO] at J;have O:i<m.deeds.length:=by
   have:=(Qm.mp I).1;rw[oM] at this;simpa using this
  rw[SM O] at J;cases J;rw[Nat.zero_add];refine{_,rfl,?_};obtain⟨hk1,hk2,_⟩:=s.led i O;have cok:=kv hm O;have v:∀b,(jo m p Ls i b\/b∈(iQ m p Ls i).map (aO m i))↔jo m p Ls (i+1) b:=λb=>by
   constructor
   ·rintro(⟨j,hj,h⟩|h)
    ·exact{j,Sq hj,h}
    ·exact{i,Nat.lt_succ_self _,h}
   ·rintro⟨j,hj,h⟩;rcases Si j i with z|z
    ·exact .inl ⟨j,z,h⟩
    ·have:j=i:=`a
     subst this;exact .inr h
  have hx8:∃x8,g7 (au (aK .le (aa 6) (aa 3))) (av (aa 1) (ak false .sub (aa 3) (aa 6))) (bR false c9) [some (bP m L0),some (.cell lv),some (.fn (aB fk)),some (nD p),some (.cell M.length),some (nD i),some (nD (cst m i)),some (.fn (aB (L0+i))),Y,y9,B] M'=.ok x8 M'/\vd M fk x8 (iQ m p Ls i):=by
   have W:au (aK .le (aa 6) (aa 3)) [some (bP m L0),some (.cell lv),some (.fn (aB fk)),some (nD p),some (.cell M.length),some (nD i),some (nD (cst m i)),some (.fn (aB (L0+i))),Y,y9,B] M'=.ok (decide ((cst m i:Int)<=(p:Int))) M':=by
    exact dt (kG.mpr (fw.mpr (bo.mpr {_,rfl,bo.mpr {_,rfl,_,rfl,_,rfl,rfl,rfl}})))
   by_cases L:cst m i<=p
   ·have Q:p-cst m i<lvs.length:=by rw[s.len];omega
    refine{lvs[p-cst m i],iU W (λ_=>?_) (λz=>absurd `a (of_decide_eq_false z)),?_}
    ·refine bp (y:=nD (p-cst m i)) rfl ?_ ?_
     ·refine ah (jE.mpr (bo.mpr {_,rfl,bo.mpr {_,rfl,IY.mpr {?_,rfl}}}))
      congr 1;omega
     ·show(M'[lv]?).bind _=_;rw[s'.k.get s.l s.ne];show((bY lvs.length ((p-cst m i:Nat):Int)).bind λj=>lvs[j]?)=_;rw[eR Q];exact QE Q
    ·have:=s.lvl _ _ (QE Q);unfold iQ;rw[if_pos L];exact this
   ·refine{.lst [],iU W (λz=>absurd (of_decide_eq_true z) `a) (λ_=>Aj rfl `d),?_}
    unfold iQ;rw[if_neg L];exact .inl rfl
  obtain⟨x8,e8,l8⟩:=hx8;refine bJ (cj e8) ?_;rw[aJ];have R:∀b∈iQ m p Ls i,cst m i<=p/\b∈Ls (p-cst m i):=λb u=>by
   unfold iQ at u;split at u
   ·next L=>exact⟨L,u⟩
   ·exact nomatch u
  refine Hk h152 n hm O hk1 hk2 l8 (λb u=>?_) (λb u=>?_) hp s' nw hl (λM2 N' z9 z10 s2 E hl'=>?_) λH M2 k2 ov=>?_
  ·obtain⟨L,h2⟩:=R b u;obtain⟨e,U,eb,eq⟩:=(F _ `a b h2).1
   exact{e,U,eb,`a}
  ·obtain⟨L,h2⟩:=R b u;exact(F _ `a b h2).2
  ·refine .inl {_,rfl,N',_,_,_,_,_,_,s2,?_,hl',rfl};exact{E.nd,λx I=>{(v _).mp (E.fr x I).1,(E.fr x I).2},λb u=>E.al b ((v b).mpr u)}
  ·refine .inr {{_,rfl},k2,ov.mono λb u=>?_};obtain⟨j,hj,h⟩:=(v b).mp u;exact{j,`a,h}
 ·rintro H M' ⟨N,y5,y6,y7,Y,y9,B,s',nw,hl,rfl⟩;rw[oM,Qn,Rx] at nw;exact b7.mpr (cD rfl ⟨rfl,N,s',nw,hl⟩)
 ·rintro fl M' ⟨⟨H,rfl⟩,k,ov⟩;exact⟨rfl,ov,k⟩
end
section
variable{M M':Mem}{m:aC}{L0 lv fk p B0:Nat}{E0 N:F3}{lvs:List D}{Ls:Nat->List aH}{Z:Env}
set_option tactic.hygienic true in
def lK.next (hm:aA m)(I:0<p)(s:lK B0 M m L0 lv fk E0 lvs p Ls)(h:jU B0 M M' m lv fk (E0++N) (N.map (·.1)))(O:NW p (un E0) (jo m p Ls m.deeds.length) (un N))(hl:(E0++N).length<=255) :
 lK B0 (M'.set lv (lvs++[.cell M.length])) m L0 lv fk (E0++N) (lvs++[.cell M.length]) (p+1) (lsN Ls p (N.map (·.1))):=by
 obtain⟨h1,h2⟩:=Ha hm I s.lss s.all O;rw[qb] at h2;rw[<- lR] at h1;have J:=QT h.ll h.k.len;have old:∀{c:Nat}{x:List D},c≠fk->c≠lv->M[c]?=some x->(M'.set lv (lvs++[.cell M.length]))[c]?=some x:=λn1 n2 e=>by
  rw[QH (Ru n2)];exact h.k.get e n1
 refine{?_,Rk J,s.ne,by simp[s.len],λq x j=>?_,λi H=>?_,λq c u=>?_,λe F=>?_,s.lo,λq v b=>?_,h1,hl}
 ·rw[QH s.ne];exact h.f
 ·rcases Si q p with z|z
  ·rw[QA (by rw[s.len];exact z)] at j
   unfold lsN;rw[if_neg `a]
   rcases s.lvl q x j with y|⟨c,y,n1,e⟩
   ·exact .inl y
   ·exact .inr {c,y,n1,old n1 (s.lvn q c (y ▸ j)) e}
  ·have v:q=p:=by
    have:=(Qm.mp j).1;simp[s.len] at this;omega
   subst v;rw[QY (by rw[s.len];exact Qt _),s.len,Nat.sub_self] at j
   cases j;unfold lsN;rw[if_pos rfl];refine .inr {_,rfl,Rt h.fl,?_};rw[QH (QW h.ll)];exact h.l
 ·obtain⟨e1,e2,B⟩:=s.led i H;exact{old e2 B e1,e2,B}
 ·rcases Si q p with z|z
  ·rw[QA (by rw[s.len];exact z)] at u
   exact s.lvn q c u
  ·have v:q=p:=by
    have:=(Qm.mp u).1;simp[s.len] at this;omega
   subst v;rw[QY (by rw[s.len];exact Qt _),s.len,Nat.sub_self] at u
   cases u;exact Rt h.ll
 ·obtain⟨⟨r,er,ro⟩,n1,_,E,L⟩:=h.r e F;exact{{r,by rw[QH (Ru E)];exact er,ro},n1,E,L}
 ·unfold lsN;split
  ·next z=>rw[z];exact h2 b
  ·next z=>exact s.lss q `a b
def Bi (s:lK B0 M m L0 lv fk E0 lvs p Ls)(F:p<=900)(hi:Z[i]?.getD none=some (.cell lv)):∃b:Bool,au (qx (eV false true false (aa i) (gZ (gI 3)) gN)) Z M=.ok b M/\(b=false->∀q,q<p->p<=q+3->Ls q=[])/\(b=true->∃q,q<p/\p<=q+3/\Ls q≠[]):=by
 have y:eV false true false (aa i) (gZ (gI 3)) gN Z M=.ok (.lst (lvs.drop (p-3))) M:=by
  refine ah (su.mpr (bo.mpr {_,hi,xZ.mpr (eA.mpr {3,rfl,eA.mpr {rfl,rfl,?_}})}));show ae (match M[lv]? with|some xs=>(match aW xs.length 0 (.int (-3)),aW xs.length xs.length .non with|some l,some h=>ba false (cut xs l h) M|_,_=>.bad)|none=>.bad) _
  rw[s.l];show ae (ba false (cut lvs (-3+(lvs.length:Int)).toNat lvs.length) M) _;have hl:=s.len;have e1:(-3+(lvs.length:Int)).toNat=p-3:=`a
  have e2:cut lvs (p-3) lvs.length=lvs.drop (p-3):=by
   exact RD `s
  rw[e1,e2];exact bE.mpr {ay `o,rfl,rfl}
 refine{((List.range (lvs.drop (p-3)).length).map λj=>!(Ls (p-3+j)).isEmpty).any id,?_,λh q H E=>?_,λh=>?_}
 ·refine cg ?_;unfold qx;rw[y];show(match jr M (lvs.drop (p-3)) with|some bs=>Res.ok (D.bl (bs.any id)) M|none=>.bad)=_
  rw[vo (g:=λq=>!(Ls q).isEmpty) λj x u=>?_];rw[List.getElem?_drop] at u;exact Km (s.lvl _ x u)
 ·have z:=List.any_eq_false.mp h;have h1:=z (!(Ls q).isEmpty) (QC.mpr {q-(p-3),?_,?_})
  ·cases e:(Ls q) with
   |nil=>rfl
   |cons a l=>rw[e] at h1;exact absurd rfl h1
  ·rw[RT,List.length_drop,s.len];omega
  ·rw[show p-3+(q-(p-3))=q by omega]
 ·obtain⟨x,u,v⟩:=SJ.mp h;obtain⟨j,B,rfl⟩:=QC.mp u;rw[RT,List.length_drop,s.len] at B;refine{p-3+j,`a,`a,λz=>?_}
  rw[z] at v;cases v
def NL {c:Int}(h:c=77\/c=78)(h1:gk Z (M++[[D.int c]])=.ok x (M++[[D.int c]]))(h2:gv Z (M++[[D.int c]])=.ok y (M++[D.int c]::X))(j:isKey c x=true):wq c gk gv Z M=.ok (.fn (aB M.length)) (M++[D.int c,D.tup [x,y]]::X):=by
 unfold wq;rw[h1];show(gv Z (M++[[D.int c]])).bind _=_;rw[h2];have e:bq (M++[D.int c]::X) (aB M.length)=some (c,[]):=pN `s h
 show(match bq (M++[D.int c]::X) (aB M.length) with|some q=>if isKey q.1 x=true/\q.2.length<1000000 then Res.ok (D.fn (aB M.length)) ((M++[D.int c]::X).set (aB M.length-5000) (.int q.1::putD q.2 x y)) else .bad|none=>.bad)=_
 rw[e];show(if isKey c x=true/\0<1000000 then Res.ok (D.fn (aB M.length)) ((M++[D.int c]::X).set (aB M.length-5000) (.int c::putD [] x y)) else .bad)=_;rw[if_pos {j,`d},show aB M.length-5000=M.length from RG _ _,List.set_append_right _ _ (Qt _),Nat.sub_self]
 rfl
end
noncomputable def rV:Option Nat->D
 |none=>.non
 |some b=>nD b
def AllIn (m:aC):Option Nat->List (aH×Nat)->Prop
 |some b,A=>fA m (b+1) A
 |none,A=>∃p,fA m p A/\∀q,p<=q->∀b,¬ bH m q b
def ix (m:aC):Option Nat->Prop
 |some b=>qQ m (b+1)
 |none=>∃p,qQ m p
def va (m:aC)(h:Nat)(M:Mem)(E:F3):Prop:=∀e∈E,(∃r,M[e.2.2]?=some (r.map nD)/\dI m r e.1 e.2.1)/\h<=e.2.2
section
variable{P:Nat->Option Df}{M:Mem}{m:aC}{bd:Option Nat}
set_option tactic.hygienic true in
def zq (hbn:∀c,bn c=#v[ax (.one 3) (aN .len #[aa 1]),ax (.one 4) (bR true c9),eF (.two 5 [6,7]) (iI (aa 0)) (Eu c),aS (aa 4)])
 (hbr:∀c,br c=#v[dU (.one 2) (bw 151 c #[aa 0]),ax (.one 3) (aN .tuple #[ai 15 c #[aa 0]]),ax (.one 4) (wq 78 (aa 3) (aZ #[gI 0,bR true c9])),ax (.one 5) (bR true #[bR false #[aa 3]]),lV (fD (au (qx (eV false true false (aa 5) (gZ (gI 3)) gN))) (eX (au (aK .isN (aa 1) gN)) (au (aK .le (aN .len #[aa 5]) (aa 1))))) #v[mW (aa 5) (bw nx c #[aa 2,aa 5,aa 4])],aS (aa 4)])
 (hb:HasB0 P) (hr:jL P) (h15:P 15=some {1,6,bz}) (h151:P 151=some {1,2,dz}) (h152:P 152=some {2,2,dE}) (hnx:P nx=some {3,11,bn}) (hrc:P rc=some {2,6,br}) (n:Nat) (hm:aA m) (hbd:∀b,bd=some b->b<=70) :
 fb (ag P (n+11) rc [m.d,rV bd] M) (λd M'=>∃fk E,d=.fn (aB fk)/\M.length<=fk/\M'[fk]?=some (jQ E)/\va m M.length M' E/\AllIn m bd ((un E).map pr)/\E.length<=255/\Sub M M') (λx M'=>x=.exc 8 none/\ix m bd/\Sub M M'):=by
 refine oQ hrc rfl ?_;show ae (br (ag P (n+10)) [some m.d,some (rV bd),none,none,none,none] M) _;rw[hbr];refine c7 (nN ((dC (af rfl rfl)).trans (sW hb hr h15 h151 n hm))) ?_;have et:aN .tuple #[ai 15 (ag P (n+10)) #[aa 0]] [some m.d,some (rV bd),some (bP m M.length),none,none,none] (M++m.deeds.map (eI m))=.ok (bD (aL m)) (M++m.deeds.map (eI m)):=by
  refine ah (bU.mpr ?_);rw[af ((a5 (af rfl rfl)).trans (gV hb h15 (n+1) hm)) rfl,bg];exact⟨rfl,rfl⟩
 refine c7 (cX et) ?_;generalize J:M++m.deeds.map (eI m)=h;have ev:aZ #[gI 0,bR true c9] [some m.d,some (rV bd),some (bP m M.length),some (bD (aL m)),none,none] (h++[[D.int 78]])=.ok (.tup [.int 0,.cell (h.length+1)]) (h++[D.int 78]::[[]]):=by
  refine dS (cL rfl (cL ?_ rfl)) (QJ rfl);show Res.ok (D.cell (h++[[D.int 78]]).length) ((h++[[D.int 78]])++[[]])=_;rw[Rp,R5];rfl
 refine c7 (cX (NL (.inr rfl) rfl ev (la _))) ?_;generalize y:h++[D.int 78,D.tup [bD (aL m),D.tup [D.int 0,D.cell (h.length+1)]]]::[[]]=v;refine c7 rfl ?_;have l1:h.length=M.length+m.deeds.length:=by rw[<- J];simp
 have l2:v.length=h.length+2:=by rw[<- y];simp
 have s1:Sub M (v++[[.lst [bD (aL m)]]]):=by rw[<- y,<- J,R5,R5];exact Sub.app
 have start:lK M.length (v++[[.lst [bD (aL m)]]]) m M.length v.length h.length [(aL m,0,h.length+1)] [.lst [bD (aL m)]] 1 (λ_=>[aL m]):=by
  refine{?_,`s,`a,rfl,λq x S=>?_,λi hi=>?_,λq c hc=>?_,?_,`a,λq hq b=>?_,{by simp[un],λx S=>?_,λq b hq hl=>?_},QJ rfl}
  ·rw[QA `a,<- y,QY (Qt _),Nat.sub_self];rfl
  ·cases q with
   |zero=>cases S;exact .inl rfl
   |succ q=>simp at S
  ·refine{?_,`a,`a}
   rw[QA `a,<- y,QA `a,<- J,QY `a]
   rw[RG,QO,QE hi];rw[<- qE (QE hi)];rfl
  ·cases q with
   |zero=>cases hc
   |succ q=>simp at hc
  ·intro e he;obtain rfl:=QN.mp he;refine{{[],?_,dI.nil},by show h.length+1≠h.length;omega,by show h.length+1≠v.length;omega,by show M.length<=h.length+1;omega}
   rw[QA (by show h.length+1<v.length;omega),<- y,QY (by show h.length<=h.length+1;omega)]
   rw[RG];rfl
  ·have:q=0:=`a
   subst this;rw[iH hm];exact QN
  ·have S:=QN.mp S;subst S;exact{(iH hm).mpr rfl,Nat.zero_lt_one}
  ·have:q=0:=`a
   subst this;rw[(iH hm).mp hl];exact QN.mpr rfl
 rw[aJ];refine Cb (λk Z M'=>∃p E H Ls g,k=900-p/\1<=p/\(∀b,bd=some b->p<=b+1)/\g<=3/\p+2<=3*E.length+g/\(∀q,q<p->p<=q+g->Ls q=[])/\lK M.length M' m M.length v.length h.length E H p Ls/\Sub M M'/\Z=[some m.d,some (rV bd),some (bP m M.length),some (bD (aL m)),some (.fn (aB h.length)),some (.cell v.length)]) ?_ `a {1,_,_,_,0,rfl,`a,λb _=>`a,`a,QJ rfl,λq h1 h2=>`a,start,s1,rfl}
 rintro k Z M' ⟨p,E,H,Ls,g,rfl,Q,hp2,hg,hpg,Y,s,u,rfl⟩;have few:=s.few;have hp:p<=800:=`a
 obtain⟨b,e1,F,O⟩:=Bi s `a (Z:=[some m.d,some (rV bd),some (bP m M.length),some (bD (aL m)),some (.fn (aB h.length)),some (.cell v.length)]) (i:=5) rfl
 have el:aN .len #[aa 5] [some m.d,some (rV bd),some (bP m M.length),some (bD (aL m)),some (.fn (aB h.length)),some (.cell v.length)] M'=.ok (nD p) M':=by
  refine ah (bU.mpr ?_);rw[af rfl rfl,bg];show ae (match M'[v.length]? with|some xs=>Res.ok (D.int xs.length) M'|none=>.bad) _
  rw[s.l];exact{by show D.int (H.length:Int)=_;rw[s.len],rfl}
 have e3:∃W:Bool,eX (au (aK .isN (aa 1) gN)) (au (aK .le (aN .len #[aa 5]) (aa 1))) [some m.d,some (rV bd),some (bP m M.length),some (bD (aL m)),some (.fn (aB h.length)),some (.cell v.length)] M'=.ok W M'/\(W=false->∃B,bd=some B/\p=B+1)/\(W=true->∀B,bd=some B->p<=B):=by
  cases bd with
  |none=>exact{true,rfl,(λz=>by cases z),λ_ B z=>by cases z}
  | some B =>
    have hB:=hp2 B rfl;refine{decide ((p:Int)<=(B:Int)),m5 (x:=false) rfl ?_,λz=>{B,rfl,by have:=of_decide_eq_false z;omega},λz B' e=>by cases e;have:=of_decide_eq_true z;omega}
    refine dt (kG.mpr (fw.mpr ?_));rw[el,bg];exact bo.mpr {_,rfl,_,rfl,_,rfl,rfl,rfl}
 obtain⟨W,e4,hno,I⟩:=e3;rw[qN e1 e4,bg];refine{λR=>?_,λR=>?_}
 ·have X:AllIn m bd ((un E).map pr):=by
   have stop:=λhb=>xO hm Q λq' h1 h2 c hl=>by
    have:=(s.lss q' h1 c).mpr hl;rw[F hb q' h1 h2] at this;exact nomatch this
   cases L:W with
   | false =>
     obtain⟨B,rfl,hpB⟩:=hno L;show fA m (B+1) _;rw[<- hpB];exact s.all
   | true =>
     rw[L,Bool.and_true] at R;cases bd with
     |none=>exact{p,s.all,stop R}
     |some B=>exact s.all.mono (by have:=I L B rfl;omega) λq c hq _=>stop R q hq c
  exact b7.mpr (cD rfl {h.length,E,rfl,`a,s.f,λe he=>{(s.row e he).1,(s.row e he).2.2.2},X,few,u})
 ·have hb1:=(SH.mp R).1;have hpb:=I (SH.mp R).2;have hg2:g<=2:=by
   obtain⟨q,h1,h2,h3⟩:=O hb1;rcases Si g 3 with z|z
   ·omega
   ·exact absurd (Y q h1 `a) h3
  refine{900-(p+1),`a,?_}
  rw[aJ];have U:=B3 hbn h152 hnx (n+8) hm `a s
  refine HZ rfl ?_;rw[dC (af rfl (af rfl (af rfl rfl)))];have sN:∀{M3:Mem},bf h.length M' M3->Sub M M3:=λk=>{QF u.len k.len,λj hj=>(k.at' j (QT hj u.len) `a).trans (u.at' j hj)}
  cases e:ag P (n+8+2) nx [bP m M.length,.cell v.length,.fn (aB h.length)] M' with
  |bad=>rw[e] at U;exact U.elim
  | err x M3 =>
    rw[e] at U;obtain⟨rfl,ov,kk⟩:=U;refine .inr {(λ_ z=>nomatch z),rfl,?_,sN kk};have mn:=Cw hm Q s.lss s.all ov;cases bd with
    |none=>exact{_,mn}
    |some B=>exact mn.mono (by have:=hpb B rfl;omega)
  | ok d M3 =>
    rw[e] at U;obtain⟨rfl,N,s',nw,hl⟩:=U;refine{H,s'.k.get s.l s.ne,by rw[s.len];exact Sx hp `d,?_}
    have sx:=s.next hm Q s' nw hl
    refine .inl {_,rfl,p+1,E++N,_,_,if N=[] then g+1 else 0,rfl,`a,λB hB=>by have:=hpb B hB;omega,?_,?_,λq h1 h2=>?_,sx,(sN s'.k).setq `a,rfl}
    ·split<;>omega
    ·cases N with
     |nil=>rw[if_pos rfl,RZ];omega
     |cons a N=>rw[if_neg `s,Rp,RV];omega
    ·unfold lsN;split
     ·next z=>
      cases N with
      |nil=>rfl
      |cons a N=>rw[if_neg `s] at h2;omega
     ·next z=>
      cases N with
      |nil=>rw[if_pos rfl] at h2;exact Y q `a `a
      |cons a N=>rw[if_neg `s] at h2;omega
end
structure Ov where
 place:Nat
 num:Nat
 back:Bool
def Ov.d (s:Ov):D:=.tup [nD s.place,nD s.num,.bl s.back]
def A3 (f:D->Bool)(g:D->D)(hz:ds.length<=sz)(B:w M=some ds)
 (hs:∀d∈ds,∃u,bL tg d ρ0=some u/\gc u M=.ok (f d) M/\(f d=true->ge u M=.ok (g d) M)) (z:kl ((ds.filter f).map g) M):ae (cF (cn tg (kg gc (bb ge)) ρ0) w [] M) kl:=by
 refine eZ (λi j v=>v=M/\j=((ds.take i).filter f).map g) (λi j v h=>by rw[h.1];exact B) ⟨rfl,rfl⟩ ?_ ?_
 ·rintro i d j v hd ⟨rfl,rfl⟩;obtain⟨u,e1,e2,y⟩:=hs d (Q9 hd);have E:i<ds.length:=(Qm.mp hd).1;simp only[cn,e1,tU,Res.bind_ok,kg,e2];rw[Rz,hd];cases q:f d with
  | false =>
    simp[q]
  | true =>
    rw[if_pos rfl];have len:(((ds.take i).filter f).map g).length<=i:=by
     rw[Qn];exact QF (Sl _ _) `o
    simp only[bb,y q,Res.bind_ok];rw[if_pos `a]
    simp[q]
 ·rintro j v ⟨rfl,rfl⟩;simpa using z
set_option tactic.hygienic true in
def Kn {a b:Int}(h:ma a x b y=true):a<=b:=by
 unfold ma at h;split at h
 ·next e=>exact Int.le_of_eq (eq_of_beq e)
 ·exact Int.le_of_lt (of_decide_eq_true h)
set_option tactic.hygienic true in
def Ko {a b:Int}(h:ma a x b y=false):b<=a:=by
 unfold ma at h;split at h
 ·next e=>exact Int.le_of_eq (eq_of_beq e).symm
 ·exact Int.not_lt.mp (of_decide_eq_false h)
def wK (ks:List (Int×List Int)):∀n:Nat,argBest (md ks) n<=n/\∀j,j<=n->(ks.getD (argBest (md ks) n) (0,[])).1<=(ks.getD j (0,[])).1
 |0=>{Qt _,λj h=>by rw[Nat.le_zero.mp h];exact Int.le_refl _}
 | n + 1 => by
   obtain⟨h1,h2⟩:=wK ks n;unfold argBest;cases e:md ks (n+1) (argBest (md ks) n) with
   | true =>
     refine{Qt _,λj h=>?_};rcases Nat.lt_or_eq_of_le h with h|rfl
     ·exact Int.le_trans (Kn e) (h2 j (Nat.le_of_lt_succ h))
     ·exact Int.le_refl _
   | false =>
     refine{Nat.le_succ_of_le h1,λj h=>?_};rcases Nat.lt_or_eq_of_le h with h|rfl
     ·exact h2 j (Nat.le_of_lt_succ h)
     ·exact Ko e
def zP {α:Type}(v:α->D)(q:α->Int×List Int):∀{A:List α},(∀x∈A,ri M (v x)=some (q x))->ql M (A.map v)=some (A.map q)
 |[],_=>rfl
 | x :: A, h => by
   show(ri M (v x)).bind _=_;rw[h x QB];rw[zP v q λy j=>h y (Qu _ j)];rfl
def G8 {α:Type}(v:α->D)(q:α->Int×List Int){A:List α}(F:a Z M=.ok (.lst (A.map v)) M1)(I:∀x∈A,ri M1 (v x)=some (q x)) :
 (A=[]/\lp a Z M=.ok .non M1)\/∃x∈A,lp a Z M=.ok (v x) M1/\∀y∈A,(q x).1<=(q y).1:=by
 have e:lp a Z M=.ok ((A.map v).getD (argBest (md (A.map q)) ((A.map v).length-1)) .non) M1:=by
  unfold lp;rw[F];show(match ql M1 (A.map v) with|some ks=>Res.ok ((A.map v).getD (argBest (md ks) ((A.map v).length-1)) .non) M1|none=>.bad)=_
  rw[zP v q I]
 rw[e];cases u:A with
 |nil=>exact .inl ⟨rfl,rfl⟩
 | cons z B =>
   refine .inr ?_;rw[<- u];have hl:0<A.length:=by rw[u];exact Nat.succ_pos _
   obtain⟨h1,h2⟩:=wK (A.map q) (A.length-1);have h:argBest (md (A.map q)) (A.length-1)<A.length:=`a
   rw[Qn];generalize argBest (md (A.map q)) (A.length-1)=i at h1 h2 h;refine{A[i],SI h,by rw[Rn,QO,QE h];rfl,λy J=>?_}
   obtain⟨j,H,rfl⟩:=List.getElem_of_mem J;have:=h2 j `a
   rw[Rn,Rn,QO,QO,QE h,QE H] at this;exact this
section
variable{α:Type}{k:α->aH}{v:α->D}{E:List α}{M:Mem}{fk:Nat}
def Av (u:Z[j]?.getD none=some (.fn (aB fk)))(h:M[fk]?=some (fZ k v E)):eT cK (aa j) Z M=.ok (dW (aB fk) E.length cK) M/\dW (aB fk) E.length cK M=some (E.map λx=>bD (k x)):=by
 constructor
 ·unfold eT;rw[aq u];show(match bq M (aB fk) with|some q=>Res.ok (dW (aB fk) q.2.length cK) M|none=>.bad)=_
  rw[fc h];show Res.ok (dW (aB fk) (E.map _).length cK) M=_;rw[Qn]
 ·unfold dW;rw[fc h];show(if (E.map _).length=E.length then some ((E.map _).map cK) else none)=_;rw[if_pos (Qn _),QZ];rfl
def wz (m:Bool)(p:α->Bool)(f:α->D)(I:Z[j]?.getD none=some (.fn (aB fk)))(F:M[fk]?=some (fZ k v E))(hl:E.length<=sz)
 (J:∀x∈E,t (some (bD (k x))::Z) M=.ok (p x) M) (H:∀x∈E,p x=true->ge (some (bD (k x))::Z) M=.ok (f x) M):a9 m 1 (.one 0) (eT cK (aa j)) (kg t (bb ge)) Z M=ba m ((E.filter p).map f) M:=by
 obtain⟨L,w2⟩:=Av I F;unfold a9;rw[L];show(cF (cn (.one 0) (kg t (bb ge)) (none::Z)) (dW (aB fk) E.length cK) [] M).bind (ba m)=_;have e:cF (cn (.one 0) (kg t (bb ge)) (none::Z)) (dW (aB fk) E.length cK) [] M=.ok ((E.filter p).map f) M:=by
  refine dt (eZ (λi u y=>y=M/\u=((E.take i).filter p).map f) (λi u y h=>by rw[h.1];exact w2) ⟨rfl,rfl⟩ ?_ ?_)
  ·rintro i d u y hd ⟨rfl,rfl⟩;rw[QO] at hd;obtain⟨x,z,rfl⟩:=Qv.mp hd;have hm:=Q9 z;have O:i<E.length:=(Qm.mp z).1;have B:bL (.one 0) (bD (k x)) (none::Z)=some (some (bD (k x))::Z):=rfl;simp only[cn,B,tU,Res.bind_ok,kg,J x hm];rw[Rz,z];cases q:p x with
   |false=>simp[q]
   | true =>
     rw[if_pos rfl];have len:(((E.take i).filter p).map f).length<=i:=by
      rw[Qn];exact QF (Sl _ _) `o
     simp only[bb,H x hm q,Res.bind_ok];rw[if_pos `a]
     simp[q]
  ·rintro u y ⟨rfl,rfl⟩;rw[Qn,List.take_length];exact⟨rfl,rfl⟩
 rw[e];rfl
def Dl (m:Bool)(u:Z[j]?.getD none=some (.fn (aB fk)))(h:M[fk]?=some (fZ k v E)):ki m (aa j) Z M=ba m (E.map λx=>bD (k x)) M:=by
 unfold ki;rw[aq u];show(match bq M (aB fk) with|some q=>ba m (q.2.map cK) M|none=>.bad)=_
 rw[fc h];show ba m ((E.map _).map cK) M=_;rw[QZ];rfl
end
def eq_empty (j:l.all (aw 63)=true):bB .eq (.lst l) (.lst []) M=some l.isEmpty:=by
 refine ky j rfl ?_;cases l<;>rfl
def pL (f:D->Bool):∀ds:List D,((ds.filter λd=>!f d).map λ_=>D.int 1).isEmpty=ds.all f
 |[]=>rfl
 | d :: r => by
   have j:=pL f r;cases q:f d with
   |true=>simpa[q] using j
   |false=>simp[q]
section
variable{P:Nat->Option Df}{M:Mem}{m:aC}{bound:Nat}
def uC (e:a Z M=.ok x M):fX a Z M=.ok (.next Z) M:=by
 unfold fX;rw[e];rfl
end
section
variable{Z:Env}{M M' M1:Mem}{a b d:GE}
def Kv (h1:a Z M=.ok (nD i) M)(h2:b Z M=.ok (nD j) M):au (aK .le a b) Z M=.ok (decide (i<=j)) M:=by
 refine dt (kG.mpr (fw.mpr ?_));rw[h1,bg,h2,bg];refine{_,rfl,_,rfl,?_,rfl};exact decide_eq_decide.mpr Int.ofNat_le
end
def yv (m:aC)(fit:aH->Bool)(h:Nat)(d:D)(M':Mem):Prop:=∃(E:F3) (c:Nat),d=.tup [.str "none",.cell c]/\h<=c/\M'[c]?=some (E.map λe=>bD e.1)/\AllIn m none ((un E).map pr)/\E.length<=255/\∀e∈E,fit e.1=false
def DD (m:aC)(fit:aH->Bool)(h:Nat)(d:D)(M':Mem):Prop:=∃(E:F3) (e:aH×Nat×Nat) (r:List Nat) (c:Nat),d=.tup [.str "row",nD e.2.1,.cell e.2.2,.cell c]/\e∈E/\fit e.1=true/\(∀x∈E,fit x.1=true->e.2.1<=x.2.1)/\h<=e.2.2/\e.2.2<c/\M'[e.2.2]?=some (r.map nD)/\dI m r e.1 e.2.1/\
 M'[c]?=some ((E.filter λx=>decide (x.2.1<=e.2.1)).map λx=>.tup [bD x.1,nD (e.2.1-x.2.1)])/\AllIn m none ((un E).map pr)/\E.length<=255
def AllIn.nd {bd:Option Nat}(h:AllIn m bd l):(l.map (·.1)).Nodup:=by
 cases bd with
 |none=>obtain⟨_,h,_⟩:=h;exact h.nd
 |some b=>exact fA.nd h
def AllIn.sound {bd:Option Nat}(h:AllIn m bd l):∀x∈l,bH m x.2 x.1:=by
 cases bd with
 |none=>obtain⟨_,h,_⟩:=h;exact λx j=>(h.sound x j).1
 |some b=>exact λx j=>(fA.sound h x j).1
def mR (E:F3):(un E).map pr=E.map λe=>(e.1,e.2.1):=by unfold un;rw[QZ];rfl
def Hi (r:List Nat):intsOf (r.map nD)=some (r.map λ(i:Nat)=>(i:Int)):=by
 induction r with
 |nil=>rfl
 |cons a r h=>show(intsOf (r.map nD)).map _=_;rw[h];rfl
section
variable{P:Nat->Option Df}{M:Mem}{m:aC}{w:D}{fit:aH->Bool}{Z:Env}{a b:GE}
def OP (u:a Z M=.ok (nD i) M)(v:b Z M=.ok (nD j) M)(h:j<=i):ak false .sub a b Z M=.ok (nD (i-j)) M:=by
 unfold ak;rw[u];show(b Z M).bind _=_;rw[v];show Res.ok (D.int ((i:Int)-(j:Int))) M=_;rw[<- Int.ofNat_sub h]
def AE (h:Z[j]?.getD none=some x):au (aK .isN (aa j) gN) Z M=.ok (eK x) M:=by
 refine cg ?_;unfold aK;rw[aq h];rfl
def tK (u:Z[3]?.getD none=some (.fn (aB fk)))(h:M[fk]?=some (jQ E))(nd:(E.map (·.1)).Nodup)(v:x∈E)(j:Z[0]?.getD none=some (bD x.1)):cZ (aa 3) (aa 0) Z M=.ok (vC x) M/\av (cZ (aa 3) (aa 0)) (gI 0) Z M=.ok (nD x.2.1) M:=by
 have e:=pK (x:=.non) (aq u) (aq j) (AW h nd v);exact{e,bp e rfl rfl}
def B6 (n:Nat)(z:∀(M:Mem),fb (ag P n 166 [m.d,.non] M) (λd M'=>∃v E,d=.fn (aB v)/\M.length<=v/\M'[v]?=some (jQ E)/\va m M.length M' E/\AllIn m none ((un E).map pr)/\E.length<=255/\Sub M M') (λx M'=>x=.exc 8 none/\ix m none/\Sub M M'))
 (h80:∀M:Mem,ag P n 80 [m.d,w] M=.ok .non M) (h81:∀(M:Mem) (q:Nat) (b:aH),bH m q b->ag P n 81 [bD b,w] M=.ok (.bl (fit b)) M) (h167:P 167=some {2,7,nK}) :
 fb (ag P (n+1) 167 [m.d,w] M) (λd M'=>(yv m fit M.length d M'\/DD m fit M.length d M')/\Sub M M') (λx M'=>x=.exc 8 none/\ix m none/\Sub M M'):=by
 refine oQ h167 rfl ?_;simp only[RI,List.map_nil,RV,List.length_nil,List.replicate,List.cons_append,SQ,Nat.reduceAdd,Nat.reduceSub];unfold nK;rw[aJ,uC ((dC (af rfl (af rfl rfl))).trans (h80 M)),bg,b7,aJ,vG];have F:=z M;have R:bw 166 (ag P n) #[aa 0,gN] [some m.d,some w,none,none,none,none,none] M=ag P n 166 [m.d,.non] M:=dC (af rfl (af rfl rfl));rw[R];cases e:ag P n 166 [m.d,.non] M with
 |bad=>rw[e] at F;exact F.elim
 |err x j=>rw[e] at F;exact F
 | ok d j =>
   rw[e] at F;obtain⟨v,E,rfl,X,B,rows,all,few,sub⟩:=F;refine b7.mpr ?_;have nd:(E.map (·.1)).Nodup:=by have:=all.nd;rw[mR,QZ] at this;exact this
   have snd:∀x∈E,bH m x.2.1 x.1:=λx u=>all.sound (x.1,x.2.1) (by rw[mR];exact QC.mpr ⟨x,u,rfl⟩)
   have Q:E.length<=sz:=ay `a
   have e1:a9 false 1 (.one 0) (eT cK (aa 2)) (kg (au (ai 81 (ag P n) #[aa 0,aa 2])) (bb (cZ (aa 3) (aa 0)))) [some m.d,some w,some (.fn (aB v)),none,none,none,none] j=.ok (.lst ((E.filter λx=>fit x.1).map vC)) j:=by
    rw[wz false (λx=>fit x.1) vC rfl B Q (λx u=>cg ((a5 (af rfl (af rfl rfl))).trans (h81 j _ _ (snd x u)))) (λx u _=>(tK rfl B nd u rfl).1)];exact if_pos (ay (by rw[Qn];exact QF (Sl _ _) `a))
   have Y:∀x∈E.filter λx=>fit x.1,ri j (vC x)=some ((x.2.1:Int),((j[x.2.2]?.bind intsOf).getD [])):=λx u=>by
    obtain⟨⟨r,er,_⟩,_⟩:=rows x (RM.mp u).1;show((j[x.2.2]?).bind intsOf).map _=_;rw[er];show(intsOf (r.map nD)).map _=some (_,(intsOf (r.map nD)).getD []);rw[Hi];rfl
   rcases G8 vC (λx=>((x.2.1:Int),((j[x.2.2]?.bind intsOf).getD []))) e1 Y with⟨U,J⟩|⟨x,u,J,W⟩
   ·refine bJ (cj J) ?_;refine bZ (AE rfl) (λ_=>?_) (λh=>by cases h)
    have S:aZ #[gS "none",ki true (aa 2)] [some m.d,some w,some (.fn (aB v)),some .non,none,none,none] j=.ok (.tup [.str "none",.cell j.length]) (j++[E.map λe=>bD e.1]):=by
     refine dS (cL rfl (cL ?_ rfl)) (QJ rfl);rw[Dl true rfl B];exact if_pos (ay (by rw[Qn];omega))
    simp only[aJ,dA];refine dG.mpr {_,_,S,?_};refine{.inl {E,j.length,rfl,sub.len,`s,all,few,λx u=>?_},sub.trans Sub.app}
    cases L:fit x.1 with
    |false=>rfl
    | true =>
      have:x∈E.filter λx=>fit x.1:=RM.mpr ⟨u,L⟩;rw[U] at this;cases this
   ·obtain⟨H,O⟩:=RM.mp u;obtain⟨⟨r,er,ro⟩,lo⟩:=rows x H;refine bJ (cj J) ?_;refine c8 (AE (x:=vC x) rfl) ?_;refine bJ rfl ?_;have e2:a9 true 1 (.one 0) (eT cK (aa 2)) (kg (au (aK .le (av (cZ (aa 3) (aa 0)) (gI 0)) (aa 5))) (bb (aZ #[aa 0,ak false .sub (aa 5) (av (cZ (aa 3) (aa 0)) (gI 0))]))) [some m.d,some w,some (.fn (aB v)),some (vC x),some (nD x.2.1),some (.cell x.2.2),none] j
     = .ok (.cell j.length) (j++[(E.filter λy=>decide (y.2.1<=x.2.1)).map λy=>.tup [bD y.1,nD (x.2.1-y.2.1)]]):=by
     rw[wz true (λy=>decide (y.2.1<=x.2.1)) (λy=>.tup [bD y.1,nD (x.2.1-y.2.1)]) rfl B Q (λy I=>Kv (tK rfl B nd I rfl).2 rfl) (λy I hd=>dS (af rfl (af (OP rfl (tK rfl B nd I rfl).2 (of_decide_eq_true hd)) rfl)) (QJ rfl))];exact if_pos (ay (by rw[Qn];exact QF (Sl _ _) `a))
    refine c7 (cX e2) ?_;simp only[List.set,aJ,dA];refine dG.mpr {_,_,dS (af rfl (af rfl (af rfl (af rfl rfl)))) (QJ rfl),?_};refine{.inr {E,x,r,j.length,rfl,H,O,λy I L=>?_,lo,ez er,?_,ro,`s,all,few},sub.trans Sub.app}
    ·exact Int.ofNat_le.mp (W y (RM.mpr ⟨I,L⟩))
    ·rw[QA (ez er)];exact er
end
def fe (h1:a Z M=.ok x M)(h2:b Z M=.ok y M)(h3:bB o x y M=some v):aK o a b Z M=.ok (.bl v) M:=by
 unfold aK;rw[h1];show(b Z M).bind _=_;rw[h2];show(b9 M (bB o x y M)).bind _=_;rw[h3];rfl
section
variable{P:Nat->Option Df}{M:Mem}{m:aC}{w:D}{fit:aH->Bool}
def AllIn.mem (h:AllIn m none A):(b,q)∈A↔bH m q b:=by
 refine{λz=>h.sound _ z,λz=>?_};obtain⟨p,h,no⟩:=h;rcases Si q p with j|j
 ·exact h.all q b j z
 ·exact absurd z (no q j b)
end
section
variable{P:Nat->Option Df}{M M1:Mem}{m:aC}{w:D}{fit:aH->Bool}{Z:Env}{a b:GE}{t:GT}{A rest:GS}{k:Fl->Mem->Prop}
def Lz (h:a Z M=.ok x M1)(j:b Z M1=.ok (.fn o) M1)(e:inD M1 o x=some r):au (jb n a b) Z M=.ok (n != r) M1:=by
 unfold au jb;rw[h];show Res.bind (Res.bind (b Z M1) _) _=_;rw[j];show Res.bind (match inD M1 o x with|some r=>Res.ok (D.bl (n != r)) M1|none=>.bad) _=_
 rw[e];rfl
def rq (j:t Z M=.ok false M1)(h:ae (rest Z M1) k):ae (aY (a7 t A aT) rest Z M) k:=by
 simp only[aJ,lT];rw[j];exact h
end
section
variable{α:Type}{k:α->aH}{v:α->D}{E:List α}{M M1:Mem}{j:Nat}{y:aH}{Z:Env}{a b c:GE}{z:D}
def AX (u:a Z M=.ok (.fn (aB j)) M)(h:M[j]?=some (fZ k v E))(B:b Z M=.ok (bD y) M1)(F:c Z M1=.ok z M1)(e:M1[j]?=some (fZ k v E)):ip a b c Z M=.ok (((E.find? λe=>decide (k e=y)).map v).getD z) M1:=by
 unfold ip;rw[u];show(if (bq M (aB j)).isSome=true then _ else _)=_;rw[fc h];rw[B];show(c Z M1).bind _=_;rw[F];show(match bq M1 (aB j) with|some q=>if isKey q.1 (bD y)=true then Res.ok ((cx q.2 (bD y)).getD z) M1 else Res.bad|none=>Res.bad)=_
 rw[fc e];show(if isKey 78 (bD y)=true then _ else _)=_;rw[if_pos (la y),iV]
end
def Hc (e:a Z M=.ok (.tup xs) M):aN .len #[a] Z M=.ok (nD xs.length) M:=by
 refine ah (bU.mpr ?_);rw[af e rfl,bg];exact⟨rfl,rfl⟩
def CO (e:a Z M=.ok (.lst xs) M):aN .len #[a] Z M=.ok (nD xs.length) M:=by
 refine ah (bU.mpr ?_);rw[af e rfl,bg];exact⟨rfl,rfl⟩
section
variable{P:Nat->Option Df}{M:Mem}{m:aC}{w:D}{fit:aH->Bool}{Z:Env}
def wH (e:s Z M=.ok xs M1):ai f c s Z M=c f xs M1:=by
 unfold ai;rw[e];rfl
end
def Dy (m:aC)(x:D):Prop:=x=.non\/∃v:Nat,x=nD v/\v<m.words
def kA (m:aC)(ws:List D):Prop:=ws.length=(aL m).length/\∀x∈ws,Dy m x
def mv:D->Bool
 |.tup [.tup (x::_),w]=>eK w||bG x w
 |_=>false
def pU (f:D->Bool):∀ds:List D,boolsOf (ds.map λd=>.bl (f d))=some (ds.map f)
 |[]=>rfl
 |d::r=>by simp[boolsOf,pU f r]
def all_gen (f:D->Bool)(u:ae (w Z M) λwk M'=>M'=M/\wk M=some ds)(hz:ds.length<=sz)(he:∀d∈ds,∃j,bL tg d (List.replicate own none++Z)=some j/\ge j M=.ok (.bl (f d)) M) :
 aN .all #[a9 false own tg w (bb ge)] Z M=.ok (.bl (ds.all f)) M:=by
 refine ah ?_;simp only[bU,bS,dg,cT];refine aU u λwk M' ⟨e1,e2⟩=>?_;subst e1;refine du (λd=>.bl (f d)) hz e2 he ?_;simp only[bE,Qn,qO];refine{hz,_,pU f ds,?_,trivial}
 congr 1
 rw[List.all_map];rfl
def fJ:bQ (.tup (x::r)) (.int 0) M=some x:=by
 show(bY (x::r).length ((0:Nat):Int)).bind (λj=>(x::r)[j]?)=_;rw[eR `s]
 rfl
section
variable{P:Nat->Option Df}(h:HasB0 P){M:Mem}{m:aC}
include h
theorem GU (n:Nat)(u:Dy m x) :
 uu (aK .isN (aa 0) gN) (ai 1 (ag P (n+2)) #[av (aa 1) (gI 0),aa 0]) (some x::some m.d::r) M=.ok (.bl true) M:=by
 rcases u with rfl|⟨v,rfl,j⟩
 ·rfl
 ·refine ah (Ld.mpr (fw.mpr (bo.mpr {nD v,rfl,eA.mpr {false,rfl,false,rfl,?_}})));rw[if_neg QP,(a5 (af (bp rfl rfl fJ) (af rfl rfl))).trans (qf h n j)];exact⟨rfl,rfl⟩
theorem zv (h15:P 15=some {1,6,bz})(h79:P 79=some {2,2,jI})(n:Nat)(hm:aA m)(u:kA m ws):ag P (n+10) 79 [m.d,.tup ws] M=.ok (.bl true) M:=by
 refine ah (aE h79 rfl ?_);have j:=gV h h15 n (M:=M) hm;have:=dD hm;refine c8 (tW (cg ((a5 (af ?_ (af rfl rfl))).trans (kI h (n+8) u.1)))) ?_
 ·refine ah (bU.mpr ?_);rw[af ((a5 (af rfl rfl)).trans j) rfl,bg];exact{by rw[Qn],rfl}
 ·exact cD (ah (all_true ⟨rfl,rfl⟩ (ay (by rw[u.1];omega)) (λx v=>GU h (n+7) (u.2 x v)) ⟨rfl,rfl⟩)) ⟨rfl,rfl⟩
theorem Ab (h15:P 15=some {1,6,bz})(h79:P 79=some {2,2,jI})(h80:P 80=some {2,2,jR})(n:Nat)(hm:aA m)(j:kA m ws):ag P (n+11) 80 [m.d,.tup ws] M=.ok .non M:=by
 refine ah (aE h80 rfl ?_);refine bJ (uC ((dC (af rfl rfl)).trans (n9 h (n+2) hm))) ?_;exact c8 (tW (cg ((a5 (af rfl (af rfl rfl))).trans (zv h h15 h79 n hm j)))) ⟨rfl,rfl⟩
end
def qP (j:List D):Prop:=∀z∈j,∃x r w,z=.tup [.tup (nD x::r),w]/\(w=.non\/∃v:Nat,w=nD v)
def uD (j:w=.non\/∃v:Nat,w=nD v):bB .eq (nD x) w M=some (bG (nD x) w):=by
 rcases j with rfl|⟨v,rfl⟩
 ·exact ky rfl rfl rfl
 ·exact ky rfl rfl rfl
section
variable{P:Nat->Option Df}{M:Mem}
def q9 (h81:P 81=some {2,2,ir})(n:Nat)(hz:(eC es ws).length<=sz)(j:qP (eC es ws)):ag P (n+1) 81 [.tup es,.tup ws] M=.ok (.bl ((eC es ws).all mv)) M:=by
 refine ah (aE h81 rfl ?_);unfold ir;refine cD (all_gen mv ⟨rfl,rfl⟩ hz λz hz=>?_) ⟨rfl,rfl⟩;obtain⟨x,r,w,rfl,u⟩:=j z hz;refine{_,rfl,ah ?_};simp only[Ld,fw,eA,bo,gG];refine{w,rfl,eK w,rfl,eK w,rfl,?_};cases hn:eK w with
 | true =>
   refine{?_,trivial};show _=D.bl (eK w||bG (nD x) w);rw[hn];rfl
 | false =>
   refine{_,rfl,nD x,fJ,w,rfl,_,uD u,?_,trivial};show _=D.bl (eK w||bG (nD x) w);rw[hn];rfl
def xa (h84:P 84=some {2,2,h9})(n:Nat)(hz:(eC es ws).length<=sz)(j:qP (eC es ws)):ag P (n+1) 84 [.tup es,.tup ws] M=.ok (.bl ((eC es ws).all mv)) M:=by
 refine ah (aE h84 rfl ?_);unfold h9;simp only[aJ,dA,fw,dg,Ip,bo];refine{_,rfl,_,rfl,rfl,?_};refine A3 (λz=>!mv z) (λ_=>.int 1) hz rfl (λz hz=>?_) ?_
 ·obtain⟨x,r,w,rfl,u⟩:=j z hz;refine{_,rfl,dt ?_,λ_=>rfl};simp only[Mj,kG,fw,eA,bo,gG];refine{w,rfl,!eK w,rfl,!eK w,rfl,?_};cases hn:eK w with
  | true =>
    refine{?_,trivial};show _=!(eK w||bG (nD x) w);rw[hn];rfl
  | false =>
    refine{_,rfl,nD x,fJ,w,rfl,_,(show bB .ne (nD x) w M=some (!bG (nD x) w) by show(bB .eq (nD x) w M).map (!·)=_;rw[uD u];rfl),_,rfl,?_,trivial}
    show _=!(eK w||bG (nD x) w);rw[hn];rfl
 ·refine bE.mpr {QF (by rw[Qn];exact Sl _ _) hz,?_}
  simp only[ya,cT];refine bE.mpr {RX _,_,eq_empty ?_,?_,rfl}
  ·rw[QI];intro x v;obtain⟨_,_,rfl⟩:=QC.mp v;rfl
  ·rw[pL mv]
end
def Dw (hm:aA m):0<(aL m).length:=List.length_pos_of_mem (uY hm (s:=List.replicate m.places 0) {`s,λx h=>by have:=hm.w2;rw[(List.mem_replicate.mp h).2];omega})
def AS (hm:aA m)(hs:bV m s):∃x r,aj s=.tup (nD x::r)/\x<m.words:=by
 cases s with
 | nil =>
   have h1:=hs.1;have h2:=hm.p1;rw[<- h1] at h2;exact absurd h2 `d
 |cons x t=>exact{x,t.map nD,rfl,hs.2 x QB}
def jc (ws:List D)(b:aH):Bool:=(eC (b.map aj) ws).all mv
def kT (hm:aA m):∀{b:aH}{ws:List D},(∀s∈b,bV m s)->(∀x∈ws,Dy m x)->qP (eC (b.map aj) ws)
 |[],ws,_,_=>by intro z h;cases ws<;>exact nomatch h
 |s::b,[],_,_=>by intro z h;exact nomatch h
 | s :: b, x :: ws, j, u => by
   intro z h;rcases Q1.mp (h) with rfl|h
   ·obtain⟨v,r,e,_⟩:=AS hm (j s QB);refine{v,r,x,by rw[e],?_}
    rcases u x QB with z|⟨v,z,_⟩
    ·exact .inl z
    ·exact .inr ⟨v,z⟩
   ·exact kT hm (λs hs=>j s (Qu _ hs)) (λx y=>u x (Qu _ y)) z h
def mQ:∀{xs ys:List D},(eC xs ys).length<=xs.length
 |[],ys=>by cases ys<;>exact Qt _
 |_::_,[]=>RX _
 |x::xs,y::ys=>Nat.succ_le_succ (mQ)
section
variable{P:Nat->Option Df}{M:Mem}{m:aC}{ws:List D}{q:Nat}{b:aH}
def Nb (n:Nat)(h81:P 81=some {2,2,ir})(hm:aA m)(h:kA m ws)(lq:bH m q b):ag P (n+1) 81 [bD b,.tup ws] M=.ok (.bl (jc ws b)) M:=by
 obtain⟨j,os⟩:=i6 hm lq.1;have:=dD hm;exact q9 h81 n (ay (QF mQ (by rw[Qn];omega))) (kT hm os h.2)
end
section
variable{P:Nat->Option Df}{M:Mem}{m:aC}
def zr (j:HasB0 P)(hr:jL P)(h15:P 15=some {1,6,bz})(h151:P 151=some {1,2,dz})(h152:P 152=some {2,2,dE})(h165:P 165=some {3,11,gK})(h166:P 166=some {2,6,jg})(n:Nat)(hm:aA m) :
 fb (ag P (n+11) 166 [m.d,.non] M) (λd M'=>∃h E,d=.fn (aB h)/\M.length<=h/\M'[h]?=some (jQ E)/\va m M.length M' E/\AllIn m none ((un E).map pr)/\E.length<=255/\Sub M M') (λx M'=>x=.exc 8 none/\ix m none/\Sub M M'):=
 zq (bd:=none) (λ_=>rfl) (λ_=>rfl) j hr h15 h151 h152 h165 h166 n hm (λ_ z=>nomatch z)
end
section
variable{P:Nat->Option Df}{M:Mem}{p B:Nat}{m:aC}
def F2 (h:HasP P)(h160:P 160=some {2,3,eW})(n:Nat)(H:t<6)(F:aI M p B)(E:B<=700000):ae (ag P (n+6) 160 [.cell p,nD t] M) λd M'=>∃m:aC,d=m.d/\aA m/\aI M' p (B+300)/\bf p M M':=by
 refine aE h160 rfl ?_;have j:∃a b c:Nat,av (bR false #[aZ #[gI 3,gI 1,gI 6],aZ #[gI 2,gI 2,gI 3],aZ #[gI 3,gI 1,gI 4],aZ #[gI 2,gI 2,gI 2],aZ #[gI 4,gI 1,gI 2]]) (ak false .mod (aa 1) (gI 5)) [some (.cell p),some (nD t),none] M=.ok (.tup [nD a,nD b,nD c]) M/\2<=a/\a<=4/\1<=b/\b<=2/\1<=c/\c<=6:=by
  match t,H with
  |0,_=>exact{3,1,6,rfl,`d}
  |1,_=>exact{2,2,3,rfl,`d}
  |2,_=>exact{3,1,4,rfl,`d}
  |3,_=>exact{2,2,2,rfl,`d}
  |4,_=>exact{4,1,2,rfl,`d}
  |5,_=>exact{3,1,6,rfl,`d}
 obtain⟨a,b,c,e,a2,a4,u,v,y,z⟩:=j;refine bJ (cj e) ?_;rw[aJ,dA,a5 (af rfl (af (bp rfl rfl rfl) (af (bp rfl rfl rfl) (af (bp rfl rfl rfl) rfl))))];refine aU (w9 h n F E a2 a4 u v y z) ?_;rintro d M' ⟨m,rfl,hm,_,_,_,q,k⟩;exact⟨m,rfl,hm,q,k⟩
def aC.withC (m:aC)(c:Nat):aC:={m.words,m.places,m.deeds.map (·.withC c)}
end
noncomputable def vw (m:aC)(s:List Nat):Bool:=s.length==m.places&&s.all λx=>decide (x<m.words)
def gJ (m:aC)(b:aH):Bool:=b.length==(aL m).length&&b.all (vw m)
structure Loose (b:aH):Prop where
 l:b.length<=100
 s:∀s∈b,s.length<=100
def I8 {s:List Nat}(h:vw m s=true):bV m s:=by
 unfold vw at h;rw[Qs] at h;exact{eq_of_beq h.1,λx j=>of_decide_eq_true (QI.mp h.2 x j)}
def wM {b:aH}(h:gJ m b=true):b.length=(aL m).length/\∀s∈b,bV m s:=by
 unfold gJ at h;rw[Qs] at h;exact{eq_of_beq h.1,λs hs=>I8 (QI.mp h.2 s hs)}
noncomputable def D3:D->Nat
 |.int i=>i.toNat
 |_=>0
noncomputable def yO:D->List Nat
 |.tup j=>j.map D3
 |_=>[]
noncomputable def yP:D->aH
 |.tup j=>j.map yO
 |_=>[]
def IB {l:List Nat}:(l.map nD).map D3=l:=by
 rw[QZ];exact(Rr λx _=>RP x).trans (List.map_id l)
def sI:yO (aj s)=s:=IB
def sJ:yP (bD b)=b:=by
 show(b.map aj).map yO=b;rw[QZ];exact(Rr λs _=>sI).trans (List.map_id b)
def Ia {l:List Nat}{p:Nat->Bool}:((l.map nD).all λd=>p (D3 d))=l.all p:=by
 rw[List.all_map]
 congr 1
def H9 {b:aH}:((b.map aj).all λd=>p (yO d))=b.all p:=by
 rw[List.all_map]
 congr 1
 exact funext λs=>congrArg p sI
def Ib {L:List aH}:((L.map bD).all λd=>p (yP d))=L.all p:=by
 rw[List.all_map]
 congr 1
 exact funext λs=>congrArg p sJ
section
variable{P:Nat->Option Df}{M:Mem}{m:aC}(h:HasB0 P)
include h
theorem BZ (n:Nat):ag P (n+2) 1 [nD w,nD t] M=.ok (.bl (decide (t<w))) M:=by
 refine ah (aE h.is_word rfl ?_);refine cD ((a5 (af rfl (af rfl (af ((qJ rfl rfl).trans rfl) rfl)))).trans (fo h n _ _ _)) {?_,rfl};rw[decide_eq_true (Int.natCast_nonneg t),show decide ((t:Int)<=(w:Int)-1)=decide (t<w) from decide_eq_decide.mpr `a];rfl
theorem vA (n:Nat):ag P (n+1) 4 [nD w,.tup ds] M=.ok (.bl (ds.length==w)) M:=by
 refine ah (aE h.is_tuple_of rfl ?_);show ae (fT (ag P n) [some (nD w),some (.tup ds)] M) _;refine cD ((pW rfl λ_=>fe (Hc rfl) rfl ?_).trans rfl) ⟨rfl,rfl⟩;show some ((ds.length:Int)==(w:Int))=_;rw[show((ds.length:Int)==(w:Int))=(ds.length==w) by rw[RC,beq_iff_eq,beq_iff_eq,Int.ofNat_inj]]
theorem Gf (h14:P 14=some {2,5,cM})(n:Nat){s:List Nat}(hz:s.length<=100):ag P (n+3) 14 [m.d,aj s] M=.ok (.bl (vw m s)) M:=by
 refine ah (aE h14 rfl ?_);show ae (cM (ag P (n+2)) [some m.d,some (aj s),none,none,none] M) _;unfold cM;refine bJ (rfl) ?_;refine cD (pW ((a5 (af rfl (af rfl rfl))).trans (vA h (n+1))) λ_=>(all_gen (λd=>decide (D3 d<m.words)) ⟨rfl,rfl⟩ (ay (by rw[Qn];omega)) λd hd=>?_)) {?_,rfl}
 ·obtain⟨x,j,rfl⟩:=QC.mp hd;exact{_,rfl,(a5 (af rfl (af rfl rfl))).trans (BZ h n)}
 ·rw[Ia (p:=λx=>decide (x<m.words)),Qn];rfl
theorem Gg (h14:P 14=some {2,5,cM})(h15:P 15=some {1,6,bz})(h176:P 176=some {2,3,eP})(n:Nat)(hm:aA m){L:List aH}(hl:L.length<=1000)(ll:∀b∈L,Loose b):ag P (n+10) 176 [m.d,.lst (L.map bD)] M=.ok (.bl (L.all (gJ m))) M:=by
 refine ah (aE h176 rfl ?_);refine bJ (cj (x:=nD (aL m).length) ?_) ?_
 ·rw[CO ((a5 (af rfl rfl)).trans (gV h h15 n hm)),Qn]
 refine cD (all_gen (λd=>gJ m (yP d)) ⟨rfl,rfl⟩ (ay (by rw[Qn];omega)) λd hd=>?_) {?_,rfl}
 ·obtain⟨b,j,rfl⟩:=QC.mp hd;refine{_,rfl,?_};rw[sJ];refine Eq.trans (pW ((a5 (af rfl (af rfl rfl))).trans (vA h (n+8))) λ_=>(all_gen (λd=>vw m (yO d)) ⟨rfl,rfl⟩ (ay (by rw[Qn];have:=(ll b j).l;omega)) λd hd=>?_)) ?_
  ·obtain⟨s,hs,rfl⟩:=QC.mp hd;refine{_,rfl,?_};rw[sI];exact(a5 (af rfl (af rfl rfl))).trans (Gf h h14 (n+6) ((ll b j).s s hs))
  ·rw[H9,Qn];rfl
 ·rw[Ib]
end
def ins (E:List aH)(b:aH):List aH:=if b∈E then E else E++[b]
def SeqAt (M:Mem)(x:D)(L:List aH):Prop:=x=.lst (L.map bD)\/∃c,x=.cell c/\M[c]?=some (L.map bD)
section
variable{P:Nat->Option Df}{M:Mem}{m:aC}{w x:D}{fit:aH->Bool}{L:List aH}
def Gu (h:((List.range n).map λ(k:Nat)=>D.int (k:Int))[i]?=some d):i<n/\d=nD i:=by
 rw[QO] at h;obtain⟨j,u,rfl⟩:=Qv.mp h;obtain⟨h1,h2⟩:=Qm.mp u;rw[Rx] at h1;rw[List.getElem_range] at h2;exact{h1,by rw[h2]}
end
def uT:∀l:List Bool,boolsOf (l.map D.bl)=some l
 |[]=>rfl
 |b::l=>by simp[boolsOf,uT l]
section
variable{P:Nat->Option Df}{M:Mem}{m:aC}{w x:D}{fit:aH->Bool}{L:List aH}
def Ly {u:Type}{k:u->aH}{v:u->D}{E:List u}(f:u->D)(B:Z[j]?.getD none=some (.fn (aB fk)))(z:M[fk]?=some (fZ k v E))(hl:E.length<=1000)(g:D->D)(y:∀x∈E,g (bD (k x))=f x)(he:∀x∈E,ge (some (bD (k x))::Z) M=.ok (f x) M) :
 a9 false 1 (.one 0) (eT cK (aa j)) (bb ge) Z M=.ok (.lst (E.map f)) M:=by
 obtain⟨F,w2⟩:=Av B z;refine ah ?_;rw[dg,F,bg];refine du g (ay (by rw[Qn];omega)) w2 (λd hd=>?_) ?_
 ·obtain⟨x,h,rfl⟩:=QC.mp hd;exact{_,rfl,by rw[y x h];exact he x h}
 ·rw[QZ,show E.map (g∘λx=>bD (k x))=E.map f from Rr λx h=>y x h];exact bE.mpr {ay (by rw[Qn];omega),rfl,rfl}
end
abbrev fi:=List (aH×Int)
noncomputable def lk (E:fi)(b:aH):Option Int:=(E.find? λe=>decide (e.1=b)).map (·.2)
def qV (E:fi)(b:aH)(v:Int):fi:=if (lk E b).isSome then E.map (λe=>if e.1=b then(b,v) else e) else E++[(b,v)]
def nP (E:fi)(e:aH×Int):fi:=qV E e.1 (max e.2 ((lk E e.1).getD e.2))
def dm (F:fi):fi:=F.foldl nP []
def gX:lk (e::E) b=if e.1=b then some e.2 else lk E b:=by
 unfold lk;rw[List.find?_cons];by_cases h:e.1=b
 ·rw[decide_eq_true h,if_pos h];rfl
 ·rw[decide_eq_false h,if_neg h]
def An:∀{E:fi}{b c:aH}{v:Int},lk E b=none->lk (E++[(b,v)]) c=if c=b then some v else lk E c
 | [], b, c, v, _ => by
   rw[SQ,gX];by_cases h:c=b
   ·rw[if_pos h.symm,if_pos h]
   ·rw[if_neg (Ru h),if_neg h]
 | e :: E, b, c, v, h => by
   rw[gX] at h;by_cases z:e.1=b
   ·rw[if_pos z] at h;cases h
   rw[if_neg z] at h;rw[List.cons_append,gX,gX,An h];by_cases y:e.1=c
   ·rw[if_pos y,if_pos y,if_neg λw=>z (y.trans w)]
   ·rw[if_neg y,if_neg y]
def Al:∀{E:fi}{b c:aH}{v:Int},lk (E.map λe=>if e.1=b then(b,v) else e) c=if c=b then(lk E b).map λ_=>v else lk E c
 |[],b,c,v=>by split<;>rfl
 | e :: E, b, c, v => by
   rw[RI,gX,Al,gX,gX];by_cases z:e.1=b
   ·rw[if_pos z,if_pos z];by_cases y:c=b
    ·rw[if_pos y,if_pos y,if_pos y.symm];rfl
    ·rw[if_neg y,if_neg y,if_neg (Ru y),if_neg λw=>y (w.symm.trans z)]
   ·rw[if_neg z,if_neg z];by_cases y:c=b
    ·rw[if_pos y,if_pos y,if_neg λw=>z (w.trans y)]
    ·rw[if_neg y,if_neg y]
set_option tactic.hygienic true in
def EC:lk (qV E b v) c=if c=b then some v else lk E c:=by
 unfold qV;split
 ·next h=>
  rw[Al];obtain⟨x,j⟩:=SO.mp h;rw[j];rfl
 ·next h=>exact An (Option.not_isSome_iff_eq_none.mp h)
structure mP (F E:fi):Prop where
 one:∀b v,lk E b=some v->(b,v)∈F
 top:∀e∈F,∃v,lk E e.1=some v/\e.2<=v
def Ba (h:mP F E):mP (F++[e]) (nP E e):=by
 have y:∃v,nP E e=qV E e.1 v/\(e.1,v)∈F++[e]/\e.2<=v/\∀w,lk E e.1=some w->w<=v:=by
  refine{_,rfl,?_,Int.le_max_left _ _,λw j=>by rw[j];exact Int.le_max_right _ _}
  cases hl:lk E e.1 with
  | none =>
    rw[show max e.2 ((none:Option Int).getD e.2)=e.2 from Int.max_self _];exact Rj _ (QN.mpr rfl)
  | some w =>
    show(e.1,max e.2 w)∈_;rcases Int.le_total e.2 w with z|z
    ·rw[Int.max_eq_right z];exact Rv _ (h.one _ _ hl)
    ·rw[Int.max_eq_left z];exact Rj _ (QN.mpr rfl)
 obtain⟨v,H,m,le,I⟩:=y;rw[H];refine{λb w j=>?_,λx u=>?_}
 ·rw[EC] at j;by_cases z:b=e.1
  ·rw[if_pos z] at j;cases j;rw[z];exact m
  ·rw[if_neg z] at j;exact Rv _ (h.one _ _ j)
 ·rw[EC];rcases Rw.mp u with u|u
  ·obtain⟨w,j,B⟩:=h.top x u;by_cases z:x.1=e.1
   ·rw[if_pos z];rw[z] at j;exact{v,rfl,Int.le_trans B (I w j)}
   ·rw[if_neg z];exact⟨w,j,B⟩
  ·rw[QN.mp u,if_pos rfl];exact⟨v,rfl,le⟩
def A9 {F:fi}(he:F[i]?=some e):dm (F.take (i+1))=nP (dm (F.take i)) e:=by
 unfold dm;rw[Rz,he,List.foldl_append];rfl
def wJ:∀(F G E:fi),mP G E->mP (G++F) (F.foldl nP E)
 |[],G,E,h=>by rw[RZ];exact h
 | e :: F, G, E, h => by
   have:=wJ F (G++[e]) (nP E e) (Ba h)
   rwa [R5] at this
def qK (F:fi):mP F (dm F):=wJ F [] [] {(λb v h=>by cases h),λ_ h=>nomatch h}
noncomputable def fS (m:aC)(fit:aH->Bool)(E:fi)(b:aH)(v:Int):Bool:=decide (v<=0)||(!fit b&&(List.range m.deeds.length).all λi=>decide (v-(cst m i:Int)<=0)||decide (v-(cst m i:Int)<=(lk E (aO m i b)).getD 0))
def pa (m:aC)(fit:aH->Bool)(N:Int)(F:fi):Bool:=F.all (λe=>gJ m e.1)&&(decide (N<=(lk (dm F) (aL m)).getD (N-1))&&F.all λe=>fS m fit (dm F) e.1 e.2)
def Hl {fit:aH->Bool}(h:fS m fit E b v=true)(le:u<=v):fS m fit E b u=true:=by
 unfold fS at h ⊢;rw[RF] at h ⊢;rcases h with h|h
 ·exact .inl (decide_eq_true (Int.le_trans le (of_decide_eq_true h)))
 ·rw[Qs,QI] at h;refine .inr ?_;rw[Qs,QI];refine{h.1,λi j=>?_};have:=h.2 i j;rw[RF] at this ⊢;rcases this with z|z
  ·have:=of_decide_eq_true z;exact .inl (decide_eq_true `a)
  ·have:=of_decide_eq_true z;exact .inr (decide_eq_true `a)
def AL {fit:aH->Bool}:(F.all λe=>fS m fit E e.1 e.2)=((dm F).all λe=>fS m fit E e.1 ((lk (dm F) e.1).getD 0)):=by
 have H:=qK F;rw[RC,QI,QI];constructor
 ·intro h e B;obtain⟨v,j⟩:∃v,lk (dm F) e.1=some v:=by
   unfold lk;cases z:(dm F).find? λx=>decide (x.1=e.1) with
   |none=>exact absurd (decide_eq_true rfl) (SU.mp z e B)
   |some y=>exact⟨y.2,rfl⟩
  rw[j];exact h (e.1,v) (H.one _ _ j)
 ·intro h e B;obtain⟨v,j,le⟩:=H.top e B;obtain⟨y,u,e1⟩:∃y∈dm F,y.1=e.1:=by
   obtain⟨y,u,_⟩:=Qv.mp j;have z:=List.find?_some u;exact{y,List.mem_of_find?_eq_some u,of_decide_eq_true z}
  have:=h y u;rw[e1,j] at this;exact Hl this le
def lM (e:aH×Int):D:=.tup [bD e.1,.int e.2]
abbrev nU (E:fi):List D:=fZ (λe:aH×Int=>e.1) (λe=>.int e.2) E
def JG:putD (E.map λe=>.tup [bD e.1,.int e.2]) (bD b) (.int v)=(qV E b v).map λe=>.tup [bD e.1,.int e.2]:=by
 have lq:=iV (k:=λe:aH×Int=>e.1) (v:=λe=>D.int e.2) (E:=E) (b:=b);unfold qV putD lk;rw[lq,R3,R3];split
 ·rw[QZ,QZ];refine Rr λe _=>?_;show(if bG (bD e.1) (bD b)=true then D.tup [bD e.1,.int v] else D.tup [bD e.1,.int e.2])=D.tup [bD (if e.1=b then(b,v) else e).1,.int (if e.1=b then(b,v) else e).2];rw[Fg];by_cases h:e.1=b
  ·rw[decide_eq_true h,if_pos rfl,if_pos h,h]
  ·rw[decide_eq_false h,if_neg QP,if_neg h]
 ·rw[Q8];rfl
def Am {E:fi}:(((E.find? λe=>decide (e.1=b)).map λe:aH×Int=>D.int e.2).getD (.int z))=.int ((lk E b).getD z):=by
 unfold lk;cases E.find? λe=>decide (e.1=b)<;>rfl
def Iy:(qV E b v).length<=E.length+1:=by
 unfold qV;split<;>simp
def rE:∀(F E:fi),(F.foldl nP E).length<=E.length+F.length
 |[],E=>Qt _
 | e :: F, E => by
   have:=rE F (nP E e);have:=Iy (E:=E) (b:=e.1) (v:=max e.2 ((lk E e.1).getD e.2));unfold nP at *;rw[List.foldl_cons,RV];omega
def uW:(dm F).length<=F.length:=by
 have:=rE F [];rw[List.length_nil] at this;unfold dm;omega
section
variable{P:Nat->Option Df}{M M1:Mem}{m:aC}{w x:D}{fit:aH->Bool}{F:fi}{Z:Env}{j:Nat}{a b c:GE}
def FV {E:fi}(hi:Z[i]?.getD none=some (.fn (aB j)))(y:Z[k]?.getD none=some (bD e.1))(z:Z[v]?.getD none=some (.int e.2))(h:M[j]?=some (nU E))(hl:E.length<1000000) :
 iD (aa i) (aa k) (qw #[aa v,ip (aa i) (aa k) (aa v)]) Z M=.ok (.next Z) (M.set j (nU (nP E e))):=by
 have u:=AX (aq hi) h (aq y) (aq z) h;rw[Am] at u;have B:qw #[aa v,ip (aa i) (aa k) (aa v)] Z M=.ok (.int (max e.2 ((lk E e.1).getD e.2))) M:=by
  unfold qw;rw[af (aq z) (af u rfl)];show Res.ok (D.int (if e.2<(lk E e.1).getD e.2 then(lk E e.1).getD e.2 else e.2)) M=_
  congr 2
  split
  ·rw[Int.max_eq_right `a]
  ·rw[Int.max_eq_left `a]
 rw[wx B (aq hi) (aq y) (fc h) (la _) (by rw[Qn];exact hl),show aB j-5000=j from RG _ _,JG];rfl
end
section
variable{P:Nat->Option Df}{M M1:Mem}{m:aC}{w x:D}{fit:aH->Bool}{F:fi}{Z:Env}{j:Nat}{a b c:GE}{N:Int}
def Ez {o:jn}{i j:Int}(h1:a Z M=.ok (.int i) M1)(h2:b Z M1=.ok (.int j) M1):au (aK .lt a b) Z M=.ok (decide (i<j)) M1:=by
 unfold au aK;rw[h1];show Res.bind (Res.bind (b Z M1) _) _=_;rw[h2];rfl
def M8 {i j:Int}(h1:a Z M=.ok (.int i) M)(h2:b Z M=.ok (.int j) M):au (aK .gt a b) Z M=.ok (decide (j<i)) M:=by
 unfold au aK;rw[h1];show Res.bind (Res.bind (b Z M) _) _=_;rw[h2];rfl
end
section
variable{P:Nat->Option Df}{M M1:Mem}{m:aC}{w x:D}{fit:aH->Bool}{F E:fi}{Z:Env}{j:Nat}{a b c:GE}{N:Int}
def HF {h:Type}{k:h->aH}{v:h->D}{E:List h}{y:aH}(e:M[j]?=some (fZ k v E)):getD M (aB j) (bD y)=(E.find? λe=>decide (k e=y)).map v:=by
 unfold getD;rw[fc e];show(if isKey 78 (bD y)=true then cx _ (bD y) else none)=_;rw[if_pos (la y),iV]
def AN {y:aH}{v:Int}(u:a Z M=.ok (.fn (aB j)) M)(B:b Z M=.ok (bD y) M)(e:M[j]?=some (nU E))(h:lk E y=some v):cZ a b Z M=.ok (.int v) M:=by
 refine pK (x:=.non) u B ?_;rw[HF e];unfold lk at h;obtain⟨z,H,rfl⟩:=Qv.mp h;rw[H];rfl
def La (h:ae r λx M'=>x=z/\M'=M1):r=.ok z M1:=by
 obtain⟨a,M',e,rfl,rfl⟩:=dG.mp h;exact e
def Gb (n:Nat)(h181:P 181=some {1,4,dF})(hl:F.length<=1000):ag P (n+1) 181 [.lst (F.map lM)] M=.ok (.fn (aB M.length)) (M++[nU (dm F)]):=by
 refine La (aE h181 rfl ?_);show ae (dF (ag P n) [some (.lst (F.map lM)),none,none,none] M) _;refine c7 (cX rfl) ?_;simp only[List.set];rw[aJ,jX,iC,aq rfl,bg];refine{rfl,?_};refine fv (λi Z h=>h=M++[nU (dm (F.take i))]/\∃u v,Z=[some (.lst (F.map lM)),some (.fn (aB M.length)),u,v]) (λ_ _ _ _=>rfl) ⟨rfl,none,none,rfl⟩ ?_ ?_
 ·rintro i d Z h hd ⟨rfl,u,v,rfl⟩;rw[QO] at hd;obtain⟨e,y,rfl⟩:=Qv.mp hd;have B:=(Qm.mp y).1;refine{_,rfl,?_};have z:(M++[nU (dm (F.take i))])[M.length]?=some (nU (dm (F.take i))):=`s
  refine c7 (FV rfl rfl rfl z (by have:=uW (F:=F.take i);rw[Sa] at this;omega)) ?_
  refine{_,rfl,?_,_,_,rfl};rw[s8 rfl,<- A9 y]
 ·rintro Z h ⟨rfl,u,v,rfl⟩;rw[Qn,RD (Qt _),b7];exact cD rfl ⟨rfl,rfl⟩
def B7 (n:Nat){k K:Nat}(h152:P 152=some {2,2,dE})(h182:P 182=some {4,8,dR})(hm:aA m)(h81:∀(M:Mem) (b:aH),gJ m b=true->ag P (n+1) 81 [bD b,w] M=.ok (.bl (fit b)) M)
 (B:∀i<m.deeds.length,M[K+i]?=some (eI m (bC m i))) (L:M[k]?=some (nU E)) (hy:gJ m y=true) (hv:lk E y=some v):ag P (n+2) 182 [bP m K,w,.fn (aB k),bD y] M=.ok (.bl (fS m fit E y v)) M:=by
 have ok:=wM hy;have d6:=hm.d6;refine ah (aE h182 rfl ?_);show ae (dR (ag P (n+1)) [some (bP m K),some w,some (.fn (aB k)),some (bD y),none,none,none,none] M) _;unfold dR;refine bJ (cj (AN rfl rfl L hv)) ?_;simp only[List.set];have t1:au (aK .le (aa 4) (gI 0)) [some (bP m K),some w,some (.fn (aB k)),some (bD y),some (.int v),none,none,none] M=.ok (decide (v<=0)) M:=rfl;unfold fS;cases W:decide (v<=0) with
 | true =>
   rw[W] at t1;exact iT t1 rfl ⟨rfl,rfl⟩
 | false =>
   rw[W] at t1;refine c8 t1 ?_;have t2:=cg (Z:=[some (bP m K),some w,some (.fn (aB k)),some (bD y),some (.int v),none,none,none]) ((a5 (af (a:=aa 3) rfl (af (a:=aa 1) (s:=c9) rfl rfl))).trans (h81 M y hy));cases X:fit y with
   | true =>
     rw[X] at t2;exact iT t2 rfl ⟨rfl,rfl⟩
   | false =>
     rw[X] at t2;refine c8 t2 ?_;have H:∀j,(decide (v-(cst m j:Int)<=0)||decide (v-(cst m j:Int)<=(lk E (aO m j y)).getD 0))=!(decide (0<v-(cst m j:Int))&&decide ((lk E (aO m j y)).getD 0<v-(cst m j:Int))):=λj=>by
      rw[RC,RF,decide_eq_true_iff,decide_eq_true_iff,Sr,Bool.and_eq_false_iff,decide_eq_false_iff_not,decide_eq_false_iff_not];exact{λh=>`a,λh=>`a}
     rw[aJ,jX,iC,aq rfl,bg];refine{rfl,?_};refine qz (λi Z u=>u=M/\(∀j<i,(decide (0<v-(cst m j:Int))&&decide ((lk E (aO m j y)).getD 0<v-(cst m j:Int)))=false)/\∃R S J,Z=[some (bP m K),some w,some (.fn (aB k)),some (bD y),some (.int v),R,S,J]) (λfl u=>fl=.ret (.bl false)/\u=M/\∃j<m.deeds.length,(decide (0<v-(cst m j:Int))&&decide ((lk E (aO m j y)).getD 0<v-(cst m j:Int)))=true) (λfl M h Z e=>by rw[h.1] at e;cases e) (λ_ _ _ _=>rfl) (λ_ _ _=>rfl) {rfl,(λ_ h=>absurd h (Sn _)),_,_,_,rfl} ?_ ?_ ?_
     ·rintro i d Z u hd ⟨rfl,I,R,S,J,rfl⟩;rw[QO] at hd;obtain⟨i',ei,rfl⟩:=Qv.mp hd;obtain⟨Y,rfl⟩:i<m.deeds.length/\i=i':=by
       obtain⟨h1,h2⟩:=Qm.mp ei;rw[Rx] at h1;rw[List.getElem_range] at h2;exact⟨h1,h2⟩
      refine{_,rfl,?_};have el:ak false .sub (aa 4) (aa 5) [some (bP m K),some w,some (.fn (aB k)),some (bD y),some (.int v),some (nD (cst m i)),some (.fn (aB (K+i))),J] u=.ok (.int (v-(cst m i:Int))) u:=(qJ (aq rfl) (aq rfl)).trans rfl;refine bJ (cj el) ?_;simp only[List.set];have e5:=zt h152 n (B i Y) hm (by rw[ok.1];exact dD hm) ok.2
      have U:=AX (Z:=[some (bP m K),some w,some (.fn (aB k)),some (bD y),some (.int v),some (nD (cst m i)),some (.fn (aB (K+i))),some (.int (v-(cst m i:Int)))]) (a:=aa 2) (c:=gC (.int 0)) rfl L ((a5 (af (a:=aa 6) rfl (af (a:=aa 3) (s:=c9) rfl rfl))).trans e5) rfl L;rw[Am] at U;have tt:=Ez (o:=.lt) U (b:=aa 7) rfl;have tq:=M8 (M:=u) (Z:=[some (bP m K),some w,some (.fn (aB k)),some (bD y),some (.int v),some (nD (cst m i)),some (.fn (aB (K+i))),some (.int (v-(cst m i:Int)))]) (a:=aa 7) (b:=gC (.int 0)) rfl rfl;have tb:=qN tq tt;rw[show y.map (bx (bC m i))=aO m i y from rfl] at tb;cases z:(decide (0<v-(cst m i:Int))&&decide ((lk E (aO m i y)).getD 0<v-(cst m i:Int))) with
      | true =>
        rw[z] at tb;exact iT tb rfl (.inr ⟨rfl,rfl,i,Y,z⟩)
      | false =>
        rw[z] at tb;refine c8 tb (.inl {_,rfl,rfl,λk Q=>?_,_,_,_,rfl});rcases Nat.lt_succ_iff_lt_or_eq.mp Q with Q|rfl
        ·exact I k Q
        ·exact z
     ·rintro Z u ⟨rfl,I,R,S,J,rfl⟩;rw[Qn,Rx] at I;rw[b7];refine cD rfl {congrArg D.bl ?_,rfl};rw[List.all_eq_true.mpr λj O=>by rw[H,I j (RT.mp O)];rfl];rfl
     ·rintro fl u ⟨rfl,rfl,j,O,z⟩;refine{congrArg D.bl ?_,rfl}
      symm
      rw[Bool.false_or,Bool.eq_false_iff];intro q;rw[Qs] at q;have:=QI.mp q.2 j (RT.mpr O);rw[H,z] at this;cases this
def Ks (h:e∈E):∃v,lk E e.1=some v:=by
 unfold lk;cases z:E.find? λx=>decide (x.1=e.1) with
 |none=>exact absurd (decide_eq_true rfl) (SU.mp z e h)
 |some y=>exact⟨y.2,rfl⟩
def Kt:(E.any λe=>decide (e.1=y))=(lk E y).isSome:=by
 unfold lk;rw[R3,RC,List.find?_isSome,SJ]
def zp (n:Nat)(y:HasB0 P)(U:jL P)(h14:P 14=some {2,5,cM})(h15:P 15=some {1,6,bz})(h151:P 151=some {1,2,dz})(h152:P 152=some {2,2,dE})(h176:P 176=some {2,3,eP})(h181:P 181=some {1,4,dF})(h182:P 182=some {4,8,dR})(h183:P 183=some {4,7,kz})(hm:aA m)
 (h80:∀M:Mem,ag P (n+11) 80 [m.d,w] M=.ok .non M) (h81:∀(M:Mem) (b:aH),gJ m b=true->ag P (n+10) 81 [bD b,w] M=.ok (.bl (fit b)) M) (hl:F.length<=1000) (ll:∀e∈F,Loose e.1) :
 ae (ag P (n+12) 183 [m.d,w,.int N,.lst (F.map lM)] M) λd M'=>d=.bl (pa m fit N F)/\Sub M M':=by
 refine aE h183 rfl ?_;show ae (kz (ag P (n+11)) [some m.d,some w,some (.int N),some (.lst (F.map lM)),none,none,none] M) _;unfold kz;refine bJ (uC ((dC (af rfl (af rfl rfl))).trans (h80 M))) ?_;have ek:a9 false 2 (.tup [0,1]) (bT (aa 3)) (bb (aa 0)) [some m.d,some w,some (.int N),some (.lst (F.map lM)),none,none,none] M=.ok (.lst ((F.map (·.1)).map bD)) M:=by
  refine ah ?_;rw[dg,iC,aq rfl,bg];refine{rfl,du (λd=>match d with|.tup [z,_]=>z|_=>.non) (ay (by rw[Qn];omega)) rfl (λd hd=>?_) ?_}
  ·obtain⟨e,_,rfl⟩:=QC.mp hd;exact{_,rfl,rfl}
  ·rw[QZ,QZ];exact bE.mpr {ay (by rw[Qn];omega),rfl,rfl}
 have e1:=Gg y h14 h15 h176 (n+1) (M:=M) hm (L:=F.map (·.1)) (by rw[Qn];omega) (λb hb=>by obtain⟨e,R,rfl⟩:=QC.mp hb;exact ll e R)
 rw[List.all_map] at e1;have t1:=tW (cg ((a5 (af (a:=aa 0) rfl (af (s:=c9) ek rfl))).trans e1));unfold pa;cases Q:F.all (λe=>gJ m e.1) with
 | false =>
   exact iT (t1.trans (by rw[show F.all (gJ m∘λx=>x.1)=false from Q];rfl)) rfl {rfl,.refl}
 | true =>
   refine c8 (t1.trans (by rw[show F.all (gJ m∘λx=>x.1)=true from Q];rfl)) ?_
   have bh:=QI.mp Q;refine c7 (cX ((a5 (af rfl rfl)).trans (Gb (n+10) h181 hl))) ?_;simp only[List.set];have h:=qK F;rw[AL];have bl:=uW (F:=F);generalize hE:dm F=E at h bl ⊢;generalize B:M++[nU E]=u;have J:u[M.length]?=some (nU E):=by rw[<- B];simp
   have s2:Sub M u:=by rw[<- B];exact .app
   have et:aN .tuple #[ai 15 (ag P (n+11)) #[aa 0]] [some m.d,some w,some (.int N),some (.lst (F.map lM)),some (.fn (aB M.length)),none,none] u=.ok (bD (aL m)) u:=by
    refine ah (bU.mpr ?_);rw[af ((a5 (af rfl rfl)).trans (gV y h15 (n+2) hm)) rfl,bg];exact⟨rfl,rfl⟩
   refine bJ (cj et) ?_;simp only[List.set];have t2:=Lz (Z:=[some m.d,some w,some (.int N),some (.lst (F.map lM)),some (.fn (aB M.length)),some (bD (aL m)),none]) (n:=true) (a:=aa 5) rfl (b:=aa 4) rfl (E7 J);rw[Kt] at t2;rw[Bool.true_and];cases S:lk E (aL m) with
   | none =>
     rw[S] at t2;refine iT (by unfold eX;rw[t2];rfl) rfl {congrArg D.bl ?_,s2}
     rw[show(none:Option Int).getD (N-1)=N-1 from rfl,decide_eq_false `a];rfl
   | some O =>
     rw[S] at t2;have t3:au (aK .lt (cZ (aa 4) (aa 5)) (aa 2)) [some m.d,some w,some (.int N),some (.lst (F.map lM)),some (.fn (aB M.length)),some (bD (aL m)),none] u=.ok (decide (O<N)) u:=Ez (o:=.lt) (AN rfl rfl J S) rfl;have t4:=m5 t2 t3;show ae _ (jd λd M'=>d=D.bl (decide (N<=O)&&_)/\_);by_cases hN:O<N
     ·refine iT (t4.trans (by rw[decide_eq_true hN];rfl)) rfl {congrArg D.bl ?_,s2}
      rw[decide_eq_false `a];rfl
     ·refine c8 (t4.trans (by rw[decide_eq_false hN];rfl)) ?_
      rw[decide_eq_true (show N<=O by omega),Bool.true_and]
      refine c7 (nN ((dC (af rfl rfl)).trans (sW y U h15 h151 (n+1) hm))) ?_;simp only[List.set];generalize H:u++m.deeds.map (eI m)=Y;have X:Sub u Y:=by rw[<- H];exact .app
      have I:∀i<m.deeds.length,Y[u.length+i]?=some (eI m (bC m i)):=λi hi=>by
       rw[<- H,QY (R9 _ _),RG,QO,QE hi];rw[qE (QE hi)];rfl
      have ec:=Ly (Z:=[some m.d,some w,some (.int N),some (.lst (F.map lM)),some (.fn (aB M.length)),some (bD (aL m)),some (bP m u.length)]) (j:=4) (ge:=ai 182 (ag P (n+11)) #[aa 7,aa 2,aa 5,aa 0]) (λe=>D.bl (fS m fit E e.1 ((lk E e.1).getD 0))) rfl (X.get J) `a (λd=>.bl (fS m fit E (yP d) ((lk E (yP d)).getD 0))) (λe _=>by rw[sJ]) (λe R=>by
       obtain⟨v,W⟩:=Ks R;rw[W];exact(a5 (af rfl (af rfl (af rfl (af rfl rfl))))).trans (B7 (n+9) h152 h182 hm h81 I (X.get J) (bh (e.1,v) (h.one _ _ W)) W))
      refine cD (ah ?_) {rfl,s2.trans X};rw[bU,af ec rfl,bg];refine qO.mpr {E.map λe=>fS m fit E e.1 ((lk E e.1).getD 0),?_,?_,rfl}
      ·rw[<- uT,QZ];rfl
      ·rw[List.all_map];rfl
end
def fB (b:aH):List D:=b.map λs=>nD (s.headD 0)
def oJ {m:aC}{s:List Nat}(hm:aA m)(hs:bV m s):∃r,aj s=.tup (nD (s.headD 0)::r)/\s.headD 0<m.words:=by
 cases s with
 |nil=>have h:0=m.places:=hs.1;have:=hm.p1;omega
 |cons x r=>exact{r.map nD,rfl,hs.2 x QB}
def ur {m:aC}{b:aH}(hm:aA m)(hl:b.length=(aL m).length)(hs:∀s∈b,bV m s):kA m (fB b):=by
 refine{by rw[fB,Qn];exact hl,λx j=>?_}
 obtain⟨s,h,rfl⟩:=QC.mp j;obtain⟨r,_,h⟩:=oJ hm (hs s h);exact .inr {_,rfl,h}
def nt {m:aC}(hm:aA m):∀{b:aH},(∀s∈b,bV m s)->jc (fB b) b=true
 |[],_=>rfl
 | s :: b, hs => by
   obtain⟨r,e,_⟩:=oJ hm (hs s QB);show(mv (.tup [aj s,nD (s.headD 0)])&&jc (fB b) b)=true;rw[nt hm λt h=>hs t (Qu _ h),e];show((false||((s.headD 0:Nat):Int)==(s.headD 0:Nat))&&true)=true;rw[beq_self_eq_true];rfl
section
variable{M M1:Mem}{Z:Env}{g a:GE}
def uq {b:aH}{m:aC}(hm:aA m)(hs:∀s∈b,bV m s)(hl:b.length<=100000)(e:g Z M=.ok (.tup (b.map aj)) M1) :
 aN .tuple #[a9 false 1 (.one 0) (bT g) (bb (av (aa 0) (gI 0)))] Z M=.ok (.tup (fB b)) M1:=by
 obtain⟨d,u,e1,rfl,rfl⟩:=dG.mp (show ae (a9 false 1 (.one 0) (bT g) (bb (av (aa 0) (gI 0))) Z M) λd u=>d=.lst (fB b)/\u=M1 by
  rw[dg,iC,e,bg];refine{rfl,?_};refine comp_map (ds:=b.map aj) (λi j u=>u=M1/\j=fB (b.take i)) (ay (by rw[Qn];omega)) (λi j u h=>rfl) ⟨rfl,rfl⟩ ?_ ?_
  ·rintro i d j u hd _ ⟨rfl,rfl⟩;rw[QO] at hd;obtain⟨s,v,rfl⟩:=Qv.mp hd;obtain⟨r,y,_⟩:=oJ hm (hs s (Q9 v));refine{_,rfl,?_};rw[y,bp rfl rfl fJ,bg,Rz,v];refine{rfl,?_};unfold fB;rw[Q8];rfl
  ·rintro j u _ ⟨rfl,rfl⟩;rw[Qn,List.take_length];exact bE.mpr {ay (by rw[fB,Qn];omega),rfl,rfl})
 show(#[_] Z M).bind _=_;rw[cL e1 rfl];rfl
def wb {ds:List D}(hl:ds.length<=100000)(h:a Z M=.ok (.lst ds) M):aN (.list false) #[a] Z M=.ok (.lst ds) M:=by
 refine ah (bU.mpr ?_);rw[af h rfl,bg];exact ub.mpr (bE.mpr {ay hl,rfl,rfl})
end
structure jM (P:Nat->Option Df):Prop where
 m:HasM P
 b:HasB P
 p:HasP P
 h14:P 14=some {2,5,cM}
 h15:P 15=some {1,6,bz}
 h19:P 19=some {2,2,mJ}
 h27:P 27=some {2,2,fN}
 h35:P 35=some {3,6,gL}
 h44:P 44=some {2,5,fO}
 h46:P 46=some {2,2,gm}
 h47:P 47=some {2,2,dQ}
 h79:P 79=some {2,2,jI}
 h80:P 80=some {2,2,jR}
 h81:P 81=some {2,2,ir}
 h84:P 84=some {2,2,h9}
 h151:P 151=some {1,2,dz}
 h152:P 152=some {2,2,dE}
 h160:P 160=some {2,3,eW}
 h165:P 165=some {3,11,gK}
 h166:P 166=some {2,6,jg}
 h167:P 167=some {2,7,nK}
 h176:P 176=some {2,3,eP}
 h181:P 181=some {1,4,dF}
 h182:P 182=some {4,8,dR}
 h183:P 183=some {4,7,kz}
 h187:P 187=some {1,10,dZ}
 h188:P 188=some {1,8,d8}
 h189:P 189=some {1,7,nM}
def Em:kr (.str "row") (.str "none")=some false/\kr (.str "many") (.str "none")=some false/\kr (.str "many") (.str "row")=some false/\kr (.str "row") (.str "row")=some true:=`k
section
variable{P:Nat->Option Df}{M:Mem}{m:aC}{ws:List D}{r:List Nat}{t p B:Nat}{x0 x3 x4 x5 x6:Option D}{kf:Fl->Mem->Prop}
def k9 (h:jM P)(n:Nat)(hm:aA m)(j:kA m ws):fb (ag P (n+12) 167 [m.d,.tup ws] M) (λd M'=>(yv m (jc ws) M.length d M'\/DD m (jc ws) M.length d M')/\Sub M M') (λx M'=>x=.exc 8 none/\ix m none/\Sub M M'):=
 B6 (n+11) (λM=>zr h.m.toHasM0.toHasB0 h.m.r h.h15 h.h151 h.h152 h.h165 h.h166 n hm) (λM=>Ab h.m.toHasM0.toHasB0 h.h15 h.h79 h.h80 n hm j) (λM q b lq=>Nb (n+10) h.h81 hm j lq) h.h167
def mh {fit:aH->Bool}{b:aH}{q j:Nat}{d:D}(hr:gn m q b)(u:fit b=true)(hd:yv m fit j d M\/DD m fit j d M):∃(E:F3) (e:aH×Nat×Nat) (r:List Nat) (c:Nat),d=.tup [.str "row",nD e.2.1,.cell e.2.2,.cell c]/\e.2.1<=q/\fit e.1=true/\M[e.2.2]?=some (r.map nD)/\dI m r e.1 e.2.1/\
 M[c]?=some ((E.filter λx=>decide (x.2.1<=e.2.1)).map λx=>.tup [bD x.1,nD (e.2.1-x.2.1)])/\AllIn m none ((un E).map pr)/\E.length<=255/\∀x∈E,fit x.1=true->e.2.1<=x.2.1:=by
 obtain⟨H,J,hl⟩:=jx hr;rcases hd with⟨E,c,rfl,_,_,all,_,no⟩|⟨E,e,r,c,rfl,I,y,v,h1,h2,h3,h4,F,all,few⟩
 ·have z:=all.mem.mpr hl;rw[mR] at z;obtain⟨x,h,ex⟩:=QC.mp z;have:=no x h;rw[show x.1=b from congrArg Prod.fst ex,u] at this;cases this
 ·refine{E,e,r,c,rfl,?_,y,h3,h4,F,all,few,v};have z:=all.mem.mpr hl;rw[mR] at z;obtain⟨x,h,ex⟩:=QC.mp z;have:=v x h (by rw[show x.1=b from congrArg Prod.fst ex];exact u)
  rw[show x.2.1=H from congrArg Prod.snd ex] at this;omega
def y8 (h:jM P)(R:t<6)(Q:aI M p B)(hB:B<=400000)
 (kk:∀M' X Y z5 z6,aI M' p (B+400)->kf (.next [x0,some (.cell p),some (nD t),X,Y,z5,z6]) M') :
 ae (sL (ag P 39) [x0,some (.cell p),some (nD t),x3,x4,x5,x6] M) kf:=by
 unfold sL;refine eD (k:=λd M'=>∃m:aC,d=m.d/\aA m/\aI M' p (B+300)) ?_ ?_
 ·rw[AV,bS,a5 (xs:=[.cell p]) (af rfl rfl)];refine aU (vF h.p.toHasP0 38 Q) ?_;rintro _ O ⟨rfl,p1,k1⟩;rw[bS];refine bo.mpr {_,rfl,cT.mpr ?_};refine aU (F2 h.p h.h160 33 R p1 `a) ?_
  rintro d v ⟨m,e,hm,p2,_⟩;exact⟨m,e,hm,p2⟩
 rintro _ O ⟨m,rfl,hm,p1⟩;obtain⟨d,v,e2,r,rfl,hr,_,p2,_⟩:=dG.mp (F4 h.p h.h35 36 (mo:=40) hm p1 `a `d)
 refine c7 (cX ((a5 (xs:=[.cell p,m.d,nD 40]) (af rfl (af rfl (af rfl rfl)))).trans e2)) ?_;have u:dI m r (ends m r) (d5 m r):=⟨hr.2,rfl,rfl⟩;obtain⟨U,os⟩:=i6 hm u.rch;have bl:=dD hm;have j:(r.map nD).length<=100000:=by rw[Qn];have:=hr.1;omega
 have L:=I9 h.m h.h15 h.h27 h.h46 28 (M:=v) hm hr;rw[Be] at L;refine c7 (cX (uq hm os `a ((a5 (xs:=[m.d,qh r]) (af rfl (af (wb j rfl) rfl))).trans L))) ?_
 refine c7 (cX (dS (xs:=[.str "many"]) (af rfl rfl) `d)) ?_
 simp only[List.set];have S:=ur hm U os;have F:aI (v++(aL m).map λs=>(ee m r s).map aj) p (B+400):=(p2.mono `a).app
 generalize v++(aL m).map (λs=>(ee m r s).map aj)=I at F;have t:=k9 (M:=I) h 27 hm S;rw[aJ,Ce,aJ,vG,dC (xs:=[m.d,.tup (fB (ends m r))]) (af rfl (af rfl rfl))];cases e:ag P 39 167 [m.d,.tup (fB (ends m r))] I with
 |bad=>rw[e] at t;exact t.elim
 | err y E =>
   rw[e] at t;obtain⟨rfl,mn,H⟩:=t;refine{8,none,rfl,.inl rfl,?_};refine c7 (cX (dS (xs:=[.str "many"]) (af rfl rfl) `d)) ?_
   rw[zE];dsimp only[List.set];rw[b7];refine c8 (m5 (x:=false) (y:=false) (cg (fe (x:=.str "many") (bp rfl rfl fJ) rfl (bN Em.2.1 _))) ?_) (kk E _ _ _ _ (H.pen F));exact Bj (b:=false) (cg (fe (x:=.str "many") (bp rfl rfl fJ) rfl (bN Em.2.2.1 _))) (λz=>nomatch z)
 | ok d E =>
   rw[e] at t;obtain⟨W,H⟩:=t;obtain⟨_,J,_,c,rfl,le,_⟩:=mh u.rch (nt hm os) W;show ae _ _;refine c8 (m5 (x:=false) (y:=false) (cg (fe (x:=.str "row") (bp rfl rfl fJ) rfl (bN Em.1 _))) ?_) (kk E _ _ _ _ (H.pen F));refine Bj (b:=true) (cg (fe (x:=.str "row") (bp rfl rfl fJ) rfl (bN Em.2.2.2 _))) λ_=>cg (fe (x:=nD J.2.1) (y:=nD (d5 m r)) (bp rfl rfl rfl) ((a5 (xs:=[m.d,qh r]) (af rfl (af (wb j rfl) rfl))).trans (vE h.m.toHasM0 h.h19 h.h47 29 hm hr)) ?_);show some (decide ((d5 m r:Int)<(J.2.1:Int)))=some false;rw[decide_eq_false `a]
end
def cE (w:Nat):List Nat:=(List.range w).map λk=>(k+1) % w
noncomputable def xm (w k:Nat)(s:List Nat):List Nat:=(s.headD 0+k) % w::s.tail
noncomputable def cV (w k:Nat)(b:aH):aH:=b.map (xm w k)
structure vb (m:aC) (c:Nat):Prop where
 ok:aA m
 deed:∀d∈m.deeds,d=.turn 0 (cE m.words) c\/∃c',d=.move 0 0 c'
 has:.turn 0 (cE m.words) c∈m.deeds
section
variable{m:aC}{c q k many:Nat}{b:aH}{s:List Nat}
def qe (hm:aA m)(hs:bV m s):∃x r,s=x::r/\x<m.words:=by
 cases s with
 |nil=>have h:0=m.places:=hs.1;have:=hm.p1;omega
 |cons x r=>exact{x,r,rfl,hs.2 x QB}
def tj (j:0<w):bx (.turn 0 (cE w) c) (xm w k s)=xm w (k+1) s:=by
 show((cE w).getD ((s.headD 0+k) % w) 0)::s.tail=(s.headD 0+(k+1)) % w::s.tail;have h:=Nat.mod_lt (s.headD 0+k) j;unfold cE;rw[Rn,QO,SM h];show((s.headD 0+k) % w+1) % w::_=_;rw[Nat.mod_add_mod,Sj]
def Cg:bx (.move 0 0 c) (x::s)=x::s:=rfl
def ti (hm:aA m):cV m.words 0 (aL m)=aL m:=by
 unfold cV;refine(Rr λs hs=>?_).trans (List.map_id _);obtain⟨x,r,rfl,h⟩:=qe hm (gj s hs);show(x+0) % m.words::r=x::r;rw[Nat.add_zero,Nat.mod_eq_of_lt h]
def Gr:cV w k b=cV w (k % w) b:=by
 unfold cV;refine Rr λs _=>?_;unfold xm;rw[Nat.add_mod_mod]
def Ci (h:vb m c)(hi:i<m.deeds.length):(aO m i (cV m.words k b)=cV m.words (k+1) b/\cst m i=c)\/aO m i (cV m.words k b)=cV m.words k b:=by
 have w2:=h.ok.w2;unfold aO cst cV;rcases h.deed (bC m i) (getD_mem hi) with e|⟨j,e⟩<;>rw[e,QZ]
 ·exact .inl {Rr λs _=>tj `a,rfl}
 ·exact .inr (Rr λs _=>Cg)
def vJ (h:vb m c)(hr:gn m q b):∃k,b=cV m.words k (aL m)/\k*c<=q:=by
 induction hr with
 |start=>exact{0,(ti h.ok).symm,`a}
 | @step q b i _ j v =>
   obtain⟨k,rfl,u⟩:=v;rcases Ci h j (k:=k) (b:=aL m) with⟨e,e2⟩|e
   ·exact{k+1,e,by rw[e2,Nat.add_mul,Nat.one_mul];omega}
   ·exact{k,e,QF u (R9 _ _)}
def zJ (h:vb m c):∀k,gn m (k*c) (cV m.words k (aL m))
 |0=>by rw[ti h.ok,Nat.zero_mul];exact .start
 | k + 1 => by
   have w2:=h.ok.w2;obtain⟨i,u,e⟩:=List.getElem_of_mem h.has;have j:bC m i=.turn 0 (cE m.words) c:=by unfold bC;rw[Rn,QE u,e];rfl
   have:=(zJ h k).step u;rw[Nat.add_mul,Nat.one_mul];have e2:aO m i (cV m.words k (aL m))=cV m.words (k+1) (aL m):=by
    unfold aO cV;rw[j,QZ];exact Rr λs _=>tj `a
   rw[e2,show cst m i=c by unfold cst;rw[j];rfl] at this
   exact this
def Gw (h:vb m c):¬ ix m none:=by
 rintro⟨p,l,nd,hl,j⟩;have w4:=h.ok.w4;have w2:=h.ok.w2;have:=len_sub (l':=(List.range m.words).map λk=>cV m.words k (aL m)) nd λx u=>by
  obtain⟨y,v,rfl⟩:=QC.mp u;obtain⟨k,e,_⟩:=vJ h (hl y v).1.1;rw[e,Gr];exact QC.mpr {_,RT.mpr (Nat.mod_lt _ `a),rfl}
 rw[Qn,Qn,Rx] at this;omega
def tm (hm:aA m):(cV m.words k (aL m)).length=(aL m).length/\∀s∈cV m.words k (aL m),bV m s:=by
 refine{Qn _,λs hs=>?_};obtain⟨t,j,rfl⟩:=QC.mp hs;have w2:=hm.w2;obtain⟨x,r,rfl,u⟩:=qe hm (gj t j);have o:=gj _ j;refine{o.1,λy h=>?_};rcases Q1.mp h with rfl|h
 ·exact Nat.mod_lt _ `a
 ·exact o.2 y (Qu _ h)
def uA:∀{b j:aH},jc (fB b) j=true->b.length=j.length->j.map (·.headD 0)=b.map (·.headD 0)
 |[],[],_,_=>rfl
 |s::b,[],_,e=>nomatch e
 |[],s::b,_,e=>nomatch e
 | s :: b, t :: j, h, e => by
   have h:(mv (.tup [aj t,nD (s.headD 0)])&&jc (fB b) j)=true:=h;rw[Qs] at h;rw[RI,RI,uA h.2 (Nat.succ.inj e)]
   congr 1
   cases t with
   |nil=>exact nomatch h.1
   | cons x r =>
     have:(false||((x:Int)==(s.headD 0:Nat)))=true:=h.1;rw[Bool.false_or] at this;have:=eq_of_beq this;show x=s.headD 0;omega
def zH (h:vb m c)(v:many<m.words)(hr:gn m q b)(j:jc (fB (cV m.words many (aL m))) b=true):many*c<=q:=by
 obtain⟨k,rfl,u⟩:=vJ h hr;have e:=uA j (by rw[(tm h.ok).1,(tm h.ok).1])
 unfold cV at e;rw[QZ,QZ] at e;obtain⟨s,hs⟩:=List.exists_mem_of_length_pos (Dw h.ok);have e:(s.headD 0+k) % m.words=(s.headD 0+many) % m.words:=List.map_inj_left.mp e s hs;have w2:=h.ok.w2;have w4:=h.ok.w4;have le:many<=k:=by
  generalize s.headD 0=x at e;generalize m.words=w at *;have:w=2\/w=3\/w=4:=`a
  rcases this with rfl|rfl|rfl<;>omega
 exact QF (Nat.mul_le_mul_right c le) u
end
section
variable{P:Nat->Option Df}{M M1 M2 M3:Mem}{Z:Env}{g a gi d:GE}{rest:GS}{K:Fl->Mem->Prop}{p B c many n j:Nat}
def AU (h:HasP0 P)(u:Z[j]?.getD none=some (.cell p))(y:g Z M=.ok (nD many) M)(F:aI M p B)(E:B<=1000000)(z:0<many)(h1:many<=10000000) :
 ∃(v:Nat) (M':Mem),ak false .add (gC (.int (c:Nat))) (ai 31 (ag P (n+2)) #[aa j,g]) Z M=.ok (nD (c+v)) M'/\v<many/\aI M' p (B+1)/\bf p M M':=by
 obtain⟨_,M',e,v,rfl,H,q,k⟩:=dG.mp (fL h n u y F E z h1);refine{v,M',?_,H,q,k};unfold ak;show(ai 31 _ _ Z M).bind _=_;rw[e];rfl
def pb {i:Nat}(h:HasP0 P)(u:Z[j]?.getD none=some (.cell p))(y:g Z M=.ok (nD many) M)(H:aI M p B)(E:B<=1000000)(z:0<many)(h1:many<=10000000)
 (F:∀(v:Nat) (M':Mem),v<many->aI M' p (B+1)->bf p M M'->ae (rest (Z.set i (some (nD (c+v)))) M') K):ae (aY (ax (.one i) (ak false .add (gC (.int (c:Nat))) (ai 31 (ag P (n+2)) #[aa j,g]))) rest Z M) K:=by
 obtain⟨v,M',e,I,q,k⟩:=AU (c:=c) (n:=n) h u y H E z h1;exact c7 (cX e) (F v M' I q k)
def KS {k h:Nat}{z:D}{ds:List D}(v:a Z M=.ok (.cell k) M)(hi:gi Z M=.ok (nD h) M1)(hd:d Z M1=.ok z M2)(u:M2[k]?=some ds)(hl:ds.length<=100000)(y:h<=ds.length):tf a gi d Z M=.ok (.next Z) (M2.set k (ds.take h++z::ds.drop h)):=by
 unfold tf;rw[v];show(gi Z M).bind _=_;rw[hi];show(d Z M1).bind _=_;rw[hd];show(match M2[k]? with|some ds=>if ds.length<sz/\(0:Int)<=(h:Int)/\(h:Int).toNat<=ds.length then Res.ok (Fl.next Z) (M2.set k (ds.take (h:Int).toNat++z::ds.drop (h:Int).toNat)) else .bad|_=>.bad)=_
 rw[u];show(if _ then _ else _)=_;rw[if_pos {QT (Nat.lt_succ_of_le hl) (QJ rfl),`a,`a},RP]
def IV {w:Nat}(h1:Z[1]?.getD none=some (nD w))(w2:2<=w)(w4:w<=4):aN .tuple #[a9 false 1 (.one 0) (dH (aa 1)) (bb (ak false .mod (ak false .add (aa 0) (gI 1)) (aa 2)))] Z M=.ok (aj (cE w)) M:=by
 refine ah ?_;rw[bU,bS,dg,gq,bo];refine{_,h1,_,rfl,{`a,`a},?_}
 exact oP (λk=>(k+1) % w) `a (λk h=>pE (iX (aq rfl) rfl) h1 `a) (bE.mpr {ay `o,rfl,rfl})
def BK {m:aC}{b:aH}(hl:b.length<=100000)(hs:∀s∈b,bV m s)(hm:aA m)(e:g Z M=.ok (.lst (b.map aj)) M)(h1:Z[1]?.getD none=some (nD m.words))(z:Z[5]?.getD none=some (nD many)) :
 aN .tuple #[a9 false 1 (.one 0) (bT g) (bb (ak false .mod (ak false .add (av (aa 0) (gI 0)) (aa 6)) (aa 2)))] Z M=.ok (.tup (fB (cV m.words many b))) M:=by
 refine ah ?_;rw[bU,bS,dg,iC,e,bg];refine{rfl,?_};refine comp_map (ds:=b.map aj) (λi u v=>v=M/\u=fB (cV m.words many (b.take i))) (ay (by rw[Qn];omega)) (λi u v h=>rfl) ⟨rfl,rfl⟩ ?_ ?_
 ·rintro i d u v hd _ ⟨rfl,rfl⟩;rw[QO] at hd;obtain⟨s,y,rfl⟩:=Qv.mp hd;obtain⟨x,r,rfl,_⟩:=qe hm (hs s (Q9 y));have w2:=hm.w2;have e1:ak false .mod (ak false .add (av (aa 0) (gI 0)) (aa 6)) (aa 2) (some (aj (x::r))::Z) v=.ok (nD ((x+many) % m.words)) v:=pE (j:=2) (iX (bp rfl rfl fJ) (aq (j:=6) z)) h1 `a
  refine{_,rfl,?_};show ae (ak false .mod (ak false .add (av (aa 0) (gI 0)) (aa 6)) (aa 2) (some (aj (x::r))::Z) v) _;rw[e1,bg,Rz,y];refine{rfl,?_};unfold fB cV;rw[Q8,Q8];rfl
 ·rintro u v _ ⟨rfl,rfl⟩;rw[Qn,List.take_length];exact bE.mpr {ay (by rw[fB,cV,Qn,Qn];omega),rfl,rfl}
end
section
variable{P:Nat->Option Df}{M:Mem}{Z:Env}{p B c k many:Nat}{m:aC}
def FZ {w:Nat}{f:Call}(h1:Z[1]?.getD none=some (nD w))(w2:2<=w)(w4:w<=4):Cj f Z M=.ok (aj (cE w)) M:=IV h1 w2 w4
def FU {ds:List D}(h:Z[j]?.getD none=some (.cell k))(e:M[k]?=some ds):aN .tuple #[aa j] Z M=.ok (.tup ds) M:=by
 refine ah (bU.mpr ?_);rw[af (aq h) rfl,bg];exact oY.mpr {_,e,rfl,rfl}
def ua {ds:List D}{a:GE}(hl:ds.length<=100000)(h:a Z M=.ok (.cell k) M)(e:M[k]?=some ds):aN (.list false) #[a] Z M=.ok (.lst ds) M:=by
 refine ah (bU.mpr ?_);rw[af h rfl,bg];show ae (match M[k]? with|some xs=>ba false xs M|none=>.bad) _
 rw[e];exact bE.mpr {ay hl,rfl,rfl}
def Gk {a b c d:D}(e:Z[9]?.getD none=some (.tup [a,b,c,d])):eV false false true (aa 9) gN (gI 2) Z M=.ok (.tup [a,b]) M:=by
 unfold eV;rw[aq e];rfl
def G7 {a b:GE}{x y:Nat}(h:a Z M=.ok (nD x) M)(j:b Z M=.ok (nD y) M)(u:x<100):ak false .mul a b Z M=.ok (nD (x*y)) M:=(l4 h j (.inl {`a,`a})).trans (by rw[<- Int.natCast_mul])
def vI (h:jM P)(v:vb m c)(U:many<m.words)(S:c<=3)(J:M[k]?=some (m.deeds.map aP.d))(W:aI M p B){x4 x7 x8 x9:Option D} :
 ae (pd (ag P 38) [some (.cell p),some (nD m.words),some (nD m.places),some (nD c),x4,some (nD many),some (.cell k),x7,x8,x9] M) (jd λd M'=>d=.bl true/\aI M' p B):=by
 have hm:=v.ok;have bl:=dD hm;have w4:=hm.w4;unfold pd;refine c7 (cX (x:=m.d) (dS (af rfl (af rfl (af (FU rfl J) rfl))) (QJ rfl))) ?_;refine c7 (cX (BK `a gj hm ((a5 (xs:=[m.d]) (af rfl rfl)).trans (gV h.m.toHasM0.toHasB0 h.h15 29 hm)) rfl rfl)) ?_
 simp only[List.set];obtain⟨X,os⟩:=tm (k:=many) hm;have t:=k9 (M:=M) h 26 hm (ur hm X os);cases e:ag P 38 167 [m.d,.tup (fB (cV m.words many (aL m)))] M with
 |bad=>rw[e] at t;exact t.elim
 |err y u=>rw[e] at t;exact absurd t.2.1 (Gw v)
 | ok d u =>
   rw[e] at t;obtain⟨td,s1⟩:=t;obtain⟨E,j,r,I,rfl,le,O,er,ro,_⟩:=mh (zJ v many) (nt hm os) td;have ge:=zH v U ro.rch O;have eq:j.2.1=many*c:=Nat.le_antisymm le ge;have m9:many*c<=9:=Nat.mul_le_mul (show many<=3 by omega) S
   have rl:=ro.len hm;refine c7 (nN ((dC (xs:=[m.d,.tup (fB (cV m.words many (aL m)))]) (af rfl (af rfl rfl))).trans e)) ?_;simp only[List.set];have F:∀Z:Env,Z[5]?.getD none=some (nD many)->Z[3]?.getD none=some (nD c)->ak false .mul (aa 5) (aa 3) Z u=.ok (nD j.2.1) u:=λZ Q h3=>(G7 (aq Q) (aq h3) `a).trans (by rw[eq])
   have Y:lL m r:={`a,ro.1}
   have z:=vE (M:=u) h.m.toHasM0 h.h19 h.h47 28 hm Y;rw[ro.2.2] at z;have L:∀Z:Env,Z[9]?.getD none=some (.tup [.str "row",nD j.2.1,.cell j.2.2,.cell I])->aN (.list false) #[av (aa 9) (gI 2)] Z u=.ok (qh r) u:=λZ R=>ua (by rw[Qn];omega) (bp (aq R) rfl rfl) er
   refine fW ?_;rw[pW (x:=true) (y:=true) ?_ λ_=>?_,bg]
   ·exact{rfl,s1.pen W}
   ·refine fe (Gk rfl) (dS (xs:=[.str "row",nD j.2.1]) (af rfl (af (F _ rfl rfl) rfl)) (QJ rfl)) ?_;have H:aw 64 (.tup [.str "row",nD j.2.1])=true:=by
     show(aw 63 (.str "row")&&(aw 63 (nD j.2.1)&&true))=true;rw[show aw 63 (.str "row")=true by decide +kernel];rfl
    refine ky H H ?_;show(true&&(((j.2.1:Int)==(j.2.1:Nat))&&true))=true;rw[beq_self_eq_true];rfl
   ·refine fe ((a5 (xs:=[m.d,qh r]) (af rfl (af (L _ rfl) rfl))).trans z) (F _ rfl rfl) ?_;show some ((j.2.1:Int)==(j.2.1:Nat))=some true;rw[beq_self_eq_true]
end
section
variable{P:Nat->Option Df}{M:Mem}{Z:Env}{p B c k many:Nat}
def Gv (w2:2<=w):fU w (cE w):={by unfold cE;rw[Qn,Rx],λx h=>by
 obtain⟨k,_,rfl⟩:=QC.mp h;exact Nat.mod_lt _ `a}
def zG {w pl:Nat}{ds:List aP}(w2:2<=w)(w4:w<=4)(p1:1<=pl)(p2:pl<=2)(u:1<=c)(v:c<=3)(hd:∀d∈ds,d=.turn 0 (cE w) c\/∃j,(1<=j/\j<=3)/\d=.move 0 0 j)(hh:.turn 0 (cE w) c∈ds)(hl:ds.length<=6):vb ⟨w,pl,ds⟩ c:=by
 refine{{w2,w4,p1,p2,List.length_pos_of_mem hh,hl,λd h=>?_},λd h=>(hd d h).imp id λ⟨j,_,e⟩=>⟨j,e⟩,hh};rcases hd d h with rfl|⟨j,z,rfl⟩
 ·exact{p1,Gv w2,u,v}
 ·exact⟨p1,p1,z⟩
def B1 (h:jM P)(hp:aI M p B)(hB:B<=1000):ae (ag P 39 187 [.cell p] M) λd M'=>d=.bl true/\aI M' p (B+10):=by
 refine aE h.h187 rfl ?_;show ae (dZ (ag P 38) [some (.cell p),none,none,none,none,none,none,none,none,none] M) _;unfold dZ;refine pb (c:=2) (many:=3) (n:=36) h.p.toHasP0 rfl rfl hp `a `d `d λw M1 hw p1 k1=>?_
 refine pb (c:=1) (many:=2) (n:=36) h.p.toHasP0 rfl rfl p1 `a `d `d λI M2 hpl p2 k2=>?_
 refine pb (c:=1) (many:=3) (n:=36) h.p.toHasP0 rfl rfl p2 `a `d `d λc M3 hc p3 k3=>?_
 refine e9 h.p.toHasP0 36 (many:=2) rfl rfl p3 `a `d `d λv M4 hid p4 k4=>?_
 refine e9 h.p.toHasP0 36 (many:=2+w) rfl (aq rfl) p4 `a `a `a λmany u H O k5=>?_
 simp only[List.set];have w2:2<=2+w:=`a
 have w4:2+w<=4:=`a
 have U:∀Z:Env,Z[1]?.getD none=some (nD (2+w))->Z[3]?.getD none=some (nD (1+c))->bR true #[aZ #[gS "turn",gI 0,Cj (ag P 38),aa 3]] Z u=.ok (.cell u.length) (u++[[aP.d (.turn 0 (cE (2+w)) (1+c))]]):=λZ h1 h3=>dt (ya.mpr (by
  rw[af (dS (xs:=[.str "turn",nD 0,aj (cE (2+w)),nD (1+c)]) (af rfl (af rfl (af (FZ h1 w2 w4) (af (aq h3) rfl)))) (QJ rfl)) rfl,bg];exact m7.mpr {ay (n:=1) `d,rfl,rfl}))
 rw[aJ,cX (U _ rfl rfl),bg,b7];simp only[List.set];have l5:=O.lt;have J:(u++[[aP.d (.turn 0 (cE (2+w)) (1+c))]])[u.length]?=some [aP.d (.turn 0 (cE (2+w)) (1+c))]:=by rw[QY (Qt _),Nat.sub_self];rfl
 have L:aI (u++[[aP.d (.turn 0 (cE (2+w)) (1+c))]]) p (B+5):=O.app;have l6:u.length<(u++[[aP.d (.turn 0 (cE (2+w)) (1+c))]]).length:=ez J;generalize u++[[aP.d (.turn 0 (cE (2+w)) (1+c))]]=M6 at J L l6;refine bZ (iK rfl) (λ_=>?_) λ_=>?_
 ·obtain⟨_,M7,W,i,rfl,hi,p7,k7⟩:=dG.mp (fL h.p.toHasP0 36 (many:=2) (j:=0) (g:=gC (.int 2)) (Z:=[some (.cell p),some (nD (2+w)),some (nD (1+I)),some (nD (1+c)),some (nD v),some (nD many),some (.cell u.length),none,none,none]) rfl rfl L `a `d `d)
  obtain⟨y,Q,X,Y,p8,k8⟩:=AU (c:=1) (many:=3) (n:=36) (j:=0) (g:=gC (.int 3)) (Z:=[some (.cell p),some (nD (2+w)),some (nD (1+I)),some (nD (1+c)),some (nD v),some (nD many),some (.cell u.length),none,none,none]) h.p.toHasP0 rfl rfl p7 `a `d `d
  have F:=(k7.trans k8).get J `a
  refine c7 (KS rfl W (dS (xs:=[.str "move",nD 0,nD 0,nD (1+y)]) (cL rfl (cL rfl (cL rfl (cL X rfl)))) (QJ rfl)) F (QJ rfl) (show i<=1 by omega)) ?_
  have l8:=ez F;have q:∀E:List aP,[aP.d (.turn 0 (cE (2+w)) (1+c))].take i++aP.d (.move 0 0 (1+y))::[aP.d (.turn 0 (cE (2+w)) (1+c))].drop i=E.map aP.d->(∀d∈E,d=.turn 0 (cE (2+w)) (1+c)\/d=.move 0 0 (1+y))->.turn 0 (cE (2+w)) (1+c)∈E->E.length<=6->ae (pd (ag P 38) [some (.cell p),some (nD (2+w)),some (nD (1+I)),some (nD (1+c)),some (nD v),some (nD many),some (.cell u.length),none,none,none] (Q.set u.length ([aP.d (.turn 0 (cE (2+w)) (1+c))].take i++aP.d (.move 0 0 (1+y))::[aP.d (.turn 0 (cE (2+w)) (1+c))].drop i))) (jd λd M'=>d=.bl true/\aI M' p (B+10)):=λE e1 e2 R S=>by
   rw[e1];refine vI (m:={2+w,1+I,E}) h (zG w2 w4 `a `a `a `a (λd hd=>(e2 d hd).imp id λz=>{_,{`a,`a},z}) R S) H `a (Rk l8) ((p8.setq l5).mono `a)
  have i2:i=0\/i=1:=`a
  rcases i2 with rfl|rfl
  ·exact q [.move 0 0 (1+y),.turn 0 (cE (2+w)) (1+c)] rfl (λd hd=>by rcases Q1.mp hd with rfl|hd;exact .inr rfl;exact .inl (QN.mp hd)) (Qu _ QB) (QJ rfl)
  ·exact q [.turn 0 (cE (2+w)) (1+c),.move 0 0 (1+y)] rfl (λd hd=>by rcases Q1.mp hd with rfl|hd;exact .inl rfl;exact .inr (QN.mp hd)) QB (QJ rfl)
 ·exact aU (vI (m:={2+w,1+I,[.turn 0 (cE (2+w)) (1+c)]}) h (zG w2 w4 `a `a `a `a (λd hd=>.inl (QN.mp hd)) QB (QJ rfl)) H `a J (L.mono `a)) λ_ _ z=>z
end
noncomputable def gr (E:F3)(q:Nat):fi:=(E.filter λx=>decide (x.2.1<=q)).map λx=>(x.1,((q-x.2.1:Nat):Int))
section
variable{m:aC}{fit:aH->Bool}{E:F3}{q p:Nat}{b:aH}
def wm (all:AllIn m none ((un E).map pr))(hl:bH m p b)(j:p<=q):(b,((q-p:Nat):Int))∈gr E q:=by
 have z:=all.mem.mpr hl;rw[mR] at z;obtain⟨x,h,ex⟩:=QC.mp z;have e1:x.1=b:=congrArg Prod.fst ex;have e2:x.2.1=p:=congrArg Prod.snd ex;exact QC.mpr {x,RM.mpr {h,decide_eq_true `a},by rw[e1,e2]}
def qo (all:AllIn m none ((un E).map pr)){e:aH×Int}(h:e∈gr E q):∃x∈E,e=(x.1,((q-x.2.1:Nat):Int))/\x.2.1<=q/\bH m x.2.1 x.1:=by
 obtain⟨x,j,rfl⟩:=QC.mp h;obtain⟨h1,h2⟩:=RM.mp j;exact{x,h1,rfl,of_decide_eq_true h2,all.mem.mp (by rw[mR];exact QC.mpr ⟨x,h1,rfl⟩)}
def w5 (hm:aA m)(all:AllIn m none ((un E).map pr))(h:∀x∈E,fit x.1=true->q<=x.2.1)(I:∀{p b},bH m p b->gJ m b=true):pa m fit q (gr E q)=true:=by
 have H:=qK (gr E q);unfold pa;rw[Qs,Qs,QI,QI];refine{λe j=>?_,decide_eq_true ?_,λe j=>?_}
 ·obtain⟨x,_,rfl,_,hl⟩:=qo all j;exact I hl
 ·obtain⟨v,F,le⟩:=H.top _ (wm (q:=q) all ((iH hm).mpr rfl) (RX _));rw[F];exact le
 ·obtain⟨x,J,rfl,M,hl⟩:=qo all j;unfold fS;rw[RF];rcases Si x.2.1 q with z|z
  ·refine .inr ?_;rw[Qs,QI];refine{?_,λi u=>?_}
   ·cases f:fit x.1 with
    |false=>rfl
    |true=>have:=h x J f;omega
   ·have u:=RT.mp u;rw[RF];obtain⟨p,L,B⟩:=jx (hl.1.step u);rcases Si q (x.2.1+cst m i) with y|y
    ·exact .inl (decide_eq_true (by show((q-x.2.1:Nat):Int)-(cst m i:Int)<=0;omega))
    ·obtain⟨v,F,le⟩:=H.top _ (wm (q:=q) all B `a)
     refine .inr (decide_eq_true ?_);show((q-x.2.1:Nat):Int)-(cst m i:Int)<=(lk (dm (gr E q)) (aO m i x.1)).getD 0;rw[F];have le:((q-p:Nat):Int)<=v:=le;show((q-x.2.1:Nat):Int)-(cst m i:Int)<=v;omega
  ·exact .inl (decide_eq_true (by show((q-x.2.1:Nat):Int)<=0;omega))
end
noncomputable def dj:aC:={4,2,[.join 0 1 [[0,1,0,1],[2,0,2,0],[1,3,1,3],[3,2,3,2]] 1,.join 1 0 [[1,3,0,3],[0,2,1,2],[3,1,3,1],[2,0,2,0]] 1]}
def qS (m:aC):Nat->Nat->aH->List aH
 |0,_,_=>[]
 |n+1,i,b=>b::qS m n (1-i) (aO m i b)
def xn (m:aC)(b0:aH):Nat->Nat->aH->aH->Bool
 |0,_,_,b=>b==b0
 |n+1,i,a,b=>aO m (1-i) b==a&&xn m b0 n (1-i) b (aO m i b)
section
variable{m:aC}{b0:aH}
def zI (L:List aH)(v:b0∈L):∀(n i:Nat) (a b:aH),i<2->a∈L->(∀x∈qS m n i b,x∈L)->xn m b0 n i a b=true->∀x∈qS m n i b,aO m 0 x∈L/\aO m 1 x∈L
 |0,_,_,_,_,_,_,_,x,j=>nomatch j
 | n + 1, i, a, b, B, u, hl, h, x, j => by
   unfold xn at h;rw[Qs] at h;have e1:aO m (1-i) b=a:=eq_of_beq h.1;have e2:aO m i b∈L:=by
    cases n with
    |zero=>rw[show aO m i b=b0 from eq_of_beq h.2];exact v
    |succ n=>exact hl _ (Qu _ QB)
   rcases Q1.mp j with rfl|j
   ·rw[<- e1] at u;have:i=0\/i=1:=`a
    rcases this with rfl|rfl
    ·exact⟨e2,u⟩
    ·exact⟨u,e2⟩
   ·exact zI L v n (1-i) b _ `a (hl b QB) (λy z=>hl y (Qu _ z)) h.2 x j
def yG:∀(n i:Nat) (b:aH),(qS m n i b).length=n
 |0,_,_=>rfl
 |n+1,i,b=>congrArg (·+1) (yG n _ _)
end
def G9:aA dj:={`d,`d,`d,`d,`d,`d,λd hd=>by
 rcases Q1.mp hd with rfl|hd
 ·exact{`d,`d,{rfl,by unfold fU;decide},`d,`d}
 ·rw[QN.mp hd];exact{`d,`d,{rfl,by unfold fU;decide},`d,`d}}
def CI:xn dj (aL dj) 240 0 (aO dj 1 (aL dj)) (aL dj)=true:=`k
def CJ:(qS dj 240 0 (aL dj)).contains (aO dj 1 (aL dj))=true:=`k
def CK:¬ ix dj none:=by
 rintro⟨p,l,nd,hl,z⟩;have u:aL dj∈qS dj 240 0 (aL dj):=QB;have cl:=zI (qS dj 240 0 (aL dj)) u 240 0 _ _ `d (List.contains_iff_mem.mp CJ) (λ_ h=>h) CI
 have j:∀{q b},gn dj q b->b∈qS dj 240 0 (aL dj):=λh=>by
  induction h with
  |start=>exact u
  | @step q b i _ B v =>
    have:i=0\/i=1:=by have:i<2:=B;omega
    rcases this with rfl|rfl
    ·exact(cl _ v).1
    ·exact(cl _ v).2
 have:=len_sub nd λx E=>by
  obtain⟨y,F,rfl⟩:=QC.mp E;exact j (hl y F).1.1
 rw[Qn,yG] at this;omega
section
variable{P:Nat->Option Df}{M M1:Mem}{Z:Env}{p B q many:Nat}{m:aC}{b:aH}
def Ao (hm:aA m)(h:gn m q b):gJ m b=true:=by
 obtain⟨u,os⟩:=i6 hm h;unfold gJ vw;rw[Qs,QI];refine{by rw[u];exact beq_self_eq_true _,λs hs=>?_}
 rw[Qs,QI];exact{by rw[(os s hs).1];exact beq_self_eq_true _,λx j=>decide_eq_true ((os s hs).2 x j)}
def tR:∀{r:List Nat},(∀i∈r,i<2)->d5 dj r=r.length
 |[],_=>rfl
 | i :: r, h => by
   have e:=tR λj u=>h j (Qu _ u);have:i=0\/i=1:=by have:=h i QB;omega
   show(bC dj i).cost+d5 dj r=r.length+1;rcases this with rfl|rfl<;>(rw[e];exact Nat.add_comm _ _)
def Kr {f:Call}{fst:Nat}(h3:Z[3]?.getD none=some (nD fst))(h4:Z[4]?.getD none=some (nD many))(hl:many<=1000):xM f Z M=.ok (.lst (((List.range many).map λk=>(fst+k) % 2).map nD)) M:=by
 refine ah ?_;unfold xM;rw[dg,gq,bo];refine{_,h4,_,rfl,{`a,`a},?_}
 rw[RP];refine du (λd=>match d with|.int i=>nD ((fst+i.toNat) % 2)|_=>.non) (ay `o) rfl (λd hd=>?_) ?_
 ·obtain⟨k,h,rfl⟩:=QC.mp hd;exact{_,rfl,i9 (x:=((fst+k:Nat):Int)) (y:=2) (iX (aq (j:=4) h3) rfl) rfl `d}
 ·rw[QZ,QZ];exact bE.mpr {ay `o,rfl,rfl}
def KR {a:GE}{x:Bool}(h1:a Z M=.ok (.bl x) M1):uw a true Z M=.ok (.bl (x==true)) M1:=by
 unfold uw;rw[h1];rfl
def Kq (h:jM P)(hm:aA m)(z:kA m ws)(S:aI M p B){E:F3}{e:aH×Nat×Nat}{r:List Nat}{c:Nat}(le:e.2.1<=many)(L:jc ws e.1=true)(er:M[e.2.2]?=some (r.map nD))(ro:dI m r e.1 e.2.1)(X:r.length=e.2.1)(R:many<=200)
 (J:M[c]?=some ((E.filter λx=>decide (x.2.1<=e.2.1)).map λx=>.tup [bD x.1,nD (e.2.1-x.2.1)])) (all:AllIn m none ((un E).map pr)) (few:E.length<=255) (W:∀x∈E,jc ws x.1=true->e.2.1<=x.2.1) {x0 x1 x2 x3:Option D} :
 ae (xK (ag P 38) [x0,x1,x2,x3,some (nD many),some m.d,some (.tup ws),some (.tup [.str "row",nD e.2.1,.cell e.2.2,.cell c])] M) (jd λd M'=>d=.bl true/\aI M' p B):=by
 unfold xK;have bl:=dD hm;have p2:=hm.p2;refine c8 (m5 (x:=false) (y:=false) (cg (fe (x:=.str "row") (bp rfl rfl fJ) rfl ?_)) (m5 (x:=false) (y:=false) (cg (fe (x:=nD e.2.1) (y:=nD many) (bp rfl rfl rfl) rfl ?_)) (cg (fe (x:=nD r.length) (y:=nD e.2.1) ?_ (bp rfl rfl rfl) ?_)))) ?_
 ·have I:aw 64 (.str "row")=true:=`k
  exact wI (v:=true) I I (show bG (.str "row") (.str "row")=true by decide +kernel)
 ·show some (decide ((many:Int)<(e.2.1:Int)))=some false;rw[decide_eq_false `a]
 ·refine ah (bU.mpr ?_);rw[af (bp (x:=.tup [.str "row",nD e.2.1,.cell e.2.2,.cell c]) rfl rfl rfl) rfl,bg];show ae (match M[e.2.2]? with|some xs=>Res.ok (D.int xs.length) M|none=>.bad) _
  rw[er];exact{by rw[Qn],rfl}
 ·show some (!((r.length:Int)==(e.2.1:Int)))=some false;rw[X,beq_self_eq_true];rfl
 obtain⟨H,os⟩:=i6 hm ro.rch;obtain⟨_,M1,e1,rfl,s1⟩:=dG.mp (nQ h.b h.h44 36 (M:=M) (.c er) hm ro.1);rw[ro.2.1] at e1;have u:ag P 38 84 [bD e.1,.tup ws] M1=.ok (.bl true) M1:=by
  rw[<- L];exact xa h.h84 37 (ay (QF mQ (by rw[Qn];omega))) (kT hm os z.2)
 refine rq (M1:=M1) ?_ ?_
 ·unfold cq au;rw[(wH (cL ((a5 (xs:=[m.d,.cell e.2.2]) (af rfl (af (bp rfl rfl rfl) rfl))).trans e1) (af rfl rfl))).trans u];rfl
 have O:(gr E e.2.1).length<=1000:=by unfold gr;rw[Qn];exact QF (Sl _ _) `a
 obtain⟨_,Y,e2,rfl,s2⟩:=dG.mp (zp (F:=gr E e.2.1) (fit:=jc ws) (N:=(e.2.1:Int)) 26 h.m.toHasM0.toHasB0 h.m.r h.h14 h.h15 h.h151 h.h152 h.h176 h.h181 h.h182 h.h183 (M:=M1) hm (λM=>Ab h.m.toHasM0.toHasB0 h.h15 h.h79 h.h80 26 hm z) (λM b Q=>by
  obtain⟨H,os⟩:=wM Q;exact q9 h.h81 35 (ay (QF mQ (by rw[Qn];omega))) (kT hm os z.2)) O (λy U=>by
  obtain⟨x,_,rfl,_,hl⟩:=qo all U;obtain⟨H,os⟩:=i6 hm hl.1;exact{by show List.length x.1<=100;omega,λs hs=>by rw[(os s hs).1];omega}))
 rw[w5 hm all W λhl=>Ao hm hl.1] at e2;have j:M1[c]?=some ((gr E e.2.1).map lM):=by rw[s1.get J,gr,QZ];rfl
 refine fW ?_;rw[KR ((a5 (xs:=[m.d,.tup ws,nD e.2.1,.lst ((gr E e.2.1).map lM)]) (af rfl (af rfl (af (bp rfl rfl rfl) (af (ua (by rw[Qn];omega) (bp rfl rfl rfl) j) rfl))))).trans e2),bg]
 exact{rfl,(s1.trans s2).pen S}
end
section
variable{P:Nat->Option Df}{M:Mem}{p B many:Nat}
def Kp (h:jM P){m:aC}(hm:aA m)(few:¬ ix m none)(one:∀{r:List Nat},(∀i∈r,i<m.deeds.length)->d5 m r=r.length){r:List Nat}(hr:∀i∈r,i<m.deeds.length)(hl:r.length=many)(u:many<=200)(R:aI M p B){x0 x1 x2 x3 x6 x7:Option D}
 (O:∀Z:Env,Z[3]?.getD none=x3->Z[4]?.getD none=some (nD many)->xM (ag P 38) Z M=.ok (.lst (r.map nD)) M) :
 ae (xJ (ag P 38) [x0,x1,x2,x3,some (nD many),some m.d,x6,x7] M) (jd λd M'=>d=.bl true/\aI M' p B):=by
 unfold xJ;obtain⟨d0,z,F,L,X⟩:=dG.mp (B5 h.b h.h44 36 (M:=M) hm hr);rw[L] at F;have ro:dI m r (ends m r) (d5 m r):=⟨hr,rfl,rfl⟩;have v:=ro.rch;rw[one hr,hl] at v;obtain⟨U,os⟩:=i6 hm v;have bl:=dD hm;have W:=X.pen R;refine c7 (cX (uq hm os `a ((a5 (xs:=[m.d,.lst (r.map nD)]) (af rfl (af (O _ rfl rfl) rfl))).trans F))) ?_
 simp only[List.set];have H:=ur hm U os;have t:=k9 (M:=z) h 26 hm H;cases e:ag P 38 167 [m.d,.tup (fB (ends m r))] z with
 |bad=>rw[e] at t;exact t.elim
 |err y I=>rw[e] at t;exact absurd t.2.1 few
 | ok d I =>
   rw[e] at t;obtain⟨td,Y⟩:=t;obtain⟨E,e',r',c,rfl,le,Q,er,j,J,all,few,S⟩:=mh v (nt hm os) td;refine c7 (nN ((dC (xs:=[m.d,.tup (fB (ends m r))]) (af rfl (af rfl rfl))).trans e)) ?_;simp only[List.set];exact Kq h hm H (Y.pen W) le Q er j (by rw[<- j.2.2];exact(one j.1).symm) u J all few S
def F9 (h:jM P)(H:aI M p B)(J:B<=1000):ae (ag P 39 188 [.cell p] M) λd M'=>d=.bl true/\aI M' p (B+2):=by
 refine aE h.h188 rfl ?_;show ae (d8 (ag P 38) [some (.cell p),none,none,none,none,none,none,none] M) _;unfold d8;refine c7 (cX (x:=.tup ([[0,1,0,1],[2,0,2,0],[1,3,1,3],[3,2,3,2]].map aj)) rfl) ?_;refine c7 (cX (x:=.tup ([[1,3,0,3],[0,2,1,2],[3,1,3,1],[2,0,2,0]].map aj)) rfl) ?_;refine e9 h.p.toHasP0 36 (many:=2) rfl rfl H `a `d `d λfst I L p1 k1=>?_
 refine pb (c:=41) (many:=70) (n:=36) h.p.toHasP0 rfl rfl p1 `a `d `d λk v O p2 k2=>?_
 simp only[List.set];unfold EB;have E:∀u:Env,u[1]?.getD none=some (.tup ([[0,1,0,1],[2,0,2,0],[1,3,1,3],[3,2,3,2]].map aj))->u[2]?.getD none=some (.tup ([[1,3,0,3],[0,2,1,2],[3,1,3,1],[2,0,2,0]].map aj))->aZ #[gI 4,gI 2,aZ #[aZ #[gS "join",gI 0,gI 1,aa 1,gI 1],aZ #[gS "join",gI 1,gI 0,aa 2,gI 1]]] u v=.ok dj.d v:=λu h1 h2=>
  have j:∀{i:Nat}{x y:Int}{z:D},u[i]?.getD none=some z->aZ #[gS "join",gC (.int x),gC (.int y),aa i,gI 1] u v=.ok (.tup [.str "join",.int x,.int y,z,.int 1]) v:=λe=>dS (af rfl (af rfl (af rfl (af (aq e) (af rfl rfl))))) (QJ rfl)
  dS (af rfl (af rfl (af (dS (af (j h1) (af (j h2) rfl)) (QJ rfl)) rfl))) (QJ rfl)
 rw[aJ,cX (E _ rfl rfl),bg,b7];simp only[List.set];exact aU (Kp h (m:=dj) G9 CK (λhr=>tR hr) (r:=(List.range (41+k)).map λj=>(fst+j) % 2) (λi F=>by
  obtain⟨j,_,rfl⟩:=QC.mp F;exact Nat.mod_lt _ `d) (by rw[Qn,Rx]) `a p2 λu h3 h4=>Kr h3 h4 `a) λ_ _ z=>z
def MT (h:jM P)(ns:List Int)(hn:ns.length<=63):∃M,ag P 40 189 [.frz (ns.map D.int)] []=.ok (.bl true) M:=by
 have u:ae (ag P 40 189 [.frz (ns.map D.int)] []) λd _=>d=.bl true:=by
  refine aE h.h189 rfl ?_;show ae (nM (ag P 39) [some (.frz (ns.map D.int)),none,none,none,none,none,none] []) _;unfold nM;refine eD (k:=λd j=>d=.cell 1/\aI j 1 0) ?_ ?_
  ·rw[a5 (af rfl rfl)];exact F6 h.p.toHasP0 38 hn
  rintro _ M1 ⟨rfl,p1⟩;obtain⟨_,J,e2,rfl,p2,_⟩:=dG.mp (vF h.p.toHasP0 38 p1);obtain⟨_,L,Q,rfl,S⟩:=dG.mp (B1 h p2 `d)
  obtain⟨_,O,R,rfl,U⟩:=dG.mp (F9 h S `d)
  refine rq (M1:=O) ?_ ?_
  ·unfold eX cq au;rw[(wH (cL ((a5 (xs:=[.cell 1]) (af rfl rfl)).trans e2) rfl)).trans Q];show Res.bind (Res.bind (ai 188 (ag P 39) _ _ L) _) _=_;rw[(a5 (xs:=[.cell 1]) (af rfl rfl)).trans R];rfl
  rw[aJ,jX,gq,eA];refine{4,rfl,{`d,`d},?_}
  refine fv (ds:=(List.range 4).map λ(k:Nat)=>D.int (k:Int)) (λi H j=>aI j 1 (12+400*i)/\∃v y z E F,H=[some (.frz (ns.map D.int)),some (.cell 1),v,y,z,E,F]) (λ_ _ _ _=>rfl) {U,_,_,_,_,_,rfl} ?_ ?_
  ·rintro i d H j hd ⟨I,v,y,z,E,F,rfl⟩;obtain⟨W,rfl⟩:=Gu hd;refine{_,rfl,?_};exact y8 h `a I `a λJ X Y z5 z6 p2=>{_,rfl,p2.mono `a,_,_,_,_,_,rfl}
  ·rintro H j ⟨I,v,y,z,E,F,rfl⟩;rw[b7];exact cD rfl rfl
 obtain⟨d,M,e,rfl⟩:=dG.mp u;exact⟨M,e⟩
end
end LD
end
set_option maxHeartbeats 0
namespace K27
open PySem PySem.Spec PyProof.Rows L2 LD
noncomputable def top (i:Nat):Stmt:=PySem.Challenge.pw_leastdeeds_k27_whole_far_rows.main.body.getD i (.Pass {0,0,0,0})
noncomputable def q0:Str×Tok:=("leastdeeds.wholes",296)
noncomputable def q1:Str×Tok:=("leastdeeds.machines",307)
noncomputable def q2:Str×Tok:=("leastdeeds.runs",498)
noncomputable def q3:Str×Tok:=("leastdeeds.works",599)
noncomputable def q4:Str×Tok:=("leastdeeds.least",621)
noncomputable def q5:Str×Tok:=("law_leastdeeds_k27_whole_far_rows",702)
noncomputable def tb:List Ent:=[{0,"is_between",top 8,3,["thing","low","high"],101,q0,ji,false,none,0},
 {1,"is_word",top 16,2,["words","thing"],108,q1,mD,false,none,0},
 {2,"is_place",top 17,2,["places","thing"],115,q1,lI,false,none,0},
 {3,"is_cost",top 18,1,["thing"],122,q1,mI,false,none,0},
 {4,"is_tuple_of",top 19,2,["long","thing"],129,q1,fT,false,none,0},
 {5,"is_table",top 20,2,["words","thing"],134,q1,lH,false,none,0},
 {6,"is_double_table",top 21,2,["words","thing"],139,q1,fF,false,none,0},
 {7,"is_turn",top 22,3,["words","places","parts","at","table","price"],146,q1,mE,false,none,0},
 {8,"is_join",top 23,3,["words","places","parts","at","other","table","price"],153,q1,mG,false,none,0},
 {9,"is_move",top 24,3,["words","places","parts","at","other","price"],160,q1,mF,false,none,0},
 {10,"is_put",top 25,3,["words","places","parts","at","word","price"],167,q1,oR,false,none,0},
 {11,"is_deed",top 27,3,["words","places","thing","sort","is_sort"],175,q1,mH,false,none,0},
 {12,"is_machine",top 28,1,["thing","words","places","deeds"],180,q1,jh,false,none,0},
 {13,"need_machine",top 29,1,["thing"],187,q1,hI,true,none,0},
 {14,"is_beginning",top 30,2,["machine","thing","words","places","deeds"],192,q1,cM,false,none,0},
 {15,"beginnings",top 31,1,["machine","words","places","deeds","starts","place"],197,q1,bz,true,none,0},
 {16,"is_deed_number",top 32,2,["machine","thing"],204,q1,f5,false,none,0},
 {17,"need_numbers",top 33,2,["machine","row","place","thing"],211,q1,g9,true,none,0},
 {18,"need_row",top 34,2,["machine","row"],218,q1,lF,true,none,0},
 {47,"summed_cost",top 35,2,["machine","row"],223,q1,dQ,false,none,0},
 {19,"cost",top 36,2,["machine","row"],230,q1,mJ,true,none,0},
 {20,"turned",top 38,2,["deed","standing","sort","at","table","price"],237,q2,lD,false,none,0},
 {21,"joined",top 39,2,["deed","standing","sort","at","other","table","price"],244,q2,lG,false,none,0},
 {22,"moved",top 40,2,["deed","standing","sort","at","other","price"],251,q2,nJ,false,none,0},
 {23,"put_in",top 41,2,["deed","standing","sort","at","word","price"],258,q2,lE,false,none,0},
 {24,"done",top 43,2,["deed","standing","new_word","at"],266,q2,pV,false,none,0},
 {25,"all_standing",top 44,3,["machine","row","beginning","standings","number"],273,q2,hJ,false,none,0},
 {46,"ends_of",top 45,2,["machine","row"],278,q2,gm,false,none,0},
 {27,"behaviour",top 46,2,["machine","row"],285,q2,fN,true,none,0},
 {176,"are_behaviours",top 47,2,["machine","things","many"],290,q2,eP,false,none,0},
 {79,"is_work",top 49,2,["machine","thing"],295,q3,jI,false,none,0},
 {80,"need_work",top 50,2,["machine","work"],302,q3,jR,true,none,0},
 {81,"ends_do",top 51,2,["ends","work"],307,q3,ir,false,none,0},
 {151,"priced_leads",top 54,1,["machine","starts"],312,q4,dz,true,none,0},
 {152,"led_to",top 55,2,["lead","ends"],317,q4,dE,false,none,0},
 {165,"next_level",top 56,3,["leads","levels","found","price","level","number","step_price","lead","ahead","ends","new_ends"],324,q4,gK,true,none,0},
 {166,"reached",top 57,2,["machine","bound","leads","empty_ends","found","levels"],332,q4,jg,true,none,325},
 {167,"least",top 58,2,["machine","work","found","best","price","row","floors"],337,q4,nK,true,none,0},
 {181,"highest_floors",top 59,1,["floors","highest","ends","floor"],344,q4,dF,false,none,0},
 {182,"floor_holds",top 60,4,["leads","work","highest","ends","floor","step_price","lead","rest"],351,q4,dR,false,none,0},
 {183,"shows",top 61,4,["machine","work","number","floors","highest","empty_ends","leads"],356,q4,kz,true,none,0},
 {28,"_law_spread",top 63,2,["cell","at","primes","one","two","three"],363,q5,lO,false,none,0},
 {29,"_law_open",top 64,1,["script","cells","k","cell"],370,q5,jS,false,none,0},
 {30,"_law_anew",top 65,1,["pen"],377,q5,jT,false,none,0},
 {31,"_law_take",top 66,2,["pen","many","at","cell","found"],384,q5,nY,false,none,0},
 {32,"_law_tab",top 67,2,["pen","words","kind","word","other","found"],389,q5,iM,false,none,0},
 {33,"_law_deed",top 68,3,["pen","words","places","kind","price","at","other"],394,q5,ia,false,none,0},
 {34,"_law_machine",top 69,4,["pen","words","places","most","deeds","k","again","deed"],401,q5,fy,false,none,0},
 {35,"_law_row",top 70,3,["pen","machine","most","kind","many","found"],406,q5,gL,false,none,0},
 {41,"_law_after",top 71,2,["deed","end","here","own"],413,q5,jj,false,none,0},
 {42,"_law_begins",top 72,1,["machine"],418,q5,iz,false,none,0},
 {44,"_law_ends",top 73,2,["machine","row","found","end","number"],425,q5,fO,false,none,0},
 {160,"_law_some_machine",top 74,2,["pen","turn","size"],432,q5,eW,false,none,0},
 {84,"_law_does",top 75,2,["here","work"],437,q5,h9,false,none,0},
 {187,"_law_round_right",top 76,1,["pen","words","places","price","idle","many","deeds","machine","work","found"],442,q5,dZ,true,none,0},
 {188,"_law_long_right",top 77,1,["pen","one","other","first","many","machine","work","found"],447,q5,d8,true,none,0},
 {189,"law",top 78,1,["script","pen","turn","machine","row","work","found"],452,q5,nM,false,none,0}]
def rs:Rs:={[II,yX,D5,yV,Ea,D9,D8,N0,yZ,IP,D4,y4,IM,IF,IE,IJ,IH,IQ,ID,IG,yR,yT,D6,D7,Ec,Eb,NZ],[Iu,vT],[yF,DQ],[yM,DU,DV,DR,Ir],[Ih,DL,DN,yB,DM,Ig,Ii,Ij,Ie,yD,vl,vm]}
def Mv:DC rs:={⟨FN,yW,BA,yU,BF,BE,BD,IL,yY,FQ,Bz,y3,FP,FJ,FI,FO,FL,FR,FH,FK,yQ,yS,BB,BC,BH,BG,IK,trivial⟩,⟨FE,Mh,trivial⟩,⟨yE,Bp,trivial⟩,⟨yL,Bw,Bx,Bv,FC,trivial⟩,⟨Fw,Bm,Bo,yA,Bn,Fv,Fx,Fy,Fu,yC,wW,wX,trivial⟩}
noncomputable def te0:List (Str×En):=List.map (λx=>(x,En.bl)) ["all","any","bool","enumerate","int","isinstance","len","list","max","min","range","str","sum","tuple","zip"]
def te1:List (Str×En):=[("LEAST_WORDS",.int 2),("LONGEST_ROW",.int 40),("MOST_BEHAVIOURS",.int 255),("MOST_COST",.int 3),("MOST_DEEDS",.int 6),("MOST_PLACES",.int 2),("MOST_WORDS",.int 4),("NEW_WORDS",.dct cy),("SORTS",.dct d3),("NoRow",.xi 0),("NoMachine",.xc 3),("TooLong",.xc 4)]
noncomputable def te2:List (Str×En):=[("NoWork",.xc 6),("TooMany",.xc 8),("DeedError",.de)]
def te:List (Str×En):=te0++te1++te2
def tbl:mK:={(tb.filter (·.q.isNone)).map (λe=>(e.x,if e.i==166 then En.fnD e.i else En.fn e.i e.r))++te,[("TooMany","TooMany",8,8)],[],[("NEW_WORDS",cy),("SORTS",d3)],[("NoRow",0)],[(131,16,27),(163,12,14),(169,42,67),(177,29,31),(178,13,27),(185,40,45),(187,24,35),(189,13,90),(189,57,62),(192,14,16),(216,68,75),(228,12,29),(231,11,24),(260,12,30),(279,12,14),(295,11,20),(311,12,14),(328,12,80)],[(160,18,27),(168,15,36),(169,16,31),(169,42,53),(171,19,29),(177,12,33),(185,16,27),(187,24,35),(189,29,40),(189,66,77),(192,14,16),(194,8,21),(197,12,25),(213,7,32),(213,36,55)],[],rs,tb}
def Pg:Nat->Option Df:=tbl.Pg
def Mw:∀c,tb.map (tbl.rd c)=tb.map λe=>some (e.b c):=λc=>by kernel_rfl
def tab:yq tbl:={Mv,Mw,by kernel_rfl,by kernel_rfl,λ_ _ _ _ _ _=>by kernel_rfl,λ_ _ _ _ _ _ _=>by kernel_rfl,λ_ _ _ _ _ _ _ _=>by kernel_rfl,λ_ _ _ _ _ _ _ _ _=>by kernel_rfl,λ_ _ _ _ _ _ _ _ _ _=>by kernel_rfl,λ_ _ _ _ _ _ _ _ _ _ _ _=>by kernel_rfl,by rw[show tbl.tb.filter (λe=>!(e.df==0))=[tb[36]] from by kernel_rfl];exact{{rfl,λ_ _ _ _ _ _ _ _=>{_,_,rfl,rfl,rfl,rfl}},trivial}}
def fa:Fa:=LD.uB (tb.map (λe=>(e.i,e.f))++[(666,1)]) [(0,44),(3,56),(4,68),(6,80),(8,92)] 24
def CQ:∀ns:List Int,ns.length<=63->∃M,ag Pg 40 189 [.frz (ns.map D.int)] []=.ok (.bl true) M:=MT (by repeat' (first|rfl|constructor))
end K27
open PySem PySem.W PyProof.Rows K27
set_option maxRecDepth 100000 in
set_option maxHeartbeats 0 in
theorem PySem.Challenge.cw_leastdeeds_k27_whole_far_rows_holds : PySem.Challenge.rw_leastdeeds_k27_whole_far_rows.Holds := by
 w_on;o_law
 refine PySem.W.holds_open (r:=K27.xQ) (q:=K27.kq) (loose:=K27.pF) (Xt:=fun s=>PySem.W.xlAt K27.kq [] s&&PySem.W.recOk (PySem.W.RowW.records K27.xQ.toRowW) s) (XP:=PySem.W.XL K27.kq []) (Yf:=K27.kH.obs) (Ya:=K27.kH.val) (YP:=K27.kH.says) (N:=6654) K27.MU K27.kH.of K27.kH.keeps (fun s e=>PySem.W.xl_of s (SH.mp e).1) PySem.W.XL.keeps `r `r `r (fun s e=>PySem.W.recFacts_of (SH.mp e).2) `r (by first|assumption|decide +kernel) `k ⟨rfl,rfl,rfl,rfl,rfl,`k⟩ ?hw ?hc
 case hw=>w_witness2
 refine L2.FA (l:=PySem.Challenge.rw_leastdeeds_k27_whole_far_rows) (n:=63) (k:=84) (x:="script") (CX:=fun w=>LD.fP PySem.Challenge.rw_leastdeeds_k27_whole_far_rows.prog w) (K:=K27.kh) (sp:=fun w=>LD.Eh (K27.kh w.params)) rfl `d rfl ⟨rfl,`d,`d,rfl⟩ (fun w h Y=>PySem.W.kIn_of Y) ?F (fun w H a ns hl hO hS=>⟨a,ns,rfl,hS,hO,hl,fun _=>rfl⟩) (fun _ _ _ _ _ z=>let⟨_,_,_,_,_,_,_,_,_,_,q⟩:=z;q)
 case F=>
  intro w mg fa h KX G hmg;have tk:LD.Bl (K27.kh w.params) K27.tb:=⟨by kernel_rfl,by kernel_rfl,by kernel_rfl,by kernel_rfl⟩
  obtain⟨m,fd,F⟩:=LD.FY tk KX G (e:=K27.tb[56]) (SI _) rfl rfl;have d_NEW_WORDS:=LD.v9 (x:="NEW_WORDS") (P:=w.params) (fa:=K27.fa) (fs:=LD.cy) (ad:=259) (es:=#[{hash:=PySem.PyData.keyHash w.params (PySem.Str.ofString "turn"),key:=PySem.Value.str (PySem.Str.ofString "turn") 549,val:=PySem.Value.ref 237},{hash:=PySem.PyData.keyHash w.params (PySem.Str.ofString "join"),key:=PySem.Value.str (PySem.Str.ofString "join") 550,val:=PySem.Value.ref 244},{hash:=PySem.PyData.keyHash w.params (PySem.Str.ofString "move"),key:=PySem.Value.str (PySem.Str.ofString "move") 551,val:=PySem.Value.ref 251},{hash:=PySem.PyData.keyHash w.params (PySem.Str.ofString "put"),key:=PySem.Value.str (PySem.Str.ofString "put") 552,val:=PySem.Value.ref 258}]) (n:=4) KX G (by kernel_rfl) (by kernel_rfl) (by exact LD.f9 (LD.f9 (LD.f9 (LD.f9 (LD.Ay))))) `k `d (by exact .cons ⟨rfl,rfl⟩ (.cons ⟨rfl,rfl⟩ (.cons ⟨rfl,rfl⟩ (.cons ⟨rfl,rfl⟩ (.nil)))))
  have d_SORTS:=LD.v9 (x:="SORTS") (P:=w.params) (fa:=K27.fa) (fs:=LD.d3) (ad:=168) (es:=#[{hash:=PySem.PyData.keyHash w.params (PySem.Str.ofString "turn"),key:=PySem.Value.str (PySem.Str.ofString "turn") 413,val:=PySem.Value.ref 146},{hash:=PySem.PyData.keyHash w.params (PySem.Str.ofString "join"),key:=PySem.Value.str (PySem.Str.ofString "join") 414,val:=PySem.Value.ref 153},{hash:=PySem.PyData.keyHash w.params (PySem.Str.ofString "move"),key:=PySem.Value.str (PySem.Str.ofString "move") 415,val:=PySem.Value.ref 160},{hash:=PySem.PyData.keyHash w.params (PySem.Str.ofString "put"),key:=PySem.Value.str (PySem.Str.ofString "put") 416,val:=PySem.Value.ref 167}]) (n:=4) KX G (by kernel_rfl) (by kernel_rfl) (by exact LD.f9 (LD.f9 (LD.f9 (LD.f9 (LD.Ay))))) `k `d (by exact .cons ⟨rfl,rfl⟩ (.cons ⟨rfl,rfl⟩ (.cons ⟨rfl,rfl⟩ (.cons ⟨rfl,rfl⟩ (.nil)))))
  have i_NoRow:=fun base=>LD.C6 (fa:=K27.fa) (w:=w) (c:=0) (x:="NoRow") (qual:="NoRow.__init__") (y:="place") (z:="no deed's number at place ") (pm:="leastdeeds.errors") (t:=187) (st:=LD.inC (K27.top 2)) (C:=44) (D:=24) (E:=41) (B:=40) KX G (by kernel_rfl) (by kernel_rfl) rfl (by kernel_rfl) (by kernel_rfl) (by kernel_rfl) (by kernel_rfl) ⟨rfl,rfl,rfl,`k,rfl,`k,`k⟩ rfl (fun _ _=>⟨_,rfl⟩) `k rfl rfl rfl rfl (fun _ _=>rfl) (fun _ _ _ _ _ _ _ _=>rfl) PySem.Challenge.rw_leastdeeds_k27_whole_far_rows.prog base
  have TO:=fun base=>LD.FX (base:=base) (P:=PySem.Challenge.rw_leastdeeds_k27_whole_far_rows.prog) (w:=w) (t:=K27.tbl) (fa:=K27.fa) KX G (by kernel_rfl) (LD.Il (by kernel_rfl)) (LD.J7 (by kernel_rfl)) (LD.Dc (by kernel_rfl)) ⟨rfl,rfl⟩ ⟨d_NEW_WORDS,d_SORTS,trivial⟩ ⟨i_NoRow base,trivial⟩
  have tw:LD.AllP (fun q=>LD.wO K27.fa (K27.kh w.params) mg q.1 q.2.1 q.2.2.1 q.2.2.2) K27.tbl.tw:=⟨LD.IT (LD.Ag (x:="TooMany") (f:=92) KX G (by kernel_rfl)) (LD.Ag (x:="TooMany") (f:=92) KX G (by kernel_rfl)) (by kernel_rfl),trivial⟩
  have xf:LD.AllP (fun f=>LD.Fi K27.fa (K27.kh w.params) f) K27.tbl.xf:=trivial
  have ms:∀q∈K27.tbl.ms,LD.pZ K27.fa (K27.kh w.params) q.1 q.2.1 q.2.2:=LD.Kh (by kernel_rfl)
  have e:=hmg.symm.trans m;cases e;exact⟨fd,fun s v=>by
   obtain⟨oc,od,kV,doc,pm,an,cdv,ct,osl,rfl,lk,hcd⟩:=F.ex;exact .of_eq rfl,fun base _ _=>LD.Kw (n:=39) (f:=189) (LD.BS K27.tab tk KX G (TO base) tw.mem xf.mem ms (by kernel_rfl)) K27.CQ rfl F (LD.pM (e:=K27.tb[56]) (QI.mp K27.tab.sc K27.tb[56] (SI _))).1 rfl fun c n a b d s H E C hr=>LD.sP (e:=K27.tb[56]) K27.tab (TO base) tw.mem xf.mem ms (SI _) c n a b d s H E C hr⟩
