import PyProof.Rows.All
import Wide.All
import OpenK.AllK
import Wide.FinOn
import Lean
import PyProof.EqAt
import PyProof.EqKinds
import PyProof.TupleCall
import PyProof.StrOps
import PyProof.MeetsStr
import PyProof.StrLawsJoin
import PySem.Challenge.RW_leastdeeds_k23_which_lists_are_closed
set_option Elab.async false
set_option linter.all false
set_option maxRecDepth 100000
set_option autoImplicit true
set_option relaxedAutoImplicit true
set_option genSizeOfSpec false
set_option genSizeOf false
set_option maxHeartbeats 0
set_option bootstrap.genMatcherCode false
set_option genSizeOf false
noncomputable section
local macro_rules(kind:=«term{_}»)|`({$a:term,*})=>`(⟨$a,*⟩)
local macro_rules(kind:=Lean.Parser.Term.quotedName)|x=>match x[0].isNameLit?.getD .anonymous|>.toString with|"a"=>`(by omega)|"d"=>`(by decide)|"s"=>`(by simp)|"o"=>`(by simp;omega)|"k"=>`(by decide +kernel)|"r"=>`(by rfl)|_=>Lean.Macro.throwUnsupported
local macro_rules|`(tactic|omega)=>`(tactic|first|(simp +arith;done)|lia|omega(config:={}))
abbrev tqa:=@PySem.wpAny_bind
abbrev tqb:=@PySem.wpAny_pure
abbrev tqf:=@PySem.wpAny_field
abbrev tqo:=@PySem.wpAny_holding
abbrev tqp:=@PySem.wpAny_truthy_bool
abbrev Qf:=@List.length_map
abbrev Qg:=@List.getElem?_eq_some_iff
abbrev Qh:=@PySem.W.Frag
abbrev Qi:=@PySem.Value
abbrev Qk:=@PySem.Heap.get?_push_of_some
abbrev Ql:=@Nat.le_refl
abbrev Qm:=@PySem.Shared
abbrev Qn:=@List.getElem?_append_left
abbrev Qo:=@List.getElem?_set_ne
abbrev Qp:=@Nat.le_trans
abbrev Qq:=@List.getElem?_eq_getElem
abbrev Qr:=@Bool.and_eq_true
abbrev Qv:=@Option.some.inj
abbrev Qw:=@List.mem_singleton
abbrev Qx:=@List.mem_map
abbrev Qy:=@List.size_toArray
abbrev Qz:=@List.mem_cons_of_mem
abbrev QA:=@Option.map_eq_some_iff
abbrev QB:=@List.all_eq_true
abbrev QC:=@List.getElem?_map
abbrev QF:=@List.map_append
abbrev QG:=@PySem.Heap.get?_push_size
abbrev QH:=@PySem.Heap.lt_size
abbrev QK:=@List.mem_cons_self
abbrev QL:=@List.mem_append
abbrev QM:=@Nat.le_of_ble_eq_true
abbrev QN:=@Nat.lt_of_lt_of_le
abbrev QO:=@List.length_append
abbrev QP:=@Bool.false_ne_true
abbrev QR:=@List.mem_of_getElem?
abbrev QS:=@List.getElem?_set_self
abbrev QY:=@Nat.ne_of_lt
abbrev QZ:=@PySem.AutoSeq1.wpAny_loadPart'
abbrev Q0:=@List.getElem?_append_right
abbrev Q9:=@PySem.Heap.get?_update_other
abbrev Ra:=@PySem.Program
abbrev Rb:=@PySem.World
abbrev Rf:=@List.mem_map_of_mem
abbrev Rg:=@List.mem_cons
abbrev Rh:=@List.mem_append_right
abbrev Ri:=@List.append_nil
abbrev Rj:=@List.getD_eq_getElem?_getD
abbrev Rk:=@List.map_map
abbrev Rl:=@Option.bind_eq_some_iff
abbrev Rn:=@PyProof.Rows.slot_tuple_getitem
abbrev Ro:=@PySem.Heap.get?_update_self
abbrev Rp:=@Bool.eq_iff_iff
abbrev Rq:=@Nat.ne_of_gt
abbrev Rr:=@Nat.add_sub_cancel_left
abbrev Rt:=@List.length_range
abbrev Ru:=@Ne.symm
abbrev Rv:=@List.take_of_length_le
abbrev Rw:=@List.lookup_cons
abbrev Rx:=@List.nodup_cons
abbrev Ry:=@List.append_assoc
abbrev Rz:=@PySem.OsState
abbrev RA:=@PySem.W.kia_one
abbrev RB:=@PySem.W.SharedT
abbrev RC:=@Nat.zero_le
abbrev RD:=@List.take_succ
abbrev RE:=@List.mem_append_left
abbrev RF:=@Int.toNat_natCast
abbrev RG:=@List.map_congr_left
abbrev RH:=@Nat.lt_irrefl
abbrev RI:=@List.map_cons
abbrev RJ:=@List.all_cons
abbrev RK:=@PySem.DictEntry
abbrev RL:=@List.length_cons
abbrev RM:=@PySem.Heap.SameBut.update
abbrev RN:=@Iff.rfl
abbrev RO:=@Nat.lt_of_le_of_lt
abbrev RP:=@List.mem_range
abbrev RQ:=@Nat.not_lt_zero
abbrev RR:=@PySem.Around
abbrev RS:=@List.any_eq_true
abbrev RT:=@Nat.lt_succ_of_lt
abbrev RU:=@Nat.lt_or_ge
abbrev RV:=@List.mem_filter
abbrev RW:=@List.mem_of_mem_take
abbrev RX:=@List.length_take
abbrev RY:=@PyProof.Rows.callWith_type1
abbrev RZ:=@PySem.Obj.data_mapFields
abbrev R0:=@List.exists_of_findSome?_eq_some
abbrev R1:=@beq_eq_false_iff_ne
abbrev R3:=@PySem.Env
abbrev R4:=@Array.getElem?_eq_getElem
abbrev R5:=@PySem.Paired
abbrev R6:=@PySem.Heap.SameBut
abbrev R7:=@PySem.W.mg_of
abbrev R8:=@Bool.and_eq_true_iff
abbrev R9:=@Option.isSome_map
abbrev Sa:=@List.nodup_append
abbrev Sb:=@List.length_eq_zero_iff
abbrev Sd:=@PySem.Params
abbrev Se:=@PySem.Heap.size_push
abbrev Sf:=@PySem.Around.under_plainId
abbrev Sg:=@List.replicate_succ
abbrev Sh:=@Nat.le_add_right
abbrev Si:=@Int.emod_lt_of_pos
abbrev Sj:=@Array.getElem?_eq_some_iff
abbrev Sk:=@List.length_filter_le
abbrev Sl:=@Option.isNone_iff_eq_none
abbrev Sm:=@Int.emod_nonneg
abbrev Sn:=@Bool.or_eq_true
abbrev So:=@Nat.le_of_lt
abbrev Sq:=@Array.length_toList
abbrev Sr:=@List.getElem_mem
abbrev Ss:=@List.getElem?_replicate
abbrev Su:=@PySem.Comprehension
abbrev Sv:=@PySem.F.plain_min_loop
abbrev Sw:=@PyProof.Rows.IntsAre
abbrev Sx:=@Nat.add_assoc
abbrev Sy:=@List.getElem?_eq_none
abbrev Sz:=@List.flatten_cons
abbrev SA:=@Bool.not_eq_true'
abbrev SD:=@PySem.F.slot_dict_keyiterator_next
abbrev SF:=@PySem.Obj.isFreed_of_fields
abbrev SG:=@PySem.mem_of_lookup
abbrev SH:=@List.getElem?_range
abbrev SI:=@List.filterMap_cons
abbrev SJ:=@Bool.true_and
abbrev SK:=@List.nil_append
namespace HD
open PySem PySem.W
noncomputable def ir (tb:String->Option Builtin)(p:Ra)(w:Rb)(n0:Nat)(ann:Option Qi):Nat->RB->Thread->Option RB
 |0,_,_=>none
 | n + 1, s, t => match through t with
   |true=>some s
   | false => match stepOk n0 ann t with
     |false=>none
     | true => match stepT (denote tb) p w s t with
       |some (s',t')=>ir tb p w n0 ann n s' t'
       |none=>none
def rR {tb:String->Option Builtin}{p:Ra}{w:Rb}{n0:Nat}{ann:Option Qi}:∀{n:Nat}{s s':RB}{t:Thread},ir tb p w n0 ann n s t=some s'->topRun tb p w n0 ann n s.abs t=some s'.abs
 |0,_,_,_,h=>by cases h
 | n + 1, s, s', t, h => by
   unfold ir at h;unfold topRun;cases he:through t with
   |true=>rw[he] at h;cases h;rfl
   | false =>
     rw[he] at h;cases hk:stepOk n0 ann t with
     |false=>rw[hk] at h;cases h
     | true =>
       rw[hk] at h;cases hs:stepT (denote tb) p w s t with
       |none=>rw[hs] at h;cases h
       |some r=>obtain⟨s2,t2⟩:=r;rw[hs] at h;rw[stepT_spec hs];exact rR h
noncomputable def treeOf:List Obj->Nat->BT->BT
 |[],_,t=>t
 |o::r,n,t=>treeOf r (n+1) (t.ins n o)
noncomputable def yV (P:Sd)(os:Rz):RB:={treeOf (boot_heap P).objs.toList 0 .nil,(boot_heap P).objs.toList.length,(boot_heap P).life,#[],boot_drawn,boot_toks,os}
def boot_abs (P:Sd)(os:Rz):(yV P os).abs={boot_heap P,#[],boot_drawn,boot_toks,os}:=by kernel_rfl
noncomputable def lU (p q:Ra)(loose:List Str)(Xt:Qm->Bool)(g0:Bool)(h0:Heap){α:Type}(Yf:Qm->α)(s:Qm):=
 ((staticsOk (importedModules p.main.body) h0 s.heap&&namesBound p s.heap&&gensDone s&&laidKept h0 s.heap),openSeen q loose (importedModules p.main.body) Xt g0 s,Yf s)
noncomputable def xb (tb:String->Option Builtin)(p:Ra)(w:Rb)(n0:Nat)(ann:Option Qi):Nat->RB->Thread->Option (RB×Thread)
 |0,s,t=>some (s,t)
 | n + 1, s, t => match through t with
   |true=>none
   | false => match stepOk n0 ann t with
     |false=>none
     | true => match stepT (denote tb) p w s t with
       |some (s',t')=>xb tb p w n0 ann n s' t'
       |none=>none
noncomputable def lN (tb:String->Option Builtin)(p:Ra)(w:Rb)(n0:Nat)(ann:Option Qi):Nat->RB->Thread->Option (Flow×RB×Code×Pos)
 |0,_,_=>none
 | n + 1, s, t => match endAt 1 t with
   |some f=>some (f,s,t.code,t.pos)
   | none => match stepOk n0 ann t with
     |false=>none
     | true => match stepT (denote tb) p w s t with
       |some (s',t')=>lN tb p w n0 ann n s' t'
       |none=>none
section
variable{tb:String->Option Builtin}{p:Ra}{w:Rb}{n0:Nat}{ann:Option Qi}
def Br:∀{n:Nat}{s s':RB}{t t':Thread},xb tb p w n0 ann n s t=some (s',t')->topGo tb p w n0 ann n s.abs t=some (s'.abs,t')
 |0,s,s',t,t',h=>by cases h;rfl
 | n + 1, s, s', t, t', h => by
   unfold xb at h;unfold topGo;cases he:through t with
   |true=>rw[he] at h;cases h
   | false =>
     rw[he] at h;cases hk:stepOk n0 ann t with
     |false=>rw[hk] at h;cases h
     | true =>
       rw[hk] at h;cases hs:stepT (denote tb) p w s t with
       |none=>rw[hs] at h;cases h
       |some q=>obtain⟨s2,t2⟩:=q;rw[hs] at h;rw[stepT_spec hs];exact Br h
def qG:∀{n:Nat}{s s':RB}{t:Thread}{f:Flow}{c:Code}{q:Pos},lN tb p w n0 ann n s t=some (f,s',c,q)->segRun tb p w n0 ann 1 n s.abs t=some (f,s'.abs,c,q)
 |0,_,_,_,_,_,_,h=>by cases h
 | n + 1, s, s', t, f, c, q, h => by
   unfold lN at h;unfold segRun;cases he:endAt 1 t with
   |some g=>rw[he] at h;cases h;rfl
   | none =>
     rw[he] at h;cases hk:stepOk n0 ann t with
     |false=>rw[hk] at h;cases h
     | true =>
       rw[hk] at h;cases hs:stepT (denote tb) p w s t with
       |none=>rw[hs] at h;cases h
       |some x=>obtain⟨s2,t2⟩:=x;rw[hs] at h;rw[stepT_spec hs];exact qG h
def vg {n3 N:Nat}{s s2:RB}{env:Env}{c:Code}{p' p2 q:Pos}{b:List Stmt}{J:Nat}{α:Type}{f:Qm->α}{a:α}
 (h3:lN tb p w n0 ann n3 s (piecesOf (b.take J) env c p' [topFrame q])=some (.next,s2,c,p2))
 (h4:(topRun tb p w n0 ann N s2.abs (restOf (b.drop J) env c p2 [topFrame q])).map f=some a):(topRun tb p w n0 ann (n3+N) s.abs (restOf b env c p' [topFrame q])).map f=some a:=by
 obtain⟨r,e3,e4⟩:=QA.mp h4;have k4:=piece_app (qG h3) e3;rw[List.take_append_drop] at k4;rw[k4];exact congrArg some e4
def Bz {N:Nat}{s2:RB}{t:Thread}{p' q:Ra}{loose:List Str}{Xt:Qm->Bool}{g0:Bool}{h0:Heap}{α:Type}{Yf:Qm->α}{a b c}
 (h1:(ir tb p w n0 ann N s2 t).map (λs=>(lU p' q loose Xt g0 h0 Yf s.abs).1)=some a) (h2:(ir tb p w n0 ann N s2 t).map (λs=>(lU p' q loose Xt g0 h0 Yf s.abs).2.1)=some b)
 (h3:(ir tb p w n0 ann N s2 t).map (λs=>(lU p' q loose Xt g0 h0 Yf s.abs).2.2)=some c):(topRun tb p w n0 ann N s2.abs t).map (lU p' q loose Xt g0 h0 Yf)=some (a,b,c):=by
 obtain⟨r,e3,rfl⟩:=QA.mp h1;rw[e3] at h2 h3;cases h2;cases h3;rw[rR e3];rfl
def BA {n1 n2 N:Nat}{s s':RB}{env:Env}{c:Code}{pos p' q:Pos}{t:Thread}{b:List Stmt}{J:Nat}{α:Type}{f:Qm->α}{a:α}
 (h1:(xb tb p w n0 ann n1 s t).map (·.2)=some {denote tb (.body b env),c,pos,[topFrame q]}) (h0:endAt 1 (blockOf b env c pos [topFrame q])=some .next)
 (h2:((xb tb p w n0 ann n1 s t).bind λx=>lN tb p w n0 ann n2 x.1 (piecesOf (b.take J) env c pos [topFrame q]))=some (.next,s',c,p'))
 (h3:(topRun tb p w n0 ann N s'.abs (restOf (b.drop J) env c p' [topFrame q])).map f=some a):(topRun tb p w n0 ann (n1+(1+(n2+N))) s.abs t).map f=some a:=by
 obtain⟨⟨s1,t1⟩,e1,e2⟩:=QA.mp h1;have e2:t1={denote tb (.body b env),c,pos,[topFrame q]}:=e2;subst e2;rw[e1] at h2;have h2:lN tb p w n0 ann n2 s1 (piecesOf (b.take J) env c pos [topFrame q])=some (.next,s',c,p'):=h2
 obtain⟨r,e3,e4⟩:=QA.mp h3;have k3:=piece_app (qG h2) e3;rw[List.take_append_drop] at k3;have hb:segRun tb p w n0 ann 1 1 s1.abs (blockOf b env c pos [topFrame q])=some (.next,s1.abs,c,pos):=by
  show(match endAt 1 (blockOf b env c pos [topFrame q]) with|some f=>some (f,s1.abs,c,pos)|none=>_)=_
  rw[h0]
 have k2:=piece_block hb k3;rw[go_top (Br e1) k2];exact congrArg some e4
end
def v8 {p q:Ra}{loose:List Str}{Xt:Qm->Bool}{α:Type}{Yf:Qm->α}{Ya:Rb->α}{N:Nat}{g0:Bool}{m0:Nat}{ann:Option Qi}
 (open_:∀w:Rb,(fencedOpening treeTable p w N).map (λs=>(s.heap,s.gens,s.drawn,s.toks))=some (boot_heap w.params,Array.mk [],boot_drawn,boot_toks))
 (size:∀w:Rb,((boot_heap w.params).isNs mainGlobals&&(Array.mk ([]:List GenState)).size==0,(boot_heap w.params).objs.size,(boot_heap w.params).nsMap mainGlobals "__annotations__")=(true,m0,ann))
 (run:∀(w:Rb) (os:Rz),(topRun treeTable p w m0 ann N (yV w.params os).abs (topStub p)).map (lU p q loose Xt g0 (boot_heap w.params) Yf)=some (true,openGood q loose,Ya w)):LeftO p q loose Xt Yf Ya N g0:=λw=>by
 obtain⟨⟨h,gs,d,k,os⟩,e,e'⟩:=QA.mp (open_ w);obtain⟨rfl,rfl,rfl,rfl⟩:h=boot_heap w.params/\gs=Array.mk []/\d=boot_drawn/\k=boot_toks:=by simpa using e'
 obtain⟨z1,z2,z3⟩:_/\_/\_:=by simpa only[Prod.mk.injEq] using size w
 obtain⟨s1,r,l⟩:=QA.mp (run w os);obtain⟨l1,l2,l3⟩:_/\_/\_:=by simpa only[lU,Prod.mk.injEq] using l
 rw[boot_abs] at r;have t:topFrom treeTable p w N {boot_heap w.params,Array.mk [],boot_drawn,boot_toks,os}=some s1:=by
  unfold topFrom;dsimp only;rw[z1,z2,z3,r];show(match staticsOk (importedModules p.main.body) (boot_heap w.params) s1.heap&&namesBound p s1.heap&&gensDone s1&&laidKept (boot_heap w.params) s1.heap with|true=>_|false=>_)=_
  rw[l1]
 unfold openEnds;rw[e];show(topFrom treeTable p w N _).map _=_;rw[t];exact congrArg some (Prod.ext l2 l3)
end HD
namespace K23
open PySem
abbrev eN (P:Sd)(x:Str)(n:Nat)(v:Qi):RK:={PyData.keyHash P x,.str x n,v}
noncomputable def kInC (j:Nat)(s:Stmt):Stmt:=match s with
 |.ClassDef _ _ _ b _ _ _ _ _ _ _=>b.getD j s
 |_=>s
noncomputable def kz (i:Nat):Stmt:=PySem.Challenge.pw_leastdeeds_k23_which_lists_are_closed.main.body.getD i (.Pass {0,0,0,0})
noncomputable def yF (s:Stmt):Arguments:=match s with
 |.FunctionDef _ a _ _ _ _ _ _ _ _=>a
 |_=>{[],[],none,[],[],none,[]}
noncomputable def yE (s:Stmt):List Stmt:=match s with
 |.FunctionDef _ _ b _ _ _ _ _ _ _=>b
 |_=>[]
noncomputable def uP (s:Stmt):Scope:=match s with
 |.FunctionDef _ _ _ _ _ _ sc _ _ _=>sc
 |_=>{kind:=.function,names:=[],isGenerator:=false,isCoroutine:=false}
noncomputable def o1:Obj:={cls:=.type "tuple" ,data:=.seq #[]}
noncomputable def o2 (a:String)(b:Nat)(c:Int)(d:Nat)(e:Int):Obj:={cls:=.type "code" ,data:=.fields #[.str (Str.ofString a) b ,.str (Str.ofString a) (b+1) ,.str ("/claim/cut.py") (b+2) ,.int c 0 ,.int 0 0 ,.int 0 0 ,.int 0 0 ,.int 0 0 ,.ref d ,.bool false ,.int 181 0 ,.ref (d+1) ,.none ,.none ,.none ,.none ,.int e 0 ,.int c 0 ,.str ("/claim/cut.py") (b+4)]}
noncomputable def o3 (a:Nat)(b:Nat)(c:String)(d:Nat):Obj:={cls:=.type "frame" ,slots:=#[some (.ref a) ,some (.ref 3) ,some (.ref b) ,none ,some (.str (Str.ofString c) d) ,none ,some (.ref 0)]}
noncomputable def o4:Obj:={cls:=.type "builtin_function_or_method" ,data:=.fields #[.builtin "type.__prepare__" ,.type "type"]}
noncomputable def o5 (P:Sd)(a:Nat)(b:String)(c:Int)(d:Nat):Obj:={cls:=.type "dict" ,data:=.dict #[{hash:=PyData.keyHash P ("__module__") ,key:=.str ("__module__") a ,val:=.str ("leastdeeds.errors") 187} ,{hash:=PyData.keyHash P ("__qualname__") ,key:=.str ("__qualname__") (a+2) ,val:=.str (Str.ofString b) (a+1)} ,{hash:=PyData.keyHash P ("__firstlineno__") ,key:=.str ("__firstlineno__") (a+4) ,val:=.int c (a+3)} ,{hash:=PyData.keyHash P ("__static_attributes__") ,key:=.str ("__static_attributes__") (a+5) ,val:=.ref d}] 4}
noncomputable def o6:Obj:={cls:=.none ,data:=.fields #[]}
noncomputable def o7 (P:Sd):Obj:={cls:=.type "dict" ,data:=.dict #[{hash:=PyData.keyHash P ("__module__") ,key:=.str ("__module__") 196 ,val:=.str ("leastdeeds.errors") 187} ,{hash:=PyData.keyHash P ("__firstlineno__") ,key:=.str ("__firstlineno__") 200 ,val:=.int 2 199} ,{hash:=PyData.keyHash P ("__static_attributes__") ,key:=.str ("__static_attributes__") 201 ,val:=.ref 22} ,{hash:=PyData.keyHash P ("__weakref__") ,key:=.str ("__weakref__") 203 ,val:=.ref 25} ,{hash:=PyData.keyHash P ("__doc__") ,key:=.str ("__doc__") 204 ,val:=.none}] 3}
noncomputable def o8:Obj:={cls:=.type "type" ,data:=.cls {name:="DeedError" ,bases:=[.type "ValueError"] ,mro:=[.ref 24 ,.type "ValueError" ,.type "Exception" ,.type "BaseException" ,.type "object"] ,ns:=23 ,qualname:="DeedError" ,subclasses:=[.ref 37 ,.ref 49 ,.ref 61]} ,slots:=#[some (.ref 15) ,none ,some (.str ("DeedError") 189) ,some (.str ("DeedError") 197) ,some (.builtin "ValueError.__new__") ,some (.bool true)]}
noncomputable def o9 (a:Nat):Obj:={cls:=.type "super" ,data:=.fields #[.ref a ,.ref a ,.ref a]}
noncomputable def ER (a:Nat):Obj:={cls:=.type "builtin_function_or_method" ,data:=.fields #[.builtin "object.__init_subclass__" ,.ref a]}
noncomputable def Kk:Obj:={cls:=.type "tuple" ,data:=.seq #[.ref 24]}
noncomputable def Kj (P:Sd)(a:Nat)(b:Int)(c:Nat):Obj:={cls:=.type "dict" ,data:=.dict #[{hash:=PyData.keyHash P ("__module__") ,key:=.str ("__module__") a ,val:=.str ("leastdeeds.errors") 187} ,{hash:=PyData.keyHash P ("__firstlineno__") ,key:=.str ("__firstlineno__") (a+4) ,val:=.int b (a+3)} ,{hash:=PyData.keyHash P ("__static_attributes__") ,key:=.str ("__static_attributes__") (a+5) ,val:=.ref c} ,{hash:=PyData.keyHash P ("__doc__") ,key:=.str ("__doc__") (a+6) ,val:=.none}] 2}
noncomputable def Ki (a:String)(b:Nat)(c:Nat)(d:Nat)(e:Nat):Obj:={cls:=.type "type" ,data:=.cls {name:=Str.ofString a ,bases:=[.ref 24] ,mro:=[.ref b ,.ref 24 ,.type "ValueError" ,.type "Exception" ,.type "BaseException" ,.type "object"] ,ns:=c ,qualname:=Str.ofString a} ,slots:=#[some (.ref d) ,none ,some (.str (Str.ofString a) e) ,some (.str (Str.ofString a) (e+8)) ,some (.builtin "ValueError.__new__") ,some (.bool true)]}
noncomputable def Od (P:Sd)(a:Nat)(b:Nat):Obj:={cls:=.type "dict" ,data:=.dict #[{hash:=PyData.keyHash P ("turn") ,key:=.str ("turn") a ,val:=.ref b} ,{hash:=PyData.keyHash P ("join") ,key:=.str ("join") (a+1) ,val:=.ref (b+7)} ,{hash:=PyData.keyHash P ("move") ,key:=.str ("move") (a+2) ,val:=.ref (b+14)} ,{hash:=PyData.keyHash P ("put") ,key:=.str ("put") (a+3) ,val:=.ref (b+21)}] 4}
noncomputable def o15:Obj:={cls:=.type "tuple" ,data:=.seq #[.none]}
noncomputable def o16:Obj:={cls:=.type "code" ,data:=.fields #[.str ("reached") 546 ,.str ("reached") 547 ,.str ("/claim/cut.py") 548 ,.int 138 0 ,.int 2 0 ,.int 0 0 ,.int 0 0 ,.int 3 0 ,.ref 243 ,.bool true ,.int 181 0 ,.ref 244 ,.none ,.ref 245 ,.ref 246 ,.ref 247 ,.int 555 0 ,.int 138 0 ,.str ("/claim/cut.py") 556]}
noncomputable def o17:Obj:={cls:=.type "function" ,data:=.func {name:="reached" ,qualname:="reached" ,params:=yF (kz 46) ,body:=PySem.FuncBody.stmts (yE (kz 46)) ,scope:=uP (kz 46) ,globals:=3 ,closure:=[] ,defaults:=.ref 242 ,kwdefaults:=.none ,pyModule:=.str ("leastdeeds.least") 513 ,code:=.ref 248}}
noncomputable def lh (i:Nat):Str×Nat×Nat×List Str×Bool:=match kz i with
 |.FunctionDef x a _ _ _ _ sc _ _ p=>(x,p.line,a.args.length,sc.names.filterMap (λq=>match q.2 with|.local=>some q.1|_=>none),sc.names.any (λq=>match q.2 with|.cell=>true|_=>false)||i==40||i==68)
 |_=>("",0,0,[],false)
noncomputable def kN (i:Nat):Nat:=bif (lh i).2.2.2.2 then 0 else(lh i).2.2.2.1.length
noncomputable def Bh (i:Nat):Nat:=bif (lh i).2.2.2.2 then 5 else 7
noncomputable def oK:Nat->Nat->Nat->Nat->List (Nat×Nat×Nat)
 |0,_,_,_=>[]
 |n+1,i,e,t=>(i,e,t)::oK n (i+1) (e+Bh i) (t+kN i+6)
noncomputable def qg:Nat×Nat×Nat->List Qi:=λ(i,e,_)=>[.int (lh i).2.1 0,.int 0 0,.ref (e+Bh i-2)]
noncomputable def qh (P:Sd):Nat×Nat×Nat->RK:=λ(i,e,t)=>{PyData.keyHash P (lh i).1,.str (lh i).1 (t+kN i+5),.ref (e+Bh i-1)}
noncomputable def Fp (c:Qi)(i g:Nat)(m d:Qi):Obj:={cls:=c,data:=.func {name:=(lh i).1,qualname:=(lh i).1,params:=yF (kz i),body:=.stmts (yE (kz i)),scope:=uP (kz i),globals:=g,closure:=[],defaults:=.none,kwdefaults:=.none,pyModule:=m,code:=d}}
noncomputable def kO (m:Str)(k:Nat):Nat×Nat×Nat->List Obj:=λ(i,e,t)=>
 let x:=(lh i).1
 let l:Qi:=.int (lh i).2.1 0
 let q:=t+kN i
 let c:=λ(a:Qi) (b:Qi) (d:Nat)=>({cls:=.type "code",data:=.fields #[.str x t,.str x (t+1),.str "/claim/cut.py" (t+2),l,.int (lh i).2.2.1 0,.int 0 0,.int 0 0,.int 3 0,.ref e,.bool true,.int 181 0,.ref (e+1),.none,a,b,.ref (e+d),.int (q+3:Nat) 0,l,.str "/claim/cut.py" (q+4)]}:Obj)
 [o1,{cls:=.none,data:=.fields #[]}]++bif (lh i).2.2.2.2 then [Fp .none i 0 .none .none,c .none .none 2,Fp (.type "function") i 3 (.str m k) (.ref (e+3))] else [{cls:=.type "tuple",data:=.seq (((lh i).2.2.2.1.zipIdx (t+3)).map λp=>.str p.1 p.2).toArray},o1,Fp .none i 0 .none .none,c (.ref (e+2)) (.ref (e+3)) 4,Fp (.type "function") i 3 (.str m k) (.ref (e+5))]
noncomputable def qi:Nat×Nat×Nat->List Addr:=λ(i,e,_)=>[e+Bh i-2,e+Bh i-1]
noncomputable def E6:=oK 1 6 64 257
noncomputable def E5:=oK 10 13 71 278
noncomputable def E4:=oK 5 24 138 379
noncomputable def E3:=oK 4 30 167 417
noncomputable def E2:=oK 2 35 196 475
noncomputable def E1:=oK 3 38 208 493
noncomputable def EZ:=oK 3 43 225 517
noncomputable def EY:=oK 2 47 250 558
noncomputable def EX:=oK 24 50 260 572
noncomputable def Oj:List Qi:=[.int 2 0,.int 0 0,.ref 20,.int 4 0,.int 0 0,.ref 33,.int 6 0,.int 0 0,.ref 45,.int 8 0,.int 0 0,.ref 57]++E6.flatMap qg
noncomputable def Oi:List Qi:=Oj++E5.flatMap qg++E4.flatMap qg++E3.flatMap qg++E2.flatMap qg++E1.flatMap qg
noncomputable def kt2:List Qi:=Oi++EZ.flatMap qg++[.int 138 0,.int 0 0,.ref 248]++EY.flatMap qg++EX.flatMap qg
noncomputable def Oo (P:Sd):List RK:=[eN P "__doc__" 166 (.none),eN P "__package__" 167 (.none),eN P "__loader__" 168 (.builtin "__main__.__loader__#opaque"),eN P "__spec__" 169 (.none),eN P "__annotations__" 170 (.ref 6),eN P "__builtins__" 171 (.ref 4),eN P "__file__" 173 (.str "/claim/cut.py" 172),eN P "__cached__" 174 (.none),eN P "DeedError" 206 (.ref 24),eN P "NoMachine" 222 (.ref 37),eN P "NoWork" 238 (.ref 49),eN P "TooMany" 254 (.ref 61)]++E6.map (qh P)++[eN P "LEAST_WORDS" 269 (.int 2 268)]
noncomputable def Om (P:Sd):List RK:=Oo P++[eN P "MOST_WORDS" 271 (.int 4 270),eN P "MOST_PLACES" 273 (.int 2 272),eN P "MOST_DEEDS" 275 (.int 6 274),eN P "MOST_COST" 277 (.int 3 276)]++E5.map (qh P)++[eN P "SORTS" 378 (.ref 137)]++E4.map (qh P)++E3.map (qh P)++[eN P "NEW_WORDS" 474 (.ref 195)]++E2.map (qh P)++E1.map (qh P)++[eN P "MOST_BEHAVIOURS" 516 (.int 255 515)]
noncomputable def Ol (P:Sd):List RK:=Om P++EZ.map (qh P)++[eN P "reached" 557 (.ref 249)]++EY.map (qh P)++EX.map (qh P)
noncomputable def Ov (P:Sd):List Obj:=[o1,{cls:=.none,data:=.fields Oj.toArray},o2 "<module>" 182 1 11 185,o3 13 3 "__main__" 164,{cls:=.type "tuple",data:=.seq #[.type "ValueError"]},o4,o5 P 196 "DeedError" 2 22,o1,o6,o2 "DeedError" 191 2 18 194,o3 20 17 "leastdeeds.errors" 187,o1,o7 P,o8,{cls:=.type "getset_descriptor",data:=.fields #[.str "__weakref__" 202,.ref 24,.builtin "ExceptionGroup.__weakref__",.none]},o9 24,ER 24,Kk,o4,o5 P 214 "NoMachine" 4 35,o1,o6,o2 "NoMachine" 209 4 31 212,o3 33 30 "leastdeeds.errors" 187,o1,Kj P 214 4 35,Ki "NoMachine" 37 36 28 207,o9 37,ER 37,Kk,o4,o5 P 230 "NoWork" 6 47,o1,o6,o2 "NoWork" 225 6 43 228,o3 45 42 "leastdeeds.errors" 187,o1,Kj P 230 6 47,Ki "NoWork" 49 48 40 223,o9 49,ER 49,Kk,o4,o5 P 246 "TooMany" 8 59,o1,o6,o2 "TooMany" 241 8 55 244,o3 57 54 "leastdeeds.errors" 187,o1,Kj P 246 8 59,Ki "TooMany" 61 60 52 239,o9 61,ER 61]++E6.flatMap (kO "leastdeeds.wholes" 255)
noncomputable def Ou (P:Sd):List Obj:=((Ov P).set 1 ({cls:=.none,data:=.fields Oi.toArray}))++E5.flatMap (kO "leastdeeds.machines" 266)++[Od P 370 115]++E4.flatMap (kO "leastdeeds.machines" 266)++E3.flatMap (kO "leastdeeds.runs" 415)++[Od P 466 173]++E2.flatMap (kO "leastdeeds.runs" 415)++E1.flatMap (kO "leastdeeds.works" 491)
noncomputable def Ot (P:Sd):List Obj:=((Ou P).set 1 ({cls:=.none,data:=.fields kt2.toArray}))++EZ.flatMap (kO "leastdeeds.least" 513)++[o15,o1,o6,{cls:=.type "tuple",data:=.seq #[.str "machine" 549,.str "bound" 550,.str "leads" 551,.str "empty_ends" 552,.str "found" 553,.str "levels" 554]},o1,{cls:=.none,data:=.func {name:="reached",qualname:="reached",params:=yF (kz 46),body:=PySem.FuncBody.stmts (yE (kz 46)),scope:=uP (kz 46),globals:=0,closure:=[],defaults:=.none,kwdefaults:=.none,pyModule:=.none,code:=.none}},o16,o17]++EY.flatMap (kO "leastdeeds.least" 513)++EX.flatMap (kO "law_leastdeeds_k23_which_lists_are_closed" 570)
noncomputable def Oq:List Addr:=[23,24,36,37,48,49,60,61,137,195,242,248,249]++E6.flatMap qi++E5.flatMap qi++E4.flatMap qi++E3.flatMap qi++E2.flatMap qi++E1.flatMap qi++EZ.flatMap qi++EY.flatMap qi++EX.flatMap qi
noncomputable def kh:Sd->Qh:=λP=>[(3,{cls:=.type "dict",data:=.dict (eN P "__name__" 165 (.str "law_leastdeeds_k23_which_lists_are_closed" 570)::Ol P).toArray 76})]++List.map (λa=>(a,(Ot P).getD (a-11) o1)) Oq
noncomputable def KR:List Addr:=[3]++Oq
def O9:∀P,KR=(kh P).map (·.1):=λ_=>by kernel_rfl
noncomputable def kq:Ra:=PySem.W.view PySem.Challenge.pw_leastdeeds_k23_which_lists_are_closed [1,2,3,4,6,8,9,10,11,12,13,14,15,16,17,18,19,20,21,22,23,24,25,26,27,28,30,31,32,33,34,35,36,38,39,40,42,43,44,45,47,48,50,51,52,53,54,55,56,57,58,59,60,61,62,63,64,65,66,67,68,69,70,71,72,73]
abbrev kH:PySem.W.Hook:=PySem.W.kHook kh KR O9
noncomputable def qf:List Str:=["SORTS","NEW_WORDS","reached"]
abbrev yC:=PySem.Challenge.rw_leastdeeds_k23_which_lists_are_closed.row
abbrev kX:Qm->Bool:=λs=>PySem.W.xlAt kq [] s&&PySem.W.recOk (PySem.W.RowW.records yC.toRowW) s
noncomputable def Fj (P:Sd)(os:Rz):RB:={HD.treeOf ((((PySem.W.boot_heap P).objs.toList.set 3 ({cls:=.type "dict",data:=.dict (eN P "__name__" 165 (.str "leastdeeds.machines" 266)::Oo P).toArray 15})))++Ov P) 0 .nil,71,{},#[],{},270,os}
noncomputable def Fi (P:Sd)(os:Rz):RB:={HD.treeOf ((((PySem.W.boot_heap P).objs.toList.set 3 ({cls:=.type "dict",data:=.dict (eN P "__name__" 165 (.str "leastdeeds.least" 513)::Om P).toArray 46})))++Ou P) 0 .nil,225,{},#[],{},517,os}
noncomputable def Fh (P:Sd)(os:Rz):RB:={HD.treeOf ((((PySem.W.boot_heap P).objs.toList.set 3 ({cls:=.type "dict",data:=.dict (eN P "__name__" 165 (.str "law_leastdeeds_k23_which_lists_are_closed" 570)::Ol P).toArray 76})))++Ot P) 0 .nil,406,{},#[],{},780,os}
noncomputable def kE:Env:={scope:=PySem.Challenge.pw_leastdeeds_k23_which_lists_are_closed.main.scope,locals:=mainNs,globals:=mainNs,cells:=[],code:=.ref 13,frame:=some 14}
noncomputable def kP (w:Rb)(os:Rz):=HD.xb treeTable PySem.Challenge.pw_leastdeeds_k23_which_lists_are_closed w 11 (some (.ref 6)) 12 (HD.yV w.params os) (PySem.W.topStub PySem.Challenge.pw_leastdeeds_k23_which_lists_are_closed)
noncomputable def Fd (w:Rb)(os:Rz):=(kP w os).bind λx=>HD.lN treeTable PySem.Challenge.pw_leastdeeds_k23_which_lists_are_closed w 11 (some (.ref 6)) 893 x.1 (PySem.W.piecesOf ((PySem.W.behindTheImports PySem.Challenge.pw_leastdeeds_k23_which_lists_are_closed).take 9) kE (.body (PySem.W.behindTheImports PySem.Challenge.pw_leastdeeds_k23_which_lists_are_closed) kE) {0,0,0,0} [PySem.W.topFrame {0,0,0,0}])
noncomputable def E9 (w:Rb)(os:Rz):Option (Flow×RB×Code×Pos):=some (.next,Fj w.params os,(.body (PySem.W.behindTheImports PySem.Challenge.pw_leastdeeds_k23_which_lists_are_closed) kE),{16,0,16,11})
noncomputable def Fc (w:Rb)(os:Rz):=HD.lN treeTable PySem.Challenge.pw_leastdeeds_k23_which_lists_are_closed w 11 (some (.ref 6)) 946 (Fj w.params os) (PySem.W.piecesOf (((PySem.W.behindTheImports PySem.Challenge.pw_leastdeeds_k23_which_lists_are_closed).drop 9).take 34) kE (.body (PySem.W.behindTheImports PySem.Challenge.pw_leastdeeds_k23_which_lists_are_closed) kE) {16,0,16,11} [PySem.W.topFrame {0,0,0,0}])
noncomputable def E8 (w:Rb)(os:Rz):Option (Flow×RB×Code×Pos):=some (.next,Fi w.params os,(.body (PySem.W.behindTheImports PySem.Challenge.pw_leastdeeds_k23_which_lists_are_closed) kE),{119,0,119,15})
noncomputable def Fb (w:Rb)(os:Rz):=HD.lN treeTable PySem.Challenge.pw_leastdeeds_k23_which_lists_are_closed w 11 (some (.ref 6)) 902 (Fi w.params os) (PySem.W.piecesOf ((((PySem.W.behindTheImports PySem.Challenge.pw_leastdeeds_k23_which_lists_are_closed).drop 9).drop 34).take 31) kE (.body (PySem.W.behindTheImports PySem.Challenge.pw_leastdeeds_k23_which_lists_are_closed) kE) {119,0,119,15} [PySem.W.topFrame {0,0,0,0}])
noncomputable def E7 (w:Rb)(os:Rz):Option (Flow×RB×Code×Pos):=some (.next,Fh w.params os,(.body (PySem.W.behindTheImports PySem.Challenge.pw_leastdeeds_k23_which_lists_are_closed) kE),{347,0,371,15})
noncomputable def kR (w:Rb)(os:Rz):=HD.ir treeTable PySem.Challenge.pw_leastdeeds_k23_which_lists_are_closed w 11 (some (.ref 6)) 2848 (Fh w.params os) (PySem.W.restOf ((((PySem.W.behindTheImports PySem.Challenge.pw_leastdeeds_k23_which_lists_are_closed).drop 9).drop 34).drop 31) kE (.body (PySem.W.behindTheImports PySem.Challenge.pw_leastdeeds_k23_which_lists_are_closed) kE) {347,0,371,15} [PySem.W.topFrame {0,0,0,0}])
abbrev KJ (P:Sd)(s:RB):=HD.lU PySem.Challenge.pw_leastdeeds_k23_which_lists_are_closed kq qf kX true (PySem.W.boot_heap P) (λs=>KR.map s.heap.get?) s.abs
noncomputable def Fg (w:Rb)(os:Rz):=(kR w os).map λs=>(KJ w.params s).1
noncomputable def Ff (w:Rb)(os:Rz):=(kR w os).map λs=>(KJ w.params s).2.1
noncomputable def Fe (w:Rb)(os:Rz):=(kR w os).map λs=>(KJ w.params s).2.2
noncomputable def Fo (w:Rb):=some true
noncomputable def Fn (w:Rb):=some (PySem.W.openGood kq qf)
noncomputable def Fm (w:Rb):=some ((kh w.params).map λp=>some p.2)
noncomputable def _root_.PySem.W.Fast.tw14925368271310853265:Ra:=PySem.Challenge.pw_leastdeeds_k23_which_lists_are_closed
def _root_.PySem.W.Fast.te14925368271310853265:PySem.Challenge.pw_leastdeeds_k23_which_lists_are_closed=PySem.W.Fast.tw14925368271310853265:=rfl
noncomputable def _root_.PySem.W.Fast.tw5577646863623073459:Sd->Qh:=K23.kh
def _root_.PySem.W.Fast.te5577646863623073459:K23.kh=PySem.W.Fast.tw5577646863623073459:=rfl
noncomputable def _root_.PySem.W.Fast.tw16256733927107673219:Sd->Rz->RB:=K23.Fj
def _root_.PySem.W.Fast.te16256733927107673219:K23.Fj=PySem.W.Fast.tw16256733927107673219:=rfl
noncomputable def _root_.PySem.W.Fast.tw12422183144812125466:Sd->Rz->RB:=K23.Fi
def _root_.PySem.W.Fast.te12422183144812125466:K23.Fi=PySem.W.Fast.tw12422183144812125466:=rfl
noncomputable def _root_.PySem.W.Fast.tw14972239951532370541:Sd->Rz->RB:=K23.Fh
def _root_.PySem.W.Fast.te14972239951532370541:K23.Fh=PySem.W.Fast.tw14972239951532370541:=rfl
def Pk:Fg=Fg:=rfl
name_quick kq1_23 for Fg by Pk
def Pj:Ff=Ff:=rfl
name_quick kq2_23 for Ff by Pj
def Pn:Fn=Fn:=rfl
name_quick kg2_23 for Fn by Pn
def Ph:Fe=Fe:=rfl
name_quick kq3_23 for Fe by Ph
def Pm:Fm=Fm:=rfl
name_quick kg3_23 for Fm by Pm
def Pf:Fd=Fd:=rfl
name_quick kua23 for Fd by Pf
def Pc:E9=E9:=rfl
name_quick kva23 for E9 by Pc
def Pe:Fc=Fc:=rfl
name_quick kub23 for Fc by Pe
def Pb:E8=E8:=rfl
name_quick kvb23 for E8 by Pb
def Pd:Fb=Fb:=rfl
name_quick kuc23 for Fb by Pd
def Pa:E7=E7:=rfl
name_quick kvc23 for E7 by Pa
def Bg:∀(w:Rb) (os:Rz),PySem.W.Fast.kua23 (w.withFollow "special-get-raises" false) os=PySem.W.Fast.kva23 (w.withFollow "special-get-raises" false) os:=λw os=>by kernel_rfl
def Dt:∀(w:Rb) (os:Rz),PySem.W.Fast.kua23 (w.withFollow "special-get-raises" true) os=PySem.W.Fast.kva23 (w.withFollow "special-get-raises" true) os:=λw os=>by kernel_rfl
def ka0:∀(w:Rb) (os:Rz),Fd w os=E9 w os:=λw os=>by
 rw[PySem.W.Fast.kua23_eq,PySem.W.Fast.kva23_eq];exact PySem.W.byRow2 "special-get-raises" (P:=λw=>PySem.W.Fast.kua23 w os=PySem.W.Fast.kva23 w os) (λw=>Bg w os) (λw=>Dt w os) w
def Bf:∀(w:Rb) (os:Rz),PySem.W.Fast.kub23 (w.withFollow "special-get-raises" false) os=PySem.W.Fast.kvb23 (w.withFollow "special-get-raises" false) os:=λw os=>by kernel_rfl
def Ds:∀(w:Rb) (os:Rz),PySem.W.Fast.kub23 (w.withFollow "special-get-raises" true) os=PySem.W.Fast.kvb23 (w.withFollow "special-get-raises" true) os:=λw os=>by kernel_rfl
def ka1:∀(w:Rb) (os:Rz),Fc w os=E8 w os:=λw os=>by
 rw[PySem.W.Fast.kub23_eq,PySem.W.Fast.kvb23_eq];exact PySem.W.byRow2 "special-get-raises" (P:=λw=>PySem.W.Fast.kub23 w os=PySem.W.Fast.kvb23 w os) (λw=>Bf w os) (λw=>Ds w os) w
def Be:∀(w:Rb) (os:Rz),PySem.W.Fast.kuc23 (w.withFollow "special-get-raises" false) os=PySem.W.Fast.kvc23 (w.withFollow "special-get-raises" false) os:=λw os=>by kernel_rfl
def Dr:∀(w:Rb) (os:Rz),PySem.W.Fast.kuc23 (w.withFollow "special-get-raises" true) os=PySem.W.Fast.kvc23 (w.withFollow "special-get-raises" true) os:=λw os=>by kernel_rfl
def ka2:∀(w:Rb) (os:Rz),Fb w os=E7 w os:=λw os=>by
 rw[PySem.W.Fast.kuc23_eq,PySem.W.Fast.kvc23_eq];exact PySem.W.byRow2 "special-get-raises" (P:=λw=>PySem.W.Fast.kuc23 w os=PySem.W.Fast.kvc23 w os) (λw=>Be w os) (λw=>Dr w os) w
def Ba:∀(w:Rb) (os:Rz),PySem.W.Fast.kq1_23 (w.withFollow "special-get-raises" false) os=Fo (w.withFollow "special-get-raises" false):=λw os=>by kernel_rfl
def Dn:∀(w:Rb) (os:Rz),PySem.W.Fast.kq1_23 (w.withFollow "special-get-raises" true) os=Fo (w.withFollow "special-get-raises" true):=λw os=>by kernel_rfl
def kl1:∀(w:Rb) (os:Rz),Fg w os=Fo w:=λw os=>by
 rw[PySem.W.Fast.kq1_23_eq];exact PySem.W.byRow2 "special-get-raises" (P:=λw=>PySem.W.Fast.kq1_23 w os=Fo w) (λw=>Ba w os) (λw=>Dn w os) w
def A9:∀(w:Rb) (os:Rz),PySem.W.Fast.kq2_23 (w.withFollow "special-get-raises" false) os=PySem.W.Fast.kg2_23 (w.withFollow "special-get-raises" false):=λw os=>by kernel_rfl
def Dm:∀(w:Rb) (os:Rz),PySem.W.Fast.kq2_23 (w.withFollow "special-get-raises" true) os=PySem.W.Fast.kg2_23 (w.withFollow "special-get-raises" true):=λw os=>by kernel_rfl
def kl2:∀(w:Rb) (os:Rz),Ff w os=Fn w:=λw os=>by
 rw[PySem.W.Fast.kq2_23_eq,PySem.W.Fast.kg2_23_eq];exact PySem.W.byRow2 "special-get-raises" (P:=λw=>PySem.W.Fast.kq2_23 w os=PySem.W.Fast.kg2_23 w) (λw=>A9 w os) (λw=>Dm w os) w
def A8:∀(w:Rb) (os:Rz),PySem.W.Fast.kq3_23 (w.withFollow "special-get-raises" false) os=PySem.W.Fast.kg3_23 (w.withFollow "special-get-raises" false):=λw os=>by kernel_rfl
def Dl:∀(w:Rb) (os:Rz),PySem.W.Fast.kq3_23 (w.withFollow "special-get-raises" true) os=PySem.W.Fast.kg3_23 (w.withFollow "special-get-raises" true):=λw os=>by kernel_rfl
def kl3:∀(w:Rb) (os:Rz),Fe w os=Fm w:=λw os=>by
 rw[PySem.W.Fast.kq3_23_eq,PySem.W.Fast.kg3_23_eq];exact PySem.W.byRow2 "special-get-raises" (P:=λw=>PySem.W.Fast.kq3_23 w os=PySem.W.Fast.kg3_23 w) (λw=>A8 w os) (λw=>Dl w os) w
def kp:∀(w:Rb) (os:Rz),(kP w os).map (·.2)=some {denote treeTable (.body (PySem.W.behindTheImports PySem.Challenge.pw_leastdeeds_k23_which_lists_are_closed) kE),(.body (PySem.W.behindTheImports PySem.Challenge.pw_leastdeeds_k23_which_lists_are_closed) kE),{0,0,0,0},[PySem.W.topFrame {0,0,0,0}]}:=λw os=>by kernel_rfl
def MY:PySem.W.LeftO yC.prog kq qf kX kH.obs kH.val 5602:=HD.v8 (m0:=11) (ann:=some (.ref 6)) (PySem.W.boot_open `r `d (λ_=>rfl)) (λw=>by kernel_rfl) λw os=>HD.BA (J:=9) (kp w os) (by kernel_rfl) (ka0 w os) (HD.vg (J:=34) (ka1 w os) (HD.vg (J:=31) (ka2 w os) (HD.Bz (kl1 w os) (kl2 w os) (kl3 w os))))
end K23
namespace L2
open PySem PySem.Spec PyProof.Rows
abbrev Key:=Sum Int Str
noncomputable def tf:Key->Qi->Bool
 |.inl k,v=>Value.isInt k v
 |.inr x,v=>Value.isStrOf x v
noncomputable def O8 (w:Rb):Key->Int
 |.inl k=>hashInt k
 |.inr x=>hashStr w x
def dB:∀{k:Key}{v:Qi},tf k v=true->(∃i t,k=Sum.inl i/\v=Value.int i t)\/(∃x t,k=Sum.inr x/\v=Value.str x t)
 | .inl i, v, h => by
   obtain⟨t,e⟩:=Value.isInt_shape (k:=i) (v:=v) h;exact .inl ⟨i,t,rfl,e⟩
 | .inr x, v, h => by
   obtain⟨t,e⟩:=Value.isStrOf_shape (x:=x) (v:=v) h;exact .inr ⟨x,t,rfl,e⟩
def j7 (x:Str)(t:Tok):tf (.inr x) (.str x t)=true:=by simp[tf,Value.isStrOf]
def KQ (a b:Int):decide ((Sum.inl a:Key)=Sum.inl b)=(a==b):=by
 by_cases e:a=b
 ·subst e;simp
 ·have h:¬ (Sum.inl a:Key)=Sum.inl b:=λq=>e (Sum.inl.inj q);rw[decide_eq_false h];exact(R1.mpr e).symm
def KN (a b:Str):decide ((Sum.inr a:Key)=Sum.inr b)=decide (a=b):=by
 by_cases e:a=b
 ·subst e;simp
 ·have h:¬ (Sum.inr a:Key)=Sum.inr b:=λq=>e (Sum.inr.inj q);rw[decide_eq_false h,decide_eq_false e]
def KP (a:Int)(b:Str):decide ((Sum.inl a:Key)=Sum.inr b)=false:=decide_eq_false (λq=>nomatch q)
def KO (a:Str)(b:Int):decide ((Sum.inr a:Key)=Sum.inl b)=false:=decide_eq_false (λq=>nomatch q)
noncomputable def kZ (prog:Ra)(w:Rb):PySem.KeyKind prog w Key where
 is:=tf
 hash:=O8 w
 inj:=λv a b ha hb=>by
  rcases dB ha with⟨i,t,rfl,rfl⟩|⟨x,t,rfl,rfl⟩
  ·rcases dB hb with⟨j,u,rfl,e⟩|⟨y,u,rfl,e⟩
   ·injection e with e1 _;rw[e1]
   ·exact nomatch e
  ·rcases dB hb with⟨j,u,rfl,e⟩|⟨y,u,rfl,e⟩
   ·exact nomatch e
   ·injection e with e1 _;rw[e1]
 byValue:=λk v h=>by
  rcases dB h with⟨i,t,rfl,rfl⟩|⟨x,t,rfl,rfl⟩<;>rfl
 pyHash:=λhv h=>by
  rcases dB hv with⟨i,t,rfl,rfl⟩|⟨x,t,rfl,rfl⟩
  ·exact wpAny_pyHash_int h
  ·exact wpAny_pyHash_str h
 eqBool:=λhu hv h=>by
  rcases dB hu with⟨i,t,rfl,rfl⟩|⟨x,t,rfl,rfl⟩
  ·rcases dB hv with⟨j,u,rfl,rfl⟩|⟨y,u,rfl,rfl⟩
   ·rw[KQ] at h;exact wpAny_eqBool_int h
   ·rw[KP] at h;exact SeqAt.EqAt.int_str i t y u _ _ _ _ h
  ·rcases dB hv with⟨j,u,rfl,rfl⟩|⟨y,u,rfl,rfl⟩
   ·rw[KO] at h;exact SeqAt.EqAt.str_int x t j u _ _ _ _ h
   ·rw[KN] at h;exact wpAny_eqBool_str h
 «strs»:=λk x t v h=>by
  rcases dB h with⟨i,u,rfl,e⟩|⟨y,u,rfl,e⟩
  ·exact nomatch e
  ·injection e with e1 _
   subst e1;cases v<;>rfl
inductive V where
 |non|bl (b:Bool)|int (i:Int)|str (x:Str)|byt (b:Array UInt8)|flt (b:UInt64)|ref (a:Addr)|ty (n:String)
 deriving DecidableEq
noncomputable def RelV:V->Qi->Prop
 |.non,u=>u=Value.none
 |.bl b,u=>u=Value.bool b
 |.int i,u=>∃t,u=Value.int i t
 |.str x,u=>∃t,u=Value.str x t
 |.byt b,u=>∃t,u=Value.bytes b t
 |.flt b,u=>∃t,u=Value.float b t
 |.ref a,u=>u=Value.ref a
 |.ty n,u=>u=Value.type n
abbrev Vals:List V->List Qi->Prop:=R5 RelV
def Vals.length {xs:List V}{us:List Qi}(r:Vals xs us):xs.length=us.length:=Paired.length r
def Vals.get:∀{xs:List V}{us:List Qi}{i:Nat}{x:V},Vals xs us->xs[i]?=some x->∃u,us[i]?=some u/\RelV x u
 |_,_,_,_,.nil,e=>by simp at e
 |_,_,0,_,.cons r _,e=>by simp at e;subst e;exact{_,rfl,r}
 | _, _, i + 1, x, .cons _ t, e => by
   obtain⟨u,h1,h2⟩:=Vals.get (i:=i) (x:=x) t (by simpa using e)
   exact{u,by simpa using h1,h2}
def Vals.set {x:V}{u:Qi}(r:RelV x u):∀{xs:List V}{us:List Qi} (i:Nat),Vals xs us->Vals (xs.set i x) (us.set i u)
 |_,_,_,.nil=>.nil
 |_,_,0,.cons _ t=>.cons r t
 |_,_,i+1,.cons q t=>.cons q (Vals.set r i t)
def Vals.append:∀{xs ys:List V}{us ws:List Qi},Vals xs us->Vals ys ws->Vals (xs++ys) (us++ws)
 |_,_,_,_,.nil,s=>s
 |_,_,_,_,.cons r t,s=>.cons r (Vals.append t s)
def Vals.take:∀{xs:List V}{us:List Qi} (n:Nat),Vals xs us->Vals (xs.take n) (us.take n)
 |_,_,0,_=>.nil
 |_,_,_+1,.nil=>.nil
 |_,_,n+1,.cons r t=>.cons r (Vals.take n t)
def Vals.drop:∀{xs:List V}{us:List Qi} (n:Nat),Vals xs us->Vals (xs.drop n) (us.drop n)
 |_,_,0,r=>r
 |_,_,_+1,.nil=>.nil
 |_,_,n+1,.cons _ t=>Vals.drop n t
noncomputable def D6:Option V->Option Qi->Prop
 |some v,some u=>RelV v u
 |none,none=>True
 |_,_=>False
noncomputable def KV {κ:Type}:List (κ×V)->List (κ×Qi)->Prop:=R5 λ(p:κ×V) (q:κ×Qi)=>p.1=q.1/\RelV p.2 q.2
noncomputable def kV:Key->V
 |.inl i=>.int i
 |.inr x=>.str x
inductive HO where
 |lst (xs:List V)
 |tup (xs:List V)
 |dK (kvs:List (Key×V))|dT (kvs:List (List Key×V))
 |set (S:Int->Bool) (n:Nat)
 |ins (C dx:Addr) (fs:List (Str×V))
 |own (x:Addr)
 |xd (fs:List (Str×V))
 |met (f x:Addr)
 |rng (lo hi:Int)
 |frz (o:Obj) (u:HO)
 |tbl (ps:Array Qi)
 |ext (φ:Heap->Prop)
 |dn (es:List RK)
abbrev Hp:=Addr->Option HO
noncomputable def upd (H:Hp)(a:Addr)(o:HO):Hp:=λb=>if b=a then some o else H b
def cD {H:Hp}{a:Addr}{o:HO}:upd H a o a=some o:=by unfold upd;rw[if_pos rfl]
def aH {H:Hp}{a b:Addr}{o:HO}(h:b≠a):upd H a o b=H b:=by unfold upd;rw[if_neg h]
def aZ {H:Hp}{a b:Addr}{o:HO}(h:H a=some o)(h':H b=none):a≠b:=by
 intro e;subst e;rw[h] at h';cases h'
section
variable(P:Ra)(w:Rb)
noncomputable def cX (H:Hp)(h:Heap)(a:Addr):HO->Prop
 |.lst xs=>xs.length<=sizeLine/\∃(its:List Qi) (n:Nat),Vals xs its/\h.get? a=some {cls:=.type "list",data:=.seq its.toArray n}
 |.tup xs=>xs.length<=sizeLine/\∃its:List Qi,Vals xs its/\IsTup h a its.toArray
 |.dK kvs=>kvs.length<=sizeLine/\(a==sysModules)=false/\∃vs,KV kvs vs/\h.DictOf (kZ P w) a vs
 |.dT kvs=>kvs.length<=sizeLine/\(a==sysModules)=false/\∃xs:List (List Key×Addr×Qi),
  R5 (λ(p:List Key×V) (q:List Key×Addr×Qi)=>p.1=q.1/\H q.2.1=some (.tup (p.1.map kV))/\RelV p.2 q.2.2) kvs xs/\
  ∃o es ep,h.get? a=some o/\o.ExactDict/\o.data=.dict es ep/\es.toList=xs.map (entryOfKey (tupleKind (kZ P w)))/\(xs.map (·.1)).Nodup
 |.set S n=>h.SetOf (intKind P w) a S n
 |.ins C dx fs=>H dx=some (.own a)/\fs.length<=1000/\dx≠a/\h.get? a=some (PySem.W.instObj C dx)/\
  ∃mA,h.Ns1 dx mA/\(∀f,D6 (fs.lookup f) (mA f))/\PySem.Within mA (fs.map (·.1))
 |.own _=>∃o,h.get? a=some o
 |.xd fs=>∃mA,h.Ns1 a mA/\∀f,D6 (fs.lookup f) (mA f)
 |.rng lo hi=>∃t u v,h.get? a=some {cls:=.type "range",data:=.fields #[.int lo t,.int hi u,.int 1 v]}
 |.frz o u=>h.get? a=some o/\cX H h a u
 |.tbl ps=>h.get? a=some {cls:=.none,data:=.fields ps}
 |.met f x=>h.get? a=some (PySem.W.methodObj (.ref f) (.ref x))
 |.ext φ=>φ h/\(∃o,h.get? a=some o)/\∀h1 h2:Heap,φ h1->(∀o,h1.get? a=some o->h2.get? a=some o)->φ h2
 |.dn es=>es.length<=sizeLine/\(a==sysModules)=false/\∃o,h.get? a=some o/\o.ExactDict/\o.data=.dict es.toArray es.length
noncomputable def fb (H:Hp)(h:Heap):Prop:=∀a o,H a=some o->cX P w H h a o
end
section
variable{P:Ra}{w:Rb}{H H':Hp}{h h':Heap}{a:Addr}{o:HO}
def cX.lt (x:cX P w H h a o):a<h.objs.size:=by
 cases o with
 |lst xs=>obtain⟨_,_,_,_,e⟩:=x;exact QH e
 |tup xs=>obtain⟨_,_,_,p⟩:=x;exact p.lt
 |dK kvs=>obtain⟨_,_,_,_,o,_,_,e,_⟩:=x;exact QH e
 |dT kvs=>obtain⟨_,_,_,_,o,_,_,e,_⟩:=x;exact QH e
 |set S n=>obtain⟨o,_,_,_,e,_⟩:=x;exact QH e
 |ins C dx fs=>obtain⟨_,_,_,e,_⟩:=x;exact QH e
 |own y=>obtain⟨_,e⟩:=x;exact QH e
 |xd fs=>obtain⟨_,⟨_,_,_,e,_⟩,_⟩:=x;exact QH e
 |rng lo hi=>obtain⟨_,_,_,e⟩:=x;exact QH e
 |frz ob u=>obtain⟨e,_⟩:=x;exact QH e
 |tbl ps=>exact QH (show h.get? a=some _ from x)
 |met f y=>exact QH (show h.get? a=some _ from x)
 |ext φ=>obtain⟨_,⟨_,e⟩,_⟩:=x;exact QH e
 |dn es=>obtain⟨_,_,_,e,_⟩:=x;exact QH e
def R5.mapP {α β:Type}{F G:α->β->Prop}:∀{l₁:List α}{l₂:List β},R5 F l₁ l₂->(∀a b,F a b->G a b)->R5 G l₁ l₂
 |_,_,.nil,_=>.nil
 |_,_,.cons r t,f=>.cons (f _ _ r) (R5.mapP t f)
def cX.stay (x:cX P w H h a o)(k:∀b u,(b=a\/H b=some (.own a))->h.get? b=some u->h'.get? b=some u)
 (ho:∀b,H b=some (.own a)->H' b=some (.own a)) (ht:∀b xs,H b=some (.tup xs)->H' b=some (.tup xs)):cX P w H' h' a o:=by
 induction o with
 |lst xs=>obtain⟨z,its,n,r,e⟩:=x;exact{z,its,n,r,k _ _ (.inl rfl) e}
 |tup xs=>obtain⟨z,its,r,ob,e,c⟩:=x;exact{z,its,r,ob,k _ _ (.inl rfl) e,c}
 |dK kvs=>obtain⟨z,y,vs,r,ob,es,ep,e,c⟩:=x;exact{z,y,vs,r,ob,es,ep,k _ _ (.inl rfl) e,c}
 | dT kvs =>
   obtain⟨z,y,xs,r,ob,es,ep,e,c⟩:=x;exact{z,y,xs,R5.mapP r λp q z=>{z.1,ht _ _ z.2.1,z.2.2},ob,es,ep,k _ _ (.inl rfl) e,c}
 |set S n=>obtain⟨ob,es,ep,t,e,c⟩:=x;exact{ob,es,ep,t,k _ _ (.inl rfl) e,c}
 | ins C dx fs =>
   obtain⟨d,z,ne,e,mA,⟨od,es,ep,e2,c⟩,r⟩:=x;exact{ho _ d,z,ne,k _ _ (.inl rfl) e,mA,{od,es,ep,k _ _ (.inr d) e2,c},r}
 |own y=>obtain⟨ob,e⟩:=x;exact{ob,k _ _ (.inl rfl) e}
 |xd fs=>obtain⟨mA,⟨od,es,ep,e,c⟩,r⟩:=x;exact{mA,{od,es,ep,k _ _ (.inl rfl) e,c},r}
 |rng lo hi=>obtain⟨t,u,v,e⟩:=x;exact{t,u,v,k _ _ (.inl rfl) e}
 |frz ob u ih=>obtain⟨e,q⟩:=x;exact{k _ _ (.inl rfl) e,ih q}
 | tbl ps =>
   have e:h.get? a=some {cls:=.none,data:=.fields ps}:=x;show h'.get? a=some {cls:=.none,data:=.fields ps};exact k a _ (.inl rfl) e
 | met f y =>
   have e:h.get? a=some (PySem.W.methodObj (.ref f) (.ref y)):=x;show h'.get? a=some (PySem.W.methodObj (.ref f) (.ref y));exact k a _ (.inl rfl) e
 |ext φ=>obtain⟨p,⟨o,e⟩,st⟩:=x;exact{st _ _ p λo q=>k _ _ (.inl rfl) q,{o,k _ _ (.inl rfl) e},st}
 |dn es=>obtain⟨z,y,o,e,c⟩:=x;exact{z,y,o,k _ _ (.inl rfl) e,c}
def fb.lt (x:fb P w H h)(e:H a=some o):a<h.objs.size:=(x a o e).lt
def fb.fresh (x:fb P w H h)(e:h.objs.size<=a):H a=none:=by
 cases q:H a with
 |none=>rfl
 |some u=>exact absurd (QN (x.lt q) e) (RH _)
def fb.kept (x:fb P w H h)(k:∀b u,h.get? b=some u->h'.get? b=some u):fb P w H h':=λa o e=>
 (x a o e).stay (λb u _ q=>k b u q) (λ_ q=>q) λ_ _ q=>q
def fb.laid (x:fb P w H h)(k:∀b u,h.get? b=some u->h'.get? b=some u)(hp:h.objs.size<=a)(new:cX P w (upd H a o) h' a o):fb P w (upd H a o) h':=λb u e=>by
 have hn:=x.fresh hp;by_cases hb:b=a
 ·subst hb;rw[cD] at e;cases e;exact new
 ·rw[aH hb] at e;exact(x b u e).stay (λc v _ q=>k c v q) (λc q=>by rw[aH (aZ q hn)];exact q) λc xs q=>by rw[aH (aZ q hn)];exact q
end
noncomputable def Rd (H:Hp)(a:Addr)(u:HO):Prop:=H a=some u\/∃o,H a=some (.frz o u)
def Rd.ok {P:Ra}{w:Rb}{H:Hp}{h:Heap}{a:Addr}{u:HO}(r:Rd H a u)(x:fb P w H h):cX P w H h a u:=by
 rcases r with r|⟨o,r⟩
 ·exact x a u r
 ·obtain⟨_,q⟩:=x a _ r;exact q
noncomputable def FL:Option HO->Prop
 |some (.lst _)=>True
 |some (.dK _)=>True
 |some (.dT _)=>True
 |some (.set _ _)=>True
 |some (.ins _ _ _)=>True
 |some (.ext _)=>True
 |some (.dn _)=>True
 |_=>False
section
variable{P:Ra}{w:Rb}{H:Hp}{h h':Heap}{x e:Addr}{o':HO}
def fb.write (ok:fb P w H h)(mu:FL (H x))(he:e=x\/H e=some (.own x))(k:∀b u,b≠e->h.get? b=some u->h'.get? b=some u)(heo:∃u,h'.get? e=some u)
 (new:cX P w (upd H x o') h' x o'):fb P w (upd H x o') h':=λb u q=>by
 have nown:∀c y,H c=some (.own y)->c≠x:=λc y r z=>by subst z;rw[r] at mu;exact mu
 have ntup:∀c xs,H c=some (.tup xs)->c≠x:=λc xs r z=>by subst z;rw[r] at mu;exact mu
 by_cases hb:b=x
 ·subst hb;rw[cD] at q;cases q;exact new
 ·rw[aH hb] at q;by_cases hbe:b=e
  ·have q':H b=some (.own x):=by
    rcases he with z|z
    ·exact absurd (hbe.trans z) hb
    ·rw[hbe];exact z
   rw[q] at q';cases q';obtain⟨v,hv⟩:=heo;exact{v,by rw[hbe];exact hv}
  ·refine(ok b u q).stay (λc v hc r=>k c v ?_ r) (λc r=>by rw[aH (nown c b r)];exact r) λc xs r=>by rw[aH (ntup c xs r)];exact r
   rcases hc with rfl|hc
   ·exact hbe
   ·rintro rfl;rcases he with z|z
    ·exact nown c b hc z
    ·rw[hc] at z;cases z;exact hb rfl
end
structure Un (fs ex:List Addr) (H H':Hp) (h h':Heap):Prop where
 keep:∀b o,h.get? b=some o->H b=none->b∉fs->b∉ex->h'.get? b=some o
 slot:∀b o,h.get? b=some o->H b=none->b∈fs->b∉ex->∃sl,h'.get? b=some {o with slots:=sl}
 free:∀b o,h.get? b=some o->H b=none->b∉ex->H' b=none
 there:∀b o,h.get? b=some o->b∉ex->∃o',h'.get? b=some o'
 tups:∀b xs,H b=some (.tup xs)->H' b=some (.tup xs)
 frzs:∀b o u,H b=some (.frz o u)->H' b=some (.frz o u)
 tbls:∀b ps,H b=some (.tbl ps)->∃more,H' b=some (.tbl (ps++more))
section
variable{fs fs' ex ex':List Addr}{H H1 H2:Hp}{h h1 h2 h':Heap}{a x e:Addr}{o:HO}
def Un.any (u:Un fs ex H H1 h h1){b:Addr}{ob:Obj}(q:h.get? b=some ob)(n:H b=none)(hx:b∉ex):∃sl,h1.get? b=some {ob with slots:=sl}:=by
 by_cases hb:b∈fs
 ·exact u.slot b ob q n hb hx
 ·exact{ob.slots,u.keep b ob q n hb hx}
def Un.kept (k:∀b u,h.get? b=some u->h'.get? b=some u):Un fs ex H H h h':=
 {λb ob q _ _ _=>k b ob q,λb ob q _ _ _=>{ob.slots,k b ob q},λ_ _ _ n _=>n,λb ob q _=>{ob,k b ob q},λ_ _ q=>q,λ_ _ _ q=>q,λ_ ps q=>{#[],by rw[q];simp}}
def Un.refl:Un fs ex H H h h:=Un.kept λ_ _ q=>q
def Un.laid (k:∀b u,h.get? b=some u->h'.get? b=some u)(hp:h.objs.size<=a)(hn:H a=none):Un fs ex H (upd H a o) h h' where
 keep:=λb u q _ _ _=>k b u q
 slot:=λb u q _ _ _=>{u.slots,k b u q}
 free:=λb u q n _=>by rw[aH (QY (QN (QH q) hp))];exact n
 there:=λb u q _=>{u,k b u q}
 tups:=λb xs q=>by rw[aH (aZ q hn)];exact q
 frzs:=λb u xs q=>by rw[aH (aZ q hn)];exact q
 tbls:=λb ps q=>{#[],by rw[aH (aZ q hn),q];simp}
def Un.write (mu:FL (H x))(he:e=x\/H e=some (.own x))(k:∀b u,b≠e->h.get? b=some u->h'.get? b=some u)(heo:∃u,h'.get? e=some u):Un fs ex H (upd H x o) h h':=by
 have hx:∀b,H b=none->b≠x:=λb n z=>by subst z;rw[n] at mu;exact mu
 have hb:∀b,H b=none->b≠e:=λb n z=>by
  subst z;rcases he with r|r
  ·exact hx b n r
  ·rw[n] at r;cases r
 have hm:∀b u,H b=some u->¬ FL (some u)->b≠x:=λb u q nm z=>by subst z;rw[q] at mu;exact nm mu
 refine{λb u q n _ _=>k b u (hb b n) q,λb u q n _ _=>{u.slots,k b u (hb b n) q},λb u q n _=>by rw[aH (hx b n)];exact n,λb u q _=>?_,
  λb xs q=>by rw[aH (hm b _ q λz=>z)];exact q,λb u xs q=>by rw[aH (hm b _ q λz=>z)];exact q,λb ps q=>{#[],by rw[aH (hm b _ q λz=>z),q];simp}}
 by_cases hbe:b=e
 ·subst hbe;exact heo
 ·exact{u,k b u hbe q}
end
noncomputable def EA (h:Heap)(H:Hp):List Addr:=(List.range h.objs.size).filter λa=>(H a).isSome
noncomputable def lY (h:Heap)(H:Hp):Heap:=PySem.W.hideAll h (EA h H)
def Bp (h:Heap)(H:Hp):(lY h H).objs.size=h.objs.size:=PySem.W.hideAll_size _ _
def Dz {h:Heap}{H:Hp}{b:Addr}{o:Obj}(e:h.get? b=some o)(n:H b=none):(lY h H).get? b=some o:=
 PySem.W.hideAll_get _ e λhm=>by
  have q:(H b).isSome=true:=(RV.mp hm).2;rw[n] at q;simp at q
def Hi {h:Heap}{H:Hp}{b:Addr}{o:Obj}(e:(lY h H).get? b=some o):h.get? b=some o/\H b=none:=by
 have e':h.get? b=some o:=PySem.W.of_hideAll (EA h H) e;refine{e',?_};cases q:H b with
 |none=>rfl
 | some x =>
   have hm:b∈EA h H:=RV.mpr {RP.mpr (QH e'),by simp[q]}
   have z:(lY h H).get? b=none:=PySem.W.hideAll_none (EA h H) hm;rw[z] at e;cases e
structure Mod (K:Qh) (mg:Str->Option Qi) (base:Heap):Prop where
 kin:K.In base
 glob:base.Ns mainGlobals mg
 blt:∃mb,base.Ns builtinsNs mb/\∀x:Str,x≠"__name__"->mb x=bootBuiltins x
 nolimit:base.NoLimit
structure Cx where
 prog:Ra
 w:Rb
 K:Qh
 mg:Str->Option Qi
 base:Heap
 A:RR
 N:List Str
 s₀:Qm
 H₀:Hp
 env:Env
 outer:List Env
 stack:List Env
 ex:List Addr
 fn:Str->Bool
 calm:Bool
 pn:List (Addr×Obj)
 xe:Qi->Qm->Prop
noncomputable def ib (l:List Env):List Addr:=l.filterMap (·.frame)
abbrev Cx.fs (X:Cx):List Addr:=ib X.outer
noncomputable def BQ (sc:Scope)(x:Str):Prop:=sc.names.lookup x=some .local\/sc.names.lookup x=some .cell\/sc.names.lookup x=some .free
noncomputable def Loc (sc:Scope)(x:Str):Prop:=sc.names.lookup x=some .local\/sc.names.lookup x=some .cell
noncomputable def Look (env:Env)(h:Heap)(m:Str->Option Qi)(x:Str)(u:Qi):Prop:=
 (env.kindOf x=some .local/\m x=some u)\/((env.kindOf x=some .cell\/env.kindOf x=some .free)/\∃c,env.cells.lookup x=some c/\h.IsCell c (some u))
structure Cx.Ok (X:Cx):Prop where
 mod:Mod X.K X.mg X.base
 kind:X.env.scope.kind=.function
 glob:X.env.globals=mainGlobals
 blt:X.env.builtins=builtinsNs
 above:X.s₀.heap.objs.size<=X.env.locals
 inj:∀x y c,X.env.cells.lookup x=some c->X.env.cells.lookup y=some c->x=y
 has:∀x,(X.env.kindOf x=some .cell\/X.env.kindOf x=some .free)->∃c,X.env.cells.lookup x=some c
 cab:∀x c,X.fn x=true->X.env.cells.lookup x=some c->X.s₀.heap.objs.size<=c
 hd:X.calm=true->X.A.handled=none
 frames:X.A.frames=some X.stack
 stk:X.stack=X.outer\/(X.stack=X.env::X.outer/\X.env.frame=some X.env.locals)
 exf:∀b∈X.ex,b≠X.env.locals/\∀x c,X.env.cells.lookup x=some c->c≠b
 bs:∀b o,X.base.get? b=some o->X.s₀.heap.get? b=some o/\X.H₀ b=none
 bsz:X.base.objs.size<=X.s₀.heap.objs.size
 noex:∀b o,X.base.get? b=some o->b∉X.ex
 exfs:∀b∈X.ex,b∉X.fs
 funs:X.s₀.heap.FunFrames X.base X.outer
 frf:∀b∈X.fs,X.H₀ b=none
structure Inv (X:Cx) (pins:List (Addr×Obj)) (σ:List (Option V)) (H:Hp) (s:Qm):Prop where
 ok:X.Ok
 os:s.os=X.s₀.os
 bare:AllBare s.gens
 base:Un X.fs X.ex X.H₀ H X.s₀.heap s.heap
 loc:∃m,s.heap.Ns X.env.locals m/\∀(i:Nat) (x:Str) (v:V),X.N[i]?=some x->σ[i]?=some (some v)->BQ X.env.scope x->∃u,RelV v u/\Look X.env s.heap m x u
 cell:∀x c,X.env.cells.lookup x=some c->∃v,s.heap.IsCell c v
 free:H X.env.locals=none
 freeC:∀x c,X.env.cells.lookup x=some c->H c=none
 pin:∀p∈X.pn++pins,s.heap.get? p.1=some p.2/\H p.1=none/\p.1≠X.env.locals/\p.1∉X.fs/\∀v,p.2.data≠.cell v
 hok:fb X.prog X.w H s.heap
 len:σ.length=X.N.length
section
variable{X:Cx}{pins:List (Addr×Obj)}{σ:List (Option V)}{H H':Hp}{s:Qm}{h':Heap}
def Cx.Ok.nofr (ok:X.Ok){b:Addr}{o:Obj}(e:X.base.get? b=some o):b∉X.fs:=λhb=>by
 have:=(ok.funs.mem hb).1;rw[e] at this;cases this
def Inv.bs (I:Inv X pins σ H s):∀b o,X.base.get? b=some o->s.heap.get? b=some o/\H b=none:=λb o e=>
 {I.base.keep b o (I.ok.bs b o e).1 (I.ok.bs b o e).2 (I.ok.nofr e) (I.ok.noex b o e),I.base.free b o (I.ok.bs b o e).1 (I.ok.bs b o e).2 (I.ok.noex b o e)}
def Inv.bk (I:Inv X pins σ H s):∀b o,X.base.get? b=some o->s.heap.get? b=some o:=λb o e=>(I.bs b o e).1
def Inv.mod (I:Inv X pins σ H s):Mod X.K X.mg X.base:=I.ok.mod
def Inv.kIn (I:Inv X pins σ H s):X.K.In s.heap:=I.ok.mod.kin.keeps I.bk
def Inv.lt (I:Inv X pins σ H s):X.env.locals<s.heap.objs.size:=let{_,hn,_}:=I.loc;hn.lt
def Inv.sz (I:Inv X pins σ H s):X.s₀.heap.objs.size<=s.heap.objs.size:=Qp I.ok.above (So I.lt)
def Inv.nofs (I:Inv X pins σ H s){a:Addr}(h:s.heap.objs.size<=a):a∉X.fs:=λhb=>by
 obtain⟨_,o,ho,_⟩:=I.ok.funs.mem hb;exact absurd (QN (QH ho) (Qp I.sz h)) (RH _)
def Inv.cne (I:Inv X pins σ H s):∀x c,X.env.cells.lookup x=some c->c≠X.env.locals:=λx c e z=>by
 obtain⟨v,o,ho,hd⟩:=I.cell x c e;obtain⟨m,⟨o',es,ep,ho',hd',_⟩,_⟩:=I.loc;rw[z,ho'] at ho;cases ho;rw[hd'] at hd;cases hd
def Inv.funs (I:Inv X pins σ H s):s.heap.FunFrames X.base X.outer:=by
 have all:∀(l:List Env),(∀b∈ib l,b∈X.fs)->X.s₀.heap.FunFrames X.base l->s.heap.FunFrames X.base l:=by
  intro l;induction l with
  |nil=>intro _ _;trivial
  | cons env r ih =>
    intro hs hl;obtain⟨hk,⟨L,o,hf,hn,ho,hd⟩,hr⟩:=hl;have hL:L∈X.fs:=hs L (by unfold ib;rw[SI,hf];exact QK)
    obtain⟨sl,e⟩:=I.base.slot L o ho (I.ok.frf L hL) hL λz=>I.ok.exfs L z hL;exact{hk,{L,_,hf,hn,e,hd},ih (λb hb=>hs b (by unfold ib;rw[SI,hf];exact Qz _ hb)) hr}
 exact all X.outer (λ_ hb=>hb) I.ok.funs
def Inv.stack (I:Inv X pins σ H s):s.heap.FunFrames X.base X.stack:=by
 rcases I.ok.stk with e|⟨e,hf⟩
 ·rw[e];exact I.funs
 ·rw[e];obtain⟨m,hn,_⟩:=I.loc;refine .cons (by rw[I.ok.kind];decide) hf hn ?_ I.funs
  exact Heap.get?_none_of_le (Qp I.ok.bsz I.ok.above)
def Inv.stkSub (I:Inv X pins σ H s):∀b∈ib X.stack,b∈X.env.locals::X.fs:=λb hb=>by
 rcases I.ok.stk with e|⟨e,hf⟩
 ·rw[e] at hb;exact Qz _ hb
 ·rw[e] at hb;unfold ib at hb;rw[SI,hf] at hb;exact hb
def Inv.stkFree (I:Inv X pins σ H s):∀b∈ib X.stack,H b=none:=λb hb=>by
 rcases Rg.mp (I.stkSub b hb) with e|hb
 ·rw[e];exact I.free
 ·obtain⟨_,o,ho,_⟩:=I.ok.funs.mem hb;exact I.base.free b o ho (I.ok.frf b hb) λz=>I.ok.exfs b z hb
def Inv.step {g':Array GenState}{t':Nat}{d':Drawn}{ch:List Addr}(I:Inv X pins σ H s)
 (hch:∀b∈ch,(b∈X.ex\/X.s₀.heap.objs.size<=b)/\b≠X.env.locals/\(∀x c,X.env.cells.lookup x=some c->c≠b)/\∀p∈X.pn++pins,p.1≠b)
 (keep:∀b o,b≠X.env.locals->b∉X.fs->b∉ch->s.heap.get? b=some o->H b=none->h'.get? b=some o)
 (slot:∀b o,b≠X.env.locals->b∈X.fs->b∉ch->s.heap.get? b=some o->H b=none->∃sl,h'.get? b=some {o with slots:=sl}) (free:∀b o,b∉ch->s.heap.get? b=some o->H b=none->H' b=none)
 (there:∀b o,b∉ch->s.heap.get? b=some o->∃o',h'.get? b=some o')
 (tups:∀b xs,H b=some (.tup xs)->H' b=some (.tup xs)) (frzs:∀b o u,H b=some (.frz o u)->H' b=some (.frz o u)) (tbls:∀b ps,H b=some (.tbl ps)->∃more,H' b=some (.tbl (ps++more)))
 (ns:∀m,s.heap.Ns X.env.locals m->h'.Ns X.env.locals m) (hok:fb X.prog X.w H' h') (hg:AllBare g') :
 Inv X pins σ H' {s with heap:=h',gens:=g',drawn:=d',toks:=t'}:=by
 have neL:∀b o,X.s₀.heap.get? b=some o->b≠X.env.locals:=λb o e=>QY (QN (QH e) I.ok.above);have neC:∀b o,X.s₀.heap.get? b=some o->b∉X.ex->b∉ch:=λb o e hx hb=>by
  rcases(hch b hb).1 with z|z
  ·exact hx z
  ·exact absurd (QN (QH e) z) (RH _)
 have cellK:∀x c,X.env.cells.lookup x=some c->∀v,s.heap.IsCell c v->h'.IsCell c v:=λx c e v ⟨o,ho,hd⟩=>by
  have nch:c∉ch:=λz=>(hch c z).2.2.1 x c e rfl;by_cases hc:c∈X.fs
  ·obtain⟨sl,q⟩:=slot c o (I.cne x c e) hc nch ho (I.freeC x c e);exact{_,q,hd}
  ·exact{o,keep c o (I.cne x c e) hc nch ho (I.freeC x c e),hd}
 refine{I.ok,I.os,hg,{λb o e n hb hx=>?_,λb o e n hb hx=>?_,λb o e n hx=>?_,λb o e hx=>?_,λb xs e=>tups b xs (I.base.tups b xs e),λb o xs e=>frzs b o xs (I.base.frzs b o xs e),λb ps e=>?_},?_,λx c e=>?_,?_,λx c e=>?_,λp hp=>?_,hok,I.len}
 ·exact keep b o (neL b o e) hb (neC b o e hx) (I.base.keep b o e n hb hx) (I.base.free b o e n hx)
 ·obtain⟨sl,e1⟩:=I.base.slot b o e n hb hx;obtain⟨sl',e2⟩:=slot b _ (neL b o e) hb (neC b o e hx) e1 (I.base.free b o e n hx);exact⟨sl',e2⟩
 ·obtain⟨o',e1⟩:=I.base.there b o e hx;exact free b o' (neC b o e hx) e1 (I.base.free b o e n hx)
 ·obtain⟨o',e1⟩:=I.base.there b o e hx;exact there b o' (neC b o e hx) e1
 ·obtain⟨m1,e1⟩:=I.base.tbls b ps e;obtain⟨m2,e2⟩:=tbls b _ e1;exact{m1++m2,by rw[e2,Array.append_assoc]}
 ·obtain⟨m,hn,hl⟩:=I.loc;refine{m,ns m hn,λi x v e1 e2 e3=>?_};obtain⟨u,r,l⟩:=hl i x v e1 e2 e3;refine{u,r,?_};rcases l with l|⟨k,c,e,z⟩
  ·exact .inl l
  ·exact .inr {k,c,e,cellK x c e _ z}
 ·obtain⟨v,z⟩:=I.cell x c e;exact{v,cellK x c e v z}
 ·obtain⟨m,⟨o,_,_,ho,_⟩,_⟩:=I.loc;exact free _ o (λz=>(hch _ z).2.1 rfl) ho I.free
 ·obtain⟨v,o,ho,hd⟩:=I.cell x c e;exact free c o (λz=>(hch c z).2.2.1 x c e rfl) ho (I.freeC x c e)
 ·obtain⟨e,n,ne,nf,d⟩:=I.pin p hp;have nch:p.1∉ch:=λz=>(hch p.1 z).2.2.2 p hp rfl;exact{keep p.1 p.2 ne nf nch e n,free p.1 p.2 nch e n,ne,nf,d}
def Inv.un {t':Nat}(I:Inv X pins σ H s)(u:Un X.fs [] H H' s.heap h')(hok:fb X.prog X.w H' h'):Inv X pins σ H' {s with heap:=h',toks:=t'}:=by
 obtain⟨m,⟨o,es,ep,ho,r⟩,_⟩:=id I.loc;obtain⟨sl,hL⟩:=u.any ho I.free `s
 exact I.step (g':=s.gens) (d':=s.drawn) (ch:=[]) (λ_ z=>nomatch z) (λb o _ hb _ e n=>u.keep b o e n hb `s) (λb o _ hb _ e n=>u.slot b o e n hb `s) (λb o _ e n=>u.free b o e n `s) (λb o _ e=>u.there b o e `s) u.tups u.frzs u.tbls (λm' hm=>by
  obtain⟨o',es',ep',ho',r'⟩:=hm;rw[ho] at ho';cases ho';exact{_,es',ep',hL,r'}) hok I.bare
def Inv.call {g':Array GenState}{t':Nat}{d':Drawn}{ch:List Addr}(I:Inv X pins σ H s)(u:Un (ib X.stack) ch H H' s.heap h')(hok:fb X.prog X.w H' h')(hg:AllBare g')
 (hch:∀b∈ch,(b∈X.ex\/X.s₀.heap.objs.size<=b)/\b≠X.env.locals/\(∀x c,X.env.cells.lookup x=some c->c≠b)/\∀p∈X.pn++pins,p.1≠b) :
 Inv X pins σ H' {s with heap:=h',gens:=g',drawn:=d',toks:=t'}:=by
 obtain⟨m,⟨o,es,ep,ho,r⟩,_⟩:=id I.loc;obtain⟨sl,hL⟩:=u.any ho I.free λz=>(hch _ z).2.1 rfl;exact I.step (ch:=ch) hch (λb o hL hb hc e n=>u.keep b o e n (λz=>(Rg.mp (I.stkSub b z)).elim hL hb) hc) (λb o _ _ hc e n=>u.any e n hc) (λb o hc e n=>u.free b o e n hc) (λb o hc e=>u.there b o e hc) u.tups u.frzs u.tbls (λm' hm=>by
  obtain⟨o',es',ep',ho',r'⟩:=hm;rw[ho] at ho';cases ho';exact{_,es',ep',hL,r'}) hok hg
def Inv.turned {t':Nat}{it:Addr}(I:Inv X pins σ H s)(k:∀b o,b≠it->s.heap.get? b=some o->h'.get? b=some o)(hn:H it=none)(hL:it≠X.env.locals)
 (h1:it∈X.ex\/X.s₀.heap.objs.size<=it) (h2:∀x c,X.env.cells.lookup x=some c->c≠it) (h3:∀p∈X.pn++pins,p.1≠it):Inv X pins σ H {s with heap:=h',toks:=t'}:=by
 have nit:∀b u,H b=some u->b≠it:=λb u e z=>by rw[z,hn] at e;cases e
 refine I.step (g':=s.gens) (d':=s.drawn) (ch:=[it]) (λb hb=>?_) (λb o _ _ hc e _=>k b o (λz=>hc (by simp[z])) e) (λb o _ _ hc e _=>{o.slots,k b o (λz=>hc (by simp[z])) e}) (λ_ _ _ _ n=>n)
  (λb o hc e=>{o,k b o (λz=>hc (by simp[z])) e}) (λ_ _ e=>e) (λ_ _ _ e=>e) (λb ps e=>{#[],by rw[e];simp}) (λm hm=>?_) (λb u e=>?_) I.bare
 ·have e:b=it:=by simpa using hb
  subst e;exact⟨h1,hL,h2,h3⟩
 ·obtain⟨o,es,ep,ho,r⟩:=hm;exact{o,es,ep,k _ o (Ru hL) ho,r}
 ·refine(I.hok b u e).stay (λc v hc q=>k c v ?_ q) (λ_ q=>q) λ_ _ q=>q;rcases hc with z|z
  ·rw[z];exact nit b u e
  ·exact nit c _ z
def Inv.tok (I:Inv X pins σ H s)(t:Nat):Inv X pins σ H {s with toks:=t}:=I.un (h':=s.heap) (t':=t) Un.refl I.hok
def Inv.kept {t':Nat}(I:Inv X pins σ H s)(k:∀b u,s.heap.get? b=some u->h'.get? b=some u):Inv X pins σ H {s with heap:=h',toks:=t'}:=I.un (Un.kept k) (I.hok.kept k)
def Inv.laid {a:Addr}{o:HO}{t':Nat}(I:Inv X pins σ H s)(k:∀b u,s.heap.get? b=some u->h'.get? b=some u)(hp:s.heap.objs.size<=a)(new:cX X.prog X.w (upd H a o) h' a o) :
 Inv X pins σ (upd H a o) {s with heap:=h',toks:=t'}:=I.un (Un.laid k hp (I.hok.fresh hp)) (I.hok.laid k hp new)
def Inv.write {x e:Addr}{o:HO}{t':Nat}(I:Inv X pins σ H s)(mu:FL (H x))(he:e=x\/H e=some (.own x))(k:∀b u,b≠e->s.heap.get? b=some u->h'.get? b=some u)(heo:∃u,h'.get? e=some u)
 (new:cX X.prog X.w (upd H x o) h' x o):Inv X pins σ (upd H x o) {s with heap:=h',toks:=t'}:=I.un (Un.write mu he k heo) (I.hok.write mu he k heo new)
def Inv.pins_of {pins':List (Addr×Obj)}(I:Inv X pins σ H s)(h:∀p∈pins',s.heap.get? p.1=some p.2/\H p.1=none/\p.1≠X.env.locals/\p.1∉X.fs/\∀v,p.2.data≠.cell v):Inv X pins' σ H s:=
 {I.ok,I.os,I.bare,I.base,I.loc,I.cell,I.free,I.freeC,λp hp=>(QL.mp hp).elim (λz=>I.pin p (RE _ z)) (h p),I.hok,I.len}
def uy {N:List Str}(hN:N.Nodup){i j:Nat}{x:Str}(a:N[i]?=some x)(b:N[j]?=some x):i=j:=by
 obtain⟨h1,e1⟩:=Qg.mp a;obtain⟨h2,e2⟩:=Qg.mp b;exact(List.getElem_inj hN).mp (e1.trans e2.symm)
def rW {M:Model}{A:RR}{E:Qi->Qm->Prop}{i:Nat}{x:Str}{v:V}{u:Qi}{Q:Unit->Qm->Prop}(I:Inv X pins σ H s)(hN:X.N.Nodup)(hi:X.N[i]?=some x)(hx:Loc X.env.scope x)(r:RelV v u)
 (h:∀s',Inv X pins (σ.set i (some v)) H s'->(∃a,R6 a s.heap s'.heap/\(a=X.env.locals\/X.env.cells.lookup x=some a))->Q () s') (hf:X.fn x=true\/X.env.scope.names.lookup x=some .local:=by first|exact .inl rfl|exact .inr rfl|assumption):wpAny M A (storeName X.env x u) Q E s:=by
 obtain⟨m,hn,hl⟩:=id I.loc;have hcls:(X.env.scope.kind==.class||(X.env.scope.kind==.module&&X.env.locals != X.env.globals))=false:=by rw[I.ok.kind];rfl
 have hiσ:i<σ.length:=by rw[I.len];exact(Qg.mp hi).1
 have cne:=I.cne;have tracked:∀{a:Addr}{h':Heap},(∃o,s.heap.get? a=some o/\H a=none)->R6 a s.heap h'->fb X.prog X.w H h':=λ{a h'} ha hs b ob e=>by
  obtain⟨_,_,hfree⟩:=ha;refine(I.hok b ob e).stay (λc w' hc q=>(hs.2 c ?_).trans q) (λ_ q=>q) λ_ _ q=>q;rintro rfl;rcases hc with rfl|hc
  ·rw[hfree] at e;cases e
  ·rw[hfree] at hc;cases hc
 rcases hx with hk|hk
 ·refine wpAny_storeName_local hk hn (λh' hn' hs=>?_) hcls;obtain⟨oL,_,_,hoL,_⟩:=id hn;refine h _ {I.ok,I.os,I.bare,{λb o e n hb hx=>?_,λb o e n hb hx=>?_,I.base.free,λb o e hx=>?_,I.base.tups,I.base.frzs,I.base.tbls},{_,hn',λj y v' e1 e2 e3=>?_},λy c e=>?_,I.free,I.freeC,λp hp=>?_,tracked ⟨oL,hoL,I.free⟩ hs,by simpa using I.len} {_,hs,.inl rfl}
  ·exact(hs.2 b (QY (QN (QH e) I.ok.above))).trans (I.base.keep b o e n hb hx)
  ·obtain⟨sl,e1⟩:=I.base.slot b o e n hb hx;exact{sl,(hs.2 b (QY (QN (QH e) I.ok.above))).trans e1}
  ·obtain⟨o',e1⟩:=I.base.there b o e hx;exact{o',(hs.2 b (QY (QN (QH e) I.ok.above))).trans e1}
  ·by_cases hj:j=i
   ·subst hj;rw[hi] at e1;cases e1;rw[QS hiσ] at e2;cases e2;exact{u,r,.inl {hk,`s}}
   ·rw[Qo (Ru hj)] at e2;obtain⟨u',r',q⟩:=hl j y v' e1 e2 e3;refine{u',r',?_};rcases q with⟨k,e⟩|⟨k,c,e,z⟩
    ·refine .inl {k,?_};have:y≠x:=λe=>hj (uy hN e1 (e ▸ hi));simp[this,e]
    ·exact .inr {k,c,e,z.sameBut hs (cne y c e)}
  ·obtain⟨w',z⟩:=I.cell y c e;exact{w',z.sameBut hs (cne y c e)}
  ·obtain⟨e,n,ne,nf,d⟩:=I.pin p hp;exact{(hs.2 p.1 ne).trans e,n,ne,nf,d}
 ·have hfn:X.fn x=true:=by
   rcases hf with z|z
   ·exact z
   ·rw[z] at hk;cases hk
  obtain⟨c,hc⟩:=I.ok.has x (.inl hk);obtain⟨w',z⟩:=I.cell x c hc;refine wpAny_storeName_cell I.ok.kind hk hc z (λh' hc' hs=>?_);obtain⟨oc,hoc,hocd⟩:=id z;refine h {s with heap:=h'} {I.ok,I.os,I.bare,{λb o e n hb hx=>?_,λb o e n hb hx=>?_,I.base.free,λb o e hx=>?_,I.base.tups,I.base.frzs,I.base.tbls},{m,hn.sameBut hs (Ru (cne x c hc)),λj y v' e1 e2 e3=>?_},λy c' e=>?_,I.free,I.freeC,λp hp=>?_,tracked {oc,hoc,I.freeC x c hc} hs,by simpa using I.len} {c,hs,.inr hc}
  ·exact(hs.2 b (QY (QN (QH e) (I.ok.cab x c hfn hc)))).trans (I.base.keep b o e n hb hx)
  ·obtain⟨sl,e1⟩:=I.base.slot b o e n hb hx;exact{sl,(hs.2 b (QY (QN (QH e) (I.ok.cab x c hfn hc)))).trans e1}
  ·obtain⟨o',e1⟩:=I.base.there b o e hx;exact{o',(hs.2 b (QY (QN (QH e) (I.ok.cab x c hfn hc)))).trans e1}
  ·by_cases hj:j=i
   ·subst hj;rw[hi] at e1;cases e1;rw[QS hiσ] at e2;cases e2;exact{u,r,.inr {.inl hk,c,hc,hc'}}
   ·rw[Qo (Ru hj)] at e2;obtain⟨u',r',q⟩:=hl j y v' e1 e2 e3;refine{u',r',?_};rcases q with q|⟨k,c',e,z'⟩
    ·exact .inl q
    ·refine .inr {k,c',e,z'.sameBut hs ?_};rintro rfl;exact hj (uy hN e1 (I.ok.inj _ _ _ e hc ▸ hi))
  ·by_cases hcc:c'=c
   ·subst hcc;exact{_,hc'}
   ·obtain⟨w2,z2⟩:=I.cell y c' e;exact{w2,z2.sameBut hs hcc}
  ·obtain⟨e,n,ne,nf,d⟩:=I.pin p hp;refine{(hs.2 p.1 ?_).trans e,n,ne,nf,d};intro q;rw[q,hoc] at e;have q':oc=p.2:=Qv e;exact d w' (by rw[<- q'];exact hocd)
def CA {M:Model}{A:RR}{E:Qi->Qm->Prop}{i:Nat}{x:Str}{v:V}{u:Qi}{Q:Unit->Qm->Prop}(I:Inv X pins σ H s)(hN:X.N.Nodup)(hi:X.N[i]?=some x)(hx:Loc X.env.scope x)(r:RelV v u)
 (h:∀s',Inv X pins (σ.set i (some v)) H s'->Q () s') (hf:X.fn x=true\/X.env.scope.names.lookup x=some .local:=by first|exact .inl rfl|exact .inr rfl|assumption):wpAny M A (storeName X.env x u) Q E s:=
 rW I hN hi hx r (λs' I' _=>h s' I') hf
def Inv.call' {s':Qm}{ch:List Addr}(I:Inv X pins σ H s)(ho:s'.os=s.os)(u:Un (ib X.stack) ch H H' s.heap s'.heap)(hok:fb X.prog X.w H' s'.heap)(hg:AllBare s'.gens)
 (hch:∀b∈ch,(b∈X.ex\/X.s₀.heap.objs.size<=b)/\b≠X.env.locals/\(∀x c,X.env.cells.lookup x=some c->c≠b)/\∀p∈X.pn++pins,p.1≠b):Inv X pins σ H' s':=by
 obtain⟨h',g',d',t',o'⟩:=s';have e:o'=s.os:=ho;subst e;exact I.call (g':=g') (t':=t') (d':=d') u hok hg hch
end
abbrev XK:=Qi->Option Addr->Hp->Prop
abbrev St:=List (Option V)
abbrev VK:=V->Hp->Prop
abbrev TE:=St->Hp->VK->Prop
abbrev TT:=St->Hp->(Bool->Hp->Prop)->Prop
abbrev TA:=St->Hp->(List V->Hp->Prop)->Prop
structure Ends where
 nx:St->Hp->Prop
 rt:VK
 bk:St->Hp->Prop:=λ_ _=>False
 ct:St->Hp->Prop:=λ_ _=>False
abbrev TS:=Ends->St->Hp->Prop
noncomputable def EP (X:Cx)(pins:List (Addr×Obj))(σ:St)(Q:VK)(u:Qi)(s':Qm):Prop:=∃v H',Inv X pins σ H' s'/\RelV v u/\Q v H'
noncomputable def TP (X:Cx)(pins:List (Addr×Obj))(σ:St)(Q:Bool->Hp->Prop)(b:Bool)(s':Qm):Prop:=∃H',Inv X pins σ H' s'/\Q b H'
noncomputable def AP (X:Cx)(pins:List (Addr×Obj))(σ:St)(Q:List V->Hp->Prop)(us:List Qi)(s':Qm):Prop:=∃vs H',Inv X pins σ H' s'/\Vals vs us/\Q vs H'
noncomputable def SP (X:Cx)(pins:List (Addr×Obj))(D:Ends)(f:Flow)(s':Qm):Prop:=
 match f with
 |.next=>∃σ' H',Inv X pins σ' H' s'/\D.nx σ' H'
 |.brk=>∃σ' H',Inv X pins σ' H' s'/\D.bk σ' H'
 |.cont=>∃σ' H',Inv X pins σ' H' s'/\D.ct σ' H'
 |.ret u=>∃v σ' H',Inv X pins σ' H' s'/\RelV v u/\D.rt v H'
noncomputable def PE (X:Cx)(e:Expr)(t:TE):Prop:=
 ∀(pins:List (Addr×Obj)) (s:Qm) (σ:St) (H:Hp) (Q:VK),Inv X pins σ H s->t σ H Q->wpAny (model X.prog X.w) X.A (eval e X.env) (EP X pins σ Q) X.xe s
noncomputable def PT (X:Cx)(e:Expr)(t:TT):Prop:=
 ∀(pins:List (Addr×Obj)) (s:Qm) (σ:St) (H:Hp) (Q:Bool->Hp->Prop),Inv X pins σ H s->t σ H Q->wpAny (model X.prog X.w) X.A (isTrue e X.env (eval e X.env)) (TP X pins σ Q) X.xe s
noncomputable def PW (X:Cx)(e:Expr)(t:TT):Prop:=
 ∀(whole:Sem Qi) (pins:List (Addr×Obj)) (s:Qm) (σ:St) (H:Hp) (Q:Bool->Hp->Prop),Inv X pins σ H s->t σ H Q->wpAny (model X.prog X.w) X.A (isTrue e X.env whole) (TP X pins σ Q) X.xe s
def PW.pt {X:Cx}{e:Expr}{t:TT}(h:PW X e t):PT X e t:=h _
noncomputable def PA (X:Cx)(es:List Expr)(t:TA):Prop:=
 ∀(pos:Pos) (pins:List (Addr×Obj)) (s:Qm) (σ:St) (H:Hp) (Q:List V->Hp->Prop),Inv X pins σ H s->t σ H Q->wpAny (model X.prog X.w) X.A (spliced (backTo pos (starEach es X.env))) (AP X pins σ Q) X.xe s
noncomputable def PS (X:Cx)(st:Stmt)(t:TS):Prop:=
 ∀(pins:List (Addr×Obj)) (s:Qm) (σ:St) (H:Hp) (D:Ends),Inv X pins σ H s->t D σ H->wpAny (model X.prog X.w) X.A (exec st X.env) (SP X pins D) X.xe s
noncomputable def lD (X:Cx)(st:List Stmt)(t:TS):Prop:=
 ∀(pins:List (Addr×Obj)) (s:Qm) (σ:St) (H:Hp) (D:Ends),Inv X pins σ H s->t D σ H->wpAny (model X.prog X.w) X.A (execs st X.env) (SP X pins D) X.xe s
def aT {α:Type}{t:Sem α}{Q Q':α->Qm->Prop}{M:Model}{A:RR}{E:Qi->Qm->Prop}{s:Qm}(h:wpAny M A t Q E s)(hQ:∀a s,Q a s->Q' a s):wpAny M A t Q' E s:=wpAny_mono h hQ λ_ _ x=>x
section
variable{X:Cx}
noncomputable def OE (i:Nat):TE:=λσ H Q=>∃v,σ[i]?=some (some v)/\Q v H
noncomputable def tC (v:V):TE:=λ_ H Q=>Q v H
def AJ {i:Nat}{x:Str}{pos:Pos}(hN:X.N[i]?=some x)(hv:BQ X.env.scope x)(hd:(x==("__debug__":Str))=false:=by decide)(hcd:(x==("__classdict__":Str))=false:=by decide):PE X (.Name x pos) (OE i):=by
 intro pins s σ H Q I h;obtain⟨v,e,h⟩:=h;obtain⟨m,hn,hl⟩:=I.loc;obtain⟨u,r,l⟩:=hl i x v hN e hv;have fin:EP X pins σ Q u s:=⟨v,H,I,r,h⟩;rcases l with⟨hk,hm⟩|⟨hk,c,hc,hcell⟩
 ·exact wpAny_Name (wpAny_loadName_local I.ok.kind hk hn hm fin) hd
 ·rcases hk with hk|hk
  ·exact wpAny_Name (wpAny_loadName_cell I.ok.kind hk hc hcell fin) hd
  ·exact wpAny_Name (wpAny_loadName_free I.ok.kind hk hc hcell fin hcd) hd
def AK {i j pos}:PE X (.Constant (.int i) j pos) (tC (.int i)):=λ_ _ _ H _ I h=>wpAny_Constant_int {.int i,H,I.tok _,{_,rfl},h}
def MK {b j pos}:PE X (.Constant (.bool b) j pos) (tC (.bl b)):=λ_ _ _ H _ I h=>Constant_bool {.bl b,H,I,rfl,h}
def J3 {j pos}:PE X (.Constant .none j pos) (tC .non):=λ_ _ _ H _ I h=>Constant_none {.non,H,I,rfl,h}
def JZ {x j pos}:PE X (.Constant (.str x) j pos) (tC (.str x)):=λ_ _ _ H _ I h=>Calls.Constant_str {.str x,H,I.tok _,{_,rfl},h}
noncomputable def Gl (X:Cx)(x:Str):Prop:=X.env.kindOf x=some .globalImplicit
def lg {E:Qi->Qm->Prop}{pins:List (Addr×Obj)}{s:Qm}{σ:St}{H:Hp}{x:Str}{u:Qi}{pos:Pos}{Q:Qi->Qm->Prop}(I:Inv X pins σ H s)(hg:Gl X x)(hm:X.mg x=some u)(h:Q u s)
 (hd:(x==("__debug__":Str))=false:=by decide):wpAny (model X.prog X.w) X.A (eval (.Name x pos) X.env) Q E s:=
 Calls.Name_function_global I.ok.kind hg (Calls.loadGlobal_global (by rw[I.ok.glob];exact I.mod.glob.keeps I.bk) hm h) hd
def hJ {E:Qi->Qm->Prop}{pins:List (Addr×Obj)}{s:Qm}{σ:St}{H:Hp}{x:Str}{u:Qi}{pos:Pos}{Q:Qi->Qm->Prop}(I:Inv X pins σ H s)(hg:Gl X x)(hm:X.mg x=none)(hv:bootBuiltins x=some u)(h:Q u s)
 (hn:x≠"__name__":=by decide) (hd:(x==("__debug__":Str))=false:=by decide):wpAny (model X.prog X.w) X.A (eval (.Name x pos) X.env) Q E s:=by
 obtain⟨mb,h1,h2⟩:=I.mod.blt;exact Calls.Name_function_global I.ok.kind hg (Calls.loadGlobal_builtin (by rw[I.ok.glob];exact I.mod.glob.keeps I.bk) hm (by rw[I.ok.blt];exact h1.keeps I.bk) ((h2 x hn).trans hv) h) hd
def kS {x:Str}{v:V}{u:Qi}{pos:Pos}(hg:Gl X x)(hm:X.mg x=some u)(r:RelV v u)(hd:(x==("__debug__":Str))=false:=by decide):PE X (.Name x pos) (tC v):=
 λ_ _ _ H _ I h=>lg I hg hm ⟨v,H,I,r,h⟩ hd
def Hc {x:Str}{v:V}{u:Qi}{pos:Pos}(hg:Gl X x)(hm:X.mg x=none)(hv:bootBuiltins x=some u)(r:RelV v u)(hn:x≠"__name__":=by decide)(hd:(x==("__debug__":Str))=false:=by decide):PE X (.Name x pos) (tC v):=
 λ_ _ _ H _ I h=>hJ I hg hm hv ⟨v,H,I,r,h⟩ hn hd
variable{a b:Expr}{ta tb:TE}{pos:Pos}
variable{tA tB':TT}{rest:List Expr}
noncomputable def gW (t u:TT):TT:=λσ H Q=>t σ H λc H1=>if c=true then u σ H1 Q else Q false H1
noncomputable def dN (t u:TT):TT:=λσ H Q=>t σ H λc H1=>if c=true then Q true H1 else u σ H1 Q
noncomputable def cj (t:TT):TT:=λσ H Q=>t σ H λc H1=>Q (!c) H1
def G3 (ha:PT X a tA):PW X (.BoolOp .And [a] pos) tA:=by
 intro wh pins s σ H Q I h;refine isTrue_and (aT (ha pins s σ H Q I h) λc s1 e=>?_);cases c with
 |true=>exact isTrue_and_nil e
 |false=>exact e
def JO (ha:PT X a tA):PW X (.BoolOp .Or [a] pos) tA:=by
 intro wh pins s σ H Q I h;refine isTrue_or (aT (ha pins s σ H Q I h) λc s1 e=>?_);cases c with
 |false=>exact isTrue_or_nil e
 |true=>exact e
def JP (ha:PT X a tA)(hb:PW X (.BoolOp .And (b::rest) pos) tB'):PW X (.BoolOp .And (a::b::rest) pos) (gW tA tB'):=by
 intro wh pins s σ H Q I h;refine isTrue_and (aT (ha pins s σ H _ I h) λc s1 ⟨H1,I1,q1⟩=>?_);cases c with
 |true=>exact hb wh pins s1 σ H1 Q I1 q1
 |false=>exact⟨H1,I1,q1⟩
def MG (ha:PT X a tA)(hb:PW X (.BoolOp .Or (b::rest) pos) tB'):PW X (.BoolOp .Or (a::b::rest) pos) (dN tA tB'):=by
 intro wh pins s σ H Q I h;refine isTrue_or (aT (ha pins s σ H _ I h) λc s1 ⟨H1,I1,q1⟩=>?_);cases c with
 |true=>exact⟨H1,I1,q1⟩
 |false=>exact hb wh pins s1 σ H1 Q I1 q1
def JT (ha:PT X a tA):PT X (.UnaryOp .Not a pos) (cj tA):=by
 intro pins s σ H Q I h;exact isTrue_not (ha pins s σ H (λc H1=>Q (!c) H1) I h)
noncomputable def Mz (ta tb:TE):TE:=λσ H Q=>ta σ H λx H1=>∃c,x=.bl c/\if c=true then tb σ H1 Q else Q (.bl false) H1
noncomputable def OI (ta tb:TE):TE:=λσ H Q=>ta σ H λx H1=>∃c,x=.bl c/\if c=true then Q (.bl true) H1 else tb σ H1 Q
noncomputable def Mv (ta:TE):TE:=λσ H Q=>ta σ H λx H1=>∃c,x=.bl c/\Q (.bl (!c)) H1
def J1 {op}{t:TE}(h:PE X a t):PE X (.BoolOp op [a] pos) t:=λpins s σ H Q I hw=>BoolOp_one (h pins s σ H Q I hw)
def J5 (ha:PE X a ta)(hb:PE X (.BoolOp .And (b::rest) pos) tb):PE X (.BoolOp .And (a::b::rest) pos) (Mz ta tb):=by
 intro pins s σ H Q I h;refine BoolOp_and (aT (ha pins s σ H _ I h) λv s1 ⟨x,H1,I1,r1,q1⟩=>?_);obtain⟨c,rfl,q1⟩:=q1;cases r1;refine tqp ?_;cases c with
 |true=>exact hb pins s1 σ H1 Q I1 q1
 |false=>exact{.bl false,H1,I1,rfl,q1}
def MH (ha:PE X a ta)(hb:PE X (.BoolOp .Or (b::rest) pos) tb):PE X (.BoolOp .Or (a::b::rest) pos) (OI ta tb):=by
 intro pins s σ H Q I h;refine BoolOp_or (aT (ha pins s σ H _ I h) λv s1 ⟨x,H1,I1,r1,q1⟩=>?_);obtain⟨c,rfl,q1⟩:=q1;cases r1;refine tqp ?_;cases c with
 |false=>exact hb pins s1 σ H1 Q I1 q1
 |true=>exact{.bl true,H1,I1,rfl,q1}
def J2 (ha:PE X a ta):PE X (.UnaryOp .Not a pos) (Mv ta):=by
 intro pins s σ H Q I h;refine UnaryOp_ (aT (ha pins s σ H _ I h) λv s1 ⟨x,H1,I1,r1,q1⟩=>?_);obtain⟨c,rfl,q1⟩:=q1;cases r1;exact not_of (tqp {.bl (!c),H1,I1,rfl,q1})
noncomputable def tIf (t:TT)(ta tb:TE):TE:=λσ H Q=>t σ H λc H1=>if c=true then ta σ H1 Q else tb σ H1 Q
def um {c:Expr}(hc:PT X c tA)(ha:PE X a ta)(hb:PE X b tb):PE X (.IfExp c a b pos) (tIf tA ta tb):=by
 intro pins s σ H Q I h;refine wpAny_IfExp (aT (hc pins s σ H _ I h) λd s1 ⟨H1,I1,q1⟩=>?_);cases d with
 |true=>exact ha pins s1 σ H1 Q I1 q1
 |false=>exact hb pins s1 σ H1 Q I1 q1
end
noncomputable def cW (K:Qh)(H:Hp)(a:Addr)(xs:List V):Prop:=
 Rd H a (.lst xs)\/
  ∃(o:Obj) (its:Array Qi) (n:Nat),K.lookup a=some o/\o.cls=.type "list"/\o.dict=none/\o.data=.seq its n/\its.size<=sizeLine/\Vals xs its.toList
noncomputable def dQ (K:Qh)(H:Hp)(a:Addr)(xs:List V):Prop:=
 Rd H a (.tup xs)\/
  ∃(o:Obj) (its:Array Qi) (n:Nat),K.lookup a=some o/\o.cls=.type "tuple"/\o.data=.seq its n/\its.size<=sizeLine/\Vals xs its.toList
noncomputable def PL:Qi->Option V
 |.none=>some .non
 |.bool b=>some (.bl b)
 |.int i _=>some (.int i)
 |.str x _=>some (.str x)
 |.bytes b _=>some (.byt b)
 |.float b _=>some (.flt b)
 |.ref a=>some (.ref a)
 |.type n=>some (.ty n)
 |_=>none
def RelV.abs {x:V}{u:Qi}(r:RelV x u):PL u=some x:=by
 cases x with
 |non=>cases r;rfl
 |bl _=>cases r;rfl
 |int _=>obtain⟨t,rfl⟩:=r;rfl
 |str _=>obtain⟨t,rfl⟩:=r;rfl
 |byt _=>obtain⟨t,rfl⟩:=r;rfl
 |flt _=>obtain⟨t,rfl⟩:=r;rfl
 |ref _=>cases r;rfl
 |ty _=>cases r;rfl
def RelV.inj {x y:V}{u:Qi}(r:RelV x u)(q:RelV y u):x=y:=Qv (r.abs.symm.trans q.abs)
def Vals.inj:∀{xs ys:List V}{us:List Qi},Vals xs us->Vals ys us->xs=ys
 |_,_,_,.nil,.nil=>rfl
 |_,_,_,.cons r t,.cons r' t'=>by rw[r.inj r',Vals.inj t t']
section
variable{X:Cx}{pins:List (Addr×Obj)}{σ:St}{H:Hp}{s:Qm}{a:Addr}{xs ys:List V}
def cW.of {K:Qh}(h:H a=some (.lst xs)):cW K H a xs:=.inl (.inl h)
def dQ.of {K:Qh}(h:H a=some (.tup xs)):dQ K H a xs:=.inl (.inl h)
def Inv.list (I:Inv X pins σ H s)(h:cW X.K H a xs):∃its:List Qi,Vals xs its/\PlainL s.heap a its.toArray/\xs.length<=sizeLine:=by
 rcases h with h|⟨o,its,n,hk,hc,hd,hs,hz,r⟩
 ·obtain⟨z,its,n,r,e⟩:=h.ok I.hok;exact{its,r,{_,n,e,rfl,rfl,rfl},z}
 ·refine{its.toList,r,{o,n,I.kIn a o hk,hc,hd,by simpa using hs},?_}
  have e:=r.length;simp only[Sq] at e;omega
def Inv.tuple (I:Inv X pins σ H s)(h:dQ X.K H a xs):∃its:List Qi,Vals xs its/\IsTup s.heap a its.toArray/\xs.length<=sizeLine:=by
 rcases h with h|⟨o,its,n,hk,hc,hs,hz,r⟩
 ·obtain⟨z,its,r,p⟩:=h.ok I.hok;exact⟨its,r,p,z⟩
 ·refine{its.toList,r,{o,I.kIn a o hk,hc,n,by simpa using hs},?_}
  have e:=r.length;simp only[Sq] at e;omega
def Inv.list_inj (I:Inv X pins σ H s)(h:cW X.K H a xs)(h':cW X.K H a ys):xs=ys:=by
 obtain⟨its,r,⟨o,n,e,_,_,d⟩,_⟩:=I.list h;obtain⟨its',r',⟨o',n',e',_,_,d'⟩,_⟩:=I.list h';rw[e] at e';cases e';rw[d] at d';injection d' with d1 _
 have:its=its':=by simpa using congrArg Array.toList d1
 subst this;exact r.inj r'
def Inv.tuple_inj (I:Inv X pins σ H s)(h:dQ X.K H a xs)(h':dQ X.K H a ys):xs=ys:=by
 obtain⟨its,r,⟨o,e,_,n,d⟩,_⟩:=I.tuple h;obtain⟨its',r',⟨o',e',_,n',d'⟩,_⟩:=I.tuple h';rw[e] at e';cases e';rw[d] at d';injection d' with d1 _
 have:its=its':=by simpa using congrArg Array.toList d1
 subst this;exact r.inj r'
end
section
variable{X:Cx}{st:Stmt}{rest:List Stmt}{t u:TS}{e:Expr}{te:TE}{pos:Pos}
noncomputable def EC:TS:=λD σ H=>D.nx σ H
noncomputable def OG (t u:TS):TS:=λD σ H=>t {D with nx:=u D} σ H
def qM:lD X [] EC:=λ_ _ σ H _ I h=>wpAny_execs_nil ⟨σ,H,I,h⟩
def lO (h1:PS X st t)(h2:lD X rest u):lD X (st::rest) (OG t u):=by
 intro pins s σ H D I h;refine wpAny_execs_cons (aT (h1 pins s σ H {D with nx:=u D} I h) λf s1 q=>?_)
 cases f with
 | next =>
   obtain⟨σ',H',I',q⟩:=q;exact h2 pins s1 σ' H' D I' q
 |ret v=>exact q
 |brk=>exact q
 |cont=>exact q
noncomputable def Mx:TS:=λD σ H=>D.ct σ H
def G6:PS X (.Pass pos) EC:=λ_ _ σ H _ I h=>wpAny_Pass ⟨σ,H,I,h⟩
def vZ:PS X (.Continue pos) Mx:=λ_ _ σ H _ I h=>wpAny_Continue ⟨σ,H,I,h⟩
def Inv.quiet {pins:List (Addr×Obj)}{σ:St}{H:Hp}{s:Qm}(I:Inv X pins σ H s):interactive X.env=false:=by simp[interactive,I.ok.kind]
noncomputable def Mw (te:TE):TS:=λD σ H=>te σ H λ_ H1=>D.nx σ H1
def kQ (he:PE X e te)(hs:swapsWith e none pos.line X.env=pure false:=by rfl):PS X (.Expr e pos) (Mw te):=by
 intro pins s σ H D I h;exact wpAny_Expr_any (aT (he pins s σ H _ I h) λv s1 ⟨x,H1,I1,r1,q1⟩=>⟨σ,H1,I1,q1⟩) I.quiet hs
noncomputable def OH (te:TE):TS:=λD σ H=>te σ H D.rt
def AB (he:PE X e te):PS X (.Return (some e) pos) (OH te):=by
 intro pins s σ H D I h;exact wpAny_Return_some (aT (he pins s σ H _ I h) λv s1 ⟨x,H1,I1,r1,q1⟩=>⟨x,σ,H1,I1,r1,q1⟩)
noncomputable def Mr:TS:=λD _ H=>D.rt .non H
def G5:PS X (.Return none pos) Mr:=λ_ _ σ H _ I h=>wpAny_Return_none {.non,σ,H,I,rfl,h}
noncomputable def OL (c:TT)(t u:TS):TS:=λD σ H=>c σ H λb H1=>if b=true then t D σ H1 else u D σ H1
def EL {c:Expr}{a b:List Stmt}{tc:TT}(hc:PT X c tc)(ha:lD X a t)(hb:lD X b u):PS X (.If c a b pos) (OL tc t u):=by
 intro pins s σ H D I h;refine wpAny_If (aT (hc pins s σ H _ I h) λd s1 ⟨H1,I1,q1⟩=>?_);cases d with
 |true=>exact ha pins s1 σ H1 D I1 q1
 |false=>exact hb pins s1 σ H1 D I1 q1
end
abbrev TG:=V->St->Hp->(St->Hp->Prop)->Prop
abbrev sU:=List V->St->Hp->(St->Hp->Prop)->Prop
noncomputable def PG (X:Cx)(target:Expr)(t:TG):Prop:=
 ∀(pins:List (Addr×Obj)) (s:Qm) (σ:St) (H:Hp) (v:V) (u:Qi) (Q:St->Hp->Prop),Inv X pins σ H s->RelV v u->t v σ H Q->
  wpAny (model X.prog X.w) X.A (assign target X.env u) (λ_ s'=>∃σ' H',Inv X pins σ' H' s'/\Q σ' H') X.xe s
noncomputable def vU (X:Cx)(ts:List Expr)(t:sU):Prop:=
 ∀(pins:List (Addr×Obj)) (s:Qm) (σ:St) (H:Hp) (vs:List V) (us:List Qi) (Q:St->Hp->Prop),Inv X pins σ H s->Vals vs us->t vs σ H Q->
  wpAny (model X.prog X.w) X.A (assignInOrder ((assignEach ts X.env).map (·.2)) us) (λ_ s'=>∃σ' H',Inv X pins σ' H' s'/\Q σ' H') X.xe s
abbrev zf:=V->V->V->Hp->(Hp->Prop)->Prop
noncomputable def D7 (X:Cx)(t:zf):Prop:=
 ∀(pins:List (Addr×Obj)) (s:Qm) (σ:St) (H:Hp) (o i v:V) (ov iv u:Qi) (Q:Hp->Prop),Inv X pins σ H s->RelV o ov->RelV i iv->RelV v u->t o i v H Q->
  wpAny (model X.prog X.w) X.A (setItem ov iv u) (λ_ s'=>∃H',Inv X pins σ H' s'/\Q H') X.xe s
section
variable{X:Cx}{pos:Pos}
noncomputable def Nf (i:Nat):TG:=λv σ H Q=>Q (σ.set i (some v)) H
def qO {i:Nat}{x:Str}(hN:X.N.Nodup)(hi:X.N[i]?=some x)(hx:Loc X.env.scope x)(hf:X.fn x=true\/X.env.scope.names.lookup x=some .local:=by first|exact .inl rfl|exact .inr rfl|assumption):PG X (.Name x pos) (Nf i):=by
 intro pins s σ H v u Q I r h;exact wpAny_assign_Name (CA I hN hi hx r (λs' I'=>{_,H,I',h}) hf)
noncomputable def bj:sU:=λvs σ H Q=>vs=[]/\Q σ H
noncomputable def bg (t:TG)(u:sU):sU:=λvs σ H Q=>∃v r,vs=v::r/\t v σ H λσ' H'=>u r σ' H' Q
def wD:vU X [] bj:=by
 intro pins s σ H vs us Q I r h;obtain⟨e,h⟩:=h;subst e;cases r;exact assignInOrder_nil ⟨σ,H,I,h⟩
def pe {e:Expr}{es:List Expr}{t:TG}{u:sU}(h1:PG X e t)(h2:vU X es u)
 (hs:(assignEach (e::es) X.env).map (·.2)=assign e X.env::(assignEach es X.env).map (·.2):=by rfl):vU X (e::es) (bg t u):=by
 intro pins s σ H vs us Q I r h;obtain⟨v,vr,e1,h⟩:=h;subst e1;cases r with
 | cons r rr =>
   rw[hs];refine assignInOrder_cons (aT (h1 pins s σ H _ _ _ I r h) λ_ s1 ⟨σ1,H1,I1,q1⟩=>?_);exact h2 pins s1 σ1 H1 _ _ Q I1 rr q1
noncomputable def bB (K:Qh)(n:Nat)(t:sU):TG:=λv σ H Q=>∃a xs,v=.ref a/\dQ K H a xs/\xs.length=n/\t xs σ H Q
def ui {es:List Expr}{k:Nat}{t:sU}{n:Nat}(hc:X.calm=true)(h:vU X es t)
 (hn:(assignEach es X.env).length=n:=by rfl) (hst:(assignEach es X.env).findIdx? (·.1)=none:=by rfl):PG X (.Tuple es k pos) (bB X.K n t):=by
 intro pins s σ H v u Q I r hw;obtain⟨a,xs,e1,hq,hl,hw⟩:=hw;subst e1;cases r;obtain⟨its,rv,ht,hz⟩:=I.tuple hq;refine assign_Tuple_tuple (I.ok.hd hc) ht (by simp[hn,<- hl,rv.length]) hst λh' hx=>?_
 have I1:Inv X pins σ H {s with heap:=h'}:=I.kept (t':=s.toks) λb o e=>hx b o (QY (QH e)) e
 exact h pins _ σ H xs _ Q I1 (by simpa using rv) hw
noncomputable def Pr (to ti:TE)(t:zf):TG:=λv σ H Q=>to σ H λo H1=>ti σ H1 λi H2=>t o i v H2 λH3=>Q σ H3
def AI {o i:Expr}{to ti:TE}{t:zf}(ho:PE X o to)(hi:PE X i ti)(hs:D7 X t)
 (ha:∀v,assign (.Subscript o i pos) X.env v=(do
  let ov <- holding [v] (eval o X.env)
  let iv <- holding [v,ov] (eval i X.env)
  standAt pos
  holding [v,ov,iv] (setItem ov iv v)
  release [v,ov,iv] []):=by intro _;rfl):PG X (.Subscript o i pos) (Pr to ti t):=by
 intro pins s σ H v u Q I r h;rw[ha];refine tqa (tqo (aT (ho pins s σ H _ I h) λov s1 ⟨x,H1,I1,r1,q1⟩=>?_));refine tqa (tqo (aT (hi pins s1 σ H1 _ I1 q1) λiv s2 ⟨y,H2,I2,r2,q2⟩=>?_));refine tqa (wpAny_standAt (tqa (tqo (aT (hs pins s2 σ H2 x y v ov iv u _ I2 r1 r2 r q2) λ_ s3 ⟨H3,I3,q3⟩=>?_))));exact wpAny_release ⟨σ,H3,I3,q3⟩
noncomputable def ON (te:TE)(g:TG):TS:=λD σ H=>te σ H λx H1=>g x σ H1 D.nx
def p6 {tg e:Expr}{te:TE}{g:TG}(he:PE X e te)(hg:PG X tg g)(hs:swapsWithSole [tg] e pos.line X.env=pure false:=by rfl)(hw:swappedStores [tg] e X.env=pure none:=by rfl)
 (h1:(assignEach [tg] X.env).map (·.2)=[assign tg X.env]:=by rfl):PS X (.Assign [tg] e pos) (ON te g):=by
 intro pins s σ H D I h;refine wpAny_Assign_stores (aT (he pins s σ H _ I h) λv s1 ⟨x,H1,I1,r1,q1⟩=>?_) hs hw;rw[h1];exact aT (hg pins s1 σ H1 x v _ I1 r1 q1) λ_ s2 q=>q
end
section
variable{X:Cx}{pos:Pos}
noncomputable def Jg (c:TT)(tb:TS):TS:=λD σ H=>∃W:Nat->St->Hp->Prop,(∃m,W m σ H)/\∀m σ H,W m σ H->
 c σ H λb H1=>if b=true then ∃N:St->Hp->Prop,(∀σ' H',N σ' H'->∃m',m'<m/\W m' σ' H')/\tb {D with nx:=N,ct:=N,bk:=D.nx} σ H1 else D.nx σ H1
def CU {c:Expr}{body:List Stmt}{tc:TT}{tb:TS}(hp:PassesOwn (model X.prog X.w) X.A X.env X.xe)(hc:PT X c tc)(hb:lD X body tb):PS X (.While c body [] pos) (Jg tc tb):=by
 intro pins s σ H D I h;obtain⟨W,⟨m0,w0⟩,turn⟩:=h;refine wpAny_While (codeAny_whileLoop (λn s'=>∃σ' H',Inv X pins σ' H' s'/\W n σ' H') ?_ m0 ⟨σ,H,I,w0⟩);rintro n s1 ⟨σ1,H1,I1,w1⟩;refine wpAny_passesOwn hp (aT (hc pins s1 σ1 H1 _ I1 (turn n σ1 H1 w1)) λb s2 ⟨H2,I2,q2⟩=>?_);cases b with
 | true =>
   obtain⟨N,hN,q2⟩:=q2;rw[if_pos rfl];refine wpAny_passesOwn hp (aT (hb pins s2 σ1 H2 _ I2 q2) λf s3 q3=>?_);cases f with
   | next =>
     obtain⟨σ3,H3,I3,n3⟩:=q3;obtain⟨m',hm,w3⟩:=hN σ3 H3 n3;exact⟨m',hm,σ3,H3,I3,w3⟩
   | cont =>
     obtain⟨σ3,H3,I3,n3⟩:=q3;obtain⟨m',hm,w3⟩:=hN σ3 H3 n3;exact⟨m',hm,σ3,H3,I3,w3⟩
   |brk=>exact q3
   |ret v=>exact q3
 | false =>
   rw[if_neg QP];exact wpAny_execs_nil ⟨σ1,H2,I2,q2⟩
end
structure It where
 go:Nat->Hp->Prop
 yld:Nat->Hp->V->Hp->Prop
 stop:Nat->Hp->Prop
noncomputable def fK (X:Cx)(pins:List (Addr×Obj))(H:Hp)(b:Addr):Prop:=
 H b=none/\b≠X.env.locals/\b∉X.fs/\(b∈X.ex\/X.s₀.heap.objs.size<=b)/\(∀x c,X.env.cells.lookup x=some c->c≠b)/\∀p∈X.pn++pins,p.1≠b
def Inv.fpOk {X:Cx}{pins:List (Addr×Obj)}{σ:St}{H H':Hp}{s:Qm}{b:Addr}(I:Inv X pins σ H s)(hb:s.heap.objs.size<=b)(hn:H' b=none):fK X pins H' b:=by
 refine{hn,Rq (QN I.lt hb),I.nofs hb,.inr (Qp I.sz hb),λx c e z=>?_,λp hp z=>?_}
 ·obtain⟨v,q⟩:=I.cell x c e;exact absurd (QN q.lt (by rw[z];exact hb)) (RH _)
 ·exact absurd (QN (QH (I.pin p hp).1) (by rw[z];exact hb)) (RH _)
structure Turn (P:Ra) (w:Rb) (K:Qh) (tg:Expr) (J:It) (fp:List Addr) (it:Addr) (tn:Nat->Heap->Prop):Prop where
 mem:it∈fp
 obj:∀i h,tn i h->∀b∈fp,∃o,h.get? b=some o/\∀v,o.data≠.cell v
 keep:∀i h h',tn i h->(∀b∈fp,∀o,h.get? b=some o->h'.get? b=some o)->tn i h'
 item:∀(X:Cx),X.prog=P->X.w=w->X.K=K->X.calm=true->∀(i:Nat) (pins:List (Addr×Obj)) (s:Qm) (σ:St) (H:Hp) (E:Qi->Qm->Prop),Inv X pins σ H s->(∀b∈fp,fK X pins H b)->tn i s.heap->J.go i H->
  wpAny (model P w) X.A (pyNext (.ref it)) (λr s1=>∃u,r=some u/\
   wpAny (model P w) X.A (letOwnedTupleGo tg (.ref it) u) (λ_ s2=>∃x H',Inv X pins σ H' s2/\RelV x u/\J.yld i H x H'/\tn (i+1) s2.heap/\∀b∈fp,H' b=none) E s1) E s
 done:∀(X:Cx),X.prog=P->X.w=w->X.K=K->X.calm=true->∀(i:Nat) (pins:List (Addr×Obj)) (s:Qm) (σ:St) (H:Hp) (E:Qi->Qm->Prop),Inv X pins σ H s->(∀b∈fp,fK X pins H b)->tn i s.heap->J.stop i H->
  wpAny (model P w) X.A (pyNext (.ref it)) (λr s1=>r=none/\Inv X pins σ H s1) E s
 self:∀(A:RR) (i:Nat) (s:Qm) (Q:Qi->Qm->Prop) (E:Qi->Qm->Prop),tn i s.heap->Q (.ref it) s->wpAny (model P w) A (pyIter (.ref it)) Q E s
abbrev TI:=St->Hp->(It->Hp->Prop)->Prop
noncomputable def Mb (X:Cx)(pins:List (Addr×Obj))(σ:St)(tg:Expr)(R:It->Hp->Prop)(itv:Qi)(s2:Qm):Prop:=
 ∃(it:Addr) (fp:List Addr) (tn:Nat->Heap->Prop) (J:It) (H':Hp),itv=.ref it/\Inv X pins σ H' s2/\Turn X.prog X.w X.K tg J fp it tn/\tn 0 s2.heap/\(∀b∈fp,fK X pins H' b)/\R J H'
noncomputable def PI (X:Cx)(tg iter:Expr)(wi:TI):Prop:=
 ∀(pins:List (Addr×Obj)) (s:Qm) (σ:St) (H:Hp) (R:It->Hp->Prop),Inv X pins σ H s->wi σ H R->
  wpAny (model X.prog X.w) X.A (eval iter X.env) (λv s1=>wpAny (model X.prog X.w) X.A (pyIter v) (Mb X pins σ tg R) X.xe s1) X.xe s
def tj {M:Model}{A:RR}{E:Qi->Qm->Prop}{s:Qm}{tg:Expr}{it:Addr}{u:Qi}{o:Obj}{n:String}{vs:Array Qi}{Q:Unit->Qm->Prop}(ho:s.heap.get? it=some o)(hc:o.cls=.type n)(hd:o.data=.fields vs)
 (hn:["enumerate","zip","dict_itemiterator","dict_reverseitemiterator","odict_iterator","itertools.zip_longest","itertools.pairwise"].contains n=false) (hQ:Q () s):wpAny M A (letOwnedTupleGo tg (.ref it) u) Q E s:=by
 unfold letOwnedTupleGo;cases tg<;>first
  |exact tqb hQ
  |(cases u<;>first
   |exact tqb hQ
   | (refine tqa (wpAny_load ho ?_)
      rw[hc,hd];show wpAny M A (if (["enumerate","zip","dict_itemiterator","dict_reverseitemiterator","odict_iterator","itertools.zip_longest","itertools.pairwise"].contains n&&vs[0]?==some (rawInt _))=true then _ else _) Q E s;rw[if_neg (by intro h;rw[hn,Bool.false_and] at h;cases h)]
      exact tqb hQ))
noncomputable def Mg (K:Qh)(a:Addr):It:=
 {λi H=>∃xs x,cW K H a xs/\xs[i]?=some x,λi H x H'=>H'=H/\∀xs,cW K H a xs->xs[i]?=some x,λi H=>∃xs,cW K H a xs/\xs.length<=i}
noncomputable def Mf (K:Qh)(a:Addr):It:=
 {λi H=>∃xs x,dQ K H a xs/\xs[i]?=some x,λi H x H'=>H'=H/\∀xs,dQ K H a xs->xs[i]?=some x,λi H=>∃xs,dQ K H a xs/\xs.length<=i}
noncomputable def FN (lo:Int)(n:Nat):It:={λi _=>i<n,λi H x H'=>H'=H/\x=.int (lo+i),λi _=>n<=i}
def zS {P:Ra}{w:Rb}{K:Qh}{tg:Expr}(a it:Addr):Turn P w K tg (Mg K a) [it] it (λi h=>h.IsListIter it a i) where
 mem:=`s
 obj:=λi h st b hb=>by
  have e:b=it:=by simpa using hb
  subst e;obtain⟨o,e,c,d⟩:=st;exact{o,e,λv z=>by rw[d] at z;cases z}
 keep:=λi h h' st k=>st.at λo e=>k it `s o e
 item:=by
  intro X hP hw hK hc i pins s σ H E I hf st hg;subst hP hw hK;obtain⟨xs,x,hq,hx⟩:=hg;obtain⟨its,rv,p,hz⟩:=I.list hq;obtain⟨u,hu,ru⟩:=rv.get hx;obtain⟨f0,f1,f2,f3,f4,f5⟩:=hf it `s
  refine wpAny_pyNext_list_item st p.isList (x:=u) (by simpa using hu) λh' st' sb=>?_
  have I1:Inv X pins σ H {s with heap:=h'}:=I.turned (t':=s.toks) (λb o hb e=>(sb.2 b hb).trans e) f0 f1 f3 f4 f5
  obtain⟨o,e,c,d⟩:=id st';exact{u,rfl,tj (s:={s with heap:=h'}) e c d `d {x,H,I1,ru,{rfl,λys hy=>by rw[I.list_inj hy hq];exact hx},st',λb hb=>(hf b hb).1}}
 done:=by
  intro X hP hw hK hc i pins s σ H E I hf st hg;subst hP hw hK;obtain⟨xs,hq,hx⟩:=hg;obtain⟨its,rv,p,hz⟩:=I.list hq;obtain⟨f0,f1,f2,f3,f4,f5⟩:=hf it `s
  have hl:=rv.length;exact wpAny_pyNext_list_end (I.ok.hd hc) st p.isList `o λh' eb=>{rfl,I.turned (t':=s.toks) (λb o hb e=>eb b o hb e) f0 f1 f3 f4 f5}
 self:=λ_ _ _ _ _ st h=>wpAny_pyIter_listiter st h
def xT {P:Ra}{w:Rb}{K:Qh}{tg:Expr}(a it:Addr):Turn P w K tg (Mf K a) [it] it (λi h=>h.IsTupleIter it a i) where
 mem:=`s
 obj:=λi h st b hb=>by
  have e:b=it:=by simpa using hb
  subst e;obtain⟨o,e,c,d⟩:=st;exact{o,e,λv z=>by rw[d] at z;cases z}
 keep:=λi h h' st k=>st.at λo e=>k it `s o e
 item:=by
  intro X hP hw hK hc i pins s σ H E I hf st hg;subst hP hw hK;obtain⟨xs,x,hq,hx⟩:=hg;obtain⟨its,rv,p,hz⟩:=I.tuple hq;obtain⟨u,hu,ru⟩:=rv.get hx;obtain⟨f0,f1,f2,f3,f4,f5⟩:=hf it `s
  refine wpAny_pyNext_tuple_item st (show s.heap.IsTuple a its.toArray from p) (x:=u) (by simpa using hu) λh' st' sb=>?_
  have I1:Inv X pins σ H {s with heap:=h'}:=I.turned (t':=s.toks) (λb o hb e=>(sb.2 b hb).trans e) f0 f1 f3 f4 f5
  obtain⟨o,e,c,d⟩:=id st';exact{u,rfl,tj (s:={s with heap:=h'}) e c d `d {x,H,I1,ru,{rfl,λys hy=>by rw[I.tuple_inj hy hq];exact hx},st',λb hb=>(hf b hb).1}}
 done:=by
  intro X hP hw hK hc i pins s σ H E I hf st hg;subst hP hw hK;obtain⟨xs,hq,hx⟩:=hg;obtain⟨its,rv,p,hz⟩:=I.tuple hq;obtain⟨f0,f1,f2,f3,f4,f5⟩:=hf it `s
  have hl:=rv.length;exact wpAny_pyNext_tuple_end (I.ok.hd hc) st (show s.heap.IsTuple a its.toArray from p) `o λh' eb=>{rfl,I.turned (t':=s.toks) (λb o hb e=>eb b o hb e) f0 f1 f3 f4 f5}
 self:=λ_ _ _ _ _ st h=>wpAny_pyIter_tupleiter st h
def xU {P:Ra}{w:Rb}{K:Qh}{tg:Expr}(it:Addr)(lo:Int)(n:Nat):Turn P w K tg (FN lo n) [it] it (λi h=>IsRangeIter h it (lo+(i:Nat)*1) ((n:Int)-(i:Nat)) 1) where
 mem:=`s
 obj:=λi h st b hb=>by
  have e:b=it:=by simpa using hb
  subst e;exact{_,st,λv z=>by
   have z':Data.fields _=Data.cell v:=z;cases z'}
 keep:=λi h h' st k=>k it `s _ st
 item:=by
  intro X hP hw hK hc i pins s σ H E I hf st hg;subst hP hw hK;obtain⟨f0,f1,f2,f3,f4,f5⟩:=hf it `s
  have W:=Walks.range (prog:=X.prog) (w:=X.w) (I.ok.hd hc) it lo 1 n;refine W.item i s _ _ hg st λv h' tk hv st' kk=>?_;obtain⟨t,rfl⟩:=hv;have I1:Inv X pins σ H {s with heap:=h',toks:=tk}:=I.turned (λb o hb e=>kk b o (by simpa using hb) e) f0 f1 f3 f4 f5
  refine{_,rfl,tj (s:={s with heap:=h',toks:=tk}) (n:="range_iterator") st' rfl rfl `d {.int (lo+i),H,I1,{t,?_},⟨rfl,rfl⟩,st',λb hb=>(hf b hb).1}}
  rw[Int.mul_one]
 done:=by
  intro X hP hw hK hc i pins s σ H E I hf st hg;subst hP hw hK;obtain⟨f0,f1,f2,f3,f4,f5⟩:=hf it `s
  exact wpAny_pyNext_range_end (I.ok.hd hc) st (by have:n<=i:=hg;omega) λh' eb=>{rfl,I.turned (t':=s.toks) (λb o hb e=>eb b o hb e) f0 f1 f3 f4 f5}
 self:=λ_ _ _ _ _ st h=>wpAny_pyIter_rangeiter st h
section
variable{X:Cx}{tg:Expr}
noncomputable def Nc (K:Qh)(tl:TE):TI:=λσ H R=>tl σ H λx H1=>∃a,x=.ref a/\(∃xs,cW K H1 a xs)/\R (Mg K a) H1
noncomputable def Pq (K:Qh)(tl:TE):TI:=λσ H R=>tl σ H λx H1=>∃a,x=.ref a/\(∃xs,dQ K H1 a xs)/\R (Mf K a) H1
def Ha {l:Expr}{tl:TE}(hl:PE X l tl):PI X tg l (Nc X.K tl):=by
 intro pins s σ H R I h;refine aT (hl pins s σ H _ I h) λv s1 ⟨x,H1,I1,r1,q1⟩=>?_;obtain⟨a,e,⟨xs,hq⟩,q⟩:=q1;subst e;cases r1;obtain⟨its,rv,p,hz⟩:=I1.list hq;refine wpAny_pyIter_list p.isList ?_;refine{s1.heap.objs.size,[s1.heap.objs.size],_,_,H1,rfl,I1.kept (t':=s1.toks) λb o e=>Qk _ e,zS a _,{_,QG _ rfl,rfl,rfl},λb hb=>?_,q};have e:b=s1.heap.objs.size:=by simpa using hb
 subst e;exact I1.fpOk (Ql _) (I1.hok.fresh (Ql _))
def JX {l:Expr}{tl:TE}(hl:PE X l tl):PI X tg l (Pq X.K tl):=by
 intro pins s σ H R I h;refine aT (hl pins s σ H _ I h) λv s1 ⟨x,H1,I1,r1,q1⟩=>?_;obtain⟨a,e,⟨xs,hq⟩,q⟩:=q1;subst e;cases r1;obtain⟨its,rv,p,hz⟩:=I1.tuple hq;refine wpAny_pyIter_tuple (show s1.heap.IsTuple a its.toArray from p) ?_;refine{s1.heap.objs.size,[s1.heap.objs.size],_,_,H1,rfl,I1.kept (t':=s1.toks) λb o e=>Qk _ e,xT a _,{_,QG _ rfl,rfl,rfl},λb hb=>?_,q};have e:b=s1.heap.objs.size:=by simpa using hb
 subst e;exact I1.fpOk (Ql _) (I1.hok.fresh (Ql _))
def CQ {pins:List (Addr×Obj)}{σ:St}{H:Hp}{s:Qm}{R:It->Hp->Prop}{E:Qi->Qm->Prop}{lo hi:Int}{t u v:Tok}{tk:Nat}(I:Inv X pins σ H s)(h1:-(2^62)<=lo)(h2:lo<2^62)(h3:-(2^62)<=hi)(h4:hi<2^62)
 (q:R (FN lo (hi-lo).toNat) H):wpAny (model X.prog X.w) X.A (pyIter (.ref s.heap.objs.size)) (Mb X pins σ tg R) E {s with heap:=s.heap.push {cls:=.type "range",data:=.fields #[.int lo t,.int hi u,.int 1 v]},toks:=tk}:=by
 refine wpAny_pyIter_range (IsRange.new ..) (small_one h1 h2 h3 h4) ?_;have I1:Inv X pins σ H {s with heap:=s.heap.push {cls:=.type "range",data:=.fields #[.int lo t,.int hi u,.int 1 v]},toks:=tk}:=I.kept λb o e=>Qk _ e
 refine{(s.heap.push {cls:=.type "range",data:=.fields #[.int lo t,.int hi u,.int 1 v]}).objs.size,[(s.heap.push {cls:=.type "range",data:=.fields #[.int lo t,.int hi u,.int 1 v]}).objs.size],_,_,H,rfl,
  I1.kept (t':=tk) λb o e=>Qk _ e,xU _ lo (hi-lo).toNat,?_,λb hb=>?_,q}
 ·have e1:lo+((0:Nat):Int)*1=lo:=`s
  have e2:(((hi-lo).toNat:Nat):Int)-((0:Nat):Int)=Builtin.Range.rangeSize lo hi 1:=by rw[rangeSize_one];split<;>omega
  show IsRangeIter _ _ (lo+((0:Nat):Int)*1) ((((hi-lo).toNat:Nat):Int)-((0:Nat):Int)) 1;rw[e1,e2];exact QG _ rfl
 ·have e:b=(s.heap.push {cls:=.type "range",data:=.fields #[.int lo t,.int hi u,.int 1 v]}).objs.size:=by simpa using hb
  subst e;exact I1.fpOk (Ql _) (I1.hok.fresh (Ql _))
noncomputable def Nb (ta:TA):TI:=λσ H R=>ta σ H λvs H1=>∃j:Int,vs=[.int j]/\-(2^62)<=j/\j<2^62/\R (FN 0 j.toNat) H1
def AH {a:Expr}{ta:TA}{p pos:Pos}(hg:Gl X "range")(hm:X.mg "range"=none)(ha:PA X [a] ta)(hs:starEach [a] X.env=[(false,eval a X.env)]:=by rfl):PI X tg (.Call (.Name "range" p) [a] [] pos) (Nb ta):=by
 intro pins s σ H R I h;refine Call_ (hJ I hg hm boot_range (RY (aT (ha pos pins s σ H _ I h) λus s1 ⟨vs,H1,I1,r1,q1⟩=>?_) hs rfl));obtain⟨j,e,q1,q2,q⟩:=q1;subst e;cases r1 with
 | cons r rr =>
   cases rr;obtain⟨t,rfl⟩:=r;exact call_range_1 (CQ I1 `a `a q1 q2 (by simpa using q))
noncomputable def OM (wi:TI)(g:TG)(tb:TS):TS:=λD σ H=>wi σ H λJ H1=>∃W:Nat->Nat->St->Hp->Prop,(∃m,W 0 m σ H1)/\∀i m σ H,W i m σ H->
 (J.stop i H/\D.nx σ H)\/(J.go i H/\∃N:St->Hp->Prop,(∀σ' H',N σ' H'->∃m',m'<m/\W (i+1) m' σ' H')/\∀x H',J.yld i H x H'->g x σ H' λσ2 H2=>tb {D with nx:=N,ct:=N,bk:=D.nx} σ2 H2)
noncomputable def p8 (fp:List Addr)(h:Heap):List (Addr×Obj):=fp.filterMap λb=>(h.get? b).map λo=>(b,o)
def i6 {fp:List Addr}{h:Heap}{b:Addr}{o:Obj}(hb:b∈fp)(e:h.get? b=some o):(b,o)∈p8 fp h:=List.mem_filterMap.mpr {b,hb,by rw[e];rfl}
def AO {fp:List Addr}{h:Heap}{p:Addr×Obj}(hp:p∈p8 fp h):p.1∈fp/\h.get? p.1=some p.2:=by
 obtain⟨b,hb,e⟩:=List.mem_filterMap.mp hp;cases q:h.get? b with
 |none=>rw[q] at e;cases e
 | some o =>
   rw[q] at e;have e':(b,o)=p:=Qv e;subst e';exact⟨hb,q⟩
def Inv.pinned {pins:List (Addr×Obj)}{σ:St}{H:Hp}{s:Qm}{fp:List Addr}(I:Inv X pins σ H s)(hf:∀b∈fp,fK X pins H b)(ho:∀b∈fp,∃o,s.heap.get? b=some o/\∀v,o.data≠.cell v):Inv X (pins++p8 fp s.heap) σ H s:=
 I.pins_of λp hp=>(QL.mp hp).elim (λz=>I.pin p (Rh _ z)) λz=>by
  obtain⟨hb,e⟩:=AO z;obtain⟨f0,f1,f2,_⟩:=hf p.1 hb;obtain⟨o,e',d⟩:=ho p.1 hb;rw[e] at e';cases e';exact⟨e,f0,f1,f2,d⟩
def Inv.unpinned {pins pl:List (Addr×Obj)}{σ:St}{H:Hp}{s:Qm}(I:Inv X (pins++pl) σ H s):Inv X pins σ H s:=I.pins_of λp hp=>I.pin p (Rh _ (RE _ hp))
def JU {iter:Expr}{body:List Stmt}{wi:TI}{g:TG}{tb:TS}{pos:Pos}(hp:PassesOwn (model X.prog X.w) X.A X.env X.xe)(hc:X.calm=true)(hi:PI X tg iter wi)(hg:PG X tg g)(hb:lD X body tb)
 (hs:∀x,foldedSetIterable iter X.env x=pure x:=by intro _;rfl):PS X (.For tg iter body [] pos) (OM wi g tb):=by
 intro pins s σ H D I h;refine wpAny_For (aT (hi pins s σ H _ I h) λv s1 h1=>aT h1 λitv s2 h2=>?_) hs;obtain⟨it,fp,tn,J,H2,e,I2,T,st2,f2,W,⟨m0,w0⟩,turn⟩:=h2;subst e;have stat:∀{H':Hp},(∀b∈fp,H' b=none)->∀b∈fp,fK X pins H' b:=λhn b hb=>{hn b hb,(f2 b hb).2};refine codeAny_forLoop_any (λn s'=>∃i σ' H',Inv X pins σ' H' s'/\tn i s'.heap/\(∀b∈fp,H' b=none)/\W i n σ' H') ?_ m0 {0,σ,H2,I2,st2,λb hb=>(f2 b hb).1,w0};rintro n s3 ⟨i,σ3,H3,I3,st3,fr3,w3⟩;rcases turn i n σ3 H3 w3 with⟨stop,qn⟩|⟨go,N,hN,step⟩
 ·refine wpAny_passesOwn hp (aT (T.done X rfl rfl rfl hc i pins s3 σ3 H3 X.xe I3 (stat fr3) st3 stop) λr s4 ⟨hr,I4⟩=>?_);subst hr;exact wpAny_execs_nil ⟨σ3,H3,I4,qn⟩
 ·refine wpAny_passesOwn hp (aT (T.item X rfl rfl rfl hc i pins s3 σ3 H3 X.xe I3 (stat fr3) st3 go) λr s4 ⟨u,hr,h4⟩=>?_);subst hr;refine wpAny_passesOwn hp (aT h4 λ_ s5 ⟨x,H5,I5,r5,y5,st5,fr5⟩=>?_);have I5':=I5.pinned (stat fr5) (T.obj _ _ st5);refine wpAny_passesOwn hp (aT (hg _ s5 σ3 H5 x u _ I5' r5 (step x H5 y5)) λ_ s6 ⟨σ6,H6,I6,q6⟩=>?_);refine wpAny_passesOwn hp (aT (hb _ s6 σ6 H6 _ I6 q6) λf s7 q7=>?_);have again:∀{σ7:St}{H7:Hp},Inv X (pins++p8 fp s5.heap) σ7 H7 s7->N σ7 H7->∃m,m<n/\∃i σ' H',Inv X pins σ' H' s7/\tn i s7.heap/\(∀b∈fp,H' b=none)/\W i m σ' H':=λ{σ7 H7} I7 n7=>by
   obtain⟨m',hm,w7⟩:=hN σ7 H7 n7;refine{m',hm,i+1,σ7,H7,I7.unpinned,T.keep _ _ _ st5 λb hb o e=>(I7.pin (b,o) (Rh _ (Rh _ (i6 hb e)))).1,λb hb=>?_,w7};obtain⟨o,e,d⟩:=T.obj _ _ st5 b hb;exact(I7.pin (b,o) (Rh _ (Rh _ (i6 hb e)))).2.1
  cases f with
  |next=>obtain⟨σ7,H7,I7,n7⟩:=q7;exact again I7 n7
  |cont=>obtain⟨σ7,H7,I7,n7⟩:=q7;exact again I7 n7
  |brk=>obtain⟨σ7,H7,I7,q7⟩:=q7;exact⟨σ7,H7,I7.unpinned,q7⟩
  |ret v=>obtain⟨x7,σ7,H7,I7,r7,q7⟩:=q7;exact⟨x7,σ7,H7,I7.unpinned,r7,q7⟩
end
abbrev R2:=V->V->Hp->VK->Prop
noncomputable def bU (X:Cx)(f:Qi->Qi->Sem Qi)(r:R2):Prop:=
 ∀(pins:List (Addr×Obj)) (s:Qm) (σ:St) (H:Hp) (x y:V) (v u:Qi) (Q:VK),Inv X pins σ H s->RelV x v->RelV y u->r x y H Q->
  wpAny (model X.prog X.w) X.A (f v u) (EP X pins σ Q) X.xe s
noncomputable def L9 (X:Cx)(f:Qi->Sem Qi)(r:V->Hp->VK->Prop):Prop:=
 ∀(pins:List (Addr×Obj)) (s:Qm) (σ:St) (H:Hp) (x:V) (v:Qi) (Q:VK),Inv X pins σ H s->RelV x v->r x H Q->
  wpAny (model X.prog X.w) X.A (f v) (EP X pins σ Q) X.xe s
noncomputable def cY (X:Cx)(f:Qi)(r:List V->Hp->VK->Prop):Prop:=
 ∀(pins:List (Addr×Obj)) (s:Qm) (σ:St) (H:Hp) (xs:List V) (us:List Qi) (Q:VK),Inv X pins σ H s->Vals xs us->r xs H Q->
  wpAny (model X.prog X.w) X.A (call f us) (EP X pins σ Q) X.xe s
noncomputable def PN (X:Cx)(r:V->Hp->(Bool->Hp->Prop)->Prop):Prop:=
 ∀(pins:List (Addr×Obj)) (s:Qm) (σ:St) (H:Hp) (x:V) (v:Qi) (Q:Bool->Hp->Prop),Inv X pins σ H s->RelV x v->r x H Q->
  wpAny (model X.prog X.w) X.A (truthy v) (TP X pins σ Q) X.xe s
noncomputable def zZ (r:R2)(ta tb:TE):TE:=λσ H Q=>ta σ H λx H1=>tb σ H1 λy H2=>r x y H2 Q
noncomputable def tUn (r:V->Hp->VK->Prop)(ta:TE):TE:=λσ H Q=>ta σ H λx H1=>r x H1 Q
noncomputable def rI (C:Int->Int->Prop)(g:Int->Int->V):R2:=λx y H Q=>∃i j,x=.int i/\y=.int j/\C i j/\Q (g i j) H
noncomputable def r8 (g:Int->Int->V):R2:=λx y H Q=>∃i j,x=.int i/\y=.int j/\Q (g i j) H
noncomputable def rU (g:Int->V):V->Hp->VK->Prop:=λx H Q=>∃i,x=.int i/\Q (g i) H
section
variable{X:Cx}{a b c:Expr}{ta tb tc:TE}{pos:Pos}
def DY (ha:PE X a ta)(hb:PE X b tb){pins:List (Addr×Obj)}{s:Qm}{σ:St}{H:Hp}{R:V->V->Hp->Prop}(I:Inv X pins σ H s)
 (h:ta σ H λx H1=>tb σ H1 λy H2=>R x y H2) {Q:Qi->Qm->Prop}{f:Qi->Qi->Sem Qi}
 (hf:∀v u s2 x y H2,Inv X pins σ H2 s2->RelV x v->RelV y u->R x y H2->wpAny (model X.prog X.w) X.A (f v u) Q X.xe s2) :
 wpAny (model X.prog X.w) X.A (eval a X.env) (λv s₁=>wpAny (model X.prog X.w) X.A (eval b X.env) (λu s₂=>wpAny (model X.prog X.w) X.A (f v u) Q X.xe s₂) X.xe s₁) X.xe s:=by
 refine aT (ha pins s σ H _ I h) λv s1 ⟨x,H1,I1,r1,q1⟩=>?_;refine aT (hb pins s1 σ H1 _ I1 q1) λu s2 ⟨y,H2,I2,r2,q2⟩=>?_;exact hf v u s2 x y H2 I2 r1 r2 q2
def MI {op:Operator}{r:R2}(ho:bU X (binaryOp op) r)(ha:PE X a ta)(hb:PE X b tb):PE X (.BinOp a op b pos) (zZ r ta tb):=by
 intro pins s σ H Q I h;exact wpAny_BinOp (DY ha hb I h λv u s2 x y H2 I2 rx ry q=>ho pins s2 σ H2 x y v u Q I2 rx ry q)
def EM {op:UnaryOp}{r:V->Hp->VK->Prop}(ho:L9 X (unaryOp op) r)(ha:PE X a ta):PE X (.UnaryOp op a pos) (tUn r ta):=by
 intro pins s σ H Q I h;exact UnaryOp_ (aT (ha pins s σ H _ I h) λv s1 ⟨x,H1,I1,r1,q1⟩=>ho pins s1 σ H1 x v Q I1 r1 q1)
def EO {f:Qi->Qi->Sem Qi}{C:Int->Int->Prop}{g:Int->Int->Int}
 (rule:∀(i j:Int) (t u:Tok) (s:Qm) (Q:Qi->Qm->Prop) (E:Qi->Qm->Prop),C i j->Q (.int (g i j) s.toks) {s with toks:=s.toks+1}->wpAny (model X.prog X.w) X.A (f (.int i t) (.int j u)) Q E s) :
 bU X f (rI C λi j=>.int (g i j)):=by
 intro pins s σ H x y v u Q I rx ry h;obtain⟨i,j,rfl,rfl,hc,q⟩:=h;obtain⟨t,rfl⟩:=rx;obtain⟨t',rfl⟩:=ry;exact rule i j t t' s _ _ hc {.int (g i j),H,I.tok _,{_,rfl},q}
def Ke {f:Qi->Qi->Sem Qi}{g:Int->Int->Int}
 (rule:∀(i j:Int) (t u:Tok) (s:Qm) (Q:Qi->Qm->Prop) (E:Qi->Qm->Prop),Q (.int (g i j) s.toks) {s with toks:=s.toks+1}->wpAny (model X.prog X.w) X.A (f (.int i t) (.int j u)) Q E s) :
 bU X f (r8 λi j=>.int (g i j)):=by
 intro pins s σ H x y v u Q I rx ry h;obtain⟨i,j,rfl,rfl,q⟩:=h;obtain⟨t,rfl⟩:=rx;obtain⟨t',rfl⟩:=ry;exact rule i j t t' s _ _ {.int (g i j),H,I.tok _,{_,rfl},q}
def yn {f:Qi->Qi->Sem Qi}{g:Int->Int->Bool}
 (rule:∀(i j:Int) (t u:Tok) (s:Qm) (Q:Qi->Qm->Prop) (E:Qi->Qm->Prop),Q (.bool (g i j)) s->wpAny (model X.prog X.w) X.A (f (.int i t) (.int j u)) Q E s) :
 bU X f (r8 λi j=>.bl (g i j)):=by
 intro pins s σ H x y v u Q I rx ry h;obtain⟨i,j,rfl,rfl,q⟩:=h;obtain⟨t,rfl⟩:=rx;obtain⟨t',rfl⟩:=ry;exact rule i j t t' s _ _ {.bl (g i j),H,I,rfl,q}
noncomputable def Mm (i j:Int):Prop:=0<j/\j<1073741824
noncomputable def Ml (i j:Int):Prop:=0<=j/\j<=1000000/\i.natAbs<2^64
noncomputable def Ea (i j:Int):Prop:=(-(2^64)<i/\i<2^64)\/(-(2^64)<j/\j<2^64)
def Ea.ok {i j:Int}(h:Ea i j):IntMulOk i j:=by
 rcases h with⟨h1,h2⟩|⟨h1,h2⟩
 ·exact .of_left (intBits_le_64 h1 h2)
 ·exact .of_right (intBits_le_64 h1 h2)
def Kd:bU X (binaryOp .Add) (r8 λi j=>.int (i+j)):=Ke λ_ _ _ _ _ _ _ q=>add_int q
def J6:bU X (binaryOp .Sub) (r8 λi j=>.int (i-j)):=Ke λ_ _ _ _ _ _ _ q=>sub_int q
def J9:bU X (binaryOp .Mult) (rI Ea λi j=>.int (i*j)):=EO λ_ _ _ _ _ _ _ hc q=>mul_int q hc.ok
def Hg:bU X (binaryOp .FloorDiv) (rI Mm λi j=>.int (i / j)):=EO λi j _ _ _ _ _ hc q=>by
 have h1:(0:Int)<j:=hc.1;have h2:j<1073741824:=hc.2;exact floordiv_int `a (by rw[Int.fdiv_eq_ediv_of_nonneg i `a];exact q) (.inl (PyProof.noPylong_small `a))
def Ka:bU X (binaryOp .Mod) (rI (λ_ j=>0<j) λi j=>.int (i % j)):=EO λi j _ _ _ _ _ hc q=>by
 have h1:(0:Int)<j:=hc;exact mod_int' `a (by rw[Int.fmod_eq_emod_of_nonneg i `a];exact q)
def J8:bU X (binaryOp .Pow) (rI Ml λi j=>.int (i^j.toNat)):=EO λ_ _ _ _ _ _ _ hc q=>pow_int_small hc.1 hc.2.1 hc.2.2 q
def unI {f:Qi->Sem Qi}{g:Int->Int}
 (rule:∀(i:Int) (t:Tok) (s:Qm) (Q:Qi->Qm->Prop) (E:Qi->Qm->Prop),Q (.int (g i) s.toks) {s with toks:=s.toks+1}->wpAny (model X.prog X.w) X.A (f (.int i t)) Q E s) :
 L9 X f (rU λi=>.int (g i)):=by
 intro pins s σ H x v Q I rx h;obtain⟨i,rfl,q⟩:=h;obtain⟨t,rfl⟩:=rx;exact rule i t s _ _ {.int (g i),H,I.tok _,{_,rfl},q}
def zF:L9 X (unaryOp .USub) (rU λi=>.int (-i)):=unI λ_ _ _ _ _ q=>neg_int q
end
noncomputable def Jr:V->V->Bool
 |.non,.non=>true|.non,.int _=>true|.int _,.non=>true|.non,.bl _=>true|.bl _,.non=>true|.non,.str _=>true|.str _,.non=>true
 |.int _,.int _=>true|.bl _,.bl _=>true|.str _,.str _=>true|.byt _,.byt _=>true
 |.int _,.str _=>true|.str _,.int _=>true|.bl _,.str _=>true|.str _,.bl _=>true
 |_,_=>false
noncomputable def rEq:R2:=λx y H Q=>Jr x y=true/\Q (.bl (decide (x=y))) H
noncomputable def rNe:R2:=λx y H Q=>Jr x y=true/\Q (.bl (!decide (x=y))) H
def xv {i j:Int}:decide (V.int i=V.int j)=(i==j):=by
 rw[Rp];simp
def Bx {i j:Bool}:decide (V.bl i=V.bl j)=(i==j):=by
 rw[Rp];simp
def oo {i j:Str}:decide (V.str i=V.str j)=(i==j):=by
 rw[Rp];simp
def xx {i j:Array UInt8}:decide (V.byt i=V.byt j)=(i.toList==j.toList):=by
 rw[Rp];cases i;cases j;simp
section
variable{X:Cx}{a b c:Expr}{ta tb tc:TE}{pos:Pos}
def bC {pins:List (Addr×Obj)}{σ:St}{H:Hp}{s:Qm}{Q:VK}{k k':Bool}(I:Inv X pins σ H s)(q:Q (.bl k) H)(e:k=k'):EP X pins σ Q (.bool k') s:=by
 subst e;exact{.bl k,H,I,rfl,q}
def MR:bU X (compareOp .Eq) rEq:=by
 intro pins s σ H x y v u Q I rx ry h;obtain⟨hs,q⟩:=h;cases x with
 | non =>
   cases rx;cases y with
   |non=>cases ry;exact PySem.EqNone.eq_none_none (bC I q `s)
   |bl j=>cases ry;exact PySem.EqNone.eq_none_bool (bC I q `s)
   |int j=>obtain⟨t',rfl⟩:=ry;exact PySem.EqNone.eq_none_int (bC I q `s)
   |str j=>obtain⟨t',rfl⟩:=ry;exact PySem.EqNone.eq_none_str (bC I q `s)
   |_=>exact absurd (show false=true from hs) QP
 | bl i =>
   cases rx;cases y with
   |non=>cases ry;exact PySem.EqNone.eq_bool_none (bC I q `s)
   |bl j=>cases ry;exact eq_bool (bC I q Bx)
   |str j=>obtain⟨t',rfl⟩:=ry;exact PySem.EqMixed.eq_bool_str (bC I q `s)
   |_=>exact absurd (show false=true from hs) QP
 | int i =>
   obtain⟨t,rfl⟩:=rx;cases y with
   |non=>cases ry;exact PySem.EqNone.eq_int_none (bC I q `s)
   |int j=>obtain⟨t',rfl⟩:=ry;exact eq_int (bC I q xv)
   |str j=>obtain⟨t',rfl⟩:=ry;exact PySem.EqMixed.eq_int_str (bC I q `s)
   |_=>exact absurd (show false=true from hs) QP
 | str i =>
   obtain⟨t,rfl⟩:=rx;cases y with
   |non=>cases ry;exact PySem.EqNone.eq_str_none (bC I q `s)
   |bl j=>cases ry;exact PySem.EqMixed.eq_str_bool (bC I q `s)
   |int j=>obtain⟨t',rfl⟩:=ry;exact PySem.EqMixed.eq_str_int (bC I q `s)
   |str j=>obtain⟨t',rfl⟩:=ry;exact eq_str (bC I q oo)
   |_=>exact absurd (show false=true from hs) QP
 | byt i =>
   obtain⟨t,rfl⟩:=rx;cases y with
   |byt j=>obtain⟨t',rfl⟩:=ry;exact PySem.W.eq_bytes (bC I q xx)
   |_=>exact absurd (show false=true from hs) QP
 |_=>cases y<;>exact absurd (show false=true from hs) QP
def MM:bU X (compareOp .NotEq) rNe:=by
 intro pins s σ H x y v u Q I rx ry h;obtain⟨hs,q⟩:=h;cases x with
 | non =>
   cases rx;cases y with
   |non=>cases ry;exact PySem.EqNone.ne_none_none (bC I q `s)
   |bl j=>cases ry;exact PySem.EqNone.ne_none_bool (bC I q `s)
   |int j=>obtain⟨t',rfl⟩:=ry;exact PySem.EqNone.ne_none_int (bC I q `s)
   |str j=>obtain⟨t',rfl⟩:=ry;exact PySem.EqNone.ne_none_str (bC I q `s)
   |_=>exact absurd (show false=true from hs) QP
 | bl i =>
   cases rx;cases y with
   |non=>cases ry;exact PySem.EqNone.ne_bool_none (bC I q `s)
   |bl j=>cases ry;exact ne_bool (bC I q (congrArg not Bx))
   |str j=>obtain⟨t',rfl⟩:=ry;exact PySem.EqMixed.ne_bool_str (bC I q `s)
   |_=>exact absurd (show false=true from hs) QP
 | int i =>
   obtain⟨t,rfl⟩:=rx;cases y with
   |non=>cases ry;exact PySem.EqNone.ne_int_none (bC I q `s)
   |int j=>obtain⟨t',rfl⟩:=ry;exact ne_int (bC I q (congrArg not xv))
   |str j=>obtain⟨t',rfl⟩:=ry;exact PySem.EqMixed.ne_int_str (bC I q `s)
   |_=>exact absurd (show false=true from hs) QP
 | str i =>
   obtain⟨t,rfl⟩:=rx;cases y with
   |non=>cases ry;exact PySem.EqNone.ne_str_none (bC I q `s)
   |bl j=>cases ry;exact PySem.EqMixed.ne_str_bool (bC I q `s)
   |int j=>obtain⟨t',rfl⟩:=ry;exact PySem.EqMixed.ne_str_int (bC I q `s)
   |str j=>obtain⟨t',rfl⟩:=ry;exact ne_str (bC I q (congrArg not oo))
   |_=>exact absurd (show false=true from hs) QP
 | byt i =>
   obtain⟨t,rfl⟩:=rx;cases y with
   |byt j=>obtain⟨t',rfl⟩:=ry;exact PySem.W.ne_bytes (bC I q (congrArg not xx))
   |_=>exact absurd (show false=true from hs) QP
 |_=>cases y<;>exact absurd (show false=true from hs) QP
def MN:bU X (compareOp .Lt) (r8 λi j=>.bl (decide (i<j))):=yn λ_ _ _ _ _ _ _ q=>lt_int q
def MO:bU X (compareOp .LtE) (r8 λi j=>.bl (decide (i<=j))):=yn λ_ _ _ _ _ _ _ q=>le_int q
def MP:bU X (compareOp .Gt) (r8 λi j=>.bl (decide (j<i))):=yn λ_ _ _ _ _ _ _ q=>gt_int q
def MQ:bU X (compareOp .GtE) (r8 λi j=>.bl (decide (j<=i))):=yn λ_ _ _ _ _ _ _ q=>ge_int q
def AM:bU X (compareOp .In) (λx y H Q=>∃i j,x=.str i/\y=.str j/\Q (.bl (!(Builtin.Str.occurrences j i 0 j.length 1).isEmpty)) H):=by
 intro pins s σ H x y v u Q I rx ry h;obtain⟨i,j,rfl,rfl,q⟩:=h;obtain⟨t,rfl⟩:=rx;obtain⟨t',rfl⟩:=ry;exact in_str (bC I q rfl)
def Kb:bU X (compareOp .Is) (λx y H Q=>y=.non/\Q (.bl (decide (x=.non))) H):=by
 intro pins s σ H x y v u Q I rx ry h;obtain⟨rfl,q⟩:=h;cases ry;refine is_none_gen (bC I q ?_);cases x<;>first
  |(cases rx;rfl)
  |(obtain⟨t,rfl⟩:=rx;rfl)
def Hf:bU X (compareOp .IsNot) (λx y H Q=>y=.non/\Q (.bl (!decide (x=.non))) H):=by
 intro pins s σ H x y v u Q I rx ry h;obtain⟨rfl,q⟩:=h;cases ry;refine isnot_none_gen (bC I q ?_);cases x<;>first
  |(cases rx;rfl)
  |(obtain⟨t,rfl⟩:=rx;rfl)
def uo:bU X (compareOp .NotIn) (λx y H Q=>∃i j,x=.str i/\y=.str j/\Q (.bl (!(!(Builtin.Str.occurrences j i 0 j.length 1).isEmpty))) H):=by
 intro pins s σ H x y v u Q I rx ry h;obtain⟨i,j,rfl,rfl,q⟩:=h;obtain⟨t,rfl⟩:=rx;obtain⟨t',rfl⟩:=ry;exact notIn_str (bC I q rfl)
def qP {op:CmpOp}{r:R2}(ho:bU X (compareOp op) r)(ha:PE X a ta)(hb:PE X b tb)(hm:behindInMarks op b=false):PE X (.Compare a [op] [b] pos) (zZ r ta tb):=by
 intro pins s σ H Q I h;exact wpAny_Compare1 (DY ha hb I h λv u s2 x y H2 I2 rx ry q=>ho pins s2 σ H2 x y v u Q I2 rx ry q) hm
noncomputable def EB (t:TE):TT:=λσ H Q=>t σ H λx H'=>∃k,x=.bl k/\Q k H'
def qL {op:CmpOp}{r:R2}(ho:bU X (compareOp op) r)(ha:PE X a ta)(hb:PE X b tb)(hm:behindInMarks op b=false):PT X (.Compare a [op] [b] pos) (EB (zZ r ta tb)):=by
 intro pins s σ H Q I h;refine wpAny_isTrue_Compare1 (aT (ha pins s σ H _ I h) λv s1 ⟨x,H1,I1,r1,q1⟩=>aT (hb pins s1 σ H1 _ I1 q1) λu s2 ⟨y,H2,I2,r2,q2⟩=>
  aT (ho pins s2 σ H2 x y v u _ I2 r1 r2 q2) λc s3 ⟨z,H3,I3,r3,k,e,q3⟩=>?_) hm
 subst e;cases r3;exact tqp ⟨H3,I3,q3⟩
noncomputable def tW (r r':R2)(ta tb tc:TE):TE:=λσ H Q=>ta σ H λx H1=>tb σ H1 λy H2=>r x y H2 λz H3=>∃k,z=.bl k/\
 (if k=true then tc σ H3 λw' H4=>r' y w' H4 Q else Q (.bl false) H3)
def CY {op op':CmpOp}{r r':R2}(ho:bU X (compareOp op) r)(ho':bU X (compareOp op') r')(ha:PE X a ta)(hb:PE X b tb)(hc:PE X c tc)
 (hm:lastMarks [op,op'] [b,c]=false:=by with_unfolding_all rfl):PE X (.Compare a [op,op'] [b,c] pos) (tW r r' ta tb tc):=by
 intro pins s σ H Q I h;refine Compare_chain (aT (ha pins s σ H _ I h) λv s1 ⟨x,H1,I1,r1,q1⟩=>chain_link (aT (hb pins s1 σ H1 _ I1 q1) λu s2 ⟨y,H2,I2,r2,q2⟩=>
  aT (ho pins s2 σ H2 x y v u _ I2 r1 r2 q2) λd s3 ⟨z,H3,I3,r3,k,e,q3⟩=>?_)) hm
 subst e;cases r3;refine tqp ?_;cases k with
 |false=>exact ite_ff {.bl false,H3,I3,rfl,q3}
 |true=>exact ite_tt (chain_last (aT (hc pins s3 σ H3 _ I3 q3) λw' s4 ⟨z',H4,I4,r4,q4⟩=>ho' pins s4 σ H4 y z' u w' Q I4 r2 r4 q4))
def CT {op op':CmpOp}{r r':R2}(ho:bU X (compareOp op) r)(ho':bU X (compareOp op') r')(ha:PE X a ta)(hb:PE X b tb)(hc:PE X c tc)
 (hm:lastMarks [op,op'] [b,c]=false:=by with_unfolding_all rfl):PT X (.Compare a [op,op'] [b,c] pos) (EB (tW r r' ta tb tc)):=by
 intro pins s σ H Q I h;refine isTrue_chain (aT (ha pins s σ H _ I h) λv s1 ⟨x,H1,I1,r1,q1⟩=>test_link (aT (hb pins s1 σ H1 _ I1 q1) λu s2 ⟨y,H2,I2,r2,q2⟩=>
  aT (ho pins s2 σ H2 x y v u _ I2 r1 r2 q2) λd s3 ⟨z,H3,I3,r3,k,e,q3⟩=>?_)) hm
 subst e;cases r3;refine tqp ?_;cases k with
 | false =>
   obtain⟨k',e',q'⟩:=q3;cases e';exact ite_ff ⟨H3,I3,q'⟩
 | true =>
   refine ite_tt (test_last (aT (hc pins s3 σ H3 _ I3 q3) λw' s4 ⟨z',H4,I4,r4,q4⟩=>aT (ho' pins s4 σ H4 y z' u w' _ I4 r2 r4 q4) λd' s5 ⟨z2,H5,I5,r5,k2,e2,q5⟩=>?_));subst e2;cases r5;exact tqp ⟨H5,I5,q5⟩
noncomputable def D4 (K:Qh)(x:V)(H:Hp)(k:Bool):Prop:=
 match x with
 |.non=>k=false
 |.bl b=>k=b
 |.int i=>k=(i != 0)
 |.str y=>y.length<=sizeLine/\k=((y.length:Int) != 0)
 |.byt y=>y.size<=sizeLine/\k=((y.size:Int) != 0)
 |.ref p=>(∃xs,cW K H p xs/\k=!xs.isEmpty)\/(∃xs,dQ K H p xs/\k=!xs.isEmpty)\/∃kvs,H p=some (.dK kvs)/\k=!kvs.isEmpty
 |_=>False
def yI {κ:Type}{kvs:List (κ×V)}{vs:List (κ×Qi)}(r:KV kvs vs):(!vs.isEmpty)=!kvs.isEmpty:=by
 cases r<;>rfl
def lX {xs:List V}{its:List Qi}(r:Vals xs its):(!its.toArray.isEmpty)=!xs.isEmpty:=by
 cases r<;>simp
def jD:(sizeLine:Nat)<2^63:=by rw[sizeLine_eq];decide
def Je:PN X (λx H Q=>∃k,D4 X.K x H k/\Q k H):=by
 intro pins s σ H x v Q I rx h;obtain⟨k,e,q⟩:=h;have hl:=jD;have hs:sizeLine=16777216:=sizeLine_eq;cases x with
 | non =>
   cases rx;have e':k=false:=e;subst e';exact truthy_none ⟨H,I,q⟩
 | bl b =>
   cases rx;have e':k=b:=e;subst e';exact tqp ⟨H,I,q⟩
 | int i =>
   obtain⟨t,rfl⟩:=rx;have e':k=(i != 0):=e;subst e';exact PySem.P.truthy_int ⟨H,I,q⟩
 | str y =>
   obtain⟨t,rfl⟩:=rx;obtain⟨hy,e'⟩:y.length<=sizeLine/\k=((y.length:Int) != 0):=e;subst e';exact PySem.P.truthy_str `a {H,I.tok _,q}
 | byt y =>
   obtain⟨t,rfl⟩:=rx;obtain⟨hy,e'⟩:y.size<=sizeLine/\k=((y.size:Int) != 0):=e;subst e';exact PySem.W.truthy_bytes `a {H,I.tok _,q}
 | ref p =>
   cases rx;have e':(∃xs,cW X.K H p xs/\k=!xs.isEmpty)\/(∃xs,dQ X.K H p xs/\k=!xs.isEmpty)\/∃kvs,H p=some (.dK kvs)/\k=!kvs.isEmpty:=e;rcases e' with⟨xs,hx,e'⟩|⟨xs,hx,e'⟩|⟨kvs,hx,e'⟩
   ·subst e';obtain⟨its,r,pl,hz⟩:=I.list hx;have hlen:=r.length;exact wpAny_truthy_list pl.isList (by simp only[Qy];omega) {H,I.tok _,by rw[lX r];exact q}
   ·subst e';obtain⟨its,r,pl,hz⟩:=I.tuple hx;have hlen:=r.length;exact truthy_tuple pl (by simp only[Qy];omega) {H,I.tok _,by rw[lX r];exact q}
   ·subst e';obtain⟨hz,hS,vs,r,m⟩:kvs.length<=sizeLine/\(p==sysModules)=false/\∃vs,KV kvs vs/\s.heap.DictOf (kZ X.prog X.w) p vs:=I.hok p _ hx;have hlen:kvs.length=vs.length:=Paired.length r;exact wpAny_truthy_dict hS m `a {H,I.tok _,by rw[yI r];exact q}
 |_=>exact(show False from e).elim
def CS (ha:PE X a ta)(he:∀whole,isTrue a X.env whole=(do let v <- whole;standAt a.pos;holding [v] (truthy v))) :
 PT X a (λσ H Q=>ta σ H λx H'=>∃k,D4 X.K x H' k/\Q k H'):=by
 intro pins s σ H Q I h;exact isTrue_plain (aT (ha pins s σ H _ I h) λv s1 ⟨x,H1,I1,r1,q1⟩=>Je pins s1 σ H1 x v Q I1 r1 q1) (he _)
def ym:bU X (binaryOp .Add) (λx y H Q=>∃i j,x=.str i/\y=.str j/\i.length+j.length<=sizeLine/\Q (.str (i++j)) H):=by
 intro pins s σ H x y v u Q I rx ry h;obtain⟨i,j,rfl,rfl,hz,q⟩:=h;obtain⟨t,rfl⟩:=rx;obtain⟨t',rfl⟩:=ry;exact add_str (λt' tk=>{.str (i++j),H,I.tok _,{_,rfl},q}) hz
def vals1 {x:V}{us:List Qi}(r:Vals [x] us):∃u,us=[u]/\RelV x u:=by
 cases r with
 |cons r1 r2=>cases r2;exact{_,rfl,r1}
def vals2 {x y:V}{us:List Qi}(r:Vals [x,y] us):∃u w',us=[u,w']/\RelV x u/\RelV y w':=by
 cases r with
 | cons r1 r2 =>
   cases r2 with
   |cons r3 r4=>cases r4;exact{_,_,rfl,r1,r3}
end
structure D8 (h:Heap) (x dx C:Addr) (mA:Str->Option Qi):Prop where
 obj:h.get? x=some (PySem.W.instObj C dx)
 ns:h.Ns1 dx mA
 ne:dx≠x
def A3 {h:Heap}{dx:Addr}{mA:Str->Option Qi}(n:h.Ns1 dx mA):∃od,h.get? dx=some od/\∀name,PySem.W.lookIn name od=some (mA name):=by
 obtain⟨o,es,ep,ho,hd,hk,_,hm⟩:=n;refine{o,ho,λname=>?_};have e:=hm name;unfold nsFind findBy at e;rw[<- Array.find?_toList] at e;unfold PySem.W.lookIn;rw[hd];dsimp only;split
 ·rename_i y q;rw[q] at e;exact congrArg some e
 ·rename_i q;rw[q] at e;have a:es.toList.any (·.refKey)=false:=by
   rw[List.any_eq_false];intro y hy;obtain⟨z,t,hkey⟩:=hk y (Array.mem_toList_iff.mp hy);simp[DictEntry.refKey,hkey]
  have a':¬ es.toList.any (·.refKey)=true:=by rw[a];exact QP
  rw[if_neg a'];exact congrArg some e
def D8.look {h:Heap}{x dx C:Addr}{mA:Str->Option Qi}(I:D8 h x dx C mA):∃od,PySem.W.InstAt h x (PySem.W.instObj C dx) C (some od)/\∀name,PySem.W.lookIn name od=some (mA name):=
 let⟨od,ho,hl⟩:=A3 I.ns
 {od,⟨I.obj,rfl,rfl,ho⟩,hl}
section
variable{P:Ra}{w:Rb}{H H':Hp}{h h':Heap}{a C dx:Addr}{fs fs':List (Str×V)}
def HE (hok:fb P w H h)(e:H a=some (.ins C dx fs)):∃mA,D8 h a dx C mA/\(∀f,D6 (fs.lookup f) (mA f))/\PySem.Within mA (fs.map (·.1))/\fs.length<=1000/\H dx=some (.own a):=by
 obtain⟨d,z,ne,ob,mA,n,r,q⟩:=(show cX P w H h a (.ins C dx fs) from hok a _ e);exact{mA,⟨ob,n,ne⟩,r,q,z,d}
end
structure xP (K:Qh) (C:Addr):Prop where
 pg:PySem.W.plainGet K C Str.empty=true
 hd:PySem.W.hasDictIn K C=true
 po:PySem.W.plainOver K C=true
 sa:PySem.W.findIn K (.ref C) "__setattr__"=some (some (.builtin "object.__setattr__"))
def xP.get {K:Qh}{C:Addr}(c:xP K C)(f:Str):PySem.W.plainGet K C f=true:=c.pg
noncomputable def Md (K:Qh)(C:Addr)(f:Str):Prop:=PySem.W.findIn K (.ref C) f=some none
structure Meth (K:Qh) (C:Addr) (m:Str) (f:Addr):Prop where
 at_:PySem.W.findIn K (.ref C) m=some (some (.ref f))
 fn:PySem.W.isFn K (.ref f)=true
 kp:PySem.W.keepIn K (.ref f)=true
section
variable{X:Cx}{pins:List (Addr×Obj)}{σ:St}{H:Hp}{s:Qm}{A:RR}{E:Qi->Qm->Prop}{Q:Qi->Qm->Prop}{c:Qi}{b:Bool}
inductive iV (K:Qh) (H:Hp):V->Qi->Prop where
 |non:iV K H .non (.type "NoneType")
 |bl (x:Bool):iV K H (.bl x) (.type "bool")
 |int (i:Int):iV K H (.int i) (.type "int")
 |str (x:Str):iV K H (.str x) (.type "str")
 |flt (x:UInt64):iV K H (.flt x) (.type "float")
 |lst {a:Addr}{xs:List V} (e:H a=some (.lst xs)):iV K H (.ref a) (.type "list")
 |frz {a:Addr}{o:Obj}{xs:List V} (e:H a=some (.frz o (.lst xs))):iV K H (.ref a) (.type "list")
 |tup {a:Addr}{xs:List V} (e:H a=some (.tup xs)):iV K H (.ref a) (.type "tuple")
 |dK {a:Addr}{kvs:List (Key×V)} (e:H a=some (.dK kvs)):iV K H (.ref a) (.type "dict")
 |dT {a:Addr}{kvs:List (List Key×V)} (e:H a=some (.dT kvs)):iV K H (.ref a) (.type "dict")
 |ins {a C dx:Addr}{fs:List (Str×V)} (e:H a=some (.ins C dx fs)) (cl:xP K C) (ha:PySem.W.findIn K (.ref C) "__class__"=some (some (.builtin "object.__class__")))
  (hn:PySem.W.specialIn K (.builtin "object.__class__") "__get__"=some (some (.builtin "getset_descriptor.__get__"))) (htk:PySem.W.takesIn K (.builtin "object.__class__")=some true)
  (hm:PySem.W.mroIn K C (.type "object")=some true):iV K H (.ref a) (.ref C)
def j8 {x:V}{u t:Qi}(I:Inv X pins σ H s)(rx:RelV x u)(ty:iV X.K H x t)(e:PySem.W.kitOne X.K t c=some b)(h:∀tk,Q (.bool b) {s with toks:=tk}) :
 wpAny (model X.prog X.w) A (call (.builtin "isinstance") [u,c]) Q E s:=by
 cases ty with
 |non=>cases (show u=Value.none from rx);exact RA PySem.W.kitx_none I.kIn True.intro e (λz=>nomatch z) h
 |bl y=>cases (show u=Value.bool y from rx);exact RA PySem.W.kitx_bool I.kIn True.intro e (λz=>nomatch z) h
 |int i=>obtain⟨t,q⟩:=(show ∃t,u=Value.int i t from rx);cases q;exact RA PySem.W.kitx_int I.kIn True.intro e (λz=>nomatch z) h
 |str y=>obtain⟨t,q⟩:=(show ∃t,u=Value.str y t from rx);cases q;exact RA PySem.W.kitx_str I.kIn True.intro e (λz=>nomatch z) h
 |flt y=>obtain⟨t,q⟩:=(show ∃t,u=Value.float y t from rx);cases q;exact RA PySem.W.kitx_float I.kIn True.intro e (λz=>nomatch z) h
 | @lst a xs ea =>
   cases (show u=Value.ref a from rx);obtain⟨_,_,n,_,h1⟩:=(show cX X.prog X.w H s.heap a (.lst xs) from I.hok a _ ea);exact RA PySem.W.kitx_list I.kIn {_,h1,rfl} e (λz=>nomatch z) h
 | @frz a ob xs ea =>
   cases (show u=Value.ref a from rx);obtain⟨_,_,_,n,_,h1⟩:=(show cX X.prog X.w H s.heap a (.frz ob (.lst xs)) from I.hok a _ ea);exact RA PySem.W.kitx_list I.kIn {_,h1,rfl} e (λz=>nomatch z) h
 | @tup a xs ea =>
   cases (show u=Value.ref a from rx);obtain⟨_,_,_,p⟩:=(show cX X.prog X.w H s.heap a (.tup xs) from I.hok a _ ea);obtain⟨o,h1,h2,_⟩:=p;exact RA PySem.W.kitx_tuple I.kIn ⟨o,h1,h2⟩ e (λz=>nomatch z) h
 | @dK a kvs ea =>
   cases (show u=Value.ref a from rx);obtain⟨_,_,vs,_,p⟩:=(show cX X.prog X.w H s.heap a (.dK kvs) from I.hok a _ ea);obtain⟨o,es,ep,h1,h2,_⟩:=p;exact RA PySem.W.kitx_dict I.kIn ⟨o,h1,h2.1⟩ e (λz=>nomatch z) h
 | @dT a kvs ea =>
   cases (show u=Value.ref a from rx);obtain⟨_,_,xs,_,o,es,ep,h1,h2,_⟩:=(show cX X.prog X.w H s.heap a (.dT kvs) from I.hok a _ ea);exact RA PySem.W.kitx_dict I.kIn ⟨o,h1,h2.1⟩ e (λz=>nomatch z) h
 | @ins a C dx fs ea cl ha hn htk hm =>
   cases (show u=Value.ref a from rx);obtain⟨mA,O,_⟩:=HE I.hok ea;obtain⟨od,J,_⟩:=O.look;exact RA (PySem.W.kitx_own (cl.get _) cl.hd ha hn htk hm) I.kIn J e (λz=>nomatch z) h
end
structure dH (k:Nat) (A:RR):Prop where
 hd:A.handled=none
 dp:A.depth+3*k+5<recursionLimit
 un:A.units+16*k+200<cLine
 gd:A.guards=some []
def dH.mono {j k:Nat}{A:RR}(r:dH k A)(h:j<=k):dH j A:={r.hd,by have:=r.dp;omega,by have:=r.un;omega,r.gd}
def dH.deeper {k:Nat}{A:RR}(r:dH (k+1) A)(env:Env):dH k (A.deeper env):=
 {r.hd,by have:=r.dp;show A.depth+1+3*k+5<_;omega,by have:=r.un;show A.units+3+16*k+200<_;omega,r.gd}
def dH.depth {k:Nat}{A:RR}(r:dH k A):A.depth<recursionLimit:=by have:=r.dp;omega
def dH.units {k:Nat}{A:RR}(r:dH k A):A.units+64<cLine:=by have:=r.un;omega
noncomputable def OJ:TA:=λ_ H Q=>Q [] H
noncomputable def My (ta:TE)(tr:TA):TA:=λσ H Q=>ta σ H λx H1=>tr σ H1 λxs H2=>Q (x::xs) H2
section
variable{X:Cx}{e:Expr}{es:List Expr}{te:TE}{t:TA}{pos:Pos}
def eI:PA X [] OJ:=λ_ _ _ _ H Q I h=>Calls.spliced_nil {[],H,I,.nil,h}
def c7 (ha:PE X e te)(hr:PA X es t)(hs:starEach (e::es) X.env=(false,eval e X.env)::starEach es X.env:=by rfl):PA X (e::es) (My te t):=by
 intro pos pins s σ H Q I h;rw[hs];show wpAny _ _ (spliced ((false,eval e X.env)::backTo pos (starEach es X.env))) _ _ s;refine Calls.spliced_cons (aT (ha pins s σ H _ I h) λu s1 ⟨x,H1,I1,r1,q1⟩=>?_);exact aT (hr pos pins s1 σ H1 _ I1 q1) λus s2 ⟨xs,H2,I2,r2,q2⟩=>{x::xs,H2,I2,.cons r1 r2,q2}
noncomputable def OF (t:TA):TE:=λσ H Q=>t σ H λxs H1=>xs.length<=sizeLine/\∀p,H1 p=none->Q (.ref p) (upd H1 p (.tup xs))
noncomputable def OK (t:TA):TE:=λσ H Q=>t σ H λxs H1=>xs.length<=sizeLine/\∀p,H1 p=none->Q (.ref p) (upd H1 p (.lst xs))
def JY {x1}(h:PA X es t):PE X (.Tuple es x1 pos) (OF t):=by
 intro pins s σ H Q I hq;refine wpAny_Tuple_spliced (aT (h pos pins s σ H _ I hq) λus s1 ⟨xs,H1,I1,r,z,q⟩=>{by rw[<- r.length];exact z,?_})
 have hf:H1 s1.heap.objs.size=none:=I1.hok.fresh (Ql _);refine{.ref s1.heap.objs.size,upd H1 s1.heap.objs.size (.tup xs),I1.laid (t':=s1.toks) (λb u e=>Qk _ e) (Ql _) ?_,rfl,q _ hf};exact{z,us,r,{_,QG _ rfl,rfl,_,rfl}}
def J4 (h:PA X es t):PE X (.List es pos) (OK t):=by
 intro pins s σ H Q I hq;refine wpAny_List_spliced (aT (h pos pins s σ H _ I hq) λus s1 ⟨xs,H1,I1,r,z,q⟩=>{by rw[<- r.length];exact z,?_})
 have hf:H1 s1.heap.objs.size=none:=I1.hok.fresh (Ql _);refine{.ref s1.heap.objs.size,upd H1 s1.heap.objs.size (.lst xs),I1.laid (t':=s1.toks) (λb u e=>Qk _ e) (Ql _) ?_,rfl,q _ hf};exact{z,us,0,r,QG _ rfl}
end
abbrev Sp:=List V->Hp->VK->XK->Prop
abbrev oQ:=List Env->Hp->Qm->XK->Qi->Qm->Prop
structure zm (P:Ra) (w:Rb) (K:Qh) (mg:Str->Option Qi) (base:Heap) (A:RR) (outer:List Env) (s:Qm) (H:Hp):Prop where
 frames:A.frames=some outer
 mod:Mod K mg base
 bs:∀b o,base.get? b=some o->s.heap.get? b=some o/\H b=none
 bsz:base.objs.size<=s.heap.objs.size
 funs:s.heap.FunFrames base outer
 frf:∀b∈ib outer,H b=none
 hok:fb P w H s.heap
 bare:AllBare s.gens
noncomputable def CE (outer:List Env)(P:Ra)(w:Rb)(H:Hp)(s:Qm)(Q:VK)(u:Qi)(s':Qm):Prop:=
 ∃v H',s'.os=s.os/\AllBare s'.gens/\Un (ib outer) [] H H' s.heap s'.heap/\fb P w H' s'.heap/\RelV v u/\Q v H'
noncomputable def CR (CX:oQ)(outer:List Env)(P:Ra)(w:Rb)(H:Hp)(s:Qm)(Q:VK)(E:XK)(r:Result)(s':Qm):Prop:=
 match r with
 |.ok (.ret u)=>CE outer P w H s Q u s'
 |.ok _=>False
 |.error e=>CX outer H s E e s'
structure mB (P:Ra) (w:Rb) (K:Qh) (mg:Str->Option Qi) (base:Heap) (CX:oQ) (k:Nat) (f:Addr) (fd:FuncData) (ps:List Str) (sp:Sp):Prop where
 len:∀vs H Q E,sp vs H Q E->vs.length=ps.length
 run:∀(A:RR) (outer:List Env) (s:Qm) (H:Hp) (args:Args) (us:List Qi) (vs:List V) (Q:VK) (E:XK),dH k A->zm P w K mg base A outer s H->BindsTo s fd args (ps.zip us)->Vals vs us->sp vs H Q E->
  codeAny (model P w) A (.call (.ref f) args) (CR CX outer P w H s Q E) s
section
variable{X:Cx}{pins:List (Addr×Obj)}{σ:St}{H:Hp}{s s':Qm}
def Inv.env0 (I:Inv X pins σ H s):zm X.prog X.w X.K X.mg X.base X.A X.stack s H:=
 {I.ok.frames,I.ok.mod,I.bs,Qp I.ok.bsz I.sz,I.stack,I.stkFree,I.hok,I.bare}
def Inv.after {Q:VK}{u:Qi}(I:Inv X pins σ H s)(h:CE X.stack X.prog X.w H s Q u s'):EP X pins σ Q u s':=by
 obtain⟨v,H',os,bare,un,hok,r,q⟩:=h;obtain⟨hh,g,d,t,os'⟩:=s';obtain rfl:os'=s.os:=os;exact{v,H',I.call (h':=hh) (g':=g) (d':=d) (t':=t) (ch:=[]) un hok bare (λb z=>absurd z `s),r,q}
end
noncomputable def ED (sp:Sp)(dvs:List V)(E:XK)(t:TA):TE:=λσ H Q=>t σ H λvs H1=>sp (vs++dvs) H1 Q E
noncomputable def Binds (K:Qh)(fd:FuncData)(ps:List Str)(ds:List Qi):Prop:=
 ∀(s:Qm) (us:List Qi),K.In s.heap->(us++ds).length=ps.length->BindsTo s fd {us,[]} (ps.zip (us++ds))
def Binds.all {K:Qh}{fd:FuncData}{ps:List Str}(h:∀us:List Qi,us.length=ps.length->bindArgs fd {us,[]}=pure (ps.zip us)):Binds K fd ps []:=λs us _ hl=>by
 rw[Ri] at hl ⊢;exact .of_eq (h us hl)
noncomputable def Passes (CX:oQ)(X:Cx)(E:XK):Prop:=∀(pins:List (Addr×Obj)) (σ:St) (H:Hp) (s:Qm) (e:Qi) (s':Qm),Inv X pins σ H s->CX X.stack H s E e s'->X.xe e s'
section
variable{X:Cx}{CX:oQ}{k:Nat}{f C:Addr}{fd:FuncData}{ps:List Str}{sp:Sp}{dvs:List V}{ds:List Qi}{E:XK}{x m:Str}{p pos apos:Pos}{e o:Expr}{es:List Expr}{ta:TE}{t:TA}
def Aw {pins:List (Addr×Obj)}{σ:St}{H:Hp}{s:Qm}{Q:VK}{us:List Qi}{vs:List V}(F:mB X.prog X.w X.K X.mg X.base CX k f fd ps sp)(hr:dH k X.A)(hb:Binds X.K fd ps ds)(hd:Vals dvs ds)(hx:Passes CX X E)
 (I:Inv X pins σ H s) (r:Vals vs us) (h:sp (vs++dvs) H Q E):wpAny (model X.prog X.w) X.A (call (.ref f) us) (EP X pins σ Q) X.xe s:=by
 have r2:Vals (vs++dvs) (us++ds):=r.append hd;have hl:(us++ds).length=ps.length:=by rw[<- r2.length];exact F.len _ _ _ _ h
 refine wpAny_call (codeAny_mono (F.run X.A X.stack s H {us,[]} (us++ds) (vs++dvs) Q E hr I.env0 (hb s us I.kIn hl) r2 h) λr s' hq=>?_);cases r with
 |error e=>exact hx pins σ H s e s' I hq
 | ok fl =>
   cases fl with
   |ret u=>exact I.after hq
   |next=>exact False.elim hq
   |brk=>exact False.elim hq
   |cont=>exact False.elim hq
def Hb (F:mB X.prog X.w X.K X.mg X.base CX k f fd ps sp)(hr:dH k X.A)(hg:Gl X x)(hm:X.mg x=some (.ref f))(hk:PySem.W.keepIn X.K (.ref f)=true)(hb:Binds X.K fd ps ds)(hd:Vals dvs ds)(hx:Passes CX X E)
 (ha:PA X (e::es) t) (hdb:(x==("__debug__":Str))=false:=by decide) (he:starEach (e::es) X.env=(false,eval e X.env)::starEach es X.env:=by rfl) (hpl:(backTo pos (starEach es X.env)).any (·.1)=false:=by rfl) :
 PE X (.Call (.Name x p) (e::es) [] pos) (ED sp dvs E t):=by
 intro pins s σ H Q I h;refine wpAny_Call_Name_kw (lg I hg hm ?_ hdb);refine PySem.W.callWith_K (h₀:=X.base) I.ok.mod.kin hk (aT (ha pos pins s σ H _ I h) λus s1 ⟨vs,H1,I1,r,q⟩=>{I1.kIn,?_}) he hpl;exact Aw F hr hb hd hx I1 r q
structure Mk (K:Qh) (C f:Addr):Prop where
 makes:PySem.W.makesIn K C=true
 init:PySem.W.findIn K (.ref C) "__init__"=some (some (.ref f))
 fn:PySem.W.isFn K (.ref f)=true
 kp:PySem.W.keepIn K (.ref C)=true
end
structure jv (N P:List Str) (sc:Scope):Prop where
 kind:sc.kind=.function
 co:sc.isCoroutine=false
 gen:sc.isGenerator=false
 nd:N.Nodup
 pre:N.take P.length=P
 par:∀x∈P,sc.names.lookup x=some .local\/sc.names.lookup x=some .cell
 nofree:∀y∈sc.names,y.2≠.free
def sM {kindOf:Str->Option NameKind}{x:Str}:∀{binds:List (Str×Qi)}{m:Str->Option Qi},(∀v,(x,v)∉binds)->bindL kindOf binds m x=m x
 |[],_,_=>rfl
 | (n, v) :: r, m, h => by
   unfold bindL;rw[sM λw hw=>h w (Qz _ hw)];split
   ·have:x≠n:=by rintro rfl;exact h v QK
    simp[this]
   ·rfl
def sP {kindOf:Str->Option NameKind}{x:Str}:∀{binds:List (Str×Qi)}{m:Str->Option Qi},(∀v,(x,v)∉binds)->bindC kindOf binds m x=m x
 |[],_,_=>rfl
 | (n, v) :: r, m, h => by
   unfold bindC;rw[sP λw hw=>h w (Qz _ hw)];split
   ·rfl
   ·have:x≠n:=by rintro rfl;exact h v QK
    simp[this]
def sO {kindOf:Str->Option NameKind}{x:Str}{v:Qi}:∀{P:List Str}{vs:List Qi}{i:Nat}{m:Str->Option Qi},P.Nodup->P[i]?=some x->vs[i]?=some v->kindOf x=some .local->
 bindL kindOf (P.zip vs) m x=some v
 |[],_,_,_,_,h,_,_=>by simp at h
 |_::_,[],_,_,_,_,h,_=>by simp at h
 | p :: P, w :: vs, 0, m, nd, h1, h2, hk => by
   simp at h1 h2;subst h1;subst h2;show bindL kindOf ((p,w)::P.zip vs) m p=_;unfold bindL;rw[sM λv hv=>(Rx.mp nd).1 (List.of_mem_zip hv).1,if_pos hk];simp
 | p :: P, w :: vs, i + 1, m, nd, h1, h2, hk => by
   show bindL kindOf ((p,w)::P.zip vs) m x=_;unfold bindL;exact sO (i:=i) (Rx.mp nd).2 (by simpa using h1) (by simpa using h2) hk
def sQ {kindOf:Str->Option NameKind}{x:Str}{v:Qi}:∀{P:List Str}{vs:List Qi}{i:Nat}{m:Str->Option Qi},P.Nodup->P[i]?=some x->vs[i]?=some v->kindOf x≠some .local->
 bindC kindOf (P.zip vs) m x=some v
 |[],_,_,_,_,h,_,_=>by simp at h
 |_::_,[],_,_,_,_,h,_=>by simp at h
 | p :: P, w :: vs, 0, m, nd, h1, h2, hk => by
   simp at h1 h2;subst h1;subst h2;show bindC kindOf ((p,w)::P.zip vs) m p=_;unfold bindC;rw[sP λv hv=>(Rx.mp nd).1 (List.of_mem_zip hv).1,if_neg hk];simp
 | p :: P, w :: vs, i + 1, m, nd, h1, h2, hk => by
   show bindC kindOf ((p,w)::P.zip vs) m x=_;unfold bindC;exact sQ (i:=i) (Rx.mp nd).2 (by simpa using h1) (by simpa using h2) hk
noncomputable def start (N:List Str)(vs:List V):St:=vs.map some++List.replicate (N.length-vs.length) none
noncomputable def gH (CX:oQ)(P:Ra)(w:Rb)(K:Qh)(mg:Str->Option Qi)(base:Heap)(N:List Str)(qual:Str)(scope:Scope)(f:Addr)(cd:Qi)(A:RR)(outer:List Env)(s:Qm)(H:Hp)(E:XK):Cx where
 prog:=P
 w:=w
 K:=K
 mg:=mg
 base:=base
 A:=A.deeper (envOfC qual scope s.heap.objs.size f cd)
 N:=N
 s₀:=s
 H₀:=H
 env:=envOfC qual scope s.heap.objs.size f cd
 outer:=outer
 stack:=envOfC qual scope s.heap.objs.size f cd::outer
 ex:=[]
 calm:=true
 fn:=λ_=>true
 pn:=[]
 xe:=λe s'=>wpAny (model P w) (A.deeper (envOfC qual scope s.heap.objs.size f cd)) (leaving (envOfC qual scope s.heap.objs.size f cd) e) (λ_ s''=>CX outer H s E e s'') (λe' s''=>CX outer H s E e' s'') s'
def vo {sc:Scope}{n:Nat}{x:Str}(h:sc.names.lookup x=some .cell):∃c,(cellsFrom n sc.names []).lookup x=some c:=by
 have q:=PySem.W.cellsFrom_some sc.names n [] (.inl h);exact Option.isSome_iff_exists.mp q
def Bl {CX:oQ}{P:Ra}{w:Rb}{K:Qh}{mg:Str->Option Qi}{base:Heap}{N ps:List Str}{qual:Str}{scope:Scope}{f:Addr}{cd:Qi}{A:RR}{outer:List Env}{s s1:Qm}{H:Hp}{E:XK}{us:List Qi}{vs:List V}
 (S:jv N ps scope) (hd:A.handled=none) (e0:zm P w K mg base A outer s H) (hl:vs.length=ps.length) (r:Vals vs us)
 (x:InCallC s s.heap.objs.size (bindL (envOfC qual scope s.heap.objs.size f cd).kindOf (ps.zip us) λ_=>none) (cellsFrom (s.heap.objs.size+1) scope.names []) (bindC (envOfC qual scope s.heap.objs.size f cd).kindOf (ps.zip us) λ_=>none) s1) :
 Inv (gH CX P w K mg base N qual scope f cd A outer s H E) [] (start N vs) H s1:=by
 have hpl:ps.length<=N.length:=by have:=congrArg List.length S.pre;rw[RX] at this;omega
 obtain⟨h1,tk,rfl,hk⟩:=x.done;have noA:∀b:Addr,b∉(gH CX P w K mg base N qual scope f cd A outer s H E).ex:=λb z=>absurd (show b∈([]:List Addr) from z) `s
 refine{{e0.mod,S.kind,rfl,rfl,Ql _,λy z c h1 h2=>?_,λy hy=>?_,λy c _ h=>?_,λ_=>hd,Around.frames_deeper e0.frames,.inr ⟨rfl,rfl⟩,λb z=>absurd z (noA b),e0.bs,e0.bsz,λb _ _=>noA b,λb z=>absurd z (noA b),e0.funs,e0.frf},
  rfl,e0.bare,Un.kept hk,{_,x.toInCall.ns,λi y v h1 h2 h3=>?_},λy c h=>{_,x.cell y c h},e0.hok.fresh (Ql _),λy c h=>?_,λp hp=>absurd (show p∈([]:List (Addr×Obj)) from hp) `s,e0.hok.kept hk,?_}
 ·exact name_of_addr x.apart (SG h1) (SG h2)
 ·have hy:scope.names.lookup y=some .cell\/scope.names.lookup y=some .free:=hy;rcases hy with hy|hy
  ·exact vo hy
  ·exact absurd rfl (S.nofree _ (SG hy))
 ·exact So (x.above y c (SG h))
 ·have hi:i<vs.length:=by
   unfold start at h2;by_cases hi:i<vs.length
   ·exact hi
   ·rw[Q0 (by simpa using hi)] at h2
    rw[Ss] at h2;split at h2<;>cases h2
  have ha:vs[i]?=some v:=by
   unfold start at h2;rw[Qn (by simpa using hi),QC] at h2
   cases e:vs[i]? with
   |none=>rw[e] at h2;cases h2
   |some a=>rw[e] at h2;cases h2;rfl
  obtain⟨u,hu,rv⟩:=r.get ha;have hp:ps[i]?=some y:=by
   rw[<- S.pre,List.getElem?_take_of_lt `a];exact h1
  have ndP:ps.Nodup:=by rw[<- S.pre];exact S.nd.sublist (List.take_sublist _ _)
  refine{u,rv,?_};rcases S.par y (QR hp) with k|k
  ·exact .inl {k,sO ndP hp hu k}
  ·obtain⟨c,e⟩:=vo (n:=s.heap.objs.size+1) k;refine .inr {.inl k,c,e,?_};have q:=x.cell y c e;rw[sQ ndP hp hu (by show scope.names.lookup y≠_;rw[k];decide)] at q
   exact q
 ·exact e0.hok.fresh (So (x.above y c (SG h)))
 ·unfold start;show _=N.length;rw[QO,Qf,List.length_replicate];omega
def Ng {CX:oQ}{P:Ra}{w:Rb}{K:Qh}{mg:Str->Option Qi}{base:Heap}{k:Nat}{f:Addr}{name qual:Str}{params:Arguments}{body:List Stmt}{scope:Scope}{dV kV doc pm cdv ct oc:Qi}{an od:Option Addr}
 {osl:Array (Option Qi)}{N ps:List Str}{sp:Sp} (lk:K.lookup f=some {oc,od,.func (PySem.W.fnOf name qual params body scope dV kV doc pm an cdv ct),osl}) (hcd:PySem.W.codeIn K cdv qual=true) (S:jv N ps scope)
 (len:∀vs H Q E,sp vs H Q E->vs.length=ps.length)
 (hbody:∀(A:RR) (outer:List Env) (s:Qm) (H:Hp) (vs:List V) (Q:VK) (E:XK),dH k (A.deeper (envOfC qual scope s.heap.objs.size f cdv))->sp vs H Q E->
  ∃t,lD (gH CX P w K mg base N qual scope f cdv A outer s H E) body t/\t {nx:=λ_ H'=>Q .non H',rt:=Q} (start N vs) H) :
 mB P w K mg base CX (k+1) f (PySem.W.fnOf name qual params body scope dV kV doc pm an cdv ct) ps sp:=by
 refine{len,λA outer s H args us vs Q E hr e0 hb r hsp=>?_};have hl:=len _ _ _ _ hsp;have KX:K.In s.heap:=e0.mod.kin.keeps λb o e=>(e0.bs b o e).1;have lim:s.heap.NoLimit:=e0.mod.nolimit.keeps λb o e=>(e0.bs b o e).1;have hkind:∀y∈ps.zip us,scope.names.lookup y.1=some .local\/(scope.names.lookup y.1=some .cell/\((cellsFrom (s.heap.objs.size+1) scope.names []).lookup y.1).isSome=true):=λ⟨n,v⟩ hy=>by
  rcases S.par n (List.of_mem_zip hy).1 with q|q
  ·exact .inl q
  ·exact .inr {q,PySem.W.cellsFrom_some _ _ _ (.inl q)}
 refine codeAny_call_function hr.depth (KX _ _ lk) rfl S.co S.gen rfl (PySem.W.codeRec_of KX hcd) (hb _ _ _ _ ?_);refine wpAny_newFunctionEnv_cells S.kind hkind λenv he s1 x=>?_;subst he;refine{lim.keeps x.toInCall.keep,codeAny_func ?_};obtain⟨t,ht,hq⟩:=hbody A outer s H vs Q E (hr.deeper _) hsp;have I:Inv (gH CX P w K mg base N qual scope f cdv A outer s H E) [] (start N vs) H s1:=Bl S hr.hd e0 hl r x;refine wpAny_mono (ht [] s1 (start N vs) H _ I hq) (λfl s' hs=>?_) λe s' hs=>hs;have fin:∀{σ':St}{H':Hp}{v:V}{u:Qi},Inv (gH CX P w K mg base N qual scope f cdv A outer s H E) [] σ' H' s'->RelV v u->Q v H'->CE outer P w H s Q u s':=
  λ{σ' H' v u} J rv q=>⟨v,H',J.os,J.bare,J.base,J.hok,rv,q⟩
 cases fl with
 | ret u =>
   obtain⟨v,σ',H',J,rv,q⟩:=hs;exact fin J rv q
 | next =>
   obtain⟨σ',H',J,q⟩:=hs;exact fin (v:=V.non) (u:=Value.none) J rfl q
 | brk =>
   obtain⟨_,_,_,q⟩:=hs;exact False.elim q
 | cont =>
   obtain⟨_,_,_,q⟩:=hs;exact False.elim q
section
variable{X:Cx}{x:Str}{p pos:Pos}{e:Expr}{es:List Expr}{t:TA}{id T:String}{r:List V->Hp->VK->Prop}
noncomputable def N8 (r:List V->Hp->VK->Prop)(t:TA):TE:=λσ H Q=>t σ H λvs H1=>r vs H1 Q
def lP (hc:cY X (.builtin id) r)(hg:Gl X x)(hm:X.mg x=none)(hv:bootBuiltins x=some (.builtin id))(ha:PA X (e::es) t)(hn:x≠"__name__":=by decide)(hdb:(x==("__debug__":Str))=false:=by decide)
 (he:starEach (e::es) X.env=(false,eval e X.env)::starEach es X.env:=by rfl) (hpl:(backTo pos (starEach es X.env)).any (·.1)=false:=by rfl):PE X (.Call (.Name x p) (e::es) [] pos) (N8 r t):=by
 intro pins s σ H Q I h;refine wpAny_Call_Name_kw (hJ I hg hm hv ?_ hn hdb);exact PyProof.Rows.callWith_builtin1 (aT (ha pos pins s σ H _ I h) λus s1 ⟨vs,H1,I1,r1,q1⟩=>hc pins s1 σ H1 vs us Q I1 r1 q1) he hpl
def se (hc:cY X (.type T) r)(hg:Gl X x)(hm:X.mg x=none)(hv:bootBuiltins x=some (.type T))(ha:PA X (e::es) t)(hn:x≠"__name__":=by decide)(hdb:(x==("__debug__":Str))=false:=by decide)
 (he:starEach (e::es) X.env=(false,eval e X.env)::starEach es X.env:=by rfl) (hpl:(backTo pos (starEach es X.env)).any (·.1)=false:=by rfl):PE X (.Call (.Name x p) (e::es) [] pos) (N8 r t):=by
 intro pins s σ H Q I h;refine wpAny_Call_Name_kw (hJ I hg hm hv ?_ hn hdb);exact RY (aT (ha pos pins s σ H _ I h) λus s1 ⟨vs,H1,I1,r1,q1⟩=>hc pins s1 σ H1 vs us Q I1 r1 q1) he hpl
end
end L2
namespace HT
open PySem PyProof.Rows
section
variable{prog:Ra}{w:Rb}{A:RR}{E:Qi->Qm->Prop}{s:Qm}
def Il {t b:Addr}{vs ws:List Qi}{Q:Qi->Qm->Prop}(ht:IsTup s.heap t vs.toArray)(hb:IsTup s.heap b ws.toArray)(hv:vs≠[])
 (h1:ws=[]->Q (.ref t) s) (h2:ws≠[]->Q (.ref s.heap.objs.size) {s with heap:=s.heap.push {cls:=.type "tuple",data:=.seq (vs++ws).toArray}})
 (hsz:vs.length+ws.length<=sizeLine):wpAny (model prog w) A (binaryOp .Add (.ref t) (.ref b)) Q E s:=by
 obtain⟨⟨cls,dd,data,sl⟩,ho,hc,n,hd⟩:=id ht;obtain⟨⟨cls2,dd2,data2,sl2⟩,ho2,hc2,n2,hd2⟩:=id hb;simp only at hc hd hc2 hd2;subst hc hd hc2 hd2;have e:vs.toArray++ws.toArray=(vs++ws).toArray:=`s
 by_cases hw:ws=[]
 ·exact concat_meets {_,ho,rfl} {_,ho2,rfl} noFill_tuple_add seq_tuple_add PySem.F.slot_tuple_add PySem.F.entry_tuple_add (PySem.F.args_tuple_add_2 _ _)
   (tuple_addW1 t b vs.toArray ws.toArray n n2 dd dd2 sl sl2 (by simpa using hv) (by simp[hw])) {ho,ho2,h1 hw}
 ·refine concat_meets {_,ho,rfl} {_,ho2,rfl} noFill_tuple_add seq_tuple_add PySem.F.slot_tuple_add PySem.F.entry_tuple_add (PySem.F.args_tuple_add_2 _ _)
   (tuple_addW2 t b vs.toArray ws.toArray n n2 dd dd2 sl sl2 (by simpa using hv) (by simpa using hw) (by rw[Qy,Qy];exact hsz)) {ho,ho2,?_}
  rw[e];exact h2 hw
noncomputable def aS (n d:Nat):Option Int->Nat
 |none=>d
 |some v=>if v<0 then(v+(n:Int)).toNat else min v.toNat n
def JA (n d:Nat)(hd:d<=n)(o:Option Int):aS n d o<=n:=by
 cases o with
 |none=>exact hd
 | some v =>
   show(if v<0 then(v+(n:Int)).toNat else min v.toNat n)<=n;by_cases hv:v<0
   ·rw[if_pos hv];omega
   ·rw[if_neg hv];exact Nat.min_le_right _ _
def xD (v:Int)(n d:Nat):(if v<0 then max (v+(n:Int)) 0 else min v (n:Int))=((aS n d (some v):Nat):Int):=by
 show(if v<0 then max (v+(n:Int)) 0 else min v (n:Int))=(((if v<0 then(v+(n:Int)).toNat else min v.toNat n):Nat):Int);by_cases hv:v<0
 ·simp only[if_pos hv];omega
 ·simp only[if_neg hv];omega
def yY (lo hi:Option Int)(n:Nat):Builtin.Slice.sliceAdjust lo hi 1 (n:Int)=(((aS n 0 lo:Nat):Int),((aS n n hi:Nat):Int)):=by
 have h1:¬ ((1:Int)<0):=`a
 unfold Builtin.Slice.sliceAdjust;simp only[h1,if_false];refine Prod.ext ?_ ?_
 ·cases lo with
  |none=>rfl
  |some v=>exact xD v n 0
 ·cases hi with
  |none=>rfl
  |some v=>exact xD v n n
def yg (i j:Nat):Builtin.Slice.slicePlaces (i:Int) (j:Int) 1=j-i:=by
 unfold Builtin.Slice.slicePlaces;have h1:(1:Int) > 0:=`a
 simp only[h1,if_true,Int.ediv_one];split<;>omega
def pX {v:Qi}{o:Option Int}{Q:Option Int->Qm->Prop}(p:IsPart v o)(h:Q o s):wpAny (model prog w) A (Builtin.Slice.slicePartIndex v) Q E s:=by
 cases p with
 |none=>exact slicePart_none h
 |int i t=>exact slicePart_int h
def jx {sl:Addr}{vl vu:Qi}{lo hi:Option Int}{n:Nat}{Q:Int×Int×Nat->Qm->Prop}(hs:s.heap.IsSliceOf sl vl vu .none)(pl:IsPart vl lo)(pu:IsPart vu hi)
 (h:Q (((aS n 0 lo:Nat):Int),1,aS n n hi-aS n 0 lo) s):wpAny (model prog w) A (Builtin.Slice.sliceApplied (.ref sl) (pure (n:Int))) Q E s:=by
 obtain⟨os,hos,hcs,hds⟩:=id hs;unfold Builtin.Slice.sliceApplied Builtin.Slice.sliceFields;refine tqa (tqa (tqf hos hds (x:=vl) rfl (tqa (tqf hos hds (x:=vu) rfl (tqa (tqf hos hds (x:=.none) rfl (tqb ?_)))))));refine tqa (slicePart_none ?_);show wpAny _ _ (if ((1:Int)==0)=true then _ else _) _ _ s;rw[if_neg `d]
 refine tqa (pX pl (tqa (pX pu (tqa (tqb ?_)))));show wpAny _ _ (match Builtin.Slice.sliceAdjust lo hi 1 (n:Int) with|(lo,hi)=>pure (lo,(1:Int),Builtin.Slice.slicePlaces lo hi 1)) _ _ s
 rw[yY lo hi n];show wpAny _ _ (pure (((aS n 0 lo:Nat):Int),(1:Int),Builtin.Slice.slicePlaces ((aS n 0 lo:Nat):Int) ((aS n n hi:Nat):Int) 1)) _ _ s;rw[yg];exact tqb h
def CV (xs:Array Qi)(i k:Nat):((List.range k).filterMap λ(m:Nat)=>xs[((i:Int)+(m:Int)*1).toNat]?).toArray=((xs.toList.drop i).take k).toArray:=by
 have e:(λ(m:Nat)=>xs[((i:Int)+(m:Int)*1).toNat]?)=λm=>xs[i+m]?:=by
  funext m
  have:((i:Int)+(m:Int)*1).toNat=i+m:=`a
  rw[this]
 rw[e];have:=pick_run xs i k;rw[List.filterMap_map] at this;have e2:((λx=>xs[x]?)∘λx=>i+x)=λm=>xs[i+m]?:=rfl;rw[e2] at this;rw[this]
def oG {t sl:Addr}{items:Array Qi}{vl vu:Qi}{lo hi:Option Int}{Q:Qi->Qm->Prop}(ht:IsTup s.heap t items)(hs:s.heap.IsSliceOf sl vl vu .none)(pl:IsPart vl lo)(pu:IsPart vu hi)
 (hw:¬ (aS items.size 0 lo=0/\aS items.size items.size hi=items.size))
 (h:Q (.ref s.heap.objs.size) {s with heap:=s.heap.push {cls:=.type "tuple",data:=.seq ((items.toList.drop (aS items.size 0 lo)).take (aS items.size items.size hi-aS items.size 0 lo)).toArray}})
 (hsz:items.size<=sizeLine):wpAny (model prog w) A (getItem (.ref t) (.ref sl)) Q E s:=by
 have htake:sizeOk (.seq ((items.toList.drop (aS items.size 0 lo)).take (aS items.size items.size hi-aS items.size 0 lo)).toArray):=by
  show((items.toList.drop (aS items.size 0 lo)).take (aS items.size items.size hi-aS items.size 0 lo)).toArray.size<=sizeLine;rw[Qy,RX,List.length_drop,Sq];omega
 have hj:aS items.size items.size hi<=items.size:=JA _ _ (Ql _) hi;obtain⟨os,hos,hcs,hds⟩:=id hs;have hTs:s.TypeIs (.ref sl) "slice":=⟨os,hos,hcs⟩;unfold getItem;try with_reducible refine tqo ?_
 first|refine tqa (tqb ?_)|skip
 refine tqa (wpAny_sequenceKey ht.typeIs `d ?_)
 refine tqa (wpAny_callSpecial?_slot (name:=Str.ofString "__getitem__") ht.typeIs Rn
  (wpAny_call_entry Rn ht.typeIs entry_tuple_getitem ?_ (args_tuple_getitem _ _)))
 show wpAny _ _ (Builtin.Tuple.tupleItemsOf (.ref t) >>= _) _ _ s;refine tqa (tupleItemsOf_ ht ?_);refine tqa (wpAny_typeOf hTs ?_);rw[if_pos `d]
 refine tqa (jx hs pl pu ?_);have hno:¬ ((((aS items.size 0 lo:Nat):Int)==0&&(1:Int)==1&&(aS items.size items.size hi-aS items.size 0 lo)==items.size)=true):=by
  intro q;rw[Qr,Qr] at q;have q1:((aS items.size 0 lo:Nat):Int)=0:=eq_of_beq q.1.1;have q2:aS items.size items.size hi-aS items.size 0 lo=items.size:=eq_of_beq q.2;exact hw {`a,`a}
 show wpAny _ _ (if (((aS items.size 0 lo:Nat):Int)==0&&(1:Int)==1&&(aS items.size items.size hi-aS items.size 0 lo)==items.size)=true then _ else _) _ _ s;rw[if_neg hno,CV];first
  |exact tqa (m:=Builtin.Tuple.tupleExact _) (wpAny_newObj_type (tqb {_,rfl,tqb h}) htake)
  |exact tqa (m:=Builtin.Tuple.tupleExact _) (wpAny_newObj_type (tqa (tqb (tqb {_,rfl,tqb h}))) htake)
  |exact tqa (tqa (m:=Builtin.Tuple.tupleExact _) (wpAny_newObj_type (tqb (tqb {_,rfl,tqb h})) htake))
  |exact tqa (tqa (m:=Builtin.Tuple.tupleExact _) (wpAny_newObj_type (tqb {_,rfl,tqb h}) htake))
end
end HT
namespace L2
open PySem PySem.Spec PyProof.Rows
abbrev TO:=St->Hp->(Option Int->Hp->Prop)->Prop
noncomputable def PO (X:Cx)(e:Option Expr)(t:TO):Prop:=
 ∀(pins:List (Addr×Obj)) (s:Qm) (σ:St) (H:Hp) (Q:Option Int->Hp->Prop),Inv X pins σ H s->t σ H Q->
  wpAny (model X.prog X.w) X.A (evalPart e X.env) (λu s'=>∃o H',Inv X pins σ H' s'/\IsPart u o/\Q o H') X.xe s
noncomputable def Gk:TO:=λ_ H Q=>Q none H
noncomputable def Ms (t:TE):TO:=λσ H Q=>t σ H λx H1=>∃i,x=.int i/\Q (some i) H1
section
variable{X:Cx}{e:Expr}{te:TE}{lo hi:Option Expr}{tl th:TO}{pos p2:Pos}
def G9:PO X none Gk:=by
 intro pins s σ H Q I h;rw[evalPart_none];exact tqb {none,H,I,.none,h}
def G8 (h:PE X e te):PO X (some e) (Ms te):=by
 intro pins s σ H Q I hw;rw[evalPart_some];refine aT (h pins s σ H _ I hw) λu s1 ⟨x,H1,I1,r1,q1⟩=>?_;obtain⟨i,rfl,q⟩:=q1;obtain⟨t,rfl⟩:=r1;exact{some i,H1,I1,.int i t,q}
noncomputable def nH (X:Cx)(r:V->Option Int->Option Int->Hp->VK->Prop):Prop:=
 ∀(pins:List (Addr×Obj)) (s:Qm) (σ:St) (H:Hp) (x:V) (v vl vu:Qi) (lo hi:Option Int) (sl:Addr) (Q:VK),Inv X pins σ H s->RelV x v->s.heap.IsSliceOf sl vl vu .none->IsPart vl lo->IsPart vu hi->r x lo hi H Q->
  ∃T id,typeLookup (.type T) "__getitem__"=pure (some (.builtin id))/\s.TypeIs v T/\wpAny (model X.prog X.w) X.A (getItem v (.ref sl)) (EP X pins σ Q) X.xe s
def nH.or {r r':V->Option Int->Option Int->Hp->VK->Prop}(h:nH X r)(h':nH X r'):nH X (λx lo hi H Q=>r x lo hi H Q\/r' x lo hi H Q):=by
 intro pins s σ H x v vl vu lo hi sl Q I rx hs pl pu q;rcases q with q|q
 ·exact h pins s σ H x v vl vu lo hi sl Q I rx hs pl pu q
 ·exact h' pins s σ H x v vl vu lo hi sl Q I rx hs pl pu q
noncomputable def tSl (r:V->Option Int->Option Int->Hp->VK->Prop)(te:TE)(tl th:TO):TE:=λσ H Q=>te σ H λx H1=>tl σ H1 λl H2=>th σ H2 λu H3=>r x l u H3 Q
def CW {r:V->Option Int->Option Int->Hp->VK->Prop}(hr:nH X r)(he:PE X e te)(hl:PO X lo tl)(hu:PO X hi th):PE X (.Subscript e (.Slice lo hi none p2) pos) (tSl r te tl th):=by
 intro pins s σ H Q I h;refine Subscript_ (aT (he pins s σ H _ I h) λv s1 ⟨x,H1,I1,r1,q1⟩=>?_);refine wpAny_Slice (aT (hl pins s1 σ H1 _ I1 q1) λvl s2 ⟨l,H2,I2,pl,q2⟩=>aT (hu pins s2 σ H2 _ I2 q2) λvu s3 ⟨u,H3,I3,pu,q3⟩=>?_);rw[evalPart_none];refine tqb ?_;have I4:Inv X pins σ H3 {s3 with heap:=s3.heap.push {cls:=.type "slice",data:=.fields #[vl,vu,.none]}}:=I3.kept (t':=s3.toks) λb ob q=>Qk _ q
 obtain⟨T,id,hT,ht,hg⟩:=hr pins {s3 with heap:=s3.heap.push {cls:=.type "slice",data:=.fields #[vl,vu,.none]}} σ H3 x v vl vu l u s3.heap.objs.size Q I4 r1 (Heap.IsSliceOf.new ..) pl pu q3
 show wpAny (model X.prog X.w) X.A (subscriptTail e (.Slice lo hi none p2) v (.ref s3.heap.objs.size)) (EP X pins σ Q) X.xe {s3 with heap:=s3.heap.push {cls:=.type "slice",data:=.fields #[vl,vu,.none]}}
 exact tail_any (ops:=[.ref s3.heap.objs.size,v]) ht hT hg (by with_unfolding_all rfl)
noncomputable def nj (xs:List V)(lo hi:Option Int):List V:=(xs.drop (HT.aS xs.length 0 lo)).take (HT.aS xs.length xs.length hi-HT.aS xs.length 0 lo)
def oN (xs:List V)(lo hi:Option Int):(nj xs lo hi).length<=xs.length:=by
 unfold nj;rw[RX,List.length_drop];omega
noncomputable def JG (K:Qh):V->Option Int->Option Int->Hp->VK->Prop:=λx lo hi H Q=>∃a xs,x=.ref a/\dQ K H a xs/\
 ¬ (HT.aS xs.length 0 lo=0/\HT.aS xs.length xs.length hi=xs.length)/\∀p,H p=none->Q (.ref p) (upd H p (.tup (nj xs lo hi)))
def Jn:nH X (JG X.K):=by
 intro pins s σ H x v vl vu lo hi sl Q I rx hs pl pu h;obtain⟨a,xs,rfl,hx,hw,q⟩:=h;cases rx;obtain⟨its,r,ht,hz⟩:=I.tuple hx;have hlen:its.toArray.size=xs.length:=by rw[Qy];exact r.length.symm
 refine{"tuple",_,Rn.lookup,ht.typeIs,?_};refine HT.oG ht hs pl pu (by rw[hlen];exact hw) ?_ (by rw[hlen];exact hz)
 rw[hlen];refine{.ref s.heap.objs.size,_,I.laid (t':=s.toks) (o:=.tup (nj xs lo hi)) (λb ob q=>Qk _ q) (Ql _) ?_,rfl,q _ (I.hok.fresh (Ql _))};exact{Qp (oN xs lo hi) hz,_,(r.drop (HT.aS xs.length 0 lo)).take (HT.aS xs.length xs.length hi-HT.aS xs.length 0 lo),IsTup.new _ _}
noncomputable def MF (K:Qh):R2:=λx y H Q=>∃a b xs ys,x=.ref a/\y=.ref b/\dQ K H a xs/\dQ K H b ys/\xs≠[]/\xs.length+ys.length<=sizeLine/\
 (ys=[]->Q (.ref a) H)/\(ys≠[]->∀p,H p=none->Q (.ref p) (upd H p (.tup (xs++ys))))
def Vals.nil_iff {xs:List V}{us:List Qi}(r:Vals xs us):us=[]↔xs=[]:=by
 cases r with
 |nil=>simp
 |cons _ _=>simp
def Hh:bU X (binaryOp .Add) (MF X.K):=by
 intro pins s σ H x y v u Q I rx ry h;obtain⟨a,b,xs,ys,rfl,rfl,ha,hb,hx,hz,q1,q2⟩:=h;cases rx;cases ry;obtain⟨its,r1,p1,_⟩:=I.tuple ha;obtain⟨its2,r2,p2,_⟩:=I.tuple hb;refine HT.Il p1 p2 (λz=>hx (r1.nil_iff.mp z)) (λz=>{.ref a,H,I,rfl,q1 (r2.nil_iff.mp z)}) (λz=>?_) (by rw[<- r1.length,<- r2.length];exact hz)
 refine{.ref s.heap.objs.size,_,I.laid (t':=s.toks) (o:=.tup (xs++ys)) (λb ob q=>Qk _ q) (Ql _) ?_,rfl,q2 (λw=>z (r2.nil_iff.mpr w)) _ (I.hok.fresh (Ql _))};exact{by rw[QO];exact hz,_,r1.append r2,IsTup.new _ _}
end
noncomputable def cw (n:Nat)(i:Int):Option Nat:=if 0<=i then(if i<n then some i.toNat else none) else if -(n:Int)<=i then some (i+n).toNat else none
noncomputable def sT {α:Type}(xs:List α)(i:Int):Option α:=(cw xs.length i).bind λj=>xs[j]?
def w8 {n:Nat}{i:Int}{j:Nat}(h:cw n i=some j):seqIndex? i n=some j/\j<n/\-(n:Int)<=i/\i<n:=by
 unfold cw at h;by_cases h0:0<=i
 ·rw[if_pos h0] at h;by_cases h1:i<n
  ·rw[if_pos h1] at h;have e:i.toNat=j:=Qv h;exact{by rw[seqIndex_of h0 h1,e],`a,`a,h1}
  ·rw[if_neg h1] at h;cases h
 ·rw[if_neg h0] at h;by_cases h1:-(n:Int)<=i
  ·rw[if_pos h1] at h;have e:(i+n).toNat=j:=Qv h;exact{by rw[seqIndex_neg `a h1,e],`a,h1,`a}
  ·rw[if_neg h1] at h;cases h
def rH {α:Type}{xs:List α}{i:Int}{v:α}(h:sT xs i=some v):∃j,seqIndex? i xs.length=some j/\xs[j]?=some v/\j<xs.length/\-(xs.length:Int)<=i/\i<xs.length:=by
 unfold sT at h;cases e:cw xs.length i with
 |none=>rw[e] at h;cases h
 | some j =>
   rw[e] at h;obtain⟨h1,h2,h3,h4⟩:=w8 e;exact⟨j,h1,h,h2,h3,h4⟩
noncomputable def ju (b:Expr):Prop:=∀o i,subscripted b false o i=operate [o,i] (getItem o i)
noncomputable def kj (X:Cx)(r:R2):Prop:=
 ∀(value slice:Expr) (pins:List (Addr×Obj)) (s:Qm) (σ:St) (H:Hp) (x y:V) (v u:Qi) (Q:VK),Inv X pins σ H s->RelV x v->RelV y u->r x y H Q->
  subscripted slice false v u=operate [v,u] (getItem v u)->wpAny (model X.prog X.w) X.A (subscriptTail value slice v u) (EP X pins σ Q) X.xe s
noncomputable def MtR (X:Cx)(id:String)(r:V->List V->Hp->VK->Prop):Prop:=
 ∀(pins:List (Addr×Obj)) (s:Qm) (σ:St) (H:Hp) (x:V) (xs:List V) (v:Qi) (us:List Qi) (Q:VK),Inv X pins σ H s->RelV x v->Vals xs us->r x xs H Q->
  wpAny (model X.prog X.w) X.A (call (.builtin id) (v::us)) (EP X pins σ Q) X.xe s
section
variable{X:Cx}{a b:Expr}{ta tb:TE}{pos:Pos}
def kj.or {r r':R2}(h:kj X r)(h':kj X r'):kj X (λx y H Q=>r x y H Q\/r' x y H Q):=by
 intro value slice pins s σ H x y v u Q I rx ry q hs;rcases q with q|q
 ·exact h value slice pins s σ H x y v u Q I rx ry q hs
 ·exact h' value slice pins s σ H x y v u Q I rx ry q hs
def yh {r:R2}(hr:kj X r)(ha:PE X a ta)(hb:PE X b tb)(hs:ju b):PE X (.Subscript a b pos) (zZ r ta tb):=by
 intro pins s σ H Q I h;exact Subscript_ (DY ha hb I h λv u s2 x y H2 I2 rx ry q=>hr a b pins s2 σ H2 x y v u Q I2 rx ry q (hs _ _))
noncomputable def JL (K:Qh):R2:=λx y H Q=>∃p xs i v,x=.ref p/\y=.int i/\cW K H p xs/\sT xs i=some v/\Q v H
noncomputable def JJ (K:Qh):R2:=λx y H Q=>∃p xs i v,x=.ref p/\y=.int i/\dQ K H p xs/\sT xs i=some v/\Q v H
noncomputable def JK:R2:=λx y H Q=>∃z i c,x=.str z/\y=.int i/\z.length<=sizeLine/\sT z.cps.toList i=some c/\Q (.str {#[c]}) H
def Hz:kj X (JL X.K):=by
 intro value slice pins s σ H x y v u Q I rx ry h hs;obtain⟨p,xs,i,z,rfl,rfl,hq,he,q⟩:=h;cases rx;obtain⟨t,rfl⟩:=ry;obtain⟨its,r,pl,hz⟩:=I.list hq;obtain⟨j,h1,h2,h3,h4,h5⟩:=rH he;obtain⟨w,ew,rw'⟩:=r.get h2;have hl:=r.length;have hn:=jD;have fin:EP X pins σ Q w s:=⟨z,H,I,rw',q⟩;by_cases h0:0<=i
 ·have hj:i.toNat=j:=by
   rw[seqIndex_of h0 h5] at h1;exact Qv h1
  exact item_listR pl.isList h0 `a (by rw[hj];simpa using ew) fin hs
 ·have hj:(i+(its.toArray.size:Int)).toNat=j:=by
   rw[seqIndex_neg `a h4] at h1
   rw[Qy,<- hl];exact Qv h1
  exact subscriptTail_builtinR (x:=w) pl.isList.typeIs slot_list_getitem.lookup
   (wpAny_getItem_list_neg (Q:=λr s'=>r=w/\EP X pins σ Q r s') pl.isList `a (by rw[Qy]<;>omega) `a (by rw[hj];simpa using ew) ⟨rfl,fin⟩) hs
def KS:kj X (JJ X.K):=by
 intro value slice pins s σ H x y v u Q I rx ry h hs;obtain⟨p,xs,i,z,rfl,rfl,hq,he,q⟩:=h;cases rx;obtain⟨t,rfl⟩:=ry;obtain⟨its,r,pl,hz⟩:=I.tuple hq;obtain⟨j,h1,h2,h3,h4,h5⟩:=rH he;obtain⟨w,ew,rw'⟩:=r.get h2;have hl:=r.length;have hn:=jD;have fin:EP X pins σ Q w s:=⟨z,H,I,rw',q⟩;exact subscriptTail_builtinR (x:=w) pl.typeIs slot_tuple_getitem.lookup
  (getItem_tuple (j:=j) (Q:=λr s'=>r=w/\EP X pins σ Q r s') pl `a `a (by rw[Qy,<- hl];exact h1) (by simpa using ew) ⟨rfl,fin⟩) hs
def KU:kj X JK:=by
 intro value slice pins s σ H x y v u Q I rx ry h hs;obtain⟨z,i,c,rfl,rfl,hz,he,q⟩:=h;obtain⟨t,rfl⟩:=rx;obtain⟨t',rfl⟩:=ry;obtain⟨j,h1,h2,h3,h4,h5⟩:=rH he;have hl:z.cps.toList.length=z.length:=by simp[Str.length]
 rw[hl] at h1 h4 h5;have hn:=jD;exact tail_any (typeIs_str s z t) slot_str_getitem.lookup (getItem_str (c:=c) (by
  have e1:decide (i < -(2^63:Int))=false:=decide_eq_false `a
  have e2:decide (i≥2^63)=false:=decide_eq_false `a
  rw[e1,e2,Bool.or_false]) (by rw[h1];simpa using h2) {.str {#[c]},H,I.tok _,{_,rfl},q}) hs
noncomputable def JM (K:Qh):R2:=λx y H Q=>JL K x y H Q\/JJ K x y H Q\/JK x y H Q
def KW:kj X (JM X.K):=Hz.or (KS.or KU)
def yw (its:List Qi)(n j:Nat)(u:Qi):Obj.mapSeq (·.setIfInBounds j u) {cls:=.type "list",data:=.seq its.toArray n}={cls:=.type "list",data:=.seq (its.set j u).toArray n}:=by
 simp[Obj.mapSeq]
def Inv.lst {pins:List (Addr×Obj)}{σ:St}{H:Hp}{s:Qm}{p:Addr}{xs:List V}(I:Inv X pins σ H s)(h:H p=some (.lst xs)) :
 ∃(its:List Qi) (n:Nat),Vals xs its/\s.heap.get? p=some {cls:=.type "list",data:=.seq its.toArray n}/\xs.length<=sizeLine:=by
 obtain⟨z,its,n,r,e⟩:=I.hok p _ h;exact⟨its,n,r,e,z⟩
def Inv.lstUpd {pins:List (Addr×Obj)}{σ:St}{H:Hp}{s:Qm}{p:Addr}{xs ys:List V}{its its':List Qi}{n n':Nat}{f:Obj->Obj}(I:Inv X pins σ H s)(h:H p=some (.lst xs))
 (ho:s.heap.get? p=some {cls:=.type "list",data:=.seq its.toArray n}) (hf:f {cls:=.type "list",data:=.seq its.toArray n}={cls:=.type "list",data:=.seq its'.toArray n'}) (r:Vals ys its') (hz:ys.length<=sizeLine) (t:Nat) :
 Inv X pins σ (upd H p (.lst ys)) {s with heap:=s.heap.update p f,toks:=t}:=by
 have e:(s.heap.update p f).get? p=some {cls:=.type "list",data:=.seq its'.toArray n'}:=by
  rw[Ro f ho (by rw[hf]<;>rfl),hf]
 refine I.write (x:=p) (e:=p) (by rw[h];trivial) (.inl rfl) (λb u hb q=>(Q9 _ _ (Ru hb)).trans q) {_,e} ?_
 exact⟨hz,its',n',r,e⟩
noncomputable def EK:V->V->V->Hp->(Hp->Prop)->Prop:=λo i v H Q=>∃p xs k j,o=.ref p/\i=.int k/\H p=some (.lst xs)/\cw xs.length k=some j/\Q (upd H p (.lst (xs.set j v)))
def set_list:D7 X EK:=by
 intro pins s σ H o i v ov iv u Q I ro ri rv h;obtain⟨p,xs,k,j,rfl,rfl,hp,hj,q⟩:=h;cases ro;obtain⟨t,rfl⟩:=ri;obtain⟨its,n,r,ho,hz⟩:=I.lst hp;obtain⟨h1,h2,h3,h4⟩:=w8 hj;have hl:=r.length;have hn:=jD;have I':Inv X pins σ (upd H p (.lst (xs.set j v))) {s with heap:=s.heap.update p (Obj.mapSeq (·.setIfInBounds j u))}:=
  I.lstUpd hp ho (yw its n j u) (r.set rv j) (by rw[List.length_set];exact hz) s.toks
 by_cases h0:0<=k
 ·have hk:k.toNat=j:=by
   rw[seqIndex_of h0 h4] at h1;exact Qv h1
  exact PySem.W.ki_setAt ho h0 `a (by rw[Qy,<- hl];exact h4) (by rw[hk];exact{_,I',q})
 ·have hk:(k+(its.toArray.size:Int)).toNat=j:=by
   rw[seqIndex_neg `a h3] at h1
   rw[Qy,<- hl];exact Qv h1
  exact PySem.W.ki_setBack ho `a (by rw[Qy,<- hl];exact h3) `a (by rw[hk];exact{_,I',q})
def t8 (lo hi:Option Int)(n:Nat):(sliceBounds lo hi none n).1=((HT.aS n 0 lo:Nat):Int)/\(sliceBounds lo hi none n).2.1=((HT.aS n n hi:Nat):Int)/\(sliceBounds lo hi none n).2.2=1:=by
 refine{?_,?_,rfl}
 ·cases lo with
  |none=>simp[sliceBounds,HT.aS]
  | some i =>
    simp only[sliceBounds,HT.aS,Option.getD_none,show(1:Int) > 0 by decide,if_true]
    by_cases h:i<0
    ·simp only[h,if_true]<;>omega
    ·simp only[h,if_false]<;>omega
 ·cases hi with
  |none=>simp[sliceBounds,HT.aS]
  | some i =>
    simp only[sliceBounds,HT.aS,Option.getD_none,show(1:Int) > 0 by decide,if_true]
    by_cases h:i<0
    ·simp only[h,if_true]<;>omega
    ·simp only[h,if_false]<;>omega
def sX (its:List Qi)(lo hi:Option Int):slicePick its.toArray lo hi none=((its.drop (HT.aS its.length 0 lo)).take (HT.aS its.length its.length hi-HT.aS its.length 0 lo)).toArray:=by
 obtain⟨h1,h2,h3⟩:=t8 lo hi its.toArray.size;unfold slicePick;rw[h1,h2,h3];simp only[sliceRange_one,pick_run,Qy]<;>rfl
noncomputable def JH (K:Qh):V->Option Int->Option Int->Hp->VK->Prop:=λx lo hi H Q=>∃a xs,x=.ref a/\cW K H a xs/\∀p,H p=none->Q (.ref p) (upd H p (.lst (nj xs lo hi)))
def GJ:nH X (JH X.K):=by
 intro pins s σ H x v vl vu lo hi sl Q I rx hs pl pu h;obtain⟨a,xs,rfl,hx,q⟩:=h;cases rx;obtain⟨its,r,ht,hz⟩:=I.list hx;have hlen:=r.length;refine{"list",_,slot_list_getitem.lookup,ht.isList.typeIs,?_};refine wpAny_getItem_list_slice ht.isList hs pl pu .none `s ?_ (by rw[Qy]<;>omega)
 rw[sX,<- hlen];refine{.ref s.heap.objs.size,_,I.laid (t':=s.toks) (o:=.lst (nj xs lo hi)) (λb ob q=>Qk _ q) (Ql _) ?_,rfl,q _ (I.hok.fresh (Ql _))};exact{Qp (oN xs lo hi) hz,_,0,(r.drop (HT.aS xs.length 0 lo)).take (HT.aS xs.length xs.length hi-HT.aS xs.length 0 lo),QG _ rfl}
def vw:cY X (.builtin "len") (λxs H Q=>∃p ys,xs=[.ref p]/\(cW X.K H p ys\/dQ X.K H p ys)/\Q (.int ys.length) H):=by
 intro pins s σ H xs us Q I r h;obtain⟨p,ys,rfl,hq,q⟩:=h;obtain⟨u,rfl,rx⟩:=vals1 r;cases rx;have hn:=jD;rcases hq with hq|hq
 ·obtain⟨its,r',pl,hz⟩:=I.list hq;have hlen:=r'.length;exact Calls.call_len_list pl.isList (by simp only[Qy]<;>omega) {.int ys.length,H,I.tok _,{s.toks+1,by rw[Qy,hlen]},q}
 ·obtain⟨its,r',pl,hz⟩:=I.tuple hq;have hlen:=r'.length;exact len_tuple pl (by simp only[Qy]<;>omega) {.int ys.length,H,I.tok _,{s.toks+1,by rw[Qy,hlen]},q}
def vt:cY X (.builtin "len") (λxs H Q=>∃z,xs=[.str z]/\z.length<=sizeLine/\Q (.int z.length) H):=by
 intro pins s σ H xs us Q I r h;obtain⟨z,rfl,hz,q⟩:=h;obtain⟨u,rfl,t,rfl⟩:=vals1 r;have hn:=jD;exact len_str `a {.int z.length,H,I.tok _,{_,rfl},q}
def cY.or {f:Qi}{r r':List V->Hp->VK->Prop}(h:cY X f r)(h':cY X f r'):cY X f (λxs H Q=>r xs H Q\/r' xs H Q):=by
 intro pins s σ H xs us Q I rs q;rcases q with q|q
 ·exact h pins s σ H xs us Q I rs q
 ·exact h' pins s σ H xs us Q I rs q
def vq:cY X (.type "list") (λxs H Q=>∃p ys,xs=[.ref p]/\(cW X.K H p ys\/dQ X.K H p ys)/\∀l,H l=none->Q (.ref l) (upd H l (.lst ys))):=by
 intro pins s σ H xs us Q I r h;obtain⟨p,ys,rfl,hq,q⟩:=h;obtain⟨u,rfl,rx⟩:=vals1 r;cases rx;have fin:∀(its:List Qi),Vals ys its->ys.length<=sizeLine->∀(h':Heap) (c':Nat),(∀b o',s.heap.get? b=some o'->h'.get? b=some o')->
  h'.get? s.heap.objs.size=some {cls:=.type "list",dict:=none,data:=.seq its.toArray c',slots:=#[]}->EP X pins σ Q (.ref s.heap.objs.size) {s with heap:=h'}:=λits r' hz h' c' kp e=>
  {.ref s.heap.objs.size,_,I.laid (t':=s.toks) kp (Ql _) (show cX X.prog X.w _ h' _ (.lst ys) from⟨hz,its,c',r',e⟩),rfl,q _ (I.hok.fresh (Ql _))}
 rcases hq with hq|hq
 ·obtain⟨its,r',pl,hz⟩:=I.list hq;have hlen:=r'.length;obtain⟨o,ho,hc,n,hd⟩:=pl.isList;exact call_list_seq p (.inl rfl) ho hc hd (λh' c' kp e=>fin its r' hz h' c' kp e) (by simp only[Qy]<;>omega)
 ·obtain⟨its,r',pl,hz⟩:=I.tuple hq;have hlen:=r'.length;obtain⟨o,ho,hc,n,hd⟩:=pl;exact call_list_seq p (.inr rfl) ho hc hd (λh' c' kp e=>fin its r' hz h' c' kp e) (by simp only[Qy]<;>omega)
def sZ:cY X (.type "tuple") (λxs H Q=>∃p ys,xs=[.ref p]/\((cW X.K H p ys/\∀l,H l=none->Q (.ref l) (upd H l (.tup ys)))\/(dQ X.K H p ys/\Q (.ref p) H))):=by
 intro pins s σ H xs us Q I r h;obtain⟨p,ys,rfl,h⟩:=h;obtain⟨u,rfl,rx⟩:=vals1 r;cases rx;rcases h with⟨hq,q⟩|⟨hq,q⟩
 ·obtain⟨its,r',pl,hz⟩:=I.list hq;have hlen:=r'.length;refine call_tuple_list pl.isList (λh' kp=>?_) (by simp only[Qy]<;>omega)
  have I1:Inv X pins σ H {s with heap:=h'}:=I.kept (t':=s.toks) kp
  have I2:Inv X pins σ (upd H h'.objs.size (.tup ys)) {s with heap:=h'.push {cls:=.type "tuple",data:=.seq its.toArray}}:=
   I1.laid (t':=s.toks) (λb o e=>Qk _ e) (Ql _) (show cX X.prog X.w _ _ _ (.tup ys) from{hz,its,r',IsTup.new _ _})
  exact{.ref h'.objs.size,_,I2,rfl,q _ (I1.hok.fresh (Ql _))}
 ·obtain⟨its,r',pl,hz⟩:=I.tuple hq;exact call_tuple_same pl {.ref p,H,I,rfl,q}
noncomputable def N5 (K:Qh)(T:String)(x:V)(H:Hp):Prop:=match x with
 |.str _=>T="str"
 |.int _=>T="int"
 |.ref p=>(T="list"/\∃xs,cW K H p xs)\/(T="tuple"/\∃o,K.lookup p=some o/\o.cls=.type "tuple"/\o.dict=none)\/
  (T="dict"/\((∃kvs,H p=some (.dK kvs))\/(∃kvs,H p=some (.dT kvs))\/∃es,H p=some (.dn es)))\/(T="set"/\∃S n,H p=some (.set S n))
 |_=>False
def Jd {pins:List (Addr×Obj)}{σ:St}{H:Hp}{s:Qm}{T:String}{x:V}{v:Qi}(I:Inv X pins σ H s)(r:RelV x v)(ty:N5 X.K T x H) :
 s.TypeIs v T/\∀a,v=.ref a->∃ob,s.heap.get? a=some ob/\ob.dict=none:=by
 cases x with
 | str z =>
   obtain⟨t,rfl⟩:=r;cases (show T="str" from ty);exact{typeIs_str s z t,λ_ e=>nomatch e}
 | int i =>
   obtain⟨t,rfl⟩:=r;cases (show T="int" from ty);exact{typeIs_int s i t,λ_ e=>nomatch e}
 | ref p =>
   cases r;rcases ty with⟨rfl,xs,hq⟩|⟨rfl,o,hk,hc,hd⟩|⟨rfl,hk⟩|⟨rfl,S,n,hk⟩
   ·obtain⟨its,_,pl,_⟩:=I.list hq;refine{pl.isList.typeIs,λa e=>?_};cases e;obtain⟨o,n,e,c,hd,_⟩:=pl;exact⟨o,e,hd⟩
   ·refine{{o,I.kIn p o hk,hc},λa e=>?_};cases e;exact{o,I.kIn _ o hk,hd}
   ·have z:∃o,s.heap.get? p=some o/\o.ExactDict:=by
     rcases hk with⟨kvs,hk⟩|⟨kvs,hk⟩|⟨es,hk⟩
     rotate_left 2
     ·obtain⟨_,_,o,e,ex,_⟩:=I.hok p _ hk;exact⟨o,e,ex⟩
     ·obtain⟨_,_,_,_,o,_,_,e,ex,_⟩:=I.hok p _ hk;exact⟨o,e,ex⟩
     ·obtain⟨_,_,_,_,o,_,_,e,ex,_⟩:=I.hok p _ hk;exact⟨o,e,ex⟩
    obtain⟨o,e,ex⟩:=z;refine{⟨o,e,ex.1⟩,λa e2=>?_};cases e2;exact⟨o,e,ex.2.1⟩
   ·obtain⟨o,_,_,_,e,ex,_⟩:=I.hok p _ hk;refine{⟨o,e,ex.1⟩,λa e2=>?_};cases e2;exact⟨o,e,ex.2.1⟩
 |_=>exact False.elim ty
noncomputable def tBM (K:Qh)(T:String)(r:V->List V->Hp->VK->Prop)(to:TE)(t:TA):TE:=λσ H Q=>to σ H λx H1=>N5 K T x H1/\t σ H1 λxs H2=>r x xs H2 Q
variable{o e:Expr}{es:List Expr}{to:TE}{t:TA}{name:Str}{apos cpos:Pos}{T id:String}{r:V->List V->Hp->VK->Prop}
def yi (pa:PlainAttrs T)(slot:Slot T name id)(hty:typeOf (.builtin id)=pure (.type "method_descriptor"))(hm:MtR X id r)(ho:PE X o to)(ha:PA X (e::es) t)
 (hbase:attributeBase o name X.env (eval o X.env)=eval o X.env:=by rfl)
 (hfew:((backTo cpos (starEach (e::es) X.env)).all (λx=>!x.1)&&(backToKw cpos (keywordEach [] X.env)).all (λx=>x.1.isSome)
  && decide ((e::es).length+([]:List Keyword).length+(if ([]:List Keyword).isEmpty then 0 else 1)<30))=true:=by rfl)
 (hline:(apos.endLine==cpos.line)=true:=by rfl) (hs:starEach (e::es) X.env=(false,eval e X.env)::starEach es X.env:=by rfl) (hplain:(backTo cpos (starEach es X.env)).any (·.1)=false:=by rfl) :
 PE X (.Call (.Attribute o name apos) (e::es) [] cpos) (tBM X.K T r to t):=by
 intro pins s σ H Q I h;refine wpAny_Call_method_late hbase hfew hline rfl (aT (ho pins s σ H _ I h) λv s1 ⟨x,H1,I1,r1,ty,q1⟩=>?_);obtain⟨h1,h2⟩:=Jd I1 r1 ty;refine{T,id,pa,slot,hty,h1,h2,?_};have hA:=ha cpos pins s1 σ H1 _ I1 q1;rw[hs] at hA ⊢;refine Calls.callWith_builtin (by show(false||(backTo cpos (starEach es X.env)).any (·.1))=false;rw[hplain]<;>rfl) (Calls.evalArgs_plain ?_)
 exact aT hA λus s2 ⟨vs,H2,I2,r2,q2⟩=>hm pins s2 σ H2 x vs v us Q I2 r1 r2 q2
end
noncomputable def Oy (X:Cx)(id:String)(r:V->List V->Hp->VK->Prop):Prop:=
 ∀(pins:List (Addr×Obj)) (s:Qm) (σ:St) (H:Hp) (x:V) (xs:List V) (v:Qi) (us:List Qi) (Q:VK),Inv X pins σ H s->RelV x v->Vals xs us->r x xs H Q->
  wpAny (model X.prog X.w) X.A (call (.builtin id) (v::us)) (EP X pins σ Q) X.xe s
def Vals.one:∀{x:V}{us:List Qi},Vals [x] us->∃u,us=[u]/\RelV x u
 |_,_,.cons r .nil=>{_,rfl,r}
def Vals.rep {xs:List V}{us:List Qi}(h:Vals xs us):∀k:Nat,Vals (List.replicate k xs).flatten (List.replicate k us).flatten
 |0=>.nil
 | k + 1 => by
   rw[Sg,Sg,Sz,Sz];exact Vals.append h (Vals.rep h k)
def foldl_rep (its:List Qi):∀(k:Nat) (acc:List Qi),
 List.foldl (λx1 x2=>x1++x2) acc.toArray (List.replicate k its.toArray)=(acc++(List.replicate k its).flatten).toArray
 |0,acc=>`s
 | k + 1, acc => by
   have e:acc.toArray++its.toArray=(acc++its).toArray:=`s
   have e2:(acc++its)++(List.replicate k its).flatten=acc++(List.replicate (k+1) its).flatten:=by
    rw[Sg,Sz,Ry]
   rw[<- e2,<- foldl_rep its k (acc++its),<- e,Sg,List.foldl_cons]
section
variable{X:Cx}{pins:List (Addr×Obj)}{σ:St}{H:Hp}{s:Qm}{l b:Addr}{xs ys zs:List V}
def Inv.lset {its its':List Qi}{n:Nat}{f:Array Qi->Array Qi}{t':Nat}(I:Inv X pins σ H s)(hH:H l=some (.lst xs))
 (e:s.heap.get? l=some {cls:=.type "list",data:=.seq its.toArray n}) (hf:f its.toArray=its'.toArray) (hv:Vals ys its') (hz:ys.length<=sizeLine) :
 Inv X pins σ (upd H l (.lst ys)) {s with heap:=s.heap.update l (Obj.mapSeq f),toks:=t'}:=by
 have q:=PySem.IsL.update e f;rw[hf] at q;refine I.write (x:=l) (e:=l) (by rw[hH];exact trivial) (.inl rfl) (λb' u hb hu=>(Q9 s.heap (Obj.mapSeq f) (Ru hb)).trans hu) {_,q} ?_
 exact{hz,its',_,hv,q}
def Inv.lnew {its:List Qi}{t':Nat}(I:Inv X pins σ H s)(hv:Vals ys its)(hz:ys.length<=sizeLine) :
 Inv X pins σ (upd H s.heap.objs.size (.lst ys)) {s with heap:=s.heap.push {cls:=.type "list",data:=.seq its.toArray},toks:=t'}:=
 I.laid (λ_ _ q=>Qk _ q) (Ql _) {hz,its,0,hv,QG _ rfl}
def Inv.fresh (I:Inv X pins σ H s):H s.heap.objs.size=none:=I.hok.fresh (Ql _)
def Inv.lstM (I:Inv X pins σ H s)(hH:H l=some (.lst xs)):xs.length<=sizeLine/\∃(its:List Qi) (n:Nat),Vals xs its/\xs.length=its.length/\s.heap.get? l=some {cls:=.type "list",data:=.seq its.toArray n}:=by
 obtain⟨z,its,n,r,e⟩:=I.hok l _ hH;exact⟨z,its,n,r,r.length,e⟩
def ux {n:Nat}(h:n<=sizeLine):Builtin.List.listTooLong n=false:=by
 unfold Builtin.List.listTooLong;exact decide_eq_false `a
end
section
variable{X:Cx}
noncomputable def G1:V->List V->Hp->VK->Prop:=λx vs H Q=>∃l xs y,x=.ref l/\vs=[y]/\H l=some (.lst xs)/\xs.length<sizeLine/\Q .non (upd H l (.lst (xs++[y])))
def mO:Oy X "list.append" G1:=by
 intro pins s σ H x vs v us Q I rx rv h;obtain⟨l,xs,y,rfl,rfl,hH,hz,q⟩:=h;cases rx;obtain⟨u,rfl,ru⟩:=rv.one;obtain⟨z,its,n,r,hl,e⟩:=I.lstM hH;refine call_meets F.slot_list_append {_,e,rfl} F.entry_list_append (F.args_list_append_2 _ _) (PySem.list_append l its.toArray n u (by rw[Qy];omega)) {e,?_}
 refine{.non,_,I.lset (its':=its++[u]) hH e `s (r.append (.cons ru .nil)) ?_,rfl,q}
 rw[QO,List.length_singleton];omega
noncomputable def G0:V->List V->Hp->VK->Prop:=λx vs H Q=>∃l b xs zs,x=.ref l/\vs=[.ref b]/\H l=some (.lst xs)/\H b=some (.lst zs)/\xs.length+zs.length<=sizeLine/\Q .non (upd H l (.lst (xs++zs)))
def AY:Oy X "list.extend" G0:=by
 intro pins s σ H x vs v us Q I rx rv h;obtain⟨l,b,xs,zs,rfl,rfl,hH,hB,hz,q⟩:=h;cases rx;obtain⟨u,rfl,ru⟩:=rv.one;cases ru;obtain⟨z,its,n,r,hl,e⟩:=I.lstM hH;obtain⟨z2,its2,n2,r2,hl2,e2⟩:=I.lstM hB;have hsz:its.toArray.size+its2.toArray.size<=sizeLine:=by rw[Qy,Qy];omega
 have hlong:¬ (!its.toArray.isEmpty&&Builtin.List.listTooLong (its.toArray.size+its2.toArray.size))=true:=by
  rw[ux hsz,Bool.and_false];exact QP
 refine call_meets F.slot_list_extend {_,e,rfl} F.entry_list_extend (F.args_list_extend_2 _ _)
  (AutoSeq1.list_extend_list_list_0 l its.toArray n b its2.toArray n2 hlong (by rw[Qy];omega) `a) {e,e2,?_}
 refine{.non,_,I.lset (its':=its++its2) hH e `s (r.append r2) ?_,rfl,q}
 rw[QO];omega
noncomputable def OU:R2:=λx y H Q=>∃l b xs zs,x=.ref l/\y=.ref b/\H l=some (.lst xs)/\H b=some (.lst zs)/\xs.length+zs.length<=sizeLine/\∀p,H p=none->Q (.ref p) (upd H p (.lst (xs++zs)))
def Kc:bU X (binaryOp .Add) OU:=by
 intro pins s σ H x y v u Q I rx ry h;obtain⟨l,b,xs,zs,rfl,rfl,hH,hB,hz,q⟩:=h;cases rx;cases ry;obtain⟨z,its,n,r,hl,e⟩:=I.lstM hH;obtain⟨z2,its2,n2,r2,hl2,e2⟩:=I.lstM hB;refine PySem.P.add_list e e2 ?_ (by rw[Qy,Qy];omega)
 have ea:its.toArray++its2.toArray=(its++its2).toArray:=`s
 rw[ea];exact{.ref _,_,I.lnew (t':=s.toks) (r.append r2) (by rw[QO];omega),rfl,q _ I.fresh}
noncomputable def OT:R2:=λx y H Q=>∃l k xs,x=.ref l/\y=.int k/\H l=some (.lst xs)/\-(2^63)<=k/\k<2^63/\xs.length*k.toNat<=sizeLine/\
 ∀p,H p=none->Q (.ref p) (upd H p (.lst (List.replicate k.toNat xs).flatten))
def len_rep {α:Type}(xs:List α)(k:Nat):(List.replicate k xs).flatten.length=k*xs.length:=by
 induction k with
 |zero=>simp
 |succ k ih=>rw[Sg,Sz,QO,ih,Nat.succ_mul,Nat.add_comm]
def J7:bU X (binaryOp .Mult) OT:=by
 intro pins s σ H x y v u Q I rx ry h;obtain⟨l,k,xs,rfl,rfl,hH,h1,h2,hz,q⟩:=h;cases rx;obtain⟨t,rfl⟩:=ry;obtain⟨z,its,n,r,hl,e⟩:=I.lstM hH;have hlen:its.toArray.size*k.toNat<=sizeLine:=by rw[Qy,<- hl];exact hz
 have hcap:¬ its.toArray.size*k.toNat > (2^63-1) / 8:=by
  have:(sizeLine:Nat)<=(2^63-1) / 8:=`d
  omega
 have hfit:¬ (!Builtin.List.listFitsIndex k)=true:=by
  rw[fitsIndex_both h1 h2];exact QP
 have hlong:¬ Builtin.List.listTooLong (its.toArray.size*k.toNat)=true:=by
  rw[ux hlen];exact QP
 have hnew:List.foldl (λx1 x2=>x1++x2) #[] (List.replicate (if its.toArray.isEmpty=true then 0 else k.toNat) its.toArray)=(List.replicate k.toNat its).flatten.toArray:=by
  have f0:∀m:Nat,List.foldl (λx1 x2=>x1++x2) #[] (List.replicate m its.toArray)=(List.replicate m its).flatten.toArray:=λm=>by
   have:=foldl_rep its m [];rw[SK] at this;exact this
  rw[f0];cases its with
  |nil=>simp
  |cons a r'=>rw[if_neg `s]
 refine wpAny_binaryOp_repeat_ref (T:="list") (U:="int") `d {_,e,rfl} (λs'=>typeIs_int s' k t) noFill_list_mul F.fills_int_mul F.slot_int_rmul repeat_list F.slot_int_index.lookup
  (call_meets F.slot_int_rmul (typeIs_int s k t) F.entry_int_rmul (F.args_int_rmul_2 _ _) (int___rmul___int_list k t l its.toArray n)
   {e,rfl,{_,e,rfl},call_meets F.slot_list_mul {_,e,rfl} F.entry_list_mul (F.args_list_mul_2 _ _) (AutoListH.list___mul___list_int_3 l its.toArray n k t hfit hcap hlong) {e,?_}})
 rw[hnew];exact{.ref _,_,I.lnew (t':=s.toks) (r.rep k.toNat) (by rw[len_rep,Nat.mul_comm];exact hz),rfl,q _ I.fresh}
end
end L2
namespace Att
open PySem PySem.W PySem.Calls PyProof.Rows
def qj {P:Sd}{h:Heap}:∀(ns:List Int) (vs:List Qi),WellAll P h vs (ns.map WData.int)->Sw vs ns:=by
 intro ns;induction ns with
 | nil =>
   intro vs w;rw[List.map_nil] at w;cases w;exact .nil
 | cons n ns ih =>
   intro vs w;rw[RI] at w;cases w with
   | cons a b =>
     cases a;exact .cons _ _ (ih _ b)
def As {l:OpenLaw}{n:Nat}(hn:l.most=some n){P:Sd}{h:Heap}{args:List WData}{vals:List Qi}
 (hpre:l.row.toRowW.claim.pre args=true) (hwl:WellAll P h vals args) :
 ∃a vs ns,vals=[Value.ref a]/\args=[WData.list (ns.map WData.int)]/\h.get? a=some {cls:=.type "list",data:=.seq vs.toArray}/\Sw vs ns/\ns.length<=n:=by
 have hsh:WShape.hasAll [] args [.list .int]=true:=(pre_splitW hpre).1;have hc:l.pre.holds [] {args:=args}=true:=(pre_splitW hpre).2;obtain⟨d,r,rfl,h1,h2⟩:=hasAllW_cons hsh;obtain rfl:=hasAllW_nil h2;obtain⟨xs,rfl,h3⟩:=hasW_list h1;obtain⟨ns,rfl⟩:=items_int h3;have hlen:ns.length<=n:=by
  unfold OpenLaw.pre at hc;have h4:(WTm.not (.lt (.lit (.int (n:Int))) (.len (.arg 0)))).holds [] {args:=[.list (ns.map .int)]}=true:=by
   have h4:=(holds_andW hc).1;rw[hn] at h4;exact h4
  have h5:=condW_of h4 (w_not (w_lt w_lit (w_len_list (w_arg rfl))));rw[Qf] at h5;refine Nat.le_of_not_lt λq=>?_;have q':(n:Int)<((ns.length:Nat):Int):=`a
  first
   |(rw[decide_eq_true q'] at h5;exact absurd h5 `d)
   |(simp at h5;omega)
 cases hwl with
 | cons w1 w2 =>
   cases w2;cases w1 with
   |list ho hall=>exact{_,_,ns,rfl,rfl,ho,qj ns _ hall,hlen}
def AG (l:OpenLaw)(args:List WData):l.row.toRowW.claim.post args (.bool true) args=true:=
 postW_of (r:=l.row.toRowW) (X:=(true==true))
  (show WShape.has [] (.bool true) .bool=true by first|rfl|decide|simp[WShape.has,WShape.arms,WShape.armsAll])
  (show(WTm.eq .res (.lit (.bool true))).value [] {args:=args,res:=some (.bool true),after:=args}=some (.bool (true==true)) from w_eq_bool (w_res rfl) w_lit) rfl
def attach_call {l:OpenLaw}{n:Nat}{q:Ra}{loose:List Str}{XP:(Str->Option Qi)->Heap->Prop}{YP:Rb->Heap->Prop}{d:DefRec}
 (hn:l.most=some n) (hdf:d.params.defaults=[])
 (call:∀(w:Rb) (s₀ s₁:Qm) (mg mb:Str->Option Qi) (fa:Addr) (o:Obj) (pm cd doc:Qi) (a:Addr) (vs:List Qi) (ns:List Int),
  Ground q loose [] XP w s₀ mg mb s₁.heap->YP w s₁.heap->
  s₁.heap.get? fa=some o->o.data=.func (docDef d.name d.params d.body d.scope pm cd doc)->s₁.heap.CodeRec cd d.name->mg d.name=some (.ref fa)->
  s₁.heap.get? a=some {cls:=.type "list",data:=.seq vs.toArray}->Sw vs ns->ns.length<=n->s₁.gens=#[]->
  codeAny (model l.prog w) callerA (.call (.ref fa) {[.ref a],[]}) (λr s'=>r=.ok (.ret (.bool true))/\OldK s₁.heap s'.heap/\s'.os=s₁.os/\AllBare s'.gens) s₁) :
 WalkO q loose XP YP l.row.toRowW d [] (λf vs=>PySem.call f vs):=by
 intro w s₀ s₁ mg mb G Y fa o pm cd doc dV kV ho hd hcd hD hmg hg args vals as hpre hlay hrd hwl hlo;obtain rfl:dV=.none:=Dflts.none hD hdf;obtain rfl:kV=.none:=Dflts.noKw hD;obtain⟨a,vs,ns,rfl,rfl,hobj,hints,hlen⟩:=As hn hpre hwl;refine enter_call (codeAny_mono (call w s₀ s₁ mg mb fa o pm cd doc a vs ns G Y ho (fd_plain hd) hcd hmg hobj hints hlen hg) λr s' hq=>?_);obtain⟨rfl,h2,h3,h4⟩:=hq;exact{.inl {.bool true,.bool true,[],rfl,λ_=>rfl,.bool true,AG l _,λ_=>{List.Pairwise.nil,λ_ hm=>(nomatch hm)}},h2,h3,h4}
end Att
namespace L2
open PySem PySem.Spec PyProof.Rows
def rP:∀{vs:List Qi}{ns:List Int},Sw vs ns->Vals (ns.map V.int) vs
 |_,_,.nil=>.nil
 |_,_,.cons n t h=>.cons ⟨t,rfl⟩ (rP h)
noncomputable def zh (H:Hp):Prop:=∀b,H b=none\/∃o xs,H b=some (.frz o (.lst xs))
def Dj {P:Ra}{w:Rb}{K:Qh}{mg mb:Str->Option Qi}{CX:oQ}{k:Nat}{fa a:Addr}{fd:FuncData}{x:Str}{sp:Sp}{s₁:Qm}{vs:List Qi}{ns:List Int}
 (KX:K.In s₁.heap) (hns:s₁.heap.Ns mainGlobals mg) (hb:s₁.heap.Ns builtinsNs mb) (hbb:∀x:Str,x≠"__name__"->mb x=bootBuiltins x) (hlim:s₁.heap.NoLimit) (hg:s₁.gens=#[])
 (ha:s₁.heap.get? a=some {cls:=.type "list",data:=.seq vs.toArray}) (hi:Sw vs ns) (hl:ns.length<=sizeLine) (hr:dH k callerA)
 (F:∀base:Heap,K.In base->base.Ns mainGlobals mg->mB P w K mg base CX k fa fd [x] sp) (hbind:∀(s:Qm) (u:Qi),BindsTo s fd {[u],[]} [(x,u)])
 (hsp:∀H:Hp,zh H->cW K H a (ns.map V.int)->sp [.ref a] H (λv _=>v=.bl true) λ_ _ _=>False)
 (hCX:∀H e s',CX [] H s₁ (λ_ _ _=>False) e s'->False) :
 codeAny (model P w) callerA (.call (.ref fa) {[.ref a],[]}) (λr s'=>r=.ok (.ret (.bool true))/\OldK s₁.heap s'.heap/\s'.os=s₁.os/\AllBare s'.gens) s₁:=by
 have rv:=rP hi;have lenV:=hi.length;have core:∀H:Hp,zh H->cW K H a (ns.map V.int)->fb P w H s₁.heap->(∀b,H b≠none->b=a)->(H a≠none->K.lookup a=none)->
  codeAny (model P w) callerA (.call (.ref fa) {[.ref a],[]}) (λr s'=>r=.ok (.ret (.bool true))/\OldK s₁.heap s'.heap/\s'.os=s₁.os/\AllBare s'.gens) s₁:=by
  intro H hO hS hok hA hK;have jt:∀{b:Addr}{o:Obj},s₁.heap.get? b=some o->H b=none->(lY s₁.heap H).get? b=some o:=λe n=>Dz e n;have noA:∀{b:Addr}{o:Obj}{es:Array RK}{ep:Nat},s₁.heap.get? b=some o->o.data=.dict es ep->H b=none:=λ{b o es ep} e d=>by
   cases q:H b with
   |none=>rfl
   | some u =>
     have e':b=a:=hA b (by rw[q];simp)
     subst e';rw[ha] at e;cases e;have d':Data.seq vs.toArray _=Data.dict es ep:=d;cases d'
  have nsK:∀{b:Addr}{m:Str->Option Qi},s₁.heap.Ns b m->(lY s₁.heap H).Ns b m:=λ{b m} ⟨o,es,ep,e,d,r⟩=>{o,es,ep,jt e (noA e d),d,r};have hKb:K.In (lY s₁.heap H):=λb o e=>jt (KX b o e) (by
   cases q:H b with
   |none=>rfl
   | some u =>
     have e':b=a:=hA b (by rw[q];simp)
     subst e';rw[hK (by rw[q];simp)] at e;cases e)
  have hM:Mod K mg (lY s₁.heap H):={hKb,nsK hns,{mb,nsK hb,hbb},let⟨mc,h1,h2⟩:=hlim;{mc,nsK h1,h2}}
  have e0:zm P w K mg (lY s₁.heap H) callerA [] s₁ H:={rfl,hM,λb o e=>Hi e,Nat.le_of_eq (Bp _ _),trivial,λb hb=>absurd (show b∈([]:List Addr) from hb) `s,hok,.of_eq hg}
  refine codeAny_mono ((F _ hKb (nsK hns)).run callerA [] s₁ H {[.ref a],[]} [.ref a] [.ref a] _ _ hr e0 (hbind s₁ (.ref a)) (.cons rfl .nil) (hsp H hO hS)) λr s' h=>?_;cases r with
  |error e=>exact(hCX H e s' h).elim
  | ok fl =>
    cases fl with
    |next=>exact False.elim h
    |brk=>exact False.elim h
    |cont=>exact False.elim h
    | ret u =>
      obtain⟨v,H',os,bare,un,hok',r',q⟩:=h;have q':v=.bl true:=q;subst q';obtain rfl:u=Value.bool true:=r';refine{rfl,OldK.of_keep λb o e=>?_,os,bare};cases q:H b with
      |none=>exact un.keep b o e q (by intro z;exact absurd (show b∈([]:List Addr) from z) `s) `s
      | some u =>
        rcases hO b with z|⟨ob,xs,z⟩
        ·rw[q] at z;cases z
        ·have z2:=un.frzs b ob _ z;obtain⟨e1,_⟩:=hok b _ z;obtain⟨e2,_⟩:=hok' b _ z2;rw[e] at e1;cases e1;exact e2
 cases hk:K.lookup a with
 | some o =>
   have e:=KX a o hk;rw[ha] at e;cases e;refine core (λ_=>none) (λ_=>.inl rfl) (.inr {_,vs.toArray,_,hk,rfl,rfl,rfl,by rw[Qy,lenV];exact hl,by simpa using rv}) (λb u z=>by have z':(none:Option HO)=some u:=z;cases z') (λb z=>absurd rfl z) λz=>absurd rfl z
 | none =>
   refine core (λb=>if b=a then some (.frz {cls:=.type "list",data:=.seq vs.toArray} (.lst (ns.map V.int))) else none) (λb=>?_) (.inl (.inr {{cls:=.type "list",data:=.seq vs.toArray},if_pos rfl})) (λb u z=>?_) (λb z=>?_) λ_=>hk
   ·by_cases hb:b=a
    ·exact .inr {_,_,if_pos hb}
    ·exact .inl (if_neg hb)
   ·by_cases hb:b=a
    ·have z':=(if_pos hb).symm.trans z;cases z';subst hb;exact{ha,by rw[Qf];exact hl,vs,_,rv,ha}
    ·have z':=(if_neg hb).symm.trans z;cases z'
   ·by_cases hb:b=a
    ·exact hb
    ·exact absurd (if_neg hb) z
def FY {l:PySem.W.OpenLaw}{n k:Nat}{q:Ra}{loose:List Str}{XP:(Str->Option Qi)->Heap->Prop}{YP:Rb->Heap->Prop}{d:DefRec}{K:Sd->Qh}{CX:Rb->oQ}{sp:Rb->Sp}{x:Str}
 (hn:l.most=some n) (hn2:n<=sizeLine) (hdf:d.params.defaults=[]) (hr:dH k callerA)
 (hY:∀(w:Rb) (h:Heap),YP w h->(K w.params).In h)
 (F:∀(w:Rb) (mg:Str->Option Qi) (fa:Addr) (h:Heap),(K w.params).In h->h.Ns mainGlobals mg->mg d.name=some (.ref fa)->
  ∃fd:FuncData,(∀(s:Qm) (u:Qi),BindsTo s fd {[u],[]} [(x,u)])/\
   ∀base:Heap,(K w.params).In base->base.Ns mainGlobals mg->mB l.prog w (K w.params) mg base (CX w) k fa fd [x] (sp w))
 (hsp:∀(w:Rb) (H:Hp) (a:Addr) (ns:List Int),ns.length<=n->zh H->cW (K w.params) H a (ns.map V.int)->sp w [.ref a] H (λv _=>v=.bl true) λ_ _ _=>False)
 (hCX:∀(w:Rb) (H:Hp) (s:Qm) (e:Qi) (s':Qm),CX w [] H s (λ_ _ _=>False) e s'->False) :
 PySem.W.WalkO q loose XP YP l.row.toRowW d [] (λf vs=>PySem.call f vs):=by
 refine Att.attach_call hn hdf λw s₀ s₁ mg mb fa o pm cd doc a vs ns G Y ho hd hcd hmg hobj hints hlen hg=>?_;have KX:=hY w _ Y;obtain⟨fd,hb,hF⟩:=F w mg fa _ KX G.T.g hmg;exact Dj KX G.T.g G.T.b G.T.builtins G.T.nolimit hg hobj hints (Qp hlen hn2) hr hF hb (λH hO hS=>hsp w H a ns hlen hO hS) λH e s'=>hCX w H s₁ e s'
noncomputable def ft (s:Stmt):Arguments:=match s with
 |.FunctionDef _ a _ _ _ _ _ _ _ _=>a
 |_=>{posonlyargs:=[],args:=[],vararg:=none,kwonlyargs:=[],kw_defaults:=[],kwarg:=none,defaults:=[]}
noncomputable def dm (s:Stmt):List Stmt:=match s with
 |.FunctionDef _ _ b _ _ _ _ _ _ _=>b
 |_=>[]
noncomputable def bq (s:Stmt):Scope:=match s with
 |.FunctionDef _ _ _ _ _ _ sc _ _ _=>sc
 |_=>{kind:=.function,names:=[],isGenerator:=false,isCoroutine:=false}
abbrev E0:XK:=λ_ _ _=>False
structure xN (K:Qh) (x qual:Str) (st:Stmt) (f:Addr) (fd:FuncData):Prop where
 ex:∃(oc:Qi) (od:Option Addr) (kV doc pm:Qi) (an:Option Addr) (cdv ct:Qi) (osl:Array (Option Qi)),
  fd=PySem.W.fnOf x qual (ft st) (dm st) (bq st) .none kV doc pm an cdv ct/\K.lookup f=some {oc,od,.func fd,osl}/\PySem.W.codeIn K cdv qual=true
 kp:PySem.W.keepIn K (.ref f)=true
section
variable{P:Ra}{w:Rb}{K:Qh}{mg:Str->Option Qi}{base:Heap}
def La {x qual:Str}{st:Stmt}{f:Addr}{oc:Qi}{od an:Option Addr}{osl:Array (Option Qi)}{kV doc pm cdv ct:Qi}(l:K.lookup f=some {oc,od,.func (PySem.W.fnOf x qual (ft st) (dm st) (bq st) .none kV doc pm an cdv ct),osl})
 (c:PySem.W.codeIn K cdv qual=true) (k:PySem.W.keepIn K (.ref f)=true):xN K x qual st f (PySem.W.fnOf x qual (ft st) (dm st) (bq st) .none kV doc pm an cdv ct):={⟨oc,od,kV,doc,pm,an,cdv,ct,osl,rfl,l,c⟩,k}
end
end L2
namespace LD
open PySem
inductive D where
 |non|bl (b:Bool)|int (i:Int)|str (x:Str)|tup (ds:List D)|lst (ds:List D)|frz (ds:List D)|cell (k:Nat)|fn (f:Nat)|exc (c:Nat) (p:Option Int)
 deriving Inhabited
abbrev Mem:=List (List D)
abbrev Env:=List (Option D)
inductive Res (α:Type) where
 |ok (a:α) (M:Mem)
 |err (x:D) (M:Mem)
 |bad
noncomputable def Res.bind {α β:Type}(r:Res α)(f:α->Mem->Res β):Res β:=match r with
 |.ok a M=>f a M
 |.err x M=>.err x M
 |.bad=>.bad
@[simp] theorem Res.bind_ok {α β:Type}(a:α)(M:Mem)(f:α->Mem->Res β):(Res.ok a M).bind f=f a M:=rfl
@[simp] theorem Res.bind_err {α β:Type}(x:D)(M:Mem)(f:α->Mem->Res β):(Res.err x M:Res α).bind f=.err x M:=rfl
@[simp] theorem Res.bind_bad {α β:Type}(f:α->Mem->Res β):(Res.bad:Res α).bind f=.bad:=rfl
inductive oR where
 |add|sub|mul|fdiv|mod|pow
 deriving DecidableEq
inductive jS where
 |eq|ne|lt|le|gt|ge|isN|notN|isin|notin
 deriving DecidableEq
inductive Ty where
 |int|bool|str|tuple|list|own (c:Str)
 deriving DecidableEq
inductive xQ where
 |len|tuple|list (m:Bool)|listR (m:Bool)|all|sum|repr
 deriving DecidableEq
inductive fY where
 |one (i:Nat)
 |tup (l:List Nat)
 |two (i:Nat) (l:List Nat)
noncomputable def sz:Nat:=16777216
noncomputable def ba (m:Bool)(ds:List D)(M:Mem):Res D:=if ds.length<=sz then(if m then .ok (.cell M.length) (M++[ds]) else .ok (.lst ds) M) else .bad
noncomputable def lS (ds:List D)(M:Mem):Res D:=if ds.length<=sz then .ok (.tup ds) M else .bad
noncomputable def cE (M:Mem):D->Option (List D)
 |.lst ds=>some ds
 |.tup ds=>some ds
 |.frz ds=>some ds
 |.cell k=>M[k]?
 |_=>none
noncomputable def fo (M:Mem):D->Option (List D)
 |.lst ds=>some ds
 |.frz ds=>some ds
 |.cell k=>M[k]?
 |_=>none
noncomputable def jC (M:Mem):D->Option (List D)
 |.lst ds=>some ds
 |.cell k=>M[k]?
 |_=>none
noncomputable def aC:Nat->D->Bool
 |_,.non=>true
 |_,.bl _=>true
 |_,.int _=>true
 |_,.str x=>x.cps.all (· < 0x110000)
 |n+1,.tup ds=>ds.all (aC n)
 |n+1,.lst ds=>ds.all (aC n)
 |0,.tup _=>false
 |0,.lst _=>false
 |_,.frz _=>false
 |_,.cell _=>false
 |_,.fn _=>false
 |_,.exc _ _=>false
mutual
def bS:D->D->Bool
 |.non,.non=>true
 |.bl a,.bl b=>a==b
 |.bl a,.int b=>(if a then 1 else 0)==b
 |.int a,.bl b=>a==(if b then 1 else 0)
 |.int a,.int b=>a==b
 |.str a,.str b=>a==b
 |.tup a,.tup b=>dU a b
 |.lst a,.lst b=>dU a b
 |_,_=>false
def dU:List D->List D->Bool
 |[],[]=>true
 |a::r,b::t=>bS a b&&dU r t
 |[],_::_=>false
 |_::_,[]=>false
end
noncomputable def ip:D->Bool
 |.str _=>true
 |_=>false
noncomputable def m8 (a b:D):Option Bool:=if ip a&&ip b||aC 64 a&&aC 64 b then some (bS a b) else none
noncomputable def view (M:Mem):D->D
 | .cell k => match M[k]? with
   |some ds=>.lst ds
   |none=>.cell k
 |.frz ds=>.lst ds
 |d=>d
noncomputable def dI:Nat->Mem->D->D
 |0,_,d=>d
 | n + 1, M, .cell k => match M[k]? with
   |some ds=>.lst (ds.map (dI n M))
   |none=>.cell k
 |n+1,M,.frz ds=>.lst (ds.map (dI n M))
 |n+1,M,.lst ds=>.lst (ds.map (dI n M))
 |n+1,M,.tup ds=>.tup (ds.map (dI n M))
 |_+1,_,d=>d
noncomputable def m7 (M:Mem)(a b:D):Option Bool:=match m8 (view M a) (view M b) with
 |some r=>some r
 |none=>m8 (dI 64 M a) (dI 64 M b)
noncomputable def ko (M:Mem):D->Option Bool
 |.non=>some false
 |.bl b=>some b
 |.int i=>some (i != 0)
 |.str x=>if x.cps.size<=sz then some (x.cps.size != 0) else none
 |.tup ds=>some (!ds.isEmpty)
 |.lst ds=>some (!ds.isEmpty)
 |.frz ds=>some (!ds.isEmpty)
 |.cell k=>(M[k]?).map λds=>!ds.isEmpty
 |.fn _=>none
 |.exc _ _=>none
noncomputable def cw (n:Nat)(i:Int):Option Nat:=if 0<=i then(if i<n then some i.toNat else none) else if -(n:Int)<=i then some (i+n).toNat else none
noncomputable def f6 (m:Bool)(o:oR)(a b:D)(M:Mem):Res D:=match o,a,b with
 |.add,.int i,.int j=>.ok (.int (i+j)) M
 |.add,.str x,.str y=>if x.cps.size+y.cps.size<=sz then .ok (.str {x.cps++y.cps}) M else .bad
 |.add,.tup x,.tup y=>lS (x++y) M
 | .add, a, b => match jC M a, jC M b with
   |some x,some y=>ba m (x++y) M
   |_,_=>.bad
 |.sub,.int i,.int j=>.ok (.int (i-j)) M
 |.mul,.int i,.int j=>if (-(2^64)<i/\i<2^64)\/(-(2^64)<j/\j<2^64) then .ok (.int (i*j)) M else .bad
 |.mul,.tup x,.int j=>if x.length*j.toNat<=sz/\-(2^63)<=j/\j<2^63 then .ok (.tup (List.replicate j.toNat x).flatten) M else .bad
 | .mul, a, .int j => match jC M a with
   |some x=>if x.length*j.toNat<=sz/\-(2^63)<=j/\j<2^63 then ba m (List.replicate j.toNat x).flatten M else .bad
   |none=>.bad
 |.fdiv,.int i,.int j=>if 0<j/\j<1073741824 then .ok (.int (i / j)) M else .bad
 |.mod,.int i,.int j=>if 0<j then .ok (.int (i % j)) M else .bad
 |.pow,.int i,.int j=>if 0<=j/\j<=1000000/\i.natAbs<2^64 then .ok (.int (i^j.toNat)) M else .bad
 |_,_,_=>.bad
noncomputable def uT (x:D)(ds:List D):Option Bool:=if aC 64 x&&ds.all (aC 63) then some (ds.any λy=>bS y x) else none
noncomputable def Aa (x y:Str):Bool:=!(Builtin.Str.occurrences y x 0 y.length 1).isEmpty
noncomputable def intsOf:List D->Option (List Int)
 |[]=>some []
 |.int b::r=>(intsOf r).map (b::·)
 |_=>none
noncomputable def mT:D->Option (List Int)
 |.tup ds=>intsOf ds
 |_=>none
noncomputable def jZ:List D->Option (List (List Int))
 |[]=>some []
 |d::r=>(mT d).bind λk=>(jZ r).map (k::·)
noncomputable def qW:D->Option (List (List Int))
 |.tup ds=>jZ ds
 |_=>none
noncomputable def isKey (c:Int)(d:D):Bool:=if c=77 then(mT d).isSome else if c=78 then(qW d).isSome else false
noncomputable def bR (M:Mem)(o:Nat):Option (Int×List D):=if 5000<=o then(match M[o-5000]? with
 |some (.int c::es)=>if c=77\/c=78 then some (c,es) else none
 |_=>none) else none
noncomputable def cV:D->D
 |.tup [k,_]=>k
 |d=>d
noncomputable def Px:D->D
 |.tup [_,v]=>v
 |d=>d
noncomputable def dA (es:List D)(k:D):Option D:=(es.find? λe=>bS (cV e) k).map Px
noncomputable def putD (es:List D)(k v:D):List D:=if (dA es k).isSome then es.map (λe=>if bS (cV e) k then .tup [cV e,v] else e) else es++[.tup [k,v]]
noncomputable def inD (M:Mem)(o:Nat)(k:D):Option Bool:=(bR M o).bind λq=>if isKey q.1 k then some (dA q.2 k).isSome else none
noncomputable def getD (M:Mem)(o:Nat)(k:D):Option D:=(bR M o).bind λq=>if isKey q.1 k then dA q.2 k else none
noncomputable def fh:D->Bool
 |.non=>true
 |_=>false
noncomputable def bH (o:jS)(a b:D)(M:Mem):Option Bool:=match o,a,b with
 |.eq,a,b=>m7 M a b
 |.ne,a,b=>(m7 M a b).map (!·)
 |.lt,.int i,.int j=>some (decide (i<j))
 |.le,.int i,.int j=>some (decide (i<=j))
 |.gt,.int i,.int j=>some (decide (j<i))
 |.ge,.int i,.int j=>some (decide (j<=i))
 |.isN,a,.non=>some (fh a)
 |.notN,a,.non=>some (!fh a)
 |.isin,.str x,.str y=>some (Aa x y)
 |.notin,.str x,.str y=>some (!Aa x y)
 |.isin,a,b=>(cE M b).bind (uT (view M a))
 |.notin,a,b=>((cE M b).bind (uT (view M a))).map (!·)
 |_,_,_=>none
noncomputable def b7 (a i:D)(M:Mem):Option D:=match a,i with
 |.str x,.int i=>if x.cps.size<=sz then(cw x.cps.size i).bind λj=>(x.cps[j]?).map λc=>.str {#[c]} else none
 |a,.int i=>(cE M a).bind λds=>(cw ds.length i).bind λj=>ds[j]?
 |_,_=>none
noncomputable def aS (n d:Nat):D->Option Nat
 |.non=>some d
 |.int v=>some (if v<0 then(v+(n:Int)).toNat else min v.toNat n)
 |_=>none
noncomputable def cK:Bool->D->Bool
 |true,.int _=>true
 |false,.non=>true
 |_,_=>false
noncomputable def cut {α:Type}(xs:List α)(lo hi:Nat):List α:=(xs.drop lo).take (hi-lo)
noncomputable def gY (m:Bool)(a lo hi:D)(M:Mem):Res D:=match a with
 | .tup xs => match aS xs.length 0 lo, aS xs.length xs.length hi with
   |some l,some h=>.ok (.tup (cut xs l h)) M
   |_,_=>.bad
 | a => match fo M a with
   | some xs => match aS xs.length 0 lo, aS xs.length xs.length hi with
     |some l,some h=>ba m (cut xs l h) M
     |_,_=>.bad
   |none=>.bad
noncomputable def hU (t:Ty):D->Option Bool
 |.non=>some false
 |.bl _=>some (t==.bool||t==.int)
 |.int _=>some (t==.int)
 |.str _=>some (t==.str)
 |.tup _=>some (t==.tuple)
 |.lst _=>some (t==.list)
 |.frz _=>some (t==.list)
 |.cell _=>some (t==.list)
 |.fn _=>none
 |.exc _ _=>none
noncomputable def boolsOf:List D->Option (List Bool)
 |[]=>some []
 |.bl b::r=>(boolsOf r).map (b::·)
 |_=>none
noncomputable def gJ (f:xQ)(ds:List D)(M:Mem):Res D:=match f,ds with
 |.len,[.str x]=>if x.cps.size<=sz then .ok (.int x.cps.size) M else .bad
 | .len, [d] => match cE M d with
   |some xs=>.ok (.int xs.length) M
   |none=>.bad
 |.tuple,[.tup xs]=>.ok (.tup xs) M
 | .tuple, [d] => match fo M d with
   |some xs=>.ok (.tup xs) M
   |none=>.bad
 | .list m, [d] => match cE M d with
   |some xs=>ba m xs M
   |none=>.bad
 |.listR m,[.int n]=>if n<2^20 then ba m ((List.range n.toNat).map λ(k:Nat)=>D.int (k:Int)) M else .bad
 | .all, [d] => match fo M d with
   | some xs => match boolsOf xs with
     |some bs=>.ok (.bl (bs.all id)) M
     |none=>.bad
   |none=>.bad
 | .sum, [d] => match fo M d with
   | some xs => match intsOf xs with
     |some is=>.ok (.int is.sum) M
     |none=>.bad
   |none=>.bad
 |_,_=>.bad
noncomputable def di:List Nat->List D->Env->Option Env
 |[],[],Z=>some Z
 |i::l,d::ds,Z=>di l ds (Z.set i (some d))
 |_,_,_=>none
noncomputable def b6 (t:fY)(d:D)(Z:Env):Option Env:=match t,d with
 |.one i,d=>some (Z.set i (some d))
 |.tup l,.tup ds=>di l ds Z
 |.two i l,.tup [d,.tup ds]=>di l ds (Z.set i (some d))
 |.tup _,_=>none
 |.two _ _,_=>none
abbrev Walk:=Mem->Option (List D)
noncomputable def fz:Nat->List D->List D
 |_,[]=>[]
 |k,d::r=>.tup [.int k,d]::fz (k+1) r
noncomputable def ff:List D->List D->List D
 |a::r,b::t=>.tup [a,b]::ff r t
 |_,_=>[]
noncomputable def gu {α:Type}(f:α->D->Mem->Res α)(w:Walk):Nat->Nat->α->Mem->Res α
 |0,_,_,_=>.bad
 | n + 1, i, a, M => match w M with
   |none=>.bad
   | some ds => match ds[i]? with
     |none=>.ok a M
     |some d=>(f a d M).bind (gu f w n (i+1))
noncomputable def c9 {α:Type}(f:α->D->Mem->Res α)(w:Walk)(a:α)(M:Mem):Res α:=gu f w (((w M).getD []).length+1) 0 a M
noncomputable def cu {α:Type}(M:Mem):Option α->Res α
 |some a=>.ok a M
 |none=>.bad
@[simp] theorem uu {α:Type}(M:Mem)(a:α):cu M (some a)=.ok a M:=rfl
@[simp] theorem OV {α:Type}(M:Mem):(cu M none:Res α)=.bad:=rfl
inductive Fl where
 |next (Z:Env)
 |ret (d:D)
 |exc (x:D) (Z:Env)
def NQ {a b:Int}:bS (.int a) (.int b)=(a==b):=rfl
end LD
namespace LD
open PySem PySem.Spec PyProof.Rows L2
structure Mu where
 pub:Nat->Option Addr
 priv:List Addr
 ob:Nat->Option Addr
noncomputable def Mu.Mt (μ:Mu)(a:Addr):Prop:=(∃k,μ.pub k=some a)\/a∈μ.priv
abbrev Fa:=Nat->Option Addr
noncomputable def KL (K:Qh)(a:Addr)(xs:List V):Prop:=
 ∃(o:Obj) (its:Array Qi) (n:Nat),K.lookup a=some o/\o.cls=.type "list"/\o.dict=none/\o.data=.seq its n/\its.size<=sizeLine/\Vals xs its.toList
noncomputable def XAt (C:Addr)(dx:Option Addr)(a:Addr)(h:Heap):Prop:=∃o vs,h.get? a=some o/\o.cls=.ref C/\o.dict=dx/\o.data=.fields vs/\1<vs.size
noncomputable def BZ (c:Nat):Str:=if c=1 then "number" else "place"
noncomputable def vQ (H:Hp)(c:Nat)(dx:Option Addr):Option Int->Prop
 |none=>dx=none
 |some i=>∃d,dx=some d/\H d=some (.xd [(BZ c,.int i)])
noncomputable def gp (c:Nat):Nat:=1000+c
noncomputable def jX (c:Nat):Nat:=900+c
section
variable(fa:Fa)(K:Qh)(μ:Mu)(H:Hp)
mutual
def Rep:D->V->Prop
 |.non,v=>v=.non
 |.bl b,v=>v=.bl b
 |.int i,v=>v=.int i
 |.str x,v=>v=.str x
 |.tup ds,v=>∃a vs,v=.ref a/\dQ K H a vs/\aK ds vs
 |.lst ds,v=>∃a vs,v=.ref a/\(H a=some (.lst vs)/\¬ μ.Mt a)/\aK ds vs
 |.frz ds,v=>∃a vs,v=.ref a/\((∃ob,H a=some (.frz ob (.lst vs)))\/KL K a vs)/\aK ds vs
 |.cell k,v=>∃a,v=.ref a/\μ.pub k=some a
 |.fn f,v=>∃a,v=.ref a/\(fa f=some a\/(fa f=none/\μ.ob f=some a))
 |.exc c p,v=>∃a C dx,v=.ref a/\fa (gp c)=some C/\H a=some (.ext (XAt C dx a))/\vQ H c dx p
def aK:List D->List V->Prop
 |[],vs=>vs=[]
 |d::ds,vs=>∃v r,vs=v::r/\Rep d v/\aK ds r
end
end
noncomputable def IsX (o:HO):Prop:=(∃φ,o=.ext φ)\/∃fs,o=.xd fs
structure ExtW (μ:Mu) (H:Hp) (μ':Mu) (H':Hp):Prop where
 mu:∀k a,μ.pub k=some a->μ'.pub k=some a
 tups:∀a vs,Rd H a (.tup vs)->Rd H' a (.tup vs)
 lsts:∀a vs,H a=some (.lst vs)->¬ μ.Mt a->H' a=some (.lst vs)/\¬ μ'.Mt a
 frzs:∀a ob u,H a=some (.frz ob u)->H' a=some (.frz ob u)
 exts:∀a o,IsX o->H a=some o->H' a=some o
 obs:∀k a,μ.ob k=some a->μ'.ob k=some a
structure Ext (μ:Mu) (H:Hp) (μ':Mu) (H':Hp):Prop extends ExtW μ H μ' H' where
 pr:μ'.priv=μ.priv
 pk:∀a∈μ.priv,H' a=H a
def ExtW.refl:ExtW μ H μ H:={λ_ _ h=>h,λ_ _ h=>h,λ_ _ h n=>⟨h,n⟩,λ_ _ _ h=>h,λ_ _ _ h=>h,λ_ _ h=>h}
def ExtW.trans (a:ExtW μ H μ1 H1)(b:ExtW μ1 H1 μ2 H2):ExtW μ H μ2 H2:=
 {λk x h=>b.mu k x (a.mu k x h),λx vs h=>b.tups x vs (a.tups x vs h),λx vs h n=>b.lsts x vs (a.lsts x vs h n).1 (a.lsts x vs h n).2,λx ob u h=>b.frzs x ob u (a.frzs x ob u h),λx o i h=>b.exts x o i (a.exts x o i h),λk x h=>b.obs k x (a.obs k x h)}
def Ext.refl:Ext μ H μ H:={.refl,rfl,λ_ _=>rfl}
def Ext.trans (a:Ext μ H μ1 H1)(b:Ext μ1 H1 μ2 H2):Ext μ H μ2 H2:=
 {a.toExtW.trans b.toExtW,b.pr.trans a.pr,λx hx=>(b.pk x (by rw[a.pr];exact hx)).trans (a.pk x hx)}
section
variable{fa:Fa}{K:Qh}{μ μ':Mu}{H H':Hp}
def ExtW.sqT (x:ExtW μ H μ' H')(h:dQ K H a vs):dQ K H' a vs:=h.elim (λz=>.inl (x.tups a vs z)) .inr
mutual
def Rep.extW (x:ExtW μ H μ' H'):∀{d:D}{v:V},Rep fa K μ H d v->Rep fa K μ' H' d v
 |.non,v,h=>h
 |.bl b,v,h=>h
 |.int i,v,h=>h
 |.str y,v,h=>h
 | .tup ds, v, h => by
   obtain⟨a,vs,e,s,r⟩:=h;exact{a,vs,e,x.sqT s,aK.extW x r}
 | .lst ds, v, h => by
   obtain⟨a,vs,e,s,r⟩:=h;exact{a,vs,e,x.lsts a vs s.1 s.2,aK.extW x r}
 | .frz ds, v, h => by
   obtain⟨a,vs,e,s,r⟩:=h;exact{a,vs,e,s.elim (λ⟨ob,z⟩=>.inl {ob,x.frzs a ob _ z}) .inr,aK.extW x r}
 | .cell k, v, h => by
   obtain⟨a,e,m⟩:=h;exact{a,e,x.mu k a m}
 | .fn f, v, h => by
   obtain⟨a,e,m⟩:=h;exact{a,e,m.imp id λz=>{z.1,x.obs _ _ z.2}}
 | .exc c p, v, h => by
   obtain⟨a,C,dx,e,f,g,n⟩:=h;refine{a,C,dx,e,f,x.exts _ _ (.inl {_,rfl}) g,?_};cases p with
   |none=>exact n
   |some i=>exact let⟨d,h1,h2⟩:=n;{d,h1,x.exts _ _ (.inr {_,rfl}) h2}
def aK.extW (x:ExtW μ H μ' H'):∀{ds:List D}{vs:List V},aK fa K μ H ds vs->aK fa K μ' H' ds vs
 |[],vs,h=>h
 | d :: ds, vs, h => by
   obtain⟨v,r,e,p,q⟩:=h;exact{v,r,e,Rep.extW x p,aK.extW x q}
end
def Rep.ext (x:Ext μ H μ' H')(h:Rep fa K μ H d v):Rep fa K μ' H' d v:=Rep.extW x.toExtW h
def aK.ext (x:Ext μ H μ' H')(h:aK fa K μ H d v):aK fa K μ' H' d v:=aK.extW x.toExtW h
def aK.length:∀{ds:List D}{vs:List V},aK fa K μ H ds vs->vs.length=ds.length
 | [], vs, h => by
   subst h;rfl
 | d :: ds, vs, h => by
   obtain⟨v,r,e,p,q⟩:=h;subst e;simp[aK.length q]
def aK.get:∀{ds:List D}{vs:List V}{i:Nat}{d:D},aK fa K μ H ds vs->ds[i]?=some d->∃v,vs[i]?=some v/\Rep fa K μ H d v
 |[],_,_,_,_,e=>by simp at e
 | d :: ds, vs, 0, d', h, e => by
   obtain⟨v,r,rfl,p,q⟩:=h;simp at e;subst e;exact⟨v,rfl,p⟩
 | d :: ds, vs, i + 1, d', h, e => by
   obtain⟨v,r,rfl,p,q⟩:=h;obtain⟨u,h1,h2⟩:=aK.get q (by simpa using e)
   exact{u,by simpa using h1,h2}
def aK.getV:∀{ds:List D}{vs:List V}{i:Nat}{v:V},aK fa K μ H ds vs->vs[i]?=some v->∃d,ds[i]?=some d/\Rep fa K μ H d v:=by
 intro ds vs i v h e;have hl:=h.length;have hi:i<vs.length:=(Qg.mp e).1;obtain⟨d,hd⟩:∃d,ds[i]?=some d:={ds[i]'(`a),`s}
 obtain⟨u,h1,h2⟩:=h.get hd;rw[e] at h1;cases h1;exact⟨d,hd,h2⟩
def aK.append:∀{ds es:List D}{vs ws:List V},aK fa K μ H ds vs->aK fa K μ H es ws->aK fa K μ H (ds++es) (vs++ws)
 | [], _, vs, _, h, g => by
   subst h;exact g
 | d :: ds, es, vs, ws, h, g => by
   obtain⟨v,r,rfl,p,q⟩:=h;exact{v,r++ws,rfl,p,aK.append q g}
def aK.one (h:Rep fa K μ H d v):aK fa K μ H [d] [v]:={v,[],rfl,h,rfl}
def aK.drop:∀(n:Nat) {ds:List D}{vs:List V},aK fa K μ H ds vs->aK fa K μ H (ds.drop n) (vs.drop n)
 |0,_,_,h=>h
 | n + 1, [], vs, h => by
   subst h;exact rfl
 | n + 1, d :: ds, vs, h => by
   obtain⟨v,r,rfl,p,q⟩:=h;exact aK.drop n q
def aK.take:∀(n:Nat) {ds:List D}{vs:List V},aK fa K μ H ds vs->aK fa K μ H (ds.take n) (vs.take n)
 |0,_,_,h=>rfl
 | n + 1, [], vs, h => by
   subst h;exact rfl
 | n + 1, d :: ds, vs, h => by
   obtain⟨v,r,rfl,p,q⟩:=h;exact{v,r.take n,rfl,p,aK.take n q}
def aK.set:∀(n:Nat) {ds:List D}{vs:List V}{d:D}{v:V},aK fa K μ H ds vs->Rep fa K μ H d v->aK fa K μ H (ds.set n d) (vs.set n v)
 | _, [], vs, _, _, h, _ => by
   subst h;exact rfl
 | 0, d :: ds, vs, _, v', h, g => by
   obtain⟨v,r,rfl,p,q⟩:=h;exact⟨v',r,rfl,g,q⟩
 | n + 1, d :: ds, vs, _, v', h, g => by
   obtain⟨v,r,rfl,p,q⟩:=h;exact{v,r.set n v',rfl,p,aK.set n q g}
def aK.reverse:∀{ds:List D}{vs:List V},aK fa K μ H ds vs->aK fa K μ H ds.reverse vs.reverse
 | [], vs, h => by
   subst h;exact rfl
 | d :: ds, vs, h => by
   obtain⟨v,r,rfl,p,q⟩:=h;rw[List.reverse_cons,List.reverse_cons];exact aK.append (aK.reverse q) (.one p)
def aK.rep:∀(n:Nat) {ds:List D}{vs:List V},aK fa K μ H ds vs->aK fa K μ H (List.replicate n ds).flatten (List.replicate n vs).flatten
 |0,_,_,_=>rfl
 | n + 1, ds, vs, h => by
   rw[Sg,Sg,Sz,Sz];exact h.append (aK.rep n h)
def aK.ints:∀(ns:List Int),aK fa K μ H (ns.map D.int) (ns.map V.int)
 |[]=>rfl
 |n::ns=>{.int n,ns.map V.int,rfl,rfl,aK.ints ns}
end
noncomputable def l5:Nat->List Str
 |40=>["machine","standing","earlier"]
 |_=>[]
noncomputable def az (k:Nat):Nat:=5000+k
noncomputable def Fs (ks:List Int):Int:=reduceHash (Builtin.Tuple.tupleHashOf (ks.map hashInt))
noncomputable def MT (kss:List (List Int)):Int:=reduceHash (Builtin.Tuple.tupleHashOf (kss.map Fs))
noncomputable def n6 (c:Int)(d:D):Option Int:=if c=77 then(mT d).map Fs else if c=78 then(qW d).map MT else none
noncomputable def nI (fa:Fa)(K:Qh)(μ:Mu)(H:Hp)(c:Int)(p:D×D)(e:RK):Prop:=∃b v,e.key=.ref b/\n6 c p.1=some e.hash/\Rep fa K μ H p.1 (.ref b)/\RelV v e.val/\Rep fa K μ H p.2 v
noncomputable def jP (fa:Fa)(K:Qh)(μ:Mu)(H:Hp)(a:Addr)(ds:List D):Prop:=
 (∃(c:Nat) (C dx:Addr) (fs:List (Str×V)) (es:List D),fa (jX c)=some C/\H a=some (.ins C dx fs)/\fs.map (·.1)=(l5 c).take fs.length/\ds=.int c::es/\aK fa K μ H es (fs.map (·.2)))\/
 ∃(c:Int) (es:List RK) (kvs:List (D×D)),H a=some (.dn es)/\(c=77\/c=78)/\ds=.int c::kvs.map (λp=>.tup [p.1,p.2])/\R5 (nI fa K μ H c) kvs es/\(kvs.map (·.1)).Nodup
def jP.extW {fa:Fa}{K:Qh}{μ μ':Mu}{H H':Hp}{a:Addr}{ds:List D}(h:jP fa K μ H a ds)(x:ExtW μ H μ' H')(e:H' a=H a):jP fa K μ' H' a ds:=
 h.imp (λ⟨c,C,dx,fs,es,h1,h2,h3,h4,h5⟩=>{c,C,dx,fs,es,h1,e.trans h2,h3,h4,h5.extW x})
  λ⟨c,es,kvs,h1,h2,h3,h4,h5⟩=>{c,es,kvs,e.trans h1,h2,h3,R5.mapP h4 λp q ⟨b,v,e1,e2,e3,e4,e5⟩=>{b,v,e1,e2,e3.extW x,e4,e5.extW x},h5}
def jP.hold {fa:Fa}{K:Qh}{μ:Mu}{H:Hp}{a:Addr}{ds:List D}(h:jP fa K μ H a ds):∃o,H a=some o/\(∀vs,o≠.lst vs):=by
 rcases h with⟨_,_,_,_,_,_,h,_⟩|⟨_,_,_,h,_⟩
 ·exact{_,h,λ_ z=>by cases z}
 ·exact{_,h,λ_ z=>by cases z}
def jP.new {fa:Fa}{K:Qh}{μ:Mu}{H:Hp}{a p:Addr}{ds:List D}(h:jP fa K μ H a ds)(hp:H p=none):a≠p:=let{_,e,_}:=h.hold;aZ e hp
def jP.nl {fa:Fa}{K:Qh}{μ:Mu}{H:Hp}{a p:Addr}{ds:List D}{vs:List V}(h:jP fa K μ H a ds)(hp:H p=some (.lst vs)):a≠p:=λz=>by
 obtain⟨o,e,n⟩:=h.hold;rw[z,hp] at e;cases e;exact n _ rfl
noncomputable def N0 (fa:Fa)(K:Qh)(μ:Mu)(H:Hp)(k:Nat)(ds:List D):Prop:=
 (∃a vs,μ.pub k=some a/\H a=some (.lst vs)/\aK fa K μ H ds vs)\/∃a,μ.ob (az k)=some a/\μ.pub k=none/\jP fa K μ H a ds
structure RelM (fa:Fa) (K:Qh) (μ:Mu) (H:Hp) (M:Mem):Prop where
 at':∀(k:Nat) (ds:List D),M[k]?=some ds->N0 fa K μ H k ds
 out:∀(k:Nat),M.length<=k->μ.pub k=none
 oout:∀(k:Nat),M.length<=k->μ.ob (az k)=none
 inj:∀j k a,μ.pub j=some a->μ.pub k=some a->j=k
 oinj:∀j k a,μ.ob (az j)=some a->μ.ob (az k)=some a->j=k
 sep:∀k a,μ.pub k=some a->μ.ob (az k)=none
 pv:∀a∈μ.priv,(∃vs,H a=some (.lst vs))/\∀k,μ.pub k≠some a
structure bz (fa:Fa) (K:Qh) (μ:Mu) (H:Hp) (σ:L2.St) (Z:Env):Prop where
 len:σ.length=Z.length
 at':∀(i:Nat) (d:D),Z[i]?=some (some d)->∃v,σ[i]?=some (some v)/\Rep fa K μ H d v
section
variable{fa:Fa}{K:Qh}{μ μ':Mu}{H H':Hp}{σ:L2.St}{Z:Env}{M:Mem}
def bz.ext (h:bz fa K μ H σ Z)(x:Ext μ H μ' H'):bz fa K μ' H' σ Z:=
 {h.len,λi d e=>let⟨v,h1,h2⟩:=h.at' i d e;{v,h1,h2.ext x}}
def bz.set (h:bz fa K μ H σ Z){i:Nat}{d:D}{v:V}(r:Rep fa K μ H d v):bz fa K μ H (σ.set i (some v)) (Z.set i (some d)):=by
 refine{by simp[h.len],λj d' e=>?_}
 by_cases hj:j=i
 ·subst hj;have hl:j<Z.length:=by
   have:=(Qg.mp e).1;simpa using this
  rw[QS hl] at e;cases e;exact{v,QS (by rw[h.len];exact hl),r}
 ·rw[Qo (Ru hj)] at e;obtain⟨u,h1,h2⟩:=h.at' j d' e;exact{u,by rw[Qo (Ru hj)];exact h1,h2}
def bz.extW (h:bz fa K μ H σ Z)(x:ExtW μ H μ' H'):bz fa K μ' H' σ Z:=
 {h.len,λi d e=>let⟨v,h1,h2⟩:=h.at' i d e;{v,h1,h2.extW x}}
def RelM.mu_lt (h:RelM fa K μ H M)(e:μ.pub k=some a):∃ds vs,M[k]?=some ds/\H a=some (.lst vs)/\aK fa K μ H ds vs:=by
 by_cases hk:k<M.length
 ·rcases h.at' k M[k] (by simp[hk]) with⟨a',vs,h1,h2,h3⟩|⟨_,_,z,_⟩
  ·rw[e] at h1;cases h1;exact{_,vs,by simp[hk],h2,h3}
  ·rw[e] at z;cases z
 ·rw[h.out k `a] at e;cases e
def RelM.at_ (h:RelM fa K μ H M)(e:M[k]?=some ds)(p:μ.pub k=some a):∃vs,H a=some (.lst vs)/\aK fa K μ H ds vs:=by
 obtain⟨ds',vs,h1,h2,h3⟩:=h.mu_lt p;rw[e] at h1;cases h1;exact⟨vs,h2,h3⟩
def RelM.fresh (h:RelM fa K μ H M)(hp:H p=none):¬ μ.Mt p:=λe=>by
 rcases e with⟨k,e⟩|e
 ·obtain⟨ds,vs,_,h2,_⟩:=h.mu_lt e;rw[hp] at h2;cases h2
 ·obtain⟨⟨vs,h2⟩,_⟩:=h.pv p e;rw[hp] at h2;cases h2
def RelM.pne (h:RelM fa K μ H M)(hp:H p=none)(ha:a∈μ.priv):a≠p:=λe=>by
 obtain⟨⟨vs,h2⟩,_⟩:=h.pv a ha;rw[e,hp] at h2;cases h2
def Ext.alloc (h:RelM fa K μ H M)(hp:H p=none):Ext μ H μ (upd H p o):=by
 have rd:∀a u,Rd H a u->Rd (upd H p o) a u:=λa u h=>by
  rcases h with h|⟨ob,h⟩
  ·exact .inl (by rw[aH (aZ h hp)];exact h)
  ·exact .inr {ob,by rw[aH (aZ h hp)];exact h}
 exact{{λ_ _ h=>h,λa vs h=>rd a _ h,λa vs h n=>{by rw[aH (aZ h hp)];exact h,n},λa ob u h=>by rw[aH (aZ h hp)];exact h,λa o _ h=>by rw[aH (aZ h hp)];exact h,λ_ _ h=>h},rfl,λa ha=>by rw[aH (h.pne hp ha)]}
def RelM.alloc (h:RelM fa K μ H M)(hp:H p=none):RelM fa K μ (upd H p o) M:=
 {λk ds e=>(h.at' k ds e).imp (λ⟨a,vs,h1,h2,h3⟩=>{a,vs,h1,by rw[aH (aZ h2 hp)];exact h2,h3.ext (Ext.alloc h hp)}) λ⟨a,h1,h2,h3⟩=>{a,h1,h2,h3.extW (Ext.alloc h hp).toExtW (aH (h3.new hp))},h.out,h.oout,h.inj,h.oinj,h.sep,λa ha=>{let{⟨vs,e⟩,_}:=h.pv a ha;{vs,by rw[aH (h.pne hp ha)];exact e},(h.pv a ha).2}}
noncomputable def fP (μ:Mu)(n:Nat)(p:Addr):Mu:={λk=>if k=n then some p else μ.pub k,μ.priv,μ.ob}
def Ext.cell (h:RelM fa K μ H M)(hp:H p=none):Ext μ H (fP μ M.length p) (upd H p o):=by
 have rd:∀a u,Rd H a u->Rd (upd H p o) a u:=λa u h=>by
  rcases h with h|⟨ob,h⟩
  ·exact .inl (by rw[aH (aZ h hp)];exact h)
  ·exact .inr {ob,by rw[aH (aZ h hp)];exact h}
 refine{{λk a e=>?_,λa vs g=>rd a _ g,λa vs g n=>{by rw[aH (aZ g hp)];exact g,λe=>?_},λa ob u h=>by rw[aH (aZ h hp)];exact h,λa o _ h=>by rw[aH (aZ h hp)];exact h,λ_ _ h=>h},rfl,λa ha=>by rw[aH (h.pne hp ha)]}
 ·show(if k=M.length then some p else μ.pub k)=some a;split
  ·next q=>rw[q,h.out _ (Ql _)] at e;cases e
  ·exact e
 ·rcases e with⟨k,e⟩|e
  ·have e:(if k=M.length then some p else μ.pub k)=some a:=e;split at e
   ·cases e;exact aZ g hp rfl
   ·exact n (.inl ⟨k,e⟩)
  ·exact n (.inr e)
def RelM.cell (h:RelM fa K μ H M){p:Addr}{ds:List D}{vs:List V}(hp:H p=none)(r:aK fa K μ H ds vs) :
 RelM fa K (fP μ M.length p) (upd H p (.lst vs)) (M++[ds]):=by
 have x:Ext μ H (fP μ M.length p) (upd H p (.lst vs)):=Ext.cell h hp;have np:=h.fresh hp;refine{λk ds' e=>?_,λk hk=>?_,λk hk=>h.oout k (by simp at hk;omega),λj k a h1 h2=>?_,h.oinj,λk a z=>?_,λa ha=>?_}
 ·by_cases hk:k<M.length
  ·rw[Qn hk] at e;rcases h.at' k ds' e with⟨a,ws,h1,h2,h3⟩|⟨a,h1,h2,h3⟩
   ·exact .inl {a,ws,x.mu k a h1,by rw[aH (aZ h2 hp)];exact h2,h3.ext x}
   ·exact .inr {a,h1,by show(if k=M.length then some p else μ.pub k)=none;rw[if_neg (QY hk)];exact h2,h3.extW x.toExtW (aH (h3.new hp))}
  ·have hk':k=M.length:=by
    have:=(Qg.mp e).1;simp at this;omega
   subst hk';rw[Q0 (Ql _)] at e;simp at e;subst e;exact .inl {p,vs,by simp[fP],cD,r.ext x}
 ·simp at hk;show(if k=M.length then some p else μ.pub k)=none;rw[if_neg `a]
  exact h.out k `a
 ·have h1:(if j=M.length then some p else μ.pub j)=some a:=h1;have h2:(if k=M.length then some p else μ.pub k)=some a:=h2;split at h1<;>split at h2
  ·omega
  ·cases h1;exact absurd (.inl ⟨k,h2⟩) np
  ·cases h2;exact absurd (.inl ⟨j,h1⟩) np
  ·exact h.inj j k a h1 h2
 ·have z:(if k=M.length then some p else μ.pub k)=some a:=z;show μ.ob (az k)=none;split at z
  ·next e=>rw[e];exact h.oout _ (Ql _)
  ·exact h.sep k a z
 ·obtain⟨⟨ws,e⟩,n⟩:=h.pv a ha;refine{{ws,by rw[aH (h.pne hp ha)];exact e},λk e2=>?_}
  have e2:(if k=M.length then some p else μ.pub k)=some a:=e2;split at e2
  ·cases e2;exact h.pne hp ha rfl
  ·exact n k e2
def ExtW.write (h2:H a=some (.lst vs))(e:μ.Mt a):ExtW μ H μ (upd H a (.lst ws)):=by
 have ne:∀b u,Rd H b u->(∀xs,u≠.lst xs)->b≠a:=λb u g nu q=>by
  subst q;rcases g with g|⟨ob,g⟩
  ·rw[h2] at g;cases g;exact nu _ rfl
  ·rw[h2] at g;cases g
 have rd:∀b u,b≠a->Rd H b u->Rd (upd H a (.lst ws)) b u:=λb u nb g=>by
  rcases g with g|⟨ob,g⟩
  ·exact .inl (by rw[aH nb];exact g)
  ·exact .inr {ob,by rw[aH nb];exact g}
 exact{λ_ _ q=>q,λb us g=>rd b _ (ne b _ g (λxs q=>by cases q)) g,λb us g n=>{by rw[aH (λq=>n (by rw[q];exact e))];exact g,n},λb ob u g=>by rw[aH (λq=>by rw[q,h2] at g;cases g)];exact g,λb o i g=>by rw[aH (λq=>by rw[q,h2] at g;cases g;rcases i with⟨_,i⟩|⟨_,i⟩<;>cases i)];exact g,λ_ _ q=>q}
def Ext.write {k:Nat}{a:Addr}{vs ws:List V}(h:RelM fa K μ H M)(e:μ.pub k=some a):Ext μ H μ (upd H a (.lst ws)):=by
 obtain⟨ds,vs,_,h2,_⟩:=h.mu_lt e;exact{ExtW.write h2 (.inl ⟨k,e⟩),rfl,λb hb=>by rw[aH (λq=>(h.pv b hb).2 k (by rw[q];exact e))]}
def RelM.write (h:RelM fa K μ H M){k:Nat}{a:Addr}{ds:List D}{ws:List V}(e:μ.pub k=some a)(r:aK fa K μ H ds ws):RelM fa K μ (upd H a (.lst ws)) (M.set k ds):=by
 have x:Ext μ H μ (upd H a (.lst ws)):=Ext.write (vs:=ws) h e;refine{λj es q=>?_,λj hj=>h.out j (by simpa using hj),λj hj=>h.oout j (by simpa using hj),h.inj,h.oinj,h.sep,λb hb=>{let{⟨vs,g⟩,_}:=h.pv b hb;{vs,by rw[x.pk b hb];exact g},(h.pv b hb).2}}
 by_cases hj:j=k
 ·subst hj;have hl:j<M.length:=by have:=(Qg.mp q).1;simpa using this
  rw[QS hl] at q;cases q;exact .inl {a,ws,e,cD,r.ext x}
 ·rw[Qo (Ru hj)] at q;rcases h.at' j es q with⟨b,vs,h1,h2,h3⟩|⟨b,h1,h2,h3⟩
  ·have nb:b≠a:=λz=>hj (h.inj j k a (z ▸ h1) e);exact .inl {b,vs,h1,by rw[aH nb];exact h2,h3.ext x}
  ·obtain⟨_,_,_,hl,_⟩:=h.mu_lt e;exact .inr {b,h1,h2,h3.extW x.toExtW (aH (h3.nl hl))}
end
noncomputable def ae {α:Type}(r:Res α)(k:α->Mem->Prop):Prop:=match r with
 |.ok a M=>k a M
 |_=>False
def aL {α β:Type}{r:Res α}{f:α->Mem->Res β}{k:β->Mem->Prop}(h:ae (r.bind f) k):∃a M,r=.ok a M/\ae (f a M) k:=by
 cases r with
 |ok a M=>exact⟨a,M,rfl,h⟩
 |err=>exact h.elim
 |bad=>exact h.elim
def kU {α:Type}{M:Mem}{o:Option α}{k:α->Mem->Prop}(h:ae (cu M o) k):∃a,o=some a/\k a M:=by
 cases o with
 |none=>exact h.elim
 |some a=>exact⟨a,rfl,h⟩
def aJ {α:Type}{r:Res α}{k k':α->Mem->Prop}(h:ae r k)(m:∀a M,k a M->k' a M):ae r k':=by
 cases r with
 |ok a M=>exact m a M h
 |err=>exact h
 |bad=>exact h
section
variable(fa:Fa)(K:Qh)
noncomputable def a8 (μ:Mu)(H:Hp)(Q:VK)(d:D)(M':Mem):Prop:=∀v H' μ',Ext μ H μ' H'->RelM fa K μ' H' M'->Rep fa K μ' H' d v->Q v H'
noncomputable def tE (g:Env->Mem->Res D):TE:=λσ H Q=>∃μ Z M,bz fa K μ H σ Z/\RelM fa K μ H M/\ae (g Z M) (a8 fa K μ H Q)
noncomputable def tT (g:Env->Mem->Res Bool):TT:=λσ H Q=>∃μ Z M,bz fa K μ H σ Z/\RelM fa K μ H M/\ae (g Z M) λb M'=>∀H' μ',Ext μ H μ' H'->RelM fa K μ' H' M'->Q b H'
noncomputable def tA (g:Env->Mem->Res (List D)):TA:=λσ H Q=>∃μ Z M,bz fa K μ H σ Z/\RelM fa K μ H M/\ae (g Z M) λds M'=>∀vs H' μ',Ext μ H μ' H'->RelM fa K μ' H' M'->aK fa K μ' H' ds vs->Q vs H'
end
noncomputable def oP (New:Addr->Prop)(C:Addr)(dx:Option Addr)(a:Addr)(h:Heap)(H:Hp):Prop:=New a/\H a=none/\∃o vs,h.get? a=some o/\o.cls=.ref C/\o.dict=dx/\o.data=.fields vs/\
 (vs[1]?=some .none\/∃T oT ts,vs[1]?=some (.ref T)/\T≠a/\New T/\H T=none/\h.get? T=some oT/\oT.data=.fields ts/\ts[3]?=some .none)
noncomputable def zi (X:Cx)(b:Addr):Prop:=X.s₀.heap.get? b=none/\∀p∈X.pn,p.1≠b
noncomputable def XW (fa:Fa)(X:Cx)(μ:Mu)(H:Hp)(x:D)(Z:Env)(M:Mem):Prop:=∀pins σ' H' μ' s' a C dx c p,Inv X pins σ' H' s'->Ext μ H μ' H'->bz fa X.K μ' H' σ' Z->RelM fa X.K μ' H' M->x=.exc c p->fa (gp c)=some C->vQ H' c dx p->oP (zi X) C dx a s'.heap H'->X.xe (.ref a) s'
noncomputable def mE (fa:Fa)(X:Cx)(μ:Mu)(H:Hp)(D:Ends):Fl->Mem->Prop
 |.next ρ',M'=>∀σ' H' μ',Ext μ H μ' H'->bz fa X.K μ' H' σ' ρ'->RelM fa X.K μ' H' M'->D.nx σ' H'
 |.ret d,M'=>a8 fa X.K μ H D.rt d M'
 |.exc x ρ',M'=>XW fa X μ H x ρ' M'
noncomputable def tF (fa:Fa)(X:Cx)(g:Env->Mem->Res Fl):TS:=λD σ H=>∃μ Z M,bz fa X.K μ H σ Z/\RelM fa X.K μ H M/\ae (g Z M) (mE fa X μ H D)
def XW.ext (h:XW fa X μ H x Z M)(y:Ext μ H μ' H'):XW fa X μ' H' x Z M:=λpins σ1 H1 μ1 s1 a C dx c p I e=>h pins σ1 H1 μ1 s1 a C dx c p I (y.trans e)
section
variable{fa:Fa}{K:Qh}{μ μ':Mu}{H H':Hp}{Q:VK}
def a8.ext (h:a8 fa K μ H Q d M)(x:Ext μ H μ' H'):a8 fa K μ' H' Q d M:=λv H'' μ'' y m r=>h v H'' μ'' (x.trans y) m r
def kT {r:Res D}(h:ae r (a8 fa K μ H Q))(x:Ext μ H μ' H'):ae r (a8 fa K μ' H' Q):=aJ h λ_ _ w=>w.ext x
end
def bO (h:PE X e t)(i:∀σ H Q,t' σ H Q->t σ H Q):PE X e t':=λpins s σ H Q I q=>h pins s σ H Q I (i σ H Q q)
def kM (h:PT X e t)(i:∀σ H Q,t' σ H Q->t σ H Q):PT X e t':=λpins s σ H Q I q=>h pins s σ H Q I (i σ H Q q)
def Az (h:PW X e t)(i:∀σ H Q,t' σ H Q->t σ H Q):PW X e t':=λw pins s σ H Q I q=>h w pins s σ H Q I (i σ H Q q)
def AL (h:PA X e t)(i:∀σ H Q,t' σ H Q->t σ H Q):PA X e t':=λpos pins s σ H Q I q=>h pos pins s σ H Q I (i σ H Q q)
def dO (h:PS X e t)(i:∀D σ H,t' D σ H->t D σ H):PS X e t':=λpins s σ H D I q=>h pins s σ H D I (i D σ H q)
def wC (h:lD X e t)(i:∀D σ H,t' D σ H->t D σ H):lD X e t':=λpins s σ H D I q=>h pins s σ H D I (i D σ H q)
section
variable{fa:Fa}{K:Qh}{μ:Mu}{H:Hp}{σ:L2.St}{Z:Env}{M:Mem}
def t1 {g:Env->Mem->Res D}{β:Type}{f:D->Mem->Res β}{P:β->Mem->Prop}{R:V->Hp->Prop}(hE:bz fa K μ H σ Z)(hM:RelM fa K μ H M)(h:ae ((g Z M).bind f) P)
 (k:∀x M1 v H1 μ1,Ext μ H μ1 H1->bz fa K μ1 H1 σ Z->RelM fa K μ1 H1 M1->Rep fa K μ1 H1 x v->ae (f x M1) P->R v H1):tE fa K g σ H R:=by
 obtain⟨x,M1,e,q⟩:=aL h;refine{μ,Z,M,hE,hM,?_};rw[e];exact λv H1 μ1 x1 m1 r1=>k x M1 v H1 μ1 x1 (hE.ext x1) m1 r1 q
def wo {g:Env->Mem->Res Bool}{β:Type}{f:Bool->Mem->Res β}{P:β->Mem->Prop}{R:Bool->Hp->Prop}(hE:bz fa K μ H σ Z)(hM:RelM fa K μ H M)(h:ae ((g Z M).bind f) P)
 (k:∀b M1 H1 μ1,Ext μ H μ1 H1->bz fa K μ1 H1 σ Z->RelM fa K μ1 H1 M1->ae (f b M1) P->R b H1):tT fa K g σ H R:=by
 obtain⟨b,M1,e,q⟩:=aL h;refine{μ,Z,M,hE,hM,?_};rw[e];exact λH1 μ1 x1 m1=>k b M1 H1 μ1 x1 (hE.ext x1) m1 q
def wt {g:Env->Mem->Res (List D)}{β:Type}{f:List D->Mem->Res β}{P:β->Mem->Prop}{R:List V->Hp->Prop}(hE:bz fa K μ H σ Z)(hM:RelM fa K μ H M)(h:ae ((g Z M).bind f) P)
 (k:∀ds M1 vs H1 μ1,Ext μ H μ1 H1->bz fa K μ1 H1 σ Z->RelM fa K μ1 H1 M1->aK fa K μ1 H1 ds vs->ae (f ds M1) P->R vs H1):tA fa K g σ H R:=by
 obtain⟨ds,M1,e,q⟩:=aL h;refine{μ,Z,M,hE,hM,?_};rw[e];exact λv H1 μ1 x1 m1 r1=>k ds M1 v H1 μ1 x1 (hE.ext x1) m1 r1 q
end
mutual
def toPy:D->PyData
 |.non=>.none
 |.bl b=>.bool b
 |.int i=>.int i
 |.str x=>.str x
 |.tup ds=>.tuple (cQ ds)
 |.lst ds=>.list (cQ ds)
 |.frz _=>.none
 |.cell _=>.none
 |.fn _=>.none
 |.exc _ _=>.none
def cQ:List D->List PyData
 |[]=>[]
 |d::r=>toPy d::cQ r
end
def qE:∀(n:Nat) (d:D),aC n d=true->(toPy d).canLay0=true/\(toPy d).depth<=n:=by
 have all:∀(n:Nat),(∀d,aC n d=true->(toPy d).canLay0=true/\(toPy d).depth<=n)->∀ds:List D,ds.all (aC n)=true->PyData.canLayAll0 (cQ ds)=true/\PyData.depthAll (cQ ds)<=n:=by
  intro n h ds;induction ds with
  |nil=>intro _;simp[cQ,PyData.canLayAll0,PyData.depthAll]
  | cons d r ih =>
    intro q;simp only[RJ,Qr] at q;obtain⟨h1,h2⟩:=h d q.1;obtain⟨h3,h4⟩:=ih q.2;simp only[cQ,PyData.canLayAll0,PyData.depthAll,h1,h3,Bool.and_self,true_and];omega
 intro n;induction n with
 | zero =>
   intro d h;cases d with
   |str x=>exact{by simpa[toPy,PyData.canLay0,PyData.strOk,aC] using h,by simp[toPy,PyData.depth]}
   |tup _=>simp[aC] at h
   |lst _=>simp[aC] at h
   |frz _=>simp[aC] at h
   |cell _=>simp[aC] at h
   |fn _=>simp[aC] at h
   |exc y p=>simp[aC] at h
   |_=>exact{by simp[toPy,PyData.canLay0],by simp[toPy,PyData.depth]}
 | succ n ih =>
   intro d h;cases d with
   |str x=>exact{by simpa[toPy,PyData.canLay0,PyData.strOk,aC] using h,by simp[toPy,PyData.depth]}
   | tup ds =>
     obtain⟨h1,h2⟩:=all n ih ds (by simpa[aC] using h)
     simp only[toPy,PyData.canLay0,PyData.depth,h1,true_and];omega
   | lst ds =>
     obtain⟨h1,h2⟩:=all n ih ds (by simpa[aC] using h)
     simp only[toPy,PyData.canLay0,PyData.depth,h1,true_and];omega
   |frz _=>simp[aC] at h
   |cell _=>simp[aC] at h
   |fn _=>simp[aC] at h
   |exc y p=>simp[aC] at h
   |_=>exact{by simp[toPy,PyData.canLay0],by simp[toPy,PyData.depth]}
def jV (h:aC 64 d=true):SeqAt.shaped (toPy d)=true:=by
 obtain⟨h1,h2⟩:=qE 64 d h;simp[SeqAt.shaped,h1,h2]
mutual
def og:∀(n m:Nat) (a b:D),aC n a=true->aC m b=true->PyData.eqv (toPy a) (toPy b)=bS a b
 | n, m, .tup a, .tup b, ha, hb => by
   cases n with
   |zero=>simp[aC] at ha
   | succ n =>
     cases m with
     |zero=>simp[aC] at hb
     | succ m =>
       exact pE n m a b (by simpa[aC] using ha) (by simpa[aC] using hb)
 | n, m, .lst a, .lst b, ha, hb => by
   cases n with
   |zero=>simp[aC] at ha
   | succ n =>
     cases m with
     |zero=>simp[aC] at hb
     | succ m =>
       exact pE n m a b (by simpa[aC] using ha) (by simpa[aC] using hb)
 |n,m,.frz _,_,ha,hb=>by cases n<;>simp[aC] at ha
 |n,m,.cell _,_,ha,hb=>by cases n<;>simp[aC] at ha
 |n,m,.fn _,_,ha,hb=>by cases n<;>simp[aC] at ha
 |n,m,.exc _ _,_,ha,hb=>by cases n<;>simp[aC] at ha
 |n,m,_,.frz _,ha,hb=>by cases m<;>simp[aC] at hb
 |n,m,_,.cell _,ha,hb=>by cases m<;>simp[aC] at hb
 |n,m,_,.fn _,ha,hb=>by cases m<;>simp[aC] at hb
 |n,m,_,.exc _ _,ha,hb=>by cases m<;>simp[aC] at hb
 |_,_,.non,.non,_,_=>by first|rfl|simp[toPy,PyData.eqv];rfl
 |_,_,.non,.bl _,_,_=>by first|rfl|simp[toPy,PyData.eqv];rfl
 |_,_,.non,.int _,_,_=>by first|rfl|simp[toPy,PyData.eqv];rfl
 |_,_,.non,.str _,_,_=>by first|rfl|simp[toPy,PyData.eqv];rfl
 |_,_,.non,.tup _,_,_=>by first|rfl|simp[toPy,PyData.eqv];rfl
 |_,_,.non,.lst _,_,_=>by first|rfl|simp[toPy,PyData.eqv];rfl
 |_,_,.bl _,.non,_,_=>by first|rfl|simp[toPy,PyData.eqv];rfl
 |_,_,.bl _,.bl _,_,_=>by first|rfl|simp[toPy,PyData.eqv];rfl
 |_,_,.bl _,.int _,_,_=>by first|rfl|simp[toPy,PyData.eqv];rfl
 |_,_,.bl _,.str _,_,_=>by first|rfl|simp[toPy,PyData.eqv];rfl
 |_,_,.bl _,.tup _,_,_=>by first|rfl|simp[toPy,PyData.eqv];rfl
 |_,_,.bl _,.lst _,_,_=>by first|rfl|simp[toPy,PyData.eqv];rfl
 |_,_,.int _,.non,_,_=>by first|rfl|simp[toPy,PyData.eqv];rfl
 |_,_,.int _,.bl _,_,_=>by first|rfl|simp[toPy,PyData.eqv];rfl
 |_,_,.int _,.int _,_,_=>by first|rfl|simp[toPy,PyData.eqv];rfl
 |_,_,.int _,.str _,_,_=>by first|rfl|simp[toPy,PyData.eqv];rfl
 |_,_,.int _,.tup _,_,_=>by first|rfl|simp[toPy,PyData.eqv];rfl
 |_,_,.int _,.lst _,_,_=>by first|rfl|simp[toPy,PyData.eqv];rfl
 |_,_,.str _,.non,_,_=>by first|rfl|simp[toPy,PyData.eqv];rfl
 |_,_,.str _,.bl _,_,_=>by first|rfl|simp[toPy,PyData.eqv];rfl
 |_,_,.str _,.int _,_,_=>by first|rfl|simp[toPy,PyData.eqv];rfl
 |_,_,.str _,.str _,_,_=>by first|rfl|simp[toPy,PyData.eqv];rfl
 |_,_,.str _,.tup _,_,_=>by first|rfl|simp[toPy,PyData.eqv];rfl
 |_,_,.str _,.lst _,_,_=>by first|rfl|simp[toPy,PyData.eqv];rfl
 |_,_,.tup _,.non,_,_=>by first|rfl|simp[toPy,PyData.eqv];rfl
 |_,_,.tup _,.bl _,_,_=>by first|rfl|simp[toPy,PyData.eqv];rfl
 |_,_,.tup _,.int _,_,_=>by first|rfl|simp[toPy,PyData.eqv];rfl
 |_,_,.tup _,.str _,_,_=>by first|rfl|simp[toPy,PyData.eqv];rfl
 |_,_,.tup _,.lst _,_,_=>by first|rfl|simp[toPy,PyData.eqv];rfl
 |_,_,.lst _,.non,_,_=>by first|rfl|simp[toPy,PyData.eqv];rfl
 |_,_,.lst _,.bl _,_,_=>by first|rfl|simp[toPy,PyData.eqv];rfl
 |_,_,.lst _,.int _,_,_=>by first|rfl|simp[toPy,PyData.eqv];rfl
 |_,_,.lst _,.str _,_,_=>by first|rfl|simp[toPy,PyData.eqv];rfl
 |_,_,.lst _,.tup _,_,_=>by first|rfl|simp[toPy,PyData.eqv];rfl
def pE:∀(n m:Nat) (a b:List D),a.all (aC n)=true->b.all (aC m)=true->PyData.eqvAll (cQ a) (cQ b)=dU a b
 |n,m,[],[],_,_=>by simp[cQ,PyData.eqvAll,dU]
 |n,m,[],_::_,_,_=>by simp[cQ,PyData.eqvAll,dU]
 |n,m,_::_,[],_,_=>by simp[cQ,PyData.eqvAll,dU]
 | n, m, x :: a, y :: b, ha, hb => by
   simp only[RJ,Qr] at ha hb;simp only[cQ,PyData.eqvAll,dU];rw[og n m x y ha.1 hb.1,pE n m a b ha.2 hb.2]
end
section
variable{fa:Fa}{X:Cx}{μ:Mu}{H:Hp}{σ:L2.St}{pins:List (Addr×Obj)}{s:Qm}{M:Mem}
def jA (hM:RelM fa X.K μ H M)(h:Rep fa X.K μ H d v)(e:jC M d=some ds):∃a vs,v=.ref a/\H a=some (.lst vs)/\aK fa X.K μ H ds vs:=by
 cases d with
 | lst xs =>
   cases e;obtain⟨a,vs,e,s,r⟩:=h;exact⟨a,vs,e,s.1,r⟩
 | cell k =>
   obtain⟨a,rfl,hk⟩:=h;obtain⟨vs,h2,h3⟩:=hM.at_ e hk;exact⟨a,vs,rfl,h2,h3⟩
 |_=>cases e
def bN (hM:RelM fa X.K μ H M)(h:Rep fa X.K μ H d v)(e:fo M d=some ds):∃a vs,v=.ref a/\cW X.K H a vs/\aK fa X.K μ H ds vs:=by
 cases d with
 | lst xs =>
   obtain⟨a,vs,h1,h2,h3⟩:=jA hM h e;exact{a,vs,h1,.of h2,h3}
 | frz xs =>
   cases e;obtain⟨a,vs,e,s,r⟩:=h;exact{a,vs,e,s.elim (λz=>.inl (.inr z)) .inr,r}
 | cell k =>
   obtain⟨a,vs,h1,h2,h3⟩:=jA hM h e;exact{a,vs,h1,.of h2,h3}
 |_=>cases e
def jz (hM:RelM fa X.K μ H M)(h:Rep fa X.K μ H d v)(e:cE M d=some ds):∃a vs,v=.ref a/\(cW X.K H a vs\/dQ X.K H a vs)/\aK fa X.K μ H ds vs:=by
 cases d with
 | tup xs =>
   cases e;obtain⟨a,vs,rfl,h1,h2⟩:=h;exact{a,vs,rfl,.inr h1,h2}
 | lst xs =>
   obtain⟨a,vs,h1,h2,h3⟩:=bN hM h e;exact{a,vs,h1,.inl h2,h3}
 | frz xs =>
   obtain⟨a,vs,h1,h2,h3⟩:=bN hM h e;exact{a,vs,h1,.inl h2,h3}
 | cell k =>
   obtain⟨a,vs,h1,h2,h3⟩:=bN hM h e;exact{a,vs,h1,.inl h2,h3}
 |_=>cases e
mutual
def eG (I:Inv X pins σ H s):∀(d:D) (n:Nat) (v:V) (u:Qi),aC n d=true->Rep fa X.K μ H d v->RelV v u->∃as,Reads s.heap u (toPy d) as
 | .non, n, v, u, _, h, r => by
   obtain rfl:v=.non:=h;obtain rfl:u=Value.none:=r;exact{_,.none}
 | .bl b, n, v, u, _, h, r => by
   obtain rfl:v=.bl b:=h;obtain rfl:u=Value.bool b:=r;exact{_,.bool b}
 | .int i, n, v, u, _, h, r => by
   obtain rfl:v=.int i:=h;obtain⟨t,rfl⟩:=r;exact{_,.int i t}
 | .str x, n, v, u, _, h, r => by
   obtain rfl:v=.str x:=h;obtain⟨t,rfl⟩:=r;exact{_,.str x t}
 | .tup ds, n, v, u, hp, h, r => by
   cases n with
   |zero=>simp[aC] at hp
   | succ n =>
     obtain⟨a,vs,rfl,h1,h2⟩:=h;obtain rfl:u=Value.ref a:=r;obtain⟨its,rv,⟨o,e1,e2,k,e3⟩,_⟩:=I.tuple h1;obtain⟨as,q⟩:=fN I ds n vs its (by simpa[aC] using hp) h2 rv
     exact{_,.tuple e1 e2 e3 (by simpa using q)}
 | .lst ds, n, v, u, hp, h, r => by
   cases n with
   |zero=>simp[aC] at hp
   | succ n =>
     obtain⟨a,vs,rfl,h1,h2⟩:=h;obtain rfl:u=Value.ref a:=r;obtain⟨its,rv,⟨o,k,e1,e2,e4,e3⟩,_⟩:=I.list (cW.of h1.1);obtain⟨as,q⟩:=fN I ds n vs its (by simpa[aC] using hp) h2 rv
     exact{_,.list e1 e2 e3 (by simpa using q)}
 |.frz k,n,v,u,hp,_,_=>by cases n<;>simp[aC] at hp
 |.cell k,n,v,u,hp,_,_=>by cases n<;>simp[aC] at hp
 |.fn f,n,v,u,hp,_,_=>by cases n<;>simp[aC] at hp
 |.exc _ _,n,v,u,hp,_,_=>by cases n<;>simp[aC] at hp
def fN (I:Inv X pins σ H s):∀(ds:List D) (n:Nat) (vs:List V) (us:List Qi),ds.all (aC n)=true->aK fa X.K μ H ds vs->Vals vs us->∃as,ReadsAll s.heap us (cQ ds) as
 | [], n, vs, us, _, h, r => by
   obtain rfl:vs=[]:=h;cases r;exact{_,.nil}
 | d :: ds, n, vs, us, hp, h, r => by
   obtain⟨v,vr,rfl,h1,h2⟩:=h;simp only[RJ,Qr] at hp;cases r with
   | cons r1 r2 =>
     obtain⟨as,q1⟩:=eG I d n v _ hp.1 h1 r1;obtain⟨bs,q2⟩:=fN I ds n vr _ hp.2 h2 r2;exact{_,.cons q1 q2}
end
def F0 (h:aC n (view M d)=true):(view M d=d/\aC n d=true)\/∃ds,fo M d=some ds/\view M d=.lst ds:=by
 cases d with
 | cell k =>
   cases e:M[k]? with
   | none =>
     have ev:view M (.cell k)=.cell k:=by simp[view,e]
     rw[ev] at h;cases n<;>simp[aC] at h
   |some ds=>exact .inr {ds,e,by simp[view,e]}
 |frz ds=>exact .inr ⟨ds,rfl,rfl⟩
 |_=>exact .inl ⟨rfl,h⟩
def lE (I:Inv X pins σ H s)(hM:RelM fa X.K μ H M)(hp:aC 64 (view M d)=true)(h:Rep fa X.K μ H d v)(r:RelV v u):∃as,Reads s.heap u (toPy (view M d)) as:=by
 rcases F0 hp with⟨e,hp'⟩|⟨ds,e,ev⟩
 ·rw[e];exact eG I _ 64 v u hp' h r
 ·rw[ev] at hp ⊢;obtain⟨a,vs,rfl,h1,h2⟩:=bN hM h e;obtain rfl:u=Value.ref a:=r;obtain⟨its,rv,⟨o,k,e1,e2,e4,e3⟩,_⟩:=I.list h1;obtain⟨as,q⟩:=fN I ds 63 vs its (by simpa[aC] using hp) h2 rv
  exact{_,.list e1 e2 e3 (by simpa using q)}
def km (I:Inv X pins σ H s)(hM:RelM fa X.K μ H M):∀(n m:Nat) (d:D) (v:V) (u:Qi),aC m (dI n M d)=true->Rep fa X.K μ H d v->RelV v u->∃as,Reads s.heap u (toPy (dI n M d)) as
 |0,m,d,v,u,hp,h,r=>eG I d m v u hp h r
 | n + 1, m, d, v, u, hp, h, r => by
   have ih:=km I hM n;have all:∀(m:Nat) (ds:List D) (vs:List V) (us:List Qi),(ds.map (dI n M)).all (aC m)=true->aK fa X.K μ H ds vs->Vals vs us->∃as,ReadsAll s.heap us (cQ (ds.map (dI n M))) as:=by
    intro m ds;induction ds with
    | nil =>
      intro vs us _ h r;obtain rfl:vs=[]:=h;cases r;exact{_,.nil}
    | cons d ds ihl =>
      intro vs us hp h r;obtain⟨v,vr,rfl,h1,h2⟩:=h;simp only[RI,RJ,Qr] at hp;cases r with
      | cons r1 r2 =>
        obtain⟨as,q1⟩:=ih m d v _ hp.1 h1 r1;obtain⟨bs,q2⟩:=ihl vr _ hp.2 h2 r2;exact{_,.cons q1 q2}
   have lst:∀(ds:List D) (a:Addr) (vs:List V),aC m (.lst (ds.map (dI n M)))=true->cW X.K H a vs->aK fa X.K μ H ds vs->u=.ref a->∃as,Reads s.heap u (toPy (.lst (ds.map (dI n M)))) as:=by
    intro ds a vs hp h1 h2 e;subst e;cases m with
    |zero=>simp[aC] at hp
    | succ m =>
      obtain⟨its,rv,⟨o,k,e1,e2,e4,e3⟩,_⟩:=I.list h1;obtain⟨as,q⟩:=all m ds vs its (by simpa[aC] using hp) h2 rv
      exact{_,.list e1 e2 e3 (by simpa using q)}
   cases d with
   | cell k =>
     cases e:M[k]? with
     | none =>
       have ev:dI (n+1) M (.cell k)=.cell k:=by simp[dI,e]
       rw[ev] at hp;cases m<;>simp[aC] at hp
     | some ds =>
       have ev:dI (n+1) M (.cell k)=.lst (ds.map (dI n M)):=by simp[dI,e]
       rw[ev] at hp ⊢;obtain⟨a,vs,rfl,h1,h2⟩:=bN hM h e;exact lst ds a vs hp h1 h2 r
   | frz ds =>
     obtain⟨a,vs,rfl,h1,h2⟩:=bN hM h rfl;exact lst ds a vs hp h1 h2 r
   | lst ds =>
     obtain⟨a,vs,rfl,h1,h2⟩:=bN hM h rfl;exact lst ds a vs hp h1 h2 r
   | tup ds =>
     have hp:aC m (.tup (ds.map (dI n M)))=true:=hp;cases m with
     |zero=>simp[aC] at hp
     | succ m =>
       obtain⟨a,vs,rfl,h1,h2⟩:=h;obtain rfl:u=Value.ref a:=r;obtain⟨its,rv,⟨o,e1,e2,k,e3⟩,_⟩:=I.tuple h1;obtain⟨as,q⟩:=all m ds vs its (by simpa[aC] using hp) h2 rv
       exact{_,.tuple e1 e2 e3 (by simpa using q)}
   |non=>exact eG I .non m v u hp h r
   |bl b=>exact eG I (.bl b) m v u hp h r
   |int i=>exact eG I (.int i) m v u hp h r
   |str x=>exact eG I (.str x) m v u hp h r
   |fn f=>exact eG I (.fn f) m v u hp h r
   |exc y p=>exact eG I (.exc y p) m v u hp h r
abbrev Rm (X:Cx):Prop:=X.A.units+100<cLine
noncomputable def g5 (fa:Fa)(K:Qh)(o:jS):R2:=λx y H Q=>∃μ M dx dy b,RelM fa K μ H M/\Rep fa K μ H dx x/\Rep fa K μ H dy y/\bH o dx dy M=some b/\Q (.bl b) H
def u3 (hs:(ip a&&ip b)=false)(h:m8 a b=some k):aC 64 a=true/\aC 64 b=true/\k=bS a b:=by
 unfold m8 at h;rw[hs,Bool.false_or] at h;split at h
 ·next q=>
  simp only[Qr] at q;exact{q.1,q.2,(Qv h).symm}
 ·cases h
def uR (d:D):ip (view M d)=ip d:=by
 cases d with
 |cell k=>cases e:M[k]?<;>simp[view,e,ip]
 |_=>rfl
def sj (n:Nat)(d:D):ip (dI n M d)=ip d:=by
 cases n with
 |zero=>rfl
 | succ n =>
   cases d with
   |cell k=>cases e:M[k]?<;>simp[dI,e,ip]
   |_=>rfl
def sy (I:Inv X pins σ H s)(hM:RelM fa X.K μ H M)(hs:(ip a&&ip b)=false)(h:m7 M a b=some k)(h1:Rep fa X.K μ H a x)(h2:Rep fa X.K μ H b y)(rx:RelV x v)(ry:RelV y u) :
 ∃c e as bs,aC 64 c=true/\aC 64 e=true/\k=bS c e/\Reads s.heap v (toPy c) as/\Reads s.heap u (toPy e) bs:=by
 unfold m7 at h;cases q:m8 (view M a) (view M b) with
 | some r =>
   rw[q] at h;cases h;obtain⟨p1,p2,e⟩:=u3 (by rw[uR,uR];exact hs) q
   obtain⟨as,r1⟩:=lE I hM p1 h1 rx;obtain⟨bs,r2⟩:=lE I hM p2 h2 ry;exact{_,_,as,bs,p1,p2,e,r1,r2}
 | none =>
   rw[q] at h;obtain⟨p1,p2,e⟩:=u3 (by rw[sj,sj];exact hs) h
   obtain⟨as,r1⟩:=km I hM 64 64 a x v p1 h1 rx;obtain⟨bs,r2⟩:=km I hM 64 64 b y u p2 h2 ry;exact{_,_,as,bs,p1,p2,e,r1,r2}
def tY (h:(ip a&&ip b)=true):∃x y,a=.str x/\b=.str y:=by
 cases a with
 | str x =>
   cases b with
   |str y=>exact⟨x,y,rfl,rfl⟩
   |_=>cases h
 |_=>cases h
def xl:m7 M (.str x) (.str y)=some (x==y):=by
 have e:bS (.str x) (.str y)=(x==y):=rfl;rw[<- e];rfl
def PK (hu:Rm X):bU X (compareOp .Eq) (g5 fa X.K .eq):=by
 intro pins s σ H x y v u Q I rx ry h;obtain⟨μ,M,dx,dy,b,hM,h1,h2,e,q⟩:=h;cases hs:ip dx&&ip dy with
 | true =>
   obtain⟨i,j,rfl,rfl⟩:=tY hs;obtain rfl:x=.str i:=h1;obtain rfl:y=.str j:=h2;obtain rfl:(i==j)=b:=Qv (xl.symm.trans e);exact MR pins s σ H _ _ v u Q I rx ry {rfl,by rw[oo];exact q}
 | false =>
   obtain⟨_,_,as,bs,p1,p2,rfl,r1,r2⟩:=sy I hM hs (e) h1 h2 rx ry;refine SeqAt.compareEq_shaped r1 r2 (jV p1) (jV p2) (by unfold Rm at hu;omega) ?_
   rw[og 64 64 _ _ p1 p2];exact{.bl _,H,I,rfl,q}
def PB (hu:Rm X):bU X (compareOp .NotEq) (g5 fa X.K .ne):=by
 intro pins s σ H x y v u Q I rx ry h;obtain⟨μ,M,dx,dy,b,hM,h1,h2,e,q⟩:=h;have e:(m7 M dx dy).map (!·)=some b:=e;cases e':m7 M dx dy with
 |none=>rw[e'] at e;cases e
 | some k =>
   rw[e'] at e;obtain rfl:(!k)=b:=Qv e;cases hs:ip dx&&ip dy with
   | true =>
     obtain⟨i,j,rfl,rfl⟩:=tY hs;obtain rfl:x=.str i:=h1;obtain rfl:y=.str j:=h2;obtain rfl:(i==j)=k:=Qv (xl.symm.trans e');exact MM pins s σ H _ _ v u Q I rx ry {rfl,by rw[oo];exact q}
   | false =>
     obtain⟨_,_,as,bs,p1,p2,rfl,r1,r2⟩:=sy I hM hs e' h1 h2 rx ry;refine SeqAt.compareNe_shaped r1 r2 (jV p1) (jV p2) (by unfold Rm at hu;omega) ?_
     rw[og 64 64 _ _ p1 p2];exact{.bl _,H,I,rfl,q}
end
section
variable{fa:Fa}{X:Cx}{μ:Mu}{H:Hp}{σ:L2.St}{pins:List (Addr×Obj)}{s:Qm}{M:Mem}
def iL (h:bU X f r)(i:∀x y H Q,r' x y H Q->r x y H Q):bU X f r':=λpins s σ H x y v u Q I rx ry q=>h pins s σ H x y v u Q I rx ry (i x y H Q q)
def mf (h:cY X f r)(i:∀xs H Q,r' xs H Q->r xs H Q):cY X f r':=λpins s σ H xs us Q I rx q=>h pins s σ H xs us Q I rx (i xs H Q q)
def oq {g:Int->Int->Bool}(ho:o=.lt\/o=.le\/o=.gt\/o=.ge)(hg:∀i j,bH o (.int i) (.int j) []=some (g i j))(h:g5 fa X.K o x y H Q) :
 ∃i j,x=.int i/\y=.int j/\Q (.bl (g i j)) H:=by
 obtain⟨μ,M,dx,dy,b,hM,h1,h2,e,q⟩:=h;have key:∀i j,dx=.int i->dy=.int j->∃i j,x=.int i/\y=.int j/\Q (.bl (g i j)) H:=λi j e1 e2=>by
  subst e1 e2;have e3:bH o (.int i) (.int j) M=some (g i j):=by
   have:=hg i j;rcases ho with rfl|rfl|rfl|rfl<;>exact this
  rw[e] at e3;have e4:=Qv e3;subst e4;exact⟨i,j,h1,h2,q⟩
 rcases ho with rfl|rfl|rfl|rfl<;>
 ·cases dx with
  |int i=>cases dy<;>first|exact key _ _ rfl rfl|cases e
  |_=>cases e
def PC:bU X (compareOp .Lt) (g5 fa X.K .lt):=iL MN λx y H Q h=>oq (.inl rfl) (λ_ _=>rfl) h
def PD:bU X (compareOp .LtE) (g5 fa X.K .le):=iL MO λx y H Q h=>oq (.inr (.inl rfl)) (λ_ _=>rfl) h
def PH:bU X (compareOp .Gt) (g5 fa X.K .gt):=iL MP λx y H Q h=>oq (.inr (.inr (.inl rfl))) (λ_ _=>rfl) h
def PJ:bU X (compareOp .GtE) (g5 fa X.K .ge):=iL MQ λx y H Q h=>oq (.inr (.inr (.inr rfl))) (λ_ _=>rfl) h
def wz {K:Qh}(h:Rep fa K μ H d v):decide (v=.non)=fh d:=by
 cases d with
 |non=>obtain rfl:v=.non:=h;rfl
 |bl b=>obtain rfl:v=.bl b:=h;rfl
 |int b=>obtain rfl:v=.int b:=h;rfl
 |str b=>obtain rfl:v=.str b:=h;rfl
 |tup b=>obtain⟨a,vs,rfl,_⟩:=h;rfl
 |lst b=>obtain⟨a,vs,rfl,_⟩:=h;rfl
 |frz b=>obtain⟨a,vs,rfl,_⟩:=h;rfl
 |cell b=>obtain⟨a,rfl,_⟩:=h;rfl
 |fn b=>obtain⟨a,rfl,_⟩:=h;rfl
 |exc y p=>obtain⟨a,_,_,rfl,_⟩:=h;rfl
def NM:bU X (compareOp .Is) (g5 fa X.K .isN):=iL Kb λx y H Q h=>by
 obtain⟨μ,M,dx,dy,b,hM,h1,h2,e,q⟩:=h;cases dy<;>first|cases (show(none:Option Bool)=some b from e)|skip
 refine{h2,?_};rw[wz h1];rw[Qv e];exact q
def LU:bU X (compareOp .IsNot) (g5 fa X.K .notN):=iL Hf λx y H Q h=>by
 obtain⟨μ,M,dx,dy,b,hM,h1,h2,e,q⟩:=h;cases dy<;>first|cases (show(none:Option Bool)=some b from e)|skip
 refine{h2,?_};rw[wz h1];rw[Qv e];exact q
def vM (x:D)(hx:aC 64 x=true):∀(ds:List D),ds.all (aC 63)=true->((cQ ds).any λy=>PyData.eqv y (toPy x))=ds.any λy=>bS y x
 |[],_=>rfl
 | d :: r, h => by
   simp only[RJ,Qr] at h;simp only[cQ,List.any_cons,og 63 64 d x h.1 hx,vM x hx r h.2]
def tU (n:Nat):∀ds:List D,ds.all (aC n)=true->PyData.canLayAll0 (cQ ds)=true/\PyData.depthAll (cQ ds)<=n
 |[],_=>by simp[cQ,PyData.canLayAll0,PyData.depthAll]
 | d :: r, h => by
   simp only[RJ,Qr] at h;obtain⟨h1,h2⟩:=qE n d h.1;obtain⟨h3,h4⟩:=tU n r h.2;simp only[cQ,PyData.canLayAll0,PyData.depthAll,h1,h3,Bool.and_self,true_and];omega
def Ar (I:Inv X pins σ H s)(hM:RelM fa X.K μ H M)(hp:ds.all (aC 63)=true)(h:Rep fa X.K μ H d v)(r:RelV v u)(e:cE M d=some ds) :
 (∃as,Reads s.heap u (.list (cQ ds)) as)\/∃as,Reads s.heap u (.tuple (cQ ds)) as:=by
 obtain⟨a,vs,rfl,h1,h2⟩:=jz hM h e;obtain rfl:u=Value.ref a:=r;rcases h1 with h1|h1
 ·obtain⟨its,rv,⟨o,k,e1,e2,e4,e3⟩,_⟩:=I.list h1;obtain⟨as,q⟩:=fN I ds 63 vs its hp h2 rv;exact .inl {_,.list e1 e2 e3 (by simpa using q)}
 ·obtain⟨its,rv,⟨o,e1,e2,k,e3⟩,_⟩:=I.tuple h1;obtain⟨as,q⟩:=fN I ds 63 vs its hp h2 rv;exact .inr {_,.tuple e1 e2 e3 (by simpa using q)}
def Bm (hu:Rm X)(I:Inv X pins σ H s)(hM:RelM fa X.K μ H M)(h1:Rep fa X.K μ H dx x)(h2:Rep fa X.K μ H dy y)(rx:RelV x v)(ry:RelV y u)
 (e1:cE M dy=some ds) (e2:uT (view M dx) ds=some b) (neg:Bool) (q:Q (.bool (if neg then !b else b)) s):wpAny (model X.prog X.w) X.A (compareOp (if neg then .NotIn else .In) v u) Q X.xe s:=by
 unfold uT at e2;split at e2
 ·next z=>
  simp only[Qr] at z;obtain⟨p1,p2⟩:=z;have e3:=Qv e2;subst e3;obtain⟨as,r1⟩:=lE I hM p1 h1 rx;obtain⟨c1,d1⟩:=qE 64 _ p1;obtain⟨c2,d2⟩:=tU 63 ds p2;have hu':X.A.units+1+min (PyData.depthAll (cQ ds)) (toPy (view M dx)).depth<cLine:=by unfold Rm at hu;omega
  rw[<- vM _ p1 ds p2] at q;rcases Ar I hM p2 h2 ry e1 with⟨bs,r2⟩|⟨bs,r2⟩
  ·cases neg
   ·exact SeqAt.in_list_reads r2 r1 c2 c1 hu' q
   ·exact SeqAt.notIn_list_reads r2 r1 c2 c1 hu' q
  ·cases neg
   ·exact SeqAt.in_tuple_reads r2 r1 c2 c1 hu' q
   ·exact SeqAt.notIn_tuple_reads r2 r1 c2 c1 hu' q
 ·cases e2
def PF (hu:Rm X):bU X (compareOp .In) (g5 fa X.K .isin):=by
 intro pins s σ H x y v u Q I rx ry h;obtain⟨μ,M,dx,dy,b,hM,h1,h2,e,q⟩:=h;have gen:(cE M dy).bind (uT (view M dx))=some b->wpAny (model X.prog X.w) X.A (compareOp .In v u) (EP X pins σ Q) X.xe s:=λe=>by
  cases e1:cE M dy with
  |none=>rw[e1] at e;cases e
  | some ds =>
    rw[e1] at e;exact Bm hu I hM h1 h2 rx ry e1 e false {.bl b,H,I,rfl,q}
 by_cases hs:(∃a,dx=.str a)/\∃c,dy=.str c
 ·obtain⟨⟨a,rfl⟩,c,rfl⟩:=hs;have e':=Qv e;subst e';exact AM pins s σ H x y v u Q I rx ry ⟨a,c,h1,h2,q⟩
 ·refine gen ?_;cases dx<;>first|exact e|(cases dy<;>first|exact e|exact absurd {{_,rfl},_,rfl} hs)
def Im (hu:Rm X):bU X (compareOp .NotIn) (g5 fa X.K .notin):=by
 intro pins s σ H x y v u Q I rx ry h;obtain⟨μ,M,dx,dy,b,hM,h1,h2,e,q⟩:=h;have gen:((cE M dy).bind (uT (view M dx))).map (!·)=some b->wpAny (model X.prog X.w) X.A (compareOp .NotIn v u) (EP X pins σ Q) X.xe s:=λe=>by
  cases e1:cE M dy with
  |none=>rw[e1] at e;cases e
  | some ds =>
    rw[e1] at e;cases e2:uT (view M dx) ds with
    |none=>rw[Option.bind_some,e2] at e;cases e
    | some k =>
      rw[Option.bind_some,e2] at e;have e':=Qv e;subst e';exact Bm hu I hM h1 h2 rx ry e1 e2 true {.bl _,H,I,rfl,q}
 by_cases hs:(∃a,dx=.str a)/\∃c,dy=.str c
 ·obtain⟨⟨a,rfl⟩,c,rfl⟩:=hs;have e':=Qv e;subst e';exact uo pins s σ H x y v u Q I rx ry ⟨a,c,h1,h2,q⟩
 ·refine gen ?_;cases dx<;>first|exact e|(cases dy<;>first|exact e|exact absurd {{_,rfl},_,rfl} hs)
noncomputable def fi:jS->CmpOp
 |.eq=>.Eq|.ne=>.NotEq|.lt=>.Lt|.le=>.LtE|.gt=>.Gt|.ge=>.GtE|.isN=>.Is|.notN=>.IsNot|.isin=>.In|.notin=>.NotIn
def ow (hu:Rm X):∀o:jS,bU X (compareOp (fi o)) (g5 fa X.K o)
 |.eq=>PK hu|.ne=>PB hu|.lt=>PC|.le=>PD|.gt=>PH|.ge=>PJ|.isN=>NM|.notN=>LU|.isin=>PF hu|.notin=>Im hu
noncomputable def mL (fa:Fa)(K:Qh)(m:Bool)(o:oR):R2:=λx y H Q=>∃μ M dx dy,RelM fa K μ H M/\Rep fa K μ H dx x/\Rep fa K μ H dy y/\ae (f6 m o dx dy M) (a8 fa K μ H Q)
def aV (hM:RelM fa X.K μ H M)(h:a8 fa X.K μ H Q d M)(r:Rep fa X.K μ H d v):Q v H:=h v H μ .refl hM r
def fF (hM:RelM fa X.K μ H M)(r:aK fa X.K μ H ds vs)(h:ae (ba m ds M) (a8 fa X.K μ H Q)):ds.length<=sz/\∀p,H p=none->Q (.ref p) (upd H p (.lst vs)):=by
 unfold ba at h;split at h
 ·next hz=>
  refine{hz,λp hp=>?_};cases m with
  | true =>
    exact h (.ref p) _ (fP μ M.length p) (Ext.cell hM hp) (hM.cell hp r) {p,rfl,by simp[fP]}
  | false =>
    exact h (.ref p) _ μ (Ext.alloc hM hp) (hM.alloc hp) {p,vs,rfl,{cD,hM.fresh hp},r.ext (Ext.alloc hM hp)}
 ·exact h.elim
def iq (hM:RelM fa X.K μ H M)(r:aK fa X.K μ H ds vs)(h:a8 fa X.K μ H Q (.tup ds) M):∀p,H p=none->Q (.ref p) (upd H p (.tup vs)):=λp hp=>
 h (.ref p) _ μ (Ext.alloc hM hp) (hM.alloc hp) {p,vs,rfl,.of cD,r.ext (Ext.alloc hM hp)}
def dR:sz=sizeLine:=by rw[sizeLine_eq];rfl
def C0:bU X (binaryOp .Add) (λx y H Q=>∃a b ys,x=.ref a/\y=.ref b/\dQ X.K H a []/\dQ X.K H b ys/\Q (.ref b) H):=by
 intro pins s σ H x y v u Q I rx ry h;obtain⟨a,b,ys,rfl,rfl,ha,hb,q⟩:=h;cases rx;cases ry;obtain⟨its,r1,p1,_⟩:=I.tuple ha;obtain⟨its2,r2,p2,_⟩:=I.tuple hb;cases r1;obtain⟨⟨cls,dd,data,sl⟩,ho,hc,n,hd⟩:=id p1;obtain⟨⟨cls2,dd2,data2,sl2⟩,ho2,hc2,n2,hd2⟩:=id p2;subst hc hd hc2 hd2;exact concat_meets {_,ho,rfl} {_,ho2,rfl} noFill_tuple_add seq_tuple_add PySem.F.slot_tuple_add PySem.F.entry_tuple_add (PySem.F.args_tuple_add_2 _ _)
  (tuple_addW0 a b #[] its2.toArray n n2 dd dd2 sl sl2 rfl) {ho,ho2,{.ref b,H,I,rfl,q}}
def DQ (I:Inv X pins σ H s)(hM:RelM fa X.K μ H M)(h1:Rep fa X.K μ H dx x)(h2:Rep fa X.K μ H dy y)(rx:RelV x v)(ry:RelV y u)
 (h:ae (match jC M dx,jC M dy with|some x,some y=>ba m (x++y) M|_,_=>.bad) (a8 fa X.K μ H Q)):wpAny (model X.prog X.w) X.A (binaryOp .Add v u) (EP X pins σ Q) X.xe s:=by
 cases e1:jC M dx with
 |none=>rw[e1] at h;exact h.elim
 | some xs =>
   cases e2:jC M dy with
   |none=>rw[e1,e2] at h;exact h.elim
   | some ys =>
     rw[e1,e2] at h;obtain⟨a,vs,rfl,ha,ra⟩:=jA hM h1 e1;obtain⟨b,ws,rfl,hb,rb⟩:=jA hM h2 e2;obtain⟨hz,k⟩:=fF hM (ra.append rb) h;refine Kc pins s σ H _ _ v u Q I rx ry {a,b,vs,ws,rfl,rfl,ha,hb,?_,k};rw[ra.length,rb.length,<- QO,<- dR];exact hz
def NX (m:Bool):bU X (binaryOp .Add) (mL fa X.K m .add):=by
 intro pins s σ H x y v u Q I rx ry h;obtain⟨μ,M,dx,dy,hM,h1,h2,h⟩:=h;have hi:∀i j,dx=.int i->dy=.int j->wpAny (model X.prog X.w) X.A (binaryOp .Add v u) (EP X pins σ Q) X.xe s:=λi j e1 e2=>by
  subst e1 e2;exact Kd pins s σ H x y v u Q I rx ry {i,j,h1,h2,aV hM h rfl}
 have hs:∀i j,dx=.str i->dy=.str j->wpAny (model X.prog X.w) X.A (binaryOp .Add v u) (EP X pins σ Q) X.xe s:=λi j e1 e2=>by
  subst e1 e2;have h:ae (if i.cps.size+j.cps.size<=sz then .ok (.str {i.cps++j.cps}) M else .bad) (a8 fa X.K μ H Q):=h;split at h
  ·next hz=>exact ym pins s σ H x y v u Q I rx ry {i,j,h1,h2,by rw[<- dR];exact hz,aV hM h rfl}
  ·exact h.elim
 have ht:∀i j,dx=.tup i->dy=.tup j->wpAny (model X.prog X.w) X.A (binaryOp .Add v u) (EP X pins σ Q) X.xe s:=λi j e1 e2=>by
  subst e1 e2;have h:ae (if (i++j).length<=sz then .ok (.tup (i++j)) M else .bad) (a8 fa X.K μ H Q):=h;split at h
  ·next hz=>
   obtain⟨a,vs,e1,ha,ra⟩:=id h1;obtain⟨b,ws,e2,hb,rb⟩:=id h2;by_cases h0:i=[]
   ·subst h0;obtain rfl:vs=[]:=ra;exact C0 pins s σ H x y v u Q I rx ry {a,b,ws,e1,e2,ha,hb,aV hM h ⟨b,ws,rfl,hb,rb⟩}
   ·have hv:vs≠[]:=λz=>h0 (by have:=ra.length;rw[z] at this;exact Sb.mp this.symm)
    refine Hh pins s σ H x y v u Q I rx ry {a,b,vs,ws,e1,e2,ha,hb,hv,?_,λz=>?_,λ_=>iq hM (ra.append rb) h}
    ·rw[ra.length,rb.length,<- QO,<- dR];exact hz
    ·subst z;have ej:=Sb.mp rb.length.symm;subst ej;exact aV hM h {a,vs,rfl,ha,by simpa using ra}
  ·exact h.elim
 cases dx<;>cases dy<;>first|exact hi _ _ rfl rfl|exact hs _ _ rfl rfl|exact ht _ _ rfl rfl|exact DQ (m:=m) I hM h1 h2 rx ry h
def tB {g:Int->Int->Int}(hr:bU X (binaryOp op) (rI C λi j=>.int (g i j)))
 (hD:∀dx dy M (P:D->Mem->Prop),ae (f6 m o dx dy M) P->∃i j,dx=.int i/\dy=.int j/\C i j/\P (.int (g i j)) M):bU X (binaryOp op) (mL fa X.K m o):=iL hr λx y H Q h=>by
 obtain⟨μ,M,dx,dy,hM,h1,h2,h⟩:=h;obtain⟨i,j,rfl,rfl,c,q⟩:=hD dx dy M _ h;exact{i,j,h1,h2,c,aV hM q rfl}
def NR (m:Bool):bU X (binaryOp .Sub) (mL fa X.K m .sub):=tB (C:=λ_ _=>True) (iL J6 λx y H Q ⟨i,j,e1,e2,_,q⟩=>⟨i,j,e1,e2,q⟩) λdx dy M P h=>by
 cases dx<;>cases dy<;>first|exact{_,_,rfl,rfl,trivial,h}|exact h.elim
def LX (m:Bool):bU X (binaryOp .FloorDiv) (mL fa X.K m .fdiv):=tB Hg λdx dy M P h=>by
 have key:∀i j,dx=.int i->dy=.int j->∃i j,dx=.int i/\dy=.int j/\Mm i j/\P (.int (i / j)) M:=λi j e1 e2=>by
  subst e1 e2;have h:ae (if 0<j/\j<1073741824 then .ok (.int (i / j)) M else .bad) P:=h;split at h
  ·next c=>exact⟨i,j,rfl,rfl,c,h⟩
  ·exact h.elim
 cases dx<;>cases dy<;>first|exact key _ _ rfl rfl|exact h.elim
def NU (m:Bool):bU X (binaryOp .Mod) (mL fa X.K m .mod):=tB Ka λdx dy M P h=>by
 have key:∀i j,dx=.int i->dy=.int j->∃i j,dx=.int i/\dy=.int j/\0<j/\P (.int (i % j)) M:=λi j e1 e2=>by
  subst e1 e2;have h:ae (if 0<j then .ok (.int (i % j)) M else .bad) P:=h;split at h
  ·next c=>exact⟨i,j,rfl,rfl,c,h⟩
  ·exact h.elim
 cases dx<;>cases dy<;>first|exact key _ _ rfl rfl|exact h.elim
def NS (m:Bool):bU X (binaryOp .Pow) (mL fa X.K m .pow):=tB J8 λdx dy M P h=>by
 have key:∀i j,dx=.int i->dy=.int j->∃i j,dx=.int i/\dy=.int j/\Ml i j/\P (.int (i^j.toNat)) M:=λi j e1 e2=>by
  subst e1 e2;have h:ae (if 0<=j/\j<=1000000/\i.natAbs<2^64 then .ok (.int (i^j.toNat)) M else .bad) P:=h;split at h
  ·next c=>exact⟨i,j,rfl,rfl,c,h⟩
  ·exact h.elim
 cases dx<;>cases dy<;>first|exact key _ _ rfl rfl|exact h.elim
def CO {j:Int}(I:Inv X pins σ H s)(hM:RelM fa X.K μ H M)(h1:Rep fa X.K μ H dx x)(h2:Rep fa X.K μ H (.int j) y)(rx:RelV x v)(ry:RelV y u)
 (h:ae (match jC M dx with|some x=>if x.length*j.toNat<=sz/\-(2^63)<=j/\j<2^63 then ba m (List.replicate j.toNat x).flatten M else .bad|none=>.bad) (a8 fa X.K μ H Q)) :
 wpAny (model X.prog X.w) X.A (binaryOp .Mult v u) (EP X pins σ Q) X.xe s:=by
 cases e1:jC M dx with
 |none=>rw[e1] at h;exact h.elim
 | some xs =>
   rw[e1] at h;simp only at h;split at h
   ·next c=>
    obtain⟨a,vs,rfl,ha,ra⟩:=jA hM h1 e1;obtain⟨hz,k⟩:=fF hM (ra.rep j.toNat) h;exact J7 pins s σ H _ _ v u Q I rx ry {a,j,vs,rfl,h2,ha,c.2.1,c.2.2,by rw[ra.length,<- dR];exact c.1,k}
   ·exact h.elim
end
end LD
namespace LD
open PySem PySem.Spec PyProof.Rows L2 PySem.Builtin
open PySem.Sem (wp)
def pf:fillsNumberSlot (.type "tuple") "mul"=pure false:=
 PySem.fillsNumberSlot_seq F.slot_tuple_mul.lookup `k F.slot_tuple_rmul.lookup `k
def uc:seqRepeat? (.type "tuple")=pure (some (.builtin "tuple.__mul__")):=by
 unfold seqRepeat?;rw[PySem.seqSlot_of (name:="__mul__") F.slot_tuple_mul.lookup `k,PySem.seqSlot_of (name:="__rmul__") F.slot_tuple_rmul.lookup `k]
 rfl
def qH (a:Int)(t:Tok)(l:Addr)(items:Array Qi)(n:Nat)(dd:Option Addr)(sl:Array (Option Qi)) :
 Meets (Builtin.«int.__rmul__» {[.int a t,.ref l],[]}) (λ_ R s=>s.heap.get? l=some {cls:=.type "tuple",dict:=dd,data:=.seq items n,slots:=sl}/\R (.ok (.ret Value.notImplemented)) s):=
 .of_wp λprog w A R s h=>by obtain⟨hp,g,d,tk,os⟩:=s;obtain⟨hl,h⟩:=h;wp_walk using wpAny_loadPart' hl;exact{_,rfl,h}
def yk {x:Int}(h0:-(2^63)<=x)(h1:x<2^63):(decide (x < -2^63)||decide (x≥2^63))=false:=by
 rw[decide_eq_false `a,decide_eq_false `a];rfl
def qS (l:Addr)(items:Array Qi)(n:Nat)(dd:Option Addr)(sl:Array (Option Qi))(x:Int)(u:Tok)(h0:-(2^63)<=x)(h1:x<2^63)(hc:(items.isEmpty||x==1)=true) :
 Meets (Builtin.«tuple.__mul__» {[.ref l,.int x u],[]}) (λ_ R s=>s.heap.get? l=some {cls:=.type "tuple",dict:=dd,data:=.seq items n,slots:=sl}/\R (.ok (.ret (.ref l))) s):=
 .of_wp λprog w A R s h=>by
  obtain⟨hp,g,d,tk,os⟩:=s;obtain⟨hl,h⟩:=h;have f1:=AutoSeq1.idx_int;wp_walk using wpAny_loadPart' hl
  refine wpAny_ite_false (by rw[yk h0 h1];rfl) ?_
  wp_walk using wpAny_loadPart' hl
  exact{_,rfl,h}
def qT (l:Addr)(items:Array Qi)(n:Nat)(dd:Option Addr)(sl:Array (Option Qi))(x:Int)(u:Tok)(h0:-(2^63)<=x)(h1:x<2^63)(hc:(items.isEmpty||x==1)=false)(hc1:(decide (x<=0)||items.isEmpty)=true) :
 Meets (Builtin.«tuple.__mul__» {[.ref l,.int x u],[]}) (λ_ R s=>s.heap.get? l=some {cls:=.type "tuple",dict:=dd,data:=.seq items n,slots:=sl}/\R (.ok (.ret (.ref s.heap.objs.size))) {s with heap:=s.heap.push {cls:=Value.type "tuple",data:=Data.seq #[]},toks:=s.toks}):=
 .of_wp λprog w A R s h=>by
  obtain⟨hp,g,d,tk,os⟩:=s;obtain⟨hl,h⟩:=h;have f1:=AutoSeq1.idx_int;wp_walk using wpAny_loadPart' hl
  refine wpAny_ite_false (by rw[yk h0 h1];rfl) ?_
  wp_walk using wpAny_loadPart' hl
  exact{_,rfl,h}
def qU (l:Addr)(items:Array Qi)(n:Nat)(dd:Option Addr)(sl:Array (Option Qi))(x:Int)(u:Tok)(h0:-(2^63)<=x)(h1:x<2^63)(hc:(items.isEmpty||x==1)=false)(hc1:(decide (x<=0)||items.isEmpty)=false)
 (hs:(items.size:Int)*x<=16777216) (hs2:(List.foldl (λx1 x2=>x1++x2) #[] (List.replicate x.toNat items)).size<=sizeLine) :
 Meets (Builtin.«tuple.__mul__» {[.ref l,.int x u],[]}) (λ_ R s=>s.heap.get? l=some {cls:=.type "tuple",dict:=dd,data:=.seq items n,slots:=sl}/\R (.ok (.ret (.ref s.heap.objs.size))) {s with heap:=s.heap.push {cls:=Value.type "tuple",data:=Data.seq (List.foldl (λx1 x2=>x1++x2) #[] (List.replicate x.toNat items))},toks:=s.toks}):=
 .of_wp λprog w A R s h=>by
  obtain⟨hp,g,d,tk,os⟩:=s;obtain⟨hl,h⟩:=h;have f1:=AutoSeq1.idx_int;wp_walk using wpAny_loadPart' hl
  refine wpAny_ite_false (by rw[yk h0 h1];rfl) ?_
  wp_walk using wpAny_loadPart' hl
  refine wpAny_ite_false (decide_eq_false `a) ?_
  wp_walk using wpAny_loadPart' hl
  refine wpAny_ite_false (decide_eq_false (by unfold Tuple.tupleTooMany;rw[sizeLine_eq];simp;omega)) ?_
  wp_walk using wpAny_loadPart' hl
  exact{_,rfl,h}
section
variable{fa:Fa}{X:Cx}{μ:Mu}{H:Hp}{σ:L2.St}{pins:List (Addr×Obj)}{s:Qm}{M:Mem}
def rZ (its:List Qi)(m:Nat):List.foldl (λx1 x2=>x1++x2) #[] (List.replicate m its.toArray)=(List.replicate m its).flatten.toArray:=by
 have:=foldl_rep its m [];rw[SK] at this;exact this
def He:bU X (binaryOp .Mult) (λx y H Q=>∃l k xs,x=.ref l/\y=.int k/\dQ X.K H l xs/\-(2^63)<=k/\k<2^63/\xs.length*k.toNat<=sz/\
 ((List.replicate k.toNat xs).flatten=xs->Q (.ref l) H)/\∀p,H p=none->Q (.ref p) (upd H p (.tup (List.replicate k.toNat xs).flatten))):=by
 intro pins s σ H x y v u Q I rx ry h;obtain⟨l,k,xs,rfl,rfl,hq,h1,h2,hz,q1,q2⟩:=h;cases rx;obtain⟨t,rfl⟩:=ry;obtain⟨its,r,p,hzz⟩:=I.tuple hq;have hl:=r.length;obtain⟨⟨cls,dd,data,sl⟩,ho,hc,n,hd⟩:=id p;subst hc hd;refine wpAny_binaryOp_repeat_ref `d {_,ho,rfl} (λs'=>typeIs_int s' k t) pf F.fills_int_mul F.slot_int_rmul uc F.slot_int_index.lookup
  (call_meets F.slot_int_rmul (typeIs_int s k t) F.entry_int_rmul (F.args_int_rmul_2 _ _) (qH k t l its.toArray n dd sl) {ho,rfl,{_,ho,rfl},?_})
 have new:∀(its':List Qi),Vals (List.replicate k.toNat xs).flatten its'->EP X pins σ Q (.ref s.heap.objs.size) {s with heap:=s.heap.push {cls:=Value.type "tuple",data:=Data.seq its'.toArray}}:=λits' r'=>by
  refine{.ref s.heap.objs.size,_,I.laid (λb ob q=>Qk _ q) (Ql _) ?_,rfl,q2 _ (I.hok.fresh (Ql _))};exact{by rw[len_rep,Nat.mul_comm,<- dR];exact hz,_,r',IsTup.new _ _}
 by_cases c1:(its.toArray.isEmpty||k==1)=true
 ·refine call_meets F.slot_tuple_mul {_,ho,rfl} F.entry_tuple_mul (F.args_tuple_mul_2 _ _) (qS l its.toArray n dd sl k t h1 h2 c1) {ho,{.ref l,H,I,rfl,q1 ?_}};rcases Bool.or_eq_true_iff.mp c1 with z|z
  ·have e:its=[]:=by simpa using z
   subst e;have e2:=Sb.mp hl;subst e2;simp
  ·have e:k=1:=by simpa using z
   subst e;simp
 ·have c1':(its.toArray.isEmpty||k==1)=false:=by simpa using c1
  by_cases c2:(decide (k<=0)||its.toArray.isEmpty)=true
  ·refine call_meets F.slot_tuple_mul {_,ho,rfl} F.entry_tuple_mul (F.args_tuple_mul_2 _ _) (qT l its.toArray n dd sl k t h1 h2 c1' c2) {ho,new [] ?_};have hk:k<=0:=by
    rcases Bool.or_eq_true_iff.mp c2 with z|z
    ·simpa using z
    ·rw[z] at c1';cases c1'
   have hk0:k.toNat=0:=`a
   rw[hk0];exact .nil
  ·have c2':(decide (k<=0)||its.toArray.isEmpty)=false:=by simpa using c2
   have hk:0<k:=by
    have:=(Bool.or_eq_false_iff.mp c2').1;simpa using this
   have hs:(its.toArray.size:Int)*k<=16777216:=by
    have e1:(its.toArray.size:Int)*k=((xs.length*k.toNat:Nat):Int):=by
     rw[Qy,<- hl,Int.natCast_mul,Int.toNat_of_nonneg `a]
    rw[e1];have:xs.length*k.toNat<=16777216:=hz;omega
   have hs2:(List.foldl (λx1 x2=>x1++x2) #[] (List.replicate k.toNat its.toArray)).size<=sizeLine:=by
    rw[rZ,Qy,len_rep,Nat.mul_comm,<- hl,<- dR];exact hz
   refine call_meets F.slot_tuple_mul {_,ho,rfl} F.entry_tuple_mul (F.args_tuple_mul_2 _ _) (qU l its.toArray n dd sl k t h1 h2 c1' c2' hs hs2) {ho,?_};rw[rZ];exact new _ (r.rep k.toNat)
def NT (m:Bool):bU X (binaryOp .Mult) (mL fa X.K m .mul):=by
 intro pins s σ H x y v u Q I rx ry h;obtain⟨μ,M,dx,dy,hM,h1,h2,h⟩:=h;have hi:∀i j,dx=.int i->dy=.int j->wpAny (model X.prog X.w) X.A (binaryOp .Mult v u) (EP X pins σ Q) X.xe s:=λi j e1 e2=>by
  subst e1 e2;have h:ae (if (-(2^64)<i/\i<2^64)\/(-(2^64)<j/\j<2^64) then .ok (.int (i*j)) M else .bad) (a8 fa X.K μ H Q):=h;split at h
  ·next c=>exact J9 pins s σ H x y v u Q I rx ry {i,j,h1,h2,c,aV hM h rfl}
  ·exact h.elim
 have ht:∀i j,dx=.tup i->dy=.int j->wpAny (model X.prog X.w) X.A (binaryOp .Mult v u) (EP X pins σ Q) X.xe s:=λi j e1 e2=>by
  subst e1 e2;have h:ae (if i.length*j.toNat<=sz/\-(2^63)<=j/\j<2^63 then .ok (.tup (List.replicate j.toNat i).flatten) M else .bad) (a8 fa X.K μ H Q):=h;split at h
  ·next c=>
   obtain⟨a,vs,e1,ha,ra⟩:=id h1;refine He pins s σ H x y v u Q I rx ry {a,j,vs,e1,h2,ha,c.2.1,c.2.2,by rw[ra.length];exact c.1,λz=>?_,iq hM (ra.rep j.toNat) h}
   refine aV hM h {a,vs,rfl,ha,?_};have:=ra.rep j.toNat;rw[z] at this;exact this
  ·exact h.elim
 have hl:∀j,dy=.int j->ae (match jC M dx with|some x=>if x.length*j.toNat<=sz/\-(2^63)<=j/\j<2^63 then ba m (List.replicate j.toNat x).flatten M else .bad|none=>.bad) (a8 fa X.K μ H Q)->
  wpAny (model X.prog X.w) X.A (binaryOp .Mult v u) (EP X pins σ Q) X.xe s:=λj e1 h'=>by
  subst e1;exact CO I hM h1 h2 rx ry h'
 cases dy with
 |int j=>cases dx<;>first|exact hi _ _ rfl rfl|exact ht _ _ rfl rfl|exact hl _ rfl h
 |_=>cases dx<;>exact h.elim
noncomputable def binOp:oR->Operator
 |.add=>.Add|.sub=>.Sub|.mul=>.Mult|.fdiv=>.FloorDiv|.mod=>.Mod|.pow=>.Pow
def NV (m:Bool):∀o:oR,bU X (binaryOp (binOp o)) (mL fa X.K m o)
 |.add=>NX m|.sub=>NR m|.mul=>NT m|.fdiv=>LX m|.mod=>NU m|.pow=>NS m
end
end LD
namespace LD
open PySem PySem.Spec PyProof.Rows L2
section
variable{fa:Fa}{X:Cx}{μ:Mu}{H:Hp}{σ:L2.St}{pins:List (Addr×Obj)}{s:Qm}{M:Mem}
def KY (h:kj X r)(i:∀x y H Q,r' x y H Q->r x y H Q):kj X r':=λvalue slice pins s σ H x y v u Q I rx ry q hs=>h value slice pins s σ H x y v u Q I rx ry (i x y H Q q) hs
noncomputable def rIdx (fa:Fa)(K:Qh):R2:=λx y H Q=>∃μ M dx dy d,RelM fa K μ H M/\Rep fa K μ H dx x/\Rep fa K μ H dy y/\b7 dx dy M=some d/\a8 fa K μ H Q d M
def uQ (n:Nat)(i:Int):LD.cw n i=L2.cw n i:=rfl
def Na:kj X (rIdx fa X.K):=KY KW λx y H Q h=>by
 obtain⟨μ,M,dx,dy,d,hM,h1,h2,e,q⟩:=h;have gen:∀i,dy=.int i->((cE M dx).bind λds=>(LD.cw ds.length i).bind λj=>ds[j]?)=some d->JM X.K x y H Q:=λi e0 e'=>by
  subst e0;clear e;have e:=e';clear e';cases e1:cE M dx with
  |none=>rw[e1] at e;cases e
  | some ds =>
    rw[e1,Option.bind_some] at e;obtain⟨a,vs,rfl,hq,r⟩:=jz hM h1 e1;cases e2:LD.cw ds.length i with
    |none=>rw[e2] at e;cases e
    | some j =>
      rw[e2,Option.bind_some] at e;obtain⟨v,hv,rv⟩:=r.get e;have he:sT vs i=some v:=by
       unfold sT;rw[r.length,<- uQ,e2];exact hv
      rcases hq with hq|hq
      ·exact .inl {a,vs,i,v,rfl,h2,hq,he,aV hM q rv}
      ·exact .inr (.inl {a,vs,i,v,rfl,h2,hq,he,aV hM q rv})
 have str:∀z i,dx=.str z->dy=.int i->JM X.K x y H Q:=λz i e1 e2=>by
  subst e1 e2;have e:(if z.cps.size<=sz then(LD.cw z.cps.size i).bind λj=>(z.cps[j]?).map λc=>D.str {#[c]} else none)=some d:=e;split at e
  ·next hz=>
   cases e2:LD.cw z.cps.size i with
   |none=>rw[e2] at e;cases e
   | some j =>
     rw[e2,Option.bind_some] at e;cases e3:z.cps[j]? with
     |none=>rw[e3] at e;cases e
     | some c =>
       rw[e3] at e;have e4:=Qv e;subst e4;refine .inr (.inr {z,i,c,h1,h2,by rw[<- dR];exact hz,?_,aV hM q rfl})
       unfold sT;rw[show z.cps.toList.length=z.cps.size by simp,<- uQ,e2]
       simpa using e3
  ·cases e
 cases dy with
 |int i=>cases dx<;>first|exact str _ _ rfl rfl|exact gen _ rfl e
 |_=>cases dx<;>cases (e)
def Jo (h:nH X r)(i:∀x lo hi H Q,r' x lo hi H Q->r x lo hi H Q):nH X r':=λpins s σ H x v vl vu lo hi sl Q I rx hs pl pu q=>h pins s σ H x v vl vu lo hi sl Q I rx hs pl pu (i x lo hi H Q q)
noncomputable def p9:D->Option (Option Int)
 |.non=>some none
 |.int i=>some (some i)
 |_=>none
def ua (n d:Nat)(x:D):LD.aS n d x=(p9 x).map (HT.aS n d):=by
 cases x<;>rfl
def t9:nH X (λx lo hi H Q=>∃a xs,x=.ref a/\dQ X.K H a xs/\(HT.aS xs.length 0 lo=0/\HT.aS xs.length xs.length hi=xs.length)/\Q (.ref a) H):=by
 intro pins s σ H x v vl vu lo hi sl Q I rx hs pl pu h;obtain⟨a,xs,rfl,hx,hw,q⟩:=h;cases rx;obtain⟨its,r,ht,hz⟩:=I.tuple hx;refine{"tuple",_,Rn.lookup,ht.typeIs,?_};have hlen:its.toArray.size=xs.length:=by rw[Qy];exact r.length.symm
 rw[<- hlen] at hw;obtain⟨os,hos,hcs,hds⟩:=id hs;have hTs:s.TypeIs (.ref sl) "slice":=⟨os,hos,hcs⟩;unfold getItem;try with_reducible refine tqo ?_
 first|refine tqa (tqb ?_)|skip
 refine tqa (wpAny_sequenceKey ht.typeIs `d ?_)
 refine tqa (wpAny_callSpecial?_slot ht.typeIs Rn
  (wpAny_call_entry Rn ht.typeIs entry_tuple_getitem ?_ (args_tuple_getitem _ _)))
 show wpAny _ _ (Builtin.Tuple.tupleItemsOf (.ref a) >>= _) _ _ s;refine tqa (tupleItemsOf_ ht ?_);refine tqa (wpAny_typeOf hTs ?_);rw[if_pos `d]
 refine tqa (HT.jx hs pl pu ?_);have hyes:(((HT.aS its.toArray.size 0 lo:Nat):Int)==0&&(1:Int)==1&&(HT.aS its.toArray.size its.toArray.size hi-HT.aS its.toArray.size 0 lo)==its.toArray.size)=true:=by
  rw[hw.1,hw.2];simp
 show wpAny _ _ (if (((HT.aS its.toArray.size 0 lo:Nat):Int)==0&&(1:Int)==1&&(HT.aS its.toArray.size its.toArray.size hi-HT.aS its.toArray.size 0 lo)==its.toArray.size)=true then _ else _) _ _ s;rw[if_pos hyes];refine tqa ?_;refine tqa (wpAny_typeOf ht.typeIs ?_);refine tqb ?_;rw[if_pos `d]
 exact tqa (wpAny_rule (tqb {_,rfl,tqb {.ref a,H,I,rfl,q}}))
noncomputable def OS (fa:Fa)(K:Qh)(m:Bool):V->Option Int->Option Int->Hp->VK->Prop:=λx lo hi H Q=>∃μ M dx dl dh,RelM fa K μ H M/\Rep fa K μ H dx x/\p9 dl=some lo/\p9 dh=some hi/\ae (gY m dx dl dh M) (a8 fa K μ H Q)
def GI (m:Bool):nH X (OS fa X.K m):=by
 refine Jo (GJ.or (Jn.or t9)) λx lo hi H Q h=>?_;obtain⟨μ,M,dx,dl,dh,hM,h1,e1,e2,h⟩:=h;have gen:ae (match fo M dx with
  | some xs => match LD.aS xs.length 0 dl, LD.aS xs.length xs.length dh with
    |some l,some h=>ba m (cut xs l h) M
    |_,_=>.bad
  |none=>.bad) (a8 fa X.K μ H Q)->JH X.K x lo hi H Q:=λh=>by
  cases e:fo M dx with
  |none=>rw[e] at h;exact h.elim
  | some xs =>
    rw[e] at h;simp only[ua,e1,e2,Option.map_some] at h;obtain⟨a,vs,rfl,hq,r⟩:=bN hM h1 e;have hl:=r.length;obtain⟨_,k⟩:=fF hM ((r.drop (HT.aS xs.length 0 lo)).take (HT.aS xs.length xs.length hi-HT.aS xs.length 0 lo)) h;refine{a,vs,rfl,hq,?_};unfold nj;rw[hl];exact k
 have tup:∀xs,dx=.tup xs->JG X.K x lo hi H Q\/∃a xs,x=.ref a/\dQ X.K H a xs/\(HT.aS xs.length 0 lo=0/\HT.aS xs.length xs.length hi=xs.length)/\Q (.ref a) H:=λxs e=>by
  subst e;have h:ae (match LD.aS xs.length 0 dl,LD.aS xs.length xs.length dh with
   |some l,some h=>.ok (.tup (cut xs l h)) M
   |_,_=>.bad) (a8 fa X.K μ H Q):=h
  simp only[ua,e1,e2,Option.map_some] at h;obtain⟨a,vs,rfl,hq,r⟩:=h1;have hl:=r.length;by_cases hw:HT.aS vs.length 0 lo=0/\HT.aS vs.length vs.length hi=vs.length
  ·refine .inr {a,vs,rfl,hq,hw,?_};rw[hl] at hw;have e3:cut xs (HT.aS xs.length 0 lo) (HT.aS xs.length xs.length hi)=xs:=by rw[hw.1,hw.2];simp[cut]
   rw[e3] at h;exact aV hM h ⟨a,vs,rfl,hq,r⟩
  ·refine .inl {a,vs,rfl,hq,hw,?_};have k:=iq hM ((r.drop (HT.aS xs.length 0 lo)).take (HT.aS xs.length xs.length hi-HT.aS xs.length 0 lo)) h;unfold nj;rw[hl];exact k
 cases dx<;>first|exact .inr (tup _ rfl)|exact .inl (gen h)
noncomputable def qJ (fa:Fa)(K:Qh)(f:xQ):List V->Hp->VK->Prop:=λvs H Q=>∃μ M ds,RelM fa K μ H M/\aK fa K μ H ds vs/\ae (gJ f ds M) (a8 fa K μ H Q)
def s8 {d:D}{vs:List V}{K:Qh}(h:aK fa K μ H [d] vs):∃v,vs=[v]/\Rep fa K μ H d v:=by
 obtain⟨v,r,rfl,h1,h2⟩:=h;obtain rfl:r=[]:=h2;exact⟨v,rfl,h1⟩
def Nj:cY X (.builtin "len") (qJ fa X.K .len):=mf (vw.or vt) λvs H Q h=>by
 obtain⟨μ,M,ds,hM,r,h⟩:=h
 match ds,r,h with
 |[],_,h=>exact h.elim
 |d::_::_,_,h=>cases d<;>exact h.elim
 | [d], r, h =>
   obtain⟨v,rfl,hv⟩:=s8 r;have gen:ae (match cE M d with|some xs=>.ok (.int xs.length) M|none=>.bad) (a8 fa X.K μ H Q)->∃p ys,[v]=[.ref p]/\(cW X.K H p ys\/dQ X.K H p ys)/\Q (.int ys.length) H:=λh=>by
    cases e:cE M d with
    |none=>rw[e] at h;exact h.elim
    | some xs =>
      rw[e] at h;obtain⟨a,vs,rfl,hq,r⟩:=jz hM hv e;refine{a,vs,rfl,hq,?_};rw[r.length];exact aV hM h rfl
   have str:∀x,d=.str x->∃z,[v]=[V.str z]/\z.length<=sizeLine/\Q (.int z.length) H:=λx e=>by
    subst e;have h:ae (if x.cps.size<=sz then .ok (.int x.cps.size) M else .bad) (a8 fa X.K μ H Q):=h;split at h
    ·next c=>exact{x,by rw[show v=.str x from hv],by rw[<- dR];exact c,aV hM h rfl}
    ·exact h.elim
   cases d<;>first|exact .inr (str _ rfl)|exact .inl (gen h)
def HH:cY X (.type "tuple") (qJ fa X.K .tuple):=mf sZ λvs H Q h=>by
 obtain⟨μ,M,ds,hM,r,h⟩:=h
 match ds,r,h with
 |[],_,h=>exact h.elim
 |d::_::_,_,h=>cases d<;>exact h.elim
 | [d], r, h =>
   obtain⟨v,rfl,hv⟩:=s8 r;have gen:ae (match fo M d with|some xs=>.ok (.tup xs) M|none=>.bad) (a8 fa X.K μ H Q)->∃p ys,[v]=[.ref p]/\((cW X.K H p ys/\∀l,H l=none->Q (.ref l) (upd H l (.tup ys)))\/(dQ X.K H p ys/\Q (.ref p) H)):=λh=>by
    cases e:fo M d with
    |none=>rw[e] at h;exact h.elim
    | some xs =>
      rw[e] at h;obtain⟨a,vs,rfl,hq,r⟩:=bN hM hv e;exact{a,vs,rfl,.inl {hq,iq hM r h}}
   have tup:∀x,d=.tup x->∃p ys,[v]=[.ref p]/\((cW X.K H p ys/\∀l,H l=none->Q (.ref l) (upd H l (.tup ys)))\/(dQ X.K H p ys/\Q (.ref p) H)):=λx e=>by
    subst e;obtain⟨a,vs,rfl,hq,r⟩:=id hv;exact{a,vs,rfl,.inr {hq,aV hM h hv}}
   cases d<;>first|exact tup _ rfl|exact gen h
def Le (m:Bool):cY X (.type "list") (qJ fa X.K (.list m)):=mf vq λvs H Q h=>by
 obtain⟨μ,M,ds,hM,r,h⟩:=h
 match ds,r,h with
 |[],_,h=>exact h.elim
 |_::_::_,_,h=>exact h.elim
 | [d], r, h =>
   obtain⟨v,rfl,hv⟩:=s8 r;have h:ae (match cE M d with|some xs=>ba m xs M|none=>.bad) (a8 fa X.K μ H Q):=h
   cases e:cE M d with
   |none=>rw[e] at h;exact h.elim
   | some xs =>
     rw[e] at h;obtain⟨a,vs,rfl,hq,r⟩:=jz hM hv e;obtain⟨_,k⟩:=fF hM r h;exact⟨a,vs,rfl,hq,k⟩
end
section
variable{fa:Fa}{X:Cx}{μ:Mu}{H:Hp}{σ:L2.St}{pins:List (Addr×Obj)}{s:Qm}{M:Mem}
def OA (hM:RelM fa X.K μ H M)(h:Rep fa X.K μ H d v)(e:ko M d=some k):D4 X.K v H k:=by
 cases d with
 |non=>obtain rfl:v=.non:=h;exact(Qv e).symm
 |bl b=>obtain rfl:v=.bl b:=h;exact(Qv e).symm
 |int i=>obtain rfl:v=.int i:=h;exact(Qv e).symm
 | str x =>
   obtain rfl:v=.str x:=h;have e:(if x.cps.size<=sz then some (x.cps.size != 0) else none)=some k:=e;split at e
   ·next c=>
    refine{by rw[<- dR];exact c,?_}
    rw[<- Qv e];show(x.cps.size != 0)=((x.cps.size:Int) != 0);rw[Rp];simp
   ·cases e
 | tup ds =>
   obtain⟨a,vs,rfl,hq,r⟩:=h;refine .inr (.inl {vs,hq,?_});rw[<- Qv e];have:=r.length;cases vs<;>cases ds<;>simp_all
 | lst ds =>
   obtain⟨a,vs,rfl,hq,r⟩:=bN hM h rfl;refine .inl {vs,hq,?_};rw[<- Qv e];have:=r.length;cases vs<;>cases ds<;>simp_all
 | frz ds =>
   obtain⟨a,vs,rfl,hq,r⟩:=bN hM h rfl;refine .inl {vs,hq,?_};rw[<- Qv e];have:=r.length;cases vs<;>cases ds<;>simp_all
 | cell c =>
   have e:(M[c]?).map (λds=>!ds.isEmpty)=some k:=e;cases e1:M[c]? with
   |none=>rw[e1] at e;cases e
   | some ds =>
     rw[e1] at e;obtain⟨a,vs,rfl,hq,r⟩:=bN hM h e1;refine .inl {vs,hq,?_};rw[<- Qv e];have:=r.length;cases vs<;>cases ds<;>simp_all
 |fn f=>cases e
 |exc y p=>cases e
def Ax:∀{ds:List D}{bs:List Bool}{vs:List V}{us:List Qi},boolsOf ds=some bs->aK fa X.K μ H ds vs->Vals vs us->PyProof.Rows.LSm.BoolsAre us bs:=by
 intro ds;induction ds with
 | nil =>
   intro bs vs us e h r;obtain rfl:vs=[]:=h;cases r;cases e;exact .nil
 | cons d ds ih =>
   intro bs vs us e h r;obtain⟨v,vr,rfl,h1,h2⟩:=h;cases r with
   | cons r1 r2 =>
     cases d with
     | bl b =>
       have e:(boolsOf ds).map (b::·)=some bs:=e;cases e1:boolsOf ds with
       |none=>rw[e1] at e;cases e
       | some cs =>
         rw[e1] at e;have e2:=Qv e;subst e2;obtain rfl:v=.bl b:=h1;obtain rfl:_=Value.bool b:=r1;exact .cons b (ih e1 h2 r2)
     |_=>cases e
def rD:cY X (.builtin "all") (λxs H Q=>∃μ ds bs p vs,xs=[.ref p]/\X.calm=true/\cW X.K H p vs/\aK fa X.K μ H ds vs/\boolsOf ds=some bs/\Q (.bl (bs.all id)) H):=by
 intro pins s σ H xs us Q I r h;obtain⟨μ,ds,bs,p,vs,rfl,hc,hq,rl,eb,q⟩:=h;obtain⟨u,rfl,rx⟩:=vals1 r;cases rx;obtain⟨its,rv,pl,hz⟩:=I.list hq;have hb:=Ax eb rl rv;have hlt:=pl.lt;refine call_all_walk (wpAny_pyIter_list pl.isList ?_);refine{s.heap.objs.size,[s.heap.objs.size,p],[s.heap.objs.size],its.toArray.size,_,_,λi=>(bs[i]?).getD true,rfl,Walks.list (A:=X.A.in1) (I.ok.hd hc) _ p (QY hlt) its.toArray,
  {{_,QG _ rfl,rfl,rfl},pl.isList.push _},λi v s' Q' E' hP hQ=>?_,λh' tk hk=>?_}
 ·obtain⟨b,e,rfl⟩:=hb.get i v (by simpa using hP)
  simp only[e,Option.getD_some] at hQ;exact tqp hQ
 ·have e:((List.range its.toArray.size).all λi=>(bs[i]?).getD true)=bs.all id:=by
   rw[Qy,hb.length];exact PyProof.Rows.LSm.range_all bs
  rw[e];exact{.bl _,H,I.kept (PyProof.Rows.LSm.kept_iter hk),rfl,q}
def CN:∀{ds:List D}{bs:List Int}{vs:List V}{us:List Qi},intsOf ds=some bs->aK fa X.K μ H ds vs->Vals vs us->Sw us bs:=by
 intro ds;induction ds with
 | nil =>
   intro bs vs us e h r;obtain rfl:vs=[]:=h;cases r;cases e;exact .nil
 | cons d ds ih =>
   intro bs vs us e h r;obtain⟨v,vr,rfl,h1,h2⟩:=h;cases r with
   | cons r1 r2 =>
     cases d with
     | int b =>
       have e:(intsOf ds).map (b::·)=some bs:=e;cases e1:intsOf ds with
       |none=>rw[e1] at e;cases e
       | some cs =>
         rw[e1] at e;have e2:=Qv e;subst e2;obtain rfl:v=.int b:=h1;obtain⟨t,rfl⟩:=r1;exact .cons b t (ih e1 h2 r2)
     |_=>cases e
def Nl (hc:X.calm=true):cY X (.builtin "all") (qJ fa X.K .all):=mf (rD) λvs H Q h=>by
 obtain⟨μ,M,ds,hM,r,h⟩:=h
 match ds,r,h with
 |[],_,h=>exact h.elim
 |d::_::_,_,h=>exact h.elim
 | [d], r, h =>
   obtain⟨v,rfl,hv⟩:=s8 r;have h:ae (match fo M d with|some xs=>(match boolsOf xs with|some bs=>.ok (.bl (bs.all id)) M|none=>.bad)|none=>.bad) (a8 fa X.K μ H Q):=h
   cases e:fo M d with
   |none=>rw[e] at h;exact h.elim
   | some xs =>
     rw[e] at h;simp only at h;cases e2:boolsOf xs with
     |none=>rw[e2] at h;exact h.elim
     | some bs =>
       rw[e2] at h;obtain⟨a,vs,rfl,hq,r⟩:=bN hM hv e;exact{μ,xs,bs,a,vs,rfl,hc,hq,r,e2,aV hM h rfl}
noncomputable def tyName:Ty->String
 |.int=>"int" | .bool=>"bool" | .str=>"str" | .tuple=>"tuple" | .list=>"list" | .own _=>""
noncomputable def N6:D->String
 |.non=>"NoneType" | .bl _=>"bool" | .int _=>"int" | .str _=>"str" | .tup _=>"tuple" | _=>"list"
def Mp (t:Ty)(d:D)(b:Bool)(ht:∀c,t≠.own c)(e:hU t d=some b):PySem.W.kitOne X.K (.type (N6 d)) (.type (tyName t))=some b:=by
 cases t with
 |own c=>exact absurd rfl (ht c)
 |_=>cases d<;>first|(cases (show(none:Option Bool)=some b from e))|(have e':=Qv e;subst e';(first|rfl|decide +kernel))
def Ck (hM:RelM fa X.K μ H M)(h:Rep fa X.K μ H d v)(e:hU t d=some b)(I:Inv X pins σ H s)(r:RelV v u)
 (ek:PySem.W.kitOne X.K (.type (N6 d)) c=some b) (q:∀tk,Q (.bool b) {s with toks:=tk}):wpAny (model X.prog X.w) X.A (call (.builtin "isinstance") [u,c]) Q X.xe s:=by
 cases d with
 |non=>obtain rfl:v=.non:=h;exact j8 I r .non ek q
 |bl x=>obtain rfl:v=.bl x:=h;exact j8 I r (.bl x) ek q
 |int x=>obtain rfl:v=.int x:=h;exact j8 I r (.int x) ek q
 |str x=>obtain rfl:v=.str x:=h;exact j8 I r (.str x) ek q
 | tup ds =>
   obtain⟨a,vs,rfl,hq,_⟩:=h;obtain rfl:u=Value.ref a:=r;obtain⟨its,rv,⟨o,h1,h2,_⟩,_⟩:=I.tuple hq;exact RA PySem.W.kitx_tuple I.kIn ⟨o,h1,h2⟩ ek (λz=>nomatch z) q
 | lst ds =>
   obtain⟨a,vs,rfl,hq,_⟩:=bN hM h rfl;obtain rfl:u=Value.ref a:=r;obtain⟨its,rv,⟨o,n,h1,h2,_⟩,_⟩:=I.list hq;exact RA PySem.W.kitx_list I.kIn ⟨o,h1,h2⟩ ek (λz=>nomatch z) q
 | frz ds =>
   obtain⟨a,vs,rfl,hq,_⟩:=bN hM h rfl;obtain rfl:u=Value.ref a:=r;obtain⟨its,rv,⟨o,n,h1,h2,_⟩,_⟩:=I.list hq;exact RA PySem.W.kitx_list I.kIn ⟨o,h1,h2⟩ ek (λz=>nomatch z) q
 | cell k =>
   obtain⟨a,rfl,hk⟩:=h;obtain⟨ds,vs,_,hq,_⟩:=hM.mu_lt hk;obtain rfl:u=Value.ref a:=r;obtain⟨its,rv,⟨o,n,h1,h2,_⟩,_⟩:=I.list (cW.of hq);exact RA PySem.W.kitx_list I.kIn ⟨o,h1,h2⟩ ek (λz=>nomatch z) q
 |fn f=>cases e
 |exc y p=>cases e
noncomputable def ME (fa:Fa)(K:Qh)(t:Ty):List V->Hp->VK->Prop:=λvs H Q=>∃μ M d v b,vs=[v,.ty (tyName t)]/\RelM fa K μ H M/\Rep fa K μ H d v/\hU t d=some b/\Q (.bl b) H
def Lf (t:Ty)(ht:∀c,t≠.own c):cY X (.builtin "isinstance") (ME fa X.K t):=by
 intro pins s σ H xs us Q I r h;obtain⟨μ,M,d,v,b,rfl,hM,hv,e,q⟩:=h;obtain⟨u,w,rfl,r1,r2⟩:=vals2 r;obtain rfl:w=Value.type (tyName t):=r2;exact Ck hM hv e I r1 (Mp t d b ht e) λtk=>{.bl b,H,I.tok _,rfl,q}
end
section
variable{fa:Fa}{X:Cx}
abbrev DE (fa:Fa)(X:Cx)(e:Expr)(g:Env->Mem->Res D):Prop:=PE X e (tE fa X.K g)
abbrev DT (fa:Fa)(X:Cx)(e:Expr)(g:Env->Mem->Res Bool):Prop:=PT X e (tT fa X.K g)
abbrev DW (fa:Fa)(X:Cx)(e:Expr)(g:Env->Mem->Res Bool):Prop:=PW X e (tT fa X.K g)
abbrev DA (fa:Fa)(X:Cx)(es:List Expr)(g:Env->Mem->Res (List D)):Prop:=PA X es (tA fa X.K g)
abbrev DS (fa:Fa)(X:Cx)(st:Stmt)(g:Env->Mem->Res Fl):Prop:=PS X st (tF fa X g)
abbrev nJ (fa:Fa)(X:Cx)(st:List Stmt)(g:Env->Mem->Res Fl):Prop:=lD X st (tF fa X g)
variable{a b d:Expr}{ga gb gd:Env->Mem->Res D}{pos:Pos}
def Nt {i:Nat}(hN:X.N[i]?=some x)(hv:BQ X.env.scope x)(hd:(x==("__debug__":Str))=false)(hcd:(x==("__classdict__":Str))=false) :
 DE fa X (.Name x pos) (λZ M=>cu M (Z[i]?.getD none)):=bO (AJ hN hv hd hcd) λσ H Q ⟨μ,Z,M,hE,hM,h⟩=>by
 obtain⟨d,e,w⟩:=kU h;have e':Z[i]?=some (some d):=by
  cases q:Z[i]? with
  |none=>rw[q] at e;cases e
  |some o=>rw[q] at e;simp at e;rw[e]
 obtain⟨v,h1,h2⟩:=hE.at' i d e';exact{v,h1,aV hM w h2}
def jr (h:PE X e (tC v))(r:∀μ H,Rep fa X.K μ H dc v):DE fa X e (λ_ M=>.ok dc M):=bO h λσ H Q ⟨μ,Z,M,hE,hM,h⟩=>aV hM h (r μ H)
def NB {i:Int}:DE fa X (.Constant (.int i) j pos) (λ_ M=>.ok (.int i) M):=jr AK λ_ _=>rfl
def Pz:DE fa X (.Constant (.bool i) j pos) (λ_ M=>.ok (.bl i) M):=jr MK λ_ _=>rfl
def Nv:DE fa X (.Constant (.str i) j pos) (λ_ M=>.ok (.str i) M):=jr JZ λ_ _=>rfl
def Fw:DE fa X (.Constant .none j pos) (λ_ M=>.ok .non M):=jr J3 λ_ _=>rfl
def t2 {β:Type}{f:D->D->Mem->Res β}{P:β->Mem->Prop}{R:V->V->Hp->Prop}(hE:bz fa X.K μ H σ Z)(hM:RelM fa X.K μ H M)
 (h:ae ((ga Z M).bind λx M=>(gb Z M).bind λy M=>f x y M) P)
 (k:∀x y M2 v u H2 μ2,Ext μ H μ2 H2->bz fa X.K μ2 H2 σ Z->RelM fa X.K μ2 H2 M2->Rep fa X.K μ2 H2 x v->Rep fa X.K μ2 H2 y u->ae (f x y M2) P->R v u H2) :
 tE fa X.K ga σ H λv H1=>tE fa X.K gb σ H1 λu H2=>R v u H2:=
 t1 hE hM h λx M1 v H1 μ1 x1 hE1 hM1 r1 h1=>t1 hE1 hM1 h1 λy M2 u H2 μ2 x2 hE2 hM2 r2 h2=>k x y M2 v u H2 μ2 (x1.trans x2) hE2 hM2 (r1.ext x2) r2 h2
def NH (m:Bool)(o:oR)(ha:DE fa X a ga)(hb:DE fa X b gb):DE fa X (.BinOp a (binOp o) b pos) (λZ M=>(ga Z M).bind λx M=>(gb Z M).bind λy M=>f6 m o x y M):=
 bO (MI (NV m o) ha hb) λσ H Q ⟨μ,Z,M,hE,hM,h⟩=>t2 hE hM h λx y M2 v u H2 μ2 x2 hE2 hM2 r1 r2 h2=>{μ2,M2,x,y,hM2,r1,r2,kT h2 x2}
def qc {P:D->Mem->Prop}(h:ae ((cu M r).bind λb M=>.ok (.bl b) M) P):∃b,r=some b/\P (.bl b) M:=by
 obtain⟨b,M1,e,q⟩:=aL h;cases r with
 |none=>cases e
 |some b'=>cases e;exact{_,rfl,q}
def NF (hu:Rm X)(o:jS)(ha:DE fa X a ga)(hb:DE fa X b gb)(hm:behindInMarks (fi o) b=false) :
 DE fa X (.Compare a [fi o] [b] pos) (λZ M=>(ga Z M).bind λx M=>(gb Z M).bind λy M=>(cu M (bH o x y M)).bind λb M=>.ok (.bl b) M):=
 bO (qP (ow hu o) ha hb hm) λσ H Q ⟨μ,Z,M,hE,hM,h⟩=>t2 hE hM h λx y M2 v u H2 μ2 x2 hE2 hM2 r1 r2 h2=>by
  obtain⟨b,e,q⟩:=qc h2;exact{μ2,M2,x,y,b,hM2,r1,r2,e,aV hM2 (q.ext x2) rfl}
def Lr (hu:Rm X)(o:jS)(ha:DE fa X a ga)(hb:DE fa X b gb)(hm:behindInMarks (fi o) b=false) :
 DT fa X (.Compare a [fi o] [b] pos) (λZ M=>((ga Z M).bind λx M=>(gb Z M).bind λy M=>(cu M (bH o x y M)).bind λb M=>.ok (.bl b) M).bind λx M=>cu M (ko M x)):=
 kM (qL (ow hu o) ha hb hm) λσ H Q ⟨μ,Z,M,hE,hM,h⟩=>by
  obtain⟨z,M3,e,q⟩:=aL h;have h':ae ((ga Z M).bind λx M=>(gb Z M).bind λy M=>(cu M (bH o x y M)).bind λb M=>.ok (.bl b) M) (λd M=>d=z/\M=M3):=by rw[e];exact⟨rfl,rfl⟩
  refine t2 hE hM h' λx y M2 v u H2 μ2 x2 hE2 hM2 r1 r2 h2=>?_;obtain⟨b,e1,e2,e3⟩:=qc h2;subst e2 e3;exact{μ2,M2,x,y,b,hM2,r1,r2,e1,b,rfl,q H2 μ2 x2 hM2}
def Gh (hb:∀Z M x M',g Z M=.ok x M'->∃k,x=.bl k)(h:tT fa X.K (λZ M=>(g Z M).bind λx M=>cu M (ko M x)) σ H Q) :
 tE fa X.K g σ H (λx H'=>∃k,x=.bl k/\Q k H'):=by
 obtain⟨μ,Z,M,hE,hM,h⟩:=h;obtain⟨x,M1,e,q⟩:=aL h;obtain⟨k,rfl⟩:=hb Z M x M1 e;refine{μ,Z,M,hE,hM,?_};rw[e];intro v H1 μ1 x1 m1 r1;obtain rfl:v=.bl k:=r1;exact{k,rfl,q H1 μ1 x1 m1}
def Fq {o o':jS}{gc:Env->Mem->Res D}(σ:L2.St)(H:Hp)(Q:VK):tE fa X.K (λZ M=>(ga Z M).bind λx M=>(gb Z M).bind λy M=>(cu M (bH o x y M)).bind λk M=>
 if k then(gc Z M).bind λz M=>(cu M (bH o' y z M)).bind λb M=>.ok (.bl b) M else .ok (.bl false) M) σ H Q->tW (g5 fa X.K o) (g5 fa X.K o') (tE fa X.K ga) (tE fa X.K gb) (tE fa X.K gc) σ H Q:=λ⟨μ,Z,M,hE,hM,h⟩=>by
 refine t2 hE hM h λx y M2 v u H2 μ2 x2 hE2 hM2 r1 r2 h2=>?_;obtain⟨k,M3,e,q⟩:=aL h2;cases ec:bH o x y M2 with
 |none=>rw[ec] at e;cases e
 | some k' =>
   rw[ec] at e;cases e;refine{μ2,_,x,y,k,hM2,r1,r2,ec,k,rfl,?_};cases k with
   |false=>exact aV hM2 (a8.ext q x2) rfl
   | true =>
     refine t1 hE2 hM2 q λz M4 w H4 μ4 x4 hE4 hM4 r4 h4=>?_;obtain⟨b,e4,q4⟩:=qc h4;exact{μ4,M4,y,z,b,hM4,r2.ext x4,r4,e4,aV hM4 (q4.ext (x2.trans x4)) rfl}
def NG (hu:Rm X)(o o':jS)(ha:DE fa X a ga)(hb:DE fa X b gb)(hc:DE fa X d gc)(hm:lastMarks [fi o,fi o'] [b,d]=false) :
 DE fa X (.Compare a [fi o,fi o'] [b,d] pos) (λZ M=>(ga Z M).bind λx M=>(gb Z M).bind λy M=>(cu M (bH o x y M)).bind λk M=>
  if k then(gc Z M).bind λz M=>(cu M (bH o' y z M)).bind λb M=>.ok (.bl b) M else .ok (.bl false) M):=bO (CY (ow hu o) (ow hu o') ha hb hc hm) Fq
def C3 {x:D}(h:((cu M r).bind λb M=>Res.ok (.bl b) M)=.ok x M'):∃k,x=.bl k:=by
 cases r with
 |none=>cases h
 |some b=>cases h;exact⟨b,rfl⟩
def fj {α β:Type}{r:Res α}{f:α->Mem->Res β}{x:β}(h:r.bind f=.ok x M):∃a M1,r=.ok a M1/\f a M1=.ok x M:=by
 cases r with
 |ok a M1=>exact⟨a,M1,rfl,h⟩
 |err=>cases h
 |bad=>cases h
def Lu (hu:Rm X)(o o':jS){gc:Env->Mem->Res D}(ha:DE fa X a ga)(hb:DE fa X b gb)(hc:DE fa X d gc)(hm:lastMarks [fi o,fi o'] [b,d]=false) :
 DT fa X (.Compare a [fi o,fi o'] [b,d] pos) (λZ M=>((ga Z M).bind λx M=>(gb Z M).bind λy M=>(cu M (bH o x y M)).bind λk M=>
  if k then(gc Z M).bind λz M=>(cu M (bH o' y z M)).bind λb M=>.ok (.bl b) M else .ok (.bl false) M).bind λx M=>cu M (ko M x)):=
 kM (CT (ow hu o) (ow hu o') ha hb hc hm) λσ H Q h=>Fq σ H _ (Gh (λZ M x M' e=>by
  obtain⟨x1,M1,_,e⟩:=fj e;obtain⟨x2,M2,_,e⟩:=fj e;obtain⟨k,M3,_,e⟩:=fj e;cases k with
  |false=>cases e;exact{_,rfl}
  | true =>
    obtain⟨x4,M4,_,e⟩:=fj e;exact C3 e) h)
def Ny (ha:DE fa X a ga):DE fa X (.UnaryOp .USub a pos) (λZ M=>(ga Z M).bind λx M=>match x with|.int i=>.ok (.int (-i)) M|_=>.bad):=
 bO (EM zF ha) λσ H Q ⟨μ,Z,M,hE,hM,h⟩=>t1 hE hM h λx M1 v H1 μ1 x1 hE1 hM1 r1 h1=>by
  cases x with
  |int i=>exact{i,r1,aV hM1 (a8.ext h1 x1) rfl}
  |_=>exact h1.elim
def NJ {rest:List Expr}(ha:DE fa X a ga)(hb:DE fa X (.BoolOp .And (b::rest) pos) gb):DE fa X (.BoolOp .And (a::b::rest) pos) (λZ M=>(ga Z M).bind λx M=>match x with
 |.bl true=>gb Z M
 |.bl false=>.ok (.bl false) M
 |_=>.bad):=
 bO (J5 ha hb) λσ H Q ⟨μ,Z,M,hE,hM,h⟩=>t1 hE hM h λx M1 v H1 μ1 x1 hE1 hM1 r1 h1=>by
  cases x with
  | bl k =>
    refine{k,r1,?_};cases k with
    |true=>exact{μ1,Z,M1,hE1,hM1,kT h1 x1}
    |false=>exact aV hM1 (a8.ext h1 x1) rfl
  |_=>exact h1.elim
def Py {rest:List Expr}(ha:DE fa X a ga)(hb:DE fa X (.BoolOp .Or (b::rest) pos) gb):DE fa X (.BoolOp .Or (a::b::rest) pos) (λZ M=>(ga Z M).bind λx M=>match x with
 |.bl true=>.ok (.bl true) M
 |.bl false=>gb Z M
 |_=>.bad):=
 bO (MH ha hb) λσ H Q ⟨μ,Z,M,hE,hM,h⟩=>t1 hE hM h λx M1 v H1 μ1 x1 hE1 hM1 r1 h1=>by
  cases x with
  | bl k =>
    refine{k,r1,?_};cases k with
    |true=>exact aV hM1 (a8.ext h1 x1) rfl
    |false=>exact{μ1,Z,M1,hE1,hM1,kT h1 x1}
  |_=>exact h1.elim
def Fv (ha:DE fa X a ga):DE fa X (.BoolOp op [a] pos) ga:=J1 ha
def Nx (ha:DE fa X a ga):DE fa X (.UnaryOp .Not a pos) (λZ M=>(ga Z M).bind λx M=>match x with|.bl k=>.ok (.bl (!k)) M|_=>.bad):=
 bO (J2 ha) λσ H Q ⟨μ,Z,M,hE,hM,h⟩=>t1 hE hM h λx M1 v H1 μ1 x1 hE1 hM1 r1 h1=>by
  cases x with
  |bl k=>exact{k,r1,aV hM1 (a8.ext h1 x1) rfl}
  |_=>exact h1.elim
variable{ta tb:Env->Mem->Res Bool}
def HM (ha:DT fa X a ta):DW fa X (.BoolOp .And [a] pos) ta:=G3 ha
def Ln (ha:DT fa X a ta):DW fa X (.BoolOp .Or [a] pos) ta:=JO ha
def Oc {Q:Bool->Hp->Prop}(x:Ext μ H μ' H')(h:ae b' λb M'=>∀H'' μ'',Ext μ H μ'' H''->RelM fa X.K μ'' H'' M'->Q b H''):ae b' λb M'=>∀H'' μ'',Ext μ' H' μ'' H''->RelM fa X.K μ'' H'' M'->Q b H'':=
 aJ h λb M q H'' μ'' y m=>q H'' μ'' (x.trans y) m
def Lo {rest:List Expr}(ha:DT fa X a ta)(hb:DW fa X (.BoolOp .And (b::rest) pos) tb):DW fa X (.BoolOp .And (a::b::rest) pos) (λZ M=>(ta Z M).bind λk M=>if k then tb Z M else .ok false M):=
 Az (JP ha hb) λσ H Q ⟨μ,Z,M,hE,hM,h⟩=>wo hE hM h λk M1 H1 μ1 x1 hE1 hM1 h1=>by
  cases k with
  |true=>exact{μ1,Z,M1,hE1,hM1,Oc x1 h1}
  |false=>exact h1 H1 μ1 x1 hM1
def Np {rest:List Expr}(ha:DT fa X a ta)(hb:DW fa X (.BoolOp .Or (b::rest) pos) tb):DW fa X (.BoolOp .Or (a::b::rest) pos) (λZ M=>(ta Z M).bind λk M=>if k then .ok true M else tb Z M):=
 Az (MG ha hb) λσ H Q ⟨μ,Z,M,hE,hM,h⟩=>wo hE hM h λk M1 H1 μ1 x1 hE1 hM1 h1=>by
  cases k with
  |true=>exact h1 H1 μ1 x1 hM1
  |false=>exact{μ1,Z,M1,hE1,hM1,Oc x1 h1}
def Lp (ha:DT fa X a ta):DT fa X (.UnaryOp .Not a pos) (λZ M=>(ta Z M).bind λk M=>.ok (!k) M):=
 kM (JT ha) λσ H Q ⟨μ,Z,M,hE,hM,h⟩=>wo hE hM h λk M1 H1 μ1 x1 hE1 hM1 h1=>h1 H1 μ1 x1 hM1
def DG (ha:DE fa X a ga)(he:∀whole,isTrue a X.env whole=(do let v <- whole;standAt a.pos;holding [v] (truthy v))):DT fa X a (λZ M=>(ga Z M).bind λx M=>cu M (ko M x)):=
 kM (CS ha he) λσ H Q ⟨μ,Z,M,hE,hM,h⟩=>t1 hE hM h λx M1 v H1 μ1 x1 hE1 hM1 r1 h1=>by
  obtain⟨k,e,q⟩:=kU h1;exact{k,OA hM1 r1 e,q H1 μ1 x1 hM1}
def NA (hc:DT fa X c gc)(ha:DE fa X a ga)(hb:DE fa X b gb):DE fa X (.IfExp c a b pos) (λZ M=>(gc Z M).bind λk M=>if k then ga Z M else gb Z M):=
 bO (um hc ha hb) λσ H Q ⟨μ,Z,M,hE,hM,h⟩=>wo hE hM h λk M1 H1 μ1 x1 hE1 hM1 h1=>by
  cases k with
  |true=>exact{μ1,Z,M1,hE1,hM1,kT h1 x1}
  |false=>exact{μ1,Z,M1,hE1,hM1,kT h1 x1}
def NC (ha:DE fa X a ga)(hb:DE fa X b gb)(hs:ju b):DE fa X (.Subscript a b pos) (λZ M=>(ga Z M).bind λx M=>(gb Z M).bind λy M=>cu M (b7 x y M)):=
 bO (yh Na ha hb hs) λσ H Q ⟨μ,Z,M,hE,hM,h⟩=>t2 hE hM h λx y M2 v u H2 μ2 x2 hE2 hM2 r1 r2 h2=>by
  obtain⟨d,e,q⟩:=kU h2;exact{μ2,M2,x,y,d,hM2,r1,r2,e,q.ext x2}
noncomputable def DO (fa:Fa)(X:Cx)(e:Option Expr)(hp:Bool)(g:Env->Mem->Res D):Prop:=PO X e λσ H Q=>∃μ Z M,bz fa X.K μ H σ Z/\RelM fa X.K μ H M/\ae (g Z M) λd M'=>∃o,cK hp d=true/\p9 d=some o/\∀H' μ',Ext μ H μ' H'->RelM fa X.K μ' H' M'->Q o H'
def HU:DO fa X none false (λ_ M=>.ok .non M):=λpins s σ H Q I ⟨μ,Z,M,hE,hM,o,_,e,k⟩=>by
 cases e;exact G9 pins s σ H Q I (k H μ .refl hM)
def HS (ha:DE fa X a ga):DO fa X (some a) true ga:=λpins s σ H Q I ⟨μ,Z,M,hE,hM,h⟩=>G8 ha pins s σ H Q I {μ,Z,M,hE,hM,aJ h λd M' ⟨o,p,e,k⟩ v H' μ' x m r=>by
 cases d with
 |int i=>cases e;exact{i,r,k H' μ' x m}
 |_=>cases p}
def part_of {d:D}(h:cK hp d=true):∃o,p9 d=some o:=by
 cases hp<;>cases d<;>first|exact{_,rfl}|cases h
def Nw (m hl hh:Bool){lo hi:Option Expr}(ha:DE fa X a ga)(hlo:DO fa X lo hl gl)(hhi:DO fa X hi hh gh):DE fa X (.Subscript a (.Slice lo hi none p2) pos)
 (λZ M=>(ga Z M).bind λx M=>(gl Z M).bind λl M=>(gh Z M).bind λh M=>if cK hl l&&cK hh h then gY m x l h M else .bad):=
 bO (CW (GI m) ha hlo hhi) λσ H Q ⟨μ,Z,M,hE,hM,h⟩=>t1 hE hM h λx M1 v H1 μ1 x1 hE1 hM1 r1 h1=>by
  obtain⟨l,M2,e2,h2⟩:=aL h1;obtain⟨u,M3,e3,h3⟩:=aL h2;split at h3
  ·next c=>
   rw[Qr] at c;obtain⟨ol,el⟩:=part_of c.1;obtain⟨ou,eu⟩:=part_of c.2;refine{μ1,Z,M1,hE1,hM1,?_};rw[e2];refine{ol,c.1,el,λH2 μ2 x2 hM2=>{μ2,Z,M2,hE1.ext x2,hM2,?_}};rw[e3];exact{ou,c.2,eu,λH3 μ3 x3 hM3=>{μ3,M3,x,l,u,hM3,(r1.ext x2).ext x3,el,eu,kT h3 ((x1.trans x2).trans x3)}}
  ·exact h3.elim
def LL:DA fa X [] (λ_ M=>.ok [] M):=AL eI λσ H Q ⟨μ,Z,M,hE,hM,h⟩=>h [] H μ .refl hM rfl
def Ic (ha:DE fa X a ga)(hs:DA fa X es gs)(h0:starEach (a::es) X.env=(false,eval a X.env)::starEach es X.env) :
 DA fa X (a::es) (λZ M=>(ga Z M).bind λx M=>(gs Z M).bind λxs M=>.ok (x::xs) M):=
 AL (c7 ha hs h0) λσ H Q ⟨μ,Z,M,hE,hM,h⟩=>t1 hE hM h λx M1 v H1 μ1 x1 hE1 hM1 r1 h1=>wt hE1 hM1 h1 λxs M2 vs H2 μ2 x2 hE2 hM2 r2 h2=>h2 (v::vs) H2 μ2 (x1.trans x2) hM2 {v,vs,rfl,r1.ext x2,r2}
def Nu (hs:DA fa X es gs):DE fa X (.Tuple es k pos) (λZ M=>(gs Z M).bind lS):=
 bO (JY hs) λσ H Q ⟨μ,Z,M,hE,hM,h⟩=>wt hE hM h λxs M1 vs H1 μ1 x1 hE1 hM1 r1 h1=>by
  unfold lS at h1;split at h1
  ·next c=>exact{by rw[r1.length,<- dR];exact c,iq hM1 r1 (a8.ext h1 x1)}
  ·exact h1.elim
def Nz (m:Bool)(hs:DA fa X es gs):DE fa X (.List es pos) (λZ M=>(gs Z M).bind (ba m)):=
 bO (J4 hs) λσ H Q ⟨μ,Z,M,hE,hM,h⟩=>wt hE hM h λxs M1 vs H1 μ1 x1 hE1 hM1 r1 h1=>by
  obtain⟨c,k⟩:=fF hM1 r1 (kT h1 x1);exact{by rw[r1.length,<- dR];exact c,k}
end
def sE (o:Obj)(f:Array Qi->Array Qi):(o.mapFields f).dict=o.dict:=by
 obtain⟨c,d,dt,sl⟩:=o;cases dt<;>rfl
section
variable{P:Ra}{w:Rb}{M:Model}{A:RR}{E:Qi->Qm->Prop}{base:Heap}{env:R3}{outer:List R3}{L a C:Addr}{dx:Option Addr}{New:Addr->Prop}{H:Hp}{s:Qm}{Q:Unit->Qm->Prop}
def wj (hfr:A.frames=some (env::outer))(hl:s.heap.FunFrames base (env::outer))(hf:env.frame=some L)
 (he:s.heap.get? a=some oe) (hd:oe.data=.fields vs) (hsz:1<vs.size)
 (h:∀h' T oT ts,(∀b o,b∉ib (env::outer)->b≠a->s.heap.get? b=some o->h'.get? b=some o)->(∀b o,b≠a->s.heap.get? b=some o->∃sl,h'.get? b=some {o with slots:=sl})->s.heap.objs.size<=T->T≠a->
  h'.get? a=some (oe.mapFields (·.setIfInBounds 1 (.ref T)))->h'.get? T=some oT->oT.data=.fields ts->ts[3]?=some .none->Q () {s with heap:=h'}) :
 wpAny M A (do let f <- frameOf env;let pl <- entryPlaceOf L had;let b <- EntryCells.newEntry head f .none (rawInt L) .none pl;setField (.ref a) 1 b) (λ_ s'=>wpAny M A (setFlight (.ref a) none) Q E s') E s:=by
 have hene:a∉ib (env::outer):=λhm=>by
  obtain⟨_,o,ho,hnf⟩:=hl.mem hm;rw[he] at ho;cases ho;exact hnf vs hd
 refine tqa (wpAny_frameOf_fun hfr hl hf λh₁ hs₁=>?_);refine tqa (wpAny_entryPlaceOf λpl hpl=>?_);refine tqa (wpAny_newObj_type ?_ (hpl.sizeOk5 _ _ _ _ _));have he₁:h₁.get? a=some oe:=(hs₁.2.1 a hene).trans he;generalize ho:({cls:=.type "traceback",dict:=none,data:=.fields ([head,.ref L,.none,rawInt L,.none]++(if pl.isEmpty then List.replicate 6 Value.none else pl)).toArray}:Obj)=o;have hod:o.data=.fields ([head,.ref L,.none,rawInt L,.none]++(if pl.isEmpty then List.replicate 6 Value.none else pl)).toArray:=by rw[<- ho]
 have he₂:=Qk o he₁;refine wpAny_setField he₂ hd hsz ?_;have hTe:=Rq (QH he₁);have hd₃:=RZ hd (·.setIfInBounds 1 (Value.ref h₁.objs.size));have he₃:=Ro (Obj.mapFields (·.setIfInBounds 1 (Value.ref h₁.objs.size))) he₂ (SF hd₃);have hT₃:=(Q9 (h₁.push o) (Obj.mapFields (·.setIfInBounds 1 (Value.ref h₁.objs.size))) (Ru hTe)).trans (QG h₁ (SF hod));refine tqa (tqf he₃ hd₃ (x:=.ref h₁.objs.size) (by simp[hsz]) ?_)
 rw[if_pos `s]
 refine wpAny_setField hT₃ hod (by simp only[Qy,QO,RL,List.length_nil]<;>omega) ?_
 have keep:∀b u,b≠a->h₁.get? b=some u->(((h₁.push o).update a (Obj.mapFields (·.setIfInBounds 1 (Value.ref h₁.objs.size)))).update h₁.objs.size (Obj.mapFields (·.setIfInBounds 3 ((none:Option Addr).elim Value.none λf=>rawInt f)))).get? b=some u:=λb u hbe hb=>by
  have hbT:=Rq (QH hb);rw[Q9 _ _ hbT,Q9 _ _ (Ru hbe)];exact Qk _ hb
 refine h _ h₁.objs.size _ _ (λb u hb hbe q=>keep b u hbe ((hs₁.2.1 b hb).trans q)) (λb u hbe q=>?_) (Nat.le_of_eq hs₁.1.symm) hTe ?_ (Ro _ hT₃ (SF (RZ hod _))) (RZ hod _) ?_
 ·obtain⟨sl,e⟩:=hs₁.2.2 b u q;exact{sl,keep b _ hbe e}
 ·rw[Q9 _ _ hTe];exact he₃
 ·first|(simp;done)|(rcases hpl with rfl|⟨_,_,_,_,_,_,_,rfl⟩<;>simp)
def Hj (hfr:A.frames=some (env::outer))(hl:s.heap.FunFrames base (env::outer))(hf:env.frame=some L)(hF:oP New C dx a s.heap H)(hN:∀b,s.heap.objs.size<=b->New b)(hok:fb P w H s.heap)(hfree:∀b∈ib (env::outer),H b=none)
 (h:∀h' ch,(∀b∈ch,New b/\H b=none/\∃o vs,s.heap.get? b=some o/\o.data=.fields vs)->Un (ib (env::outer)) ch H H s.heap h'->fb P w H h'->oP New C dx a h' H->Q () {s with heap:=h'}) :
 wpAny M A (noteFrame (.ref a) env) (λ_ s1=>wpAny M A (setFlight (.ref a) none) Q E s1) E s:=by
 obtain⟨na,ha,oe,vs,he,hc,hdx,hd,tr⟩:=hF;have fin:∀h' ch,(∀b∈ch,New b/\H b=none/\∃o vs,s.heap.get? b=some o/\o.data=.fields vs)->(∀b o,b∉ib (env::outer)->b∉ch->s.heap.get? b=some o->h'.get? b=some o)->(∀b o,b∉ch->s.heap.get? b=some o->∃sl,h'.get? b=some {o with slots:=sl})->oP New C dx a h' H->Q () {s with heap:=h'}:=λh' ch hch keep slot fl=>by
  refine h h' ch hch {λb o q _ hb hx=>keep b o hb hx q,λb o q _ _ hx=>slot b o hx q,λ_ _ _ n _=>n,λb o q hx=>let⟨sl,e⟩:=slot b o hx q;{_,e},λ_ _ e=>e,λ_ _ _ e=>e,λb ps e=>{#[],by rw[e];simp}} (λb u e=>(hok b u e).stay (λc v hc q=>?_) (λ_ q=>q) λ_ _ q=>q) fl
  have nn:H c≠none:=by rcases hc with z|z<;>(intro z';first|(rw[z,e] at z';cases z')|(rw[z] at z';cases z'))
  exact keep c v (λz=>nn (hfree c z)) (λz=>nn (hch c z).2.1) q
 unfold noteFrame;simp only[hf];rcases tr with h1|⟨T,oT,ts,h1,hTa,nT,hT0,hT,hdT,h3⟩
 ·refine tqa (tqf he hd h1 ?_);rw[if_neg `d]
  refine wj hfr hl hf he hd (Sj.mp h1).1 λh' T oT ts k1 k2 k3 k4 k5 k6 k7 k8=>?_;refine fin h' [a] (λb hb=>?_) (λb o hb hx q=>k1 b o hb (λz=>hx (by simp[z])) q) (λb o hx q=>k2 b o (λz=>hx (by simp[z])) q) {na,ha,_,_,k5,?_,?_,RZ hd _,.inr {T,oT,ts,by simp[(Sj.mp h1).1],k4,hN _ k3,hok.fresh k3,k6,k7,k8}}
  ·rcases Qw.mp hb with rfl
   exact⟨na,ha,oe,vs,he,hd⟩
  ·rw[Obj.cls_mapFields];exact hc
  ·rw[sE];exact hdx
 ·refine tqa (tqf he hd h1 ?_);rw[if_pos `s]
  refine tqa (tqf hT hdT h3 ?_);rw[if_neg (by simp[rawInt])]
  refine tqa (wpAny_setField hT hdT (Sj.mp h3).1 ?_);have other:∀b,b≠T->(s.heap.update T (Obj.mapFields (·.setIfInBounds 3 Value.none))).get? b=s.heap.get? b:=λb hb=>Q9 _ _ (Ru hb);have noRec:∀b o,s.heap.get? b=some o->(∀vs,o.data≠.fields vs)->b≠T:=λb o hb hnf q=>by
   rw[q,hT] at hb;cases hb;exact hnf ts hdT
  have hz:(s.heap.update T (Obj.mapFields (·.setIfInBounds 3 Value.none))).objs.size=s.heap.objs.size:=Heap.size_after_update ..;refine wj hfr (hl.of_keeps λb o hb hnf=>{o,(other b (noRec b o hb hnf)).trans hb,rfl}) hf ((other a (Ru hTa)).trans he) hd (Sj.mp h1).1 λh' T' oT' ts' k1 k2 k3 k4 k5 k6 k7 k8=>?_;have k3:s.heap.objs.size<=T':=by rw[<- hz];exact k3
  refine fin h' [a,T] (λb hb=>?_) (λb o hb hx q=>k1 b o hb (λz=>hx (by simp[z])) ((other b (λz=>hx (by simp[z]))).trans q)) (λb o hx q=>k2 b o (λz=>hx (by simp[z])) ((other b (λz=>hx (by simp[z]))).trans q)) {na,ha,_,_,k5,?_,?_,RZ hd _,.inr {T',oT',ts',by simp[(Sj.mp h1).1],k4,hN _ k3,hok.fresh k3,k6,k7,k8}}
  ·rcases Rg.mp hb with rfl|hb
   ·exact⟨na,ha,oe,vs,he,hd⟩
   ·rcases Qw.mp hb with rfl
    exact⟨nT,hT0,oT,ts,hT,hdT⟩
  ·rw[Obj.cls_mapFields];exact hc
  ·rw[sE];exact hdx
end
noncomputable def iX (P:Ra)(w:Rb):oQ:=λouter H s E e s'=>∃a C dx H',e=.ref a/\s'.os=s.os/\AllBare s'.gens/\Un (ib outer) [] H H' s.heap s'.heap/\fb P w H' s'.heap/\oP (λb=>s.heap.get? b=none) C dx a s'.heap H'/\E (.ref C) dx H'
def oP.imp (f:oP New C dx a h H)(i:∀b,New b->New' b):oP New' C dx a h H:=by
 obtain⟨na,ha,o,vs,h1,h2,h3,h4,tr⟩:=f;refine{i _ na,ha,o,vs,h1,h2,h3,h4,?_};rcases tr with t|⟨T,oT,ts,t1,t2,t3,t4⟩
 ·exact .inl t
 ·exact .inr {T,oT,ts,t1,t2,i _ t3,t4}
section
variable{P:Ra}{w:Rb}{K:Qh}{mg:Str->Option Qi}{base:Heap}{N:List Str}{qual:Str}{scope:Scope}{f:Addr}{cd:Qi}{A:RR}{outer:List R3}{s:Qm}{H:Hp}{E:XK}
def Dh (I:Inv (gH (iX P w) P w K mg base N qual scope f cd A outer s H E) pins σ H' s')(hF:oP (zi (gH (iX P w) P w K mg base N qual scope f cd A outer s H E)) C dx a s'.heap H')(hE:E (.ref C) dx H') :
 (gH (iX P w) P w K mg base N qual scope f cd A outer s H E).xe (.ref a) s':=by
 have hst:=I.stack;have hsz:=I.sz;have hL:∀b o,s.heap.get? b=some o->b∈ib (envOfC qual scope s.heap.objs.size f cd::outer)->b∈ib outer:=λb o q hb=>by
  rcases Rg.mp (hb) with e|e
  ·exact absurd (QH q) (by rw[e];exact RH _)
  ·exact e
 unfold gH;refine tqa (Hj (New:=λb=>s.heap.get? b=none) I.ok.frames hst rfl (hF.imp λb z=>z.1) (λb z=>Heap.get?_none_of_le (Qp hsz z)) I.hok I.stkFree λh' ch hch u hok fl=>?_);have nch:∀b o,s.heap.get? b=some o->b∉ch:=λb o q z=>by have:=(hch b z).1;rw[q] at this;cases this
 have hb0:=I.base;refine{a,C,dx,H',rfl,I.os,I.bare,{λb o q n hb hx=>?_,λb o q n hb hx=>?_,hb0.free,λb o q hx=>?_,hb0.tups,hb0.frzs,hb0.tbls},hok,fl,hE}
 ·exact u.keep b o (hb0.keep b o q n hb hx) (hb0.free b o q n hx) (λz=>hb (hL b o q z)) (nch b o q)
 ·obtain⟨sl,e⟩:=hb0.slot b o q n hb hx;obtain⟨sl',e'⟩:=u.any e (hb0.free b o q n hx) (nch b o q);exact⟨sl',e'⟩
 ·obtain⟨o',e⟩:=hb0.there b o q hx;exact u.there b o' e (nch b o q)
end
section
variable{X:Cx}{pins:List (Addr×Obj)}{σ:L2.St}{H H':Hp}{s s':Qm}{E:XK}{e:Qi}
def sk (I:Inv X pins σ H s)(hx:X.ex=[])(h:iX X.prog X.w X.stack H s E e s'):∃a C dx H',e=.ref a/\Inv X pins σ H' s'/\oP (zi X) C dx a s'.heap H'/\E (.ref C) dx H':=by
 obtain⟨a,C,dx,H',rfl,os,bare,un,hok,fl,q⟩:=h;refine{a,C,dx,H',rfl,I.call' os un hok bare (λb z=>absurd z `s),fl.imp λb z=>{?_,λp hp e=>?_},q}
 ·cases e:X.s₀.heap.get? b with
  |none=>rfl
  | some o =>
    obtain⟨o',e'⟩:=I.base.there b o e (by rw[hx];simp)
    rw[z] at e';cases e'
 ·have:=(I.pin p (RE _ hp)).1;rw[e,z] at this;cases this
end
noncomputable def fX {α:Type}(r:Res α)(k:α->Mem->Prop)(kx:D->Mem->Prop):Prop:=match r with
 |.ok a M=>k a M
 |.err x M=>kx x M
 |.bad=>False
def Kf {α:Type}{r:Res α}{k:α->Mem->Prop}{kx:D->Mem->Prop}(h:ae r k):fX r k kx:=by
 cases r with
 |ok a M=>exact h
 |err=>exact h.elim
 |bad=>exact h
noncomputable def FH (fa:Fa)(K:Qh)(μ:Mu)(H:Hp)(E:XK)(x:D)(M':Mem):Prop:=∀C dx c p H' μ',Ext μ H μ' H'->RelM fa K μ' H' M'->x=.exc c p->fa (gp c)=some C->vQ H' c dx p->E (.ref C) dx H'
def EN:Passes (iX P w) X E0:=λ_ _ _ _ _ _ _ h=>let{_,_,_,_,_,_,_,_,_,_,z}:=h;z.elim
noncomputable def EF (fa:Fa)(K:Qh)(k:Nat)(call:List D->Mem->Res D):Sp:=λvs H Q E=>vs.length=k/\∃μ M ds,RelM fa K μ H M/\aK fa K μ H ds vs/\fX (call ds M) (a8 fa K μ H Q) (FH fa K μ H E)
noncomputable def ik (fa:Fa)(P:Ra)(w:Rb)(K:Qh)(mg:Str->Option Qi)(base:Heap)(n:Nat)(f:Nat)(call:List D->Mem->Res D):Prop:=
 (∀ds M,call ds M=.bad)\/∃(ad:Addr) (fd:FuncData) (ps:List Str),fa f=some ad/\PySem.W.keepIn K (.ref ad)=true/\Binds K fd ps []/\(∀ds M,ds.length≠ps.length->call ds M=.bad)/\mB P w K mg base (iX P w) (2*n+4) ad fd ps (EF fa K ps.length call)/\((fa (500+f)).isSome=true->Binds K fd ps [.none])
section
variable{fa:Fa}{X:Cx}{a b d:Expr}{ga gb gd:Env->Mem->Res D}{pos p:Pos}{es:List Expr}{gs:Env->Mem->Res (List D)}{n:Nat}
def BL {call:List D->Mem->Res D}{r:Res (List D)}(hb:∀ds M,call ds M=.bad)(h:ae (r.bind λds M=>call ds M) P):False:=by
 obtain⟨ds,M,_,q⟩:=aL h;rw[hb] at q;exact q
def sI {call:List D->Mem->Res D}(hE:bz fa X.K μ H σ Z)(hM:RelM fa X.K μ H M)(h:ae ((gs Z M).bind λds M=>call ds M) (a8 fa X.K μ H Q))
 (hk:∀ds M1,ds.length≠k->call ds M1=.bad):ED (EF fa X.K k call) [] E0 (tA fa X.K gs) σ H Q:=by
 refine wt hE hM h λds M1 vs H1 μ1 x1 hE1 hM1 r1 h1=>?_;rw[Ri];refine{?_,μ1,M1,ds,hM1,r1,Kf (kT h1 x1)};rw[r1.length];by_cases hl:ds.length=k
 ·exact hl
 ·rw[hk ds M1 hl] at h1;exact h1.elim
def LR {call:List D->Mem->Res D}(C:ik fa X.prog X.w X.K X.mg X.base n f call)(hr:dH (2*n+4) X.A)(hg:Gl X x)(hm:∀ad,fa f=some ad->X.mg x=some (.ref ad))(hs:DA fa X (a::es) gs)
 (hdb:(x==("__debug__":Str))=false) (he:starEach (a::es) X.env=(false,eval a X.env)::starEach es X.env) (hpl:(backTo pos (starEach es X.env)).any (·.1)=false) :
 DE fa X (.Call (.Name x p) (a::es) [] pos) (λZ M=>(gs Z M).bind λds M=>call ds M):=by
 rcases C with hb|⟨ad,fd,ps,h1,h2,h3,h4,F,_⟩
 ·exact λpins s σ H Q I ⟨μ,Z,M,hE,hM,h⟩=>(BL hb h).elim
 ·exact bO (Hb F hr hg (hm ad h1) h2 h3 .nil EN hs hdb he hpl) λσ H Q ⟨μ,Z,M,hE,hM,h⟩=>sI hE hM h h4
def Ih {i:Nat}{x:Str}{call:Nat->List D->Mem->Res D}(C:∀f,ik fa X.prog X.w X.K X.mg X.base n f (call f))(hr:dH (2*n+4) X.A)(hN:X.N[i]?=some x)(hv:BQ X.env.scope x)(hs:DA fa X (a::es) gs)
 (hd:(x==("__debug__":Str))=false) (hcd:(x==("__classdict__":Str))=false) (he:starEach (a::es) X.env=(false,eval a X.env)::starEach es X.env) (hpl:(backTo pos (starEach es X.env)).any (·.1)=false) :
 DE fa X (.Call (.Name x p) (a::es) [] pos) (λZ M=>match Z[i]?.getD none with|some (.fn f)=>(gs Z M).bind λds M=>call f ds M|_=>.bad):=by
 intro pins s σ H Q I ⟨μ,Z,M,hE,hM,h⟩;dsimp only at h;cases e:Z[i]?.getD none with
 |none=>rw[e] at h;exact h.elim
 | some df =>
   cases df with
   | fn f =>
     rw[e] at h;have e':Z[i]?=some (some (.fn f)):=by
      cases q:Z[i]? with
      |none=>rw[q] at e;cases e
      |some o=>rw[q] at e;simp at e;rw[e]
     obtain⟨v,hv1,hv2⟩:=hE.at' i _ e';obtain⟨ad,rfl,had⟩:=hv2;rcases C f with hb|⟨ad',fd,ps,h1,h2,h3,h4,F,_⟩
     ·exact(BL hb h).elim
     ·rcases had with had|⟨had,_⟩<;>rw[had] at h1<;>cases h1
      refine wpAny_Call_Name_kw (aT (AJ hN hv hd hcd pins s σ H (λv H'=>v=.ref ad/\H'=H) I {_,hv1,rfl,rfl}) λu s1 ⟨v,H1,I1,r1,e1,e2⟩=>?_);subst e1 e2;obtain rfl:u=Value.ref ad:=r1;refine PySem.W.callWith_K I1.ok.mod.kin h2 (aT (hs pos pins s1 σ H1 _ I1 (sI hE hM h h4)) λus s2 ⟨vs,H2,I2,r,q⟩=>{I2.kIn,?_}) he hpl;exact Aw F hr h3 .nil EN I2 r q
   |_=>rw[e] at h;exact h.elim
def Fx (f:xQ){id:String}(hc:cY X (.builtin id) (qJ fa X.K f))(hg:Gl X x)(hm:X.mg x=none)(hv:bootBuiltins x=some (.builtin id))(hs:DA fa X (a::es) gs)(hn:x≠"__name__")(hdb:(x==("__debug__":Str))=false)
 (he:starEach (a::es) X.env=(false,eval a X.env)::starEach es X.env) (hpl:(backTo pos (starEach es X.env)).any (·.1)=false):DE fa X (.Call (.Name x p) (a::es) [] pos) (λZ M=>(gs Z M).bind λds M=>gJ f ds M):=
 bO (lP hc hg hm hv hs hn hdb he hpl) λσ H Q ⟨μ,Z,M,hE,hM,h⟩=>wt hE hM h λds M1 vs H1 μ1 x1 hE1 hM1 r1 h1=>{μ1,M1,ds,hM1,r1,kT h1 x1}
def By (f:xQ)(hc:cY X (.type T) (qJ fa X.K f))(hg:Gl X x)(hm:X.mg x=none)(hv:bootBuiltins x=some (.type T))(hs:DA fa X (a::es) gs)(hn:x≠"__name__")(hdb:(x==("__debug__":Str))=false)
 (he:starEach (a::es) X.env=(false,eval a X.env)::starEach es X.env) (hpl:(backTo pos (starEach es X.env)).any (·.1)=false):DE fa X (.Call (.Name x p) (a::es) [] pos) (λZ M=>(gs Z M).bind λds M=>gJ f ds M):=
 bO (se hc hg hm hv hs hn hdb he hpl) λσ H Q ⟨μ,Z,M,hE,hM,h⟩=>wt hE hM h λds M1 vs H1 μ1 x1 hE1 hM1 r1 h1=>{μ1,M1,ds,hM1,r1,kT h1 x1}
def LM (t:Ty)(ht:∀c,t≠.own c)(ha:DE fa X a ga)(hg:Gl X "isinstance")(hm:X.mg "isinstance"=none)(hv:bootBuiltins "isinstance"=some (.builtin "isinstance"))(hgt:Gl X x)(hmt:X.mg x=none)(hvt:bootBuiltins x=some (.type (tyName t)))
 (hn:x≠"__name__") (hdb:(x==("__debug__":Str))=false)
 (he:starEach [a,.Name x p1] X.env=(false,eval a X.env)::starEach [.Name x p1] X.env):DE fa X (.Call (.Name "isinstance" p2) [a,.Name x p1] [] pos) (λZ M=>(ga Z M).bind λx M=>(cu M (hU t x)).bind λb M=>.ok (.bl b) M):=
 bO (lP (Lf t ht) hg hm hv (c7 ha (c7 (Hc hgt hmt hvt (v:=.ty (tyName t)) rfl hn hdb) eI `r) he) `d `d he `r) λσ H Q ⟨μ,Z,M,hE,hM,h⟩=>t1 hE hM h λx M1 v H1 μ1 x1 hE1 hM1 r1 h1=>by
  obtain⟨b,e,q⟩:=qc h1;exact{μ1,M1,x,v,b,rfl,hM1,r1,e,aV hM1 (q.ext x1) rfl}
noncomputable def gT (fa:Fa)(K:Qh)(t:fY):TG:=λv σ H Q=>∃μ Z M d ρ1,bz fa K μ H σ Z/\RelM fa K μ H M/\Rep fa K μ H d v/\b6 t d Z=some ρ1/\∀σ1,bz fa K μ H σ1 ρ1->Q σ1 H
def uj (h:PG X tg g)(i:∀v σ H Q,g' v σ H Q->g v σ H Q):PG X tg g':=λpins s σ H v u Q I r q=>h pins s σ H v u Q I r (i v σ H Q q)
def wF (h:vU X tg g)(i:∀v σ H Q,g' v σ H Q->g v σ H Q):vU X tg g':=λpins s σ H v u Q I r q=>h pins s σ H v u Q I r (i v σ H Q q)
def Ia (hN:X.N.Nodup)(hi:X.N[i]?=some x)(hx:Loc X.env.scope x)(hf:X.fn x=true\/X.env.scope.names.lookup x=some .local):PG X (.Name x pos) (gT fa X.K (.one i)):=
 uj (qO hN hi hx hf) λv σ H Q ⟨μ,Z,M,d,ρ1,hE,hM,r,e,k⟩=>by
  have e':=Qv e;subst e';exact k _ (hE.set r)
noncomputable def K9 (fa:Fa)(K:Qh)(l:List Nat):sU:=λvs σ H Q=>∃μ Z M ds ρ1,bz fa K μ H σ Z/\RelM fa K μ H M/\aK fa K μ H ds vs/\di l ds Z=some ρ1/\∀σ1,bz fa K μ H σ1 ρ1->Q σ1 H
inductive je (X:Cx):List Nat->List Expr->Prop
 |nil:je X [] []
 |cons {i:Nat}{x:Str}{p:Pos}{l:List Nat}{ns:List Expr} (hi:X.N[i]?=some x) (hx:Loc X.env.scope x) (hf:X.fn x=true\/X.env.scope.names.lookup x=some .local) (r:je X l ns):je X (i::l) (.Name x p::ns)
def je.each (h:je X l ns):(assignEach ns X.env).length=l.length/\(assignEach ns X.env).findIdx? (·.1)=none:=by
 induction h with
 |nil=>exact⟨rfl,rfl⟩
 | cons hi hx hf r ih =>
   rename_i i x p l ns;have e:assignEach (.Name x p::ns) X.env=(false,assign (.Name x p) X.env)::assignEach ns X.env:=rfl;rw[e];refine{by simp[ih.1],?_}
   rw[List.findIdx?_cons];simp[ih.2]
def va (hN:X.N.Nodup)(h:je X l ns):vU X ns (K9 fa X.K l):=by
 induction h with
 | nil =>
   refine wF wD λvs σ H Q ⟨μ,Z,M,ds,ρ1,hE,hM,r,e,k⟩=>?_;cases ds with
   | nil =>
     obtain rfl:vs=[]:=r;have e':=Qv e;subst e';exact{rfl,k _ hE}
   |cons=>cases e
 | cons hi hx hf r ih =>
   refine wF (pe (qO hN hi hx hf) ih `r) λvs σ H Q ⟨μ,Z,M,ds,ρ1,hE,hM,r,e,k⟩=>?_
   cases ds with
   |nil=>cases e
   | cons d ds =>
     obtain⟨v,vr,rfl,r1,r2⟩:=r;exact{v,vr,rfl,μ,_,M,ds,ρ1,hE.set r1,hM,r2,e,k}
def iQ:∀{l:List Nat}{ds:List D}{Z ρ1:Env},di l ds Z=some ρ1->ds.length=l.length
 |[],[],_,_,_=>rfl
 |_::_,[],_,_,h=>by cases h
 |[],_::_,_,_,h=>by cases h
 | _ :: l, _ :: ds, _, _, h => by
   have:=iQ (ds:=ds) h;simp[this]
def LJ (hc:X.calm=true)(hN:X.N.Nodup)(h:je X l ns):PG X (.Tuple ns k pos) (gT fa X.K (.tup l)):=
 uj (ui hc (va hN h) h.each.1 h.each.2) λv σ H Q ⟨μ,Z,M,d,ρ1,hE,hM,r,e,k⟩=>by
  cases d with
  | tup ds =>
    obtain⟨a,vs,rfl,hq,r⟩:=r;exact{a,vs,rfl,hq,by rw[r.length];exact iQ e,μ,Z,M,ds,ρ1,hE,hM,r,e,k}
  |_=>cases e
def vF {d:D}(h:b6 (.two j l) d Z=some ρ1):∃e ds,d=.tup [e,.tup ds]/\di l ds (Z.set j (some e))=some ρ1:=by
 unfold b6 at h;split at h
 ·next e=>cases e
 ·next e=>cases e
 ·next e=>cases e;exact{_,_,rfl,h}
 ·cases h
 ·cases h
def LI (hc:X.calm=true)(hN:X.N.Nodup){ns:List Expr}(hi:X.N[i]?=some x)(hx:Loc X.env.scope x)(hf:X.fn x=true\/X.env.scope.names.lookup x=some .local)(h:je X l ns):PG X (.Tuple [.Name x px,.Tuple ns k2 p2] k pos) (gT fa X.K (.two i l)):=
 uj (ui hc (pe (qO hN hi hx hf) (pe (ui hc (va hN h) h.each.1 h.each.2) wD))) λv σ H Q ⟨μ,Z,M,d,ρ1,hE,hM,r,e,k⟩=>by
  obtain⟨d0,ds,rfl,e⟩:=vF e;obtain⟨a,vs,rfl,hq,v0,vs1,rfl,r0,v1,vs2,rfl,r1,r2⟩:=r;obtain rfl:vs2=[]:=r2;obtain⟨b,ws,rfl,hq2,rr⟩:=r1;exact{a,_,rfl,hq,rfl,v0,_,rfl,.ref b,[],rfl,b,ws,rfl,hq2,by rw[rr.length];exact iQ e,μ,Z.set i (some d0),M,ds,ρ1,hE.set r0,hM,rr,e,λσ1 h1=>{rfl,k σ1 h1}}
end
section
variable{fa:Fa}{X:Cx}{a b d:Expr}{ga gb gd:Env->Mem->Res D}{pos p:Pos}{es:List Expr}{gs:Env->Mem->Res (List D)}{n:Nat}
def Lz (ha:DE fa X a ga)(hg:PG X tg (gT fa X.K t))(hs:swapsWithSole [tg] a pos.line X.env=pure false)(hw:swappedStores [tg] a X.env=pure none)(h1:(assignEach [tg] X.env).map (·.2)=[assign tg X.env]) :
 DS fa X (.Assign [tg] a pos) (λZ M=>(ga Z M).bind λx M=>(cu M (b6 t x Z)).bind λρ1 M=>.ok (.next ρ1) M):=
 dO (p6 ha hg hs hw h1) λD σ H ⟨μ,Z,M,hE,hM,h⟩=>t1 hE hM h λx M1 v H1 μ1 x1 hE1 hM1 r1 h1=>by
  obtain⟨ρ1,M2,e,q⟩:=aL h1;cases eb:b6 t x Z with
  |none=>rw[eb] at e;cases e
  | some ρ2 =>
    rw[eb] at e;cases e;exact{μ1,Z,M1,x,ρ1,hE1,hM1,r1,eb,λσ1 hE2=>q σ1 H1 μ1 x1 hE2 hM1}
def jU {D':Ends}{ad:Addr}(hE:bz fa X.K μ H σ Z)(hM:RelM fa X.K μ H M)(hk:μ.pub k=some ad)(r:aK fa X.K μ H ds ws)
 (q:∀σ' H' μ',Ext μ H μ' H'->bz fa X.K μ' H' σ' Z->RelM fa X.K μ' H' (M.set k ds)->D'.nx σ' H'):D'.nx σ (upd H ad (.lst ws)):=
 q σ _ μ (Ext.write (vs:=ws) hM hk) (hE.ext (Ext.write (vs:=ws) hM hk)) (hM.write hk r)
def Lw (ha:DE fa X a ga)(hb:DE fa X b gb)(hd:DE fa X d gd){p2:Pos}
 (h0:∀v,assign (.Subscript a b p2) X.env v=(do
  let ov <- holding [v] (eval a X.env)
  let iv <- holding [v,ov] (eval b X.env)
  standAt p2
  holding [v,ov,iv] (setItem ov iv v)
  release [v,ov,iv] [])) (hs:swapsWithSole [.Subscript a b p2] d pos.line X.env=pure false) (hw:swappedStores [.Subscript a b p2] d X.env=pure none) (h1:(assignEach [.Subscript a b p2] X.env).map (·.2)=[assign (.Subscript a b p2) X.env]) :
 DS fa X (.Assign [.Subscript a b p2] d pos) (λZ M=>(gd Z M).bind λz M=>(ga Z M).bind λx M=>(gb Z M).bind λy M=>match x,y with
  | .cell k, .int n => match M[k]? with
    | some ds => match cw ds.length n with
      |some j=>.ok (.next Z) (M.set k (ds.set j z))
      |none=>.bad
    |none=>.bad
  |_,_=>.bad):=
 dO (p6 hd (AI ha hb set_list h0) hs hw h1) λD' σ H ⟨μ,Z,M,hE,hM,h⟩=>t1 hE hM h λz M1 v H1 μ1 x1 hE1 hM1 r1 h1=>t2 hE1 hM1 h1 λx y M2 vx vy H2 μ2 x2 hE2 hM2 rx ry h2=>by
  have key:∀k n,x=.cell k->y=.int n->EK vx vy v H2 λH3=>D'.nx σ H3:=λk n e1 e2=>by
   subst e1 e2;dsimp only at h2;cases e:M2[k]? with
   |none=>rw[e] at h2;exact h2.elim
   | some ds =>
     rw[e] at h2;dsimp only at h2;cases ej:LD.cw ds.length n with
     |none=>rw[ej] at h2;exact h2.elim
     | some j =>
       rw[ej] at h2;obtain⟨ad,rfl,hk⟩:=rx;obtain⟨ws,h4,h5⟩:=hM2.at_ e hk;have q:=h2;refine{ad,ws,n,j,rfl,ry,h4,by rw[h5.length];exact ej,jU hE2 hM2 hk (h5.set j (r1.ext x2)) λσ' H' μ' x' e' m'=>q σ' H' μ' ((x1.trans x2).trans x') e' m'}
  cases x with
  | cell k => cases y with
    |int n=>exact key k n rfl rfl
    |_=>exact h2.elim
  |_=>exact h2.elim
def LB (ha:DE fa X a ga)(hd:DE fa X d gd){apos cpos:Pos}(hbase:attributeBase a "append" X.env (eval a X.env)=eval a X.env)(hline:(apos.endLine==cpos.line)=true)(hs:starEach [d] X.env=[(false,eval d X.env)])
 (hsw:swapsWith (.Call (.Attribute a "append" apos) [d] [] cpos) none pos.line X.env=pure false) :
 DS fa X (.Expr (.Call (.Attribute a "append" apos) [d] [] cpos) pos) (λZ M=>(ga Z M).bind λx M=>(gd Z M).bind λz M=>match x with
  | .cell k => match M[k]? with
    |some ds=>if ds.length<sz then .ok (.next Z) (M.set k (ds++[z])) else .bad
    |none=>.bad
  |_=>.bad):=
 dO (kQ (yi PySem.F.plainAttrs_list PySem.F.slot_list_append PySem.F.type_list_append mO ha (c7 hd eI hs) hbase (by rw[hs];rfl) hline hs `r) hsw) λD' σ H ⟨μ,Z,M,hE,hM,h⟩=>by
  obtain⟨x,M1,e1,h1⟩:=aL h;obtain⟨z,M2,e2,h2⟩:=aL h1;cases x with
  | cell k =>
    dsimp only at h2;cases e:M2[k]? with
    |none=>rw[e] at h2;exact h2.elim
    | some ds =>
      rw[e] at h2;dsimp only at h2;split at h2
      ·next hz=>
       have q:=h2;refine{μ,Z,M,hE,hM,?_};rw[e1];intro vx H1 μ1 x1 hM1 rx;obtain⟨ad,rfl,hk⟩:=rx;obtain⟨ds1,ws1,_,hH1,_⟩:=hM1.mu_lt hk;refine{.inl {rfl,ws1,cW.of hH1},μ1,Z,M1,hE.ext x1,hM1,?_};rw[e2];intro vz H2 μ2 x2 hM2 rz;obtain⟨ws,h4,h5⟩:=hM2.at_ e (x2.mu k ad hk);refine{ad,ws,vz,rfl,rfl,h4,by rw[h5.length,<- dR];exact hz,?_}
       exact jU ((hE.ext x1).ext x2) hM2 (x2.mu k ad hk) (h5.append (.one rz)) λσ' H' μ' x' e' m'=>q σ' H' μ' ((x1.trans x2).trans x') e' m'
      ·exact h2.elim
  |_=>exact h2.elim
def Nq (ha:DE fa X a ga)(hs:swapsWith a none pos.line X.env=pure false):DS fa X (.Expr a pos) (λZ M=>(ga Z M).bind λ_ M=>.ok (.next Z) M):=
 dO (kQ ha hs) λD' σ H ⟨μ,Z,M,hE,hM,h⟩=>t1 hE hM h λx M1 v H1 μ1 x1 hE1 hM1 r1 h1=>h1 σ H1 μ1 x1 hE1 hM1
def Lv (ha:DE fa X a ga):DS fa X (.Return (some a) pos) (λZ M=>(ga Z M).bind λx M=>.ok (.ret x) M):=
 dO (AB ha) λD' σ H ⟨μ,Z,M,hE,hM,h⟩=>by
  obtain⟨x,M1,e,q⟩:=aL h;refine{μ,Z,M,hE,hM,?_};rw[e];exact q
def HN:DS fa X (.Return none pos) (λ_ M=>.ok (.ret .non) M):=dO G5 λD' σ H ⟨μ,Z,M,hE,hM,h⟩=>aV hM h rfl
def HP:DS fa X (.Pass pos) (λZ M=>.ok (.next Z) M):=dO G6 λD' σ H ⟨μ,Z,M,hE,hM,h⟩=>h σ H μ .refl hE hM
def mE.ext (x:Ext μ H μ' H')(q:mE fa X μ H D' fl M):mE fa X μ' H' D' fl M:=by
 cases fl with
 |next ρ'=>exact λσ' H'' μ'' y e m=>q σ' H'' μ'' (x.trans y) e m
 |ret d=>exact a8.ext q x
 |exc x' ρ'=>exact XW.ext q x
def AN (x:Ext μ H μ' H')(h:ae r (mE fa X μ H D')):ae r (mE fa X μ' H' D'):=aJ h λfl M q=>q.ext x
def Lx {st sf:List Stmt}(hc:DT fa X c gc)(ht:nJ fa X st gt)(hf:nJ fa X sf gf):DS fa X (.If c st sf pos) (λZ M=>(gc Z M).bind λk M=>if k then gt Z M else gf Z M):=
 dO (EL hc ht hf) λD' σ H ⟨μ,Z,M,hE,hM,h⟩=>wo hE hM h λk M1 H1 μ1 x1 hE1 hM1 h1=>by
  cases k with
  |true=>exact{μ1,Z,M1,hE1,hM1,AN x1 h1}
  |false=>exact{μ1,Z,M1,hE1,hM1,AN x1 h1}
def xo:nJ fa X [] (λZ M=>.ok (.next Z) M):=wC qM λD' σ H ⟨μ,Z,M,hE,hM,h⟩=>h σ H μ .refl hE hM
def DH {st:Stmt}(h1:DS fa X st g)(h2:nJ fa X ss g'):nJ fa X (st::ss) (λZ M=>(g Z M).bind λfl M=>match fl with
 |.next Z=>g' Z M
 |fl=>.ok fl M):=
 wC (lO h1 h2) λD' σ H ⟨μ,Z,M,hE,hM,h⟩=>by
  obtain⟨fl,M1,e,q⟩:=aL h;refine{μ,Z,M,hE,hM,?_};rw[e];cases fl with
  |next ρ1=>exact λσ1 H1 μ1 x1 hE1 hM1=>{μ1,ρ1,M1,hE1,hM1,AN x1 q}
  |ret d=>exact q
  |exc x ρ1=>exact q
end
noncomputable def dP (fa:Fa)(K:Qh)(μ0:Mu)(H0:Hp)(w:Walk)(J:It):Prop:=
 ∀(μ:Mu) (H:Hp) (M:Mem) (ds:List D),ExtW μ0 H0 μ H->RelM fa K μ H M->w M=some ds->(∀(i:Nat) (d:D),ds[i]?=some d->J.go i H/\∀x H',J.yld i H x H'->Ext μ H μ H'/\RelM fa K μ H' M/\Rep fa K μ H' d x)/\∀i,ds.length<=i->J.stop i H
noncomputable def tI (fa:Fa)(K:Qh)(g:Env->Mem->Res Walk):TI:=λσ H R=>∃μ Z M,bz fa K μ H σ Z/\RelM fa K μ H M/\ae (g Z M) λw M'=>∀J H' μ',Ext μ H μ' H'->RelM fa K μ' H' M'->dP fa K μ' H' w J->R J H'
abbrev DI (fa:Fa)(X:Cx)(tg iter:Expr)(g:Env->Mem->Res Walk):Prop:=PI X tg iter (tI fa X.K g)
def rO {K:Qh}(h:dP fa K μ0 H0 w J)(x:ExtW μ0 H0 μ1 H1):dP fa K μ1 H1 w J:=λμ H M ds y hM e=>h μ H M ds (x.trans y) hM e
section
variable{fa:Fa}{X:Cx}{tg a b d:Expr}{ga gb gd:Env->Mem->Res D}{pos p:Pos}{es:List Expr}{n:Nat}
def zA {ad:Addr}(h:Rep fa X.K μ0 H0 dd (.ref ad)):dP fa X.K μ0 H0 (λM=>fo M dd) (Mg X.K ad):=λμ H M ds x hM e=>by
 obtain⟨ad',vs,ea,s,r⟩:=bN hM (Rep.extW x h) e;cases ea;refine{λi d hd=>?_,λi hi=>{vs,s,by rw[r.length];exact hi}}
 obtain⟨v,hv,rv⟩:=r.get hd;refine{⟨vs,v,s,hv⟩,λy H' ⟨e,hy⟩=>?_};subst e;have:=hy vs s;rw[hv] at this;cases this;exact{.refl,hM,rv}
def B4 {ad:Addr}(h:Rep fa X.K μ0 H0 (.tup ds) (.ref ad)):dP fa X.K μ0 H0 (λ_=>some ds) (Mf X.K ad):=λμ H M ds' x hM e'=>by
 cases e';obtain⟨ad',vs,e,s,r⟩:=Rep.extW x h;cases e;refine{λi d hd=>?_,λi hi=>{vs,s,by rw[r.length];exact hi}}
 obtain⟨v,hv,rv⟩:=r.get hd;refine{⟨vs,v,s,hv⟩,λy H' ⟨e,hy⟩=>?_};subst e;have:=hy vs s;rw[hv] at this;cases this;exact{.refl,hM,rv}
def B5 (lo:Int)(n:Nat):dP fa X.K μ0 H0 (λ_=>some ((List.range n).map λ(k:Nat)=>D.int (lo+(k:Int)))) (FN lo n):=λμ H M ds x hM e=>by
 cases e;refine{λi d hd=>?_,λi hi=>(show n<=i by simpa using hi)}
 rw[QC] at hd;by_cases hi:i<n
 ·rw[SH hi] at hd;have e:=Qv hd;subst e;refine{hi,λy H' ⟨e1,e2⟩=>?_};subst e1 e2;exact{.refl,hM,rfl}
 ·rw[Sy (by simpa using hi)] at hd;cases hd
noncomputable def bK (ga:Env->Mem->Res D):Env->Mem->Res Walk:=λZ M=>(ga Z M).bind λx M=>match x with
 |.lst ds=>.ok (λ_=>some ds) M
 |.tup ds=>.ok (λ_=>some ds) M
 |.frz ds=>.ok (λ_=>some ds) M
 |.cell k=>.ok (λM=>M[k]?) M
 |_=>.bad
def LH (ha:DE fa X a ga):DI fa X tg a (bK ga):=λpins s σ H R I ⟨μ,Z,M,hE,hM,h⟩=>by
 obtain⟨x,M1,e,q⟩:=aL h;have lst:(∀μ' H',RelM fa X.K μ' H' M1->∀v,Rep fa X.K μ' H' x v->∃ds,fo M1 x=some ds)->(∀J H' μ',Ext μ H μ' H'->RelM fa X.K μ' H' M1->dP fa X.K μ' H' (λM=>fo M x) J->R J H')->
  wpAny (model X.prog X.w) X.A (eval a X.env) (λv s1=>wpAny (model X.prog X.w) X.A (pyIter v) (Mb X pins σ tg R) X.xe s1) X.xe s:=λhx q=>by
  refine Ha ha pins s σ H R I {μ,Z,M,hE,hM,?_};rw[e];intro v H1 μ1 x1 m1 r1;obtain⟨ds,er⟩:=hx μ1 H1 m1 v r1;obtain⟨ad,vs,rfl,s1,r⟩:=bN m1 r1 er;exact{ad,rfl,⟨vs,s1⟩,q _ H1 μ1 x1 m1 (zA r1)}
 cases x with
 |lst ds=>exact lst (λ_ _ _ _ _=>⟨ds,rfl⟩) q
 |frz ds=>exact lst (λ_ _ _ _ _=>⟨ds,rfl⟩) q
 | tup ds =>
   refine JX ha pins s σ H R I {μ,Z,M,hE,hM,?_};rw[e];intro v H1 μ1 x1 m1 r1;obtain⟨ad,vs,rfl,s1,r⟩:=id r1;exact{ad,rfl,⟨vs,s1⟩,q _ H1 μ1 x1 m1 (B4 r1)}
 |cell k=>exact lst (λμ' H' m' v ⟨ad,_,hk⟩=>let{ds,_,e,_}:=m'.mu_lt hk;⟨ds,e⟩) q
 |_=>exact q.elim
noncomputable def dg (ga:Env->Mem->Res D):Env->Mem->Res Walk:=λZ M=>(ga Z M).bind λx M=>match x with
 |.int n=>if -(2^62)<=n/\n<2^62 then .ok (λ_=>some ((List.range n.toNat).map λ(k:Nat)=>D.int (k:Int))) M else .bad
 |_=>.bad
def HZ (ha:DE fa X a ga)(hg:Gl X "range")(hm:X.mg "range"=none)(hs:starEach [a] X.env=[(false,eval a X.env)]):DI fa X tg (.Call (.Name "range" p) [a] [] pos) (dg ga):=λpins s σ H R I ⟨μ,Z,M,hE,hM,h⟩=>by
 refine AH hg hm (c7 ha eI hs) hs pins s σ H R I ?_;refine t1 hE hM h λx M1 v H1 μ1 x1 hE1 hM1 r1 h1=>?_;cases x with
 | int n =>
   dsimp only at h1;split at h1
   ·next c=>
    obtain rfl:v=.int n:=r1;refine{n,rfl,c.1,c.2,h1 _ H1 μ1 x1 hM1 ?_};have:=B5 (fa:=fa) (X:=X) (μ0:=μ1) (H0:=H1) 0 n.toNat;simpa using this
   ·exact h1.elim
 |_=>exact h1.elim
noncomputable def iF (t:fY)(gb:Env->Mem->Res Fl):Fl->D->Mem->Res Fl:=λfl d M=>match fl with
 |.next Z=>(cu M (b6 t d Z)).bind λρ1 M=>gb ρ1 M
 |fl=>.ok fl M
noncomputable def Fl.out:Fl->Bool
 |.next _=>false
 |_=>true
def lW {gb:Env->Mem->Res Fl}(ho:fl.out=true):∀(n i:Nat) (M:Mem),ae (gu (iF t gb) w n i fl M) P->P fl M
 |0,_,_,h=>h.elim
 | n + 1, i, M, h => by
   unfold gu at h;cases e:w M with
   |none=>rw[e] at h;exact h.elim
   | some ds =>
     rw[e] at h;dsimp only at h;cases e2:ds[i]? with
     |none=>rw[e2] at h;exact h
     | some d' =>
       rw[e2] at h;cases fl with
       |next Z=>cases ho
       |ret d=>exact lW ho n (i+1) M h
       |exc x Z=>exact lW ho n (i+1) M h
noncomputable def tL (fa:Fa)(X:Cx)(g:Env->Mem->Res Fl):TS:=λD σ H=>(∀σ H,D.nx σ H->D.ct σ H)/\tF fa X g D σ H
abbrev vW (fa:Fa)(X:Cx)(st:List Stmt)(g:Env->Mem->Res Fl):Prop:=lD X st (tL fa X g)
def Fu {body:List Stmt}{gb:Env->Mem->Res Fl}(h:nJ fa X body gb):vW fa X body gb:=λpins s σ H D I q=>h pins s σ H D I q.2
def Bu {gw:Env->Mem->Res Walk}{gb:Env->Mem->Res Fl}(hp:PassesOwn (model X.prog X.w) X.A X.env X.xe)(hc:X.calm=true)(hi:DI fa X tg a gw)(hg:PG X tg (gT fa X.K t))(hb:vW fa X body gb)
 (hs:∀x,foldedSetIterable a X.env x=pure x):DS fa X (.For tg a body [] pos) (λZ M=>(gw Z M).bind λw M=>c9 (iF t gb) w (.next Z) M):=
 dO (JU hp hc hi hg hb hs) λD' σ H ⟨μ,Z,M,hE,hM,h⟩=>by
  obtain⟨w,M1,e,q⟩:=aL h;refine{μ,Z,M,hE,hM,?_};rw[e];intro J H1 μ1 x1 hM1 wk;have hE1:=hE.ext x1;refine{λi m σ' H'=>∃μ' ρ' M',Ext μ1 H1 μ' H'/\bz fa X.K μ' H' σ' ρ'/\RelM fa X.K μ' H' M'/\ae (gu (iF t gb) w m i (.next ρ') M') (mE fa X μ H D'),
   {_,μ1,Z,M1,.refl,hE1,hM1,q},?_}
  rintro i m σ2 H2 ⟨μ2,ρ2,M2,x2,hE2,hM2,q2⟩;cases m with
  |zero=>exact q2.elim
  | succ m =>
    unfold gu at q2;cases e2:w M2 with
    |none=>rw[e2] at q2;exact q2.elim
    | some ds =>
      rw[e2] at q2;dsimp only at q2;obtain⟨go,stop⟩:=wk μ2 H2 M2 ds x2.toExtW hM2 e2;cases ed:ds[i]? with
      | none =>
        rw[ed] at q2;exact .inl {stop i (List.getElem?_eq_none_iff.mp ed),q2 σ2 H2 μ2 (x1.trans x2) hE2 hM2}
      | some d =>
        rw[ed] at q2;obtain⟨g1,g2⟩:=go i d ed;refine .inr {g1,λσ' H'=>∃μ' ρ' M',Ext μ1 H1 μ' H'/\bz fa X.K μ' H' σ' ρ'/\RelM fa X.K μ' H' M'/\ae (gu (iF t gb) w m (i+1) (.next ρ') M') (mE fa X μ H D'),λσ' H' z=>{m,`a,z},λy H3 hy=>?_}
        obtain⟨x3,hM3,r3⟩:=g2 y H3 hy;obtain⟨fl,M4,e4,q4⟩:=aL q2;obtain⟨ρ4,M5,e5,e6⟩:=fj e4;cases eb:b6 t d ρ2 with
        |none=>rw[eb] at e5;cases e5
        | some ρ5 =>
          rw[eb] at e5;cases e5;refine{μ2,ρ2,_,d,ρ4,hE2.ext x3,hM3,r3,eb,λσ5 hE5=>{λ_ _ z=>z,μ2,ρ4,_,hE5,hM3,?_}};rw[e6];cases fl with
          |next ρ6=>exact λσ6 H6 μ6 x6 hE6 hM6=>{μ6,ρ6,M4,(x2.trans x3).trans x6,hE6,hM6,q4}
          |ret d6=>exact(lW rfl m (i+1) M4 q4).ext ((x1.trans x2).trans x3)
          |exc x6 ρ6=>exact(lW rfl m (i+1) M4 q4).ext ((x1.trans x2).trans x3)
end
abbrev FF:Qi->Qm->Prop:=λ_ _=>False
section
variable{prog:Ra}{w:Rb}{A:RR}{s:Qm}
def BB
 (heq:compTurn ce k it acc env=(standAt p >>= λ_=>pyNext it >>= λr=>match r with
  |none=>pure (.done .next)
  |some v=>letOwnedTupleGo target it v >>= λ_=>assign target env v >>= λ_=>body >>= λ_=>again (.compLoop ce k it acc env)))
 (hd:(model prog w).den (.compLoop ce k it acc env)=(compTurn ce k it acc env).onRaise (λx=>do noteFrame x env;theTreesLotGoes x)/\A.under (.compLoop ce k it acc env)=A) (I:Nat->Qm->Prop)
 (turn:∀n s,I n s->wpAny (model prog w) A (pyNext it) (λr s₁=>match r with
  |none=>R (.ok .next) s₁
  |some v=>wpAny (model prog w) A (letOwnedTupleGo target it v) (λ_ s₂=>wpAny (model prog w) A (assign target env v) (λ_ s₃=>wpAny (model prog w) A body (λ_ s₄=>∃m,m<n/\I m s₄) FF s₃) FF s₂) FF s₁) FF s)
 (n:Nat) (h:I n s):codeAny (model prog w) A (.compLoop ce k it acc env) R s:=by
 refine codeAny_loop rfl I (λn s hI=>?_) n h;rw[hd.1,hd.2];refine wpAny_noted ?_;rw[heq];refine wpAny_noRaise ?_;refine tqa (wpAny_standAt (tqa (aT (turn n s hI) λr s₁ h₁=>?_)));cases r with
 |none=>exact tqb h₁
 | some v =>
   refine tqa (aT h₁ λ_ s₂ h₂=>?_);exact tqa (aT h₂ λ_ s₃ h₃=>tqa (aT h₃ λ_ s₄ h₄=>tqb ⟨rfl,h₄⟩))
def Cq (elt target iter:Expr)(gs:List Su)(scope:Scope)(pos:Pos)(it acc:Qi)(env:R3) :
 compTurn (.ListComp elt [{target,iter,[],0}] scope pos) 0 it acc env=(standAt iter.pos >>= λ_=>pyNext it >>= λr=>match r with
  |none=>pure (.done .next)
  |some v=>letOwnedTupleGo target it v >>= λ_=>assign target env v >>= λ_=>(eval elt env >>= λx=>call (.builtin "list.append") [acc,x] >>= λ_=>pure ()) >>= λ_=>again (.compLoop (.ListComp elt [{target,iter,[],0}] scope pos) 0 it acc env)):=`r
def turn_if (elt target iter c:Expr)(scope:Scope)(pos:Pos)(it acc:Qi)(env:R3) :
 compTurn (.ListComp elt [{target,iter,[c],0}] scope pos) 0 it acc env=(standAt iter.pos >>= λ_=>pyNext it >>= λr=>match r with
  |none=>pure (.done .next)
  |some v=>letOwnedTupleGo target it v >>= λ_=>assign target env v >>= λ_=>(isTrue c env (eval c env) >>= λok=>if ok=true then(eval elt env >>= λx=>call (.builtin "list.append") [acc,x] >>= λ_=>pure ()) else pure ()) >>= λ_=>again (.compLoop (.ListComp elt [{target,iter,[c],0}] scope pos) 0 it acc env)):=by
 rw[compTurn_list];refine congrArg _ (funext λ_=>congrArg _ (funext λr=>?_));cases r with
 |none=>rfl
 | some v =>
   simp only[List.forIn_cons,List.forIn_nil,if_true,bind_assoc,pure_bind];refine congrArg _ (funext λ_=>congrArg _ (funext λ_=>congrArg _ (funext λok=>?_)));cases ok<;>simp
def Co (elt target iter t2 i2:Expr)(scope:Scope)(pos:Pos)(it acc:Qi)(env:R3) :
 compTurn (.ListComp elt [{target,iter,[],0},{t2,i2,[],0}] scope pos) 0 it acc env=(standAt iter.pos >>= λ_=>pyNext it >>= λr=>match r with
  |none=>pure (.done .next)
  |some v=>letOwnedTupleGo target it v >>= λ_=>assign target env v >>= λ_=>(eval i2 env >>= λx=>standAt i2.pos >>= λ_=>foldedSetIterable i2 env x >>= λx=>holding [x] (pyIter x) >>= λj=>runOwn (.compStart (.ListComp elt [{target,iter,[],0},{t2,i2,[],0}] scope pos) 1 j acc env) env >>= λ_=>pure ()) >>= λ_=>again (.compLoop (.ListComp elt [{target,iter,[],0},{t2,i2,[],0}] scope pos) 0 it acc env)):=by
 refine bind_congr λ_=>bind_congr λr=>?_;cases r with
 |none=>rfl
 |some v=>simp
def Cp (elt target iter t2 i2:Expr)(scope:Scope)(pos:Pos)(it acc:Qi)(env:R3) :
 compTurn (.ListComp elt [{target,iter,[],0},{t2,i2,[],0}] scope pos) 1 it acc env=(standAt i2.pos >>= λ_=>pyNext it >>= λr=>match r with
  |none=>pure (.done .next)
  |some v=>letOwnedTupleGo t2 it v >>= λ_=>assign t2 env v >>= λ_=>(eval elt env >>= λx=>call (.builtin "list.append") [acc,x] >>= λ_=>pure ()) >>= λ_=>again (.compLoop (.ListComp elt [{target,iter,[],0},{t2,i2,[],0}] scope pos) 1 it acc env)):=by
 rfl
def md (env:R3):∀(ns:List (Str×NameKind)) (cs:List (Str×Addr)),(∀y∈ns,y.2=.free->∃c,env.cells.lookup y.1=some c)->(∀x c,cs.lookup x=some c->env.cells.lookup x=some c)->
 ∃cl,(forIn ns cs λ(y:Str×NameKind) (r:List (Str×Addr))=>if (y.2==NameKind.free)=true then cellOf env y.1 >>= λa=>pure (ForInStep.yield ((y.1,a)::r)) else pure (ForInStep.yield r):Sem _)=pure cl/\
  (∀x c,cl.lookup x=some c->env.cells.lookup x=some c)/\(∀x c,cs.lookup x=some c->∃c',cl.lookup x=some c')/\∀y∈ns,y.2=.free->∃c,cl.lookup y.1=some c
 |[],cs,_,h2=>{cs,`s,h2,λx c e=>⟨c,e⟩,λy hy=>nomatch hy}
 | (n, k) :: ns, cs, h1, h2 => by
   by_cases hk:k=.free
   ·subst hk;obtain⟨a,ha⟩:=h1 (n,.free) QK rfl;have lk:∀x c,((n,a)::cs).lookup x=some c->env.cells.lookup x=some c:=λx c e=>by
     rw[Rw] at e;split at e
     ·next q=>cases e;rw[eq_of_beq q];exact ha
     ·exact h2 x c e
    obtain⟨cl,e,p1,p2,p3⟩:=md env ns ((n,a)::cs) (λy hy=>h1 y (Qz _ hy)) lk;refine{cl,?_,p1,λx c q=>?_,λy hy hf=>?_}
    ·rw[List.forIn_cons];have ec:cellOf env n=pure a:=by unfold cellOf;rw[ha]
     simp only[beq_self_eq_true,if_true,ec];exact e
    ·by_cases hx:x=n
     ·exact p2 x a (by rw[Rw,hx];simp)
     ·exact p2 x c (by rw[Rw,R1.mpr hx];exact q)
    ·rcases Rg.mp hy with z|z
     ·subst z;exact p2 n a (by simp[Rw])
     ·exact p3 y z hf
   ·obtain⟨cl,e,p1,p2,p3⟩:=md env ns cs (λy hy=>h1 y (Qz _ hy)) h2;refine{cl,?_,p1,p2,λy hy hf=>?_}
    ·rw[List.forIn_cons];have eb:(k==NameKind.free)=false:=by simpa using hk
     simp only[eb,Bool.false_eq_true,if_false];exact e
    ·rcases Rg.mp hy with z|z
     ·subst z;exact absurd hf hk
     ·exact p3 y z hf
def qu (h:∀y∈scope.names,y.2=.free->∃c,env.cells.lookup y.1=some c) :
 ∃cl,closureFor scope env=pure cl/\(∀x c,cl.lookup x=some c->env.cells.lookup x=some c)/\∀y∈scope.names,y.2=.free->∃c,cl.lookup y.1=some c:=by
 obtain⟨cl,e,p1,_,p3⟩:=md env scope.names [] h (λx c q=>nomatch q);exact{cl,by unfold closureFor;simp only[bind_pure];exact e,p1,p3}
end
noncomputable def gn (X:Cx)(own bn:List Str)(scope:Scope)(cl:List (Str×Addr))(C:Addr)(fp:List Addr)(s:Qm)(H:Hp):Cx:=
 {X with N:=own++bn,s₀:=s,H₀:=H,env:=compEnvC scope cl C X.env,outer:=X.stack,ex:=fp,fn:=λx=>scope.names.lookup x==some .cell,pn:=[],xe:=FF}
def mem_of_lookup {β:Type}:∀{l:List (Str×β)}{x:Str}{k:β},l.lookup x=some k->(x,k)∈l
 |[],_,_,h=>by cases h
 | (n, b) :: r, x, k, h => by
   rw[Rw] at h;split at h
   ·next q=>cases h;rw[eq_of_beq q];exact QK
   ·exact Qz _ (mem_of_lookup h)
def g4 {env:R3}:∀{names:List (Str×NameKind)}{x:Str}{k:NameKind},
 (names.map λ(n,k)=>if (k==NameKind.free&&env.scope.kind==.function&&env.kindOf n==some .cell) then(n,NameKind.cell) else(n,k)).lookup x=some k->
 ∃k0,(x,k0)∈names/\names.lookup x=some k0/\(k=k0\/(k0=.free/\k=.cell))
 |[],_,_,h=>by cases h
 | (n, k0) :: r, x, k, h => by
   have ih:=@g4 env r x k;have h:List.lookup x ((if (k0==NameKind.free&&env.scope.kind==.function&&env.kindOf n==some .cell)=true then(n,NameKind.cell) else(n,k0))::_)=some k:=h;cases hx:x==n with
   | true =>
     have e:=eq_of_beq hx;subst e;refine{k0,QK,by simp[Rw],?_}
     split at h
     ·next c=>
      simp[Rw] at h;simp at c;exact .inr ⟨c.1.1,h.symm⟩
     ·simp[Rw] at h;exact .inl h.symm
   | false =>
     have h':List.lookup x (r.map λ(n,k)=>if (k==NameKind.free&&env.scope.kind==.function&&env.kindOf n==some .cell) then(n,NameKind.cell) else(n,k))=some k:=by
      split at h<;>simpa[Rw,hx] using h
     obtain⟨k1,h1,h2,h3⟩:=ih h';exact{k1,Qz _ h1,by simp[Rw,hx];exact h2,h3}
def qb {α β:Type}{R:α->β->Prop}:∀{l:List α}{r:List β}{i:Nat}{x:α},R5 R l r->l[i]?=some x->∃y,r[i]?=some y/\R x y
 |_,_,_,_,.nil,e=>by simp at e
 |_,_,0,_,.cons p _,e=>by simp at e;subst e;exact{_,rfl,p}
 | _, _, i + 1, x, .cons _ t, e => by
   obtain⟨y,h1,h2⟩:=qb t (by simpa using e)
   exact{y,by simpa using h1,h2}
structure fM (X:Cx) (own bn:List Str) (scope:Scope):Prop where
 kind:scope.kind=.function
 cel:∀y∈scope.names,y.2=.cell->scope.names.lookup y.1=some .cell
 loc:∀y∈scope.names,y.2=.local->scope.names.lookup y.1=some .local
 free:∀y∈scope.names,y.2=.free->X.env.kindOf y.1=some .cell\/X.env.kindOf y.1=some .free
 dis:R5 (λb x=>(b=x/\scope.names.lookup x≠some .local/\scope.names.lookup x≠some .cell)\/scope.names.lookup b=none) bn X.N
def jI:∀(names:List (Str×NameKind)) (n:Nat) (acc:List (Str×Addr)),cellsFrom n names acc=cellsFrom n names []++acc
 |[],_,_=>rfl
 | (nm, k) :: r, n, acc => by
   unfold cellsFrom;split
   ·rw[jI r (n+1) ((nm,n)::acc),jI r (n+1) [(nm,n)],Ry];rfl
   ·exact jI r n acc
def vn:∀{names:List (Str×NameKind)}{n:Nat}{x:Str}{c:Addr},(x,c)∈cellsFrom n names []->(x,NameKind.cell)∈names
 |[],_,_,_,h=>nomatch h
 | (nm, k) :: r, n, x, c, h => by
   unfold cellsFrom at h;split at h
   ·next e=>
    rw[jI] at h;rcases QL.mp h with h|h
    ·exact Qz _ (vn h)
    ·cases Qw.mp h;rw[eq_of_beq e];exact QK
   ·exact Qz _ (vn h)
def qv:∀{names:List (Str×NameKind)}{n:Nat}{x:Str},(x,NameKind.cell)∈names->∃c,(x,c)∈cellsFrom n names []
 | (nm, k) :: r, n, x, h => by
   unfold cellsFrom;rcases Rg.mp h with h|h
   ·cases h;rw[if_pos (by rfl:(NameKind.cell==NameKind.cell)=true),jI]
    exact{n,Rh _ (Qw.mpr rfl)}
   ·split
    ·obtain⟨c,hc⟩:=qv h;rw[jI];exact{c,RE _ hc}
    ·exact qv h
def mS {β:Type}:∀{l:List (Str×β)}{x:Str}{b:β},(x,b)∈l->∃c,l.lookup x=some c
 | (n, b') :: r, x, b, h => by
   rw[Rw];cases e:x==n with
   |true=>exact{_,rfl}
   | false =>
     rcases Rg.mp h with z|z
     ·cases z;rw[beq_self_eq_true] at e;cases e
     ·exact mS z
def sC
 (h:Q (newEnv scope s.heap.objs.size globals (cellsFrom (s.heap.objs.size+1) scope.names cl) qual none .none (some env) builtinsNs) {s with heap:=pushCells (s.heap.push {cls:=.type "dict",data:=.dict #[]}) scope.names}) :
 wpAny M A (newFunctionEnv scope globals cl [] qual none .none (some env)) Q E s:=by
 simp only[newFunctionEnv,Option.isSome_some,if_true];refine tqa (wpAny_alloc ?_);refine tqa (wpAny_layCells _ (λname kind cells=>by cases hkc:kind==NameKind.cell<;>simp[hkc]) _ _ _ _ ?_)
 rw[show({s with heap:=s.heap.push {cls:=.type "dict",data:=.dict #[]}}:Qm).heap.objs.size=s.heap.objs.size+1 from Se ..]
 exact tqa (tqb (tqb h))
section
variable{X:Cx}{pins:List (Addr×Obj)}{σ:L2.St}{H:Hp}{s:Qm}{fp:List Addr}{scope:Scope}{cl:List (Str×Addr)}{own bn:List Str}
structure Cl (X:Cx) (scope:Scope) (cl:List (Str×Addr)) (n:Nat):Prop where
 sub:∀x c,cl.lookup x=some c->(scope.names.lookup x=some .cell/\n<c)\/(scope.names.lookup x≠some .cell/\X.env.cells.lookup x=some c)
 inj:∀x y c,cl.lookup x=some c->cl.lookup y=some c->scope.names.lookup x=some .cell->scope.names.lookup y=some .cell->x=y
 has:∀y∈scope.names,(y.2=.free\/y.2=.cell)->∃c,cl.lookup y.1=some c
def Fy (S:fM X own bn scope)(h1:∀x c,cl.lookup x=some c->X.env.cells.lookup x=some c)(h2:∀y∈scope.names,y.2=.free->∃c,cl.lookup y.1=some c)(h:Heap)(hn:h.objs.size=n+1) :
 Cl X scope (cellsFrom (n+1) scope.names cl) n/\∀x c,(cellsFrom (n+1) scope.names cl).lookup x=some c->scope.names.lookup x=some .cell->(pushCells h scope.names).IsCell c none:=by
 have ok:=cellsFrom_ok scope.names h (n+1) [] {λ_ _ hm=>(nomatch hm),List.Pairwise.nil} (by rw[hn];exact Ql _)
 rw[hn] at ok;rw[jI];have own_:∀{x c},(cellsFrom (n+1) scope.names []++cl).lookup x=some c->scope.names.lookup x=some .cell->(x,c)∈cellsFrom (n+1) scope.names []:=λ{x c} e hx=>by
  obtain⟨c',hc'⟩:=qv (mem_of_lookup hx);obtain⟨c2,h2⟩:=mS hc';rw[List.lookup_append,h2] at e;cases e;exact mem_of_lookup h2
 have out_:∀{x c},(cellsFrom (n+1) scope.names []++cl).lookup x=some c->scope.names.lookup x≠some .cell->cl.lookup x=some c:=λ{x c} e hx=>by
  rw[List.lookup_append] at e;cases z:(cellsFrom (n+1) scope.names []).lookup x with
  |none=>rw[z] at e;exact e
  |some c'=>exact absurd (S.cel _ (vn (mem_of_lookup z)) rfl) hx
 refine{{λx c e=>?_,λx y c e1 e2 hx hy=>?_,λy hy hk=>?_},λx c e hx=>(ok.empty x c (own_ e hx)).1}
 ·by_cases hx:scope.names.lookup x=some .cell
  ·exact .inl {hx,(ok.empty x c (own_ e hx)).2}
  ·exact .inr {hx,h1 x c (out_ e hx)}
 ·exact name_of_addr ok.apart (own_ e1 hx) (own_ e2 hy)
 ·rcases hk with hk|hk
  ·obtain⟨c,hc⟩:=h2 y hy hk;rw[List.lookup_append];cases (cellsFrom (n+1) scope.names []).lookup y.1 with
   |none=>exact⟨c,hc⟩
   |some c'=>exact⟨c',rfl⟩
  ·obtain⟨c,hc⟩:=qv (by rw[<- hk];exact hy)
   obtain⟨c2,e2⟩:=mS hc;rw[List.lookup_append,e2];exact⟨c2,rfl⟩
def Ij (I:Inv X pins σ H s)(S:fM X own bn scope)(hcl:Cl X scope cl s.heap.objs.size)(hfp:∀b∈fp,fK X pins H b)(hfo:∀b∈fp,∃o,s.heap.get? b=some o) :
 (gn X own bn scope cl s.heap.objs.size fp s H).Ok where
 mod:=I.ok.mod
 kind:=S.kind
 glob:=I.ok.glob
 blt:=I.ok.blt
 above:=Ql _
 inj:=λx y c h1 h2=>by
  have lt:=λz e=>Nat.not_lt.mpr (So (let{_,q}:=I.cell z c e;q.lt))
  rcases hcl.sub x c h1 with⟨a1,a2⟩|⟨a1,a2⟩<;>rcases hcl.sub y c h2 with⟨b1,b2⟩|⟨b1,b2⟩
  ·exact hcl.inj x y c h1 h2 a1 b1
  ·exact absurd a2 (lt y b2)
  ·exact absurd b2 (lt x a2)
  ·exact I.ok.inj x y c a2 b2
 has:=λx h=>by
  have key:∀k,(relabel scope X.env).names.lookup x=some k->(k=.cell\/k=.free)->∃c,cl.lookup x=some c:=λk hk hh=>by
   obtain⟨k0,h1,h2,h3⟩:=g4 hk;refine hcl.has _ h1 ?_;rcases h3 with e|⟨e,_⟩
   ·rcases hh with z|z
    ·exact .inr (e.symm.trans z)
    ·exact .inl (e.symm.trans z)
   ·exact .inl e
  rcases h with h|h
  ·exact key _ h (.inl rfl)
  ·exact key _ h (.inr rfl)
 cab:=λx c h e=>by
  rcases hcl.sub x c e with⟨_,a2⟩|⟨a1,_⟩
  ·exact So a2
  ·exact absurd (eq_of_beq h) a1
 hd:=I.ok.hd
 frames:=I.ok.frames
 stk:=.inl rfl
 exf:=λb hb=>{λe=>by
  obtain⟨o,ho⟩:=hfo b hb;exact absurd (QH ho) (by rw[e];exact RH _),λx c e=>by
  rcases hcl.sub x c e with⟨_,a2⟩|⟨_,a2⟩
  ·obtain⟨o,ho⟩:=hfo b hb;exact λz=>absurd (QH ho) (by rw[<- z];exact Nat.lt_asymm a2)
  ·exact(hfp b hb).2.2.2.2.1 x c a2}
 bs:=λb o e=>I.bs b o e
 bsz:=Qp I.ok.bsz I.sz
 noex:=λb o e hb=>by
  rcases(hfp b hb).2.2.2.1 with z|z
  ·exact I.ok.noex b o e z
  ·exact absurd (QN (QH e) (Qp I.ok.bsz z)) (RH _)
 exfs:=λb hb hx=>by
  rcases Rg.mp (I.stkSub b hx) with e|e
  ·exact(hfp b hb).2.1 e
  ·exact(hfp b hb).2.2.1 e
 funs:=I.stack
 frf:=λb hb=>I.stkFree b hb
def vm (I:Inv X pins σ H s)(S:fM X own bn scope)(hcl:Cl X scope cl s.heap.objs.size)(hfp:∀b∈fp,fK X pins H b)(hfo:∀b∈fp,∃o,s.heap.get? b=some o)
 (hn:h'.Ns s.heap.objs.size m) (hk:∀b o,s.heap.get? b=some o->h'.get? b=some o) (hce:∀x c,cl.lookup x=some c->scope.names.lookup x=some .cell->h'.IsCell c none) :
 Inv (gn X own bn scope cl s.heap.objs.size fp s H) [] (List.replicate own.length none++σ) H {s with heap:=h',toks:=t'} where
 ok:=Ij I S hcl hfp hfo
 os:=rfl
 bare:=I.bare
 base:=Un.kept hk
 loc:=by
  refine{m,hn,λi x v e1 e2 hv=>?_};have e1:(own++bn)[i]?=some x:=e1;have hi:own.length<=i:=by
   by_cases q:i<own.length
   ·rw[Qn (by simpa using q),Ss] at e2
    simp[q] at e2
   ·omega
  rw[Q0 hi] at e1;rw[Q0 (by simpa using hi)] at e2
  simp only[List.length_replicate] at e2;have hx:X.N[i-own.length]?=some x/\scope.names.lookup x≠some .local/\scope.names.lookup x≠some .cell:=by
   rcases qb S.dis e1 with⟨y,h1,⟨h2,h3⟩|h2⟩
   ·subst h2;exact⟨h1,h3⟩
   ·exfalso;have no:∀k,(relabel scope X.env).names.lookup x≠some k:=λk hk=>by
     obtain⟨k0,_,h3,_⟩:=g4 hk;rw[h2] at h3;cases h3
    rcases hv with z|z|z
    ·exact no _ z
    ·exact no _ z
    ·exact no _ z
  have key:∀k,(relabel scope X.env).names.lookup x=some k->(k=.local\/k=.cell\/k=.free)->∃c,(k=.cell\/k=.free)/\cl.lookup x=some c/\(X.env.kindOf x=some .cell\/X.env.kindOf x=some .free):=λk hk2 hh=>by
   obtain⟨k0,h1,h2,h3⟩:=g4 hk2;have nl:k0≠.local:=λe=>hx.2.1 (by rw[h2,e])
   have hf:k0=.free:=by
    rcases h3 with e|⟨e,_⟩
    ·rcases hh with z|z|z
     ·exact absurd (e.symm.trans z) nl
     ·exact absurd (by rw[h2,e.symm.trans z]) hx.2.2
     ·exact e.symm.trans z
    ·exact e
   obtain⟨c,hc⟩:=hcl.has _ h1 (.inl hf);refine{c,?_,hc,S.free _ h1 hf};rcases hh with z|z|z
   ·rcases h3 with e|⟨_,e⟩
    ·rw[hf] at e;rw[e] at z;cases z
    ·rw[e] at z;cases z
   ·exact .inl z
   ·exact .inr z
  have fin:∀k,(relabel scope X.env).names.lookup x=some k->(k=.local\/k=.cell\/k=.free)->∃u,RelV v u/\Look (compEnvC scope cl s.heap.objs.size X.env) h' m x u:=λk hk2 hh=>by
   obtain⟨c,h1,h2,h3⟩:=key k hk2 hh;obtain⟨m0,_,hl⟩:=I.loc;obtain⟨u,r,l⟩:=hl _ x v hx.1 e2 (.inr h3);refine{u,r,.inr {?_,c,h2,?_}}
   ·rcases h1 with z|z
    ·subst z;exact .inl hk2
    ·subst z;exact .inr hk2
   ·rcases l with⟨z,_⟩|⟨_,c',hc',hcell⟩
    ·rcases h3 with q|q
     ·rw[z] at q;cases q
     ·rw[z] at q;cases q
    ·rcases hcl.sub x c h2 with⟨a1,_⟩|⟨_,a2⟩
     ·exact absurd a1 hx.2.2
     rw[a2] at hc';cases hc';obtain⟨o,ho,hd⟩:=hcell;exact{o,hk _ _ ho,hd}
  rcases hv with z|z|z
  ·exact fin _ z (.inl rfl)
  ·exact fin _ z (.inr (.inl rfl))
  ·exact fin _ z (.inr (.inr rfl))
 cell:=λx c e=>by
  rcases hcl.sub x c e with⟨a1,_⟩|⟨_,a2⟩
  ·exact{none,hce x c e a1}
  obtain⟨v,o,ho,hd⟩:=I.cell x c a2;exact{v,o,hk _ _ ho,hd}
 free:=I.hok.fresh (Ql _)
 freeC:=λx c e=>(hcl.sub x c e).elim (λz=>I.hok.fresh (So z.2)) λz=>I.freeC x c z.2
 pin:=λp hp=>nomatch hp
 hok:=I.hok.kept hk
 len:=by
  show(List.replicate own.length none++σ).length=(own++bn).length;have:=Paired.length S.dis;simp[I.len,this]
def comp_back (I:Inv X pins σ H s)(hfp:∀b∈fp,fK X pins H b)(I':Inv (gn X own bn scope cl C fp s H) pins' σ' H' s'):Inv X pins σ H' s':=
 I.call' I'.os I'.base I'.hok I'.bare λb hb=>{(hfp b hb).2.2.2.1,(hfp b hb).2.1,(hfp b hb).2.2.2.2.1,(hfp b hb).2.2.2.2.2}
def sF (I:Inv X pins σ H s)(hf:H' s.heap.objs.size=none)(I':Inv X pins σ' H' s')(hs:R6 s.heap.objs.size s'.heap h''):Inv X pins σ' H' {s' with heap:=h''}:=
 I'.turned (λb o hb e=>(hs.2 b hb).trans e) hf (Rq I.lt) (.inr I.sz) (λx c e z=>by
  obtain⟨v,q⟩:=I.cell x c e;exact absurd q.lt (by rw[z];exact RH _)) λp hp z=>absurd (QH (I.pin p hp).1) (by rw[z];exact RH _)
end
structure fL (a:Addr) (μ:Mu) (H:Hp) (μ':Mu) (H':Hp):Prop extends ExtW μ H μ' H' where
 pr:μ'.priv=μ.priv
 pk:∀b∈μ.priv,b≠a->H' b=H b
def fL.refl:fL a μ H μ H:={.refl,rfl,λ_ _ _=>rfl}
def fL.trans (x:fL a μ H μ1 H1)(y:fL a μ1 H1 μ2 H2):fL a μ H μ2 H2:=
 {x.toExtW.trans y.toExtW,y.pr.trans x.pr,λb hb n=>(y.pk b (by rw[x.pr];exact hb) n).trans (x.pk b hb n)}
def Ext.toD (x:Ext μ H μ' H'):fL a μ H μ' H':={x.toExtW,x.pr,λb hb _=>x.pk b hb}
noncomputable def slots:fY->List Nat
 |.one i=>[i]
 |.tup l=>l
 |.two i l=>i::l
noncomputable def Clear (W:List Nat)(Z:Env):Prop:=∀i∈W,∀d,Z[i]?≠some (some d)
section
variable{fa:Fa}{K:Qh}{μ μ':Mu}{H H':Hp}{σ:L2.St}{Z ρ1:Env}{M:Mem}{a:Addr}
def bz.weak (h:bz fa K μ H σ ρ1)(hl:ρ1.length=Z.length)(w:∀(i:Nat) d,Z[i]?=some (some d)->ρ1[i]?=some (some d)):bz fa K μ H σ Z:=
 {h.len.trans hl,λi d e=>h.at' i d (w i d e)}
def lK:∀{l:List Nat}{ds:List D}{Z ρ1:Env},di l ds Z=some ρ1->ρ1.length=Z.length/\∀i,i∉l->ρ1[i]?=Z[i]?
 |[],[],Z,ρ1,h=>by cases h;exact{rfl,λ_ _=>rfl}
 |_::_,[],_,_,h=>by cases h
 |[],_::_,_,_,h=>by cases h
 | j :: l, d :: ds, Z, ρ1, h => by
   obtain⟨h1,h2⟩:=lK (ds:=ds) h;refine{by simpa using h1,λi hi=>?_}
   rw[h2 i (λz=>hi (Qz _ z)),Qo (λz=>hi (by rw[z];exact QK))]
def sL (h:b6 t d Z=some ρ1):ρ1.length=Z.length/\∀i,i∉slots t->ρ1[i]?=Z[i]?:=by
 cases t with
 | one j =>
   cases h;exact{`s,λi hi=>Qo (λz=>hi (by rw[z];exact QK))}
 | tup l =>
   cases d with
   |tup ds=>exact lK h
   |_=>cases h
 | two j l =>
   obtain⟨e,ds,rfl,h⟩:=vF h;obtain⟨h1,h2⟩:=lK h;refine{by simpa using h1,λi hi=>?_}
   rw[h2 i (λz=>hi (Qz _ z)),Qo (λz=>hi (by rw[z];exact QK))]
def bz.unbind (h:b6 t d Z=some ρ1)(c:Clear (slots t) Z)(r:bz fa K μ H σ ρ1):bz fa K μ H σ Z:=by
 obtain⟨h1,h2⟩:=sL h;refine r.weak h1 λi d e=>?_;by_cases hi:i∈slots t
 ·exact absurd e (c i hi d)
 ·rw[h2 i hi];exact e
def RelM.writeP (h:RelM fa K μ H M)(e:a∈μ.priv)(hH:H a=some (.lst vs)):RelM fa K μ (upd H a (.lst ws)) M:=by
 have x:ExtW μ H μ (upd H a (.lst ws)):=ExtW.write hH (.inr e);refine{λk ds q=>?_,h.out,h.oout,h.inj,h.oinj,h.sep,λb hb=>{?_,(h.pv b hb).2}}
 ·rcases h.at' k ds q with⟨b,us,h1,h2,h3⟩|⟨b,h1,h2,h3⟩
  ·have nb:b≠a:=λz=>(h.pv a e).2 k (by rw[h1,z])
   exact .inl {b,us,h1,by rw[aH nb];exact h2,h3.extW x}
  ·exact .inr {b,h1,h2,h3.extW x (aH (h3.nl hH))}
 ·by_cases hb':b=a
  ·subst hb';exact⟨ws,cD⟩
  ·obtain⟨us,q⟩:=(h.pv b hb).1;exact{us,by rw[aH hb'];exact q}
def fL.writeP (e:a∈μ.priv)(hH:H a=some (.lst vs)):fL a μ H μ (upd H a (.lst ws)):=
 {ExtW.write hH (.inr e),rfl,λb _ n=>by rw[aH n]}
end
abbrev PA:=Mu->Hp->List D->Prop
noncomputable def zg (A:PA):Prop:=∀μ H μ' H' acc,Ext μ H μ' H'->A μ H acc->A μ' H' acc
noncomputable def LA (fa:Fa)(K:Qh)(a:Addr):PA:=λμ H acc=>a∈μ.priv/\∃vs,H a=some (.lst vs)/\aK fa K μ H acc vs
def LA.stab {K:Qh}:zg (LA fa K a):=λ_ _ _ _ _ x ⟨h1,vs,h2,h3⟩=>{by rw[x.pr];exact h1,vs,by rw[x.pk _ h1];exact h2,h3.ext x}
noncomputable def WB (fa:Fa)(K:Qh)(A:PA)(a:Addr)(μ:Mu)(H:Hp)(Z:Env)(Q:L2.St->Hp->Prop)(acc:List D)(M':Mem):Prop:=
 ∀σ' H' μ',fL a μ H μ' H'->bz fa K μ' H' σ' Z->RelM fa K μ' H' M'->A μ' H' acc->Q σ' H'
def WB.ext {K:Qh}(h:WB fa K A a μ H Z Q acc M')(x:fL a μ H μ1 H1):WB fa K A a μ1 H1 Z Q acc M':=
 λσ' H' μ' y e m h1=>h σ' H' μ' (x.trans y) e m h1
noncomputable def DB (fa:Fa)(X:Cx)(A:PA)(a:Addr)(W:List Nat)(body:Sem Unit)(g:Env->List D->Mem->Res (List D)):Prop:=
 ∀(pins:List (Addr×Obj)) (s:Qm) (σ:L2.St) (H:Hp) (Q:L2.St->Hp->Prop) (μ:Mu) (Z:Env) (M:Mem) (acc:List D),Inv X pins σ H s->bz fa X.K μ H σ Z->RelM fa X.K μ H M->Clear W Z->A μ H acc->
  ae (g Z acc M) (WB fa X.K A a μ H Z Q)->wpAny (model X.prog X.w) X.A body (λ_ s'=>∃σ' H',Inv X pins σ' H' s'/\Q σ' H') X.xe s
noncomputable def bo (ge:Env->Mem->Res D):Env->List D->Mem->Res (List D):=λZ acc M=>(ge Z M).bind λx M=>if acc.length<sz then .ok (acc++[x]) M else .bad
noncomputable def iW (gc:Env->Mem->Res Bool)(g:Env->List D->Mem->Res (List D)):Env->List D->Mem->Res (List D):=λZ acc M=>(gc Z M).bind λk M=>if k then g Z acc M else .ok acc M
noncomputable def cx (t:fY)(g:Env->List D->Mem->Res (List D))(Z:Env):List D->D->Mem->Res (List D):=λacc d M=>(cu M (b6 t d Z)).bind λρ1 M=>g ρ1 acc M
noncomputable def qY (t:fY)(gw:Env->Mem->Res Walk)(g:Env->List D->Mem->Res (List D)):Env->List D->Mem->Res (List D):=λZ acc M=>(gw Z M).bind λw M=>c9 (cx t g Z) w acc M
section
variable{fa:Fa}{X:Cx}{a:Addr}
def vf (he:DE fa X elt ge):DB fa X (LA fa X.K a) a [] (eval elt X.env >>= λx=>call (.builtin "list.append") [.ref a,x] >>= λ_=>pure ()) (bo ge):=by
 intro pins s σ H Q μ Z M acc I hE hM hc ⟨ha,vs,hH,hr⟩ h;obtain⟨x,M1,e,q⟩:=aL h;split at q
 ·next hz=>
  refine tqa (aT (he pins s σ H (λv H1=>∃μ1,Ext μ H μ1 H1/\RelM fa X.K μ1 H1 M1/\Rep fa X.K μ1 H1 x v) I {μ,Z,M,hE,hM,?_}) λu s1 ⟨v,H1,I1,rv,μ1,x1,m1,r1⟩=>?_)
  ·rw[e];exact λv H1 μ1 x1 m1 r1=>⟨μ1,x1,m1,r1⟩
  have hH1:H1 a=some (.lst vs):=by rw[x1.pk a ha];exact hH
  have ha1:a∈μ1.priv:=by rw[x1.pr];exact ha
  have hl:vs.length<sizeLine:=by rw[hr.length,<- dR];exact hz
  refine tqa (aT (mO pins s1 σ H1 (.ref a) [v] (.ref a) [u] (λ_ H2=>H2=upd H1 a (.lst (vs++[v]))) I1 rfl (.cons rv .nil) ⟨a,vs,v,rfl,rfl,hH1,hl,rfl⟩) λ_ s2 ⟨_,H2,I2,_,e2⟩=>tqb {σ,H2,I2,?_});subst e2;have xd:fL a μ1 H1 μ1 (upd H1 a (.lst (vs++[v]))):=fL.writeP ha1 hH1;exact q σ _ μ1 (x1.toD.trans xd) ((hE.ext x1).extW xd.toExtW) (m1.writeP ha1 hH1) {ha1,_,cD,((hr.ext x1).append (.one r1)).extW xd.toExtW}
 ·exact q.elim
def Nr (sA:zg A)(hc:DT fa X c gc)(hb:DB fa X A a W body g) :
 DB fa X A a W (isTrue c X.env (eval c X.env) >>= λok=>if ok=true then body else pure ()) (iW gc g):=by
 intro pins s σ H Q μ Z M acc I hE hM hw hA h;obtain⟨k,M1,e,q⟩:=aL h;refine tqa (aT (hc pins s σ H (λb H1=>b=k/\∃μ1,Ext μ H μ1 H1/\RelM fa X.K μ1 H1 M1) I {μ,Z,M,hE,hM,?_}) λb s1 ⟨H1,I1,eb,μ1,x1,m1⟩=>?_)
 ·rw[e];exact λH1 μ1 x1 m1=>⟨rfl,μ1,x1,m1⟩
 subst eb;cases b with
 | true =>
   rw[if_pos rfl];exact hb pins s1 σ H1 Q μ1 Z M1 acc I1 (hE.ext x1) m1 hw (sA _ _ _ _ _ x1 hA) (aJ q λ_ _ w=>w.ext x1.toD)
 | false =>
   rw[if_neg QP];exact tqb {σ,H1,I1,q σ H1 μ1 x1.toD (hE.ext x1) m1 (sA _ _ _ _ _ x1 hA)}
def rB (sA:zg A)
 (heq:compTurn ce k (.ref it) (.ref a) X.env=(standAt p >>= λ_=>pyNext (.ref it) >>= λr=>match r with
  |none=>pure (.done .next)
  |some v=>letOwnedTupleGo tg (.ref it) v >>= λ_=>assign tg X.env v >>= λ_=>body >>= λ_=>again (.compLoop ce k (.ref it) (.ref a) X.env)))
 (hd:(model X.prog X.w).den (.compLoop ce k (.ref it) (.ref a) X.env)=(compTurn ce k (.ref it) (.ref a) X.env).onRaise (λx=>do noteFrame x X.env;theTreesLotGoes x)/\X.A.under (.compLoop ce k (.ref it) (.ref a) X.env)=X.A) (hx:X.xe=FF) (hcalm:X.calm=true) (T:Turn X.prog X.w X.K tg J fp it tn) (hg:PG X tg (gT fa X.K t)) (hb:DB fa X A a W body g) (hW:∀i∈W,i∉slots t)
 (I:Inv X pins σ H s) (st:tn 0 s.heap) (hf:∀b∈fp,fK X pins H b) (hE:bz fa X.K μ H σ Z) (hM:RelM fa X.K μ H M)
 (hcl:Clear (slots t++W) Z) (hA:A μ H acc) (wk:dP fa X.K μ H w J) (q:ae (c9 (cx t g Z) w acc M) (WB fa X.K A a μ H Z Q)) :
 codeAny (model X.prog X.w) X.A (.compLoop ce k (.ref it) (.ref a) X.env) (λr s'=>r=.ok .next/\∃σ' H',Inv X pins σ' H' s'/\Q σ' H') s:=by
 have stat:∀{H':Hp},(∀b∈fp,H' b=none)->∀b∈fp,fK X pins H' b:=λhn b hb=>{hn b hb,(hf b hb).2};have clt:=λi hi=>hcl i (RE _ hi);have clW:∀d ρ1,b6 t d Z=some ρ1->Clear W ρ1:=λd ρ1 e i hi d' z=>by
  rw[(sL e).2 i (hW i hi)] at z;exact hcl i (Rh _ hi) d' z
 let P:Nat->Nat->Qm->Prop:=λm i s'=>∃σ' H' μ' M' acc',Inv X pins σ' H' s'/\tn i s'.heap/\(∀b∈fp,H' b=none)/\fL a μ H μ' H'/\bz fa X.K μ' H' σ' Z/\RelM fa X.K μ' H' M'/\A μ' H' acc'/\
  ae (gu (cx t g Z) w m i acc' M') (WB fa X.K A a μ H Z Q)
 have P0:∃m,P m 0 s:={_,σ,H,μ,M,acc,I,st,λb hb=>(hf b hb).1,.refl,hE,hM,hA,q};obtain⟨m0,P0⟩:=P0;have hturn:∀(n:Nat) (i:Nat) (s3:Qm),P n i s3->wpAny (model X.prog X.w) X.A (pyNext (.ref it)) (λr s₁=>match r with
  |none=>(∃σ' H',Inv X pins σ' H' s₁/\Q σ' H')
  |some v=>wpAny (model X.prog X.w) X.A (letOwnedTupleGo tg (.ref it) v) (λ_ s₂=>wpAny (model X.prog X.w) X.A (assign tg X.env v) (λ_ s₃=>wpAny (model X.prog X.w) X.A body (λ_ s₄=>∃m,m<n/\P m (i+1) s₄) FF s₃) FF s₂) FF s₁) FF s3:=by
  rintro n i s3 ⟨σ3,H3,μ3,M3,acc3,I3,st3,fr3,x3,hE3,hM3,hA3,q3⟩;have one:∀(d:D) (rest:List D->Mem->Res (List D)) (next:List D->Mem->Prop),J.go i H3->(∀x H',J.yld i H3 x H'->Ext μ3 H3 μ3 H'/\RelM fa X.K μ3 H' M3/\Rep fa X.K μ3 H' d x)->ae ((cx t g Z acc3 d M3).bind rest) (WB fa X.K A a μ H Z Q)->
   (∀σ' H' μ' M' acc' s',Inv X pins σ' H' s'->tn (i+1) s'.heap->(∀b∈fp,H' b=none)->fL a μ H μ' H'->bz fa X.K μ' H' σ' Z->RelM fa X.K μ' H' M'->A μ' H' acc'->ae (rest acc' M') (WB fa X.K A a μ H Z Q)->∃m,m<n/\P m (i+1) s')->
   wpAny (model X.prog X.w) X.A (pyNext (.ref it)) (λr s₁=>match r with
    |none=>(∃σ' H',Inv X pins σ' H' s₁/\Q σ' H')
    |some v=>wpAny (model X.prog X.w) X.A (letOwnedTupleGo tg (.ref it) v) (λ_ s₂=>wpAny (model X.prog X.w) X.A (assign tg X.env v) (λ_ s₃=>wpAny (model X.prog X.w) X.A body (λ_ s₄=>∃m,m<n/\P m (i+1) s₄) FF s₃) FF s₂) FF s₁) FF s3:=by
   intro d rest next go yl qd fin
   refine aT (T.item X rfl rfl rfl hcalm i pins s3 σ3 H3 FF I3 (stat fr3) st3 go) λr s4 ⟨u,hr4,h4⟩=>?_;subst hr4;refine aT h4 λ_ s5 ⟨x,H5,I5,r5,y5,st5,fr5⟩=>?_;obtain⟨x5,hM5,rd⟩:=yl x H5 y5;have I5':=I5.pinned (stat fr5) (T.obj _ _ st5);obtain⟨acc6,M6,e6,q6⟩:=aL qd;obtain⟨ρ1,M7,e7,e8⟩:=fj e6;cases eb:b6 t d Z with
   |none=>rw[eb] at e7;cases e7
   | some ρ2 =>
     rw[eb] at e7;cases e7;have hg':=hg _ s5 σ3 H5 x u (λσ' H'=>H'=H5/\bz fa X.K μ3 H5 σ' ρ1) I5' r5 {μ3,Z,_,d,ρ1,hE3.ext x5,hM5,rd,eb,λσ1 h1=>⟨rfl,h1⟩};rw[hx] at hg';refine aT hg' λ_ s6 ⟨σ6,H6,I6,eH,hE6⟩=>?_;subst eH;have hb':=hb _ s6 σ6 H6 (λσ' H'=>∃μ',fL a μ3 H6 μ' H'/\bz fa X.K μ' H' σ' ρ1/\RelM fa X.K μ' H' M6/\A μ' H' acc6) μ3 ρ1 _ acc3 I6 hE6 hM5 (clW d ρ1 eb) (sA _ _ _ _ _ x5 hA3) (by
      rw[e8];exact λσ' H' μ' z1 z2 z3 z4=>⟨μ',z1,z2,z3,z4⟩)
     rw[hx] at hb';refine aT hb' λ_ s7 ⟨σ7,H7,I7,μ7,x7,hE7,hM7,hA7⟩=>?_;refine fin σ7 H7 μ7 M6 acc6 s7 I7.unpinned (T.keep _ _ _ st5 λb hb o e=>(I7.pin (b,o) (Rh _ (Rh _ (i6 hb e)))).1) (λb hb=>?_) ((x3.trans x5.toD).trans x7) (hE7.unbind eb clt) hM7 hA7 q6;obtain⟨o,e,dd⟩:=T.obj _ _ st5 b hb;exact(I7.pin (b,o) (Rh _ (Rh _ (i6 hb e)))).2.1
  have stop:J.stop i H3->ae (.ok acc3 M3) (WB fa X.K A a μ H Z Q)->wpAny (model X.prog X.w) X.A (pyNext (.ref it)) (λr s₁=>match r with
   |none=>(∃σ' H',Inv X pins σ' H' s₁/\Q σ' H')
   |some v=>wpAny (model X.prog X.w) X.A (letOwnedTupleGo tg (.ref it) v) (λ_ s₂=>wpAny (model X.prog X.w) X.A (assign tg X.env v) (λ_ s₃=>wpAny (model X.prog X.w) X.A body (λ_ s₄=>∃m,m<n/\P m (i+1) s₄) FF s₃) FF s₂) FF s₁) FF s3:=λhs q=>by
   refine aT (T.done X rfl rfl rfl hcalm i pins s3 σ3 H3 FF I3 (stat fr3) st3 hs) λr s4 ⟨hr4,I4⟩=>?_;subst hr4;exact{σ3,H3,I4,q σ3 H3 μ3 x3 hE3 hM3 hA3}
  cases n with
  |zero=>exact q3.elim
  | succ n =>
    unfold gu at q3;cases e2:w M3 with
    |none=>rw[e2] at q3;exact q3.elim
    | some ds =>
      rw[e2] at q3;dsimp only at q3;obtain⟨go,stp⟩:=wk μ3 H3 M3 ds x3.toExtW hM3 e2;cases ed:ds[i]? with
      | none =>
        rw[ed] at q3;exact stop (stp i (List.getElem?_eq_none_iff.mp ed)) q3
      | some d =>
        rw[ed] at q3;obtain⟨g1,g2⟩:=go i d ed;refine one d (gu (cx t g Z) w n (i+1)) (λ_ _=>True) g1 g2 q3 ?_;intro σ' H' μ' M' acc' s' z1 z2 z3 z4 z5 z6 z7 z8;exact{n,`a,σ',H',μ',M',acc',z1,z2,z3,z4,z5,z6,z7,z8}
 refine BB heq hd (λn s'=>∃i,P n i s') (λn s3 ⟨i,h3⟩=>?_) m0 {0,P0};refine aT (hturn n i s3 h3) λr s1 h=>?_;cases r with
 |none=>exact⟨rfl,h⟩
 |some v=>exact aT h λ_ s2 h=>aT h λ_ s3 h=>aT h λ_ s4 ⟨m,hm,h⟩=>{m,hm,i+1,h}
end
section
variable{prog:Ra}{w:Rb}{A:RR}{s:Qm}{R:Result->Qm->Prop}
def sY {elt t1 i1 t2 i2:Expr}
 (h0:codeAny (model prog w) A (.compLoop (.ListComp elt [{t1,i1,f1,0},{t2,i2,f2,0}] scope pos) 1 it acc env) R s)
 (h:wpAny (model prog w) A (pyIter it) (λit' s'=>codeAny (model prog w) A (.compLoop (.ListComp elt [{t1,i1,f1,0},{t2,i2,f2,0}] scope pos) 1 it' acc env) R s')
  (notedBy (model prog w) A env λx s'=>R (.error x) s') s) :
 codeAny (model prog w) A (.compStart (.ListComp elt [{t1,i1,f1,0},{t2,i2,f2,0}] scope pos) 1 it acc env) R s:=by
 refine codeAny_of_tree ?_;refine wpAny_notedAt ?_;refine tqa (wpAny_askSetting (wpAny_ite ?_));split
 ·first
   |exact tqa (tqb (tqb (And.intro rfl h0)))
   |exact tqb (And.intro rfl h0)
 ·first
   |exact tqa (wpAny_rule (tqa (wpAny_standAt (tqa (wpAny_mono h (λit' s' h'=>tqb (And.intro rfl h')) λ_ _ x=>x)))))
   |(refine tqa (wpAny_rule ?_);show wpAny _ _ (standAt i2.pos >>= _) _ _ s;exact tqa (wpAny_standAt (tqa (wpAny_mono h (λit' s' h'=>tqb (And.intro rfl h')) λ_ _ x=>x))))
end
section
variable{fa:Fa}{X:Cx}{a:Addr}
def LK {elt t1 i1 t2 i2:Expr}(hx:X.xe=FF)(hcalm:X.calm=true)(hi:DI fa X t2 i2 gw)(hg:PG X t2 (gT fa X.K t))(he:DE fa X elt ge)
 (hs:∀x,foldedSetIterable i2 X.env x=pure x) :
 DB fa X (LA fa X.K a) a (slots t) (eval i2 X.env >>= λx=>standAt i2.pos >>= λ_=>foldedSetIterable i2 X.env x >>= λx=>holding [x] (pyIter x) >>= λj=>runOwn (.compStart (.ListComp elt [{t1,i1,[],0},{t2,i2,[],0}] scope pos) 1 j (.ref a) X.env) X.env >>= λ_=>pure ()) (qY t gw (bo ge)):=by
 intro pins s σ H Q μ Z M acc I hE hM hc hA h;obtain⟨w,M1,e,q⟩:=aL h;refine tqa (aT (hi pins s σ H (λJ H1=>∃μ1,Ext μ H μ1 H1/\RelM fa X.K μ1 H1 M1/\dP fa X.K μ1 H1 w J) I {μ,Z,M,hE,hM,?_}) λv s1 h1=>?_)
 ·rw[e];exact λJ H1 μ1 x1 m1 wk=>⟨μ1,x1,m1,wk⟩
 refine tqa (wpAny_standAt (tqa (wpAny_of_eq (hs v) (tqa (tqo (aT h1 λitv s2 h2=>?_))))));obtain⟨it,fp,tn,J,H2,ei,I2,T,st2,f2,μ2,x2,m2,wk⟩:=h2;subst ei;have go:=rB LA.stab (Cp elt t1 i1 t2 i2 scope pos (.ref it) (.ref a) X.env) ⟨rfl,rfl⟩ hx hcalm T hg (vf he) (λi hi=>nomatch hi) I2 st2 f2 (hE.ext x2) m2 (by simpa using hc) (LA.stab _ _ _ _ _ x2 hA) wk (aJ q λ_ _ z=>z.ext x2.toD)
 refine tqa (wpAny_runOwn ?_);have go':codeAny (model X.prog X.w) (X.A.mark none) (.compLoop (.ListComp elt [{t1,i1,[],0},{t2,i2,[],0}] scope pos) 1 (.ref it) (.ref a) X.env) (λr s'=>match r with|.ok f=>wpAny (model X.prog X.w) X.A (pure ():Sem Unit) (λ_ s'=>∃σ' H',Inv X pins σ' H' s'/\Q σ' H') X.xe s'|.error e=>cameBackBy (model X.prog X.w) X.A X.env X.xe e s') s2:=
  codeAny_mono go λr s' ⟨er,z⟩=>by subst er;exact tqb z
 exact sY go' (T.self _ 0 _ _ _ st2 go')
end
section
variable{fa:Fa}{K:Qh}{μ1 μ':Mu}{H1 H':Hp}{M1 M':Mem}{a:Addr}
noncomputable def Kw (μ:Mu)(a:Addr):Mu:={μ.pub,a::μ.priv,μ.ob}
def m5 (h:RelM fa K μ1 H1 M1)(ha:H1 a=none)(o:HO):ExtW μ1 H1 (Kw μ1 a) (upd H1 a o):=by
 have x:ExtW μ1 H1 μ1 (upd H1 a o):=(Ext.alloc h ha).toExtW;refine{x.mu,x.tups,λb vs e n=>{(x.lsts b vs e n).1,λz=>?_},x.frzs,x.exts,x.obs};rcases z with z|z
 ·exact n (.inl z)
 ·rcases Rg.mp z with z|z
  ·subst z;rw[ha] at e;cases e
  ·exact n (.inr z)
def Ay (h:RelM fa K μ1 H1 M1)(ha:H1 a=none)(vs:List V):RelM fa K (Kw μ1 a) (upd H1 a (.lst vs)) M1:=by
 have x:=m5 h ha (.lst vs);refine{λk ds e=>(h.at' k ds e).imp (λ⟨b,ws,h1,h2,h3⟩=>{b,ws,h1,by rw[aH (aZ h2 ha)];exact h2,h3.extW x}) λ⟨b,h1,h2,h3⟩=>{b,h1,h2,h3.extW x (aH (h3.new ha))},h.out,h.oout,h.inj,h.oinj,h.sep,λb hb=>?_}
 ·rcases Rg.mp hb with z|z
  ·subst z;exact{⟨vs,cD⟩,λk e=>by
    obtain⟨_,_,_,q,_⟩:=h.mu_lt e;rw[ha] at q;cases q}
  ·obtain⟨⟨ws,q⟩,n⟩:=h.pv b z;exact{{ws,by rw[aH (aZ q ha)];exact q},n}
def G4 (h:RelM fa K μ1 H1 M1)(ha:H1 a=none)(x:fL a (Kw μ1 a) (upd H1 a (.lst [])) μ' H')(hM:RelM fa K μ' H' M')(hH:H' a=some (.lst vs))(hr:aK fa K μ' H' acc vs)
 (q:ae (ba m acc M') (a8 fa K μ1 H1 Q)):Q (.ref a) H':=by
 have na:=λz=>h.pne ha z rfl;have hp:=x.pr;have nk:∀k,μ'.pub k≠some a:=(hM.pv a (by rw[hp];exact QK)).2
 have x0:=m5 h ha (.lst []);have xe:Ext μ1 H1 ⟨μ'.pub,μ1.priv,μ'.ob⟩ H':=by
  refine{{λk b e=>x.mu k b e,λb ws e=>x.tups b ws (x0.tups b ws e),λb ws e n=>?_,λb ob u e=>x.frzs b ob u (x0.frzs b ob u e),λb o i e=>x.exts b o i (x0.exts b o i e),λk b e=>x.obs k b (x0.obs k b e)},rfl,λb hb=>?_}
  ·obtain⟨z1,z2⟩:=x0.lsts b ws e n;obtain⟨z3,z4⟩:=x.lsts b ws z1 z2;refine{z3,λz=>z4 ?_};rcases z with z|z
   ·exact .inl z
   ·exact .inr (by rw[hp];exact Qz _ z)
  ·have nb:b≠a:=λe=>na (by rw[<- e];exact hb)
   rw[x.pk b (Qz _ hb) nb,aH nb]
 have xw:ExtW μ' H' ⟨μ'.pub,μ1.priv,μ'.ob⟩ H':={λ_ _ e=>e,λ_ _ e=>e,λb ws e n=>{e,λz=>n (z.elim .inl λz=>.inr (by rw[hp];exact Qz _ z))},λ_ _ _ e=>e,λ_ _ _ e=>e,λ_ _ e=>e}
 have me:RelM fa K ⟨μ'.pub,μ1.priv,μ'.ob⟩ H' M':={λk ds e=>(hM.at' k ds e).imp (λ⟨b,ws,h1,h2,h3⟩=>{b,ws,h1,h2,h3.extW xw}) λ⟨b,h1,h2,h3⟩=>{b,h1,h2,h3.extW xw rfl},hM.out,hM.oout,hM.inj,hM.oinj,hM.sep,λb hb=>hM.pv b (by rw[hp];exact Qz _ hb)}
 have re:=hr.extW xw;have nMt:¬ (⟨μ'.pub,μ1.priv,μ'.ob⟩:Mu).Mt a:=λz=>z.elim (λ⟨k,e⟩=>nk k e) na;unfold ba at q;split at q
 ·cases m with
  | false =>
    exact q (.ref a) H' _ xe me {a,vs,rfl,⟨hH,nMt⟩,re}
  | true =>
    have pc:∀k b,(fP ⟨μ'.pub,μ1.priv,μ'.ob⟩ M'.length a).pub k=some b->(k=M'.length/\b=a)\/(k≠M'.length/\μ'.pub k=some b):=λk b e=>by
     have e:(if k=M'.length then some a else μ'.pub k)=some b:=e;split at e
     ·next z=>cases e;exact .inl ⟨z,rfl⟩
     ·next z=>exact .inr ⟨z,e⟩
    have mc:∀k b,μ'.pub k=some b->(fP ⟨μ'.pub,μ1.priv,μ'.ob⟩ M'.length a).pub k=some b:=λk b e=>by
     show(if k=M'.length then some a else μ'.pub k)=some b;split
     ·next z=>rw[z,hM.out _ (Ql _)] at e;cases e
     ·exact e
    have ac:(fP ⟨μ'.pub,μ1.priv,μ'.ob⟩ M'.length a).pub M'.length=some a:=by
     show(if M'.length=M'.length then some a else _)=some a;rw[if_pos rfl]
    have nc:∀b,¬ μ'.Mt b->¬ (fP ⟨μ'.pub,μ1.priv,μ'.ob⟩ M'.length a).Mt b:=λb n z=>by
     rcases z with⟨k,z⟩|z
     ·rcases pc k b z with⟨_,e⟩|⟨_,e⟩
      ·exact n (.inr (by rw[hp,e];exact QK))
      ·exact n (.inl ⟨k,e⟩)
     ·exact n (.inr (by rw[hp];exact Qz _ z))
    have xc:ExtW μ' H' (fP ⟨μ'.pub,μ1.priv,μ'.ob⟩ M'.length a) H':={mc,λ_ _ e=>e,λb ws e n=>{e,nc b n},λ_ _ _ e=>e,λ_ _ _ e=>e,λ_ _ e=>e};have xe2:Ext μ1 H1 (fP ⟨μ'.pub,μ1.priv,μ'.ob⟩ M'.length a) H':=by
     refine{{λk b e=>mc k b (x.mu k b e),xe.tups,λb ws e n=>?_,xe.frzs,xe.exts,xe.obs},rfl,xe.pk};obtain⟨z1,z2⟩:=x0.lsts b ws e n;obtain⟨z3,z4⟩:=x.lsts b ws z1 z2;exact{z3,nc b z4}
    have mce:RelM fa K (fP ⟨μ'.pub,μ1.priv,μ'.ob⟩ M'.length a) H' (M'++[acc]):=by
     refine{λk ds e=>?_,λk hk=>?_,λk hk=>hM.oout k (by simp at hk;omega),λj k b e1 e2=>?_,hM.oinj,λk b z=>?_,λb hb=>?_}
     ·by_cases hk:k<M'.length
      ·rw[Qn hk] at e;rcases hM.at' k ds e with⟨b,ws,h1,h2,h3⟩|⟨b,h1,h2,h3⟩
       ·exact .inl {b,ws,mc k b h1,h2,h3.extW xc}
       ·exact .inr {b,h1,by show(if k=M'.length then some a else μ'.pub k)=none;rw[if_neg (QY hk)];exact h2,h3.extW xc rfl}
      ·have hk':k=M'.length:=by
        have:=(Qg.mp e).1;simp at this;omega
       subst hk';rw[Q0 (Ql _)] at e;simp at e;subst e;exact .inl {a,vs,ac,hH,hr.extW xc}
     ·simp at hk;show(if k=M'.length then some a else μ'.pub k)=none;rw[if_neg `a]
      exact hM.out k `a
     ·rcases pc j b e1 with⟨j1,j2⟩|⟨j1,j2⟩<;>rcases pc k b e2 with⟨k1,k2⟩|⟨k1,k2⟩
      ·omega
      ·exact absurd (j2 ▸ k2) (nk k)
      ·exact absurd (k2 ▸ j2) (nk j)
      ·exact hM.inj j k b j2 k2
     ·show μ'.ob (az k)=none;rcases pc k b z with⟨e,_⟩|⟨_,e⟩
      ·rw[e];exact hM.oout _ (Ql _)
      ·exact hM.sep k b e
     ·have hb:=hb;obtain⟨z1,z2⟩:=hM.pv b (by rw[hp];exact Qz _ hb)
      refine{z1,λk e=>?_};rcases pc k b e with⟨_,e⟩|⟨_,e⟩
      ·exact na (e ▸ hb)
      ·exact z2 k e
    exact q (.ref a) H' _ xe2 mce ⟨a,rfl,ac⟩
 ·exact q.elim
end
section
variable{fa:Fa}{X:Cx}
noncomputable def bc (m:Bool)(n:Nat)(t:fY)(gw:Env->Mem->Res Walk)(g:Env->List D->Mem->Res (List D)):Env->Mem->Res D:=λZ M=>
 (gw Z M).bind λw M=>(c9 (cx t g (List.replicate n none++Z)) w [] M).bind (ba m)
noncomputable def qB (X:Cx)(elt tg iter:Expr)(ifs:List Expr)(rest:List Su)(scope:Scope)(pos:Pos)(body:Addr->R3->Sem Unit):Prop:=
 ∀(it a:Addr) (env:R3),compTurn (.ListComp elt ({tg,iter,ifs,0}::rest) scope pos) 0 (.ref it) (.ref a) env=(standAt iter.pos >>= λ_=>pyNext (.ref it) >>= λr=>match r with
  |none=>pure (.done .next)
  |some v=>letOwnedTupleGo tg (.ref it) v >>= λ_=>assign tg env v >>= λ_=>body a env >>= λ_=>again (.compLoop (.ListComp elt ({tg,iter,ifs,0}::rest) scope pos) 0 (.ref it) (.ref a) env))
structure Block (fa:Fa) (X:Cx) (A:Addr->PA) (own bn:List Str) (scope:Scope) (tg:Expr) (t:fY) (W:List Nat) (body:Addr->R3->Sem Unit) (g:Env->List D->Mem->Res (List D)):Prop where
 pg:∀cl C fp s H,PG (gn X own bn scope cl C fp s H) tg (gT fa X.K t)
 db:∀cl C fp s H a,DB fa (gn X own bn scope cl C fp s H) (A a) a W (body a (compEnvC scope cl C X.env)) g
def sH (h:∀i∈W,i<n):Clear W (List.replicate n none++Z):=λi hi d e=>by
 rw[Qn (by simpa using h i hi),Ss] at e
 simp[h i hi] at e
def ud {K:Qh}(n:Nat)(h:bz fa K μ H σ Z):bz fa K μ H (List.replicate n none++σ) (List.replicate n none++Z):=by
 refine{by simp[h.len],λi d e=>?_}
 by_cases hi:i<n
 ·rw[Qn (by simpa using hi),Ss] at e
  simp[hi] at e
 ·rw[Q0 `o] at e ⊢
  simp only[List.length_replicate] at e ⊢;exact h.at' _ d e
def qr {rest:List Su}
 (S:fM X own bn scope) (hcalm:X.calm=true) (hi:DI fa X tg iter gw) (B:Block fa X (LA fa X.K) own bn scope tg t W body g) (hT:qB X elt tg iter ifs rest scope pos body) (hW:∀i∈W,i∉slots t) (hn:∀i∈slots t++W,i<own.length)
 (hs:∀x,foldedSetIterable iter X.env x=pure x)
 (I:Inv X pins σ H s) (hE:bz fa X.K μ H σ Z) (hM:RelM fa X.K μ H M) (h:ae (bc m own.length t gw g Z M) (a8 fa X.K μ H Q))
 (post:∀(a C:Addr) (s':Qm) (H':Hp),Inv X pins σ H' s'->Q (.ref a) H'->(∃m,s'.heap.Ns C m)->(∀σ2 H2 s2,Inv X pins σ2 H2 s2->(H' C=none->H2 C=none)->H2 C=none/\∀h'',R6 C s2.heap h''->Inv X pins σ2 H2 {s2 with heap:=h''})->H' C=none->(C≠X.env.locals/\∀x c,X.env.cells.lookup x=some c->c≠C)->compPost (model X.prog X.w) X.A X.xe use QQ (.ref a) C (.ok .next) s') :
 wpAny (model X.prog X.w) X.A (comprehension (.ListComp elt ({tg,iter,ifs,0}::rest) scope pos) scope X.env p0 (newList []) false (eval iter X.env) use) QQ X.xe s:=by
 obtain⟨w,M1,ew,q⟩:=aL h;obtain⟨acc,M2,ea,q2⟩:=aL q;obtain⟨cl,hcl,hsub,hhas⟩:=qu λy hy hf=>I.ok.has y.1 (S.free y hy hf);refine wpAny_comprehension_free rfl hs hcl S.kind S.loc ?_;refine aT (hi pins s σ H (λJ H1=>∃μ1,Ext μ H μ1 H1/\RelM fa X.K μ1 H1 M1/\dP fa X.K μ1 H1 w J) I {μ,Z,M,hE,hM,?_}) λv s1 h1=>aT h1 λitv s2 h2=>?_
 ·rw[ew];exact λJ H1 μ1 x1 m1 wk=>⟨μ1,x1,m1,wk⟩
 obtain⟨it,fp,tn,J,H2,ei,I2,T,st2,f2,μ2,x2,m2,wk⟩:=h2;subst ei;refine wpAny_newObj_type ?_;have ha:=I2.hok.fresh (Ql _);have I3:Inv X pins σ (upd H2 s2.heap.objs.size (.lst [])) {s2 with heap:=s2.heap.push {cls:=.type "list",dict:=none,data:=.seq ([]:List Qi).toArray}}:=
  I2.laid (λb o e=>Qk _ e) (Ql _) {RC _,[],_,.nil,QG _ rfl}
 generalize hs3:({s2 with heap:=s2.heap.push {cls:=.type "list",dict:=none,data:=.seq ([]:List Qi).toArray}}:Qm)=s3 at I3 ⊢
 have k3:∀b o,s2.heap.get? b=some o->s3.heap.get? b=some o:=λb o e=>by rw[<- hs3];exact Qk _ e
 have fo2:=T.obj _ _ st2;have f3:∀b∈fp,fK X pins (upd H2 s2.heap.objs.size (.lst [])) b:=λb hb=>by
  obtain⟨o,e,_⟩:=fo2 b hb;exact{by rw[aH (QY (QH e))];exact(f2 b hb).1,(f2 b hb).2}
 have fo3:∀b∈fp,∃o,s3.heap.get? b=some o:=λb hb=>let{o,e,_}:=fo2 b hb;{o,k3 b o e}
 obtain⟨CL,hce⟩:=Fy S hsub hhas (s3.heap.push {cls:=.type "dict",data:=.dict #[]}) (Se ..);generalize hcl':cellsFrom (s3.heap.objs.size+1) scope.names cl=cl' at CL hce;refine sC ?_;rw[hcl'];have hns₁:(pushCells (s3.heap.push {cls:=.type "dict",data:=.dict #[]}) scope.names).Ns s3.heap.objs.size (λ_=>none):=(Heap.Ns.new s3.heap (.type "dict")).keeps (pushCells_keeps _ _);have k4:∀b o,s3.heap.get? b=some o->(pushCells (s3.heap.push {cls:=.type "dict",data:=.dict #[]}) scope.names).get? b=some o:=λb o e=>pushCells_keeps _ _ b o (Qk _ e);generalize pushCells (s3.heap.push {cls:=.type "dict",data:=.dict #[]}) scope.names=h₁ at hns₁ k4 hce ⊢;clear hcl hcl' hsub hhas cl
 rename List (Str×Addr)=>cl
 have I4:=vm (t':=s3.toks) I3 S CL f3 fo3 hns₁ k4 hce;have ok4:=I4.ok;have f4:∀b∈fp,fK (gn X own bn scope cl s3.heap.objs.size fp s3 (upd H2 s2.heap.objs.size (.lst []))) [] (upd H2 s2.heap.objs.size (.lst [])) b:=λb hb=>
  {(f3 b hb).1,(ok4.exf b hb).1,ok4.exfs b hb,.inl hb,(ok4.exf b hb).2,λp hp=>nomatch hp}
 have st4:=T.keep _ _ _ st2 λb hb o e=>k4 b o (k3 b o e);have x3:=m5 m2 ha (.lst []);have go:=rB LA.stab (X:=gn X own bn scope cl s3.heap.objs.size fp s3 (upd H2 s2.heap.objs.size (.lst []))) (acc:=[]) (hT it s2.heap.objs.size _) ⟨rfl,rfl⟩ rfl hcalm T (B.pg _ _ _ _ _) (B.db _ _ _ _ _ _) hW I4 st4 f4
  (ud own.length ((hE.ext x2).extW x3)) (Ay m2 ha []) (sH hn) {QK,_,cD,rfl} (rO wk x3) (by
   rw[ea];rintro σ' H' μ' z1 z2 z3 ⟨_,vs',z4,z5⟩;exact G4 m2 ha z1 z3 z4 z5 (kT q2 x2))
 have go':codeAny (model X.prog X.w) X.A (.compLoop (.ListComp elt ({tg,iter,ifs,0}::rest) scope pos) 0 (.ref it) (.ref s2.heap.objs.size) (compEnvC scope cl s3.heap.objs.size X.env)) (compPost (model X.prog X.w) X.A X.xe use QQ (.ref s2.heap.objs.size) s3.heap.objs.size) {s3 with heap:=h₁}:=
  codeAny_mono go λr s' ⟨er,σ',H',I',z⟩=>by
   subst er;refine post _ _ s' H' (comp_back I3 f3 I') z (let{m,hn,_}:=I'.loc;⟨m,hn⟩) (λσ2 H2 s2' I2' hf=>{hf I'.free,λh'' hs''=>sF I3 (hf I'.free) I2' hs''}) I'.free {Rq I3.lt,λx c e z=>by
    obtain⟨v,q⟩:=I3.cell x c e;exact absurd q.lt (by rw[z];exact RH _)}
 exact codeAny_compStart_list go' (T.self _ 0 _ _ _ st4 go')
def LQ (m:Bool){elt tg iter:Expr}{rest:List Su}
 (S:fM X own bn scope) (hcalm:X.calm=true) (hi:DI fa X tg iter gw) (B:Block fa X (LA fa X.K) own bn scope tg t W body g) (hT:qB X elt tg iter ifs rest scope pos body) (hW:∀i∈W,i∉slots t) (hn:∀i∈slots t++W,i<own.length)
 (hs:∀x,foldedSetIterable iter X.env x=pure x):DE fa X (.ListComp elt ({tg,iter,ifs,0}::rest) scope pos) (bc m own.length t gw g):=by
 intro pins s σ H Q I ⟨μ,Z,M,hE,hM,h⟩;rw[eval_ListComp];refine qr S hcalm hi B hT hW hn hs I hE hM h ?_;intro a C s' H' I' q ⟨m,hn⟩ gone hf _;exact{m,hn,λh' hs'=>{.ref a,H',(gone σ H' s' I' id).2 h' hs',rfl,q}}
def yN (m:Bool){y:Str}{rest:List Su}
 (S:fM X own bn scope) (hcalm:X.calm=true) (hi:DI fa X tg iter gw) (B:Block fa X (LA fa X.K) own bn scope tg t W body g) (hT:qB X elt tg iter ifs rest scope pos body) (hW:∀i∈W,i∉slots t) (hn:∀i∈slots t++W,i<own.length)
 (hs:∀x,foldedSetIterable iter X.env x=pure x) (hN:X.N.Nodup) (hy:X.N[i]?=some y) (hl:X.env.scope.names.lookup y=some .local)
 (hsw:swapsWith (.ListComp elt ({tg,iter,ifs,0}::rest) scope pos) (some (.Name y py)) spos.line X.env=pure true) :
 DS fa X (.Assign [.Name y py] (.ListComp elt ({tg,iter,ifs,0}::rest) scope pos) spos) (λZ M=>(bc m own.length t gw g Z M).bind λx M=>(cu M (b6 (.one i) x Z)).bind λρ1 M=>.ok (.next ρ1) M):=by
 intro pins s σ H D' I ⟨μ,Z,M,hE,hM,h⟩;obtain⟨x,M1,ex,q⟩:=aL h;rw[exec_Assign_Name_used _ _ _ _ hsw];refine tqa (wpAny_standAt (tqa ?_));refine tqa (aT (qr S hcalm hi B hT hW hn hs I hE hM (by
  rw[ex];exact λv H' μ' x1 m1 r1=>q _ H' μ' x1 ((hE.ext x1).set r1) m1) ?_) λ_ s' hq=>tqb (tqb hq))
 intro a C s' H' I' q ⟨m,hn⟩ gone hf ⟨nL,nC⟩;refine wpAny_assign_Name (rW I' hN hy (.inl hl) (v:=.ref a) rfl (λs2 I2 ⟨b,hb,hb2⟩=>?_) (.inr hl));have nb:C≠b:=by
  rcases hb2 with z|z
  ·rw[z];exact nL
  ·exact Ru (nC y b z)
 exact{m,hn.sameBut hb nb,λh' hs'=>{_,H',(gone _ H' s2 I2 id).2 h' hs',q}}
end
section
variable{X:Cx}{pins:List (Addr×Obj)}{σ:L2.St}{H:Hp}{s:Qm}{h':Heap}{t':Nat}{ch:List Addr}
def wd (I:Inv X pins σ H s)(hf:∀b∈ch,fK X pins H b)(k:∀b o,b∉ch->s.heap.get? b=some o->h'.get? b=some o):Inv X pins σ H {s with heap:=h',toks:=t'}:=by
 have nit:∀b u,H b=some u->b∉ch:=λb u e z=>by rw[(hf b z).1] at e;cases e
 refine I.step (λb hb=>{(hf b hb).2.2.2.1,(hf b hb).2.1,(hf b hb).2.2.2.2.1,(hf b hb).2.2.2.2.2}) (λb o _ _ hc e _=>k b o hc e) (λb o _ _ hc e _=>{o.slots,k b o hc e}) (λ_ _ _ _ n=>n)
  (λb o hc e=>{o,k b o hc e}) (λ_ _ e=>e) (λ_ _ _ e=>e) (λb ps e=>{#[],by rw[e];simp}) (λm hm=>?_) (λb u e=>?_) I.bare
 ·obtain⟨o,es,ep,ho,r⟩:=hm;exact{o,es,ep,k _ o (λz=>(hf _ z).2.1 rfl) ho,r}
 ·refine(I.hok b u e).stay (λc v hc q=>k c v ?_ q) (λ_ q=>q) λ_ _ q=>q;rcases hc with z|z
  ·rw[z];exact nit b u e
  ·exact nit c _ z
def rQ (I:Inv X pins σ H s)(hf:∀b∈ch,fK X pins H b)(k:∀b o,b∉ch->s.heap.get? b=some o->h'.get? b=some o)(hT:s.heap.objs.size<=T)(new:cX X.prog X.w (upd H T o) h' T o) :
 Inv X pins σ (upd H T o) {s with heap:=h',toks:=t'}:=by
 have hn:=I.hok.fresh hT;have nit:∀b u,H b=some u->b∉ch:=λb u e z=>by rw[(hf b z).1] at e;cases e
 refine I.step (λb hb=>{(hf b hb).2.2.2.1,(hf b hb).2.1,(hf b hb).2.2.2.2.1,(hf b hb).2.2.2.2.2}) (λb o _ _ hc e _=>k b o hc e) (λb o _ _ hc e _=>{o.slots,k b o hc e})
  (λb o _ e n=>by rw[aH (QY (QN (QH e) hT))];exact n)
  (λb o hc e=>{o,k b o hc e}) (λb xs e=>by rw[aH (aZ e hn)];exact e) (λb ob u e=>by rw[aH (aZ e hn)];exact e) (λb ps e=>{#[],by rw[aH (aZ e hn),e];simp}) (λm hm=>?_) (λb u e=>?_) I.bare
 ·obtain⟨o,es,ep,ho,r⟩:=hm;exact{o,es,ep,k _ o (λz=>(hf _ z).2.1 rfl) ho,r}
 ·by_cases hb:b=T
  ·subst hb;rw[cD] at e;cases e;exact new
  ·rw[aH hb] at e;refine(I.hok b u e).stay (λc v hc q=>k c v ?_ q) (λc q=>by rw[aH (aZ q hn)];exact q) λc xs q=>by rw[aH (aZ q hn)];exact q
   rcases hc with z|z
   ·rw[z];exact nit b u e
   ·exact nit c _ z
end
section
variable{fa:Fa}{X:Cx}{a:Expr}{ga:Env->Mem->Res D}{pos p:Pos}
def ng:∀(ds:List D) (k i:Nat),(fz k ds)[i]?=(ds[i]?).map λd=>.tup [.int ((k+i:Nat):Int),d]
 |[],_,_=>by simp[fz]
 |d::ds,k,0=>by simp[fz]
 | d :: ds, k, i + 1 => by
   have:=ng ds (k+1) i;simp only[fz,List.getElem?_cons_succ,this]
   congr 1
   funext d
   congr 3
   omega
def m9:∀(ds:List D) (k:Nat),(fz k ds).length=ds.length
 |[],_=>rfl
 |d::ds,k=>by simp[fz,m9 ds]
end
noncomputable def cq:Bool->Heap->Addr->Array Qi->Prop
 |true,h,a,its=>h.IsList a its
 |false,h,a,its=>h.IsTuple a its
noncomputable def fm:Bool->Heap->Addr->Addr->Nat->Prop
 |true,h,it,a,i=>h.IsListIter it a i
 |false,h,it,a,i=>h.IsTupleIter it a i
def cq.extBut (x:cq b h a its)(hs:Heap.ExtBut c h h')(n:a≠c):cq b h' a its:=by
 cases b<;>(obtain⟨o,ho,r⟩:=x;exact{o,hs a o n ho,r})
def fm.extBut (x:fm b h it a i)(hs:Heap.ExtBut c h h')(n:it≠c):fm b h' it a i:=by
 cases b<;>(obtain⟨o,ho,r⟩:=x;exact{o,hs it o n ho,r})
def cq.at (x:cq b h a its)(k:∀o,h.get? a=some o->h'.get? a=some o):cq b h' a its:=by
 cases b<;>(obtain⟨o,ho,r⟩:=x;exact{o,k o ho,r})
def fm.at (x:fm b h it a i)(k:∀o,h.get? it=some o->h'.get? it=some o):fm b h' it a i:=by
 cases b<;>(obtain⟨o,ho,r⟩:=x;exact{o,k o ho,r})
def fm.obj (x:fm b h it a i):∃o,h.get? it=some o/\∀v,o.data≠.cell v:=by
 cases b<;>(obtain⟨o,ho,c,d⟩:=x;exact{o,ho,λv z=>by rw[d] at z;cases z})
section
variable{prog:Ra}{w:Rb}{A:RR}{E:Qi->Qm->Prop}{s:Qm}
def vN {a b:Nat}(h:a≠b):@Ne Addr a b:=h
def IQ {T:Addr}{its:Array Qi}{k:Nat}{x:Qi}{Q:Unit->Qm->Prop}(hT:s.heap.get? T=some {cls:=.type "tuple",data:=.seq its})(hz:its.size<=64)
 (h:∀h',h'.get? T=some {cls:=.type "tuple",data:=.seq (its.setIfInBounds k x)}->R6 T s.heap h'->Q () {s with heap:=h'}) :
 wpAny (model prog w) A (updateSeq T (·.setIfInBounds k x)) Q E s:=by
 refine wpAny_updateSeq hT rfl (h _ ?_ (RM ..)) (Qp hz `d) (by rw[Array.size_setIfInBounds];exact Qp hz `d)
 rw[Ro _ hT rfl];simp[Obj.mapSeq]
def iY {b:Bool}{it a:Addr}{i:Nat}{its:Array Qi}{Q:Qi->Qm->Prop}(hh:A.handled=none)(hit:fm b s.heap it a i)(hl:cq b s.heap a its)
 (hQ:∀x h',its[i]?=some x->fm b h' it a (i+1)->R6 it s.heap h'->Q x {s with heap:=h'})
 (hE:its[i]?=none->∀h' e,Heap.ExtBut it s.heap h'->(∃o,h'.get? e=some o/\o.cls=.type "StopIteration")->E (.ref e) {s with heap:=h'}):wpAny (model prog w) A (Builtin.SmallTypes.nextOf (.ref it)) Q E s:=by
 cases b with
 | true => cases hx : its[i]? with
   |some x=>exact wpAny_nextOf_list_item hit hl hx λh'=>hQ x h' hx
   |none=>exact wpAny_nextOf_list_end hh hit hl hx (hE hx)
 | false =>
   obtain⟨o,ho,hc,hd⟩:=id hit;obtain⟨ol,hol,_,nl,hdl⟩:=hl;refine tqa (wpAny_callSpecial?_slot hit.typeIs F.slot_tuple_iterator_next
    (wpAny_call_entry F.slot_tuple_iterator_next hit.typeIs F.entry_tuple_iterator_next ?_ (F.args_tuple_iterator_next_1 _)))
   show wpAny _ _ (field (.ref it) 0 >>= _) _ _ s;refine tqa (tqf ho hd rfl ?_);show wpAny _ _ (if (Value.ref a==Value.none)=true then _ else _) _ _ s;rw[if_neg (show ¬ ((Value.ref a==Value.none)=true) from QP)];refine tqa (tqf ho hd rfl ?_);refine tqa (wpAny_seqItems hol hdl ?_);cases hx:its[i]? with
   | some x =>
     simp only[RF,hx];refine tqa (wpAny_setField ho hd `s (tqb {x,rfl,tqb (hQ x _ hx ?_ (RM ..))}))
     exact{_,Ro _ ho (SF (RZ hd _)),(Obj.cls_mapFields ..).trans hc,by
      rw[RZ hd];simp[rawInt]}
   | none =>
     simp only[RF,hx];refine tqa (wpAny_rule (tqa (wpAny_setField ho hd `s ?_)))
     refine tqa ?_;refine tqa (wpAny_newObj_type ?_ (by size_fits))
     refine tqa (wpAny_of_eq (by first|rfl|(simp only[firstArgMember];rfl)) ?_)
     refine wpAny_newObj_type ?_ (by size_fits)
     refine tqa (wpAny_handled ?_);first|rw[show A.in1.handled=none from hh]|rw[hh]
     refine tqa (tqb (wpAny_throw ?_));exact hE hx _ _ (((RM ..).extBut.push _).push _) {_,QG _ rfl,rfl}
abbrev jw (us:Array Qi):Obj:={cls:=.type "tuple",data:=.seq us}
noncomputable def qI (n k j:Nat):List Qi:=(List.range' k j).map λk=>Value.ref (n+k)
noncomputable def zb (n m:Nat)(h h':Heap):Prop:=∀(c:Nat) o,(c<n\/c=n+m\/n+m+2<c)->h.get? c=some o->h'.get? c=some o
noncomputable def zj (n i k:Nat)(l:List (Bool×Nat))(h:Heap):Prop:=∀(j:Nat) b a,l[j]?=some (b,a)->fm b h (n+j) a (if j<k then i+1 else i)
noncomputable def Ma (n:Nat)(l:List (Bool×Nat))(xs:Nat->Array Qi)(h:Heap):Prop:=∀(j:Nat) b a,l[j]?=some (b,a)->a<n/\cq b h a (xs j)
abbrev qA (h:Heap)(n m:Nat)(v:Qi):Prop:=IsZip h (n+m+2) (n+m) (n+m+1) v
noncomputable def PM (n m i k:Nat)(l:List (Bool×Nat))(xs:Nat->Array Qi)(h0 h:Heap):Prop:=qA h n m .ellipsis/\(∃us:Array Qi,us.size=m/\(∀j<k,us[j]?=(xs j)[i]?)/\h.get? (n+m+1)=some (jw us))/\zj n i k l h/\Ma n l xs h/\zb n m h0 h/\h.objs.size=h0.objs.size
def EW {M:Model}{β:Type}{f:Qi×Nat->β->Sem (ForInStep β)}{b:β}{Q:β->Qm->Prop}(n m:Nat)(I:Nat->Qm->Prop)
 (hs:∀k s,k<m->I k s->wpAny M A (f (.ref (n+k),k) b) (λr s'=>r=.yield b/\I (k+1) s') E s) (hQ:∀s,I m s->Q b s):∀(j k:Nat) (s:Qm),k+j=m->I k s->wpAny M A (forIn ((qI n k j).zipIdx k) b f) Q E s
 |0,k,s,e,h=>tqb (hQ s (e ▸ h))
 | j + 1, k, s, e, h => by
   show wpAny M A (forIn ((Value.ref (n+k),k)::(qI n (k+1) j).zipIdx (k+1)) b f) Q E s;rw[List.forIn_cons];refine tqa (aT (hs k s `a h) ?_)
   rintro _ s' ⟨rfl,h'⟩;exact EW n m I hs hQ j (k+1) s' `a h'
def tG {n m i:Nat}{l:List (Bool×Nat)}{xs:Nat->Array Qi}{us:Array Qi}{Q:Qi->Qm->Prop}(hh:A.handled=none)(hl:l.length=m+1)(h64:m<64)
 (hz:qA s.heap n (m+1) .none) (hTI:s.heap.get? (n+(m+1))=some (jw (qI n 0 (m+1)).toArray)) (hTO:s.heap.get? (n+(m+1)+1)=some (jw us)) (hu:us.size=m+1) (hi:zj n i 0 l s.heap) (hq:Ma n l xs s.heap)
 (hQ:∀h' us,us.size=m+1->(∀k<m+1,us[k]?=(xs k)[i]?)->qA h' n (m+1) (rawInt s.heap.objs.size)->h'.get? (n+(m+1)+1)=some (jw us)->zj n (i+1) 0 l h'->h'.get? s.heap.objs.size=some (jw us)->zb n (m+1) s.heap h'->Q (.ref s.heap.objs.size) {s with heap:=h'})
 (hE:∀h' e k,k<m+1->(xs k)[i]?=none->zb n (m+1) s.heap h'->(∃o,h'.get? e=some o/\o.cls=.type "StopIteration")->E (.ref e) {s with heap:=h'}) :
 wpAny (model prog w) A (Builtin.«zip.__next__» {[.ref (n+(m+1)+2)],[]}) (λfin s'=>∃v,fin=.done (.ret v)/\Q v s') E s:=by
 show wpAny _ _ (field (.ref (n+(m+1)+2)) 2 >>= _) _ _ _;refine tqa (tqf hz rfl rfl ?_);refine tqa (tqf hz rfl rfl ?_);refine tqa (wpAny_seqItems hTI rfl ?_);refine tqa ?_;refine tqa (tqf hz rfl rfl (tqb ?_));refine tqa (wpAny_rule ?_);refine tqa (tqf hz rfl rfl ?_);refine tqa (wpAny_setField_rec hz `s λh0 hz0 hs0=>?_)
 have u0:∀(c:Nat) o,c≠n+(m+1)+2->s.heap.get? c=some o->h0.get? c=some o:=λc o ne=>hs0.extBut c o ne;have mm:∀{j b a},l[j]?=some (b,a)->j<m+1:=λe=>hl ▸ (Qg.mp e).1;refine tqa (EW n (m+1) (λk s'=>∃h,s'={s with heap:=h}/\PM n (m+1) i k l xs s.heap h) ?_ ?_ (m+1) 0 _ (Nat.zero_add _) {h0,rfl,hz0,{us,hu,λ_ z=>absurd z (RQ _),u0 _ _ `a hTO},λj b a e=>(hi j b a e).at λo=>u0 _ o (by have:=mm e;omega),λj b a e=>{(hq j b a e).1,(hq j b a e).2.at λo=>u0 _ o (by have:=(hq j b a e).1;omega)},λc o hc=>u0 c o `a,hs0.1})
 ·rintro k _ hk ⟨h,rfl,hz,⟨us,hu,hx,hT⟩,hi,hq,kp,sz⟩;obtain⟨⟨b,a⟩,e⟩:∃p,l[k]?=some p:={_,Qq `a}
  have it:=hi k b a e;rw[if_neg (RH k)] at it;refine tqa (wpAny_onRaise ?_);refine tqa (iY hh it (hq k b a e).2 (λx h1 ex j1 hs1=>tqb ?_) λen h1 e1 hs1 ⟨oe,hoe,hce⟩=>?_)
  ·have hT1:=hs1.extBut _ _ (vN `a) hT
   refine tqa (wpAny_seqItems hT1 rfl ?_);refine tqa (IQ hT1 `a λh2 hT2 hs2=>?_)
   have up:∀(c:Nat) o,c≠n+k->c≠n+(m+1)+1->h.get? c=some o->h2.get? c=some o:=λc o x y z=>hs2.extBut c o y (hs1.extBut c o x z);refine tqa (wpAny_letGo (tqb {rfl,h2,rfl,up _ _ `a `a hz,{_,(Array.size_setIfInBounds ..).trans hu,λj hj=>?_,hT2},λj b' a' e'=>?_,λj b a e=>{(hq j b a e).1,(hq j b a e).2.at λo=>up _ o (by have:=(hq j b a e).1;omega) (by have:=(hq j b a e).1;omega)},λc o hc x=>up c o `a `a (kp c o hc x),by rw[hs2.1,hs1.1,sz]}))
   ·by_cases jk:j=k
    ·subst jk;rw[Array.getElem?_setIfInBounds_self_of_lt `a,ex]
    ·rw[Array.getElem?_setIfInBounds_ne (Ru jk),hx j `a]
   ·by_cases jk:j=k
    ·subst jk;cases e.symm.trans e';rw[if_pos (Nat.lt_succ_self _)];exact j1.at λo=>hs2.extBut _ o (vN `a)
    ·have q:=hi j b' a' e';have:=mm e';rw[show(if j<k+1 then i+1 else i)=if j<k then i+1 else i by split<;>split<;>omega]
     exact q.at λo=>up _ o `a `a
  ·have hz1:=hs1 _ _ (vN `a) hz
   have hez:e1≠n+(m+1)+2:=λx=>by subst x;rw[hz1] at hoe;cases hoe;simp at hce
   exact wpAny_setField_rec hz1 `s λh2 _ hs2=>hE h2 e1 k hk en (λc o hc x=>hs2.extBut _ _ (vN `a) (hs1 _ _ (vN `a) (kp c o hc x))) {oe,hs2.extBut _ _ hez hoe,hce}
 ·rintro _ ⟨h4,rfl,hz4,⟨us,hu,hx,hT⟩,hi,hq,kp,sz4⟩;refine tqa (wpAny_seqItems hT rfl ?_);refine tqa (wpAny_newTuple (hsz:=Qp (show us.toList.length<=64 by rw[Sq];omega) `d) ?_)
  have hzlt:=QH hz4;refine tqa ?_;have hz6:qA (h4.push (jw us)) n (m+1) .ellipsis:=Qk _ hz4;refine tqa (wpAny_setField_rec hz6 `s λh7 hz7 hs7=>?_)
  refine wpAny_setField_rec hz7 `s λh8 hz8 hs8=>?_
  have up:∀(c:Nat) o,c≠n+(m+1)+2->(h4.push (jw us)).get? c=some o->h8.get? c=some o:=λc o c1 e=>hs8.extBut _ _ c1 (hs7.extBut _ _ c1 e);refine tqb {_,rfl,?_};have hT8:=up h4.objs.size _ (Rq hzlt) (QG _ rfl);rw[sz4] at hT8 hz8 ⊢;refine hQ h8 us hu hx hz8 (up _ _ `a (Qk _ hT)) (λj b a e=>?_) hT8 λc o hc e=>up c o `a (Qk _ (kp c o hc e))
  have q:=hi j b a e;rw[if_pos (mm e)] at q;exact q.at λo e'=>up _ o (by have:=mm e;omega) (Qk _ e')
end
noncomputable def iO (K:Qh)(H:Hp):Bool->Addr->List V->Prop
 |true,a,xs=>cW K H a xs
 |false,a,xs=>dQ K H a xs
noncomputable def iH:D->Bool
 |.tup _=>false
 |_=>true
noncomputable def gy:D->Bool
 |.tup _=>true
 |.lst _=>true
 |.frz _=>true
 |.cell _=>true
 |_=>false
def nN {X:Cx}{pins:List (Addr×Obj)}{σ:L2.St}{H:Hp}{s:Qm}{b:Bool}{a:Addr}{xs:List V}(I:Inv X pins σ H s)(h:iO X.K H b a xs):∃its:List Qi,Vals xs its/\cq b s.heap a its.toArray:=by
 cases b with
 |true=>obtain⟨its,r,p,_⟩:=I.list h;exact⟨its,r,p.isList⟩
 |false=>obtain⟨its,r,p,_⟩:=I.tuple h;exact⟨its,r,p⟩
def lM {X:Cx}{pins:List (Addr×Obj)}{σ:L2.St}{H:Hp}{s:Qm}{b:Bool}{a:Addr}{xs ys:List V}(I:Inv X pins σ H s)(h:iO X.K H b a xs)(h':iO X.K H b a ys):xs=ys:=by
 cases b with
 |true=>exact I.list_inj h h'
 |false=>exact I.tuple_inj h h'
def lL {fa:Fa}{X:Cx}{μ:Mu}{H:Hp}{M:Mem}{d:D}{a:Addr}{ds:List D}(hM:RelM fa X.K μ H M)(h:Rep fa X.K μ H d (.ref a))(e:cE M d=some ds):∃vs,iO X.K H (iH d) a vs/\aK fa X.K μ H ds vs:=by
 cases d with
 |tup xs=>cases e;obtain⟨a',vs,e,s,r⟩:=h;cases e;exact⟨vs,s,r⟩
 |lst xs=>obtain⟨a',vs,e',s,r⟩:=bN hM h (e);cases e';exact⟨vs,s,r⟩
 |frz xs=>obtain⟨a',vs,e',s,r⟩:=bN hM h (e);cases e';exact⟨vs,s,r⟩
 |cell k=>obtain⟨a',vs,e',s,r⟩:=bN hM h (e);cases e';exact⟨vs,s,r⟩
 |_=>cases e
def oW {fa:Fa}{X:Cx}{pins:List (Addr×Obj)}{σ:L2.St}{μ:Mu}{H:Hp}{s:Qm}{M:Mem}{d:D}{v:V}(I:Inv X pins σ H s)(hM:RelM fa X.K μ H M)(h:Rep fa X.K μ H d v)(e:gy d=true):∃(a:Nat) (its:Array Qi),v=.ref a/\cq (iH d) s.heap a its:=by
 have key:∀ds,cE M d=some ds->∃(a:Nat) (its:Array Qi),v=.ref a/\cq (iH d) s.heap a its:=λds z=>by
  obtain⟨a,vs,rfl,_,_⟩:=jz hM h z;obtain⟨vs,s1,_⟩:=lL hM h z;obtain⟨its,_,p⟩:=nN I s1;exact⟨a,its.toArray,rfl,p⟩
 cases d with
 |tup xs=>exact key xs rfl
 |lst xs=>exact key xs rfl
 |frz xs=>exact key xs rfl
 | cell k =>
   obtain⟨a,e,hk⟩:=id h;obtain⟨ds,_,z,_⟩:=hM.mu_lt hk;exact key ds z
 |_=>cases e
def cq.lt {b:Bool}{h:Heap}{a:Addr}{its:Array Qi}(x:cq b h a its):a<h.objs.size:=by
 cases b<;>(obtain⟨o,ho,r⟩:=x;exact QH ho)
def cq.push {b:Bool}{h:Heap}{a:Addr}{its:Array Qi}(x:cq b h a its)(ob:Obj):cq b (h.push ob) a its:=by
 cases b<;>(obtain⟨o,ho,r⟩:=x;exact{o,Qk _ ho,r})
noncomputable def fR (b:Bool)(a:Addr):Obj:={cls:=.type (if b then "list_iterator" else "tuple_iterator"),data:=.fields #[.ref a,.int 0 0]}
def fm.new {b:Bool}{h:Heap}{it a:Addr}(e:h.get? it=some (fR b a)):fm b h it a 0:=by
 cases b<;>exact{_,e,rfl,rfl}
def pY {prog:Ra}{w:Rb}{A:RR}{E:Qi->Qm->Prop}{s:Qm}{b:Bool}{a:Addr}{its:Array Qi}{Q:Qi->Qm->Prop}(h:cq b s.heap a its)(hQ:Q (.ref s.heap.objs.size) {s with heap:=s.heap.push (fR b a)}):wpAny (model prog w) A (pyIter (.ref a)) Q E s:=by
 cases b with
 |true=>exact wpAny_pyIter_list h hQ
 |false=>exact wpAny_pyIter_tuple h hQ
abbrev jR:=List (Bool×Nat)
noncomputable def Me (K:Qh)(l:jR):It:=
 {λi H => ∀ (j : Nat) b a, l[j]? = some (b, a) -> ∃ xs x, iO K H b a xs /\ xs[i]? = some x,
  λi H v H'=>∃p ys,H p=none/\v=.ref p/\H'=upd H p (.tup ys)/\ys.length=l.length/\∀(j:Nat) b a,l[j]?=some (b,a)->∀xs,iO K H b a xs->ys[j]?=xs[i]?,
  λi H=>(∀(j:Nat) b a,l[j]?=some (b,a)->∃xs,iO K H b a xs)/\∃(j:Nat) (b:Bool) (a:Nat) (xs:List V),l[j]?=some (b,a)/\iO K H b a xs/\xs.length<=i}
noncomputable def yZ (n m:Nat)(l:jR)(i:Nat)(h:Heap):Prop:=qA h n (m+1) .none/\h.get? (n+(m+1))=some (jw (qI n 0 (m+1)).toArray)/\(∃us:Array Qi,us.size=m+1/\h.get? (n+(m+1)+1)=some (jw us))/\zj n i 0 l h
noncomputable def Iy (n m:Nat):List Addr:=List.range' n (m+4)
def eF {n m b:Nat}:b∈Iy n m↔n<=b/\b<n+(m+4):=List.mem_range'_1
def EG {X:Cx}{pins:List (Addr×Obj)}{σ:L2.St}{H:Hp}{s:Qm}{l:jR}(I:Inv X pins σ H s)(h:∀(j:Nat) b a,l[j]?=some (b,a)->∃xs,iO X.K H b a xs) :
 ∃(vs:Nat->List V) (ws:Nat->List Qi),∀(j:Nat) b a,l[j]?=some (b,a)->iO X.K H b a (vs j)/\Vals (vs j) (ws j)/\cq b s.heap a (ws j).toArray:=by
 obtain⟨f,hf⟩:=Classical.skolem.mp λj:Nat=>show ∃p:List V×List Qi,∀b a,l[j]?=some (b,a)->iO X.K H b a p.1/\Vals p.1 p.2/\cq b s.heap a p.2.toArray from by
  cases e:l[j]? with
  |none=>exact{([],[]),λ_ _ z=>by cases z}
  | some p =>
    obtain⟨xs,hx⟩:=h j p.1 p.2 e;obtain⟨its,r,q⟩:=nN I hx;exact{(xs,its),λb' a' z=>by cases z;exact⟨hx,r,q⟩}
 exact{λj=>(f j).1,λj=>(f j).2,hf}
def Eo:∀{us:List Qi}{R:Nat->V->Prop},(∀(k:Nat) w,us[k]?=some w->∃y,RelV y w/\R k y)->∃ys,Vals ys us/\∀(k:Nat) y,ys[k]?=some y->R k y
 |[],R,_=>{[],.nil,λ_ _ z=>by simp at z}
 | w :: r, R, h => by
   obtain⟨y,e,q⟩:=h 0 w rfl;obtain⟨ys,v,t⟩:=Eo λk w e=>h (k+1) w e;exact{y::ys,.cons e v,λk z e=>match k,e with
    |0,e=>by cases e;exact q
    |k+1,e=>t k z e}
def Cn {P:Ra}{w:Rb}{K:Qh}{elts:List Expr}{kk:Nat}{pos:Pos}(n m:Nat)(l:jR)(hl:l.length=m+1)(h64:m<64)(hn:∀(j:Nat) b a,l[j]?=some (b,a)->a<n) :
 Turn P w K (.Tuple elts kk pos) (Me K l) (Iy n m) (n+(m+1)+2) (λi h=>yZ n m l i h) where
 mem:=eF.mpr `a
 obj:=λi h ⟨h1,h2,⟨us,_,h3⟩,hi⟩ (b:Nat) hb=>by
  replace hb:=eF.mp hb;by_cases c:b<n+(m+1)
  ·obtain⟨j,rfl⟩:∃j,b=n+j:={b-n,`a}
   exact(hi j _ _ (Qq `a)).obj
  ·rcases(show b=n+(m+1)\/b=n+(m+1)+1\/b=n+(m+1)+2 by omega) with rfl|rfl|rfl
   ·exact{_,h2,λv z=>by cases z}
   ·exact{_,h3,λv z=>by cases z}
   ·exact{_,h1,λv z=>by cases z}
 keep:=λi h h' ⟨h1,h2,⟨us,hu,h3⟩,hi⟩ k=>{k _ (eF.mpr `a) _ h1,k _ (eF.mpr `a) _ h2,{us,hu,k _ (eF.mpr `a) _ h3},λj b a e=>(hi j b a e).at (k _ (eF.mpr (by have:=(Qg.mp e).1;omega)))}
 item:=by
  intro X hP hw hK hc i pins s σ H E I hf {h1,h2,⟨us,hu,h3⟩,hi} hg;subst hP hw hK;obtain⟨vs,ws,hv⟩:=EG I λj b a e=>(hg j b a e).imp λ_ ⟨_,h,_⟩=>h;have it:∀k,k<m+1->∃x w b a,l[k]?=some (b,a)/\(vs k)[i]?=some x/\(ws k)[i]?=some w/\RelV x w:=λk hk=>by
   have e:l[k]?=some (l[k]'(`a)):=Qq _
   obtain⟨xs,x,hx,ex⟩:=hg k _ _ e;obtain⟨q1,q2,_⟩:=hv k _ _ e;rw[lM I hx q1] at ex;obtain⟨w,hw,r⟩:=q2.get ex;exact{x,w,_,_,e,ex,hw,r}
  have hT:s.TypeIs (.ref (n+(m+1)+2)) "zip":={_,h1,rfl};unfold pyNext;refine tqa (wpAny_attempt (wpAny_callSpecial?_slot hT F.slot_zip_next
   (wpAny_call_entry F.slot_zip_next hT F.entry_zip_next
    (tG (I.ok.hd hc) hl h64 h1 h2 h3 hu hi (λj b a e=>{hn j b a e,(hv j b a e).2.2}) (λh4 us hu hx z1 z2 g hTT hk=>tqb {_,rfl,?_}) λh' e k hk en _ _=>?_) (F.args_zip_next_1 _))))
  ·have zlt:n+(m+1)+2<s.heap.objs.size:=QH h1;refine wpAny_letOwnedTupleGo_zip z1 λh5 hz5 hs5=>?_;have up:∀(c:Nat) o,c≠n+(m+1)+2->h4.get? c=some o->h5.get? c=some o:=λc o=>hs5.extBut c o;obtain⟨ys,vy,ty⟩:=Eo (us:=us.toList) λk w e=>by
    have hk:k<m+1:=by have:=(Qg.mp e).1;rw[Sq] at this;omega
    obtain⟨x,w',_,_,_,ex,ew,r⟩:=it k hk;have q:=hx k hk;rw[Array.getElem?_toList] at e;simp only[List.getElem?_toArray] at q;rw[e,ew] at q;cases q;exact⟨x,r,ex⟩
   have ly:ys.length=m+1:=by rw[vy.length,Sq,hu]
   refine{.ref s.heap.objs.size,upd H s.heap.objs.size (.tup ys),rQ (s:=s) I hf (λ(b:Nat) o hb q=>up b o (λz=>hb (eF.mpr `a)) (hk b o (by rw[eF] at hb;omega) q)) (Ql _) {by rw[ly];exact Qp (show m+1<=64 by omega) `d,us.toList,vy,{_,up _ _ (Rq zlt) hTT,rfl,_,rfl}},rfl,
    {_,ys,I.hok.fresh (Ql _),rfl,rfl,ly.trans hl.symm,λj b a e xs hx=>?_},{hz5,up _ _ `a (hk _ _ `a h2),{us,hu,up _ _ `a z2},λj b a e=>(g j b a e).at λo=>up _ o (by have:=(Qg.mp e).1;omega)},λ(b:Nat) hb=>?_}
   ·have hj:j<ys.length:=by have:=(Qg.mp e).1;omega
    have e1:=Qq hj;rw[lM I hx (hv j b a e).1,ty j _ e1,e1]
   ·rw[eF] at hb;rw[aH (QY (by omega:(b:Nat)<s.heap.objs.size))];exact(hf b (eF.mpr hb)).1
  ·obtain⟨_,_,_,_,_,_,ew,_⟩:=it k hk;simp only[List.getElem?_toArray] at en;rw[ew] at en;cases en
 done:=by
  intro X hP hw hK hc i pins s σ H E I hf {h1,h2,⟨us,hu,h3⟩,hi} ⟨hs,k,b,a,xs,ek,hq,le⟩;subst hP hw hK;obtain⟨vs,ws,hv⟩:=EG I hs;have hT:s.TypeIs (.ref (n+(m+1)+2)) "zip":={_,h1,rfl};unfold pyNext;refine tqa (wpAny_attempt (wpAny_callSpecial?_slot hT F.slot_zip_next
   (wpAny_call_entry F.slot_zip_next hT F.entry_zip_next
    (tG (I.ok.hd hc) hl h64 h1 h2 h3 hu hi (λj b a e=>{hn j b a e,(hv j b a e).2.2}) (λh4 us hu hx _ _ _ _ _=>?_) λh' e k _ _ hk he=>?_) (F.args_zip_next_1 _))))
  ·exfalso;have hk:=(Qg.mp ek).1;have q:=hx k `a
   obtain⟨q1,q2,_⟩:=hv k b a ek;rw[R4 `a] at q
   simp only[List.getElem?_toArray] at q;rw[Sy (by rw[<- q2.length,lM I q1 hq];exact le)] at q
   cases q
  ·obtain⟨o,ho,hcl⟩:=he;refine tqa (wpAny_isInstance ⟨o,ho,hcl⟩ isSubtype_stop ?_);exact tqb {rfl,wd I hf λ(b:Nat) o hb q=>hk b o (by rw[eF] at hb;omega) q}
 self:=λ_ _ _ _ _ st h=>wpAny_pyIter_zip st.1 h
noncomputable def iG (h:Heap):jR->Heap
 |[]=>h
 |p::r=>iG (h.push (fR p.1 p.2)) r
noncomputable def s9 (h:Heap):jR->List Qi
 |[]=>[]
 |p::r=>.ref h.objs.size::s9 (h.push (fR p.1 p.2)) r
def pZ:∀{h:Heap}{l:jR},(iG h l).objs.size=h.objs.size+l.length
 |_,[]=>rfl
 |h,p::r=>by show(iG _ r).objs.size=_;rw[pZ,Se,RL];omega
def mM:∀{l:jR}{h:Heap}{c:Nat}{o:Obj},h.get? c=some o->(iG h l).get? c=some o
 |[],_,_,_,e=>e
 |_::r,_,_,_,e=>mM (l:=r) (Qk _ e)
def r9:∀{l:jR}{h:Heap}{j:Nat}{p:Bool×Nat},l[j]?=some p->(iG h l).get? (h.objs.size+j)=some (fR p.1 p.2)
 |_::r,h,0,_,e=>by cases e;exact mM (l:=r) (QG _ rfl)
 | q :: r, h, j + 1, _, e => by
   have:=r9 (h:=h.push (fR q.1 q.2)) (j:=j) e;rw[Se,Sx,Nat.add_comm 1] at this;exact this
def uf:∀{l:jR}{h:Heap}{n k:Nat},h.objs.size=n+k->s9 h l=qI n k l.length
 |[],_,_,_,_=>rfl
 | p :: r, h, n, k, e => by
   have:=uf (l:=r) (h:=h.push (fR p.1 p.2)) (k:=k+1) (by rw[Se,e];rfl)
   show Value.ref h.objs.size::s9 _ r=Value.ref (n+k)::qI n (k+1) r.length;rw[this,e]
abbrev Eb (h:Heap)(l:jR):Heap:=(iG h l).push (jw (s9 h l).toArray)
abbrev zp (h:Heap)(l:jR):Heap:=(Eb h l).push (jw (l.map λ_=>Value.none).toArray)
abbrev tK (h:Heap)(l:jR):Heap:=(zp h l).push {cls:=.type "zip",data:=.fields #[.none,.bool false,.bool false,.ref (iG h l).objs.size,.ref (Eb h l).objs.size]}
def FP (h:Heap){l:jR}{m:Nat}(hl:l.length=m+1):(zp h l).objs.size=h.objs.size+(m+1)+2/\yZ h.objs.size m l 0 (tK h l)/\∀c o,h.get? c=some o->(tK h l).get? c=some o:=by
 have s0:(iG h l).objs.size=h.objs.size+(m+1):=by rw[pZ,hl]
 have s1:(Eb h l).objs.size=h.objs.size+(m+1)+1:=by rw[Se,s0]
 have s2:(zp h l).objs.size=h.objs.size+(m+1)+2:=by rw[Se,s1]
 have up:∀{c:Nat}{o},(iG h l).get? c=some o->(tK h l).get? c=some o:=λe=>Qk _ (Qk _ (Qk _ e));have g1:(tK h l).get? (iG h l).objs.size=some _:=Qk _ (Qk _ (QG _ rfl));have g2:(tK h l).get? (Eb h l).objs.size=some _:=Qk _ (QG _ rfl);have g3:(tK h l).get? (zp h l).objs.size=some _:=QG _ rfl;rw[s0,uf (Nat.add_zero _).symm,hl] at g1;rw[s1] at g2;rw[s2,s1,s0] at g3;exact{s2,{g3,g1,{_,by simp[hl],g2},λj b a e=>fm.new (up (r9 e))},λc o e=>up (mM e)}
def yv (b0:Bool)(a0:Nat)(b1:Bool)(a1:Nat)(xs0 xs1:Array Qi) :
 Meets (Builtin.«zip.__new__» {[.type "zip",.ref a0,.ref a1],[]}) (λ_ R s=>cq b0 s.heap a0 xs0/\cq b1 s.heap a1 xs1/\
  R (.ok (.ret (.ref (zp s.heap [(b0,a0),(b1,a1)]).objs.size))) {s with heap:=tK s.heap [(b0,a0),(b1,a1)]}):=
 .of_wp λprog w A R s h=>by
  obtain⟨hp,g,d,tk,os⟩:=s;obtain⟨q0,q1,h⟩:=h;have hsub:=sub_zip;have L0:=q0;have L1:cq b1 (Shared.heap {hp.push (fR b0 a0),g,d,tk,os}) a1 xs1:=(q1).push _;wp_walk using pY L0,pY L1
  exact{_,rfl,h}
section
variable{prog:Ra}{w:Rb}{A:RR}{E:Qi->Qm->Prop}{s:Qm}{a0 a1 a2:Nat}{b0 b1 b2:Bool}{xs0 xs1 xs2:Array Qi}{Q:Qi->Qm->Prop}
def BE (q0:cq b0 s.heap a0 xs0)(q1:cq b1 s.heap a1 xs1)(h:∀h',yZ s.heap.objs.size 1 [(b0,a0),(b1,a1)] 0 h'->(∀c o,s.heap.get? c=some o->h'.get? c=some o)->Q (.ref (s.heap.objs.size+2+2)) {s with heap:=h'}) :
 wpAny (model prog w) A (call (.type "zip") [.ref a0,.ref a1]) Q E s:=by
 obtain⟨z,y,x⟩:=FP s.heap (l:=[(b0,a0),(b1,a1)]) rfl;refine callType_new F.called_zip `d (F.typeCall_zip_2 _ _) (F.newCall_zip_2 _ _) (λobj=>F.args_object_init_3 obj _ _) F.entry_zip_new (yv b0 a0 b1 a1 xs0 xs1) {q0,q1,?_}
 show _/\_;rw[z];exact{{_,y.1,rfl},h _ y x}
end
noncomputable def xR (d0 d1:D):Walk:=λM=>(cE M d0).bind λy0=>(cE M d1).map λy1=>ff y0 y1
noncomputable def n8 (g0 g1:Env->Mem->Res D):Env->Mem->Res Walk:=λZ M=>(g0 Z M).bind λd0 M=>(g1 Z M).bind λd1 M=>if gy d0&&gy d1 then .ok (xR d0 d1) M else .bad
def tJ:∀(y0 y1:List D) (i:Nat) (d:D),(ff y0 y1)[i]?=some d↔∃e0 e1,y0[i]?=some e0/\y1[i]?=some e1/\d=.tup [e0,e1]
 |c0::t0,c1::t1,0,d=>by simp[ff,eq_comm]
 | c0 :: t0, c1 :: t1, i + 1, d => by
   have:=tJ t0 t1 i d;simpa[ff] using this
 |[],_,i,d=>by simp[ff]
 |_::_,[],i,d=>by simp[ff]
def tH:∀(y0 y1:List D) (i:Nat),(ff y0 y1).length<=i->y0.length<=i\/y1.length<=i
 |c0::t0,c1::t1,0,h=>by simp[ff] at h
 | c0 :: t0, c1 :: t1, i + 1, h => by
   have:=tH t0 t1 i (by simpa[ff] using h)
   simpa using this
 |[],_,i,h=>`s
 |_::_,[],i,h=>`s
def EJ {fa:Fa}{K:Qh}{μ:Mu}{H:Hp}:∀{es:List D}{ws:List V},es.length=ws.length->(∀(j:Nat) e w,es[j]?=some e->ws[j]?=some w->Rep fa K μ H e w)->aK fa K μ H es ws
 |[],[],_,_=>rfl
 |e::es,w::ws,hl,h=>{w,ws,rfl,h 0 e w rfl rfl,EJ (by simpa using hl) λj e w=>h (j+1) e w}
def B3 {fa:Fa}{X:Cx}{μ0:Mu}{H0:Hp}{l:jR}{w:Walk} (hw:∀μ H M ds,ExtW μ0 H0 μ H->RelM fa X.K μ H M->w M=some ds->∃ys:List (List D),ys.length=l.length/\(∀(j:Nat) y b a,ys[j]?=some y->l[j]?=some (b,a)->∃vs,iO X.K H b a vs/\aK fa X.K μ H y vs)/\
 (∀(i:Nat) d,ds[i]?=some d->∃es,d=.tup es/\es.map some=ys.map (·[i]?))/\∀i,ds.length<=i->∃y∈ys,y.length<=i):dP fa X.K μ0 H0 w (Me X.K l):=λμ H M ds x hM e=>by
 obtain⟨ys,hl,hv,hd,he⟩:=hw μ H M ds x hM e;have at_:∀(j:Nat) b a,l[j]?=some (b,a)->∃y vs,ys[j]?=some y/\iO X.K H b a vs/\aK fa X.K μ H y vs:=λj b a e=>by
  have hj:=(Qg.mp e).1;have ey:=Qq (l:=ys) (i:=j) `a
  obtain⟨vs,q,r⟩:=hv j _ b a ey e;exact{_,vs,ey,q,r}
 refine{λi d hi=>?_,λi hi=>{λj b a e=>?_,?_}}
 ·obtain⟨es,rfl,ee⟩:=hd i d hi;have ej:∀{j:Nat}{y:List D},ys[j]?=some y->es[j]?.map some=some y[i]?:=λ{j y} ey=>by
   have:=congrArg (·[j]?) ee;simpa[ey] using this
  have le:es.length=l.length:=by have:=congrArg List.length ee;simpa[hl] using this
  have it:∀(j:Nat) b a,l[j]?=some (b,a)->∃vs e v,es[j]?=some e/\iO X.K H b a vs/\vs[i]?=some v/\Rep fa X.K μ H e v:=λj b a e=>by
   obtain⟨y,vs,ey,q,r⟩:=at_ j b a e;have z:=ej ey;cases h:es[j]? with
   |none=>rw[h] at z;cases z
   | some e =>
     rw[h] at z;obtain⟨v,hv,rv⟩:=r.get (Qv z).symm;exact⟨vs,e,v,rfl,q,hv,rv⟩
  refine{λj b a e=>?_,λy H' ⟨p,zs,hp,ey,eH,lz,t⟩=>?_}
  ·obtain⟨vs,_,v,_,q,hv,_⟩:=it j b a e;exact⟨vs,v,q,hv⟩
  subst eH ey;refine{Ext.alloc hM hp,hM.alloc hp,p,zs,rfl,.inl (.inl cD),EJ (le.trans lz.symm) λj e w ee ew=>?_};have el:=Qq (l:=l) (i:=j) (by have:=(Qg.mp ee).1;omega)
  obtain⟨vs,e',v,h1,q,hv,rv⟩:=it j _ _ el;have z:=t j _ _ el vs q;rw[ew,hv] at z;rw[ee] at h1;cases z;cases h1;exact rv.ext (Ext.alloc hM hp)
 ·obtain⟨_,vs,_,q,_⟩:=at_ j b a e;exact⟨vs,q⟩
 ·obtain⟨y,hy,ly⟩:=he i hi;obtain⟨j,ej⟩:=List.getElem?_of_mem hy;have el:=Qq (l:=l) (i:=j) (by have:=(Qg.mp ej).1;omega)
  obtain⟨vs,q,r⟩:=hv j y _ _ ej el;exact{j,_,_,vs,el,q,by rw[r.length];exact ly}
section
variable{fa:Fa}{X:Cx}{μ0:Mu}{H0:Hp}{d0 d1 d2:D}{a0 a1 a2:Nat}(r0:Rep fa X.K μ0 H0 d0 (.ref a0))(r1:Rep fa X.K μ0 H0 d1 (.ref a1))(r2:Rep fa X.K μ0 H0 d2 (.ref a2))
include r0 r1
theorem zz:dP fa X.K μ0 H0 (xR d0 d1) (Me X.K [(iH d0,a0),(iH d1,a1)]):=B3 λμ H M ds x hM e=>by
 obtain⟨y0,s0,e⟩:=Rl.mp e;obtain⟨y1,s1,rfl⟩:=QA.mp e;refine{[y0,y1],rfl,λj y b a ey el=>?_,λi d hd=>?_,λi hi=>?_}
 ·match j,ey,el with
  |0,ey,el=>cases ey;cases el;exact lL hM (Rep.extW x r0) s0
  |1,ey,el=>cases ey;cases el;exact lL hM (Rep.extW x r1) s1
 ·obtain⟨e0,e1,h0,h1,rfl⟩:=(tJ y0 y1 i d).mp hd;exact{_,rfl,by simp[h0,h1]}
 ·rcases tH y0 y1 i hi with z|z<;>exact{_,`s,z}
include r2
end
def HY {fa:Fa}{X:Cx}{elts:List Expr}{kk:Nat}{tp p pos:Pos}{e0 e1:Expr}{g0 g1:Env->Mem->Res D}(h0:DE fa X e0 g0)(h1:DE fa X e1 g1)(hg:Gl X "zip")(hm:X.mg "zip"=none)
 (hs0:starEach [e0,e1] X.env=[(false,eval e0 X.env),(false,eval e1 X.env)]) (hs1:starEach [e1] X.env=[(false,eval e1 X.env)]):DI fa X (.Tuple elts kk tp) (.Call (.Name "zip" p) [e0,e1] [] pos) (n8 g0 g1):=by
 intro pins s σ H R I ⟨μ,Z,M,hE,hM,h⟩;obtain⟨d0,M0,c0,t0⟩:=aL h;obtain⟨d1,M1,c1,t1⟩:=aL t0;split at t1
 ·next hsq=>
  simp only[Qr] at hsq;obtain⟨hq0,hq1⟩:=hsq;refine Call_ (hJ I hg hm boot_zip (RY (aT (c7 h0 (c7 h1 eI hs1) (by rw[hs0,hs1]) pos pins s σ H (λvs H1=>∃v0 v1 μ1,vs=[v0,v1]/\Ext μ H μ1 H1/\RelM fa X.K μ1 H1 M1/\Rep fa X.K μ1 H1 d0 v0/\Rep fa X.K μ1 H1 d1 v1) I ?_) λus s1 ⟨vs,H1,I1,r1,v0,v1,μ1,ev,x1,m1,rv0,rv1⟩=>?_) (by rw[hs0,hs1]) (by rw[hs1];rfl)))
  ·refine{μ,Z,M,hE,hM,?_};rw[c0];intro v0 H1 μ1 x1 m1 r0;refine{μ1,Z,M0,(hE.ext x1),m1,?_};rw[c1];intro v1 H2 μ2 x2 m2 r1;exact{v0,v1,μ2,rfl,(x1.trans x2),m2,(r0.ext x2),r1}
  subst ev;obtain⟨a0,its0,rfl,z0⟩:=oW I1 m1 rv0 hq0;obtain⟨a1,its1,rfl,z1⟩:=oW I1 m1 rv1 hq1;cases r1 with
  | cons y0 r1 =>
    cases r1 with
    | cons y1 r1 =>
      cases r1;obtain rfl:=y0;obtain rfl:=y1;refine BE z0 z1 λh1 za hk=>?_;have I2:=I1.kept (t':=s1.toks) hk;refine wpAny_pyIter_zip za.1 ?_;refine{s1.heap.objs.size+2+2,Iy s1.heap.objs.size 1,_,_,H1,rfl,I2,Cn s1.heap.objs.size 1 [(iH d0,a0),(iH d1,a1)] rfl `d (λj b a e=>match j,e with
       |0,e=>by cases e;exact z0.lt
       |1,e=>by cases e;exact z1.lt),za,λb hb=>?_,t1 _ H1 μ1 x1 m1 (zz rv0 rv1)}
      have hb:=(eF.mp hb).1;exact I1.fpOk hb (I1.hok.fresh hb)
 ·exact t1.elim
noncomputable def yM (it:Addr):Obj:={cls:=.type "enumerate",data:=.fields #[.none,.bool false,.ref it,rawInt 0,.none,.none]}
def A1 (l:Addr)(us:Array Qi)(n:Nat)(dct:Option Addr)(sl:Array (Option Qi)) :
 Meets (Builtin.«enumerate.__new__» {[.type "enumerate",.ref l],[]}) (λ_ R s=>s.heap.get? l=some {.type "tuple",dct,.seq us n,sl}/\
  R (.ok (.ret (.ref (s.heap.push (fR false l)).objs.size))) {s with heap:=(s.heap.push (fR false l)).push (yM s.heap.objs.size)}):=
 .of_wp λprog w A R s h=>by
  obtain⟨hp,g,d,tk,os⟩:=s;obtain⟨ht,h⟩:=h;have q:=sub_enumerate;have hL:Heap.IsTuple (Shared.heap ⟨hp,g,d,tk,os⟩) l us:={_,ht,rfl,n,rfl};wp_walk using QZ ht
  refine wpAny_stack_any λ_=>tqb ?_;split
  ·rename_i c _ _ _ _ _;cases (c==Value.type "enumerate")<;>
   ·wp_walk using QZ ht,wpAny_pyIter_tuple hL
    exact{_,rfl,h}
  ·wp_walk using QZ ht,wpAny_pyIter_tuple hL
   exact{_,rfl,h}
section
variable{prog:Ra}{w:Rb}{A:RR}{E:Qi->Qm->Prop}{s:Qm}
def DR (hL:cq b s.heap l us)
 (h:∀h',IsEnum h' (s.heap.objs.size+1) s.heap.objs.size 0 .none->fm b h' s.heap.objs.size l 0->(∀c o,s.heap.get? c=some o->h'.get? c=some o)->Q (.ref (s.heap.objs.size+1)) {s with heap:=h'}):wpAny (model prog w) A (call (.type "enumerate") [.ref l]) Q E s:=by
 cases b with
 |true=>exact call_enumerate_list hL λh' e i _ k=>h h' e i k
 | false =>
   obtain⟨⟨c,dct,dt,sl⟩,ht,hc,n,hd⟩:=hL;cases hc;cases hd;refine callType_new F.called_enumerate `d (F.typeCall_enumerate_1 _) (F.newCall_enumerate_1 _) (λo=>F.args_object_init_2 o _) F.entry_enumerate_new (A1 l us n dct sl) {ht,?_}
   have hz:(s.heap.push (fR false l)).objs.size=s.heap.objs.size+1:=Se ..;rw[hz];have he:IsEnum ((s.heap.push (fR false l)).push (yM s.heap.objs.size)) (s.heap.objs.size+1) s.heap.objs.size 0 .none:=by
    have:=QG (s.heap.push (fR false l)) (o:=yM s.heap.objs.size) rfl;rw[hz] at this;exact this
   exact{{_,he,rfl},h _ he (fm.new (Qk _ (QG _ rfl))) λc o x=>Qk _ (Qk _ x)}
def LF (hh:A.handled=none)(hne:l≠it)(us:Array Qi):Draws prog w A it [it,l] us.size (λi v=>us[i]?=some v) (λi h=>fm b h it l i/\cq b h l us) where
 live:=λ_ _ st=>let{o,ho,_}:=st.1.obj;⟨o,ho⟩
 frame:=λ_ _ _ st hk=>{st.1.at λo e=>hk it `s o e,st.2.at λo e=>hk l `s o e}
 item:=λi s Q E hi st hQ=>iY hh st.1 st.2 (λx h' hx it' hs'=>hQ _ h' s.toks hx {it',st.2.extBut hs'.extBut hne} hs') λz=>by rw[R4 hi] at z;cases z
 done:=λs Q E st hE=>iY hh st.1 st.2 (λx h' hx=>by rw[Array.getElem?_eq_none (Ql _)] at hx;cases hx) λ_=>hE
def LC (hh:A.handled=none)(hx:us[i]?=none):Draws prog w A it [it,l] i (λ_ _=>True) (λk h=>k=i/\fm b h it l i/\cq b h l us) where
 live:=λ_ _ st=>let{o,ho,_}:=st.2.1.obj;⟨o,ho⟩
 frame:=λ_ _ _ st hk=>{st.1,st.2.1.at λo e=>hk it `s o e,st.2.2.at λo e=>hk l `s o e}
 item:=λk s Q E hi st hQ=>absurd st.1 (QY hi)
 done:=λs Q E st hE=>iY hh st.2.1 st.2.2 (λx h' e=>by rw[hx] at e;cases e) λ_=>hE
end
noncomputable def Oz (K:Qh)(b:Bool)(a:Addr):It:=
 {λi H=>∃xs x,iO K H b a xs/\xs[i]?=some x,λi H v H'=>∃p x,H p=none/\v=.ref p/\H'=upd H p (.tup [.int i,x])/\∀xs,iO K H b a xs->xs[i]?=some x,λi H=>∃xs,iO K H b a xs/\xs.length<=i}
def zU {K:Qh}(b:Bool)(a it e:Addr)(hne:e≠it)(hna:a≠it)(hea:e≠a) :
 Turn P w K (.Tuple elts kk pos) (Oz K b a) [e,it] e (λi h=>(∃old,IsEnum h e it (i:Nat) old)/\fm b h it a i) where
 mem:=`s
 obj:=λi h ⟨⟨old,he⟩,hi⟩ c hb=>by
  rcases Rg.mp hb with z|z
  ·subst z;exact{_,he,λv z=>by cases z}
  ·have e:c=it:=by simpa using z
   subst e;exact hi.obj
 keep:=λi h h' ⟨⟨old,he⟩,st⟩ k=>{{old,k e `s _ he},st.at λo e=>k it `s o e}
 item:=by
  intro X hP hw hK hc i pins s σ H E I hf st hg;subst hP hw hK;obtain⟨xs,x,hq,hx⟩:=hg;obtain⟨⟨old,he⟩,hit⟩:=st;obtain⟨its,rv,p⟩:=nN I hq;obtain⟨u,hu,ru⟩:=rv.get hx;have hi:i<its.toArray.size:=by have:=(Qg.mp hu).1;simpa using this
  refine wpAny_pyNext_enum_itemD (LF (A:=X.A.in1) (I.ok.hd hc) hna its.toArray) he ⟨hit,p⟩ hi hne (by simp[hne,hea]) λu' h1 tk hu' ho hit1 hT hsz hk=>{_,rfl,?_}
  have eu:u'=u:=by
   have hu':its[i]?=some u':=by simpa using hu'
   rw[hu] at hu';exact(Qv hu').symm
  subst eu;have hT0:=I.hok.fresh (Ql _);have elt:=QH he;refine wpAny_letOwnedTupleGo_enum ho λh2 he2 hs2=>?_;have hT2:h2.get? s.heap.objs.size=some {cls:=.type "tuple",data:=.seq #[.int i tk,u']}:=(hs2.2 _ (Rq elt)).trans hT;refine{.ref s.heap.objs.size,upd H s.heap.objs.size (.tup [.int i,x]),rQ (s:=s) I hf (λc o hb q=>(hs2.2 c (λz=>hb (by simp[z]))).trans (hk c o (λz=>hb (by simp[z])) (λz=>hb (by simp[z])) q)) (Ql _) {?_,[.int i tk,u'],.cons {_,rfl} (.cons ru .nil),{_,hT2,rfl,_,rfl}},rfl,
   {_,x,hT0,rfl,rfl,λys hy=>by rw[lM I hy hq];exact hx},{⟨u',he2⟩,hit1.1.extBut hs2.extBut (Ru hne)},λc hb=>?_}
  ·show 2<=sizeLine;decide
  ·have:c<s.heap.objs.size:=by
    rcases Rg.mp hb with z|z
    ·subst z;exact elt
    ·have e:c=it:=by simpa using z
     subst e;obtain⟨o,e,_⟩:=hit.obj;exact QH e
   rw[aH (QY this)];exact(hf c hb).1
 done:=by
  intro X hP hw hK hc i pins s σ H E I hf st hg;subst hP hw hK;obtain⟨xs,hq,hx⟩:=hg;obtain⟨⟨old,he⟩,hit⟩:=st;obtain⟨its,rv,p⟩:=nN I hq;have hl:=rv.length;exact wpAny_pyNext_enum_endD (LC (A:=X.A.in1) (I.ok.hd hc) `o) he ⟨rfl,hit,p⟩ λh' eb=>{rfl,wd I hf λc o hb q=>eb c o (λz=>hb (by simp[z])) q}
 self:=λ_ _ _ _ _ ⟨⟨old,he⟩,_⟩ h=>wpAny_pyIter_enum he h
section
variable{fa:Fa}{X:Cx}{a:Expr}{ga:Env->Mem->Res D}{pos p:Pos}
def zB {ad:Addr}(h:Rep fa X.K μ0 H0 dd (.ref ad)):dP fa X.K μ0 H0 (λM=>(cE M dd).map (fz 0)) (Oz X.K (iH dd) ad):=λμ H M ds x hM e=>by
 dsimp only at e;cases e0:cE M dd with
 |none=>rw[e0] at e;cases e
 | some es =>
   rw[e0] at e;have e:=Qv e;subst e;obtain⟨vs,s,r⟩:=lL hM (Rep.extW x h) e0;refine{λi d hd=>?_,λi hi=>{vs,s,by rw[r.length,<- m9 es 0];exact hi}}
   rw[ng] at hd;cases e1:es[i]? with
   |none=>rw[e1] at hd;cases hd
   | some d0 =>
     rw[e1] at hd;have hd:=Qv hd;subst hd;obtain⟨v,hv,rv⟩:=r.get e1;refine{⟨vs,v,s,hv⟩,λy H' ⟨q,z,hq,ey,eH,hy⟩=>?_};have:=hy vs s;rw[hv] at this;cases this;subst eH ey;refine{Ext.alloc hM hq,hM.alloc hq,q,[.int i,v],rfl,.inl (.inl cD),.int i,[v],rfl,?_,v,[],rfl,rv.ext (Ext.alloc hM hq),rfl};show V.int i=V.int ((0+i:Nat):Int);rw[Nat.zero_add]
noncomputable def gz (ga:Env->Mem->Res D):Env->Mem->Res Walk:=λZ M=>(ga Z M).bind λx M=>if gy x=true then .ok (λM=>(cE M x).map (fz 0)) M else .bad
def H9 {elts:List Expr}(ha:DE fa X a ga)(hg:Gl X "enumerate")(hm:X.mg "enumerate"=none)(hs:starEach [a] X.env=[(false,eval a X.env)]):DI fa X (.Tuple elts kk tp) (.Call (.Name "enumerate" p) [a] [] pos) (gz ga):=by
 intro pins s σ H R I ⟨μ,Z,M,hE,hM,h⟩;obtain⟨x,M1,e,q⟩:=aL h;cases hx:gy x with
 |false=>rw[hx] at q;exact q.elim
 |true=>
 rw[hx] at q;refine Call_ (hJ I hg hm boot_enumerate (RY (aT (c7 ha eI hs pos pins s σ H (λvs H1=>∃v μ1,vs=[v]/\Ext μ H μ1 H1/\RelM fa X.K μ1 H1 M1/\Rep fa X.K μ1 H1 x v) I {μ,Z,M,hE,hM,?_}) λus s1 ⟨vs,H1,I1,r1,v,μ1,ev,x1,m1,rv⟩=>?_) hs rfl))
 ·rw[e];exact λv H1 μ1 x1 m1 r1=>⟨v,μ1,rfl,x1,m1,r1⟩
 subst ev;obtain⟨ad,its,rfl,p1⟩:=oW I1 m1 rv hx;cases r1 with
 | cons r1 rr =>
   cases rr;obtain rfl:=r1;have alt:=p1.lt;refine DR p1 λh1 he hit hk=>?_;have I2:=I1.kept (t':=s1.toks) hk;refine wpAny_pyIter_enum he ?_;refine{s1.heap.objs.size+1,[s1.heap.objs.size+1,s1.heap.objs.size],_,_,H1,rfl,I2,zU (iH x) ad s1.heap.objs.size (s1.heap.objs.size+1) (Nat.succ_ne_self _) (QY alt) (Rq (RT alt)),{{.none,he},hit},λb hb=>?_,q _ H1 μ1 x1 m1 (zB rv)};have hb:s1.heap.objs.size<=b:=by
    rcases Rg.mp hb with z|z
    ·subst z;exact Nat.le_succ _
    ·have e:b=s1.heap.objs.size:=by simpa using z
     subst e;exact Ql _
   exact I1.fpOk hb (I1.hok.fresh hb)
end
abbrev GE:=Env->Mem->Res D
abbrev GT:=Env->Mem->Res Bool
abbrev GA:=Env->Mem->Res (List D)
abbrev GW:=Env->Mem->Res Walk
abbrev GS:=Env->Mem->Res Fl
abbrev GB:=Env->List D->Mem->Res (List D)
abbrev Call:=Nat->List D->Mem->Res D
noncomputable def aa (i:Nat):GE:=λZ M=>cu M (Z[i]?.getD none)
noncomputable def gC (d:D):GE:=λ_ M=>.ok d M
noncomputable def av (m:Bool)(o:oR)(a b:GE):GE:=λZ M=>(a Z M).bind λx M=>(b Z M).bind λy M=>f6 m o x y M
noncomputable def aA (o:jS)(a b:GE):GE:=λZ M=>(a Z M).bind λx M=>(b Z M).bind λy M=>(cu M (bH o x y M)).bind λb M=>.ok (.bl b) M
noncomputable def qZ (o o':jS)(a b c:GE):GE:=λZ M=>(a Z M).bind λx M=>(b Z M).bind λy M=>(cu M (bH o x y M)).bind λk M=>
 if k then(c Z M).bind λz M=>(cu M (bH o' y z M)).bind λb M=>.ok (.bl b) M else .ok (.bl false) M
noncomputable def dE (a:GE):GE:=λZ M=>(a Z M).bind λx M=>match x with|.int i=>.ok (.int (-i)) M|_=>.bad
noncomputable def eX (a b:GE):GE:=λZ M=>(a Z M).bind λx M=>match x with|.bl true=>b Z M|.bl false=>.ok (.bl false) M|_=>.bad
noncomputable def uW (a b:GE):GE:=λZ M=>(a Z M).bind λx M=>match x with|.bl true=>.ok (.bl true) M|.bl false=>b Z M|_=>.bad
noncomputable def K8 (a:GE):GE:=λZ M=>(a Z M).bind λx M=>match x with|.bl k=>.ok (.bl (!k)) M|_=>.bad
noncomputable def gG (t:GT)(a b:GE):GE:=λZ M=>(t Z M).bind λk M=>if k then a Z M else b Z M
noncomputable def au (a b:GE):GE:=λZ M=>(a Z M).bind λx M=>(b Z M).bind λy M=>cu M (b7 x y M)
noncomputable def cn (m hl hh:Bool)(a lo hi:GE):GE:=λZ M=>(a Z M).bind λx M=>(lo Z M).bind λl M=>(hi Z M).bind λh M=>if cK hl l&&cK hh h then gY m x l h M else .bad
noncomputable def bj:GA:=λ_ M=>.ok [] M
noncomputable def bg (a:GE)(s:GA):GA:=λZ M=>(a Z M).bind λx M=>(s Z M).bind λxs M=>.ok (x::xs) M
noncomputable def bB (s:GA):GE:=λZ M=>(s Z M).bind lS
noncomputable def bu (m:Bool)(s:GA):GE:=λZ M=>(s Z M).bind (ba m)
noncomputable def ai (f:Nat)(c:Call)(s:GA):GE:=λZ M=>(s Z M).bind λds M=>c f ds M
noncomputable def mY (i:Nat)(c:Call)(s:GA):GE:=λZ M=>match Z[i]?.getD none with|some (.fn f)=>(s Z M).bind λds M=>c f ds M|_=>.bad
noncomputable def aM (f:xQ)(s:GA):GE:=λZ M=>(s Z M).bind λds M=>gJ f ds M
noncomputable def eB (t:Ty)(a:GE):GE:=λZ M=>(a Z M).bind λx M=>(cu M (hU t x)).bind λb M=>.ok (.bl b) M
noncomputable def aj (a:GE):GT:=λZ M=>(a Z M).bind λx M=>cu M (ko M x)
noncomputable def gW (a b:GT):GT:=λZ M=>(a Z M).bind λk M=>if k then b Z M else .ok false M
noncomputable def dN (a b:GT):GT:=λZ M=>(a Z M).bind λk M=>if k then .ok true M else b Z M
noncomputable def cj (a:GT):GT:=λZ M=>(a Z M).bind λk M=>.ok (!k) M
noncomputable def aw (t:fY)(a:GE):GS:=λZ M=>(a Z M).bind λx M=>(cu M (b6 t x Z)).bind λρ1 M=>.ok (.next ρ1) M
noncomputable def eO (a b d:GE):GS:=λZ M=>(d Z M).bind λz M=>(a Z M).bind λx M=>(b Z M).bind λy M=>match x,y with
 | .cell k, .int n => match M[k]? with
   | some ds => match cw ds.length n with
     |some j=>.ok (.next Z) (M.set k (ds.set j z))
     |none=>.bad
   |none=>.bad
 |_,_=>.bad
noncomputable def dS (a d:GE):GS:=λZ M=>(a Z M).bind λx M=>(d Z M).bind λz M=>match x with
 | .cell k => match M[k]? with
   |some ds=>if ds.length<sz then .ok (.next Z) (M.set k (ds++[z])) else .bad
   |none=>.bad
 |_=>.bad
noncomputable def sEx (a:GE):GS:=λZ M=>(a Z M).bind λ_ M=>.ok (.next Z) M
noncomputable def aP (a:GE):GS:=λZ M=>(a Z M).bind λx M=>.ok (.ret x) M
noncomputable def EH:GS:=λ_ M=>.ok (.ret .non) M
noncomputable def EI:GS:=λZ M=>.ok (.next Z) M
noncomputable def OQ:GS:=λ_ _=>.bad
noncomputable def aQ (c:GT)(a b:GS):GS:=λZ M=>(c Z M).bind λk M=>if k then a Z M else b Z M
noncomputable def cm (t:fY)(w:GW)(b:GS):GS:=λZ M=>(w Z M).bind λw M=>c9 (iF t b) w (.next Z) M
noncomputable def aG:GS:=λZ M=>.ok (.next Z) M
noncomputable def aX (a b:GS):GS:=λZ M=>(a Z M).bind λfl M=>match fl with
 |.next Z=>b Z M
 |fl=>.ok fl M
noncomputable def notStar:Expr->Bool
 |.Starred _ _=>false
 |_=>true
def bA (h:notStar a=true):starEach (a::es) env=(false,eval a env)::starEach es env:=by
 cases a<;>first|rfl|cases h
def eM:∀{es:List Expr},es.all notStar=true->(backTo pos (starEach es env)).any (·.1)=false
 |[],_=>rfl
 | a :: es, h => by
   simp only[RJ,Qr] at h;have ih:=eM (pos:=pos) (env:=env) h.2;rw[bA h.1];simpa[backTo] using ih
section
variable{fa:Fa}{X:Cx}{a b d:Expr}{ga gb gd:GE}{ta tb:GT}{pos p:Pos}{es:List Expr}{gs:GA}{n:Nat}
def JD {i:Int}(hg:Gl X x)(hm:X.mg x=some (.int i t))(hd:(x==("__debug__":Str))=false):DE fa X (.Name x pos) (gC (.int i)):=jr (v:=.int i) (kS hg hm ⟨t,rfl⟩ hd) λ_ _=>rfl
end
structure Df where
 params:Nat
 slots:Nat
 body:Call->GS
noncomputable def Pw:Fl->Mem->Res D
 |.ret d,M=>.ok d M
 |.next _,M=>.ok .non M
 |.exc x _,M=>.err x M
noncomputable def Pu:Res Fl->Res D
 |.ok fl M=>Pw fl M
 |_=>.bad
noncomputable def gF (c:Call)(d:Df)(ds:List D)(M:Mem):Res D:=if ds.length=d.params then Pu (d.body c (ds.map some++List.replicate (d.slots-ds.length) none) M) else .bad
noncomputable def ah (P:Nat->Option Df):Nat->Call
 |0,_,_,_=>.bad
 | n + 1, f, ds, M => match P f with
   |none=>.bad
   |some d=>gF (ah P n) d ds M
structure zl (K:Qh) (x qual:Str) (st:Stmt) (f:Addr) (fd:FuncData):Prop where
 ex:∃(oc:Qi) (od:Option Addr) (dV kV doc pm:Qi) (an:Option Addr) (cdv ct:Qi) (osl:Array (Option Qi)),
  fd=PySem.W.fnOf x qual (ft st) (dm st) (bq st) dV kV doc pm an cdv ct/\K.lookup f=some {oc,od,.func fd,osl}/\PySem.W.codeIn K cdv qual=true
 kp:PySem.W.keepIn K (.ref f)=true
def xN.toD {K:Qh}{st:Stmt}(F:xN K x qual st f fd):zl K x qual st f fd:=let⟨oc,od,kV,doc,pm,an,cdv,ct,osl,r⟩:=F.ex;{{oc,od,.none,kV,doc,pm,an,cdv,ct,osl,r},F.kp}
structure zo (fa:Fa) (P:Ra) (w:Rb) (K:Qh) (mg:Str->Option Qi) (base:Heap) (f:Nat) (d:Df):Prop where
 ex:∃(ad:Addr) (fd:FuncData) (ps N:List Str) (st:Stmt) (x qual:Str),fa f=some ad/\zl K x qual st ad fd/\Binds K fd ps []/\((fa (500+f)).isSome=true->Binds K fd ps [.none])/\jv N ps (bq st)/\d.params=ps.length/\d.slots=N.length/\
  ∀(call:Call) (n:Nat) (cdv:Qi) (A:RR) (outer:List R3) (s:Qm) (H:Hp) (E:XK),(∀f,ik fa P w K mg base n f (call f))->dH (2*n+5) (A.deeper (envOfC qual (bq st) s.heap.objs.size ad cdv))->
   nJ fa (gH (iX P w) P w K mg base N qual (bq st) ad cdv A outer s H E) (dm st) (d.body call)
def Ab {K:Qh}(h:aK fa K μ H ds vs):bz fa K μ H (L2.start N vs) (ds.map some++List.replicate (N.length-ds.length) none):=by
 have hl:=h.length;refine{by unfold L2.start;simp[hl],λi d e=>?_}
 by_cases hi:i<ds.length
 ·rw[Qn (by simpa using hi),QC] at e
  cases e1:ds[i]? with
  |none=>rw[e1] at e;cases e
  | some d' =>
    rw[e1] at e;cases e;obtain⟨v,hv,rv⟩:=h.get e1;refine{v,?_,rv};unfold L2.start;rw[Qn `o,QC,hv]
    rfl
 ·rw[Q0 `o,Ss] at e
  split at e<;>cases e
def xh {K:Qh}{st:Stmt}(F:zl K x qual st f fd)(S:jv N ps (bq st))(len:∀vs H Q E,sp vs H Q E->vs.length=ps.length)
 (hbody:∀(cdv:Qi) (A:RR) (outer:List R3) (s:Qm) (H:Hp) (vs:List V) (Q:VK) (E:XK),dH k (A.deeper (envOfC qual (bq st) s.heap.objs.size f cdv))->sp vs H Q E->
  ∃t,lD (gH (iX P w) P w K mg base N qual (bq st) f cdv A outer s H E) (dm st) t/\t {nx:=λ_ H'=>Q .non H',rt:=Q} (start N vs) H):mB P w K mg base (iX P w) (k+1) f fd ps sp:=by
 obtain⟨oc,od,dV,kV,doc,pm,an,cdv,ct,osl,rfl,lk,hcd⟩:=F.ex;exact Ng lk hcd S len λA outer s H vs Q E hr hsp=>hbody cdv A outer s H vs Q E hr hsp
def sJ {K:Qh}
 (hs:d.slots=N.length) (hM:RelM fa K μ H M) (hr:aK fa K μ H ds vs) (hq:fX (gF c d ds M) (a8 fa K μ H Q) (FH fa K μ H E)):tF fa (gH (iX P w) P w K mg base N qual scope f cd A outer s H E) (d.body c) {nx:=λ_ H'=>Q .non H',rt:=Q} (start N vs) H:=by
 unfold gF at hq;split at hq
 ·refine{μ,_,M,Ab hr,hM,?_};rw[<- hs];cases e1:d.body c (ds.map some++List.replicate (d.slots-ds.length) none) M with
  | ok fl M1 =>
    rw[e1] at hq;cases fl with
    | next ρ' =>
      have q1:=hq;exact λσ' H' μ' x' e' m'=>q1 .non H' μ' x' m' rfl
    |ret d=>exact hq
    | exc x ρ' =>
      have q1:=hq;exact λpins σ' H' μ' s' a C dx c p I y _ m ex hc hn fl=>Dh I fl (q1 C dx c p H' μ' y m ex hc hn)
  |err=>rw[e1] at hq;exact hq.elim
  |bad=>rw[e1] at hq;exact hq.elim
 ·exact hq.elim
def vA {P:Ra}{w:Rb}{K:Qh}(h:∀f d,Pg f=some d->zo fa P w K mg base f d):∀(n f:Nat),ik fa P w K mg base n f (ah Pg n f)
 |0,f=>.inl λ_ _=>rfl
 | n + 1, f => by
   have ih:=vA h n;cases e:Pg f with
   |none=>exact .inl λds M=>by show(match Pg f with|none=>Res.bad|some d=>gF (ah Pg n) d ds M)=Res.bad;rw[e]
   | some d =>
     have eq:∀ds M,ah Pg (n+1) f ds M=gF (ah Pg n) d ds M:=λds M=>by show(match Pg f with|none=>Res.bad|some d=>gF (ah Pg n) d ds M)=_;rw[e]
     obtain⟨ad,fd,ps,N,st,x,qual,h1,F,hb,hdf,S,hp,hs,hbody⟩:=(h f d e).ex;refine .inr {ad,fd,ps,h1,F.kp,hb,λds M hl=>?_,?_,hdf}
     ·rw[eq];unfold gF;rw[if_neg (by rw[hp];exact hl)]
     ·refine xh F S (λvs H Q E hsp=>hsp.1) λcdv A outer s H vs Q E hr hsp=>{_,hbody (ah Pg n) n cdv A outer s H E ih hr,?_};obtain⟨hl,μ,M,ds,hM,hr,hq⟩:=hsp;rw[eq] at hq;exact sJ hs hM hr hq
noncomputable def ub (a d:GE):GS:=λZ M=>(a Z M).bind λx M=>(d Z M).bind λz M=>match x,z with
 | .cell k, .cell j => (match M[k]?, M[j]? with
   |some ds,some es=>if ds.length+es.length<=sz then .ok (.next Z) (M.set k (ds++es)) else .bad
   |_,_=>.bad)
 |_,_=>.bad
def Ly {a d:Expr}{ga gd:GE}{pos apos cpos:Pos}(ha:DE fa X a ga)(hd:DE fa X d gd)(hbase:attributeBase a "extend" X.env (eval a X.env)=eval a X.env)(hline:(apos.endLine==cpos.line)=true)(hs:starEach [d] X.env=[(false,eval d X.env)])
 (hsw:swapsWith (.Call (.Attribute a "extend" apos) [d] [] cpos) none pos.line X.env=pure false) :
 DS fa X (.Expr (.Call (.Attribute a "extend" apos) [d] [] cpos) pos) (ub ga gd):=
 dO (kQ (yi PySem.F.plainAttrs_list PySem.F.slot_list_extend PySem.F.type_list_extend AY ha (c7 hd eI hs) hbase (by rw[hs];rfl) hline hs `r) hsw) λD' σ H ⟨μ,Z,M,hE,hM,h⟩=>by
  obtain⟨x,M1,e1,h1⟩:=aL h;obtain⟨z,M2,e2,h2⟩:=aL h1;obtain⟨k,j,ds,es,rfl,rfl,ek,ej,hz,q⟩:∃k j ds es,x=.cell k/\z=.cell j/\M2[k]?=some ds/\M2[j]?=some es/\ds.length+es.length<=sz/\mE fa X μ H D' (.next Z) (M2.set k (ds++es)):=by
   cases x with
   | cell k =>
     cases z with
     | cell j =>
       dsimp only at h2;cases ek:M2[k]? with
       |none=>rw[ek] at h2;exact h2.elim
       | some ds =>
         cases ej:M2[j]? with
         |none=>rw[ek,ej] at h2;exact h2.elim
         | some es =>
           rw[ek,ej] at h2;dsimp only at h2;split at h2
           ·next hz=>exact⟨k,j,ds,es,rfl,rfl,ek,ej,hz,h2⟩
           ·exact h2.elim
     |_=>exact h2.elim
   |_=>exact h2.elim
  refine{μ,Z,M,hE,hM,?_};rw[e1];intro vx H1 μ1 x1 hM1 rx;obtain⟨ad,rfl,hk⟩:=rx;obtain⟨ds1,ws1,_,hH1,_⟩:=hM1.mu_lt hk;refine{.inl {rfl,ws1,cW.of hH1},μ1,Z,M1,hE.ext x1,hM1,?_};rw[e2];intro vz H2 μ2 x2 hM2 rz;obtain⟨bd,rfl,hj⟩:=rz;obtain⟨ws,h4,h5⟩:=hM2.at_ ek (x2.mu k ad hk);obtain⟨us,h6,h7⟩:=hM2.at_ ej hj;refine{ad,bd,ws,us,rfl,rfl,h4,h6,by rw[h5.length,h7.length,<- dR];exact hz,?_}
  exact jU ((hE.ext x1).ext x2) hM2 (x2.mu k ad hk) (h5.append h7) λσ' H' μ' x' e' m'=>q σ' H' μ' ((x1.trans x2).trans x') e' m'
noncomputable def pQ (P:Sd)(e:RK)(kv:Str×Addr):Prop:=∃t,e={PyData.keyHash P kv.1,.str kv.1 t,.ref kv.2}
structure fW (K:Qh) (P:Sd) (a:Addr) (kvs:List (Str×Addr)):Prop where
 ex:∃(es:Array RK) (n:Nat),K.lookup a=some {cls:=.type "dict",data:=.dict es n}/\R5 (pQ P) es.toList kvs
 nd:(kvs.map (·.1)).Nodup
 ns:(a==sysModules)=false
noncomputable def wY (kvs:List (Str×Addr)):List (Key×Qi):=kvs.map λkv=>(Sum.inr kv.1,.ref kv.2)
def vc:∀{es:List RK}{kvs:List (Str×Addr)},R5 (pQ P) es kvs->∀e∈es,∃x t,e.key=.str x t/\e.hash=PyData.keyHash P x
 |_,_,.nil,e,h=>nomatch h
 | _, _, .cons r t, e, h => by
   rcases Rg.mp h with z|z
   ·subst z;obtain⟨t,rfl⟩:=r;exact{_,t,rfl,rfl}
   ·exact vc t e z
def qo:∀{es:List RK}{kvs:List (Str×Addr)},R5 (pQ w.params) es kvs->Pairs (kZ prog w) es (wY kvs)
 |_,_,.nil=>.nil
 | e :: es, kv :: kvs, .cons r t => by
   obtain⟨u,rfl⟩:=r;exact Pairs.cons (j7 kv.1 u) rfl (qo t)
def uO (I:Inv X pins σ H s)(h:fW X.K X.w.params a kvs):s.heap.DictOf (kZ X.prog X.w) a (wY kvs):=by
 obtain⟨es,n,lk,pr⟩:=h.ex;refine{_,es,n,I.kIn _ _ lk,⟨rfl,rfl,rfl⟩,rfl,λe he=>?_,qo pr,?_}
 ·obtain⟨x,t,e1,e2⟩:=vc pr e (by simpa using he)
  exact{Sum.inr x,by rw[e1];exact j7 x t,e2}
 ·have e:(wY kvs).map (·.1)=(kvs.map (·.1)).map Sum.inr:=by unfold wY;simp
  rw[e];exact List.Pairwise.map _ (λa b (n:a≠b) z=>n (Sum.inr.inj z)) h.nd
def A7 (kvs:List (Str×Addr))(k:Str):valueAt (wY kvs) (Sum.inr k:Key)=(kvs.lookup k).map Value.ref:=by
 induction kvs with
 |nil=>rfl
 | cons kv r ih =>
   unfold valueAt wY at ih ⊢;rw[RI,List.find?_cons,Rw];by_cases e:kv.1=k
   ·subst e;simp
   ·have e2:decide ((Sum.inr kv.1:Key)=Sum.inr k)=false:=decide_eq_false λz=>e (Sum.inr.inj z);have e3:=R1.mpr (Ru e);rw[e2,e3];exact ih
noncomputable def eV (fa:Fa)(kvs:List (Str×Addr))(fs:List (Str×Nat)):Prop:=R5 (λ(p:Str×Addr) (q:Str×Nat)=>p.1=q.1/\fa q.2=some p.2) kvs fs
def eV.look:∀{kvs:List (Str×Addr)}{fs:List (Str×Nat)},eV fa kvs fs->(fs.lookup k=none/\kvs.lookup k=none)\/∃f ad,fs.lookup k=some f/\kvs.lookup k=some ad/\fa f=some ad
 |_,_,.nil=>.inl ⟨rfl,rfl⟩
 | (x, a) :: r, (y, f) :: t, .cons ⟨e1, e2⟩ q => by
   subst e1;rw[Rw,Rw];cases e:k==x with
   |true=>exact .inr ⟨f,a,rfl,rfl,e2⟩
   |false=>exact eV.look q
noncomputable def l4 (fs:List (Str×Nat))(i:GE):GE:=λZ M=>(i Z M).bind λd M=>match d with
 |.str k=>cu M ((fs.lookup k).map D.fn)
 |_=>.bad
noncomputable def i7 (fs:List (Str×Nat))(i:GE):GE:=λZ M=>(i Z M).bind λd M=>match d with
 |.str k=>.ok (.bl (!(fs.lookup k).isSome)) M
 |_=>.bad
section
variable{fa:Fa}{X:Cx}{a b:Expr}{ga gb:GE}{pos p:Pos}{ad:Addr}{kvs:List (Str×Addr)}{fs:List (Str×Nat)}{x:Str}
def Du (hd:fW X.K X.w.params ad kvs):kj X (λx y H Q=>∃k v,x=.ref ad/\y=.str k/\kvs.lookup k=some v/\Q (.ref v) H):=by
 intro value slice pins s σ H x y v u Q I rx ry h hs;obtain⟨k,c,rfl,rfl,hk,q⟩:=h;cases rx;obtain⟨t,rfl⟩:=ry;have dd:=uO I hd;have hT:s.TypeIs (.ref ad) "dict":=let{o,_,_,ho,{hc,_},_}:=dd;⟨o,ho,hc⟩
 refine tail_any hT PySem.F.slot_dict_getitem.lookup (wpAny_getItem_of (k:=(Sum.inr k:Key)) (j7 k t) dd.mapOf (v:=.ref c) ?_ ?_) hs
 ·rw[A7,hk];rfl
 ·exact{.ref c,H,I.tok _,rfl,q}
def uq (hd:fW X.K X.w.params ad kvs):bU X (compareOp .NotIn) (λx y H Q=>∃k,x=.str k/\y=.ref ad/\Q (.bl (!(kvs.lookup k).isSome)) H):=by
 intro pins s σ H x y v u Q I rx ry h;obtain⟨k,rfl,rfl,q⟩:=h;obtain⟨t,rfl⟩:=rx;cases ry;have dd:=uO I hd;refine wpAny_notIn_of (k:=(Sum.inr k:Key)) (j7 k t) hd.ns dd.mapOf ?_;rw[A7,R9];exact{.bl _,H,I.tok _,rfl,q}
def JF (hd:fW X.K X.w.params ad kvs)(ho:eV fa kvs fs)(hg:Gl X x)(hm:X.mg x=some (.ref ad))(hdb:(x==("__debug__":Str))=false)(hb:DE fa X b gb)(hs:ju b):DE fa X (.Subscript (.Name x p) b pos) (l4 fs gb):=
 bO (yh (Du hd) (kS (v:=.ref ad) hg hm rfl hdb) hb hs) λσ H Q ⟨μ,Z,M,hE,hM,h⟩=>t1 hE hM h λd M1 v H1 μ1 x1 hE1 hM1 r1 h1=>by
  cases d with
  | str k =>
    obtain⟨d,e,q⟩:=kU h1;rcases ho.look with⟨e1,_⟩|⟨f,c,e1,e2,e3⟩
    ·rw[e1] at e;cases e
    ·rw[e1] at e;cases e;exact{k,c,rfl,r1,e2,q (.ref c) H1 μ1 x1 hM1 {c,rfl,.inl e3}}
  |_=>exact h1.elim
def C4 {d:D}{P:D->Mem->Prop}(h:ae (match d with|.str k=>Res.ok (.bl (!(fs.lookup k).isSome)) M1|_=>.bad) P):∃k,d=.str k/\P (.bl (!(fs.lookup k).isSome)) M1:=by
 cases d with
 |str k=>exact⟨k,rfl,h⟩
 |_=>exact h.elim
def DK (ho:eV fa kvs fs)(k:Str):(kvs.lookup k).isSome=(fs.lookup k).isSome:=by
 rcases ho.look with⟨e1,e2⟩|⟨f,c,e1,e2,_⟩<;>rw[e1,e2]<;>rfl
def Bo (ho:eV fa kvs fs)(σ:L2.St)(H:Hp)(Q:VK)(h:tE fa X.K (i7 fs ga) σ H Q):zZ (λx y H Q=>∃k,x=.str k/\y=.ref ad/\Q (.bl (!(kvs.lookup k).isSome)) H) (tE fa X.K ga) (tC (.ref ad)) σ H Q:=by
 obtain⟨μ,Z,M,hE,hM,h⟩:=h;refine t1 hE hM h λd M1 v H1 μ1 x1 hE1 hM1 r1 h1=>?_;obtain⟨k,rfl,q⟩:=C4 h1;refine{k,r1,rfl,?_};rw[DK ho];exact q (.bl _) H1 μ1 x1 hM1 rfl
def JE (hd:fW X.K X.w.params ad kvs)(ho:eV fa kvs fs)(hg:Gl X x)(hm:X.mg x=some (.ref ad))(hdb:(x==("__debug__":Str))=false)(ha:DE fa X a ga)(hmk:behindInMarks .NotIn (.Name x p)=false):DE fa X (.Compare a [.NotIn] [.Name x p] pos) (i7 fs ga):=
 bO (qP (uq hd) ha (kS (v:=.ref ad) hg hm rfl hdb) hmk) λσ H Q h=>Bo ho σ H Q h
def JN (hd:fW X.K X.w.params ad kvs)(ho:eV fa kvs fs)(hg:Gl X x)(hm:X.mg x=some (.ref ad))(hdb:(x==("__debug__":Str))=false)(ha:DE fa X a ga)(hmk:behindInMarks .NotIn (.Name x p)=false):DT fa X (.Compare a [.NotIn] [.Name x p] pos) (aj (i7 fs ga)):=
 kM (qL (uq hd) ha (kS (v:=.ref ad) hg hm rfl hdb) hmk) λσ H Q h=>by
  refine Bo ho σ H _ ?_;obtain⟨μ,Z,M,hE,hM,h⟩:=h;obtain⟨z,M3,e,q⟩:=aL h;refine{μ,Z,M,hE,hM,?_};rw[e];have hz:∃k,z=.bl k:=by
   obtain⟨d,M1,e1,e2⟩:=fj e;cases d<;>first|(cases e2;exact{_,rfl})|cases e2
  obtain⟨k,rfl⟩:=hz;intro v H' μ' x' m' r';obtain rfl:v=.bl k:=r';exact{k,rfl,q H' μ' x' m'}
noncomputable def mX (m:Bool)(a:GE):GE:=λZ M=>(a Z M).bind λx M=>match x with
 |.int n=>if -(2^62)<=n/\n<2^20 then ba m ((List.range n.toNat).map λ(k:Nat)=>D.int (k:Int)) M else .bad
 |_=>.bad
def yH:∀(n:Nat) (its:List Qi),its.length=n->(∀(i:Nat) (v:Qi),its[i]?=some v->∃t,v=.int (i:Int) t)->Vals ((List.range n).map λ(k:Nat)=>V.int (k:Int)) its:=by
 intro n its hl h;have key:∀(k:Nat) (its:List Qi),(∀(i:Nat) (v:Qi),its[i]?=some v->∃t,v=.int ((k+i:Nat):Int) t)->Vals ((List.range its.length).map λj=>V.int ((k+j:Nat):Int)) its:=by
  intro k its;induction its generalizing k with
  |nil=>intro _;exact .nil
  | cons v r ih =>
    intro h;rw[RL,List.range_succ_eq_map,RI,Rk];refine .cons (h 0 v rfl) ?_;have:=ih (k+1) λi u e=>by
     have:=h (i+1) u (by simpa using e)
     rw[show k+1+i=k+(i+1) by omega];exact this
    refine cast (congrArg (λf=>Vals ((List.range r.length).map f) r) ?_) this
    funext j
    congr 2
    omega
 have:=key 0 its λi v e=>by rw[Nat.zero_add];exact h i v e
 rw[hl] at this;simpa using this
def GU (m:Bool)(hc:X.calm=true)(ha:DE fa X a ga)(hgl:Gl X "list")(hml:X.mg "list"=none)(hg:Gl X "range")(hm:X.mg "range"=none)(hs:starEach [a] X.env=[(false,eval a X.env)])
 (hs2:starEach [.Call (.Name "range" p2) [a] [] pos2] X.env=[(false,eval (.Call (.Name "range" p2) [a] [] pos2) X.env)]) :
 DE fa X (.Call (.Name "list" p1) [.Call (.Name "range" p2) [a] [] pos2] [] pos) (mX m ga):=by
 intro pins s σ H Q I ⟨μ,Z,M,hE,hM,h⟩;obtain⟨x,M1,e,q⟩:=aL h;have key:∀n,x=.int n->ae (if -(2^62)<=n/\n<2^20 then ba m ((List.range n.toNat).map λ(k:Nat)=>D.int (k:Int)) M1 else .bad) (a8 fa X.K μ H Q)->
  wpAny (model X.prog X.w) X.A (eval (.Call (.Name "list" p1) [.Call (.Name "range" p2) [a] [] pos2] [] pos) X.env) (EP X pins σ Q) X.xe s:=λn en q'=>by
  subst en;by_cases c:-(2^62)<=n/\n<2^20
  ·rw[if_pos c] at q';refine Call_ (hJ I hgl hml (by decide +kernel:bootBuiltins "list"=some (.type "list")) (RY ?_ hs2 rfl))
   rw[hs2];refine Calls.spliced_cons ?_;refine Call_ (hJ I hg hm boot_range (RY (aT (c7 ha eI hs pos2 pins s σ H (λvs H1=>∃μ1,vs=[.int n]/\Ext μ H μ1 H1/\RelM fa X.K μ1 H1 M1) I {μ,Z,M,hE,hM,?_}) λus s1 ⟨vs,H1,I1,r1,μ1,ev,x1,m1⟩=>?_) hs rfl))
   ·rw[e];intro v H1 μ1 x1 m1 r1;obtain rfl:v=.int n:=r1;exact⟨μ1,rfl,x1,m1⟩
   subst ev;cases r1 with
   | cons r rr =>
     cases rr;obtain⟨t,rfl⟩:=r;refine call_range_1 ?_;refine Calls.spliced_nil ?_;refine call_list_range (n:=n.toNat) (I.ok.hd hc) (IsRange.new ..) (small_one `a `a `a `a) (by rw[rangeSize_one];split<;>omega) `a λh' tk acc' c' kp eS its=>?_
     obtain⟨hsz,hit⟩:=its;have I2:Inv X pins σ H1 {s1 with heap:=s1.heap.push {cls:=.type "range",data:=.fields #[.int 0 s1.toks,.int n t,.int 1 (s1.toks+1)]},toks:=s1.toks+1+1}:=I1.kept λb o e=>Qk _ e
     have hv:=yH n.toNat acc'.toList (by simpa using hsz) λi v e=>by
      obtain⟨u,z⟩:=hit i v (by simpa using e)
      exact{u,by rw[z];simp}
     have rl:aK fa X.K μ1 H1 ((List.range n.toNat).map λ(k:Nat)=>D.int (k:Int)) ((List.range n.toNat).map λ(k:Nat)=>V.int (k:Int)):=by
      have:=aK.ints (fa:=fa) (K:=X.K) (μ:=μ1) (H:=H1) ((List.range n.toNat).map λ(k:Nat)=>(k:Int));simpa[Rk,Function.comp_def] using this
     obtain⟨c1,k1⟩:=fF m1 rl (kT q' x1);refine{.ref _,_,I2.laid (o:=.lst ((List.range n.toNat).map λ(k:Nat)=>V.int (k:Int))) kp (Ql _) {?_,acc'.toList,c',hv,by simpa using eS},rfl,k1 _ (I2.hok.fresh (Ql _))}
     rw[rl.length,<- dR];exact c1
  ·rw[if_neg c] at q';exact q'.elim
 cases x with
 |int n=>exact key n rfl q
 |_=>exact q.elim
end
noncomputable def rC (bn N:List Str)(sc scope:Scope):Bool:=
 scope.names.all (λy=>(y.2 != .cell||scope.names.lookup y.1==some .cell)&&(y.2 != .local||scope.names.lookup y.1==some .local)&&(y.2 != .free||sc.names.lookup y.1==some .cell||sc.names.lookup y.1==some .free)) &&
 bn.length==N.length&&(bn.zip N).all λp=>(p.1==p.2&&(scope.names.lookup p.2 != some .local&&scope.names.lookup p.2 != some .cell))||scope.names.lookup p.1==none
def qa {α β:Type}{R:α->β->Prop}:∀{l:List α}{r:List β},l.length=r.length->(∀p∈l.zip r,R p.1 p.2)->R5 R l r
 |[],[],_,_=>.nil
 |a::l,b::r,h,g=>.cons (g (a,b) QK) (qa (by simpa using h) λp hp=>g p (Qz _ hp))
 |[],_::_,h,_=>by cases h
 |_::_,[],h,_=>by cases h
def BC (hk:scope.kind=.function)(hs:X.env.scope=sc)(hN:X.N=N)(h:rC bn N sc scope=true):fM X own bn scope:=by
 unfold rC at h;rw[Qr,Qr,QB,QB] at h;obtain⟨⟨h1,hl⟩,h2⟩:=h;refine{hk,λy hy e=>?_,λy hy e=>?_,λy hy e=>?_,?_}
 ·have:=h1 y hy;rw[e] at this;simpa using this
 ·have:=h1 y hy;simp only[Qr] at this;rw[e] at this;simpa using this
 ·have:=h1 y hy;simp only[Qr] at this;rw[e] at this;show X.env.scope.names.lookup y.1=_\/X.env.scope.names.lookup y.1=_;rw[hs];simpa using this
 ·rw[hN];refine qa (by simpa using hl) λp hp=>?_
  have:=h2 p hp;simp only[Sn,Qr,beq_iff_eq,bne_iff_ne] at this;exact this
section
variable{fa:Fa}{X:Cx}{elt tg iter c t2 i2:Expr}{scope:Scope}{pos:Pos}{own bn:List Str}{t u:fY}{gw gw2:GW}{ge:GE}{gc:GT}
def lI {l:List Nat}(h:l.all (· < n)=true):∀i∈l,i<n:=λi hi=>by
 have:=QB.mp h i hi;simpa using this
def Ao {l W:List Nat}(h:W.all (λi=>!l.contains i)=true):∀i∈W,i∉l:=λi hi z=>by
 have:=QB.mp h i hi;simp[z] at this
variable{i:Nat}{y:Str}{py spos:Pos}
def GV {i:Int}(hg:Gl X x)(hm:∃t,X.mg x=some (.int i t))(hd:(x==("__debug__":Str))=false):DE fa X (.Name x pos) (gC (.int i)):=let{_,h}:=hm;JD hg h hd
def GZ (h:∃ad kvs,X.mg x=some (.ref ad)/\fW X.K X.w.params ad kvs/\eV fa kvs fs)(hg:Gl X x)(hdb:(x==("__debug__":Str))=false)(hb:DE fa X b gb)(hs:ju b):DE fa X (.Subscript (.Name x p) b pos) (l4 fs gb):=
 let{_,_,h1,h2,h3}:=h;JF h2 h3 hg h1 hdb hb hs
def GX (h:∃ad kvs,X.mg x=some (.ref ad)/\fW X.K X.w.params ad kvs/\eV fa kvs fs)(hg:Gl X x)(hdb:(x==("__debug__":Str))=false)(ha:DE fa X a ga)(hmk:behindInMarks .NotIn (.Name x p)=false):DE fa X (.Compare a [.NotIn] [.Name x p] pos) (i7 fs ga):=
 let{_,_,h1,h2,h3}:=h;JE h2 h3 hg h1 hdb ha hmk
def G2 (h:∃ad kvs,X.mg x=some (.ref ad)/\fW X.K X.w.params ad kvs/\eV fa kvs fs)(hg:Gl X x)(hdb:(x==("__debug__":Str))=false)(ha:DE fa X a ga)(hmk:behindInMarks .NotIn (.Name x p)=false):DT fa X (.Compare a [.NotIn] [.Name x p] pos) (aj (i7 fs ga)):=
 let{_,_,h1,h2,h3}:=h;JN h2 h3 hg h1 hdb ha hmk
def GR (h:dH (n+4) X.A):Rm X:=by have:=h.un;show X.A.units+100<cLine;omega
end
def i8 {α β:Type}{f g:α->Option β}:∀{l:List α},(∀x∈l,f x=g x)->l.filterMap f=l.filterMap g
 |[],_=>rfl
 | a :: l, h => by
   rw[SI,SI,h a QK,i8 λx hx=>h x (Qz _ hx)]
def r6 (n:Nat)(xs:List Qi)(h:xs.length=n):(List.range n).filterMap (λ(k:Nat)=>xs[n-1-k]?)=xs.reverse:=by
 have e:∀k∈List.range n,xs[n-1-k]?=some (xs.reverse.getD k .none):=λk hk=>by
  have hk:=RP.mp hk;rw[Rj,List.getElem?_reverse `a,h,Qq `a]
  simp
 have:(List.range n).filterMap (λk=>xs[n-1-k]?)=(List.range n).map λk=>xs.reverse.getD k .none:=by
  rw[i8 e];simp
 rw[this];refine List.ext_getElem? λi=>?_;rw[QC];by_cases hi:i<n
 ·rw[SH hi];show some (xs.reverse.getD i .none)=_;rw[Rj,Qq (show i<xs.reverse.length by simp;omega)]
  simp
 ·rw[Sy `o,Sy `o]
  rfl
def sW (its:List Qi):slicePick its.toArray none none (some (-1))=its.reverse.toArray:=by
 unfold slicePick sliceBounds sliceRange;simp only[Option.getD_some,Qy];have e1:¬ ((-1:Int) > 0):=`d
 simp only[e1,if_false];have e2:(if (its.length:Int)-1 > -1 then((its.length:Int)-1 - -1 - -1-1) / (- -1) else 0).toNat=its.length:=by
  split
  ·simp
  ·omega
 rw[e2,List.filterMap_map,<- r6 its.length its rfl]
 congr 1
 refine i8 λk hk=>?_;have e3:((its.length:Int)-1+-1*(k:Int)).toNat=its.length-1-k:=`a
 show its.toArray[((its.length:Int)-1+-1*(k:Int)).toNat]?=_;rw[e3];simp
section
variable{prog:Ra}{w:Rb}{A:RR}{E:Qi->Qm->Prop}{s:Qm}
def oF (ht:IsTup s.heap t items)(hs:s.heap.IsSliceOf sl .none .none (.int (-1) k))
 (h:Q (.ref s.heap.objs.size) {s with heap:=s.heap.push {cls:=.type "tuple",data:=.seq items.toList.reverse.toArray}})
 (hsz:items.size<=sizeLine):wpAny (model prog w) A (getItem (.ref t) (.ref sl)) Q E s:=by
 have htake:sizeOk (.seq items.toList.reverse.toArray):=by
  show items.toList.reverse.toArray.size<=sizeLine;simpa using hsz
 obtain⟨os,hos,hcs,hds⟩:=id hs;have hTs:s.TypeIs (.ref sl) "slice":=⟨os,hos,hcs⟩;unfold getItem;try with_reducible refine tqo ?_
 first|refine tqa (tqb ?_)|skip
 refine tqa (wpAny_sequenceKey ht.typeIs `d ?_)
 refine tqa (wpAny_callSpecial?_slot ht.typeIs Rn
  (wpAny_call_entry Rn ht.typeIs entry_tuple_getitem ?_ (args_tuple_getitem _ _)))
 show wpAny _ _ (Builtin.Tuple.tupleItemsOf (.ref t) >>= _) _ _ s;refine tqa (tupleItemsOf_ ht ?_);refine tqa (wpAny_typeOf hTs ?_);rw[if_pos `d]
 refine tqa (tqa (tqa (tqf hos hds rfl (tqa (tqf hos hds rfl (tqa (tqf hos hds rfl (tqb ?_))))))));refine tqa (slicePart_int ?_);rw[if_neg `d]
 refine tqa (slicePart_none (tqa (slicePart_none (tqa (tqb ?_)))));have ea:Builtin.Slice.sliceAdjust none none (-1) (items.size:Int)=((items.size:Int)-1,-1):=by simp[Builtin.Slice.sliceAdjust]
 have ep:Builtin.Slice.slicePlaces ((items.size:Int)-1) (-1) (-1)=items.size:=by
  unfold Builtin.Slice.slicePlaces;rw[if_neg `d]
  split
  ·simp
  ·omega
 show wpAny _ _ (match Builtin.Slice.sliceAdjust none none (-1) (items.size:Int) with|(lo,hi)=>pure (lo,(-1:Int),Builtin.Slice.slicePlaces lo hi (-1))) _ _ s
 rw[ea];show wpAny _ _ (pure ((items.size:Int)-1,(-1:Int),Builtin.Slice.slicePlaces ((items.size:Int)-1) (-1) (-1))) _ _ s;rw[ep];refine tqb ?_;have hno:¬ ((((items.size:Int)-1)==0&&(-1:Int)==1&&items.size==items.size)=true):=`s
 show wpAny _ _ (if (((items.size:Int)-1)==0&&(-1:Int)==1&&items.size==items.size)=true then _ else _) _ _ s;rw[if_neg hno];have pick:((List.range items.size).filterMap λ(m:Nat)=>items[(((items.size:Int)-1)+(m:Int) * -1).toNat]?).toArray=items.toList.reverse.toArray:=by
  rw[<- r6 items.size items.toList `s]
  congr 1
  refine i8 λm hm=>?_;have e3:((items.size:Int)-1+(m:Int) * -1).toNat=items.size-1-m:=`a
  rw[e3];simp
 rw[pick];first
  |exact tqa (wpAny_newObj_type (tqb {_,rfl,tqb h}) htake)
  |exact tqa (wpAny_newObj_type (tqa (tqb (tqb {_,rfl,tqb h}))) htake)
  |exact tqa (tqa (wpAny_newObj_type (tqb (tqb {_,rfl,tqb h})) htake))
  |exact tqa (tqa (wpAny_newObj_type (tqb {_,rfl,tqb h}) htake))
end
section
variable{fa:Fa}{X:Cx}{a st:Expr}{ga:GE}{pos p2:Pos}
noncomputable def yd (m:Bool)(x:D)(M:Mem):Res D:=match x with
 |.tup xs=>.ok (.tup xs.reverse) M
 | x => match fo M x with
   |some xs=>ba m xs.reverse M
   |none=>.bad
noncomputable def mW (m:Bool)(a:GE):GE:=λZ M=>(a Z M).bind λx M=>yd m x M
noncomputable def JI (K:Qh):V->Hp->VK->Prop:=λx H Q=>∃a xs,x=.ref a/\((cW K H a xs/\∀p,H p=none->Q (.ref p) (upd H p (.lst xs.reverse)))\/(dQ K H a xs/\∀p,H p=none->Q (.ref p) (upd H p (.tup xs.reverse))))
def oS:∀{xs:List V}{us:List Qi},Vals xs us->Vals xs.reverse us.reverse
 |_,_,.nil=>.nil
 | _, _, .cons p r => by
   rw[List.reverse_cons,List.reverse_cons];exact(oS r).append (.cons p .nil)
def J0 (ha:PE X a ta)(hst:PE X st ts) :
 PE X (.Subscript a (.Slice none none (some st) p2) pos) (λσ H Q=>ta σ H λx H1=>ts σ H1 λy H2=>y=.int (-1)/\JI X.K x H2 Q):=by
 intro pins s σ H Q I h;refine Subscript_ (aT (ha pins s σ H _ I h) λv s1 ⟨x,H1,I1,r1,q1⟩=>?_);refine wpAny_Slice ?_;rw[evalPart_none];refine tqb ?_;refine tqb ?_;rw[evalPart_some];refine aT (hst pins s1 σ H1 _ I1 q1) λvu s3 ⟨y,H3,I3,r3,ey,q3⟩=>?_;subst ey;obtain⟨k,rfl⟩:=r3;have I4:Inv X pins σ H3 {s3 with heap:=s3.heap.push {cls:=.type "slice",data:=.fields #[.none,.none,.int (-1) k]}}:=I3.kept λb ob q=>Qk _ q
 have hsl:(s3.heap.push {cls:=.type "slice",data:=.fields #[.none,.none,.int (-1) k]}).IsSliceOf s3.heap.objs.size .none .none (.int (-1) k):=Heap.IsSliceOf.new ..;obtain⟨b,xs,rfl,q⟩:=q3;cases r1;have key:∃T id,typeLookup (.type T) "__getitem__"=pure (some (.builtin id))/\Shared.TypeIs {s3 with heap:=s3.heap.push {cls:=.type "slice",data:=.fields #[.none,.none,.int (-1) k]}} (.ref b) T/\wpAny (model X.prog X.w) X.A (getItem (.ref b) (.ref s3.heap.objs.size)) (EP X pins σ Q) X.xe {s3 with heap:=s3.heap.push {cls:=.type "slice",data:=.fields #[.none,.none,.int (-1) k]}}:=by
  rcases q with⟨hx,q⟩|⟨hx,q⟩
  ·obtain⟨its,r,ht,hz⟩:=I4.list hx;have hlen:=r.length;refine{"list",_,slot_list_getitem.lookup,ht.isList.typeIs,?_};refine wpAny_getItem_list_slice ht.isList hsl .none .none (.int (-1) k) `d ?_ (by rw[Qy]<;>omega)
   rw[sW];refine{.ref _,_,I4.laid (λb ob q=>Qk _ q) (Ql _) ?_,rfl,q _ (I4.hok.fresh (Ql _))};exact{by simpa using hz,_,0,oS r,QG _ rfl}
  ·obtain⟨its,r,ht,hz⟩:=I4.tuple hx;have hlen:=r.length;refine{"tuple",_,Rn.lookup,ht.typeIs,?_};refine oF ht hsl ?_ (by rw[Qy,<- hlen];exact hz)
   refine{.ref _,_,I4.laid (λb ob q=>Qk _ q) (Ql _) ?_,rfl,q _ (I4.hok.fresh (Ql _))};exact{by simpa using hz,_,oS r,IsTup.new _ _}
 obtain⟨T,id,hT,ht,hg⟩:=key;exact tail_any ht hT hg (by with_unfolding_all rfl)
def MD (m:Bool)(ha:DE fa X a ga):DE fa X (.Subscript a (.Slice none none (some (.UnaryOp .USub (.Constant (.int 1) k pc) pu)) p2) pos) (mW m ga):=
 bO (J0 ha (EM zF AK)) λσ H Q ⟨μ,Z,M,hE,hM,h⟩=>t1 hE hM h λx M1 v H1 μ1 x1 hE1 hM1 r1 h1=>by
  refine{1,rfl,rfl,?_};have lst:∀(ds:List D) (b:Addr) (vs:List V),cW X.K H1 b vs->aK fa X.K μ1 H1 ds vs->ae (ba m ds.reverse M1) (a8 fa X.K μ H Q)->JI X.K (.ref b) H1 Q:=λds b vs hs hr h1=>by
   obtain⟨_,q⟩:=fF hM1 hr.reverse (kT h1 x1);exact{b,vs,rfl,.inl ⟨hs,q⟩}
  cases x with
  | tup ds =>
    obtain⟨b,vs,rfl,hs,hr⟩:=r1;exact{b,vs,rfl,.inr {hs,iq hM1 hr.reverse (a8.ext h1 x1)}}
  | lst ds =>
    obtain⟨b,vs,rfl,hs,hr⟩:=r1;exact lst ds b vs (cW.of hs.1) hr h1
  | frz ds =>
    obtain⟨b,vs,rfl,hs,hr⟩:=r1;exact lst ds b vs (hs.elim (λ⟨o,z⟩=>.inl (.inr ⟨o,z⟩)) .inr) hr h1
  | cell k =>
    obtain⟨b,rfl,hk⟩:=r1;obtain⟨ds,vs,e,hH,hr⟩:=hM1.mu_lt hk;have h1:ae (match M1[k]? with|some xs=>ba m xs.reverse M1|none=>.bad) (a8 fa X.K μ H Q):=h1
    rw[e] at h1;exact lst ds b vs (cW.of hH) hr h1
  |_=>exact h1.elim
end
def mm {fa:Fa}{mg:Str->Option Qi}(e:fa i=some f)(m:mg x=some (.ref f)):∀ad,fa i=some ad->mg x=some (.ref ad):=λad h=>by rw[e] at h;cases h;exact m
def N2 {α:Type}{p:List α->Prop}(h:∀a,p [a])(us:List α)(hl:us.length=1):p us:=by
 obtain⟨a,rfl⟩:=List.length_eq_one_iff.mp hl;exact h a
def N1 {α:Type}{p:List α->Prop}(h:∀a b,p [a,b]):∀(us:List α) (hl:us.length=2),p us
 |[a,b],_=>h a b
def us3 {α:Type}{p:List α->Prop}(h:∀a b c,p [a,b,c]):∀(us:List α) (hl:us.length=3),p us
 |[a,b,c],_=>h a b c
def us4 {α:Type}{p:List α->Prop}(h:∀a b c d,p [a,b,c,d]):∀(us:List α) (hl:us.length=4),p us
 |[a,b,c,d],_=>h a b c d
def Bd:R5 (pQ P) [] []:=.nil
def gL (h:R5 (pQ P) es kvs):R5 (pQ P) ({PyData.keyHash P x,.str x t,.ref a}::es) ((x,a)::kvs):=.cons ⟨t,rfl⟩ h
noncomputable def EE (K:Qh):Sp:=λvs H Q _=>∃(a:Addr) (ns:List Int),vs=[.ref a]/\cW K H a (ns.map V.int)/\zh H/\ns.length<=63/\∀H',Q (.bl true) H'
def KI {K:Qh}{ad:Addr}{st:Stmt}(h:∀f d,Pg f=some d->zo fa P w K mg base f d)
 (hl:∀ns:List Int,ns.length<=63->∃M,ah Pg (n+1) f [.frz (ns.map D.int)] []=.ok (.bl true) M) (e:Pg f=some d) (F:xN K x qual st ad fd) (S:jv N [y] (bq st)) (hs:d.slots=N.length)
 (hbody:∀(call:Call) (n:Nat) (cdv:Qi) (A:RR) (outer:List R3) (s:Qm) (H:Hp) (E:XK),(∀f,ik fa P w K mg base n f (call f))->dH (2*n+5) (A.deeper (envOfC qual (bq st) s.heap.objs.size ad cdv))->
  nJ fa (gH (iX P w) P w K mg base N qual (bq st) ad cdv A outer s H E) (dm st) (d.body call)):mB P w K mg base (iX P w) (2*n+5+1) ad fd [y] (EE K):=by
 have eq:∀ds M,ah Pg (n+1) f ds M=gF (ah Pg n) d ds M:=λds M=>by show(match Pg f with|none=>Res.bad|some d=>gF (ah Pg n) d ds M)=_;rw[e]
 refine xh (xN.toD F) S (λvs H Q E hsp=>?_) λcdv A outer s H vs Q E hr hsp=>{_,hbody (ah Pg n) n cdv A outer s H E (vA h n) hr,?_}
 ·obtain⟨a,ns,rfl,_⟩:=hsp;rfl
 ·obtain⟨a,ns,rfl,hS,hO,hn,q⟩:=hsp;obtain⟨M',e'⟩:=hl ns hn;rw[eq] at e';have rp:aK fa K {λ_=>none,[],λ_=>none} H [.frz (ns.map D.int)] [.ref a]:=by
   refine{.ref a,[],rfl,{a,ns.map V.int,rfl,?_,aK.ints ns},rfl};rcases hS with(z|⟨o,z⟩)|z
   ·rcases hO a with y|⟨o,xs,y⟩
    ·rw[y] at z;cases z
    ·rw[y] at z;cases z
   ·exact .inl ⟨o,z⟩
   ·exact .inr z
  refine sJ (μ:={λ_=>none,[],λ_=>none}) (M:=[]) hs {λk ds z=>by simp at z,λ_ _=>rfl,λ_ _=>rfl,(λ_ _ _ z=>nomatch z),(λ_ _ _ z=>nomatch z),(λ_ _ z=>nomatch z),(λ_ z=>nomatch z)} rp ?_
  rw[e'];intro v H' μ' _ _ r;obtain rfl:v=.bl true:=r;exact q H'
def wU {K:Qh}{ad:Addr}(X:K.In h)(G:h.Ns mainGlobals mg)(a:PySem.W.nsIn K mainGlobals x=some (some (.ref ad)))
 (l:K.lookup ad=some {cls:=.type "dict",data:=.dict es n}) (he:R5 (pQ P) es.toList kvs) (nd:(kvs.map (·.1)).Nodup) (ns:(ad==sysModules)=false) (dk:eV fa kvs fs):∃ad kvs,mg x=some (.ref ad)/\fW K P ad kvs/\eV fa kvs fs:=
 {ad,kvs,R7 X G a,{⟨es,n,l,he⟩,nd,ns},dk}
end LD
namespace LD
open PySem PySem.Spec PySem.Calls PyProof.Rows PySem.W
section
variable{prog:Ra}{w:Rb}{A:RR}{E:Qi->Qm->Prop}{s:Qm}{K:Frag}{x C:Addr}{ox:Obj}{od:Option Obj}{name:Str}
noncomputable def IE (K:Frag)(C:Addr):Bool:=findIn K (.ref C) "__getattribute__"==some (some (.builtin "BaseException.__getattribute__"))&&findIn K (.ref C) "__getattr__"==some none&&mroIn K C (.type "BaseException")==some true&&mroIn K C (.type "object")==some true &&
 findIn K (.ref C) "__class__"==some (some (.builtin "object.__class__"))&&specialIn K (.builtin "object.__class__") "__get__"==some (some (.builtin "getset_descriptor.__get__"))&&takesIn K (.builtin "object.__class__")==some true
end
end LD
namespace LD
open PySem PySem.Spec PyProof.Rows L2
noncomputable def bQ (f:Nat)(c:Call)(s:GA):GE:=λZ M=>match s Z M with
 |.ok ds M=>c f ds M
 |_=>.bad
noncomputable def tM (k:D->Mem->Res Fl)(Z:Env):Res D->Res Fl
 |.ok d M=>k d M
 |.err x M=>.ok (.exc x Z) M
 |.bad=>.bad
noncomputable def iw (a:GE):GS:=λZ M=>tM (λ_ M=>.ok (.next Z) M) Z (a Z M)
noncomputable def d9 (t:fY)(a:GE):GS:=λZ M=>tM (λx M=>(cu M (b6 t x Z)).bind λρ1 M=>.ok (.next ρ1) M) Z (a Z M)
noncomputable def ya (a:GE):GS:=λZ M=>tM (λx M=>.ok (.ret x) M) Z (a Z M)
noncomputable def yJ (t:GT)(a b:GE):GE:=λZ M=>match t Z M with
 |.ok k M=>if k then a Z M else b Z M
 |_=>.bad
noncomputable def gi (c:Nat)(s:GA):GS:=λZ M=>match s Z M with
 |.ok ds M=>if ds.length<=sz then .ok (.exc (.exc c none) Z) M else .bad
 |_=>.bad
noncomputable def N7 (fa:Fa)(X:Cx)(g:GE):TE:=λσ H Q=>∃μ Z M,bz fa X.K μ H σ Z/\RelM fa X.K μ H M/\fX (g Z M) (a8 fa X.K μ H Q) (λx M'=>XW fa X μ H x Z M')
abbrev DX (fa:Fa)(X:Cx)(e:Expr)(g:GE):Prop:=PE X e (N7 fa X g)
section
variable{fa:Fa}{X:Cx}{a b:Expr}{ga gb:GE}{ta:GT}{pos p:Pos}{es:List Expr}{gs:GA}{n:Nat}
def x_call (f:Nat){call:Call}(C:∀f,ik fa X.prog X.w X.K X.mg X.base n f (call f))(hr:dH (2*n+4) X.A)(hex:X.ex=[])(hg:Gl X x)(hm:∀ad,fa f=some ad->X.mg x=some (.ref ad))(hs:DA fa X (a::es) gs)
 (hdb:(x==("__debug__":Str))=false) (he:notStar a=true) (hpl:es.all notStar=true):DX fa X (.Call (.Name x p) (a::es) [] pos) (bQ f call gs):=by
 intro pins s σ H Q I ⟨μ,Z,M,hE,hM,h⟩;unfold bQ at h;cases eg:gs Z M with
 |err=>rw[eg] at h;exact h.elim
 |bad=>rw[eg] at h;exact h.elim
 | ok ds M1 =>
   rw[eg] at h;have h:fX (call f ds M1) (a8 fa X.K μ H Q) (λx M'=>XW fa X μ H x Z M'):=h;rcases C f with hb|⟨ad,fd,ps,h1,h2,h3,h4,F,_⟩
   ·rw[hb] at h;exact h.elim
   ·have hl:ds.length=ps.length:=by
     by_cases hl:ds.length=ps.length
     ·exact hl
     ·rw[h4 ds M1 hl] at h;exact h.elim
    refine wpAny_Call_Name_kw (lg I hg (hm ad h1) ?_ hdb);refine PySem.W.callWith_K I.ok.mod.kin h2 (aT (hs pos pins s σ H (λvs H1=>∃μ1,Ext μ H μ1 H1/\RelM fa X.K μ1 H1 M1/\aK fa X.K μ1 H1 ds vs) I {μ,Z,M,hE,hM,by rw[eg];exact λvs H1 μ1 x1 m1 r1=>⟨μ1,x1,m1,r1⟩}) λus s1 ⟨vs,H1,I1,r,μ1,x1,m1,r1⟩=>{I1.kIn,?_}) (bA he) (eM hpl)
    have hsp:EF fa X.K ps.length (call f) vs H1 Q λCv dx H'=>∃y M' μ' C' c p,Cv=.ref C'/\Ext μ1 H1 μ' H'/\RelM fa X.K μ' H' M'/\y=.exc c p/\fa (gp c)=some C'/\vQ H' c dx p/\XW fa X μ H y Z M':=by
     refine{by rw[r1.length];exact hl,μ1,M1,ds,m1,r1,?_}
     cases ec:call f ds M1 with
     |ok d M2=>rw[ec] at h;exact a8.ext h x1
     |err y M2=>rw[ec] at h;exact λC dx c p H' μ' y' m ex hc hn=>{_,M2,μ',C,c,p,rfl,y',m,ex,hc,hn,h}
     |bad=>rw[ec] at h;exact h.elim
    have hl2:us.length=ps.length:=by rw[<- r.length,r1.length];exact hl
    have hb:=h3 s1 us I1.kIn (by simpa using hl2)
    rw[Ri] at hb;refine wpAny_call (codeAny_mono (F.run X.A X.stack s1 H1 {us,[]} us vs Q _ hr I1.env0 hb r hsp) λr' s' hq=>?_);cases r' with
    | error e =>
      unfold CR at hq;obtain⟨a',C',dx,H',rfl,I',fl,y,M',μ',C2,c,p,ec,ye,m',ey,hc,hn,hw⟩:=sk I1 hex hq;cases ec;exact hw pins σ H' μ' s' a' C' dx c p I' (x1.trans ye) ((hE.ext x1).ext ye) m' ey hc hn fl
    | ok fl =>
      cases fl with
      |ret u=>exact I1.after hq
      |next=>exact False.elim hq
      |brk=>exact False.elim hq
      |cont=>exact False.elim hq
def FW (f:Nat){call:Call}(C:∀f,ik fa X.prog X.w X.K X.mg X.base n f (call f))(hr:dH (2*n+4) X.A)(hex:X.ex=[])(hg:Gl X x)(hm:∀ad,fa f=some ad->X.mg x=some (.ref ad))(hdf:(fa (500+f)).isSome=true)(hs:DE fa X a ga)
 (hdb:(x==("__debug__":Str))=false) (he:notStar a=true):DX fa X (.Call (.Name x p) [a] [] pos) (bQ f call (bg ga (bg (gC .non) bj))):=by
 intro pins s σ H Q I ⟨μ,Z,M,hE,hM,h⟩;unfold bQ at h;cases eg:ga Z M with
 |err=>unfold bg at h;rw[eg] at h;exact h.elim
 |bad=>unfold bg at h;rw[eg] at h;exact h.elim
 | ok d0 M1 =>
   unfold bg at h;rw[eg] at h;have h:fX (call f [d0,.non] M1) (a8 fa X.K μ H Q) (λx M'=>XW fa X μ H x Z M'):=h;rcases C f with hb|⟨ad,fd,ps,h1,h2,h3,h4,F,hbd⟩
   ·rw[hb] at h;exact h.elim
   ·have hl:2=ps.length:=by
     by_cases hl:2=ps.length
     ·exact hl
     ·rw[h4 [d0,.non] M1 hl] at h;exact h.elim
    refine wpAny_Call_Name_kw (lg I hg (hm ad h1) ?_ hdb);refine PySem.W.callWith_K I.ok.mod.kin h2 (aT (c7 hs eI (bA he) pos pins s σ H (λvs H1=>∃v μ1,vs=[v]/\Ext μ H μ1 H1/\RelM fa X.K μ1 H1 M1/\Rep fa X.K μ1 H1 d0 v) I {μ,Z,M,hE,hM,by rw[eg];exact λv H1 μ1 x1 m1 r1=>⟨v,μ1,rfl,x1,m1,r1⟩}) λus s1 ⟨vs,H1,I1,r,v0,μ1,ev,x1,m1,r0⟩=>{I1.kIn,?_}) (bA he) (eM rfl)
    subst ev;have r1:aK fa X.K μ1 H1 [d0,.non] [v0,.non]:={v0,[.non],rfl,r0,.non,[],rfl,rfl,rfl};have hsp:EF fa X.K ps.length (call f) [v0,.non] H1 Q λCv dx H'=>∃y M' μ' C' c p,Cv=.ref C'/\Ext μ1 H1 μ' H'/\RelM fa X.K μ' H' M'/\y=.exc c p/\fa (gp c)=some C'/\vQ H' c dx p/\XW fa X μ H y Z M':=by
     refine{hl,μ1,M1,[d0,.non],m1,r1,?_};cases ec:call f [d0,.non] M1 with
     |ok d M2=>rw[ec] at h;exact a8.ext h x1
     |err y M2=>rw[ec] at h;exact λC dx c p H' μ' y' m ex hc hn=>{_,M2,μ',C,c,p,rfl,y',m,ex,hc,hn,h}
     |bad=>rw[ec] at h;exact h.elim
    have hl2:=r.length.symm;have hb:=hbd hdf s1 us I1.kIn (by rw[QO,hl2];exact hl)
    obtain⟨u0,rfl⟩:∃u0,us=[u0]:=List.length_eq_one_iff.mp hl2;have r2:Vals [v0,.non] [u0,.none]:=by cases r with|cons a _=>exact .cons a (.cons rfl .nil)
    refine wpAny_call (codeAny_mono (F.run X.A X.stack s1 H1 {[u0],[]} [u0,.none] [v0,.non] Q _ hr I1.env0 hb r2 hsp) λr' s' hq=>?_);cases r' with
    | error e =>
      unfold CR at hq;obtain⟨a',C',dx,H',rfl,I',fl,y,M',μ',C2,c,p,ec,ye,m',ey,hc,hn,hw⟩:=sk I1 hex hq;cases ec;exact hw pins σ H' μ' s' a' C' dx c p I' (x1.trans ye) ((hE.ext x1).ext ye) m' ey hc hn fl
    | ok fl =>
      cases fl with
      |ret u=>exact I1.after hq
      |next=>exact False.elim hq
      |brk=>exact False.elim hq
      |cont=>exact False.elim hq
def Mn (hc:DT fa X c ta)(ha:DX fa X a ga)(hb:DX fa X b gb):DX fa X (.IfExp c a b pos) (yJ ta ga gb):=
 bO (um hc ha hb) λσ H Q ⟨μ,Z,M,hE,hM,h⟩=>by
  unfold yJ at h;cases et:ta Z M with
  |err=>rw[et] at h;exact h.elim
  |bad=>rw[et] at h;exact h.elim
  | ok k M1 =>
    rw[et] at h;refine{μ,Z,M,hE,hM,?_};rw[et];intro H1 μ1 x1 m1;have go:∀g:GE,fX (g Z M1) (a8 fa X.K μ H Q) (λx M'=>XW fa X μ H x Z M')->N7 fa X g σ H1 Q:=λg q=>by
     refine{μ1,Z,M1,hE.ext x1,m1,?_};cases e:g Z M1 with
     |ok d M2=>rw[e] at q;exact a8.ext q x1
     |err y M2=>rw[e] at q;exact XW.ext q x1
     |bad=>rw[e] at q;exact q
    cases k with
    |true=>exact go ga h
    |false=>exact go gb h
def MA (ha:DX fa X a ga)(hs:swapsWith a none pos.line X.env=pure false):DS fa X (.Expr a pos) (iw ga):=
 dO (kQ ha hs) λD' σ H ⟨μ,Z,M,hE,hM,h⟩=>{μ,Z,M,hE,hM,by
  unfold iw at h;cases e:ga Z M with
  |ok d M1=>rw[e] at h;exact λv H1 μ1 x1 m1 r1=>h σ H1 μ1 x1 (hE.ext x1) m1
  |err x M1=>rw[e] at h;exact h
  |bad=>rw[e] at h;exact h.elim}
def Jv (ha:DX fa X a ga)(hg:PG X tg (gT fa X.K t))(hs:swapsWithSole [tg] a pos.line X.env=pure false)(hw:swappedStores [tg] a X.env=pure none)(h1:(assignEach [tg] X.env).map (·.2)=[assign tg X.env]) :
 DS fa X (.Assign [tg] a pos) (d9 t ga):=
 dO (p6 ha hg hs hw h1) λD σ H ⟨μ,Z,M,hE,hM,h⟩=>{μ,Z,M,hE,hM,by
  unfold d9 at h;cases e:ga Z M with
  | ok d M1 =>
    rw[e] at h;obtain⟨ρ1,M2,e',q⟩:=aL h;cases eb:b6 t d Z with
    |none=>rw[eb] at e';cases e'
    | some ρ2 =>
      rw[eb] at e';cases e';exact λv H1 μ1 x1 m1 r1=>{μ1,Z,_,d,ρ1,hE.ext x1,m1,r1,eb,λσ1 hE2=>q σ1 H1 μ1 x1 hE2 m1}
  |err x M1=>rw[e] at h;exact h
  |bad=>rw[e] at h;exact h.elim}
def Js (ha:DX fa X a ga):DS fa X (.Return (some a) pos) (ya ga):=
 dO (AB ha) λD' σ H ⟨μ,Z,M,hE,hM,h⟩=>{μ,Z,M,hE,hM,by
  unfold ya at h;cases e:ga Z M with
  |ok d M1=>rw[e] at h;exact h
  |err x M1=>rw[e] at h;exact h
  |bad=>rw[e] at h;exact h.elim}
end
abbrev BG:List Qi:=[.type "ValueError",.type "Exception",.type "BaseException",.type "object"]
noncomputable def Jq (K:Qh)(C:Addr)(f:ClassData->Addr->List Qi->String->Bool):Bool:=match K.lookup C with
 | some {.type "type", _, .cls cd, sl} => (match cd.mro, sl.toList with
   |.ref C'::bm,[_,_,_,_,some (.builtin n),_]=>f cd C' bm n
   |_,_=>false)
 |_=>false
def Jp {K:Qh}(X:K.In h)(q:Jq K C f=true) :
 ∃bm N nm q bs hdct sn sub ab col dd k0 k1 k2 k3 k5 dl n C',f {nm,bs,.ref C'::bm,N,q,hdct,sn,sub,ab,col,dl} C' bm n=true/\h.get? C=some {.type "type",dd,.cls {nm,bs,.ref C'::bm,N,q,hdct,sn,sub,ab,col,dl},#[k0,k1,k2,k3,some (.builtin n),k5]}:=by
 unfold Jq at q;split at q
 ·rename_i dd cd sl ho;split at q
  ·rename_i C' bm k0 k1 k2 k3 n k5 hm hs;obtain⟨nm,bs,mro,ns,qn,hd,sn,sub,ab,col,del⟩:=cd;subst hm;have hsl:sl=#[k0,k1,k2,k3,some (.builtin n),k5]:=by
    obtain⟨l⟩:=sl;simp only at hs;rw[hs]
   subst hsl;exact{_,_,_,_,_,_,_,_,_,_,_,_,_,_,_,_,_,_,_,q,X _ _ ho}
  ·cases q
 ·cases q
def DD {K:Qh}(X:K.In h)(q:PySem.W.excIn K C bmB newId=true) :
 ∃bm N nm q bs hdct sn sub ab col dd k0 k1 k2 k3 k5 mN,h.get? C=some (excClassObj nm q C N bs bm hdct sn sub ab col dd k0 k1 k2 k3 k5 newId)/\h.Ns N mN/\mN "__init__"=none/\OwnTail h bmB bm:=by
 obtain⟨bm,ns,nm,qn,bs,hd,sn,sub,ab,col,dd,k0,k1,k2,k3,k5,dl,n,C',q,ho⟩:=Jp X q;simp only[Qr,beq_iff_eq,SA] at q;obtain⟨⟨⟨⟨⟨rfl,rfl⟩,rfl⟩,ht⟩,hok⟩,hni⟩:=q;exact{bm,ns,nm,qn,bs,hd,sn,sub,ab,col,dd,k0,k1,k2,k3,k5,_,ho,.of_isNs (PySem.W.isNs_of_in X hok),PySem.W.nsMap_none_of_in X hok hni,PySem.W.tail_of_in X ht}
def AQ (x:cX P w H h a o):∃ob,h.get? a=some ob:=by
 cases o with
 |lst xs=>obtain⟨_,_,_,_,e⟩:=x;exact{_,e}
 |tup xs=>obtain⟨_,_,_,ob,e,_⟩:=x;exact{_,e}
 |dK kvs=>obtain⟨_,_,_,_,o,_,_,e,_⟩:=x;exact{_,e}
 |dT kvs=>obtain⟨_,_,_,_,o,_,_,e,_⟩:=x;exact{_,e}
 |set S n=>obtain⟨o,_,_,_,e,_⟩:=x;exact{_,e}
 |ins C dx fs=>obtain⟨_,_,_,e,_⟩:=x;exact{_,e}
 |own y=>exact x
 |xd fs=>obtain⟨_,⟨_,_,_,e,_⟩,_⟩:=x;exact{_,e}
 |rng lo hi=>obtain⟨_,_,_,e⟩:=x;exact{_,e}
 |frz ob u=>obtain⟨e,_⟩:=x;exact{_,e}
 |tbl ps=>exact{_,x}
 |met f y=>exact{_,x}
 |ext φ=>obtain⟨_,e,_⟩:=x;exact e
 |dn es=>obtain⟨_,_,o,e,_⟩:=x;exact⟨o,e⟩
def Dw (I:Inv X pins σ H s)(hex:X.ex=[])(hn:s.heap.get? e=none):zi X e/\H e=none:=by
 refine{{?_,λp hp z=>?_},?_}
 ·cases q:X.s₀.heap.get? e with
  |none=>rfl
  | some o =>
    obtain⟨o',e'⟩:=I.base.there e o q (by rw[hex];simp)
    rw[hn] at e';cases e'
 ·have:=(I.pin p (RE _ hp)).1;rw[z,hn] at this;cases this
 ·cases q:H e with
  |none=>rfl
  | some u =>
    obtain⟨ob,z⟩:=AQ (I.hok e u q);rw[hn] at z;cases z
section
variable{fa:Fa}{X:Cx}{a b:Expr}{ga gb:GE}{ta:GT}{pos p:Pos}{es:List Expr}{gs:GA}{n:Nat}
def GN (c:Nat){x:Str}(hx:∃C,X.mg x=some (.ref C)/\fa (gp c)=some C/\PySem.W.excIn X.K C BG "ValueError.__new__"=true)(hex:X.ex=[])(hg:Gl X x)(hc:X.calm=true)(hs:DA fa X (a::es) gs)
 (hdb:(x==("__debug__":Str))=false) (he:notStar a=true) (hpl:es.all notStar=true):DS fa X (.Raise (some (.Call (.Name x np) (a::es) [] cpos)) none pos) (gi c gs):=by
 intro pins s σ H D' I ⟨μ,Z,M,hE,hM,h⟩;obtain⟨C,hmC,hfC,hin⟩:=hx;obtain⟨bm,N,nm,q,bs,hdct,sn,sub,ab,col,dd,k0,k1,k2,k3,k5,mN,hC,hN,hni,T⟩:=DD I.ok.mod.kin hin;unfold gi at h;cases eg:gs Z M with
 |err=>rw[eg] at h;exact h.elim
 |bad=>rw[eg] at h;exact h.elim
 | ok ds M1 =>
   rw[eg] at h;dsimp only at h;split at h
   ·next hz=>
    refine wpAny_Raise_call_subT (nm:=nm) (q:=q) (N:=N) (bs:=bs) (hdct:=hdct) (sn:=sn) (sub:=sub) (ab:=ab) (col:=col) (dd:=dd) (k0:=k0) (k1:=k1) (k2:=k2) (k3:=k3) (k5:=k5) PySem.F.excBase_ValueError (T.hasType `k) (I.ok.hd hc) (eM (by simp[he,hpl])) hni (lg I hg hmC {rfl,?_} hdb)
    have ar:=aT (hs cpos pins s σ H (λvs H1=>∃μ1,Ext μ H μ1 H1/\RelM fa X.K μ1 H1 M1/\aK fa X.K μ1 H1 ds vs) I {μ,Z,M,hE,hM,by rw[eg];exact λvs H1 μ1 x1 m1 r1=>⟨μ1,x1,m1,r1⟩}) (Q':=λus s2=>([]:List (Str×Qi))=[]/\us.length<=sizeLine/\s2.heap.get? C=some (excClassObj nm q C N bs bm hdct sn sub ab col dd k0 k1 k2 k3 k5 "ValueError.__new__")/\s2.heap.Ns N mN/\OwnTail s2.heap BG bm/\∀h' e,Heap.MadeExcOf s2.heap h' e (.ref C) us->X.xe (.ref e) {s2 with heap:=h'}) λus s1 ⟨vs,H1,I1,r,μ1,x1,m1,r1⟩=>by
     refine{rfl,?_,I1.bk _ _ hC,hN.keeps I1.bk,T.keeps I1.bk,λh' e hm=>?_}
     ·rw[<- r.length,r1.length,<- dR];exact hz
     ·obtain⟨t,ht,_,_⟩:=hm.there;obtain⟨n1,n2⟩:=Dw I1 hex hm.new;exact h pins σ H1 μ1 {s1 with heap:=h'} e C none c none (I1.kept hm.keeps) x1 (hE.ext x1) m1 rfl hfC rfl {n1,n2,_,_,ht,rfl,rfl,rfl,.inl rfl}
    rw[bA he] at ar ⊢;exact PySem.Calls.evalArgs_plain ar
   ·exact h.elim
end
structure L7 (fa:Fa) (K:Qh):Prop where
 g:∀c C,fa (gp c)=some C->IE K C=true/\PySem.W.mroIn K C (.type "ValueError")=some true/\PySem.W.isIn K (.ref C) C=true
 d:∀c C D,fa (gp c)=some C->fa 999=some D->PySem.W.isIn K (.ref C) D=true/\PySem.W.mroIn K C (.ref D)=some true/\PySem.W.mroIn K D (.type "BaseException")=some true/\PySem.W.typeIn K (.ref D)=some (.type "type")
 n:∀c C c' C',fa (gp c)=some C->fa (gp c')=some C'->c'≠c->PySem.W.kin_not K C C'=true
noncomputable def IG (K:Qh)(cl:List (Nat×Addr))(D:Addr):Bool:=PySem.W.mroIn K D (.type "BaseException")==some true&&PySem.W.typeIn K (.ref D)==some (.type "type") &&
 cl.all λq=>IE K q.2&&PySem.W.mroIn K q.2 (.type "ValueError")==some true&&PySem.W.isIn K (.ref q.2) q.2&&PySem.W.isIn K (.ref q.2) D&&PySem.W.mroIn K q.2 (.ref D)==some true&&cl.all λr=>r.1==q.1||PySem.W.kin_not K q.2 r.2
noncomputable def xj (l cl:List (Nat×Addr))(D:Addr):Fa:=λi=>if i<999 then l.lookup i else if i=999 then some D else cl.lookup (i-1000)
def lookup_mem:∀{l:List (Nat×Addr)}{c:Nat}{C:Addr},l.lookup c=some C->(c,C)∈l
 |[],_,_,h=>by cases h
 | (a, b) :: r, c, C, h => by
   rw[Rw] at h;split at h
   ·next e=>cases h;rw[eq_of_beq e];exact QK
   ·exact Qz _ (lookup_mem h)
def n9 {D:Addr}(h:xj l cl D (gp c)=some C):(c,C)∈cl:=by
 unfold xj gp at h;rw[if_neg `a,if_neg `a,Rr] at h
 exact lookup_mem h
def IF {K:Qh}{D:Addr}(h:IG K cl D=true):L7 (xj l cl D) K:=by
 unfold IG at h;simp only[Qr,beq_iff_eq,QB,Sn] at h;obtain⟨⟨h1,h2⟩,h3⟩:=h;refine{λc C e=>?_,λc C D' e e'=>?_,λc C c' C' e e' n=>?_}
 ·obtain⟨⟨⟨⟨⟨a1,a2⟩,a3⟩,a4⟩,a5⟩,a6⟩:=h3 _ (n9 e);exact⟨a1,a2,a3⟩
 ·obtain⟨⟨⟨⟨⟨a1,a2⟩,a3⟩,a4⟩,a5⟩,a6⟩:=h3 _ (n9 e);cases e';exact⟨a4,a5,h1,h2⟩
 ·obtain⟨⟨⟨⟨⟨a1,a2⟩,a3⟩,a4⟩,a5⟩,a6⟩:=h3 _ (n9 e);exact(a6 _ (n9 e')).elim (λz=>absurd z n) id
noncomputable def fit (z:Str)(i:Int)(y:Str):Prop:=i.natAbs.log2<1920/\(z++(toString i:Str)).length<=sizeLine/\(z++(toString i:Str)++y).length<=sizeLine
section
variable{X:Cx}{a:Expr}{ta:TE}{pos p1 p2 p3:Pos}{j j2:Nat}{z y:Str}
noncomputable def tF3 (z y:Str)(ta:TE):TE:=λσ H Q=>z.length<=sizeLine/\ta σ H λv H1=>∃i,v=.int i/\fit z i y/\Q (.str (z++(toString i:Str)++y)) H1
def BO (z:Str):Str.empty++z=z:=by
 cases z with
 |mk c=>show Str.mk (#[]++c)=_;simp
def MJ (ha:PE X a ta):PE X (.JoinedStr [.Constant (.str z) j p1,.FormattedValue a (-1) none p2,.Constant (.str y) j2 p3] pos) (tF3 z y ta):=by
 intro pins s σ H Q I ⟨hz,h⟩;refine JoinedStr_many (joinParts_cons (Calls.Constant_str ?_));show(Str.empty++z).length<=sizeLine/\_;rw[BO];refine{hz,joinParts_cons (FormattedValue_plain (aT (ha pins _ σ H _ (I.tok _) h) λu s1 ⟨v,H1,I1,r1,i,ev,⟨f1,f2,f3⟩,q⟩=>?_))};subst ev;obtain⟨t,rfl⟩:=r1;refine formatField_int_small f1 {f2,joinParts_cons (Calls.Constant_str {f3,joinParts_nil ?_ f3})};exact{.str _,H1,I1.tok _,{_,rfl},q}
end
noncomputable def L8 (C:Addr)(dx:Option Addr)(a:Addr)(h:Heap):Prop:=∃o vs t0,h.get? a=some o/\o.cls=.ref C/\o.dict=dx/\o.data=.fields vs/\vs[0]?=some (.ref t0)/\vs[1]?=some .none
noncomputable def Li (K:Qh)(C:Addr)(fI:Addr):Bool:=Jq K C λcd C' bm n=>C'==C&&n=="ValueError.__new__"&&!cd.hasDel&&PySem.W.tailIn K BG bm&&PySem.W.nsOkIn K cd.ns&&PySem.W.nsIn K cd.ns "__init__"==some (some (.ref fI))
noncomputable def spI (C:Addr)(fld:Str):Sp:=λvs H Q _=>∃e i,vs=[.ref e,.int i]/\H e=some (.ext (L8 C none e))/\i.natAbs<2^64/\∀d,H d=none->d≠e->Q .non (upd (upd H d (.xd [(fld,.int i)])) e (.ext (L8 C (some d) e)))
def len_app (a b:Str):(a++b).length=a.length+b.length:=by
 show(Str.append a b).length=_;unfold Str.append Str.length;simp
def Lb {i:Int}(hz:z.length<=1000)(hy:y.length<=1000)(hi:i.natAbs<2^64):fit z i y:=by
 have h1:i.natAbs.log2<1920:=by
  by_cases h0:i.natAbs=0
  ·rw[h0];decide
  ·exact QN ((Nat.log2_lt h0).mpr hi) `a
 have h2:=PyProof.Rows.int_text_len_1921 h1;have hs:sizeLine=16777216:=dR.symm;refine{h1,?_,?_}
 ·rw[len_app];omega
 ·rw[len_app,len_app];omega
noncomputable def BS (fa:Fa)(P:Ra)(w:Rb)(K:Qh)(mg:Str->Option Qi)(base:Heap)(c:Nat)(x:Str):Prop:=
 ∃C fI fd y oI,mg x=some (.ref C)/\fa (gp c)=some C/\Li K C fI=true/\PySem.W.keepIn K (.ref C)=true/\K.lookup fI=some oI/\oI.cls=.type "function"/\Binds K fd ["self",y] []/\mB P w K mg base (iX P w) 1 fI fd ["self",y] (spI C (BZ c))
noncomputable def wy (c:Nat)(a:GE):GS:=λZ M=>match a Z M with
 |.ok (.int i) M=>if i.natAbs<2^64 then .ok (.exc (.exc c (some i)) Z) M else .bad
 |_=>.bad
section
variable{fa:Fa}{X:Cx}{a b:Expr}{ga gb:GE}{ta:GT}{pos p np cpos:Pos}{es:List Expr}{gs:GA}{n:Nat}{x:Str}
noncomputable def FG (fa:Fa)(K:Qh)(f:Str):Prop:=∀c C,fa (gp c)=some C->BZ c=f->PySem.W.hasDictIn K C=true/\PySem.W.findIn K (.ref C) f=some none
end
noncomputable def inC (s:Stmt):Stmt:=match s with
 |.ClassDef _ _ _ (b::_) _ _ _ _ _ _ _=>b
 |_=>s
noncomputable def uX (z y:Str)(a:GE):GE:=λZ M=>(a Z M).bind λd M=>match d with
 |.int i=>if z.length<=1000/\y.length<=1000/\i.natAbs<2^64 then .ok (.str (z++(toString i:Str)++y)) M else .bad
 |_=>.bad
def OR (ha:DE fa X a ga):DE fa X (.JoinedStr [.Constant (.str z) j p1,.FormattedValue a (-1) none p2,.Constant (.str y) j2 p3] pos) (uX z y ga):=
 bO (MJ ha) λσ H Q ⟨μ,Z,M,hE,hM,h⟩=>by
  obtain⟨x0,M1,eg,h1⟩:=aL h;cases x0 with
  | int i =>
    have h1:ae (if z.length<=1000/\y.length<=1000/\i.natAbs<2^64 then .ok (.str (z++(toString i:Str)++y)) M1 else .bad) (a8 fa X.K μ H Q):=h1;split at h1
    ·next hm=>
     refine{Qp hm.1 (by rw[<- dR];decide),μ,Z,M,hE,hM,?_}
     rw[eg];intro v H1 μ1 x1 m1 r1;obtain rfl:v=.int i:=r1;exact{i,rfl,Lb hm.1 hm.2.1 hm.2.2,h1 (.str _) H1 μ1 x1 m1 rfl}
    ·exact h1.elim
  |_=>exact h1.elim
noncomputable def FI (fa:Fa)(K:Qh)(mg:Str->Option Qi)(x1 x2:Str)(k1 k2:Nat):Prop:=∃D1 D2,mg x1=some (.ref D1)/\mg x2=some (.ref D2)/\∀c C,c=k1\/c=k2->fa (gp c)=some C->PySem.W.exmAny K (.ref C) [.ref D1,.ref D2]=some true
noncomputable def Mc (fa:Fa)(K:Qh):Prop:=∀c C,fa (jX c)=some C->l5 c≠[]->xP K C/\∀f∈l5 c,Md K C f
noncomputable def qC (fa:Fa)(K:Qh)(m:Str)(c f:Nat):Prop:=∃C,fa (jX c)=some C/\xP K C/\(∀ad,fa f=some ad->Meth K C m ad)/\m∉l5 c/\l5 c≠[]
noncomputable def nZ (μ:Mu)(k:Nat)(p:Addr):Mu:={μ.pub,μ.priv,λj=>if j=az k then some p else μ.ob j}
section
variable{fa:Fa}{K:Qh}{μ:Mu}{H:Hp}{M:Mem}
def RelM.ob_ins (h:RelM fa K μ H M)(e:μ.ob (az k)=some a):∃o,H a=some o:=by
 by_cases hk:k<M.length
 ·rcases h.at' k M[k] (by simp[hk]) with⟨b,vs,h1,_⟩|⟨b,h1,h2,h3⟩
  ·rw[h.sep _ _ h1] at e;cases e
  ·rw[e] at h1;cases h1;exact let{o,z,_}:=h3.hold;⟨o,z⟩
 ·rw[h.oout k (Nat.le_of_not_lt hk)] at e;cases e
end
end LD
namespace LD
open PySem
section
variable{prog:Ra}{w:Rb}{A:RR}{E:Qi->Qm->Prop}{s:Qm}
abbrev TK (prog:Ra)(w:Rb)(h:Heap)(ks:List Int)(a:Addr):Prop:=IsTupleKey (intKind prog w) h ks a
inductive iP (prog:Ra) (w:Rb) (h:Heap):List (List Int)->List Qi->Prop
 |nil:iP prog w h [] []
 |cons {ks:List Int}{a:Addr}{kss:List (List Int)}{vs:List Qi}:TK prog w h ks a->iP prog w h kss vs->iP prog w h (ks::kss) (.ref a::vs)
noncomputable def NK (prog:Ra)(w:Rb)(h:Heap)(kss:List (List Int))(a:Addr):Prop:=∃o items n,h.get? a=some o/\o.cls=.type "tuple"/\o.data=.seq items n/\iP prog w h kss items.toList
def iP.inj:∀{x y:List (List Int)}{vs:List Qi},iP prog w h x vs->iP prog w h y vs->x=y
 |_,_,_,.nil,.nil=>rfl
 |_,_,_,.cons a r,.cons b t=>by rw[a.inj b,iP.inj r t]
def NK.typeIs (x:NK prog w s.heap kss a):s.TypeIs (.ref a) "tuple":=let{o,_,_,ho,hc,_}:=x;⟨o,ho,hc⟩
def NK.inj (hx:NK prog w h x a)(hy:NK prog w h y a):x=y:=by
 obtain⟨o,i,n,h1,_,h2,h3⟩:=hx;obtain⟨o',i',n',g1,_,g2,g3⟩:=hy;rw[h1] at g1;cases g1;rw[h2] at g2;cases g2;exact h3.inj g3
def iP.keeps (ho:h.get? d=some o)(hd:o.data=.dict es ep)(hs:R6 d h h'):∀{kss:List (List Int)}{vs:List Qi},iP prog w h kss vs->iP prog w h' kss vs
 |_,_,.nil=>.nil
 |_,_,.cons a r=>.cons (a.keeps ho hd hs) (iP.keeps ho hd hs r)
def NK.keeps (x:NK prog w h kss a)(ho:h.get? d=some o)(hd:o.data=.dict es ep)(hs:R6 d h h'):NK prog w h' kss a:=by
 obtain⟨u,i,n,h1,h2,h3,h4⟩:=x;refine{u,i,n,(hs.2 a λz=>?_).trans h1,h2,h3,h4.keeps ho hd hs};rw[z,ho] at h1;cases h1;rw[hd] at h3;cases h3
noncomputable def uz (prog:Ra)(w:Rb)(kss:List (List Int)):Int:=reduceHash (Builtin.Tuple.tupleHashOf (kss.map (tupleKeyHash (intKind prog w))))
noncomputable def nX (kss:List (List Int)):Nat:=(kss.map λks=>ks.length+1).sum+1
def Hk (hu:A.units+2<cLine)(hk:NK prog w s.heap kss a)(h:Q (uz prog w kss) {s with toks:=s.toks+nX kss}):wpAny (model prog w) A (pyHash (.ref a)) Q E s:=by
 have hT:=hk.typeIs;obtain⟨o,items,n,ho,_,hd,hi⟩:=hk;first|unfold pyHashByItsType|skip
 first|refine tqa (wpAny_cRoomFor_or (.inr `a) ?_)|skip
 refine tqa (wpAny_specialOf hT F.slot_tuple_hash.lookup ?_);rw[if_neg (by rw[beq_builtin_none];exact QP)]
 refine tqa (wpAny_specialOf hT F.slot_tuple_hash.lookup ?_);refine tqa (wpAny_callSpecialIfBoundUnlessNone?_slot hT F.slot_tuple_hash (wpAny_call_entry F.slot_tuple_hash hT F.entry_tuple_hash ?_ (F.args_tuple_hash_1 _)));show wpAny _ _ (Builtin.Tuple.tupleItemsOf (.ref a) >>= _) _ _ s;refine tqa (wpAny_tupleItemsOf ho hd ?_);refine tqa ?_;rw[<- Array.forIn_toList];refine wpAny_forIn_list _ (λrest (b:Array Int) s'=>∃done left,kss=done++left/\iP prog w s.heap left rest/\b.toList=done.map (tupleKeyHash (intKind prog w))/\s'={s with toks:=s.toks+(done.map λks=>ks.length+1).sum}) _ ?_ ?_ _ _ {[],kss,rfl,hi,rfl,rfl}
 ·rintro x rest b s' ⟨done,left,rfl,hl,hb,rfl⟩;cases hl with
  | @cons k c ks' _ h1 hl' =>
    refine tqa (wpAny_pyHash_tuple ?_ h1 ?_)
    ·show A.units+1<cLine;omega
    ·first
      |exact tqb {done++[k],ks',`s,hl',by simp[hb],by simp[Sx]}
      |exact tqa (tqb (tqb {done++[k],ks',`s,hl',by simp[hb],by simp[Sx]}))
 ·rintro b s' ⟨done,left,rfl,hl,hb,rfl⟩;cases hl;rw[Ri] at h;show wpAny _ _ (retInt (Builtin.Tuple.tupleHashOf b.toList)) _ _ _;rw[hb];refine wpAny_ret_mkInt ?_;generalize hv:Builtin.Tuple.tupleHashOf (done.map (tupleKeyHash (intKind prog w)))=v;show wpAny _ _ (if (decide (-(2:Int)^63<=v)&&decide (v<2^63))=true then _ else _) Q E _;unfold uz reduceHash at h;rw[hv] at h;by_cases hr:(decide (-(2:Int)^63<=v)&&decide (v<2^63))=true
  ·rw[if_pos hr];rw[if_pos hr] at h;exact tqb (by simpa[nX,Sx] using h)
  ·rw[if_neg hr];rw[if_neg hr] at h;exact tqa (wpAny_rule (tqb (by simpa[nX,Sx] using h)))
def yp (hu:A.units<cLine)(hx:NK prog w s.heap x a)(hy:NK prog w s.heap y b)(h:P (.done (.ret (.bool (decide (x=y))))) s) :
 wpAny (model prog w) A (Builtin.«tuple.__eq__» {[.ref a,.ref b],[]}) P E s:=by
 have hTb:=hy.typeIs;obtain⟨oa,xs,na,hoa,_,hda,hia⟩:=hx;obtain⟨ob,ys,nb,hob,_,hdb,hib⟩:=hy;show wpAny _ _ (isInstance (.ref b) (.type "tuple") >>= _) _ _ s;refine tqa (wpAny_isInstance hTb isSubtype_tuple_tuple ?_);refine tqa (wpAny_tupleItemsOf hoa hda (tqa (wpAny_tupleItemsOf hob hdb (tqa ?_))));refine wpAny_forIn_list _ (λrest r s'=>r.1=none/\s'=s/\∃x' y' xs' ys',rest=List.zip xs' ys'/\iP prog w s.heap x' xs'/\iP prog w s.heap y' ys'/\decide (x'=y')=decide (x=y)/\(xs'.length==ys'.length)=(xs.size==ys.size)) _ ?_ ?_ _ _ {rfl,rfl,x,y,xs.toList,ys.toList,rfl,hia,hib,rfl,`s}
 ·rintro⟨u,v⟩ rest r s' ⟨hr,rfl,x',y',xs',ys',hz,hx',hy',hdec,hlen⟩;cases hx' with
  |nil=>simp at hz
  | @cons k1 u' x2 xs2 h1 hx2 =>
    cases hy' with
    |nil=>simp at hz
    | @cons k2 v' y2 ys2 h2 hy2 =>
      obtain⟨⟨rfl,rfl⟩,rfl⟩:=hz;refine tqa (wpAny_eqBool_tuple hu h1 h2 ?_);by_cases hk:k1=k2
      ·subst hk;rw[decide_eq_true rfl];refine tqb {rfl,rfl,x2,y2,xs2,ys2,rfl,hx2,hy2,?_,by simpa using hlen}
       rw[<- hdec];by_cases hxy:x2=y2<;>simp[hxy]
      ·rw[decide_eq_false hk];rw[show decide (x=y)=false by rw[<- hdec];simp[hk]] at h
       exact tqa (tqb (tqb (tqb h)))
 ·rintro⟨r1,r2⟩ s' ⟨hr,rfl,x',y',xs',ys',hz,hx',hy',hdec,hlen⟩;subst hr;refine tqb ?_;show P (.done (.ret (.bool (xs.size==ys.size)))) s';rw[<- hlen,show(xs'.length==ys'.length)=decide (x=y) from ?_]
  ·exact h
  ·rw[<- hdec];cases hx' with
   |nil=>cases hy'<;>simp
   | cons _ _ => cases hy' with
     |nil=>simp
     |cons _ _=>simp at hz
def MS (hu:A.units+2<cLine)(hx:NK prog w s.heap x a)(hy:NK prog w s.heap y b)(h:Q (decide (x=y)) s):wpAny (model prog w) A (eqBool (.ref a) (.ref b)) Q E s:=by
 unfold eqBool;try with_reducible refine tqo ?_
 by_cases hab:(Value.ref a==Value.ref b)=true
 ·rw[if_pos hab];obtain rfl:a=b:=by have:=eq_of_beq hab;injection this
  obtain rfl:=hx.inj hy;exact tqa (wpAny_rule (tqb (by simpa using h)))
 ·rw[if_neg hab];refine tqa (wpAny_richCompare_same_room hx.typeIs hy.typeIs F.slot_tuple_eq (wpAny_call_entry F.slot_tuple_eq hx.typeIs F.entry_tuple_eq (yp ?_ hx hy {_,rfl,(λe=>nomatch e),tqp h}) (F.args_tuple_eq_2 _ _)) `a)
  show A.units+1<cLine;omega
def Ct (d:Nat)(hk:TK prog w s.heap ks a)(h:Q true s):wpAny (model prog w) A (eqIsQuiet (d+1) (.ref a)) Q E s:=by
 have hT:=hk.typeIs;obtain⟨o,items,n,ho,_,hd,hi⟩:=hk;unfold eqIsQuiet;refine tqa (wpAny_specialOf hT F.slot_tuple_eq.lookup ?_);refine tqa (wpAny_isInstance hT isSubtype_tuple_tuple ?_);refine tqa (wpAny_seqItems ho hd (tqa ?_));rw[<- Array.forIn_toList];refine wpAny_forIn_list _ (λrest r s'=>r.1=none/\s'=s/\∀v∈rest,carriedByValue v=true) _ ?_ ?_ _ _ ⟨rfl,rfl,hi.byValue⟩
 ·rintro v rest r s' ⟨hr,rfl,hall⟩;rw[eqIsQuiet_byValue _ (hall v QK)];refine tqa (tqb ?_);exact tqb {rfl,rfl,λu hu'=>hall u (Qz _ hu')}
 ·rintro⟨r1,r2⟩ s' ⟨hr,rfl,_⟩;subst hr;exact tqb h
def C5 (hk:NK prog w s.heap kss a)(h:Q true s):wpAny (model prog w) A (eqIsQuiet 8 (.ref a)) Q E s:=by
 have hT:=hk.typeIs;obtain⟨o,items,n,ho,_,hd,hi⟩:=hk;unfold eqIsQuiet;refine tqa (wpAny_specialOf hT F.slot_tuple_eq.lookup ?_);refine tqa (wpAny_isInstance hT isSubtype_tuple_tuple ?_);refine tqa (wpAny_seqItems ho hd (tqa ?_));rw[<- Array.forIn_toList];refine wpAny_forIn_list _ (λrest r s'=>r.1=none/\s'=s/\∃ks,iP prog w s.heap ks rest) _ ?_ ?_ _ _ ⟨rfl,rfl,kss,hi⟩
 ·rintro v rest r s' ⟨hr,rfl,ks,hl⟩;cases hl with
  | @cons k c ks' _ h1 hl' =>
    refine tqa (Ct 6 h1 ?_);exact tqb ⟨rfl,rfl,ks',hl'⟩
 ·rintro⟨r1,r2⟩ s' ⟨hr,rfl,_⟩;subst hr;exact tqb h
end
noncomputable def Kl (prog:Ra)(w:Rb):HeapKind prog w (List (List Int)) where
 is:=NK prog w
 hash:=uz prog w
 draws:=nX
 room:=λA=>A.units+2<cLine
 inj:=λhx hy=>hx.inj hy
 keeps:=λx ho hd hs=>x.keeps ho hd hs
 pyHash:=λhu hk h=>Hk hu hk h
 eqBool:=λhu hx hy h=>MS hu hx hy h
 quiet:=λhk h=>C5 hk h
end LD
namespace LD
open PySem PySem.Spec PyProof.Rows
section
variable{prog:Ra}{w:Rb}{K:Type}[DecidableEq K]{knd:HeapKind prog w K}{A:RR}{E:Qi->Qm->Prop}{s:Qm}
noncomputable def jg (knd:HeapKind prog w K)(h:Heap)(d:Addr)(xs:List (K×Addr×Qi)):Prop:=
 ∃o es,h.get? d=some o/\o.ExactDict/\o.data=.dict es xs.length/\es.toList=xs.map (entryOfKey knd)/\(∀x∈xs,knd.is h x.1 x.2.1)/\(xs.map (·.1)).Nodup
def jg.of (x:jg knd h d xs):h.DictOfH knd d xs:=let⟨o,es,r⟩:=x;{o,es,_,r}
def ma (hu:knd.room A)(hkey:knd.is s.heap k a)(hm:jg knd s.heap d xs)
 (hQ:∀h',jg knd h' d (storedH xs k a v)->R6 d s.heap h'->Q () {s with heap:=h',toks:=s.toks+knd.draws k})
 (hsz:xs.length<=sizeLine) :
 wpAny (model prog w) A (dictSet d (.ref a) v) Q E s:=by
 obtain⟨o,es,ho,hc,hd,he,his,hn⟩:=hm;unfold dictSet;try with_reducible refine tqo ?_
 refine tqa (knd.pyHash hu hkey ?_);unfold dictSetHashed;try with_reducible refine tqo ?_
 refine tqa (wpAny_dictFind_heap hu hkey ho hd he his hn ?_ ?_)
 ·intro hno;have hnot:=not_mem_keys_of_get hno;have e:=storedH_new (atKey_none_of_get hno);refine tqa (wpAny_rule (wpAny_updateDictKeys (hz:=by have e:=size_of_entries he;omega) ho hd (hQ _ {_,_,Ro _ ho (Obj.isFreed_of_dict (Obj.data_mapDictKeys hd _)),
   hc.mapDictKeys _,(Obj.data_mapDictKeys hd _).trans (by rw[e,QO];rfl),?_,?_,?_} (RM ..))))
  ·rw[e];simp[he,entryOfKey]
  ·rw[e];intro x hx;rcases QL.mp hx with hx|hx
   ·exact knd.keeps (his x hx) ho hd (RM ..)
   ·simp only[Qw] at hx;subst hx;exact knd.keeps hkey ho hd (RM ..)
  ·rw[e];rw[QF,Sa];refine{hn,`s,?_}
   intro x hx y hy;simp only[RI,List.map_nil,Qw] at hy;subst hy;exact λe=>hnot (e ▸ hx)
 ·intro j p hj;have e:=storedH_old (atKey_of_get hn hj);refine tqa (wpAny_rule (tqa (wpAny_updateDict ho hd (wpAny_point (hQ _ {_,_,Ro _ ho (Obj.isFreed_of_dict (Obj.data_mapDict hd _)),
   hc.mapDict _,(Obj.data_mapDict hd _).trans (by rw[e,Qf]),?_,?_,?_} (RM ..))))))
  ·rw[e];have:=modify_map_putAt (entryOfKey knd) (λe:RK=>{e with val:=v}) k v (λ_ _=>rfl) hn hj
   rw[<- he] at this;obtain⟨l⟩:=es;simpa using this
  ·rw[e];intro x hx;obtain⟨y,hy,rfl⟩:=Qx.mp hx;unfold putAt;split<;>exact knd.keeps (his y hy) ho hd (RM ..)
  ·rw[e];rw[keys_map_putAt];exact hn
def xZ (hu:knd.room A.in1)(hkey:knd.is s.heap k a)(hm:jg knd s.heap d xs)
 (hQ:∀h',jg knd h' d (storedH xs k a v)->R6 d s.heap h'->Q () {s with heap:=h',toks:=s.toks+knd.draws k})
 (hsz:xs.length<=sizeLine) :
 wpAny (model prog w) A (setItem (.ref d) (.ref a) v) Q E s:=by
 have hT:=hm.of.typeIs;unfold setItem;try with_reducible refine tqo ?_
 refine tqa (wpAny_sequenceKey hT `d ?_)
 refine tqa (wpAny_callSpecial?_slot hT slot_dict_setitem
  (wpAny_call_entry slot_dict_setitem hT entry_dict_setitem ?_ (args_dict_setitem _ _ _)))
 refine tqa (wpAny_notOrdered_dict hT ?_);show wpAny _ _ (dictSet d (.ref a) v >>= _) _ _ s;exact tqa (ma (hsz:=hsz) hu hkey hm λh' hm' hs'=>tqb {.none,rfl,tqb (hQ h' hm' hs')})
end
end LD
namespace LD
open PySem PySem.Spec PyProof.Rows L2
noncomputable def kJ (c:GT)(b:GS):Nat->Env->Mem->Res Fl
 |0,_,_=>.bad
 | n + 1, Z, M => (c Z M).bind λk M => if k then(b Z M).bind λfl M => (match fl with
   |.next Z=>kJ c b n Z M
   |fl=>.ok fl M) else .ok (.next Z) M
noncomputable def gg (c:GT)(b:GS):GS:=λZ M=>kJ c b 100000 Z M
section
variable{fa:Fa}{X:Cx}{c:Expr}{body:List Stmt}{gc:GT}{gb:GS}{pos:Pos}
def GL (hp:PassesOwn (model X.prog X.w) X.A X.env X.xe)(hc:DT fa X c gc)(hb:nJ fa X body gb):DS fa X (.While c body [] pos) (gg gc gb):=
 dO (CU hp hc hb) λD' σ H ⟨μ,Z,M,hE,hM,h⟩=>by
  refine{λm σ' H'=>∃μ' ρ' M',Ext μ H μ' H'/\bz fa X.K μ' H' σ' ρ'/\RelM fa X.K μ' H' M'/\ae (kJ gc gb m ρ' M') (mE fa X μ H D'),{100000,μ,Z,M,.refl,hE,hM,h},?_};rintro m σ2 H2 ⟨μ2,ρ2,M2,x2,hE2,hM2,q2⟩;cases m with
  |zero=>exact q2.elim
  | succ m =>
    obtain⟨k,M3,e3,q3⟩:=aL q2;refine{μ2,ρ2,M2,hE2,hM2,?_};rw[e3];intro H3 μ3 x3 hM3;have hE3:=hE2.ext x3;cases k with
    |false=>exact q3 σ2 H3 μ3 (x2.trans x3) hE3 hM3
    | true =>
      obtain⟨fl,M4,e4,q4⟩:=aL q3;refine{λσ' H'=>∃μ' ρ' M',Ext μ H μ' H'/\bz fa X.K μ' H' σ' ρ'/\RelM fa X.K μ' H' M'/\ae (kJ gc gb m ρ' M') (mE fa X μ H D'),λσ' H' z=>{m,Nat.lt_succ_self m,z},μ3,ρ2,M3,hE3,hM3,?_};rw[e4];cases fl with
      |next ρ6=>exact λσ6 H6 μ6 x6 hE6 hM6=>{μ6,ρ6,M4,(x2.trans x3).trans x6,hE6,hM6,q4}
      |ret d6=>exact a8.ext q4 (x2.trans x3)
      |exc x6 ρ6=>exact XW.ext q4 (x2.trans x3)
end
def w9 {K:Qh}:∀{ds:List D}{vs:List V}{us:List Qi}{ks:List Int},aK fa K μ H ds vs->Vals vs us->intsOf ds=some ks->ItemsAre (intKind prog w) ks us
 | [], vs, us, ks, h, r, e => by
   obtain rfl:vs=[]:=h;cases r;cases e;exact .nil
 | .int i :: ds, vs, us, ks, h, r, e => by
   obtain⟨v,vr,rfl,p,q⟩:=h;cases r with
   | cons r1 r2 =>
     obtain⟨k,ek,e⟩:=QA.mp e;subst e;obtain rfl:v=.int i:=p;obtain⟨t,rfl⟩:=r1;exact .cons (by simp[intKind,Value.isInt]) (w9 q r2 ek)
 |.non::_,_,_,_,_,_,e=>by cases e
 |.bl _::_,_,_,_,_,_,e=>by cases e
 |.str _::_,_,_,_,_,_,e=>by cases e
 |.tup _::_,_,_,_,_,_,e=>by cases e
 |.lst _::_,_,_,_,_,_,e=>by cases e
 |.frz _::_,_,_,_,_,_,e=>by cases e
 |.cell _::_,_,_,_,_,_,e=>by cases e
 |.fn _::_,_,_,_,_,_,e=>by cases e
 |.exc _ _::_,_,_,_,_,_,e=>by cases e
section
variable{fa:Fa}{X:Cx}{pins:List (Addr×Obj)}{σ:L2.St}{H:Hp}{s:Qm}{μ:Mu}
def zW (I:Inv X pins σ H s)(r:Rep fa X.K μ H (.tup ds) (.ref b)):∃vs its o n,aK fa X.K μ H ds vs/\Vals vs its/\s.heap.get? b=some o/\o.cls=.type "tuple"/\o.data=.seq its.toArray n:=by
 obtain⟨a,vs,e,hq,rr⟩:=r;cases e;obtain⟨its,rv,p,_⟩:=I.tuple hq;obtain⟨o,h1,h2,n,h3⟩:=p;exact⟨vs,its,o,n,rr,rv,h1,h2,h3⟩
def w6 (I:Inv X pins σ H s)(r:Rep fa X.K μ H d (.ref b))(e:mT d=some ks):TK X.prog X.w s.heap ks b:=by
 cases d with
 | tup ds =>
   obtain⟨vs,its,o,n,rr,rv,h1,h2,h3⟩:=zW I r;exact{o,its.toArray,n,h1,h2,h3,by simpa using w9 rr rv e}
 |_=>cases e
def uL (I:Inv X pins σ H s):∀{ds:List D}{vs:List V}{us:List Qi}{kss:List (List Int)},aK fa X.K μ H ds vs->Vals vs us->jZ ds=some kss->iP X.prog X.w s.heap kss us
 | [], vs, us, kss, h, r, e => by
   obtain rfl:vs=[]:=h;cases r;cases e;exact .nil
 | d :: ds, vs, us, kss, h, r, e => by
   obtain⟨v,vr,rfl,p,q⟩:=h;cases r with
   | cons r1 r2 =>
     obtain⟨k,ek,e⟩:=Rl.mp e;obtain⟨kr,ekr,e⟩:=QA.mp e;subst e;cases d with
     | tup es =>
       obtain⟨a,ws,rfl,hq,rr⟩:=id p;obtain rfl:=(r1);exact .cons (w6 I p ek) (uL I q r2 ekr)
     |_=>cases ek
def Hy (I:Inv X pins σ H s)(r:Rep fa X.K μ H d (.ref b))(e:qW d=some kss):NK X.prog X.w s.heap kss b:=by
 cases d with
 | tup ds =>
   obtain⟨vs,its,o,n,rr,rv,h1,h2,h3⟩:=zW I r;exact{o,its.toArray,n,h1,h2,h3,by simpa using uL I rr rv e}
 |_=>cases e
end
def uS:∀{a b:List D}{x y:List Int},intsOf a=some x->intsOf b=some y->dU a b=decide (x=y)/\(x=y->a=b)
 |[],[],_,_,e,f=>by cases e;cases f;exact{rfl,λ_=>rfl}
 | [], .int j :: b, _, _, e, f => by
   obtain⟨_,_,rfl⟩:=QA.mp f;cases e;exact{by simp[dU],λz=>by cases z}
 | .int i :: a, [], _, _, e, f => by
   obtain⟨_,_,rfl⟩:=QA.mp e;cases f;exact{by simp[dU],λz=>by cases z}
 | .int i :: a, .int j :: b, _, _, e, f => by
   obtain⟨x,e1,rfl⟩:=QA.mp e;obtain⟨y,f1,rfl⟩:=QA.mp f;obtain⟨h1,h2⟩:=uS e1 f1;refine{?_,λz=>?_}
   ·show(i==j&&dU a b)=_;rw[h1];by_cases z:i=j<;>simp[z]
   ·cases z;rw[h2 rfl]
 |.non::_,_,_,_,e,_=>by cases e
 |.bl _::_,_,_,_,e,_=>by cases e
 |.str _::_,_,_,_,e,_=>by cases e
 |.tup _::_,_,_,_,e,_=>by cases e
 |.lst _::_,_,_,_,e,_=>by cases e
 |.frz _::_,_,_,_,e,_=>by cases e
 |.cell _::_,_,_,_,e,_=>by cases e
 |.fn _::_,_,_,_,e,_=>by cases e
 |.exc _ _::_,_,_,_,e,_=>by cases e
 |_,.non::_,_,_,_,e=>by cases e
 |_,.bl _::_,_,_,_,e=>by cases e
 |_,.str _::_,_,_,_,e=>by cases e
 |_,.tup _::_,_,_,_,e=>by cases e
 |_,.lst _::_,_,_,_,e=>by cases e
 |_,.frz _::_,_,_,_,e=>by cases e
 |_,.cell _::_,_,_,_,e=>by cases e
 |_,.fn _::_,_,_,_,e=>by cases e
 |_,.exc _ _::_,_,_,_,e=>by cases e
def pB (e:mT d=some x):∃ds,d=.tup ds/\intsOf ds=some x:=by
 cases d with
 |tup ds=>exact⟨ds,rfl,e⟩
 |_=>cases e
def uN (e:mT a=some x)(f:mT b=some y):bS a b=decide (x=y)/\(x=y->a=b):=by
 obtain⟨as,rfl,e⟩:=pB e;obtain⟨bs,rfl,f⟩:=pB f;obtain⟨h1,h2⟩:=uS e f;exact{h1,λz=>by rw[h2 z]}
def sh:∀{a b:List D}{x y:List (List Int)},jZ a=some x->jZ b=some y->dU a b=decide (x=y)/\(x=y->a=b)
 |[],[],_,_,e,f=>by cases e;cases f;exact{rfl,λ_=>rfl}
 | [], d :: b, _, _, e, f => by
   obtain⟨_,_,f⟩:=Rl.mp f;obtain⟨_,_,rfl⟩:=QA.mp f;cases e;exact{by simp[dU],λz=>by cases z}
 | d :: a, [], _, _, e, f => by
   obtain⟨_,_,e⟩:=Rl.mp e;obtain⟨_,_,rfl⟩:=QA.mp e;cases f;exact{by simp[dU],λz=>by cases z}
 | d :: a, d' :: b, _, _, e, f => by
   obtain⟨k,ek,e⟩:=Rl.mp e;obtain⟨x,e1,rfl⟩:=QA.mp e;obtain⟨k',ek',f⟩:=Rl.mp f;obtain⟨y,f1,rfl⟩:=QA.mp f;obtain⟨g1,g2⟩:=uN ek ek';obtain⟨h1,h2⟩:=sh e1 f1;refine{?_,λz=>?_}
   ·show(bS d d'&&dU a b)=_;rw[h1,g1];by_cases z:k=k'<;>simp[z]
   ·cases z;rw[h2 rfl,g2 rfl]
def Dq (e:qW a=some x)(f:qW b=some y):bS a b=decide (x=y)/\(x=y->a=b):=by
 cases a with
 | tup as =>
   cases b with
   | tup bs =>
     obtain⟨h1,h2⟩:=sh e f;exact{h1,λz=>by rw[h2 z]}
   |_=>cases f
 |_=>cases e
structure KD (X:Cx) (c:Int) where
 K:Type
 dq:DecidableEq K
 knd:HeapKind X.prog X.w K
 dec:D->Option K
 hash:∀d,n6 c d=(dec d).map knd.hash
 is:∀{fa:Fa}{μ:Mu}{H:Hp}{pins:List (Addr×Obj)}{σ:L2.St}{s:Qm}{d:D}{b:Addr}{k:K},Inv X pins σ H s->Rep fa X.K μ H d (.ref b)->dec d=some k->knd.is s.heap k b
 beq:∀{a b:D}{x y:K},dec a=some x->dec b=some y->bS a b=decide (x=y)/\(x=y->a=b)
 ref:∀{fa:Fa}{μ:Mu}{H:Hp}{d:D}{v:V}{k:K},Rep fa X.K μ H d v->dec d=some k->∃b,v=.ref b
 room:Rm X->knd.room X.A.in1
 room0:Rm X->knd.room X.A
noncomputable def KD.f (X:Cx):KD X 77 where
 K:=List Int
 dq:=inferInstance
 knd:=tupleKind (intKind X.prog X.w)
 dec:=mT
 hash:=λd=>by unfold n6;rw[if_pos rfl];rfl
 is:=λI r e=>w6 I r e
 beq:=λe f=>uN e f
 ref:=λr e=>by
  obtain⟨ds,rfl,_⟩:=pB e;obtain⟨a,_,rfl,_⟩:=r;exact⟨a,rfl⟩
 room:=λh=>by show X.A.units+1<cLine;unfold Rm at h;omega
 room0:=λh=>by show X.A.units<cLine;unfold Rm at h;omega
noncomputable def KD.n (X:Cx):KD X 78 where
 K:=List (List Int)
 dq:=inferInstance
 knd:=Kl X.prog X.w
 dec:=qW
 hash:=λd=>by unfold n6;rw[if_neg `d,if_pos rfl];rfl
 is:=λI r e=>Hy I r e
 beq:=λe f=>Dq e f
 ref:=λ{fa μ H d v k} r e=>by
  cases d with
  | tup ds =>
    obtain⟨a,_,rfl,_⟩:=r;exact⟨a,rfl⟩
  |_=>cases e
 room:=λh=>by show X.A.units+1+2<cLine;unfold Rm at h;omega
 room0:=λh=>by show X.A.units+2<cLine;unfold Rm at h;omega
instance kdq {X:Cx}{c:Int} (kd:KD X c):DecidableEq kd.K:=kd.dq
noncomputable def iK (p:D×D):D:=.tup [p.1,p.2]
section
variable{fa:Fa}{X:Cx}{pins:List (Addr×Obj)}{σ:L2.St}{H:Hp}{s:Qm}{μ:Mu}{c:Int}{kd:KD X c}{kvs:List (D×D)}
abbrev DP (fa:Fa)(X:Cx)(μ:Mu)(H:Hp){c:Int}(kd:KD X c):List (D×D)->List (kd.K×Addr×Qi)->Prop:=R5 λp x=>kd.dec p.1=some x.1/\Rep fa X.K μ H p.1 (.ref x.2.1)/\∃v,RelV v x.2.2/\Rep fa X.K μ H p.2 v
def KD.xs (kd:KD X c):∀{kvs:List (D×D)}{es:List RK},R5 (nI fa X.K μ H c) kvs es->∃xs,es=xs.map (entryOfKey kd.knd)/\DP fa X μ H kd kvs xs
 |_,_,.nil=>{[],rfl,.nil}
 | _, _, .cons ⟨b, v, e1, e2, e3, e4, e5⟩ r => by
   obtain⟨xs,rfl,q⟩:=KD.xs kd r;rw[kd.hash] at e2;obtain⟨k,ek,eh⟩:=QA.mp e2;refine{(k,b,_)::xs,?_,.cons ⟨ek,e3,v,e4,e5⟩ q};rw[RI]
   congr 1
   unfold entryOfKey;rw[eh,<- e1]
def KD.back {xs:List (kd.K×Addr×Qi)}:∀{kvs:List (D×D)},DP fa X μ H kd kvs xs->R5 (nI fa X.K μ H c) kvs (xs.map (entryOfKey kd.knd)):=by
 intro kvs h;induction h with
 |nil=>exact .nil
 |cons r _ ih=>exact .cons (let⟨h1,h2,v,h3,h4⟩:=r;{_,v,rfl,by rw[kd.hash,h1];rfl,h2,h3,h4}) ih
def DP.mem (h:DP fa X μ H kd kvs xs)(m:x∈xs):∃p∈kvs,kd.dec p.1=some x.1/\Rep fa X.K μ H p.1 (.ref x.2.1):=by
 induction h with
 |nil=>cases m
 | cons r _ ih =>
   rcases Rg.mp m with rfl|m
   ·exact{_,QK,r.1,r.2.1}
   ·obtain⟨p,hp,q⟩:=ih m;exact{p,Qz _ hp,q}
def DP.nodup (h:DP fa X μ H kd kvs xs)(n:(kvs.map (·.1)).Nodup):(xs.map (·.1)).Nodup:=by
 induction h with
 |nil=>exact List.nodup_nil
 | @cons p x ps xs' r t ih =>
   rw[RI,Rx] at n ⊢;refine{λm=>n.1 ?_,ih n.2};obtain⟨y,my,ey⟩:=Qx.mp m;obtain⟨q,mq,e1,_⟩:=DP.mem t my;have:=(kd.beq r.1 e1).2 ey.symm;rw[this];exact Qx.mpr ⟨q,mq,rfl⟩
def KD.dict {xs:List (kd.K×Addr×Qi)}(I:Inv X pins σ H s)(e:H a=some (.dn (xs.map (entryOfKey kd.knd))))(h:DP fa X μ H kd kvs xs)(n:(kvs.map (·.1)).Nodup):(a==sysModules)=false/\xs.length<=sizeLine/\jg kd.knd s.heap a xs:=by
 obtain⟨z,y,o,h1,h2,h3⟩:=(I.hok a _ e);refine{y,by simpa using z,o,_,h1,h2,by rw[h3,Qf],`s,λx hx=>?_,h.nodup n}
 obtain⟨p,_,e1,e2⟩:=h.mem hx;exact kd.is I e2 e1
def DP.look (h:DP fa X μ H kd kvs xs)(hk:kd.dec k=some kk):(dA (kvs.map iK) k=none/\atKey xs kk=none)\/∃d b v u,dA (kvs.map iK) k=some d/\atKey xs kk=some (b,u)/\RelV v u/\Rep fa X.K μ H d v:=by
 induction h with
 |nil=>exact .inl ⟨rfl,rfl⟩
 | @cons p x ps xs' r t ih =>
   obtain⟨h1,h2,v,h3,h4⟩:=r;have b:=(kd.beq h1 hk).1;unfold dA atKey at ih ⊢;rw[RI,List.find?_cons,List.find?_cons];rw[show bS (cV (iK p)) k=decide (x.1=kk) from b];by_cases z:x.1=kk
   ·rw[decide_eq_true z];exact .inr ⟨p.2,x.2.1,v,x.2.2,rfl,rfl,h3,h4⟩
   ·rw[decide_eq_false z];exact ih
noncomputable def ku (kvs:List (D×D))(k d:D):List (D×D):=if (dA (kvs.map iK) k).isSome then kvs.map (λp=>if bS p.1 k then(p.1,d) else p) else kvs++[(k,d)]
def JQ (kvs:List (D×D))(k d:D):(ku kvs k d).map iK=putD (kvs.map iK) k d:=by
 unfold ku putD;split
 ·rw[Rk,Rk];refine RG λp _=>?_;show iK (if bS p.1 k then(p.1,d) else p)=if bS p.1 k then _ else _;split<;>rfl
 ·rw[QF];rfl
def AA (kvs:List (D×D))(k d:D):(ku kvs k d).map (·.1)=if (dA (kvs.map iK) k).isSome then kvs.map (·.1) else kvs.map (·.1)++[k]:=by
 unfold ku;split
 ·rw[Rk];refine RG λp _=>?_;show(if bS p.1 k then(p.1,d) else p).1=p.1;split<;>rfl
 ·rw[QF];rfl
def DP.put (h:DP fa X μ H kd kvs xs)(hk:kd.dec k=some kk)(rk:Rep fa X.K μ H k (.ref b))(ru:RelV v u)(rd:Rep fa X.K μ H d v):DP fa X μ H kd (ku kvs k d) (storedH xs kk b u):=by
 have e:(dA (kvs.map iK) k).isSome=(atKey xs kk).isSome:=by
  rcases h.look hk with⟨h1,h2⟩|⟨_,_,_,_,h1,h2,_⟩<;>rw[h1,h2]<;>rfl
 unfold ku storedH;rw[e];split
 ·next hs=>
  clear e hs;induction h with
  |nil=>exact .nil
  | @cons p x ps xs' r t ih =>
    refine .cons ?_ ih;have b2:=(kd.beq r.1 hk).1;unfold putAt;dsimp only;rw[b2];by_cases z:x.1=kk
    ·rw[decide_eq_true z,if_pos z,if_pos rfl];exact⟨r.1,r.2.1,v,ru,rd⟩
    ·rw[decide_eq_false z,if_neg z,if_neg QP];exact r
 ·exact Paired.snoc h ⟨hk,rk,v,ru,rd⟩
def DP.keys (h:DP fa X μ H kd kvs xs)(n:(kvs.map (·.1)).Nodup)(hk:kd.dec k=some kk):((ku kvs k d).map (·.1)).Nodup:=by
 rw[AA];split
 ·exact n
 ·next z=>
  refine List.nodup_append.mpr {n,`s,λa ha b hb q=>z ?_}
  obtain rfl:=Qw.mp hb;subst q;obtain⟨p,mp,ep⟩:=Qx.mp ha;rw[dA,R9,List.find?_isSome];refine{iK p,Qx.mpr ⟨p,mp,rfl⟩,?_};show bS p.1 a=true;rw[ep,(kd.beq hk hk).1];exact decide_eq_true rfl
end
noncomputable def eU (a b:GE):GE:=λZ M=>(a Z M).bind λx M=>(b Z M).bind λk M=>match x with
 |.fn o=>cu M (getD M o k)
 |_=>.bad
noncomputable def fZ (n:Bool)(a b:GE):GE:=λZ M=>(a Z M).bind λk M=>(b Z M).bind λx M=>match x with
 | .fn o => (match inD M o k with
   |some r=>.ok (.bl (n != r)) M
   |none=>.bad)
 |_=>.bad
noncomputable def gr (a b d:GE):GS:=λZ M=>(d Z M).bind λz M=>(a Z M).bind λx M=>(b Z M).bind λk M=>match x with
 | .fn o => (match bR M o with
   |some q=>if isKey q.1 k=true/\q.2.length<1000000 then .ok (.next Z) (M.set (o-5000) (.int q.1::putD q.2 k z)) else .bad
   |none=>.bad)
 |_=>.bad
noncomputable def qk (c:Int):GE:=λ_ M=>.ok (.fn (az M.length)) (M++[[.int c]])
structure fD (fa:Fa):Prop where
 of:∀o,5000<=o->fa o=none
 n77:fa (jX 77)=none
 n78:fa (jX 78)=none
section
variable{fa:Fa}{K:Qh}{μ:Mu}{H:Hp}{M:Mem}
def Ext.dic (h:RelM fa K μ H M)(hH:H a=some (.dn es)):Ext μ H μ (upd H a (.dn es')):=by
 have ne:∀{b o},H b=some o->(∀es,o≠.dn es)->b≠a:=λg n z=>by rw[z,hH] at g;cases g;exact n _ rfl
 refine{{λ_ _ q=>q,λb vs g=>?_,λb vs g n=>{by rw[aH (ne g (λ_ z=>by cases z))];exact g,n},λb ob u g=>by rw[aH (ne g (λ_ z=>by cases z))];exact g,λb o i g=>?_,λ_ _ q=>q},rfl,λb hb=>?_}
 ·rcases g with g|⟨ob,g⟩
  ·exact .inl (by rw[aH (ne g (λ_ z=>by cases z))];exact g)
  ·exact .inr {ob,by rw[aH (ne g (λ_ z=>by cases z))];exact g}
 ·rw[aH (ne g (λ_ z=>by rcases i with⟨_,i⟩|⟨_,i⟩<;>(rw[i] at z;cases z)))];exact g
 ·obtain⟨⟨vs,g⟩,_⟩:=h.pv b hb;rw[aH (ne g (λ_ z=>by cases z))]
def RelM.dicW (h:RelM fa K μ H M)(e:M[k]?=some ds)(ha:μ.ob (az k)=some a)(hH:H a=some (.dn es))(new:jP fa K μ (upd H a (.dn es')) a ds'):RelM fa K μ (upd H a (.dn es')) (M.set k ds'):=by
 have x:Ext μ H μ (upd H a (.dn es')):=Ext.dic h hH;refine{λj es2 q=>?_,λj hj=>h.out j (by simpa using hj),λj hj=>h.oout j (by simpa using hj),h.inj,h.oinj,h.sep,λb hb=>{let{⟨vs,g⟩,_}:=h.pv b hb;{vs,by rw[x.pk b hb];exact g},(h.pv b hb).2}}
 by_cases hj:j=k
 ·subst hj;rw[QS (Qg.mp e).1] at q;cases q;refine .inr {a,ha,?_,new};cases z:μ.pub j with
  |none=>rfl
  |some b=>rw[h.sep j b z] at ha;cases ha
 ·rw[Qo (Ru hj)] at q;rcases h.at' j es2 q with⟨b,vs,h1,h2,h3⟩|⟨b,h1,h2,h3⟩
  ·exact .inl {b,vs,h1,by rw[aH (λz=>by rw[z,hH] at h2;cases h2)];exact h2,h3.ext x}
  ·exact .inr {b,h1,h2,h3.extW x.toExtW (aH λz=>hj (h.oinj _ _ a (z ▸ h1) ha))}
def Ext.dicNew (h:RelM fa K μ H M)(hx:H x=none):Ext μ H (nZ μ M.length x) (upd H x (.dn [])):=by
 have e:Ext μ H μ (upd H x (.dn [])):=Ext.alloc h hx;refine{{e.mu,e.tups,λb vs g n=>{(e.lsts b vs g n).1,n},e.frzs,e.exts,λj b z=>?_},rfl,e.pk};show(if j=az M.length then some x else μ.ob j)=some b;split
 ·next q=>rw[q,h.oout _ (Ql _)] at z;cases z
 ·exact z
def RelM.dicNew {c:Int}(h:RelM fa K μ H M)(hx:H x=none)(hc:c=77\/c=78):RelM fa K (nZ μ M.length x) (upd H x (.dn [])) (M++[[.int c]]):=by
 have X:=Ext.dicNew h hx;have old:∀{b o},H b=some o->(upd H x (.dn [])) b=some o:=λg=>by rw[aH (aZ g hx)];exact g
 have pc:∀{k b},(nZ μ M.length x).ob (az k)=some b->(k=M.length/\b=x)\/μ.ob (az k)=some b:=λ{k b} z=>by
  have z:(if az k=az M.length then some x else μ.ob (az k))=some b:=z;split at z
  ·next q=>cases z;exact .inl {Nat.add_left_cancel q,rfl}
  ·exact .inr z
 refine{λk ds q=>?_,λk hk=>h.out k (by simp at hk;omega),λk hk=>?_,h.inj,λj k b e1 e2=>?_,λk b z=>?_,λb hb=>{?_,(h.pv b hb).2}}
 ·by_cases hk:k<M.length
  ·rw[Qn hk] at q;rcases h.at' k ds q with⟨b,vs,h1,h2,h3⟩|⟨b,h1,h2,h3⟩
   ·exact .inl {b,vs,h1,old h2,h3.ext X}
   ·exact .inr {b,X.obs _ _ h1,h2,h3.extW X.toExtW (by obtain⟨o,e,_⟩:=h3.hold;rw[old e,e])}
  ·have hk':k=M.length:=by
    have:=(Qg.mp q).1;simp at this;omega
   subst hk';rw[Q0 (Ql _)] at q;simp at q;subst q;exact .inr {x,by show(if az M.length=az M.length then some x else _)=some x;rw[if_pos rfl],h.out _ (Ql _),.inr {c,[],[],cD,hc,rfl,.nil,List.nodup_nil}}
 ·show(if az k=az M.length then some x else μ.ob (az k))=none;simp at hk;rw[if_neg (λz=>by have:=Nat.add_left_cancel z;omega)]
  exact h.oout k `a
 ·rcases pc e1 with⟨a1,a2⟩|a1<;>rcases pc e2 with⟨b1,b2⟩|b1
  ·omega
  ·subst a2;obtain⟨_,z⟩:=h.ob_ins b1;rw[hx] at z;cases z
  ·subst b2;obtain⟨_,z⟩:=h.ob_ins a1;rw[hx] at z;cases z
  ·exact h.oinj j k b a1 b1
 ·show(if az k=az M.length then some x else μ.ob (az k))=none;have z:μ.pub k=some b:=z;rw[if_neg (λq=>by rw[Nat.add_left_cancel q,h.out _ (Ql _)] at z;cases z)]
  exact h.sep k b z
 ·obtain⟨⟨vs,g⟩,_⟩:=h.pv b hb;exact{vs,old g}
end
section
variable{fa:Fa}{X:Cx}{pins:List (Addr×Obj)}{σ:L2.St}{H:Hp}{s:Qm}{μ:Mu}{M:Mem}
def pC {c:Int}(h:isKey c d=true)(kd:KD X c):∃kk,kd.dec d=some kk:=by
 have e:(n6 c d).isSome=true:=by
  unfold isKey at h;unfold n6;split at h
  ·next z=>rw[if_pos z,R9];exact h
  ·next z=>
   rw[if_neg z];split at h
   ·next y=>rw[if_pos y,R9];exact h
   ·cases h
 rw[kd.hash,R9] at e;exact Option.isSome_iff_exists.mp e
def MZ {c:Int}(X:Cx)(h:c=77\/c=78):Nonempty (KD X c):=by
 rcases h with rfl|rfl
 ·exact{KD.f X}
 ·exact{KD.n X}
def ni (hd:fD fa)(I:Inv X pins σ H s)(hM:RelM fa X.K μ H M)(r:Rep fa X.K μ H (.fn o) v)(e:bR M o=some q) :
 ∃(a:Addr) (kd:KD X q.1) (kvs:List (D×D)) (xs:List (kd.K×Addr×Qi)),v=.ref a/\5000<=o/\μ.ob o=some a/\M[o-5000]?=some (.int q.1::q.2)/\H a=some (.dn (xs.map (entryOfKey kd.knd)))/\(q.1=77\/q.1=78)/\q.2=kvs.map iK/\DP fa X μ H kd kvs xs/\(kvs.map (·.1)).Nodup:=by
 unfold bR at e;split at e
 ·next ho=>
  split at e
  ·next c es em=>
   split at e
   ·next hc=>
    cases e;obtain⟨a,rfl,ha⟩:=r;rcases ha with ha|⟨_,ha⟩
    ·rw[hd.of o ho] at ha;cases ha
    have eo:az (o-5000)=o:=Nat.add_sub_cancel' ho;rcases hM.at' _ _ em with⟨b,vs,h1,_⟩|⟨b,h1,h2,⟨n,C,dx,fs,es',h3,h4,h5,h6,h7⟩|⟨c',es',kvs,h3,h4,h5,h6,h7⟩⟩
    ·have:=hM.sep _ _ h1;rw[eo,ha] at this;cases this
    ·have h6:=(List.cons.inj h6).1;have h6:=D.int.inj h6;rcases hc with rfl|rfl
     ·have:n=77:=`a
      rw[this,hd.n77] at h3;cases h3
     ·have:n=78:=`a
      rw[this,hd.n78] at h3;cases h3
    ·rw[eo,ha] at h1;cases h1;obtain⟨e1,e2⟩:=List.cons.inj h5;cases D.int.inj e1;obtain⟨kd⟩:=MZ X hc;obtain⟨xs,rfl,dp⟩:=kd.xs h6;exact⟨a,kd,kvs,xs,rfl,ho,ha,em,h3,hc,e2,dp,h7⟩
   ·cases e
  ·cases e
 ·cases e
noncomputable def rDG (fa:Fa)(K:Qh):R2:=λx y H Q=>∃μ M o dy d,RelM fa K μ H M/\Rep fa K μ H (.fn o) x/\Rep fa K μ H dy y/\getD M o dy=some d/\a8 fa K μ H Q d M
def M9 (hu:Rm X)(hd:fD fa):kj X (rDG fa X.K):=by
 intro value slice pins s σ H x y v u Q I rx ry h hs;obtain⟨μ,M,o,dy,d,hM,r1,r2,e,q⟩:=h;obtain⟨qq,e1,e2⟩:=Rl.mp e;split at e2
 ·next hk=>
  obtain⟨a,kd,kvs,xs,rfl,ho,ha,em,hH,hc,e3,dp,nd⟩:=ni hd I hM r1 e1;obtain⟨kk,ek⟩:=pC hk kd;obtain⟨b,rfl⟩:=kd.ref r2 ek;obtain⟨ys,hz,dd⟩:=KD.dict I hH dp nd;obtain rfl:v=Value.ref a:=rx;obtain rfl:u=Value.ref b:=ry;rw[e3] at e2;rcases dp.look ek with⟨z,_⟩|⟨d',b',v',u',z,g,ru,rd⟩
  ·rw[z] at e2;cases e2
  ·rw[z] at e2;cases e2;have hT:=dd.of.typeIs;have h2:wpAny (model X.prog X.w) X.A (getItem (.ref a) (.ref b)) (EP X pins σ Q) X.xe s:=wpAny_getItem_heap (kd.room hu) (kd.is I r2 ek) dd.of g {v',H,I.tok _,ru,aV hM q rd};refine tqa ?_;rw[getitemInPython_of_ne hT.not_modules];refine tqa (wpAny_specialOf hT PySem.F.slot_dict_getitem.lookup ?_);have fin:wpAny (model X.prog X.w) X.A (subscripted slice false (.ref a) (.ref b)) (λr s3=>wpAny (model X.prog X.w) X.A (letTemporaryGo value (.ref a) r >>= λ_=>pure r) (EP X pins σ Q) X.xe s3) X.xe s:=by
    rw[hs];exact wpAny_operating (wpAny_mono h2 (λr s3 h3=>tqa (wpAny_letTemporaryGo (tqb h3))) λ_ _ x=>x)
   first
    |exact tqb (tqa fin)
    |exact tqa (tqb (tqa fin))
    |exact tqa fin
 ·cases e2
noncomputable def rDI (fa:Fa)(K:Qh)(n:Bool):R2:=λx y H Q=>∃μ M o dx b,RelM fa K μ H M/\Rep fa K μ H dx x/\Rep fa K μ H (.fn o) y/\inD M o dx=some b/\Q (.bl (n != b)) H
def Fz (hu:Rm X)(hd:fD fa)(n:Bool):bU X (compareOp (if n then .NotIn else .In)) (rDI fa X.K n):=by
 intro pins s σ H x y v u Q I rx ry h;obtain⟨μ,M,o,dx,b,hM,r1,r2,e,q⟩:=h;obtain⟨qq,e1,e2⟩:=Rl.mp e;split at e2
 ·next hk=>
  obtain⟨a,kd,kvs,xs,rfl,ho,ha,em,hH,hc,e3,dp,nd⟩:=ni hd I hM r2 e1;obtain⟨kk,ek⟩:=pC hk kd;obtain⟨c,rfl⟩:=kd.ref r1 ek;obtain⟨ys,hz,dd⟩:=KD.dict I hH dp nd;obtain rfl:v=Value.ref c:=rx;obtain rfl:u=Value.ref a:=ry;rw[e3] at e2;cases e2;have eq:(dA (kvs.map iK) dx).isSome=(atKey xs kk).isSome:=by
   rcases dp.look ek with⟨h1,h2⟩|⟨_,_,_,_,h1,h2,_⟩<;>rw[h1,h2]<;>rfl
  rw[eq] at q;cases n with
  |false=>exact wpAny_in_heap (kd.room hu) (kd.is I r1 ek) ys dd.of {.bl _,H,I.tok _,rfl,by simpa using q}
  |true=>exact wpAny_notIn_heap (kd.room hu) (kd.is I r1 ek) ys dd.of {.bl _,H,I.tok _,rfl,by simpa using q}
 ·cases e2
noncomputable def rDS (fa:Fa)(K:Qh):zf:=λx y v H Q=>∃μ M o dy d q,RelM fa K μ H M/\Rep fa K μ H (.fn o) x/\Rep fa K μ H dy y/\Rep fa K μ H d v/\bR M o=some q/\isKey q.1 dy=true/\q.2.length<1000000/\∀H',Ext μ H μ H'->RelM fa K μ H' (M.set (o-5000) (.int q.1::putD q.2 dy d))->Q H'
def rn (hd:fD fa)(I:Inv X pins σ H s)(hM:RelM fa X.K μ H M)(r1:Rep fa X.K μ H (.fn o) x)(r2:Rep fa X.K μ H dy y)(ry:RelV y iv)(rv:RelV v u)(r3:Rep fa X.K μ H d v)(e1:bR M o=some q)(hk:isKey q.1 dy=true)(hl:q.2.length<1000000) :
 ∃(a b:Addr) (kd:KD X q.1) (kk:kd.K) (xs:List (kd.K×Addr×Qi)),x=.ref a/\iv=.ref b/\kd.knd.is s.heap kk b/\xs.length<=sizeLine/\jg kd.knd s.heap a xs/\∀h' t,jg kd.knd h' a (storedH xs kk b u)->R6 a s.heap h'->∃H',Inv X pins σ H' {s with heap:=h',toks:=t}/\Ext μ H μ H'/\RelM fa X.K μ H' (M.set (o-5000) (.int q.1::putD q.2 dy d)):=by
 obtain⟨a,kd,kvs,xs,rfl,ho,ha,em,hH,hc,e3,dp,nd⟩:=ni hd I hM r1 e1;obtain⟨kk,ek⟩:=pC hk kd;obtain⟨b,rfl⟩:=kd.ref r2 ek;obtain⟨ys,hz,dd⟩:=KD.dict I hH dp nd;obtain rfl:iv=Value.ref b:=ry;have dp2:=dp.put ek r2 rv r3;refine{a,b,kd,kk,xs,rfl,rfl,kd.is I r2 ek,hz,dd,λh' t dd' hs=>?_};obtain⟨o',es',h1,h2,h3,h4,_,_⟩:=dd';have lx:(storedH xs kk b u).length<=sizeLine:=by
  have l1:=Paired.length dp2;have l2:(ku kvs dy d).length<=kvs.length+1:=by
   unfold ku;split<;>simp
  have l3:kvs.length<1000000:=by rw[e3,Qf] at hl;exact hl
  rw[<- l1,sizeLine_eq];omega
 have eo:az (o-5000)=o:=Nat.add_sub_cancel' ho;have x:=Ext.dic (es':=(storedH xs kk b u).map (entryOfKey kd.knd)) hM hH;refine{upd H a (.dn ((storedH xs kk b u).map (entryOfKey kd.knd))),I.write (by rw[hH];exact True.intro) (.inl rfl) (λb q hb z=>(hs.2 b hb).trans z) ⟨o',h1⟩ {by simpa using lx,ys,o',h1,h2,?_},x,?_}
 ·have hl2:=congrArg List.length h4;rw[Qf] at hl2;rw[h3,<- h4,hl2]
 ·refine hM.dicW em (by rw[eo];exact ha) hH (.inr {q.1,_,ku kvs dy d,cD,hc,?_,R5.mapP (KD.back dp2) λp e ⟨b,v,e1,e2,e3,e4,e5⟩=>{b,v,e1,e2,e3.ext x,e4,e5.ext x},dp.keys nd ek})
  rw[e3,<- JQ];rfl
def GK (hu:Rm X)(hd:fD fa):D7 X (rDS fa X.K):=by
 intro pins s σ H x y v ov iv u Q I rx ry rv h;obtain⟨μ,M,o,dy,d,q,hM,r1,r2,r3,e1,hk,hl,k⟩:=h;obtain⟨a,b,kd,kk,xs,rfl,rfl,hi,hz,dd,fin⟩:=rn hd I hM r1 r2 ry rv r3 e1 hk hl;obtain rfl:ov=Value.ref a:=rx;refine xZ (hsz:=hz) (kd.room hu) hi dd λh' dd' hs=>?_;obtain⟨H',I',x',m'⟩:=fin h' _ dd' hs;exact{H',I',k H' x' m'}
end
section
variable{fa:Fa}{X:Cx}{a b d:Expr}{ga gb gd:GE}{pos:Pos}
def LP (hu:Rm X)(hd:fD fa)(ha:DE fa X a ga)(hb:DE fa X b gb)(hs:ju b):DE fa X (.Subscript a b pos) (eU ga gb):=
 bO (yh (M9 hu hd) ha hb hs) λσ H Q ⟨μ,Z,M,hE,hM,h⟩=>t2 hE hM h λx y M2 v u H2 μ2 x2 hE2 hM2 r1 r2 h2=>by
  cases x with
  | fn o =>
    obtain⟨d,e,q⟩:=kU h2;exact{μ2,M2,o,y,d,hM2,r1,r2,e,a8.ext q x2}
  |_=>exact h2.elim
def xu {x y:D}(h:ae (match y with|.fn o=>(match inD M o x with|some r=>Res.ok (D.bl (n != r)) M|none=>.bad)|_=>.bad) k):∃o r,y=.fn o/\inD M o x=some r/\k (.bl (n != r)) M:=by
 cases y with
 | fn o =>
   dsimp only at h;cases e:inD M o x with
   |none=>rw[e] at h;exact h.elim
   |some r=>rw[e] at h;exact⟨o,r,rfl,e,h⟩
 |_=>exact h.elim
def ND (n:Bool)(hu:Rm X)(hd:fD fa)(ha:DE fa X a ga)(hb:DE fa X b gb)(hm:behindInMarks (if n then .NotIn else .In) b=false):DE fa X (.Compare a [if n then .NotIn else .In] [b] pos) (fZ n ga gb):=
 bO (qP (Fz hu hd n) ha hb hm) λσ H Q ⟨μ,Z,M,hE,hM,h⟩=>t2 hE hM h λx y M2 v u H2 μ2 x2 hE2 hM2 r1 r2 h2=>by
  obtain⟨o,r,rfl,e,q⟩:=xu h2;exact{μ2,M2,o,x,r,hM2,r1,r2,e,aV hM2 (q.ext x2) rfl}
def Lq (n:Bool)(hu:Rm X)(hd:fD fa)(ha:DE fa X a ga)(hb:DE fa X b gb)(hm:behindInMarks (if n then .NotIn else .In) b=false):DT fa X (.Compare a [if n then .NotIn else .In] [b] pos) (aj (fZ n ga gb)):=
 kM (qL (Fz hu hd n) ha hb hm) λσ H Q ⟨μ,Z,M,hE,hM,h⟩=>by
  obtain⟨z,M3,e,q⟩:=aL h;have h':ae (fZ n ga gb Z M) (λd M=>d=z/\M=M3):=by rw[e];exact⟨rfl,rfl⟩
  refine t2 hE hM h' λx y M2 v u H2 μ2 x2 hE2 hM2 r1 r2 h2=>?_;obtain⟨o,r,rfl,e1,e2,e3⟩:=xu h2;subst e2 e3;exact{μ2,M2,o,x,r,hM2,r1,r2,e1,n != r,rfl,q H2 μ2 x2 hM2}
def Ju (hu:Rm X)(hk:fD fa)(ha:DE fa X a ga)(hb:DE fa X b gb)(hd:DE fa X d gd)
 (h0:∀v,assign (.Subscript a b p2) X.env v=(do
  let ov <- holding [v] (eval a X.env)
  let iv <- holding [v,ov] (eval b X.env)
  standAt p2
  holding [v,ov,iv] (setItem ov iv v)
  release [v,ov,iv] [])) (hs:swapsWithSole [.Subscript a b p2] d pos.line X.env=pure false) (hw:swappedStores [.Subscript a b p2] d X.env=pure none) :
 DS fa X (.Assign [.Subscript a b p2] d pos) (gr ga gb gd):=
 dO (p6 hd (AI ha hb (GK hu hk) h0) hs hw) λD' σ H ⟨μ,Z,M,hE,hM,h⟩=>t1 hE hM h λz M1 v H1 μ1 x1 hE1 hM1 r1 h1=>t2 hE1 hM1 h1 λx y M2 vx vy H2 μ2 x2 hE2 hM2 rx ry h2=>by
  cases x with
  | fn o =>
    dsimp only at h2;cases e:bR M2 o with
    |none=>rw[e] at h2;exact h2.elim
    | some q =>
      rw[e] at h2;dsimp only at h2;split at h2
      ·next c=>
       have w:=h2;exact{μ2,M2,o,y,z,q,hM2,rx,ry,r1.ext x2,e,c.1,c.2,λH' x' m'=>w σ H' μ2 ((x1.trans x2).trans x') (hE2.ext x') m'}
      ·exact h2.elim
  |_=>exact h2.elim
def LN (c:Int)(hc:c=77\/c=78)(hd:fD fa):DE fa X (.Dict [] [] pos) (qk c):=by
 intro pins s σ H Q I ⟨μ,Z,M,hE,hM,h⟩;have hb:sysModules<s.heap.objs.size:=Nat.lt_trans `d (I.mod.glob.keeps I.bk).lt
 have hp:=I.hok.fresh (Ql _);refine wpAny_Dict_empty {.ref s.heap.objs.size,_,I.laid (o:=.dn []) (λ_ _ q=>Qk _ q) (Ql _) {RC _,R1.mpr (Ru (QY hb)),_,QG _ rfl,⟨rfl,rfl,rfl⟩,rfl},rfl,?_};refine h _ _ (nZ μ M.length s.heap.objs.size) (Ext.dicNew hM hp) (hM.dicNew hp hc) {_,rfl,.inr {hd.of _ (Sh _ _),?_}};show(if az M.length=az M.length then some s.heap.objs.size else _)=_;rw[if_pos rfl]
end
def uF (hd:(d==sysModules)=false) :
 MeetsIn prog w (Builtin.«dict.__len__» {[.ref d],[]}) (λ_ R s=>∃o es ep,s.heap.get? d=some o/\o.data=.dict es ep/\R (.ok (.ret (.int es.size s.toks))) {s with toks:=s.toks+1}):=
 .of_wp λA R s ⟨o,es,ep,ho,hdat,h⟩=>by
  show wpAny _ _ (dictSize d >>= _) _ _ s;refine tqa (tqa (wpAny_dictEntries ho hdat (tqb ?_)));refine tqa (wpAny_pendingCount_other hd (wpAny_ret_mkInt ?_));rw[Nat.add_zero];exact h
def KH (hd:(d==sysModules)=false)(ho:s.heap.get? d=some o)(hc:o.cls=.type "dict")(hdat:o.data=.dict es ep)(hfit:es.size<2^62)
 (h:∀t t',Q (.int es.size t) {s with toks:=t'}):wpAny (model prog w) A (call (.builtin "len") [.ref d]) Q E s:=by
 have hT:s.TypeIs (.ref d) "dict":=⟨o,ho,hc⟩;refine Calls.call_function_entry kind_len plain_len entry_len (args_len1 _) ?_;refine tqa (tqb ?_);refine tqa (wpAny_callSpecial?_slot hT F.slot_dict_len (call_meetsIn F.slot_dict_len hT F.entry_dict_len (F.args_dict_len_1 _) (uF hd) {o,es,ep,ho,hdat,?_}));refine tqa (tqo (tqb (tqa (wpAny_letGo ?_))));rw[if_neg `a]
 rw[if_neg `a]
 exact tqa (wpAny_mkInt (tqb {_,rfl,h _ _}))
noncomputable def fS (a:GE):GE:=λZ M=>(a Z M).bind λx M=>match x with
 | .fn o => (match bR M o with
   |some q=>.ok (.int q.2.length) M
   |none=>.bad)
 |_=>.bad
section
variable{fa:Fa}{X:Cx}{a:Expr}{ga:GE}{p pos:Pos}
def Lg (hd:fD fa):cY X (.builtin "len") (λxs H Q=>∃μ M o q v,xs=[v]/\RelM fa X.K μ H M/\Rep fa X.K μ H (.fn o) v/\bR M o=some q/\Q (.int q.2.length) H):=by
 intro pins s σ H xs us Q I r h;obtain⟨μ,M,o,q,v,rfl,hM,rv,e,k⟩:=h;obtain⟨b,kd,kvs,ys,rfl,ho,ha,em,hH,hc,e3,dp,nd⟩:=ni hd I hM rv e;cases r with
 | cons r rr =>
   cases rr;obtain rfl:=(r);obtain⟨z,y,ob,h1,h2,h3⟩:=(I.hok b _ hH);have el:(ys.map (entryOfKey kd.knd)).toArray.size=q.2.length:=by
    rw[e3,Qy,Qf,Qf];exact(Paired.length dp).symm
   refine KH y h1 h2.1 h3 ?_ λt t'=>{.int q.2.length,H,I.tok _,{t,by rw[el]},k}
   rw[Qy];rw[sizeLine_eq] at z;omega
def LO (hd:fD fa)(hg:Gl X "len")(hm:X.mg "len"=none)(ha:DE fa X a ga)(he:notStar a=true):DE fa X (.Call (.Name "len" p) [a] [] pos) (fS ga):=
 bO (lP (Lg hd) hg hm PySem.boot_len (c7 ha eI (by rw[bA he])) `d `d (by rw[bA he]) `r) λσ H Q ⟨μ,Z,M,hE,hM,h⟩=>t1 hE hM h λx M1 v H1 μ1 x1 hE1 hM1 r1 h1=>by
  cases x with
  | fn o =>
    dsimp only at h1;cases e:bR M1 o with
    |none=>rw[e] at h1;exact h1.elim
    |some q=>rw[e] at h1;exact{μ1,M1,o,q,v,rfl,hM1,r1,e,aV hM1 (a8.ext h1 x1) rfl}
  |_=>exact h1.elim
end
noncomputable def h9 (gk gv:GE):Env->List D->Mem->Res (List D):=λZ acc M=>(gk Z M).bind λk M=>(gv Z M).bind λv M=>match acc with
 | [.fn o] => (match bR M o with
   |some q=>if isKey q.1 k=true/\q.2.length<1000000 then .ok acc (M.set (o-5000) (.int q.1::putD q.2 k v)) else .bad
   |none=>.bad)
 |_=>.bad
noncomputable def ia (c:Int)(n:Nat)(t:fY)(gw:GW)(g:GB):GE:=λZ M=>(gw Z M).bind λw M=>(c9 (cx t g (List.replicate n none++Z)) w [.fn (az M.length)] (M++[[.int c]])).bind λacc M=>match acc with
 |[d]=>.ok d M
 |_=>.bad
noncomputable def xO (a:Addr):PA:=λμ _ acc=>∃o,acc=[.fn o]/\5000<=o/\μ.ob o=some a
def xO.stab:zg (xO a):=λ_ _ _ _ _ x ⟨o,h1,h2,h3⟩=>{o,h1,h2,x.obs _ _ h3}
def Cr (kx vx target iter:Expr)(scope:Scope)(pos:Pos)(it:Qi)(d:Addr)(env:R3) :
 compTurn (.DictComp kx vx [{target,iter,[],0}] scope pos) 0 it (.ref d) env=(standAt iter.pos >>= λ_=>pyNext it >>= λr=>match r with
  |none=>pure (.done .next)
  |some v=>letOwnedTupleGo target it v >>= λ_=>assign target env v >>= λ_=>(eval kx env >>= λkv=>holding [kv] (eval vx env) >>= λvv=>standAt {kx.pos with endLine:=vx.pos.endLine,endCol:=vx.pos.endCol} >>= λ_=>holding [kv,vv] (dictSet d kv vv)) >>= λ_=>again (.compLoop (.DictComp kx vx [{target,iter,[],0}] scope pos) 0 it (.ref d) env)):=`r
section
variable{fa:Fa}{X:Cx}{a:Addr}
def Ib (hu:Rm X)(hd:fD fa)(hk:DE fa X kx gk)(hv:DE fa X vx gv):DB fa X (xO a) a [] (eval kx X.env >>= λkv=>holding [kv] (eval vx X.env) >>= λvv=>standAt {kx.pos with endLine:=vx.pos.endLine,endCol:=vx.pos.endCol} >>= λ_=>holding [kv,vv] (dictSet a kv vv)) (h9 gk gv):=by
 rintro pins s σ H Q μ Z M _ I hE hM hc ⟨o,rfl,ho,hob⟩ h;obtain⟨k,M1,e,h⟩:=aL h;obtain⟨v,M2,e2,h⟩:=aL h;dsimp only at h;cases e3:bR M2 o with
 |none=>rw[e3] at h;exact h.elim
 | some q =>
   rw[e3] at h;dsimp only at h;split at h
   ·next c=>
    refine tqa (aT (hk pins s σ H (λv H1=>∃μ1,Ext μ H μ1 H1/\RelM fa X.K μ1 H1 M1/\Rep fa X.K μ1 H1 k v) I {μ,Z,M,hE,hM,?_}) λuk s1 ⟨wk,H1,I1,rk,μ1,x1,m1,r1⟩=>?_)
    ·rw[e];exact λv H1 μ1 x1 m1 r1=>⟨μ1,x1,m1,r1⟩
    refine tqa (tqo (aT (hv pins s1 σ H1 (λw H2=>∃μ2,Ext μ1 H1 μ2 H2/\RelM fa X.K μ2 H2 M2/\Rep fa X.K μ2 H2 v w) I1 {μ1,Z,M1,hE.ext x1,m1,?_}) λuv s2 ⟨wv,H2,I2,rv,μ2,x2,m2,r2⟩=>?_))
    ·rw[e2];exact λv H1 μ1 x1 m1 r1=>⟨μ1,x1,m1,r1⟩
    have ob2:=x2.obs _ _ (x1.obs _ _ hob);obtain⟨a',b,kd,kk,xs,ea,rfl,hi,hz,dd,fin⟩:=rn hd I2 m2 {a,rfl,.inr {hd.of _ ho,ob2}} (r1.ext x2) rk rv r2 e3 c.1 c.2;cases ea;refine tqa (wpAny_standAt (tqo (ma (hsz:=hz) (kd.room0 hu) hi dd λh' dd' hs=>?_)));obtain⟨H',I',x',m'⟩:=fin h' _ dd' hs;exact{σ,H',I',h σ H' μ2 ((x1.trans x2).trans x').toD (((hE.ext x1).ext x2).ext x') m' {o,rfl,ho,x'.obs _ _ ob2}}
   ·exact h.elim
def wa {c:Int}{rest:List Su}(hc:c=77\/c=78)(hd:fD fa)
 (S:fM X own bn scope) (hcalm:X.calm=true) (hi:DI fa X tg iter gw) (B:Block fa X xO own bn scope tg t W body g) (hT:∀(it a:Addr) (env:R3),compTurn (.DictComp kx vx ({tg,iter,ifs,0}::rest) scope pos) 0 (.ref it) (.ref a) env=(standAt iter.pos >>= λ_=>pyNext (.ref it) >>= λr=>match r with
  |none=>pure (.done .next)
  |some v=>letOwnedTupleGo tg (.ref it) v >>= λ_=>assign tg env v >>= λ_=>body a env >>= λ_=>again (.compLoop (.DictComp kx vx ({tg,iter,ifs,0}::rest) scope pos) 0 (.ref it) (.ref a) env))) (hW:∀i∈W,i∉slots t) (hn:∀i∈slots t++W,i<own.length)
 (hs:∀x,foldedSetIterable iter X.env x=pure x)
 (I:Inv X pins σ H s) (hE:bz fa X.K μ H σ Z) (hM:RelM fa X.K μ H M) (h:ae (ia c own.length t gw g Z M) (a8 fa X.K μ H Q))
 (post:∀(a C:Addr) (s':Qm) (H':Hp),Inv X pins σ H' s'->Q (.ref a) H'->(∃m,s'.heap.Ns C m)->(∀σ2 H2 s2,Inv X pins σ2 H2 s2->(H' C=none->H2 C=none)->H2 C=none/\∀h'',R6 C s2.heap h''->Inv X pins σ2 H2 {s2 with heap:=h''})->H' C=none->(C≠X.env.locals/\∀x c,X.env.cells.lookup x=some c->c≠C)->compPost (model X.prog X.w) X.A X.xe use QQ (.ref a) C (.ok .next) s') :
 wpAny (model X.prog X.w) X.A (comprehension (.DictComp kx vx ({tg,iter,ifs,0}::rest) scope pos) scope X.env p0 newDict false (eval iter X.env) use) QQ X.xe s:=by
 obtain⟨w,M1,ew,q⟩:=aL h;obtain⟨acc,M2,ea,q2⟩:=aL q;obtain⟨cl,hcl,hsub,hhas⟩:=qu λy hy hf=>I.ok.has y.1 (S.free y hy hf);refine wpAny_comprehension_free rfl hs hcl S.kind S.loc ?_;refine aT (hi pins s σ H (λJ H1=>∃μ1,Ext μ H μ1 H1/\RelM fa X.K μ1 H1 M1/\dP fa X.K μ1 H1 w J) I {μ,Z,M,hE,hM,?_}) λv s1 h1=>aT h1 λitv s2 h2=>?_
 ·rw[ew];exact λJ H1 μ1 x1 m1 wk=>⟨μ1,x1,m1,wk⟩
 obtain⟨it,fp,tn,J,H2,ei,I2,T,st2,f2,μ2,x2,m2,wk⟩:=h2;subst ei;refine tqa (wpAny_alloc (tqb ?_));have hb:sysModules<s2.heap.objs.size:=Nat.lt_trans `d (I2.mod.glob.keeps I2.bk).lt
 have ha:=I2.hok.fresh (Ql _);have I3:Inv X pins σ (upd H2 s2.heap.objs.size (.dn [])) {s2 with heap:=s2.heap.push {cls:=.type "dict",data:=.dict #[]}}:=
  I2.laid (λb o e=>Qk _ e) (Ql _) {RC _,R1.mpr (Ru (QY hb)),_,QG _ rfl,⟨rfl,rfl,rfl⟩,rfl}
 generalize hs3:({s2 with heap:=s2.heap.push {cls:=.type "dict",data:=.dict #[]}}:Qm)=s3 at I3 ⊢
 have k3:∀b o,s2.heap.get? b=some o->s3.heap.get? b=some o:=λb o e=>by rw[<- hs3];exact Qk _ e
 have fo2:=T.obj _ _ st2;have f3:∀b∈fp,fK X pins (upd H2 s2.heap.objs.size (.dn [])) b:=λb hb=>by
  obtain⟨o,e,_⟩:=fo2 b hb;exact{by rw[aH (QY (QH e))];exact(f2 b hb).1,(f2 b hb).2}
 have fo3:∀b∈fp,∃o,s3.heap.get? b=some o:=λb hb=>let{o,e,_}:=fo2 b hb;{o,k3 b o e}
 obtain⟨CL,hce⟩:=Fy S hsub hhas (s3.heap.push {cls:=.type "dict",data:=.dict #[]}) (Se ..);generalize hcl':cellsFrom (s3.heap.objs.size+1) scope.names cl=cl' at CL hce;refine sC ?_;rw[hcl'];have hns₁:(pushCells (s3.heap.push {cls:=.type "dict",data:=.dict #[]}) scope.names).Ns s3.heap.objs.size (λ_=>none):=(Heap.Ns.new s3.heap (.type "dict")).keeps (pushCells_keeps _ _);have k4:∀b o,s3.heap.get? b=some o->(pushCells (s3.heap.push {cls:=.type "dict",data:=.dict #[]}) scope.names).get? b=some o:=λb o e=>pushCells_keeps _ _ b o (Qk _ e);generalize pushCells (s3.heap.push {cls:=.type "dict",data:=.dict #[]}) scope.names=h₁ at hns₁ k4 hce ⊢;clear hcl hcl' hsub hhas cl
 rename List (Str×Addr)=>cl
 have I4:=vm (t':=s3.toks) I3 S CL f3 fo3 hns₁ k4 hce;have ok4:=I4.ok;have f4:∀b∈fp,fK (gn X own bn scope cl s3.heap.objs.size fp s3 (upd H2 s2.heap.objs.size (.dn []))) [] (upd H2 s2.heap.objs.size (.dn [])) b:=λb hb=>
  {(f3 b hb).1,(ok4.exf b hb).1,ok4.exfs b hb,.inl hb,(ok4.exf b hb).2,λp hp=>nomatch hp}
 have st4:=T.keep _ _ _ st2 λb hb o e=>k4 b o (k3 b o e);have x3:=Ext.dicNew m2 ha;have m3:=m2.dicNew ha hc;have go:=rB xO.stab (X:=gn X own bn scope cl s3.heap.objs.size fp s3 (upd H2 s2.heap.objs.size (.dn []))) (acc:=[.fn (az M1.length)]) (Q:=λ_ H'=>Q (.ref s2.heap.objs.size) H') (hT it s2.heap.objs.size _) ⟨rfl,rfl⟩ rfl hcalm T (B.pg _ _ _ _ _) (B.db _ _ _ _ _ _) hW I4 st4 f4
  (ud own.length ((hE.ext x2).ext x3)) m3 (sH hn) {_,rfl,Sh _ _,if_pos rfl} (rO wk x3.toExtW) (by
   rw[ea];rintro σ' H' μ' z1 z2 z3 ⟨o,rfl,ho,hob⟩;have z:Ext _ _ μ' H':={z1.toExtW,z1.pr,λb hb=>z1.pk b hb λe=>by
    obtain⟨⟨vs,q⟩,_⟩:=m2.pv b hb;rw[e,ha] at q;cases q}
   exact q2 (.ref s2.heap.objs.size) H' μ' ((x2.trans x3).trans z) z3 {_,rfl,.inr {hd.of _ ho,hob}})
 have go':codeAny (model X.prog X.w) X.A (.compLoop (.DictComp kx vx ({tg,iter,ifs,0}::rest) scope pos) 0 (.ref it) (.ref s2.heap.objs.size) (compEnvC scope cl s3.heap.objs.size X.env)) (compPost (model X.prog X.w) X.A X.xe use QQ (.ref s2.heap.objs.size) s3.heap.objs.size) {s3 with heap:=h₁}:=
  codeAny_mono go λr s' ⟨er,σ',H',I',z⟩=>by
   subst er;refine post _ _ s' H' (comp_back I3 f3 I') z (let{m,hn,_}:=I'.loc;⟨m,hn⟩) (λσ2 H2 s2' I2' hf=>{hf I'.free,λh'' hs''=>sF I3 (hf I'.free) I2' hs''}) I'.free {Rq I3.lt,λx c e z=>by
    obtain⟨v,q⟩:=I3.cell x c e;exact absurd q.lt (by rw[z];exact RH _)}
 exact codeAny_compStart_dict go' (T.self _ 0 _ _ _ st4 go')
def Ig {c:Int}{kx vx tg iter:Expr}{pos:Pos}(hc:c=77\/c=78)(hd:fD fa)
 (S:fM X own bn scope) (hcalm:X.calm=true) (hi:DI fa X tg iter gw) (B:Block fa X xO own bn scope tg t [] (λa env=>eval kx env >>= λkv=>holding [kv] (eval vx env) >>= λvv=>standAt {kx.pos with endLine:=vx.pos.endLine,endCol:=vx.pos.endCol} >>= λ_=>holding [kv,vv] (dictSet a kv vv)) (h9 gk gv)) (hn:∀i∈slots t++[],i<own.length)
 (hs:∀x,foldedSetIterable iter X.env x=pure x):DE fa X (.DictComp kx vx [{tg,iter,[],0}] scope pos) (ia c own.length t gw (h9 gk gv)):=by
 intro pins s σ H Q I ⟨μ,Z,M,hE,hM,h⟩;refine wa hc hd S hcalm hi B (λit a env=>Cr kx vx tg iter scope pos (.ref it) a env) (λ_ h=>nomatch h) hn hs I hE hM h ?_;intro a C s' H' I' q ⟨m,hn⟩ gone hf _;exact{m,hn,λh' hs'=>{.ref a,H',(gone σ H' s' I' id).2 h' hs',rfl,q}}
end
def D3 (hh:A.in1.handled=none)(hne:p≠I)(tr:Nat->Bool)(G:Heap->Prop)(hG:∀h h',G h->(∀b o,b∉[I]->h.get? b=some o->h'.get? b=some o)->G h')
 (htr:∀i v (s:Qm) (Q:Bool->Qm->Prop) (E:Qi->Qm->Prop),items[i]?=some v->G s.heap->(∀t,Q (tr i) {s with toks:=t})->wpAny (model prog w) A.in1 (truthy v) Q E s):∀(k i:Nat) (s:Qm),items.size-i=k->i<=items.size->(s.heap.IsListIter I p i/\s.heap.IsList p items)->G s.heap->
 (∀h' tk,G h'->R (.ok (.ret (.bool (((List.range items.size).drop i).any tr)))) {s with heap:=h',toks:=tk})->codeAny (model prog w) A (.builtin "any.loop" {[.ref I],[]}) R s:=by
 have W:=Walks.list (prog:=prog) (w:=w) hh I p hne items;intro k;induction k with
 | zero =>
   intro i s hk hi hst g hR;have hin:i=items.size:=`a
   subst hin;refine codeAny_builtin F.entry_any_loop ?_;rw[Sf F.plain_any_loop _];refine tqa (W.done s _ _ hst λh' tk hk'=>?_);refine tqa (wpAny_rule (tqb ?_));have:=hR h' tk (hG _ _ g hk');rw[List.drop_of_length_le `s] at this
   exact this
 | succ k ih =>
   intro i s hk hi hst g hR;have hlt:i<items.size:=`a
   have hd:(List.range items.size).drop i=i::(List.range items.size).drop (i+1):=by
    rw[List.drop_eq_getElem_cons (by simpa using hlt)];simp
   refine codeAny_builtin F.entry_any_loop ?_;rw[Sf F.plain_any_loop _];refine tqa (W.item i s _ _ hlt hst λv h' tk hP hst' hk'=>?_);refine tqa (tqo (htr i v _ _ _ hP (hG _ _ g hk') λt=>?_));refine tqa (wpAny_letGo ?_);cases hb:tr i with
   | false =>
     refine tqb {plainId_quiet F.plain_any_loop _,ih (i+1) _ `a hlt hst' (hG _ _ g hk') λh'' tk'' g''=>?_}
     have:=hR h'' tk'' g'';rw[hd,List.any_cons,hb,Bool.false_or] at this;exact this
   | true =>
     refine tqa (wpAny_rule (tqb ?_));have:=hR h' t (hG _ _ g hk');rw[hd,List.any_cons,hb,Bool.true_or] at this;exact this
def range_any (bs:List Bool):((List.range bs.length).any λi=>(bs[i]?).getD false)=bs.any id:=by
 rw[Rp,RS,RS];constructor
 ·rintro⟨i,_,e⟩;cases z:bs[i]? with
  |none=>rw[z] at e;cases e
  |some b=>rw[z] at e;exact{b,QR z,e}
 ·rintro⟨b,hb,e⟩;obtain⟨i,hi⟩:=List.getElem?_of_mem hb;exact{i,RP.mpr (Qg.mp hi).1,by rw[hi];exact e}
noncomputable def lF (M:Mem):D->Option Bool
 |.bl b=>some b
 |d=>(fo M d).map λxs=>!xs.isEmpty
def Cs (h:lF M d=some b):d=.bl b\/∃xs,fo M d=some xs/\b=!xs.isEmpty:=by
 cases d with
 |bl c=>cases h;exact .inl rfl
 | _ =>
   simp only[lF] at h;obtain⟨xs,e1,e2⟩:=QA.mp h;exact .inr ⟨xs,e1,e2.symm⟩
noncomputable def gR (M:Mem):List D->Option (List Bool)
 |[]=>some []
 |d::r=>(lF M d).bind λb=>(gR M r).map (b::·)
def tR:∀{ds:List D}{bs:List Bool},gR M ds=some bs->bs.length=ds.length/\∀(i:Nat) d,ds[i]?=some d->∃b,bs[i]?=some b/\lF M d=some b
 |[],_,h=>by cases h;exact{rfl,λ_ _ e=>by simp at e}
 | d :: ds, _, h => by
   obtain⟨b,e,h⟩:=Rl.mp h;obtain⟨bs,e2,rfl⟩:=QA.mp h;obtain⟨h1,h2⟩:=tR e2;refine{by simp[h1],λi d' z=>?_}
   cases i with
   |zero=>cases z;exact⟨b,rfl,e⟩
   |succ i=>exact h2 i d' z
noncomputable def kA (a:GE):GE:=λZ M=>(a Z M).bind λx M=>match fo M x with
 | some ds => (match gR M ds with
   |some bs=>.ok (.bl (bs.any id)) M
   |none=>.bad)
 |none=>.bad
section
variable{fa:Fa}{X:Cx}{a:Expr}{ga:GE}{p pos:Pos}
def Nk:cY X (.builtin "any") (λxs H Q=>∃μ M ds bs p vs,xs=[.ref p]/\X.calm=true/\RelM fa X.K μ H M/\cW X.K H p vs/\aK fa X.K μ H ds vs/\gR M ds=some bs/\Q (.bl (bs.any id)) H):=by
 intro pins s σ H xs us Q I r h;obtain⟨μ,M,ds,bs,p,vs,rfl,hc,hM,hq,rl,eb,q⟩:=h;obtain⟨u,rfl,rx⟩:=vals1 r;cases rx;obtain⟨its,rv,pl,hz⟩:=I.list hq;obtain⟨hl,hb⟩:=tR eb;have hlt:=pl.lt;refine call_function_tree F.kind_any F.plain_any F.entry_any (F.args_any1 _) ?_;refine tqa (tqb ?_);refine tqa (wpAny_pyIter_list pl.isList ?_);refine tqb {plainId_quiet F.plain_any_loop _,D3 (I.ok.hd hc) (QY hlt) (λi=>(bs[i]?).getD false) (λh=>∀b o,s.heap.get? b=some o->h.get? b=some o) (λh h' g k b o e=>k b o (λz=>by rw[Qw.mp z] at e;exact absurd (QH e) (RH _)) (g b o e)) ?_ its.toArray.size 0 _ rfl (RC _) {{_,QG _ rfl,rfl,rfl},pl.isList.push _} (λb o e=>Qk _ e) λh' tk g=>?_}
 ·intro i v s' Q' E' e g hQ;have e:its[i]?=some v:=by simpa using e
  have hi:i<vs.length:=by rw[rv.length];exact(Qg.mp e).1
  obtain⟨d,ed,rd⟩:=rl.getV (Qq hi);obtain⟨u,eu,ru⟩:=rv.get (Qq hi);rw[e] at eu;cases eu;obtain⟨b,e1,e2⟩:=hb i d ed;rw[e1] at hQ;have list:∀xs,fo M d=some xs->b=!xs.isEmpty->wpAny (model X.prog X.w) X.A.in1 (truthy v) Q' E' s':=λxs e3 e4=>by
   obtain⟨a,ws,ev,hw,rw'⟩:=bN hM rd e3;rw[ev] at ru;obtain rfl:=(ru);have I':Inv X pins σ H {s with heap:=s'.heap,toks:=s.toks}:=I.kept g
   obtain⟨its',rv',pl',hz'⟩:=I'.list hw;have hlen:=rv'.length;have hs:=sizeLine_eq;refine wpAny_truthy_list pl'.isList (by simp only[Qy];omega) ?_
   rw[lX rv',show ws.isEmpty=xs.isEmpty by rw[Rp,List.isEmpty_iff_length_eq_zero,List.isEmpty_iff_length_eq_zero,rw'.length],<- e4]
   exact hQ _
  rcases Cs e2 with rfl|⟨xs,e3,e4⟩
  ·rw[show vs[i]=V.bl b from rd] at ru;obtain rfl:=(ru);exact tqp (hQ _)
  ·exact list xs e3 e4
 ·rw[List.drop_zero,Qy,<- rv.length,rl.length,<- hl,range_any];exact{.bl _,H,I.kept g,rfl,q}
def NI (hc:X.calm=true)(hg:Gl X "any")(hm:X.mg "any"=none)(ha:DE fa X a ga)(he:notStar a=true):DE fa X (.Call (.Name "any" p) [a] [] pos) (kA ga):=
 bO (lP (Nk) hg hm `k (c7 ha eI (by rw[bA he])) `d `d (by rw[bA he]) `r) λσ H Q ⟨μ,Z,M,hE,hM,h⟩=>t1 hE hM h λx M1 v H1 μ1 x1 hE1 hM1 r1 h1=>by
  cases e:fo M1 x with
  |none=>rw[e] at h1;exact h1.elim
  | some ds =>
    rw[e] at h1;dsimp only at h1;cases e2:gR M1 ds with
    |none=>rw[e2] at h1;exact h1.elim
    | some bs =>
      rw[e2] at h1;obtain⟨a,vs,rfl,hq,r⟩:=bN hM1 r1 e;exact{μ1,M1,ds,bs,a,vs,rfl,hc,hM1,hq,r,e2,aV hM1 (a8.ext h1 x1) rfl}
end
noncomputable def xg (c:Int)(gk gv:GE):GE:=λZ M=>(gk Z (M++[[.int c]])).bind λk M1=>(gv Z M1).bind λv M2=>match bR M2 (az M.length) with
 |some q=>if isKey q.1 k=true/\q.2.length<1000000 then .ok (.fn (az M.length)) (M2.set (az M.length-5000) (.int q.1::putD q.2 k v)) else .bad
 |none=>.bad
section
variable{fa:Fa}{X:Cx}{kx vx:Expr}{gk gv:GE}{pos:Pos}
def Ie (c:Int)(hc:c=77\/c=78)(hu:Rm X)(hd:fD fa)(hk:DE fa X kx gk)(hv:DE fa X vx gv):DE fa X (.Dict [some kx] [vx] pos) (xg c gk gv):=by
 intro pins s σ H Q I ⟨μ,Z,M,hE,hM,h⟩;obtain⟨k,M1,e1,h⟩:=aL h;obtain⟨v,M2,e2,h⟩:=aL h;cases e3:bR M2 (az M.length) with
 |none=>rw[e3] at h;exact h.elim
 | some q =>
   rw[e3] at h;dsimp only at h;split at h
   ·next cc=>
    have hb:sysModules<s.heap.objs.size:=Nat.lt_trans `d (I.mod.glob.keeps I.bk).lt
    have ha:=I.hok.fresh (Ql _);have I0:Inv X pins σ (upd H s.heap.objs.size (.dn [])) {s with heap:=s.heap.push {cls:=.type "dict",data:=.dict #[]}}:=
     I.laid (λb o e=>Qk _ e) (Ql _) {RC _,R1.mpr (Ru (QY hb)),_,QG _ rfl,⟨rfl,rfl,rfl⟩,rfl}
    have x0:=Ext.dicNew hM ha;have m0:=hM.dicNew ha hc;have hob:(nZ μ M.length s.heap.objs.size).ob (az M.length)=some s.heap.objs.size:=if_pos rfl;refine wpAny_Dict_any rfl rfl `s (QM rfl) ?_
    refine tqa (aT (hk pins _ σ _ (λv H1=>∃μ1,Ext (nZ μ M.length s.heap.objs.size) (upd H s.heap.objs.size (.dn [])) μ1 H1/\RelM fa X.K μ1 H1 M1/\Rep fa X.K μ1 H1 k v) I0 {_,Z,_,hE.ext x0,m0,?_}) λuk s1 ⟨wk,H1,I1,rk,μ1,x1,n1,r1⟩=>?_)
    ·rw[e1];exact λv H1 μ1 x1 m1 r1=>⟨μ1,x1,m1,r1⟩
    refine tqa (tqo (tqa (aT (hv pins s1 σ H1 (λw H2=>∃μ2,Ext μ1 H1 μ2 H2/\RelM fa X.K μ2 H2 M2/\Rep fa X.K μ2 H2 v w) I1 {μ1,Z,M1,(hE.ext x0).ext x1,n1,?_}) λuv s2 ⟨wv,H2,I2,rv,μ2,x2,m2,r2⟩=>?_)))
    ·rw[e2];exact λv H1 μ1 x1 m1 r1=>⟨μ1,x1,m1,r1⟩
    refine tqa (wpAny_standAt (tqb ?_));refine tqa (tqo (tqb (tqb ?_)));have ob2:=x2.obs _ _ (x1.obs _ _ hob);obtain⟨a',b,kd,kk,xs,ea,rfl,hi,hz,dd,fin⟩:=rn hd I2 m2 {_,rfl,.inr {hd.of _ (Sh _ _),ob2}} (r1.ext x2) rk rv r2 e3 cc.1 cc.2;cases ea;unfold storeAll;rw[List.forIn_cons];refine tqa (tqa (ma (hsz:=hz) (kd.room0 hu) hi dd λh' dd' hs=>tqb ?_));obtain⟨H',I',x',m'⟩:=fin h' _ dd' hs;refine tqb {.ref s.heap.objs.size,H',I',rfl,h _ H' μ2 (((x0.trans x1).trans x2).trans x') m' {_,rfl,.inr {hd.of _ (Sh _ _),x'.obs _ _ ob2}}}
   ·exact h.elim
end
section
variable{prog:Ra}{w:Rb}{A:RR}{E:Qi->Qm->Prop}{s:Qm}{it d:Addr}{i ep:Nat}{od:Obj}{es:Array RK}{e:RK}{Q:Option Qi->Qm->Prop}{QV:Qi->Qm->Prop}
def Bc (hd:(d==sysModules)=false)(ho:s.heap.get? d=some od)(hc:od.ExactDict)(hdat:od.data=.dict es ep)
 (hQ:QV (.ref s.heap.objs.size) {s with heap:=s.heap.push {cls:=.type "dict_keyiterator",data:=.fields #[.ref d,.int 0 0,.int es.size 0,.int ep 0]}}) :
 wpAny (model prog w) A (pyIter (.ref d)) QV E s:=by
 have hT:s.TypeIs (.ref d) "dict":=⟨od,ho,hc.1⟩;refine wpAny_pyIter_slot hT F.slot_dict_iter (wpAny_call_entry F.slot_dict_iter hT F.entry_dict_iter ?_ (F.args_dict_iter_1 _));refine tqa ?_;refine tqa (wpAny_notOrdered_dict hT ?_);refine tqb ?_;show wpAny _ _ (Builtin.Dict.showsAll d >>= _) _ _ s;unfold Builtin.Dict.showsAll;rw[if_neg (by rw[hd];exact QP)]
 refine tqa (tqb ?_);refine tqa (wpAny_dictEntries ho hdat ?_);refine tqa (wpAny_dictEpoch ho hdat ?_);refine tqa (wpAny_newObj_type (tqb {_,rfl,"dict_keyiterator",_,{_,QG _ rfl,rfl},F.slot_dict_keyiterator_next.lookup,?_}));simpa[rawInt] using hQ
def uM (hit:s.heap.IsKeyIter it d i es.size ep)(hod:s.heap.get? d=some od)(hdd:od.data=.dict es ep)(hx:es[i]?=some e)
 (hQ:∀h',h'.IsKeyIter it d (i+1) es.size ep->R6 it s.heap h'->Q (some e.key) {s with heap:=h'}):wpAny (model prog w) A (pyNext (.ref it)) Q E s:=by
 obtain⟨o,ho,hc,hd⟩:=id hit;refine tqa (wpAny_attempt (wpAny_callSpecial?_slot hit.typeIs SD
  (wpAny_call_entry SD hit.typeIs F.entry_dict_keyiterator_next ?_ (F.args_dict_keyiterator_next_1 _))))
 refine tqa (tqb ?_);refine tqa ?_;refine tqa ?_;first|refine tqa (wpAny_typeNameOfWhole_keyiter hit.typeIs (tqb ?_))|refine tqa (wpAny_typeNameOf_keyiter hit.typeIs (tqb ?_))
 refine tqa (wpAny_fieldsOf ho hd ?_);show wpAny _ _ (if (Value.ref d==Value.none)=true then _ else _) _ _ s;rw[if_neg (show ¬ ((Value.ref d==Value.none)=true) from QP)];refine tqa (tqb ?_);refine tqa (wpAny_dictEntries hod hdd ?_);rw[if_neg `s]
 refine tqa (tqb ?_);refine tqa (wpAny_dictEpoch hod hdd ?_);rw[if_neg `s]
 refine tqb ?_;simp only[show ¬ ((i:Int)<0) from by omega,if_false,RF,hx]
 refine tqa ?_;first|refine tqa (wpAny_typeNameOfWhole_keyiter hit.typeIs (tqb ?_))|refine tqa (wpAny_typeNameOf_keyiter hit.typeIs (tqb ?_))
 refine tqa (wpAny_isOneOf_keyiter hit.typeIs ?_);show wpAny _ _ (setField (.ref it) 1 (rawInt ((i:Int)+1)) >>= _) _ _ s;refine tqa (wpAny_setField ho hd `s ?_)
 have hit':(s.heap.update it (Obj.mapFields (·.setIfInBounds 1 (rawInt ((i:Int)+1))))).IsKeyIter it d (i+1) es.size ep:=
  {_,Ro _ ho (SF (RZ hd _)),(Obj.cls_mapFields ..).trans hc,by rw[RZ hd];simp[rawInt]}
 refine tqa (tqo ?_);refine tqa (wpAny_isOneOf_keyiter hit'.typeIs ?_);exact tqb (tqb {_,rfl,tqb (hQ _ hit' (RM ..))})
def w5 (hh:A.handled=none)(hit:s.heap.IsKeyIter it d i es.size ep)(hod:s.heap.get? d=some od)(hdd:od.data=.dict es ep)(hge:es.size<=i)
 (hQ:∀h',Heap.ExtBut it s.heap h'->Q none {s with heap:=h'}):wpAny (model prog w) A (pyNext (.ref it)) Q E s:=by
 obtain⟨o,ho,hc,hd⟩:=id hit;refine tqa (wpAny_attempt (wpAny_callSpecial?_slot hit.typeIs SD
  (wpAny_call_entry SD hit.typeIs F.entry_dict_keyiterator_next ?_ (F.args_dict_keyiterator_next_1 _))))
 refine tqa (tqb ?_);refine tqa ?_;refine tqa ?_;first|refine tqa (wpAny_typeNameOfWhole_keyiter hit.typeIs (tqb ?_))|refine tqa (wpAny_typeNameOf_keyiter hit.typeIs (tqb ?_))
 refine tqa (wpAny_fieldsOf ho hd ?_);have hown:Builtin.Dict_items.ownsTuple "dict_keyiterator"=false:=`d
 show wpAny _ _ (if (Value.ref d==Value.none)=true then _ else _) _ _ s;rw[if_neg (show ¬ ((Value.ref d==Value.none)=true) from QP)];refine tqa (tqb ?_);refine tqa (wpAny_dictEntries hod hdd ?_);rw[if_neg `s]
 refine tqa (tqb ?_);refine tqa (wpAny_dictEpoch hod hdd ?_);rw[if_neg `s]
 refine tqb ?_;simp only[show ¬ ((i:Int)<0) from by omega,if_false,RF,Array.getElem?_eq_none hge]
 refine tqa ?_;first|refine tqa (wpAny_typeNameOfWhole_keyiter hit.typeIs (tqb ?_))|refine tqa (wpAny_typeNameOf_keyiter hit.typeIs (tqb ?_))
 show wpAny _ _ (setField (.ref it) 0 .none >>= _) _ _ s;refine tqa (wpAny_setField ho hd `s ?_)
 refine tqa ?_;refine tqa (wpAny_newObj_type ?_ (by size_fits))
 refine tqa (wpAny_of_eq (by first|rfl|(simp only[firstArgMember];rfl)) ?_)
 refine wpAny_newObj_type ?_ (by size_fits)
 refine tqa (wpAny_handled ?_);rw[show A.in1.handled=none from hh];refine tqa (tqb (wpAny_throw ?_));refine tqa (wpAny_isInstance {_,QG _ rfl,rfl} isSubtype_stop ?_);exact tqb (hQ _ (((RM ..).extBut.push _).push _))
end
noncomputable def Mh (a:Addr)(n:Nat)(f:RK->Qi):It:=
 {λi H=>∃es e x,H a=some (.dn es)/\es.length=n/\es[i]?=some e/\RelV x (f e),λi H x H'=>H'=H/\∀es e,H a=some (.dn es)->es[i]?=some e->RelV x (f e),λi H=>∃es,H a=some (.dn es)/\es.length=n/\n<=i}
def zT {K:Qh}(a it:Addr)(n:Nat):Turn P w K tg (Mh a n (·.key)) [it] it (λi h=>h.IsKeyIter it a i n n) where
 mem:=`s
 obj:=λi h st b hb=>by
  have e:b=it:=by simpa using hb
  subst e;obtain⟨o,e,c,d⟩:=st;exact{o,e,λv z=>by rw[d] at z;cases z}
 keep:=λi h h' st k=>st.at λo e=>k it `s o e
 item:=by
  intro X hP hw hK hc i pins s σ H E I hf st hg;subst hP hw hK;obtain⟨es,e,x,hH,rfl,he,rx⟩:=hg;obtain⟨z,y,o,h1,h2,h3⟩:=(I.hok a _ hH);obtain⟨f0,f1,f2,f3,f4,f5⟩:=hf it `s
  refine uM (by simpa using st) h1 h3 (by simpa using he) λh' st' sb=>?_
  have I1:=I.turned (t':=s.toks) (λb o hb e=>(sb.2 b hb).trans e) f0 f1 f3 f4 f5;obtain⟨o',e',c',d'⟩:=id st';exact{e.key,rfl,tj e' c' d' `d {x,H,I1,rx,{rfl,λes' e2 q1 q2=>by rw[hH] at q1;cases q1;rw[he] at q2;cases q2;exact rx},by simpa using st',λb hb=>(hf b hb).1}}
 done:=by
  intro X hP hw hK hc i pins s σ H E I hf st hg;subst hP hw hK;obtain⟨es,hH,rfl,hl⟩:=hg;obtain⟨z,y,o,h1,h2,h3⟩:=(I.hok a _ hH);obtain⟨f0,f1,f2,f3,f4,f5⟩:=hf it `s
  exact w5 (I.ok.hd hc) (by simpa using st) h1 h3 (by simpa using hl) λh' eb=>{rfl,I.turned (λb o hb e=>eb b o hb e) f0 f1 f3 f4 f5}
 self:=λ_ _ _ _ _ st h=>wpAny_pyIter_keyiter st h
noncomputable def dW (o n:Nat)(f:D->D):Walk:=λM=>match bR M o with
 |some q=>if q.2.length=n then some (q.2.map f) else none
 |none=>none
noncomputable def eK (f:D->D)(ga:GE):GW:=λZ M=>(ga Z M).bind λx M=>match x with
 | .fn o => (match bR M o with
   |some q=>.ok (dW o q.2.length f) M
   |none=>.bad)
 |_=>.bad
def R5.get {α β:Type}{F:α->β->Prop}:∀{l:List α}{r:List β}{i:Nat}{a:α},R5 F l r->l[i]?=some a->∃b,r[i]?=some b/\F a b
 |_,_,0,_,.cons h t,e=>by cases e;exact{_,rfl,h}
 |_,_,i+1,_,.cons h t,e=>R5.get t (i:=i) e
section
variable{fa:Fa}{X:Cx}{K:Qh}{μ:Mu}{H:Hp}{M:Mem}
def rj (hd:fD fa)(hM:RelM fa K μ H M)(ha:μ.ob o=some a)(e:bR M o=some q):∃(es:List RK) (kvs:List (D×D)),H a=some (.dn es)/\q.2=kvs.map iK/\R5 (nI fa K μ H q.1) kvs es:=by
 unfold bR at e;split at e
 ·next ho=>
  split at e
  ·next c es em=>
   split at e
   ·next hc=>
    cases e;have eo:az (o-5000)=o:=Nat.add_sub_cancel' ho;rcases hM.at' _ _ em with⟨b,vs,h1,_⟩|⟨b,h1,h2,⟨n,C,dx,fs,es',h3,h4,h5,h6,h7⟩|⟨c',es',kvs,h3,h4,h5,h6,h7⟩⟩
    ·have:=hM.sep _ _ h1;rw[eo,ha] at this;cases this
    ·have h6:=(List.cons.inj h6).1;have h6:=D.int.inj h6;rcases hc with rfl|rfl
     ·have:n=77:=`a
      rw[this,hd.n77] at h3;cases h3
     ·have:n=78:=`a
      rw[this,hd.n78] at h3;cases h3
    ·rw[eo,ha] at h1;cases h1;obtain⟨e1,e2⟩:=List.cons.inj h5;cases D.int.inj e1;exact⟨es',kvs,h3,e2,h6⟩
   ·cases e
  ·cases e
 ·cases e
def B6 (hd:fD fa)(hg:∀{μ:Mu}{H:Hp}{c:Int}{p:D×D}{e:RK},nI fa K μ H c p e->∃v,RelV v (g e)/\Rep fa K μ H (f (iK p)) v)(ha:μ.ob o=some a):dP fa K μ H (dW o n f) (Mh a n g):=λμ' H' M' ds x hM' e=>by
 unfold dW at e;cases eq:bR M' o with
 |none=>rw[eq] at e;cases e
 | some q =>
   rw[eq] at e;dsimp only at e;split at e
   ·next hl=>
    cases e;obtain⟨es,kvs,hH,eqs,pr⟩:=rj hd hM' (x.obs _ _ ha) eq;have hlen:es.length=n:=by rw[<- hl,eqs,Qf];exact(Paired.length pr).symm
    refine{λi d hi=>?_,λi hi=>{es,hH,hlen,by rw[Qf,hl] at hi;exact hi}}
    rw[QC,eqs,QC] at hi;cases ep:kvs[i]? with
    |none=>rw[ep] at hi;cases hi
    | some p =>
      rw[ep] at hi;cases hi;obtain⟨en,hen,r⟩:=R5.get pr ep;obtain⟨v,rv,rd⟩:=hg r;refine{⟨es,en,v,hH,hlen,hen,rv⟩,λy H2 ⟨e2,hy⟩=>?_};subst e2;rw[(hy es en hH hen).inj rv];exact{.refl,hM',rd}
   ·cases e
def HJ {c:Int}(h:nI fa K μ H c p e):∃v,RelV v e.key/\Rep fa K μ H (cV (iK p)) v:=let{b,_,h1,_,h2,_}:=h;{.ref b,h1,h2}
variable{a tg:Expr}{ga:GE}{apos cpos:Pos}
abbrev Mi (fa:Fa)(X:Cx)(f:D->D)(pins:List (Addr×Obj))(σ:L2.St)(R:It->Hp->Prop)(v:Qi)(s1:Qm):Prop:=∃(b:Addr) (es:List RK) (H1:Hp),v=.ref b/\Inv X pins σ H1 s1/\H1 b=some (.dn es)/\∀g,(∀{μ:Mu}{H:Hp}{c:Int}{p:D×D}{e:RK},nI fa X.K μ H c p e->∃v,RelV v (g e)/\Rep fa X.K μ H (f (iK p)) v)->R (Mh b es.length g) H1
def HX (hd:fD fa)(q:ae (match x with|.fn o=>(match bR M1 o with|some q=>Res.ok (dW o q.2.length f) M1|none=>.bad)|_=>.bad) λw M'=>∀J H' μ',Ext μ H μ' H'->RelM fa X.K μ' H' M'->dP fa X.K μ' H' w J->R J H')(I1:Inv X pins σ H1 s1)(rv:RelV v u)(x1:Ext μ H μ1 H1)(m1:RelM fa X.K μ1 H1 M1)(r1:Rep fa X.K μ1 H1 x v):Mi fa X f pins σ R u s1:=by
 cases x with
 | fn o =>
   dsimp only at q;cases ed:bR M1 o with
   |none=>rw[ed] at q;exact q.elim
   | some qq =>
     rw[ed] at q;obtain⟨b,rfl,hb⟩:=r1;have ho:5000<=o:=by
      unfold bR at ed;split at ed
      ·assumption
      ·cases ed
     rcases hb with hb|⟨_,hb⟩
     ·rw[hd.of o ho] at hb;cases hb
     obtain⟨es,kvs,hH,e3,pr⟩:=rj hd m1 hb ed;have hl:es.length=qq.2.length:=by rw[e3,Qf];exact(Paired.length pr).symm
     exact{b,es,H1,rv,I1,hH,λg hg=>q _ H1 μ1 x1 m1 (hl ▸ B6 hd hg hb)}
 |_=>exact q.elim
def DL (hd:fD fa)(ha:DE fa X a ga)(I:Inv X pins σ H s)(h:tI fa X.K (eK f ga) σ H R):wpAny (model X.prog X.w) X.A (eval a X.env) (Mi fa X f pins σ R) X.xe s:=by
 obtain⟨μ,Z,M,hE,hM,h⟩:=h;obtain⟨x,M1,e,q⟩:=aL h;refine aT (ha pins s σ H (λv H1=>∃μ1,Ext μ H μ1 H1/\RelM fa X.K μ1 H1 M1/\Rep fa X.K μ1 H1 x v) I {μ,Z,M,hE,hM,?_}) λu s1 ⟨v,H1,I1,rv,μ1,x1,m1,r1⟩=>HX hd q I1 rv x1 m1 r1;rw[e];exact λv H1 μ1 x1 m1 r1=>⟨μ1,x1,m1,r1⟩
def H8 (hd:fD fa)(ha:DE fa X a ga):DI fa X tg a (eK cV ga):=λpins s σ H R I h=>by
 refine aT (DL hd ha I h) λv s1 ⟨b,es,H1,ev,I1,hH,q⟩=>?_;subst ev;obtain⟨z,y,o,h1,h2,h3⟩:=(I1.hok b _ hH);refine Bc y h1 h2 h3 ?_;refine{s1.heap.objs.size,[s1.heap.objs.size],_,_,H1,rfl,I1.kept λb o e=>Qk _ e,zT b _ es.length,{_,QG _ rfl,rfl,rfl},λb hb=>?_,q _ HJ};have e:b=s1.heap.objs.size:=by simpa using hb
 subst e;exact I1.fpOk (Ql _) (I1.hok.fresh (Ql _))
end
section
variable{fa:Fa}{X:Cx}{a tg iter:Expr}{ga:GE}{gw:GW}{apos cpos:Pos}
noncomputable def nQ (a d:GE):GS:=λZ M=>(a Z M).bind λx M=>match x with
 | .cell k => tM (λz M => match M[k]? with
   |some ds=>if ds.length<sz then .ok (.next Z) (M.set k (ds++[z])) else .bad
   |none=>.bad) Z (d Z M)
 |_=>.bad
def HQ (ha:DE fa X a ga)(hd:DX fa X d gd)(hbase:attributeBase a "append" X.env (eval a X.env)=eval a X.env)(hline:(apos.endLine==cpos.line)=true)(hs:starEach [d] X.env=[(false,eval d X.env)])
 (hsw:swapsWith (.Call (.Attribute a "append" apos) [d] [] cpos) none pos.line X.env=pure false) :
 DS fa X (.Expr (.Call (.Attribute a "append" apos) [d] [] cpos) pos) (nQ ga gd):=
 dO (kQ (yi PySem.F.plainAttrs_list PySem.F.slot_list_append PySem.F.type_list_append mO ha (c7 hd eI hs) hbase (by rw[hs];rfl) hline hs `r) hsw) λD' σ H ⟨μ,Z,M,hE,hM,h⟩=>by
  obtain⟨x,M1,e1,h1⟩:=aL h;cases x with
  | cell k =>
    refine{μ,Z,M,hE,hM,?_};rw[e1];intro vx H1 μ1 x1 hM1 rx;obtain⟨ad,rfl,hk⟩:=rx;obtain⟨ds1,ws1,_,hH1,_⟩:=hM1.mu_lt hk;refine{.inl {rfl,ws1,cW.of hH1},μ1,Z,M1,hE.ext x1,hM1,?_};cases e2:gd Z M1 with
    |bad=>rw[e2] at h1;exact h1.elim
    | err y M2 =>
      rw[e2] at h1;exact XW.ext h1 x1
    | ok z M2 =>
      rw[e2] at h1;have h2:ae (match M2[k]? with|some ds=>if ds.length<sz then Res.ok (Fl.next Z) (M2.set k (ds++[z])) else .bad|none=>.bad) (mE fa X μ H D'):=h1
      cases e:M2[k]? with
      |none=>rw[e] at h2;exact h2.elim
      | some ds =>
        rw[e] at h2;dsimp only at h2;split at h2
        ·next hz=>
         have q:=h2;intro vz H2 μ2 x2 hM2 rz;obtain⟨ws,h4,h5⟩:=hM2.at_ e (x2.mu k ad hk);refine{ad,ws,vz,rfl,rfl,h4,by rw[h5.length,<- dR];exact hz,?_}
         exact jU ((hE.ext x1).ext x2) hM2 (x2.mu k ad hk) (h5.append (.one rz)) λσ' H' μ' x' e' m'=>q σ' H' μ' ((x1.trans x2).trans x') e' m'
        ·exact h2.elim
  |_=>exact h1.elim
end
noncomputable def jY:List Int->List Int->Bool
 |[],[]=>false
 |[],_::_=>true
 |_::_,[]=>false
 |a::x,b::y=>if (a==b)=true then jY x y else decide (a<b)
noncomputable def rN (A:RR)(s:Qm)(x y:Qi)(k:Bool):Prop:=∀(prog:Ra) (w:Rb) (E:Qi->Qm->Prop) (Q:Qi->Qm->Prop),Q (.bool k) s->wpAny (model prog w) A (richCompare .Lt x y) Q E s
def ints_get (h:Sw us is)(i:Nat)(hi:i<us.length):∃a t,us[i]?=some (.int a t)/\is.drop i=a::is.drop (i+1):=by
 induction h generalizing i with
 |nil=>exact absurd hi (RQ _)
 | cons a t _ ih =>
   cases i with
   |zero=>exact⟨a,t,rfl,rfl⟩
   |succ i=>exact ih i (Nat.lt_of_succ_lt_succ hi)
def Hu (l b:Addr)(us vs:List Qi)(is js:List Int)(n n2:Nat)(dd dd2:Option Addr)(sl sl2:Array (Option Qi))(hu:Sw us is)(hv:Sw vs js):∀(k i:Nat),us.length-i=k->i<=us.length->i<=vs.length->
 Meets (Builtin.«list.__eq__.loop» {[.ref l,.ref b,rawInt i,rawInt 0],[]}) (λ_ R s=>s.heap.get? l=some {.type "list",dd,.seq us.toArray n,sl}/\s.heap.get? b=some {.type "list",dd2,.seq vs.toArray n2,sl2}/\R (.ok (.ret (.bool (jY (is.drop i) (js.drop i))))) s):=by
 intro k;induction k with
 | zero =>
   intro i hk h1 h2 prog w A R s h;obtain⟨hp,g,d,tk,os⟩:=s;obtain⟨hl,hb,h⟩:=h;wp_walk using QZ hl,QZ hb
   have e1:us.toArray[((i:Nat):Int).toNat]?=none:=by simp;omega
   rw[e1];wp_walk using QZ hl,QZ hb
   have el:=hv.length;rw[List.drop_of_length_le (show is.length<=i by rw[<- hu.length];omega)] at h
   refine cast (congrArg (λz=>R (.ok (.ret (.bool z))) _) ?_) h;cases e:js.drop i with
   | nil =>
     have:=List.drop_eq_nil_iff.mp e;simp[jY];omega
   | cons c r =>
     have:i<js.length:=by
      rcases RU i js.length with z|z
      ·exact z
      ·rw[List.drop_of_length_le z] at e;cases e
     simp[jY];omega
 | succ k ih =>
   intro i hk h1 h2 prog w A R s h;obtain⟨hp,g,d,tk,os⟩:=s;obtain⟨hl,hb,h⟩:=h;obtain⟨a,t,ea,da⟩:=ints_get hu i `a
   wp_walk using QZ hl,QZ hb
   have e1:us.toArray[((i:Nat):Int).toNat]?=some (.int a t):=by simpa using ea
   rw[da] at h;rcases RU i vs.length with z|z
   ·obtain⟨c,u,ec,dc⟩:=ints_get hv i z;have e2:vs.toArray[((i:Nat):Int).toNat]?=some (.int c u):=by simpa using ec
    rw[e1,e2];rw[dc] at h;refine tqa (PySem.SeqAt.EqAt.int_int a t c u prog w _ _ ?_);cases hb':(a==c) with
    | true =>
      rw[show jY (a::is.drop (i+1)) (c::js.drop (i+1))=jY (is.drop (i+1)) (js.drop (i+1)) from if_pos hb'] at h;wp_walk
      rw[show((i:Int)+1)=((i+1:Nat):Int) from rfl];exact{plainId_quiet MeetsSeq3.plain_eq_loop _,codeAny_builtin MeetsSeq3.entry_eq_loop (by
       rw[Sf MeetsSeq3.plain_eq_loop _];exact ih (i+1) `a `a z prog w A R _ ⟨hl,hb,h⟩)}
    | false =>
      rw[show jY (a::is.drop (i+1)) (c::js.drop (i+1))=decide (a<c) from if_neg (by rw[hb'];exact QP)] at h
      wp_walk using QZ hl,QZ hb
      rw[e1,e2];refine tqa (wpAny_lt_int ?_);exact tqb h
   ·have e2:vs.toArray[((i:Nat):Int).toNat]?=none:=by simp;omega
    rw[e1,e2];wp_walk using QZ hl,QZ hb
    rw[List.drop_of_length_le (show js.length<=i by rw[<- hv.length];omega)] at h
    refine cast (congrArg (λz=>R (.ok (.ret (.bool z))) _) ?_) h;simp[jY];omega
def rN.lists (hl:s.heap.IsList l us.toArray)(hb:s.heap.IsList b vs.toArray)(hu:Sw us is)(hv:Sw vs js)(hr:A.units<cLine):rN A s (.ref l) (.ref b) (jY is js):=λprog w E Q h=>by
 obtain⟨⟨cls,dd,data,sl⟩,ho,hc,n,hd⟩:=id hl;obtain⟨⟨cls2,dd2,data2,sl2⟩,ho2,hc2,n2,hd2⟩:=id hb;cases hc;cases hd;cases hc2;cases hd2;have ml:Meets (Builtin.«list.__lt__» {[.ref l,.ref b],[]}) (λ_ R s=>s.heap.get? l=some {.type "list",dd,.seq us.toArray n,sl}/\s.heap.get? b=some {.type "list",dd2,.seq vs.toArray n2,sl2}/\R (.ok (.ret (.bool (jY is js)))) s):=by
  intro prog w A R s h;obtain⟨hp,g,d,tk,os⟩:=s;obtain⟨h1,h2,h⟩:=h;have f3:=AutoSeq1.sub_list_list;wp_walk using QZ h1,QZ h2
  exact{plainId_quiet MeetsSeq3.plain_eq_loop _,codeAny_builtin MeetsSeq3.entry_eq_loop (by
   rw[Sf MeetsSeq3.plain_eq_loop _];exact Hu l b us vs is js n n2 dd dd2 sl sl2 hu hv _ 0 rfl (RC _) (RC _) prog w A R _ ⟨h1,h2,h⟩)}
 exact richCompare_meets_room {_,ho,rfl} {_,ho2,rfl} F.slot_list_lt F.entry_list_lt (F.args_list_lt_2 _ _) ml {ho,ho2,show Value.bool (jY is js)≠Value.notImplemented/\Q (.bool (jY is js)) s from{(λx=>nomatch x),h}} hr
def Dx (h:Sw us is)(h':Sw us js):is=js:=by
 induction h generalizing js with
 |nil=>cases h';rfl
 |cons a t _ ih=>cases h' with|cons _ _ r=>rw[ih r]
def so (h:Sw us is)(hj:j<us.length):∃t,us[j]=.int (is.getD j 0) t:=by
 induction h generalizing j with
 |nil=>exact absurd hj (RQ _)
 | cons a t _ ih =>
   cases j with
   |zero=>exact⟨t,rfl⟩
   |succ j=>exact ih (Nat.lt_of_succ_lt_succ hj)
def xI:∀(is js:List Int),is.length=js.length->((List.range is.length).all λj=>is.getD j 0==js.getD j 0)=(is==js)
 |[],[],_=>rfl
 | a :: is, b :: js, h => by
   rw[RL,List.range_succ_eq_map,RJ,List.all_map];have:=xI is js (Nat.succ.inj h);show((a==b)&&_)=((a==b)&&(is==js));rw[<- this];rfl
def EqAt.intLists (hl:s.heap.IsList l us.toArray)(hb:s.heap.IsList b vs.toArray)(hu:Sw us is)(hv:Sw vs js)(hr:A.units<cLine):PySem.SeqAt.EqAt A s (.ref l) (.ref b) (is==js):=by
 by_cases e:l=b
 ·subst e;obtain⟨o,e1,_,n,d1⟩:=hl;obtain⟨o',e2,_,n',d2⟩:=hb;rw[e1] at e2;cases e2;rw[d1] at d2;have:=(Data.seq.inj d2).1;have:us=vs:=by simpa using this
  subst this;rw[Dx hu hv,beq_self_eq_true];exact PySem.SeqAt.EqAt.same _
 ·refine PySem.SeqAt.EqAt.of_refs e ?_;have l1:=hu.length;have l2:=hv.length;by_cases z:us.length=vs.length
  ·have r:=PySem.SeqAt.RcAt.lists hl hb (by simpa using z) hr λj h1 h2=>by
    obtain⟨t,x1⟩:=so hu (by simpa using h1)
    obtain⟨t',x2⟩:=so hv (by simpa using h2)
    have y1:us.toArray[j]=.int (is.getD j 0) t:=by simpa using x1
    have y2:vs.toArray[j]=.int (js.getD j 0) t':=by simpa using x2
    rw[y1,y2];exact PySem.SeqAt.EqAt.int_int _ t _ t'
   rw[show us.toArray.size=is.length by simp[l1],xI is js `a] at r
   exact r
  ·have r:=PySem.SeqAt.RcAt.lists_lengths hl hb (by simpa using z) hr
   rw[show(is==js)=false from R1.mpr λy=>z (by rw[l1,l2,y])]
   exact r
noncomputable def mQ (a:Int)(is:List Int)(b:Int)(js:List Int):Bool:=if (a==b)=true then(if (is==js)=true then false else jY is js) else decide (a<b)
def rN.pairs {a c:Int}(hp:s.heap.IsTuple p #[.int a t,.ref l])(hq:s.heap.IsTuple q #[.int c u,.ref b])(hl:s.heap.IsList l us.toArray)(hb:s.heap.IsList b vs.toArray)(hu:Sw us is)(hv:Sw vs js)(hr:A.units<cLine)(hr2:A.in1.units<cLine):rN A s (.ref p) (.ref q) (mQ a is c js):=λprog w E Q h=>by
 obtain⟨⟨cls,dd,data,sl⟩,ho,hc,n,hd⟩:=id hp;obtain⟨⟨cls2,dd2,data2,sl2⟩,ho2,hc2,n2,hd2⟩:=id hq;cases hc;cases hd;cases hc2;cases hd2;have ml:Meets (Builtin.«tuple.__lt__» {[.ref p,.ref q],[]}) (λA R s=>s.heap.get? p=some {.type "tuple",dd,.seq #[.int a t,.ref l] n,sl}/\s.heap.get? q=some {.type "tuple",dd2,.seq #[.int c u,.ref b] n2,sl2}/\s.heap.IsList l us.toArray/\s.heap.IsList b vs.toArray/\A.in1.units<cLine/\R (.ok (.ret (.bool (mQ a is c js)))) s):=.of_wp λprog w A R s h=>by
  obtain⟨hp,g,d,tk,os⟩:=s;obtain⟨h1,h2,k1,k2,k3,h⟩:=h;have f2:=AutoSeq1.sub_tuple_tuple;wp_walk using QZ h1,QZ h2
  refine PySem.SeqAt.EqAt.int_int a t c u prog w _ _ ?_;cases hb':(a==c) with
  | false =>
    rw[show mQ a is c js=decide (a<c) from if_neg (by rw[hb'];exact QP)] at h
    exact tqa (wpAny_rule (tqa (wpAny_lt_int (tqa (tqb (tqb (tqb (tqb {_,rfl,h}))))))))
  | true =>
    rw[show mQ a is c js=(if (is==js)=true then false else jY is js) from if_pos hb'] at h;refine tqb (tqa (tqa (EqAt.intLists k1 k2 hu hv k3 prog w _ _ ?_)));cases hj:(is==js) with
    | false =>
      rw[hj,if_neg QP] at h;exact tqa (wpAny_rule (tqa (rN.lists k1 k2 hu hv k3 prog w _ _ (tqa (tqb (tqb (tqb (tqb {_,rfl,h}))))))))
    | true =>
      rw[hj,if_pos rfl] at h;exact tqb (tqb (tqb {_,rfl,h}))
 exact richCompare_meets_room {_,ho,rfl} {_,ho2,rfl} F.slot_tuple_lt F.entry_tuple_lt (F.args_tuple_lt_2 _ _) ml {ho,ho2,hl,hb,hr2,show Value.bool (mQ a is c js)≠Value.notImplemented/\Q (.bool (mQ a is c js)) s from{(λx=>nomatch x),h}} hr
section
variable{prog:Ra}{w:Rb}{A:RR}{I p S:Addr}{items:Array Qi}{R:Result->Qm->Prop}{kw:List (Str×Qi)}
def nW:(toString "min"++toString ".loop":String)="min.loop":=`d
noncomputable def mx (I S:Addr)(h h':Heap):Prop:=∀(b:Addr) o,b≠I->b≠S->h.get? b=some o->h'.get? b=some o
def C9 (hh:A.in1.handled=none)(hne:p≠I)(hSI:S≠I)(hSp:S≠p)(bt:Nat->Nat->Bool)(G:Heap->Prop)(hG:∀h h',G h->mx I S h h'->G h')
 (hcmp:∀i j vi vj (s:Qm) (Q:Qi->Qm->Prop) (E:Qi->Qm->Prop),items[i]?=some vi->items[j]?=some vj->G s.heap->Q (.bool (bt i j)) s->wpAny (model prog w) A.in1 (richCompare .Lt vi vj) Q E s) :
 ∀(k j:Nat) (s:Qm) (vb:Qi) (c:Nat),items.size-(j+1)=k->j+1<=items.size->s.heap.IsListIter I p (j+1)->s.heap.IsList p items->items[argBest bt j]?=some vb->s.heap.get? S=some {.type "list",none,.seq #[vb,vb] c,#[]}->G s.heap->
 (∀v h' tk,items[argBest bt (items.size-1)]?=some v->mx I S s.heap h'->R (.ok (.ret v)) {s with heap:=h',toks:=tk})->codeAny (model prog w) A (.builtin "min.loop" {[.ref I,.none,.ref S],kw}) R s:=by
 have W:=Walks.list (prog:=prog) (w:=w) hh I p hne items;intro k;induction k with
 | zero =>
   intro j s vb c hk hj hi hl hb hS g hR;have hin:j+1=items.size:=`a
   refine codeAny_builtin F.entry_min_loop ?_;rw[Sf Sv _];refine tqa (wpAny_seqItems hS rfl ?_);refine tqa (wpAny_tryCatch (W.done s _ _ {hin ▸ hi,hl} λh' tk hk'=>?_));have hS':=hk' S _ (by simpa using hSI) hS
   refine tqa (wpAny_updateSeq hS' rfl (tqa (wpAny_letGo (tqb ?_))));exact hR vb _ tk (by rw[<- hin];exact hb) λb o n1 n2 e=>(Q9 _ _ (Ru n2)).trans (hk' b o (by simpa using n1) e)
 | succ k ih =>
   intro j s vb c hk hj hi hl hb hS g hR;have hlt:j+1<items.size:=`a
   refine codeAny_builtin F.entry_min_loop ?_;rw[Sf Sv _];refine tqa (wpAny_seqItems hS rfl ?_);refine tqa (wpAny_tryCatch (W.item (j+1) s _ _ hlt ⟨hi,hl⟩ λv h' tk hP hst' hk'=>?_));have hS':=hk' S _ (by simpa using hSI) hS
   have st1:mx I S s.heap h':=λb o n1 _ e=>hk' b o (by simpa using n1) e
   show wpAny _ A.in1 (tryCatch (holding [v,v] (richCompare .Lt v vb >>= _)) _ >>= _) _ _ _;refine tqa (wpAny_tryCatch (tqo (tqa (hcmp (j+1) (argBest bt j) v vb _ _ _ hP hb (hG _ _ g st1) ?_))));refine tqa (tqo (tqp ?_));refine tqa (wpAny_letGo (tqb ?_));cases hbb:bt (j+1) (argBest bt j) with
   | true =>
     refine tqa (wpAny_updateSeq hS' rfl (tqa (wpAny_letGo ?_)));rw[nW];have st2:mx I S s.heap (h'.update S (Obj.mapSeq λ_=>#[v,v])):=λb o n1 n2 e=>(Q9 _ _ (Ru n2)).trans (st1 b o n1 n2 e);refine tqb {plainId_quiet Sv _,ih (j+1) _ v _ `a hlt (hst'.1.at λo e=>(Q9 _ _ hSI).trans e) (hst'.2.at λo e=>(Q9 _ _ hSp).trans e) (by simp only[argBest,hbb,if_true];exact hP) (Ro _ hS' rfl) (hG _ _ g st2) λv' h'' tk'' hP' hk''=>?_}
     exact hR v' h'' tk'' hP' λb o n1 n2 e=>hk'' b o n1 n2 (st2 b o n1 n2 e)
   | false =>
     refine tqa (wpAny_letGo ?_);rw[nW];refine tqb {plainId_quiet Sv _,ih (j+1) _ vb c `a hlt hst'.1 hst'.2 (by simp only[argBest,hbb,Bool.false_eq_true,if_false];exact hb) hS' (hG _ _ g st1) λv' h'' tk'' hP' hk''=>?_}
     exact hR v' h'' tk'' hP' λb o n1 n2 e=>hk'' b o n1 n2 (st1 b o n1 n2 e)
def A0 (hh:A.in1.handled=none)(hne:p≠I)(hSI:S≠I)(hSp:S≠p)(bt:Nat->Nat->Bool)(G:Heap->Prop)(hG:∀h h',G h->mx I S h h'->G h')
 (hcmp:∀i j vi vj (s:Qm) (Q:Qi->Qm->Prop) (E:Qi->Qm->Prop),items[i]?=some vi->items[j]?=some vj->G s.heap->Q (.bool (bt i j)) s->wpAny (model prog w) A.in1 (richCompare .Lt vi vj) Q E s)
 (hi:s.heap.IsListIter I p 0) (hl:s.heap.IsList p items) (hS:s.heap.get? S=some {.type "list",none,.seq #[] c,#[]}) (g:G s.heap)
 (hR:∀v h' tk,(items.size=0/\v=dv\/items[argBest bt (items.size-1)]?=some v)->mx I S s.heap h'->R (.ok (.ret v)) {s with heap:=h',toks:=tk}):codeAny (model prog w) A (.builtin "min.loop" {[.ref I,.none,.ref S],[(kn,dv)]}) R s:=by
 have W:=Walks.list (prog:=prog) (w:=w) hh I p hne items;refine codeAny_builtin F.entry_min_loop ?_;rw[Sf Sv _];refine tqa (wpAny_seqItems hS rfl ?_);rcases Nat.eq_zero_or_pos items.size with hz|hn
 ·refine tqa (wpAny_tryCatch (W.done s _ _ {hz ▸ hi,hl} λh' tk hk'=>?_));refine tqa (wpAny_rule (tqb ?_));exact hR dv h' tk (.inl ⟨hz,rfl⟩) λb o n1 _ e=>hk' b o (by simpa using n1) e
 ·refine tqa (wpAny_tryCatch (W.item 0 s _ _ hn ⟨hi,hl⟩ λv h' tk hP hst' hk'=>?_));have hS':=hk' S _ (by simpa using hSI) hS
  have st2:mx I S s.heap (h'.update S (Obj.mapSeq λ_=>#[v,v])):=λb o n1 n2 e=>(Q9 _ _ (Ru n2)).trans (hk' b o (by simpa using n1) e)
  show wpAny _ A.in1 (updateSeq S (λ_=>#[v,v]) >>= _) _ _ _;refine tqa (wpAny_updateSeq hS' rfl ?_);rw[nW];refine tqb {plainId_quiet Sv _,C9 hh hne hSI hSp bt G hG hcmp _ 0 _ v _ rfl hn (hst'.1.at λo e=>(Q9 _ _ hSI).trans e) (hst'.2.at λo e=>(Q9 _ _ hSp).trans e) hP (Ro _ hS' rfl) (hG _ _ g st2) λv' h'' tk'' hP' hk''=>?_};exact hR v' h'' tk'' (.inr hP') λb o n1 n2 e=>hk'' b o n1 n2 (st2 b o n1 n2 e)
end
def BN (a v:Qi):argsOk "min" {[a],[(Str.ofString "default",v)]}:=by unfold argsOk;kernel_rfl
def BF (hh:A.in1.handled=none)(hl:s.heap.IsList p items)(hp:p<s.heap.objs.size)(bt:Nat->Nat->Bool)
 (hcmp:∀i j vi vj (s':Qm) (Q:Qi->Qm->Prop) (E:Qi->Qm->Prop),items[i]?=some vi->items[j]?=some vj->(∀b o,s.heap.get? b=some o->s'.heap.get? b=some o)->Q (.bool (bt i j)) s'->wpAny (model prog w) A.in1 (richCompare .Lt vi vj) Q E s')
 (hQ:∀v h' tk,(items.size=0/\v=dv\/items[argBest bt (items.size-1)]?=some v)->(∀b o,s.heap.get? b=some o->h'.get? b=some o)->Q v {s with heap:=h',toks:=tk}):wpAny (model prog w) A (call (.builtin "min") [.ref p] [(Str.ofString "default",dv)]) Q E s:=by
 refine kmk_tree F.kind_min F.plain_min F.entry_min (BN _ _) ?_;refine tqa (wpAny_of_eq (rfl) ?_);refine tqa (tqb ?_);refine tqa (wpAny_pyIter_list hl ?_);refine tqa (wpAny_newObj_type ?_);rw[nW];have lt:∀{b:Addr}{o:Obj},s.heap.get? b=some o->b≠s.heap.objs.size/\b≠s.heap.objs.size+1:=λe=>{QY (QH e),QY (RT (QH e))};have hz:(s.heap.push {cls:=.type "list_iterator",data:=.fields #[.ref p,.int 0 0]}).objs.size=s.heap.objs.size+1:=Se ..;refine tqb {plainId_quiet Sv _,?_};rw[hz];have up:∀{b:Addr}{o:Obj},s.heap.get? b=some o->((s.heap.push {cls:=.type "list_iterator",data:=.fields #[.ref p,.int 0 0]}).push {cls:=.type "list",data:=.seq #[]}).get? b=some o:=λe=>Qk _ (Qk _ e);refine A0 hh (QY hp) (Nat.succ_ne_self _) (Rq (RT hp)) bt (λh=>∀b o,s.heap.get? b=some o->h.get? b=some o) (λh h' g st b o e=>st b o (lt e).1 (lt e).2 (g b o e)) hcmp (c:=0) {_,Qk _ (QG _ rfl),rfl,rfl} (hl.at λo e=>up e) ?_ (λb o e=>up e) λv h' tk hv st=>hQ v h' tk hv λb o e=>st b o (lt e).1 (lt e).2 (up e);have:=QG (s.heap.push {cls:=.type "list_iterator",data:=.fields #[.ref p,.int 0 0]}) (o:={cls:=.type "list",data:=.seq #[]}) rfl;rw[hz] at this;exact this
noncomputable def sd (M:Mem):D->Option (Int×List Int)
 |.tup [.int q,r]=>((fo M r).bind intsOf).map λis=>(q,is)
 |_=>none
noncomputable def qN (M:Mem):List D->Option (List (Int×List Int))
 |[]=>some []
 |d::ds=>(sd M d).bind λk=>(qN M ds).map (k::·)
noncomputable def mR (ks:List (Int×List Int))(i j:Nat):Bool:=mQ (ks.getD i (0,[])).1 (ks.getD i (0,[])).2 (ks.getD j (0,[])).1 (ks.getD j (0,[])).2
noncomputable def lZ (a:GE):GE:=λZ M=>(a Z M).bind λx M=>match fo M x with
 | some ds => (match qN M ds with
   |some ks=>.ok (ds.getD (argBest (mR ks) (ds.length-1)) .non) M
   |none=>.bad)
 |none=>.bad
def AE:∀{ds:List D}{ks:List (Int×List Int)},qN M ds=some ks->∀(i:Nat) (d:D),ds[i]?=some d->sd M d=some (ks.getD i (0,[]))
 |[],_,_,_,_,h=>by simp at h
 | d :: ds, ks, e, i, d', h => by
   obtain⟨k,e1,e2⟩:=Rl.mp e;obtain⟨ks',e3,rfl⟩:=QA.mp e2;cases i with
   |zero=>cases h;exact e1
   |succ i=>exact AE e3 i d' h
def JW (e:sd M d=some k):∃r ds,d=.tup [.int k.1,r]/\fo M r=some ds/\intsOf ds=some k.2:=by
 unfold sd at e;split at e
 ·next q r=>
  obtain⟨is,e1,rfl⟩:=QA.mp e;obtain⟨ds,e2,e3⟩:=Rl.mp e1;exact⟨r,ds,rfl,e2,e3⟩
 ·cases e
section
variable{fa:Fa}{X:Cx}{a:Expr}{ga:GE}{pos p kp cp:Pos}{ci:Nat}
def JC (hu:Rm X)(hc:X.calm=true)(hg:Gl X "min")(hm:X.mg "min"=none)(ha:DE fa X a ga)(hs:starEach [a] X.env=[(false,eval a X.env)]):DE fa X (.Call (.Name "min" p) [a] [{some "default",.Constant .none ci cp,kp}] pos) (lZ ga):=by
 intro pins s σ H Q I ⟨μ,Z,M,hE,hM,h⟩;obtain⟨x,M1,e,q⟩:=aL h;have hA:=c7 ha eI hs pos pins s σ H (λvs H1=>∃v μ1,vs=[v]/\Ext μ H μ1 H1/\RelM fa X.K μ1 H1 M1/\Rep fa X.K μ1 H1 x v) I {μ,Z,M,hE,hM,by rw[e];exact λv H1 μ1 x1 m1 r1=>⟨v,μ1,rfl,x1,m1,r1⟩}
 refine wpAny_Call_Name_kw (hJ I hg hm boot_min ?_);refine callWith_kw (aT hA λus s1 ⟨vs,H1,I1,r1,v,μ1,ev,x1,m1,rv⟩=>?_) (by rw[hs];rfl) (by rw[hs];rfl)
 subst ev;cases r1 with
 |cons r1 rr=>
 cases rr;refine kws_cons ?_;refine aT (Fw pins s1 σ H1 (λv' H2=>∃μ2,Ext μ1 H1 μ2 H2/\RelM fa X.K μ2 H2 M1/\v'=.non) I1 {μ1,Z,M1,hE.ext x1,m1,λv' H2 μ2 x2 m2 r2=>⟨μ2,x2,m2,r2⟩}) λnv s2 ⟨nx,H2,I2,r2,μ2,x2,m2,en⟩=>?_;subst en;obtain rfl:=(r2);refine kws_nil ?_;cases e0:fo M1 x with
 |none=>rw[e0] at q;exact q.elim
 | some ds =>
   rw[e0] at q;cases ek:qN M1 ds with
   |none=>dsimp only at q;rw[ek] at q;exact q.elim
   | some ks =>
     dsimp only at q;rw[ek] at q;have rv2:=rv.ext x2;obtain⟨ad,vs,rfl,sq,rl⟩:=bN m2 rv2 e0;obtain rfl:=r1;obtain⟨its,rvs,pl,hz⟩:=I2.list sq;have hlen:its.length=ds.length:=by rw[<- rvs.length,rl.length]
     have hAt:∀(i:Nat) (v:Qi),its.toArray[i]?=some v->∃d v',ds[i]?=some d/\Rep fa X.K μ2 H2 d v'/\RelV v' v:=λi v hv=>by
      have hv:its[i]?=some v:=by simpa using hv
      have hi:i<vs.length:=by rw[rvs.length];exact(Qg.mp hv).1
      obtain⟨d,ed,rd⟩:=rl.getV (Qq hi);obtain⟨u,eu,ru⟩:=rvs.get (Qq hi);rw[hv] at eu;cases eu;exact{d,_,ed,rd,ru}
     have pair:∀(i:Nat) (v:Qi) (s':Qm),its.toArray[i]?=some v->(∀b o,s2.heap.get? b=some o->s'.heap.get? b=some o)->∃(p l:Addr) (t:Tok) (us:List Qi),v=.ref p/\s'.heap.IsTuple p #[.int (ks.getD i (0,[])).1 t,.ref l]/\s'.heap.IsList l us.toArray/\Sw us (ks.getD i (0,[])).2:=λi v s' hv g=>by
      obtain⟨d,v',ed,rd,ru⟩:=hAt i v hv;obtain⟨r,rs,rfl,e2,e3⟩:=JW (AE ek i d ed);obtain⟨tp,tvs,rfl,tsq,trl⟩:=rd;obtain rfl:=(ru);have I':Inv X pins σ H2 {s2 with heap:=s'.heap,toks:=s2.toks}:=I2.kept g
      obtain⟨tits,trv,tpl,_⟩:=I'.tuple tsq;obtain⟨w1,ws1,rfl,q1,trl⟩:=trl;obtain⟨w2,ws2,rfl,q2,trl⟩:=trl;cases trl;obtain rfl:=(q1);obtain⟨l,lvs,rfl,lsq,lrl⟩:=bN m2 q2 e2;cases trv with
      |cons t1 trv=>
      cases trv with
      |cons t2 trv=>
      cases trv;obtain⟨t,rfl⟩:=t1;obtain rfl:=t2;obtain⟨lits,lrv,lpl,_⟩:=I'.list lsq;exact{tp,l,t,lits,rfl,tpl,lpl.isList,CN e3 lrl lrv}
     refine BF (I2.ok.hd hc) pl.isList pl.lt (mR ks) (λi j vi vj s' Q' E' hi hj g hQ=>?_) λv h' tk hv g=>?_
     ·obtain⟨p1,l1,t1,N2,rfl,a1,a2,a3⟩:=pair i vi s' hi g;obtain⟨p2,l2,t2,N1,rfl,b1,b2,b3⟩:=pair j vj s' hj g;exact rN.pairs a1 b1 a2 b2 a3 b3 (by show X.A.units+1<cLine;omega) (by show X.A.units+1+1<cLine;omega) _ _ _ _ hQ
     ·rcases hv with⟨hz0,rfl⟩|hv
      ·have:ds=[]:=Sb.mp (by rw[<- hlen];simpa using hz0)
       subst this;exact{.non,H2,I2.kept g,rfl,aV m2 (a8.ext (a8.ext q x1) x2) rfl}
      ·obtain⟨d,v',ed,rd,ru⟩:=hAt _ v hv;have es:its.toArray.size=ds.length:=by simpa using hlen
       rw[es] at ed;have q:a8 fa X.K μ H Q (ds.getD (argBest (mR ks) (ds.length-1)) .non) M1:=q;rw[Rj,ed] at q;exact{v',H2,I2.kept g,ru,aV m2 (a8.ext (a8.ext q x1) x2) rd}
end
section
variable{prog:Ra}{w:Rb}{A:RR}{E:Qi->Qm->Prop}{s:Qm}{d:Addr}{od:Obj}{es:Array RK}{ep:Nat}
def IJ (hh:A.handled=none){I:Addr}(hne:d≠I)(hdd:od.data=.dict es ep):Walks prog w A I [I,d] [I] es.size (λi v=>∃e,es[i]?=some e/\v=e.key) (λi h=>h.IsKeyIter I d i es.size ep/\h.get? d=some od) where
 sub:=λb hb=>by rw[Qw.mp hb];simp
 frame:=λi h h' st k=>{st.1.at λo e=>k I `s o e,k d `s _ st.2}
 item:=λi s Q E hi st hQ=>uM st.1 st.2 hdd (R4 hi) λh' hit hs=>hQ _ h' s.toks {_,R4 hi,rfl} {hit,(hs.2 d hne).trans st.2} λb o hb e=>hs.extBut b o (λz=>hb (by rw[z];simp)) e
 done:=λs Q E st hQ=>w5 hh st.1 st.2 hdd (Ql _) λh' x=>hQ h' s.toks λb o hb e=>x b o (λz=>hb (by rw[z];simp)) e
 self:=λi s Q E st hQ=>wpAny_pyIter_keyiter st.1 hQ
def v9 {R:Result->Qm->Prop}(hh:A.handled=none)(hsm:(d==sysModules)=false)(ho:s.heap.get? d=some od)(hc:od.ExactDict)(hdd:od.data=.dict es ep)(hn:es.size<=sizeLine)(S:Addr)(hSd:S≠d)(res:Qi)(c₀:Nat)(hS:s.heap.get? S=some {cls:=.type "list",data:=.seq #[] c₀})
 (hR:∀h' tk acc c',(∀b o,b≠S->s.heap.get? b=some o->h'.get? b=some o)->h'.get? S=some {.type "list",none,.seq acc c',#[]}->ItemsOf (λi v=>∃e,es[i]?=some e/\v=e.key) acc es.size->R (.ok (.ret res)) {s with heap:=h',toks:=tk}) :
 wpAny (model prog w) A.in1 (Builtin.List.listExtendWith (.ref S) (.ref d) res) (λfin s'=>match fin with|.done f=>R (.ok f) s'|.again c'=>c'.quiet=true/\codeAny (model prog w) A c' R s') (λe s'=>R (.error e) s') s:=by
 have hT:s.TypeIs (.ref d) "dict":=⟨od,ho,hc.1⟩;have hSI:=QY (QH hS);have hdI:=QY (QH ho);unfold Builtin.List.listExtendWith;refine tqa (wpAny_typeOf hT ?_);have h1:Builtin.List.listSameRef (.ref S) (.ref d)=false:=by simp[Builtin.List.listSameRef,hSd]
 have h2:(Value.type "dict"==Value.type "list")=false:=`d
 have h3:(Value.type "dict"==Value.type "tuple")=false:=`d
 simp only[h1,h2,h3,Bool.or_false,Bool.false_eq_true,if_false];refine tqa (Bc hsm ho hc hdd ?_);have hT2:Shared.TypeIs {s with heap:=s.heap.push {cls:=.type "dict_keyiterator",data:=.fields #[.ref d,.int 0 0,.int es.size 0,.int ep 0]}} (.ref d) "dict":={od,Qk _ ho,hc.1}
 refine tqa (tqo ?_);unfold Builtin.List.listLengthHint;refine tqa (wpAny_specialOf hT2 PySem.F.slot_dict_len.lookup ?_)
 wp_delta
 refine tqa (wpAny_isInstance (b:=true) hT2 (by rw[isSubtype_type];kernel_rfl) ?_)
 show wpAny _ _ (typeOf (Value.ref d) >>= _) _ _ _;refine tqa (wpAny_typeOf hT2 ?_);refine tqb ?_;rw[if_pos `d]
 have hSf:S∉[s.heap.objs.size,d]:=λz=>by
  rcases Rg.mp z with z|z
  ·exact hSI z
  ·exact hSd (Qw.mp z)
 generalize hh1:s.heap.push {cls:=.type "dict_keyiterator",data:=.fields #[.ref d,.int 0 0,.int es.size 0,.int ep 0]}=h1;have up:∀{b:Addr}{o:Obj},s.heap.get? b=some o->h1.get? b=some o:=λe=>by rw[<- hh1];exact Qk _ e
 have hit:h1.get? s.heap.objs.size=some {cls:=.type "dict_keyiterator",data:=.fields #[.ref d,.int 0 0,.int es.size 0,.int ep 0]}:=by rw[<- hh1];exact QG _ rfl
 refine tqa (wpAny_rule (tqa ?_));show wpAny _ _ (updateSeq S (·.push .none) >>= λ_=>updateSeq S (·.pop)) _ _ {s with heap:=h1}
 refine tqa (wpAny_updateSeq (up hS) rfl ?_);have hS2:=Ro (Obj.mapSeq (·.push Value.none)) (up hS) rfl;refine wpAny_updateSeq hS2 rfl ?_;have hS3:=Ro (Obj.mapSeq (·.pop)) hS2 rfl;have oth:∀{b:Addr}{o:Obj},b≠S->h1.get? b=some o->((h1.update S (Obj.mapSeq (·.push Value.none))).update S (Obj.mapSeq (·.pop))).get? b=some o:=λhb e=>(Q9 _ _ (Ru hb)).trans ((Q9 _ _ (Ru hb)).trans e);refine tqb {plainId_quiet PySem.F.plain_extend_loop _,codeAny_extend_loopS (IJ (A:=A.in1) hh hdI hdd).toS hn _ hSf _ es.size 0 _ _ _ rfl (RC _) {{_,oth (Ru hSI) hit,rfl,rfl},oth (Ru hSd) (up ho)} hS3 (ItemsOf.nil _) λs' acc' c' hm hS' hacc=>?_};rw[Moved.eq_with hm];refine hR s'.heap s'.toks acc' c' (λb ob hb e=>hm.heap b ob (λhmem=>?_) (oth hb (up e))) hS' hacc;rcases Rg.mp hmem with e'|hmem
 ·exact hb e'
 ·exact absurd (QH e) (by rw[Qw.mp hmem];exact RH _)
def yT {Q:Qi->Qm->Prop}(hh:A.handled=none)(hsm:(d==sysModules)=false)(ho:s.heap.get? d=some od)(hc:od.ExactDict)(hdd:od.data=.dict es ep)(hn:es.size<=sizeLine)
 (hQ:∀h' tk acc c',(∀b o,s.heap.get? b=some o->h'.get? b=some o)->h'.get? s.heap.objs.size=some {.type "list",none,.seq acc c',#[]}->ItemsOf (λi v=>∃e,es[i]?=some e/\v=e.key) acc es.size->Q (.ref s.heap.objs.size) {s with heap:=h',toks:=tk}) :
 wpAny (model prog w) A (call (.type "list") [.ref d]) Q E s:=by
 refine callType_codes (Q₁:=λobj s₁=>obj=.ref s.heap.objs.size/\s₁={s with heap:=s.heap.push {cls:=.type "list",data:=.seq #[]}}) PySem.F.called_list (PySem.F.typeCall_list_1 _) PySem.F.entry_list_init (code_list_new _ ⟨rfl,rfl⟩) λobj s₁ h₁=>?_
 obtain⟨rfl,rfl⟩:=h₁;have hlt:=QH ho;have hS:(s.heap.push {cls:=.type "list",data:=.seq #[]}).get? s.heap.objs.size=some {cls:=.type "list",data:=.seq #[]}:=QG _ rfl;refine{{_,hS,rfl},PySem.F.args_list_init_2 _ _,?_};show wpAny _ _ (do let old <- Builtin.List.listItems (.ref s.heap.objs.size);Builtin.List.listUpdate (.ref s.heap.objs.size) (λ_=>#[]);letGo old.toList.reverse;Builtin.List.listExtendWith (.ref s.heap.objs.size) (.ref d) .none) _ _ _
 refine tqa ?_;unfold Builtin.List.listItems;refine tqa (wpAny_seqItems hS rfl (tqb ?_));show wpAny _ _ (updateSeq s.heap.objs.size (λ_=>#[]) >>= λ_=>letGo (#[]:Array Qi).toList.reverse >>= λ_=>Builtin.List.listExtendWith (.ref s.heap.objs.size) (.ref d) .none) _ _ _;refine tqa (wpAny_updateSeq hS rfl ?_);have oth:∀b o,b≠s.heap.objs.size->s.heap.get? b=some o->((s.heap.push {cls:=.type "list",data:=.seq #[]}).update s.heap.objs.size (Obj.mapSeq (λ_=>(#[]:Array Qi)))).get? b=some o:=λb o hb e=>(Q9 _ _ (Ru hb)).trans (Qk _ e);refine tqa (wpAny_letGo ?_);refine v9 (A:=A.in1) hh hsm (oth d od (QY hlt) ho) hc hdd hn _ (Rq hlt) .none _ (Ro (Obj.mapSeq (λ_=>(#[]:Array Qi))) hS rfl) λh' tk acc c' hk hS' hacc=>?_;exact{rfl,hQ h' tk acc c' (λb o e=>hk b o (QY (QH e)) (oth b o (QY (QH e)) e)) hS' hacc}
end
noncomputable def hZ (m:Bool)(a:GE):GE:=λZ M=>(a Z M).bind λx M=>match x with
 | .fn o => (match bR M o with
   |some q=>ba m (q.2.map cV) M
   |none=>.bad)
 |_=>.bad
def Dp {fa:Fa}{K:Qh}{μ:Mu}{H:Hp}{c:Int}{kvs:List (D×D)}{es:List RK}(h:R5 (nI fa K μ H c) kvs es):∃vs,aK fa K μ H ((kvs.map iK).map cV) vs/\Vals vs (es.map (·.key)):=by
 induction h with
 |nil=>exact{[],rfl,.nil}
 | cons h t ih =>
   obtain⟨vs,r,v⟩:=ih;obtain⟨b,_,ek,_,rb,_⟩:=h;exact{.ref b::vs,{.ref b,vs,rfl,rb,r},.cons (ek.trans rfl) v}
section
variable{fa:Fa}{X:Cx}{a:Expr}{ga:GE}{pos p:Pos}
def HI (hc:X.calm=true)(hd:fD fa)(m:Bool):cY X (.type "list") (λxs H Q=>∃μ M o q x,RelM fa X.K μ H M/\xs=[x]/\Rep fa X.K μ H (.fn o) x/\bR M o=some q/\ae (ba m (q.2.map cV) M) (a8 fa X.K μ H Q)):=by
 intro pins s σ H xs us Q I r h;obtain⟨μ,M,o,q,x,hM,rfl,rx,e,w⟩:=h;obtain⟨u,rfl,ru⟩:=vals1 r;obtain⟨ad,_,_,_,rfl,_,ha,_⟩:=ni hd I hM rx e;obtain rfl:=(ru);obtain⟨es,kvs,hH,eqs,pr⟩:=rj hd hM ha e;obtain⟨vs,rl,vv⟩:=Dp pr;rw[eqs] at w;obtain⟨_,k⟩:=fF hM rl w;obtain⟨z,y,ob,h1,h2,h3⟩:=(I.hok ad _ hH);refine yT (I.ok.hd hc) y h1 h2 h3 (by simpa using z) λh' tk acc c' kp en hacc=>?_
 have ea:acc=(es.map (·.key)).toArray:=by
  refine Array.ext_getElem? λi=>?_;have hs:acc.size=es.length:=by have:=hacc.1;simpa using this
  rcases RU i acc.size with hi|hi
  ·rw[R4 hi];obtain⟨e',he,ev⟩:=hacc.2 i _ (R4 hi);rw[ev];have he:es[i]?=some e':=by simpa using he
   simp[he]
  ·rw[Array.getElem?_eq_none hi];exact(Array.getElem?_eq_none (by rw[Qy,Qf,<- hs];exact hi)).symm
 rw[ea] at en;have hl:vs.length<=sizeLine:=by rw[vv.length,Qf];exact z
 exact{.ref s.heap.objs.size,_,I.laid kp (Ql _) (show cX X.prog X.w _ h' _ (.lst vs) from{hl,_,c',vv,en}),rfl,k _ (I.hok.fresh (Ql _))}
def GY (hc:X.calm=true)(hd:fD fa)(m:Bool)(hg:Gl X "list")(hm:X.mg "list"=none)(ha:DE fa X a ga)(hs:starEach [a] X.env=[(false,eval a X.env)]):DE fa X (.Call (.Name "list" p) [a] [] pos) (hZ m ga):=
 bO (se (HI hc hd m) hg hm boot_list (c7 ha eI hs) (he:=by rw[hs];rfl)) λσ H Q ⟨μ,Z,M,hE,hM,h⟩=>by
  obtain⟨x,M1,e1,h1⟩:=aL h;refine{μ,Z,M,hE,hM,?_};rw[e1];intro v H1 μ1 x1 hM1 r1;cases x with
  | fn o =>
    dsimp only at h1;cases eq:bR M1 o with
    |none=>rw[eq] at h1;exact h1.elim
    |some q=>rw[eq] at h1;exact{μ1,M1,o,q,v,hM1,rfl,r1,eq,aJ h1 λd M2 h2=>a8.ext h2 x1}
  |_=>exact h1.elim
end
end LD
namespace LD
open PySem
def ob {α β:Type}{a:Option α}{f:α->Option β}{r:β}(h:a.bind f=some r):∃x,a=some x/\f x=some r:=Rl.mp h
def oi {α:Type}{c:Prop}[Decidable c]{a:Option α}{r:α}(h:(if c then a else none)=some r):c/\a=some r:=by
 split at h
 ·exact{by assumption,h}
 ·cases h
section
variable{β:Type}{r:β}{e:Expr}{st:Stmt}
def od {c:Prop}[Decidable c]{f:c->Option β}(h:(if x:c then f x else none)=some r):∃x,f x=some r:=by
 by_cases z:c
 ·rw[dif_pos z] at h;exact⟨z,h⟩
 ·rw[dif_neg z] at h;cases h
local macro_rules|`(command|#check $n:ident $a*)=>do
 let m:=a[0]!.raw;let c:Lean.TSyntax `ident:=⟨a[1]!.raw⟩;let v:Array (Lean.TSyntax `ident):=(a.extract 3 a.size).map λx=>⟨x.raw⟩;let f:=Lean.mkIdentFrom c (c.getId++`elim)
 `(noncomputable def $n {β:Type} e:=λg=>if h:e.ctorIdx=$(⟨a[2]!.raw⟩) then @$f (λ_=>Option β) e h g else none
 theorem $(⟨m⟩) {β:Type}{e}{g}{y:β}(h:$n e g=some y):∃$[$v:ident]*,e=$c $v*∧g $v*=some y:=(od h).elim λz h=>@$f (λe=>∀z,@$f (λ_=>Option β) e z g=some y→∃$[$v:ident]*,e=$c $v*∧g $v*=some y) e z (λ$v* _ h=>by exact⟨$v,*,rfl,h⟩) z h)
#check Kn uB Expr.UnaryOp 3 a b c
#check EU uE Expr.BoolOp 0 a b c
#check Oe AW Expr.ListComp 8 a b c d
#check Kq wQ Expr.IfExp 5 a b c d
#check Kt qR Expr.Compare 15 a b c d
#check yu pj Expr.Call 16 a b c d
#check OY Ho Expr.FormattedValue 17 a b c d
#check OX Hm Expr.JoinedStr 18 a b
#check yt nY Expr.Constant 19 a b c
#check MU C8 Expr.Attribute 20 a b c
#check qQ jl Expr.Subscript 21 a b c
#check nName dj Expr.Name 23 a b
#check uC iz Expr.Tuple 25 a b c
#check Ko wO Expr.Slice 26 a b c d
#check yc nP Stmt.Assign 5 a b c
#check OP GP Stmt.Raise 16 a b c
#check yb nO Stmt.Expr 24 a b
#check OZ Hq Expr.BinOp 2 a b c d
#check OW Hl Expr.List 24 a b
#check sRt Jy Stmt.Return 3 a b
#check Ob Av Stmt.For 9 a b c d f
#check Oa Au Stmt.If 12 a b c d
#check sPs Jz Stmt.Pass 25 a
variable{α:Type}{l:List α}
noncomputable def n0 (l:List α)(v:Option β):Option β:=if l.isEmpty=true then v else none
def fO {v:Option β}(h:n0 l v=some r):l=[]/\v=some r:=(oi h).elim λc h=>{List.isEmpty_iff.mp c,h}
noncomputable def nC (l:List α)(k:α->List α->Option β):Option β:=match l with
 |[]=>none
 |a::s=>k a s
def lR {k:α->List α->Option β}(h:nC l k=some r):∃a s,l=a::s/\k a s=some r:=by
 cases l with
 |nil=>cases h
 |cons a s=>exact⟨a,s,rfl,h⟩
noncomputable def n1 (l:List α)(k:α->Option β):Option β:=nC l λa s=>n0 s (k a)
def cS {k:α->Option β}(h:n1 l k=some r):∃a,l=[a]/\k a=some r:=by
 obtain⟨a,s,rfl,h⟩:=lR h;obtain⟨rfl,h⟩:=fO h;exact⟨a,rfl,h⟩
noncomputable def n2 (l:List α)(k:α->α->Option β):Option β:=nC l λa s=>n1 s (k a)
def iZ {k:α->α->Option β}(h:n2 l k=some r):∃a b,l=[a,b]/\k a b=some r:=by
 obtain⟨a,s,rfl,h⟩:=lR h;obtain⟨b,rfl,h⟩:=cS h;exact⟨a,b,rfl,h⟩
noncomputable def C6 (e:Expr)(k:Str->Option β):Option β:=yt e λc _ _=>match c with
 |.str z=>k z
 |_=>none
def wN {k:Str->Option β}(h:C6 e k=some r):∃z i p,e=.Constant (.str z) i p/\k z=some r:=by
 obtain⟨c,i,p,rfl,h⟩:=nY h;cases c with
 |str z=>exact⟨z,i,p,rfl,h⟩
 |_=>cases h
noncomputable def Kp (e:Expr)(k:Int->Option β):Option β:=yt e λc _ _=>match c with
 |.int z=>k z
 |_=>none
def Hn {k:Int->Option β}(h:Kp e k=some r):∃z i p,e=.Constant (.int z) i p/\k z=some r:=by
 obtain⟨c,i,p,rfl,h⟩:=nY h;cases c with
 |int z=>exact⟨z,i,p,rfl,h⟩
 |_=>cases h
noncomputable def Of (e:Expr)(k:Expr->Option β):Option β:=OY e λa i s _=>if i=-1/\s.isNone=true then k a else none
def Kr {k:Expr->Option β}(h:Of e k=some r):∃a p,e=.FormattedValue a (-1) none p/\k a=some r:=by
 obtain⟨a,i,s,p,rfl,h⟩:=Ho h;obtain⟨⟨rfl,c⟩,k⟩:=oi h;rw[Sl.mp c];exact⟨a,p,rfl,k⟩
noncomputable def nG (c:Su)(k:Expr->Expr->List Expr->Option β):Option β:=if c.is_async=0 then k c.target c.iter c.ifs else none
def td {c:Su}{k:Expr->Expr->List Expr->Option β}(h:nG c k=some r):∃t i f,c={t,i,f,0}/\k t i f=some r:=by
 obtain⟨z,h⟩:=oi h;cases c;cases z;exact{_,_,_,rfl,h}
noncomputable def oJ (e:Expr)(k:Str->List Expr->Pos->Option β):Option β:=yu e λf es ks p=>nName f λx _=>n0 ks (k x es p)
def g8 {k:Str->List Expr->Pos->Option β}(h:oJ e k=some r):∃x q es p,e=.Call (.Name x q) es [] p/\k x es p=some r:=by
 obtain⟨f,es,ks,p,rfl,h⟩:=pj h;obtain⟨x,q,rfl,h⟩:=dj h;obtain⟨rfl,h⟩:=fO h;exact⟨x,q,es,p,rfl,h⟩
noncomputable def ET (e:Expr)(k:Expr->Str->Expr->Bool->Option β):Option β:=yu e λf es ks p=>MU f λa m q=>n0 ks (n1 es λd=>k a m d (q.endLine==p.line))
def uD {k:Expr->Str->Expr->Bool->Option β}(h:ET e k=some r):∃a m q d p,e=.Call (.Attribute a m q) [d] [] p/\k a m d (q.endLine==p.line)=some r:=by
 obtain⟨f,es,ks,p,rfl,h⟩:=pj h;obtain⟨a,m,q,rfl,h⟩:=C8 h;obtain⟨rfl,h⟩:=fO h;obtain⟨d,rfl,h⟩:=cS h;exact⟨a,m,q,d,p,rfl,h⟩
def b8 {a b:Option β}(h:a.or b=some r):a=some r\/b=some r:=by
 cases a with
 |none=>exact .inr h
 |some x=>exact .inl h
end
end LD
namespace LD
open PySem PySem.Spec PyProof.Rows L2
inductive En where
 |fn (i:Nat) (r:Bool)|fnD (i:Nat)|int (i:Int)|str (z:Str)|dct (fs:List (Str×Nat))|xc (k:Nat)|xi (k:Nat)|xk (k:Nat)|de|bl|cls (c f:Nat)
structure FJ (fa:Fa) (P:Ra) (w:Rb) (K:Qh) (mg:Str->Option Qi) (base:Heap) (T:List (Str×En)):Prop where
 fn:∀{x:Str}{i:Nat}{r:Bool},T.lookup x=some (.fn i r)->∀ad,fa i=some ad->mg x=some (.ref ad)
 fnD:∀{x:Str}{i:Nat},T.lookup x=some (.fnD i)->(∀ad,fa i=some ad->mg x=some (.ref ad))/\(fa (500+i)).isSome=true
 int:∀{x:Str}{i:Int},T.lookup x=some (.int i)->∃t,mg x=some (.int i t)
 str:∀{x:Str}{z:Str},T.lookup x=some (.str z)->∃t,mg x=some (.str z t)
 dct:∀{x:Str}{fs:List (Str×Nat)},T.lookup x=some (.dct fs)->∃ad kvs,mg x=some (.ref ad)/\fW K w.params ad kvs/\eV fa kvs fs
 xc:∀{x:Str}{k:Nat},T.lookup x=some (.xc k)->∃C,mg x=some (.ref C)/\fa (gp k)=some C/\PySem.W.excIn K C BG "ValueError.__new__"=true/\PySem.W.keepIn K (.ref C)=true
 xi:∀{x:Str}{k:Nat},T.lookup x=some (.xi k)->BS fa P w K mg base k x/\∃D,mg x=some (.ref D)/\fa (gp k)=some D
 xk:∀{x:Str}{k:Nat},T.lookup x=some (.xk k)->∃D,mg x=some (.ref D)/\fa (gp k)=some D
 de:∀{x:Str},T.lookup x=some .de->∃D,mg x=some (.ref D)/\fa 999=some D
 bl:∀{x:Str},T.lookup x=some .bl->mg x=none
 xcs:L7 fa K
 ob:Mc fa K
 of:∀o,5000<=o->fa o=none
 od:fa (jX 77)=none/\fa (jX 78)=none
 cls:∀{x:Str}{c f:Nat},T.lookup x=some (.cls c f)->∃C,mg x=some (.ref C)/\fa (jX c)=some C/\∀ad,fa f=some ad->Mk K C ad
structure G where
 T:List (Str×En)
 tw:List (Str×Str×Nat×Nat)
 xf:List Str
 cel:List (Nat×Nat×Nat)
 txt:List (Nat×Nat×Nat)
 ms:List (Str×Nat×Nat)
 c:Call
 N:List Str
 sc:Scope
 lv:Nat
 oc:List Str:=[]
structure e9 (fa:Fa) (n:Nat) (g:G) (X:Cx):Prop where
 N:X.N=g.N
 nd:g.N.Nodup
 sc:X.env.scope=g.sc
 T:FJ fa X.prog X.w X.K X.mg X.base g.T
 tw:∀q∈g.tw,FI fa X.K X.mg q.1 q.2.1 q.2.2.1 q.2.2.2
 xf:∀f∈g.xf,FG fa X.K f
 ms:∀q∈g.ms,qC fa X.K q.1 q.2.1 q.2.2
 fn:g.lv≠1->∀x,X.fn x=true
 oc:∀x∈g.oc,X.fn x=true
 calm:0<g.lv->X.calm=true
 C:0<g.lv->∀f,ik fa X.prog X.w X.K X.mg X.base n f (g.c f)
 hr:0<g.lv->dH (2*n+4+1) X.A
 top:2<=g.lv->X.ex=[]/\X.stack=X.env::X.outer/\X.env.frame=some X.env.locals/\X.env.scope.kind=.function
 po:g.lv=2->PassesOwn (model X.prog X.w) X.A X.env X.xe
structure Rc where
 e:G->Expr->Option GE
 t:G->Expr->Option GT
 x:G->Expr->Option GE
 w:G->Expr->Expr->Option GW
 s:G->Stmt->Option GS
abbrev d8:=Rc->G->Expr->Option GE
abbrev FK:=Rc->G->Expr->Option GT
abbrev vR:=Rc->G->Expr->Expr->Option GW
abbrev lC:=Rc->G->Stmt->Option GS
structure iC (fa:Fa) (n:Nat) (R:Rc):Prop where
 e:∀{g:G}{X:Cx}{a:Expr}{ga:GE},e9 fa n g X->R.e g a=some ga->DE fa X a ga
 t:∀{g:G}{X:Cx}{a:Expr}{ga:GT},e9 fa n g X->R.t g a=some ga->DT fa X a ga
 x:∀{g:G}{X:Cx}{a:Expr}{ga:GE},e9 fa n g X->R.x g a=some ga->DX fa X a ga
 w:∀{g:G}{X:Cx}{t a:Expr}{ga:GW},e9 fa n g X->R.w g t a=some ga->DI fa X t a ga
 s:∀{g:G}{X:Cx}{a:Stmt}{ga:GS},e9 fa n g X->R.s g a=some ga->DS fa X a ga
noncomputable def SE (r:d8):Prop:=∀{fa:Fa}{n:Nat}{R:Rc},iC fa n R->∀{g:G}{X:Cx},e9 fa n g X->∀{a:Expr}{ga:GE},r R g a=some ga->DE fa X a ga
noncomputable def ST (r:FK):Prop:=∀{fa:Fa}{n:Nat}{R:Rc},iC fa n R->∀{g:G}{X:Cx},e9 fa n g X->∀{a:Expr}{ga:GT},r R g a=some ga->DT fa X a ga
noncomputable def SX (r:d8):Prop:=∀{fa:Fa}{n:Nat}{R:Rc},iC fa n R->∀{g:G}{X:Cx},e9 fa n g X->∀{a:Expr}{ga:GE},r R g a=some ga->DX fa X a ga
noncomputable def SW (r:vR):Prop:=∀{fa:Fa}{n:Nat}{R:Rc},iC fa n R->∀{g:G}{X:Cx},e9 fa n g X->∀{t a:Expr}{ga:GW},r R g t a=some ga->DI fa X t a ga
noncomputable def SS (r:lC):Prop:=∀{fa:Fa}{n:Nat}{R:Rc},iC fa n R->∀{g:G}{X:Cx},e9 fa n g X->∀{a:Stmt}{ga:GS},r R g a=some ga->DS fa X a ga
structure Rs where
 e:List d8
 t:List FK
 x:List d8
 w:List vR
 s:List lC
noncomputable def It (rs:Rs):Nat->Rc
 |0=>{λ_ _=>none,λ_ _=>none,λ_ _=>none,λ_ _ _=>none,λ_ _=>none}
 |n+1=>{λg a=>rs.e.findSome? λr=>r (It rs n) g a,λg a=>rs.t.findSome? λr=>r (It rs n) g a,λg a=>rs.x.findSome? λr=>r (It rs n) g a,λg t a=>rs.w.findSome? λr=>r (It rs n) g t a,λg a=>rs.s.findSome? λr=>r (It rs n) g a}
noncomputable def AllP {α:Type}(p:α->Prop):List α->Prop
 |[]=>True
 |a::l=>p a/\AllP p l
def AllP.mem {α:Type}{p:α->Prop}:∀{l:List α},AllP p l->∀a∈l,p a
 |_::_,h,a,m=>(Rg.mp m).elim (λe=>e ▸ h.1) (AllP.mem h.2 a)
structure D5 (rs:Rs):Prop where
 e:AllP SE rs.e
 t:AllP ST rs.t
 x:AllP SX rs.x
 w:AllP SW rs.w
 s:AllP SS rs.s
def FO (h:D5 rs):∀k,iC fa n (It rs k)
 |0=>{(λ_ z=>nomatch z),(λ_ z=>nomatch z),(λ_ z=>nomatch z),(λ_ z=>nomatch z),(λ_ z=>nomatch z)}
 | k + 1 => by
   have ih:=FO (n:=n) (fa:=fa) h k;refine{λo z=>?_,λo z=>?_,λo z=>?_,λo z=>?_,λo z=>?_}
   ·obtain⟨r,m,e⟩:=R0 z;exact h.e.mem r m ih o e
   ·obtain⟨r,m,e⟩:=R0 z;exact h.t.mem r m ih o e
   ·obtain⟨r,m,e⟩:=R0 z;exact h.x.mem r m ih o e
   ·obtain⟨r,m,e⟩:=R0 z;exact h.w.mem r m ih o e
   ·obtain⟨r,m,e⟩:=R0 z;exact h.s.mem r m ih o e
noncomputable def Ow:Str:="__debug__"
noncomputable def jF (g:G)(x:Str):Bool:=g.sc.names.lookup x==some .globalImplicit&&!(x==Ow)
noncomputable def vr (g:G)(x:Str):Option Nat:=if (g.sc.names.lookup x==some .local||g.sc.names.lookup x==some .cell||g.sc.names.lookup x==some .free)&&!(x==Ow)&&!(x==("__classdict__":Str)) then g.N.findIdx? (·==x) else none
section
variable{fa:Fa}{n:Nat}{g:G}{X:Cx}{R:Rc}(o:e9 fa n g X)
include o
theorem eA (h:jF g x=true):Gl X x/\(x==("__debug__":Str))=false:=by
 unfold jF at h;rw[Qr,SA] at h;exact{by show X.env.scope.names.lookup x=_;rw[o.sc];exact eq_of_beq h.1,h.2}
theorem yG (h:g.N.findIdx? (·==x)=some i):X.N[i]?=some x:=by
 obtain⟨hi,h1,_⟩:=List.findIdx?_eq_some_iff_getElem.mp h;rw[o.N,Qq hi,eq_of_beq h1]
theorem Em (h:vr g x=some i):X.N[i]?=some x/\BQ X.env.scope x/\(x==("__debug__":Str))=false/\(x==("__classdict__":Str))=false:=by
 obtain⟨c,h⟩:=oi h;simp only[Qr,Sn,SA] at c;refine{yG o h,?_,c.1.2,c.2};rw[o.sc];rcases c.1.1 with(z|z)|z
 ·exact .inl (eq_of_beq z)
 ·exact .inr (.inl (eq_of_beq z))
 ·exact .inr (.inr (eq_of_beq z))
omit o
theorem e9.rm (o:e9 fa n g X)(h:0<g.lv):Rm X:=GR (o.hr h)
end
noncomputable def cA (f:Expr->Option GE):List Expr->Option GA
 |[]=>some bj
 |a::r=>if notStar a=true then(f a).bind λx=>(cA f r).bind λy=>some (bg x y) else none
def kc (hf:∀{a:Expr}{ga:GE},f a=some ga->DE fa X a ga):∀{es:List Expr}{gs:GA},cA f es=some gs->DA fa X es gs/\es.all notStar=true
 |[],_,h=>by cases h;exact⟨LL,rfl⟩
 | a :: r, _, h => by
   obtain⟨c,h⟩:=oi h;obtain⟨x,hx,h⟩:=ob h;obtain⟨y,hy,h⟩:=ob h;cases h;obtain⟨h1,h2⟩:=kc hf hy;exact{Ic (hf hx) h1 (bA c),by rw[RJ,c,h2];rfl}
noncomputable def vL (f:Expr->Option GE)(k:GE->GE->GE):List Expr->Option GE
 |[]=>none
 |[a]=>f a
 |a::b::r=>(f a).bind λx=>(vL f k (b::r)).bind λy=>some (k x y)
def xJ (hf:∀{a:Expr}{ga:GE},f a=some ga->DE fa X a ga):∀{es:List Expr}{ge:GE},vL f eX es=some ge->DE fa X (.BoolOp .And es pos) ge
 |[a],_,h=>Fv (hf h)
 | a :: b :: r, _, h => by
   obtain⟨x,hx,h⟩:=ob h;obtain⟨y,hy,h⟩:=ob h;cases h;exact NJ (hf hx) (xJ hf hy)
def BM (hf:∀{a:Expr}{ga:GE},f a=some ga->DE fa X a ga):∀{es:List Expr}{ge:GE},vL f uW es=some ge->DE fa X (.BoolOp .Or es pos) ge
 |[a],_,h=>Fv (hf h)
 | a :: b :: r, _, h => by
   obtain⟨x,hx,h⟩:=ob h;obtain⟨y,hy,h⟩:=ob h;cases h;exact Py (hf hx) (BM hf hy)
noncomputable def tX (f:Expr->Option GT)(k:GT->GT->GT):List Expr->Option GT
 |[]=>none
 |[a]=>f a
 |a::b::r=>(f a).bind λx=>(tX f k (b::r)).bind λy=>some (k x y)
def wq (hf:∀{a:Expr}{ga:GT},f a=some ga->DT fa X a ga):∀{es:List Expr}{ge:GT},tX f gW es=some ge->DW fa X (.BoolOp .And es pos) ge
 |[a],_,h=>HM (hf h)
 | a :: b :: r, _, h => by
   obtain⟨x,hx,h⟩:=ob h;obtain⟨y,hy,h⟩:=ob h;cases h;exact Lo (hf hx) (wq hf hy)
def zY (hf:∀{a:Expr}{ga:GT},f a=some ga->DT fa X a ga):∀{es:List Expr}{ge:GT},tX f dN es=some ge->DW fa X (.BoolOp .Or es pos) ge
 |[a],_,h=>Ln (hf h)
 | a :: b :: r, _, h => by
   obtain⟨x,hx,h⟩:=ob h;obtain⟨y,hy,h⟩:=ob h;cases h;exact Np (hf hx) (zY hf hy)
noncomputable def Ep:d8:=λ_ g e=>nName e λx _=>((vr g x).bind λi=>some (aa i)).or (if jF g x=true then(g.T.lookup x).bind fun
 |.int i=>some (gC (.int i))
 |.str i=>some (gC (.str i))
 |_=>none else none)
def Ca:SE Ep:=by
 intro fa n R rc g X o a ga h;replace h:=dj h;obtain⟨x,p,rfl,h⟩:=h;rcases b8 h with h|h
 ·obtain⟨i,e,h⟩:=ob h;cases h;obtain⟨a,b,c,d⟩:=Em o e;exact Nt a b c d
 ·obtain⟨c,h⟩:=oi h;obtain⟨hg,hd⟩:=eA o c;obtain⟨t,e,h⟩:=ob h;cases t with
  |int i=>cases h;exact GV hg (o.T.int e) hd
  |str i=>cases h;obtain⟨t,e⟩:=o.T.str e;exact jr (v:=.str _) (kS hg e ⟨t,rfl⟩ hd) λ_ _=>rfl
  |_=>cases h
noncomputable def zQ:d8:=λ_ _ e=>yt e fun
 |.int i,_,_=>some (gC (.int i))
 |.bool i,_,_=>some (gC (.bl i))
 |.str i,_,_=>some (gC (.str i))
 |.none,_,_=>some (gC .non)
 |_,_,_=>none
def zP:SE zQ:=by
 intro fa n R rc g X o a ga h;replace h:=nY h;obtain⟨c,i,p,rfl,h⟩:=h;cases c with
 |int i=>cases h;exact NB
 |bool i=>cases h;exact Pz
 |str i=>cases h;exact Nv
 |none=>cases h;exact Fw
 |_=>cases h
noncomputable def G.cl (g:G)(p:Pos):Bool:=g.cel.contains (p.line,p.col,p.endCol)
noncomputable def G.tx (g:G)(p:Pos):Bool:=g.txt.contains (p.line,p.col,p.endCol)
noncomputable def FD:Operator->Option oR
 |.Add=>some .add|.Sub=>some .sub|.Mult=>some .mul|.FloorDiv=>some .fdiv|.Mod=>some .mod|.Pow=>some .pow|_=>none
def DZ (h:FD q=some b):q=binOp b:=by cases q<;>cases h<;>rfl
noncomputable def gB:CmpOp->jS
 |.Eq=>.eq|.NotEq=>.ne|.Lt=>.lt|.LtE=>.le|.Gt=>.gt|.GtE=>.ge|.Is=>.isN|.IsNot=>.notN|.In=>.isin|.NotIn=>.notin
def dr (q:CmpOp):fi (gB q)=q:=by cases q<;>rfl
noncomputable def IW:d8:=λR g e=>(OZ e λa q b p=>(FD q).bind λq=>(R.e g a).bind λx=>(R.e g b).bind λy=>some (av (g.cl p) q x y)).or
 ((Kn e λq a _ => match q with
   |.USub=>(R.e g a).bind λx=>some (dE x)
   |.Not=>(R.e g a).bind λx=>some (K8 x)
   |_=>none).or
 ((EU e λq es _ => match q with
   |.And=>vL (R.e g) eX es
   |.Or=>vL (R.e g) uW es).or
 ((Kq e λc a b _=>(R.t g c).bind λt=>(R.e g a).bind λx=>(R.e g b).bind λy=>some (gG t x y)).or
 ((uC e λes _ _=>(cA (R.e g) es).bind λs=>some (bB s)).or (OW e λes p=>(cA (R.e g) es).bind λs=>some (bu (g.cl p) s))))))
def F8:SE IW:=by
 intro fa n R rc g X o a ga h;replace h:=b8 h;rcases h with h|h
 ·obtain⟨a,q,b,p,rfl,h⟩:=Hq h;obtain⟨q,hq,h⟩:=ob h;obtain⟨x,hx,h⟩:=ob h;obtain⟨y,hy,h⟩:=ob h;cases h;rw[DZ hq];exact NH _ _ (rc.e o hx) (rc.e o hy)
 replace h:=b8 h;rcases h with h|h
 ·obtain⟨q,a,p,rfl,h⟩:=uB h;cases q with
  |USub=>obtain⟨x,hx,h⟩:=ob h;cases h;exact Ny (rc.e o hx)
  |Not=>obtain⟨x,hx,h⟩:=ob h;cases h;exact Nx (rc.e o hx)
  |_=>cases h
 replace h:=b8 h;rcases h with h|h
 ·obtain⟨q,es,p,rfl,h⟩:=uE h;cases q with
  |And=>exact xJ (rc.e o) h
  |Or=>exact BM (rc.e o) h
 replace h:=b8 h;rcases h with h|h
 ·obtain⟨c,a,b,p,rfl,h⟩:=wQ h;obtain⟨t,ht,h⟩:=ob h;obtain⟨x,hx,h⟩:=ob h;obtain⟨y,hy,h⟩:=ob h;cases h;exact NA (rc.t o ht) (rc.e o hx) (rc.e o hy)
 replace h:=b8 h;rcases h with h|h
 ·obtain⟨es,k,p,rfl,h⟩:=iz h;obtain⟨s,hs,h⟩:=ob h;cases h;exact Nu (kc (rc.e o) hs).1
 ·obtain⟨es,p,rfl,h⟩:=Hl h;obtain⟨s,hs,h⟩:=ob h;cases h;exact Nz _ (kc (rc.e o) hs).1
noncomputable def DN (g:G)(x:Str):Option (List (Str×Nat)):=if jF g x=true then(match g.T.lookup x with|some (.dct fs)=>some fs|_=>none) else none
def ve (o:e9 fa n g X)(h:DN g x=some fs):(∃ad kvs,X.mg x=some (.ref ad)/\fW X.K X.w.params ad kvs/\eV fa kvs fs)/\Gl X x/\(x==("__debug__":Str))=false:=by
 obtain⟨c,h⟩:=oi h;split at h
 ·next e=>cases h;exact{o.T.dct e,eA o c}
 ·cases h
noncomputable def DV (R:Rc)(g:G)(e:Expr):Option GE:=Kt e λa qs bs _=>
 (n2 qs λq r=>n2 bs λb c=>if 0<g.lv/\behindInMarks r c=false then(R.e g a).bind λy=>(R.e g b).bind λz=>(R.e g c).bind λu=>some (qZ (gB q) (gB r) y z u) else none).or
 (n1 qs λq=>n1 bs λb=>(if gB q=.notin then nName b λx _=>(DN g x).bind λfs=>(R.e g a).bind λy=>some (i7 fs y) else none).or
  (if 0<g.lv/\behindInMarks q b=false then(R.e g a).bind λy=>(R.e g b).bind λz=>some (aA (gB q) y z) else none))
noncomputable def Ja:d8:=DV
def uw (h:gB q=.notin):q=.NotIn:=(dr q).symm.trans (congrArg fi h)
def Gd:SE Ja:=by
 intro fa n R rc g X o a ga h;replace h:=qR h;obtain⟨a,qs,bs,p,rfl,h⟩:=h;replace h:=b8 h;rcases h with h|h
 ·replace h:=iZ h;obtain⟨q,r,rfl,h⟩:=h;obtain⟨b,d,rfl,h⟩:=iZ h;obtain⟨c,h⟩:=oi h;replace h:=ob h;obtain⟨y,hy,h⟩:=h;replace h:=ob h;obtain⟨z,hz,h⟩:=h;replace h:=ob h;obtain⟨u,hu,h⟩:=h;cases h;have:=NG (o.rm c.1) (gB q) (gB r) (rc.e o hy) (rc.e o hz) (rc.e o hu) (by rw[dr,dr];exact c.2) (pos:=p)
  rw[dr,dr] at this;exact this
 replace h:=cS h;obtain⟨q,rfl,h⟩:=h;replace h:=cS h;obtain⟨b,rfl,h⟩:=h;replace h:=b8 h;rcases h with h|h
 ·replace h:=oi h;obtain⟨c,h⟩:=h;obtain⟨x,_,rfl,h⟩:=dj h;obtain⟨fs,e,h⟩:=ob h;obtain⟨y,hy,h⟩:=ob h;cases h;obtain⟨d,e1,e2⟩:=ve o e;rw[uw c];exact GX d e1 e2 (rc.e o hy) rfl
 ·obtain⟨c,h⟩:=oi h;obtain⟨y,hy,h⟩:=ob h;obtain⟨z,hz,h⟩:=ob h;cases h;have:=NF (o.rm c.1) (gB q) (rc.e o hy) (rc.e o hz) (by rw[dr];exact c.2) (pos:=p)
  rw[dr] at this;exact this
noncomputable def OB:Expr->Bool
 |.Compare ..=>false
 |.BoolOp ..=>false
 |.UnaryOp ..=>false
 |.IfExp ..=>false
 |_=>true
noncomputable def vT:FK:=λR g e=>((DV R g e).bind λx=>some (aj x)).or
 ((EU e λq es _ => match q with
   |.And=>tX (R.t g) gW es
   |.Or=>tX (R.t g) dN es).or
 ((Kn e λq a _ => match q with
   |.Not=>(R.t g a).bind λx=>some (cj x)
   |_=>none).or (if OB e=true then(R.e g e).bind λx=>some (aj x) else none)))
def F2 (rc:iC fa n R)(o:e9 fa n g X)(h:DV R g a=some ga):DT fa X a (aj ga):=by
 replace h:=qR h;obtain⟨a,qs,bs,p,rfl,h⟩:=h;replace h:=b8 h;rcases h with h|h
 ·replace h:=iZ h;obtain⟨q,r,rfl,h⟩:=h;obtain⟨b,d,rfl,h⟩:=iZ h;obtain⟨c,h⟩:=oi h;replace h:=ob h;obtain⟨y,hy,h⟩:=h;replace h:=ob h;obtain⟨z,hz,h⟩:=h;replace h:=ob h;obtain⟨u,hu,h⟩:=h;cases h;have:=Lu (o.rm c.1) (gB q) (gB r) (rc.e o hy) (rc.e o hz) (rc.e o hu) (by rw[dr,dr];exact c.2) (pos:=p)
  rw[dr,dr] at this;exact this
 replace h:=cS h;obtain⟨q,rfl,h⟩:=h;replace h:=cS h;obtain⟨b,rfl,h⟩:=h;replace h:=b8 h;rcases h with h|h
 ·replace h:=oi h;obtain⟨c,h⟩:=h;obtain⟨x,_,rfl,h⟩:=dj h;obtain⟨fs,e,h⟩:=ob h;obtain⟨y,hy,h⟩:=ob h;cases h;obtain⟨d,e1,e2⟩:=ve o e;rw[uw c];exact G2 d e1 e2 (rc.e o hy) rfl
 ·obtain⟨c,h⟩:=oi h;obtain⟨y,hy,h⟩:=ob h;obtain⟨z,hz,h⟩:=ob h;cases h;have:=Lr (o.rm c.1) (gB q) (rc.e o hy) (rc.e o hz) (by rw[dr];exact c.2) (pos:=p)
  rw[dr] at this;exact this
def Mo:ST vT:=by
 intro fa n R rc g X o a ga h;replace h:=b8 h;rcases h with h|h
 ·obtain⟨x,hx,h⟩:=ob h;cases h;exact F2 rc o hx
 replace h:=b8 h;rcases h with h|h
 ·obtain⟨q,es,p,rfl,h⟩:=uE h;cases q with
  |And=>exact PW.pt (wq (rc.t o) h)
  |Or=>exact PW.pt (zY (rc.t o) h)
 replace h:=b8 h;rcases h with h|h
 ·obtain⟨q,a,p,rfl,h⟩:=uB h;cases q with
  |Not=>obtain⟨x,hx,h⟩:=ob h;cases h;exact Lp (rc.t o hx)
  |_=>cases h
 ·obtain⟨c,h⟩:=oi h;obtain⟨x,hx,h⟩:=ob h;cases h;exact DG (rc.e o hx) λ_=>by cases a<;>first|rfl|cases c
noncomputable def kY:Expr->Bool
 |.Slice ..=>false
 |_=>true
def pd (h:kY b=true):ju b:=by
 intro x i;cases b<;>first|rfl|cases h
noncomputable def cO (f:Expr->Option GE):Option Expr->Option GE
 |none=>some (gC .non)
 |some a=>f a
def FA (hf:∀{a:Expr}{ga:GE},f a=some ga->DE fa X a ga)(h:cO f q=some ge):DO fa X q q.isSome ge:=by
 cases q with
 |none=>cases h;exact HU
 |some a=>exact HS (hf h)
noncomputable def IP:UnaryOp->Bool
 |.USub=>true
 |_=>false
def F4 (h:IP q=true):q=.USub:=by cases q<;>first|rfl|cases h
noncomputable def IU:d8:=λR g e=>qQ e λa b _=>nName a λx _=>(DN g x).bind λfs=>if kY b=true then(R.e g b).bind λy=>some (l4 fs y) else none
def F6:SE IU:=by
 intro fa n R rc g X o a ga h;replace h:=jl h;obtain⟨a,b,p,rfl,h⟩:=h;replace h:=dj h;obtain⟨x,q,rfl,h⟩:=h;obtain⟨fs,e,h⟩:=ob h;obtain⟨c,h⟩:=oi h;obtain⟨y,hy,h⟩:=ob h;cases h;obtain⟨d,e1,e2⟩:=ve o e;exact GZ d e1 e2 (rc.e o hy) (pd c)
noncomputable def IY:d8:=λR g e=>qQ e λa b p=>(Ko b λlo hi st _=>if st.isNone=true/\g.tx p=false then(R.e g a).bind λx=>(cO (R.e g) lo).bind λy=>(cO (R.e g) hi).bind λz=>some (cn (g.cl p) lo.isSome hi.isSome x y z) else none).or
 (if kY b=true then(R.e g a).bind λx=>(R.e g b).bind λy=>some (au x y) else none)
def Ga:SE IY:=by
 intro fa n R rc g X o a ga h;replace h:=jl h;obtain⟨a,b,p,rfl,h⟩:=h;replace h:=b8 h;rcases h with h|h
 ·obtain⟨lo,hi,st,p2,rfl,h⟩:=wO h;obtain⟨⟨c,_⟩,h⟩:=oi h;replace h:=ob h;obtain⟨x,hx,h⟩:=h;replace h:=ob h;obtain⟨y,hy,h⟩:=h;replace h:=ob h;obtain⟨z,hz,h⟩:=h;cases h;rw[Sl.mp c];exact Nw _ _ _ (rc.e o hx) (FA (rc.e o) hy) (FA (rc.e o) hz)
 ·obtain⟨c,h⟩:=oi h;obtain⟨x,hx,h⟩:=ob h;obtain⟨y,hy,h⟩:=ob h;cases h;exact NC (rc.e o hx) (rc.e o hy) (pd c)
noncomputable def IV:d8:=λR g e=>qQ e λa b p=>Ko b λlo hi st _=>st.bind λs=>Kn s λq c _=>Kp c λz=>if lo.isNone=true/\hi.isNone=true/\IP q=true/\z=1 then(R.e g a).bind λx=>some (mW (g.cl p) x) else none
def F7:SE IV:=by
 intro fa n R rc g X o a ga h;replace h:=jl h;obtain⟨a,b,p,rfl,h⟩:=h;replace h:=wO h;obtain⟨lo,hi,st,p2,rfl,h⟩:=h;obtain⟨s,rfl,h⟩:=ob h;replace h:=uB h;obtain⟨q,c,_,rfl,h⟩:=h;replace h:=Hn h;obtain⟨z,_,_,rfl,h⟩:=h;obtain⟨⟨c1,c2,c3,c4⟩,k⟩:=oi h;rw[Sl.mp c1,Sl.mp c2,F4 c3,c4];obtain⟨x,hx,k⟩:=ob k;cases k;exact MD _ (rc.e o hx)
noncomputable def lx (g:G)(x:Str):Option Nat:=if (g.sc.names.lookup x==some .local||(g.sc.names.lookup x==some .cell&&(g.lv != 1||g.oc.contains x)))=true then g.N.findIdx? (·==x) else none
noncomputable def EV (g:G):List Expr->Option (List Nat)
 |[]=>some []
 |e::r=>nName e λx _=>(lx g x).bind λi=>(EV g r).bind λl=>some (i::l)
noncomputable def cG (g:G)(e:Expr):Option fY:=(nName e λx _=>(lx g x).bind λi=>some (.one i)).or (uC e λes _ _=>if 0<g.lv then((EV g es).bind λl=>some (.tup l)).or (n2 es λa b=>nName a λx _=>uC b λbs _ _=>(lx g x).bind λi=>(EV g bs).bind λl=>some (.two i l)) else none)
section
variable{fa:Fa}{n:Nat}{g:G}{X:Cx}{R:Rc}(o:e9 fa n g X)
include o
theorem yx (h:lx g x=some i):X.N[i]?=some x/\L2.Loc X.env.scope x/\(X.fn x=true\/X.env.scope.names.lookup x=some .local):=by
 obtain⟨c,h⟩:=oi h;rw[Sn,Qr] at c;refine{yG o h,?_,?_}
 ·unfold L2.Loc;rw[o.sc];rcases c with z|z
  ·exact .inl (eq_of_beq z)
  ·exact .inr (eq_of_beq z.1)
 ·rcases c with z|z
  ·right;rw[o.sc];exact eq_of_beq z
  ·rcases Bool.or_eq_true_iff.mp z.2 with q|q
   ·exact .inl (o.fn (by simpa using q) x)
   ·exact .inl (o.oc x (List.contains_iff_mem.mp q))
theorem uH:∀{es:List Expr}{l:List Nat},EV g es=some l->je X l es
 |[],_,h=>by cases h;exact .nil
 | e :: r, _, h => by
   replace h:=dj h;obtain⟨x,p,rfl,h⟩:=h;obtain⟨i,hi,h⟩:=ob h;obtain⟨l,hl,h⟩:=ob h;cases h;obtain⟨a,b,c⟩:=yx o hi;exact .cons a b c (uH hl)
theorem ja (h:cG g t=some tt):PG X t (gT fa X.K tt):=by
 replace h:=b8 h;rcases h with h|h
 ·obtain⟨x,p,rfl,h⟩:=dj h;replace h:=ob h;obtain⟨i,hi,h⟩:=h;cases h;obtain⟨a,b,c⟩:=yx o hi;exact Ia (o.N ▸ o.nd) a b c
 ·replace h:=iz h;obtain⟨es,k,p,rfl,h⟩:=h;replace h:=oi h;obtain⟨c,h⟩:=h;replace h:=b8 h;rcases h with h|h
  ·obtain⟨l,hl,h⟩:=ob h;cases h;exact LJ (o.calm c) (o.N ▸ o.nd) (uH o hl)
  ·obtain⟨a,b,rfl,h⟩:=iZ h;replace h:=dj h;obtain⟨x,px,rfl,h⟩:=h;replace h:=iz h;obtain⟨bs,k2,p2,rfl,h⟩:=h;obtain⟨i,hi,h⟩:=ob h;obtain⟨l,hl,h⟩:=ob h;cases h;obtain⟨e1,e2,e3⟩:=yx o hi;exact LI (o.calm c) (o.N ▸ o.nd) e1 e2 e3 (uH o hl)
end
noncomputable def cB (nm:Str)(R:Rc)(g:G)(e:Expr):Option (List Expr×GA):=oJ e λx es _=>nC es λa es=>if x=nm/\jF g x=true/\(match g.T.lookup x with|some .bl=>true|_=>false)=true/\0<g.lv then(cA (R.e g) (a::es)).bind λgs=>some (a::es,gs) else none
def mh {g:G}(h:(match g.T.lookup x with|some .bl=>true|_=>false)=true):g.T.lookup x=some .bl:=by
 split at h
 ·assumption
 ·cases h
def tv (rc:iC fa n R)(o:e9 fa n g X)(h:cB nm R g e=some (as,gs)):∃p pos a es,as=a::es/\e=.Call (.Name nm p) (a::es) [] pos/\Gl X nm/\X.mg nm=none/\0<g.lv/\DA fa X (a::es) gs/\notStar a=true/\es.all notStar=true:=by
 replace h:=g8 h;obtain⟨x,q,es,p,rfl,h⟩:=h;replace h:=lR h;obtain⟨a,es,rfl,h⟩:=h;replace h:=oi h;obtain⟨⟨rfl,c1,c2,c3⟩,h⟩:=h;obtain⟨gs,hgs,h⟩:=ob h;cases h;obtain⟨d,ns⟩:=kc (rc.e o) hgs;rw[RJ,Qr] at ns;exact{_,_,_,_,rfl,rfl,(eA o c1).1,o.T.bl (mh c2),c3,d,ns.1,ns.2}
noncomputable def IX:d8:=λR g e=>(cB "len" R g e).bind λq=>some (aM .len q.2)
def F9:SE IX:=λ{fa n R} rc {g X} o {a ga} h=>by
 obtain⟨⟨as,gs⟩,hq,h⟩:=ob h;cases h;obtain⟨_,_,_,_,_,rfl,hg,hm,_,d,n1,n2⟩:=tv rc o hq;exact Fx .len Nj hg hm PySem.boot_len d `d `d (bA n1) (eM n2)
noncomputable def Jc:d8:=λR g e=>(cB "all" R g e).bind λq=>some (aM .all q.2)
def Gf:SE Jc:=λ{fa n R} rc {g X} o {a ga} h=>by
 obtain⟨⟨as,gs⟩,hq,h⟩:=ob h;cases h;obtain⟨_,_,_,_,_,rfl,hg,hm,lv,d,n1,n2⟩:=tv rc o hq;exact Fx .all (Nl (o.calm lv)) hg hm `k d `d `d (bA n1) (eM n2)
noncomputable def zI:d8:=λR g e=>(cB "tuple" R g e).bind λq=>some (aM .tuple q.2)
def zH:SE zI:=λ{fa n R} rc {g X} o {a ga} h=>by
 obtain⟨⟨as,gs⟩,hq,h⟩:=ob h;cases h;obtain⟨_,_,_,_,_,rfl,hg,hm,_,d,n1,n2⟩:=tv rc o hq;exact By .tuple HH hg hm `k d `d `d (bA n1) (eM n2)
noncomputable def Es:d8:=λR g e=>(cB "list" R g e).bind λq=>some (aM (.list (g.cl e.pos)) q.2)
def Cc:SE Es:=λ{fa n R} rc {g X} o {a ga} h=>by
 obtain⟨⟨as,gs⟩,hq,h⟩:=ob h;cases h;obtain⟨_,_,_,_,_,rfl,hg,hm,_,d,n1,n2⟩:=tv rc o hq;exact By (.list _) (Le _) hg hm `k d `d `d (bA n1) (eM n2)
noncomputable def cR (R:Rc)(g:G)(nm:Str)(e:Expr):Option (Expr×GE):=oJ e λx es _=>n1 es λa=>if x=nm/\jF g x=true/\(match g.T.lookup x with|some .bl=>true|_=>false)=true/\0<g.lv/\notStar a=true then(R.e g a).bind λy=>some (a,y) else none
def oy (rc:iC fa n R)(o:e9 fa n g X)(h:cR R g nm e=some (a,ga)):∃p pos,e=.Call (.Name nm p) [a] [] pos/\Gl X nm/\X.mg nm=none/\0<g.lv/\DE fa X a ga/\starEach [a] X.env=[(false,eval a X.env)]:=by
 replace h:=g8 h;obtain⟨x,q,es,p,rfl,h⟩:=h;replace h:=cS h;obtain⟨a,rfl,h⟩:=h;replace h:=oi h;obtain⟨⟨rfl,c1,c2,c3,c4⟩,h⟩:=h;obtain⟨y,hy,h⟩:=ob h;cases h;exact{_,_,rfl,(eA o c1).1,o.T.bl (mh c2),c3,rc.e o hy,bA c4}
noncomputable def zK:d8:=λR g e=>oJ e λx es p=>n1 es λb=>if x="list"/\jF g x=true/\(match g.T.lookup x with|some .bl=>true|_=>false)=true then(cR R g "range" b).bind λq=>some (mX (g.cl p) q.2) else none
def zJ:SE zK:=λ{fa n R} rc {g X} o {a ga} h=>by
 replace h:=g8 h;obtain⟨x,q,es,p,rfl,h⟩:=h;replace h:=cS h;obtain⟨b,rfl,h⟩:=h;replace h:=oi h;obtain⟨⟨rfl,c1,c2⟩,h⟩:=h;obtain⟨⟨b,y⟩,hq,h⟩:=ob h;cases h;obtain⟨_,_,rfl,hg,hm,lv,d,hs⟩:=oy rc o hq;exact GU _ (o.calm lv) d (eA o c1).1 (o.T.bl (mh c2)) hg hm hs rfl
noncomputable def Cm (x:Str):Option Ty:=if x="int" then some .int else if x="bool" then some .bool else if x="str" then some .str else if x="tuple" then some .tuple else if x="list" then some .list else none
def Gg (h:Cm x=some t):bootBuiltins x=some (.type (tyName t))/\(∀c,t≠.own c)/\x≠"__name__"/\(x==("__debug__":Str))=false:=by
 unfold Cm at h;split at h
 ·subst x;cases h;exact{`k,(λ_ z=>nomatch z),`d,`d}
 split at h
 ·subst x;cases h;exact{`k,(λ_ z=>nomatch z),`d,`d}
 split at h
 ·subst x;cases h;exact{`k,(λ_ z=>nomatch z),`d,`d}
 split at h
 ·subst x;cases h;exact{`k,(λ_ z=>nomatch z),`d,`d}
 split at h
 ·subst x;cases h;exact{`k,(λ_ z=>nomatch z),`d,`d}
 ·cases h
noncomputable def cI (R:Rc)(g:G)(e:Expr):Option (Str×GE):=oJ e λy es _=>n2 es λa b=>nName b λx _=>if y="isinstance"/\jF g y=true/\(match g.T.lookup y with|some .bl=>true|_=>false)=true/\jF g x=true/\notStar a=true then(R.e g a).bind λz=>some (x,z) else none
def NO (rc:iC fa n R)(o:e9 fa n g X)(h:cI R g e=some (x,ga)):∃p q a pos,e=.Call (.Name "isinstance" p) [a,.Name x q] [] pos/\Gl X "isinstance"/\X.mg "isinstance"=none/\Gl X x/\(x==("__debug__":Str))=false/\DE fa X a ga/\starEach [a,.Name x q] X.env=(false,eval a X.env)::starEach [.Name x q] X.env:=by
 replace h:=g8 h;obtain⟨y,q,es,p,rfl,h⟩:=h;replace h:=iZ h;obtain⟨a,b,rfl,h⟩:=h;replace h:=dj h;obtain⟨x,q2,rfl,h⟩:=h;replace h:=oi h;obtain⟨⟨rfl,c1,c2,c3,c4⟩,h⟩:=h;obtain⟨z,hz,h⟩:=ob h;cases h;exact{_,_,_,_,rfl,(eA o c1).1,o.T.bl (mh c2),(eA o c3).1,(eA o c3).2,rc.e o hz,bA c4}
noncomputable def Et:d8:=λR g e=>(cI R g e).bind λq=>if (match g.T.lookup q.1 with|some .bl=>true|_=>false)=true then(Cm q.1).bind λt=>some (eB t q.2) else none
def Cd:SE Et:=λ{fa n R} rc {g X} o {a ga} h=>by
 obtain⟨⟨x,z⟩,hq,h⟩:=ob h;obtain⟨c,h⟩:=oi h;obtain⟨t,ht,h⟩:=ob h;cases h;obtain⟨_,_,_,_,rfl,hg,hm,hx,hd,d,hs⟩:=NO rc o hq;obtain⟨b1,b2,b3,b4⟩:=Gg ht;exact LM t b2 d hg hm `k hx (o.T.bl (mh c)) b1 b3 b4 hs
noncomputable def Ez:d8:=λR g e=>oJ e λx es _=>nC es λa es=>if 0<g.lv then(match vr g x with
 |some i=>(cA (R.e g) (a::es)).bind λgs=>some (mY i g.c gs)
 | none => if jF g x = true then(match g.T.lookup x with
   |some (.fn i _)=>(cA (R.e g) (a::es)).bind λgs=>some (ai i g.c gs)
   |_=>none) else none) else none
def Cj:SE Ez:=λ{fa n R} rc {g X} o {a ga} h=>by
 replace h:=g8 h;obtain⟨x,q,es,p,rfl,h⟩:=h;replace h:=lR h;obtain⟨a,es,rfl,h⟩:=h
 ·obtain⟨lv,h⟩:=oi h;split at h
  ·next e=>
   obtain⟨gs,hgs,h⟩:=ob h;cases h;obtain⟨d,ns⟩:=kc (rc.e o) hgs;rw[RJ,Qr] at ns;obtain⟨a,b,c1,c2⟩:=Em o e;exact Ih (o.C lv) ((o.hr lv).mono (Nat.le_succ _)) a b d c1 c2 (bA ns.1) (eM ns.2)
  ·obtain⟨c,h⟩:=oi h;split at h
   ·next e=>
    obtain⟨gs,hgs,h⟩:=ob h;cases h;obtain⟨d,ns⟩:=kc (rc.e o) hgs;rw[RJ,Qr] at ns;exact LR (o.C lv _) ((o.hr lv).mono (Nat.le_succ _)) (eA o c).1 (o.T.fn e) d (eA o c).2 (bA ns.1) (eM ns.2)
   ·cases h
noncomputable def Eg:d8:=λR g e=>(oJ e λx es _=>nC es λa es=>if 2<=g.lv/\jF g x=true then(match g.T.lookup x with
 |some (.fn i true)=>(cA (R.e g) (a::es)).bind λgs=>some (bQ i g.c gs)
 |_=>none) else none).or (Kq e λc a b _=>(R.x g a).bind λx=>(R.x g b).bind λy=>(R.t g c).bind λt=>some (yJ t x y))
def BY:SX Eg:=λ{fa n R} rc {g X} o {a ga} h=>by
 replace h:=b8 h;rcases h with h|h
 ·obtain⟨x,q,es,p,rfl,h⟩:=g8 h;obtain⟨a,es,rfl,h⟩:=lR h;replace h:=oi h;obtain⟨⟨lv,c⟩,h⟩:=h;split at h
  ·next e=>
   replace h:=ob h;obtain⟨gs,hgs,h⟩:=h;cases h;obtain⟨d,ns⟩:=kc (rc.e o) hgs;rw[RJ,Qr] at ns;exact x_call _ (o.C `a) ((o.hr `a).mono (Nat.le_succ _)) (o.top lv).1 (eA o c).1 (o.T.fn e) d (eA o c).2 ns.1 ns.2
  ·cases h
 ·obtain⟨c,a,b,p,rfl,h⟩:=wQ h;obtain⟨x,hx,h⟩:=ob h;obtain⟨y,hy,h⟩:=ob h;obtain⟨t,ht,h⟩:=ob h;cases h;exact Mn (rc.t o ht) (rc.x o hx) (rc.x o hy)
noncomputable def zw:d8:=λR g e=>oJ e λx es _=>n1 es λa=>if 2<=g.lv/\jF g x=true/\notStar a=true then(match g.T.lookup x with
 |some (.fnD i)=>(R.e g a).bind λy=>some (bQ i g.c (bg y (bg (gC .non) bj)))
 |_=>none) else none
def zv:SX zw:=λ{fa n R} rc {g X} o {a ga} h=>by
 replace h:=g8 h;obtain⟨x,q,es,p,rfl,h⟩:=h;replace h:=cS h;obtain⟨a,rfl,h⟩:=h;replace h:=oi h;obtain⟨⟨lv,c,st⟩,h⟩:=h;split at h
 ·next e=>
  replace h:=ob h;obtain⟨y,hy,h⟩:=h;cases h;exact FW _ (o.C `a) ((o.hr `a).mono (Nat.le_succ _)) (o.top lv).1 (eA o c).1 (o.T.fnD e).1 (o.T.fnD e).2 (rc.e o hy) (eA o c).2 st
 ·cases h
noncomputable def nV:Expr->Bool
 |.Call ..=>false
 |_=>true
def jt (h:nV a=true):attributeBase a m env w=w:=by
 cases a<;>first|rfl|cases h
noncomputable def N3:d8:=λR g e=>OX e λl _=>nC l λa l=>n2 l λb c=>C6 a λz=>Of b λb=>C6 c λy=>(R.e g b).bind λx=>some (uX z y x)
def IZ:SE N3:=λ{fa n R} rc {g X} o {a ga} h=>by
 replace h:=Hm h;obtain⟨l,p,rfl,h⟩:=h;replace h:=lR h;obtain⟨a,l,rfl,h⟩:=h;replace h:=iZ h;obtain⟨b,c,rfl,h⟩:=h;replace h:=wN h;obtain⟨z,_,_,rfl,h⟩:=h;replace h:=Kr h;obtain⟨b,_,rfl,h⟩:=h;replace h:=wN h;obtain⟨y,_,_,rfl,h⟩:=h;obtain⟨x,hx,h⟩:=ob h;cases h;exact OR (rc.e o hx)
noncomputable def Ek:vR:=λR g _ e=>(cR R g "range" e).bind λq=>some (dg q.2)
def B8:SW Ek:=λ{fa n R} rc {g X} o {t a ga} h=>by
 obtain⟨⟨b,y⟩,hq,h⟩:=ob h;cases h;obtain⟨_,_,rfl,hg,hm,_,d,hs⟩:=oy rc o hq;exact HZ d hg hm hs
noncomputable def El:vR:=λR g t e=>uC t λ_ _ _=>(cR R g "enumerate" e).bind λq=>some (gz q.2)
def B9:SW El:=λ{fa n R} rc {g X} o {t a ga} h=>by
 replace h:=iz h;obtain⟨_,_,_,rfl,h⟩:=h;obtain⟨⟨b,y⟩,hq,h⟩:=ob h;cases h;obtain⟨_,_,rfl,hg,hm,_,d,hs⟩:=oy rc o hq;exact H9 d hg hm hs
noncomputable def cN (R:Rc)(g:G)(nm:Str)(e:Expr):Option (List Expr):=oJ e λx es _=>if x=nm/\jF g x=true/\(match g.T.lookup x with|some .bl=>true|_=>false)=true/\0<g.lv/\es.all notStar=true then some es else none
def NN (o:e9 fa n g X)(h:cN R g nm e=some es):∃p pos,e=.Call (.Name nm p) es [] pos/\Gl X nm/\X.mg nm=none/\es.all notStar=true:=by
 replace h:=g8 h;obtain⟨x,q,es,p,rfl,h⟩:=h;replace h:=oi h;obtain⟨⟨rfl,c1,c2,c3,c4⟩,h⟩:=h;cases h;exact{_,_,rfl,(eA o c1).1,o.T.bl (mh c2),c4}
def xV:∀{es:List Expr},es.all notStar=true->starEach es env=es.map λa=>(false,eval a env)
 |[],_=>rfl
 | a :: es, h => by
   rw[RJ,Qr] at h;rw[bA h.1,xV h.2];rfl
noncomputable def Ej:vR:=λR g t e=>uC t λ_ _ _=>(cN R g "zip" e).bind λes=>n2 es λa b=>(R.e g a).bind λx=>(R.e g b).bind λy=>some (n8 x y)
def B7:SW Ej:=λ{fa n R} rc {g X} o {t a ga} h=>by
 replace h:=iz h;obtain⟨_,_,_,rfl,h⟩:=h;obtain⟨es,hq,k⟩:=ob h;clear h;obtain⟨_,_,rfl,hg,hm,ns⟩:=NN o hq;replace k:=iZ k;obtain⟨a,b,rfl,k⟩:=k;obtain⟨x,hx,k⟩:=ob k;obtain⟨y,hy,k⟩:=ob k;cases k;exact HY (rc.e o hx) (rc.e o hy) hg hm (xV ns) (xV (R8.mp (RJ ▸ ns)).2)
noncomputable def IL:vR:=λR g _ e=>if g.tx e.pos=false then(R.e g e).bind λx=>some (bK x) else none
def FZ:SW IL:=λ{fa n R} rc {g X} o {t a ga} h=>by
 obtain⟨_,h⟩:=oi h;obtain⟨x,hx,h⟩:=ob h;cases h;exact LH (rc.e o hx)
noncomputable def jB:Expr->Bool
 |.Set ..=>false
 |_=>true
def uY (h:jB a=true)(x:Qi):foldedSetIterable a env x=pure x:=by
 cases a<;>first|rfl|cases h
noncomputable def yj:Expr->List Str
 |.Name x _=>[x]
 |.Tuple es _ _=>(es.map fun|.Name x _=>[x]|.Tuple bs _ _=>bs.filterMap (fun|.Name x _=>some x|_=>none)|_=>[]).flatten
 |_=>[]
noncomputable def vE (g:G)(own:List Str):List Str:=g.N.map λx=>if own.contains x then x++("%":Str) else x
noncomputable def CP (scope sc:Scope):Scope:={scope with names:=scope.names.map λ(n,k)=>if (k==.free&&sc.kind==.function&&sc.names.lookup n==some .cell) then(n,.cell) else(n,k)}
noncomputable def G.inC (g:G)(own:List Str)(scope:Scope):G:={g with N:=own++vE g own,sc:=CP scope g.sc,lv:=1,oc:=(scope.names.filter λy=>scope.names.lookup y.1==some .cell).map (·.1)}
noncomputable def wG (g:G)(own:List Str)(scope:Scope):Prop:=0<g.lv/\scope.kind=.function/\rC (vE g own) g.N g.sc scope=true/\(own++vE g own).Nodup
instance (g:G) (own:List Str) (scope:Scope):Decidable (wG g own scope):=by unfold wG;infer_instance
def yP (o:e9 fa n g X)(c:wG g own scope):fM X own (vE g own) scope/\∀cl C fp s H,e9 fa n (g.inC own scope) (gn X own (vE g own) scope cl C fp s H):=by
 obtain⟨c1,c2,c3,c4⟩:=c;refine{BC c2 o.sc o.N c3,λcl C fp s H=>{rfl,c4,?_,o.T,o.tw,o.xf,o.ms,(λz=>absurd rfl z),(λx hx=>by obtain⟨y,hy,e⟩:=Qx.mp hx;subst e;exact(RV.mp hy).2),λ_=>o.calm c1,λ_=>o.C c1,λ_=>o.hr c1,(λz=>absurd (show 2<=1 from z) `d),(λz=>nomatch z)}}
 show relabel scope X.env=CP scope g.sc;unfold relabel CP Env.kindOf;rw[o.sc]
structure Mj (fa:Fa) (X:Cx) (e:Expr) (k:Nat) (t:fY) (gw:GW) (gb:GB):Prop where
 ex:∃elt tg iter ifs rest scope pos own bn W body,e=.ListComp elt ({tg,iter,ifs,0}::rest) scope pos/\k=own.length/\fM X own bn scope/\DI fa X tg iter gw/\Block fa X (LA fa X.K) own bn scope tg t W body gb/\qB X elt tg iter ifs rest scope pos body/\(∀i∈W,i∉slots t)/\(∀i∈slots t++W,i<own.length)/\∀x,foldedSetIterable iter X.env x=pure x
noncomputable def cC (R:Rc)(g:G)(e:Expr):Option (Nat×fY×GW×GB):=Oe e λelt gens scope _=>(n1 gens λc=>nG c λtg iter ifs=>let own:=yj tg
 if wG g own scope/\jB iter=true then(R.w g tg iter).bind λw=>(cG (g.inC own scope) tg).bind λt=>(R.e (g.inC own scope) elt).bind λx=>if (slots t).all (· < own.length)=true then(n0 ifs (some (own.length,t,w,bo x))).or (n1 ifs λc=>(R.t (g.inC own scope) c).bind λq=>some (own.length,t,w,iW q (bo x))) else none else none).or
 (n2 gens λc d=>nG c λtg iter ifs=>nG d λt2 i2 ifs2=>let own:=yj tg++yj t2
  n0 ifs (n0 ifs2 (if wG g own scope/\jB iter=true/\jB i2=true then(R.w g tg iter).bind λw=>(cG (g.inC own scope) tg).bind λt=>(R.w (g.inC own scope) t2 i2).bind λw2=>(cG (g.inC own scope) t2).bind λu=>(R.e (g.inC own scope) elt).bind λx=>if (slots t++slots u).all (· < own.length)=true/\(slots u).all (λi=>!(slots t).contains i)=true then some (own.length,t,w,qY u w2 (bo x)) else none else none)))
def FC (rc:iC fa n R)(o:e9 fa n g X)(h:cC R g e=some (k,t,gw,gb)):Mj fa X e k t gw gb:=by
 replace h:=AW h;obtain⟨elt,gens,scope,p,rfl,h⟩:=h;replace h:=b8 h;rcases h with h|h
 ·replace h:=cS h;obtain⟨c,rfl,h⟩:=h;replace h:=td h;obtain⟨tg,iter,ifs,rfl,h⟩:=h;replace h:=oi h;obtain⟨⟨c,cs⟩,h⟩:=h;replace h:=ob h;obtain⟨w,hw,h⟩:=h;replace h:=ob h;obtain⟨t,ht,h⟩:=h;replace h:=ob h;obtain⟨x,hx,h⟩:=h;replace h:=oi h;obtain⟨c2,h⟩:=h;obtain⟨S,O⟩:=yP o c;replace h:=b8 h;rcases h with h|h
  ·obtain⟨rfl,h⟩:=fO h;cases h;exact{_,_,_,_,_,_,_,_,_,[],(λa env=>eval elt env >>= λx=>call (.builtin "list.append") [.ref a,x] >>= λ_=>pure ()),rfl,rfl,S,rc.w o hw,{λcl C fp s H=>ja (O cl C fp s H) ht,λcl C fp s H a=>vf (rc.e (O cl C fp s H) hx)},(λit a env=>Cq _ _ _ [] _ _ (.ref it) (.ref a) env),(λi h=>nomatch h),(by simpa using lI c2),uY cs}
  ·obtain⟨d,rfl,h⟩:=cS h;obtain⟨q,hq,h⟩:=ob h;cases h;exact{_,_,_,_,_,_,_,_,_,[],(λa env=>PySem.isTrue d env (eval d env) >>= λok=>if ok=true then(eval elt env >>= λx=>call (.builtin "list.append") [.ref a,x] >>= λ_=>pure ()) else pure ()),rfl,rfl,S,rc.w o hw,{λcl C fp s H=>ja (O cl C fp s H) ht,λcl C fp s H a=>Nr LA.stab (rc.t (O cl C fp s H) hq) (vf (rc.e (O cl C fp s H) hx))},(λit a env=>turn_if _ _ _ _ _ _ (.ref it) (.ref a) env),(λi h=>nomatch h),(by simpa using lI c2),uY cs}
 ·replace h:=iZ h;obtain⟨c,d,rfl,h⟩:=h;replace h:=td h;obtain⟨tg,iter,ifs,rfl,h⟩:=h;replace h:=td h;obtain⟨t2,i2,ifs2,rfl,h⟩:=h;replace h:=fO h;obtain⟨rfl,h⟩:=h;replace h:=fO h;obtain⟨rfl,h⟩:=h;obtain⟨⟨c,cs,cs2⟩,h⟩:=oi h;obtain⟨w,hw,h⟩:=ob h;obtain⟨t,ht,h⟩:=ob h;obtain⟨w2,hw2,h⟩:=ob h;obtain⟨u,hu,h⟩:=ob h;obtain⟨x,hx,h⟩:=ob h;obtain⟨⟨c2,c3⟩,h⟩:=oi h;cases h;obtain⟨S,O⟩:=yP o c;exact{_,_,_,_,_,_,_,_,_,slots u,(λa env=>eval i2 env >>= λx=>standAt i2.pos >>= λ_=>foldedSetIterable i2 env x >>= λx=>holding [x] (pyIter x) >>= λj=>runOwn (.compStart (.ListComp elt [{tg,iter,[],0},{t2,i2,[],0}] scope p) 1 j (.ref a) env) env >>= λ_=>pure ()),rfl,rfl,S,rc.w o hw,{λcl C fp s H=>ja (O cl C fp s H) ht,λcl C fp s H a=>LK rfl (o.calm c.1) (rc.w (O cl C fp s H) hw2) (ja (O cl C fp s H) hu) (rc.e (O cl C fp s H) hx) (uY cs2)},(λit a env=>Co _ _ _ _ _ _ _ (.ref it) (.ref a) env),Ao c3,lI c2,uY cs}
noncomputable def Ey:d8:=λR g e=>if 0<g.lv then(cC R g e).bind λq=>some (bc (g.cl e.pos) q.1 q.2.1 q.2.2.1 q.2.2.2) else none
def Ci:SE Ey:=λ{fa n R} rc {g X} o {a ga} h=>by
 obtain⟨lv,h⟩:=oi h;obtain⟨⟨k,t,w,b⟩,hq,h⟩:=ob h;cases h;obtain⟨elt,tg,iter,ifs,rest,scope,pos,own,bn,W,body,rfl,rfl,S,hi,B,T,h1,h2,h3⟩:=(FC rc o hq).ex;exact LQ _ S (o.calm lv) hi B T h1 h2 h3
noncomputable def vB (f:Stmt->Option GS):List Stmt->Option GS
 |[]=>some aG
 |a::r=>(f a).bind λx=>(vB f r).bind λy=>some (aX x y)
def lj (hf:∀{a:Stmt}{ga:GS},f a=some ga->DS fa X a ga):∀{ss:List Stmt}{gs:GS},vB f ss=some gs->nJ fa X ss gs
 |[],_,h=>by cases h;exact xo
 | a :: r, _, h => by
   obtain⟨x,hx,h⟩:=ob h;obtain⟨y,hy,h⟩:=ob h;cases h;exact DH (hf hx) (lj hf hy)
noncomputable def wH:Expr->Bool
 |.ListComp ..=>false
 |.SetComp ..=>false
 |.DictComp ..=>false
 |_=>true
def wJ (h:wH a=true):swapsWith a t l env=pure false:=by
 cases a<;>first|rfl|cases h
noncomputable def LZ (g:G)(tg a:Expr):Bool:=match a with
 |.ListComp ..=>(match tg with|.Name y _=>g.sc.names.lookup y==some .cell|_=>false)
 |.Tuple ..=>(match tg with|.Name ..=>true|_=>false)
 |.SetComp ..=>false
 |.DictComp ..=>(match tg with|.Name y _=>g.sc.names.lookup y==some .cell|_=>false)
 |_=>true
def LY (o:e9 fa n g X)(c:LZ g tg a=true)(ht:cG g tg=some t):swapsWithSole [tg] a l X.env=pure false/\swappedStores [tg] a X.env=pure none/\(assignEach [tg] X.env).map (·.2)=[assign tg X.env]:=by
 refine{?_,?_,?_}
 ·cases a<;>first|rfl|cases c|skip
  all_goals cases tg<;>first|cases c|skip
  all_goals
  next y p=>
  have e:=eq_of_beq c;have hk:(X.env.kindOf y==some .local)=false:=by unfold Env.kindOf;rw[o.sc,e];rfl
  show(pure (X.env.blockKind==.function&&X.env.kindOf y==some .local&&_&&_):Sem Bool)=pure false;rw[hk,Bool.and_false,Bool.false_and,Bool.false_and]
 ·replace ht:=b8 ht;rcases ht with h|h
  ·obtain⟨_,_,rfl,_⟩:=dj h;cases a<;>first|rfl|cases c
  ·obtain⟨_,_,_,rfl,_⟩:=iz h;cases a<;>first|rfl|cases c
 ·replace ht:=b8 ht;rcases ht with h|h
  ·obtain⟨_,_,rfl,_⟩:=dj h;rfl
  ·obtain⟨_,_,_,rfl,_⟩:=iz h;rfl
noncomputable def IC:lC:=λR g st=>yc st λts a _=>n1 ts λtg=>if LZ g tg a=true then(cG g tg).bind λt=>((R.x g a).bind λx=>some (d9 t x)).or ((R.e g a).bind λx=>some (aw t x)) else none
def FU:SS IC:=λ{fa n R} rc {g X} o {a ga} h=>by
 replace h:=nP h;obtain⟨ts,a,p,rfl,h⟩:=h;replace h:=cS h;obtain⟨tg,rfl,h⟩:=h;obtain⟨c,h⟩:=oi h;obtain⟨t,ht,h⟩:=ob h;obtain⟨a1,a2,a3⟩:=LY o c ht;replace h:=b8 h;rcases h with h|h
 ·obtain⟨x,e,h⟩:=ob h;cases h;exact Jv (rc.x o e) (ja o ht) a1 a2 a3
 ·obtain⟨x,hx,h⟩:=ob h;cases h;exact Lz (rc.e o hx) (ja o ht) a1 a2 a3
noncomputable def Ee:lC:=λR g st=>yc st λts d _=>n1 ts λt=>nName t λy py=>Oe d λelt gens scope p=>if 2<=g.lv/\g.sc.names.lookup y=some .local/\(py.line==p.line)=true/\(scope.names.any λ(n,k)=>n==y&&(k==.local||k==.cell))=false then(cC R g (.ListComp elt gens scope p)).bind λq=>(g.N.findIdx? (·==y)).bind λi=>some (aw (.one i) (bc (g.cl p) q.1 q.2.1 q.2.2.1 q.2.2.2)) else none
def BW:SS Ee:=λ{fa n R} rc {g X} o {a ga} h=>by
 replace h:=nP h;obtain⟨ts,d,_,rfl,h⟩:=h;replace h:=cS h;obtain⟨t,rfl,h⟩:=h;replace h:=dj h;obtain⟨y,py,rfl,h⟩:=h;replace h:=AW h;obtain⟨_,_,sc0,p,rfl,h⟩:=h
 ·next=>
  obtain⟨⟨lv,c1,c2,c3⟩,h⟩:=oi h;obtain⟨⟨k,t,w,b⟩,hq,h⟩:=ob h;obtain⟨i,hi,h⟩:=ob h;cases h;obtain⟨elt,tg,iter,ifs,rest,scope,pos,own,bn,W,body,e0,rfl,S,hi',B,T,h1,h2,h3⟩:=(FC rc o hq).ex;cases e0;have hl:X.env.scope.names.lookup y=some .local:=by rw[o.sc];exact c1
  refine yN _ S (o.calm `a) hi' B T h1 h2 h3 (o.N ▸ o.nd) (yG o hi) hl ?_
  have hk:=(o.top lv).2.2.2;have hb:(X.env.blockKind==.function)=true:=by unfold Env.blockKind;rw[hk];rfl
  have hkd:(X.env.kindOf y==some .local)=true:=by unfold Env.kindOf;rw[hl];rfl
  show(pure (X.env.blockKind==.function&&X.env.kindOf y==some .local&&(py.line==p.line)&&!(sc0.names.any λ(n,k)=>n==y&&(k==.local||k==.cell))):Sem Bool)=pure true;rw[hb,hkd,c2,c3];rfl
noncomputable def IA:lC:=λR g st=>yc st λts d _=>n1 ts λt=>qQ t λa b _=>if kY b=true then(R.e g a).bind λx=>(R.e g b).bind λy=>(R.e g d).bind λz=>some (eO x y z) else none
def FR:SS IA:=λ{fa n R} rc {g X} o {a ga} h=>by
 replace h:=nP h;obtain⟨ts,d,_,rfl,h⟩:=h;replace h:=cS h;obtain⟨t,rfl,h⟩:=h;replace h:=jl h;obtain⟨a,b,p2,rfl,h⟩:=h
 ·next=>
  obtain⟨c,h⟩:=oi h;obtain⟨x,hx,h⟩:=ob h;obtain⟨y,hy,h⟩:=ob h;obtain⟨z,hz,h⟩:=ob h;cases h;refine Lw (rc.e o hx) (rc.e o hy) (rc.e o hz) (λv=>?_) ?_ ?_ rfl
  ·cases b<;>first|rfl|cases c
  ·cases d<;>rfl
  ·cases d<;>rfl
noncomputable def ID:lC:=λR g st=>yb st λe _=>ET e λa m d q=>if m="append"/\nV a=true/\q=true/\notStar d=true then(R.e g a).bind λx=>(R.e g d).bind λy=>some (dS x y) else none
def FV:SS ID:=λ{fa n R} rc {g X} o {a ga} h=>by
 replace h:=nO h;obtain⟨e,_,rfl,h⟩:=h;replace h:=uD h;obtain⟨a,m,q,d,p,rfl,h⟩:=h;replace h:=oi h;obtain⟨⟨rfl,c1,c2,c3⟩,h⟩:=h;obtain⟨x,hx,h⟩:=ob h;obtain⟨y,hy,h⟩:=ob h;cases h;exact LB (rc.e o hx) (rc.e o hy) (jt c1) c2 (bA c3) rfl
noncomputable def Iz:lC:=λR g st=>(yb st λa _=>if wH a=true then((R.x g a).bind λx=>some (iw x)).or ((R.e g a).bind λx=>some (sEx x)) else none).or
 ((sRt st λq _ => match q with
   |none=>some EH
   |some a=>((R.x g a).bind λx=>some (ya x)).or ((R.e g a).bind λx=>some (aP x))).or
 ((sPs st λ_=>some EI).or
 ((Oa st λc st sf _=>(R.t g c).bind λt=>(vB (R.s g) st).bind λx=>(vB (R.s g) sf).bind λy=>some (aQ t x y)).or
 (Ob st λtg a body el _=>n0 el (if g.lv=2/\jB a=true then(R.w g tg a).bind λw=>(cG g tg).bind λt=>(vB (R.s g) body).bind λx=>some (cm t w x) else none)))))
def FQ:SS Iz:=λ{fa n R} rc {g X} o {a ga} h=>by
 replace h:=b8 h;rcases h with h|h
 ·obtain⟨a,p,rfl,h⟩:=nO h;obtain⟨c,h⟩:=oi h;rcases b8 h with h|h
  ·obtain⟨x,e,h⟩:=ob h;cases h;exact MA (rc.x o e) (wJ c)
  ·obtain⟨x,hx,h⟩:=ob h;cases h;exact Nq (rc.e o hx) (wJ c)
 replace h:=b8 h;rcases h with h|h
 ·obtain⟨q,p,rfl,h⟩:=Jy h;cases q with
  |none=>cases h;exact HN
  | some a =>
    rcases b8 h with h|h
    ·obtain⟨x,e,h⟩:=ob h;cases h;exact Js (rc.x o e)
    ·obtain⟨x,hx,h⟩:=ob h;cases h;exact Lv (rc.e o hx)
 replace h:=b8 h;rcases h with h|h
 ·obtain⟨p,rfl,h⟩:=Jz h;cases h;exact HP
 replace h:=b8 h;rcases h with h|h
 ·obtain⟨c,st,sf,p,rfl,h⟩:=Au h;obtain⟨t,ht,h⟩:=ob h;obtain⟨x,hx,h⟩:=ob h;obtain⟨y,hy,h⟩:=ob h;cases h;exact Lx (rc.t o ht) (lj (rc.s o) hx) (lj (rc.s o) hy)
 ·obtain⟨tg,a,body,el,p,rfl,h⟩:=Av h;obtain⟨rfl,h⟩:=fO h;obtain⟨⟨lv,c⟩,h⟩:=oi h;obtain⟨w,hw,h⟩:=ob h;obtain⟨t,ht,h⟩:=ob h;obtain⟨x,hx,h⟩:=ob h;cases h;exact Bu (o.po lv) (o.calm `a) (rc.w o hw) (ja o ht) (Fu (lj (rc.s o) hx)) (uY c)
noncomputable def zu:lC:=λR g st=>OP st λe c _=>if c.isNone=true then e.bind λe=>oJ e λx es _=>nC es λa es=>if 2<=g.lv/\jF g x=true then(match g.T.lookup x with
 |some (.xc k)=>(cA (R.e g) (a::es)).bind λgs=>some (gi k gs)
 |_=>none) else none else none
def zt:SS zu:=λ{fa n R} rc {g X} o {a ga} h=>by
 replace h:=GP h;obtain⟨e,c,_,rfl,h⟩:=h;replace h:=oi h;obtain⟨c,h⟩:=h;rw[Sl.mp c];replace h:=ob h;obtain⟨e,rfl,h⟩:=h;replace h:=g8 h;obtain⟨x,q,es,p,rfl,h⟩:=h;replace h:=lR h;obtain⟨a,es,rfl,h⟩:=h
 ·obtain⟨⟨lv,c⟩,k⟩:=oi h;clear h;split at k
  ·next e=>
   obtain⟨gs,hgs,k⟩:=ob k;cases k;obtain⟨d,ns⟩:=kc (rc.e o) hgs;rw[RJ,Qr] at ns;obtain⟨C,h1,h2,h3,_⟩:=o.T.xc e;exact GN _ ⟨C,h1,h2,h3⟩ (o.top lv).1 (eA o c).1 (o.calm `a) d (eA o c).2 ns.1 ns.2
  ·cases k
def HV {rest:List Stmt}{p q:Pos}{c:Expr}{gc:GT}{gs:GS}(hc:DT fa X c gc)(hb:vW fa X rest gs):vW fa X (.If c [.Continue p] [] q::rest) (aQ gc aG gs):=by
 intro pins s σ H D I ⟨hn,μ,Z,M,hE,hM,h⟩;refine lO (EL hc (lO vZ qM) qM) hb pins s σ H D I (wo hE hM h λk M1 H1 μ1 x1 hE1 hM1 h1=>?_);cases k with
 |true=>exact hn _ _ (h1 σ H1 μ1 x1 hE1 hM1)
 |false=>exact{hn,μ1,Z,M1,hE1,hM1,AN x1 h1}
def HW {st:Stmt}{rest:List Stmt}{gx gs:GS}(h1:DS fa X st gx)(h2:vW fa X rest gs):vW fa X (st::rest) (aX gx gs):=by
 intro pins s σ H D I ⟨hn,μ,Z,M,hE,hM,h⟩;obtain⟨fl,M1,e,q⟩:=aL h;refine lO h1 h2 pins s σ H D I {μ,Z,M,hE,hM,?_};rw[e];cases fl with
 |next ρ1=>exact λσ1 H1 μ1 x1 hE1 hM1=>{hn,μ1,ρ1,M1,hE1,hM1,AN x1 q}
 |ret d=>exact q
 |exc x ρ1=>exact q
def JB {st:Stmt}(h:(match st with|.Continue _=>true|_=>false)=true):∃p,st=.Continue p:=by
 cases st<;>first|exact{_,rfl}|cases h
noncomputable def cL (R:Rc)(g:G):List Stmt->Option GS
 |[]=>some aG
 |a::r=>(Oa a λc st sf _=>n1 st λk=>n0 sf (if (match k with|.Continue _=>true|_=>false)=true then(R.t g c).bind λt=>(cL R g r).bind λy=>some (aQ t aG y) else none)).or ((R.s g a).bind λx=>(cL R g r).bind λy=>some (aX x y))
def yU (rc:iC fa n R)(o:e9 fa n g X):∀{ss:List Stmt}{gs:GS},cL R g ss=some gs->vW fa X ss gs
 |[],_,h=>by cases h;exact Fu xo
 | a :: r, _, h => by
   rcases b8 h with h|h
   ·obtain⟨c,st,sf,p,rfl,h⟩:=Au h;obtain⟨k,rfl,h⟩:=cS h;obtain⟨rfl,h⟩:=fO h;obtain⟨ck,h⟩:=oi h;obtain⟨_,rfl⟩:=JB ck;obtain⟨t,ht,h⟩:=ob h;obtain⟨y,hy,h⟩:=ob h;cases h;exact HV (rc.t o ht) (yU rc o hy)
   ·obtain⟨x,hx,h⟩:=ob h;obtain⟨y,hy,h⟩:=ob h;cases h;exact HW (rc.s o hx) (yU rc o hy)
noncomputable def Ec:lC:=λR g st=>Ob st λtg a body el _=>n0 el (if g.lv=2/\jB a=true then(R.w g tg a).bind λw=>(cG g tg).bind λt=>(cL R g body).bind λx=>some (cm t w x) else none)
def BU:SS Ec:=λ{fa n R} rc {g X} o {a ga} h=>by
 obtain⟨tg,a,body,el,p,rfl,h⟩:=Av h;obtain⟨rfl,h⟩:=fO h;obtain⟨⟨lv,c⟩,h⟩:=oi h;obtain⟨w,hw,h⟩:=ob h;obtain⟨t,ht,h⟩:=ob h;obtain⟨x,hx,h⟩:=ob h;cases h;exact Bu (o.po lv) (o.calm `a) (rc.w o hw) (ja o ht) (yU rc o hx) (uY c)
noncomputable def IB:lC:=λR g st=>yb st λe _=>ET e λa m d q=>if m="extend"/\nV a=true/\q=true/\notStar d=true then(R.e g a).bind λx=>(R.e g d).bind λy=>some (ub x y) else none
def FT:SS IB:=λ{fa n R} rc {g X} o {a ga} h=>by
 replace h:=nO h;obtain⟨e,_,rfl,h⟩:=h;replace h:=uD h;obtain⟨a,m,q,d,p,rfl,h⟩:=h;replace h:=oi h;obtain⟨⟨rfl,c1,c2,c3⟩,h⟩:=h;obtain⟨x,hx,h⟩:=ob h;obtain⟨y,hy,h⟩:=ob h;cases h;exact Ly (rc.e o hx) (rc.e o hy) (jt c1) c2 (bA c3) rfl
section
variable{β:Type}{e:Expr}{st:Stmt}{r:β}
noncomputable def C7 (e:Expr)(k:List (Option Expr)->List Expr->Pos->Option β):Option β:=if h:e.ctorIdx=6 then @Expr.Dict.elim (λ_=>Option β) e h k else none
def wR (h:C7 e k=some r):∃a b c,e=.Dict a b c/\k a b c=some r:=(od h).elim λz h=>@Expr.Dict.elim (λe=>∀z,@Expr.Dict.elim (λ_=>Option β) e z k=some r->∃a b c,e=.Dict a b c/\k a b c=some r) e z (λa b c _ h=>⟨a,b,c,rfl,h⟩) z h
noncomputable def N9 (e:Stmt)(k:Expr->List Stmt->List Stmt->Pos->Option β):Option β:=if h:e.ctorIdx=11 then @Stmt.While.elim (λ_=>Option β) e h k else none
def Jx (h:N9 st k=some r):∃a b c d,st=.While a b c d/\k a b c d=some r:=(od h).elim λz h=>@Stmt.While.elim (λe=>∀z,@Stmt.While.elim (λ_=>Option β) e z k=some r->∃a b c d,e=.While a b c d/\k a b c d=some r) st z (λa b c d _ h=>⟨a,b,c,d,rfl,h⟩) z h
noncomputable def Og (e:Expr)(k:Expr->Expr->List Su->Scope->Pos->Option β):Option β:=if h:e.ctorIdx=10 then @Expr.DictComp.elim (λ_=>Option β) e h k else none
def Ks (h:Og e k=some r):∃a b c d p,e=.DictComp a b c d p/\k a b c d p=some r:=(od h).elim λz h=>@Expr.DictComp.elim (λe=>∀z,@Expr.DictComp.elim (λ_=>Option β) e z k=some r->∃a b c d p,e=.DictComp a b c d p/\k a b c d p=some r) e z (λa b c d p _ h=>⟨a,b,c,d,p,rfl,h⟩) z h
end
def nh (o:e9 fa n g X):fD fa:=⟨o.T.of,o.T.od.1,o.T.od.2⟩
noncomputable def Ex:d8:=λR g e=>qQ e λa b p=>if g.tx p=true/\kY b=true/\0<g.lv then(R.e g a).bind λx=>(R.e g b).bind λy=>some (eU x y) else none
def Cg:SE Ex:=λ{fa n R} rc {g X} o {a ga} h=>by
 replace h:=jl h;obtain⟨a,b,p,rfl,h⟩:=h;replace h:=oi h;obtain⟨⟨_,c,lv⟩,h⟩:=h;obtain⟨x,hx,h⟩:=ob h;obtain⟨y,hy,h⟩:=ob h;cases h;exact LP (o.rm lv) (nh o) (rc.e o hx) (rc.e o hy) (pd c)
noncomputable def isIn (q:CmpOp):Option Bool:=match q with
 |.In=>some false
 |.NotIn=>some true
 |_=>none
def HA (h:isIn q=some n):q=if n then .NotIn else .In:=by
 cases q<;>first|(cases h;rfl)|cases h
noncomputable def DU (R:Rc)(g:G)(e:Expr):Option GE:=Kt e λa qs bs p=>n1 qs λq=>n1 bs λb=>if g.tx p=true/\behindInMarks q b=false/\0<g.lv then(isIn q).bind λn=>(R.e g a).bind λx=>(R.e g b).bind λy=>some (fZ n x y) else none
def xF (rc:iC fa n R)(o:e9 fa n g X)(h:DU R g e=some ge):DE fa X e ge/\DT fa X e (aj ge):=by
 replace h:=qR h;obtain⟨a,qs,bs,p,rfl,h⟩:=h;replace h:=cS h;obtain⟨q,rfl,h⟩:=h;replace h:=cS h;obtain⟨b,rfl,h⟩:=h;replace h:=oi h;obtain⟨⟨_,c,lv⟩,h⟩:=h;obtain⟨m,hm,h⟩:=ob h;obtain⟨x,hx,h⟩:=ob h;obtain⟨y,hy,h⟩:=ob h;cases h;have e:=HA hm;subst e;exact{ND m (o.rm lv) (nh o) (rc.e o hx) (rc.e o hy) c,Lq m (o.rm lv) (nh o) (rc.e o hx) (rc.e o hy) c}
noncomputable def I8:d8:=DU
def Gb:SE I8:=λ{fa n R} rc {g X} o {a ga} h=>(xF rc o h).1
noncomputable def IM:FK:=λR g e=>(DU R g e).bind λx=>some (aj x)
def F1:ST IM:=λ{fa n R} rc {g X} o {a ga} h=>by
 obtain⟨x,hx,h⟩:=ob h;cases h;exact(xF rc o hx).2
noncomputable def Ed:lC:=λR g st=>yc st λts d _=>n1 ts λt=>qQ t λa b p=>if g.tx p=true/\kY b=true/\0<g.lv then(R.e g a).bind λx=>(R.e g b).bind λy=>(R.e g d).bind λz=>some (gr x y z) else none
def BV:SS Ed:=λ{fa n R} rc {g X} o {a ga} h=>by
 replace h:=nP h;obtain⟨ts,d,_,rfl,h⟩:=h;replace h:=cS h;obtain⟨t,rfl,h⟩:=h;replace h:=jl h;obtain⟨a,b,p2,rfl,h⟩:=h;replace h:=oi h;obtain⟨⟨_,c,lv⟩,h⟩:=h;obtain⟨x,hx,h⟩:=ob h;obtain⟨y,hy,h⟩:=ob h;obtain⟨z,hz,h⟩:=ob h;cases h;refine Ju (o.rm lv) (nh o) (rc.e o hx) (rc.e o hy) (rc.e o hz) (λv=>?_) ?_ ?_
 ·cases b<;>first|rfl|cases c
 ·cases d<;>rfl
 ·cases d<;>rfl
noncomputable def Eu:d8:=λR g e=>C7 e λks vs p=>n0 ks (n0 vs (some (qk (if g.tx p=true then 78 else 77))))
def Ce:SE Eu:=λ{fa n R} rc {g X} o {a ga} h=>by
 replace h:=wR h;obtain⟨ks,vs,p,rfl,h⟩:=h;replace h:=fO h;obtain⟨rfl,h⟩:=h;replace h:=fO h;obtain⟨rfl,h⟩:=h;cases h;exact LN _ (by split<;>simp) (nh o)
noncomputable def Ew:d8:=λR g e=>if g.tx e.pos=true then(cR R g "len" e).bind λq=>if notStar q.1=true then some (fS q.2) else none else none
def Cf:SE Ew:=λ{fa n R} rc {g X} o {a ga} h=>by
 obtain⟨_,h⟩:=oi h;obtain⟨⟨b,y⟩,hq,h⟩:=ob h;obtain⟨c,h⟩:=oi h;cases h;obtain⟨_,_,rfl,hg,hm,_,d,hs⟩:=oy rc o hq;exact LO (nh o) hg hm d c
noncomputable def zO:d8:=λR g e=>Og e λkx vx gens scope p=>n1 gens λc=>nG c λtg iter ifs=>let own:=yj tg
 n0 ifs (if wG g own scope/\jB iter=true then(R.w g tg iter).bind λw=>(cG (g.inC own scope) tg).bind λt=>(R.e (g.inC own scope) kx).bind λx=>(R.e (g.inC own scope) vx).bind λy=>if (slots t).all (· < own.length)=true then some (ia (if g.tx p=true then 78 else 77) own.length t w (h9 x y)) else none else none)
def zN:SE zO:=λ{fa n R} rc {g X} o {a ga} h=>by
 replace h:=Ks h;obtain⟨kx,vx,gens,scope,p,rfl,h⟩:=h;replace h:=cS h;obtain⟨c,rfl,h⟩:=h;replace h:=td h;obtain⟨tg,iter,ifs,rfl,h⟩:=h;replace h:=fO h;obtain⟨rfl,h⟩:=h;replace h:=oi h;obtain⟨⟨c,cs⟩,h⟩:=h;obtain⟨w,hw,h⟩:=ob h;obtain⟨t,ht,h⟩:=ob h;obtain⟨x,hx,h⟩:=ob h;obtain⟨y,hy,h⟩:=ob h;obtain⟨c2,h⟩:=oi h;cases h;obtain⟨S,O⟩:=yP o c;exact Ig (by split<;>simp) (nh o) S (o.calm c.1) (rc.w o hw) {λcl C fp s H=>ja (O cl C fp s H) ht,λcl C fp s H a=>Ib ((O cl C fp s H).rm Nat.zero_lt_one) (nh o) (rc.e (O cl C fp s H) hx) (rc.e (O cl C fp s H) hy)} (by simpa using lI c2) (uY cs)
noncomputable def zr:lC:=λR g st=>N9 st λc body el _=>n0 el (if g.lv=2 then(R.t g c).bind λt=>(vB (R.s g) body).bind λb=>some (gg t b) else none)
def zq:SS zr:=λ{fa n R} rc {g X} o {a ga} h=>by
 replace h:=Jx h;obtain⟨c,body,el,p,rfl,h⟩:=h;replace h:=fO h;obtain⟨rfl,h⟩:=h;replace h:=oi h;obtain⟨lv,h⟩:=h;obtain⟨t,ht,h⟩:=ob h;obtain⟨b,hb,h⟩:=ob h;cases h;exact GL (o.po lv) (rc.t o ht) (lj (rc.s o) hb)
noncomputable def Jb:d8:=λR g e=>(cR R g "any" e).bind λq=>if notStar q.1=true then some (kA q.2) else none
def Ge:SE Jb:=λ{fa n R} rc {g X} o {a ga} h=>by
 obtain⟨⟨b,y⟩,hq,h⟩:=ob h;obtain⟨c,h⟩:=oi h;cases h;obtain⟨_,_,rfl,hg,hm,lv,d,hs⟩:=oy rc o hq;exact NI (o.calm lv) hg hm d c
noncomputable def N4:d8:=λR g e=>C7 e λks vs p=>n1 ks λk=>k.bind λk=>n1 vs λv=>if 0<g.lv then(R.e g k).bind λx=>(R.e g v).bind λy=>some (xg (if g.tx p=true then 78 else 77) x y) else none
def I9:SE N4:=λ{fa n R} rc {g X} o {a ga} h=>by
 replace h:=wR h;obtain⟨ks,vs,p,rfl,h⟩:=h;replace h:=cS h;obtain⟨k,rfl,h⟩:=h;obtain⟨k,rfl,h⟩:=Rl.mp h;replace h:=cS h;obtain⟨v,rfl,h⟩:=h;replace h:=oi h;obtain⟨lv,h⟩:=h;obtain⟨x,hx,h⟩:=ob h;obtain⟨y,hy,h⟩:=ob h;cases h;exact Ie _ (by split<;>simp) (o.rm lv) (nh o) (rc.e o hx) (rc.e o hy)
noncomputable def zE:vR:=λR g _ e=>if g.cl e.pos=true then(R.e g e).bind λx=>some (eK cV x) else none
def zD:SW zE:=λ{fa n R} rc {g X} o {t a ga} h=>by
 obtain⟨_,h⟩:=oi h;obtain⟨x,hx,h⟩:=ob h;cases h;exact H8 (nh o) (rc.e o hx)
noncomputable def Ef:lC:=λR g st=>yb st λe _=>ET e λa m d q=>if m="append"/\nV a=true/\q=true/\notStar d=true then(R.e g a).bind λx=>(R.x g d).bind λy=>some (nQ x y) else none
def BX:SS Ef:=λ{fa n R} rc {g X} o {a ga} h=>by
 replace h:=nO h;obtain⟨e,_,rfl,h⟩:=h;replace h:=uD h;obtain⟨a,m,q,d,p,rfl,h⟩:=h;replace h:=oi h;obtain⟨⟨rfl,c1,c2,c3⟩,h⟩:=h;obtain⟨x,hx,h⟩:=ob h;obtain⟨y,hy,h⟩:=ob h;cases h;exact HQ (rc.e o hx) (rc.x o hy) (jt c1) c2 (bA c3) rfl
noncomputable def Er:d8:=λR g e=>yu e λh es ks p=>nName h λx _=>n1 es λa=>n1 ks λk=>yt k.value λc _ _=>if x="min"/\jF g x=true/\(match g.T.lookup x with|some .bl=>true|_=>false)=true/\0<g.lv/\notStar a=true/\k.arg=some "default"/\(match c with|.none=>true|_=>false)=true then(R.e g a).bind λy=>some (lZ y) else none
def Cb:SE Er:=λ{fa n R} rc {g X} o {a ga} h=>by
 replace h:=pj h;obtain⟨hd,es,ks,p,rfl,h⟩:=h;replace h:=dj h;obtain⟨x,q,rfl,h⟩:=h;replace h:=cS h;obtain⟨a,rfl,h⟩:=h;replace h:=cS h;obtain⟨⟨ka,kv,kp⟩,rfl,h⟩:=h;replace h:=nY h;obtain⟨c,i,cp,rfl,h⟩:=h;replace h:=oi h;obtain⟨⟨rfl,c1,c2,lv,c3,rfl,c4⟩,h⟩:=h;have ec:c=.none:=by revert c4;cases c<;>simp
 subst ec;obtain⟨y,hy,h⟩:=ob h;cases h;exact JC (o.rm lv) (o.calm lv) (eA o c1).1 (o.T.bl (mh c2)) (rc.e o hy) (bA c3)
noncomputable def zM:d8:=λR g e=>if g.tx e.pos=true then(cR R g "list" e).bind λq=>some (hZ (g.cl e.pos) q.2) else none
def zL:SE zM:=λ{fa n R} rc {g X} o {a ga} h=>by
 obtain⟨_,h⟩:=oi h;obtain⟨⟨b,y⟩,hq,h⟩:=ob h;cases h;obtain⟨_,_,rfl,hg,hm,lv,d,hs⟩:=oy rc o hq;exact GY (o.calm lv) (nh o) _ hg hm d hs
structure Ent where
 i:Nat
 x:Str
 st:Stmt
 ps:Nat
 N:List Str
 f:Addr
 pm:Str×Tok
 b:Call->GS
 r:Bool:=false
 q:Option Str:=none
 df:Addr:=0
noncomputable def Ent.qn (e:Ent):Str:=e.q.getD e.x
structure nF where
 T:List (Str×En)
 tw:List (Str×Str×Nat×Nat)
 xf:List Str
 dl:List (Str×List (Str×Nat))
 il:List (Str×Nat)
 cel:List (Nat×Nat×Nat)
 txt:List (Nat×Nat×Nat)
 ms:List (Str×Nat×Nat)
 rs:Rs
 tb:List Ent
noncomputable def nF.g (t:nF)(e:Ent)(c:Call):G:={t.T,t.tw,t.xf,t.cel,t.txt,t.ms,c,e.N,bq e.st,2,[]}
noncomputable def nF.Pg (t:nF)(i:Nat):Option Df:=(t.tb.find? (·.i==i)).map λe=>⟨e.ps,e.N.length,e.b⟩
noncomputable def nF.rd (t:nF)(c:Call)(e:Ent):Option GS:=vB ((It t.rs 60).s (t.g e c)) (dm e.st)
noncomputable def DF (e:Ent):Bool:=decide ((bq e.st).kind=.function)&&!(bq e.st).isCoroutine&&!(bq e.st).isGenerator&&decide e.N.Nodup&&((e.N.take e.ps).length==e.ps)&&((e.N.take e.ps).all λx=>(bq e.st).names.lookup x==some .local||(bq e.st).names.lookup x==some .cell)&&((bq e.st).names.all (·.2 != .free))
def ql (h:DF e=true):jv e.N (e.N.take e.ps) (bq e.st)/\(e.N.take e.ps).length=e.ps:=by
 unfold DF at h;simp only[Qr,decide_eq_true_eq,SA,QB,Sn,beq_iff_eq,bne_iff_ne] at h;obtain⟨⟨⟨⟨⟨⟨h1,h2⟩,h3⟩,h4⟩,h5⟩,h6⟩,h7⟩:=h;exact{{h1,h2,h3,h4,by rw[h5],h6,h7},h5}
noncomputable def Ent.dV (e:Ent):Qi:=if e.df=0 then .none else .ref e.df
noncomputable def Lj (e:Ent):Option Obj:=some {.type "function",none,.func (PySem.W.fnOf e.x e.qn (ft e.st) (dm e.st) (bq e.st) e.dV .none .none (.str e.pm.1 e.pm.2) none (.ref (e.f-1)) .none),#[]}
def mP {α β:Type}{f g:α->β}{l:List α}(h:l.map f=l.map g){a:α}(m:a∈l):f a=g a:=List.map_inj_left.mp h a m
noncomputable def pF (e:Ent)(us:List Qi)(kV doc pm:Qi)(an:Option Addr)(cdv ct:Qi):Sem (List (Str×Qi)):=bindArgs (PySem.W.fnOf e.x e.qn (ft e.st) (dm e.st) (bq e.st) e.dV kV doc pm an cdv ct) {us,[]}
noncomputable def pR (tb:List Ent)(k:Nat)(us:List Qi):Prop:=∀(kV doc pm:Qi) (an:Option Addr) (cdv ct:Qi),(tb.filter λe=>e.ps==k&&e.df==0).map (λe=>pF e us kV doc pm an cdv ct)=(tb.filter λe=>e.ps==k&&e.df==0).map λe=>pure ((e.N.take e.ps).zip us)
structure ze (t:nF):Prop where
 rs:D5 t.rs
 rd:∀c,t.tb.map (t.rd c)=t.tb.map λe=>some (e.b c)
 sc:t.tb.all DF=true
 ar:t.tb.all (λe=>e.ps==0||e.ps==1||e.ps==2||e.ps==3||e.ps==4||e.ps==6)=true
 a0:pR t.tb 0 []
 a1:∀a,pR t.tb 1 [a]
 a2:∀a b,pR t.tb 2 [a,b]
 a3:∀a b c,pR t.tb 3 [a,b,c]
 a4:∀a b c d,pR t.tb 4 [a,b,c,d]
 a6:∀a b c d e f,pR t.tb 6 [a,b,c,d,e,f]
 ad:AllP (λe=>e.ps=2/\∀(a b kV doc pm:Qi) (an:Option Addr) (cdv ct:Qi),∃k k1,pF e [a,b] kV doc pm an cdv ct=seqItems? (.ref e.df) >>= k/\k (some #[.none])=pure ((e.N.take e.ps).zip [a,b])/\pF e [a] kV doc pm an cdv ct=seqItems? (.ref e.df) >>= k1/\k1 (some #[.none])=pure ((e.N.take e.ps).zip [a,.none])) (t.tb.filter λe=>!(e.df==0))
structure BR (K:Qh) (tb:List Ent):Prop where
 ns:(tb.filter (·.q.isNone)).map (λe=>PySem.W.nsIn K mainGlobals e.x)=(tb.filter (·.q.isNone)).map λe=>some (some (.ref e.f))
 lk:tb.map (λe=>K.lookup e.f)=tb.map Lj
 dk:tb.all (λe=>e.df==0||(match K.lookup e.df with|some {_,_,.seq its _,_}=>its==#[.none]|_=>false))=true
 ck:tb.all (λe=>PySem.W.codeIn K (.ref (e.f-1)) e.qn&&PySem.W.keepIn K (.ref e.f))=true
def Jf {K:Qh}{tb:List Ent}(k:BR K tb)(m:e∈tb):zl K e.x e.qn e.st e.f (PySem.W.fnOf e.x e.qn (ft e.st) (dm e.st) (bq e.st) e.dV .none .none (.str e.pm.1 e.pm.2) none (.ref (e.f-1)) .none):=by
 have c:=QB.mp k.ck e m;rw[Qr] at c;exact{{_,_,_,_,_,_,_,_,_,_,rfl,mP k.lk m,c.1},c.2}
def Gj {K:Qh}{h:Heap}(k:BR K tb)(X:K.In h)(G:h.Ns mainGlobals mg)(m:e∈tb)(hq:e.q.isNone=true)(hd:e.df=0):mg e.x=some (.ref e.f)/\∃fd,xN K e.x e.qn e.st e.f fd:=by
 have c:=QB.mp k.ck e m;rw[Qr] at c;have l:=mP k.lk m;unfold Lj Ent.dV at l;rw[if_pos hd] at l;exact{R7 X G (mP k.ns (RV.mpr ⟨m,hq⟩)),_,La l c.1 c.2}
def us6 {α:Type}{p:List α->Prop}(h:∀a b c d e f,p [a,b,c,d,e,f]):∀(us:List α) (hl:us.length=6),p us
 |[a,b,c,d,e,f],_=>h a b c d e f
def Cw {t:nF}(T:ze t){e:Ent}(m:e∈t.tb)(h0:e.df=0)(kV doc pm:Qi)(an:Option Addr)(cdv ct:Qi):∀us:List Qi,us.length=(e.N.take e.ps).length->pF e us kV doc pm an cdv ct=pure ((e.N.take e.ps).zip us):=by
 have hl:=(ql (QB.mp T.sc e m)).2;have a:=QB.mp T.ar e m;have f:∀{k:Nat}{us:List Qi},e.ps=k->pR t.tb k us->pF e us kV doc pm an cdv ct=pure ((e.N.take e.ps).zip us):=λ{k us} hk ao=>mP (ao kV doc pm an cdv ct) (RV.mpr {m,by rw[hk,h0];simp})
 rw[hl];simp only[Sn,beq_iff_eq] at a;rcases a with((((a|a)|a)|a)|a)|a
 ·rw[a];exact λus h=>by rw[Sb.mp h];exact a ▸ f a T.a0
 ·rw[a];exact N2 λx=>a ▸ f a (T.a1 x)
 ·rw[a];exact N1 λx y=>a ▸ f a (T.a2 x y)
 ·rw[a];exact us3 λx y z=>a ▸ f a (T.a3 x y z)
 ·rw[a];exact us4 λx y z u=>a ▸ f a (T.a4 x y z u)
 ·rw[a];exact us6 λx y z u v w=>a ▸ f a (T.a6 x y z u v w)
section
variable{fa:Fa}{P:Ra}{w:Rb}{K:Qh}{mg:Str->Option Qi}{base:Heap}{t:nF}
def tV (T:ze t)(TO:FJ fa P w K mg base t.T)(tw:∀q∈t.tw,FI fa K mg q.1 q.2.1 q.2.2.1 q.2.2.2)(xf:∀f∈t.xf,FG fa K f)(ms:∀q∈t.ms,qC fa K q.1 q.2.1 q.2.2){e:Ent}(m:e∈t.tb){ad:Addr}(call:Call)(n:Nat)(cdv:Qi)(A:RR)(outer:List R3)(s:Qm)(H:Hp)(E:XK)
 (C:∀f,ik fa P w K mg base n f (call f)) (hr:dH (2*n+5) (A.deeper (envOfC e.qn (bq e.st) s.heap.objs.size ad cdv))):nJ fa (gH (iX P w) P w K mg base e.N e.qn (bq e.st) ad cdv A outer s H E) (dm e.st) (e.b call):=by
 have S:=(ql (QB.mp T.sc e m)).1;exact lj ((FO T.rs 60).s (g:=t.g e call) (X:=gH (iX P w) P w K mg base e.N e.qn (bq e.st) ad cdv A outer s H E) {rfl,S.nd,rfl,TO,tw,xf,ms,λ_ _=>rfl,(λ_ h=>nomatch h),λ_=>rfl,λ_=>C,λ_=>hr,λ_=>⟨rfl,rfl,rfl,S.kind⟩,λ_=>PassesOwn.leaving}) (mP (T.rd call) m)
def zX (k:BR K tb)(m:en∈tb)(h0:en.df≠0)(X:K.In s.heap)(e1:pF en us .none .none (.str en.pm.1 en.pm.2) none (.ref (en.f-1)) .none=seqItems? (.ref en.df) >>= kk)(e2:kk (some #[.none])=pure out) :
 BindsTo s (PySem.W.fnOf en.x en.qn (ft en.st) (dm en.st) (bq en.st) en.dV .none .none (.str en.pm.1 en.pm.2) none (.ref (en.f-1)) .none) {us,[]} out:=by
 have dk:=QB.mp k.dk en m;rw[Sn] at dk;rcases dk with dk|dk
 ·exact absurd (eq_of_beq dk) h0
 split at dk
 ·next lk=>
  have q:=eq_of_beq dk;subst q;exact BindsTo.of_defaults (by show en.dV=_;unfold Ent.dV;rw[if_neg h0]) (X _ _ lk) rfl (by show pF en us _ _ _ _ _ _=seqItems? en.dV >>= _;unfold Ent.dV;rw[if_neg h0];exact e1) e2
 ·cases dk
def Cu (T:ze t)(k:BR K t.tb)(X:K.In h)(G:h.Ns mainGlobals mg)(TO:FJ fa P w K mg base t.T)(tw:∀q∈t.tw,FI fa K mg q.1 q.2.1 q.2.2.1 q.2.2.2)(xf:∀f∈t.xf,FG fa K f)(ms:∀q∈t.ms,qC fa K q.1 q.2.1 q.2.2)(hf:t.tb.all (λe=>fa e.i==some e.f&&(!(fa (500+e.i)).isSome||!(e.df==0)))=true) :
 ∀f d,t.Pg f=some d->zo fa P w K mg base f d:=by
 intro f d e;obtain⟨en,he,rfl⟩:=QA.mp e;have m:=List.mem_of_find?_eq_some he;have ei:en.i=f:=by have:=List.find?_some he;simpa using this
 have F:=Jf k m;obtain⟨S,hl⟩:=ql (QB.mp T.sc en m);have hf2:=QB.mp hf en m;rw[Qr,Sn] at hf2;have fe:fa f=some en.f:=by rw[<- ei];exact eq_of_beq hf2.1
 have B:Binds K (PySem.W.fnOf en.x en.qn (ft en.st) (dm en.st) (bq en.st) en.dV .none .none (.str en.pm.1 en.pm.2) none (.ref (en.f-1)) .none) (en.N.take en.ps) []:=by
  by_cases h0:en.df=0
  ·exact .all (Cw T m h0 _ _ _ _ _ _)
  ·intro s us X hl2;obtain⟨h2,hk⟩:=T.ad.mem en (RV.mpr {m,by simpa using h0})
   rw[Ri] at hl2 ⊢;rw[hl,h2] at hl2
   match us,hl2 with
   | [a, b], _ =>
     obtain⟨kk,_,e1,e2,_⟩:=hk a b .none .none (.str en.pm.1 en.pm.2) none (.ref (en.f-1)) .none;exact zX k m h0 X e1 e2
 have B1:(fa (500+f)).isSome=true->Binds K (PySem.W.fnOf en.x en.qn (ft en.st) (dm en.st) (bq en.st) en.dV .none .none (.str en.pm.1 en.pm.2) none (.ref (en.f-1)) .none) (en.N.take en.ps) [.none]:=λhs s us X hl2=>by
  have h0:en.df≠0:=by
   rcases hf2.2 with z|z
   ·rw[ei,hs] at z;cases z
   ·simpa using z
  obtain⟨h2,hk⟩:=T.ad.mem en (RV.mpr {m,by simpa using h0})
  rw[hl,h2,QO] at hl2
  match us,hl2 with
  | [a], _ =>
    obtain⟨_,kk,_,_,e1,e2⟩:=hk a .none .none .none (.str en.pm.1 en.pm.2) none (.ref (en.f-1)) .none;exact zX k m h0 X e1 e2
 exact{en.f,_,en.N.take en.ps,en.N,en.st,en.x,en.qn,fe,F,B,B1,S,hl.symm,rfl,λcall n cdv A outer s H E C hr=>tV T TO tw xf ms m call n cdv A outer s H E C hr}
noncomputable def Lk (K:Qh)(fa:Fa)(t:nF)(p:Str×En):Bool:=match p.2 with
 |.fn i _=>(match PySem.W.nsIn K mainGlobals p.1 with|some (some (.ref a))=>fa i==some a|_=>false)
 |.fnD i=>(match PySem.W.nsIn K mainGlobals p.1 with|some (some (.ref a))=>fa i==some a&&(fa (500+i)).isSome|_=>false)
 |.int i=>(match PySem.W.nsIn K mainGlobals p.1 with|some (some (.int j _))=>i==j|_=>false)
 |.str i=>(match PySem.W.nsIn K mainGlobals p.1 with|some (some (.str j _))=>i==j|_=>false)
 |.xc k=>(match PySem.W.nsIn K mainGlobals p.1 with|some (some (.ref a))=>fa (gp k)==some a&&PySem.W.excIn K a BG "ValueError.__new__"&&PySem.W.keepIn K (.ref a)|_=>false)
 |.xi k=>(match PySem.W.nsIn K mainGlobals p.1 with|some (some (.ref a))=>fa (gp k)==some a&&t.il.contains (p.1,k)|_=>false)
 |.xk k=>(match PySem.W.nsIn K mainGlobals p.1 with|some (some (.ref a))=>fa (gp k)==some a|_=>false)
 |.de=>(match PySem.W.nsIn K mainGlobals p.1 with|some (some (.ref a))=>fa 999==some a|_=>false)
 |.bl=>(match PySem.W.nsIn K mainGlobals p.1 with|some none=>true|_=>false)
 |.dct fs=>t.dl.contains (p.1,fs)
 |.cls c f=>(match PySem.W.nsIn K mainGlobals p.1 with|some (some (.ref a))=>fa (jX c)==some a&&PySem.W.makesIn K a&&PySem.W.keepIn K (.ref a)&&(match fa f with|some ad=>PySem.W.findIn K (.ref a) "__init__"==some (some (.ref ad))&&PySem.W.isFn K (.ref ad)|none=>true)|_=>false)
def Gi (X:K.In h)(G:h.Ns mainGlobals mg)(hT:t.T.all (Lk K fa t)=true)(hx:L7 fa K)(hob:Mc fa K)(hof:∀o,5000<=o->fa o=none)(hod:fa (jX 77)=none/\fa (jX 78)=none)(hd:AllP (λq=>∃ad kvs,mg q.1=some (.ref ad)/\fW K w.params ad kvs/\eV fa kvs q.2) t.dl)(hi:AllP (λq=>BS fa P w K mg base q.2 q.1) t.il):FJ fa P w K mg base t.T:=by
 have key:∀{x:Str}{e:En},t.T.lookup x=some e->Lk K fa t (x,e)=true:=λ{x e} l=>QB.mp hT _ (mem_of_lookup l);refine{λ{x i r} l ad ha=>?_,λ{x i} l=>?_,λ{x i} l=>?_,λ{x i} l=>?_,λ{x fs} l=>?_,λ{x k} l=>?_,λ{x k} l=>?_,λ{x k} l=>?_,λ{x} l=>?_,λ{x} l=>?_,hx,hob,hof,hod,λ{x c f} l=>?_};all_goals have b:=key l;unfold Lk at b;dsimp only at b
 ·split at b
  ·next e=>have b:=eq_of_beq b;rw[ha] at b;cases b;exact R7 X G e
  ·cases b
 ·split at b
  ·next e=>rw[Qr] at b;exact{λad ha=>by have b1:=eq_of_beq b.1;rw[ha] at b1;cases b1;exact R7 X G e,b.2}
  ·cases b
 ·split at b
  ·next e=>have b:=eq_of_beq b;subst b;exact{_,R7 X G e}
  ·cases b
 ·split at b
  ·next e=>have b:=eq_of_beq b;subst b;exact{_,R7 X G e}
  ·cases b
 ·exact hd.mem (x,fs) (List.contains_iff_mem.mp b)
 ·split at b
  ·next e=>simp only[Qr] at b;exact{_,R7 X G e,eq_of_beq b.1.1,b.1.2,b.2}
  ·cases b
 ·split at b
  ·next e=>rw[Qr] at b;exact{hi.mem (x,k) (List.contains_iff_mem.mp b.2),_,R7 X G e,eq_of_beq b.1}
  ·cases b
 ·split at b
  ·next e=>exact{_,R7 X G e,eq_of_beq b}
  ·cases b
 ·split at b
  ·next e=>exact{_,R7 X G e,eq_of_beq b}
  ·cases b
 ·split at b
  ·next e=>exact PySem.W.mg_none_of X G e
  ·cases b
 ·split at b
  ·next a e=>
   simp only[Qr] at b;refine{a,R7 X G e,eq_of_beq b.1.1.1,λad had=>?_};have b2:=b.2;rw[had] at b2;simp only[Qr] at b2;exact{b.1.1.2,eq_of_beq b2.1,b2.2,b.1.2}
  ·cases b
end
noncomputable def yS (K:Qh)(C:Addr):Bool:=PySem.W.plainGet K C Str.empty&&PySem.W.hasDictIn K C&&PySem.W.plainOver K C&&PySem.W.findIn K (.ref C) "__setattr__"==some (some (.builtin "object.__setattr__"))
def BD {K:Qh}(h:yS K C=true):xP K C:=by
 unfold yS at h;simp only[Qr] at h;exact{h.1.1.1,h.1.1.2,h.1.2,eq_of_beq h.2}
noncomputable def Kh (K:Qh)(fa:Fa):Bool:=match fa (jX 40) with
 |some C=>yS K C&&(l5 40).all λf=>PySem.W.findIn K (.ref C) f==some none
 |none=>true
def Kg {K:Qh}(h:Kh K fa=true):Mc fa K:=λc C e ne=>by
 have hc:c=40:=by
  unfold l5 at ne;split at ne
  ·rfl
  ·exact absurd rfl ne
 subst hc;unfold Kh at h;rw[e] at h;simp only[Qr,QB] at h;exact{BD h.1,λf m=>eq_of_beq (h.2 f m)}
noncomputable def Ky (K:Qh)(fa:Fa)(q:Str×Nat×Nat):Bool:=match fa (jX q.2.1) with
 | some C => yS K C && (match fa q.2.2 with
   |some ad=>PySem.W.findIn K (.ref C) q.1==some (some (.ref ad))&&PySem.W.isFn K (.ref ad)&&PySem.W.keepIn K (.ref ad)
   |none=>true)&&!(l5 q.2.1).contains q.1&&!(l5 q.2.1).isEmpty
 |none=>false
def Kx {K:Qh}{l:List (Str×Nat×Nat)}(h:l.all (Ky K fa)=true):∀q∈l,qC fa K q.1 q.2.1 q.2.2:=λq m=>by
 have h:=QB.mp h q m;unfold Ky at h;cases e:fa (jX q.2.1) with
 |none=>rw[e] at h;cases h
 | some C =>
   rw[e] at h;simp only[Qr,SA] at h;refine{C,e,BD h.1.1.1,λad ea=>?_,λz=>?_,λz=>?_}
   ·have b:=h.1.1.2;rw[ea] at b;simp only[Qr] at b;exact{eq_of_beq b.1.1,b.1.2,b.2}
   ·have:=List.contains_iff_mem.mpr z;rw[h.1.2] at this;cases this
   ·rw[z] at h;exact absurd h.2 `d
def DC {D:Addr}(h:cl.all (λq=>decide (q.1<4000))=true):∀o,5000<=o->xj l cl D o=none:=λo ho=>by
 unfold xj;rw[if_neg `a,if_neg `a]
 cases e:cl.lookup (o-1000) with
 |none=>rfl
 | some C =>
   have:=of_decide_eq_true (QB.mp h _ (lookup_mem e));omega
end LD
section
local macro_rules|`(#[$a,*])=>do return<-a.getElems.foldrM (β:=Lean.Term) (λx r=>`(LD.bg $x $r)) (<-`(LD.bj))
local macro_rules|`(#v[$a,*])=>do return<-a.getElems.foldrM (β:=Lean.Term) (λx r=>`(LD.aX $x $r)) (<-`(LD.aG))
namespace LD
open PySem
abbrev gI (n:Int):GE:=gC (.int n)
abbrev gS (x:Str):GE:=gC (.str x)
abbrev gN:GE:=gC .non
abbrev Bs:GE:=gC (.bl true)
abbrev gFf:GE:=gC (.bl false)
abbrev rF:GS:=aX (aP gFf) aG
noncomputable def eP:List (Str×Nat):=[("turn",7),("join",8),("move",9),("put",10)]
noncomputable def cU:List (Str×Nat):=[("turn",20),("join",21),("move",22),("put",23)]
noncomputable def jL (c:Call):GS:=#v[aQ (dN (aj (eB .bool (aa 0))) (cj (aj (eB .int (aa 0))))) rF aG,aP (qZ .le .le (aa 1) (aa 0) (aa 2))]
noncomputable def nq (c:Call):GS:=#v[aP (ai 0 c #[aa 1,gI 0,av false .sub (aa 0) (gI 1)])]
noncomputable def mw (c:Call):GS:=#v[aP (ai 0 c #[aa 1,gI 0,av false .sub (aa 0) (gI 1)])]
noncomputable def nA (c:Call):GS:=#v[aP (ai 0 c #[aa 0,gI 1,gI 3])]
noncomputable def gD (c:Call):GS:=#v[aP (eX (eB .tuple (aa 1)) (aA .eq (aM .len #[aa 1]) (aa 0)))]
noncomputable def mv (c:Call):GS:=#v[aP (eX (ai 4 c #[aa 0,aa 1]) (aM .all #[bc false 1 (.one 0) (bK (aa 1)) (bo (ai 1 c #[aa 1,aa 0]))]))]
noncomputable def f7 (c:Call):GS:=#v[aP (eX (ai 4 c #[aa 0,aa 1]) (aM .all #[bc false 1 (.one 0) (bK (aa 1)) (bo (ai 5 c #[aa 1,aa 0]))]))]
noncomputable def nr (c:Call):GS:=#v[aQ (aj (aA .ne (aM .len #[aa 2]) (gI 3))) rF aG,aw (.tup [3,4,5]) (aa 2),aP (eX (ai 2 c #[aa 1,aa 3]) (eX (ai 5 c #[aa 0,aa 4]) (ai 3 c #[aa 5])))]
noncomputable def ny (c:Call):GS:=#v[aQ (aj (aA .ne (aM .len #[aa 2]) (gI 4))) rF aG,aw (.tup [3,4,5,6]) (aa 2),aQ (dN (cj (aj (ai 2 c #[aa 1,aa 3]))) (cj (aj (ai 2 c #[aa 1,aa 4])))) rF aG,aP (eX (ai 6 c #[aa 0,aa 5]) (ai 3 c #[aa 6]))]
noncomputable def nt (c:Call):GS:=#v[aQ (aj (aA .ne (aM .len #[aa 2]) (gI 3))) rF aG,aw (.tup [3,4,5]) (aa 2),aP (eX (ai 2 c #[aa 1,aa 3]) (eX (ai 2 c #[aa 1,aa 4]) (ai 3 c #[aa 5])))]
noncomputable def pK (c:Call):GS:=#v[aQ (aj (aA .ne (aM .len #[aa 2]) (gI 3))) rF aG,aw (.tup [3,4,5]) (aa 2),aP (eX (ai 2 c #[aa 1,aa 3]) (eX (ai 1 c #[aa 0,aa 4]) (ai 3 c #[aa 5])))]
noncomputable def nz (c:Call):GS:=#v[aQ (dN (cj (aj (eB .tuple (aa 2)))) (cj (aj (aa 2)))) rF aG,aw (.one 3) (au (aa 2) (gI 0)),aQ (dN (cj (aj (eB .str (aa 3)))) (aj (i7 eP (aa 3)))) rF aG,aw (.one 4) (l4 eP (aa 3)),aP (mY 4 c #[aa 0,aa 1,cn false true false (aa 2) (gI 1) gN])]
noncomputable def jK (c:Call):GS:=#v[aQ (cj (aj (ai 4 c #[gI 3,aa 0]))) rF aG,aw (.tup [1,2,3]) (aa 0),aQ (dN (cj (aj (ai 0 c #[aa 1,gI 2,gI 4]))) (cj (aj (ai 0 c #[aa 2,gI 1,gI 2])))) rF aG,aQ (dN (cj (aj (eB .tuple (aa 3)))) (cj (aj (qZ .le .le (gI 1) (aM .len #[aa 3]) (gI 6))))) rF aG,aP (aM .all #[bc false 1 (.one 0) (bK (aa 3)) (bo (ai 11 c #[aa 2,aa 3,aa 0]))])]
noncomputable def iB (c:Call):GS:=#v[aQ (cj (aj (ai 12 c #[aa 0]))) #v[gi 3 #[gS "this is no machine"]] aG]
noncomputable def du (c:Call):GS:=#v[aw (.tup [2,3,4]) (aa 0),aP (eX (ai 4 c #[aa 3,aa 1]) (aM .all #[bc false 1 (.one 0) (bK (aa 1)) (bo (ai 1 c #[aa 3,aa 0]))]))]
noncomputable def cg (c:Call):GS:=#v[iw (bQ 13 c #[aa 0]),aw (.tup [1,2,3]) (aa 0),aw (.one 4) (bu false #[bB bj]),cm (.one 5) (dg (aa 2)) #v[aw (.one 4) (bc false 2 (.one 0) (bK (aa 4)) (qY (.one 1) (dg (aa 3)) (bo (av false .add (aa 0) (bB #[aa 1])))))],aP (aa 4)]
noncomputable def pL (c:Call):GS:=#v[aP (ai 0 c #[aa 1,gI 0,av false .sub (aM .len #[au (aa 0) (gI 2)]) (gI 1)])]
noncomputable def rE (c:Call):GS:=#v[aQ (cj (aj (eB .list (aa 1)))) #v[wy 0 (gI 0)] aG,cm (.tup [2,3]) (gz (aa 1)) #v[aQ (cj (aj (ai 16 c #[aa 0,aa 3]))) #v[wy 0 (aa 2)] aG]]
noncomputable def yX (c:Call):GS:=#v[iw (bQ 13 c #[aa 0]),iw (bQ 17 c #[aa 0,aa 1]),aQ (aj (aA .gt (aM .len #[aa 1]) (gI 40))) #v[gi 4 #[uX "a row has at most " " deeds" (gI 40)]] aG]
noncomputable def mi (c:Call):GS:=#v[aw (.tup [2,3,4,5]) (aa 0),aP (au (aa 4) (au (aa 1) (aa 3)))]
noncomputable def mr (c:Call):GS:=#v[aw (.tup [2,3,4,5,6]) (aa 0),aP (au (au (aa 5) (au (aa 1) (aa 3))) (au (aa 1) (aa 4)))]
noncomputable def oB (c:Call):GS:=#v[aw (.tup [2,3,4,5]) (aa 0),aP (au (aa 1) (aa 4))]
noncomputable def mj (c:Call):GS:=#v[aw (.tup [2,3,4,5]) (aa 0),aP (aa 4)]
noncomputable def qy (c:Call):GS:=#v[aw (.one 2) (l4 cU (au (aa 0) (gI 0))),aw (.one 3) (au (aa 0) (gI 1)),aP (av false .add (av false .add (cn false false true (aa 1) gN (aa 3)) (bB #[mY 2 c #[aa 0,aa 1]])) (cn false true false (aa 1) (av false .add (aa 3) (gI 1)) gN))]
noncomputable def rG (c:Call):GS:=#v[aw (.one 3) (bu true #[aa 2]),cm (.one 4) (bK (aa 1)) #v[dS (aa 3) (ai 24 c #[au (au (aa 0) (gI 2)) (aa 4),au (aa 3) (dE (gI 1))])],aP (aa 3)]
noncomputable def mC (c:Call):GS:=#v[aQ (aj (aA .ge (aa 0) (av false .pow (gI 10) (gI 18)))) #v[aP (aa 0)] aG,aw (.one 2) (bu false #[gI 2147483629,gI 2147483587,gI 2147483579,gI 2147483563,gI 2147483549,gI 2147483543,gI 2147483497,gI 2147483489]),aw (.one 2) (av false .add (aa 2) (bu false #[gI 2147483477,gI 2147483423,gI 2147483399,gI 2147483353,gI 2147483323])),aw (.one 3) (av false .mod (av false .pow (av false .add (av false .add (av false .mul (av false .mod (aa 0) (gI 1000000007)) (av false .add (av false .mul (gI 2) (aa 1)) (gI 69069))) (av false .mul (aa 1) (gI 40503))) (gI 977)) (gI 3)) (au (aa 2) (av false .mod (aa 1) (gI 13)))),aw (.one 4) (av false .mod (av false .pow (av false .add (av false .add (av false .mul (aa 3) (av false .add (aa 1) (gI 3))) (av false .mod (aa 0) (gI 65537))) (gI 5)) (gI 5)) (au (aa 2) (av false .mod (av false .add (aa 1) (gI 5)) (gI 13)))),aw (.one 5) (av false .mod (av false .pow (av false .add (av false .add (aa 4) (av false .mod (aa 3) (gI 1009))) (aa 1)) (gI 3)) (au (aa 2) (av false .mod (av false .add (aa 1) (gI 7)) (gI 13)))),aP (av false .add (av false .mul (av false .add (av false .mul (aa 3) (gI 2147483647)) (aa 4)) (gI 2147483647)) (aa 5))]
noncomputable def kD (c:Call):GS:=#v[aw (.one 1) (aM (.list true) #[cn false false true (aa 0) gN (gI 12)]),cm (.tup [2,3]) (gz (cn false true true (aa 0) (gI 12) (gI 63))) #v[eO (aa 1) (av false .mod (aa 2) (gI 12)) (av false .add (au (aa 1) (av false .mod (aa 2) (gI 12))) (aa 3))],aP (bu true #[aa 1,gI 0,gI 0])]
noncomputable def kF (c:Call):GS:=#v[eO (aa 0) (gI 2) (gI 0),aP (aa 0)]
noncomputable def oO (c:Call):GS:=#v[aQ (aj (aA .lt (au (aa 0) (gI 2)) (aa 1))) #v[aw (.one 2) (au (aa 0) (gI 1)),aw (.one 3) (gI 0),aQ (aj (aA .lt (aa 2) (aM .len #[au (aa 0) (gI 0)]))) #v[aw (.one 3) (au (au (aa 0) (gI 0)) (aa 2))] #v[aQ (aj (aA .gt (aM .len #[au (aa 0) (gI 0)]) (gI 0))) #v[aw (.one 3) (av false .mod (au (au (aa 0) (gI 0)) (av false .mod (av false .add (av false .mul (aa 2) (gI 5)) (gI 3)) (aM .len #[au (aa 0) (gI 0)]))) (av false .add (av false .pow (gI 10) (gI 17)) (aa 2)))] aG],eO (aa 0) (gI 1) (av false .add (aa 2) (gI 1)),eO (aa 0) (gI 2) (ai 28 c #[aa 3,aa 2])] aG,aw (.one 4) (av false .mod (au (aa 0) (gI 2)) (aa 1)),eO (aa 0) (gI 2) (av false .fdiv (au (aa 0) (gI 2)) (aa 1)),aP (aa 4)]
noncomputable def jb (c:Call):GS:=#v[aw (.one 2) (ai 31 c #[aa 0,gI 6]),aw (.one 3) (ai 31 c #[aa 0,aa 1]),aw (.one 4) (ai 31 c #[aa 0,aa 1]),aQ (aj (aA .lt (aa 2) (gI 2))) #v[aP (aM .tuple #[bc false 1 (.one 0) (dg (aa 1)) (bo (ai 31 c #[aa 1,aa 2]))])] aG,aQ (aj (aA .eq (aa 2) (gI 2))) #v[aP (aM .tuple #[bc false 1 (.one 0) (dg (aa 1)) (bo (av false .mod (av false .add (av false .add (aa 0) (gI 1)) (aa 4)) (aa 2)))])] aG,aQ (aj (aA .eq (aa 2) (gI 3))) #v[aP (aM .tuple #[bc false 1 (.one 0) (dg (aa 1)) (bo (gG (aj (aA .eq (aa 0) (aa 4))) (aa 5) (aa 0)))])] aG,aQ (aj (aA .eq (aa 2) (gI 4))) #v[aP (av false .mul (bB #[aa 3]) (aa 1))] aG,aw (.one 5) (mX true (aa 1)),eO (aa 5) (aa 3) (aa 4),eO (aa 5) (aa 4) (aa 3),aP (aM .tuple #[aa 5])]
noncomputable def iI (c:Call):GS:=#v[aw (.one 3) (ai 31 c #[aa 0,gI 8]),aw (.one 4) (av false .add (gI 1) (ai 31 c #[aa 0,gI 3])),aw (.one 5) (ai 31 c #[aa 0,aa 2]),aw (.one 6) (ai 31 c #[aa 0,aa 2]),aQ (aj (aA .lt (aa 3) (gI 3))) #v[aP (bB #[gS "turn",aa 5,ai 32 c #[aa 0,aa 1],aa 4])] aG,aQ (aj (aA .lt (aa 3) (gI 5))) #v[aP (bB #[gS "move",aa 5,gG (aj (aA .eq (aa 3) (gI 3))) (av false .mod (av false .add (aa 5) (gI 1)) (aa 2)) (aa 6),aa 4])] aG,aQ (aj (aA .eq (aa 3) (gI 5))) #v[aP (bB #[gS "put",aa 5,ai 31 c #[aa 0,aa 1],aa 4])] aG,aP (bB #[gS "join",aa 5,aa 6,aM .tuple #[bc false 1 (.one 0) (dg (aa 1)) (bo (ai 32 c #[aa 1,aa 2]))],aa 4])]
noncomputable def fU (c:Call):GS:=#v[aw (.one 1) (av false .add (gI 2) (ai 31 c #[aa 0,av false .sub (aa 1) (gI 1)])),aw (.one 2) (av false .add (gI 1) (ai 31 c #[aa 0,aa 2])),aw (.one 4) (bu true bj),cm (.one 5) (dg (av false .add (gI 1) (ai 31 c #[aa 0,aa 3]))) #v[aw (.one 6) (ai 31 c #[aa 0,gI 5]),aw (.one 7) (ai 33 c #[aa 0,aa 1,aa 2]),aQ (gW (aj (aA .eq (aa 6) (gI 0))) (aj (aA .ne (aa 4) (bu false bj)))) #v[aw (.one 7) (av false .add (cn false false true (au (aa 4) (ai 31 c #[aa 0,aM .len #[aa 4]])) gN (dE (gI 1))) (bB #[au (aa 7) (dE (gI 1))]))] aG,dS (aa 4) (aa 7)],aP (bB #[aa 1,aa 2,aM .tuple #[aa 4]])]
noncomputable def fT (c:Call):GS:=#v[aw (.one 3) (ai 31 c #[aa 0,gI 4]),aw (.one 4) (gG (aj (aA .eq (aa 3) (gI 0))) (aa 2) (ai 31 c #[aa 0,av false .add (aa 2) (gI 1)])),aw (.one 5) (bc false 1 (.one 0) (dg (aa 4)) (bo (ai 31 c #[aa 1,aM .len #[au (aa 2) (gI 2)]]))),aQ (aj (aA .eq (aa 3) (gI 1))) #v[aw (.one 5) (cn false false true (av false .mul (cn false false true (aa 5) gN (gI 2)) (aa 4)) gN (aa 4))] aG,aP (aa 5)]
noncomputable def jN (c:Call):GS:=#v[aw (.one 2) (aM (.list true) #[aa 1]),aw (.one 3) (au (aa 1) (au (aa 0) (gI 1))),aQ (aj (aA .eq (au (aa 0) (gI 0)) (gS "turn"))) #v[eO (aa 2) (au (aa 0) (gI 1)) (au (au (aa 0) (gI 2)) (aa 3))] aG,aQ (aj (aA .eq (au (aa 0) (gI 0)) (gS "join"))) #v[eO (aa 2) (au (aa 0) (gI 1)) (au (au (au (aa 0) (gI 3)) (aa 3)) (au (aa 1) (au (aa 0) (gI 2))))] aG,aQ (aj (aA .eq (au (aa 0) (gI 0)) (gS "move"))) #v[eO (aa 2) (au (aa 0) (gI 1)) (au (aa 1) (au (aa 0) (gI 2)))] aG,aQ (aj (aA .eq (au (aa 0) (gI 0)) (gS "put"))) #v[eO (aa 2) (au (aa 0) (gI 1)) (au (aa 0) (gI 2))] aG,aP (aM .tuple #[aa 2])]
noncomputable def iU (c:Call):GS:=#v[aQ (aj (aA .eq (au (aa 0) (gI 1)) (gI 1))) #v[aP (bc false 1 (.one 0) (dg (au (aa 0) (gI 0))) (bo (bB #[aa 0])))] aG,aP (bc false 1 (.one 0) (dg (av false .mul (au (aa 0) (gI 0)) (au (aa 0) (gI 0)))) (bo (bB #[av false .fdiv (aa 0) (au (aa 1) (gI 0)),av false .mod (aa 0) (au (aa 1) (gI 0))])))]
noncomputable def fu (c:Call):GS:=#v[aw (.one 2) (bu true bj),cm (.one 3) (bK (ai 42 c #[aa 0])) #v[cm (.one 4) (bK (aa 1)) #v[aw (.one 3) (ai 41 c #[au (au (aa 0) (gI 2)) (aa 4),aa 3])],dS (aa 2) (aa 3)],aP (aM .tuple #[aa 2])]
noncomputable def ig (c:Call):GS:=#v[aP (eX (eB .int (aa 0)) (K8 (eB .bool (aa 0))))]
noncomputable def nB (c:Call):GS:=#v[aP (eX (ai 67 c #[aa 0]) (qZ .le .le (aa 1) (aa 0) (aa 2)))]
noncomputable def lu (c:Call):GS:=#v[aQ (dN (cj (aj (eB .tuple (aa 0)))) (aj (aA .ne (aM .len #[aa 0]) (aa 1)))) rF aG,aP (aA .eq (bc false 1 (.one 0) (bK (aa 0)) (iW (cj (aj (ai 68 c #[aa 0,aa 3,aa 4]))) (bo (gI 1)))) (bu false bj))]
noncomputable def kg (c:Call):GS:=#v[aQ (cj (aj (ai 4 c #[aM .len #[ai 15 c #[aa 0]],aa 1]))) rF aG,aP (aM .all #[bc false 1 (.one 0) (bK (aa 1)) (bo (uW (aA .isN (aa 0) gN) (ai 1 c #[au (aa 1) (gI 0),aa 0])))])]
noncomputable def kC (c:Call):GS:=#v[iw (bQ 13 c #[aa 0]),aQ (cj (aj (ai 79 c #[aa 0,aa 1]))) #v[gi 6 #[gS "this is no work of the machine"]] aG]
noncomputable def gO (c:Call):GS:=#v[aP (aM .all #[bc false 2 (.tup [0,1]) (n8 (aa 0) (aa 1)) (bo (uW (aA .isN (aa 1) gN) (aA .eq (au (aa 0) (gI 0)) (aa 1))))])]
noncomputable def iT (c:Call):GS:=#v[aw (.one 2) (ai 31 c #[aa 0,gI 5]),aw (.one 3) (ai 31 c #[aa 0,gI 4]),aw (.one 4) (ai 42 c #[aa 1]),aw (.one 5) (ai 44 c #[aa 1,ai 35 c #[aa 0,aa 1,gI 6]]),aw (.one 6) (bc true 1 (.one 0) (bK (aa 5)) (bo (au (aa 0) (gI 0)))),aQ (aj (aA .eq (aa 2) (gI 0))) #v[aw (.one 6) (bc true 1 (.one 0) (bK (aa 4)) (bo (ai 31 c #[aa 1,au (aa 2) (gI 0)])))] aG,aw (.one 7) (ai 31 c #[aa 0,aM .len #[aa 6]]),aQ (aj (aA .eq (aa 2) (gI 1))) #v[eO (aa 6) (aa 7) (ai 31 c #[aa 0,au (aa 1) (gI 0)])] aG,aQ (aj (aA .gt (aa 3) (gI 0))) #v[aw (.one 6) (bc true 1 (.one 0) (bK (aa 6)) (bo (gG (aj (aA .eq (ai 31 c #[aa 1,av false .add (gI 2) (aa 4)]) (gI 0))) gN (aa 0))))] aG,aP (aM .tuple #[aa 6])]
noncomputable def gq (c:Call):GS:=#v[aP (aA .eq (bc false 2 (.tup [0,1]) (n8 (aa 0) (aa 1)) (iW (gW (aj (aA .notN (aa 1) gN)) (aj (aA .ne (au (aa 0) (gI 0)) (aa 1)))) (bo (gI 1)))) (bu false bj))]
noncomputable def dY (c:Call):GS:=#v[d9 (.one 1) (bQ 15 c #[aa 0]),aP (bc false 1 (.one 0) (bK (au (aa 0) (gI 2))) (bo (bB #[au (aa 0) (dE (gI 1)),ia 77 1 (.one 0) (bK (aa 2)) (h9 (aa 0) (ai 24 c #[aa 1,aa 0]))])))]
noncomputable def eT (c:Call):GS:=#v[aP (aM .tuple #[bc false 1 (.one 0) (bK (aa 1)) (bo (eU (aa 1) (aa 0)))])]
noncomputable def c8 (c:Call):GS:=#v[aP (aM .tuple #[bc false 1 (.one 0) (bK (aa 1)) (bo (ai 41 c #[au (au (aa 1) (gI 2)) (aa 3),aa 0]))])]
noncomputable def fH (c:Call):GS:=#v[aw (.one 2) (qk 78),aw (.one 3) (bu true #[bu true #[aM .tuple #[ai 42 c #[aa 0]]]]),aw (.one 4) (gI 0),gg (gW (aj (aA .lt (aa 4) (aM .len #[aa 3]))) (aj (aA .le (aa 4) (aa 1)))) #v[cm (.one 5) (bK (au (aa 3) (aa 4))) #v[aQ (aj (fZ true (aa 5) (aa 2))) #v[gr (aa 2) (aa 5) (aa 4),aQ (aj (aA .gt (fS (aa 2)) (gI 255))) #v[aP gN] aG,cm (.tup [6,7]) (gz (au (aa 0) (gI 2))) #v[gg (aj (aA .le (aM .len #[aa 3]) (av false .add (aa 4) (au (aa 7) (dE (gI 1)))))) #v[dS (aa 3) (bu true bj)],dS (au (aa 3) (av false .add (aa 4) (au (aa 7) (dE (gI 1))))) (ai 158 c #[aa 0,aa 5,aa 6])]] aG],aw (.one 4) (av false .add (aa 4) (gI 1))],aP (aa 2)]
noncomputable def fv (c:Call):GS:=#v[aw (.one 2) (au (bu false #[bB #[gI 3,gI 1,gI 6],bB #[gI 2,gI 2,gI 3],bB #[gI 3,gI 1,gI 4],bB #[gI 2,gI 2,gI 2],bB #[gI 4,gI 1,gI 2]]) (av false .mod (aa 1) (gI 5))),aP (ai 34 c #[aa 0,au (aa 2) (gI 0),au (aa 2) (gI 1),au (aa 2) (gI 2)])]
noncomputable def ie (c:Call):GS:=#v[aw (.one 3) (aM .len #[aa 1]),aw (.one 4) (bu true bj),cm (.two 5 [6,7]) (gz (aa 0)) #v[aw (.one 8) (gG (aj (aA .le (aa 6) (aa 3))) (au (aa 1) (av false .sub (aa 3) (aa 6))) (bu false bj)),cm (.one 9) (bK (aa 8)) #v[aw (.one 10) (ai 152 c #[aa 7,aa 9]),aQ (aj (fZ true (aa 10) (aa 2))) #v[gr (aa 2) (aa 10) (bB #[aa 3,av true .add (au (eU (aa 2) (aa 9)) (gI 1)) (bu false #[aa 5])]),dS (aa 4) (aa 10),aQ (aj (aA .gt (fS (aa 2)) (gI 255))) #v[gi 8 #[uX "rows have more than " " behaviours" (gI 255)]] aG] aG]],aP (aa 4)]
noncomputable def jJ (c:Call):GS:=#v[d9 (.one 2) (bQ 151 c #[aa 0]),aw (.one 3) (aM .tuple #[ai 15 c #[aa 0]]),aw (.one 4) (xg 78 (aa 3) (bB #[gI 0,bu true bj])),aw (.one 5) (bu true #[bu false #[aa 3]]),gg (gW (aj (kA (cn false true false (aa 5) (dE (gI 3)) gN))) (dN (aj (aA .isN (aa 1) gN)) (aj (aA .le (aM .len #[aa 5]) (aa 1))))) #v[nQ (aa 5) (bQ 165 c #[aa 2,aa 5,aa 4])],aP (aa 4)]
noncomputable def oC (c:Call):GS:=#v[iw (bQ 80 c #[aa 0,aa 1]),d9 (.one 2) (bQ 166 c #[aa 0,gN]),aw (.one 3) (lZ (bc false 1 (.one 0) (eK cV (aa 2)) (iW (aj (ai 81 c #[aa 0,aa 2])) (bo (eU (aa 3) (aa 0)))))),aQ (aj (aA .isN (aa 3) gN)) #v[aP (bB #[gS "none",hZ true (aa 2)])] aG,aw (.tup [4,5]) (aa 3),aw (.one 6) (bc true 1 (.one 0) (eK cV (aa 2)) (iW (aj (aA .le (au (eU (aa 3) (aa 0)) (gI 0)) (aa 5))) (bo (bB #[aa 0,av false .sub (aa 5) (au (eU (aa 3) (aa 0)) (gI 0))])))),aP (bB #[gS "row",aa 4,aa 5,aa 6])]
noncomputable def fw (c:Call):GS:=#v[aQ (dN (cj (aj (eB .tuple (aa 1)))) (aj (aA .ne (aM .len #[aa 1]) (aM .len #[ai 42 c #[aa 0]])))) rF aG,aP (aA .eq (bc false 1 (.one 0) (bK (aa 1)) (iW (cj (aj (ai 69 c #[aa 0,au (aa 1) (gI 1),gI 0,av false .sub (au (aa 1) (gI 0)) (gI 1)]))) (bo (gI 1)))) (bu false bj))]
noncomputable def fq (c:Call):GS:=#v[aw (.one 3) (qk 78),cm (.one 4) (bK (aa 2)) #v[aQ (dN (cj (aj (ai 168 c #[aa 0,aa 4]))) (aj (ai 84 c #[aa 4,aa 1]))) rF aG,gr (aa 3) (aa 4) Bs],aQ (aj (fZ true (aM .tuple #[ai 42 c #[aa 0]]) (aa 3))) rF aG,cm (.one 4) (bK (aa 2)) #v[cm (.one 5) (dg (aM .len #[au (aa 0) (gI 2)])) #v[aQ (aj (fZ true (ai 158 c #[aa 0,aa 4,aa 5]) (aa 3))) rF aG]],aP Bs]
noncomputable def dw (c:Call):GS:=#v[aw (.one 2) (aM .len #[ai 15 c #[aa 0]]),aP (aM .all #[bc false 1 (.one 0) (bK (aa 1)) (bo (eX (ai 4 c #[aa 3,aa 0]) (aM .all #[bc false 1 (.one 0) (bK (aa 0)) (bo (ai 14 c #[aa 2,aa 0]))])))])]
noncomputable def jM (c:Call):GS:=#v[iw (bQ 80 c #[aa 0,aa 1]),aQ (cj (aj (ai 176 c #[aa 0,aa 2]))) rF aG,aw (.one 3) (ia 78 1 (.one 0) (bK (aa 2)) (h9 (aa 0) Bs)),aQ (dN (aj (fZ true (aM .tuple #[ai 15 c #[aa 0]]) (aa 3))) (aj (kA (bc false 1 (.one 0) (eK cV (aa 3)) (bo (ai 81 c #[aa 0,aa 2])))))) rF aG,d9 (.one 4) (bQ 151 c #[aa 0]),aP (aM .all #[bc false 3 (.one 0) (eK cV (aa 3)) (qY (.tup [1,2]) (bK (aa 7)) (bo (fZ false (ai 152 c #[aa 2,aa 0]) (aa 6))))])]
noncomputable def d7 (c:Call):GS:=#v[aw (.one 3) (ai 31 c #[aa 0,gI 7]),aw (.one 4) (ai 31 c #[aa 0,av false .add (au (aa 1) (gI 0)) (gI 1)]),aw (.one 5) (ai 31 c #[aa 0,aM .len #[aa 2]]),aw (.one 6) (au (aa 2) (aa 5)),aw (.one 7) (ai 31 c #[aa 0,aM .len #[aa 6]]),aw (.one 8) (av false .add (av false .add (cn false false true (aa 6) gN (aa 7)) (bB #[av false .add (cn false false true (au (aa 6) (aa 7)) gN (dE (gI 1))) (bB #[aa 4])])) (cn false true false (aa 6) (av false .add (aa 7) (gI 1)) gN)),aQ (aj (aA .eq (aa 3) (gI 0))) #v[aP (av false .add (cn false false true (aa 2) gN (aa 5)) (cn false true false (aa 2) (av false .add (aa 5) (gI 1)) gN))] aG,aQ (aj (aA .eq (aa 3) (gI 1))) #v[aP (av false .add (av false .add (cn false false true (aa 2) gN (aa 5)) (bu false #[aa 8])) (cn false true false (aa 2) (av false .add (aa 5) (gI 1)) gN))] aG,aw (.one 9) (au (bu false #[aa 6,aa 8,bB bj,cn false false true (aa 6) gN (dE (gI 1)),av false .add (aa 6) (cn false true false (aa 6) (dE (gI 1)) gN)]) (ai 31 c #[aa 0,gI 5])),aP (av false .add (av false .add (cn false false true (aa 2) gN (aa 5)) (bu false #[aa 9])) (cn false true false (aa 2) (aa 5) gN))]
noncomputable def fB (c:Call):GS:=#v[aw (.one 1) (bu false #[bB bj]),cm (.one 2) (dg (aa 0)) #v[aw (.one 3) (bu true bj),cm (.one 4) (bK (aa 1)) #v[ub (aa 3) (bc true 1 (.one 0) (dg (aa 0)) (bo (av false .add (aa 5) (bB #[bB #[aa 0]]))))],aw (.one 1) (aa 3)],aP (aa 1)]
noncomputable def oD (c:Call):GS:=#v[aw (.one 1) (ai 29 c #[aa 0]),cm (.one 2) (dg (gI 4)) (aX (aw (.one 3) (ai 160 c #[ai 30 c #[aa 1],aa 2])) (aX (aw (.one 4) (ai 159 c #[aa 3,av false .pow (gI 10) (gI 9)])) (aQ (dN (aj (aA .isN (aa 4) gN)) (aj (aA .gt (fS (aa 4)) (gI 100)))) aG #v[aw (.one 5) (aM .tuple #[bc false 1 (.one 0) (bK (ai 42 c #[aa 3])) (bo (ai 31 c #[aa 2,au (aa 4) (gI 0)]))]),aQ (aj (aA .eq (ai 31 c #[aa 1,gI 3]) (gI 0))) #v[aw (.one 5) (ai 83 c #[aa 1,aa 3])] aG,aw (.one 6) (hZ false (aa 4)),aw (.one 7) (bu true #[aa 6,mW false (aa 6),bu false bj,cn false false true (aa 6) gN (gI 1)]),aQ (aj (aA .eq (au (aa 3) (gI 1)) (gI 1))) #v[dS (aa 7) (ai 179 c #[au (aa 3) (gI 0)])] aG,d9 (.one 8) (bQ 167 c #[aa 3,aa 5]),aQ (aj (aA .eq (au (aa 8) (gI 0)) (gS "none"))) #v[dS (aa 7) (au (aa 8) (gI 1))] aG,cm (.one 9) (dg (gI 6)) #v[dS (aa 7) (ai 178 c #[aa 1,aa 3,aa 6])],cm (.one 10) (bK (aa 7)) #v[aw (.one 11) (aM (.list false) #[aa 10]),d9 (.one 12) (bQ 177 c #[aa 3,aa 5,aa 11]),aQ (dN (cj (aj (eB .bool (aa 12)))) (dN (aj (aA .ne (aa 12) (ai 170 c #[aa 3,aa 5,aa 10]))) (aj (aA .ne (aa 11) (aa 10))))) rF aG]]))),aP Bs]
@[simp] theorem bf {α β:Type}{r:Res α}{f:α->Mem->Res β}{k:β->Mem->Prop}:ae (r.bind f) k↔ae r λa M=>ae (f a M) k:=by cases r<;>rfl
@[simp] theorem aR {α:Type}{a:α}{k:α->Mem->Prop}:ae (.ok a M) k↔k a M:=RN
@[simp] theorem QD {α:Type}{k:α->Mem->Prop}:ae (.bad:Res α) k↔False:=RN
@[simp] theorem g6 {α:Type}{M:Mem}{o:Option α}{k:α->Mem->Prop}:ae (cu M o) k↔∃a,o=some a/\k a M:=by cases o<;>simp[cu]
def eJ {α:Type}{r:Res α}{k:α->Mem->Prop}:ae r k↔∃a M,r=.ok a M/\k a M:=by
 cases r with
 |ok a M=>exact{λh=>⟨a,M,rfl,h⟩,λ⟨_,_,e,h⟩=>by cases e;exact h}
 |err=>simp[ae]
 |bad=>simp[ae]
def ot (px:aC 64 (view M x)=true)(py:aC 64 (view M y)=true)(h:bS (view M x) (view M y)=v):bH .eq x y M=some v:=by
 have e:m8 (view M x) (view M y)=some v:=by unfold m8;rw[px,py,h];simp
 show m7 M x y=_;unfold m7;rw[e]
def xE (px:aC 64 (view M x)=true)(py:aC 64 (view M y)=true)(h:bS (view M x) (view M y)=v):bH .ne x y M=some (!v):=by
 show(bH .eq x y M).map (!·)=_;rw[ot px py h];rfl
section
variable{Z:Env}{M:Mem}{a b d lo hi:GE}{s:GA}{t u:GT}{k:D->Mem->Prop}{c:Call}
@[simp] theorem bw {i:Nat}:ae (aa i Z M) k↔∃d,Z[i]?.getD none=some d/\k d M:=by simp[aa]
@[simp] theorem dJ {d:D}:ae (gC d Z M) k↔k d M:=RN
@[simp] theorem j9 {m:Bool}{o:oR}:ae (av m o a b Z M) k↔ae (a Z M) λx M=>ae (b Z M) λy M=>ae (f6 m o x y M) k:=by simp[av]
@[simp] theorem eC {o:jS}:ae (aA o a b Z M) k↔ae (a Z M) λx M=>ae (b Z M) λy M=>∃v,bH o x y M=some v/\k (.bl v) M:=by simp[aA]
@[simp] theorem Q5 {o o':jS}:ae (qZ o o' a b d Z M) k↔ae (a Z M) λx M=>ae (b Z M) λy M=>∃v,bH o x y M=some v/\if v=true then ae (d Z M) λz M=>∃v,bH o' y z M=some v/\k (.bl v) M else k (.bl false) M:=by
 simp only[qZ,bf,g6];refine iff_of_eq ?_
 congr 1;funext x M;congr 1;funext y M;refine propext (exists_congr λv=>and_congr_right λ_=>?_)
 cases v<;>simp
@[simp] theorem tm:ae (dE a Z M) k↔ae (a Z M) λx M=>∃i,x=.int i/\k (.int (-i)) M:=by
 simp only[dE,bf];refine iff_of_eq ?_;congr 1;funext x M;cases x<;>simp
@[simp] theorem Q6:ae (eX a b Z M) k↔ae (a Z M) λx M=>∃v,x=.bl v/\if v=true then ae (b Z M) k else k (.bl false) M:=by
 simp only[eX,bf];refine iff_of_eq ?_;congr 1;funext x M;cases x<;>simp;rename_i v;cases v<;>simp
@[simp] theorem Ll:ae (uW a b Z M) k↔ae (a Z M) λx M=>∃v,x=.bl v/\if v=true then k (.bl true) M else ae (b Z M) k:=by
 simp only[uW,bf];refine iff_of_eq ?_;congr 1;funext x M;cases x<;>simp;rename_i v;cases v<;>simp
@[simp] theorem Ft:ae (gG t a b Z M) k↔ae (t Z M) λv M=>if v=true then ae (a Z M) k else ae (b Z M) k:=by
 simp only[gG,bf];refine iff_of_eq ?_;congr 1;funext v M;cases v<;>simp
@[simp] theorem fA:ae (au a b Z M) k↔ae (a Z M) λx M=>ae (b Z M) λy M=>∃d,b7 x y M=some d/\k d M:=by simp[au]
@[simp] theorem oh {m hl hh:Bool}:ae (cn m hl hh a lo hi Z M) k↔ae (a Z M) λx M=>ae (lo Z M) λl M=>ae (hi Z M) λh M=>cK hl l=true/\cK hh h=true/\ae (gY m x l h M) k:=by
 simp only[cn,bf];refine iff_of_eq ?_
 congr 1;funext x M;congr 1;funext l M;congr 1;funext h M
 cases cK hl l<;>cases cK hh h<;>simp
@[simp] theorem cb {k:List D->Mem->Prop}:ae (bj Z M) k↔k [] M:=RN
@[simp] theorem bX {k:List D->Mem->Prop}:ae (bg a s Z M) k↔ae (a Z M) λx M=>ae (s Z M) λxs M=>k (x::xs) M:=by simp[bg]
@[simp] theorem i9:ae (bB s Z M) k↔ae (s Z M) λxs M=>xs.length<=sz/\k (.tup xs) M:=by
 simp only[bB,bf];refine iff_of_eq ?_;congr 1;funext xs M;unfold lS;split<;>simp[*]
def ur {m:Bool}{xs:List D}:ae (ba m xs M) k↔xs.length<=sz/\if m=true then k (.cell M.length) (M++[xs]) else k (.lst xs) M:=by
 unfold ba;cases m<;>split<;>simp[*]
@[simp] theorem bI {xs:List D}:ae (ba false xs M) k↔xs.length<=sz/\k (.lst xs) M:=by simp[ur]
@[simp] theorem jj {xs:List D}:ae (ba true xs M) k↔xs.length<=sz/\k (.cell M.length) (M++[xs]):=by simp[ur]
@[simp] theorem tq {m:Bool}:ae (bu m s Z M) k↔ae (s Z M) λxs M=>ae (ba m xs M) k:=by simp[bu]
@[simp] theorem u5 {f:Nat}:ae (ai f c s Z M) k↔ae (s Z M) λds M=>ae (c f ds M) k:=by simp[ai]
@[simp] theorem HL {i:Nat}:ae (mY i c s Z M) k↔∃f,Z[i]?.getD none=some (.fn f)/\ae (s Z M) λds M=>ae (c f ds M) k:=by
 unfold mY;cases e:Z[i]?.getD none with
 |none=>simp
 |some d=>cases d<;>simp
@[simp] theorem b5 {f:xQ}:ae (aM f s Z M) k↔ae (s Z M) λds M=>ae (gJ f ds M) k:=by simp[aM]
@[simp] theorem QW {t:Ty}:ae (eB t a Z M) k↔ae (a Z M) λx M=>∃v,hU t x=some v/\k (.bl v) M:=by simp[eB]
@[simp] theorem Lm {fs:List (Str×Nat)}:ae (l4 fs a Z M) k↔ae (a Z M) λx M=>∃y f,x=.str y/\fs.lookup y=some f/\k (.fn f) M:=by
 simp only[l4,bf];refine iff_of_eq ?_;congr 1;funext x M;cases x<;>simp;exact{λ⟨_,⟨f,h,e⟩,q⟩=>{f,h,e ▸ q},λ⟨f,h,q⟩=>{_,⟨f,h,rfl⟩,q}}
@[simp] theorem QX {fs:List (Str×Nat)}:ae (i7 fs a Z M) k↔ae (a Z M) λx M=>∃y,x=.str y/\k (.bl (!(fs.lookup y).isSome)) M:=by
 simp only[i7,bf];refine iff_of_eq ?_;congr 1;funext x M;cases x<;>simp
@[simp] theorem HK {m:Bool}:ae (mX m a Z M) k↔ae (a Z M) λx M=>∃n,x=.int n/\(-(2^62)<=n/\n<2^20)/\ae (ba m ((List.range n.toNat).map λ(k:Nat)=>D.int (k:Int)) M) k:=by
 simp only[mX,bf];refine iff_of_eq ?_;congr 1;funext x M;cases x<;>simp;rename_i n;split<;>simp[*]
variable{kb:Bool->Mem->Prop}
@[simp] theorem gV:ae (aj a Z M) kb↔ae (a Z M) λx M=>∃v,ko M x=some v/\kb v M:=by simp[aj]
@[simp] theorem Mq:ae (gW t u Z M) kb↔ae (t Z M) λv M=>if v=true then ae (u Z M) kb else kb false M:=by
 simp only[gW,bf];refine iff_of_eq ?_;congr 1;funext v M;cases v<;>simp
@[simp] theorem t_or:ae (dN t u Z M) kb↔ae (t Z M) λv M=>if v=true then kb true M else ae (u Z M) kb:=by
 simp only[dN,bf];refine iff_of_eq ?_;congr 1;funext v M;cases v<;>simp
@[simp] theorem Q1:ae (cj t Z M) kb↔ae (t Z M) λv M=>kb (!v) M:=by simp[cj]
variable{kf:Fl->Mem->Prop}{sa sb:GS}
noncomputable def iE (b:GS)(k:Fl->Mem->Prop):Fl->Mem->Prop
 |.next Z,M=>ae (b Z M) k
 |.ret d,M=>k (.ret d) M
 |.exc x Z,M=>k (.exc x Z) M
@[simp] theorem OD {b:GS}{x:D}:iE b kf (.exc x Z) M↔kf (.exc x Z) M:=RN
@[simp] theorem bx {b:GS}:iE b kf (.next Z) M↔ae (b Z M) kf:=RN
@[simp] theorem OC {b:GS}{d:D}:iE b kf (.ret d) M↔kf (.ret d) M:=RN
@[simp] theorem aD:ae (aX sa sb Z M) kf↔ae (sa Z M) (iE sb kf):=by
 simp only[aX,bf];refine iff_of_eq ?_;congr 1;funext fl M;cases fl<;>rfl
@[simp] theorem Jt:ae (aG Z M) kf↔kf (.next Z) M:=RN
@[simp] theorem mJ {i:Nat}:ae (aw (.one i) a Z M) kf↔ae (a Z M) λx M=>kf (.next (Z.set i (some x))) M:=by simp[aw,b6]
@[simp] theorem Qu {l:List Nat}:ae (aw (.tup l) a Z M) kf↔ae (a Z M) λx M=>∃ds ρ1,x=.tup ds/\di l ds Z=some ρ1/\kf (.next ρ1) M:=by
 simp only[aw,bf,g6,aR];refine iff_of_eq ?_;congr 1;funext x M;cases x<;>simp[b6]
@[simp] theorem kL:ae (eO a b d Z M) kf↔ae (d Z M) λz M=>ae (a Z M) λx M=>ae (b Z M) λy M=>∃j n ds i,x=.cell j/\y=.int n/\M[j]?=some ds/\cw ds.length n=some i/\kf (.next Z) (M.set j (ds.set i z)):=by
 simp only[eO,bf];refine iff_of_eq ?_
 congr 1;funext z M;congr 1;funext x M;congr 1;funext y M
 cases x with
 | cell j =>
   cases y with
   | int n =>
     cases e:M[j]? with
     |none=>simp[e]
     | some ds =>
       cases e2:cw ds.length n with
       |none=>simp[e,e2]
       |some i=>simp[e,e2]
   |_=>simp
 |_=>simp
@[simp] theorem Jw:ae (dS a d Z M) kf↔ae (a Z M) λx M=>ae (d Z M) λz M=>∃j ds,x=.cell j/\M[j]?=some ds/\ds.length<sz/\kf (.next Z) (M.set j (ds++[z])):=by
 simp only[dS,bf];refine iff_of_eq ?_
 congr 1;funext x M;congr 1;funext z M
 cases x<;>simp;rename_i j;cases e:M[j]? with
 |none=>simp
 |some ds=>by_cases h:ds.length<sz<;>simp[h]
@[simp] theorem cH:ae (aP a Z M) kf↔ae (a Z M) λx M=>kf (.ret x) M:=by simp[aP]
@[simp] theorem PX:ae (EH Z M) kf↔kf (.ret .non) M:=RN
@[simp] theorem PY:ae (EI Z M) kf↔kf (.next Z) M:=RN
@[simp] theorem Qt:ae (OQ Z M) kf↔False:=RN
@[simp] theorem gZ:ae (aQ t sa sb Z M) kf↔ae (t Z M) λv M=>if v=true then ae (sa Z M) kf else ae (sb Z M) kf:=by
 simp only[aQ,bf];refine iff_of_eq ?_;congr 1;funext v M;cases v<;>simp
variable{kw:Walk->Mem->Prop}
@[simp] theorem fG:ae (dg a Z M) kw↔ae (a Z M) λx M=>∃n,x=.int n/\(-(2^62)<=n/\n<2^62)/\kw (λ_=>some ((List.range n.toNat).map λ(k:Nat)=>D.int (k:Int))) M:=by
 simp only[dg,bf];refine iff_of_eq ?_;congr 1;funext x M;cases x<;>simp;rename_i n;split<;>simp[*]
@[simp] theorem gQ:ae (bK a Z M) kw↔ae (a Z M) λx M=>gy x=true/\kw (λM=>cE M x) M:=by
 simp only[bK,bf];refine iff_of_eq ?_;congr 1;funext x M;cases x<;>simp[gy]<;>rfl
@[simp] theorem zC:ae (gz a Z M) kw↔ae (a Z M) λx M=>gy x=true/\kw (λM=>(cE M x).map (fz 0)) M:=by
 simp only[gz,bf];refine iff_of_eq ?_;congr 1;funext x M;split<;>simp[*]
@[simp] theorem IK:ae (n8 a b Z M) kw↔ae (a Z M) λx M=>ae (b Z M) λy M=>(gy x&&gy y)=true/\kw (xR x y) M:=by
 simp only[n8,bf];refine iff_of_eq ?_;congr 1;funext x M;congr 1;funext y M;split<;>simp[*]
noncomputable def iR (k:D->Mem->Prop):Fl->Mem->Prop
 |.ret d,M=>k d M
 |.next _,M=>k .non M
 |.exc _ _,_=>False
@[simp] theorem P9 {d:D}:iR k (.ret d) M↔k d M:=RN
@[simp] theorem Pt:iR k (.next Z) M↔k .non M:=RN
def aN {d:Df}{ds:List D}(e:P f=some d)(hl:ds.length=d.params)(h:ae (d.body (ah P n) (ds.map some++List.replicate (d.slots-ds.length) none) M) (iR k)):ae (ah P (n+1) f ds M) k:=by
 show ae (match P f with|none=>Res.bad|some d=>gF (ah P n) d ds M) k
 rw[e];show ae (gF (ah P n) d ds M) k;unfold gF;rw[if_pos hl];revert h;cases d.body (ah P n) (ds.map some++List.replicate (d.slots-ds.length) none) M with
 |ok fl M=>cases fl<;>exact id
 |err=>exact id
 |bad=>exact id
@[simp] theorem QE {α:Type}{a:α}{k:α->Mem->Prop}{kx:D->Mem->Prop}:fX (.ok a M) k kx↔k a M:=RN
@[simp] theorem P5 {α:Type}{x:D}{k:α->Mem->Prop}:fX (.err x M:Res α) k kx↔kx x M:=RN
noncomputable def yK (k kx:D->Mem->Prop):Fl->Mem->Prop
 |.ret d,M=>k d M
 |.next _,M=>k .non M
 |.exc x _,M=>kx x M
def pI {d:Df}{kx:D->Mem->Prop}(e:P f=some d)(hl:ds.length=d.params)(h:ae (d.body (ah P n) (ds.map some++List.replicate (d.slots-ds.length) none) M) (yK k kx)):fX (ah P (n+1) f ds M) k kx:=by
 show fX (match P f with|none=>Res.bad|some d=>gF (ah P n) d ds M) k kx
 rw[e];show fX (gF (ah P n) d ds M) k kx;unfold gF;rw[if_pos hl];revert h;cases d.body (ah P n) (ds.map some++List.replicate (d.slots-ds.length) none) M with
 |ok fl M=>cases fl<;>exact id
 |err=>exact id
 |bad=>exact id
@[simp] theorem QT {d:D}{kx:D->Mem->Prop}:yK k kx (.ret d) M↔k d M:=RN
@[simp] theorem P8 {kx:D->Mem->Prop}:yK k kx (.next Z) M↔k .non M:=RN
@[simp] theorem QU:yK k kx (.exc x Z) M↔kx x M:=RN
@[simp] theorem PR {f:Nat}:fX (bQ f c s Z M) k kx↔ae (s Z M) λds M=>fX (c f ds M) k kx:=by
 unfold bQ;cases s Z M<;>rfl
@[simp] theorem Qs:ae (iw a Z M) kf↔fX (a Z M) (λ_ M=>kf (.next Z) M) (λx M=>kf (.exc x Z) M):=by
 unfold iw;cases a Z M<;>rfl
@[simp] theorem GO {i:Nat}:ae (d9 (.one i) a Z M) kf↔fX (a Z M) (λx M=>kf (.next (Z.set i (some x))) M) (λx M=>kf (.exc x Z) M):=by
 unfold d9;cases a Z M<;>rfl
@[simp] theorem CM {i:Nat}:ae (gi i s Z M) kf↔ae (s Z M) λds M=>ds.length<=sz/\kf (.exc (.exc i none) Z) M:=by
 unfold gi;cases s Z M with
 |ok ds M1=>by_cases h:ds.length<=sz<;>simp[h]
 |err=>exact RN
 |bad=>exact RN
def fg {α:Type}{f:α->D->Mem->Res α}{w:Walk}{ds:List D}{a:α}{k:α->Mem->Prop}(I:Nat->α->Mem->Prop)(hw:∀i a M,I i a M->w M=some ds)(h0:I 0 a M)
 (hs:∀i d a M,ds[i]?=some d->I i a M->ae (f a d M) (I (i+1))) (hk:∀a M,I ds.length a M->k a M):ae (c9 f w a M) k:=by
 have key:∀(m i:Nat) (a:α) (M:Mem),ds.length-i<m->i<=ds.length->I i a M->ae (gu f w m i a M) k:=by
  intro m;induction m with
  |zero=>intro i a M h;exact absurd h (RQ _)
  | succ m ih =>
    intro i a M h hi hI;show ae (match w M with|none=>Res.bad|some ds=>match ds[i]? with|none=>Res.ok a M|some d=>(f a d M).bind (gu f w m (i+1))) k
    rw[hw i a M hI];dsimp only;by_cases hlt:i<ds.length
    ·rw[Qq hlt];simp only[bf];exact aJ (hs i ds[i] a M (Qq hlt) hI) λa' M' h'=>ih (i+1) a' M' `a hlt h'
    ·have e:i=ds.length:=`a
     subst e;rw[Sy (Ql _)];exact hk a M hI
 unfold c9;rw[hw 0 a M h0];exact key _ 0 a M `s (RC _) h0
def eY {t:fY}{w:Walk}{gb:GS}{ds:List D}(I:Nat->Env->Mem->Prop)(hw:∀i Z M,I i Z M->w M=some ds)(h0:I 0 Z M)
 (hs:∀i d Z M,ds[i]?=some d->I i Z M->∃ρ1,b6 t d Z=some ρ1/\ae (gb ρ1 M) λfl M=>∃ρ',fl=.next ρ'/\I (i+1) ρ' M) (hk:∀Z M,I ds.length Z M->kf (.next Z) M):ae (c9 (iF t gb) w (.next Z) M) kf:=by
 refine fg (λi fl M=>∃Z,fl=.next Z/\I i Z M) (λi fl M ⟨Z,_,h⟩=>hw i Z M h) ⟨Z,rfl,h0⟩ ?_ ?_
 ·rintro i d fl M hd ⟨Z,rfl,hI⟩;obtain⟨ρ1,e,h⟩:=hs i d Z M hd hI;simp only[iF,bf,g6,e];exact⟨ρ1,rfl,h⟩
 ·rintro fl M ⟨Z,rfl,hI⟩;exact hk Z M hI
@[simp] theorem eW {tg:fY}{w:GW}{gb:GS}:ae (cm tg w gb Z M) kf↔ae (w Z M) λw M=>ae (c9 (iF tg gb) w (.next Z) M) kf:=by simp[cm]
@[simp] theorem dG {m:Bool}{n:Nat}{tg:fY}{w:GW}{g:GB}:ae (bc m n tg w g Z M) k↔ae (w Z M) λw M=>ae (c9 (cx tg g (List.replicate n none++Z)) w [] M) λacc M=>ae (ba m acc M) k:=by simp[bc]
variable{kl:List D->Mem->Prop}
@[simp] theorem FE {ge:GE}{acc:List D}:ae (bo ge Z acc M) kl↔ae (ge Z M) λx M=>acc.length<sz/\kl (acc++[x]) M:=by
 simp only[bo,bf];refine iff_of_eq ?_;congr 1;funext x M;split<;>simp[*]
def comp_map {tg:fY}{w:Walk}{ge:GE}{ds:List D}{ρ0:Env}(I:Nat->List D->Mem->Prop)(hz:ds.length<=sz)(hw:∀i acc M,I i acc M->w M=some ds)(h0:I 0 [] M)
 (hs:∀i d acc M,ds[i]?=some d->acc.length=i->I i acc M->∃ρ1,b6 tg d ρ0=some ρ1/\ae (ge ρ1 M) λx M=>I (i+1) (acc++[x]) M) (hk:∀acc M,acc.length=ds.length->I ds.length acc M->kl acc M) :
 ae (c9 (cx tg (bo ge) ρ0) w [] M) kl:=by
 refine fg (λi acc M=>acc.length=i/\I i acc M) (λi acc M h=>hw i acc M h.2) ⟨rfl,h0⟩ ?_ (λacc M h=>hk acc M h.1 h.2);rintro i d acc M hd ⟨hl,hI⟩;obtain⟨ρ1,e,h⟩:=hs i d acc M hd hl hI;have hi:i<ds.length:=(Qg.mp hd).1;simp only[cx,bf,g6,e,FE];exact{ρ1,rfl,aJ h λx M h=>{`a,by simp[hl],h}}
end
def d5 {M:Mem}(ht:t Z M=.ok false M)(h:ae (rest Z M) k):ae (aX (aQ t A aG) rest Z M) k:=by
 simp only[aD,gZ];rw[ht];exact h
def jm {k:Fl->Mem->Prop}(ht:t Z M=.ok true M)(he:e Z M=.ok v M)(h:k (.ret v) M):ae (aX (aQ t #v[aP e] aG) rest Z M) k:=by
 simp only[aD,gZ,cH];rw[ht];show ae (e Z M) _;rw[he];exact h
def bW {v:D}(he:e Z M=.ok v M)(h:k (.ret v) M):ae (#v[aP e] Z M) k:=by
 simp only[aD,cH];rw[he];exact h
structure HasB0 (P:Nat->Option Df):Prop where
 is_between:P 0=some {3,3,jL}
 is_word:P 1=some {2,2,nq}
 is_place:P 2=some {2,2,mw}
 is_cost:P 3=some {1,1,nA}
 is_tuple_of:P 4=some {2,2,gD}
 is_table:P 5=some {2,2,mv}
 is_double_table:P 6=some {2,2,f7}
 is_turn:P 7=some {3,6,nr}
 is_join:P 8=some {3,7,ny}
 is_move:P 9=some {3,6,nt}
 is_put:P 10=some {3,6,pK}
 is_deed:P 11=some {3,5,nz}
 is_machine:P 12=some {1,4,jK}
 need_machine:P 13=some {1,1,iB}
structure HasM0 (P:Nat->Option Df):Prop extends HasB0 P where
 is_deed_number:P 16=some {2,2,pL}
 need_numbers:P 17=some {2,4,rE}
 need_row:P 18=some {2,2,yX}
structure HasM (P:Nat->Option Df):Prop extends HasM0 P where
 turned:P 20=some {2,6,mi}
 joined:P 21=some {2,7,mr}
 moved:P 22=some {2,6,oB}
 put_in:P 23=some {2,6,mj}
 done:P 24=some {2,4,qy}
 all_standing:P 25=some {3,5,rG}
structure HasP0 (P:Nat->Option Df):Prop where
 law_spread:P 28=some {2,6,mC}
 law_open:P 29=some {1,4,kD}
 law_anew:P 30=some {1,1,kF}
 law_take:P 31=some {2,5,oO}
structure HasP (P:Nat->Option Df):Prop extends HasP0 P where
 law_tab:P 32=some {2,6,jb}
 law_deed:P 33=some {3,7,iI}
 law_machine:P 34=some {4,8,fU}
instance coeHasB0 {P:Nat->Option Df}:Coe (HasM0 P) (HasB0 P):=⟨HasM0.toHasB0⟩
instance coeHasBM {P:Nat->Option Df}:Coe (HasM P) (HasB0 P):={λh=>h.toHasM0.toHasB0}
structure jf (P:Nat->Option Df):Prop where
 turned:P 20=some {2,6,mi}
 joined:P 21=some {2,7,mr}
 moved:P 22=some {2,6,oB}
 put_in:P 23=some {2,6,mj}
 done:P 24=some {2,4,qy}
def HasM.r {P:Nat->Option Df}(h:HasM P):jf P:=⟨h.turned,h.joined,h.moved,h.put_in,h.done⟩
instance coeHasR0 {P:Nat->Option Df}:Coe (HasM P) (jf P):=⟨HasM.r⟩
instance coeHasM {P:Nat->Option Df}:Coe (HasM P) (HasM0 P):=⟨HasM.toHasM0⟩
instance coeHasP {P:Nat->Option Df}:Coe (HasP P) (HasP0 P):=⟨HasP.toHasP0⟩
@[simp] theorem Q4 {d:Option D}{r:Env}:(d::r)[0]?.getD none=d:=rfl
section
variable{M:Mem}{k:D->Mem->Prop}
def kW {α:Type}{c:Prop}[Decidable c]{r:Res α}{k:α->Mem->Prop}:ae (if c then r else .bad) k↔c/\ae r k:=by split<;>simp[*]
@[simp] theorem vP {m:Bool}{i j:Int}:ae (f6 m .add (.int i) (.int j) M) k↔k (.int (i+j)) M:=RN
@[simp] theorem Jh {m:Bool}{i j:Int}:ae (f6 m .sub (.int i) (.int j) M) k↔k (.int (i-j)) M:=RN
@[simp] theorem QI {m:Bool}{i j:Int}:ae (f6 m .mul (.int i) (.int j) M) k↔((-(2^64)<i/\i<2^64)\/(-(2^64)<j/\j<2^64))/\k (.int (i*j)) M:=kW
@[simp] theorem QJ {m:Bool}{i j:Int}:ae (f6 m .mod (.int i) (.int j) M) k↔0<j/\k (.int (i % j)) M:=kW
@[simp] theorem Qa {m:Bool}{i j:Int}:ae (f6 m .fdiv (.int i) (.int j) M) k↔(0<j/\j<1073741824)/\k (.int (i / j)) M:=kW
@[simp] theorem vO {m:Bool}{x y:List D}:ae (f6 m .add (.tup x) (.tup y) M) k↔(x++y).length<=sz/\k (.tup (x++y)) M:=by
 show ae (lS _ _) k↔_;unfold lS;exact kW
@[simp] theorem L6 {m:Bool}{x y:List D}:ae (f6 m .add (.lst x) (.lst y) M) k↔ae (ba m (x++y) M) k:=RN
@[simp] theorem Qb {i j:Int}:bH .lt (.int i) (.int j) M=some (decide (i<j)):=rfl
@[simp] theorem Qc {i j:Int}:bH .le (.int i) (.int j) M=some (decide (i<=j)):=rfl
@[simp] theorem Qd {i j:Int}:bH .gt (.int i) (.int j) M=some (decide (j<i)):=rfl
@[simp] theorem Qe {i j:Int}:bH .ge (.int i) (.int j) M=some (decide (j<=i)):=rfl
@[simp] theorem Q8 {i j:Int}:bH .eq (.int i) (.int j) M=some (i==j):=rfl
@[simp] theorem Q7 {i j:Int}:bH .ne (.int i) (.int j) M=some (!(i==j)):=rfl
@[simp] theorem Qj {b:Bool}:ko M (.bl b)=some b:=rfl
@[simp] theorem PU {ds:List D}:ko M (.tup ds)=some (!ds.isEmpty):=rfl
@[simp] theorem PV {ds:List D}:ko M (.lst ds)=some (!ds.isEmpty):=rfl
@[simp] theorem P6 {ds:List D}:ae (gJ .len [.tup ds] M) k↔k (.int ds.length) M:=RN
@[simp] theorem P7 {ds:List D}:ae (gJ .len [.lst ds] M) k↔k (.int ds.length) M:=RN
@[simp] theorem rK {ds:List D}:ae (gJ .all [.lst ds] M) k↔∃bs,boolsOf ds=some bs/\k (.bl (bs.all id)) M:=by
 show ae (match boolsOf ds with|some bs=>_|none=>_) k↔_
 cases boolsOf ds<;>simp
@[simp] theorem zV {ds:List D}:ae (gJ .tuple [.lst ds] M) k↔k (.tup ds) M:=RN
@[simp] theorem pU {j:Nat}:ae (gJ .tuple [.cell j] M) k↔∃ds,M[j]?=some ds/\k (.tup ds) M:=by
 show ae (match M[j]? with|some xs=>_|none=>_) k↔_
 cases M[j]?<;>simp
@[simp] theorem Dg {m:Bool}{ds:List D}:ae (gJ (.list m) [.lst ds] M) k↔ae (ba m ds M) k:=RN
@[simp] theorem jo {ds:List D}{i:Int}:b7 (.tup ds) (.int i) M=(cw ds.length i).bind λj=>ds[j]?:=rfl
@[simp] theorem HG {ds:List D}{i:Int}:b7 (.lst ds) (.int i) M=(cw ds.length i).bind λj=>ds[j]?:=rfl
@[simp] theorem Pp {j:Nat}{i:Int}:b7 (.cell j) (.int i) M=(M[j]?).bind λds=>(cw ds.length i).bind λj=>ds[j]?:=rfl
def dD {n i:Nat}(h:i<n):cw n (i:Int)=some i:=by
 unfold cw;rw[if_pos (Int.natCast_nonneg i),if_pos (by exact_mod_cast h)];rfl
end
def dF {α:Type}{r:Res α}{d:α}{M:Mem}(h:ae r λx M'=>x=d/\M'=M):r=.ok d M:=by
 obtain⟨a,M',e,rfl,rfl⟩:=eJ.mp h;exact e
def ak {r:Res D}{d:D}{M:Mem}(h:ae r λx M'=>x=d/\M'=M):r=.ok d M:=by
 obtain⟨a,M',e,rfl,rfl⟩:=eJ.mp h;exact e
section
variable{P:Nat->Option Df}(h:HasB0 P){M:Mem}
include h
theorem gX (n:Nat)(t lo hi:Int):ah P (n+1) 0 [.int t,.int lo,.int hi] M=.ok (.bl (decide (lo<=t)&&decide (t<=hi))) M:=by
 refine ak (aN h.is_between rfl ?_);simp[jL,hU];by_cases h1:lo<=t<;>simp[h1]<;>omega
end
def fc {tg:fY}{w:Walk}{ge:GE}{ds:List D}{ρ0:Env}{M:Mem}{kl:List D->Mem->Prop}(f:D->D)(hz:ds.length<=sz)(hw:w M=some ds)(hs:∀d∈ds,∃ρ1,b6 tg d ρ0=some ρ1/\ge ρ1 M=.ok (f d) M)(hk:kl (ds.map f) M) :
 ae (c9 (cx tg (bo ge) ρ0) w [] M) kl:=by
 refine comp_map (λi acc M'=>M'=M/\acc=(ds.take i).map f) hz (λi acc M' h=>by rw[h.1];exact hw) ⟨rfl,rfl⟩ ?_ ?_
 ·rintro i d acc M' hd _ ⟨rfl,rfl⟩;obtain⟨ρ1,e1,e2⟩:=hs d (QR hd);refine{ρ1,e1,?_};rw[e2];refine{rfl,?_};have hi:i<ds.length:=(Qg.mp hd).1;rw[RD,hd];simp
 ·rintro acc M' _ ⟨rfl,rfl⟩;simpa using hk
def qw {ds:List D}(h:∀d∈ds,d=.bl true):∃bs,boolsOf ds=some bs/\bs.all id=true:=by
 induction ds with
 |nil=>exact{[],rfl,rfl}
 | cons d r ih =>
   obtain⟨bs,e,q⟩:=ih λd hd=>h d (Qz _ hd);obtain rfl:=h d QK;exact{true::bs,by simp[boolsOf,e],by simpa using q}
def all_true {w:GW}{ge:GE}{Z:Env}{M:Mem}{k:D->Mem->Prop}{ds:List D}(hw:ae (w Z M) λwk M'=>M'=M/\wk M=some ds)(hz:ds.length<=sz)(he:∀d∈ds,ge (some d::Z) M=.ok (.bl true) M)(hk:k (.bl true) M) :
 ae (aM .all #[bc false 1 (.one 0) w (bo ge)] Z M) k:=by
 simp only[b5,bX,dG,cb];refine aJ hw λwk M' ⟨e1,e2⟩=>?_;subst e1;refine fc (λ_=>.bl true) hz e2 (λd hd=>{some d::Z,rfl,he d hd}) ?_;obtain⟨bs,q1,q2⟩:=qw (ds:=ds.map λ_=>D.bl true) `s
 simp only[bI,Qf,rK];exact{hz,bs,q1,by rw[q2];exact hk}
def pN {tg:fY}{ge:GE}{w:Walk}{ds:List D}{ρ0:Env}{M:Mem}(hz:ds.length<=sz)(hw:w M=some ds)(he:∀d∈ds,∃ρ1,b6 tg d ρ0=some ρ1/\ge ρ1 M=.ok (.bl true) M) :
 ae (c9 (cx tg (bo ge) ρ0) w [] M) λacc M'=>acc.length<=sz/\∃bs,boolsOf acc=some bs/\¬ false∈bs/\M'=M:=by
 refine fc (λ_=>.bl true) hz hw he ?_;obtain⟨bs,q1,q2⟩:=qw (ds:=ds.map λ_=>D.bl true) `s
 refine{by simpa using hz,bs,q1,λz=>?_,rfl}
 have:=QB.mp q2 false z;cases this
abbrev nD (n:Nat):D:=.int (n:Int)
noncomputable def aq (l:List Nat):D:=.tup (l.map nD)
inductive a9 where
 |turn (at_:Nat) (tab:List Nat) (cost:Nat)
 |join (at_ other:Nat) (tab:List (List Nat)) (cost:Nat)
 |move (at_ other cost:Nat)
 |put (at_ word cost:Nat)
noncomputable def a9.d:a9->D
 |.turn a t c=>.tup [.str "turn",nD a,aq t,nD c]
 |.join a o t c=>.tup [.str "join",nD a,nD o,.tup (t.map aq),nD c]
 |.move a o c=>.tup [.str "move",nD a,nD o,nD c]
 |.put a w c=>.tup [.str "put",nD a,nD w,nD c]
noncomputable def a9.cost:a9->Nat
 |.turn _ _ c=>c
 |.join _ _ _ c=>c
 |.move _ _ c=>c
 |.put _ _ c=>c
structure aO where
 words:Nat
 places:Nat
 deeds:List a9
noncomputable def aO.d (m:aO):D:=.tup [nD m.words,nD m.places,.tup (m.deeds.map a9.d)]
noncomputable def jd (w:Nat)(t:List Nat):Prop:=t.length=w/\∀x∈t,x<w
noncomputable def ij (c:Nat):Prop:=1<=c/\c<=3
noncomputable def b9 (w p:Nat):a9->Prop
 |.turn a t c=>a<p/\jd w t/\ij c
 |.join a o t c=>a<p/\o<p/\(t.length=w/\∀x∈t,jd w x)/\ij c
 |.move a o c=>a<p/\o<p/\ij c
 |.put a x c=>a<p/\x<w/\ij c
structure aI (m:aO):Prop where
 w2:2<=m.words
 w4:m.words<=4
 p1:1<=m.places
 p2:m.places<=2
 d1:1<=m.deeds.length
 d6:m.deeds.length<=6
 ok:∀d∈m.deeds,b9 m.words m.places d
def ax {n:Nat}(h:n<=100000):n<=sz:=Qp h `d
section
variable{P:Nat->Option Df}(h:HasB0 P){M:Mem}
include h
theorem qF (n:Nat){w t:Nat}(ht:t<w):ah P (n+2) 1 [nD w,nD t] M=.ok (.bl true) M:=by
 refine ak (aN h.is_word rfl ?_);simp[nq,gX h];omega
theorem iu (n:Nat){w t:Nat}(ht:t<w):ah P (n+2) 2 [nD w,nD t] M=.ok (.bl true) M:=by
 refine ak (aN h.is_place rfl ?_);simp[mw,gX h];omega
theorem lH (n:Nat){c:Nat}(hc:ij c):ah P (n+2) 3 [nD c] M=.ok (.bl true) M:=by
 unfold ij at hc;refine ak (aN h.is_cost rfl ?_);simp[nA,gX h];omega
theorem lG (n:Nat){w:Nat}{ds:List D}(ht:ds.length=w):ah P (n+1) 4 [nD w,.tup ds] M=.ok (.bl true) M:=by
 refine ak (aN h.is_tuple_of rfl ?_);simp[gD,hU,ht]
theorem tZ (n:Nat){w:Nat}{t:List Nat}(hw:w<=4)(ht:jd w t):ah P (n+3) 5 [nD w,aq t] M=.ok (.bl true) M:=by
 refine ak (aN h.is_table rfl ?_);have e:ah P (n+2) 4 [nD w,aq t] M=.ok (.bl true) M:=lG h (n+1) (by simpa using ht.1)
 simp[mv,e];refine{rfl,pN (ax (by simp[ht.1];omega)) rfl λd hd=>?_}
 obtain⟨x,hx,rfl⟩:=Qx.mp hd;refine{_,rfl,ak ?_};simp[qF h n (ht.2 x hx)]
theorem Am (n:Nat){w:Nat}{t:List (List Nat)}(hw:w<=4)(ht:t.length=w/\∀x∈t,jd w x):ah P (n+4) 6 [nD w,.tup (t.map aq)] M=.ok (.bl true) M:=by
 refine ak (aN h.is_double_table rfl ?_);have e:ah P (n+3) 4 [nD w,.tup (t.map aq)] M=.ok (.bl true) M:=lG h (n+2) (by simpa using ht.1)
 simp[f7,e];refine{rfl,pN (ax (by simp[ht.1];omega)) rfl λd hd=>?_}
 obtain⟨x,hx,rfl⟩:=Qx.mp hd;refine{_,rfl,ak ?_};simp[tZ h n hw (ht.2 x hx)]
theorem Gm (n:Nat){w p a c:Nat}{t:List Nat}(hw:w<=4)(hd:b9 w p (.turn a t c)):ah P (n+4) 7 [nD w,nD p,.tup [nD a,aq t,nD c]] M=.ok (.bl true) M:=by
 obtain⟨h1,h2,h3⟩:=hd;refine ak (aN h.is_turn rfl ?_);simp[nr,di,iu h (n+1) h1,tZ h n hw h2,lH h (n+1) h3]
theorem Gx (n:Nat){w p a o c:Nat}{t:List (List Nat)}(hw:w<=4)(hd:b9 w p (.join a o t c)):ah P (n+5) 8 [nD w,nD p,.tup [nD a,nD o,.tup (t.map aq),nD c]] M=.ok (.bl true) M:=by
 obtain⟨h1,h2,h3,h4⟩:=hd;refine ak (aN h.is_join rfl ?_);simp[ny,di,iu h (n+2) h1,iu h (n+2) h2,Am h n hw h3,lH h (n+2) h4]
theorem Gu (n:Nat){w p a o c:Nat}(hd:b9 w p (.move a o c)):ah P (n+3) 9 [nD w,nD p,.tup [nD a,nD o,nD c]] M=.ok (.bl true) M:=by
 obtain⟨h1,h2,h3⟩:=hd;refine ak (aN h.is_move rfl ?_);simp[nt,di,iu h n h1,iu h n h2,lH h n h3]
theorem Gq (n:Nat){w p a x c:Nat}(hd:b9 w p (.put a x c)):ah P (n+3) 10 [nD w,nD p,.tup [nD a,nD x,nD c]] M=.ok (.bl true) M:=by
 obtain⟨h1,h2,h3⟩:=hd;refine ak (aN h.is_put rfl ?_);simp[pK,di,iu h n h1,qF h n h2,lH h n h3]
end
def O3:eP.lookup (Str.ofString "turn")=some 7:=`k
def O2:eP.lookup (Str.ofString "join")=some 8:=`k
def O1:eP.lookup (Str.ofString "move")=some 9:=`k
def O0:eP.lookup (Str.ofString "put")=some 10:=`k
section
variable{P:Nat->Option Df}(h:HasB0 P){M:Mem}
include h
theorem tu (n:Nat){w p f:Nat}{s:Str}{ds:List D}(lk:eP.lookup s=some f)(q:ah P (n+5) f [nD w,nD p,.tup ds] M=.ok (.bl true) M):ah P (n+6) 11 [nD w,nD p,.tup (.str s::ds)] M=.ok (.bl true) M:=by
 refine ak (aN h.is_deed rfl ?_);simp[-List.lookup_isSome_iff,nz,hU,cw,lk,gY,aS,cK,cut,q]
theorem Gz (n:Nat){w p:Nat}{d:a9}(hw:w<=4)(hd:b9 w p d):ah P (n+6) 11 [nD w,nD p,d.d] M=.ok (.bl true) M:=by
 cases d with
 |turn a t c=>exact tu h n O3 (Gm h (n+1) hw hd)
 |join a o t c=>exact tu h n O2 (Gx h n hw hd)
 |move a o c=>exact tu h n O1 (Gu h (n+2) hd)
 |put a x c=>exact tu h n O0 (Gq h (n+2) hd)
theorem Gw (n:Nat){m:aO}(hm:aI m):ah P (n+7) 12 [m.d] M=.ok (.bl true) M:=by
 refine ak (aN h.is_machine rfl ?_);have e:ah P (n+6) 4 [.int 3,.tup [nD m.words,nD m.places,.tup (m.deeds.map a9.d)]] M=.ok (.bl true) M:=lG h (n+5) rfl;have l1:=hm.d1;have l6:=hm.d6;have b1:(decide ((2:Int)<=(m.words:Int))&&decide ((m.words:Int)<=4))=true:=by have:=hm.w2;have:=hm.w4;simp;omega
 have b2:(decide ((1:Int)<=(m.places:Int))&&decide ((m.places:Int)<=2))=true:=by have:=hm.p1;have:=hm.p2;simp;omega
 simp only[Qr,decide_eq_true_eq] at b1 b2;simp[jK,aO.d,e,di,gX h,b1,b2,hU];refine{`a,`a,rfl,pN (ax `o) rfl λd hd=>?_}
 obtain⟨x,hx,rfl⟩:=Qx.mp hd;refine{_,rfl,ak ?_};simp[Gz h n hm.w4 (hm.ok x hx)]
end
section
variable{Z:Env}{M:Mem}{a b:GE}{s:GA}{k:D->Mem->Prop}{kf:Fl->Mem->Prop}{t u:GT}{A rest:GS}
def bL {t rest:GS}{ρ':Env}(e:t Z M=.ok (.next ρ') M)(h:ae (rest ρ' M) kf):ae (aX t rest Z M) kf:=by
 simp only[aD];rw[e];exact h
def ag {x:D}{xs:List D}(ea:a Z M=.ok x M)(es:s Z M=.ok xs M):bg a s Z M=.ok (x::xs) M:=by
 unfold bg;rw[ea];show(s Z M).bind _=_;rw[es];rfl
def k9 {xs:List D}(es:s Z M=.ok xs M)(hl:xs.length<=100):bu false s Z M=.ok (.lst xs) M:=by
 unfold bu;rw[es];show(if xs.length<=sz then(if false=true then _ else Res.ok (D.lst xs) M) else .bad)=_;rw[if_pos (ax `a)]
 rfl
def bY {i:Nat}{x:D}(e:a Z M=.ok x M):aw (.one i) a Z M=.ok (.next (Z.set i (some x))) M:=by
 unfold aw;rw[e];rfl
def ay {j:Nat}{x:D}(h:Z[j]?.getD none=some x):aa j Z M=.ok x M:=by
 unfold aa;rw[h];rfl
def aU {f:Nat}{c:Call}{xs:List D}(e:s Z M=.ok xs M):ai f c s Z M=c f xs M:=by
 unfold ai;rw[e];rfl
def NP {f i:Nat}{c:Call}{x:D}{r:Res D}(h:Z[i]?.getD none=some x)(e:c f [x] M=r):ai f c #[aa i] Z M=r:=(aU (ag (ay h) rfl)).trans e
def cF {i:Nat}(h:ae (a Z M) k)(hk:∀x M',k x M'->ae (rest (Z.set i (some x)) M') kf):ae (aX (aw (.one i) a) rest Z M) kf:=by
 obtain⟨x,M',e,q⟩:=eJ.mp h;simp only[aD];unfold aw;rw[e];exact hk x M' q
def Bi (ht:t Z M=.ok true M)(h:ae (A Z M) (iE rest kf)):ae (aX (aQ t A aG) rest Z M) kf:=by
 simp only[aD,gZ];rw[ht];exact h
def bG {b:Bool}(ht:t Z M=.ok b M)(h1:b=true->ae (A Z M) (iE rest kf))(h2:b=false->ae (rest Z M) kf):ae (aX (aQ t A aG) rest Z M) kf:=by
 cases b with
 |true=>exact Bi ht (h1 rfl)
 |false=>exact d5 ht (h2 rfl)
def g7 {b:Bool}(h:t Z M=.ok b M):cj t Z M=.ok (!b) M:=by
 unfold cj;rw[h];rfl
def bV {b:Bool}(h:a Z M=.ok (.bl b) M):aj a Z M=.ok b M:=by
 unfold aj;rw[h];rfl
def nU {x y:Bool}(h1:t Z M=.ok x M)(h2:u Z M=.ok y M):dN t u Z M=.ok (x||y) M:=by
 unfold dN;rw[h1];cases x with
 |true=>rfl
 |false=>exact h2
def rJ {x y:Bool}(h1:t Z M=.ok x M)(h2:u Z M=.ok y M):gW t u Z M=.ok (x&&y) M:=by
 unfold gW;rw[h1];cases x with
 |true=>exact h2
 |false=>rfl
def qz {x y:Bool}(h1:a Z M=.ok (.bl x) M)(h2:x=true->b Z M=.ok (.bl y) M):eX a b Z M=.ok (.bl (x&&y)) M:=by
 unfold eX;rw[h1];cases x with
 |true=>exact h2 rfl
 |false=>rfl
def jn {k:Bool}{x:D}(ht:t Z M=.ok k M)(h1:k=true->a Z M=.ok x M)(h2:k=false->b Z M=.ok x M):gG t a b Z M=.ok x M:=by
 unfold gG;rw[ht];cases k with
 |true=>exact h1 rfl
 |false=>exact h2 rfl
end
structure Sub (M M':Mem):Prop where
 len:M.length<=M'.length
 at':∀k,k<M.length->M'[k]?=M[k]?
def Sub.refl:Sub M M:={Ql _,λ_ _=>rfl}
def Sub.trans (a:Sub M M1)(b:Sub M1 M2):Sub M M2:={Qp a.len b.len,λk hk=>(b.at' k (QN hk a.len)).trans (a.at' k hk)}
def Sub.app:Sub M (M++X):={`s,λk hk=>Qn hk}
def Sub.get {k:Nat}(h:Sub M M')(e:M[k]?=some ds):M'[k]?=some ds:=by rw[h.at' k (Qg.mp e).1];exact e
def Sub.setq (h:Sub M M')(hq:M.length<=q):Sub M (M'.set q ds):={by simpa using h.len,λk hk=>by rw[Qo `a];exact h.at' k hk}
def yR (f:D->D)(hz:acc0.length+ds.length<=sz)(hw:w M=some ds)(hs:∀d∈ds,∃ρ1,b6 tg d ρ0=some ρ1/\ge ρ1 M=.ok (f d) M)(hk:kl (acc0++ds.map f) M) :
 ae (c9 (cx tg (bo ge) ρ0) w acc0 M) kl:=by
 refine fg (λi acc M'=>M'=M/\acc=acc0++(ds.take i).map f) (λi acc M' h=>by rw[h.1];exact hw) {rfl,`s} ?_ ?_
 ·rintro i d acc M' hd ⟨rfl,rfl⟩;obtain⟨ρ1,e1,e2⟩:=hs d (QR hd);have hi:i<ds.length:=(Qg.mp hd).1;simp only[cx,bf,g6,e1,FE];refine{ρ1,rfl,?_};rw[e2];refine{by simp;omega,rfl,?_}
  rw[RD,hd];simp
 ·rintro acc M' ⟨rfl,rfl⟩;simpa using hk
def q8 {α β:Type}(f:α->List β)(n:Nat):∀(ds:List α),(∀d∈ds,(f d).length<=n)->(ds.flatMap f).length<=ds.length*n
 |[],_=>`s
 | d :: r, h => by
   have h1:=h d QK;have h2:=q8 f n r λd hd=>h d (Qz _ hd);simp only[List.flatMap_cons,QO,RL,Nat.succ_mul];omega
def qt (its:D->List D)(f:D->D->D)(n:Nat)(hn:∀d∈ds,(its d).length<=n)(hz:ds.length*n<=sz)(hw:w M=some ds)
 (hs:∀d∈ds,∃ρ1,b6 t d ρ0=some ρ1/\∃w2,gw2 ρ1 M=.ok w2 M/\w2 M=some (its d)/\∀e∈its d,∃ρ2,b6 u e ρ1=some ρ2/\ge ρ2 M=.ok (f d e) M) (hk:kl (ds.flatMap λd=>(its d).map (f d)) M) :
 ae (c9 (cx t (qY u gw2 (bo ge)) ρ0) w [] M) kl:=by
 refine fg (λi acc M'=>M'=M/\acc=(ds.take i).flatMap λd=>(its d).map (f d)) (λi acc M' h=>by rw[h.1];exact hw) {rfl,`s} ?_ ?_
 ·rintro i d acc M' hd ⟨rfl,rfl⟩;obtain⟨ρ1,e1,w2,e2,e3,e4⟩:=hs d (QR hd);simp only[cx,bf,g6,e1,qY];refine{ρ1,rfl,?_};rw[e2];have e5:(ds.take (i+1)).flatMap (λd=>(its d).map (f d))=(ds.take i).flatMap (λd=>(its d).map (f d))++(its d).map (f d):=by
   rw[RD,hd];simp
  have l1:=q8 (λd=>(its d).map (f d)) n (ds.take (i+1)) (λd hd=>by simpa using hn d (RW hd))
  rw[e5] at l1;simp only[QO,Qf,RX] at l1;refine yR (f d) ?_ e3 e4 ⟨rfl,e5.symm⟩;have:(min (i+1) ds.length)*n<=ds.length*n:=Nat.mul_le_mul_right _ (Nat.min_le_right _ _);omega
 ·rintro acc M' ⟨rfl,rfl⟩;simpa using hk
noncomputable def rf (w:Nat)(l:List (List Nat)):List (List Nat):=l.flatMap λs=>(List.range w).map λx=>s++[x]
noncomputable def dM (w:Nat):Nat->List (List Nat)
 |0=>[[]]
 |p+1=>rf w (dM w p)
noncomputable def a7 (m:aO):List (List Nat):=dM m.words m.places
noncomputable def dz (m:aO)(s:List Nat):Prop:=s.length=m.places/\∀x∈s,x<m.words
def vJ:∀s∈dM w p,s.length=p/\∀x∈s,x<w:=by
 induction p with
 |zero=>intro s hs;simp[dM] at hs;subst hs;simp
 | succ p ih =>
   intro s hs;simp only[dM,rf,List.mem_flatMap,Qx,RP] at hs;obtain⟨t,ht,x,hx,rfl⟩:=hs;obtain⟨h1,h2⟩:=ih t ht;refine{by simp[h1],λy hy=>?_}
   rcases QL.mp hy with z|z
   ·exact h2 y z
   ·simp at z;omega
def oA:∀s∈a7 m,dz m s:=vJ
def ke (hw:w<=4):∀p≤2,(dM w p).length<=4^p
 |0,_=>by simp[dM]
 | p + 1, hp => by
   have:=ke hw p `a
   have l:=q8 (λs:List Nat=>(List.range w).map λx=>s++[x]) 4 (dM w p) (λd hd=>by simpa using hw)
   calc _<=(dM w p).length*4:=l
    _<=4^p*4:=Nat.mul_le_mul_right _ this
    _=4^(p+1):=by rw[Nat.pow_succ]
def cf (hm:aI m):(a7 m).length<=16:=by
 have h:=ke hm.w4 m.places hm.p2;have h1:=hm.p1;have h2:=hm.p2;have:m.places=1\/m.places=2:=`a
 rcases this with e|e<;>rw[e] at h<;>unfold a7<;>rw[e]<;>omega
def sR:∀(p:Nat) (s:List Nat),s.length=p->(∀x∈s,x<w)->s∈dM w p
 | 0, s, hl, _ => by
   obtain rfl:=Sb.mp hl;simp[dM]
 | p + 1, s, hl, hx => by
   have ne:s≠[]:=by intro e;subst e;cases hl
   have es:=List.dropLast_concat_getLast ne;show s∈rf w (dM w p);unfold rf;rw[List.mem_flatMap];refine{s.dropLast,sR p _ (by simp[hl]) (λx h=>hx x (List.dropLast_subset _ h)),?_}
   rw[Qx];exact{s.getLast ne,RP.mpr (hx _ (List.getLast_mem ne)),es}
def vI (hm:aI m)(h:dz m s):s∈a7 m:=sR _ s h.1 h.2
noncomputable def eE:a9->List Nat->Nat
 |.turn a t _,s=>t.getD (s.getD a 0) 0
 |.join a o t _,s=>(t.getD (s.getD a 0) []).getD (s.getD o 0) 0
 |.move _ o _,s=>s.getD o 0
 |.put _ x _,_=>x
noncomputable def a9.at':a9->Nat
 |.turn a _ _=>a
 |.join a _ _ _=>a
 |.move a _ _=>a
 |.put a _ _=>a
noncomputable def bZ (d:a9)(s:List Nat):List Nat:=s.take d.at'++[eE d s]++s.drop (d.at'+1)
def getD_mem {α:Type}{l:List α}{d:α}(h:i<l.length):l.getD i d∈l:=by
 rw[Rj,Qq h];exact Sr h
def yq {m:aO}(hd:b9 m.words m.places d)(hs:dz m s):eE d s<m.words:=by
 obtain⟨hl,hx⟩:=hs;cases d with
 | turn a t c =>
   obtain⟨h1,h2,h3⟩:=hd;have:=hx _ (getD_mem (d:=0) (show a<s.length by omega))
   exact h2.2 _ (getD_mem (by rw[h2.1];exact this))
 | join a o t c =>
   obtain⟨h1,h2,h3,h4⟩:=hd;have a1:=hx _ (getD_mem (d:=0) (show a<s.length by omega))
   have a2:=hx _ (getD_mem (d:=0) (show o<s.length by omega))
   have a3:=h3.2 _ (getD_mem (d:=[]) (show s.getD a 0<t.length by rw[h3.1];exact a1))
   exact a3.2 _ (getD_mem (by rw[a3.1];exact a2))
 |move a o c=>exact hx _ (getD_mem (by obtain⟨h1,h2,h3⟩:=hd;omega))
 |put a x c=>exact hd.2.1
def tD (hd:b9 w p d):d.at'<p:=by cases d<;>exact hd.1
def sD (hd:b9 m.words m.places d)(hs:dz m s):dz m (bZ d s):=by
 have h1:=tD hd;have h2:=yq hd hs;obtain⟨hl,hx⟩:=hs;refine{by simp[bZ];omega,λx hm=>?_}
 simp only[bZ,QL,Qw] at hm;rcases hm with(z|z)|z
 ·exact hx x (RW z)
 ·omega
 ·exact hx x (List.mem_of_mem_drop z)
noncomputable def NY (m:aO)(r:List Nat):Prop:=r.length<=40/\∀i∈r,i<m.deeds.length
noncomputable def cZ (m:aO)(i:Nat):a9:=m.deeds.getD i (.put 0 0 1)
noncomputable def jG (m:aO):List Nat->List Nat->List Nat
 |[],s=>s
 |i::r,s=>jG m r (bZ (cZ m i) s)
def gU {m:aO}(hm:aI m){i:Nat}(hi:i<m.deeds.length):b9 m.words m.places (cZ m i):=hm.ok _ (getD_mem hi)
def rh (hm:aI m):∀{r:List Nat}{s:List Nat},(∀i∈r,i<m.deeds.length)->dz m s->dz m (jG m r s)
 |[],s,_,h=>h
 |i::r,s,hr,h=>rh (r:=r) hm (λj hj=>hr j (Qz _ hj)) (sD (gU hm (hr i QK)) h)
def pG:∀(a b s:List Nat),jG m (a++b) s=jG m b (jG m a s)
 |[],b,s=>rfl
 |i::a,b,s=>pG a b _
def Cy {s:List Nat}(hi:i<s.length):(cw (s.map nD).length (i:Int)).bind (λj=>(s.map nD)[j]?)=some (nD (s.getD i 0)):=by
 rw[dD (by simpa using hi)]
 simp[Rj,hi]
noncomputable def yQ (m:aO)(r:List Nat):Nat:=(r.map λi=>(cZ m i).cost).sum
def Dc {i:Nat}(hi:i<m.deeds.length):((cw (m.deeds.map a9.d).length (i:Int)).bind λj=>(m.deeds.map a9.d)[j]?)=some (cZ m i).d:=by
 rw[dD (by simpa using hi)]
 simp[cZ,Rj,hi]
def Oh {m:aO}:b7 m.d (.int 2) M=some (.tup (m.deeds.map a9.d)):=rfl
def uU (hi:i<m.deeds.length):b7 (.tup (m.deeds.map a9.d)) (nD i) M=some (cZ m i).d:=Dc hi
def mU {d:a9}:b7 d.d (.int (-1)) M=some (nD d.cost):=by cases d<;>rfl
def hV {s:List Nat}(hi:i<s.length):b7 (aq s) (nD i) M=some (nD (s.getD i 0)):=Cy hi
def Bn {t:List (List Nat)}(hi:i<t.length):b7 (.tup (t.map aq)) (nD i) M=some (aq (t.getD i [])):=by
 show(cw (t.map aq).length (i:Int)).bind (λj=>(t.map aq)[j]?)=_;rw[dD (by simpa using hi)]
 simp[Rj,hi]
noncomputable def iJ (M:Mem)(x:D)(r:List Nat):Prop:=x=.lst (r.map nD)\/∃q,x=.cell q/\M[q]?=some (r.map nD)
def iJ.l:iJ M (.lst (r.map nD)) r:=.inl rfl
def iJ.sub {M M':Mem}(h:iJ M x r)(s:Sub M M'):iJ M' x r:=h.elim .inl λ⟨q,e,g⟩=>.inr {q,e,s.get g}
def iJ.seq (h:iJ M x r):cE M x=some (r.map nD):=by
 rcases h with rfl|⟨q,rfl,e⟩
 ·rfl
 ·exact e
def iJ.is (h:iJ M x r):gy x=true/\iH x=true/\hU .list x=some true:=by
 rcases h with rfl|⟨q,rfl,e⟩<;>exact⟨rfl,rfl,rfl⟩
section
variable{P:Nat->Option Df}(h:HasB0 P){M:Mem}
include h
theorem t5 (n:Nat)(hm:aI m):ah P (n+8) 13 [m.d] M=.ok .non M:=by
 refine ak (aN h.need_machine rfl ?_);simp[iB,Gw h n hm]
theorem kK (h15:P 15=some {1,6,cg})(n:Nat)(hm:aI m):ah P (n+9) 15 [m.d] M=.ok (.lst ((a7 m).map aq)) M:=by
 refine ak (aN h15 rfl ?_);have w4:=hm.w4;have p2:=hm.p2;simp[cg,t5 h n hm];simp[aO.d,di];refine{`d,`a,?_}
 refine eY (λi Z M'=>M'=M/\∃a,Z=[some m.d,some (nD m.words),some (nD m.places),some (.tup (m.deeds.map a9.d)),some (.lst ((dM m.words i).map aq)),a]) (λ_ _ _ _=>rfl) {rfl,none,by simp[aO.d,dM,aq]} ?_ ?_
 ·rintro i d Z M' hd ⟨rfl,a,rfl⟩;have hi:i<m.places:=by
   have:=(Qg.mp hd).1;simpa using this
  refine{_,rfl,?_};simp[gy];refine qt (λ_=>(List.range m.words).map λ(k:Nat)=>D.int (k:Int)) (λd e=>match d,e with|.tup x,e=>.tup (x++[e])|_,_=>.non) 4 (by simpa using λ_ _=>w4) ?_ rfl ?_ ?_
  ·have:=ke w4 i `a
   have:(4:Nat)^i<=4^2:=Nat.pow_le_pow_right `d `a
   simp only[Qf];exact ax `a
  ·intro d hd;obtain⟨s,hs,rfl⟩:=Qx.mp hd;have{l1,_}:=vJ s hs;refine{_,rfl,(λ_=>some ((List.range m.words).map λ(k:Nat)=>D.int (k:Int))),dF ?_,rfl,λe he=>{_,rfl,ak ?_}}
   ·simp;omega
   ·simp[aq,sz];omega
  ·have e0:((dM m.words i).map aq).flatMap (λd=>((List.range m.words).map λ(k:Nat)=>D.int (k:Int)).map (λe=>match d,e with|.tup x,e=>D.tup (x++[e])|_,_=>.non))=(dM m.words (i+1)).map aq:=by
    simp only[dM,rf,List.flatMap_map,List.map_flatMap,Rk]
    congr 1
    funext s
    simp[aq,Function.comp_def]
   rw[e0];refine{?_,rfl,rfl};have:=ke w4 (i+1) `a
   have:(4:Nat)^(i+1)<=4^2:=Nat.pow_le_pow_right `d `a
   simp only[Qf];exact ax `a
 ·rintro Z M' ⟨rfl,a,rfl⟩;simp[a7]
end
section
variable{P:Nat->Option Df}(h:jf P){M:Mem}
include h
theorem Ad (n:Nat){m:aO}(hd:b9 m.words m.places (.turn a t c))(hs:dz m s):ah P (n+1) 20 [(a9.turn a t c).d,aq s] M=.ok (nD (eE (.turn a t c) s)) M:=by
 obtain⟨h1,h2,h3⟩:=hd;have a1:a<s.length:=by rw[hs.1];exact h1
 have a2:s.getD a 0<t.length:=by rw[h2.1];exact hs.2 _ (getD_mem a1)
 refine ak (aN h.turned rfl ?_);simp[-jo,-List.getD_eq_getElem?_getD,mi,a9.d,di,hV a1,hV a2,eE]
theorem Aj (n:Nat){a o c:Nat}(hd:b9 m.words m.places (.join a o t c))(hs:dz m s):ah P (n+1) 21 [(a9.join a o t c).d,aq s] M=.ok (nD (eE (.join a o t c) s)) M:=by
 obtain⟨h1,h2,h3,h4⟩:=hd;have a1:a<s.length:=by rw[hs.1];exact h1
 have a2:o<s.length:=by rw[hs.1];exact h2
 have a3:s.getD a 0<t.length:=by rw[h3.1];exact hs.2 _ (getD_mem a1)
 have a4:s.getD o 0<(t.getD (s.getD a 0) []).length:=by rw[(h3.2 _ (getD_mem a3)).1];exact hs.2 _ (getD_mem a2)
 refine ak (aN h.joined rfl ?_);simp[-jo,-List.getD_eq_getElem?_getD,mr,a9.d,di,hV a1,hV a2,Bn a3,hV a4,eE]
theorem CF (n:Nat)(hd:b9 m.words m.places (.move a o c))(hs:dz m s):ah P (n+1) 22 [(a9.move a o c).d,aq s] M=.ok (nD (eE (.move a o c) s)) M:=by
 obtain⟨h1,h2,h3⟩:=hd;have a2:o<s.length:=by rw[hs.1];exact h2
 refine ak (aN h.moved rfl ?_);simp[-jo,-List.getD_eq_getElem?_getD,oB,a9.d,di,hV a2,eE]
theorem CC (n:Nat):ah P (n+1) 23 [(a9.put a x c).d,aq s] M=.ok (nD (eE (.put a x c) s)) M:=by
 refine ak (aN h.put_in rfl ?_);simp[mj,a9.d,di,eE]
end
def O7:cU.lookup (Str.ofString "turn")=some 20:=`k
def O6:cU.lookup (Str.ofString "join")=some 21:=`k
def O5:cU.lookup (Str.ofString "move")=some 22:=`k
def O4:cU.lookup (Str.ofString "put")=some 23:=`k
def Jm {a:Nat}(ha:a<=s.length):ae (gY false (aq s) .non (.int a) M) k↔k (aq (s.take a)) M:=by
 simp only[gY,aq,aS,cut];rw[if_neg `a]
 simp;rw[Nat.min_eq_left (by simpa using ha)]
def GG {a:Nat}(ha:a<=s.length):ae (gY false (aq s) (.int a) .non M) k↔k (aq (s.drop a)) M:=by
 simp only[gY,aq,aS,cut];rw[if_neg `a]
 simp;rw[Nat.min_eq_left (by simpa using ha),Rv `s]
section
variable{P:Nat->Option Df}(h:jf P){M:Mem}
include h
theorem Gy (n:Nat){d:a9}(hm:aI m)(hd:b9 m.words m.places d)(hs:dz m s):ah P (n+2) 24 [d.d,aq s] M=.ok (aq (bZ d s)) M:=by
 have a0:=tD hd;have l0:=hs.1;have p2:=hm.p2;have key:∀f,ah P (n+1) f [d.d,aq s] M=.ok (nD (eE d s)) M->b7 d.d (.int 1) M=some (nD d.at')->(∀k:D->Mem->Prop,(∃y,b7 d.d (.int 0) M=some (.str y)/\cU.lookup y=some f))->ah P (n+2) 24 [d.d,aq s] M=.ok (aq (bZ d s)) M:=λf e1 e2 e3=>by
  obtain⟨y,e3,e4⟩:=e3 λ_ _=>True;refine ak (aN h.done rfl ?_);simp only[qy,aD,mJ,Lm,fA,bw,dJ,bx,cH,j9,oh,i9,bX,cb,HL];simp[-jo,e1,e2,e3,e4,cK];rw[Jm `a,e1]
  have e5:(d.at':Int)+1=((d.at'+1:Nat):Int):=`a
  rw[e5];simp only[aR,aq,vO];refine{`d,?_,?_}
  ·simp;exact ax `a
  ·rw[show D.tup (s.map nD)=aq s from rfl,GG `a]
   simp only[aq,vO];refine{?_,?_,trivial}
   ·simp;exact ax `a
   ·simp[bZ]
 cases d with
 |turn a t c=>exact key 20 (Ad h n hd hs) rfl λ_=>{_,rfl,O7}
 |join a o t c=>exact key 21 (Aj h n hd hs) rfl λ_=>{_,rfl,O6}
 |move a o c=>exact key 22 (CF h n hd hs) rfl λ_=>{_,rfl,O5}
 |put a x c=>exact key 23 (CC h n) rfl λ_=>{_,rfl,O4}
end
@[simp] theorem pw:ae (gJ .len [.cell j] M) k↔∃ds,M[j]?=some ds/\k (.int ds.length) M:=by
 show ae (match M[j]? with|some xs=>_|none=>_) k↔_
 cases M[j]?<;>simp
structure aF (M:Mem) (p B:Nat):Prop where
 ex:∃(c:Nat) (cells:List Int) (at_ st:Int),M[p]?=some [.cell c,.int at_,.int st]/\M[c]?=some (cells.map D.int)/\c<p/\0<=at_/\at_<=B/\0<=st
structure aY (p:Nat) (M M':Mem):Prop where
 len:M.length<=M'.length
 at':∀k,k<M.length->k≠p->M'[k]?=M[k]?
def aY.refl:aY p M M:={Ql _,λ_ _ _=>rfl}
def aY.trans (a:aY p M M1)(b:aY p M1 M2):aY p M M2:={Qp a.len b.len,λk hk n=>(b.at' k (QN hk a.len) n).trans (a.at' k hk n)}
def aY.set:aY p M (M.set p ds):={`s,λk _ n=>Qo (Ru n)}
def aY.app:aY p M (M++X):={`s,λk hk _=>Qn hk}
def aY.get (h:aY p M M')(e:M[k]?=some ds)(n:k≠p):M'[k]?=some ds:=by rw[h.at' k (Qg.mp e).1 n];exact e
def aF.lt (h:aF M p B):p<M.length:=by obtain⟨_,_,_,_,e,_⟩:=h.ex;exact(Qg.mp e).1
def aF.app (h:aF M p B):aF (M++X) p B:=by
 obtain⟨c,cells,a,st,e1,e2,r⟩:=h.ex;exact{c,cells,a,st,by rw[Qn (Qg.mp e1).1];exact e1,by rw[Qn (Qg.mp e2).1];exact e2,r}
def aF.mono (h:aF M p B)(hb:B<=B'):aF M p B':=by
 obtain⟨c,cells,a,st,e1,e2,e3,e4,e5,e6⟩:=h.ex;exact{c,cells,a,st,e1,e2,e3,e4,`a,e6}
def aF.setq (h:aF M p B)(hq:p<q):aF (M.set q ds) p B:=by
 obtain⟨c,cells,a,st,e1,e2,e3,e4,e5,e6⟩:=h.ex;exact{c,cells,a,st,by rw[Qo `a];exact e1,by rw[Qo `a];exact e2,e3,e4,e5,e6}
def aY.setq (h:aY p M M')(hq:M.length<=q):aY p M (M'.set q ds):={by simpa using h.len,λk hk n=>by rw[Qo `a];exact h.at' k hk n}
def AX {a b A B:Int}(h1:0<=a)(h2:a<=A)(h3:0<=b)(h4:b<=B):0<=a*b/\a*b<=A*B:=
 {Int.mul_nonneg h1 h3,Int.mul_le_mul h2 h4 h3 (Int.le_trans h1 h2)}
noncomputable def nS:List Int:=[2147483629,2147483587,2147483579,2147483563,2147483549,2147483543,2147483497,2147483489,2147483477,2147483423,2147483399,2147483353,2147483323]
noncomputable def ji:List D:=nS.map D.int
def AF:∀q∈nS,0<q/\q<2147483648:=`d
def oY (j:Int)(M:Mem):∃q:Int,b7 (.lst ji) (.int (j % 13)) M=some (.int q)/\0<q/\q<2147483648:=by
 have h1:0<=j % 13:=Sm _ `d
 have h2:j % 13<13:=Si _ `d
 generalize j % 13=i at h1 h2;obtain⟨k,rfl⟩:=Int.eq_ofNat_of_zero_le h1;have hk:=Int.ofNat_lt.mp h2;refine{nS[k],?_,AF _ (Sr hk)};show(cw ji.length (k:Int)).bind (λj=>ji[j]?)=_;rw[dD (n:=ji.length) hk];show(nS.map D.int)[k]?=_;rw[QC,Qq hk];rfl
section
variable{P:Nat->Option Df}(h:HasP0 P){M:Mem}
include h
omit h in
theorem f9 {x y:Int}(ha:a Z M=.ok (.int x) M)(hb:b Z M=.ok (.int y) M):av m .add a b Z M=.ok (.int (x+y)) M:=by
 unfold av;rw[ha];show(b Z M).bind _=_;rw[hb];rfl
omit h in
theorem pq {x y:Int}(ha:a Z M=.ok (.int x) M)(hb:b Z M=.ok (.int y) M)(c:(-(2^64)<x/\x<2^64)\/(-(2^64)<y/\y<2^64)):av m .mul a b Z M=.ok (.int (x*y)) M:=by
 unfold av;rw[ha];show(b Z M).bind _=_;rw[hb];exact if_pos c
omit h in
theorem ky {x y:Int}(ha:a Z M=.ok (.int x) M)(hb:b Z M=.ok (.int y) M)(c:0<y):av m .mod a b Z M=.ok (.int (x % y)) M:=by
 unfold av;rw[ha];show(b Z M).bind _=_;rw[hb];exact if_pos c
omit h in
theorem yf {x y:Int}(ha:a Z M=.ok (.int x) M)(hb:b Z M=.ok (.int y) M)(c:0<=y/\y<=1000000)(d:x.natAbs<2^64):av m .pow a b Z M=.ok (.int (x^y.toNat)) M:=by
 unfold av;rw[ha];show(b Z M).bind _=_;rw[hb];exact if_pos ⟨c.1,c.2,d⟩
omit h in
theorem oZ {x q:Int}(hi:Z[i]?.getD none=some (.lst ji))(ha:a Z M=.ok (.int x) M)(e:b7 (.lst ji) (.int (x % 13)) M=some (.int q)):au (aa i) (av false .mod a (gI 13)) Z M=.ok (.int q) M:=by
 unfold au;rw[ay hi];show(av false .mod a _ Z M).bind _=_;rw[ky ha rfl `d];show cu M _=_;rw[e];rfl
theorem Af {x a:Int}(n:Nat)(h0:0<=a)(h1:a<=1000000):ae (ah P (n+1) 28 [.int x,.int a] M) λd M'=>M'=M/\∃v:Int,d=.int v/\0<=v:=by
 refine aN h.law_spread rfl ?_;refine bG rfl (λe=>?_) λe=>?_
 ·exact{rfl,x,rfl,Int.le_trans `d (of_decide_eq_true e)}
 clear e;refine bL (bY rfl) (bL (bY rfl) ?_);obtain⟨q1,e1,p1,p2⟩:=oY a M;obtain⟨q2,e2,p3,_⟩:=oY (a+5) M;obtain⟨q3,e3,p5,_⟩:=oY (a+7) M;have sm:∀{z c:Int},0<=z->z<=c->c<2^64->z.natAbs<2^64:=λz0 zc c0=>`a
 have lt:∀{z c:Int},0<=z->z<=c->c<2^64->-(2^64)<z/\z<2^64:=λz0 zc c0=>`a
 have r1:=Sm x (show(1000000007:Int)≠0 by decide)
 have r2:=Si x (show(0:Int)<1000000007 by decide)
 obtain⟨m1,m2⟩:=AX r1 (Int.le_of_lt r2) (show 0<=2*a+69069 by omega) (show 2*a+69069<=2069069 by omega)
 refine bL (bY (ky (yf (f9 (f9 (pq (ky (ay rfl) rfl `d) (f9 (pq rfl (ay rfl) (.inl `d)) rfl) (.inl (lt r1 (Int.le_of_lt r2) `d))) (pq (ay rfl) rfl (.inl (lt h0 h1 `d)))) rfl) rfl `d (sm (c:=10000000000000000000) `a `a `d)) (oZ rfl (ay rfl) e1) p1)) ?_
 generalize (x % 1000000007*(2*a+69069)+a*40503+977)^(3:Int).toNat=y1;have b1:=Sm y1 (Int.ne_of_gt p1);have b2:=Si y1 p1;generalize y1 % q1=one at b1 b2;have b3:=Int.le_of_lt (Int.lt_trans b2 p2);obtain⟨m3,m4⟩:=AX b1 b3 (show 0<=a+3 by omega) (show a+3<=1000003 by omega)
 refine bL (bY (ky (yf (f9 (f9 (pq (ay rfl) (f9 (ay rfl) rfl) (.inl (lt b1 b3 `d))) (ky (ay rfl) rfl `d)) rfl) rfl `d (sm (c:=10000000000000000000) `a `a `d)) (oZ rfl (f9 (ay rfl) rfl) e2) p3)) ?_
 generalize (one*(a+3)+x % 65537+5)^(5:Int).toNat=y2;have c1:=Sm y2 (Int.ne_of_gt p3);have c2:=Si y2 p3;generalize y2 % q2=two at c1 c2;refine bL (bY (ky (yf (f9 (f9 (ay rfl) (ky (ay rfl) rfl `d)) (ay rfl)) rfl `d (sm (c:=10000000000) `a `a `d)) (oZ rfl (f9 (ay rfl) rfl) e3) p5)) ?_
 generalize (two+one % 1009+a)^(3:Int).toNat=y3;have d1:=Sm y3 (Int.ne_of_gt p5);refine bW (f9 (pq (f9 (pq (ay rfl) rfl (.inr `d)) (ay rfl)) rfl (.inr `d)) (ay rfl)) {rfl,_,rfl,?_}
 exact Int.add_nonneg (Int.mul_nonneg (Int.add_nonneg (Int.mul_nonneg b1 `d) c1) `d) d1
omit h in
theorem Po:cw 3 2=some 2:=rfl
omit h in
theorem qX {l:List Int}{i:Int}(h0:0<=i)(h1:i<l.length):∃x,((cw l.length i).bind λj=>Option.map D.int l[j]?)=some (.int x):=by
 obtain⟨k,rfl⟩:=Int.eq_ofNat_of_zero_le h0;have hk:k<l.length:=`a
 refine{l[k],?_};rw[dD hk];simp[hk]
noncomputable def oU:GS:=#v[aw (.one 4) (av false .mod (au (aa 0) (gI 2)) (aa 1)),eO (aa 0) (gI 2) (av false .fdiv (au (aa 0) (gI 2)) (aa 1)),aP (aa 4)]
noncomputable def wg (c:Call):GS:=#v[eO (aa 0) (gI 1) (av false .add (aa 2) (gI 1)),eO (aa 0) (gI 2) (ai 28 c #[aa 3,aa 2])]
omit h in
theorem Ni {x y:Int}(ha:a Z M=.ok (.int x) M)(hb:b Z M=.ok (.int y) M)(c:0<y/\y<1073741824):av m .fdiv a b Z M=.ok (.int (x / y)) M:=by
 unfold av;rw[ha];show(b Z M).bind _=_;rw[hb];exact if_pos c
omit h in
theorem bE (ha:a Z M=.ok x M)(hb:b Z M=.ok y M)(e:b7 x y M=some d):au a b Z M=.ok d M:=by
 unfold au;rw[ha];show(b Z M).bind _=_;rw[hb];show cu M _=_;rw[e];rfl
omit h in
theorem KZ (e:M[p]?=some [c0,c1,c2]):b7 (.cell p) (.int 0) M=some c0/\b7 (.cell p) (.int 1) M=some c1/\b7 (.cell p) (.int 2) M=some c2:=by
 refine{?_,?_,?_}<;>(show(M[p]?).bind _=_;rw[e];rfl)
omit h in
theorem ue {n:Int}(hd:d Z M=.ok z M')(ha:a Z M'=.ok (.cell p) M')(hb:b Z M'=.ok (.int n) M')(e:M'[p]?=some ds)(hi:cw ds.length n=some i)(h:ae (rest Z (M'.set p (ds.set i z))) kf):ae (aX (eO a b d) rest Z M) kf:=by
 simp only[aD];unfold eO;rw[hd];show ae ((a Z M').bind _) _;rw[ha];show ae ((b Z M').bind _) _;rw[hb];show ae (match M'[p]? with|some ds=>(match cw ds.length n with|some j=>Res.ok (Fl.next Z) (M'.set p (ds.set j z))|none=>.bad)|none=>.bad) _
 rw[e];show ae (match cw ds.length n with|some j=>Res.ok (Fl.next Z) (M'.set p (ds.set j z))|none=>.bad) _
 rw[hi];exact h
omit h in
theorem K0 (ht:t Z M=.ok b M)(h1:b=true->ae (A Z M) (iE rest kf))(h2:b=false->ae (B Z M) (iE rest kf)):ae (aX (aQ t A B) rest Z M) kf:=by
 simp only[aD,gZ];rw[ht];cases b with
 |true=>exact h1 rfl
 |false=>exact h2 rfl
omit h in
theorem rT {cells:List Int}{a st:Int}(e1:M1[p]?=some [.cell c,.int a,.int st])(e2:M1[c]?=some (cells.map D.int))(lt:c<p)(a0:0<=a)(aB:a<=(B+1:Nat))(s0:0<=st)(k:aY p M M1)
 (h0:0<many) (h1:many<=10000000):ae (oU [some (.cell p),some (nD many),x,y,none] M1) (iR λd M'=>∃v:Nat,d=nD v/\v<many/\aF M' p (B+1)/\aY p M M'):=by
 have hp:p<M1.length:=(Qg.mp e1).1;have b0:=Int.ofNat_lt.mpr h0;have r1:=Sm st (Int.ne_of_gt b0);have r2:=Si st b0;refine bL (bY (ky (bE (ay rfl) rfl (KZ e1).2.2) (ay rfl) b0)) (ue (Ni (bE (ay rfl) rfl (KZ e1).2.2) (ay rfl) {b0,`a}) (ay rfl) rfl e1 rfl (bW (ay rfl) ?_))
 obtain⟨v,hv⟩:=Int.eq_ofNat_of_zero_le r1;refine{v,congrArg D.int hv,`a,{c,cells,a,st / many,QS hp,?_,lt,a0,aB,Int.ediv_nonneg s0 (Int.le_of_lt b0)},k.trans aY.set}
 rw[Qo (Rq lt)];exact e2
theorem wx (n:Nat){p B many:Nat}(hp:aF M p B)(hB:B<=1000000)(h0:0<many)(h1:many<=10000000):ae (ah P (n+2) 31 [.cell p,nD many] M) λd M'=>∃v:Nat,d=nD v/\v<many/\aF M' p (B+1)/\aY p M M':=by
 obtain⟨c,cells,a,st,e1,e2,lt,a0,aB,s0⟩:=hp.ex;have hpl:p<M.length:=(Qg.mp e1).1;obtain⟨i0,i1,i2⟩:=KZ e1;refine aN h.law_take rfl ?_;show ae (aX (aQ _ (aX _ (aX _ (aX _ (wg (ah P (n+1)))))) _) oU [some (.cell p),some (nD many),none,none,none] M) _;have mid:∀(x:Int),ae (wg (ah P (n+1)) [some (.cell p),some (nD many),some (.int a),some (.int x),none] M) (iE oU (iR λd M'=>∃v:Nat,d=nD v/\v<many/\aF M' p (B+1)/\aY p M M')):=by
  intro x;refine ue (f9 (ay rfl) rfl) (ay rfl) rfl e1 rfl ?_;obtain⟨_,_,es,rfl,v,rfl,v0⟩:=eJ.mp (Af h n a0 `a)
  refine ue ((aU (ag (ay rfl) (ag (ay rfl) rfl))).trans es) (ay rfl) rfl (QS hpl) rfl ?_;have ne:=Rq lt;exact rT (QS (by rw[List.length_set];exact hpl)) (by rw[Qo ne,Qo ne];exact e2) lt `a `a v0 (aY.set.trans aY.set) h0 h1
 have len:aM .len #[au (aa 0) (gI 0)] [some (.cell p),some (nD many),some (.int a),some (.int 0),none] M=.ok (.int (cells.length:Nat)) M:=by
  refine ak ?_;simp only[b5];rw[ag (bE (ay rfl) rfl i0) rfl,aR];exact pw.mpr {_,e2,by rw[Qf],rfl}
 refine bG (b:=decide (st<(many:Int))) (bV (ak ?_)) (λc1=>?_) λc1=>?_
 ·simp only[eC];rw[bE (ay rfl) rfl i2,aR,ay rfl,aR];exact{_,rfl,rfl,rfl}
 ·refine bL (bY (bE (ay rfl) rfl i1)) (bL (bY rfl) ?_);show ae (aX _ _ [some (.cell p),some (nD many),some (.int a),some (.int 0),none] M) _;have ixx:∀{i:Int}{x:D},((cw cells.length i).bind λj=>Option.map D.int cells[j]?)=some x->b7 (.cell c) (.int i) M=some x:=λ{i x} ex=>by
   show(M[c]?).bind _=_;rw[e2];show((cw (cells.map D.int).length i).bind λj=>(cells.map D.int)[j]?)=_;simp only[Qf,QC];exact ex
  refine K0 (b:=decide (a<(cells.length:Int))) (bV (ak ?_)) (λc2=>?_) λ_=>?_
  ·simp only[eC];rw[ay rfl,aR,len,aR];exact{_,rfl,rfl,rfl}
  ·obtain⟨x,ex⟩:=qX a0 (of_decide_eq_true c2);exact bL (bY (bE (bE (ay rfl) rfl i0) (ay rfl) (ixx ex))) (mid x)
  ·refine bG (b:=decide ((0:Int)<(cells.length:Int))) (bV (ak ?_)) (λc3=>?_) λ_=>mid 0
   ·simp only[eC,dJ];rw[len,aR];exact{_,rfl,rfl,rfl}
   ·have c4:=of_decide_eq_true c3;obtain⟨x,ex⟩:=qX (Sm (a*5+3) (Int.ne_of_gt c4)) (Si _ c4);exact bL (bY (ky (bE (bE (ay rfl) rfl i0) (ky (f9 (pq (ay rfl) rfl (.inr `d)) rfl) len c4) (ixx ex)) (f9 rfl (ay rfl)) (Int.lt_of_lt_of_le `d (Int.le_add_of_nonneg_right a0)))) (mid _)
 ·exact rT e1 e2 lt a0 `a s0 .refl h0 h1
end
noncomputable def a9.withC:a9->Nat->a9
 |.turn a t _,c=>.turn a t c
 |.join a o t _,c=>.join a o t c
 |.move a o _,c=>.move a o c
 |.put a x _,c=>.put a x c
def B2 {w p c:Nat}{d:a9}(h:b9 w p d)(hc:ij c):b9 w p (d.withC c):=by
 cases d with
 |turn=>exact⟨h.1,h.2.1,hc⟩
 |join=>exact⟨h.1,h.2.1,h.2.2.1,hc⟩
 |move=>exact⟨h.1,h.2.1,hc⟩
 |put=>exact⟨h.1,h.2.1,hc⟩
def xC {w p:Nat}{d:a9}(h:b9 w p d):ij d.cost:=by
 cases d with
 |turn=>exact h.2.2
 |join=>exact h.2.2.2
 |move=>exact h.2.2
 |put=>exact h.2.2
def DM {d:a9}{c:Nat}{M:Mem}{k:D->Mem->Prop}(hk:k (d.withC c).d M):ae (gY false d.d .non (.int (-1)) M) λx M=>ae (f6 false .add x (.tup [nD c]) M) k:=by
 cases d<;>(simp[a9.d,gY,aS,cut];exact{`d,hk})
def Cz (n:Nat)(d:a9):aC (n+3) d.d=true:=by
 have tp:∀(n:Nat) (l:List Nat),(l.map nD).all (aC n)=true:=λn l=>by
  rw[QB];intro x hx;obtain⟨i,_,rfl⟩:=Qx.mp hx;cases n<;>rfl
 cases d with
 |turn a t c=>simp[a9.d,aC,aq,nD];decide +kernel
 |join a o t c=>simp[a9.d,aC,nD,aq];decide +kernel
 |move a o c=>simp[a9.d,aC,nD];decide +kernel
 |put a x c=>simp[a9.d,aC,nD];decide +kernel
def ne_nil {M:Mem}{q:Nat}{ds:List a9}(e:M[q]?=some (ds.map a9.d)):bH .ne (.cell q) (.lst []) M=some (!ds.isEmpty):=by
 have hp:(ds.map a9.d).all (aC 63)=true:=by
  rw[QB];intro x hx;obtain⟨d,_,rfl⟩:=Qx.mp hx;exact Cz 60 d
 have hv:view M (.cell q)=.lst (ds.map a9.d):=by simp[view,e]
 have h1:=hp;refine xE (by rw[hv];exact h1) rfl ?_
 rw[hv];cases ds<;>rfl
@[simp] theorem Ku {m:Bool}{x:List D}{j:Int}{M:Mem}{k:D->Mem->Prop}:ae (f6 m .mul (.tup x) (.int j) M) k↔(x.length*j.toNat<=sz/\-(2^63)<=j/\j<2^63)/\k (.tup (List.replicate j.toNat x).flatten) M:=kW
@[simp] theorem Kv {m:Bool}{x:List D}{j:Int}{M:Mem}{k:D->Mem->Prop}:ae (f6 m .mul (.lst x) (.int j) M) k↔(x.length*j.toNat<=sz/\-(2^63)<=j/\j<2^63)/\ae (ba m (List.replicate j.toNat x).flatten M) k:=kW
def Ap {xs:List D}{a:Nat}{M:Mem}{k:D->Mem->Prop}:ae (gY false (.lst xs) .non (.int a) M) k↔(xs.take a).length<=sz/\k (.lst (xs.take a)) M:=by
 have e:cut xs 0 (min a xs.length)=xs.take a:=by
  unfold cut;rcases Nat.le_total a xs.length with h|h
  ·rw[Nat.min_eq_left h];simp
  ·rw[Nat.min_eq_right h];simp[Rv h]
 show ae (match aS xs.length 0 D.non,aS xs.length xs.length (.int a) with|some l,some h=>ba false (cut xs l h) M|_,_=>.bad) k↔_
 have e2:aS xs.length xs.length (.int a)=some (min a xs.length):=by
  show some _=_;rw[if_neg `a];simp
 rw[e2];show ae (ba false (cut xs 0 (min a xs.length)) M) k↔_;rw[e,bI]
def vk {w:Nat}{ge:GE}{Z:Env}{M:Mem}{kl:List D->Mem->Prop}(f:Nat->Nat)(hw:w<=100)(hf:∀k,k<w->ge (some (.int (k:Int))::Z) M=.ok (nD (f k)) M)(hk:kl (((List.range w).map f).map nD) M) :
 ae (c9 (cx (.one 0) (bo ge) (none::Z)) (λ_=>some ((List.range w).map λ(k:Nat)=>D.int (k:Int))) [] M) kl:=by
 refine fc (λd=>match d with|.int i=>nD (f i.toNat)|_=>.non) (ax `o) rfl (λd hd=>?_) ?_
 ·obtain⟨k,hk,rfl⟩:=Qx.mp hd;exact{_,rfl,hf k (RP.mp hk)}
 ·simpa[Function.comp_def] using hk
def wm {w:Nat}{f:Nat->Nat}(hf:∀k,k<w->f k<w):jd w ((List.range w).map f):={`s,λx hx=>by
 obtain⟨k,hk,rfl⟩:=Qx.mp hx;exact hf k (RP.mp hk)}
section
variable{P:Nat->Option Df}(h:HasP0 P){M:Mem}
include h
theorem GF (n:Nat){p B:Nat}(hp:aF M p B):ae (ah P (n+1) 30 [.cell p] M) λd M'=>d=.cell p/\aF M' p B/\aY p M M':=by
 obtain⟨c,cells,a,st,e1,e2,lt,a0,aB,s0⟩:=hp.ex;have ne:=QY lt;have hpl:p<M.length:=(Qg.mp e1).1;refine aN h.law_anew rfl ?_;simp[kF,e1,Po];refine{{c,cells,a,0,by simp[hpl],?_,lt,a0,aB,`a},aY.set}
 rw[Qo (Ru ne)];exact e2
theorem tk (n:Nat){p B many:Nat}{k:D->Mem->Prop}(hp:aF M p B)(hB:B<=1000000)(h0:0<many)(h1:many<=10000000)(hk:∀(v:Nat) (M':Mem),v<many->aF M' p (B+1)->aY p M M'->k (nD v) M'):ae (ah P (n+2) 31 [.cell p,nD many] M) k:=
 aJ (wx h n hp hB h0 h1) λd M' ⟨v,e,hv,hp',hk'⟩=>by subst e;exact hk v M' hv hp' hk'
end
def bd {B c k m:Nat}(h:B<=c)(e:c+k<=m):B+k<=m:=Qp (Nat.add_le_add_right h k) e
def yB {B k m:Nat}(e:k<=m):B+k<=B+m:=Nat.add_le_add_left e B
def M8 {xs:List D}{v:Nat}{M:Mem}(h:v<xs.length):b7 (.lst xs) (nD v) M=some xs[v]:=by
 show(cw xs.length (v:Int)).bind (λj=>xs[j]?)=_;rw[dD h];simp[h]
def yy {Z:Env}{M:Mem}{j v c:Nat}(h:Z[j]?.getD none=some (nD v)):(aj (aA .lt (aa j) (gC (.int (c:Int)))):GT) Z M=.ok (decide (v<c)) M:=by
 refine dF ?_;simp only[gV,eC,bw,dJ];refine{_,h,_,rfl,_,rfl,?_,trivial};simp
def gA {Z:Env}{M:Mem}{j v c:Nat}(h:Z[j]?.getD none=some (nD v)):(aj (aA .eq (aa j) (gC (.int (c:Int)))):GT) Z M=.ok ((v:Int)==(c:Int)) M:=by
 refine dF ?_;simp only[gV,eC,bw,dJ];exact{_,h,_,rfl,_,rfl,rfl,trivial}
def Nd {Z:Env}{M:Mem}{j v c:Nat}(h:Z[j]?.getD none=some (nD v)):(aj (aA .gt (aa j) (gC (.int (c:Int)))):GT) Z M=.ok (decide ((c:Int)<(v:Int))) M:=by
 refine dF ?_;simp only[gV,eC,bw,dJ];exact{_,h,_,rfl,_,rfl,rfl,trivial}
section
variable{Z:Env}{M:Mem}{g a:GE}{rest:GS}{kf:Fl->Mem->Prop}
section
variable{P:Nat->Option Df}(hp_:HasP0 P)(n:Nat){i j p B many:Nat}(hj:Z[j]?.getD none=some (.cell p))(hg:g Z M=.ok (nD many) M)(hp:aF M p B)(hB:B<=1000000)(h0:0<many)(h1:many<=10000000)
include hp_ hj hg hp hB h0 h1
theorem eL:ae (ai 31 (ah P (n+2)) #[aa j,g] Z M) λd M'=>∃v:Nat,d=nD v/\v<many/\aF M' p (B+1)/\aY p M M':=by
 rw[aU (ag (ay hj) (ag hg rfl))];exact wx hp_ n hp hB h0 h1
theorem dZ (hk:∀(v:Nat) (M':Mem),v<many->aF M' p (B+1)->aY p M M'->ae (rest (Z.set i (some (nD v))) M') kf):ae (aX (aw (.one i) (ai 31 (ah P (n+2)) #[aa j,g])) rest Z M) kf:=by
 refine cF (eL hp_ n hj hg hp hB h0 h1) ?_;rintro x M' ⟨v,rfl,a,b,c⟩;exact hk v M' a b c
theorem Dy {xs:List D}(hl:a Z M=.ok (.lst xs) M)(hz:xs.length=many):ae (au a (ai 31 (ah P (n+2)) #[aa j,g]) Z M) λd M'=>d∈xs/\aF M' p (B+1)/\aY p M M':=by
 unfold au;rw[hl,bf,aR,bf];refine aJ (eL hp_ n hj hg hp hB h0 h1) ?_;rintro x M' ⟨v,rfl,a,b,c⟩;rw[M8 `a]
 exact{Sr _,b,c}
end
end
section
variable{Z:Env}{M:Mem}{k:D->Mem->Prop}
def jy {e:GE}{K:Fl->Mem->Prop}(h:ae (e Z M) λx M=>K (.ret x) M):ae (#v[aP e] Z M) K:=by
 simp only[aD,cH];exact h
def AZ {e:GE}{j v w:Nat}(he:e Z M=.ok (nD v) M)(hj:Z[j]?.getD none=some (nD w))(hw:0<w):av false .mod e (aa j) Z M=.ok (nD (v % w)) M:=by
 unfold av;rw[he];show(aa j Z M).bind _=_;rw[ay hj];show(if (0:Int)<(w:Int) then Res.ok (D.int ((v:Int) % (w:Int))) M else .bad)=_;rw[if_pos `a]
 rfl
def rL {e f:GE}{v w:Nat}(he:e Z M=.ok (nD v) M)(hf:f Z M=.ok (nD w) M):av false .add e f Z M=.ok (nD (v+w)) M:=by
 unfold av;rw[he];show(f Z M).bind _=_;rw[hf];rfl
def Ji {e:GE}{v c:Nat}(he:e Z M=.ok (nD v) M)(hc:c<=v):av false .sub e (gC (.int (c:Int))) Z M=.ok (nD (v-c)) M:=by
 unfold av;rw[he];show Res.ok (D.int ((v:Int)-(c:Int))) M=_;rw[<- Int.ofNat_sub hc]
end
section
variable{P:Nat->Option Df}(h:HasP P){M:Mem}
include h
theorem Ae (n:Nat){p B w:Nat}(hp:aF M p B)(hB:B<=900000)(w2:2<=w)(w4:w<=4):ae (ah P (n+3) 32 [.cell p,nD w] M) λd M'=>∃t,d=aq t/\jd w t/\aF M' p (B+7)/\aY p M M':=by
 have w0:0<w:=QN `d w2
 have wM:w<=10000000:=Qp w4 (QM rfl);refine aN h.law_tab rfl ?_;show ae (jb (ah P (n+2)) [some (.cell p),some (nD w),none,none,none,none] M) _;unfold jb;refine dZ h n rfl rfl hp (Qp hB `d) `d `d λkind M1 hk p1 k1=>?_
 refine dZ h n rfl rfl p1 (bd hB `d) w0 wM λword M2 hw p2 k2=>?_
 refine dZ h n rfl rfl p2 (bd (k:=2) hB `d) w0 wM λother M3 ho p3 k3=>?_
 have K3:=(k1.trans k2).trans k3;have fin:∀(l:List Nat) (M':Mem),jd w l->aF M' p (B+7)->aY p M M'->(l.map nD).length<=sz/\∃t,D.tup (l.map nD)=aq t/\jd w t/\aF M' p (B+7)/\aY p M M':=λl M' hl hp' hk'=>{ax (by rw[Qf,hl.1];omega),l,rfl,hl,hp',hk'}
 have p7:aF M3 p (B+7):=p3.mono (yB (k:=3) `d)
 show ae (aX _ _ [some (.cell p),some (nD w),some (nD kind),some (nD word),some (nD other),none] M3) _;refine bG (yy rfl) (λ_=>?_) λ_=>?_
 ·simp only[aD,cH,b5,bX,cb,dG,fG,bw];refine{_,rfl,_,rfl,{`a,`a},?_}
  refine comp_map (λi acc M'=>∃t:List Nat,acc=t.map nD/\(∀x∈t,x<w)/\aF M' p (B+3+i)/\aY p M M') (ax `o) (λ_ _ _ _=>rfl) {[],rfl,(λ_ hx=>nomatch hx),p3,K3} ?_ ?_
  ·rintro i d acc M' hd _ ⟨t,rfl,ht,hp',hk'⟩;have hi:i<w:=by
    have:=(Qg.mp hd).1;simpa using this
   refine{_,rfl,aJ (eL h n rfl rfl hp' `a w0 wM) ?_}
   rintro _ M4 ⟨v,rfl,hv,p4,k4⟩;refine{t++[v],by rw[QF];rfl,λx hx=>?_,p4,hk'.trans k4}
   rcases QL.mp hx with z|z
   ·exact ht x z
   ·rw[Qw.mp z];exact hv
  ·rintro acc M' hl ⟨t,rfl,ht,hp',hk'⟩;simp only[Qf,Rt] at hl hp';exact bI.mpr (fin t M' ⟨hl,ht⟩ (hp'.mono `a) hk')
 refine bG (gA rfl) (λ_=>?_) λ_=>?_
 ·simp only[aD,cH,b5,bX,cb,dG,fG,bw];refine{_,rfl,_,rfl,{`a,`a},?_}
  exact vk (λk=>(k+1+word) % w) `a (λk hk=>AZ (rL (rL (ay rfl) rfl) (ay rfl)) rfl w0) (bI.mpr (fin _ M3 (wm λk _=>Nat.mod_lt _ w0) p7 K3))
 refine bG (gA rfl) (λ_=>?_) λ_=>?_
 ·simp only[aD,cH,b5,bX,cb,dG,fG,bw];refine{_,rfl,_,rfl,{`a,`a},?_}
  refine vk (λk=>if k=word then other else k) `a (λk hk=>?_) (bI.mpr (fin _ M3 (wm λk hk=>by split<;>assumption) p7 K3))
  have e:(aj (aA .eq (aa 0) (aa 4)):GT) [some (.int (k:Int)),some (.cell p),some (nD w),some (nD kind),some (nD word),some (nD other),none] M3=.ok ((k:Int)==(word:Int)) M3:=rfl;by_cases ck:k=word
  ·rw[if_pos ck];exact jn (k:=true) (e.trans (by rw[ck,beq_self_eq_true])) (λ_=>rfl) (λz=>nomatch z)
  ·rw[if_neg ck];exact jn (k:=false) (e.trans (by rw[R1.mpr `a])) (λz=>nomatch z) (λ_=>rfl)
 refine bG (gA rfl) (λ_=>jy ?_) λ_=>?_
 ·simp only[j9,i9,bX,cb,bw];refine{_,rfl,ax (n:=1) `d,_,rfl,Ku.mpr {{ax `o,`a,`a},List.replicate w word,?_,{List.length_replicate,λx hx=>by rw[List.eq_of_mem_replicate hx];exact hw},p7,K3}}
  simp[aq,nD]
 ·simp only[aD,mJ,HK,bw,kL,cH,b5,bX,cb,bx];simp;refine{`a,ax `a,word,dD hw,other,dD ho,((List.range w).set word other).set other word,?_,{`s,λx hx=>?_},p7.app,K3.trans aY.app}
  ·simp[aq,nD,List.map_set]
  ·rcases List.mem_or_eq_of_mem_set hx with z|rfl
   ·rcases List.mem_or_eq_of_mem_set z with y|rfl
    ·exact RP.mp y
    ·exact ho
   ·exact hw
theorem CI (n:Nat){p B w pl:Nat}(hp:aF M p B)(hB:B<=800000)(w2:2<=w)(w4:w<=4)(p1:1<=pl)(p2:pl<=2):ae (ah P (n+4) 33 [.cell p,nD w,nD pl] M) λd M'=>∃e:a9,d=e.d/\b9 w pl e/\aF M' p (B+40)/\aY p M M':=by
 have pM:pl<=10000000:=Qp p2 (QM rfl);refine aN h.law_deed rfl ?_;show ae (iI (ah P (n+3)) [some (.cell p),some (nD w),some (nD pl),none,none,none,none] M) _;unfold iI;refine dZ h (n+1) rfl rfl hp (Qp hB `d) `d `d λkind M1 hk q1 k1=>?_
 refine cF (k:=λd M'=>∃v:Nat,d=nD (1+v)/\v<3/\aF M' p (B+2)/\aY p M1 M') ?_ ?_
 ·rw[j9];simp only[dJ];refine aJ (eL h (n+1) rfl rfl q1 (bd hB `d) `d `d) ?_
  rintro _ M2 ⟨v,rfl,hv,q,kk⟩;exact vP.mpr {v,by show D.int (1+(v:Int))=D.int ((1+v:Nat):Int);rw[Int.natCast_add];rfl,hv,q,kk}
 rintro _ M2 ⟨price,rfl,hc,q2,k2⟩;refine dZ h (n+1) rfl rfl q2 (bd hB `d) p1 pM λat_ M3 ha q3 k3=>?_
 refine dZ h (n+1) rfl rfl q3 (bd (k:=3) hB `d) p1 pM λother M4 ho q4 k4=>?_
 have K4:=((k1.trans k2).trans k3).trans k4;have co:ij (1+price):={`a,`a}
 have q40:aF M4 p (B+40):=q4.mono (yB (k:=4) `d)
 show ae (aX _ _ [some (.cell p),some (nD w),some (nD pl),some (nD kind),some (nD (1+price)),some (nD at_),some (nD other)] M4) _;refine bG (yy rfl) (λ_=>jy ?_) λ_=>?_
 ·simp only[i9,bX,cb,dJ,bw,u5];refine{_,rfl,_,rfl,_,rfl,aJ (Ae h n q4 (bd (k:=4) hB `d) w2 w4) λd M' ⟨t,e,ht,hp',hk'⟩=>{_,rfl,ax (n:=4) `d,.turn at_ t (1+price),?_,⟨ha,ht,co⟩,hp'.mono (yB (k:=11) `d),K4.trans hk'}}
  subst e;rfl
 refine bG (yy rfl) (λ_=>jy ?_) λ_=>?_
 ·obtain⟨o,eo,ho'⟩:∃o:Nat,gG (aj (aA .eq (aa 3) (gI 3))) (av false .mod (av false .add (aa 5) (gI 1)) (aa 2)) (aa 6) [some (.cell p),some (nD w),some (nD pl),some (nD kind),some (nD (1+price)),some (nD at_),some (nD other)] M4=.ok (nD o) M4/\o<pl:=by
   have e:(aj (aA .eq (aa 3) (gI 3)):GT) [some (.cell p),some (nD w),some (nD pl),some (nD kind),some (nD (1+price)),some (nD at_),some (nD other)] M4=.ok ((kind:Int)==3) M4:=gA rfl;cases q:(kind:Int)==3 with
   |true=>rw[q] at e;exact{(at_+1) % pl,jn e (λ_=>AZ (rL (ay rfl) rfl) rfl p1) (λz=>nomatch z),Nat.mod_lt _ p1}
   |false=>rw[q] at e;exact{other,jn e (λz=>nomatch z) (λ_=>ay rfl),ho}
  simp only[i9,bX,cb,dJ,bw];refine{_,rfl,?_};rw[eo,aR];exact{_,rfl,ax (n:=4) `d,.move at_ o (1+price),rfl,⟨ha,ho',co⟩,q40,K4}
 refine bG (gA rfl) (λ_=>jy ?_) λ_=>?_
 ·simp only[i9,bX,cb,dJ];show ae (ah P (n+3) 31 [.cell p,nD w] M4) _;refine tk h (n+1) q4 (bd (k:=4) hB `d) (QN `d w2) (Qp w4 (QM rfl)) λv M5 hv q5 k5=>?_
  exact{ax (n:=4) `d,.put at_ v (1+price),rfl,⟨ha,hv,co⟩,q5.mono (yB (k:=5) `d),K4.trans k5}
 ·simp only[aD,cH,i9,bX,cb,dJ,b5,dG,fG,bw];refine{_,rfl,_,rfl,_,rfl,_,rfl,{`a,`a},?_}
  refine comp_map (λi acc M'=>∃t:List (List Nat),acc=t.map aq/\(∀x∈t,jd w x)/\aF M' p (B+4+i*7)/\aY p M M') (ax `o) (λ_ _ _ _=>rfl) {[],rfl,(λ_ hx=>nomatch hx),q4,K4} ?_ ?_
  ·rintro i d acc M' hd _ ⟨t,rfl,ht,hp',hk'⟩;have hi:i<w:=by
    have:=(Qg.mp hd).1;simpa using this
   refine{_,rfl,?_};rw[aU (ag (ay rfl) (ag (ay rfl) rfl))];refine aJ (Ae h n hp' `a w2 w4) ?_
   rintro _ M4 ⟨v,rfl,hv,p4,k4⟩;refine{t++[v],by rw[QF];rfl,λx hx=>?_,p4.mono `a,hk'.trans k4}
   rcases QL.mp hx with z|z
   ·exact ht x z
   ·rw[Qw.mp z];exact hv
  ·rintro acc M' hl ⟨t,rfl,ht,hp',hk'⟩;simp only[Qf,Rt] at hl hp';exact bI.mpr {ax (by rw[Qf];omega),_,rfl,ax (n:=5) `d,.join at_ other t (1+price),rfl,{ha,ho,⟨hl,ht⟩,co},hp'.mono `a,hk'}
theorem xW (n:Nat){p B W Pl mo:Nat}(hp:aF M p B)(hB:B<=700000)(W2:2<=W)(W4:W<=4)(P1:1<=Pl)(P2:Pl<=2)(m1:1<=mo)(m6:mo<=6):ae (ah P (n+5) 34 [.cell p,nD W,nD Pl,nD mo] M) λd M'=>∃m:aO,d=m.d/\aI m/\m.words<=W/\m.places<=Pl/\m.deeds.length<=mo/\aF M' p (B+300)/\aY p M M':=by
 refine aN h.law_machine rfl ?_;show ae (fU (ah P (n+4)) [some (.cell p),some (nD W),some (nD Pl),some (nD mo),none,none,none,none] M) _;unfold fU;have plus:∀{Z:Env}{M:Mem}{g:GE}{B c many:Nat}{rest:GS}{K:Fl->Mem->Prop}{i:Nat},Z[0]?.getD none=some (.cell p)->g Z M=.ok (nD many) M->aF M p B->B<=1000000->0<many->many<=10000000->(∀(v:Nat) (M':Mem),v<many->aF M' p (B+1)->aY p M M'->ae (rest (Z.set i (some (nD (c+v)))) M') K)->ae (aX (aw (.one i) (av false .add (gC (.int (c:Int))) (ai 31 (ah P (n+4)) #[aa 0,g]))) rest Z M) K:=by
  intro Z M g B c many rest K i e0 eg hp hB h0 h1 hk;refine cF (k:=λd M'=>∃v:Nat,d=nD (c+v)/\v<many/\aF M' p (B+1)/\aY p M M') ?_ ?_
  ·rw[j9];simp only[dJ];refine aJ (eL h (n+2) e0 eg hp hB h0 h1) ?_;rintro _ M2 ⟨v,rfl,hv,q,kk⟩;exact vP.mpr {v,by show D.int ((c:Int)+(v:Int))=D.int ((c+v:Nat):Int);rw[Int.natCast_add],hv,q,kk}
  ·rintro _ M' ⟨v,rfl,a,b,c⟩;exact hk v M' a b c
 refine plus rfl (Ji (c:=1) (ay rfl) `a) hp (Qp hB `d) `a `a λw M1 hw q1 k1=>?_
 refine plus rfl (ay rfl) q1 (bd hB `d) P1 (Qp P2 (QM rfl)) λpl M2 hpl q2 k2=>?_
 have pl2:=q2.lt;have K2:=k1.trans k2;have ML:=K2.len;have w2:2<=2+w:=Sh _ _;have w4:2+w<=4:=`a
 have l1:1<=1+pl:=Sh _ _;have l2:1+pl<=2:=`a
 generalize hW:2+w=w' at w2 w4;generalize hP:1+pl=p' at l1 l2;refine cF (k:=λd M'=>d=.cell M2.length/\M'=M2++[[]]) ?_ ?_
 ·simp only[tq,cb];exact jj.mpr {RC _,rfl,rfl}
 rintro _ _ ⟨rfl,rfl⟩;show ae (aX _ _ [some (.cell p),some (nD w'),some (nD p'),some (nD mo),some (.cell M2.length),none,none,none] (M2++[[]])) _;simp only[aD,eW,fG,j9,dJ];refine aJ (eL h (n+2) rfl rfl q2.app (bd (k:=2) hB `d) m1 (Qp m6 (QM rfl))) ?_
 rintro _ M3 ⟨many,rfl,hmany,q3,k3⟩;have e3:=k3.get (List.getElem?_concat_length) `a
 have K3:=K2.trans (aY.app.trans k3);generalize hq:M2.length=q at *;refine vP.mpr {_,rfl,{`a,`a},?_}
 rw[show(1+(many:Int)).toNat=1+many by omega]
 refine eY (λi Z M'=>∃ds:List a9,M'[q]?=some (ds.map a9.d)/\ds.length=i/\(∀d∈ds,b9 w' p' d)/\aF M' p (B+3+i*45)/\aY p M M'/\∃a b c,Z=[some (.cell p),some (nD w'),some (nD p'),some (nD mo),some (.cell q),a,b,c])
  (λ_ _ _ _=>rfl) {[],e3,rfl,(λ_ hd=>nomatch hd),q3,K3,none,none,none,rfl} ?_ ?_
 ·rintro i d Z M' hd ⟨ds,e4,hl,hds,q4,K4,a,b,c,rfl⟩;have hi:i<1+many:=by
   have:=(Qg.mp hd).1;simpa using this
  have hi6:i<=5:=`a
  have hB4:B+3+i*45<=700228:=`a
  have hqM:=ML;have hpq:=pl2;refine{_,rfl,?_};refine dZ h (n+2) rfl rfl q4 (Qp hB4 `d) `d `d λagain M5 ha q5 k5=>?_
  have e5:=k5.get e4 (Rq hpq);refine cF (k:=λd M'=>∃e:a9,d=e.d/\b9 w' p' e/\aF M' p (B+3+i*45+41)/\aY p M5 M') ?_ ?_
  ·rw[aU (ag (ay rfl) (ag (ay rfl) (ag (ay rfl) rfl)))];exact aJ (CI h n q5 (bd hB4 `d) w2 w4 l1 l2) λd M' ⟨e,a,b,c,d⟩=>⟨e,a,b,c,d⟩
  rintro _ M6 ⟨e,rfl,he,q6,k6⟩;have e6:=k6.get e5 (Rq hpq);have K6:=(K4.trans k5).trans k6;have hsm:(ds.map a9.d).length<sz:=RO (show(ds.map a9.d).length<=50 by rw[Qf,hl];omega) `d
  have fin:∀(e:a9) (M'':Mem) (x5 x6:Option D),b9 w' p' e->M''[q]?=some (ds.map a9.d)->aF M'' p (B+3+(i+1)*45)->aY p M M''->
   ae (#v[dS (aa 4) (aa 7)] [some (.cell p),some (nD w'),some (nD p'),some (nD mo),some (.cell q),x5,x6,some e.d] M'') λfl M'=>∃ρ',fl=.next ρ'/\∃ds:List a9,M'[q]?=some (ds.map a9.d)/\ds.length=i+1/\(∀d∈ds,b9 w' p' d)/\aF M' p (B+3+(i+1)*45)/\aY p M M'/\∃a b c,ρ'=[some (.cell p),some (nD w'),some (nD p'),some (nD mo),some (.cell q),a,b,c]:=by
   intro e M'' x5 x6 he e7 q7 K7;simp only[aD,Jw,bw];refine{_,rfl,_,rfl,q,ds.map a9.d,rfl,e7,hsm,_,rfl,ds++[e],?_,by rw[QO,hl];rfl,λd hd=>?_,q7.setq hpq,K7.setq hqM,_,_,_,rfl}
   ·rw[QS (Qg.mp e7).1,QF];rfl
   ·rcases QL.mp hd with z|z
    ·exact hds d z
    ·rw[Qw.mp z];exact he
  show ae (aX _ _ [some (.cell p),some (nD w'),some (nD p'),some (nD mo),some (.cell q),some d,some (nD again),some e.d] M6) _;have en:(aj (aA .ne (aa 4) (bu false bj)):GT) [some (.cell p),some (nD w'),some (nD p'),some (nD mo),some (.cell q),some d,some (nD again),some e.d] M6=.ok (!ds.isEmpty) M6:=by
   refine bV ?_;unfold aA;show(cu M6 (bH .ne (.cell q) (.lst []) M6)).bind _=_;rw[ne_nil e6];rfl
  refine bG (rJ (gA rfl) en) (λcc=>?_) λ_=>fin e M6 _ _ he e6 (q6.mono `a) K6
  have hpos:0<ds.length:=by
   rw[Qr] at cc;cases ds with
   |nil=>exact absurd cc.2 `d
   |cons _ _=>exact Nat.succ_pos _
  simp only[aD,mJ,j9,oh,fA,i9,bX,cb,tm,dJ];have el:aM .len #[aa 4] [some (.cell p),some (nD w'),some (nD p'),some (nD mo),some (.cell q),some d,some (nD again),some e.d] M6=.ok (nD ds.length) M6:=by
   refine ak ?_;simp only[b5,bX,cb,bw];exact{_,rfl,pw.mpr {_,e6,by rw[Qf],rfl}}
  show ae (ai 31 (ah P (n+4)) #[aa 0,aM .len #[aa 4]] [some (.cell p),some (nD w'),some (nD p'),some (nD mo),some (.cell q),some d,some (nD again),some e.d] M6) _;refine aJ (eL h (n+2) rfl el q6 (bd hB4 `d) hpos `a) ?_
  rintro _ M7 ⟨v,rfl,hv,q7,k7⟩;have e7:=k7.get e6 (Rq hpq);refine{(ds.getD v e).d,?_,1,rfl,rfl,rfl,?_}
  ·show(M7[q]?).bind (λds=>(cw ds.length (v:Int)).bind λj=>ds[j]?)=_;rw[e7];show(cw (ds.map a9.d).length (v:Int)).bind (λj=>(ds.map a9.d)[j]?)=_;rw[dD (by rw[Qf];exact hv)]
   simp[Rj,hv]
  ·refine aJ (DM ?_) λx1 M3 hx=>{1,rfl,nD e.cost,mU,ax (n:=1) `d,hx}
   exact fin _ M7 _ _ (B2 (hds _ (getD_mem hv)) (xC he)) e7 (q7.mono `a) (K6.trans k7)
 ·rintro Z M' ⟨ds,e4,hl,hds,q4,K4,a,b,c,rfl⟩;simp only[Qf,Rt] at hl q4;refine jy ?_;simp only[i9,bX,cb,b5,bw];refine{_,rfl,_,rfl,_,rfl,pU.mpr {_,e4,ax (n:=3) `d,⟨w',p',ds⟩,rfl,{w2,w4,l1,l2,?_,?_,hds},?_,?_,?_,q4.mono `a,K4}}
  ·show 1<=ds.length;omega
  ·show ds.length<=6;omega
  ·show w'<=W;omega
  ·show p'<=Pl;omega
  ·show ds.length<=mo;omega
omit h in
theorem Hw {g:GE}{Z:Env}{l:List a9}(e:g Z M=.ok (.tup (l.map a9.d)) M):aM .len #[g] Z M=.ok (nD l.length) M:=by
 refine ak ?_;simp only[b5];rw[ag e rfl,aR];exact{congrArg (λ(n:Nat)=>D.int n) (Qf _),rfl}
theorem Gp (h35:P 35=some {3,6,fT})(n:Nat){p B mo:Nat}{m:aO}(hm:aI m)(hp:aF M p B)(hB:B<=700000)(hmo:mo<=40):ae (ah P (n+3) 35 [.cell p,m.d,nD mo] M) λd M'=>∃r:List Nat,d=.lst (r.map nD)/\NY m r/\r.length<=mo/\aF M' p (B+50)/\aY p M M':=by
 refine aN h35 rfl ?_;show ae (fT (ah P (n+2)) [some (.cell p),some m.d,some (nD mo),none,none,none] M) _;unfold fT;refine dZ h n rfl rfl hp `a `d `d λkind M1 _ q1 k1=>?_
 refine cF (k:=λd M'=>∃v:Nat,d=nD v/\v<=mo/\aF M' p (B+2)/\aY p M M') ?_ ?_
 ·show ae (gG _ _ _ [some (.cell p),some m.d,some (nD mo),some (nD kind),none,none] M1) _;have t0:(aj (aA .eq (aa 3) (gI 0)):GT) [some (.cell p),some m.d,some (nD mo),some (nD kind),none,none] M1=.ok ((kind:Int)==((0:Nat):Int)) M1:=gA rfl;rw[Ft,t0,aR];split
  ·exact{mo,rfl,Ql _,q1.mono `a,k1}
  ·refine aJ (eL h n (many:=mo+1) rfl rfl q1 `a (Nat.succ_pos _) `a) λd M' ⟨v,e,hv,a,b⟩=>{v,e,Nat.le_of_lt_succ hv,a,k1.trans b}
 intro x M2 hx;show ae (aX _ _ [some (.cell p),some m.d,some (nD mo),some (nD kind),some x,none] M2) _;obtain⟨many,ex,hmany,q2,k2⟩:=hx;rw[ex];clear ex;simp only[aD,mJ,dG,fG,bw];have m40:=Qp hmany hmo;refine{_,rfl,_,rfl,{Int.le_trans `d (Int.natCast_nonneg _),Int.lt_of_le_of_lt (Int.ofNat_le.mpr m40) `d},?_}
 rw[RF];refine comp_map (λi acc M'=>∃t:List Nat,acc=t.map nD/\(∀x∈t,x<m.deeds.length)/\aF M' p (B+2+i)/\aY p M M') (ax (by rw[Qf,Rt];omega)) (λ_ _ _ _=>rfl) {[],rfl,(λ_ z=>nomatch z),q2,k2} ?_ ?_
 ·rintro i d acc M' hd _ ⟨t,rfl,ht,hp',hk'⟩;have hi:i<many:=by
   have:=(Qg.mp hd).1
   rwa [Qf,Rt] at this
  refine{_,rfl,?_};refine aJ (eL h n rfl (Hw (bE (ay rfl) rfl Oh)) hp' `a hm.d1 (by have:=hm.d6;omega)) ?_
  rintro _ M4 ⟨v,rfl,hv,p4,k4⟩;refine{t++[v],by rw[QF];rfl,λx hx=>?_,p4,hk'.trans k4}
  rcases QL.mp hx with z|z
  ·exact ht x z
  ·rw[Qw.mp z];exact hv
 ·rintro acc M' hl ⟨t,rfl,ht,hp',hk'⟩;rw[Qf,Qf,Rt] at hl;rw[Qf,Rt] at hp';have q3:=hp'.mono (show B+2+many<=B+50 by omega)
  have k3:=hk';have hl:=Nat.le_of_eq hl;refine bI.mpr {ax (by rw[Qf];omega),?_}
  show ae (aX _ _ [some (.cell p),some m.d,some (nD mo),some (nD kind),some (nD many),some (.lst (t.map nD))] M') _;refine bG (gA rfl) (λ_=>?_) λ_=>bW (ay rfl) {t,rfl,{`a,ht},`a,q3,k3}
  refine cF (k:=λd M4=>M4=M'/\d=.lst ((((List.replicate many (t.take 2)).flatten).take many).map nD)) ?_ ?_
  ·have l2:((t.map nD).take 2).length<=2:=by rw[RX];exact Nat.min_le_left _ _
   simp only[oh,j9,bw,dJ];refine{_,rfl,rfl,rfl,(Ap (a:=2)).mpr {ax `a,_,rfl,Kv.mpr {{?_,`a,`a},bI.mpr {?_,?_}}}}
   ·exact Qp (Nat.mul_le_mul l2 (show many<=40 by omega)) `d
   ·rw[RF,List.length_flatten,List.map_replicate,List.sum_replicate_nat];exact Qp (Nat.mul_le_mul (show many<=40 by omega) l2) `d
   ·refine{_,rfl,rfl,rfl,Ap.mpr {ax (by rw[RX];exact Qp (Nat.min_le_left _ _) `a),rfl,?_}}
    rw[RF,List.map_take,List.map_flatten,List.map_replicate,List.map_take]
  rintro _ _ ⟨rfl,rfl⟩;have lm:(((List.replicate many (t.take 2)).flatten).take many).length<=many:=by rw[RX];exact Nat.min_le_left _ _
  refine Jt.mpr (bx.mpr (bW (ay rfl) {_,rfl,{`a,λi hi=>?_},`a,q3,k3}))
  obtain⟨l,hl1,hl2⟩:=List.mem_flatten.mp (RW hi);rw[(List.mem_replicate.mp hl1).2] at hl2;exact ht i (RW hl2)
end
def GH {a b:Nat}:ae (gY false (.frz xs) (.int a) (.int b) M) k↔(cut xs (min a xs.length) (min b xs.length)).length<=sz/\k (.lst (cut xs (min a xs.length) (min b xs.length))) M:=by
 show ae (match aS xs.length 0 (.int a),aS xs.length xs.length (.int b) with|some l,some h=>ba false (cut xs l h) M|_,_=>.bad) k↔_
 have e1:aS xs.length 0 (.int a)=some (min a xs.length):=by
  show some _=_;rw[if_neg `a];simp
 have e2:aS xs.length xs.length (.int b)=some (min b xs.length):=by
  show some _=_;rw[if_neg `a];simp
 rw[e1,e2];exact bI
def CK {b:Nat}:ae (gY false (.frz xs) .non (.int b) M) k↔(cut xs 0 (min b xs.length)).length<=sz/\k (.lst (cut xs 0 (min b xs.length))) M:=by
 show ae (match aS xs.length 0 D.non,aS xs.length xs.length (.int b) with|some l,some h=>ba false (cut xs l h) M|_,_=>.bad) k↔_
 have e2:aS xs.length xs.length (.int b)=some (min b xs.length):=by
  show some _=_;rw[if_neg `a];simp
 rw[e2];exact bI
def xB {α β:Type}(f:α->β)(l:List α)(a b:Nat):cut (l.map f) a b=(cut l a b).map f:=by simp[cut,List.map_take,List.map_drop]
def rA {α:Type}(l:List α)(a b:Nat):(cut l a b).length<=l.length:=by simp[cut];omega
section
variable{P:Nat->Option Df}(h:HasP0 P){M:Mem}
include h
theorem Gr (n:Nat){ns:List Int}(hn:ns.length<=63):ae (ah P (n+1) 29 [.frz (ns.map D.int)] []) λd M'=>d=.cell 1/\aF M' 1 0:=by
 refine aN h.law_open rfl ?_;simp[kD,cK];refine(CK).mpr {?_,?_}
 ·exact ax (Qp (rA _ _ _) `o)
 simp only[Dg,jj];refine{ax (Qp (rA _ _ _) `o),(GH).mpr {ax (Qp (rA _ _ _) `o),rfl,?_}}
 rw[xB,xB];simp only[Qf,List.length_nil,SK];have e63:min 63 ns.length=ns.length:=`a
 rw[e63];refine eY (λi Z M'=>∃l:List Int,M'=[l.map D.int]/\l.length=min 12 ns.length/\∃a b,Z=[some (.frz (ns.map D.int)),some (.cell 0),a,b]) (λ_ _ _ _=>rfl) {cut ns 0 (min 12 ns.length),rfl,by simp[cut],none,none,rfl} ?_ ?_
 ·rintro i d Z M' hd ⟨l,rfl,hl,a,b,rfl⟩;rw[ng,QC] at hd;cases e:(cut ns (min 12 ns.length) ns.length)[i]? with
  |none=>rw[e] at hd;cases hd
  | some x =>
    rw[e] at hd;have hd:=Qv hd;subst hd;have hi:=(Qg.mp e).1;have hlen:12<ns.length:=by
     by_cases c:12<ns.length
     ·exact c
     ·have:min 12 ns.length=ns.length:=`a
      rw[this] at hi;simp[cut] at hi
    have l12:l.length=12:=`a
    have r1:=Sm (i:Int) (show(12:Int)≠0 by decide)
    have r2:=Si (i:Int) (show(0:Int)<12 by decide)
    obtain⟨y,ey⟩:=qX r1 (by rw[l12];exact r2)
    obtain⟨k,ek⟩:∃k:Nat,(i:Int) % 12=(k:Int):={((i:Int) % 12).toNat,`a}
    refine{_,rfl,?_};simp;rw[ek] at ey ⊢;have hk:k<l.length:=`a
    refine{_,ey,?_};refine{l.map D.int,rfl,k,?_,l.set k (y+x),?_,by simp[hl]}
    ·simpa using dD hk
    ·simp[List.map_set]
 ·rintro Z M' ⟨l,rfl,hl,a,b,rfl⟩;simp;exact{`d,{0,l,0,0,rfl,rfl,`d,`d,`d,`d}}
end
abbrev aE:=List (List Nat)
noncomputable def bD (b:aE):D:=.tup (b.map aq)
noncomputable def aW (m:aO)(i:Nat)(b:aE):aE:=b.map (bZ (cZ m i))
noncomputable def cst (m:aO)(i:Nat):Nat:=(cZ m i).cost
inductive mD (m:aO):Nat->aE->Prop
 |start:mD m 0 (a7 m)
 |step {q:Nat}{b:aE}{i:Nat}:mD m q b->i<m.deeds.length->mD m (q+cst m i) (aW m i b)
noncomputable def bF (m:aO)(q:Nat)(b:aE):Prop:=mD m q b/\∀q'<q,¬ mD m q' b
section
variable{m:aO}{q q' p:Nat}{b:aE}
def ic (hm:aI m)(hi:i<m.deeds.length):1<=cst m i/\cst m i<=3:=xC (gU hm hi)
def wA (h:mD m q b):(q=0/\b=a7 m)\/∃i b',i<m.deeds.length/\cst m i<=q/\mD m (q-cst m i) b'/\b=aW m i b':=by
 cases h with
 |start=>exact .inl ⟨rfl,rfl⟩
 | @step q b i h hi=>exact .inr {i,b,hi,Nat.le_add_left _ _,by rw[Nat.add_sub_cancel];exact h,rfl}
def mK (hm:aI m)(h:mD m q b):b.length=(a7 m).length/\∀s∈b,dz m s:=by
 induction h with
 |start=>exact⟨rfl,oA⟩
 | step _ hi ih =>
   refine{by unfold aW;rw[Qf];exact ih.1,λs hs=>?_}
   obtain⟨t,ht,rfl⟩:=Qx.mp hs;exact sD (gU hm hi) (ih.2 t ht)
def sg:∀{q:Nat},mD m q b->∃q',q'<=q/\bF m q' b:=by
 intro q;induction q using Nat.strongRecOn with
 | ind q ih =>
   intro h;by_cases z:∃q',q'<q/\mD m q' b
   ·obtain⟨q',h1,h2⟩:=z;obtain⟨r,h3,h4⟩:=ih q' h1 h2;exact{r,Qp h3 (So h1),h4}
   ·exact{q,Ql _,h,λq' h1 h2=>z ⟨q',h1,h2⟩}
def yz (h:bF m q b)(h':bF m q' b):q=q':=by
 rcases Nat.lt_trichotomy q q' with z|z|z
 ·exact absurd h.1 (h'.2 q z)
 ·exact z
 ·exact absurd h'.1 (h.2 q' z)
def fQ (hm:aI m):bF m 0 b↔b=a7 m:=by
 constructor
 ·intro h;rcases wA h.1 with⟨_,e⟩|⟨i,b',hi,hc,_⟩
  ·exact e
  ·have:=(ic hm hi).1;omega
 ·rintro rfl;exact{.start,λq' h=>absurd h (RQ _)}
def g9 (hm:aI m)(hp:0<p):bF m p b↔(∃i b',i<m.deeds.length/\cst m i<=p/\bF m (p-cst m i) b'/\b=aW m i b')/\∀q<p,¬ bF m q b:=by
 constructor
 ·intro h;refine{?_,λq hq z=>h.2 q hq z.1};rcases wA h.1 with⟨e,_⟩|⟨i,b',hi,hc,h1,rfl⟩
  ·omega
  ·refine{i,b',hi,hc,?_,rfl};obtain⟨r,hr,hl⟩:=sg h1;have h2:¬ r+cst m i<p:=λz=>h.2 _ z (.step hl.1 hi);have e:r=p-cst m i:=`a
   rw[<- e];exact hl
 ·rintro⟨⟨i,b',hi,hc,h1,rfl⟩,h2⟩;refine{by have:=mD.step h1.1 hi;rwa [Nat.sub_add_cancel hc] at this,λq' hq' z=>?_}
  obtain⟨r,hr,hl⟩:=sg z;exact h2 r `a hl
def yA (hm:aI m)(hp:0<p)(h:∀q,q<p->p<=q+3->∀b,¬ bF m q b):∀q,p<=q->∀b,¬ bF m q b:=by
 intro q;induction q using Nat.strongRecOn with
 | ind q ih =>
   intro hq b hl;obtain⟨⟨i,b',hi,hc,h1,_⟩,_⟩:=(g9 hm `a).mp hl
   have c:=ic hm hi;by_cases z:p<=q-cst m i
   ·exact ih _ `a z b' h1
   ·exact h _ `a `a b' h1
def AV {α β:Type}{f:α->β}:∀{l:List α},(l.map f).Nodup->l.Nodup
 |[],_=>.nil
 | a :: l, h => by
   rw[RI,Rx] at h;exact List.nodup_cons.mpr {λz=>h.1 (Rf z),AV h.2}
def len_sub {α:Type}[DecidableEq α]:∀{l l':List α},l.Nodup->(∀x∈l,x∈l')->l.length<=l'.length
 |[],_,_,_=>RC _
 | a :: l, l', h, s => by
   have ha:=s a QK;have h1:=len_sub (Rx.mp h).2 λx hx=>by
    have ne:x≠a:=λe=>(Rx.mp h).1 (by rw[<- e];exact hx)
    exact(List.mem_erase_of_ne ne).mpr (s x (Qz _ hx))
   rw[List.length_erase_of_mem ha] at h1;have h2:=List.length_pos_of_mem ha;rw[RL];omega
structure cz (m:aO) (p:Nat) (l:List (aE×Nat)):Prop where
 nd:(l.map (·.1)).Nodup
 sound:∀x∈l,bF m x.2 x.1/\x.2<p
 all:∀q b,q<p->bF m q b->(b,q)∈l
noncomputable def kG (m:aO)(p:Nat):Prop:=∃l:List (aE×Nat),(l.map (·.1)).Nodup/\(∀x∈l,bF m x.2 x.1/\x.2<p)/\255<l.length
def cz.mono (h:cz m p l)(hq:p<=q)(he:∀k b,p<=k->k<q->¬ bF m k b):cz m q l:=
 {h.nd,λx hx=>{(h.sound x hx).1,QN (h.sound x hx).2 hq},λk b hk hl=>by
  by_cases z:k<p
  ·exact h.all k b z hl
  ·exact absurd hl (he k b `a hk)}
end
def Sub.keep (h:Sub M M'):aY p M M':={h.len,λk hk _=>h.at' k hk}
def Sub.pen (h:Sub M M')(hp:aF M p B):aF M' p B:=by
 obtain⟨c,cells,a,st,e1,e2,r⟩:=hp.ex;exact{c,cells,a,st,h.get e1,h.get e2,r}
def BH:∀l:List Nat,dU (l.map nD) (l.map nD)=true
 |[]=>rfl
 | i :: l => by
   show(bS (nD i) (nD i)&&dU (l.map nD) (l.map nD))=true;rw[BH l];simp[nD,NQ]
def Iq (l:List Nat):bS (aq l) (aq l)=true:=BH l
structure HasB (P:Nat->Option Df):Prop where
 after:P 41=some {2,4,jN}
 begins:P 42=some {1,1,iU}
@[simp] theorem Dd:ae (gJ (.list m) [.tup ds] M) k↔ae (ba m ds M) k:=RN
def cv (e:m8 (.str x) (.str y)=some b)(M:Mem):bH .eq (.str x) (.str y) M=some b:=by
 show m7 M (.str x) (.str y)=some b;unfold m7;rw[show m8 (view M (.str x)) (view M (.str y))=some b from e]
def yO (hd:b9 m.words m.places d)(hs:dz m s):bZ d s=s.set d.at' (eE d s):=by
 have a0:=tD hd;rw[List.set_eq_take_append_cons_drop,if_pos (by rw[hs.1];exact a0)]
 simp[bZ]
def eD (h0:Z[0]?=some (some D0))(e0:b7 D0 (.int 0) M=some (.str nm))(c:bH .eq (.str nm) (.str w) M=some false)(h:ae (rest Z M) k):ae (aX (aQ (aj (aA .eq (au (aa 0) (gI 0)) (gC (.str w)))) A aG) rest Z M) k:=by
 simp[h0,e0,c,h]
def nM (h0:Z[0]?=some (some D0))(e0:b7 D0 (.int 0) M=some (.str nm))(c:bH .eq (.str nm) (.str w) M=some true)(h:ae (A Z M) (iE rest k)):ae (aX (aQ (aj (aA .eq (au (aa 0) (gI 0)) (gC (.str w)))) A aG) rest Z M) k:=by
 simp[h0,e0,c,h]
section
variable{P:Nat->Option Df}(h:HasB P){M:Mem}
include h
set_option maxHeartbeats 2000000 in
theorem jc (n:Nat)(ha:a<s.length)(hz:s.length<=100)(e0:∀M,b7 D0 (.int 0) M=some (.str nm))(e1:∀M,b7 D0 (.int 1) M=some (nD a))
 (bT bJ bM bP:Bool) (cT:∀M,bH .eq (.str nm) (.str "turn") M=some bT) (cJ:∀M,bH .eq (.str nm) (.str "join") M=some bJ) (cM:∀M,bH .eq (.str nm) (.str "move") M=some bM) (cP:∀M,bH .eq (.str nm) (.str "put") M=some bP)
 (hb:(bT=true/\bJ=false/\bM=false/\bP=false/\∀M,∃t,b7 D0 (.int 2) M=some t/\b7 t (nD (s.getD a 0)) M=some (nD v))
  \/(bT=false/\bJ=true/\bM=false/\bP=false/\∀M,∃t u o,b7 D0 (.int 3) M=some t/\b7 t (nD (s.getD a 0)) M=some u/\b7 D0 (.int 2) M=some (nD o)/\o<s.length/\b7 u (nD (s.getD o 0)) M=some (nD v))
  \/(bT=false/\bJ=false/\bM=true/\bP=false/\∀M,∃o,b7 D0 (.int 2) M=some (nD o)/\o<s.length/\v=s.getD o 0)
  \/(bT=false/\bJ=false/\bM=false/\bP=true/\∀M,b7 D0 (.int 2) M=some (nD v))) :
 ah P (n+1) 41 [D0,aq s] M=.ok (aq (s.set a v)) (M++[(s.set a v).map nD]):=by
 refine ak (aN h.after rfl ?_);have S:∀M i,i<s.length->b7 (aq s) (nD i) M=some (nD (s.getD i 0)):=λM i hi=>hV hi;have T:ae (gJ (.list true) [aq s] M) (λx M'=>x=.cell M.length/\M'=M++[s.map nD]):=by
  show ae (gJ (.list true) [.tup (s.map nD)] M) _;rw[Dd,jj];exact{ax `o,rfl,rfl}
 simp only[jN,aD,mJ,b5,fA,dJ,bX,cb,bw,RI,List.map_nil,List.cons_append,SK,List.getElem?_cons_zero,List.getElem?_cons_succ,Option.getD_some,Option.some.injEq,exists_eq_left',bx];refine aJ T λx M' hx=>?_;obtain⟨rfl,rfl⟩:=hx;have q:=S (M++[s.map nD]) a ha;refine{_,rfl,_,rfl,_,e1 _,_,q,?_};have fin:∀Z:Env,Z[2]?=some (some (.cell M.length))->ae (#v[aP (aM .tuple #[aa 2])] Z ((M++[s.map nD]).set M.length ((s.map nD).set a (nD v)))) (iR λx M'=>x=aq (s.set a v)/\M'=M++[(s.set a v).map nD]):=λZ hρ=>by
  simp[hρ];simp[aq,List.map_set]
 have gl:(M++[s.map nD])[M.length]?=some (s.map nD):=`s
 have ix:cw (s.map nD).length (a:Int)=some a:=dD (by simpa using ha)
 rcases hb with⟨rfl,rfl,rfl,rfl,hv⟩|⟨rfl,rfl,rfl,rfl,hv⟩|⟨rfl,rfl,rfl,rfl,hv⟩|⟨rfl,rfl,rfl,rfl,hv⟩
 ·obtain⟨t,v1,v2⟩:=hv (M++[s.map nD]);refine aD.mp (nM rfl (e0 _) (cT _) ?_);simp only[aD,kL,fA,bw,dJ];refine{_,rfl,_,v1,_,rfl,_,v2,_,rfl,_,rfl,_,e1 _,_,_,_,_,rfl,rfl,gl,ix,?_};exact eD rfl (e0 _) (cJ _) (eD rfl (e0 _) (cM _) (eD rfl (e0 _) (cP _) (fin _ rfl)))
 ·obtain⟨t,u,o,v1,v2,v3,v4,v5⟩:=hv (M++[s.map nD]);refine aD.mp (eD rfl (e0 _) (cT _) (nM rfl (e0 _) (cJ _) ?_));simp only[aD,kL,fA,bw,dJ];refine{_,rfl,_,v1,_,rfl,_,v2,_,rfl,_,rfl,_,v3,_,S _ _ v4,_,v5,_,rfl,_,rfl,_,e1 _,_,_,_,_,rfl,rfl,gl,ix,?_};exact eD rfl (e0 _) (cM _) (eD rfl (e0 _) (cP _) (fin _ rfl))
 ·obtain⟨o,v1,v2,v3⟩:=hv (M++[s.map nD]);subst v3;refine aD.mp (eD rfl (e0 _) (cT _) (eD rfl (e0 _) (cJ _) (nM rfl (e0 _) (cM _) ?_)));simp only[aD,kL,fA,bw,dJ];refine{_,rfl,_,rfl,_,v1,_,S _ _ v2,_,rfl,_,rfl,_,e1 _,_,_,_,_,rfl,rfl,gl,ix,?_};exact eD rfl (e0 _) (cP _) (fin _ rfl)
 ·have v1:=hv (M++[s.map nD]);refine aD.mp (eD rfl (e0 _) (cT _) (eD rfl (e0 _) (cJ _) (eD rfl (e0 _) (cM _) (nM rfl (e0 _) (cP _) ?_))));simp only[aD,kL,fA,bw,dJ];refine{_,rfl,_,v1,_,rfl,_,rfl,_,e1 _,_,_,_,_,rfl,rfl,gl,ix,?_};exact fin [some D0,some (aq s),some (.cell M.length),some (nD (s.getD a 0))] rfl
theorem t7 (n:Nat)(hm:aI m)(hd:b9 m.words m.places d)(hs:dz m s):ah P (n+1) 41 [d.d,aq s] M=.ok (aq (bZ d s)) (M++[(bZ d s).map nD]):=by
 rw[yO hd hs];have l0:=hs.1;have p2:=hm.p2;have g:∀i,i<m.places->s.getD i 0<m.words:=λi hi=>hs.2 _ (getD_mem `a)
 have a0:=tD hd;have ha:d.at'<s.length:=`a
 cases d with
 |turn a t c=>exact jc h n ha `a (λ_=>rfl) (λ_=>rfl) true false false false (cv `k) (cv `k) (cv `k) (cv `k) (.inl {rfl,rfl,rfl,rfl,λM=>{aq t,rfl,hV (by rw[hd.2.1.1];exact g _ hd.1)}})
 | join a o t c =>
   refine jc h n ha `a (λ_=>rfl) (λ_=>rfl) false true false false (cv `k) (cv `k) (cv `k) (cv `k) (.inr (.inl {rfl,rfl,rfl,rfl,λM=>{.tup (t.map aq),aq (t.getD (s.getD a 0) []),o,rfl,Bn (by rw[hd.2.2.1.1];exact g _ hd.1),rfl,by rw[l0];exact hd.2.1,hV ?_}}))
   rw[(hd.2.2.1.2 _ (getD_mem (by rw[hd.2.2.1.1];exact g _ hd.1))).1]
   exact g _ hd.2.1
 |move a o c=>exact jc h n ha `a (λ_=>rfl) (λ_=>rfl) false false true false (cv `k) (cv `k) (cv `k) (cv `k) (.inr (.inr (.inl {rfl,rfl,rfl,rfl,λM=>{o,rfl,by rw[l0];exact hd.2.1,rfl}})))
 |put a x c=>exact jc h n ha `a (λ_=>rfl) (λ_=>rfl) false false false true (cv `k) (cv `k) (cv `k) (cv `k) (.inr (.inr (.inr {rfl,rfl,rfl,rfl,λM=>rfl})))
theorem gK (n:Nat)(hm:aI m):ah P (n+1) 42 [m.d] M=.ok (.lst ((a7 m).map aq)) M:=by
 refine ak (aN h.begins rfl ?_);simp[iU];have p1:=hm.p1;have p2:=hm.p2;have w2:=hm.w2;have w4:=hm.w4;refine{_,rfl,?_};have hp:m.places=1\/m.places=2:=`a
 have hw:m.words=2\/m.words=3\/m.words=4:=`a
 rcases hp with ep|ep
 ·refine .inr {by rw[ep];rfl,_,rfl,_,rfl,`a,?_}
  refine fc (ds:=(List.range m.words).map λ(k:Nat)=>D.int (k:Int)) (λd=>.tup [d]) (ax `o) `s (λd hd=>{_,rfl,ak (by simp;exact ax `a)}) {ax `o,?_,rfl}
  unfold a7;rw[ep];rcases hw with e|e|e<;>rw[e]<;>rfl
 ·refine .inl {by rw[ep];rfl,_,rfl,_,rfl,?_}
  simp;refine{`a,?_}
  have ew:((m.words:Int)*(m.words:Int)).toNat=m.words*m.words:=by rw[<- Int.natCast_mul];rfl
  have hw2:=Nat.mul_le_mul w4 w4;rw[ew];refine{{by rw[<- Int.natCast_mul];omega,by rw[<- Int.natCast_mul];omega},?_}
  have key:∀k:Nat,(bB #[av false oR.fdiv (aa 0) (au (aa 1) (gC (D.int 0))),av false oR.mod (aa 0) (au (aa 1) (gC (D.int 0)))]) [some (nD k),some m.d] M=.ok (aq [k / m.words,k % m.words]) M:=by
   intro k;refine ak ?_;simp;refine{_,rfl,?_};simp;refine{`a,_,rfl,?_}
   simp;exact{`a,ax `a,rfl}
  refine comp_map (λi acc M'=>M'=M/\acc=((List.range (m.words*m.words)).take i).map λk=>aq [k / m.words,k % m.words]) (ax (by simpa using by omega)) (λ_ _ _ _=>rfl) ⟨rfl,rfl⟩ ?_ ?_
  ·rintro i d acc M' hd _ ⟨rfl,rfl⟩;have hi:=(Qg.mp hd).1;simp at hi;have:d=nD i:=by
    rw[QC,SH `a] at hd
    exact(Qv hd).symm
   subst this;refine{_,rfl,?_};rw[show List.set [none,some m.d] 0 (some (nD i))=[some (nD i),some m.d] from rfl,key i];refine{rfl,?_};rw[RD,SH `a]
   simp
  ·rintro acc M' _ ⟨rfl,rfl⟩;simp;refine{ax `a,?_}
   unfold a7;rw[ep];rcases hw with e|e|e<;>rw[e]<;>rfl
end
section
variable{Z:Env}{M:Mem}{a b d:GE}{k:D->Mem->Prop}{kw:Walk->Mem->Prop}{kf:Fl->Mem->Prop}
@[simp] theorem Nn:ae (mW m a Z M) k↔ae (a Z M) λx M=>ae (yd m x M) k:=by simp[mW]
@[simp] theorem P4:ae (yd m (.lst xs) M) k↔ae (ba m xs.reverse M) k:=RN
@[simp] theorem PZ:ae (yd m (.tup xs) M) k↔k (.tup xs.reverse) M:=RN
end
def LW (i j:Nat):bS (nD i) (nD j)=decide (i=j):=by
 show((i:Int)==(j:Int))=_;rw[Rp];simp;omega
def BJ:∀l r:List Nat,dU (l.map nD) (r.map nD)=decide (l=r)
 |[],[]=>rfl
 |[],_::_=>rfl
 |_::_,[]=>rfl
 | i :: l, j :: r => by
   show(bS (nD i) (nD j)&&dU (l.map nD) (r.map nD))=_;rw[LW,BJ l r,Rp];simp
def vG (l r:List Nat):bS (aq l) (aq r)=decide (l=r):=BJ l r
def BI:∀l r:List (List Nat),dU (l.map aq) (r.map aq)=decide (l=r)
 |[],[]=>rfl
 |[],_::_=>rfl
 |_::_,[]=>rfl
 | i :: l, j :: r => by
   show(bS (aq i) (aq j)&&dU (l.map aq) (r.map aq))=_;rw[vG,BI l r,Rp];simp
noncomputable def ends (m:aO)(r:List Nat):List (List Nat):=(a7 m).map (jG m r)
section
variable{P:Nat->Option Df}(h:HasB P){M:Mem}
include h
theorem vX (he:P 44=some {2,5,fu})(n:Nat)(hx:iJ M x r)(hm:aI m)(hr:∀i∈r,i<m.deeds.length):ae (ah P (n+2) 44 [m.d,x] M) λd M'=>d=.tup ((ends m r).map aq)/\Sub M M':=by
 have bb:=gK h n (M:=M++[[]]) hm;have bl:=cf hm;refine aN he rfl ?_;simp[fu,bb];refine{rfl,?_};generalize hq:M.length=q;refine eY (λi Z M'=>M'[q]?=some (((a7 m).take i).map λs=>aq (jG m r s))/\Sub M M'/\q<M'.length/\∃x3 x4,Z=[some m.d,some x,some (.cell q),x3,x4]) (λ_ _ _ _=>rfl) {by subst hq;simp,Sub.app,by subst hq;simp,none,none,rfl} ?_ ?_
 ·rintro i d Z M' hd ⟨e4,S4,hql,x3,x4,rfl⟩;rw[QC] at hd;cases e:(a7 m)[i]? with
  |none=>rw[e] at hd;cases hd
  | some s =>
    rw[e] at hd;cases Qv hd;have hs:=oA s (QR e);refine{_,rfl,?_};simp[hx.is];refine eY (λj Z M2=>M2[q]?=some (((a7 m).take i).map λs=>aq (jG m r s))/\Sub M M2/\q<M2.length/\∃x4,Z=[some m.d,some x,some (.cell q),some (aq (jG m (r.take j) s)),x4]) (λ_ _ _ e=>(hx.sub e.2.1).seq) ⟨e4,S4,hql,x4,rfl⟩ ?_ ?_
    ·rintro j dd Z M2 hj ⟨f4,T4,ql2,y4,rfl⟩;rw[QC] at hj;cases ej:r[j]? with
     |none=>rw[ej] at hj;cases hj
     | some k =>
       rw[ej] at hj;cases Qv hj;have hk:=hr k (QR ej);have hst:dz m (jG m (r.take j) s):=rh hm (λx hx=>hr x (RW hx)) hs;have af:=t7 h n (M:=M2) hm (gU hm hk) hst;refine{_,rfl,?_};simp[-jo,Oh,uU hk,af];exact{by rw[Qn ql2,f4,List.map_take],T4.trans Sub.app,`a,by rw[RD,ej];simp[pG,jG]}
    ·rintro Z M2 ⟨f4,T4,ql2,y4,rfl⟩;simp[f4];exact{RO (show _<=50 by omega) `d,by rw[QS ql2,RD];simp[e],T4.setq `a,ql2}
 ·rintro Z M' ⟨e4,S4,hql,x3,x4,rfl⟩;rw[Qf,List.take_length] at e4;simp[e4,ends,Function.comp_def,S4]
theorem CG (he:P 44=some {2,5,fu})(n:Nat)(hm:aI m)(hr:∀i∈r,i<m.deeds.length):ae (ah P (n+2) 44 [m.d,.lst (r.map nD)] M) λd M'=>d=.tup ((ends m r).map aq)/\Sub M M':=vX h he n .l hm hr
end
def pD:∀s:List Nat,intsOf (s.map nD)=some (s.map λ(n:Nat)=>(n:Int))
 |[]=>rfl
 |a::s=>by show(intsOf (s.map nD)).map _=_;rw[pD s];rfl
def wZ (s:List Nat):isKey 77 (aq s)=true:=by
 show(intsOf (s.map nD)).isSome=true;rw[pD];rfl
def Bb:∀b:aE,jZ (b.map aq)=some (b.map λs=>s.map λ(n:Nat)=>(n:Int))
 |[]=>rfl
 | s :: b => by
   show((intsOf (s.map nD)).bind λk=>(jZ (b.map aq)).map (k::·))=_;rw[pD,Bb b];rfl
def j6 (b:aE):isKey 78 (bD b)=true:=by
 show(jZ (b.map aq)).isSome=true;rw[Bb];rfl
def yW (a b:aE):bS (bD a) (bD b)=decide (a=b):=BI a b
section
variable{Z:Env}{M:Mem}{a b:GE}{k:D->Mem->Prop}
def jH {c:Int}(e:M[j]?=some (.int c::es))(hc:c=77\/c=78):bR M (az j)=some (c,es):=by
 unfold bR;rw[if_pos (show 5000<=az j from Sh _ _),show az j-5000=j from Rr _ _,e];exact if_pos hc
def lV {α:Type}(f g:α->D)(l:List α)(x:D):dA (l.map λy=>.tup [f y,g y]) x=(l.find? λy=>bS (f y) x).map g:=by
 unfold dA;rw[List.find?_map,Option.map_map];rfl
def uV {x:D}{o:Nat}{y d:D}(ha:a Z M=.ok (.fn o) M)(hb:b Z M=.ok y M)(e:getD M o y=some d):eU a b Z M=.ok d M:=by
 unfold eU;rw[ha];show(b Z M).bind _=_;rw[hb];show cu M (getD M o y)=_;rw[e];rfl
end
noncomputable def fy (m:aO)(d:a9):List D:=.int 77::(a7 m).map λs=>.tup [aq s,aq (bZ d s)]
section
variable{P:Nat->Option Df}{M:Mem}{m:aO}{d:a9}{j:Nat}
def pA (e:M[j]?=some (fy m d))(hm:aI m)(hs:dz m s):getD M (az j) (aq s)=some (aq (bZ d s)):=by
 unfold getD;rw[jH e (.inl rfl)];show(if isKey 77 (aq s)=true then dA ((a7 m).map λs=>.tup [aq s,aq (bZ d s)]) (aq s) else none)=_;rw[if_pos (wZ s),lV aq λs=>aq (bZ d s)];have e2:((a7 m).find? λy=>bS (aq y) (aq s))=some s:=by
  cases e3:(a7 m).find? λy=>bS (aq y) (aq s) with
  |none=>exact absurd (Iq s) (List.find?_eq_none.mp e3 s (vI hm hs))
  | some y =>
    have:=List.find?_some e3;rw[vG] at this;rw[of_decide_eq_true this]
 rw[e2];rfl
def Ai (h152:P 152=some {2,2,eT})(n:Nat)(e:M[j]?=some (fy m d))(hm:aI m)(hl:b.length<=16)(hb:∀s∈b,dz m s):ah P (n+1) 152 [.fn (az j),bD b] M=.ok (bD (b.map (bZ d))) M:=by
 refine ak (aN h152 rfl ?_);simp only[eT,aD,cH,b5,bX,dG,cb,gQ,bw];refine{_,rfl,rfl,?_};refine fc (λx=>(getD M (az j) x).getD .non) (ax `o) rfl ?_ ?_
 ·intro x hx;obtain⟨s,hs,rfl⟩:=Qx.mp hx;refine{_,rfl,?_};rw[pA e hm (hb s hs)];exact uV (x:=.non) rfl rfl (pA e hm (hb s hs))
 ·have e2:(b.map aq).map (λx=>(getD M (az j) x).getD .non)=(b.map (bZ d)).map aq:=by
   rw[Rk,Rk];refine RG λs hs=>?_;show(getD M (az j) (aq s)).getD .non=_;rw[pA e hm (hb s hs)];rfl
  rw[e2];exact bI.mpr {ax `o,rfl,rfl}
end
def wL {α β:Type}{f:α->List β}:∀{l:List α},l.Nodup->(∀a,(f a).Nodup)->(∀a b x,a≠b->x∈f a->x∉f b)->(l.flatMap f).Nodup
 |[],_,_,_=>`s
 | a :: l, h, h1, h2 => by
   rw[List.flatMap_cons,Sa];rw[Rx] at h;refine{h1 a,wL h.2 h1 h2,λx hx y hy e=>?_};subst e;obtain⟨b,hb,hx2⟩:=List.mem_flatMap.mp hy;exact h2 a b x (λz=>h.1 (z ▸ hb)) hx hx2
def wK (s:List Nat):∀{l:List Nat},l.Nodup->(l.map λx=>s++[x]).Nodup
 |[],_=>`s
 | a :: l, h => by
   rw[Rx] at h;rw[RI,Rx];refine{λz=>?_,wK s h.2};obtain⟨b,hb,e⟩:=Qx.mp z;have e:b=a:=by simpa using e
   exact h.1 (e ▸ hb)
def vK (w:Nat):∀p,(dM w p).Nodup
 |0=>by unfold dM;simp
 | p + 1 => by
   unfold dM rf;refine wL (vK w p) (λs=>wK s List.nodup_range) λa b x hab hx hy=>?_;obtain⟨i,_,rfl⟩:=Qx.mp hx;obtain⟨j,_,e⟩:=Qx.mp hy;exact hab (List.append_inj_left' e rfl).symm
def yr {α:Type}{l:List α}(h:l.Nodup){i j:Nat}{x:α}(hij:i<j)(hi:l[i]?=some x)(hj:l[j]?=some x):False:=by
 obtain⟨h1,e1⟩:=Qg.mp hi;obtain⟨h2,e2⟩:=Qg.mp hj;exact List.pairwise_iff_getElem.mp h i j h1 h2 hij (e1.trans e2.symm)
section
variable{Z:Env}{M:Mem}{k:D->Mem->Prop}{kl:List D->Mem->Prop}
def xn {c:Int}(h:ae (w Z M) λw M=>ae (c9 (cx tg g (List.replicate n none++Z)) w [.fn (az M.length)] (M++[[.int c]])) λacc M=>∃d,acc=[d]/\k d M):ae (ia c n tg w g Z M) k:=by
 refine bf.mpr (aJ h λw M h=>bf.mpr (aJ h ?_));rintro _ M ⟨d,rfl,h⟩;exact h
def Bt (h1:gk Z M=.ok x M)(h2:gv Z M=.ok y M)(e:bR M o=some q)(hk:isKey q.1 x=true)(hl:q.2.length<1000000)(h:kl [.fn o] (M.set (o-5000) (.int q.1::putD q.2 x y))):ae (h9 gk gv Z [.fn o] M) kl:=by
 unfold h9;rw[h1];show ae ((gv Z M).bind _) kl;rw[h2];show ae (match bR M o with|some q=>if isKey q.1 x=true/\q.2.length<1000000 then Res.ok [D.fn o] (M.set (o-5000) (.int q.1::putD q.2 x y)) else .bad|none=>.bad) kl
 rw[e];show ae (if isKey q.1 x=true/\q.2.length<1000000 then Res.ok [D.fn o] (M.set (o-5000) (.int q.1::putD q.2 x y)) else .bad) kl;rw[if_pos ⟨hk,hl⟩];exact h
end
def qK (h:dA es x=none):putD es x y=es++[.tup [x,y]]:=by
 unfold putD;rw[h];rfl
section
variable{P:Nat->Option Df}{M:Mem}{m:aO}{d:a9}
def oV (h:j=M.length):(M++[x]).set j y=M++[y]:=by
 subst h;rw[List.set_append_right _ _ (Ql _),Nat.sub_self];rfl
def A4 {n:Nat}(h24:∀s M,dz m s->ah P (n+2) 24 [d.d,aq s] M=.ok (aq (bZ d s)) M)(hm:aI m)(hk:k (.fn (az M.length)) (M++[fy m d])) :
 ae (ia 77 1 (.one 0) (bK (aa 2)) (h9 (aa 0) (ai 24 (ah P (n+2)) #[aa 1,aa 0])) [some d.d,y,some (.lst ((a7 m).map aq))] M) k:=by
 refine xn ?_;simp only[gQ,bw];refine{_,rfl,rfl,?_};have bl:=cf hm;have nd:=vK m.words m.places;refine fg (λi acc M'=>acc=[.fn (az M.length)]/\M'=M++[.int 77::((a7 m).take i).map λs=>.tup [aq s,aq (bZ d s)]]) (λ_ _ _ _=>rfl) {rfl,`s} ?_ ?_
 ·rintro i x acc M' hd ⟨rfl,rfl⟩;rw[QC] at hd;cases e:(a7 m)[i]? with
  |none=>rw[e] at hd;cases hd
  | some s =>
    rw[e] at hd;have hd:=Qv hd;subst hd;have hs:=oA s (QR e);simp only[cx,bf,g6];refine{_,rfl,?_};have em:(M++[.int 77::((a7 m).take i).map λs=>D.tup [aq s,aq (bZ d s)]])[M.length]?=some (.int 77::((a7 m).take i).map λs=>D.tup [aq s,aq (bZ d s)]):=`s
    refine Bt rfl ((aU (ag rfl (ag rfl rfl))).trans (h24 s _ hs)) (jH em (.inl rfl)) (wZ s) `o {rfl,?_}
    have none:dA (((a7 m).take i).map λs=>.tup [aq s,aq (bZ d s)]) (aq s)=Option.none:=by
     rw[lV aq λs=>aq (bZ d s)];rw[List.find?_eq_none.mpr];rfl;intro t ht;rw[vG];intro z;have z:=of_decide_eq_true z;subst z;obtain⟨j,hj⟩:=List.getElem?_of_mem ht;have hj2:j<i:=by
      have:=(Qg.mp hj).1;simp at this;omega
     rw[List.getElem?_take_of_lt hj2] at hj;exact yr nd hj2 hj e
    rw[qK none];rw[show az M.length-5000=M.length from Rr _ _,oV rfl,RD,e];simp
 ·rintro acc M' ⟨rfl,rfl⟩;rw[Qf,Rv (Ql _)];exact{_,rfl,hk}
end
section
variable{Z:Env}{M:Mem}
def Ir (e:a Z M=.ok x M):d9 (.one i) a Z M=.ok (.next (Z.set i (some x))) M:=by
 unfold d9;rw[e];rfl
def eQ (e:s Z M=.ok xs M):bQ f c s Z M=c f xs M:=by
 unfold bQ;rw[e]
end
noncomputable def d4 (m:aO)(L:Nat):D:=.lst ((List.range m.deeds.length).map λi=>.tup [nD (cst m i),.fn (az (L+i))])
def om (e:m.deeds[i]?=some d):cZ m i=d:=by
 unfold cZ;rw[Rj,e];rfl
section
variable{P:Nat->Option Df}{M:Mem}{m:aO}
def t6 (hb:HasB0 P)(hr:jf P)(h15:P 15=some {1,6,cg})(h151:P 151=some {1,2,dY})(n:Nat)(hm:aI m):ah P (n+10) 151 [m.d] M=.ok (d4 m M.length) (M++m.deeds.map (fy m)):=by
 refine ak (aN h151 rfl ?_);refine bL (Ir ((eQ (ag rfl rfl)).trans (kK hb h15 n hm))) ?_;simp only[aD,cH,dG,gQ,fA,bw,dJ];refine{_,rfl,_,rfl,rfl,?_};have d6:=hm.d6;refine comp_map (λi acc M'=>acc=(List.range i).map (λi=>.tup [nD (cst m i),.fn (az (M.length+i))])/\M'=M++(m.deeds.take i).map (fy m)) (ax `o) (λ_ _ _ _=>rfl) {rfl,`s} ?_ ?_
 ·rintro i x acc M' hd _ ⟨rfl,rfl⟩;rw[QC] at hd;cases e:m.deeds[i]? with
  |none=>rw[e] at hd;cases hd
  | some d =>
    rw[e] at hd;have hd:=Qv hd;subst hd;have hi:=(Qg.mp e).1;have hok:=hm.ok d (QR e);refine{_,rfl,?_};simp only[i9,bX,fA,bw,tm,dJ,cb];refine{_,rfl,_,rfl,nD d.cost,mU,?_};refine A4 (λs M hs=>Gy hr (n+7) hm hok hs) hm {ax (n:=2) `d,?_,?_}
    ·have l:(M++(m.deeds.take i).map (fy m)).length=M.length+i:=by simp;omega
     rw[l,List.range_succ,QF];have c:cst m i=d.cost:=by unfold cst;rw[om e]
     rw[<- c];rfl
    ·rw[RD,e];simp
 ·rintro acc M' _ ⟨rfl,rfl⟩;rw[Qf,Rv (Ql _)];exact bI.mpr {ax `o,rfl,rfl}
end
section
variable{Z ρ':Env}{M M':Mem}{a b d:GE}{t rest:GS}{kf:Fl->Mem->Prop}
def dC (e:t Z M=.ok (.next ρ') M')(h:ae (rest ρ' M') kf):ae (aX t rest Z M) kf:=by
 rw[aD,e];exact h
def u9 (ha:a Z M=.ok x M)(hb:b Z M=.ok (.fn o) M)(e:inD M o x=some r):fZ n a b Z M=.ok (.bl (n != r)) M:=by
 unfold fZ;rw[ha];show(b Z M).bind _=_;rw[hb];show(match inD M o x with|some r=>Res.ok (D.bl (n != r)) M|none=>.bad)=_
 rw[e]
def xq (ha:a Z M=.ok (.fn o) M)(e:bR M o=some q):fS a Z M=.ok (nD q.2.length) M:=by
 unfold fS;rw[ha];show(match bR M o with|some q=>Res.ok (D.int q.2.length) M|none=>.bad)=_
 rw[e]
def HR (hd:d Z M=.ok z M)(ha:a Z M=.ok (.fn o) M)(hb:b Z M=.ok x M)(e:bR M o=some q)(hk:isKey q.1 x=true)(hl:q.2.length<1000000):gr a b d Z M=.ok (.next Z) (M.set (o-5000) (.int q.1::putD q.2 x z)):=by
 unfold gr;rw[hd];show(a Z M).bind _=_;rw[ha];show(b Z M).bind _=_;rw[hb];show(match bR M o with|some q=>if isKey q.1 x=true/\q.2.length<1000000 then Res.ok (Fl.next Z) (M.set (o-5000) (.int q.1::putD q.2 x z)) else .bad|none=>.bad)=_
 rw[e];exact if_pos ⟨hk,hl⟩
def L3 (ha:a Z M=.ok (.cell j) M)(hd:d Z M=.ok z M)(e:M[j]?=some ds)(hl:ds.length<sz):dS a d Z M=.ok (.next Z) (M.set j (ds++[z])):=by
 unfold dS;rw[ha];show(d Z M).bind _=_;rw[hd];show(match M[j]? with|some ds=>if ds.length<sz then Res.ok (Fl.next Z) (M.set j (ds++[z])) else .bad|none=>.bad)=_
 rw[e];exact if_pos hl
def pV (e:s Z M=.ok xs M)(hl:xs.length<=100):bB s Z M=.ok (.tup xs) M:=by
 unfold bB;rw[e];exact if_pos (ax `a)
def Bq {i j:Int}(h1:a Z M=.ok (.int i) M)(h2:b Z M=.ok (.int j) M):aj (aA .gt a b) Z M=.ok (decide (j<i)) M:=by
 refine dF (gV.mpr (eC.mpr ?_));rw[h1,aR,h2,aR];exact{_,rfl,_,rfl,rfl,rfl}
def Nm {i:Int}(ha:a Z M=.ok (.int i) M)(h1:z.length<=1000)(h2:y.length<=1000)(h3:i.natAbs<2^64):uX z y a Z M=.ok (.str (z++(toString i:Str)++y)) M:=by
 unfold uX;rw[ha];exact if_pos ⟨h1,h2,h3⟩
end
abbrev fC:=List (aE×Nat×List Nat)
def jq (I:Nat->Env->Mem->Prop)(X:Fl->Mem->Prop)(hX:∀fl M,X fl M->∀Z,fl≠.next Z)(hw:∀i Z M,I i Z M->w M=some ds)(hwX:∀fl M,X fl M->w M=some ds)(h0:I 0 Z M)
 (hs:∀i d Z M,ds[i]?=some d->I i Z M->∃ρ1,b6 t d Z=some ρ1/\ae (gb ρ1 M) λfl M=>(∃ρ',fl=.next ρ'/\I (i+1) ρ' M)\/X fl M) (hk:∀Z M,I ds.length Z M->kf (.next Z) M) (hx:∀fl M,X fl M->kf fl M) :
 ae (c9 (iF t gb) w (.next Z) M) kf:=by
 refine fg (λi fl M=>(∃Z,fl=.next Z/\I i Z M)\/X fl M) (λi fl M h=>h.elim (λ⟨Z,_,h⟩=>hw i Z M h) λh=>hwX fl M h) (.inl ⟨Z,rfl,h0⟩) ?_ ?_
 ·rintro i d fl M hd (⟨Z,rfl,hI⟩|hR)
  ·obtain⟨ρ1,e,h⟩:=hs i d Z M hd hI;simp only[iF,bf,g6,e];exact⟨ρ1,rfl,h⟩
  ·cases fl with
   |next Z=>exact absurd rfl (hX _ _ hR Z)
   |ret d=>exact .inr hR
   |exc x Z=>exact .inr hR
 ·rintro fl M (⟨Z,rfl,hI⟩|hR)
  ·exact hk Z M hI
  ·exact hx fl M hR
structure NW (p:Nat) (E0:fC) (S:aE->Prop) (N:fC):Prop where
 nd:((E0++N).map (·.1)).Nodup
 fr:∀x∈N,S x.1/\x.2.1=p/\x.2.2.length<=p
 al:∀b,S b->b∈(E0++N).map (·.1)
noncomputable def sV (p:Nat)(E0:fC)(S:aE->Prop):Prop:=∃N:fC,((E0++N).map (·.1)).Nodup/\(∀x∈N,S x.1/\x.2.1=p)/\255<(E0++N).length
def sV.mono (h:sV p E0 S)(hs:∀b,S b->S' b):sV p E0 S':=let⟨N,h1,h2,h3⟩:=h;{N,h1,λx hx=>{hs _ (h2 x hx).1,(h2 x hx).2},h3}
def NW.old (h:NW p E0 S N)(hs:∀x,S' x↔S x\/x=b)(hb:∃e∈E0++N,e.1=b):NW p E0 S' N:=
 {h.nd,λx hx=>{(hs _).mpr (.inl (h.fr x hx).1),(h.fr x hx).2},λc hc=>by
  rcases(hs c).mp hc with z|z
  ·exact h.al c z
  ·obtain⟨e,he,z2⟩:=hb;rw[z,<- z2];exact Rf he}
def NW.new (h:NW p E0 S N)(hs:∀x,S' x↔S x\/x=b)(hb:∀e∈E0++N,e.1≠b)(hr:r.length<=p):NW p E0 S' (N++[(b,p,r)]):=by
 refine{?_,λx hx=>?_,λc hc=>?_}
 ·rw[<- Ry,QF,Sa];refine{h.nd,`s,λx hx y hy e=>?_}
  obtain⟨z,hz,rfl⟩:=Qx.mp hx;have hy:y=b:=by simpa using hy
  exact hb z hz (e.trans hy)
 ·rcases QL.mp hx with z|z
  ·exact{(hs _).mpr (.inl (h.fr x z).1),(h.fr x z).2}
  ·obtain rfl:=Qw.mp z;exact{(hs _).mpr (.inr rfl),rfl,hr}
 ·rw[<- Ry,QF];rcases(hs c).mp hc with z|z
  ·exact RE _ (h.al c z)
  ·exact Rh _ (by rw[z];exact Qw.mpr rfl)
noncomputable def vV (M:Mem)(fk:Nat)(x:D)(A:List aE):Prop:=x=.lst (A.map bD)\/∃c,x=.cell c/\c≠fk/\M[c]?=some (A.map bD)
def xm:∀{k i:Nat}{d:D},(fz k ds)[i]?=some d->∃x,ds[i]?=some x/\d=.tup [nD (k+i),x]:=by
 induction ds with
 |nil=>intro k i d h;simp[fz] at h
 | cons a ds ih =>
   intro k i d h;cases i with
   |zero=>cases h;exact⟨a,rfl,rfl⟩
   | succ i =>
     obtain⟨x,h1,h2⟩:=ih h;exact{x,h1,by rw[h2,Sx,Nat.add_comm 1 i]}
def l9:∀{ds:List D}{k:Nat},(fz k ds).length=ds.length
 |[],_=>rfl
 |_::ds,k=>by show(fz (k+1) ds).length+1=ds.length+1;rw[l9]
noncomputable def jh (m:aO)(p:Nat)(Ls:Nat->List aE)(i:Nat):List aE:=if cst m i<=p then Ls (p-cst m i) else []
noncomputable def jT (m:aO)(p:Nat)(Ls:Nat->List aE)(i:Nat)(b:aE):Prop:=∃i',i'<i/\b∈(jh m p Ls i').map (aW m i')
noncomputable def pr (e:aE×Nat×List Nat):aE×Nat:=(e.1,e.2.1)
section
variable{m:aO}{p:Nat}{E0 N:fC}{Ls:Nat->List aE}
def iy (E:fC):(E.map pr).map (·.1)=E.map (·.1):=by rw[Rk];rfl
def vp (hm:aI m)(hLs:∀q,q<p->∀b,b∈Ls q↔bF m q b)(b:aE):jT m p Ls m.deeds.length b↔∃i b',i<m.deeds.length/\cst m i<=p/\bF m (p-cst m i) b'/\b=aW m i b':=by
 constructor
 ·rintro⟨i,hi,h⟩;have c:=ic hm hi;obtain⟨b',hb,rfl⟩:=Qx.mp h;unfold jh at hb;split at hb
  ·next hc=>exact{i,b',hi,hc,(hLs _ `a b').mp hb,rfl}
  ·exact nomatch hb
 ·rintro⟨i,b',hi,hc,hl,rfl⟩;have c:=ic hm hi;refine{i,hi,Rf ?_};unfold jh;rw[if_pos hc];exact(hLs _ `a b').mpr hl
def oM (hm:aI m)(hp:0<p)(hLs:∀q,q<p->∀b,b∈Ls q↔bF m q b)(h0:cz m p (E0.map pr))(nd:((E0++N).map (·.1)).Nodup)(hx:x∈N)(hc:jT m p Ls m.deeds.length x.1):bF m p x.1:=by
 refine(g9 hm hp).mpr {(vp hm hLs _).mp hc,λq hq hl=>?_};have z:=h0.all q x.1 hq hl;have z2:x.1∈E0.map (·.1):=by rw[<- iy];exact Rf z
 rw[QF,Sa] at nd;exact nd.2.2 _ z2 _ (Rf hx) rfl
def Ht (hm:aI m)(hp:0<p)(hLs:∀q,q<p->∀b,b∈Ls q↔bF m q b)(h0:cz m p (E0.map pr))(nw:NW p E0 (jT m p Ls m.deeds.length) N):cz m (p+1) ((E0++N).map pr)/\∀b,b∈N.map (·.1)↔bF m p b:=by
 have fl:=λx hx=>oM hm hp hLs h0 nw.nd hx (nw.fr x hx).1;have back:∀b,bF m p b->∃x∈N,x.1=b:=λb hl=>by
  have hc:=(vp hm hLs b).mpr ((g9 hm hp).mp hl).1;obtain⟨x,hx,e⟩:=Qx.mp (nw.al b hc);rcases QL.mp hx with z|z
  ·have s:=h0.sound (pr x) (Rf z);have s1:=e ▸ s.1;have:=yz s1 hl;omega
  ·exact⟨x,z,e⟩
 refine{{by rw[iy];exact nw.nd,λy hy=>?_,λq b hq hl=>?_},λb=>{λh=>?_,λh=>?_}}
 ·obtain⟨x,hx,rfl⟩:=Qx.mp hy;rcases QL.mp hx with z|z
  ·have s:=h0.sound (pr x) (Rf z);exact{s.1,RT s.2}
  ·have e:x.2.1=p:=(nw.fr x z).2.1;exact{by show bF m x.2.1 x.1;rw[e];exact fl x z,by show x.2.1<p+1;omega}
 ·rcases RU q p with z|z
  ·rw[QF];exact RE _ (h0.all q b z hl)
  ·have:q=p:=`a
   subst this;obtain⟨x,hx,rfl⟩:=back b hl;rw[QF];refine Rh _ (Qx.mpr {x,hx,?_});show(x.1,x.2.1)=_;rw[(nw.fr x hx).2.1]
 ·obtain⟨x,hx,rfl⟩:=Qx.mp h;exact fl x hx
 ·obtain⟨x,hx,rfl⟩:=back b h;exact Rf hx
def CZ (hm:aI m)(hp:0<p)(hLs:∀q,q<p->∀b,b∈Ls q↔bF m q b)(h0:cz m p (E0.map pr))(ov:sV p E0 (jT m p Ls m.deeds.length)):kG m (p+1):=by
 obtain⟨N,nd,fr,hl⟩:=ov;refine{(E0++N).map pr,by rw[iy];exact nd,λy hy=>?_,by rw[Qf];exact hl}
 obtain⟨x,hx,rfl⟩:=Qx.mp hy;rcases QL.mp hx with z|z
 ·have s:=h0.sound (pr x) (Rf z);exact{s.1,RT s.2}
 ·have e:x.2.1=p:=(fr x z).2;exact{by show bF m x.2.1 x.1;rw[e];exact oM hm hp hLs h0 nd z (fr x z).1,by show x.2.1<p+1;omega}
def kG.mono (h:kG m p)(hq:p<=q):kG m q:=let⟨l,h1,h2,h3⟩:=h;{l,h1,λx hx=>{(h2 x hx).1,QN (h2 x hx).2 hq},h3}
end
noncomputable def lsN (Ls:Nat->List aE)(p:Nat)(A:List aE):Nat->List aE:=λq=>if q=p then A else Ls q
def zy {c:GT}{b:GS}{kf:Fl->Mem->Prop}(I:Nat->Env->Mem->Prop)
 (hs:∀k Z M,I k Z M->ae (c Z M) λv M1=>(v=false->kf (.next Z) M1)/\(v=true->∃k',k=k'+1/\ae (b Z M1) λfl M2=>(∃ρ',fl=.next ρ'/\I k' ρ' M2)\/((∀ρ',fl≠.next ρ')/\kf fl M2))) :
 ∀(n k:Nat) (Z:Env) (M:Mem),k<n->I k Z M->ae (kJ c b n Z M) kf:=by
 intro n;induction n with
 |zero=>intro k Z M h;exact absurd h (RQ _)
 | succ n ih =>
   intro k Z M h hI;unfold kJ;refine bf.mpr (aJ (hs k Z M hI) λv M1 ⟨h1,h2⟩=>?_);cases v with
   |false=>exact h1 rfl
   | true =>
     obtain⟨k',rfl,h3⟩:=h2 rfl;rw[if_pos rfl];refine bf.mpr (aJ h3 λfl M2 h4=>?_);rcases h4 with⟨ρ',rfl,h5⟩|⟨h5,h6⟩
     ·exact ih k' ρ' M2 `a h5
     ·cases fl with
      |next ρ'=>exact absurd rfl (h5 ρ')
      |ret d=>exact h6
      |exc x ρ'=>exact h6
def oX {c:GT}{b:GS}{Z:Env}{M:Mem}{kf:Fl->Mem->Prop}(I:Nat->Env->Mem->Prop)
 (hs:∀k Z M,I k Z M->ae (c Z M) λv M1=>(v=false->kf (.next Z) M1)/\(v=true->∃k',k=k'+1/\ae (b Z M1) λfl M2=>(∃ρ',fl=.next ρ'/\I k' ρ' M2)\/((∀ρ',fl≠.next ρ')/\kf fl M2))) {k:Nat} (hk:k<100000) (h:I k Z M):ae (gg c b Z M) kf:=zy I hs 100000 k Z M hk h
def tQ {α:Type}{M:Mem}{f:α->D}{g:α->Bool}:∀{l:List α},(∀x∈l,lF M (f x)=some (g x))->gR M (l.map f)=some (l.map g)
 |[],_=>rfl
 | a :: l, h => by
   show(lF M (f a)).bind (λb=>(gR M (l.map f)).map (b::·))=_;rw[h a QK,tQ λx hx=>h x (Qz _ hx)];rfl
section
variable{M:Mem}{m:aO}{L0 lv fk p:Nat}{E0:fC}{lvs:List D}{Ls:Nat->List aE}{Z:Env}
def Kz {x:D}{A:List aE}(h:vV M fk x A):lF M x=some (!A.isEmpty):=by
 rcases h with rfl|⟨c,rfl,_,e⟩
 ·show some (!(A.map bD).isEmpty)=_;rw[List.isEmpty_map]
 ·show(M[c]?).map (λxs=>!xs.isEmpty)=_;rw[e];show some (!(A.map bD).isEmpty)=_;rw[List.isEmpty_map]
def we {M:Mem}{g:Nat->Bool}:∀{l:List D}{k:Nat},(∀i x,l[i]?=some x->lF M x=some (g (k+i)))->gR M l=some ((List.range l.length).map λi=>g (k+i))
 |[],_,_=>rfl
 | a :: l, k, h => by
   show(lF M a).bind (λb=>(gR M l).map (b::·))=_;have h0:=h 0 a rfl;have h1:=we (l:=l) (k:=k+1) (M:=M) (g:=g) λi x hx=>by
    have:=h (i+1) x hx;rw[this,Sx,Nat.add_comm 1 i]
   rw[h0,h1,RL,List.range_succ_eq_map,RI,Rk];show some (g (k+0)::_)=_
   congr 2
   refine RG λi _=>?_;show g (k+1+i)=g (k+(i+1));rw[Sx,Nat.add_comm 1 i]
end
section
variable{Z:Env}{M M':Mem}{kf:Fl->Mem->Prop}
def oE (e:a Z M=.ok x M'):d9 (.one i) a Z M=.ok (.next (Z.set i (some x))) M':=by
 unfold d9;rw[e];rfl
def fJ (e:a Z M=.ok x M'):aw (.one i) a Z M=.ok (.next (Z.set i (some x))) M':=by
 unfold aw;rw[e];rfl
def Iu (ha:a Z M=.ok (.cell j) M)(h:fX (d Z M) (λz M1=>∃ds,M1[j]?=some ds/\ds.length<sz/\kf (.next Z) (M1.set j (ds++[z]))) (λx M1=>kf (.exc x Z) M1)):ae (nQ a d Z M) kf:=by
 unfold nQ;rw[ha];show ae (tM (λz M=>match M[j]? with|some ds=>if ds.length<sz then Res.ok (Fl.next Z) (M.set j (ds++[z])) else .bad|none=>.bad) Z (d Z M)) kf
 cases e:d Z M with
 |bad=>rw[e] at h;exact h.elim
 |err x M1=>rw[e] at h;exact h
 | ok z M1 =>
   rw[e] at h;obtain⟨ds,e1,hl,h⟩:=h;show ae (match M1[j]? with|some ds=>if ds.length<sz then Res.ok (Fl.next Z) (M1.set j (ds++[z])) else .bad|none=>.bad) kf
   rw[e1];show ae (if ds.length<sz then Res.ok (Fl.next Z) (M1.set j (ds++[z])) else .bad) kf
   rw[if_pos hl];exact h
end
noncomputable def iS {α:Type}(k:α->aE)(v:α->D)(E:List α):List D:=.int 78::E.map λe=>.tup [bD (k e),v e]
section
variable{α:Type}{k:α->aE}{v:α->D}{E:List α}{M:Mem}{j:Nat}{b:aE}{x:α}
def oj:dA (E.map λe=>.tup [bD (k e),v e]) (bD b)=(E.find? λe=>decide (k e=b)).map v:=by
 refine(lV (λe=>bD (k e)) v E (bD b)).trans ?_
 congr 2
 funext x
 exact yW _ b
def gm (e:M[j]?=some (iS k v E)):bR M (az j)=some (78,E.map λe=>.tup [bD (k e),v e]):=jH e (.inr rfl)
def qm (e:M[j]?=some (iS k v E)):inD M (az j) (bD b)=some (E.any λe=>decide (k e=b)):=by
 unfold inD;rw[gm e];show(if isKey 78 (bD b)=true then some (dA _ (bD b)).isSome else none)=_;rw[if_pos (j6 b),oj,R9]
 congr 1
 rw[Rp,List.find?_isSome,RS]
def Bv (hn:∀e∈E,k e≠b):putD (E.map λe=>.tup [bD (k e),v e]) (bD b) z=(E.map λe=>.tup [bD (k e),v e])++[.tup [bD b,z]]:=by
 refine qK ?_;rw[oj,List.find?_eq_none.mpr];rfl;exact λx hx e=>hn x hx (of_decide_eq_true e)
def xr:∀{E:List α},(E.map k).Nodup->∀{x:α},x∈E->(E.find? λe=>decide (k e=k x))=some x
 |[],_,_,h=>nomatch h
 | a :: E, nd, x, h => by
   rw[RI,Rx] at nd;rw[List.find?_cons];by_cases e:k a=k x
   ·rw[decide_eq_true e];rcases Rg.mp h with z|z
    ·rw[z]
    ·exact absurd (by rw[e];exact Rf z) nd.1
   ·rw[decide_eq_false e];rcases Rg.mp h with z|z
    ·exact absurd (by rw[z]) e
    ·exact xr nd.2 z
def Bw (e:M[j]?=some (iS k v E))(nd:(E.map k).Nodup)(hx:x∈E):getD M (az j) (bD (k x))=some (v x):=by
 unfold getD;rw[gm e];show(if isKey 78 (bD (k x))=true then dA _ (bD (k x)) else none)=_;rw[if_pos (j6 _),oj,xr nd hx];rfl
def xp {a b d:GE}{x z:D}(hd:d Z M=.ok z M1)(ha:a Z M1=.ok (.fn o) M1)(hb:b Z M1=.ok x M1)(e:bR M1 o=some q)(hk:isKey q.1 x=true)(hl:q.2.length<1000000):gr a b d Z M=.ok (.next Z) (M1.set (o-5000) (.int q.1::putD q.2 x z)):=by
 unfold gr;rw[hd];show(a Z M1).bind _=_;rw[ha];show(b Z M1).bind _=_;rw[hb];show(match bR M1 o with|some q=>if isKey q.1 x=true/\q.2.length<1000000 then Res.ok (Fl.next Z) (M1.set (o-5000) (.int q.1::putD q.2 x z)) else .bad|none=>.bad)=_
 rw[e];exact if_pos ⟨hk,hl⟩
def DJ {M1:Mem}{a b d:GE}(hd:d Z M=.ok (v x) M1)(ha:a Z M1=.ok (.fn (az j)) M1)(hb:b Z M1=.ok (bD (k x)) M1)(e:M1[j]?=some (iS k v E))(hl:E.length<1000000)(hn:∀e∈E,k e≠k x):gr a b d Z M=.ok (.next Z) (M1.set j (iS k v (E++[x]))):=by
 rw[xp hd ha hb (gm e) (j6 _) (by rw[Qf];exact hl),show az j-5000=j from Rr _ _,Bv hn]
 unfold iS;rw[QF];rfl
def L4 (h:(true != E.any λe=>decide (k e=b))=true):∀e∈E,k e≠b:=λe he z=>by
 rw[show(E.any λe=>decide (k e=b))=true from RS.mpr {e,he,decide_eq_true z}] at h;cases h
def Iv (h:(true != E.any λe=>decide (k e=b))=false):∃e∈E,k e=b:=by
 cases z:(E.any λe=>decide (k e=b)) with
 | true =>
   obtain⟨e,he,y⟩:=RS.mp z;exact{e,he,of_decide_eq_true y}
 |false=>rw[z] at h;cases h
end
noncomputable def gE (m:aO)(r:List Nat)(b:aE)(q:Nat):Prop:=(∀i∈r,i<m.deeds.length)/\ends m r=b/\yQ m r=q
section
variable{m:aO}{r:List Nat}{b:aE}{q i:Nat}
def gE.nil:gE m [] (a7 m) 0:={(λ_ h=>nomatch h),List.map_id _,rfl}
def gE.snoc (h:gE m r b q)(hi:i<m.deeds.length):gE m (r++[i]) (aW m i b) (q+cst m i):=by
 refine{λk hk=>?_,?_,?_}
 ·rcases QL.mp hk with z|z
  ·exact h.1 k z
  ·rw[Qw.mp z];exact hi
 ·rw[<- h.2.1];unfold ends aW;rw[Rk];exact RG λs _=>pG r [i] s
 ·rw[<- h.2.2];show((r++[i]).map _).sum=_;rw[QF,List.sum_append];rfl
def vh (hm:aI m):∀r:List Nat,(∀i∈r,i<m.deeds.length)->r.length<=yQ m r
 |[],_=>RC _
 | a :: r, h => by
   have c:=(ic hm (h a QK)).1;have t:=vh hm r λi hi=>h i (Qz _ hi);show r.length+1<=cst m a+yQ m r;omega
def gE.len (hm:aI m)(h:gE m r b q):r.length<=q:=h.2.2 ▸ vh hm r h.1
end
abbrev F3:=List (aE×Nat×Nat)
noncomputable def vC (e:aE×Nat×Nat):D:=.tup [nD e.2.1,.cell e.2.2]
noncomputable def kB (E:F3):List D:=iS (·.1) vC E
noncomputable def un (E:F3):fC:=E.map λe=>(e.1,e.2.1,[])
def qD (E:F3):(un E).map (·.1)=E.map (·.1):=by unfold un;rw[Rk];rfl
def mG (E N:F3):un (E++N)=un E++un N:=QF
def IT (E:F3):(un E).length=E.length:=Qf _
def zG:(∃e∈un E,e.1=b)↔∃e∈E,e.1=b:=by
 constructor
 ·rintro⟨x,hx,rfl⟩;obtain⟨e,he,rfl⟩:=Qx.mp hx;exact⟨e,he,rfl⟩
 ·rintro⟨e,he,rfl⟩;exact{_,Rf he,rfl}
structure kI (B0:Nat) (M0 M:Mem) (m:aO) (lv fk:Nat) (E:F3) (L:List aE):Prop where
 f:M[fk]?=some (kB E)
 fl:fk<M0.length
 ll:lv<M0.length
 lo:B0<=M0.length
 l:M[M0.length]?=some (L.map bD)
 r:∀e∈E,(∃r,M[e.2.2]?=some (r.map nD)/\gE m r e.1 e.2.1)/\e.2.2≠fk/\e.2.2≠M0.length/\e.2.2≠lv/\B0<=e.2.2
 k:aY fk M0 M
 nd:(E.map (·.1)).Nodup
noncomputable def uA (c:Call):GS:=#v[aw (.one 10) (ai 152 c #[aa 7,aa 9]),aQ (aj (fZ true (aa 10) (aa 2))) #v[gr (aa 2) (aa 10) (bB #[aa 3,av true .add (au (eU (aa 2) (aa 9)) (gI 1)) (bu false #[aa 5])]),dS (aa 4) (aa 10),aQ (aj (aA .gt (fS (aa 2)) (gI 255))) #v[gi 8 #[uX "rows have more than " " behaviours" (gI 255)]] aG] aG]
def d3 {M:Mem}(e:M[k]?=some x):k<M.length:=(Qg.mp e).1
def iA (ea:a Z M=.ok x M1)(es:s Z M1=.ok xs M2):bg a s Z M=.ok (x::xs) M2:=by
 unfold bg;rw[ea];show(s Z M1).bind _=_;rw[es];rfl
def lr (ha:a Z M=.ok x M)(hb:b Z M=.ok y M):av k o a b Z M=f6 k o x y M:=by
 unfold av;rw[ha];show(b Z M).bind _=_;rw[hb];rfl
def mH (e:s Z M=.ok xs M1)(hl:xs.length<=100):bB s Z M=.ok (.tup xs) M1:=by
 unfold bB;rw[e];exact if_pos (ax `a)
section
variable{P:Nat->Option Df}{M0 M:Mem}{m:aO}{lk lv fk p i B0:Nat}{E:F3}{L:List aE}{b:aE}{x0 x1 x6 x8 x10:Option D}
def LS (h152:P 152=some {2,2,eT})(n:Nat)(hm:aI m)(hE:E.length<=255)(s:kI B0 M0 M m lv fk E L)(hL:L.length<=255)(ek:M[lk]?=some (fy m (cZ m i)))(hp:p<=900)(hi:i<m.deeds.length)
 (hl:b.length<=16) (hb:∀s∈b,dz m s) (hin:∃e∈E,e.1=b/\e.2.1+cst m i=p) :
 ae (uA (ah P (n+1)) [x0,x1,some (.fn (az fk)),some (nD p),some (.cell M0.length),some (nD i),x6,some (.fn (az lk)),x8,some (bD b),x10] M) λfl M'=>
  ((∃e∈E,e.1=aW m i b)/\M'=M/\fl=.next [x0,x1,some (.fn (az fk)),some (nD p),some (.cell M0.length),some (nD i),x6,some (.fn (az lk)),x8,some (bD b),some (bD (aW m i b))])\/
  ((∀ e ∈ E, e.1 ≠ aW m i b) /\ ∃ c, kI B0 M0 M' m lv fk (E ++ [(aW m i b, p, c)]) (L ++ [aW m i b]) /\
    ((E.length < 255 /\ fl = .next [x0, x1, some (.fn (az fk)), some (nD p), some (.cell M0.length), some (nD i), x6, some (.fn (az lk)), x8, some (bD b), some (bD (aW m i b))]) \/
     (E.length=255/\∃Z,fl=.exc (.exc 8 none) Z))):=by
 refine bL (bY (x:=bD (aW m i b)) ((aU (ag rfl (ag rfl rfl))).trans (Ai h152 n ek hm hl hb))) ?_;refine bG (bV (u9 rfl rfl (qm s.f))) (λhc=>?_) λhc=>.inl {Iv hc,rfl,rfl};have hno:=L4 hc;obtain⟨e,he,eb,ep⟩:=hin;obtain⟨⟨r,er,ro⟩,_⟩:=s.r e he;have hr:=ro.len hm;have hlen:=d3 s.l;have ed:=Bw s.f s.nd he;rw[eb] at ed;have e1:(M++[(r++[i]).map nD])[fk]?=some (kB E):=by rw[Qn (d3 s.f)];exact s.f
 have ev:bB #[aa 3,av true .add (au (eU (aa 2) (aa 9)) (gI 1)) (bu false #[aa 5])] [x0,x1,some (.fn (az fk)),some (nD p),some (.cell M0.length),some (nD i),x6,some (.fn (az lk)),x8,some (bD b),some (bD (aW m i b))] M=.ok (vC (aW m i b,p,M.length)) (M++[(r++[i]).map nD]):=by
  refine mH (iA rfl (iA ?_ rfl)) (QM rfl);refine(lr (bE (uV (x:=.non) rfl rfl ed) rfl rfl) (k9 (ag rfl rfl) (QM rfl))).trans ?_;show(match M[e.2.2]?,(some [nD i]:Option (List D)) with|some x,some y=>ba true (x++y) M|_,_=>.bad)=_
  rw[er];show(if (r.map nD++[nD i]).length<=sz then _ else _)=_;rw[if_pos (ax `o),QF];rfl
 refine dC (M':=(M++[(r++[i]).map nD]).set fk (kB (E++[(aW m i b,p,M.length)]))) (DJ ev rfl rfl e1 `a hno) ?_
 have nf:=QY s.fl;have eL1:((M++[(r++[i]).map nD]).set fk (kB (E++[(aW m i b,p,M.length)])))[M0.length]?=some (L.map bD):=by rw[Qo nf,Qn hlen];exact s.l
 refine dC (L3 rfl rfl eL1 (by rw[Qf];exact RO hL `d)) ?_
 generalize hM':((M++[(r++[i]).map nD]).set fk (kB (E++[(aW m i b,p,M.length)]))).set M0.length (L.map bD++[bD (aW m i b)])=M';have old:∀{j:Nat}{x:List D},j≠fk->j≠M0.length->M[j]?=some x->M'[j]?=some x:=λ{j x} h1 h2 e=>by
  rw[<- hM',Qo (Ru h2),Qo (Ru h1),Qn (d3 e)];exact e
 have s2:kI B0 M0 M' m lv fk (E++[(aW m i b,p,M.length)]) (L++[aW m i b]):=by
  refine{?_,s.fl,s.ll,s.lo,?_,λe' he'=>?_,{?_,λj hj n=>?_},?_}
  ·rw[<- hM',Qo (Ru nf),QS (by simp;exact RT (d3 s.f))]
  ·rw[<- hM',QS `o,QF];rfl
  ·rcases QL.mp he' with z|z
   ·obtain⟨⟨r',er',ro'⟩,k1,k2,k3⟩:=s.r e' z;exact{{r',old k1 k2 er',ro'},k1,k2,k3}
   ·obtain rfl:=Qw.mp z;refine{{r++[i],?_,?_},Rq (d3 s.f),Rq hlen,Rq (Nat.lt_trans s.ll hlen),Qp s.lo (So hlen)}
    ·rw[<- hM',Qo (QY hlen),Qo (QY (d3 s.f))];simp
    ·have:=ro.snoc hi;rw[ep,eb] at this;exact this
  ·rw[<- hM'];have:=s.k.len;simp;omega
  ·rw[<- hM',Qo `a,Qo (Ru n),Qn `a];exact s.k.at' j hj n
  ·rw[QF,Sa];exact{s.nd,`s,λx hx y hy z=>by
    obtain⟨w,hw,rfl⟩:=Qx.mp hx;have hy:y=aW m i b:=by simpa using hy
    exact hno w hw (z.trans hy)}
 refine bG (Bq (xq rfl (gm s2.f)) rfl) (λh=>?_) λh=>?_
 ·have h:=of_decide_eq_true h;simp only[aD,CM];refine bX.mpr ?_;rw[Nm rfl `d `d `d,aR]
  refine{ax `d,.inr {hno,_,s2,.inr {?_,_,rfl}}}
  simp at h;omega
 ·have h:=of_decide_eq_false h;refine .inr {hno,_,s2,.inl {?_,rfl}};simp at h;omega
end
section
variable{P:Nat->Option Df}{M0 M:Mem}{m:aO}{lk lv fk p i B0:Nat}{E0:F3}{A:List aE}{x8:D}{S:aE->Prop}{x0 x1 x6 x9 x10:Option D}
def wV (h:vV M0 fk x8 A)(k:aY fk M0 M):cE M x8=some (A.map bD):=by
 rcases h with rfl|⟨c,rfl,hc,e⟩
 ·rfl
 ·exact k.get e hc
def HF (h152:P 152=some {2,2,eT})(n:Nat)(hm:aI m)(hi:i<m.deeds.length)(ek:M0[lk]?=some (fy m (cZ m i)))(hk:lk≠fk)(hA:vV M0 fk x8 A)(hAE:∀b∈A,∃e∈E0,e.1=b/\e.2.1+cst m i=p)(hok:∀b∈A,b.length<=16/\∀s∈b,dz m s)(hp:p<=900)
 (s:kI B0 M0 M m lv fk (E0++N) (N.map (·.1))) (h:NW p (un E0) S (un N)) (hl:(E0++N).length<=255)
 (k1:∀M' N' y9 y10,kI B0 M0 M' m lv fk (E0++N') (N'.map (·.1))->NW p (un E0) (λb=>S b\/b∈A.map (aW m i)) (un N')->(E0++N').length<=255->kf (.next [x0,x1,some (.fn (az fk)),some (nD p),some (.cell M0.length),some (nD i),x6,some (.fn (az lk)),some x8,y9,y10]) M')
 (k2:∀Z M',aY fk M0 M'->sV p (un E0) (λb=>S b\/b∈A.map (aW m i))->kf (.exc (.exc 8 none) Z) M') :
 ae (cm (.one 9) (bK (aa 8)) (uA (ah P (n+1))) [x0,x1,some (.fn (az fk)),some (nD p),some (.cell M0.length),some (nD i),x6,some (.fn (az lk)),some x8,x9,x10] M) kf:=by
 simp only[eW,gQ,bw];refine{_,rfl,by rcases hA with rfl|⟨c,rfl,_⟩<;>rfl,?_}
 refine jq (ds:=A.map bD) (λj Z M'=>∃N' y9 y10,kI B0 M0 M' m lv fk (E0++N') (N'.map (·.1))/\NW p (un E0) (λb=>S b\/b∈(A.take j).map (aW m i)) (un N')/\(E0++N').length<=255/\Z=[x0,x1,some (.fn (az fk)),some (nD p),some (.cell M0.length),some (nD i),x6,some (.fn (az lk)),some x8,y9,y10])
  (λfl M'=>(∃Z,fl=.exc (.exc 8 none) Z)/\aY fk M0 M'/\sV p (un E0) (λb=>S b\/b∈A.map (aW m i))) ?_ ?_ ?_ {N,x9,x10,s,?_,hl,rfl} ?_ ?_ ?_
 ·rintro fl M' ⟨⟨Z,rfl⟩,_⟩ ρ' z;cases z
 ·rintro j Z M' ⟨N',_,_,s',_⟩;exact wV hA s'.k
 ·rintro fl M' ⟨_,k,_⟩;exact wV hA k
 ·exact{h.nd,λx hx=>{.inl (h.fr x hx).1,(h.fr x hx).2},λb hb=>hb.elim (h.al b) λz=>by simp at z}
 ·rintro j x Z M' hd ⟨N',y9,y10,s',nw,hl',rfl⟩;rw[QC] at hd;cases e:A[j]? with
  |none=>rw[e] at hd;cases hd
  | some b =>
    rw[e] at hd;have hd:=Qv hd;subst hd;have hb:=QR e;refine{_,rfl,?_};obtain⟨e0,he0,eb,ep⟩:=hAE b hb;have hset:∀x,(S x\/x∈(A.take (j+1)).map (aW m i))↔((S x\/x∈(A.take j).map (aW m i))\/x=aW m i b):=λx=>by
     rw[RD,e];simp[or_assoc]
    have hsub:∀x,(S x\/x∈(A.take (j+1)).map (aW m i))->(S x\/x∈A.map (aW m i)):=λx hx=>hx.imp id λz=>by
     obtain⟨y,hy,rfl⟩:=Qx.mp z;exact Rf (RW hy)
    refine aJ (LS h152 n hm hl' s' (by rw[Qf];simp at hl';omega) (s'.k.get ek hk) hp hi (hok b hb).1 (hok b hb).2 {e0,RE _ he0,eb,ep}) ?_
    rintro fl M' (⟨hin,rfl,rfl⟩|⟨hno,c,s2,hh⟩)
    ·exact .inl {_,rfl,N',_,_,s',nw.old hset (by rw[<- mG];exact zG.mpr hin),hl',rfl}
    ·have nw2:=nw.new hset (r:=[]) (λx hx z=>by
      rw[<- mG] at hx;obtain⟨e2,he2,z2⟩:=zG.mp ⟨x,hx,z⟩;exact hno e2 he2 z2) (RC _)
     rw[show un N'++[(aW m i b,p,[])]=un (N'++[(aW m i b,p,c)]) from(mG N' [(aW m i b,p,c)]).symm] at nw2;rw[Ry,show N'.map (·.1)++[aW m i b]=(N'++[(aW m i b,p,c)]).map (·.1) from by rw[QF];rfl] at s2
     rcases hh with⟨hlt,rfl⟩|⟨heq,Z,rfl⟩
     ·exact .inl {_,rfl,_,_,_,s2,nw2,by simp at hlt ⊢;omega,rfl}
     ·exact .inr {{_,rfl},s2.k,_,nw2.nd,λx hx=>{hsub _ (nw2.fr x hx).1,(nw2.fr x hx).2.1},by rw[<- mG,IT];simp at heq ⊢;omega}
 ·rintro Z M' ⟨N',y9,y10,s',nw,hl',rfl⟩;rw[Qf,Rv (Ql _)] at nw;exact k1 M' N' y9 y10 s' nw hl'
 ·rintro fl M' ⟨⟨Z,rfl⟩,k,ov⟩;exact k2 Z M' k ov
end
structure mz (B0:Nat) (M:Mem) (m:aO) (L0 lv fk:Nat) (E:F3) (lvs:List D) (p:Nat) (Ls:Nat->List aE):Prop where
 f:M[fk]?=some (kB E)
 l:M[lv]?=some lvs
 ne:lv≠fk
 len:lvs.length=p
 lvl:∀q x,lvs[q]?=some x->vV M fk x (Ls q)
 led:∀i,i<m.deeds.length->M[L0+i]?=some (fy m (cZ m i))/\L0+i≠fk/\L0+i≠lv
 lvn:∀(q c:Nat),lvs[q]?=some (D.cell c)->c≠lv
 row:∀e∈E,(∃r,M[e.2.2]?=some (r.map nD)/\gE m r e.1 e.2.1)/\e.2.2≠fk/\e.2.2≠lv/\B0<=e.2.2
 lo:B0<=fk
 lss:∀q,q<p->∀b,b∈Ls q↔bF m q b
 all:cz m p ((un E).map pr)
 few:E.length<=255
noncomputable def ES (c:Call):GS:=#v[aw (.one 8) (gG (aj (aA .le (aa 6) (aa 3))) (au (aa 1) (av false .sub (aa 3) (aa 6))) (bu false bj)),cm (.one 9) (bK (aa 8)) (uA c)]
section
variable{P:Nat->Option Df}{M:Mem}{m:aO}{L0 lv fk p B0:Nat}{E0:F3}{lvs:List D}{Ls:Nat->List aE}
def CD (hbn:∀c,bn c=#v[aw (.one 3) (aM .len #[aa 1]),aw (.one 4) (bu true bj),cm (.two 5 [6,7]) (gz (aa 0)) (ES c),aP (aa 4)])(h152:P 152=some {2,2,eT})(hnx:P nx=some {3,11,bn})(n:Nat)(hm:aI m)(hp:p<=900)(s:mz B0 M m L0 lv fk E0 lvs p Ls) :
 fX (ah P (n+2) nx [d4 m L0,.cell lv,.fn (az fk)] M) (λd M'=>d=.cell M.length/\∃N,kI B0 M M' m lv fk (E0++N) (N.map (·.1))/\NW p (un E0) (jT m p Ls m.deeds.length) (un N)/\(E0++N).length<=255)
  (λx M'=>x=.exc 8 none/\sV p (un E0) (jT m p Ls m.deeds.length)/\aY fk M M'):=by
 refine pI hnx rfl ?_;show ae (bn (ah P (n+1)) [some (d4 m L0),some (.cell lv),some (.fn (az fk)),none,none,none,none,none,none,none,none] M) _;rw[hbn];have hf:=d3 s.f;have hlv:=d3 s.l;have nd0:(E0.map (·.1)).Nodup:=by have:=s.all.nd;rw[iy,qD] at this;exact this
 have el:aM .len #[aa 1] [some (d4 m L0),some (.cell lv),some (.fn (az fk)),none,none,none,none,none,none,none,none] M=.ok (nD p) M:=by
  refine ak (b5.mpr ?_);rw[ag rfl rfl,aR];show ae (match M[lv]? with|some xs=>Res.ok (D.int xs.length) M|none=>.bad) _
  rw[s.l];exact{by show D.int (lvs.length:Int)=_;rw[s.len],rfl}
 refine bL (bY el) ?_;refine dC rfl ?_;rw[aD];simp only[eW,zC,bw];refine{_,rfl,rfl,?_};have start:kI B0 M (M++[[]]) m lv fk (E0++[]) []:=by
  rw[Ri];refine{by rw[Qn hf];exact s.f,hf,hlv,Qp s.lo (So hf),`s,λe he=>?_,aY.app,nd0}
  obtain⟨⟨r,er,ro⟩,h1,h2⟩:=s.row e he;have:=d3 er;exact{{r,by rw[Qn this];exact er,ro},h1,QY this,h2}
 have hmem:∀q,q<p->∀b∈Ls q,(∃e∈E0,e.1=b/\e.2.1=q)/\b.length<=16/\∀s∈b,dz m s:=λq hq b hb=>by
  have lb:=(s.lss q hq b).mp hb;have ok:=mK hm lb.1;refine{?_,by rw[ok.1];exact cf hm,ok.2}
  have:=s.all.all q b hq lb;unfold un at this;rw[Rk] at this;obtain⟨e,he,z⟩:=Qx.mp this;cases z;exact⟨e,he,rfl,rfl⟩
 refine jq (λi Z M'=>∃N y5 y6 y7 y8 y9 y10,kI B0 M M' m lv fk (E0++N) (N.map (·.1))/\NW p (un E0) (jT m p Ls i) (un N)/\(E0++N).length<=255/\Z=[some (d4 m L0),some (.cell lv),some (.fn (az fk)),some (nD p),some (.cell M.length),y5,y6,y7,y8,y9,y10])
  (λfl M'=>(∃Z,fl=.exc (.exc 8 none) Z)/\aY fk M M'/\sV p (un E0) (jT m p Ls m.deeds.length)) ?_ (λ_ _ _ _=>rfl) (λ_ _ _=>rfl) {[],none,none,none,none,none,none,start,?_,?_,rfl} ?_ ?_ ?_
 ·rintro fl M' ⟨⟨Z,rfl⟩,_⟩ ρ' z;cases z
 ·exact{by rw[show un []=[] from rfl,Ri,qD];exact nd0,(λx hx=>nomatch hx),λb ⟨i,hi,_⟩=>absurd hi (RQ _)}
 ·rw[Ri];exact s.few
 ·rintro i x Z M' hx ⟨N,y5,y6,y7,y8,y9,y10,s',nw,hl,rfl⟩;obtain⟨x2,hx2,rfl⟩:=xm hx;rw[QC] at hx2;have hi:i<m.deeds.length:=by
   have:=(Qg.mp hx).1;rw[l9] at this;simpa using this
  rw[SH hi] at hx2;cases hx2;rw[Nat.zero_add];refine{_,rfl,?_};obtain⟨hk1,hk2,_⟩:=s.led i hi;have cok:=ic hm hi;have hset:∀b,(jT m p Ls i b\/b∈(jh m p Ls i).map (aW m i))↔jT m p Ls (i+1) b:=λb=>by
   constructor
   ·rintro(⟨j,hj,h⟩|h)
    ·exact{j,RT hj,h}
    ·exact{i,Nat.lt_succ_self _,h}
   ·rintro⟨j,hj,h⟩;rcases RU j i with z|z
    ·exact .inl ⟨j,z,h⟩
    ·have:j=i:=`a
     subst this;exact .inr h
  have hx8:∃x8,gG (aj (aA .le (aa 6) (aa 3))) (au (aa 1) (av false .sub (aa 3) (aa 6))) (bu false bj) [some (d4 m L0),some (.cell lv),some (.fn (az fk)),some (nD p),some (.cell M.length),some (nD i),some (nD (cst m i)),some (.fn (az (L0+i))),y8,y9,y10] M'=.ok x8 M'/\vV M fk x8 (jh m p Ls i):=by
   have hle:aj (aA .le (aa 6) (aa 3)) [some (d4 m L0),some (.cell lv),some (.fn (az fk)),some (nD p),some (.cell M.length),some (nD i),some (nD (cst m i)),some (.fn (az (L0+i))),y8,y9,y10] M'=.ok (decide ((cst m i:Int)<=(p:Int))) M':=by
    exact dF (gV.mpr (eC.mpr (bw.mpr {_,rfl,bw.mpr {_,rfl,_,rfl,_,rfl,rfl,rfl}})))
   by_cases hc:cst m i<=p
   ·have hq:p-cst m i<lvs.length:=by rw[s.len];omega
    refine{lvs[p-cst m i],jn hle (λ_=>?_) (λz=>absurd `a (of_decide_eq_false z)),?_}
    ·refine bE (y:=nD (p-cst m i)) rfl ?_ ?_
     ·refine ak (j9.mpr (bw.mpr {_,rfl,bw.mpr {_,rfl,Jh.mpr {?_,rfl}}}))
      congr 1;omega
     ·show(M'[lv]?).bind _=_;rw[s'.k.get s.l s.ne];show((cw lvs.length ((p-cst m i:Nat):Int)).bind λj=>lvs[j]?)=_;rw[dD hq];exact Qq hq
    ·have:=s.lvl _ _ (Qq hq);unfold jh;rw[if_pos hc];exact this
   ·refine{.lst [],jn hle (λz=>absurd (of_decide_eq_true z) `a) (λ_=>k9 rfl `d),?_}
    unfold jh;rw[if_neg hc];exact .inl rfl
  obtain⟨x8,e8,l8⟩:=hx8;refine bL (bY e8) ?_;rw[aD];have hAm:∀b∈jh m p Ls i,cst m i<=p/\b∈Ls (p-cst m i):=λb hb=>by
   unfold jh at hb;split at hb
   ·next hc=>exact⟨hc,hb⟩
   ·exact nomatch hb
  refine HF h152 n hm hi hk1 hk2 l8 (λb hb=>?_) (λb hb=>?_) hp s' nw hl (λM2 N' z9 z10 s2 nw' hl'=>?_) λZ M2 k2 ov=>?_
  ·obtain⟨hc,h2⟩:=hAm b hb;obtain⟨e,he,eb,eq⟩:=(hmem _ `a b h2).1
   exact{e,he,eb,`a}
  ·obtain⟨hc,h2⟩:=hAm b hb;exact(hmem _ `a b h2).2
  ·refine .inl {_,rfl,N',_,_,_,_,_,_,s2,?_,hl',rfl};exact{nw'.nd,λx hx=>{(hset _).mp (nw'.fr x hx).1,(nw'.fr x hx).2},λb hb=>nw'.al b ((hset b).mpr hb)}
  ·refine .inr {{_,rfl},k2,ov.mono λb hb=>?_};obtain⟨j,hj,h⟩:=(hset b).mp hb;exact{j,`a,h}
 ·rintro Z M' ⟨N,y5,y6,y7,y8,y9,y10,s',nw,hl,rfl⟩;rw[l9,Qf,Rt] at nw;exact bx.mpr (bW rfl ⟨rfl,N,s',nw,hl⟩)
 ·rintro fl M' ⟨⟨Z,rfl⟩,k,ov⟩;exact⟨rfl,ov,k⟩
end
section
variable{M M':Mem}{m:aO}{L0 lv fk p B0:Nat}{E0 N:F3}{lvs:List D}{Ls:Nat->List aE}{Z:Env}
def mz.next (hm:aI m)(hp:0<p)(s:mz B0 M m L0 lv fk E0 lvs p Ls)(s':kI B0 M M' m lv fk (E0++N) (N.map (·.1)))(nw:NW p (un E0) (jT m p Ls m.deeds.length) (un N))(hl:(E0++N).length<=255) :
 mz B0 (M'.set lv (lvs++[.cell M.length])) m L0 lv fk (E0++N) (lvs++[.cell M.length]) (p+1) (lsN Ls p (N.map (·.1))):=by
 obtain⟨h1,h2⟩:=Ht hm hp s.lss s.all nw;rw[qD] at h2;rw[<- mG] at h1;have ml:=QN s'.ll s'.k.len;have old:∀{c:Nat}{x:List D},c≠fk->c≠lv->M[c]?=some x->(M'.set lv (lvs++[.cell M.length]))[c]?=some x:=λn1 n2 e=>by
  rw[Qo (Ru n2)];exact s'.k.get e n1
 refine{?_,QS ml,s.ne,by simp[s.len],λq x hx=>?_,λi hi=>?_,λq c hc=>?_,λe he=>?_,s.lo,λq hq b=>?_,h1,hl}
 ·rw[Qo s.ne];exact s'.f
 ·rcases RU q p with z|z
  ·rw[Qn (by rw[s.len];exact z)] at hx
   unfold lsN;rw[if_neg `a]
   rcases s.lvl q x hx with y|⟨c,y,n1,e⟩
   ·exact .inl y
   ·exact .inr {c,y,n1,old n1 (s.lvn q c (y ▸ hx)) e}
  ·have hq:q=p:=by
    have:=(Qg.mp hx).1;simp[s.len] at this;omega
   subst hq;rw[Q0 (by rw[s.len];exact Ql _),s.len,Nat.sub_self] at hx
   cases hx;unfold lsN;rw[if_pos rfl];refine .inr {_,rfl,Rq s'.fl,?_};rw[Qo (QY s'.ll)];exact s'.l
 ·obtain⟨e1,e2,e3⟩:=s.led i hi;exact{old e2 e3 e1,e2,e3}
 ·rcases RU q p with z|z
  ·rw[Qn (by rw[s.len];exact z)] at hc
   exact s.lvn q c hc
  ·have hq:q=p:=by
    have:=(Qg.mp hc).1;simp[s.len] at this;omega
   subst hq;rw[Q0 (by rw[s.len];exact Ql _),s.len,Nat.sub_self] at hc
   cases hc;exact Rq s'.ll
 ·obtain⟨⟨r,er,ro⟩,n1,_,n3,n4⟩:=s'.r e he;exact{{r,by rw[Qo (Ru n3)];exact er,ro},n1,n3,n4}
 ·unfold lsN;split
  ·next z=>rw[z];exact h2 b
  ·next z=>exact s.lss q `a b
def BP (s:mz B0 M m L0 lv fk E0 lvs p Ls)(hp:p<=900)(hi:Z[i]?.getD none=some (.cell lv)):∃b:Bool,aj (kA (cn false true false (aa i) (dE (gI 3)) gN)) Z M=.ok b M/\(b=false->∀q,q<p->p<=q+3->Ls q=[])/\(b=true->∃q,q<p/\p<=q+3/\Ls q≠[]):=by
 have es:cn false true false (aa i) (dE (gI 3)) gN Z M=.ok (.lst (lvs.drop (p-3))) M:=by
  refine ak (oh.mpr (bw.mpr {_,hi,tm.mpr (dJ.mpr {3,rfl,dJ.mpr {rfl,rfl,?_}})}));show ae (match M[lv]? with|some xs=>(match aS xs.length 0 (.int (-3)),aS xs.length xs.length .non with|some l,some h=>ba false (cut xs l h) M|_,_=>.bad)|none=>.bad) _
  rw[s.l];show ae (ba false (cut lvs (-3+(lvs.length:Int)).toNat lvs.length) M) _;have hl:=s.len;have e1:(-3+(lvs.length:Int)).toNat=p-3:=`a
  have e2:cut lvs (p-3) lvs.length=lvs.drop (p-3):=by
   exact Rv `s
  rw[e1,e2];exact bI.mpr {ax `o,rfl,rfl}
 refine{((List.range (lvs.drop (p-3)).length).map λj=>!(Ls (p-3+j)).isEmpty).any id,?_,λh q hq hq2=>?_,λh=>?_}
 ·refine bV ?_;unfold kA;rw[es];show(match gR M (lvs.drop (p-3)) with|some bs=>Res.ok (D.bl (bs.any id)) M|none=>.bad)=_
  rw[we (g:=λq=>!(Ls q).isEmpty) λj x hx=>?_];rw[List.getElem?_drop] at hx;exact Kz (s.lvl _ x hx)
 ·have z:=List.any_eq_false.mp h;have h1:=z (!(Ls q).isEmpty) (Qx.mpr {q-(p-3),?_,?_})
  ·cases e:(Ls q) with
   |nil=>rfl
   |cons a l=>rw[e] at h1;exact absurd rfl h1
  ·rw[RP,List.length_drop,s.len];omega
  ·rw[show p-3+(q-(p-3))=q by omega]
 ·obtain⟨x,hx,hb⟩:=RS.mp h;obtain⟨j,hj,rfl⟩:=Qx.mp hx;rw[RP,List.length_drop,s.len] at hj;refine{p-3+j,`a,`a,λz=>?_}
  rw[z] at hb;cases hb
def NL {c:Int}(hc:c=77\/c=78)(h1:gk Z (M++[[D.int c]])=.ok x (M++[[D.int c]]))(h2:gv Z (M++[[D.int c]])=.ok y (M++[D.int c]::X))(hk:isKey c x=true):xg c gk gv Z M=.ok (.fn (az M.length)) (M++[D.int c,D.tup [x,y]]::X):=by
 unfold xg;rw[h1];show(gv Z (M++[[D.int c]])).bind _=_;rw[h2];have e:bR (M++[D.int c]::X) (az M.length)=some (c,[]):=jH `s hc
 show(match bR (M++[D.int c]::X) (az M.length) with|some q=>if isKey q.1 x=true/\q.2.length<1000000 then Res.ok (D.fn (az M.length)) ((M++[D.int c]::X).set (az M.length-5000) (.int q.1::putD q.2 x y)) else .bad|none=>.bad)=_
 rw[e];show(if isKey c x=true/\0<1000000 then Res.ok (D.fn (az M.length)) ((M++[D.int c]::X).set (az M.length-5000) (.int c::putD [] x y)) else .bad)=_;rw[if_pos {hk,`d},show az M.length-5000=M.length from Rr _ _,List.set_append_right _ _ (Ql _),Nat.sub_self]
 rfl
end
noncomputable def sS:Option Nat->D
 |none=>.non
 |some b=>nD b
noncomputable def AllIn (m:aO):Option Nat->List (aE×Nat)->Prop
 |some b,A=>cz m (b+1) A
 |none,A=>∃p,cz m p A/\∀q,p<=q->∀b,¬ bF m q b
noncomputable def jQ (m:aO):Option Nat->Prop
 |some b=>kG m (b+1)
 |none=>∃p,kG m p
noncomputable def vS (m:aO)(B0:Nat)(M:Mem)(E:F3):Prop:=∀e∈E,(∃r,M[e.2.2]?=some (r.map nD)/\gE m r e.1 e.2.1)/\B0<=e.2.2
section
variable{P:Nat->Option Df}{M:Mem}{m:aO}{bd:Option Nat}
def Ag (hbn:∀c,bn c=#v[aw (.one 3) (aM .len #[aa 1]),aw (.one 4) (bu true bj),cm (.two 5 [6,7]) (gz (aa 0)) (ES c),aP (aa 4)])
 (hbr:∀c,br c=#v[d9 (.one 2) (bQ 151 c #[aa 0]),aw (.one 3) (aM .tuple #[ai 15 c #[aa 0]]),aw (.one 4) (xg 78 (aa 3) (bB #[gI 0,bu true bj])),aw (.one 5) (bu true #[bu false #[aa 3]]),gg (gW (aj (kA (cn false true false (aa 5) (dE (gI 3)) gN))) (dN (aj (aA .isN (aa 1) gN)) (aj (aA .le (aM .len #[aa 5]) (aa 1))))) #v[nQ (aa 5) (bQ nx c #[aa 2,aa 5,aa 4])],aP (aa 4)])
 (hb:HasB0 P) (hr:jf P) (h15:P 15=some {1,6,cg}) (h151:P 151=some {1,2,dY}) (h152:P 152=some {2,2,eT}) (hnx:P nx=some {3,11,bn}) (hrc:P rc=some {2,6,br}) (n:Nat) (hm:aI m) (hbd:∀b,bd=some b->b<=70) :
 fX (ah P (n+11) rc [m.d,sS bd] M) (λd M'=>∃fk E,d=.fn (az fk)/\M.length<=fk/\M'[fk]?=some (kB E)/\vS m M.length M' E/\AllIn m bd ((un E).map pr)/\E.length<=255/\Sub M M') (λx M'=>x=.exc 8 none/\jQ m bd/\Sub M M'):=by
 refine pI hrc rfl ?_;show ae (br (ah P (n+10)) [some m.d,some (sS bd),none,none,none,none] M) _;rw[hbr];refine dC (oE ((eQ (ag rfl rfl)).trans (t6 hb hr h15 h151 n hm))) ?_;have et:aM .tuple #[ai 15 (ah P (n+10)) #[aa 0]] [some m.d,some (sS bd),some (d4 m M.length),none,none,none] (M++m.deeds.map (fy m))=.ok (bD (a7 m)) (M++m.deeds.map (fy m)):=by
  refine ak (b5.mpr ?_);rw[ag ((aU (ag rfl rfl)).trans (kK hb h15 (n+1) hm)) rfl,aR];exact⟨rfl,rfl⟩
 refine dC (fJ et) ?_;generalize hM1:M++m.deeds.map (fy m)=M1;have ev:bB #[gI 0,bu true bj] [some m.d,some (sS bd),some (d4 m M.length),some (bD (a7 m)),none,none] (M1++[[D.int 78]])=.ok (.tup [.int 0,.cell (M1.length+1)]) (M1++[D.int 78]::[[]]):=by
  refine mH (iA rfl (iA ?_ rfl)) (QM rfl);show Res.ok (D.cell (M1++[[D.int 78]]).length) ((M1++[[D.int 78]])++[[]])=_;rw[QO,Ry];rfl
 refine dC (fJ (NL (.inr rfl) rfl ev (j6 _))) ?_;generalize hM2:M1++[D.int 78,D.tup [bD (a7 m),D.tup [D.int 0,D.cell (M1.length+1)]]]::[[]]=M2;refine dC rfl ?_;have l1:M1.length=M.length+m.deeds.length:=by rw[<- hM1];simp
 have l2:M2.length=M1.length+2:=by rw[<- hM2];simp
 have s1:Sub M (M2++[[.lst [bD (a7 m)]]]):=by rw[<- hM2,<- hM1,Ry,Ry];exact Sub.app
 have start:mz M.length (M2++[[.lst [bD (a7 m)]]]) m M.length M2.length M1.length [(a7 m,0,M1.length+1)] [.lst [bD (a7 m)]] 1 (λ_=>[a7 m]):=by
  refine{?_,`s,`a,rfl,λq x hx=>?_,λi hi=>?_,λq c hc=>?_,?_,`a,λq hq b=>?_,{by simp[un],λx hx=>?_,λq b hq hl=>?_},QM rfl}
  ·rw[Qn `a,<- hM2,Q0 (Ql _),Nat.sub_self];rfl
  ·cases q with
   |zero=>cases hx;exact .inl rfl
   |succ q=>simp at hx
  ·refine{?_,`a,`a}
   rw[Qn `a,<- hM2,Qn `a,<- hM1,Q0 `a]
   rw[Rr,QC,Qq hi];rw[<- om (Qq hi)];rfl
  ·cases q with
   |zero=>cases hc
   |succ q=>simp at hc
  ·intro e he;obtain rfl:=Qw.mp he;refine{{[],?_,gE.nil},by show M1.length+1≠M1.length;omega,by show M1.length+1≠M2.length;omega,by show M.length<=M1.length+1;omega}
   rw[Qn (by show M1.length+1<M2.length;omega),<- hM2,Q0 (by show M1.length<=M1.length+1;omega)]
   rw[Rr];rfl
  ·have:q=0:=`a
   subst this;rw[fQ hm];exact Qw
  ·have hx:=Qw.mp hx;subst hx;exact{(fQ hm).mpr rfl,Nat.zero_lt_one}
  ·have:q=0:=`a
   subst this;rw[(fQ hm).mp hl];exact Qw.mpr rfl
 rw[aD];refine oX (λk Z M'=>∃p E lvs Ls g,k=900-p/\1<=p/\(∀b,bd=some b->p<=b+1)/\g<=3/\p+2<=3*E.length+g/\(∀q,q<p->p<=q+g->Ls q=[])/\mz M.length M' m M.length M2.length M1.length E lvs p Ls/\Sub M M'/\Z=[some m.d,some (sS bd),some (d4 m M.length),some (bD (a7 m)),some (.fn (az M1.length)),some (.cell M2.length)]) ?_ `a {1,_,_,_,0,rfl,`a,λb _=>`a,`a,QM rfl,λq h1 h2=>`a,start,s1,rfl}
 rintro k Z M' ⟨p,E,lvs,Ls,g,rfl,hp1,hp2,hg,hpg,hge,s,hsub,rfl⟩;have few:=s.few;have hp:p<=800:=`a
 obtain⟨b,e1,hempty,hfull⟩:=BP s `a (Z:=[some m.d,some (sS bd),some (d4 m M.length),some (bD (a7 m)),some (.fn (az M1.length)),some (.cell M2.length)]) (i:=5) rfl
 have el:aM .len #[aa 5] [some m.d,some (sS bd),some (d4 m M.length),some (bD (a7 m)),some (.fn (az M1.length)),some (.cell M2.length)] M'=.ok (nD p) M':=by
  refine ak (b5.mpr ?_);rw[ag rfl rfl,aR];show ae (match M'[M2.length]? with|some xs=>Res.ok (D.int xs.length) M'|none=>.bad) _
  rw[s.l];exact{by show D.int (lvs.length:Int)=_;rw[s.len],rfl}
 have e3:∃b2:Bool,dN (aj (aA .isN (aa 1) gN)) (aj (aA .le (aM .len #[aa 5]) (aa 1))) [some m.d,some (sS bd),some (d4 m M.length),some (bD (a7 m)),some (.fn (az M1.length)),some (.cell M2.length)] M'=.ok b2 M'/\(b2=false->∃B,bd=some B/\p=B+1)/\(b2=true->∀B,bd=some B->p<=B):=by
  cases bd with
  |none=>exact{true,rfl,(λz=>by cases z),λ_ B z=>by cases z}
  | some B =>
    have hB:=hp2 B rfl;refine{decide ((p:Int)<=(B:Int)),nU (x:=false) rfl ?_,λz=>{B,rfl,by have:=of_decide_eq_false z;omega},λz B' e=>by cases e;have:=of_decide_eq_true z;omega}
    refine dF (gV.mpr (eC.mpr ?_));rw[el,aR];exact bw.mpr {_,rfl,_,rfl,_,rfl,rfl,rfl}
 obtain⟨b2,e4,hno,hyes⟩:=e3;rw[rJ e1 e4,aR];refine{λhv=>?_,λhv=>?_}
 ·have full:AllIn m bd ((un E).map pr):=by
   have stop:=λhb=>yA hm hp1 λq' h1 h2 c hl=>by
    have:=(s.lss q' h1 c).mpr hl;rw[hempty hb q' h1 h2] at this;exact nomatch this
   cases hb2:b2 with
   | false =>
     obtain⟨B,rfl,hpB⟩:=hno hb2;show cz m (B+1) _;rw[<- hpB];exact s.all
   | true =>
     rw[hb2,Bool.and_true] at hv;cases bd with
     |none=>exact{p,s.all,stop hv}
     |some B=>exact s.all.mono (by have:=hyes hb2 B rfl;omega) λq c hq _=>stop hv q hq c
  exact bx.mpr (bW rfl {M1.length,E,rfl,`a,s.f,λe he=>{(s.row e he).1,(s.row e he).2.2.2},full,few,hsub})
 ·have hb1:=(R8.mp hv).1;have hpb:=hyes (R8.mp hv).2;have hg2:g<=2:=by
   obtain⟨q,h1,h2,h3⟩:=hfull hb1;rcases RU g 3 with z|z
   ·omega
   ·exact absurd (hge q h1 `a) h3
  refine{900-(p+1),`a,?_}
  rw[aD];have sn:=CD hbn h152 hnx (n+8) hm `a s
  refine Iu rfl ?_;rw[eQ (ag rfl (ag rfl (ag rfl rfl)))];have sN:∀{M3:Mem},aY M1.length M' M3->Sub M M3:=λk=>{Qp hsub.len k.len,λj hj=>(k.at' j (QN hj hsub.len) `a).trans (hsub.at' j hj)}
  cases e:ah P (n+8+2) nx [d4 m M.length,.cell M2.length,.fn (az M1.length)] M' with
  |bad=>rw[e] at sn;exact sn.elim
  | err x M3 =>
    rw[e] at sn;obtain⟨rfl,ov,kk⟩:=sn;refine .inr {(λ_ z=>nomatch z),rfl,?_,sN kk};have mn:=CZ hm hp1 s.lss s.all ov;cases bd with
    |none=>exact{_,mn}
    |some B=>exact mn.mono (by have:=hpb B rfl;omega)
  | ok d M3 =>
    rw[e] at sn;obtain⟨rfl,N,s',nw,hl⟩:=sn;refine{lvs,s'.k.get s.l s.ne,by rw[s.len];exact RO hp `d,?_}
    have sx:=s.next hm hp1 s' nw hl
    refine .inl {_,rfl,p+1,E++N,_,_,if N=[] then g+1 else 0,rfl,`a,λB hB=>by have:=hpb B hB;omega,?_,?_,λq h1 h2=>?_,sx,(sN s'.k).setq `a,rfl}
    ·split<;>omega
    ·cases N with
     |nil=>rw[if_pos rfl,Ri];omega
     |cons a N=>rw[if_neg `s,QO,RL];omega
    ·unfold lsN;split
     ·next z=>
      cases N with
      |nil=>rfl
      |cons a N=>rw[if_neg `s] at h2;omega
     ·next z=>
      cases N with
      |nil=>rw[if_pos rfl] at h2;exact hge q `a `a
      |cons a N=>rw[if_neg `s] at h2;omega
end
structure Ox where
 place:Nat
 num:Nat
 back:Bool
noncomputable def Ox.d (s:Ox):D:=.tup [nD s.place,nD s.num,.bl s.back]
def sG (f:D->Bool)(g:D->D)(hz:ds.length<=sz)(hw:w M=some ds)
 (hs:∀d∈ds,∃ρ1,b6 tg d ρ0=some ρ1/\gc ρ1 M=.ok (f d) M/\(f d=true->ge ρ1 M=.ok (g d) M)) (hk:kl ((ds.filter f).map g) M):ae (c9 (cx tg (iW gc (bo ge)) ρ0) w [] M) kl:=by
 refine fg (λi acc M'=>M'=M/\acc=((ds.take i).filter f).map g) (λi acc M' h=>by rw[h.1];exact hw) ⟨rfl,rfl⟩ ?_ ?_
 ·rintro i d acc M' hd ⟨rfl,rfl⟩;obtain⟨ρ1,e1,e2,e3⟩:=hs d (QR hd);have hi:i<ds.length:=(Qg.mp hd).1;simp only[cx,e1,uu,Res.bind_ok,iW,e2];rw[RD,hd];cases q:f d with
  | false =>
    simp[q]
  | true =>
    rw[if_pos rfl];have len:(((ds.take i).filter f).map g).length<=i:=by
     rw[Qf];exact Qp (Sk _ _) `o
    simp only[bo,e3 q,Res.bind_ok];rw[if_pos `a]
    simp[q]
 ·rintro acc M' ⟨rfl,rfl⟩;simpa using hk
def KA {a b:Int}(h:mQ a x b y=true):a<=b:=by
 unfold mQ at h;split at h
 ·next e=>exact Int.le_of_eq (eq_of_beq e)
 ·exact Int.le_of_lt (of_decide_eq_true h)
def KC {a b:Int}(h:mQ a x b y=false):b<=a:=by
 unfold mQ at h;split at h
 ·next e=>exact Int.le_of_eq (eq_of_beq e).symm
 ·exact Int.not_lt.mp (of_decide_eq_false h)
def xH (ks:List (Int×List Int)):∀n:Nat,argBest (mR ks) n<=n/\∀j,j<=n->(ks.getD (argBest (mR ks) n) (0,[])).1<=(ks.getD j (0,[])).1
 |0=>{Ql _,λj hj=>by rw[Nat.le_zero.mp hj];exact Int.le_refl _}
 | n + 1 => by
   obtain⟨h1,h2⟩:=xH ks n;unfold argBest;cases e:mR ks (n+1) (argBest (mR ks) n) with
   | true =>
     refine{Ql _,λj hj=>?_};rcases Nat.lt_or_eq_of_le hj with hj|rfl
     ·exact Int.le_trans (KA e) (h2 j (Nat.le_of_lt_succ hj))
     ·exact Int.le_refl _
   | false =>
     refine{Nat.le_succ_of_le h1,λj hj=>?_};rcases Nat.lt_or_eq_of_le hj with hj|rfl
     ·exact h2 j (Nat.le_of_lt_succ hj)
     ·exact KC e
def AD {α:Type}(v:α->D)(q:α->Int×List Int):∀{A:List α},(∀x∈A,sd M (v x)=some (q x))->qN M (A.map v)=some (A.map q)
 |[],_=>rfl
 | x :: A, h => by
   show(sd M (v x)).bind _=_;rw[h x QK];rw[AD v q λy hy=>h y (Qz _ hy)];rfl
def Hr {α:Type}(v:α->D)(q:α->Int×List Int){A:List α}(ea:a Z M=.ok (.lst (A.map v)) M1)(hq:∀x∈A,sd M1 (v x)=some (q x)) :
 (A=[]/\lZ a Z M=.ok .non M1)\/∃x∈A,lZ a Z M=.ok (v x) M1/\∀y∈A,(q x).1<=(q y).1:=by
 have e:lZ a Z M=.ok ((A.map v).getD (argBest (mR (A.map q)) ((A.map v).length-1)) .non) M1:=by
  unfold lZ;rw[ea];show(match qN M1 (A.map v) with|some ks=>Res.ok ((A.map v).getD (argBest (mR ks) ((A.map v).length-1)) .non) M1|none=>.bad)=_
  rw[AD v q hq]
 rw[e];cases hA:A with
 |nil=>exact .inl ⟨rfl,rfl⟩
 | cons z B =>
   refine .inr ?_;rw[<- hA];have hl:0<A.length:=by rw[hA];exact Nat.succ_pos _
   obtain⟨h1,h2⟩:=xH (A.map q) (A.length-1);have hi:argBest (mR (A.map q)) (A.length-1)<A.length:=`a
   rw[Qf];generalize argBest (mR (A.map q)) (A.length-1)=i at h1 h2 hi;refine{A[i],Sr hi,by rw[Rj,QC,Qq hi];rfl,λy hy=>?_}
   obtain⟨j,hj,rfl⟩:=List.getElem_of_mem hy;have:=h2 j `a
   rw[Rj,Rj,QC,QC,Qq hi,Qq hj] at this;exact this
section
variable{α:Type}{k:α->aE}{v:α->D}{E:List α}{M:Mem}{fk:Nat}
def uK (hj:Z[j]?.getD none=some (.fn (az fk)))(ef:M[fk]?=some (iS k v E)):eK cV (aa j) Z M=.ok (dW (az fk) E.length cV) M/\dW (az fk) E.length cV M=some (E.map λx=>bD (k x)):=by
 constructor
 ·unfold eK;rw[ay hj];show(match bR M (az fk) with|some q=>Res.ok (dW (az fk) q.2.length cV) M|none=>.bad)=_
  rw[gm ef];show Res.ok (dW (az fk) (E.map _).length cV) M=_;rw[Qf]
 ·unfold dW;rw[gm ef];show(if (E.map _).length=E.length then some ((E.map _).map cV) else none)=_;rw[if_pos (Qf _),Rk];rfl
def xt (m:Bool)(p:α->Bool)(f:α->D)(hj:Z[j]?.getD none=some (.fn (az fk)))(ef:M[fk]?=some (iS k v E))(hl:E.length<=sz)
 (ht:∀x∈E,t (some (bD (k x))::Z) M=.ok (p x) M) (hg:∀x∈E,p x=true->ge (some (bD (k x))::Z) M=.ok (f x) M):bc m 1 (.one 0) (eK cV (aa j)) (iW t (bo ge)) Z M=ba m ((E.filter p).map f) M:=by
 obtain⟨w1,w2⟩:=uK hj ef;unfold bc;rw[w1];show(c9 (cx (.one 0) (iW t (bo ge)) (none::Z)) (dW (az fk) E.length cV) [] M).bind (ba m)=_;have e:c9 (cx (.one 0) (iW t (bo ge)) (none::Z)) (dW (az fk) E.length cV) [] M=.ok ((E.filter p).map f) M:=by
  refine dF (fg (λi acc M'=>M'=M/\acc=((E.take i).filter p).map f) (λi acc M' h=>by rw[h.1];exact w2) ⟨rfl,rfl⟩ ?_ ?_)
  ·rintro i d acc M' hd ⟨rfl,rfl⟩;rw[QC] at hd;obtain⟨x,hx,rfl⟩:=QA.mp hd;have hm:=QR hx;have hi:i<E.length:=(Qg.mp hx).1;have e0:b6 (.one 0) (bD (k x)) (none::Z)=some (some (bD (k x))::Z):=rfl;simp only[cx,e0,uu,Res.bind_ok,iW,ht x hm];rw[RD,hx];cases q:p x with
   |false=>simp[q]
   | true =>
     rw[if_pos rfl];have len:(((E.take i).filter p).map f).length<=i:=by
      rw[Qf];exact Qp (Sk _ _) `o
     simp only[bo,hg x hm q,Res.bind_ok];rw[if_pos `a]
     simp[q]
  ·rintro acc M' ⟨rfl,rfl⟩;rw[Qf,List.take_length];exact⟨rfl,rfl⟩
 rw[e];rfl
def u6 (m:Bool)(hj:Z[j]?.getD none=some (.fn (az fk)))(ef:M[fk]?=some (iS k v E)):hZ m (aa j) Z M=ba m (E.map λx=>bD (k x)) M:=by
 unfold hZ;rw[ay hj];show(match bR M (az fk) with|some q=>ba m (q.2.map cV) M|none=>.bad)=_
 rw[gm ef];show ba m ((E.map _).map cV) M=_;rw[Rk];rfl
end
def eq_empty (hp:l.all (aC 63)=true):bH .eq (.lst l) (.lst []) M=some l.isEmpty:=by
 refine ot hp rfl ?_;cases l<;>rfl
def l7 (f:D->Bool):∀ds:List D,((ds.filter λd=>!f d).map λ_=>D.int 1).isEmpty=ds.all f
 |[]=>rfl
 | d :: r => by
   have ih:=l7 f r;cases q:f d with
   |true=>simpa[q] using ih
   |false=>simp[q]
def wI (f:D->Bool)(hw:ae (w Z M) λwk M'=>M'=M/\wk M=some ds)(hz:ds.length<=sz)(he:∀d∈ds,gc (some d::Z) M=.ok (!f d) M)(hk:k (.bl (ds.all f)) M) :
 ae (aA .eq (bc false 1 (.one 0) w (iW gc (bo (gI 1)))) (bu false bj) Z M) k:=by
 simp only[eC,dG,tq,cb,bI];refine aJ hw λwk M' ⟨e1,e2⟩=>?_;subst e1;refine sG (λd=>!f d) (λ_=>.int 1) hz e2 (λd hd=>{some d::Z,rfl,he d hd,λ_=>rfl}) ?_;refine{Qp (by rw[Qf];exact Sk _ _) hz,ax `d,_,eq_empty ?_,?_}
 ·rw[QB];intro x hx;obtain⟨_,_,rfl⟩:=Qx.mp hx;rfl
 ·rw[l7];exact hk
section
variable{P:Nat->Option Df}{M:Mem}{m:aO}{i:Nat}{b:aE}
def pW (ha:HasB P)(h158:P 158=some {3,3,c8})(n:Nat)(hm:aI m)(hi:i<m.deeds.length)(hl:b.length<=16)(hb:∀s∈b,dz m s):ae (ah P (n+2) 158 [m.d,bD b,nD i] M) λd M'=>d=bD (aW m i b)/\Sub M M':=by
 refine aN h158 rfl ?_;unfold c8;simp only[aD,cH,b5,bX,dG,cb,gQ,bw];refine{_,rfl,rfl,?_};refine comp_map (λj acc M'=>acc=((b.take j).map (bZ (cZ m i))).map aq/\Sub M M') (ax `o) (λ_ _ _ _=>rfl) {rfl,.refl} ?_ ?_
 ·rintro j x acc M' hd _ ⟨rfl,sub⟩;rw[QC] at hd;cases e:b[j]? with
  |none=>rw[e] at hd;cases hd
  | some s =>
    rw[e] at hd;have hd:=Qv hd;subst hd;refine{_,rfl,?_};have hs:=hb s (QR e);have ed:au (au (aa 1) (gI 2)) (aa 3) [some (aq s),some m.d,some (bD b),some (nD i)] M'=.ok (cZ m i).d M':=bE (bE rfl rfl rfl) rfl (uU hi);show ae (ai 41 (ah P (n+1)) #[au (au (aa 1) (gI 2)) (aa 3),aa 0] [some (aq s),some m.d,some (bD b),some (nD i)] M') _;rw[aU (ag ed (ag rfl rfl)),t7 ha n hm (gU hm hi) hs,aR];refine{?_,sub.trans Sub.app};rw[RD,e];simp
 ·rintro acc M' _ ⟨rfl,sub⟩;rw[Qf,Rv (Ql _)];exact bI.mpr {ax `o,rfl,sub}
end
section
variable{P:Nat->Option Df}{M:Mem}{m:aO}{bound:Nat}
def u1 (e:a Z M=.ok x M):iw a Z M=.ok (.next Z) M:=by
 unfold iw;rw[e];rfl
end
noncomputable def Bk (m:aO)(W:aE->Nat->Nat->Prop)(Q:Nat->List aE):Prop:=∀i b,b∈Q i↔(i=0/\b=a7 m)\/∃b' q j,W b' q j/\q+cst m j=i/\b=aW m j b'
noncomputable def WE (m:aO)(E:fC)(b:aE)(q j:Nat):Prop:=(b,q)∈E.map pr/\j<m.deeds.length
noncomputable def jW (Q:Nat->List aE)(i:Nat)(b:aE):Nat->List aE:=λk=>if k=i then Q i++[b] else Q k
section
variable{m:aO}{p:Nat}{E N:fC}{Q:Nat->List aE}{W W':aE->Nat->Nat->Prop}
def Bk.congr (h:Bk m W Q)(e:∀b q j,W b q j↔W' b q j):Bk m W' Q:=λi b=>(h i b).trans (or_congr_right {λ⟨b',q,j,w,r⟩=>{b',q,j,(e _ _ _).mp w,r},λ⟨b',q,j,w,r⟩=>{b',q,j,(e _ _ _).mpr w,r}})
def Bk.push (h:Bk m W Q)(b0:aE)(q0 j0:Nat):Bk m (λb q j=>W b q j\/(b=b0/\q=q0/\j=j0)) (jW Q (q0+cst m j0) (aW m j0 b0)):=λi b=>by
 unfold jW;constructor
 ·intro hb;split at hb
  ·next z=>
   subst z;rcases QL.mp hb with y|y
   ·exact((h _ b).mp y).imp id λ⟨b',q,j,w,r⟩=>{b',q,j,.inl w,r}
   ·exact .inr {b0,q0,j0,.inr ⟨rfl,rfl,rfl⟩,rfl,Qw.mp y}
  ·exact((h i b).mp hb).imp id λ⟨b',q,j,w,r⟩=>{b',q,j,.inl w,r}
 ·intro hb;have old:b∈Q i->b∈(if i=q0+cst m j0 then Q (q0+cst m j0)++[aW m j0 b0] else Q i):=λy=>by
   split
   ·next z=>rw[<- z];exact RE _ y
   ·exact y
  rcases hb with y|⟨b',q,j,w|⟨rfl,rfl,rfl⟩,e1,e2⟩
  ·exact old ((h i b).mpr (.inl y))
  ·exact old ((h i b).mpr (.inr ⟨b',q,j,w,e1,e2⟩))
  ·rw[if_pos e1.symm,e2];exact Rh _ (Qw.mpr rfl)
def gP (h:cz m p (E.map pr)):(b,q)∈E.map pr↔bF m q b/\q<p:={λz=>h.sound _ z,λz=>h.all q b z.2 z.1}
def Hx:b∈E.map (·.1)↔∃q,(b,q)∈E.map pr:=by
 constructor
 ·intro h;obtain⟨e,he,rfl⟩:=Qx.mp h;exact{e.2.1,Rf he}
 ·rintro⟨q,h⟩;obtain⟨e,he,z⟩:=Qx.mp h;have:e.1=b:=congrArg Prod.fst z;rw[<- this];exact Rf he
def pJ (hm:aI m)(h:cz m p (E.map pr))(hb:Bk m (WE m E) Q)(b:aE):bF m p b↔b∈Q p/\b∉E.map (·.1):=by
 have key:b∉E.map (·.1)↔∀q<p,¬ bF m q b:=by
  rw[Hx];exact{λz q hq l=>z {q,(gP h).mpr ⟨l,hq⟩},λz ⟨q,y⟩=>z q ((gP h).mp y).2 ((gP h).mp y).1}
 rw[key,hb p b];rcases Nat.eq_zero_or_pos p with rfl|hp
 ·rw[fQ hm];refine{λz=>{.inl ⟨rfl,z⟩,λq hq=>absurd hq (RQ _)},λz=>?_};rcases z.1 with y|⟨b',q,j,w,_⟩
  ·exact y.2
  ·exact absurd ((gP h).mp w.1).2 (RQ _)
 ·rw[g9 hm hp];refine and_congr_left λ_=>{λ⟨i,b',hi,hc,l,e⟩=>.inr {b',p-cst m i,i,{(gP h).mpr {l,?_},hi},Nat.sub_add_cancel hc,e},λz=>?_}
  ·have:=(ic hm hi).1;omega
  ·rcases z with y|⟨b',q,j,w,e1,e2⟩
   ·omega
   ·refine{j,b',w.2,`a,?_,e2}
    have:=((gP h).mp w.1).1;rw[<- e1,Nat.add_sub_cancel];exact this
def LV (h:cz m p (E.map pr))(hb:Bk m (WE m E) Q)(z:b∈Q i):mD m i b:=by
 rcases(hb i b).mp z with⟨rfl,rfl⟩|⟨b',q,j,w,rfl,rfl⟩
 ·exact .start
 ·exact .step ((gP h).mp w.1).1.1 w.2
def Io (hm:aI m)(h:cz m p (E.map pr))(hb:Bk m (WE m E) Q)(nw:NW p E (·∈Q p) N):cz m (p+1) ((E++N).map pr):=by
 have fl:=λx hx=>(pJ hm h hb x.1).mpr {(nw.fr x hx).1,λz=>by
  have nd:=nw.nd;rw[QF,Sa] at nd;exact nd.2.2 _ z _ (Rf hx) rfl}
 refine{by rw[iy];exact nw.nd,λy hy=>?_,λq b hq hl=>?_}
 ·obtain⟨x,hx,rfl⟩:=Qx.mp hy;rcases QL.mp hx with z|z
  ·have s:=h.sound (pr x) (Rf z);exact{s.1,RT s.2}
  ·have e:x.2.1=p:=(nw.fr x z).2.1;exact{by show bF m x.2.1 x.1;rw[e];exact fl x z,by show x.2.1<p+1;omega}
 ·rw[QF];rcases RU q p with z|z
  ·exact RE _ (h.all q b z hl)
  ·have:q=p:=`a
   subst this;obtain⟨h1,h2⟩:=(pJ hm h hb b).mp hl;have h3:=nw.al b h1;rw[QF] at h3;rcases QL.mp h3 with y|y
   ·exact absurd y h2
   ·obtain⟨x,hx,rfl⟩:=Qx.mp y;refine Rh _ (Qx.mpr {x,hx,?_});show(x.1,x.2.1)=_;rw[(nw.fr x hx).2.1]
def Ip (hm:aI m)(h:cz m p (E.map pr))(hb:Bk m (WE m E) Q)(nd:((E++N).map (·.1)).Nodup)(fr:∀x∈N,x.1∈Q p/\x.2.1=p)(hl:255<(E++N).length):kG m (p+1):=by
 refine{(E++N).map pr,by rw[iy];exact nd,λy hy=>?_,by rw[Qf];exact hl}
 obtain⟨x,hx,rfl⟩:=Qx.mp hy;rcases QL.mp hx with z|z
 ·have s:=h.sound (pr x) (Rf z);exact{s.1,RT s.2}
 ·have e:x.2.1=p:=(fr x z).2;refine{?_,by show x.2.1<p+1;omega}
  show bF m x.2.1 x.1;rw[e];refine(pJ hm h hb x.1).mpr {(fr x z).1,λy=>?_};rw[QF,Sa] at nd;exact nd.2.2 _ y _ (Rf z) rfl
def xG (hm:aI m)(h:cz m p (E.map pr))(hb:Bk m (WE m E) Q)(he:∀i,p<=i->Q i=[]):∀q,p<=q->∀b,¬ bF m q b:=by
 intro q;induction q using Nat.strongRecOn with
 | ind q ih =>
   intro hq b hl;rcases Nat.eq_zero_or_pos q with rfl|hq0
   ·have:b∈Q 0:=(hb 0 b).mpr (.inl {rfl,(fQ hm).mp hl});rw[he 0 hq] at this;exact nomatch this
   ·obtain⟨⟨i,b',hi,hc,h1,e⟩,_⟩:=(g9 hm hq0).mp hl;have c:=ic hm hi;by_cases z:p<=q-cst m i
    ·exact ih _ `a z b' h1
    ·have:b∈Q q:=(hb q b).mpr (.inr {b',q-cst m i,i,{(gP h).mpr {h1,`a},hi},Nat.sub_add_cancel hc,e})
     rw[he q hq] at this;exact nomatch this
end
noncomputable def rg (e:aE×Nat×List Nat):D:=.tup [bD e.1,nD e.2.1]
noncomputable def pb (E:fC):List D:=.int 78::E.map rg
section
variable{M:Mem}{fk:Nat}{E:fC}{b:aE}
def ug (E:fC)(b:aE):dA (E.map rg) (bD b)=(E.find? λe=>decide (e.1=b)).map λe=>nD e.2.1:=by
 refine Eq.trans (lV (λe:aE×Nat×List Nat=>bD e.1) (λe=>nD e.2.1) E (bD b)) ?_
 congr 2
 funext x
 exact yW x.1 b
def JV (e:M[fk]?=some (pb E)):inD M (az fk) (bD b)=some (E.any λe=>decide (e.1=b)):=by
 unfold inD;rw[jH e (.inr rfl)];show(if isKey 78 (bD b)=true then some (dA (E.map rg) (bD b)).isSome else none)=_;rw[if_pos (j6 b),ug,R9]
 congr 1
 rw[Rp,List.find?_isSome,RS]
def G7 (hn:∀e∈E,e.1≠b):putD (E.map rg) (bD b) (nD q)=(E++[(b,q,[])]).map rg:=by
 rw[qK,QF];rfl;rw[ug,List.find?_eq_none.mpr];rfl;exact λx hx e=>hn x hx (of_decide_eq_true e)
end
structure cy (M0 M:Mem) (fk dv:Nat) (E:fC) (cs:List Nat) (Q:Nat->List aE):Prop where
 f:M[fk]?=some (pb E)
 d:M[dv]?=some (cs.map D.cell)
 nd:(fk::dv::cs).Nodup
 lo:∀x∈fk::dv::cs,M0.length<=x
 q:∀(i c:Nat),cs[i]?=some c->M[c]?=some ((Q i).map bD)
 e:∀i,cs.length<=i->Q i=[]
 s:Sub M0 M
section
variable{M0 M M':Mem}{fk dv c i:Nat}{E E':fC}{cs:List Nat}{Q:Nat->List aE}{b:aE}
def lT (e:M[k]?=some x):k<M.length:=(Qg.mp e).1
def cy.sub (h:cy M0 M fk dv E cs Q)(s:Sub M M'):cy M0 M' fk dv E cs Q:={s.get h.f,s.get h.d,h.nd,h.lo,λi c e=>s.get (h.q i c e),h.e,h.s.trans s}
def cy.ne (h:cy M0 M fk dv E cs Q):fk≠dv/\∀(i c:Nat),cs[i]?=some c->c≠fk/\c≠dv:=by
 have nd:=h.nd;rw[Rx,Rx] at nd;refine{λe=>nd.1 (by rw[e];exact QK),λi c e=>{λz=>nd.1 (by rw[<- z];exact Qz _ (QR e)),λz=>nd.2.1 (by rw[<- z];exact QR e)}}
def cy.put (h:cy M0 M fk dv E cs Q)(E':fC):cy M0 (M.set fk (pb E')) fk dv E' cs Q:=
 {QS (lT h.f),by rw[Qo h.ne.1];exact h.d,h.nd,h.lo,λi c e=>by rw[Qo (Ru (h.ne.2 i c e).1)];exact h.q i c e,h.e,h.s.setq (h.lo fk QK)}
def cy.more (h:cy M0 M fk dv E cs Q):cy M0 ((M++[[]]).set dv (cs.map D.cell++[D.cell M.length])) fk dv E (cs++[M.length]) Q:=by
 have hf:=lT h.f;have hd:=lT h.d;have all:∀x∈fk::dv::cs,x<M.length:=λx hx=>by
  rcases Rg.mp hx with z|hx
  ·rw[z];exact hf
  ·rcases Rg.mp hx with z|hx
   ·rw[z];exact hd
   ·obtain⟨i,e⟩:=List.getElem?_of_mem hx;exact lT (h.q i x e)
 refine{?_,?_,?_,λx hx=>?_,λi c e=>?_,λi hi=>?_,(h.s.trans Sub.app).setq (h.lo dv `s)}
 ·rw[Qo (Ru h.ne.1),Qn hf];exact h.f
 ·rw[QS `o,QF];rfl
 ·show((fk::dv::cs)++[M.length]).Nodup;rw[Sa];exact{h.nd,`s,λx hx y hy z=>by
   have:=all x hx;have hy:y=M.length:=by simpa using hy
   omega}
 ·rcases QL.mp (show x∈(fk::dv::cs)++[M.length] from hx) with z|z
  ·exact h.lo x z
  ·rw[Qw.mp z];exact h.s.len
 ·rcases RU i cs.length with z|z
  ·rw[Qn z] at e;have:=h.q i c e;rw[Qo (Ru (h.ne.2 i c e).2),Qn (lT this)];exact this
  ·have hi:i=cs.length:=by
    have:=(Qg.mp e).1;simp at this;omega
   subst hi;rw[Q0 (Ql _),Nat.sub_self] at e;cases e;rw[Qo (QY hd),h.e _ (Ql _)];simp
 ·rw[QO] at hi;exact h.e i (by simp at hi;omega)
def cy.push (h:cy M0 M fk dv E cs Q)(hi:cs[i]?=some c)(b:aE):cy M0 (M.set c ((Q i).map bD++[bD b])) fk dv E cs (jW Q i b):=by
 have n:=h.ne.2 i c hi;have nd:=(Rx.mp (Rx.mp h.nd).2).2;refine{by rw[Qo n.1];exact h.f,by rw[Qo n.2];exact h.d,h.nd,h.lo,λk c' e=>?_,λk hk=>?_,h.s.setq (h.lo c (by simp[QR hi]))}
 ·unfold jW;by_cases z:k=i
  ·subst z;rw[hi] at e;cases e;rw[QS (lT (h.q k c hi)),if_pos rfl,QF];rfl
  ·have ne:c≠c':=λy=>by
    subst y;rcases RU k i with y|y
    ·exact yr nd y e hi
    ·exact yr nd (by omega:i<k) hi e
   rw[Qo ne,if_neg z];exact h.q k c' e
 ·have:=(Qg.mp hi).1;unfold jW;rw[if_neg `a];exact h.e k hk
end
noncomputable def uJ (c:Call):GS:=#v[gg (aj (aA .le (aM .len #[aa 3]) (av false .add (aa 4) (au (aa 7) (dE (gI 1)))))) #v[dS (aa 3) (bu true bj)],dS (au (aa 3) (av false .add (aa 4) (au (aa 7) (dE (gI 1))))) (ai 158 c #[aa 0,aa 5,aa 6])]
noncomputable def MW (c:Call):GS:=#v[gr (aa 2) (aa 5) (aa 4),aQ (aj (aA .gt (fS (aa 2)) (gI 255))) #v[aP gN] aG,cm (.tup [6,7]) (gz (au (aa 0) (gI 2))) (uJ c)]
noncomputable def A6 (c:Call):GS:=#v[aQ (aj (fZ true (aa 5) (aa 2))) (MW c) aG]
noncomputable def A5 (c:Call):GS:=#v[cm (.one 5) (bK (au (aa 3) (aa 4))) (A6 c),aw (.one 4) (av false .add (aa 4) (gI 1))]
def MV (c:Call):fH c=#v[aw (.one 2) (qk 78),aw (.one 3) (bu true #[bu true #[aM .tuple #[ai 42 c #[aa 0]]]]),aw (.one 4) (gI 0),gg (gW (aj (aA .lt (aa 4) (aM .len #[aa 3]))) (aj (aA .le (aa 4) (aa 1)))) (A5 c),aP (aa 2)]:=rfl
section
variable{Z:Env}{M M' M1:Mem}{a b d:GE}
def nE (ha:a Z M=.ok (.cell j) M)(hd:d Z M=.ok z M1)(e:M1[j]?=some ds)(hl:ds.length<sz):dS a d Z M=.ok (.next Z) (M1.set j (ds++[z])):=by
 unfold dS;rw[ha];show(d Z M).bind _=_;rw[hd];show(match M1[j]? with|some ds=>if ds.length<sz then Res.ok (Fl.next Z) (M1.set j (ds++[z])) else .bad|none=>.bad)=_
 rw[e];exact if_pos hl
def wX (h:Z[j]?.getD none=some (.cell k))(e:M[k]?=some ds):aM .len #[aa j] Z M=.ok (nD ds.length) M:=by
 refine ak (b5.mpr ?_);rw[ag (ay h) rfl,aR];show ae (match M[k]? with|some xs=>Res.ok (D.int xs.length) M|none=>.bad) _
 rw[e];exact⟨rfl,rfl⟩
def uI (h1:a Z M=.ok (nD i) M)(h2:b Z M=.ok (nD j) M):aj (aA .le a b) Z M=.ok (decide (i<=j)) M:=by
 refine dF (gV.mpr (eC.mpr ?_));rw[h1,aR,h2,aR];refine{_,rfl,_,rfl,?_,rfl};exact decide_eq_decide.mpr Int.ofNat_le
def KG (h1:a Z M=.ok (nD i) M)(h2:b Z M=.ok (nD j) M):aj (aA .lt a b) Z M=.ok (decide (i<j)) M:=by
 refine dF (gV.mpr (eC.mpr ?_));rw[h1,aR,h2,aR];refine{_,rfl,_,rfl,?_,rfl};exact decide_eq_decide.mpr Int.ofNat_lt
def xa (h:Z[j]?.getD none=some (.cell k))(hb:b Z M=.ok (nD i) M)(e:M[k]?=some ds)(hx:ds[i]?=some x):au (aa j) b Z M=.ok x M:=by
 refine bE (ay h) hb ?_;show(M[k]?).bind _=_;rw[e];show((cw ds.length (i:Int)).bind λj=>ds[j]?)=_;rw[dD (Qg.mp hx).1];exact hx
def pO (ha:a Z M=.ok (nD i) M)(hb:b Z M=.ok (nD j) M):av false .add a b Z M=.ok (nD (i+j)) M:=(f9 ha hb).trans (by rw[<- Int.natCast_add])
end
noncomputable def NZ (m:aO)(fit:aE->Bool)(B0:Nat)(d:D)(M':Mem):Prop:=∃(E:F3) (c:Nat),d=.tup [.str "none",.cell c]/\B0<=c/\M'[c]?=some (E.map λe=>bD e.1)/\AllIn m none ((un E).map pr)/\E.length<=255/\∀e∈E,fit e.1=false
noncomputable def PQ (m:aO)(fit:aE->Bool)(B0:Nat)(d:D)(M':Mem):Prop:=∃(E:F3) (e:aE×Nat×Nat) (r:List Nat) (c:Nat),d=.tup [.str "row",nD e.2.1,.cell e.2.2,.cell c]/\e∈E/\fit e.1=true/\(∀x∈E,fit x.1=true->e.2.1<=x.2.1)/\B0<=e.2.2/\e.2.2<c/\M'[e.2.2]?=some (r.map nD)/\gE m r e.1 e.2.1/\
 M'[c]?=some ((E.filter λx=>decide (x.2.1<=e.2.1)).map λx=>.tup [bD x.1,nD (e.2.1-x.2.1)])/\AllIn m none ((un E).map pr)/\E.length<=255
def AllIn.nd {bd:Option Nat}(h:AllIn m bd l):(l.map (·.1)).Nodup:=by
 cases bd with
 |none=>obtain⟨_,h,_⟩:=h;exact h.nd
 |some b=>exact cz.nd h
def AllIn.sound {bd:Option Nat}(h:AllIn m bd l):∀x∈l,bF m x.2 x.1:=by
 cases bd with
 |none=>obtain⟨_,h,_⟩:=h;exact λx hx=>(h.sound x hx).1
 |some b=>exact λx hx=>(cz.sound h x hx).1
def xS (E:F3):(un E).map pr=E.map λe=>(e.1,e.2.1):=by unfold un;rw[Rk];rfl
def HB (r:List Nat):intsOf (r.map nD)=some (r.map λ(i:Nat)=>(i:Int)):=by
 induction r with
 |nil=>rfl
 |cons a r ih=>show(intsOf (r.map nD)).map _=_;rw[ih];rfl
section
variable{P:Nat->Option Df}{M:Mem}{m:aO}{w:D}{fit:aE->Bool}{Z:Env}{a b:GE}
def OO (ha:a Z M=.ok (nD i) M)(hb:b Z M=.ok (nD j) M)(h:j<=i):av false .sub a b Z M=.ok (nD (i-j)) M:=by
 unfold av;rw[ha];show(b Z M).bind _=_;rw[hb];show Res.ok (D.int ((i:Int)-(j:Int))) M=_;rw[<- Int.ofNat_sub h]
def Bj (h:Z[j]?.getD none=some x):aj (aA .isN (aa j) gN) Z M=.ok (fh x) M:=by
 refine bV ?_;unfold aA;rw[ay h];rfl
def uh (hf:Z[3]?.getD none=some (.fn (az fk)))(ef:M[fk]?=some (kB E))(nd:(E.map (·.1)).Nodup)(hx:x∈E)(h0:Z[0]?.getD none=some (bD x.1)):eU (aa 3) (aa 0) Z M=.ok (vC x) M/\au (eU (aa 3) (aa 0)) (gI 0) Z M=.ok (nD x.2.1) M:=by
 have e:=uV (x:=.non) (ay hf) (ay h0) (Bw ef nd hx);exact{e,bE e rfl rfl}
def CH (n:Nat)(hr166:∀(M:Mem),fX (ah P n 166 [m.d,.non] M) (λd M'=>∃fk E,d=.fn (az fk)/\M.length<=fk/\M'[fk]?=some (kB E)/\vS m M.length M' E/\AllIn m none ((un E).map pr)/\E.length<=255/\Sub M M') (λx M'=>x=.exc 8 none/\jQ m none/\Sub M M'))
 (h80:∀M:Mem,ah P n 80 [m.d,w] M=.ok .non M) (h81:∀(M:Mem) (q:Nat) (b:aE),bF m q b->ah P n 81 [bD b,w] M=.ok (.bl (fit b)) M) (h167:P 167=some {2,7,oC}) :
 fX (ah P (n+1) 167 [m.d,w] M) (λd M'=>(NZ m fit M.length d M'\/PQ m fit M.length d M')/\Sub M M') (λx M'=>x=.exc 8 none/\jQ m none/\Sub M M'):=by
 refine pI h167 rfl ?_;simp only[RI,List.map_nil,RL,List.length_nil,List.replicate,List.cons_append,SK,Nat.reduceAdd,Nat.reduceSub];unfold oC;rw[aD,u1 ((eQ (ag rfl (ag rfl rfl))).trans (h80 M)),aR,bx,aD,GO];have sr:=hr166 M;have ec:bQ 166 (ah P n) #[aa 0,gN] [some m.d,some w,none,none,none,none,none] M=ah P n 166 [m.d,.non] M:=eQ (ag rfl (ag rfl rfl));rw[ec];cases e:ah P n 166 [m.d,.non] M with
 |bad=>rw[e] at sr;exact sr.elim
 |err x M1=>rw[e] at sr;exact sr
 | ok d M1 =>
   rw[e] at sr;obtain⟨fk,E,rfl,hfk,ef,rows,all,few,sub⟩:=sr;refine bx.mpr ?_;have nd:(E.map (·.1)).Nodup:=by have:=all.nd;rw[xS,Rk] at this;exact this
   have snd:∀x∈E,bF m x.2.1 x.1:=λx hx=>all.sound (x.1,x.2.1) (by rw[xS];exact Qx.mpr ⟨x,hx,rfl⟩)
   have hz:E.length<=sz:=ax `a
   have e1:bc false 1 (.one 0) (eK cV (aa 2)) (iW (aj (ai 81 (ah P n) #[aa 0,aa 2])) (bo (eU (aa 3) (aa 0)))) [some m.d,some w,some (.fn (az fk)),none,none,none,none] M1=.ok (.lst ((E.filter λx=>fit x.1).map vC)) M1:=by
    rw[xt false (λx=>fit x.1) vC rfl ef hz (λx hx=>bV ((aU (ag rfl (ag rfl rfl))).trans (h81 M1 _ _ (snd x hx)))) (λx hx _=>(uh rfl ef nd hx rfl).1)];exact if_pos (ax (by rw[Qf];exact Qp (Sk _ _) `a))
   have hq:∀x∈E.filter λx=>fit x.1,sd M1 (vC x)=some ((x.2.1:Int),((M1[x.2.2]?.bind intsOf).getD [])):=λx hx=>by
    obtain⟨⟨r,er,_⟩,_⟩:=rows x (RV.mp hx).1;show((M1[x.2.2]?).bind intsOf).map _=_;rw[er];show(intsOf (r.map nD)).map _=some (_,(intsOf (r.map nD)).getD []);rw[HB];rfl
   rcases Hr vC (λx=>((x.2.1:Int),((M1[x.2.2]?.bind intsOf).getD []))) e1 hq with⟨hE,em⟩|⟨x,hx,em,hb⟩
   ·refine bL (bY em) ?_;refine bG (Bj rfl) (λ_=>?_) (λh=>by cases h)
    have ek:bB #[gS "none",hZ true (aa 2)] [some m.d,some w,some (.fn (az fk)),some .non,none,none,none] M1=.ok (.tup [.str "none",.cell M1.length]) (M1++[E.map λe=>bD e.1]):=by
     refine mH (iA rfl (iA ?_ rfl)) (QM rfl);rw[u6 true rfl ef];exact if_pos (ax (by rw[Qf];omega))
    simp only[aD,cH];refine eJ.mpr {_,_,ek,?_};refine{.inl {E,M1.length,rfl,sub.len,`s,all,few,λx hx=>?_},sub.trans Sub.app}
    cases hf:fit x.1 with
    |false=>rfl
    | true =>
      have:x∈E.filter λx=>fit x.1:=RV.mpr ⟨hx,hf⟩;rw[hE] at this;cases this
   ·obtain⟨hxE,hxf⟩:=RV.mp hx;obtain⟨⟨r,er,ro⟩,lo⟩:=rows x hxE;refine bL (bY em) ?_;refine d5 (Bj (x:=vC x) rfl) ?_;refine bL rfl ?_;have e2:bc true 1 (.one 0) (eK cV (aa 2)) (iW (aj (aA .le (au (eU (aa 3) (aa 0)) (gI 0)) (aa 5))) (bo (bB #[aa 0,av false .sub (aa 5) (au (eU (aa 3) (aa 0)) (gI 0))]))) [some m.d,some w,some (.fn (az fk)),some (vC x),some (nD x.2.1),some (.cell x.2.2),none] M1
     = .ok (.cell M1.length) (M1++[(E.filter λy=>decide (y.2.1<=x.2.1)).map λy=>.tup [bD y.1,nD (x.2.1-y.2.1)]]):=by
     rw[xt true (λy=>decide (y.2.1<=x.2.1)) (λy=>.tup [bD y.1,nD (x.2.1-y.2.1)]) rfl ef hz (λy hy=>uI (uh rfl ef nd hy rfl).2 rfl) (λy hy hd=>mH (ag rfl (ag (OO rfl (uh rfl ef nd hy rfl).2 (of_decide_eq_true hd)) rfl)) (QM rfl))];exact if_pos (ax (by rw[Qf];exact Qp (Sk _ _) `a))
    refine dC (fJ e2) ?_;simp only[List.set,aD,cH];refine eJ.mpr {_,_,mH (ag rfl (ag rfl (ag rfl (ag rfl rfl)))) (QM rfl),?_};refine{.inr {E,x,r,M1.length,rfl,hxE,hxf,λy hy hf=>?_,lo,d3 er,?_,ro,`s,all,few},sub.trans Sub.app}
    ·exact Int.ofNat_le.mp (hb y (RV.mpr ⟨hy,hf⟩))
    ·rw[Qn (d3 er)];exact er
end
section
variable{P:Nat->Option Df}{M0 M:Mem}{m:aO}{fk dv p bound:Nat}{E:fC}{cs:List Nat}{Q:Nat->List aE}{kf:Fl->Mem->Prop}{x1 y5 y6 y7:Option D}
def FX {E:fC}{b:aE}:∀b' q j,(WE m E b' q j\/(b'=b/\q=p/\j<m.deeds.length))↔WE m (E++[(b,p,[])]) b' q j:=λb' q j=>by
 unfold WE;rw[QF,QL];constructor
 ·rintro(⟨h1,h2⟩|⟨rfl,rfl,h2⟩)
  ·exact{.inl h1,h2}
  ·exact{.inr (Qw.mpr rfl),h2}
 ·rintro⟨h1|h1,h2⟩
  ·exact .inl ⟨h1,h2⟩
  ·cases Qw.mp h1;exact .inr ⟨rfl,rfl,h2⟩
def wW {s:GA}{Z:Env}{M M1:Mem}{xs:List D}(e:s Z M=.ok xs M1)(hl:xs.length<=100):bu true s Z M=.ok (.cell M1.length) (M1++[xs]):=by
 unfold bu;rw[e];show(if xs.length<=sz then(if true=true then Res.ok (D.cell M1.length) (M1++[xs]) else _) else .bad)=_;rw[if_pos (ax `a)]
 rfl
def Ii {a:GE}{s:GA}{Z:Env}{M M1 M2:Mem}{x:D}{xs:List D}(ea:a Z M=.ok x M1)(es:s Z M1=.ok xs M2):bg a s Z M=.ok (x::xs) M2:=by
 unfold bg;rw[ea];show(s Z M1).bind _=_;rw[es];rfl
end
section
variable{M0 M:Mem}{fk dv p c C:Nat}{E:fC}{cs:List Nat}{Q:Nat->List aE}{Z:Env}{kf:Fl->Mem->Prop}
def K5 (h3:Z[3]?.getD none=some (.cell dv))(h4:Z[4]?.getD none=some (nD p))(h7:∀M,au (aa 7) (dE (gI 1)) Z M=.ok (nD c) M)(hc:p+c<C)(hC:C<=800)(h:cy M0 M fk dv E cs Q)(hl:cs.length<=C)
 (k:∀M' t,cy M0 M' fk dv E (cs++t) Q->(cs++t).length<=C->p+c<(cs++t).length->kf (.next Z) M') :
 ae (gg (aj (aA .le (aM .len #[aa 3]) (av false .add (aa 4) (au (aa 7) (dE (gI 1)))))) #v[dS (aa 3) (bu true bj)] Z M) kf:=by
 refine oX (λk ρ' M'=>ρ'=Z/\∃t,cy M0 M' fk dv E (cs++t) Q/\(cs++t).length<=C/\k=C-(cs++t).length) ?_ (k:=C-cs.length) `a {rfl,[],by rw[Ri];exact h,by rw[Ri];exact hl,by rw[Ri]}
 rintro k' ρ' M' ⟨rfl,t,h',hl',rfl⟩;rw[uI (wX h3 h'.d) (pO (ay h4) (h7 M')),aR,Qf];refine{λz=>k M' t h' hl' (by have:=of_decide_eq_false z;omega),λz=>?_}
 refine{C-(cs++(t++[M'.length])).length,by simp at z hl' ⊢;omega,?_}
 have hd:=lT h'.d;refine dC (nE (ay h3) rfl (by rw[Qn hd];exact h'.d) (by rw[Qf];exact RO (Qp hl' hC) `d)) ?_
 refine .inl {ρ',rfl,rfl,t++[M'.length],?_,by simp at z hl' ⊢;omega,rfl}
 rw[<- Ry];exact h'.more
end
section
variable{P:Nat->Option Df}{M0 M:Mem}{m:aO}{fk dv p L C:Nat}{E:fC}{cs:List Nat}{Q:Nat->List aE}{W:aE->Nat->Nat->Prop}{b:aE}{kf:Fl->Mem->Prop}{x1 y6 y7:Option D}
def JR (ha:HasB P)(h158:P 158=some {3,3,c8})(n:Nat)(hm:aI m)(hp:p+4<=C)(hC:C<=800)(hbl:b.length<=16)(hb:∀s∈b,dz m s)(h:cy M0 M fk dv E cs Q)(hl:cs.length<=C)(bk:Bk m W Q)(hL:∀i,(Q i).length<=L)(hL2:L<=90000)
 (k:∀M' t Q' y6 y7,cy M0 M' fk dv E (cs++t) Q'->(cs++t).length<=C->Bk m (λb' q j=>W b' q j\/(b'=b/\q=p/\j<m.deeds.length)) Q'->(∀i,(Q' i).length<=L+6)->Q' p=Q p->kf (.next [some m.d,x1,some (.fn (az fk)),some (.cell dv),some (nD p),some (bD b),y6,y7]) M') :
 ae (cm (.tup [6,7]) (gz (au (aa 0) (gI 2))) (uJ (ah P (n+2))) [some m.d,x1,some (.fn (az fk)),some (.cell dv),some (nD p),some (bD b),y6,y7] M) kf:=by
 rw[eW,zC,bE rfl rfl rfl,aR];refine{rfl,?_};have d6:=hm.d6;refine eY (λi Z M'=>∃t Q' y6 y7,cy M0 M' fk dv E (cs++t) Q'/\(cs++t).length<=C/\Bk m (λb' q j=>W b' q j\/(b'=b/\q=p/\j<i)) Q'/\(∀k,(Q' k).length<=L+i)/\Q' p=Q p/\Z=[some m.d,x1,some (.fn (az fk)),some (.cell dv),some (nD p),some (bD b),y6,y7])
  (λ_ _ _ _=>rfl) {[],Q,y6,y7,by rw[Ri];exact h,by rw[Ri];exact hl,bk.congr λb' q j=>{.inl,λz=>z.elim id λz=>absurd z.2.2 (RQ _)},hL,rfl,rfl} ?_ ?_
 ·rintro i x Z M' hx ⟨t,Q',y6,y7,h',hl',bk',hL',hQ,rfl⟩;obtain⟨x2,hx2,rfl⟩:=xm hx;rw[QC] at hx2;cases ed:m.deeds[i]? with
  |none=>rw[ed] at hx2;cases hx2
  | some d =>
    rw[ed] at hx2;have hx2:=Qv hx2;subst hx2;have hi:=(Qg.mp ed).1;have et:=om ed;have c:=ic hm hi;have ec:cst m i=d.cost:=by unfold cst;rw[et]
    rw[Nat.zero_add];refine{_,rfl,?_};unfold uJ;have h7:∀M,au (aa 7) (dE (gI 1)) [some m.d,x1,some (.fn (az fk)),some (.cell dv),some (nD p),some (bD b),some (nD i),some d.d] M=.ok (nD (cst m i)) M:=λM=>by
     rw[ec];exact ak (fA.mpr (bw.mpr {_,rfl,tm.mpr (dJ.mpr {1,rfl,_,mU,rfl,rfl})}))
    rw[aD];refine K5 rfl rfl h7 `a hC h' hl' λM2 t2 h2 hl2 hc2=>?_
    rw[Ry] at h2 hl2 hc2;rw[bx];obtain⟨z,M3,e3,ez,sub⟩:=eJ.mp (pW ha h158 n hm hi hbl hb);subst ez;have h3:=h2.sub sub;have hcc:=Qq hc2;refine dC (nE (xa rfl (pO rfl (h7 M2)) h2.d (by rw[QC,hcc];rfl)) ((aU (ag rfl (ag rfl (ag rfl rfl)))).trans e3) (h3.q _ _ hcc) (by rw[Qf];exact RO (hL' _) (RO (show L+i<=90006 by omega) `d))) ?_
    refine{_,rfl,t++t2,jW Q' (p+cst m i) (aW m i b),_,_,h3.push hcc _,hl2,(bk'.push b p i).congr λb' q j=>?_,λk=>?_,?_,rfl}
    ·constructor
     ·rintro((w|⟨e1,e2,e4⟩)|⟨e1,e2,e4⟩)
      ·exact .inl w
      ·exact .inr {e1,e2,RT e4}
      ·exact .inr {e1,e2,`a}
     ·rintro(w|⟨e1,e2,e4⟩)
      ·exact .inl (.inl w)
      ·rcases RU j i with z|z
       ·exact .inl (.inr ⟨e1,e2,z⟩)
       ·exact .inr {e1,e2,`a}
    ·have:=hL' k;unfold jW;split
     ·next z=>subst z;rw[QO];have:=hL' (p+cst m i);simp;omega
     ·omega
    ·unfold jW;rw[if_neg `a];exact hQ
 ·rintro Z M' ⟨t,Q',y6,y7,h',hl',bk',hL',hQ,rfl⟩;rw[l9,Qf] at bk' hL';exact k M' t Q' y6 y7 h' hl' bk' (λi=>Qp (hL' i) `a) hQ
end
section
variable{P:Nat->Option Df}{M0 M:Mem}{m:aO}{fk dv p bound:Nat}{E:fC}{cs:List Nat}{Q:Nat->List aE}{kf:Fl->Mem->Prop}{x1 y5 y6 y7:Option D}
def Hv (ha:HasB P)(h158:P 158=some {3,3,c8})(n:Nat)(hm:aI m)(hall:cz m p (E.map pr))(hE:E.length<=255)(h:cy M0 M fk dv E cs Q)(hl:cs.length<=3*E.length+1)(bk:Bk m (WE m E) Q)(hL:∀i,(Q i).length<=7*E.length+1)(hpc:p<cs.length)
 (k1:∀M' N t Q' y5 y6 y7,cz m (p+1) ((E++N).map pr)->(E++N).length<=255->cy M0 M' fk dv (E++N) (cs++t) Q'->(cs++t).length<=3*(E++N).length+1->Bk m (WE m (E++N)) Q'->(∀i,(Q' i).length<=7*(E++N).length+1)->kf (.next [some m.d,x1,some (.fn (az fk)),some (.cell dv),some (nD p),y5,y6,y7]) M')
 (k2:∀M',kG m (p+1)->Sub M0 M'->kf (.ret .non) M') :
 ae (cm (.one 5) (bK (au (aa 3) (aa 4))) (A6 (ah P (n+2))) [some m.d,x1,some (.fn (az fk)),some (.cell dv),some (nD p),y5,y6,y7] M) kf:=by
 have hcc:=Qq hpc;generalize cs[p]=cc at hcc;rw[eW,gQ,xa rfl rfl h.d (by rw[QC,hcc];rfl),aR]
 refine{rfl,?_};have at':∀{t:List Nat},(cs++t)[p]?=some cc:=λ{t}=>by rw[Qn hpc];exact hcc
 refine jq (ds:=(Q p).map bD) (λi Z M'=>∃N t Q' y5 y6 y7,NW p E (·∈(Q p).take i) N/\(E++N).length<=255/\cy M0 M' fk dv (E++N) (cs++t) Q'/\(cs++t).length<=3*(E++N).length+1/\Bk m (WE m (E++N)) Q'/\(∀i,(Q' i).length<=7*(E++N).length+1)/\Q' p=Q p/\Z=[some m.d,x1,some (.fn (az fk)),some (.cell dv),some (nD p),y5,y6,y7])
  (λfl M'=>fl=.ret .non/\kG m (p+1)/\Sub M0 M'/\M'[cc]?=some ((Q p).map bD)) ?_ ?_ ?_ {[],[],Q,y5,y6,y7,{by rw[Ri,<- iy];exact hall.nd,(λx hx=>nomatch hx),λb hb=>by simp at hb},by rw[Ri];exact hE,by rw[Ri,Ri];exact h,by rw[Ri,Ri];exact hl,by rw[Ri];exact bk,by rw[Ri];exact hL,rfl,rfl} ?_ ?_ ?_
 ·rintro fl M' ⟨rfl,_⟩ Z z;cases z
 ·rintro i Z M' ⟨N,t,Q',_,_,_,_,_,h',_,_,_,hQ,_⟩;show M'[cc]?=_;rw[h'.q p cc at',hQ]
 ·rintro fl M' ⟨_,_,_,e⟩;exact e
 ·rintro i x Z M' hx ⟨N,t,Q',y5,y6,y7,nw,hn,h',hl',bk',hL',hQ,rfl⟩;rw[QC] at hx;cases eb:(Q p)[i]? with
  |none=>rw[eb] at hx;cases hx
  | some b =>
    rw[eb] at hx;have hx:=Qv hx;subst hx;have hb:=QR eb;refine{_,rfl,?_};have hset:∀x,x∈(Q p).take (i+1)↔x∈(Q p).take i\/x=b:=λx=>by
     rw[RD,eb];simp
    have ok:=mK hm (LV hall bk hb);refine bG (bV (u9 rfl rfl (JV h'.f))) (λhc=>?_) λhc=>?_
    ·have hno:∀e∈E++N,e.1≠b:=λe he z=>by
      rw[show((E++N).any λe=>decide (e.1=b))=true from RS.mpr {e,he,decide_eq_true z}] at hc;cases hc
     have nw2:=nw.new hset hno (r:=[]) (RC _);refine dC (HR rfl rfl rfl (jH h'.f (.inr rfl)) (j6 _) (by rw[Qf];omega)) ?_
     have s1:(M'.set (az fk-5000) (.int 78::putD ((E++N).map rg) (bD b) (nD p)))=M'.set fk (pb (E++(N++[(b,p,[])]))):=by
      rw[show az fk-5000=fk from Rr _ _,G7 hno,Ry];rfl
     rw[s1];have h2:=h'.put (E++(N++[(b,p,[])]));refine bG (Bq (xq rfl (jH h2.f (.inr rfl))) rfl) (λhg=>?_) λhg=>?_
     ·have hg:=of_decide_eq_true hg;rw[aD,cH];refine .inr {rfl,Ip hm hall bk nw2.nd (λx hx=>{RW (nw2.fr x hx).1,(nw2.fr x hx).2.1}) ?_,h2.s,?_}
      ·simp at hg ⊢;omega
      ·rw[h2.q p cc at',hQ]
     ·have hg:=of_decide_eq_false hg;have hlen:(E++(N++[(b,p,[])])).length=(E++N).length+1:=by rw[<- Ry,QO];rfl
      have hg2:(E++(N++[(b,p,[])])).length<=255:=by simp at hg ⊢;omega
      rw[aD];have e4:E.length<=(E++N).length:=by rw[QO];omega
      refine JR (C:=3*(E++N).length+4) ha h158 n hm `a `a (by rw[ok.1];exact cf hm) ok.2 h2 `a bk' hL' `a λM3 t3 Q3 z6 z7 h3 hl3 bk3 hL3 hQ3=>?_
      rw[Ry] at h3 hl3;refine .inl {_,rfl,N++[(b,p,[])],t++t3,Q3,_,_,_,nw2,hg2,h3,by rw[hlen];omega,?_,λi=>?_,hQ3.trans hQ,rfl}
      ·rw[<- Ry];exact bk3.congr FX
      ·have:=hL3 i;rw[hlen];omega
    ·have hc:((E++N).any λe=>decide (e.1=b))=true:=by
      cases z:((E++N).any λe=>decide (e.1=b)) with
      |true=>rfl
      |false=>rw[z] at hc;cases hc
     obtain⟨e,he,z⟩:=RS.mp hc;exact .inl {_,rfl,N,t,Q',_,_,_,nw.old hset {e,he,of_decide_eq_true z},hn,h',hl',bk',hL',hQ,rfl}
 ·rintro Z M' ⟨N,t,Q',y5,y6,y7,nw,hn,h',hl',bk',hL',hQ,rfl⟩;rw[Qf,Rv (Ql _)] at nw;exact k1 M' N t Q' y5 y6 y7 (Io hm hall bk nw) hn h' hl' bk' hL'
 ·rintro fl M' ⟨rfl,mn,s,_⟩;exact k2 M' mn s
def An (ha:HasB P)(h158:P 158=some {3,3,c8})(h159:P 159=some {2,8,fH})(n:Nat)(hm:aI m) :
 ae (ah P (n+3) 159 [m.d,nD bound] M) λd M'=>Sub M M'/\((d=.non/\kG m (bound+1))\/∃fk E,d=.fn (az fk)/\M.length<=fk/\M'[fk]?=some (pb E)/\cz m (bound+1) (E.map pr)/\(800<=bound->AllIn m none (E.map pr)/\∀e∈E,e.2.1<=800)/\E.length<=255):=by
 refine aN h159 rfl ?_;show ae (fH (ah P (n+2)) [some m.d,some (nD bound),none,none,none,none,none,none] M) _;rw[MV];refine dC (fJ rfl) ?_;have et:aM .tuple #[ai 42 (ah P (n+2)) #[aa 0]] [some m.d,some (nD bound),some (.fn (az M.length)),none,none,none,none,none] (M++[[.int 78]])=.ok (bD (a7 m)) (M++[[.int 78]]):=by
  refine ak (b5.mpr ?_);rw[ag ((aU (ag rfl rfl)).trans (gK ha (n+1) hm)) rfl,aR];exact⟨rfl,rfl⟩
 have ei:bu true #[bu true #[aM .tuple #[ai 42 (ah P (n+2)) #[aa 0]]]] [some m.d,some (nD bound),some (.fn (az M.length)),none,none,none,none,none] (M++[[.int 78]])=.ok (.cell (M.length+2)) (M++[[.int 78],[bD (a7 m)],[.cell (M.length+1)]]):=by
  refine(wW (Ii (wW (ag et rfl) (QM rfl)) rfl) (QM rfl)).trans ?_;simp
 refine dC (fJ ei) ?_;refine bL (bY rfl) ?_;have start:cy M (M++[[.int 78],[bD (a7 m)],[.cell (M.length+1)]]) M.length (M.length+2) [] [M.length+1] (λi=>if i=0 then [a7 m] else []):=by
  refine{by simp;rfl,`s,`s,λx hx=>by simp at hx;omega,λi c e=>?_,λi hi=>if_neg (by simp at hi;omega),Sub.app}
  cases i with
  |zero=>cases e;simp
  |succ i=>simp at e
 rw[aD];refine oX (λk Z M'=>∃(p:Nat) (E:fC) (cs:List Nat) (Q:Nat->List aE) (y5 y6 y7:Option D),k=800-p/\p<=800/\p<=bound+1/\cz m p (E.map pr)/\E.length<=255/\cy M M' M.length (M.length+2) E cs Q/\cs.length<=3*E.length+1/\Bk m (WE m E) Q/\(∀i,(Q i).length<=7*E.length+1)/\Z=[some m.d,some (nD bound),some (.fn (az M.length)),some (.cell (M.length+2)),some (nD p),y5,y6,y7]) ?_ `a {0,[],_,_,none,none,none,rfl,RC _,RC _,{.nil,(λx hx=>nomatch hx),λq b hq=>absurd hq (RQ _)},RC _,start,`s,λi b=>?_,λi=>?_,rfl}
 ·rintro k Z M' ⟨p,E,cs,Q,y5,y6,y7,rfl,hp8,hp,hall,hE,h,hl,bk,hL,rfl⟩;rw[rJ (KG rfl (wX rfl h.d)) (uI rfl rfl),aR,Qf];refine{λhv=>?_,λhv=>?_}
  ·have full:cz m (bound+1) (E.map pr):=by
    rcases RU bound p with z|z
    ·have:p=bound+1:=`a
     rw[<- this];exact hall
    ·rw[decide_eq_true z,Bool.and_true] at hv;have hv:=of_decide_eq_false hv;exact hall.mono hp λq c hq _=>xG hm hall bk (λi hi=>h.e i `a) q hq c
   have none':800<=bound->AllIn m none (E.map pr)/\∀e∈E,e.2.1<=800:=λhb=>by
    rw[decide_eq_true (show p<=bound by omega),Bool.and_true] at hv
    have hv:=of_decide_eq_false hv;exact{{p,hall,xG hm hall bk (λi hi=>h.e i `a)},λe he=>Qp (So (hall.sound (pr e) (Qx.mpr ⟨e,he,rfl⟩)).2) hp8}
   exact bx.mpr (bW rfl {h.s,.inr {_,E,rfl,Ql _,h.f,full,none',hE}})
  ·have h1:=of_decide_eq_true (R8.mp hv).1;have h2:=of_decide_eq_true (R8.mp hv).2;refine{800-(p+1),`a,?_}
   unfold A5;rw[aD];refine Hv ha h158 n hm hall hE h hl bk hL h1 (λM2 N t Q2 z5 z6 z7 hall2 hE2 h2' hl2 bk2 hL2=>?_) λM2 mn s=>?_
   ·rw[bx];refine bL (bY (pO rfl rfl)) ?_;exact .inl {_,rfl,p+1,E++N,cs++t,Q2,z5,z6,z7,rfl,`a,`a,hall2,hE2,h2',hl2,bk2,hL2,rfl}
   ·exact .inr {(λ_ z=>nomatch z),s,.inl {rfl,mn.mono `a}}
 ·constructor
  ·intro hb;dsimp only at hb;split at hb
   ·next z=>exact .inl {z,Qw.mp hb}
   ·exact nomatch hb
  ·rintro(⟨rfl,rfl⟩|⟨b',q,j,w,_⟩)
   ·exact Qw.mpr rfl
   ·exact nomatch w.1
 ·show(if i=0 then [a7 m] else []).length<=1;split<;>simp
end
def iN (h1:a Z M=.ok x M)(h2:b Z M=.ok y M)(h3:bH o x y M=some v):aA o a b Z M=.ok (.bl v) M:=by
 unfold aA;rw[h1];show(b Z M).bind _=_;rw[h2];show(cu M (bH o x y M)).bind _=_;rw[h3];rfl
section
variable{P:Nat->Option Df}{M:Mem}{m:aO}{w:D}{fit:aE->Bool}
def AllIn.mem (h:AllIn m none A):(b,q)∈A↔bF m q b:=by
 refine{λz=>h.sound _ z,λz=>?_};obtain⟨p,h,no⟩:=h;rcases RU q p with hq|hq
 ·exact h.all q b hq z
 ·exact absurd z (no q hq b)
def AllIn.few (h:AllIn m none A)(hl:A.length<=255):¬ jQ m none:=by
 rintro⟨p,l',n',s',hl'⟩;have:=len_sub (AV n') λx hx=>h.mem.mpr (s' x hx).1;omega
end
section
variable{P:Nat->Option Df}{M M1:Mem}{m:aO}{w:D}{fit:aE->Bool}{Z:Env}{a b:GE}{t:GT}{A rest:GS}{k:Fl->Mem->Prop}
def u7 (ha:a Z M=.ok x M1)(hb:b Z M1=.ok (.fn o) M1)(e:inD M1 o x=some r):aj (fZ n a b) Z M=.ok (n != r) M1:=by
 unfold aj fZ;rw[ha];show Res.bind (Res.bind (b Z M1) _) _=_;rw[hb];show Res.bind (match inD M1 o x with|some r=>Res.ok (D.bl (n != r)) M1|none=>.bad) _=_
 rw[e];rfl
def si (ht:t Z M=.ok false M1)(h:ae (rest Z M1) k):ae (aX (aQ t A aG) rest Z M) k:=by
 simp only[aD,gZ];rw[ht];exact h
def AU (h:Z[j]?.getD none=some m.d):aM .len #[au (aa j) (gI 2)] Z M=.ok (nD m.deeds.length) M:=by
 refine ak (b5.mpr ?_);rw[ag (bE (ay h) rfl rfl) rfl,aR];show ae (Res.ok (D.int ((m.deeds.map a9.d).length:Int)) M) _;rw[Qf];exact⟨rfl,rfl⟩
end
structure D9 (P:Nat->Option Df):Prop where
 whole:P 67=some {1,1,ig}
 is_in:P 68=some {3,3,nB}
 numbers:P 69=some {4,4,lu}
def n5 (e:a Z M=.ok (.tup xs) M):aM .len #[a] Z M=.ok (nD xs.length) M:=by
 refine ak (b5.mpr ?_);rw[ag e rfl,aR];exact⟨rfl,rfl⟩
def pz (e:a Z M=.ok (.lst xs) M):aM .len #[a] Z M=.ok (nD xs.length) M:=by
 refine ak (b5.mpr ?_);rw[ag e rfl,aR];exact⟨rfl,rfl⟩
section
variable{P:Nat->Option Df}{M:Mem}{m:aO}(h:D9 P)
include h
theorem Jk (n x:Nat):ah P (n+1) 67 [nD x] M=.ok (.bl true) M:=by
 refine ak (aN h.whole rfl ?_);show ae (ig (ah P n) [some (nD x)] M) _;exact bW rfl ⟨rfl,rfl⟩
end
noncomputable def pP (m:aO)(x:D):Prop:=x=.non\/∃v:Nat,x=nD v/\v<m.words
noncomputable def eZ (m:aO)(ws:List D):Prop:=ws.length=(a7 m).length/\∀x∈ws,pP m x
noncomputable def q9:D->Bool
 |.tup [.tup (x::_),w]=>fh w||bS x w
 |_=>false
def qx (f:D->Bool):∀ds:List D,boolsOf (ds.map λd=>.bl (f d))=some (ds.map f)
 |[]=>rfl
 |d::r=>by simp[boolsOf,qx f r]
def all_gen (f:D->Bool)(hw:ae (w Z M) λwk M'=>M'=M/\wk M=some ds)(hz:ds.length<=sz)(he:∀d∈ds,∃ρ1,b6 tg d (List.replicate own none++Z)=some ρ1/\ge ρ1 M=.ok (.bl (f d)) M) :
 aM .all #[bc false own tg w (bo ge)] Z M=.ok (.bl (ds.all f)) M:=by
 refine ak ?_;simp only[b5,bX,dG,cb];refine aJ hw λwk M' ⟨e1,e2⟩=>?_;subst e1;refine fc (λd=>.bl (f d)) hz e2 he ?_;simp only[bI,Qf,rK];refine{hz,_,qx f ds,?_,trivial}
 congr 1
 rw[List.all_map];rfl
def mV:b7 (.tup (x::r)) (.int 0) M=some x:=by
 show(cw (x::r).length ((0:Nat):Int)).bind (λj=>(x::r)[j]?)=_;rw[dD `s]
 rfl
section
variable{P:Nat->Option Df}(h:HasB0 P){M:Mem}{m:aO}
include h
theorem Hd (n:Nat)(hx:pP m x) :
 uW (aA .isN (aa 0) gN) (ai 1 (ah P (n+2)) #[au (aa 1) (gI 0),aa 0]) (some x::some m.d::r) M=.ok (.bl true) M:=by
 rcases hx with rfl|⟨v,rfl,hv⟩
 ·rfl
 ·refine ak (Ll.mpr (eC.mpr (bw.mpr {nD v,rfl,dJ.mpr {false,rfl,false,rfl,?_}})));rw[if_neg QP,(aU (ag (bE rfl rfl mV) (ag rfl rfl))).trans (qF h n hv)];exact⟨rfl,rfl⟩
theorem Ak (h15:P 15=some {1,6,cg})(h79:P 79=some {2,2,kg})(n:Nat)(hm:aI m)(hw:eZ m ws):ah P (n+10) 79 [m.d,.tup ws] M=.ok (.bl true) M:=by
 refine ak (aN h79 rfl ?_);have e15:=kK h h15 n (M:=M) hm;have:=cf hm;refine d5 (g7 (bV ((aU (ag ?_ (ag rfl rfl))).trans (lG h (n+8) hw.1)))) ?_
 ·refine ak (b5.mpr ?_);rw[ag ((aU (ag rfl rfl)).trans e15) rfl,aR];exact{by rw[Qf],rfl}
 ·exact bW (ak (all_true ⟨rfl,rfl⟩ (ax (by rw[hw.1];omega)) (λx hx=>Hd h (n+7) (hw.2 x hx)) ⟨rfl,rfl⟩)) ⟨rfl,rfl⟩
theorem AR (h15:P 15=some {1,6,cg})(h79:P 79=some {2,2,kg})(h80:P 80=some {2,2,kC})(n:Nat)(hm:aI m)(hw:eZ m ws):ah P (n+11) 80 [m.d,.tup ws] M=.ok .non M:=by
 refine ak (aN h80 rfl ?_);refine bL (u1 ((eQ (ag rfl rfl)).trans (t5 h (n+2) hm))) ?_;exact d5 (g7 (bV ((aU (ag rfl (ag rfl rfl))).trans (Ak h h15 h79 n hm hw)))) ⟨rfl,rfl⟩
end
noncomputable def rM (zs:List D):Prop:=∀z∈zs,∃x r w,z=.tup [.tup (nD x::r),w]/\(w=.non\/∃v:Nat,w=nD v)
def u2 (hw:w=.non\/∃v:Nat,w=nD v):bH .eq (nD x) w M=some (bS (nD x) w):=by
 rcases hw with rfl|⟨v,rfl⟩
 ·exact ot rfl rfl rfl
 ·exact ot rfl rfl rfl
section
variable{P:Nat->Option Df}{M:Mem}
def rY (h81:P 81=some {2,2,gO})(n:Nat)(hz:(ff es ws).length<=sz)(hp:rM (ff es ws)):ah P (n+1) 81 [.tup es,.tup ws] M=.ok (.bl ((ff es ws).all q9)) M:=by
 refine ak (aN h81 rfl ?_);unfold gO;refine bW (all_gen q9 ⟨rfl,rfl⟩ hz λz hz=>?_) ⟨rfl,rfl⟩;obtain⟨x,r,w,rfl,hw⟩:=hp z hz;refine{_,rfl,ak ?_};simp only[Ll,eC,dJ,bw,fA];refine{w,rfl,fh w,rfl,fh w,rfl,?_};cases hn:fh w with
 | true =>
   refine{?_,trivial};show _=D.bl (fh w||bS (nD x) w);rw[hn];rfl
 | false =>
   refine{_,rfl,nD x,mV,w,rfl,_,u2 hw,?_,trivial};show _=D.bl (fh w||bS (nD x) w);rw[hn];rfl
def xX (h84:P 84=some {2,2,gq})(n:Nat)(hz:(ff es ws).length<=sz)(hp:rM (ff es ws)):ah P (n+1) 84 [.tup es,.tup ws] M=.ok (.bl ((ff es ws).all q9)) M:=by
 refine ak (aN h84 rfl ?_);unfold gq;simp only[aD,cH,eC,dG,IK,bw];refine{_,rfl,_,rfl,rfl,?_};refine sG (λz=>!q9 z) (λ_=>.int 1) hz rfl (λz hz=>?_) ?_
 ·obtain⟨x,r,w,rfl,hw⟩:=hp z hz;refine{_,rfl,dF ?_,λ_=>rfl};simp only[Mq,gV,eC,dJ,bw,fA];refine{w,rfl,!fh w,rfl,!fh w,rfl,?_};cases hn:fh w with
  | true =>
    refine{?_,trivial};show _=!(fh w||bS (nD x) w);rw[hn];rfl
  | false =>
    refine{_,rfl,nD x,mV,w,rfl,_,(show bH .ne (nD x) w M=some (!bS (nD x) w) by show(bH .eq (nD x) w M).map (!·)=_;rw[u2 hw];rfl),_,rfl,?_,trivial}
    show _=!(fh w||bS (nD x) w);rw[hn];rfl
 ·refine bI.mpr {Qp (by rw[Qf];exact Sk _ _) hz,?_}
  simp only[tq,cb];refine bI.mpr {RC _,_,eq_empty ?_,?_,rfl}
  ·rw[QB];intro x hx;obtain⟨_,_,rfl⟩:=Qx.mp hx;rfl
  ·rw[l7 q9]
end
section
variable{Z:Env}{M:Mem}{kf:Fl->Mem->Prop}{rest:GS}{g a:GE}{s:GA}
def pH (Q:D->Prop)(hw:ae (w Z M) λwk M'=>M'=M/\∀M',aY p M M'->wk M'=some ds)(hz:ds.length<=100)(hp:aF M p B)
 (hs:∀d∈ds,∀M' B',aY p M M'->aF M' p B'->B'<=B+100->∃ρ1,b6 tg d (List.replicate own none++Z)=some ρ1/\ae (g ρ1 M') λx M''=>Q x/\aF M'' p (B'+1)/\aY p M' M'') :
 ae (bc true own tg w (bo g) Z M) λd M'=>∃q ws,d=.cell q/\M'[q]?=some ws/\ws.length=ds.length/\(∀x∈ws,Q x)/\M.length<=q/\aF M' p (B+100)/\aY p M M':=by
 rw[dG];refine aJ hw ?_;rintro wk M0 ⟨rfl,hk⟩;refine comp_map (λi acc M'=>aF M' p (B+i)/\aY p M0 M'/\∀x∈acc,Q x) (ax `a) (λ_ _ _ h=>hk _ h.2.1) {hp,.refl,λ_ h=>nomatch h} ?_ ?_
 ·rintro i d acc M' hd hl ⟨q1,k1,a1⟩;have hi:=(Qg.mp hd).1;obtain⟨ρ1,e,o⟩:=hs d (QR hd) M' (B+i) k1 q1 `a
  refine{ρ1,e,aJ o λx M2 ⟨c1,c2,c3⟩=>{c2,k1.trans c3,λy hy=>?_}};rcases QL.mp hy with hy|hy
  ·exact a1 y hy
  ·rw[Qw.mp hy];exact c1
 ·rintro acc M' hl ⟨q1,k1,a1⟩;exact jj.mpr {ax `a,M'.length,acc,rfl,List.getElem?_concat_length,hl,a1,k1.len,(q1.mono `a).app,k1.trans .app}
end
def vH (hm:aI m):0<(a7 m).length:=List.length_pos_of_mem (vI hm (s:=List.replicate m.places 0) {`s,λx hx=>by have:=hm.w2;rw[(List.mem_replicate.mp hx).2];omega})
def tO {m:aO}(h:Z[j]?.getD none=some m.d):au (aa j) (gI 0) Z M=.ok (nD m.words) M:=by
 refine ak ?_;simp only[fA,bw,dJ];exact{_,h,_,mV,rfl,trivial}
def su (hm:aI m)(hs:dz m s):∃x r,aq s=.tup (nD x::r)/\x<m.words:=by
 cases s with
 | nil =>
   have h1:=hs.1;have h2:=hm.p1;rw[<- h1] at h2;exact absurd h2 `d
 |cons x t=>exact{x,t.map nD,rfl,hs.2 x QK}
noncomputable def IH (c:Call):GS:=#v[aQ (aj (aA .gt (aa 3) (gI 0))) #v[aw (.one 6) (bc true 1 (.one 0) (bK (aa 6)) (bo (gG (aj (aA .eq (ai 31 c #[aa 1,av false .add (gI 2) (aa 4)]) (gI 0))) gN (aa 0))))] aG,aP (aM .tuple #[aa 6])]
noncomputable def II (c:Call):GS:=(aX (aw (.one 7) (ai 31 c #[aa 0,aM .len #[aa 6]])) (aX (aQ (aj (aA .eq (aa 2) (gI 1))) #v[eO (aa 6) (aa 7) (ai 31 c #[aa 0,au (aa 1) (gI 0)])] aG) (IH c)))
structure zd (m:aO) (p B q:Nat) (M0 M:Mem):Prop where
 pen:aF M p B
 keep:aY p M0 M
 new:M0.length<=q
 at':∃ws,M[q]?=some ws/\eZ m ws
noncomputable def fV (m:aO)(p B:Nat)(M0:Mem):D->Mem->Prop:=λd M'=>∃ws,d=.tup ws/\eZ m ws/\aF M' p B/\aY p M0 M'
section
variable{P:Nat->Option Df}{M M0:Mem}{m:aO}{p B q:Nat}
def wb (h:zd m p B q M0 M):ae (#v[aP (aM .tuple #[aa 6])] [x0,x1,x2,x3,x4,x5,some (.cell q),x7] M) (iR (fV m p B M0)):=by
 obtain⟨ws,e,hw⟩:=h.at';refine bW (ak ?_) ⟨ws,rfl,hw,h.pen,h.keep⟩;simp only[b5,bX,cb,bw];exact{_,rfl,pU.mpr ⟨ws,e,rfl,rfl⟩}
def fV.mono (hB:B<=B')(h:iR (fV m p B M0) fl M):iR (fV m p B' M0) fl M:=by
 cases fl with
 |next Z=>obtain⟨ws,e,_⟩:=h;cases e
 |ret d=>obtain⟨ws,e,hw,q,k⟩:=h;exact{ws,e,hw,q.mono hB,k}
 |exc x Z=>exact h
variable(hp_:HasP0 P)
include hp_
theorem Eh (n:Nat)(hm:aI m)(hp0:p<M0.length)(hf:free<4)(h:zd m p B q M0 M)(hB:B<=900000):ae (IH (ah P (n+2)) [some (.cell p),some m.d,x2,some (nD free),x4,x5,some (.cell q),x7] M) (iR (fV m p (B+100) M0)):=by
 have l2:=cf hm;refine bG (Nd rfl) (λ_=>?_) λ_=>aJ (wb h) λfl M'=>fV.mono `a
 obtain⟨ws,e,hw⟩:=h.at';have hne:q≠p:=by have:=h.new;omega
 refine cF (pH (pP m) {rfl,λM' k=>k.get e hne} (by rw[hw.1];omega) h.pen λd hd M' B' k' p' hB'=>{_,rfl,?_}) ?_
 ·simp only[Ft,gV,eC,dJ,bw];refine aJ (eL hp_ n rfl (by show Res.ok (D.int ((2:Int)+(free:Int))) M'=_;rw[show((2:Int)+(free:Int))=((2+free:Nat):Int) by omega]) p' `a `a `a) ?_
  rintro _ M2 ⟨v,rfl,hv,q2,k2⟩;refine{(v:Int)==0,rfl,(v:Int)==0,rfl,?_};cases (v:Int)==0 with
  |true=>exact{.inl rfl,q2,k2}
  |false=>exact{d,rfl,hw.2 d hd,q2,k2}
 ·rintro _ M5 ⟨q',ws',rfl,e',hl,hQ,hn,q5,k5⟩;exact wb {q5,h.keep.trans k5,Qp h.keep.len hn,ws',e',hl.trans hw.1,hQ}
theorem Ei (n:Nat)(hm:aI m)(hp0:p<M0.length)(hf:free<4)(h:zd m p B q M0 M)(hB:B<=800000):ae (II (ah P (n+2)) [some (.cell p),some m.d,some (nD kind),some (nD free),x4,x5,some (.cell q),x7] M) (iR (fV m p (B+102) M0)):=by
 have l1:=vH hm;have l2:=cf hm;have w2:=hm.w2;have w4:=hm.w4;obtain⟨ws,e,hw⟩:=h.at';have hne:q≠p:=by have:=h.new;omega
 have hlt:p<q:=by have:=h.new;omega
 refine dZ hp_ n (many:=ws.length) rfl (ak ?_) h.pen `a (by rw[hw.1];omega) (by rw[hw.1];omega) λat_ M1 hat q1 k1=>?_
 ·simp only[b5,bX,cb,bw];exact{_,rfl,pw.mpr ⟨ws,e,rfl,rfl⟩}
 have e1:=k1.get e hne;refine bG (gA rfl) (λ_=>?_) λ_=>aJ (Eh hp_ n hm hp0 hf {q1,h.keep.trans k1,h.new,ws,e1,hw} `a) λfl M'=>fV.mono `a
 simp only[aD,kL];refine aJ (eL hp_ n rfl (tO rfl) q1 `a `a `a) ?_
 rintro _ M2 ⟨v,rfl,hv,q2,k2⟩;simp only[bw];have e2:=k2.get e1 hne;refine{_,rfl,_,rfl,q,at_,ws,at_,rfl,rfl,e2,dD hat,?_};refine aJ (Eh hp_ n hm hp0 hf {q2.setq hlt,((h.keep.trans k1).trans k2).setq h.new,h.new,ws.set at_ (nD v),?_,?_,λx hx=>?_} `a) λfl M'=>fV.mono `a
 ·rw[QS (Qg.mp e2).1]
 ·rw[List.length_set];exact hw.1
 ·rcases List.mem_or_eq_of_mem_set hx with hx|rfl
  ·exact hw.2 x hx
  ·exact .inr ⟨v,rfl,hv⟩
end
section
variable{P:Nat->Option Df}{M:Mem}
def Ac (hp_:HasP P)(hb:HasB P)(h35:P 35=some {3,6,fT})(h44:P 44=some {2,5,fu})(h83:P 83=some {2,8,iT})(n:Nat)(hm:aI m)(hp:aF M p B)(hB:B<=600000) :
 ae (ah P (n+4) 83 [.cell p,m.d] M) (fV m p (B+400) M):=by
 have l2:=cf hm;have w2:=hm.w2;have w4:=hm.w4;refine aN h83 rfl ?_;refine dZ hp_ (n+1) (many:=5) rfl rfl hp `a `a `a λkind M1 hkd q1 k1=>?_
 refine dZ hp_ (n+1) (many:=4) rfl rfl q1 `a `a `a λfree M2 hfr q2 k2=>?_
 refine bL (bY (NP rfl (gK hb (n+2) hm))) ?_;refine cF (k:=λd M'=>∃r,d=.tup ((ends m r).map aq)/\(∀i∈r,i<m.deeds.length)/\aF M' p (B+60)/\aY p M2 M') ?_ ?_
 ·simp only[u5,bX,cb,dJ];show ae (ah P (n+3) 35 [.cell p,m.d,nD 6] M2) _;refine aJ (Gp hp_ h35 n hm q2 `a `a) ?_
  rintro _ M3 ⟨r,rfl,hr,_,q3,k3⟩;refine aJ (CG hb h44 (n+1) hm hr.2) ?_;rintro _ M4 ⟨rfl,S⟩;exact{r,rfl,hr.2,S.pen (q3.mono `a),k3.trans S.keep}
 rintro _ M4 ⟨r,rfl,hr,q4,k4⟩;have K4:=(k1.trans k2).trans k4;refine cF (pH (pP m) {rfl,λ_ _=>rfl} (by simp[ends];omega) q4 λd hd M' B' k' p' hB'=>{_,rfl,?_}) ?_
 ·obtain⟨s,hs,rfl⟩:=Qx.mp hd;obtain⟨b,hb',rfl⟩:=Qx.mp hs;obtain⟨x,t,e,hx⟩:=su hm (rh hm hr (oA b hb'));rw[e];simp only[fA,bw,dJ];exact{_,rfl,_,mV,.inr ⟨x,rfl,hx⟩,p'.mono `a,.refl}
 rintro _ M5 ⟨q,ws,rfl,e5,hl,hQ,hn,q5,k5⟩;have F5:zd m p (B+260) q M M5:={q5.mono `a,K4.trans k5,Qp K4.len hn,ws,e5,by rw[hl];simp[ends],hQ}
 have hp0:=hp.lt;refine bG (gA rfl) (λ_=>?_) λ_=>aJ (Ei hp_ (n+1) hm hp0 hfr F5 `a) λfl M'=>fV.mono `a
 refine cF (pH (pP m) {rfl,λ_ _=>rfl} `o q5 λd hd M' B' k' p' hB'=>{_,rfl,?_}) ?_
 ·refine aJ (eL hp_ (n+1) rfl (tO rfl) p' `a `a `a) ?_
  rintro _ M2 ⟨v,rfl,hv,q2,k2⟩;exact{.inr ⟨v,rfl,hv⟩,q2,k2}
 rintro _ M6 ⟨q',ws',rfl,e6,hl',hQ',hn',q6,k6⟩;show ae (II (ah P (n+1+2)) [some (.cell p),some m.d,some (nD kind),some (nD free),some (.lst ((a7 m).map aq)),some (.tup ((ends m r).map aq)),some (.cell q'),none] M6) (iR (fV m p (B+400) M));exact aJ (Ei hp_ (n+1) hm hp0 hfr {q6,F5.keep.trans k6,Qp F5.keep.len hn',ws',e6,by rw[hl'];simp,hQ'} `a) λfl M'=>fV.mono `a
end
noncomputable def mZ (ws:List D)(b:aE):Bool:=(ff (b.map aq) ws).all q9
def lQ (hm:aI m):∀{b:aE}{ws:List D},(∀s∈b,dz m s)->(∀x∈ws,pP m x)->rM (ff (b.map aq) ws)
 |[],ws,_,_=>by intro z hz;cases ws<;>exact nomatch hz
 |s::b,[],_,_=>by intro z hz;exact nomatch hz
 | s :: b, x :: ws, hb, hw => by
   intro z hz;rcases Rg.mp (hz) with rfl|hz
   ·obtain⟨v,r,e,_⟩:=su hm (hb s QK);refine{v,r,x,by rw[e],?_}
    rcases hw x QK with z|⟨v,z,_⟩
    ·exact .inl z
    ·exact .inr ⟨v,z⟩
   ·exact lQ hm (λs hs=>hb s (Qz _ hs)) (λx hx=>hw x (Qz _ hx)) z hz
def nK:∀{xs ys:List D},(ff xs ys).length<=xs.length
 |[],ys=>by cases ys<;>exact Ql _
 |_::_,[]=>RC _
 |x::xs,y::ys=>Nat.succ_le_succ (nK)
section
variable{P:Nat->Option Df}{M:Mem}{m:aO}{ws:List D}{q:Nat}{b:aE}
def Nh (n:Nat)(h81:P 81=some {2,2,gO})(hm:aI m)(hw:eZ m ws)(lq:bF m q b):ah P (n+1) 81 [bD b,.tup ws] M=.ok (.bl (mZ ws b)) M:=by
 obtain⟨ol,os⟩:=mK hm lq.1;have:=cf hm;exact rY h81 n (ax (Qp nK (by rw[Qf];omega))) (lQ hm os hw.2)
end
noncomputable def rX (m:aO)(s:List Nat):Bool:=s.length==m.places&&s.all λx=>decide (x<m.words)
noncomputable def eR (m:aO)(b:aE):Bool:=b.length==(a7 m).length&&b.all (rX m)
structure Loose (b:aE):Prop where
 l:b.length<=100
 s:∀s∈b,s.length<=100
def Jj {m:aO}{s:List Nat}(h:rX m s=true):dz m s:=by
 unfold rX at h;rw[Qr] at h;exact{eq_of_beq h.1,λx hx=>of_decide_eq_true (QB.mp h.2 x hx)}
def oz {m:aO}{b:aE}(h:eR m b=true):b.length=(a7 m).length/\∀s∈b,dz m s:=by
 unfold eR at h;rw[Qr] at h;exact{eq_of_beq h.1,λs hs=>Jj (QB.mp h.2 s hs)}
noncomputable def oH:D->Nat
 |.int i=>i.toNat
 |_=>0
noncomputable def wc:D->List Nat
 |.tup ds=>ds.map oH
 |_=>[]
noncomputable def pT:D->aE
 |.tup ds=>ds.map wc
 |_=>[]
def IS {l:List Nat}:(l.map nD).map oH=l:=by
 rw[Rk];exact(RG λx _=>RF x).trans (List.map_id l)
def pS {s:List Nat}:wc (aq s)=s:=IS
def mF {b:aE}:pT (bD b)=b:=by
 show(b.map aq).map wc=b;rw[Rk];exact(RG λs _=>pS).trans (List.map_id b)
def xM {l:List Nat}{p:Nat->Bool}:((l.map nD).all λd=>p (oH d))=l.all p:=by
 rw[List.all_map]
 congr 1
def xK {b:aE}{p:List Nat->Bool}:((b.map aq).all λd=>p (wc d))=b.all p:=by
 rw[List.all_map]
 congr 1
 exact funext λs=>congrArg p pS
def Iw {L:List aE}{p:aE->Bool}:((L.map bD).all λd=>p (pT d))=L.all p:=by
 rw[List.all_map]
 congr 1
 exact funext λs=>congrArg p mF
def AS {i j:Nat}{M:Mem}:bH .ne (nD i) (nD j) M=some (!(i==j)):=by
 show some (!((i:Int)==(j:Int)))=_;rw[show((i:Int)==(j:Int))=(i==j) by rw[Rp,beq_iff_eq,beq_iff_eq,Int.ofNat_inj]]
section
variable{P:Nat->Option Df}{M:Mem}{m:aO}(h:D9 P)
include h
theorem Jl {w:Nat}(n x:Nat):ah P (n+2) 68 [nD x,.int 0,.int ((w:Int)-1)] M=.ok (.bl (decide (x<w))) M:=by
 refine ak (aN h.is_in rfl ?_);refine bW ((qz (y:=decide (x<w)) ((aU (ag rfl rfl)).trans (Jk h n x)) λ_=>?_).trans rfl) ⟨rfl,rfl⟩;show Res.ok (D.bl (decide ((0:Int)<=(x:Int))&&decide ((x:Int)<=(w:Int)-1))) M=_;rw[decide_eq_true (Int.natCast_nonneg x),show decide ((x:Int)<=(w:Int)-1)=decide (x<w) from decide_eq_decide.mpr `a];rfl
theorem Gs {w p:Nat}(n:Nat){s:List Nat}(hz:s.length<=100):ah P (n+3) 69 [aq s,nD p,.int 0,.int ((w:Int)-1)] M=.ok (.bl (s.length==p&&s.all λx=>decide (x<w))) M:=by
 refine ak (aN h.numbers rfl ?_);have t:(dN (cj (aj (eB .tuple (aa 0)))) (aj (aA .ne (aM .len (bg (aa 0) bj)) (aa 1)))) [some (aq s),some (nD p),some (.int 0),some (.int ((w:Int)-1))] M=.ok (!(s.length==p)) M:=by
  refine(nU (g7 (b:=true) (bV rfl)) (bV (iN (x:=nD s.length) ?_ rfl AS))).trans rfl;rw[n5 rfl,Qf]
 cases e:s.length==p with
 | false =>
   rw[e] at t;exact jm t rfl ⟨rfl,rfl⟩
 | true =>
   rw[e] at t;refine d5 t ?_;rw[aD,cH];refine wI (ds:=s.map nD) (λd=>decide (oH d<w)) ?_ (ax (by rw[Qf];omega)) (λd hd=>?_) ?_
   ·rw[gQ,ay rfl,aR];exact⟨rfl,rfl,rfl⟩
   ·obtain⟨x,hx,rfl⟩:=Qx.mp hd;exact g7 (bV ((aU (ag rfl (ag rfl (ag rfl rfl)))).trans (Jl h n x)))
   ·rw[xM (p:=λx=>decide (x<w))];exact⟨rfl,rfl⟩
theorem Al (n:Nat)(ha:HasB P)(h168:P 168=some {2,2,fw})(hm:aI m){b:aE}(lb:Loose b):ah P (n+4) 168 [m.d,bD b] M=.ok (.bl (eR m b)) M:=by
 have hb:=cf hm;refine ak (aN h168 rfl ?_);have t:(dN (cj (aj (eB .tuple (aa 1)))) (aj (aA .ne (aM .len (bg (aa 1) bj)) (aM .len (bg (ai 42 (ah P (n+3)) (bg (aa 0) bj)) bj))))) [some m.d,some (bD b)] M=.ok (!(b.length==(a7 m).length)) M:=by
  refine(nU (g7 (b:=true) (bV rfl)) (bV (iN (x:=nD b.length) (y:=nD (a7 m).length) ?_ ?_ AS))).trans rfl
  ·rw[n5 rfl,Qf]
  ·rw[pz ((aU (ag rfl rfl)).trans (gK ha (n+2) hm)),Qf]
 unfold eR;cases e:b.length==(a7 m).length with
 | false =>
   rw[e] at t;exact jm t rfl ⟨rfl,rfl⟩
 | true =>
   rw[e] at t;refine d5 t ?_;rw[aD,cH];refine wI (ds:=b.map aq) (λd=>rX m (wc d)) ?_ (ax (by rw[Qf];have:=lb.l;omega)) (λd hd=>?_) ?_
   ·rw[gQ,ay rfl,aR];exact⟨rfl,rfl,rfl⟩
   ·obtain⟨s,hs,rfl⟩:=Qx.mp hd;have e1:au (aa 1) (gC (.int 1)) [some (aq s),some m.d,some (bD b)] M=.ok (nD m.places) M:=bE rfl rfl rfl;have e2:av false .sub (au (aa 1) (gC (.int 0))) (gC (.int 1)) [some (aq s),some m.d,some (bD b)] M=.ok (.int ((m.words:Int)-1)) M:=(lr (bE rfl rfl rfl) rfl).trans rfl;rw[pS];exact g7 (bV ((aU (ag rfl (ag e1 (ag rfl (ag e2 rfl))))).trans (Gs h n (lb.s s hs))))
   ·rw[xK (p:=rX m)];exact⟨rfl,rfl⟩
end
section
variable{P:Nat->Option Df}{M:Mem}{m:aO}(h:HasB0 P)
include h
theorem CB (n:Nat){w t:Nat}:ah P (n+2) 1 [nD w,nD t] M=.ok (.bl (decide (t<w))) M:=by
 refine ak (aN h.is_word rfl ?_);refine bW ((aU (xs:=[nD t,.int 0,.int ((w:Int)-1)]) (ag rfl (ag rfl (ag ((lr rfl rfl).trans rfl) rfl)))).trans (gX h n _ _ _)) {?_,rfl};rw[decide_eq_true (Int.natCast_nonneg t),show decide ((t:Int)<=(w:Int)-1)=decide (t<w) from decide_eq_decide.mpr `a];rfl
theorem wu (n:Nat){w:Nat}{ds:List D}:ah P (n+1) 4 [nD w,.tup ds] M=.ok (.bl (ds.length==w)) M:=by
 refine ak (aN h.is_tuple_of rfl ?_);show ae (gD (ah P n) [some (nD w),some (.tup ds)] M) _;refine bW ((qz (x:=true) (y:=ds.length==w) rfl λ_=>iN (x:=nD ds.length) (y:=nD w) (n5 (xs:=ds) rfl) rfl ?_).trans rfl) ⟨rfl,rfl⟩;show some ((ds.length:Int)==(w:Int))=_;rw[show((ds.length:Int)==(w:Int))=(ds.length==w) by rw[Rp,beq_iff_eq,beq_iff_eq,Int.ofNat_inj]]
theorem GC (h14:P 14=some {2,5,du})(n:Nat){s:List Nat}(hz:s.length<=100):ah P (n+3) 14 [m.d,aq s] M=.ok (.bl (rX m s)) M:=by
 refine ak (aN h14 rfl ?_);show ae (du (ah P (n+2)) [some m.d,some (aq s),none,none,none] M) _;unfold du;refine bL (show aw (.tup [2,3,4]) (aa 0) _ M=.ok (.next [some m.d,some (aq s),some (nD m.words),some (nD m.places),some (.tup (m.deeds.map a9.d))]) M from rfl) ?_
 refine bW (qz ((aU (ag rfl (ag rfl rfl))).trans (wu h (n+1))) λ_=>(all_gen (λd=>decide (oH d<m.words)) ⟨rfl,rfl⟩ (ax (by rw[Qf];omega)) λd hd=>?_)) {?_,rfl}
 ·obtain⟨x,hx,rfl⟩:=Qx.mp hd;exact{_,rfl,(aU (ag rfl (ag rfl rfl))).trans (CB h n)}
 ·rw[xM (p:=λx=>decide (x<m.words)),Qf];rfl
theorem GD (h14:P 14=some {2,5,du})(h15:P 15=some {1,6,cg})(h176:P 176=some {2,3,dw})(n:Nat)(hm:aI m){L:List aE}(hl:L.length<=1000)(ll:∀b∈L,Loose b):ah P (n+10) 176 [m.d,.lst (L.map bD)] M=.ok (.bl (L.all (eR m))) M:=by
 refine ak (aN h176 rfl ?_);show ae (dw (ah P (n+9)) [some m.d,some (.lst (L.map bD)),none] M) _;unfold dw;refine bL (bY (x:=nD (a7 m).length) ?_) ?_
 ·rw[pz ((aU (ag rfl rfl)).trans (kK h h15 n hm)),Qf]
 refine bW (all_gen (λd=>eR m (pT d)) ⟨rfl,rfl⟩ (ax (by rw[Qf];omega)) λd hd=>?_) {?_,rfl}
 ·obtain⟨b,hb,rfl⟩:=Qx.mp hd;refine{_,rfl,?_};rw[mF];refine Eq.trans (qz ((aU (ag rfl (ag rfl rfl))).trans (wu h (n+8))) λ_=>(all_gen (ds:=b.map aq) (λd=>rX m (wc d)) ⟨rfl,rfl⟩ (ax (by rw[Qf];have:=(ll b hb).l;omega)) λd hd=>?_)) ?_
  ·obtain⟨s,hs,rfl⟩:=Qx.mp hd;refine{_,rfl,?_};rw[pS];exact(aU (ag rfl (ag rfl rfl))).trans (GC h h14 (n+6) ((ll b hb).s s hs))
  ·rw[xK (p:=rX m),Qf];rfl
 ·rw[Iw (p:=eR m)]
end
section
variable{P:Nat->Option Df}{M:Mem}{m:aO}
def Ah (hb:HasB0 P)(hr:jf P)(h15:P 15=some {1,6,cg})(h151:P 151=some {1,2,dY})(h152:P 152=some {2,2,eT})(h165:P 165=some {3,11,ie})(h166:P 166=some {2,6,jJ})(n:Nat)(hm:aI m) :
 fX (ah P (n+11) 166 [m.d,.non] M) (λd M'=>∃fk E,d=.fn (az fk)/\M.length<=fk/\M'[fk]?=some (kB E)/\vS m M.length M' E/\AllIn m none ((un E).map pr)/\E.length<=255/\Sub M M') (λx M'=>x=.exc 8 none/\jQ m none/\Sub M M'):=
 Ag (bd:=none) (λ_=>rfl) (λ_=>rfl) hb hr h15 h151 h152 h165 h166 n hm (λ_ z=>nomatch z)
end
noncomputable def ins (E:List aE)(b:aE):List aE:=if b∈E then E else E++[b]
noncomputable def dX (L:List aE):List aE:=L.foldl ins []
def Hs {E:List aE}{b x:aE}:x∈ins E b↔x∈E\/x=b:=by
 unfold ins;split
 ·exact{.inl,λh=>h.elim id λe=>e ▸ ‹_›}
 ·rw[QL,Qw]
def xA {x:aE}:∀(L E:List aE),x∈L.foldl ins E↔x∈E\/x∈L
 |[],E=>`s
 | b :: L, E => by
   rw[List.foldl_cons,xA L,Hs,Rg,or_assoc]
def gj {L:List aE}{x:aE}:x∈dX L↔x∈L:=(xA L []).trans `s
def HC {E:List aE}{b:aE}:(ins E b).length<=E.length+1:=by
 unfold ins;split<;>simp
def uZ:∀(L E:List aE),(L.foldl ins E).length<=E.length+L.length
 |[],E=>Ql _
 | b :: L, E => by
   have:=uZ L (ins E b);have:=HC (E:=E) (b:=b);rw[List.foldl_cons,RL];omega
def vd {L:List aE}:(dX L).length<=L.length:=by
 have:=uZ L [];rw[List.length_nil] at this;unfold dX;omega
def xy {L:List aE}{i:Nat}{b:aE}(e:L[i]?=some b):dX (L.take (i+1))=ins (dX (L.take i)) b:=by
 unfold dX;rw[RD,e,List.foldl_append];rfl
abbrev jE (E:List aE):List D:=iS id (λ_=>.bl true) E
def wB {E:List aE}{b:aE}:putD (E.map λe=>.tup [bD (id e),.bl true]) (bD b) (.bl true)=(ins E b).map λe=>.tup [bD (id e),.bl true]:=by
 unfold ins;split
 ·next hb=>
  unfold putD;rw[oj (k:=id) (v:=λ_=>D.bl true),R9,show(E.find? λe=>decide (id e=b)).isSome=true from by rw[List.find?_isSome];exact{b,hb,decide_eq_true rfl},if_pos rfl,Rk]
  refine RG λe _=>?_;show(if bS (bD e) (bD b)=true then D.tup [bD e,.bl true] else D.tup [bD e,.bl true])=_;split<;>rfl
 ·next hb=>
  rw[Bv (k:=id) (v:=λ_=>D.bl true) λe he z=>hb (by have z:e=b:=z;rw[<- z];exact he),QF];rfl
noncomputable def gM (m:aO)(fit:aE->Bool)(L:List aE):Bool:=L.all (eR m)&&(decide (a7 m∈L)&&(L.all (λb=>!fit b)&&L.all λb=>(List.range m.deeds.length).all λi=>decide (aW m i b∈L)))
noncomputable def SeqAt (M:Mem)(x:D)(L:List aE):Prop:=x=.lst (L.map bD)\/∃c,x=.cell c/\M[c]?=some (L.map bD)
section
variable{P:Nat->Option Df}{M:Mem}{m:aO}{w x:D}{fit:aE->Bool}{L:List aE}
def SeqAt.walk (h:SeqAt M x L):∃wk:Walk,(∀(Z:Env) M' j,Z[j]?.getD none=some x->bK (aa j) Z M'=.ok wk M')/\∀M',Sub M M'->wk M'=some (L.map bD):=by
 rcases h with rfl|⟨c,rfl,ec⟩
 ·refine{_,λZ M' j e=>?_,λM' _=>rfl};unfold bK;rw[ay e];rfl
 ·refine{_,λZ M' j e=>?_,λM' s=>s.get ec};unfold bK;rw[ay e];rfl
def Dv {t:GT}{e:GE}{rest:GS}{Z:Env}{M1:Mem}{v:D}{k:Fl->Mem->Prop}(ht:t Z M=.ok true M1)(he:e Z M1=.ok v M1)(h:k (.ret v) M1):ae (aX (aQ t (aX (aP e) aG) aG) rest Z M) k:=by
 simp only[aD,gZ,cH];rw[ht,aR,if_pos rfl,he];exact h
def nR {i n:Nat}{d:D}(h:((List.range n).map λ(k:Nat)=>D.int (k:Int))[i]?=some d):i<n/\d=nD i:=by
 rw[QC] at h;obtain⟨j,ej,rfl⟩:=QA.mp h;obtain⟨h1,h2⟩:=Qg.mp ej;rw[Rt] at h1;rw[List.getElem_range] at h2;exact{h1,by rw[h2]}
def vY (n:Nat)(ha:HasB P)(hm:aI m)(h158:P 158=some {3,3,c8})(h170:P 170=some {3,6,fq})(h168:∀(M:Mem) (b:aE),Loose b->ah P (n+2) 168 [m.d,bD b] M=.ok (.bl (eR m b)) M)(h84:∀(M:Mem) (b:aE),eR m b=true->ah P (n+2) 84 [bD b,w] M=.ok (.bl (fit b)) M)
 (hx:SeqAt M x L) (hl:L.length<=1000) (ll:∀b∈L,Loose b):ae (ah P (n+3) 170 [m.d,w,x] M) λd M'=>d=.bl (gM m fit L)/\Sub M M':=by
 refine aN h170 rfl ?_;show ae (fq (ah P (n+2)) [some m.d,some w,some x,none,none,none] M) _;unfold fq;obtain⟨wk,w1,w2⟩:=hx.walk;refine dC (fJ (M':=M++[[.int 78]]) rfl) ?_;rw[aD,eW,w1 _ _ _ rfl,aR];refine jq (ds:=L.map bD) (λi Z M'=>M'=M++[jE (dX (L.take i))]/\(∀b∈L.take i,eR m b=true/\fit b=false)/\∃y4 y5,Z=[some m.d,some w,some x,some (.fn (az M.length)),y4,y5]) (λfl M'=>fl=.ret (.bl false)/\Sub M M'/\∃b∈L,(eR m b&&!fit b)=false) (λfl M h Z e=>by rw[h.1] at e;cases e) (λi Z M' h=>w2 _ (by rw[h.1];exact .app)) (λfl M' h=>w2 _ h.2.1) {rfl,(λ_ h=>nomatch h),none,none,rfl} ?_ ?_ ?_
 ·rintro i d Z M' hd ⟨rfl,hg,y4,y5,rfl⟩;rw[QC] at hd;obtain⟨b,eb,rfl⟩:=QA.mp hd;have hb:=QR eb;have hi:=(Qg.mp eb).1;refine{_,rfl,?_};have t:(dN (cj (aj (ai 168 (ah P (n+2)) (bg (aa 0) (bg (aa 4) bj))))) (aj (ai 84 (ah P (n+2)) (bg (aa 4) (bg (aa 1) bj))))) [some m.d,some w,some x,some (.fn (az M.length)),some (bD b),y5] (M++[jE (dX (L.take i))])=.ok (!(eR m b&&!fit b)) (M++[jE (dX (L.take i))]):=by
   have t1:=g7 (bV (M:=M++[jE (dX (L.take i))]) (Z:=[some m.d,some w,some x,some (.fn (az M.length)),some (bD b),y5]) ((aU (ag (a:=aa 0) rfl (ag (a:=aa 4) (s:=bj) rfl rfl))).trans (h168 _ b (ll b hb))));cases e:eR m b with
   | false =>
     rw[e] at t1;unfold dN;rw[t1];rfl
   | true =>
     rw[e] at t1;rw[nU t1 (bV ((aU (ag rfl (ag rfl rfl))).trans (h84 _ b e)))];cases fit b<;>rfl
  cases e:(eR m b&&!fit b) with
  | false =>
    rw[e] at t;exact jm t rfl (.inr {rfl,.app,b,hb,e})
  | true =>
    rw[e] at t;rw[Qr] at e;refine d5 t ?_;have e0:(M++[jE (dX (L.take i))])[M.length]?=some (jE (dX (L.take i))):=`s
    refine dC (xp rfl rfl rfl (gm e0) (j6 _) (by rw[Qf];have:=vd (L:=L.take i);rw[RX] at this;omega)) ?_
    refine .inl {_,rfl,?_,?_,_,_,rfl}
    ·rw[show az M.length-5000=M.length from Rr _ _,oV rfl,wB,<- xy eb];rfl
    ·intro c hc;rw[RD,eb] at hc;rcases QL.mp hc with hc|hc
     ·exact hg c hc
     ·obtain rfl:c=b:=by simpa using hc
      exact{e.1,by simpa using e.2}
 ·rintro Z M' ⟨rfl,hg,y4,y5,rfl⟩;rw[Qf,Rv (Ql _)] at hg ⊢;rw[bx];have g1:L.all (eR m)=true:=QB.mpr λb hb=>(hg b hb).1;have g2:L.all (λb=>!fit b)=true:=QB.mpr λb hb=>by rw[(hg b hb).2];rfl
  unfold gM;rw[g1,g2,SJ,SJ];generalize hM2:M++[jE (dX L)]=M2;have ed:M2[M.length]?=some (jE (dX L)):=by rw[<- hM2];simp
  have s2:Sub M M2:=by rw[<- hM2];exact .app
  have anyE:∀b,((dX L).any λe=>decide (id e=b))=decide (b∈L):=λb=>by
   rw[Rp,RS,decide_eq_true_iff];exact{λ⟨e,he,z⟩=>by rw[<- of_decide_eq_true z];exact gj.mp he,λhb=>{b,gj.mpr hb,decide_eq_true rfl}}
  have et:aM .tuple (bg (ai 42 (ah P (n+2)) (bg (aa 0) bj)) bj) [some m.d,some w,some x,some (.fn (az M.length)),y4,y5] M2=.ok (bD (a7 m)) M2:=by
   refine ak (b5.mpr ?_);rw[ag ((aU (ag rfl rfl)).trans (gK ha (n+1) hm)) rfl,aR];exact⟨rfl,rfl⟩
  have t2:=u7 (n:=true) et (b:=aa 3) rfl (qm ed);rw[anyE] at t2;cases hb:decide (a7 m∈L) with
  | false =>
    rw[hb] at t2;exact jm t2 rfl ⟨rfl,s2⟩
  | true =>
    rw[hb] at t2;refine d5 t2 ?_;rw[aD,eW,w1 _ _ _ rfl,aR];refine jq (ds:=L.map bD) (λi Z M'=>Sub M2 M'/\(∀b∈L.take i,∀j<m.deeds.length,aW m j b∈L)/\∃y4 y5,Z=[some m.d,some w,some x,some (.fn (az M.length)),y4,y5]) (λfl M'=>fl=.ret (.bl false)/\Sub M2 M'/\∃b∈L,∃j<m.deeds.length,aW m j b∉L) (λfl M h Z e=>by rw[h.1] at e;cases e) (λi Z M' h=>w2 _ (s2.trans h.1)) (λfl M' h=>w2 _ (s2.trans h.2.1)) {.refl,(λ_ h=>nomatch h),_,_,rfl} ?_ ?_ ?_
    ·rintro i d Z M3 hd ⟨s3,hg3,y4,y5,rfl⟩;rw[QC] at hd;obtain⟨b,eb,rfl⟩:=QA.mp hd;have hbL:=QR eb;have ok:=oz (hg b hbL).1;have d6:=hm.d6;refine{_,rfl,?_};rw[aD,eW,fG,AU rfl,aR];refine{_,rfl,`a,?_}
     rw[show((m.deeds.length:Nat):Int).toNat=m.deeds.length from RF _];refine jq (ds:=(List.range m.deeds.length).map λ(k:Nat)=>D.int (k:Int)) (λi Z M'=>Sub M2 M'/\(∀j<i,aW m j b∈L)/\∃y5,Z=[some m.d,some w,some x,some (.fn (az M.length)),some (bD b),y5]) (λfl M'=>fl=.ret (.bl false)/\Sub M2 M'/\∃b∈L,∃j<m.deeds.length,aW m j b∉L) (λfl M h Z e=>by rw[h.1] at e;cases e) (λ_ _ _ _=>rfl) (λ_ _ _=>rfl) {s3,(λ_ h=>absurd h (RQ _)),_,rfl} ?_ ?_ ?_
     ·rintro j d Z M4 hd ⟨s4,hg4,y5,rfl⟩;obtain⟨hj,rfl⟩:=nR hd;refine{_,rfl,?_};obtain⟨z,M5,e5,rfl,s5⟩:=eJ.mp (pW ha h158 n hm hj (by rw[ok.1];exact cf hm) ok.2)
      have s45:=s4.trans s5;have t3:=u7 (n:=true) (Z:=[some m.d,some w,some x,some (.fn (az M.length)),some (bD b),some (nD j)]) ((aU (ag (a:=aa 0) rfl (ag (a:=aa 4) rfl (ag (a:=aa 5) (s:=bj) rfl rfl)))).trans e5) (b:=aa 3) rfl (qm (k:=id) (s45.get ed));rw[anyE] at t3;cases hs:decide (aW m j b∈L) with
      | false =>
        rw[hs] at t3;exact Dv t3 rfl (.inr {rfl,s45,b,hbL,j,hj,of_decide_eq_false hs})
      | true =>
        rw[hs] at t3;refine si t3 (.inl {_,rfl,s45,λk hk=>?_,_,rfl});rcases Nat.lt_succ_iff_lt_or_eq.mp hk with hk|rfl
        ·exact hg4 k hk
        ·exact of_decide_eq_true hs
     ·rintro Z M4 ⟨s4,hg4,y5,rfl⟩;rw[bx];refine .inl {_,rfl,s4,λc hc=>?_,_,_,rfl};rw[RD,eb] at hc;rcases QL.mp hc with hc|hc
      ·exact hg3 c hc
      ·obtain rfl:c=b:=by simpa using hc
       intro j hj;exact hg4 j (by rw[Qf,Rt];exact hj)
     ·rintro fl M4 hX;obtain⟨rfl,_⟩:=id hX;exact .inr hX
    ·rintro Z M3 ⟨s3,hg3,y4,y5,rfl⟩;rw[Qf,Rv (Ql _)] at hg3;rw[bx];refine bW rfl {?_,s2.trans s3};rw[SJ,QB.mpr λb hb=>QB.mpr λj hj=>decide_eq_true (hg3 b hb j (RP.mp hj))]
    ·rintro fl M3 ⟨rfl,s3,b,hbL,j,hj,hn⟩;refine{?_,s2.trans s3};rw[SJ];refine congrArg D.bl (Eq.symm ?_);rw[Bool.eq_false_iff];intro z;exact hn (of_decide_eq_true (QB.mp (QB.mp z b hbL) j (RP.mpr hj)))
 ·rintro fl M' ⟨rfl,s,b,hb,e⟩;refine{congrArg D.bl (Eq.symm ?_),s};rw[Bool.eq_false_iff];intro z;unfold gM at z;simp only[Qr] at z;rw[QB.mp z.1 b hb,QB.mp z.2.2.1 b hb] at e;cases e
end
def vD:∀l:List Bool,boolsOf (l.map D.bl)=some l
 |[]=>rfl
 |b::l=>by simp[boolsOf,vD l]
def rV {α:Type}{c:Nat}:∀{l:List α},(l.map λ_=>c).sum=l.length*c
 |[]=>(Nat.zero_mul _).symm
 |a::l=>by rw[RI,List.sum_cons,rV,RL,Nat.succ_mul,Nat.add_comm]
section
variable{P:Nat->Option Df}{M:Mem}{m:aO}{w x:D}{fit:aE->Bool}{L:List aE}
def yD {Z:Env}{j:Nat}(hj:Z[j]?.getD none=some (.lst (L.map bD)))(hl:L.length<=1000):ia 78 1 (.one 0) (bK (aa j)) (h9 (aa 0) (gC (.bl true))) Z M=.ok (.fn (az M.length)) (M++[jE (dX L)]):=by
 have key:ae (ia 78 1 (.one 0) (bK (aa j)) (h9 (aa 0) (gC (.bl true))) Z M) λd M'=>d=.fn (az M.length)/\M'=M++[jE (dX L)]:=by
  refine xn ?_;rw[gQ,ay hj,aR];refine{rfl,?_};refine fg (ds:=L.map bD) (λi acc M'=>acc=[.fn (az M.length)]/\M'=M++[jE (dX (L.take i))]) (λ_ _ _ _=>rfl) ⟨rfl,rfl⟩ ?_ ?_
  ·rintro i d acc M' hd ⟨rfl,rfl⟩;rw[QC] at hd;obtain⟨b,eb,rfl⟩:=QA.mp hd;have e0:(M++[jE (dX (L.take i))])[M.length]?=some (jE (dX (L.take i))):=`s
   simp only[cx,bf,g6];refine{_,rfl,?_};refine Bt (x:=bD b) (y:=.bl true) rfl rfl (gm e0) (j6 _) (by rw[Qf];have:=vd (L:=L.take i);rw[RX] at this;omega) {rfl,?_}
   rw[show az M.length-5000=M.length from Rr _ _,oV rfl,wB,<- xy eb];rfl
  ·rintro acc M' ⟨rfl,rfl⟩;rw[Qf,Rv (Ql _)];exact{_,rfl,rfl,rfl}
 obtain⟨d,M',e,rfl,rfl⟩:=eJ.mp key;exact e
def L5 {α:Type}{f:α->Bool}{l:List α}{a:GE}{Z:Env}(e:a Z M=.ok (.lst (l.map λx=>.bl (f x))) M):aj (kA a) Z M=.ok (l.any f) M:=by
 refine bV ?_;unfold kA;rw[e];show(match gR M (l.map λx=>D.bl (f x)) with|some bs=>Res.ok (D.bl (bs.any id)) M|none=>.bad)=_
 rw[tQ (g:=f) λ_ _=>rfl];show Res.ok (D.bl ((l.map f).any id)) M=_;rw[List.any_map];rfl
def LG {α:Type}{k:α->aE}{v:α->D}{E:List α}{Z:Env}{j fk:Nat}{ge:GE}(f:α->D)(hj:Z[j]?.getD none=some (.fn (az fk)))(ef:M[fk]?=some (iS k v E))(hl:E.length<=1000)(g:D->D)(hg:∀x∈E,g (bD (k x))=f x)(he:∀x∈E,ge (some (bD (k x))::Z) M=.ok (f x) M) :
 bc false 1 (.one 0) (eK cV (aa j)) (bo ge) Z M=.ok (.lst (E.map f)) M:=by
 obtain⟨w1,w2⟩:=uK hj ef;refine ak ?_;rw[dG,w1,aR];refine fc (ds:=E.map λx=>bD (k x)) g (ax (by rw[Qf];omega)) w2 (λd hd=>?_) ?_
 ·obtain⟨x,hx,rfl⟩:=Qx.mp hd;exact{_,rfl,by rw[hg x hx];exact he x hx}
 ·rw[Rk,show E.map (g∘λx=>bD (k x))=E.map f from RG λx hx=>hg x hx];exact bI.mpr {ax (by rw[Qf];omega),rfl,rfl}
def xY (n:Nat)(hb0:HasB0 P)(hr0:jf P)(h14:P 14=some {2,5,du})(h15:P 15=some {1,6,cg})(h151:P 151=some {1,2,dY})(h152:P 152=some {2,2,eT})(h176:P 176=some {2,3,dw})(h177:P 177=some {3,5,jM})(hm:aI m)
 (h80:∀M:Mem,ah P (n+11) 80 [m.d,w] M=.ok .non M) (h81:∀(M:Mem) (b:aE),eR m b=true->ah P (n+11) 81 [bD b,w] M=.ok (.bl (fit b)) M) (hl:L.length<=1000) (ll:∀b∈L,Loose b) :
 ae (ah P (n+12) 177 [m.d,w,.lst (L.map bD)] M) λd M'=>d=.bl (gM m fit L)/\Sub M M':=by
 refine aN h177 rfl ?_;show ae (jM (ah P (n+11)) [some m.d,some w,some (.lst (L.map bD)),none,none] M) _;unfold jM;refine bL (u1 ((eQ (ag rfl (ag rfl rfl))).trans (h80 M))) ?_;have e1:=GD hb0 h14 h15 h176 (n+1) (M:=M) hm hl ll;have t1:=g7 (bV (Z:=[some m.d,some w,some (.lst (L.map bD)),none,none]) ((aU (ag (a:=aa 0) rfl (ag (a:=aa 2) (s:=bj) rfl rfl))).trans e1));unfold gM;cases g1:L.all (eR m) with
 | false =>
   rw[g1] at t1;exact jm t1 rfl {rfl,.refl}
 | true =>
   rw[g1] at t1;refine d5 t1 ?_;have bh:∀b∈L,eR m b=true:=QB.mp g1;refine dC (fJ (yD rfl hl)) ?_;simp only[List.set];generalize hM2:M++[jE (dX L)]=M2;have ed:M2[M.length]?=some (jE (dX L)):=by rw[<- hM2];simp
   have s2:Sub M M2:=by rw[<- hM2];exact .app
   have dl:=vd (L:=L);have anyE:∀b,((dX L).any λe=>decide (id e=b))=decide (b∈L):=λb=>by
    rw[Rp,RS,decide_eq_true_iff];exact{λ⟨e,he,z⟩=>by rw[<- of_decide_eq_true z];exact gj.mp he,λhb=>{b,gj.mpr hb,decide_eq_true rfl}}
   have et:aM .tuple (bg (ai 15 (ah P (n+11)) (bg (aa 0) bj)) bj) [some m.d,some w,some (.lst (L.map bD)),some (.fn (az M.length)),none] M2=.ok (bD (a7 m)) M2:=by
    refine ak (b5.mpr ?_);rw[ag ((aU (ag rfl rfl)).trans (kK hb0 h15 (n+2) hm)) rfl,aR];exact⟨rfl,rfl⟩
   have t2:=u7 (n:=true) et (b:=aa 3) rfl (qm ed);rw[anyE] at t2;have t3:aj (kA (bc false 1 (.one 0) (eK cV (aa 3)) (bo (ai 81 (ah P (n+11)) (bg (aa 0) (bg (aa 2) bj)))))) [some m.d,some w,some (.lst (L.map bD)),some (.fn (az M.length)),none] M2=.ok ((dX L).any fit) M2:=
    L5 (LG (λb=>.bl (fit b)) rfl ed `a (λd=>.bl (fit (pT d))) (λb _=>by rw[show pT (bD (id b))=b from mF]) λb hb=>(aU (ag rfl (ag rfl rfl))).trans (h81 _ b (bh b (gj.mp hb))))
   have t4:=nU t2 t3;have fE:L.all (λb=>!fit b)=!(dX L).any fit:=by
    rw[Rp,SA,QB,List.any_eq_false];exact{λh b hb=>by have:=h b (gj.mp hb);simpa using this,λh b hb=>by have:=h b (gj.mpr hb);simpa using this}
   rw[fE,SJ];cases g2:((true != decide (a7 m∈L))||(dX L).any fit) with
   | true =>
     rw[g2] at t4;refine jm t4 rfl {congrArg D.bl (Eq.symm ?_),s2};cases g3:decide (a7 m∈L) with
     |false=>rfl
     | true =>
       rw[g3] at g2;rw[show(dX L).any fit=true from g2];rfl
   | false =>
     rw[g2] at t4;rw[Bool.or_eq_false_iff] at g2;refine d5 t4 ?_;rw[g2.2,show decide (a7 m∈L)=true by revert g2;cases decide (a7 m∈L)<;>simp]
     refine dC (oE ((eQ (ag rfl rfl)).trans (t6 hb0 hr0 h15 h151 (n+1) hm))) ?_;simp only[List.set];generalize hM3:M2++m.deeds.map (fy m)=M3;have s3:Sub M2 M3:=by rw[<- hM3];exact .app
     have d6:=hm.d6;have lead:∀i<m.deeds.length,M3[M2.length+i]?=some (fy m (cZ m i)):=λi hi=>by
      rw[<- hM3,Q0 (Sh _ _),Rr,QC,Qq hi];rw[om (Qq hi)];rfl
     obtain⟨w1,w2⟩:=uK (Z:=[some m.d,some w,some (.lst (L.map bD)),some (.fn (az M.length)),some (d4 m M2.length)]) (j:=3) rfl (s3.get ed);refine bW (v:=.bl ((dX L).all λb=>(List.range m.deeds.length).all λi=>decide (aW m i b∈L))) (ak ?_) {?_,s2.trans s3}
     ·rw[b5,bX,dG,w1,aR];let stp:D->Nat:=λe=>match e with
       |.tup [_,.fn o]=>o-5000-M2.length
       |_=>0
      refine qt (ds:=(dX L).map λb=>bD (id b)) (λ_=>(List.range m.deeds.length).map λi=>.tup [nD (cst m i),.fn (az (M2.length+i))]) (λd e=>.bl (decide (aW m (stp e) (pT d)∈L))) 6 (λ_ _=>by rw[Qf,Rt];exact d6) (ax (by rw[Qf];omega)) w2 (λd hd=>?_) ?_
      ·obtain⟨b,hb,rfl⟩:=Qx.mp hd;have hbL:=gj.mp hb;have ok:=oz (bh b hbL);refine{_,rfl,(λ_=>some ((List.range m.deeds.length).map λi=>D.tup [nD (cst m i),.fn (az (M2.length+i))])),rfl,rfl,λe he=>?_};obtain⟨i,hi,rfl⟩:=Qx.mp he;have hi:=RP.mp hi;refine{_,rfl,?_};have hs:stp (.tup [nD (cst m i),.fn (az (M2.length+i))])=i:=by
        show az (M2.length+i)-5000-M2.length=i;unfold az;omega
       rw[hs,show pT (bD (id b))=b from mF];have e5:=Ai h152 (n+10) (lead i hi) hm (by rw[ok.1];exact cf hm) ok.2
       refine(u9 (n:=false) ((aU (ag rfl (ag rfl rfl))).trans e5) rfl (qm (k:=id) (s3.get ed))).trans ?_;rw[anyE];show Res.ok (D.bl (false != decide (aW m i b∈L))) M3=_;cases decide (aW m i b∈L)<;>rfl
      ·have ea:(((dX L).map λb=>bD (id b)).flatMap λd=>((List.range m.deeds.length).map λi=>D.tup [nD (cst m i),.fn (az (M2.length+i))]).map λe=>D.bl (decide (aW m (stp e) (pT d)∈L)))=((dX L).flatMap λb=>(List.range m.deeds.length).map λi=>decide (aW m i b∈L)).map D.bl:=by
        rw[List.flatMap_map,List.map_flatMap]
        congr 1
        funext b
        rw[Rk,Rk];refine RG λi _=>?_;show D.bl (decide (aW m (az (M2.length+i)-5000-M2.length) (pT (bD b))∈L))=D.bl (decide (aW m i b∈L));rw[mF,show az (M2.length+i)-5000-M2.length=i by unfold az;omega]
       rw[ea];refine bI.mpr {?_,cb.mpr (rK.mpr {_,vD _,?_,rfl})}
       ·refine ax ?_;rw[Qf,List.length_flatMap];have:=rV (l:=dX L) (c:=m.deeds.length);simp only[Qf,Rt];rw[this];exact Qp (Nat.mul_le_mul (Qp dl hl) d6) `d
       ·rw[List.all_flatMap];simp only[List.all_map];rfl
     ·rw[Bool.not_false,SJ,SJ];refine congrArg D.bl ?_;rw[Rp,QB,QB];exact{λh b hb=>h b (gj.mpr hb),λh b hb=>h b (gj.mp hb)}
end
def qp {α β:Type}{f:α->β}{l:List α}{i j:Nat}:cut (l.map f) i j=(cut l i j).map f:=by
 unfold cut;rw[<- List.map_drop,<- List.map_take]
def rq {α:Type}{l:List α}{i j:Nat}{x:α}(h:x∈cut l i j):x∈l:=List.mem_of_mem_drop (RW h)
def iM {α:Type}{l:List α}{i j:Nat}:(cut l i j).length<=l.length:=by
 unfold cut;rw[RX,List.length_drop];omega
structure fx (k r:Nat) (b:aE):Prop where
 l:b.length<=k
 s:∀s∈b,s.length<=r
def fx.cut {k r i j:Nat}{b:aE}(h:fx k r b):fx k r (cut b i j):={Qp iM h.l,λs hs=>h.s s (rq hs)}
def fx.app {k k' r:Nat}{b c:aE}(h:fx k r b)(h':fx k' r c):fx (k+k') r (b++c):={by rw[QO];have:=h.l;have:=h'.l;omega,λs hs=>(QL.mp hs).elim (h.s s) (h'.s s)}
def fx.mono {k r k' r':Nat}{b:aE}(h:fx k r b)(hk:k<=k')(hr:r<=r'):fx k' r' b:={Qp h.l hk,λs hs=>Qp (h.s s hs) hr}
def fx.loose {k r:Nat}{b:aE}(h:fx k r b)(hk:k<=100)(hr:r<=100):Loose b:={Qp h.l hk,λs hs=>Qp (h.s s hs) hr}
def lJ {h:Bool}{n d:Nat}{l:D}(p:cK h l=true):∃i,aS n d l=some i:=by
 cases l<;>first|exact{_,rfl}|(cases h<;>cases p)
section
variable{P:Nat->Option Df}{M:Mem}{m:aO}{a b lo hi:GE}{Z:Env}{hl hh:Bool}{l h:D}{xs ys:List D}{p B:Nat}
def mI (ea:a Z M=.ok (.tup xs) M)(el:lo Z M=.ok l M)(eh:hi Z M=.ok h M)(pl:cK hl l=true)(ph:cK hh h=true):∃i j,cn false hl hh a lo hi Z M=.ok (.tup (cut xs i j)) M:=by
 obtain⟨i,hi'⟩:=lJ (n:=xs.length) (d:=0) pl;obtain⟨j,hj⟩:=lJ (n:=xs.length) (d:=xs.length) ph;refine{i,j,ak ?_};rw[oh,ea,aR,el,aR,eh,aR];refine{pl,ph,?_};show ae (match aS xs.length 0 l,aS xs.length xs.length h with|some l,some h=>Res.ok (D.tup (cut xs l h)) M|_,_=>.bad) _
 rw[hi',hj];exact⟨rfl,rfl⟩
def Aq (ea:a Z M=.ok (.lst xs) M)(el:lo Z M=.ok l M)(eh:hi Z M=.ok h M)(pl:cK hl l=true)(ph:cK hh h=true)(hz:xs.length<=1000):∃i j,cn false hl hh a lo hi Z M=.ok (.lst (cut xs i j)) M:=by
 obtain⟨i,hi'⟩:=lJ (n:=xs.length) (d:=0) pl;obtain⟨j,hj⟩:=lJ (n:=xs.length) (d:=xs.length) ph;refine{i,j,ak ?_};rw[oh,ea,aR,el,aR,eh,aR];refine{pl,ph,?_};show ae (match aS xs.length 0 l,aS xs.length xs.length h with|some l,some h=>ba false (cut xs l h) M|_,_=>.bad) _
 rw[hi',hj];exact bI.mpr {ax (Qp iM `a),rfl,rfl}
def lA (ea:a Z M=.ok (.tup xs) M)(eb:b Z M=.ok (.tup ys) M)(hz:(xs++ys).length<=1000):av false .add a b Z M=.ok (.tup (xs++ys)) M:=by
 rw[lr ea eb];exact ak (vO.mpr {ax `a,rfl,rfl})
def jO (ea:a Z M=.ok (.lst xs) M)(eb:b Z M=.ok (.lst ys) M)(hz:(xs++ys).length<=1000):av false .add a b Z M=.ok (.lst (xs++ys)) M:=by
 rw[lr ea eb];exact ak (L6.mpr (bI.mpr {ax `a,rfl,rfl}))
def CJ (hp_:HasP0 P)(h178:P 178=some {3,10,d7})(n:Nat){L:List aE}(hL:0<L.length)(hL2:L.length<=100)(hb:∀b∈L,fx 16 2 b/\0<b.length)(hw:m.words<=4)(hp:aF M p B)(hB:B<=700000) :
 ae (ah P (n+3) 178 [.cell p,m.d,.lst (L.map bD)] M) λd M'=>∃L':List aE,d=.lst (L'.map bD)/\L'.length<=300/\(∀b∈L',Loose b)/\aF M' p (B+5)/\aY p M M':=by
 refine aN h178 rfl ?_;show ae (d7 (ah P (n+2)) [some (.cell p),some m.d,some (.lst (L.map bD)),none,none,none,none,none,none,none] M) _;unfold d7;refine dZ hp_ n (many:=7) rfl rfl hp `a `d `d λkind M1 hk p1 k1=>?_
 refine dZ hp_ n (many:=m.words+1) rfl (pO (i:=m.words) (j:=1) (bE rfl rfl rfl) rfl) p1 `a `a `a λword M2 hwd p2 k2=>?_
 refine dZ hp_ n (many:=L.length) rfl (by rw[pz rfl,Qf]) p2 `a hL `a λat_ M3 hat p3 k3=>?_
 obtain⟨b,eb⟩:∃b,L[at_]?=some b:={_,Qq hat};obtain⟨bn,b0⟩:=hb b (QR eb);have bl:=bn.l;refine bL (bY (x:=bD b) (bE (x:=.lst (L.map bD)) (y:=nD at_) rfl rfl ?_)) ?_
 ·rw[HG,dD (by rw[Qf];exact hat)]
  show(L.map bD)[at_]?=_;rw[QC,eb];rfl
 refine dZ hp_ n (many:=b.length) rfl (by rw[n5 (xs:=b.map aq) rfl,Qf]) p3 `a b0 `a λend_ M4 hen p4 k4=>?_
 obtain⟨s,es⟩:∃s,b[end_]?=some s:={_,Qq hen};have hs2:=bn.s s (QR es);simp only[List.set];have ks:aY p M M4:=((k1.trans k2).trans k3).trans k4;generalize hρ:[some (D.cell p),some m.d,some (D.lst (L.map bD)),some (nD kind),some (nD word),some (nD at_),some (bD b),some (nD end_),none,none]=ρ0;have v2:ρ0[2]?.getD none=some (.lst (L.map bD)):=by rw[<- hρ];rfl
 have v4:ρ0[4]?.getD none=some (nD word):=by rw[<- hρ];rfl
 have v5:ρ0[5]?.getD none=some (nD at_):=by rw[<- hρ];rfl
 have v6:ρ0[6]?.getD none=some (bD b):=by rw[<- hρ];rfl
 have v7:ρ0[7]?.getD none=some (nD end_):=by rw[<- hρ];rfl
 have ei:au (aa 6) (aa 7) ρ0 M4=.ok (aq s) M4:=bE (x:=bD b) (y:=nD end_) (ay v6) (ay v7) (by
  show b7 (.tup (b.map aq)) (.int (end_:Int)) M4=_;rw[jo,dD (by rw[Qf];exact hen)]
  show(b.map aq)[end_]?=_;rw[QC,es];rfl)
 obtain⟨i1,j1,x1⟩:=mI (hl:=false) (hh:=true) (xs:=b.map aq) (ay (M:=M4) v6) (lo:=gC .non) rfl (ay (M:=M4) v7) rfl rfl;obtain⟨i2,j2,x2⟩:=mI (hl:=false) (hh:=true) (xs:=s.map nD) ei (lo:=gC .non) (hi:=dE (gC (.int 1))) (l:=.non) (h:=.int (-1)) rfl rfl rfl rfl;obtain⟨i3,j3,x3⟩:=mI (hl:=true) (hh:=false) (xs:=b.map aq) (ay (M:=M4) v6) (lo:=av false .add (aa 7) (gC (.int 1))) (hi:=gC .non) (pO (i:=end_) (j:=1) (ay v7) rfl) rfl rfl rfl;rw[qp] at x1 x2 x3;have c1:=iM (l:=b) (i:=i1) (j:=j1);have c2:=iM (l:=s) (i:=i2) (j:=j2);have c3:=iM (l:=b) (i:=i3) (j:=j3);have y2:=lA x2 (pV (s:=bg (aa 4) bj) (xs:=[nD word]) (ag (ay v4) rfl) (QM rfl)) `o
 have y1:=lA x1 (pV (s:=bg _ bj) (xs:=[_]) (ag y2 rfl) (QM rfl)) `o
 have y3:=lA y1 x3 `o
 obtain⟨o,eo,on⟩:∃o:aE,D.tup ((((cut b i1 j1).map aq)++[D.tup ((cut s i2 j2).map nD++[nD word])])++(cut b i3 j3).map aq)=bD o/\fx 40 3 o:=by
  refine{cut b i1 j1++[cut s i2 j2++[word]]++cut b i3 j3,?_,?_}
  ·show _=D.tup (List.map aq _);rw[QF,QF];show _=D.tup (_++[D.tup (List.map nD _)]++_);rw[QF];rfl
  ·refine(((bn.cut.mono (Ql _) `a).app (k':=1) {Ql _,λt ht=>?_}).app (bn.cut.mono (Ql _) `a)).mono `a (Ql _)
   rw[Qw.mp ht,QO,List.length_singleton];omega
 refine bL (bY (x:=bD o) (by rw[<- eo];exact y3)) ?_
 rw[<- hρ];simp only[List.set];have sl:∀{Z:Env}{M:Mem}{lo hi:GE}{l h:D}{hl hh:Bool},Z[2]?.getD none=some (.lst (L.map bD))->lo Z M=.ok l M->hi Z M=.ok h M->cK hl l=true->cK hh h=true->∃K:List aE,cn false hl hh (aa 2) lo hi Z M=.ok (.lst (K.map bD)) M/\K.length<=100/\∀b∈K,Loose b:=λv el eh pl ph=>by
  obtain⟨i,j,e⟩:=Aq (xs:=L.map bD) (ay v) el eh pl ph (by rw[Qf];omega)
  rw[qp] at e;exact{cut L i j,e,Qp iM hL2,λc hc=>(hb c (rq hc)).1.loose `d `d}
 have bp:fx 16 2 b:=bn;refine bG (gA (c:=0) rfl) (λ_=>?_) λ_=>?_
 ·obtain⟨K1,e1,l1,q1⟩:=sl (Z:=[some (D.cell p),some m.d,some (D.lst (L.map bD)),some (nD kind),some (nD word),some (nD at_),some (bD b),some (nD end_),some (bD o),none]) (M:=M4) (hl:=false) (hh:=true) (lo:=gC .non) (hi:=aa 5) rfl rfl rfl rfl rfl;obtain⟨K2,e2,l2,q2⟩:=sl (Z:=[some (D.cell p),some m.d,some (D.lst (L.map bD)),some (nD kind),some (nD word),some (nD at_),some (bD b),some (nD end_),some (bD o),none]) (M:=M4) (hl:=true) (hh:=false) (lo:=av false .add (aa 5) (gC (.int 1))) (hi:=gC .non) rfl (pO (i:=at_) (j:=1) rfl rfl) rfl rfl rfl;refine bW (jO e1 e2 `o) {K1++K2,by rw[QF],by rw[QO];omega,λc hc=>(QL.mp hc).elim (q1 c) (q2 c),p4.mono `a,ks}
 refine bG (gA (c:=1) rfl) (λ_=>?_) λ_=>?_
 ·obtain⟨K1,e1,l1,q1⟩:=sl (Z:=[some (D.cell p),some m.d,some (D.lst (L.map bD)),some (nD kind),some (nD word),some (nD at_),some (bD b),some (nD end_),some (bD o),none]) (M:=M4) (hl:=false) (hh:=true) (lo:=gC .non) (hi:=aa 5) rfl rfl rfl rfl rfl;obtain⟨K2,e2,l2,q2⟩:=sl (Z:=[some (D.cell p),some m.d,some (D.lst (L.map bD)),some (nD kind),some (nD word),some (nD at_),some (bD b),some (nD end_),some (bD o),none]) (M:=M4) (hl:=true) (hh:=false) (lo:=av false .add (aa 5) (gC (.int 1))) (hi:=gC .non) rfl (pO (i:=at_) (j:=1) rfl rfl) rfl rfl rfl;refine bW (jO (jO e1 (k9 (s:=bg (aa 8) bj) (xs:=[bD o]) (ag rfl rfl) (QM rfl)) `o) e2 `o) {K1++[o]++K2,by rw[QF,QF];rfl,by simp;omega,λc hc=>?_,p4.mono `a,ks}
  rcases QL.mp hc with hc|hc
  ·rcases QL.mp hc with hc|hc
   ·exact q1 c hc
   ·rw[Qw.mp hc];exact on.loose `d `d
  ·exact q2 c hc
 have idx:ae (au (bu false (bg (aa 6) (bg (aa 8) (bg (bB bj) (bg (cn false false true (aa 6) (gC .non) (dE (gC (.int 1)))) (bg (av false .add (aa 6) (cn false true false (aa 6) (dE (gC (.int 1))) (gC .non))) bj)))))) (ai 31 (ah P (n+2)) (bg (aa 0) (bg (gC (.int 5)) bj))) [some (D.cell p),some m.d,some (D.lst (L.map bD)),some (nD kind),some (nD word),some (nD at_),some (bD b),some (nD end_),some (bD o),none] M4) λd M'=>(∃c,d=bD c/\Loose c)/\aF M' p (B+5)/\aY p M4 M':=by
  obtain⟨i4,j4,x4⟩:=mI (Z:=[some (D.cell p),some m.d,some (D.lst (L.map bD)),some (nD kind),some (nD word),some (nD at_),some (bD b),some (nD end_),some (bD o),none]) (M:=M4) (a:=aa 6) (hl:=false) (hh:=true) (xs:=b.map aq) rfl (lo:=gC .non) (hi:=dE (gC (.int 1))) (l:=.non) (h:=.int (-1)) rfl rfl rfl rfl;obtain⟨i5,j5,x5⟩:=mI (Z:=[some (D.cell p),some m.d,some (D.lst (L.map bD)),some (nD kind),some (nD word),some (nD at_),some (bD b),some (nD end_),some (bD o),none]) (M:=M4) (a:=aa 6) (hl:=true) (hh:=false) (xs:=b.map aq) rfl (lo:=dE (gC (.int 1))) (hi:=gC .non) (l:=.int (-1)) (h:=.non) rfl rfl rfl rfl;rw[qp] at x4 x5;have c5:=iM (l:=b) (i:=i5) (j:=j5);have y5:=lA (a:=aa 6) (xs:=b.map aq) rfl x5 `o
  refine aJ (Dy hp_ n (many:=5) (xs:=[bD b,bD o,.tup [],.tup ((cut b i4 j4).map aq),.tup (b.map aq++(cut b i5 j5).map aq)]) rfl rfl p4 `a `d `d (k9 (ag rfl (ag rfl (ag rfl (ag x4 (ag y5 rfl))))) (QM rfl)) rfl) ?_
  rintro d M' ⟨hd,q,k⟩;refine{?_,q,k};simp only[Rg,List.not_mem_nil,or_false] at hd;rcases hd with rfl|rfl|rfl|rfl|rfl
  ·exact{b,rfl,bp.loose `d `d}
  ·exact{o,rfl,on.loose `d `d}
  ·exact{[],rfl,{`d,λ_ h=>nomatch h}}
  ·exact{_,rfl,bp.cut.loose `d `d}
  ·exact{b++cut b i5 j5,by show _=D.tup _;rw[QF],(bp.app bp.cut).loose `d `d}
 refine cF idx ?_;rintro _ M5 ⟨⟨c,rfl,lc⟩,p5,k5⟩;simp only[List.set];obtain⟨K1,e1,l1,q1⟩:=sl (Z:=[some (D.cell p),some m.d,some (D.lst (L.map bD)),some (nD kind),some (nD word),some (nD at_),some (bD b),some (nD end_),some (bD o),some (bD c)]) (M:=M5) (hl:=false) (hh:=true) (lo:=gC .non) (hi:=aa 5) rfl rfl rfl rfl rfl;obtain⟨K2,e2,l2,q2⟩:=sl (Z:=[some (D.cell p),some m.d,some (D.lst (L.map bD)),some (nD kind),some (nD word),some (nD at_),some (bD b),some (nD end_),some (bD o),some (bD c)]) (M:=M5) (hl:=true) (hh:=false) (lo:=aa 5) (hi:=gC .non) rfl rfl rfl rfl rfl;refine bW (jO (jO e1 (k9 (s:=bg (aa 9) bj) (xs:=[bD c]) (ag rfl rfl) (QM rfl)) `o) e2 `o) {K1++[c]++K2,by rw[QF,QF];rfl,by simp;omega,λz hz=>?_,p5,ks.trans k5}
 rcases QL.mp hz with hz|hz
 ·rcases QL.mp hz with hz|hz
  ·exact q1 z hz
  ·rw[Qw.mp hz];exact lc
 ·exact q2 z hz
end
def JS {n:Nat}(b:aE):aC (n+2) (bD b)=true:=by
 show(b.map aq).all (aC (n+1))=true;rw[QB];intro x hx;obtain⟨s,_,rfl⟩:=Qx.mp hx;show(s.map nD).all (aC n)=true;rw[QB];intro y hy;obtain⟨i,_,rfl⟩:=Qx.mp hy;cases n<;>rfl
def BK:∀L:List aE,dU (L.map bD) (L.map bD)=true
 |[]=>rfl
 | b :: L => by
   show(bS (bD b) (bD b)&&dU (L.map bD) (L.map bD))=true;rw[yW,decide_eq_true rfl,BK L];rfl
section
variable{P:Nat->Option Df}{M:Mem}{m:aO}{x:D}{L:List aE}{Z:Env}{a d:GE}
def Km (h:SeqAt M x L):bH .ne (.lst (L.map bD)) x M=some false:=by
 have pu:aC 64 (.lst (L.map bD))=true:=by
  show(L.map bD).all (aC 63)=true;rw[QB];intro y hy;obtain⟨b,_,rfl⟩:=Qx.mp hy;exact JS (n:=61) b
 have vx:view M x=.lst (L.map bD):=by
  rcases h with rfl|⟨c,rfl,e⟩
  ·rfl
  ·show(match M[c]? with|some ds=>D.lst ds|none=>.cell c)=_
   rw[e]
 exact xE (v:=true) (x:=.lst (L.map bD)) (by exact pu) (by rw[vx];exact pu) (by rw[vx];exact BK L)
def De (h:SeqAt M x L)(hl:L.length<=1000)(ea:a Z M=.ok x M):aM (.list false) (bg a bj) Z M=.ok (.lst (L.map bD)) M:=by
 have es:cE M x=some (L.map bD):=by
  rcases h with rfl|⟨c,rfl,e⟩
  ·rfl
  ·exact e
 refine ak (b5.mpr ?_);rw[ag ea rfl,aR];show ae (match cE M x with|some xs=>ba false xs M|none=>.bad) _
 rw[es];exact bI.mpr {ax (by rw[Qf];omega),rfl,rfl}
def Lh {M1:Mem}{k j:Nat}{ds es:List D}(ha:a Z M=.ok (.cell k) M)(hd:d Z M=.ok (.cell j) M1)(ek:M1[k]?=some ds)(ej:M1[j]?=some es)(hz:ds.length+es.length<=100000):ub a d Z M=.ok (.next Z) (M1.set k (ds++es)):=by
 unfold ub;rw[ha];show(d Z M).bind _=_;rw[hd];show(match M1[k]?,M1[j]? with|some ds,some es=>if ds.length+es.length<=sz then Res.ok (Fl.next Z) (M1.set k (ds++es)) else .bad|_,_=>.bad)=_
 rw[ek,ej];show(if ds.length+es.length<=sz then Res.ok (Fl.next Z) (M1.set k (ds++es)) else .bad)=_
 rw[if_pos (ax hz)]
def sv {r:Res D}{z:D}{M1:Mem}(h:ae r λx M'=>x=z/\M'=M1):r=.ok z M1:=by
 obtain⟨a,M',e,rfl,rfl⟩:=eJ.mp h;exact e
def Gv (h179:P 179=some {1,5,fB})(n:Nat){w:Nat}(hw:w<=4)(hw1:0<w):ae (ah P (n+1) 179 [nD w] M) λd M'=>∃(c:Nat) (L:List aE),d=.cell c/\M.length<=c/\M'[c]?=some (L.map bD)/\L.length<=256/\(∀b∈L,Loose b)/\Sub M M':=by
 refine aN h179 rfl ?_;simp only[RI,List.map_nil,RL,List.length_nil,List.replicate,List.cons_append,SK,Nat.reduceAdd,Nat.reduceSub,fB];rw[aD,bY (x:=.lst [bD []]) rfl,aR];simp only[List.set];rw[bx,aD,eW,fG,ay rfl,aR];refine{_,rfl,`a,?_}
 rw[show((w:Nat):Int).toNat=w from RF _];refine eY (ds:=(List.range w).map λ(k:Nat)=>D.int (k:Int)) (λi Z M'=>Sub M M'/\∃(x:D) (L:List aE),SeqAt M' x L/\(0<i->∃c,x=.cell c/\M.length<=c/\M'[c]?=some (L.map bD))/\L.length<=4^i/\(∀b∈L,fx i 1 b)/\∃y2 y3 y4,Z=[some (nD w),some x,y2,y3,y4]) (λ_ _ _ _=>rfl) {.refl,_,[[]],.inl rfl,λh=>absurd h (RH _),`d,λb hb=>by rw[Qw.mp hb];exact{Ql _,λ_ h=>nomatch h},_,_,_,rfl} ?_ ?_
 ·rintro i d Z M1 hd ⟨s1,x,L,hx,_,ll,lb,y2,y3,y4,rfl⟩;obtain⟨hi,rfl⟩:=nR hd;have p4:(4:Nat)^i<=64:=Qp (Nat.pow_le_pow_right `d (show i<=3 by omega)) `d
  refine{_,rfl,?_};refine dC (fJ (x:=.cell M1.length) (M':=M1++[[]]) rfl) ?_;simp only[List.set];obtain⟨wk,w1,w2⟩:=hx.walk;rw[aD,eW,w1 _ _ _ rfl,aR];refine eY (ds:=L.map bD) (λj Z M'=>Sub M1 M'/\(∃K:List aE,M'[M1.length]?=some (K.map bD)/\K.length<=j*4/\∀b∈K,fx (i+1) 1 b)/\∃y4,Z=[some (nD w),some x,some (nD i),some (.cell M1.length),y4]) (λj Z M' h=>w2 _ h.1) {.app,{[],`s,RC _,λ_ h=>nomatch h},_,rfl} ?_ ?_
  ·rintro j d Z M2 hd ⟨s2,⟨K,ek,kl,kb⟩,y4,rfl⟩;rw[QC] at hd;obtain⟨b,eb,rfl⟩:=QA.mp hd;have hb:=lb b (QR eb);have hbl:=hb.l;have hj:=(Qg.mp eb).1;refine{_,rfl,?_};have ec:bc true 1 (.one 0) (dg (aa 0)) (bo (av false .add (aa 5) (bB (bg (bB (bg (aa 0) bj)) bj)))) [some (nD w),some x,some (nD i),some (.cell M1.length),some (bD b)] M2=.ok (.cell M2.length) (M2++[((List.range w).map λk=>b++[[k]]).map bD]):=by
    refine sv ?_;rw[dG,fG,ay rfl,aR];refine{_,rfl,`a,?_}
    rw[show((w:Nat):Int).toNat=w from RF _];refine fc (ds:=(List.range w).map λ(k:Nat)=>D.int (k:Int)) (λd=>bD (b++[[oH d]])) (ax `o) rfl (λd hd=>?_) ?_
    ·obtain⟨k,_,rfl⟩:=Qx.mp hd;refine{_,rfl,?_};refine(lA (xs:=b.map aq) rfl (pV (s:=bg _ bj) (xs:=[D.tup [nD k]]) (ag (pV (s:=bg _ bj) (xs:=[nD k]) (ag rfl rfl) (QM rfl)) rfl) (QM rfl)) `o).trans ?_
     show _=Res.ok (D.tup ((b++[[oH (.int (k:Int))]]).map aq)) M2;rw[QF,show oH (.int (k:Int))=k from RF k];rfl
    ·rw[Rk,Rk];refine jj.mpr {ax `o,rfl,?_}
     refine congrArg (λz=>M2++[z]) (RG λk _=>?_);show bD (b++[[oH (.int (k:Int))]])=bD (b++[[k]]);rw[show oH (.int (k:Int))=k from RF k]
   have lt1:=d3 ek;rw[aD];simp only[List.set];rw[Lh (a:=aa 3) (k:=M1.length) (j:=M2.length) (ds:=K.map bD) (es:=((List.range w).map λk=>b++[[k]]).map bD) rfl ec (by rw[Qn lt1];exact ek) `s `o,aR,bx]
   refine{_,rfl,?_,{K++(List.range w).map λk=>b++[[k]],?_,?_,?_},_,rfl}
   ·exact(s2.trans .app).setq (Ql _)
   ·rw[QS (by rw[QO];omega),QF]
   ·rw[QO,Qf,Rt,Nat.succ_mul];omega
   ·intro c hc;rcases QL.mp hc with hc|hc
    ·exact kb c hc
    ·obtain⟨k,_,rfl⟩:=Qx.mp hc;exact hb.app {Ql _,λs hs=>by rw[Qw.mp hs];exact Ql _}
  ·rintro Z M2 ⟨s2,⟨K,ek,kl,kb⟩,y4,rfl⟩;rw[Qf] at kl;rw[bx];refine bL (bY rfl) ?_;refine{_,rfl,s1.trans s2,.cell M1.length,K,.inr {_,rfl,ek},λ_=>{_,rfl,s1.len,ek},by rw[Nat.pow_succ];omega,kb,_,_,_,rfl}
 ·rintro Z M1 ⟨s1,x,L,hx,hc,ll,lb,y2,y3,y4,rfl⟩;rw[Qf,Rt] at hc ll lb;rw[bx];obtain⟨c,rfl,h1,h2⟩:=hc hw1;refine bW rfl {c,L,rfl,h1,h2,Qp ll (Qp (Nat.pow_le_pow_right `d hw) `d),λb hb=>(lb b hb).loose `a `d,s1}
end
section
variable{P:Nat->Option Df}{M:Mem}{p B:Nat}{m:aO}
def Gn (hp_:HasP P)(h160:P 160=some {2,3,fv})(n:Nat)(ht:t<6)(hp:aF M p B)(hB:B<=700000):ae (ah P (n+6) 160 [.cell p,nD t] M) λd M'=>∃m:aO,d=m.d/\aI m/\aF M' p (B+300)/\aY p M M':=by
 refine aN h160 rfl ?_;have key:∃a b c:Nat,au (bu false #[bB #[gI 3,gI 1,gI 6],bB #[gI 2,gI 2,gI 3],bB #[gI 3,gI 1,gI 4],bB #[gI 2,gI 2,gI 2],bB #[gI 4,gI 1,gI 2]]) (av false .mod (aa 1) (gI 5)) [some (.cell p),some (nD t),none] M=.ok (.tup [nD a,nD b,nD c]) M/\2<=a/\a<=4/\1<=b/\b<=2/\1<=c/\c<=6:=by
  match t,ht with
  |0,_=>exact{3,1,6,rfl,`d}
  |1,_=>exact{2,2,3,rfl,`d}
  |2,_=>exact{3,1,4,rfl,`d}
  |3,_=>exact{2,2,2,rfl,`d}
  |4,_=>exact{4,1,2,rfl,`d}
  |5,_=>exact{3,1,6,rfl,`d}
 obtain⟨a,b,c,e,a2,a4,b1,b2,c1,c6⟩:=key;refine bL (bY e) ?_;rw[aD,cH,aU (ag rfl (ag (bE rfl rfl rfl) (ag (bE rfl rfl rfl) (ag (bE rfl rfl rfl) rfl))))];refine aJ (xW hp_ n hp hB a2 a4 b1 b2 c1 c6) ?_;rintro d M' ⟨m,rfl,hm,_,_,_,q,k⟩;exact⟨m,rfl,hm,q,k⟩
noncomputable def aO.withC (m:aO)(c:Nat):aO:={m.words,m.places,m.deeds.map (·.withC c)}
end
structure zk (P:Nat->Option Df):Prop where
 b0:HasB0 P
 r0:jf P
 b:HasB P
 n:D9 P
 p:HasP P
 h14:P 14=some {2,5,du}
 h15:P 15=some {1,6,cg}
 h35:P 35=some {3,6,fT}
 h44:P 44=some {2,5,fu}
 h79:P 79=some {2,2,kg}
 h80:P 80=some {2,2,kC}
 h81:P 81=some {2,2,gO}
 h83:P 83=some {2,8,iT}
 h84:P 84=some {2,2,gq}
 h151:P 151=some {1,2,dY}
 h152:P 152=some {2,2,eT}
 h158:P 158=some {3,3,c8}
 h159:P 159=some {2,8,fH}
 h160:P 160=some {2,3,fv}
 h165:P 165=some {3,11,ie}
 h166:P 166=some {2,6,jJ}
 h167:P 167=some {2,7,oC}
 h168:P 168=some {2,2,fw}
 h170:P 170=some {3,6,fq}
 h176:P 176=some {2,3,dw}
 h177:P 177=some {3,5,jM}
 h178:P 178=some {3,10,d7}
 h179:P 179=some {1,5,fB}
 h180:P 180=some {1,13,oD}
noncomputable def yo (c:Call):GS:=#v[aw (.one 11) (aM (.list false) #[aa 10]),d9 (.one 12) (bQ 177 c #[aa 3,aa 5,aa 11]),aQ (dN (cj (aj (eB .bool (aa 12)))) (dN (aj (aA .ne (aa 12) (ai 170 c #[aa 3,aa 5,aa 10]))) (aj (aA .ne (aa 11) (aa 10))))) rF aG]
noncomputable def yL (c:Call):GS:=#v[cm (.one 9) (dg (gI 6)) #v[dS (aa 7) (ai 178 c #[aa 1,aa 3,aa 6])],cm (.one 10) (bK (aa 7)) (yo c)]
noncomputable def tS (c:Call):GS:=aX (d9 (.one 8) (bQ 167 c #[aa 3,aa 5])) (aX (aQ (aj (aA .eq (au (aa 8) (gI 0)) (gS "none"))) #v[dS (aa 7) (au (aa 8) (gI 1))] aG) (yL c))
noncomputable def uG (c:Call):GS:=aX (aQ (aj (aA .eq (au (aa 3) (gI 1)) (gI 1))) #v[dS (aa 7) (ai 179 c #[au (aa 3) (gI 0)])] aG) (tS c)
noncomputable def qV (c:Call):GS:=aX (aw (.one 6) (hZ false (aa 4))) (aX (aw (.one 7) (bu true #[aa 6,mW false (aa 6),bu false bj,cn false false true (aa 6) gN (gI 1)])) (uG c))
noncomputable def tN (c:Call):GS:=aX (aw (.one 5) (aM .tuple #[bc false 1 (.one 0) (bK (ai 42 c #[aa 3])) (bo (ai 31 c #[aa 2,au (aa 4) (gI 0)]))])) (aX (aQ (aj (aA .eq (ai 31 c #[aa 1,gI 3]) (gI 0))) #v[aw (.one 5) (ai 83 c #[aa 1,aa 3])] aG) (qV c))
noncomputable def tP (c:Call):GS:=aX (aw (.one 3) (ai 160 c #[ai 30 c #[aa 1],aa 2])) (aX (aw (.one 4) (ai 159 c #[aa 3,av false .pow (gI 10) (gI 9)])) (aQ (dN (aj (aA .isN (aa 4) gN)) (aj (aA .gt (fS (aa 4)) (gI 100)))) aG (tN c)))
def Dk (c:Call):oD c=#v[aw (.one 1) (ai 29 c #[aa 0]),cm (.one 2) (dg (gI 4)) (tP c),aP Bs]:=rfl
noncomputable def ki (p q:Nat)(M:Mem)(x:D):Prop:=∃L:List aE,(x=.lst (L.map bD)\/∃c,x=.cell c/\c≠p/\c≠q/\M[c]?=some (L.map bD))/\L.length<=1000/\∀b∈L,Loose b
noncomputable def iD (p q k:Nat)(M:Mem):Prop:=∃ds,M[q]?=some ds/\ds.length<=k/\∀x∈ds,ki p q M x
section
variable{P:Nat->Option Df}{M M':Mem}{m:aO}{p q k B:Nat}{ws:List D}{x:D}
def ki.mono (h:ki p q M x)(g:∀c ds,c≠p->c≠q->M[c]?=some ds->M'[c]?=some ds):ki p q M' x:=by
 obtain⟨L,h,r⟩:=h;exact{L,h.imp id λ⟨c,e,h1,h2,e2⟩=>{c,e,h1,h2,g c _ h1 h2 e2},r}
def ki.seq (h:ki p q M x):∃L,SeqAt M x L/\L.length<=1000/\∀b∈L,Loose b:=by
 obtain⟨L,h,r⟩:=h;exact{L,h.imp id λ⟨c,e,_,_,e2⟩=>⟨c,e,e2⟩,r}
def iD.keep (h:iD p q k M)(hq:q≠p)(s:aY p M M'):iD p q k M':=by
 obtain⟨ds,e,l,o⟩:=h;exact{ds,s.get e hq,l,λx hx=>(o x hx).mono λc ds h1 _ e=>s.get e h1}
def iD.sub (h:iD p q k M)(s:Sub M M'):iD p q k M':=by
 obtain⟨ds,e,l,o⟩:=h;exact{ds,s.get e,l,λx hx=>(o x hx).mono λc ds _ _ e=>s.get e}
def iD.app (h:iD p q k M)(hx:ki p q M x):∃ds,M[q]?=some ds/\ds.length<=k/\iD p q (k+1) (M.set q (ds++[x])):=by
 obtain⟨ds,e,l,o⟩:=h;have g:∀c es,c≠p->c≠q->M[c]?=some es->(M.set q (ds++[x]))[c]?=some es:=λc es _ h2 e=>by rw[Qo (Ru h2)];exact e
 refine{ds,e,l,ds++[x],QS (d3 e),by rw[QO,List.length_singleton];omega,λy hy=>?_}
 rcases QL.mp hy with hy|hy
 ·exact(o y hy).mono g
 ·rw[Qw.mp hy];exact hx.mono g
def aF.subM (hp:aF M p B)(s:Sub M M'):aF M' p B:=by
 obtain⟨c,cells,a,st,e1,e2,r⟩:=hp.ex;exact{c,cells,a,st,s.get e1,s.get e2,r}
def Ik {o:jS}{a b:GE}{Z:Env}{y z:D}{v:Bool}(h1:a Z M=.ok y M)(h2:b Z M=.ok z M')(h3:bH o y z M'=some v):aA o a b Z M=.ok (.bl v) M':=by
 unfold aA;rw[h1];show(b Z M).bind _=_;rw[h2];show(cu M' (bH o y z M')).bind _=_;rw[h3];rfl
def Ld (n:Nat)(h81:P 81=some {2,2,gO})(hm:aI m)(hw:eZ m ws){b:aE}(hb:eR m b=true):ah P (n+1) 81 [bD b,.tup ws] M=.ok (.bl (mZ ws b)) M:=by
 obtain⟨ol,os⟩:=oz hb;have:=cf hm;exact rY h81 n (ax (Qp nK (by rw[Qf];omega))) (lQ hm os hw.2)
def Lc (n:Nat)(h84:P 84=some {2,2,gq})(hm:aI m)(hw:eZ m ws){b:aE}(hb:eR m b=true):ah P (n+1) 84 [bD b,.tup ws] M=.ok (.bl (mZ ws b)) M:=by
 obtain⟨ol,os⟩:=oz hb;have:=cf hm;exact xX h84 n (ax (Qp nK (by rw[Qf];omega))) (lQ hm os hw.2)
def C1 (h:zk P)(hm:aI m)(hw:eZ m ws)(ho:ki p q M x){x0 x1 x2 x4 x6 x7 x8 x9 x11 x12:Option D}{kf:Fl->Mem->Prop}(k:∀M' z11 z12,Sub M M'->kf (.next [x0,x1,x2,some m.d,x4,some (.tup ws),x6,x7,x8,x9,some x,z11,z12]) M') :
 ae (yo (ah P 39) [x0,x1,x2,some m.d,x4,some (.tup ws),x6,x7,x8,x9,some x,x11,x12] M) kf:=by
 obtain⟨L,hx,hl,ll⟩:=ho.seq;unfold yo;refine bL (bY (De hx hl rfl)) ?_;simp only[List.set];obtain⟨v,M1,e1,rfl,s1⟩:=eJ.mp (xY (fit:=mZ ws) 27 h.b0 h.r0 h.h14 h.h15 h.h151 h.h152 h.h176 h.h177 (M:=M) hm (λM=>AR h.b0 h.h15 h.h79 h.h80 27 hm hw) (λM b hb=>Ld 37 h.h81 hm hw hb) hl ll);refine dC (oE ((eQ (xs:=[m.d,.tup ws,.lst (L.map bD)]) (ag rfl (ag rfl (ag rfl rfl)))).trans e1)) ?_;simp only[List.set];have hx1:SeqAt M1 x L:=hx.imp id λ⟨c,e,e2⟩=>{c,e,s1.get e2};obtain⟨v2,M2,e2,rfl,s2⟩:=eJ.mp (vY (fit:=mZ ws) 36 h.b hm h.h158 h.h170 (λM b lb=>Al h.n 34 h.b h.h168 hm lb) (λM b hb=>Lc 37 h.h84 hm hw hb) hx1 hl ll);have hx2:SeqAt M2 x L:=hx1.imp id λ⟨c,e,e2⟩=>{c,e,s2.get e2};refine si (M1:=M2) ?_ (k M2 _ _ (s1.trans s2));have t1:(aj (aA .ne (aa 12) (ai 170 (ah P 39) #[aa 3,aa 5,aa 10]))) [x0,x1,x2,some m.d,x4,some (.tup ws),x6,x7,x8,x9,some x,some (.lst (L.map bD)),some (.bl (gM m (mZ ws) L))] M1=.ok false M2:=by
  unfold aj;rw[Ik (v:=false) rfl ((aU (xs:=[m.d,.tup ws,x]) (ag rfl (ag rfl (ag rfl rfl)))).trans e2) (by cases gM m (mZ ws) L<;>rfl)];rfl
 have t2:(aj (aA .ne (aa 11) (aa 10))) [x0,x1,x2,some m.d,x4,some (.tup ws),x6,x7,x8,x9,some x,some (.lst (L.map bD)),some (.bl (gM m (mZ ws) L))] M2=.ok false M2:=bV (iN (x:=.lst (L.map bD)) (y:=x) rfl rfl (Km hx2));unfold dN;rw[g7 (b:=true) (bV rfl)];show Res.bind (aj (aA .ne (aa 12) (ai 170 (ah P 39) #[aa 3,aa 5,aa 10])) _ M1) _=_;rw[t1];exact t2
def none_str:m8 (.str "none") (.str "none")=some true:=`k
def GQ:m8 (.str "row") (.str "none")=some false:=`k
structure lB (m:aO) (L:List aE):Prop where
 l0:0<L.length
 l1:L.length<=100
 b:∀b∈L,fx 16 2 b/\0<b.length
def lB.loose {L:List aE}(h:lB m L):∀b∈L,Loose b:=λb hb=>(h.b b hb).1.loose `d `d
section
variable(h:zk P){L:List aE}{x0 x2 x4 x8 x9 x10 x11 x12:Option D}{kf:Fl->Mem->Prop}
include h
theorem u4 (hm:aI m)(hw:eZ m ws)(hL:lB m L)(hq:p<q)(hk:k<=20)(hs:iD p q k M)(hp:aF M p B)(hB:B<=600000)
 (kk:∀M' z9 z10 z11 z12,aF M' p (B+30)->kf (.next [x0,some (.cell p),x2,some m.d,x4,some (.tup ws),some (.lst (L.map bD)),some (.cell q),x8,z9,z10,z11,z12]) M') :
 ae (yL (ah P 39) [x0,some (.cell p),x2,some m.d,x4,some (.tup ws),some (.lst (L.map bD)),some (.cell q),x8,x9,x10,x11,x12] M) kf:=by
 unfold yL;rw[aD,eW,fG,dJ];refine{6,rfl,{`d,`d},?_}
 refine eY (ds:=(List.range 6).map λ(k:Nat)=>D.int (k:Int)) (λi Z M'=>aF M' p (B+5*i)/\iD p q (k+i) M'/\∃z9,Z=[x0,some (.cell p),x2,some m.d,x4,some (.tup ws),some (.lst (L.map bD)),some (.cell q),x8,z9,x10,x11,x12]) (λ_ _ _ _=>rfl) {hp,hs,_,rfl} ?_ ?_
 ·rintro i d Z M1 hd ⟨p1,s1,z9,rfl⟩;obtain⟨hi,rfl⟩:=nR hd;refine{_,rfl,?_};obtain⟨y,M2,e2,K,rfl,kl,kb,p2,k2⟩:=eJ.mp (CJ h.p.toHasP0 h.h178 36 (M:=M1) (m:=m) hL.l0 hL.l1 hL.b hm.w4 p1 `a)
  obtain⟨ds,ed,dl,s2⟩:=(s1.keep `a k2).app (x:=.lst (K.map bD)) {K,.inl rfl,`a,kb}
  refine dC (nE (j:=q) rfl ((aU (xs:=[.cell p,m.d,.lst (L.map bD)]) (ag rfl (ag rfl (ag rfl rfl)))).trans e2) ed (RO dl (QN (show k+i<100000 by omega) (ax (Ql _))))) ?_
  exact{_,rfl,(p2.mono `a).setq hq,s2,_,rfl}
 ·rintro Z M1 ⟨p1,s1,z9,rfl⟩;rw[Qf,Rt] at p1 s1;rw[bx];obtain⟨ds,ed,dl,ho⟩:=s1;rw[aD,eW,gQ,ay rfl,aR];refine{rfl,?_};refine eY (ds:=ds) (λi Z M'=>Sub M1 M'/\∃z10 z11 z12,Z=[x0,some (.cell p),x2,some m.d,x4,some (.tup ws),some (.lst (L.map bD)),some (.cell q),x8,z9,z10,z11,z12]) (λi Z M' h=>h.1.get ed) {.refl,_,_,_,rfl} ?_ ?_
  ·rintro i y Z M2 hd ⟨s2,z10,z11,z12,rfl⟩;refine{_,rfl,?_};exact C1 h hm hw ((ho y (QR hd)).mono λc es _ _ e=>s2.get e) λM3 z11 z12 s3=>{_,rfl,s2.trans s3,_,_,_,rfl}
  ·rintro Z M2 ⟨s2,z10,z11,z12,rfl⟩;exact kk M2 _ _ _ _ ((p1.mono `a).subM s2)
theorem rS (hm:aI m)(hw:eZ m ws)(few:¬ jQ m none)(hL:lB m L)(hq:p<q)(hk:k<=18)(hs:iD p q k M)(hp:aF M p B)(hB:B<=600000)
 (kk:∀M' z8 z9 z10 z11 z12,aF M' p (B+30)->kf (.next [x0,some (.cell p),x2,some m.d,x4,some (.tup ws),some (.lst (L.map bD)),some (.cell q),z8,z9,z10,z11,z12]) M') :
 ae (tS (ah P 39) [x0,some (.cell p),x2,some m.d,x4,some (.tup ws),some (.lst (L.map bD)),some (.cell q),x8,x9,x10,x11,x12] M) kf:=by
 unfold tS;have t:=CH (M:=M) 38 (λM=>Ah h.b0 h.r0 h.h15 h.h151 h.h152 h.h165 h.h166 27 hm) (λM=>AR h.b0 h.h15 h.h79 h.h80 27 hm hw) (λM q b lq=>Nh 37 h.h81 hm hw lq) h.h167;cases e:ah P 39 167 [m.d,.tup ws] M with
 |bad=>rw[e] at t;exact t.elim
 |err y M1=>rw[e] at t;exact absurd t.2.1 few
 | ok d M1 =>
   rw[e] at t;obtain⟨ht,s1⟩:=t;refine dC (oE ((eQ (xs:=[m.d,.tup ws]) (ag rfl (ag rfl rfl))).trans e)) ?_;simp only[List.set];have hp1:=hp.subM s1;have hs1:=hs.sub s1;rcases ht with⟨E,c,rfl,hc,ec,all,fe,no⟩|⟨E,e',r,c,rfl,_⟩
   ·refine Bi (bV (iN (x:=.str "none") (bE rfl rfl rfl) rfl (cv none_str _))) ?_;have lp:p<M.length:=hp.lt;have lq:q<M.length:=by obtain⟨ds,e,_⟩:=hs;exact d3 e
    have lo:∀b∈E.map (·.1),Loose b:=λb hb=>by
     obtain⟨x,hx,rfl⟩:=Qx.mp hb;have lq:bF m x.2.1 x.1:=all.mem.mp (by rw[xS];exact Qx.mpr ⟨x,hx,rfl⟩)
     obtain⟨ol,os⟩:=mK hm lq.1;have:=cf hm;have:=hm.p2;exact{`a,λs hs=>by rw[(os s hs).1];omega}
    obtain⟨ds,ed,dl,s2⟩:=hs1.app (x:=.cell c) {E.map (·.1),.inr {c,rfl,`a,`a,by rw[Rk];exact ec},by rw[Qf];omega,lo}
    refine dC (nE (j:=q) rfl (bE rfl rfl rfl) ed (RO dl (QN (show k<100000 by omega) (ax (Ql _))))) ?_
    refine bx.mpr ?_;exact u4 h hm hw hL hq `a s2 (hp1.setq hq) hB λM' z9 z10 z11 z12=>kk M' _ _ _ _ _
   ·refine d5 (bV (iN (x:=.str "row") (bE rfl rfl rfl) rfl (cv GQ _))) ?_;exact u4 h hm hw hL hq `a hs1 hp1 hB λM' z9 z10 z11 z12=>kk M' _ _ _ _ _
theorem A2 (hm:aI m)(hw:eZ m ws)(few:¬ jQ m none)(hL:lB m L)(hq:p<q)(hk:k<=16)(hs:iD p q k M)(hp:aF M p B)(hB:B<=600000)
 (kk:∀M' z8 z9 z10 z11 z12,aF M' p (B+30)->kf (.next [x0,some (.cell p),x2,some m.d,x4,some (.tup ws),some (.lst (L.map bD)),some (.cell q),z8,z9,z10,z11,z12]) M') :
 ae (uG (ah P 39) [x0,some (.cell p),x2,some m.d,x4,some (.tup ws),some (.lst (L.map bD)),some (.cell q),x8,x9,x10,x11,x12] M) kf:=by
 unfold uG;refine bG (bV (iN (o:=.eq) (x:=nD m.places) (y:=nD 1) (bE rfl rfl rfl) rfl rfl)) (λ_=>?_) λ_=>rS h hm hw few hL hq `a hs hp hB kk
 have lp:p<M.length:=hp.lt;have lq:q<M.length:=by obtain⟨ds,e,_⟩:=hs;exact d3 e
 obtain⟨y,M1,e1,c,K,rfl,hc,ec,kl,kb,s1⟩:=eJ.mp (Gv h.h179 38 (M:=M) (w:=m.words) hm.w4 (by have:=hm.w2;omega))
 obtain⟨ds,ed,dl,s2⟩:=(hs.sub s1).app (x:=.cell c) {K,.inr {c,rfl,`a,`a,ec},`a,kb}
 refine dC (nE (j:=q) rfl ((aU (xs:=[nD m.words]) (ag (bE rfl rfl rfl) rfl)).trans e1) ed (RO dl (QN (show k<100000 by omega) (ax (Ql _))))) ?_
 refine bx.mpr ?_;exact rS h hm hw few hL hq `a s2 ((hp.subM s1).setq hq) hB kk
theorem qe {A:fC}{fk:Nat}(hm:aI m)(hw:eZ m ws)(ef:M[fk]?=some (pb A))(all:AllIn m none (A.map pr))(la:A.length<=100)(hp:aF M p B)(hB:B<=600000){x6 x7:Option D}
 (kk:∀M' z6 z7 z8 z9 z10 z11 z12,aF M' p (B+30)->kf (.next [x0,some (.cell p),x2,some m.d,some (.fn (az fk)),some (.tup ws),z6,z7,z8,z9,z10,z11,z12]) M') :
 ae (qV (ah P 39) [x0,some (.cell p),x2,some m.d,some (.fn (az fk)),some (.tup ws),x6,x7,x8,x9,x10,x11,x12] M) kf:=by
 unfold qV;have hL:lB m (A.map (·.1)):=by
  refine{?_,by rw[Qf];exact la,λb hb=>?_}
  ·have z:(a7 m,0)∈A.map pr:=all.mem.mpr ((fQ hm).mpr rfl);rw[Qf];rw[<- Qf (f:=pr)];exact List.length_pos_of_mem z
  ·obtain⟨x,hx,rfl⟩:=Qx.mp hb;have lq:bF m x.2.1 x.1:=all.mem.mp (Qx.mpr ⟨x,hx,rfl⟩);obtain⟨ol,os⟩:=mK hm lq.1;have:=cf hm;have:=vH hm;have:=hm.p2;exact{{`a,λs hs=>by rw[(os s hs).1];omega},`a}
 have ek:hZ false (aa 4) [x0,some (.cell p),x2,some m.d,some (.fn (az fk)),some (.tup ws),x6,x7,x8,x9,x10,x11,x12] M=.ok (.lst ((A.map (·.1)).map bD)) M:=by
  rw[u6 (k:=λe:aE×Nat×List Nat=>e.1) (v:=λe=>nD e.2.1) false rfl ef,Rk];exact ak (bI.mpr {ax (by rw[Qf];omega),rfl,rfl})
 refine bL (bY ek) ?_;simp only[List.set];generalize hg:A.map (·.1)=L at hL ⊢;have lp:p<M.length:=hp.lt;have ll:=hL.l1;have er:mW false (aa 6) [x0,some (.cell p),x2,some m.d,some (.fn (az fk)),some (.tup ws),some (.lst (L.map bD)),x7,x8,x9,x10,x11,x12] M=.ok (.lst (L.reverse.map bD)) M:=by
  refine ak (Nn.mpr ?_);rw[ay rfl,aR];show ae (ba false (L.map bD).reverse M) _;rw[<- List.map_reverse];exact bI.mpr {ax (by rw[Qf,List.length_reverse];omega),rfl,rfl}
 obtain⟨i1,j1,e1⟩:=Aq (Z:=[x0,some (.cell p),x2,some m.d,some (.fn (az fk)),some (.tup ws),some (.lst (L.map bD)),x7,x8,x9,x10,x11,x12]) (M:=M) (a:=aa 6) (lo:=gC .non) (hi:=gC (.int 1)) (hl:=false) (hh:=true) (xs:=L.map bD) rfl rfl rfl rfl rfl (by rw[Qf];omega)
 rw[qp] at e1;have el:bu true #[aa 6,mW false (aa 6),bu false bj,cn false false true (aa 6) gN (gI 1)] [x0,some (.cell p),x2,some m.d,some (.fn (az fk)),some (.tup ws),some (.lst (L.map bD)),x7,x8,x9,x10,x11,x12] M=.ok (.cell M.length) (M++[[.lst (L.map bD),.lst (L.reverse.map bD),.lst (([]:List aE).map bD),.lst ((cut L i1 j1).map bD)]]):=by
  refine sv (tq.mpr ?_);rw[ag rfl (ag er (ag (k9 (s:=bj) (xs:=[]) rfl (RC _)) (ag e1 rfl))),aR];exact jj.mpr {ax (n:=4) (QM rfl),rfl,rfl}
 refine dC (fJ el) ?_;simp only[List.set];have lo:=hL.loose;refine A2 h (k:=4) hm hw (all.few (by rw[Qf];omega)) hL lp `d {_,by simp;rfl,Ql _,λy hy=>?_} hp.app hB λM' z8 z9 z10 z11 z12=>kk M' _ _ _ _ _ _ _
 simp only[Rg,List.not_mem_nil,or_false] at hy;rcases hy with rfl|rfl|rfl|rfl
 ·exact{L,.inl rfl,`a,lo}
 ·exact{L.reverse,.inl (by rw[List.map_reverse]),by rw[List.length_reverse];omega,λb hb=>lo b (List.mem_reverse.mp hb)}
 ·exact{[],.inl rfl,`d,λ_ h=>nomatch h}
 ·exact{cut L i1 j1,.inl rfl,Qp iM `a,λb hb=>lo b (rq hb)}
theorem zx {A:fC}{fk:Nat}(hm:aI m)(hfp:fk≠p)(ef:M[fk]?=some (pb A))(all:AllIn m none (A.map pr))(la:A.length<=100)(hp:aF M p B)(hB:B<=500000){x5 x6 x7:Option D}
 (kk:∀M' z5 z6 z7 z8 z9 z10 z11 z12,aF M' p (B+600)->kf (.next [x0,some (.cell p),x2,some m.d,some (.fn (az fk)),z5,z6,z7,z8,z9,z10,z11,z12]) M') :
 ae (tN (ah P 39) [x0,some (.cell p),x2,some m.d,some (.fn (az fk)),x5,x6,x7,x8,x9,x10,x11,x12] M) kf:=by
 unfold tN;have bl:=cf hm;refine cF (k:=λd M'=>∃ws,d=.tup ws/\eZ m ws/\aF M' p (B+16)/\aY p M M') ?_ ?_
 ·rw[b5,bX,dG,gQ,aU (xs:=[m.d]) (ag rfl rfl),gK h.b 38 hm,aR];refine{rfl,?_};refine comp_map (ds:=(a7 m).map aq) (λi acc M'=>acc.length=i/\(∀x∈acc,pP m x)/\aF M' p (B+i)/\aY p M M') (ax (by rw[Qf];omega)) (λ_ _ _ _=>rfl) {rfl,(λ_ h=>nomatch h),hp,.refl} ?_ ?_
  ·rintro i d acc M1 hd _ ⟨hl,hwd,p1,k1⟩;have hi:=(Qg.mp hd).1;rw[Qf] at hi;refine{_,rfl,?_};refine aJ (eL h.p.toHasP0 37 (many:=m.words) rfl (bE rfl rfl rfl) p1 `a (by have:=hm.w2;omega) (by have:=hm.w4;omega)) ?_
   rintro _ M2 ⟨v,rfl,hv,p2,k2⟩;refine{by rw[QO,hl];rfl,λy hy=>?_,p2,k1.trans k2}
   rcases QL.mp hy with hy|hy
   ·exact hwd y hy
   ·rw[Qw.mp hy];exact .inr ⟨v,rfl,hv⟩
  ·rintro acc M1 _ ⟨hl,hwd,p1,k1⟩;rw[Qf] at hl p1;refine bI.mpr {ax `a,cb.mpr (zV.mpr {acc,rfl,⟨hl,hwd⟩,p1.mono `a,k1})}
 rintro _ M1 ⟨ws,rfl,hw,p1,k1⟩;simp only[List.set];rw[aD,gZ,gV,eC];refine aJ (eL h.p.toHasP0 37 (many:=3) rfl rfl p1 `a `d `d) ?_
 rintro _ M2 ⟨v,rfl,hv,p2,k2⟩;refine dJ.mpr {_,rfl,_,rfl,?_};split
 ·obtain⟨d,M3,e3,ws3,rfl,hw3,p3,k3⟩:=eJ.mp (Ac h.p h.b h.h35 h.h44 h.h83 35 (M:=M2) hm p2 `a)
  refine dC (fJ ((aU (xs:=[.cell p,m.d]) (ag rfl (ag rfl rfl))).trans e3)) ?_;refine bx.mpr ?_;exact qe h hm hw3 (((k1.trans k2).trans k3).get ef hfp) all la p3 `a λM' z6 z7 z8 z9 z10 z11 z12 q=>kk M' _ _ _ _ _ _ _ _ (q.mono `a)
 ·refine bx.mpr ?_;exact qe h hm hw ((k1.trans k2).get ef hfp) all la p2 `a λM' z6 z7 z8 z9 z10 z11 z12 q=>kk M' _ _ _ _ _ _ _ _ (q.mono `a)
theorem zR {t:Nat}(ht:t<6)(hp:aF M p B)(hB:B<=400000){x3 x5 x6 x7:Option D}
 (kk:∀M' z3 z4 z5 z6 z7 z8 z9 z10 z11 z12,aF M' p (B+900)->kf (.next [x0,some (.cell p),some (nD t),z3,z4,z5,z6,z7,z8,z9,z10,z11,z12]) M') :
 ae (tP (ah P 39) [x0,some (.cell p),some (nD t),x3,x4,x5,x6,x7,x8,x9,x10,x11,x12] M) kf:=by
 unfold tP;refine cF (k:=λd M'=>∃m:aO,d=m.d/\aI m/\aF M' p (B+300)) ?_ ?_
 ·rw[u5,bX,aU (xs:=[.cell p]) (ag rfl rfl)];refine aJ (GF h.p.toHasP0 38 hp) ?_;rintro _ M1 ⟨rfl,p1,k1⟩;rw[bX];refine bw.mpr {_,rfl,cb.mpr ?_};refine aJ (Gn h.p h.h160 33 ht p1 `a) ?_
  rintro d M2 ⟨m,e,hm,p2,_⟩;exact⟨m,e,hm,p2⟩
 rintro _ M1 ⟨m,rfl,hm,p1⟩;have lp:p<M1.length:=p1.lt;obtain⟨d,M2,e2,s2,hc⟩:=eJ.mp (An h.b h.h158 h.h159 36 (M:=M1) (bound:=1000000000) hm);refine dC (fJ ((aU (xs:=[m.d,nD 1000000000]) (ag rfl (ag (yf (x:=10) (y:=9) rfl rfl {`d,`d} `d) rfl))).trans e2)) ?_
 simp only[List.set];have p2:=p1.subM s2;rcases hc with⟨rfl,mn⟩|⟨fk,A,rfl,hf,ef,_,all,few⟩
 ·rw[gZ];show ae (Res.ok true M2) _;exact kk M2 _ _ _ _ _ _ _ _ _ _ (p2.mono `a)
 ·have tl:(dN (aj (aA .isN (aa 4) gN)) (aj (aA .gt (fS (aa 4)) (gI 100)))) [x0,some (.cell p),some (nD t),some m.d,some (.fn (az fk)),x5,x6,x7,x8,x9,x10,x11,x12] M2=.ok (decide (100<A.length)) M2:=by
   have el:fS (aa 4) [x0,some (.cell p),some (nD t),some m.d,some (.fn (az fk)),x5,x6,x7,x8,x9,x10,x11,x12] M2=.ok (nD A.length) M2:=by
    unfold fS;rw[ay rfl];show(match bR M2 (az fk) with|some q=>Res.ok (D.int q.2.length) M2|none=>.bad)=_
    rw[gm (k:=λe:aE×Nat×List Nat=>e.1) (v:=λe=>nD e.2.1) ef];show Res.ok (D.int ((A.map _).length:Int)) M2=_;rw[Qf]
   refine(nU (x:=false) rfl (bV (iN (x:=nD A.length) (y:=nD 100) (v:=decide (100<A.length)) el rfl ?_))).trans rfl;show some (decide ((100:Int)<(A.length:Int)))=_;rw[show decide ((100:Int)<(A.length:Int))=decide (100<A.length) from decide_eq_decide.mpr `a]
  rw[gZ,tl];cases hd:decide (100<A.length) with
  |true=>exact kk M2 _ _ _ _ _ _ _ _ _ _ (p2.mono `a)
  | false =>
    have:=of_decide_eq_false hd;exact zx h hm `a ef (all `d).1 `a p2 `a λM' z5 z6 z7 z8 z9 z10 z11 z12 q=>kk M' _ _ _ _ _ _ _ _ _ _ (q.mono `a)
omit h in
theorem MX (h:zk P)(ns:List Int)(hn:ns.length<=63):∃M,ah P 40 180 [.frz (ns.map D.int)] []=.ok (.bl true) M:=by
 have goal:ae (ah P 40 180 [.frz (ns.map D.int)] []) λd _=>d=.bl true:=by
  refine aN h.h180 rfl ?_;show ae (oD (ah P 39) [some (.frz (ns.map D.int)),none,none,none,none,none,none,none,none,none,none,none,none] []) _;rw[Dk];refine cF (k:=λd M'=>d=.cell 1/\aF M' 1 0) ?_ ?_
  ·rw[aU (xs:=[.frz (ns.map D.int)]) (ag rfl rfl)];exact Gr h.p.toHasP0 38 hn
  rintro _ M1 ⟨rfl,p1⟩;rw[aD,eW,fG,dJ];refine{4,rfl,{`d,`d},?_}
  refine eY (ds:=(List.range 4).map λ(k:Nat)=>D.int (k:Int)) (λi Z M'=>aF M' 1 (900*i)/\∃y2 y3 y4 y5 y6 y7 y8 y9 y10 y11 y12,Z=[some (.frz (ns.map D.int)),some (.cell 1),y2,y3,y4,y5,y6,y7,y8,y9,y10,y11,y12]) (λ_ _ _ _=>rfl) {p1,_,_,_,_,_,_,_,_,_,_,_,rfl} ?_ ?_
  ·rintro i d Z M' hd ⟨hp,y2,y3,y4,y5,y6,y7,y8,y9,y10,y11,y12,rfl⟩;obtain⟨hi,rfl⟩:=nR hd;refine{_,rfl,?_};exact zR h `a hp `a λM2 z3 z4 z5 z6 z7 z8 z9 z10 z11 z12 p2=>{_,rfl,p2.mono `a,_,_,_,_,_,_,_,_,_,_,_,rfl}
  ·rintro Z M' ⟨hp,y2,y3,y4,y5,y6,y7,y8,y9,y10,y11,y12,rfl⟩;rw[bx];exact bW rfl rfl
 obtain⟨d,M,e,rfl⟩:=eJ.mp goal;exact⟨M,e⟩
end
end
end LD
end
set_option maxHeartbeats 0
namespace K23
open PySem PySem.Spec PyProof.Rows L2 LD
noncomputable def top (i:Nat):Stmt:=PySem.Challenge.pw_leastdeeds_k23_which_lists_are_closed.main.body.getD i (.Pass {0,0,0,0})
noncomputable def q0:Str×Tok:=("leastdeeds.wholes",255)
noncomputable def q1:Str×Tok:=("leastdeeds.machines",266)
noncomputable def q2:Str×Tok:=("leastdeeds.runs",415)
noncomputable def q3:Str×Tok:=("leastdeeds.works",491)
noncomputable def q4:Str×Tok:=("leastdeeds.least",513)
noncomputable def q5:Str×Tok:=("law_leastdeeds_k23_which_lists_are_closed",570)
noncomputable def tb:List Ent:=[{0,"is_between",top 6,3,["thing","low","high"],70,q0,jL,false,none,0},
 {1,"is_word",top 13,2,["words","thing"],77,q1,nq,false,none,0},
 {2,"is_place",top 14,2,["places","thing"],84,q1,mw,false,none,0},
 {3,"is_cost",top 15,1,["thing"],91,q1,nA,false,none,0},
 {4,"is_tuple_of",top 16,2,["long","thing"],98,q1,gD,false,none,0},
 {5,"is_table",top 17,2,["words","thing"],103,q1,mv,false,none,0},
 {6,"is_double_table",top 18,2,["words","thing"],108,q1,f7,false,none,0},
 {7,"is_turn",top 19,3,["words","places","parts","at","table","price"],115,q1,nr,false,none,0},
 {8,"is_join",top 20,3,["words","places","parts","at","other","table","price"],122,q1,ny,false,none,0},
 {9,"is_move",top 21,3,["words","places","parts","at","other","price"],129,q1,nt,false,none,0},
 {10,"is_put",top 22,3,["words","places","parts","at","word","price"],136,q1,pK,false,none,0},
 {11,"is_deed",top 24,3,["words","places","thing","sort","is_sort"],144,q1,nz,false,none,0},
 {12,"is_machine",top 25,1,["thing","words","places","deeds"],149,q1,jK,false,none,0},
 {13,"need_machine",top 26,1,["thing"],156,q1,iB,true,none,0},
 {14,"is_beginning",top 27,2,["machine","thing","words","places","deeds"],161,q1,du,false,none,0},
 {15,"beginnings",top 28,1,["machine","words","places","deeds","starts","place"],166,q1,cg,true,none,0},
 {20,"turned",top 30,2,["deed","standing","sort","at","table","price"],173,q2,mi,false,none,0},
 {21,"joined",top 31,2,["deed","standing","sort","at","other","table","price"],180,q2,mr,false,none,0},
 {22,"moved",top 32,2,["deed","standing","sort","at","other","price"],187,q2,oB,false,none,0},
 {23,"put_in",top 33,2,["deed","standing","sort","at","word","price"],194,q2,mj,false,none,0},
 {24,"done",top 35,2,["deed","standing","new_word","at"],202,q2,qy,false,none,0},
 {176,"are_behaviours",top 36,2,["machine","things","many"],207,q2,dw,false,none,0},
 {79,"is_work",top 38,2,["machine","thing"],212,q3,kg,false,none,0},
 {80,"need_work",top 39,2,["machine","work"],219,q3,kC,true,none,0},
 {81,"ends_do",top 40,2,["ends","work"],224,q3,gO,false,none,0},
 {151,"priced_leads",top 43,1,["machine","starts"],229,q4,dY,true,none,0},
 {152,"led_to",top 44,2,["lead","ends"],234,q4,eT,false,none,0},
 {165,"next_level",top 45,3,["leads","levels","found","price","level","number","step_price","lead","ahead","ends","new_ends"],241,q4,ie,true,none,0},
 {166,"reached",top 46,2,["machine","bound","leads","empty_ends","found","levels"],249,q4,jJ,true,none,242},
 {167,"least",top 47,2,["machine","work","found","best","price","row","floors"],254,q4,oC,true,none,0},
 {177,"closed",top 48,3,["machine","work","behaviours","known","leads"],259,q4,jM,true,none,0},
 {28,"_law_spread",top 50,2,["cell","at","primes","one","two","three"],266,q5,mC,false,none,0},
 {29,"_law_open",top 51,1,["script","cells","k","cell"],273,q5,kD,false,none,0},
 {30,"_law_anew",top 52,1,["pen"],280,q5,kF,false,none,0},
 {31,"_law_take",top 53,2,["pen","many","at","cell","found"],287,q5,oO,false,none,0},
 {67,"_law_is_whole",top 54,1,["thing"],294,q5,ig,false,none,0},
 {32,"_law_tab",top 55,2,["pen","words","kind","word","other","found"],299,q5,jb,false,none,0},
 {33,"_law_deed",top 56,3,["pen","words","places","kind","price","at","other"],304,q5,iI,false,none,0},
 {34,"_law_machine",top 57,4,["pen","words","places","most","deeds","k","again","deed"],311,q5,fU,false,none,0},
 {35,"_law_row",top 58,3,["pen","machine","most","kind","many","found"],316,q5,fT,false,none,0},
 {41,"_law_after",top 59,2,["deed","end","here","own"],323,q5,jN,false,none,0},
 {42,"_law_begins",top 60,1,["machine"],328,q5,iU,false,none,0},
 {44,"_law_ends",top 61,2,["machine","row","found","end","number"],335,q5,fu,false,none,0},
 {158,"_law_behind",top 62,3,["machine","here","number"],340,q5,c8,false,none,0},
 {159,"_law_costs",top 63,2,["machine","bound","found","due","price","here","number","deed"],347,q5,fH,false,none,0},
 {68,"_law_is_in",top 64,3,["thing","low","high"],354,q5,nB,false,none,0},
 {69,"_law_numbers",top 65,4,["thing","many","low","high"],359,q5,lu,false,none,0},
 {160,"_law_some_machine",top 66,2,["pen","turn","size"],366,q5,fv,false,none,0},
 {83,"_law_wanted",top 67,2,["pen","machine","kind","free","begins","ends","found","at"],371,q5,iT,false,none,0},
 {84,"_law_does",top 68,2,["here","work"],376,q5,gq,false,none,0},
 {168,"_law_is_behaviour",top 69,2,["machine","here"],381,q5,fw,false,none,0},
 {170,"_law_closed",top 70,3,["machine","work","some","known","here","at"],388,q5,fq,false,none,0},
 {178,"_law_bent_list",top 71,3,["pen","machine","some","kind","word","at","here","end","other","odd"],395,q5,d7,false,none,0},
 {179,"_law_all_maps",top 72,1,["words","found","turn","longer","here"],400,q5,fB,false,none,0},
 {180,"law",top 73,1,["script","pen","turn","machine","prices","work","some","lists","told","k","one","handed","found"],405,q5,oD,true,none,0}]
noncomputable def rs:Rs:={[Er,zM,I8,Ex,Ew,Eu,N4,zO,Jb,Ep,zQ,Ja,IW,IU,IY,IV,IX,Jc,zI,zK,Es,Et,Ez,Ey,N3],[IM,vT],[zw,Eg],[zE,Ek,El,Ej,IL],[Ec,IB,Ed,Ef,zr,Ee,IA,IC,ID,Iz,zu]}
def MB:D5 rs:={⟨Cb,zL,Gb,Cg,Cf,Ce,I9,zN,Ge,Ca,zP,Gd,F8,F6,Ga,F7,F9,Gf,zH,zJ,Cc,Cd,Cj,Ci,IZ,trivial⟩,⟨F1,Mo,trivial⟩,⟨zv,BY,trivial⟩,⟨zD,B8,B9,B7,FZ,trivial⟩,⟨BU,FT,BV,BX,zq,BW,FR,FU,FV,FQ,zt,trivial⟩}
noncomputable def te0:List (Str×En):=List.map (λx=>(x,En.bl)) ["all","any","bool","enumerate","int","isinstance","len","list","min","range","str","tuple","zip"]
noncomputable def te1:List (Str×En):=[("LEAST_WORDS",.int 2),("MOST_BEHAVIOURS",.int 255),("MOST_COST",.int 3),("MOST_DEEDS",.int 6),("MOST_PLACES",.int 2),("MOST_WORDS",.int 4),("NEW_WORDS",.dct cU),("SORTS",.dct eP),("NoMachine",.xc 3),("NoWork",.xc 6),("TooMany",.xc 8),("DeedError",.de)]
noncomputable def te:List (Str×En):=te0++te1
noncomputable def tbl:nF:={(tb.filter (·.q.isNone)).map (λe=>(e.x,if e.i==166 then En.fnD e.i else En.fn e.i e.r))++te,[],[],[("NEW_WORDS",cU),("SORTS",eP)],[],[(127,12,14),(133,42,67),(141,29,31),(142,13,27),(149,40,45),(151,24,35),(153,13,90),(153,57,62),(160,87,92),(163,56,61),(175,12,29),(178,11,24),(209,12,30),(228,12,14),(244,11,20),(260,12,14),(269,12,14),(270,10,41),(270,11,40),(280,35,37),(298,12,36),(300,16,62),(305,16,83),(314,12,14),(342,17,19),(344,26,70),(358,16,48)],[(124,18,27),(132,15,36),(133,16,31),(133,42,53),(135,19,29),(141,12,33),(149,16,27),(151,24,35),(153,29,40),(153,66,77),(159,12,47),(160,7,46),(163,16,43),(269,12,14),(274,15,32),(275,16,27),(276,19,29),(314,12,14),(318,8,19),(319,7,47),(323,15,58),(352,29,40),(357,15,27)],[],rs,tb}
noncomputable def Pg:Nat->Option Df:=tbl.Pg
def MC:∀c,tb.map (tbl.rd c)=tb.map λe=>some (e.b c):=λc=>by kernel_rfl
def tab:ze tbl:={MB,MC,by kernel_rfl,by kernel_rfl,λ_ _ _ _ _ _=>by kernel_rfl,λ_ _ _ _ _ _ _=>by kernel_rfl,λ_ _ _ _ _ _ _ _=>by kernel_rfl,λ_ _ _ _ _ _ _ _ _=>by kernel_rfl,λ_ _ _ _ _ _ _ _ _ _=>by kernel_rfl,λ_ _ _ _ _ _ _ _ _ _ _ _=>by kernel_rfl,by rw[show tbl.tb.filter (λe=>!(e.df==0))=[tb[28]] from by kernel_rfl];exact{{rfl,λ_ _ _ _ _ _ _ _=>{_,_,rfl,rfl,rfl,rfl}},trivial}}
noncomputable def fa:Fa:=LD.xj (tb.map (λe=>(e.i,e.f))++[(666,1)]) [(3,37),(6,49),(8,61)] 24
def Di:∀ns:List Int,ns.length<=63->∃M,ah Pg 40 180 [.frz (ns.map D.int)] []=.ok (.bl true) M:=MX (by repeat' (first|rfl|constructor))
end K23
open PySem PySem.W PyProof.Rows K23
set_option maxRecDepth 100000 in
set_option maxHeartbeats 0 in
theorem PySem.Challenge.cw_leastdeeds_k23_which_lists_are_closed_holds : PySem.Challenge.rw_leastdeeds_k23_which_lists_are_closed.Holds := by
 w_on;o_law
 refine PySem.W.holds_open (r:=K23.yC) (q:=K23.kq) (loose:=K23.qf) (Xt:=fun s=>PySem.W.xlAt K23.kq [] s&&PySem.W.recOk (PySem.W.RowW.records K23.yC.toRowW) s) (XP:=PySem.W.XL K23.kq []) (Yf:=K23.kH.obs) (Ya:=K23.kH.val) (YP:=K23.kH.says) (N:=5602) K23.MY K23.kH.of K23.kH.keeps (fun s e=>PySem.W.xl_of s (R8.mp e).1) PySem.W.XL.keeps `r `r `r (fun s e=>PySem.W.recFacts_of (R8.mp e).2) `r (by first|assumption|decide +kernel) `k ⟨rfl,rfl,rfl,rfl,rfl,`k⟩ ?hw ?hc
 case hw=>w_witness2
 refine L2.FY (l:=PySem.Challenge.rw_leastdeeds_k23_which_lists_are_closed) (n:=63) (k:=84) (x:="script") (CX:=fun w=>LD.iX PySem.Challenge.rw_leastdeeds_k23_which_lists_are_closed.prog w) (K:=K23.kh) (sp:=fun w=>LD.EE (K23.kh w.params)) rfl `d rfl ⟨rfl,`d,`d,rfl⟩ (fun w h Y=>PySem.W.kIn_of Y) ?F (fun w H a ns hl hO hS=>⟨a,ns,rfl,hS,hO,hl,fun _=>rfl⟩) (fun _ _ _ _ _ z=>let⟨_,_,_,_,_,_,_,_,_,_,q⟩:=z;q)
 case F=>
  intro w mg fa h KX G hmg;have tk:LD.BR (K23.kh w.params) K23.tb:=⟨by kernel_rfl,by kernel_rfl,by kernel_rfl,by kernel_rfl⟩
  obtain⟨m,fd,F⟩:=LD.Gj tk KX G (e:=K23.tb[54]) (Sr _) rfl rfl;have d_NEW_WORDS:=LD.wU (x:="NEW_WORDS") (P:=w.params) (fa:=K23.fa) (fs:=LD.cU) (ad:=195) (es:=#[{hash:=PySem.PyData.keyHash w.params (PySem.Str.ofString "turn"),key:=PySem.Value.str (PySem.Str.ofString "turn") 466,val:=PySem.Value.ref 173},{hash:=PySem.PyData.keyHash w.params (PySem.Str.ofString "join"),key:=PySem.Value.str (PySem.Str.ofString "join") 467,val:=PySem.Value.ref 180},{hash:=PySem.PyData.keyHash w.params (PySem.Str.ofString "move"),key:=PySem.Value.str (PySem.Str.ofString "move") 468,val:=PySem.Value.ref 187},{hash:=PySem.PyData.keyHash w.params (PySem.Str.ofString "put"),key:=PySem.Value.str (PySem.Str.ofString "put") 469,val:=PySem.Value.ref 194}]) (n:=4) KX G (by kernel_rfl) (by kernel_rfl) (by exact LD.gL (LD.gL (LD.gL (LD.gL (LD.Bd))))) `k `d (by exact .cons ⟨rfl,rfl⟩ (.cons ⟨rfl,rfl⟩ (.cons ⟨rfl,rfl⟩ (.cons ⟨rfl,rfl⟩ (.nil)))))
  have d_SORTS:=LD.wU (x:="SORTS") (P:=w.params) (fa:=K23.fa) (fs:=LD.eP) (ad:=137) (es:=#[{hash:=PySem.PyData.keyHash w.params (PySem.Str.ofString "turn"),key:=PySem.Value.str (PySem.Str.ofString "turn") 370,val:=PySem.Value.ref 115},{hash:=PySem.PyData.keyHash w.params (PySem.Str.ofString "join"),key:=PySem.Value.str (PySem.Str.ofString "join") 371,val:=PySem.Value.ref 122},{hash:=PySem.PyData.keyHash w.params (PySem.Str.ofString "move"),key:=PySem.Value.str (PySem.Str.ofString "move") 372,val:=PySem.Value.ref 129},{hash:=PySem.PyData.keyHash w.params (PySem.Str.ofString "put"),key:=PySem.Value.str (PySem.Str.ofString "put") 373,val:=PySem.Value.ref 136}]) (n:=4) KX G (by kernel_rfl) (by kernel_rfl) (by exact LD.gL (LD.gL (LD.gL (LD.gL (LD.Bd))))) `k `d (by exact .cons ⟨rfl,rfl⟩ (.cons ⟨rfl,rfl⟩ (.cons ⟨rfl,rfl⟩ (.cons ⟨rfl,rfl⟩ (.nil)))))
  have TO:=fun base=>LD.Gi (base:=base) (P:=PySem.Challenge.rw_leastdeeds_k23_which_lists_are_closed.prog) (w:=w) (t:=K23.tbl) (fa:=K23.fa) KX G (by kernel_rfl) (LD.IF (by kernel_rfl)) (LD.Kg (by kernel_rfl)) (LD.DC (by kernel_rfl)) ⟨rfl,rfl⟩ ⟨d_NEW_WORDS,d_SORTS,trivial⟩ trivial
  have tw:LD.AllP (fun q=>LD.FI K23.fa (K23.kh w.params) mg q.1 q.2.1 q.2.2.1 q.2.2.2) K23.tbl.tw:=trivial
  have xf:LD.AllP (fun f=>LD.FG K23.fa (K23.kh w.params) f) K23.tbl.xf:=trivial
  have ms:∀q∈K23.tbl.ms,LD.qC K23.fa (K23.kh w.params) q.1 q.2.1 q.2.2:=LD.Kx (by kernel_rfl)
  have e:=hmg.symm.trans m;cases e;exact⟨fd,fun s v=>by
   obtain⟨oc,od,kV,doc,pm,an,cdv,ct,osl,rfl,lk,hcd⟩:=F.ex;exact .of_eq rfl,fun base _ _=>LD.KI (n:=39) (f:=180) (LD.Cu K23.tab tk KX G (TO base) tw.mem xf.mem ms (by kernel_rfl)) K23.Di rfl F (LD.ql (e:=K23.tb[54]) (QB.mp K23.tab.sc K23.tb[54] (Sr _))).1 rfl fun c n a b d s H E C hr=>LD.tV (e:=K23.tb[54]) K23.tab (TO base) tw.mem xf.mem ms (Sr _) c n a b d s H E C hr⟩
